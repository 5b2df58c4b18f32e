/- Part 13 of the walks and of the mathematics under them: CFturned MTO. -/
import Derived.Test.YtioacnhbiinjbaaGreatDoorA12
set_option maxHeartbeats 16000000
set_option maxRecDepth 100000
/- CFturned -/
namespace Go.Proofs.YtioacnhbiinjbaaGreatDoor
open Go.RowKit Cx
theorem closed_turned : Closed 19 :=
 closed_told (N := [(0, [0, 0, 1]), (0, [0, 1, 1]), (0, [0, 2, 1]), (3, [2, 0]), (3, [0, 0]), (4, [3, 3]), (4, [4, 4]), (2, [5, 6]), (6, [1, 7]), (4, [3, 8]), (4, [4, 8]), (2, [0, 9]), (2, [0, 10]), (0, [1, 2, 1]), (4, [1, 1]), (4, [0, 0]), (2, [14, 15]), (0, [0, 4, 1]), (4, [17, 0]), (4, [18, 13]), (3, [16, 19]), (5, [0]), (2, [6, 6]), (3, [22, 1]), (5, [23]), (5, [21]), (5, [24]), (5, [1]), (4, [21, 0]), (4, [25, 0]), (4, [28, 2]), (4, [29, 2]), (4, [27, 1]), (4, [21, 25]), (2, [32, 33]), (4, [27, 21]), (4, [25, 1]), (3, [35, 36]), (2, [0, 30]), (2, [0, 31]), (2, [38, 34]), (2, [39, 37]), (5, [25]), (5, [42]), (4, [40, 21]), (4, [41, 43]), (2, [44, 45]), (5, [41]), (4, [40, 42]), (4, [47, 21]), (3, [48, 49]), (4, [21, 1]), (4, [25, 42]), (2, [51, 52]), (4, [42, 1]), (3, [33, 54]), (4, [27, 13]), (4, [21, 13]), (4, [56, 2]), (4, [57, 2]), (2, [0, 53]), (2, [0, 55]), (2, [60, 58]), (2, [61, 59]), (4, [62, 27]), (4, [63, 42]), (2, [64, 65]), (5, [63]), (4, [62, 25]), (4, [67, 27]), (3, [68, 69]), (2, [46, 66]), (2, [50, 70]), (4, [26, 0]), (4, [73, 2]), (4, [0, 1]), (4, [0, 25]), (2, [75, 76]), (4, [0, 21]), (3, [78, 51]), (2, [0, 74]), (2, [80, 77]), (2, [38, 79]), (4, [81, 21]), (4, [82, 43]), (2, [83, 84]), (5, [82]), (4, [81, 42]), (4, [86, 21]), (3, [87, 88]), (4, [26, 1]), (4, [21, 42]), (2, [90, 91]), (4, [26, 25]), (3, [93, 36]), (4, [0, 13]), (4, [95, 2]), (2, [0, 92]), (2, [0, 94]), (2, [97, 96]), (2, [98, 96]), (4, [99, 27]), (4, [100, 42]), (2, [101, 102]), (5, [100]), (4, [99, 25]), (4, [104, 27]), (3, [105, 106]), (2, [85, 103]), (2, [89, 107]), (4, [108, 2]), (4, [109, 2]), (4, [81, 26]), (4, [82, 42]), (2, [112, 113]), (4, [81, 25]), (4, [86, 26]), (3, [115, 116]), (4, [99, 0]), (4, [100, 25]), (2, [118, 119]), (4, [99, 21]), (4, [104, 0]), (3, [121, 122]), (2, [114, 120]), (2, [117, 123]), (8, [0, 71, 110, 111, 124]), (8, [1, 71, 110, 111, 124]), (8, [2, 71, 110, 111, 124]), (8, [3, 71, 110, 111, 124]), (3, [1, 0]), (3, [0, 1]), (4, [130, 0]), (4, [131, 21]), (2, [132, 133]), (5, [131]), (4, [135, 0]), (3, [132, 136]), (5, [134]), (5, [137]), (4, [4, 27]), (2, [132, 140]), (5, [4]), (4, [130, 1]), (4, [142, 0]), (3, [143, 144]), (5, [141]), (5, [145]), (5, [138]), (5, [139]), (5, [130]), (4, [146, 130]), (4, [147, 135]), (2, [151, 152]), (5, [147]), (4, [146, 131]), (4, [154, 130]), (3, [155, 156]), (4, [148, 130]), (4, [149, 142]), (2, [158, 159]), (5, [149]), (4, [148, 4]), (4, [161, 130]), (3, [162, 163]), (2, [153, 160]), (2, [157, 164]), (4, [146, 138]), (4, [147, 149]), (2, [167, 168]), (4, [146, 139]), (4, [154, 138]), (3, [170, 171]), (4, [148, 146]), (4, [149, 154]), (2, [173, 174]), (4, [148, 147]), (4, [161, 146]), (3, [176, 177]), (2, [169, 175]), (2, [172, 178]), (4, [150, 130]), (4, [142, 135]), (2, [181, 182]), (5, [142]), (4, [150, 131]), (4, [184, 130]), (3, [185, 186]), (4, [130, 130]), (4, [131, 142]), (2, [188, 189]), (4, [130, 4]), (4, [135, 130]), (3, [191, 192]), (2, [183, 190]), (2, [187, 193]), (4, [150, 138]), (4, [142, 149]), (2, [196, 197]), (4, [150, 139]), (4, [184, 138]), (3, [199, 200]), (4, [130, 146]), (4, [131, 154]), (2, [202, 203]), (4, [130, 147]), (4, [135, 146]), (3, [205, 206]), (2, [198, 204]), (2, [201, 207]), (5, [166]), (5, [210]), (4, [165, 165]), (4, [166, 211]), (2, [212, 213]), (4, [165, 210]), (4, [210, 165]), (3, [215, 216]), (4, [166, 166]), (2, [212, 218]), (6, [214, 219]), (6, [217, 219]), (4, [179, 165]), (4, [180, 211]), (2, [222, 223]), (5, [180]), (4, [179, 210]), (4, [225, 165]), (3, [226, 227]), (6, [224, 219]), (6, [228, 219]), (4, [194, 165]), (4, [195, 211]), (2, [231, 232]), (5, [195]), (4, [194, 210]), (4, [234, 165]), (3, [235, 236]), (6, [233, 219]), (6, [237, 219]), (4, [208, 165]), (4, [209, 211]), (2, [240, 241]), (5, [209]), (4, [208, 210]), (4, [243, 165]), (3, [244, 245]), (6, [242, 219]), (6, [246, 219]), (0, [0, 1, 2]), (0, [1, 1, 1])]) (H := [(2, 1, 0, 1), (0, 3, 0, 0), (2, 20, 0, 1), (0, 130, 0, 0), (0, 4, 0, 1), (0, 131, 0, 0), (0, 165, 0, 0), (4, 11, 249, 1), (4, 12, 0, 1), (4, 126, 2, 1), (4, 127, 250, 1), (4, 128, 0, 1), (4, 129, 0, 1), (4, 220, 1, 1), (4, 221, 0, 1), (4, 229, 0, 1), (4, 230, 0, 1), (4, 238, 0, 1), (4, 239, 0, 1), (4, 247, 1, 1), (4, 248, 0, 1)]) (K := [(319, [.inr (3, 76, 0, 0, 0), .inr (3, 86, 0, 0, 0)]), (323, [.inr (3, 560, 0, 0, 0), .inr (3, 561, 0, 0, 0)]), (324, [.inr (3, 691, 0, 0, 0), .inr (3, 693, 0, 0, 0)])]) (L := [([48], 0), ([49], 1), ([50], 2), ([45, 50], 13), ([49, 47, 50], 249), ([45, 49], 250)]) (C := [([49, 47, 50], 249), ([48], 0), ([50], 2), ([45, 49], 250), ([49], 1)]) (Z := [2, 2, 3, 6, 5, 12, 10, 23, 25, 31, 30, 34, 33, 3, 4, 4, 9, 4, 6, 9, 19, 2, 21, 24, 24, 2, 24, 2, 4, 4, 7, 7, 4, 4, 9, 4, 4, 9, 10, 10, 20, 20, 2, 2, 22, 22, 45, 20, 22, 22, 45, 4, 4, 9, 4, 9, 5, 5, 8, 8, 12, 12, 21, 21, 23, 23, 47, 21, 23, 23, 47, 93, 93, 26, 29, 4, 4, 9, 4, 9, 32, 42, 20, 44, 22, 67, 20, 44, 22, 67, 26, 4, 31, 26, 31, 5, 8, 34, 34, 43, 43, 45, 45, 91, 43, 45, 45, 91, 159, 159, 162, 162, 66, 22, 89, 44, 44, 89, 45, 45, 91, 45, 45, 91, 181, 181, 906, 906, 906, 906, 5, 5, 7, 7, 15, 5, 7, 15, 15, 15, 7, 15, 5, 7, 7, 15, 15, 15, 15, 15, 5, 20, 20, 41, 15, 20, 20, 41, 20, 20, 41, 15, 20, 20, 41, 83, 83, 30, 30, 61, 30, 30, 61, 30, 30, 61, 30, 30, 61, 123, 123, 10, 10, 21, 5, 10, 10, 21, 10, 10, 21, 10, 10, 21, 43, 43, 20, 20, 41, 20, 20, 41, 20, 20, 41, 20, 20, 41, 83, 83, 83, 83, 166, 166, 333, 166, 166, 333, 166, 333, 666, 666, 206, 206, 413, 123, 206, 206, 413, 746, 746, 126, 126, 253, 43, 126, 126, 253, 586, 586, 166, 166, 333, 83, 166, 166, 333, 666, 666, 3, 2]) (cl := []) 8 (fun _ h => by cases h) (by kernel_rfl) (by kernel_rfl) (by kernel_rfl) (by kernel_rfl) (by kernel_rfl) (by kernel_rfl) (by kernel_rfl)
end Go.Proofs.YtioacnhbiinjbaaGreatDoor
/- MTO -/
namespace Go.Proofs.YtioacnhbiinjbaaGreatDoor
open Go.RowKit Cx
def turnOf_N : List Nd := [(1, [0]), (1, [1]), (1, [2]), (1, [3]), (1, [4]), (1, [5]), (0, [0, 1, 1]), (0, [1, 2, 1]), (4, [3, 7]), (4, [4, 7]), (0, [0, 0, 1]), (3, [10, 3]), (3, [10, 4]), (4, [11, 11]), (4, [12, 12]), (2, [13, 14]), (3, [15, 5]), (8, [0, 6, 8, 9, 16]), (8, [1, 6, 8, 9, 16]), (8, [2, 6, 8, 9, 16]), (8, [3, 6, 8, 9, 16]), (0, [0, 2, 1]), (0, [0, 3, 1]), (4, [10, 10]), (2, [23, 23]), (4, [17, 24]), (4, [18, 10]), (4, [19, 10]), (2, [25, 26]), (2, [28, 27]), (2, [29, 20]), (4, [17, 16]), (4, [6, 6]), (2, [32, 23]), (4, [17, 33]), (4, [18, 6]), (2, [34, 35]), (2, [36, 27]), (2, [37, 20]), (3, [6, 3]), (4, [39, 39]), (2, [40, 14]), (3, [41, 5]), (4, [17, 42]), (2, [23, 32]), (4, [17, 44]), (4, [19, 6]), (2, [45, 26]), (2, [47, 46]), (2, [48, 20]), (3, [6, 4]), (4, [50, 50]), (2, [13, 51]), (3, [52, 5]), (4, [17, 53]), (4, [21, 21]), (4, [22, 22]), (2, [55, 56]), (4, [17, 57]), (4, [18, 21]), (4, [19, 22]), (2, [58, 59]), (2, [61, 60]), (2, [62, 20]), (3, [21, 3]), (3, [22, 4]), (4, [64, 64]), (4, [65, 65]), (2, [66, 67]), (3, [68, 5]), (4, [17, 69]), (4, [18, 18]), (4, [19, 19]), (2, [71, 72]), (0, [0, 4, 1]), (4, [74, 17]), (4, [75, 20]), (3, [73, 76]), (8, [0, 10, 0, 1, 2]), (8, [1, 10, 0, 1, 2]), (8, [2, 10, 0, 1, 2]), (8, [3, 10, 0, 1, 2]), (4, [1, 79]), (4, [0, 80]), (4, [2, 79]), (4, [0, 81]), (4, [2, 80]), (4, [1, 81])]
def turnOf_L : List (List Nat × Nat) := []
def turnOf_C : List (List Nat × Nat) := []
def turnOf_Z : List Nat := [4194309, 4194309, 4194309, 4194309, 4194309, 4194309, 2, 3, 4194312, 4194312, 2, 4194312, 4194312, 8388624, 8388624, 16777249, 20971559, 104857796, 104857796, 104857796, 104857796, 3, 3, 4, 9, 104857805, 104857798, 104857798, 209715604, 314573403, 419431200, 125829355, 4, 9, 104857805, 104857798, 209715604, 314573403, 419431200, 4194312, 8388624, 16777249, 20971559, 125829355, 9, 104857805, 104857798, 209715604, 314573403, 419431200, 4194312, 8388624, 16777249, 20971559, 125829355, 6, 6, 13, 104857809, 104857799, 104857799, 209715609, 314573409, 419431206, 4194313, 4194313, 8388626, 8388626, 16777253, 20971563, 125829359, 209715592, 209715592, 419431185, 4, 104857800, 209715596, 629146782, 20971546, 20971546, 20971546, 20971546, 25165855, 25165855, 25165855, 25165855, 25165855, 25165855]
theorem turnOf_wf : wfB 0 turnOf_N = true := by kernel_rfl
theorem turnOf_sz : szB turnOf_Z turnOf_N turnOf_Z = true := by kernel_rfl
theorem turnOf_lt : litB turnOf_N turnOf_L = true := by kernel_rfl
theorem turnOf_cn : canB turnOf_N turnOf_C = true := by kernel_rfl
theorem turnOf_c6 : cst 0 1 1 = (1 : Rat) := by decide +kernel
theorem turnOf_c7 : cst 1 2 1 = ((-2) : Rat) := by decide +kernel
theorem turnOf_c10 : cst 0 0 1 = (0 : Rat) := by decide +kernel
theorem turnOf_c21 : cst 0 2 1 = (2 : Rat) := by decide +kernel
theorem turnOf_c22 : cst 0 3 1 = (3 : Rat) := by decide +kernel
theorem turnOf_c74 : cst 0 4 1 = (4 : Rat) := by decide +kernel
theorem turnOf_f0 {z0 z1 z3 z4 z5 z6 z7 z8 z9 z10 z11 z12 z13 z14 z15 z16 z17 z18 z19 z20 z23 z24 z25 z26 z27 z28 z29 z30 z31 : Rat} : z6 = 1 → z7 = (-2) → z8 = z3 * z7 → z9 = z4 * z7 → z10 = 0 → z11 = z10 - z3 → z12 = z10 - z4 → z13 = z11 * z11 → z14 = z12 * z12 → z15 = z13 + z14 → z16 = z15 - z5 → z17 = z6 * fac [z6, z8, z9, z16] → z18 = z8 * fac [z6, z8, z9, z16] → z19 = z9 * fac [z6, z8, z9, z16] → z20 = z16 * fac [z6, z8, z9, z16] → z23 = z10 * z10 → z24 = z23 + z23 → z25 = z17 * z24 → z26 = z18 * z10 → z27 = z19 * z10 → z28 = z25 + z26 → z29 = z28 + z27 → z30 = z29 + z20 → z31 = z17 * z16 → (z0 = 0) → (z1 = 0) → (0 < z5) → z30 = z31 := by
 intro e6 e7 e8 e9 e10 e11 e12 e13 e14 e15 e16 e17 e18 e19 e20 e23 e24 e25 e26 e27 e28 e29 e30 e31 u0 u1 u2
 have k0_6 : fac [z6, z8, z9, z16] = 0 → z6 = 0 := fac_zero (by simp)
 have k0_8 : fac [z6, z8, z9, z16] = 0 → z8 = 0 := fac_zero (by simp)
 have k0_9 : fac [z6, z8, z9, z16] = 0 → z9 = 0 := fac_zero (by simp)
 have k0_16 : fac [z6, z8, z9, z16] = 0 → z16 = 0 := fac_zero (by simp)
 generalize fac [z6, z8, z9, z16] = g0 at *
 subst_vars; grind
theorem turnOf_f1 {z0 z1 z3 z4 z5 z6 z7 z8 z9 z10 z11 z12 z13 z14 z15 z16 z17 z18 z19 z20 z23 z27 z32 z33 z34 z35 z36 z37 z38 z39 z40 z41 z42 z43 : Rat} : z6 = 1 → z7 = (-2) → z8 = z3 * z7 → z9 = z4 * z7 → z10 = 0 → z11 = z10 - z3 → z12 = z10 - z4 → z13 = z11 * z11 → z14 = z12 * z12 → z15 = z13 + z14 → z16 = z15 - z5 → z17 = z6 * fac [z6, z8, z9, z16] → z18 = z8 * fac [z6, z8, z9, z16] → z19 = z9 * fac [z6, z8, z9, z16] → z20 = z16 * fac [z6, z8, z9, z16] → z23 = z10 * z10 → z27 = z19 * z10 → z32 = z6 * z6 → z33 = z32 + z23 → z34 = z17 * z33 → z35 = z18 * z6 → z36 = z34 + z35 → z37 = z36 + z27 → z38 = z37 + z20 → z39 = z6 - z3 → z40 = z39 * z39 → z41 = z40 + z14 → z42 = z41 - z5 → z43 = z17 * z42 → (z0 = 0) → (z1 = 0) → (0 < z5) → z38 = z43 := by
 intro e6 e7 e8 e9 e10 e11 e12 e13 e14 e15 e16 e17 e18 e19 e20 e23 e27 e32 e33 e34 e35 e36 e37 e38 e39 e40 e41 e42 e43 u0 u1 u2
 have k0_6 : fac [z6, z8, z9, z16] = 0 → z6 = 0 := fac_zero (by simp)
 have k0_8 : fac [z6, z8, z9, z16] = 0 → z8 = 0 := fac_zero (by simp)
 have k0_9 : fac [z6, z8, z9, z16] = 0 → z9 = 0 := fac_zero (by simp)
 have k0_16 : fac [z6, z8, z9, z16] = 0 → z16 = 0 := fac_zero (by simp)
 generalize fac [z6, z8, z9, z16] = g0 at *
 subst_vars; grind
theorem turnOf_f2 {z0 z1 z3 z4 z5 z6 z7 z8 z9 z10 z11 z12 z13 z14 z15 z16 z17 z18 z19 z20 z23 z26 z32 z44 z45 z46 z47 z48 z49 z50 z51 z52 z53 z54 : Rat} : z6 = 1 → z7 = (-2) → z8 = z3 * z7 → z9 = z4 * z7 → z10 = 0 → z11 = z10 - z3 → z12 = z10 - z4 → z13 = z11 * z11 → z14 = z12 * z12 → z15 = z13 + z14 → z16 = z15 - z5 → z17 = z6 * fac [z6, z8, z9, z16] → z18 = z8 * fac [z6, z8, z9, z16] → z19 = z9 * fac [z6, z8, z9, z16] → z20 = z16 * fac [z6, z8, z9, z16] → z23 = z10 * z10 → z26 = z18 * z10 → z32 = z6 * z6 → z44 = z23 + z32 → z45 = z17 * z44 → z46 = z19 * z6 → z47 = z45 + z26 → z48 = z47 + z46 → z49 = z48 + z20 → z50 = z6 - z4 → z51 = z50 * z50 → z52 = z13 + z51 → z53 = z52 - z5 → z54 = z17 * z53 → (z0 = 0) → (z1 = 0) → (0 < z5) → z49 = z54 := by
 intro e6 e7 e8 e9 e10 e11 e12 e13 e14 e15 e16 e17 e18 e19 e20 e23 e26 e32 e44 e45 e46 e47 e48 e49 e50 e51 e52 e53 e54 u0 u1 u2
 have k0_6 : fac [z6, z8, z9, z16] = 0 → z6 = 0 := fac_zero (by simp)
 have k0_8 : fac [z6, z8, z9, z16] = 0 → z8 = 0 := fac_zero (by simp)
 have k0_9 : fac [z6, z8, z9, z16] = 0 → z9 = 0 := fac_zero (by simp)
 have k0_16 : fac [z6, z8, z9, z16] = 0 → z16 = 0 := fac_zero (by simp)
 generalize fac [z6, z8, z9, z16] = g0 at *
 subst_vars; grind
theorem turnOf_f3 {z0 z1 z3 z4 z5 z6 z7 z8 z9 z10 z11 z12 z13 z14 z15 z16 z17 z18 z19 z20 z21 z22 z55 z56 z57 z58 z59 z60 z61 z62 z63 z64 z65 z66 z67 z68 z69 z70 : Rat} : z6 = 1 → z7 = (-2) → z8 = z3 * z7 → z9 = z4 * z7 → z10 = 0 → z11 = z10 - z3 → z12 = z10 - z4 → z13 = z11 * z11 → z14 = z12 * z12 → z15 = z13 + z14 → z16 = z15 - z5 → z17 = z6 * fac [z6, z8, z9, z16] → z18 = z8 * fac [z6, z8, z9, z16] → z19 = z9 * fac [z6, z8, z9, z16] → z20 = z16 * fac [z6, z8, z9, z16] → z21 = 2 → z22 = 3 → z55 = z21 * z21 → z56 = z22 * z22 → z57 = z55 + z56 → z58 = z17 * z57 → z59 = z18 * z21 → z60 = z19 * z22 → z61 = z58 + z59 → z62 = z61 + z60 → z63 = z62 + z20 → z64 = z21 - z3 → z65 = z22 - z4 → z66 = z64 * z64 → z67 = z65 * z65 → z68 = z66 + z67 → z69 = z68 - z5 → z70 = z17 * z69 → (z0 = 0) → (z1 = 0) → (0 < z5) → z63 = z70 := by
 intro e6 e7 e8 e9 e10 e11 e12 e13 e14 e15 e16 e17 e18 e19 e20 e21 e22 e55 e56 e57 e58 e59 e60 e61 e62 e63 e64 e65 e66 e67 e68 e69 e70 u0 u1 u2
 have k0_6 : fac [z6, z8, z9, z16] = 0 → z6 = 0 := fac_zero (by simp)
 have k0_8 : fac [z6, z8, z9, z16] = 0 → z8 = 0 := fac_zero (by simp)
 have k0_9 : fac [z6, z8, z9, z16] = 0 → z9 = 0 := fac_zero (by simp)
 have k0_16 : fac [z6, z8, z9, z16] = 0 → z16 = 0 := fac_zero (by simp)
 generalize fac [z6, z8, z9, z16] = g0 at *
 subst_vars; grind
theorem turnOf_f4 {z0 z1 z3 z4 z5 z6 z7 z8 z9 z10 z11 z12 z13 z14 z15 z16 z17 : Rat} : z6 = 1 → z7 = (-2) → z8 = z3 * z7 → z9 = z4 * z7 → z10 = 0 → z11 = z10 - z3 → z12 = z10 - z4 → z13 = z11 * z11 → z14 = z12 * z12 → z15 = z13 + z14 → z16 = z15 - z5 → z17 = z6 * fac [z6, z8, z9, z16] → (z0 = 0) → (z1 = 0) → (0 < z5) → ¬ (z17 = 0) := by
 intro e6 e7 e8 e9 e10 e11 e12 e13 e14 e15 e16 e17 u0 u1 u2
 have k0_6 : fac [z6, z8, z9, z16] = 0 → z6 = 0 := fac_zero (by simp)
 have k0_8 : fac [z6, z8, z9, z16] = 0 → z8 = 0 := fac_zero (by simp)
 have k0_9 : fac [z6, z8, z9, z16] = 0 → z9 = 0 := fac_zero (by simp)
 have k0_16 : fac [z6, z8, z9, z16] = 0 → z16 = 0 := fac_zero (by simp)
 generalize fac [z6, z8, z9, z16] = g0 at *
 subst_vars; grind
theorem turnOf_f5 {z0 z1 z3 z4 z5 z6 z7 z8 z9 z10 z11 z12 z13 z14 z15 z16 z17 z18 z19 z20 z71 z72 z73 z74 z75 z76 z77 : Rat} : z6 = 1 → z7 = (-2) → z8 = z3 * z7 → z9 = z4 * z7 → z10 = 0 → z11 = z10 - z3 → z12 = z10 - z4 → z13 = z11 * z11 → z14 = z12 * z12 → z15 = z13 + z14 → z16 = z15 - z5 → z17 = z6 * fac [z6, z8, z9, z16] → z18 = z8 * fac [z6, z8, z9, z16] → z19 = z9 * fac [z6, z8, z9, z16] → z20 = z16 * fac [z6, z8, z9, z16] → z71 = z18 * z18 → z72 = z19 * z19 → z73 = z71 + z72 → z74 = 4 → z75 = z74 * z17 → z76 = z75 * z20 → z77 = z73 - z76 → (z0 = 0) → (z1 = 0) → (0 < z5) → 0 < z77 := by
 intro e6 e7 e8 e9 e10 e11 e12 e13 e14 e15 e16 e17 e18 e19 e20 e71 e72 e73 e74 e75 e76 e77 u0 u1 u2
 have k0_6 : fac [z6, z8, z9, z16] = 0 → z6 = 0 := fac_zero (by simp)
 have k0_8 : fac [z6, z8, z9, z16] = 0 → z8 = 0 := fac_zero (by simp)
 have k0_9 : fac [z6, z8, z9, z16] = 0 → z9 = 0 := fac_zero (by simp)
 have k0_16 : fac [z6, z8, z9, z16] = 0 → z16 = 0 := fac_zero (by simp)
 have l0_0 : z6 ≠ 0 → 0 < z6 * fac [z6, z8, z9, z16] := fac_lead0
 have l0_1 : z6 = 0 → z8 ≠ 0 → 0 < z8 * fac [z6, z8, z9, z16] := fac_lead1
 generalize fac [z6, z8, z9, z16] = g0 at *
 have p77 : z77 = 4 * z5 * (g0 * g0) := by subst_vars; grind
 have p5 : 0 < 4 * z5 * (g0 * g0) := Rat.mul_pos (by grind) (sq1_pos (by grind))
 clear e77
 subst_vars; grind
theorem turnOf_f6 {z0 z1 z5 z6 : Rat} : z6 = 1 → (z0 = 0) → (z1 = 0) → (0 < z5) → ¬ (z6 = 0) := by
 intro e6 u0 u1 u2
 subst_vars; grind
theorem turnOf_f7 {z0 z1 z2 z5 z10 z78 : Rat} : z10 = 0 → z78 = z10 * fac [z10, z0, z1, z2] → (z0 = 0) → (¬ (z1 = 0)) → (0 < z5) → z78 = 0 := by
 intro e10 e78 u0 u1 u2
 have k0_0 : fac [z10, z0, z1, z2] = 0 → z0 = 0 := fac_zero (by simp)
 have k0_1 : fac [z10, z0, z1, z2] = 0 → z1 = 0 := fac_zero (by simp)
 have k0_2 : fac [z10, z0, z1, z2] = 0 → z2 = 0 := fac_zero (by simp)
 have k0_10 : fac [z10, z0, z1, z2] = 0 → z10 = 0 := fac_zero (by simp)
 generalize fac [z10, z0, z1, z2] = g0 at *
 subst_vars; grind
theorem turnOf_f8 {z0 z1 z2 z5 z10 z79 : Rat} : z10 = 0 → z79 = z0 * fac [z10, z0, z1, z2] → (z0 = 0) → (¬ (z1 = 0)) → (0 < z5) → z79 = 0 := by
 intro e10 e79 u0 u1 u2
 have k0_0 : fac [z10, z0, z1, z2] = 0 → z0 = 0 := fac_zero (by simp)
 have k0_1 : fac [z10, z0, z1, z2] = 0 → z1 = 0 := fac_zero (by simp)
 have k0_2 : fac [z10, z0, z1, z2] = 0 → z2 = 0 := fac_zero (by simp)
 have k0_10 : fac [z10, z0, z1, z2] = 0 → z10 = 0 := fac_zero (by simp)
 generalize fac [z10, z0, z1, z2] = g0 at *
 subst_vars; grind
theorem turnOf_f9 {z0 z1 z2 z5 z10 z80 : Rat} : z10 = 0 → z80 = z1 * fac [z10, z0, z1, z2] → (z0 = 0) → (¬ (z1 = 0)) → (0 < z5) → ¬ (z80 = 0) := by
 intro e10 e80 u0 u1 u2
 have k0_0 : fac [z10, z0, z1, z2] = 0 → z0 = 0 := fac_zero (by simp)
 have k0_1 : fac [z10, z0, z1, z2] = 0 → z1 = 0 := fac_zero (by simp)
 have k0_2 : fac [z10, z0, z1, z2] = 0 → z2 = 0 := fac_zero (by simp)
 have k0_10 : fac [z10, z0, z1, z2] = 0 → z10 = 0 := fac_zero (by simp)
 generalize fac [z10, z0, z1, z2] = g0 at *
 subst_vars; grind
theorem turnOf_f10 {z0 z1 z2 z5 z10 z79 z80 z82 z83 : Rat} : z10 = 0 → z79 = z0 * fac [z10, z0, z1, z2] → z80 = z1 * fac [z10, z0, z1, z2] → z82 = z1 * z79 → z83 = z0 * z80 → (z0 = 0) → (¬ (z1 = 0)) → (0 < z5) → z82 = z83 := by
 intro e10 e79 e80 e82 e83 u0 u1 u2
 have k0_0 : fac [z10, z0, z1, z2] = 0 → z0 = 0 := fac_zero (by simp)
 have k0_1 : fac [z10, z0, z1, z2] = 0 → z1 = 0 := fac_zero (by simp)
 have k0_2 : fac [z10, z0, z1, z2] = 0 → z2 = 0 := fac_zero (by simp)
 have k0_10 : fac [z10, z0, z1, z2] = 0 → z10 = 0 := fac_zero (by simp)
 generalize fac [z10, z0, z1, z2] = g0 at *
 subst_vars; grind
theorem turnOf_f11 {z0 z1 z2 z5 z10 z79 z81 z84 z85 : Rat} : z10 = 0 → z79 = z0 * fac [z10, z0, z1, z2] → z81 = z2 * fac [z10, z0, z1, z2] → z84 = z2 * z79 → z85 = z0 * z81 → (z0 = 0) → (¬ (z1 = 0)) → (0 < z5) → z84 = z85 := by
 intro e10 e79 e81 e84 e85 u0 u1 u2
 have k0_0 : fac [z10, z0, z1, z2] = 0 → z0 = 0 := fac_zero (by simp)
 have k0_1 : fac [z10, z0, z1, z2] = 0 → z1 = 0 := fac_zero (by simp)
 have k0_2 : fac [z10, z0, z1, z2] = 0 → z2 = 0 := fac_zero (by simp)
 have k0_10 : fac [z10, z0, z1, z2] = 0 → z10 = 0 := fac_zero (by simp)
 generalize fac [z10, z0, z1, z2] = g0 at *
 subst_vars; grind
theorem turnOf_f12 {z0 z1 z2 z5 z10 z80 z81 z86 z87 : Rat} : z10 = 0 → z80 = z1 * fac [z10, z0, z1, z2] → z81 = z2 * fac [z10, z0, z1, z2] → z86 = z2 * z80 → z87 = z1 * z81 → (z0 = 0) → (¬ (z1 = 0)) → (0 < z5) → z86 = z87 := by
 intro e10 e80 e81 e86 e87 u0 u1 u2
 have k0_0 : fac [z10, z0, z1, z2] = 0 → z0 = 0 := fac_zero (by simp)
 have k0_1 : fac [z10, z0, z1, z2] = 0 → z1 = 0 := fac_zero (by simp)
 have k0_2 : fac [z10, z0, z1, z2] = 0 → z2 = 0 := fac_zero (by simp)
 have k0_10 : fac [z10, z0, z1, z2] = 0 → z10 = 0 := fac_zero (by simp)
 generalize fac [z10, z0, z1, z2] = g0 at *
 subst_vars; grind
theorem turnOf_f13 {z0 z1 z3 z4 z5 z6 z7 z8 z9 z10 z11 z12 z13 z14 z15 z16 z17 z18 z19 z20 z23 z24 z25 z26 z27 z28 z29 z30 z31 : Rat} : z6 = 1 → z7 = (-2) → z8 = z3 * z7 → z9 = z4 * z7 → z10 = 0 → z11 = z10 - z3 → z12 = z10 - z4 → z13 = z11 * z11 → z14 = z12 * z12 → z15 = z13 + z14 → z16 = z15 - z5 → z17 = z6 * fac [z6, z8, z9, z16] → z18 = z8 * fac [z6, z8, z9, z16] → z19 = z9 * fac [z6, z8, z9, z16] → z20 = z16 * fac [z6, z8, z9, z16] → z23 = z10 * z10 → z24 = z23 + z23 → z25 = z17 * z24 → z26 = z18 * z10 → z27 = z19 * z10 → z28 = z25 + z26 → z29 = z28 + z27 → z30 = z29 + z20 → z31 = z17 * z16 → (z0 = 0) → (¬ (z1 = 0)) → (0 < z5) → z30 = z31 := by
 intro e6 e7 e8 e9 e10 e11 e12 e13 e14 e15 e16 e17 e18 e19 e20 e23 e24 e25 e26 e27 e28 e29 e30 e31 u0 u1 u2
 have k0_6 : fac [z6, z8, z9, z16] = 0 → z6 = 0 := fac_zero (by simp)
 have k0_8 : fac [z6, z8, z9, z16] = 0 → z8 = 0 := fac_zero (by simp)
 have k0_9 : fac [z6, z8, z9, z16] = 0 → z9 = 0 := fac_zero (by simp)
 have k0_16 : fac [z6, z8, z9, z16] = 0 → z16 = 0 := fac_zero (by simp)
 generalize fac [z6, z8, z9, z16] = g0 at *
 subst_vars; grind
theorem turnOf_f14 {z0 z1 z3 z4 z5 z6 z7 z8 z9 z10 z11 z12 z13 z14 z15 z16 z17 z18 z19 z20 z23 z27 z32 z33 z34 z35 z36 z37 z38 z39 z40 z41 z42 z43 : Rat} : z6 = 1 → z7 = (-2) → z8 = z3 * z7 → z9 = z4 * z7 → z10 = 0 → z11 = z10 - z3 → z12 = z10 - z4 → z13 = z11 * z11 → z14 = z12 * z12 → z15 = z13 + z14 → z16 = z15 - z5 → z17 = z6 * fac [z6, z8, z9, z16] → z18 = z8 * fac [z6, z8, z9, z16] → z19 = z9 * fac [z6, z8, z9, z16] → z20 = z16 * fac [z6, z8, z9, z16] → z23 = z10 * z10 → z27 = z19 * z10 → z32 = z6 * z6 → z33 = z32 + z23 → z34 = z17 * z33 → z35 = z18 * z6 → z36 = z34 + z35 → z37 = z36 + z27 → z38 = z37 + z20 → z39 = z6 - z3 → z40 = z39 * z39 → z41 = z40 + z14 → z42 = z41 - z5 → z43 = z17 * z42 → (z0 = 0) → (¬ (z1 = 0)) → (0 < z5) → z38 = z43 := by
 intro e6 e7 e8 e9 e10 e11 e12 e13 e14 e15 e16 e17 e18 e19 e20 e23 e27 e32 e33 e34 e35 e36 e37 e38 e39 e40 e41 e42 e43 u0 u1 u2
 have k0_6 : fac [z6, z8, z9, z16] = 0 → z6 = 0 := fac_zero (by simp)
 have k0_8 : fac [z6, z8, z9, z16] = 0 → z8 = 0 := fac_zero (by simp)
 have k0_9 : fac [z6, z8, z9, z16] = 0 → z9 = 0 := fac_zero (by simp)
 have k0_16 : fac [z6, z8, z9, z16] = 0 → z16 = 0 := fac_zero (by simp)
 generalize fac [z6, z8, z9, z16] = g0 at *
 subst_vars; grind
theorem turnOf_f15 {z0 z1 z3 z4 z5 z6 z7 z8 z9 z10 z11 z12 z13 z14 z15 z16 z17 z18 z19 z20 z23 z26 z32 z44 z45 z46 z47 z48 z49 z50 z51 z52 z53 z54 : Rat} : z6 = 1 → z7 = (-2) → z8 = z3 * z7 → z9 = z4 * z7 → z10 = 0 → z11 = z10 - z3 → z12 = z10 - z4 → z13 = z11 * z11 → z14 = z12 * z12 → z15 = z13 + z14 → z16 = z15 - z5 → z17 = z6 * fac [z6, z8, z9, z16] → z18 = z8 * fac [z6, z8, z9, z16] → z19 = z9 * fac [z6, z8, z9, z16] → z20 = z16 * fac [z6, z8, z9, z16] → z23 = z10 * z10 → z26 = z18 * z10 → z32 = z6 * z6 → z44 = z23 + z32 → z45 = z17 * z44 → z46 = z19 * z6 → z47 = z45 + z26 → z48 = z47 + z46 → z49 = z48 + z20 → z50 = z6 - z4 → z51 = z50 * z50 → z52 = z13 + z51 → z53 = z52 - z5 → z54 = z17 * z53 → (z0 = 0) → (¬ (z1 = 0)) → (0 < z5) → z49 = z54 := by
 intro e6 e7 e8 e9 e10 e11 e12 e13 e14 e15 e16 e17 e18 e19 e20 e23 e26 e32 e44 e45 e46 e47 e48 e49 e50 e51 e52 e53 e54 u0 u1 u2
 have k0_6 : fac [z6, z8, z9, z16] = 0 → z6 = 0 := fac_zero (by simp)
 have k0_8 : fac [z6, z8, z9, z16] = 0 → z8 = 0 := fac_zero (by simp)
 have k0_9 : fac [z6, z8, z9, z16] = 0 → z9 = 0 := fac_zero (by simp)
 have k0_16 : fac [z6, z8, z9, z16] = 0 → z16 = 0 := fac_zero (by simp)
 generalize fac [z6, z8, z9, z16] = g0 at *
 subst_vars; grind
theorem turnOf_f16 {z0 z1 z3 z4 z5 z6 z7 z8 z9 z10 z11 z12 z13 z14 z15 z16 z17 z18 z19 z20 z21 z22 z55 z56 z57 z58 z59 z60 z61 z62 z63 z64 z65 z66 z67 z68 z69 z70 : Rat} : z6 = 1 → z7 = (-2) → z8 = z3 * z7 → z9 = z4 * z7 → z10 = 0 → z11 = z10 - z3 → z12 = z10 - z4 → z13 = z11 * z11 → z14 = z12 * z12 → z15 = z13 + z14 → z16 = z15 - z5 → z17 = z6 * fac [z6, z8, z9, z16] → z18 = z8 * fac [z6, z8, z9, z16] → z19 = z9 * fac [z6, z8, z9, z16] → z20 = z16 * fac [z6, z8, z9, z16] → z21 = 2 → z22 = 3 → z55 = z21 * z21 → z56 = z22 * z22 → z57 = z55 + z56 → z58 = z17 * z57 → z59 = z18 * z21 → z60 = z19 * z22 → z61 = z58 + z59 → z62 = z61 + z60 → z63 = z62 + z20 → z64 = z21 - z3 → z65 = z22 - z4 → z66 = z64 * z64 → z67 = z65 * z65 → z68 = z66 + z67 → z69 = z68 - z5 → z70 = z17 * z69 → (z0 = 0) → (¬ (z1 = 0)) → (0 < z5) → z63 = z70 := by
 intro e6 e7 e8 e9 e10 e11 e12 e13 e14 e15 e16 e17 e18 e19 e20 e21 e22 e55 e56 e57 e58 e59 e60 e61 e62 e63 e64 e65 e66 e67 e68 e69 e70 u0 u1 u2
 have k0_6 : fac [z6, z8, z9, z16] = 0 → z6 = 0 := fac_zero (by simp)
 have k0_8 : fac [z6, z8, z9, z16] = 0 → z8 = 0 := fac_zero (by simp)
 have k0_9 : fac [z6, z8, z9, z16] = 0 → z9 = 0 := fac_zero (by simp)
 have k0_16 : fac [z6, z8, z9, z16] = 0 → z16 = 0 := fac_zero (by simp)
 generalize fac [z6, z8, z9, z16] = g0 at *
 subst_vars; grind
theorem turnOf_f17 {z0 z1 z3 z4 z5 z6 z7 z8 z9 z10 z11 z12 z13 z14 z15 z16 z17 : Rat} : z6 = 1 → z7 = (-2) → z8 = z3 * z7 → z9 = z4 * z7 → z10 = 0 → z11 = z10 - z3 → z12 = z10 - z4 → z13 = z11 * z11 → z14 = z12 * z12 → z15 = z13 + z14 → z16 = z15 - z5 → z17 = z6 * fac [z6, z8, z9, z16] → (z0 = 0) → (¬ (z1 = 0)) → (0 < z5) → ¬ (z17 = 0) := by
 intro e6 e7 e8 e9 e10 e11 e12 e13 e14 e15 e16 e17 u0 u1 u2
 have k0_6 : fac [z6, z8, z9, z16] = 0 → z6 = 0 := fac_zero (by simp)
 have k0_8 : fac [z6, z8, z9, z16] = 0 → z8 = 0 := fac_zero (by simp)
 have k0_9 : fac [z6, z8, z9, z16] = 0 → z9 = 0 := fac_zero (by simp)
 have k0_16 : fac [z6, z8, z9, z16] = 0 → z16 = 0 := fac_zero (by simp)
 generalize fac [z6, z8, z9, z16] = g0 at *
 subst_vars; grind
theorem turnOf_f18 {z0 z1 z3 z4 z5 z6 z7 z8 z9 z10 z11 z12 z13 z14 z15 z16 z17 z18 z19 z20 z71 z72 z73 z74 z75 z76 z77 : Rat} : z6 = 1 → z7 = (-2) → z8 = z3 * z7 → z9 = z4 * z7 → z10 = 0 → z11 = z10 - z3 → z12 = z10 - z4 → z13 = z11 * z11 → z14 = z12 * z12 → z15 = z13 + z14 → z16 = z15 - z5 → z17 = z6 * fac [z6, z8, z9, z16] → z18 = z8 * fac [z6, z8, z9, z16] → z19 = z9 * fac [z6, z8, z9, z16] → z20 = z16 * fac [z6, z8, z9, z16] → z71 = z18 * z18 → z72 = z19 * z19 → z73 = z71 + z72 → z74 = 4 → z75 = z74 * z17 → z76 = z75 * z20 → z77 = z73 - z76 → (z0 = 0) → (¬ (z1 = 0)) → (0 < z5) → 0 < z77 := by
 intro e6 e7 e8 e9 e10 e11 e12 e13 e14 e15 e16 e17 e18 e19 e20 e71 e72 e73 e74 e75 e76 e77 u0 u1 u2
 have k0_6 : fac [z6, z8, z9, z16] = 0 → z6 = 0 := fac_zero (by simp)
 have k0_8 : fac [z6, z8, z9, z16] = 0 → z8 = 0 := fac_zero (by simp)
 have k0_9 : fac [z6, z8, z9, z16] = 0 → z9 = 0 := fac_zero (by simp)
 have k0_16 : fac [z6, z8, z9, z16] = 0 → z16 = 0 := fac_zero (by simp)
 have l0_0 : z6 ≠ 0 → 0 < z6 * fac [z6, z8, z9, z16] := fac_lead0
 have l0_1 : z6 = 0 → z8 ≠ 0 → 0 < z8 * fac [z6, z8, z9, z16] := fac_lead1
 generalize fac [z6, z8, z9, z16] = g0 at *
 have p77 : z77 = 4 * z5 * (g0 * g0) := by subst_vars; grind
 have p5 : 0 < 4 * z5 * (g0 * g0) := Rat.mul_pos (by grind) (sq1_pos (by grind))
 clear e77
 subst_vars; grind
theorem turnOf_f19 {z0 z1 z5 z6 : Rat} : z6 = 1 → (z0 = 0) → (¬ (z1 = 0)) → (0 < z5) → ¬ (z6 = 0) := by
 intro e6 u0 u1 u2
 subst_vars; grind
theorem turnOf_f20 {z0 z1 z2 z5 z10 z78 : Rat} : z10 = 0 → z78 = z10 * fac [z10, z0, z1, z2] → (z0 = 0) → (¬ (z1 = 0)) → (¬ (0 < z5)) → z78 = 0 := by
 intro e10 e78 u0 u1 u2
 have k0_0 : fac [z10, z0, z1, z2] = 0 → z0 = 0 := fac_zero (by simp)
 have k0_1 : fac [z10, z0, z1, z2] = 0 → z1 = 0 := fac_zero (by simp)
 have k0_2 : fac [z10, z0, z1, z2] = 0 → z2 = 0 := fac_zero (by simp)
 have k0_10 : fac [z10, z0, z1, z2] = 0 → z10 = 0 := fac_zero (by simp)
 generalize fac [z10, z0, z1, z2] = g0 at *
 subst_vars; grind
theorem turnOf_f21 {z0 z1 z2 z5 z10 z79 : Rat} : z10 = 0 → z79 = z0 * fac [z10, z0, z1, z2] → (z0 = 0) → (¬ (z1 = 0)) → (¬ (0 < z5)) → z79 = 0 := by
 intro e10 e79 u0 u1 u2
 have k0_0 : fac [z10, z0, z1, z2] = 0 → z0 = 0 := fac_zero (by simp)
 have k0_1 : fac [z10, z0, z1, z2] = 0 → z1 = 0 := fac_zero (by simp)
 have k0_2 : fac [z10, z0, z1, z2] = 0 → z2 = 0 := fac_zero (by simp)
 have k0_10 : fac [z10, z0, z1, z2] = 0 → z10 = 0 := fac_zero (by simp)
 generalize fac [z10, z0, z1, z2] = g0 at *
 subst_vars; grind
theorem turnOf_f22 {z0 z1 z2 z5 z10 z80 : Rat} : z10 = 0 → z80 = z1 * fac [z10, z0, z1, z2] → (z0 = 0) → (¬ (z1 = 0)) → (¬ (0 < z5)) → ¬ (z80 = 0) := by
 intro e10 e80 u0 u1 u2
 have k0_0 : fac [z10, z0, z1, z2] = 0 → z0 = 0 := fac_zero (by simp)
 have k0_1 : fac [z10, z0, z1, z2] = 0 → z1 = 0 := fac_zero (by simp)
 have k0_2 : fac [z10, z0, z1, z2] = 0 → z2 = 0 := fac_zero (by simp)
 have k0_10 : fac [z10, z0, z1, z2] = 0 → z10 = 0 := fac_zero (by simp)
 generalize fac [z10, z0, z1, z2] = g0 at *
 subst_vars; grind
theorem turnOf_f23 {z0 z1 z2 z5 z10 z79 z80 z82 z83 : Rat} : z10 = 0 → z79 = z0 * fac [z10, z0, z1, z2] → z80 = z1 * fac [z10, z0, z1, z2] → z82 = z1 * z79 → z83 = z0 * z80 → (z0 = 0) → (¬ (z1 = 0)) → (¬ (0 < z5)) → z82 = z83 := by
 intro e10 e79 e80 e82 e83 u0 u1 u2
 have k0_0 : fac [z10, z0, z1, z2] = 0 → z0 = 0 := fac_zero (by simp)
 have k0_1 : fac [z10, z0, z1, z2] = 0 → z1 = 0 := fac_zero (by simp)
 have k0_2 : fac [z10, z0, z1, z2] = 0 → z2 = 0 := fac_zero (by simp)
 have k0_10 : fac [z10, z0, z1, z2] = 0 → z10 = 0 := fac_zero (by simp)
 generalize fac [z10, z0, z1, z2] = g0 at *
 subst_vars; grind
theorem turnOf_f24 {z0 z1 z2 z5 z10 z79 z81 z84 z85 : Rat} : z10 = 0 → z79 = z0 * fac [z10, z0, z1, z2] → z81 = z2 * fac [z10, z0, z1, z2] → z84 = z2 * z79 → z85 = z0 * z81 → (z0 = 0) → (¬ (z1 = 0)) → (¬ (0 < z5)) → z84 = z85 := by
 intro e10 e79 e81 e84 e85 u0 u1 u2
 have k0_0 : fac [z10, z0, z1, z2] = 0 → z0 = 0 := fac_zero (by simp)
 have k0_1 : fac [z10, z0, z1, z2] = 0 → z1 = 0 := fac_zero (by simp)
 have k0_2 : fac [z10, z0, z1, z2] = 0 → z2 = 0 := fac_zero (by simp)
 have k0_10 : fac [z10, z0, z1, z2] = 0 → z10 = 0 := fac_zero (by simp)
 generalize fac [z10, z0, z1, z2] = g0 at *
 subst_vars; grind
theorem turnOf_f25 {z0 z1 z2 z5 z10 z80 z81 z86 z87 : Rat} : z10 = 0 → z80 = z1 * fac [z10, z0, z1, z2] → z81 = z2 * fac [z10, z0, z1, z2] → z86 = z2 * z80 → z87 = z1 * z81 → (z0 = 0) → (¬ (z1 = 0)) → (¬ (0 < z5)) → z86 = z87 := by
 intro e10 e80 e81 e86 e87 u0 u1 u2
 have k0_0 : fac [z10, z0, z1, z2] = 0 → z0 = 0 := fac_zero (by simp)
 have k0_1 : fac [z10, z0, z1, z2] = 0 → z1 = 0 := fac_zero (by simp)
 have k0_2 : fac [z10, z0, z1, z2] = 0 → z2 = 0 := fac_zero (by simp)
 have k0_10 : fac [z10, z0, z1, z2] = 0 → z10 = 0 := fac_zero (by simp)
 generalize fac [z10, z0, z1, z2] = g0 at *
 subst_vars; grind
theorem turnOf_f26 {z0 z1 z2 z5 z10 z78 : Rat} : z10 = 0 → z78 = z10 * fac [z10, z0, z1, z2] → (¬ (z0 = 0)) → (0 < z5) → z78 = 0 := by
 intro e10 e78 u0 u1
 have k0_0 : fac [z10, z0, z1, z2] = 0 → z0 = 0 := fac_zero (by simp)
 have k0_1 : fac [z10, z0, z1, z2] = 0 → z1 = 0 := fac_zero (by simp)
 have k0_2 : fac [z10, z0, z1, z2] = 0 → z2 = 0 := fac_zero (by simp)
 have k0_10 : fac [z10, z0, z1, z2] = 0 → z10 = 0 := fac_zero (by simp)
 generalize fac [z10, z0, z1, z2] = g0 at *
 subst_vars; grind
theorem turnOf_f27 {z0 z1 z2 z5 z10 z79 : Rat} : z10 = 0 → z79 = z0 * fac [z10, z0, z1, z2] → (¬ (z0 = 0)) → (0 < z5) → ¬ (z79 = 0) := by
 intro e10 e79 u0 u1
 have k0_0 : fac [z10, z0, z1, z2] = 0 → z0 = 0 := fac_zero (by simp)
 have k0_1 : fac [z10, z0, z1, z2] = 0 → z1 = 0 := fac_zero (by simp)
 have k0_2 : fac [z10, z0, z1, z2] = 0 → z2 = 0 := fac_zero (by simp)
 have k0_10 : fac [z10, z0, z1, z2] = 0 → z10 = 0 := fac_zero (by simp)
 generalize fac [z10, z0, z1, z2] = g0 at *
 subst_vars; grind
theorem turnOf_f28 {z0 z1 z2 z5 z10 z79 z80 z82 z83 : Rat} : z10 = 0 → z79 = z0 * fac [z10, z0, z1, z2] → z80 = z1 * fac [z10, z0, z1, z2] → z82 = z1 * z79 → z83 = z0 * z80 → (¬ (z0 = 0)) → (0 < z5) → z82 = z83 := by
 intro e10 e79 e80 e82 e83 u0 u1
 have k0_0 : fac [z10, z0, z1, z2] = 0 → z0 = 0 := fac_zero (by simp)
 have k0_1 : fac [z10, z0, z1, z2] = 0 → z1 = 0 := fac_zero (by simp)
 have k0_2 : fac [z10, z0, z1, z2] = 0 → z2 = 0 := fac_zero (by simp)
 have k0_10 : fac [z10, z0, z1, z2] = 0 → z10 = 0 := fac_zero (by simp)
 generalize fac [z10, z0, z1, z2] = g0 at *
 subst_vars; grind
theorem turnOf_f29 {z0 z1 z2 z5 z10 z79 z81 z84 z85 : Rat} : z10 = 0 → z79 = z0 * fac [z10, z0, z1, z2] → z81 = z2 * fac [z10, z0, z1, z2] → z84 = z2 * z79 → z85 = z0 * z81 → (¬ (z0 = 0)) → (0 < z5) → z84 = z85 := by
 intro e10 e79 e81 e84 e85 u0 u1
 have k0_0 : fac [z10, z0, z1, z2] = 0 → z0 = 0 := fac_zero (by simp)
 have k0_1 : fac [z10, z0, z1, z2] = 0 → z1 = 0 := fac_zero (by simp)
 have k0_2 : fac [z10, z0, z1, z2] = 0 → z2 = 0 := fac_zero (by simp)
 have k0_10 : fac [z10, z0, z1, z2] = 0 → z10 = 0 := fac_zero (by simp)
 generalize fac [z10, z0, z1, z2] = g0 at *
 subst_vars; grind
theorem turnOf_f30 {z0 z1 z2 z5 z10 z80 z81 z86 z87 : Rat} : z10 = 0 → z80 = z1 * fac [z10, z0, z1, z2] → z81 = z2 * fac [z10, z0, z1, z2] → z86 = z2 * z80 → z87 = z1 * z81 → (¬ (z0 = 0)) → (0 < z5) → z86 = z87 := by
 intro e10 e80 e81 e86 e87 u0 u1
 have k0_0 : fac [z10, z0, z1, z2] = 0 → z0 = 0 := fac_zero (by simp)
 have k0_1 : fac [z10, z0, z1, z2] = 0 → z1 = 0 := fac_zero (by simp)
 have k0_2 : fac [z10, z0, z1, z2] = 0 → z2 = 0 := fac_zero (by simp)
 have k0_10 : fac [z10, z0, z1, z2] = 0 → z10 = 0 := fac_zero (by simp)
 generalize fac [z10, z0, z1, z2] = g0 at *
 subst_vars; grind
theorem turnOf_f31 {z0 z3 z4 z5 z6 z7 z8 z9 z10 z11 z12 z13 z14 z15 z16 z17 z18 z19 z20 z23 z24 z25 z26 z27 z28 z29 z30 z31 : Rat} : z6 = 1 → z7 = (-2) → z8 = z3 * z7 → z9 = z4 * z7 → z10 = 0 → z11 = z10 - z3 → z12 = z10 - z4 → z13 = z11 * z11 → z14 = z12 * z12 → z15 = z13 + z14 → z16 = z15 - z5 → z17 = z6 * fac [z6, z8, z9, z16] → z18 = z8 * fac [z6, z8, z9, z16] → z19 = z9 * fac [z6, z8, z9, z16] → z20 = z16 * fac [z6, z8, z9, z16] → z23 = z10 * z10 → z24 = z23 + z23 → z25 = z17 * z24 → z26 = z18 * z10 → z27 = z19 * z10 → z28 = z25 + z26 → z29 = z28 + z27 → z30 = z29 + z20 → z31 = z17 * z16 → (¬ (z0 = 0)) → (0 < z5) → z30 = z31 := by
 intro e6 e7 e8 e9 e10 e11 e12 e13 e14 e15 e16 e17 e18 e19 e20 e23 e24 e25 e26 e27 e28 e29 e30 e31 u0 u1
 have k0_6 : fac [z6, z8, z9, z16] = 0 → z6 = 0 := fac_zero (by simp)
 have k0_8 : fac [z6, z8, z9, z16] = 0 → z8 = 0 := fac_zero (by simp)
 have k0_9 : fac [z6, z8, z9, z16] = 0 → z9 = 0 := fac_zero (by simp)
 have k0_16 : fac [z6, z8, z9, z16] = 0 → z16 = 0 := fac_zero (by simp)
 generalize fac [z6, z8, z9, z16] = g0 at *
 subst_vars; grind
theorem turnOf_f32 {z0 z3 z4 z5 z6 z7 z8 z9 z10 z11 z12 z13 z14 z15 z16 z17 z18 z19 z20 z23 z27 z32 z33 z34 z35 z36 z37 z38 z39 z40 z41 z42 z43 : Rat} : z6 = 1 → z7 = (-2) → z8 = z3 * z7 → z9 = z4 * z7 → z10 = 0 → z11 = z10 - z3 → z12 = z10 - z4 → z13 = z11 * z11 → z14 = z12 * z12 → z15 = z13 + z14 → z16 = z15 - z5 → z17 = z6 * fac [z6, z8, z9, z16] → z18 = z8 * fac [z6, z8, z9, z16] → z19 = z9 * fac [z6, z8, z9, z16] → z20 = z16 * fac [z6, z8, z9, z16] → z23 = z10 * z10 → z27 = z19 * z10 → z32 = z6 * z6 → z33 = z32 + z23 → z34 = z17 * z33 → z35 = z18 * z6 → z36 = z34 + z35 → z37 = z36 + z27 → z38 = z37 + z20 → z39 = z6 - z3 → z40 = z39 * z39 → z41 = z40 + z14 → z42 = z41 - z5 → z43 = z17 * z42 → (¬ (z0 = 0)) → (0 < z5) → z38 = z43 := by
 intro e6 e7 e8 e9 e10 e11 e12 e13 e14 e15 e16 e17 e18 e19 e20 e23 e27 e32 e33 e34 e35 e36 e37 e38 e39 e40 e41 e42 e43 u0 u1
 have k0_6 : fac [z6, z8, z9, z16] = 0 → z6 = 0 := fac_zero (by simp)
 have k0_8 : fac [z6, z8, z9, z16] = 0 → z8 = 0 := fac_zero (by simp)
 have k0_9 : fac [z6, z8, z9, z16] = 0 → z9 = 0 := fac_zero (by simp)
 have k0_16 : fac [z6, z8, z9, z16] = 0 → z16 = 0 := fac_zero (by simp)
 generalize fac [z6, z8, z9, z16] = g0 at *
 subst_vars; grind
theorem turnOf_f33 {z0 z3 z4 z5 z6 z7 z8 z9 z10 z11 z12 z13 z14 z15 z16 z17 z18 z19 z20 z23 z26 z32 z44 z45 z46 z47 z48 z49 z50 z51 z52 z53 z54 : Rat} : z6 = 1 → z7 = (-2) → z8 = z3 * z7 → z9 = z4 * z7 → z10 = 0 → z11 = z10 - z3 → z12 = z10 - z4 → z13 = z11 * z11 → z14 = z12 * z12 → z15 = z13 + z14 → z16 = z15 - z5 → z17 = z6 * fac [z6, z8, z9, z16] → z18 = z8 * fac [z6, z8, z9, z16] → z19 = z9 * fac [z6, z8, z9, z16] → z20 = z16 * fac [z6, z8, z9, z16] → z23 = z10 * z10 → z26 = z18 * z10 → z32 = z6 * z6 → z44 = z23 + z32 → z45 = z17 * z44 → z46 = z19 * z6 → z47 = z45 + z26 → z48 = z47 + z46 → z49 = z48 + z20 → z50 = z6 - z4 → z51 = z50 * z50 → z52 = z13 + z51 → z53 = z52 - z5 → z54 = z17 * z53 → (¬ (z0 = 0)) → (0 < z5) → z49 = z54 := by
 intro e6 e7 e8 e9 e10 e11 e12 e13 e14 e15 e16 e17 e18 e19 e20 e23 e26 e32 e44 e45 e46 e47 e48 e49 e50 e51 e52 e53 e54 u0 u1
 have k0_6 : fac [z6, z8, z9, z16] = 0 → z6 = 0 := fac_zero (by simp)
 have k0_8 : fac [z6, z8, z9, z16] = 0 → z8 = 0 := fac_zero (by simp)
 have k0_9 : fac [z6, z8, z9, z16] = 0 → z9 = 0 := fac_zero (by simp)
 have k0_16 : fac [z6, z8, z9, z16] = 0 → z16 = 0 := fac_zero (by simp)
 generalize fac [z6, z8, z9, z16] = g0 at *
 subst_vars; grind
theorem turnOf_f34 {z0 z3 z4 z5 z6 z7 z8 z9 z10 z11 z12 z13 z14 z15 z16 z17 z18 z19 z20 z21 z22 z55 z56 z57 z58 z59 z60 z61 z62 z63 z64 z65 z66 z67 z68 z69 z70 : Rat} : z6 = 1 → z7 = (-2) → z8 = z3 * z7 → z9 = z4 * z7 → z10 = 0 → z11 = z10 - z3 → z12 = z10 - z4 → z13 = z11 * z11 → z14 = z12 * z12 → z15 = z13 + z14 → z16 = z15 - z5 → z17 = z6 * fac [z6, z8, z9, z16] → z18 = z8 * fac [z6, z8, z9, z16] → z19 = z9 * fac [z6, z8, z9, z16] → z20 = z16 * fac [z6, z8, z9, z16] → z21 = 2 → z22 = 3 → z55 = z21 * z21 → z56 = z22 * z22 → z57 = z55 + z56 → z58 = z17 * z57 → z59 = z18 * z21 → z60 = z19 * z22 → z61 = z58 + z59 → z62 = z61 + z60 → z63 = z62 + z20 → z64 = z21 - z3 → z65 = z22 - z4 → z66 = z64 * z64 → z67 = z65 * z65 → z68 = z66 + z67 → z69 = z68 - z5 → z70 = z17 * z69 → (¬ (z0 = 0)) → (0 < z5) → z63 = z70 := by
 intro e6 e7 e8 e9 e10 e11 e12 e13 e14 e15 e16 e17 e18 e19 e20 e21 e22 e55 e56 e57 e58 e59 e60 e61 e62 e63 e64 e65 e66 e67 e68 e69 e70 u0 u1
 have k0_6 : fac [z6, z8, z9, z16] = 0 → z6 = 0 := fac_zero (by simp)
 have k0_8 : fac [z6, z8, z9, z16] = 0 → z8 = 0 := fac_zero (by simp)
 have k0_9 : fac [z6, z8, z9, z16] = 0 → z9 = 0 := fac_zero (by simp)
 have k0_16 : fac [z6, z8, z9, z16] = 0 → z16 = 0 := fac_zero (by simp)
 generalize fac [z6, z8, z9, z16] = g0 at *
 subst_vars; grind
theorem turnOf_f35 {z0 z3 z4 z5 z6 z7 z8 z9 z10 z11 z12 z13 z14 z15 z16 z17 : Rat} : z6 = 1 → z7 = (-2) → z8 = z3 * z7 → z9 = z4 * z7 → z10 = 0 → z11 = z10 - z3 → z12 = z10 - z4 → z13 = z11 * z11 → z14 = z12 * z12 → z15 = z13 + z14 → z16 = z15 - z5 → z17 = z6 * fac [z6, z8, z9, z16] → (¬ (z0 = 0)) → (0 < z5) → ¬ (z17 = 0) := by
 intro e6 e7 e8 e9 e10 e11 e12 e13 e14 e15 e16 e17 u0 u1
 have k0_6 : fac [z6, z8, z9, z16] = 0 → z6 = 0 := fac_zero (by simp)
 have k0_8 : fac [z6, z8, z9, z16] = 0 → z8 = 0 := fac_zero (by simp)
 have k0_9 : fac [z6, z8, z9, z16] = 0 → z9 = 0 := fac_zero (by simp)
 have k0_16 : fac [z6, z8, z9, z16] = 0 → z16 = 0 := fac_zero (by simp)
 generalize fac [z6, z8, z9, z16] = g0 at *
 subst_vars; grind
theorem turnOf_f36 {z0 z3 z4 z5 z6 z7 z8 z9 z10 z11 z12 z13 z14 z15 z16 z17 z18 z19 z20 z71 z72 z73 z74 z75 z76 z77 : Rat} : z6 = 1 → z7 = (-2) → z8 = z3 * z7 → z9 = z4 * z7 → z10 = 0 → z11 = z10 - z3 → z12 = z10 - z4 → z13 = z11 * z11 → z14 = z12 * z12 → z15 = z13 + z14 → z16 = z15 - z5 → z17 = z6 * fac [z6, z8, z9, z16] → z18 = z8 * fac [z6, z8, z9, z16] → z19 = z9 * fac [z6, z8, z9, z16] → z20 = z16 * fac [z6, z8, z9, z16] → z71 = z18 * z18 → z72 = z19 * z19 → z73 = z71 + z72 → z74 = 4 → z75 = z74 * z17 → z76 = z75 * z20 → z77 = z73 - z76 → (¬ (z0 = 0)) → (0 < z5) → 0 < z77 := by
 intro e6 e7 e8 e9 e10 e11 e12 e13 e14 e15 e16 e17 e18 e19 e20 e71 e72 e73 e74 e75 e76 e77 u0 u1
 have k0_6 : fac [z6, z8, z9, z16] = 0 → z6 = 0 := fac_zero (by simp)
 have k0_8 : fac [z6, z8, z9, z16] = 0 → z8 = 0 := fac_zero (by simp)
 have k0_9 : fac [z6, z8, z9, z16] = 0 → z9 = 0 := fac_zero (by simp)
 have k0_16 : fac [z6, z8, z9, z16] = 0 → z16 = 0 := fac_zero (by simp)
 have l0_0 : z6 ≠ 0 → 0 < z6 * fac [z6, z8, z9, z16] := fac_lead0
 have l0_1 : z6 = 0 → z8 ≠ 0 → 0 < z8 * fac [z6, z8, z9, z16] := fac_lead1
 generalize fac [z6, z8, z9, z16] = g0 at *
 have p77 : z77 = 4 * z5 * (g0 * g0) := by subst_vars; grind
 have p5 : 0 < 4 * z5 * (g0 * g0) := Rat.mul_pos (by grind) (sq1_pos (by grind))
 clear e77
 subst_vars; grind
theorem turnOf_f37 {z0 z5 z6 : Rat} : z6 = 1 → (¬ (z0 = 0)) → (0 < z5) → ¬ (z6 = 0) := by
 intro e6 u0 u1
 subst_vars; grind
theorem turnOf_f38 {z0 z1 z2 z5 z10 z78 : Rat} : z10 = 0 → z78 = z10 * fac [z10, z0, z1, z2] → (¬ (z0 = 0)) → (¬ (0 < z5)) → z78 = 0 := by
 intro e10 e78 u0 u1
 have k0_0 : fac [z10, z0, z1, z2] = 0 → z0 = 0 := fac_zero (by simp)
 have k0_1 : fac [z10, z0, z1, z2] = 0 → z1 = 0 := fac_zero (by simp)
 have k0_2 : fac [z10, z0, z1, z2] = 0 → z2 = 0 := fac_zero (by simp)
 have k0_10 : fac [z10, z0, z1, z2] = 0 → z10 = 0 := fac_zero (by simp)
 generalize fac [z10, z0, z1, z2] = g0 at *
 subst_vars; grind
theorem turnOf_f39 {z0 z1 z2 z5 z10 z79 : Rat} : z10 = 0 → z79 = z0 * fac [z10, z0, z1, z2] → (¬ (z0 = 0)) → (¬ (0 < z5)) → ¬ (z79 = 0) := by
 intro e10 e79 u0 u1
 have k0_0 : fac [z10, z0, z1, z2] = 0 → z0 = 0 := fac_zero (by simp)
 have k0_1 : fac [z10, z0, z1, z2] = 0 → z1 = 0 := fac_zero (by simp)
 have k0_2 : fac [z10, z0, z1, z2] = 0 → z2 = 0 := fac_zero (by simp)
 have k0_10 : fac [z10, z0, z1, z2] = 0 → z10 = 0 := fac_zero (by simp)
 generalize fac [z10, z0, z1, z2] = g0 at *
 subst_vars; grind
theorem turnOf_f40 {z0 z1 z2 z5 z10 z79 z80 z82 z83 : Rat} : z10 = 0 → z79 = z0 * fac [z10, z0, z1, z2] → z80 = z1 * fac [z10, z0, z1, z2] → z82 = z1 * z79 → z83 = z0 * z80 → (¬ (z0 = 0)) → (¬ (0 < z5)) → z82 = z83 := by
 intro e10 e79 e80 e82 e83 u0 u1
 have k0_0 : fac [z10, z0, z1, z2] = 0 → z0 = 0 := fac_zero (by simp)
 have k0_1 : fac [z10, z0, z1, z2] = 0 → z1 = 0 := fac_zero (by simp)
 have k0_2 : fac [z10, z0, z1, z2] = 0 → z2 = 0 := fac_zero (by simp)
 have k0_10 : fac [z10, z0, z1, z2] = 0 → z10 = 0 := fac_zero (by simp)
 generalize fac [z10, z0, z1, z2] = g0 at *
 subst_vars; grind
theorem turnOf_f41 {z0 z1 z2 z5 z10 z79 z81 z84 z85 : Rat} : z10 = 0 → z79 = z0 * fac [z10, z0, z1, z2] → z81 = z2 * fac [z10, z0, z1, z2] → z84 = z2 * z79 → z85 = z0 * z81 → (¬ (z0 = 0)) → (¬ (0 < z5)) → z84 = z85 := by
 intro e10 e79 e81 e84 e85 u0 u1
 have k0_0 : fac [z10, z0, z1, z2] = 0 → z0 = 0 := fac_zero (by simp)
 have k0_1 : fac [z10, z0, z1, z2] = 0 → z1 = 0 := fac_zero (by simp)
 have k0_2 : fac [z10, z0, z1, z2] = 0 → z2 = 0 := fac_zero (by simp)
 have k0_10 : fac [z10, z0, z1, z2] = 0 → z10 = 0 := fac_zero (by simp)
 generalize fac [z10, z0, z1, z2] = g0 at *
 subst_vars; grind
theorem turnOf_f42 {z0 z1 z2 z5 z10 z80 z81 z86 z87 : Rat} : z10 = 0 → z80 = z1 * fac [z10, z0, z1, z2] → z81 = z2 * fac [z10, z0, z1, z2] → z86 = z2 * z80 → z87 = z1 * z81 → (¬ (z0 = 0)) → (¬ (0 < z5)) → z86 = z87 := by
 intro e10 e80 e81 e86 e87 u0 u1
 have k0_0 : fac [z10, z0, z1, z2] = 0 → z0 = 0 := fac_zero (by simp)
 have k0_1 : fac [z10, z0, z1, z2] = 0 → z1 = 0 := fac_zero (by simp)
 have k0_2 : fac [z10, z0, z1, z2] = 0 → z2 = 0 := fac_zero (by simp)
 have k0_10 : fac [z10, z0, z1, z2] = 0 → z10 = 0 := fac_zero (by simp)
 generalize fac [z10, z0, z1, z2] = g0 at *
 subst_vars; grind
theorem turnOf_r0 : (callB (sx Tryz.prog turnOf_N [(0, 0, 0, 1), (0, 1, 0, 1), (2, 5, 0, 1), (3, 30, 31, 1), (3, 38, 43, 1), (3, 49, 54, 1), (3, 63, 70, 1), (0, 17, 0, 0), (2, 77, 0, 1), (0, 6, 0, 0)] [] turnOf_L turnOf_C turnOf_Z (prC [19])) 6 3 [(false, [(true, [.inr (2, 0, 0, 0, 0), .inr (2, 1, 0, 0, 0), .inr (2, 2, 0, 0, 0)])]), (false, [(true, [.inr (2, 3, 0, 0, 0), .inr (2, 4, 0, 0, 0), .inr (2, 5, 0, 0, 0)])])] [] 0).map (·.1) = some (kB true) := by kernel_rfl
theorem turnOf_r1 : (callB (sx Tryz.prog turnOf_N [(0, 0, 0, 1), (0, 1, 0, 1), (2, 5, 0, 0)] [] turnOf_L turnOf_C turnOf_Z (prC [19])) 5 3 [(false, [(true, [.inr (2, 0, 0, 0, 0), .inr (2, 1, 0, 0, 0), .inr (2, 2, 0, 0, 0)])]), (false, [(true, [.inr (2, 3, 0, 0, 0), .inr (2, 4, 0, 0, 0), .inr (2, 5, 0, 0, 0)])])] [] 0).map (·.1) = some (kB true) := by kernel_rfl
theorem turnOf_r2 : (callB (sx Tryz.prog turnOf_N [(0, 0, 0, 1), (0, 1, 0, 0), (2, 5, 0, 1), (0, 78, 0, 1), (0, 79, 0, 1), (0, 80, 0, 0), (3, 82, 83, 1), (3, 84, 85, 1), (3, 86, 87, 1), (3, 30, 31, 1), (3, 38, 43, 1), (3, 49, 54, 1), (3, 63, 70, 1), (0, 17, 0, 0), (2, 77, 0, 1), (0, 6, 0, 0)] [] turnOf_L turnOf_C turnOf_Z (prC [19])) 6 3 [(false, [(true, [.inr (2, 0, 0, 0, 0), .inr (2, 1, 0, 0, 0), .inr (2, 2, 0, 0, 0)])]), (false, [(true, [.inr (2, 3, 0, 0, 0), .inr (2, 4, 0, 0, 0), .inr (2, 5, 0, 0, 0)])])] [] 0).map (·.1) = some (kB true) := by kernel_rfl
theorem turnOf_r3 : (callB (sx Tryz.prog turnOf_N [(0, 0, 0, 1), (0, 1, 0, 0), (2, 5, 0, 0), (0, 78, 0, 1), (0, 79, 0, 1), (0, 80, 0, 0), (3, 82, 83, 1), (3, 84, 85, 1), (3, 86, 87, 1)] [] turnOf_L turnOf_C turnOf_Z (prC [19])) 5 3 [(false, [(true, [.inr (2, 0, 0, 0, 0), .inr (2, 1, 0, 0, 0), .inr (2, 2, 0, 0, 0)])]), (false, [(true, [.inr (2, 3, 0, 0, 0), .inr (2, 4, 0, 0, 0), .inr (2, 5, 0, 0, 0)])])] [] 0).map (·.1) = some (kB true) := by kernel_rfl
theorem turnOf_r4 : (callB (sx Tryz.prog turnOf_N [(0, 0, 0, 0), (2, 5, 0, 1), (0, 78, 0, 1), (0, 79, 0, 0), (3, 82, 83, 1), (3, 84, 85, 1), (3, 86, 87, 1), (3, 30, 31, 1), (3, 38, 43, 1), (3, 49, 54, 1), (3, 63, 70, 1), (0, 17, 0, 0), (2, 77, 0, 1), (0, 6, 0, 0)] [] turnOf_L turnOf_C turnOf_Z (prC [19])) 6 3 [(false, [(true, [.inr (2, 0, 0, 0, 0), .inr (2, 1, 0, 0, 0), .inr (2, 2, 0, 0, 0)])]), (false, [(true, [.inr (2, 3, 0, 0, 0), .inr (2, 4, 0, 0, 0), .inr (2, 5, 0, 0, 0)])])] [] 0).map (·.1) = some (kB true) := by kernel_rfl
theorem turnOf_r5 : (callB (sx Tryz.prog turnOf_N [(0, 0, 0, 0), (2, 5, 0, 0), (0, 78, 0, 1), (0, 79, 0, 0), (3, 82, 83, 1), (3, 84, 85, 1), (3, 86, 87, 1)] [] turnOf_L turnOf_C turnOf_Z (prC [19])) 5 3 [(false, [(true, [.inr (2, 0, 0, 0, 0), .inr (2, 1, 0, 0, 0), .inr (2, 2, 0, 0, 0)])]), (false, [(true, [.inr (2, 3, 0, 0, 0), .inr (2, 4, 0, 0, 0), .inr (2, 5, 0, 0, 0)])])] [] 0).map (·.1) = some (kB true) := by kernel_rfl
theorem turnOf_walk {w : World} {la lb lc cx cz cr : ByteArray} (sla : la.size ≤ 1048576) (slb : lb.size ≤ 1048576) (slc : lc.size ≤ 1048576) (scx : cx.size ≤ 1048576) (scz : cz.size ≤ 1048576) (scr : cr.size ≤ 1048576) (tab : Tab w) (mx : MaxL w) :
  Calls Tryz.prog 3 #[.agg #[.string la, .string lb, .string lc], .agg #[.string cx, .string cz, .string cr]] w fun e w' => Below w.heap.size w w' ∧ e = .returned (.bool true) := by
 have hσ : ∀ j, (sgOf [la, lb, lc, cx, cz, cr] j).size ≤ 1048576 := sgOf_size (by simp [sla, slb, slc, scx, scz, scr])
 have hcl : ∀ f ∈ ([19] : List FuncId), Closed f := by simp [closed_turned]
 obtain ⟨q, hq, h0⟩ := nodes_exist (sgOf [la, lb, lc, cx, cz, cr]) turnOf_N turnOf_wf
 have hA : ∀ K, A2 (avOn (cOn (evS q (sgOf [la, lb, lc, cx, cz, cr])) K (fun _ => none) w)) [(false, [(true, [.inr (2, 0, 0, 0, 0), .inr (2, 1, 0, 0, 0), .inr (2, 2, 0, 0, 0)])]), (false, [(true, [.inr (2, 3, 0, 0, 0), .inr (2, 4, 0, 0, 0), .inr (2, 5, 0, 0, 0)])])] [.agg #[.string la, .string lb, .string lc], .agg #[.string cx, .string cz, .string cr]] := fun K => ⟨⟨⟨[.string la, .string lb, .string lc], rfl, rfl, rfl, rfl, trivial⟩, trivial⟩, ⟨⟨[.string cx, .string cz, .string cr], rfl, rfl, rfl, rfl, trivial⟩, trivial⟩, trivial⟩
 have E6 : q 6 = 1 := (hq 6 _ rfl).trans turnOf_c6
 have E7 : q 7 = (-2) := (hq 7 _ rfl).trans turnOf_c7
 have E8 : q 8 = q 3 * q 7 := hq 8 _ rfl
 have E9 : q 9 = q 4 * q 7 := hq 9 _ rfl
 have E10 : q 10 = 0 := (hq 10 _ rfl).trans turnOf_c10
 have E11 : q 11 = q 10 - q 3 := hq 11 _ rfl
 have E12 : q 12 = q 10 - q 4 := hq 12 _ rfl
 have E13 : q 13 = q 11 * q 11 := hq 13 _ rfl
 have E14 : q 14 = q 12 * q 12 := hq 14 _ rfl
 have E15 : q 15 = q 13 + q 14 := hq 15 _ rfl
 have E16 : q 16 = q 15 - q 5 := hq 16 _ rfl
 have E17 : q 17 = q 6 * fac [q 6, q 8, q 9, q 16] := hq 17 _ rfl
 have E18 : q 18 = q 8 * fac [q 6, q 8, q 9, q 16] := hq 18 _ rfl
 have E19 : q 19 = q 9 * fac [q 6, q 8, q 9, q 16] := hq 19 _ rfl
 have E20 : q 20 = q 16 * fac [q 6, q 8, q 9, q 16] := hq 20 _ rfl
 have E21 : q 21 = 2 := (hq 21 _ rfl).trans turnOf_c21
 have E22 : q 22 = 3 := (hq 22 _ rfl).trans turnOf_c22
 have E23 : q 23 = q 10 * q 10 := hq 23 _ rfl
 have E24 : q 24 = q 23 + q 23 := hq 24 _ rfl
 have E25 : q 25 = q 17 * q 24 := hq 25 _ rfl
 have E26 : q 26 = q 18 * q 10 := hq 26 _ rfl
 have E27 : q 27 = q 19 * q 10 := hq 27 _ rfl
 have E28 : q 28 = q 25 + q 26 := hq 28 _ rfl
 have E29 : q 29 = q 28 + q 27 := hq 29 _ rfl
 have E30 : q 30 = q 29 + q 20 := hq 30 _ rfl
 have E31 : q 31 = q 17 * q 16 := hq 31 _ rfl
 have E32 : q 32 = q 6 * q 6 := hq 32 _ rfl
 have E33 : q 33 = q 32 + q 23 := hq 33 _ rfl
 have E34 : q 34 = q 17 * q 33 := hq 34 _ rfl
 have E35 : q 35 = q 18 * q 6 := hq 35 _ rfl
 have E36 : q 36 = q 34 + q 35 := hq 36 _ rfl
 have E37 : q 37 = q 36 + q 27 := hq 37 _ rfl
 have E38 : q 38 = q 37 + q 20 := hq 38 _ rfl
 have E39 : q 39 = q 6 - q 3 := hq 39 _ rfl
 have E40 : q 40 = q 39 * q 39 := hq 40 _ rfl
 have E41 : q 41 = q 40 + q 14 := hq 41 _ rfl
 have E42 : q 42 = q 41 - q 5 := hq 42 _ rfl
 have E43 : q 43 = q 17 * q 42 := hq 43 _ rfl
 have E44 : q 44 = q 23 + q 32 := hq 44 _ rfl
 have E45 : q 45 = q 17 * q 44 := hq 45 _ rfl
 have E46 : q 46 = q 19 * q 6 := hq 46 _ rfl
 have E47 : q 47 = q 45 + q 26 := hq 47 _ rfl
 have E48 : q 48 = q 47 + q 46 := hq 48 _ rfl
 have E49 : q 49 = q 48 + q 20 := hq 49 _ rfl
 have E50 : q 50 = q 6 - q 4 := hq 50 _ rfl
 have E51 : q 51 = q 50 * q 50 := hq 51 _ rfl
 have E52 : q 52 = q 13 + q 51 := hq 52 _ rfl
 have E53 : q 53 = q 52 - q 5 := hq 53 _ rfl
 have E54 : q 54 = q 17 * q 53 := hq 54 _ rfl
 have E55 : q 55 = q 21 * q 21 := hq 55 _ rfl
 have E56 : q 56 = q 22 * q 22 := hq 56 _ rfl
 have E57 : q 57 = q 55 + q 56 := hq 57 _ rfl
 have E58 : q 58 = q 17 * q 57 := hq 58 _ rfl
 have E59 : q 59 = q 18 * q 21 := hq 59 _ rfl
 have E60 : q 60 = q 19 * q 22 := hq 60 _ rfl
 have E61 : q 61 = q 58 + q 59 := hq 61 _ rfl
 have E62 : q 62 = q 61 + q 60 := hq 62 _ rfl
 have E63 : q 63 = q 62 + q 20 := hq 63 _ rfl
 have E64 : q 64 = q 21 - q 3 := hq 64 _ rfl
 have E65 : q 65 = q 22 - q 4 := hq 65 _ rfl
 have E66 : q 66 = q 64 * q 64 := hq 66 _ rfl
 have E67 : q 67 = q 65 * q 65 := hq 67 _ rfl
 have E68 : q 68 = q 66 + q 67 := hq 68 _ rfl
 have E69 : q 69 = q 68 - q 5 := hq 69 _ rfl
 have E70 : q 70 = q 17 * q 69 := hq 70 _ rfl
 have E71 : q 71 = q 18 * q 18 := hq 71 _ rfl
 have E72 : q 72 = q 19 * q 19 := hq 72 _ rfl
 have E73 : q 73 = q 71 + q 72 := hq 73 _ rfl
 have E74 : q 74 = 4 := (hq 74 _ rfl).trans turnOf_c74
 have E75 : q 75 = q 74 * q 17 := hq 75 _ rfl
 have E76 : q 76 = q 75 * q 20 := hq 76 _ rfl
 have E77 : q 77 = q 73 - q 76 := hq 77 _ rfl
 have E78 : q 78 = q 10 * fac [q 10, q 0, q 1, q 2] := hq 78 _ rfl
 have E79 : q 79 = q 0 * fac [q 10, q 0, q 1, q 2] := hq 79 _ rfl
 have E80 : q 80 = q 1 * fac [q 10, q 0, q 1, q 2] := hq 80 _ rfl
 have E81 : q 81 = q 2 * fac [q 10, q 0, q 1, q 2] := hq 81 _ rfl
 have E82 : q 82 = q 1 * q 79 := hq 82 _ rfl
 have E83 : q 83 = q 0 * q 80 := hq 83 _ rfl
 have E84 : q 84 = q 2 * q 79 := hq 84 _ rfl
 have E85 : q 85 = q 0 * q 81 := hq 85 _ rfl
 have E86 : q 86 = q 2 * q 80 := hq 86 _ rfl
 have E87 : q 87 = q 1 * q 81 := hq 87 _ rfl
 by_cases a_0_0_0 : q 0 = 0
 ·
  by_cases a_0_1_0 : q 1 = 0
  ·
   by_cases a_2_5_0 : 0 < q 5
   ·
    have a_3_30_31 : q 30 = q 31 := turnOf_f0 E6 E7 E8 E9 E10 E11 E12 E13 E14 E15 E16 E17 E18 E19 E20 E23 E24 E25 E26 E27 E28 E29 E30 E31 a_0_0_0 a_0_1_0 a_2_5_0
    have a_3_38_43 : q 38 = q 43 := turnOf_f1 E6 E7 E8 E9 E10 E11 E12 E13 E14 E15 E16 E17 E18 E19 E20 E23 E27 E32 E33 E34 E35 E36 E37 E38 E39 E40 E41 E42 E43 a_0_0_0 a_0_1_0 a_2_5_0
    have a_3_49_54 : q 49 = q 54 := turnOf_f2 E6 E7 E8 E9 E10 E11 E12 E13 E14 E15 E16 E17 E18 E19 E20 E23 E26 E32 E44 E45 E46 E47 E48 E49 E50 E51 E52 E53 E54 a_0_0_0 a_0_1_0 a_2_5_0
    have a_3_63_70 : q 63 = q 70 := turnOf_f3 E6 E7 E8 E9 E10 E11 E12 E13 E14 E15 E16 E17 E18 E19 E20 E21 E22 E55 E56 E57 E58 E59 E60 E61 E62 E63 E64 E65 E66 E67 E68 E69 E70 a_0_0_0 a_0_1_0 a_2_5_0
    have a_0_17_0 : ¬ (q 17 = 0) := turnOf_f4 E6 E7 E8 E9 E10 E11 E12 E13 E14 E15 E16 E17 a_0_0_0 a_0_1_0 a_2_5_0
    have a_2_77_0 : 0 < q 77 := turnOf_f5 E6 E7 E8 E9 E10 E11 E12 E13 E14 E15 E16 E17 E18 E19 E20 E71 E72 E73 E74 E75 E76 E77 a_0_0_0 a_0_1_0 a_2_5_0
    have a_0_6_0 : ¬ (q 6 = 0) := turnOf_f6 E6 a_0_0_0 a_0_1_0 a_2_5_0
    exact run_told' 6 (hy_of (H := [(0, 0, 0, 1), (0, 1, 0, 1), (2, 5, 0, 1), (3, 30, 31, 1), (3, 38, 43, 1), (3, 49, 54, 1), (3, 63, 70, 1), (0, 17, 0, 0), (2, 77, 0, 1), (0, 6, 0, 0)]) hσ turnOf_wf turnOf_sz turnOf_lt turnOf_cn hq h0 (And.intro (hT a_0_0_0) (And.intro (hT a_0_1_0) (And.intro (hT a_2_5_0) (And.intro (hT a_3_30_31) (And.intro (hT a_3_38_43) (And.intro (hT a_3_49_54) (And.intro (hT a_3_63_70) (And.intro (hF a_0_17_0) (And.intro (hT a_2_77_0) (And.intro (hF a_0_6_0) trivial))))))))))) hcl (by kernel_rfl) turnOf_r0 ⟨tab, mx⟩ (hA _)
   ·
    exact run_told' 5 (hy_of (H := [(0, 0, 0, 1), (0, 1, 0, 1), (2, 5, 0, 0)]) hσ turnOf_wf turnOf_sz turnOf_lt turnOf_cn hq h0 (And.intro (hT a_0_0_0) (And.intro (hT a_0_1_0) (And.intro (hF a_2_5_0) trivial)))) hcl (by kernel_rfl) turnOf_r1 ⟨tab, mx⟩ (hA _)
  ·
   by_cases a_2_5_0 : 0 < q 5
   ·
    have a_0_78_0 : q 78 = 0 := turnOf_f7 E10 E78 a_0_0_0 a_0_1_0 a_2_5_0
    have a_0_79_0 : q 79 = 0 := turnOf_f8 E10 E79 a_0_0_0 a_0_1_0 a_2_5_0
    have a_0_80_0 : ¬ (q 80 = 0) := turnOf_f9 E10 E80 a_0_0_0 a_0_1_0 a_2_5_0
    have a_3_82_83 : q 82 = q 83 := turnOf_f10 E10 E79 E80 E82 E83 a_0_0_0 a_0_1_0 a_2_5_0
    have a_3_84_85 : q 84 = q 85 := turnOf_f11 E10 E79 E81 E84 E85 a_0_0_0 a_0_1_0 a_2_5_0
    have a_3_86_87 : q 86 = q 87 := turnOf_f12 E10 E80 E81 E86 E87 a_0_0_0 a_0_1_0 a_2_5_0
    have a_3_30_31 : q 30 = q 31 := turnOf_f13 E6 E7 E8 E9 E10 E11 E12 E13 E14 E15 E16 E17 E18 E19 E20 E23 E24 E25 E26 E27 E28 E29 E30 E31 a_0_0_0 a_0_1_0 a_2_5_0
    have a_3_38_43 : q 38 = q 43 := turnOf_f14 E6 E7 E8 E9 E10 E11 E12 E13 E14 E15 E16 E17 E18 E19 E20 E23 E27 E32 E33 E34 E35 E36 E37 E38 E39 E40 E41 E42 E43 a_0_0_0 a_0_1_0 a_2_5_0
    have a_3_49_54 : q 49 = q 54 := turnOf_f15 E6 E7 E8 E9 E10 E11 E12 E13 E14 E15 E16 E17 E18 E19 E20 E23 E26 E32 E44 E45 E46 E47 E48 E49 E50 E51 E52 E53 E54 a_0_0_0 a_0_1_0 a_2_5_0
    have a_3_63_70 : q 63 = q 70 := turnOf_f16 E6 E7 E8 E9 E10 E11 E12 E13 E14 E15 E16 E17 E18 E19 E20 E21 E22 E55 E56 E57 E58 E59 E60 E61 E62 E63 E64 E65 E66 E67 E68 E69 E70 a_0_0_0 a_0_1_0 a_2_5_0
    have a_0_17_0 : ¬ (q 17 = 0) := turnOf_f17 E6 E7 E8 E9 E10 E11 E12 E13 E14 E15 E16 E17 a_0_0_0 a_0_1_0 a_2_5_0
    have a_2_77_0 : 0 < q 77 := turnOf_f18 E6 E7 E8 E9 E10 E11 E12 E13 E14 E15 E16 E17 E18 E19 E20 E71 E72 E73 E74 E75 E76 E77 a_0_0_0 a_0_1_0 a_2_5_0
    have a_0_6_0 : ¬ (q 6 = 0) := turnOf_f19 E6 a_0_0_0 a_0_1_0 a_2_5_0
    exact run_told' 6 (hy_of (H := [(0, 0, 0, 1), (0, 1, 0, 0), (2, 5, 0, 1), (0, 78, 0, 1), (0, 79, 0, 1), (0, 80, 0, 0), (3, 82, 83, 1), (3, 84, 85, 1), (3, 86, 87, 1), (3, 30, 31, 1), (3, 38, 43, 1), (3, 49, 54, 1), (3, 63, 70, 1), (0, 17, 0, 0), (2, 77, 0, 1), (0, 6, 0, 0)]) hσ turnOf_wf turnOf_sz turnOf_lt turnOf_cn hq h0 (And.intro (hT a_0_0_0) (And.intro (hF a_0_1_0) (And.intro (hT a_2_5_0) (And.intro (hT a_0_78_0) (And.intro (hT a_0_79_0) (And.intro (hF a_0_80_0) (And.intro (hT a_3_82_83) (And.intro (hT a_3_84_85) (And.intro (hT a_3_86_87) (And.intro (hT a_3_30_31) (And.intro (hT a_3_38_43) (And.intro (hT a_3_49_54) (And.intro (hT a_3_63_70) (And.intro (hF a_0_17_0) (And.intro (hT a_2_77_0) (And.intro (hF a_0_6_0) trivial))))))))))))))))) hcl (by kernel_rfl) turnOf_r2 ⟨tab, mx⟩ (hA _)
   ·
    have a_0_78_0 : q 78 = 0 := turnOf_f20 E10 E78 a_0_0_0 a_0_1_0 a_2_5_0
    have a_0_79_0 : q 79 = 0 := turnOf_f21 E10 E79 a_0_0_0 a_0_1_0 a_2_5_0
    have a_0_80_0 : ¬ (q 80 = 0) := turnOf_f22 E10 E80 a_0_0_0 a_0_1_0 a_2_5_0
    have a_3_82_83 : q 82 = q 83 := turnOf_f23 E10 E79 E80 E82 E83 a_0_0_0 a_0_1_0 a_2_5_0
    have a_3_84_85 : q 84 = q 85 := turnOf_f24 E10 E79 E81 E84 E85 a_0_0_0 a_0_1_0 a_2_5_0
    have a_3_86_87 : q 86 = q 87 := turnOf_f25 E10 E80 E81 E86 E87 a_0_0_0 a_0_1_0 a_2_5_0
    exact run_told' 5 (hy_of (H := [(0, 0, 0, 1), (0, 1, 0, 0), (2, 5, 0, 0), (0, 78, 0, 1), (0, 79, 0, 1), (0, 80, 0, 0), (3, 82, 83, 1), (3, 84, 85, 1), (3, 86, 87, 1)]) hσ turnOf_wf turnOf_sz turnOf_lt turnOf_cn hq h0 (And.intro (hT a_0_0_0) (And.intro (hF a_0_1_0) (And.intro (hF a_2_5_0) (And.intro (hT a_0_78_0) (And.intro (hT a_0_79_0) (And.intro (hF a_0_80_0) (And.intro (hT a_3_82_83) (And.intro (hT a_3_84_85) (And.intro (hT a_3_86_87) trivial)))))))))) hcl (by kernel_rfl) turnOf_r3 ⟨tab, mx⟩ (hA _)
 ·
  by_cases a_2_5_0 : 0 < q 5
  ·
   have a_0_78_0 : q 78 = 0 := turnOf_f26 E10 E78 a_0_0_0 a_2_5_0
   have a_0_79_0 : ¬ (q 79 = 0) := turnOf_f27 E10 E79 a_0_0_0 a_2_5_0
   have a_3_82_83 : q 82 = q 83 := turnOf_f28 E10 E79 E80 E82 E83 a_0_0_0 a_2_5_0
   have a_3_84_85 : q 84 = q 85 := turnOf_f29 E10 E79 E81 E84 E85 a_0_0_0 a_2_5_0
   have a_3_86_87 : q 86 = q 87 := turnOf_f30 E10 E80 E81 E86 E87 a_0_0_0 a_2_5_0
   have a_3_30_31 : q 30 = q 31 := turnOf_f31 E6 E7 E8 E9 E10 E11 E12 E13 E14 E15 E16 E17 E18 E19 E20 E23 E24 E25 E26 E27 E28 E29 E30 E31 a_0_0_0 a_2_5_0
   have a_3_38_43 : q 38 = q 43 := turnOf_f32 E6 E7 E8 E9 E10 E11 E12 E13 E14 E15 E16 E17 E18 E19 E20 E23 E27 E32 E33 E34 E35 E36 E37 E38 E39 E40 E41 E42 E43 a_0_0_0 a_2_5_0
   have a_3_49_54 : q 49 = q 54 := turnOf_f33 E6 E7 E8 E9 E10 E11 E12 E13 E14 E15 E16 E17 E18 E19 E20 E23 E26 E32 E44 E45 E46 E47 E48 E49 E50 E51 E52 E53 E54 a_0_0_0 a_2_5_0
   have a_3_63_70 : q 63 = q 70 := turnOf_f34 E6 E7 E8 E9 E10 E11 E12 E13 E14 E15 E16 E17 E18 E19 E20 E21 E22 E55 E56 E57 E58 E59 E60 E61 E62 E63 E64 E65 E66 E67 E68 E69 E70 a_0_0_0 a_2_5_0
   have a_0_17_0 : ¬ (q 17 = 0) := turnOf_f35 E6 E7 E8 E9 E10 E11 E12 E13 E14 E15 E16 E17 a_0_0_0 a_2_5_0
   have a_2_77_0 : 0 < q 77 := turnOf_f36 E6 E7 E8 E9 E10 E11 E12 E13 E14 E15 E16 E17 E18 E19 E20 E71 E72 E73 E74 E75 E76 E77 a_0_0_0 a_2_5_0
   have a_0_6_0 : ¬ (q 6 = 0) := turnOf_f37 E6 a_0_0_0 a_2_5_0
   exact run_told' 6 (hy_of (H := [(0, 0, 0, 0), (2, 5, 0, 1), (0, 78, 0, 1), (0, 79, 0, 0), (3, 82, 83, 1), (3, 84, 85, 1), (3, 86, 87, 1), (3, 30, 31, 1), (3, 38, 43, 1), (3, 49, 54, 1), (3, 63, 70, 1), (0, 17, 0, 0), (2, 77, 0, 1), (0, 6, 0, 0)]) hσ turnOf_wf turnOf_sz turnOf_lt turnOf_cn hq h0 (And.intro (hF a_0_0_0) (And.intro (hT a_2_5_0) (And.intro (hT a_0_78_0) (And.intro (hF a_0_79_0) (And.intro (hT a_3_82_83) (And.intro (hT a_3_84_85) (And.intro (hT a_3_86_87) (And.intro (hT a_3_30_31) (And.intro (hT a_3_38_43) (And.intro (hT a_3_49_54) (And.intro (hT a_3_63_70) (And.intro (hF a_0_17_0) (And.intro (hT a_2_77_0) (And.intro (hF a_0_6_0) trivial))))))))))))))) hcl (by kernel_rfl) turnOf_r4 ⟨tab, mx⟩ (hA _)
  ·
   have a_0_78_0 : q 78 = 0 := turnOf_f38 E10 E78 a_0_0_0 a_2_5_0
   have a_0_79_0 : ¬ (q 79 = 0) := turnOf_f39 E10 E79 a_0_0_0 a_2_5_0
   have a_3_82_83 : q 82 = q 83 := turnOf_f40 E10 E79 E80 E82 E83 a_0_0_0 a_2_5_0
   have a_3_84_85 : q 84 = q 85 := turnOf_f41 E10 E79 E81 E84 E85 a_0_0_0 a_2_5_0
   have a_3_86_87 : q 86 = q 87 := turnOf_f42 E10 E80 E81 E86 E87 a_0_0_0 a_2_5_0
   exact run_told' 5 (hy_of (H := [(0, 0, 0, 0), (2, 5, 0, 0), (0, 78, 0, 1), (0, 79, 0, 0), (3, 82, 83, 1), (3, 84, 85, 1), (3, 86, 87, 1)]) hσ turnOf_wf turnOf_sz turnOf_lt turnOf_cn hq h0 (And.intro (hF a_0_0_0) (And.intro (hF a_2_5_0) (And.intro (hT a_0_78_0) (And.intro (hF a_0_79_0) (And.intro (hT a_3_82_83) (And.intro (hT a_3_84_85) (And.intro (hT a_3_86_87) trivial)))))))) hcl (by kernel_rfl) turnOf_r5 ⟨tab, mx⟩ (hA _)
end Go.Proofs.YtioacnhbiinjbaaGreatDoor
