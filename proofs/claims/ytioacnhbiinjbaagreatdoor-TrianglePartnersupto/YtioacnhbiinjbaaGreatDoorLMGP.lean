/- Part 13 of the walks and of the mathematics under them: CFcornered MGP. -/
import Derived.Test.YtioacnhbiinjbaaGreatDoorA12
set_option maxHeartbeats 16000000
set_option maxRecDepth 100000
/- CFcornered -/
namespace Go.Proofs.YtioacnhbiinjbaaGreatDoor
open Go.RowKit Cx
theorem closed_cornered : Closed 106 :=
 closed_told (N := [(0, [0, 0, 1]), (0, [0, 4, 1]), (0, [0, 3, 1]), (3, [1, 0]), (3, [0, 0]), (3, [2, 0]), (4, [3, 5]), (4, [4, 4]), (3, [6, 7]), (3, [0, 1]), (4, [9, 9]), (4, [5, 5]), (2, [10, 11]), (3, [0, 2]), (4, [13, 13]), (2, [7, 14]), (4, [3, 3]), (2, [16, 7]), (5, [12]), (2, [15, 17]), (2, [19, 18]), (4, [12, 20]), (5, [15]), (2, [17, 12]), (2, [23, 22]), (4, [15, 24]), (5, [17]), (2, [12, 15]), (2, [27, 26]), (4, [17, 28]), (2, [21, 25]), (2, [30, 29]), (4, [0, 21]), (2, [0, 32]), (4, [1, 25]), (4, [0, 25]), (2, [33, 34]), (2, [33, 35]), (4, [0, 29]), (4, [2, 29]), (2, [36, 38]), (2, [37, 39]), (6, [40, 31]), (6, [41, 31]), (2, [12, 17]), (2, [44, 22]), (4, [28, 45]), (2, [15, 12]), (2, [47, 26]), (4, [20, 48]), (2, [17, 15]), (2, [50, 18]), (4, [24, 51]), (2, [46, 49]), (2, [53, 52]), (4, [0, 46]), (2, [0, 55]), (4, [1, 49]), (4, [0, 49]), (2, [56, 57]), (2, [56, 58]), (4, [0, 52]), (4, [2, 52]), (2, [59, 61]), (2, [60, 62]), (6, [63, 54]), (6, [64, 54]), (0, [0, 2, 1]), (0, [0, 3, 2]), (0, [0, 25, 1]), (0, [0, 9, 1]), (0, [0, 16, 1])]) (H := [(0, 8, 0, 0), (0, 31, 0, 0), (0, 54, 0, 0), (4, 42, 67, 1), (4, 43, 68, 1), (4, 65, 0, 1), (4, 66, 0, 1), (4, 12, 69, 1), (4, 15, 70, 1), (4, 17, 71, 1)]) (K := [(171, []), (365, []), (366, []), (305, []), (173, [])]) (L := [([48], 0), ([52], 1), ([51], 2), ([50], 67), ([51, 47, 50], 68), ([50, 53], 69), ([57], 70), ([49, 54], 71)]) (C := [([50], 67), ([51, 47, 50], 68), ([48], 0), ([50, 53], 69), ([57], 70), ([49, 54], 71)]) (Z := [2, 4, 3, 7, 5, 6, 13, 10, 24, 7, 14, 12, 27, 6, 12, 23, 14, 25, 27, 49, 77, 104, 23, 53, 77, 100, 25, 51, 77, 102, 205, 308, 106, 109, 104, 102, 214, 212, 104, 105, 319, 318, 627, 626, 53, 77, 154, 51, 77, 154, 49, 77, 154, 309, 464, 156, 159, 158, 156, 318, 316, 156, 157, 475, 474, 939, 938, 3, 3, 6, 5, 6]) (cl := []) 8 (fun _ h => by cases h) (by kernel_rfl) (by kernel_rfl) (by kernel_rfl) (by kernel_rfl) (by kernel_rfl) (by kernel_rfl) (by kernel_rfl)
end Go.Proofs.YtioacnhbiinjbaaGreatDoor
/- MGP -/
namespace Go.Proofs.YtioacnhbiinjbaaGreatDoor
open Go.RowKit Cx
def trianglePartners_N : List Nd := [(1, [0]), (1, [1]), (1, [2]), (1, [3]), (1, [4]), (1, [5]), (3, [2, 0]), (3, [3, 1]), (3, [4, 0]), (3, [5, 1]), (4, [6, 9]), (4, [7, 8]), (3, [10, 11]), (1, [6]), (1, [7]), (3, [2, 13]), (3, [3, 14]), (3, [4, 13]), (3, [5, 14]), (4, [15, 18]), (4, [16, 17]), (3, [19, 20]), (6, [21, 12]), (3, [0, 13]), (3, [1, 14]), (4, [17, 24]), (4, [18, 23]), (3, [25, 26]), (6, [27, 12]), (4, [23, 16]), (4, [24, 15]), (3, [29, 30]), (6, [31, 12]), (3, [4, 2]), (3, [5, 3]), (4, [33, 33]), (4, [34, 34]), (2, [35, 36]), (3, [0, 4]), (3, [1, 5]), (4, [38, 38]), (4, [39, 39]), (2, [40, 41]), (4, [6, 6]), (4, [7, 7]), (2, [43, 44]), (0, [0, 1, 1]), (3, [2, 4]), (3, [3, 5]), (4, [47, 47]), (4, [48, 48]), (2, [49, 50]), (4, [8, 8]), (4, [9, 9]), (2, [52, 53]), (3, [0, 2]), (3, [1, 3]), (4, [55, 55]), (4, [56, 56]), (2, [57, 58]), (3, [13, 0]), (3, [14, 1]), (4, [60, 9]), (4, [61, 8]), (3, [62, 63]), (6, [64, 12]), (4, [6, 61]), (4, [7, 60]), (3, [66, 67]), (6, [68, 12]), (6, [37, 22]), (6, [46, 22]), (6, [51, 22]), (6, [42, 28]), (6, [46, 28]), (6, [54, 65]), (6, [46, 65]), (6, [45, 32]), (2, [70, 73]), (2, [78, 77]), (6, [46, 32]), (2, [71, 74]), (2, [81, 80]), (6, [59, 69]), (2, [72, 75]), (2, [84, 83]), (6, [46, 69]), (2, [71, 76]), (2, [87, 86]), (4, [0, 71]), (4, [1, 71]), (0, [0, 0, 1]), (2, [91, 89]), (2, [91, 90]), (4, [2, 74]), (4, [3, 74]), (2, [92, 94]), (2, [93, 95]), (4, [4, 80]), (4, [5, 80]), (2, [96, 98]), (2, [97, 99]), (6, [100, 82]), (6, [101, 82]), (4, [2, 76]), (4, [3, 76]), (2, [89, 104]), (2, [90, 105]), (4, [4, 86]), (4, [5, 86]), (2, [106, 108]), (2, [107, 109]), (6, [46, 88]), (4, [110, 112]), (4, [111, 112]), (4, [0, 70]), (4, [1, 70]), (2, [91, 115]), (2, [91, 116]), (4, [2, 73]), (4, [3, 73]), (2, [117, 119]), (2, [118, 120]), (4, [4, 77]), (4, [5, 77]), (2, [121, 123]), (2, [122, 124]), (6, [125, 79]), (6, [126, 79]), (4, [0, 72]), (4, [1, 72]), (4, [2, 75]), (4, [3, 75]), (2, [129, 131]), (2, [130, 132]), (4, [4, 83]), (4, [5, 83]), (2, [133, 135]), (2, [134, 136]), (6, [46, 85]), (4, [137, 139]), (4, [138, 139])]
def trianglePartners_L : List (List Nat × Nat) := []
def trianglePartners_C : List (List Nat × Nat) := []
def trianglePartners_Z : List Nat := [4194309, 4194309, 4194309, 4194309, 4194309, 4194309, 8388619, 8388619, 8388619, 8388619, 16777238, 16777238, 33554477, 4194309, 4194309, 8388619, 8388619, 8388619, 8388619, 16777238, 16777238, 33554477, 67108954, 8388619, 8388619, 16777238, 16777238, 33554477, 67108954, 16777238, 16777238, 33554477, 67108954, 8388619, 8388619, 16777238, 16777238, 33554477, 8388619, 8388619, 16777238, 16777238, 33554477, 16777238, 16777238, 33554477, 2, 8388619, 8388619, 16777238, 16777238, 33554477, 16777238, 16777238, 33554477, 8388619, 8388619, 16777238, 16777238, 33554477, 8388619, 8388619, 16777238, 16777238, 33554477, 67108954, 16777238, 16777238, 33554477, 67108954, 100663431, 67108956, 100663431, 100663431, 67108956, 100663431, 67108956, 100663431, 201326863, 301990295, 67108956, 134217913, 201326870, 100663431, 201326863, 301990295, 67108956, 134217913, 201326870, 71303265, 71303265, 2, 71303268, 71303268, 71303265, 71303265, 142606534, 142606534, 71303265, 71303265, 213909800, 213909800, 415236670, 415236670, 71303265, 71303265, 142606531, 142606531, 71303265, 71303265, 213909797, 213909797, 201326872, 415236669, 415236669, 104857740, 104857740, 104857743, 104857743, 104857740, 104857740, 209715484, 209715484, 104857740, 104857740, 314573225, 314573225, 616563520, 616563520, 104857740, 104857740, 104857740, 104857740, 209715481, 209715481, 104857740, 104857740, 314573222, 314573222, 301990297, 616563519, 616563519]
theorem trianglePartners_wf : wfB 0 trianglePartners_N = true := by kernel_rfl
theorem trianglePartners_sz : szB trianglePartners_Z trianglePartners_N trianglePartners_Z = true := by kernel_rfl
theorem trianglePartners_lt : litB trianglePartners_N trianglePartners_L = true := by kernel_rfl
theorem trianglePartners_cn : canB trianglePartners_N trianglePartners_C = true := by kernel_rfl
theorem trianglePartners_c46 : cst 0 1 1 = (1 : Rat) := by decide +kernel
theorem trianglePartners_c91 : cst 0 0 1 = (0 : Rat) := by decide +kernel
theorem partners_b (ax az cx cz px pz : Rat) : (px - ax) * (cz - az) - (pz - az) * (cx - ax) = (cx - px) * (az - pz) - (cz - pz) * (ax - px) := by grind
theorem partners_c (ax az bx bz px pz : Rat) : (bx - ax) * (pz - az) - (bz - az) * (px - ax) = (ax - px) * (bz - pz) - (az - pz) * (bx - px) := by grind
theorem partners_s (ax az bx bz : Rat) : (ax - bx) * (ax - bx) + (az - bz) * (az - bz) = (bx - ax) * (bx - ax) + (bz - az) * (bz - az) := by grind
theorem partners_d (x y : Rat) : x / y = x * (1 / y) := by rw [Rat.div_def, Rat.div_def, Rat.one_mul]
theorem trianglePartners_f1 {z0 z1 z2 z3 z4 z5 z6 z7 z8 z9 z10 z11 z12 z13 z14 z15 z16 z17 z18 z19 z20 z21 z22 z23 z24 z25 z26 z27 z28 z60 z61 z62 z63 z64 z65 : Rat} : z6 = z2 - z0 → z7 = z3 - z1 → z8 = z4 - z0 → z9 = z5 - z1 → z10 = z6 * z9 → z11 = z7 * z8 → z12 = z10 - z11 → z15 = z2 - z13 → z16 = z3 - z14 → z17 = z4 - z13 → z18 = z5 - z14 → z19 = z15 * z18 → z20 = z16 * z17 → z21 = z19 - z20 → z22 = z21 / z12 → z23 = z0 - z13 → z24 = z1 - z14 → z25 = z17 * z24 → z26 = z18 * z23 → z27 = z25 - z26 → z28 = z27 / z12 → z60 = z13 - z0 → z61 = z14 - z1 → z62 = z60 * z9 → z63 = z61 * z8 → z64 = z62 - z63 → z65 = z64 / z12 → (¬ (z12 = 0)) → (¬ (z22 = 0)) → (z28 = 0) → z65 = 0 := by
 intro e6 e7 e8 e9 e10 e11 e12 e15 e16 e17 e18 e19 e20 e21 e22 e23 e24 e25 e26 e27 e28 e60 e61 e62 e63 e64 e65 u0 u1 u2
 have q64 : z64 = z27 := by rw [e64, e62, e63, e60, e61, e9, e8, e27, e25, e26, e17, e18, e23, e24]; exact partners_b _ _ _ _ _ _
 have q65 : z65 = z28 := by rw [e65, q64, e28]
 rw [q65]
 exact u2
theorem trianglePartners_f2 {z0 z1 z2 z3 z4 z5 z6 z7 z8 z9 z10 z11 z12 z13 z14 z15 z16 z17 z18 z19 z20 z21 z22 z23 z24 z25 z26 z27 z28 z29 z30 z31 z32 z60 z61 z62 z63 z64 z65 : Rat} : z6 = z2 - z0 → z7 = z3 - z1 → z8 = z4 - z0 → z9 = z5 - z1 → z10 = z6 * z9 → z11 = z7 * z8 → z12 = z10 - z11 → z15 = z2 - z13 → z16 = z3 - z14 → z17 = z4 - z13 → z18 = z5 - z14 → z19 = z15 * z18 → z20 = z16 * z17 → z21 = z19 - z20 → z22 = z21 / z12 → z23 = z0 - z13 → z24 = z1 - z14 → z25 = z17 * z24 → z26 = z18 * z23 → z27 = z25 - z26 → z28 = z27 / z12 → z29 = z23 * z16 → z30 = z24 * z15 → z31 = z29 - z30 → z32 = z31 / z12 → z60 = z13 - z0 → z61 = z14 - z1 → z62 = z60 * z9 → z63 = z61 * z8 → z64 = z62 - z63 → z65 = z64 / z12 → (¬ (z12 = 0)) → (¬ (z22 = 0)) → (¬ (z28 = 0)) → (z32 = 0) → ¬ (z65 = 0) := by
 intro e6 e7 e8 e9 e10 e11 e12 e15 e16 e17 e18 e19 e20 e21 e22 e23 e24 e25 e26 e27 e28 e29 e30 e31 e32 e60 e61 e62 e63 e64 e65 u0 u1 u2 u3
 have q64 : z64 = z27 := by rw [e64, e62, e63, e60, e61, e9, e8, e27, e25, e26, e17, e18, e23, e24]; exact partners_b _ _ _ _ _ _
 have q65 : z65 = z28 := by rw [e65, q64, e28]
 rw [q65]
 exact u2
theorem trianglePartners_f3 {z0 z1 z2 z3 z4 z5 z6 z7 z8 z9 z10 z11 z12 z13 z14 z15 z16 z17 z18 z19 z20 z21 z22 z23 z24 z25 z26 z27 z28 z29 z30 z31 z32 z60 z61 z66 z67 z68 z69 : Rat} : z6 = z2 - z0 → z7 = z3 - z1 → z8 = z4 - z0 → z9 = z5 - z1 → z10 = z6 * z9 → z11 = z7 * z8 → z12 = z10 - z11 → z15 = z2 - z13 → z16 = z3 - z14 → z17 = z4 - z13 → z18 = z5 - z14 → z19 = z15 * z18 → z20 = z16 * z17 → z21 = z19 - z20 → z22 = z21 / z12 → z23 = z0 - z13 → z24 = z1 - z14 → z25 = z17 * z24 → z26 = z18 * z23 → z27 = z25 - z26 → z28 = z27 / z12 → z29 = z23 * z16 → z30 = z24 * z15 → z31 = z29 - z30 → z32 = z31 / z12 → z60 = z13 - z0 → z61 = z14 - z1 → z66 = z6 * z61 → z67 = z7 * z60 → z68 = z66 - z67 → z69 = z68 / z12 → (¬ (z12 = 0)) → (¬ (z22 = 0)) → (¬ (z28 = 0)) → (z32 = 0) → z69 = 0 := by
 intro e6 e7 e8 e9 e10 e11 e12 e15 e16 e17 e18 e19 e20 e21 e22 e23 e24 e25 e26 e27 e28 e29 e30 e31 e32 e60 e61 e66 e67 e68 e69 u0 u1 u2 u3
 have q68 : z68 = z31 := by rw [e68, e66, e67, e60, e61, e6, e7, e31, e29, e30, e23, e24, e15, e16]; exact partners_c _ _ _ _ _ _
 have q69 : z69 = z32 := by rw [e69, q68, e32]
 rw [q69]
 exact u3
theorem trianglePartners_f4 {z0 z1 z2 z3 z4 z5 z6 z7 z8 z9 z10 z11 z12 z13 z14 z15 z16 z17 z18 z19 z20 z21 z22 z23 z24 z25 z26 z27 z28 z29 z30 z31 z32 z33 z34 z35 z36 z37 z38 z39 z40 z41 z42 z43 z44 z45 z46 z60 z61 z62 z63 z64 z65 z70 z71 z73 z74 z77 z78 z79 z80 z81 z82 : Rat} : z6 = z2 - z0 → z7 = z3 - z1 → z8 = z4 - z0 → z9 = z5 - z1 → z10 = z6 * z9 → z11 = z7 * z8 → z12 = z10 - z11 → z15 = z2 - z13 → z16 = z3 - z14 → z17 = z4 - z13 → z18 = z5 - z14 → z19 = z15 * z18 → z20 = z16 * z17 → z21 = z19 - z20 → z22 = z21 / z12 → z23 = z0 - z13 → z24 = z1 - z14 → z25 = z17 * z24 → z26 = z18 * z23 → z27 = z25 - z26 → z28 = z27 / z12 → z29 = z23 * z16 → z30 = z24 * z15 → z31 = z29 - z30 → z32 = z31 / z12 → z33 = z4 - z2 → z34 = z5 - z3 → z35 = z33 * z33 → z36 = z34 * z34 → z37 = z35 + z36 → z38 = z0 - z4 → z39 = z1 - z5 → z40 = z38 * z38 → z41 = z39 * z39 → z42 = z40 + z41 → z43 = z6 * z6 → z44 = z7 * z7 → z45 = z43 + z44 → z46 = 1 → z60 = z13 - z0 → z61 = z14 - z1 → z62 = z60 * z9 → z63 = z61 * z8 → z64 = z62 - z63 → z65 = z64 / z12 → z70 = z37 / z22 → z71 = z46 / z22 → z73 = z42 / z28 → z74 = z46 / z28 → z77 = z45 / z32 → z78 = z70 + z73 → z79 = z78 + z77 → z80 = z46 / z32 → z81 = z71 + z74 → z82 = z81 + z80 → (¬ (z12 = 0)) → (¬ (z22 = 0)) → (¬ (z28 = 0)) → (¬ (z32 = 0)) → (z79 = 0) → (z82 = 0) → ¬ (z65 = 0) := by
 intro e6 e7 e8 e9 e10 e11 e12 e15 e16 e17 e18 e19 e20 e21 e22 e23 e24 e25 e26 e27 e28 e29 e30 e31 e32 e33 e34 e35 e36 e37 e38 e39 e40 e41 e42 e43 e44 e45 e46 e60 e61 e62 e63 e64 e65 e70 e71 e73 e74 e77 e78 e79 e80 e81 e82 u0 u1 u2 u3 u4 u5
 have q64 : z64 = z27 := by rw [e64, e62, e63, e60, e61, e9, e8, e27, e25, e26, e17, e18, e23, e24]; exact partners_b _ _ _ _ _ _
 have q65 : z65 = z28 := by rw [e65, q64, e28]
 rw [q65]
 exact u2
theorem trianglePartners_f5 {z0 z1 z2 z3 z4 z5 z6 z7 z8 z9 z10 z11 z12 z13 z14 z15 z16 z17 z18 z19 z20 z21 z22 z23 z24 z25 z26 z27 z28 z29 z30 z31 z32 z33 z34 z35 z36 z37 z38 z39 z40 z41 z42 z43 z44 z45 z46 z60 z61 z66 z67 z68 z69 z70 z71 z73 z74 z77 z78 z79 z80 z81 z82 : Rat} : z6 = z2 - z0 → z7 = z3 - z1 → z8 = z4 - z0 → z9 = z5 - z1 → z10 = z6 * z9 → z11 = z7 * z8 → z12 = z10 - z11 → z15 = z2 - z13 → z16 = z3 - z14 → z17 = z4 - z13 → z18 = z5 - z14 → z19 = z15 * z18 → z20 = z16 * z17 → z21 = z19 - z20 → z22 = z21 / z12 → z23 = z0 - z13 → z24 = z1 - z14 → z25 = z17 * z24 → z26 = z18 * z23 → z27 = z25 - z26 → z28 = z27 / z12 → z29 = z23 * z16 → z30 = z24 * z15 → z31 = z29 - z30 → z32 = z31 / z12 → z33 = z4 - z2 → z34 = z5 - z3 → z35 = z33 * z33 → z36 = z34 * z34 → z37 = z35 + z36 → z38 = z0 - z4 → z39 = z1 - z5 → z40 = z38 * z38 → z41 = z39 * z39 → z42 = z40 + z41 → z43 = z6 * z6 → z44 = z7 * z7 → z45 = z43 + z44 → z46 = 1 → z60 = z13 - z0 → z61 = z14 - z1 → z66 = z6 * z61 → z67 = z7 * z60 → z68 = z66 - z67 → z69 = z68 / z12 → z70 = z37 / z22 → z71 = z46 / z22 → z73 = z42 / z28 → z74 = z46 / z28 → z77 = z45 / z32 → z78 = z70 + z73 → z79 = z78 + z77 → z80 = z46 / z32 → z81 = z71 + z74 → z82 = z81 + z80 → (¬ (z12 = 0)) → (¬ (z22 = 0)) → (¬ (z28 = 0)) → (¬ (z32 = 0)) → (z79 = 0) → (z82 = 0) → ¬ (z69 = 0) := by
 intro e6 e7 e8 e9 e10 e11 e12 e15 e16 e17 e18 e19 e20 e21 e22 e23 e24 e25 e26 e27 e28 e29 e30 e31 e32 e33 e34 e35 e36 e37 e38 e39 e40 e41 e42 e43 e44 e45 e46 e60 e61 e66 e67 e68 e69 e70 e71 e73 e74 e77 e78 e79 e80 e81 e82 u0 u1 u2 u3 u4 u5
 have q68 : z68 = z31 := by rw [e68, e66, e67, e60, e61, e6, e7, e31, e29, e30, e23, e24, e15, e16]; exact partners_c _ _ _ _ _ _
 have q69 : z69 = z32 := by rw [e69, q68, e32]
 rw [q69]
 exact u3
theorem trianglePartners_f6 {z0 z1 z2 z3 z4 z5 z6 z7 z8 z9 z10 z11 z12 z13 z14 z15 z16 z17 z18 z19 z20 z21 z22 z23 z24 z25 z26 z27 z28 z29 z30 z31 z32 z33 z34 z35 z36 z37 z38 z39 z40 z41 z42 z43 z44 z45 z46 z47 z48 z49 z50 z51 z52 z53 z54 z55 z56 z57 z58 z59 z60 z61 z62 z63 z64 z65 z66 z67 z68 z69 z70 z71 z72 z73 z74 z75 z77 z78 z79 z80 z81 z82 z83 z84 z85 : Rat} : z6 = z2 - z0 → z7 = z3 - z1 → z8 = z4 - z0 → z9 = z5 - z1 → z10 = z6 * z9 → z11 = z7 * z8 → z12 = z10 - z11 → z15 = z2 - z13 → z16 = z3 - z14 → z17 = z4 - z13 → z18 = z5 - z14 → z19 = z15 * z18 → z20 = z16 * z17 → z21 = z19 - z20 → z22 = z21 / z12 → z23 = z0 - z13 → z24 = z1 - z14 → z25 = z17 * z24 → z26 = z18 * z23 → z27 = z25 - z26 → z28 = z27 / z12 → z29 = z23 * z16 → z30 = z24 * z15 → z31 = z29 - z30 → z32 = z31 / z12 → z33 = z4 - z2 → z34 = z5 - z3 → z35 = z33 * z33 → z36 = z34 * z34 → z37 = z35 + z36 → z38 = z0 - z4 → z39 = z1 - z5 → z40 = z38 * z38 → z41 = z39 * z39 → z42 = z40 + z41 → z43 = z6 * z6 → z44 = z7 * z7 → z45 = z43 + z44 → z46 = 1 → z47 = z2 - z4 → z48 = z3 - z5 → z49 = z47 * z47 → z50 = z48 * z48 → z51 = z49 + z50 → z52 = z8 * z8 → z53 = z9 * z9 → z54 = z52 + z53 → z55 = z0 - z2 → z56 = z1 - z3 → z57 = z55 * z55 → z58 = z56 * z56 → z59 = z57 + z58 → z60 = z13 - z0 → z61 = z14 - z1 → z62 = z60 * z9 → z63 = z61 * z8 → z64 = z62 - z63 → z65 = z64 / z12 → z66 = z6 * z61 → z67 = z7 * z60 → z68 = z66 - z67 → z69 = z68 / z12 → z70 = z37 / z22 → z71 = z46 / z22 → z72 = z51 / z22 → z73 = z42 / z28 → z74 = z46 / z28 → z75 = z54 / z65 → z77 = z45 / z32 → z78 = z70 + z73 → z79 = z78 + z77 → z80 = z46 / z32 → z81 = z71 + z74 → z82 = z81 + z80 → z83 = z59 / z69 → z84 = z72 + z75 → z85 = z84 + z83 → (¬ (z12 = 0)) → (¬ (z22 = 0)) → (¬ (z28 = 0)) → (¬ (z32 = 0)) → (z79 = 0) → (z82 = 0) → z85 = 0 := by
 intro e6 e7 e8 e9 e10 e11 e12 e15 e16 e17 e18 e19 e20 e21 e22 e23 e24 e25 e26 e27 e28 e29 e30 e31 e32 e33 e34 e35 e36 e37 e38 e39 e40 e41 e42 e43 e44 e45 e46 e47 e48 e49 e50 e51 e52 e53 e54 e55 e56 e57 e58 e59 e60 e61 e62 e63 e64 e65 e66 e67 e68 e69 e70 e71 e72 e73 e74 e75 e77 e78 e79 e80 e81 e82 e83 e84 e85 u0 u1 u2 u3 u4 u5
 have q64 : z64 = z27 := by rw [e64, e62, e63, e60, e61, e9, e8, e27, e25, e26, e17, e18, e23, e24]; exact partners_b _ _ _ _ _ _
 have q65 : z65 = z28 := by rw [e65, q64, e28]
 have q68 : z68 = z31 := by rw [e68, e66, e67, e60, e61, e6, e7, e31, e29, e30, e23, e24, e15, e16]; exact partners_c _ _ _ _ _ _
 have q69 : z69 = z32 := by rw [e69, q68, e32]
 have q51 : z51 = z37 := by rw [e51, e49, e50, e47, e48, e37, e35, e36, e33, e34]; exact partners_s _ _ _ _
 have q54 : z54 = z42 := by rw [e54, e52, e53, e8, e9, e42, e40, e41, e38, e39]; exact partners_s _ _ _ _
 have q59 : z59 = z45 := by rw [e59, e57, e58, e55, e56, e45, e43, e44, e6, e7]; exact partners_s _ _ _ _
 have q72 : z72 = z70 := by rw [e72, q51, e70]
 have q75 : z75 = z73 := by rw [e75, q54, q65, e73]
 have q83 : z83 = z77 := by rw [e83, q59, q69, e77]
 have q85 : z85 = z79 := by rw [e85, e84, q72, q75, q83, e79, e78]
 rw [q85]
 exact u4
theorem trianglePartners_f7 {z0 z1 z2 z3 z4 z5 z6 z7 z8 z9 z10 z11 z12 z13 z14 z15 z16 z17 z18 z19 z20 z21 z22 z23 z24 z25 z26 z27 z28 z29 z30 z31 z32 z33 z34 z35 z36 z37 z38 z39 z40 z41 z42 z43 z44 z45 z46 z60 z61 z62 z63 z64 z65 z66 z67 z68 z69 z70 z71 z73 z74 z76 z77 z78 z79 z80 z81 z82 z86 z87 z88 : Rat} : z6 = z2 - z0 → z7 = z3 - z1 → z8 = z4 - z0 → z9 = z5 - z1 → z10 = z6 * z9 → z11 = z7 * z8 → z12 = z10 - z11 → z15 = z2 - z13 → z16 = z3 - z14 → z17 = z4 - z13 → z18 = z5 - z14 → z19 = z15 * z18 → z20 = z16 * z17 → z21 = z19 - z20 → z22 = z21 / z12 → z23 = z0 - z13 → z24 = z1 - z14 → z25 = z17 * z24 → z26 = z18 * z23 → z27 = z25 - z26 → z28 = z27 / z12 → z29 = z23 * z16 → z30 = z24 * z15 → z31 = z29 - z30 → z32 = z31 / z12 → z33 = z4 - z2 → z34 = z5 - z3 → z35 = z33 * z33 → z36 = z34 * z34 → z37 = z35 + z36 → z38 = z0 - z4 → z39 = z1 - z5 → z40 = z38 * z38 → z41 = z39 * z39 → z42 = z40 + z41 → z43 = z6 * z6 → z44 = z7 * z7 → z45 = z43 + z44 → z46 = 1 → z60 = z13 - z0 → z61 = z14 - z1 → z62 = z60 * z9 → z63 = z61 * z8 → z64 = z62 - z63 → z65 = z64 / z12 → z66 = z6 * z61 → z67 = z7 * z60 → z68 = z66 - z67 → z69 = z68 / z12 → z70 = z37 / z22 → z71 = z46 / z22 → z73 = z42 / z28 → z74 = z46 / z28 → z76 = z46 / z65 → z77 = z45 / z32 → z78 = z70 + z73 → z79 = z78 + z77 → z80 = z46 / z32 → z81 = z71 + z74 → z82 = z81 + z80 → z86 = z46 / z69 → z87 = z71 + z76 → z88 = z87 + z86 → (¬ (z12 = 0)) → (¬ (z22 = 0)) → (¬ (z28 = 0)) → (¬ (z32 = 0)) → (z79 = 0) → (z82 = 0) → z88 = 0 := by
 intro e6 e7 e8 e9 e10 e11 e12 e15 e16 e17 e18 e19 e20 e21 e22 e23 e24 e25 e26 e27 e28 e29 e30 e31 e32 e33 e34 e35 e36 e37 e38 e39 e40 e41 e42 e43 e44 e45 e46 e60 e61 e62 e63 e64 e65 e66 e67 e68 e69 e70 e71 e73 e74 e76 e77 e78 e79 e80 e81 e82 e86 e87 e88 u0 u1 u2 u3 u4 u5
 have q64 : z64 = z27 := by rw [e64, e62, e63, e60, e61, e9, e8, e27, e25, e26, e17, e18, e23, e24]; exact partners_b _ _ _ _ _ _
 have q65 : z65 = z28 := by rw [e65, q64, e28]
 have q68 : z68 = z31 := by rw [e68, e66, e67, e60, e61, e6, e7, e31, e29, e30, e23, e24, e15, e16]; exact partners_c _ _ _ _ _ _
 have q69 : z69 = z32 := by rw [e69, q68, e32]
 have q76 : z76 = z74 := by rw [e76, q65, e74]
 have q86 : z86 = z80 := by rw [e86, q69, e80]
 have q88 : z88 = z82 := by rw [e88, e87, q76, q86, e82, e81]
 rw [q88]
 exact u5
theorem trianglePartners_f8 {z0 z1 z2 z3 z4 z5 z6 z7 z8 z9 z10 z11 z12 z13 z14 z15 z16 z17 z18 z19 z20 z21 z22 z23 z24 z25 z26 z27 z28 z29 z30 z31 z32 z33 z34 z35 z36 z37 z38 z39 z40 z41 z42 z43 z44 z45 z46 z60 z61 z62 z63 z64 z65 z70 z71 z73 z74 z77 z78 z79 z80 z81 z82 : Rat} : z6 = z2 - z0 → z7 = z3 - z1 → z8 = z4 - z0 → z9 = z5 - z1 → z10 = z6 * z9 → z11 = z7 * z8 → z12 = z10 - z11 → z15 = z2 - z13 → z16 = z3 - z14 → z17 = z4 - z13 → z18 = z5 - z14 → z19 = z15 * z18 → z20 = z16 * z17 → z21 = z19 - z20 → z22 = z21 / z12 → z23 = z0 - z13 → z24 = z1 - z14 → z25 = z17 * z24 → z26 = z18 * z23 → z27 = z25 - z26 → z28 = z27 / z12 → z29 = z23 * z16 → z30 = z24 * z15 → z31 = z29 - z30 → z32 = z31 / z12 → z33 = z4 - z2 → z34 = z5 - z3 → z35 = z33 * z33 → z36 = z34 * z34 → z37 = z35 + z36 → z38 = z0 - z4 → z39 = z1 - z5 → z40 = z38 * z38 → z41 = z39 * z39 → z42 = z40 + z41 → z43 = z6 * z6 → z44 = z7 * z7 → z45 = z43 + z44 → z46 = 1 → z60 = z13 - z0 → z61 = z14 - z1 → z62 = z60 * z9 → z63 = z61 * z8 → z64 = z62 - z63 → z65 = z64 / z12 → z70 = z37 / z22 → z71 = z46 / z22 → z73 = z42 / z28 → z74 = z46 / z28 → z77 = z45 / z32 → z78 = z70 + z73 → z79 = z78 + z77 → z80 = z46 / z32 → z81 = z71 + z74 → z82 = z81 + z80 → (¬ (z12 = 0)) → (¬ (z22 = 0)) → (¬ (z28 = 0)) → (¬ (z32 = 0)) → (z79 = 0) → (¬ (z82 = 0)) → ¬ (z65 = 0) := by
 intro e6 e7 e8 e9 e10 e11 e12 e15 e16 e17 e18 e19 e20 e21 e22 e23 e24 e25 e26 e27 e28 e29 e30 e31 e32 e33 e34 e35 e36 e37 e38 e39 e40 e41 e42 e43 e44 e45 e46 e60 e61 e62 e63 e64 e65 e70 e71 e73 e74 e77 e78 e79 e80 e81 e82 u0 u1 u2 u3 u4 u5
 have q64 : z64 = z27 := by rw [e64, e62, e63, e60, e61, e9, e8, e27, e25, e26, e17, e18, e23, e24]; exact partners_b _ _ _ _ _ _
 have q65 : z65 = z28 := by rw [e65, q64, e28]
 rw [q65]
 exact u2
theorem trianglePartners_f9 {z0 z1 z2 z3 z4 z5 z6 z7 z8 z9 z10 z11 z12 z13 z14 z15 z16 z17 z18 z19 z20 z21 z22 z23 z24 z25 z26 z27 z28 z29 z30 z31 z32 z33 z34 z35 z36 z37 z38 z39 z40 z41 z42 z43 z44 z45 z46 z60 z61 z66 z67 z68 z69 z70 z71 z73 z74 z77 z78 z79 z80 z81 z82 : Rat} : z6 = z2 - z0 → z7 = z3 - z1 → z8 = z4 - z0 → z9 = z5 - z1 → z10 = z6 * z9 → z11 = z7 * z8 → z12 = z10 - z11 → z15 = z2 - z13 → z16 = z3 - z14 → z17 = z4 - z13 → z18 = z5 - z14 → z19 = z15 * z18 → z20 = z16 * z17 → z21 = z19 - z20 → z22 = z21 / z12 → z23 = z0 - z13 → z24 = z1 - z14 → z25 = z17 * z24 → z26 = z18 * z23 → z27 = z25 - z26 → z28 = z27 / z12 → z29 = z23 * z16 → z30 = z24 * z15 → z31 = z29 - z30 → z32 = z31 / z12 → z33 = z4 - z2 → z34 = z5 - z3 → z35 = z33 * z33 → z36 = z34 * z34 → z37 = z35 + z36 → z38 = z0 - z4 → z39 = z1 - z5 → z40 = z38 * z38 → z41 = z39 * z39 → z42 = z40 + z41 → z43 = z6 * z6 → z44 = z7 * z7 → z45 = z43 + z44 → z46 = 1 → z60 = z13 - z0 → z61 = z14 - z1 → z66 = z6 * z61 → z67 = z7 * z60 → z68 = z66 - z67 → z69 = z68 / z12 → z70 = z37 / z22 → z71 = z46 / z22 → z73 = z42 / z28 → z74 = z46 / z28 → z77 = z45 / z32 → z78 = z70 + z73 → z79 = z78 + z77 → z80 = z46 / z32 → z81 = z71 + z74 → z82 = z81 + z80 → (¬ (z12 = 0)) → (¬ (z22 = 0)) → (¬ (z28 = 0)) → (¬ (z32 = 0)) → (z79 = 0) → (¬ (z82 = 0)) → ¬ (z69 = 0) := by
 intro e6 e7 e8 e9 e10 e11 e12 e15 e16 e17 e18 e19 e20 e21 e22 e23 e24 e25 e26 e27 e28 e29 e30 e31 e32 e33 e34 e35 e36 e37 e38 e39 e40 e41 e42 e43 e44 e45 e46 e60 e61 e66 e67 e68 e69 e70 e71 e73 e74 e77 e78 e79 e80 e81 e82 u0 u1 u2 u3 u4 u5
 have q68 : z68 = z31 := by rw [e68, e66, e67, e60, e61, e6, e7, e31, e29, e30, e23, e24, e15, e16]; exact partners_c _ _ _ _ _ _
 have q69 : z69 = z32 := by rw [e69, q68, e32]
 rw [q69]
 exact u3
theorem trianglePartners_f10 {z0 z1 z2 z3 z4 z5 z6 z7 z8 z9 z10 z11 z12 z13 z14 z15 z16 z17 z18 z19 z20 z21 z22 z23 z24 z25 z26 z27 z28 z29 z30 z31 z32 z33 z34 z35 z36 z37 z38 z39 z40 z41 z42 z43 z44 z45 z46 z47 z48 z49 z50 z51 z52 z53 z54 z55 z56 z57 z58 z59 z60 z61 z62 z63 z64 z65 z66 z67 z68 z69 z70 z71 z72 z73 z74 z75 z77 z78 z79 z80 z81 z82 z83 z84 z85 : Rat} : z6 = z2 - z0 → z7 = z3 - z1 → z8 = z4 - z0 → z9 = z5 - z1 → z10 = z6 * z9 → z11 = z7 * z8 → z12 = z10 - z11 → z15 = z2 - z13 → z16 = z3 - z14 → z17 = z4 - z13 → z18 = z5 - z14 → z19 = z15 * z18 → z20 = z16 * z17 → z21 = z19 - z20 → z22 = z21 / z12 → z23 = z0 - z13 → z24 = z1 - z14 → z25 = z17 * z24 → z26 = z18 * z23 → z27 = z25 - z26 → z28 = z27 / z12 → z29 = z23 * z16 → z30 = z24 * z15 → z31 = z29 - z30 → z32 = z31 / z12 → z33 = z4 - z2 → z34 = z5 - z3 → z35 = z33 * z33 → z36 = z34 * z34 → z37 = z35 + z36 → z38 = z0 - z4 → z39 = z1 - z5 → z40 = z38 * z38 → z41 = z39 * z39 → z42 = z40 + z41 → z43 = z6 * z6 → z44 = z7 * z7 → z45 = z43 + z44 → z46 = 1 → z47 = z2 - z4 → z48 = z3 - z5 → z49 = z47 * z47 → z50 = z48 * z48 → z51 = z49 + z50 → z52 = z8 * z8 → z53 = z9 * z9 → z54 = z52 + z53 → z55 = z0 - z2 → z56 = z1 - z3 → z57 = z55 * z55 → z58 = z56 * z56 → z59 = z57 + z58 → z60 = z13 - z0 → z61 = z14 - z1 → z62 = z60 * z9 → z63 = z61 * z8 → z64 = z62 - z63 → z65 = z64 / z12 → z66 = z6 * z61 → z67 = z7 * z60 → z68 = z66 - z67 → z69 = z68 / z12 → z70 = z37 / z22 → z71 = z46 / z22 → z72 = z51 / z22 → z73 = z42 / z28 → z74 = z46 / z28 → z75 = z54 / z65 → z77 = z45 / z32 → z78 = z70 + z73 → z79 = z78 + z77 → z80 = z46 / z32 → z81 = z71 + z74 → z82 = z81 + z80 → z83 = z59 / z69 → z84 = z72 + z75 → z85 = z84 + z83 → (¬ (z12 = 0)) → (¬ (z22 = 0)) → (¬ (z28 = 0)) → (¬ (z32 = 0)) → (z79 = 0) → (¬ (z82 = 0)) → z85 = 0 := by
 intro e6 e7 e8 e9 e10 e11 e12 e15 e16 e17 e18 e19 e20 e21 e22 e23 e24 e25 e26 e27 e28 e29 e30 e31 e32 e33 e34 e35 e36 e37 e38 e39 e40 e41 e42 e43 e44 e45 e46 e47 e48 e49 e50 e51 e52 e53 e54 e55 e56 e57 e58 e59 e60 e61 e62 e63 e64 e65 e66 e67 e68 e69 e70 e71 e72 e73 e74 e75 e77 e78 e79 e80 e81 e82 e83 e84 e85 u0 u1 u2 u3 u4 u5
 have q64 : z64 = z27 := by rw [e64, e62, e63, e60, e61, e9, e8, e27, e25, e26, e17, e18, e23, e24]; exact partners_b _ _ _ _ _ _
 have q65 : z65 = z28 := by rw [e65, q64, e28]
 have q68 : z68 = z31 := by rw [e68, e66, e67, e60, e61, e6, e7, e31, e29, e30, e23, e24, e15, e16]; exact partners_c _ _ _ _ _ _
 have q69 : z69 = z32 := by rw [e69, q68, e32]
 have q51 : z51 = z37 := by rw [e51, e49, e50, e47, e48, e37, e35, e36, e33, e34]; exact partners_s _ _ _ _
 have q54 : z54 = z42 := by rw [e54, e52, e53, e8, e9, e42, e40, e41, e38, e39]; exact partners_s _ _ _ _
 have q59 : z59 = z45 := by rw [e59, e57, e58, e55, e56, e45, e43, e44, e6, e7]; exact partners_s _ _ _ _
 have q72 : z72 = z70 := by rw [e72, q51, e70]
 have q75 : z75 = z73 := by rw [e75, q54, q65, e73]
 have q83 : z83 = z77 := by rw [e83, q59, q69, e77]
 have q85 : z85 = z79 := by rw [e85, e84, q72, q75, q83, e79, e78]
 rw [q85]
 exact u4
theorem trianglePartners_f11 {z0 z1 z2 z3 z4 z5 z6 z7 z8 z9 z10 z11 z12 z13 z14 z15 z16 z17 z18 z19 z20 z21 z22 z23 z24 z25 z26 z27 z28 z29 z30 z31 z32 z33 z34 z35 z36 z37 z38 z39 z40 z41 z42 z43 z44 z45 z46 z60 z61 z62 z63 z64 z65 z66 z67 z68 z69 z70 z71 z73 z74 z76 z77 z78 z79 z80 z81 z82 z86 z87 z88 : Rat} : z6 = z2 - z0 → z7 = z3 - z1 → z8 = z4 - z0 → z9 = z5 - z1 → z10 = z6 * z9 → z11 = z7 * z8 → z12 = z10 - z11 → z15 = z2 - z13 → z16 = z3 - z14 → z17 = z4 - z13 → z18 = z5 - z14 → z19 = z15 * z18 → z20 = z16 * z17 → z21 = z19 - z20 → z22 = z21 / z12 → z23 = z0 - z13 → z24 = z1 - z14 → z25 = z17 * z24 → z26 = z18 * z23 → z27 = z25 - z26 → z28 = z27 / z12 → z29 = z23 * z16 → z30 = z24 * z15 → z31 = z29 - z30 → z32 = z31 / z12 → z33 = z4 - z2 → z34 = z5 - z3 → z35 = z33 * z33 → z36 = z34 * z34 → z37 = z35 + z36 → z38 = z0 - z4 → z39 = z1 - z5 → z40 = z38 * z38 → z41 = z39 * z39 → z42 = z40 + z41 → z43 = z6 * z6 → z44 = z7 * z7 → z45 = z43 + z44 → z46 = 1 → z60 = z13 - z0 → z61 = z14 - z1 → z62 = z60 * z9 → z63 = z61 * z8 → z64 = z62 - z63 → z65 = z64 / z12 → z66 = z6 * z61 → z67 = z7 * z60 → z68 = z66 - z67 → z69 = z68 / z12 → z70 = z37 / z22 → z71 = z46 / z22 → z73 = z42 / z28 → z74 = z46 / z28 → z76 = z46 / z65 → z77 = z45 / z32 → z78 = z70 + z73 → z79 = z78 + z77 → z80 = z46 / z32 → z81 = z71 + z74 → z82 = z81 + z80 → z86 = z46 / z69 → z87 = z71 + z76 → z88 = z87 + z86 → (¬ (z12 = 0)) → (¬ (z22 = 0)) → (¬ (z28 = 0)) → (¬ (z32 = 0)) → (z79 = 0) → (¬ (z82 = 0)) → ¬ (z88 = 0) := by
 intro e6 e7 e8 e9 e10 e11 e12 e15 e16 e17 e18 e19 e20 e21 e22 e23 e24 e25 e26 e27 e28 e29 e30 e31 e32 e33 e34 e35 e36 e37 e38 e39 e40 e41 e42 e43 e44 e45 e46 e60 e61 e62 e63 e64 e65 e66 e67 e68 e69 e70 e71 e73 e74 e76 e77 e78 e79 e80 e81 e82 e86 e87 e88 u0 u1 u2 u3 u4 u5
 have q64 : z64 = z27 := by rw [e64, e62, e63, e60, e61, e9, e8, e27, e25, e26, e17, e18, e23, e24]; exact partners_b _ _ _ _ _ _
 have q65 : z65 = z28 := by rw [e65, q64, e28]
 have q68 : z68 = z31 := by rw [e68, e66, e67, e60, e61, e6, e7, e31, e29, e30, e23, e24, e15, e16]; exact partners_c _ _ _ _ _ _
 have q69 : z69 = z32 := by rw [e69, q68, e32]
 have q76 : z76 = z74 := by rw [e76, q65, e74]
 have q86 : z86 = z80 := by rw [e86, q69, e80]
 have q88 : z88 = z82 := by rw [e88, e87, q76, q86, e82, e81]
 rw [q88]
 exact u5
theorem trianglePartners_f12 {z0 z1 z2 z3 z4 z5 z6 z7 z8 z9 z10 z11 z12 z13 z14 z15 z16 z17 z18 z19 z20 z21 z22 z23 z24 z25 z26 z27 z28 z29 z30 z31 z32 z33 z34 z35 z36 z37 z38 z39 z40 z41 z42 z43 z44 z45 z46 z60 z61 z62 z63 z64 z65 z66 z67 z68 z69 z70 z71 z73 z74 z76 z77 z78 z79 z80 z81 z82 z86 z87 z88 z89 z91 z92 z94 z96 z98 z100 z102 z104 z106 z108 z110 z112 z113 : Rat} : z6 = z2 - z0 → z7 = z3 - z1 → z8 = z4 - z0 → z9 = z5 - z1 → z10 = z6 * z9 → z11 = z7 * z8 → z12 = z10 - z11 → z15 = z2 - z13 → z16 = z3 - z14 → z17 = z4 - z13 → z18 = z5 - z14 → z19 = z15 * z18 → z20 = z16 * z17 → z21 = z19 - z20 → z22 = z21 / z12 → z23 = z0 - z13 → z24 = z1 - z14 → z25 = z17 * z24 → z26 = z18 * z23 → z27 = z25 - z26 → z28 = z27 / z12 → z29 = z23 * z16 → z30 = z24 * z15 → z31 = z29 - z30 → z32 = z31 / z12 → z33 = z4 - z2 → z34 = z5 - z3 → z35 = z33 * z33 → z36 = z34 * z34 → z37 = z35 + z36 → z38 = z0 - z4 → z39 = z1 - z5 → z40 = z38 * z38 → z41 = z39 * z39 → z42 = z40 + z41 → z43 = z6 * z6 → z44 = z7 * z7 → z45 = z43 + z44 → z46 = 1 → z60 = z13 - z0 → z61 = z14 - z1 → z62 = z60 * z9 → z63 = z61 * z8 → z64 = z62 - z63 → z65 = z64 / z12 → z66 = z6 * z61 → z67 = z7 * z60 → z68 = z66 - z67 → z69 = z68 / z12 → z70 = z37 / z22 → z71 = z46 / z22 → z73 = z42 / z28 → z74 = z46 / z28 → z76 = z46 / z65 → z77 = z45 / z32 → z78 = z70 + z73 → z79 = z78 + z77 → z80 = z46 / z32 → z81 = z71 + z74 → z82 = z81 + z80 → z86 = z46 / z69 → z87 = z71 + z76 → z88 = z87 + z86 → z89 = z0 * z71 → z91 = 0 → z92 = z91 + z89 → z94 = z2 * z74 → z96 = z92 + z94 → z98 = z4 * z80 → z100 = z96 + z98 → z102 = z100 / z82 → z104 = z2 * z76 → z106 = z89 + z104 → z108 = z4 * z86 → z110 = z106 + z108 → z112 = z46 / z88 → z113 = z110 * z112 → (¬ (z12 = 0)) → (¬ (z22 = 0)) → (¬ (z28 = 0)) → (¬ (z32 = 0)) → (z79 = 0) → (¬ (z82 = 0)) → z102 = z113 := by
 intro e6 e7 e8 e9 e10 e11 e12 e15 e16 e17 e18 e19 e20 e21 e22 e23 e24 e25 e26 e27 e28 e29 e30 e31 e32 e33 e34 e35 e36 e37 e38 e39 e40 e41 e42 e43 e44 e45 e46 e60 e61 e62 e63 e64 e65 e66 e67 e68 e69 e70 e71 e73 e74 e76 e77 e78 e79 e80 e81 e82 e86 e87 e88 e89 e91 e92 e94 e96 e98 e100 e102 e104 e106 e108 e110 e112 e113 u0 u1 u2 u3 u4 u5
 have q64 : z64 = z27 := by rw [e64, e62, e63, e60, e61, e9, e8, e27, e25, e26, e17, e18, e23, e24]; exact partners_b _ _ _ _ _ _
 have q65 : z65 = z28 := by rw [e65, q64, e28]
 have q68 : z68 = z31 := by rw [e68, e66, e67, e60, e61, e6, e7, e31, e29, e30, e23, e24, e15, e16]; exact partners_c _ _ _ _ _ _
 have q69 : z69 = z32 := by rw [e69, q68, e32]
 have q76 : z76 = z74 := by rw [e76, q65, e74]
 have q86 : z86 = z80 := by rw [e86, q69, e80]
 have q88 : z88 = z82 := by rw [e88, e87, q76, q86, e82, e81]
 rw [e102, e113, e112, q88, e110, e106, e108, e104, q76, q86, e100, e96, e98, e92, e94, e91, e46, Rat.zero_add]
 exact partners_d _ _
theorem trianglePartners_f13 {z0 z1 z2 z3 z4 z5 z6 z7 z8 z9 z10 z11 z12 z13 z14 z15 z16 z17 z18 z19 z20 z21 z22 z23 z24 z25 z26 z27 z28 z29 z30 z31 z32 z33 z34 z35 z36 z37 z38 z39 z40 z41 z42 z43 z44 z45 z46 z60 z61 z62 z63 z64 z65 z66 z67 z68 z69 z70 z71 z73 z74 z76 z77 z78 z79 z80 z81 z82 z86 z87 z88 z90 z91 z93 z95 z97 z99 z101 z103 z105 z107 z109 z111 z112 z114 : Rat} : z6 = z2 - z0 → z7 = z3 - z1 → z8 = z4 - z0 → z9 = z5 - z1 → z10 = z6 * z9 → z11 = z7 * z8 → z12 = z10 - z11 → z15 = z2 - z13 → z16 = z3 - z14 → z17 = z4 - z13 → z18 = z5 - z14 → z19 = z15 * z18 → z20 = z16 * z17 → z21 = z19 - z20 → z22 = z21 / z12 → z23 = z0 - z13 → z24 = z1 - z14 → z25 = z17 * z24 → z26 = z18 * z23 → z27 = z25 - z26 → z28 = z27 / z12 → z29 = z23 * z16 → z30 = z24 * z15 → z31 = z29 - z30 → z32 = z31 / z12 → z33 = z4 - z2 → z34 = z5 - z3 → z35 = z33 * z33 → z36 = z34 * z34 → z37 = z35 + z36 → z38 = z0 - z4 → z39 = z1 - z5 → z40 = z38 * z38 → z41 = z39 * z39 → z42 = z40 + z41 → z43 = z6 * z6 → z44 = z7 * z7 → z45 = z43 + z44 → z46 = 1 → z60 = z13 - z0 → z61 = z14 - z1 → z62 = z60 * z9 → z63 = z61 * z8 → z64 = z62 - z63 → z65 = z64 / z12 → z66 = z6 * z61 → z67 = z7 * z60 → z68 = z66 - z67 → z69 = z68 / z12 → z70 = z37 / z22 → z71 = z46 / z22 → z73 = z42 / z28 → z74 = z46 / z28 → z76 = z46 / z65 → z77 = z45 / z32 → z78 = z70 + z73 → z79 = z78 + z77 → z80 = z46 / z32 → z81 = z71 + z74 → z82 = z81 + z80 → z86 = z46 / z69 → z87 = z71 + z76 → z88 = z87 + z86 → z90 = z1 * z71 → z91 = 0 → z93 = z91 + z90 → z95 = z3 * z74 → z97 = z93 + z95 → z99 = z5 * z80 → z101 = z97 + z99 → z103 = z101 / z82 → z105 = z3 * z76 → z107 = z90 + z105 → z109 = z5 * z86 → z111 = z107 + z109 → z112 = z46 / z88 → z114 = z111 * z112 → (¬ (z12 = 0)) → (¬ (z22 = 0)) → (¬ (z28 = 0)) → (¬ (z32 = 0)) → (z79 = 0) → (¬ (z82 = 0)) → z103 = z114 := by
 intro e6 e7 e8 e9 e10 e11 e12 e15 e16 e17 e18 e19 e20 e21 e22 e23 e24 e25 e26 e27 e28 e29 e30 e31 e32 e33 e34 e35 e36 e37 e38 e39 e40 e41 e42 e43 e44 e45 e46 e60 e61 e62 e63 e64 e65 e66 e67 e68 e69 e70 e71 e73 e74 e76 e77 e78 e79 e80 e81 e82 e86 e87 e88 e90 e91 e93 e95 e97 e99 e101 e103 e105 e107 e109 e111 e112 e114 u0 u1 u2 u3 u4 u5
 have q64 : z64 = z27 := by rw [e64, e62, e63, e60, e61, e9, e8, e27, e25, e26, e17, e18, e23, e24]; exact partners_b _ _ _ _ _ _
 have q65 : z65 = z28 := by rw [e65, q64, e28]
 have q68 : z68 = z31 := by rw [e68, e66, e67, e60, e61, e6, e7, e31, e29, e30, e23, e24, e15, e16]; exact partners_c _ _ _ _ _ _
 have q69 : z69 = z32 := by rw [e69, q68, e32]
 have q76 : z76 = z74 := by rw [e76, q65, e74]
 have q86 : z86 = z80 := by rw [e86, q69, e80]
 have q88 : z88 = z82 := by rw [e88, e87, q76, q86, e82, e81]
 rw [e103, e114, e112, q88, e111, e107, e109, e105, q76, q86, e101, e97, e99, e93, e95, e91, e46, Rat.zero_add]
 exact partners_d _ _
theorem trianglePartners_f14 {z0 z1 z2 z3 z4 z5 z6 z7 z8 z9 z10 z11 z12 z13 z14 z15 z16 z17 z18 z19 z20 z21 z22 z23 z24 z25 z26 z27 z28 z29 z30 z31 z32 z33 z34 z35 z36 z37 z38 z39 z40 z41 z42 z43 z44 z45 z46 z60 z61 z62 z63 z64 z65 z70 z71 z73 z74 z77 z78 z79 z80 z81 z82 : Rat} : z6 = z2 - z0 → z7 = z3 - z1 → z8 = z4 - z0 → z9 = z5 - z1 → z10 = z6 * z9 → z11 = z7 * z8 → z12 = z10 - z11 → z15 = z2 - z13 → z16 = z3 - z14 → z17 = z4 - z13 → z18 = z5 - z14 → z19 = z15 * z18 → z20 = z16 * z17 → z21 = z19 - z20 → z22 = z21 / z12 → z23 = z0 - z13 → z24 = z1 - z14 → z25 = z17 * z24 → z26 = z18 * z23 → z27 = z25 - z26 → z28 = z27 / z12 → z29 = z23 * z16 → z30 = z24 * z15 → z31 = z29 - z30 → z32 = z31 / z12 → z33 = z4 - z2 → z34 = z5 - z3 → z35 = z33 * z33 → z36 = z34 * z34 → z37 = z35 + z36 → z38 = z0 - z4 → z39 = z1 - z5 → z40 = z38 * z38 → z41 = z39 * z39 → z42 = z40 + z41 → z43 = z6 * z6 → z44 = z7 * z7 → z45 = z43 + z44 → z46 = 1 → z60 = z13 - z0 → z61 = z14 - z1 → z62 = z60 * z9 → z63 = z61 * z8 → z64 = z62 - z63 → z65 = z64 / z12 → z70 = z37 / z22 → z71 = z46 / z22 → z73 = z42 / z28 → z74 = z46 / z28 → z77 = z45 / z32 → z78 = z70 + z73 → z79 = z78 + z77 → z80 = z46 / z32 → z81 = z71 + z74 → z82 = z81 + z80 → (¬ (z12 = 0)) → (¬ (z22 = 0)) → (¬ (z28 = 0)) → (¬ (z32 = 0)) → (¬ (z79 = 0)) → (z82 = 0) → ¬ (z65 = 0) := by
 intro e6 e7 e8 e9 e10 e11 e12 e15 e16 e17 e18 e19 e20 e21 e22 e23 e24 e25 e26 e27 e28 e29 e30 e31 e32 e33 e34 e35 e36 e37 e38 e39 e40 e41 e42 e43 e44 e45 e46 e60 e61 e62 e63 e64 e65 e70 e71 e73 e74 e77 e78 e79 e80 e81 e82 u0 u1 u2 u3 u4 u5
 have q64 : z64 = z27 := by rw [e64, e62, e63, e60, e61, e9, e8, e27, e25, e26, e17, e18, e23, e24]; exact partners_b _ _ _ _ _ _
 have q65 : z65 = z28 := by rw [e65, q64, e28]
 rw [q65]
 exact u2
theorem trianglePartners_f15 {z0 z1 z2 z3 z4 z5 z6 z7 z8 z9 z10 z11 z12 z13 z14 z15 z16 z17 z18 z19 z20 z21 z22 z23 z24 z25 z26 z27 z28 z29 z30 z31 z32 z33 z34 z35 z36 z37 z38 z39 z40 z41 z42 z43 z44 z45 z46 z60 z61 z66 z67 z68 z69 z70 z71 z73 z74 z77 z78 z79 z80 z81 z82 : Rat} : z6 = z2 - z0 → z7 = z3 - z1 → z8 = z4 - z0 → z9 = z5 - z1 → z10 = z6 * z9 → z11 = z7 * z8 → z12 = z10 - z11 → z15 = z2 - z13 → z16 = z3 - z14 → z17 = z4 - z13 → z18 = z5 - z14 → z19 = z15 * z18 → z20 = z16 * z17 → z21 = z19 - z20 → z22 = z21 / z12 → z23 = z0 - z13 → z24 = z1 - z14 → z25 = z17 * z24 → z26 = z18 * z23 → z27 = z25 - z26 → z28 = z27 / z12 → z29 = z23 * z16 → z30 = z24 * z15 → z31 = z29 - z30 → z32 = z31 / z12 → z33 = z4 - z2 → z34 = z5 - z3 → z35 = z33 * z33 → z36 = z34 * z34 → z37 = z35 + z36 → z38 = z0 - z4 → z39 = z1 - z5 → z40 = z38 * z38 → z41 = z39 * z39 → z42 = z40 + z41 → z43 = z6 * z6 → z44 = z7 * z7 → z45 = z43 + z44 → z46 = 1 → z60 = z13 - z0 → z61 = z14 - z1 → z66 = z6 * z61 → z67 = z7 * z60 → z68 = z66 - z67 → z69 = z68 / z12 → z70 = z37 / z22 → z71 = z46 / z22 → z73 = z42 / z28 → z74 = z46 / z28 → z77 = z45 / z32 → z78 = z70 + z73 → z79 = z78 + z77 → z80 = z46 / z32 → z81 = z71 + z74 → z82 = z81 + z80 → (¬ (z12 = 0)) → (¬ (z22 = 0)) → (¬ (z28 = 0)) → (¬ (z32 = 0)) → (¬ (z79 = 0)) → (z82 = 0) → ¬ (z69 = 0) := by
 intro e6 e7 e8 e9 e10 e11 e12 e15 e16 e17 e18 e19 e20 e21 e22 e23 e24 e25 e26 e27 e28 e29 e30 e31 e32 e33 e34 e35 e36 e37 e38 e39 e40 e41 e42 e43 e44 e45 e46 e60 e61 e66 e67 e68 e69 e70 e71 e73 e74 e77 e78 e79 e80 e81 e82 u0 u1 u2 u3 u4 u5
 have q68 : z68 = z31 := by rw [e68, e66, e67, e60, e61, e6, e7, e31, e29, e30, e23, e24, e15, e16]; exact partners_c _ _ _ _ _ _
 have q69 : z69 = z32 := by rw [e69, q68, e32]
 rw [q69]
 exact u3
theorem trianglePartners_f16 {z0 z1 z2 z3 z4 z5 z6 z7 z8 z9 z10 z11 z12 z13 z14 z15 z16 z17 z18 z19 z20 z21 z22 z23 z24 z25 z26 z27 z28 z29 z30 z31 z32 z33 z34 z35 z36 z37 z38 z39 z40 z41 z42 z43 z44 z45 z46 z47 z48 z49 z50 z51 z52 z53 z54 z55 z56 z57 z58 z59 z60 z61 z62 z63 z64 z65 z66 z67 z68 z69 z70 z71 z72 z73 z74 z75 z77 z78 z79 z80 z81 z82 z83 z84 z85 : Rat} : z6 = z2 - z0 → z7 = z3 - z1 → z8 = z4 - z0 → z9 = z5 - z1 → z10 = z6 * z9 → z11 = z7 * z8 → z12 = z10 - z11 → z15 = z2 - z13 → z16 = z3 - z14 → z17 = z4 - z13 → z18 = z5 - z14 → z19 = z15 * z18 → z20 = z16 * z17 → z21 = z19 - z20 → z22 = z21 / z12 → z23 = z0 - z13 → z24 = z1 - z14 → z25 = z17 * z24 → z26 = z18 * z23 → z27 = z25 - z26 → z28 = z27 / z12 → z29 = z23 * z16 → z30 = z24 * z15 → z31 = z29 - z30 → z32 = z31 / z12 → z33 = z4 - z2 → z34 = z5 - z3 → z35 = z33 * z33 → z36 = z34 * z34 → z37 = z35 + z36 → z38 = z0 - z4 → z39 = z1 - z5 → z40 = z38 * z38 → z41 = z39 * z39 → z42 = z40 + z41 → z43 = z6 * z6 → z44 = z7 * z7 → z45 = z43 + z44 → z46 = 1 → z47 = z2 - z4 → z48 = z3 - z5 → z49 = z47 * z47 → z50 = z48 * z48 → z51 = z49 + z50 → z52 = z8 * z8 → z53 = z9 * z9 → z54 = z52 + z53 → z55 = z0 - z2 → z56 = z1 - z3 → z57 = z55 * z55 → z58 = z56 * z56 → z59 = z57 + z58 → z60 = z13 - z0 → z61 = z14 - z1 → z62 = z60 * z9 → z63 = z61 * z8 → z64 = z62 - z63 → z65 = z64 / z12 → z66 = z6 * z61 → z67 = z7 * z60 → z68 = z66 - z67 → z69 = z68 / z12 → z70 = z37 / z22 → z71 = z46 / z22 → z72 = z51 / z22 → z73 = z42 / z28 → z74 = z46 / z28 → z75 = z54 / z65 → z77 = z45 / z32 → z78 = z70 + z73 → z79 = z78 + z77 → z80 = z46 / z32 → z81 = z71 + z74 → z82 = z81 + z80 → z83 = z59 / z69 → z84 = z72 + z75 → z85 = z84 + z83 → (¬ (z12 = 0)) → (¬ (z22 = 0)) → (¬ (z28 = 0)) → (¬ (z32 = 0)) → (¬ (z79 = 0)) → (z82 = 0) → ¬ (z85 = 0) := by
 intro e6 e7 e8 e9 e10 e11 e12 e15 e16 e17 e18 e19 e20 e21 e22 e23 e24 e25 e26 e27 e28 e29 e30 e31 e32 e33 e34 e35 e36 e37 e38 e39 e40 e41 e42 e43 e44 e45 e46 e47 e48 e49 e50 e51 e52 e53 e54 e55 e56 e57 e58 e59 e60 e61 e62 e63 e64 e65 e66 e67 e68 e69 e70 e71 e72 e73 e74 e75 e77 e78 e79 e80 e81 e82 e83 e84 e85 u0 u1 u2 u3 u4 u5
 have q64 : z64 = z27 := by rw [e64, e62, e63, e60, e61, e9, e8, e27, e25, e26, e17, e18, e23, e24]; exact partners_b _ _ _ _ _ _
 have q65 : z65 = z28 := by rw [e65, q64, e28]
 have q68 : z68 = z31 := by rw [e68, e66, e67, e60, e61, e6, e7, e31, e29, e30, e23, e24, e15, e16]; exact partners_c _ _ _ _ _ _
 have q69 : z69 = z32 := by rw [e69, q68, e32]
 have q51 : z51 = z37 := by rw [e51, e49, e50, e47, e48, e37, e35, e36, e33, e34]; exact partners_s _ _ _ _
 have q54 : z54 = z42 := by rw [e54, e52, e53, e8, e9, e42, e40, e41, e38, e39]; exact partners_s _ _ _ _
 have q59 : z59 = z45 := by rw [e59, e57, e58, e55, e56, e45, e43, e44, e6, e7]; exact partners_s _ _ _ _
 have q72 : z72 = z70 := by rw [e72, q51, e70]
 have q75 : z75 = z73 := by rw [e75, q54, q65, e73]
 have q83 : z83 = z77 := by rw [e83, q59, q69, e77]
 have q85 : z85 = z79 := by rw [e85, e84, q72, q75, q83, e79, e78]
 rw [q85]
 exact u4
theorem trianglePartners_f17 {z0 z1 z2 z3 z4 z5 z6 z7 z8 z9 z10 z11 z12 z13 z14 z15 z16 z17 z18 z19 z20 z21 z22 z23 z24 z25 z26 z27 z28 z29 z30 z31 z32 z33 z34 z35 z36 z37 z38 z39 z40 z41 z42 z43 z44 z45 z46 z60 z61 z62 z63 z64 z65 z66 z67 z68 z69 z70 z71 z73 z74 z76 z77 z78 z79 z80 z81 z82 z86 z87 z88 : Rat} : z6 = z2 - z0 → z7 = z3 - z1 → z8 = z4 - z0 → z9 = z5 - z1 → z10 = z6 * z9 → z11 = z7 * z8 → z12 = z10 - z11 → z15 = z2 - z13 → z16 = z3 - z14 → z17 = z4 - z13 → z18 = z5 - z14 → z19 = z15 * z18 → z20 = z16 * z17 → z21 = z19 - z20 → z22 = z21 / z12 → z23 = z0 - z13 → z24 = z1 - z14 → z25 = z17 * z24 → z26 = z18 * z23 → z27 = z25 - z26 → z28 = z27 / z12 → z29 = z23 * z16 → z30 = z24 * z15 → z31 = z29 - z30 → z32 = z31 / z12 → z33 = z4 - z2 → z34 = z5 - z3 → z35 = z33 * z33 → z36 = z34 * z34 → z37 = z35 + z36 → z38 = z0 - z4 → z39 = z1 - z5 → z40 = z38 * z38 → z41 = z39 * z39 → z42 = z40 + z41 → z43 = z6 * z6 → z44 = z7 * z7 → z45 = z43 + z44 → z46 = 1 → z60 = z13 - z0 → z61 = z14 - z1 → z62 = z60 * z9 → z63 = z61 * z8 → z64 = z62 - z63 → z65 = z64 / z12 → z66 = z6 * z61 → z67 = z7 * z60 → z68 = z66 - z67 → z69 = z68 / z12 → z70 = z37 / z22 → z71 = z46 / z22 → z73 = z42 / z28 → z74 = z46 / z28 → z76 = z46 / z65 → z77 = z45 / z32 → z78 = z70 + z73 → z79 = z78 + z77 → z80 = z46 / z32 → z81 = z71 + z74 → z82 = z81 + z80 → z86 = z46 / z69 → z87 = z71 + z76 → z88 = z87 + z86 → (¬ (z12 = 0)) → (¬ (z22 = 0)) → (¬ (z28 = 0)) → (¬ (z32 = 0)) → (¬ (z79 = 0)) → (z82 = 0) → z88 = 0 := by
 intro e6 e7 e8 e9 e10 e11 e12 e15 e16 e17 e18 e19 e20 e21 e22 e23 e24 e25 e26 e27 e28 e29 e30 e31 e32 e33 e34 e35 e36 e37 e38 e39 e40 e41 e42 e43 e44 e45 e46 e60 e61 e62 e63 e64 e65 e66 e67 e68 e69 e70 e71 e73 e74 e76 e77 e78 e79 e80 e81 e82 e86 e87 e88 u0 u1 u2 u3 u4 u5
 have q64 : z64 = z27 := by rw [e64, e62, e63, e60, e61, e9, e8, e27, e25, e26, e17, e18, e23, e24]; exact partners_b _ _ _ _ _ _
 have q65 : z65 = z28 := by rw [e65, q64, e28]
 have q68 : z68 = z31 := by rw [e68, e66, e67, e60, e61, e6, e7, e31, e29, e30, e23, e24, e15, e16]; exact partners_c _ _ _ _ _ _
 have q69 : z69 = z32 := by rw [e69, q68, e32]
 have q76 : z76 = z74 := by rw [e76, q65, e74]
 have q86 : z86 = z80 := by rw [e86, q69, e80]
 have q88 : z88 = z82 := by rw [e88, e87, q76, q86, e82, e81]
 rw [q88]
 exact u5
theorem trianglePartners_f18 {z0 z1 z2 z3 z4 z5 z6 z7 z8 z9 z10 z11 z12 z13 z14 z15 z16 z17 z18 z19 z20 z21 z22 z23 z24 z25 z26 z27 z28 z29 z30 z31 z32 z33 z34 z35 z36 z37 z38 z39 z40 z41 z42 z43 z44 z45 z46 z47 z48 z49 z50 z51 z52 z53 z54 z55 z56 z57 z58 z59 z60 z61 z62 z63 z64 z65 z66 z67 z68 z69 z70 z71 z72 z73 z74 z75 z77 z78 z79 z80 z81 z82 z83 z84 z85 z91 z115 z117 z119 z121 z123 z125 z127 z129 z131 z133 z135 z137 z139 z140 : Rat} : z6 = z2 - z0 → z7 = z3 - z1 → z8 = z4 - z0 → z9 = z5 - z1 → z10 = z6 * z9 → z11 = z7 * z8 → z12 = z10 - z11 → z15 = z2 - z13 → z16 = z3 - z14 → z17 = z4 - z13 → z18 = z5 - z14 → z19 = z15 * z18 → z20 = z16 * z17 → z21 = z19 - z20 → z22 = z21 / z12 → z23 = z0 - z13 → z24 = z1 - z14 → z25 = z17 * z24 → z26 = z18 * z23 → z27 = z25 - z26 → z28 = z27 / z12 → z29 = z23 * z16 → z30 = z24 * z15 → z31 = z29 - z30 → z32 = z31 / z12 → z33 = z4 - z2 → z34 = z5 - z3 → z35 = z33 * z33 → z36 = z34 * z34 → z37 = z35 + z36 → z38 = z0 - z4 → z39 = z1 - z5 → z40 = z38 * z38 → z41 = z39 * z39 → z42 = z40 + z41 → z43 = z6 * z6 → z44 = z7 * z7 → z45 = z43 + z44 → z46 = 1 → z47 = z2 - z4 → z48 = z3 - z5 → z49 = z47 * z47 → z50 = z48 * z48 → z51 = z49 + z50 → z52 = z8 * z8 → z53 = z9 * z9 → z54 = z52 + z53 → z55 = z0 - z2 → z56 = z1 - z3 → z57 = z55 * z55 → z58 = z56 * z56 → z59 = z57 + z58 → z60 = z13 - z0 → z61 = z14 - z1 → z62 = z60 * z9 → z63 = z61 * z8 → z64 = z62 - z63 → z65 = z64 / z12 → z66 = z6 * z61 → z67 = z7 * z60 → z68 = z66 - z67 → z69 = z68 / z12 → z70 = z37 / z22 → z71 = z46 / z22 → z72 = z51 / z22 → z73 = z42 / z28 → z74 = z46 / z28 → z75 = z54 / z65 → z77 = z45 / z32 → z78 = z70 + z73 → z79 = z78 + z77 → z80 = z46 / z32 → z81 = z71 + z74 → z82 = z81 + z80 → z83 = z59 / z69 → z84 = z72 + z75 → z85 = z84 + z83 → z91 = 0 → z115 = z0 * z70 → z117 = z91 + z115 → z119 = z2 * z73 → z121 = z117 + z119 → z123 = z4 * z77 → z125 = z121 + z123 → z127 = z125 / z79 → z129 = z0 * z72 → z131 = z2 * z75 → z133 = z129 + z131 → z135 = z4 * z83 → z137 = z133 + z135 → z139 = z46 / z85 → z140 = z137 * z139 → (¬ (z12 = 0)) → (¬ (z22 = 0)) → (¬ (z28 = 0)) → (¬ (z32 = 0)) → (¬ (z79 = 0)) → (z82 = 0) → z127 = z140 := by
 intro e6 e7 e8 e9 e10 e11 e12 e15 e16 e17 e18 e19 e20 e21 e22 e23 e24 e25 e26 e27 e28 e29 e30 e31 e32 e33 e34 e35 e36 e37 e38 e39 e40 e41 e42 e43 e44 e45 e46 e47 e48 e49 e50 e51 e52 e53 e54 e55 e56 e57 e58 e59 e60 e61 e62 e63 e64 e65 e66 e67 e68 e69 e70 e71 e72 e73 e74 e75 e77 e78 e79 e80 e81 e82 e83 e84 e85 e91 e115 e117 e119 e121 e123 e125 e127 e129 e131 e133 e135 e137 e139 e140 u0 u1 u2 u3 u4 u5
 have q64 : z64 = z27 := by rw [e64, e62, e63, e60, e61, e9, e8, e27, e25, e26, e17, e18, e23, e24]; exact partners_b _ _ _ _ _ _
 have q65 : z65 = z28 := by rw [e65, q64, e28]
 have q68 : z68 = z31 := by rw [e68, e66, e67, e60, e61, e6, e7, e31, e29, e30, e23, e24, e15, e16]; exact partners_c _ _ _ _ _ _
 have q69 : z69 = z32 := by rw [e69, q68, e32]
 have q51 : z51 = z37 := by rw [e51, e49, e50, e47, e48, e37, e35, e36, e33, e34]; exact partners_s _ _ _ _
 have q54 : z54 = z42 := by rw [e54, e52, e53, e8, e9, e42, e40, e41, e38, e39]; exact partners_s _ _ _ _
 have q59 : z59 = z45 := by rw [e59, e57, e58, e55, e56, e45, e43, e44, e6, e7]; exact partners_s _ _ _ _
 have q72 : z72 = z70 := by rw [e72, q51, e70]
 have q75 : z75 = z73 := by rw [e75, q54, q65, e73]
 have q83 : z83 = z77 := by rw [e83, q59, q69, e77]
 have q85 : z85 = z79 := by rw [e85, e84, q72, q75, q83, e79, e78]
 rw [e127, e140, e139, q85, e137, e133, e135, e129, e131, q72, q75, q83, e125, e121, e123, e117, e115, e119, e91, e46, Rat.zero_add]
 exact partners_d _ _
theorem trianglePartners_f19 {z0 z1 z2 z3 z4 z5 z6 z7 z8 z9 z10 z11 z12 z13 z14 z15 z16 z17 z18 z19 z20 z21 z22 z23 z24 z25 z26 z27 z28 z29 z30 z31 z32 z33 z34 z35 z36 z37 z38 z39 z40 z41 z42 z43 z44 z45 z46 z47 z48 z49 z50 z51 z52 z53 z54 z55 z56 z57 z58 z59 z60 z61 z62 z63 z64 z65 z66 z67 z68 z69 z70 z71 z72 z73 z74 z75 z77 z78 z79 z80 z81 z82 z83 z84 z85 z91 z116 z118 z120 z122 z124 z126 z128 z130 z132 z134 z136 z138 z139 z141 : Rat} : z6 = z2 - z0 → z7 = z3 - z1 → z8 = z4 - z0 → z9 = z5 - z1 → z10 = z6 * z9 → z11 = z7 * z8 → z12 = z10 - z11 → z15 = z2 - z13 → z16 = z3 - z14 → z17 = z4 - z13 → z18 = z5 - z14 → z19 = z15 * z18 → z20 = z16 * z17 → z21 = z19 - z20 → z22 = z21 / z12 → z23 = z0 - z13 → z24 = z1 - z14 → z25 = z17 * z24 → z26 = z18 * z23 → z27 = z25 - z26 → z28 = z27 / z12 → z29 = z23 * z16 → z30 = z24 * z15 → z31 = z29 - z30 → z32 = z31 / z12 → z33 = z4 - z2 → z34 = z5 - z3 → z35 = z33 * z33 → z36 = z34 * z34 → z37 = z35 + z36 → z38 = z0 - z4 → z39 = z1 - z5 → z40 = z38 * z38 → z41 = z39 * z39 → z42 = z40 + z41 → z43 = z6 * z6 → z44 = z7 * z7 → z45 = z43 + z44 → z46 = 1 → z47 = z2 - z4 → z48 = z3 - z5 → z49 = z47 * z47 → z50 = z48 * z48 → z51 = z49 + z50 → z52 = z8 * z8 → z53 = z9 * z9 → z54 = z52 + z53 → z55 = z0 - z2 → z56 = z1 - z3 → z57 = z55 * z55 → z58 = z56 * z56 → z59 = z57 + z58 → z60 = z13 - z0 → z61 = z14 - z1 → z62 = z60 * z9 → z63 = z61 * z8 → z64 = z62 - z63 → z65 = z64 / z12 → z66 = z6 * z61 → z67 = z7 * z60 → z68 = z66 - z67 → z69 = z68 / z12 → z70 = z37 / z22 → z71 = z46 / z22 → z72 = z51 / z22 → z73 = z42 / z28 → z74 = z46 / z28 → z75 = z54 / z65 → z77 = z45 / z32 → z78 = z70 + z73 → z79 = z78 + z77 → z80 = z46 / z32 → z81 = z71 + z74 → z82 = z81 + z80 → z83 = z59 / z69 → z84 = z72 + z75 → z85 = z84 + z83 → z91 = 0 → z116 = z1 * z70 → z118 = z91 + z116 → z120 = z3 * z73 → z122 = z118 + z120 → z124 = z5 * z77 → z126 = z122 + z124 → z128 = z126 / z79 → z130 = z1 * z72 → z132 = z3 * z75 → z134 = z130 + z132 → z136 = z5 * z83 → z138 = z134 + z136 → z139 = z46 / z85 → z141 = z138 * z139 → (¬ (z12 = 0)) → (¬ (z22 = 0)) → (¬ (z28 = 0)) → (¬ (z32 = 0)) → (¬ (z79 = 0)) → (z82 = 0) → z128 = z141 := by
 intro e6 e7 e8 e9 e10 e11 e12 e15 e16 e17 e18 e19 e20 e21 e22 e23 e24 e25 e26 e27 e28 e29 e30 e31 e32 e33 e34 e35 e36 e37 e38 e39 e40 e41 e42 e43 e44 e45 e46 e47 e48 e49 e50 e51 e52 e53 e54 e55 e56 e57 e58 e59 e60 e61 e62 e63 e64 e65 e66 e67 e68 e69 e70 e71 e72 e73 e74 e75 e77 e78 e79 e80 e81 e82 e83 e84 e85 e91 e116 e118 e120 e122 e124 e126 e128 e130 e132 e134 e136 e138 e139 e141 u0 u1 u2 u3 u4 u5
 have q64 : z64 = z27 := by rw [e64, e62, e63, e60, e61, e9, e8, e27, e25, e26, e17, e18, e23, e24]; exact partners_b _ _ _ _ _ _
 have q65 : z65 = z28 := by rw [e65, q64, e28]
 have q68 : z68 = z31 := by rw [e68, e66, e67, e60, e61, e6, e7, e31, e29, e30, e23, e24, e15, e16]; exact partners_c _ _ _ _ _ _
 have q69 : z69 = z32 := by rw [e69, q68, e32]
 have q51 : z51 = z37 := by rw [e51, e49, e50, e47, e48, e37, e35, e36, e33, e34]; exact partners_s _ _ _ _
 have q54 : z54 = z42 := by rw [e54, e52, e53, e8, e9, e42, e40, e41, e38, e39]; exact partners_s _ _ _ _
 have q59 : z59 = z45 := by rw [e59, e57, e58, e55, e56, e45, e43, e44, e6, e7]; exact partners_s _ _ _ _
 have q72 : z72 = z70 := by rw [e72, q51, e70]
 have q75 : z75 = z73 := by rw [e75, q54, q65, e73]
 have q83 : z83 = z77 := by rw [e83, q59, q69, e77]
 have q85 : z85 = z79 := by rw [e85, e84, q72, q75, q83, e79, e78]
 rw [e128, e141, e139, q85, e138, e134, e136, e130, e132, q72, q75, q83, e126, e122, e124, e118, e116, e120, e91, e46, Rat.zero_add]
 exact partners_d _ _
theorem trianglePartners_f20 {z0 z1 z2 z3 z4 z5 z6 z7 z8 z9 z10 z11 z12 z13 z14 z15 z16 z17 z18 z19 z20 z21 z22 z23 z24 z25 z26 z27 z28 z29 z30 z31 z32 z33 z34 z35 z36 z37 z38 z39 z40 z41 z42 z43 z44 z45 z46 z60 z61 z62 z63 z64 z65 z70 z71 z73 z74 z77 z78 z79 z80 z81 z82 : Rat} : z6 = z2 - z0 → z7 = z3 - z1 → z8 = z4 - z0 → z9 = z5 - z1 → z10 = z6 * z9 → z11 = z7 * z8 → z12 = z10 - z11 → z15 = z2 - z13 → z16 = z3 - z14 → z17 = z4 - z13 → z18 = z5 - z14 → z19 = z15 * z18 → z20 = z16 * z17 → z21 = z19 - z20 → z22 = z21 / z12 → z23 = z0 - z13 → z24 = z1 - z14 → z25 = z17 * z24 → z26 = z18 * z23 → z27 = z25 - z26 → z28 = z27 / z12 → z29 = z23 * z16 → z30 = z24 * z15 → z31 = z29 - z30 → z32 = z31 / z12 → z33 = z4 - z2 → z34 = z5 - z3 → z35 = z33 * z33 → z36 = z34 * z34 → z37 = z35 + z36 → z38 = z0 - z4 → z39 = z1 - z5 → z40 = z38 * z38 → z41 = z39 * z39 → z42 = z40 + z41 → z43 = z6 * z6 → z44 = z7 * z7 → z45 = z43 + z44 → z46 = 1 → z60 = z13 - z0 → z61 = z14 - z1 → z62 = z60 * z9 → z63 = z61 * z8 → z64 = z62 - z63 → z65 = z64 / z12 → z70 = z37 / z22 → z71 = z46 / z22 → z73 = z42 / z28 → z74 = z46 / z28 → z77 = z45 / z32 → z78 = z70 + z73 → z79 = z78 + z77 → z80 = z46 / z32 → z81 = z71 + z74 → z82 = z81 + z80 → (¬ (z12 = 0)) → (¬ (z22 = 0)) → (¬ (z28 = 0)) → (¬ (z32 = 0)) → (¬ (z79 = 0)) → (¬ (z82 = 0)) → ¬ (z65 = 0) := by
 intro e6 e7 e8 e9 e10 e11 e12 e15 e16 e17 e18 e19 e20 e21 e22 e23 e24 e25 e26 e27 e28 e29 e30 e31 e32 e33 e34 e35 e36 e37 e38 e39 e40 e41 e42 e43 e44 e45 e46 e60 e61 e62 e63 e64 e65 e70 e71 e73 e74 e77 e78 e79 e80 e81 e82 u0 u1 u2 u3 u4 u5
 have q64 : z64 = z27 := by rw [e64, e62, e63, e60, e61, e9, e8, e27, e25, e26, e17, e18, e23, e24]; exact partners_b _ _ _ _ _ _
 have q65 : z65 = z28 := by rw [e65, q64, e28]
 rw [q65]
 exact u2
theorem trianglePartners_f21 {z0 z1 z2 z3 z4 z5 z6 z7 z8 z9 z10 z11 z12 z13 z14 z15 z16 z17 z18 z19 z20 z21 z22 z23 z24 z25 z26 z27 z28 z29 z30 z31 z32 z33 z34 z35 z36 z37 z38 z39 z40 z41 z42 z43 z44 z45 z46 z60 z61 z66 z67 z68 z69 z70 z71 z73 z74 z77 z78 z79 z80 z81 z82 : Rat} : z6 = z2 - z0 → z7 = z3 - z1 → z8 = z4 - z0 → z9 = z5 - z1 → z10 = z6 * z9 → z11 = z7 * z8 → z12 = z10 - z11 → z15 = z2 - z13 → z16 = z3 - z14 → z17 = z4 - z13 → z18 = z5 - z14 → z19 = z15 * z18 → z20 = z16 * z17 → z21 = z19 - z20 → z22 = z21 / z12 → z23 = z0 - z13 → z24 = z1 - z14 → z25 = z17 * z24 → z26 = z18 * z23 → z27 = z25 - z26 → z28 = z27 / z12 → z29 = z23 * z16 → z30 = z24 * z15 → z31 = z29 - z30 → z32 = z31 / z12 → z33 = z4 - z2 → z34 = z5 - z3 → z35 = z33 * z33 → z36 = z34 * z34 → z37 = z35 + z36 → z38 = z0 - z4 → z39 = z1 - z5 → z40 = z38 * z38 → z41 = z39 * z39 → z42 = z40 + z41 → z43 = z6 * z6 → z44 = z7 * z7 → z45 = z43 + z44 → z46 = 1 → z60 = z13 - z0 → z61 = z14 - z1 → z66 = z6 * z61 → z67 = z7 * z60 → z68 = z66 - z67 → z69 = z68 / z12 → z70 = z37 / z22 → z71 = z46 / z22 → z73 = z42 / z28 → z74 = z46 / z28 → z77 = z45 / z32 → z78 = z70 + z73 → z79 = z78 + z77 → z80 = z46 / z32 → z81 = z71 + z74 → z82 = z81 + z80 → (¬ (z12 = 0)) → (¬ (z22 = 0)) → (¬ (z28 = 0)) → (¬ (z32 = 0)) → (¬ (z79 = 0)) → (¬ (z82 = 0)) → ¬ (z69 = 0) := by
 intro e6 e7 e8 e9 e10 e11 e12 e15 e16 e17 e18 e19 e20 e21 e22 e23 e24 e25 e26 e27 e28 e29 e30 e31 e32 e33 e34 e35 e36 e37 e38 e39 e40 e41 e42 e43 e44 e45 e46 e60 e61 e66 e67 e68 e69 e70 e71 e73 e74 e77 e78 e79 e80 e81 e82 u0 u1 u2 u3 u4 u5
 have q68 : z68 = z31 := by rw [e68, e66, e67, e60, e61, e6, e7, e31, e29, e30, e23, e24, e15, e16]; exact partners_c _ _ _ _ _ _
 have q69 : z69 = z32 := by rw [e69, q68, e32]
 rw [q69]
 exact u3
theorem trianglePartners_f22 {z0 z1 z2 z3 z4 z5 z6 z7 z8 z9 z10 z11 z12 z13 z14 z15 z16 z17 z18 z19 z20 z21 z22 z23 z24 z25 z26 z27 z28 z29 z30 z31 z32 z33 z34 z35 z36 z37 z38 z39 z40 z41 z42 z43 z44 z45 z46 z47 z48 z49 z50 z51 z52 z53 z54 z55 z56 z57 z58 z59 z60 z61 z62 z63 z64 z65 z66 z67 z68 z69 z70 z71 z72 z73 z74 z75 z77 z78 z79 z80 z81 z82 z83 z84 z85 : Rat} : z6 = z2 - z0 → z7 = z3 - z1 → z8 = z4 - z0 → z9 = z5 - z1 → z10 = z6 * z9 → z11 = z7 * z8 → z12 = z10 - z11 → z15 = z2 - z13 → z16 = z3 - z14 → z17 = z4 - z13 → z18 = z5 - z14 → z19 = z15 * z18 → z20 = z16 * z17 → z21 = z19 - z20 → z22 = z21 / z12 → z23 = z0 - z13 → z24 = z1 - z14 → z25 = z17 * z24 → z26 = z18 * z23 → z27 = z25 - z26 → z28 = z27 / z12 → z29 = z23 * z16 → z30 = z24 * z15 → z31 = z29 - z30 → z32 = z31 / z12 → z33 = z4 - z2 → z34 = z5 - z3 → z35 = z33 * z33 → z36 = z34 * z34 → z37 = z35 + z36 → z38 = z0 - z4 → z39 = z1 - z5 → z40 = z38 * z38 → z41 = z39 * z39 → z42 = z40 + z41 → z43 = z6 * z6 → z44 = z7 * z7 → z45 = z43 + z44 → z46 = 1 → z47 = z2 - z4 → z48 = z3 - z5 → z49 = z47 * z47 → z50 = z48 * z48 → z51 = z49 + z50 → z52 = z8 * z8 → z53 = z9 * z9 → z54 = z52 + z53 → z55 = z0 - z2 → z56 = z1 - z3 → z57 = z55 * z55 → z58 = z56 * z56 → z59 = z57 + z58 → z60 = z13 - z0 → z61 = z14 - z1 → z62 = z60 * z9 → z63 = z61 * z8 → z64 = z62 - z63 → z65 = z64 / z12 → z66 = z6 * z61 → z67 = z7 * z60 → z68 = z66 - z67 → z69 = z68 / z12 → z70 = z37 / z22 → z71 = z46 / z22 → z72 = z51 / z22 → z73 = z42 / z28 → z74 = z46 / z28 → z75 = z54 / z65 → z77 = z45 / z32 → z78 = z70 + z73 → z79 = z78 + z77 → z80 = z46 / z32 → z81 = z71 + z74 → z82 = z81 + z80 → z83 = z59 / z69 → z84 = z72 + z75 → z85 = z84 + z83 → (¬ (z12 = 0)) → (¬ (z22 = 0)) → (¬ (z28 = 0)) → (¬ (z32 = 0)) → (¬ (z79 = 0)) → (¬ (z82 = 0)) → ¬ (z85 = 0) := by
 intro e6 e7 e8 e9 e10 e11 e12 e15 e16 e17 e18 e19 e20 e21 e22 e23 e24 e25 e26 e27 e28 e29 e30 e31 e32 e33 e34 e35 e36 e37 e38 e39 e40 e41 e42 e43 e44 e45 e46 e47 e48 e49 e50 e51 e52 e53 e54 e55 e56 e57 e58 e59 e60 e61 e62 e63 e64 e65 e66 e67 e68 e69 e70 e71 e72 e73 e74 e75 e77 e78 e79 e80 e81 e82 e83 e84 e85 u0 u1 u2 u3 u4 u5
 have q64 : z64 = z27 := by rw [e64, e62, e63, e60, e61, e9, e8, e27, e25, e26, e17, e18, e23, e24]; exact partners_b _ _ _ _ _ _
 have q65 : z65 = z28 := by rw [e65, q64, e28]
 have q68 : z68 = z31 := by rw [e68, e66, e67, e60, e61, e6, e7, e31, e29, e30, e23, e24, e15, e16]; exact partners_c _ _ _ _ _ _
 have q69 : z69 = z32 := by rw [e69, q68, e32]
 have q51 : z51 = z37 := by rw [e51, e49, e50, e47, e48, e37, e35, e36, e33, e34]; exact partners_s _ _ _ _
 have q54 : z54 = z42 := by rw [e54, e52, e53, e8, e9, e42, e40, e41, e38, e39]; exact partners_s _ _ _ _
 have q59 : z59 = z45 := by rw [e59, e57, e58, e55, e56, e45, e43, e44, e6, e7]; exact partners_s _ _ _ _
 have q72 : z72 = z70 := by rw [e72, q51, e70]
 have q75 : z75 = z73 := by rw [e75, q54, q65, e73]
 have q83 : z83 = z77 := by rw [e83, q59, q69, e77]
 have q85 : z85 = z79 := by rw [e85, e84, q72, q75, q83, e79, e78]
 rw [q85]
 exact u4
theorem trianglePartners_f23 {z0 z1 z2 z3 z4 z5 z6 z7 z8 z9 z10 z11 z12 z13 z14 z15 z16 z17 z18 z19 z20 z21 z22 z23 z24 z25 z26 z27 z28 z29 z30 z31 z32 z33 z34 z35 z36 z37 z38 z39 z40 z41 z42 z43 z44 z45 z46 z60 z61 z62 z63 z64 z65 z66 z67 z68 z69 z70 z71 z73 z74 z76 z77 z78 z79 z80 z81 z82 z86 z87 z88 : Rat} : z6 = z2 - z0 → z7 = z3 - z1 → z8 = z4 - z0 → z9 = z5 - z1 → z10 = z6 * z9 → z11 = z7 * z8 → z12 = z10 - z11 → z15 = z2 - z13 → z16 = z3 - z14 → z17 = z4 - z13 → z18 = z5 - z14 → z19 = z15 * z18 → z20 = z16 * z17 → z21 = z19 - z20 → z22 = z21 / z12 → z23 = z0 - z13 → z24 = z1 - z14 → z25 = z17 * z24 → z26 = z18 * z23 → z27 = z25 - z26 → z28 = z27 / z12 → z29 = z23 * z16 → z30 = z24 * z15 → z31 = z29 - z30 → z32 = z31 / z12 → z33 = z4 - z2 → z34 = z5 - z3 → z35 = z33 * z33 → z36 = z34 * z34 → z37 = z35 + z36 → z38 = z0 - z4 → z39 = z1 - z5 → z40 = z38 * z38 → z41 = z39 * z39 → z42 = z40 + z41 → z43 = z6 * z6 → z44 = z7 * z7 → z45 = z43 + z44 → z46 = 1 → z60 = z13 - z0 → z61 = z14 - z1 → z62 = z60 * z9 → z63 = z61 * z8 → z64 = z62 - z63 → z65 = z64 / z12 → z66 = z6 * z61 → z67 = z7 * z60 → z68 = z66 - z67 → z69 = z68 / z12 → z70 = z37 / z22 → z71 = z46 / z22 → z73 = z42 / z28 → z74 = z46 / z28 → z76 = z46 / z65 → z77 = z45 / z32 → z78 = z70 + z73 → z79 = z78 + z77 → z80 = z46 / z32 → z81 = z71 + z74 → z82 = z81 + z80 → z86 = z46 / z69 → z87 = z71 + z76 → z88 = z87 + z86 → (¬ (z12 = 0)) → (¬ (z22 = 0)) → (¬ (z28 = 0)) → (¬ (z32 = 0)) → (¬ (z79 = 0)) → (¬ (z82 = 0)) → ¬ (z88 = 0) := by
 intro e6 e7 e8 e9 e10 e11 e12 e15 e16 e17 e18 e19 e20 e21 e22 e23 e24 e25 e26 e27 e28 e29 e30 e31 e32 e33 e34 e35 e36 e37 e38 e39 e40 e41 e42 e43 e44 e45 e46 e60 e61 e62 e63 e64 e65 e66 e67 e68 e69 e70 e71 e73 e74 e76 e77 e78 e79 e80 e81 e82 e86 e87 e88 u0 u1 u2 u3 u4 u5
 have q64 : z64 = z27 := by rw [e64, e62, e63, e60, e61, e9, e8, e27, e25, e26, e17, e18, e23, e24]; exact partners_b _ _ _ _ _ _
 have q65 : z65 = z28 := by rw [e65, q64, e28]
 have q68 : z68 = z31 := by rw [e68, e66, e67, e60, e61, e6, e7, e31, e29, e30, e23, e24, e15, e16]; exact partners_c _ _ _ _ _ _
 have q69 : z69 = z32 := by rw [e69, q68, e32]
 have q76 : z76 = z74 := by rw [e76, q65, e74]
 have q86 : z86 = z80 := by rw [e86, q69, e80]
 have q88 : z88 = z82 := by rw [e88, e87, q76, q86, e82, e81]
 rw [q88]
 exact u5
theorem trianglePartners_f24 {z0 z1 z2 z3 z4 z5 z6 z7 z8 z9 z10 z11 z12 z13 z14 z15 z16 z17 z18 z19 z20 z21 z22 z23 z24 z25 z26 z27 z28 z29 z30 z31 z32 z33 z34 z35 z36 z37 z38 z39 z40 z41 z42 z43 z44 z45 z46 z47 z48 z49 z50 z51 z52 z53 z54 z55 z56 z57 z58 z59 z60 z61 z62 z63 z64 z65 z66 z67 z68 z69 z70 z71 z72 z73 z74 z75 z77 z78 z79 z80 z81 z82 z83 z84 z85 z91 z115 z117 z119 z121 z123 z125 z127 z129 z131 z133 z135 z137 z139 z140 : Rat} : z6 = z2 - z0 → z7 = z3 - z1 → z8 = z4 - z0 → z9 = z5 - z1 → z10 = z6 * z9 → z11 = z7 * z8 → z12 = z10 - z11 → z15 = z2 - z13 → z16 = z3 - z14 → z17 = z4 - z13 → z18 = z5 - z14 → z19 = z15 * z18 → z20 = z16 * z17 → z21 = z19 - z20 → z22 = z21 / z12 → z23 = z0 - z13 → z24 = z1 - z14 → z25 = z17 * z24 → z26 = z18 * z23 → z27 = z25 - z26 → z28 = z27 / z12 → z29 = z23 * z16 → z30 = z24 * z15 → z31 = z29 - z30 → z32 = z31 / z12 → z33 = z4 - z2 → z34 = z5 - z3 → z35 = z33 * z33 → z36 = z34 * z34 → z37 = z35 + z36 → z38 = z0 - z4 → z39 = z1 - z5 → z40 = z38 * z38 → z41 = z39 * z39 → z42 = z40 + z41 → z43 = z6 * z6 → z44 = z7 * z7 → z45 = z43 + z44 → z46 = 1 → z47 = z2 - z4 → z48 = z3 - z5 → z49 = z47 * z47 → z50 = z48 * z48 → z51 = z49 + z50 → z52 = z8 * z8 → z53 = z9 * z9 → z54 = z52 + z53 → z55 = z0 - z2 → z56 = z1 - z3 → z57 = z55 * z55 → z58 = z56 * z56 → z59 = z57 + z58 → z60 = z13 - z0 → z61 = z14 - z1 → z62 = z60 * z9 → z63 = z61 * z8 → z64 = z62 - z63 → z65 = z64 / z12 → z66 = z6 * z61 → z67 = z7 * z60 → z68 = z66 - z67 → z69 = z68 / z12 → z70 = z37 / z22 → z71 = z46 / z22 → z72 = z51 / z22 → z73 = z42 / z28 → z74 = z46 / z28 → z75 = z54 / z65 → z77 = z45 / z32 → z78 = z70 + z73 → z79 = z78 + z77 → z80 = z46 / z32 → z81 = z71 + z74 → z82 = z81 + z80 → z83 = z59 / z69 → z84 = z72 + z75 → z85 = z84 + z83 → z91 = 0 → z115 = z0 * z70 → z117 = z91 + z115 → z119 = z2 * z73 → z121 = z117 + z119 → z123 = z4 * z77 → z125 = z121 + z123 → z127 = z125 / z79 → z129 = z0 * z72 → z131 = z2 * z75 → z133 = z129 + z131 → z135 = z4 * z83 → z137 = z133 + z135 → z139 = z46 / z85 → z140 = z137 * z139 → (¬ (z12 = 0)) → (¬ (z22 = 0)) → (¬ (z28 = 0)) → (¬ (z32 = 0)) → (¬ (z79 = 0)) → (¬ (z82 = 0)) → z127 = z140 := by
 intro e6 e7 e8 e9 e10 e11 e12 e15 e16 e17 e18 e19 e20 e21 e22 e23 e24 e25 e26 e27 e28 e29 e30 e31 e32 e33 e34 e35 e36 e37 e38 e39 e40 e41 e42 e43 e44 e45 e46 e47 e48 e49 e50 e51 e52 e53 e54 e55 e56 e57 e58 e59 e60 e61 e62 e63 e64 e65 e66 e67 e68 e69 e70 e71 e72 e73 e74 e75 e77 e78 e79 e80 e81 e82 e83 e84 e85 e91 e115 e117 e119 e121 e123 e125 e127 e129 e131 e133 e135 e137 e139 e140 u0 u1 u2 u3 u4 u5
 have q64 : z64 = z27 := by rw [e64, e62, e63, e60, e61, e9, e8, e27, e25, e26, e17, e18, e23, e24]; exact partners_b _ _ _ _ _ _
 have q65 : z65 = z28 := by rw [e65, q64, e28]
 have q68 : z68 = z31 := by rw [e68, e66, e67, e60, e61, e6, e7, e31, e29, e30, e23, e24, e15, e16]; exact partners_c _ _ _ _ _ _
 have q69 : z69 = z32 := by rw [e69, q68, e32]
 have q51 : z51 = z37 := by rw [e51, e49, e50, e47, e48, e37, e35, e36, e33, e34]; exact partners_s _ _ _ _
 have q54 : z54 = z42 := by rw [e54, e52, e53, e8, e9, e42, e40, e41, e38, e39]; exact partners_s _ _ _ _
 have q59 : z59 = z45 := by rw [e59, e57, e58, e55, e56, e45, e43, e44, e6, e7]; exact partners_s _ _ _ _
 have q72 : z72 = z70 := by rw [e72, q51, e70]
 have q75 : z75 = z73 := by rw [e75, q54, q65, e73]
 have q83 : z83 = z77 := by rw [e83, q59, q69, e77]
 have q85 : z85 = z79 := by rw [e85, e84, q72, q75, q83, e79, e78]
 rw [e127, e140, e139, q85, e137, e133, e135, e129, e131, q72, q75, q83, e125, e121, e123, e117, e115, e119, e91, e46, Rat.zero_add]
 exact partners_d _ _
theorem trianglePartners_f25 {z0 z1 z2 z3 z4 z5 z6 z7 z8 z9 z10 z11 z12 z13 z14 z15 z16 z17 z18 z19 z20 z21 z22 z23 z24 z25 z26 z27 z28 z29 z30 z31 z32 z33 z34 z35 z36 z37 z38 z39 z40 z41 z42 z43 z44 z45 z46 z47 z48 z49 z50 z51 z52 z53 z54 z55 z56 z57 z58 z59 z60 z61 z62 z63 z64 z65 z66 z67 z68 z69 z70 z71 z72 z73 z74 z75 z77 z78 z79 z80 z81 z82 z83 z84 z85 z91 z116 z118 z120 z122 z124 z126 z128 z130 z132 z134 z136 z138 z139 z141 : Rat} : z6 = z2 - z0 → z7 = z3 - z1 → z8 = z4 - z0 → z9 = z5 - z1 → z10 = z6 * z9 → z11 = z7 * z8 → z12 = z10 - z11 → z15 = z2 - z13 → z16 = z3 - z14 → z17 = z4 - z13 → z18 = z5 - z14 → z19 = z15 * z18 → z20 = z16 * z17 → z21 = z19 - z20 → z22 = z21 / z12 → z23 = z0 - z13 → z24 = z1 - z14 → z25 = z17 * z24 → z26 = z18 * z23 → z27 = z25 - z26 → z28 = z27 / z12 → z29 = z23 * z16 → z30 = z24 * z15 → z31 = z29 - z30 → z32 = z31 / z12 → z33 = z4 - z2 → z34 = z5 - z3 → z35 = z33 * z33 → z36 = z34 * z34 → z37 = z35 + z36 → z38 = z0 - z4 → z39 = z1 - z5 → z40 = z38 * z38 → z41 = z39 * z39 → z42 = z40 + z41 → z43 = z6 * z6 → z44 = z7 * z7 → z45 = z43 + z44 → z46 = 1 → z47 = z2 - z4 → z48 = z3 - z5 → z49 = z47 * z47 → z50 = z48 * z48 → z51 = z49 + z50 → z52 = z8 * z8 → z53 = z9 * z9 → z54 = z52 + z53 → z55 = z0 - z2 → z56 = z1 - z3 → z57 = z55 * z55 → z58 = z56 * z56 → z59 = z57 + z58 → z60 = z13 - z0 → z61 = z14 - z1 → z62 = z60 * z9 → z63 = z61 * z8 → z64 = z62 - z63 → z65 = z64 / z12 → z66 = z6 * z61 → z67 = z7 * z60 → z68 = z66 - z67 → z69 = z68 / z12 → z70 = z37 / z22 → z71 = z46 / z22 → z72 = z51 / z22 → z73 = z42 / z28 → z74 = z46 / z28 → z75 = z54 / z65 → z77 = z45 / z32 → z78 = z70 + z73 → z79 = z78 + z77 → z80 = z46 / z32 → z81 = z71 + z74 → z82 = z81 + z80 → z83 = z59 / z69 → z84 = z72 + z75 → z85 = z84 + z83 → z91 = 0 → z116 = z1 * z70 → z118 = z91 + z116 → z120 = z3 * z73 → z122 = z118 + z120 → z124 = z5 * z77 → z126 = z122 + z124 → z128 = z126 / z79 → z130 = z1 * z72 → z132 = z3 * z75 → z134 = z130 + z132 → z136 = z5 * z83 → z138 = z134 + z136 → z139 = z46 / z85 → z141 = z138 * z139 → (¬ (z12 = 0)) → (¬ (z22 = 0)) → (¬ (z28 = 0)) → (¬ (z32 = 0)) → (¬ (z79 = 0)) → (¬ (z82 = 0)) → z128 = z141 := by
 intro e6 e7 e8 e9 e10 e11 e12 e15 e16 e17 e18 e19 e20 e21 e22 e23 e24 e25 e26 e27 e28 e29 e30 e31 e32 e33 e34 e35 e36 e37 e38 e39 e40 e41 e42 e43 e44 e45 e46 e47 e48 e49 e50 e51 e52 e53 e54 e55 e56 e57 e58 e59 e60 e61 e62 e63 e64 e65 e66 e67 e68 e69 e70 e71 e72 e73 e74 e75 e77 e78 e79 e80 e81 e82 e83 e84 e85 e91 e116 e118 e120 e122 e124 e126 e128 e130 e132 e134 e136 e138 e139 e141 u0 u1 u2 u3 u4 u5
 have q64 : z64 = z27 := by rw [e64, e62, e63, e60, e61, e9, e8, e27, e25, e26, e17, e18, e23, e24]; exact partners_b _ _ _ _ _ _
 have q65 : z65 = z28 := by rw [e65, q64, e28]
 have q68 : z68 = z31 := by rw [e68, e66, e67, e60, e61, e6, e7, e31, e29, e30, e23, e24, e15, e16]; exact partners_c _ _ _ _ _ _
 have q69 : z69 = z32 := by rw [e69, q68, e32]
 have q51 : z51 = z37 := by rw [e51, e49, e50, e47, e48, e37, e35, e36, e33, e34]; exact partners_s _ _ _ _
 have q54 : z54 = z42 := by rw [e54, e52, e53, e8, e9, e42, e40, e41, e38, e39]; exact partners_s _ _ _ _
 have q59 : z59 = z45 := by rw [e59, e57, e58, e55, e56, e45, e43, e44, e6, e7]; exact partners_s _ _ _ _
 have q72 : z72 = z70 := by rw [e72, q51, e70]
 have q75 : z75 = z73 := by rw [e75, q54, q65, e73]
 have q83 : z83 = z77 := by rw [e83, q59, q69, e77]
 have q85 : z85 = z79 := by rw [e85, e84, q72, q75, q83, e79, e78]
 rw [e128, e141, e139, q85, e138, e134, e136, e130, e132, q72, q75, q83, e126, e122, e124, e118, e116, e120, e91, e46, Rat.zero_add]
 exact partners_d _ _
theorem trianglePartners_f26 {z0 z1 z2 z3 z4 z5 z6 z7 z8 z9 z10 z11 z12 z13 z14 z15 z16 z17 z18 z19 z20 z21 z22 z23 z24 z25 z26 z27 z28 z29 z30 z31 z32 z33 z34 z35 z36 z37 z38 z39 z40 z41 z42 z43 z44 z45 z46 z60 z61 z62 z63 z64 z65 z66 z67 z68 z69 z70 z71 z73 z74 z76 z77 z78 z79 z80 z81 z82 z86 z87 z88 z89 z91 z92 z94 z96 z98 z100 z102 z104 z106 z108 z110 z112 z113 : Rat} : z6 = z2 - z0 → z7 = z3 - z1 → z8 = z4 - z0 → z9 = z5 - z1 → z10 = z6 * z9 → z11 = z7 * z8 → z12 = z10 - z11 → z15 = z2 - z13 → z16 = z3 - z14 → z17 = z4 - z13 → z18 = z5 - z14 → z19 = z15 * z18 → z20 = z16 * z17 → z21 = z19 - z20 → z22 = z21 / z12 → z23 = z0 - z13 → z24 = z1 - z14 → z25 = z17 * z24 → z26 = z18 * z23 → z27 = z25 - z26 → z28 = z27 / z12 → z29 = z23 * z16 → z30 = z24 * z15 → z31 = z29 - z30 → z32 = z31 / z12 → z33 = z4 - z2 → z34 = z5 - z3 → z35 = z33 * z33 → z36 = z34 * z34 → z37 = z35 + z36 → z38 = z0 - z4 → z39 = z1 - z5 → z40 = z38 * z38 → z41 = z39 * z39 → z42 = z40 + z41 → z43 = z6 * z6 → z44 = z7 * z7 → z45 = z43 + z44 → z46 = 1 → z60 = z13 - z0 → z61 = z14 - z1 → z62 = z60 * z9 → z63 = z61 * z8 → z64 = z62 - z63 → z65 = z64 / z12 → z66 = z6 * z61 → z67 = z7 * z60 → z68 = z66 - z67 → z69 = z68 / z12 → z70 = z37 / z22 → z71 = z46 / z22 → z73 = z42 / z28 → z74 = z46 / z28 → z76 = z46 / z65 → z77 = z45 / z32 → z78 = z70 + z73 → z79 = z78 + z77 → z80 = z46 / z32 → z81 = z71 + z74 → z82 = z81 + z80 → z86 = z46 / z69 → z87 = z71 + z76 → z88 = z87 + z86 → z89 = z0 * z71 → z91 = 0 → z92 = z91 + z89 → z94 = z2 * z74 → z96 = z92 + z94 → z98 = z4 * z80 → z100 = z96 + z98 → z102 = z100 / z82 → z104 = z2 * z76 → z106 = z89 + z104 → z108 = z4 * z86 → z110 = z106 + z108 → z112 = z46 / z88 → z113 = z110 * z112 → (¬ (z12 = 0)) → (¬ (z22 = 0)) → (¬ (z28 = 0)) → (¬ (z32 = 0)) → (¬ (z79 = 0)) → (¬ (z82 = 0)) → z102 = z113 := by
 intro e6 e7 e8 e9 e10 e11 e12 e15 e16 e17 e18 e19 e20 e21 e22 e23 e24 e25 e26 e27 e28 e29 e30 e31 e32 e33 e34 e35 e36 e37 e38 e39 e40 e41 e42 e43 e44 e45 e46 e60 e61 e62 e63 e64 e65 e66 e67 e68 e69 e70 e71 e73 e74 e76 e77 e78 e79 e80 e81 e82 e86 e87 e88 e89 e91 e92 e94 e96 e98 e100 e102 e104 e106 e108 e110 e112 e113 u0 u1 u2 u3 u4 u5
 have q64 : z64 = z27 := by rw [e64, e62, e63, e60, e61, e9, e8, e27, e25, e26, e17, e18, e23, e24]; exact partners_b _ _ _ _ _ _
 have q65 : z65 = z28 := by rw [e65, q64, e28]
 have q68 : z68 = z31 := by rw [e68, e66, e67, e60, e61, e6, e7, e31, e29, e30, e23, e24, e15, e16]; exact partners_c _ _ _ _ _ _
 have q69 : z69 = z32 := by rw [e69, q68, e32]
 have q76 : z76 = z74 := by rw [e76, q65, e74]
 have q86 : z86 = z80 := by rw [e86, q69, e80]
 have q88 : z88 = z82 := by rw [e88, e87, q76, q86, e82, e81]
 rw [e102, e113, e112, q88, e110, e106, e108, e104, q76, q86, e100, e96, e98, e92, e94, e91, e46, Rat.zero_add]
 exact partners_d _ _
theorem trianglePartners_f27 {z0 z1 z2 z3 z4 z5 z6 z7 z8 z9 z10 z11 z12 z13 z14 z15 z16 z17 z18 z19 z20 z21 z22 z23 z24 z25 z26 z27 z28 z29 z30 z31 z32 z33 z34 z35 z36 z37 z38 z39 z40 z41 z42 z43 z44 z45 z46 z60 z61 z62 z63 z64 z65 z66 z67 z68 z69 z70 z71 z73 z74 z76 z77 z78 z79 z80 z81 z82 z86 z87 z88 z90 z91 z93 z95 z97 z99 z101 z103 z105 z107 z109 z111 z112 z114 : Rat} : z6 = z2 - z0 → z7 = z3 - z1 → z8 = z4 - z0 → z9 = z5 - z1 → z10 = z6 * z9 → z11 = z7 * z8 → z12 = z10 - z11 → z15 = z2 - z13 → z16 = z3 - z14 → z17 = z4 - z13 → z18 = z5 - z14 → z19 = z15 * z18 → z20 = z16 * z17 → z21 = z19 - z20 → z22 = z21 / z12 → z23 = z0 - z13 → z24 = z1 - z14 → z25 = z17 * z24 → z26 = z18 * z23 → z27 = z25 - z26 → z28 = z27 / z12 → z29 = z23 * z16 → z30 = z24 * z15 → z31 = z29 - z30 → z32 = z31 / z12 → z33 = z4 - z2 → z34 = z5 - z3 → z35 = z33 * z33 → z36 = z34 * z34 → z37 = z35 + z36 → z38 = z0 - z4 → z39 = z1 - z5 → z40 = z38 * z38 → z41 = z39 * z39 → z42 = z40 + z41 → z43 = z6 * z6 → z44 = z7 * z7 → z45 = z43 + z44 → z46 = 1 → z60 = z13 - z0 → z61 = z14 - z1 → z62 = z60 * z9 → z63 = z61 * z8 → z64 = z62 - z63 → z65 = z64 / z12 → z66 = z6 * z61 → z67 = z7 * z60 → z68 = z66 - z67 → z69 = z68 / z12 → z70 = z37 / z22 → z71 = z46 / z22 → z73 = z42 / z28 → z74 = z46 / z28 → z76 = z46 / z65 → z77 = z45 / z32 → z78 = z70 + z73 → z79 = z78 + z77 → z80 = z46 / z32 → z81 = z71 + z74 → z82 = z81 + z80 → z86 = z46 / z69 → z87 = z71 + z76 → z88 = z87 + z86 → z90 = z1 * z71 → z91 = 0 → z93 = z91 + z90 → z95 = z3 * z74 → z97 = z93 + z95 → z99 = z5 * z80 → z101 = z97 + z99 → z103 = z101 / z82 → z105 = z3 * z76 → z107 = z90 + z105 → z109 = z5 * z86 → z111 = z107 + z109 → z112 = z46 / z88 → z114 = z111 * z112 → (¬ (z12 = 0)) → (¬ (z22 = 0)) → (¬ (z28 = 0)) → (¬ (z32 = 0)) → (¬ (z79 = 0)) → (¬ (z82 = 0)) → z103 = z114 := by
 intro e6 e7 e8 e9 e10 e11 e12 e15 e16 e17 e18 e19 e20 e21 e22 e23 e24 e25 e26 e27 e28 e29 e30 e31 e32 e33 e34 e35 e36 e37 e38 e39 e40 e41 e42 e43 e44 e45 e46 e60 e61 e62 e63 e64 e65 e66 e67 e68 e69 e70 e71 e73 e74 e76 e77 e78 e79 e80 e81 e82 e86 e87 e88 e90 e91 e93 e95 e97 e99 e101 e103 e105 e107 e109 e111 e112 e114 u0 u1 u2 u3 u4 u5
 have q64 : z64 = z27 := by rw [e64, e62, e63, e60, e61, e9, e8, e27, e25, e26, e17, e18, e23, e24]; exact partners_b _ _ _ _ _ _
 have q65 : z65 = z28 := by rw [e65, q64, e28]
 have q68 : z68 = z31 := by rw [e68, e66, e67, e60, e61, e6, e7, e31, e29, e30, e23, e24, e15, e16]; exact partners_c _ _ _ _ _ _
 have q69 : z69 = z32 := by rw [e69, q68, e32]
 have q76 : z76 = z74 := by rw [e76, q65, e74]
 have q86 : z86 = z80 := by rw [e86, q69, e80]
 have q88 : z88 = z82 := by rw [e88, e87, q76, q86, e82, e81]
 rw [e103, e114, e112, q88, e111, e107, e109, e105, q76, q86, e101, e97, e99, e93, e95, e91, e46, Rat.zero_add]
 exact partners_d _ _
theorem trianglePartners_r0 : (callB (sx Tryz.prog trianglePartners_N [(0, 12, 0, 1)] [(208, []), (171, []), (209, [])] trianglePartners_L trianglePartners_C trianglePartners_Z (prC [106])) 8 15 [(false, [(true, [.inr (2, 0, 0, 0, 0), .inr (2, 1, 0, 0, 0), .inr (2, 2, 0, 0, 0), .inr (2, 3, 0, 0, 0), .inr (2, 4, 0, 0, 0), .inr (2, 5, 0, 0, 0)])]), (false, [(true, [.inr (2, 6, 0, 0, 0), .inr (2, 7, 0, 0, 0)])])] [] 0).map (·.1) = some (kB true) := by kernel_rfl
theorem trianglePartners_r1 : (callB (sx Tryz.prog trianglePartners_N [(0, 12, 0, 0), (0, 22, 0, 1)] [(208, []), (171, []), (363, [.inr (3, 38, 0, 0, 0), .inr (3, 55, 0, 0, 0)]), (305, []), (209, []), (363, [.inr (3, 189, 0, 0, 0), .inr (3, 206, 0, 0, 0)])] trianglePartners_L trianglePartners_C trianglePartners_Z (prC [106])) 9 15 [(false, [(true, [.inr (2, 0, 0, 0, 0), .inr (2, 1, 0, 0, 0), .inr (2, 2, 0, 0, 0), .inr (2, 3, 0, 0, 0), .inr (2, 4, 0, 0, 0), .inr (2, 5, 0, 0, 0)])]), (false, [(true, [.inr (2, 6, 0, 0, 0), .inr (2, 7, 0, 0, 0)])])] [] 0).map (·.1) = some (kB true) := by kernel_rfl
theorem trianglePartners_r2 : (callB (sx Tryz.prog trianglePartners_N [(0, 12, 0, 0), (0, 22, 0, 0), (0, 28, 0, 1), (0, 65, 0, 1)] [(208, []), (171, []), (363, [.inr (3, 38, 0, 0, 0), .inr (3, 55, 0, 0, 0)]), (305, []), (209, []), (363, [.inr (3, 190, 0, 0, 0), .inr (3, 207, 0, 0, 0)])] trianglePartners_L trianglePartners_C trianglePartners_Z (prC [106])) 9 15 [(false, [(true, [.inr (2, 0, 0, 0, 0), .inr (2, 1, 0, 0, 0), .inr (2, 2, 0, 0, 0), .inr (2, 3, 0, 0, 0), .inr (2, 4, 0, 0, 0), .inr (2, 5, 0, 0, 0)])]), (false, [(true, [.inr (2, 6, 0, 0, 0), .inr (2, 7, 0, 0, 0)])])] [] 0).map (·.1) = some (kB true) := by kernel_rfl
theorem trianglePartners_r3 : (callB (sx Tryz.prog trianglePartners_N [(0, 12, 0, 0), (0, 22, 0, 0), (0, 28, 0, 0), (0, 32, 0, 1), (0, 65, 0, 0), (0, 69, 0, 1)] [(208, []), (171, []), (363, [.inr (3, 38, 0, 0, 0), .inr (3, 55, 0, 0, 0)]), (305, []), (209, []), (363, [.inr (3, 191, 0, 0, 0), .inr (3, 208, 0, 0, 0)])] trianglePartners_L trianglePartners_C trianglePartners_Z (prC [106])) 9 15 [(false, [(true, [.inr (2, 0, 0, 0, 0), .inr (2, 1, 0, 0, 0), .inr (2, 2, 0, 0, 0), .inr (2, 3, 0, 0, 0), .inr (2, 4, 0, 0, 0), .inr (2, 5, 0, 0, 0)])]), (false, [(true, [.inr (2, 6, 0, 0, 0), .inr (2, 7, 0, 0, 0)])])] [] 0).map (·.1) = some (kB true) := by kernel_rfl
theorem trianglePartners_r4 : (callB (sx Tryz.prog trianglePartners_N [(0, 12, 0, 0), (0, 22, 0, 0), (0, 28, 0, 0), (0, 32, 0, 0), (0, 79, 0, 1), (0, 82, 0, 1), (0, 65, 0, 0), (0, 69, 0, 0), (0, 85, 0, 1), (0, 88, 0, 1)] [(208, []), (171, []), (363, [.inr (3, 38, 0, 0, 0), .inr (3, 55, 0, 0, 0)]), (305, []), (209, []), (363, [.inr (3, 198, 0, 0, 0), .inr (3, 215, 0, 0, 0)])] trianglePartners_L trianglePartners_C trianglePartners_Z (prC [106])) 9 15 [(false, [(true, [.inr (2, 0, 0, 0, 0), .inr (2, 1, 0, 0, 0), .inr (2, 2, 0, 0, 0), .inr (2, 3, 0, 0, 0), .inr (2, 4, 0, 0, 0), .inr (2, 5, 0, 0, 0)])]), (false, [(true, [.inr (2, 6, 0, 0, 0), .inr (2, 7, 0, 0, 0)])])] [] 0).map (·.1) = some (kB true) := by kernel_rfl
theorem trianglePartners_r5 : (callB (sx Tryz.prog trianglePartners_N [(0, 12, 0, 0), (0, 22, 0, 0), (0, 28, 0, 0), (0, 32, 0, 0), (0, 79, 0, 1), (0, 82, 0, 0), (0, 65, 0, 0), (0, 69, 0, 0), (0, 85, 0, 1), (0, 88, 0, 0), (3, 102, 113, 1), (3, 103, 114, 1)] [(208, []), (171, []), (363, [.inr (3, 38, 0, 0, 0), .inr (3, 55, 0, 0, 0)]), (305, []), (209, []), (363, [.inr (3, 198, 0, 0, 0), .inr (3, 215, 0, 0, 0)])] trianglePartners_L trianglePartners_C trianglePartners_Z (prC [106])) 9 15 [(false, [(true, [.inr (2, 0, 0, 0, 0), .inr (2, 1, 0, 0, 0), .inr (2, 2, 0, 0, 0), .inr (2, 3, 0, 0, 0), .inr (2, 4, 0, 0, 0), .inr (2, 5, 0, 0, 0)])]), (false, [(true, [.inr (2, 6, 0, 0, 0), .inr (2, 7, 0, 0, 0)])])] [] 0).map (·.1) = some (kB true) := by kernel_rfl
theorem trianglePartners_r6 : (callB (sx Tryz.prog trianglePartners_N [(0, 12, 0, 0), (0, 22, 0, 0), (0, 28, 0, 0), (0, 32, 0, 0), (0, 79, 0, 0), (0, 82, 0, 1), (0, 65, 0, 0), (0, 69, 0, 0), (0, 85, 0, 0), (0, 88, 0, 1), (3, 127, 140, 1), (3, 128, 141, 1)] [(208, []), (171, []), (363, [.inr (3, 38, 0, 0, 0), .inr (3, 55, 0, 0, 0)]), (305, []), (209, []), (363, [.inr (3, 225, 0, 0, 0), .inr (3, 242, 0, 0, 0)])] trianglePartners_L trianglePartners_C trianglePartners_Z (prC [106])) 9 15 [(false, [(true, [.inr (2, 0, 0, 0, 0), .inr (2, 1, 0, 0, 0), .inr (2, 2, 0, 0, 0), .inr (2, 3, 0, 0, 0), .inr (2, 4, 0, 0, 0), .inr (2, 5, 0, 0, 0)])]), (false, [(true, [.inr (2, 6, 0, 0, 0), .inr (2, 7, 0, 0, 0)])])] [] 0).map (·.1) = some (kB true) := by kernel_rfl
theorem trianglePartners_r7 : (callB (sx Tryz.prog trianglePartners_N [(0, 12, 0, 0), (0, 22, 0, 0), (0, 28, 0, 0), (0, 32, 0, 0), (0, 79, 0, 0), (0, 82, 0, 0), (0, 65, 0, 0), (0, 69, 0, 0), (0, 85, 0, 0), (0, 88, 0, 0), (3, 127, 140, 1), (3, 128, 141, 1), (3, 102, 113, 1), (3, 103, 114, 1)] [(208, []), (171, []), (363, [.inr (3, 38, 0, 0, 0), .inr (3, 55, 0, 0, 0)]), (305, []), (209, []), (363, [.inr (3, 225, 0, 0, 0), .inr (3, 242, 0, 0, 0)])] trianglePartners_L trianglePartners_C trianglePartners_Z (prC [106])) 9 15 [(false, [(true, [.inr (2, 0, 0, 0, 0), .inr (2, 1, 0, 0, 0), .inr (2, 2, 0, 0, 0), .inr (2, 3, 0, 0, 0), .inr (2, 4, 0, 0, 0), .inr (2, 5, 0, 0, 0)])]), (false, [(true, [.inr (2, 6, 0, 0, 0), .inr (2, 7, 0, 0, 0)])])] [] 0).map (·.1) = some (kB true) := by kernel_rfl
theorem trianglePartners_walk {w : World} {tax taz tbx tbz tcx tcz vx vz : ByteArray} (stax : tax.size ≤ 1048576) (staz : taz.size ≤ 1048576) (stbx : tbx.size ≤ 1048576) (stbz : tbz.size ≤ 1048576) (stcx : tcx.size ≤ 1048576) (stcz : tcz.size ≤ 1048576) (svx : vx.size ≤ 1048576) (svz : vz.size ≤ 1048576) (tab : Tab w) (mx : MaxL w) :
  Calls Tryz.prog 15 #[.agg #[.string tax, .string taz, .string tbx, .string tbz, .string tcx, .string tcz], .agg #[.string vx, .string vz]] w fun e w' => Below w.heap.size w w' ∧ e = .returned (.bool true) := by
 have hσ : ∀ j, (sgOf [tax, taz, tbx, tbz, tcx, tcz, vx, vz] j).size ≤ 1048576 := sgOf_size (by simp [stax, staz, stbx, stbz, stcx, stcz, svx, svz])
 have hcl : ∀ f ∈ ([106] : List FuncId), Closed f := by simp [closed_cornered]
 obtain ⟨q, hq, h0⟩ := nodes_exist (sgOf [tax, taz, tbx, tbz, tcx, tcz, vx, vz]) trianglePartners_N trianglePartners_wf
 have hA : ∀ K, A2 (avOn (cOn (evS q (sgOf [tax, taz, tbx, tbz, tcx, tcz, vx, vz])) K (fun _ => none) w)) [(false, [(true, [.inr (2, 0, 0, 0, 0), .inr (2, 1, 0, 0, 0), .inr (2, 2, 0, 0, 0), .inr (2, 3, 0, 0, 0), .inr (2, 4, 0, 0, 0), .inr (2, 5, 0, 0, 0)])]), (false, [(true, [.inr (2, 6, 0, 0, 0), .inr (2, 7, 0, 0, 0)])])] [.agg #[.string tax, .string taz, .string tbx, .string tbz, .string tcx, .string tcz], .agg #[.string vx, .string vz]] := fun K => ⟨⟨⟨[.string tax, .string taz, .string tbx, .string tbz, .string tcx, .string tcz], rfl, rfl, rfl, rfl, rfl, rfl, rfl, trivial⟩, trivial⟩, ⟨⟨[.string vx, .string vz], rfl, rfl, rfl, trivial⟩, trivial⟩, trivial⟩
 have E6 : q 6 = q 2 - q 0 := hq 6 _ rfl
 have E7 : q 7 = q 3 - q 1 := hq 7 _ rfl
 have E8 : q 8 = q 4 - q 0 := hq 8 _ rfl
 have E9 : q 9 = q 5 - q 1 := hq 9 _ rfl
 have E10 : q 10 = q 6 * q 9 := hq 10 _ rfl
 have E11 : q 11 = q 7 * q 8 := hq 11 _ rfl
 have E12 : q 12 = q 10 - q 11 := hq 12 _ rfl
 have E15 : q 15 = q 2 - q 13 := hq 15 _ rfl
 have E16 : q 16 = q 3 - q 14 := hq 16 _ rfl
 have E17 : q 17 = q 4 - q 13 := hq 17 _ rfl
 have E18 : q 18 = q 5 - q 14 := hq 18 _ rfl
 have E19 : q 19 = q 15 * q 18 := hq 19 _ rfl
 have E20 : q 20 = q 16 * q 17 := hq 20 _ rfl
 have E21 : q 21 = q 19 - q 20 := hq 21 _ rfl
 have E22 : q 22 = q 21 / q 12 := hq 22 _ rfl
 have E23 : q 23 = q 0 - q 13 := hq 23 _ rfl
 have E24 : q 24 = q 1 - q 14 := hq 24 _ rfl
 have E25 : q 25 = q 17 * q 24 := hq 25 _ rfl
 have E26 : q 26 = q 18 * q 23 := hq 26 _ rfl
 have E27 : q 27 = q 25 - q 26 := hq 27 _ rfl
 have E28 : q 28 = q 27 / q 12 := hq 28 _ rfl
 have E29 : q 29 = q 23 * q 16 := hq 29 _ rfl
 have E30 : q 30 = q 24 * q 15 := hq 30 _ rfl
 have E31 : q 31 = q 29 - q 30 := hq 31 _ rfl
 have E32 : q 32 = q 31 / q 12 := hq 32 _ rfl
 have E33 : q 33 = q 4 - q 2 := hq 33 _ rfl
 have E34 : q 34 = q 5 - q 3 := hq 34 _ rfl
 have E35 : q 35 = q 33 * q 33 := hq 35 _ rfl
 have E36 : q 36 = q 34 * q 34 := hq 36 _ rfl
 have E37 : q 37 = q 35 + q 36 := hq 37 _ rfl
 have E38 : q 38 = q 0 - q 4 := hq 38 _ rfl
 have E39 : q 39 = q 1 - q 5 := hq 39 _ rfl
 have E40 : q 40 = q 38 * q 38 := hq 40 _ rfl
 have E41 : q 41 = q 39 * q 39 := hq 41 _ rfl
 have E42 : q 42 = q 40 + q 41 := hq 42 _ rfl
 have E43 : q 43 = q 6 * q 6 := hq 43 _ rfl
 have E44 : q 44 = q 7 * q 7 := hq 44 _ rfl
 have E45 : q 45 = q 43 + q 44 := hq 45 _ rfl
 have E46 : q 46 = 1 := (hq 46 _ rfl).trans trianglePartners_c46
 have E47 : q 47 = q 2 - q 4 := hq 47 _ rfl
 have E48 : q 48 = q 3 - q 5 := hq 48 _ rfl
 have E49 : q 49 = q 47 * q 47 := hq 49 _ rfl
 have E50 : q 50 = q 48 * q 48 := hq 50 _ rfl
 have E51 : q 51 = q 49 + q 50 := hq 51 _ rfl
 have E52 : q 52 = q 8 * q 8 := hq 52 _ rfl
 have E53 : q 53 = q 9 * q 9 := hq 53 _ rfl
 have E54 : q 54 = q 52 + q 53 := hq 54 _ rfl
 have E55 : q 55 = q 0 - q 2 := hq 55 _ rfl
 have E56 : q 56 = q 1 - q 3 := hq 56 _ rfl
 have E57 : q 57 = q 55 * q 55 := hq 57 _ rfl
 have E58 : q 58 = q 56 * q 56 := hq 58 _ rfl
 have E59 : q 59 = q 57 + q 58 := hq 59 _ rfl
 have E60 : q 60 = q 13 - q 0 := hq 60 _ rfl
 have E61 : q 61 = q 14 - q 1 := hq 61 _ rfl
 have E62 : q 62 = q 60 * q 9 := hq 62 _ rfl
 have E63 : q 63 = q 61 * q 8 := hq 63 _ rfl
 have E64 : q 64 = q 62 - q 63 := hq 64 _ rfl
 have E65 : q 65 = q 64 / q 12 := hq 65 _ rfl
 have E66 : q 66 = q 6 * q 61 := hq 66 _ rfl
 have E67 : q 67 = q 7 * q 60 := hq 67 _ rfl
 have E68 : q 68 = q 66 - q 67 := hq 68 _ rfl
 have E69 : q 69 = q 68 / q 12 := hq 69 _ rfl
 have E70 : q 70 = q 37 / q 22 := hq 70 _ rfl
 have E71 : q 71 = q 46 / q 22 := hq 71 _ rfl
 have E72 : q 72 = q 51 / q 22 := hq 72 _ rfl
 have E73 : q 73 = q 42 / q 28 := hq 73 _ rfl
 have E74 : q 74 = q 46 / q 28 := hq 74 _ rfl
 have E75 : q 75 = q 54 / q 65 := hq 75 _ rfl
 have E76 : q 76 = q 46 / q 65 := hq 76 _ rfl
 have E77 : q 77 = q 45 / q 32 := hq 77 _ rfl
 have E78 : q 78 = q 70 + q 73 := hq 78 _ rfl
 have E79 : q 79 = q 78 + q 77 := hq 79 _ rfl
 have E80 : q 80 = q 46 / q 32 := hq 80 _ rfl
 have E81 : q 81 = q 71 + q 74 := hq 81 _ rfl
 have E82 : q 82 = q 81 + q 80 := hq 82 _ rfl
 have E83 : q 83 = q 59 / q 69 := hq 83 _ rfl
 have E84 : q 84 = q 72 + q 75 := hq 84 _ rfl
 have E85 : q 85 = q 84 + q 83 := hq 85 _ rfl
 have E86 : q 86 = q 46 / q 69 := hq 86 _ rfl
 have E87 : q 87 = q 71 + q 76 := hq 87 _ rfl
 have E88 : q 88 = q 87 + q 86 := hq 88 _ rfl
 have E89 : q 89 = q 0 * q 71 := hq 89 _ rfl
 have E90 : q 90 = q 1 * q 71 := hq 90 _ rfl
 have E91 : q 91 = 0 := (hq 91 _ rfl).trans trianglePartners_c91
 have E92 : q 92 = q 91 + q 89 := hq 92 _ rfl
 have E93 : q 93 = q 91 + q 90 := hq 93 _ rfl
 have E94 : q 94 = q 2 * q 74 := hq 94 _ rfl
 have E95 : q 95 = q 3 * q 74 := hq 95 _ rfl
 have E96 : q 96 = q 92 + q 94 := hq 96 _ rfl
 have E97 : q 97 = q 93 + q 95 := hq 97 _ rfl
 have E98 : q 98 = q 4 * q 80 := hq 98 _ rfl
 have E99 : q 99 = q 5 * q 80 := hq 99 _ rfl
 have E100 : q 100 = q 96 + q 98 := hq 100 _ rfl
 have E101 : q 101 = q 97 + q 99 := hq 101 _ rfl
 have E102 : q 102 = q 100 / q 82 := hq 102 _ rfl
 have E103 : q 103 = q 101 / q 82 := hq 103 _ rfl
 have E104 : q 104 = q 2 * q 76 := hq 104 _ rfl
 have E105 : q 105 = q 3 * q 76 := hq 105 _ rfl
 have E106 : q 106 = q 89 + q 104 := hq 106 _ rfl
 have E107 : q 107 = q 90 + q 105 := hq 107 _ rfl
 have E108 : q 108 = q 4 * q 86 := hq 108 _ rfl
 have E109 : q 109 = q 5 * q 86 := hq 109 _ rfl
 have E110 : q 110 = q 106 + q 108 := hq 110 _ rfl
 have E111 : q 111 = q 107 + q 109 := hq 111 _ rfl
 have E112 : q 112 = q 46 / q 88 := hq 112 _ rfl
 have E113 : q 113 = q 110 * q 112 := hq 113 _ rfl
 have E114 : q 114 = q 111 * q 112 := hq 114 _ rfl
 have E115 : q 115 = q 0 * q 70 := hq 115 _ rfl
 have E116 : q 116 = q 1 * q 70 := hq 116 _ rfl
 have E117 : q 117 = q 91 + q 115 := hq 117 _ rfl
 have E118 : q 118 = q 91 + q 116 := hq 118 _ rfl
 have E119 : q 119 = q 2 * q 73 := hq 119 _ rfl
 have E120 : q 120 = q 3 * q 73 := hq 120 _ rfl
 have E121 : q 121 = q 117 + q 119 := hq 121 _ rfl
 have E122 : q 122 = q 118 + q 120 := hq 122 _ rfl
 have E123 : q 123 = q 4 * q 77 := hq 123 _ rfl
 have E124 : q 124 = q 5 * q 77 := hq 124 _ rfl
 have E125 : q 125 = q 121 + q 123 := hq 125 _ rfl
 have E126 : q 126 = q 122 + q 124 := hq 126 _ rfl
 have E127 : q 127 = q 125 / q 79 := hq 127 _ rfl
 have E128 : q 128 = q 126 / q 79 := hq 128 _ rfl
 have E129 : q 129 = q 0 * q 72 := hq 129 _ rfl
 have E130 : q 130 = q 1 * q 72 := hq 130 _ rfl
 have E131 : q 131 = q 2 * q 75 := hq 131 _ rfl
 have E132 : q 132 = q 3 * q 75 := hq 132 _ rfl
 have E133 : q 133 = q 129 + q 131 := hq 133 _ rfl
 have E134 : q 134 = q 130 + q 132 := hq 134 _ rfl
 have E135 : q 135 = q 4 * q 83 := hq 135 _ rfl
 have E136 : q 136 = q 5 * q 83 := hq 136 _ rfl
 have E137 : q 137 = q 133 + q 135 := hq 137 _ rfl
 have E138 : q 138 = q 134 + q 136 := hq 138 _ rfl
 have E139 : q 139 = q 46 / q 85 := hq 139 _ rfl
 have E140 : q 140 = q 137 * q 139 := hq 140 _ rfl
 have E141 : q 141 = q 138 * q 139 := hq 141 _ rfl
 by_cases a_0_12_0 : q 12 = 0
 ·
  exact run_told' 8 (hy_of (H := [(0, 12, 0, 1)]) hσ trianglePartners_wf trianglePartners_sz trianglePartners_lt trianglePartners_cn hq h0 (And.intro (hT a_0_12_0) trivial)) hcl (by kernel_rfl) trianglePartners_r0 ⟨tab, mx⟩ (hA _)
 ·
  by_cases a_0_22_0 : q 22 = 0
  ·
   exact run_told' 9 (hy_of (H := [(0, 12, 0, 0), (0, 22, 0, 1)]) hσ trianglePartners_wf trianglePartners_sz trianglePartners_lt trianglePartners_cn hq h0 (And.intro (hF a_0_12_0) (And.intro (hT a_0_22_0) trivial))) hcl (by kernel_rfl) trianglePartners_r1 ⟨tab, mx⟩ (hA _)
  ·
   by_cases a_0_28_0 : q 28 = 0
   ·
    have a_0_65_0 : q 65 = 0 := trianglePartners_f1 E6 E7 E8 E9 E10 E11 E12 E15 E16 E17 E18 E19 E20 E21 E22 E23 E24 E25 E26 E27 E28 E60 E61 E62 E63 E64 E65 a_0_12_0 a_0_22_0 a_0_28_0
    exact run_told' 9 (hy_of (H := [(0, 12, 0, 0), (0, 22, 0, 0), (0, 28, 0, 1), (0, 65, 0, 1)]) hσ trianglePartners_wf trianglePartners_sz trianglePartners_lt trianglePartners_cn hq h0 (And.intro (hF a_0_12_0) (And.intro (hF a_0_22_0) (And.intro (hT a_0_28_0) (And.intro (hT a_0_65_0) trivial))))) hcl (by kernel_rfl) trianglePartners_r2 ⟨tab, mx⟩ (hA _)
   ·
    by_cases a_0_32_0 : q 32 = 0
    ·
     have a_0_65_0 : ¬ (q 65 = 0) := trianglePartners_f2 E6 E7 E8 E9 E10 E11 E12 E15 E16 E17 E18 E19 E20 E21 E22 E23 E24 E25 E26 E27 E28 E29 E30 E31 E32 E60 E61 E62 E63 E64 E65 a_0_12_0 a_0_22_0 a_0_28_0 a_0_32_0
     have a_0_69_0 : q 69 = 0 := trianglePartners_f3 E6 E7 E8 E9 E10 E11 E12 E15 E16 E17 E18 E19 E20 E21 E22 E23 E24 E25 E26 E27 E28 E29 E30 E31 E32 E60 E61 E66 E67 E68 E69 a_0_12_0 a_0_22_0 a_0_28_0 a_0_32_0
     exact run_told' 9 (hy_of (H := [(0, 12, 0, 0), (0, 22, 0, 0), (0, 28, 0, 0), (0, 32, 0, 1), (0, 65, 0, 0), (0, 69, 0, 1)]) hσ trianglePartners_wf trianglePartners_sz trianglePartners_lt trianglePartners_cn hq h0 (And.intro (hF a_0_12_0) (And.intro (hF a_0_22_0) (And.intro (hF a_0_28_0) (And.intro (hT a_0_32_0) (And.intro (hF a_0_65_0) (And.intro (hT a_0_69_0) trivial))))))) hcl (by kernel_rfl) trianglePartners_r3 ⟨tab, mx⟩ (hA _)
    ·
     by_cases a_0_79_0 : q 79 = 0
     ·
      by_cases a_0_82_0 : q 82 = 0
      ·
       have a_0_65_0 : ¬ (q 65 = 0) := trianglePartners_f4 E6 E7 E8 E9 E10 E11 E12 E15 E16 E17 E18 E19 E20 E21 E22 E23 E24 E25 E26 E27 E28 E29 E30 E31 E32 E33 E34 E35 E36 E37 E38 E39 E40 E41 E42 E43 E44 E45 E46 E60 E61 E62 E63 E64 E65 E70 E71 E73 E74 E77 E78 E79 E80 E81 E82 a_0_12_0 a_0_22_0 a_0_28_0 a_0_32_0 a_0_79_0 a_0_82_0
       have a_0_69_0 : ¬ (q 69 = 0) := trianglePartners_f5 E6 E7 E8 E9 E10 E11 E12 E15 E16 E17 E18 E19 E20 E21 E22 E23 E24 E25 E26 E27 E28 E29 E30 E31 E32 E33 E34 E35 E36 E37 E38 E39 E40 E41 E42 E43 E44 E45 E46 E60 E61 E66 E67 E68 E69 E70 E71 E73 E74 E77 E78 E79 E80 E81 E82 a_0_12_0 a_0_22_0 a_0_28_0 a_0_32_0 a_0_79_0 a_0_82_0
       have a_0_85_0 : q 85 = 0 := trianglePartners_f6 E6 E7 E8 E9 E10 E11 E12 E15 E16 E17 E18 E19 E20 E21 E22 E23 E24 E25 E26 E27 E28 E29 E30 E31 E32 E33 E34 E35 E36 E37 E38 E39 E40 E41 E42 E43 E44 E45 E46 E47 E48 E49 E50 E51 E52 E53 E54 E55 E56 E57 E58 E59 E60 E61 E62 E63 E64 E65 E66 E67 E68 E69 E70 E71 E72 E73 E74 E75 E77 E78 E79 E80 E81 E82 E83 E84 E85 a_0_12_0 a_0_22_0 a_0_28_0 a_0_32_0 a_0_79_0 a_0_82_0
       have a_0_88_0 : q 88 = 0 := trianglePartners_f7 E6 E7 E8 E9 E10 E11 E12 E15 E16 E17 E18 E19 E20 E21 E22 E23 E24 E25 E26 E27 E28 E29 E30 E31 E32 E33 E34 E35 E36 E37 E38 E39 E40 E41 E42 E43 E44 E45 E46 E60 E61 E62 E63 E64 E65 E66 E67 E68 E69 E70 E71 E73 E74 E76 E77 E78 E79 E80 E81 E82 E86 E87 E88 a_0_12_0 a_0_22_0 a_0_28_0 a_0_32_0 a_0_79_0 a_0_82_0
       exact run_told' 9 (hy_of (H := [(0, 12, 0, 0), (0, 22, 0, 0), (0, 28, 0, 0), (0, 32, 0, 0), (0, 79, 0, 1), (0, 82, 0, 1), (0, 65, 0, 0), (0, 69, 0, 0), (0, 85, 0, 1), (0, 88, 0, 1)]) hσ trianglePartners_wf trianglePartners_sz trianglePartners_lt trianglePartners_cn hq h0 (And.intro (hF a_0_12_0) (And.intro (hF a_0_22_0) (And.intro (hF a_0_28_0) (And.intro (hF a_0_32_0) (And.intro (hT a_0_79_0) (And.intro (hT a_0_82_0) (And.intro (hF a_0_65_0) (And.intro (hF a_0_69_0) (And.intro (hT a_0_85_0) (And.intro (hT a_0_88_0) trivial))))))))))) hcl (by kernel_rfl) trianglePartners_r4 ⟨tab, mx⟩ (hA _)
      ·
       have a_0_65_0 : ¬ (q 65 = 0) := trianglePartners_f8 E6 E7 E8 E9 E10 E11 E12 E15 E16 E17 E18 E19 E20 E21 E22 E23 E24 E25 E26 E27 E28 E29 E30 E31 E32 E33 E34 E35 E36 E37 E38 E39 E40 E41 E42 E43 E44 E45 E46 E60 E61 E62 E63 E64 E65 E70 E71 E73 E74 E77 E78 E79 E80 E81 E82 a_0_12_0 a_0_22_0 a_0_28_0 a_0_32_0 a_0_79_0 a_0_82_0
       have a_0_69_0 : ¬ (q 69 = 0) := trianglePartners_f9 E6 E7 E8 E9 E10 E11 E12 E15 E16 E17 E18 E19 E20 E21 E22 E23 E24 E25 E26 E27 E28 E29 E30 E31 E32 E33 E34 E35 E36 E37 E38 E39 E40 E41 E42 E43 E44 E45 E46 E60 E61 E66 E67 E68 E69 E70 E71 E73 E74 E77 E78 E79 E80 E81 E82 a_0_12_0 a_0_22_0 a_0_28_0 a_0_32_0 a_0_79_0 a_0_82_0
       have a_0_85_0 : q 85 = 0 := trianglePartners_f10 E6 E7 E8 E9 E10 E11 E12 E15 E16 E17 E18 E19 E20 E21 E22 E23 E24 E25 E26 E27 E28 E29 E30 E31 E32 E33 E34 E35 E36 E37 E38 E39 E40 E41 E42 E43 E44 E45 E46 E47 E48 E49 E50 E51 E52 E53 E54 E55 E56 E57 E58 E59 E60 E61 E62 E63 E64 E65 E66 E67 E68 E69 E70 E71 E72 E73 E74 E75 E77 E78 E79 E80 E81 E82 E83 E84 E85 a_0_12_0 a_0_22_0 a_0_28_0 a_0_32_0 a_0_79_0 a_0_82_0
       have a_0_88_0 : ¬ (q 88 = 0) := trianglePartners_f11 E6 E7 E8 E9 E10 E11 E12 E15 E16 E17 E18 E19 E20 E21 E22 E23 E24 E25 E26 E27 E28 E29 E30 E31 E32 E33 E34 E35 E36 E37 E38 E39 E40 E41 E42 E43 E44 E45 E46 E60 E61 E62 E63 E64 E65 E66 E67 E68 E69 E70 E71 E73 E74 E76 E77 E78 E79 E80 E81 E82 E86 E87 E88 a_0_12_0 a_0_22_0 a_0_28_0 a_0_32_0 a_0_79_0 a_0_82_0
       have a_3_102_113 : q 102 = q 113 := trianglePartners_f12 E6 E7 E8 E9 E10 E11 E12 E15 E16 E17 E18 E19 E20 E21 E22 E23 E24 E25 E26 E27 E28 E29 E30 E31 E32 E33 E34 E35 E36 E37 E38 E39 E40 E41 E42 E43 E44 E45 E46 E60 E61 E62 E63 E64 E65 E66 E67 E68 E69 E70 E71 E73 E74 E76 E77 E78 E79 E80 E81 E82 E86 E87 E88 E89 E91 E92 E94 E96 E98 E100 E102 E104 E106 E108 E110 E112 E113 a_0_12_0 a_0_22_0 a_0_28_0 a_0_32_0 a_0_79_0 a_0_82_0
       have a_3_103_114 : q 103 = q 114 := trianglePartners_f13 E6 E7 E8 E9 E10 E11 E12 E15 E16 E17 E18 E19 E20 E21 E22 E23 E24 E25 E26 E27 E28 E29 E30 E31 E32 E33 E34 E35 E36 E37 E38 E39 E40 E41 E42 E43 E44 E45 E46 E60 E61 E62 E63 E64 E65 E66 E67 E68 E69 E70 E71 E73 E74 E76 E77 E78 E79 E80 E81 E82 E86 E87 E88 E90 E91 E93 E95 E97 E99 E101 E103 E105 E107 E109 E111 E112 E114 a_0_12_0 a_0_22_0 a_0_28_0 a_0_32_0 a_0_79_0 a_0_82_0
       exact run_told' 9 (hy_of (H := [(0, 12, 0, 0), (0, 22, 0, 0), (0, 28, 0, 0), (0, 32, 0, 0), (0, 79, 0, 1), (0, 82, 0, 0), (0, 65, 0, 0), (0, 69, 0, 0), (0, 85, 0, 1), (0, 88, 0, 0), (3, 102, 113, 1), (3, 103, 114, 1)]) hσ trianglePartners_wf trianglePartners_sz trianglePartners_lt trianglePartners_cn hq h0 (And.intro (hF a_0_12_0) (And.intro (hF a_0_22_0) (And.intro (hF a_0_28_0) (And.intro (hF a_0_32_0) (And.intro (hT a_0_79_0) (And.intro (hF a_0_82_0) (And.intro (hF a_0_65_0) (And.intro (hF a_0_69_0) (And.intro (hT a_0_85_0) (And.intro (hF a_0_88_0) (And.intro (hT a_3_102_113) (And.intro (hT a_3_103_114) trivial))))))))))))) hcl (by kernel_rfl) trianglePartners_r5 ⟨tab, mx⟩ (hA _)
     ·
      by_cases a_0_82_0 : q 82 = 0
      ·
       have a_0_65_0 : ¬ (q 65 = 0) := trianglePartners_f14 E6 E7 E8 E9 E10 E11 E12 E15 E16 E17 E18 E19 E20 E21 E22 E23 E24 E25 E26 E27 E28 E29 E30 E31 E32 E33 E34 E35 E36 E37 E38 E39 E40 E41 E42 E43 E44 E45 E46 E60 E61 E62 E63 E64 E65 E70 E71 E73 E74 E77 E78 E79 E80 E81 E82 a_0_12_0 a_0_22_0 a_0_28_0 a_0_32_0 a_0_79_0 a_0_82_0
       have a_0_69_0 : ¬ (q 69 = 0) := trianglePartners_f15 E6 E7 E8 E9 E10 E11 E12 E15 E16 E17 E18 E19 E20 E21 E22 E23 E24 E25 E26 E27 E28 E29 E30 E31 E32 E33 E34 E35 E36 E37 E38 E39 E40 E41 E42 E43 E44 E45 E46 E60 E61 E66 E67 E68 E69 E70 E71 E73 E74 E77 E78 E79 E80 E81 E82 a_0_12_0 a_0_22_0 a_0_28_0 a_0_32_0 a_0_79_0 a_0_82_0
       have a_0_85_0 : ¬ (q 85 = 0) := trianglePartners_f16 E6 E7 E8 E9 E10 E11 E12 E15 E16 E17 E18 E19 E20 E21 E22 E23 E24 E25 E26 E27 E28 E29 E30 E31 E32 E33 E34 E35 E36 E37 E38 E39 E40 E41 E42 E43 E44 E45 E46 E47 E48 E49 E50 E51 E52 E53 E54 E55 E56 E57 E58 E59 E60 E61 E62 E63 E64 E65 E66 E67 E68 E69 E70 E71 E72 E73 E74 E75 E77 E78 E79 E80 E81 E82 E83 E84 E85 a_0_12_0 a_0_22_0 a_0_28_0 a_0_32_0 a_0_79_0 a_0_82_0
       have a_0_88_0 : q 88 = 0 := trianglePartners_f17 E6 E7 E8 E9 E10 E11 E12 E15 E16 E17 E18 E19 E20 E21 E22 E23 E24 E25 E26 E27 E28 E29 E30 E31 E32 E33 E34 E35 E36 E37 E38 E39 E40 E41 E42 E43 E44 E45 E46 E60 E61 E62 E63 E64 E65 E66 E67 E68 E69 E70 E71 E73 E74 E76 E77 E78 E79 E80 E81 E82 E86 E87 E88 a_0_12_0 a_0_22_0 a_0_28_0 a_0_32_0 a_0_79_0 a_0_82_0
       have a_3_127_140 : q 127 = q 140 := trianglePartners_f18 E6 E7 E8 E9 E10 E11 E12 E15 E16 E17 E18 E19 E20 E21 E22 E23 E24 E25 E26 E27 E28 E29 E30 E31 E32 E33 E34 E35 E36 E37 E38 E39 E40 E41 E42 E43 E44 E45 E46 E47 E48 E49 E50 E51 E52 E53 E54 E55 E56 E57 E58 E59 E60 E61 E62 E63 E64 E65 E66 E67 E68 E69 E70 E71 E72 E73 E74 E75 E77 E78 E79 E80 E81 E82 E83 E84 E85 E91 E115 E117 E119 E121 E123 E125 E127 E129 E131 E133 E135 E137 E139 E140 a_0_12_0 a_0_22_0 a_0_28_0 a_0_32_0 a_0_79_0 a_0_82_0
       have a_3_128_141 : q 128 = q 141 := trianglePartners_f19 E6 E7 E8 E9 E10 E11 E12 E15 E16 E17 E18 E19 E20 E21 E22 E23 E24 E25 E26 E27 E28 E29 E30 E31 E32 E33 E34 E35 E36 E37 E38 E39 E40 E41 E42 E43 E44 E45 E46 E47 E48 E49 E50 E51 E52 E53 E54 E55 E56 E57 E58 E59 E60 E61 E62 E63 E64 E65 E66 E67 E68 E69 E70 E71 E72 E73 E74 E75 E77 E78 E79 E80 E81 E82 E83 E84 E85 E91 E116 E118 E120 E122 E124 E126 E128 E130 E132 E134 E136 E138 E139 E141 a_0_12_0 a_0_22_0 a_0_28_0 a_0_32_0 a_0_79_0 a_0_82_0
       exact run_told' 9 (hy_of (H := [(0, 12, 0, 0), (0, 22, 0, 0), (0, 28, 0, 0), (0, 32, 0, 0), (0, 79, 0, 0), (0, 82, 0, 1), (0, 65, 0, 0), (0, 69, 0, 0), (0, 85, 0, 0), (0, 88, 0, 1), (3, 127, 140, 1), (3, 128, 141, 1)]) hσ trianglePartners_wf trianglePartners_sz trianglePartners_lt trianglePartners_cn hq h0 (And.intro (hF a_0_12_0) (And.intro (hF a_0_22_0) (And.intro (hF a_0_28_0) (And.intro (hF a_0_32_0) (And.intro (hF a_0_79_0) (And.intro (hT a_0_82_0) (And.intro (hF a_0_65_0) (And.intro (hF a_0_69_0) (And.intro (hF a_0_85_0) (And.intro (hT a_0_88_0) (And.intro (hT a_3_127_140) (And.intro (hT a_3_128_141) trivial))))))))))))) hcl (by kernel_rfl) trianglePartners_r6 ⟨tab, mx⟩ (hA _)
      ·
       have a_0_65_0 : ¬ (q 65 = 0) := trianglePartners_f20 E6 E7 E8 E9 E10 E11 E12 E15 E16 E17 E18 E19 E20 E21 E22 E23 E24 E25 E26 E27 E28 E29 E30 E31 E32 E33 E34 E35 E36 E37 E38 E39 E40 E41 E42 E43 E44 E45 E46 E60 E61 E62 E63 E64 E65 E70 E71 E73 E74 E77 E78 E79 E80 E81 E82 a_0_12_0 a_0_22_0 a_0_28_0 a_0_32_0 a_0_79_0 a_0_82_0
       have a_0_69_0 : ¬ (q 69 = 0) := trianglePartners_f21 E6 E7 E8 E9 E10 E11 E12 E15 E16 E17 E18 E19 E20 E21 E22 E23 E24 E25 E26 E27 E28 E29 E30 E31 E32 E33 E34 E35 E36 E37 E38 E39 E40 E41 E42 E43 E44 E45 E46 E60 E61 E66 E67 E68 E69 E70 E71 E73 E74 E77 E78 E79 E80 E81 E82 a_0_12_0 a_0_22_0 a_0_28_0 a_0_32_0 a_0_79_0 a_0_82_0
       have a_0_85_0 : ¬ (q 85 = 0) := trianglePartners_f22 E6 E7 E8 E9 E10 E11 E12 E15 E16 E17 E18 E19 E20 E21 E22 E23 E24 E25 E26 E27 E28 E29 E30 E31 E32 E33 E34 E35 E36 E37 E38 E39 E40 E41 E42 E43 E44 E45 E46 E47 E48 E49 E50 E51 E52 E53 E54 E55 E56 E57 E58 E59 E60 E61 E62 E63 E64 E65 E66 E67 E68 E69 E70 E71 E72 E73 E74 E75 E77 E78 E79 E80 E81 E82 E83 E84 E85 a_0_12_0 a_0_22_0 a_0_28_0 a_0_32_0 a_0_79_0 a_0_82_0
       have a_0_88_0 : ¬ (q 88 = 0) := trianglePartners_f23 E6 E7 E8 E9 E10 E11 E12 E15 E16 E17 E18 E19 E20 E21 E22 E23 E24 E25 E26 E27 E28 E29 E30 E31 E32 E33 E34 E35 E36 E37 E38 E39 E40 E41 E42 E43 E44 E45 E46 E60 E61 E62 E63 E64 E65 E66 E67 E68 E69 E70 E71 E73 E74 E76 E77 E78 E79 E80 E81 E82 E86 E87 E88 a_0_12_0 a_0_22_0 a_0_28_0 a_0_32_0 a_0_79_0 a_0_82_0
       have a_3_127_140 : q 127 = q 140 := trianglePartners_f24 E6 E7 E8 E9 E10 E11 E12 E15 E16 E17 E18 E19 E20 E21 E22 E23 E24 E25 E26 E27 E28 E29 E30 E31 E32 E33 E34 E35 E36 E37 E38 E39 E40 E41 E42 E43 E44 E45 E46 E47 E48 E49 E50 E51 E52 E53 E54 E55 E56 E57 E58 E59 E60 E61 E62 E63 E64 E65 E66 E67 E68 E69 E70 E71 E72 E73 E74 E75 E77 E78 E79 E80 E81 E82 E83 E84 E85 E91 E115 E117 E119 E121 E123 E125 E127 E129 E131 E133 E135 E137 E139 E140 a_0_12_0 a_0_22_0 a_0_28_0 a_0_32_0 a_0_79_0 a_0_82_0
       have a_3_128_141 : q 128 = q 141 := trianglePartners_f25 E6 E7 E8 E9 E10 E11 E12 E15 E16 E17 E18 E19 E20 E21 E22 E23 E24 E25 E26 E27 E28 E29 E30 E31 E32 E33 E34 E35 E36 E37 E38 E39 E40 E41 E42 E43 E44 E45 E46 E47 E48 E49 E50 E51 E52 E53 E54 E55 E56 E57 E58 E59 E60 E61 E62 E63 E64 E65 E66 E67 E68 E69 E70 E71 E72 E73 E74 E75 E77 E78 E79 E80 E81 E82 E83 E84 E85 E91 E116 E118 E120 E122 E124 E126 E128 E130 E132 E134 E136 E138 E139 E141 a_0_12_0 a_0_22_0 a_0_28_0 a_0_32_0 a_0_79_0 a_0_82_0
       have a_3_102_113 : q 102 = q 113 := trianglePartners_f26 E6 E7 E8 E9 E10 E11 E12 E15 E16 E17 E18 E19 E20 E21 E22 E23 E24 E25 E26 E27 E28 E29 E30 E31 E32 E33 E34 E35 E36 E37 E38 E39 E40 E41 E42 E43 E44 E45 E46 E60 E61 E62 E63 E64 E65 E66 E67 E68 E69 E70 E71 E73 E74 E76 E77 E78 E79 E80 E81 E82 E86 E87 E88 E89 E91 E92 E94 E96 E98 E100 E102 E104 E106 E108 E110 E112 E113 a_0_12_0 a_0_22_0 a_0_28_0 a_0_32_0 a_0_79_0 a_0_82_0
       have a_3_103_114 : q 103 = q 114 := trianglePartners_f27 E6 E7 E8 E9 E10 E11 E12 E15 E16 E17 E18 E19 E20 E21 E22 E23 E24 E25 E26 E27 E28 E29 E30 E31 E32 E33 E34 E35 E36 E37 E38 E39 E40 E41 E42 E43 E44 E45 E46 E60 E61 E62 E63 E64 E65 E66 E67 E68 E69 E70 E71 E73 E74 E76 E77 E78 E79 E80 E81 E82 E86 E87 E88 E90 E91 E93 E95 E97 E99 E101 E103 E105 E107 E109 E111 E112 E114 a_0_12_0 a_0_22_0 a_0_28_0 a_0_32_0 a_0_79_0 a_0_82_0
       exact run_told' 9 (hy_of (H := [(0, 12, 0, 0), (0, 22, 0, 0), (0, 28, 0, 0), (0, 32, 0, 0), (0, 79, 0, 0), (0, 82, 0, 0), (0, 65, 0, 0), (0, 69, 0, 0), (0, 85, 0, 0), (0, 88, 0, 0), (3, 127, 140, 1), (3, 128, 141, 1), (3, 102, 113, 1), (3, 103, 114, 1)]) hσ trianglePartners_wf trianglePartners_sz trianglePartners_lt trianglePartners_cn hq h0 (And.intro (hF a_0_12_0) (And.intro (hF a_0_22_0) (And.intro (hF a_0_28_0) (And.intro (hF a_0_32_0) (And.intro (hF a_0_79_0) (And.intro (hF a_0_82_0) (And.intro (hF a_0_65_0) (And.intro (hF a_0_69_0) (And.intro (hF a_0_85_0) (And.intro (hF a_0_88_0) (And.intro (hT a_3_127_140) (And.intro (hT a_3_128_141) (And.intro (hT a_3_102_113) (And.intro (hT a_3_103_114) trivial))))))))))))))) hcl (by kernel_rfl) trianglePartners_r7 ⟨tab, mx⟩ (hA _)
end Go.Proofs.YtioacnhbiinjbaaGreatDoor
