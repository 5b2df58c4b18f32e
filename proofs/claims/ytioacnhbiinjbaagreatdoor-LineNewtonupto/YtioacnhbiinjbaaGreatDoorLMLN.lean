/- Part 13 of the walks and of the mathematics under them: CFlined MLN. -/
import Derived.Test.YtioacnhbiinjbaaGreatDoorA12
set_option maxHeartbeats 16000000
set_option maxRecDepth 100000
/- CFlined -/
namespace Go.Proofs.YtioacnhbiinjbaaGreatDoor
open Go.RowKit Cx
theorem closed_lined : Closed 43 :=
 closed_told (N := [(0, [0, 0, 1]), (0, [0, 1, 1]), (0, [0, 3, 1]), (3, [1, 0]), (3, [2, 1]), (5, [4]), (4, [5, 0]), (4, [3, 1]), (2, [6, 7]), (5, [8]), (8, [0, 5, 3, 9]), (8, [1, 5, 3, 9]), (8, [2, 5, 3, 9]), (0, [1, 5, 1]), (4, [10, 1]), (4, [11, 0]), (3, [14, 15]), (4, [0, 12]), (4, [1, 12]), (4, [10, 13]), (4, [11, 13]), (3, [17, 19]), (3, [18, 20]), (5, [22]), (6, [23, 16]), (6, [21, 16]), (4, [1, 1]), (4, [1, 0]), (2, [26, 27]), (2, [28, 0]), (5, [29]), (4, [1, 30]), (2, [26, 26]), (6, [31, 32]), (4, [33, 1]), (2, [0, 1]), (2, [0, 0]), (2, [35, 34]), (2, [36, 34]), (0, [0, 2, 1]), (0, [1, 1, 1]), (0, [0, 5, 1]), (0, [0, 1, 2]), (0, [1, 1, 2])]) (H := [(0, 5, 0, 0), (0, 10, 0, 0), (0, 0, 0, 1), (0, 1, 0, 0), (0, 16, 0, 0), (4, 10, 39, 1), (4, 11, 40, 1), (4, 12, 1, 1), (4, 24, 39, 1), (4, 25, 41, 1), (4, 37, 42, 1), (4, 38, 43, 1)]) (K := []) (L := [([48], 0), ([49], 1), ([51], 2), ([45, 53], 13), ([50], 39), ([45, 49], 40), ([53], 41), ([49, 47, 50], 42), ([45, 49, 47, 50], 43)]) (C := [([50], 39), ([45, 49], 40), ([49], 1), ([53], 41), ([49, 47, 50], 42), ([45, 49, 47, 50], 43)]) (Z := [2, 2, 3, 5, 6, 6, 8, 7, 16, 16, 65, 65, 65, 4, 67, 67, 135, 67, 67, 69, 69, 137, 137, 137, 272, 272, 4, 4, 9, 12, 12, 14, 9, 23, 25, 5, 5, 31, 31, 3, 2, 4, 3, 3]) (cl := []) 6 (fun _ h => by cases h) (by kernel_rfl) (by kernel_rfl) (by kernel_rfl) (by kernel_rfl) (by kernel_rfl) (by kernel_rfl) (by kernel_rfl)
end Go.Proofs.YtioacnhbiinjbaaGreatDoor
/- MLN -/
namespace Go.Proofs.YtioacnhbiinjbaaGreatDoor
open Go.RowKit Cx
def lineNewton_N : List Nd := [(1, [3]), (1, [4]), (1, [5]), (1, [0]), (1, [1]), (1, [2]), (4, [0, 4]), (4, [1, 3]), (3, [6, 7]), (4, [3, 2]), (4, [4, 2]), (4, [0, 5]), (4, [1, 5]), (3, [9, 11]), (3, [10, 12]), (5, [14]), (6, [15, 8]), (6, [13, 8]), (1, [6]), (1, [7]), (1, [8]), (4, [18, 4]), (4, [19, 3]), (3, [21, 22]), (4, [3, 20]), (4, [4, 20]), (4, [18, 5]), (4, [19, 5]), (3, [24, 26]), (3, [25, 27]), (5, [29]), (6, [30, 23]), (6, [28, 23]), (4, [18, 1]), (4, [19, 0]), (3, [33, 34]), (4, [0, 20]), (4, [1, 20]), (4, [18, 2]), (4, [19, 2]), (3, [36, 38]), (3, [37, 39]), (5, [41]), (6, [42, 35]), (6, [40, 35]), (1, [9]), (1, [10]), (1, [11]), (4, [45, 4]), (4, [46, 3]), (3, [48, 49]), (4, [3, 47]), (4, [4, 47]), (4, [45, 5]), (4, [46, 5]), (3, [51, 53]), (3, [52, 54]), (5, [56]), (6, [57, 50]), (6, [55, 50]), (4, [45, 1]), (4, [46, 0]), (3, [60, 61]), (4, [0, 47]), (4, [1, 47]), (4, [45, 2]), (4, [46, 2]), (3, [63, 65]), (3, [64, 66]), (5, [68]), (6, [69, 62]), (6, [67, 62]), (4, [45, 19]), (4, [46, 18]), (3, [72, 73]), (4, [18, 47]), (4, [19, 47]), (4, [45, 20]), (4, [46, 20]), (3, [75, 77]), (3, [76, 78]), (5, [80]), (6, [81, 74]), (6, [79, 74]), (3, [43, 16]), (3, [44, 17]), (3, [70, 16]), (3, [71, 17]), (3, [82, 31]), (3, [83, 32]), (3, [82, 43]), (3, [83, 44]), (0, [0, 1, 2]), (3, [82, 16]), (3, [83, 17]), (4, [93, 92]), (4, [94, 92]), (2, [16, 95]), (2, [17, 96]), (3, [70, 31]), (3, [71, 32]), (4, [99, 92]), (4, [100, 92]), (2, [31, 101]), (2, [32, 102]), (3, [43, 58]), (3, [44, 59]), (4, [105, 92]), (4, [106, 92]), (2, [58, 107]), (2, [59, 108]), (3, [103, 97]), (3, [104, 98]), (3, [109, 97]), (3, [110, 98]), (4, [111, 114]), (4, [112, 113]), (3, [115, 116])]
def lineNewton_L : List (List Nat × Nat) := []
def lineNewton_C : List (List Nat × Nat) := []
def lineNewton_Z : List Nat := [4194309, 4194309, 4194309, 4194309, 4194309, 4194309, 8388618, 8388618, 16777237, 8388618, 8388618, 8388618, 8388618, 16777237, 16777237, 16777237, 33554474, 33554474, 4194309, 4194309, 4194309, 8388618, 8388618, 16777237, 8388618, 8388618, 8388618, 8388618, 16777237, 16777237, 16777237, 33554474, 33554474, 8388618, 8388618, 16777237, 8388618, 8388618, 8388618, 8388618, 16777237, 16777237, 16777237, 33554474, 33554474, 4194309, 4194309, 4194309, 8388618, 8388618, 16777237, 8388618, 8388618, 8388618, 8388618, 16777237, 16777237, 16777237, 33554474, 33554474, 8388618, 8388618, 16777237, 8388618, 8388618, 8388618, 8388618, 16777237, 16777237, 16777237, 33554474, 33554474, 8388618, 8388618, 16777237, 8388618, 8388618, 8388618, 8388618, 16777237, 16777237, 16777237, 33554474, 33554474, 67108949, 67108949, 67108949, 67108949, 67108949, 67108949, 67108949, 67108949, 3, 67108949, 67108949, 67108952, 67108952, 100663427, 100663427, 67108949, 67108949, 67108952, 67108952, 100663427, 100663427, 67108949, 67108949, 67108952, 67108952, 100663427, 100663427, 201326855, 201326855, 201326855, 201326855, 402653710, 402653710, 805307421]
theorem lineNewton_wf : wfB 0 lineNewton_N = true := by kernel_rfl
theorem lineNewton_sz : szB lineNewton_Z lineNewton_N lineNewton_Z = true := by kernel_rfl
theorem lineNewton_lt : litB lineNewton_N lineNewton_L = true := by kernel_rfl
theorem lineNewton_cn : canB lineNewton_N lineNewton_C = true := by kernel_rfl
theorem lineNewton_c92 : cst 0 1 2 = ((1 / 2) : Rat) := by decide +kernel
theorem lineNewton_f0 {z0 z1 z2 z3 z4 z5 z6 z7 z8 z9 z10 z11 z12 z13 z14 z15 z16 z17 z18 z19 z20 z21 z22 z23 z24 z25 z26 z27 z28 z29 z30 z31 z32 z33 z34 z35 z36 z37 z38 z39 z40 z41 z42 z43 z44 z45 z46 z47 z48 z49 z50 z51 z52 z53 z54 z55 z56 z57 z58 z59 z60 z61 z62 z63 z64 z65 z66 z67 z68 z69 z70 z71 z72 z73 z74 z75 z76 z77 z78 z79 z80 z81 z82 z83 z84 z85 z86 z87 z88 z89 z90 z91 z92 z93 z94 z95 z96 z97 z98 z99 z100 z101 z102 z103 z104 z105 z106 z107 z108 z109 z110 z111 z112 z113 z114 z115 z116 z117 : Rat} : z6 = z0 * z4 → z7 = z1 * z3 → z8 = z6 - z7 → z9 = z3 * z2 → z10 = z4 * z2 → z11 = z0 * z5 → z12 = z1 * z5 → z13 = z9 - z11 → z14 = z10 - z12 → z15 = -z14 → z16 = z15 / z8 → z17 = z13 / z8 → z21 = z18 * z4 → z22 = z19 * z3 → z23 = z21 - z22 → z24 = z3 * z20 → z25 = z4 * z20 → z26 = z18 * z5 → z27 = z19 * z5 → z28 = z24 - z26 → z29 = z25 - z27 → z30 = -z29 → z31 = z30 / z23 → z32 = z28 / z23 → z33 = z18 * z1 → z34 = z19 * z0 → z35 = z33 - z34 → z36 = z0 * z20 → z37 = z1 * z20 → z38 = z18 * z2 → z39 = z19 * z2 → z40 = z36 - z38 → z41 = z37 - z39 → z42 = -z41 → z43 = z42 / z35 → z44 = z40 / z35 → z48 = z45 * z4 → z49 = z46 * z3 → z50 = z48 - z49 → z51 = z3 * z47 → z52 = z4 * z47 → z53 = z45 * z5 → z54 = z46 * z5 → z55 = z51 - z53 → z56 = z52 - z54 → z57 = -z56 → z58 = z57 / z50 → z59 = z55 / z50 → z60 = z45 * z1 → z61 = z46 * z0 → z62 = z60 - z61 → z63 = z0 * z47 → z64 = z1 * z47 → z65 = z45 * z2 → z66 = z46 * z2 → z67 = z63 - z65 → z68 = z64 - z66 → z69 = -z68 → z70 = z69 / z62 → z71 = z67 / z62 → z72 = z45 * z19 → z73 = z46 * z18 → z74 = z72 - z73 → z75 = z18 * z47 → z76 = z19 * z47 → z77 = z45 * z20 → z78 = z46 * z20 → z79 = z75 - z77 → z80 = z76 - z78 → z81 = -z80 → z82 = z81 / z74 → z83 = z79 / z74 → z84 = z43 - z16 → z85 = z44 - z17 → z86 = z70 - z16 → z87 = z71 - z17 → z88 = z82 - z31 → z89 = z83 - z32 → z90 = z82 - z43 → z91 = z83 - z44 → z92 = (1 / 2) → z93 = z82 - z16 → z94 = z83 - z17 → z95 = z93 * z92 → z96 = z94 * z92 → z97 = z16 + z95 → z98 = z17 + z96 → z99 = z70 - z31 → z100 = z71 - z32 → z101 = z99 * z92 → z102 = z100 * z92 → z103 = z31 + z101 → z104 = z32 + z102 → z105 = z43 - z58 → z106 = z44 - z59 → z107 = z105 * z92 → z108 = z106 * z92 → z109 = z58 + z107 → z110 = z59 + z108 → z111 = z103 - z97 → z112 = z104 - z98 → z113 = z109 - z97 → z114 = z110 - z98 → z115 = z111 * z114 → z116 = z112 * z113 → z117 = z115 - z116 → (¬ (z0 = 0 ∧ z1 = 0)) → (¬ (z3 = 0 ∧ z4 = 0)) → (¬ (z8 = 0)) → (¬ (z18 = 0 ∧ z19 = 0)) → (¬ (z23 = 0)) → (¬ (z35 = 0)) → (¬ (z45 = 0 ∧ z46 = 0)) → (¬ (z50 = 0)) → (¬ (z62 = 0)) → (¬ (z74 = 0)) → (¬ (z84 = 0 ∧ z85 = 0)) → (¬ (z86 = 0 ∧ z87 = 0)) → (¬ (z88 = 0 ∧ z89 = 0)) → (¬ (z90 = 0 ∧ z91 = 0)) → z117 = 0 := by
 intro e6 e7 e8 e9 e10 e11 e12 e13 e14 e15 e16 e17 e21 e22 e23 e24 e25 e26 e27 e28 e29 e30 e31 e32 e33 e34 e35 e36 e37 e38 e39 e40 e41 e42 e43 e44 e48 e49 e50 e51 e52 e53 e54 e55 e56 e57 e58 e59 e60 e61 e62 e63 e64 e65 e66 e67 e68 e69 e70 e71 e72 e73 e74 e75 e76 e77 e78 e79 e80 e81 e82 e83 e84 e85 e86 e87 e88 e89 e90 e91 e92 e93 e94 e95 e96 e97 e98 e99 e100 e101 e102 e103 e104 e105 e106 e107 e108 e109 e110 e111 e112 e113 e114 e115 e116 e117 u0 u1 u2 u3 u4 u5 u6 u7 u8 u9 u10 u11 u12 u13
 have n8 : z8 ≠ 0 := by grind
 have n23 : z23 ≠ 0 := by grind
 have n35 : z35 ≠ 0 := by grind
 have n50 : z50 ≠ 0 := by grind
 have n62 : z62 ≠ 0 := by grind
 have n74 : z74 ≠ 0 := by grind
 subst_vars; grind
theorem lineNewton_r0 : (callB (sx Tryz.prog lineNewton_N [(6, 0, 1, 1)] [] lineNewton_L lineNewton_C lineNewton_Z (prQ [43])) 5 5 [(false, [(true, [.inr (2, 0, 0, 0, 0), .inr (2, 1, 0, 0, 0), .inr (2, 2, 0, 0, 0), .inr (2, 3, 0, 0, 0), .inr (2, 4, 0, 0, 0), .inr (2, 5, 0, 0, 0), .inr (2, 6, 0, 0, 0), .inr (2, 7, 0, 0, 0), .inr (2, 8, 0, 0, 0), .inr (2, 9, 0, 0, 0), .inr (2, 10, 0, 0, 0), .inr (2, 11, 0, 0, 0)])])] [] 0).map (·.1) = some (kB true) := by kernel_rfl
theorem lineNewton_r1 : (callB (sx Tryz.prog lineNewton_N [(6, 0, 1, 0), (6, 3, 4, 1)] [] lineNewton_L lineNewton_C lineNewton_Z (prQ [43])) 5 5 [(false, [(true, [.inr (2, 0, 0, 0, 0), .inr (2, 1, 0, 0, 0), .inr (2, 2, 0, 0, 0), .inr (2, 3, 0, 0, 0), .inr (2, 4, 0, 0, 0), .inr (2, 5, 0, 0, 0), .inr (2, 6, 0, 0, 0), .inr (2, 7, 0, 0, 0), .inr (2, 8, 0, 0, 0), .inr (2, 9, 0, 0, 0), .inr (2, 10, 0, 0, 0), .inr (2, 11, 0, 0, 0)])])] [] 0).map (·.1) = some (kB true) := by kernel_rfl
theorem lineNewton_r2 : (callB (sx Tryz.prog lineNewton_N [(6, 0, 1, 0), (6, 3, 4, 0), (0, 8, 0, 1), (6, 13, 14, 1)] [] lineNewton_L lineNewton_C lineNewton_Z (prQ [43])) 5 5 [(false, [(true, [.inr (2, 0, 0, 0, 0), .inr (2, 1, 0, 0, 0), .inr (2, 2, 0, 0, 0), .inr (2, 3, 0, 0, 0), .inr (2, 4, 0, 0, 0), .inr (2, 5, 0, 0, 0), .inr (2, 6, 0, 0, 0), .inr (2, 7, 0, 0, 0), .inr (2, 8, 0, 0, 0), .inr (2, 9, 0, 0, 0), .inr (2, 10, 0, 0, 0), .inr (2, 11, 0, 0, 0)])])] [] 0).map (·.1) = some (kB true) := by kernel_rfl
theorem lineNewton_r3 : (callB (sx Tryz.prog lineNewton_N [(6, 0, 1, 0), (6, 3, 4, 0), (0, 8, 0, 1), (6, 13, 14, 0)] [] lineNewton_L lineNewton_C lineNewton_Z (prQ [43])) 5 5 [(false, [(true, [.inr (2, 0, 0, 0, 0), .inr (2, 1, 0, 0, 0), .inr (2, 2, 0, 0, 0), .inr (2, 3, 0, 0, 0), .inr (2, 4, 0, 0, 0), .inr (2, 5, 0, 0, 0), .inr (2, 6, 0, 0, 0), .inr (2, 7, 0, 0, 0), .inr (2, 8, 0, 0, 0), .inr (2, 9, 0, 0, 0), .inr (2, 10, 0, 0, 0), .inr (2, 11, 0, 0, 0)])])] [] 0).map (·.1) = some (kB true) := by kernel_rfl
theorem lineNewton_r4 : (callB (sx Tryz.prog lineNewton_N [(6, 0, 1, 0), (6, 3, 4, 0), (0, 8, 0, 0), (6, 18, 19, 1)] [] lineNewton_L lineNewton_C lineNewton_Z (prQ [43])) 5 5 [(false, [(true, [.inr (2, 0, 0, 0, 0), .inr (2, 1, 0, 0, 0), .inr (2, 2, 0, 0, 0), .inr (2, 3, 0, 0, 0), .inr (2, 4, 0, 0, 0), .inr (2, 5, 0, 0, 0), .inr (2, 6, 0, 0, 0), .inr (2, 7, 0, 0, 0), .inr (2, 8, 0, 0, 0), .inr (2, 9, 0, 0, 0), .inr (2, 10, 0, 0, 0), .inr (2, 11, 0, 0, 0)])])] [] 0).map (·.1) = some (kB true) := by kernel_rfl
theorem lineNewton_r5 : (callB (sx Tryz.prog lineNewton_N [(6, 0, 1, 0), (6, 3, 4, 0), (0, 8, 0, 0), (6, 18, 19, 0), (0, 23, 0, 1), (6, 28, 29, 1)] [] lineNewton_L lineNewton_C lineNewton_Z (prQ [43])) 5 5 [(false, [(true, [.inr (2, 0, 0, 0, 0), .inr (2, 1, 0, 0, 0), .inr (2, 2, 0, 0, 0), .inr (2, 3, 0, 0, 0), .inr (2, 4, 0, 0, 0), .inr (2, 5, 0, 0, 0), .inr (2, 6, 0, 0, 0), .inr (2, 7, 0, 0, 0), .inr (2, 8, 0, 0, 0), .inr (2, 9, 0, 0, 0), .inr (2, 10, 0, 0, 0), .inr (2, 11, 0, 0, 0)])])] [] 0).map (·.1) = some (kB true) := by kernel_rfl
theorem lineNewton_r6 : (callB (sx Tryz.prog lineNewton_N [(6, 0, 1, 0), (6, 3, 4, 0), (0, 8, 0, 0), (6, 18, 19, 0), (0, 23, 0, 1), (6, 28, 29, 0)] [] lineNewton_L lineNewton_C lineNewton_Z (prQ [43])) 5 5 [(false, [(true, [.inr (2, 0, 0, 0, 0), .inr (2, 1, 0, 0, 0), .inr (2, 2, 0, 0, 0), .inr (2, 3, 0, 0, 0), .inr (2, 4, 0, 0, 0), .inr (2, 5, 0, 0, 0), .inr (2, 6, 0, 0, 0), .inr (2, 7, 0, 0, 0), .inr (2, 8, 0, 0, 0), .inr (2, 9, 0, 0, 0), .inr (2, 10, 0, 0, 0), .inr (2, 11, 0, 0, 0)])])] [] 0).map (·.1) = some (kB true) := by kernel_rfl
theorem lineNewton_r7 : (callB (sx Tryz.prog lineNewton_N [(6, 0, 1, 0), (6, 3, 4, 0), (0, 8, 0, 0), (6, 18, 19, 0), (0, 23, 0, 0), (0, 35, 0, 1), (6, 40, 41, 1)] [] lineNewton_L lineNewton_C lineNewton_Z (prQ [43])) 5 5 [(false, [(true, [.inr (2, 0, 0, 0, 0), .inr (2, 1, 0, 0, 0), .inr (2, 2, 0, 0, 0), .inr (2, 3, 0, 0, 0), .inr (2, 4, 0, 0, 0), .inr (2, 5, 0, 0, 0), .inr (2, 6, 0, 0, 0), .inr (2, 7, 0, 0, 0), .inr (2, 8, 0, 0, 0), .inr (2, 9, 0, 0, 0), .inr (2, 10, 0, 0, 0), .inr (2, 11, 0, 0, 0)])])] [] 0).map (·.1) = some (kB true) := by kernel_rfl
theorem lineNewton_r8 : (callB (sx Tryz.prog lineNewton_N [(6, 0, 1, 0), (6, 3, 4, 0), (0, 8, 0, 0), (6, 18, 19, 0), (0, 23, 0, 0), (0, 35, 0, 1), (6, 40, 41, 0)] [] lineNewton_L lineNewton_C lineNewton_Z (prQ [43])) 5 5 [(false, [(true, [.inr (2, 0, 0, 0, 0), .inr (2, 1, 0, 0, 0), .inr (2, 2, 0, 0, 0), .inr (2, 3, 0, 0, 0), .inr (2, 4, 0, 0, 0), .inr (2, 5, 0, 0, 0), .inr (2, 6, 0, 0, 0), .inr (2, 7, 0, 0, 0), .inr (2, 8, 0, 0, 0), .inr (2, 9, 0, 0, 0), .inr (2, 10, 0, 0, 0), .inr (2, 11, 0, 0, 0)])])] [] 0).map (·.1) = some (kB true) := by kernel_rfl
theorem lineNewton_r9 : (callB (sx Tryz.prog lineNewton_N [(6, 0, 1, 0), (6, 3, 4, 0), (0, 8, 0, 0), (6, 18, 19, 0), (0, 23, 0, 0), (0, 35, 0, 0), (6, 45, 46, 1)] [] lineNewton_L lineNewton_C lineNewton_Z (prQ [43])) 5 5 [(false, [(true, [.inr (2, 0, 0, 0, 0), .inr (2, 1, 0, 0, 0), .inr (2, 2, 0, 0, 0), .inr (2, 3, 0, 0, 0), .inr (2, 4, 0, 0, 0), .inr (2, 5, 0, 0, 0), .inr (2, 6, 0, 0, 0), .inr (2, 7, 0, 0, 0), .inr (2, 8, 0, 0, 0), .inr (2, 9, 0, 0, 0), .inr (2, 10, 0, 0, 0), .inr (2, 11, 0, 0, 0)])])] [] 0).map (·.1) = some (kB true) := by kernel_rfl
theorem lineNewton_r10 : (callB (sx Tryz.prog lineNewton_N [(6, 0, 1, 0), (6, 3, 4, 0), (0, 8, 0, 0), (6, 18, 19, 0), (0, 23, 0, 0), (0, 35, 0, 0), (6, 45, 46, 0), (0, 50, 0, 1), (6, 55, 56, 1)] [] lineNewton_L lineNewton_C lineNewton_Z (prQ [43])) 5 5 [(false, [(true, [.inr (2, 0, 0, 0, 0), .inr (2, 1, 0, 0, 0), .inr (2, 2, 0, 0, 0), .inr (2, 3, 0, 0, 0), .inr (2, 4, 0, 0, 0), .inr (2, 5, 0, 0, 0), .inr (2, 6, 0, 0, 0), .inr (2, 7, 0, 0, 0), .inr (2, 8, 0, 0, 0), .inr (2, 9, 0, 0, 0), .inr (2, 10, 0, 0, 0), .inr (2, 11, 0, 0, 0)])])] [] 0).map (·.1) = some (kB true) := by kernel_rfl
theorem lineNewton_r11 : (callB (sx Tryz.prog lineNewton_N [(6, 0, 1, 0), (6, 3, 4, 0), (0, 8, 0, 0), (6, 18, 19, 0), (0, 23, 0, 0), (0, 35, 0, 0), (6, 45, 46, 0), (0, 50, 0, 1), (6, 55, 56, 0)] [] lineNewton_L lineNewton_C lineNewton_Z (prQ [43])) 5 5 [(false, [(true, [.inr (2, 0, 0, 0, 0), .inr (2, 1, 0, 0, 0), .inr (2, 2, 0, 0, 0), .inr (2, 3, 0, 0, 0), .inr (2, 4, 0, 0, 0), .inr (2, 5, 0, 0, 0), .inr (2, 6, 0, 0, 0), .inr (2, 7, 0, 0, 0), .inr (2, 8, 0, 0, 0), .inr (2, 9, 0, 0, 0), .inr (2, 10, 0, 0, 0), .inr (2, 11, 0, 0, 0)])])] [] 0).map (·.1) = some (kB true) := by kernel_rfl
theorem lineNewton_r12 : (callB (sx Tryz.prog lineNewton_N [(6, 0, 1, 0), (6, 3, 4, 0), (0, 8, 0, 0), (6, 18, 19, 0), (0, 23, 0, 0), (0, 35, 0, 0), (6, 45, 46, 0), (0, 50, 0, 0), (0, 62, 0, 1), (6, 67, 68, 1)] [] lineNewton_L lineNewton_C lineNewton_Z (prQ [43])) 5 5 [(false, [(true, [.inr (2, 0, 0, 0, 0), .inr (2, 1, 0, 0, 0), .inr (2, 2, 0, 0, 0), .inr (2, 3, 0, 0, 0), .inr (2, 4, 0, 0, 0), .inr (2, 5, 0, 0, 0), .inr (2, 6, 0, 0, 0), .inr (2, 7, 0, 0, 0), .inr (2, 8, 0, 0, 0), .inr (2, 9, 0, 0, 0), .inr (2, 10, 0, 0, 0), .inr (2, 11, 0, 0, 0)])])] [] 0).map (·.1) = some (kB true) := by kernel_rfl
theorem lineNewton_r13 : (callB (sx Tryz.prog lineNewton_N [(6, 0, 1, 0), (6, 3, 4, 0), (0, 8, 0, 0), (6, 18, 19, 0), (0, 23, 0, 0), (0, 35, 0, 0), (6, 45, 46, 0), (0, 50, 0, 0), (0, 62, 0, 1), (6, 67, 68, 0)] [] lineNewton_L lineNewton_C lineNewton_Z (prQ [43])) 5 5 [(false, [(true, [.inr (2, 0, 0, 0, 0), .inr (2, 1, 0, 0, 0), .inr (2, 2, 0, 0, 0), .inr (2, 3, 0, 0, 0), .inr (2, 4, 0, 0, 0), .inr (2, 5, 0, 0, 0), .inr (2, 6, 0, 0, 0), .inr (2, 7, 0, 0, 0), .inr (2, 8, 0, 0, 0), .inr (2, 9, 0, 0, 0), .inr (2, 10, 0, 0, 0), .inr (2, 11, 0, 0, 0)])])] [] 0).map (·.1) = some (kB true) := by kernel_rfl
theorem lineNewton_r14 : (callB (sx Tryz.prog lineNewton_N [(6, 0, 1, 0), (6, 3, 4, 0), (0, 8, 0, 0), (6, 18, 19, 0), (0, 23, 0, 0), (0, 35, 0, 0), (6, 45, 46, 0), (0, 50, 0, 0), (0, 62, 0, 0), (0, 74, 0, 1), (6, 79, 80, 1)] [] lineNewton_L lineNewton_C lineNewton_Z (prQ [43])) 5 5 [(false, [(true, [.inr (2, 0, 0, 0, 0), .inr (2, 1, 0, 0, 0), .inr (2, 2, 0, 0, 0), .inr (2, 3, 0, 0, 0), .inr (2, 4, 0, 0, 0), .inr (2, 5, 0, 0, 0), .inr (2, 6, 0, 0, 0), .inr (2, 7, 0, 0, 0), .inr (2, 8, 0, 0, 0), .inr (2, 9, 0, 0, 0), .inr (2, 10, 0, 0, 0), .inr (2, 11, 0, 0, 0)])])] [] 0).map (·.1) = some (kB true) := by kernel_rfl
theorem lineNewton_r15 : (callB (sx Tryz.prog lineNewton_N [(6, 0, 1, 0), (6, 3, 4, 0), (0, 8, 0, 0), (6, 18, 19, 0), (0, 23, 0, 0), (0, 35, 0, 0), (6, 45, 46, 0), (0, 50, 0, 0), (0, 62, 0, 0), (0, 74, 0, 1), (6, 79, 80, 0)] [] lineNewton_L lineNewton_C lineNewton_Z (prQ [43])) 5 5 [(false, [(true, [.inr (2, 0, 0, 0, 0), .inr (2, 1, 0, 0, 0), .inr (2, 2, 0, 0, 0), .inr (2, 3, 0, 0, 0), .inr (2, 4, 0, 0, 0), .inr (2, 5, 0, 0, 0), .inr (2, 6, 0, 0, 0), .inr (2, 7, 0, 0, 0), .inr (2, 8, 0, 0, 0), .inr (2, 9, 0, 0, 0), .inr (2, 10, 0, 0, 0), .inr (2, 11, 0, 0, 0)])])] [] 0).map (·.1) = some (kB true) := by kernel_rfl
theorem lineNewton_r16 : (callB (sx Tryz.prog lineNewton_N [(6, 0, 1, 0), (6, 3, 4, 0), (0, 8, 0, 0), (6, 18, 19, 0), (0, 23, 0, 0), (0, 35, 0, 0), (6, 45, 46, 0), (0, 50, 0, 0), (0, 62, 0, 0), (0, 74, 0, 0), (6, 84, 85, 1)] [] lineNewton_L lineNewton_C lineNewton_Z (prQ [43])) 5 5 [(false, [(true, [.inr (2, 0, 0, 0, 0), .inr (2, 1, 0, 0, 0), .inr (2, 2, 0, 0, 0), .inr (2, 3, 0, 0, 0), .inr (2, 4, 0, 0, 0), .inr (2, 5, 0, 0, 0), .inr (2, 6, 0, 0, 0), .inr (2, 7, 0, 0, 0), .inr (2, 8, 0, 0, 0), .inr (2, 9, 0, 0, 0), .inr (2, 10, 0, 0, 0), .inr (2, 11, 0, 0, 0)])])] [] 0).map (·.1) = some (kB true) := by kernel_rfl
theorem lineNewton_r17 : (callB (sx Tryz.prog lineNewton_N [(6, 0, 1, 0), (6, 3, 4, 0), (0, 8, 0, 0), (6, 18, 19, 0), (0, 23, 0, 0), (0, 35, 0, 0), (6, 45, 46, 0), (0, 50, 0, 0), (0, 62, 0, 0), (0, 74, 0, 0), (6, 84, 85, 0), (6, 86, 87, 1)] [] lineNewton_L lineNewton_C lineNewton_Z (prQ [43])) 5 5 [(false, [(true, [.inr (2, 0, 0, 0, 0), .inr (2, 1, 0, 0, 0), .inr (2, 2, 0, 0, 0), .inr (2, 3, 0, 0, 0), .inr (2, 4, 0, 0, 0), .inr (2, 5, 0, 0, 0), .inr (2, 6, 0, 0, 0), .inr (2, 7, 0, 0, 0), .inr (2, 8, 0, 0, 0), .inr (2, 9, 0, 0, 0), .inr (2, 10, 0, 0, 0), .inr (2, 11, 0, 0, 0)])])] [] 0).map (·.1) = some (kB true) := by kernel_rfl
theorem lineNewton_r18 : (callB (sx Tryz.prog lineNewton_N [(6, 0, 1, 0), (6, 3, 4, 0), (0, 8, 0, 0), (6, 18, 19, 0), (0, 23, 0, 0), (0, 35, 0, 0), (6, 45, 46, 0), (0, 50, 0, 0), (0, 62, 0, 0), (0, 74, 0, 0), (6, 84, 85, 0), (6, 86, 87, 0), (6, 88, 89, 1)] [] lineNewton_L lineNewton_C lineNewton_Z (prQ [43])) 5 5 [(false, [(true, [.inr (2, 0, 0, 0, 0), .inr (2, 1, 0, 0, 0), .inr (2, 2, 0, 0, 0), .inr (2, 3, 0, 0, 0), .inr (2, 4, 0, 0, 0), .inr (2, 5, 0, 0, 0), .inr (2, 6, 0, 0, 0), .inr (2, 7, 0, 0, 0), .inr (2, 8, 0, 0, 0), .inr (2, 9, 0, 0, 0), .inr (2, 10, 0, 0, 0), .inr (2, 11, 0, 0, 0)])])] [] 0).map (·.1) = some (kB true) := by kernel_rfl
theorem lineNewton_r19 : (callB (sx Tryz.prog lineNewton_N [(6, 0, 1, 0), (6, 3, 4, 0), (0, 8, 0, 0), (6, 18, 19, 0), (0, 23, 0, 0), (0, 35, 0, 0), (6, 45, 46, 0), (0, 50, 0, 0), (0, 62, 0, 0), (0, 74, 0, 0), (6, 84, 85, 0), (6, 86, 87, 0), (6, 88, 89, 0), (6, 90, 91, 1)] [] lineNewton_L lineNewton_C lineNewton_Z (prQ [43])) 5 5 [(false, [(true, [.inr (2, 0, 0, 0, 0), .inr (2, 1, 0, 0, 0), .inr (2, 2, 0, 0, 0), .inr (2, 3, 0, 0, 0), .inr (2, 4, 0, 0, 0), .inr (2, 5, 0, 0, 0), .inr (2, 6, 0, 0, 0), .inr (2, 7, 0, 0, 0), .inr (2, 8, 0, 0, 0), .inr (2, 9, 0, 0, 0), .inr (2, 10, 0, 0, 0), .inr (2, 11, 0, 0, 0)])])] [] 0).map (·.1) = some (kB true) := by kernel_rfl
theorem lineNewton_r20 : (callB (sx Tryz.prog lineNewton_N [(6, 0, 1, 0), (6, 3, 4, 0), (0, 8, 0, 0), (6, 18, 19, 0), (0, 23, 0, 0), (0, 35, 0, 0), (6, 45, 46, 0), (0, 50, 0, 0), (0, 62, 0, 0), (0, 74, 0, 0), (6, 84, 85, 0), (6, 86, 87, 0), (6, 88, 89, 0), (6, 90, 91, 0), (0, 117, 0, 1)] [(46, [.inr (3, 1, 0, 0, 0)])] lineNewton_L lineNewton_C lineNewton_Z (prQ [43])) 5 5 [(false, [(true, [.inr (2, 0, 0, 0, 0), .inr (2, 1, 0, 0, 0), .inr (2, 2, 0, 0, 0), .inr (2, 3, 0, 0, 0), .inr (2, 4, 0, 0, 0), .inr (2, 5, 0, 0, 0), .inr (2, 6, 0, 0, 0), .inr (2, 7, 0, 0, 0), .inr (2, 8, 0, 0, 0), .inr (2, 9, 0, 0, 0), .inr (2, 10, 0, 0, 0), .inr (2, 11, 0, 0, 0)])])] [] 0).map (·.1) = some (kB true) := by kernel_rfl
theorem lineNewton_walk {w : World} {lau lav law lbu lbv lbw lcu lcv lcw ldu ldv ldw : ByteArray} (slau : lau.size ≤ 1048576) (slav : lav.size ≤ 1048576) (slaw : law.size ≤ 1048576) (slbu : lbu.size ≤ 1048576) (slbv : lbv.size ≤ 1048576) (slbw : lbw.size ≤ 1048576) (slcu : lcu.size ≤ 1048576) (slcv : lcv.size ≤ 1048576) (slcw : lcw.size ≤ 1048576) (sldu : ldu.size ≤ 1048576) (sldv : ldv.size ≤ 1048576) (sldw : ldw.size ≤ 1048576) (tab : Tab w) (mx : MaxL w) :
  Calls Tryz.prog 5 #[.agg #[.string lau, .string lav, .string law, .string lbu, .string lbv, .string lbw, .string lcu, .string lcv, .string lcw, .string ldu, .string ldv, .string ldw]] w fun e w' => Below w.heap.size w w' ∧ e = .returned (.bool true) := by
 have hσ : ∀ j, (sgOf [lau, lav, law, lbu, lbv, lbw, lcu, lcv, lcw, ldu, ldv, ldw] j).size ≤ 1048576 := sgOf_size (by simp [slau, slav, slaw, slbu, slbv, slbw, slcu, slcv, slcw, sldu, sldv, sldw])
 have hcl : ∀ f ∈ ([43] : List FuncId), Closed f := by simp [closed_lined]
 obtain ⟨q, hq, h0⟩ := nodes_exist (sgOf [lau, lav, law, lbu, lbv, lbw, lcu, lcv, lcw, ldu, ldv, ldw]) lineNewton_N lineNewton_wf
 have hA : ∀ K, A2 (avOn (cOn (evS q (sgOf [lau, lav, law, lbu, lbv, lbw, lcu, lcv, lcw, ldu, ldv, ldw])) K (fun _ => none) w)) [(false, [(true, [.inr (2, 0, 0, 0, 0), .inr (2, 1, 0, 0, 0), .inr (2, 2, 0, 0, 0), .inr (2, 3, 0, 0, 0), .inr (2, 4, 0, 0, 0), .inr (2, 5, 0, 0, 0), .inr (2, 6, 0, 0, 0), .inr (2, 7, 0, 0, 0), .inr (2, 8, 0, 0, 0), .inr (2, 9, 0, 0, 0), .inr (2, 10, 0, 0, 0), .inr (2, 11, 0, 0, 0)])])] [.agg #[.string lau, .string lav, .string law, .string lbu, .string lbv, .string lbw, .string lcu, .string lcv, .string lcw, .string ldu, .string ldv, .string ldw]] := fun K => ⟨⟨⟨[.string lau, .string lav, .string law, .string lbu, .string lbv, .string lbw, .string lcu, .string lcv, .string lcw, .string ldu, .string ldv, .string ldw], rfl, rfl, rfl, rfl, rfl, rfl, rfl, rfl, rfl, rfl, rfl, rfl, rfl, trivial⟩, trivial⟩, trivial⟩
 have E6 : q 6 = q 0 * q 4 := hq 6 _ rfl
 have E7 : q 7 = q 1 * q 3 := hq 7 _ rfl
 have E8 : q 8 = q 6 - q 7 := hq 8 _ rfl
 have E9 : q 9 = q 3 * q 2 := hq 9 _ rfl
 have E10 : q 10 = q 4 * q 2 := hq 10 _ rfl
 have E11 : q 11 = q 0 * q 5 := hq 11 _ rfl
 have E12 : q 12 = q 1 * q 5 := hq 12 _ rfl
 have E13 : q 13 = q 9 - q 11 := hq 13 _ rfl
 have E14 : q 14 = q 10 - q 12 := hq 14 _ rfl
 have E15 : q 15 = -q 14 := hq 15 _ rfl
 have E16 : q 16 = q 15 / q 8 := hq 16 _ rfl
 have E17 : q 17 = q 13 / q 8 := hq 17 _ rfl
 have E21 : q 21 = q 18 * q 4 := hq 21 _ rfl
 have E22 : q 22 = q 19 * q 3 := hq 22 _ rfl
 have E23 : q 23 = q 21 - q 22 := hq 23 _ rfl
 have E24 : q 24 = q 3 * q 20 := hq 24 _ rfl
 have E25 : q 25 = q 4 * q 20 := hq 25 _ rfl
 have E26 : q 26 = q 18 * q 5 := hq 26 _ rfl
 have E27 : q 27 = q 19 * q 5 := hq 27 _ rfl
 have E28 : q 28 = q 24 - q 26 := hq 28 _ rfl
 have E29 : q 29 = q 25 - q 27 := hq 29 _ rfl
 have E30 : q 30 = -q 29 := hq 30 _ rfl
 have E31 : q 31 = q 30 / q 23 := hq 31 _ rfl
 have E32 : q 32 = q 28 / q 23 := hq 32 _ rfl
 have E33 : q 33 = q 18 * q 1 := hq 33 _ rfl
 have E34 : q 34 = q 19 * q 0 := hq 34 _ rfl
 have E35 : q 35 = q 33 - q 34 := hq 35 _ rfl
 have E36 : q 36 = q 0 * q 20 := hq 36 _ rfl
 have E37 : q 37 = q 1 * q 20 := hq 37 _ rfl
 have E38 : q 38 = q 18 * q 2 := hq 38 _ rfl
 have E39 : q 39 = q 19 * q 2 := hq 39 _ rfl
 have E40 : q 40 = q 36 - q 38 := hq 40 _ rfl
 have E41 : q 41 = q 37 - q 39 := hq 41 _ rfl
 have E42 : q 42 = -q 41 := hq 42 _ rfl
 have E43 : q 43 = q 42 / q 35 := hq 43 _ rfl
 have E44 : q 44 = q 40 / q 35 := hq 44 _ rfl
 have E48 : q 48 = q 45 * q 4 := hq 48 _ rfl
 have E49 : q 49 = q 46 * q 3 := hq 49 _ rfl
 have E50 : q 50 = q 48 - q 49 := hq 50 _ rfl
 have E51 : q 51 = q 3 * q 47 := hq 51 _ rfl
 have E52 : q 52 = q 4 * q 47 := hq 52 _ rfl
 have E53 : q 53 = q 45 * q 5 := hq 53 _ rfl
 have E54 : q 54 = q 46 * q 5 := hq 54 _ rfl
 have E55 : q 55 = q 51 - q 53 := hq 55 _ rfl
 have E56 : q 56 = q 52 - q 54 := hq 56 _ rfl
 have E57 : q 57 = -q 56 := hq 57 _ rfl
 have E58 : q 58 = q 57 / q 50 := hq 58 _ rfl
 have E59 : q 59 = q 55 / q 50 := hq 59 _ rfl
 have E60 : q 60 = q 45 * q 1 := hq 60 _ rfl
 have E61 : q 61 = q 46 * q 0 := hq 61 _ rfl
 have E62 : q 62 = q 60 - q 61 := hq 62 _ rfl
 have E63 : q 63 = q 0 * q 47 := hq 63 _ rfl
 have E64 : q 64 = q 1 * q 47 := hq 64 _ rfl
 have E65 : q 65 = q 45 * q 2 := hq 65 _ rfl
 have E66 : q 66 = q 46 * q 2 := hq 66 _ rfl
 have E67 : q 67 = q 63 - q 65 := hq 67 _ rfl
 have E68 : q 68 = q 64 - q 66 := hq 68 _ rfl
 have E69 : q 69 = -q 68 := hq 69 _ rfl
 have E70 : q 70 = q 69 / q 62 := hq 70 _ rfl
 have E71 : q 71 = q 67 / q 62 := hq 71 _ rfl
 have E72 : q 72 = q 45 * q 19 := hq 72 _ rfl
 have E73 : q 73 = q 46 * q 18 := hq 73 _ rfl
 have E74 : q 74 = q 72 - q 73 := hq 74 _ rfl
 have E75 : q 75 = q 18 * q 47 := hq 75 _ rfl
 have E76 : q 76 = q 19 * q 47 := hq 76 _ rfl
 have E77 : q 77 = q 45 * q 20 := hq 77 _ rfl
 have E78 : q 78 = q 46 * q 20 := hq 78 _ rfl
 have E79 : q 79 = q 75 - q 77 := hq 79 _ rfl
 have E80 : q 80 = q 76 - q 78 := hq 80 _ rfl
 have E81 : q 81 = -q 80 := hq 81 _ rfl
 have E82 : q 82 = q 81 / q 74 := hq 82 _ rfl
 have E83 : q 83 = q 79 / q 74 := hq 83 _ rfl
 have E84 : q 84 = q 43 - q 16 := hq 84 _ rfl
 have E85 : q 85 = q 44 - q 17 := hq 85 _ rfl
 have E86 : q 86 = q 70 - q 16 := hq 86 _ rfl
 have E87 : q 87 = q 71 - q 17 := hq 87 _ rfl
 have E88 : q 88 = q 82 - q 31 := hq 88 _ rfl
 have E89 : q 89 = q 83 - q 32 := hq 89 _ rfl
 have E90 : q 90 = q 82 - q 43 := hq 90 _ rfl
 have E91 : q 91 = q 83 - q 44 := hq 91 _ rfl
 have E92 : q 92 = (1 / 2) := (hq 92 _ rfl).trans lineNewton_c92
 have E93 : q 93 = q 82 - q 16 := hq 93 _ rfl
 have E94 : q 94 = q 83 - q 17 := hq 94 _ rfl
 have E95 : q 95 = q 93 * q 92 := hq 95 _ rfl
 have E96 : q 96 = q 94 * q 92 := hq 96 _ rfl
 have E97 : q 97 = q 16 + q 95 := hq 97 _ rfl
 have E98 : q 98 = q 17 + q 96 := hq 98 _ rfl
 have E99 : q 99 = q 70 - q 31 := hq 99 _ rfl
 have E100 : q 100 = q 71 - q 32 := hq 100 _ rfl
 have E101 : q 101 = q 99 * q 92 := hq 101 _ rfl
 have E102 : q 102 = q 100 * q 92 := hq 102 _ rfl
 have E103 : q 103 = q 31 + q 101 := hq 103 _ rfl
 have E104 : q 104 = q 32 + q 102 := hq 104 _ rfl
 have E105 : q 105 = q 43 - q 58 := hq 105 _ rfl
 have E106 : q 106 = q 44 - q 59 := hq 106 _ rfl
 have E107 : q 107 = q 105 * q 92 := hq 107 _ rfl
 have E108 : q 108 = q 106 * q 92 := hq 108 _ rfl
 have E109 : q 109 = q 58 + q 107 := hq 109 _ rfl
 have E110 : q 110 = q 59 + q 108 := hq 110 _ rfl
 have E111 : q 111 = q 103 - q 97 := hq 111 _ rfl
 have E112 : q 112 = q 104 - q 98 := hq 112 _ rfl
 have E113 : q 113 = q 109 - q 97 := hq 113 _ rfl
 have E114 : q 114 = q 110 - q 98 := hq 114 _ rfl
 have E115 : q 115 = q 111 * q 114 := hq 115 _ rfl
 have E116 : q 116 = q 112 * q 113 := hq 116 _ rfl
 have E117 : q 117 = q 115 - q 116 := hq 117 _ rfl
 by_cases a_6_0_1 : q 0 = 0 ∧ q 1 = 0
 ·
  exact run_toldQ' 5 (hy_of (H := [(6, 0, 1, 1)]) hσ lineNewton_wf lineNewton_sz lineNewton_lt lineNewton_cn hq h0 (And.intro (hT a_6_0_1) trivial)) hcl (by kernel_rfl) lineNewton_r0 ⟨tab, mx⟩ (hA _)
 ·
  by_cases a_6_3_4 : q 3 = 0 ∧ q 4 = 0
  ·
   exact run_toldQ' 5 (hy_of (H := [(6, 0, 1, 0), (6, 3, 4, 1)]) hσ lineNewton_wf lineNewton_sz lineNewton_lt lineNewton_cn hq h0 (And.intro (hF a_6_0_1) (And.intro (hT a_6_3_4) trivial))) hcl (by kernel_rfl) lineNewton_r1 ⟨tab, mx⟩ (hA _)
  ·
   by_cases a_0_8_0 : q 8 = 0
   ·
    by_cases a_6_13_14 : q 13 = 0 ∧ q 14 = 0
    ·
     exact run_toldQ' 5 (hy_of (H := [(6, 0, 1, 0), (6, 3, 4, 0), (0, 8, 0, 1), (6, 13, 14, 1)]) hσ lineNewton_wf lineNewton_sz lineNewton_lt lineNewton_cn hq h0 (And.intro (hF a_6_0_1) (And.intro (hF a_6_3_4) (And.intro (hT a_0_8_0) (And.intro (hT a_6_13_14) trivial))))) hcl (by kernel_rfl) lineNewton_r2 ⟨tab, mx⟩ (hA _)
    ·
     exact run_toldQ' 5 (hy_of (H := [(6, 0, 1, 0), (6, 3, 4, 0), (0, 8, 0, 1), (6, 13, 14, 0)]) hσ lineNewton_wf lineNewton_sz lineNewton_lt lineNewton_cn hq h0 (And.intro (hF a_6_0_1) (And.intro (hF a_6_3_4) (And.intro (hT a_0_8_0) (And.intro (hF a_6_13_14) trivial))))) hcl (by kernel_rfl) lineNewton_r3 ⟨tab, mx⟩ (hA _)
   ·
    by_cases a_6_18_19 : q 18 = 0 ∧ q 19 = 0
    ·
     exact run_toldQ' 5 (hy_of (H := [(6, 0, 1, 0), (6, 3, 4, 0), (0, 8, 0, 0), (6, 18, 19, 1)]) hσ lineNewton_wf lineNewton_sz lineNewton_lt lineNewton_cn hq h0 (And.intro (hF a_6_0_1) (And.intro (hF a_6_3_4) (And.intro (hF a_0_8_0) (And.intro (hT a_6_18_19) trivial))))) hcl (by kernel_rfl) lineNewton_r4 ⟨tab, mx⟩ (hA _)
    ·
     by_cases a_0_23_0 : q 23 = 0
     ·
      by_cases a_6_28_29 : q 28 = 0 ∧ q 29 = 0
      ·
       exact run_toldQ' 5 (hy_of (H := [(6, 0, 1, 0), (6, 3, 4, 0), (0, 8, 0, 0), (6, 18, 19, 0), (0, 23, 0, 1), (6, 28, 29, 1)]) hσ lineNewton_wf lineNewton_sz lineNewton_lt lineNewton_cn hq h0 (And.intro (hF a_6_0_1) (And.intro (hF a_6_3_4) (And.intro (hF a_0_8_0) (And.intro (hF a_6_18_19) (And.intro (hT a_0_23_0) (And.intro (hT a_6_28_29) trivial))))))) hcl (by kernel_rfl) lineNewton_r5 ⟨tab, mx⟩ (hA _)
      ·
       exact run_toldQ' 5 (hy_of (H := [(6, 0, 1, 0), (6, 3, 4, 0), (0, 8, 0, 0), (6, 18, 19, 0), (0, 23, 0, 1), (6, 28, 29, 0)]) hσ lineNewton_wf lineNewton_sz lineNewton_lt lineNewton_cn hq h0 (And.intro (hF a_6_0_1) (And.intro (hF a_6_3_4) (And.intro (hF a_0_8_0) (And.intro (hF a_6_18_19) (And.intro (hT a_0_23_0) (And.intro (hF a_6_28_29) trivial))))))) hcl (by kernel_rfl) lineNewton_r6 ⟨tab, mx⟩ (hA _)
     ·
      by_cases a_0_35_0 : q 35 = 0
      ·
       by_cases a_6_40_41 : q 40 = 0 ∧ q 41 = 0
       ·
        exact run_toldQ' 5 (hy_of (H := [(6, 0, 1, 0), (6, 3, 4, 0), (0, 8, 0, 0), (6, 18, 19, 0), (0, 23, 0, 0), (0, 35, 0, 1), (6, 40, 41, 1)]) hσ lineNewton_wf lineNewton_sz lineNewton_lt lineNewton_cn hq h0 (And.intro (hF a_6_0_1) (And.intro (hF a_6_3_4) (And.intro (hF a_0_8_0) (And.intro (hF a_6_18_19) (And.intro (hF a_0_23_0) (And.intro (hT a_0_35_0) (And.intro (hT a_6_40_41) trivial)))))))) hcl (by kernel_rfl) lineNewton_r7 ⟨tab, mx⟩ (hA _)
       ·
        exact run_toldQ' 5 (hy_of (H := [(6, 0, 1, 0), (6, 3, 4, 0), (0, 8, 0, 0), (6, 18, 19, 0), (0, 23, 0, 0), (0, 35, 0, 1), (6, 40, 41, 0)]) hσ lineNewton_wf lineNewton_sz lineNewton_lt lineNewton_cn hq h0 (And.intro (hF a_6_0_1) (And.intro (hF a_6_3_4) (And.intro (hF a_0_8_0) (And.intro (hF a_6_18_19) (And.intro (hF a_0_23_0) (And.intro (hT a_0_35_0) (And.intro (hF a_6_40_41) trivial)))))))) hcl (by kernel_rfl) lineNewton_r8 ⟨tab, mx⟩ (hA _)
      ·
       by_cases a_6_45_46 : q 45 = 0 ∧ q 46 = 0
       ·
        exact run_toldQ' 5 (hy_of (H := [(6, 0, 1, 0), (6, 3, 4, 0), (0, 8, 0, 0), (6, 18, 19, 0), (0, 23, 0, 0), (0, 35, 0, 0), (6, 45, 46, 1)]) hσ lineNewton_wf lineNewton_sz lineNewton_lt lineNewton_cn hq h0 (And.intro (hF a_6_0_1) (And.intro (hF a_6_3_4) (And.intro (hF a_0_8_0) (And.intro (hF a_6_18_19) (And.intro (hF a_0_23_0) (And.intro (hF a_0_35_0) (And.intro (hT a_6_45_46) trivial)))))))) hcl (by kernel_rfl) lineNewton_r9 ⟨tab, mx⟩ (hA _)
       ·
        by_cases a_0_50_0 : q 50 = 0
        ·
         by_cases a_6_55_56 : q 55 = 0 ∧ q 56 = 0
         ·
          exact run_toldQ' 5 (hy_of (H := [(6, 0, 1, 0), (6, 3, 4, 0), (0, 8, 0, 0), (6, 18, 19, 0), (0, 23, 0, 0), (0, 35, 0, 0), (6, 45, 46, 0), (0, 50, 0, 1), (6, 55, 56, 1)]) hσ lineNewton_wf lineNewton_sz lineNewton_lt lineNewton_cn hq h0 (And.intro (hF a_6_0_1) (And.intro (hF a_6_3_4) (And.intro (hF a_0_8_0) (And.intro (hF a_6_18_19) (And.intro (hF a_0_23_0) (And.intro (hF a_0_35_0) (And.intro (hF a_6_45_46) (And.intro (hT a_0_50_0) (And.intro (hT a_6_55_56) trivial)))))))))) hcl (by kernel_rfl) lineNewton_r10 ⟨tab, mx⟩ (hA _)
         ·
          exact run_toldQ' 5 (hy_of (H := [(6, 0, 1, 0), (6, 3, 4, 0), (0, 8, 0, 0), (6, 18, 19, 0), (0, 23, 0, 0), (0, 35, 0, 0), (6, 45, 46, 0), (0, 50, 0, 1), (6, 55, 56, 0)]) hσ lineNewton_wf lineNewton_sz lineNewton_lt lineNewton_cn hq h0 (And.intro (hF a_6_0_1) (And.intro (hF a_6_3_4) (And.intro (hF a_0_8_0) (And.intro (hF a_6_18_19) (And.intro (hF a_0_23_0) (And.intro (hF a_0_35_0) (And.intro (hF a_6_45_46) (And.intro (hT a_0_50_0) (And.intro (hF a_6_55_56) trivial)))))))))) hcl (by kernel_rfl) lineNewton_r11 ⟨tab, mx⟩ (hA _)
        ·
         by_cases a_0_62_0 : q 62 = 0
         ·
          by_cases a_6_67_68 : q 67 = 0 ∧ q 68 = 0
          ·
           exact run_toldQ' 5 (hy_of (H := [(6, 0, 1, 0), (6, 3, 4, 0), (0, 8, 0, 0), (6, 18, 19, 0), (0, 23, 0, 0), (0, 35, 0, 0), (6, 45, 46, 0), (0, 50, 0, 0), (0, 62, 0, 1), (6, 67, 68, 1)]) hσ lineNewton_wf lineNewton_sz lineNewton_lt lineNewton_cn hq h0 (And.intro (hF a_6_0_1) (And.intro (hF a_6_3_4) (And.intro (hF a_0_8_0) (And.intro (hF a_6_18_19) (And.intro (hF a_0_23_0) (And.intro (hF a_0_35_0) (And.intro (hF a_6_45_46) (And.intro (hF a_0_50_0) (And.intro (hT a_0_62_0) (And.intro (hT a_6_67_68) trivial))))))))))) hcl (by kernel_rfl) lineNewton_r12 ⟨tab, mx⟩ (hA _)
          ·
           exact run_toldQ' 5 (hy_of (H := [(6, 0, 1, 0), (6, 3, 4, 0), (0, 8, 0, 0), (6, 18, 19, 0), (0, 23, 0, 0), (0, 35, 0, 0), (6, 45, 46, 0), (0, 50, 0, 0), (0, 62, 0, 1), (6, 67, 68, 0)]) hσ lineNewton_wf lineNewton_sz lineNewton_lt lineNewton_cn hq h0 (And.intro (hF a_6_0_1) (And.intro (hF a_6_3_4) (And.intro (hF a_0_8_0) (And.intro (hF a_6_18_19) (And.intro (hF a_0_23_0) (And.intro (hF a_0_35_0) (And.intro (hF a_6_45_46) (And.intro (hF a_0_50_0) (And.intro (hT a_0_62_0) (And.intro (hF a_6_67_68) trivial))))))))))) hcl (by kernel_rfl) lineNewton_r13 ⟨tab, mx⟩ (hA _)
         ·
          by_cases a_0_74_0 : q 74 = 0
          ·
           by_cases a_6_79_80 : q 79 = 0 ∧ q 80 = 0
           ·
            exact run_toldQ' 5 (hy_of (H := [(6, 0, 1, 0), (6, 3, 4, 0), (0, 8, 0, 0), (6, 18, 19, 0), (0, 23, 0, 0), (0, 35, 0, 0), (6, 45, 46, 0), (0, 50, 0, 0), (0, 62, 0, 0), (0, 74, 0, 1), (6, 79, 80, 1)]) hσ lineNewton_wf lineNewton_sz lineNewton_lt lineNewton_cn hq h0 (And.intro (hF a_6_0_1) (And.intro (hF a_6_3_4) (And.intro (hF a_0_8_0) (And.intro (hF a_6_18_19) (And.intro (hF a_0_23_0) (And.intro (hF a_0_35_0) (And.intro (hF a_6_45_46) (And.intro (hF a_0_50_0) (And.intro (hF a_0_62_0) (And.intro (hT a_0_74_0) (And.intro (hT a_6_79_80) trivial)))))))))))) hcl (by kernel_rfl) lineNewton_r14 ⟨tab, mx⟩ (hA _)
           ·
            exact run_toldQ' 5 (hy_of (H := [(6, 0, 1, 0), (6, 3, 4, 0), (0, 8, 0, 0), (6, 18, 19, 0), (0, 23, 0, 0), (0, 35, 0, 0), (6, 45, 46, 0), (0, 50, 0, 0), (0, 62, 0, 0), (0, 74, 0, 1), (6, 79, 80, 0)]) hσ lineNewton_wf lineNewton_sz lineNewton_lt lineNewton_cn hq h0 (And.intro (hF a_6_0_1) (And.intro (hF a_6_3_4) (And.intro (hF a_0_8_0) (And.intro (hF a_6_18_19) (And.intro (hF a_0_23_0) (And.intro (hF a_0_35_0) (And.intro (hF a_6_45_46) (And.intro (hF a_0_50_0) (And.intro (hF a_0_62_0) (And.intro (hT a_0_74_0) (And.intro (hF a_6_79_80) trivial)))))))))))) hcl (by kernel_rfl) lineNewton_r15 ⟨tab, mx⟩ (hA _)
          ·
           by_cases a_6_84_85 : q 84 = 0 ∧ q 85 = 0
           ·
            exact run_toldQ' 5 (hy_of (H := [(6, 0, 1, 0), (6, 3, 4, 0), (0, 8, 0, 0), (6, 18, 19, 0), (0, 23, 0, 0), (0, 35, 0, 0), (6, 45, 46, 0), (0, 50, 0, 0), (0, 62, 0, 0), (0, 74, 0, 0), (6, 84, 85, 1)]) hσ lineNewton_wf lineNewton_sz lineNewton_lt lineNewton_cn hq h0 (And.intro (hF a_6_0_1) (And.intro (hF a_6_3_4) (And.intro (hF a_0_8_0) (And.intro (hF a_6_18_19) (And.intro (hF a_0_23_0) (And.intro (hF a_0_35_0) (And.intro (hF a_6_45_46) (And.intro (hF a_0_50_0) (And.intro (hF a_0_62_0) (And.intro (hF a_0_74_0) (And.intro (hT a_6_84_85) trivial)))))))))))) hcl (by kernel_rfl) lineNewton_r16 ⟨tab, mx⟩ (hA _)
           ·
            by_cases a_6_86_87 : q 86 = 0 ∧ q 87 = 0
            ·
             exact run_toldQ' 5 (hy_of (H := [(6, 0, 1, 0), (6, 3, 4, 0), (0, 8, 0, 0), (6, 18, 19, 0), (0, 23, 0, 0), (0, 35, 0, 0), (6, 45, 46, 0), (0, 50, 0, 0), (0, 62, 0, 0), (0, 74, 0, 0), (6, 84, 85, 0), (6, 86, 87, 1)]) hσ lineNewton_wf lineNewton_sz lineNewton_lt lineNewton_cn hq h0 (And.intro (hF a_6_0_1) (And.intro (hF a_6_3_4) (And.intro (hF a_0_8_0) (And.intro (hF a_6_18_19) (And.intro (hF a_0_23_0) (And.intro (hF a_0_35_0) (And.intro (hF a_6_45_46) (And.intro (hF a_0_50_0) (And.intro (hF a_0_62_0) (And.intro (hF a_0_74_0) (And.intro (hF a_6_84_85) (And.intro (hT a_6_86_87) trivial))))))))))))) hcl (by kernel_rfl) lineNewton_r17 ⟨tab, mx⟩ (hA _)
            ·
             by_cases a_6_88_89 : q 88 = 0 ∧ q 89 = 0
             ·
              exact run_toldQ' 5 (hy_of (H := [(6, 0, 1, 0), (6, 3, 4, 0), (0, 8, 0, 0), (6, 18, 19, 0), (0, 23, 0, 0), (0, 35, 0, 0), (6, 45, 46, 0), (0, 50, 0, 0), (0, 62, 0, 0), (0, 74, 0, 0), (6, 84, 85, 0), (6, 86, 87, 0), (6, 88, 89, 1)]) hσ lineNewton_wf lineNewton_sz lineNewton_lt lineNewton_cn hq h0 (And.intro (hF a_6_0_1) (And.intro (hF a_6_3_4) (And.intro (hF a_0_8_0) (And.intro (hF a_6_18_19) (And.intro (hF a_0_23_0) (And.intro (hF a_0_35_0) (And.intro (hF a_6_45_46) (And.intro (hF a_0_50_0) (And.intro (hF a_0_62_0) (And.intro (hF a_0_74_0) (And.intro (hF a_6_84_85) (And.intro (hF a_6_86_87) (And.intro (hT a_6_88_89) trivial)))))))))))))) hcl (by kernel_rfl) lineNewton_r18 ⟨tab, mx⟩ (hA _)
             ·
              by_cases a_6_90_91 : q 90 = 0 ∧ q 91 = 0
              ·
               exact run_toldQ' 5 (hy_of (H := [(6, 0, 1, 0), (6, 3, 4, 0), (0, 8, 0, 0), (6, 18, 19, 0), (0, 23, 0, 0), (0, 35, 0, 0), (6, 45, 46, 0), (0, 50, 0, 0), (0, 62, 0, 0), (0, 74, 0, 0), (6, 84, 85, 0), (6, 86, 87, 0), (6, 88, 89, 0), (6, 90, 91, 1)]) hσ lineNewton_wf lineNewton_sz lineNewton_lt lineNewton_cn hq h0 (And.intro (hF a_6_0_1) (And.intro (hF a_6_3_4) (And.intro (hF a_0_8_0) (And.intro (hF a_6_18_19) (And.intro (hF a_0_23_0) (And.intro (hF a_0_35_0) (And.intro (hF a_6_45_46) (And.intro (hF a_0_50_0) (And.intro (hF a_0_62_0) (And.intro (hF a_0_74_0) (And.intro (hF a_6_84_85) (And.intro (hF a_6_86_87) (And.intro (hF a_6_88_89) (And.intro (hT a_6_90_91) trivial))))))))))))))) hcl (by kernel_rfl) lineNewton_r19 ⟨tab, mx⟩ (hA _)
              ·
               have a_0_117_0 : q 117 = 0 := lineNewton_f0 E6 E7 E8 E9 E10 E11 E12 E13 E14 E15 E16 E17 E21 E22 E23 E24 E25 E26 E27 E28 E29 E30 E31 E32 E33 E34 E35 E36 E37 E38 E39 E40 E41 E42 E43 E44 E48 E49 E50 E51 E52 E53 E54 E55 E56 E57 E58 E59 E60 E61 E62 E63 E64 E65 E66 E67 E68 E69 E70 E71 E72 E73 E74 E75 E76 E77 E78 E79 E80 E81 E82 E83 E84 E85 E86 E87 E88 E89 E90 E91 E92 E93 E94 E95 E96 E97 E98 E99 E100 E101 E102 E103 E104 E105 E106 E107 E108 E109 E110 E111 E112 E113 E114 E115 E116 E117 a_6_0_1 a_6_3_4 a_0_8_0 a_6_18_19 a_0_23_0 a_0_35_0 a_6_45_46 a_0_50_0 a_0_62_0 a_0_74_0 a_6_84_85 a_6_86_87 a_6_88_89 a_6_90_91
               exact run_toldQ' 5 (hy_of (H := [(6, 0, 1, 0), (6, 3, 4, 0), (0, 8, 0, 0), (6, 18, 19, 0), (0, 23, 0, 0), (0, 35, 0, 0), (6, 45, 46, 0), (0, 50, 0, 0), (0, 62, 0, 0), (0, 74, 0, 0), (6, 84, 85, 0), (6, 86, 87, 0), (6, 88, 89, 0), (6, 90, 91, 0), (0, 117, 0, 1)]) hσ lineNewton_wf lineNewton_sz lineNewton_lt lineNewton_cn hq h0 (And.intro (hF a_6_0_1) (And.intro (hF a_6_3_4) (And.intro (hF a_0_8_0) (And.intro (hF a_6_18_19) (And.intro (hF a_0_23_0) (And.intro (hF a_0_35_0) (And.intro (hF a_6_45_46) (And.intro (hF a_0_50_0) (And.intro (hF a_0_62_0) (And.intro (hF a_0_74_0) (And.intro (hF a_6_84_85) (And.intro (hF a_6_86_87) (And.intro (hF a_6_88_89) (And.intro (hF a_6_90_91) (And.intro (hT a_0_117_0) trivial)))))))))))))))) hcl (by kernel_rfl) lineNewton_r20 ⟨tab, mx⟩ (hA _)
end Go.Proofs.YtioacnhbiinjbaaGreatDoor
