/- Part 13 of the walks and of the mathematics under them: CFrounded MRX. -/
import Derived.Test.YtioacnhbiinjbaaGreatDoorA12
set_option maxHeartbeats 16000000
set_option maxRecDepth 100000
/- CFrounded -/
namespace Go.Proofs.YtioacnhbiinjbaaGreatDoor
open Go.RowKit Cx
theorem closed_rounded : Closed 67 :=
 closed_told (N := [(0, [0, 0, 1]), (0, [0, 25, 1]), (0, [0, 3, 1]), (0, [0, 4, 1]), (3, [2, 0]), (3, [3, 0]), (4, [4, 4]), (4, [5, 5]), (2, [6, 7]), (3, [8, 1]), (3, [0, 2]), (3, [3, 3]), (0, [1, 2, 1]), (4, [4, 10]), (4, [5, 11]), (2, [13, 14]), (4, [12, 15]), (4, [10, 10]), (4, [11, 11]), (2, [17, 18]), (6, [16, 19]), (4, [10, 20]), (4, [11, 20]), (2, [2, 21]), (2, [3, 22]), (4, [4, 0]), (4, [5, 0]), (2, [25, 26]), (5, [27]), (3, [28, 1]), (8, [0, 4, 5, 29]), (8, [1, 4, 5, 29]), (8, [2, 4, 5, 29]), (0, [0, 10, 1]), (3, [33, 0]), (3, [0, 0]), (4, [34, 34]), (4, [35, 35]), (2, [36, 37]), (5, [1]), (2, [38, 39]), (2, [40, 39]), (4, [41, 41]), (4, [3, 1]), (4, [43, 1]), (3, [42, 44]), (0, [1, 3, 1]), (0, [1, 25, 1])]) (H := [(2, 1, 0, 1), (0, 9, 0, 1), (0, 10, 0, 0), (0, 34, 0, 0), (5, 45, 0, 1), (1, 41, 0, 0), (4, 9, 0, 1), (4, 23, 46, 1), (4, 24, 3, 1), (4, 30, 2, 1), (4, 31, 3, 1), (4, 32, 47, 1)]) (K := []) (L := [([48], 0), ([50, 53], 1), ([51], 2), ([52], 3), ([49, 48], 33), ([45, 51], 46), ([45, 50, 53], 47)]) (C := [([48], 0), ([45, 51], 46), ([52], 3), ([51], 2), ([45, 50, 53], 47)]) (Z := [2, 6, 3, 4, 6, 7, 12, 14, 27, 34, 6, 9, 3, 12, 16, 29, 32, 12, 18, 31, 63, 69, 72, 73, 77, 8, 9, 18, 18, 25, 101, 101, 101, 5, 8, 5, 16, 10, 27, 6, 34, 41, 82, 10, 16, 99, 3, 6]) (cl := []) 7 (fun _ h => by cases h) (by kernel_rfl) (by kernel_rfl) (by kernel_rfl) (by kernel_rfl) (by kernel_rfl) (by kernel_rfl) (by kernel_rfl)
end Go.Proofs.YtioacnhbiinjbaaGreatDoor
/- MRX -/
namespace Go.Proofs.YtioacnhbiinjbaaGreatDoor
open Go.RowKit Cx
def circleAxes_N : List Nd := [(1, [0]), (1, [1]), (1, [2]), (1, [3]), (1, [4]), (1, [5]), (1, [6]), (1, [7]), (1, [8]), (3, [3, 0]), (3, [4, 1]), (3, [6, 0]), (3, [7, 1]), (4, [9, 12]), (4, [10, 11]), (3, [13, 14]), (0, [0, 2, 1]), (4, [9, 16]), (4, [10, 16]), (0, [0, 0, 1]), (3, [19, 0]), (3, [19, 1]), (4, [20, 20]), (4, [21, 21]), (2, [22, 23]), (3, [24, 2]), (3, [19, 3]), (3, [19, 4]), (4, [26, 26]), (4, [27, 27]), (2, [28, 29]), (3, [30, 5]), (3, [25, 31]), (4, [11, 16]), (4, [12, 16]), (3, [19, 6]), (3, [19, 7]), (4, [35, 35]), (4, [36, 36]), (2, [37, 38]), (3, [39, 8]), (3, [25, 40]), (4, [17, 34]), (4, [18, 33]), (3, [42, 43]), (4, [33, 32]), (4, [34, 32]), (4, [17, 41]), (4, [18, 41]), (3, [45, 47]), (3, [46, 48]), (5, [50]), (6, [51, 44]), (6, [49, 44]), (8, [0, 17, 18, 32]), (8, [1, 17, 18, 32]), (8, [2, 17, 18, 32]), (4, [54, 52]), (4, [55, 53]), (2, [57, 58]), (2, [59, 56]), (3, [6, 3]), (3, [7, 4]), (4, [61, 16]), (4, [62, 16]), (3, [31, 40]), (8, [0, 63, 64, 65]), (8, [1, 63, 64, 65]), (8, [2, 63, 64, 65]), (4, [66, 52]), (4, [67, 53]), (2, [69, 70]), (2, [71, 68]), (3, [0, 6]), (3, [1, 7]), (4, [73, 16]), (4, [74, 16]), (3, [40, 25]), (8, [0, 75, 76, 77]), (8, [1, 75, 76, 77]), (8, [2, 75, 76, 77]), (4, [78, 52]), (4, [79, 53]), (2, [81, 82]), (2, [83, 80]), (3, [52, 0]), (3, [53, 1]), (4, [85, 85]), (4, [86, 86]), (2, [87, 88]), (3, [89, 2]), (5, [2]), (5, [90]), (2, [89, 91]), (2, [93, 92]), (3, [52, 3]), (3, [53, 4]), (4, [95, 95]), (4, [96, 96]), (2, [97, 98]), (5, [5]), (2, [99, 100]), (2, [101, 92]), (3, [52, 6]), (3, [53, 7]), (4, [103, 103]), (4, [104, 104]), (2, [105, 106]), (5, [8]), (2, [107, 108]), (2, [109, 92])]
def circleAxes_L : List (List Nat × Nat) := []
def circleAxes_C : List (List Nat × Nat) := []
def circleAxes_Z : List Nat := [4194309, 4194309, 4194309, 4194309, 4194309, 4194309, 4194309, 4194309, 4194309, 8388619, 8388619, 8388619, 8388619, 16777238, 16777238, 33554477, 3, 8388622, 8388622, 2, 4194312, 4194312, 8388624, 8388624, 16777249, 20971559, 4194312, 4194312, 8388624, 8388624, 16777249, 20971559, 41943119, 8388622, 8388622, 4194312, 4194312, 8388624, 8388624, 16777249, 20971559, 41943119, 16777244, 16777244, 33554489, 50331741, 50331741, 50331741, 50331741, 100663483, 100663483, 100663483, 134217972, 134217972, 167772477, 167772477, 167772477, 301990449, 301990449, 603980899, 771753377, 8388619, 8388619, 8388622, 8388622, 41943119, 167772477, 167772477, 167772477, 301990449, 301990449, 603980899, 771753377, 8388619, 8388619, 8388622, 8388622, 41943119, 167772477, 167772477, 167772477, 301990449, 301990449, 603980899, 771753377, 138412282, 138412282, 276824564, 276824564, 553649129, 557843439, 4194309, 557843439, 557843439, 1115686879, 138412282, 138412282, 276824564, 276824564, 553649129, 4194309, 557843439, 1115686879, 138412282, 138412282, 276824564, 276824564, 553649129, 4194309, 557843439, 1115686879]
theorem circleAxes_wf : wfB 0 circleAxes_N = true := by kernel_rfl
theorem circleAxes_sz : szB circleAxes_Z circleAxes_N circleAxes_Z = true := by kernel_rfl
theorem circleAxes_lt : litB circleAxes_N circleAxes_L = true := by kernel_rfl
theorem circleAxes_cn : canB circleAxes_N circleAxes_C = true := by kernel_rfl
theorem circleAxes_c16 : cst 0 2 1 = (2 : Rat) := by decide +kernel
theorem circleAxes_c19 : cst 0 0 1 = (0 : Rat) := by decide +kernel
theorem circleAxes_f0 {z0 z1 z3 z4 z6 z7 z9 z10 z11 z12 z13 z14 z15 : Rat} : z9 = z3 - z0 → z10 = z4 - z1 → z11 = z6 - z0 → z12 = z7 - z1 → z13 = z9 * z12 → z14 = z10 * z11 → z15 = z13 - z14 → (¬ (z15 = 0)) → (z9 = 0) → ¬ (z10 = 0) := by
 intro e9 e10 e11 e12 e13 e14 e15 u3 u4
 rw [u4] at e9
 subst_vars; grind
theorem circleAxes_f1 {z0 z1 z3 z4 z6 z7 z9 z10 z11 z12 z13 z14 z15 : Rat} : z9 = z3 - z0 → z10 = z4 - z1 → z11 = z6 - z0 → z12 = z7 - z1 → z13 = z9 * z12 → z14 = z10 * z11 → z15 = z13 - z14 → (¬ (z15 = 0)) → (z9 = 0) → ¬ (z11 = 0) := by
 intro e9 e10 e11 e12 e13 e14 e15 u3 u4
 rw [u4] at e9
 subst_vars; grind
theorem circleAxes_f2 {z0 z1 z3 z4 z6 z7 z9 z10 z11 z12 z13 z14 z15 z16 z17 z18 z33 z34 z42 z43 z44 : Rat} : z9 = z3 - z0 → z10 = z4 - z1 → z11 = z6 - z0 → z12 = z7 - z1 → z13 = z9 * z12 → z14 = z10 * z11 → z15 = z13 - z14 → z16 = 2 → z17 = z9 * z16 → z18 = z10 * z16 → z33 = z11 * z16 → z34 = z12 * z16 → z42 = z17 * z34 → z43 = z18 * z33 → z44 = z42 - z43 → (¬ (z15 = 0)) → ¬ (z44 = 0) := by
 intro e9 e10 e11 e12 e13 e14 e15 e16 e17 e18 e33 e34 e42 e43 e44 u3
 subst_vars; grind
theorem circleAxes_f3 {z0 z1 z2 z3 z4 z5 z9 z10 z16 z17 z18 z19 z20 z21 z22 z23 z24 z25 z26 z27 z28 z29 z30 z31 z32 z54 : Rat} : z9 = z3 - z0 → z10 = z4 - z1 → z16 = 2 → z17 = z9 * z16 → z18 = z10 * z16 → z19 = 0 → z20 = z19 - z0 → z21 = z19 - z1 → z22 = z20 * z20 → z23 = z21 * z21 → z24 = z22 + z23 → z25 = z24 - z2 → z26 = z19 - z3 → z27 = z19 - z4 → z28 = z26 * z26 → z29 = z27 * z27 → z30 = z28 + z29 → z31 = z30 - z5 → z32 = z25 - z31 → z54 = z17 * fac [z17, z18, z32] → (z9 = 0) → z54 = 0 := by
 intro e9 e10 e16 e17 e18 e19 e20 e21 e22 e23 e24 e25 e26 e27 e28 e29 e30 e31 e32 e54 u4
 rw [u4] at e9
 have k0_17 : fac [z17, z18, z32] = 0 → z17 = 0 := fac_zero (by simp)
 have k0_18 : fac [z17, z18, z32] = 0 → z18 = 0 := fac_zero (by simp)
 have k0_32 : fac [z17, z18, z32] = 0 → z32 = 0 := fac_zero (by simp)
 have l0_0 : z17 ≠ 0 → 0 < z17 * fac [z17, z18, z32] := fac_lead0
 have l0_1 : z17 = 0 → z18 ≠ 0 → 0 < z18 * fac [z17, z18, z32] := fac_lead1
 generalize fac [z17, z18, z32] = g0 at *
 subst_vars; grind
theorem circleAxes_f4 {z0 z1 z2 z3 z4 z5 z6 z7 z9 z10 z11 z12 z13 z14 z15 z16 z17 z18 z19 z20 z21 z22 z23 z24 z25 z26 z27 z28 z29 z30 z31 z32 z55 : Rat} : z9 = z3 - z0 → z10 = z4 - z1 → z11 = z6 - z0 → z12 = z7 - z1 → z13 = z9 * z12 → z14 = z10 * z11 → z15 = z13 - z14 → z16 = 2 → z17 = z9 * z16 → z18 = z10 * z16 → z19 = 0 → z20 = z19 - z0 → z21 = z19 - z1 → z22 = z20 * z20 → z23 = z21 * z21 → z24 = z22 + z23 → z25 = z24 - z2 → z26 = z19 - z3 → z27 = z19 - z4 → z28 = z26 * z26 → z29 = z27 * z27 → z30 = z28 + z29 → z31 = z30 - z5 → z32 = z25 - z31 → z55 = z18 * fac [z17, z18, z32] → (¬ (z15 = 0)) → (z9 = 0) → 0 < z55 := by
 intro e9 e10 e11 e12 e13 e14 e15 e16 e17 e18 e19 e20 e21 e22 e23 e24 e25 e26 e27 e28 e29 e30 e31 e32 e55 u3 u4
 rw [u4] at e9
 have k0_17 : fac [z17, z18, z32] = 0 → z17 = 0 := fac_zero (by simp)
 have k0_18 : fac [z17, z18, z32] = 0 → z18 = 0 := fac_zero (by simp)
 have k0_32 : fac [z17, z18, z32] = 0 → z32 = 0 := fac_zero (by simp)
 have l0_0 : z17 ≠ 0 → 0 < z17 * fac [z17, z18, z32] := fac_lead0
 have l0_1 : z17 = 0 → z18 ≠ 0 → 0 < z18 * fac [z17, z18, z32] := fac_lead1
 generalize fac [z17, z18, z32] = g0 at *
 subst_vars; grind
theorem circleAxes_f5 {z0 z1 z2 z3 z4 z5 z6 z7 z8 z9 z10 z11 z12 z13 z14 z15 z16 z17 z18 z19 z20 z21 z22 z23 z24 z25 z26 z27 z28 z29 z30 z31 z32 z33 z34 z35 z36 z37 z38 z39 z40 z41 z42 z43 z44 z45 z46 z47 z48 z49 z50 z51 z52 z53 z54 z55 z56 z57 z58 z59 z60 : Rat} : z9 = z3 - z0 → z10 = z4 - z1 → z11 = z6 - z0 → z12 = z7 - z1 → z13 = z9 * z12 → z14 = z10 * z11 → z15 = z13 - z14 → z16 = 2 → z17 = z9 * z16 → z18 = z10 * z16 → z19 = 0 → z20 = z19 - z0 → z21 = z19 - z1 → z22 = z20 * z20 → z23 = z21 * z21 → z24 = z22 + z23 → z25 = z24 - z2 → z26 = z19 - z3 → z27 = z19 - z4 → z28 = z26 * z26 → z29 = z27 * z27 → z30 = z28 + z29 → z31 = z30 - z5 → z32 = z25 - z31 → z33 = z11 * z16 → z34 = z12 * z16 → z35 = z19 - z6 → z36 = z19 - z7 → z37 = z35 * z35 → z38 = z36 * z36 → z39 = z37 + z38 → z40 = z39 - z8 → z41 = z25 - z40 → z42 = z17 * z34 → z43 = z18 * z33 → z44 = z42 - z43 → z45 = z33 * z32 → z46 = z34 * z32 → z47 = z17 * z41 → z48 = z18 * z41 → z49 = z45 - z47 → z50 = z46 - z48 → z51 = -z50 → z52 = z51 / z44 → z53 = z49 / z44 → z54 = z17 * fac [z17, z18, z32] → z55 = z18 * fac [z17, z18, z32] → z56 = z32 * fac [z17, z18, z32] → z57 = z54 * z52 → z58 = z55 * z53 → z59 = z57 + z58 → z60 = z59 + z56 → (¬ (z15 = 0)) → z60 = 0 := by
 intro e9 e10 e11 e12 e13 e14 e15 e16 e17 e18 e19 e20 e21 e22 e23 e24 e25 e26 e27 e28 e29 e30 e31 e32 e33 e34 e35 e36 e37 e38 e39 e40 e41 e42 e43 e44 e45 e46 e47 e48 e49 e50 e51 e52 e53 e54 e55 e56 e57 e58 e59 e60 u3
 have k0_17 : fac [z17, z18, z32] = 0 → z17 = 0 := fac_zero (by simp)
 have k0_18 : fac [z17, z18, z32] = 0 → z18 = 0 := fac_zero (by simp)
 have k0_32 : fac [z17, z18, z32] = 0 → z32 = 0 := fac_zero (by simp)
 have l0_0 : z17 ≠ 0 → 0 < z17 * fac [z17, z18, z32] := fac_lead0
 have l0_1 : z17 = 0 → z18 ≠ 0 → 0 < z18 * fac [z17, z18, z32] := fac_lead1
 generalize fac [z17, z18, z32] = g0 at *
 have n44 : z44 ≠ 0 := by grind
 subst_vars; grind
theorem circleAxes_f6 {z0 z1 z3 z4 z6 z7 z9 z10 z11 z12 z13 z14 z15 z61 : Rat} : z9 = z3 - z0 → z10 = z4 - z1 → z11 = z6 - z0 → z12 = z7 - z1 → z13 = z9 * z12 → z14 = z10 * z11 → z15 = z13 - z14 → z61 = z6 - z3 → (¬ (z15 = 0)) → (z9 = 0) → ¬ (z61 = 0) := by
 intro e9 e10 e11 e12 e13 e14 e15 e61 u3 u4
 rw [u4] at e9
 subst_vars; grind
theorem circleAxes_f7 {z0 z1 z3 z4 z5 z6 z7 z8 z9 z10 z11 z12 z13 z14 z15 z16 z19 z26 z27 z28 z29 z30 z31 z35 z36 z37 z38 z39 z40 z61 z62 z63 z64 z65 z66 : Rat} : z9 = z3 - z0 → z10 = z4 - z1 → z11 = z6 - z0 → z12 = z7 - z1 → z13 = z9 * z12 → z14 = z10 * z11 → z15 = z13 - z14 → z16 = 2 → z19 = 0 → z26 = z19 - z3 → z27 = z19 - z4 → z28 = z26 * z26 → z29 = z27 * z27 → z30 = z28 + z29 → z31 = z30 - z5 → z35 = z19 - z6 → z36 = z19 - z7 → z37 = z35 * z35 → z38 = z36 * z36 → z39 = z37 + z38 → z40 = z39 - z8 → z61 = z6 - z3 → z62 = z7 - z4 → z63 = z61 * z16 → z64 = z62 * z16 → z65 = z31 - z40 → z66 = z63 * fac [z63, z64, z65] → (¬ (z15 = 0)) → (z9 = 0) → 0 < z66 := by
 intro e9 e10 e11 e12 e13 e14 e15 e16 e19 e26 e27 e28 e29 e30 e31 e35 e36 e37 e38 e39 e40 e61 e62 e63 e64 e65 e66 u3 u4
 rw [u4] at e9
 have k0_63 : fac [z63, z64, z65] = 0 → z63 = 0 := fac_zero (by simp)
 have k0_64 : fac [z63, z64, z65] = 0 → z64 = 0 := fac_zero (by simp)
 have k0_65 : fac [z63, z64, z65] = 0 → z65 = 0 := fac_zero (by simp)
 have l0_0 : z63 ≠ 0 → 0 < z63 * fac [z63, z64, z65] := fac_lead0
 have l0_1 : z63 = 0 → z64 ≠ 0 → 0 < z64 * fac [z63, z64, z65] := fac_lead1
 generalize fac [z63, z64, z65] = g0 at *
 subst_vars; grind
theorem circleAxes_f8 {z0 z1 z2 z3 z4 z5 z6 z7 z8 z9 z10 z11 z12 z13 z14 z15 z16 z17 z18 z19 z20 z21 z22 z23 z24 z25 z26 z27 z28 z29 z30 z31 z32 z33 z34 z35 z36 z37 z38 z39 z40 z41 z42 z43 z44 z45 z46 z47 z48 z49 z50 z51 z52 z53 z61 z62 z63 z64 z65 z66 z67 z68 z69 z70 z71 z72 : Rat} : z9 = z3 - z0 → z10 = z4 - z1 → z11 = z6 - z0 → z12 = z7 - z1 → z13 = z9 * z12 → z14 = z10 * z11 → z15 = z13 - z14 → z16 = 2 → z17 = z9 * z16 → z18 = z10 * z16 → z19 = 0 → z20 = z19 - z0 → z21 = z19 - z1 → z22 = z20 * z20 → z23 = z21 * z21 → z24 = z22 + z23 → z25 = z24 - z2 → z26 = z19 - z3 → z27 = z19 - z4 → z28 = z26 * z26 → z29 = z27 * z27 → z30 = z28 + z29 → z31 = z30 - z5 → z32 = z25 - z31 → z33 = z11 * z16 → z34 = z12 * z16 → z35 = z19 - z6 → z36 = z19 - z7 → z37 = z35 * z35 → z38 = z36 * z36 → z39 = z37 + z38 → z40 = z39 - z8 → z41 = z25 - z40 → z42 = z17 * z34 → z43 = z18 * z33 → z44 = z42 - z43 → z45 = z33 * z32 → z46 = z34 * z32 → z47 = z17 * z41 → z48 = z18 * z41 → z49 = z45 - z47 → z50 = z46 - z48 → z51 = -z50 → z52 = z51 / z44 → z53 = z49 / z44 → z61 = z6 - z3 → z62 = z7 - z4 → z63 = z61 * z16 → z64 = z62 * z16 → z65 = z31 - z40 → z66 = z63 * fac [z63, z64, z65] → z67 = z64 * fac [z63, z64, z65] → z68 = z65 * fac [z63, z64, z65] → z69 = z66 * z52 → z70 = z67 * z53 → z71 = z69 + z70 → z72 = z71 + z68 → (¬ (z15 = 0)) → z72 = 0 := by
 intro e9 e10 e11 e12 e13 e14 e15 e16 e17 e18 e19 e20 e21 e22 e23 e24 e25 e26 e27 e28 e29 e30 e31 e32 e33 e34 e35 e36 e37 e38 e39 e40 e41 e42 e43 e44 e45 e46 e47 e48 e49 e50 e51 e52 e53 e61 e62 e63 e64 e65 e66 e67 e68 e69 e70 e71 e72 u3
 have k0_63 : fac [z63, z64, z65] = 0 → z63 = 0 := fac_zero (by simp)
 have k0_64 : fac [z63, z64, z65] = 0 → z64 = 0 := fac_zero (by simp)
 have k0_65 : fac [z63, z64, z65] = 0 → z65 = 0 := fac_zero (by simp)
 have l0_0 : z63 ≠ 0 → 0 < z63 * fac [z63, z64, z65] := fac_lead0
 have l0_1 : z63 = 0 → z64 ≠ 0 → 0 < z64 * fac [z63, z64, z65] := fac_lead1
 generalize fac [z63, z64, z65] = g0 at *
 have n44 : z44 ≠ 0 := by grind
 subst_vars; grind
theorem circleAxes_f9 {z0 z1 z3 z4 z6 z7 z9 z10 z11 z12 z13 z14 z15 z73 : Rat} : z9 = z3 - z0 → z10 = z4 - z1 → z11 = z6 - z0 → z12 = z7 - z1 → z13 = z9 * z12 → z14 = z10 * z11 → z15 = z13 - z14 → z73 = z0 - z6 → (¬ (z15 = 0)) → (z9 = 0) → ¬ (z73 = 0) := by
 intro e9 e10 e11 e12 e13 e14 e15 e73 u3 u4
 rw [u4] at e9
 subst_vars; grind
theorem circleAxes_f10 {z0 z1 z2 z3 z4 z6 z7 z8 z9 z10 z11 z12 z13 z14 z15 z16 z19 z20 z21 z22 z23 z24 z25 z35 z36 z37 z38 z39 z40 z73 z74 z75 z76 z77 z78 : Rat} : z9 = z3 - z0 → z10 = z4 - z1 → z11 = z6 - z0 → z12 = z7 - z1 → z13 = z9 * z12 → z14 = z10 * z11 → z15 = z13 - z14 → z16 = 2 → z19 = 0 → z20 = z19 - z0 → z21 = z19 - z1 → z22 = z20 * z20 → z23 = z21 * z21 → z24 = z22 + z23 → z25 = z24 - z2 → z35 = z19 - z6 → z36 = z19 - z7 → z37 = z35 * z35 → z38 = z36 * z36 → z39 = z37 + z38 → z40 = z39 - z8 → z73 = z0 - z6 → z74 = z1 - z7 → z75 = z73 * z16 → z76 = z74 * z16 → z77 = z40 - z25 → z78 = z75 * fac [z75, z76, z77] → (¬ (z15 = 0)) → (z9 = 0) → 0 < z78 := by
 intro e9 e10 e11 e12 e13 e14 e15 e16 e19 e20 e21 e22 e23 e24 e25 e35 e36 e37 e38 e39 e40 e73 e74 e75 e76 e77 e78 u3 u4
 rw [u4] at e9
 have k0_75 : fac [z75, z76, z77] = 0 → z75 = 0 := fac_zero (by simp)
 have k0_76 : fac [z75, z76, z77] = 0 → z76 = 0 := fac_zero (by simp)
 have k0_77 : fac [z75, z76, z77] = 0 → z77 = 0 := fac_zero (by simp)
 have l0_0 : z75 ≠ 0 → 0 < z75 * fac [z75, z76, z77] := fac_lead0
 have l0_1 : z75 = 0 → z76 ≠ 0 → 0 < z76 * fac [z75, z76, z77] := fac_lead1
 generalize fac [z75, z76, z77] = g0 at *
 subst_vars; grind
theorem circleAxes_f11 {z0 z1 z2 z3 z4 z5 z6 z7 z8 z9 z10 z11 z12 z13 z14 z15 z16 z17 z18 z19 z20 z21 z22 z23 z24 z25 z26 z27 z28 z29 z30 z31 z32 z33 z34 z35 z36 z37 z38 z39 z40 z41 z42 z43 z44 z45 z46 z47 z48 z49 z50 z51 z52 z53 z73 z74 z75 z76 z77 z78 z79 z80 z81 z82 z83 z84 : Rat} : z9 = z3 - z0 → z10 = z4 - z1 → z11 = z6 - z0 → z12 = z7 - z1 → z13 = z9 * z12 → z14 = z10 * z11 → z15 = z13 - z14 → z16 = 2 → z17 = z9 * z16 → z18 = z10 * z16 → z19 = 0 → z20 = z19 - z0 → z21 = z19 - z1 → z22 = z20 * z20 → z23 = z21 * z21 → z24 = z22 + z23 → z25 = z24 - z2 → z26 = z19 - z3 → z27 = z19 - z4 → z28 = z26 * z26 → z29 = z27 * z27 → z30 = z28 + z29 → z31 = z30 - z5 → z32 = z25 - z31 → z33 = z11 * z16 → z34 = z12 * z16 → z35 = z19 - z6 → z36 = z19 - z7 → z37 = z35 * z35 → z38 = z36 * z36 → z39 = z37 + z38 → z40 = z39 - z8 → z41 = z25 - z40 → z42 = z17 * z34 → z43 = z18 * z33 → z44 = z42 - z43 → z45 = z33 * z32 → z46 = z34 * z32 → z47 = z17 * z41 → z48 = z18 * z41 → z49 = z45 - z47 → z50 = z46 - z48 → z51 = -z50 → z52 = z51 / z44 → z53 = z49 / z44 → z73 = z0 - z6 → z74 = z1 - z7 → z75 = z73 * z16 → z76 = z74 * z16 → z77 = z40 - z25 → z78 = z75 * fac [z75, z76, z77] → z79 = z76 * fac [z75, z76, z77] → z80 = z77 * fac [z75, z76, z77] → z81 = z78 * z52 → z82 = z79 * z53 → z83 = z81 + z82 → z84 = z83 + z80 → (¬ (z15 = 0)) → z84 = 0 := by
 intro e9 e10 e11 e12 e13 e14 e15 e16 e17 e18 e19 e20 e21 e22 e23 e24 e25 e26 e27 e28 e29 e30 e31 e32 e33 e34 e35 e36 e37 e38 e39 e40 e41 e42 e43 e44 e45 e46 e47 e48 e49 e50 e51 e52 e53 e73 e74 e75 e76 e77 e78 e79 e80 e81 e82 e83 e84 u3
 have k0_75 : fac [z75, z76, z77] = 0 → z75 = 0 := fac_zero (by simp)
 have k0_76 : fac [z75, z76, z77] = 0 → z76 = 0 := fac_zero (by simp)
 have k0_77 : fac [z75, z76, z77] = 0 → z77 = 0 := fac_zero (by simp)
 have l0_0 : z75 ≠ 0 → 0 < z75 * fac [z75, z76, z77] := fac_lead0
 have l0_1 : z75 = 0 → z76 ≠ 0 → 0 < z76 * fac [z75, z76, z77] := fac_lead1
 generalize fac [z75, z76, z77] = g0 at *
 have n44 : z44 ≠ 0 := by grind
 subst_vars; grind
theorem circleAxes_f12 {z0 z1 z2 z3 z4 z5 z6 z7 z8 z9 z10 z11 z12 z13 z14 z15 z16 z17 z18 z19 z20 z21 z22 z23 z24 z25 z26 z27 z28 z29 z30 z31 z32 z33 z34 z35 z36 z37 z38 z39 z40 z41 z42 z43 z44 z45 z46 z47 z48 z49 z50 z51 z52 z53 z85 z86 z87 z88 z89 z90 z91 z92 z93 z94 : Rat} : z9 = z3 - z0 → z10 = z4 - z1 → z11 = z6 - z0 → z12 = z7 - z1 → z13 = z9 * z12 → z14 = z10 * z11 → z15 = z13 - z14 → z16 = 2 → z17 = z9 * z16 → z18 = z10 * z16 → z19 = 0 → z20 = z19 - z0 → z21 = z19 - z1 → z22 = z20 * z20 → z23 = z21 * z21 → z24 = z22 + z23 → z25 = z24 - z2 → z26 = z19 - z3 → z27 = z19 - z4 → z28 = z26 * z26 → z29 = z27 * z27 → z30 = z28 + z29 → z31 = z30 - z5 → z32 = z25 - z31 → z33 = z11 * z16 → z34 = z12 * z16 → z35 = z19 - z6 → z36 = z19 - z7 → z37 = z35 * z35 → z38 = z36 * z36 → z39 = z37 + z38 → z40 = z39 - z8 → z41 = z25 - z40 → z42 = z17 * z34 → z43 = z18 * z33 → z44 = z42 - z43 → z45 = z33 * z32 → z46 = z34 * z32 → z47 = z17 * z41 → z48 = z18 * z41 → z49 = z45 - z47 → z50 = z46 - z48 → z51 = -z50 → z52 = z51 / z44 → z53 = z49 / z44 → z85 = z52 - z0 → z86 = z53 - z1 → z87 = z85 * z85 → z88 = z86 * z86 → z89 = z87 + z88 → z90 = z89 - z2 → z91 = -z2 → z92 = -z90 → z93 = z89 + z91 → z94 = z93 + z92 → (0 < z2) → (0 < z5) → (0 < z8) → (¬ (z15 = 0)) → (z9 = 0) → (0 < z90) → z94 = 0 := by
 intro e9 e10 e11 e12 e13 e14 e15 e16 e17 e18 e19 e20 e21 e22 e23 e24 e25 e26 e27 e28 e29 e30 e31 e32 e33 e34 e35 e36 e37 e38 e39 e40 e41 e42 e43 e44 e45 e46 e47 e48 e49 e50 e51 e52 e53 e85 e86 e87 e88 e89 e90 e91 e92 e93 e94 u0 u1 u2 u3 u4 u5
 rw [u4] at e9
 have n44 : z44 ≠ 0 := by grind
 subst_vars; grind
theorem circleAxes_f13 {z0 z1 z2 z3 z4 z5 z6 z7 z8 z9 z10 z11 z12 z13 z14 z15 z16 z17 z18 z19 z20 z21 z22 z23 z24 z25 z26 z27 z28 z29 z30 z31 z32 z33 z34 z35 z36 z37 z38 z39 z40 z41 z42 z43 z44 z45 z46 z47 z48 z49 z50 z51 z52 z53 z85 z86 z87 z88 z89 z90 z92 z95 z96 z97 z98 z99 z100 z101 z102 : Rat} : z9 = z3 - z0 → z10 = z4 - z1 → z11 = z6 - z0 → z12 = z7 - z1 → z13 = z9 * z12 → z14 = z10 * z11 → z15 = z13 - z14 → z16 = 2 → z17 = z9 * z16 → z18 = z10 * z16 → z19 = 0 → z20 = z19 - z0 → z21 = z19 - z1 → z22 = z20 * z20 → z23 = z21 * z21 → z24 = z22 + z23 → z25 = z24 - z2 → z26 = z19 - z3 → z27 = z19 - z4 → z28 = z26 * z26 → z29 = z27 * z27 → z30 = z28 + z29 → z31 = z30 - z5 → z32 = z25 - z31 → z33 = z11 * z16 → z34 = z12 * z16 → z35 = z19 - z6 → z36 = z19 - z7 → z37 = z35 * z35 → z38 = z36 * z36 → z39 = z37 + z38 → z40 = z39 - z8 → z41 = z25 - z40 → z42 = z17 * z34 → z43 = z18 * z33 → z44 = z42 - z43 → z45 = z33 * z32 → z46 = z34 * z32 → z47 = z17 * z41 → z48 = z18 * z41 → z49 = z45 - z47 → z50 = z46 - z48 → z51 = -z50 → z52 = z51 / z44 → z53 = z49 / z44 → z85 = z52 - z0 → z86 = z53 - z1 → z87 = z85 * z85 → z88 = z86 * z86 → z89 = z87 + z88 → z90 = z89 - z2 → z92 = -z90 → z95 = z52 - z3 → z96 = z53 - z4 → z97 = z95 * z95 → z98 = z96 * z96 → z99 = z97 + z98 → z100 = -z5 → z101 = z99 + z100 → z102 = z101 + z92 → (¬ (z15 = 0)) → z102 = 0 := by
 intro e9 e10 e11 e12 e13 e14 e15 e16 e17 e18 e19 e20 e21 e22 e23 e24 e25 e26 e27 e28 e29 e30 e31 e32 e33 e34 e35 e36 e37 e38 e39 e40 e41 e42 e43 e44 e45 e46 e47 e48 e49 e50 e51 e52 e53 e85 e86 e87 e88 e89 e90 e92 e95 e96 e97 e98 e99 e100 e101 e102 u3
 have n44 : z44 ≠ 0 := by grind
 subst_vars; grind
theorem circleAxes_f14 {z0 z1 z2 z3 z4 z5 z6 z7 z8 z9 z10 z11 z12 z13 z14 z15 z16 z17 z18 z19 z20 z21 z22 z23 z24 z25 z26 z27 z28 z29 z30 z31 z32 z33 z34 z35 z36 z37 z38 z39 z40 z41 z42 z43 z44 z45 z46 z47 z48 z49 z50 z51 z52 z53 z85 z86 z87 z88 z89 z90 z92 z103 z104 z105 z106 z107 z108 z109 z110 : Rat} : z9 = z3 - z0 → z10 = z4 - z1 → z11 = z6 - z0 → z12 = z7 - z1 → z13 = z9 * z12 → z14 = z10 * z11 → z15 = z13 - z14 → z16 = 2 → z17 = z9 * z16 → z18 = z10 * z16 → z19 = 0 → z20 = z19 - z0 → z21 = z19 - z1 → z22 = z20 * z20 → z23 = z21 * z21 → z24 = z22 + z23 → z25 = z24 - z2 → z26 = z19 - z3 → z27 = z19 - z4 → z28 = z26 * z26 → z29 = z27 * z27 → z30 = z28 + z29 → z31 = z30 - z5 → z32 = z25 - z31 → z33 = z11 * z16 → z34 = z12 * z16 → z35 = z19 - z6 → z36 = z19 - z7 → z37 = z35 * z35 → z38 = z36 * z36 → z39 = z37 + z38 → z40 = z39 - z8 → z41 = z25 - z40 → z42 = z17 * z34 → z43 = z18 * z33 → z44 = z42 - z43 → z45 = z33 * z32 → z46 = z34 * z32 → z47 = z17 * z41 → z48 = z18 * z41 → z49 = z45 - z47 → z50 = z46 - z48 → z51 = -z50 → z52 = z51 / z44 → z53 = z49 / z44 → z85 = z52 - z0 → z86 = z53 - z1 → z87 = z85 * z85 → z88 = z86 * z86 → z89 = z87 + z88 → z90 = z89 - z2 → z92 = -z90 → z103 = z52 - z6 → z104 = z53 - z7 → z105 = z103 * z103 → z106 = z104 * z104 → z107 = z105 + z106 → z108 = -z8 → z109 = z107 + z108 → z110 = z109 + z92 → (¬ (z15 = 0)) → z110 = 0 := by
 intro e9 e10 e11 e12 e13 e14 e15 e16 e17 e18 e19 e20 e21 e22 e23 e24 e25 e26 e27 e28 e29 e30 e31 e32 e33 e34 e35 e36 e37 e38 e39 e40 e41 e42 e43 e44 e45 e46 e47 e48 e49 e50 e51 e52 e53 e85 e86 e87 e88 e89 e90 e92 e103 e104 e105 e106 e107 e108 e109 e110 u3
 have n44 : z44 ≠ 0 := by grind
 subst_vars; grind
theorem circleAxes_f15 {z0 z1 z3 z4 z6 z7 z9 z10 z11 z12 z13 z14 z15 : Rat} : z9 = z3 - z0 → z10 = z4 - z1 → z11 = z6 - z0 → z12 = z7 - z1 → z13 = z9 * z12 → z14 = z10 * z11 → z15 = z13 - z14 → (¬ (z15 = 0)) → (z11 = 0) → ¬ (z12 = 0) := by
 intro e9 e10 e11 e12 e13 e14 e15 u3 u5
 rw [u5] at e11
 subst_vars; grind
theorem circleAxes_f16 {z0 z1 z2 z3 z4 z5 z9 z10 z16 z17 z18 z19 z20 z21 z22 z23 z24 z25 z26 z27 z28 z29 z30 z31 z32 z54 : Rat} : z9 = z3 - z0 → z10 = z4 - z1 → z16 = 2 → z17 = z9 * z16 → z18 = z10 * z16 → z19 = 0 → z20 = z19 - z0 → z21 = z19 - z1 → z22 = z20 * z20 → z23 = z21 * z21 → z24 = z22 + z23 → z25 = z24 - z2 → z26 = z19 - z3 → z27 = z19 - z4 → z28 = z26 * z26 → z29 = z27 * z27 → z30 = z28 + z29 → z31 = z30 - z5 → z32 = z25 - z31 → z54 = z17 * fac [z17, z18, z32] → (¬ (z9 = 0)) → 0 < z54 := by
 intro e9 e10 e16 e17 e18 e19 e20 e21 e22 e23 e24 e25 e26 e27 e28 e29 e30 e31 e32 e54 u4
 have k0_17 : fac [z17, z18, z32] = 0 → z17 = 0 := fac_zero (by simp)
 have k0_18 : fac [z17, z18, z32] = 0 → z18 = 0 := fac_zero (by simp)
 have k0_32 : fac [z17, z18, z32] = 0 → z32 = 0 := fac_zero (by simp)
 have l0_0 : z17 ≠ 0 → 0 < z17 * fac [z17, z18, z32] := fac_lead0
 have l0_1 : z17 = 0 → z18 ≠ 0 → 0 < z18 * fac [z17, z18, z32] := fac_lead1
 generalize fac [z17, z18, z32] = g0 at *
 subst_vars; grind
theorem circleAxes_f17 {z0 z3 z6 z9 z11 z61 : Rat} : z9 = z3 - z0 → z11 = z6 - z0 → z61 = z6 - z3 → (¬ (z9 = 0)) → (z11 = 0) → ¬ (z61 = 0) := by
 intro e9 e11 e61 u4 u5
 rw [u5] at e11
 subst_vars; grind
theorem circleAxes_f18 {z0 z3 z4 z5 z6 z7 z8 z9 z11 z16 z19 z26 z27 z28 z29 z30 z31 z35 z36 z37 z38 z39 z40 z61 z62 z63 z64 z65 z66 : Rat} : z9 = z3 - z0 → z11 = z6 - z0 → z16 = 2 → z19 = 0 → z26 = z19 - z3 → z27 = z19 - z4 → z28 = z26 * z26 → z29 = z27 * z27 → z30 = z28 + z29 → z31 = z30 - z5 → z35 = z19 - z6 → z36 = z19 - z7 → z37 = z35 * z35 → z38 = z36 * z36 → z39 = z37 + z38 → z40 = z39 - z8 → z61 = z6 - z3 → z62 = z7 - z4 → z63 = z61 * z16 → z64 = z62 * z16 → z65 = z31 - z40 → z66 = z63 * fac [z63, z64, z65] → (¬ (z9 = 0)) → (z11 = 0) → 0 < z66 := by
 intro e9 e11 e16 e19 e26 e27 e28 e29 e30 e31 e35 e36 e37 e38 e39 e40 e61 e62 e63 e64 e65 e66 u4 u5
 rw [u5] at e11
 have k0_63 : fac [z63, z64, z65] = 0 → z63 = 0 := fac_zero (by simp)
 have k0_64 : fac [z63, z64, z65] = 0 → z64 = 0 := fac_zero (by simp)
 have k0_65 : fac [z63, z64, z65] = 0 → z65 = 0 := fac_zero (by simp)
 have l0_0 : z63 ≠ 0 → 0 < z63 * fac [z63, z64, z65] := fac_lead0
 have l0_1 : z63 = 0 → z64 ≠ 0 → 0 < z64 * fac [z63, z64, z65] := fac_lead1
 generalize fac [z63, z64, z65] = g0 at *
 subst_vars; grind
theorem circleAxes_f19 {z0 z6 z11 z73 : Rat} : z11 = z6 - z0 → z73 = z0 - z6 → (z11 = 0) → z73 = 0 := by
 intro e11 e73 u5
 rw [u5] at e11
 subst_vars; grind
theorem circleAxes_f20 {z0 z1 z3 z4 z6 z7 z9 z10 z11 z12 z13 z14 z15 z74 : Rat} : z9 = z3 - z0 → z10 = z4 - z1 → z11 = z6 - z0 → z12 = z7 - z1 → z13 = z9 * z12 → z14 = z10 * z11 → z15 = z13 - z14 → z74 = z1 - z7 → (¬ (z15 = 0)) → (z11 = 0) → ¬ (z74 = 0) := by
 intro e9 e10 e11 e12 e13 e14 e15 e74 u3 u5
 rw [u5] at e11
 subst_vars; grind
theorem circleAxes_f21 {z0 z1 z2 z6 z7 z8 z11 z16 z19 z20 z21 z22 z23 z24 z25 z35 z36 z37 z38 z39 z40 z73 z74 z75 z76 z77 z78 : Rat} : z11 = z6 - z0 → z16 = 2 → z19 = 0 → z20 = z19 - z0 → z21 = z19 - z1 → z22 = z20 * z20 → z23 = z21 * z21 → z24 = z22 + z23 → z25 = z24 - z2 → z35 = z19 - z6 → z36 = z19 - z7 → z37 = z35 * z35 → z38 = z36 * z36 → z39 = z37 + z38 → z40 = z39 - z8 → z73 = z0 - z6 → z74 = z1 - z7 → z75 = z73 * z16 → z76 = z74 * z16 → z77 = z40 - z25 → z78 = z75 * fac [z75, z76, z77] → (z11 = 0) → z78 = 0 := by
 intro e11 e16 e19 e20 e21 e22 e23 e24 e25 e35 e36 e37 e38 e39 e40 e73 e74 e75 e76 e77 e78 u5
 rw [u5] at e11
 have k0_75 : fac [z75, z76, z77] = 0 → z75 = 0 := fac_zero (by simp)
 have k0_76 : fac [z75, z76, z77] = 0 → z76 = 0 := fac_zero (by simp)
 have k0_77 : fac [z75, z76, z77] = 0 → z77 = 0 := fac_zero (by simp)
 have l0_0 : z75 ≠ 0 → 0 < z75 * fac [z75, z76, z77] := fac_lead0
 have l0_1 : z75 = 0 → z76 ≠ 0 → 0 < z76 * fac [z75, z76, z77] := fac_lead1
 generalize fac [z75, z76, z77] = g0 at *
 subst_vars; grind
theorem circleAxes_f22 {z0 z1 z2 z3 z4 z6 z7 z8 z9 z10 z11 z12 z13 z14 z15 z16 z19 z20 z21 z22 z23 z24 z25 z35 z36 z37 z38 z39 z40 z73 z74 z75 z76 z77 z79 : Rat} : z9 = z3 - z0 → z10 = z4 - z1 → z11 = z6 - z0 → z12 = z7 - z1 → z13 = z9 * z12 → z14 = z10 * z11 → z15 = z13 - z14 → z16 = 2 → z19 = 0 → z20 = z19 - z0 → z21 = z19 - z1 → z22 = z20 * z20 → z23 = z21 * z21 → z24 = z22 + z23 → z25 = z24 - z2 → z35 = z19 - z6 → z36 = z19 - z7 → z37 = z35 * z35 → z38 = z36 * z36 → z39 = z37 + z38 → z40 = z39 - z8 → z73 = z0 - z6 → z74 = z1 - z7 → z75 = z73 * z16 → z76 = z74 * z16 → z77 = z40 - z25 → z79 = z76 * fac [z75, z76, z77] → (¬ (z15 = 0)) → (z11 = 0) → 0 < z79 := by
 intro e9 e10 e11 e12 e13 e14 e15 e16 e19 e20 e21 e22 e23 e24 e25 e35 e36 e37 e38 e39 e40 e73 e74 e75 e76 e77 e79 u3 u5
 rw [u5] at e11
 have k0_75 : fac [z75, z76, z77] = 0 → z75 = 0 := fac_zero (by simp)
 have k0_76 : fac [z75, z76, z77] = 0 → z76 = 0 := fac_zero (by simp)
 have k0_77 : fac [z75, z76, z77] = 0 → z77 = 0 := fac_zero (by simp)
 have l0_0 : z75 ≠ 0 → 0 < z75 * fac [z75, z76, z77] := fac_lead0
 have l0_1 : z75 = 0 → z76 ≠ 0 → 0 < z76 * fac [z75, z76, z77] := fac_lead1
 generalize fac [z75, z76, z77] = g0 at *
 subst_vars; grind
theorem circleAxes_f23 {z0 z1 z2 z3 z4 z5 z6 z7 z8 z9 z10 z11 z12 z13 z14 z15 z16 z17 z18 z19 z20 z21 z22 z23 z24 z25 z26 z27 z28 z29 z30 z31 z32 z33 z34 z35 z36 z37 z38 z39 z40 z41 z42 z43 z44 z45 z46 z47 z48 z49 z50 z51 z52 z53 z85 z86 z87 z88 z89 z90 z91 z92 z93 z94 : Rat} : z9 = z3 - z0 → z10 = z4 - z1 → z11 = z6 - z0 → z12 = z7 - z1 → z13 = z9 * z12 → z14 = z10 * z11 → z15 = z13 - z14 → z16 = 2 → z17 = z9 * z16 → z18 = z10 * z16 → z19 = 0 → z20 = z19 - z0 → z21 = z19 - z1 → z22 = z20 * z20 → z23 = z21 * z21 → z24 = z22 + z23 → z25 = z24 - z2 → z26 = z19 - z3 → z27 = z19 - z4 → z28 = z26 * z26 → z29 = z27 * z27 → z30 = z28 + z29 → z31 = z30 - z5 → z32 = z25 - z31 → z33 = z11 * z16 → z34 = z12 * z16 → z35 = z19 - z6 → z36 = z19 - z7 → z37 = z35 * z35 → z38 = z36 * z36 → z39 = z37 + z38 → z40 = z39 - z8 → z41 = z25 - z40 → z42 = z17 * z34 → z43 = z18 * z33 → z44 = z42 - z43 → z45 = z33 * z32 → z46 = z34 * z32 → z47 = z17 * z41 → z48 = z18 * z41 → z49 = z45 - z47 → z50 = z46 - z48 → z51 = -z50 → z52 = z51 / z44 → z53 = z49 / z44 → z85 = z52 - z0 → z86 = z53 - z1 → z87 = z85 * z85 → z88 = z86 * z86 → z89 = z87 + z88 → z90 = z89 - z2 → z91 = -z2 → z92 = -z90 → z93 = z89 + z91 → z94 = z93 + z92 → (0 < z2) → (0 < z5) → (0 < z8) → (¬ (z15 = 0)) → (¬ (z9 = 0)) → (z11 = 0) → (0 < z90) → z94 = 0 := by
 intro e9 e10 e11 e12 e13 e14 e15 e16 e17 e18 e19 e20 e21 e22 e23 e24 e25 e26 e27 e28 e29 e30 e31 e32 e33 e34 e35 e36 e37 e38 e39 e40 e41 e42 e43 e44 e45 e46 e47 e48 e49 e50 e51 e52 e53 e85 e86 e87 e88 e89 e90 e91 e92 e93 e94 u0 u1 u2 u3 u4 u5 u6
 rw [u5] at e11
 have n44 : z44 ≠ 0 := by grind
 subst_vars; grind
theorem circleAxes_f24 {z0 z1 z3 z4 z6 z7 z9 z10 z11 z12 z13 z14 z15 z61 z62 : Rat} : z9 = z3 - z0 → z10 = z4 - z1 → z11 = z6 - z0 → z12 = z7 - z1 → z13 = z9 * z12 → z14 = z10 * z11 → z15 = z13 - z14 → z61 = z6 - z3 → z62 = z7 - z4 → (¬ (z15 = 0)) → (z61 = 0) → ¬ (z62 = 0) := by
 intro e9 e10 e11 e12 e13 e14 e15 e61 e62 u3 u6
 rw [u6] at e61
 subst_vars; grind
theorem circleAxes_f25 {z3 z4 z5 z6 z7 z8 z16 z19 z26 z27 z28 z29 z30 z31 z35 z36 z37 z38 z39 z40 z61 z62 z63 z64 z65 z66 : Rat} : z16 = 2 → z19 = 0 → z26 = z19 - z3 → z27 = z19 - z4 → z28 = z26 * z26 → z29 = z27 * z27 → z30 = z28 + z29 → z31 = z30 - z5 → z35 = z19 - z6 → z36 = z19 - z7 → z37 = z35 * z35 → z38 = z36 * z36 → z39 = z37 + z38 → z40 = z39 - z8 → z61 = z6 - z3 → z62 = z7 - z4 → z63 = z61 * z16 → z64 = z62 * z16 → z65 = z31 - z40 → z66 = z63 * fac [z63, z64, z65] → (z61 = 0) → z66 = 0 := by
 intro e16 e19 e26 e27 e28 e29 e30 e31 e35 e36 e37 e38 e39 e40 e61 e62 e63 e64 e65 e66 u6
 rw [u6] at e61
 have k0_63 : fac [z63, z64, z65] = 0 → z63 = 0 := fac_zero (by simp)
 have k0_64 : fac [z63, z64, z65] = 0 → z64 = 0 := fac_zero (by simp)
 have k0_65 : fac [z63, z64, z65] = 0 → z65 = 0 := fac_zero (by simp)
 have l0_0 : z63 ≠ 0 → 0 < z63 * fac [z63, z64, z65] := fac_lead0
 have l0_1 : z63 = 0 → z64 ≠ 0 → 0 < z64 * fac [z63, z64, z65] := fac_lead1
 generalize fac [z63, z64, z65] = g0 at *
 subst_vars; grind
theorem circleAxes_f26 {z0 z1 z3 z4 z5 z6 z7 z8 z9 z10 z11 z12 z13 z14 z15 z16 z19 z26 z27 z28 z29 z30 z31 z35 z36 z37 z38 z39 z40 z61 z62 z63 z64 z65 z67 : Rat} : z9 = z3 - z0 → z10 = z4 - z1 → z11 = z6 - z0 → z12 = z7 - z1 → z13 = z9 * z12 → z14 = z10 * z11 → z15 = z13 - z14 → z16 = 2 → z19 = 0 → z26 = z19 - z3 → z27 = z19 - z4 → z28 = z26 * z26 → z29 = z27 * z27 → z30 = z28 + z29 → z31 = z30 - z5 → z35 = z19 - z6 → z36 = z19 - z7 → z37 = z35 * z35 → z38 = z36 * z36 → z39 = z37 + z38 → z40 = z39 - z8 → z61 = z6 - z3 → z62 = z7 - z4 → z63 = z61 * z16 → z64 = z62 * z16 → z65 = z31 - z40 → z67 = z64 * fac [z63, z64, z65] → (¬ (z15 = 0)) → (z61 = 0) → 0 < z67 := by
 intro e9 e10 e11 e12 e13 e14 e15 e16 e19 e26 e27 e28 e29 e30 e31 e35 e36 e37 e38 e39 e40 e61 e62 e63 e64 e65 e67 u3 u6
 rw [u6] at e61
 have k0_63 : fac [z63, z64, z65] = 0 → z63 = 0 := fac_zero (by simp)
 have k0_64 : fac [z63, z64, z65] = 0 → z64 = 0 := fac_zero (by simp)
 have k0_65 : fac [z63, z64, z65] = 0 → z65 = 0 := fac_zero (by simp)
 have l0_0 : z63 ≠ 0 → 0 < z63 * fac [z63, z64, z65] := fac_lead0
 have l0_1 : z63 = 0 → z64 ≠ 0 → 0 < z64 * fac [z63, z64, z65] := fac_lead1
 generalize fac [z63, z64, z65] = g0 at *
 subst_vars; grind
theorem circleAxes_f27 {z0 z6 z11 z73 : Rat} : z11 = z6 - z0 → z73 = z0 - z6 → (¬ (z11 = 0)) → ¬ (z73 = 0) := by
 intro e11 e73 u5
 subst_vars; grind
theorem circleAxes_f28 {z0 z1 z2 z6 z7 z8 z11 z16 z19 z20 z21 z22 z23 z24 z25 z35 z36 z37 z38 z39 z40 z73 z74 z75 z76 z77 z78 : Rat} : z11 = z6 - z0 → z16 = 2 → z19 = 0 → z20 = z19 - z0 → z21 = z19 - z1 → z22 = z20 * z20 → z23 = z21 * z21 → z24 = z22 + z23 → z25 = z24 - z2 → z35 = z19 - z6 → z36 = z19 - z7 → z37 = z35 * z35 → z38 = z36 * z36 → z39 = z37 + z38 → z40 = z39 - z8 → z73 = z0 - z6 → z74 = z1 - z7 → z75 = z73 * z16 → z76 = z74 * z16 → z77 = z40 - z25 → z78 = z75 * fac [z75, z76, z77] → (¬ (z11 = 0)) → 0 < z78 := by
 intro e11 e16 e19 e20 e21 e22 e23 e24 e25 e35 e36 e37 e38 e39 e40 e73 e74 e75 e76 e77 e78 u5
 have k0_75 : fac [z75, z76, z77] = 0 → z75 = 0 := fac_zero (by simp)
 have k0_76 : fac [z75, z76, z77] = 0 → z76 = 0 := fac_zero (by simp)
 have k0_77 : fac [z75, z76, z77] = 0 → z77 = 0 := fac_zero (by simp)
 have l0_0 : z75 ≠ 0 → 0 < z75 * fac [z75, z76, z77] := fac_lead0
 have l0_1 : z75 = 0 → z76 ≠ 0 → 0 < z76 * fac [z75, z76, z77] := fac_lead1
 generalize fac [z75, z76, z77] = g0 at *
 subst_vars; grind
theorem circleAxes_f29 {z0 z1 z2 z3 z4 z5 z6 z7 z8 z9 z10 z11 z12 z13 z14 z15 z16 z17 z18 z19 z20 z21 z22 z23 z24 z25 z26 z27 z28 z29 z30 z31 z32 z33 z34 z35 z36 z37 z38 z39 z40 z41 z42 z43 z44 z45 z46 z47 z48 z49 z50 z51 z52 z53 z61 z85 z86 z87 z88 z89 z90 z91 z92 z93 z94 : Rat} : z9 = z3 - z0 → z10 = z4 - z1 → z11 = z6 - z0 → z12 = z7 - z1 → z13 = z9 * z12 → z14 = z10 * z11 → z15 = z13 - z14 → z16 = 2 → z17 = z9 * z16 → z18 = z10 * z16 → z19 = 0 → z20 = z19 - z0 → z21 = z19 - z1 → z22 = z20 * z20 → z23 = z21 * z21 → z24 = z22 + z23 → z25 = z24 - z2 → z26 = z19 - z3 → z27 = z19 - z4 → z28 = z26 * z26 → z29 = z27 * z27 → z30 = z28 + z29 → z31 = z30 - z5 → z32 = z25 - z31 → z33 = z11 * z16 → z34 = z12 * z16 → z35 = z19 - z6 → z36 = z19 - z7 → z37 = z35 * z35 → z38 = z36 * z36 → z39 = z37 + z38 → z40 = z39 - z8 → z41 = z25 - z40 → z42 = z17 * z34 → z43 = z18 * z33 → z44 = z42 - z43 → z45 = z33 * z32 → z46 = z34 * z32 → z47 = z17 * z41 → z48 = z18 * z41 → z49 = z45 - z47 → z50 = z46 - z48 → z51 = -z50 → z52 = z51 / z44 → z53 = z49 / z44 → z61 = z6 - z3 → z85 = z52 - z0 → z86 = z53 - z1 → z87 = z85 * z85 → z88 = z86 * z86 → z89 = z87 + z88 → z90 = z89 - z2 → z91 = -z2 → z92 = -z90 → z93 = z89 + z91 → z94 = z93 + z92 → (0 < z2) → (0 < z5) → (0 < z8) → (¬ (z15 = 0)) → (¬ (z9 = 0)) → (¬ (z11 = 0)) → (z61 = 0) → (0 < z90) → z94 = 0 := by
 intro e9 e10 e11 e12 e13 e14 e15 e16 e17 e18 e19 e20 e21 e22 e23 e24 e25 e26 e27 e28 e29 e30 e31 e32 e33 e34 e35 e36 e37 e38 e39 e40 e41 e42 e43 e44 e45 e46 e47 e48 e49 e50 e51 e52 e53 e61 e85 e86 e87 e88 e89 e90 e91 e92 e93 e94 u0 u1 u2 u3 u4 u5 u6 u7
 rw [u6] at e61
 have n44 : z44 ≠ 0 := by grind
 subst_vars; grind
theorem circleAxes_f30 {z3 z4 z5 z6 z7 z8 z16 z19 z26 z27 z28 z29 z30 z31 z35 z36 z37 z38 z39 z40 z61 z62 z63 z64 z65 z66 : Rat} : z16 = 2 → z19 = 0 → z26 = z19 - z3 → z27 = z19 - z4 → z28 = z26 * z26 → z29 = z27 * z27 → z30 = z28 + z29 → z31 = z30 - z5 → z35 = z19 - z6 → z36 = z19 - z7 → z37 = z35 * z35 → z38 = z36 * z36 → z39 = z37 + z38 → z40 = z39 - z8 → z61 = z6 - z3 → z62 = z7 - z4 → z63 = z61 * z16 → z64 = z62 * z16 → z65 = z31 - z40 → z66 = z63 * fac [z63, z64, z65] → (¬ (z61 = 0)) → 0 < z66 := by
 intro e16 e19 e26 e27 e28 e29 e30 e31 e35 e36 e37 e38 e39 e40 e61 e62 e63 e64 e65 e66 u6
 have k0_63 : fac [z63, z64, z65] = 0 → z63 = 0 := fac_zero (by simp)
 have k0_64 : fac [z63, z64, z65] = 0 → z64 = 0 := fac_zero (by simp)
 have k0_65 : fac [z63, z64, z65] = 0 → z65 = 0 := fac_zero (by simp)
 have l0_0 : z63 ≠ 0 → 0 < z63 * fac [z63, z64, z65] := fac_lead0
 have l0_1 : z63 = 0 → z64 ≠ 0 → 0 < z64 * fac [z63, z64, z65] := fac_lead1
 generalize fac [z63, z64, z65] = g0 at *
 subst_vars; grind
theorem circleAxes_f31 {z0 z1 z2 z3 z4 z5 z6 z7 z8 z9 z10 z11 z12 z13 z14 z15 z16 z17 z18 z19 z20 z21 z22 z23 z24 z25 z26 z27 z28 z29 z30 z31 z32 z33 z34 z35 z36 z37 z38 z39 z40 z41 z42 z43 z44 z45 z46 z47 z48 z49 z50 z51 z52 z53 z61 z85 z86 z87 z88 z89 z90 z91 z92 z93 z94 : Rat} : z9 = z3 - z0 → z10 = z4 - z1 → z11 = z6 - z0 → z12 = z7 - z1 → z13 = z9 * z12 → z14 = z10 * z11 → z15 = z13 - z14 → z16 = 2 → z17 = z9 * z16 → z18 = z10 * z16 → z19 = 0 → z20 = z19 - z0 → z21 = z19 - z1 → z22 = z20 * z20 → z23 = z21 * z21 → z24 = z22 + z23 → z25 = z24 - z2 → z26 = z19 - z3 → z27 = z19 - z4 → z28 = z26 * z26 → z29 = z27 * z27 → z30 = z28 + z29 → z31 = z30 - z5 → z32 = z25 - z31 → z33 = z11 * z16 → z34 = z12 * z16 → z35 = z19 - z6 → z36 = z19 - z7 → z37 = z35 * z35 → z38 = z36 * z36 → z39 = z37 + z38 → z40 = z39 - z8 → z41 = z25 - z40 → z42 = z17 * z34 → z43 = z18 * z33 → z44 = z42 - z43 → z45 = z33 * z32 → z46 = z34 * z32 → z47 = z17 * z41 → z48 = z18 * z41 → z49 = z45 - z47 → z50 = z46 - z48 → z51 = -z50 → z52 = z51 / z44 → z53 = z49 / z44 → z61 = z6 - z3 → z85 = z52 - z0 → z86 = z53 - z1 → z87 = z85 * z85 → z88 = z86 * z86 → z89 = z87 + z88 → z90 = z89 - z2 → z91 = -z2 → z92 = -z90 → z93 = z89 + z91 → z94 = z93 + z92 → (0 < z2) → (0 < z5) → (0 < z8) → (¬ (z15 = 0)) → (¬ (z9 = 0)) → (¬ (z11 = 0)) → (¬ (z61 = 0)) → (0 < z90) → z94 = 0 := by
 intro e9 e10 e11 e12 e13 e14 e15 e16 e17 e18 e19 e20 e21 e22 e23 e24 e25 e26 e27 e28 e29 e30 e31 e32 e33 e34 e35 e36 e37 e38 e39 e40 e41 e42 e43 e44 e45 e46 e47 e48 e49 e50 e51 e52 e53 e61 e85 e86 e87 e88 e89 e90 e91 e92 e93 e94 u0 u1 u2 u3 u4 u5 u6 u7
 have n44 : z44 ≠ 0 := by grind
 subst_vars; grind
theorem circleAxes_r0 : (callB (sx Tryz.prog circleAxes_N [(2, 2, 0, 1), (2, 5, 0, 1), (2, 8, 0, 1), (0, 15, 0, 1)] [] circleAxes_L circleAxes_C circleAxes_Z (prC [67])) 6 8 [(false, [(true, [.inr (2, 0, 0, 0, 0), .inr (2, 1, 0, 0, 0), .inr (2, 2, 0, 0, 0)])]), (false, [(true, [.inr (2, 3, 0, 0, 0), .inr (2, 4, 0, 0, 0), .inr (2, 5, 0, 0, 0)])]), (false, [(true, [.inr (2, 6, 0, 0, 0), .inr (2, 7, 0, 0, 0), .inr (2, 8, 0, 0, 0)])])] [] 0).map (·.1) = some (kB true) := by kernel_rfl
theorem circleAxes_r1 : (callB (sx Tryz.prog circleAxes_N [(2, 2, 0, 1), (2, 5, 0, 1), (2, 8, 0, 1), (0, 15, 0, 0), (0, 9, 0, 1), (0, 10, 0, 0), (0, 11, 0, 0), (0, 44, 0, 0), (5, 54, 0, 1), (5, 55, 0, 2), (5, 60, 0, 1), (0, 61, 0, 0), (5, 66, 0, 2), (5, 72, 0, 1), (0, 73, 0, 0), (5, 78, 0, 2), (5, 84, 0, 1), (2, 90, 0, 1), (0, 94, 0, 1), (0, 102, 0, 1), (0, 110, 0, 1)] [] circleAxes_L circleAxes_C circleAxes_Z (prC [67])) 7 8 [(false, [(true, [.inr (2, 0, 0, 0, 0), .inr (2, 1, 0, 0, 0), .inr (2, 2, 0, 0, 0)])]), (false, [(true, [.inr (2, 3, 0, 0, 0), .inr (2, 4, 0, 0, 0), .inr (2, 5, 0, 0, 0)])]), (false, [(true, [.inr (2, 6, 0, 0, 0), .inr (2, 7, 0, 0, 0), .inr (2, 8, 0, 0, 0)])])] [] 0).map (·.1) = some (kB true) := by kernel_rfl
theorem circleAxes_r2 : (callB (sx Tryz.prog circleAxes_N [(2, 2, 0, 1), (2, 5, 0, 1), (2, 8, 0, 1), (0, 15, 0, 0), (0, 9, 0, 1), (0, 10, 0, 0), (0, 11, 0, 0), (0, 44, 0, 0), (5, 54, 0, 1), (5, 55, 0, 2), (5, 60, 0, 1), (0, 61, 0, 0), (5, 66, 0, 2), (5, 72, 0, 1), (0, 73, 0, 0), (5, 78, 0, 2), (5, 84, 0, 1), (2, 90, 0, 0)] [] circleAxes_L circleAxes_C circleAxes_Z (prC [67])) 7 8 [(false, [(true, [.inr (2, 0, 0, 0, 0), .inr (2, 1, 0, 0, 0), .inr (2, 2, 0, 0, 0)])]), (false, [(true, [.inr (2, 3, 0, 0, 0), .inr (2, 4, 0, 0, 0), .inr (2, 5, 0, 0, 0)])]), (false, [(true, [.inr (2, 6, 0, 0, 0), .inr (2, 7, 0, 0, 0), .inr (2, 8, 0, 0, 0)])])] [] 0).map (·.1) = some (kB true) := by kernel_rfl
theorem circleAxes_r3 : (callB (sx Tryz.prog circleAxes_N [(2, 2, 0, 1), (2, 5, 0, 1), (2, 8, 0, 1), (0, 15, 0, 0), (0, 9, 0, 0), (0, 11, 0, 1), (0, 12, 0, 0), (0, 44, 0, 0), (5, 54, 0, 2), (5, 60, 0, 1), (0, 61, 0, 0), (5, 66, 0, 2), (5, 72, 0, 1), (0, 73, 0, 1), (0, 74, 0, 0), (5, 78, 0, 1), (5, 79, 0, 2), (5, 84, 0, 1), (2, 90, 0, 1), (0, 94, 0, 1), (0, 102, 0, 1), (0, 110, 0, 1)] [] circleAxes_L circleAxes_C circleAxes_Z (prC [67])) 7 8 [(false, [(true, [.inr (2, 0, 0, 0, 0), .inr (2, 1, 0, 0, 0), .inr (2, 2, 0, 0, 0)])]), (false, [(true, [.inr (2, 3, 0, 0, 0), .inr (2, 4, 0, 0, 0), .inr (2, 5, 0, 0, 0)])]), (false, [(true, [.inr (2, 6, 0, 0, 0), .inr (2, 7, 0, 0, 0), .inr (2, 8, 0, 0, 0)])])] [] 0).map (·.1) = some (kB true) := by kernel_rfl
theorem circleAxes_r4 : (callB (sx Tryz.prog circleAxes_N [(2, 2, 0, 1), (2, 5, 0, 1), (2, 8, 0, 1), (0, 15, 0, 0), (0, 9, 0, 0), (0, 11, 0, 1), (0, 12, 0, 0), (0, 44, 0, 0), (5, 54, 0, 2), (5, 60, 0, 1), (0, 61, 0, 0), (5, 66, 0, 2), (5, 72, 0, 1), (0, 73, 0, 1), (0, 74, 0, 0), (5, 78, 0, 1), (5, 79, 0, 2), (5, 84, 0, 1), (2, 90, 0, 0)] [] circleAxes_L circleAxes_C circleAxes_Z (prC [67])) 7 8 [(false, [(true, [.inr (2, 0, 0, 0, 0), .inr (2, 1, 0, 0, 0), .inr (2, 2, 0, 0, 0)])]), (false, [(true, [.inr (2, 3, 0, 0, 0), .inr (2, 4, 0, 0, 0), .inr (2, 5, 0, 0, 0)])]), (false, [(true, [.inr (2, 6, 0, 0, 0), .inr (2, 7, 0, 0, 0), .inr (2, 8, 0, 0, 0)])])] [] 0).map (·.1) = some (kB true) := by kernel_rfl
theorem circleAxes_r5 : (callB (sx Tryz.prog circleAxes_N [(2, 2, 0, 1), (2, 5, 0, 1), (2, 8, 0, 1), (0, 15, 0, 0), (0, 9, 0, 0), (0, 11, 0, 0), (0, 44, 0, 0), (5, 54, 0, 2), (5, 60, 0, 1), (0, 61, 0, 1), (0, 62, 0, 0), (5, 66, 0, 1), (5, 67, 0, 2), (5, 72, 0, 1), (0, 73, 0, 0), (5, 78, 0, 2), (5, 84, 0, 1), (2, 90, 0, 1), (0, 94, 0, 1), (0, 102, 0, 1), (0, 110, 0, 1)] [] circleAxes_L circleAxes_C circleAxes_Z (prC [67])) 7 8 [(false, [(true, [.inr (2, 0, 0, 0, 0), .inr (2, 1, 0, 0, 0), .inr (2, 2, 0, 0, 0)])]), (false, [(true, [.inr (2, 3, 0, 0, 0), .inr (2, 4, 0, 0, 0), .inr (2, 5, 0, 0, 0)])]), (false, [(true, [.inr (2, 6, 0, 0, 0), .inr (2, 7, 0, 0, 0), .inr (2, 8, 0, 0, 0)])])] [] 0).map (·.1) = some (kB true) := by kernel_rfl
theorem circleAxes_r6 : (callB (sx Tryz.prog circleAxes_N [(2, 2, 0, 1), (2, 5, 0, 1), (2, 8, 0, 1), (0, 15, 0, 0), (0, 9, 0, 0), (0, 11, 0, 0), (0, 44, 0, 0), (5, 54, 0, 2), (5, 60, 0, 1), (0, 61, 0, 1), (0, 62, 0, 0), (5, 66, 0, 1), (5, 67, 0, 2), (5, 72, 0, 1), (0, 73, 0, 0), (5, 78, 0, 2), (5, 84, 0, 1), (2, 90, 0, 0)] [] circleAxes_L circleAxes_C circleAxes_Z (prC [67])) 7 8 [(false, [(true, [.inr (2, 0, 0, 0, 0), .inr (2, 1, 0, 0, 0), .inr (2, 2, 0, 0, 0)])]), (false, [(true, [.inr (2, 3, 0, 0, 0), .inr (2, 4, 0, 0, 0), .inr (2, 5, 0, 0, 0)])]), (false, [(true, [.inr (2, 6, 0, 0, 0), .inr (2, 7, 0, 0, 0), .inr (2, 8, 0, 0, 0)])])] [] 0).map (·.1) = some (kB true) := by kernel_rfl
theorem circleAxes_r7 : (callB (sx Tryz.prog circleAxes_N [(2, 2, 0, 1), (2, 5, 0, 1), (2, 8, 0, 1), (0, 15, 0, 0), (0, 9, 0, 0), (0, 11, 0, 0), (0, 44, 0, 0), (5, 54, 0, 2), (5, 60, 0, 1), (0, 61, 0, 0), (5, 66, 0, 2), (5, 72, 0, 1), (0, 73, 0, 0), (5, 78, 0, 2), (5, 84, 0, 1), (2, 90, 0, 1), (0, 94, 0, 1), (0, 102, 0, 1), (0, 110, 0, 1)] [] circleAxes_L circleAxes_C circleAxes_Z (prC [67])) 7 8 [(false, [(true, [.inr (2, 0, 0, 0, 0), .inr (2, 1, 0, 0, 0), .inr (2, 2, 0, 0, 0)])]), (false, [(true, [.inr (2, 3, 0, 0, 0), .inr (2, 4, 0, 0, 0), .inr (2, 5, 0, 0, 0)])]), (false, [(true, [.inr (2, 6, 0, 0, 0), .inr (2, 7, 0, 0, 0), .inr (2, 8, 0, 0, 0)])])] [] 0).map (·.1) = some (kB true) := by kernel_rfl
theorem circleAxes_r8 : (callB (sx Tryz.prog circleAxes_N [(2, 2, 0, 1), (2, 5, 0, 1), (2, 8, 0, 1), (0, 15, 0, 0), (0, 9, 0, 0), (0, 11, 0, 0), (0, 44, 0, 0), (5, 54, 0, 2), (5, 60, 0, 1), (0, 61, 0, 0), (5, 66, 0, 2), (5, 72, 0, 1), (0, 73, 0, 0), (5, 78, 0, 2), (5, 84, 0, 1), (2, 90, 0, 0)] [] circleAxes_L circleAxes_C circleAxes_Z (prC [67])) 7 8 [(false, [(true, [.inr (2, 0, 0, 0, 0), .inr (2, 1, 0, 0, 0), .inr (2, 2, 0, 0, 0)])]), (false, [(true, [.inr (2, 3, 0, 0, 0), .inr (2, 4, 0, 0, 0), .inr (2, 5, 0, 0, 0)])]), (false, [(true, [.inr (2, 6, 0, 0, 0), .inr (2, 7, 0, 0, 0), .inr (2, 8, 0, 0, 0)])])] [] 0).map (·.1) = some (kB true) := by kernel_rfl
theorem circleAxes_r9 : (callB (sx Tryz.prog circleAxes_N [(2, 2, 0, 1), (2, 5, 0, 1), (2, 8, 0, 0)] [] circleAxes_L circleAxes_C circleAxes_Z (prC [67])) 6 8 [(false, [(true, [.inr (2, 0, 0, 0, 0), .inr (2, 1, 0, 0, 0), .inr (2, 2, 0, 0, 0)])]), (false, [(true, [.inr (2, 3, 0, 0, 0), .inr (2, 4, 0, 0, 0), .inr (2, 5, 0, 0, 0)])]), (false, [(true, [.inr (2, 6, 0, 0, 0), .inr (2, 7, 0, 0, 0), .inr (2, 8, 0, 0, 0)])])] [] 0).map (·.1) = some (kB true) := by kernel_rfl
theorem circleAxes_r10 : (callB (sx Tryz.prog circleAxes_N [(2, 2, 0, 1), (2, 5, 0, 0)] [] circleAxes_L circleAxes_C circleAxes_Z (prC [67])) 6 8 [(false, [(true, [.inr (2, 0, 0, 0, 0), .inr (2, 1, 0, 0, 0), .inr (2, 2, 0, 0, 0)])]), (false, [(true, [.inr (2, 3, 0, 0, 0), .inr (2, 4, 0, 0, 0), .inr (2, 5, 0, 0, 0)])]), (false, [(true, [.inr (2, 6, 0, 0, 0), .inr (2, 7, 0, 0, 0), .inr (2, 8, 0, 0, 0)])])] [] 0).map (·.1) = some (kB true) := by kernel_rfl
theorem circleAxes_r11 : (callB (sx Tryz.prog circleAxes_N [(2, 2, 0, 0)] [] circleAxes_L circleAxes_C circleAxes_Z (prC [67])) 6 8 [(false, [(true, [.inr (2, 0, 0, 0, 0), .inr (2, 1, 0, 0, 0), .inr (2, 2, 0, 0, 0)])]), (false, [(true, [.inr (2, 3, 0, 0, 0), .inr (2, 4, 0, 0, 0), .inr (2, 5, 0, 0, 0)])]), (false, [(true, [.inr (2, 6, 0, 0, 0), .inr (2, 7, 0, 0, 0), .inr (2, 8, 0, 0, 0)])])] [] 0).map (·.1) = some (kB true) := by kernel_rfl
theorem circleAxes_An {a b : Prop} (x : a) (y : b) : a ∧ b := ⟨x, y⟩
theorem circleAxes_leaf {H : List (Nat × Nat × Nat × Nat)} {K : List (FuncId × List AC)} {k : Nat} {q : Nat → Rat} {σ : Nat → ByteArray} {args : List AV} {vs : List Value} {w : World} (hr : (callB (sx Tryz.prog circleAxes_N H K circleAxes_L circleAxes_C circleAxes_Z (prC [67])) k 8 args [] 0).map (·.1) = some (kB true)) (hσ : ∀ j, (σ j).size ≤ 1048576) (hq : ∀ (a : Nat) nd, circleAxes_N[a]? = some nd → q a = valN σ q nd) (h0 : ∀ a, circleAxes_N.length ≤ a → q a = 0) (hH : hAll q H) (hp : PreS w) (hA : ∀ K, A2 (avOn (cOn (evS q σ) K (fun _ => none) w)) args vs) : Calls Tryz.prog 8 vs.toArray w fun e w' => Below w.heap.size w w' ∧ e = .returned (.bool true) :=
 run_told' k (hy_of hσ circleAxes_wf circleAxes_sz circleAxes_lt circleAxes_cn hq h0 hH) (by simp [closed_rounded]) (by kernel_rfl) hr hp (hA K)
theorem circleAxes_walk {w : World} {cx cz cr dx dz dr fx fz fr : ByteArray} (scx : cx.size ≤ 1048576) (scz : cz.size ≤ 1048576) (scr : cr.size ≤ 1048576) (sdx : dx.size ≤ 1048576) (sdz : dz.size ≤ 1048576) (sdr : dr.size ≤ 1048576) (sfx : fx.size ≤ 1048576) (sfz : fz.size ≤ 1048576) (sfr : fr.size ≤ 1048576) (tab : Tab w) (mx : MaxL w) :
  Calls Tryz.prog 8 #[.agg #[.string cx, .string cz, .string cr], .agg #[.string dx, .string dz, .string dr], .agg #[.string fx, .string fz, .string fr]] w fun e w' => Below w.heap.size w w' ∧ e = .returned (.bool true) := by
 have hσ : ∀ j, (sgOf [cx, cz, cr, dx, dz, dr, fx, fz, fr] j).size ≤ 1048576 := sgOf_size (by simp [scx, scz, scr, sdx, sdz, sdr, sfx, sfz, sfr])
 obtain ⟨q, hq, h0⟩ := nodes_exist (sgOf [cx, cz, cr, dx, dz, dr, fx, fz, fr]) circleAxes_N circleAxes_wf
 have hA : ∀ K, A2 (avOn (cOn (evS q (sgOf [cx, cz, cr, dx, dz, dr, fx, fz, fr])) K (fun _ => none) w)) [(false, [(true, [.inr (2, 0, 0, 0, 0), .inr (2, 1, 0, 0, 0), .inr (2, 2, 0, 0, 0)])]), (false, [(true, [.inr (2, 3, 0, 0, 0), .inr (2, 4, 0, 0, 0), .inr (2, 5, 0, 0, 0)])]), (false, [(true, [.inr (2, 6, 0, 0, 0), .inr (2, 7, 0, 0, 0), .inr (2, 8, 0, 0, 0)])])] [.agg #[.string cx, .string cz, .string cr], .agg #[.string dx, .string dz, .string dr], .agg #[.string fx, .string fz, .string fr]] := fun K => ⟨⟨⟨[.string cx, .string cz, .string cr], rfl, rfl, rfl, rfl, trivial⟩, trivial⟩, ⟨⟨[.string dx, .string dz, .string dr], rfl, rfl, rfl, rfl, trivial⟩, trivial⟩, ⟨⟨[.string fx, .string fz, .string fr], rfl, rfl, rfl, rfl, trivial⟩, trivial⟩, trivial⟩
 have E9 : q 9 = q 3 - q 0 := hq 9 _ rfl
 have E10 : q 10 = q 4 - q 1 := hq 10 _ rfl
 have E11 : q 11 = q 6 - q 0 := hq 11 _ rfl
 have E12 : q 12 = q 7 - q 1 := hq 12 _ rfl
 have E13 : q 13 = q 9 * q 12 := hq 13 _ rfl
 have E14 : q 14 = q 10 * q 11 := hq 14 _ rfl
 have E15 : q 15 = q 13 - q 14 := hq 15 _ rfl
 have E16 : q 16 = 2 := (hq 16 _ rfl).trans circleAxes_c16
 have E17 : q 17 = q 9 * q 16 := hq 17 _ rfl
 have E18 : q 18 = q 10 * q 16 := hq 18 _ rfl
 have E19 : q 19 = 0 := (hq 19 _ rfl).trans circleAxes_c19
 have E20 : q 20 = q 19 - q 0 := hq 20 _ rfl
 have E21 : q 21 = q 19 - q 1 := hq 21 _ rfl
 have E22 : q 22 = q 20 * q 20 := hq 22 _ rfl
 have E23 : q 23 = q 21 * q 21 := hq 23 _ rfl
 have E24 : q 24 = q 22 + q 23 := hq 24 _ rfl
 have E25 : q 25 = q 24 - q 2 := hq 25 _ rfl
 have E26 : q 26 = q 19 - q 3 := hq 26 _ rfl
 have E27 : q 27 = q 19 - q 4 := hq 27 _ rfl
 have E28 : q 28 = q 26 * q 26 := hq 28 _ rfl
 have E29 : q 29 = q 27 * q 27 := hq 29 _ rfl
 have E30 : q 30 = q 28 + q 29 := hq 30 _ rfl
 have E31 : q 31 = q 30 - q 5 := hq 31 _ rfl
 have E32 : q 32 = q 25 - q 31 := hq 32 _ rfl
 have E33 : q 33 = q 11 * q 16 := hq 33 _ rfl
 have E34 : q 34 = q 12 * q 16 := hq 34 _ rfl
 have E35 : q 35 = q 19 - q 6 := hq 35 _ rfl
 have E36 : q 36 = q 19 - q 7 := hq 36 _ rfl
 have E37 : q 37 = q 35 * q 35 := hq 37 _ rfl
 have E38 : q 38 = q 36 * q 36 := hq 38 _ rfl
 have E39 : q 39 = q 37 + q 38 := hq 39 _ rfl
 have E40 : q 40 = q 39 - q 8 := hq 40 _ rfl
 have E41 : q 41 = q 25 - q 40 := hq 41 _ rfl
 have E42 : q 42 = q 17 * q 34 := hq 42 _ rfl
 have E43 : q 43 = q 18 * q 33 := hq 43 _ rfl
 have E44 : q 44 = q 42 - q 43 := hq 44 _ rfl
 have E45 : q 45 = q 33 * q 32 := hq 45 _ rfl
 have E46 : q 46 = q 34 * q 32 := hq 46 _ rfl
 have E47 : q 47 = q 17 * q 41 := hq 47 _ rfl
 have E48 : q 48 = q 18 * q 41 := hq 48 _ rfl
 have E49 : q 49 = q 45 - q 47 := hq 49 _ rfl
 have E50 : q 50 = q 46 - q 48 := hq 50 _ rfl
 have E51 : q 51 = -q 50 := hq 51 _ rfl
 have E52 : q 52 = q 51 / q 44 := hq 52 _ rfl
 have E53 : q 53 = q 49 / q 44 := hq 53 _ rfl
 have E54 : q 54 = q 17 * fac [q 17, q 18, q 32] := hq 54 _ rfl
 have E55 : q 55 = q 18 * fac [q 17, q 18, q 32] := hq 55 _ rfl
 have E56 : q 56 = q 32 * fac [q 17, q 18, q 32] := hq 56 _ rfl
 have E57 : q 57 = q 54 * q 52 := hq 57 _ rfl
 have E58 : q 58 = q 55 * q 53 := hq 58 _ rfl
 have E59 : q 59 = q 57 + q 58 := hq 59 _ rfl
 have E60 : q 60 = q 59 + q 56 := hq 60 _ rfl
 have E61 : q 61 = q 6 - q 3 := hq 61 _ rfl
 have E62 : q 62 = q 7 - q 4 := hq 62 _ rfl
 have E63 : q 63 = q 61 * q 16 := hq 63 _ rfl
 have E64 : q 64 = q 62 * q 16 := hq 64 _ rfl
 have E65 : q 65 = q 31 - q 40 := hq 65 _ rfl
 have E66 : q 66 = q 63 * fac [q 63, q 64, q 65] := hq 66 _ rfl
 have E67 : q 67 = q 64 * fac [q 63, q 64, q 65] := hq 67 _ rfl
 have E68 : q 68 = q 65 * fac [q 63, q 64, q 65] := hq 68 _ rfl
 have E69 : q 69 = q 66 * q 52 := hq 69 _ rfl
 have E70 : q 70 = q 67 * q 53 := hq 70 _ rfl
 have E71 : q 71 = q 69 + q 70 := hq 71 _ rfl
 have E72 : q 72 = q 71 + q 68 := hq 72 _ rfl
 have E73 : q 73 = q 0 - q 6 := hq 73 _ rfl
 have E74 : q 74 = q 1 - q 7 := hq 74 _ rfl
 have E75 : q 75 = q 73 * q 16 := hq 75 _ rfl
 have E76 : q 76 = q 74 * q 16 := hq 76 _ rfl
 have E77 : q 77 = q 40 - q 25 := hq 77 _ rfl
 have E78 : q 78 = q 75 * fac [q 75, q 76, q 77] := hq 78 _ rfl
 have E79 : q 79 = q 76 * fac [q 75, q 76, q 77] := hq 79 _ rfl
 have E80 : q 80 = q 77 * fac [q 75, q 76, q 77] := hq 80 _ rfl
 have E81 : q 81 = q 78 * q 52 := hq 81 _ rfl
 have E82 : q 82 = q 79 * q 53 := hq 82 _ rfl
 have E83 : q 83 = q 81 + q 82 := hq 83 _ rfl
 have E84 : q 84 = q 83 + q 80 := hq 84 _ rfl
 have E85 : q 85 = q 52 - q 0 := hq 85 _ rfl
 have E86 : q 86 = q 53 - q 1 := hq 86 _ rfl
 have E87 : q 87 = q 85 * q 85 := hq 87 _ rfl
 have E88 : q 88 = q 86 * q 86 := hq 88 _ rfl
 have E89 : q 89 = q 87 + q 88 := hq 89 _ rfl
 have E90 : q 90 = q 89 - q 2 := hq 90 _ rfl
 have E91 : q 91 = -q 2 := hq 91 _ rfl
 have E92 : q 92 = -q 90 := hq 92 _ rfl
 have E93 : q 93 = q 89 + q 91 := hq 93 _ rfl
 have E94 : q 94 = q 93 + q 92 := hq 94 _ rfl
 have E95 : q 95 = q 52 - q 3 := hq 95 _ rfl
 have E96 : q 96 = q 53 - q 4 := hq 96 _ rfl
 have E97 : q 97 = q 95 * q 95 := hq 97 _ rfl
 have E98 : q 98 = q 96 * q 96 := hq 98 _ rfl
 have E99 : q 99 = q 97 + q 98 := hq 99 _ rfl
 have E100 : q 100 = -q 5 := hq 100 _ rfl
 have E101 : q 101 = q 99 + q 100 := hq 101 _ rfl
 have E102 : q 102 = q 101 + q 92 := hq 102 _ rfl
 have E103 : q 103 = q 52 - q 6 := hq 103 _ rfl
 have E104 : q 104 = q 53 - q 7 := hq 104 _ rfl
 have E105 : q 105 = q 103 * q 103 := hq 105 _ rfl
 have E106 : q 106 = q 104 * q 104 := hq 106 _ rfl
 have E107 : q 107 = q 105 + q 106 := hq 107 _ rfl
 have E108 : q 108 = -q 8 := hq 108 _ rfl
 have E109 : q 109 = q 107 + q 108 := hq 109 _ rfl
 have E110 : q 110 = q 109 + q 92 := hq 110 _ rfl
 by_cases a_2_2_0 : 0 < q 2
 ·
  by_cases a_2_5_0 : 0 < q 5
  ·
   by_cases a_2_8_0 : 0 < q 8
   ·
    by_cases b15 : q 15 = 0
    ·
     exact circleAxes_leaf circleAxes_r0 hσ hq h0 (circleAxes_An (hT a_2_2_0) (circleAxes_An (hT a_2_5_0) (circleAxes_An (hT a_2_8_0) (circleAxes_An (hT b15) trivial)))) ⟨tab, mx⟩ hA
    ·
     by_cases b9 : q 9 = 0
     ·
      have b10 : ¬ (q 10 = 0) := circleAxes_f0 E9 E10 E11 E12 E13 E14 E15 b15 b9
      have b11 : ¬ (q 11 = 0) := circleAxes_f1 E9 E10 E11 E12 E13 E14 E15 b15 b9
      have b44 : ¬ (q 44 = 0) := circleAxes_f2 E9 E10 E11 E12 E13 E14 E15 E16 E17 E18 E33 E34 E42 E43 E44 b15
      have a_5_54_0 : q 54 = 0 := circleAxes_f3 E9 E10 E16 E17 E18 E19 E20 E21 E22 E23 E24 E25 E26 E27 E28 E29 E30 E31 E32 E54 b9
      have a_5_55_0 : 0 < q 55 := circleAxes_f4 E9 E10 E11 E12 E13 E14 E15 E16 E17 E18 E19 E20 E21 E22 E23 E24 E25 E26 E27 E28 E29 E30 E31 E32 E55 b15 b9
      have a_5_60_0 : q 60 = 0 := circleAxes_f5 E9 E10 E11 E12 E13 E14 E15 E16 E17 E18 E19 E20 E21 E22 E23 E24 E25 E26 E27 E28 E29 E30 E31 E32 E33 E34 E35 E36 E37 E38 E39 E40 E41 E42 E43 E44 E45 E46 E47 E48 E49 E50 E51 E52 E53 E54 E55 E56 E57 E58 E59 E60 b15
      have b61 : ¬ (q 61 = 0) := circleAxes_f6 E9 E10 E11 E12 E13 E14 E15 E61 b15 b9
      have a_5_66_0 : 0 < q 66 := circleAxes_f7 E9 E10 E11 E12 E13 E14 E15 E16 E19 E26 E27 E28 E29 E30 E31 E35 E36 E37 E38 E39 E40 E61 E62 E63 E64 E65 E66 b15 b9
      have a_5_72_0 : q 72 = 0 := circleAxes_f8 E9 E10 E11 E12 E13 E14 E15 E16 E17 E18 E19 E20 E21 E22 E23 E24 E25 E26 E27 E28 E29 E30 E31 E32 E33 E34 E35 E36 E37 E38 E39 E40 E41 E42 E43 E44 E45 E46 E47 E48 E49 E50 E51 E52 E53 E61 E62 E63 E64 E65 E66 E67 E68 E69 E70 E71 E72 b15
      have b73 : ¬ (q 73 = 0) := circleAxes_f9 E9 E10 E11 E12 E13 E14 E15 E73 b15 b9
      have a_5_78_0 : 0 < q 78 := circleAxes_f10 E9 E10 E11 E12 E13 E14 E15 E16 E19 E20 E21 E22 E23 E24 E25 E35 E36 E37 E38 E39 E40 E73 E74 E75 E76 E77 E78 b15 b9
      have a_5_84_0 : q 84 = 0 := circleAxes_f11 E9 E10 E11 E12 E13 E14 E15 E16 E17 E18 E19 E20 E21 E22 E23 E24 E25 E26 E27 E28 E29 E30 E31 E32 E33 E34 E35 E36 E37 E38 E39 E40 E41 E42 E43 E44 E45 E46 E47 E48 E49 E50 E51 E52 E53 E73 E74 E75 E76 E77 E78 E79 E80 E81 E82 E83 E84 b15
      by_cases a_2_90_0 : 0 < q 90
      ·
       have b94 : q 94 = 0 := circleAxes_f12 E9 E10 E11 E12 E13 E14 E15 E16 E17 E18 E19 E20 E21 E22 E23 E24 E25 E26 E27 E28 E29 E30 E31 E32 E33 E34 E35 E36 E37 E38 E39 E40 E41 E42 E43 E44 E45 E46 E47 E48 E49 E50 E51 E52 E53 E85 E86 E87 E88 E89 E90 E91 E92 E93 E94 a_2_2_0 a_2_5_0 a_2_8_0 b15 b9 a_2_90_0
       have b102 : q 102 = 0 := circleAxes_f13 E9 E10 E11 E12 E13 E14 E15 E16 E17 E18 E19 E20 E21 E22 E23 E24 E25 E26 E27 E28 E29 E30 E31 E32 E33 E34 E35 E36 E37 E38 E39 E40 E41 E42 E43 E44 E45 E46 E47 E48 E49 E50 E51 E52 E53 E85 E86 E87 E88 E89 E90 E92 E95 E96 E97 E98 E99 E100 E101 E102 b15
       have b110 : q 110 = 0 := circleAxes_f14 E9 E10 E11 E12 E13 E14 E15 E16 E17 E18 E19 E20 E21 E22 E23 E24 E25 E26 E27 E28 E29 E30 E31 E32 E33 E34 E35 E36 E37 E38 E39 E40 E41 E42 E43 E44 E45 E46 E47 E48 E49 E50 E51 E52 E53 E85 E86 E87 E88 E89 E90 E92 E103 E104 E105 E106 E107 E108 E109 E110 b15
       exact circleAxes_leaf circleAxes_r1 hσ hq h0 (circleAxes_An (hT a_2_2_0) (circleAxes_An (hT a_2_5_0) (circleAxes_An (hT a_2_8_0) (circleAxes_An (hF b15) (circleAxes_An (hT b9) (circleAxes_An (hF b10) (circleAxes_An (hF b11) (circleAxes_An (hF b44) (circleAxes_An (h51 a_5_54_0) (circleAxes_An (h52 a_5_55_0) (circleAxes_An (h51 a_5_60_0) (circleAxes_An (hF b61) (circleAxes_An (h52 a_5_66_0) (circleAxes_An (h51 a_5_72_0) (circleAxes_An (hF b73) (circleAxes_An (h52 a_5_78_0) (circleAxes_An (h51 a_5_84_0) (circleAxes_An (hT a_2_90_0) (circleAxes_An (hT b94) (circleAxes_An (hT b102) (circleAxes_An (hT b110) trivial))))))))))))))))))))) ⟨tab, mx⟩ hA
      ·
       exact circleAxes_leaf circleAxes_r2 hσ hq h0 (circleAxes_An (hT a_2_2_0) (circleAxes_An (hT a_2_5_0) (circleAxes_An (hT a_2_8_0) (circleAxes_An (hF b15) (circleAxes_An (hT b9) (circleAxes_An (hF b10) (circleAxes_An (hF b11) (circleAxes_An (hF b44) (circleAxes_An (h51 a_5_54_0) (circleAxes_An (h52 a_5_55_0) (circleAxes_An (h51 a_5_60_0) (circleAxes_An (hF b61) (circleAxes_An (h52 a_5_66_0) (circleAxes_An (h51 a_5_72_0) (circleAxes_An (hF b73) (circleAxes_An (h52 a_5_78_0) (circleAxes_An (h51 a_5_84_0) (circleAxes_An (hF a_2_90_0) trivial)))))))))))))))))) ⟨tab, mx⟩ hA
     ·
      by_cases b11 : q 11 = 0
      ·
       have b12 : ¬ (q 12 = 0) := circleAxes_f15 E9 E10 E11 E12 E13 E14 E15 b15 b11
       have b44 : ¬ (q 44 = 0) := circleAxes_f2 E9 E10 E11 E12 E13 E14 E15 E16 E17 E18 E33 E34 E42 E43 E44 b15
       have a_5_54_0 : 0 < q 54 := circleAxes_f16 E9 E10 E16 E17 E18 E19 E20 E21 E22 E23 E24 E25 E26 E27 E28 E29 E30 E31 E32 E54 b9
       have a_5_60_0 : q 60 = 0 := circleAxes_f5 E9 E10 E11 E12 E13 E14 E15 E16 E17 E18 E19 E20 E21 E22 E23 E24 E25 E26 E27 E28 E29 E30 E31 E32 E33 E34 E35 E36 E37 E38 E39 E40 E41 E42 E43 E44 E45 E46 E47 E48 E49 E50 E51 E52 E53 E54 E55 E56 E57 E58 E59 E60 b15
       have b61 : ¬ (q 61 = 0) := circleAxes_f17 E9 E11 E61 b9 b11
       have a_5_66_0 : 0 < q 66 := circleAxes_f18 E9 E11 E16 E19 E26 E27 E28 E29 E30 E31 E35 E36 E37 E38 E39 E40 E61 E62 E63 E64 E65 E66 b9 b11
       have a_5_72_0 : q 72 = 0 := circleAxes_f8 E9 E10 E11 E12 E13 E14 E15 E16 E17 E18 E19 E20 E21 E22 E23 E24 E25 E26 E27 E28 E29 E30 E31 E32 E33 E34 E35 E36 E37 E38 E39 E40 E41 E42 E43 E44 E45 E46 E47 E48 E49 E50 E51 E52 E53 E61 E62 E63 E64 E65 E66 E67 E68 E69 E70 E71 E72 b15
       have b73 : q 73 = 0 := circleAxes_f19 E11 E73 b11
       have b74 : ¬ (q 74 = 0) := circleAxes_f20 E9 E10 E11 E12 E13 E14 E15 E74 b15 b11
       have a_5_78_0 : q 78 = 0 := circleAxes_f21 E11 E16 E19 E20 E21 E22 E23 E24 E25 E35 E36 E37 E38 E39 E40 E73 E74 E75 E76 E77 E78 b11
       have a_5_79_0 : 0 < q 79 := circleAxes_f22 E9 E10 E11 E12 E13 E14 E15 E16 E19 E20 E21 E22 E23 E24 E25 E35 E36 E37 E38 E39 E40 E73 E74 E75 E76 E77 E79 b15 b11
       have a_5_84_0 : q 84 = 0 := circleAxes_f11 E9 E10 E11 E12 E13 E14 E15 E16 E17 E18 E19 E20 E21 E22 E23 E24 E25 E26 E27 E28 E29 E30 E31 E32 E33 E34 E35 E36 E37 E38 E39 E40 E41 E42 E43 E44 E45 E46 E47 E48 E49 E50 E51 E52 E53 E73 E74 E75 E76 E77 E78 E79 E80 E81 E82 E83 E84 b15
       by_cases a_2_90_0 : 0 < q 90
       ·
        have b94 : q 94 = 0 := circleAxes_f23 E9 E10 E11 E12 E13 E14 E15 E16 E17 E18 E19 E20 E21 E22 E23 E24 E25 E26 E27 E28 E29 E30 E31 E32 E33 E34 E35 E36 E37 E38 E39 E40 E41 E42 E43 E44 E45 E46 E47 E48 E49 E50 E51 E52 E53 E85 E86 E87 E88 E89 E90 E91 E92 E93 E94 a_2_2_0 a_2_5_0 a_2_8_0 b15 b9 b11 a_2_90_0
        have b102 : q 102 = 0 := circleAxes_f13 E9 E10 E11 E12 E13 E14 E15 E16 E17 E18 E19 E20 E21 E22 E23 E24 E25 E26 E27 E28 E29 E30 E31 E32 E33 E34 E35 E36 E37 E38 E39 E40 E41 E42 E43 E44 E45 E46 E47 E48 E49 E50 E51 E52 E53 E85 E86 E87 E88 E89 E90 E92 E95 E96 E97 E98 E99 E100 E101 E102 b15
        have b110 : q 110 = 0 := circleAxes_f14 E9 E10 E11 E12 E13 E14 E15 E16 E17 E18 E19 E20 E21 E22 E23 E24 E25 E26 E27 E28 E29 E30 E31 E32 E33 E34 E35 E36 E37 E38 E39 E40 E41 E42 E43 E44 E45 E46 E47 E48 E49 E50 E51 E52 E53 E85 E86 E87 E88 E89 E90 E92 E103 E104 E105 E106 E107 E108 E109 E110 b15
        exact circleAxes_leaf circleAxes_r3 hσ hq h0 (circleAxes_An (hT a_2_2_0) (circleAxes_An (hT a_2_5_0) (circleAxes_An (hT a_2_8_0) (circleAxes_An (hF b15) (circleAxes_An (hF b9) (circleAxes_An (hT b11) (circleAxes_An (hF b12) (circleAxes_An (hF b44) (circleAxes_An (h52 a_5_54_0) (circleAxes_An (h51 a_5_60_0) (circleAxes_An (hF b61) (circleAxes_An (h52 a_5_66_0) (circleAxes_An (h51 a_5_72_0) (circleAxes_An (hT b73) (circleAxes_An (hF b74) (circleAxes_An (h51 a_5_78_0) (circleAxes_An (h52 a_5_79_0) (circleAxes_An (h51 a_5_84_0) (circleAxes_An (hT a_2_90_0) (circleAxes_An (hT b94) (circleAxes_An (hT b102) (circleAxes_An (hT b110) trivial)))))))))))))))))))))) ⟨tab, mx⟩ hA
       ·
        exact circleAxes_leaf circleAxes_r4 hσ hq h0 (circleAxes_An (hT a_2_2_0) (circleAxes_An (hT a_2_5_0) (circleAxes_An (hT a_2_8_0) (circleAxes_An (hF b15) (circleAxes_An (hF b9) (circleAxes_An (hT b11) (circleAxes_An (hF b12) (circleAxes_An (hF b44) (circleAxes_An (h52 a_5_54_0) (circleAxes_An (h51 a_5_60_0) (circleAxes_An (hF b61) (circleAxes_An (h52 a_5_66_0) (circleAxes_An (h51 a_5_72_0) (circleAxes_An (hT b73) (circleAxes_An (hF b74) (circleAxes_An (h51 a_5_78_0) (circleAxes_An (h52 a_5_79_0) (circleAxes_An (h51 a_5_84_0) (circleAxes_An (hF a_2_90_0) trivial))))))))))))))))))) ⟨tab, mx⟩ hA
      ·
       have b44 : ¬ (q 44 = 0) := circleAxes_f2 E9 E10 E11 E12 E13 E14 E15 E16 E17 E18 E33 E34 E42 E43 E44 b15
       have a_5_54_0 : 0 < q 54 := circleAxes_f16 E9 E10 E16 E17 E18 E19 E20 E21 E22 E23 E24 E25 E26 E27 E28 E29 E30 E31 E32 E54 b9
       have a_5_60_0 : q 60 = 0 := circleAxes_f5 E9 E10 E11 E12 E13 E14 E15 E16 E17 E18 E19 E20 E21 E22 E23 E24 E25 E26 E27 E28 E29 E30 E31 E32 E33 E34 E35 E36 E37 E38 E39 E40 E41 E42 E43 E44 E45 E46 E47 E48 E49 E50 E51 E52 E53 E54 E55 E56 E57 E58 E59 E60 b15
       by_cases b61 : q 61 = 0
       ·
        have b62 : ¬ (q 62 = 0) := circleAxes_f24 E9 E10 E11 E12 E13 E14 E15 E61 E62 b15 b61
        have a_5_66_0 : q 66 = 0 := circleAxes_f25 E16 E19 E26 E27 E28 E29 E30 E31 E35 E36 E37 E38 E39 E40 E61 E62 E63 E64 E65 E66 b61
        have a_5_67_0 : 0 < q 67 := circleAxes_f26 E9 E10 E11 E12 E13 E14 E15 E16 E19 E26 E27 E28 E29 E30 E31 E35 E36 E37 E38 E39 E40 E61 E62 E63 E64 E65 E67 b15 b61
        have a_5_72_0 : q 72 = 0 := circleAxes_f8 E9 E10 E11 E12 E13 E14 E15 E16 E17 E18 E19 E20 E21 E22 E23 E24 E25 E26 E27 E28 E29 E30 E31 E32 E33 E34 E35 E36 E37 E38 E39 E40 E41 E42 E43 E44 E45 E46 E47 E48 E49 E50 E51 E52 E53 E61 E62 E63 E64 E65 E66 E67 E68 E69 E70 E71 E72 b15
        have b73 : ¬ (q 73 = 0) := circleAxes_f27 E11 E73 b11
        have a_5_78_0 : 0 < q 78 := circleAxes_f28 E11 E16 E19 E20 E21 E22 E23 E24 E25 E35 E36 E37 E38 E39 E40 E73 E74 E75 E76 E77 E78 b11
        have a_5_84_0 : q 84 = 0 := circleAxes_f11 E9 E10 E11 E12 E13 E14 E15 E16 E17 E18 E19 E20 E21 E22 E23 E24 E25 E26 E27 E28 E29 E30 E31 E32 E33 E34 E35 E36 E37 E38 E39 E40 E41 E42 E43 E44 E45 E46 E47 E48 E49 E50 E51 E52 E53 E73 E74 E75 E76 E77 E78 E79 E80 E81 E82 E83 E84 b15
        by_cases a_2_90_0 : 0 < q 90
        ·
         have b94 : q 94 = 0 := circleAxes_f29 E9 E10 E11 E12 E13 E14 E15 E16 E17 E18 E19 E20 E21 E22 E23 E24 E25 E26 E27 E28 E29 E30 E31 E32 E33 E34 E35 E36 E37 E38 E39 E40 E41 E42 E43 E44 E45 E46 E47 E48 E49 E50 E51 E52 E53 E61 E85 E86 E87 E88 E89 E90 E91 E92 E93 E94 a_2_2_0 a_2_5_0 a_2_8_0 b15 b9 b11 b61 a_2_90_0
         have b102 : q 102 = 0 := circleAxes_f13 E9 E10 E11 E12 E13 E14 E15 E16 E17 E18 E19 E20 E21 E22 E23 E24 E25 E26 E27 E28 E29 E30 E31 E32 E33 E34 E35 E36 E37 E38 E39 E40 E41 E42 E43 E44 E45 E46 E47 E48 E49 E50 E51 E52 E53 E85 E86 E87 E88 E89 E90 E92 E95 E96 E97 E98 E99 E100 E101 E102 b15
         have b110 : q 110 = 0 := circleAxes_f14 E9 E10 E11 E12 E13 E14 E15 E16 E17 E18 E19 E20 E21 E22 E23 E24 E25 E26 E27 E28 E29 E30 E31 E32 E33 E34 E35 E36 E37 E38 E39 E40 E41 E42 E43 E44 E45 E46 E47 E48 E49 E50 E51 E52 E53 E85 E86 E87 E88 E89 E90 E92 E103 E104 E105 E106 E107 E108 E109 E110 b15
         exact circleAxes_leaf circleAxes_r5 hσ hq h0 (circleAxes_An (hT a_2_2_0) (circleAxes_An (hT a_2_5_0) (circleAxes_An (hT a_2_8_0) (circleAxes_An (hF b15) (circleAxes_An (hF b9) (circleAxes_An (hF b11) (circleAxes_An (hF b44) (circleAxes_An (h52 a_5_54_0) (circleAxes_An (h51 a_5_60_0) (circleAxes_An (hT b61) (circleAxes_An (hF b62) (circleAxes_An (h51 a_5_66_0) (circleAxes_An (h52 a_5_67_0) (circleAxes_An (h51 a_5_72_0) (circleAxes_An (hF b73) (circleAxes_An (h52 a_5_78_0) (circleAxes_An (h51 a_5_84_0) (circleAxes_An (hT a_2_90_0) (circleAxes_An (hT b94) (circleAxes_An (hT b102) (circleAxes_An (hT b110) trivial))))))))))))))))))))) ⟨tab, mx⟩ hA
        ·
         exact circleAxes_leaf circleAxes_r6 hσ hq h0 (circleAxes_An (hT a_2_2_0) (circleAxes_An (hT a_2_5_0) (circleAxes_An (hT a_2_8_0) (circleAxes_An (hF b15) (circleAxes_An (hF b9) (circleAxes_An (hF b11) (circleAxes_An (hF b44) (circleAxes_An (h52 a_5_54_0) (circleAxes_An (h51 a_5_60_0) (circleAxes_An (hT b61) (circleAxes_An (hF b62) (circleAxes_An (h51 a_5_66_0) (circleAxes_An (h52 a_5_67_0) (circleAxes_An (h51 a_5_72_0) (circleAxes_An (hF b73) (circleAxes_An (h52 a_5_78_0) (circleAxes_An (h51 a_5_84_0) (circleAxes_An (hF a_2_90_0) trivial)))))))))))))))))) ⟨tab, mx⟩ hA
       ·
        have a_5_66_0 : 0 < q 66 := circleAxes_f30 E16 E19 E26 E27 E28 E29 E30 E31 E35 E36 E37 E38 E39 E40 E61 E62 E63 E64 E65 E66 b61
        have a_5_72_0 : q 72 = 0 := circleAxes_f8 E9 E10 E11 E12 E13 E14 E15 E16 E17 E18 E19 E20 E21 E22 E23 E24 E25 E26 E27 E28 E29 E30 E31 E32 E33 E34 E35 E36 E37 E38 E39 E40 E41 E42 E43 E44 E45 E46 E47 E48 E49 E50 E51 E52 E53 E61 E62 E63 E64 E65 E66 E67 E68 E69 E70 E71 E72 b15
        have b73 : ¬ (q 73 = 0) := circleAxes_f27 E11 E73 b11
        have a_5_78_0 : 0 < q 78 := circleAxes_f28 E11 E16 E19 E20 E21 E22 E23 E24 E25 E35 E36 E37 E38 E39 E40 E73 E74 E75 E76 E77 E78 b11
        have a_5_84_0 : q 84 = 0 := circleAxes_f11 E9 E10 E11 E12 E13 E14 E15 E16 E17 E18 E19 E20 E21 E22 E23 E24 E25 E26 E27 E28 E29 E30 E31 E32 E33 E34 E35 E36 E37 E38 E39 E40 E41 E42 E43 E44 E45 E46 E47 E48 E49 E50 E51 E52 E53 E73 E74 E75 E76 E77 E78 E79 E80 E81 E82 E83 E84 b15
        by_cases a_2_90_0 : 0 < q 90
        ·
         have b94 : q 94 = 0 := circleAxes_f31 E9 E10 E11 E12 E13 E14 E15 E16 E17 E18 E19 E20 E21 E22 E23 E24 E25 E26 E27 E28 E29 E30 E31 E32 E33 E34 E35 E36 E37 E38 E39 E40 E41 E42 E43 E44 E45 E46 E47 E48 E49 E50 E51 E52 E53 E61 E85 E86 E87 E88 E89 E90 E91 E92 E93 E94 a_2_2_0 a_2_5_0 a_2_8_0 b15 b9 b11 b61 a_2_90_0
         have b102 : q 102 = 0 := circleAxes_f13 E9 E10 E11 E12 E13 E14 E15 E16 E17 E18 E19 E20 E21 E22 E23 E24 E25 E26 E27 E28 E29 E30 E31 E32 E33 E34 E35 E36 E37 E38 E39 E40 E41 E42 E43 E44 E45 E46 E47 E48 E49 E50 E51 E52 E53 E85 E86 E87 E88 E89 E90 E92 E95 E96 E97 E98 E99 E100 E101 E102 b15
         have b110 : q 110 = 0 := circleAxes_f14 E9 E10 E11 E12 E13 E14 E15 E16 E17 E18 E19 E20 E21 E22 E23 E24 E25 E26 E27 E28 E29 E30 E31 E32 E33 E34 E35 E36 E37 E38 E39 E40 E41 E42 E43 E44 E45 E46 E47 E48 E49 E50 E51 E52 E53 E85 E86 E87 E88 E89 E90 E92 E103 E104 E105 E106 E107 E108 E109 E110 b15
         exact circleAxes_leaf circleAxes_r7 hσ hq h0 (circleAxes_An (hT a_2_2_0) (circleAxes_An (hT a_2_5_0) (circleAxes_An (hT a_2_8_0) (circleAxes_An (hF b15) (circleAxes_An (hF b9) (circleAxes_An (hF b11) (circleAxes_An (hF b44) (circleAxes_An (h52 a_5_54_0) (circleAxes_An (h51 a_5_60_0) (circleAxes_An (hF b61) (circleAxes_An (h52 a_5_66_0) (circleAxes_An (h51 a_5_72_0) (circleAxes_An (hF b73) (circleAxes_An (h52 a_5_78_0) (circleAxes_An (h51 a_5_84_0) (circleAxes_An (hT a_2_90_0) (circleAxes_An (hT b94) (circleAxes_An (hT b102) (circleAxes_An (hT b110) trivial))))))))))))))))))) ⟨tab, mx⟩ hA
        ·
         exact circleAxes_leaf circleAxes_r8 hσ hq h0 (circleAxes_An (hT a_2_2_0) (circleAxes_An (hT a_2_5_0) (circleAxes_An (hT a_2_8_0) (circleAxes_An (hF b15) (circleAxes_An (hF b9) (circleAxes_An (hF b11) (circleAxes_An (hF b44) (circleAxes_An (h52 a_5_54_0) (circleAxes_An (h51 a_5_60_0) (circleAxes_An (hF b61) (circleAxes_An (h52 a_5_66_0) (circleAxes_An (h51 a_5_72_0) (circleAxes_An (hF b73) (circleAxes_An (h52 a_5_78_0) (circleAxes_An (h51 a_5_84_0) (circleAxes_An (hF a_2_90_0) trivial)))))))))))))))) ⟨tab, mx⟩ hA
   ·
    exact circleAxes_leaf circleAxes_r9 hσ hq h0 (circleAxes_An (hT a_2_2_0) (circleAxes_An (hT a_2_5_0) (circleAxes_An (hF a_2_8_0) trivial))) ⟨tab, mx⟩ hA
  ·
   exact circleAxes_leaf circleAxes_r10 hσ hq h0 (circleAxes_An (hT a_2_2_0) (circleAxes_An (hF a_2_5_0) trivial)) ⟨tab, mx⟩ hA
 ·
  exact circleAxes_leaf circleAxes_r11 hσ hq h0 (circleAxes_An (hF a_2_2_0) trivial) ⟨tab, mx⟩ hA
end Go.Proofs.YtioacnhbiinjbaaGreatDoor
