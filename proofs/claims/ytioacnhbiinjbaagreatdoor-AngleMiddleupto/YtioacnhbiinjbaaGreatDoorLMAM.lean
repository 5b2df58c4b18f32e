/- Part 13 of the walks and of the mathematics under them: MAM. -/
import Derived.Test.YtioacnhbiinjbaaGreatDoorA12
set_option maxHeartbeats 16000000
set_option maxRecDepth 100000
/- MAM -/
namespace Go.Proofs.YtioacnhbiinjbaaGreatDoor
open Go.RowKit Cx
def angleMiddle_N : List Nd := [(1, [0]), (1, [1]), (1, [2]), (1, [3]), (1, [4]), (1, [5]), (3, [2, 0]), (3, [3, 1]), (3, [4, 0]), (3, [5, 1]), (4, [6, 9]), (4, [7, 8]), (3, [10, 11]), (4, [2, 2]), (4, [3, 3]), (2, [13, 14]), (4, [0, 0]), (4, [1, 1]), (2, [16, 17]), (3, [15, 18]), (0, [0, 2, 1]), (6, [19, 20]), (4, [4, 4]), (4, [5, 5]), (2, [22, 23]), (3, [24, 18]), (6, [25, 20]), (4, [21, 9]), (4, [26, 7]), (3, [27, 28]), (6, [29, 12]), (4, [6, 26]), (4, [8, 21]), (3, [31, 32]), (6, [33, 12]), (3, [0, 30]), (3, [1, 34]), (3, [2, 30]), (3, [3, 34]), (5, [36]), (5, [38]), (4, [35, 37]), (4, [39, 40]), (2, [41, 42]), (5, [39]), (4, [35, 38]), (4, [44, 37]), (3, [45, 46]), (8, [0, 43, 47]), (8, [1, 43, 47]), (3, [0, 4]), (3, [1, 5]), (3, [2, 4]), (3, [3, 5]), (5, [51]), (5, [53]), (4, [50, 52]), (4, [54, 55]), (2, [56, 57]), (5, [54]), (4, [50, 53]), (4, [59, 52]), (3, [60, 61]), (8, [0, 58, 62]), (8, [1, 58, 62]), (8, [0, 63, 64]), (8, [1, 63, 64]), (0, [0, 1, 1]), (5, [66]), (4, [67, 65]), (0, [0, 0, 1]), (4, [70, 68]), (2, [69, 71]), (5, [70]), (4, [67, 66]), (4, [73, 65]), (3, [74, 75]), (4, [72, 65]), (4, [76, 68]), (2, [77, 78]), (5, [76]), (4, [72, 66]), (4, [80, 65]), (3, [81, 82]), (8, [0, 79, 83]), (8, [1, 79, 83])]
def angleMiddle_L : List (List Nat × Nat) := []
def angleMiddle_C : List (List Nat × Nat) := []
def angleMiddle_Z : List Nat := [4194309, 4194309, 4194309, 4194309, 4194309, 4194309, 8388619, 8388619, 8388619, 8388619, 16777238, 16777238, 33554477, 8388618, 8388618, 16777237, 8388618, 8388618, 16777237, 33554475, 3, 33554478, 8388618, 8388618, 16777237, 33554475, 33554478, 41943097, 41943097, 83886195, 117440672, 41943097, 41943097, 83886195, 117440672, 121634982, 121634982, 121634982, 121634982, 121634982, 121634982, 243269964, 243269964, 486539929, 121634982, 243269964, 243269964, 486539929, 1459619788, 1459619788, 8388619, 8388619, 8388619, 8388619, 8388619, 8388619, 16777238, 16777238, 33554477, 8388619, 16777238, 16777238, 33554477, 100663432, 100663432, 301990297, 301990297, 2, 301990297, 301990299, 2, 301990299, 603980599, 2, 301990299, 301990299, 603980599, 905970896, 905970896, 1811941793, 603980599, 905970896, 905970896, 1811941793, 5435825380, 5435825380]
theorem angleMiddle_wf : wfB 0 angleMiddle_N = true := by kernel_rfl
theorem angleMiddle_sz : szB angleMiddle_Z angleMiddle_N angleMiddle_Z = true := by kernel_rfl
theorem angleMiddle_lt : litB angleMiddle_N angleMiddle_L = true := by kernel_rfl
theorem angleMiddle_cn : canB angleMiddle_N angleMiddle_C = true := by kernel_rfl
theorem angleMiddle_c20 : cst 0 2 1 = (2 : Rat) := by decide +kernel
theorem angleMiddle_c67 : cst 0 1 1 = (1 : Rat) := by decide +kernel
theorem angleMiddle_c70 : cst 0 0 1 = (0 : Rat) := by decide +kernel
theorem angleMiddle_f0 {z0 z1 z2 z3 z4 z5 z6 z7 z8 z9 z10 z11 z12 z13 z14 z15 z16 z17 z18 z19 z20 z21 z22 z23 z24 z25 z26 z27 z28 z29 z30 z31 z32 z33 z34 z35 z36 : Rat} : z6 = z2 - z0 → z7 = z3 - z1 → z8 = z4 - z0 → z9 = z5 - z1 → z10 = z6 * z9 → z11 = z7 * z8 → z12 = z10 - z11 → z13 = z2 * z2 → z14 = z3 * z3 → z15 = z13 + z14 → z16 = z0 * z0 → z17 = z1 * z1 → z18 = z16 + z17 → z19 = z15 - z18 → z20 = 2 → z21 = z19 / z20 → z22 = z4 * z4 → z23 = z5 * z5 → z24 = z22 + z23 → z25 = z24 - z18 → z26 = z25 / z20 → z27 = z21 * z9 → z28 = z26 * z7 → z29 = z27 - z28 → z30 = z29 / z12 → z31 = z6 * z26 → z32 = z8 * z21 → z33 = z31 - z32 → z34 = z33 / z12 → z35 = z0 - z30 → z36 = z1 - z34 → (¬ (z12 = 0)) → ¬ (z35 = 0 ∧ z36 = 0) := by
 intro e6 e7 e8 e9 e10 e11 e12 e13 e14 e15 e16 e17 e18 e19 e20 e21 e22 e23 e24 e25 e26 e27 e28 e29 e30 e31 e32 e33 e34 e35 e36 u0
 have ⟨hB, hC⟩ := mid_far (ax := z0) (az := z1) (bx := z2) (bz := z3) (cx := z4) (cz := z5) (d := z12) u0 (by rw [e12, e10, e11, e6, e7, e8, e9]) (h := z21) (by rw [e21, e20, e19, e15, e18, e13, e14, e16, e17]) (k := z26) (by rw [e26, e20, e25, e24, e18, e22, e23, e16, e17]) (ox := z30) (by rw [e30, e29, e27, e28, e9, e7]) (oz := z34) (by rw [e34, e33, e31, e32, e6, e8])
 rw [e35, e36]
 exact (mid_ne (cx := z4) (cz := z5) u0 (by rw [e12, e10, e11, e6, e7, e8, e9]) hB).1
theorem angleMiddle_f1 {z0 z1 z2 z3 z4 z5 z6 z7 z8 z9 z10 z11 z12 z13 z14 z15 z16 z17 z18 z19 z20 z21 z22 z23 z24 z25 z26 z27 z28 z29 z30 z31 z32 z33 z34 z37 z38 : Rat} : z6 = z2 - z0 → z7 = z3 - z1 → z8 = z4 - z0 → z9 = z5 - z1 → z10 = z6 * z9 → z11 = z7 * z8 → z12 = z10 - z11 → z13 = z2 * z2 → z14 = z3 * z3 → z15 = z13 + z14 → z16 = z0 * z0 → z17 = z1 * z1 → z18 = z16 + z17 → z19 = z15 - z18 → z20 = 2 → z21 = z19 / z20 → z22 = z4 * z4 → z23 = z5 * z5 → z24 = z22 + z23 → z25 = z24 - z18 → z26 = z25 / z20 → z27 = z21 * z9 → z28 = z26 * z7 → z29 = z27 - z28 → z30 = z29 / z12 → z31 = z6 * z26 → z32 = z8 * z21 → z33 = z31 - z32 → z34 = z33 / z12 → z37 = z2 - z30 → z38 = z3 - z34 → (¬ (z12 = 0)) → ¬ (z37 = 0 ∧ z38 = 0) := by
 intro e6 e7 e8 e9 e10 e11 e12 e13 e14 e15 e16 e17 e18 e19 e20 e21 e22 e23 e24 e25 e26 e27 e28 e29 e30 e31 e32 e33 e34 e37 e38 u0
 have ⟨hB, hC⟩ := mid_far (ax := z0) (az := z1) (bx := z2) (bz := z3) (cx := z4) (cz := z5) (d := z12) u0 (by rw [e12, e10, e11, e6, e7, e8, e9]) (h := z21) (by rw [e21, e20, e19, e15, e18, e13, e14, e16, e17]) (k := z26) (by rw [e26, e20, e25, e24, e18, e22, e23, e16, e17]) (ox := z30) (by rw [e30, e29, e27, e28, e9, e7]) (oz := z34) (by rw [e34, e33, e31, e32, e6, e8])
 rw [e37, e38]
 exact (mid_ne (cx := z4) (cz := z5) u0 (by rw [e12, e10, e11, e6, e7, e8, e9]) hB).2
theorem angleMiddle_f2 {z0 z1 z2 z3 z4 z5 z6 z7 z8 z9 z10 z11 z12 z50 z51 : Rat} : z6 = z2 - z0 → z7 = z3 - z1 → z8 = z4 - z0 → z9 = z5 - z1 → z10 = z6 * z9 → z11 = z7 * z8 → z12 = z10 - z11 → z50 = z0 - z4 → z51 = z1 - z5 → (¬ (z12 = 0)) → ¬ (z50 = 0 ∧ z51 = 0) := by
 intro e6 e7 e8 e9 e10 e11 e12 e50 e51 u0
 rintro ⟨h1, h2⟩
 exact u0 (by grind)
theorem angleMiddle_f3 {z0 z1 z2 z3 z4 z5 z6 z7 z8 z9 z10 z11 z12 z52 z53 : Rat} : z6 = z2 - z0 → z7 = z3 - z1 → z8 = z4 - z0 → z9 = z5 - z1 → z10 = z6 * z9 → z11 = z7 * z8 → z12 = z10 - z11 → z52 = z2 - z4 → z53 = z3 - z5 → (¬ (z12 = 0)) → ¬ (z52 = 0 ∧ z53 = 0) := by
 intro e6 e7 e8 e9 e10 e11 e12 e52 e53 u0
 rintro ⟨h1, h2⟩
 exact u0 (by grind)
theorem angleMiddle_f4 {z0 z1 z2 z3 z4 z5 z6 z7 z8 z9 z10 z11 z12 z50 z51 z52 z53 z54 z55 z56 z57 z58 z59 z60 z61 z62 z63 z64 : Rat} : z6 = z2 - z0 → z7 = z3 - z1 → z8 = z4 - z0 → z9 = z5 - z1 → z10 = z6 * z9 → z11 = z7 * z8 → z12 = z10 - z11 → z50 = z0 - z4 → z51 = z1 - z5 → z52 = z2 - z4 → z53 = z3 - z5 → z54 = -z51 → z55 = -z53 → z56 = z50 * z52 → z57 = z54 * z55 → z58 = z56 + z57 → z59 = -z54 → z60 = z50 * z53 → z61 = z59 * z52 → z62 = z60 - z61 → z63 = z58 * fac [z58, z62] → z64 = z62 * fac [z58, z62] → (¬ (z12 = 0)) → ¬ (z63 = 0 ∧ z64 = 0) := by
 intro e6 e7 e8 e9 e10 e11 e12 e50 e51 e52 e53 e54 e55 e56 e57 e58 e59 e60 e61 e62 e63 e64 u0
 have hac : ¬ (z50 = 0 ∧ z51 = 0) := by
  rintro ⟨h1, h2⟩
  exact u0 (by grind)
 have hbc : ¬ (z52 = 0 ∧ z53 = 0) := by
  rintro ⟨h1, h2⟩
  exact u0 (by grind)
 have ht : ¬ (z58 = 0 ∧ z62 = 0) := cmul_ne (a := z50) (b := z54) (c := z52) (d := z53) (by rw [e54]; rintro ⟨h1, h2⟩; exact hac ⟨h1, by grind⟩) hbc (by rw [e58, e56, e57, e55]; clear u0; grind) (by rw [e62, e60, e61, e59]; clear u0; grind)
 rw [e63, e64]
 exact pair_fac ht (fac_zero (by simp)) (fac_zero (by simp))
theorem angleMiddle_f5 {z0 z1 z2 z3 z4 z5 z6 z7 z8 z9 z10 z11 z12 z13 z14 z15 z16 z17 z18 z19 z20 z21 z22 z23 z24 z25 z26 z27 z28 z29 z30 z31 z32 z33 z34 z35 z36 z37 z38 z39 z40 z41 z42 z43 z44 z45 z46 z47 z49 z50 z51 z52 z53 z54 z55 z56 z57 z58 z59 z60 z61 z62 z63 z64 z65 z66 z67 z68 z69 z70 z71 z72 z73 z74 z75 z76 z77 z78 z79 z80 z81 z82 z83 z85 : Rat} : z6 = z2 - z0 → z7 = z3 - z1 → z8 = z4 - z0 → z9 = z5 - z1 → z10 = z6 * z9 → z11 = z7 * z8 → z12 = z10 - z11 → z13 = z2 * z2 → z14 = z3 * z3 → z15 = z13 + z14 → z16 = z0 * z0 → z17 = z1 * z1 → z18 = z16 + z17 → z19 = z15 - z18 → z20 = 2 → z21 = z19 / z20 → z22 = z4 * z4 → z23 = z5 * z5 → z24 = z22 + z23 → z25 = z24 - z18 → z26 = z25 / z20 → z27 = z21 * z9 → z28 = z26 * z7 → z29 = z27 - z28 → z30 = z29 / z12 → z31 = z6 * z26 → z32 = z8 * z21 → z33 = z31 - z32 → z34 = z33 / z12 → z35 = z0 - z30 → z36 = z1 - z34 → z37 = z2 - z30 → z38 = z3 - z34 → z39 = -z36 → z40 = -z38 → z41 = z35 * z37 → z42 = z39 * z40 → z43 = z41 + z42 → z44 = -z39 → z45 = z35 * z38 → z46 = z44 * z37 → z47 = z45 - z46 → z49 = z47 * fac [z43, z47] → z50 = z0 - z4 → z51 = z1 - z5 → z52 = z2 - z4 → z53 = z3 - z5 → z54 = -z51 → z55 = -z53 → z56 = z50 * z52 → z57 = z54 * z55 → z58 = z56 + z57 → z59 = -z54 → z60 = z50 * z53 → z61 = z59 * z52 → z62 = z60 - z61 → z63 = z58 * fac [z58, z62] → z64 = z62 * fac [z58, z62] → z65 = z63 * fac [z63, z64] → z66 = z64 * fac [z63, z64] → z67 = 1 → z68 = -z66 → z69 = z67 * z65 → z70 = 0 → z71 = z70 * z68 → z72 = z69 + z71 → z73 = -z70 → z74 = z67 * z66 → z75 = z73 * z65 → z76 = z74 - z75 → z77 = z72 * z65 → z78 = z76 * z68 → z79 = z77 + z78 → z80 = -z76 → z81 = z72 * z66 → z82 = z80 * z65 → z83 = z81 - z82 → z85 = z83 * fac [z79, z83] → (¬ (z12 = 0)) → z49 = z85 := by
 intro e6 e7 e8 e9 e10 e11 e12 e13 e14 e15 e16 e17 e18 e19 e20 e21 e22 e23 e24 e25 e26 e27 e28 e29 e30 e31 e32 e33 e34 e35 e36 e37 e38 e39 e40 e41 e42 e43 e44 e45 e46 e47 e49 e50 e51 e52 e53 e54 e55 e56 e57 e58 e59 e60 e61 e62 e63 e64 e65 e66 e67 e68 e69 e70 e71 e72 e73 e74 e75 e76 e77 e78 e79 e80 e81 e82 e83 e85 u0
 have ⟨hB, hC⟩ := mid_far (ax := z0) (az := z1) (bx := z2) (bz := z3) (cx := z4) (cz := z5) (d := z12) u0 (by rw [e12, e10, e11, e6, e7, e8, e9]) (h := z21) (by rw [e21, e20, e19, e15, e18, e13, e14, e16, e17]) (k := z26) (by rw [e26, e20, e25, e24, e18, e22, e23, e16, e17]) (ox := z30) (by rw [e30, e29, e27, e28, e9, e7]) (oz := z34) (by rw [e34, e33, e31, e32, e6, e8])
 have hac : ¬ (z50 = 0 ∧ z51 = 0) := by
  rintro ⟨h1, h2⟩
  exact u0 (by grind)
 have hbc : ¬ (z52 = 0 ∧ z53 = 0) := by
  rintro ⟨h1, h2⟩
  exact u0 (by grind)
 have ht : ¬ (z58 = 0 ∧ z62 = 0) := cmul_ne (a := z50) (b := z54) (c := z52) (d := z53) (by rw [e54]; rintro ⟨h1, h2⟩; exact hac ⟨h1, by grind⟩) hbc (by rw [e58, e56, e57, e55]; clear u0; grind) (by rw [e62, e60, e61, e59]; clear u0; grind)
 have ⟨ha, hb⟩ := mid_ne (cx := z4) (cz := z5) u0 (by rw [e12, e10, e11, e6, e7, e8, e9]) hB
 have hs : ¬ (z43 = 0 ∧ z47 = 0) := cmul_ne (a := z35) (b := z39) (c := z37) (d := z38) (by rw [e39, e35, e36]; rintro ⟨h1, h2⟩; exact ha ⟨h1, by grind⟩) (by rw [e37, e38]; exact hb) (by rw [e43, e41, e42, e40]; clear hB hC u0; grind) (by rw [e47, e45, e46, e44]; clear hB hC u0; grind)
 have hm := mid_dbl (A1 := z0 - z30) (A2 := z1 - z34) (B1 := z2 - z30) (B2 := z3 - z34) (C1 := z4 - z30) (C2 := z5 - z34) (s1 := z43) (s2 := z47) (t1 := z58) (t2 := z62) hB hC (by rw [e43, e41, e42, e39, e40, e35, e36, e37, e38]; clear hB hC u0 ha hb hs hac hbc ht; grind) (by rw [e47, e45, e46, e44, e39, e35, e36, e37, e38]; clear hB hC u0 ha hb hs hac hbc ht; grind) (by rw [e58, e56, e57, e54, e55, e50, e51, e52, e53]; clear hB hC u0 ha hb hs hac hbc ht; grind) (by rw [e62, e60, e61, e59, e54, e50, e51, e52, e53]; clear hB hC u0 ha hb hs hac hbc ht; grind)
 have hf := angle_dbl hs ht hm e63 e64 e65 e66 (D1 := z79) (by rw [e79, e77, e78, e72, e69, e71, e76, e74, e75, e73, e67, e70, e68]; clear hm hB hC u0 ha hb hs hac hbc ht; grind) (D2 := z83) (by rw [e83, e81, e82, e80, e72, e69, e71, e76, e74, e75, e73, e67, e70, e68]; clear hm hB hC u0 ha hb hs hac hbc ht; grind)
 rw [e49, e85]
 exact hf.2
theorem angleMiddle_f6 {z0 z1 z2 z3 z4 z5 z6 z7 z8 z9 z10 z11 z12 z13 z14 z15 z16 z17 z18 z19 z20 z21 z22 z23 z24 z25 z26 z27 z28 z29 z30 z31 z32 z33 z34 z35 z36 z37 z38 z39 z40 z41 z42 z43 z44 z45 z46 z47 z48 z50 z51 z52 z53 z54 z55 z56 z57 z58 z59 z60 z61 z62 z63 z64 z65 z66 z67 z68 z69 z70 z71 z72 z73 z74 z75 z76 z77 z78 z79 z80 z81 z82 z83 z84 : Rat} : z6 = z2 - z0 → z7 = z3 - z1 → z8 = z4 - z0 → z9 = z5 - z1 → z10 = z6 * z9 → z11 = z7 * z8 → z12 = z10 - z11 → z13 = z2 * z2 → z14 = z3 * z3 → z15 = z13 + z14 → z16 = z0 * z0 → z17 = z1 * z1 → z18 = z16 + z17 → z19 = z15 - z18 → z20 = 2 → z21 = z19 / z20 → z22 = z4 * z4 → z23 = z5 * z5 → z24 = z22 + z23 → z25 = z24 - z18 → z26 = z25 / z20 → z27 = z21 * z9 → z28 = z26 * z7 → z29 = z27 - z28 → z30 = z29 / z12 → z31 = z6 * z26 → z32 = z8 * z21 → z33 = z31 - z32 → z34 = z33 / z12 → z35 = z0 - z30 → z36 = z1 - z34 → z37 = z2 - z30 → z38 = z3 - z34 → z39 = -z36 → z40 = -z38 → z41 = z35 * z37 → z42 = z39 * z40 → z43 = z41 + z42 → z44 = -z39 → z45 = z35 * z38 → z46 = z44 * z37 → z47 = z45 - z46 → z48 = z43 * fac [z43, z47] → z50 = z0 - z4 → z51 = z1 - z5 → z52 = z2 - z4 → z53 = z3 - z5 → z54 = -z51 → z55 = -z53 → z56 = z50 * z52 → z57 = z54 * z55 → z58 = z56 + z57 → z59 = -z54 → z60 = z50 * z53 → z61 = z59 * z52 → z62 = z60 - z61 → z63 = z58 * fac [z58, z62] → z64 = z62 * fac [z58, z62] → z65 = z63 * fac [z63, z64] → z66 = z64 * fac [z63, z64] → z67 = 1 → z68 = -z66 → z69 = z67 * z65 → z70 = 0 → z71 = z70 * z68 → z72 = z69 + z71 → z73 = -z70 → z74 = z67 * z66 → z75 = z73 * z65 → z76 = z74 - z75 → z77 = z72 * z65 → z78 = z76 * z68 → z79 = z77 + z78 → z80 = -z76 → z81 = z72 * z66 → z82 = z80 * z65 → z83 = z81 - z82 → z84 = z79 * fac [z79, z83] → (¬ (z12 = 0)) → z48 = z84 := by
 intro e6 e7 e8 e9 e10 e11 e12 e13 e14 e15 e16 e17 e18 e19 e20 e21 e22 e23 e24 e25 e26 e27 e28 e29 e30 e31 e32 e33 e34 e35 e36 e37 e38 e39 e40 e41 e42 e43 e44 e45 e46 e47 e48 e50 e51 e52 e53 e54 e55 e56 e57 e58 e59 e60 e61 e62 e63 e64 e65 e66 e67 e68 e69 e70 e71 e72 e73 e74 e75 e76 e77 e78 e79 e80 e81 e82 e83 e84 u0
 have ⟨hB, hC⟩ := mid_far (ax := z0) (az := z1) (bx := z2) (bz := z3) (cx := z4) (cz := z5) (d := z12) u0 (by rw [e12, e10, e11, e6, e7, e8, e9]) (h := z21) (by rw [e21, e20, e19, e15, e18, e13, e14, e16, e17]) (k := z26) (by rw [e26, e20, e25, e24, e18, e22, e23, e16, e17]) (ox := z30) (by rw [e30, e29, e27, e28, e9, e7]) (oz := z34) (by rw [e34, e33, e31, e32, e6, e8])
 have hac : ¬ (z50 = 0 ∧ z51 = 0) := by
  rintro ⟨h1, h2⟩
  exact u0 (by grind)
 have hbc : ¬ (z52 = 0 ∧ z53 = 0) := by
  rintro ⟨h1, h2⟩
  exact u0 (by grind)
 have ht : ¬ (z58 = 0 ∧ z62 = 0) := cmul_ne (a := z50) (b := z54) (c := z52) (d := z53) (by rw [e54]; rintro ⟨h1, h2⟩; exact hac ⟨h1, by grind⟩) hbc (by rw [e58, e56, e57, e55]; clear u0; grind) (by rw [e62, e60, e61, e59]; clear u0; grind)
 have ⟨ha, hb⟩ := mid_ne (cx := z4) (cz := z5) u0 (by rw [e12, e10, e11, e6, e7, e8, e9]) hB
 have hs : ¬ (z43 = 0 ∧ z47 = 0) := cmul_ne (a := z35) (b := z39) (c := z37) (d := z38) (by rw [e39, e35, e36]; rintro ⟨h1, h2⟩; exact ha ⟨h1, by grind⟩) (by rw [e37, e38]; exact hb) (by rw [e43, e41, e42, e40]; clear hB hC u0; grind) (by rw [e47, e45, e46, e44]; clear hB hC u0; grind)
 have hm := mid_dbl (A1 := z0 - z30) (A2 := z1 - z34) (B1 := z2 - z30) (B2 := z3 - z34) (C1 := z4 - z30) (C2 := z5 - z34) (s1 := z43) (s2 := z47) (t1 := z58) (t2 := z62) hB hC (by rw [e43, e41, e42, e39, e40, e35, e36, e37, e38]; clear hB hC u0 ha hb hs hac hbc ht; grind) (by rw [e47, e45, e46, e44, e39, e35, e36, e37, e38]; clear hB hC u0 ha hb hs hac hbc ht; grind) (by rw [e58, e56, e57, e54, e55, e50, e51, e52, e53]; clear hB hC u0 ha hb hs hac hbc ht; grind) (by rw [e62, e60, e61, e59, e54, e50, e51, e52, e53]; clear hB hC u0 ha hb hs hac hbc ht; grind)
 have hf := angle_dbl hs ht hm e63 e64 e65 e66 (D1 := z79) (by rw [e79, e77, e78, e72, e69, e71, e76, e74, e75, e73, e67, e70, e68]; clear hm hB hC u0 ha hb hs hac hbc ht; grind) (D2 := z83) (by rw [e83, e81, e82, e80, e72, e69, e71, e76, e74, e75, e73, e67, e70, e68]; clear hm hB hC u0 ha hb hs hac hbc ht; grind)
 rw [e48, e84]
 exact hf.1
theorem angleMiddle_r0 : (callB (sx Tryz.prog angleMiddle_N [(0, 12, 0, 1)] [] angleMiddle_L angleMiddle_C angleMiddle_Z (prQ [98])) 4 14 [(false, [(true, [.inr (2, 0, 0, 0, 0), .inr (2, 1, 0, 0, 0)])]), (false, [(true, [.inr (2, 2, 0, 0, 0), .inr (2, 3, 0, 0, 0)])]), (false, [(true, [.inr (2, 4, 0, 0, 0), .inr (2, 5, 0, 0, 0)])])] [] 0).map (·.1) = some (kB true) := by kernel_rfl
theorem angleMiddle_r1 : (callB (sx Tryz.prog angleMiddle_N [(0, 12, 0, 0), (6, 35, 36, 0), (6, 37, 38, 0), (6, 50, 51, 0), (6, 52, 53, 0), (6, 63, 64, 0), (3, 49, 85, 1), (3, 48, 84, 1)] [] angleMiddle_L angleMiddle_C angleMiddle_Z (prQ [98])) 6 14 [(false, [(true, [.inr (2, 0, 0, 0, 0), .inr (2, 1, 0, 0, 0)])]), (false, [(true, [.inr (2, 2, 0, 0, 0), .inr (2, 3, 0, 0, 0)])]), (false, [(true, [.inr (2, 4, 0, 0, 0), .inr (2, 5, 0, 0, 0)])])] [] 0).map (·.1) = some (kB true) := by kernel_rfl
theorem angleMiddle_walk {w : World} {ax az bx bz cx cz : ByteArray} (sax : ax.size ≤ 1048576) (saz : az.size ≤ 1048576) (sbx : bx.size ≤ 1048576) (sbz : bz.size ≤ 1048576) (scx : cx.size ≤ 1048576) (scz : cz.size ≤ 1048576) (tab : Tab w) (mx : MaxL w) :
  Calls Tryz.prog 14 #[.agg #[.string ax, .string az], .agg #[.string bx, .string bz], .agg #[.string cx, .string cz]] w fun e w' => Below w.heap.size w w' ∧ e = .returned (.bool true) := by
 have hσ : ∀ j, (sgOf [ax, az, bx, bz, cx, cz] j).size ≤ 1048576 := sgOf_size (by simp [sax, saz, sbx, sbz, scx, scz])
 have hcl : ∀ f ∈ ([98] : List FuncId), Closed f := by simp [closed_angled]
 obtain ⟨q, hq, h0⟩ := nodes_exist (sgOf [ax, az, bx, bz, cx, cz]) angleMiddle_N angleMiddle_wf
 have hA : ∀ K, A2 (avOn (cOn (evS q (sgOf [ax, az, bx, bz, cx, cz])) K (fun _ => none) w)) [(false, [(true, [.inr (2, 0, 0, 0, 0), .inr (2, 1, 0, 0, 0)])]), (false, [(true, [.inr (2, 2, 0, 0, 0), .inr (2, 3, 0, 0, 0)])]), (false, [(true, [.inr (2, 4, 0, 0, 0), .inr (2, 5, 0, 0, 0)])])] [.agg #[.string ax, .string az], .agg #[.string bx, .string bz], .agg #[.string cx, .string cz]] := fun K => ⟨⟨⟨[.string ax, .string az], rfl, rfl, rfl, trivial⟩, trivial⟩, ⟨⟨[.string bx, .string bz], rfl, rfl, rfl, trivial⟩, trivial⟩, ⟨⟨[.string cx, .string cz], rfl, rfl, rfl, trivial⟩, trivial⟩, trivial⟩
 have E6 : q 6 = q 2 - q 0 := hq 6 _ rfl
 have E7 : q 7 = q 3 - q 1 := hq 7 _ rfl
 have E8 : q 8 = q 4 - q 0 := hq 8 _ rfl
 have E9 : q 9 = q 5 - q 1 := hq 9 _ rfl
 have E10 : q 10 = q 6 * q 9 := hq 10 _ rfl
 have E11 : q 11 = q 7 * q 8 := hq 11 _ rfl
 have E12 : q 12 = q 10 - q 11 := hq 12 _ rfl
 have E13 : q 13 = q 2 * q 2 := hq 13 _ rfl
 have E14 : q 14 = q 3 * q 3 := hq 14 _ rfl
 have E15 : q 15 = q 13 + q 14 := hq 15 _ rfl
 have E16 : q 16 = q 0 * q 0 := hq 16 _ rfl
 have E17 : q 17 = q 1 * q 1 := hq 17 _ rfl
 have E18 : q 18 = q 16 + q 17 := hq 18 _ rfl
 have E19 : q 19 = q 15 - q 18 := hq 19 _ rfl
 have E20 : q 20 = 2 := (hq 20 _ rfl).trans angleMiddle_c20
 have E21 : q 21 = q 19 / q 20 := hq 21 _ rfl
 have E22 : q 22 = q 4 * q 4 := hq 22 _ rfl
 have E23 : q 23 = q 5 * q 5 := hq 23 _ rfl
 have E24 : q 24 = q 22 + q 23 := hq 24 _ rfl
 have E25 : q 25 = q 24 - q 18 := hq 25 _ rfl
 have E26 : q 26 = q 25 / q 20 := hq 26 _ rfl
 have E27 : q 27 = q 21 * q 9 := hq 27 _ rfl
 have E28 : q 28 = q 26 * q 7 := hq 28 _ rfl
 have E29 : q 29 = q 27 - q 28 := hq 29 _ rfl
 have E30 : q 30 = q 29 / q 12 := hq 30 _ rfl
 have E31 : q 31 = q 6 * q 26 := hq 31 _ rfl
 have E32 : q 32 = q 8 * q 21 := hq 32 _ rfl
 have E33 : q 33 = q 31 - q 32 := hq 33 _ rfl
 have E34 : q 34 = q 33 / q 12 := hq 34 _ rfl
 have E35 : q 35 = q 0 - q 30 := hq 35 _ rfl
 have E36 : q 36 = q 1 - q 34 := hq 36 _ rfl
 have E37 : q 37 = q 2 - q 30 := hq 37 _ rfl
 have E38 : q 38 = q 3 - q 34 := hq 38 _ rfl
 have E39 : q 39 = -q 36 := hq 39 _ rfl
 have E40 : q 40 = -q 38 := hq 40 _ rfl
 have E41 : q 41 = q 35 * q 37 := hq 41 _ rfl
 have E42 : q 42 = q 39 * q 40 := hq 42 _ rfl
 have E43 : q 43 = q 41 + q 42 := hq 43 _ rfl
 have E44 : q 44 = -q 39 := hq 44 _ rfl
 have E45 : q 45 = q 35 * q 38 := hq 45 _ rfl
 have E46 : q 46 = q 44 * q 37 := hq 46 _ rfl
 have E47 : q 47 = q 45 - q 46 := hq 47 _ rfl
 have E48 : q 48 = q 43 * fac [q 43, q 47] := hq 48 _ rfl
 have E49 : q 49 = q 47 * fac [q 43, q 47] := hq 49 _ rfl
 have E50 : q 50 = q 0 - q 4 := hq 50 _ rfl
 have E51 : q 51 = q 1 - q 5 := hq 51 _ rfl
 have E52 : q 52 = q 2 - q 4 := hq 52 _ rfl
 have E53 : q 53 = q 3 - q 5 := hq 53 _ rfl
 have E54 : q 54 = -q 51 := hq 54 _ rfl
 have E55 : q 55 = -q 53 := hq 55 _ rfl
 have E56 : q 56 = q 50 * q 52 := hq 56 _ rfl
 have E57 : q 57 = q 54 * q 55 := hq 57 _ rfl
 have E58 : q 58 = q 56 + q 57 := hq 58 _ rfl
 have E59 : q 59 = -q 54 := hq 59 _ rfl
 have E60 : q 60 = q 50 * q 53 := hq 60 _ rfl
 have E61 : q 61 = q 59 * q 52 := hq 61 _ rfl
 have E62 : q 62 = q 60 - q 61 := hq 62 _ rfl
 have E63 : q 63 = q 58 * fac [q 58, q 62] := hq 63 _ rfl
 have E64 : q 64 = q 62 * fac [q 58, q 62] := hq 64 _ rfl
 have E65 : q 65 = q 63 * fac [q 63, q 64] := hq 65 _ rfl
 have E66 : q 66 = q 64 * fac [q 63, q 64] := hq 66 _ rfl
 have E67 : q 67 = 1 := (hq 67 _ rfl).trans angleMiddle_c67
 have E68 : q 68 = -q 66 := hq 68 _ rfl
 have E69 : q 69 = q 67 * q 65 := hq 69 _ rfl
 have E70 : q 70 = 0 := (hq 70 _ rfl).trans angleMiddle_c70
 have E71 : q 71 = q 70 * q 68 := hq 71 _ rfl
 have E72 : q 72 = q 69 + q 71 := hq 72 _ rfl
 have E73 : q 73 = -q 70 := hq 73 _ rfl
 have E74 : q 74 = q 67 * q 66 := hq 74 _ rfl
 have E75 : q 75 = q 73 * q 65 := hq 75 _ rfl
 have E76 : q 76 = q 74 - q 75 := hq 76 _ rfl
 have E77 : q 77 = q 72 * q 65 := hq 77 _ rfl
 have E78 : q 78 = q 76 * q 68 := hq 78 _ rfl
 have E79 : q 79 = q 77 + q 78 := hq 79 _ rfl
 have E80 : q 80 = -q 76 := hq 80 _ rfl
 have E81 : q 81 = q 72 * q 66 := hq 81 _ rfl
 have E82 : q 82 = q 80 * q 65 := hq 82 _ rfl
 have E83 : q 83 = q 81 - q 82 := hq 83 _ rfl
 have E84 : q 84 = q 79 * fac [q 79, q 83] := hq 84 _ rfl
 have E85 : q 85 = q 83 * fac [q 79, q 83] := hq 85 _ rfl
 by_cases a_0_12_0 : q 12 = 0
 ·
  exact run_toldQ' 4 (hy_of (H := [(0, 12, 0, 1)]) hσ angleMiddle_wf angleMiddle_sz angleMiddle_lt angleMiddle_cn hq h0 (And.intro (hT a_0_12_0) trivial)) hcl (by kernel_rfl) angleMiddle_r0 ⟨tab, mx⟩ (hA _)
 ·
  have a_6_35_36 : ¬ (q 35 = 0 ∧ q 36 = 0) := angleMiddle_f0 E6 E7 E8 E9 E10 E11 E12 E13 E14 E15 E16 E17 E18 E19 E20 E21 E22 E23 E24 E25 E26 E27 E28 E29 E30 E31 E32 E33 E34 E35 E36 a_0_12_0
  have a_6_37_38 : ¬ (q 37 = 0 ∧ q 38 = 0) := angleMiddle_f1 E6 E7 E8 E9 E10 E11 E12 E13 E14 E15 E16 E17 E18 E19 E20 E21 E22 E23 E24 E25 E26 E27 E28 E29 E30 E31 E32 E33 E34 E37 E38 a_0_12_0
  have a_6_50_51 : ¬ (q 50 = 0 ∧ q 51 = 0) := angleMiddle_f2 E6 E7 E8 E9 E10 E11 E12 E50 E51 a_0_12_0
  have a_6_52_53 : ¬ (q 52 = 0 ∧ q 53 = 0) := angleMiddle_f3 E6 E7 E8 E9 E10 E11 E12 E52 E53 a_0_12_0
  have a_6_63_64 : ¬ (q 63 = 0 ∧ q 64 = 0) := angleMiddle_f4 E6 E7 E8 E9 E10 E11 E12 E50 E51 E52 E53 E54 E55 E56 E57 E58 E59 E60 E61 E62 E63 E64 a_0_12_0
  have a_3_49_85 : q 49 = q 85 := angleMiddle_f5 E6 E7 E8 E9 E10 E11 E12 E13 E14 E15 E16 E17 E18 E19 E20 E21 E22 E23 E24 E25 E26 E27 E28 E29 E30 E31 E32 E33 E34 E35 E36 E37 E38 E39 E40 E41 E42 E43 E44 E45 E46 E47 E49 E50 E51 E52 E53 E54 E55 E56 E57 E58 E59 E60 E61 E62 E63 E64 E65 E66 E67 E68 E69 E70 E71 E72 E73 E74 E75 E76 E77 E78 E79 E80 E81 E82 E83 E85 a_0_12_0
  have a_3_48_84 : q 48 = q 84 := angleMiddle_f6 E6 E7 E8 E9 E10 E11 E12 E13 E14 E15 E16 E17 E18 E19 E20 E21 E22 E23 E24 E25 E26 E27 E28 E29 E30 E31 E32 E33 E34 E35 E36 E37 E38 E39 E40 E41 E42 E43 E44 E45 E46 E47 E48 E50 E51 E52 E53 E54 E55 E56 E57 E58 E59 E60 E61 E62 E63 E64 E65 E66 E67 E68 E69 E70 E71 E72 E73 E74 E75 E76 E77 E78 E79 E80 E81 E82 E83 E84 a_0_12_0
  exact run_toldQ' 6 (hy_of (H := [(0, 12, 0, 0), (6, 35, 36, 0), (6, 37, 38, 0), (6, 50, 51, 0), (6, 52, 53, 0), (6, 63, 64, 0), (3, 49, 85, 1), (3, 48, 84, 1)]) hσ angleMiddle_wf angleMiddle_sz angleMiddle_lt angleMiddle_cn hq h0 (And.intro (hF a_0_12_0) (And.intro (hF a_6_35_36) (And.intro (hF a_6_37_38) (And.intro (hF a_6_50_51) (And.intro (hF a_6_52_53) (And.intro (hF a_6_63_64) (And.intro (hT a_3_49_85) (And.intro (hT a_3_48_84) trivial))))))))) hcl (by kernel_rfl) angleMiddle_r1 ⟨tab, mx⟩ (hA _)
end Go.Proofs.YtioacnhbiinjbaaGreatDoor
