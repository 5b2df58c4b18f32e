/- Part 13 of the walks and of the mathematics under them: MGD. -/
import Derived.Test.YtldhbbignahgeaaGreatDoorA12
set_option maxHeartbeats 16000000
set_option maxRecDepth 100000
/- MGD -/
namespace Go.Proofs.YtldhbbignahgeaaGreatDoor
open Go.RowKit Cx
def triangleCircle1_N : List Nd := [(1, [0]), (1, [1]), (1, [2]), (1, [3]), (1, [4]), (1, [5]), (3, [2, 0]), (3, [3, 1]), (3, [4, 0]), (3, [5, 1]), (4, [6, 9]), (4, [7, 8]), (3, [10, 11]), (0, [0, 4, 1]), (0, [0, 16, 1]), (3, [4, 2]), (3, [5, 3]), (4, [15, 15]), (4, [16, 16]), (2, [17, 18]), (3, [0, 4]), (3, [1, 5]), (4, [20, 20]), (4, [21, 21]), (2, [22, 23]), (4, [6, 6]), (4, [7, 7]), (2, [25, 26]), (5, [19]), (2, [24, 27]), (2, [29, 28]), (4, [19, 30]), (5, [27]), (2, [19, 24]), (2, [33, 32]), (5, [24]), (2, [19, 27]), (2, [36, 35]), (4, [34, 37]), (2, [31, 38]), (2, [27, 19]), (2, [40, 35]), (4, [24, 41]), (2, [24, 19]), (2, [43, 32]), (4, [30, 44]), (2, [42, 45]), (4, [27, 34]), (2, [27, 24]), (2, [48, 28]), (4, [41, 49]), (2, [47, 50]), (2, [39, 46]), (2, [52, 51]), (4, [0, 39]), (4, [1, 39]), (0, [0, 0, 1]), (2, [56, 54]), (2, [56, 55]), (4, [2, 46]), (4, [3, 46]), (2, [57, 59]), (2, [58, 60]), (4, [4, 51]), (4, [5, 51]), (2, [61, 63]), (2, [62, 64]), (6, [65, 53]), (6, [66, 53]), (4, [19, 24]), (4, [69, 27]), (4, [12, 12]), (6, [70, 71]), (6, [72, 14]), (0, [0, 1, 2]), (4, [15, 74]), (4, [16, 74]), (2, [2, 75]), (2, [3, 76]), (3, [77, 67]), (3, [78, 68]), (4, [79, 79]), (4, [80, 80]), (2, [81, 82]), (3, [83, 73]), (4, [20, 74]), (4, [21, 74]), (2, [4, 85]), (2, [5, 86]), (3, [87, 67]), (3, [88, 68]), (4, [89, 89]), (4, [90, 90]), (2, [91, 92]), (3, [93, 73]), (4, [6, 74]), (4, [7, 74]), (2, [0, 95]), (2, [1, 96]), (3, [97, 67]), (3, [98, 68]), (4, [99, 99]), (4, [100, 100]), (2, [101, 102]), (3, [103, 73])]
def triangleCircle1_L : List (List Nat × Nat) := []
def triangleCircle1_C : List (List Nat × Nat) := []
def triangleCircle1_Z : List Nat := [4194309, 4194309, 4194309, 4194309, 4194309, 4194309, 8388619, 8388619, 8388619, 8388619, 16777238, 16777238, 33554477, 4, 6, 8388619, 8388619, 16777238, 16777238, 33554477, 8388619, 8388619, 16777238, 16777238, 33554477, 16777238, 16777238, 33554477, 33554477, 67108955, 100663433, 134217910, 33554477, 67108955, 100663433, 33554477, 67108955, 100663433, 201326866, 335544777, 67108955, 100663433, 134217910, 67108955, 100663433, 201326866, 335544777, 134217910, 67108955, 100663433, 201326866, 335544777, 671089555, 1006634333, 339739086, 339739086, 2, 339739089, 339739089, 339739086, 339739086, 679478176, 679478176, 339739086, 339739086, 1019217263, 1019217263, 2025851596, 2025851596, 67108954, 100663431, 67108954, 167772385, 167772391, 3, 8388622, 8388622, 12582932, 12582932, 2038434529, 2038434529, 4076869058, 4076869058, 8153738117, 8321510509, 8388622, 8388622, 12582932, 12582932, 2038434529, 2038434529, 4076869058, 4076869058, 8153738117, 8321510509, 8388622, 8388622, 12582932, 12582932, 2038434529, 2038434529, 4076869058, 4076869058, 8153738117, 8321510509]
theorem triangleCircle1_wf : wfB 0 triangleCircle1_N = true := by kernel_rfl
theorem triangleCircle1_sz : szB triangleCircle1_Z triangleCircle1_N triangleCircle1_Z = true := by kernel_rfl
theorem triangleCircle1_lt : litB triangleCircle1_N triangleCircle1_L = true := by kernel_rfl
theorem triangleCircle1_cn : canB triangleCircle1_N triangleCircle1_C = true := by kernel_rfl
theorem triangleCircle1_c13 : cst 0 4 1 = (4 : Rat) := by decide +kernel
theorem triangleCircle1_c14 : cst 0 16 1 = (16 : Rat) := by decide +kernel
theorem triangleCircle1_c56 : cst 0 0 1 = (0 : Rat) := by decide +kernel
theorem triangleCircle1_c74 : cst 0 1 2 = ((1 / 2) : Rat) := by decide +kernel
theorem triangleCircle1_f0 (z0 z1 z2 z3 z4 z5 z6 z7 z8 z9 z10 z11 z12 z15 z16 z17 z18 z19 z20 z21 z22 z23 z24 z25 z26 z27 z28 z29 z30 z31 z32 z33 z34 z35 z36 z37 z38 z39 z40 z41 z42 z43 z44 z45 z46 z47 z48 z49 z50 z51 z52 z53 : Rat) : z6 = z2 - z0 → z7 = z3 - z1 → z8 = z4 - z0 → z9 = z5 - z1 → z10 = z6 * z9 → z11 = z7 * z8 → z12 = z10 - z11 → z15 = z4 - z2 → z16 = z5 - z3 → z17 = z15 * z15 → z18 = z16 * z16 → z19 = z17 + z18 → z20 = z0 - z4 → z21 = z1 - z5 → z22 = z20 * z20 → z23 = z21 * z21 → z24 = z22 + z23 → z25 = z6 * z6 → z26 = z7 * z7 → z27 = z25 + z26 → z28 = -z19 → z29 = z24 + z27 → z30 = z29 + z28 → z31 = z19 * z30 → z32 = -z27 → z33 = z19 + z24 → z34 = z33 + z32 → z35 = -z24 → z36 = z19 + z27 → z37 = z36 + z35 → z38 = z34 * z37 → z39 = z31 + z38 → z40 = z27 + z19 → z41 = z40 + z35 → z42 = z24 * z41 → z43 = z24 + z19 → z44 = z43 + z32 → z45 = z30 * z44 → z46 = z42 + z45 → z47 = z27 * z34 → z48 = z27 + z24 → z49 = z48 + z28 → z50 = z41 * z49 → z51 = z47 + z50 → z52 = z39 + z46 → z53 = z52 + z51 → (¬ (z12 = 0)) → ¬ (z53 = 0) := by
  intro e6 e7 e8 e9 e10 e11 e12 e15 e16 e17 e18 e19 e20 e21 e22 e23 e24 e25 e26 e27 e28 e29 e30 e31 e32 e33 e34 e35 e36 e37 e38 e39 e40 e41 e42 e43 e44 e45 e46 e47 e48 e49 e50 e51 e52 e53 u0
  subst_vars; grind
theorem triangleCircle1_f1 (z0 z1 z2 z3 z4 z5 z6 z7 z8 z9 z10 z11 z12 z14 z15 z16 z17 z18 z19 z20 z21 z22 z23 z24 z25 z26 z27 z28 z29 z30 z31 z32 z33 z34 z35 z36 z37 z38 z39 z40 z41 z42 z43 z44 z45 z46 z47 z48 z49 z50 z51 z52 z53 z54 z55 z56 z57 z58 z59 z60 z61 z62 z63 z64 z65 z66 z67 z68 z69 z70 z71 z72 z73 z74 z75 z76 z77 z78 z79 z80 z81 z82 z83 z84 : Rat) : z6 = z2 - z0 → z7 = z3 - z1 → z8 = z4 - z0 → z9 = z5 - z1 → z10 = z6 * z9 → z11 = z7 * z8 → z12 = z10 - z11 → z14 = 16 → z15 = z4 - z2 → z16 = z5 - z3 → z17 = z15 * z15 → z18 = z16 * z16 → z19 = z17 + z18 → z20 = z0 - z4 → z21 = z1 - z5 → z22 = z20 * z20 → z23 = z21 * z21 → z24 = z22 + z23 → z25 = z6 * z6 → z26 = z7 * z7 → z27 = z25 + z26 → z28 = -z19 → z29 = z24 + z27 → z30 = z29 + z28 → z31 = z19 * z30 → z32 = -z27 → z33 = z19 + z24 → z34 = z33 + z32 → z35 = -z24 → z36 = z19 + z27 → z37 = z36 + z35 → z38 = z34 * z37 → z39 = z31 + z38 → z40 = z27 + z19 → z41 = z40 + z35 → z42 = z24 * z41 → z43 = z24 + z19 → z44 = z43 + z32 → z45 = z30 * z44 → z46 = z42 + z45 → z47 = z27 * z34 → z48 = z27 + z24 → z49 = z48 + z28 → z50 = z41 * z49 → z51 = z47 + z50 → z52 = z39 + z46 → z53 = z52 + z51 → z54 = z0 * z39 → z55 = z1 * z39 → z56 = 0 → z57 = z56 + z54 → z58 = z56 + z55 → z59 = z2 * z46 → z60 = z3 * z46 → z61 = z57 + z59 → z62 = z58 + z60 → z63 = z4 * z51 → z64 = z5 * z51 → z65 = z61 + z63 → z66 = z62 + z64 → z67 = z65 / z53 → z68 = z66 / z53 → z69 = z19 * z24 → z70 = z69 * z27 → z71 = z12 * z12 → z72 = z70 / z71 → z73 = z72 / z14 → z74 = (1 / 2) → z75 = z15 * z74 → z76 = z16 * z74 → z77 = z2 + z75 → z78 = z3 + z76 → z79 = z77 - z67 → z80 = z78 - z68 → z81 = z79 * z79 → z82 = z80 * z80 → z83 = z81 + z82 → z84 = z83 - z73 → (¬ (z12 = 0)) → z84 = 0 := by
  intro e6 e7 e8 e9 e10 e11 e12 e14 e15 e16 e17 e18 e19 e20 e21 e22 e23 e24 e25 e26 e27 e28 e29 e30 e31 e32 e33 e34 e35 e36 e37 e38 e39 e40 e41 e42 e43 e44 e45 e46 e47 e48 e49 e50 e51 e52 e53 e54 e55 e56 e57 e58 e59 e60 e61 e62 e63 e64 e65 e66 e67 e68 e69 e70 e71 e72 e73 e74 e75 e76 e77 e78 e79 e80 e81 e82 e83 e84 u0
  have f53 : z53 = (z12 * (z12 * 8)) := by
    have c2 : z2 = z6 + z0 := by rw [e6]; grind
    clear e6
    subst c2
    have c4 : z4 = z8 + z0 := by rw [e8]; grind
    clear e8
    subst c4
    have c3 : z3 = z7 + z1 := by rw [e7]; grind
    clear e7
    subst c3
    have c5 : z5 = z9 + z1 := by rw [e9]; grind
    clear e9
    subst c5
    subst_vars; grind
  have w14 : z14 ≠ 0 := by rw [e14]; decide
  have w12 : z12 ≠ 0 := by first | assumption | grind
  have n53 : z53 ≠ 0 := by rw [f53]; exact (mul_ne w12 (mul_ne w12 (by decide)))
  have n71 : z71 ≠ 0 := by rw [e71]; exact (mul_ne w12 w12)
  have h67 : z67 * z53 = z65 := by rw [e67]; exact Rat.div_mul_cancel n53
  rw [f53] at h67
  obtain ⟨m67, hm67⟩ : ∃ m, m = z65 := ⟨_, rfl⟩
  have d67 : z67 * (z12 * (z12 * 8)) = m67 := by
    have q : z67 * (z12 * (z12 * 8)) = z67 * (z12 * (z12 * 8)) := by grind
    rw [q, h67, hm67]
  clear h67 e67
  have h68 : z68 * z53 = z66 := by rw [e68]; exact Rat.div_mul_cancel n53
  rw [f53] at h68
  obtain ⟨m68, hm68⟩ : ∃ m, m = z66 := ⟨_, rfl⟩
  have d68 : z68 * (z12 * (z12 * 8)) = m68 := by
    have q : z68 * (z12 * (z12 * 8)) = z68 * (z12 * (z12 * 8)) := by grind
    rw [q, h68, hm68]
  clear h68 e68
  have h72 : z72 * z71 = z70 := by rw [e72]; exact Rat.div_mul_cancel n71
  rw [e71] at h72
  obtain ⟨m72, hm72⟩ : ∃ m, m = z70 := ⟨_, rfl⟩
  have d72 : z72 * (z12 * z12) = m72 := by
    have q : z72 * (z12 * z12) = z72 * (z12 * z12) := by grind
    rw [q, h72, hm72]
  clear h72 e72
  have h73 : z73 * z14 = z72 := by rw [e73]; exact Rat.div_mul_cancel (by rw [e14]; decide)
  obtain ⟨m73, hm73⟩ : ∃ m, m = m72 := ⟨_, rfl⟩
  have d73 : z73 * (z12 * (z12 * z14)) = m73 := by
    have q : z73 * (z12 * (z12 * z14)) = (z73 * z14) * (z12 * z12) := by grind
    rw [q, h73, d72, hm73]
  clear h73 e73
  obtain ⟨m79, hm79⟩ : ∃ m, m = z77 * (z12 * (z12 * 8)) - m67 * 1 := ⟨_, rfl⟩
  have d79 : z79 * (z12 * (z12 * 8)) = m79 := by
    have q : z79 * (z12 * (z12 * 8)) = z77 * (z12 * (z12 * 8)) - (z67 * (z12 * (z12 * 8))) * 1 := by rw [e79]; grind
    rw [q, d67, hm79]
  clear e79
  obtain ⟨m80, hm80⟩ : ∃ m, m = z78 * (z12 * (z12 * 8)) - m68 * 1 := ⟨_, rfl⟩
  have d80 : z80 * (z12 * (z12 * 8)) = m80 := by
    have q : z80 * (z12 * (z12 * 8)) = z78 * (z12 * (z12 * 8)) - (z68 * (z12 * (z12 * 8))) * 1 := by rw [e80]; grind
    rw [q, d68, hm80]
  clear e80
  obtain ⟨m81, hm81⟩ : ∃ m, m = m79 * m79 := ⟨_, rfl⟩
  have d81 : z81 * (z12 * (z12 * (z12 * (z12 * (8 * 8))))) = m81 := by
    have q : z81 * (z12 * (z12 * (z12 * (z12 * (8 * 8))))) = (z79 * (z12 * (z12 * 8))) * (z79 * (z12 * (z12 * 8))) := by rw [e81]; grind
    rw [q, d79, hm81]
  clear e81
  obtain ⟨m82, hm82⟩ : ∃ m, m = m80 * m80 := ⟨_, rfl⟩
  have d82 : z82 * (z12 * (z12 * (z12 * (z12 * (8 * 8))))) = m82 := by
    have q : z82 * (z12 * (z12 * (z12 * (z12 * (8 * 8))))) = (z80 * (z12 * (z12 * 8))) * (z80 * (z12 * (z12 * 8))) := by rw [e82]; grind
    rw [q, d80, hm82]
  clear e82
  obtain ⟨m83, hm83⟩ : ∃ m, m = m81 * 1 + m82 * 1 := ⟨_, rfl⟩
  have d83 : z83 * (z12 * (z12 * (z12 * (z12 * (8 * 8))))) = m83 := by
    have q : z83 * (z12 * (z12 * (z12 * (z12 * (8 * 8))))) = (z81 * (z12 * (z12 * (z12 * (z12 * (8 * 8)))))) * 1 + (z82 * (z12 * (z12 * (z12 * (z12 * (8 * 8)))))) * 1 := by rw [e83]; grind
    rw [q, d81, d82, hm83]
  clear e83
  obtain ⟨m84, hm84⟩ : ∃ m, m = m83 * z14 - m73 * (z12 * (z12 * (8 * 8))) := ⟨_, rfl⟩
  have d84 : z84 * (z12 * (z12 * (z12 * (z12 * (z14 * (8 * 8)))))) = m84 := by
    have q : z84 * (z12 * (z12 * (z12 * (z12 * (z14 * (8 * 8)))))) = (z83 * (z12 * (z12 * (z12 * (z12 * (8 * 8)))))) * z14 - (z73 * (z12 * (z12 * z14))) * (z12 * (z12 * (8 * 8))) := by rw [e84]; grind
    rw [q, d83, d73, hm84]
  clear e84
  have hpoly : m84 = 0 := by
    clear d67 d68 d72 d73 d79 d80 d81 d82 d83 d84
    have c2 : z2 = z6 + z0 := by rw [e6]; grind
    clear e6
    subst c2
    have c4 : z4 = z8 + z0 := by rw [e8]; grind
    clear e8
    subst c4
    have c3 : z3 = z7 + z1 := by rw [e7]; grind
    clear e7
    subst c3
    have c5 : z5 = z9 + z1 := by rw [e9]; grind
    clear e9
    subst c5
    subst_vars; grind
  have hgoal : z84 = 0 := (Rat.mul_eq_zero.1 (d84.trans hpoly)).resolve_right (mul_ne w12 (mul_ne w12 (mul_ne w12 (mul_ne w12 (mul_ne w14 (mul_ne (by decide) (by decide)))))))
  exact hgoal
theorem triangleCircle1_f2 (z0 z1 z2 z3 z4 z5 z6 z7 z8 z9 z10 z11 z12 z14 z15 z16 z17 z18 z19 z20 z21 z22 z23 z24 z25 z26 z27 z28 z29 z30 z31 z32 z33 z34 z35 z36 z37 z38 z39 z40 z41 z42 z43 z44 z45 z46 z47 z48 z49 z50 z51 z52 z53 z54 z55 z56 z57 z58 z59 z60 z61 z62 z63 z64 z65 z66 z67 z68 z69 z70 z71 z72 z73 z74 z85 z86 z87 z88 z89 z90 z91 z92 z93 z94 : Rat) : z6 = z2 - z0 → z7 = z3 - z1 → z8 = z4 - z0 → z9 = z5 - z1 → z10 = z6 * z9 → z11 = z7 * z8 → z12 = z10 - z11 → z14 = 16 → z15 = z4 - z2 → z16 = z5 - z3 → z17 = z15 * z15 → z18 = z16 * z16 → z19 = z17 + z18 → z20 = z0 - z4 → z21 = z1 - z5 → z22 = z20 * z20 → z23 = z21 * z21 → z24 = z22 + z23 → z25 = z6 * z6 → z26 = z7 * z7 → z27 = z25 + z26 → z28 = -z19 → z29 = z24 + z27 → z30 = z29 + z28 → z31 = z19 * z30 → z32 = -z27 → z33 = z19 + z24 → z34 = z33 + z32 → z35 = -z24 → z36 = z19 + z27 → z37 = z36 + z35 → z38 = z34 * z37 → z39 = z31 + z38 → z40 = z27 + z19 → z41 = z40 + z35 → z42 = z24 * z41 → z43 = z24 + z19 → z44 = z43 + z32 → z45 = z30 * z44 → z46 = z42 + z45 → z47 = z27 * z34 → z48 = z27 + z24 → z49 = z48 + z28 → z50 = z41 * z49 → z51 = z47 + z50 → z52 = z39 + z46 → z53 = z52 + z51 → z54 = z0 * z39 → z55 = z1 * z39 → z56 = 0 → z57 = z56 + z54 → z58 = z56 + z55 → z59 = z2 * z46 → z60 = z3 * z46 → z61 = z57 + z59 → z62 = z58 + z60 → z63 = z4 * z51 → z64 = z5 * z51 → z65 = z61 + z63 → z66 = z62 + z64 → z67 = z65 / z53 → z68 = z66 / z53 → z69 = z19 * z24 → z70 = z69 * z27 → z71 = z12 * z12 → z72 = z70 / z71 → z73 = z72 / z14 → z74 = (1 / 2) → z85 = z20 * z74 → z86 = z21 * z74 → z87 = z4 + z85 → z88 = z5 + z86 → z89 = z87 - z67 → z90 = z88 - z68 → z91 = z89 * z89 → z92 = z90 * z90 → z93 = z91 + z92 → z94 = z93 - z73 → (¬ (z12 = 0)) → z94 = 0 := by
  intro e6 e7 e8 e9 e10 e11 e12 e14 e15 e16 e17 e18 e19 e20 e21 e22 e23 e24 e25 e26 e27 e28 e29 e30 e31 e32 e33 e34 e35 e36 e37 e38 e39 e40 e41 e42 e43 e44 e45 e46 e47 e48 e49 e50 e51 e52 e53 e54 e55 e56 e57 e58 e59 e60 e61 e62 e63 e64 e65 e66 e67 e68 e69 e70 e71 e72 e73 e74 e85 e86 e87 e88 e89 e90 e91 e92 e93 e94 u0
  have f53 : z53 = (z12 * (z12 * 8)) := by
    have c2 : z2 = z6 + z0 := by rw [e6]; grind
    clear e6
    subst c2
    have c4 : z4 = z8 + z0 := by rw [e8]; grind
    clear e8
    subst c4
    have c3 : z3 = z7 + z1 := by rw [e7]; grind
    clear e7
    subst c3
    have c5 : z5 = z9 + z1 := by rw [e9]; grind
    clear e9
    subst c5
    subst_vars; grind
  have w14 : z14 ≠ 0 := by rw [e14]; decide
  have w12 : z12 ≠ 0 := by first | assumption | grind
  have n53 : z53 ≠ 0 := by rw [f53]; exact (mul_ne w12 (mul_ne w12 (by decide)))
  have n71 : z71 ≠ 0 := by rw [e71]; exact (mul_ne w12 w12)
  have h67 : z67 * z53 = z65 := by rw [e67]; exact Rat.div_mul_cancel n53
  rw [f53] at h67
  obtain ⟨m67, hm67⟩ : ∃ m, m = z65 := ⟨_, rfl⟩
  have d67 : z67 * (z12 * (z12 * 8)) = m67 := by
    have q : z67 * (z12 * (z12 * 8)) = z67 * (z12 * (z12 * 8)) := by grind
    rw [q, h67, hm67]
  clear h67 e67
  have h68 : z68 * z53 = z66 := by rw [e68]; exact Rat.div_mul_cancel n53
  rw [f53] at h68
  obtain ⟨m68, hm68⟩ : ∃ m, m = z66 := ⟨_, rfl⟩
  have d68 : z68 * (z12 * (z12 * 8)) = m68 := by
    have q : z68 * (z12 * (z12 * 8)) = z68 * (z12 * (z12 * 8)) := by grind
    rw [q, h68, hm68]
  clear h68 e68
  have h72 : z72 * z71 = z70 := by rw [e72]; exact Rat.div_mul_cancel n71
  rw [e71] at h72
  obtain ⟨m72, hm72⟩ : ∃ m, m = z70 := ⟨_, rfl⟩
  have d72 : z72 * (z12 * z12) = m72 := by
    have q : z72 * (z12 * z12) = z72 * (z12 * z12) := by grind
    rw [q, h72, hm72]
  clear h72 e72
  have h73 : z73 * z14 = z72 := by rw [e73]; exact Rat.div_mul_cancel (by rw [e14]; decide)
  obtain ⟨m73, hm73⟩ : ∃ m, m = m72 := ⟨_, rfl⟩
  have d73 : z73 * (z12 * (z12 * z14)) = m73 := by
    have q : z73 * (z12 * (z12 * z14)) = (z73 * z14) * (z12 * z12) := by grind
    rw [q, h73, d72, hm73]
  clear h73 e73
  obtain ⟨m89, hm89⟩ : ∃ m, m = z87 * (z12 * (z12 * 8)) - m67 * 1 := ⟨_, rfl⟩
  have d89 : z89 * (z12 * (z12 * 8)) = m89 := by
    have q : z89 * (z12 * (z12 * 8)) = z87 * (z12 * (z12 * 8)) - (z67 * (z12 * (z12 * 8))) * 1 := by rw [e89]; grind
    rw [q, d67, hm89]
  clear e89
  obtain ⟨m90, hm90⟩ : ∃ m, m = z88 * (z12 * (z12 * 8)) - m68 * 1 := ⟨_, rfl⟩
  have d90 : z90 * (z12 * (z12 * 8)) = m90 := by
    have q : z90 * (z12 * (z12 * 8)) = z88 * (z12 * (z12 * 8)) - (z68 * (z12 * (z12 * 8))) * 1 := by rw [e90]; grind
    rw [q, d68, hm90]
  clear e90
  obtain ⟨m91, hm91⟩ : ∃ m, m = m89 * m89 := ⟨_, rfl⟩
  have d91 : z91 * (z12 * (z12 * (z12 * (z12 * (8 * 8))))) = m91 := by
    have q : z91 * (z12 * (z12 * (z12 * (z12 * (8 * 8))))) = (z89 * (z12 * (z12 * 8))) * (z89 * (z12 * (z12 * 8))) := by rw [e91]; grind
    rw [q, d89, hm91]
  clear e91
  obtain ⟨m92, hm92⟩ : ∃ m, m = m90 * m90 := ⟨_, rfl⟩
  have d92 : z92 * (z12 * (z12 * (z12 * (z12 * (8 * 8))))) = m92 := by
    have q : z92 * (z12 * (z12 * (z12 * (z12 * (8 * 8))))) = (z90 * (z12 * (z12 * 8))) * (z90 * (z12 * (z12 * 8))) := by rw [e92]; grind
    rw [q, d90, hm92]
  clear e92
  obtain ⟨m93, hm93⟩ : ∃ m, m = m91 * 1 + m92 * 1 := ⟨_, rfl⟩
  have d93 : z93 * (z12 * (z12 * (z12 * (z12 * (8 * 8))))) = m93 := by
    have q : z93 * (z12 * (z12 * (z12 * (z12 * (8 * 8))))) = (z91 * (z12 * (z12 * (z12 * (z12 * (8 * 8)))))) * 1 + (z92 * (z12 * (z12 * (z12 * (z12 * (8 * 8)))))) * 1 := by rw [e93]; grind
    rw [q, d91, d92, hm93]
  clear e93
  obtain ⟨m94, hm94⟩ : ∃ m, m = m93 * z14 - m73 * (z12 * (z12 * (8 * 8))) := ⟨_, rfl⟩
  have d94 : z94 * (z12 * (z12 * (z12 * (z12 * (z14 * (8 * 8)))))) = m94 := by
    have q : z94 * (z12 * (z12 * (z12 * (z12 * (z14 * (8 * 8)))))) = (z93 * (z12 * (z12 * (z12 * (z12 * (8 * 8)))))) * z14 - (z73 * (z12 * (z12 * z14))) * (z12 * (z12 * (8 * 8))) := by rw [e94]; grind
    rw [q, d93, d73, hm94]
  clear e94
  have hpoly : m94 = 0 := by
    clear d67 d68 d72 d73 d89 d90 d91 d92 d93 d94
    have c2 : z2 = z6 + z0 := by rw [e6]; grind
    clear e6
    subst c2
    have c4 : z4 = z8 + z0 := by rw [e8]; grind
    clear e8
    subst c4
    have c3 : z3 = z7 + z1 := by rw [e7]; grind
    clear e7
    subst c3
    have c5 : z5 = z9 + z1 := by rw [e9]; grind
    clear e9
    subst c5
    subst_vars; grind
  have hgoal : z94 = 0 := (Rat.mul_eq_zero.1 (d94.trans hpoly)).resolve_right (mul_ne w12 (mul_ne w12 (mul_ne w12 (mul_ne w12 (mul_ne w14 (mul_ne (by decide) (by decide)))))))
  exact hgoal
theorem triangleCircle1_f3 (z0 z1 z2 z3 z4 z5 z6 z7 z8 z9 z10 z11 z12 z14 z15 z16 z17 z18 z19 z20 z21 z22 z23 z24 z25 z26 z27 z28 z29 z30 z31 z32 z33 z34 z35 z36 z37 z38 z39 z40 z41 z42 z43 z44 z45 z46 z47 z48 z49 z50 z51 z52 z53 z54 z55 z56 z57 z58 z59 z60 z61 z62 z63 z64 z65 z66 z67 z68 z69 z70 z71 z72 z73 z74 z95 z96 z97 z98 z99 z100 z101 z102 z103 z104 : Rat) : z6 = z2 - z0 → z7 = z3 - z1 → z8 = z4 - z0 → z9 = z5 - z1 → z10 = z6 * z9 → z11 = z7 * z8 → z12 = z10 - z11 → z14 = 16 → z15 = z4 - z2 → z16 = z5 - z3 → z17 = z15 * z15 → z18 = z16 * z16 → z19 = z17 + z18 → z20 = z0 - z4 → z21 = z1 - z5 → z22 = z20 * z20 → z23 = z21 * z21 → z24 = z22 + z23 → z25 = z6 * z6 → z26 = z7 * z7 → z27 = z25 + z26 → z28 = -z19 → z29 = z24 + z27 → z30 = z29 + z28 → z31 = z19 * z30 → z32 = -z27 → z33 = z19 + z24 → z34 = z33 + z32 → z35 = -z24 → z36 = z19 + z27 → z37 = z36 + z35 → z38 = z34 * z37 → z39 = z31 + z38 → z40 = z27 + z19 → z41 = z40 + z35 → z42 = z24 * z41 → z43 = z24 + z19 → z44 = z43 + z32 → z45 = z30 * z44 → z46 = z42 + z45 → z47 = z27 * z34 → z48 = z27 + z24 → z49 = z48 + z28 → z50 = z41 * z49 → z51 = z47 + z50 → z52 = z39 + z46 → z53 = z52 + z51 → z54 = z0 * z39 → z55 = z1 * z39 → z56 = 0 → z57 = z56 + z54 → z58 = z56 + z55 → z59 = z2 * z46 → z60 = z3 * z46 → z61 = z57 + z59 → z62 = z58 + z60 → z63 = z4 * z51 → z64 = z5 * z51 → z65 = z61 + z63 → z66 = z62 + z64 → z67 = z65 / z53 → z68 = z66 / z53 → z69 = z19 * z24 → z70 = z69 * z27 → z71 = z12 * z12 → z72 = z70 / z71 → z73 = z72 / z14 → z74 = (1 / 2) → z95 = z6 * z74 → z96 = z7 * z74 → z97 = z0 + z95 → z98 = z1 + z96 → z99 = z97 - z67 → z100 = z98 - z68 → z101 = z99 * z99 → z102 = z100 * z100 → z103 = z101 + z102 → z104 = z103 - z73 → (¬ (z12 = 0)) → z104 = 0 := by
  intro e6 e7 e8 e9 e10 e11 e12 e14 e15 e16 e17 e18 e19 e20 e21 e22 e23 e24 e25 e26 e27 e28 e29 e30 e31 e32 e33 e34 e35 e36 e37 e38 e39 e40 e41 e42 e43 e44 e45 e46 e47 e48 e49 e50 e51 e52 e53 e54 e55 e56 e57 e58 e59 e60 e61 e62 e63 e64 e65 e66 e67 e68 e69 e70 e71 e72 e73 e74 e95 e96 e97 e98 e99 e100 e101 e102 e103 e104 u0
  have f53 : z53 = (z12 * (z12 * 8)) := by
    have c2 : z2 = z6 + z0 := by rw [e6]; grind
    clear e6
    subst c2
    have c4 : z4 = z8 + z0 := by rw [e8]; grind
    clear e8
    subst c4
    have c3 : z3 = z7 + z1 := by rw [e7]; grind
    clear e7
    subst c3
    have c5 : z5 = z9 + z1 := by rw [e9]; grind
    clear e9
    subst c5
    subst_vars; grind
  have w14 : z14 ≠ 0 := by rw [e14]; decide
  have w12 : z12 ≠ 0 := by first | assumption | grind
  have n53 : z53 ≠ 0 := by rw [f53]; exact (mul_ne w12 (mul_ne w12 (by decide)))
  have n71 : z71 ≠ 0 := by rw [e71]; exact (mul_ne w12 w12)
  have h67 : z67 * z53 = z65 := by rw [e67]; exact Rat.div_mul_cancel n53
  rw [f53] at h67
  obtain ⟨m67, hm67⟩ : ∃ m, m = z65 := ⟨_, rfl⟩
  have d67 : z67 * (z12 * (z12 * 8)) = m67 := by
    have q : z67 * (z12 * (z12 * 8)) = z67 * (z12 * (z12 * 8)) := by grind
    rw [q, h67, hm67]
  clear h67 e67
  have h68 : z68 * z53 = z66 := by rw [e68]; exact Rat.div_mul_cancel n53
  rw [f53] at h68
  obtain ⟨m68, hm68⟩ : ∃ m, m = z66 := ⟨_, rfl⟩
  have d68 : z68 * (z12 * (z12 * 8)) = m68 := by
    have q : z68 * (z12 * (z12 * 8)) = z68 * (z12 * (z12 * 8)) := by grind
    rw [q, h68, hm68]
  clear h68 e68
  have h72 : z72 * z71 = z70 := by rw [e72]; exact Rat.div_mul_cancel n71
  rw [e71] at h72
  obtain ⟨m72, hm72⟩ : ∃ m, m = z70 := ⟨_, rfl⟩
  have d72 : z72 * (z12 * z12) = m72 := by
    have q : z72 * (z12 * z12) = z72 * (z12 * z12) := by grind
    rw [q, h72, hm72]
  clear h72 e72
  have h73 : z73 * z14 = z72 := by rw [e73]; exact Rat.div_mul_cancel (by rw [e14]; decide)
  obtain ⟨m73, hm73⟩ : ∃ m, m = m72 := ⟨_, rfl⟩
  have d73 : z73 * (z12 * (z12 * z14)) = m73 := by
    have q : z73 * (z12 * (z12 * z14)) = (z73 * z14) * (z12 * z12) := by grind
    rw [q, h73, d72, hm73]
  clear h73 e73
  obtain ⟨m99, hm99⟩ : ∃ m, m = z97 * (z12 * (z12 * 8)) - m67 * 1 := ⟨_, rfl⟩
  have d99 : z99 * (z12 * (z12 * 8)) = m99 := by
    have q : z99 * (z12 * (z12 * 8)) = z97 * (z12 * (z12 * 8)) - (z67 * (z12 * (z12 * 8))) * 1 := by rw [e99]; grind
    rw [q, d67, hm99]
  clear e99
  obtain ⟨m100, hm100⟩ : ∃ m, m = z98 * (z12 * (z12 * 8)) - m68 * 1 := ⟨_, rfl⟩
  have d100 : z100 * (z12 * (z12 * 8)) = m100 := by
    have q : z100 * (z12 * (z12 * 8)) = z98 * (z12 * (z12 * 8)) - (z68 * (z12 * (z12 * 8))) * 1 := by rw [e100]; grind
    rw [q, d68, hm100]
  clear e100
  obtain ⟨m101, hm101⟩ : ∃ m, m = m99 * m99 := ⟨_, rfl⟩
  have d101 : z101 * (z12 * (z12 * (z12 * (z12 * (8 * 8))))) = m101 := by
    have q : z101 * (z12 * (z12 * (z12 * (z12 * (8 * 8))))) = (z99 * (z12 * (z12 * 8))) * (z99 * (z12 * (z12 * 8))) := by rw [e101]; grind
    rw [q, d99, hm101]
  clear e101
  obtain ⟨m102, hm102⟩ : ∃ m, m = m100 * m100 := ⟨_, rfl⟩
  have d102 : z102 * (z12 * (z12 * (z12 * (z12 * (8 * 8))))) = m102 := by
    have q : z102 * (z12 * (z12 * (z12 * (z12 * (8 * 8))))) = (z100 * (z12 * (z12 * 8))) * (z100 * (z12 * (z12 * 8))) := by rw [e102]; grind
    rw [q, d100, hm102]
  clear e102
  obtain ⟨m103, hm103⟩ : ∃ m, m = m101 * 1 + m102 * 1 := ⟨_, rfl⟩
  have d103 : z103 * (z12 * (z12 * (z12 * (z12 * (8 * 8))))) = m103 := by
    have q : z103 * (z12 * (z12 * (z12 * (z12 * (8 * 8))))) = (z101 * (z12 * (z12 * (z12 * (z12 * (8 * 8)))))) * 1 + (z102 * (z12 * (z12 * (z12 * (z12 * (8 * 8)))))) * 1 := by rw [e103]; grind
    rw [q, d101, d102, hm103]
  clear e103
  obtain ⟨m104, hm104⟩ : ∃ m, m = m103 * z14 - m73 * (z12 * (z12 * (8 * 8))) := ⟨_, rfl⟩
  have d104 : z104 * (z12 * (z12 * (z12 * (z12 * (z14 * (8 * 8)))))) = m104 := by
    have q : z104 * (z12 * (z12 * (z12 * (z12 * (z14 * (8 * 8)))))) = (z103 * (z12 * (z12 * (z12 * (z12 * (8 * 8)))))) * z14 - (z73 * (z12 * (z12 * z14))) * (z12 * (z12 * (8 * 8))) := by rw [e104]; grind
    rw [q, d103, d73, hm104]
  clear e104
  have hpoly : m104 = 0 := by
    clear d67 d68 d72 d73 d99 d100 d101 d102 d103 d104
    have c2 : z2 = z6 + z0 := by rw [e6]; grind
    clear e6
    subst c2
    have c4 : z4 = z8 + z0 := by rw [e8]; grind
    clear e8
    subst c4
    have c3 : z3 = z7 + z1 := by rw [e7]; grind
    clear e7
    subst c3
    have c5 : z5 = z9 + z1 := by rw [e9]; grind
    clear e9
    subst c5
    subst_vars; grind
  have hgoal : z104 = 0 := (Rat.mul_eq_zero.1 (d104.trans hpoly)).resolve_right (mul_ne w12 (mul_ne w12 (mul_ne w12 (mul_ne w12 (mul_ne w14 (mul_ne (by decide) (by decide)))))))
  exact hgoal
theorem triangleCircle1_r0 : (callB (sx Tryz.prog triangleCircle1_N [(0, 12, 0, 1)] [(110, [])] triangleCircle1_L triangleCircle1_C triangleCircle1_Z (prC [25])) 7 8 [(false, [(true, [.inr (2, 0, 0, 0, 0), .inr (2, 1, 0, 0, 0), .inr (2, 2, 0, 0, 0), .inr (2, 3, 0, 0, 0), .inr (2, 4, 0, 0, 0), .inr (2, 5, 0, 0, 0)])]), (false, [(false, [.inl (.bool true)])])] [] 0).map (·.1) = some (kB true) := by kernel_rfl
theorem triangleCircle1_r1 : (callB (sx Tryz.prog triangleCircle1_N [(0, 12, 0, 0), (0, 53, 0, 0), (0, 84, 0, 1), (0, 94, 0, 1), (0, 104, 0, 1)] [(110, []), (274, []), (275, []), (277, [.inr (3, 33, 0, 0, 0), .inr (3, 34, 0, 0, 0)]), (184, [])] triangleCircle1_L triangleCircle1_C triangleCircle1_Z (prC [25])) 8 8 [(false, [(true, [.inr (2, 0, 0, 0, 0), .inr (2, 1, 0, 0, 0), .inr (2, 2, 0, 0, 0), .inr (2, 3, 0, 0, 0), .inr (2, 4, 0, 0, 0), .inr (2, 5, 0, 0, 0)])]), (false, [(false, [.inl (.bool true)])])] [] 0).map (·.1) = some (kB true) := by kernel_rfl
theorem triangleCircle1_walk {w : World} {tax taz tbx tbz tcx tcz : ByteArray} (stax : tax.size ≤ 1048576) (staz : taz.size ≤ 1048576) (stbx : tbx.size ≤ 1048576) (stbz : tbz.size ≤ 1048576) (stcx : tcx.size ≤ 1048576) (stcz : tcz.size ≤ 1048576) (tab : Tab w) (mx : MaxL w) :
    Calls Tryz.prog 8 #[.agg #[.string tax, .string taz, .string tbx, .string tbz, .string tcx, .string tcz], .bool true] w fun e w' => Below w.heap.size w w' ∧ e = .returned (.bool true) := by
  have hσ : ∀ j, (sgOf [tax, taz, tbx, tbz, tcx, tcz] j).size ≤ 1048576 := sgOf_size (by simp [stax, staz, stbx, stbz, stcx, stcz])
  have hcl : ∀ f ∈ ([25] : List FuncId), Closed f := by simp [closed_cornered]
  obtain ⟨q, hq, h0⟩ := nodes_exist (sgOf [tax, taz, tbx, tbz, tcx, tcz]) triangleCircle1_N triangleCircle1_wf
  have hA : ∀ K, A2 (avOn (cOn (evS q (sgOf [tax, taz, tbx, tbz, tcx, tcz])) K (fun _ => none) w)) [(false, [(true, [.inr (2, 0, 0, 0, 0), .inr (2, 1, 0, 0, 0), .inr (2, 2, 0, 0, 0), .inr (2, 3, 0, 0, 0), .inr (2, 4, 0, 0, 0), .inr (2, 5, 0, 0, 0)])]), (false, [(false, [.inl (.bool true)])])] [.agg #[.string tax, .string taz, .string tbx, .string tbz, .string tcx, .string tcz], .bool true] := fun K => ⟨⟨⟨[.string tax, .string taz, .string tbx, .string tbz, .string tcx, .string tcz], rfl, rfl, rfl, rfl, rfl, rfl, rfl, trivial⟩, trivial⟩, ⟨⟨⟨rfl, rfl⟩, trivial⟩, trivial⟩, trivial⟩
  by_cases a_0_12_0 : q 12 = 0
  ·
    exact run_told' 7 (hy_of (H := [(0, 12, 0, 1)]) hσ triangleCircle1_wf triangleCircle1_sz triangleCircle1_lt triangleCircle1_cn hq h0 (And.intro (hT a_0_12_0) trivial)) hcl (by kernel_rfl) triangleCircle1_r0 ⟨tab, mx⟩ (hA _)
  ·
    have a_0_53_0 : ¬ (q 53 = 0) := triangleCircle1_f0 (q 0) (q 1) (q 2) (q 3) (q 4) (q 5) (q 6) (q 7) (q 8) (q 9) (q 10) (q 11) (q 12) (q 15) (q 16) (q 17) (q 18) (q 19) (q 20) (q 21) (q 22) (q 23) (q 24) (q 25) (q 26) (q 27) (q 28) (q 29) (q 30) (q 31) (q 32) (q 33) (q 34) (q 35) (q 36) (q 37) (q 38) (q 39) (q 40) (q 41) (q 42) (q 43) (q 44) (q 45) (q 46) (q 47) (q 48) (q 49) (q 50) (q 51) (q 52) (q 53) (hq 6 _ rfl) (hq 7 _ rfl) (hq 8 _ rfl) (hq 9 _ rfl) (hq 10 _ rfl) (hq 11 _ rfl) (hq 12 _ rfl) (hq 15 _ rfl) (hq 16 _ rfl) (hq 17 _ rfl) (hq 18 _ rfl) (hq 19 _ rfl) (hq 20 _ rfl) (hq 21 _ rfl) (hq 22 _ rfl) (hq 23 _ rfl) (hq 24 _ rfl) (hq 25 _ rfl) (hq 26 _ rfl) (hq 27 _ rfl) (hq 28 _ rfl) (hq 29 _ rfl) (hq 30 _ rfl) (hq 31 _ rfl) (hq 32 _ rfl) (hq 33 _ rfl) (hq 34 _ rfl) (hq 35 _ rfl) (hq 36 _ rfl) (hq 37 _ rfl) (hq 38 _ rfl) (hq 39 _ rfl) (hq 40 _ rfl) (hq 41 _ rfl) (hq 42 _ rfl) (hq 43 _ rfl) (hq 44 _ rfl) (hq 45 _ rfl) (hq 46 _ rfl) (hq 47 _ rfl) (hq 48 _ rfl) (hq 49 _ rfl) (hq 50 _ rfl) (hq 51 _ rfl) (hq 52 _ rfl) (hq 53 _ rfl) a_0_12_0
    have a_0_84_0 : q 84 = 0 := triangleCircle1_f1 (q 0) (q 1) (q 2) (q 3) (q 4) (q 5) (q 6) (q 7) (q 8) (q 9) (q 10) (q 11) (q 12) (q 14) (q 15) (q 16) (q 17) (q 18) (q 19) (q 20) (q 21) (q 22) (q 23) (q 24) (q 25) (q 26) (q 27) (q 28) (q 29) (q 30) (q 31) (q 32) (q 33) (q 34) (q 35) (q 36) (q 37) (q 38) (q 39) (q 40) (q 41) (q 42) (q 43) (q 44) (q 45) (q 46) (q 47) (q 48) (q 49) (q 50) (q 51) (q 52) (q 53) (q 54) (q 55) (q 56) (q 57) (q 58) (q 59) (q 60) (q 61) (q 62) (q 63) (q 64) (q 65) (q 66) (q 67) (q 68) (q 69) (q 70) (q 71) (q 72) (q 73) (q 74) (q 75) (q 76) (q 77) (q 78) (q 79) (q 80) (q 81) (q 82) (q 83) (q 84) (hq 6 _ rfl) (hq 7 _ rfl) (hq 8 _ rfl) (hq 9 _ rfl) (hq 10 _ rfl) (hq 11 _ rfl) (hq 12 _ rfl) ((hq 14 _ rfl).trans triangleCircle1_c14) (hq 15 _ rfl) (hq 16 _ rfl) (hq 17 _ rfl) (hq 18 _ rfl) (hq 19 _ rfl) (hq 20 _ rfl) (hq 21 _ rfl) (hq 22 _ rfl) (hq 23 _ rfl) (hq 24 _ rfl) (hq 25 _ rfl) (hq 26 _ rfl) (hq 27 _ rfl) (hq 28 _ rfl) (hq 29 _ rfl) (hq 30 _ rfl) (hq 31 _ rfl) (hq 32 _ rfl) (hq 33 _ rfl) (hq 34 _ rfl) (hq 35 _ rfl) (hq 36 _ rfl) (hq 37 _ rfl) (hq 38 _ rfl) (hq 39 _ rfl) (hq 40 _ rfl) (hq 41 _ rfl) (hq 42 _ rfl) (hq 43 _ rfl) (hq 44 _ rfl) (hq 45 _ rfl) (hq 46 _ rfl) (hq 47 _ rfl) (hq 48 _ rfl) (hq 49 _ rfl) (hq 50 _ rfl) (hq 51 _ rfl) (hq 52 _ rfl) (hq 53 _ rfl) (hq 54 _ rfl) (hq 55 _ rfl) ((hq 56 _ rfl).trans triangleCircle1_c56) (hq 57 _ rfl) (hq 58 _ rfl) (hq 59 _ rfl) (hq 60 _ rfl) (hq 61 _ rfl) (hq 62 _ rfl) (hq 63 _ rfl) (hq 64 _ rfl) (hq 65 _ rfl) (hq 66 _ rfl) (hq 67 _ rfl) (hq 68 _ rfl) (hq 69 _ rfl) (hq 70 _ rfl) (hq 71 _ rfl) (hq 72 _ rfl) (hq 73 _ rfl) ((hq 74 _ rfl).trans triangleCircle1_c74) (hq 75 _ rfl) (hq 76 _ rfl) (hq 77 _ rfl) (hq 78 _ rfl) (hq 79 _ rfl) (hq 80 _ rfl) (hq 81 _ rfl) (hq 82 _ rfl) (hq 83 _ rfl) (hq 84 _ rfl) a_0_12_0
    have a_0_94_0 : q 94 = 0 := triangleCircle1_f2 (q 0) (q 1) (q 2) (q 3) (q 4) (q 5) (q 6) (q 7) (q 8) (q 9) (q 10) (q 11) (q 12) (q 14) (q 15) (q 16) (q 17) (q 18) (q 19) (q 20) (q 21) (q 22) (q 23) (q 24) (q 25) (q 26) (q 27) (q 28) (q 29) (q 30) (q 31) (q 32) (q 33) (q 34) (q 35) (q 36) (q 37) (q 38) (q 39) (q 40) (q 41) (q 42) (q 43) (q 44) (q 45) (q 46) (q 47) (q 48) (q 49) (q 50) (q 51) (q 52) (q 53) (q 54) (q 55) (q 56) (q 57) (q 58) (q 59) (q 60) (q 61) (q 62) (q 63) (q 64) (q 65) (q 66) (q 67) (q 68) (q 69) (q 70) (q 71) (q 72) (q 73) (q 74) (q 85) (q 86) (q 87) (q 88) (q 89) (q 90) (q 91) (q 92) (q 93) (q 94) (hq 6 _ rfl) (hq 7 _ rfl) (hq 8 _ rfl) (hq 9 _ rfl) (hq 10 _ rfl) (hq 11 _ rfl) (hq 12 _ rfl) ((hq 14 _ rfl).trans triangleCircle1_c14) (hq 15 _ rfl) (hq 16 _ rfl) (hq 17 _ rfl) (hq 18 _ rfl) (hq 19 _ rfl) (hq 20 _ rfl) (hq 21 _ rfl) (hq 22 _ rfl) (hq 23 _ rfl) (hq 24 _ rfl) (hq 25 _ rfl) (hq 26 _ rfl) (hq 27 _ rfl) (hq 28 _ rfl) (hq 29 _ rfl) (hq 30 _ rfl) (hq 31 _ rfl) (hq 32 _ rfl) (hq 33 _ rfl) (hq 34 _ rfl) (hq 35 _ rfl) (hq 36 _ rfl) (hq 37 _ rfl) (hq 38 _ rfl) (hq 39 _ rfl) (hq 40 _ rfl) (hq 41 _ rfl) (hq 42 _ rfl) (hq 43 _ rfl) (hq 44 _ rfl) (hq 45 _ rfl) (hq 46 _ rfl) (hq 47 _ rfl) (hq 48 _ rfl) (hq 49 _ rfl) (hq 50 _ rfl) (hq 51 _ rfl) (hq 52 _ rfl) (hq 53 _ rfl) (hq 54 _ rfl) (hq 55 _ rfl) ((hq 56 _ rfl).trans triangleCircle1_c56) (hq 57 _ rfl) (hq 58 _ rfl) (hq 59 _ rfl) (hq 60 _ rfl) (hq 61 _ rfl) (hq 62 _ rfl) (hq 63 _ rfl) (hq 64 _ rfl) (hq 65 _ rfl) (hq 66 _ rfl) (hq 67 _ rfl) (hq 68 _ rfl) (hq 69 _ rfl) (hq 70 _ rfl) (hq 71 _ rfl) (hq 72 _ rfl) (hq 73 _ rfl) ((hq 74 _ rfl).trans triangleCircle1_c74) (hq 85 _ rfl) (hq 86 _ rfl) (hq 87 _ rfl) (hq 88 _ rfl) (hq 89 _ rfl) (hq 90 _ rfl) (hq 91 _ rfl) (hq 92 _ rfl) (hq 93 _ rfl) (hq 94 _ rfl) a_0_12_0
    have a_0_104_0 : q 104 = 0 := triangleCircle1_f3 (q 0) (q 1) (q 2) (q 3) (q 4) (q 5) (q 6) (q 7) (q 8) (q 9) (q 10) (q 11) (q 12) (q 14) (q 15) (q 16) (q 17) (q 18) (q 19) (q 20) (q 21) (q 22) (q 23) (q 24) (q 25) (q 26) (q 27) (q 28) (q 29) (q 30) (q 31) (q 32) (q 33) (q 34) (q 35) (q 36) (q 37) (q 38) (q 39) (q 40) (q 41) (q 42) (q 43) (q 44) (q 45) (q 46) (q 47) (q 48) (q 49) (q 50) (q 51) (q 52) (q 53) (q 54) (q 55) (q 56) (q 57) (q 58) (q 59) (q 60) (q 61) (q 62) (q 63) (q 64) (q 65) (q 66) (q 67) (q 68) (q 69) (q 70) (q 71) (q 72) (q 73) (q 74) (q 95) (q 96) (q 97) (q 98) (q 99) (q 100) (q 101) (q 102) (q 103) (q 104) (hq 6 _ rfl) (hq 7 _ rfl) (hq 8 _ rfl) (hq 9 _ rfl) (hq 10 _ rfl) (hq 11 _ rfl) (hq 12 _ rfl) ((hq 14 _ rfl).trans triangleCircle1_c14) (hq 15 _ rfl) (hq 16 _ rfl) (hq 17 _ rfl) (hq 18 _ rfl) (hq 19 _ rfl) (hq 20 _ rfl) (hq 21 _ rfl) (hq 22 _ rfl) (hq 23 _ rfl) (hq 24 _ rfl) (hq 25 _ rfl) (hq 26 _ rfl) (hq 27 _ rfl) (hq 28 _ rfl) (hq 29 _ rfl) (hq 30 _ rfl) (hq 31 _ rfl) (hq 32 _ rfl) (hq 33 _ rfl) (hq 34 _ rfl) (hq 35 _ rfl) (hq 36 _ rfl) (hq 37 _ rfl) (hq 38 _ rfl) (hq 39 _ rfl) (hq 40 _ rfl) (hq 41 _ rfl) (hq 42 _ rfl) (hq 43 _ rfl) (hq 44 _ rfl) (hq 45 _ rfl) (hq 46 _ rfl) (hq 47 _ rfl) (hq 48 _ rfl) (hq 49 _ rfl) (hq 50 _ rfl) (hq 51 _ rfl) (hq 52 _ rfl) (hq 53 _ rfl) (hq 54 _ rfl) (hq 55 _ rfl) ((hq 56 _ rfl).trans triangleCircle1_c56) (hq 57 _ rfl) (hq 58 _ rfl) (hq 59 _ rfl) (hq 60 _ rfl) (hq 61 _ rfl) (hq 62 _ rfl) (hq 63 _ rfl) (hq 64 _ rfl) (hq 65 _ rfl) (hq 66 _ rfl) (hq 67 _ rfl) (hq 68 _ rfl) (hq 69 _ rfl) (hq 70 _ rfl) (hq 71 _ rfl) (hq 72 _ rfl) (hq 73 _ rfl) ((hq 74 _ rfl).trans triangleCircle1_c74) (hq 95 _ rfl) (hq 96 _ rfl) (hq 97 _ rfl) (hq 98 _ rfl) (hq 99 _ rfl) (hq 100 _ rfl) (hq 101 _ rfl) (hq 102 _ rfl) (hq 103 _ rfl) (hq 104 _ rfl) a_0_12_0
    exact run_told' 8 (hy_of (H := [(0, 12, 0, 0), (0, 53, 0, 0), (0, 84, 0, 1), (0, 94, 0, 1), (0, 104, 0, 1)]) hσ triangleCircle1_wf triangleCircle1_sz triangleCircle1_lt triangleCircle1_cn hq h0 (And.intro (hF a_0_12_0) (And.intro (hF a_0_53_0) (And.intro (hT a_0_84_0) (And.intro (hT a_0_94_0) (And.intro (hT a_0_104_0) trivial)))))) hcl (by kernel_rfl) triangleCircle1_r1 ⟨tab, mx⟩ (hA _)
end Go.Proofs.YtldhbbignahgeaaGreatDoor
