/- Part 13 of the walks and of the mathematics under them: MPP. -/
import Derived.Test.YtioacnhbiinjbaaGreatDoorA12
set_option maxHeartbeats 16000000
set_option maxRecDepth 100000
/- MPP -/
namespace Go.Proofs.YtioacnhbiinjbaaGreatDoor
open Go.RowKit Cx
def projectPlain_N : List Nd := [(1, [0]), (1, [1]), (1, [2]), (4, [0, 0]), (4, [1, 1]), (2, [3, 4]), (4, [2, 2]), (2, [5, 6]), (8, [0, 0, 1, 2]), (8, [1, 0, 1, 2]), (8, [2, 0, 1, 2]), (8, [0, 8, 9, 10]), (8, [1, 8, 9, 10]), (8, [2, 8, 9, 10]), (1, [3]), (1, [4]), (1, [5]), (4, [14, 14]), (4, [15, 15]), (2, [17, 18]), (4, [16, 16]), (2, [19, 20]), (4, [8, 8]), (4, [9, 9]), (2, [22, 23]), (4, [10, 10]), (2, [24, 25]), (4, [11, 11]), (4, [12, 12]), (2, [27, 28]), (4, [13, 13]), (2, [29, 30]), (4, [1, 11]), (4, [0, 12]), (3, [32, 33]), (4, [2, 11]), (4, [0, 13]), (3, [35, 36]), (4, [2, 12]), (4, [1, 13]), (3, [38, 39]), (4, [34, 34]), (4, [37, 37]), (2, [41, 42]), (4, [40, 40]), (2, [43, 44]), (8, [0, 14, 15, 16]), (8, [1, 14, 15, 16]), (8, [2, 14, 15, 16]), (4, [9, 48]), (4, [10, 47]), (3, [49, 50]), (4, [10, 46]), (4, [8, 48]), (3, [52, 53]), (4, [8, 47]), (4, [9, 46]), (3, [55, 56]), (4, [51, 51]), (4, [54, 54]), (2, [58, 59]), (4, [57, 57]), (2, [60, 61]), (4, [8, 46]), (0, [0, 0, 1]), (2, [64, 63]), (4, [9, 47]), (2, [65, 66]), (4, [10, 48]), (2, [67, 68]), (4, [0, 14]), (4, [1, 15]), (4, [2, 16]), (2, [70, 71]), (2, [73, 72]), (4, [1, 14]), (4, [0, 15]), (3, [75, 76]), (4, [2, 14]), (4, [0, 16]), (3, [78, 79]), (4, [2, 15]), (4, [1, 16]), (3, [81, 82]), (4, [77, 77]), (4, [80, 80]), (2, [84, 85]), (4, [83, 83]), (2, [86, 87]), (8, [0, 51, 54, 57]), (8, [1, 51, 54, 57]), (8, [2, 51, 54, 57]), (4, [89, 89]), (4, [90, 90]), (2, [92, 93]), (4, [91, 91]), (2, [94, 95]), (4, [89, 0]), (4, [90, 1]), (4, [91, 2]), (2, [97, 98]), (2, [100, 99]), (4, [89, 14]), (4, [90, 15]), (4, [91, 16]), (2, [102, 103]), (2, [105, 104])]
def projectPlain_L : List (List Nat × Nat) := []
def projectPlain_C : List (List Nat × Nat) := []
def projectPlain_Z : List Nat := [4194309, 4194309, 4194309, 8388618, 8388618, 16777237, 8388618, 25165856, 16777237, 16777237, 16777237, 67108949, 67108949, 67108949, 4194309, 4194309, 4194309, 8388618, 8388618, 16777237, 8388618, 25165856, 33554474, 33554474, 67108949, 33554474, 100663424, 134217898, 134217898, 268435797, 134217898, 402653696, 71303258, 71303258, 142606517, 71303258, 71303258, 142606517, 71303258, 71303258, 142606517, 285213034, 285213034, 570426069, 285213034, 855639104, 16777237, 16777237, 16777237, 33554474, 33554474, 67108949, 33554474, 33554474, 67108949, 33554474, 33554474, 67108949, 134217898, 134217898, 268435797, 134217898, 402653696, 33554474, 2, 33554477, 33554474, 67108952, 33554474, 100663427, 8388618, 8388618, 8388618, 16777237, 25165856, 8388618, 8388618, 16777237, 8388618, 8388618, 16777237, 8388618, 8388618, 16777237, 33554474, 33554474, 67108949, 33554474, 100663424, 268435797, 268435797, 268435797, 536871594, 536871594, 1073743189, 536871594, 1610614784, 272630106, 272630106, 272630106, 545260213, 817890320, 272630106, 272630106, 272630106, 545260213, 817890320]
theorem projectPlain_wf : wfB 0 projectPlain_N = true := by kernel_rfl
theorem projectPlain_sz : szB projectPlain_Z projectPlain_N projectPlain_Z = true := by kernel_rfl
theorem projectPlain_lt : litB projectPlain_N projectPlain_L = true := by kernel_rfl
theorem projectPlain_cn : canB projectPlain_N projectPlain_C = true := by kernel_rfl
theorem projectPlain_c64 : cst 0 0 1 = (0 : Rat) := by decide +kernel
theorem projectPlain_f0 {z0 z1 z2 z7 z8 z9 z10 z14 z15 z16 z21 z26 : Rat} : (z7 = 0 ↔ ((z0 = 0 ∧ z1 = 0) ∧ z2 = 0)) → z8 = z0 * fac [z0, z1, z2] → z9 = z1 * fac [z0, z1, z2] → z10 = z2 * fac [z0, z1, z2] → (z21 = 0 ↔ ((z14 = 0 ∧ z15 = 0) ∧ z16 = 0)) → (z26 = 0 ↔ ((z8 = 0 ∧ z9 = 0) ∧ z10 = 0)) → (¬ (z7 = 0)) → (z21 = 0) → ¬ (z26 = 0) := by
 intro e7 e8 e9 e10 e21 e26 u0 u1
 rw [e7] at u0
 obtain ⟨⟨ua1_14, ua1_15⟩, ua1_16⟩ := e21.1 u1
 rw [e26]
 clear u1 e7 e21 e26
 have k0_0 : fac [z0, z1, z2] = 0 → z0 = 0 := fac_zero (by simp)
 have k0_1 : fac [z0, z1, z2] = 0 → z1 = 0 := fac_zero (by simp)
 have k0_2 : fac [z0, z1, z2] = 0 → z2 = 0 := fac_zero (by simp)
 generalize fac [z0, z1, z2] = g0 at *
 have nx0 := u0
 have iw0 : g0 ≠ 0 := fun hg => nx0 ⟨⟨(k0_0 hg), (k0_1 hg)⟩, (k0_2 hg)⟩
 obtain ⟨iv0, ih0⟩ : ∃ i, g0 * i = 1 := ⟨g0⁻¹, Rat.mul_inv_cancel _ iw0⟩
 clear k0_0 k0_1 k0_2
 exact trip_fac nx0 iw0 e8 e9 e10
theorem projectPlain_f1 {z0 z1 z2 z7 z8 z9 z10 z11 z12 z13 z14 z15 z16 z21 z31 : Rat} : (z7 = 0 ↔ ((z0 = 0 ∧ z1 = 0) ∧ z2 = 0)) → z8 = z0 * fac [z0, z1, z2] → z9 = z1 * fac [z0, z1, z2] → z10 = z2 * fac [z0, z1, z2] → z11 = z8 * fac [z8, z9, z10] → z12 = z9 * fac [z8, z9, z10] → z13 = z10 * fac [z8, z9, z10] → (z21 = 0 ↔ ((z14 = 0 ∧ z15 = 0) ∧ z16 = 0)) → (z31 = 0 ↔ ((z11 = 0 ∧ z12 = 0) ∧ z13 = 0)) → (¬ (z7 = 0)) → (z21 = 0) → ¬ (z31 = 0) := by
 intro e7 e8 e9 e10 e11 e12 e13 e21 e31 u0 u1
 rw [e7] at u0
 obtain ⟨⟨ua1_14, ua1_15⟩, ua1_16⟩ := e21.1 u1
 rw [e31]
 clear u1 e7 e21 e31
 have k0_0 : fac [z0, z1, z2] = 0 → z0 = 0 := fac_zero (by simp)
 have k0_1 : fac [z0, z1, z2] = 0 → z1 = 0 := fac_zero (by simp)
 have k0_2 : fac [z0, z1, z2] = 0 → z2 = 0 := fac_zero (by simp)
 generalize fac [z0, z1, z2] = g0 at *
 have k1_8 : fac [z8, z9, z10] = 0 → z8 = 0 := fac_zero (by simp)
 have k1_9 : fac [z8, z9, z10] = 0 → z9 = 0 := fac_zero (by simp)
 have k1_10 : fac [z8, z9, z10] = 0 → z10 = 0 := fac_zero (by simp)
 generalize fac [z8, z9, z10] = g1 at *
 have nx0 := u0
 have iw0 : g0 ≠ 0 := fun hg => nx0 ⟨⟨(k0_0 hg), (k0_1 hg)⟩, (k0_2 hg)⟩
 obtain ⟨iv0, ih0⟩ : ∃ i, g0 * i = 1 := ⟨g0⁻¹, Rat.mul_inv_cancel _ iw0⟩
 have nx1 : ¬ ((z8 = 0 ∧ z9 = 0) ∧ z10 = 0) := by
  rintro ⟨⟨hx8, hx9⟩, hx10⟩
  first | grind | (subst_vars; grind)
 have iw1 : g1 ≠ 0 := fun hg => nx1 ⟨⟨(k1_8 hg), (k1_9 hg)⟩, (k1_10 hg)⟩
 obtain ⟨iv1, ih1⟩ : ∃ i, g1 * i = 1 := ⟨g1⁻¹, Rat.mul_inv_cancel _ iw1⟩
 clear k0_0 k0_1 k0_2 k1_8 k1_9 k1_10
 exact trip_fac nx1 iw1 e11 e12 e13
theorem projectPlain_f2 {z0 z1 z2 z7 z8 z9 z10 z11 z12 z13 z32 z33 z34 z35 z36 z37 z38 z39 z40 z45 : Rat} : (z7 = 0 ↔ ((z0 = 0 ∧ z1 = 0) ∧ z2 = 0)) → z8 = z0 * fac [z0, z1, z2] → z9 = z1 * fac [z0, z1, z2] → z10 = z2 * fac [z0, z1, z2] → z11 = z8 * fac [z8, z9, z10] → z12 = z9 * fac [z8, z9, z10] → z13 = z10 * fac [z8, z9, z10] → z32 = z1 * z11 → z33 = z0 * z12 → z34 = z32 - z33 → z35 = z2 * z11 → z36 = z0 * z13 → z37 = z35 - z36 → z38 = z2 * z12 → z39 = z1 * z13 → z40 = z38 - z39 → (z45 = 0 ↔ ((z34 = 0 ∧ z37 = 0) ∧ z40 = 0)) → (¬ (z7 = 0)) → z45 = 0 := by
 intro e7 e8 e9 e10 e11 e12 e13 e32 e33 e34 e35 e36 e37 e38 e39 e40 e45 u0
 rw [e7] at u0
 rw [e45]
 clear  e7 e45
 have k0_0 : fac [z0, z1, z2] = 0 → z0 = 0 := fac_zero (by simp)
 have k0_1 : fac [z0, z1, z2] = 0 → z1 = 0 := fac_zero (by simp)
 have k0_2 : fac [z0, z1, z2] = 0 → z2 = 0 := fac_zero (by simp)
 generalize fac [z0, z1, z2] = g0 at *
 have k1_8 : fac [z8, z9, z10] = 0 → z8 = 0 := fac_zero (by simp)
 have k1_9 : fac [z8, z9, z10] = 0 → z9 = 0 := fac_zero (by simp)
 have k1_10 : fac [z8, z9, z10] = 0 → z10 = 0 := fac_zero (by simp)
 generalize fac [z8, z9, z10] = g1 at *
 have nx0 := u0
 have iw0 : g0 ≠ 0 := fun hg => nx0 ⟨⟨(k0_0 hg), (k0_1 hg)⟩, (k0_2 hg)⟩
 obtain ⟨iv0, ih0⟩ : ∃ i, g0 * i = 1 := ⟨g0⁻¹, Rat.mul_inv_cancel _ iw0⟩
 have nx1 : ¬ ((z8 = 0 ∧ z9 = 0) ∧ z10 = 0) := by
  rintro ⟨⟨hx8, hx9⟩, hx10⟩
  first | grind | (subst_vars; grind)
 have iw1 : g1 ≠ 0 := fun hg => nx1 ⟨⟨(k1_8 hg), (k1_9 hg)⟩, (k1_10 hg)⟩
 obtain ⟨iv1, ih1⟩ : ∃ i, g1 * i = 1 := ⟨g1⁻¹, Rat.mul_inv_cancel _ iw1⟩
 clear k0_0 k0_1 k0_2 k1_8 k1_9 k1_10
 refine ⟨⟨?_, ?_⟩, ?_⟩ <;> (subst_vars; grind)
theorem projectPlain_f3 {z0 z1 z2 z7 z8 z9 z10 z14 z15 z16 z21 z46 z47 z48 z49 z50 z51 z52 z53 z54 z55 z56 z57 z62 z63 z64 z65 z66 z67 z68 z69 : Rat} : (z7 = 0 ↔ ((z0 = 0 ∧ z1 = 0) ∧ z2 = 0)) → z8 = z0 * fac [z0, z1, z2] → z9 = z1 * fac [z0, z1, z2] → z10 = z2 * fac [z0, z1, z2] → (z21 = 0 ↔ ((z14 = 0 ∧ z15 = 0) ∧ z16 = 0)) → z46 = z14 * fac [z14, z15, z16] → z47 = z15 * fac [z14, z15, z16] → z48 = z16 * fac [z14, z15, z16] → z49 = z9 * z48 → z50 = z10 * z47 → z51 = z49 - z50 → z52 = z10 * z46 → z53 = z8 * z48 → z54 = z52 - z53 → z55 = z8 * z47 → z56 = z9 * z46 → z57 = z55 - z56 → (z62 = 0 ↔ ((z51 = 0 ∧ z54 = 0) ∧ z57 = 0)) → z63 = z8 * z46 → z64 = 0 → z65 = z64 + z63 → z66 = z9 * z47 → z67 = z65 + z66 → z68 = z10 * z48 → z69 = z67 + z68 → (¬ (z7 = 0)) → (¬ (z21 = 0)) → (z62 = 0) → ¬ (z69 = 0) := by
 intro e7 e8 e9 e10 e21 e46 e47 e48 e49 e50 e51 e52 e53 e54 e55 e56 e57 e62 e63 e64 e65 e66 e67 e68 e69 u0 u1 u2
 rw [e7] at u0
 rw [e21] at u1
 obtain ⟨⟨ua2_51, ua2_54⟩, ua2_57⟩ := e62.1 u2
 clear u2 e7 e21 e62
 have k0_0 : fac [z0, z1, z2] = 0 → z0 = 0 := fac_zero (by simp)
 have k0_1 : fac [z0, z1, z2] = 0 → z1 = 0 := fac_zero (by simp)
 have k0_2 : fac [z0, z1, z2] = 0 → z2 = 0 := fac_zero (by simp)
 generalize fac [z0, z1, z2] = g0 at *
 have k1_14 : fac [z14, z15, z16] = 0 → z14 = 0 := fac_zero (by simp)
 have k1_15 : fac [z14, z15, z16] = 0 → z15 = 0 := fac_zero (by simp)
 have k1_16 : fac [z14, z15, z16] = 0 → z16 = 0 := fac_zero (by simp)
 generalize fac [z14, z15, z16] = g1 at *
 have nx0 := u0
 have iw0 : g0 ≠ 0 := fun hg => nx0 ⟨⟨(k0_0 hg), (k0_1 hg)⟩, (k0_2 hg)⟩
 obtain ⟨iv0, ih0⟩ : ∃ i, g0 * i = 1 := ⟨g0⁻¹, Rat.mul_inv_cancel _ iw0⟩
 have nx1 := u1
 have iw1 : g1 ≠ 0 := fun hg => nx1 ⟨⟨(k1_14 hg), (k1_15 hg)⟩, (k1_16 hg)⟩
 obtain ⟨iv1, ih1⟩ : ∃ i, g1 * i = 1 := ⟨g1⁻¹, Rat.mul_inv_cancel _ iw1⟩
 clear k0_0 k0_1 k0_2 k1_14 k1_15 k1_16
 have dn := dot_ne u0 u1 (by subst_vars; grind) (by subst_vars; grind) (by subst_vars; grind)
 subst_vars; grind
theorem projectPlain_f4 {z0 z1 z2 z7 z8 z9 z10 z14 z15 z16 z21 z26 z46 z47 z48 z49 z50 z51 z52 z53 z54 z55 z56 z57 z62 : Rat} : (z7 = 0 ↔ ((z0 = 0 ∧ z1 = 0) ∧ z2 = 0)) → z8 = z0 * fac [z0, z1, z2] → z9 = z1 * fac [z0, z1, z2] → z10 = z2 * fac [z0, z1, z2] → (z21 = 0 ↔ ((z14 = 0 ∧ z15 = 0) ∧ z16 = 0)) → (z26 = 0 ↔ ((z8 = 0 ∧ z9 = 0) ∧ z10 = 0)) → z46 = z14 * fac [z14, z15, z16] → z47 = z15 * fac [z14, z15, z16] → z48 = z16 * fac [z14, z15, z16] → z49 = z9 * z48 → z50 = z10 * z47 → z51 = z49 - z50 → z52 = z10 * z46 → z53 = z8 * z48 → z54 = z52 - z53 → z55 = z8 * z47 → z56 = z9 * z46 → z57 = z55 - z56 → (z62 = 0 ↔ ((z51 = 0 ∧ z54 = 0) ∧ z57 = 0)) → (¬ (z7 = 0)) → (¬ (z21 = 0)) → (z62 = 0) → ¬ (z26 = 0) := by
 intro e7 e8 e9 e10 e21 e26 e46 e47 e48 e49 e50 e51 e52 e53 e54 e55 e56 e57 e62 u0 u1 u2
 rw [e7] at u0
 rw [e21] at u1
 obtain ⟨⟨ua2_51, ua2_54⟩, ua2_57⟩ := e62.1 u2
 rw [e26]
 clear u2 e7 e21 e26 e62
 have k0_0 : fac [z0, z1, z2] = 0 → z0 = 0 := fac_zero (by simp)
 have k0_1 : fac [z0, z1, z2] = 0 → z1 = 0 := fac_zero (by simp)
 have k0_2 : fac [z0, z1, z2] = 0 → z2 = 0 := fac_zero (by simp)
 generalize fac [z0, z1, z2] = g0 at *
 have k1_14 : fac [z14, z15, z16] = 0 → z14 = 0 := fac_zero (by simp)
 have k1_15 : fac [z14, z15, z16] = 0 → z15 = 0 := fac_zero (by simp)
 have k1_16 : fac [z14, z15, z16] = 0 → z16 = 0 := fac_zero (by simp)
 generalize fac [z14, z15, z16] = g1 at *
 have nx0 := u0
 have iw0 : g0 ≠ 0 := fun hg => nx0 ⟨⟨(k0_0 hg), (k0_1 hg)⟩, (k0_2 hg)⟩
 obtain ⟨iv0, ih0⟩ : ∃ i, g0 * i = 1 := ⟨g0⁻¹, Rat.mul_inv_cancel _ iw0⟩
 have nx1 := u1
 have iw1 : g1 ≠ 0 := fun hg => nx1 ⟨⟨(k1_14 hg), (k1_15 hg)⟩, (k1_16 hg)⟩
 obtain ⟨iv1, ih1⟩ : ∃ i, g1 * i = 1 := ⟨g1⁻¹, Rat.mul_inv_cancel _ iw1⟩
 clear k0_0 k0_1 k0_2 k1_14 k1_15 k1_16
 exact trip_fac nx0 iw0 e8 e9 e10
theorem projectPlain_f5 {z0 z1 z2 z7 z8 z9 z10 z11 z12 z13 z14 z15 z16 z21 z31 z46 z47 z48 z49 z50 z51 z52 z53 z54 z55 z56 z57 z62 : Rat} : (z7 = 0 ↔ ((z0 = 0 ∧ z1 = 0) ∧ z2 = 0)) → z8 = z0 * fac [z0, z1, z2] → z9 = z1 * fac [z0, z1, z2] → z10 = z2 * fac [z0, z1, z2] → z11 = z8 * fac [z8, z9, z10] → z12 = z9 * fac [z8, z9, z10] → z13 = z10 * fac [z8, z9, z10] → (z21 = 0 ↔ ((z14 = 0 ∧ z15 = 0) ∧ z16 = 0)) → (z31 = 0 ↔ ((z11 = 0 ∧ z12 = 0) ∧ z13 = 0)) → z46 = z14 * fac [z14, z15, z16] → z47 = z15 * fac [z14, z15, z16] → z48 = z16 * fac [z14, z15, z16] → z49 = z9 * z48 → z50 = z10 * z47 → z51 = z49 - z50 → z52 = z10 * z46 → z53 = z8 * z48 → z54 = z52 - z53 → z55 = z8 * z47 → z56 = z9 * z46 → z57 = z55 - z56 → (z62 = 0 ↔ ((z51 = 0 ∧ z54 = 0) ∧ z57 = 0)) → (¬ (z7 = 0)) → (¬ (z21 = 0)) → (z62 = 0) → ¬ (z31 = 0) := by
 intro e7 e8 e9 e10 e11 e12 e13 e21 e31 e46 e47 e48 e49 e50 e51 e52 e53 e54 e55 e56 e57 e62 u0 u1 u2
 rw [e7] at u0
 rw [e21] at u1
 obtain ⟨⟨ua2_51, ua2_54⟩, ua2_57⟩ := e62.1 u2
 rw [e31]
 clear u2 e7 e21 e31 e62
 have k0_0 : fac [z0, z1, z2] = 0 → z0 = 0 := fac_zero (by simp)
 have k0_1 : fac [z0, z1, z2] = 0 → z1 = 0 := fac_zero (by simp)
 have k0_2 : fac [z0, z1, z2] = 0 → z2 = 0 := fac_zero (by simp)
 generalize fac [z0, z1, z2] = g0 at *
 have k1_8 : fac [z8, z9, z10] = 0 → z8 = 0 := fac_zero (by simp)
 have k1_9 : fac [z8, z9, z10] = 0 → z9 = 0 := fac_zero (by simp)
 have k1_10 : fac [z8, z9, z10] = 0 → z10 = 0 := fac_zero (by simp)
 generalize fac [z8, z9, z10] = g1 at *
 have k2_14 : fac [z14, z15, z16] = 0 → z14 = 0 := fac_zero (by simp)
 have k2_15 : fac [z14, z15, z16] = 0 → z15 = 0 := fac_zero (by simp)
 have k2_16 : fac [z14, z15, z16] = 0 → z16 = 0 := fac_zero (by simp)
 generalize fac [z14, z15, z16] = g2 at *
 have nx0 := u0
 have iw0 : g0 ≠ 0 := fun hg => nx0 ⟨⟨(k0_0 hg), (k0_1 hg)⟩, (k0_2 hg)⟩
 obtain ⟨iv0, ih0⟩ : ∃ i, g0 * i = 1 := ⟨g0⁻¹, Rat.mul_inv_cancel _ iw0⟩
 have nx1 : ¬ ((z8 = 0 ∧ z9 = 0) ∧ z10 = 0) := by
  rintro ⟨⟨hx8, hx9⟩, hx10⟩
  first | grind | (subst_vars; grind)
 have iw1 : g1 ≠ 0 := fun hg => nx1 ⟨⟨(k1_8 hg), (k1_9 hg)⟩, (k1_10 hg)⟩
 obtain ⟨iv1, ih1⟩ : ∃ i, g1 * i = 1 := ⟨g1⁻¹, Rat.mul_inv_cancel _ iw1⟩
 have nx2 := u1
 have iw2 : g2 ≠ 0 := fun hg => nx2 ⟨⟨(k2_14 hg), (k2_15 hg)⟩, (k2_16 hg)⟩
 obtain ⟨iv2, ih2⟩ : ∃ i, g2 * i = 1 := ⟨g2⁻¹, Rat.mul_inv_cancel _ iw2⟩
 clear k0_0 k0_1 k0_2 k1_8 k1_9 k1_10 k2_14 k2_15 k2_16
 exact trip_fac nx1 iw1 e11 e12 e13
theorem projectPlain_f6 {z0 z1 z2 z7 z8 z9 z10 z14 z15 z16 z21 z46 z47 z48 z49 z50 z51 z52 z53 z54 z55 z56 z57 z62 z70 z71 z72 z73 z74 : Rat} : (z7 = 0 ↔ ((z0 = 0 ∧ z1 = 0) ∧ z2 = 0)) → z8 = z0 * fac [z0, z1, z2] → z9 = z1 * fac [z0, z1, z2] → z10 = z2 * fac [z0, z1, z2] → (z21 = 0 ↔ ((z14 = 0 ∧ z15 = 0) ∧ z16 = 0)) → z46 = z14 * fac [z14, z15, z16] → z47 = z15 * fac [z14, z15, z16] → z48 = z16 * fac [z14, z15, z16] → z49 = z9 * z48 → z50 = z10 * z47 → z51 = z49 - z50 → z52 = z10 * z46 → z53 = z8 * z48 → z54 = z52 - z53 → z55 = z8 * z47 → z56 = z9 * z46 → z57 = z55 - z56 → (z62 = 0 ↔ ((z51 = 0 ∧ z54 = 0) ∧ z57 = 0)) → z70 = z0 * z14 → z71 = z1 * z15 → z72 = z2 * z16 → z73 = z70 + z71 → z74 = z73 + z72 → (¬ (z7 = 0)) → (¬ (z21 = 0)) → (z62 = 0) → ¬ (z74 = 0) := by
 intro e7 e8 e9 e10 e21 e46 e47 e48 e49 e50 e51 e52 e53 e54 e55 e56 e57 e62 e70 e71 e72 e73 e74 u0 u1 u2
 rw [e7] at u0
 rw [e21] at u1
 obtain ⟨⟨ua2_51, ua2_54⟩, ua2_57⟩ := e62.1 u2
 clear u2 e7 e21 e62
 have k0_0 : fac [z0, z1, z2] = 0 → z0 = 0 := fac_zero (by simp)
 have k0_1 : fac [z0, z1, z2] = 0 → z1 = 0 := fac_zero (by simp)
 have k0_2 : fac [z0, z1, z2] = 0 → z2 = 0 := fac_zero (by simp)
 generalize fac [z0, z1, z2] = g0 at *
 have k1_14 : fac [z14, z15, z16] = 0 → z14 = 0 := fac_zero (by simp)
 have k1_15 : fac [z14, z15, z16] = 0 → z15 = 0 := fac_zero (by simp)
 have k1_16 : fac [z14, z15, z16] = 0 → z16 = 0 := fac_zero (by simp)
 generalize fac [z14, z15, z16] = g1 at *
 have nx0 := u0
 have iw0 : g0 ≠ 0 := fun hg => nx0 ⟨⟨(k0_0 hg), (k0_1 hg)⟩, (k0_2 hg)⟩
 obtain ⟨iv0, ih0⟩ : ∃ i, g0 * i = 1 := ⟨g0⁻¹, Rat.mul_inv_cancel _ iw0⟩
 have nx1 := u1
 have iw1 : g1 ≠ 0 := fun hg => nx1 ⟨⟨(k1_14 hg), (k1_15 hg)⟩, (k1_16 hg)⟩
 obtain ⟨iv1, ih1⟩ : ∃ i, g1 * i = 1 := ⟨g1⁻¹, Rat.mul_inv_cancel _ iw1⟩
 clear k0_0 k0_1 k0_2 k1_14 k1_15 k1_16
 have dn := dot_ne u0 u1 (by subst_vars; grind) (by subst_vars; grind) (by subst_vars; grind)
 subst_vars; grind
theorem projectPlain_f7 {z0 z1 z2 z8 z9 z10 z14 z15 z16 z46 z47 z48 z49 z50 z51 z52 z53 z54 z55 z56 z57 z62 z75 z76 z77 z78 z79 z80 z81 z82 z83 z88 : Rat} : z8 = z0 * fac [z0, z1, z2] → z9 = z1 * fac [z0, z1, z2] → z10 = z2 * fac [z0, z1, z2] → z46 = z14 * fac [z14, z15, z16] → z47 = z15 * fac [z14, z15, z16] → z48 = z16 * fac [z14, z15, z16] → z49 = z9 * z48 → z50 = z10 * z47 → z51 = z49 - z50 → z52 = z10 * z46 → z53 = z8 * z48 → z54 = z52 - z53 → z55 = z8 * z47 → z56 = z9 * z46 → z57 = z55 - z56 → (z62 = 0 ↔ ((z51 = 0 ∧ z54 = 0) ∧ z57 = 0)) → z75 = z1 * z14 → z76 = z0 * z15 → z77 = z75 - z76 → z78 = z2 * z14 → z79 = z0 * z16 → z80 = z78 - z79 → z81 = z2 * z15 → z82 = z1 * z16 → z83 = z81 - z82 → (z88 = 0 ↔ ((z77 = 0 ∧ z80 = 0) ∧ z83 = 0)) → (z62 = 0) → z88 = 0 := by
 intro e8 e9 e10 e46 e47 e48 e49 e50 e51 e52 e53 e54 e55 e56 e57 e62 e75 e76 e77 e78 e79 e80 e81 e82 e83 e88 u2
 obtain ⟨⟨ua2_51, ua2_54⟩, ua2_57⟩ := e62.1 u2
 rw [e88]
 clear u2 e62 e88
 have k0_0 : fac [z0, z1, z2] = 0 → z0 = 0 := fac_zero (by simp)
 have k0_1 : fac [z0, z1, z2] = 0 → z1 = 0 := fac_zero (by simp)
 have k0_2 : fac [z0, z1, z2] = 0 → z2 = 0 := fac_zero (by simp)
 generalize fac [z0, z1, z2] = g0 at *
 have k1_14 : fac [z14, z15, z16] = 0 → z14 = 0 := fac_zero (by simp)
 have k1_15 : fac [z14, z15, z16] = 0 → z15 = 0 := fac_zero (by simp)
 have k1_16 : fac [z14, z15, z16] = 0 → z16 = 0 := fac_zero (by simp)
 generalize fac [z14, z15, z16] = g1 at *
 rcases Classical.em (g0 = 0) with iw0 | iw0
 ·have ic0_0 := k0_0 iw0
  have ic0_1 := k0_1 iw0
  have ic0_2 := k0_2 iw0
  refine ⟨⟨?_, ?_⟩, ?_⟩ <;> (subst_vars; grind)
 obtain ⟨iv0, ih0⟩ : ∃ i, g0 * i = 1 := ⟨g0⁻¹, Rat.mul_inv_cancel _ iw0⟩
 rcases Classical.em (g1 = 0) with iw1 | iw1
 ·have ic1_14 := k1_14 iw1
  have ic1_15 := k1_15 iw1
  have ic1_16 := k1_16 iw1
  refine ⟨⟨?_, ?_⟩, ?_⟩ <;> (subst_vars; grind)
 obtain ⟨iv1, ih1⟩ : ∃ i, g1 * i = 1 := ⟨g1⁻¹, Rat.mul_inv_cancel _ iw1⟩
 clear k0_0 k0_1 k0_2 k1_14 k1_15 k1_16
 refine ⟨⟨?_, ?_⟩, ?_⟩ <;> (subst_vars; grind)
theorem projectPlain_f8 {z0 z1 z2 z7 z8 z9 z10 z14 z15 z16 z21 z26 z46 z47 z48 z49 z50 z51 z52 z53 z54 z55 z56 z57 z62 : Rat} : (z7 = 0 ↔ ((z0 = 0 ∧ z1 = 0) ∧ z2 = 0)) → z8 = z0 * fac [z0, z1, z2] → z9 = z1 * fac [z0, z1, z2] → z10 = z2 * fac [z0, z1, z2] → (z21 = 0 ↔ ((z14 = 0 ∧ z15 = 0) ∧ z16 = 0)) → (z26 = 0 ↔ ((z8 = 0 ∧ z9 = 0) ∧ z10 = 0)) → z46 = z14 * fac [z14, z15, z16] → z47 = z15 * fac [z14, z15, z16] → z48 = z16 * fac [z14, z15, z16] → z49 = z9 * z48 → z50 = z10 * z47 → z51 = z49 - z50 → z52 = z10 * z46 → z53 = z8 * z48 → z54 = z52 - z53 → z55 = z8 * z47 → z56 = z9 * z46 → z57 = z55 - z56 → (z62 = 0 ↔ ((z51 = 0 ∧ z54 = 0) ∧ z57 = 0)) → (¬ (z7 = 0)) → (¬ (z21 = 0)) → (¬ (z62 = 0)) → ¬ (z26 = 0) := by
 intro e7 e8 e9 e10 e21 e26 e46 e47 e48 e49 e50 e51 e52 e53 e54 e55 e56 e57 e62 u0 u1 u2
 rw [e7] at u0
 rw [e21] at u1
 rw [e62] at u2
 rw [e26]
 clear  e7 e21 e26 e62
 have k0_0 : fac [z0, z1, z2] = 0 → z0 = 0 := fac_zero (by simp)
 have k0_1 : fac [z0, z1, z2] = 0 → z1 = 0 := fac_zero (by simp)
 have k0_2 : fac [z0, z1, z2] = 0 → z2 = 0 := fac_zero (by simp)
 generalize fac [z0, z1, z2] = g0 at *
 have k1_14 : fac [z14, z15, z16] = 0 → z14 = 0 := fac_zero (by simp)
 have k1_15 : fac [z14, z15, z16] = 0 → z15 = 0 := fac_zero (by simp)
 have k1_16 : fac [z14, z15, z16] = 0 → z16 = 0 := fac_zero (by simp)
 generalize fac [z14, z15, z16] = g1 at *
 have nx0 := u0
 have iw0 : g0 ≠ 0 := fun hg => nx0 ⟨⟨(k0_0 hg), (k0_1 hg)⟩, (k0_2 hg)⟩
 obtain ⟨iv0, ih0⟩ : ∃ i, g0 * i = 1 := ⟨g0⁻¹, Rat.mul_inv_cancel _ iw0⟩
 have nx1 := u1
 have iw1 : g1 ≠ 0 := fun hg => nx1 ⟨⟨(k1_14 hg), (k1_15 hg)⟩, (k1_16 hg)⟩
 obtain ⟨iv1, ih1⟩ : ∃ i, g1 * i = 1 := ⟨g1⁻¹, Rat.mul_inv_cancel _ iw1⟩
 clear k0_0 k0_1 k0_2 k1_14 k1_15 k1_16
 exact trip_fac nx0 iw0 e8 e9 e10
theorem projectPlain_f9 {z0 z1 z2 z7 z8 z9 z10 z11 z12 z13 z14 z15 z16 z21 z31 z46 z47 z48 z49 z50 z51 z52 z53 z54 z55 z56 z57 z62 : Rat} : (z7 = 0 ↔ ((z0 = 0 ∧ z1 = 0) ∧ z2 = 0)) → z8 = z0 * fac [z0, z1, z2] → z9 = z1 * fac [z0, z1, z2] → z10 = z2 * fac [z0, z1, z2] → z11 = z8 * fac [z8, z9, z10] → z12 = z9 * fac [z8, z9, z10] → z13 = z10 * fac [z8, z9, z10] → (z21 = 0 ↔ ((z14 = 0 ∧ z15 = 0) ∧ z16 = 0)) → (z31 = 0 ↔ ((z11 = 0 ∧ z12 = 0) ∧ z13 = 0)) → z46 = z14 * fac [z14, z15, z16] → z47 = z15 * fac [z14, z15, z16] → z48 = z16 * fac [z14, z15, z16] → z49 = z9 * z48 → z50 = z10 * z47 → z51 = z49 - z50 → z52 = z10 * z46 → z53 = z8 * z48 → z54 = z52 - z53 → z55 = z8 * z47 → z56 = z9 * z46 → z57 = z55 - z56 → (z62 = 0 ↔ ((z51 = 0 ∧ z54 = 0) ∧ z57 = 0)) → (¬ (z7 = 0)) → (¬ (z21 = 0)) → (¬ (z62 = 0)) → ¬ (z31 = 0) := by
 intro e7 e8 e9 e10 e11 e12 e13 e21 e31 e46 e47 e48 e49 e50 e51 e52 e53 e54 e55 e56 e57 e62 u0 u1 u2
 rw [e7] at u0
 rw [e21] at u1
 rw [e62] at u2
 rw [e31]
 clear  e7 e21 e31 e62
 have k0_0 : fac [z0, z1, z2] = 0 → z0 = 0 := fac_zero (by simp)
 have k0_1 : fac [z0, z1, z2] = 0 → z1 = 0 := fac_zero (by simp)
 have k0_2 : fac [z0, z1, z2] = 0 → z2 = 0 := fac_zero (by simp)
 generalize fac [z0, z1, z2] = g0 at *
 have k1_8 : fac [z8, z9, z10] = 0 → z8 = 0 := fac_zero (by simp)
 have k1_9 : fac [z8, z9, z10] = 0 → z9 = 0 := fac_zero (by simp)
 have k1_10 : fac [z8, z9, z10] = 0 → z10 = 0 := fac_zero (by simp)
 generalize fac [z8, z9, z10] = g1 at *
 have k2_14 : fac [z14, z15, z16] = 0 → z14 = 0 := fac_zero (by simp)
 have k2_15 : fac [z14, z15, z16] = 0 → z15 = 0 := fac_zero (by simp)
 have k2_16 : fac [z14, z15, z16] = 0 → z16 = 0 := fac_zero (by simp)
 generalize fac [z14, z15, z16] = g2 at *
 have nx0 := u0
 have iw0 : g0 ≠ 0 := fun hg => nx0 ⟨⟨(k0_0 hg), (k0_1 hg)⟩, (k0_2 hg)⟩
 obtain ⟨iv0, ih0⟩ : ∃ i, g0 * i = 1 := ⟨g0⁻¹, Rat.mul_inv_cancel _ iw0⟩
 have nx1 : ¬ ((z8 = 0 ∧ z9 = 0) ∧ z10 = 0) := by
  rintro ⟨⟨hx8, hx9⟩, hx10⟩
  first | grind | (subst_vars; grind)
 have iw1 : g1 ≠ 0 := fun hg => nx1 ⟨⟨(k1_8 hg), (k1_9 hg)⟩, (k1_10 hg)⟩
 obtain ⟨iv1, ih1⟩ : ∃ i, g1 * i = 1 := ⟨g1⁻¹, Rat.mul_inv_cancel _ iw1⟩
 have nx2 := u1
 have iw2 : g2 ≠ 0 := fun hg => nx2 ⟨⟨(k2_14 hg), (k2_15 hg)⟩, (k2_16 hg)⟩
 obtain ⟨iv2, ih2⟩ : ∃ i, g2 * i = 1 := ⟨g2⁻¹, Rat.mul_inv_cancel _ iw2⟩
 clear k0_0 k0_1 k0_2 k1_8 k1_9 k1_10 k2_14 k2_15 k2_16
 exact trip_fac nx1 iw1 e11 e12 e13
theorem projectPlain_f10 {z0 z1 z2 z8 z9 z10 z14 z15 z16 z46 z47 z48 z63 z64 z65 z66 z67 z68 z69 z70 z71 z72 z73 z74 : Rat} : z8 = z0 * fac [z0, z1, z2] → z9 = z1 * fac [z0, z1, z2] → z10 = z2 * fac [z0, z1, z2] → z46 = z14 * fac [z14, z15, z16] → z47 = z15 * fac [z14, z15, z16] → z48 = z16 * fac [z14, z15, z16] → z63 = z8 * z46 → z64 = 0 → z65 = z64 + z63 → z66 = z9 * z47 → z67 = z65 + z66 → z68 = z10 * z48 → z69 = z67 + z68 → z70 = z0 * z14 → z71 = z1 * z15 → z72 = z2 * z16 → z73 = z70 + z71 → z74 = z73 + z72 → (z69 = 0) → z74 = 0 := by
 intro e8 e9 e10 e46 e47 e48 e63 e64 e65 e66 e67 e68 e69 e70 e71 e72 e73 e74 u3
 rw [u3] at e69
 have k0_0 : fac [z0, z1, z2] = 0 → z0 = 0 := fac_zero (by simp)
 have k0_1 : fac [z0, z1, z2] = 0 → z1 = 0 := fac_zero (by simp)
 have k0_2 : fac [z0, z1, z2] = 0 → z2 = 0 := fac_zero (by simp)
 generalize fac [z0, z1, z2] = g0 at *
 have k1_14 : fac [z14, z15, z16] = 0 → z14 = 0 := fac_zero (by simp)
 have k1_15 : fac [z14, z15, z16] = 0 → z15 = 0 := fac_zero (by simp)
 have k1_16 : fac [z14, z15, z16] = 0 → z16 = 0 := fac_zero (by simp)
 generalize fac [z14, z15, z16] = g1 at *
 rcases Classical.em (g0 = 0) with iw0 | iw0
 ·have ic0_0 := k0_0 iw0
  have ic0_1 := k0_1 iw0
  have ic0_2 := k0_2 iw0
  subst_vars; grind
 obtain ⟨iv0, ih0⟩ : ∃ i, g0 * i = 1 := ⟨g0⁻¹, Rat.mul_inv_cancel _ iw0⟩
 rcases Classical.em (g1 = 0) with iw1 | iw1
 ·have ic1_14 := k1_14 iw1
  have ic1_15 := k1_15 iw1
  have ic1_16 := k1_16 iw1
  subst_vars; grind
 obtain ⟨iv1, ih1⟩ : ∃ i, g1 * i = 1 := ⟨g1⁻¹, Rat.mul_inv_cancel _ iw1⟩
 clear k0_0 k0_1 k0_2 k1_14 k1_15 k1_16
 subst_vars; grind
theorem projectPlain_f11 {z0 z1 z2 z7 z8 z9 z10 z14 z15 z16 z21 z46 z47 z48 z49 z50 z51 z52 z53 z54 z55 z56 z57 z62 z75 z76 z77 z78 z79 z80 z81 z82 z83 z88 : Rat} : (z7 = 0 ↔ ((z0 = 0 ∧ z1 = 0) ∧ z2 = 0)) → z8 = z0 * fac [z0, z1, z2] → z9 = z1 * fac [z0, z1, z2] → z10 = z2 * fac [z0, z1, z2] → (z21 = 0 ↔ ((z14 = 0 ∧ z15 = 0) ∧ z16 = 0)) → z46 = z14 * fac [z14, z15, z16] → z47 = z15 * fac [z14, z15, z16] → z48 = z16 * fac [z14, z15, z16] → z49 = z9 * z48 → z50 = z10 * z47 → z51 = z49 - z50 → z52 = z10 * z46 → z53 = z8 * z48 → z54 = z52 - z53 → z55 = z8 * z47 → z56 = z9 * z46 → z57 = z55 - z56 → (z62 = 0 ↔ ((z51 = 0 ∧ z54 = 0) ∧ z57 = 0)) → z75 = z1 * z14 → z76 = z0 * z15 → z77 = z75 - z76 → z78 = z2 * z14 → z79 = z0 * z16 → z80 = z78 - z79 → z81 = z2 * z15 → z82 = z1 * z16 → z83 = z81 - z82 → (z88 = 0 ↔ ((z77 = 0 ∧ z80 = 0) ∧ z83 = 0)) → (¬ (z7 = 0)) → (¬ (z21 = 0)) → (¬ (z62 = 0)) → ¬ (z88 = 0) := by
 intro e7 e8 e9 e10 e21 e46 e47 e48 e49 e50 e51 e52 e53 e54 e55 e56 e57 e62 e75 e76 e77 e78 e79 e80 e81 e82 e83 e88 u0 u1 u2
 rw [e7] at u0
 rw [e21] at u1
 rw [e62] at u2
 rw [e88]
 clear  e7 e21 e62 e88
 have k0_0 : fac [z0, z1, z2] = 0 → z0 = 0 := fac_zero (by simp)
 have k0_1 : fac [z0, z1, z2] = 0 → z1 = 0 := fac_zero (by simp)
 have k0_2 : fac [z0, z1, z2] = 0 → z2 = 0 := fac_zero (by simp)
 generalize fac [z0, z1, z2] = g0 at *
 have k1_14 : fac [z14, z15, z16] = 0 → z14 = 0 := fac_zero (by simp)
 have k1_15 : fac [z14, z15, z16] = 0 → z15 = 0 := fac_zero (by simp)
 have k1_16 : fac [z14, z15, z16] = 0 → z16 = 0 := fac_zero (by simp)
 generalize fac [z14, z15, z16] = g1 at *
 have nx0 := u0
 have iw0 : g0 ≠ 0 := fun hg => nx0 ⟨⟨(k0_0 hg), (k0_1 hg)⟩, (k0_2 hg)⟩
 obtain ⟨iv0, ih0⟩ : ∃ i, g0 * i = 1 := ⟨g0⁻¹, Rat.mul_inv_cancel _ iw0⟩
 have nx1 := u1
 have iw1 : g1 ≠ 0 := fun hg => nx1 ⟨⟨(k1_14 hg), (k1_15 hg)⟩, (k1_16 hg)⟩
 obtain ⟨iv1, ih1⟩ : ∃ i, g1 * i = 1 := ⟨g1⁻¹, Rat.mul_inv_cancel _ iw1⟩
 clear k0_0 k0_1 k0_2 k1_14 k1_15 k1_16
 rintro ⟨⟨ub77, ub80⟩, ub83⟩
 subst_vars; grind
theorem projectPlain_f12 {z0 z1 z2 z7 z8 z9 z10 z14 z15 z16 z21 z46 z47 z48 z49 z50 z51 z52 z53 z54 z55 z56 z57 z62 z89 z90 z91 z96 : Rat} : (z7 = 0 ↔ ((z0 = 0 ∧ z1 = 0) ∧ z2 = 0)) → z8 = z0 * fac [z0, z1, z2] → z9 = z1 * fac [z0, z1, z2] → z10 = z2 * fac [z0, z1, z2] → (z21 = 0 ↔ ((z14 = 0 ∧ z15 = 0) ∧ z16 = 0)) → z46 = z14 * fac [z14, z15, z16] → z47 = z15 * fac [z14, z15, z16] → z48 = z16 * fac [z14, z15, z16] → z49 = z9 * z48 → z50 = z10 * z47 → z51 = z49 - z50 → z52 = z10 * z46 → z53 = z8 * z48 → z54 = z52 - z53 → z55 = z8 * z47 → z56 = z9 * z46 → z57 = z55 - z56 → (z62 = 0 ↔ ((z51 = 0 ∧ z54 = 0) ∧ z57 = 0)) → z89 = z51 * fac [z51, z54, z57] → z90 = z54 * fac [z51, z54, z57] → z91 = z57 * fac [z51, z54, z57] → (z96 = 0 ↔ ((z89 = 0 ∧ z90 = 0) ∧ z91 = 0)) → (¬ (z7 = 0)) → (¬ (z21 = 0)) → (¬ (z62 = 0)) → ¬ (z96 = 0) := by
 intro e7 e8 e9 e10 e21 e46 e47 e48 e49 e50 e51 e52 e53 e54 e55 e56 e57 e62 e89 e90 e91 e96 u0 u1 u2
 rw [e7] at u0
 rw [e21] at u1
 rw [e62] at u2
 rw [e96]
 clear  e7 e21 e62 e96
 have k0_0 : fac [z0, z1, z2] = 0 → z0 = 0 := fac_zero (by simp)
 have k0_1 : fac [z0, z1, z2] = 0 → z1 = 0 := fac_zero (by simp)
 have k0_2 : fac [z0, z1, z2] = 0 → z2 = 0 := fac_zero (by simp)
 generalize fac [z0, z1, z2] = g0 at *
 have k1_14 : fac [z14, z15, z16] = 0 → z14 = 0 := fac_zero (by simp)
 have k1_15 : fac [z14, z15, z16] = 0 → z15 = 0 := fac_zero (by simp)
 have k1_16 : fac [z14, z15, z16] = 0 → z16 = 0 := fac_zero (by simp)
 generalize fac [z14, z15, z16] = g1 at *
 have k2_51 : fac [z51, z54, z57] = 0 → z51 = 0 := fac_zero (by simp)
 have k2_54 : fac [z51, z54, z57] = 0 → z54 = 0 := fac_zero (by simp)
 have k2_57 : fac [z51, z54, z57] = 0 → z57 = 0 := fac_zero (by simp)
 generalize fac [z51, z54, z57] = g2 at *
 have nx0 := u0
 have iw0 : g0 ≠ 0 := fun hg => nx0 ⟨⟨(k0_0 hg), (k0_1 hg)⟩, (k0_2 hg)⟩
 obtain ⟨iv0, ih0⟩ : ∃ i, g0 * i = 1 := ⟨g0⁻¹, Rat.mul_inv_cancel _ iw0⟩
 have nx1 := u1
 have iw1 : g1 ≠ 0 := fun hg => nx1 ⟨⟨(k1_14 hg), (k1_15 hg)⟩, (k1_16 hg)⟩
 obtain ⟨iv1, ih1⟩ : ∃ i, g1 * i = 1 := ⟨g1⁻¹, Rat.mul_inv_cancel _ iw1⟩
 have nx2 := u2
 have iw2 : g2 ≠ 0 := fun hg => nx2 ⟨⟨(k2_51 hg), (k2_54 hg)⟩, (k2_57 hg)⟩
 obtain ⟨iv2, ih2⟩ : ∃ i, g2 * i = 1 := ⟨g2⁻¹, Rat.mul_inv_cancel _ iw2⟩
 clear k0_0 k0_1 k0_2 k1_14 k1_15 k1_16 k2_51 k2_54 k2_57
 exact trip_fac nx2 iw2 e89 e90 e91
theorem projectPlain_f13 {z0 z1 z2 z7 z8 z9 z10 z14 z15 z16 z21 z46 z47 z48 z49 z50 z51 z52 z53 z54 z55 z56 z57 z62 z89 z90 z91 z97 z98 z99 z100 z101 : Rat} : (z7 = 0 ↔ ((z0 = 0 ∧ z1 = 0) ∧ z2 = 0)) → z8 = z0 * fac [z0, z1, z2] → z9 = z1 * fac [z0, z1, z2] → z10 = z2 * fac [z0, z1, z2] → (z21 = 0 ↔ ((z14 = 0 ∧ z15 = 0) ∧ z16 = 0)) → z46 = z14 * fac [z14, z15, z16] → z47 = z15 * fac [z14, z15, z16] → z48 = z16 * fac [z14, z15, z16] → z49 = z9 * z48 → z50 = z10 * z47 → z51 = z49 - z50 → z52 = z10 * z46 → z53 = z8 * z48 → z54 = z52 - z53 → z55 = z8 * z47 → z56 = z9 * z46 → z57 = z55 - z56 → (z62 = 0 ↔ ((z51 = 0 ∧ z54 = 0) ∧ z57 = 0)) → z89 = z51 * fac [z51, z54, z57] → z90 = z54 * fac [z51, z54, z57] → z91 = z57 * fac [z51, z54, z57] → z97 = z89 * z0 → z98 = z90 * z1 → z99 = z91 * z2 → z100 = z97 + z98 → z101 = z100 + z99 → (¬ (z7 = 0)) → (¬ (z21 = 0)) → (¬ (z62 = 0)) → z101 = 0 := by
 intro e7 e8 e9 e10 e21 e46 e47 e48 e49 e50 e51 e52 e53 e54 e55 e56 e57 e62 e89 e90 e91 e97 e98 e99 e100 e101 u0 u1 u2
 rw [e7] at u0
 rw [e21] at u1
 rw [e62] at u2
 clear  e7 e21 e62
 have k0_0 : fac [z0, z1, z2] = 0 → z0 = 0 := fac_zero (by simp)
 have k0_1 : fac [z0, z1, z2] = 0 → z1 = 0 := fac_zero (by simp)
 have k0_2 : fac [z0, z1, z2] = 0 → z2 = 0 := fac_zero (by simp)
 generalize fac [z0, z1, z2] = g0 at *
 have k1_14 : fac [z14, z15, z16] = 0 → z14 = 0 := fac_zero (by simp)
 have k1_15 : fac [z14, z15, z16] = 0 → z15 = 0 := fac_zero (by simp)
 have k1_16 : fac [z14, z15, z16] = 0 → z16 = 0 := fac_zero (by simp)
 generalize fac [z14, z15, z16] = g1 at *
 have k2_51 : fac [z51, z54, z57] = 0 → z51 = 0 := fac_zero (by simp)
 have k2_54 : fac [z51, z54, z57] = 0 → z54 = 0 := fac_zero (by simp)
 have k2_57 : fac [z51, z54, z57] = 0 → z57 = 0 := fac_zero (by simp)
 generalize fac [z51, z54, z57] = g2 at *
 have nx0 := u0
 have iw0 : g0 ≠ 0 := fun hg => nx0 ⟨⟨(k0_0 hg), (k0_1 hg)⟩, (k0_2 hg)⟩
 obtain ⟨iv0, ih0⟩ : ∃ i, g0 * i = 1 := ⟨g0⁻¹, Rat.mul_inv_cancel _ iw0⟩
 have nx1 := u1
 have iw1 : g1 ≠ 0 := fun hg => nx1 ⟨⟨(k1_14 hg), (k1_15 hg)⟩, (k1_16 hg)⟩
 obtain ⟨iv1, ih1⟩ : ∃ i, g1 * i = 1 := ⟨g1⁻¹, Rat.mul_inv_cancel _ iw1⟩
 have nx2 := u2
 have iw2 : g2 ≠ 0 := fun hg => nx2 ⟨⟨(k2_51 hg), (k2_54 hg)⟩, (k2_57 hg)⟩
 obtain ⟨iv2, ih2⟩ : ∃ i, g2 * i = 1 := ⟨g2⁻¹, Rat.mul_inv_cancel _ iw2⟩
 clear k0_0 k0_1 k0_2 k1_14 k1_15 k1_16 k2_51 k2_54 k2_57
 subst_vars; grind
theorem projectPlain_f14 {z0 z1 z2 z7 z8 z9 z10 z14 z15 z16 z21 z46 z47 z48 z49 z50 z51 z52 z53 z54 z55 z56 z57 z62 z89 z90 z91 z102 z103 z104 z105 z106 : Rat} : (z7 = 0 ↔ ((z0 = 0 ∧ z1 = 0) ∧ z2 = 0)) → z8 = z0 * fac [z0, z1, z2] → z9 = z1 * fac [z0, z1, z2] → z10 = z2 * fac [z0, z1, z2] → (z21 = 0 ↔ ((z14 = 0 ∧ z15 = 0) ∧ z16 = 0)) → z46 = z14 * fac [z14, z15, z16] → z47 = z15 * fac [z14, z15, z16] → z48 = z16 * fac [z14, z15, z16] → z49 = z9 * z48 → z50 = z10 * z47 → z51 = z49 - z50 → z52 = z10 * z46 → z53 = z8 * z48 → z54 = z52 - z53 → z55 = z8 * z47 → z56 = z9 * z46 → z57 = z55 - z56 → (z62 = 0 ↔ ((z51 = 0 ∧ z54 = 0) ∧ z57 = 0)) → z89 = z51 * fac [z51, z54, z57] → z90 = z54 * fac [z51, z54, z57] → z91 = z57 * fac [z51, z54, z57] → z102 = z89 * z14 → z103 = z90 * z15 → z104 = z91 * z16 → z105 = z102 + z103 → z106 = z105 + z104 → (¬ (z7 = 0)) → (¬ (z21 = 0)) → (¬ (z62 = 0)) → z106 = 0 := by
 intro e7 e8 e9 e10 e21 e46 e47 e48 e49 e50 e51 e52 e53 e54 e55 e56 e57 e62 e89 e90 e91 e102 e103 e104 e105 e106 u0 u1 u2
 rw [e7] at u0
 rw [e21] at u1
 rw [e62] at u2
 clear  e7 e21 e62
 have k0_0 : fac [z0, z1, z2] = 0 → z0 = 0 := fac_zero (by simp)
 have k0_1 : fac [z0, z1, z2] = 0 → z1 = 0 := fac_zero (by simp)
 have k0_2 : fac [z0, z1, z2] = 0 → z2 = 0 := fac_zero (by simp)
 generalize fac [z0, z1, z2] = g0 at *
 have k1_14 : fac [z14, z15, z16] = 0 → z14 = 0 := fac_zero (by simp)
 have k1_15 : fac [z14, z15, z16] = 0 → z15 = 0 := fac_zero (by simp)
 have k1_16 : fac [z14, z15, z16] = 0 → z16 = 0 := fac_zero (by simp)
 generalize fac [z14, z15, z16] = g1 at *
 have k2_51 : fac [z51, z54, z57] = 0 → z51 = 0 := fac_zero (by simp)
 have k2_54 : fac [z51, z54, z57] = 0 → z54 = 0 := fac_zero (by simp)
 have k2_57 : fac [z51, z54, z57] = 0 → z57 = 0 := fac_zero (by simp)
 generalize fac [z51, z54, z57] = g2 at *
 have nx0 := u0
 have iw0 : g0 ≠ 0 := fun hg => nx0 ⟨⟨(k0_0 hg), (k0_1 hg)⟩, (k0_2 hg)⟩
 obtain ⟨iv0, ih0⟩ : ∃ i, g0 * i = 1 := ⟨g0⁻¹, Rat.mul_inv_cancel _ iw0⟩
 have nx1 := u1
 have iw1 : g1 ≠ 0 := fun hg => nx1 ⟨⟨(k1_14 hg), (k1_15 hg)⟩, (k1_16 hg)⟩
 obtain ⟨iv1, ih1⟩ : ∃ i, g1 * i = 1 := ⟨g1⁻¹, Rat.mul_inv_cancel _ iw1⟩
 have nx2 := u2
 have iw2 : g2 ≠ 0 := fun hg => nx2 ⟨⟨(k2_51 hg), (k2_54 hg)⟩, (k2_57 hg)⟩
 obtain ⟨iv2, ih2⟩ : ∃ i, g2 * i = 1 := ⟨g2⁻¹, Rat.mul_inv_cancel _ iw2⟩
 clear k0_0 k0_1 k0_2 k1_14 k1_15 k1_16 k2_51 k2_54 k2_57
 subst_vars; grind
theorem projectPlain_f15 {z0 z1 z2 z7 z8 z9 z10 z14 z15 z16 z21 z46 z47 z48 z49 z50 z51 z52 z53 z54 z55 z56 z57 z62 z63 z64 z65 z66 z67 z68 z69 z70 z71 z72 z73 z74 : Rat} : (z7 = 0 ↔ ((z0 = 0 ∧ z1 = 0) ∧ z2 = 0)) → z8 = z0 * fac [z0, z1, z2] → z9 = z1 * fac [z0, z1, z2] → z10 = z2 * fac [z0, z1, z2] → (z21 = 0 ↔ ((z14 = 0 ∧ z15 = 0) ∧ z16 = 0)) → z46 = z14 * fac [z14, z15, z16] → z47 = z15 * fac [z14, z15, z16] → z48 = z16 * fac [z14, z15, z16] → z49 = z9 * z48 → z50 = z10 * z47 → z51 = z49 - z50 → z52 = z10 * z46 → z53 = z8 * z48 → z54 = z52 - z53 → z55 = z8 * z47 → z56 = z9 * z46 → z57 = z55 - z56 → (z62 = 0 ↔ ((z51 = 0 ∧ z54 = 0) ∧ z57 = 0)) → z63 = z8 * z46 → z64 = 0 → z65 = z64 + z63 → z66 = z9 * z47 → z67 = z65 + z66 → z68 = z10 * z48 → z69 = z67 + z68 → z70 = z0 * z14 → z71 = z1 * z15 → z72 = z2 * z16 → z73 = z70 + z71 → z74 = z73 + z72 → (¬ (z7 = 0)) → (¬ (z21 = 0)) → (¬ (z62 = 0)) → (¬ (z69 = 0)) → ¬ (z74 = 0) := by
 intro e7 e8 e9 e10 e21 e46 e47 e48 e49 e50 e51 e52 e53 e54 e55 e56 e57 e62 e63 e64 e65 e66 e67 e68 e69 e70 e71 e72 e73 e74 u0 u1 u2 u3
 rw [e7] at u0
 rw [e21] at u1
 rw [e62] at u2
 clear  e7 e21 e62
 have k0_0 : fac [z0, z1, z2] = 0 → z0 = 0 := fac_zero (by simp)
 have k0_1 : fac [z0, z1, z2] = 0 → z1 = 0 := fac_zero (by simp)
 have k0_2 : fac [z0, z1, z2] = 0 → z2 = 0 := fac_zero (by simp)
 generalize fac [z0, z1, z2] = g0 at *
 have k1_14 : fac [z14, z15, z16] = 0 → z14 = 0 := fac_zero (by simp)
 have k1_15 : fac [z14, z15, z16] = 0 → z15 = 0 := fac_zero (by simp)
 have k1_16 : fac [z14, z15, z16] = 0 → z16 = 0 := fac_zero (by simp)
 generalize fac [z14, z15, z16] = g1 at *
 have nx0 := u0
 have iw0 : g0 ≠ 0 := fun hg => nx0 ⟨⟨(k0_0 hg), (k0_1 hg)⟩, (k0_2 hg)⟩
 obtain ⟨iv0, ih0⟩ : ∃ i, g0 * i = 1 := ⟨g0⁻¹, Rat.mul_inv_cancel _ iw0⟩
 have nx1 := u1
 have iw1 : g1 ≠ 0 := fun hg => nx1 ⟨⟨(k1_14 hg), (k1_15 hg)⟩, (k1_16 hg)⟩
 obtain ⟨iv1, ih1⟩ : ∃ i, g1 * i = 1 := ⟨g1⁻¹, Rat.mul_inv_cancel _ iw1⟩
 clear k0_0 k0_1 k0_2 k1_14 k1_15 k1_16
 subst_vars; grind
theorem projectPlain_r0 : (callC (sx Tryz.prog projectPlain_N [(0, 7, 0, 1)] [(277, [])] projectPlain_L projectPlain_C projectPlain_Z (prC [75])) [(179, 60), (154, 61), (25, 62), (78, 63), (97, 63)] 7 [] 9 [(false, [(true, [.inr (2, 0, 0, 0, 0), .inr (2, 1, 0, 0, 0), .inr (2, 2, 0, 0, 0)])]), (false, [(true, [.inr (2, 3, 0, 0, 0), .inr (2, 4, 0, 0, 0), .inr (2, 5, 0, 0, 0)])])] [] 0).map (·.1) = some (kB true) := by kernel_rfl
theorem projectPlain_r1 : (callC (sx Tryz.prog projectPlain_N [(0, 7, 0, 0), (0, 21, 0, 1), (0, 26, 0, 0), (0, 31, 0, 0), (0, 45, 0, 1)] [(277, [])] projectPlain_L projectPlain_C projectPlain_Z (prC [75])) [(179, 60), (154, 61), (25, 62), (78, 63), (97, 63)] 8 [] 9 [(false, [(true, [.inr (2, 0, 0, 0, 0), .inr (2, 1, 0, 0, 0), .inr (2, 2, 0, 0, 0)])]), (false, [(true, [.inr (2, 3, 0, 0, 0), .inr (2, 4, 0, 0, 0), .inr (2, 5, 0, 0, 0)])])] [] 0).map (·.1) = some (kB true) := by kernel_rfl
theorem projectPlain_r2 : (callC (sx Tryz.prog projectPlain_N [(0, 7, 0, 0), (0, 21, 0, 0), (0, 62, 0, 1), (0, 69, 0, 0), (0, 26, 0, 0), (0, 31, 0, 0), (0, 45, 0, 1), (0, 74, 0, 0), (0, 88, 0, 1)] [(277, [])] projectPlain_L projectPlain_C projectPlain_Z (prC [75])) [(179, 60), (154, 61), (25, 62), (78, 63), (97, 63)] 8 [] 9 [(false, [(true, [.inr (2, 0, 0, 0, 0), .inr (2, 1, 0, 0, 0), .inr (2, 2, 0, 0, 0)])]), (false, [(true, [.inr (2, 3, 0, 0, 0), .inr (2, 4, 0, 0, 0), .inr (2, 5, 0, 0, 0)])])] [] 0).map (·.1) = some (kB true) := by kernel_rfl
theorem projectPlain_r3 : (callC (sx Tryz.prog projectPlain_N [(0, 7, 0, 0), (0, 21, 0, 0), (0, 62, 0, 0), (0, 69, 0, 1), (0, 26, 0, 0), (0, 31, 0, 0), (0, 45, 0, 1), (0, 74, 0, 1), (0, 88, 0, 0), (0, 96, 0, 0), (0, 101, 0, 1), (0, 106, 0, 1)] [(277, [])] projectPlain_L projectPlain_C projectPlain_Z (prC [75])) [(179, 60), (154, 61), (25, 62), (78, 63), (97, 63)] 8 [] 9 [(false, [(true, [.inr (2, 0, 0, 0, 0), .inr (2, 1, 0, 0, 0), .inr (2, 2, 0, 0, 0)])]), (false, [(true, [.inr (2, 3, 0, 0, 0), .inr (2, 4, 0, 0, 0), .inr (2, 5, 0, 0, 0)])])] [] 0).map (·.1) = some (kB true) := by kernel_rfl
theorem projectPlain_r4 : (callC (sx Tryz.prog projectPlain_N [(0, 7, 0, 0), (0, 21, 0, 0), (0, 62, 0, 0), (0, 69, 0, 0), (0, 26, 0, 0), (0, 31, 0, 0), (0, 45, 0, 1), (0, 74, 0, 0), (0, 88, 0, 0), (0, 96, 0, 0), (0, 101, 0, 1), (0, 106, 0, 1)] [(277, [])] projectPlain_L projectPlain_C projectPlain_Z (prC [75])) [(179, 60), (154, 61), (25, 62), (78, 63), (97, 63)] 8 [] 9 [(false, [(true, [.inr (2, 0, 0, 0, 0), .inr (2, 1, 0, 0, 0), .inr (2, 2, 0, 0, 0)])]), (false, [(true, [.inr (2, 3, 0, 0, 0), .inr (2, 4, 0, 0, 0), .inr (2, 5, 0, 0, 0)])])] [] 0).map (·.1) = some (kB true) := by kernel_rfl
theorem projectPlain_walk {w : World} {sa sb sc ta tb tc : ByteArray} (ssa : sa.size ≤ 1048576) (ssb : sb.size ≤ 1048576) (ssc : sc.size ≤ 1048576) (sta : ta.size ≤ 1048576) (stb : tb.size ≤ 1048576) (stc : tc.size ≤ 1048576) (tab : Tab w) (mx : MaxL w) :
  Calls Tryz.prog 9 #[.agg #[.string sa, .string sb, .string sc], .agg #[.string ta, .string tb, .string tc]] w fun e w' => Below w.heap.size w w' ∧ e = .returned (.bool true) := by
 have hσ : ∀ j, (sgOf [sa, sb, sc, ta, tb, tc] j).size ≤ 1048576 := sgOf_size (by simp [ssa, ssb, ssc, sta, stb, stc])
 have hcl : ∀ f ∈ ([75] : List FuncId), Closed f := by simp [closed_projected]
 obtain ⟨q, hq, h0⟩ := nodes_exist (sgOf [sa, sb, sc, ta, tb, tc]) projectPlain_N projectPlain_wf
 have hA : ∀ K, A2 (avOn (cOn (evS q (sgOf [sa, sb, sc, ta, tb, tc])) K (fun _ => none) w)) [(false, [(true, [.inr (2, 0, 0, 0, 0), .inr (2, 1, 0, 0, 0), .inr (2, 2, 0, 0, 0)])]), (false, [(true, [.inr (2, 3, 0, 0, 0), .inr (2, 4, 0, 0, 0), .inr (2, 5, 0, 0, 0)])])] [.agg #[.string sa, .string sb, .string sc], .agg #[.string ta, .string tb, .string tc]] := fun K => ⟨⟨⟨[.string sa, .string sb, .string sc], rfl, rfl, rfl, rfl, trivial⟩, trivial⟩, ⟨⟨[.string ta, .string tb, .string tc], rfl, rfl, rfl, rfl, trivial⟩, trivial⟩, trivial⟩
 have E8 : q 8 = q 0 * fac [q 0, q 1, q 2] := hq 8 _ rfl
 have E9 : q 9 = q 1 * fac [q 0, q 1, q 2] := hq 9 _ rfl
 have E10 : q 10 = q 2 * fac [q 0, q 1, q 2] := hq 10 _ rfl
 have E11 : q 11 = q 8 * fac [q 8, q 9, q 10] := hq 11 _ rfl
 have E12 : q 12 = q 9 * fac [q 8, q 9, q 10] := hq 12 _ rfl
 have E13 : q 13 = q 10 * fac [q 8, q 9, q 10] := hq 13 _ rfl
 have E32 : q 32 = q 1 * q 11 := hq 32 _ rfl
 have E33 : q 33 = q 0 * q 12 := hq 33 _ rfl
 have E34 : q 34 = q 32 - q 33 := hq 34 _ rfl
 have E35 : q 35 = q 2 * q 11 := hq 35 _ rfl
 have E36 : q 36 = q 0 * q 13 := hq 36 _ rfl
 have E37 : q 37 = q 35 - q 36 := hq 37 _ rfl
 have E38 : q 38 = q 2 * q 12 := hq 38 _ rfl
 have E39 : q 39 = q 1 * q 13 := hq 39 _ rfl
 have E40 : q 40 = q 38 - q 39 := hq 40 _ rfl
 have E46 : q 46 = q 14 * fac [q 14, q 15, q 16] := hq 46 _ rfl
 have E47 : q 47 = q 15 * fac [q 14, q 15, q 16] := hq 47 _ rfl
 have E48 : q 48 = q 16 * fac [q 14, q 15, q 16] := hq 48 _ rfl
 have E49 : q 49 = q 9 * q 48 := hq 49 _ rfl
 have E50 : q 50 = q 10 * q 47 := hq 50 _ rfl
 have E51 : q 51 = q 49 - q 50 := hq 51 _ rfl
 have E52 : q 52 = q 10 * q 46 := hq 52 _ rfl
 have E53 : q 53 = q 8 * q 48 := hq 53 _ rfl
 have E54 : q 54 = q 52 - q 53 := hq 54 _ rfl
 have E55 : q 55 = q 8 * q 47 := hq 55 _ rfl
 have E56 : q 56 = q 9 * q 46 := hq 56 _ rfl
 have E57 : q 57 = q 55 - q 56 := hq 57 _ rfl
 have E63 : q 63 = q 8 * q 46 := hq 63 _ rfl
 have E64 : q 64 = 0 := (hq 64 _ rfl).trans projectPlain_c64
 have E65 : q 65 = q 64 + q 63 := hq 65 _ rfl
 have E66 : q 66 = q 9 * q 47 := hq 66 _ rfl
 have E67 : q 67 = q 65 + q 66 := hq 67 _ rfl
 have E68 : q 68 = q 10 * q 48 := hq 68 _ rfl
 have E69 : q 69 = q 67 + q 68 := hq 69 _ rfl
 have E70 : q 70 = q 0 * q 14 := hq 70 _ rfl
 have E71 : q 71 = q 1 * q 15 := hq 71 _ rfl
 have E72 : q 72 = q 2 * q 16 := hq 72 _ rfl
 have E73 : q 73 = q 70 + q 71 := hq 73 _ rfl
 have E74 : q 74 = q 73 + q 72 := hq 74 _ rfl
 have E75 : q 75 = q 1 * q 14 := hq 75 _ rfl
 have E76 : q 76 = q 0 * q 15 := hq 76 _ rfl
 have E77 : q 77 = q 75 - q 76 := hq 77 _ rfl
 have E78 : q 78 = q 2 * q 14 := hq 78 _ rfl
 have E79 : q 79 = q 0 * q 16 := hq 79 _ rfl
 have E80 : q 80 = q 78 - q 79 := hq 80 _ rfl
 have E81 : q 81 = q 2 * q 15 := hq 81 _ rfl
 have E82 : q 82 = q 1 * q 16 := hq 82 _ rfl
 have E83 : q 83 = q 81 - q 82 := hq 83 _ rfl
 have E89 : q 89 = q 51 * fac [q 51, q 54, q 57] := hq 89 _ rfl
 have E90 : q 90 = q 54 * fac [q 51, q 54, q 57] := hq 90 _ rfl
 have E91 : q 91 = q 57 * fac [q 51, q 54, q 57] := hq 91 _ rfl
 have E97 : q 97 = q 89 * q 0 := hq 97 _ rfl
 have E98 : q 98 = q 90 * q 1 := hq 98 _ rfl
 have E99 : q 99 = q 91 * q 2 := hq 99 _ rfl
 have E100 : q 100 = q 97 + q 98 := hq 100 _ rfl
 have E101 : q 101 = q 100 + q 99 := hq 101 _ rfl
 have E102 : q 102 = q 89 * q 14 := hq 102 _ rfl
 have E103 : q 103 = q 90 * q 15 := hq 103 _ rfl
 have E104 : q 104 = q 91 * q 16 := hq 104 _ rfl
 have E105 : q 105 = q 102 + q 103 := hq 105 _ rfl
 have E106 : q 106 = q 105 + q 104 := hq 106 _ rfl
 have Q7 : q 7 = 0 ↔ ((q 0 = 0 ∧ q 1 = 0) ∧ q 2 = 0) := (sq_next (sq_next (sq_first (hq 3 _ rfl)) (hq 4 _ rfl) (hq 5 _ rfl)) (hq 6 _ rfl) (hq 7 _ rfl)).2
 have Q21 : q 21 = 0 ↔ ((q 14 = 0 ∧ q 15 = 0) ∧ q 16 = 0) := (sq_next (sq_next (sq_first (hq 17 _ rfl)) (hq 18 _ rfl) (hq 19 _ rfl)) (hq 20 _ rfl) (hq 21 _ rfl)).2
 have Q26 : q 26 = 0 ↔ ((q 8 = 0 ∧ q 9 = 0) ∧ q 10 = 0) := (sq_next (sq_next (sq_first (hq 22 _ rfl)) (hq 23 _ rfl) (hq 24 _ rfl)) (hq 25 _ rfl) (hq 26 _ rfl)).2
 have Q31 : q 31 = 0 ↔ ((q 11 = 0 ∧ q 12 = 0) ∧ q 13 = 0) := (sq_next (sq_next (sq_first (hq 27 _ rfl)) (hq 28 _ rfl) (hq 29 _ rfl)) (hq 30 _ rfl) (hq 31 _ rfl)).2
 have Q45 : q 45 = 0 ↔ ((q 34 = 0 ∧ q 37 = 0) ∧ q 40 = 0) := (sq_next (sq_next (sq_first (hq 41 _ rfl)) (hq 42 _ rfl) (hq 43 _ rfl)) (hq 44 _ rfl) (hq 45 _ rfl)).2
 have Q62 : q 62 = 0 ↔ ((q 51 = 0 ∧ q 54 = 0) ∧ q 57 = 0) := (sq_next (sq_next (sq_first (hq 58 _ rfl)) (hq 59 _ rfl) (hq 60 _ rfl)) (hq 61 _ rfl) (hq 62 _ rfl)).2
 have Q88 : q 88 = 0 ↔ ((q 77 = 0 ∧ q 80 = 0) ∧ q 83 = 0) := (sq_next (sq_next (sq_first (hq 84 _ rfl)) (hq 85 _ rfl) (hq 86 _ rfl)) (hq 87 _ rfl) (hq 88 _ rfl)).2
 have Q96 : q 96 = 0 ↔ ((q 89 = 0 ∧ q 90 = 0) ∧ q 91 = 0) := (sq_next (sq_next (sq_first (hq 92 _ rfl)) (hq 93 _ rfl) (hq 94 _ rfl)) (hq 95 _ rfl) (hq 96 _ rfl)).2
 by_cases a_0_7_0 : q 7 = 0
 ·
  exact run_toldC' 7 (hy_of (H := [(0, 7, 0, 1)]) hσ projectPlain_wf projectPlain_sz projectPlain_lt projectPlain_cn hq h0 (And.intro (hT a_0_7_0) trivial)) hcl (by kernel_rfl) projectPlain_r0 ⟨tab, mx⟩ (hA _)
 ·
  by_cases a_0_21_0 : q 21 = 0
  ·
   have a_0_26_0 : ¬ (q 26 = 0) := projectPlain_f0 Q7 E8 E9 E10 Q21 Q26 a_0_7_0 a_0_21_0
   have a_0_31_0 : ¬ (q 31 = 0) := projectPlain_f1 Q7 E8 E9 E10 E11 E12 E13 Q21 Q31 a_0_7_0 a_0_21_0
   have a_0_45_0 : q 45 = 0 := projectPlain_f2 Q7 E8 E9 E10 E11 E12 E13 E32 E33 E34 E35 E36 E37 E38 E39 E40 Q45 a_0_7_0
   exact run_toldC' 8 (hy_of (H := [(0, 7, 0, 0), (0, 21, 0, 1), (0, 26, 0, 0), (0, 31, 0, 0), (0, 45, 0, 1)]) hσ projectPlain_wf projectPlain_sz projectPlain_lt projectPlain_cn hq h0 (And.intro (hF a_0_7_0) (And.intro (hT a_0_21_0) (And.intro (hF a_0_26_0) (And.intro (hF a_0_31_0) (And.intro (hT a_0_45_0) trivial)))))) hcl (by kernel_rfl) projectPlain_r1 ⟨tab, mx⟩ (hA _)
  ·
   by_cases a_0_62_0 : q 62 = 0
   ·
    have a_0_69_0 : ¬ (q 69 = 0) := projectPlain_f3 Q7 E8 E9 E10 Q21 E46 E47 E48 E49 E50 E51 E52 E53 E54 E55 E56 E57 Q62 E63 E64 E65 E66 E67 E68 E69 a_0_7_0 a_0_21_0 a_0_62_0
    have a_0_26_0 : ¬ (q 26 = 0) := projectPlain_f4 Q7 E8 E9 E10 Q21 Q26 E46 E47 E48 E49 E50 E51 E52 E53 E54 E55 E56 E57 Q62 a_0_7_0 a_0_21_0 a_0_62_0
    have a_0_31_0 : ¬ (q 31 = 0) := projectPlain_f5 Q7 E8 E9 E10 E11 E12 E13 Q21 Q31 E46 E47 E48 E49 E50 E51 E52 E53 E54 E55 E56 E57 Q62 a_0_7_0 a_0_21_0 a_0_62_0
    have a_0_45_0 : q 45 = 0 := projectPlain_f2 Q7 E8 E9 E10 E11 E12 E13 E32 E33 E34 E35 E36 E37 E38 E39 E40 Q45 a_0_7_0
    have a_0_74_0 : ¬ (q 74 = 0) := projectPlain_f6 Q7 E8 E9 E10 Q21 E46 E47 E48 E49 E50 E51 E52 E53 E54 E55 E56 E57 Q62 E70 E71 E72 E73 E74 a_0_7_0 a_0_21_0 a_0_62_0
    have a_0_88_0 : q 88 = 0 := projectPlain_f7 E8 E9 E10 E46 E47 E48 E49 E50 E51 E52 E53 E54 E55 E56 E57 Q62 E75 E76 E77 E78 E79 E80 E81 E82 E83 Q88 a_0_62_0
    exact run_toldC' 8 (hy_of (H := [(0, 7, 0, 0), (0, 21, 0, 0), (0, 62, 0, 1), (0, 69, 0, 0), (0, 26, 0, 0), (0, 31, 0, 0), (0, 45, 0, 1), (0, 74, 0, 0), (0, 88, 0, 1)]) hσ projectPlain_wf projectPlain_sz projectPlain_lt projectPlain_cn hq h0 (And.intro (hF a_0_7_0) (And.intro (hF a_0_21_0) (And.intro (hT a_0_62_0) (And.intro (hF a_0_69_0) (And.intro (hF a_0_26_0) (And.intro (hF a_0_31_0) (And.intro (hT a_0_45_0) (And.intro (hF a_0_74_0) (And.intro (hT a_0_88_0) trivial)))))))))) hcl (by kernel_rfl) projectPlain_r2 ⟨tab, mx⟩ (hA _)
   ·
    by_cases a_0_69_0 : q 69 = 0
    ·
     have a_0_26_0 : ¬ (q 26 = 0) := projectPlain_f8 Q7 E8 E9 E10 Q21 Q26 E46 E47 E48 E49 E50 E51 E52 E53 E54 E55 E56 E57 Q62 a_0_7_0 a_0_21_0 a_0_62_0
     have a_0_31_0 : ¬ (q 31 = 0) := projectPlain_f9 Q7 E8 E9 E10 E11 E12 E13 Q21 Q31 E46 E47 E48 E49 E50 E51 E52 E53 E54 E55 E56 E57 Q62 a_0_7_0 a_0_21_0 a_0_62_0
     have a_0_45_0 : q 45 = 0 := projectPlain_f2 Q7 E8 E9 E10 E11 E12 E13 E32 E33 E34 E35 E36 E37 E38 E39 E40 Q45 a_0_7_0
     have a_0_74_0 : q 74 = 0 := projectPlain_f10 E8 E9 E10 E46 E47 E48 E63 E64 E65 E66 E67 E68 E69 E70 E71 E72 E73 E74 a_0_69_0
     have a_0_88_0 : ¬ (q 88 = 0) := projectPlain_f11 Q7 E8 E9 E10 Q21 E46 E47 E48 E49 E50 E51 E52 E53 E54 E55 E56 E57 Q62 E75 E76 E77 E78 E79 E80 E81 E82 E83 Q88 a_0_7_0 a_0_21_0 a_0_62_0
     have a_0_96_0 : ¬ (q 96 = 0) := projectPlain_f12 Q7 E8 E9 E10 Q21 E46 E47 E48 E49 E50 E51 E52 E53 E54 E55 E56 E57 Q62 E89 E90 E91 Q96 a_0_7_0 a_0_21_0 a_0_62_0
     have a_0_101_0 : q 101 = 0 := projectPlain_f13 Q7 E8 E9 E10 Q21 E46 E47 E48 E49 E50 E51 E52 E53 E54 E55 E56 E57 Q62 E89 E90 E91 E97 E98 E99 E100 E101 a_0_7_0 a_0_21_0 a_0_62_0
     have a_0_106_0 : q 106 = 0 := projectPlain_f14 Q7 E8 E9 E10 Q21 E46 E47 E48 E49 E50 E51 E52 E53 E54 E55 E56 E57 Q62 E89 E90 E91 E102 E103 E104 E105 E106 a_0_7_0 a_0_21_0 a_0_62_0
     exact run_toldC' 8 (hy_of (H := [(0, 7, 0, 0), (0, 21, 0, 0), (0, 62, 0, 0), (0, 69, 0, 1), (0, 26, 0, 0), (0, 31, 0, 0), (0, 45, 0, 1), (0, 74, 0, 1), (0, 88, 0, 0), (0, 96, 0, 0), (0, 101, 0, 1), (0, 106, 0, 1)]) hσ projectPlain_wf projectPlain_sz projectPlain_lt projectPlain_cn hq h0 (And.intro (hF a_0_7_0) (And.intro (hF a_0_21_0) (And.intro (hF a_0_62_0) (And.intro (hT a_0_69_0) (And.intro (hF a_0_26_0) (And.intro (hF a_0_31_0) (And.intro (hT a_0_45_0) (And.intro (hT a_0_74_0) (And.intro (hF a_0_88_0) (And.intro (hF a_0_96_0) (And.intro (hT a_0_101_0) (And.intro (hT a_0_106_0) trivial))))))))))))) hcl (by kernel_rfl) projectPlain_r3 ⟨tab, mx⟩ (hA _)
    ·
     have a_0_26_0 : ¬ (q 26 = 0) := projectPlain_f8 Q7 E8 E9 E10 Q21 Q26 E46 E47 E48 E49 E50 E51 E52 E53 E54 E55 E56 E57 Q62 a_0_7_0 a_0_21_0 a_0_62_0
     have a_0_31_0 : ¬ (q 31 = 0) := projectPlain_f9 Q7 E8 E9 E10 E11 E12 E13 Q21 Q31 E46 E47 E48 E49 E50 E51 E52 E53 E54 E55 E56 E57 Q62 a_0_7_0 a_0_21_0 a_0_62_0
     have a_0_45_0 : q 45 = 0 := projectPlain_f2 Q7 E8 E9 E10 E11 E12 E13 E32 E33 E34 E35 E36 E37 E38 E39 E40 Q45 a_0_7_0
     have a_0_74_0 : ¬ (q 74 = 0) := projectPlain_f15 Q7 E8 E9 E10 Q21 E46 E47 E48 E49 E50 E51 E52 E53 E54 E55 E56 E57 Q62 E63 E64 E65 E66 E67 E68 E69 E70 E71 E72 E73 E74 a_0_7_0 a_0_21_0 a_0_62_0 a_0_69_0
     have a_0_88_0 : ¬ (q 88 = 0) := projectPlain_f11 Q7 E8 E9 E10 Q21 E46 E47 E48 E49 E50 E51 E52 E53 E54 E55 E56 E57 Q62 E75 E76 E77 E78 E79 E80 E81 E82 E83 Q88 a_0_7_0 a_0_21_0 a_0_62_0
     have a_0_96_0 : ¬ (q 96 = 0) := projectPlain_f12 Q7 E8 E9 E10 Q21 E46 E47 E48 E49 E50 E51 E52 E53 E54 E55 E56 E57 Q62 E89 E90 E91 Q96 a_0_7_0 a_0_21_0 a_0_62_0
     have a_0_101_0 : q 101 = 0 := projectPlain_f13 Q7 E8 E9 E10 Q21 E46 E47 E48 E49 E50 E51 E52 E53 E54 E55 E56 E57 Q62 E89 E90 E91 E97 E98 E99 E100 E101 a_0_7_0 a_0_21_0 a_0_62_0
     have a_0_106_0 : q 106 = 0 := projectPlain_f14 Q7 E8 E9 E10 Q21 E46 E47 E48 E49 E50 E51 E52 E53 E54 E55 E56 E57 Q62 E89 E90 E91 E102 E103 E104 E105 E106 a_0_7_0 a_0_21_0 a_0_62_0
     exact run_toldC' 8 (hy_of (H := [(0, 7, 0, 0), (0, 21, 0, 0), (0, 62, 0, 0), (0, 69, 0, 0), (0, 26, 0, 0), (0, 31, 0, 0), (0, 45, 0, 1), (0, 74, 0, 0), (0, 88, 0, 0), (0, 96, 0, 0), (0, 101, 0, 1), (0, 106, 0, 1)]) hσ projectPlain_wf projectPlain_sz projectPlain_lt projectPlain_cn hq h0 (And.intro (hF a_0_7_0) (And.intro (hF a_0_21_0) (And.intro (hF a_0_62_0) (And.intro (hF a_0_69_0) (And.intro (hF a_0_26_0) (And.intro (hF a_0_31_0) (And.intro (hT a_0_45_0) (And.intro (hF a_0_74_0) (And.intro (hF a_0_88_0) (And.intro (hF a_0_96_0) (And.intro (hT a_0_101_0) (And.intro (hT a_0_106_0) trivial))))))))))))) hcl (by kernel_rfl) projectPlain_r4 ⟨tab, mx⟩ (hA _)
end Go.Proofs.YtioacnhbiinjbaaGreatDoor
