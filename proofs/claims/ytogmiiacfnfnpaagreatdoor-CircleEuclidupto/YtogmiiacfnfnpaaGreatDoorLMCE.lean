/- Part 12 of the walks and of the mathematics under them: MCE. -/
import Derived.Test.YtogmiiacfnfnpaaGreatDoorA11
set_option maxHeartbeats 16000000
set_option maxRecDepth 100000
/- MCE -/
namespace Go.Proofs.YtogmiiacfnfnpaaGreatDoor
open Go.RowKit Cx
def circleEuclid_N : List Nd := [(1, [2]), (4, [0, 0]), (1, [0]), (1, [1]), (1, [3]), (0, [0, 1, 1]), (4, [4, 4]), (2, [5, 6]), (3, [5, 6]), (4, [0, 8]), (6, [9, 7]), (0, [0, 2, 1]), (4, [0, 11]), (4, [12, 4]), (6, [13, 7]), (2, [2, 10]), (2, [3, 14]), (1, [4]), (1, [5]), (3, [15, 2]), (3, [16, 3]), (4, [19, 19]), (4, [20, 20]), (2, [21, 22]), (3, [23, 1]), (3, [17, 15]), (3, [18, 16]), (0, [1, 2, 1]), (4, [19, 25]), (4, [20, 26]), (2, [28, 29]), (4, [27, 30]), (4, [25, 25]), (4, [26, 26]), (2, [32, 33]), (6, [31, 34]), (4, [25, 35]), (4, [26, 35]), (2, [15, 36]), (2, [16, 37]), (3, [17, 2]), (3, [18, 3]), (4, [40, 40]), (4, [41, 41]), (2, [42, 43]), (3, [44, 1]), (3, [15, 17]), (3, [16, 18]), (3, [38, 17]), (3, [39, 18]), (4, [46, 48]), (4, [47, 49]), (2, [50, 51])]
def circleEuclid_L : List (List Nat × Nat) := []
def circleEuclid_C : List (List Nat × Nat) := []
def circleEuclid_Z : List Nat := [4194309, 8388618, 4194309, 4194309, 4194309, 2, 8388618, 8388621, 8388621, 12582930, 20971551, 3, 4194312, 8388621, 16777242, 25165861, 20971552, 4194309, 4194309, 29360171, 25165862, 58720342, 50331724, 109052067, 117440686, 29360171, 25165862, 3, 58720342, 50331724, 109052067, 109052070, 58720342, 50331724, 109052067, 218104137, 247464308, 243269999, 272630170, 264241552, 8388619, 8388619, 16777238, 16777238, 33554477, 41943096, 29360171, 25165862, 276824480, 268435862, 306184651, 293601724, 599786376]
theorem circleEuclid_wf : wfB 0 circleEuclid_N = true := by kernel_rfl
theorem circleEuclid_sz : szB circleEuclid_Z circleEuclid_N circleEuclid_Z = true := by kernel_rfl
theorem circleEuclid_lt : litB circleEuclid_N circleEuclid_L = true := by kernel_rfl
theorem circleEuclid_cn : canB circleEuclid_N circleEuclid_C = true := by kernel_rfl
theorem circleEuclid_c5 : cst 0 1 1 = (1 : Rat) := by decide +kernel
theorem circleEuclid_c11 : cst 0 2 1 = (2 : Rat) := by decide +kernel
theorem circleEuclid_c27 : cst 1 2 1 = ((-2) : Rat) := by decide +kernel
theorem circleEuclid_f0 (z0 z4 z5 z6 z7 : Rat) : z5 = 1 → z6 = z4 * z4 → z7 = z5 + z6 → (¬ (z0 = 0)) → 0 < z7 := by
  intro e5 e6 e7 u0
  have hp := one_sq_pos z4
  subst_vars; grind
theorem circleEuclid_f1 (z0 z1 : Rat) : z1 = z0 * z0 → (¬ (z0 = 0)) → 0 < z1 := by
  intro e1 u0
  have hp := sq1_pos (x := z0) (by grind)
  subst_vars; grind
theorem circleEuclid_f2 (z0 z1 z2 z3 z4 z5 z6 z7 z8 z9 z10 z11 z12 z13 z14 z15 z16 z19 z20 z21 z22 z23 z24 : Rat) : z1 = z0 * z0 → z5 = 1 → z6 = z4 * z4 → z7 = z5 + z6 → z8 = z5 - z6 → z9 = z0 * z8 → z10 = z9 / z7 → z11 = 2 → z12 = z0 * z11 → z13 = z12 * z4 → z14 = z13 / z7 → z15 = z2 + z10 → z16 = z3 + z14 → z19 = z15 - z2 → z20 = z16 - z3 → z21 = z19 * z19 → z22 = z20 * z20 → z23 = z21 + z22 → z24 = z23 - z1 → (¬ (z0 = 0)) → z24 = 0 := by
  intro e1 e5 e6 e7 e8 e9 e10 e11 e12 e13 e14 e15 e16 e19 e20 e21 e22 e23 e24 u0
  have n7 : z7 ≠ 0 := by (have hp := one_sq_pos z4); grind
  have d10 : z10 * z7 = z9 := by rw [e10]; exact Rat.div_mul_cancel n7
  clear e10
  have d14 : z14 * z7 = z13 := by rw [e14]; exact Rat.div_mul_cancel n7
  clear e14
  subst_vars; grind
theorem circleEuclid_f3 (z0 z2 z3 z4 z5 z6 z7 z8 z9 z10 z11 z12 z13 z14 z15 z16 z17 z18 z25 z26 : Rat) : z5 = 1 → z6 = z4 * z4 → z7 = z5 + z6 → z8 = z5 - z6 → z9 = z0 * z8 → z10 = z9 / z7 → z11 = 2 → z12 = z0 * z11 → z13 = z12 * z4 → z14 = z13 / z7 → z15 = z2 + z10 → z16 = z3 + z14 → z25 = z17 - z15 → z26 = z18 - z16 → (¬ (z0 = 0)) → (z25 = 0) → (z26 = 0) → z15 = z17 := by
  intro e5 e6 e7 e8 e9 e10 e11 e12 e13 e14 e15 e16 e25 e26 u0 u1 u2
  have n7 : z7 ≠ 0 := by (have hp := one_sq_pos z4); grind
  have d10 : z10 * z7 = z9 := by rw [e10]; exact Rat.div_mul_cancel n7
  clear e10
  have d14 : z14 * z7 = z13 := by rw [e14]; exact Rat.div_mul_cancel n7
  clear e14
  subst_vars; grind
theorem circleEuclid_f4 (z0 z2 z3 z4 z5 z6 z7 z8 z9 z10 z11 z12 z13 z14 z15 z16 z17 z18 z25 z26 : Rat) : z5 = 1 → z6 = z4 * z4 → z7 = z5 + z6 → z8 = z5 - z6 → z9 = z0 * z8 → z10 = z9 / z7 → z11 = 2 → z12 = z0 * z11 → z13 = z12 * z4 → z14 = z13 / z7 → z15 = z2 + z10 → z16 = z3 + z14 → z25 = z17 - z15 → z26 = z18 - z16 → (¬ (z0 = 0)) → (z25 = 0) → (z26 = 0) → z16 = z18 := by
  intro e5 e6 e7 e8 e9 e10 e11 e12 e13 e14 e15 e16 e25 e26 u0 u1 u2
  have n7 : z7 ≠ 0 := by (have hp := one_sq_pos z4); grind
  have d10 : z10 * z7 = z9 := by rw [e10]; exact Rat.div_mul_cancel n7
  clear e10
  have d14 : z14 * z7 = z13 := by rw [e14]; exact Rat.div_mul_cancel n7
  clear e14
  subst_vars; grind
theorem circleEuclid_f5 (z0 z1 z2 z3 z4 z5 z6 z7 z8 z9 z10 z11 z12 z13 z14 z15 z16 z17 z18 z19 z20 z25 z26 z27 z28 z29 z30 z31 z32 z33 z34 z35 z36 z37 z38 z39 z40 z41 z42 z43 z44 z45 z46 z47 z48 z49 z50 z51 z52 : Rat) : z1 = z0 * z0 → z5 = 1 → z6 = z4 * z4 → z7 = z5 + z6 → z8 = z5 - z6 → z9 = z0 * z8 → z10 = z9 / z7 → z11 = 2 → z12 = z0 * z11 → z13 = z12 * z4 → z14 = z13 / z7 → z15 = z2 + z10 → z16 = z3 + z14 → z19 = z15 - z2 → z20 = z16 - z3 → z25 = z17 - z15 → z26 = z18 - z16 → z27 = (-2) → z28 = z19 * z25 → z29 = z20 * z26 → z30 = z28 + z29 → z31 = z27 * z30 → z32 = z25 * z25 → z33 = z26 * z26 → z34 = z32 + z33 → z35 = z31 / z34 → z36 = z25 * z35 → z37 = z26 * z35 → z38 = z15 + z36 → z39 = z16 + z37 → z40 = z17 - z2 → z41 = z18 - z3 → z42 = z40 * z40 → z43 = z41 * z41 → z44 = z42 + z43 → z45 = z44 - z1 → z46 = z15 - z17 → z47 = z16 - z18 → z48 = z38 - z17 → z49 = z39 - z18 → z50 = z46 * z48 → z51 = z47 * z49 → z52 = z50 + z51 → (¬ (z0 = 0)) → (z25 = 0) → (¬ (z26 = 0)) → z45 = z52 := by
  intro e1 e5 e6 e7 e8 e9 e10 e11 e12 e13 e14 e15 e16 e19 e20 e25 e26 e27 e28 e29 e30 e31 e32 e33 e34 e35 e36 e37 e38 e39 e40 e41 e42 e43 e44 e45 e46 e47 e48 e49 e50 e51 e52 u0 u1 u2
  have n7 : z7 ≠ 0 := by (have hp := one_sq_pos z4); grind
  have n34 : z34 ≠ 0 := by (have hp := sq_pos (x := z25) (y := z26) (by grind)); grind
  have d10 : z10 * z7 = z9 := by rw [e10]; exact Rat.div_mul_cancel n7
  clear e10
  have d14 : z14 * z7 = z13 := by rw [e14]; exact Rat.div_mul_cancel n7
  clear e14
  have d35 : z35 * z34 = z31 := by rw [e35]; exact Rat.div_mul_cancel n34
  clear e35
  subst_vars; grind
theorem circleEuclid_f6 (z0 z1 z2 z3 z4 z5 z6 z7 z8 z9 z10 z11 z12 z13 z14 z15 z16 z17 z18 z19 z20 z25 z26 z27 z28 z29 z30 z31 z32 z33 z34 z35 z36 z37 z38 z39 z40 z41 z42 z43 z44 z45 z46 z47 z48 z49 z50 z51 z52 : Rat) : z1 = z0 * z0 → z5 = 1 → z6 = z4 * z4 → z7 = z5 + z6 → z8 = z5 - z6 → z9 = z0 * z8 → z10 = z9 / z7 → z11 = 2 → z12 = z0 * z11 → z13 = z12 * z4 → z14 = z13 / z7 → z15 = z2 + z10 → z16 = z3 + z14 → z19 = z15 - z2 → z20 = z16 - z3 → z25 = z17 - z15 → z26 = z18 - z16 → z27 = (-2) → z28 = z19 * z25 → z29 = z20 * z26 → z30 = z28 + z29 → z31 = z27 * z30 → z32 = z25 * z25 → z33 = z26 * z26 → z34 = z32 + z33 → z35 = z31 / z34 → z36 = z25 * z35 → z37 = z26 * z35 → z38 = z15 + z36 → z39 = z16 + z37 → z40 = z17 - z2 → z41 = z18 - z3 → z42 = z40 * z40 → z43 = z41 * z41 → z44 = z42 + z43 → z45 = z44 - z1 → z46 = z15 - z17 → z47 = z16 - z18 → z48 = z38 - z17 → z49 = z39 - z18 → z50 = z46 * z48 → z51 = z47 * z49 → z52 = z50 + z51 → (¬ (z0 = 0)) → (¬ (z25 = 0)) → z45 = z52 := by
  intro e1 e5 e6 e7 e8 e9 e10 e11 e12 e13 e14 e15 e16 e19 e20 e25 e26 e27 e28 e29 e30 e31 e32 e33 e34 e35 e36 e37 e38 e39 e40 e41 e42 e43 e44 e45 e46 e47 e48 e49 e50 e51 e52 u0 u1
  have n7 : z7 ≠ 0 := by (have hp := one_sq_pos z4); grind
  have n34 : z34 ≠ 0 := by (have hp := sq_pos (x := z25) (y := z26) (by grind)); grind
  have d10 : z10 * z7 = z9 := by rw [e10]; exact Rat.div_mul_cancel n7
  clear e10
  have d14 : z14 * z7 = z13 := by rw [e14]; exact Rat.div_mul_cancel n7
  clear e14
  have d35 : z35 * z34 = z31 := by rw [e35]; exact Rat.div_mul_cancel n34
  clear e35
  subst_vars; grind
theorem circleEuclid_r0 : (callB (sx Tryz.prog circleEuclid_N [(0, 0, 0, 1)] [] circleEuclid_L circleEuclid_C circleEuclid_Z (prC [39])) 2 12 [(false, [(true, [.inr (2, 0, 0, 0, 0), .inr (2, 1, 0, 0, 0)])]), (false, [(false, [.inr (2, 2, 0, 0, 0)])]), (false, [(false, [.inr (2, 3, 0, 0, 0)])]), (false, [(true, [.inr (2, 4, 0, 0, 0), .inr (2, 5, 0, 0, 0)])])] [] 0).map (·.1) = some (kB true) := by kernel_rfl
theorem circleEuclid_r1 : (callB (sx Tryz.prog circleEuclid_N [(0, 0, 0, 0), (2, 7, 0, 1), (2, 1, 0, 1), (0, 24, 0, 1), (0, 25, 0, 1), (0, 26, 0, 1), (3, 15, 17, 1), (3, 16, 18, 1)] [] circleEuclid_L circleEuclid_C circleEuclid_Z (prC [39])) 7 12 [(false, [(true, [.inr (2, 0, 0, 0, 0), .inr (2, 1, 0, 0, 0)])]), (false, [(false, [.inr (2, 2, 0, 0, 0)])]), (false, [(false, [.inr (2, 3, 0, 0, 0)])]), (false, [(true, [.inr (2, 4, 0, 0, 0), .inr (2, 5, 0, 0, 0)])])] [] 0).map (·.1) = some (kB true) := by kernel_rfl
theorem circleEuclid_r2 : (callB (sx Tryz.prog circleEuclid_N [(0, 0, 0, 0), (2, 7, 0, 1), (2, 1, 0, 1), (0, 24, 0, 1), (0, 25, 0, 1), (0, 26, 0, 0), (3, 45, 52, 1)] [] circleEuclid_L circleEuclid_C circleEuclid_Z (prC [39])) 7 12 [(false, [(true, [.inr (2, 0, 0, 0, 0), .inr (2, 1, 0, 0, 0)])]), (false, [(false, [.inr (2, 2, 0, 0, 0)])]), (false, [(false, [.inr (2, 3, 0, 0, 0)])]), (false, [(true, [.inr (2, 4, 0, 0, 0), .inr (2, 5, 0, 0, 0)])])] [] 0).map (·.1) = some (kB true) := by kernel_rfl
theorem circleEuclid_r3 : (callB (sx Tryz.prog circleEuclid_N [(0, 0, 0, 0), (2, 7, 0, 1), (2, 1, 0, 1), (0, 24, 0, 1), (0, 25, 0, 0), (3, 45, 52, 1)] [] circleEuclid_L circleEuclid_C circleEuclid_Z (prC [39])) 7 12 [(false, [(true, [.inr (2, 0, 0, 0, 0), .inr (2, 1, 0, 0, 0)])]), (false, [(false, [.inr (2, 2, 0, 0, 0)])]), (false, [(false, [.inr (2, 3, 0, 0, 0)])]), (false, [(true, [.inr (2, 4, 0, 0, 0), .inr (2, 5, 0, 0, 0)])])] [] 0).map (·.1) = some (kB true) := by kernel_rfl
theorem circleEuclid_walk {w : World} {gx gz r k px pz : ByteArray} (sgx : gx.size ≤ 1048576) (sgz : gz.size ≤ 1048576) (sr : r.size ≤ 1048576) (sk : k.size ≤ 1048576) (spx : px.size ≤ 1048576) (spz : pz.size ≤ 1048576) (tab : Tab w) (mx : MaxL w) :
    Calls Tryz.prog 12 #[.agg #[.string gx, .string gz], .string r, .string k, .agg #[.string px, .string pz]] w fun e w' => Below w.heap.size w w' ∧ e = .returned (.bool true) := by
  have hσ : ∀ j, (sgOf [gx, gz, r, k, px, pz] j).size ≤ 1048576 := sgOf_size (by simp [sgx, sgz, sr, sk, spx, spz])
  have hcl : ∀ f ∈ ([39] : List FuncId), Closed f := by simp [closed_rounded]
  obtain ⟨q, hq, h0⟩ := nodes_exist (sgOf [gx, gz, r, k, px, pz]) circleEuclid_N circleEuclid_wf
  have hA : ∀ K, A2 (avOn (cOn (evS q (sgOf [gx, gz, r, k, px, pz])) K (fun _ => none) w)) [(false, [(true, [.inr (2, 0, 0, 0, 0), .inr (2, 1, 0, 0, 0)])]), (false, [(false, [.inr (2, 2, 0, 0, 0)])]), (false, [(false, [.inr (2, 3, 0, 0, 0)])]), (false, [(true, [.inr (2, 4, 0, 0, 0), .inr (2, 5, 0, 0, 0)])])] [.agg #[.string gx, .string gz], .string r, .string k, .agg #[.string px, .string pz]] := fun K => ⟨⟨⟨[.string gx, .string gz], rfl, rfl, rfl, trivial⟩, trivial⟩, ⟨⟨rfl, trivial⟩, trivial⟩, ⟨⟨rfl, trivial⟩, trivial⟩, ⟨⟨[.string px, .string pz], rfl, rfl, rfl, trivial⟩, trivial⟩, trivial⟩
  by_cases a_0_0_0 : q 0 = 0
  ·
    exact run_told' 2 (hy_of (H := [(0, 0, 0, 1)]) hσ circleEuclid_wf circleEuclid_sz circleEuclid_lt circleEuclid_cn hq h0 (And.intro (hT a_0_0_0) trivial)) hcl (by kernel_rfl) circleEuclid_r0 ⟨tab, mx⟩ (hA _)
  ·
    have a_2_7_0 : 0 < q 7 := circleEuclid_f0 (q 0) (q 4) (q 5) (q 6) (q 7) ((hq 5 _ rfl).trans circleEuclid_c5) (hq 6 _ rfl) (hq 7 _ rfl) a_0_0_0
    have a_2_1_0 : 0 < q 1 := circleEuclid_f1 (q 0) (q 1) (hq 1 _ rfl) a_0_0_0
    have a_0_24_0 : q 24 = 0 := circleEuclid_f2 (q 0) (q 1) (q 2) (q 3) (q 4) (q 5) (q 6) (q 7) (q 8) (q 9) (q 10) (q 11) (q 12) (q 13) (q 14) (q 15) (q 16) (q 19) (q 20) (q 21) (q 22) (q 23) (q 24) (hq 1 _ rfl) ((hq 5 _ rfl).trans circleEuclid_c5) (hq 6 _ rfl) (hq 7 _ rfl) (hq 8 _ rfl) (hq 9 _ rfl) (hq 10 _ rfl) ((hq 11 _ rfl).trans circleEuclid_c11) (hq 12 _ rfl) (hq 13 _ rfl) (hq 14 _ rfl) (hq 15 _ rfl) (hq 16 _ rfl) (hq 19 _ rfl) (hq 20 _ rfl) (hq 21 _ rfl) (hq 22 _ rfl) (hq 23 _ rfl) (hq 24 _ rfl) a_0_0_0
    by_cases a_0_25_0 : q 25 = 0
    ·
      by_cases a_0_26_0 : q 26 = 0
      ·
        have a_3_15_17 : q 15 = q 17 := circleEuclid_f3 (q 0) (q 2) (q 3) (q 4) (q 5) (q 6) (q 7) (q 8) (q 9) (q 10) (q 11) (q 12) (q 13) (q 14) (q 15) (q 16) (q 17) (q 18) (q 25) (q 26) ((hq 5 _ rfl).trans circleEuclid_c5) (hq 6 _ rfl) (hq 7 _ rfl) (hq 8 _ rfl) (hq 9 _ rfl) (hq 10 _ rfl) ((hq 11 _ rfl).trans circleEuclid_c11) (hq 12 _ rfl) (hq 13 _ rfl) (hq 14 _ rfl) (hq 15 _ rfl) (hq 16 _ rfl) (hq 25 _ rfl) (hq 26 _ rfl) a_0_0_0 a_0_25_0 a_0_26_0
        have a_3_16_18 : q 16 = q 18 := circleEuclid_f4 (q 0) (q 2) (q 3) (q 4) (q 5) (q 6) (q 7) (q 8) (q 9) (q 10) (q 11) (q 12) (q 13) (q 14) (q 15) (q 16) (q 17) (q 18) (q 25) (q 26) ((hq 5 _ rfl).trans circleEuclid_c5) (hq 6 _ rfl) (hq 7 _ rfl) (hq 8 _ rfl) (hq 9 _ rfl) (hq 10 _ rfl) ((hq 11 _ rfl).trans circleEuclid_c11) (hq 12 _ rfl) (hq 13 _ rfl) (hq 14 _ rfl) (hq 15 _ rfl) (hq 16 _ rfl) (hq 25 _ rfl) (hq 26 _ rfl) a_0_0_0 a_0_25_0 a_0_26_0
        exact run_told' 7 (hy_of (H := [(0, 0, 0, 0), (2, 7, 0, 1), (2, 1, 0, 1), (0, 24, 0, 1), (0, 25, 0, 1), (0, 26, 0, 1), (3, 15, 17, 1), (3, 16, 18, 1)]) hσ circleEuclid_wf circleEuclid_sz circleEuclid_lt circleEuclid_cn hq h0 (And.intro (hF a_0_0_0) (And.intro (hT a_2_7_0) (And.intro (hT a_2_1_0) (And.intro (hT a_0_24_0) (And.intro (hT a_0_25_0) (And.intro (hT a_0_26_0) (And.intro (hT a_3_15_17) (And.intro (hT a_3_16_18) trivial))))))))) hcl (by kernel_rfl) circleEuclid_r1 ⟨tab, mx⟩ (hA _)
      ·
        have a_3_45_52 : q 45 = q 52 := circleEuclid_f5 (q 0) (q 1) (q 2) (q 3) (q 4) (q 5) (q 6) (q 7) (q 8) (q 9) (q 10) (q 11) (q 12) (q 13) (q 14) (q 15) (q 16) (q 17) (q 18) (q 19) (q 20) (q 25) (q 26) (q 27) (q 28) (q 29) (q 30) (q 31) (q 32) (q 33) (q 34) (q 35) (q 36) (q 37) (q 38) (q 39) (q 40) (q 41) (q 42) (q 43) (q 44) (q 45) (q 46) (q 47) (q 48) (q 49) (q 50) (q 51) (q 52) (hq 1 _ rfl) ((hq 5 _ rfl).trans circleEuclid_c5) (hq 6 _ rfl) (hq 7 _ rfl) (hq 8 _ rfl) (hq 9 _ rfl) (hq 10 _ rfl) ((hq 11 _ rfl).trans circleEuclid_c11) (hq 12 _ rfl) (hq 13 _ rfl) (hq 14 _ rfl) (hq 15 _ rfl) (hq 16 _ rfl) (hq 19 _ rfl) (hq 20 _ rfl) (hq 25 _ rfl) (hq 26 _ rfl) ((hq 27 _ rfl).trans circleEuclid_c27) (hq 28 _ rfl) (hq 29 _ rfl) (hq 30 _ rfl) (hq 31 _ rfl) (hq 32 _ rfl) (hq 33 _ rfl) (hq 34 _ rfl) (hq 35 _ rfl) (hq 36 _ rfl) (hq 37 _ rfl) (hq 38 _ rfl) (hq 39 _ rfl) (hq 40 _ rfl) (hq 41 _ rfl) (hq 42 _ rfl) (hq 43 _ rfl) (hq 44 _ rfl) (hq 45 _ rfl) (hq 46 _ rfl) (hq 47 _ rfl) (hq 48 _ rfl) (hq 49 _ rfl) (hq 50 _ rfl) (hq 51 _ rfl) (hq 52 _ rfl) a_0_0_0 a_0_25_0 a_0_26_0
        exact run_told' 7 (hy_of (H := [(0, 0, 0, 0), (2, 7, 0, 1), (2, 1, 0, 1), (0, 24, 0, 1), (0, 25, 0, 1), (0, 26, 0, 0), (3, 45, 52, 1)]) hσ circleEuclid_wf circleEuclid_sz circleEuclid_lt circleEuclid_cn hq h0 (And.intro (hF a_0_0_0) (And.intro (hT a_2_7_0) (And.intro (hT a_2_1_0) (And.intro (hT a_0_24_0) (And.intro (hT a_0_25_0) (And.intro (hF a_0_26_0) (And.intro (hT a_3_45_52) trivial)))))))) hcl (by kernel_rfl) circleEuclid_r2 ⟨tab, mx⟩ (hA _)
    ·
      have a_3_45_52 : q 45 = q 52 := circleEuclid_f6 (q 0) (q 1) (q 2) (q 3) (q 4) (q 5) (q 6) (q 7) (q 8) (q 9) (q 10) (q 11) (q 12) (q 13) (q 14) (q 15) (q 16) (q 17) (q 18) (q 19) (q 20) (q 25) (q 26) (q 27) (q 28) (q 29) (q 30) (q 31) (q 32) (q 33) (q 34) (q 35) (q 36) (q 37) (q 38) (q 39) (q 40) (q 41) (q 42) (q 43) (q 44) (q 45) (q 46) (q 47) (q 48) (q 49) (q 50) (q 51) (q 52) (hq 1 _ rfl) ((hq 5 _ rfl).trans circleEuclid_c5) (hq 6 _ rfl) (hq 7 _ rfl) (hq 8 _ rfl) (hq 9 _ rfl) (hq 10 _ rfl) ((hq 11 _ rfl).trans circleEuclid_c11) (hq 12 _ rfl) (hq 13 _ rfl) (hq 14 _ rfl) (hq 15 _ rfl) (hq 16 _ rfl) (hq 19 _ rfl) (hq 20 _ rfl) (hq 25 _ rfl) (hq 26 _ rfl) ((hq 27 _ rfl).trans circleEuclid_c27) (hq 28 _ rfl) (hq 29 _ rfl) (hq 30 _ rfl) (hq 31 _ rfl) (hq 32 _ rfl) (hq 33 _ rfl) (hq 34 _ rfl) (hq 35 _ rfl) (hq 36 _ rfl) (hq 37 _ rfl) (hq 38 _ rfl) (hq 39 _ rfl) (hq 40 _ rfl) (hq 41 _ rfl) (hq 42 _ rfl) (hq 43 _ rfl) (hq 44 _ rfl) (hq 45 _ rfl) (hq 46 _ rfl) (hq 47 _ rfl) (hq 48 _ rfl) (hq 49 _ rfl) (hq 50 _ rfl) (hq 51 _ rfl) (hq 52 _ rfl) a_0_0_0 a_0_25_0
      exact run_told' 7 (hy_of (H := [(0, 0, 0, 0), (2, 7, 0, 1), (2, 1, 0, 1), (0, 24, 0, 1), (0, 25, 0, 0), (3, 45, 52, 1)]) hσ circleEuclid_wf circleEuclid_sz circleEuclid_lt circleEuclid_cn hq h0 (And.intro (hF a_0_0_0) (And.intro (hT a_2_7_0) (And.intro (hT a_2_1_0) (And.intro (hT a_0_24_0) (And.intro (hF a_0_25_0) (And.intro (hT a_3_45_52) trivial))))))) hcl (by kernel_rfl) circleEuclid_r3 ⟨tab, mx⟩ (hA _)
end Go.Proofs.YtogmiiacfnfnpaaGreatDoor
