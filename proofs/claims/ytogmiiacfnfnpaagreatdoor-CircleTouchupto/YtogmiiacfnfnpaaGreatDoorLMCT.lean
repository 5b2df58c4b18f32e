/- Part 12 of the walks and of the mathematics under them: MCT. -/
import Derived.Test.YtogmiiacfnfnpaaGreatDoorA11
set_option maxHeartbeats 16000000
set_option maxRecDepth 100000
/- MCT -/
namespace Go.Proofs.YtogmiiacfnfnpaaGreatDoor
open Go.RowKit Cx
def circleTouch_N : List Nd := [(1, [0]), (1, [1]), (1, [2]), (1, [3]), (1, [4]), (3, [3, 0]), (3, [4, 1]), (4, [5, 5]), (4, [6, 6]), (2, [7, 8]), (3, [9, 2]), (4, [5, 0]), (4, [6, 1]), (2, [11, 12]), (5, [13]), (3, [14, 2]), (8, [0, 5, 6, 15]), (8, [1, 5, 6, 15]), (8, [2, 5, 6, 15]), (4, [16, 3]), (4, [17, 4]), (2, [19, 20]), (2, [21, 18]), (4, [16, 6]), (4, [17, 5]), (3, [23, 24])]
def circleTouch_L : List (List Nat × Nat) := []
def circleTouch_C : List (List Nat × Nat) := []
def circleTouch_Z : List Nat := [4194309, 4194309, 4194309, 4194309, 4194309, 8388619, 8388619, 16777238, 16777238, 33554477, 37748787, 12582928, 12582928, 25165857, 25165857, 29360167, 117440669, 117440669, 117440669, 121634978, 121634978, 243269957, 360710627, 125829288, 125829288, 251658577]
theorem circleTouch_wf : wfB 0 circleTouch_N = true := by kernel_rfl
theorem circleTouch_sz : szB circleTouch_Z circleTouch_N circleTouch_Z = true := by kernel_rfl
theorem circleTouch_lt : litB circleTouch_N circleTouch_L = true := by kernel_rfl
theorem circleTouch_cn : canB circleTouch_N circleTouch_C = true := by kernel_rfl
theorem circleTouch_f0 (z0 z1 z2 z3 z4 z5 z6 z7 z8 z9 z10 z11 z12 z13 z14 z15 z16 z17 : Rat) : z5 = z3 - z0 → z6 = z4 - z1 → z7 = z5 * z5 → z8 = z6 * z6 → z9 = z7 + z8 → z10 = z9 - z2 → z11 = z5 * z0 → z12 = z6 * z1 → z13 = z11 + z12 → z14 = -z13 → z15 = z14 - z2 → z16 = z5 * fac [z5, z6, z15] → z17 = z6 * fac [z5, z6, z15] → (0 < z2) → (z10 = 0) → (z16 = 0) → ¬ (z17 = 0) := by
  intro e5 e6 e7 e8 e9 e10 e11 e12 e13 e14 e15 e16 e17 u0 u1 u2
  have k0_5 : fac [z5, z6, z15] = 0 → z5 = 0 := fac_zero (by simp)
  have k0_6 : fac [z5, z6, z15] = 0 → z6 = 0 := fac_zero (by simp)
  have k0_15 : fac [z5, z6, z15] = 0 → z15 = 0 := fac_zero (by simp)
  generalize fac [z5, z6, z15] = g0 at *
  subst_vars; grind
theorem circleTouch_f1 (z0 z1 z2 z3 z4 z5 z6 z7 z8 z9 z10 z11 z12 z13 z14 z15 z16 : Rat) : z5 = z3 - z0 → z6 = z4 - z1 → z7 = z5 * z5 → z8 = z6 * z6 → z9 = z7 + z8 → z10 = z9 - z2 → z11 = z5 * z0 → z12 = z6 * z1 → z13 = z11 + z12 → z14 = -z13 → z15 = z14 - z2 → z16 = z5 * fac [z5, z6, z15] → (0 < z2) → (z10 = 0) → (z16 = 0) → z5 = 0 := by
  intro e5 e6 e7 e8 e9 e10 e11 e12 e13 e14 e15 e16 u0 u1 u2
  have k0_5 : fac [z5, z6, z15] = 0 → z5 = 0 := fac_zero (by simp)
  have k0_6 : fac [z5, z6, z15] = 0 → z6 = 0 := fac_zero (by simp)
  have k0_15 : fac [z5, z6, z15] = 0 → z15 = 0 := fac_zero (by simp)
  generalize fac [z5, z6, z15] = g0 at *
  subst_vars; grind
theorem circleTouch_f2 (z0 z1 z2 z3 z4 z5 z6 z7 z8 z9 z10 z11 z12 z13 z14 z15 z16 : Rat) : z5 = z3 - z0 → z6 = z4 - z1 → z7 = z5 * z5 → z8 = z6 * z6 → z9 = z7 + z8 → z10 = z9 - z2 → z11 = z5 * z0 → z12 = z6 * z1 → z13 = z11 + z12 → z14 = -z13 → z15 = z14 - z2 → z16 = z5 * fac [z5, z6, z15] → (0 < z2) → (z10 = 0) → (z16 = 0) → ¬ (z6 = 0) := by
  intro e5 e6 e7 e8 e9 e10 e11 e12 e13 e14 e15 e16 u0 u1 u2
  have k0_5 : fac [z5, z6, z15] = 0 → z5 = 0 := fac_zero (by simp)
  have k0_6 : fac [z5, z6, z15] = 0 → z6 = 0 := fac_zero (by simp)
  have k0_15 : fac [z5, z6, z15] = 0 → z15 = 0 := fac_zero (by simp)
  generalize fac [z5, z6, z15] = g0 at *
  subst_vars; grind
theorem circleTouch_f3 (z0 z1 z2 z3 z4 z5 z6 z7 z8 z9 z10 z11 z12 z13 z14 z15 z16 z17 z18 z19 z20 z21 z22 : Rat) : z5 = z3 - z0 → z6 = z4 - z1 → z7 = z5 * z5 → z8 = z6 * z6 → z9 = z7 + z8 → z10 = z9 - z2 → z11 = z5 * z0 → z12 = z6 * z1 → z13 = z11 + z12 → z14 = -z13 → z15 = z14 - z2 → z16 = z5 * fac [z5, z6, z15] → z17 = z6 * fac [z5, z6, z15] → z18 = z15 * fac [z5, z6, z15] → z19 = z16 * z3 → z20 = z17 * z4 → z21 = z19 + z20 → z22 = z21 + z18 → (0 < z2) → (z10 = 0) → (z16 = 0) → z22 = 0 := by
  intro e5 e6 e7 e8 e9 e10 e11 e12 e13 e14 e15 e16 e17 e18 e19 e20 e21 e22 u0 u1 u2
  have k0_5 : fac [z5, z6, z15] = 0 → z5 = 0 := fac_zero (by simp)
  have k0_6 : fac [z5, z6, z15] = 0 → z6 = 0 := fac_zero (by simp)
  have k0_15 : fac [z5, z6, z15] = 0 → z15 = 0 := fac_zero (by simp)
  generalize fac [z5, z6, z15] = g0 at *
  subst_vars; grind
theorem circleTouch_f4 (z0 z1 z2 z3 z4 z5 z6 z7 z8 z9 z10 z11 z12 z13 z14 z15 z16 z17 z23 z24 z25 : Rat) : z5 = z3 - z0 → z6 = z4 - z1 → z7 = z5 * z5 → z8 = z6 * z6 → z9 = z7 + z8 → z10 = z9 - z2 → z11 = z5 * z0 → z12 = z6 * z1 → z13 = z11 + z12 → z14 = -z13 → z15 = z14 - z2 → z16 = z5 * fac [z5, z6, z15] → z17 = z6 * fac [z5, z6, z15] → z23 = z16 * z6 → z24 = z17 * z5 → z25 = z23 - z24 → (0 < z2) → (z10 = 0) → (z16 = 0) → z25 = 0 := by
  intro e5 e6 e7 e8 e9 e10 e11 e12 e13 e14 e15 e16 e17 e23 e24 e25 u0 u1 u2
  have k0_5 : fac [z5, z6, z15] = 0 → z5 = 0 := fac_zero (by simp)
  have k0_6 : fac [z5, z6, z15] = 0 → z6 = 0 := fac_zero (by simp)
  have k0_15 : fac [z5, z6, z15] = 0 → z15 = 0 := fac_zero (by simp)
  generalize fac [z5, z6, z15] = g0 at *
  subst_vars; grind
theorem circleTouch_f5 (z0 z1 z2 z3 z4 z5 z6 z7 z8 z9 z10 z11 z12 z13 z14 z15 z16 : Rat) : z5 = z3 - z0 → z6 = z4 - z1 → z7 = z5 * z5 → z8 = z6 * z6 → z9 = z7 + z8 → z10 = z9 - z2 → z11 = z5 * z0 → z12 = z6 * z1 → z13 = z11 + z12 → z14 = -z13 → z15 = z14 - z2 → z16 = z5 * fac [z5, z6, z15] → (0 < z2) → (z10 = 0) → (¬ (z16 = 0)) → ¬ (z5 = 0) := by
  intro e5 e6 e7 e8 e9 e10 e11 e12 e13 e14 e15 e16 u0 u1 u2
  have k0_5 : fac [z5, z6, z15] = 0 → z5 = 0 := fac_zero (by simp)
  have k0_6 : fac [z5, z6, z15] = 0 → z6 = 0 := fac_zero (by simp)
  have k0_15 : fac [z5, z6, z15] = 0 → z15 = 0 := fac_zero (by simp)
  generalize fac [z5, z6, z15] = g0 at *
  subst_vars; grind
theorem circleTouch_f6 (z0 z1 z2 z3 z4 z5 z6 z7 z8 z9 z10 z11 z12 z13 z14 z15 z16 z17 z18 z19 z20 z21 z22 : Rat) : z5 = z3 - z0 → z6 = z4 - z1 → z7 = z5 * z5 → z8 = z6 * z6 → z9 = z7 + z8 → z10 = z9 - z2 → z11 = z5 * z0 → z12 = z6 * z1 → z13 = z11 + z12 → z14 = -z13 → z15 = z14 - z2 → z16 = z5 * fac [z5, z6, z15] → z17 = z6 * fac [z5, z6, z15] → z18 = z15 * fac [z5, z6, z15] → z19 = z16 * z3 → z20 = z17 * z4 → z21 = z19 + z20 → z22 = z21 + z18 → (0 < z2) → (z10 = 0) → (¬ (z16 = 0)) → z22 = 0 := by
  intro e5 e6 e7 e8 e9 e10 e11 e12 e13 e14 e15 e16 e17 e18 e19 e20 e21 e22 u0 u1 u2
  have k0_5 : fac [z5, z6, z15] = 0 → z5 = 0 := fac_zero (by simp)
  have k0_6 : fac [z5, z6, z15] = 0 → z6 = 0 := fac_zero (by simp)
  have k0_15 : fac [z5, z6, z15] = 0 → z15 = 0 := fac_zero (by simp)
  generalize fac [z5, z6, z15] = g0 at *
  subst_vars; grind
theorem circleTouch_f7 (z0 z1 z2 z3 z4 z5 z6 z7 z8 z9 z10 z11 z12 z13 z14 z15 z16 z17 z23 z24 z25 : Rat) : z5 = z3 - z0 → z6 = z4 - z1 → z7 = z5 * z5 → z8 = z6 * z6 → z9 = z7 + z8 → z10 = z9 - z2 → z11 = z5 * z0 → z12 = z6 * z1 → z13 = z11 + z12 → z14 = -z13 → z15 = z14 - z2 → z16 = z5 * fac [z5, z6, z15] → z17 = z6 * fac [z5, z6, z15] → z23 = z16 * z6 → z24 = z17 * z5 → z25 = z23 - z24 → (0 < z2) → (z10 = 0) → (¬ (z16 = 0)) → z25 = 0 := by
  intro e5 e6 e7 e8 e9 e10 e11 e12 e13 e14 e15 e16 e17 e23 e24 e25 u0 u1 u2
  have k0_5 : fac [z5, z6, z15] = 0 → z5 = 0 := fac_zero (by simp)
  have k0_6 : fac [z5, z6, z15] = 0 → z6 = 0 := fac_zero (by simp)
  have k0_15 : fac [z5, z6, z15] = 0 → z15 = 0 := fac_zero (by simp)
  generalize fac [z5, z6, z15] = g0 at *
  subst_vars; grind
theorem circleTouch_r0 : (callB (sx Tryz.prog circleTouch_N [(2, 2, 0, 1), (0, 10, 0, 1), (0, 16, 0, 1), (0, 17, 0, 0), (0, 5, 0, 1), (0, 6, 0, 0), (0, 22, 0, 1), (0, 25, 0, 1)] [] circleTouch_L circleTouch_C circleTouch_Z (prC [39])) 7 7 [(false, [(true, [.inr (2, 0, 0, 0, 0), .inr (2, 1, 0, 0, 0), .inr (2, 2, 0, 0, 0)])]), (false, [(true, [.inr (2, 3, 0, 0, 0), .inr (2, 4, 0, 0, 0)])])] [] 0).map (·.1) = some (kB true) := by kernel_rfl
theorem circleTouch_r1 : (callB (sx Tryz.prog circleTouch_N [(2, 2, 0, 1), (0, 10, 0, 1), (0, 16, 0, 0), (0, 5, 0, 0), (0, 22, 0, 1), (0, 25, 0, 1)] [] circleTouch_L circleTouch_C circleTouch_Z (prC [39])) 7 7 [(false, [(true, [.inr (2, 0, 0, 0, 0), .inr (2, 1, 0, 0, 0), .inr (2, 2, 0, 0, 0)])]), (false, [(true, [.inr (2, 3, 0, 0, 0), .inr (2, 4, 0, 0, 0)])])] [] 0).map (·.1) = some (kB true) := by kernel_rfl
theorem circleTouch_r2 : (callB (sx Tryz.prog circleTouch_N [(2, 2, 0, 1), (0, 10, 0, 0)] [] circleTouch_L circleTouch_C circleTouch_Z (prC [39])) 7 7 [(false, [(true, [.inr (2, 0, 0, 0, 0), .inr (2, 1, 0, 0, 0), .inr (2, 2, 0, 0, 0)])]), (false, [(true, [.inr (2, 3, 0, 0, 0), .inr (2, 4, 0, 0, 0)])])] [] 0).map (·.1) = some (kB true) := by kernel_rfl
theorem circleTouch_r3 : (callB (sx Tryz.prog circleTouch_N [(2, 2, 0, 0)] [] circleTouch_L circleTouch_C circleTouch_Z (prC [39])) 6 7 [(false, [(true, [.inr (2, 0, 0, 0, 0), .inr (2, 1, 0, 0, 0), .inr (2, 2, 0, 0, 0)])]), (false, [(true, [.inr (2, 3, 0, 0, 0), .inr (2, 4, 0, 0, 0)])])] [] 0).map (·.1) = some (kB true) := by kernel_rfl
theorem circleTouch_walk {w : World} {cx cz cr px pz : ByteArray} (scx : cx.size ≤ 1048576) (scz : cz.size ≤ 1048576) (scr : cr.size ≤ 1048576) (spx : px.size ≤ 1048576) (spz : pz.size ≤ 1048576) (tab : Tab w) (mx : MaxL w) :
    Calls Tryz.prog 7 #[.agg #[.string cx, .string cz, .string cr], .agg #[.string px, .string pz]] w fun e w' => Below w.heap.size w w' ∧ e = .returned (.bool true) := by
  have hσ : ∀ j, (sgOf [cx, cz, cr, px, pz] j).size ≤ 1048576 := sgOf_size (by simp [scx, scz, scr, spx, spz])
  have hcl : ∀ f ∈ ([39] : List FuncId), Closed f := by simp [closed_rounded]
  obtain ⟨q, hq, h0⟩ := nodes_exist (sgOf [cx, cz, cr, px, pz]) circleTouch_N circleTouch_wf
  have hA : ∀ K, A2 (avOn (cOn (evS q (sgOf [cx, cz, cr, px, pz])) K (fun _ => none) w)) [(false, [(true, [.inr (2, 0, 0, 0, 0), .inr (2, 1, 0, 0, 0), .inr (2, 2, 0, 0, 0)])]), (false, [(true, [.inr (2, 3, 0, 0, 0), .inr (2, 4, 0, 0, 0)])])] [.agg #[.string cx, .string cz, .string cr], .agg #[.string px, .string pz]] := fun K => ⟨⟨⟨[.string cx, .string cz, .string cr], rfl, rfl, rfl, rfl, trivial⟩, trivial⟩, ⟨⟨[.string px, .string pz], rfl, rfl, rfl, trivial⟩, trivial⟩, trivial⟩
  by_cases a_2_2_0 : 0 < q 2
  ·
    by_cases a_0_10_0 : q 10 = 0
    ·
      by_cases a_0_16_0 : q 16 = 0
      ·
        have a_0_17_0 : ¬ (q 17 = 0) := circleTouch_f0 (q 0) (q 1) (q 2) (q 3) (q 4) (q 5) (q 6) (q 7) (q 8) (q 9) (q 10) (q 11) (q 12) (q 13) (q 14) (q 15) (q 16) (q 17) (hq 5 _ rfl) (hq 6 _ rfl) (hq 7 _ rfl) (hq 8 _ rfl) (hq 9 _ rfl) (hq 10 _ rfl) (hq 11 _ rfl) (hq 12 _ rfl) (hq 13 _ rfl) (hq 14 _ rfl) (hq 15 _ rfl) (hq 16 _ rfl) (hq 17 _ rfl) a_2_2_0 a_0_10_0 a_0_16_0
        have a_0_5_0 : q 5 = 0 := circleTouch_f1 (q 0) (q 1) (q 2) (q 3) (q 4) (q 5) (q 6) (q 7) (q 8) (q 9) (q 10) (q 11) (q 12) (q 13) (q 14) (q 15) (q 16) (hq 5 _ rfl) (hq 6 _ rfl) (hq 7 _ rfl) (hq 8 _ rfl) (hq 9 _ rfl) (hq 10 _ rfl) (hq 11 _ rfl) (hq 12 _ rfl) (hq 13 _ rfl) (hq 14 _ rfl) (hq 15 _ rfl) (hq 16 _ rfl) a_2_2_0 a_0_10_0 a_0_16_0
        have a_0_6_0 : ¬ (q 6 = 0) := circleTouch_f2 (q 0) (q 1) (q 2) (q 3) (q 4) (q 5) (q 6) (q 7) (q 8) (q 9) (q 10) (q 11) (q 12) (q 13) (q 14) (q 15) (q 16) (hq 5 _ rfl) (hq 6 _ rfl) (hq 7 _ rfl) (hq 8 _ rfl) (hq 9 _ rfl) (hq 10 _ rfl) (hq 11 _ rfl) (hq 12 _ rfl) (hq 13 _ rfl) (hq 14 _ rfl) (hq 15 _ rfl) (hq 16 _ rfl) a_2_2_0 a_0_10_0 a_0_16_0
        have a_0_22_0 : q 22 = 0 := circleTouch_f3 (q 0) (q 1) (q 2) (q 3) (q 4) (q 5) (q 6) (q 7) (q 8) (q 9) (q 10) (q 11) (q 12) (q 13) (q 14) (q 15) (q 16) (q 17) (q 18) (q 19) (q 20) (q 21) (q 22) (hq 5 _ rfl) (hq 6 _ rfl) (hq 7 _ rfl) (hq 8 _ rfl) (hq 9 _ rfl) (hq 10 _ rfl) (hq 11 _ rfl) (hq 12 _ rfl) (hq 13 _ rfl) (hq 14 _ rfl) (hq 15 _ rfl) (hq 16 _ rfl) (hq 17 _ rfl) (hq 18 _ rfl) (hq 19 _ rfl) (hq 20 _ rfl) (hq 21 _ rfl) (hq 22 _ rfl) a_2_2_0 a_0_10_0 a_0_16_0
        have a_0_25_0 : q 25 = 0 := circleTouch_f4 (q 0) (q 1) (q 2) (q 3) (q 4) (q 5) (q 6) (q 7) (q 8) (q 9) (q 10) (q 11) (q 12) (q 13) (q 14) (q 15) (q 16) (q 17) (q 23) (q 24) (q 25) (hq 5 _ rfl) (hq 6 _ rfl) (hq 7 _ rfl) (hq 8 _ rfl) (hq 9 _ rfl) (hq 10 _ rfl) (hq 11 _ rfl) (hq 12 _ rfl) (hq 13 _ rfl) (hq 14 _ rfl) (hq 15 _ rfl) (hq 16 _ rfl) (hq 17 _ rfl) (hq 23 _ rfl) (hq 24 _ rfl) (hq 25 _ rfl) a_2_2_0 a_0_10_0 a_0_16_0
        exact run_told' 7 (hy_of (H := [(2, 2, 0, 1), (0, 10, 0, 1), (0, 16, 0, 1), (0, 17, 0, 0), (0, 5, 0, 1), (0, 6, 0, 0), (0, 22, 0, 1), (0, 25, 0, 1)]) hσ circleTouch_wf circleTouch_sz circleTouch_lt circleTouch_cn hq h0 (And.intro (hT a_2_2_0) (And.intro (hT a_0_10_0) (And.intro (hT a_0_16_0) (And.intro (hF a_0_17_0) (And.intro (hT a_0_5_0) (And.intro (hF a_0_6_0) (And.intro (hT a_0_22_0) (And.intro (hT a_0_25_0) trivial))))))))) hcl (by kernel_rfl) circleTouch_r0 ⟨tab, mx⟩ (hA _)
      ·
        have a_0_5_0 : ¬ (q 5 = 0) := circleTouch_f5 (q 0) (q 1) (q 2) (q 3) (q 4) (q 5) (q 6) (q 7) (q 8) (q 9) (q 10) (q 11) (q 12) (q 13) (q 14) (q 15) (q 16) (hq 5 _ rfl) (hq 6 _ rfl) (hq 7 _ rfl) (hq 8 _ rfl) (hq 9 _ rfl) (hq 10 _ rfl) (hq 11 _ rfl) (hq 12 _ rfl) (hq 13 _ rfl) (hq 14 _ rfl) (hq 15 _ rfl) (hq 16 _ rfl) a_2_2_0 a_0_10_0 a_0_16_0
        have a_0_22_0 : q 22 = 0 := circleTouch_f6 (q 0) (q 1) (q 2) (q 3) (q 4) (q 5) (q 6) (q 7) (q 8) (q 9) (q 10) (q 11) (q 12) (q 13) (q 14) (q 15) (q 16) (q 17) (q 18) (q 19) (q 20) (q 21) (q 22) (hq 5 _ rfl) (hq 6 _ rfl) (hq 7 _ rfl) (hq 8 _ rfl) (hq 9 _ rfl) (hq 10 _ rfl) (hq 11 _ rfl) (hq 12 _ rfl) (hq 13 _ rfl) (hq 14 _ rfl) (hq 15 _ rfl) (hq 16 _ rfl) (hq 17 _ rfl) (hq 18 _ rfl) (hq 19 _ rfl) (hq 20 _ rfl) (hq 21 _ rfl) (hq 22 _ rfl) a_2_2_0 a_0_10_0 a_0_16_0
        have a_0_25_0 : q 25 = 0 := circleTouch_f7 (q 0) (q 1) (q 2) (q 3) (q 4) (q 5) (q 6) (q 7) (q 8) (q 9) (q 10) (q 11) (q 12) (q 13) (q 14) (q 15) (q 16) (q 17) (q 23) (q 24) (q 25) (hq 5 _ rfl) (hq 6 _ rfl) (hq 7 _ rfl) (hq 8 _ rfl) (hq 9 _ rfl) (hq 10 _ rfl) (hq 11 _ rfl) (hq 12 _ rfl) (hq 13 _ rfl) (hq 14 _ rfl) (hq 15 _ rfl) (hq 16 _ rfl) (hq 17 _ rfl) (hq 23 _ rfl) (hq 24 _ rfl) (hq 25 _ rfl) a_2_2_0 a_0_10_0 a_0_16_0
        exact run_told' 7 (hy_of (H := [(2, 2, 0, 1), (0, 10, 0, 1), (0, 16, 0, 0), (0, 5, 0, 0), (0, 22, 0, 1), (0, 25, 0, 1)]) hσ circleTouch_wf circleTouch_sz circleTouch_lt circleTouch_cn hq h0 (And.intro (hT a_2_2_0) (And.intro (hT a_0_10_0) (And.intro (hF a_0_16_0) (And.intro (hF a_0_5_0) (And.intro (hT a_0_22_0) (And.intro (hT a_0_25_0) trivial))))))) hcl (by kernel_rfl) circleTouch_r1 ⟨tab, mx⟩ (hA _)
    ·
      exact run_told' 7 (hy_of (H := [(2, 2, 0, 1), (0, 10, 0, 0)]) hσ circleTouch_wf circleTouch_sz circleTouch_lt circleTouch_cn hq h0 (And.intro (hT a_2_2_0) (And.intro (hF a_0_10_0) trivial))) hcl (by kernel_rfl) circleTouch_r2 ⟨tab, mx⟩ (hA _)
  ·
    exact run_told' 6 (hy_of (H := [(2, 2, 0, 0)]) hσ circleTouch_wf circleTouch_sz circleTouch_lt circleTouch_cn hq h0 (And.intro (hF a_2_2_0) trivial)) hcl (by kernel_rfl) circleTouch_r3 ⟨tab, mx⟩ (hA _)
end Go.Proofs.YtogmiiacfnfnpaaGreatDoor
