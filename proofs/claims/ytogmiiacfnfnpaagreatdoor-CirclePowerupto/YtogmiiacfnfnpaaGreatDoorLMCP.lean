/- Part 12 of the walks and of the mathematics under them: MCP. -/
import Derived.Test.YtogmiiacfnfnpaaGreatDoorA11
set_option maxHeartbeats 16000000
set_option maxRecDepth 100000
/- MCP -/
namespace Go.Proofs.YtogmiiacfnfnpaaGreatDoor
open Go.RowKit Cx
def circlePower_N : List Nd := [(1, [0]), (1, [1]), (1, [2]), (1, [3]), (1, [4]), (3, [3, 0]), (3, [4, 1]), (4, [5, 5]), (4, [6, 6]), (2, [7, 8]), (3, [9, 2])]
def circlePower_L : List (List Nat × Nat) := []
def circlePower_C : List (List Nat × Nat) := []
def circlePower_Z : List Nat := [4194309, 4194309, 4194309, 4194309, 4194309, 8388619, 8388619, 16777238, 16777238, 33554477, 37748787]
theorem circlePower_wf : wfB 0 circlePower_N = true := by kernel_rfl
theorem circlePower_sz : szB circlePower_Z circlePower_N circlePower_Z = true := by kernel_rfl
theorem circlePower_lt : litB circlePower_N circlePower_L = true := by kernel_rfl
theorem circlePower_cn : canB circlePower_N circlePower_C = true := by kernel_rfl
theorem circlePower_r0 : (callB (sx Tryz.prog circlePower_N [(2, 2, 0, 1)] [] circlePower_L circlePower_C circlePower_Z (prC [39])) 5 6 [(false, [(true, [.inr (2, 0, 0, 0, 0), .inr (2, 1, 0, 0, 0), .inr (2, 2, 0, 0, 0)])]), (false, [(true, [.inr (2, 3, 0, 0, 0), .inr (2, 4, 0, 0, 0)])])] [] 0).map (·.1) = some (kB true) := by kernel_rfl
theorem circlePower_r1 : (callB (sx Tryz.prog circlePower_N [(2, 2, 0, 0)] [] circlePower_L circlePower_C circlePower_Z (prC [39])) 5 6 [(false, [(true, [.inr (2, 0, 0, 0, 0), .inr (2, 1, 0, 0, 0), .inr (2, 2, 0, 0, 0)])]), (false, [(true, [.inr (2, 3, 0, 0, 0), .inr (2, 4, 0, 0, 0)])])] [] 0).map (·.1) = some (kB true) := by kernel_rfl
theorem circlePower_walk {w : World} {cx cz cr px pz : ByteArray} (scx : cx.size ≤ 1048576) (scz : cz.size ≤ 1048576) (scr : cr.size ≤ 1048576) (spx : px.size ≤ 1048576) (spz : pz.size ≤ 1048576) (tab : Tab w) (mx : MaxL w) :
    Calls Tryz.prog 6 #[.agg #[.string cx, .string cz, .string cr], .agg #[.string px, .string pz]] w fun e w' => Below w.heap.size w w' ∧ e = .returned (.bool true) := by
  have hσ : ∀ j, (sgOf [cx, cz, cr, px, pz] j).size ≤ 1048576 := sgOf_size (by simp [scx, scz, scr, spx, spz])
  have hcl : ∀ f ∈ ([39] : List FuncId), Closed f := by simp [closed_rounded]
  obtain ⟨q, hq, h0⟩ := nodes_exist (sgOf [cx, cz, cr, px, pz]) circlePower_N circlePower_wf
  have hA : ∀ K, A2 (avOn (cOn (evS q (sgOf [cx, cz, cr, px, pz])) K (fun _ => none) w)) [(false, [(true, [.inr (2, 0, 0, 0, 0), .inr (2, 1, 0, 0, 0), .inr (2, 2, 0, 0, 0)])]), (false, [(true, [.inr (2, 3, 0, 0, 0), .inr (2, 4, 0, 0, 0)])])] [.agg #[.string cx, .string cz, .string cr], .agg #[.string px, .string pz]] := fun K => ⟨⟨⟨[.string cx, .string cz, .string cr], rfl, rfl, rfl, rfl, trivial⟩, trivial⟩, ⟨⟨[.string px, .string pz], rfl, rfl, rfl, trivial⟩, trivial⟩, trivial⟩
  by_cases a_2_2_0 : 0 < q 2
  ·
    exact run_told' 5 (hy_of (H := [(2, 2, 0, 1)]) hσ circlePower_wf circlePower_sz circlePower_lt circlePower_cn hq h0 (And.intro (hT a_2_2_0) trivial)) hcl (by kernel_rfl) circlePower_r0 ⟨tab, mx⟩ (hA _)
  ·
    exact run_told' 5 (hy_of (H := [(2, 2, 0, 0)]) hσ circlePower_wf circlePower_sz circlePower_lt circlePower_cn hq h0 (And.intro (hF a_2_2_0) trivial)) hcl (by kernel_rfl) circlePower_r1 ⟨tab, mx⟩ (hA _)
end Go.Proofs.YtogmiiacfnfnpaaGreatDoor
