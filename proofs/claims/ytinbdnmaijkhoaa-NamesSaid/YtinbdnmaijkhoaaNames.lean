/- What is proved: the Go function compasslaw.Names returns true (each constant of package api has the value that the document gives it); it takes no input, so there is no condition. -/
import Derived.Test.YtinbdnmaijkhoaaRows
import Derived.Test.YtinbdnmaijkhoaaShelf
import Derived.WalkKit
import Derived.ProofKit
import Derived.OpenShut
namespace Go.Proofs.Ytinbdnmaijkhoaa.names
open Go.ChangeShapes Go.WideShapes Go.ChangeAt Go.RowKit

theorem own : ownKnob Try.prog.godebug = none := by kernel_rfl

theorem Grown.drewN {W w' : World} (h : Grown W w') (n : Nat) : Grown W (w'.drewN n) := h

def kinds : List Int := [1, 2, 3, 4, 5, 1, 2, 3, 4, 5, 6, 1, 2, 3, 4, 5, 0, 1, 2, 3, 4, 5, 1, 2, 3]

/-- A block that is known whole, read cell by cell. -/
theorem reads (w : World) (b t : Nat) (l : List Int) (h : w.heap[b]? = some (.cells (l.map (Value.int .i64)).toArray t)) : ∀ j, j < l.length → w.cell? ⟨b, 0 + j, none⟩ = some (.int .i64 (l.getD j 0)) := by
  intro j hj
  simp [World.cell?, h, hj]

theorem ten (w : World) (b : Nat) (h : w.heap[b]? = some (.cells #[.int .i64 4000, .int .i64 16, .int .i64 12, .int .i64 10, .int .i64 200, .int .i64 30, .int .i64 60, .int .i64 14, .int .i64 13, .int .i64 20] 3)) :
    ∀ j, j < ([4000, 16, 12, 10, 200, 30, 60, 14, 13, 20] : List Int).length → w.cell? ⟨b, 0 + j, none⟩ = some (.int .i64 (([4000, 16, 12, 10, 200, 30, 60, 14, 13, 20] : List Int).getD j 0)) :=
  reads w b 3 _ h

theorem kin (w : World) (b : Nat) (h : w.heap[b]? = some (.cells #[.int .i64 1, .int .i64 2, .int .i64 3, .int .i64 4, .int .i64 5, .int .i64 1, .int .i64 2, .int .i64 3, .int .i64 4, .int .i64 5, .int .i64 6, .int .i64 1, .int .i64 2, .int .i64 3, .int .i64 4, .int .i64 5, .int .i64 0, .int .i64 1, .int .i64 2, .int .i64 3, .int .i64 4, .int .i64 5, .int .i64 1, .int .i64 2, .int .i64 3] 3)) :
    ∀ j, j < kinds.length → w.cell? ⟨b, 0 + j, none⟩ = some (.int .i64 (kinds.getD j 0)) :=
  reads w b 3 kinds h

theorem at1 (w : World) (a b c d : Obj) : ((((w.alloc a).alloc b).alloc c).alloc d).heap[w.heap.size + 1]? = some b := by
  show ((((w.heap.push a).push b).push c).push d)[w.heap.size + 1]? = _
  simp [Array.getElem_push]
theorem at3 (w : World) (a b c d : Obj) : ((((w.alloc a).alloc b).alloc c).alloc d).heap[w.heap.size + 3]? = some d := by
  show ((((w.heap.push a).push b).push c).push d)[w.heap.size + 3]? = _
  simp [Array.getElem_push]
theorem at2 (w : World) (a b c d e : Obj) : (((((w.alloc a).alloc b).alloc c).alloc d).alloc e).heap[w.heap.size + 2]? = some c := by
  show (((((w.heap.push a).push b).push c).push d).push e)[w.heap.size + 2]? = _
  simp [Array.getElem_push]
theorem at4 (w : World) (a b c d e : Obj) : (((((w.alloc a).alloc b).alloc c).alloc d).alloc e).heap[w.heap.size + 4]? = some e := by
  show (((((w.heap.push a).push b).push c).push d).push e)[w.heap.size + 4]? = _
  simp [Array.getElem_push]

set_option maxHeartbeats 1000000 in
theorem walk  (w : World) :
    Calls Try.prog 3 #[] w fun e w' => e = .returned (.bool true) ∧ Grown w w' := by
  go_enter Try.func3, Try.ntmps3
  go_wp2
  have hc : ∀ k : Nat, k < 11 → (w.alloc (.cells #[.int .i64 0, .int .i64 1, .int .i64 2, .int .i64 3, .int .i64 4, .int .i64 5, .int .i64 6, .int .i64 7, .int .i64 8, .int .i64 9, .int .i64 10] 22)).cell? ⟨w.heap.size, k, none⟩ = some (.int .i64 k) := by
    intro k hk
    have : k = 0 ∨ k = 1 ∨ k = 2 ∨ k = 3 ∨ k = 4 ∨ k = 5 ∨ k = 6 ∨ k = 7 ∨ k = 8 ∨ k = 9 ∨ k = 10 := by omega
    rcases this with rfl | rfl | rfl | rfl | rfl | rfl | rfl | rfl | rfl | rfl | rfl <;> simp [World.cell?_alloc_at]
  go_loop [9] (fun i => ∃ k : Nat, k ≤ 11 ∧ i = .int .i64 k) (fun i => 11 - (intOf i).toNat)
  case atStart => exact ⟨0, by omega, rfl⟩
  case round =>
    obtain ⟨k, hk, rfl⟩ := hrel
    by_cases hlt : k < 11
    · have hck := hc k hlt
      clear hc
      have hne : ((k : Int) != (k : Int)) = false := by simp
      go_wp2
      go_round
      case rel => exact ⟨k + 1, by omega, by go_num⟩
      case measure => simp [intOf]; omega
    · clear hc
      go_wp2_with fail
      refine (Try.slices_Equal_int (w.heap.size + 1) 0 10 10 (w.heap.size + 3) 0 10 10 [4000, 16, 12, 10, 200, 30, 60, 14, 13, 20] [4000, 16, 12, 10, 200, 30, 60, 14, 13, 20] _ (by decide) (by decide) (by decide) (by decide) (ten _ _ (at1 w _ _ _ _)) (ten _ _ (at3 w _ _ _ _))).mono ?_
      rintro e w1 ⟨rfl, q, rfl⟩
      rw [show (List.take 10 ([4000, 16, 12, 10, 200, 30, 60, 14, 13, 20] : List Int) == List.take 10 [4000, 16, 12, 10, 200, 30, 60, 14, 13, 20]) = true from by decide]
      go_wp2_with fail
      refine (Try.slices_Equal_int (w.heap.size + 2) 0 25 25 (w.heap.size + 4) 0 25 25 kinds kinds _ (by decide) (by decide) (by decide) (by decide) (kin _ _ ?_) (kin _ _ ?_)).mono ?_
      · exact at2 w _ _ _ _ _
      · exact at4 w _ _ _ _ _
      rintro e w1 ⟨rfl, q2, rfl⟩
      rw [show (List.take 25 kinds == List.take 25 kinds) = true from by decide]
      go_wp2
      go_ret
      exact ⟨rfl, by repeat (first | exact Grown.refl _ | apply Grown.drewN | apply Grown.drew | apply Grown.alloc)⟩
set_option maxRecDepth 100000 in
theorem lifted (os : Os) (started : os.Started) (H : Type) (enc : TypeId × Value → H) :
    ReturnsInHanded {} Try.checked os 3 .any (Rows.namesSpec.pre6 enc Try.prog Try.f3 Rows.namesRow.domain false) (Rows.namesSpec.post enc Try.prog Try.f3 false true false false) := by
  refine returnsInHanded_of_change (C := Try.checked) own started (by kernel_rfl) Try.func3
    (ChangeSpec.witness6 (enc := enc) (C := Try.checked) false ⟨#[], #[], []⟩ 8 (by kernel_rfl) (by kernel_rfl) (by kernel_rfl) (by kernel_rfl)) ?_
  intro W base args ds gs before hval0 hW hcnd _
  have hW' := hW
  obtain ⟨p, q, hA0, hV, rfl, hfz, hnd⟩ := hW
  have hA : DataW.TrodAll enc Try.prog W 0 (fun _ => true) true Try.f3.params.toList args.toList ds p := hA0
  rw [Try.params3] at hA
  obtain ⟨rfl, rfl, rfl⟩ := trodAll_none hA
  obtain ⟨rfl, rfl⟩ := trodVars_none hV
  clear hA0 hval0
  simp only [List.append_nil] at hW'
  refine (walk  W).mono fun e W' ⟨he, hg⟩ => ?_
  subst he
  exact ⟨_, rfl, post_of_same (pa := []) (pv := []) hW' (fun _ _ _ => (trodAll_cons_mk (shut_bool Try.underlying4 _) trodAll_mk0)) (fun sp _ => rfl) (fun _ _ => rfl) rfl
    (hg.frame _) hg.2.1 (ok_one (by kernel_rfl) rfl (okWide_bool_mk Try.underlying4 _))⟩

theorem over : Rows.namesRow.holds Try.pinned (OpenSpec.ofChange Rows.namesSpec) :=
  OpenClaim.holds_of_wide 3 Try.f3 rfl rfl rfl rfl rfl rfl rfl ⟨rfl, rfl, rfl, rfl, rfl⟩ rfl rfl rfl rfl rfl (by kernel_rfl) Try.func3 (by kernel_rfl)
    (of_decide_eq_true (by kernel_rfl)) (by unfold Func.isWrapper; first | (rw [if_pos (by decide +kernel)]; kernel_rfl) | (rw [if_neg (by decide +kernel)]; exact ⟨rfl, rfl⟩))
    (fun os started H enc _ => lifted os started H enc)

end Go.Proofs.Ytinbdnmaijkhoaa.names
namespace Go.Proofs.Ytinbdnmaijkhoaa
theorem names_holds : Rows.NamesSaid := names.over
#print axioms names_holds
end Go.Proofs.Ytinbdnmaijkhoaa
