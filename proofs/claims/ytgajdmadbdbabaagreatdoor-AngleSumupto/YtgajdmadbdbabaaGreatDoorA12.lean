/- Part 12 of the walks and of the mathematics under them: AWH BGC BGD BGE BPL BPM BPN MathX MathZ AWP AWI XA WI WJ WK WL WM XB WN. -/
import Derived.Test.YtgajdmadbdbabaaGreatDoorA11
import Derived.Test.YtgajdmadbdbabaaGreatDoorA7
import Derived.Deep.LoopGhost
import Derived.Test.YtgajdmadbdbabaaGreatDoorA6
import Derived.Test.YtgajdmadbdbabaaGreatDoorA10
import Derived.Deep.Cut
set_option maxHeartbeats 16000000
set_option maxRecDepth 100000
/- AWH -/
namespace Go.Proofs.YtgajdmadbdbabaaGreatDoor
open Go.RowKit Cx
theorem en_compasslaw_way (vs : Array Value) (w : World) : (callFunc 56 vs).run Tryz.prog w = .ok (.enter 56 vs) w := enters Tryz.func56 (by kernel_rfl) (by kernel_rfl) vs w
theorem con_way {s c : ByteArray} {rs rc : Rat} {k : Nat} (ts : TX k s rs) (tc : TX k c rc) (_ : 2 * k + 4 ≤ 4294967280) :
    Con Tryz.prog Pre 56 [Agg [Tx s, Tx c]] (Agg [Rt rc, Rt rs]) := by
  refine con_of (n := 10) Tryz.func56 rfl rfl (Nat.le_of_ble_eq_true rfl) ?_
  intro w a0 hp S0
  have HPRE : ∀ w', Below w.heap.size w w' → Pre w' := fun w' hb => hp.below hb
  refine wp_seq ?_
  refine region_abs [.alloc 67 (Agg [Tx s, Tx c]), .alloc 43 (Agg [Jus (.pointer none), Jus (.pointer none)])] ⟨S0, by decide +kernel⟩ (by kernel_rfl) (by kernel_rfl) rfl (by kernel_rfl) ?_ ?_
  · intro C
    refine ASteps.cons ?_ (ASteps.cons ?_ (ASteps.nil))
    · exact step_box rfl rfl (want_none rfl) rfl (no_fill (by kernel_rfl)) (opn_old C 0 (by kernel_rfl) rfl) (boxes_T (cok2 (nl_tx s) (nl_tx c)))
    · exact step_new [.pointer none, .pointer none] zero_V rfl rfl (want_none rfl) rfl (no_fill (by kernel_rfl)) allocs_V (by simp [notLimb]) (by kernel_rfl)
  intro γ a1 w1 S1
  replace S1 : AS w 10 [(2, Jus (.pointer (some ⟨γ 1, 0, none⟩))), (1, Jus (.pointer (some ⟨γ 0, 0, none⟩)))] [(γ 0, 67, Agg [Tx s, Tx c]), (γ 1, 43, Agg [Jus (.pointer none), Jus (.pointer none)])] a1 w1 := cast (by kernel_rfl) (S1.keep [1, 2])
  generalize γ 0 = G1_0 at S1
  generalize γ 1 = G1_1 at S1
  clear S0
  refine then_normal ?_
  refine wp_seq ?_
  refine region_abs [.pure (Jus (.pointer (some ⟨G1_0, 1, none⟩))), .pure (Tx c), .pure (Rt rc), .pure (Jus (.pointer (some ⟨G1_0, 0, none⟩))), .pure (Tx s), .pure (Rt rs), .pure (Agg [Rt rc, Rt rs]), .over 1 (Agg [Rt rc, Rt rs])] ⟨S1, by decide +kernel⟩ (by kernel_rfl) (by kernel_rfl) rfl (by kernel_rfl) ?_ ?_
  · intro C
    refine ASteps.cons ?_ (ASteps.cons ?_ (ASteps.cons ?_ (ASteps.cons ?_ (ASteps.cons ?_ (ASteps.cons ?_ (ASteps.cons ?_ (ASteps.cons ?_ (ASteps.nil))))))))
    · exact step_fieldAddr rfl rfl (want_none rfl) rfl (opn_old C 1 (by kernel_rfl) rfl) (field_T_1 _)
    · exact step_loadF (k := 0) rfl rfl rfl (want_none rfl) rfl (opn_new C 0 0 rfl rfl rfl rfl rfl rfl) (no_over (by kernel_rfl)) (part_agg rfl one_Q)
    · exact step_call HPRE rfl rfl (want_none rfl) rfl en_compassref_Of (Opns.cons (opn_new C 1 0 rfl rfl rfl rfl rfl rfl) Opns.nil) (con_Of tc (by first | decide | omega))
    · exact step_fieldAddr rfl rfl (want_none rfl) rfl (opn_old C 1 (by kernel_rfl) rfl) (field_T_0 _)
    · exact step_loadF (k := 0) rfl rfl rfl (want_none rfl) rfl (opn_new C 3 0 rfl rfl rfl rfl rfl rfl) (no_over (by kernel_rfl)) (part_agg rfl one_Q)
    · exact step_call HPRE rfl rfl (want_none rfl) rfl en_compassref_Of (Opns.cons (opn_new C 4 0 rfl rfl rfl rfl rfl rfl) Opns.nil) (con_Of ts (by first | decide | omega))
    · exact step_build rfl rfl (want_none rfl) rfl (Opns.cons (opn_new C 2 0 rfl rfl rfl rfl rfl rfl) (Opns.cons (opn_new C 5 1 rfl rfl rfl rfl rfl rfl) Opns.nil)) (builds_V _ _)
    · exact step_over C (k := 1) rfl rfl rfl (want_none rfl) rfl (opn_old C 0 (by kernel_rfl) rfl) (by decide) (one_over (by kernel_rfl)) (opn_new C 6 0 rfl rfl rfl rfl rfl rfl) (stores_V (cok2 (nl_rt rc) (nl_rt rs)))
  intro γ a2 w2 S2
  replace S2 : AS w 10 [(2, Jus (.pointer (some ⟨G1_1, 0, none⟩)))] [(G1_0, 67, Agg [Tx s, Tx c]), (G1_1, 43, Agg [Rt rc, Rt rs])] a2 w2 := cast (by kernel_rfl) (S2.keep [2])
  clear S1
  refine then_normal ?_
  refine wp_ret ?_
  exact S2.retCell 0 1 rfl rfl rfl loads_V fun v hv => ⟨S2.bel, v, rfl, hv⟩
theorem en_compasslaw_isT (vs : Array Value) (w : World) : (callFunc 53 vs).run Tryz.prog w = .ok (.enter 53 vs) w := enters Tryz.func53 (by kernel_rfl) (by kernel_rfl) vs w
theorem con_isT_f {s c : ByteArray} {rs rc : Rat} {k : Nat} (ts : TX k s rs) (tc : TX k c rc) (_ : 2 * k + 4 ≤ 4294967280) (h1 : rs = 0) (h2 : rc = 0) :
    Con Tryz.prog Pre 53 [Agg [Tx s, Tx c]] (Bo false) := by
  refine con_of (n := 15) Tryz.func53 rfl rfl (Nat.le_of_ble_eq_true rfl) ?_
  intro w a0 hp S0
  have HPRE : ∀ w', Below w.heap.size w w' → Pre w' := fun w' hb => hp.below hb
  refine wp_seq ?_
  refine region_abs [.alloc 67 (Agg [Tx s, Tx c]), .pure (Bo false)] ⟨S0, by decide +kernel⟩ (by kernel_rfl) (by kernel_rfl) rfl (by kernel_rfl) ?_ ?_
  · intro C
    refine ASteps.cons ?_ (ASteps.cons ?_ (ASteps.nil))
    · exact step_box rfl rfl (want_none rfl) rfl (no_fill (by kernel_rfl)) (opn_old C 0 (by kernel_rfl) rfl) (boxes_T (cok2 (nl_tx s) (nl_tx c)))
    · exact step_assign rfl rfl (want_none rfl) rfl (opn_const _)
  intro γ a1 w1 S1
  replace S1 : AS w 15 [(2, Bo false), (1, Jus (.pointer (some ⟨γ 0, 0, none⟩)))] [(γ 0, 67, Agg [Tx s, Tx c])] a1 w1 := cast (by kernel_rfl) (S1.keep [1, 2])
  generalize γ 0 = G1_0 at S1
  clear S0
  refine then_normal ?_
  refine wp_seq ?_
  refine region_abs [.pure (Jus (.pointer (some ⟨G1_0, 0, none⟩))), .pure (Tx s), .pure (Rt rs), .pure (Bo true), .pure (Bo false), .pure (Bo false), .pure (Jus (.pointer (some ⟨G1_0, 1, none⟩))), .pure (Tx c), .pure (Rt rc), .pure (Bo true), .pure (Bo false), .pure (Bo false), .pure (Bo false)] ⟨S1, by decide +kernel⟩ (by kernel_rfl) (by kernel_rfl) rfl (by kernel_rfl) ?_ ?_
  · intro C
    refine ASteps.cons ?_ (ASteps.cons ?_ (ASteps.cons ?_ (ASteps.cons ?_ (ASteps.cons ?_ (ASteps.cons ?_ (ASteps.cons ?_ (ASteps.cons ?_ (ASteps.cons ?_ (ASteps.cons ?_ (ASteps.cons ?_ (ASteps.cons ?_ (ASteps.cons ?_ (ASteps.nil)))))))))))))
    · exact step_fieldAddr rfl rfl (want_none rfl) rfl (opn_old C 1 (by kernel_rfl) rfl) (field_T_0 _)
    · exact step_loadF (k := 0) rfl rfl rfl (want_none rfl) rfl (opn_new C 0 0 rfl rfl rfl rfl rfl rfl) (no_over (by kernel_rfl)) (part_agg rfl one_Q)
    · exact step_call HPRE rfl rfl (want_none rfl) rfl en_compassref_Of (Opns.cons (opn_new C 1 0 rfl rfl rfl rfl rfl rfl) Opns.nil) (con_Of ts (by first | decide | omega))
    · exact step_call HPRE rfl rfl (want_none rfl) rfl en_compassref_Zero (Opns.cons (opn_new C 2 0 rfl rfl rfl rfl rfl rfl) Opns.nil) (con_Zero_t  h1)
    · exact step_not true rfl rfl (want_none rfl) rfl (opn_new C 3 0 rfl rfl rfl rfl rfl rfl)
    · exact step_move rfl rfl (want_none rfl) rfl (opn_new C 4 0 rfl rfl rfl rfl rfl rfl)
    · exact step_fieldAddr rfl rfl (want_yes C 5 0 false rfl rfl rfl rfl rfl rfl rfl) rfl (opn_old C 1 (by kernel_rfl) rfl) (field_T_1 _)
    · exact step_loadF (k := 0) rfl rfl rfl (want_yes C 5 1 false rfl rfl rfl rfl rfl rfl rfl) rfl (opn_new C 6 0 rfl rfl rfl rfl rfl rfl) (no_over (by kernel_rfl)) (part_agg rfl one_Q)
    · exact step_call HPRE rfl rfl (want_yes C 5 1 false rfl rfl rfl rfl rfl rfl rfl) rfl en_compassref_Of (Opns.cons (opn_new C 7 0 rfl rfl rfl rfl rfl rfl) Opns.nil) (con_Of tc (by first | decide | omega))
    · exact step_call HPRE rfl rfl (want_yes C 5 2 false rfl rfl rfl rfl rfl rfl rfl) rfl en_compassref_Zero (Opns.cons (opn_new C 8 0 rfl rfl rfl rfl rfl rfl) Opns.nil) (con_Zero_t  h2)
    · exact step_not true rfl rfl (want_yes C 5 1 false rfl rfl rfl rfl rfl rfl rfl) rfl (opn_new C 9 0 rfl rfl rfl rfl rfl rfl)
    · exact step_pick false rfl rfl (want_none rfl) rfl (opn_new C 5 0 rfl rfl rfl rfl rfl rfl) (opn_new C 10 1 rfl rfl rfl rfl rfl rfl)
    · exact step_assign rfl rfl (want_none rfl) rfl (opn_new C 11 0 rfl rfl rfl rfl rfl rfl)
  intro γ a2 w2 S2
  replace S2 : AS w 15 [(2, Bo false)] [(G1_0, 67, Agg [Tx s, Tx c])] a2 w2 := cast (by kernel_rfl) (S2.keep [2])
  clear S1
  refine then_normal ?_
  refine wp_ret ?_
  exact S2.ret 0 rfl rfl fun v hv => ⟨S2.bel, v, rfl, hv⟩
theorem con_isT_t1 {s c : ByteArray} {rs rc : Rat} {k : Nat} (ts : TX k s rs) (_ : TX k c rc) (_ : 2 * k + 4 ≤ 4294967280) (h1 : ¬ rs = 0) :
    Con Tryz.prog Pre 53 [Agg [Tx s, Tx c]] (Bo true) := by
  refine con_of (n := 15) Tryz.func53 rfl rfl (Nat.le_of_ble_eq_true rfl) ?_
  intro w a0 hp S0
  have HPRE : ∀ w', Below w.heap.size w w' → Pre w' := fun w' hb => hp.below hb
  refine wp_seq ?_
  refine region_abs [.alloc 67 (Agg [Tx s, Tx c]), .pure (Bo false)] ⟨S0, by decide +kernel⟩ (by kernel_rfl) (by kernel_rfl) rfl (by kernel_rfl) ?_ ?_
  · intro C
    refine ASteps.cons ?_ (ASteps.cons ?_ (ASteps.nil))
    · exact step_box rfl rfl (want_none rfl) rfl (no_fill (by kernel_rfl)) (opn_old C 0 (by kernel_rfl) rfl) (boxes_T (cok2 (nl_tx s) (nl_tx c)))
    · exact step_assign rfl rfl (want_none rfl) rfl (opn_const _)
  intro γ a1 w1 S1
  replace S1 : AS w 15 [(2, Bo false), (1, Jus (.pointer (some ⟨γ 0, 0, none⟩)))] [(γ 0, 67, Agg [Tx s, Tx c])] a1 w1 := cast (by kernel_rfl) (S1.keep [1, 2])
  generalize γ 0 = G1_0 at S1
  clear S0
  refine then_normal ?_
  refine wp_seq ?_
  refine region_abs [.pure (Jus (.pointer (some ⟨G1_0, 0, none⟩))), .pure (Tx s), .pure (Rt rs), .pure (Bo false), .pure (Bo true), .pure (Bo true), .skip, .skip, .skip, .skip, .skip, .pure (Bo true), .pure (Bo true)] ⟨S1, by decide +kernel⟩ (by kernel_rfl) (by kernel_rfl) rfl (by kernel_rfl) ?_ ?_
  · intro C
    refine ASteps.cons ?_ (ASteps.cons ?_ (ASteps.cons ?_ (ASteps.cons ?_ (ASteps.cons ?_ (ASteps.cons ?_ (ASteps.cons ?_ (ASteps.cons ?_ (ASteps.cons ?_ (ASteps.cons ?_ (ASteps.cons ?_ (ASteps.cons ?_ (ASteps.cons ?_ (ASteps.nil)))))))))))))
    · exact step_fieldAddr rfl rfl (want_none rfl) rfl (opn_old C 1 (by kernel_rfl) rfl) (field_T_0 _)
    · exact step_loadF (k := 0) rfl rfl rfl (want_none rfl) rfl (opn_new C 0 0 rfl rfl rfl rfl rfl rfl) (no_over (by kernel_rfl)) (part_agg rfl one_Q)
    · exact step_call HPRE rfl rfl (want_none rfl) rfl en_compassref_Of (Opns.cons (opn_new C 1 0 rfl rfl rfl rfl rfl rfl) Opns.nil) (con_Of ts (by first | decide | omega))
    · exact step_call HPRE rfl rfl (want_none rfl) rfl en_compassref_Zero (Opns.cons (opn_new C 2 0 rfl rfl rfl rfl rfl rfl) Opns.nil) (con_Zero_f  h1)
    · exact step_not false rfl rfl (want_none rfl) rfl (opn_new C 3 0 rfl rfl rfl rfl rfl rfl)
    · exact step_move rfl rfl (want_none rfl) rfl (opn_new C 4 0 rfl rfl rfl rfl rfl rfl)
    · exact step_skip rfl rfl (want_no C 5 0 false true rfl rfl rfl rfl rfl rfl rfl rfl)
    · exact step_skip rfl rfl (want_no C 5 1 false true rfl rfl rfl rfl rfl rfl rfl rfl)
    · exact step_skip rfl rfl (want_no C 5 1 false true rfl rfl rfl rfl rfl rfl rfl rfl)
    · exact step_skip rfl rfl (want_no C 5 2 false true rfl rfl rfl rfl rfl rfl rfl rfl)
    · exact step_skip rfl rfl (want_no C 5 1 false true rfl rfl rfl rfl rfl rfl rfl rfl)
    · exact step_pick true rfl rfl (want_none rfl) rfl (opn_new C 5 0 rfl rfl rfl rfl rfl rfl) (opn_const _)
    · exact step_assign rfl rfl (want_none rfl) rfl (opn_new C 11 0 rfl rfl rfl rfl rfl rfl)
  intro γ a2 w2 S2
  replace S2 : AS w 15 [(2, Bo true)] [(G1_0, 67, Agg [Tx s, Tx c])] a2 w2 := cast (by kernel_rfl) (S2.keep [2])
  clear S1
  refine then_normal ?_
  refine wp_ret ?_
  exact S2.ret 0 rfl rfl fun v hv => ⟨S2.bel, v, rfl, hv⟩
theorem con_isT_t2 {s c : ByteArray} {rs rc : Rat} {k : Nat} (ts : TX k s rs) (tc : TX k c rc) (_ : 2 * k + 4 ≤ 4294967280) (h1 : rs = 0) (h2 : ¬ rc = 0) :
    Con Tryz.prog Pre 53 [Agg [Tx s, Tx c]] (Bo true) := by
  refine con_of (n := 15) Tryz.func53 rfl rfl (Nat.le_of_ble_eq_true rfl) ?_
  intro w a0 hp S0
  have HPRE : ∀ w', Below w.heap.size w w' → Pre w' := fun w' hb => hp.below hb
  refine wp_seq ?_
  refine region_abs [.alloc 67 (Agg [Tx s, Tx c]), .pure (Bo false)] ⟨S0, by decide +kernel⟩ (by kernel_rfl) (by kernel_rfl) rfl (by kernel_rfl) ?_ ?_
  · intro C
    refine ASteps.cons ?_ (ASteps.cons ?_ (ASteps.nil))
    · exact step_box rfl rfl (want_none rfl) rfl (no_fill (by kernel_rfl)) (opn_old C 0 (by kernel_rfl) rfl) (boxes_T (cok2 (nl_tx s) (nl_tx c)))
    · exact step_assign rfl rfl (want_none rfl) rfl (opn_const _)
  intro γ a1 w1 S1
  replace S1 : AS w 15 [(2, Bo false), (1, Jus (.pointer (some ⟨γ 0, 0, none⟩)))] [(γ 0, 67, Agg [Tx s, Tx c])] a1 w1 := cast (by kernel_rfl) (S1.keep [1, 2])
  generalize γ 0 = G1_0 at S1
  clear S0
  refine then_normal ?_
  refine wp_seq ?_
  refine region_abs [.pure (Jus (.pointer (some ⟨G1_0, 0, none⟩))), .pure (Tx s), .pure (Rt rs), .pure (Bo true), .pure (Bo false), .pure (Bo false), .pure (Jus (.pointer (some ⟨G1_0, 1, none⟩))), .pure (Tx c), .pure (Rt rc), .pure (Bo false), .pure (Bo true), .pure (Bo true), .pure (Bo true)] ⟨S1, by decide +kernel⟩ (by kernel_rfl) (by kernel_rfl) rfl (by kernel_rfl) ?_ ?_
  · intro C
    refine ASteps.cons ?_ (ASteps.cons ?_ (ASteps.cons ?_ (ASteps.cons ?_ (ASteps.cons ?_ (ASteps.cons ?_ (ASteps.cons ?_ (ASteps.cons ?_ (ASteps.cons ?_ (ASteps.cons ?_ (ASteps.cons ?_ (ASteps.cons ?_ (ASteps.cons ?_ (ASteps.nil)))))))))))))
    · exact step_fieldAddr rfl rfl (want_none rfl) rfl (opn_old C 1 (by kernel_rfl) rfl) (field_T_0 _)
    · exact step_loadF (k := 0) rfl rfl rfl (want_none rfl) rfl (opn_new C 0 0 rfl rfl rfl rfl rfl rfl) (no_over (by kernel_rfl)) (part_agg rfl one_Q)
    · exact step_call HPRE rfl rfl (want_none rfl) rfl en_compassref_Of (Opns.cons (opn_new C 1 0 rfl rfl rfl rfl rfl rfl) Opns.nil) (con_Of ts (by first | decide | omega))
    · exact step_call HPRE rfl rfl (want_none rfl) rfl en_compassref_Zero (Opns.cons (opn_new C 2 0 rfl rfl rfl rfl rfl rfl) Opns.nil) (con_Zero_t  h1)
    · exact step_not true rfl rfl (want_none rfl) rfl (opn_new C 3 0 rfl rfl rfl rfl rfl rfl)
    · exact step_move rfl rfl (want_none rfl) rfl (opn_new C 4 0 rfl rfl rfl rfl rfl rfl)
    · exact step_fieldAddr rfl rfl (want_yes C 5 0 false rfl rfl rfl rfl rfl rfl rfl) rfl (opn_old C 1 (by kernel_rfl) rfl) (field_T_1 _)
    · exact step_loadF (k := 0) rfl rfl rfl (want_yes C 5 1 false rfl rfl rfl rfl rfl rfl rfl) rfl (opn_new C 6 0 rfl rfl rfl rfl rfl rfl) (no_over (by kernel_rfl)) (part_agg rfl one_Q)
    · exact step_call HPRE rfl rfl (want_yes C 5 1 false rfl rfl rfl rfl rfl rfl rfl) rfl en_compassref_Of (Opns.cons (opn_new C 7 0 rfl rfl rfl rfl rfl rfl) Opns.nil) (con_Of tc (by first | decide | omega))
    · exact step_call HPRE rfl rfl (want_yes C 5 2 false rfl rfl rfl rfl rfl rfl rfl) rfl en_compassref_Zero (Opns.cons (opn_new C 8 0 rfl rfl rfl rfl rfl rfl) Opns.nil) (con_Zero_f  h2)
    · exact step_not false rfl rfl (want_yes C 5 1 false rfl rfl rfl rfl rfl rfl rfl) rfl (opn_new C 9 0 rfl rfl rfl rfl rfl rfl)
    · exact step_pick false rfl rfl (want_none rfl) rfl (opn_new C 5 0 rfl rfl rfl rfl rfl rfl) (opn_new C 10 1 rfl rfl rfl rfl rfl rfl)
    · exact step_assign rfl rfl (want_none rfl) rfl (opn_new C 11 0 rfl rfl rfl rfl rfl rfl)
  intro γ a2 w2 S2
  replace S2 : AS w 15 [(2, Bo true)] [(G1_0, 67, Agg [Tx s, Tx c])] a2 w2 := cast (by kernel_rfl) (S2.keep [2])
  clear S1
  refine then_normal ?_
  refine wp_ret ?_
  exact S2.ret 0 rfl rfl fun v hv => ⟨S2.bel, v, rfl, hv⟩
theorem en_compassref_V_Prod (vs : Array Value) (w : World) : (callFunc 102 vs).run Tryz.prog w = .ok (.enter 102 vs) w := enters Tryz.func102 (by kernel_rfl) (by kernel_rfl) vs w
theorem con_Prod {ax az bx bz : Rat} {x z : Rat} {k : Nat} (fax : QS k ax) (faz : QS k az) (fbx : QS k bx) (fbz : QS k bz) (_ : x = ax * bx - az * bz) (_ : z = ax * bz + az * bx) (_ : 40 * k + 80 ≤ 35184372088640) :
    Con Tryz.prog Pre 102 [Agg [Rt ax, Rt az], Agg [Rt bx, Rt bz]] (Agg [Rt x, Rt z]) := by
  refine con_of (n := 33) Tryz.func102 rfl rfl (Nat.le_of_ble_eq_true rfl) ?_
  intro w a0 hp S0
  have HPRE : ∀ w', Below w.heap.size w w' → Pre w' := fun w' hb => hp.below hb
  refine wp_seq ?_
  refine region_abs [.alloc 43 (Agg [Rt ax, Rt az]), .alloc 43 (Agg [Rt bx, Rt bz]), .alloc 43 (Agg [Jus (.pointer none), Jus (.pointer none)])] ⟨S0, by decide +kernel⟩ (by kernel_rfl) (by kernel_rfl) rfl (by kernel_rfl) ?_ ?_
  · intro C
    refine ASteps.cons ?_ (ASteps.cons ?_ (ASteps.cons ?_ (ASteps.nil)))
    · exact step_box rfl rfl (want_none rfl) rfl (no_fill (by kernel_rfl)) (opn_old C 0 (by kernel_rfl) rfl) (boxes_V (cok2 (nl_rt ax) (nl_rt az)))
    · exact step_box rfl rfl (want_none rfl) rfl (no_fill (by kernel_rfl)) (opn_old C 1 (by kernel_rfl) rfl) (boxes_V (cok2 (nl_rt bx) (nl_rt bz)))
    · exact step_new [.pointer none, .pointer none] zero_V rfl rfl (want_none rfl) rfl (no_fill (by kernel_rfl)) allocs_V (by simp [notLimb]) (by kernel_rfl)
  intro γ a1 w1 S1
  replace S1 : AS w 33 [(4, Jus (.pointer (some ⟨γ 2, 0, none⟩))), (3, Jus (.pointer (some ⟨γ 1, 0, none⟩))), (2, Jus (.pointer (some ⟨γ 0, 0, none⟩)))] [(γ 0, 43, Agg [Rt ax, Rt az]), (γ 1, 43, Agg [Rt bx, Rt bz]), (γ 2, 43, Agg [Jus (.pointer none), Jus (.pointer none)])] a1 w1 := cast (by kernel_rfl) (S1.keep [2, 3, 4])
  generalize γ 0 = G1_0 at S1
  generalize γ 1 = G1_1 at S1
  generalize γ 2 = G1_2 at S1
  clear S0
  refine then_normal ?_
  refine wp_seq ?_
  obtain ⟨z1, ez1⟩ : ∃ q : Rat, q = ax * bx := ⟨_, rfl⟩
  have fz1 : QS (2 * k + 0) z1 := by rw [ez1]; exact QS.mono (fax.mul fbx) (by first | decide | omega)
  obtain ⟨z2, ez2⟩ : ∃ q : Rat, q = az * bz := ⟨_, rfl⟩
  have fz2 : QS (2 * k + 0) z2 := by rw [ez2]; exact QS.mono (faz.mul fbz) (by first | decide | omega)
  obtain ⟨z3, ez3⟩ : ∃ q : Rat, q = z1 - z2 := ⟨_, rfl⟩
  have fz3 : QS (4 * k + 1) z3 := by rw [ez3]; exact QS.mono (fz1.sub fz2) (by first | decide | omega)
  obtain ⟨z4, ez4⟩ : ∃ q : Rat, q = ax * bz := ⟨_, rfl⟩
  have fz4 : QS (2 * k + 0) z4 := by rw [ez4]; exact QS.mono (fax.mul fbz) (by first | decide | omega)
  obtain ⟨z5, ez5⟩ : ∃ q : Rat, q = az * bx := ⟨_, rfl⟩
  have fz5 : QS (2 * k + 0) z5 := by rw [ez5]; exact QS.mono (faz.mul fbx) (by first | decide | omega)
  obtain ⟨z6, ez6⟩ : ∃ q : Rat, q = z4 + z5 := ⟨_, rfl⟩
  have fz6 : QS (4 * k + 1) z6 := by rw [ez6]; exact QS.mono (fz4.add fz5) (by first | decide | omega)
  refine region_abs [.pure (Jus (.pointer (some ⟨G1_0, 0, none⟩))), .pure (Rt ax), .pure (Jus (.pointer (some ⟨G1_1, 0, none⟩))), .pure (Rt bx), .soft (RowS 41 2 [Rt ax, Rt bx]), .pure (Rt z1), .pure (Jus (.pointer (some ⟨G1_0, 1, none⟩))), .pure (Rt az), .pure (Jus (.pointer (some ⟨G1_1, 1, none⟩))), .pure (Rt bz), .soft (RowS 41 2 [Rt az, Rt bz]), .pure (Rt z2), .pure (Rt z3), .pure (Jus (.pointer (some ⟨G1_0, 0, none⟩))), .pure (Rt ax), .pure (Jus (.pointer (some ⟨G1_1, 1, none⟩))), .pure (Rt bz), .soft (RowS 41 2 [Rt ax, Rt bz]), .pure (Rt z4), .pure (Jus (.pointer (some ⟨G1_0, 1, none⟩))), .pure (Rt az), .pure (Jus (.pointer (some ⟨G1_1, 0, none⟩))), .pure (Rt bx), .soft (RowS 41 2 [Rt az, Rt bx]), .pure (Rt z5), .soft (RowS 41 2 [Rt z4, Rt z5]), .pure (Rt z6), .pure (Agg [Rt z3, Rt z6]), .over 2 (Agg [Rt z3, Rt z6])] ⟨S1, by decide +kernel⟩ (by kernel_rfl) (by kernel_rfl) rfl (by kernel_rfl) ?_ ?_
  · intro C
    refine ASteps.cons ?_ (ASteps.cons ?_ (ASteps.cons ?_ (ASteps.cons ?_ (ASteps.cons ?_ (ASteps.cons ?_ (ASteps.cons ?_ (ASteps.cons ?_ (ASteps.cons ?_ (ASteps.cons ?_ (ASteps.cons ?_ (ASteps.cons ?_ (ASteps.cons ?_ (ASteps.cons ?_ (ASteps.cons ?_ (ASteps.cons ?_ (ASteps.cons ?_ (ASteps.cons ?_ (ASteps.cons ?_ (ASteps.cons ?_ (ASteps.cons ?_ (ASteps.cons ?_ (ASteps.cons ?_ (ASteps.cons ?_ (ASteps.cons ?_ (ASteps.cons ?_ (ASteps.cons ?_ (ASteps.cons ?_ (ASteps.cons ?_ (ASteps.nil)))))))))))))))))))))))))))))
    · exact step_fieldAddr rfl rfl (want_none rfl) rfl (opn_old C 2 (by kernel_rfl) rfl) (field_V_0 _)
    · exact step_loadF (k := 0) rfl rfl rfl (want_none rfl) rfl (opn_new C 0 0 rfl rfl rfl rfl rfl rfl) (no_over (by kernel_rfl)) (part_agg rfl one_R)
    · exact step_fieldAddr rfl rfl (want_none rfl) rfl (opn_old C 1 (by kernel_rfl) rfl) (field_V_0 _)
    · exact step_loadF (k := 1) rfl rfl rfl (want_none rfl) rfl (opn_new C 2 0 rfl rfl rfl rfl rfl rfl) (no_over (by kernel_rfl)) (part_agg rfl one_R)
    · exact step_bslice rfl rfl (want_none rfl) rfl (Opns.cons (opn_new C 1 0 rfl rfl rfl rfl rfl rfl) (Opns.cons (opn_new C 3 1 rfl rfl rfl rfl rfl rfl) Opns.nil)) (bslice_R2 _ _)
    · exact step_callS HPRE rfl rfl (want_none rfl) rfl en_compassref_Mul (OpnsS.cons (opn_soft C 4 0 rfl rfl rfl rfl rfl rfl (by kernel_rfl)) OpnsS.nil) (con_Mul2 ez1 fax fbx (by first | decide | omega))
    · exact step_fieldAddr rfl rfl (want_none rfl) rfl (opn_old C 2 (by kernel_rfl) rfl) (field_V_1 _)
    · exact step_loadF (k := 0) rfl rfl rfl (want_none rfl) rfl (opn_new C 6 0 rfl rfl rfl rfl rfl rfl) (no_over (by kernel_rfl)) (part_agg rfl one_R)
    · exact step_fieldAddr rfl rfl (want_none rfl) rfl (opn_old C 1 (by kernel_rfl) rfl) (field_V_1 _)
    · exact step_loadF (k := 1) rfl rfl rfl (want_none rfl) rfl (opn_new C 8 0 rfl rfl rfl rfl rfl rfl) (no_over (by kernel_rfl)) (part_agg rfl one_R)
    · exact step_bslice rfl rfl (want_none rfl) rfl (Opns.cons (opn_new C 7 0 rfl rfl rfl rfl rfl rfl) (Opns.cons (opn_new C 9 1 rfl rfl rfl rfl rfl rfl) Opns.nil)) (bslice_R2 _ _)
    · exact step_callS HPRE rfl rfl (want_none rfl) rfl en_compassref_Mul (OpnsS.cons (opn_soft C 10 0 rfl rfl rfl rfl rfl rfl (by kernel_rfl)) OpnsS.nil) (con_Mul2 ez2 faz fbz (by first | decide | omega))
    · exact step_call HPRE rfl rfl (want_none rfl) rfl en_compassref_Sub (Opns.cons (opn_new C 5 0 rfl rfl rfl rfl rfl rfl) (Opns.cons (opn_new C 11 1 rfl rfl rfl rfl rfl rfl) Opns.nil)) (con_Sub ez3 fz1 fz2 (by first | decide | omega))
    · exact step_fieldAddr rfl rfl (want_none rfl) rfl (opn_old C 2 (by kernel_rfl) rfl) (field_V_0 _)
    · exact step_loadF (k := 0) rfl rfl rfl (want_none rfl) rfl (opn_new C 13 0 rfl rfl rfl rfl rfl rfl) (no_over (by kernel_rfl)) (part_agg rfl one_R)
    · exact step_fieldAddr rfl rfl (want_none rfl) rfl (opn_old C 1 (by kernel_rfl) rfl) (field_V_1 _)
    · exact step_loadF (k := 1) rfl rfl rfl (want_none rfl) rfl (opn_new C 15 0 rfl rfl rfl rfl rfl rfl) (no_over (by kernel_rfl)) (part_agg rfl one_R)
    · exact step_bslice rfl rfl (want_none rfl) rfl (Opns.cons (opn_new C 14 0 rfl rfl rfl rfl rfl rfl) (Opns.cons (opn_new C 16 1 rfl rfl rfl rfl rfl rfl) Opns.nil)) (bslice_R2 _ _)
    · exact step_callS HPRE rfl rfl (want_none rfl) rfl en_compassref_Mul (OpnsS.cons (opn_soft C 17 0 rfl rfl rfl rfl rfl rfl (by kernel_rfl)) OpnsS.nil) (con_Mul2 ez4 fax fbz (by first | decide | omega))
    · exact step_fieldAddr rfl rfl (want_none rfl) rfl (opn_old C 2 (by kernel_rfl) rfl) (field_V_1 _)
    · exact step_loadF (k := 0) rfl rfl rfl (want_none rfl) rfl (opn_new C 19 0 rfl rfl rfl rfl rfl rfl) (no_over (by kernel_rfl)) (part_agg rfl one_R)
    · exact step_fieldAddr rfl rfl (want_none rfl) rfl (opn_old C 1 (by kernel_rfl) rfl) (field_V_0 _)
    · exact step_loadF (k := 1) rfl rfl rfl (want_none rfl) rfl (opn_new C 21 0 rfl rfl rfl rfl rfl rfl) (no_over (by kernel_rfl)) (part_agg rfl one_R)
    · exact step_bslice rfl rfl (want_none rfl) rfl (Opns.cons (opn_new C 20 0 rfl rfl rfl rfl rfl rfl) (Opns.cons (opn_new C 22 1 rfl rfl rfl rfl rfl rfl) Opns.nil)) (bslice_R2 _ _)
    · exact step_callS HPRE rfl rfl (want_none rfl) rfl en_compassref_Mul (OpnsS.cons (opn_soft C 23 0 rfl rfl rfl rfl rfl rfl (by kernel_rfl)) OpnsS.nil) (con_Mul2 ez5 faz fbx (by first | decide | omega))
    · exact step_bslice rfl rfl (want_none rfl) rfl (Opns.cons (opn_new C 18 0 rfl rfl rfl rfl rfl rfl) (Opns.cons (opn_new C 24 1 rfl rfl rfl rfl rfl rfl) Opns.nil)) (bslice_R2 _ _)
    · exact step_callS HPRE rfl rfl (want_none rfl) rfl en_compassref_Add (OpnsS.cons (opn_soft C 25 0 rfl rfl rfl rfl rfl rfl (by kernel_rfl)) OpnsS.nil) (con_Add2 ez6 fz4 fz5 (by first | decide | omega))
    · exact step_build rfl rfl (want_none rfl) rfl (Opns.cons (opn_new C 12 0 rfl rfl rfl rfl rfl rfl) (Opns.cons (opn_new C 26 1 rfl rfl rfl rfl rfl rfl) Opns.nil)) (builds_V _ _)
    · exact step_over C (k := 2) rfl rfl rfl (want_none rfl) rfl (opn_old C 0 (by kernel_rfl) rfl) (by decide) (one_over (by kernel_rfl)) (opn_new C 27 0 rfl rfl rfl rfl rfl rfl) (stores_V (cok2 (nl_rt z3) (nl_rt z6)))
  intro γ a2 w2 S2
  replace S2 : AS w 33 [(4, Jus (.pointer (some ⟨G1_2, 0, none⟩)))] [(G1_0, 43, Agg [Rt ax, Rt az]), (G1_1, 43, Agg [Rt bx, Rt bz]), (G1_2, 43, Agg [Rt z3, Rt z6])] a2 w2 := cast (by kernel_rfl) (S2.keep [4])
  clear S1
  refine then_normal ?_
  refine wp_ret ?_
  obtain rfl : z3 = x := by (subst_vars; first | rfl | grind)
  obtain rfl : z6 = z := by (subst_vars; first | rfl | grind)
  exact S2.retCell 0 2 rfl rfl rfl loads_V fun v hv => ⟨S2.bel, v, rfl, hv⟩
theorem en_compasslaw_noT (vs : Array Value) (w : World) : (callFunc 54 vs).run Tryz.prog w = .ok (.enter 54 vs) w := enters Tryz.func54 (by kernel_rfl) (by kernel_rfl) vs w
theorem con_noT   :
    Con Tryz.prog Pre 54 [Agg [Tx ⟨#[]⟩, Tx ⟨#[]⟩]] (Bo true) := by
  refine con_of (n := 6) Tryz.func54 rfl rfl (Nat.le_of_ble_eq_true rfl) ?_
  intro w a0 hp S0
  have HPRE : ∀ w', Below w.heap.size w w' → Pre w' := fun w' hb => hp.below hb
  refine wp_seq ?_
  refine region_abs [.alloc 67 (Agg [Tx ⟨#[]⟩, Tx ⟨#[]⟩]), .pure (Bo false)] ⟨S0, by decide +kernel⟩ (by kernel_rfl) (by kernel_rfl) rfl (by kernel_rfl) ?_ ?_
  · intro C
    refine ASteps.cons ?_ (ASteps.cons ?_ (ASteps.nil))
    · exact step_box rfl rfl (want_none rfl) rfl (no_fill (by kernel_rfl)) (opn_old C 0 (by kernel_rfl) rfl) (boxes_T (cok2 (nl_tx ⟨#[]⟩) (nl_tx ⟨#[]⟩)))
    · exact step_assign rfl rfl (want_none rfl) rfl (opn_const _)
  intro γ a1 w1 S1
  replace S1 : AS w 6 [(2, Bo false), (1, Jus (.pointer (some ⟨γ 0, 0, none⟩)))] [(γ 0, 67, Agg [Tx ⟨#[]⟩, Tx ⟨#[]⟩])] a1 w1 := cast (by kernel_rfl) (S1.keep [1, 2])
  generalize γ 0 = G1_0 at S1
  clear S0
  refine then_normal ?_
  refine wp_seq ?_
  refine region_abs [.pure (Agg [Tx ⟨#[]⟩, Tx ⟨#[]⟩]), .pure (Agg [Tx ⟨#[]⟩, Tx ⟨#[]⟩]), .pure (Bo true), .pure (Bo true)] ⟨S1, by decide +kernel⟩ (by kernel_rfl) (by kernel_rfl) rfl (by kernel_rfl) ?_ ?_
  · intro C
    refine ASteps.cons ?_ (ASteps.cons ?_ (ASteps.cons ?_ (ASteps.cons ?_ (ASteps.nil))))
    · exact step_load (k := 0) rfl rfl rfl (want_none rfl) rfl (opn_old C 1 (by kernel_rfl) rfl) (no_over (by kernel_rfl)) loads_T
    · exact step_build rfl rfl (want_none rfl) rfl Opns.nil builds0_T
    · exact step_agg2 rfl rfl (want_none rfl) rfl (opn_new C 0 0 rfl rfl rfl rfl rfl rfl) (opn_new C 1 1 rfl rfl rfl rfl rfl rfl) (run_eql_T_t ⟨rfl, rfl⟩)
    · exact step_assign rfl rfl (want_none rfl) rfl (opn_new C 2 0 rfl rfl rfl rfl rfl rfl)
  intro γ a2 w2 S2
  replace S2 : AS w 6 [(2, Bo true)] [(G1_0, 67, Agg [Tx ⟨#[]⟩, Tx ⟨#[]⟩])] a2 w2 := cast (by kernel_rfl) (S2.keep [2])
  clear S1
  refine then_normal ?_
  refine wp_ret ?_
  exact S2.ret 0 rfl rfl fun v hv => ⟨S2.bel, v, rfl, hv⟩
end Go.Proofs.YtgajdmadbdbabaaGreatDoor
/- BGC -/
namespace Go.Proofs.YtgajdmadbdbabaaGreatDoor
open Go.RowKit Cx
attribute [local go_sem ↓] Go.wp_at_zero Go.wp_at_succ
theorem intAbs_calls {w : World} {g o : Nat} {px : Value} {x : Int} (h : At2 w g o) (hx : IV w px x) (sx : Small x.natAbs) :
    Calls Tryz.prog 142 #[.pointer (some ⟨g, o, none⟩), px] w fun e w' => e = .returned (.pointer (some ⟨g, o, none⟩)) ∧ Gave w g o (x.natAbs : Int) w' := by
  obtain ⟨g1, o1, a1, n1, c1, rfl, x0, x1, x2, xl⟩ := hx
  have H := hideIt2 h
  have HX := hideIt2 x2
  have SX := hideIt2 sx
  clear h x2 sx xl
  go_enter Tryz.func142, Tryz.ntmps142
  go_wp2_with fail
  refine (bigTwin_calls HX.out SX.out).mono ?_
  rintro e w1 ⟨hb1, v1, rfl, hv1⟩
  obtain ⟨ao, n, c, rfl, hn, hnb, hnz⟩ := big_len hv1
  have H1 := hideIt2 (And.intro hb1 hv1)
  clear hb1 hv1
  go_wp2_with fail
  refine (give_calls (n := n) (ao := ao) (c := c) false (H.out.below H1.out.1)).mono ?_
  rintro e w2 ⟨rfl, rfl⟩
  go_wp2
  go_ret
  refine ⟨rfl, w1, ao, n, c, H1.out.1, ?_, by rw [Int.natAbs_natCast]; exact H1.out.2⟩
  rw [natAbs_lt]
theorem intAbs_new {w : World} {g : Nat} {px : Value} {x : Int} (hk : Blk w g #[.bool false, .slice none 0 0] 116) (hx : IV w px x) (sx : Small x.natAbs) :
    Calls Tryz.prog 142 #[.pointer (some ⟨g, 0, none⟩), px] w fun e w' => e = .returned (.pointer (some ⟨g, 0, none⟩)) ∧ Save g w w' ∧ Own2 w' g (x.natAbs : Int) := by
  refine (intAbs_calls (At2.blk hk) hx sx).mono ?_
  rintro e w' ⟨rfl, hg⟩
  exact ⟨rfl, hg.save, (hg.own hk).1⟩
theorem intQuoRem_new {w : World} {gz gr : Nat} {pp pq : Value} {a b : Nat} (hz : Blk w gz #[.bool false, .slice none 0 0] 116) (hr : Blk w gr #[.bool false, .slice none 0 0] 116) (hne : gz ≠ gr) (hp : IV w pp a) (hq : IV w pq b) (sa : Small a) (sb : Small b) (hb0 : 0 < b) :
    Calls Tryz.prog 190 #[.pointer (some ⟨gz, 0, none⟩), pp, pq, .pointer (some ⟨gr, 0, none⟩)] w fun e w' => e = .returned (.tuple #[.pointer (some ⟨gz, 0, none⟩), .pointer (some ⟨gr, 0, none⟩)]) ∧ Own2 w' gz ((a / b : Nat) : Int) ∧ Own2 w' gr ((a % b : Nat) : Int) ∧ ∀ B, B ≤ gz → B ≤ gr → B ≤ w.heap.size → Below B w w' := by
  obtain ⟨g1, o1, a1, n1, c1, rfl, x0, x1, x2, xl⟩ := hp
  obtain ⟨g2, o2, a2, n2, c2, rfl, y0, y1, y2, yl⟩ := hq
  rw [natAbs_lt] at x0 y0
  rw [Int.natAbs_natCast] at x2 y2
  have HZ := hideIt2 hz
  have HR := hideIt2 hr
  have HX := hideIt2 x2
  have HY := hideIt2 y2
  have SA := hideIt2 sa
  have SB := hideIt2 sb
  have HS : Hid (∀ w', Below w.heap.size w w' → w'.cell? ⟨g1, o1, none⟩ = some (.bool false) ∧ w'.cell? ⟨g1, o1 + 1, none⟩ = some (.slice a1 n1 c1) ∧ w'.cell? ⟨g2, o2, none⟩ = some (.bool false) ∧ w'.cell? ⟨g2, o2 + 1, none⟩ = some (.slice a2 n2 c2)) := fun w' hb => ⟨(hb.cell (p := ⟨g1, o1, none⟩) xl).trans x0, (hb.cell (p := ⟨g1, o1 + 1, none⟩) xl).trans x1, (hb.cell (p := ⟨g2, o2, none⟩) yl).trans y0, (hb.cell (p := ⟨g2, o2 + 1, none⟩) yl).trans y1⟩
  clear hz hr x2 y2 sa sb xl yl
  go_enter Tryz.func190, Tryz.ntmps190
  go_wp2_with fail
  go_region_held3 (fun w' => w'.cell? ⟨g1, o1, none⟩ = some (.bool false) ∧ w'.cell? ⟨g1, o1 + 1, none⟩ = some (.slice a1 n1 c1) ∧ w'.cell? ⟨g2, o2, none⟩ = some (.bool false) ∧ w'.cell? ⟨g2, o2 + 1, none⟩ = some (.slice a2 n2 c2)) (first | (refine HS.out _ ?_; (repeat' first | with_reducible exact Below.refl _ _ | with_reducible refine Below.drew ?_); done) | go_keep) (fail)
  have HB0 : Hid (Below w.heap.size w w.drew) := Below.drew (Below.refl _ _)
  generalize w.drew = wa at *
  obtain ⟨z0, z1, z2, z3⟩ := HS.out wa HB0.out
  go_wp2_with fail
  go_region_held3 (fun w' => w'.cell? ⟨g1, o1, none⟩ = some (.bool false) ∧ w'.cell? ⟨g1, o1 + 1, none⟩ = some (.slice a1 n1 c1) ∧ w'.cell? ⟨g2, o2, none⟩ = some (.bool false) ∧ w'.cell? ⟨g2, o2 + 1, none⟩ = some (.slice a2 n2 c2)) (first | (refine HS.out _ (bel_bel HB0.out ?_); (repeat' first | with_reducible exact hbl1 | with_reducible exact Below.refl _ _ | with_reducible refine Below.drew ?_); done) | go_keep)
    (first
      | (go_at_call 219; refine (bigDiv_calls (w := wa.drew) (HX.out.below (bel_bel HB0.out (Below.drew (Below.refl _ _)))) (HY.out.below (bel_bel HB0.out (Below.drew (Below.refl _ _)))) SA.out SB.out hb0).mono ?_; rintro e w1 ⟨hb1, v1, v2, rfl, hv1, hv2⟩; obtain ⟨ao, n, c, rfl, hn, hnb, hnz⟩ := big_len hv1; obtain ⟨bo, m, d, rfl, hm, hmb, hmz⟩ := big_len hv2; have hbl1 : Below wa.heap.size wa w1 := bel_bel (Below.drew (Below.refl _ _)) hb1)
      )
  all_goals
    have HB1 := hideIt2 (bel_bel HB0.out hbl1)
    have HV := hideIt2 (And.intro hv1 hv2)
    clear hb1 hbl1 hv1 hv2
    have HZ1 := hideIt2 (HZ.out.below HB1.out HZ.out.lt)
    have HR1 := hideIt2 (HR.out.below HB1.out HR.out.lt)
    go_wp2_with fail
    refine (give_calls (n := n) (ao := ao) (c := c) false (At2.blk HZ1.out)).mono ?_
    rintro e w2 ⟨rfl, hw2⟩
    have hg1 : Gave w1 gz 0 ((a / b : Nat) : Int) w2 := ⟨w1, ao, n, c, Below.refl _ _, by rw [natAbs_lt, hw2, Bool.false_and], by rw [Int.natAbs_natCast]; exact HV.out.1⟩
    have HO1 := hideIt2 (hg1.own HZ1.out)
    have HG1 := hideIt2 hg1.save
    have HR2 := hideIt2 (HG1.out.blk HR1.out (fun e => hne e.symm))
    have HV2 := hideIt2 (HV.out.2.save ⟨_, _, HZ1.out, by simp [notLimb]⟩ HG1.out)
    clear hg1 hw2
    go_wp2_with fail
    refine (give_calls (n := m) (ao := bo) (c := d) false (At2.blk HR2.out)).mono ?_
    rintro e w3 ⟨rfl, hw3⟩
    have hg2 : Gave w2 gr 0 ((a % b : Nat) : Int) w3 := ⟨w2, bo, m, d, Below.refl _ _, by rw [natAbs_lt, hw3, Bool.false_and], by rw [Int.natAbs_natCast]; exact HV2.out⟩
    have HO2 := hideIt2 (hg2.own HR2.out)
    have HG2 := hideIt2 hg2.save
    have HO3 := hideIt2 (HO1.out.1.save (fun e => hne e) ⟨_, _, HR2.out, by simp [notLimb]⟩ HG2.out)
    clear hg2 hw3
    go_wp2
    exact bodyPost_ret (v := .tuple #[.pointer (some ⟨gz, 0, none⟩), .pointer (some ⟨gr, 0, none⟩)]) (by simp [results, Tryz.results190, go_sem]) rfl ⟨rfl, HO3.out, HO2.out.1, fun B h1 h2 h3 => ((HB1.out.mono h3).trans (HO1.out.2 B h1 (Nat.le_trans h3 HB1.out.size))).trans (HO2.out.2 B h2 (Nat.le_trans h3 (Nat.le_trans HB1.out.size HG1.out.size)))⟩
theorem gcd_step (a b : Nat) : Nat.gcd b (a % b) = Nat.gcd a b := by
  rw [Nat.gcd_comm b, ← Nat.gcd_rec, Nat.gcd_comm]
structure Cof (a b : Nat) (s t : Int) (n : Nat) : Prop where
  sum : t.natAbs * a + s.natAbs * b = n
  opp : (0 ≤ s ∧ t ≤ 0) ∨ (s ≤ 0 ∧ 0 ≤ t)
theorem Cof.next {a b n : Nat} {s t : Int} (h : Cof a b s t n) : Cof b (a % b) t (s - ((a / b : Nat) : Int) * t) n ∧ (s - ((a / b : Nat) : Int) * t).natAbs = s.natAbs + a / b * t.natAbs := by
  have e : (s - ((a / b : Nat) : Int) * t).natAbs = s.natAbs + a / b * t.natAbs := by
    rcases h.opp with ⟨h1, h2⟩ | ⟨h1, h2⟩
    · obtain ⟨u, rfl⟩ := Int.eq_ofNat_of_zero_le h1
      obtain ⟨v, hv⟩ := Int.eq_ofNat_of_zero_le (a := -t) (by omega)
      have ht : t = -(v : Int) := by omega
      subst ht
      rw [Int.natAbs_natCast, Int.natAbs_neg, Int.natAbs_natCast]
      have : (u : Int) - ((a / b : Nat) : Int) * -(v : Int) = ((u + a / b * v : Nat) : Int) := by
        rw [Int.natCast_add, Int.natCast_mul]; grind
      rw [this, Int.natAbs_natCast]
    · obtain ⟨v, rfl⟩ := Int.eq_ofNat_of_zero_le h2
      obtain ⟨u, hu⟩ := Int.eq_ofNat_of_zero_le (a := -s) (by omega)
      have hs : s = -(u : Int) := by omega
      subst hs
      rw [Int.natAbs_neg, Int.natAbs_natCast, Int.natAbs_natCast]
      have : -(u : Int) - ((a / b : Nat) : Int) * (v : Int) = -((u + a / b * v : Nat) : Int) := by
        rw [Int.natCast_add, Int.natCast_mul]; grind
      rw [this, Int.natAbs_neg, Int.natAbs_natCast]
  refine ⟨⟨?_, ?_⟩, e⟩
  · rw [e, ← h.sum]
    have hd := Nat.div_add_mod a b
    have : t.natAbs * a = t.natAbs * (b * (a / b)) + t.natAbs * (a % b) := by rw [← Nat.mul_add, hd]
    rw [this, Nat.add_mul]
    have h2 : a / b * t.natAbs * b = t.natAbs * (b * (a / b)) := by grind
    omega
  · have hq : (0 : Int) ≤ ((a / b : Nat) : Int) := Int.natCast_nonneg _
    rcases h.opp with ⟨h1, h2⟩ | ⟨h1, h2⟩
    · refine Or.inr ⟨h2, ?_⟩
      have := Int.mul_nonpos_of_nonneg_of_nonpos hq h2
      omega
    · refine Or.inl ⟨h2, ?_⟩
      have := Int.mul_nonneg hq h2
      omega
end Go.Proofs.YtgajdmadbdbabaaGreatDoor
/- BGD -/
namespace Go.Proofs.YtgajdmadbdbabaaGreatDoor
open Go.RowKit Cx
attribute [local go_sem ↓] Go.wp_at_zero Go.wp_at_succ
theorem mul_le_self {a b n : Nat} (h : a * b ≤ n) (hb : 0 < b) : a ≤ n := Nat.le_trans (Nat.le_mul_of_pos_right a hb) h
theorem apart_new {w : World} {g : Nat} {z : Int} (h : Own2 w g z) {g' : Nat} (hg : w.heap.size ≤ g') : Apart (.pointer (some ⟨g, 0, none⟩)) g' := apart_ne (Nat.ne_of_lt (Nat.lt_of_lt_of_le h.lt hg))
theorem Own2.blk {w : World} {g : Nat} {z : Int} (h : Own2 w g z) : ∃ ao n c, Blk w g #[.bool (decide (z < 0)), .slice ao n c] 116 ∧ (n = 0 ↔ z.natAbs = 0) := by
  obtain ⟨ao, n, c, h0, h1⟩ := h
  obtain ⟨_, _, _, e, _, _, hz⟩ := big_len h1
  cases e
  exact ⟨ao, n, c, h0, hz⟩
theorem intGCD_first {w : World} {g : Nat} {pb : Value} {b : Nat} (ha : Own2 w g ((0 : Nat) : Int)) (hb : IV w pb b) (sb : Small b) :
    Calls Tryz.prog 141 #[.pointer (some ⟨g, 0, none⟩), .pointer none, .pointer none, .pointer (some ⟨g, 0, none⟩), pb] w fun e w' => e = .returned (.pointer (some ⟨g, 0, none⟩)) ∧ Save g w w' ∧ Own2 w' g ((b : Nat) : Int) := by
  have HIB := hideIt2 hb
  obtain ⟨ao, n1, c1, hk, hz1⟩ := ha.blk
  obtain ⟨g2, o2, a2, n2, c2, rfl, y0, y1, y2, yl⟩ := hb
  have hn0 : n1 = 0 := hz1.2 rfl
  subst hn0
  have HK := hideIt2 hk
  have SB := hideIt2 sb
  obtain ⟨x0, x1⟩ : w.cell? ⟨g, 0, none⟩ = some (.bool (decide (((0 : Nat) : Int) < 0))) ∧ w.cell? ⟨g, 1, none⟩ = some (.slice ao 0 c1) := ⟨hk.cell 0, hk.cell 1⟩
  have HS : Hid (∀ w', Below w.heap.size w w' → w'.cell? ⟨g, 0, none⟩ = some (.bool (decide (((0 : Nat) : Int) < 0))) ∧ w'.cell? ⟨g, 1, none⟩ = some (.slice ao 0 c1) ∧ w'.cell? ⟨g2, o2, none⟩ = some (.bool (decide ((b : Int) < 0))) ∧ w'.cell? ⟨g2, o2 + 1, none⟩ = some (.slice a2 n2 c2)) := fun w' hb => ⟨(hb.cell (p := ⟨g, 0, none⟩) HK.out.lt).trans x0, (hb.cell (p := ⟨g, 1, none⟩) HK.out.lt).trans x1, (hb.cell (p := ⟨g2, o2, none⟩) yl).trans y0, (hb.cell (p := ⟨g2, o2 + 1, none⟩) yl).trans y1⟩
  clear hk y2 sb hz1 yl
  go_enter Tryz.func141, Tryz.ntmps141
  go_wp2_with fail
  go_region_held3 (fun w' => w'.cell? ⟨g, 0, none⟩ = some (.bool (decide (((0 : Nat) : Int) < 0))) ∧ w'.cell? ⟨g, 1, none⟩ = some (.slice ao 0 c1) ∧ w'.cell? ⟨g2, o2, none⟩ = some (.bool (decide ((b : Int) < 0))) ∧ w'.cell? ⟨g2, o2 + 1, none⟩ = some (.slice a2 n2 c2)) (first | (refine HS.out _ ?_; (repeat' first | with_reducible exact Below.refl _ _ | with_reducible refine Below.drew ?_); done) | go_keep) (fail)
  have HB0 : Hid (Below w.heap.size w w.drew) := Below.drew (Below.refl _ _)
  generalize w.drew = wa at *
  obtain ⟨z0, z1, z2, z3⟩ := HS.out wa HB0.out
  go_wp2_with fail
  go_region_held3 (fun w' => w'.cell? ⟨g, 0, none⟩ = some (.bool (decide (((0 : Nat) : Int) < 0))) ∧ w'.cell? ⟨g, 1, none⟩ = some (.slice ao 0 c1) ∧ w'.cell? ⟨g2, o2, none⟩ = some (.bool (decide ((b : Int) < 0))) ∧ w'.cell? ⟨g2, o2 + 1, none⟩ = some (.slice a2 n2 c2)) (first | (refine HS.out _ (bel_bel HB0.out ?_); (repeat' first | with_reducible exact Below.refl _ _ | with_reducible refine Below.drew ?_); done) | go_keep) (fail)
  have HB1 : Hid (Below w.heap.size w wa.drew) := bel_bel HB0.out (Below.drew (Below.refl _ _))
  generalize wa.drew = wb at *
  go_wp2_with fail
  refine (intAbs_calls (g := g) (o := 0) (w := wb) (At2.blk (HK.out.below HB1.out HK.out.lt)) (HIB.out.below HB1.out) (by rw [Int.natAbs_natCast]; exact SB.out)).mono ?_
  rintro e w2 ⟨rfl, hg⟩
  have HG := hideIt2 (And.intro hg.save (hg.own (HK.out.below HB1.out HK.out.lt)).1)
  clear hg
  go_wp2
  go_ret
  exact ⟨rfl, (Save.of HB1.out).trans HG.out.1, by have := HG.out.2; rwa [Int.natAbs_natCast] at this⟩
theorem intGCD_second {w : World} {g : Nat} {pb : Value} {a : Nat} (ha : Own2 w g (a : Int)) (h0 : 0 < a) (hb : IV w pb ((0 : Nat) : Int)) (sa : Small a) :
    Calls Tryz.prog 141 #[.pointer (some ⟨g, 0, none⟩), .pointer none, .pointer none, .pointer (some ⟨g, 0, none⟩), pb] w fun e w' => e = .returned (.pointer (some ⟨g, 0, none⟩)) ∧ Save g w w' ∧ Own2 w' g (a : Int) := by
  have HIA := hideIt2 ha.iv
  obtain ⟨ao, n1, c1, hk, hz1⟩ := ha.blk
  obtain ⟨g2, o2, a2, n2, c2, rfl, y0, y1, y2, yl⟩ := hb
  obtain ⟨_, _, _, e2, _, _, hz2⟩ := big_len y2
  cases e2
  have hn0 : n2 = 0 := hz2.2 rfl
  subst hn0
  have hna : ¬ n1 = 0 := fun e => by have := hz1.1 e; rw [Int.natAbs_natCast] at this; omega
  have hnb : ((n1 : Int) == 0) = false := beq_eq_false_iff_ne.mpr (by omega)
  have HK := hideIt2 hk
  have SA := hideIt2 sa
  obtain ⟨x0, x1⟩ : w.cell? ⟨g, 0, none⟩ = some (.bool (decide ((a : Int) < 0))) ∧ w.cell? ⟨g, 1, none⟩ = some (.slice ao n1 c1) := ⟨hk.cell 0, hk.cell 1⟩
  have HS : Hid (∀ w', Below w.heap.size w w' → w'.cell? ⟨g, 0, none⟩ = some (.bool (decide ((a : Int) < 0))) ∧ w'.cell? ⟨g, 1, none⟩ = some (.slice ao n1 c1) ∧ w'.cell? ⟨g2, o2, none⟩ = some (.bool (decide (((0 : Nat) : Int) < 0))) ∧ w'.cell? ⟨g2, o2 + 1, none⟩ = some (.slice a2 0 c2)) := fun w' hb => ⟨(hb.cell (p := ⟨g, 0, none⟩) HK.out.lt).trans x0, (hb.cell (p := ⟨g, 1, none⟩) HK.out.lt).trans x1, (hb.cell (p := ⟨g2, o2, none⟩) yl).trans y0, (hb.cell (p := ⟨g2, o2 + 1, none⟩) yl).trans y1⟩
  clear hk y2 sa hz1 hz2 yl
  go_enter Tryz.func141, Tryz.ntmps141
  go_wp2_with fail
  go_region_held3 (fun w' => w'.cell? ⟨g, 0, none⟩ = some (.bool (decide ((a : Int) < 0))) ∧ w'.cell? ⟨g, 1, none⟩ = some (.slice ao n1 c1) ∧ w'.cell? ⟨g2, o2, none⟩ = some (.bool (decide (((0 : Nat) : Int) < 0))) ∧ w'.cell? ⟨g2, o2 + 1, none⟩ = some (.slice a2 0 c2)) (first | (refine HS.out _ ?_; (repeat' first | with_reducible exact Below.refl _ _ | with_reducible refine Below.drew ?_); done) | go_keep) (fail)
  have HB0 : Hid (Below w.heap.size w w.drew) := Below.drew (Below.refl _ _)
  generalize w.drew = wa at *
  obtain ⟨z0, z1, z2, z3⟩ := HS.out wa HB0.out
  go_wp2_with fail
  go_region_held3 (fun w' => w'.cell? ⟨g, 0, none⟩ = some (.bool (decide ((a : Int) < 0))) ∧ w'.cell? ⟨g, 1, none⟩ = some (.slice ao n1 c1) ∧ w'.cell? ⟨g2, o2, none⟩ = some (.bool (decide (((0 : Nat) : Int) < 0))) ∧ w'.cell? ⟨g2, o2 + 1, none⟩ = some (.slice a2 0 c2)) (first | (refine HS.out _ (bel_bel HB0.out ?_); (repeat' first | with_reducible exact Below.refl _ _ | with_reducible refine Below.drew ?_); done) | go_keep) (fail)
  have HB1 : Hid (Below w.heap.size w wa.drew) := bel_bel HB0.out (Below.drew (Below.refl _ _))
  generalize wa.drew = wb at *
  go_wp2_with fail
  refine (intAbs_calls (g := g) (o := 0) (w := wb) (At2.blk (HK.out.below HB1.out HK.out.lt)) (HIA.out.below HB1.out) (by rw [Int.natAbs_natCast]; exact SA.out)).mono ?_
  rintro e w2 ⟨rfl, hg⟩
  have HG := hideIt2 (And.intro hg.save (hg.own (HK.out.below HB1.out HK.out.lt)).1)
  clear hg
  go_wp2
  go_ret
  exact ⟨rfl, (Save.of HB1.out).trans HG.out.1, by have := HG.out.2; rwa [Int.natAbs_natCast] at this⟩
end Go.Proofs.YtgajdmadbdbabaaGreatDoor
/- BGE -/
namespace Go.Proofs.YtgajdmadbdbabaaGreatDoor
open Go.RowKit Cx
attribute [local go_sem ↓] Go.wp_at_zero Go.wp_at_succ
theorem intGCD_both {w : World} {g : Nat} {pb : Value} {a b : Nat} (ha : Own2 w g (a : Int)) (hb : IV w pb (b : Int)) (ha0 : 0 < a) (hb0 : 0 < b) (sa : Small a) (sb : Small b) :
    Calls Tryz.prog 141 #[.pointer (some ⟨g, 0, none⟩), .pointer none, .pointer none, .pointer (some ⟨g, 0, none⟩), pb] w fun e w' => e = .returned (.pointer (some ⟨g, 0, none⟩)) ∧ Save g w w' ∧ Own2 w' g ((Nat.gcd a b : Nat) : Int) := by
  have HIA := hideIt2 ha.iv
  have HIB := hideIt2 hb
  obtain ⟨ao, n1, c1, hk, hz1⟩ := ha.blk
  obtain ⟨g2, o2, a2, n2, c2, rfl, y0, y1, y2, yl⟩ := hb
  obtain ⟨_, _, _, e2, _, _, hz2⟩ := big_len y2
  cases e2
  have hna : ¬ n1 = 0 := fun e => by have := hz1.1 e; rw [Int.natAbs_natCast] at this; omega
  have hnb : ¬ n2 = 0 := fun e => by have := hz2.1 e; rw [Int.natAbs_natCast] at this; omega
  have hna' : ((n1 : Int) == 0) = false := beq_eq_false_iff_ne.mpr (by omega)
  have hnb' : ((n2 : Int) == 0) = false := beq_eq_false_iff_ne.mpr (by omega)
  have HK := hideIt2 hk
  have SA := hideIt2 sa
  have SB := hideIt2 sb
  obtain ⟨x0, x1⟩ : w.cell? ⟨g, 0, none⟩ = some (.bool (decide ((a : Int) < 0))) ∧ w.cell? ⟨g, 1, none⟩ = some (.slice ao n1 c1) := ⟨hk.cell 0, hk.cell 1⟩
  clear hk y2 sa sb hz1 hz2 yl hna hnb
  go_enter Tryz.func141, Tryz.ntmps141
  go_wp2_with fail
  refine (intAbs_new (Blk.new w _ _) (HIA.out.below (below_new _ _)) (by rw [Int.natAbs_natCast]; exact SA.out)).mono ?_
  rintro e w1 ⟨rfl, hs1, ho1⟩
  rw [Int.natAbs_natCast] at ho1
  have HB1 := hideIt2 (bel_sav (below_new w _) hs1 (Nat.le_refl _))
  have HO1 := hideIt2 ho1
  clear hs1 ho1
  go_wp2_with fail
  refine (intAbs_new (Blk.new w1 _ _) (HIB.out.below (bel_bel HB1.out (below_new _ _))) (by rw [Int.natAbs_natCast]; exact SB.out)).mono ?_
  rintro e w2 ⟨rfl, hs2, ho2⟩
  rw [Int.natAbs_natCast] at ho2
  have hb2 := bel_sav (below_new w1 _) hs2 (Nat.le_refl _)
  have HB2 := hideIt2 (bel_bel HB1.out hb2)
  have HO12 := hideIt2 (HO1.out.below hb2)
  have HO2 := hideIt2 ho2
  clear hs2 ho2 hb2
  go_wp2_with fail
  refine (newInt_calls 1 (by decide) w2).mono ?_
  rintro e w3 ⟨hb3, g3, rfl, hg3, ho3⟩
  have HB3 := hideIt2 (bel_bel HB2.out hb3)
  have HO13 := hideIt2 (HO12.out.below hb3)
  have HO23 := hideIt2 (HO2.out.below hb3)
  have HO3 := hideIt2 ho3
  have HG3 := hideIt2 hg3
  clear hb3 ho3 hg3
  go_wp2_with fail
  refine (newInt_calls 0 (by decide) w3).mono ?_
  rintro e w4 ⟨hb4, g4, rfl, hg4, ho4⟩
  have HB4 := hideIt2 (bel_bel HB3.out hb4)
  have HO14 := hideIt2 (HO13.out.below hb4)
  have HO24 := hideIt2 (HO23.out.below hb4)
  have HO34 := hideIt2 (HO3.out.below hb4)
  have HO4 := hideIt2 ho4
  have HG12 : Hid (w.heap.size ≤ w1.heap.size) := HB1.out.size
  clear hb4 ho4 hg4
  go_wp2
  go_loopg [15, 16, 17, 18] b (fun k p q s t wr => ∃ (A B : Nat) (S T : Int) (gp gq gs gt : Nat), p = .pointer (some ⟨gp, 0, none⟩) ∧ q = .pointer (some ⟨gq, 0, none⟩) ∧ s = .pointer (some ⟨gs, 0, none⟩) ∧ t = .pointer (some ⟨gt, 0, none⟩) ∧ Own2 wr gp (A : Int) ∧ Own2 wr gq (B : Int) ∧ Own2 wr gs S ∧ Own2 wr gt T ∧ 0 < A ∧ B ≤ k ∧ Nat.gcd A B = Nat.gcd a b ∧ Small A ∧ Small B ∧ Cof A B S T b ∧ Below w.heap.size w wr ∧ w.heap.size ≤ gp ∧ w.heap.size ≤ gq)
  case atStart => exact ⟨a, b, 1, 0, _, _, _, _, rfl, rfl, rfl, rfl, HO14.out, HO24.out, HO34.out, HO4.out, ha0, Nat.le_refl _, rfl, SA.out, SB.out, ⟨by simp, Or.inl ⟨by decide, by decide⟩⟩, HB4.out, Nat.le_refl _, HG12.out⟩
  case round =>
    obtain ⟨A, B, S, T, gp, gq, gs, gt, rfl, rfl, rfl, rfl, hp, hq, hs, ht, hA0, hBk, hgcd, sA, sB, hcof, hbl, hgp, hgq⟩ := hrel
    have HP := hideIt2 hp
    have HQ := hideIt2 hq
    have HSS := hideIt2 hs
    have HTT := hideIt2 ht
    have HGC := hideIt2 hgcd
    have HSA := hideIt2 sA
    have HSB := hideIt2 sB
    have HC := hideIt2 hcof
    have HBL := hideIt2 hbl
    obtain ⟨bo, m, c, hkq, hzq⟩ := hq.blk
    obtain ⟨q0, q1⟩ : wr.cell? ⟨gq, 0, none⟩ = some (.bool (decide ((B : Int) < 0))) ∧ wr.cell? ⟨gq, 1, none⟩ = some (.slice bo m c) := ⟨hkq.cell 0, hkq.cell 1⟩
    rw [Int.natAbs_natCast] at hzq
    have HZQ := hideIt2 hzq
    clear hp hq hs ht hgcd sA sB hcof hbl hkq hzq
    by_cases hm : m = 0
    · have hB : B = 0 := HZQ.out.1 hm
      subst hm
      go_wp2_with fail
      refine (intSet_calls (g := g) (o := 0) (w := wr) (At2.blk (HK.out.below HBL.out HK.out.lt)) HP.out.iv (apart_ne (by have := HK.out.lt; omega)) (by rw [Int.natAbs_natCast]; exact HSA.out)).mono ?_
      rintro e w5 ⟨rfl, hg⟩
      have HG := hideIt2 (And.intro hg.save (hg.own (HK.out.below HBL.out HK.out.lt)).1)
      clear hg
      go_wp2
      go_ret
      refine ⟨rfl, (Save.of HBL.out).trans HG.out.1, ?_⟩
      rw [← HGC.out, hB, Nat.gcd_zero_right]
      exact HG.out.2
    · have hB0 : 0 < B := Nat.pos_of_ne_zero fun e => hm (HZQ.out.2 e)
      have hmp : (0 : Int) < (m : Int) := by omega
      have HM := hideIt2 hm
      clear hm
      go_wp2_with fail
      have HD1 := hideIt2 (below_new wr (.cells #[.bool false, .slice none 0 0] 116))
      have HD2 := hideIt2 (bel_bel HD1.out (below_new (wr.alloc (.cells #[.bool false, .slice none 0 0] 116)) (.cells #[.bool false, .slice none 0 0] 116)))
      have hK1 : Blk ((wr.alloc (.cells #[.bool false, .slice none 0 0] 116)).alloc (.cells #[.bool false, .slice none 0 0] 116)) wr.heap.size #[.bool false, .slice none 0 0] 116 := (Blk.new wr _ _).below (below_new _ _) (by simp)
      have hK2 : Blk ((wr.alloc (.cells #[.bool false, .slice none 0 0] 116)).alloc (.cells #[.bool false, .slice none 0 0] 116)) (wr.heap.size + 1) #[.bool false, .slice none 0 0] 116 := by
        have := Blk.new (wr.alloc (.cells #[.bool false, .slice none 0 0] 116)) #[.bool false, .slice none 0 0] 116
        simpa using this
      refine (intQuoRem_new hK1 hK2 (by omega) (HP.out.iv.below HD2.out) (HQ.out.iv.below HD2.out) HSA.out HSB.out hB0).mono ?_
      rintro e w5 ⟨rfl, hq5, hr5, hbel5⟩
      have hb5 : Below wr.heap.size wr w5 := HD2.out.trans (hbel5 _ (Nat.le_refl _) (Nat.le_succ _) HD2.out.size)
      have HB5 := hideIt2 hb5
      have HQ5 := hideIt2 hq5
      have HR5 := hideIt2 hr5
      have HOQ5 := hideIt2 (HQ.out.below hb5)
      have HOS5 := hideIt2 (HSS.out.below hb5)
      have HOT5 := hideIt2 (HTT.out.below hb5)
      have HBL5 := hideIt2 (bel_bel HBL.out hb5)
      have HSZ := hideIt2 HBL.out.size
      obtain ⟨hcof', hnat⟩ := HC.out.next
      have hT : T.natAbs ≤ b := mul_le_self (b := A) (by have := HC.out.sum; omega) hA0
      have hS : S.natAbs ≤ b := mul_le_self (b := B) (by have := HC.out.sum; omega) hB0
      have hT' : (S - ((A / B : Nat) : Int) * T).natAbs ≤ b := by
        have := hcof'.sum
        have h1 : (S - ((A / B : Nat) : Int) * T).natAbs * B ≤ (S - ((A / B : Nat) : Int) * T).natAbs * B + T.natAbs * (A % B) := Nat.le_add_right _ _
        refine mul_le_self (b := B) ?_ hB0
        omega
      have hDT : (((A / B : Nat) : Int) * T).natAbs ≤ b := by
        rw [Int.natAbs_mul, Int.natAbs_natCast]
        omega
      have hD : A / B ≤ A := Nat.div_le_self _ _
      have HN := hideIt2 (And.intro (small_le SB.out hT) (And.intro (small_le SB.out hS) (And.intro (small_le SB.out hDT) (And.intro (small_le HSA.out hD) hcof'))))
      clear hq5 hr5 hbel5 hb5 hK1 hK2 HD1 HD2 hcof' hnat hT hS hT' hDT hD
      go_wp2_with fail
      have HM1 := hideIt2 (below_new w5 (.cells #[.bool false, .slice none 0 0] 116))
      have HM2 := hideIt2 (bel_bel HM1.out (below_new (w5.alloc (.cells #[.bool false, .slice none 0 0] 116)) (.cells #[.bool false, .slice none 0 0] 116)))
      have hM1 : Blk ((w5.alloc (.cells #[.bool false, .slice none 0 0] 116)).alloc (.cells #[.bool false, .slice none 0 0] 116)) w5.heap.size #[.bool false, .slice none 0 0] 116 := (Blk.new w5 _ _).below (below_new _ _) (by simp)
      have hM2 : Blk ((w5.alloc (.cells #[.bool false, .slice none 0 0] 116)).alloc (.cells #[.bool false, .slice none 0 0] 116)) (w5.heap.size + 1) #[.bool false, .slice none 0 0] 116 := by
        have := Blk.new (w5.alloc (.cells #[.bool false, .slice none 0 0] 116)) #[.bool false, .slice none 0 0] 116
        simpa using this
      refine (intMul_new hM2 (HQ5.out.iv.below HM2.out) (HOT5.out.iv.below HM2.out) (apart_new HQ5.out (by omega)) (apart_new HOT5.out (by omega)) (by rw [Int.natAbs_natCast]; exact HN.out.2.2.2.1) HN.out.1).mono ?_
      rintro e w6 ⟨rfl, hs6, ho6, hh6⟩
      have hb6 : Below w5.heap.size w5 w6 := HM2.out.trans (hs6.below (by omega) HM2.out.size)
      have hM16 := hs6.blk hM1 (by omega)
      have HB6 := hideIt2 hb6
      have HO6 := hideIt2 ho6
      have HM16 := hideIt2 hM16
      have HOS6 := hideIt2 (HOS5.out.below hb6)
      clear hs6 ho6 hh6 hb6 hM1 hM2 hM16 HM1 HM2
      go_wp2_with fail
      refine (intSub_new HM16.out HOS6.out.iv HO6.out.iv (apart_new HOS5.out (Nat.le_refl _)) (apart_ne (by omega)) HN.out.2.1 HN.out.2.2.1).mono ?_
      rintro e w7 ⟨rfl, hs7, ho7, hh7⟩
      have hb7 : Below w5.heap.size w5 w7 := HB6.out.trans (hs7.below (Nat.le_refl _) HB6.out.size)
      have HB7 := hideIt2 (bel_bel HBL5.out hb7)
      have HO7 := hideIt2 ho7
      have HOT7 := hideIt2 (HOT5.out.below hb7)
      have HOQ7 := hideIt2 (HOQ5.out.below hb7)
      have HR7 := hideIt2 (HR5.out.below hb7)
      clear hs7 ho7 hh7 hb7
      go_wp2
      go_roundg (A % B)
      case measure => have := Nat.mod_lt A hB0; omega
      case rel => exact ⟨B, A % B, T, _, _, _, _, _, rfl, rfl, rfl, rfl, HOQ7.out, HR7.out, HOT7.out, HO7.out, hB0, Nat.le_refl _, (gcd_step A B).trans HGC.out, HSB.out, small_le HSB.out (Nat.le_of_lt (Nat.mod_lt A hB0)), HN.out.2.2.2.2, HB7.out, hgq, by have := HSZ.out; omega⟩
end Go.Proofs.YtgajdmadbdbabaaGreatDoor
/- BPL -/
namespace Go.Proofs.YtgajdmadbdbabaaGreatDoor
open Go.RowKit Cx
attribute [local go_sem ↓] Go.wp_at_zero Go.wp_at_succ
theorem own_one {w : World} {g : Nat} (h : Own2 w g ((1 : Nat) : Int)) : ∃ b1 o1 ca, Blk w g #[.bool false, .slice (some ⟨b1, o1, none⟩) 1 ca] 116 ∧ Sl w 81 (some ⟨b1, o1, none⟩) ca [1] b1 o1 := by
  obtain ⟨ao, n, c, hk, hn⟩ := h
  rw [Int.natAbs_natCast] at hn
  obtain ⟨l, hv, ht, hl⟩ := hn
  have hl1 : l = [1] := by
    match l, hl, ht with
    | [], hl, _ => simp [val] at hl
    | [x], hl, _ =>
      have : val [x] = x := by simp [val]
      rw [this] at hl
      rw [hl]
    | x :: y :: l, hl, ht =>
      exfalso
      have h1 := trim_pos ht (by simp)
      have h2 : pw ((x :: y :: l).length - 1) = 4294967296 * pw l.length := by
        show pw (l.length + 1) = _
        exact pw_succ _
      have h3 := pw_pos l.length
      rw [hl, h2] at h1
      omega
  subst hl1
  have hv' := hv
  rcases hv with ⟨_, ⟨e, _⟩ | ⟨b, off, cap, e, _, _, _, hseg⟩⟩
  · cases e
  · cases e
    obtain ⟨ao', ca', b', o', e', hs⟩ := hv'.sl32
    cases e'
    have hidx := hs.idx 0 (by simp) w
    rw [show (Instr.indexAt 81 (.slice (some ⟨b, off, none⟩) [1].length c) (.int .i64 ((0 : Nat) : Int))).run Tryz.prog w = .ok (.pointer (some ⟨b, off, none⟩)) w from by
      have he : Tryz.prog.elem 81 = 168 := by simp [Program.elem, Tryz.underlying81]
      rw [run_indexAt_slice (h := by rw [he]; exact Tryz.underlying81), if_pos (by simp), he, Tryz.sizeOf168]
      simp [Result.andThen, Addr.add]] at hidx
    simp at hidx
    obtain ⟨rfl, rfl⟩ := hidx
    exact ⟨_, _, _, by simpa using hk, hs⟩
theorem isInt64_one {w : World} {g : Nat} (h : Own2 w g ((1 : Nat) : Int)) :
    Calls Tryz.prog 143 #[.pointer (some ⟨g, 0, none⟩)] w fun e w' => w' = w ∧ e = .returned (.bool true) := by
  obtain ⟨b1, o1, ca, hk, hs⟩ := own_one h
  obtain ⟨x0, x1⟩ : w.cell? ⟨g, 0, none⟩ = some (.bool false) ∧ w.cell? ⟨g, 1, none⟩ = some (.slice (some ⟨b1, o1, none⟩) 1 ca) := ⟨hk.cell 0, hk.cell 1⟩
  have HS := hideIt2 hs
  clear hk hs h
  go_enter Tryz.func143, Tryz.ntmps143
  go_wp2_with fail
  refine (bigLength_walk (la := [1]) HS.out (by simp) 0 rfl (by simp [nth])).mono ?_
  rintro e w1 ⟨hw1, n, rfl, hn1, hn2, _, _⟩
  subst hw1
  have hlt : ((0 * 32 + n : Nat) : Int) < 64 := by omega
  go_wp2
  go_ret
  exact ⟨rfl, rfl⟩
theorem uint64_one {w : World} {g : Nat} (h : Own2 w g ((1 : Nat) : Int)) :
    Calls Tryz.prog 194 #[.pointer (some ⟨g, 0, none⟩)] w fun e w' => w' = w ∧ e = .returned (.int .u64 1) := by
  obtain ⟨b1, o1, ca, hk, ha⟩ := own_one h
  obtain ⟨x0, x1⟩ : w.cell? ⟨g, 0, none⟩ = some (.bool false) ∧ w.cell? ⟨g, 1, none⟩ = some (.slice (some ⟨b1, o1, none⟩) 1 ca) := ⟨hk.cell 0, hk.cell 1⟩
  have hia : ∀ wx, (Instr.indexAt 81 (.slice (some ⟨b1, o1, none⟩) 1 ca) (.int .i64 0)).run Tryz.prog wx = .ok (.pointer (some ⟨b1, o1, none⟩)) wx := ha.idx 0 (by simp)
  have hca : w.cell? ⟨b1, o1, none⟩ = some (.int .u32 ((1 : Nat) : Int)) := ha.seg 0 (by simp)
  clear hk ha h
  go_enter Tryz.func194, Tryz.ntmps194
  go_wp2
  go_ret
  exact ⟨rfl, by first | rfl | simp⟩
theorem int64_one {w : World} {g : Nat} (h : Own2 w g ((1 : Nat) : Int)) :
    Calls Tryz.prog 144 #[.pointer (some ⟨g, 0, none⟩)] w fun e w' => w' = w ∧ e = .returned (.int .i64 1) := by
  have HO := hideIt2 h
  obtain ⟨b1, o1, ca, hk, _⟩ := own_one h
  obtain ⟨x0, x1⟩ : w.cell? ⟨g, 0, none⟩ = some (.bool false) ∧ w.cell? ⟨g, 1, none⟩ = some (.slice (some ⟨b1, o1, none⟩) 1 ca) := ⟨hk.cell 0, hk.cell 1⟩
  clear hk h
  go_enter Tryz.func144, Tryz.ntmps144
  go_wp2_with fail
  refine (uint64_one HO.out).mono ?_
  rintro e w1 ⟨hw1, rfl⟩
  subst hw1
  go_wp2
  go_ret
  exact ⟨rfl, by first | rfl | simp⟩
end Go.Proofs.YtgajdmadbdbabaaGreatDoor
/- BPM -/
namespace Go.Proofs.YtgajdmadbdbabaaGreatDoor
open Go.RowKit Cx
attribute [local go_sem ↓] Go.wp_at_zero Go.wp_at_succ
theorem intGCD_calls {w : World} {g : Nat} {pb : Value} {a b : Nat} (ha : Own2 w g (a : Int)) (hb : IV w pb (b : Int)) (sa : Small a) (sb : Small b) :
    Calls Tryz.prog 141 #[.pointer (some ⟨g, 0, none⟩), .pointer none, .pointer none, .pointer (some ⟨g, 0, none⟩), pb] w fun e w' => e = .returned (.pointer (some ⟨g, 0, none⟩)) ∧ Save g w w' ∧ Own2 w' g ((Nat.gcd a b : Nat) : Int) := by
  rcases Nat.eq_zero_or_pos a with h | h
  · subst h
    rw [Nat.gcd_zero_left]
    exact intGCD_first ha hb sb
  · rcases Nat.eq_zero_or_pos b with h' | h'
    · subst h'
      rw [Nat.gcd_zero_right]
      exact intGCD_second ha h hb sa
    · exact intGCD_both ha hb h h' sa sb
def gcds (ss : List ByteArray) : Nat := ss.foldl (fun g s => Nat.gcd g (rd s.data.toList).num.natAbs) 0
theorem gcds_take {ss : List ByteArray} {k : Nat} (h : k < ss.length) : gcds (ss.take (k + 1)) = Nat.gcd (gcds (ss.take k)) (rd (ss[k]).data.toList).num.natAbs := by
  unfold gcds
  rw [List.take_succ_eq_append_getElem h, List.foldl_append]
  rfl
theorem gcd_lt {a b K : Nat} (ha : a < 2 ^ K) (hb : b < 2 ^ K) : Nat.gcd a b < 2 ^ K := by
  rcases Nat.eq_zero_or_pos a with h | h
  · rw [h, Nat.gcd_zero_left]; exact hb
  · exact Nat.lt_of_le_of_lt (Nat.gcd_le_left b h) ha
theorem gcds_lt {ss : List ByteArray} {K : Nat} (h : ∀ s ∈ ss, QS K (rd s.data.toList)) : ∀ (l : List ByteArray) (g : Nat), g < 2 ^ K → (∀ s ∈ l, s ∈ ss) → l.foldl (fun g s => Nat.gcd g (rd s.data.toList).num.natAbs) g < 2 ^ K
  | [], _, hg, _ => hg
  | s :: l, _, hg, hl => gcds_lt h l _ (gcd_lt hg (h s (hl s List.mem_cons_self)).num) (fun t ht => hl t (List.mem_cons_of_mem _ ht))
theorem gcds_zero {ss : List ByteArray} (h : ∀ (i : Nat) (hi : i < ss.length), rd (ss[i]).data.toList = 0) : gcds ss = 0 := by
  have key : ∀ (l : List ByteArray), (∀ s ∈ l, rd s.data.toList = 0) → l.foldl (fun g s => Nat.gcd g (rd s.data.toList).num.natAbs) 0 = 0 := by
    intro l
    induction l with
    | nil => intro _; rfl
    | cons s l ih =>
      intro hl
      have e := hl s List.mem_cons_self
      show l.foldl _ (Nat.gcd 0 (rd s.data.toList).num.natAbs) = 0
      rw [e]
      exact ih fun t ht => hl t (List.mem_cons_of_mem _ ht)
  exact key ss fun s hs => by
    obtain ⟨i, hi, e⟩ := List.getElem_of_mem hs
    rw [← e]
    exact h i hi
end Go.Proofs.YtgajdmadbdbabaaGreatDoor
/- BPN -/
namespace Go.Proofs.YtgajdmadbdbabaaGreatDoor
open Go.RowKit Cx
attribute [local go_sem ↓] Go.wp_at_zero Go.wp_at_succ
theorem refPlainA_walk {w : World} {b off cap b2 o2 c2 : Nat} {ss : List ByteArray} (i0 : Nat) (hi0 : i0 < ss.length) (hA : w.cell? ⟨b2, o2, none⟩ = some (.int .i64 (i0 : Int))) (hA2 : b2 < w.heap.size) (ha : rd (ss[i0]).data.toList ≠ 0 → 0 < (rd (ss[i0]).data.toList).num) (h : SRow w (.slice (some ⟨b, off, none⟩) ss.length cap) ss) (hm : MaxL w) (hl : ∀ s ∈ ss, s.size ≤ 4294967280) (hn : ss.length ≤ 1000000)
    (hr : ∀ s ∈ ss, right s) {K : Nat} (hq : ∀ s ∈ ss, QS K (rd s.data.toList)) (hK : K ≤ 35184372088640) (hd : ∀ s ∈ ss, (rd s.data.toList).den = 1) (hg : gcds ss = 1)
    (hs : rd (ss[i0]).data.toList = 0 → ∀ (j : Nat) (hj : j < ss.length), (∀ (i : Nat) (hi : i < ss.length), i < j → rd (ss[i]).data.toList = 0) → rd (ss[j]).data.toList ≠ 0 → 0 < (rd (ss[j]).data.toList).num) :
    Calls Tryz.prog 91 #[.slice (some ⟨b, off, none⟩) ss.length cap, .slice (some ⟨b2, o2, none⟩) 1 c2] w fun e w' => Below w.heap.size w w' ∧ e = .returned (.bool true) := by
  have HR := hideIt2 h
  have HM := hideIt2 hm
  have HL := hideIt2 hl
  have HRR := hideIt2 hr
  have HQ := hideIt2 hq
  have HK := hideIt2 hK
  have HD := hideIt2 hd
  have HG := hideIt2 hg
  have HS := hideIt2 hs
  have HA := hideIt2 (And.intro hA (And.intro hA2 ha))
  have hidA : ∀ wx, (Instr.indexAt 160 (.slice (some ⟨b2, o2, none⟩) 1 c2) (.int .i64 0)).run Tryz.prog wx = .ok (.pointer (some ⟨b2, o2, none⟩)) wx := fun wx => by
    have he : Tryz.prog.elem 160 = 3 := by simp [Program.elem, Tryz.underlying160]
    rw [run_indexAt_slice (h := by rw [he]; exact Tryz.underlying160), if_pos (by simp), he, Tryz.sizeOf3]
    simp [Result.andThen, Addr.add]
  clear h hm hl hr hq hK hd hg hs hA hA2 ha
  go_enter Tryz.func91, Tryz.ntmps91
  go_wp2_with fail
  refine (refRight_calls HR.out HM.out HL.out hn).mono ?_
  rintro e w1 ⟨hb1, r, rfl, hri⟩
  have hrt : r = true := hri.2 HRR.out
  subst hrt
  have HB1 := hideIt2 hb1
  clear hb1 hri
  go_wp2
  go_loopw [21] (fun i wr => ∃ k : Nat, k ≤ ss.length ∧ i = .int .i64 (k : Int) ∧ Below w.heap.size w wr ∧ Own2 wr w1.heap.size ((gcds (ss.take k) : Nat) : Int)) (fun i _ => ss.length - (intOf i).toNat)
  case atStart =>
    refine ⟨0, Nat.zero_le _, rfl, bel_bel HB1.out (below_new _ _), ?_⟩
    rw [List.take_zero]
    exact ⟨none, 0, 0, Blk.new _ _ _, NatN.nil _ _ _⟩
  case round =>
    obtain ⟨k, hkl, rfl, hbel, ho⟩ := hrel
    have HBL := hideIt2 hbel
    have HO := hideIt2 ho
    clear hbel ho
    by_cases hend : k = ss.length
    · have hO1 : Own2 wr w1.heap.size ((1 : Nat) : Int) := by
        have := HO.out
        rw [hend, List.take_length, HG.out] at this
        exact this
      have HO1 := hideIt2 hO1
      clear hO1
      subst hend
      go_wp2_with fail
      refine (isInt64_one HO1.out).mono ?_
      rintro e w2 ⟨hw2, rfl⟩
      subst hw2
      go_wp2_with fail
      refine (int64_one HO1.out).mono ?_
      rintro e w2 ⟨hw2, rfl⟩
      subst hw2
      go_wp2
      go_loopw [48] (fun i wx => ∃ k : Nat, k ≤ 1 ∧ i = .int .i64 (k : Int) ∧ Below w.heap.size w wx ∧ (k = 1 → rd (ss[i0]).data.toList = 0)) (fun i _ => 1 - (intOf i).toNat)
      case atStart => exact ⟨0, by omega, rfl, HBL.out, fun h => absurd h (by omega)⟩
      case round =>
        obtain ⟨ka, hka, rfl, hbela, hka0⟩ := hrel
        have HBA := hideIt2 hbela
        have HKA := hideIt2 hka0
        clear hbela hka0
        by_cases hka1 : ka = 1
        · subst hka1
          have HSS := hideIt2 (HS.out (HKA.out rfl))
          go_wp2
          go_loopw [65] (fun i wr => ∃ k : Nat, k ≤ ss.length ∧ i = .int .i64 (k : Int) ∧ Below w.heap.size w wr ∧ ∀ (i : Nat) (hi : i < ss.length), i < k → rd (ss[i]).data.toList = 0) (fun i _ => ss.length - (intOf i).toNat)
          case atStart => exact ⟨0, Nat.zero_le _, rfl, HBA.out, fun i hi h => absurd h (Nat.not_lt_zero _)⟩
          case round =>
            obtain ⟨k, hkl, rfl, hbel3, hzero⟩ := hrel
            have HB3 := hideIt2 hbel3
            have HZ := hideIt2 hzero
            clear hbel3 hzero
            by_cases hend : k = ss.length
            · exfalso
              have h0 := gcds_zero (ss := ss) fun i hi => HZ.out i hi (by omega)
              rw [HG.out] at h0
              omega
            · have hlt : k < ss.length := by omega
              have hidx := srow_idx (b := b) (off := off) (cap := cap) hlt
              obtain ⟨b', off', cap', e, hbl, hcells⟩ := HR.out
              cases e
              have hp := hcells k hlt
              obtain ⟨s, hs⟩ : ∃ s, ss[k] = s := ⟨_, rfl⟩
              have hmem : s ∈ ss := hs ▸ List.getElem_mem hlt
              have hsz := HL.out s hmem
              rw [hs] at hp
              have z0 := (HB3.out.cell (p := ⟨b, off + k, none⟩) hbl).trans hp
              have HMEM := hideIt2 (And.intro hs hmem)
              clear hp hcells hs hmem
              go_wp2_with fail
              refine (refOfS_calls s _ (HM.out.below HB3.out) hsz).mono ?_
              rintro e w4 ⟨hb4, v4, rfl, hv4⟩
              have H4 := hideIt2 (And.intro (bel_bel HB3.out hb4) hv4)
              clear hb4 hv4
              go_wp2_with fail
              refine (ratSign_calls H4.out.2).mono ?_
              rintro e w5 ⟨hb5, rfl⟩
              have H5 := hideIt2 (bel_bel H4.out.1 hb5)
              clear hb5
              by_cases hz : rd s.data.toList = 0
              · have hsg : sgn (rd s.data.toList).num = 0 := by rw [hz]; rfl
                rw [hsg]
                have HZZ := hideIt2 hz
                clear hz hsg
                go_wp2
                go_roundw
                case rel =>
                  refine ⟨k + 1, hlt, by go_num, H5.out, fun i hi hik => ?_⟩
                  by_cases hik' : i = k
                  · subst hik'
                    rw [HMEM.out.1]
                    exact HZZ.out
                  · exact HZ.out i hi (by omega)
                case measure => simp [intOf]; omega
              · have hpos : 0 < (rd s.data.toList).num := by
                  have := HSS.out k hlt HZ.out
                  rw [HMEM.out.1] at this
                  exact this hz
                have hsg : sgn (rd s.data.toList).num = 1 := by unfold sgn; rw [if_neg (by omega), if_neg (by omega)]
                rw [hsg]
                clear hz hpos hsg
                go_wp2
                go_ret
                exact ⟨H5.out, by first | rfl | simp⟩
        · have hk0 : ka = 0 := by omega
          subst hk0
          have hidx := srow_idx (b := b) (off := off) (cap := cap) hi0
          obtain ⟨b', off', cap', e, hbl, hcells⟩ := HR.out
          cases e
          have hp := hcells i0 hi0
          obtain ⟨s, hs⟩ : ∃ s, ss[i0] = s := ⟨_, rfl⟩
          have hmem : s ∈ ss := hs ▸ List.getElem_mem hi0
          have hsz := HL.out s hmem
          rw [hs] at hp
          have z0 := (HBA.out.cell (p := ⟨b, off + i0, none⟩) hbl).trans hp
          have z1 := (HBA.out.cell (p := ⟨b2, o2, none⟩) HA.out.2.1).trans HA.out.1
          have HMEM := hideIt2 (And.intro hs hmem)
          clear hp hcells hs hmem
          go_wp2_with fail
          refine (refOfS_calls s _ (HM.out.below HBA.out) hsz).mono ?_
          rintro e w4 ⟨hb4, v4, rfl, hv4⟩
          have H4 := hideIt2 (And.intro (bel_bel HBA.out hb4) hv4)
          clear hb4 hv4
          go_wp2_with fail
          refine (ratSign_calls H4.out.2).mono ?_
          rintro e w5 ⟨hb5, rfl⟩
          have H5 := hideIt2 (bel_bel H4.out.1 hb5)
          clear hb5
          by_cases hz : rd s.data.toList = 0
          · have hsg : sgn (rd s.data.toList).num = 0 := by rw [hz]; rfl
            rw [hsg]
            have HZZ := hideIt2 hz
            clear hz hsg
            go_wp2
            go_roundw
            case rel => exact ⟨1, by omega, by go_num, H5.out, fun _ => by rw [HMEM.out.1]; exact HZZ.out⟩
            case measure => simp [intOf]
          · have hpos : 0 < (rd s.data.toList).num := by
              have := HA.out.2.2
              rw [HMEM.out.1] at this
              exact this hz
            have hsg : sgn (rd s.data.toList).num = 1 := by unfold sgn; rw [if_neg (by omega), if_neg (by omega)]
            rw [hsg]
            clear hz hpos hsg
            go_wp2
            go_ret
            exact ⟨H5.out, by first | rfl | simp⟩
    · have hlt : k < ss.length := by omega
      have hidx := srow_idx (b := b) (off := off) (cap := cap) hlt
      obtain ⟨b', off', cap', e, hbl, hcells⟩ := HR.out
      cases e
      have hp := hcells k hlt
      obtain ⟨s, hs⟩ : ∃ s, ss[k] = s := ⟨_, rfl⟩
      have hmem : s ∈ ss := hs ▸ List.getElem_mem hlt
      have hsz := HL.out s hmem
      rw [hs] at hp
      have z0 := (HBL.out.cell (p := ⟨b, off + k, none⟩) hbl).trans hp
      have HMEM := hideIt2 (And.intro hs hmem)
      clear hp hcells hs hmem
      go_wp2_with fail
      refine (refOfS_calls s wr (HM.out.below HBL.out) hsz).mono ?_
      rintro e w4 ⟨hb4, _, rfl, g4, rfl, hv4⟩
      have HB4 := hideIt2 (bel_bel HBL.out hb4)
      have HV4 := hideIt2 hv4
      have HO4 := hideIt2 (HO.out.below hb4)
      clear hb4 hv4
      go_wp2_with fail
      refine (isInt_calls HV4.out (HQ.out s HMEM.out.2) HK.out).mono ?_
      rintro e w5 ⟨hb5, rfl⟩
      rw [decide_eq_true (HD.out s HMEM.out.2)]
      have HB5 := hideIt2 (bel_bel HB4.out hb5)
      have HV5 := hideIt2 (HV4.out.below hb5)
      have HO5 := hideIt2 (HO4.out.below hb5)
      clear hb5
      go_wp2_with fail
      refine (ratNum_calls g4 _).mono ?_
      rintro e w6 ⟨hw6, rfl⟩
      subst hw6
      go_wp2_with fail
      refine (intAbs_new (Blk.new w5 _ _) (HV5.out.num.below (below_new _ _)) (small_num (HQ.out s HMEM.out.2) HK.out)).mono ?_
      rintro e w7 ⟨rfl, hs7, ho7⟩
      have hb7 := bel_sav (below_new w5 _) hs7 (Nat.le_refl _)
      have HB7 := hideIt2 (bel_bel HB5.out hb7)
      have HA7 := hideIt2 ho7
      have HO7 := hideIt2 (HO5.out.below hb7)
      clear hs7 ho7 hb7
      go_wp2_with fail
      have hgl : gcds (ss.take k) < 2 ^ K := gcds_lt HQ.out _ 0 (Nat.two_pow_pos _) (fun t ht => List.mem_of_mem_take ht)
      refine (intGCD_calls HO7.out HA7.out.iv (small_two hgl HK.out) (small_num (HQ.out s HMEM.out.2) HK.out)).mono ?_
      rintro e w8 ⟨rfl, hs8, ho8⟩
      have HB8 := hideIt2 (bel_sav HB7.out hs8 HB1.out.size)
      have HO8 := hideIt2 ho8
      clear hs8 ho8 hgl
      go_wp2
      go_roundw
      case rel =>
        refine ⟨k + 1, hlt, by go_num, HB8.out, ?_⟩
        rw [gcds_take hlt, HMEM.out.1]
        exact HO8.out
      case measure => simp [intOf]; omega
end Go.Proofs.YtgajdmadbdbabaaGreatDoor
/- MathX -/
namespace Cx
open Go
def gN (qs : List Rat) : Nat := qs.foldl (fun g q => Nat.gcd g q.num.natAbs) 0
def lD (qs : List Rat) : Nat := qs.foldl (fun m q => m * (q.den / Nat.gcd m q.den)) 1
def fb : List Rat → Bool
  | [] => false
  | q :: r => if q.num = 0 then fb r else decide (q.num < 0)
def pl (G M : Nat) (flip : Bool) (q : Rat) : Rat := ((sg (decide (q.num < 0) != flip) (q.num.natAbs / G * (M / q.den)) : Int) : Rat)
def plain (qs : List Rat) : List Rat := qs.map (pl (gN qs) (lD qs) (fb qs))
theorem gN_take {qs : List Rat} {k : Nat} (h : k < qs.length) : gN (qs.take (k + 1)) = Nat.gcd (gN (qs.take k)) (qs[k]).num.natAbs := by
  unfold gN; rw [List.take_succ_eq_append_getElem h, List.foldl_append]; rfl
theorem lD_take {qs : List Rat} {k : Nat} (h : k < qs.length) : lD (qs.take (k + 1)) = lD (qs.take k) * ((qs[k]).den / Nat.gcd (lD (qs.take k)) (qs[k]).den) := by
  unfold lD; rw [List.take_succ_eq_append_getElem h, List.foldl_append]; rfl
theorem lD_pos (qs : List Rat) : 0 < lD qs := by
  unfold lD
  have : ∀ (l : List Rat) (m : Nat), 0 < m → 0 < l.foldl (fun m q => m * (q.den / Nat.gcd m q.den)) m := by
    intro l
    induction l with
    | nil => intro m h; exact h
    | cons q l ih =>
      intro m h
      refine ih _ (Nat.mul_pos h ?_)
      exact Nat.div_pos (Nat.le_of_dvd (Nat.pos_of_ne_zero q.den_nz) (Nat.gcd_dvd_right _ _)) (Nat.gcd_pos_of_pos_left _ h)
  exact this qs 1 (by decide)
theorem foldg_dvd (l : List Rat) (g : Nat) : (l.foldl (fun g q => Nat.gcd g q.num.natAbs) g) ∣ g ∧ ∀ q ∈ l, (l.foldl (fun g q => Nat.gcd g q.num.natAbs) g) ∣ q.num.natAbs := by
  induction l generalizing g with
  | nil => exact ⟨Nat.dvd_refl _, fun q hq => by simp at hq⟩
  | cons a l ih =>
    obtain ⟨h1, h2⟩ := ih (Nat.gcd g a.num.natAbs)
    refine ⟨Nat.dvd_trans h1 (Nat.gcd_dvd_left _ _), fun q hq => ?_⟩
    rcases List.mem_cons.1 hq with rfl | hq
    · exact Nat.dvd_trans h1 (Nat.gcd_dvd_right _ _)
    · exact h2 q hq
theorem gN_dvd {qs : List Rat} {q : Rat} (h : q ∈ qs) : gN qs ∣ q.num.natAbs := (foldg_dvd qs 0).2 q h
theorem foldl_dvd (l : List Rat) (m : Nat) : m ∣ (l.foldl (fun m q => m * (q.den / Nat.gcd m q.den)) m) ∧ ∀ q ∈ l, q.den ∣ (l.foldl (fun m q => m * (q.den / Nat.gcd m q.den)) m) := by
  induction l generalizing m with
  | nil => exact ⟨Nat.dvd_refl _, fun q hq => by simp at hq⟩
  | cons a l ih =>
    obtain ⟨h1, h2⟩ := ih (m * (a.den / Nat.gcd m a.den))
    refine ⟨Nat.dvd_trans (Nat.dvd_mul_right _ _) h1, fun q hq => ?_⟩
    rcases List.mem_cons.1 hq with rfl | hq
    · refine Nat.dvd_trans ?_ h1
      have : Nat.gcd m q.den ∣ m := Nat.gcd_dvd_left _ _
      obtain ⟨c, hc⟩ := this
      obtain ⟨d, hd⟩ := Nat.gcd_dvd_right m q.den
      have hg : 0 < Nat.gcd m q.den := Nat.gcd_pos_of_pos_right _ (Nat.pos_of_ne_zero q.den_nz)
      generalize Nat.gcd m q.den = g at *
      rw [hd, Nat.mul_div_cancel_left _ hg, hc]
      exact ⟨c, by grind⟩
    · exact h2 q hq
theorem lD_dvd {qs : List Rat} {q : Rat} (h : q ∈ qs) : q.den ∣ lD qs := (foldl_dvd qs 1).2 q h
theorem gN_pos {qs : List Rat} {q : Rat} (h : q ∈ qs) (h0 : q.num ≠ 0) : 0 < gN qs := by
  rcases Nat.eq_zero_or_pos (gN qs) with e | e
  · have := gN_dvd h
    rw [e] at this
    have := Nat.eq_zero_of_zero_dvd this
    omega
  · exact e
theorem gN_lt {K : Nat} {qs : List Rat} (h : ∀ q ∈ qs, Go.Proofs.YtgajdmadbdbabaaGreatDoor.QS K q) : gN qs < 2 ^ K := by
  rcases Nat.eq_zero_or_pos (gN qs) with e | e
  · rw [e]; exact Nat.pow_pos (by decide)
  · have : ∃ q ∈ qs, q.num ≠ 0 := by
      apply Classical.byContradiction
      intro hno
      have hall : ∀ q ∈ qs, q.num = 0 := fun q hq => Classical.byContradiction fun hn => hno ⟨q, hq, hn⟩
      have hz : ∀ (l : List Rat), (∀ q ∈ l, q.num = 0) → l.foldl (fun g q => Nat.gcd g q.num.natAbs) 0 = 0 := by
        intro l
        induction l with
        | nil => intro _; rfl
        | cons a l ih =>
          intro hl
          rw [List.foldl_cons, hl a (List.mem_cons_self ..)]
          exact ih fun q hq => hl q (List.mem_cons_of_mem _ hq)
      have := hz qs hall
      unfold gN at e
      omega
    obtain ⟨q, hq, hn⟩ := this
    exact Nat.lt_of_le_of_lt (Nat.le_of_dvd (by omega) (gN_dvd hq)) (h q hq).num
theorem lD_le {K : Nat} {qs : List Rat} (h : ∀ q ∈ qs, Go.Proofs.YtgajdmadbdbabaaGreatDoor.QS K q) : ∀ k, lD (qs.take k) ≤ 2 ^ (k * K)
  | 0 => by simp [lD]
  | k + 1 => by
    have ih := lD_le h k
    by_cases hk : k < qs.length
    · rw [lD_take hk, Nat.succ_mul, Nat.pow_add]
      refine Nat.mul_le_mul ih (Nat.le_trans (Nat.div_le_self _ _) (Nat.le_of_lt (h _ (List.getElem_mem hk)).den))
    · rw [List.take_of_length_le (by omega)]
      rw [List.take_of_length_le (by omega)] at ih
      exact Nat.le_trans ih (Nat.pow_le_pow_right (by decide) (by rw [Nat.succ_mul]; omega))
theorem pl_zero (G M : Nat) (flip : Bool) {q : Rat} (h : q.num = 0) : pl G M flip q = 0 := by
  unfold pl
  rw [h]
  simp [sg]
def fac (qs : List Rat) : Rat := mkRat (sg (fb qs) (lD qs)) (gN qs)
theorem pl_mul {qs : List Rat} {q : Rat} (h : q ∈ qs) : pl (gN qs) (lD qs) (fb qs) q = q * fac qs := by
  by_cases h0 : q.num = 0
  · rw [pl_zero _ _ _ h0, Rat.num_eq_zero.1 h0, Rat.zero_mul]
  · have hg := gN_pos h h0
    obtain ⟨a, ha⟩ := gN_dvd h
    obtain ⟨b, hb⟩ := lD_dvd h
    have hd : 0 < q.den := Nat.pos_of_ne_zero q.den_nz
    unfold pl fac
    generalize gN qs = G at *
    generalize lD qs = M at *
    rw [ha, Nat.mul_div_cancel_left _ hg, hb, Nat.mul_div_cancel_left _ hd]
    have eq : q = mkRat (sg (decide (q.num < 0)) (G * a)) q.den := by rw [← ha, sg_num, Rat.mkRat_self]
    have e1 : ((sg (decide (q.num < 0) != fb qs) (a * b) : Int) : Rat) = mkRat (sg (decide (q.num < 0) != fb qs) (a * b)) 1 := (Rat.mkRat_one _).symm
    rw [e1]
    conv => rhs; lhs; rw [eq]
    rw [Rat.mkRat_mul_mkRat, Rat.mkRat_eq_iff (by decide) (Nat.mul_ne_zero q.den_nz (by omega))]
    generalize decide (q.num < 0) = s
    generalize fb qs = t
    have c1 : ((q.den * G : Nat) : Int) = (q.den : Int) * G := Int.natCast_mul _ _
    rw [c1]
    have m1 : ((a * b : Nat) : Int) = (a : Int) * b := Int.natCast_mul _ _
    have m2 : ((G * a : Nat) : Int) = (G : Int) * a := Int.natCast_mul _ _
    have m3 : ((q.den * b : Nat) : Int) = (q.den : Int) * b := Int.natCast_mul _ _
    generalize (q.den : Int) = D at *
    cases s <;> cases t <;> simp only [sg, bne_self_eq_false, Bool.false_eq_true, if_false, if_true, m1, m2, m3, Bool.true_bne, Bool.false_bne, Bool.not_false] <;> grind
theorem fac_ne {qs : List Rat} {q : Rat} (h : q ∈ qs) (h0 : q ≠ 0) : fac qs ≠ 0 := by
  have hn : q.num ≠ 0 := fun e => h0 (Rat.num_eq_zero.1 e)
  have hg := gN_pos h hn
  have hl := lD_pos qs
  unfold fac
  intro e
  rw [Rat.mkRat_eq_zero (by omega)] at e
  cases fb qs <;> simp [sg] at e <;> omega
end Cx
/- MathZ -/
namespace Cx
theorem least_factor : ∀ (n : Nat), 1 < n → ∃ p, 1 < p ∧ p ∣ n ∧ ∀ m, m ∣ p → m = 1 ∨ m = p := by
  intro n
  induction n using Nat.strongRecOn with
  | ind n ih =>
    intro hn
    by_cases h : ∃ m, m ∣ n ∧ m ≠ 1 ∧ m ≠ n
    · obtain ⟨m, hm, h1, h2⟩ := h
      have hpos : 0 < m := Nat.pos_of_dvd_of_pos hm (by omega)
      have hle := Nat.le_of_dvd (by omega) hm
      obtain ⟨p, hp1, hp2, hp3⟩ := ih m (by omega) (by omega)
      exact ⟨p, hp1, Nat.dvd_trans hp2 hm, hp3⟩
    · refine ⟨n, hn, Nat.dvd_refl _, fun m hm => ?_⟩
      by_cases h1 : m = 1
      · exact Or.inl h1
      · by_cases h2 : m = n
        · exact Or.inr h2
        · exact absurd ⟨m, hm, h1, h2⟩ h
theorem factor_mul {p a b : Nat} (hp : ∀ m, m ∣ p → m = 1 ∨ m = p) (h : p ∣ a * b) : p ∣ a ∨ p ∣ b := by
  rcases hp _ (Nat.gcd_dvd_left p a) with h1 | h1
  · exact Or.inr (Nat.Coprime.dvd_of_dvd_mul_left h1 h)
  · exact Or.inl (h1 ▸ Nat.gcd_dvd_right p a)
theorem foldg_great (c : Nat) : ∀ (l : List Rat) (g : Nat), c ∣ g → (∀ q ∈ l, c ∣ q.num.natAbs) → c ∣ l.foldl (fun g q => Nat.gcd g q.num.natAbs) g
  | [], _, hg, _ => hg
  | q :: l, _, hg, h => foldg_great c l _ (Nat.dvd_gcd hg (h q List.mem_cons_self)) (fun r hr => h r (List.mem_cons_of_mem _ hr))
theorem gN_great {qs : List Rat} {c : Nat} (h : ∀ q ∈ qs, c ∣ q.num.natAbs) : c ∣ gN qs := foldg_great c qs 0 (Nat.dvd_zero c) h
theorem foldl_least (c : Nat) : ∀ (l : List Rat) (m : Nat), m ∣ c → (∀ q ∈ l, q.den ∣ c) → l.foldl (fun m q => m * (q.den / Nat.gcd m q.den)) m ∣ c
  | [], _, hm, _ => hm
  | q :: l, m, hm, h => foldl_least c l _ (by
      have e : m * (q.den / Nat.gcd m q.den) = Nat.lcm m q.den := by
        rw [Nat.lcm, Nat.mul_div_assoc _ (Nat.gcd_dvd_right m q.den)]
      show m * (q.den / Nat.gcd m q.den) ∣ c
      rw [e]
      exact Nat.lcm_dvd hm (h q List.mem_cons_self)) (fun r hr => h r (List.mem_cons_of_mem _ hr))
theorem lD_least {qs : List Rat} {c : Nat} (h : ∀ q ∈ qs, q.den ∣ c) : lD qs ∣ c := foldl_least c qs 1 (Nat.one_dvd c) h
theorem plain_coprime {qs : List Rat} {q0 : Rat} (h0 : q0 ∈ qs) (hz : q0.num ≠ 0) {d : Nat} (hd : ∀ q ∈ qs, d ∣ q.num.natAbs / gN qs * (lD qs / q.den)) : d = 1 := by
  have hG := gN_pos h0 hz
  have hM := lD_pos qs
  by_cases h1 : d = 1
  · exact h1
  exfalso
  have hd0 : d ≠ 0 := by
    rintro rfl
    have h := Nat.eq_zero_of_zero_dvd (hd q0 h0)
    rcases Nat.mul_eq_zero.1 h with h | h
    · have h2 := Nat.div_mul_cancel (gN_dvd h0)
      rw [h, Nat.zero_mul] at h2
      omega
    · have h2 := Nat.div_mul_cancel (lD_dvd h0)
      rw [h, Nat.zero_mul] at h2
      omega
  obtain ⟨p, hp1, hpd, hp⟩ := least_factor d (by omega)
  have hpv : ∀ q ∈ qs, p ∣ q.num.natAbs / gN qs * (lD qs / q.den) := fun q hq => Nat.dvd_trans hpd (hd q hq)
  -- one whose cofactor p does not divide
  have hj : ∃ q ∈ qs, ¬ p ∣ lD qs / q.den := by
    refine Classical.byContradiction fun hn => ?_
    have hall : ∀ q ∈ qs, p ∣ lD qs / q.den := fun q hq => Classical.byContradiction fun h => hn ⟨q, hq, h⟩
    have hpM : p ∣ lD qs := Nat.dvd_trans (hall q0 h0) ⟨q0.den, (Nat.div_mul_cancel (lD_dvd h0)).symm⟩
    obtain ⟨m, hm⟩ := hpM
    have hl : lD qs ∣ m := lD_least fun q hq => by
      obtain ⟨c, hc⟩ := hall q hq
      have e := Nat.div_mul_cancel (lD_dvd hq)
      rw [hc, hm, Nat.mul_assoc] at e
      exact ⟨c, by rw [Nat.mul_comm]; exact (Nat.eq_of_mul_eq_mul_left (by omega) e).symm⟩
    have hmpos : 0 < m := by
      rcases Nat.eq_zero_or_pos m with h | h
      · rw [h, Nat.mul_zero] at hm; omega
      · exact h
    have hle := Nat.le_of_dvd hmpos hl
    rw [hm] at hle
    have : 2 * m ≤ p * m := Nat.mul_le_mul_right m (by omega)
    omega
  obtain ⟨q, hq, hpq⟩ := hj
  have hnum : p ∣ q.num.natAbs / gN qs := (factor_mul hp (hpv q hq)).resolve_right hpq
  have hnum2 : p ∣ q.num.natAbs := Nat.dvd_trans hnum ⟨gN qs, (Nat.div_mul_cancel (gN_dvd hq)).symm⟩
  have hden : ¬ p ∣ q.den := fun h => by
    have := Nat.dvd_gcd hnum2 h
    rw [q.reduced] at this
    have := Nat.le_of_dvd (by omega) this
    omega
  have hM2 : ¬ p ∣ lD qs := fun h => by
    rw [← Nat.div_mul_cancel (lD_dvd hq)] at h
    exact (factor_mul hp h).elim hpq hden
  have hall : ∀ r ∈ qs, p * gN qs ∣ r.num.natAbs := fun r hr => by
    have hnr : ¬ p ∣ lD qs / r.den := fun h => hM2 (Nat.dvd_trans h ⟨r.den, (Nat.div_mul_cancel (lD_dvd hr)).symm⟩)
    have h := (factor_mul hp (hpv r hr)).resolve_right hnr
    have h2 := Nat.mul_dvd_mul_right h (gN qs)
    rwa [Nat.div_mul_cancel (gN_dvd hr)] at h2
  have h := Nat.le_of_dvd hG (gN_great hall)
  have : 2 * gN qs ≤ p * gN qs := Nat.mul_le_mul_right _ (by omega)
  omega
end Cx
/- AWP -/
namespace Cx
theorem sg_natAbs (b : Bool) (n : Nat) : (sg b n).natAbs = n := by cases b <;> simp [sg]
theorem pl_num (G M : Nat) (f : Bool) (q : Rat) : (pl G M f q).num = sg (decide (q.num < 0) != f) (q.num.natAbs / G * (M / q.den)) ∧ (pl G M f q).den = 1 := ⟨rfl, rfl⟩
theorem fac_den {qs : List Rat} {q : Rat} (h : q ∈ qs) : (q * fac qs).den = 1 := by
  rw [← pl_mul h]
  exact (pl_num _ _ _ _).2
theorem fac_abs {qs : List Rat} {q : Rat} (h : q ∈ qs) : (q * fac qs).num.natAbs = q.num.natAbs / gN qs * (lD qs / q.den) := by
  rw [← pl_mul h, (pl_num _ _ _ _).1, sg_natAbs]
theorem fac_gcd {qs : List Rat} {q0 : Rat} (h0 : q0 ∈ qs) (hz : q0 ≠ 0) : gN (qs.map (fun q => q * fac qs)) = 1 := by
  refine plain_coprime h0 (fun e => hz (Rat.num_eq_zero.1 e)) fun q hq => ?_
  rw [← fac_abs hq]
  exact gN_dvd (List.mem_map.2 ⟨q, hq, rfl⟩)
theorem fb_first : ∀ {qs : List Rat} {j : Nat} (hj : j < qs.length), (∀ (i : Nat) (hi : i < qs.length), i < j → qs[i] = 0) → qs[j] ≠ 0 → fb qs = decide (qs[j].num < 0)
  | [], _, hj, _, _ => absurd hj (Nat.not_lt_zero _)
  | q :: r, 0, _, _, h => by
    have hn : q.num ≠ 0 := fun e => h (Rat.num_eq_zero.1 e)
    show (if q.num = 0 then fb r else decide (q.num < 0)) = decide (q.num < 0)
    rw [if_neg hn]
  | q :: r, j + 1, hj, hz, h => by
    have h0 : q = 0 := hz 0 (by simp) (by omega)
    have hn : q.num = 0 := by rw [h0]; rfl
    show (if q.num = 0 then fb r else decide (q.num < 0)) = _
    rw [if_pos hn]
    exact fb_first (qs := r) (j := j) (by simpa using hj) (fun i hi hij => hz (i + 1) (by simpa using hi) (by omega)) h
theorem fac_sign {qs : List Rat} {j : Nat} (hj : j < qs.length) (hz : ∀ (i : Nat) (hi : i < qs.length), i < j → qs[i] = 0) (h : qs[j] ≠ 0) : 0 < (qs[j] * fac qs).num := by
  have hm := List.getElem_mem hj
  have hne : qs[j] * fac qs ≠ 0 := fun e => (Rat.mul_eq_zero.1 e).elim h (fac_ne hm h)
  have hnn : (qs[j] * fac qs).num ≠ 0 := fun e => hne (Rat.num_eq_zero.1 e)
  rw [← pl_mul hm] at hnn ⊢
  rw [(pl_num _ _ _ _).1, fb_first hj hz h, bne_self_eq_false] at hnn ⊢
  simp only [sg, Bool.false_eq_true, if_false] at hnn ⊢
  omega
end Cx
namespace Go.Proofs.YtgajdmadbdbabaaGreatDoor
open Go.RowKit Cx
structure PlainOk (qs : List Rat) : Prop where
  den : ∀ q ∈ qs, q.den = 1
  gcd : gN qs = 1
  sgn : ∀ (j : Nat) (hj : j < qs.length), (∀ (i : Nat) (hi : i < qs.length), i < j → qs[i] = 0) → qs[j] ≠ 0 → 0 < (qs[j]).num
theorem plain_fac {qs : List Rat} {q0 : Rat} (h0 : q0 ∈ qs) (hz : q0 ≠ 0) : PlainOk (qs.map (fun q => q * fac qs)) where
  den := fun q hq => by
    obtain ⟨p, hp, rfl⟩ := List.mem_map.1 hq
    exact fac_den hp
  gcd := fac_gcd h0 hz
  sgn := fun j hj hi hne => by
    have hj' : j < qs.length := by simpa using hj
    rw [List.getElem_map] at hne ⊢
    have hf := fac_ne h0 hz
    refine fac_sign hj' (fun i hi' hij => ?_) (fun e => hne (by rw [e, Rat.zero_mul]))
    have := hi i (by simpa using hi') hij
    rw [List.getElem_map] at this
    exact (Rat.mul_eq_zero.1 this).resolve_right hf
theorem plain_two {a b : Rat} (h : ¬ (a = 0 ∧ b = 0)) {x y : Rat} (ex : x = a * fac [a, b]) (ey : y = b * fac [a, b]) : PlainOk [x, y] := by
  subst ex ey
  by_cases ha : a = 0
  · exact plain_fac (qs := [a, b]) (q0 := b) (by simp) (fun e => h ⟨ha, e⟩)
  · exact plain_fac (qs := [a, b]) (q0 := a) (by simp) ha
theorem en_compassref_Plain (vs : Array Value) (w : World) : (callFunc 91 vs).run Tryz.prog w = .ok (.enter 91 vs) w := enters Tryz.func91 (by kernel_rfl) (by kernel_rfl) vs w
theorem con_Plain2 {s c : ByteArray} {x y : Rat} {k : Nat} (hs : TX k s y) (hc : TX k c x) (rs : right s) (rc : right c) (hk : 2 * k + 4 ≤ 4294967280) (hP : PlainOk [x, y]) : ConS Tryz.prog Pre 91 [RowS 22 2 [Tx s, Tx c], RowS 3 1 [In (1 : Int)]] (Bo true) := fun w vs hp hall => by
  obtain ⟨v0, v1, rfl, h1, h2⟩ := allS_two hall
  obtain ⟨G, cs, rfl, hk2, hall2⟩ := h2
  obtain ⟨u, rfl, hu⟩ := all2_one hall2
  cases hu
  have hrow := srow_of (ss := [s, c]) h1
  have hrow' := hrow
  obtain ⟨b', off, cap, rfl, _⟩ := hrow
  have e1 := hc.rd
  have e2 := hs.rd
  have hx : x ≠ 0 → 0 < x.num := fun h => hP.sgn 0 (by simp) (fun i hi' h => absurd h (Nat.not_lt_zero _)) h
  refine (refPlainA_walk (ss := [s, c]) 1 (by simp) (hk2.cell 0) hk2.lt (fun h => by
      show 0 < (Cx.rd c.data.toList).num
      rw [e1]
      exact hx (fun q => h (by show Cx.rd c.data.toList = 0; rw [e1, q]))) hrow' hp.2 (by simp [Nat.le_trans hs.sz hk, Nat.le_trans hc.sz hk]) (by simp) (by simp [rs, rc]) (K := k) (by simp [hs.qsr, hc.qsr]) (by omega) ?_ ?_ ?_).mono ?_
  · have := hP.den
    simp only [List.mem_cons, List.not_mem_nil, or_false, forall_eq_or_imp, forall_eq] at this ⊢
    rw [e1, e2]
    exact ⟨this.2, this.1⟩
  · have := hP.gcd
    unfold gN at this
    unfold gcds
    simp only [List.foldl_cons, List.foldl_nil, Nat.gcd_zero_left] at this ⊢
    rw [e1, e2, Nat.gcd_comm]
    exact this
  · intro hz j hj hi hne
    have hz' : x = 0 := by rw [← e1]; exact hz
    match j, hj with
    | 0, _ =>
      refine e2 ▸ hP.sgn 1 (by simp) (fun i hi' h => ?_) (e2 ▸ hne)
      have : i = 0 := by omega
      subst this
      exact hz'
    | 1, _ => exact absurd hz hne
  · rintro _ w' ⟨hb, rfl⟩
    exact ⟨hb, _, rfl, rfl⟩
end Go.Proofs.YtgajdmadbdbabaaGreatDoor
/- AWI -/
namespace Go.Proofs.YtgajdmadbdbabaaGreatDoor
open Go.RowKit Cx
theorem plain_ne2 {a b x y : Rat} (h : ¬ (a = 0 ∧ b = 0)) (ex : x = a * fac [a, b]) (ey : y = b * fac [a, b]) : ¬ (x = 0 ∧ y = 0) := by
  subst ex ey
  intro ⟨h1, h2⟩
  have hf : fac [a, b] ≠ 0 := by
    by_cases ha : a = 0
    · exact fac_ne (q := b) (by simp) (fun e => h ⟨ha, e⟩)
    · exact fac_ne (q := a) (by simp) ha
  exact h ⟨(Rat.mul_eq_zero.1 h1).resolve_right hf, (Rat.mul_eq_zero.1 h2).resolve_right hf⟩
theorem con_isT_yes {s c : ByteArray} {rs rc : Rat} {k : Nat} (ts : TX k s rs) (tc : TX k c rc) (hs : 2 * k + 4 ≤ 4294967280) (h : ¬ (rc = 0 ∧ rs = 0)) : Con Tryz.prog Pre 53 [P2 s c] (Bo true) := by
  by_cases h1 : rs = 0
  · exact con_isT_t2 ts tc hs h1 (fun e => h ⟨e, h1⟩)
  · exact con_isT_t1 ts tc hs h1
theorem con_isT_no {s c : ByteArray} {rs rc : Rat} {k : Nat} (ts : TX k s rs) (tc : TX k c rc) (hs : 2 * k + 4 ≤ 4294967280) (h : rc = 0 ∧ rs = 0) : Con Tryz.prog Pre 53 [P2 s c] (Bo false) := con_isT_f ts tc hs h.2 h.1
theorem en_compasslaw_plainT (vs : Array Value) (w : World) : (callFunc 55 vs).run Tryz.prog w = .ok (.enter 55 vs) w := enters Tryz.func55 (by kernel_rfl) (by kernel_rfl) vs w
theorem con_plainT {s c : ByteArray} {rs rc : Rat} {k : Nat} (ts : TX k s rs) (tc : TX k c rc) (gs : right s) (gc : right c) (_ : 2 * k + 4 ≤ 4294967280) (hn : ¬ (rc = 0 ∧ rs = 0)) (hP : PlainOk [rc, rs]) :
    Con Tryz.prog Pre 55 [Agg [Tx s, Tx c]] (Bo true) := by
  refine con_of (n := 14) Tryz.func55 rfl rfl (Nat.le_of_ble_eq_true rfl) ?_
  intro w a0 hp S0
  have HPRE : ∀ w', Below w.heap.size w w' → Pre w' := fun w' hb => hp.below hb
  refine wp_seq ?_
  refine region_abs [.alloc 67 (Agg [Tx s, Tx c]), .pure (Bo false)] ⟨S0, by decide +kernel⟩ (by kernel_rfl) (by kernel_rfl) rfl (by kernel_rfl) ?_ ?_
  · intro C
    refine ASteps.cons ?_ (ASteps.cons ?_ (ASteps.nil))
    · exact step_box rfl rfl (want_none rfl) rfl (no_fill (by kernel_rfl)) (opn_old C 0 (by kernel_rfl) rfl) (boxes_T (cok2 (nl_tx s) (nl_tx c)))
    · exact step_assign rfl rfl (want_none rfl) rfl (opn_const _)
  intro γ a1 w1 S1
  replace S1 : AS w 14 [(2, Bo false), (1, Jus (.pointer (some ⟨γ 0, 0, none⟩)))] [(γ 0, 67, Agg [Tx s, Tx c])] a1 w1 := cast (by kernel_rfl) (S1.keep [1, 2])
  generalize γ 0 = G1_0 at S1
  clear S0
  refine then_normal ?_
  refine wp_seq ?_
  refine region_abs [.pure (Agg [Tx s, Tx c]), .pure (Bo true), .pure (Bo true), .pure (Jus (.pointer (some ⟨G1_0, 0, none⟩))), .pure (Tx s), .pure (Jus (.pointer (some ⟨G1_0, 1, none⟩))), .pure (Tx c), .soft (RowS 22 2 [Tx s, Tx c]), .soft (RowS 3 1 [In (1)]), .pure (Bo true), .pure (Bo true), .pure (Bo true)] ⟨S1, by decide +kernel⟩ (by kernel_rfl) (by kernel_rfl) rfl (by kernel_rfl) ?_ ?_
  · intro C
    refine ASteps.cons ?_ (ASteps.cons ?_ (ASteps.cons ?_ (ASteps.cons ?_ (ASteps.cons ?_ (ASteps.cons ?_ (ASteps.cons ?_ (ASteps.cons ?_ (ASteps.cons ?_ (ASteps.cons ?_ (ASteps.cons ?_ (ASteps.cons ?_ (ASteps.nil))))))))))))
    · exact step_load (k := 0) rfl rfl rfl (want_none rfl) rfl (opn_old C 1 (by kernel_rfl) rfl) (no_over (by kernel_rfl)) loads_T
    · exact step_call HPRE rfl rfl (want_none rfl) rfl en_compasslaw_isT (Opns.cons (opn_new C 0 0 rfl rfl rfl rfl rfl rfl) Opns.nil) (con_isT_yes ts tc (by first | decide | omega) hn)
    · exact step_move rfl rfl (want_none rfl) rfl (opn_new C 1 0 rfl rfl rfl rfl rfl rfl)
    · exact step_fieldAddr rfl rfl (want_yes C 2 0 true rfl rfl rfl rfl rfl rfl rfl) rfl (opn_old C 1 (by kernel_rfl) rfl) (field_T_0 _)
    · exact step_loadF (k := 0) rfl rfl rfl (want_yes C 2 1 true rfl rfl rfl rfl rfl rfl rfl) rfl (opn_new C 3 0 rfl rfl rfl rfl rfl rfl) (no_over (by kernel_rfl)) (part_agg rfl one_Q)
    · exact step_fieldAddr rfl rfl (want_yes C 2 0 true rfl rfl rfl rfl rfl rfl rfl) rfl (opn_old C 1 (by kernel_rfl) rfl) (field_T_1 _)
    · exact step_loadF (k := 0) rfl rfl rfl (want_yes C 2 1 true rfl rfl rfl rfl rfl rfl rfl) rfl (opn_new C 5 0 rfl rfl rfl rfl rfl rfl) (no_over (by kernel_rfl)) (part_agg rfl one_Q)
    · exact step_bslice rfl rfl (want_yes C 2 2 true rfl rfl rfl rfl rfl rfl rfl) rfl (Opns.cons (opn_new C 4 0 rfl rfl rfl rfl rfl rfl) (Opns.cons (opn_new C 6 1 rfl rfl rfl rfl rfl rfl) Opns.nil)) (bslice_Q2 _ _)
    · exact step_bslice rfl rfl (want_yes C 2 0 true rfl rfl rfl rfl rfl rfl rfl) rfl (Opns.cons (opn_const _) Opns.nil) (bslice_I1 _)
    · exact step_callS HPRE rfl rfl (want_yes C 2 2 true rfl rfl rfl rfl rfl rfl rfl) rfl en_compassref_Plain (OpnsS.cons (opn_soft C 7 0 rfl rfl rfl rfl rfl rfl (by kernel_rfl)) (OpnsS.cons (opn_soft C 8 1 rfl rfl rfl rfl rfl rfl (by kernel_rfl)) OpnsS.nil)) (con_Plain2 ts tc gs gc (by first | decide | omega) hP)
    · exact step_pick true rfl rfl (want_none rfl) rfl (opn_new C 2 0 rfl rfl rfl rfl rfl rfl) (opn_new C 9 1 rfl rfl rfl rfl rfl rfl)
    · exact step_assign rfl rfl (want_none rfl) rfl (opn_new C 10 0 rfl rfl rfl rfl rfl rfl)
  intro γ a2 w2 S2
  replace S2 : AS w 14 [(2, Bo true)] [(G1_0, 67, Agg [Tx s, Tx c])] a2 w2 := cast (by kernel_rfl) (S2.keep [2])
  clear S1
  refine then_normal ?_
  refine wp_ret ?_
  exact S2.ret 0 rfl rfl fun v hv => ⟨S2.bel, v, rfl, hv⟩
theorem en_compasslaw_turns (vs : Array Value) (w : World) : (callFunc 58 vs).run Tryz.prog w = .ok (.enter 58 vs) w := enters Tryz.func58 (by kernel_rfl) (by kernel_rfl) vs w
theorem con_turns {s c : ByteArray} {rs rc : Rat} {k : Nat} {vx vz wx wz : Rat} (ts : TX k s rs) (tc : TX k c rc) (fvx : QS k vx) (fvz : QS k vz) (fwx : QS k wx) (fwz : QS k wz) (_ : 2 * k + 4 ≤ 4294967280) (_ : 400 * k + 800 ≤ 35184372088640) (hT : ((vx * rc - vz * rs) * wz) - ((vx * rs + vz * rc) * wx) = 0) :
    Con Tryz.prog Pre 58 [Agg [Tx s, Tx c], Agg [Rt vx, Rt vz], Agg [Rt wx, Rt wz]] (Bo true) := by
  refine con_of (n := 14) Tryz.func58 rfl rfl (Nat.le_of_ble_eq_true rfl) ?_
  intro w a0 hp S0
  have HPRE : ∀ w', Below w.heap.size w w' → Pre w' := fun w' hb => hp.below hb
  refine wp_seq ?_
  refine region_abs [.alloc 67 (Agg [Tx s, Tx c]), .alloc 43 (Agg [Rt vx, Rt vz]), .alloc 43 (Agg [Rt wx, Rt wz]), .pure (Bo false)] ⟨S0, by decide +kernel⟩ (by kernel_rfl) (by kernel_rfl) rfl (by kernel_rfl) ?_ ?_
  · intro C
    refine ASteps.cons ?_ (ASteps.cons ?_ (ASteps.cons ?_ (ASteps.cons ?_ (ASteps.nil))))
    · exact step_box rfl rfl (want_none rfl) rfl (no_fill (by kernel_rfl)) (opn_old C 0 (by kernel_rfl) rfl) (boxes_T (cok2 (nl_tx s) (nl_tx c)))
    · exact step_box rfl rfl (want_none rfl) rfl (no_fill (by kernel_rfl)) (opn_old C 1 (by kernel_rfl) rfl) (boxes_V (cok2 (nl_rt vx) (nl_rt vz)))
    · exact step_box rfl rfl (want_none rfl) rfl (no_fill (by kernel_rfl)) (opn_old C 2 (by kernel_rfl) rfl) (boxes_V (cok2 (nl_rt wx) (nl_rt wz)))
    · exact step_assign rfl rfl (want_none rfl) rfl (opn_const _)
  intro γ a1 w1 S1
  replace S1 : AS w 14 [(6, Bo false), (5, Jus (.pointer (some ⟨γ 2, 0, none⟩))), (4, Jus (.pointer (some ⟨γ 1, 0, none⟩))), (3, Jus (.pointer (some ⟨γ 0, 0, none⟩)))] [(γ 0, 67, Agg [Tx s, Tx c]), (γ 1, 43, Agg [Rt vx, Rt vz]), (γ 2, 43, Agg [Rt wx, Rt wz])] a1 w1 := cast (by kernel_rfl) (S1.keep [3, 4, 5, 6])
  generalize γ 0 = G1_0 at S1
  generalize γ 1 = G1_1 at S1
  generalize γ 2 = G1_2 at S1
  clear S0
  refine then_normal ?_
  refine wp_seq ?_
  obtain ⟨z1, ez1⟩ : ∃ q : Rat, q = vx * rc - vz * rs := ⟨_, rfl⟩
  have fz1 : QS (4 * k + 1) z1 := by rw [ez1]; exact QS.mono ((fvx.mul tc.qs).sub (fvz.mul ts.qs)) (by first | decide | omega)
  obtain ⟨z2, ez2⟩ : ∃ q : Rat, q = vx * rs + vz * rc := ⟨_, rfl⟩
  have fz2 : QS (4 * k + 1) z2 := by rw [ez2]; exact QS.mono ((fvx.mul ts.qs).add (fvz.mul tc.qs)) (by first | decide | omega)
  obtain ⟨z3, ez3⟩ : ∃ q : Rat, q = (z1 * wz) - (z2 * wx) := ⟨_, rfl⟩
  have fz3 : QS (10 * k + 3) z3 := by rw [ez3]; exact QS.mono ((fz1.mul fwz).sub (fz2.mul fwx)) (by first | decide | omega)
  have h4 : z3 = 0 := by (subst_vars; exact hT)
  refine region_abs [.pure (Agg [Rt vx, Rt vz]), .pure (Agg [Tx s, Tx c]), .pure (Agg [Rt rc, Rt rs]), .pure (Agg [Rt z1, Rt z2]), .pure (Agg [Rt wx, Rt wz]), .pure (Rt z3), .pure (Bo true), .pure (Bo true)] ⟨S1, by decide +kernel⟩ (by kernel_rfl) (by kernel_rfl) rfl (by kernel_rfl) ?_ ?_
  · intro C
    refine ASteps.cons ?_ (ASteps.cons ?_ (ASteps.cons ?_ (ASteps.cons ?_ (ASteps.cons ?_ (ASteps.cons ?_ (ASteps.cons ?_ (ASteps.cons ?_ (ASteps.nil))))))))
    · exact step_load (k := 1) rfl rfl rfl (want_none rfl) rfl (opn_old C 2 (by kernel_rfl) rfl) (no_over (by kernel_rfl)) loads_V
    · exact step_load (k := 0) rfl rfl rfl (want_none rfl) rfl (opn_old C 3 (by kernel_rfl) rfl) (no_over (by kernel_rfl)) loads_T
    · exact step_call HPRE rfl rfl (want_none rfl) rfl en_compasslaw_way (Opns.cons (opn_new C 1 0 rfl rfl rfl rfl rfl rfl) Opns.nil) (con_way ts tc (by first | decide | omega))
    · exact step_call HPRE rfl rfl (want_none rfl) rfl en_compassref_V_Prod (Opns.cons (opn_new C 0 0 rfl rfl rfl rfl rfl rfl) (Opns.cons (opn_new C 2 1 rfl rfl rfl rfl rfl rfl) Opns.nil)) (con_Prod fvx fvz tc.qs ts.qs ez1 ez2 (by first | decide | omega))
    · exact step_load (k := 2) rfl rfl rfl (want_none rfl) rfl (opn_old C 1 (by kernel_rfl) rfl) (no_over (by kernel_rfl)) loads_V
    · exact step_call HPRE rfl rfl (want_none rfl) rfl en_compassref_V_Cross (Opns.cons (opn_new C 3 0 rfl rfl rfl rfl rfl rfl) (Opns.cons (opn_new C 4 1 rfl rfl rfl rfl rfl rfl) Opns.nil)) (con_Cross ez3 fz1 fz2 (QS.mono (l := (4 * k + 1)) fwx (by first | decide | omega)) (QS.mono (l := (4 * k + 1)) fwz (by first | decide | omega)) (by first | decide | omega))
    · exact step_call HPRE rfl rfl (want_none rfl) rfl en_compassref_Zero (Opns.cons (opn_new C 5 0 rfl rfl rfl rfl rfl rfl) Opns.nil) (con_Zero_t  h4)
    · exact step_assign rfl rfl (want_none rfl) rfl (opn_new C 6 0 rfl rfl rfl rfl rfl rfl)
  intro γ a2 w2 S2
  replace S2 : AS w 14 [(6, Bo true)] [(G1_0, 67, Agg [Tx s, Tx c]), (G1_1, 43, Agg [Rt vx, Rt vz]), (G1_2, 43, Agg [Rt wx, Rt wz])] a2 w2 := cast (by kernel_rfl) (S2.keep [6])
  clear S1
  refine then_normal ?_
  refine wp_ret ?_
  exact S2.ret 0 rfl rfl fun v hv => ⟨S2.bel, v, rfl, hv⟩
end Go.Proofs.YtgajdmadbdbabaaGreatDoor
/- XA -/
namespace Go.Proofs.YtgajdmadbdbabaaGreatDoor
open Go.RowKit Cx
attribute [local go_sem ↓] Go.wp_at_zero Go.wp_at_succ
theorem wayConj_walk {w : World} {cax cay : C3} {ax ay : Rat} (hax : QV w (.agg #[.bool cax.n, .slice cax.u cax.nu cax.cu, .slice cax.l cax.nl cax.cl]) ax) (hay : QV w (.agg #[.bool cay.n, .slice cay.u cay.nu cay.cu, .slice cay.l cay.nl cay.cl]) ay)  :
    Calls Tryz.prog 147 #[.agg #[.bool cax.n, .slice cax.u cax.nu cax.cu, .slice cax.l cax.nl cax.cl, .bool cay.n, .slice cay.u cay.nu cay.cu, .slice cay.l cay.nl cay.cl]] w fun e w' => Below w.heap.size w w' ∧ ∃ v, e = .returned v ∧ WV w' v ax (-ay) := by
  obtain ⟨hb0, hk0, hk1, hsz⟩ := boxes2 w #[.bool cax.n, .slice cax.u cax.nu cax.cu, .slice cax.l cax.nl cax.cl, .bool cay.n, .slice cay.u cay.nu cay.cu, .slice cay.l cay.nl cay.cl] #[.bool false, .slice none 0 0, .slice none 0 0, .bool false, .slice none 0 0, .slice none 0 0] 86 86
  have HB0 := hideIt hb0
  have HSZ := hideIt hsz
  have HK0 := hideIt hk0
  have HK1 := hideIt hk1
  have Hax := hideIt (hax.below hb0)
  have Hay := hideIt (hay.below hb0)
  clear hb0 hsz hk0 hk1 hax hay 
  go_enter Tryz.func147, Tryz.ntmps147
  go_wp2_with fail
  generalize ((w.alloc (.cells #[.bool cax.n, .slice cax.u cax.nu cax.cu, .slice cax.l cax.nl cax.cl, .bool cay.n, .slice cay.u cay.nu cay.cu, .slice cay.l cay.nl cay.cl] 86)).alloc (.cells #[.bool false, .slice none 0 0, .slice none 0 0, .bool false, .slice none 0 0, .slice none 0 0] 86)) = W0 at *
  have HS : Hid (∀ w', Below W0.heap.size W0 w' → w'.cell? ⟨w.heap.size, 0, none⟩ = some (.bool cax.n) ∧ w'.cell? ⟨w.heap.size, 1, none⟩ = some (.slice cax.u cax.nu cax.cu) ∧ w'.cell? ⟨w.heap.size, 2, none⟩ = some (.slice cax.l cax.nl cax.cl) ∧ w'.cell? ⟨w.heap.size, 3, none⟩ = some (.bool cay.n) ∧ w'.cell? ⟨w.heap.size, 4, none⟩ = some (.slice cay.u cay.nu cay.cu) ∧ w'.cell? ⟨w.heap.size, 5, none⟩ = some (.slice cay.l cay.nl cay.cl)) := fun w' hb => ⟨(HK0.out.below hb (by rw [HSZ.out]; omega)).cell 0, (HK0.out.below hb (by rw [HSZ.out]; omega)).cell 1, (HK0.out.below hb (by rw [HSZ.out]; omega)).cell 2, (HK0.out.below hb (by rw [HSZ.out]; omega)).cell 3, (HK0.out.below hb (by rw [HSZ.out]; omega)).cell 4, (HK0.out.below hb (by rw [HSZ.out]; omega)).cell 5⟩
  have HSS : Hid (∀ w', Below W0.heap.size W0 w' → ∀ x0 x1 x2 x3 x4 x5 : Value, ((((((w'.setCell ⟨w.heap.size + 1, 0, none⟩ (x0)).setCell ⟨w.heap.size + 1, 1, none⟩ (x1)).setCell ⟨w.heap.size + 1, 2, none⟩ (x2)).setCell ⟨w.heap.size + 1, 3, none⟩ (x3)).setCell ⟨w.heap.size + 1, 4, none⟩ (x4)).setCell ⟨w.heap.size + 1, 5, none⟩ (x5)).cell? ⟨w.heap.size, 0, none⟩ = some (.bool cax.n) ∧ ((((((w'.setCell ⟨w.heap.size + 1, 0, none⟩ (x0)).setCell ⟨w.heap.size + 1, 1, none⟩ (x1)).setCell ⟨w.heap.size + 1, 2, none⟩ (x2)).setCell ⟨w.heap.size + 1, 3, none⟩ (x3)).setCell ⟨w.heap.size + 1, 4, none⟩ (x4)).setCell ⟨w.heap.size + 1, 5, none⟩ (x5)).cell? ⟨w.heap.size, 1, none⟩ = some (.slice cax.u cax.nu cax.cu) ∧ ((((((w'.setCell ⟨w.heap.size + 1, 0, none⟩ (x0)).setCell ⟨w.heap.size + 1, 1, none⟩ (x1)).setCell ⟨w.heap.size + 1, 2, none⟩ (x2)).setCell ⟨w.heap.size + 1, 3, none⟩ (x3)).setCell ⟨w.heap.size + 1, 4, none⟩ (x4)).setCell ⟨w.heap.size + 1, 5, none⟩ (x5)).cell? ⟨w.heap.size, 2, none⟩ = some (.slice cax.l cax.nl cax.cl) ∧ ((((((w'.setCell ⟨w.heap.size + 1, 0, none⟩ (x0)).setCell ⟨w.heap.size + 1, 1, none⟩ (x1)).setCell ⟨w.heap.size + 1, 2, none⟩ (x2)).setCell ⟨w.heap.size + 1, 3, none⟩ (x3)).setCell ⟨w.heap.size + 1, 4, none⟩ (x4)).setCell ⟨w.heap.size + 1, 5, none⟩ (x5)).cell? ⟨w.heap.size, 3, none⟩ = some (.bool cay.n) ∧ ((((((w'.setCell ⟨w.heap.size + 1, 0, none⟩ (x0)).setCell ⟨w.heap.size + 1, 1, none⟩ (x1)).setCell ⟨w.heap.size + 1, 2, none⟩ (x2)).setCell ⟨w.heap.size + 1, 3, none⟩ (x3)).setCell ⟨w.heap.size + 1, 4, none⟩ (x4)).setCell ⟨w.heap.size + 1, 5, none⟩ (x5)).cell? ⟨w.heap.size, 4, none⟩ = some (.slice cay.u cay.nu cay.cu) ∧ ((((((w'.setCell ⟨w.heap.size + 1, 0, none⟩ (x0)).setCell ⟨w.heap.size + 1, 1, none⟩ (x1)).setCell ⟨w.heap.size + 1, 2, none⟩ (x2)).setCell ⟨w.heap.size + 1, 3, none⟩ (x3)).setCell ⟨w.heap.size + 1, 4, none⟩ (x4)).setCell ⟨w.heap.size + 1, 5, none⟩ (x5)).cell? ⟨w.heap.size, 5, none⟩ = some (.slice cay.l cay.nl cay.cl)) := fun w' hb x0 x1 x2 x3 x4 x5 => ⟨((HK0.out.below hb (by rw [HSZ.out]; omega)).off6 (g := w.heap.size + 1) (by omega) x0 x1 x2 x3 x4 x5).cell 0, ((HK0.out.below hb (by rw [HSZ.out]; omega)).off6 (g := w.heap.size + 1) (by omega) x0 x1 x2 x3 x4 x5).cell 1, ((HK0.out.below hb (by rw [HSZ.out]; omega)).off6 (g := w.heap.size + 1) (by omega) x0 x1 x2 x3 x4 x5).cell 2, ((HK0.out.below hb (by rw [HSZ.out]; omega)).off6 (g := w.heap.size + 1) (by omega) x0 x1 x2 x3 x4 x5).cell 3, ((HK0.out.below hb (by rw [HSZ.out]; omega)).off6 (g := w.heap.size + 1) (by omega) x0 x1 x2 x3 x4 x5).cell 4, ((HK0.out.below hb (by rw [HSZ.out]; omega)).off6 (g := w.heap.size + 1) (by omega) x0 x1 x2 x3 x4 x5).cell 5⟩
  obtain ⟨z0, z1, z2, z3, z4, z5⟩ := HS.out W0 (Below.refl _ _)
  go_region_held3 (fun w' => w'.cell? ⟨w.heap.size, 0, none⟩ = some (.bool cax.n) ∧ w'.cell? ⟨w.heap.size, 1, none⟩ = some (.slice cax.u cax.nu cax.cu) ∧ w'.cell? ⟨w.heap.size, 2, none⟩ = some (.slice cax.l cax.nl cax.cl) ∧ w'.cell? ⟨w.heap.size, 3, none⟩ = some (.bool cay.n) ∧ w'.cell? ⟨w.heap.size, 4, none⟩ = some (.slice cay.u cay.nu cay.cu) ∧ w'.cell? ⟨w.heap.size, 5, none⟩ = some (.slice cay.l cay.nl cay.cl)) (first | go_keep | exact hs1 | exact hkS)
    (first
      | (go_at_call 107; refine (negative_calls (w := W0.drew) (Hay.out.below (Below.drew (Below.refl _ _)))).mono ?_; rintro e w1 ⟨hb1, v1, rfl, hv1⟩; have hbl1 : Below W0.heap.size W0 w1 := (Below.drew (Below.refl _ W0)).trans hb1; obtain ⟨d1, rfl⟩ := qv_open hv1; have hs1 := HS.out w1 hbl1; have hkr := HK1.out.below hbl1 (by rw [HSZ.out]; omega); obtain ⟨r0, r1, r2, r3, r4, r5, f0, f1, f2, f3, f4, f5⟩ := hkr.all6; have hkS := HSS.out w1 hbl1 (.bool cax.n) (.slice cax.u cax.nu cax.cu) (.slice cax.l cax.nl cax.cl) (.bool d1.n) (.slice d1.u d1.nu d1.cu) (.slice d1.l d1.nl d1.cl))
      )
  all_goals
    go_wp2
    obtain ⟨k0, k1, k2, k3, k4, k5, _, _, _, _, _, _⟩ := (hkr.put6 (.bool cax.n) (.slice cax.u cax.nu cax.cu) (.slice cax.l cax.nl cax.cl) (.bool d1.n) (.slice d1.u d1.nu d1.cu) (.slice d1.l d1.nl d1.cl)).all6
    refine bodyPost_ret (v := .agg #[.bool cax.n, .slice cax.u cax.nu cax.cu, .slice cax.l cax.nl cax.cl, .bool d1.n, .slice d1.u d1.nu d1.cu, .slice d1.l d1.nl d1.cl]) (by simp [results, Tryz.results147, go_sem, k0, k1, k2, k3, k4, k5]) rfl ⟨Below.put6 (HB0.out.trans (hbl1.mono HB0.out.size)) (by omega) (.bool cax.n) (.slice cax.u cax.nu cax.cu) (.slice cax.l cax.nl cax.cl) (.bool d1.n) (.slice d1.u d1.nu d1.cu) (.slice d1.l d1.nl d1.cl), _, rfl, ?_⟩
    have hst := Stays.put6 hkr (by simp [notLimb]) (.bool cax.n) (.slice cax.u cax.nu cax.cu) (.slice cax.l cax.nl cax.cl) (.bool d1.n) (.slice d1.u d1.nu d1.cu) (.slice d1.l d1.nl d1.cl) rfl rfl rfl rfl rfl rfl
    exact ⟨cax, d1, rfl, hst.qv (Hax.out.below hbl1), hst.qv hv1⟩
theorem wayConj_calls {w : World} {va : Value} {ax ay : Rat} (ha : WV w va ax ay) :
    Calls Tryz.prog 147 #[va] w fun e w' => Below w.heap.size w w' ∧ ∃ v, e = .returned v ∧ WV w' v ax (-ay) := by
  obtain ⟨c1, c2, rfl, h1, h2⟩ := ha
  exact wayConj_walk h1 h2
theorem wayProd_walk {w : World} {cax cay cbx cbz : C3} {ax ay bx bz : Rat} (hax : QV w (.agg #[.bool cax.n, .slice cax.u cax.nu cax.cu, .slice cax.l cax.nl cax.cl]) ax) (hay : QV w (.agg #[.bool cay.n, .slice cay.u cay.nu cay.cu, .slice cay.l cay.nl cay.cl]) ay) (hbx : QV w (.agg #[.bool cbx.n, .slice cbx.u cbx.nu cbx.cu, .slice cbx.l cbx.nl cbx.cl]) bx) (hbz : QV w (.agg #[.bool cbz.n, .slice cbz.u cbz.nu cbz.cu, .slice cbz.l cbz.nl cbz.cl]) bz) {k l : Nat} (f1 : QS k ax) (f2 : QS k ay) (f3 : QS l bx) (f4 : QS l bz) (hk : 2 * (k + l + 1) + 1 ≤ 35184372088640) :
    Calls Tryz.prog 103 #[.agg #[.bool cax.n, .slice cax.u cax.nu cax.cu, .slice cax.l cax.nl cax.cl, .bool cay.n, .slice cay.u cay.nu cay.cu, .slice cay.l cay.nl cay.cl], .agg #[.bool cbx.n, .slice cbx.u cbx.nu cbx.cu, .slice cbx.l cbx.nl cbx.cl, .bool cbz.n, .slice cbz.u cbz.nu cbz.cu, .slice cbz.l cbz.nl cbz.cl]] w fun e w' => Below w.heap.size w w' ∧ ∃ v, e = .returned v ∧ WV w' v (ax * bx + ay * -bz) (ax * bz - -ay * bx) := by
  obtain ⟨hb0, hk0, hk1, hk2, hsz⟩ := boxes3 w #[.bool cax.n, .slice cax.u cax.nu cax.cu, .slice cax.l cax.nl cax.cl, .bool cay.n, .slice cay.u cay.nu cay.cu, .slice cay.l cay.nl cay.cl] #[.bool cbx.n, .slice cbx.u cbx.nu cbx.cu, .slice cbx.l cbx.nl cbx.cl, .bool cbz.n, .slice cbz.u cbz.nu cbz.cu, .slice cbz.l cbz.nl cbz.cl] #[.bool false, .slice none 0 0, .slice none 0 0, .bool false, .slice none 0 0, .slice none 0 0] 86 86 86
  have HB0 := hideIt hb0
  have HSZ := hideIt hsz
  have HK0 := hideIt hk0
  have HK1 := hideIt hk1
  have HK2 := hideIt hk2
  have Hax := hideIt (hax.below hb0)
  have Hay := hideIt (hay.below hb0)
  have Hbx := hideIt (hbx.below hb0)
  have Hbz := hideIt (hbz.below hb0)
  have F1 := hideIt f1
  have F2 := hideIt f2
  have F3 := hideIt f3
  have F4 := hideIt f4
  have HK := hideIt hk
  clear hb0 hsz hk0 hk1 hk2 hax hay hbx hbz f1 f2 f3 f4 hk
  have HL : Hid (k + l + (k + l) + 1 ≤ 35184372088640) := by have := HK.out; show _ ≤ _; omega
  have F5 : Hid (QS l (-bz)) := F4.out.neg
  have F6 : Hid (QS k (-ay)) := F2.out.neg
  go_enter Tryz.func103, Tryz.ntmps103
  go_wp2_with fail
  generalize (((w.alloc (.cells #[.bool cax.n, .slice cax.u cax.nu cax.cu, .slice cax.l cax.nl cax.cl, .bool cay.n, .slice cay.u cay.nu cay.cu, .slice cay.l cay.nl cay.cl] 86)).alloc (.cells #[.bool cbx.n, .slice cbx.u cbx.nu cbx.cu, .slice cbx.l cbx.nl cbx.cl, .bool cbz.n, .slice cbz.u cbz.nu cbz.cu, .slice cbz.l cbz.nl cbz.cl] 86)).alloc (.cells #[.bool false, .slice none 0 0, .slice none 0 0, .bool false, .slice none 0 0, .slice none 0 0] 86)) = W0 at *
  have HS : Hid (∀ w', Below W0.heap.size W0 w' → w'.cell? ⟨w.heap.size, 0, none⟩ = some (.bool cax.n) ∧ w'.cell? ⟨w.heap.size, 1, none⟩ = some (.slice cax.u cax.nu cax.cu) ∧ w'.cell? ⟨w.heap.size, 2, none⟩ = some (.slice cax.l cax.nl cax.cl) ∧ w'.cell? ⟨w.heap.size, 3, none⟩ = some (.bool cay.n) ∧ w'.cell? ⟨w.heap.size, 4, none⟩ = some (.slice cay.u cay.nu cay.cu) ∧ w'.cell? ⟨w.heap.size, 5, none⟩ = some (.slice cay.l cay.nl cay.cl) ∧ w'.cell? ⟨w.heap.size + 1, 0, none⟩ = some (.bool cbx.n) ∧ w'.cell? ⟨w.heap.size + 1, 1, none⟩ = some (.slice cbx.u cbx.nu cbx.cu) ∧ w'.cell? ⟨w.heap.size + 1, 2, none⟩ = some (.slice cbx.l cbx.nl cbx.cl) ∧ w'.cell? ⟨w.heap.size + 1, 3, none⟩ = some (.bool cbz.n) ∧ w'.cell? ⟨w.heap.size + 1, 4, none⟩ = some (.slice cbz.u cbz.nu cbz.cu) ∧ w'.cell? ⟨w.heap.size + 1, 5, none⟩ = some (.slice cbz.l cbz.nl cbz.cl)) := fun w' hb => ⟨(HK0.out.below hb (by rw [HSZ.out]; omega)).cell 0, (HK0.out.below hb (by rw [HSZ.out]; omega)).cell 1, (HK0.out.below hb (by rw [HSZ.out]; omega)).cell 2, (HK0.out.below hb (by rw [HSZ.out]; omega)).cell 3, (HK0.out.below hb (by rw [HSZ.out]; omega)).cell 4, (HK0.out.below hb (by rw [HSZ.out]; omega)).cell 5, (HK1.out.below hb (by rw [HSZ.out]; omega)).cell 0, (HK1.out.below hb (by rw [HSZ.out]; omega)).cell 1, (HK1.out.below hb (by rw [HSZ.out]; omega)).cell 2, (HK1.out.below hb (by rw [HSZ.out]; omega)).cell 3, (HK1.out.below hb (by rw [HSZ.out]; omega)).cell 4, (HK1.out.below hb (by rw [HSZ.out]; omega)).cell 5⟩
  have HSS : Hid (∀ w', Below W0.heap.size W0 w' → ∀ x0 x1 x2 x3 x4 x5 : Value, ((((((w'.setCell ⟨w.heap.size + 1 + 1, 0, none⟩ (x0)).setCell ⟨w.heap.size + 1 + 1, 1, none⟩ (x1)).setCell ⟨w.heap.size + 1 + 1, 2, none⟩ (x2)).setCell ⟨w.heap.size + 1 + 1, 3, none⟩ (x3)).setCell ⟨w.heap.size + 1 + 1, 4, none⟩ (x4)).setCell ⟨w.heap.size + 1 + 1, 5, none⟩ (x5)).cell? ⟨w.heap.size, 0, none⟩ = some (.bool cax.n) ∧ ((((((w'.setCell ⟨w.heap.size + 1 + 1, 0, none⟩ (x0)).setCell ⟨w.heap.size + 1 + 1, 1, none⟩ (x1)).setCell ⟨w.heap.size + 1 + 1, 2, none⟩ (x2)).setCell ⟨w.heap.size + 1 + 1, 3, none⟩ (x3)).setCell ⟨w.heap.size + 1 + 1, 4, none⟩ (x4)).setCell ⟨w.heap.size + 1 + 1, 5, none⟩ (x5)).cell? ⟨w.heap.size, 1, none⟩ = some (.slice cax.u cax.nu cax.cu) ∧ ((((((w'.setCell ⟨w.heap.size + 1 + 1, 0, none⟩ (x0)).setCell ⟨w.heap.size + 1 + 1, 1, none⟩ (x1)).setCell ⟨w.heap.size + 1 + 1, 2, none⟩ (x2)).setCell ⟨w.heap.size + 1 + 1, 3, none⟩ (x3)).setCell ⟨w.heap.size + 1 + 1, 4, none⟩ (x4)).setCell ⟨w.heap.size + 1 + 1, 5, none⟩ (x5)).cell? ⟨w.heap.size, 2, none⟩ = some (.slice cax.l cax.nl cax.cl) ∧ ((((((w'.setCell ⟨w.heap.size + 1 + 1, 0, none⟩ (x0)).setCell ⟨w.heap.size + 1 + 1, 1, none⟩ (x1)).setCell ⟨w.heap.size + 1 + 1, 2, none⟩ (x2)).setCell ⟨w.heap.size + 1 + 1, 3, none⟩ (x3)).setCell ⟨w.heap.size + 1 + 1, 4, none⟩ (x4)).setCell ⟨w.heap.size + 1 + 1, 5, none⟩ (x5)).cell? ⟨w.heap.size, 3, none⟩ = some (.bool cay.n) ∧ ((((((w'.setCell ⟨w.heap.size + 1 + 1, 0, none⟩ (x0)).setCell ⟨w.heap.size + 1 + 1, 1, none⟩ (x1)).setCell ⟨w.heap.size + 1 + 1, 2, none⟩ (x2)).setCell ⟨w.heap.size + 1 + 1, 3, none⟩ (x3)).setCell ⟨w.heap.size + 1 + 1, 4, none⟩ (x4)).setCell ⟨w.heap.size + 1 + 1, 5, none⟩ (x5)).cell? ⟨w.heap.size, 4, none⟩ = some (.slice cay.u cay.nu cay.cu) ∧ ((((((w'.setCell ⟨w.heap.size + 1 + 1, 0, none⟩ (x0)).setCell ⟨w.heap.size + 1 + 1, 1, none⟩ (x1)).setCell ⟨w.heap.size + 1 + 1, 2, none⟩ (x2)).setCell ⟨w.heap.size + 1 + 1, 3, none⟩ (x3)).setCell ⟨w.heap.size + 1 + 1, 4, none⟩ (x4)).setCell ⟨w.heap.size + 1 + 1, 5, none⟩ (x5)).cell? ⟨w.heap.size, 5, none⟩ = some (.slice cay.l cay.nl cay.cl) ∧ ((((((w'.setCell ⟨w.heap.size + 1 + 1, 0, none⟩ (x0)).setCell ⟨w.heap.size + 1 + 1, 1, none⟩ (x1)).setCell ⟨w.heap.size + 1 + 1, 2, none⟩ (x2)).setCell ⟨w.heap.size + 1 + 1, 3, none⟩ (x3)).setCell ⟨w.heap.size + 1 + 1, 4, none⟩ (x4)).setCell ⟨w.heap.size + 1 + 1, 5, none⟩ (x5)).cell? ⟨w.heap.size + 1, 0, none⟩ = some (.bool cbx.n) ∧ ((((((w'.setCell ⟨w.heap.size + 1 + 1, 0, none⟩ (x0)).setCell ⟨w.heap.size + 1 + 1, 1, none⟩ (x1)).setCell ⟨w.heap.size + 1 + 1, 2, none⟩ (x2)).setCell ⟨w.heap.size + 1 + 1, 3, none⟩ (x3)).setCell ⟨w.heap.size + 1 + 1, 4, none⟩ (x4)).setCell ⟨w.heap.size + 1 + 1, 5, none⟩ (x5)).cell? ⟨w.heap.size + 1, 1, none⟩ = some (.slice cbx.u cbx.nu cbx.cu) ∧ ((((((w'.setCell ⟨w.heap.size + 1 + 1, 0, none⟩ (x0)).setCell ⟨w.heap.size + 1 + 1, 1, none⟩ (x1)).setCell ⟨w.heap.size + 1 + 1, 2, none⟩ (x2)).setCell ⟨w.heap.size + 1 + 1, 3, none⟩ (x3)).setCell ⟨w.heap.size + 1 + 1, 4, none⟩ (x4)).setCell ⟨w.heap.size + 1 + 1, 5, none⟩ (x5)).cell? ⟨w.heap.size + 1, 2, none⟩ = some (.slice cbx.l cbx.nl cbx.cl) ∧ ((((((w'.setCell ⟨w.heap.size + 1 + 1, 0, none⟩ (x0)).setCell ⟨w.heap.size + 1 + 1, 1, none⟩ (x1)).setCell ⟨w.heap.size + 1 + 1, 2, none⟩ (x2)).setCell ⟨w.heap.size + 1 + 1, 3, none⟩ (x3)).setCell ⟨w.heap.size + 1 + 1, 4, none⟩ (x4)).setCell ⟨w.heap.size + 1 + 1, 5, none⟩ (x5)).cell? ⟨w.heap.size + 1, 3, none⟩ = some (.bool cbz.n) ∧ ((((((w'.setCell ⟨w.heap.size + 1 + 1, 0, none⟩ (x0)).setCell ⟨w.heap.size + 1 + 1, 1, none⟩ (x1)).setCell ⟨w.heap.size + 1 + 1, 2, none⟩ (x2)).setCell ⟨w.heap.size + 1 + 1, 3, none⟩ (x3)).setCell ⟨w.heap.size + 1 + 1, 4, none⟩ (x4)).setCell ⟨w.heap.size + 1 + 1, 5, none⟩ (x5)).cell? ⟨w.heap.size + 1, 4, none⟩ = some (.slice cbz.u cbz.nu cbz.cu) ∧ ((((((w'.setCell ⟨w.heap.size + 1 + 1, 0, none⟩ (x0)).setCell ⟨w.heap.size + 1 + 1, 1, none⟩ (x1)).setCell ⟨w.heap.size + 1 + 1, 2, none⟩ (x2)).setCell ⟨w.heap.size + 1 + 1, 3, none⟩ (x3)).setCell ⟨w.heap.size + 1 + 1, 4, none⟩ (x4)).setCell ⟨w.heap.size + 1 + 1, 5, none⟩ (x5)).cell? ⟨w.heap.size + 1, 5, none⟩ = some (.slice cbz.l cbz.nl cbz.cl)) := fun w' hb x0 x1 x2 x3 x4 x5 => ⟨((HK0.out.below hb (by rw [HSZ.out]; omega)).off6 (g := w.heap.size + 1 + 1) (by omega) x0 x1 x2 x3 x4 x5).cell 0, ((HK0.out.below hb (by rw [HSZ.out]; omega)).off6 (g := w.heap.size + 1 + 1) (by omega) x0 x1 x2 x3 x4 x5).cell 1, ((HK0.out.below hb (by rw [HSZ.out]; omega)).off6 (g := w.heap.size + 1 + 1) (by omega) x0 x1 x2 x3 x4 x5).cell 2, ((HK0.out.below hb (by rw [HSZ.out]; omega)).off6 (g := w.heap.size + 1 + 1) (by omega) x0 x1 x2 x3 x4 x5).cell 3, ((HK0.out.below hb (by rw [HSZ.out]; omega)).off6 (g := w.heap.size + 1 + 1) (by omega) x0 x1 x2 x3 x4 x5).cell 4, ((HK0.out.below hb (by rw [HSZ.out]; omega)).off6 (g := w.heap.size + 1 + 1) (by omega) x0 x1 x2 x3 x4 x5).cell 5, ((HK1.out.below hb (by rw [HSZ.out]; omega)).off6 (g := w.heap.size + 1 + 1) (by omega) x0 x1 x2 x3 x4 x5).cell 0, ((HK1.out.below hb (by rw [HSZ.out]; omega)).off6 (g := w.heap.size + 1 + 1) (by omega) x0 x1 x2 x3 x4 x5).cell 1, ((HK1.out.below hb (by rw [HSZ.out]; omega)).off6 (g := w.heap.size + 1 + 1) (by omega) x0 x1 x2 x3 x4 x5).cell 2, ((HK1.out.below hb (by rw [HSZ.out]; omega)).off6 (g := w.heap.size + 1 + 1) (by omega) x0 x1 x2 x3 x4 x5).cell 3, ((HK1.out.below hb (by rw [HSZ.out]; omega)).off6 (g := w.heap.size + 1 + 1) (by omega) x0 x1 x2 x3 x4 x5).cell 4, ((HK1.out.below hb (by rw [HSZ.out]; omega)).off6 (g := w.heap.size + 1 + 1) (by omega) x0 x1 x2 x3 x4 x5).cell 5⟩
  obtain ⟨z0, z1, z2, z3, z4, z5, z6, z7, z8, z9, z10, z11⟩ := HS.out W0 (Below.refl _ _)
  go_region_held3 (fun w' => w'.cell? ⟨w.heap.size, 0, none⟩ = some (.bool cax.n) ∧ w'.cell? ⟨w.heap.size, 1, none⟩ = some (.slice cax.u cax.nu cax.cu) ∧ w'.cell? ⟨w.heap.size, 2, none⟩ = some (.slice cax.l cax.nl cax.cl) ∧ w'.cell? ⟨w.heap.size, 3, none⟩ = some (.bool cay.n) ∧ w'.cell? ⟨w.heap.size, 4, none⟩ = some (.slice cay.u cay.nu cay.cu) ∧ w'.cell? ⟨w.heap.size, 5, none⟩ = some (.slice cay.l cay.nl cay.cl) ∧ w'.cell? ⟨w.heap.size + 1, 0, none⟩ = some (.bool cbx.n) ∧ w'.cell? ⟨w.heap.size + 1, 1, none⟩ = some (.slice cbx.u cbx.nu cbx.cu) ∧ w'.cell? ⟨w.heap.size + 1, 2, none⟩ = some (.slice cbx.l cbx.nl cbx.cl) ∧ w'.cell? ⟨w.heap.size + 1, 3, none⟩ = some (.bool cbz.n) ∧ w'.cell? ⟨w.heap.size + 1, 4, none⟩ = some (.slice cbz.u cbz.nu cbz.cu) ∧ w'.cell? ⟨w.heap.size + 1, 5, none⟩ = some (.slice cbz.l cbz.nl cbz.cl)) (first | go_keep | exact hs1 | exact hs2 | exact hs3 | exact hs4 | exact hkS)
    (first
      | (go_at_call_of 147 (Value.agg #[Value.bool cbx.n, Value.slice cbx.u cbx.nu cbx.cu, Value.slice cbx.l cbx.nl cbx.cl, Value.bool cbz.n, Value.slice cbz.u cbz.nu cbz.cu, Value.slice cbz.l cbz.nl cbz.cl]); refine (wayConj_calls (w := W0.drew) ⟨cbx, cbz, rfl, (Hbx.out.below (Below.drew (Below.refl _ _))), (Hbz.out.below (Below.drew (Below.refl _ _)))⟩).mono ?_; rintro e w1 ⟨hb1, v1, rfl, hv1⟩; have hbl1 : Below W0.heap.size W0 w1 := (Below.drew (Below.refl _ W0)).trans hb1; have hw1 := hv1; obtain ⟨d1, e1, rfl, hx1, hy1⟩ := hw1; have hs1 := HS.out w1 hbl1)
      | (go_at_call 123; refine (wayDot_calls ⟨cax, cay, rfl, (Hax.out.below hbl1), (Hay.out.below hbl1)⟩ hv1 F1.out F2.out F3.out F5.out HK.out).mono ?_; rintro e w2 ⟨hb2, v2, rfl, hv2⟩; have hbl2 := hbl1.trans (hb2.mono hbl1.size); obtain ⟨d2, rfl⟩ := qv_open hv2; have hs2 := HS.out w2 hbl2)
      | (go_at_call_of 147 (Value.agg #[Value.bool cax.n, Value.slice cax.u cax.nu cax.cu, Value.slice cax.l cax.nl cax.cl, Value.bool cay.n, Value.slice cay.u cay.nu cay.cu, Value.slice cay.l cay.nl cay.cl]); refine (wayConj_calls ⟨cax, cay, rfl, (Hax.out.below hbl2), (Hay.out.below hbl2)⟩).mono ?_; rintro e w3 ⟨hb3, v3, rfl, hv3⟩; have hbl3 := hbl2.trans (hb3.mono hbl2.size); have hw3 := hv3; obtain ⟨d3, e3, rfl, hx3, hy3⟩ := hw3; have hs3 := HS.out w3 hbl3)
      | (go_at_call 115; refine (wayCross_calls hv3 ⟨cbx, cbz, rfl, (Hbx.out.below hbl3), (Hbz.out.below hbl3)⟩ F1.out F6.out F3.out F4.out HL.out).mono ?_; rintro e w4 ⟨hb4, v4, rfl, hv4⟩; have hbl4 := hbl3.trans (hb4.mono hbl3.size); obtain ⟨d4, rfl⟩ := qv_open hv4; have hs4 := HS.out w4 hbl4; have hkr := HK2.out.below hbl4 (by rw [HSZ.out]; omega); obtain ⟨r0, r1, r2, r3, r4, r5, f0, f1, f2, f3, f4, f5⟩ := hkr.all6; have hkS := HSS.out w4 hbl4 (.bool d2.n) (.slice d2.u d2.nu d2.cu) (.slice d2.l d2.nl d2.cl) (.bool d4.n) (.slice d4.u d4.nu d4.cu) (.slice d4.l d4.nl d4.cl))
      )
  all_goals
    go_wp2
    obtain ⟨k0, k1, k2, k3, k4, k5, _, _, _, _, _, _⟩ := (hkr.put6 (.bool d2.n) (.slice d2.u d2.nu d2.cu) (.slice d2.l d2.nl d2.cl) (.bool d4.n) (.slice d4.u d4.nu d4.cu) (.slice d4.l d4.nl d4.cl)).all6
    refine bodyPost_ret (v := .agg #[.bool d2.n, .slice d2.u d2.nu d2.cu, .slice d2.l d2.nl d2.cl, .bool d4.n, .slice d4.u d4.nu d4.cu, .slice d4.l d4.nl d4.cl]) (by simp [results, Tryz.results103, go_sem, k0, k1, k2, k3, k4, k5]) rfl ⟨Below.put6 (HB0.out.trans (hbl4.mono HB0.out.size)) (by omega) (.bool d2.n) (.slice d2.u d2.nu d2.cu) (.slice d2.l d2.nl d2.cl) (.bool d4.n) (.slice d4.u d4.nu d4.cu) (.slice d4.l d4.nl d4.cl), _, rfl, ?_⟩
    have hst := Stays.put6 hkr (by simp [notLimb]) (.bool d2.n) (.slice d2.u d2.nu d2.cu) (.slice d2.l d2.nl d2.cl) (.bool d4.n) (.slice d4.u d4.nu d4.cu) (.slice d4.l d4.nl d4.cl) rfl rfl rfl rfl rfl rfl
    exact ⟨d2, d4, rfl, hst.qv ((hv2.below hb3).below hb4), hst.qv hv4⟩
theorem prod_re (a b c d : Rat) : a * c + b * -d = a * c - b * d := by grind
theorem prod_im (a b c d : Rat) : a * d - -b * c = a * d + b * c := by grind
theorem wayProd_calls {w : World} {va vb : Value} {ax ay bx bz : Rat} {k l : Nat} (ha : WV w va ax ay) (hb : WV w vb bx bz) (f1 : QS k ax) (f2 : QS k ay) (f3 : QS l bx) (f4 : QS l bz) (hk : 2 * (k + l + 1) + 1 ≤ 35184372088640) :
    Calls Tryz.prog 103 #[va, vb] w fun e w' => Below w.heap.size w w' ∧ ∃ v, e = .returned v ∧ WV w' v (ax * bx - ay * bz) (ax * bz + ay * bx) := by
  obtain ⟨c1, c2, rfl, h1, h2⟩ := ha
  obtain ⟨c3, c4, rfl, h3, h4⟩ := hb
  have := wayProd_walk h1 h2 h3 h4 f1 f2 f3 f4 hk
  rwa [prod_re, prod_im] at this
end Go.Proofs.YtgajdmadbdbabaaGreatDoor
/- WI -/
namespace Go.Proofs.YtgajdmadbdbabaaGreatDoor
open Go.RowKit Cx
attribute [local go_sem ↓] Go.wp_at_zero Go.wp_at_succ
end Go.Proofs.YtgajdmadbdbabaaGreatDoor
/- WJ -/
namespace Go.Proofs.YtgajdmadbdbabaaGreatDoor
open Go.RowKit Cx
attribute [local go_sem ↓] Go.wp_at_zero Go.wp_at_succ
end Go.Proofs.YtgajdmadbdbabaaGreatDoor
/- WK -/
namespace Go.Proofs.YtgajdmadbdbabaaGreatDoor
open Go.RowKit Cx
attribute [local go_sem ↓] Go.wp_at_zero Go.wp_at_succ
theorem qv_parts {w : World} {c : C3} {q : Rat} (h : QV w (.agg #[.bool c.n, .slice c.u c.nu c.cu, .slice c.l c.nl c.cl]) q) :
    c.n = decide (q.num < 0) ∧ NatN w (.slice c.u c.nu c.cu) q.num.natAbs ∧ NatN w (.slice c.l c.nl c.cl) (if q.den = 1 then 0 else q.den) := by
  obtain ⟨vu, vl, e, h1, h2⟩ := h
  simp only [Value.agg.injEq, Array.mk.injEq, List.cons.injEq, Value.bool.injEq, and_true] at e
  obtain ⟨e0, e1, e2⟩ := e
  subst e1
  subst e2
  exact ⟨e0, h1, h2⟩
theorem fb_drop {qs : List Rat} : ∀ {k : Nat}, (∀ j (hj : j < qs.length), j < k → (qs[j]'hj).num = 0) → fb qs = fb (qs.drop k) := by
  induction qs with
  | nil => intro k _; simp
  | cons q r ih =>
    intro k h
    match k with
    | 0 => rfl
    | k + 1 =>
      have h0 := h 0 (by simp) (by omega)
      rw [List.drop_succ_cons]
      have h0' : q.num = 0 := h0
      rw [fb, if_pos h0']
      exact ih fun j hj hk => h (j + 1) (by simpa using hj) (by omega)
theorem firstBelow_walk {w : World} {b off cap : Nat} {qs : List Rat} (h : QRow w (.slice (some ⟨b, off, none⟩) qs.length cap) qs) (hn : qs.length ≤ 1000000) :
    Calls Tryz.prog 195 #[.slice (some ⟨b, off, none⟩) qs.length cap] w fun e w' => Below w.heap.size w w' ∧ e = .returned (.bool (fb qs)) := by
  have HR := hideIt h
  clear h
  obtain ⟨r, hr⟩ : ∃ r, r = fb qs := ⟨_, rfl⟩
  rw [← hr]
  have HRR := hideIt hr
  clear hr
  go_enter Tryz.func195, Tryz.ntmps195
  go_wp2
  go_loopw [7] (fun i wr => ∃ k : Nat, k ≤ qs.length ∧ i = .int .i64 (k : Int) ∧ (∀ j (hj : j < qs.length), j < k → (qs[j]'hj).num = 0) ∧ Below w.heap.size w wr) (fun i _ => qs.length - (intOf i).toNat)
  case atStart => exact ⟨0, Nat.zero_le _, rfl, fun j _ h => absurd h (by omega), Below.refl _ _⟩
  case round =>
    obtain ⟨k, hkl, rfl, hz, hbel⟩ := hrel
    have HZ := hideIt hz
    clear hz
    by_cases hend : k = qs.length
    · subst hend
      go_wp2
      go_ret
      refine ⟨hbel, ?_⟩
      rw [HRR.out, fb_drop HZ.out, List.drop_length]
      rfl
    · have hlt : k < qs.length := by omega
      have hidx := qrow_idx (b := b) (off := off) (cap := cap) hlt
      obtain ⟨b', off', cap', e, hbl, hcells⟩ := HR.out
      cases e
      obtain ⟨d, d0, d1, d2, hd⟩ := hcells k hlt
      have HD := hideIt (hd.below hbel)
      have z0 := (hbel.cell (p := ⟨b, off + k * 3, none⟩) hbl).trans d0
      have z1 := (hbel.cell (p := ⟨b, off + k * 3 + 1, none⟩) hbl).trans d1
      have z2 := (hbel.cell (p := ⟨b, off + k * 3 + 2, none⟩) hbl).trans d2
      have hsz' := hideIt hbel.size
      obtain ⟨hn1, _, _⟩ := qv_parts hd
      have HN := hideIt hn1
      clear d0 d1 d2 hd hcells hn1
      go_wp2_with fail
      have hbn := below_new wr (.cells #[.bool d.n, .slice d.u d.nu d.cu, .slice d.l d.nl d.cl] 84)
      have hkn := Blk.new wr #[.bool d.n, .slice d.u d.nu d.cu, .slice d.l d.nl d.cl] 84
      refine (sign_calls (HD.out.below hbn)).mono ?_
      rintro e w2 ⟨hb2, rfl⟩
      have hk2 := hkn.below hb2 hkn.lt
      obtain ⟨y0, y1, y2, _, _, _⟩ := hk2.all3
      have hbw := hbel.trans ((hbn.trans (hb2.mono hbn.size)).mono hsz'.out)
      by_cases h0 : (qs[k]'hlt).num = 0
      · rw [if_pos h0]
        have H0 := hideIt h0
        clear h0
        go_wp2
        go_roundw
        case rel =>
          refine ⟨k + 1, hlt, by go_num, fun j hj hjk => ?_, hbw⟩
          by_cases e : j = k
          · subst e; exact H0.out
          · exact HZ.out j hj (by omega)
        case measure => simp [intOf]; omega
      · rw [if_neg h0]
        have hne : ((if (qs[k]'hlt).num < 0 then (-1 : Int) else 1) != 0) = true := by split <;> rfl
        generalize (if (qs[k]'hlt).num < 0 then (-1 : Int) else 1) = z at *
        have H0 := hideIt h0
        clear h0
        go_wp2
        go_ret
        refine ⟨hbw, ?_⟩
        rw [HRR.out, fb_drop HZ.out, List.drop_eq_getElem_cons hlt, fb, if_neg H0.out, HN.out]
        rfl
theorem firstBelow_calls {w : World} {v : Value} {qs : List Rat} (h : QRow w v qs) (hn : qs.length ≤ 1000000) :
    Calls Tryz.prog 195 #[v] w fun e w' => Below w.heap.size w w' ∧ e = .returned (.bool (fb qs)) := by
  have h' := h
  obtain ⟨b, off, cap, rfl, _⟩ := h
  exact firstBelow_walk h' hn
def QBlk (w : World) (g : Nat) (qs : List Rat) : Prop :=
  ∃ cs : Array Value, Blk w g cs 84 ∧ cs.all notLimb = true ∧ cs.size = qs.length * 3 ∧ ∀ (j : Nat) (hj : j < qs.length), ∃ c : C3,
    cs[j * 3]? = some (.bool c.n) ∧ cs[j * 3 + 1]? = some (.slice c.u c.nu c.cu) ∧ cs[j * 3 + 2]? = some (.slice c.l c.nl c.cl) ∧ QV w (.agg #[.bool c.n, .slice c.u c.nu c.cu, .slice c.l c.nl c.cl]) (qs[j]'hj)
theorem QBlk.lt {w : World} {g : Nat} {qs : List Rat} (h : QBlk w g qs) : g < w.heap.size := by
  obtain ⟨cs, h, _⟩ := h
  exact h.lt
theorem QBlk.below {w w' : World} {g : Nat} {qs : List Rat} (h : QBlk w g qs) (hb : Below w.heap.size w w') : QBlk w' g qs := by
  obtain ⟨cs, h1, h2, h3, h4⟩ := h
  refine ⟨cs, h1.below hb h1.lt, h2, h3, fun j hj => ?_⟩
  obtain ⟨c, e0, e1, e2, hq⟩ := h4 j hj
  exact ⟨c, e0, e1, e2, hq.below hb⟩
theorem QBlk.row {w : World} {g : Nat} {qs : List Rat} (h : QBlk w g qs) (cap : Nat) : QRow w (.slice (some ⟨g, 0, none⟩) qs.length cap) qs := by
  obtain ⟨cs, h1, h2, h3, h4⟩ := h
  refine ⟨g, 0, cap, rfl, h1.lt, fun j hj => ?_⟩
  obtain ⟨c, e0, e1, e2, hq⟩ := h4 j hj
  exact ⟨c, by rw [Nat.zero_add, h1.cell]; exact e0, by rw [Nat.zero_add, h1.cell]; exact e1, by rw [Nat.zero_add, h1.cell]; exact e2, hq⟩
theorem QBlk.facts {w : World} {g : Nat} {qs : List Rat} (h : QBlk w g qs) {k : Nat} (hk : k < qs.length) :
    ∃ c : C3, w.cell? ⟨g, k * 3, none⟩ = some (.bool c.n) ∧ w.cell? ⟨g, k * 3 + 1, none⟩ = some (.slice c.u c.nu c.cu) ∧ w.cell? ⟨g, k * 3 + 2, none⟩ = some (.slice c.l c.nl c.cl) ∧ w.frozen? ⟨g, k * 3, none⟩ = false ∧ w.frozen? ⟨g, k * 3 + 1, none⟩ = false ∧ w.frozen? ⟨g, k * 3 + 2, none⟩ = false := by
  obtain ⟨cs, h1, h2, h3, h4⟩ := h
  obtain ⟨c, e0, e1, e2, _⟩ := h4 k hk
  exact ⟨c, by rw [h1.cell]; exact e0, by rw [h1.cell]; exact e1, by rw [h1.cell]; exact e2, h1.frozen _, h1.frozen _, h1.frozen _⟩
theorem QBlk.put {w : World} {g : Nat} {qs : List Rat} (h : QBlk w g qs) {k : Nat} (hk : k < qs.length) {d : C3} {q : Rat} (hq : QV w (.agg #[.bool d.n, .slice d.u d.nu d.cu, .slice d.l d.nl d.cl]) q) :
    QBlk (((w.setCell ⟨g, k * 3, none⟩ (.bool d.n)).setCell ⟨g, k * 3 + 1, none⟩ (.slice d.u d.nu d.cu)).setCell ⟨g, k * 3 + 2, none⟩ (.slice d.l d.nl d.cl)) g (qs.set k q) ∧ Stays w (((w.setCell ⟨g, k * 3, none⟩ (.bool d.n)).setCell ⟨g, k * 3 + 1, none⟩ (.slice d.u d.nu d.cu)).setCell ⟨g, k * 3 + 2, none⟩ (.slice d.l d.nl d.cl)) := by
  obtain ⟨cs, h1, h2, h3, h4⟩ := h
  have b1 := h1.set (k * 3) (.bool d.n)
  have b2 := b1.set (k * 3 + 1) (.slice d.u d.nu d.cu)
  have b3 := b2.set (k * 3 + 2) (.slice d.l d.nl d.cl)
  have a1 := all_set h2 (k * 3) (v := .bool d.n) rfl
  have a2 := all_set a1 (k * 3 + 1) (v := .slice d.u d.nu d.cu) rfl
  have a3 := all_set a2 (k * 3 + 2) (v := .slice d.l d.nl d.cl) rfl
  have hst := ((Stays.set h1 h2 (k * 3) (.bool d.n)).trans (Stays.set b1 a1 (k * 3 + 1) (.slice d.u d.nu d.cu))).trans (Stays.set b2 a2 (k * 3 + 2) (.slice d.l d.nl d.cl))
  refine ⟨⟨_, b3, a3, by simp [h3], fun j hj => ?_⟩, hst⟩
  have hj' : j < qs.length := by simpa using hj
  by_cases e : j = k
  · subst e
    refine ⟨d, ?_, ?_, ?_, ?_⟩
    · simp [Array.getElem?_setIfInBounds, h3]; omega
    · simp [Array.getElem?_setIfInBounds, h3]; omega
    · simp [Array.getElem?_setIfInBounds, h3]; omega
    · rw [List.getElem_set_self]; exact hst.qv hq
  · obtain ⟨c, e0, e1, e2, hc⟩ := h4 j hj'
    refine ⟨c, ?_, ?_, ?_, ?_⟩
    · simp only [Array.getElem?_setIfInBounds]
      rw [if_neg (by omega), if_neg (by omega), if_neg (by omega)]; exact e0
    · simp only [Array.getElem?_setIfInBounds]
      rw [if_neg (by omega), if_neg (by omega), if_neg (by omega)]; exact e1
    · simp only [Array.getElem?_setIfInBounds]
      rw [if_neg (by omega), if_neg (by omega), if_neg (by omega)]; exact e2
    · rw [List.getElem_set_ne (by omega)]; exact hst.qv hc
end Go.Proofs.YtgajdmadbdbabaaGreatDoor
/- WL -/
namespace Go.Proofs.YtgajdmadbdbabaaGreatDoor
open Go.RowKit Cx
attribute [local go_sem ↓] Go.wp_at_zero Go.wp_at_succ
theorem Tryz.infoQ : (Tryz.prog.info? 84).map (fun i => (i.zero, i.size, i.bytes)) = some (some (.agg #[.bool false, .slice none 0 0, .slice none 0 0]), 3, 56) := by kernel_rfl
theorem make_qs (n : Nat) (hn : n ≤ 1000000) (w : World) :
    (Instr.makeSlice 163 (.int .i64 n) (.int .i64 n)).run Tryz.prog w = .ok (.slice (some ⟨w.heap.size, 0, none⟩) n n) (w.alloc (.cells (madeCells #[.bool false, .slice none 0 0, .slice none 0 0] (n * 3)) 84)) := by
  obtain ⟨i, hi, hz0, hz1, hz2⟩ := info_parts Tryz.infoQ
  have h := run_make (P := Tryz.prog) w 163 84 i (.agg #[.bool false, .slice none 0 0, .slice none 0 0]) Tryz.underlying163 hi hz0 .i64 .i64 n n (by omega) (by omega) (by rw [hz2]; omega) (by omega)
  rw [hz1] at h
  simpa [Value.cells] using h
theorem made_at (n j r : Nat) (hj : j < n) (hr : r < 3) : (madeCells #[.bool false, .slice none 0 0, .slice none 0 0] (n * 3))[j * 3 + r]? = #[Value.bool false, .slice none 0 0, .slice none 0 0][r]? := by
  have h1 : j * 3 + r < n * 3 := by omega
  have h2 : (j * 3 + r) % 3 = r := by omega
  match r, hr with
  | 0, _ => simp [madeCells, show j * 3 < n * 3 by omega]
  | 1, _ => simp [madeCells, h1, h2]
  | 2, _ => simp [madeCells, h1, h2]
theorem qblk_made (w : World) (n : Nat) : QBlk (w.alloc (.cells (madeCells #[.bool false, .slice none 0 0, .slice none 0 0] (n * 3)) 84)) w.heap.size (List.replicate n 0) := by
  refine ⟨_, Blk.new _ _ _, ?_, ?_, fun j hj => ?_⟩
  · rw [Array.all_eq_true]
    intro i hi
    have h3 : i % 3 < 3 := Nat.mod_lt _ (by decide)
    simp only [size_madeCells] at hi
    have := made_at n (i / 3) (i % 3) (by omega) h3
    rw [show i / 3 * 3 + i % 3 = i by omega] at this
    obtain ⟨_, e⟩ := Array.getElem?_eq_some_iff.1 (this.trans (Array.getElem?_eq_getElem (by simpa using h3)))
    rw [e]
    match i % 3, h3 with
    | 0, _ => rfl
    | 1, _ => rfl
    | 2, _ => rfl
  · simp [size_madeCells]
  · have hj' : j < n := by simpa using hj
    refine ⟨⟨false, none, 0, 0, none, 0, 0⟩, made_at n j 0 hj' (by decide), made_at n j 1 hj' (by decide), made_at n j 2 hj' (by decide), ?_⟩
    rw [List.getElem_replicate]
    exact qv_zero0 _
theorem Stays.nat {w w' : World} (h : Stays w w') {v : Value} {n : Nat} (k : NatN w v n) : NatN w' v n := by
  have hq : QV w (.agg #[.bool (decide (((n : Nat) : Rat).num < 0)), v, .slice none 0 0]) ((n : Nat) : Rat) := by
    refine ⟨v, .slice none 0 0, rfl, ?_, ?_⟩
    · simpa using k
    · simpa using NatN.nil w none 0
  obtain ⟨vu, vl, e, h1, _⟩ := h.qv hq
  simp only [Value.agg.injEq, Array.mk.injEq, List.cons.injEq, and_true, true_and] at e
  obtain ⟨rfl, _⟩ := e
  simpa using h1
theorem fr_int (neg : Bool) (u : Nat) (hl : (1 : Nat) ≠ 0) (hc : Nat.Coprime u 1) : fr neg u 1 hl hc = ((sg neg u : Int) : Rat) := by
  have := fr_eq (neg := neg) (u := u) (l := 1) (hl := hl) (hc := hc) (n := sg neg u) (d := 1) (by decide) rfl
  rw [this, Rat.mkRat_one]
def mix (qs : List Rat) (k : Nat) : List Rat := (plain qs).take k ++ List.replicate (qs.length - k) 0
theorem plain_len (qs : List Rat) : (plain qs).length = qs.length := by simp [plain]
theorem mix_len (qs : List Rat) (k : Nat) (h : k ≤ qs.length) : (mix qs k).length = qs.length := by
  unfold mix; rw [List.length_append, List.length_take, List.length_replicate, plain_len]; omega
theorem mix_set {qs : List Rat} {k : Nat} (h : k < qs.length) : (mix qs k).set k (pl (gN qs) (lD qs) (fb qs) (qs[k])) = mix qs (k + 1) := by
  unfold mix
  have hl : ((plain qs).take k).length = k := by rw [List.length_take, plain_len]; omega
  rw [List.set_append, if_neg (by omega), hl, Nat.sub_self]
  rw [show qs.length - k = (qs.length - (k + 1)) + 1 by omega, List.replicate_succ, List.set_cons_zero]
  rw [List.take_succ_eq_append_getElem (by rw [plain_len]; exact h), List.append_assoc]
  congr 1
  simp [plain]
theorem mix_same {qs : List Rat} {k : Nat} (h : k < qs.length) (h0 : (qs[k]).num = 0) : mix qs k = mix qs (k + 1) := by
  rw [← mix_set h, pl_zero _ _ _ h0]
  unfold mix
  have hl : ((plain qs).take k).length = k := by rw [List.length_take, plain_len]; omega
  rw [List.set_append, if_neg (by omega), hl, Nat.sub_self]
  rw [show qs.length - k = (qs.length - (k + 1)) + 1 by omega, List.replicate_succ, List.set_cons_zero]
theorem mix_zero (qs : List Rat) : mix qs 0 = List.replicate qs.length 0 := by simp [mix]
theorem mix_all (qs : List Rat) : mix qs qs.length = plain qs := by
  unfold mix; rw [List.take_of_length_le (by rw [plain_len]; exact Nat.le_refl _)]; simp
def NewAt (w : World) (v : Value) : Prop := ∃ b off n cap, v = .slice (some ⟨b, off, none⟩) n cap ∧ w.heap.size ≤ b
theorem plain_walk {w : World} {b off cap : Nat} {qs : List Rat} (h : QRow w (.slice (some ⟨b, off, none⟩) qs.length cap) qs) {K : Nat} (f : ∀ q ∈ qs, QS K q) (hn : qs.length ≤ 1000000) (hk : qs.length * K + K + 2 ≤ 35184372088640) :
    Calls Tryz.prog 145 #[.slice (some ⟨b, off, none⟩) qs.length cap] w fun e w' => Below w.heap.size w w' ∧ ∃ v, e = .returned v ∧ QRow w' v (plain qs) ∧ NewAt w v := by
  have HR := hideIt h
  have F := hideIt f
  have HK := hideIt hk
  clear h f hk
  have SM : Hid (∀ q ∈ qs, Small q.num.natAbs ∧ Small q.den) := fun q hq => ⟨small_two (F.out q hq).num (by have := HK.out; omega), small_two (F.out q hq).den (by have := HK.out; omega)⟩
  have SG : Hid (∀ k, Small (gN (qs.take k))) := fun k => small_two (gN_lt (qs := qs.take k) fun q hq => F.out q (List.mem_of_mem_take hq)) (by have := HK.out; omega)
  have SL : Hid (∀ k, k ≤ qs.length → Small (lD (qs.take k))) := fun k hk => by
    have h1 := lD_le F.out k
    have h2 : k * K ≤ qs.length * K := Nat.mul_le_mul_right _ hk
    exact small_two (k := k * K + 1) (Nat.lt_of_le_of_lt h1 (Nat.pow_lt_pow_right (by decide) (by omega))) (by have := HK.out; omega)
  go_enter Tryz.func145, Tryz.ntmps145
  go_wp2_with fail
  refine (one_calls _).mono ?_
  rintro e w1 ⟨hb1, v1, rfl, hv1⟩
  have HV1 := hideIt hv1
  have HB1 := hideIt hb1
  clear hv1 hb1
  go_wp2
  go_loopw [3, 4, 14] (fun vu vl i wr => ∃ k : Nat, k ≤ qs.length ∧ i = .int .i64 (k : Int) ∧ NatN wr vu (gN (qs.take k)) ∧ NatN wr vl (lD (qs.take k)) ∧ Below w.heap.size w wr) (fun _ _ i _ => qs.length - (intOf i).toNat)
  case atStart =>
    refine ⟨0, Nat.zero_le _, rfl, ?_, ?_, HB1.out⟩
    · exact NatN.nil _ _ _
    · exact HV1.out
  case round =>
    obtain ⟨k, hkl, rfl, hu, hl, hbel⟩ := hrel
    have HU := hideIt hu
    have HL := hideIt hl
    have hsz' := hideIt hbel.size
    clear hu hl
    by_cases hend : k = qs.length
    · subst hend
      have hmk := make_qs qs.length hn
      rw [List.take_length] at HU HL
      go_wp2_with fail
      have hbn := below_new wr (.cells (madeCells #[.bool false, .slice none 0 0, .slice none 0 0] (qs.length * 3)) 84)
      have hqn := qblk_made wr qs.length
      have hbel1 := hbel.trans (hbn.mono hsz'.out)
      refine (firstBelow_calls (HR.out.below hbel1) hn).mono ?_
      rintro e w2 ⟨hb2, rfl⟩
      have HQB := hideIt (hqn.below hb2)
      have hbw := hbn.trans (hb2.mono hbn.size)
      have HU2 := hideIt (HU.out.below hbw)
      have HL2 := hideIt (HL.out.below hbw)
      have hbel2 := hideIt (hbel.trans (hbw.mono hsz'.out))
      clear hqn hmk
      obtain ⟨g, hg⟩ : ∃ g, g = wr.heap.size := ⟨_, rfl⟩
      rw [← hg] at HQB ⊢
      have HGE : Hid (w.heap.size ≤ g) := by rw [hg]; exact hsz'.out
      clear hg hbn hbel1 hb2 hbw
      have HLP : Hid (lD qs ≠ 0) := Nat.ne_of_gt (lD_pos qs)
      have SLA : Hid (Small (lD qs)) := by have := SL.out qs.length (Nat.le_refl _); rwa [List.take_length] at this
      have SGA : Hid (Small (gN qs)) := by have := SG.out qs.length; rwa [List.take_length] at this
      go_wp2
      go_loopw [39] (fun i wx => ∃ k : Nat, k ≤ qs.length ∧ i = .int .i64 (k : Int) ∧ QBlk wx g (mix qs k) ∧ NatN wx u3 (gN qs) ∧ NatN wx u4 (lD qs) ∧ Below w.heap.size w wx) (fun i _ => qs.length - (intOf i).toNat)
      case atStart => exact ⟨0, Nat.zero_le _, rfl, by rw [mix_zero]; exact HQB.out, HU2.out, HL2.out, hbel2.out⟩
      case round =>
        rename World => wx
        obtain ⟨k, hkl, rfl, hqb, hu, hl, hbel⟩ := hrel
        have HQ := hideIt hqb
        have HU := hideIt hu
        have HL := hideIt hl
        have hszx := hideIt hbel.size
        have hgl := hideIt hqb.lt
        clear hqb hu hl
        by_cases hend : k = qs.length
        · subst hend
          go_wp2
          go_ret
          refine ⟨hbel, _, rfl, ?_, ⟨g, _, _, _, rfl, HGE.out⟩⟩
          have := HQ.out.row qs.length
          rw [mix_len _ _ (Nat.le_refl _), mix_all] at this
          exact this
        · have hlt : k < qs.length := by omega
          have hidx := qrow_idx (b := b) (off := off) (cap := cap) hlt
          have hidx2 := qrow_idx (b := g) (off := 0) (cap := qs.length) hlt
          rw [Nat.zero_add] at hidx2
          obtain ⟨b', off', cap', e, hbl, hcells⟩ := HR.out
          cases e
          obtain ⟨d, d0, d1, d2, hd⟩ := hcells k hlt
          have HD := hideIt (hd.below hbel)
          have z0 := (hbel.cell (p := ⟨b, off + k * 3, none⟩) hbl).trans d0
          have z1 := (hbel.cell (p := ⟨b, off + k * 3 + 1, none⟩) hbl).trans d1
          have z2 := (hbel.cell (p := ⟨b, off + k * 3 + 2, none⟩) hbl).trans d2
          have HDU := hideIt (qv_parts (hd.below hbel)).2.1
          have HDN := hideIt (qv_parts (hd.below hbel)).1
          have S1 := hideIt (SM.out _ (List.getElem_mem hlt))
          have HMS := hideIt (mix_set hlt)
          have HM0 := hideIt (fun h => mix_same hlt h)
          have HDV := hideIt (lD_dvd (List.getElem_mem hlt))
          have HGP := hideIt (fun h => gN_pos (List.getElem_mem hlt) h)
          have HML := hideIt (mix_len qs k hkl)
          clear d0 d1 d2 hd hcells
          generalize qs[k]'hlt = q at *
          go_wp2_with fail
          have hbn := below_new wx (.cells #[.bool d.n, .slice d.u d.nu d.cu, .slice d.l d.nl d.cl] 84)
          have hkn := Blk.new wx #[.bool d.n, .slice d.u d.nu d.cu, .slice d.l d.nl d.cl] 84
          refine (sign_calls (HD.out.below hbn)).mono ?_
          rintro e w3 ⟨hb3, rfl⟩
          have hbw := hbn.trans (hb3.mono hbn.size)
          have HK3 := hideIt (hkn.below hb3 hkn.lt)
          have hlt3 : Hid (wx.heap.size < w3.heap.size) := HK3.out.lt
          have HD3 := hideIt (HD.out.below hbw)
          have HU3 := hideIt (HU.out.below hbw)
          have HL3 := hideIt (HL.out.below hbw)
          have HDU3 := hideIt (HDU.out.below hbw)
          have HQ3 := hideIt (HQ.out.below hbw)
          have hbel3 := hideIt (hbel.trans (hbw.mono hszx.out))
          by_cases h0 : q.num = 0
          · rw [if_pos h0]
            have H0 := hideIt h0
            clear h0
            go_wp2
            go_roundw
            case rel =>
              refine ⟨k + 1, hlt, by go_num, ?_, HU3.out, HL3.out, hbel3.out⟩
              rw [← HM0.out H0.out]
              exact HQ3.out
            case measure => simp [intOf]; omega
          · rw [if_neg h0]
            have hne : ((if q.num < 0 then (-1 : Int) else 1) != 0) = true := by split <;> rfl
            generalize (if q.num < 0 then (-1 : Int) else 1) = z at *
            have H0 := hideIt h0
            have hG0 : Hid (0 < gN qs) := HGP.out h0
            have S5 : Hid (Small (q.num.natAbs / gN qs)) := small_le S1.out.1 (Nat.div_le_self _ _)
            have S6 : Hid (Small (lD qs / q.den)) := small_le SLA.out (Nat.div_le_self _ _)
            have hD0 : Hid (0 < q.den) := Nat.pos_of_ne_zero q.den_nz
            clear h0 z0 z1 z2
            obtain ⟨z0, z1, z2, _, _, _⟩ := HK3.out.all3
            go_wp2_with fail
            go_region_held3 (fun w' => w'.cell? ⟨wx.heap.size, 0, none⟩ = some (.bool d.n) ∧ w'.cell? ⟨wx.heap.size, 1, none⟩ = some (.slice d.u d.nu d.cu) ∧ w'.cell? ⟨wx.heap.size, 2, none⟩ = some (.slice d.l d.nl d.cl)) (first | go_keep | exact hs4 | exact hs5 | exact hs6 | exact hs7 | exact hs8 | exact hs9 | exact hkS)
              (first
                | (go_at_call 118; refine (ready_calls (neg := d.n != fb qs) (hv7.below hb8) hv8 (by decide) (Nat.coprime_one_right _)).mono ?_; rintro e w9 ⟨hb9, v9, rfl, hv9⟩; rw [fr_int] at hv9; have hbl9 := hbl8.trans (hb9.mono hbl8.size); have hs9 := (HK3.out.below hbl9 hlt3.out).cells3; obtain ⟨d9, rfl⟩ := qv_open hv9; have hq9 := HQ3.out.below hbl9; obtain ⟨_, x0, x1, x2, y0, y1, y2⟩ := hq9.facts (k := k) (by rw [HML.out]; exact hlt); have hkS := (((HK3.out.below hbl9 hlt3.out).other (g' := g) (Nat.ne_of_lt hgl.out) (k * 3) (.bool d9.n)).other (g' := g) (Nat.ne_of_lt hgl.out) (k * 3 + 1) (.slice d9.u d9.nu d9.cu)).other (g' := g) (Nat.ne_of_lt hgl.out) (k * 3 + 2) (.slice d9.l d9.nl d9.cl) |>.cells3)
                | (go_at_call 120; refine (one_calls _).mono ?_; rintro e w8 ⟨hb8, v8, rfl, hv8⟩; have hbl8 := hbl7.trans (hb8.mono hbl7.size); have hs8 := (HK3.out.below hbl8 hlt3.out).cells3)
                | (go_at_call 152; refine (multiply_calls ((hv4.below hb5).below hb6) hv6 S5.out S6.out).mono ?_; rintro e w7 ⟨hb7, v7, rfl, hv7⟩; have hbl7 := hbl6.trans (hb7.mono hbl6.size); have hs7 := (HK3.out.below hbl7 hlt3.out).cells3)
                | (have hx := hv5; go_at_call 153; refine (over_calls (HL3.out.below hbl5) hv5 SLA.out S1.out.2 hD0.out).mono ?_; rintro e w6 ⟨hb6, v6, rfl, hv6⟩; have hbl6 := hbl5.trans (hb6.mono hbl5.size); have hs6 := (HK3.out.below hbl6 hlt3.out).cells3)
                | (go_at_call 150; refine (lower_calls (HD3.out.below hbl4)).mono ?_; rintro e w5 ⟨hb5, v5, rfl, hv5⟩; have hbl5 := hbl4.trans (hb5.mono hbl4.size); have hs5 := (HK3.out.below hbl5 hlt3.out).cells3)
                | (go_at_call 153; refine (over_calls (w := w3.drew) (HDU3.out.below (Below.drew (Below.refl _ _))) (HU3.out.below (Below.drew (Below.refl _ _))) S1.out.1 SGA.out hG0.out).mono ?_; rintro e w4 ⟨hb4, v4, rfl, hv4⟩; have hbl4 : Below w3.heap.size w3 w4 := (Below.drew (Below.refl _ w3)).trans hb4; have hs4 := (HK3.out.below hbl4 hlt3.out).cells3)
                )
            all_goals
              go_wp2
              go_roundw
              case rel =>
                obtain ⟨hput, hst⟩ := hq9.put (k := k) (by rw [HML.out]; exact hlt) hv9
                have hge := HGE.out
                refine ⟨k + 1, hlt, by go_num, ?_, hst.nat (HU3.out.below hbl9), hst.nat (HL3.out.below hbl9), Below.set (Below.set (Below.set (hbel3.out.trans (hbl9.mono hbel3.out.size)) hge _ _) hge _ _) hge _ _⟩
                rw [← HMS.out]
                have e : ((sg (d.n != fb qs) (q.num.natAbs / gN qs * (lD qs / q.den)) : Int) : Rat) = pl (gN qs) (lD qs) (fb qs) q := by rw [HDN.out]; rfl
                rw [e] at hput
                exact hput
              case measure => simp [intOf]; omega
    · have hlt : k < qs.length := by omega
      have hidx := qrow_idx (b := b) (off := off) (cap := cap) hlt
      obtain ⟨b', off', cap', e, hbl, hcells⟩ := HR.out
      cases e
      obtain ⟨d, d0, d1, d2, hd⟩ := hcells k hlt
      have HD := hideIt (hd.below hbel)
      have z0 := (hbel.cell (p := ⟨b, off + k * 3, none⟩) hbl).trans d0
      have z1 := (hbel.cell (p := ⟨b, off + k * 3 + 1, none⟩) hbl).trans d1
      have z2 := (hbel.cell (p := ⟨b, off + k * 3 + 2, none⟩) hbl).trans d2
      have hdu := (qv_parts (hd.below hbel)).2.1
      have HDU := hideIt hdu
      have S1 := hideIt (SM.out _ (List.getElem_mem hlt))
      have S2 := hideIt (SG.out k)
      have S3 := hideIt (SL.out k hkl)
      have HG := hideIt (gN_take hlt)
      have HLD := hideIt (lD_take hlt)
      clear d0 d1 d2 hd hcells hdu
      have hgp : Hid (0 < Nat.gcd (lD (qs.take k)) (qs[k]'hlt).den) := Nat.gcd_pos_of_pos_left _ (lD_pos _)
      have S4 : Hid (Small (Nat.gcd (lD (qs.take k)) (qs[k]'hlt).den)) := small_le S1.out.2 (Nat.le_of_dvd (Nat.pos_of_ne_zero (qs[k]'hlt).den_nz) (Nat.gcd_dvd_right _ _))
      have S5 : Hid (Small ((qs[k]'hlt).den / Nat.gcd (lD (qs.take k)) (qs[k]'hlt).den)) := small_le S1.out.2 (Nat.div_le_self _ _)
      generalize qs[k]'hlt = q at *
      generalize lD (qs.take k) = M at *
      generalize gN (qs.take k) = G at *
      go_wp2_with fail
      have hbn := below_new wr (.cells #[.bool d.n, .slice d.u d.nu d.cu, .slice d.l d.nl d.cl] 84)
      have hkn := Blk.new wr #[.bool d.n, .slice d.u d.nu d.cu, .slice d.l d.nl d.cl] 84
      refine (gcd_walk (HU.out.below hbn) (HDU.out.below hbn) S2.out S1.out.1).mono ?_
      rintro e w2 ⟨hb2, vg, rfl, hvg⟩
      have hbw := hbn.trans (hb2.mono hbn.size)
      have HK2 := hideIt (hkn.below hb2 hkn.lt)
      have HD2 := hideIt (HD.out.below hbw)
      have HL2 := hideIt (HL.out.below hbw)
      have HGV := hideIt hvg
      have hlt2 : Hid (wr.heap.size < w2.heap.size) := HK2.out.lt
      clear hvg z0 z1 z2
      obtain ⟨z0, z1, z2, _, _, _⟩ := HK2.out.all3
      go_wp2_with fail
      go_region_held3 (fun w' => w'.cell? ⟨wr.heap.size, 0, none⟩ = some (.bool d.n) ∧ w'.cell? ⟨wr.heap.size, 1, none⟩ = some (.slice d.u d.nu d.cu) ∧ w'.cell? ⟨wr.heap.size, 2, none⟩ = some (.slice d.l d.nl d.cl)) (first | go_keep | exact hs3 | exact hs4 | exact hs5 | exact hs6 | exact hs7)
        (first
          | (go_at_call 152; refine (multiply_calls ((HL2.out.below hbl6)) hv6 S3.out S5.out).mono ?_; rintro e w7 ⟨hb7, v7, rfl, hv7⟩; have hbl7 := hbl6.trans (hb7.mono hbl6.size); have hs7 := (HK2.out.below hbl7 hlt2.out).cells3)
          | (go_at_call 153; refine (over_calls ((hv3.below hb4).below hb5) hv5 S1.out.2 S4.out hgp.out).mono ?_; rintro e w6 ⟨hb6, v6, rfl, hv6⟩; have hbl6 := hbl5.trans (hb6.mono hbl5.size); have hs6 := (HK2.out.below hbl6 hlt2.out).cells3)
          | (go_at_call 151; refine (gcd_walk (HL2.out.below hbl4) hv4 S3.out S1.out.2).mono ?_; rintro e w5 ⟨hb5, v5, rfl, hv5⟩; have hbl5 := hbl4.trans (hb5.mono hbl4.size); have hs5 := (HK2.out.below hbl5 hlt2.out).cells3)
          | (have hx := hv3; go_at_call 150; refine (lower_calls (HD2.out.below hbl3)).mono ?_; rintro e w4 ⟨hb4, v4, rfl, hv4⟩; have hbl4 := hbl3.trans (hb4.mono hbl3.size); have hs4 := (HK2.out.below hbl4 hlt2.out).cells3)
          | (go_at_call 150; refine (lower_calls (w := w2.drew) (HD2.out.below (Below.drew (Below.refl _ _)))).mono ?_; rintro e w3 ⟨hb3, v3, rfl, hv3⟩; have hbl3 : Below w2.heap.size w2 w3 := (Below.drew (Below.refl _ w2)).trans hb3; have hs3 := (HK2.out.below hbl3 hlt2.out).cells3)
          )
      all_goals
        go_wp2
        go_roundw
        case rel =>
          refine ⟨k + 1, hlt, by go_num, ?_, ?_, hbel.trans ((hbw.trans (hbl7.mono hbw.size)).mono hsz'.out)⟩
          · rw [HG.out]; exact HGV.out.below hbl7
          · rw [HLD.out]; exact hv7
        case measure => simp [intOf]; omega
theorem plain_new {w : World} {v : Value} {qs : List Rat} (h : QRow w v qs) {K : Nat} (f : ∀ q ∈ qs, QS K q) (hn : qs.length ≤ 1000000) (hk : qs.length * K + K + 2 ≤ 35184372088640) :
    Calls Tryz.prog 145 #[v] w fun e w' => Below w.heap.size w w' ∧ ∃ v', e = .returned v' ∧ QRow w' v' (plain qs) ∧ NewAt w v' := by
  have h' := h
  obtain ⟨b, off, cap, rfl, _⟩ := h
  exact plain_walk h' f hn hk
end Go.Proofs.YtgajdmadbdbabaaGreatDoor
/- WM -/
namespace Go.Proofs.YtgajdmadbdbabaaGreatDoor
open Go.RowKit Cx
attribute [local go_sem ↓] Go.wp_at_zero Go.wp_at_succ
theorem QS.pl {K : Nat} {qs : List Rat} (h : ∀ q ∈ qs, QS K q) {q : Rat} (hq : q ∈ qs) : QS (K + qs.length * K + 1) (pl (gN qs) (lD qs) (fb qs) q) := by
  unfold Cx.pl
  have h1 := (h q hq).num
  have h2 := lD_le h qs.length
  rw [List.take_length] at h2
  have e : ∀ z : Int, ((z : Int) : Rat) = mkRat z 1 := fun z => (Rat.mkRat_one _).symm
  rw [e]
  apply QS.mkr
  · rw [sg_abs]
    have h3 : q.num.natAbs / gN qs ≤ q.num.natAbs := Nat.div_le_self _ _
    have h4 : lD qs / q.den ≤ lD qs := Nat.div_le_self _ _
    have h5 : q.num.natAbs / gN qs * (lD qs / q.den) ≤ q.num.natAbs * 2 ^ (qs.length * K) := Nat.mul_le_mul h3 (Nat.le_trans h4 h2)
    have h6 : q.num.natAbs * 2 ^ (qs.length * K) < 2 ^ K * 2 ^ (qs.length * K) := Nat.mul_lt_mul_of_pos_right h1 (Nat.pow_pos (by decide))
    rw [Nat.pow_succ, Nat.pow_add]
    omega
  · exact Nat.one_lt_two_pow (by omega)
end Go.Proofs.YtgajdmadbdbabaaGreatDoor
/- XB -/
namespace Go.Proofs.YtgajdmadbdbabaaGreatDoor
open Go.RowKit Cx
attribute [local go_sem ↓] Go.wp_at_zero Go.wp_at_succ
theorem QS.fac2 {K : Nat} {x y q : Rat} (f1 : QS K x) (f2 : QS K y) (h : q ∈ [x, y]) : QS (3 * K + 1) (q * Cx.fac [x, y]) := by
  rw [← pl_mul h]
  exact (QS.pl (all2 f1 f2) h).mono (by simp; omega)
theorem cell_put6 (w : World) {g g' : Nat} (hne : g' ≠ g) (j : Nat) (x0 x1 x2 x3 x4 x5 : Value) : ((((((w.setCell ⟨g', 0, none⟩ (x0)).setCell ⟨g', 1, none⟩ (x1)).setCell ⟨g', 2, none⟩ (x2)).setCell ⟨g', 3, none⟩ (x3)).setCell ⟨g', 4, none⟩ (x4)).setCell ⟨g', 5, none⟩ (x5)).cell? ⟨g, j, none⟩ = w.cell? ⟨g, j, none⟩ := by
  have h : ∀ (w : World) (i : Nat) (x : Value), (w.setCell ⟨g', i, none⟩ x).cell? ⟨g, j, none⟩ = w.cell? ⟨g, j, none⟩ := fun w i x => World.cell?_setCell_other _ _ _ _ (by first | exact fun h => hne (congrArg Addr.block h) | exact fun h => hne (congrArg Addr.block h).symm)
  simp only [h]
theorem anglePlain_walk {w : World} {a b : C3} {x y : Rat} (hx : QV w (.agg #[.bool a.n, .slice a.u a.nu a.cu, .slice a.l a.nl a.cl]) x) (hy : QV w (.agg #[.bool b.n, .slice b.u b.nu b.cu, .slice b.l b.nl b.cl]) y) {K : Nat} (f1 : QS K x) (f2 : QS K y) (hk : 3 * K + 2 ≤ 35184372088640) :
    Calls Tryz.prog 146 #[.agg #[.bool a.n, .slice a.u a.nu a.cu, .slice a.l a.nl a.cl, .bool b.n, .slice b.u b.nu b.cu, .slice b.l b.nl b.cl]] w fun e w' => Below w.heap.size w w' ∧ ∃ v, e = .returned v ∧ WV w' v (pl (gN [x, y]) (lD [x, y]) (fb [x, y]) x) (pl (gN [x, y]) (lD [x, y]) (fb [x, y]) y) := by
  obtain ⟨hb0, hk0, hk1, hsz⟩ := boxes2 w #[.bool a.n, .slice a.u a.nu a.cu, .slice a.l a.nl a.cl, .bool b.n, .slice b.u b.nu b.cu, .slice b.l b.nl b.cl] #[.bool false, .slice none 0 0, .slice none 0 0, .bool false, .slice none 0 0, .slice none 0 0] 86 86
  have HB0 := hideIt hb0
  have HSZ := hideIt hsz
  have HK1 := hideIt hk1
  have HX := hideIt (hx.below hb0)
  have HY := hideIt (hy.below hb0)
  have FA := hideIt (all2 f1 f2)
  have HK := hideIt hk
  clear hb0 hsz hk0 hk1 hx hy f1 f2 hk
  have K2 : Hid (([x, y] : List Rat).length * K + K + 2 ≤ 35184372088640) := by have := HK.out; show 2 * K + K + 2 ≤ _; omega
  have HPL : Hid (plain [x, y] = [(pl (gN [x, y]) (lD [x, y]) (fb [x, y]) x), (pl (gN [x, y]) (lD [x, y]) (fb [x, y]) y)]) := rfl
  go_enter Tryz.func146, Tryz.ntmps146
  go_wp2_with fail
  generalize ((w.alloc (.cells #[.bool a.n, .slice a.u a.nu a.cu, .slice a.l a.nl a.cl, .bool b.n, .slice b.u b.nu b.cu, .slice b.l b.nl b.cl] 86)).alloc (.cells #[.bool false, .slice none 0 0, .slice none 0 0, .bool false, .slice none 0 0, .slice none 0 0] 86)) = W0 at *
  have hbA := below_new W0 (.cells #[.bool a.n, .slice a.u a.nu a.cu, .slice a.l a.nl a.cl, .bool b.n, .slice b.u b.nu b.cu, .slice b.l b.nl b.cl] 84)
  have hq3 := qrow2 HX.out HY.out
  rw [HSZ.out] at hq3
  refine (plain_new hq3 FA.out (by simp) K2.out).mono ?_
  rintro e w1 ⟨hb1, v1, rfl, hv1, hnew⟩
  rw [HPL.out] at hv1
  have hbl1 := hideIt (hbA.trans (hb1.mono hbA.size))
  have HK1' := hideIt (HK1.out.below hbl1.out (by rw [HSZ.out]; omega))
  obtain ⟨r0, r1, r2, r3, r4, r5, j0, j1, j2, j3, j4, j5⟩ := HK1'.out.all6
  obtain ⟨p, hp⟩ : ∃ p, p = (pl (gN [x, y]) (lD [x, y]) (fb [x, y]) x) := ⟨_, rfl⟩
  obtain ⟨q, hq⟩ : ∃ q, q = (pl (gN [x, y]) (lD [x, y]) (fb [x, y]) y) := ⟨_, rfl⟩
  rw [← hp, ← hq] at hv1
  have Hp := hideIt hp
  have Hq := hideIt hq
  clear hp hq
  obtain ⟨g, off, cap, rfl, hgl, hcells⟩ := hv1
  have hne : Hid (w.heap.size + 1 ≠ g) := by
    obtain ⟨_, _, _, _, e, hge⟩ := hnew
    cases e
    have h1 := hbA.size
    have h2 := HSZ.out
    show _ ≠ _
    omega
  clear hnew
  obtain ⟨d, d0, d1, d2, hd⟩ := hcells 0 (by simp)
  obtain ⟨e, e0, e1, e2, he⟩ := hcells 1 (by simp)
  have i0 : ∀ wx, (Instr.indexAt 163 (.slice (some ⟨g, off, none⟩) 2 cap) (.int .i64 0)).run Tryz.prog wx = .ok (.pointer (some ⟨g, off, none⟩)) wx := fun wx => qrow_idx (k := 0) (by decide) wx
  have i1 : ∀ wx, (Instr.indexAt 163 (.slice (some ⟨g, off, none⟩) 2 cap) (.int .i64 1)).run Tryz.prog wx = .ok (.pointer (some ⟨g, off + 3, none⟩)) wx := fun wx => qrow_idx (k := 1) (by decide) wx
  have HD : Hid (QV w1 (.agg #[.bool d.n, .slice d.u d.nu d.cu, .slice d.l d.nl d.cl]) p) := hd
  have HE : Hid (QV w1 (.agg #[.bool e.n, .slice e.u e.nu e.cu, .slice e.l e.nl e.cl]) q) := he
  have HS0 : Hid (w1.cell? ⟨g, off, none⟩ = some (.bool d.n) ∧ w1.cell? ⟨g, off + 1, none⟩ = some (.slice d.u d.nu d.cu) ∧ w1.cell? ⟨g, off + 2, none⟩ = some (.slice d.l d.nl d.cl) ∧ w1.cell? ⟨g, off + 3, none⟩ = some (.bool e.n) ∧ w1.cell? ⟨g, off + 4, none⟩ = some (.slice e.u e.nu e.cu) ∧ w1.cell? ⟨g, off + 5, none⟩ = some (.slice e.l e.nl e.cl)) := ⟨d0, d1, d2, e0, e1, e2⟩
  clear d0 d1 d2 e0 e1 e2 hd he hcells hb1 hbA hq3
  obtain ⟨z0, z1, z2, z3, z4, z5⟩ := HS0.out
  have HSS : Hid (∀ w', Below w1.heap.size w1 w' → ∀ x0 x1 x2 x3 x4 x5 : Value, ((((((w'.setCell ⟨w.heap.size + 1, 0, none⟩ (x0)).setCell ⟨w.heap.size + 1, 1, none⟩ (x1)).setCell ⟨w.heap.size + 1, 2, none⟩ (x2)).setCell ⟨w.heap.size + 1, 3, none⟩ (x3)).setCell ⟨w.heap.size + 1, 4, none⟩ (x4)).setCell ⟨w.heap.size + 1, 5, none⟩ (x5)).cell? ⟨g, off, none⟩ = some (.bool d.n) ∧ ((((((w'.setCell ⟨w.heap.size + 1, 0, none⟩ (x0)).setCell ⟨w.heap.size + 1, 1, none⟩ (x1)).setCell ⟨w.heap.size + 1, 2, none⟩ (x2)).setCell ⟨w.heap.size + 1, 3, none⟩ (x3)).setCell ⟨w.heap.size + 1, 4, none⟩ (x4)).setCell ⟨w.heap.size + 1, 5, none⟩ (x5)).cell? ⟨g, off + 1, none⟩ = some (.slice d.u d.nu d.cu) ∧ ((((((w'.setCell ⟨w.heap.size + 1, 0, none⟩ (x0)).setCell ⟨w.heap.size + 1, 1, none⟩ (x1)).setCell ⟨w.heap.size + 1, 2, none⟩ (x2)).setCell ⟨w.heap.size + 1, 3, none⟩ (x3)).setCell ⟨w.heap.size + 1, 4, none⟩ (x4)).setCell ⟨w.heap.size + 1, 5, none⟩ (x5)).cell? ⟨g, off + 2, none⟩ = some (.slice d.l d.nl d.cl) ∧ ((((((w'.setCell ⟨w.heap.size + 1, 0, none⟩ (x0)).setCell ⟨w.heap.size + 1, 1, none⟩ (x1)).setCell ⟨w.heap.size + 1, 2, none⟩ (x2)).setCell ⟨w.heap.size + 1, 3, none⟩ (x3)).setCell ⟨w.heap.size + 1, 4, none⟩ (x4)).setCell ⟨w.heap.size + 1, 5, none⟩ (x5)).cell? ⟨g, off + 3, none⟩ = some (.bool e.n) ∧ ((((((w'.setCell ⟨w.heap.size + 1, 0, none⟩ (x0)).setCell ⟨w.heap.size + 1, 1, none⟩ (x1)).setCell ⟨w.heap.size + 1, 2, none⟩ (x2)).setCell ⟨w.heap.size + 1, 3, none⟩ (x3)).setCell ⟨w.heap.size + 1, 4, none⟩ (x4)).setCell ⟨w.heap.size + 1, 5, none⟩ (x5)).cell? ⟨g, off + 4, none⟩ = some (.slice e.u e.nu e.cu) ∧ ((((((w'.setCell ⟨w.heap.size + 1, 0, none⟩ (x0)).setCell ⟨w.heap.size + 1, 1, none⟩ (x1)).setCell ⟨w.heap.size + 1, 2, none⟩ (x2)).setCell ⟨w.heap.size + 1, 3, none⟩ (x3)).setCell ⟨w.heap.size + 1, 4, none⟩ (x4)).setCell ⟨w.heap.size + 1, 5, none⟩ (x5)).cell? ⟨g, off + 5, none⟩ = some (.slice e.l e.nl e.cl)) := by
    intro w' hb x0 x1 x2 x3 x4 x5
    have h := HS0.out
    simp only [cell_put6 w' hne.out, hb.cell (p := ⟨g, _, none⟩) hgl]
    exact h
  have hkS := HSS.out w1 (Below.refl _ _) (.bool d.n) (.slice d.u d.nu d.cu) (.slice d.l d.nl d.cl) (.bool e.n) (.slice e.u e.nu e.cu) (.slice e.l e.nl e.cl)
  have hkD := HSS.out w1.drew (Below.drew (Below.refl _ _)) (.bool d.n) (.slice d.u d.nu d.cu) (.slice d.l d.nl d.cl) (.bool e.n) (.slice e.u e.nu e.cu) (.slice e.l e.nl e.cl)
  go_wp2_with fail
  go_region_held3 (fun w' => w'.cell? ⟨g, off, none⟩ = some (.bool d.n) ∧ w'.cell? ⟨g, off + 1, none⟩ = some (.slice d.u d.nu d.cu) ∧ w'.cell? ⟨g, off + 2, none⟩ = some (.slice d.l d.nl d.cl) ∧ w'.cell? ⟨g, off + 3, none⟩ = some (.bool e.n) ∧ w'.cell? ⟨g, off + 4, none⟩ = some (.slice e.u e.nu e.cu) ∧ w'.cell? ⟨g, off + 5, none⟩ = some (.slice e.l e.nl e.cl)) (first | go_keep | exact hkS | exact hkD) (fail)
  all_goals
   go_wp2
   obtain ⟨k0, k1, k2, k3, k4, k5, _⟩ := (HK1'.out.put6 (.bool d.n) (.slice d.u d.nu d.cu) (.slice d.l d.nl d.cl) (.bool e.n) (.slice e.u e.nu e.cu) (.slice e.l e.nl e.cl)).all6
   refine bodyPost_ret (v := .agg #[.bool d.n, .slice d.u d.nu d.cu, .slice d.l d.nl d.cl, .bool e.n, .slice e.u e.nu e.cu, .slice e.l e.nl e.cl]) (by simp [results, Tryz.results146, go_sem, k0, k1, k2, k3, k4, k5]) rfl ⟨Below.drew (Below.put6 (HB0.out.trans (hbl1.out.mono HB0.out.size)) (by omega) (.bool d.n) (.slice d.u d.nu d.cu) (.slice d.l d.nl d.cl) (.bool e.n) (.slice e.u e.nu e.cu) (.slice e.l e.nl e.cl)), _, rfl, ?_⟩
   have hst := Stays.put6 HK1'.out (by simp [notLimb]) (.bool d.n) (.slice d.u d.nu d.cu) (.slice d.l d.nl d.cl) (.bool e.n) (.slice e.u e.nu e.cu) (.slice e.l e.nl e.cl) rfl rfl rfl rfl rfl rfl
   exact ⟨d, e, rfl, by rw [← Hp.out]; exact (hst.qv HD.out).below (Below.drew (Below.refl _ _)), by rw [← Hq.out]; exact (hst.qv HE.out).below (Below.drew (Below.refl _ _))⟩
theorem anglePlain_calls {w : World} {v : Value} {x y : Rat} (h : WV w v x y) {K : Nat} (f1 : QS K x) (f2 : QS K y) (hk : 3 * K + 2 ≤ 35184372088640) :
    Calls Tryz.prog 146 #[v] w fun e w' => Below w.heap.size w w' ∧ ∃ v, e = .returned v ∧ WV w' v (x * fac [x, y]) (y * fac [x, y]) := by
  obtain ⟨a, b, rfl, h1, h2⟩ := h
  have := anglePlain_walk h1 h2 f1 f2 hk
  rwa [pl_mul (qs := [x, y]) (by simp), pl_mul (qs := [x, y]) (by simp)] at this
theorem angleText_walk {w : World} {a b : C3} {x y : Rat} (hx : QV w (.agg #[.bool a.n, .slice a.u a.nu a.cu, .slice a.l a.nl a.cl]) x) (hy : QV w (.agg #[.bool b.n, .slice b.u b.nu b.cu, .slice b.l b.nl b.cl]) y) {K : Nat} (f1 : QS K x) (f2 : QS K y) (hk : 3 * K + 2 ≤ 35184372088640) (tab : Tab w) :
    Calls Tryz.prog 99 #[.agg #[.bool a.n, .slice a.u a.nu a.cu, .slice a.l a.nl a.cl, .bool b.n, .slice b.u b.nu b.cu, .slice b.l b.nl b.cl]] w fun e w' => Below w.heap.size w w' ∧ ∃ v, e = .returned v ∧ PV v (tx (y * fac [x, y])) (tx (x * fac [x, y])) := by
  obtain ⟨hb0, hk0, hk1, hsz⟩ := boxes2 w #[.bool a.n, .slice a.u a.nu a.cu, .slice a.l a.nl a.cl, .bool b.n, .slice b.u b.nu b.cu, .slice b.l b.nl b.cl] #[.string ⟨#[]⟩, .string ⟨#[]⟩] 86 67
  have HB0 := hideIt hb0
  have HSZ := hideIt hsz
  have HK0 := hideIt hk0
  have HK1 := hideIt hk1
  have HX := hideIt (hx.below hb0)
  have HY := hideIt (hy.below hb0)
  have HTAB := hideIt tab
  have F1 := hideIt f1
  have F2 := hideIt f2
  have HK := hideIt hk
  have P1 : Hid (QS (3 * K + 1) (x * fac [x, y])) := QS.fac2 f1 f2 (by simp)
  have P2 : Hid (QS (3 * K + 1) (y * fac [x, y])) := QS.fac2 f1 f2 (by simp)
  have K1 : Hid (3 * K + 1 ≤ 35184372088640) := by show _ ≤ _; omega
  clear hb0 hsz hk0 hk1 hx hy tab f1 f2 hk
  go_enter Tryz.func99, Tryz.ntmps99
  go_wp2_with fail
  generalize ((w.alloc (.cells #[.bool a.n, .slice a.u a.nu a.cu, .slice a.l a.nl a.cl, .bool b.n, .slice b.u b.nu b.cu, .slice b.l b.nl b.cl] 86)).alloc (.cells #[.string ⟨#[]⟩, .string ⟨#[]⟩] 67)) = W0 at *
  refine (anglePlain_calls ⟨a, b, rfl, HX.out, HY.out⟩ F1.out F2.out HK.out).mono ?_
  rintro e w1 ⟨hb1, v1, rfl, p, q, rfl, hp, hq⟩
  have hA := HK0.out.below hb1 (by rw [HSZ.out]; omega)
  have hR := HK1.out.below hb1 (by rw [HSZ.out]; omega)
  obtain ⟨r0, r1, r2, r3, r4, r5, j0, j1, j2, j3, j4, j5⟩ := hA.all6
  have HA := hideIt (hA.put6 (.bool p.n) (.slice p.u p.nu p.cu) (.slice p.l p.nl p.cl) (.bool q.n) (.slice q.u q.nu q.cu) (.slice q.l q.nl q.cl))
  have HR := hideIt (hR.off6 (g := w.heap.size) (by omega) (.bool p.n) (.slice p.u p.nu p.cu) (.slice p.l p.nl p.cl) (.bool q.n) (.slice q.u q.nu q.cu) (.slice q.l q.nl q.cl))
  have HST := hideIt (Stays.put6 hA (by simp [notLimb]) (.bool p.n) (.slice p.u p.nu p.cu) (.slice p.l p.nl p.cl) (.bool q.n) (.slice q.u q.nu q.cu) (.slice q.l q.nl q.cl) rfl rfl rfl rfl rfl rfl)
  have HBW := hideIt (Below.put6 (HB0.out.trans (hb1.mono HB0.out.size)) (Nat.le_refl _) (.bool p.n) (.slice p.u p.nu p.cu) (.slice p.l p.nl p.cl) (.bool q.n) (.slice q.u q.nu q.cu) (.slice q.l q.nl q.cl))
  have HP := hideIt (HST.out.qv hp)
  have HQ := hideIt (HST.out.qv hq)
  clear hA hR hp hq HST hb1
  go_wp2_with fail
  generalize ((((((w1.setCell ⟨w.heap.size, 0, none⟩ (.bool p.n)).setCell ⟨w.heap.size, 1, none⟩ (.slice p.u p.nu p.cu)).setCell ⟨w.heap.size, 2, none⟩ (.slice p.l p.nl p.cl)).setCell ⟨w.heap.size, 3, none⟩ (.bool q.n)).setCell ⟨w.heap.size, 4, none⟩ (.slice q.u q.nu q.cu)).setCell ⟨w.heap.size, 5, none⟩ (.slice q.l q.nl q.cl)) = w2 at *
  have HTB := hideIt (HTAB.out.below HBW.out)
  have HS : Hid (∀ w', Below w2.heap.size w2 w' → w'.cell? ⟨w.heap.size, 0, none⟩ = some (.bool p.n) ∧ w'.cell? ⟨w.heap.size, 1, none⟩ = some (.slice p.u p.nu p.cu) ∧ w'.cell? ⟨w.heap.size, 2, none⟩ = some (.slice p.l p.nl p.cl) ∧ w'.cell? ⟨w.heap.size, 3, none⟩ = some (.bool q.n) ∧ w'.cell? ⟨w.heap.size, 4, none⟩ = some (.slice q.u q.nu q.cu) ∧ w'.cell? ⟨w.heap.size, 5, none⟩ = some (.slice q.l q.nl q.cl)) := fun w' hb => ⟨(HA.out.below hb HA.out.lt).cell 0, (HA.out.below hb HA.out.lt).cell 1, (HA.out.below hb HA.out.lt).cell 2, (HA.out.below hb HA.out.lt).cell 3, (HA.out.below hb HA.out.lt).cell 4, (HA.out.below hb HA.out.lt).cell 5⟩
  have HSS : Hid (∀ w', Below w2.heap.size w2 w' → ∀ x0 x1 : Value, ((w'.setCell ⟨w.heap.size + 1, 0, none⟩ x0).setCell ⟨w.heap.size + 1, 1, none⟩ x1).cell? ⟨w.heap.size, 0, none⟩ = some (.bool p.n) ∧ ((w'.setCell ⟨w.heap.size + 1, 0, none⟩ x0).setCell ⟨w.heap.size + 1, 1, none⟩ x1).cell? ⟨w.heap.size, 1, none⟩ = some (.slice p.u p.nu p.cu) ∧ ((w'.setCell ⟨w.heap.size + 1, 0, none⟩ x0).setCell ⟨w.heap.size + 1, 1, none⟩ x1).cell? ⟨w.heap.size, 2, none⟩ = some (.slice p.l p.nl p.cl) ∧ ((w'.setCell ⟨w.heap.size + 1, 0, none⟩ x0).setCell ⟨w.heap.size + 1, 1, none⟩ x1).cell? ⟨w.heap.size, 3, none⟩ = some (.bool q.n) ∧ ((w'.setCell ⟨w.heap.size + 1, 0, none⟩ x0).setCell ⟨w.heap.size + 1, 1, none⟩ x1).cell? ⟨w.heap.size, 4, none⟩ = some (.slice q.u q.nu q.cu) ∧ ((w'.setCell ⟨w.heap.size + 1, 0, none⟩ x0).setCell ⟨w.heap.size + 1, 1, none⟩ x1).cell? ⟨w.heap.size, 5, none⟩ = some (.slice q.l q.nl q.cl)) := fun w' hb x0 x1 => by
    have h := (HA.out.below hb HA.out.lt).off2 (g := w.heap.size + 1) (by omega) x0 x1
    exact ⟨h.cell 0, h.cell 1, h.cell 2, h.cell 3, h.cell 4, h.cell 5⟩
  clear r0 r1 r2 r3 r4 r5 j0 j1 j2 j3 j4 j5
  obtain ⟨z0, z1, z2, z3, z4, z5⟩ := HS.out w2 (Below.refl _ _)
  go_region_held3 (fun w' => w'.cell? ⟨w.heap.size, 0, none⟩ = some (.bool p.n) ∧ w'.cell? ⟨w.heap.size, 1, none⟩ = some (.slice p.u p.nu p.cu) ∧ w'.cell? ⟨w.heap.size, 2, none⟩ = some (.slice p.l p.nl p.cl) ∧ w'.cell? ⟨w.heap.size, 3, none⟩ = some (.bool q.n) ∧ w'.cell? ⟨w.heap.size, 4, none⟩ = some (.slice q.u q.nu q.cu) ∧ w'.cell? ⟨w.heap.size, 5, none⟩ = some (.slice q.l q.nl q.cl)) (first | go_keep | exact hs3 | exact hs4 | exact hkS)
    (first
      | (go_at_call_of 78 (Value.agg #[Value.bool q.n, Value.slice q.u q.nu q.cu, Value.slice q.l q.nl q.cl]); refine (text_calls (w := w2.drew) (HQ.out.below (Below.drew (Below.refl _ _))) P2.out K1.out (HTB.out.below (Below.drew (Below.refl _ _)))).mono ?_; rintro e w3 ⟨hb3, s3, rfl, ht3⟩; have hbl3 : Below w2.heap.size w2 w3 := (Below.drew (Below.refl _ w2)).trans hb3; have hs3 := HS.out w3 hbl3)
      | (go_at_call_of 78 (Value.agg #[Value.bool p.n, Value.slice p.u p.nu p.cu, Value.slice p.l p.nl p.cl]); refine (text_calls (HP.out.below hbl3) P1.out K1.out (HTB.out.below hbl3)).mono ?_; rintro e w4 ⟨hb4, s4, rfl, ht4⟩; have hbl4 := hbl3.trans (hb4.mono hbl3.size); have hs4 := HS.out w4 hbl4; have hkr := HR.out.below hbl4 HR.out.lt; obtain ⟨r0, r1, j0, j1⟩ := hkr.all2; have hkS := HSS.out w4 hbl4 (.string s3) (.string s4))
      )
  all_goals
    go_wp2
    obtain ⟨k0, k1, _⟩ := (hkr.put2 (.string s3) (.string s4)).all2
    exact bodyPost_ret (v := .agg #[.string s3, .string s4]) (by simp [results, Tryz.results99, go_sem, k0, k1]) rfl ⟨Below.put2 (HBW.out.trans (hbl4.mono HBW.out.size)) (by omega) _ _, _, rfl, s3, s4, rfl, ht3, ht4⟩
theorem angleText_calls {w : World} {v : Value} {x y : Rat} (h : WV w v x y) {K : Nat} (f1 : QS K x) (f2 : QS K y) (hk : 3 * K + 2 ≤ 35184372088640) (tab : Tab w) :
    Calls Tryz.prog 99 #[v] w fun e w' => Below w.heap.size w w' ∧ ∃ v, e = .returned v ∧ PV v (tx (y * fac [x, y])) (tx (x * fac [x, y])) := by
  obtain ⟨a, b, rfl, h1, h2⟩ := h
  exact angleText_walk h1 h2 f1 f2 hk tab
end Go.Proofs.YtgajdmadbdbabaaGreatDoor
/- WN -/
namespace Go.Proofs.YtgajdmadbdbabaaGreatDoor
open Go.RowKit Cx
attribute [local go_sem ↓] Go.wp_at_zero Go.wp_at_succ
theorem rulerRead_walk {w : World} {a b c : ByteArray} (s1 : a.data.toList.length ≤ 4294967296) (s2 : b.data.toList.length ≤ 4294967296) (s3 : c.size ≤ 4294967296) :
    Calls Tryz.prog 71 #[.agg #[.string a, .string b, .string c]] w fun e w' => Below w.heap.size w w' ∧ ((rd a.data.toList = 0 ∧ rd b.data.toList = 0 ∧ e = .returned (.tuple #[.agg #[.bool false, .slice none 0 0, .slice none 0 0, .bool false, .slice none 0 0, .slice none 0 0, .bool false, .slice none 0 0, .slice none 0 0], .int .i64 5])) ∨ (¬ (rd a.data.toList = 0 ∧ rd b.data.toList = 0) ∧ ∃ v, e = .returned (.tuple #[v, .int .i64 0]) ∧ LV w' v (rd a.data.toList) (rd b.data.toList) (rd c.data.toList))) := by
  obtain ⟨hb0, hk0, hk1, hsz⟩ := boxes2 w #[.string a, .string b, .string c] #[.bool false, .slice none 0 0, .slice none 0 0, .bool false, .slice none 0 0, .slice none 0 0, .bool false, .slice none 0 0, .slice none 0 0] 26 97
  have HB0 := hideIt hb0
  have HSZ := hideIt hsz
  have HK0 := hideIt hk0
  have HK1 := hideIt hk1
  have L1 := hideIt s1
  have L2 := hideIt s2
  have L3 := hideIt s3
  clear hb0 hsz hk0 hk1 s1 s2 s3
  go_enter Tryz.func71, Tryz.ntmps71
  go_wp2_with fail
  generalize ((w.alloc (.cells #[.string a, .string b, .string c] 26)).alloc (.cells #[.bool false, .slice none 0 0, .slice none 0 0, .bool false, .slice none 0 0, .slice none 0 0, .bool false, .slice none 0 0, .slice none 0 0] 97)) = W0 at *
  have HS : Hid (∀ w', Below W0.heap.size W0 w' → w'.cell? ⟨w.heap.size, 0, none⟩ = some (.string a) ∧ w'.cell? ⟨w.heap.size, 1, none⟩ = some (.string b) ∧ w'.cell? ⟨w.heap.size, 2, none⟩ = some (.string c)) := fun w' hb => ⟨(HK0.out.below hb (by rw [HSZ.out]; omega)).cell 0, (HK0.out.below hb (by rw [HSZ.out]; omega)).cell 1, (HK0.out.below hb (by rw [HSZ.out]; omega)).cell 2⟩
  have HSS : Hid (∀ w', Below W0.heap.size W0 w' → ∀ G, W0.heap.size ≤ G → ∀ x0 x1 x2 x3 x4 x5 x6 x7 x8 : Value, (((((((((w'.setCell ⟨G, 0, none⟩ (x0)).setCell ⟨G, 1, none⟩ (x1)).setCell ⟨G, 2, none⟩ (x2)).setCell ⟨G, 3, none⟩ (x3)).setCell ⟨G, 4, none⟩ (x4)).setCell ⟨G, 5, none⟩ (x5)).setCell ⟨G, 6, none⟩ (x6)).setCell ⟨G, 7, none⟩ (x7)).setCell ⟨G, 8, none⟩ (x8)).cell? ⟨w.heap.size, 0, none⟩ = some (.string a) ∧ (((((((((w'.setCell ⟨G, 0, none⟩ (x0)).setCell ⟨G, 1, none⟩ (x1)).setCell ⟨G, 2, none⟩ (x2)).setCell ⟨G, 3, none⟩ (x3)).setCell ⟨G, 4, none⟩ (x4)).setCell ⟨G, 5, none⟩ (x5)).setCell ⟨G, 6, none⟩ (x6)).setCell ⟨G, 7, none⟩ (x7)).setCell ⟨G, 8, none⟩ (x8)).cell? ⟨w.heap.size, 1, none⟩ = some (.string b) ∧ (((((((((w'.setCell ⟨G, 0, none⟩ (x0)).setCell ⟨G, 1, none⟩ (x1)).setCell ⟨G, 2, none⟩ (x2)).setCell ⟨G, 3, none⟩ (x3)).setCell ⟨G, 4, none⟩ (x4)).setCell ⟨G, 5, none⟩ (x5)).setCell ⟨G, 6, none⟩ (x6)).setCell ⟨G, 7, none⟩ (x7)).setCell ⟨G, 8, none⟩ (x8)).cell? ⟨w.heap.size, 2, none⟩ = some (.string c)) := fun w' hb G hG x0 x1 x2 x3 x4 x5 x6 x7 x8 => by
    have h := (HK0.out.below hb (by rw [HSZ.out]; omega)).off9 (g := G) (by have := HSZ.out; omega) x0 x1 x2 x3 x4 x5 x6 x7 x8
    exact ⟨h.cell 0, h.cell 1, h.cell 2⟩
  obtain ⟨z0, z1, z2⟩ := HS.out W0 (Below.refl _ _)
  go_cut [4] from 5 (fun p wc => ∃ G, p = .pointer (some ⟨G, 0, none⟩) ∧ W0.heap.size ≤ G ∧ Below W0.heap.size W0 wc ∧ ∃ d e f : C3, Blk wc G #[.bool d.n, .slice d.u d.nu d.cu, .slice d.l d.nl d.cl, .bool e.n, .slice e.u e.nu e.cu, .slice e.l e.nl e.cl, .bool f.n, .slice f.u f.nu f.cu, .slice f.l f.nl f.cl] 97 ∧ QV wc (.agg #[.bool d.n, .slice d.u d.nu d.cu, .slice d.l d.nl d.cl]) (rd a.data.toList) ∧ QV wc (.agg #[.bool e.n, .slice e.u e.nu e.cu, .slice e.l e.nl e.cl]) (rd b.data.toList) ∧ QV wc (.agg #[.bool f.n, .slice f.u f.nu f.cu, .slice f.l f.nl f.cl]) (rd c.data.toList))
  case first =>
    go_region_held3 (fun w' => w'.cell? ⟨w.heap.size, 0, none⟩ = some (.string a) ∧ w'.cell? ⟨w.heap.size, 1, none⟩ = some (.string b) ∧ w'.cell? ⟨w.heap.size, 2, none⟩ = some (.string c)) (first | (dsimp only; first | with_reducible exact hs1 | with_reducible exact hs2 | with_reducible exact HS.out _ (below_new W0 _) | with_reducible exact HS.out _ (hbl1.alloc hbl1.size _) | with_reducible exact HS.out _ (hbl2.alloc hbl2.size _) | with_reducible exact HSS.out _ hbl2 _ (Nat.le_refl _) _ _ _ _ _ _ _ _ _ | with_reducible exact HSS.out _ hbl2 _ hbl1.size _ _ _ _ _ _ _ _ _ | with_reducible exact HS.out _ (Below.drew (Below.refl _ _))) | (first | with_reducible exact hs1 | with_reducible exact hs2 | with_reducible exact HS.out _ (below_new W0 _) | with_reducible exact HS.out _ (hbl1.alloc hbl1.size _) | with_reducible exact HS.out _ (hbl2.alloc hbl2.size _) | with_reducible exact HSS.out _ hbl2 _ (Nat.le_refl _) _ _ _ _ _ _ _ _ _ | with_reducible exact HSS.out _ hbl2 _ hbl1.size _ _ _ _ _ _ _ _ _) | go_keep)
      (first
        | (go_at_call 62; refine (wayRead_calls ⟨a, b, rfl, rfl, rfl⟩ L1.out L2.out).mono ?_; rintro e w1 ⟨hb1, v1, rfl, hv1⟩; obtain ⟨d1, e1, rfl, hx1, hy1⟩ := hv1; (first | (have hbl1 : Below W0.heap.size W0 w1 := (Below.drew (Below.refl _ W0)).trans hb1) | (have hbl1 : Below W0.heap.size W0 w1 := (Below.drew (below_new W0 (.cells #[.bool false, .slice none 0 0, .slice none 0 0, .bool false, .slice none 0 0, .slice none 0 0, .bool false, .slice none 0 0, .slice none 0 0] 97))).trans (hb1.mono (Nat.le_of_lt (Blk.new W0 #[.bool false, .slice none 0 0, .slice none 0 0, .bool false, .slice none 0 0, .slice none 0 0, .bool false, .slice none 0 0, .slice none 0 0] 97).lt)); have hg1 := (show Blk (W0.alloc (.cells #[.bool false, .slice none 0 0, .slice none 0 0, .bool false, .slice none 0 0, .slice none 0 0, .bool false, .slice none 0 0, .slice none 0 0] 97)).drew W0.heap.size #[.bool false, .slice none 0 0, .slice none 0 0, .bool false, .slice none 0 0, .slice none 0 0, .bool false, .slice none 0 0, .slice none 0 0] 97 from Blk.new W0 #[.bool false, .slice none 0 0, .slice none 0 0, .bool false, .slice none 0 0, .slice none 0 0, .bool false, .slice none 0 0, .slice none 0 0] 97).below hb1 (Blk.new W0 #[.bool false, .slice none 0 0, .slice none 0 0, .bool false, .slice none 0 0, .slice none 0 0, .bool false, .slice none 0 0, .slice none 0 0] 97).lt)); have hs1 := HS.out w1 hbl1)
        | (go_at_call 69; refine (read_calls c _ L3.out).mono ?_; rintro e w2 ⟨hb2, v2, rfl, hv2⟩; obtain ⟨d2, rfl⟩ := qv_open hv2; (first | (have hc2 : Below w1.heap.size w1 w2 := hb2; try have hg2 := hg1.below hb2 hg1.lt) | (have hc2 : Below w1.heap.size w1 w2 := (below_new w1 (.cells #[.bool false, .slice none 0 0, .slice none 0 0, .bool false, .slice none 0 0, .slice none 0 0, .bool false, .slice none 0 0, .slice none 0 0] 97)).trans (hb2.mono (Nat.le_of_lt (Blk.new w1 #[.bool false, .slice none 0 0, .slice none 0 0, .bool false, .slice none 0 0, .slice none 0 0, .bool false, .slice none 0 0, .slice none 0 0] 97).lt)); have hg2 := (Blk.new w1 #[.bool false, .slice none 0 0, .slice none 0 0, .bool false, .slice none 0 0, .slice none 0 0, .bool false, .slice none 0 0, .slice none 0 0] 97).below hb2 (Blk.new w1 #[.bool false, .slice none 0 0, .slice none 0 0, .bool false, .slice none 0 0, .slice none 0 0, .bool false, .slice none 0 0, .slice none 0 0] 97).lt)); have hbl2 := hbl1.trans (hc2.mono hbl1.size); have hs2 := HS.out w2 hbl2; try obtain ⟨r0, r1, r2, r3, r4, r5, r6, r7, r8, f0, f1, f2, f3, f4, f5, f6, f7, f8⟩ := hg2.all9)
        )
    all_goals
      go_wp2_with fail
      go_meet
      (first | have hst := Stays.put9 hg2 (by simp [notLimb]) (.bool d1.n) (.slice d1.u d1.nu d1.cu) (.slice d1.l d1.nl d1.cl) (.bool e1.n) (.slice e1.u e1.nu e1.cu) (.slice e1.l e1.nl e1.cl) (.bool d2.n) (.slice d2.u d2.nu d2.cu) (.slice d2.l d2.nl d2.cl) rfl rfl rfl rfl rfl rfl rfl rfl rfl | skip)
      refine ⟨_, rfl, ?_, ?_, d1, e1, d2, ?_, ?_, ?_, ?_⟩
      · first | with_reducible exact Nat.le_refl _ | with_reducible exact hbl1.size | with_reducible exact hbl2.size
      · first | with_reducible exact Below.put9 hbl2 (Nat.le_refl _) _ _ _ _ _ _ _ _ _ | with_reducible exact Below.put9 hbl2 hbl1.size _ _ _ _ _ _ _ _ _ | with_reducible exact hbl2.alloc hbl2.size _
      · first | with_reducible exact hg2.put9 (.bool d1.n) (.slice d1.u d1.nu d1.cu) (.slice d1.l d1.nl d1.cl) (.bool e1.n) (.slice e1.u e1.nu e1.cu) (.slice e1.l e1.nl e1.cl) (.bool d2.n) (.slice d2.u d2.nu d2.cu) (.slice d2.l d2.nl d2.cl) | with_reducible exact Blk.new _ _ _
      · first | with_reducible exact hst.qv (hx1.below hc2) | with_reducible exact (hx1.below hc2).below (below_new _ _)
      · first | with_reducible exact hst.qv (hy1.below hc2) | with_reducible exact (hy1.below hc2).below (below_new _ _)
      · first | with_reducible exact hst.qv hv2 | with_reducible exact hv2.below (below_new _ _)
  case rest =>
    obtain ⟨G, rfl, hG, hbl, d, e, f, hk, hx, hy, hz⟩ := hcut
    have HX := hideIt hx
    have HY := hideIt hy
    have HZ := hideIt hz
    have HKG := hideIt hk
    have HG := hideIt hG
    have HBL := hideIt hbl
    obtain ⟨r0, r1, r2, r3, r4, r5, r6, r7, r8, f0, f1, f2, f3, f4, f5, f6, f7, f8⟩ := hk.all9
    clear hx hy hz hk hG hbl z0 z1 z2
    go_wp2_with fail
    refine (nowhere_calls ⟨d, e, rfl, HX.out, HY.out⟩).mono ?_
    rintro _ w3 ⟨hb3, rfl⟩
    clear r0 r1 r2 r3 r4 r5 r6 r7 r8 f0 f1 f2 f3 f4 f5 f6 f7 f8
    have hbl3 := hideIt (HBL.out.trans (hb3.mono HBL.out.size))
    have hk3 := hideIt (HKG.out.below hb3 HKG.out.lt)
    have hkr := hideIt (HK1.out.below hbl3.out (by rw [HSZ.out]; omega))
    have hbw := hideIt (HB0.out.trans (hbl3.out.mono HB0.out.size))
    have HX3 := hideIt (HX.out.below hb3)
    have HY3 := hideIt (HY.out.below hb3)
    have HZ3 := hideIt (HZ.out.below hb3)
    clear hb3
    obtain ⟨r0, r1, r2, r3, r4, r5, r6, r7, r8, f0, f1, f2, f3, f4, f5, f6, f7, f8⟩ := hk3.out.all9
    obtain ⟨q0, q1, q2, q3, q4, q5, q6, q7, q8, g0, g1, g2, g3, g4, g5, g6, g7, g8⟩ := hkr.out.all9
    by_cases h0 : rd a.data.toList = 0 ∧ rd b.data.toList = 0
    · rw [decide_eq_true h0]
      have H0 := hideIt h0
      clear h0
      go_wp2
      obtain ⟨k0, k1, k2, k3, k4, k5, k6, k7, k8, _⟩ := (hkr.out.put9 (.bool false) (.slice none 0 0) (.slice none 0 0) (.bool false) (.slice none 0 0) (.slice none 0 0) (.bool false) (.slice none 0 0) (.slice none 0 0)).all9
      refine bodyPost_ret (v := .tuple #[.agg #[.bool false, .slice none 0 0, .slice none 0 0, .bool false, .slice none 0 0, .slice none 0 0, .bool false, .slice none 0 0, .slice none 0 0], .int .i64 5]) (by simp [results, Tryz.results71, go_sem, k0, k1, k2, k3, k4, k5, k6, k7, k8]) rfl ⟨Below.put9 hbw.out (by omega) _ _ _ _ _ _ _ _ _, Or.inl ⟨H0.out.1, H0.out.2, rfl⟩⟩
    · rw [decide_eq_false h0]
      have H0 := hideIt h0
      clear h0
      go_wp2
      obtain ⟨k0, k1, k2, k3, k4, k5, k6, k7, k8, _⟩ := (hkr.out.put9 (.bool d.n) (.slice d.u d.nu d.cu) (.slice d.l d.nl d.cl) (.bool e.n) (.slice e.u e.nu e.cu) (.slice e.l e.nl e.cl) (.bool f.n) (.slice f.u f.nu f.cu) (.slice f.l f.nl f.cl)).all9
      have hst := Stays.put9 hkr.out (by simp [notLimb]) (.bool d.n) (.slice d.u d.nu d.cu) (.slice d.l d.nl d.cl) (.bool e.n) (.slice e.u e.nu e.cu) (.slice e.l e.nl e.cl) (.bool f.n) (.slice f.u f.nu f.cu) (.slice f.l f.nl f.cl) rfl rfl rfl rfl rfl rfl rfl rfl rfl
      refine bodyPost_ret (v := .tuple #[.agg #[.bool d.n, .slice d.u d.nu d.cu, .slice d.l d.nl d.cl, .bool e.n, .slice e.u e.nu e.cu, .slice e.l e.nl e.cl, .bool f.n, .slice f.u f.nu f.cu, .slice f.l f.nl f.cl], .int .i64 0]) (by simp [results, Tryz.results71, go_sem, k0, k1, k2, k3, k4, k5, k6, k7, k8]) rfl ⟨Below.put9 hbw.out (by omega) _ _ _ _ _ _ _ _ _, Or.inr ⟨H0.out, _, rfl, d, e, f, rfl, hst.qv HX3.out, hst.qv HY3.out, hst.qv HZ3.out⟩⟩
theorem rulerRead_calls {w : World} {v : Value} {la lb lc : List UInt8} (h : TV v la lb lc) (s1 : la.length ≤ 4294967296) (s2 : lb.length ≤ 4294967296) (s3 : lc.length ≤ 4294967296) :
    Calls Tryz.prog 71 #[v] w fun e w' => Below w.heap.size w w' ∧ ((rd la = 0 ∧ rd lb = 0 ∧ e = .returned (.tuple #[.agg #[.bool false, .slice none 0 0, .slice none 0 0, .bool false, .slice none 0 0, .slice none 0 0, .bool false, .slice none 0 0, .slice none 0 0], .int .i64 5])) ∨ (¬ (rd la = 0 ∧ rd lb = 0) ∧ ∃ v, e = .returned (.tuple #[v, .int .i64 0]) ∧ LV w' v (rd la) (rd lb) (rd lc))) := by
  obtain ⟨a, b, c, rfl, rfl, rfl, rfl⟩ := h
  rw [str_len c] at s3
  exact rulerRead_walk s1 s2 s3
end Go.Proofs.YtgajdmadbdbabaaGreatDoor
