/- Part 14 of the walks and of the mathematics under them: LBF. -/
import Derived.Test.YtgajdmadbdbabaaGreatDoorA12
import Derived.Test.YtgajdmadbdbabaaGreatDoorA13
set_option maxHeartbeats 16000000
set_option maxRecDepth 100000
/- LBF -/
namespace Go.Proofs.YtgajdmadbdbabaaGreatDoor
open Go.RowKit Cx
theorem angleFrom {la lb lc ma mb mc : ByteArray} {rla rlb rlc rma rmb rmc : Rat} (_ : la.size ≤ 1048576) (tla : TX 4194309 la rla) (_ : lb.size ≤ 1048576) (tlb : TX 4194309 lb rlb) (_ : lc.size ≤ 1048576) (tlc : TX 4194309 lc rlc) (_ : ma.size ≤ 1048576) (tma : TX 4194309 ma rma) (_ : mb.size ≤ 1048576) (tmb : TX 4194309 mb rmb) (_ : mc.size ≤ 1048576) (tmc : TX 4194309 mc rmc) :
    Con Tryz.prog Pre 10 [Agg [Tx la, Tx lb, Tx lc], Agg [Tx ma, Tx mb, Tx mc]] (Bo true) := by
  refine con_of (n := 48) Tryz.func10 rfl rfl (Nat.le_of_ble_eq_true rfl) ?_
  intro w a0 hp S0
  have HPRE : ∀ w', Below w.heap.size w w' → Pre w' := fun w' hb => hp.below hb
  refine wp_seq ?_
  refine region_abs [.alloc 26 (Agg [Tx la, Tx lb, Tx lc]), .alloc 26 (Agg [Tx ma, Tx mb, Tx mc]), .pure (Bo false)] ⟨S0, by decide +kernel⟩ (by kernel_rfl) (by kernel_rfl) rfl (by kernel_rfl) ?_ ?_
  · intro C
    refine ASteps.cons ?_ (ASteps.cons ?_ (ASteps.cons ?_ (ASteps.nil)))
    · exact step_box rfl rfl (want_none rfl) rfl (no_fill (by kernel_rfl)) (opn_old C 0 (by kernel_rfl) rfl) (boxes_L (cok3 (nl_tx la) (nl_tx lb) (nl_tx lc)))
    · exact step_box rfl rfl (want_none rfl) rfl (no_fill (by kernel_rfl)) (opn_old C 1 (by kernel_rfl) rfl) (boxes_L (cok3 (nl_tx ma) (nl_tx mb) (nl_tx mc)))
    · exact step_assign rfl rfl (want_none rfl) rfl (opn_const _)
  intro γ a1 w1 S1
  replace S1 : AS w 48 [(4, Bo false), (3, Jus (.pointer (some ⟨γ 1, 0, none⟩))), (2, Jus (.pointer (some ⟨γ 0, 0, none⟩)))] [(γ 0, 26, Agg [Tx la, Tx lb, Tx lc]), (γ 1, 26, Agg [Tx ma, Tx mb, Tx mc])] a1 w1 := cast (by kernel_rfl) (S1.keep [2, 3, 4])
  generalize γ 0 = G1_0 at S1
  generalize γ 1 = G1_1 at S1
  clear S0
  refine then_normal ?_
  refine wp_seq ?_
  obtain ⟨z1, ez1⟩ : ∃ q : Rat, q = rla * rma - -rlb * rmb := ⟨_, rfl⟩
  have fz1 : QS 16777237 z1 := by rw [ez1]; exact QS.mono ((tla.qs.mul tma.qs).sub (tlb.qs.neg.mul tmb.qs)) (by first | decide | omega)
  obtain ⟨z2, ez2⟩ : ∃ q : Rat, q = rla * rmb + -rlb * rma := ⟨_, rfl⟩
  have fz2 : QS 16777237 z2 := by rw [ez2]; exact QS.mono ((tla.qs.mul tmb.qs).add (tlb.qs.neg.mul tma.qs)) (by first | decide | omega)
  by_cases h3 : rla = 0 ∧ rlb = 0
  ·
    refine region_abs [.pure (Agg [Tx la, Tx lb, Tx lc]), .pure (Agg [Tx ma, Tx mb, Tx mc]), .pure (Tup [Agg [Tx ⟨#[]⟩, Tx ⟨#[]⟩], In (5)]), .pure (Tup [Agg [Tx ⟨#[]⟩, Tx ⟨#[]⟩], In (5)]), .pure (Agg [Tx ⟨#[]⟩, Tx ⟨#[]⟩]), .pure (In (5)), .alloc 67 (Agg [Tx ⟨#[]⟩, Tx ⟨#[]⟩]), .fill 6 (Agg [Tx ⟨#[]⟩, Tx ⟨#[]⟩]), .pure (In (5))] ⟨S1, by decide +kernel⟩ (by kernel_rfl) (by kernel_rfl) rfl (by kernel_rfl) ?_ ?_
    · intro C
      refine ASteps.cons ?_ (ASteps.cons ?_ (ASteps.cons ?_ (ASteps.cons ?_ (ASteps.cons ?_ (ASteps.cons ?_ (ASteps.cons ?_ (ASteps.cons ?_ (ASteps.cons ?_ (ASteps.nil)))))))))
      · exact step_load (k := 0) rfl rfl rfl (want_none rfl) rfl (opn_old C 2 (by kernel_rfl) rfl) (no_over (by kernel_rfl)) loads_L
      · exact step_load (k := 1) rfl rfl rfl (want_none rfl) rfl (opn_old C 1 (by kernel_rfl) rfl) (no_over (by kernel_rfl)) loads_L
      · exact step_call HPRE rfl rfl (want_none rfl) rfl en_angle_From (Opns.cons (opn_new C 0 0 rfl rfl rfl rfl rfl rfl) (Opns.cons (opn_new C 1 1 rfl rfl rfl rfl rfl rfl) Opns.nil)) (con_from_flat tla tlb tlc tma tmb tmc ez1 ez2 (by first | decide | omega) (by first | decide | omega) (Or.inl h3))
      · exact step_move rfl rfl (want_none rfl) rfl (opn_new C 2 0 rfl rfl rfl rfl rfl rfl)
      · exact step_extract (k := 0) rfl rfl (want_none rfl) rfl (opn_new C 3 0 rfl rfl rfl rfl rfl rfl) rfl
      · exact step_extract (k := 1) rfl rfl (want_none rfl) rfl (opn_new C 3 0 rfl rfl rfl rfl rfl rfl) rfl
      · exact step_new [.string ⟨#[]⟩, .string ⟨#[]⟩] zero_T rfl rfl (want_none rfl) rfl (fill_waits (s0 := 7) (k := 0) (by kernel_rfl) rfl rfl rfl rfl) allocs_T (by simp [notLimb]) (by kernel_rfl)
      · exact step_fill C (a := 6) (k := 0) rfl rfl rfl rfl (want_none rfl) rfl rfl rfl rfl rfl (by decide) (one_fill (by kernel_rfl)) (opn_new C 4 1 rfl rfl rfl rfl rfl rfl) (stores_T (cok2 (nl_tx ⟨#[]⟩) (nl_tx ⟨#[]⟩)))
      · exact step_assign rfl rfl (want_none rfl) rfl (opn_new C 5 0 rfl rfl rfl rfl rfl rfl)
    intro γ a2 w2 S2
    replace S2 : AS w 48 [(6, In (5)), (5, Jus (.pointer (some ⟨γ 6, 0, none⟩))), (4, Bo false), (3, Jus (.pointer (some ⟨G1_1, 0, none⟩))), (2, Jus (.pointer (some ⟨G1_0, 0, none⟩)))] [(G1_0, 26, Agg [Tx la, Tx lb, Tx lc]), (G1_1, 26, Agg [Tx ma, Tx mb, Tx mc]), (γ 6, 67, Agg [Tx ⟨#[]⟩, Tx ⟨#[]⟩])] a2 w2 := cast (by kernel_rfl) (S2.keep [2, 3, 4, 5, 6])
    generalize γ 6 = G2_6 at S2
    clear S1
    refine then_normal ?_
    refine wp_seq ?_
    refine wp_seq ?_
    refine region_abs [.pure (Bo true), .pure (Bo false), .pure (Bo false), .pure (Agg [Tx la, Tx lb, Tx lc]), .pure (Bo false), .pure (Bo true), .pure (Bo true), .pure (Bo true), .skip, .skip, .skip, .pure (Bo true)] ⟨S2, by decide +kernel⟩ (by kernel_rfl) (by kernel_rfl) rfl (by kernel_rfl) ?_ ?_
    · intro C
      refine ASteps.cons ?_ (ASteps.cons ?_ (ASteps.cons ?_ (ASteps.cons ?_ (ASteps.cons ?_ (ASteps.cons ?_ (ASteps.cons ?_ (ASteps.cons ?_ (ASteps.cons ?_ (ASteps.cons ?_ (ASteps.cons ?_ (ASteps.cons ?_ (ASteps.nil))))))))))))
      · exact step_call HPRE rfl rfl (want_none rfl) rfl en_compasslaw_angled Opns.nil (con_angled)
      · exact step_not true rfl rfl (want_none rfl) rfl (opn_new C 0 0 rfl rfl rfl rfl rfl rfl)
      · exact step_move rfl rfl (want_none rfl) rfl (opn_new C 1 0 rfl rfl rfl rfl rfl rfl)
      · exact step_load (k := 0) rfl rfl rfl (want_yes C 2 0 false rfl rfl rfl rfl rfl rfl rfl) rfl (opn_old C 4 (by kernel_rfl) rfl) (no_over (by kernel_rfl)) loads_L
      · exact step_call HPRE rfl rfl (want_yes C 2 1 false rfl rfl rfl rfl rfl rfl rfl) rfl en_compassref_Line (Opns.cons (opn_new C 3 0 rfl rfl rfl rfl rfl rfl) Opns.nil) (con_Line_f tla tlb tlc (by first | decide | omega) h3)
      · exact step_not false rfl rfl (want_yes C 2 1 false rfl rfl rfl rfl rfl rfl rfl) rfl (opn_new C 4 0 rfl rfl rfl rfl rfl rfl)
      · exact step_pick false rfl rfl (want_none rfl) rfl (opn_new C 2 0 rfl rfl rfl rfl rfl rfl) (opn_new C 5 1 rfl rfl rfl rfl rfl rfl)
      · exact step_move rfl rfl (want_none rfl) rfl (opn_new C 6 0 rfl rfl rfl rfl rfl rfl)
      · exact step_skip rfl rfl (want_no C 7 0 false true rfl rfl rfl rfl rfl rfl rfl rfl)
      · exact step_skip rfl rfl (want_no C 7 1 false true rfl rfl rfl rfl rfl rfl rfl rfl)
      · exact step_skip rfl rfl (want_no C 7 1 false true rfl rfl rfl rfl rfl rfl rfl rfl)
      · exact step_pick true rfl rfl (want_none rfl) rfl (opn_new C 7 0 rfl rfl rfl rfl rfl rfl) (opn_const _)
    intro γ a3 w3 S3
    replace S3 : AS w 48 [(24, Bo true), (6, In (5)), (5, Jus (.pointer (some ⟨G2_6, 0, none⟩))), (4, Bo false), (3, Jus (.pointer (some ⟨G1_1, 0, none⟩))), (2, Jus (.pointer (some ⟨G1_0, 0, none⟩)))] [(G1_0, 26, Agg [Tx la, Tx lb, Tx lc]), (G1_1, 26, Agg [Tx ma, Tx mb, Tx mc]), (G2_6, 67, Agg [Tx ⟨#[]⟩, Tx ⟨#[]⟩])] a3 w3 := cast (by kernel_rfl) (S3.keep [2, 3, 4, 5, 6, 24])
    clear S2
    refine then_normal ?_
    refine wp_cond_true (S3.val 0 rfl) ?_
    refine wp_seq ?_
    refine region_abs [.pure (Bo true), .pure (Bo true), .pure (In (5)), .pure (Bo true), .pure (Bo true), .pure (Bo true), .pure (Agg [Tx ⟨#[]⟩, Tx ⟨#[]⟩]), .pure (Bo true), .pure (Bo true), .pure (Bo true)] ⟨S3, by decide +kernel⟩ (by kernel_rfl) (by kernel_rfl) rfl (by kernel_rfl) ?_ ?_
    · intro C
      refine ASteps.cons ?_ (ASteps.cons ?_ (ASteps.cons ?_ (ASteps.cons ?_ (ASteps.cons ?_ (ASteps.cons ?_ (ASteps.cons ?_ (ASteps.cons ?_ (ASteps.cons ?_ (ASteps.cons ?_ (ASteps.nil))))))))))
      · exact step_call HPRE rfl rfl (want_none rfl) rfl en_compasslaw_angled Opns.nil (con_angled)
      · exact step_move rfl rfl (want_none rfl) rfl (opn_new C 0 0 rfl rfl rfl rfl rfl rfl)
      · exact step_move rfl rfl (want_yes C 1 0 true rfl rfl rfl rfl rfl rfl rfl) rfl (opn_old C 1 (by kernel_rfl) rfl)
      · exact step_bin rfl rfl (want_yes C 1 1 true rfl rfl rfl rfl rfl rfl rfl) rfl (opn_new C 2 0 rfl rfl rfl rfl rfl rfl) (opn_const _) (run_eql_int _ _ _ _ _ _ rfl)
      · exact step_pick true rfl rfl (want_none rfl) rfl (opn_new C 1 0 rfl rfl rfl rfl rfl rfl) (opn_new C 3 1 rfl rfl rfl rfl rfl rfl)
      · exact step_move rfl rfl (want_none rfl) rfl (opn_new C 4 0 rfl rfl rfl rfl rfl rfl)
      · exact step_load (k := 2) rfl rfl rfl (want_yes C 5 0 true rfl rfl rfl rfl rfl rfl rfl) rfl (opn_old C 2 (by kernel_rfl) rfl) (no_over (by kernel_rfl)) loads_T
      · exact step_call HPRE rfl rfl (want_yes C 5 1 true rfl rfl rfl rfl rfl rfl rfl) rfl en_compasslaw_noT (Opns.cons (opn_new C 6 0 rfl rfl rfl rfl rfl rfl) Opns.nil) (con_noT)
      · exact step_pick true rfl rfl (want_none rfl) rfl (opn_new C 5 0 rfl rfl rfl rfl rfl rfl) (opn_new C 7 1 rfl rfl rfl rfl rfl rfl)
      · exact step_assign rfl rfl (want_none rfl) rfl (opn_new C 8 0 rfl rfl rfl rfl rfl rfl)
    intro γ a4 w4 S4
    replace S4 : AS w 48 [(4, Bo true), (6, In (5)), (5, Jus (.pointer (some ⟨G2_6, 0, none⟩))), (3, Jus (.pointer (some ⟨G1_1, 0, none⟩))), (2, Jus (.pointer (some ⟨G1_0, 0, none⟩)))] [(G1_0, 26, Agg [Tx la, Tx lb, Tx lc]), (G1_1, 26, Agg [Tx ma, Tx mb, Tx mc]), (G2_6, 67, Agg [Tx ⟨#[]⟩, Tx ⟨#[]⟩])] a4 w4 := cast (by kernel_rfl) (S4.keep [2, 3, 4, 5, 6])
    clear S3
    refine then_normal ?_
    refine wp_ret ?_
    refine then_ret ?_
    exact S4.ret 0 rfl rfl fun v hv => ⟨S4.bel, v, rfl, hv⟩
  ·
    by_cases h4 : rma = 0 ∧ rmb = 0
    ·
      refine region_abs [.pure (Agg [Tx la, Tx lb, Tx lc]), .pure (Agg [Tx ma, Tx mb, Tx mc]), .pure (Tup [Agg [Tx ⟨#[]⟩, Tx ⟨#[]⟩], In (5)]), .pure (Tup [Agg [Tx ⟨#[]⟩, Tx ⟨#[]⟩], In (5)]), .pure (Agg [Tx ⟨#[]⟩, Tx ⟨#[]⟩]), .pure (In (5)), .alloc 67 (Agg [Tx ⟨#[]⟩, Tx ⟨#[]⟩]), .fill 6 (Agg [Tx ⟨#[]⟩, Tx ⟨#[]⟩]), .pure (In (5))] ⟨S1, by decide +kernel⟩ (by kernel_rfl) (by kernel_rfl) rfl (by kernel_rfl) ?_ ?_
      · intro C
        refine ASteps.cons ?_ (ASteps.cons ?_ (ASteps.cons ?_ (ASteps.cons ?_ (ASteps.cons ?_ (ASteps.cons ?_ (ASteps.cons ?_ (ASteps.cons ?_ (ASteps.cons ?_ (ASteps.nil)))))))))
        · exact step_load (k := 0) rfl rfl rfl (want_none rfl) rfl (opn_old C 2 (by kernel_rfl) rfl) (no_over (by kernel_rfl)) loads_L
        · exact step_load (k := 1) rfl rfl rfl (want_none rfl) rfl (opn_old C 1 (by kernel_rfl) rfl) (no_over (by kernel_rfl)) loads_L
        · exact step_call HPRE rfl rfl (want_none rfl) rfl en_angle_From (Opns.cons (opn_new C 0 0 rfl rfl rfl rfl rfl rfl) (Opns.cons (opn_new C 1 1 rfl rfl rfl rfl rfl rfl) Opns.nil)) (con_from_flat tla tlb tlc tma tmb tmc ez1 ez2 (by first | decide | omega) (by first | decide | omega) (Or.inr h4))
        · exact step_move rfl rfl (want_none rfl) rfl (opn_new C 2 0 rfl rfl rfl rfl rfl rfl)
        · exact step_extract (k := 0) rfl rfl (want_none rfl) rfl (opn_new C 3 0 rfl rfl rfl rfl rfl rfl) rfl
        · exact step_extract (k := 1) rfl rfl (want_none rfl) rfl (opn_new C 3 0 rfl rfl rfl rfl rfl rfl) rfl
        · exact step_new [.string ⟨#[]⟩, .string ⟨#[]⟩] zero_T rfl rfl (want_none rfl) rfl (fill_waits (s0 := 7) (k := 0) (by kernel_rfl) rfl rfl rfl rfl) allocs_T (by simp [notLimb]) (by kernel_rfl)
        · exact step_fill C (a := 6) (k := 0) rfl rfl rfl rfl (want_none rfl) rfl rfl rfl rfl rfl (by decide) (one_fill (by kernel_rfl)) (opn_new C 4 1 rfl rfl rfl rfl rfl rfl) (stores_T (cok2 (nl_tx ⟨#[]⟩) (nl_tx ⟨#[]⟩)))
        · exact step_assign rfl rfl (want_none rfl) rfl (opn_new C 5 0 rfl rfl rfl rfl rfl rfl)
      intro γ a5 w5 S5
      replace S5 : AS w 48 [(6, In (5)), (5, Jus (.pointer (some ⟨γ 6, 0, none⟩))), (4, Bo false), (3, Jus (.pointer (some ⟨G1_1, 0, none⟩))), (2, Jus (.pointer (some ⟨G1_0, 0, none⟩)))] [(G1_0, 26, Agg [Tx la, Tx lb, Tx lc]), (G1_1, 26, Agg [Tx ma, Tx mb, Tx mc]), (γ 6, 67, Agg [Tx ⟨#[]⟩, Tx ⟨#[]⟩])] a5 w5 := cast (by kernel_rfl) (S5.keep [2, 3, 4, 5, 6])
      generalize γ 6 = G5_6 at S5
      clear S1
      refine then_normal ?_
      refine wp_seq ?_
      refine wp_seq ?_
      refine region_abs [.pure (Bo true), .pure (Bo false), .pure (Bo false), .pure (Agg [Tx la, Tx lb, Tx lc]), .pure (Bo true), .pure (Bo false), .pure (Bo false), .pure (Bo false), .pure (Agg [Tx ma, Tx mb, Tx mc]), .pure (Bo false), .pure (Bo true), .pure (Bo true)] ⟨S5, by decide +kernel⟩ (by kernel_rfl) (by kernel_rfl) rfl (by kernel_rfl) ?_ ?_
      · intro C
        refine ASteps.cons ?_ (ASteps.cons ?_ (ASteps.cons ?_ (ASteps.cons ?_ (ASteps.cons ?_ (ASteps.cons ?_ (ASteps.cons ?_ (ASteps.cons ?_ (ASteps.cons ?_ (ASteps.cons ?_ (ASteps.cons ?_ (ASteps.cons ?_ (ASteps.nil))))))))))))
        · exact step_call HPRE rfl rfl (want_none rfl) rfl en_compasslaw_angled Opns.nil (con_angled)
        · exact step_not true rfl rfl (want_none rfl) rfl (opn_new C 0 0 rfl rfl rfl rfl rfl rfl)
        · exact step_move rfl rfl (want_none rfl) rfl (opn_new C 1 0 rfl rfl rfl rfl rfl rfl)
        · exact step_load (k := 0) rfl rfl rfl (want_yes C 2 0 false rfl rfl rfl rfl rfl rfl rfl) rfl (opn_old C 4 (by kernel_rfl) rfl) (no_over (by kernel_rfl)) loads_L
        · exact step_call HPRE rfl rfl (want_yes C 2 1 false rfl rfl rfl rfl rfl rfl rfl) rfl en_compassref_Line (Opns.cons (opn_new C 3 0 rfl rfl rfl rfl rfl rfl) Opns.nil) (con_Line_t tla tlb tlc (by first | decide | omega) h3)
        · exact step_not true rfl rfl (want_yes C 2 1 false rfl rfl rfl rfl rfl rfl rfl) rfl (opn_new C 4 0 rfl rfl rfl rfl rfl rfl)
        · exact step_pick false rfl rfl (want_none rfl) rfl (opn_new C 2 0 rfl rfl rfl rfl rfl rfl) (opn_new C 5 1 rfl rfl rfl rfl rfl rfl)
        · exact step_move rfl rfl (want_none rfl) rfl (opn_new C 6 0 rfl rfl rfl rfl rfl rfl)
        · exact step_load (k := 1) rfl rfl rfl (want_yes C 7 0 false rfl rfl rfl rfl rfl rfl rfl) rfl (opn_old C 3 (by kernel_rfl) rfl) (no_over (by kernel_rfl)) loads_L
        · exact step_call HPRE rfl rfl (want_yes C 7 1 false rfl rfl rfl rfl rfl rfl rfl) rfl en_compassref_Line (Opns.cons (opn_new C 8 0 rfl rfl rfl rfl rfl rfl) Opns.nil) (con_Line_f tma tmb tmc (by first | decide | omega) h4)
        · exact step_not false rfl rfl (want_yes C 7 1 false rfl rfl rfl rfl rfl rfl rfl) rfl (opn_new C 9 0 rfl rfl rfl rfl rfl rfl)
        · exact step_pick false rfl rfl (want_none rfl) rfl (opn_new C 7 0 rfl rfl rfl rfl rfl rfl) (opn_new C 10 1 rfl rfl rfl rfl rfl rfl)
      intro γ a6 w6 S6
      replace S6 : AS w 48 [(24, Bo true), (6, In (5)), (5, Jus (.pointer (some ⟨G5_6, 0, none⟩))), (4, Bo false), (3, Jus (.pointer (some ⟨G1_1, 0, none⟩))), (2, Jus (.pointer (some ⟨G1_0, 0, none⟩)))] [(G1_0, 26, Agg [Tx la, Tx lb, Tx lc]), (G1_1, 26, Agg [Tx ma, Tx mb, Tx mc]), (G5_6, 67, Agg [Tx ⟨#[]⟩, Tx ⟨#[]⟩])] a6 w6 := cast (by kernel_rfl) (S6.keep [2, 3, 4, 5, 6, 24])
      clear S5
      refine then_normal ?_
      refine wp_cond_true (S6.val 0 rfl) ?_
      refine wp_seq ?_
      refine region_abs [.pure (Bo true), .pure (Bo true), .pure (In (5)), .pure (Bo true), .pure (Bo true), .pure (Bo true), .pure (Agg [Tx ⟨#[]⟩, Tx ⟨#[]⟩]), .pure (Bo true), .pure (Bo true), .pure (Bo true)] ⟨S6, by decide +kernel⟩ (by kernel_rfl) (by kernel_rfl) rfl (by kernel_rfl) ?_ ?_
      · intro C
        refine ASteps.cons ?_ (ASteps.cons ?_ (ASteps.cons ?_ (ASteps.cons ?_ (ASteps.cons ?_ (ASteps.cons ?_ (ASteps.cons ?_ (ASteps.cons ?_ (ASteps.cons ?_ (ASteps.cons ?_ (ASteps.nil))))))))))
        · exact step_call HPRE rfl rfl (want_none rfl) rfl en_compasslaw_angled Opns.nil (con_angled)
        · exact step_move rfl rfl (want_none rfl) rfl (opn_new C 0 0 rfl rfl rfl rfl rfl rfl)
        · exact step_move rfl rfl (want_yes C 1 0 true rfl rfl rfl rfl rfl rfl rfl) rfl (opn_old C 1 (by kernel_rfl) rfl)
        · exact step_bin rfl rfl (want_yes C 1 1 true rfl rfl rfl rfl rfl rfl rfl) rfl (opn_new C 2 0 rfl rfl rfl rfl rfl rfl) (opn_const _) (run_eql_int _ _ _ _ _ _ rfl)
        · exact step_pick true rfl rfl (want_none rfl) rfl (opn_new C 1 0 rfl rfl rfl rfl rfl rfl) (opn_new C 3 1 rfl rfl rfl rfl rfl rfl)
        · exact step_move rfl rfl (want_none rfl) rfl (opn_new C 4 0 rfl rfl rfl rfl rfl rfl)
        · exact step_load (k := 2) rfl rfl rfl (want_yes C 5 0 true rfl rfl rfl rfl rfl rfl rfl) rfl (opn_old C 2 (by kernel_rfl) rfl) (no_over (by kernel_rfl)) loads_T
        · exact step_call HPRE rfl rfl (want_yes C 5 1 true rfl rfl rfl rfl rfl rfl rfl) rfl en_compasslaw_noT (Opns.cons (opn_new C 6 0 rfl rfl rfl rfl rfl rfl) Opns.nil) (con_noT)
        · exact step_pick true rfl rfl (want_none rfl) rfl (opn_new C 5 0 rfl rfl rfl rfl rfl rfl) (opn_new C 7 1 rfl rfl rfl rfl rfl rfl)
        · exact step_assign rfl rfl (want_none rfl) rfl (opn_new C 8 0 rfl rfl rfl rfl rfl rfl)
      intro γ a7 w7 S7
      replace S7 : AS w 48 [(4, Bo true), (6, In (5)), (5, Jus (.pointer (some ⟨G5_6, 0, none⟩))), (3, Jus (.pointer (some ⟨G1_1, 0, none⟩))), (2, Jus (.pointer (some ⟨G1_0, 0, none⟩)))] [(G1_0, 26, Agg [Tx la, Tx lb, Tx lc]), (G1_1, 26, Agg [Tx ma, Tx mb, Tx mc]), (G5_6, 67, Agg [Tx ⟨#[]⟩, Tx ⟨#[]⟩])] a7 w7 := cast (by kernel_rfl) (S7.keep [2, 3, 4, 5, 6])
      clear S6
      refine then_normal ?_
      refine wp_ret ?_
      refine then_ret ?_
      exact S7.ret 0 rfl rfl fun v hv => ⟨S7.bel, v, rfl, hv⟩
    ·
      obtain ⟨z5, ez5⟩ : ∃ q : Rat, q = z2 * fac [z1, z2] := ⟨_, rfl⟩
      have fz5 : QS 50331712 z5 := by rw [ez5]; exact QS.mono (QS.fac2 fz1 fz2 (by simp)) (by first | decide | omega)
      obtain ⟨z6, ez6⟩ : ∃ q : Rat, q = z1 * fac [z1, z2] := ⟨_, rfl⟩
      have fz6 : QS 50331712 z6 := by rw [ez6]; exact QS.mono (QS.fac2 fz1 fz2 (by simp)) (by first | decide | omega)
      have h7 : ¬ (z1 = 0 ∧ z2 = 0) := by rw [ez1, ez2]; exact conj_ne (fun e => e.elim h3 h4)
      obtain ⟨s8, es8⟩ : ∃ s : ByteArray, s.data.toList = tx z5 := ⟨⟨(tx z5).toArray⟩, by simp⟩
      have ts8 : TX 50331712 s8 z5 := TX.told es8 fz5
      obtain ⟨s9, es9⟩ : ∃ s : ByteArray, s.data.toList = tx z6 := ⟨⟨(tx z6).toArray⟩, by simp⟩
      have ts9 : TX 50331712 s9 z6 := TX.told es9 fz6
      refine region_abs [.pure (Agg [Tx la, Tx lb, Tx lc]), .pure (Agg [Tx ma, Tx mb, Tx mc]), .pure (Tup [Agg [Tx s8, Tx s9], In (0)]), .pure (Tup [Agg [Tx s8, Tx s9], In (0)]), .pure (Agg [Tx s8, Tx s9]), .pure (In (0)), .alloc 67 (Agg [Tx ⟨#[]⟩, Tx ⟨#[]⟩]), .fill 6 (Agg [Tx s8, Tx s9]), .pure (In (0))] ⟨S1, by decide +kernel⟩ (by kernel_rfl) (by kernel_rfl) rfl (by kernel_rfl) ?_ ?_
      · intro C
        refine ASteps.cons ?_ (ASteps.cons ?_ (ASteps.cons ?_ (ASteps.cons ?_ (ASteps.cons ?_ (ASteps.cons ?_ (ASteps.cons ?_ (ASteps.cons ?_ (ASteps.cons ?_ (ASteps.nil)))))))))
        · exact step_load (k := 0) rfl rfl rfl (want_none rfl) rfl (opn_old C 2 (by kernel_rfl) rfl) (no_over (by kernel_rfl)) loads_L
        · exact step_load (k := 1) rfl rfl rfl (want_none rfl) rfl (opn_old C 1 (by kernel_rfl) rfl) (no_over (by kernel_rfl)) loads_L
        · exact step_call HPRE rfl rfl (want_none rfl) rfl en_angle_From (Opns.cons (opn_new C 0 0 rfl rfl rfl rfl rfl rfl) (Opns.cons (opn_new C 1 1 rfl rfl rfl rfl rfl rfl) Opns.nil)) (con_from_ok tla tlb tlc tma tmb tmc ez1 ez2 (by first | decide | omega) (by first | decide | omega) (fun e => e.elim h3 h4) (es8.trans (by rw [ez5])) (es9.trans (by rw [ez6])))
        · exact step_move rfl rfl (want_none rfl) rfl (opn_new C 2 0 rfl rfl rfl rfl rfl rfl)
        · exact step_extract (k := 0) rfl rfl (want_none rfl) rfl (opn_new C 3 0 rfl rfl rfl rfl rfl rfl) rfl
        · exact step_extract (k := 1) rfl rfl (want_none rfl) rfl (opn_new C 3 0 rfl rfl rfl rfl rfl rfl) rfl
        · exact step_new [.string ⟨#[]⟩, .string ⟨#[]⟩] zero_T rfl rfl (want_none rfl) rfl (fill_waits (s0 := 7) (k := 0) (by kernel_rfl) rfl rfl rfl rfl) allocs_T (by simp [notLimb]) (by kernel_rfl)
        · exact step_fill C (a := 6) (k := 0) rfl rfl rfl rfl (want_none rfl) rfl rfl rfl rfl rfl (by decide) (one_fill (by kernel_rfl)) (opn_new C 4 1 rfl rfl rfl rfl rfl rfl) (stores_T (cok2 (nl_tx s8) (nl_tx s9)))
        · exact step_assign rfl rfl (want_none rfl) rfl (opn_new C 5 0 rfl rfl rfl rfl rfl rfl)
      intro γ a8 w8 S8
      replace S8 : AS w 48 [(6, In (0)), (5, Jus (.pointer (some ⟨γ 6, 0, none⟩))), (4, Bo false), (3, Jus (.pointer (some ⟨G1_1, 0, none⟩))), (2, Jus (.pointer (some ⟨G1_0, 0, none⟩)))] [(G1_0, 26, Agg [Tx la, Tx lb, Tx lc]), (G1_1, 26, Agg [Tx ma, Tx mb, Tx mc]), (γ 6, 67, Agg [Tx s8, Tx s9])] a8 w8 := cast (by kernel_rfl) (S8.keep [2, 3, 4, 5, 6])
      generalize γ 6 = G8_6 at S8
      clear S1
      refine then_normal ?_
      refine wp_seq ?_
      refine wp_seq ?_
      refine region_abs [.pure (Bo true), .pure (Bo false), .pure (Bo false), .pure (Agg [Tx la, Tx lb, Tx lc]), .pure (Bo true), .pure (Bo false), .pure (Bo false), .pure (Bo false), .pure (Agg [Tx ma, Tx mb, Tx mc]), .pure (Bo true), .pure (Bo false), .pure (Bo false)] ⟨S8, by decide +kernel⟩ (by kernel_rfl) (by kernel_rfl) rfl (by kernel_rfl) ?_ ?_
      · intro C
        refine ASteps.cons ?_ (ASteps.cons ?_ (ASteps.cons ?_ (ASteps.cons ?_ (ASteps.cons ?_ (ASteps.cons ?_ (ASteps.cons ?_ (ASteps.cons ?_ (ASteps.cons ?_ (ASteps.cons ?_ (ASteps.cons ?_ (ASteps.cons ?_ (ASteps.nil))))))))))))
        · exact step_call HPRE rfl rfl (want_none rfl) rfl en_compasslaw_angled Opns.nil (con_angled)
        · exact step_not true rfl rfl (want_none rfl) rfl (opn_new C 0 0 rfl rfl rfl rfl rfl rfl)
        · exact step_move rfl rfl (want_none rfl) rfl (opn_new C 1 0 rfl rfl rfl rfl rfl rfl)
        · exact step_load (k := 0) rfl rfl rfl (want_yes C 2 0 false rfl rfl rfl rfl rfl rfl rfl) rfl (opn_old C 4 (by kernel_rfl) rfl) (no_over (by kernel_rfl)) loads_L
        · exact step_call HPRE rfl rfl (want_yes C 2 1 false rfl rfl rfl rfl rfl rfl rfl) rfl en_compassref_Line (Opns.cons (opn_new C 3 0 rfl rfl rfl rfl rfl rfl) Opns.nil) (con_Line_t tla tlb tlc (by first | decide | omega) h3)
        · exact step_not true rfl rfl (want_yes C 2 1 false rfl rfl rfl rfl rfl rfl rfl) rfl (opn_new C 4 0 rfl rfl rfl rfl rfl rfl)
        · exact step_pick false rfl rfl (want_none rfl) rfl (opn_new C 2 0 rfl rfl rfl rfl rfl rfl) (opn_new C 5 1 rfl rfl rfl rfl rfl rfl)
        · exact step_move rfl rfl (want_none rfl) rfl (opn_new C 6 0 rfl rfl rfl rfl rfl rfl)
        · exact step_load (k := 1) rfl rfl rfl (want_yes C 7 0 false rfl rfl rfl rfl rfl rfl rfl) rfl (opn_old C 3 (by kernel_rfl) rfl) (no_over (by kernel_rfl)) loads_L
        · exact step_call HPRE rfl rfl (want_yes C 7 1 false rfl rfl rfl rfl rfl rfl rfl) rfl en_compassref_Line (Opns.cons (opn_new C 8 0 rfl rfl rfl rfl rfl rfl) Opns.nil) (con_Line_t tma tmb tmc (by first | decide | omega) h4)
        · exact step_not true rfl rfl (want_yes C 7 1 false rfl rfl rfl rfl rfl rfl rfl) rfl (opn_new C 9 0 rfl rfl rfl rfl rfl rfl)
        · exact step_pick false rfl rfl (want_none rfl) rfl (opn_new C 7 0 rfl rfl rfl rfl rfl rfl) (opn_new C 10 1 rfl rfl rfl rfl rfl rfl)
      intro γ a9 w9 S9
      replace S9 : AS w 48 [(24, Bo false), (6, In (0)), (5, Jus (.pointer (some ⟨G8_6, 0, none⟩))), (4, Bo false), (3, Jus (.pointer (some ⟨G1_1, 0, none⟩))), (2, Jus (.pointer (some ⟨G1_0, 0, none⟩)))] [(G1_0, 26, Agg [Tx la, Tx lb, Tx lc]), (G1_1, 26, Agg [Tx ma, Tx mb, Tx mc]), (G8_6, 67, Agg [Tx s8, Tx s9])] a9 w9 := cast (by kernel_rfl) (S9.keep [2, 3, 4, 5, 6, 24])
      clear S8
      refine then_normal ?_
      refine wp_cond_false (S9.val 0 rfl) ?_
      refine wp_skip ?_
      refine then_normal ?_
      refine wp_seq ?_
      obtain ⟨z10, ez10⟩ : ∃ q : Rat, q = -rlb := ⟨_, rfl⟩
      have fz10 : QS 4194309 z10 := by rw [ez10]; exact QS.mono tlb.qs.neg (by first | decide | omega)
      obtain ⟨z11, ez11⟩ : ∃ q : Rat, q = -rmb := ⟨_, rfl⟩
      have fz11 : QS 4194309 z11 := by rw [ez11]; exact QS.mono tmb.qs.neg (by first | decide | omega)
      have h12 : ((z10 * z6 - rla * z5) * rma) - ((z10 * z5 + rla * z6) * z11) = 0 := by (subst_vars; grind)
      refine region_abs [.pure (In (0)), .pure (Bo true), .pure (Bo true), .pure (Agg [Tx s8, Tx s9]), .pure (Bo true), .pure (Bo true), .pure (Bo true), .pure (Agg [Tx s8, Tx s9]), .pure (Agg [Tx la, Tx lb, Tx lc]), .pure (Agg [Rt z10, Rt rla]), .pure (Agg [Tx ma, Tx mb, Tx mc]), .pure (Agg [Rt z11, Rt rma]), .pure (Bo true), .pure (Bo true), .pure (Bo true)] ⟨S9, by decide +kernel⟩ (by kernel_rfl) (by kernel_rfl) rfl (by kernel_rfl) ?_ ?_
      · intro C
        refine ASteps.cons ?_ (ASteps.cons ?_ (ASteps.cons ?_ (ASteps.cons ?_ (ASteps.cons ?_ (ASteps.cons ?_ (ASteps.cons ?_ (ASteps.cons ?_ (ASteps.cons ?_ (ASteps.cons ?_ (ASteps.cons ?_ (ASteps.cons ?_ (ASteps.cons ?_ (ASteps.cons ?_ (ASteps.cons ?_ (ASteps.nil)))))))))))))))
        · exact step_move rfl rfl (want_none rfl) rfl (opn_old C 1 (by kernel_rfl) rfl)
        · exact step_bin rfl rfl (want_none rfl) rfl (opn_new C 0 0 rfl rfl rfl rfl rfl rfl) (opn_const _) (run_eql_int _ _ _ _ _ _ rfl)
        · exact step_move rfl rfl (want_none rfl) rfl (opn_new C 1 0 rfl rfl rfl rfl rfl rfl)
        · exact step_load (k := 2) rfl rfl rfl (want_yes C 2 0 true rfl rfl rfl rfl rfl rfl rfl) rfl (opn_old C 2 (by kernel_rfl) rfl) (no_over (by kernel_rfl)) loads_T
        · exact step_call HPRE rfl rfl (want_yes C 2 1 true rfl rfl rfl rfl rfl rfl rfl) rfl en_compasslaw_plainT (Opns.cons (opn_new C 3 0 rfl rfl rfl rfl rfl rfl) Opns.nil) (con_plainT ts8 ts9 (TX.right es8) (TX.right es9) (by first | decide | omega) (plain_ne2 h7 ez6 ez5) (plain_two h7 ez6 ez5))
        · exact step_pick true rfl rfl (want_none rfl) rfl (opn_new C 2 0 rfl rfl rfl rfl rfl rfl) (opn_new C 4 1 rfl rfl rfl rfl rfl rfl)
        · exact step_move rfl rfl (want_none rfl) rfl (opn_new C 5 0 rfl rfl rfl rfl rfl rfl)
        · exact step_load (k := 2) rfl rfl rfl (want_yes C 6 0 true rfl rfl rfl rfl rfl rfl rfl) rfl (opn_old C 2 (by kernel_rfl) rfl) (no_over (by kernel_rfl)) loads_T
        · exact step_load (k := 0) rfl rfl rfl (want_yes C 6 0 true rfl rfl rfl rfl rfl rfl rfl) rfl (opn_old C 5 (by kernel_rfl) rfl) (no_over (by kernel_rfl)) loads_L
        · exact step_call HPRE rfl rfl (want_yes C 6 1 true rfl rfl rfl rfl rfl rfl rfl) rfl en_compassref_Way (Opns.cons (opn_new C 8 0 rfl rfl rfl rfl rfl rfl) Opns.nil) (con_Way tla tlb tlc ez10 (by first | decide | omega))
        · exact step_load (k := 1) rfl rfl rfl (want_yes C 6 0 true rfl rfl rfl rfl rfl rfl rfl) rfl (opn_old C 4 (by kernel_rfl) rfl) (no_over (by kernel_rfl)) loads_L
        · exact step_call HPRE rfl rfl (want_yes C 6 2 true rfl rfl rfl rfl rfl rfl rfl) rfl en_compassref_Way (Opns.cons (opn_new C 10 0 rfl rfl rfl rfl rfl rfl) Opns.nil) (con_Way tma tmb tmc ez11 (by first | decide | omega))
        · exact step_call HPRE rfl rfl (want_yes C 6 4 true rfl rfl rfl rfl rfl rfl rfl) rfl en_compasslaw_turns (Opns.cons (opn_new C 7 0 rfl rfl rfl rfl rfl rfl) (Opns.cons (opn_new C 9 1 rfl rfl rfl rfl rfl rfl) (Opns.cons (opn_new C 11 2 rfl rfl rfl rfl rfl rfl) Opns.nil))) (con_turns ts8 ts9 (QS.mono (l := 50331712) fz10 (by first | decide | omega)) (QS.mono (l := 50331712) tla.qs (by first | decide | omega)) (QS.mono (l := 50331712) fz11 (by first | decide | omega)) (QS.mono (l := 50331712) tma.qs (by first | decide | omega)) (by first | decide | omega) (by first | decide | omega) h12)
        · exact step_pick true rfl rfl (want_none rfl) rfl (opn_new C 6 0 rfl rfl rfl rfl rfl rfl) (opn_new C 12 1 rfl rfl rfl rfl rfl rfl)
        · exact step_assign rfl rfl (want_none rfl) rfl (opn_new C 13 0 rfl rfl rfl rfl rfl rfl)
      intro γ a10 w10 S10
      replace S10 : AS w 48 [(4, Bo true)] [(G1_0, 26, Agg [Tx la, Tx lb, Tx lc]), (G1_1, 26, Agg [Tx ma, Tx mb, Tx mc]), (G8_6, 67, Agg [Tx s8, Tx s9])] a10 w10 := cast (by kernel_rfl) (S10.keep [4])
      clear S9
      refine then_normal ?_
      refine wp_ret ?_
      exact S10.ret 0 rfl rfl fun v hv => ⟨S10.bel, v, rfl, hv⟩
theorem angleFrom_walk {w : World} {la lb lc ma mb mc : ByteArray} (sla : la.size ≤ 1048576) (slb : lb.size ≤ 1048576) (slc : lc.size ≤ 1048576) (sma : ma.size ≤ 1048576) (smb : mb.size ≤ 1048576) (smc : mc.size ≤ 1048576) (tab : Tab w) (mx : MaxL w) :
    Calls Tryz.prog 10 #[.agg #[.string la, .string lb, .string lc], .agg #[.string ma, .string mb, .string mc]] w fun e w' => Below w.heap.size w w' ∧ e = .returned (.bool true) := by
  refine (angleFrom sla (TX.param sla) slb (TX.param slb) slc (TX.param slc) sma (TX.param sma) smb (TX.param smb) smc (TX.param smc) w [.agg #[.string la, .string lb, .string lc], .agg #[.string ma, .string mb, .string mc]] ⟨tab, mx⟩ ⟨L3.mk _ _ _ _, L3.mk _ _ _ _, trivial⟩).mono ?_
  rintro _ w' ⟨hb, v, rfl, hv⟩
  exact ⟨hb, by rw [show v = _ from hv]⟩
end Go.Proofs.YtgajdmadbdbabaaGreatDoor
