/- Part 14 of the walks and of the mathematics under them: LBN. -/
import Derived.Test.YtgajdmadbdbabaaGreatDoorA12
import Derived.Test.YtgajdmadbdbabaaGreatDoorA13
set_option maxHeartbeats 16000000
set_option maxRecDepth 100000
/- LBN -/
namespace Go.Proofs.YtgajdmadbdbabaaGreatDoor
open Go.RowKit Cx
theorem angleSeen {ax az bx bz px pz : ByteArray} {rax raz rbx rbz rpx rpz : Rat} (_ : ax.size ≤ 1048576) (tax : TX 4194309 ax rax) (_ : az.size ≤ 1048576) (taz : TX 4194309 az raz) (_ : bx.size ≤ 1048576) (tbx : TX 4194309 bx rbx) (_ : bz.size ≤ 1048576) (tbz : TX 4194309 bz rbz) (_ : px.size ≤ 1048576) (tpx : TX 4194309 px rpx) (_ : pz.size ≤ 1048576) (tpz : TX 4194309 pz rpz) :
    Con Tryz.prog Pre 12 [Agg [Tx ax, Tx az], Agg [Tx bx, Tx bz], Agg [Tx px, Tx pz]] (Bo true) := by
  refine con_of (n := 62) Tryz.func12 rfl rfl (Nat.le_of_ble_eq_true rfl) ?_
  intro w a0 hp S0
  have HPRE : ∀ w', Below w.heap.size w w' → Pre w' := fun w' hb => hp.below hb
  refine wp_seq ?_
  refine region_abs [.alloc 24 (Agg [Tx ax, Tx az]), .alloc 24 (Agg [Tx bx, Tx bz]), .alloc 24 (Agg [Tx px, Tx pz]), .pure (Bo false)] ⟨S0, by decide +kernel⟩ (by kernel_rfl) (by kernel_rfl) rfl (by kernel_rfl) ?_ ?_
  · intro C
    refine ASteps.cons ?_ (ASteps.cons ?_ (ASteps.cons ?_ (ASteps.cons ?_ (ASteps.nil))))
    · exact step_box rfl rfl (want_none rfl) rfl (no_fill (by kernel_rfl)) (opn_old C 0 (by kernel_rfl) rfl) (boxes_P (cok2 (nl_tx ax) (nl_tx az)))
    · exact step_box rfl rfl (want_none rfl) rfl (no_fill (by kernel_rfl)) (opn_old C 1 (by kernel_rfl) rfl) (boxes_P (cok2 (nl_tx bx) (nl_tx bz)))
    · exact step_box rfl rfl (want_none rfl) rfl (no_fill (by kernel_rfl)) (opn_old C 2 (by kernel_rfl) rfl) (boxes_P (cok2 (nl_tx px) (nl_tx pz)))
    · exact step_assign rfl rfl (want_none rfl) rfl (opn_const _)
  intro γ a1 w1 S1
  replace S1 : AS w 62 [(6, Bo false), (5, Jus (.pointer (some ⟨γ 2, 0, none⟩))), (4, Jus (.pointer (some ⟨γ 1, 0, none⟩))), (3, Jus (.pointer (some ⟨γ 0, 0, none⟩)))] [(γ 0, 24, Agg [Tx ax, Tx az]), (γ 1, 24, Agg [Tx bx, Tx bz]), (γ 2, 24, Agg [Tx px, Tx pz])] a1 w1 := cast (by kernel_rfl) (S1.keep [3, 4, 5, 6])
  generalize γ 0 = G1_0 at S1
  generalize γ 1 = G1_1 at S1
  generalize γ 2 = G1_2 at S1
  clear S0
  refine then_normal ?_
  refine wp_seq ?_
  obtain ⟨z1, ez1⟩ : ∃ q : Rat, q = (rax - rpx) * (rbx - rpx) - -(raz - rpz) * (rbz - rpz) := ⟨_, rfl⟩
  have fz1 : QS 33554477 z1 := by rw [ez1]; exact QS.mono (((tax.qs.sub tpx.qs).mul (tbx.qs.sub tpx.qs)).sub ((taz.qs.sub tpz.qs).neg.mul (tbz.qs.sub tpz.qs))) (by first | decide | omega)
  obtain ⟨z2, ez2⟩ : ∃ q : Rat, q = (rax - rpx) * (rbz - rpz) + -(raz - rpz) * (rbx - rpx) := ⟨_, rfl⟩
  have fz2 : QS 33554477 z2 := by rw [ez2]; exact QS.mono (((tax.qs.sub tpx.qs).mul (tbz.qs.sub tpz.qs)).add ((taz.qs.sub tpz.qs).neg.mul (tbx.qs.sub tpx.qs))) (by first | decide | omega)
  by_cases h3 : (rax - rpx) = 0 ∧ (raz - rpz) = 0
  ·
    refine region_abs [.pure (Agg [Tx ax, Tx az]), .pure (Agg [Tx bx, Tx bz]), .pure (Agg [Tx px, Tx pz]), .pure (Tup [Agg [Tx ⟨#[]⟩, Tx ⟨#[]⟩], In (5)]), .pure (Tup [Agg [Tx ⟨#[]⟩, Tx ⟨#[]⟩], In (5)]), .pure (Agg [Tx ⟨#[]⟩, Tx ⟨#[]⟩]), .pure (In (5)), .alloc 67 (Agg [Tx ⟨#[]⟩, Tx ⟨#[]⟩]), .fill 7 (Agg [Tx ⟨#[]⟩, Tx ⟨#[]⟩]), .pure (In (5))] ⟨S1, by decide +kernel⟩ (by kernel_rfl) (by kernel_rfl) rfl (by kernel_rfl) ?_ ?_
    · intro C
      refine ASteps.cons ?_ (ASteps.cons ?_ (ASteps.cons ?_ (ASteps.cons ?_ (ASteps.cons ?_ (ASteps.cons ?_ (ASteps.cons ?_ (ASteps.cons ?_ (ASteps.cons ?_ (ASteps.cons ?_ (ASteps.nil))))))))))
      · exact step_load (k := 0) rfl rfl rfl (want_none rfl) rfl (opn_old C 3 (by kernel_rfl) rfl) (no_over (by kernel_rfl)) loads_P
      · exact step_load (k := 1) rfl rfl rfl (want_none rfl) rfl (opn_old C 2 (by kernel_rfl) rfl) (no_over (by kernel_rfl)) loads_P
      · exact step_load (k := 2) rfl rfl rfl (want_none rfl) rfl (opn_old C 1 (by kernel_rfl) rfl) (no_over (by kernel_rfl)) loads_P
      · exact step_call HPRE rfl rfl (want_none rfl) rfl en_angle_Seen (Opns.cons (opn_new C 0 0 rfl rfl rfl rfl rfl rfl) (Opns.cons (opn_new C 1 1 rfl rfl rfl rfl rfl rfl) (Opns.cons (opn_new C 2 2 rfl rfl rfl rfl rfl rfl) Opns.nil))) (con_seen_flat tax taz tbx tbz tpx tpz ez1 ez2 (by first | decide | omega) (by first | decide | omega) (Or.inl h3))
      · exact step_move rfl rfl (want_none rfl) rfl (opn_new C 3 0 rfl rfl rfl rfl rfl rfl)
      · exact step_extract (k := 0) rfl rfl (want_none rfl) rfl (opn_new C 4 0 rfl rfl rfl rfl rfl rfl) rfl
      · exact step_extract (k := 1) rfl rfl (want_none rfl) rfl (opn_new C 4 0 rfl rfl rfl rfl rfl rfl) rfl
      · exact step_new [.string ⟨#[]⟩, .string ⟨#[]⟩] zero_T rfl rfl (want_none rfl) rfl (fill_waits (s0 := 8) (k := 0) (by kernel_rfl) rfl rfl rfl rfl) allocs_T (by simp [notLimb]) (by kernel_rfl)
      · exact step_fill C (a := 7) (k := 0) rfl rfl rfl rfl (want_none rfl) rfl rfl rfl rfl rfl (by decide) (one_fill (by kernel_rfl)) (opn_new C 5 1 rfl rfl rfl rfl rfl rfl) (stores_T (cok2 (nl_tx ⟨#[]⟩) (nl_tx ⟨#[]⟩)))
      · exact step_assign rfl rfl (want_none rfl) rfl (opn_new C 6 0 rfl rfl rfl rfl rfl rfl)
    intro γ a2 w2 S2
    replace S2 : AS w 62 [(8, In (5)), (7, Jus (.pointer (some ⟨γ 7, 0, none⟩))), (6, Bo false), (5, Jus (.pointer (some ⟨G1_2, 0, none⟩))), (4, Jus (.pointer (some ⟨G1_1, 0, none⟩))), (3, Jus (.pointer (some ⟨G1_0, 0, none⟩)))] [(G1_0, 24, Agg [Tx ax, Tx az]), (G1_1, 24, Agg [Tx bx, Tx bz]), (G1_2, 24, Agg [Tx px, Tx pz]), (γ 7, 67, Agg [Tx ⟨#[]⟩, Tx ⟨#[]⟩])] a2 w2 := cast (by kernel_rfl) (S2.keep [3, 4, 5, 6, 7, 8])
    generalize γ 7 = G2_7 at S2
    clear S1
    refine then_normal ?_
    refine wp_seq ?_
    refine region_abs [.pure (Agg [Tx ax, Tx az]), .pure (Agg [Rt rax, Rt raz]), .pure (Agg [Tx bx, Tx bz]), .pure (Agg [Rt rbx, Rt rbz]), .pure (Agg [Tx px, Tx pz]), .pure (Agg [Rt rpx, Rt rpz]), .alloc 43 (Agg [Jus (.pointer none), Jus (.pointer none)]), .alloc 43 (Agg [Jus (.pointer none), Jus (.pointer none)]), .alloc 43 (Agg [Jus (.pointer none), Jus (.pointer none)]), .fill 6 (Agg [Rt rax, Rt raz]), .fill 7 (Agg [Rt rbx, Rt rbz]), .fill 8 (Agg [Rt rpx, Rt rpz])] ⟨S2, by decide +kernel⟩ (by kernel_rfl) (by kernel_rfl) rfl (by kernel_rfl) ?_ ?_
    · intro C
      refine ASteps.cons ?_ (ASteps.cons ?_ (ASteps.cons ?_ (ASteps.cons ?_ (ASteps.cons ?_ (ASteps.cons ?_ (ASteps.cons ?_ (ASteps.cons ?_ (ASteps.cons ?_ (ASteps.cons ?_ (ASteps.cons ?_ (ASteps.cons ?_ (ASteps.nil))))))))))))
      · exact step_load (k := 0) rfl rfl rfl (want_none rfl) rfl (opn_old C 5 (by kernel_rfl) rfl) (no_over (by kernel_rfl)) loads_P
      · exact step_call HPRE rfl rfl (want_none rfl) rfl en_compassref_P (Opns.cons (opn_new C 0 0 rfl rfl rfl rfl rfl rfl) Opns.nil) (con_P tax taz (by first | decide | omega) (by first | decide | omega))
      · exact step_load (k := 1) rfl rfl rfl (want_none rfl) rfl (opn_old C 4 (by kernel_rfl) rfl) (no_over (by kernel_rfl)) loads_P
      · exact step_call HPRE rfl rfl (want_none rfl) rfl en_compassref_P (Opns.cons (opn_new C 2 0 rfl rfl rfl rfl rfl rfl) Opns.nil) (con_P tbx tbz (by first | decide | omega) (by first | decide | omega))
      · exact step_load (k := 2) rfl rfl rfl (want_none rfl) rfl (opn_old C 3 (by kernel_rfl) rfl) (no_over (by kernel_rfl)) loads_P
      · exact step_call HPRE rfl rfl (want_none rfl) rfl en_compassref_P (Opns.cons (opn_new C 4 0 rfl rfl rfl rfl rfl rfl) Opns.nil) (con_P tpx tpz (by first | decide | omega) (by first | decide | omega))
      · exact step_new [.pointer none, .pointer none] zero_V rfl rfl (want_none rfl) rfl (fill_waits (s0 := 9) (k := 0) (by kernel_rfl) rfl rfl rfl rfl) allocs_V (by simp [notLimb]) (by kernel_rfl)
      · exact step_new [.pointer none, .pointer none] zero_V rfl rfl (want_none rfl) rfl (fill_waits (s0 := 10) (k := 0) (by kernel_rfl) rfl rfl rfl rfl) allocs_V (by simp [notLimb]) (by kernel_rfl)
      · exact step_new [.pointer none, .pointer none] zero_V rfl rfl (want_none rfl) rfl (fill_waits (s0 := 11) (k := 0) (by kernel_rfl) rfl rfl rfl rfl) allocs_V (by simp [notLimb]) (by kernel_rfl)
      · exact step_fill C (a := 6) (k := 0) rfl rfl rfl rfl (want_none rfl) rfl rfl rfl rfl rfl (by decide) (one_fill (by kernel_rfl)) (opn_new C 1 1 rfl rfl rfl rfl rfl rfl) (stores_V (cok2 (nl_rt rax) (nl_rt raz)))
      · exact step_fill C (a := 7) (k := 0) rfl rfl rfl rfl (want_none rfl) rfl rfl rfl rfl rfl (by decide) (one_fill (by kernel_rfl)) (opn_new C 3 1 rfl rfl rfl rfl rfl rfl) (stores_V (cok2 (nl_rt rbx) (nl_rt rbz)))
      · exact step_fill C (a := 8) (k := 0) rfl rfl rfl rfl (want_none rfl) rfl rfl rfl rfl rfl (by decide) (one_fill (by kernel_rfl)) (opn_new C 5 1 rfl rfl rfl rfl rfl rfl) (stores_V (cok2 (nl_rt rpx) (nl_rt rpz)))
    intro γ a3 w3 S3
    replace S3 : AS w 62 [(11, Jus (.pointer (some ⟨γ 8, 0, none⟩))), (10, Jus (.pointer (some ⟨γ 7, 0, none⟩))), (9, Jus (.pointer (some ⟨γ 6, 0, none⟩))), (8, In (5)), (7, Jus (.pointer (some ⟨G2_7, 0, none⟩))), (6, Bo false)] [(G1_0, 24, Agg [Tx ax, Tx az]), (G1_1, 24, Agg [Tx bx, Tx bz]), (G1_2, 24, Agg [Tx px, Tx pz]), (G2_7, 67, Agg [Tx ⟨#[]⟩, Tx ⟨#[]⟩]), (γ 6, 43, Agg [Rt rax, Rt raz]), (γ 7, 43, Agg [Rt rbx, Rt rbz]), (γ 8, 43, Agg [Rt rpx, Rt rpz])] a3 w3 := cast (by kernel_rfl) (S3.keep [6, 7, 8, 9, 10, 11])
    generalize γ 6 = G3_6 at S3
    generalize γ 7 = G3_7 at S3
    generalize γ 8 = G3_8 at S3
    clear S2
    refine then_normal ?_
    refine wp_seq ?_
    refine wp_seq ?_
    have h4 : rax = rpx ∧ raz = rpz := by grind
    refine region_abs [.pure (Bo true), .pure (Bo false), .pure (Bo false), .pure (Agg [Rt rax, Rt raz]), .pure (Agg [Rt rpx, Rt rpz]), .pure (Bo true), .pure (Bo true), .pure (Bo true), .skip, .skip, .skip, .pure (Bo true)] ⟨S3, by decide +kernel⟩ (by kernel_rfl) (by kernel_rfl) rfl (by kernel_rfl) ?_ ?_
    · intro C
      refine ASteps.cons ?_ (ASteps.cons ?_ (ASteps.cons ?_ (ASteps.cons ?_ (ASteps.cons ?_ (ASteps.cons ?_ (ASteps.cons ?_ (ASteps.cons ?_ (ASteps.cons ?_ (ASteps.cons ?_ (ASteps.cons ?_ (ASteps.cons ?_ (ASteps.nil))))))))))))
      · exact step_call HPRE rfl rfl (want_none rfl) rfl en_compasslaw_angled Opns.nil (con_angled)
      · exact step_not true rfl rfl (want_none rfl) rfl (opn_new C 0 0 rfl rfl rfl rfl rfl rfl)
      · exact step_move rfl rfl (want_none rfl) rfl (opn_new C 1 0 rfl rfl rfl rfl rfl rfl)
      · exact step_load (k := 4) rfl rfl rfl (want_yes C 2 0 false rfl rfl rfl rfl rfl rfl rfl) rfl (opn_old C 2 (by kernel_rfl) rfl) (no_over (by kernel_rfl)) loads_V
      · exact step_load (k := 6) rfl rfl rfl (want_yes C 2 0 false rfl rfl rfl rfl rfl rfl rfl) rfl (opn_old C 0 (by kernel_rfl) rfl) (no_over (by kernel_rfl)) loads_V
      · exact step_call HPRE rfl rfl (want_yes C 2 2 false rfl rfl rfl rfl rfl rfl rfl) rfl en_compassref_V_Same (Opns.cons (opn_new C 3 0 rfl rfl rfl rfl rfl rfl) (Opns.cons (opn_new C 4 1 rfl rfl rfl rfl rfl rfl) Opns.nil)) (con_Same_t tax.qs taz.qs tpx.qs tpz.qs (by first | decide | omega) h4)
      · exact step_pick false rfl rfl (want_none rfl) rfl (opn_new C 2 0 rfl rfl rfl rfl rfl rfl) (opn_new C 5 1 rfl rfl rfl rfl rfl rfl)
      · exact step_move rfl rfl (want_none rfl) rfl (opn_new C 6 0 rfl rfl rfl rfl rfl rfl)
      · exact step_skip rfl rfl (want_no C 7 0 false true rfl rfl rfl rfl rfl rfl rfl rfl)
      · exact step_skip rfl rfl (want_no C 7 0 false true rfl rfl rfl rfl rfl rfl rfl rfl)
      · exact step_skip rfl rfl (want_no C 7 2 false true rfl rfl rfl rfl rfl rfl rfl rfl)
      · exact step_pick true rfl rfl (want_none rfl) rfl (opn_new C 7 0 rfl rfl rfl rfl rfl rfl) (opn_const _)
    intro γ a4 w4 S4
    replace S4 : AS w 62 [(36, Bo true), (11, Jus (.pointer (some ⟨G3_8, 0, none⟩))), (10, Jus (.pointer (some ⟨G3_7, 0, none⟩))), (9, Jus (.pointer (some ⟨G3_6, 0, none⟩))), (8, In (5)), (7, Jus (.pointer (some ⟨G2_7, 0, none⟩))), (6, Bo false)] [(G1_0, 24, Agg [Tx ax, Tx az]), (G1_1, 24, Agg [Tx bx, Tx bz]), (G1_2, 24, Agg [Tx px, Tx pz]), (G2_7, 67, Agg [Tx ⟨#[]⟩, Tx ⟨#[]⟩]), (G3_6, 43, Agg [Rt rax, Rt raz]), (G3_7, 43, Agg [Rt rbx, Rt rbz]), (G3_8, 43, Agg [Rt rpx, Rt rpz])] a4 w4 := cast (by kernel_rfl) (S4.keep [6, 7, 8, 9, 10, 11, 36])
    clear S3
    refine then_normal ?_
    refine wp_cond_true (S4.val 0 rfl) ?_
    refine wp_seq ?_
    refine region_abs [.pure (Bo true), .pure (Bo true), .pure (In (5)), .pure (Bo true), .pure (Bo true), .pure (Bo true), .pure (Agg [Tx ⟨#[]⟩, Tx ⟨#[]⟩]), .pure (Bo true), .pure (Bo true), .pure (Bo true)] ⟨S4, by decide +kernel⟩ (by kernel_rfl) (by kernel_rfl) rfl (by kernel_rfl) ?_ ?_
    · intro C
      refine ASteps.cons ?_ (ASteps.cons ?_ (ASteps.cons ?_ (ASteps.cons ?_ (ASteps.cons ?_ (ASteps.cons ?_ (ASteps.cons ?_ (ASteps.cons ?_ (ASteps.cons ?_ (ASteps.cons ?_ (ASteps.nil))))))))))
      · exact step_call HPRE rfl rfl (want_none rfl) rfl en_compasslaw_angled Opns.nil (con_angled)
      · exact step_move rfl rfl (want_none rfl) rfl (opn_new C 0 0 rfl rfl rfl rfl rfl rfl)
      · exact step_move rfl rfl (want_yes C 1 0 true rfl rfl rfl rfl rfl rfl rfl) rfl (opn_old C 4 (by kernel_rfl) rfl)
      · exact step_bin rfl rfl (want_yes C 1 1 true rfl rfl rfl rfl rfl rfl rfl) rfl (opn_new C 2 0 rfl rfl rfl rfl rfl rfl) (opn_const _) (run_eql_int _ _ _ _ _ _ rfl)
      · exact step_pick true rfl rfl (want_none rfl) rfl (opn_new C 1 0 rfl rfl rfl rfl rfl rfl) (opn_new C 3 1 rfl rfl rfl rfl rfl rfl)
      · exact step_move rfl rfl (want_none rfl) rfl (opn_new C 4 0 rfl rfl rfl rfl rfl rfl)
      · exact step_load (k := 3) rfl rfl rfl (want_yes C 5 0 true rfl rfl rfl rfl rfl rfl rfl) rfl (opn_old C 5 (by kernel_rfl) rfl) (no_over (by kernel_rfl)) loads_T
      · exact step_call HPRE rfl rfl (want_yes C 5 1 true rfl rfl rfl rfl rfl rfl rfl) rfl en_compasslaw_noT (Opns.cons (opn_new C 6 0 rfl rfl rfl rfl rfl rfl) Opns.nil) (con_noT)
      · exact step_pick true rfl rfl (want_none rfl) rfl (opn_new C 5 0 rfl rfl rfl rfl rfl rfl) (opn_new C 7 1 rfl rfl rfl rfl rfl rfl)
      · exact step_assign rfl rfl (want_none rfl) rfl (opn_new C 8 0 rfl rfl rfl rfl rfl rfl)
    intro γ a5 w5 S5
    replace S5 : AS w 62 [(6, Bo true), (11, Jus (.pointer (some ⟨G3_8, 0, none⟩))), (10, Jus (.pointer (some ⟨G3_7, 0, none⟩))), (9, Jus (.pointer (some ⟨G3_6, 0, none⟩))), (8, In (5)), (7, Jus (.pointer (some ⟨G2_7, 0, none⟩)))] [(G1_0, 24, Agg [Tx ax, Tx az]), (G1_1, 24, Agg [Tx bx, Tx bz]), (G1_2, 24, Agg [Tx px, Tx pz]), (G2_7, 67, Agg [Tx ⟨#[]⟩, Tx ⟨#[]⟩]), (G3_6, 43, Agg [Rt rax, Rt raz]), (G3_7, 43, Agg [Rt rbx, Rt rbz]), (G3_8, 43, Agg [Rt rpx, Rt rpz])] a5 w5 := cast (by kernel_rfl) (S5.keep [6, 7, 8, 9, 10, 11])
    clear S4
    refine then_normal ?_
    refine wp_ret ?_
    refine then_ret ?_
    exact S5.ret 0 rfl rfl fun v hv => ⟨S5.bel, v, rfl, hv⟩
  ·
    by_cases h5 : (rbx - rpx) = 0 ∧ (rbz - rpz) = 0
    ·
      refine region_abs [.pure (Agg [Tx ax, Tx az]), .pure (Agg [Tx bx, Tx bz]), .pure (Agg [Tx px, Tx pz]), .pure (Tup [Agg [Tx ⟨#[]⟩, Tx ⟨#[]⟩], In (5)]), .pure (Tup [Agg [Tx ⟨#[]⟩, Tx ⟨#[]⟩], In (5)]), .pure (Agg [Tx ⟨#[]⟩, Tx ⟨#[]⟩]), .pure (In (5)), .alloc 67 (Agg [Tx ⟨#[]⟩, Tx ⟨#[]⟩]), .fill 7 (Agg [Tx ⟨#[]⟩, Tx ⟨#[]⟩]), .pure (In (5))] ⟨S1, by decide +kernel⟩ (by kernel_rfl) (by kernel_rfl) rfl (by kernel_rfl) ?_ ?_
      · intro C
        refine ASteps.cons ?_ (ASteps.cons ?_ (ASteps.cons ?_ (ASteps.cons ?_ (ASteps.cons ?_ (ASteps.cons ?_ (ASteps.cons ?_ (ASteps.cons ?_ (ASteps.cons ?_ (ASteps.cons ?_ (ASteps.nil))))))))))
        · exact step_load (k := 0) rfl rfl rfl (want_none rfl) rfl (opn_old C 3 (by kernel_rfl) rfl) (no_over (by kernel_rfl)) loads_P
        · exact step_load (k := 1) rfl rfl rfl (want_none rfl) rfl (opn_old C 2 (by kernel_rfl) rfl) (no_over (by kernel_rfl)) loads_P
        · exact step_load (k := 2) rfl rfl rfl (want_none rfl) rfl (opn_old C 1 (by kernel_rfl) rfl) (no_over (by kernel_rfl)) loads_P
        · exact step_call HPRE rfl rfl (want_none rfl) rfl en_angle_Seen (Opns.cons (opn_new C 0 0 rfl rfl rfl rfl rfl rfl) (Opns.cons (opn_new C 1 1 rfl rfl rfl rfl rfl rfl) (Opns.cons (opn_new C 2 2 rfl rfl rfl rfl rfl rfl) Opns.nil))) (con_seen_flat tax taz tbx tbz tpx tpz ez1 ez2 (by first | decide | omega) (by first | decide | omega) (Or.inr h5))
        · exact step_move rfl rfl (want_none rfl) rfl (opn_new C 3 0 rfl rfl rfl rfl rfl rfl)
        · exact step_extract (k := 0) rfl rfl (want_none rfl) rfl (opn_new C 4 0 rfl rfl rfl rfl rfl rfl) rfl
        · exact step_extract (k := 1) rfl rfl (want_none rfl) rfl (opn_new C 4 0 rfl rfl rfl rfl rfl rfl) rfl
        · exact step_new [.string ⟨#[]⟩, .string ⟨#[]⟩] zero_T rfl rfl (want_none rfl) rfl (fill_waits (s0 := 8) (k := 0) (by kernel_rfl) rfl rfl rfl rfl) allocs_T (by simp [notLimb]) (by kernel_rfl)
        · exact step_fill C (a := 7) (k := 0) rfl rfl rfl rfl (want_none rfl) rfl rfl rfl rfl rfl (by decide) (one_fill (by kernel_rfl)) (opn_new C 5 1 rfl rfl rfl rfl rfl rfl) (stores_T (cok2 (nl_tx ⟨#[]⟩) (nl_tx ⟨#[]⟩)))
        · exact step_assign rfl rfl (want_none rfl) rfl (opn_new C 6 0 rfl rfl rfl rfl rfl rfl)
      intro γ a6 w6 S6
      replace S6 : AS w 62 [(8, In (5)), (7, Jus (.pointer (some ⟨γ 7, 0, none⟩))), (6, Bo false), (5, Jus (.pointer (some ⟨G1_2, 0, none⟩))), (4, Jus (.pointer (some ⟨G1_1, 0, none⟩))), (3, Jus (.pointer (some ⟨G1_0, 0, none⟩)))] [(G1_0, 24, Agg [Tx ax, Tx az]), (G1_1, 24, Agg [Tx bx, Tx bz]), (G1_2, 24, Agg [Tx px, Tx pz]), (γ 7, 67, Agg [Tx ⟨#[]⟩, Tx ⟨#[]⟩])] a6 w6 := cast (by kernel_rfl) (S6.keep [3, 4, 5, 6, 7, 8])
      generalize γ 7 = G6_7 at S6
      clear S1
      refine then_normal ?_
      refine wp_seq ?_
      refine region_abs [.pure (Agg [Tx ax, Tx az]), .pure (Agg [Rt rax, Rt raz]), .pure (Agg [Tx bx, Tx bz]), .pure (Agg [Rt rbx, Rt rbz]), .pure (Agg [Tx px, Tx pz]), .pure (Agg [Rt rpx, Rt rpz]), .alloc 43 (Agg [Jus (.pointer none), Jus (.pointer none)]), .alloc 43 (Agg [Jus (.pointer none), Jus (.pointer none)]), .alloc 43 (Agg [Jus (.pointer none), Jus (.pointer none)]), .fill 6 (Agg [Rt rax, Rt raz]), .fill 7 (Agg [Rt rbx, Rt rbz]), .fill 8 (Agg [Rt rpx, Rt rpz])] ⟨S6, by decide +kernel⟩ (by kernel_rfl) (by kernel_rfl) rfl (by kernel_rfl) ?_ ?_
      · intro C
        refine ASteps.cons ?_ (ASteps.cons ?_ (ASteps.cons ?_ (ASteps.cons ?_ (ASteps.cons ?_ (ASteps.cons ?_ (ASteps.cons ?_ (ASteps.cons ?_ (ASteps.cons ?_ (ASteps.cons ?_ (ASteps.cons ?_ (ASteps.cons ?_ (ASteps.nil))))))))))))
        · exact step_load (k := 0) rfl rfl rfl (want_none rfl) rfl (opn_old C 5 (by kernel_rfl) rfl) (no_over (by kernel_rfl)) loads_P
        · exact step_call HPRE rfl rfl (want_none rfl) rfl en_compassref_P (Opns.cons (opn_new C 0 0 rfl rfl rfl rfl rfl rfl) Opns.nil) (con_P tax taz (by first | decide | omega) (by first | decide | omega))
        · exact step_load (k := 1) rfl rfl rfl (want_none rfl) rfl (opn_old C 4 (by kernel_rfl) rfl) (no_over (by kernel_rfl)) loads_P
        · exact step_call HPRE rfl rfl (want_none rfl) rfl en_compassref_P (Opns.cons (opn_new C 2 0 rfl rfl rfl rfl rfl rfl) Opns.nil) (con_P tbx tbz (by first | decide | omega) (by first | decide | omega))
        · exact step_load (k := 2) rfl rfl rfl (want_none rfl) rfl (opn_old C 3 (by kernel_rfl) rfl) (no_over (by kernel_rfl)) loads_P
        · exact step_call HPRE rfl rfl (want_none rfl) rfl en_compassref_P (Opns.cons (opn_new C 4 0 rfl rfl rfl rfl rfl rfl) Opns.nil) (con_P tpx tpz (by first | decide | omega) (by first | decide | omega))
        · exact step_new [.pointer none, .pointer none] zero_V rfl rfl (want_none rfl) rfl (fill_waits (s0 := 9) (k := 0) (by kernel_rfl) rfl rfl rfl rfl) allocs_V (by simp [notLimb]) (by kernel_rfl)
        · exact step_new [.pointer none, .pointer none] zero_V rfl rfl (want_none rfl) rfl (fill_waits (s0 := 10) (k := 0) (by kernel_rfl) rfl rfl rfl rfl) allocs_V (by simp [notLimb]) (by kernel_rfl)
        · exact step_new [.pointer none, .pointer none] zero_V rfl rfl (want_none rfl) rfl (fill_waits (s0 := 11) (k := 0) (by kernel_rfl) rfl rfl rfl rfl) allocs_V (by simp [notLimb]) (by kernel_rfl)
        · exact step_fill C (a := 6) (k := 0) rfl rfl rfl rfl (want_none rfl) rfl rfl rfl rfl rfl (by decide) (one_fill (by kernel_rfl)) (opn_new C 1 1 rfl rfl rfl rfl rfl rfl) (stores_V (cok2 (nl_rt rax) (nl_rt raz)))
        · exact step_fill C (a := 7) (k := 0) rfl rfl rfl rfl (want_none rfl) rfl rfl rfl rfl rfl (by decide) (one_fill (by kernel_rfl)) (opn_new C 3 1 rfl rfl rfl rfl rfl rfl) (stores_V (cok2 (nl_rt rbx) (nl_rt rbz)))
        · exact step_fill C (a := 8) (k := 0) rfl rfl rfl rfl (want_none rfl) rfl rfl rfl rfl rfl (by decide) (one_fill (by kernel_rfl)) (opn_new C 5 1 rfl rfl rfl rfl rfl rfl) (stores_V (cok2 (nl_rt rpx) (nl_rt rpz)))
      intro γ a7 w7 S7
      replace S7 : AS w 62 [(11, Jus (.pointer (some ⟨γ 8, 0, none⟩))), (10, Jus (.pointer (some ⟨γ 7, 0, none⟩))), (9, Jus (.pointer (some ⟨γ 6, 0, none⟩))), (8, In (5)), (7, Jus (.pointer (some ⟨G6_7, 0, none⟩))), (6, Bo false)] [(G1_0, 24, Agg [Tx ax, Tx az]), (G1_1, 24, Agg [Tx bx, Tx bz]), (G1_2, 24, Agg [Tx px, Tx pz]), (G6_7, 67, Agg [Tx ⟨#[]⟩, Tx ⟨#[]⟩]), (γ 6, 43, Agg [Rt rax, Rt raz]), (γ 7, 43, Agg [Rt rbx, Rt rbz]), (γ 8, 43, Agg [Rt rpx, Rt rpz])] a7 w7 := cast (by kernel_rfl) (S7.keep [6, 7, 8, 9, 10, 11])
      generalize γ 6 = G7_6 at S7
      generalize γ 7 = G7_7 at S7
      generalize γ 8 = G7_8 at S7
      clear S6
      refine then_normal ?_
      refine wp_seq ?_
      refine wp_seq ?_
      have h6 : ¬ (rax = rpx ∧ raz = rpz) := by grind
      have h7 : rbx = rpx ∧ rbz = rpz := by grind
      refine region_abs [.pure (Bo true), .pure (Bo false), .pure (Bo false), .pure (Agg [Rt rax, Rt raz]), .pure (Agg [Rt rpx, Rt rpz]), .pure (Bo false), .pure (Bo false), .pure (Bo false), .pure (Agg [Rt rbx, Rt rbz]), .pure (Agg [Rt rpx, Rt rpz]), .pure (Bo true), .pure (Bo true)] ⟨S7, by decide +kernel⟩ (by kernel_rfl) (by kernel_rfl) rfl (by kernel_rfl) ?_ ?_
      · intro C
        refine ASteps.cons ?_ (ASteps.cons ?_ (ASteps.cons ?_ (ASteps.cons ?_ (ASteps.cons ?_ (ASteps.cons ?_ (ASteps.cons ?_ (ASteps.cons ?_ (ASteps.cons ?_ (ASteps.cons ?_ (ASteps.cons ?_ (ASteps.cons ?_ (ASteps.nil))))))))))))
        · exact step_call HPRE rfl rfl (want_none rfl) rfl en_compasslaw_angled Opns.nil (con_angled)
        · exact step_not true rfl rfl (want_none rfl) rfl (opn_new C 0 0 rfl rfl rfl rfl rfl rfl)
        · exact step_move rfl rfl (want_none rfl) rfl (opn_new C 1 0 rfl rfl rfl rfl rfl rfl)
        · exact step_load (k := 4) rfl rfl rfl (want_yes C 2 0 false rfl rfl rfl rfl rfl rfl rfl) rfl (opn_old C 2 (by kernel_rfl) rfl) (no_over (by kernel_rfl)) loads_V
        · exact step_load (k := 6) rfl rfl rfl (want_yes C 2 0 false rfl rfl rfl rfl rfl rfl rfl) rfl (opn_old C 0 (by kernel_rfl) rfl) (no_over (by kernel_rfl)) loads_V
        · exact step_call HPRE rfl rfl (want_yes C 2 2 false rfl rfl rfl rfl rfl rfl rfl) rfl en_compassref_V_Same (Opns.cons (opn_new C 3 0 rfl rfl rfl rfl rfl rfl) (Opns.cons (opn_new C 4 1 rfl rfl rfl rfl rfl rfl) Opns.nil)) (con_Same_f tax.qs taz.qs tpx.qs tpz.qs (by first | decide | omega) h6)
        · exact step_pick false rfl rfl (want_none rfl) rfl (opn_new C 2 0 rfl rfl rfl rfl rfl rfl) (opn_new C 5 1 rfl rfl rfl rfl rfl rfl)
        · exact step_move rfl rfl (want_none rfl) rfl (opn_new C 6 0 rfl rfl rfl rfl rfl rfl)
        · exact step_load (k := 5) rfl rfl rfl (want_yes C 7 0 false rfl rfl rfl rfl rfl rfl rfl) rfl (opn_old C 1 (by kernel_rfl) rfl) (no_over (by kernel_rfl)) loads_V
        · exact step_load (k := 6) rfl rfl rfl (want_yes C 7 0 false rfl rfl rfl rfl rfl rfl rfl) rfl (opn_old C 0 (by kernel_rfl) rfl) (no_over (by kernel_rfl)) loads_V
        · exact step_call HPRE rfl rfl (want_yes C 7 2 false rfl rfl rfl rfl rfl rfl rfl) rfl en_compassref_V_Same (Opns.cons (opn_new C 8 0 rfl rfl rfl rfl rfl rfl) (Opns.cons (opn_new C 9 1 rfl rfl rfl rfl rfl rfl) Opns.nil)) (con_Same_t tbx.qs tbz.qs tpx.qs tpz.qs (by first | decide | omega) h7)
        · exact step_pick false rfl rfl (want_none rfl) rfl (opn_new C 7 0 rfl rfl rfl rfl rfl rfl) (opn_new C 10 1 rfl rfl rfl rfl rfl rfl)
      intro γ a8 w8 S8
      replace S8 : AS w 62 [(36, Bo true), (11, Jus (.pointer (some ⟨G7_8, 0, none⟩))), (10, Jus (.pointer (some ⟨G7_7, 0, none⟩))), (9, Jus (.pointer (some ⟨G7_6, 0, none⟩))), (8, In (5)), (7, Jus (.pointer (some ⟨G6_7, 0, none⟩))), (6, Bo false)] [(G1_0, 24, Agg [Tx ax, Tx az]), (G1_1, 24, Agg [Tx bx, Tx bz]), (G1_2, 24, Agg [Tx px, Tx pz]), (G6_7, 67, Agg [Tx ⟨#[]⟩, Tx ⟨#[]⟩]), (G7_6, 43, Agg [Rt rax, Rt raz]), (G7_7, 43, Agg [Rt rbx, Rt rbz]), (G7_8, 43, Agg [Rt rpx, Rt rpz])] a8 w8 := cast (by kernel_rfl) (S8.keep [6, 7, 8, 9, 10, 11, 36])
      clear S7
      refine then_normal ?_
      refine wp_cond_true (S8.val 0 rfl) ?_
      refine wp_seq ?_
      refine region_abs [.pure (Bo true), .pure (Bo true), .pure (In (5)), .pure (Bo true), .pure (Bo true), .pure (Bo true), .pure (Agg [Tx ⟨#[]⟩, Tx ⟨#[]⟩]), .pure (Bo true), .pure (Bo true), .pure (Bo true)] ⟨S8, by decide +kernel⟩ (by kernel_rfl) (by kernel_rfl) rfl (by kernel_rfl) ?_ ?_
      · intro C
        refine ASteps.cons ?_ (ASteps.cons ?_ (ASteps.cons ?_ (ASteps.cons ?_ (ASteps.cons ?_ (ASteps.cons ?_ (ASteps.cons ?_ (ASteps.cons ?_ (ASteps.cons ?_ (ASteps.cons ?_ (ASteps.nil))))))))))
        · exact step_call HPRE rfl rfl (want_none rfl) rfl en_compasslaw_angled Opns.nil (con_angled)
        · exact step_move rfl rfl (want_none rfl) rfl (opn_new C 0 0 rfl rfl rfl rfl rfl rfl)
        · exact step_move rfl rfl (want_yes C 1 0 true rfl rfl rfl rfl rfl rfl rfl) rfl (opn_old C 4 (by kernel_rfl) rfl)
        · exact step_bin rfl rfl (want_yes C 1 1 true rfl rfl rfl rfl rfl rfl rfl) rfl (opn_new C 2 0 rfl rfl rfl rfl rfl rfl) (opn_const _) (run_eql_int _ _ _ _ _ _ rfl)
        · exact step_pick true rfl rfl (want_none rfl) rfl (opn_new C 1 0 rfl rfl rfl rfl rfl rfl) (opn_new C 3 1 rfl rfl rfl rfl rfl rfl)
        · exact step_move rfl rfl (want_none rfl) rfl (opn_new C 4 0 rfl rfl rfl rfl rfl rfl)
        · exact step_load (k := 3) rfl rfl rfl (want_yes C 5 0 true rfl rfl rfl rfl rfl rfl rfl) rfl (opn_old C 5 (by kernel_rfl) rfl) (no_over (by kernel_rfl)) loads_T
        · exact step_call HPRE rfl rfl (want_yes C 5 1 true rfl rfl rfl rfl rfl rfl rfl) rfl en_compasslaw_noT (Opns.cons (opn_new C 6 0 rfl rfl rfl rfl rfl rfl) Opns.nil) (con_noT)
        · exact step_pick true rfl rfl (want_none rfl) rfl (opn_new C 5 0 rfl rfl rfl rfl rfl rfl) (opn_new C 7 1 rfl rfl rfl rfl rfl rfl)
        · exact step_assign rfl rfl (want_none rfl) rfl (opn_new C 8 0 rfl rfl rfl rfl rfl rfl)
      intro γ a9 w9 S9
      replace S9 : AS w 62 [(6, Bo true), (11, Jus (.pointer (some ⟨G7_8, 0, none⟩))), (10, Jus (.pointer (some ⟨G7_7, 0, none⟩))), (9, Jus (.pointer (some ⟨G7_6, 0, none⟩))), (8, In (5)), (7, Jus (.pointer (some ⟨G6_7, 0, none⟩)))] [(G1_0, 24, Agg [Tx ax, Tx az]), (G1_1, 24, Agg [Tx bx, Tx bz]), (G1_2, 24, Agg [Tx px, Tx pz]), (G6_7, 67, Agg [Tx ⟨#[]⟩, Tx ⟨#[]⟩]), (G7_6, 43, Agg [Rt rax, Rt raz]), (G7_7, 43, Agg [Rt rbx, Rt rbz]), (G7_8, 43, Agg [Rt rpx, Rt rpz])] a9 w9 := cast (by kernel_rfl) (S9.keep [6, 7, 8, 9, 10, 11])
      clear S8
      refine then_normal ?_
      refine wp_ret ?_
      refine then_ret ?_
      exact S9.ret 0 rfl rfl fun v hv => ⟨S9.bel, v, rfl, hv⟩
    ·
      obtain ⟨z8, ez8⟩ : ∃ q : Rat, q = z2 * fac [z1, z2] := ⟨_, rfl⟩
      have fz8 : QS 100663432 z8 := by rw [ez8]; exact QS.mono (QS.fac2 fz1 fz2 (by simp)) (by first | decide | omega)
      obtain ⟨z9, ez9⟩ : ∃ q : Rat, q = z1 * fac [z1, z2] := ⟨_, rfl⟩
      have fz9 : QS 100663432 z9 := by rw [ez9]; exact QS.mono (QS.fac2 fz1 fz2 (by simp)) (by first | decide | omega)
      have h10 : ¬ (z1 = 0 ∧ z2 = 0) := by rw [ez1, ez2]; exact conj_ne (fun e => e.elim h3 h5)
      obtain ⟨s11, es11⟩ : ∃ s : ByteArray, s.data.toList = tx z8 := ⟨⟨(tx z8).toArray⟩, by simp⟩
      have ts11 : TX 100663432 s11 z8 := TX.told es11 fz8
      obtain ⟨s12, es12⟩ : ∃ s : ByteArray, s.data.toList = tx z9 := ⟨⟨(tx z9).toArray⟩, by simp⟩
      have ts12 : TX 100663432 s12 z9 := TX.told es12 fz9
      refine region_abs [.pure (Agg [Tx ax, Tx az]), .pure (Agg [Tx bx, Tx bz]), .pure (Agg [Tx px, Tx pz]), .pure (Tup [Agg [Tx s11, Tx s12], In (0)]), .pure (Tup [Agg [Tx s11, Tx s12], In (0)]), .pure (Agg [Tx s11, Tx s12]), .pure (In (0)), .alloc 67 (Agg [Tx ⟨#[]⟩, Tx ⟨#[]⟩]), .fill 7 (Agg [Tx s11, Tx s12]), .pure (In (0))] ⟨S1, by decide +kernel⟩ (by kernel_rfl) (by kernel_rfl) rfl (by kernel_rfl) ?_ ?_
      · intro C
        refine ASteps.cons ?_ (ASteps.cons ?_ (ASteps.cons ?_ (ASteps.cons ?_ (ASteps.cons ?_ (ASteps.cons ?_ (ASteps.cons ?_ (ASteps.cons ?_ (ASteps.cons ?_ (ASteps.cons ?_ (ASteps.nil))))))))))
        · exact step_load (k := 0) rfl rfl rfl (want_none rfl) rfl (opn_old C 3 (by kernel_rfl) rfl) (no_over (by kernel_rfl)) loads_P
        · exact step_load (k := 1) rfl rfl rfl (want_none rfl) rfl (opn_old C 2 (by kernel_rfl) rfl) (no_over (by kernel_rfl)) loads_P
        · exact step_load (k := 2) rfl rfl rfl (want_none rfl) rfl (opn_old C 1 (by kernel_rfl) rfl) (no_over (by kernel_rfl)) loads_P
        · exact step_call HPRE rfl rfl (want_none rfl) rfl en_angle_Seen (Opns.cons (opn_new C 0 0 rfl rfl rfl rfl rfl rfl) (Opns.cons (opn_new C 1 1 rfl rfl rfl rfl rfl rfl) (Opns.cons (opn_new C 2 2 rfl rfl rfl rfl rfl rfl) Opns.nil))) (con_seen_ok tax taz tbx tbz tpx tpz ez1 ez2 (by first | decide | omega) (by first | decide | omega) (fun e => e.elim h3 h5) (es11.trans (by rw [ez8])) (es12.trans (by rw [ez9])))
        · exact step_move rfl rfl (want_none rfl) rfl (opn_new C 3 0 rfl rfl rfl rfl rfl rfl)
        · exact step_extract (k := 0) rfl rfl (want_none rfl) rfl (opn_new C 4 0 rfl rfl rfl rfl rfl rfl) rfl
        · exact step_extract (k := 1) rfl rfl (want_none rfl) rfl (opn_new C 4 0 rfl rfl rfl rfl rfl rfl) rfl
        · exact step_new [.string ⟨#[]⟩, .string ⟨#[]⟩] zero_T rfl rfl (want_none rfl) rfl (fill_waits (s0 := 8) (k := 0) (by kernel_rfl) rfl rfl rfl rfl) allocs_T (by simp [notLimb]) (by kernel_rfl)
        · exact step_fill C (a := 7) (k := 0) rfl rfl rfl rfl (want_none rfl) rfl rfl rfl rfl rfl (by decide) (one_fill (by kernel_rfl)) (opn_new C 5 1 rfl rfl rfl rfl rfl rfl) (stores_T (cok2 (nl_tx s11) (nl_tx s12)))
        · exact step_assign rfl rfl (want_none rfl) rfl (opn_new C 6 0 rfl rfl rfl rfl rfl rfl)
      intro γ a10 w10 S10
      replace S10 : AS w 62 [(8, In (0)), (7, Jus (.pointer (some ⟨γ 7, 0, none⟩))), (6, Bo false), (5, Jus (.pointer (some ⟨G1_2, 0, none⟩))), (4, Jus (.pointer (some ⟨G1_1, 0, none⟩))), (3, Jus (.pointer (some ⟨G1_0, 0, none⟩)))] [(G1_0, 24, Agg [Tx ax, Tx az]), (G1_1, 24, Agg [Tx bx, Tx bz]), (G1_2, 24, Agg [Tx px, Tx pz]), (γ 7, 67, Agg [Tx s11, Tx s12])] a10 w10 := cast (by kernel_rfl) (S10.keep [3, 4, 5, 6, 7, 8])
      generalize γ 7 = G10_7 at S10
      clear S1
      refine then_normal ?_
      refine wp_seq ?_
      refine region_abs [.pure (Agg [Tx ax, Tx az]), .pure (Agg [Rt rax, Rt raz]), .pure (Agg [Tx bx, Tx bz]), .pure (Agg [Rt rbx, Rt rbz]), .pure (Agg [Tx px, Tx pz]), .pure (Agg [Rt rpx, Rt rpz]), .alloc 43 (Agg [Jus (.pointer none), Jus (.pointer none)]), .alloc 43 (Agg [Jus (.pointer none), Jus (.pointer none)]), .alloc 43 (Agg [Jus (.pointer none), Jus (.pointer none)]), .fill 6 (Agg [Rt rax, Rt raz]), .fill 7 (Agg [Rt rbx, Rt rbz]), .fill 8 (Agg [Rt rpx, Rt rpz])] ⟨S10, by decide +kernel⟩ (by kernel_rfl) (by kernel_rfl) rfl (by kernel_rfl) ?_ ?_
      · intro C
        refine ASteps.cons ?_ (ASteps.cons ?_ (ASteps.cons ?_ (ASteps.cons ?_ (ASteps.cons ?_ (ASteps.cons ?_ (ASteps.cons ?_ (ASteps.cons ?_ (ASteps.cons ?_ (ASteps.cons ?_ (ASteps.cons ?_ (ASteps.cons ?_ (ASteps.nil))))))))))))
        · exact step_load (k := 0) rfl rfl rfl (want_none rfl) rfl (opn_old C 5 (by kernel_rfl) rfl) (no_over (by kernel_rfl)) loads_P
        · exact step_call HPRE rfl rfl (want_none rfl) rfl en_compassref_P (Opns.cons (opn_new C 0 0 rfl rfl rfl rfl rfl rfl) Opns.nil) (con_P tax taz (by first | decide | omega) (by first | decide | omega))
        · exact step_load (k := 1) rfl rfl rfl (want_none rfl) rfl (opn_old C 4 (by kernel_rfl) rfl) (no_over (by kernel_rfl)) loads_P
        · exact step_call HPRE rfl rfl (want_none rfl) rfl en_compassref_P (Opns.cons (opn_new C 2 0 rfl rfl rfl rfl rfl rfl) Opns.nil) (con_P tbx tbz (by first | decide | omega) (by first | decide | omega))
        · exact step_load (k := 2) rfl rfl rfl (want_none rfl) rfl (opn_old C 3 (by kernel_rfl) rfl) (no_over (by kernel_rfl)) loads_P
        · exact step_call HPRE rfl rfl (want_none rfl) rfl en_compassref_P (Opns.cons (opn_new C 4 0 rfl rfl rfl rfl rfl rfl) Opns.nil) (con_P tpx tpz (by first | decide | omega) (by first | decide | omega))
        · exact step_new [.pointer none, .pointer none] zero_V rfl rfl (want_none rfl) rfl (fill_waits (s0 := 9) (k := 0) (by kernel_rfl) rfl rfl rfl rfl) allocs_V (by simp [notLimb]) (by kernel_rfl)
        · exact step_new [.pointer none, .pointer none] zero_V rfl rfl (want_none rfl) rfl (fill_waits (s0 := 10) (k := 0) (by kernel_rfl) rfl rfl rfl rfl) allocs_V (by simp [notLimb]) (by kernel_rfl)
        · exact step_new [.pointer none, .pointer none] zero_V rfl rfl (want_none rfl) rfl (fill_waits (s0 := 11) (k := 0) (by kernel_rfl) rfl rfl rfl rfl) allocs_V (by simp [notLimb]) (by kernel_rfl)
        · exact step_fill C (a := 6) (k := 0) rfl rfl rfl rfl (want_none rfl) rfl rfl rfl rfl rfl (by decide) (one_fill (by kernel_rfl)) (opn_new C 1 1 rfl rfl rfl rfl rfl rfl) (stores_V (cok2 (nl_rt rax) (nl_rt raz)))
        · exact step_fill C (a := 7) (k := 0) rfl rfl rfl rfl (want_none rfl) rfl rfl rfl rfl rfl (by decide) (one_fill (by kernel_rfl)) (opn_new C 3 1 rfl rfl rfl rfl rfl rfl) (stores_V (cok2 (nl_rt rbx) (nl_rt rbz)))
        · exact step_fill C (a := 8) (k := 0) rfl rfl rfl rfl (want_none rfl) rfl rfl rfl rfl rfl (by decide) (one_fill (by kernel_rfl)) (opn_new C 5 1 rfl rfl rfl rfl rfl rfl) (stores_V (cok2 (nl_rt rpx) (nl_rt rpz)))
      intro γ a11 w11 S11
      replace S11 : AS w 62 [(11, Jus (.pointer (some ⟨γ 8, 0, none⟩))), (10, Jus (.pointer (some ⟨γ 7, 0, none⟩))), (9, Jus (.pointer (some ⟨γ 6, 0, none⟩))), (8, In (0)), (7, Jus (.pointer (some ⟨G10_7, 0, none⟩))), (6, Bo false)] [(G1_0, 24, Agg [Tx ax, Tx az]), (G1_1, 24, Agg [Tx bx, Tx bz]), (G1_2, 24, Agg [Tx px, Tx pz]), (G10_7, 67, Agg [Tx s11, Tx s12]), (γ 6, 43, Agg [Rt rax, Rt raz]), (γ 7, 43, Agg [Rt rbx, Rt rbz]), (γ 8, 43, Agg [Rt rpx, Rt rpz])] a11 w11 := cast (by kernel_rfl) (S11.keep [6, 7, 8, 9, 10, 11])
      generalize γ 6 = G11_6 at S11
      generalize γ 7 = G11_7 at S11
      generalize γ 8 = G11_8 at S11
      clear S10
      refine then_normal ?_
      refine wp_seq ?_
      refine wp_seq ?_
      have h13 : ¬ (rax = rpx ∧ raz = rpz) := by grind
      have h14 : ¬ (rbx = rpx ∧ rbz = rpz) := by grind
      refine region_abs [.pure (Bo true), .pure (Bo false), .pure (Bo false), .pure (Agg [Rt rax, Rt raz]), .pure (Agg [Rt rpx, Rt rpz]), .pure (Bo false), .pure (Bo false), .pure (Bo false), .pure (Agg [Rt rbx, Rt rbz]), .pure (Agg [Rt rpx, Rt rpz]), .pure (Bo false), .pure (Bo false)] ⟨S11, by decide +kernel⟩ (by kernel_rfl) (by kernel_rfl) rfl (by kernel_rfl) ?_ ?_
      · intro C
        refine ASteps.cons ?_ (ASteps.cons ?_ (ASteps.cons ?_ (ASteps.cons ?_ (ASteps.cons ?_ (ASteps.cons ?_ (ASteps.cons ?_ (ASteps.cons ?_ (ASteps.cons ?_ (ASteps.cons ?_ (ASteps.cons ?_ (ASteps.cons ?_ (ASteps.nil))))))))))))
        · exact step_call HPRE rfl rfl (want_none rfl) rfl en_compasslaw_angled Opns.nil (con_angled)
        · exact step_not true rfl rfl (want_none rfl) rfl (opn_new C 0 0 rfl rfl rfl rfl rfl rfl)
        · exact step_move rfl rfl (want_none rfl) rfl (opn_new C 1 0 rfl rfl rfl rfl rfl rfl)
        · exact step_load (k := 4) rfl rfl rfl (want_yes C 2 0 false rfl rfl rfl rfl rfl rfl rfl) rfl (opn_old C 2 (by kernel_rfl) rfl) (no_over (by kernel_rfl)) loads_V
        · exact step_load (k := 6) rfl rfl rfl (want_yes C 2 0 false rfl rfl rfl rfl rfl rfl rfl) rfl (opn_old C 0 (by kernel_rfl) rfl) (no_over (by kernel_rfl)) loads_V
        · exact step_call HPRE rfl rfl (want_yes C 2 2 false rfl rfl rfl rfl rfl rfl rfl) rfl en_compassref_V_Same (Opns.cons (opn_new C 3 0 rfl rfl rfl rfl rfl rfl) (Opns.cons (opn_new C 4 1 rfl rfl rfl rfl rfl rfl) Opns.nil)) (con_Same_f tax.qs taz.qs tpx.qs tpz.qs (by first | decide | omega) h13)
        · exact step_pick false rfl rfl (want_none rfl) rfl (opn_new C 2 0 rfl rfl rfl rfl rfl rfl) (opn_new C 5 1 rfl rfl rfl rfl rfl rfl)
        · exact step_move rfl rfl (want_none rfl) rfl (opn_new C 6 0 rfl rfl rfl rfl rfl rfl)
        · exact step_load (k := 5) rfl rfl rfl (want_yes C 7 0 false rfl rfl rfl rfl rfl rfl rfl) rfl (opn_old C 1 (by kernel_rfl) rfl) (no_over (by kernel_rfl)) loads_V
        · exact step_load (k := 6) rfl rfl rfl (want_yes C 7 0 false rfl rfl rfl rfl rfl rfl rfl) rfl (opn_old C 0 (by kernel_rfl) rfl) (no_over (by kernel_rfl)) loads_V
        · exact step_call HPRE rfl rfl (want_yes C 7 2 false rfl rfl rfl rfl rfl rfl rfl) rfl en_compassref_V_Same (Opns.cons (opn_new C 8 0 rfl rfl rfl rfl rfl rfl) (Opns.cons (opn_new C 9 1 rfl rfl rfl rfl rfl rfl) Opns.nil)) (con_Same_f tbx.qs tbz.qs tpx.qs tpz.qs (by first | decide | omega) h14)
        · exact step_pick false rfl rfl (want_none rfl) rfl (opn_new C 7 0 rfl rfl rfl rfl rfl rfl) (opn_new C 10 1 rfl rfl rfl rfl rfl rfl)
      intro γ a12 w12 S12
      replace S12 : AS w 62 [(36, Bo false), (11, Jus (.pointer (some ⟨G11_8, 0, none⟩))), (10, Jus (.pointer (some ⟨G11_7, 0, none⟩))), (9, Jus (.pointer (some ⟨G11_6, 0, none⟩))), (8, In (0)), (7, Jus (.pointer (some ⟨G10_7, 0, none⟩))), (6, Bo false)] [(G1_0, 24, Agg [Tx ax, Tx az]), (G1_1, 24, Agg [Tx bx, Tx bz]), (G1_2, 24, Agg [Tx px, Tx pz]), (G10_7, 67, Agg [Tx s11, Tx s12]), (G11_6, 43, Agg [Rt rax, Rt raz]), (G11_7, 43, Agg [Rt rbx, Rt rbz]), (G11_8, 43, Agg [Rt rpx, Rt rpz])] a12 w12 := cast (by kernel_rfl) (S12.keep [6, 7, 8, 9, 10, 11, 36])
      clear S11
      refine then_normal ?_
      refine wp_cond_false (S12.val 0 rfl) ?_
      refine wp_skip ?_
      refine then_normal ?_
      refine wp_seq ?_
      obtain ⟨z15, ez15⟩ : ∃ q : Rat, q = rax - rpx := ⟨_, rfl⟩
      have fz15 : QS 8388619 z15 := by rw [ez15]; exact QS.mono (tax.qs.sub tpx.qs) (by first | decide | omega)
      obtain ⟨z16, ez16⟩ : ∃ q : Rat, q = raz - rpz := ⟨_, rfl⟩
      have fz16 : QS 8388619 z16 := by rw [ez16]; exact QS.mono (taz.qs.sub tpz.qs) (by first | decide | omega)
      obtain ⟨z17, ez17⟩ : ∃ q : Rat, q = rbx - rpx := ⟨_, rfl⟩
      have fz17 : QS 8388619 z17 := by rw [ez17]; exact QS.mono (tbx.qs.sub tpx.qs) (by first | decide | omega)
      obtain ⟨z18, ez18⟩ : ∃ q : Rat, q = rbz - rpz := ⟨_, rfl⟩
      have fz18 : QS 8388619 z18 := by rw [ez18]; exact QS.mono (tbz.qs.sub tpz.qs) (by first | decide | omega)
      have h19 : ((z15 * z9 - z16 * z8) * z18) - ((z15 * z8 + z16 * z9) * z17) = 0 := by (subst_vars; grind)
      refine region_abs [.pure (In (0)), .pure (Bo true), .pure (Bo true), .pure (Agg [Tx s11, Tx s12]), .pure (Bo true), .pure (Bo true), .pure (Bo true), .pure (Agg [Tx s11, Tx s12]), .pure (Agg [Rt rax, Rt raz]), .pure (Agg [Rt rpx, Rt rpz]), .pure (Agg [Rt z15, Rt z16]), .pure (Agg [Rt rbx, Rt rbz]), .pure (Agg [Rt rpx, Rt rpz]), .pure (Agg [Rt z17, Rt z18]), .pure (Bo true), .pure (Bo true), .pure (Bo true)] ⟨S12, by decide +kernel⟩ (by kernel_rfl) (by kernel_rfl) rfl (by kernel_rfl) ?_ ?_
      · intro C
        refine ASteps.cons ?_ (ASteps.cons ?_ (ASteps.cons ?_ (ASteps.cons ?_ (ASteps.cons ?_ (ASteps.cons ?_ (ASteps.cons ?_ (ASteps.cons ?_ (ASteps.cons ?_ (ASteps.cons ?_ (ASteps.cons ?_ (ASteps.cons ?_ (ASteps.cons ?_ (ASteps.cons ?_ (ASteps.cons ?_ (ASteps.cons ?_ (ASteps.cons ?_ (ASteps.nil)))))))))))))))))
        · exact step_move rfl rfl (want_none rfl) rfl (opn_old C 4 (by kernel_rfl) rfl)
        · exact step_bin rfl rfl (want_none rfl) rfl (opn_new C 0 0 rfl rfl rfl rfl rfl rfl) (opn_const _) (run_eql_int _ _ _ _ _ _ rfl)
        · exact step_move rfl rfl (want_none rfl) rfl (opn_new C 1 0 rfl rfl rfl rfl rfl rfl)
        · exact step_load (k := 3) rfl rfl rfl (want_yes C 2 0 true rfl rfl rfl rfl rfl rfl rfl) rfl (opn_old C 5 (by kernel_rfl) rfl) (no_over (by kernel_rfl)) loads_T
        · exact step_call HPRE rfl rfl (want_yes C 2 1 true rfl rfl rfl rfl rfl rfl rfl) rfl en_compasslaw_plainT (Opns.cons (opn_new C 3 0 rfl rfl rfl rfl rfl rfl) Opns.nil) (con_plainT ts11 ts12 (TX.right es11) (TX.right es12) (by first | decide | omega) (plain_ne2 h10 ez9 ez8) (plain_two h10 ez9 ez8))
        · exact step_pick true rfl rfl (want_none rfl) rfl (opn_new C 2 0 rfl rfl rfl rfl rfl rfl) (opn_new C 4 1 rfl rfl rfl rfl rfl rfl)
        · exact step_move rfl rfl (want_none rfl) rfl (opn_new C 5 0 rfl rfl rfl rfl rfl rfl)
        · exact step_load (k := 3) rfl rfl rfl (want_yes C 6 0 true rfl rfl rfl rfl rfl rfl rfl) rfl (opn_old C 5 (by kernel_rfl) rfl) (no_over (by kernel_rfl)) loads_T
        · exact step_load (k := 4) rfl rfl rfl (want_yes C 6 0 true rfl rfl rfl rfl rfl rfl rfl) rfl (opn_old C 3 (by kernel_rfl) rfl) (no_over (by kernel_rfl)) loads_V
        · exact step_load (k := 6) rfl rfl rfl (want_yes C 6 0 true rfl rfl rfl rfl rfl rfl rfl) rfl (opn_old C 1 (by kernel_rfl) rfl) (no_over (by kernel_rfl)) loads_V
        · exact step_call HPRE rfl rfl (want_yes C 6 2 true rfl rfl rfl rfl rfl rfl rfl) rfl en_compassref_V_Minus (Opns.cons (opn_new C 8 0 rfl rfl rfl rfl rfl rfl) (Opns.cons (opn_new C 9 1 rfl rfl rfl rfl rfl rfl) Opns.nil)) (con_Minus ez15 ez16 tax.qs taz.qs tpx.qs tpz.qs (by first | decide | omega))
        · exact step_load (k := 5) rfl rfl rfl (want_yes C 6 0 true rfl rfl rfl rfl rfl rfl rfl) rfl (opn_old C 2 (by kernel_rfl) rfl) (no_over (by kernel_rfl)) loads_V
        · exact step_load (k := 6) rfl rfl rfl (want_yes C 6 0 true rfl rfl rfl rfl rfl rfl rfl) rfl (opn_old C 1 (by kernel_rfl) rfl) (no_over (by kernel_rfl)) loads_V
        · exact step_call HPRE rfl rfl (want_yes C 6 3 true rfl rfl rfl rfl rfl rfl rfl) rfl en_compassref_V_Minus (Opns.cons (opn_new C 11 0 rfl rfl rfl rfl rfl rfl) (Opns.cons (opn_new C 12 1 rfl rfl rfl rfl rfl rfl) Opns.nil)) (con_Minus ez17 ez18 tbx.qs tbz.qs tpx.qs tpz.qs (by first | decide | omega))
        · exact step_call HPRE rfl rfl (want_yes C 6 4 true rfl rfl rfl rfl rfl rfl rfl) rfl en_compasslaw_turns (Opns.cons (opn_new C 7 0 rfl rfl rfl rfl rfl rfl) (Opns.cons (opn_new C 10 1 rfl rfl rfl rfl rfl rfl) (Opns.cons (opn_new C 13 2 rfl rfl rfl rfl rfl rfl) Opns.nil))) (con_turns ts11 ts12 (QS.mono (l := 100663432) fz15 (by first | decide | omega)) (QS.mono (l := 100663432) fz16 (by first | decide | omega)) (QS.mono (l := 100663432) fz17 (by first | decide | omega)) (QS.mono (l := 100663432) fz18 (by first | decide | omega)) (by first | decide | omega) (by first | decide | omega) h19)
        · exact step_pick true rfl rfl (want_none rfl) rfl (opn_new C 6 0 rfl rfl rfl rfl rfl rfl) (opn_new C 14 1 rfl rfl rfl rfl rfl rfl)
        · exact step_assign rfl rfl (want_none rfl) rfl (opn_new C 15 0 rfl rfl rfl rfl rfl rfl)
      intro γ a13 w13 S13
      replace S13 : AS w 62 [(6, Bo true)] [(G1_0, 24, Agg [Tx ax, Tx az]), (G1_1, 24, Agg [Tx bx, Tx bz]), (G1_2, 24, Agg [Tx px, Tx pz]), (G10_7, 67, Agg [Tx s11, Tx s12]), (G11_6, 43, Agg [Rt rax, Rt raz]), (G11_7, 43, Agg [Rt rbx, Rt rbz]), (G11_8, 43, Agg [Rt rpx, Rt rpz])] a13 w13 := cast (by kernel_rfl) (S13.keep [6])
      clear S12
      refine then_normal ?_
      refine wp_ret ?_
      exact S13.ret 0 rfl rfl fun v hv => ⟨S13.bel, v, rfl, hv⟩
theorem angleSeen_walk {w : World} {ax az bx bz px pz : ByteArray} (sax : ax.size ≤ 1048576) (saz : az.size ≤ 1048576) (sbx : bx.size ≤ 1048576) (sbz : bz.size ≤ 1048576) (spx : px.size ≤ 1048576) (spz : pz.size ≤ 1048576) (tab : Tab w) (mx : MaxL w) :
    Calls Tryz.prog 12 #[.agg #[.string ax, .string az], .agg #[.string bx, .string bz], .agg #[.string px, .string pz]] w fun e w' => Below w.heap.size w w' ∧ e = .returned (.bool true) := by
  refine (angleSeen sax (TX.param sax) saz (TX.param saz) sbx (TX.param sbx) sbz (TX.param sbz) spx (TX.param spx) spz (TX.param spz) w [.agg #[.string ax, .string az], .agg #[.string bx, .string bz], .agg #[.string px, .string pz]] ⟨tab, mx⟩ ⟨P2.mk _ _ _, P2.mk _ _ _, P2.mk _ _ _, trivial⟩).mono ?_
  rintro _ w' ⟨hb, v, rfl, hv⟩
  exact ⟨hb, by rw [show v = _ from hv]⟩
end Go.Proofs.YtgajdmadbdbabaaGreatDoor
