/- Part 14 of the walks and of the mathematics under them: LBT. -/
import Derived.Test.YtgajdmadbdbabaaGreatDoorA12
import Derived.Test.YtgajdmadbdbabaaGreatDoorA13
set_option maxHeartbeats 16000000
set_option maxRecDepth 100000
/- LBT -/
namespace Go.Proofs.YtgajdmadbdbabaaGreatDoor
open Go.RowKit Cx
theorem angleTurned {la lb lc px pz ts tc : ByteArray} {rla rlb rlc rpx rpz rts rtc : Rat} (_ : la.size ≤ 1048576) (tla : TX 4194309 la rla) (_ : lb.size ≤ 1048576) (tlb : TX 4194309 lb rlb) (_ : lc.size ≤ 1048576) (tlc : TX 4194309 lc rlc) (_ : px.size ≤ 1048576) (tpx : TX 4194309 px rpx) (_ : pz.size ≤ 1048576) (tpz : TX 4194309 pz rpz) (_ : ts.size ≤ 1048576) (tts : TX 4194309 ts rts) (_ : tc.size ≤ 1048576) (ttc : TX 4194309 tc rtc) :
    Con Tryz.prog Pre 13 [Agg [Tx la, Tx lb, Tx lc], Agg [Tx px, Tx pz], Agg [Tx ts, Tx tc]] (Bo true) := by
  refine con_of (n := 58) Tryz.func13 rfl rfl (Nat.le_of_ble_eq_true rfl) ?_
  intro w a0 hp S0
  have HPRE : ∀ w', Below w.heap.size w w' → Pre w' := fun w' hb => hp.below hb
  refine wp_seq ?_
  refine region_abs [.alloc 26 (Agg [Tx la, Tx lb, Tx lc]), .alloc 24 (Agg [Tx px, Tx pz]), .alloc 67 (Agg [Tx ts, Tx tc]), .pure (Bo false)] ⟨S0, by decide +kernel⟩ (by kernel_rfl) (by kernel_rfl) rfl (by kernel_rfl) ?_ ?_
  · intro C
    refine ASteps.cons ?_ (ASteps.cons ?_ (ASteps.cons ?_ (ASteps.cons ?_ (ASteps.nil))))
    · exact step_box rfl rfl (want_none rfl) rfl (no_fill (by kernel_rfl)) (opn_old C 0 (by kernel_rfl) rfl) (boxes_L (cok3 (nl_tx la) (nl_tx lb) (nl_tx lc)))
    · exact step_box rfl rfl (want_none rfl) rfl (no_fill (by kernel_rfl)) (opn_old C 1 (by kernel_rfl) rfl) (boxes_P (cok2 (nl_tx px) (nl_tx pz)))
    · exact step_box rfl rfl (want_none rfl) rfl (no_fill (by kernel_rfl)) (opn_old C 2 (by kernel_rfl) rfl) (boxes_T (cok2 (nl_tx ts) (nl_tx tc)))
    · exact step_assign rfl rfl (want_none rfl) rfl (opn_const _)
  intro γ a1 w1 S1
  replace S1 : AS w 58 [(6, Bo false), (5, Jus (.pointer (some ⟨γ 2, 0, none⟩))), (4, Jus (.pointer (some ⟨γ 1, 0, none⟩))), (3, Jus (.pointer (some ⟨γ 0, 0, none⟩)))] [(γ 0, 26, Agg [Tx la, Tx lb, Tx lc]), (γ 1, 24, Agg [Tx px, Tx pz]), (γ 2, 67, Agg [Tx ts, Tx tc])] a1 w1 := cast (by kernel_rfl) (S1.keep [3, 4, 5, 6])
  generalize γ 0 = G1_0 at S1
  generalize γ 1 = G1_1 at S1
  generalize γ 2 = G1_2 at S1
  clear S0
  refine then_normal ?_
  refine wp_seq ?_
  by_cases h1 : rla = 0 ∧ rlb = 0
  ·
    refine region_abs [.pure (Agg [Tx la, Tx lb, Tx lc]), .pure (Agg [Tx px, Tx pz]), .pure (Agg [Tx ts, Tx tc]), .pure (Tup [Agg [Tx ⟨#[]⟩, Tx ⟨#[]⟩, Tx ⟨#[]⟩], In (5)]), .pure (Tup [Agg [Tx ⟨#[]⟩, Tx ⟨#[]⟩, Tx ⟨#[]⟩], In (5)]), .pure (Agg [Tx ⟨#[]⟩, Tx ⟨#[]⟩, Tx ⟨#[]⟩]), .pure (In (5)), .alloc 26 (Agg [Tx ⟨#[]⟩, Tx ⟨#[]⟩, Tx ⟨#[]⟩]), .fill 7 (Agg [Tx ⟨#[]⟩, Tx ⟨#[]⟩, Tx ⟨#[]⟩]), .pure (In (5))] ⟨S1, by decide +kernel⟩ (by kernel_rfl) (by kernel_rfl) rfl (by kernel_rfl) ?_ ?_
    · intro C
      refine ASteps.cons ?_ (ASteps.cons ?_ (ASteps.cons ?_ (ASteps.cons ?_ (ASteps.cons ?_ (ASteps.cons ?_ (ASteps.cons ?_ (ASteps.cons ?_ (ASteps.cons ?_ (ASteps.cons ?_ (ASteps.nil))))))))))
      · exact step_load (k := 0) rfl rfl rfl (want_none rfl) rfl (opn_old C 3 (by kernel_rfl) rfl) (no_over (by kernel_rfl)) loads_L
      · exact step_load (k := 1) rfl rfl rfl (want_none rfl) rfl (opn_old C 2 (by kernel_rfl) rfl) (no_over (by kernel_rfl)) loads_P
      · exact step_load (k := 2) rfl rfl rfl (want_none rfl) rfl (opn_old C 1 (by kernel_rfl) rfl) (no_over (by kernel_rfl)) loads_T
      · exact step_call HPRE rfl rfl (want_none rfl) rfl en_angle_Turned (Opns.cons (opn_new C 0 0 rfl rfl rfl rfl rfl rfl) (Opns.cons (opn_new C 1 1 rfl rfl rfl rfl rfl rfl) (Opns.cons (opn_new C 2 2 rfl rfl rfl rfl rfl rfl) Opns.nil))) (con_turned_flat tla tlb tlc tpx tpz tts ttc (by first | decide | omega) (by first | decide | omega) (Or.inl h1))
      · exact step_move rfl rfl (want_none rfl) rfl (opn_new C 3 0 rfl rfl rfl rfl rfl rfl)
      · exact step_extract (k := 0) rfl rfl (want_none rfl) rfl (opn_new C 4 0 rfl rfl rfl rfl rfl rfl) rfl
      · exact step_extract (k := 1) rfl rfl (want_none rfl) rfl (opn_new C 4 0 rfl rfl rfl rfl rfl rfl) rfl
      · exact step_new [.string ⟨#[]⟩, .string ⟨#[]⟩, .string ⟨#[]⟩] zero_L rfl rfl (want_none rfl) rfl (fill_waits (s0 := 8) (k := 0) (by kernel_rfl) rfl rfl rfl rfl) allocs_L (by simp [notLimb]) (by kernel_rfl)
      · exact step_fill C (a := 7) (k := 0) rfl rfl rfl rfl (want_none rfl) rfl rfl rfl rfl rfl (by decide) (one_fill (by kernel_rfl)) (opn_new C 5 1 rfl rfl rfl rfl rfl rfl) (stores_L (cok3 (nl_tx ⟨#[]⟩) (nl_tx ⟨#[]⟩) (nl_tx ⟨#[]⟩)))
      · exact step_assign rfl rfl (want_none rfl) rfl (opn_new C 6 0 rfl rfl rfl rfl rfl rfl)
    intro γ a2 w2 S2
    replace S2 : AS w 58 [(8, In (5)), (7, Jus (.pointer (some ⟨γ 7, 0, none⟩))), (6, Bo false), (5, Jus (.pointer (some ⟨G1_2, 0, none⟩))), (4, Jus (.pointer (some ⟨G1_1, 0, none⟩))), (3, Jus (.pointer (some ⟨G1_0, 0, none⟩)))] [(G1_0, 26, Agg [Tx la, Tx lb, Tx lc]), (G1_1, 24, Agg [Tx px, Tx pz]), (G1_2, 67, Agg [Tx ts, Tx tc]), (γ 7, 26, Agg [Tx ⟨#[]⟩, Tx ⟨#[]⟩, Tx ⟨#[]⟩])] a2 w2 := cast (by kernel_rfl) (S2.keep [3, 4, 5, 6, 7, 8])
    generalize γ 7 = G2_7 at S2
    clear S1
    refine then_normal ?_
    refine wp_seq ?_
    refine wp_seq ?_
    refine region_abs [.pure (Bo true), .pure (Bo false), .pure (Bo false), .pure (Agg [Tx la, Tx lb, Tx lc]), .pure (Bo false), .pure (Bo true), .pure (Bo true), .pure (Bo true), .skip, .skip, .skip, .pure (Bo true)] ⟨S2, by decide +kernel⟩ (by kernel_rfl) (by kernel_rfl) rfl (by kernel_rfl) ?_ ?_
    · intro C
      refine ASteps.cons ?_ (ASteps.cons ?_ (ASteps.cons ?_ (ASteps.cons ?_ (ASteps.cons ?_ (ASteps.cons ?_ (ASteps.cons ?_ (ASteps.cons ?_ (ASteps.cons ?_ (ASteps.cons ?_ (ASteps.cons ?_ (ASteps.cons ?_ (ASteps.nil))))))))))))
      · exact step_call HPRE rfl rfl (want_none rfl) rfl en_compasslaw_angled Opns.nil (con_angled)
      · exact step_not true rfl rfl (want_none rfl) rfl (opn_new C 0 0 rfl rfl rfl rfl rfl rfl)
      · exact step_move rfl rfl (want_none rfl) rfl (opn_new C 1 0 rfl rfl rfl rfl rfl rfl)
      · exact step_load (k := 0) rfl rfl rfl (want_yes C 2 0 false rfl rfl rfl rfl rfl rfl rfl) rfl (opn_old C 5 (by kernel_rfl) rfl) (no_over (by kernel_rfl)) loads_L
      · exact step_call HPRE rfl rfl (want_yes C 2 1 false rfl rfl rfl rfl rfl rfl rfl) rfl en_compassref_Line (Opns.cons (opn_new C 3 0 rfl rfl rfl rfl rfl rfl) Opns.nil) (con_Line_f tla tlb tlc (by first | decide | omega) h1)
      · exact step_not false rfl rfl (want_yes C 2 1 false rfl rfl rfl rfl rfl rfl rfl) rfl (opn_new C 4 0 rfl rfl rfl rfl rfl rfl)
      · exact step_pick false rfl rfl (want_none rfl) rfl (opn_new C 2 0 rfl rfl rfl rfl rfl rfl) (opn_new C 5 1 rfl rfl rfl rfl rfl rfl)
      · exact step_move rfl rfl (want_none rfl) rfl (opn_new C 6 0 rfl rfl rfl rfl rfl rfl)
      · exact step_skip rfl rfl (want_no C 7 0 false true rfl rfl rfl rfl rfl rfl rfl rfl)
      · exact step_skip rfl rfl (want_no C 7 1 false true rfl rfl rfl rfl rfl rfl rfl rfl)
      · exact step_skip rfl rfl (want_no C 7 1 false true rfl rfl rfl rfl rfl rfl rfl rfl)
      · exact step_pick true rfl rfl (want_none rfl) rfl (opn_new C 7 0 rfl rfl rfl rfl rfl rfl) (opn_const _)
    intro γ a3 w3 S3
    replace S3 : AS w 58 [(27, Bo true), (8, In (5)), (7, Jus (.pointer (some ⟨G2_7, 0, none⟩))), (6, Bo false), (5, Jus (.pointer (some ⟨G1_2, 0, none⟩))), (4, Jus (.pointer (some ⟨G1_1, 0, none⟩))), (3, Jus (.pointer (some ⟨G1_0, 0, none⟩)))] [(G1_0, 26, Agg [Tx la, Tx lb, Tx lc]), (G1_1, 24, Agg [Tx px, Tx pz]), (G1_2, 67, Agg [Tx ts, Tx tc]), (G2_7, 26, Agg [Tx ⟨#[]⟩, Tx ⟨#[]⟩, Tx ⟨#[]⟩])] a3 w3 := cast (by kernel_rfl) (S3.keep [3, 4, 5, 6, 7, 8, 27])
    clear S2
    refine then_normal ?_
    refine wp_cond_true (S3.val 0 rfl) ?_
    refine wp_seq ?_
    refine region_abs [.pure (Bo true), .pure (Bo true), .pure (In (5)), .pure (Bo true), .pure (Bo true), .pure (Bo true), .pure (Agg [Tx ⟨#[]⟩, Tx ⟨#[]⟩, Tx ⟨#[]⟩]), .pure (Bo true), .pure (Bo true), .pure (Bo true)] ⟨S3, by decide +kernel⟩ (by kernel_rfl) (by kernel_rfl) rfl (by kernel_rfl) ?_ ?_
    · intro C
      refine ASteps.cons ?_ (ASteps.cons ?_ (ASteps.cons ?_ (ASteps.cons ?_ (ASteps.cons ?_ (ASteps.cons ?_ (ASteps.cons ?_ (ASteps.cons ?_ (ASteps.cons ?_ (ASteps.cons ?_ (ASteps.nil))))))))))
      · exact step_call HPRE rfl rfl (want_none rfl) rfl en_compasslaw_angled Opns.nil (con_angled)
      · exact step_move rfl rfl (want_none rfl) rfl (opn_new C 0 0 rfl rfl rfl rfl rfl rfl)
      · exact step_move rfl rfl (want_yes C 1 0 true rfl rfl rfl rfl rfl rfl rfl) rfl (opn_old C 1 (by kernel_rfl) rfl)
      · exact step_bin rfl rfl (want_yes C 1 1 true rfl rfl rfl rfl rfl rfl rfl) rfl (opn_new C 2 0 rfl rfl rfl rfl rfl rfl) (opn_const _) (run_eql_int _ _ _ _ _ _ rfl)
      · exact step_pick true rfl rfl (want_none rfl) rfl (opn_new C 1 0 rfl rfl rfl rfl rfl rfl) (opn_new C 3 1 rfl rfl rfl rfl rfl rfl)
      · exact step_move rfl rfl (want_none rfl) rfl (opn_new C 4 0 rfl rfl rfl rfl rfl rfl)
      · exact step_load (k := 3) rfl rfl rfl (want_yes C 5 0 true rfl rfl rfl rfl rfl rfl rfl) rfl (opn_old C 2 (by kernel_rfl) rfl) (no_over (by kernel_rfl)) loads_L
      · exact step_call HPRE rfl rfl (want_yes C 5 1 true rfl rfl rfl rfl rfl rfl rfl) rfl en_compasslaw_noL (Opns.cons (opn_new C 6 0 rfl rfl rfl rfl rfl rfl) Opns.nil) (con_noL)
      · exact step_pick true rfl rfl (want_none rfl) rfl (opn_new C 5 0 rfl rfl rfl rfl rfl rfl) (opn_new C 7 1 rfl rfl rfl rfl rfl rfl)
      · exact step_assign rfl rfl (want_none rfl) rfl (opn_new C 8 0 rfl rfl rfl rfl rfl rfl)
    intro γ a4 w4 S4
    replace S4 : AS w 58 [(6, Bo true), (8, In (5)), (7, Jus (.pointer (some ⟨G2_7, 0, none⟩))), (5, Jus (.pointer (some ⟨G1_2, 0, none⟩))), (4, Jus (.pointer (some ⟨G1_1, 0, none⟩))), (3, Jus (.pointer (some ⟨G1_0, 0, none⟩)))] [(G1_0, 26, Agg [Tx la, Tx lb, Tx lc]), (G1_1, 24, Agg [Tx px, Tx pz]), (G1_2, 67, Agg [Tx ts, Tx tc]), (G2_7, 26, Agg [Tx ⟨#[]⟩, Tx ⟨#[]⟩, Tx ⟨#[]⟩])] a4 w4 := cast (by kernel_rfl) (S4.keep [3, 4, 5, 6, 7, 8])
    clear S3
    refine then_normal ?_
    refine wp_ret ?_
    refine then_ret ?_
    exact S4.ret 0 rfl rfl fun v hv => ⟨S4.bel, v, rfl, hv⟩
  ·
    by_cases h2 : rtc = 0 ∧ rts = 0
    ·
      refine region_abs [.pure (Agg [Tx la, Tx lb, Tx lc]), .pure (Agg [Tx px, Tx pz]), .pure (Agg [Tx ts, Tx tc]), .pure (Tup [Agg [Tx ⟨#[]⟩, Tx ⟨#[]⟩, Tx ⟨#[]⟩], In (5)]), .pure (Tup [Agg [Tx ⟨#[]⟩, Tx ⟨#[]⟩, Tx ⟨#[]⟩], In (5)]), .pure (Agg [Tx ⟨#[]⟩, Tx ⟨#[]⟩, Tx ⟨#[]⟩]), .pure (In (5)), .alloc 26 (Agg [Tx ⟨#[]⟩, Tx ⟨#[]⟩, Tx ⟨#[]⟩]), .fill 7 (Agg [Tx ⟨#[]⟩, Tx ⟨#[]⟩, Tx ⟨#[]⟩]), .pure (In (5))] ⟨S1, by decide +kernel⟩ (by kernel_rfl) (by kernel_rfl) rfl (by kernel_rfl) ?_ ?_
      · intro C
        refine ASteps.cons ?_ (ASteps.cons ?_ (ASteps.cons ?_ (ASteps.cons ?_ (ASteps.cons ?_ (ASteps.cons ?_ (ASteps.cons ?_ (ASteps.cons ?_ (ASteps.cons ?_ (ASteps.cons ?_ (ASteps.nil))))))))))
        · exact step_load (k := 0) rfl rfl rfl (want_none rfl) rfl (opn_old C 3 (by kernel_rfl) rfl) (no_over (by kernel_rfl)) loads_L
        · exact step_load (k := 1) rfl rfl rfl (want_none rfl) rfl (opn_old C 2 (by kernel_rfl) rfl) (no_over (by kernel_rfl)) loads_P
        · exact step_load (k := 2) rfl rfl rfl (want_none rfl) rfl (opn_old C 1 (by kernel_rfl) rfl) (no_over (by kernel_rfl)) loads_T
        · exact step_call HPRE rfl rfl (want_none rfl) rfl en_angle_Turned (Opns.cons (opn_new C 0 0 rfl rfl rfl rfl rfl rfl) (Opns.cons (opn_new C 1 1 rfl rfl rfl rfl rfl rfl) (Opns.cons (opn_new C 2 2 rfl rfl rfl rfl rfl rfl) Opns.nil))) (con_turned_flat tla tlb tlc tpx tpz tts ttc (by first | decide | omega) (by first | decide | omega) (Or.inr h2))
        · exact step_move rfl rfl (want_none rfl) rfl (opn_new C 3 0 rfl rfl rfl rfl rfl rfl)
        · exact step_extract (k := 0) rfl rfl (want_none rfl) rfl (opn_new C 4 0 rfl rfl rfl rfl rfl rfl) rfl
        · exact step_extract (k := 1) rfl rfl (want_none rfl) rfl (opn_new C 4 0 rfl rfl rfl rfl rfl rfl) rfl
        · exact step_new [.string ⟨#[]⟩, .string ⟨#[]⟩, .string ⟨#[]⟩] zero_L rfl rfl (want_none rfl) rfl (fill_waits (s0 := 8) (k := 0) (by kernel_rfl) rfl rfl rfl rfl) allocs_L (by simp [notLimb]) (by kernel_rfl)
        · exact step_fill C (a := 7) (k := 0) rfl rfl rfl rfl (want_none rfl) rfl rfl rfl rfl rfl (by decide) (one_fill (by kernel_rfl)) (opn_new C 5 1 rfl rfl rfl rfl rfl rfl) (stores_L (cok3 (nl_tx ⟨#[]⟩) (nl_tx ⟨#[]⟩) (nl_tx ⟨#[]⟩)))
        · exact step_assign rfl rfl (want_none rfl) rfl (opn_new C 6 0 rfl rfl rfl rfl rfl rfl)
      intro γ a5 w5 S5
      replace S5 : AS w 58 [(8, In (5)), (7, Jus (.pointer (some ⟨γ 7, 0, none⟩))), (6, Bo false), (5, Jus (.pointer (some ⟨G1_2, 0, none⟩))), (4, Jus (.pointer (some ⟨G1_1, 0, none⟩))), (3, Jus (.pointer (some ⟨G1_0, 0, none⟩)))] [(G1_0, 26, Agg [Tx la, Tx lb, Tx lc]), (G1_1, 24, Agg [Tx px, Tx pz]), (G1_2, 67, Agg [Tx ts, Tx tc]), (γ 7, 26, Agg [Tx ⟨#[]⟩, Tx ⟨#[]⟩, Tx ⟨#[]⟩])] a5 w5 := cast (by kernel_rfl) (S5.keep [3, 4, 5, 6, 7, 8])
      generalize γ 7 = G5_7 at S5
      clear S1
      refine then_normal ?_
      refine wp_seq ?_
      refine wp_seq ?_
      refine region_abs [.pure (Bo true), .pure (Bo false), .pure (Bo false), .pure (Agg [Tx la, Tx lb, Tx lc]), .pure (Bo true), .pure (Bo false), .pure (Bo false), .pure (Bo false), .pure (Agg [Tx ts, Tx tc]), .pure (Bo false), .pure (Bo true), .pure (Bo true)] ⟨S5, by decide +kernel⟩ (by kernel_rfl) (by kernel_rfl) rfl (by kernel_rfl) ?_ ?_
      · intro C
        refine ASteps.cons ?_ (ASteps.cons ?_ (ASteps.cons ?_ (ASteps.cons ?_ (ASteps.cons ?_ (ASteps.cons ?_ (ASteps.cons ?_ (ASteps.cons ?_ (ASteps.cons ?_ (ASteps.cons ?_ (ASteps.cons ?_ (ASteps.cons ?_ (ASteps.nil))))))))))))
        · exact step_call HPRE rfl rfl (want_none rfl) rfl en_compasslaw_angled Opns.nil (con_angled)
        · exact step_not true rfl rfl (want_none rfl) rfl (opn_new C 0 0 rfl rfl rfl rfl rfl rfl)
        · exact step_move rfl rfl (want_none rfl) rfl (opn_new C 1 0 rfl rfl rfl rfl rfl rfl)
        · exact step_load (k := 0) rfl rfl rfl (want_yes C 2 0 false rfl rfl rfl rfl rfl rfl rfl) rfl (opn_old C 5 (by kernel_rfl) rfl) (no_over (by kernel_rfl)) loads_L
        · exact step_call HPRE rfl rfl (want_yes C 2 1 false rfl rfl rfl rfl rfl rfl rfl) rfl en_compassref_Line (Opns.cons (opn_new C 3 0 rfl rfl rfl rfl rfl rfl) Opns.nil) (con_Line_t tla tlb tlc (by first | decide | omega) h1)
        · exact step_not true rfl rfl (want_yes C 2 1 false rfl rfl rfl rfl rfl rfl rfl) rfl (opn_new C 4 0 rfl rfl rfl rfl rfl rfl)
        · exact step_pick false rfl rfl (want_none rfl) rfl (opn_new C 2 0 rfl rfl rfl rfl rfl rfl) (opn_new C 5 1 rfl rfl rfl rfl rfl rfl)
        · exact step_move rfl rfl (want_none rfl) rfl (opn_new C 6 0 rfl rfl rfl rfl rfl rfl)
        · exact step_load (k := 2) rfl rfl rfl (want_yes C 7 0 false rfl rfl rfl rfl rfl rfl rfl) rfl (opn_old C 3 (by kernel_rfl) rfl) (no_over (by kernel_rfl)) loads_T
        · exact step_call HPRE rfl rfl (want_yes C 7 1 false rfl rfl rfl rfl rfl rfl rfl) rfl en_compasslaw_isT (Opns.cons (opn_new C 8 0 rfl rfl rfl rfl rfl rfl) Opns.nil) (con_isT_no tts ttc (by first | decide | omega) h2)
        · exact step_not false rfl rfl (want_yes C 7 1 false rfl rfl rfl rfl rfl rfl rfl) rfl (opn_new C 9 0 rfl rfl rfl rfl rfl rfl)
        · exact step_pick false rfl rfl (want_none rfl) rfl (opn_new C 7 0 rfl rfl rfl rfl rfl rfl) (opn_new C 10 1 rfl rfl rfl rfl rfl rfl)
      intro γ a6 w6 S6
      replace S6 : AS w 58 [(27, Bo true), (8, In (5)), (7, Jus (.pointer (some ⟨G5_7, 0, none⟩))), (6, Bo false), (5, Jus (.pointer (some ⟨G1_2, 0, none⟩))), (4, Jus (.pointer (some ⟨G1_1, 0, none⟩))), (3, Jus (.pointer (some ⟨G1_0, 0, none⟩)))] [(G1_0, 26, Agg [Tx la, Tx lb, Tx lc]), (G1_1, 24, Agg [Tx px, Tx pz]), (G1_2, 67, Agg [Tx ts, Tx tc]), (G5_7, 26, Agg [Tx ⟨#[]⟩, Tx ⟨#[]⟩, Tx ⟨#[]⟩])] a6 w6 := cast (by kernel_rfl) (S6.keep [3, 4, 5, 6, 7, 8, 27])
      clear S5
      refine then_normal ?_
      refine wp_cond_true (S6.val 0 rfl) ?_
      refine wp_seq ?_
      refine region_abs [.pure (Bo true), .pure (Bo true), .pure (In (5)), .pure (Bo true), .pure (Bo true), .pure (Bo true), .pure (Agg [Tx ⟨#[]⟩, Tx ⟨#[]⟩, Tx ⟨#[]⟩]), .pure (Bo true), .pure (Bo true), .pure (Bo true)] ⟨S6, by decide +kernel⟩ (by kernel_rfl) (by kernel_rfl) rfl (by kernel_rfl) ?_ ?_
      · intro C
        refine ASteps.cons ?_ (ASteps.cons ?_ (ASteps.cons ?_ (ASteps.cons ?_ (ASteps.cons ?_ (ASteps.cons ?_ (ASteps.cons ?_ (ASteps.cons ?_ (ASteps.cons ?_ (ASteps.cons ?_ (ASteps.nil))))))))))
        · exact step_call HPRE rfl rfl (want_none rfl) rfl en_compasslaw_angled Opns.nil (con_angled)
        · exact step_move rfl rfl (want_none rfl) rfl (opn_new C 0 0 rfl rfl rfl rfl rfl rfl)
        · exact step_move rfl rfl (want_yes C 1 0 true rfl rfl rfl rfl rfl rfl rfl) rfl (opn_old C 1 (by kernel_rfl) rfl)
        · exact step_bin rfl rfl (want_yes C 1 1 true rfl rfl rfl rfl rfl rfl rfl) rfl (opn_new C 2 0 rfl rfl rfl rfl rfl rfl) (opn_const _) (run_eql_int _ _ _ _ _ _ rfl)
        · exact step_pick true rfl rfl (want_none rfl) rfl (opn_new C 1 0 rfl rfl rfl rfl rfl rfl) (opn_new C 3 1 rfl rfl rfl rfl rfl rfl)
        · exact step_move rfl rfl (want_none rfl) rfl (opn_new C 4 0 rfl rfl rfl rfl rfl rfl)
        · exact step_load (k := 3) rfl rfl rfl (want_yes C 5 0 true rfl rfl rfl rfl rfl rfl rfl) rfl (opn_old C 2 (by kernel_rfl) rfl) (no_over (by kernel_rfl)) loads_L
        · exact step_call HPRE rfl rfl (want_yes C 5 1 true rfl rfl rfl rfl rfl rfl rfl) rfl en_compasslaw_noL (Opns.cons (opn_new C 6 0 rfl rfl rfl rfl rfl rfl) Opns.nil) (con_noL)
        · exact step_pick true rfl rfl (want_none rfl) rfl (opn_new C 5 0 rfl rfl rfl rfl rfl rfl) (opn_new C 7 1 rfl rfl rfl rfl rfl rfl)
        · exact step_assign rfl rfl (want_none rfl) rfl (opn_new C 8 0 rfl rfl rfl rfl rfl rfl)
      intro γ a7 w7 S7
      replace S7 : AS w 58 [(6, Bo true), (8, In (5)), (7, Jus (.pointer (some ⟨G5_7, 0, none⟩))), (5, Jus (.pointer (some ⟨G1_2, 0, none⟩))), (4, Jus (.pointer (some ⟨G1_1, 0, none⟩))), (3, Jus (.pointer (some ⟨G1_0, 0, none⟩)))] [(G1_0, 26, Agg [Tx la, Tx lb, Tx lc]), (G1_1, 24, Agg [Tx px, Tx pz]), (G1_2, 67, Agg [Tx ts, Tx tc]), (G5_7, 26, Agg [Tx ⟨#[]⟩, Tx ⟨#[]⟩, Tx ⟨#[]⟩])] a7 w7 := cast (by kernel_rfl) (S7.keep [3, 4, 5, 6, 7, 8])
      clear S6
      refine then_normal ?_
      refine wp_ret ?_
      refine then_ret ?_
      exact S7.ret 0 rfl rfl fun v hv => ⟨S7.bel, v, rfl, hv⟩
    ·
      obtain ⟨z3, ez3⟩ : ∃ q : Rat, q = rla * rtc - rlb * rts := ⟨_, rfl⟩
      have fz3 : QS 16777237 z3 := by rw [ez3]; exact QS.mono ((tla.qs.mul ttc.qs).sub (tlb.qs.mul tts.qs)) (by first | decide | omega)
      obtain ⟨z4, ez4⟩ : ∃ q : Rat, q = rla * rts + rlb * rtc := ⟨_, rfl⟩
      have fz4 : QS 16777237 z4 := by rw [ez4]; exact QS.mono ((tla.qs.mul tts.qs).add (tlb.qs.mul ttc.qs)) (by first | decide | omega)
      obtain ⟨z5, ez5⟩ : ∃ q : Rat, q = -(z3 * rpx + z4 * rpz) := ⟨_, rfl⟩
      have fz5 : QS 41943093 z5 := by rw [ez5]; exact QS.mono ((fz3.mul tpx.qs).add (fz4.mul tpz.qs)).neg (by first | decide | omega)
      have h6 : ¬ (z3 = 0 ∧ z4 = 0) := by rw [ez3, ez4]; exact prod_ne (fun e => (fun e => e.elim h1 h2) (Or.inl e)) (fun e => (fun e => e.elim h1 h2) (Or.inr e))
      obtain ⟨z7, ez7⟩ : ∃ q : Rat, q = z3 * fac [z3, z4, z5] := ⟨_, rfl⟩
      have fz7 : QS 167772373 z7 := by rw [ez7]; exact QS.mono (QS.fac (QS.mono (l := 41943093) fz3 (by first | decide | omega)) (QS.mono (l := 41943093) fz4 (by first | decide | omega)) fz5 (by simp)) (by first | decide | omega)
      obtain ⟨s8, es8⟩ : ∃ s : ByteArray, s.data.toList = tx z7 := ⟨⟨(tx z7).toArray⟩, by simp⟩
      have ts8 : TX 167772373 s8 z7 := TX.told es8 fz7
      obtain ⟨z9, ez9⟩ : ∃ q : Rat, q = z4 * fac [z3, z4, z5] := ⟨_, rfl⟩
      have fz9 : QS 167772373 z9 := by rw [ez9]; exact QS.mono (QS.fac (QS.mono (l := 41943093) fz3 (by first | decide | omega)) (QS.mono (l := 41943093) fz4 (by first | decide | omega)) fz5 (by simp)) (by first | decide | omega)
      obtain ⟨s10, es10⟩ : ∃ s : ByteArray, s.data.toList = tx z9 := ⟨⟨(tx z9).toArray⟩, by simp⟩
      have ts10 : TX 167772373 s10 z9 := TX.told es10 fz9
      obtain ⟨z11, ez11⟩ : ∃ q : Rat, q = z5 * fac [z3, z4, z5] := ⟨_, rfl⟩
      have fz11 : QS 167772373 z11 := by rw [ez11]; exact QS.mono (QS.fac (QS.mono (l := 41943093) fz3 (by first | decide | omega)) (QS.mono (l := 41943093) fz4 (by first | decide | omega)) fz5 (by simp)) (by first | decide | omega)
      obtain ⟨s12, es12⟩ : ∃ s : ByteArray, s.data.toList = tx z11 := ⟨⟨(tx z11).toArray⟩, by simp⟩
      have ts12 : TX 167772373 s12 z11 := TX.told es12 fz11
      refine region_abs [.pure (Agg [Tx la, Tx lb, Tx lc]), .pure (Agg [Tx px, Tx pz]), .pure (Agg [Tx ts, Tx tc]), .pure (Tup [Agg [Tx s8, Tx s10, Tx s12], In (0)]), .pure (Tup [Agg [Tx s8, Tx s10, Tx s12], In (0)]), .pure (Agg [Tx s8, Tx s10, Tx s12]), .pure (In (0)), .alloc 26 (Agg [Tx ⟨#[]⟩, Tx ⟨#[]⟩, Tx ⟨#[]⟩]), .fill 7 (Agg [Tx s8, Tx s10, Tx s12]), .pure (In (0))] ⟨S1, by decide +kernel⟩ (by kernel_rfl) (by kernel_rfl) rfl (by kernel_rfl) ?_ ?_
      · intro C
        refine ASteps.cons ?_ (ASteps.cons ?_ (ASteps.cons ?_ (ASteps.cons ?_ (ASteps.cons ?_ (ASteps.cons ?_ (ASteps.cons ?_ (ASteps.cons ?_ (ASteps.cons ?_ (ASteps.cons ?_ (ASteps.nil))))))))))
        · exact step_load (k := 0) rfl rfl rfl (want_none rfl) rfl (opn_old C 3 (by kernel_rfl) rfl) (no_over (by kernel_rfl)) loads_L
        · exact step_load (k := 1) rfl rfl rfl (want_none rfl) rfl (opn_old C 2 (by kernel_rfl) rfl) (no_over (by kernel_rfl)) loads_P
        · exact step_load (k := 2) rfl rfl rfl (want_none rfl) rfl (opn_old C 1 (by kernel_rfl) rfl) (no_over (by kernel_rfl)) loads_T
        · exact step_call HPRE rfl rfl (want_none rfl) rfl en_angle_Turned (Opns.cons (opn_new C 0 0 rfl rfl rfl rfl rfl rfl) (Opns.cons (opn_new C 1 1 rfl rfl rfl rfl rfl rfl) (Opns.cons (opn_new C 2 2 rfl rfl rfl rfl rfl rfl) Opns.nil))) (con_turned_ok tla tlb tlc tpx tpz tts ttc ez3 ez4 ez5 (by first | decide | omega) (by first | decide | omega) (fun e => e.elim h1 h2) (es8.trans (by rw [ez7])) (es10.trans (by rw [ez9])) (es12.trans (by rw [ez11])))
        · exact step_move rfl rfl (want_none rfl) rfl (opn_new C 3 0 rfl rfl rfl rfl rfl rfl)
        · exact step_extract (k := 0) rfl rfl (want_none rfl) rfl (opn_new C 4 0 rfl rfl rfl rfl rfl rfl) rfl
        · exact step_extract (k := 1) rfl rfl (want_none rfl) rfl (opn_new C 4 0 rfl rfl rfl rfl rfl rfl) rfl
        · exact step_new [.string ⟨#[]⟩, .string ⟨#[]⟩, .string ⟨#[]⟩] zero_L rfl rfl (want_none rfl) rfl (fill_waits (s0 := 8) (k := 0) (by kernel_rfl) rfl rfl rfl rfl) allocs_L (by simp [notLimb]) (by kernel_rfl)
        · exact step_fill C (a := 7) (k := 0) rfl rfl rfl rfl (want_none rfl) rfl rfl rfl rfl rfl (by decide) (one_fill (by kernel_rfl)) (opn_new C 5 1 rfl rfl rfl rfl rfl rfl) (stores_L (cok3 (nl_tx s8) (nl_tx s10) (nl_tx s12)))
        · exact step_assign rfl rfl (want_none rfl) rfl (opn_new C 6 0 rfl rfl rfl rfl rfl rfl)
      intro γ a8 w8 S8
      replace S8 : AS w 58 [(8, In (0)), (7, Jus (.pointer (some ⟨γ 7, 0, none⟩))), (6, Bo false), (5, Jus (.pointer (some ⟨G1_2, 0, none⟩))), (4, Jus (.pointer (some ⟨G1_1, 0, none⟩))), (3, Jus (.pointer (some ⟨G1_0, 0, none⟩)))] [(G1_0, 26, Agg [Tx la, Tx lb, Tx lc]), (G1_1, 24, Agg [Tx px, Tx pz]), (G1_2, 67, Agg [Tx ts, Tx tc]), (γ 7, 26, Agg [Tx s8, Tx s10, Tx s12])] a8 w8 := cast (by kernel_rfl) (S8.keep [3, 4, 5, 6, 7, 8])
      generalize γ 7 = G8_7 at S8
      clear S1
      refine then_normal ?_
      refine wp_seq ?_
      refine wp_seq ?_
      refine region_abs [.pure (Bo true), .pure (Bo false), .pure (Bo false), .pure (Agg [Tx la, Tx lb, Tx lc]), .pure (Bo true), .pure (Bo false), .pure (Bo false), .pure (Bo false), .pure (Agg [Tx ts, Tx tc]), .pure (Bo true), .pure (Bo false), .pure (Bo false)] ⟨S8, by decide +kernel⟩ (by kernel_rfl) (by kernel_rfl) rfl (by kernel_rfl) ?_ ?_
      · intro C
        refine ASteps.cons ?_ (ASteps.cons ?_ (ASteps.cons ?_ (ASteps.cons ?_ (ASteps.cons ?_ (ASteps.cons ?_ (ASteps.cons ?_ (ASteps.cons ?_ (ASteps.cons ?_ (ASteps.cons ?_ (ASteps.cons ?_ (ASteps.cons ?_ (ASteps.nil))))))))))))
        · exact step_call HPRE rfl rfl (want_none rfl) rfl en_compasslaw_angled Opns.nil (con_angled)
        · exact step_not true rfl rfl (want_none rfl) rfl (opn_new C 0 0 rfl rfl rfl rfl rfl rfl)
        · exact step_move rfl rfl (want_none rfl) rfl (opn_new C 1 0 rfl rfl rfl rfl rfl rfl)
        · exact step_load (k := 0) rfl rfl rfl (want_yes C 2 0 false rfl rfl rfl rfl rfl rfl rfl) rfl (opn_old C 5 (by kernel_rfl) rfl) (no_over (by kernel_rfl)) loads_L
        · exact step_call HPRE rfl rfl (want_yes C 2 1 false rfl rfl rfl rfl rfl rfl rfl) rfl en_compassref_Line (Opns.cons (opn_new C 3 0 rfl rfl rfl rfl rfl rfl) Opns.nil) (con_Line_t tla tlb tlc (by first | decide | omega) h1)
        · exact step_not true rfl rfl (want_yes C 2 1 false rfl rfl rfl rfl rfl rfl rfl) rfl (opn_new C 4 0 rfl rfl rfl rfl rfl rfl)
        · exact step_pick false rfl rfl (want_none rfl) rfl (opn_new C 2 0 rfl rfl rfl rfl rfl rfl) (opn_new C 5 1 rfl rfl rfl rfl rfl rfl)
        · exact step_move rfl rfl (want_none rfl) rfl (opn_new C 6 0 rfl rfl rfl rfl rfl rfl)
        · exact step_load (k := 2) rfl rfl rfl (want_yes C 7 0 false rfl rfl rfl rfl rfl rfl rfl) rfl (opn_old C 3 (by kernel_rfl) rfl) (no_over (by kernel_rfl)) loads_T
        · exact step_call HPRE rfl rfl (want_yes C 7 1 false rfl rfl rfl rfl rfl rfl rfl) rfl en_compasslaw_isT (Opns.cons (opn_new C 8 0 rfl rfl rfl rfl rfl rfl) Opns.nil) (con_isT_yes tts ttc (by first | decide | omega) h2)
        · exact step_not true rfl rfl (want_yes C 7 1 false rfl rfl rfl rfl rfl rfl rfl) rfl (opn_new C 9 0 rfl rfl rfl rfl rfl rfl)
        · exact step_pick false rfl rfl (want_none rfl) rfl (opn_new C 7 0 rfl rfl rfl rfl rfl rfl) (opn_new C 10 1 rfl rfl rfl rfl rfl rfl)
      intro γ a9 w9 S9
      replace S9 : AS w 58 [(27, Bo false), (8, In (0)), (7, Jus (.pointer (some ⟨G8_7, 0, none⟩))), (6, Bo false), (5, Jus (.pointer (some ⟨G1_2, 0, none⟩))), (4, Jus (.pointer (some ⟨G1_1, 0, none⟩))), (3, Jus (.pointer (some ⟨G1_0, 0, none⟩)))] [(G1_0, 26, Agg [Tx la, Tx lb, Tx lc]), (G1_1, 24, Agg [Tx px, Tx pz]), (G1_2, 67, Agg [Tx ts, Tx tc]), (G8_7, 26, Agg [Tx s8, Tx s10, Tx s12])] a9 w9 := cast (by kernel_rfl) (S9.keep [3, 4, 5, 6, 7, 8, 27])
      clear S8
      refine then_normal ?_
      refine wp_cond_false (S9.val 0 rfl) ?_
      refine wp_skip ?_
      refine then_normal ?_
      refine wp_seq ?_
      obtain ⟨z13, ez13⟩ : ∃ q : Rat, q = z7 * rpx + z9 * rpz + z11 := ⟨_, rfl⟩
      have fz13 : QS 511705739 z13 := by rw [ez13]; exact QS.mono (((fz7.mul tpx.qs).add (fz9.mul tpz.qs)).add fz11) (by first | decide | omega)
      have h14 : z13 = 0 := by (subst_vars; grind)
      obtain ⟨z15, ez15⟩ : ∃ q : Rat, q = -rlb := ⟨_, rfl⟩
      have fz15 : QS 4194309 z15 := by rw [ez15]; exact QS.mono tlb.qs.neg (by first | decide | omega)
      obtain ⟨z16, ez16⟩ : ∃ q : Rat, q = -z9 := ⟨_, rfl⟩
      have fz16 : QS 167772373 z16 := by rw [ez16]; exact QS.mono fz9.neg (by first | decide | omega)
      have h17 : ((z15 * rtc - rla * rts) * z7) - ((z15 * rts + rla * rtc) * z16) = 0 := by (subst_vars; grind)
      refine region_abs [.pure (In (0)), .pure (Bo true), .pure (Bo true), .pure (Agg [Tx s8, Tx s10, Tx s12]), .pure (Bo true), .pure (Bo true), .pure (Bo true), .pure (Agg [Tx s8, Tx s10, Tx s12]), .pure (Agg [Tx px, Tx pz]), .pure (Agg [Rt rpx, Rt rpz]), .pure (Rt z13), .pure (Bo true), .pure (Bo true), .pure (Bo true), .pure (Agg [Tx ts, Tx tc]), .pure (Agg [Tx la, Tx lb, Tx lc]), .pure (Agg [Rt z15, Rt rla]), .pure (Agg [Tx s8, Tx s10, Tx s12]), .pure (Agg [Rt z16, Rt z7]), .pure (Bo true), .pure (Bo true), .pure (Bo true)] ⟨S9, by decide +kernel⟩ (by kernel_rfl) (by kernel_rfl) rfl (by kernel_rfl) ?_ ?_
      · intro C
        refine ASteps.cons ?_ (ASteps.cons ?_ (ASteps.cons ?_ (ASteps.cons ?_ (ASteps.cons ?_ (ASteps.cons ?_ (ASteps.cons ?_ (ASteps.cons ?_ (ASteps.cons ?_ (ASteps.cons ?_ (ASteps.cons ?_ (ASteps.cons ?_ (ASteps.cons ?_ (ASteps.cons ?_ (ASteps.cons ?_ (ASteps.cons ?_ (ASteps.cons ?_ (ASteps.cons ?_ (ASteps.cons ?_ (ASteps.cons ?_ (ASteps.cons ?_ (ASteps.cons ?_ (ASteps.nil))))))))))))))))))))))
        · exact step_move rfl rfl (want_none rfl) rfl (opn_old C 1 (by kernel_rfl) rfl)
        · exact step_bin rfl rfl (want_none rfl) rfl (opn_new C 0 0 rfl rfl rfl rfl rfl rfl) (opn_const _) (run_eql_int _ _ _ _ _ _ rfl)
        · exact step_move rfl rfl (want_none rfl) rfl (opn_new C 1 0 rfl rfl rfl rfl rfl rfl)
        · exact step_load (k := 3) rfl rfl rfl (want_yes C 2 0 true rfl rfl rfl rfl rfl rfl rfl) rfl (opn_old C 2 (by kernel_rfl) rfl) (no_over (by kernel_rfl)) loads_L
        · exact step_call HPRE rfl rfl (want_yes C 2 1 true rfl rfl rfl rfl rfl rfl rfl) rfl en_compassref_PlainL (Opns.cons (opn_new C 3 0 rfl rfl rfl rfl rfl rfl) Opns.nil) (con_PlainL ts8 ts10 ts12 (TX.right es8) (TX.right es10) (TX.right es12) (by first | decide | omega) (plain_ne h6 ez7 ez9) (plain_three h6 ez7 ez9 ez11))
        · exact step_pick true rfl rfl (want_none rfl) rfl (opn_new C 2 0 rfl rfl rfl rfl rfl rfl) (opn_new C 4 1 rfl rfl rfl rfl rfl rfl)
        · exact step_move rfl rfl (want_none rfl) rfl (opn_new C 5 0 rfl rfl rfl rfl rfl rfl)
        · exact step_load (k := 3) rfl rfl rfl (want_yes C 6 0 true rfl rfl rfl rfl rfl rfl rfl) rfl (opn_old C 2 (by kernel_rfl) rfl) (no_over (by kernel_rfl)) loads_L
        · exact step_load (k := 1) rfl rfl rfl (want_yes C 6 0 true rfl rfl rfl rfl rfl rfl rfl) rfl (opn_old C 5 (by kernel_rfl) rfl) (no_over (by kernel_rfl)) loads_P
        · exact step_call HPRE rfl rfl (want_yes C 6 1 true rfl rfl rfl rfl rfl rfl rfl) rfl en_compassref_P (Opns.cons (opn_new C 8 0 rfl rfl rfl rfl rfl rfl) Opns.nil) (con_P tpx tpz (by first | decide | omega) (by first | decide | omega))
        · exact step_call HPRE rfl rfl (want_yes C 6 3 true rfl rfl rfl rfl rfl rfl rfl) rfl en_compassref_At (Opns.cons (opn_new C 7 0 rfl rfl rfl rfl rfl rfl) (Opns.cons (opn_new C 9 1 rfl rfl rfl rfl rfl rfl) Opns.nil)) (con_At ts8 ts10 ts12 (QS.mono (l := 167772373) tpx.qs (by first | decide | omega)) (QS.mono (l := 167772373) tpz.qs (by first | decide | omega)) ez13 (by first | decide | omega) (by first | decide | omega))
        · exact step_call HPRE rfl rfl (want_yes C 6 2 true rfl rfl rfl rfl rfl rfl rfl) rfl en_compassref_Zero (Opns.cons (opn_new C 10 0 rfl rfl rfl rfl rfl rfl) Opns.nil) (con_Zero_t  h14)
        · exact step_pick true rfl rfl (want_none rfl) rfl (opn_new C 6 0 rfl rfl rfl rfl rfl rfl) (opn_new C 11 1 rfl rfl rfl rfl rfl rfl)
        · exact step_move rfl rfl (want_none rfl) rfl (opn_new C 12 0 rfl rfl rfl rfl rfl rfl)
        · exact step_load (k := 2) rfl rfl rfl (want_yes C 13 0 true rfl rfl rfl rfl rfl rfl rfl) rfl (opn_old C 4 (by kernel_rfl) rfl) (no_over (by kernel_rfl)) loads_T
        · exact step_load (k := 0) rfl rfl rfl (want_yes C 13 0 true rfl rfl rfl rfl rfl rfl rfl) rfl (opn_old C 6 (by kernel_rfl) rfl) (no_over (by kernel_rfl)) loads_L
        · exact step_call HPRE rfl rfl (want_yes C 13 1 true rfl rfl rfl rfl rfl rfl rfl) rfl en_compassref_Way (Opns.cons (opn_new C 15 0 rfl rfl rfl rfl rfl rfl) Opns.nil) (con_Way tla tlb tlc ez15 (by first | decide | omega))
        · exact step_load (k := 3) rfl rfl rfl (want_yes C 13 0 true rfl rfl rfl rfl rfl rfl rfl) rfl (opn_old C 2 (by kernel_rfl) rfl) (no_over (by kernel_rfl)) loads_L
        · exact step_call HPRE rfl rfl (want_yes C 13 2 true rfl rfl rfl rfl rfl rfl rfl) rfl en_compassref_Way (Opns.cons (opn_new C 17 0 rfl rfl rfl rfl rfl rfl) Opns.nil) (con_Way ts8 ts10 ts12 ez16 (by first | decide | omega))
        · exact step_call HPRE rfl rfl (want_yes C 13 4 true rfl rfl rfl rfl rfl rfl rfl) rfl en_compasslaw_turns (Opns.cons (opn_new C 14 0 rfl rfl rfl rfl rfl rfl) (Opns.cons (opn_new C 16 1 rfl rfl rfl rfl rfl rfl) (Opns.cons (opn_new C 18 2 rfl rfl rfl rfl rfl rfl) Opns.nil))) (con_turns (TX.mono (l := 167772373) tts (by first | decide | omega)) (TX.mono (l := 167772373) ttc (by first | decide | omega)) (QS.mono (l := 167772373) fz15 (by first | decide | omega)) (QS.mono (l := 167772373) tla.qs (by first | decide | omega)) fz16 fz7 (by first | decide | omega) (by first | decide | omega) h17)
        · exact step_pick true rfl rfl (want_none rfl) rfl (opn_new C 13 0 rfl rfl rfl rfl rfl rfl) (opn_new C 19 1 rfl rfl rfl rfl rfl rfl)
        · exact step_assign rfl rfl (want_none rfl) rfl (opn_new C 20 0 rfl rfl rfl rfl rfl rfl)
      intro γ a10 w10 S10
      replace S10 : AS w 58 [(6, Bo true)] [(G1_0, 26, Agg [Tx la, Tx lb, Tx lc]), (G1_1, 24, Agg [Tx px, Tx pz]), (G1_2, 67, Agg [Tx ts, Tx tc]), (G8_7, 26, Agg [Tx s8, Tx s10, Tx s12])] a10 w10 := cast (by kernel_rfl) (S10.keep [6])
      clear S9
      refine then_normal ?_
      refine wp_ret ?_
      exact S10.ret 0 rfl rfl fun v hv => ⟨S10.bel, v, rfl, hv⟩
theorem angleTurned_walk {w : World} {la lb lc px pz ts tc : ByteArray} (sla : la.size ≤ 1048576) (slb : lb.size ≤ 1048576) (slc : lc.size ≤ 1048576) (spx : px.size ≤ 1048576) (spz : pz.size ≤ 1048576) (sts : ts.size ≤ 1048576) (stc : tc.size ≤ 1048576) (tab : Tab w) (mx : MaxL w) :
    Calls Tryz.prog 13 #[.agg #[.string la, .string lb, .string lc], .agg #[.string px, .string pz], .agg #[.string ts, .string tc]] w fun e w' => Below w.heap.size w w' ∧ e = .returned (.bool true) := by
  refine (angleTurned sla (TX.param sla) slb (TX.param slb) slc (TX.param slc) spx (TX.param spx) spz (TX.param spz) sts (TX.param sts) stc (TX.param stc) w [.agg #[.string la, .string lb, .string lc], .agg #[.string px, .string pz], .agg #[.string ts, .string tc]] ⟨tab, mx⟩ ⟨L3.mk _ _ _ _, P2.mk _ _ _, P2.mk _ _ _, trivial⟩).mono ?_
  rintro _ w' ⟨hb, v, rfl, hv⟩
  exact ⟨hb, by rw [show v = _ from hv]⟩
end Go.Proofs.YtgajdmadbdbabaaGreatDoor
