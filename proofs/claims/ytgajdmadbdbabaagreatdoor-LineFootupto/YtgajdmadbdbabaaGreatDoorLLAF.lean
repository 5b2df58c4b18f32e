/- Part 14 of the walks and of the mathematics under them: LAF. -/
import Derived.Test.YtgajdmadbdbabaaGreatDoorA12
import Derived.Test.YtgajdmadbdbabaaGreatDoorA13
set_option maxHeartbeats 16000000
set_option maxRecDepth 100000
/- LAF -/
namespace Go.Proofs.YtgajdmadbdbabaaGreatDoor
open Go.RowKit Cx
theorem lineFoot {la lb lc px pz : ByteArray} {rla rlb rlc rpx rpz : Rat} (_ : la.size ≤ 1048576) (tla : TX 4194309 la rla) (_ : lb.size ≤ 1048576) (tlb : TX 4194309 lb rlb) (_ : lc.size ≤ 1048576) (tlc : TX 4194309 lc rlc) (_ : px.size ≤ 1048576) (tpx : TX 4194309 px rpx) (_ : pz.size ≤ 1048576) (tpz : TX 4194309 pz rpz) :
    Con Tryz.prog Pre 4 [Agg [Tx la, Tx lb, Tx lc], Agg [Tx px, Tx pz]] (Bo true) := by
  refine con_of (n := 120) Tryz.func4 rfl rfl (Nat.le_of_ble_eq_true rfl) ?_
  intro w a0 hp S0
  have HPRE : ∀ w', Below w.heap.size w w' → Pre w' := fun w' hb => hp.below hb
  refine wp_seq ?_
  refine region_abs [.alloc 26 (Agg [Tx la, Tx lb, Tx lc]), .alloc 24 (Agg [Tx px, Tx pz]), .pure (Bo false)] ⟨S0, by decide +kernel⟩ (by kernel_rfl) (by kernel_rfl) rfl (by kernel_rfl) ?_ ?_
  · intro C
    refine ASteps.cons ?_ (ASteps.cons ?_ (ASteps.cons ?_ (ASteps.nil)))
    · exact step_box rfl rfl (want_none rfl) rfl (no_fill (by kernel_rfl)) (opn_old C 0 (by kernel_rfl) rfl) (boxes_L (cok3 (nl_tx la) (nl_tx lb) (nl_tx lc)))
    · exact step_box rfl rfl (want_none rfl) rfl (no_fill (by kernel_rfl)) (opn_old C 1 (by kernel_rfl) rfl) (boxes_P (cok2 (nl_tx px) (nl_tx pz)))
    · exact step_assign rfl rfl (want_none rfl) rfl (opn_const _)
  intro γ a1 w1 S1
  replace S1 : AS w 120 [(4, Bo false), (3, Jus (.pointer (some ⟨γ 1, 0, none⟩))), (2, Jus (.pointer (some ⟨γ 0, 0, none⟩)))] [(γ 0, 26, Agg [Tx la, Tx lb, Tx lc]), (γ 1, 24, Agg [Tx px, Tx pz])] a1 w1 := cast (by kernel_rfl) (S1.keep [2, 3, 4])
  generalize γ 0 = G1_0 at S1
  generalize γ 1 = G1_1 at S1
  clear S0
  refine then_normal ?_
  refine wp_seq ?_
  by_cases h1 : rla = 0 ∧ rlb = 0
  ·
    refine region_abs [.pure (Agg [Tx la, Tx lb, Tx lc]), .pure (Agg [Tx px, Tx pz]), .pure (Tup [Agg [Tx ⟨#[]⟩, Tx ⟨#[]⟩], In (5)]), .pure (Tup [Agg [Tx ⟨#[]⟩, Tx ⟨#[]⟩], In (5)]), .pure (Agg [Tx ⟨#[]⟩, Tx ⟨#[]⟩]), .pure (In (5)), .alloc 24 (Agg [Tx ⟨#[]⟩, Tx ⟨#[]⟩]), .fill 6 (Agg [Tx ⟨#[]⟩, Tx ⟨#[]⟩]), .pure (In (5))] ⟨S1, by decide +kernel⟩ (by kernel_rfl) (by kernel_rfl) rfl (by kernel_rfl) ?_ ?_
    · intro C
      refine ASteps.cons ?_ (ASteps.cons ?_ (ASteps.cons ?_ (ASteps.cons ?_ (ASteps.cons ?_ (ASteps.cons ?_ (ASteps.cons ?_ (ASteps.cons ?_ (ASteps.cons ?_ (ASteps.nil)))))))))
      · exact step_load (k := 0) rfl rfl rfl (want_none rfl) rfl (opn_old C 2 (by kernel_rfl) rfl) (no_over (by kernel_rfl)) loads_L
      · exact step_load (k := 1) rfl rfl rfl (want_none rfl) rfl (opn_old C 1 (by kernel_rfl) rfl) (no_over (by kernel_rfl)) loads_P
      · exact step_call HPRE rfl rfl (want_none rfl) rfl en_line_Foot (Opns.cons (opn_new C 0 0 rfl rfl rfl rfl rfl rfl) (Opns.cons (opn_new C 1 1 rfl rfl rfl rfl rfl rfl) Opns.nil)) (con_foot_flat tla tlb tlc tpx tpz (by first | decide | omega) (by first | decide | omega) h1)
      · exact step_move rfl rfl (want_none rfl) rfl (opn_new C 2 0 rfl rfl rfl rfl rfl rfl)
      · exact step_extract (k := 0) rfl rfl (want_none rfl) rfl (opn_new C 3 0 rfl rfl rfl rfl rfl rfl) rfl
      · exact step_extract (k := 1) rfl rfl (want_none rfl) rfl (opn_new C 3 0 rfl rfl rfl rfl rfl rfl) rfl
      · exact step_new [.string ⟨#[]⟩, .string ⟨#[]⟩] zero_P rfl rfl (want_none rfl) rfl (fill_waits (s0 := 7) (k := 0) (by kernel_rfl) rfl rfl rfl rfl) allocs_P (by simp [notLimb]) (by kernel_rfl)
      · exact step_fill C (a := 6) (k := 0) rfl rfl rfl rfl (want_none rfl) rfl rfl rfl rfl rfl (by decide) (one_fill (by kernel_rfl)) (opn_new C 4 1 rfl rfl rfl rfl rfl rfl) (stores_P (cok2 (nl_tx ⟨#[]⟩) (nl_tx ⟨#[]⟩)))
      · exact step_assign rfl rfl (want_none rfl) rfl (opn_new C 5 0 rfl rfl rfl rfl rfl rfl)
    intro γ a2 w2 S2
    replace S2 : AS w 120 [(6, In (5)), (5, Jus (.pointer (some ⟨γ 6, 0, none⟩))), (4, Bo false), (3, Jus (.pointer (some ⟨G1_1, 0, none⟩))), (2, Jus (.pointer (some ⟨G1_0, 0, none⟩)))] [(G1_0, 26, Agg [Tx la, Tx lb, Tx lc]), (G1_1, 24, Agg [Tx px, Tx pz]), (γ 6, 24, Agg [Tx ⟨#[]⟩, Tx ⟨#[]⟩])] a2 w2 := cast (by kernel_rfl) (S2.keep [2, 3, 4, 5, 6])
    generalize γ 6 = G2_6 at S2
    clear S1
    refine then_normal ?_
    refine wp_seq ?_
    refine region_abs [.pure (Agg [Tx la, Tx lb, Tx lc]), .pure (Agg [Tx px, Tx pz]), .pure (Tup [Agg [Tx ⟨#[]⟩, Tx ⟨#[]⟩], In (5)]), .pure (Tup [Agg [Tx ⟨#[]⟩, Tx ⟨#[]⟩], In (5)]), .pure (Agg [Tx ⟨#[]⟩, Tx ⟨#[]⟩]), .pure (In (5)), .alloc 24 (Agg [Tx ⟨#[]⟩, Tx ⟨#[]⟩]), .fill 6 (Agg [Tx ⟨#[]⟩, Tx ⟨#[]⟩]), .pure (In (5))] ⟨S2, by decide +kernel⟩ (by kernel_rfl) (by kernel_rfl) rfl (by kernel_rfl) ?_ ?_
    · intro C
      refine ASteps.cons ?_ (ASteps.cons ?_ (ASteps.cons ?_ (ASteps.cons ?_ (ASteps.cons ?_ (ASteps.cons ?_ (ASteps.cons ?_ (ASteps.cons ?_ (ASteps.cons ?_ (ASteps.nil)))))))))
      · exact step_load (k := 0) rfl rfl rfl (want_none rfl) rfl (opn_old C 4 (by kernel_rfl) rfl) (no_over (by kernel_rfl)) loads_L
      · exact step_load (k := 1) rfl rfl rfl (want_none rfl) rfl (opn_old C 3 (by kernel_rfl) rfl) (no_over (by kernel_rfl)) loads_P
      · exact step_call HPRE rfl rfl (want_none rfl) rfl en_line_Mirror (Opns.cons (opn_new C 0 0 rfl rfl rfl rfl rfl rfl) (Opns.cons (opn_new C 1 1 rfl rfl rfl rfl rfl rfl) Opns.nil)) (con_mirror_flat tla tlb tlc tpx tpz (by first | decide | omega) (by first | decide | omega) (by first | decide | omega) h1)
      · exact step_move rfl rfl (want_none rfl) rfl (opn_new C 2 0 rfl rfl rfl rfl rfl rfl)
      · exact step_extract (k := 0) rfl rfl (want_none rfl) rfl (opn_new C 3 0 rfl rfl rfl rfl rfl rfl) rfl
      · exact step_extract (k := 1) rfl rfl (want_none rfl) rfl (opn_new C 3 0 rfl rfl rfl rfl rfl rfl) rfl
      · exact step_new [.string ⟨#[]⟩, .string ⟨#[]⟩] zero_P rfl rfl (want_none rfl) rfl (fill_waits (s0 := 7) (k := 0) (by kernel_rfl) rfl rfl rfl rfl) allocs_P (by simp [notLimb]) (by kernel_rfl)
      · exact step_fill C (a := 6) (k := 0) rfl rfl rfl rfl (want_none rfl) rfl rfl rfl rfl rfl (by decide) (one_fill (by kernel_rfl)) (opn_new C 4 1 rfl rfl rfl rfl rfl rfl) (stores_P (cok2 (nl_tx ⟨#[]⟩) (nl_tx ⟨#[]⟩)))
      · exact step_assign rfl rfl (want_none rfl) rfl (opn_new C 5 0 rfl rfl rfl rfl rfl rfl)
    intro γ a3 w3 S3
    replace S3 : AS w 120 [(8, In (5)), (7, Jus (.pointer (some ⟨γ 6, 0, none⟩))), (6, In (5)), (5, Jus (.pointer (some ⟨G2_6, 0, none⟩))), (4, Bo false), (3, Jus (.pointer (some ⟨G1_1, 0, none⟩))), (2, Jus (.pointer (some ⟨G1_0, 0, none⟩)))] [(G1_0, 26, Agg [Tx la, Tx lb, Tx lc]), (G1_1, 24, Agg [Tx px, Tx pz]), (G2_6, 24, Agg [Tx ⟨#[]⟩, Tx ⟨#[]⟩]), (γ 6, 24, Agg [Tx ⟨#[]⟩, Tx ⟨#[]⟩])] a3 w3 := cast (by kernel_rfl) (S3.keep [2, 3, 4, 5, 6, 7, 8])
    generalize γ 6 = G3_6 at S3
    clear S2
    refine then_normal ?_
    refine wp_seq ?_
    refine region_abs [.pure (Agg [Tx la, Tx lb, Tx lc]), .pure (Agg [Tx px, Tx pz]), .pure (Tup [Tx ⟨#[]⟩, In (5)]), .pure (Tup [Tx ⟨#[]⟩, In (5)]), .pure (Tx ⟨#[]⟩), .pure (In (5)), .pure (Tx ⟨#[]⟩), .pure (In (5))] ⟨S3, by decide +kernel⟩ (by kernel_rfl) (by kernel_rfl) rfl (by kernel_rfl) ?_ ?_
    · intro C
      refine ASteps.cons ?_ (ASteps.cons ?_ (ASteps.cons ?_ (ASteps.cons ?_ (ASteps.cons ?_ (ASteps.cons ?_ (ASteps.cons ?_ (ASteps.cons ?_ (ASteps.nil))))))))
      · exact step_load (k := 0) rfl rfl rfl (want_none rfl) rfl (opn_old C 6 (by kernel_rfl) rfl) (no_over (by kernel_rfl)) loads_L
      · exact step_load (k := 1) rfl rfl rfl (want_none rfl) rfl (opn_old C 5 (by kernel_rfl) rfl) (no_over (by kernel_rfl)) loads_P
      · exact step_call HPRE rfl rfl (want_none rfl) rfl en_line_Far2 (Opns.cons (opn_new C 0 0 rfl rfl rfl rfl rfl rfl) (Opns.cons (opn_new C 1 1 rfl rfl rfl rfl rfl rfl) Opns.nil)) (con_lfar2_flat tla tlb tlc tpx tpz (by first | decide | omega) (by first | decide | omega) h1)
      · exact step_move rfl rfl (want_none rfl) rfl (opn_new C 2 0 rfl rfl rfl rfl rfl rfl)
      · exact step_extract (k := 0) rfl rfl (want_none rfl) rfl (opn_new C 3 0 rfl rfl rfl rfl rfl rfl) rfl
      · exact step_extract (k := 1) rfl rfl (want_none rfl) rfl (opn_new C 3 0 rfl rfl rfl rfl rfl rfl) rfl
      · exact step_assign rfl rfl (want_none rfl) rfl (opn_new C 4 0 rfl rfl rfl rfl rfl rfl)
      · exact step_assign rfl rfl (want_none rfl) rfl (opn_new C 5 0 rfl rfl rfl rfl rfl rfl)
    intro γ a4 w4 S4
    replace S4 : AS w 120 [(10, In (5)), (9, Tx ⟨#[]⟩), (8, In (5)), (7, Jus (.pointer (some ⟨G3_6, 0, none⟩))), (6, In (5)), (5, Jus (.pointer (some ⟨G2_6, 0, none⟩))), (4, Bo false), (3, Jus (.pointer (some ⟨G1_1, 0, none⟩))), (2, Jus (.pointer (some ⟨G1_0, 0, none⟩)))] [(G1_0, 26, Agg [Tx la, Tx lb, Tx lc]), (G1_1, 24, Agg [Tx px, Tx pz]), (G2_6, 24, Agg [Tx ⟨#[]⟩, Tx ⟨#[]⟩]), (G3_6, 24, Agg [Tx ⟨#[]⟩, Tx ⟨#[]⟩])] a4 w4 := cast (by kernel_rfl) (S4.keep [2, 3, 4, 5, 6, 7, 8, 9, 10])
    clear S3
    refine then_normal ?_
    refine wp_seq ?_
    refine wp_seq ?_
    refine region_abs [.pure (Bo true), .pure (Bo false), .pure (Bo false), .pure (Agg [Tx la, Tx lb, Tx lc]), .pure (Bo false), .pure (Bo true), .pure (Bo true)] ⟨S4, by decide +kernel⟩ (by kernel_rfl) (by kernel_rfl) rfl (by kernel_rfl) ?_ ?_
    · intro C
      refine ASteps.cons ?_ (ASteps.cons ?_ (ASteps.cons ?_ (ASteps.cons ?_ (ASteps.cons ?_ (ASteps.cons ?_ (ASteps.cons ?_ (ASteps.nil)))))))
      · exact step_call HPRE rfl rfl (want_none rfl) rfl en_compasslaw_lined Opns.nil (con_lined)
      · exact step_not true rfl rfl (want_none rfl) rfl (opn_new C 0 0 rfl rfl rfl rfl rfl rfl)
      · exact step_move rfl rfl (want_none rfl) rfl (opn_new C 1 0 rfl rfl rfl rfl rfl rfl)
      · exact step_load (k := 0) rfl rfl rfl (want_yes C 2 0 false rfl rfl rfl rfl rfl rfl rfl) rfl (opn_old C 8 (by kernel_rfl) rfl) (no_over (by kernel_rfl)) loads_L
      · exact step_call HPRE rfl rfl (want_yes C 2 1 false rfl rfl rfl rfl rfl rfl rfl) rfl en_compassref_Line (Opns.cons (opn_new C 3 0 rfl rfl rfl rfl rfl rfl) Opns.nil) (con_Line_f tla tlb tlc (by first | decide | omega) h1)
      · exact step_not false rfl rfl (want_yes C 2 1 false rfl rfl rfl rfl rfl rfl rfl) rfl (opn_new C 4 0 rfl rfl rfl rfl rfl rfl)
      · exact step_pick false rfl rfl (want_none rfl) rfl (opn_new C 2 0 rfl rfl rfl rfl rfl rfl) (opn_new C 5 1 rfl rfl rfl rfl rfl rfl)
    intro γ a5 w5 S5
    replace S5 : AS w 120 [(38, Bo true), (10, In (5)), (9, Tx ⟨#[]⟩), (8, In (5)), (7, Jus (.pointer (some ⟨G3_6, 0, none⟩))), (6, In (5)), (5, Jus (.pointer (some ⟨G2_6, 0, none⟩))), (4, Bo false), (3, Jus (.pointer (some ⟨G1_1, 0, none⟩))), (2, Jus (.pointer (some ⟨G1_0, 0, none⟩)))] [(G1_0, 26, Agg [Tx la, Tx lb, Tx lc]), (G1_1, 24, Agg [Tx px, Tx pz]), (G2_6, 24, Agg [Tx ⟨#[]⟩, Tx ⟨#[]⟩]), (G3_6, 24, Agg [Tx ⟨#[]⟩, Tx ⟨#[]⟩])] a5 w5 := cast (by kernel_rfl) (S5.keep [2, 3, 4, 5, 6, 7, 8, 9, 10, 38])
    clear S4
    refine then_normal ?_
    refine wp_cond_true (S5.val 0 rfl) ?_
    refine wp_seq ?_
    refine region_abs [.pure (Bo true), .pure (Bo true), .pure (In (5)), .pure (Bo true), .pure (Bo true), .pure (Bo true), .pure (In (5)), .pure (In (5)), .pure (Bo true), .pure (Bo true), .pure (Bo true), .pure (In (5)), .pure (In (5)), .pure (Bo true), .pure (Bo true), .pure (Bo true), .pure (Agg [Tx ⟨#[]⟩, Tx ⟨#[]⟩]), .pure (Bo true), .pure (Bo true), .pure (Bo true), .pure (Agg [Tx ⟨#[]⟩, Tx ⟨#[]⟩]), .pure (Bo true), .pure (Bo true), .pure (Bo true), .pure (Tx ⟨#[]⟩), .pure (Bo true), .pure (Bo true), .pure (Bo true)] ⟨S5, by decide +kernel⟩ (by kernel_rfl) (by kernel_rfl) rfl (by kernel_rfl) ?_ ?_
    · intro C
      refine ASteps.cons ?_ (ASteps.cons ?_ (ASteps.cons ?_ (ASteps.cons ?_ (ASteps.cons ?_ (ASteps.cons ?_ (ASteps.cons ?_ (ASteps.cons ?_ (ASteps.cons ?_ (ASteps.cons ?_ (ASteps.cons ?_ (ASteps.cons ?_ (ASteps.cons ?_ (ASteps.cons ?_ (ASteps.cons ?_ (ASteps.cons ?_ (ASteps.cons ?_ (ASteps.cons ?_ (ASteps.cons ?_ (ASteps.cons ?_ (ASteps.cons ?_ (ASteps.cons ?_ (ASteps.cons ?_ (ASteps.cons ?_ (ASteps.cons ?_ (ASteps.cons ?_ (ASteps.cons ?_ (ASteps.cons ?_ (ASteps.nil))))))))))))))))))))))))))))
      · exact step_call HPRE rfl rfl (want_none rfl) rfl en_compasslaw_lined Opns.nil (con_lined)
      · exact step_move rfl rfl (want_none rfl) rfl (opn_new C 0 0 rfl rfl rfl rfl rfl rfl)
      · exact step_move rfl rfl (want_yes C 1 0 true rfl rfl rfl rfl rfl rfl rfl) rfl (opn_old C 5 (by kernel_rfl) rfl)
      · exact step_bin rfl rfl (want_yes C 1 1 true rfl rfl rfl rfl rfl rfl rfl) rfl (opn_new C 2 0 rfl rfl rfl rfl rfl rfl) (opn_const _) (run_eql_int _ _ _ _ _ _ rfl)
      · exact step_pick true rfl rfl (want_none rfl) rfl (opn_new C 1 0 rfl rfl rfl rfl rfl rfl) (opn_new C 3 1 rfl rfl rfl rfl rfl rfl)
      · exact step_move rfl rfl (want_none rfl) rfl (opn_new C 4 0 rfl rfl rfl rfl rfl rfl)
      · exact step_move rfl rfl (want_yes C 5 0 true rfl rfl rfl rfl rfl rfl rfl) rfl (opn_old C 3 (by kernel_rfl) rfl)
      · exact step_move rfl rfl (want_yes C 5 0 true rfl rfl rfl rfl rfl rfl rfl) rfl (opn_old C 5 (by kernel_rfl) rfl)
      · exact step_bin rfl rfl (want_yes C 5 2 true rfl rfl rfl rfl rfl rfl rfl) rfl (opn_new C 6 0 rfl rfl rfl rfl rfl rfl) (opn_new C 7 1 rfl rfl rfl rfl rfl rfl) (run_eql_int _ _ _ _ _ _ rfl)
      · exact step_pick true rfl rfl (want_none rfl) rfl (opn_new C 5 0 rfl rfl rfl rfl rfl rfl) (opn_new C 8 1 rfl rfl rfl rfl rfl rfl)
      · exact step_move rfl rfl (want_none rfl) rfl (opn_new C 9 0 rfl rfl rfl rfl rfl rfl)
      · exact step_move rfl rfl (want_yes C 10 0 true rfl rfl rfl rfl rfl rfl rfl) rfl (opn_old C 1 (by kernel_rfl) rfl)
      · exact step_move rfl rfl (want_yes C 10 0 true rfl rfl rfl rfl rfl rfl rfl) rfl (opn_old C 5 (by kernel_rfl) rfl)
      · exact step_bin rfl rfl (want_yes C 10 2 true rfl rfl rfl rfl rfl rfl rfl) rfl (opn_new C 11 0 rfl rfl rfl rfl rfl rfl) (opn_new C 12 1 rfl rfl rfl rfl rfl rfl) (run_eql_int _ _ _ _ _ _ rfl)
      · exact step_pick true rfl rfl (want_none rfl) rfl (opn_new C 10 0 rfl rfl rfl rfl rfl rfl) (opn_new C 13 1 rfl rfl rfl rfl rfl rfl)
      · exact step_move rfl rfl (want_none rfl) rfl (opn_new C 14 0 rfl rfl rfl rfl rfl rfl)
      · exact step_load (k := 2) rfl rfl rfl (want_yes C 15 0 true rfl rfl rfl rfl rfl rfl rfl) rfl (opn_old C 6 (by kernel_rfl) rfl) (no_over (by kernel_rfl)) loads_P
      · exact step_call HPRE rfl rfl (want_yes C 15 1 true rfl rfl rfl rfl rfl rfl rfl) rfl en_compasslaw_noP (Opns.cons (opn_new C 16 0 rfl rfl rfl rfl rfl rfl) Opns.nil) (con_noP)
      · exact step_pick true rfl rfl (want_none rfl) rfl (opn_new C 15 0 rfl rfl rfl rfl rfl rfl) (opn_new C 17 1 rfl rfl rfl rfl rfl rfl)
      · exact step_move rfl rfl (want_none rfl) rfl (opn_new C 18 0 rfl rfl rfl rfl rfl rfl)
      · exact step_load (k := 3) rfl rfl rfl (want_yes C 19 0 true rfl rfl rfl rfl rfl rfl rfl) rfl (opn_old C 4 (by kernel_rfl) rfl) (no_over (by kernel_rfl)) loads_P
      · exact step_call HPRE rfl rfl (want_yes C 19 1 true rfl rfl rfl rfl rfl rfl rfl) rfl en_compasslaw_noP (Opns.cons (opn_new C 20 0 rfl rfl rfl rfl rfl rfl) Opns.nil) (con_noP)
      · exact step_pick true rfl rfl (want_none rfl) rfl (opn_new C 19 0 rfl rfl rfl rfl rfl rfl) (opn_new C 21 1 rfl rfl rfl rfl rfl rfl)
      · exact step_move rfl rfl (want_none rfl) rfl (opn_new C 22 0 rfl rfl rfl rfl rfl rfl)
      · exact step_move rfl rfl (want_yes C 23 0 true rfl rfl rfl rfl rfl rfl rfl) rfl (opn_old C 2 (by kernel_rfl) rfl)
      · exact step_bin rfl rfl (want_yes C 23 1 true rfl rfl rfl rfl rfl rfl rfl) rfl (opn_new C 24 0 rfl rfl rfl rfl rfl rfl) (opn_const _) (run_eql_str_t rfl)
      · exact step_pick true rfl rfl (want_none rfl) rfl (opn_new C 23 0 rfl rfl rfl rfl rfl rfl) (opn_new C 25 1 rfl rfl rfl rfl rfl rfl)
      · exact step_assign rfl rfl (want_none rfl) rfl (opn_new C 26 0 rfl rfl rfl rfl rfl rfl)
    intro γ a6 w6 S6
    replace S6 : AS w 120 [(4, Bo true), (10, In (5)), (9, Tx ⟨#[]⟩), (8, In (5)), (7, Jus (.pointer (some ⟨G3_6, 0, none⟩))), (6, In (5)), (5, Jus (.pointer (some ⟨G2_6, 0, none⟩))), (3, Jus (.pointer (some ⟨G1_1, 0, none⟩))), (2, Jus (.pointer (some ⟨G1_0, 0, none⟩)))] [(G1_0, 26, Agg [Tx la, Tx lb, Tx lc]), (G1_1, 24, Agg [Tx px, Tx pz]), (G2_6, 24, Agg [Tx ⟨#[]⟩, Tx ⟨#[]⟩]), (G3_6, 24, Agg [Tx ⟨#[]⟩, Tx ⟨#[]⟩])] a6 w6 := cast (by kernel_rfl) (S6.keep [2, 3, 4, 5, 6, 7, 8, 9, 10])
    clear S5
    refine then_normal ?_
    refine wp_ret ?_
    refine then_ret ?_
    exact S6.ret 0 rfl rfl fun v hv => ⟨S6.bel, v, rfl, hv⟩
  ·
    obtain ⟨z2, ez2⟩ : ∃ q : Rat, q = rpx + rla * -(rla * rpx + rlb * rpz + rlc) / (rla * rla + rlb * rlb) * ((1 : Nat) : Rat) := ⟨_, rfl⟩
    have fz2 : QS 46137411 z2 := by rw [ez2]; exact QS.mono (tpx.qs.add (((tla.qs.mul (((tla.qs.mul tpx.qs).add (tlb.qs.mul tpz.qs)).add tlc.qs).neg).div ((tla.qs.mul tla.qs).add (tlb.qs.mul tlb.qs))).mul qs_1)) (by first | decide | omega)
    obtain ⟨z3, ez3⟩ : ∃ q : Rat, q = rpz + rlb * -(rla * rpx + rlb * rpz + rlc) / (rla * rla + rlb * rlb) * ((1 : Nat) : Rat) := ⟨_, rfl⟩
    have fz3 : QS 46137411 z3 := by rw [ez3]; exact QS.mono (tpz.qs.add (((tlb.qs.mul (((tla.qs.mul tpx.qs).add (tlb.qs.mul tpz.qs)).add tlc.qs).neg).div ((tla.qs.mul tla.qs).add (tlb.qs.mul tlb.qs))).mul qs_1)) (by first | decide | omega)
    obtain ⟨s4, es4⟩ : ∃ s : ByteArray, s.data.toList = tx z2 := ⟨⟨(tx z2).toArray⟩, by simp⟩
    have ts4 : TX 46137411 s4 z2 := TX.told es4 fz2
    obtain ⟨s5, es5⟩ : ∃ s : ByteArray, s.data.toList = tx z3 := ⟨⟨(tx z3).toArray⟩, by simp⟩
    have ts5 : TX 46137411 s5 z3 := TX.told es5 fz3
    refine region_abs [.pure (Agg [Tx la, Tx lb, Tx lc]), .pure (Agg [Tx px, Tx pz]), .pure (Tup [Agg [Tx s4, Tx s5], In (0)]), .pure (Tup [Agg [Tx s4, Tx s5], In (0)]), .pure (Agg [Tx s4, Tx s5]), .pure (In (0)), .alloc 24 (Agg [Tx ⟨#[]⟩, Tx ⟨#[]⟩]), .fill 6 (Agg [Tx s4, Tx s5]), .pure (In (0))] ⟨S1, by decide +kernel⟩ (by kernel_rfl) (by kernel_rfl) rfl (by kernel_rfl) ?_ ?_
    · intro C
      refine ASteps.cons ?_ (ASteps.cons ?_ (ASteps.cons ?_ (ASteps.cons ?_ (ASteps.cons ?_ (ASteps.cons ?_ (ASteps.cons ?_ (ASteps.cons ?_ (ASteps.cons ?_ (ASteps.nil)))))))))
      · exact step_load (k := 0) rfl rfl rfl (want_none rfl) rfl (opn_old C 2 (by kernel_rfl) rfl) (no_over (by kernel_rfl)) loads_L
      · exact step_load (k := 1) rfl rfl rfl (want_none rfl) rfl (opn_old C 1 (by kernel_rfl) rfl) (no_over (by kernel_rfl)) loads_P
      · exact step_call HPRE rfl rfl (want_none rfl) rfl en_line_Foot (Opns.cons (opn_new C 0 0 rfl rfl rfl rfl rfl rfl) (Opns.cons (opn_new C 1 1 rfl rfl rfl rfl rfl rfl) Opns.nil)) (con_foot_ok tla tlb tlc tpx tpz (by first | decide | omega) (by first | decide | omega) h1 (es4.trans (by rw [ez2])) (es5.trans (by rw [ez3])))
      · exact step_move rfl rfl (want_none rfl) rfl (opn_new C 2 0 rfl rfl rfl rfl rfl rfl)
      · exact step_extract (k := 0) rfl rfl (want_none rfl) rfl (opn_new C 3 0 rfl rfl rfl rfl rfl rfl) rfl
      · exact step_extract (k := 1) rfl rfl (want_none rfl) rfl (opn_new C 3 0 rfl rfl rfl rfl rfl rfl) rfl
      · exact step_new [.string ⟨#[]⟩, .string ⟨#[]⟩] zero_P rfl rfl (want_none rfl) rfl (fill_waits (s0 := 7) (k := 0) (by kernel_rfl) rfl rfl rfl rfl) allocs_P (by simp [notLimb]) (by kernel_rfl)
      · exact step_fill C (a := 6) (k := 0) rfl rfl rfl rfl (want_none rfl) rfl rfl rfl rfl rfl (by decide) (one_fill (by kernel_rfl)) (opn_new C 4 1 rfl rfl rfl rfl rfl rfl) (stores_P (cok2 (nl_tx s4) (nl_tx s5)))
      · exact step_assign rfl rfl (want_none rfl) rfl (opn_new C 5 0 rfl rfl rfl rfl rfl rfl)
    intro γ a7 w7 S7
    replace S7 : AS w 120 [(6, In (0)), (5, Jus (.pointer (some ⟨γ 6, 0, none⟩))), (4, Bo false), (3, Jus (.pointer (some ⟨G1_1, 0, none⟩))), (2, Jus (.pointer (some ⟨G1_0, 0, none⟩)))] [(G1_0, 26, Agg [Tx la, Tx lb, Tx lc]), (G1_1, 24, Agg [Tx px, Tx pz]), (γ 6, 24, Agg [Tx s4, Tx s5])] a7 w7 := cast (by kernel_rfl) (S7.keep [2, 3, 4, 5, 6])
    generalize γ 6 = G7_6 at S7
    clear S1
    refine then_normal ?_
    refine wp_seq ?_
    obtain ⟨z6, ez6⟩ : ∃ q : Rat, q = rpx + rla * -(rla * rpx + rlb * rpz + rlc) / (rla * rla + rlb * rlb) * ((2 : Nat) : Rat) := ⟨_, rfl⟩
    have fz6 : QS 46137411 z6 := by rw [ez6]; exact QS.mono (tpx.qs.add (((tla.qs.mul (((tla.qs.mul tpx.qs).add (tlb.qs.mul tpz.qs)).add tlc.qs).neg).div ((tla.qs.mul tla.qs).add (tlb.qs.mul tlb.qs))).mul qs_2)) (by first | decide | omega)
    obtain ⟨z7, ez7⟩ : ∃ q : Rat, q = rpz + rlb * -(rla * rpx + rlb * rpz + rlc) / (rla * rla + rlb * rlb) * ((2 : Nat) : Rat) := ⟨_, rfl⟩
    have fz7 : QS 46137411 z7 := by rw [ez7]; exact QS.mono (tpz.qs.add (((tlb.qs.mul (((tla.qs.mul tpx.qs).add (tlb.qs.mul tpz.qs)).add tlc.qs).neg).div ((tla.qs.mul tla.qs).add (tlb.qs.mul tlb.qs))).mul qs_2)) (by first | decide | omega)
    obtain ⟨s8, es8⟩ : ∃ s : ByteArray, s.data.toList = tx z6 := ⟨⟨(tx z6).toArray⟩, by simp⟩
    have ts8 : TX 46137411 s8 z6 := TX.told es8 fz6
    obtain ⟨s9, es9⟩ : ∃ s : ByteArray, s.data.toList = tx z7 := ⟨⟨(tx z7).toArray⟩, by simp⟩
    have ts9 : TX 46137411 s9 z7 := TX.told es9 fz7
    refine region_abs [.pure (Agg [Tx la, Tx lb, Tx lc]), .pure (Agg [Tx px, Tx pz]), .pure (Tup [Agg [Tx s8, Tx s9], In (0)]), .pure (Tup [Agg [Tx s8, Tx s9], In (0)]), .pure (Agg [Tx s8, Tx s9]), .pure (In (0)), .alloc 24 (Agg [Tx ⟨#[]⟩, Tx ⟨#[]⟩]), .fill 6 (Agg [Tx s8, Tx s9]), .pure (In (0))] ⟨S7, by decide +kernel⟩ (by kernel_rfl) (by kernel_rfl) rfl (by kernel_rfl) ?_ ?_
    · intro C
      refine ASteps.cons ?_ (ASteps.cons ?_ (ASteps.cons ?_ (ASteps.cons ?_ (ASteps.cons ?_ (ASteps.cons ?_ (ASteps.cons ?_ (ASteps.cons ?_ (ASteps.cons ?_ (ASteps.nil)))))))))
      · exact step_load (k := 0) rfl rfl rfl (want_none rfl) rfl (opn_old C 4 (by kernel_rfl) rfl) (no_over (by kernel_rfl)) loads_L
      · exact step_load (k := 1) rfl rfl rfl (want_none rfl) rfl (opn_old C 3 (by kernel_rfl) rfl) (no_over (by kernel_rfl)) loads_P
      · exact step_call HPRE rfl rfl (want_none rfl) rfl en_line_Mirror (Opns.cons (opn_new C 0 0 rfl rfl rfl rfl rfl rfl) (Opns.cons (opn_new C 1 1 rfl rfl rfl rfl rfl rfl) Opns.nil)) (con_mirror_ok tla tlb tlc tpx tpz (by first | decide | omega) (by first | decide | omega) (by first | decide | omega) h1 (es8.trans (by rw [ez6])) (es9.trans (by rw [ez7])))
      · exact step_move rfl rfl (want_none rfl) rfl (opn_new C 2 0 rfl rfl rfl rfl rfl rfl)
      · exact step_extract (k := 0) rfl rfl (want_none rfl) rfl (opn_new C 3 0 rfl rfl rfl rfl rfl rfl) rfl
      · exact step_extract (k := 1) rfl rfl (want_none rfl) rfl (opn_new C 3 0 rfl rfl rfl rfl rfl rfl) rfl
      · exact step_new [.string ⟨#[]⟩, .string ⟨#[]⟩] zero_P rfl rfl (want_none rfl) rfl (fill_waits (s0 := 7) (k := 0) (by kernel_rfl) rfl rfl rfl rfl) allocs_P (by simp [notLimb]) (by kernel_rfl)
      · exact step_fill C (a := 6) (k := 0) rfl rfl rfl rfl (want_none rfl) rfl rfl rfl rfl rfl (by decide) (one_fill (by kernel_rfl)) (opn_new C 4 1 rfl rfl rfl rfl rfl rfl) (stores_P (cok2 (nl_tx s8) (nl_tx s9)))
      · exact step_assign rfl rfl (want_none rfl) rfl (opn_new C 5 0 rfl rfl rfl rfl rfl rfl)
    intro γ a8 w8 S8
    replace S8 : AS w 120 [(8, In (0)), (7, Jus (.pointer (some ⟨γ 6, 0, none⟩))), (6, In (0)), (5, Jus (.pointer (some ⟨G7_6, 0, none⟩))), (4, Bo false), (3, Jus (.pointer (some ⟨G1_1, 0, none⟩))), (2, Jus (.pointer (some ⟨G1_0, 0, none⟩)))] [(G1_0, 26, Agg [Tx la, Tx lb, Tx lc]), (G1_1, 24, Agg [Tx px, Tx pz]), (G7_6, 24, Agg [Tx s4, Tx s5]), (γ 6, 24, Agg [Tx s8, Tx s9])] a8 w8 := cast (by kernel_rfl) (S8.keep [2, 3, 4, 5, 6, 7, 8])
    generalize γ 6 = G8_6 at S8
    clear S7
    refine then_normal ?_
    refine wp_seq ?_
    obtain ⟨z10, ez10⟩ : ∃ q : Rat, q = (rla * rpx + rlb * rpz + rlc) * (rla * rpx + rlb * rpz + rlc) / (rla * rla + rlb * rlb) := ⟨_, rfl⟩
    have fz10 : QS 58720331 z10 := by rw [ez10]; exact QS.mono (((((tla.qs.mul tpx.qs).add (tlb.qs.mul tpz.qs)).add tlc.qs).mul (((tla.qs.mul tpx.qs).add (tlb.qs.mul tpz.qs)).add tlc.qs)).div ((tla.qs.mul tla.qs).add (tlb.qs.mul tlb.qs))) (by first | decide | omega)
    obtain ⟨s11, es11⟩ : ∃ s : ByteArray, s.data.toList = tx z10 := ⟨⟨(tx z10).toArray⟩, by simp⟩
    have ts11 : TX 58720331 s11 z10 := TX.told es11 fz10
    refine region_abs [.pure (Agg [Tx la, Tx lb, Tx lc]), .pure (Agg [Tx px, Tx pz]), .pure (Tup [Tx s11, In (0)]), .pure (Tup [Tx s11, In (0)]), .pure (Tx s11), .pure (In (0)), .pure (Tx s11), .pure (In (0))] ⟨S8, by decide +kernel⟩ (by kernel_rfl) (by kernel_rfl) rfl (by kernel_rfl) ?_ ?_
    · intro C
      refine ASteps.cons ?_ (ASteps.cons ?_ (ASteps.cons ?_ (ASteps.cons ?_ (ASteps.cons ?_ (ASteps.cons ?_ (ASteps.cons ?_ (ASteps.cons ?_ (ASteps.nil))))))))
      · exact step_load (k := 0) rfl rfl rfl (want_none rfl) rfl (opn_old C 6 (by kernel_rfl) rfl) (no_over (by kernel_rfl)) loads_L
      · exact step_load (k := 1) rfl rfl rfl (want_none rfl) rfl (opn_old C 5 (by kernel_rfl) rfl) (no_over (by kernel_rfl)) loads_P
      · exact step_call HPRE rfl rfl (want_none rfl) rfl en_line_Far2 (Opns.cons (opn_new C 0 0 rfl rfl rfl rfl rfl rfl) (Opns.cons (opn_new C 1 1 rfl rfl rfl rfl rfl rfl) Opns.nil)) (con_lfar2_ok tla tlb tlc tpx tpz (by first | decide | omega) (by first | decide | omega) h1 (es11.trans (by rw [ez10])))
      · exact step_move rfl rfl (want_none rfl) rfl (opn_new C 2 0 rfl rfl rfl rfl rfl rfl)
      · exact step_extract (k := 0) rfl rfl (want_none rfl) rfl (opn_new C 3 0 rfl rfl rfl rfl rfl rfl) rfl
      · exact step_extract (k := 1) rfl rfl (want_none rfl) rfl (opn_new C 3 0 rfl rfl rfl rfl rfl rfl) rfl
      · exact step_assign rfl rfl (want_none rfl) rfl (opn_new C 4 0 rfl rfl rfl rfl rfl rfl)
      · exact step_assign rfl rfl (want_none rfl) rfl (opn_new C 5 0 rfl rfl rfl rfl rfl rfl)
    intro γ a9 w9 S9
    replace S9 : AS w 120 [(10, In (0)), (9, Tx s11), (8, In (0)), (7, Jus (.pointer (some ⟨G8_6, 0, none⟩))), (6, In (0)), (5, Jus (.pointer (some ⟨G7_6, 0, none⟩))), (4, Bo false), (3, Jus (.pointer (some ⟨G1_1, 0, none⟩))), (2, Jus (.pointer (some ⟨G1_0, 0, none⟩)))] [(G1_0, 26, Agg [Tx la, Tx lb, Tx lc]), (G1_1, 24, Agg [Tx px, Tx pz]), (G7_6, 24, Agg [Tx s4, Tx s5]), (G8_6, 24, Agg [Tx s8, Tx s9])] a9 w9 := cast (by kernel_rfl) (S9.keep [2, 3, 4, 5, 6, 7, 8, 9, 10])
    clear S8
    refine then_normal ?_
    refine wp_seq ?_
    refine wp_seq ?_
    refine region_abs [.pure (Bo true), .pure (Bo false), .pure (Bo false), .pure (Agg [Tx la, Tx lb, Tx lc]), .pure (Bo true), .pure (Bo false), .pure (Bo false)] ⟨S9, by decide +kernel⟩ (by kernel_rfl) (by kernel_rfl) rfl (by kernel_rfl) ?_ ?_
    · intro C
      refine ASteps.cons ?_ (ASteps.cons ?_ (ASteps.cons ?_ (ASteps.cons ?_ (ASteps.cons ?_ (ASteps.cons ?_ (ASteps.cons ?_ (ASteps.nil)))))))
      · exact step_call HPRE rfl rfl (want_none rfl) rfl en_compasslaw_lined Opns.nil (con_lined)
      · exact step_not true rfl rfl (want_none rfl) rfl (opn_new C 0 0 rfl rfl rfl rfl rfl rfl)
      · exact step_move rfl rfl (want_none rfl) rfl (opn_new C 1 0 rfl rfl rfl rfl rfl rfl)
      · exact step_load (k := 0) rfl rfl rfl (want_yes C 2 0 false rfl rfl rfl rfl rfl rfl rfl) rfl (opn_old C 8 (by kernel_rfl) rfl) (no_over (by kernel_rfl)) loads_L
      · exact step_call HPRE rfl rfl (want_yes C 2 1 false rfl rfl rfl rfl rfl rfl rfl) rfl en_compassref_Line (Opns.cons (opn_new C 3 0 rfl rfl rfl rfl rfl rfl) Opns.nil) (con_Line_t tla tlb tlc (by first | decide | omega) h1)
      · exact step_not true rfl rfl (want_yes C 2 1 false rfl rfl rfl rfl rfl rfl rfl) rfl (opn_new C 4 0 rfl rfl rfl rfl rfl rfl)
      · exact step_pick false rfl rfl (want_none rfl) rfl (opn_new C 2 0 rfl rfl rfl rfl rfl rfl) (opn_new C 5 1 rfl rfl rfl rfl rfl rfl)
    intro γ a10 w10 S10
    replace S10 : AS w 120 [(38, Bo false), (10, In (0)), (9, Tx s11), (8, In (0)), (7, Jus (.pointer (some ⟨G8_6, 0, none⟩))), (6, In (0)), (5, Jus (.pointer (some ⟨G7_6, 0, none⟩))), (4, Bo false), (3, Jus (.pointer (some ⟨G1_1, 0, none⟩))), (2, Jus (.pointer (some ⟨G1_0, 0, none⟩)))] [(G1_0, 26, Agg [Tx la, Tx lb, Tx lc]), (G1_1, 24, Agg [Tx px, Tx pz]), (G7_6, 24, Agg [Tx s4, Tx s5]), (G8_6, 24, Agg [Tx s8, Tx s9])] a10 w10 := cast (by kernel_rfl) (S10.keep [2, 3, 4, 5, 6, 7, 8, 9, 10, 38])
    clear S9
    refine then_normal ?_
    refine wp_cond_false (S10.val 0 rfl) ?_
    refine wp_skip ?_
    refine then_normal ?_
    refine wp_seq ?_
    refine region_abs [.pure (Agg [Tx px, Tx pz]), .pure (Agg [Rt rpx, Rt rpz]), .pure (Agg [Tx s4, Tx s5]), .pure (Agg [Rt z2, Rt z3]), .pure (Agg [Tx s8, Tx s9]), .pure (Agg [Rt z6, Rt z7]), .alloc 43 (Agg [Jus (.pointer none), Jus (.pointer none)]), .alloc 43 (Agg [Jus (.pointer none), Jus (.pointer none)]), .alloc 43 (Agg [Jus (.pointer none), Jus (.pointer none)]), .fill 6 (Agg [Rt rpx, Rt rpz]), .fill 7 (Agg [Rt z2, Rt z3]), .fill 8 (Agg [Rt z6, Rt z7])] ⟨S10, by decide +kernel⟩ (by kernel_rfl) (by kernel_rfl) rfl (by kernel_rfl) ?_ ?_
    · intro C
      refine ASteps.cons ?_ (ASteps.cons ?_ (ASteps.cons ?_ (ASteps.cons ?_ (ASteps.cons ?_ (ASteps.cons ?_ (ASteps.cons ?_ (ASteps.cons ?_ (ASteps.cons ?_ (ASteps.cons ?_ (ASteps.cons ?_ (ASteps.cons ?_ (ASteps.nil))))))))))))
      · exact step_load (k := 1) rfl rfl rfl (want_none rfl) rfl (opn_old C 8 (by kernel_rfl) rfl) (no_over (by kernel_rfl)) loads_P
      · exact step_call HPRE rfl rfl (want_none rfl) rfl en_compassref_P (Opns.cons (opn_new C 0 0 rfl rfl rfl rfl rfl rfl) Opns.nil) (con_P tpx tpz (by first | decide | omega) (by first | decide | omega))
      · exact step_load (k := 2) rfl rfl rfl (want_none rfl) rfl (opn_old C 6 (by kernel_rfl) rfl) (no_over (by kernel_rfl)) loads_P
      · exact step_call HPRE rfl rfl (want_none rfl) rfl en_compassref_P (Opns.cons (opn_new C 2 0 rfl rfl rfl rfl rfl rfl) Opns.nil) (con_P ts4 ts5 (by first | decide | omega) (by first | decide | omega))
      · exact step_load (k := 3) rfl rfl rfl (want_none rfl) rfl (opn_old C 4 (by kernel_rfl) rfl) (no_over (by kernel_rfl)) loads_P
      · exact step_call HPRE rfl rfl (want_none rfl) rfl en_compassref_P (Opns.cons (opn_new C 4 0 rfl rfl rfl rfl rfl rfl) Opns.nil) (con_P ts8 ts9 (by first | decide | omega) (by first | decide | omega))
      · exact step_new [.pointer none, .pointer none] zero_V rfl rfl (want_none rfl) rfl (fill_waits (s0 := 9) (k := 0) (by kernel_rfl) rfl rfl rfl rfl) allocs_V (by simp [notLimb]) (by kernel_rfl)
      · exact step_new [.pointer none, .pointer none] zero_V rfl rfl (want_none rfl) rfl (fill_waits (s0 := 10) (k := 0) (by kernel_rfl) rfl rfl rfl rfl) allocs_V (by simp [notLimb]) (by kernel_rfl)
      · exact step_new [.pointer none, .pointer none] zero_V rfl rfl (want_none rfl) rfl (fill_waits (s0 := 11) (k := 0) (by kernel_rfl) rfl rfl rfl rfl) allocs_V (by simp [notLimb]) (by kernel_rfl)
      · exact step_fill C (a := 6) (k := 0) rfl rfl rfl rfl (want_none rfl) rfl rfl rfl rfl rfl (by decide) (one_fill (by kernel_rfl)) (opn_new C 1 1 rfl rfl rfl rfl rfl rfl) (stores_V (cok2 (nl_rt rpx) (nl_rt rpz)))
      · exact step_fill C (a := 7) (k := 0) rfl rfl rfl rfl (want_none rfl) rfl rfl rfl rfl rfl (by decide) (one_fill (by kernel_rfl)) (opn_new C 3 1 rfl rfl rfl rfl rfl rfl) (stores_V (cok2 (nl_rt z2) (nl_rt z3)))
      · exact step_fill C (a := 8) (k := 0) rfl rfl rfl rfl (want_none rfl) rfl rfl rfl rfl rfl (by decide) (one_fill (by kernel_rfl)) (opn_new C 5 1 rfl rfl rfl rfl rfl rfl) (stores_V (cok2 (nl_rt z6) (nl_rt z7)))
    intro γ a11 w11 S11
    replace S11 : AS w 120 [(13, Jus (.pointer (some ⟨γ 8, 0, none⟩))), (12, Jus (.pointer (some ⟨γ 7, 0, none⟩))), (11, Jus (.pointer (some ⟨γ 6, 0, none⟩))), (10, In (0)), (9, Tx s11), (8, In (0)), (7, Jus (.pointer (some ⟨G8_6, 0, none⟩))), (6, In (0)), (5, Jus (.pointer (some ⟨G7_6, 0, none⟩))), (4, Bo false), (2, Jus (.pointer (some ⟨G1_0, 0, none⟩)))] [(G1_0, 26, Agg [Tx la, Tx lb, Tx lc]), (G1_1, 24, Agg [Tx px, Tx pz]), (G7_6, 24, Agg [Tx s4, Tx s5]), (G8_6, 24, Agg [Tx s8, Tx s9]), (γ 6, 43, Agg [Rt rpx, Rt rpz]), (γ 7, 43, Agg [Rt z2, Rt z3]), (γ 8, 43, Agg [Rt z6, Rt z7])] a11 w11 := cast (by kernel_rfl) (S11.keep [2, 4, 5, 6, 7, 8, 9, 10, 11, 12, 13])
    generalize γ 6 = G11_6 at S11
    generalize γ 7 = G11_7 at S11
    generalize γ 8 = G11_8 at S11
    clear S10
    refine then_normal ?_
    refine wp_seq ?_
    obtain ⟨z12, ez12⟩ : ∃ q : Rat, q = rla * z2 + rlb * z3 + rlc := ⟨_, rfl⟩
    have fz12 : QS 104857751 z12 := by rw [ez12]; exact QS.mono (((tla.qs.mul fz2).add (tlb.qs.mul fz3)).add tlc.qs) (by first | decide | omega)
    have h13 : z12 = 0 := by (have hN := normF_ne h1); (have c1 : ((1 : Nat) : Rat) = 1 := rfl); (have c2 : ((2 : Nat) : Rat) = 2 := rfl); (subst_vars; grind)
    obtain ⟨z14, ez14⟩ : ∃ q : Rat, q = z2 - rpx := ⟨_, rfl⟩
    have fz14 : QS 50331721 z14 := by rw [ez14]; exact QS.mono (fz2.sub tpx.qs) (by first | decide | omega)
    obtain ⟨z15, ez15⟩ : ∃ q : Rat, q = z3 - rpz := ⟨_, rfl⟩
    have fz15 : QS 50331721 z15 := by rw [ez15]; exact QS.mono (fz3.sub tpz.qs) (by first | decide | omega)
    obtain ⟨z16, ez16⟩ : ∃ q : Rat, q = -rlb := ⟨_, rfl⟩
    have fz16 : QS 4194309 z16 := by rw [ez16]; exact QS.mono tlb.qs.neg (by first | decide | omega)
    obtain ⟨z17, ez17⟩ : ∃ q : Rat, q = (z14 * z16) + (z15 * rla) := ⟨_, rfl⟩
    have fz17 : QS 109052061 z17 := by rw [ez17]; exact QS.mono ((fz14.mul fz16).add (fz15.mul tla.qs)) (by first | decide | omega)
    have h18 : z17 = 0 := by (have hN := normF_ne h1); (have c1 : ((1 : Nat) : Rat) = 1 := rfl); (have c2 : ((2 : Nat) : Rat) = 2 := rfl); (subst_vars; grind)
    obtain ⟨z19, ez19⟩ : ∃ q : Rat, q = rpx + z6 := ⟨_, rfl⟩
    have fz19 : QS 50331721 z19 := by rw [ez19]; exact QS.mono (tpx.qs.add fz6) (by first | decide | omega)
    obtain ⟨z20, ez20⟩ : ∃ q : Rat, q = rpz + z7 := ⟨_, rfl⟩
    have fz20 : QS 50331721 z20 := by rw [ez20]; exact QS.mono (tpz.qs.add fz7) (by first | decide | omega)
    obtain ⟨z21, ez21⟩ : ∃ q : Rat, q = ((2 : Nat) : Rat) := ⟨_, rfl⟩
    have fz21 : QS 64 z21 := by rw [ez21]; exact QS.mono (qs_nat 2 (by first | decide | omega)) (by first | decide | omega)
    obtain ⟨z22, ez22⟩ : ∃ q : Rat, q = z2 * z21 := ⟨_, rfl⟩
    have fz22 : QS 46137475 z22 := by rw [ez22]; exact QS.mono (fz2.mul fz21) (by first | decide | omega)
    obtain ⟨z23, ez23⟩ : ∃ q : Rat, q = z3 * z21 := ⟨_, rfl⟩
    have fz23 : QS 46137475 z23 := by rw [ez23]; exact QS.mono (fz3.mul fz21) (by first | decide | omega)
    have h24 : z19 = z22 ∧ z20 = z23 := by (have hN := normF_ne h1); (have c1 : ((1 : Nat) : Rat) = 1 := rfl); (have c2 : ((2 : Nat) : Rat) = 2 := rfl); (subst_vars; grind)
    obtain ⟨z25, ez25⟩ : ∃ q : Rat, q = (rpx - z2) * (rpx - z2) + (rpz - z3) * (rpz - z3) := ⟨_, rfl⟩
    have fz25 : QS 201326885 z25 := by rw [ez25]; exact QS.mono (((tpx.qs.sub fz2).mul (tpx.qs.sub fz2)).add ((tpz.qs.sub fz3).mul (tpz.qs.sub fz3))) (by first | decide | omega)
    obtain ⟨s26, es26⟩ : ∃ s : ByteArray, s.data.toList = tx z25 := ⟨⟨(tx z25).toArray⟩, by simp⟩
    have ts26 : TX 201326885 s26 z25 := TX.told es26 fz25
    have h27 : s11 = s26 := by (have hN := normF_ne h1); (have c1 : ((1 : Nat) : Rat) = 1 := rfl); (have c2 : ((2 : Nat) : Rat) = 2 := rfl); (have hz : z10 = z25 := by (subst_vars; grind)); exact (bytes_of (es11.trans (congrArg tx hz))).trans (bytes_of es26).symm
    refine region_abs [.pure (In (0)), .pure (Bo true), .pure (Bo true), .pure (In (0)), .pure (Bo true), .pure (Bo true), .pure (Bo true), .pure (In (0)), .pure (Bo true), .pure (Bo true), .pure (Bo true), .pure (Agg [Tx s4, Tx s5]), .pure (Agg [Tx s8, Tx s9]), .soft (RowS 24 2 [Tx s4, Tx s5, Tx s8, Tx s9]), .pure (Bo true), .pure (Bo true), .pure (Bo true), .pure (Agg [Tx la, Tx lb, Tx lc]), .pure (Agg [Rt z2, Rt z3]), .pure (Rt z12), .pure (Bo true), .pure (Bo true), .pure (Bo true), .pure (Agg [Rt z2, Rt z3]), .pure (Agg [Rt rpx, Rt rpz]), .pure (Agg [Rt z14, Rt z15]), .pure (Agg [Tx la, Tx lb, Tx lc]), .pure (Agg [Rt z16, Rt rla]), .pure (Rt z17), .pure (Bo true), .pure (Bo true), .pure (Bo true), .pure (Agg [Rt rpx, Rt rpz]), .pure (Agg [Rt z6, Rt z7]), .pure (Agg [Rt z19, Rt z20]), .pure (Agg [Rt z2, Rt z3]), .pure (Rt z21), .pure (Agg [Rt z22, Rt z23]), .pure (Bo true), .pure (Bo true), .pure (Bo true), .pure (Tx s11), .pure (Agg [Rt rpx, Rt rpz]), .pure (Agg [Rt z2, Rt z3]), .pure (Rt z25), .pure (Tx s26), .pure (Bo true), .pure (Bo true), .pure (Bo true)] ⟨S11, by decide +kernel⟩ (by kernel_rfl) (by kernel_rfl) rfl (by kernel_rfl) ?_ ?_
    · intro C
      refine ASteps.cons ?_ (ASteps.cons ?_ (ASteps.cons ?_ (ASteps.cons ?_ (ASteps.cons ?_ (ASteps.cons ?_ (ASteps.cons ?_ (ASteps.cons ?_ (ASteps.cons ?_ (ASteps.cons ?_ (ASteps.cons ?_ (ASteps.cons ?_ (ASteps.cons ?_ (ASteps.cons ?_ (ASteps.cons ?_ (ASteps.cons ?_ (ASteps.cons ?_ (ASteps.cons ?_ (ASteps.cons ?_ (ASteps.cons ?_ (ASteps.cons ?_ (ASteps.cons ?_ (ASteps.cons ?_ (ASteps.cons ?_ (ASteps.cons ?_ (ASteps.cons ?_ (ASteps.cons ?_ (ASteps.cons ?_ (ASteps.cons ?_ (ASteps.cons ?_ (ASteps.cons ?_ (ASteps.cons ?_ (ASteps.cons ?_ (ASteps.cons ?_ (ASteps.cons ?_ (ASteps.cons ?_ (ASteps.cons ?_ (ASteps.cons ?_ (ASteps.cons ?_ (ASteps.cons ?_ (ASteps.cons ?_ (ASteps.cons ?_ (ASteps.cons ?_ (ASteps.cons ?_ (ASteps.cons ?_ (ASteps.cons ?_ (ASteps.cons ?_ (ASteps.cons ?_ (ASteps.cons ?_ (ASteps.nil)))))))))))))))))))))))))))))))))))))))))))))))))
      · exact step_move rfl rfl (want_none rfl) rfl (opn_old C 7 (by kernel_rfl) rfl)
      · exact step_bin rfl rfl (want_none rfl) rfl (opn_new C 0 0 rfl rfl rfl rfl rfl rfl) (opn_const _) (run_eql_int _ _ _ _ _ _ rfl)
      · exact step_move rfl rfl (want_none rfl) rfl (opn_new C 1 0 rfl rfl rfl rfl rfl rfl)
      · exact step_move rfl rfl (want_yes C 2 0 true rfl rfl rfl rfl rfl rfl rfl) rfl (opn_old C 5 (by kernel_rfl) rfl)
      · exact step_bin rfl rfl (want_yes C 2 1 true rfl rfl rfl rfl rfl rfl rfl) rfl (opn_new C 3 0 rfl rfl rfl rfl rfl rfl) (opn_const _) (run_eql_int _ _ _ _ _ _ rfl)
      · exact step_pick true rfl rfl (want_none rfl) rfl (opn_new C 2 0 rfl rfl rfl rfl rfl rfl) (opn_new C 4 1 rfl rfl rfl rfl rfl rfl)
      · exact step_move rfl rfl (want_none rfl) rfl (opn_new C 5 0 rfl rfl rfl rfl rfl rfl)
      · exact step_move rfl rfl (want_yes C 6 0 true rfl rfl rfl rfl rfl rfl rfl) rfl (opn_old C 3 (by kernel_rfl) rfl)
      · exact step_bin rfl rfl (want_yes C 6 1 true rfl rfl rfl rfl rfl rfl rfl) rfl (opn_new C 7 0 rfl rfl rfl rfl rfl rfl) (opn_const _) (run_eql_int _ _ _ _ _ _ rfl)
      · exact step_pick true rfl rfl (want_none rfl) rfl (opn_new C 6 0 rfl rfl rfl rfl rfl rfl) (opn_new C 8 1 rfl rfl rfl rfl rfl rfl)
      · exact step_move rfl rfl (want_none rfl) rfl (opn_new C 9 0 rfl rfl rfl rfl rfl rfl)
      · exact step_load (k := 2) rfl rfl rfl (want_yes C 10 0 true rfl rfl rfl rfl rfl rfl rfl) rfl (opn_old C 8 (by kernel_rfl) rfl) (no_over (by kernel_rfl)) loads_P
      · exact step_load (k := 3) rfl rfl rfl (want_yes C 10 0 true rfl rfl rfl rfl rfl rfl rfl) rfl (opn_old C 6 (by kernel_rfl) rfl) (no_over (by kernel_rfl)) loads_P
      · exact step_bslice rfl rfl (want_yes C 10 2 true rfl rfl rfl rfl rfl rfl rfl) rfl (Opns.cons (opn_new C 11 0 rfl rfl rfl rfl rfl rfl) (Opns.cons (opn_new C 12 1 rfl rfl rfl rfl rfl rfl) Opns.nil)) (bslice_P2 _ _)
      · exact step_callS HPRE rfl rfl (want_yes C 10 1 true rfl rfl rfl rfl rfl rfl rfl) rfl en_compassref_RightP (OpnsS.cons (opn_soft C 13 0 rfl rfl rfl rfl rfl rfl (by kernel_rfl)) OpnsS.nil) (con_RightP2 ts4 ts5 ts8 ts9 (TX.right es4) (TX.right es5) (TX.right es8) (TX.right es9) (by first | decide | omega))
      · exact step_pick true rfl rfl (want_none rfl) rfl (opn_new C 10 0 rfl rfl rfl rfl rfl rfl) (opn_new C 14 1 rfl rfl rfl rfl rfl rfl)
      · exact step_move rfl rfl (want_none rfl) rfl (opn_new C 15 0 rfl rfl rfl rfl rfl rfl)
      · exact step_load (k := 0) rfl rfl rfl (want_yes C 16 0 true rfl rfl rfl rfl rfl rfl rfl) rfl (opn_old C 10 (by kernel_rfl) rfl) (no_over (by kernel_rfl)) loads_L
      · exact step_load (k := 5) rfl rfl rfl (want_yes C 16 0 true rfl rfl rfl rfl rfl rfl rfl) rfl (opn_old C 1 (by kernel_rfl) rfl) (no_over (by kernel_rfl)) loads_V
      · exact step_call HPRE rfl rfl (want_yes C 16 2 true rfl rfl rfl rfl rfl rfl rfl) rfl en_compassref_At (Opns.cons (opn_new C 17 0 rfl rfl rfl rfl rfl rfl) (Opns.cons (opn_new C 18 1 rfl rfl rfl rfl rfl rfl) Opns.nil)) (con_At (TX.mono (l := 46137411) tla (by first | decide | omega)) (TX.mono (l := 46137411) tlb (by first | decide | omega)) (TX.mono (l := 46137411) tlc (by first | decide | omega)) fz2 fz3 ez12 (by first | decide | omega) (by first | decide | omega))
      · exact step_call HPRE rfl rfl (want_yes C 16 2 true rfl rfl rfl rfl rfl rfl rfl) rfl en_compassref_Zero (Opns.cons (opn_new C 19 0 rfl rfl rfl rfl rfl rfl) Opns.nil) (con_Zero_t  h13)
      · exact step_pick true rfl rfl (want_none rfl) rfl (opn_new C 16 0 rfl rfl rfl rfl rfl rfl) (opn_new C 20 1 rfl rfl rfl rfl rfl rfl)
      · exact step_move rfl rfl (want_none rfl) rfl (opn_new C 21 0 rfl rfl rfl rfl rfl rfl)
      · exact step_load (k := 5) rfl rfl rfl (want_yes C 22 0 true rfl rfl rfl rfl rfl rfl rfl) rfl (opn_old C 1 (by kernel_rfl) rfl) (no_over (by kernel_rfl)) loads_V
      · exact step_load (k := 4) rfl rfl rfl (want_yes C 22 0 true rfl rfl rfl rfl rfl rfl rfl) rfl (opn_old C 2 (by kernel_rfl) rfl) (no_over (by kernel_rfl)) loads_V
      · exact step_call HPRE rfl rfl (want_yes C 22 2 true rfl rfl rfl rfl rfl rfl rfl) rfl en_compassref_V_Minus (Opns.cons (opn_new C 23 0 rfl rfl rfl rfl rfl rfl) (Opns.cons (opn_new C 24 1 rfl rfl rfl rfl rfl rfl) Opns.nil)) (con_Minus ez14 ez15 fz2 fz3 (QS.mono (l := 46137411) tpx.qs (by first | decide | omega)) (QS.mono (l := 46137411) tpz.qs (by first | decide | omega)) (by first | decide | omega))
      · exact step_load (k := 0) rfl rfl rfl (want_yes C 22 0 true rfl rfl rfl rfl rfl rfl rfl) rfl (opn_old C 10 (by kernel_rfl) rfl) (no_over (by kernel_rfl)) loads_L
      · exact step_call HPRE rfl rfl (want_yes C 22 2 true rfl rfl rfl rfl rfl rfl rfl) rfl en_compassref_Way (Opns.cons (opn_new C 26 0 rfl rfl rfl rfl rfl rfl) Opns.nil) (con_Way tla tlb tlc ez16 (by first | decide | omega))
      · exact step_call HPRE rfl rfl (want_yes C 22 3 true rfl rfl rfl rfl rfl rfl rfl) rfl en_compassref_V_Dot (Opns.cons (opn_new C 25 0 rfl rfl rfl rfl rfl rfl) (Opns.cons (opn_new C 27 1 rfl rfl rfl rfl rfl rfl) Opns.nil)) (con_Dot ez17 fz14 fz15 (QS.mono (l := 50331721) fz16 (by first | decide | omega)) (QS.mono (l := 50331721) tla.qs (by first | decide | omega)) (by first | decide | omega))
      · exact step_call HPRE rfl rfl (want_yes C 22 2 true rfl rfl rfl rfl rfl rfl rfl) rfl en_compassref_Zero (Opns.cons (opn_new C 28 0 rfl rfl rfl rfl rfl rfl) Opns.nil) (con_Zero_t  h18)
      · exact step_pick true rfl rfl (want_none rfl) rfl (opn_new C 22 0 rfl rfl rfl rfl rfl rfl) (opn_new C 29 1 rfl rfl rfl rfl rfl rfl)
      · exact step_move rfl rfl (want_none rfl) rfl (opn_new C 30 0 rfl rfl rfl rfl rfl rfl)
      · exact step_load (k := 4) rfl rfl rfl (want_yes C 31 0 true rfl rfl rfl rfl rfl rfl rfl) rfl (opn_old C 2 (by kernel_rfl) rfl) (no_over (by kernel_rfl)) loads_V
      · exact step_load (k := 6) rfl rfl rfl (want_yes C 31 0 true rfl rfl rfl rfl rfl rfl rfl) rfl (opn_old C 0 (by kernel_rfl) rfl) (no_over (by kernel_rfl)) loads_V
      · exact step_call HPRE rfl rfl (want_yes C 31 2 true rfl rfl rfl rfl rfl rfl rfl) rfl en_compassref_V_Plus (Opns.cons (opn_new C 32 0 rfl rfl rfl rfl rfl rfl) (Opns.cons (opn_new C 33 1 rfl rfl rfl rfl rfl rfl) Opns.nil)) (con_Plus ez19 ez20 (QS.mono (l := 46137411) tpx.qs (by first | decide | omega)) (QS.mono (l := 46137411) tpz.qs (by first | decide | omega)) fz6 fz7 (by first | decide | omega))
      · exact step_load (k := 5) rfl rfl rfl (want_yes C 31 0 true rfl rfl rfl rfl rfl rfl rfl) rfl (opn_old C 1 (by kernel_rfl) rfl) (no_over (by kernel_rfl)) loads_V
      · exact step_call HPRE rfl rfl (want_yes C 31 1 true rfl rfl rfl rfl rfl rfl rfl) rfl en_compassref_N (Opns.cons (opn_const _) Opns.nil) (con_N 2 (by first | decide | omega) ez21)
      · exact step_call HPRE rfl rfl (want_yes C 31 3 true rfl rfl rfl rfl rfl rfl rfl) rfl en_compassref_V_Times (Opns.cons (opn_new C 35 0 rfl rfl rfl rfl rfl rfl) (Opns.cons (opn_new C 36 1 rfl rfl rfl rfl rfl rfl) Opns.nil)) (con_Times ez22 ez23 fz2 fz3 (QS.mono (l := 46137411) fz21 (by first | decide | omega)) (by first | decide | omega))
      · exact step_call HPRE rfl rfl (want_yes C 31 3 true rfl rfl rfl rfl rfl rfl rfl) rfl en_compassref_V_Same (Opns.cons (opn_new C 34 0 rfl rfl rfl rfl rfl rfl) (Opns.cons (opn_new C 37 1 rfl rfl rfl rfl rfl rfl) Opns.nil)) (con_Same_t fz19 fz20 (QS.mono (l := 50331721) fz22 (by first | decide | omega)) (QS.mono (l := 50331721) fz23 (by first | decide | omega)) (by first | decide | omega) h24)
      · exact step_pick true rfl rfl (want_none rfl) rfl (opn_new C 31 0 rfl rfl rfl rfl rfl rfl) (opn_new C 38 1 rfl rfl rfl rfl rfl rfl)
      · exact step_move rfl rfl (want_none rfl) rfl (opn_new C 39 0 rfl rfl rfl rfl rfl rfl)
      · exact step_move rfl rfl (want_yes C 40 0 true rfl rfl rfl rfl rfl rfl rfl) rfl (opn_old C 4 (by kernel_rfl) rfl)
      · exact step_load (k := 4) rfl rfl rfl (want_yes C 40 0 true rfl rfl rfl rfl rfl rfl rfl) rfl (opn_old C 2 (by kernel_rfl) rfl) (no_over (by kernel_rfl)) loads_V
      · exact step_load (k := 5) rfl rfl rfl (want_yes C 40 0 true rfl rfl rfl rfl rfl rfl rfl) rfl (opn_old C 1 (by kernel_rfl) rfl) (no_over (by kernel_rfl)) loads_V
      · exact step_call HPRE rfl rfl (want_yes C 40 2 true rfl rfl rfl rfl rfl rfl rfl) rfl en_compassref_V_Far2 (Opns.cons (opn_new C 42 0 rfl rfl rfl rfl rfl rfl) (Opns.cons (opn_new C 43 1 rfl rfl rfl rfl rfl rfl) Opns.nil)) (con_VFar2 ez25 (QS.mono (l := 46137411) tpx.qs (by first | decide | omega)) (QS.mono (l := 46137411) tpz.qs (by first | decide | omega)) fz2 fz3 (by first | decide | omega))
      · exact step_call HPRE rfl rfl (want_yes C 40 2 true rfl rfl rfl rfl rfl rfl rfl) rfl en_compassref_T (Opns.cons (opn_new C 44 0 rfl rfl rfl rfl rfl rfl) Opns.nil) (con_T es26 fz25 (by first | decide | omega))
      · exact step_bin rfl rfl (want_yes C 40 2 true rfl rfl rfl rfl rfl rfl rfl) rfl (opn_new C 41 0 rfl rfl rfl rfl rfl rfl) (opn_new C 45 1 rfl rfl rfl rfl rfl rfl) (run_eql_str_t h27)
      · exact step_pick true rfl rfl (want_none rfl) rfl (opn_new C 40 0 rfl rfl rfl rfl rfl rfl) (opn_new C 46 1 rfl rfl rfl rfl rfl rfl)
      · exact step_assign rfl rfl (want_none rfl) rfl (opn_new C 47 0 rfl rfl rfl rfl rfl rfl)
    intro γ a12 w12 S12
    replace S12 : AS w 120 [(4, Bo true)] [(G1_0, 26, Agg [Tx la, Tx lb, Tx lc]), (G1_1, 24, Agg [Tx px, Tx pz]), (G7_6, 24, Agg [Tx s4, Tx s5]), (G8_6, 24, Agg [Tx s8, Tx s9]), (G11_6, 43, Agg [Rt rpx, Rt rpz]), (G11_7, 43, Agg [Rt z2, Rt z3]), (G11_8, 43, Agg [Rt z6, Rt z7])] a12 w12 := cast (by kernel_rfl) (S12.keep [4])
    clear S11
    refine then_normal ?_
    refine wp_ret ?_
    exact S12.ret 0 rfl rfl fun v hv => ⟨S12.bel, v, rfl, hv⟩
theorem lineFoot_walk {w : World} {la lb lc px pz : ByteArray} (sla : la.size ≤ 1048576) (slb : lb.size ≤ 1048576) (slc : lc.size ≤ 1048576) (spx : px.size ≤ 1048576) (spz : pz.size ≤ 1048576) (tab : Tab w) (mx : MaxL w) :
    Calls Tryz.prog 4 #[.agg #[.string la, .string lb, .string lc], .agg #[.string px, .string pz]] w fun e w' => Below w.heap.size w w' ∧ e = .returned (.bool true) := by
  refine (lineFoot sla (TX.param sla) slb (TX.param slb) slc (TX.param slc) spx (TX.param spx) spz (TX.param spz) w [.agg #[.string la, .string lb, .string lc], .agg #[.string px, .string pz]] ⟨tab, mx⟩ ⟨L3.mk _ _ _ _, P2.mk _ _ _, trivial⟩).mono ?_
  rintro _ w' ⟨hb, v, rfl, hv⟩
  exact ⟨hb, by rw [show v = _ from hv]⟩
end Go.Proofs.YtgajdmadbdbabaaGreatDoor
