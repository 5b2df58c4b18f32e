/- Part 14 of the walks and of the mathematics under them: LAE. -/
import Derived.Test.YtgajdmadbdbabaaGreatDoorA12
import Derived.Test.YtgajdmadbdbabaaGreatDoorA13
set_option maxHeartbeats 16000000
set_option maxRecDepth 100000
/- LAE -/
namespace Go.Proofs.YtgajdmadbdbabaaGreatDoor
open Go.RowKit Cx
theorem lineBeside {la lb lc px pz : ByteArray} {rla rlb rlc rpx rpz : Rat} (_ : la.size ≤ 1048576) (tla : TX 4194309 la rla) (_ : lb.size ≤ 1048576) (tlb : TX 4194309 lb rlb) (_ : lc.size ≤ 1048576) (tlc : TX 4194309 lc rlc) (_ : px.size ≤ 1048576) (tpx : TX 4194309 px rpx) (_ : pz.size ≤ 1048576) (tpz : TX 4194309 pz rpz) :
    Con Tryz.prog Pre 6 [Agg [Tx la, Tx lb, Tx lc], Agg [Tx px, Tx pz]] (Bo true) := by
  refine con_of (n := 90) Tryz.func6 rfl rfl (Nat.le_of_ble_eq_true rfl) ?_
  intro w a0 hp S0
  have HPRE : ∀ w', Below w.heap.size w w' → Pre w' := fun w' hb => hp.below hb
  refine wp_seq ?_
  refine region_abs [.alloc 26 (Agg [Tx la, Tx lb, Tx lc]), .alloc 24 (Agg [Tx px, Tx pz]), .pure (Bo false)] ⟨S0, by decide +kernel⟩ (by kernel_rfl) (by kernel_rfl) rfl (by kernel_rfl) ?_ ?_
  · intro C
    refine ASteps.cons ?_ (ASteps.cons ?_ (ASteps.cons ?_ (ASteps.nil)))
    · exact step_box rfl rfl (want_none rfl) rfl (no_fill (by kernel_rfl)) (opn_old C 0 (by kernel_rfl) rfl) (boxes_L (cok3 (nl_tx la) (nl_tx lb) (nl_tx lc)))
    · exact step_box rfl rfl (want_none rfl) rfl (no_fill (by kernel_rfl)) (opn_old C 1 (by kernel_rfl) rfl) (boxes_P (cok2 (nl_tx px) (nl_tx pz)))
    · exact step_assign rfl rfl (want_none rfl) rfl (opn_const _)
  intro γ a1 w1 S1
  replace S1 : AS w 90 [(4, Bo false), (3, Jus (.pointer (some ⟨γ 1, 0, none⟩))), (2, Jus (.pointer (some ⟨γ 0, 0, none⟩)))] [(γ 0, 26, Agg [Tx la, Tx lb, Tx lc]), (γ 1, 24, Agg [Tx px, Tx pz])] a1 w1 := cast (by kernel_rfl) (S1.keep [2, 3, 4])
  generalize γ 0 = G1_0 at S1
  generalize γ 1 = G1_1 at S1
  clear S0
  refine then_normal ?_
  refine wp_seq ?_
  obtain ⟨z1, ez1⟩ : ∃ q : Rat, q = -(rla * rpx + rlb * rpz) := ⟨_, rfl⟩
  have fz1 : QS 16777237 z1 := by rw [ez1]; exact QS.mono ((tla.qs.mul tpx.qs).add (tlb.qs.mul tpz.qs)).neg (by first | decide | omega)
  by_cases h2 : rla = 0 ∧ rlb = 0
  ·
    refine region_abs [.pure (Agg [Tx la, Tx lb, Tx lc]), .pure (Agg [Tx px, Tx pz]), .pure (Tup [Agg [Tx ⟨#[]⟩, Tx ⟨#[]⟩, Tx ⟨#[]⟩], In (5)]), .pure (Tup [Agg [Tx ⟨#[]⟩, Tx ⟨#[]⟩, Tx ⟨#[]⟩], In (5)]), .pure (Agg [Tx ⟨#[]⟩, Tx ⟨#[]⟩, Tx ⟨#[]⟩]), .pure (In (5)), .alloc 26 (Agg [Tx ⟨#[]⟩, Tx ⟨#[]⟩, Tx ⟨#[]⟩]), .fill 6 (Agg [Tx ⟨#[]⟩, Tx ⟨#[]⟩, Tx ⟨#[]⟩]), .pure (In (5))] ⟨S1, by decide +kernel⟩ (by kernel_rfl) (by kernel_rfl) rfl (by kernel_rfl) ?_ ?_
    · intro C
      refine ASteps.cons ?_ (ASteps.cons ?_ (ASteps.cons ?_ (ASteps.cons ?_ (ASteps.cons ?_ (ASteps.cons ?_ (ASteps.cons ?_ (ASteps.cons ?_ (ASteps.cons ?_ (ASteps.nil)))))))))
      · exact step_load (k := 0) rfl rfl rfl (want_none rfl) rfl (opn_old C 2 (by kernel_rfl) rfl) (no_over (by kernel_rfl)) loads_L
      · exact step_load (k := 1) rfl rfl rfl (want_none rfl) rfl (opn_old C 1 (by kernel_rfl) rfl) (no_over (by kernel_rfl)) loads_P
      · exact step_call HPRE rfl rfl (want_none rfl) rfl en_line_Beside (Opns.cons (opn_new C 0 0 rfl rfl rfl rfl rfl rfl) (Opns.cons (opn_new C 1 1 rfl rfl rfl rfl rfl rfl) Opns.nil)) (con_beside_flat tla tlb tlc tpx tpz ez1 (by first | decide | omega) (by first | decide | omega) h2)
      · exact step_move rfl rfl (want_none rfl) rfl (opn_new C 2 0 rfl rfl rfl rfl rfl rfl)
      · exact step_extract (k := 0) rfl rfl (want_none rfl) rfl (opn_new C 3 0 rfl rfl rfl rfl rfl rfl) rfl
      · exact step_extract (k := 1) rfl rfl (want_none rfl) rfl (opn_new C 3 0 rfl rfl rfl rfl rfl rfl) rfl
      · exact step_new [.string ⟨#[]⟩, .string ⟨#[]⟩, .string ⟨#[]⟩] zero_L rfl rfl (want_none rfl) rfl (fill_waits (s0 := 7) (k := 0) (by kernel_rfl) rfl rfl rfl rfl) allocs_L (by simp [notLimb]) (by kernel_rfl)
      · exact step_fill C (a := 6) (k := 0) rfl rfl rfl rfl (want_none rfl) rfl rfl rfl rfl rfl (by decide) (one_fill (by kernel_rfl)) (opn_new C 4 1 rfl rfl rfl rfl rfl rfl) (stores_L (cok3 (nl_tx ⟨#[]⟩) (nl_tx ⟨#[]⟩) (nl_tx ⟨#[]⟩)))
      · exact step_assign rfl rfl (want_none rfl) rfl (opn_new C 5 0 rfl rfl rfl rfl rfl rfl)
    intro γ a2 w2 S2
    replace S2 : AS w 90 [(6, In (5)), (5, Jus (.pointer (some ⟨γ 6, 0, none⟩))), (4, Bo false), (3, Jus (.pointer (some ⟨G1_1, 0, none⟩))), (2, Jus (.pointer (some ⟨G1_0, 0, none⟩)))] [(G1_0, 26, Agg [Tx la, Tx lb, Tx lc]), (G1_1, 24, Agg [Tx px, Tx pz]), (γ 6, 26, Agg [Tx ⟨#[]⟩, Tx ⟨#[]⟩, Tx ⟨#[]⟩])] a2 w2 := cast (by kernel_rfl) (S2.keep [2, 3, 4, 5, 6])
    generalize γ 6 = G2_6 at S2
    clear S1
    refine then_normal ?_
    refine wp_seq ?_
    obtain ⟨z3, ez3⟩ : ∃ q : Rat, q = -rlb := ⟨_, rfl⟩
    have fz3 : QS 4194309 z3 := by rw [ez3]; exact QS.mono tlb.qs.neg (by first | decide | omega)
    obtain ⟨z4, ez4⟩ : ∃ q : Rat, q = -(z3 * rpx + rla * rpz) := ⟨_, rfl⟩
    have fz4 : QS 16777237 z4 := by rw [ez4]; exact QS.mono ((fz3.mul tpx.qs).add (tla.qs.mul tpz.qs)).neg (by first | decide | omega)
    have h5 : z3 = 0 ∧ rla = 0 := by (subst_vars; grind)
    refine region_abs [.pure (Agg [Tx la, Tx lb, Tx lc]), .pure (Agg [Tx px, Tx pz]), .pure (Tup [Agg [Tx ⟨#[]⟩, Tx ⟨#[]⟩, Tx ⟨#[]⟩], In (5)]), .pure (Tup [Agg [Tx ⟨#[]⟩, Tx ⟨#[]⟩, Tx ⟨#[]⟩], In (5)]), .pure (Agg [Tx ⟨#[]⟩, Tx ⟨#[]⟩, Tx ⟨#[]⟩]), .pure (In (5)), .alloc 26 (Agg [Tx ⟨#[]⟩, Tx ⟨#[]⟩, Tx ⟨#[]⟩]), .fill 6 (Agg [Tx ⟨#[]⟩, Tx ⟨#[]⟩, Tx ⟨#[]⟩]), .pure (In (5))] ⟨S2, by decide +kernel⟩ (by kernel_rfl) (by kernel_rfl) rfl (by kernel_rfl) ?_ ?_
    · intro C
      refine ASteps.cons ?_ (ASteps.cons ?_ (ASteps.cons ?_ (ASteps.cons ?_ (ASteps.cons ?_ (ASteps.cons ?_ (ASteps.cons ?_ (ASteps.cons ?_ (ASteps.cons ?_ (ASteps.nil)))))))))
      · exact step_load (k := 0) rfl rfl rfl (want_none rfl) rfl (opn_old C 4 (by kernel_rfl) rfl) (no_over (by kernel_rfl)) loads_L
      · exact step_load (k := 1) rfl rfl rfl (want_none rfl) rfl (opn_old C 3 (by kernel_rfl) rfl) (no_over (by kernel_rfl)) loads_P
      · exact step_call HPRE rfl rfl (want_none rfl) rfl en_line_Square (Opns.cons (opn_new C 0 0 rfl rfl rfl rfl rfl rfl) (Opns.cons (opn_new C 1 1 rfl rfl rfl rfl rfl rfl) Opns.nil)) (con_lsq_flat tla tlb tlc tpx tpz ez3 ez4 (by first | decide | omega) (by first | decide | omega) h5)
      · exact step_move rfl rfl (want_none rfl) rfl (opn_new C 2 0 rfl rfl rfl rfl rfl rfl)
      · exact step_extract (k := 0) rfl rfl (want_none rfl) rfl (opn_new C 3 0 rfl rfl rfl rfl rfl rfl) rfl
      · exact step_extract (k := 1) rfl rfl (want_none rfl) rfl (opn_new C 3 0 rfl rfl rfl rfl rfl rfl) rfl
      · exact step_new [.string ⟨#[]⟩, .string ⟨#[]⟩, .string ⟨#[]⟩] zero_L rfl rfl (want_none rfl) rfl (fill_waits (s0 := 7) (k := 0) (by kernel_rfl) rfl rfl rfl rfl) allocs_L (by simp [notLimb]) (by kernel_rfl)
      · exact step_fill C (a := 6) (k := 0) rfl rfl rfl rfl (want_none rfl) rfl rfl rfl rfl rfl (by decide) (one_fill (by kernel_rfl)) (opn_new C 4 1 rfl rfl rfl rfl rfl rfl) (stores_L (cok3 (nl_tx ⟨#[]⟩) (nl_tx ⟨#[]⟩) (nl_tx ⟨#[]⟩)))
      · exact step_assign rfl rfl (want_none rfl) rfl (opn_new C 5 0 rfl rfl rfl rfl rfl rfl)
    intro γ a3 w3 S3
    replace S3 : AS w 90 [(8, In (5)), (7, Jus (.pointer (some ⟨γ 6, 0, none⟩))), (6, In (5)), (5, Jus (.pointer (some ⟨G2_6, 0, none⟩))), (4, Bo false), (3, Jus (.pointer (some ⟨G1_1, 0, none⟩))), (2, Jus (.pointer (some ⟨G1_0, 0, none⟩)))] [(G1_0, 26, Agg [Tx la, Tx lb, Tx lc]), (G1_1, 24, Agg [Tx px, Tx pz]), (G2_6, 26, Agg [Tx ⟨#[]⟩, Tx ⟨#[]⟩, Tx ⟨#[]⟩]), (γ 6, 26, Agg [Tx ⟨#[]⟩, Tx ⟨#[]⟩, Tx ⟨#[]⟩])] a3 w3 := cast (by kernel_rfl) (S3.keep [2, 3, 4, 5, 6, 7, 8])
    generalize γ 6 = G3_6 at S3
    clear S2
    refine then_normal ?_
    refine wp_seq ?_
    refine wp_seq ?_
    refine region_abs [.pure (Bo true), .pure (Bo false), .pure (Bo false), .pure (Agg [Tx la, Tx lb, Tx lc]), .pure (Bo false), .pure (Bo true), .pure (Bo true)] ⟨S3, by decide +kernel⟩ (by kernel_rfl) (by kernel_rfl) rfl (by kernel_rfl) ?_ ?_
    · intro C
      refine ASteps.cons ?_ (ASteps.cons ?_ (ASteps.cons ?_ (ASteps.cons ?_ (ASteps.cons ?_ (ASteps.cons ?_ (ASteps.cons ?_ (ASteps.nil)))))))
      · exact step_call HPRE rfl rfl (want_none rfl) rfl en_compasslaw_lined Opns.nil (con_lined)
      · exact step_not true rfl rfl (want_none rfl) rfl (opn_new C 0 0 rfl rfl rfl rfl rfl rfl)
      · exact step_move rfl rfl (want_none rfl) rfl (opn_new C 1 0 rfl rfl rfl rfl rfl rfl)
      · exact step_load (k := 0) rfl rfl rfl (want_yes C 2 0 false rfl rfl rfl rfl rfl rfl rfl) rfl (opn_old C 6 (by kernel_rfl) rfl) (no_over (by kernel_rfl)) loads_L
      · exact step_call HPRE rfl rfl (want_yes C 2 1 false rfl rfl rfl rfl rfl rfl rfl) rfl en_compassref_Line (Opns.cons (opn_new C 3 0 rfl rfl rfl rfl rfl rfl) Opns.nil) (con_Line_f tla tlb tlc (by first | decide | omega) h2)
      · exact step_not false rfl rfl (want_yes C 2 1 false rfl rfl rfl rfl rfl rfl rfl) rfl (opn_new C 4 0 rfl rfl rfl rfl rfl rfl)
      · exact step_pick false rfl rfl (want_none rfl) rfl (opn_new C 2 0 rfl rfl rfl rfl rfl rfl) (opn_new C 5 1 rfl rfl rfl rfl rfl rfl)
    intro γ a4 w4 S4
    replace S4 : AS w 90 [(27, Bo true), (8, In (5)), (7, Jus (.pointer (some ⟨G3_6, 0, none⟩))), (6, In (5)), (5, Jus (.pointer (some ⟨G2_6, 0, none⟩))), (4, Bo false), (3, Jus (.pointer (some ⟨G1_1, 0, none⟩))), (2, Jus (.pointer (some ⟨G1_0, 0, none⟩)))] [(G1_0, 26, Agg [Tx la, Tx lb, Tx lc]), (G1_1, 24, Agg [Tx px, Tx pz]), (G2_6, 26, Agg [Tx ⟨#[]⟩, Tx ⟨#[]⟩, Tx ⟨#[]⟩]), (G3_6, 26, Agg [Tx ⟨#[]⟩, Tx ⟨#[]⟩, Tx ⟨#[]⟩])] a4 w4 := cast (by kernel_rfl) (S4.keep [2, 3, 4, 5, 6, 7, 8, 27])
    clear S3
    refine then_normal ?_
    refine wp_cond_true (S4.val 0 rfl) ?_
    refine wp_seq ?_
    refine region_abs [.pure (Bo true), .pure (Bo true), .pure (In (5)), .pure (Bo true), .pure (Bo true), .pure (Bo true), .pure (In (5)), .pure (In (5)), .pure (Bo true), .pure (Bo true), .pure (Bo true), .pure (Agg [Tx ⟨#[]⟩, Tx ⟨#[]⟩, Tx ⟨#[]⟩]), .pure (Bo true), .pure (Bo true), .pure (Bo true), .pure (Agg [Tx ⟨#[]⟩, Tx ⟨#[]⟩, Tx ⟨#[]⟩]), .pure (Bo true), .pure (Bo true), .pure (Bo true)] ⟨S4, by decide +kernel⟩ (by kernel_rfl) (by kernel_rfl) rfl (by kernel_rfl) ?_ ?_
    · intro C
      refine ASteps.cons ?_ (ASteps.cons ?_ (ASteps.cons ?_ (ASteps.cons ?_ (ASteps.cons ?_ (ASteps.cons ?_ (ASteps.cons ?_ (ASteps.cons ?_ (ASteps.cons ?_ (ASteps.cons ?_ (ASteps.cons ?_ (ASteps.cons ?_ (ASteps.cons ?_ (ASteps.cons ?_ (ASteps.cons ?_ (ASteps.cons ?_ (ASteps.cons ?_ (ASteps.cons ?_ (ASteps.cons ?_ (ASteps.nil)))))))))))))))))))
      · exact step_call HPRE rfl rfl (want_none rfl) rfl en_compasslaw_lined Opns.nil (con_lined)
      · exact step_move rfl rfl (want_none rfl) rfl (opn_new C 0 0 rfl rfl rfl rfl rfl rfl)
      · exact step_move rfl rfl (want_yes C 1 0 true rfl rfl rfl rfl rfl rfl rfl) rfl (opn_old C 3 (by kernel_rfl) rfl)
      · exact step_bin rfl rfl (want_yes C 1 1 true rfl rfl rfl rfl rfl rfl rfl) rfl (opn_new C 2 0 rfl rfl rfl rfl rfl rfl) (opn_const _) (run_eql_int _ _ _ _ _ _ rfl)
      · exact step_pick true rfl rfl (want_none rfl) rfl (opn_new C 1 0 rfl rfl rfl rfl rfl rfl) (opn_new C 3 1 rfl rfl rfl rfl rfl rfl)
      · exact step_move rfl rfl (want_none rfl) rfl (opn_new C 4 0 rfl rfl rfl rfl rfl rfl)
      · exact step_move rfl rfl (want_yes C 5 0 true rfl rfl rfl rfl rfl rfl rfl) rfl (opn_old C 1 (by kernel_rfl) rfl)
      · exact step_move rfl rfl (want_yes C 5 0 true rfl rfl rfl rfl rfl rfl rfl) rfl (opn_old C 3 (by kernel_rfl) rfl)
      · exact step_bin rfl rfl (want_yes C 5 2 true rfl rfl rfl rfl rfl rfl rfl) rfl (opn_new C 6 0 rfl rfl rfl rfl rfl rfl) (opn_new C 7 1 rfl rfl rfl rfl rfl rfl) (run_eql_int _ _ _ _ _ _ rfl)
      · exact step_pick true rfl rfl (want_none rfl) rfl (opn_new C 5 0 rfl rfl rfl rfl rfl rfl) (opn_new C 8 1 rfl rfl rfl rfl rfl rfl)
      · exact step_move rfl rfl (want_none rfl) rfl (opn_new C 9 0 rfl rfl rfl rfl rfl rfl)
      · exact step_load (k := 2) rfl rfl rfl (want_yes C 10 0 true rfl rfl rfl rfl rfl rfl rfl) rfl (opn_old C 4 (by kernel_rfl) rfl) (no_over (by kernel_rfl)) loads_L
      · exact step_call HPRE rfl rfl (want_yes C 10 1 true rfl rfl rfl rfl rfl rfl rfl) rfl en_compasslaw_noL (Opns.cons (opn_new C 11 0 rfl rfl rfl rfl rfl rfl) Opns.nil) (con_noL)
      · exact step_pick true rfl rfl (want_none rfl) rfl (opn_new C 10 0 rfl rfl rfl rfl rfl rfl) (opn_new C 12 1 rfl rfl rfl rfl rfl rfl)
      · exact step_move rfl rfl (want_none rfl) rfl (opn_new C 13 0 rfl rfl rfl rfl rfl rfl)
      · exact step_load (k := 3) rfl rfl rfl (want_yes C 14 0 true rfl rfl rfl rfl rfl rfl rfl) rfl (opn_old C 2 (by kernel_rfl) rfl) (no_over (by kernel_rfl)) loads_L
      · exact step_call HPRE rfl rfl (want_yes C 14 1 true rfl rfl rfl rfl rfl rfl rfl) rfl en_compasslaw_noL (Opns.cons (opn_new C 15 0 rfl rfl rfl rfl rfl rfl) Opns.nil) (con_noL)
      · exact step_pick true rfl rfl (want_none rfl) rfl (opn_new C 14 0 rfl rfl rfl rfl rfl rfl) (opn_new C 16 1 rfl rfl rfl rfl rfl rfl)
      · exact step_assign rfl rfl (want_none rfl) rfl (opn_new C 17 0 rfl rfl rfl rfl rfl rfl)
    intro γ a5 w5 S5
    replace S5 : AS w 90 [(4, Bo true), (8, In (5)), (7, Jus (.pointer (some ⟨G3_6, 0, none⟩))), (6, In (5)), (5, Jus (.pointer (some ⟨G2_6, 0, none⟩))), (3, Jus (.pointer (some ⟨G1_1, 0, none⟩))), (2, Jus (.pointer (some ⟨G1_0, 0, none⟩)))] [(G1_0, 26, Agg [Tx la, Tx lb, Tx lc]), (G1_1, 24, Agg [Tx px, Tx pz]), (G2_6, 26, Agg [Tx ⟨#[]⟩, Tx ⟨#[]⟩, Tx ⟨#[]⟩]), (G3_6, 26, Agg [Tx ⟨#[]⟩, Tx ⟨#[]⟩, Tx ⟨#[]⟩])] a5 w5 := cast (by kernel_rfl) (S5.keep [2, 3, 4, 5, 6, 7, 8])
    clear S4
    refine then_normal ?_
    refine wp_ret ?_
    refine then_ret ?_
    exact S5.ret 0 rfl rfl fun v hv => ⟨S5.bel, v, rfl, hv⟩
  ·
    obtain ⟨z6, ez6⟩ : ∃ q : Rat, q = rla * fac [rla, rlb, z1] := ⟨_, rfl⟩
    have fz6 : QS 67108949 z6 := by rw [ez6]; exact QS.mono (QS.fac (QS.mono (l := 16777237) tla.qs (by first | decide | omega)) (QS.mono (l := 16777237) tlb.qs (by first | decide | omega)) fz1 (by simp)) (by first | decide | omega)
    obtain ⟨s7, es7⟩ : ∃ s : ByteArray, s.data.toList = tx z6 := ⟨⟨(tx z6).toArray⟩, by simp⟩
    have ts7 : TX 67108949 s7 z6 := TX.told es7 fz6
    obtain ⟨z8, ez8⟩ : ∃ q : Rat, q = rlb * fac [rla, rlb, z1] := ⟨_, rfl⟩
    have fz8 : QS 67108949 z8 := by rw [ez8]; exact QS.mono (QS.fac (QS.mono (l := 16777237) tla.qs (by first | decide | omega)) (QS.mono (l := 16777237) tlb.qs (by first | decide | omega)) fz1 (by simp)) (by first | decide | omega)
    obtain ⟨s9, es9⟩ : ∃ s : ByteArray, s.data.toList = tx z8 := ⟨⟨(tx z8).toArray⟩, by simp⟩
    have ts9 : TX 67108949 s9 z8 := TX.told es9 fz8
    obtain ⟨z10, ez10⟩ : ∃ q : Rat, q = z1 * fac [rla, rlb, z1] := ⟨_, rfl⟩
    have fz10 : QS 67108949 z10 := by rw [ez10]; exact QS.mono (QS.fac (QS.mono (l := 16777237) tla.qs (by first | decide | omega)) (QS.mono (l := 16777237) tlb.qs (by first | decide | omega)) fz1 (by simp)) (by first | decide | omega)
    obtain ⟨s11, es11⟩ : ∃ s : ByteArray, s.data.toList = tx z10 := ⟨⟨(tx z10).toArray⟩, by simp⟩
    have ts11 : TX 67108949 s11 z10 := TX.told es11 fz10
    refine region_abs [.pure (Agg [Tx la, Tx lb, Tx lc]), .pure (Agg [Tx px, Tx pz]), .pure (Tup [Agg [Tx s7, Tx s9, Tx s11], In (0)]), .pure (Tup [Agg [Tx s7, Tx s9, Tx s11], In (0)]), .pure (Agg [Tx s7, Tx s9, Tx s11]), .pure (In (0)), .alloc 26 (Agg [Tx ⟨#[]⟩, Tx ⟨#[]⟩, Tx ⟨#[]⟩]), .fill 6 (Agg [Tx s7, Tx s9, Tx s11]), .pure (In (0))] ⟨S1, by decide +kernel⟩ (by kernel_rfl) (by kernel_rfl) rfl (by kernel_rfl) ?_ ?_
    · intro C
      refine ASteps.cons ?_ (ASteps.cons ?_ (ASteps.cons ?_ (ASteps.cons ?_ (ASteps.cons ?_ (ASteps.cons ?_ (ASteps.cons ?_ (ASteps.cons ?_ (ASteps.cons ?_ (ASteps.nil)))))))))
      · exact step_load (k := 0) rfl rfl rfl (want_none rfl) rfl (opn_old C 2 (by kernel_rfl) rfl) (no_over (by kernel_rfl)) loads_L
      · exact step_load (k := 1) rfl rfl rfl (want_none rfl) rfl (opn_old C 1 (by kernel_rfl) rfl) (no_over (by kernel_rfl)) loads_P
      · exact step_call HPRE rfl rfl (want_none rfl) rfl en_line_Beside (Opns.cons (opn_new C 0 0 rfl rfl rfl rfl rfl rfl) (Opns.cons (opn_new C 1 1 rfl rfl rfl rfl rfl rfl) Opns.nil)) (con_beside_ok tla tlb tlc tpx tpz ez1 (by first | decide | omega) (by first | decide | omega) h2 (es7.trans (by rw [ez6])) (es9.trans (by rw [ez8])) (es11.trans (by rw [ez10])))
      · exact step_move rfl rfl (want_none rfl) rfl (opn_new C 2 0 rfl rfl rfl rfl rfl rfl)
      · exact step_extract (k := 0) rfl rfl (want_none rfl) rfl (opn_new C 3 0 rfl rfl rfl rfl rfl rfl) rfl
      · exact step_extract (k := 1) rfl rfl (want_none rfl) rfl (opn_new C 3 0 rfl rfl rfl rfl rfl rfl) rfl
      · exact step_new [.string ⟨#[]⟩, .string ⟨#[]⟩, .string ⟨#[]⟩] zero_L rfl rfl (want_none rfl) rfl (fill_waits (s0 := 7) (k := 0) (by kernel_rfl) rfl rfl rfl rfl) allocs_L (by simp [notLimb]) (by kernel_rfl)
      · exact step_fill C (a := 6) (k := 0) rfl rfl rfl rfl (want_none rfl) rfl rfl rfl rfl rfl (by decide) (one_fill (by kernel_rfl)) (opn_new C 4 1 rfl rfl rfl rfl rfl rfl) (stores_L (cok3 (nl_tx s7) (nl_tx s9) (nl_tx s11)))
      · exact step_assign rfl rfl (want_none rfl) rfl (opn_new C 5 0 rfl rfl rfl rfl rfl rfl)
    intro γ a6 w6 S6
    replace S6 : AS w 90 [(6, In (0)), (5, Jus (.pointer (some ⟨γ 6, 0, none⟩))), (4, Bo false), (3, Jus (.pointer (some ⟨G1_1, 0, none⟩))), (2, Jus (.pointer (some ⟨G1_0, 0, none⟩)))] [(G1_0, 26, Agg [Tx la, Tx lb, Tx lc]), (G1_1, 24, Agg [Tx px, Tx pz]), (γ 6, 26, Agg [Tx s7, Tx s9, Tx s11])] a6 w6 := cast (by kernel_rfl) (S6.keep [2, 3, 4, 5, 6])
    generalize γ 6 = G6_6 at S6
    clear S1
    refine then_normal ?_
    refine wp_seq ?_
    obtain ⟨z12, ez12⟩ : ∃ q : Rat, q = -rlb := ⟨_, rfl⟩
    have fz12 : QS 4194309 z12 := by rw [ez12]; exact QS.mono tlb.qs.neg (by first | decide | omega)
    obtain ⟨z13, ez13⟩ : ∃ q : Rat, q = -(z12 * rpx + rla * rpz) := ⟨_, rfl⟩
    have fz13 : QS 16777237 z13 := by rw [ez13]; exact QS.mono ((fz12.mul tpx.qs).add (tla.qs.mul tpz.qs)).neg (by first | decide | omega)
    have h14 : ¬ (z12 = 0 ∧ rla = 0) := by (subst_vars; grind)
    obtain ⟨z15, ez15⟩ : ∃ q : Rat, q = z12 * fac [z12, rla, z13] := ⟨_, rfl⟩
    have fz15 : QS 67108949 z15 := by rw [ez15]; exact QS.mono (QS.fac (QS.mono (l := 16777237) fz12 (by first | decide | omega)) (QS.mono (l := 16777237) tla.qs (by first | decide | omega)) fz13 (by simp)) (by first | decide | omega)
    obtain ⟨s16, es16⟩ : ∃ s : ByteArray, s.data.toList = tx z15 := ⟨⟨(tx z15).toArray⟩, by simp⟩
    have ts16 : TX 67108949 s16 z15 := TX.told es16 fz15
    obtain ⟨z17, ez17⟩ : ∃ q : Rat, q = rla * fac [z12, rla, z13] := ⟨_, rfl⟩
    have fz17 : QS 67108949 z17 := by rw [ez17]; exact QS.mono (QS.fac (QS.mono (l := 16777237) fz12 (by first | decide | omega)) (QS.mono (l := 16777237) tla.qs (by first | decide | omega)) fz13 (by simp)) (by first | decide | omega)
    obtain ⟨s18, es18⟩ : ∃ s : ByteArray, s.data.toList = tx z17 := ⟨⟨(tx z17).toArray⟩, by simp⟩
    have ts18 : TX 67108949 s18 z17 := TX.told es18 fz17
    obtain ⟨z19, ez19⟩ : ∃ q : Rat, q = z13 * fac [z12, rla, z13] := ⟨_, rfl⟩
    have fz19 : QS 67108949 z19 := by rw [ez19]; exact QS.mono (QS.fac (QS.mono (l := 16777237) fz12 (by first | decide | omega)) (QS.mono (l := 16777237) tla.qs (by first | decide | omega)) fz13 (by simp)) (by first | decide | omega)
    obtain ⟨s20, es20⟩ : ∃ s : ByteArray, s.data.toList = tx z19 := ⟨⟨(tx z19).toArray⟩, by simp⟩
    have ts20 : TX 67108949 s20 z19 := TX.told es20 fz19
    refine region_abs [.pure (Agg [Tx la, Tx lb, Tx lc]), .pure (Agg [Tx px, Tx pz]), .pure (Tup [Agg [Tx s16, Tx s18, Tx s20], In (0)]), .pure (Tup [Agg [Tx s16, Tx s18, Tx s20], In (0)]), .pure (Agg [Tx s16, Tx s18, Tx s20]), .pure (In (0)), .alloc 26 (Agg [Tx ⟨#[]⟩, Tx ⟨#[]⟩, Tx ⟨#[]⟩]), .fill 6 (Agg [Tx s16, Tx s18, Tx s20]), .pure (In (0))] ⟨S6, by decide +kernel⟩ (by kernel_rfl) (by kernel_rfl) rfl (by kernel_rfl) ?_ ?_
    · intro C
      refine ASteps.cons ?_ (ASteps.cons ?_ (ASteps.cons ?_ (ASteps.cons ?_ (ASteps.cons ?_ (ASteps.cons ?_ (ASteps.cons ?_ (ASteps.cons ?_ (ASteps.cons ?_ (ASteps.nil)))))))))
      · exact step_load (k := 0) rfl rfl rfl (want_none rfl) rfl (opn_old C 4 (by kernel_rfl) rfl) (no_over (by kernel_rfl)) loads_L
      · exact step_load (k := 1) rfl rfl rfl (want_none rfl) rfl (opn_old C 3 (by kernel_rfl) rfl) (no_over (by kernel_rfl)) loads_P
      · exact step_call HPRE rfl rfl (want_none rfl) rfl en_line_Square (Opns.cons (opn_new C 0 0 rfl rfl rfl rfl rfl rfl) (Opns.cons (opn_new C 1 1 rfl rfl rfl rfl rfl rfl) Opns.nil)) (con_lsq_ok tla tlb tlc tpx tpz ez12 ez13 (by first | decide | omega) (by first | decide | omega) h14 (es16.trans (by rw [ez15])) (es18.trans (by rw [ez17])) (es20.trans (by rw [ez19])))
      · exact step_move rfl rfl (want_none rfl) rfl (opn_new C 2 0 rfl rfl rfl rfl rfl rfl)
      · exact step_extract (k := 0) rfl rfl (want_none rfl) rfl (opn_new C 3 0 rfl rfl rfl rfl rfl rfl) rfl
      · exact step_extract (k := 1) rfl rfl (want_none rfl) rfl (opn_new C 3 0 rfl rfl rfl rfl rfl rfl) rfl
      · exact step_new [.string ⟨#[]⟩, .string ⟨#[]⟩, .string ⟨#[]⟩] zero_L rfl rfl (want_none rfl) rfl (fill_waits (s0 := 7) (k := 0) (by kernel_rfl) rfl rfl rfl rfl) allocs_L (by simp [notLimb]) (by kernel_rfl)
      · exact step_fill C (a := 6) (k := 0) rfl rfl rfl rfl (want_none rfl) rfl rfl rfl rfl rfl (by decide) (one_fill (by kernel_rfl)) (opn_new C 4 1 rfl rfl rfl rfl rfl rfl) (stores_L (cok3 (nl_tx s16) (nl_tx s18) (nl_tx s20)))
      · exact step_assign rfl rfl (want_none rfl) rfl (opn_new C 5 0 rfl rfl rfl rfl rfl rfl)
    intro γ a7 w7 S7
    replace S7 : AS w 90 [(8, In (0)), (7, Jus (.pointer (some ⟨γ 6, 0, none⟩))), (6, In (0)), (5, Jus (.pointer (some ⟨G6_6, 0, none⟩))), (4, Bo false), (3, Jus (.pointer (some ⟨G1_1, 0, none⟩))), (2, Jus (.pointer (some ⟨G1_0, 0, none⟩)))] [(G1_0, 26, Agg [Tx la, Tx lb, Tx lc]), (G1_1, 24, Agg [Tx px, Tx pz]), (G6_6, 26, Agg [Tx s7, Tx s9, Tx s11]), (γ 6, 26, Agg [Tx s16, Tx s18, Tx s20])] a7 w7 := cast (by kernel_rfl) (S7.keep [2, 3, 4, 5, 6, 7, 8])
    generalize γ 6 = G7_6 at S7
    clear S6
    refine then_normal ?_
    refine wp_seq ?_
    refine wp_seq ?_
    refine region_abs [.pure (Bo true), .pure (Bo false), .pure (Bo false), .pure (Agg [Tx la, Tx lb, Tx lc]), .pure (Bo true), .pure (Bo false), .pure (Bo false)] ⟨S7, by decide +kernel⟩ (by kernel_rfl) (by kernel_rfl) rfl (by kernel_rfl) ?_ ?_
    · intro C
      refine ASteps.cons ?_ (ASteps.cons ?_ (ASteps.cons ?_ (ASteps.cons ?_ (ASteps.cons ?_ (ASteps.cons ?_ (ASteps.cons ?_ (ASteps.nil)))))))
      · exact step_call HPRE rfl rfl (want_none rfl) rfl en_compasslaw_lined Opns.nil (con_lined)
      · exact step_not true rfl rfl (want_none rfl) rfl (opn_new C 0 0 rfl rfl rfl rfl rfl rfl)
      · exact step_move rfl rfl (want_none rfl) rfl (opn_new C 1 0 rfl rfl rfl rfl rfl rfl)
      · exact step_load (k := 0) rfl rfl rfl (want_yes C 2 0 false rfl rfl rfl rfl rfl rfl rfl) rfl (opn_old C 6 (by kernel_rfl) rfl) (no_over (by kernel_rfl)) loads_L
      · exact step_call HPRE rfl rfl (want_yes C 2 1 false rfl rfl rfl rfl rfl rfl rfl) rfl en_compassref_Line (Opns.cons (opn_new C 3 0 rfl rfl rfl rfl rfl rfl) Opns.nil) (con_Line_t tla tlb tlc (by first | decide | omega) h2)
      · exact step_not true rfl rfl (want_yes C 2 1 false rfl rfl rfl rfl rfl rfl rfl) rfl (opn_new C 4 0 rfl rfl rfl rfl rfl rfl)
      · exact step_pick false rfl rfl (want_none rfl) rfl (opn_new C 2 0 rfl rfl rfl rfl rfl rfl) (opn_new C 5 1 rfl rfl rfl rfl rfl rfl)
    intro γ a8 w8 S8
    replace S8 : AS w 90 [(27, Bo false), (8, In (0)), (7, Jus (.pointer (some ⟨G7_6, 0, none⟩))), (6, In (0)), (5, Jus (.pointer (some ⟨G6_6, 0, none⟩))), (4, Bo false), (3, Jus (.pointer (some ⟨G1_1, 0, none⟩))), (2, Jus (.pointer (some ⟨G1_0, 0, none⟩)))] [(G1_0, 26, Agg [Tx la, Tx lb, Tx lc]), (G1_1, 24, Agg [Tx px, Tx pz]), (G6_6, 26, Agg [Tx s7, Tx s9, Tx s11]), (G7_6, 26, Agg [Tx s16, Tx s18, Tx s20])] a8 w8 := cast (by kernel_rfl) (S8.keep [2, 3, 4, 5, 6, 7, 8, 27])
    clear S7
    refine then_normal ?_
    refine wp_cond_false (S8.val 0 rfl) ?_
    refine wp_skip ?_
    refine then_normal ?_
    refine wp_seq ?_
    obtain ⟨z21, ez21⟩ : ∃ q : Rat, q = z6 * rpx + z8 * rpz + z10 := ⟨_, rfl⟩
    have fz21 : QS 209715467 z21 := by rw [ez21]; exact QS.mono (((fz6.mul tpx.qs).add (fz8.mul tpz.qs)).add fz10) (by first | decide | omega)
    have h22 : z21 = 0 := by (subst_vars; grind)
    obtain ⟨z23, ez23⟩ : ∃ q : Rat, q = z15 * rpx + z17 * rpz + z19 := ⟨_, rfl⟩
    have fz23 : QS 209715467 z23 := by rw [ez23]; exact QS.mono (((fz15.mul tpx.qs).add (fz17.mul tpz.qs)).add fz19) (by first | decide | omega)
    have h24 : z23 = 0 := by (subst_vars; grind)
    obtain ⟨z25, ez25⟩ : ∃ q : Rat, q = (rla * z8) - (rlb * z6) := ⟨_, rfl⟩
    have fz25 : QS 142606517 z25 := by rw [ez25]; exact QS.mono ((tla.qs.mul fz8).sub (tlb.qs.mul fz6)) (by first | decide | omega)
    have h26 : z25 = 0 := by (subst_vars; grind)
    obtain ⟨z27, ez27⟩ : ∃ q : Rat, q = (rla * z15) + (rlb * z17) := ⟨_, rfl⟩
    have fz27 : QS 142606517 z27 := by rw [ez27]; exact QS.mono ((tla.qs.mul fz15).add (tlb.qs.mul fz17)) (by first | decide | omega)
    have h28 : z27 = 0 := by (subst_vars; grind)
    refine region_abs [.pure (In (0)), .pure (Bo true), .pure (Bo true), .pure (In (0)), .pure (Bo true), .pure (Bo true), .pure (Bo true), .pure (Agg [Tx s7, Tx s9, Tx s11]), .pure (Bo true), .pure (Bo true), .pure (Bo true), .pure (Agg [Tx s16, Tx s18, Tx s20]), .pure (Bo true), .pure (Bo true), .pure (Bo true), .pure (Agg [Tx s7, Tx s9, Tx s11]), .pure (Agg [Tx px, Tx pz]), .pure (Agg [Rt rpx, Rt rpz]), .pure (Rt z21), .pure (Bo true), .pure (Bo true), .pure (Bo true), .pure (Agg [Tx s16, Tx s18, Tx s20]), .pure (Agg [Tx px, Tx pz]), .pure (Agg [Rt rpx, Rt rpz]), .pure (Rt z23), .pure (Bo true), .pure (Bo true), .pure (Bo true), .pure (Agg [Tx la, Tx lb, Tx lc]), .pure (Agg [Rt rla, Rt rlb]), .pure (Agg [Tx s7, Tx s9, Tx s11]), .pure (Agg [Rt z6, Rt z8]), .pure (Rt z25), .pure (Bo true), .pure (Bo true), .pure (Bo true), .pure (Agg [Tx la, Tx lb, Tx lc]), .pure (Agg [Rt rla, Rt rlb]), .pure (Agg [Tx s16, Tx s18, Tx s20]), .pure (Agg [Rt z15, Rt z17]), .pure (Rt z27), .pure (Bo true), .pure (Bo true), .pure (Bo true)] ⟨S8, by decide +kernel⟩ (by kernel_rfl) (by kernel_rfl) rfl (by kernel_rfl) ?_ ?_
    · intro C
      refine ASteps.cons ?_ (ASteps.cons ?_ (ASteps.cons ?_ (ASteps.cons ?_ (ASteps.cons ?_ (ASteps.cons ?_ (ASteps.cons ?_ (ASteps.cons ?_ (ASteps.cons ?_ (ASteps.cons ?_ (ASteps.cons ?_ (ASteps.cons ?_ (ASteps.cons ?_ (ASteps.cons ?_ (ASteps.cons ?_ (ASteps.cons ?_ (ASteps.cons ?_ (ASteps.cons ?_ (ASteps.cons ?_ (ASteps.cons ?_ (ASteps.cons ?_ (ASteps.cons ?_ (ASteps.cons ?_ (ASteps.cons ?_ (ASteps.cons ?_ (ASteps.cons ?_ (ASteps.cons ?_ (ASteps.cons ?_ (ASteps.cons ?_ (ASteps.cons ?_ (ASteps.cons ?_ (ASteps.cons ?_ (ASteps.cons ?_ (ASteps.cons ?_ (ASteps.cons ?_ (ASteps.cons ?_ (ASteps.cons ?_ (ASteps.cons ?_ (ASteps.cons ?_ (ASteps.cons ?_ (ASteps.cons ?_ (ASteps.cons ?_ (ASteps.cons ?_ (ASteps.cons ?_ (ASteps.cons ?_ (ASteps.nil)))))))))))))))))))))))))))))))))))))))))))))
      · exact step_move rfl rfl (want_none rfl) rfl (opn_old C 3 (by kernel_rfl) rfl)
      · exact step_bin rfl rfl (want_none rfl) rfl (opn_new C 0 0 rfl rfl rfl rfl rfl rfl) (opn_const _) (run_eql_int _ _ _ _ _ _ rfl)
      · exact step_move rfl rfl (want_none rfl) rfl (opn_new C 1 0 rfl rfl rfl rfl rfl rfl)
      · exact step_move rfl rfl (want_yes C 2 0 true rfl rfl rfl rfl rfl rfl rfl) rfl (opn_old C 1 (by kernel_rfl) rfl)
      · exact step_bin rfl rfl (want_yes C 2 1 true rfl rfl rfl rfl rfl rfl rfl) rfl (opn_new C 3 0 rfl rfl rfl rfl rfl rfl) (opn_const _) (run_eql_int _ _ _ _ _ _ rfl)
      · exact step_pick true rfl rfl (want_none rfl) rfl (opn_new C 2 0 rfl rfl rfl rfl rfl rfl) (opn_new C 4 1 rfl rfl rfl rfl rfl rfl)
      · exact step_move rfl rfl (want_none rfl) rfl (opn_new C 5 0 rfl rfl rfl rfl rfl rfl)
      · exact step_load (k := 2) rfl rfl rfl (want_yes C 6 0 true rfl rfl rfl rfl rfl rfl rfl) rfl (opn_old C 4 (by kernel_rfl) rfl) (no_over (by kernel_rfl)) loads_L
      · exact step_call HPRE rfl rfl (want_yes C 6 1 true rfl rfl rfl rfl rfl rfl rfl) rfl en_compassref_PlainL (Opns.cons (opn_new C 7 0 rfl rfl rfl rfl rfl rfl) Opns.nil) (con_PlainL ts7 ts9 ts11 (TX.right es7) (TX.right es9) (TX.right es11) (by first | decide | omega) (plain_ne h2 ez6 ez8) (plain_three h2 ez6 ez8 ez10))
      · exact step_pick true rfl rfl (want_none rfl) rfl (opn_new C 6 0 rfl rfl rfl rfl rfl rfl) (opn_new C 8 1 rfl rfl rfl rfl rfl rfl)
      · exact step_move rfl rfl (want_none rfl) rfl (opn_new C 9 0 rfl rfl rfl rfl rfl rfl)
      · exact step_load (k := 3) rfl rfl rfl (want_yes C 10 0 true rfl rfl rfl rfl rfl rfl rfl) rfl (opn_old C 2 (by kernel_rfl) rfl) (no_over (by kernel_rfl)) loads_L
      · exact step_call HPRE rfl rfl (want_yes C 10 1 true rfl rfl rfl rfl rfl rfl rfl) rfl en_compassref_PlainL (Opns.cons (opn_new C 11 0 rfl rfl rfl rfl rfl rfl) Opns.nil) (con_PlainL ts16 ts18 ts20 (TX.right es16) (TX.right es18) (TX.right es20) (by first | decide | omega) (plain_ne h14 ez15 ez17) (plain_three h14 ez15 ez17 ez19))
      · exact step_pick true rfl rfl (want_none rfl) rfl (opn_new C 10 0 rfl rfl rfl rfl rfl rfl) (opn_new C 12 1 rfl rfl rfl rfl rfl rfl)
      · exact step_move rfl rfl (want_none rfl) rfl (opn_new C 13 0 rfl rfl rfl rfl rfl rfl)
      · exact step_load (k := 2) rfl rfl rfl (want_yes C 14 0 true rfl rfl rfl rfl rfl rfl rfl) rfl (opn_old C 4 (by kernel_rfl) rfl) (no_over (by kernel_rfl)) loads_L
      · exact step_load (k := 1) rfl rfl rfl (want_yes C 14 0 true rfl rfl rfl rfl rfl rfl rfl) rfl (opn_old C 6 (by kernel_rfl) rfl) (no_over (by kernel_rfl)) loads_P
      · exact step_call HPRE rfl rfl (want_yes C 14 1 true rfl rfl rfl rfl rfl rfl rfl) rfl en_compassref_P (Opns.cons (opn_new C 16 0 rfl rfl rfl rfl rfl rfl) Opns.nil) (con_P tpx tpz (by first | decide | omega) (by first | decide | omega))
      · exact step_call HPRE rfl rfl (want_yes C 14 3 true rfl rfl rfl rfl rfl rfl rfl) rfl en_compassref_At (Opns.cons (opn_new C 15 0 rfl rfl rfl rfl rfl rfl) (Opns.cons (opn_new C 17 1 rfl rfl rfl rfl rfl rfl) Opns.nil)) (con_At ts7 ts9 ts11 (QS.mono (l := 67108949) tpx.qs (by first | decide | omega)) (QS.mono (l := 67108949) tpz.qs (by first | decide | omega)) ez21 (by first | decide | omega) (by first | decide | omega))
      · exact step_call HPRE rfl rfl (want_yes C 14 2 true rfl rfl rfl rfl rfl rfl rfl) rfl en_compassref_Zero (Opns.cons (opn_new C 18 0 rfl rfl rfl rfl rfl rfl) Opns.nil) (con_Zero_t  h22)
      · exact step_pick true rfl rfl (want_none rfl) rfl (opn_new C 14 0 rfl rfl rfl rfl rfl rfl) (opn_new C 19 1 rfl rfl rfl rfl rfl rfl)
      · exact step_move rfl rfl (want_none rfl) rfl (opn_new C 20 0 rfl rfl rfl rfl rfl rfl)
      · exact step_load (k := 3) rfl rfl rfl (want_yes C 21 0 true rfl rfl rfl rfl rfl rfl rfl) rfl (opn_old C 2 (by kernel_rfl) rfl) (no_over (by kernel_rfl)) loads_L
      · exact step_load (k := 1) rfl rfl rfl (want_yes C 21 0 true rfl rfl rfl rfl rfl rfl rfl) rfl (opn_old C 6 (by kernel_rfl) rfl) (no_over (by kernel_rfl)) loads_P
      · exact step_call HPRE rfl rfl (want_yes C 21 1 true rfl rfl rfl rfl rfl rfl rfl) rfl en_compassref_P (Opns.cons (opn_new C 23 0 rfl rfl rfl rfl rfl rfl) Opns.nil) (con_P tpx tpz (by first | decide | omega) (by first | decide | omega))
      · exact step_call HPRE rfl rfl (want_yes C 21 3 true rfl rfl rfl rfl rfl rfl rfl) rfl en_compassref_At (Opns.cons (opn_new C 22 0 rfl rfl rfl rfl rfl rfl) (Opns.cons (opn_new C 24 1 rfl rfl rfl rfl rfl rfl) Opns.nil)) (con_At ts16 ts18 ts20 (QS.mono (l := 67108949) tpx.qs (by first | decide | omega)) (QS.mono (l := 67108949) tpz.qs (by first | decide | omega)) ez23 (by first | decide | omega) (by first | decide | omega))
      · exact step_call HPRE rfl rfl (want_yes C 21 2 true rfl rfl rfl rfl rfl rfl rfl) rfl en_compassref_Zero (Opns.cons (opn_new C 25 0 rfl rfl rfl rfl rfl rfl) Opns.nil) (con_Zero_t  h24)
      · exact step_pick true rfl rfl (want_none rfl) rfl (opn_new C 21 0 rfl rfl rfl rfl rfl rfl) (opn_new C 26 1 rfl rfl rfl rfl rfl rfl)
      · exact step_move rfl rfl (want_none rfl) rfl (opn_new C 27 0 rfl rfl rfl rfl rfl rfl)
      · exact step_load (k := 0) rfl rfl rfl (want_yes C 28 0 true rfl rfl rfl rfl rfl rfl rfl) rfl (opn_old C 7 (by kernel_rfl) rfl) (no_over (by kernel_rfl)) loads_L
      · exact step_call HPRE rfl rfl (want_yes C 28 1 true rfl rfl rfl rfl rfl rfl rfl) rfl en_compassref_Norm (Opns.cons (opn_new C 29 0 rfl rfl rfl rfl rfl rfl) Opns.nil) (con_Norm tla tlb tlc (by first | decide | omega))
      · exact step_load (k := 2) rfl rfl rfl (want_yes C 28 0 true rfl rfl rfl rfl rfl rfl rfl) rfl (opn_old C 4 (by kernel_rfl) rfl) (no_over (by kernel_rfl)) loads_L
      · exact step_call HPRE rfl rfl (want_yes C 28 2 true rfl rfl rfl rfl rfl rfl rfl) rfl en_compassref_Norm (Opns.cons (opn_new C 31 0 rfl rfl rfl rfl rfl rfl) Opns.nil) (con_Norm ts7 ts9 ts11 (by first | decide | omega))
      · exact step_call HPRE rfl rfl (want_yes C 28 3 true rfl rfl rfl rfl rfl rfl rfl) rfl en_compassref_V_Cross (Opns.cons (opn_new C 30 0 rfl rfl rfl rfl rfl rfl) (Opns.cons (opn_new C 32 1 rfl rfl rfl rfl rfl rfl) Opns.nil)) (con_Cross ez25 (QS.mono (l := 67108949) tla.qs (by first | decide | omega)) (QS.mono (l := 67108949) tlb.qs (by first | decide | omega)) fz6 fz8 (by first | decide | omega))
      · exact step_call HPRE rfl rfl (want_yes C 28 2 true rfl rfl rfl rfl rfl rfl rfl) rfl en_compassref_Zero (Opns.cons (opn_new C 33 0 rfl rfl rfl rfl rfl rfl) Opns.nil) (con_Zero_t  h26)
      · exact step_pick true rfl rfl (want_none rfl) rfl (opn_new C 28 0 rfl rfl rfl rfl rfl rfl) (opn_new C 34 1 rfl rfl rfl rfl rfl rfl)
      · exact step_move rfl rfl (want_none rfl) rfl (opn_new C 35 0 rfl rfl rfl rfl rfl rfl)
      · exact step_load (k := 0) rfl rfl rfl (want_yes C 36 0 true rfl rfl rfl rfl rfl rfl rfl) rfl (opn_old C 7 (by kernel_rfl) rfl) (no_over (by kernel_rfl)) loads_L
      · exact step_call HPRE rfl rfl (want_yes C 36 1 true rfl rfl rfl rfl rfl rfl rfl) rfl en_compassref_Norm (Opns.cons (opn_new C 37 0 rfl rfl rfl rfl rfl rfl) Opns.nil) (con_Norm tla tlb tlc (by first | decide | omega))
      · exact step_load (k := 3) rfl rfl rfl (want_yes C 36 0 true rfl rfl rfl rfl rfl rfl rfl) rfl (opn_old C 2 (by kernel_rfl) rfl) (no_over (by kernel_rfl)) loads_L
      · exact step_call HPRE rfl rfl (want_yes C 36 2 true rfl rfl rfl rfl rfl rfl rfl) rfl en_compassref_Norm (Opns.cons (opn_new C 39 0 rfl rfl rfl rfl rfl rfl) Opns.nil) (con_Norm ts16 ts18 ts20 (by first | decide | omega))
      · exact step_call HPRE rfl rfl (want_yes C 36 3 true rfl rfl rfl rfl rfl rfl rfl) rfl en_compassref_V_Dot (Opns.cons (opn_new C 38 0 rfl rfl rfl rfl rfl rfl) (Opns.cons (opn_new C 40 1 rfl rfl rfl rfl rfl rfl) Opns.nil)) (con_Dot ez27 (QS.mono (l := 67108949) tla.qs (by first | decide | omega)) (QS.mono (l := 67108949) tlb.qs (by first | decide | omega)) fz15 fz17 (by first | decide | omega))
      · exact step_call HPRE rfl rfl (want_yes C 36 2 true rfl rfl rfl rfl rfl rfl rfl) rfl en_compassref_Zero (Opns.cons (opn_new C 41 0 rfl rfl rfl rfl rfl rfl) Opns.nil) (con_Zero_t  h28)
      · exact step_pick true rfl rfl (want_none rfl) rfl (opn_new C 36 0 rfl rfl rfl rfl rfl rfl) (opn_new C 42 1 rfl rfl rfl rfl rfl rfl)
      · exact step_assign rfl rfl (want_none rfl) rfl (opn_new C 43 0 rfl rfl rfl rfl rfl rfl)
    intro γ a9 w9 S9
    replace S9 : AS w 90 [(4, Bo true)] [(G1_0, 26, Agg [Tx la, Tx lb, Tx lc]), (G1_1, 24, Agg [Tx px, Tx pz]), (G6_6, 26, Agg [Tx s7, Tx s9, Tx s11]), (G7_6, 26, Agg [Tx s16, Tx s18, Tx s20])] a9 w9 := cast (by kernel_rfl) (S9.keep [4])
    clear S8
    refine then_normal ?_
    refine wp_ret ?_
    exact S9.ret 0 rfl rfl fun v hv => ⟨S9.bel, v, rfl, hv⟩
theorem lineBeside_walk {w : World} {la lb lc px pz : ByteArray} (sla : la.size ≤ 1048576) (slb : lb.size ≤ 1048576) (slc : lc.size ≤ 1048576) (spx : px.size ≤ 1048576) (spz : pz.size ≤ 1048576) (tab : Tab w) (mx : MaxL w) :
    Calls Tryz.prog 6 #[.agg #[.string la, .string lb, .string lc], .agg #[.string px, .string pz]] w fun e w' => Below w.heap.size w w' ∧ e = .returned (.bool true) := by
  refine (lineBeside sla (TX.param sla) slb (TX.param slb) slc (TX.param slc) spx (TX.param spx) spz (TX.param spz) w [.agg #[.string la, .string lb, .string lc], .agg #[.string px, .string pz]] ⟨tab, mx⟩ ⟨L3.mk _ _ _ _, P2.mk _ _ _, trivial⟩).mono ?_
  rintro _ w' ⟨hb, v, rfl, hv⟩
  exact ⟨hb, by rw [show v = _ from hv]⟩
end Go.Proofs.YtgajdmadbdbabaaGreatDoor
