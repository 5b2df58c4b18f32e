/- Part 14 of the walks and of the mathematics under them: LAB. -/
import Derived.Test.YtgajdmadbdbabaaGreatDoorA12
import Derived.Test.YtgajdmadbdbabaaGreatDoorA13
set_option maxHeartbeats 16000000
set_option maxRecDepth 100000
/- LAB -/
namespace Go.Proofs.YtgajdmadbdbabaaGreatDoor
open Go.RowKit Cx
theorem lineBetween {px pz qx qz : ByteArray} {rpx rpz rqx rqz : Rat} (spx : px.size ≤ 1048576) (tpx : TX 4194309 px rpx) (spz : pz.size ≤ 1048576) (tpz : TX 4194309 pz rpz) (sqx : qx.size ≤ 1048576) (tqx : TX 4194309 qx rqx) (sqz : qz.size ≤ 1048576) (tqz : TX 4194309 qz rqz) :
    Con Tryz.prog Pre 7 [Agg [Tx px, Tx pz], Agg [Tx qx, Tx qz]] (Bo true) := by
  refine con_of (n := 59) Tryz.func7 rfl rfl (Nat.le_of_ble_eq_true rfl) ?_
  intro w a0 hp S0
  have HPRE : ∀ w', Below w.heap.size w w' → Pre w' := fun w' hb => hp.below hb
  refine wp_seq ?_
  refine region_abs [.alloc 24 (Agg [Tx px, Tx pz]), .alloc 24 (Agg [Tx qx, Tx qz]), .pure (Bo false)] ⟨S0, by decide +kernel⟩ (by kernel_rfl) (by kernel_rfl) rfl (by kernel_rfl) ?_ ?_
  · intro C
    refine ASteps.cons ?_ (ASteps.cons ?_ (ASteps.cons ?_ (ASteps.nil)))
    · exact step_box rfl rfl (want_none rfl) rfl (no_fill (by kernel_rfl)) (opn_old C 0 (by kernel_rfl) rfl) (boxes_P (cok2 (nl_tx px) (nl_tx pz)))
    · exact step_box rfl rfl (want_none rfl) rfl (no_fill (by kernel_rfl)) (opn_old C 1 (by kernel_rfl) rfl) (boxes_P (cok2 (nl_tx qx) (nl_tx qz)))
    · exact step_assign rfl rfl (want_none rfl) rfl (opn_const _)
  intro γ a1 w1 S1
  replace S1 : AS w 59 [(4, Bo false), (3, Jus (.pointer (some ⟨γ 1, 0, none⟩))), (2, Jus (.pointer (some ⟨γ 0, 0, none⟩)))] [(γ 0, 24, Agg [Tx px, Tx pz]), (γ 1, 24, Agg [Tx qx, Tx qz])] a1 w1 := cast (by kernel_rfl) (S1.keep [2, 3, 4])
  generalize γ 0 = G1_0 at S1
  generalize γ 1 = G1_1 at S1
  clear S0
  refine then_normal ?_
  refine wp_seq ?_
  obtain ⟨z1, ez1⟩ : ∃ q : Rat, q = rqx - rpx := ⟨_, rfl⟩
  have fz1 : QS 8388619 z1 := by rw [ez1]; exact QS.mono (tqx.qs.sub tpx.qs) (by first | decide | omega)
  obtain ⟨z2, ez2⟩ : ∃ q : Rat, q = rqz - rpz := ⟨_, rfl⟩
  have fz2 : QS 8388619 z2 := by rw [ez2]; exact QS.mono (tqz.qs.sub tpz.qs) (by first | decide | omega)
  obtain ⟨z3, ez3⟩ : ∃ q : Rat, q = -(z1 * ((rpx + rqx) / ((2 : Nat) : Rat)) + z2 * ((rpz + rqz) / ((2 : Nat) : Rat))) := ⟨_, rfl⟩
  have fz3 : QS 33554493 z3 := by rw [ez3]; exact QS.mono ((fz1.mul ((tpx.qs.add tqx.qs).div qs_2)).add (fz2.mul ((tpz.qs.add tqz.qs).div qs_2))).neg (by first | decide | omega)
  by_cases h4 : z1 = 0 ∧ z2 = 0
  ·
    refine region_abs [.pure (Agg [Tx px, Tx pz]), .pure (Agg [Tx qx, Tx qz]), .pure (Tup [Agg [Tx ⟨#[]⟩, Tx ⟨#[]⟩, Tx ⟨#[]⟩], In (5)]), .pure (Tup [Agg [Tx ⟨#[]⟩, Tx ⟨#[]⟩, Tx ⟨#[]⟩], In (5)]), .pure (Agg [Tx ⟨#[]⟩, Tx ⟨#[]⟩, Tx ⟨#[]⟩]), .pure (In (5)), .alloc 26 (Agg [Tx ⟨#[]⟩, Tx ⟨#[]⟩, Tx ⟨#[]⟩]), .fill 6 (Agg [Tx ⟨#[]⟩, Tx ⟨#[]⟩, Tx ⟨#[]⟩]), .pure (In (5))] ⟨S1, by decide +kernel⟩ (by kernel_rfl) (by kernel_rfl) rfl (by kernel_rfl) ?_ ?_
    · intro C
      refine ASteps.cons ?_ (ASteps.cons ?_ (ASteps.cons ?_ (ASteps.cons ?_ (ASteps.cons ?_ (ASteps.cons ?_ (ASteps.cons ?_ (ASteps.cons ?_ (ASteps.cons ?_ (ASteps.nil)))))))))
      · exact step_load (k := 0) rfl rfl rfl (want_none rfl) rfl (opn_old C 2 (by kernel_rfl) rfl) (no_over (by kernel_rfl)) loads_P
      · exact step_load (k := 1) rfl rfl rfl (want_none rfl) rfl (opn_old C 1 (by kernel_rfl) rfl) (no_over (by kernel_rfl)) loads_P
      · exact step_call HPRE rfl rfl (want_none rfl) rfl en_line_Between (Opns.cons (opn_new C 0 0 rfl rfl rfl rfl rfl rfl) (Opns.cons (opn_new C 1 1 rfl rfl rfl rfl rfl rfl) Opns.nil)) (con_between_flat tpx spx tpz spz tqx sqx tqz sqz ez1 ez2 ez3 h4)
      · exact step_move rfl rfl (want_none rfl) rfl (opn_new C 2 0 rfl rfl rfl rfl rfl rfl)
      · exact step_extract (k := 0) rfl rfl (want_none rfl) rfl (opn_new C 3 0 rfl rfl rfl rfl rfl rfl) rfl
      · exact step_extract (k := 1) rfl rfl (want_none rfl) rfl (opn_new C 3 0 rfl rfl rfl rfl rfl rfl) rfl
      · exact step_new [.string ⟨#[]⟩, .string ⟨#[]⟩, .string ⟨#[]⟩] zero_L rfl rfl (want_none rfl) rfl (fill_waits (s0 := 7) (k := 0) (by kernel_rfl) rfl rfl rfl rfl) allocs_L (by simp [notLimb]) (by kernel_rfl)
      · exact step_fill C (a := 6) (k := 0) rfl rfl rfl rfl (want_none rfl) rfl rfl rfl rfl rfl (by decide) (one_fill (by kernel_rfl)) (opn_new C 4 1 rfl rfl rfl rfl rfl rfl) (stores_L (cok3 (nl_tx ⟨#[]⟩) (nl_tx ⟨#[]⟩) (nl_tx ⟨#[]⟩)))
      · exact step_assign rfl rfl (want_none rfl) rfl (opn_new C 5 0 rfl rfl rfl rfl rfl rfl)
    intro γ a2 w2 S2
    replace S2 : AS w 59 [(6, In (5)), (5, Jus (.pointer (some ⟨γ 6, 0, none⟩))), (4, Bo false), (3, Jus (.pointer (some ⟨G1_1, 0, none⟩))), (2, Jus (.pointer (some ⟨G1_0, 0, none⟩)))] [(G1_0, 24, Agg [Tx px, Tx pz]), (G1_1, 24, Agg [Tx qx, Tx qz]), (γ 6, 26, Agg [Tx ⟨#[]⟩, Tx ⟨#[]⟩, Tx ⟨#[]⟩])] a2 w2 := cast (by kernel_rfl) (S2.keep [2, 3, 4, 5, 6])
    generalize γ 6 = G2_6 at S2
    clear S1
    refine then_normal ?_
    refine wp_seq ?_
    refine region_abs [.pure (Agg [Tx px, Tx pz]), .pure (Agg [Rt rpx, Rt rpz]), .pure (Agg [Tx qx, Tx qz]), .pure (Agg [Rt rqx, Rt rqz]), .alloc 43 (Agg [Jus (.pointer none), Jus (.pointer none)]), .alloc 43 (Agg [Jus (.pointer none), Jus (.pointer none)]), .fill 4 (Agg [Rt rpx, Rt rpz]), .fill 5 (Agg [Rt rqx, Rt rqz])] ⟨S2, by decide +kernel⟩ (by kernel_rfl) (by kernel_rfl) rfl (by kernel_rfl) ?_ ?_
    · intro C
      refine ASteps.cons ?_ (ASteps.cons ?_ (ASteps.cons ?_ (ASteps.cons ?_ (ASteps.cons ?_ (ASteps.cons ?_ (ASteps.cons ?_ (ASteps.cons ?_ (ASteps.nil))))))))
      · exact step_load (k := 0) rfl rfl rfl (want_none rfl) rfl (opn_old C 4 (by kernel_rfl) rfl) (no_over (by kernel_rfl)) loads_P
      · exact step_call HPRE rfl rfl (want_none rfl) rfl en_compassref_P (Opns.cons (opn_new C 0 0 rfl rfl rfl rfl rfl rfl) Opns.nil) (con_P tpx tpz (by first | decide | omega) (by first | decide | omega))
      · exact step_load (k := 1) rfl rfl rfl (want_none rfl) rfl (opn_old C 3 (by kernel_rfl) rfl) (no_over (by kernel_rfl)) loads_P
      · exact step_call HPRE rfl rfl (want_none rfl) rfl en_compassref_P (Opns.cons (opn_new C 2 0 rfl rfl rfl rfl rfl rfl) Opns.nil) (con_P tqx tqz (by first | decide | omega) (by first | decide | omega))
      · exact step_new [.pointer none, .pointer none] zero_V rfl rfl (want_none rfl) rfl (fill_waits (s0 := 6) (k := 0) (by kernel_rfl) rfl rfl rfl rfl) allocs_V (by simp [notLimb]) (by kernel_rfl)
      · exact step_new [.pointer none, .pointer none] zero_V rfl rfl (want_none rfl) rfl (fill_waits (s0 := 7) (k := 0) (by kernel_rfl) rfl rfl rfl rfl) allocs_V (by simp [notLimb]) (by kernel_rfl)
      · exact step_fill C (a := 4) (k := 0) rfl rfl rfl rfl (want_none rfl) rfl rfl rfl rfl rfl (by decide) (one_fill (by kernel_rfl)) (opn_new C 1 1 rfl rfl rfl rfl rfl rfl) (stores_V (cok2 (nl_rt rpx) (nl_rt rpz)))
      · exact step_fill C (a := 5) (k := 0) rfl rfl rfl rfl (want_none rfl) rfl rfl rfl rfl rfl (by decide) (one_fill (by kernel_rfl)) (opn_new C 3 1 rfl rfl rfl rfl rfl rfl) (stores_V (cok2 (nl_rt rqx) (nl_rt rqz)))
    intro γ a3 w3 S3
    replace S3 : AS w 59 [(8, Jus (.pointer (some ⟨γ 5, 0, none⟩))), (7, Jus (.pointer (some ⟨γ 4, 0, none⟩))), (6, In (5)), (5, Jus (.pointer (some ⟨G2_6, 0, none⟩))), (4, Bo false)] [(G1_0, 24, Agg [Tx px, Tx pz]), (G1_1, 24, Agg [Tx qx, Tx qz]), (G2_6, 26, Agg [Tx ⟨#[]⟩, Tx ⟨#[]⟩, Tx ⟨#[]⟩]), (γ 4, 43, Agg [Rt rpx, Rt rpz]), (γ 5, 43, Agg [Rt rqx, Rt rqz])] a3 w3 := cast (by kernel_rfl) (S3.keep [4, 5, 6, 7, 8])
    generalize γ 4 = G3_4 at S3
    generalize γ 5 = G3_5 at S3
    clear S2
    refine then_normal ?_
    refine wp_seq ?_
    refine wp_seq ?_
    have h5 : rpx = rqx ∧ rpz = rqz := by (subst_vars; grind)
    refine region_abs [.pure (Bo true), .pure (Bo false), .pure (Bo false), .pure (Agg [Rt rpx, Rt rpz]), .pure (Agg [Rt rqx, Rt rqz]), .pure (Bo true), .pure (Bo true)] ⟨S3, by decide +kernel⟩ (by kernel_rfl) (by kernel_rfl) rfl (by kernel_rfl) ?_ ?_
    · intro C
      refine ASteps.cons ?_ (ASteps.cons ?_ (ASteps.cons ?_ (ASteps.cons ?_ (ASteps.cons ?_ (ASteps.cons ?_ (ASteps.cons ?_ (ASteps.nil)))))))
      · exact step_call HPRE rfl rfl (want_none rfl) rfl en_compasslaw_lined Opns.nil (con_lined)
      · exact step_not true rfl rfl (want_none rfl) rfl (opn_new C 0 0 rfl rfl rfl rfl rfl rfl)
      · exact step_move rfl rfl (want_none rfl) rfl (opn_new C 1 0 rfl rfl rfl rfl rfl rfl)
      · exact step_load (k := 3) rfl rfl rfl (want_yes C 2 0 false rfl rfl rfl rfl rfl rfl rfl) rfl (opn_old C 1 (by kernel_rfl) rfl) (no_over (by kernel_rfl)) loads_V
      · exact step_load (k := 4) rfl rfl rfl (want_yes C 2 0 false rfl rfl rfl rfl rfl rfl rfl) rfl (opn_old C 0 (by kernel_rfl) rfl) (no_over (by kernel_rfl)) loads_V
      · exact step_call HPRE rfl rfl (want_yes C 2 2 false rfl rfl rfl rfl rfl rfl rfl) rfl en_compassref_V_Same (Opns.cons (opn_new C 3 0 rfl rfl rfl rfl rfl rfl) (Opns.cons (opn_new C 4 1 rfl rfl rfl rfl rfl rfl) Opns.nil)) (con_Same_t tpx.qs tpz.qs tqx.qs tqz.qs (by first | decide | omega) h5)
      · exact step_pick false rfl rfl (want_none rfl) rfl (opn_new C 2 0 rfl rfl rfl rfl rfl rfl) (opn_new C 5 1 rfl rfl rfl rfl rfl rfl)
    intro γ a4 w4 S4
    replace S4 : AS w 59 [(25, Bo true), (8, Jus (.pointer (some ⟨G3_5, 0, none⟩))), (7, Jus (.pointer (some ⟨G3_4, 0, none⟩))), (6, In (5)), (5, Jus (.pointer (some ⟨G2_6, 0, none⟩))), (4, Bo false)] [(G1_0, 24, Agg [Tx px, Tx pz]), (G1_1, 24, Agg [Tx qx, Tx qz]), (G2_6, 26, Agg [Tx ⟨#[]⟩, Tx ⟨#[]⟩, Tx ⟨#[]⟩]), (G3_4, 43, Agg [Rt rpx, Rt rpz]), (G3_5, 43, Agg [Rt rqx, Rt rqz])] a4 w4 := cast (by kernel_rfl) (S4.keep [4, 5, 6, 7, 8, 25])
    clear S3
    refine then_normal ?_
    refine wp_cond_true (S4.val 0 rfl) ?_
    refine wp_seq ?_
    refine region_abs [.pure (Bo true), .pure (Bo true), .pure (In (5)), .pure (Bo true), .pure (Bo true), .pure (Bo true), .pure (Agg [Tx ⟨#[]⟩, Tx ⟨#[]⟩, Tx ⟨#[]⟩]), .pure (Bo true), .pure (Bo true), .pure (Bo true)] ⟨S4, by decide +kernel⟩ (by kernel_rfl) (by kernel_rfl) rfl (by kernel_rfl) ?_ ?_
    · intro C
      refine ASteps.cons ?_ (ASteps.cons ?_ (ASteps.cons ?_ (ASteps.cons ?_ (ASteps.cons ?_ (ASteps.cons ?_ (ASteps.cons ?_ (ASteps.cons ?_ (ASteps.cons ?_ (ASteps.cons ?_ (ASteps.nil))))))))))
      · exact step_call HPRE rfl rfl (want_none rfl) rfl en_compasslaw_lined Opns.nil (con_lined)
      · exact step_move rfl rfl (want_none rfl) rfl (opn_new C 0 0 rfl rfl rfl rfl rfl rfl)
      · exact step_move rfl rfl (want_yes C 1 0 true rfl rfl rfl rfl rfl rfl rfl) rfl (opn_old C 3 (by kernel_rfl) rfl)
      · exact step_bin rfl rfl (want_yes C 1 1 true rfl rfl rfl rfl rfl rfl rfl) rfl (opn_new C 2 0 rfl rfl rfl rfl rfl rfl) (opn_const _) (run_eql_int _ _ _ _ _ _ rfl)
      · exact step_pick true rfl rfl (want_none rfl) rfl (opn_new C 1 0 rfl rfl rfl rfl rfl rfl) (opn_new C 3 1 rfl rfl rfl rfl rfl rfl)
      · exact step_move rfl rfl (want_none rfl) rfl (opn_new C 4 0 rfl rfl rfl rfl rfl rfl)
      · exact step_load (k := 2) rfl rfl rfl (want_yes C 5 0 true rfl rfl rfl rfl rfl rfl rfl) rfl (opn_old C 4 (by kernel_rfl) rfl) (no_over (by kernel_rfl)) loads_L
      · exact step_call HPRE rfl rfl (want_yes C 5 1 true rfl rfl rfl rfl rfl rfl rfl) rfl en_compasslaw_noL (Opns.cons (opn_new C 6 0 rfl rfl rfl rfl rfl rfl) Opns.nil) (con_noL)
      · exact step_pick true rfl rfl (want_none rfl) rfl (opn_new C 5 0 rfl rfl rfl rfl rfl rfl) (opn_new C 7 1 rfl rfl rfl rfl rfl rfl)
      · exact step_assign rfl rfl (want_none rfl) rfl (opn_new C 8 0 rfl rfl rfl rfl rfl rfl)
    intro γ a5 w5 S5
    replace S5 : AS w 59 [(4, Bo true), (8, Jus (.pointer (some ⟨G3_5, 0, none⟩))), (7, Jus (.pointer (some ⟨G3_4, 0, none⟩))), (6, In (5)), (5, Jus (.pointer (some ⟨G2_6, 0, none⟩)))] [(G1_0, 24, Agg [Tx px, Tx pz]), (G1_1, 24, Agg [Tx qx, Tx qz]), (G2_6, 26, Agg [Tx ⟨#[]⟩, Tx ⟨#[]⟩, Tx ⟨#[]⟩]), (G3_4, 43, Agg [Rt rpx, Rt rpz]), (G3_5, 43, Agg [Rt rqx, Rt rqz])] a5 w5 := cast (by kernel_rfl) (S5.keep [4, 5, 6, 7, 8])
    clear S4
    refine then_normal ?_
    refine wp_ret ?_
    refine then_ret ?_
    exact S5.ret 0 rfl rfl fun v hv => ⟨S5.bel, v, rfl, hv⟩
  ·
    obtain ⟨z6, ez6⟩ : ∃ q : Rat, q = z1 * fac [z1, z2, z3] := ⟨_, rfl⟩
    have fz6 : QS 134217973 z6 := by rw [ez6]; exact QS.mono (QS.fac (QS.mono (l := 33554493) fz1 (by first | decide | omega)) (QS.mono (l := 33554493) fz2 (by first | decide | omega)) fz3 (by simp)) (by first | decide | omega)
    obtain ⟨s7, es7⟩ : ∃ s : ByteArray, s.data.toList = tx z6 := ⟨⟨(tx z6).toArray⟩, by simp⟩
    have ts7 : TX 134217973 s7 z6 := TX.told es7 fz6
    obtain ⟨z8, ez8⟩ : ∃ q : Rat, q = z2 * fac [z1, z2, z3] := ⟨_, rfl⟩
    have fz8 : QS 134217973 z8 := by rw [ez8]; exact QS.mono (QS.fac (QS.mono (l := 33554493) fz1 (by first | decide | omega)) (QS.mono (l := 33554493) fz2 (by first | decide | omega)) fz3 (by simp)) (by first | decide | omega)
    obtain ⟨s9, es9⟩ : ∃ s : ByteArray, s.data.toList = tx z8 := ⟨⟨(tx z8).toArray⟩, by simp⟩
    have ts9 : TX 134217973 s9 z8 := TX.told es9 fz8
    obtain ⟨z10, ez10⟩ : ∃ q : Rat, q = z3 * fac [z1, z2, z3] := ⟨_, rfl⟩
    have fz10 : QS 134217973 z10 := by rw [ez10]; exact QS.mono (QS.fac (QS.mono (l := 33554493) fz1 (by first | decide | omega)) (QS.mono (l := 33554493) fz2 (by first | decide | omega)) fz3 (by simp)) (by first | decide | omega)
    obtain ⟨s11, es11⟩ : ∃ s : ByteArray, s.data.toList = tx z10 := ⟨⟨(tx z10).toArray⟩, by simp⟩
    have ts11 : TX 134217973 s11 z10 := TX.told es11 fz10
    refine region_abs [.pure (Agg [Tx px, Tx pz]), .pure (Agg [Tx qx, Tx qz]), .pure (Tup [Agg [Tx s7, Tx s9, Tx s11], In (0)]), .pure (Tup [Agg [Tx s7, Tx s9, Tx s11], In (0)]), .pure (Agg [Tx s7, Tx s9, Tx s11]), .pure (In (0)), .alloc 26 (Agg [Tx ⟨#[]⟩, Tx ⟨#[]⟩, Tx ⟨#[]⟩]), .fill 6 (Agg [Tx s7, Tx s9, Tx s11]), .pure (In (0))] ⟨S1, by decide +kernel⟩ (by kernel_rfl) (by kernel_rfl) rfl (by kernel_rfl) ?_ ?_
    · intro C
      refine ASteps.cons ?_ (ASteps.cons ?_ (ASteps.cons ?_ (ASteps.cons ?_ (ASteps.cons ?_ (ASteps.cons ?_ (ASteps.cons ?_ (ASteps.cons ?_ (ASteps.cons ?_ (ASteps.nil)))))))))
      · exact step_load (k := 0) rfl rfl rfl (want_none rfl) rfl (opn_old C 2 (by kernel_rfl) rfl) (no_over (by kernel_rfl)) loads_P
      · exact step_load (k := 1) rfl rfl rfl (want_none rfl) rfl (opn_old C 1 (by kernel_rfl) rfl) (no_over (by kernel_rfl)) loads_P
      · exact step_call HPRE rfl rfl (want_none rfl) rfl en_line_Between (Opns.cons (opn_new C 0 0 rfl rfl rfl rfl rfl rfl) (Opns.cons (opn_new C 1 1 rfl rfl rfl rfl rfl rfl) Opns.nil)) (con_between_ok tpx spx tpz spz tqx sqx tqz sqz ez1 ez2 ez3 h4 (es7.trans (by rw [ez6])) (es9.trans (by rw [ez8])) (es11.trans (by rw [ez10])))
      · exact step_move rfl rfl (want_none rfl) rfl (opn_new C 2 0 rfl rfl rfl rfl rfl rfl)
      · exact step_extract (k := 0) rfl rfl (want_none rfl) rfl (opn_new C 3 0 rfl rfl rfl rfl rfl rfl) rfl
      · exact step_extract (k := 1) rfl rfl (want_none rfl) rfl (opn_new C 3 0 rfl rfl rfl rfl rfl rfl) rfl
      · exact step_new [.string ⟨#[]⟩, .string ⟨#[]⟩, .string ⟨#[]⟩] zero_L rfl rfl (want_none rfl) rfl (fill_waits (s0 := 7) (k := 0) (by kernel_rfl) rfl rfl rfl rfl) allocs_L (by simp [notLimb]) (by kernel_rfl)
      · exact step_fill C (a := 6) (k := 0) rfl rfl rfl rfl (want_none rfl) rfl rfl rfl rfl rfl (by decide) (one_fill (by kernel_rfl)) (opn_new C 4 1 rfl rfl rfl rfl rfl rfl) (stores_L (cok3 (nl_tx s7) (nl_tx s9) (nl_tx s11)))
      · exact step_assign rfl rfl (want_none rfl) rfl (opn_new C 5 0 rfl rfl rfl rfl rfl rfl)
    intro γ a6 w6 S6
    replace S6 : AS w 59 [(6, In (0)), (5, Jus (.pointer (some ⟨γ 6, 0, none⟩))), (4, Bo false), (3, Jus (.pointer (some ⟨G1_1, 0, none⟩))), (2, Jus (.pointer (some ⟨G1_0, 0, none⟩)))] [(G1_0, 24, Agg [Tx px, Tx pz]), (G1_1, 24, Agg [Tx qx, Tx qz]), (γ 6, 26, Agg [Tx s7, Tx s9, Tx s11])] a6 w6 := cast (by kernel_rfl) (S6.keep [2, 3, 4, 5, 6])
    generalize γ 6 = G6_6 at S6
    clear S1
    refine then_normal ?_
    refine wp_seq ?_
    refine region_abs [.pure (Agg [Tx px, Tx pz]), .pure (Agg [Rt rpx, Rt rpz]), .pure (Agg [Tx qx, Tx qz]), .pure (Agg [Rt rqx, Rt rqz]), .alloc 43 (Agg [Jus (.pointer none), Jus (.pointer none)]), .alloc 43 (Agg [Jus (.pointer none), Jus (.pointer none)]), .fill 4 (Agg [Rt rpx, Rt rpz]), .fill 5 (Agg [Rt rqx, Rt rqz])] ⟨S6, by decide +kernel⟩ (by kernel_rfl) (by kernel_rfl) rfl (by kernel_rfl) ?_ ?_
    · intro C
      refine ASteps.cons ?_ (ASteps.cons ?_ (ASteps.cons ?_ (ASteps.cons ?_ (ASteps.cons ?_ (ASteps.cons ?_ (ASteps.cons ?_ (ASteps.cons ?_ (ASteps.nil))))))))
      · exact step_load (k := 0) rfl rfl rfl (want_none rfl) rfl (opn_old C 4 (by kernel_rfl) rfl) (no_over (by kernel_rfl)) loads_P
      · exact step_call HPRE rfl rfl (want_none rfl) rfl en_compassref_P (Opns.cons (opn_new C 0 0 rfl rfl rfl rfl rfl rfl) Opns.nil) (con_P tpx tpz (by first | decide | omega) (by first | decide | omega))
      · exact step_load (k := 1) rfl rfl rfl (want_none rfl) rfl (opn_old C 3 (by kernel_rfl) rfl) (no_over (by kernel_rfl)) loads_P
      · exact step_call HPRE rfl rfl (want_none rfl) rfl en_compassref_P (Opns.cons (opn_new C 2 0 rfl rfl rfl rfl rfl rfl) Opns.nil) (con_P tqx tqz (by first | decide | omega) (by first | decide | omega))
      · exact step_new [.pointer none, .pointer none] zero_V rfl rfl (want_none rfl) rfl (fill_waits (s0 := 6) (k := 0) (by kernel_rfl) rfl rfl rfl rfl) allocs_V (by simp [notLimb]) (by kernel_rfl)
      · exact step_new [.pointer none, .pointer none] zero_V rfl rfl (want_none rfl) rfl (fill_waits (s0 := 7) (k := 0) (by kernel_rfl) rfl rfl rfl rfl) allocs_V (by simp [notLimb]) (by kernel_rfl)
      · exact step_fill C (a := 4) (k := 0) rfl rfl rfl rfl (want_none rfl) rfl rfl rfl rfl rfl (by decide) (one_fill (by kernel_rfl)) (opn_new C 1 1 rfl rfl rfl rfl rfl rfl) (stores_V (cok2 (nl_rt rpx) (nl_rt rpz)))
      · exact step_fill C (a := 5) (k := 0) rfl rfl rfl rfl (want_none rfl) rfl rfl rfl rfl rfl (by decide) (one_fill (by kernel_rfl)) (opn_new C 3 1 rfl rfl rfl rfl rfl rfl) (stores_V (cok2 (nl_rt rqx) (nl_rt rqz)))
    intro γ a7 w7 S7
    replace S7 : AS w 59 [(8, Jus (.pointer (some ⟨γ 5, 0, none⟩))), (7, Jus (.pointer (some ⟨γ 4, 0, none⟩))), (6, In (0)), (5, Jus (.pointer (some ⟨G6_6, 0, none⟩))), (4, Bo false)] [(G1_0, 24, Agg [Tx px, Tx pz]), (G1_1, 24, Agg [Tx qx, Tx qz]), (G6_6, 26, Agg [Tx s7, Tx s9, Tx s11]), (γ 4, 43, Agg [Rt rpx, Rt rpz]), (γ 5, 43, Agg [Rt rqx, Rt rqz])] a7 w7 := cast (by kernel_rfl) (S7.keep [4, 5, 6, 7, 8])
    generalize γ 4 = G7_4 at S7
    generalize γ 5 = G7_5 at S7
    clear S6
    refine then_normal ?_
    refine wp_seq ?_
    refine wp_seq ?_
    have h12 : ¬ (rpx = rqx ∧ rpz = rqz) := by (subst_vars; grind)
    refine region_abs [.pure (Bo true), .pure (Bo false), .pure (Bo false), .pure (Agg [Rt rpx, Rt rpz]), .pure (Agg [Rt rqx, Rt rqz]), .pure (Bo false), .pure (Bo false)] ⟨S7, by decide +kernel⟩ (by kernel_rfl) (by kernel_rfl) rfl (by kernel_rfl) ?_ ?_
    · intro C
      refine ASteps.cons ?_ (ASteps.cons ?_ (ASteps.cons ?_ (ASteps.cons ?_ (ASteps.cons ?_ (ASteps.cons ?_ (ASteps.cons ?_ (ASteps.nil)))))))
      · exact step_call HPRE rfl rfl (want_none rfl) rfl en_compasslaw_lined Opns.nil (con_lined)
      · exact step_not true rfl rfl (want_none rfl) rfl (opn_new C 0 0 rfl rfl rfl rfl rfl rfl)
      · exact step_move rfl rfl (want_none rfl) rfl (opn_new C 1 0 rfl rfl rfl rfl rfl rfl)
      · exact step_load (k := 3) rfl rfl rfl (want_yes C 2 0 false rfl rfl rfl rfl rfl rfl rfl) rfl (opn_old C 1 (by kernel_rfl) rfl) (no_over (by kernel_rfl)) loads_V
      · exact step_load (k := 4) rfl rfl rfl (want_yes C 2 0 false rfl rfl rfl rfl rfl rfl rfl) rfl (opn_old C 0 (by kernel_rfl) rfl) (no_over (by kernel_rfl)) loads_V
      · exact step_call HPRE rfl rfl (want_yes C 2 2 false rfl rfl rfl rfl rfl rfl rfl) rfl en_compassref_V_Same (Opns.cons (opn_new C 3 0 rfl rfl rfl rfl rfl rfl) (Opns.cons (opn_new C 4 1 rfl rfl rfl rfl rfl rfl) Opns.nil)) (con_Same_f tpx.qs tpz.qs tqx.qs tqz.qs (by first | decide | omega) h12)
      · exact step_pick false rfl rfl (want_none rfl) rfl (opn_new C 2 0 rfl rfl rfl rfl rfl rfl) (opn_new C 5 1 rfl rfl rfl rfl rfl rfl)
    intro γ a8 w8 S8
    replace S8 : AS w 59 [(25, Bo false), (8, Jus (.pointer (some ⟨G7_5, 0, none⟩))), (7, Jus (.pointer (some ⟨G7_4, 0, none⟩))), (6, In (0)), (5, Jus (.pointer (some ⟨G6_6, 0, none⟩))), (4, Bo false)] [(G1_0, 24, Agg [Tx px, Tx pz]), (G1_1, 24, Agg [Tx qx, Tx qz]), (G6_6, 26, Agg [Tx s7, Tx s9, Tx s11]), (G7_4, 43, Agg [Rt rpx, Rt rpz]), (G7_5, 43, Agg [Rt rqx, Rt rqz])] a8 w8 := cast (by kernel_rfl) (S8.keep [4, 5, 6, 7, 8, 25])
    clear S7
    refine then_normal ?_
    refine wp_cond_false (S8.val 0 rfl) ?_
    refine wp_skip ?_
    refine then_normal ?_
    refine wp_seq ?_
    obtain ⟨z13, ez13⟩ : ∃ q : Rat, q = mkRat ((1 : Nat) : Int) 2 := ⟨_, rfl⟩
    have fz13 : QS 65 z13 := by rw [ez13]; exact QS.mono (qs_frac 1 2 (by decide) (by decide)) (by first | decide | omega)
    obtain ⟨z14, ez14⟩ : ∃ q : Rat, q = rpx + ((rqx - rpx) * z13) := ⟨_, rfl⟩
    have fz14 : QS 12582994 z14 := by rw [ez14]; exact QS.mono (tpx.qs.add ((tqx.qs.sub tpx.qs).mul fz13)) (by first | decide | omega)
    obtain ⟨z15, ez15⟩ : ∃ q : Rat, q = rpz + ((rqz - rpz) * z13) := ⟨_, rfl⟩
    have fz15 : QS 12582994 z15 := by rw [ez15]; exact QS.mono (tpz.qs.add ((tqz.qs.sub tpz.qs).mul fz13)) (by first | decide | omega)
    obtain ⟨z16, ez16⟩ : ∃ q : Rat, q = z6 * z14 + z8 * z15 + z10 := ⟨_, rfl⟩
    have fz16 : QS 427819909 z16 := by rw [ez16]; exact QS.mono (((fz6.mul fz14).add (fz8.mul fz15)).add fz10) (by first | decide | omega)
    have h17 : z16 = 0 := by (have hh : mkRat ((1 : Nat) : Int) 2 = 1 / 2 := by decide +kernel); (have h2 : ((2 : Nat) : Rat) = 2 := rfl); (subst_vars; (try rw [hh]); grind)
    obtain ⟨z18, ez18⟩ : ∃ q : Rat, q = (z6 * z2) - (z8 * z1) := ⟨_, rfl⟩
    have fz18 : QS 285213185 z18 := by rw [ez18]; exact QS.mono ((fz6.mul fz2).sub (fz8.mul fz1)) (by first | decide | omega)
    have h19 : z18 = 0 := by (have hh : mkRat ((1 : Nat) : Int) 2 = 1 / 2 := by decide +kernel); (have h2 : ((2 : Nat) : Rat) = 2 := rfl); (subst_vars; (try rw [hh]); grind)
    refine region_abs [.pure (In (0)), .pure (Bo true), .pure (Bo true), .pure (Agg [Tx s7, Tx s9, Tx s11]), .pure (Bo true), .pure (Bo true), .pure (Bo true), .pure (Agg [Tx s7, Tx s9, Tx s11]), .pure (Agg [Rt rpx, Rt rpz]), .pure (Agg [Rt rqx, Rt rqz]), .pure (Rt z13), .pure (Agg [Rt z14, Rt z15]), .pure (Rt z16), .pure (Bo true), .pure (Bo true), .pure (Bo true), .pure (Agg [Tx s7, Tx s9, Tx s11]), .pure (Agg [Rt z6, Rt z8]), .pure (Agg [Rt rqx, Rt rqz]), .pure (Agg [Rt rpx, Rt rpz]), .pure (Agg [Rt z1, Rt z2]), .pure (Rt z18), .pure (Bo true), .pure (Bo true), .pure (Bo true)] ⟨S8, by decide +kernel⟩ (by kernel_rfl) (by kernel_rfl) rfl (by kernel_rfl) ?_ ?_
    · intro C
      refine ASteps.cons ?_ (ASteps.cons ?_ (ASteps.cons ?_ (ASteps.cons ?_ (ASteps.cons ?_ (ASteps.cons ?_ (ASteps.cons ?_ (ASteps.cons ?_ (ASteps.cons ?_ (ASteps.cons ?_ (ASteps.cons ?_ (ASteps.cons ?_ (ASteps.cons ?_ (ASteps.cons ?_ (ASteps.cons ?_ (ASteps.cons ?_ (ASteps.cons ?_ (ASteps.cons ?_ (ASteps.cons ?_ (ASteps.cons ?_ (ASteps.cons ?_ (ASteps.cons ?_ (ASteps.cons ?_ (ASteps.cons ?_ (ASteps.cons ?_ (ASteps.nil)))))))))))))))))))))))))
      · exact step_move rfl rfl (want_none rfl) rfl (opn_old C 3 (by kernel_rfl) rfl)
      · exact step_bin rfl rfl (want_none rfl) rfl (opn_new C 0 0 rfl rfl rfl rfl rfl rfl) (opn_const _) (run_eql_int _ _ _ _ _ _ rfl)
      · exact step_move rfl rfl (want_none rfl) rfl (opn_new C 1 0 rfl rfl rfl rfl rfl rfl)
      · exact step_load (k := 2) rfl rfl rfl (want_yes C 2 0 true rfl rfl rfl rfl rfl rfl rfl) rfl (opn_old C 4 (by kernel_rfl) rfl) (no_over (by kernel_rfl)) loads_L
      · exact step_call HPRE rfl rfl (want_yes C 2 1 true rfl rfl rfl rfl rfl rfl rfl) rfl en_compassref_PlainL (Opns.cons (opn_new C 3 0 rfl rfl rfl rfl rfl rfl) Opns.nil) (con_PlainL ts7 ts9 ts11 (TX.right es7) (TX.right es9) (TX.right es11) (by first | decide | omega) (plain_ne h4 ez6 ez8) (plain_three h4 ez6 ez8 ez10))
      · exact step_pick true rfl rfl (want_none rfl) rfl (opn_new C 2 0 rfl rfl rfl rfl rfl rfl) (opn_new C 4 1 rfl rfl rfl rfl rfl rfl)
      · exact step_move rfl rfl (want_none rfl) rfl (opn_new C 5 0 rfl rfl rfl rfl rfl rfl)
      · exact step_load (k := 2) rfl rfl rfl (want_yes C 6 0 true rfl rfl rfl rfl rfl rfl rfl) rfl (opn_old C 4 (by kernel_rfl) rfl) (no_over (by kernel_rfl)) loads_L
      · exact step_load (k := 3) rfl rfl rfl (want_yes C 6 0 true rfl rfl rfl rfl rfl rfl rfl) rfl (opn_old C 2 (by kernel_rfl) rfl) (no_over (by kernel_rfl)) loads_V
      · exact step_load (k := 4) rfl rfl rfl (want_yes C 6 0 true rfl rfl rfl rfl rfl rfl rfl) rfl (opn_old C 1 (by kernel_rfl) rfl) (no_over (by kernel_rfl)) loads_V
      · exact step_call HPRE rfl rfl (want_yes C 6 0 true rfl rfl rfl rfl rfl rfl rfl) rfl en_compassref_F (Opns.cons (opn_const _) (Opns.cons (opn_const _) Opns.nil)) (con_F 1 2 (by decide) (by decide) (by decide) ez13)
      · exact step_call HPRE rfl rfl (want_yes C 6 4 true rfl rfl rfl rfl rfl rfl rfl) rfl en_compassref_V_On (Opns.cons (opn_new C 8 0 rfl rfl rfl rfl rfl rfl) (Opns.cons (opn_new C 9 1 rfl rfl rfl rfl rfl rfl) (Opns.cons (opn_new C 10 2 rfl rfl rfl rfl rfl rfl) Opns.nil))) (con_On ez14 ez15 tpx.qs tpz.qs tqx.qs tqz.qs (QS.mono (l := 4194309) fz13 (by first | decide | omega)) (by first | decide | omega))
      · exact step_call HPRE rfl rfl (want_yes C 6 3 true rfl rfl rfl rfl rfl rfl rfl) rfl en_compassref_At (Opns.cons (opn_new C 7 0 rfl rfl rfl rfl rfl rfl) (Opns.cons (opn_new C 11 1 rfl rfl rfl rfl rfl rfl) Opns.nil)) (con_At ts7 ts9 ts11 (QS.mono (l := 134217973) fz14 (by first | decide | omega)) (QS.mono (l := 134217973) fz15 (by first | decide | omega)) ez16 (by first | decide | omega) (by first | decide | omega))
      · exact step_call HPRE rfl rfl (want_yes C 6 2 true rfl rfl rfl rfl rfl rfl rfl) rfl en_compassref_Zero (Opns.cons (opn_new C 12 0 rfl rfl rfl rfl rfl rfl) Opns.nil) (con_Zero_t  h17)
      · exact step_pick true rfl rfl (want_none rfl) rfl (opn_new C 6 0 rfl rfl rfl rfl rfl rfl) (opn_new C 13 1 rfl rfl rfl rfl rfl rfl)
      · exact step_move rfl rfl (want_none rfl) rfl (opn_new C 14 0 rfl rfl rfl rfl rfl rfl)
      · exact step_load (k := 2) rfl rfl rfl (want_yes C 15 0 true rfl rfl rfl rfl rfl rfl rfl) rfl (opn_old C 4 (by kernel_rfl) rfl) (no_over (by kernel_rfl)) loads_L
      · exact step_call HPRE rfl rfl (want_yes C 15 1 true rfl rfl rfl rfl rfl rfl rfl) rfl en_compassref_Norm (Opns.cons (opn_new C 16 0 rfl rfl rfl rfl rfl rfl) Opns.nil) (con_Norm ts7 ts9 ts11 (by first | decide | omega))
      · exact step_load (k := 4) rfl rfl rfl (want_yes C 15 0 true rfl rfl rfl rfl rfl rfl rfl) rfl (opn_old C 1 (by kernel_rfl) rfl) (no_over (by kernel_rfl)) loads_V
      · exact step_load (k := 3) rfl rfl rfl (want_yes C 15 0 true rfl rfl rfl rfl rfl rfl rfl) rfl (opn_old C 2 (by kernel_rfl) rfl) (no_over (by kernel_rfl)) loads_V
      · exact step_call HPRE rfl rfl (want_yes C 15 3 true rfl rfl rfl rfl rfl rfl rfl) rfl en_compassref_V_Minus (Opns.cons (opn_new C 18 0 rfl rfl rfl rfl rfl rfl) (Opns.cons (opn_new C 19 1 rfl rfl rfl rfl rfl rfl) Opns.nil)) (con_Minus ez1 ez2 tqx.qs tqz.qs tpx.qs tpz.qs (by first | decide | omega))
      · exact step_call HPRE rfl rfl (want_yes C 15 3 true rfl rfl rfl rfl rfl rfl rfl) rfl en_compassref_V_Cross (Opns.cons (opn_new C 17 0 rfl rfl rfl rfl rfl rfl) (Opns.cons (opn_new C 20 1 rfl rfl rfl rfl rfl rfl) Opns.nil)) (con_Cross ez18 fz6 fz8 (QS.mono (l := 134217973) fz1 (by first | decide | omega)) (QS.mono (l := 134217973) fz2 (by first | decide | omega)) (by first | decide | omega))
      · exact step_call HPRE rfl rfl (want_yes C 15 2 true rfl rfl rfl rfl rfl rfl rfl) rfl en_compassref_Zero (Opns.cons (opn_new C 21 0 rfl rfl rfl rfl rfl rfl) Opns.nil) (con_Zero_t  h19)
      · exact step_pick true rfl rfl (want_none rfl) rfl (opn_new C 15 0 rfl rfl rfl rfl rfl rfl) (opn_new C 22 1 rfl rfl rfl rfl rfl rfl)
      · exact step_assign rfl rfl (want_none rfl) rfl (opn_new C 23 0 rfl rfl rfl rfl rfl rfl)
    intro γ a9 w9 S9
    replace S9 : AS w 59 [(4, Bo true)] [(G1_0, 24, Agg [Tx px, Tx pz]), (G1_1, 24, Agg [Tx qx, Tx qz]), (G6_6, 26, Agg [Tx s7, Tx s9, Tx s11]), (G7_4, 43, Agg [Rt rpx, Rt rpz]), (G7_5, 43, Agg [Rt rqx, Rt rqz])] a9 w9 := cast (by kernel_rfl) (S9.keep [4])
    clear S8
    refine then_normal ?_
    refine wp_ret ?_
    exact S9.ret 0 rfl rfl fun v hv => ⟨S9.bel, v, rfl, hv⟩
theorem lineBetween_walk {w : World} {px pz qx qz : ByteArray} (spx : px.size ≤ 1048576) (spz : pz.size ≤ 1048576) (sqx : qx.size ≤ 1048576) (sqz : qz.size ≤ 1048576) (tab : Tab w) (mx : MaxL w) :
    Calls Tryz.prog 7 #[.agg #[.string px, .string pz], .agg #[.string qx, .string qz]] w fun e w' => Below w.heap.size w w' ∧ e = .returned (.bool true) := by
  refine (lineBetween spx (TX.param spx) spz (TX.param spz) sqx (TX.param sqx) sqz (TX.param sqz) w [.agg #[.string px, .string pz], .agg #[.string qx, .string qz]] ⟨tab, mx⟩ ⟨P2.mk _ _ _, P2.mk _ _ _, trivial⟩).mono ?_
  rintro _ w' ⟨hb, v, rfl, hv⟩
  exact ⟨hb, by rw [show v = _ from hv]⟩
end Go.Proofs.YtgajdmadbdbabaaGreatDoor
