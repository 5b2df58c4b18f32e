/- Part 14 of the walks and of the mathematics under them: LBP. -/
import Derived.Test.YtgajdmadbdbabaaGreatDoorA12
import Derived.Test.YtgajdmadbdbabaaGreatDoorA13
set_option maxHeartbeats 16000000
set_option maxRecDepth 100000
/- LBP -/
namespace Go.Proofs.YtgajdmadbdbabaaGreatDoor
open Go.RowKit Cx
theorem anglePlainL {ts tc : ByteArray} {rts rtc : Rat} (_ : ts.size ≤ 1048576) (tts : TX 4194309 ts rts) (_ : tc.size ≤ 1048576) (ttc : TX 4194309 tc rtc) :
    Con Tryz.prog Pre 9 [Agg [Tx ts, Tx tc]] (Bo true) := by
  refine con_of (n := 40) Tryz.func9 rfl rfl (Nat.le_of_ble_eq_true rfl) ?_
  intro w a0 hp S0
  have HPRE : ∀ w', Below w.heap.size w w' → Pre w' := fun w' hb => hp.below hb
  refine wp_seq ?_
  refine region_abs [.alloc 67 (Agg [Tx ts, Tx tc]), .pure (Bo false)] ⟨S0, by decide +kernel⟩ (by kernel_rfl) (by kernel_rfl) rfl (by kernel_rfl) ?_ ?_
  · intro C
    refine ASteps.cons ?_ (ASteps.cons ?_ (ASteps.nil))
    · exact step_box rfl rfl (want_none rfl) rfl (no_fill (by kernel_rfl)) (opn_old C 0 (by kernel_rfl) rfl) (boxes_T (cok2 (nl_tx ts) (nl_tx tc)))
    · exact step_assign rfl rfl (want_none rfl) rfl (opn_const _)
  intro γ a1 w1 S1
  replace S1 : AS w 40 [(2, Bo false), (1, Jus (.pointer (some ⟨γ 0, 0, none⟩)))] [(γ 0, 67, Agg [Tx ts, Tx tc])] a1 w1 := cast (by kernel_rfl) (S1.keep [1, 2])
  generalize γ 0 = G1_0 at S1
  clear S0
  refine then_normal ?_
  refine wp_seq ?_
  by_cases h1 : rtc = 0 ∧ rts = 0
  ·
    refine region_abs [.pure (Agg [Tx ts, Tx tc]), .pure (Tup [Agg [Tx ⟨#[]⟩, Tx ⟨#[]⟩], In (5)]), .pure (Tup [Agg [Tx ⟨#[]⟩, Tx ⟨#[]⟩], In (5)]), .pure (Agg [Tx ⟨#[]⟩, Tx ⟨#[]⟩]), .pure (In (5)), .alloc 67 (Agg [Tx ⟨#[]⟩, Tx ⟨#[]⟩]), .fill 5 (Agg [Tx ⟨#[]⟩, Tx ⟨#[]⟩]), .pure (In (5))] ⟨S1, by decide +kernel⟩ (by kernel_rfl) (by kernel_rfl) rfl (by kernel_rfl) ?_ ?_
    · intro C
      refine ASteps.cons ?_ (ASteps.cons ?_ (ASteps.cons ?_ (ASteps.cons ?_ (ASteps.cons ?_ (ASteps.cons ?_ (ASteps.cons ?_ (ASteps.cons ?_ (ASteps.nil))))))))
      · exact step_load (k := 0) rfl rfl rfl (want_none rfl) rfl (opn_old C 1 (by kernel_rfl) rfl) (no_over (by kernel_rfl)) loads_T
      · exact step_call HPRE rfl rfl (want_none rfl) rfl en_angle_Plain (Opns.cons (opn_new C 0 0 rfl rfl rfl rfl rfl rfl) Opns.nil) (con_aplain_flat tts ttc (by first | decide | omega) (by first | decide | omega) h1)
      · exact step_move rfl rfl (want_none rfl) rfl (opn_new C 1 0 rfl rfl rfl rfl rfl rfl)
      · exact step_extract (k := 0) rfl rfl (want_none rfl) rfl (opn_new C 2 0 rfl rfl rfl rfl rfl rfl) rfl
      · exact step_extract (k := 1) rfl rfl (want_none rfl) rfl (opn_new C 2 0 rfl rfl rfl rfl rfl rfl) rfl
      · exact step_new [.string ⟨#[]⟩, .string ⟨#[]⟩] zero_T rfl rfl (want_none rfl) rfl (fill_waits (s0 := 6) (k := 0) (by kernel_rfl) rfl rfl rfl rfl) allocs_T (by simp [notLimb]) (by kernel_rfl)
      · exact step_fill C (a := 5) (k := 0) rfl rfl rfl rfl (want_none rfl) rfl rfl rfl rfl rfl (by decide) (one_fill (by kernel_rfl)) (opn_new C 3 1 rfl rfl rfl rfl rfl rfl) (stores_T (cok2 (nl_tx ⟨#[]⟩) (nl_tx ⟨#[]⟩)))
      · exact step_assign rfl rfl (want_none rfl) rfl (opn_new C 4 0 rfl rfl rfl rfl rfl rfl)
    intro γ a2 w2 S2
    replace S2 : AS w 40 [(4, In (5)), (3, Jus (.pointer (some ⟨γ 5, 0, none⟩))), (2, Bo false), (1, Jus (.pointer (some ⟨G1_0, 0, none⟩)))] [(G1_0, 67, Agg [Tx ts, Tx tc]), (γ 5, 67, Agg [Tx ⟨#[]⟩, Tx ⟨#[]⟩])] a2 w2 := cast (by kernel_rfl) (S2.keep [1, 2, 3, 4])
    generalize γ 5 = G2_5 at S2
    clear S1
    refine then_normal ?_
    refine wp_seq ?_
    refine wp_seq ?_
    refine region_abs [.pure (Bo true), .pure (Bo false), .pure (Bo false), .pure (Agg [Tx ts, Tx tc]), .pure (Bo false), .pure (Bo true), .pure (Bo true)] ⟨S2, by decide +kernel⟩ (by kernel_rfl) (by kernel_rfl) rfl (by kernel_rfl) ?_ ?_
    · intro C
      refine ASteps.cons ?_ (ASteps.cons ?_ (ASteps.cons ?_ (ASteps.cons ?_ (ASteps.cons ?_ (ASteps.cons ?_ (ASteps.cons ?_ (ASteps.nil)))))))
      · exact step_call HPRE rfl rfl (want_none rfl) rfl en_compasslaw_angled Opns.nil (con_angled)
      · exact step_not true rfl rfl (want_none rfl) rfl (opn_new C 0 0 rfl rfl rfl rfl rfl rfl)
      · exact step_move rfl rfl (want_none rfl) rfl (opn_new C 1 0 rfl rfl rfl rfl rfl rfl)
      · exact step_load (k := 0) rfl rfl rfl (want_yes C 2 0 false rfl rfl rfl rfl rfl rfl rfl) rfl (opn_old C 3 (by kernel_rfl) rfl) (no_over (by kernel_rfl)) loads_T
      · exact step_call HPRE rfl rfl (want_yes C 2 1 false rfl rfl rfl rfl rfl rfl rfl) rfl en_compasslaw_isT (Opns.cons (opn_new C 3 0 rfl rfl rfl rfl rfl rfl) Opns.nil) (con_isT_no tts ttc (by first | decide | omega) h1)
      · exact step_not false rfl rfl (want_yes C 2 1 false rfl rfl rfl rfl rfl rfl rfl) rfl (opn_new C 4 0 rfl rfl rfl rfl rfl rfl)
      · exact step_pick false rfl rfl (want_none rfl) rfl (opn_new C 2 0 rfl rfl rfl rfl rfl rfl) (opn_new C 5 1 rfl rfl rfl rfl rfl rfl)
    intro γ a3 w3 S3
    replace S3 : AS w 40 [(16, Bo true), (4, In (5)), (3, Jus (.pointer (some ⟨G2_5, 0, none⟩))), (2, Bo false), (1, Jus (.pointer (some ⟨G1_0, 0, none⟩)))] [(G1_0, 67, Agg [Tx ts, Tx tc]), (G2_5, 67, Agg [Tx ⟨#[]⟩, Tx ⟨#[]⟩])] a3 w3 := cast (by kernel_rfl) (S3.keep [1, 2, 3, 4, 16])
    clear S2
    refine then_normal ?_
    refine wp_cond_true (S3.val 0 rfl) ?_
    refine wp_seq ?_
    refine region_abs [.pure (Bo true), .pure (Bo true), .pure (In (5)), .pure (Bo true), .pure (Bo true), .pure (Bo true), .pure (Agg [Tx ⟨#[]⟩, Tx ⟨#[]⟩]), .pure (Bo true), .pure (Bo true), .pure (Bo true)] ⟨S3, by decide +kernel⟩ (by kernel_rfl) (by kernel_rfl) rfl (by kernel_rfl) ?_ ?_
    · intro C
      refine ASteps.cons ?_ (ASteps.cons ?_ (ASteps.cons ?_ (ASteps.cons ?_ (ASteps.cons ?_ (ASteps.cons ?_ (ASteps.cons ?_ (ASteps.cons ?_ (ASteps.cons ?_ (ASteps.cons ?_ (ASteps.nil))))))))))
      · exact step_call HPRE rfl rfl (want_none rfl) rfl en_compasslaw_angled Opns.nil (con_angled)
      · exact step_move rfl rfl (want_none rfl) rfl (opn_new C 0 0 rfl rfl rfl rfl rfl rfl)
      · exact step_move rfl rfl (want_yes C 1 0 true rfl rfl rfl rfl rfl rfl rfl) rfl (opn_old C 1 (by kernel_rfl) rfl)
      · exact step_bin rfl rfl (want_yes C 1 1 true rfl rfl rfl rfl rfl rfl rfl) rfl (opn_new C 2 0 rfl rfl rfl rfl rfl rfl) (opn_const _) (run_eql_int _ _ _ _ _ _ rfl)
      · exact step_pick true rfl rfl (want_none rfl) rfl (opn_new C 1 0 rfl rfl rfl rfl rfl rfl) (opn_new C 3 1 rfl rfl rfl rfl rfl rfl)
      · exact step_move rfl rfl (want_none rfl) rfl (opn_new C 4 0 rfl rfl rfl rfl rfl rfl)
      · exact step_load (k := 1) rfl rfl rfl (want_yes C 5 0 true rfl rfl rfl rfl rfl rfl rfl) rfl (opn_old C 2 (by kernel_rfl) rfl) (no_over (by kernel_rfl)) loads_T
      · exact step_call HPRE rfl rfl (want_yes C 5 1 true rfl rfl rfl rfl rfl rfl rfl) rfl en_compasslaw_noT (Opns.cons (opn_new C 6 0 rfl rfl rfl rfl rfl rfl) Opns.nil) (con_noT)
      · exact step_pick true rfl rfl (want_none rfl) rfl (opn_new C 5 0 rfl rfl rfl rfl rfl rfl) (opn_new C 7 1 rfl rfl rfl rfl rfl rfl)
      · exact step_assign rfl rfl (want_none rfl) rfl (opn_new C 8 0 rfl rfl rfl rfl rfl rfl)
    intro γ a4 w4 S4
    replace S4 : AS w 40 [(2, Bo true), (4, In (5)), (3, Jus (.pointer (some ⟨G2_5, 0, none⟩))), (1, Jus (.pointer (some ⟨G1_0, 0, none⟩)))] [(G1_0, 67, Agg [Tx ts, Tx tc]), (G2_5, 67, Agg [Tx ⟨#[]⟩, Tx ⟨#[]⟩])] a4 w4 := cast (by kernel_rfl) (S4.keep [1, 2, 3, 4])
    clear S3
    refine then_normal ?_
    refine wp_ret ?_
    refine then_ret ?_
    exact S4.ret 0 rfl rfl fun v hv => ⟨S4.bel, v, rfl, hv⟩
  ·
    obtain ⟨z2, ez2⟩ : ∃ q : Rat, q = rts * fac [rtc, rts] := ⟨_, rfl⟩
    have fz2 : QS 12582928 z2 := by rw [ez2]; exact QS.mono (QS.fac2 ttc.qs tts.qs (by simp)) (by first | decide | omega)
    obtain ⟨z3, ez3⟩ : ∃ q : Rat, q = rtc * fac [rtc, rts] := ⟨_, rfl⟩
    have fz3 : QS 12582928 z3 := by rw [ez3]; exact QS.mono (QS.fac2 ttc.qs tts.qs (by simp)) (by first | decide | omega)
    obtain ⟨s4, es4⟩ : ∃ s : ByteArray, s.data.toList = tx z2 := ⟨⟨(tx z2).toArray⟩, by simp⟩
    have ts4 : TX 12582928 s4 z2 := TX.told es4 fz2
    obtain ⟨s5, es5⟩ : ∃ s : ByteArray, s.data.toList = tx z3 := ⟨⟨(tx z3).toArray⟩, by simp⟩
    have ts5 : TX 12582928 s5 z3 := TX.told es5 fz3
    refine region_abs [.pure (Agg [Tx ts, Tx tc]), .pure (Tup [Agg [Tx s4, Tx s5], In (0)]), .pure (Tup [Agg [Tx s4, Tx s5], In (0)]), .pure (Agg [Tx s4, Tx s5]), .pure (In (0)), .alloc 67 (Agg [Tx ⟨#[]⟩, Tx ⟨#[]⟩]), .fill 5 (Agg [Tx s4, Tx s5]), .pure (In (0))] ⟨S1, by decide +kernel⟩ (by kernel_rfl) (by kernel_rfl) rfl (by kernel_rfl) ?_ ?_
    · intro C
      refine ASteps.cons ?_ (ASteps.cons ?_ (ASteps.cons ?_ (ASteps.cons ?_ (ASteps.cons ?_ (ASteps.cons ?_ (ASteps.cons ?_ (ASteps.cons ?_ (ASteps.nil))))))))
      · exact step_load (k := 0) rfl rfl rfl (want_none rfl) rfl (opn_old C 1 (by kernel_rfl) rfl) (no_over (by kernel_rfl)) loads_T
      · exact step_call HPRE rfl rfl (want_none rfl) rfl en_angle_Plain (Opns.cons (opn_new C 0 0 rfl rfl rfl rfl rfl rfl) Opns.nil) (con_aplain_ok tts ttc (by first | decide | omega) (by first | decide | omega) h1 (es4.trans (by rw [ez2])) (es5.trans (by rw [ez3])))
      · exact step_move rfl rfl (want_none rfl) rfl (opn_new C 1 0 rfl rfl rfl rfl rfl rfl)
      · exact step_extract (k := 0) rfl rfl (want_none rfl) rfl (opn_new C 2 0 rfl rfl rfl rfl rfl rfl) rfl
      · exact step_extract (k := 1) rfl rfl (want_none rfl) rfl (opn_new C 2 0 rfl rfl rfl rfl rfl rfl) rfl
      · exact step_new [.string ⟨#[]⟩, .string ⟨#[]⟩] zero_T rfl rfl (want_none rfl) rfl (fill_waits (s0 := 6) (k := 0) (by kernel_rfl) rfl rfl rfl rfl) allocs_T (by simp [notLimb]) (by kernel_rfl)
      · exact step_fill C (a := 5) (k := 0) rfl rfl rfl rfl (want_none rfl) rfl rfl rfl rfl rfl (by decide) (one_fill (by kernel_rfl)) (opn_new C 3 1 rfl rfl rfl rfl rfl rfl) (stores_T (cok2 (nl_tx s4) (nl_tx s5)))
      · exact step_assign rfl rfl (want_none rfl) rfl (opn_new C 4 0 rfl rfl rfl rfl rfl rfl)
    intro γ a5 w5 S5
    replace S5 : AS w 40 [(4, In (0)), (3, Jus (.pointer (some ⟨γ 5, 0, none⟩))), (2, Bo false), (1, Jus (.pointer (some ⟨G1_0, 0, none⟩)))] [(G1_0, 67, Agg [Tx ts, Tx tc]), (γ 5, 67, Agg [Tx s4, Tx s5])] a5 w5 := cast (by kernel_rfl) (S5.keep [1, 2, 3, 4])
    generalize γ 5 = G5_5 at S5
    clear S1
    refine then_normal ?_
    refine wp_seq ?_
    refine wp_seq ?_
    refine region_abs [.pure (Bo true), .pure (Bo false), .pure (Bo false), .pure (Agg [Tx ts, Tx tc]), .pure (Bo true), .pure (Bo false), .pure (Bo false)] ⟨S5, by decide +kernel⟩ (by kernel_rfl) (by kernel_rfl) rfl (by kernel_rfl) ?_ ?_
    · intro C
      refine ASteps.cons ?_ (ASteps.cons ?_ (ASteps.cons ?_ (ASteps.cons ?_ (ASteps.cons ?_ (ASteps.cons ?_ (ASteps.cons ?_ (ASteps.nil)))))))
      · exact step_call HPRE rfl rfl (want_none rfl) rfl en_compasslaw_angled Opns.nil (con_angled)
      · exact step_not true rfl rfl (want_none rfl) rfl (opn_new C 0 0 rfl rfl rfl rfl rfl rfl)
      · exact step_move rfl rfl (want_none rfl) rfl (opn_new C 1 0 rfl rfl rfl rfl rfl rfl)
      · exact step_load (k := 0) rfl rfl rfl (want_yes C 2 0 false rfl rfl rfl rfl rfl rfl rfl) rfl (opn_old C 3 (by kernel_rfl) rfl) (no_over (by kernel_rfl)) loads_T
      · exact step_call HPRE rfl rfl (want_yes C 2 1 false rfl rfl rfl rfl rfl rfl rfl) rfl en_compasslaw_isT (Opns.cons (opn_new C 3 0 rfl rfl rfl rfl rfl rfl) Opns.nil) (con_isT_yes tts ttc (by first | decide | omega) h1)
      · exact step_not true rfl rfl (want_yes C 2 1 false rfl rfl rfl rfl rfl rfl rfl) rfl (opn_new C 4 0 rfl rfl rfl rfl rfl rfl)
      · exact step_pick false rfl rfl (want_none rfl) rfl (opn_new C 2 0 rfl rfl rfl rfl rfl rfl) (opn_new C 5 1 rfl rfl rfl rfl rfl rfl)
    intro γ a6 w6 S6
    replace S6 : AS w 40 [(16, Bo false), (4, In (0)), (3, Jus (.pointer (some ⟨G5_5, 0, none⟩))), (2, Bo false), (1, Jus (.pointer (some ⟨G1_0, 0, none⟩)))] [(G1_0, 67, Agg [Tx ts, Tx tc]), (G5_5, 67, Agg [Tx s4, Tx s5])] a6 w6 := cast (by kernel_rfl) (S6.keep [1, 2, 3, 4, 16])
    clear S5
    refine then_normal ?_
    refine wp_cond_false (S6.val 0 rfl) ?_
    refine wp_skip ?_
    refine then_normal ?_
    refine wp_seq ?_
    obtain ⟨z6, ez6⟩ : ∃ q : Rat, q = (rtc * z2) - (rts * z3) := ⟨_, rfl⟩
    have fz6 : QS 33554475 z6 := by rw [ez6]; exact QS.mono ((ttc.qs.mul fz2).sub (tts.qs.mul fz3)) (by first | decide | omega)
    have h7 : z6 = 0 := by (subst_vars; grind)
    refine region_abs [.pure (In (0)), .pure (Bo true), .pure (Bo true), .pure (Agg [Tx s4, Tx s5]), .pure (Bo true), .pure (Bo true), .pure (Bo true), .pure (Agg [Tx ts, Tx tc]), .pure (Agg [Rt rtc, Rt rts]), .pure (Agg [Tx s4, Tx s5]), .pure (Agg [Rt z3, Rt z2]), .pure (Rt z6), .pure (Bo true), .pure (Bo true), .pure (Bo true)] ⟨S6, by decide +kernel⟩ (by kernel_rfl) (by kernel_rfl) rfl (by kernel_rfl) ?_ ?_
    · intro C
      refine ASteps.cons ?_ (ASteps.cons ?_ (ASteps.cons ?_ (ASteps.cons ?_ (ASteps.cons ?_ (ASteps.cons ?_ (ASteps.cons ?_ (ASteps.cons ?_ (ASteps.cons ?_ (ASteps.cons ?_ (ASteps.cons ?_ (ASteps.cons ?_ (ASteps.cons ?_ (ASteps.cons ?_ (ASteps.cons ?_ (ASteps.nil)))))))))))))))
      · exact step_move rfl rfl (want_none rfl) rfl (opn_old C 1 (by kernel_rfl) rfl)
      · exact step_bin rfl rfl (want_none rfl) rfl (opn_new C 0 0 rfl rfl rfl rfl rfl rfl) (opn_const _) (run_eql_int _ _ _ _ _ _ rfl)
      · exact step_move rfl rfl (want_none rfl) rfl (opn_new C 1 0 rfl rfl rfl rfl rfl rfl)
      · exact step_load (k := 1) rfl rfl rfl (want_yes C 2 0 true rfl rfl rfl rfl rfl rfl rfl) rfl (opn_old C 2 (by kernel_rfl) rfl) (no_over (by kernel_rfl)) loads_T
      · exact step_call HPRE rfl rfl (want_yes C 2 1 true rfl rfl rfl rfl rfl rfl rfl) rfl en_compasslaw_plainT (Opns.cons (opn_new C 3 0 rfl rfl rfl rfl rfl rfl) Opns.nil) (con_plainT ts4 ts5 (TX.right es4) (TX.right es5) (by first | decide | omega) (plain_ne2 h1 ez3 ez2) (plain_two h1 ez3 ez2))
      · exact step_pick true rfl rfl (want_none rfl) rfl (opn_new C 2 0 rfl rfl rfl rfl rfl rfl) (opn_new C 4 1 rfl rfl rfl rfl rfl rfl)
      · exact step_move rfl rfl (want_none rfl) rfl (opn_new C 5 0 rfl rfl rfl rfl rfl rfl)
      · exact step_load (k := 0) rfl rfl rfl (want_yes C 6 0 true rfl rfl rfl rfl rfl rfl rfl) rfl (opn_old C 4 (by kernel_rfl) rfl) (no_over (by kernel_rfl)) loads_T
      · exact step_call HPRE rfl rfl (want_yes C 6 1 true rfl rfl rfl rfl rfl rfl rfl) rfl en_compasslaw_way (Opns.cons (opn_new C 7 0 rfl rfl rfl rfl rfl rfl) Opns.nil) (con_way tts ttc (by first | decide | omega))
      · exact step_load (k := 1) rfl rfl rfl (want_yes C 6 0 true rfl rfl rfl rfl rfl rfl rfl) rfl (opn_old C 2 (by kernel_rfl) rfl) (no_over (by kernel_rfl)) loads_T
      · exact step_call HPRE rfl rfl (want_yes C 6 2 true rfl rfl rfl rfl rfl rfl rfl) rfl en_compasslaw_way (Opns.cons (opn_new C 9 0 rfl rfl rfl rfl rfl rfl) Opns.nil) (con_way ts4 ts5 (by first | decide | omega))
      · exact step_call HPRE rfl rfl (want_yes C 6 3 true rfl rfl rfl rfl rfl rfl rfl) rfl en_compassref_V_Cross (Opns.cons (opn_new C 8 0 rfl rfl rfl rfl rfl rfl) (Opns.cons (opn_new C 10 1 rfl rfl rfl rfl rfl rfl) Opns.nil)) (con_Cross ez6 (QS.mono (l := 12582928) ttc.qs (by first | decide | omega)) (QS.mono (l := 12582928) tts.qs (by first | decide | omega)) fz3 fz2 (by first | decide | omega))
      · exact step_call HPRE rfl rfl (want_yes C 6 2 true rfl rfl rfl rfl rfl rfl rfl) rfl en_compassref_Zero (Opns.cons (opn_new C 11 0 rfl rfl rfl rfl rfl rfl) Opns.nil) (con_Zero_t  h7)
      · exact step_pick true rfl rfl (want_none rfl) rfl (opn_new C 6 0 rfl rfl rfl rfl rfl rfl) (opn_new C 12 1 rfl rfl rfl rfl rfl rfl)
      · exact step_assign rfl rfl (want_none rfl) rfl (opn_new C 13 0 rfl rfl rfl rfl rfl rfl)
    intro γ a7 w7 S7
    replace S7 : AS w 40 [(2, Bo true)] [(G1_0, 67, Agg [Tx ts, Tx tc]), (G5_5, 67, Agg [Tx s4, Tx s5])] a7 w7 := cast (by kernel_rfl) (S7.keep [2])
    clear S6
    refine then_normal ?_
    refine wp_ret ?_
    exact S7.ret 0 rfl rfl fun v hv => ⟨S7.bel, v, rfl, hv⟩
theorem anglePlainL_walk {w : World} {ts tc : ByteArray} (sts : ts.size ≤ 1048576) (stc : tc.size ≤ 1048576) (tab : Tab w) (mx : MaxL w) :
    Calls Tryz.prog 9 #[.agg #[.string ts, .string tc]] w fun e w' => Below w.heap.size w w' ∧ e = .returned (.bool true) := by
  refine (anglePlainL sts (TX.param sts) stc (TX.param stc) w [.agg #[.string ts, .string tc]] ⟨tab, mx⟩ ⟨P2.mk _ _ _, trivial⟩).mono ?_
  rintro _ w' ⟨hb, v, rfl, hv⟩
  exact ⟨hb, by rw [show v = _ from hv]⟩
end Go.Proofs.YtgajdmadbdbabaaGreatDoor
