/- Part 13 of the walks and of the mathematics under them: AWS. -/
import Derived.Test.YtgajdmadbdbabaaGreatDoorA12
set_option maxHeartbeats 16000000
set_option maxRecDepth 100000
/- AWS -/
namespace Go.Proofs.YtgajdmadbdbabaaGreatDoor
open Go.RowKit Cx
theorem en_angle_Plain (vs : Array Value) (w : World) : (callFunc 51 vs).run Tryz.prog w = .ok (.enter 51 vs) w := enters Tryz.func51 (by kernel_rfl) (by kernel_rfl) vs w
theorem con_aplain_ok {ts tc sa sb : ByteArray} {rts rtc : Rat} {k : Nat} (tts : TX k ts rts) (ttc : TX k tc rtc) (_ : 2 * k + 4 ≤ 4294967296) (_ : 3 * k + 2 ≤ 35184372088640) (hn : ¬ (rtc = 0 ∧ rts = 0)) (ea : sa.data.toList = tx (rts * fac [rtc, rts])) (eb : sb.data.toList = tx (rtc * fac [rtc, rts])) :
    Con Tryz.prog Pre 51 [Agg [Tx ts, Tx tc]] (Tup [Agg [Tx sa, Tx sb], In (0)]) := by
  refine con_of (n := 17) Tryz.func51 rfl rfl (Nat.le_of_ble_eq_true rfl) ?_
  intro w a0 hp S0
  have HPRE : ∀ w', Below w.heap.size w w' → Pre w' := fun w' hb => hp.below hb
  refine wp_seq ?_
  refine region_abs [.alloc 67 (Agg [Tx ts, Tx tc]), .alloc 67 (Agg [Tx ⟨#[]⟩, Tx ⟨#[]⟩]), .pure (In (0))] ⟨S0, by decide +kernel⟩ (by kernel_rfl) (by kernel_rfl) rfl (by kernel_rfl) ?_ ?_
  · intro C
    refine ASteps.cons ?_ (ASteps.cons ?_ (ASteps.cons ?_ (ASteps.nil)))
    · exact step_box rfl rfl (want_none rfl) rfl (no_fill (by kernel_rfl)) (opn_old C 0 (by kernel_rfl) rfl) (boxes_T (cok2 (nl_tx ts) (nl_tx tc)))
    · exact step_new [.string ⟨#[]⟩, .string ⟨#[]⟩] zero_T rfl rfl (want_none rfl) rfl (no_fill (by kernel_rfl)) allocs_T (by simp [notLimb]) (by kernel_rfl)
    · exact step_assign rfl rfl (want_none rfl) rfl (opn_const _)
  intro γ a1 w1 S1
  replace S1 : AS w 17 [(3, In (0)), (2, Jus (.pointer (some ⟨γ 1, 0, none⟩))), (1, Jus (.pointer (some ⟨γ 0, 0, none⟩)))] [(γ 0, 67, Agg [Tx ts, Tx tc]), (γ 1, 67, Agg [Tx ⟨#[]⟩, Tx ⟨#[]⟩])] a1 w1 := cast (by kernel_rfl) (S1.keep [1, 2, 3])
  generalize γ 0 = G1_0 at S1
  generalize γ 1 = G1_1 at S1
  clear S0
  refine then_normal ?_
  refine wp_seq ?_
  refine region_abs [.pure (Agg [Tx ts, Tx tc]), .pure (Tup [Wv rtc rts, In (0)]), .pure (Tup [Wv rtc rts, In (0)]), .pure (Wv rtc rts), .pure (In (0)), .alloc 86 (Any), .fill 5 (Wv rtc rts), .pure (In (0))] ⟨S1, by decide +kernel⟩ (by kernel_rfl) (by kernel_rfl) rfl (by kernel_rfl) ?_ ?_
  · intro C
    refine ASteps.cons ?_ (ASteps.cons ?_ (ASteps.cons ?_ (ASteps.cons ?_ (ASteps.cons ?_ (ASteps.cons ?_ (ASteps.cons ?_ (ASteps.cons ?_ (ASteps.nil))))))))
    · exact step_load (k := 0) rfl rfl rfl (want_none rfl) rfl (opn_old C 2 (by kernel_rfl) rfl) (no_over (by kernel_rfl)) loads_T
    · exact step_call HPRE rfl rfl (want_none rfl) rfl en_angle_read (Opns.cons (opn_new C 0 0 rfl rfl rfl rfl rfl rfl) Opns.nil) (con_aread_ok tts ttc (by first | decide | omega) hn)
    · exact step_move rfl rfl (want_none rfl) rfl (opn_new C 1 0 rfl rfl rfl rfl rfl rfl)
    · exact step_extract (k := 0) rfl rfl (want_none rfl) rfl (opn_new C 2 0 rfl rfl rfl rfl rfl rfl) rfl
    · exact step_extract (k := 1) rfl rfl (want_none rfl) rfl (opn_new C 2 0 rfl rfl rfl rfl rfl rfl) rfl
    · exact step_new [.bool false, .slice none 0 0, .slice none 0 0, .bool false, .slice none 0 0, .slice none 0 0] zero_W rfl rfl (want_none rfl) rfl (fill_waits (s0 := 6) (k := 0) (by kernel_rfl) rfl rfl rfl rfl) allocs_W (by simp [notLimb]) (by kernel_rfl)
    · exact step_fill C (a := 5) (k := 0) rfl rfl rfl rfl (want_none rfl) rfl rfl rfl rfl rfl (by decide) (one_fill (by kernel_rfl)) (opn_new C 3 1 rfl rfl rfl rfl rfl rfl) (stores_W (cok_wv _ _))
    · exact step_assign rfl rfl (want_none rfl) rfl (opn_new C 4 0 rfl rfl rfl rfl rfl rfl)
  intro γ a2 w2 S2
  replace S2 : AS w 17 [(5, In (0)), (4, Jus (.pointer (some ⟨γ 5, 0, none⟩))), (3, In (0)), (2, Jus (.pointer (some ⟨G1_1, 0, none⟩)))] [(G1_0, 67, Agg [Tx ts, Tx tc]), (G1_1, 67, Agg [Tx ⟨#[]⟩, Tx ⟨#[]⟩]), (γ 5, 86, Wv rtc rts)] a2 w2 := cast (by kernel_rfl) (S2.keep [2, 3, 4, 5])
  generalize γ 5 = G2_5 at S2
  clear S1
  refine then_normal ?_
  refine wp_seq ?_
  refine wp_seq ?_
  refine region_abs [.pure (In (0)), .pure (Bo false)] ⟨S2, by decide +kernel⟩ (by kernel_rfl) (by kernel_rfl) rfl (by kernel_rfl) ?_ ?_
  · intro C
    refine ASteps.cons ?_ (ASteps.cons ?_ (ASteps.nil))
    · exact step_move rfl rfl (want_none rfl) rfl (opn_old C 0 (by kernel_rfl) rfl)
    · exact step_bin rfl rfl (want_none rfl) rfl (opn_new C 0 0 rfl rfl rfl rfl rfl rfl) (opn_const _) (run_neq_int _ _ _ _ _ _ rfl)
  intro γ a3 w3 S3
  replace S3 : AS w 17 [(12, Bo false), (5, In (0)), (4, Jus (.pointer (some ⟨G2_5, 0, none⟩))), (3, In (0)), (2, Jus (.pointer (some ⟨G1_1, 0, none⟩)))] [(G1_0, 67, Agg [Tx ts, Tx tc]), (G1_1, 67, Agg [Tx ⟨#[]⟩, Tx ⟨#[]⟩]), (G2_5, 86, Wv rtc rts)] a3 w3 := cast (by kernel_rfl) (S3.keep [2, 3, 4, 5, 12])
  clear S2
  refine then_normal ?_
  refine wp_cond_false (S3.val 0 rfl) ?_
  refine wp_skip ?_
  refine then_normal ?_
  refine wp_seq ?_
  obtain ⟨z1, ez1⟩ : ∃ q : Rat, q = rts * fac [rtc, rts] := ⟨_, rfl⟩
  have fz1 : QS (3 * k + 1) z1 := by rw [ez1]; exact QS.mono (QS.fac2 ttc.qs tts.qs (by simp)) (by first | decide | omega)
  obtain ⟨s2, es2⟩ : ∃ s : ByteArray, s.data.toList = tx z1 := ⟨⟨(tx z1).toArray⟩, by simp⟩
  have ts2 : TX (3 * k + 1) s2 z1 := TX.told es2 fz1
  obtain ⟨z3, ez3⟩ : ∃ q : Rat, q = rtc * fac [rtc, rts] := ⟨_, rfl⟩
  have fz3 : QS (3 * k + 1) z3 := by rw [ez3]; exact QS.mono (QS.fac2 ttc.qs tts.qs (by simp)) (by first | decide | omega)
  obtain ⟨s4, es4⟩ : ∃ s : ByteArray, s.data.toList = tx z3 := ⟨⟨(tx z3).toArray⟩, by simp⟩
  have ts4 : TX (3 * k + 1) s4 z3 := TX.told es4 fz3
  refine region_abs [.pure (Wv rtc rts), .pure (Agg [Tx s2, Tx s4]), .over 1 (Agg [Tx s2, Tx s4]), .pure (In (0))] ⟨S3, by decide +kernel⟩ (by kernel_rfl) (by kernel_rfl) rfl (by kernel_rfl) ?_ ?_
  · intro C
    refine ASteps.cons ?_ (ASteps.cons ?_ (ASteps.cons ?_ (ASteps.cons ?_ (ASteps.nil))))
    · exact step_load (k := 2) rfl rfl rfl (want_none rfl) rfl (opn_old C 2 (by kernel_rfl) rfl) (no_over (by kernel_rfl)) loads_W
    · exact step_call HPRE rfl rfl (want_none rfl) rfl en_angle_text (Opns.cons (opn_new C 0 0 rfl rfl rfl rfl rfl rfl) Opns.nil) (con_atext ttc.qs tts.qs (by first | decide | omega) (es2.trans (by rw [ez1])) (es4.trans (by rw [ez3])))
    · exact step_over C (k := 1) rfl rfl rfl (want_none rfl) rfl (opn_old C 4 (by kernel_rfl) rfl) (by decide) (one_over (by kernel_rfl)) (opn_new C 1 0 rfl rfl rfl rfl rfl rfl) (stores_T (cok2 (nl_tx s2) (nl_tx s4)))
    · exact step_assign rfl rfl (want_none rfl) rfl (opn_const _)
  intro γ a4 w4 S4
  replace S4 : AS w 17 [(3, In (0)), (2, Jus (.pointer (some ⟨G1_1, 0, none⟩)))] [(G1_0, 67, Agg [Tx ts, Tx tc]), (G1_1, 67, Agg [Tx s2, Tx s4]), (G2_5, 86, Wv rtc rts)] a4 w4 := cast (by kernel_rfl) (S4.keep [2, 3])
  clear S3
  refine then_normal ?_
  refine wp_ret ?_
  obtain rfl : s2 = sa := (bytes_of (es2.trans ((congrArg tx (by (subst_vars; first | rfl | grind))).trans ea.symm))).trans (bytes_of rfl).symm
  obtain rfl : s4 = sb := (bytes_of (es4.trans ((congrArg tx (by (subst_vars; first | rfl | grind))).trans eb.symm))).trans (bytes_of rfl).symm
  exact S4.ret2 1 1 0 rfl rfl rfl loads_T rfl fun v hv => ⟨S4.bel, v, rfl, hv⟩
theorem con_aplain_flat {ts tc : ByteArray} {rts rtc : Rat} {k : Nat} (tts : TX k ts rts) (ttc : TX k tc rtc) (_ : 2 * k + 4 ≤ 4294967296) (_ : 3 * k + 2 ≤ 35184372088640) (hf : rtc = 0 ∧ rts = 0) :
    Con Tryz.prog Pre 51 [Agg [Tx ts, Tx tc]] (Tup [Agg [Tx ⟨#[]⟩, Tx ⟨#[]⟩], In (5)]) := by
  refine con_of (n := 17) Tryz.func51 rfl rfl (Nat.le_of_ble_eq_true rfl) ?_
  intro w a0 hp S0
  have HPRE : ∀ w', Below w.heap.size w w' → Pre w' := fun w' hb => hp.below hb
  refine wp_seq ?_
  refine region_abs [.alloc 67 (Agg [Tx ts, Tx tc]), .alloc 67 (Agg [Tx ⟨#[]⟩, Tx ⟨#[]⟩]), .pure (In (0))] ⟨S0, by decide +kernel⟩ (by kernel_rfl) (by kernel_rfl) rfl (by kernel_rfl) ?_ ?_
  · intro C
    refine ASteps.cons ?_ (ASteps.cons ?_ (ASteps.cons ?_ (ASteps.nil)))
    · exact step_box rfl rfl (want_none rfl) rfl (no_fill (by kernel_rfl)) (opn_old C 0 (by kernel_rfl) rfl) (boxes_T (cok2 (nl_tx ts) (nl_tx tc)))
    · exact step_new [.string ⟨#[]⟩, .string ⟨#[]⟩] zero_T rfl rfl (want_none rfl) rfl (no_fill (by kernel_rfl)) allocs_T (by simp [notLimb]) (by kernel_rfl)
    · exact step_assign rfl rfl (want_none rfl) rfl (opn_const _)
  intro γ a1 w1 S1
  replace S1 : AS w 17 [(3, In (0)), (2, Jus (.pointer (some ⟨γ 1, 0, none⟩))), (1, Jus (.pointer (some ⟨γ 0, 0, none⟩)))] [(γ 0, 67, Agg [Tx ts, Tx tc]), (γ 1, 67, Agg [Tx ⟨#[]⟩, Tx ⟨#[]⟩])] a1 w1 := cast (by kernel_rfl) (S1.keep [1, 2, 3])
  generalize γ 0 = G1_0 at S1
  generalize γ 1 = G1_1 at S1
  clear S0
  refine then_normal ?_
  refine wp_seq ?_
  refine region_abs [.pure (Agg [Tx ts, Tx tc]), .pure (Tup [Wv 0 0, In (5)]), .pure (Tup [Wv 0 0, In (5)]), .pure (Wv 0 0), .pure (In (5)), .alloc 86 (Any), .fill 5 (Wv 0 0), .pure (In (5))] ⟨S1, by decide +kernel⟩ (by kernel_rfl) (by kernel_rfl) rfl (by kernel_rfl) ?_ ?_
  · intro C
    refine ASteps.cons ?_ (ASteps.cons ?_ (ASteps.cons ?_ (ASteps.cons ?_ (ASteps.cons ?_ (ASteps.cons ?_ (ASteps.cons ?_ (ASteps.cons ?_ (ASteps.nil))))))))
    · exact step_load (k := 0) rfl rfl rfl (want_none rfl) rfl (opn_old C 2 (by kernel_rfl) rfl) (no_over (by kernel_rfl)) loads_T
    · exact step_call HPRE rfl rfl (want_none rfl) rfl en_angle_read (Opns.cons (opn_new C 0 0 rfl rfl rfl rfl rfl rfl) Opns.nil) (con_aread_flat tts ttc (by first | decide | omega) hf)
    · exact step_move rfl rfl (want_none rfl) rfl (opn_new C 1 0 rfl rfl rfl rfl rfl rfl)
    · exact step_extract (k := 0) rfl rfl (want_none rfl) rfl (opn_new C 2 0 rfl rfl rfl rfl rfl rfl) rfl
    · exact step_extract (k := 1) rfl rfl (want_none rfl) rfl (opn_new C 2 0 rfl rfl rfl rfl rfl rfl) rfl
    · exact step_new [.bool false, .slice none 0 0, .slice none 0 0, .bool false, .slice none 0 0, .slice none 0 0] zero_W rfl rfl (want_none rfl) rfl (fill_waits (s0 := 6) (k := 0) (by kernel_rfl) rfl rfl rfl rfl) allocs_W (by simp [notLimb]) (by kernel_rfl)
    · exact step_fill C (a := 5) (k := 0) rfl rfl rfl rfl (want_none rfl) rfl rfl rfl rfl rfl (by decide) (one_fill (by kernel_rfl)) (opn_new C 3 1 rfl rfl rfl rfl rfl rfl) (stores_W (cok_wv _ _))
    · exact step_assign rfl rfl (want_none rfl) rfl (opn_new C 4 0 rfl rfl rfl rfl rfl rfl)
  intro γ a2 w2 S2
  replace S2 : AS w 17 [(5, In (5)), (4, Jus (.pointer (some ⟨γ 5, 0, none⟩))), (3, In (0)), (2, Jus (.pointer (some ⟨G1_1, 0, none⟩)))] [(G1_0, 67, Agg [Tx ts, Tx tc]), (G1_1, 67, Agg [Tx ⟨#[]⟩, Tx ⟨#[]⟩]), (γ 5, 86, Wv 0 0)] a2 w2 := cast (by kernel_rfl) (S2.keep [2, 3, 4, 5])
  generalize γ 5 = G2_5 at S2
  clear S1
  refine then_normal ?_
  refine wp_seq ?_
  refine wp_seq ?_
  refine region_abs [.pure (In (5)), .pure (Bo true)] ⟨S2, by decide +kernel⟩ (by kernel_rfl) (by kernel_rfl) rfl (by kernel_rfl) ?_ ?_
  · intro C
    refine ASteps.cons ?_ (ASteps.cons ?_ (ASteps.nil))
    · exact step_move rfl rfl (want_none rfl) rfl (opn_old C 0 (by kernel_rfl) rfl)
    · exact step_bin rfl rfl (want_none rfl) rfl (opn_new C 0 0 rfl rfl rfl rfl rfl rfl) (opn_const _) (run_neq_int _ _ _ _ _ _ rfl)
  intro γ a3 w3 S3
  replace S3 : AS w 17 [(12, Bo true), (5, In (5)), (4, Jus (.pointer (some ⟨G2_5, 0, none⟩))), (3, In (0)), (2, Jus (.pointer (some ⟨G1_1, 0, none⟩)))] [(G1_0, 67, Agg [Tx ts, Tx tc]), (G1_1, 67, Agg [Tx ⟨#[]⟩, Tx ⟨#[]⟩]), (G2_5, 86, Wv 0 0)] a3 w3 := cast (by kernel_rfl) (S3.keep [2, 3, 4, 5, 12])
  clear S2
  refine then_normal ?_
  refine wp_cond_true (S3.val 0 rfl) ?_
  refine wp_seq ?_
  refine region_abs [.pure (Agg [Tx ⟨#[]⟩, Tx ⟨#[]⟩]), .pure (In (5)), .over 1 (Agg [Tx ⟨#[]⟩, Tx ⟨#[]⟩]), .pure (In (5))] ⟨S3, by decide +kernel⟩ (by kernel_rfl) (by kernel_rfl) rfl (by kernel_rfl) ?_ ?_
  · intro C
    refine ASteps.cons ?_ (ASteps.cons ?_ (ASteps.cons ?_ (ASteps.cons ?_ (ASteps.nil))))
    · exact step_build rfl rfl (want_none rfl) rfl Opns.nil builds0_T
    · exact step_move rfl rfl (want_none rfl) rfl (opn_old C 1 (by kernel_rfl) rfl)
    · exact step_over C (k := 1) rfl rfl rfl (want_none rfl) rfl (opn_old C 4 (by kernel_rfl) rfl) (by decide) (one_over (by kernel_rfl)) (opn_new C 0 0 rfl rfl rfl rfl rfl rfl) (stores_T (cok2 (nl_tx ⟨#[]⟩) (nl_tx ⟨#[]⟩)))
    · exact step_assign rfl rfl (want_none rfl) rfl (opn_new C 1 0 rfl rfl rfl rfl rfl rfl)
  intro γ a4 w4 S4
  replace S4 : AS w 17 [(3, In (5)), (4, Jus (.pointer (some ⟨G2_5, 0, none⟩))), (2, Jus (.pointer (some ⟨G1_1, 0, none⟩)))] [(G1_0, 67, Agg [Tx ts, Tx tc]), (G1_1, 67, Agg [Tx ⟨#[]⟩, Tx ⟨#[]⟩]), (G2_5, 86, Wv 0 0)] a4 w4 := cast (by kernel_rfl) (S4.keep [2, 3, 4])
  clear S3
  refine then_normal ?_
  refine wp_ret ?_
  refine then_ret ?_
  exact S4.ret2 2 1 0 rfl rfl rfl loads_T rfl fun v hv => ⟨S4.bel, v, rfl, hv⟩
end Go.Proofs.YtgajdmadbdbabaaGreatDoor
