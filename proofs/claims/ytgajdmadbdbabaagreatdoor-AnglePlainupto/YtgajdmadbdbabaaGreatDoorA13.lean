/- Part 13 of the walks and of the mathematics under them: XH AWG AWR AWS. -/
import Derived.Test.YtgajdmadbdbabaaGreatDoorA12
import Derived.Test.YtgajdmadbdbabaaGreatDoorA11
import Derived.Test.YtgajdmadbdbabaaGreatDoorA10
set_option maxHeartbeats 16000000
set_option maxRecDepth 100000
/- XH -/
namespace Go.Proofs.YtgajdmadbdbabaaGreatDoor
open Go.RowKit Cx
attribute [local go_sem ↓] Go.wp_at_zero Go.wp_at_succ
theorem bytes_eq {s : ByteArray} {l : List UInt8} (h : s.data.toList = l) : s = ⟨l.toArray⟩ := by
  cases s
  subst h
  simp
theorem an_from {s c : List UInt8} {z : Int} (h : AngAns ((rd [48] = 0 ∧ rd [49] = 0) ∨ (rd [49] = 0 ∧ rd [45, 49] = 0)) (rd [48] * rd [49] - -rd [49] * rd [45, 49]) (rd [48] * rd [45, 49] + -rd [49] * rd [49]) s c z) : z = 0 ∧ s = [49] ∧ c = [49] := by
  rw [rd0, rd1, rdm1] at h
  rcases h with ⟨h, _⟩ | ⟨_, hz, h1, h2⟩
  · exact absurd h (by decide +kernel)
  · rw [show ((((0 : Int) : Rat) * ((-1 : Int) : Rat) + -((1 : Int) : Rat) * ((1 : Int) : Rat)) * fac [((0 : Int) : Rat) * ((1 : Int) : Rat) - -((1 : Int) : Rat) * ((-1 : Int) : Rat), ((0 : Int) : Rat) * ((-1 : Int) : Rat) + -((1 : Int) : Rat) * ((1 : Int) : Rat)]) = ((1 : Int) : Rat) by decide +kernel] at h1
    rw [show ((((0 : Int) : Rat) * ((1 : Int) : Rat) - -((1 : Int) : Rat) * ((-1 : Int) : Rat)) * fac [((0 : Int) : Rat) * ((1 : Int) : Rat) - -((1 : Int) : Rat) * ((-1 : Int) : Rat), ((0 : Int) : Rat) * ((-1 : Int) : Rat) + -((1 : Int) : Rat) * ((1 : Int) : Rat)]) = ((1 : Int) : Rat) by decide +kernel] at h2
    exact ⟨hz, h1.trans (tx_int 1 (by decide)), h2.trans (tx_int 1 (by decide))⟩
theorem an_pow : cpow (((1 : Int) : Rat) * fac [((1 : Int) : Rat), ((1 : Int) : Rat)]) (((1 : Int) : Rat) * fac [((1 : Int) : Rat), ((1 : Int) : Rat)]) 2 = (((0 : Int) : Rat), ((2 : Int) : Rat)) := by decide +kernel
theorem an_times {s c : List UInt8} {z : Int} (h : AngAns (rd [49] = 0 ∧ rd [49] = 0) (cpow (rd [49] * fac [rd [49], rd [49]]) (rd [49] * fac [rd [49], rd [49]]) 2).1 (cpow (rd [49] * fac [rd [49], rd [49]]) (rd [49] * fac [rd [49], rd [49]]) 2).2 s c z) : z = 0 ∧ s = [49] ∧ c = [48] := by
  rw [rd1, an_pow] at h
  rcases h with ⟨h, _⟩ | ⟨_, hz, h1, h2⟩
  · exact absurd h (by decide +kernel)
  · dsimp only at h1 h2
    rw [show ((2 : Int) : Rat) * fac [((0 : Int) : Rat), ((2 : Int) : Rat)] = ((1 : Int) : Rat) by decide +kernel] at h1
    rw [show ((0 : Int) : Rat) * fac [((0 : Int) : Rat), ((2 : Int) : Rat)] = ((0 : Int) : Rat) by decide +kernel] at h2
    exact ⟨hz, h1.trans (tx_int 1 (by decide)), h2.trans (tx_int 0 (by decide))⟩
theorem an_seen {s c : List UInt8} {z : Int} (h : AngAns ((rd [49] - rd [48] = 0 ∧ rd [48] - rd [48] = 0) ∨ (rd [48] - rd [48] = 0 ∧ rd [49] - rd [48] = 0)) ((rd [49] - rd [48]) * (rd [48] - rd [48]) - -(rd [48] - rd [48]) * (rd [49] - rd [48])) ((rd [49] - rd [48]) * (rd [49] - rd [48]) + -(rd [48] - rd [48]) * (rd [48] - rd [48])) s c z) : z = 0 ∧ s = [49] ∧ c = [48] := by
  rw [rd0, rd1] at h
  rw [show ((1 : Int) : Rat) - ((0 : Int) : Rat) = ((1 : Int) : Rat) by decide +kernel, show ((0 : Int) : Rat) - ((0 : Int) : Rat) = ((0 : Int) : Rat) by decide +kernel] at h
  rw [show (((1 : Int) : Rat) * ((0 : Int) : Rat) - -((0 : Int) : Rat) * ((1 : Int) : Rat)) = ((0 : Int) : Rat) by decide +kernel, show (((1 : Int) : Rat) * ((1 : Int) : Rat) + -((0 : Int) : Rat) * ((0 : Int) : Rat)) = ((1 : Int) : Rat) by decide +kernel] at h
  rcases h with ⟨h, _⟩ | ⟨_, hz, h1, h2⟩
  · exact absurd h (by decide +kernel)
  · rw [show ((1 : Int) : Rat) * fac [((0 : Int) : Rat), ((1 : Int) : Rat)] = ((1 : Int) : Rat) by decide +kernel] at h1
    rw [show ((0 : Int) : Rat) * fac [((0 : Int) : Rat), ((1 : Int) : Rat)] = ((0 : Int) : Rat) by decide +kernel] at h2
    exact ⟨hz, h1.trans (tx_int 1 (by decide)), h2.trans (tx_int 0 (by decide))⟩
theorem anpt_calls (x y : ByteArray) (w : World) :
    Calls Tryz.prog 72 #[.string x, .string y] w fun e w' => Below w.heap.size w w' ∧ e = .returned (.agg #[.string x, .string y]) := by
  go_enter Tryz.func72, Tryz.ntmps72
  go_wp2
  refine bodyPost_ret (v := .agg #[.string x, .string y]) (by simp [results, Tryz.results72, go_sem]) rfl ⟨below_new _ _, rfl⟩
theorem qs30 (s : ByteArray) (h : s.size ≤ 6) : QS 30 (rd s.data.toList) := (QS.rd _).mono (by rw [str_len]; omega)
theorem len6 (s : ByteArray) (h : s.size ≤ 6) : s.data.toList.length ≤ 4294967296 := by rw [str_len]; omega
theorem angled_calls (w : World) (tab : Tab w) :
    Calls Tryz.prog 52 #[] w fun e w' => Below w.heap.size w w' ∧ e = .returned (.bool true) := by
  have HT := hideIt tab
  clear tab
  go_enter Tryz.func52, Tryz.ntmps52
  go_wp2_with fail
  refine (angFrom_calls (va := .agg #[.string ⟨#[48]⟩, .string ⟨#[49]⟩, .string ⟨#[]⟩]) (vb := .agg #[.string ⟨#[49]⟩, .string ⟨#[45, 49]⟩, .string ⟨#[]⟩]) ⟨⟨#[48]⟩, ⟨#[49]⟩, ⟨#[]⟩, rfl, rfl, rfl, rfl⟩ ⟨⟨#[49]⟩, ⟨#[45, 49]⟩, ⟨#[]⟩, rfl, rfl, rfl, rfl⟩ (len6 _ (by decide)) (len6 _ (by decide)) (len6 _ (by decide)) (len6 _ (by decide)) (len6 _ (by decide)) (len6 _ (by decide)) (qs30 _ (by decide)) (qs30 _ (by decide)) (qs30 _ (by decide)) (qs30 _ (by decide)) (by decide) HT.out).mono ?_
  rintro _ w1 ⟨hb1, sa, sb, z, rfl, hans⟩
  obtain ⟨rfl, h1, h2⟩ := an_from hans
  obtain rfl := bytes_eq h1
  obtain rfl := bytes_eq h2
  have HB1 := hideIt hb1
  clear hb1 hans h1 h2
  go_wp2_with fail
  obtain ⟨w2, hw2⟩ : ∃ w2, w2 = w1.alloc (.cells #[.string ⟨#[49]⟩, .string ⟨#[49]⟩] 67) := ⟨_, rfl⟩
  have hbA := below_new w1 (.cells #[.string ⟨#[49]⟩, .string ⟨#[49]⟩] 67)
  have HKG := hideIt (Blk.new w1 #[.string ⟨#[49]⟩, .string ⟨#[49]⟩] 67)
  rw [← hw2] at hbA HKG ⊢
  obtain ⟨G, hG⟩ : ∃ G, G = w1.heap.size := ⟨_, rfl⟩
  rw [← hG] at HKG ⊢
  clear hG hw2
  have HB2 := hideIt (HB1.out.trans (hbA.mono HB1.out.size))
  clear hbA
  refine (angTimes_walk (s := ⟨#[49]⟩) (c := ⟨#[49]⟩) (n := 2) (len6 _ (by decide)) (len6 _ (by decide)) (qs30 _ (by decide)) (qs30 _ (by decide)) (by decide) (by decide) (HT.out.below HB2.out)).mono ?_
  rintro _ w3 ⟨hb3, sa, sb, z, rfl, hans⟩
  obtain ⟨rfl, h1, h2⟩ := an_times hans
  obtain rfl := bytes_eq h1
  obtain rfl := bytes_eq h2
  have HB3 := hideIt (HB2.out.trans (hb3.mono HB2.out.size))
  have HKG3 := hideIt (HKG.out.below hb3 HKG.out.lt)
  clear hb3 hans h1 h2 HKG
  go_wp2_with fail
  obtain ⟨w4, hw4⟩ : ∃ w4, w4 = w3.alloc (.cells #[.string ⟨#[49]⟩, .string ⟨#[48]⟩] 67) := ⟨_, rfl⟩
  have hbA := below_new w3 (.cells #[.string ⟨#[49]⟩, .string ⟨#[48]⟩] 67)
  have HKH := hideIt (Blk.new w3 #[.string ⟨#[49]⟩, .string ⟨#[48]⟩] 67)
  rw [← hw4] at hbA HKH ⊢
  obtain ⟨H, hH⟩ : ∃ H, H = w3.heap.size := ⟨_, rfl⟩
  rw [← hH] at HKH ⊢
  clear hH hw4
  have HB4 := hideIt (HB3.out.trans (hbA.mono HB3.out.size))
  have HKG4 := hideIt (HKG3.out.below hbA HKG3.out.lt)
  clear hbA
  refine (anpt_calls ⟨#[49]⟩ ⟨#[48]⟩ _).mono ?_
  rintro _ w5 ⟨hb5, rfl⟩
  go_wp2_with fail
  refine (anpt_calls ⟨#[48]⟩ ⟨#[49]⟩ _).mono ?_
  rintro _ w6 ⟨hb6, rfl⟩
  go_wp2_with fail
  refine (anpt_calls ⟨#[48]⟩ ⟨#[48]⟩ _).mono ?_
  rintro _ w7 ⟨hb7, rfl⟩
  have hbl6 := hb5.trans (hb6.mono hb5.size)
  have hbl7 := hbl6.trans (hb7.mono hbl6.size)
  have HB7 := hideIt (HB4.out.trans (hbl7.mono HB4.out.size))
  have HKG7 := hideIt (HKG4.out.below hbl7 HKG4.out.lt)
  have HKH7 := hideIt (HKH.out.below hbl7 HKH.out.lt)
  clear hb5 hb6 hb7 hbl6 hbl7
  go_wp2_with fail
  refine (angSeen_walk (ax := ⟨#[49]⟩) (ay := ⟨#[48]⟩) (bx := ⟨#[48]⟩) (bz := ⟨#[49]⟩) (px := ⟨#[48]⟩) (pz := ⟨#[48]⟩) (len6 _ (by decide)) (len6 _ (by decide)) (len6 _ (by decide)) (len6 _ (by decide)) (len6 _ (by decide)) (len6 _ (by decide)) (qs30 _ (by decide)) (qs30 _ (by decide)) (qs30 _ (by decide)) (qs30 _ (by decide)) (qs30 _ (by decide)) (qs30 _ (by decide)) (by decide) (HT.out.below HB7.out)).mono ?_
  rintro _ w8 ⟨hb8, sa, sb, z, rfl, hans⟩
  obtain ⟨rfl, h1, h2⟩ := an_seen hans
  obtain rfl := bytes_eq h1
  obtain rfl := bytes_eq h2
  have HB8 := hideIt (HB7.out.trans (hb8.mono HB7.out.size))
  have HKG8 := hideIt (HKG7.out.below hb8 HKG7.out.lt)
  have HKH8 := hideIt (HKH7.out.below hb8 HKH7.out.lt)
  clear hb8 hans h1 h2
  have g0 : ∀ o, (w8.alloc o).cell? ⟨G, 0, none⟩ = some (.string ⟨#[49]⟩) := fun o => (HKG8.out.old o).cell 0
  have g1 : ∀ o, (w8.alloc o).cell? ⟨G, 1, none⟩ = some (.string ⟨#[49]⟩) := fun o => (HKG8.out.old o).cell 1
  have y0 : ∀ o, (w8.alloc o).cell? ⟨H, 0, none⟩ = some (.string ⟨#[49]⟩) := fun o => (HKH8.out.old o).cell 0
  have y1 : ∀ o, (w8.alloc o).cell? ⟨H, 1, none⟩ = some (.string ⟨#[48]⟩) := fun o => (HKH8.out.old o).cell 1
  go_wp2
  go_ret
  exact ⟨HB8.out.alloc HB8.out.size _, rfl⟩
end Go.Proofs.YtgajdmadbdbabaaGreatDoor
/- AWG -/
namespace Go.Proofs.YtgajdmadbdbabaaGreatDoor
open Go.RowKit Cx
theorem en_compasslaw_angled (vs : Array Value) (w : World) : (callFunc 52 vs).run Tryz.prog w = .ok (.enter 52 vs) w := enters Tryz.func52 (by kernel_rfl) (by kernel_rfl) vs w
theorem con_angled : Con Tryz.prog Pre 52 [] (Bo true) := fun w vs hp hall => by
  obtain rfl := all2_none hall
  refine (angled_calls w hp.1).mono ?_
  rintro _ w' ⟨hb, rfl⟩
  exact ⟨hb, _, rfl, rfl⟩
end Go.Proofs.YtgajdmadbdbabaaGreatDoor
/- AWR -/
namespace Go.Proofs.YtgajdmadbdbabaaGreatDoor
open Go.RowKit Cx
theorem PV.p2 {v : Value} {w : World} {a b : List UInt8} {sa sb : ByteArray} (h : PV v a b) (ea : sa.data.toList = a) (eb : sb.data.toList = b) : (P2 sa sb).on v w := by
  obtain ⟨x, y, rfl, h1, h2⟩ := h
  obtain rfl : x = sa := (bytes_of (h1.trans ea.symm)).trans (bytes_of rfl).symm
  obtain rfl : y = sb := (bytes_of (h2.trans eb.symm)).trans (bytes_of rfl).symm
  exact P2.mk _ _ _
theorem en_angle_read (vs : Array Value) (w : World) : (callFunc 98 vs).run Tryz.prog w = .ok (.enter 98 vs) w := enters Tryz.func98 (by kernel_rfl) (by kernel_rfl) vs w
theorem con_aread_ok {ls lc : ByteArray} {rls rlc : Rat} {k : Nat} (tls : TX k ls rls) (tlc : TX k lc rlc) (hs : 2 * k + 4 ≤ 4294967296) (hn : ¬ (rlc = 0 ∧ rls = 0)) : Con Tryz.prog Pre 98 [P2 ls lc] (Tup [Wv rlc rls, In 0]) := fun w vs hp hall => by
  obtain ⟨v0, rfl, h1⟩ := all2_one hall
  cases P2.eq h1
  have erls := tls.rd
  have erlc := tlc.rd
  subst erls erlc
  refine (angleRead_calls ⟨_, _, rfl, rfl, rfl⟩ (tls.len hs) (tlc.len hs)).mono ?_
  rintro _ w' ⟨hb, ⟨h1, h2, rfl⟩ | ⟨hn', v, rfl, hv⟩⟩
  · exact absurd ⟨h1, h2⟩ hn
  · exact ⟨hb, _, rfl, [_, _], rfl, hv, rfl, trivial⟩
theorem con_aread_flat {ls lc : ByteArray} {rls rlc : Rat} {k : Nat} (tls : TX k ls rls) (tlc : TX k lc rlc) (hs : 2 * k + 4 ≤ 4294967296) (hf : (rlc = 0 ∧ rls = 0)) : Con Tryz.prog Pre 98 [P2 ls lc] (Tup [Wv 0 0, In 5]) := fun w vs hp hall => by
  obtain ⟨v0, rfl, h1⟩ := all2_one hall
  cases P2.eq h1
  have erls := tls.rd
  have erlc := tlc.rd
  subst erls erlc
  refine (angleRead_calls ⟨_, _, rfl, rfl, rfl⟩ (tls.len hs) (tlc.len hs)).mono ?_
  rintro _ w' ⟨hb, ⟨h1, h2, rfl⟩ | ⟨hn', v, rfl, hv⟩⟩
  · exact ⟨hb, _, rfl, [_, _], rfl, wv_zero w', rfl, trivial⟩
  · exact absurd hf hn'
theorem en_angle_text (vs : Array Value) (w : World) : (callFunc 99 vs).run Tryz.prog w = .ok (.enter 99 vs) w := enters Tryz.func99 (by kernel_rfl) (by kernel_rfl) vs w
theorem con_atext {sa sb : ByteArray} {x y : Rat} {K : Nat} (f1 : QS K x) (f2 : QS K y) (hk : 3 * K + 2 ≤ 35184372088640) (ea : sa.data.toList = tx (y * fac [x, y])) (eb : sb.data.toList = tx (x * fac [x, y])) : Con Tryz.prog Pre 99 [Wv x y] (P2 sa sb) := fun w vs hp hall => by
  obtain ⟨v0, rfl, h1⟩ := all2_one hall
  refine (angleText_calls h1 f1 f2 hk hp.1).mono ?_
  rintro _ w' ⟨hb, v, rfl, hv⟩
  exact ⟨hb, _, rfl, hv.p2 ea eb⟩
end Go.Proofs.YtgajdmadbdbabaaGreatDoor
/- AWS -/
namespace Go.Proofs.YtgajdmadbdbabaaGreatDoor
open Go.RowKit Cx
theorem en_angle_Plain (vs : Array Value) (w : World) : (callFunc 51 vs).run Tryz.prog w = .ok (.enter 51 vs) w := enters Tryz.func51 (by kernel_rfl) (by kernel_rfl) vs w
theorem con_aplain_ok {ts tc sa sb : ByteArray} {rts rtc : Rat} {k : Nat} (tts : TX k ts rts) (ttc : TX k tc rtc) (_ : 2 * k + 4 ≤ 4294967296) (_ : 3 * k + 2 ≤ 35184372088640) (hn : ¬ (rtc = 0 ∧ rts = 0)) (ea : sa.data.toList = tx (rts * fac [rtc, rts])) (eb : sb.data.toList = tx (rtc * fac [rtc, rts])) :
    Con Tryz.prog Pre 51 [Agg [Tx ts, Tx tc]] (Tup [Agg [Tx sa, Tx sb], In (0)]) := by
  refine con_of (n := 17) Tryz.func51 rfl rfl (Nat.le_of_ble_eq_true rfl) ?_
  intro w a0 hp S0
  have HPRE : ∀ w', Below w.heap.size w w' → Pre w' := fun w' hb => hp.below hb
  refine wp_seq ?_
  refine region_abs [.alloc 67 (Agg [Tx ts, Tx tc]), .alloc 67 (Agg [Tx ⟨#[]⟩, Tx ⟨#[]⟩]), .pure (In (0))] ⟨S0, by decide +kernel⟩ (by kernel_rfl) (by kernel_rfl) rfl (by kernel_rfl) ?_ ?_
  · intro C
    refine ASteps.cons ?_ (ASteps.cons ?_ (ASteps.cons ?_ (ASteps.nil)))
    · exact step_box rfl rfl (want_none rfl) rfl (no_fill (by kernel_rfl)) (opn_old C 0 (by kernel_rfl) rfl) (boxes_T (cok2 (nl_tx ts) (nl_tx tc)))
    · exact step_new [.string ⟨#[]⟩, .string ⟨#[]⟩] zero_T rfl rfl (want_none rfl) rfl (no_fill (by kernel_rfl)) allocs_T (by simp [notLimb]) (by kernel_rfl)
    · exact step_assign rfl rfl (want_none rfl) rfl (opn_const _)
  intro γ a1 w1 S1
  replace S1 : AS w 17 [(3, In (0)), (2, Jus (.pointer (some ⟨γ 1, 0, none⟩))), (1, Jus (.pointer (some ⟨γ 0, 0, none⟩)))] [(γ 0, 67, Agg [Tx ts, Tx tc]), (γ 1, 67, Agg [Tx ⟨#[]⟩, Tx ⟨#[]⟩])] a1 w1 := cast (by kernel_rfl) (S1.keep [1, 2, 3])
  generalize γ 0 = G1_0 at S1
  generalize γ 1 = G1_1 at S1
  clear S0
  refine then_normal ?_
  refine wp_seq ?_
  refine region_abs [.pure (Agg [Tx ts, Tx tc]), .pure (Tup [Wv rtc rts, In (0)]), .pure (Tup [Wv rtc rts, In (0)]), .pure (Wv rtc rts), .pure (In (0)), .alloc 86 (Any), .fill 5 (Wv rtc rts), .pure (In (0))] ⟨S1, by decide +kernel⟩ (by kernel_rfl) (by kernel_rfl) rfl (by kernel_rfl) ?_ ?_
  · intro C
    refine ASteps.cons ?_ (ASteps.cons ?_ (ASteps.cons ?_ (ASteps.cons ?_ (ASteps.cons ?_ (ASteps.cons ?_ (ASteps.cons ?_ (ASteps.cons ?_ (ASteps.nil))))))))
    · exact step_load (k := 0) rfl rfl rfl (want_none rfl) rfl (opn_old C 2 (by kernel_rfl) rfl) (no_over (by kernel_rfl)) loads_T
    · exact step_call HPRE rfl rfl (want_none rfl) rfl en_angle_read (Opns.cons (opn_new C 0 0 rfl rfl rfl rfl rfl rfl) Opns.nil) (con_aread_ok tts ttc (by first | decide | omega) hn)
    · exact step_move rfl rfl (want_none rfl) rfl (opn_new C 1 0 rfl rfl rfl rfl rfl rfl)
    · exact step_extract (k := 0) rfl rfl (want_none rfl) rfl (opn_new C 2 0 rfl rfl rfl rfl rfl rfl) rfl
    · exact step_extract (k := 1) rfl rfl (want_none rfl) rfl (opn_new C 2 0 rfl rfl rfl rfl rfl rfl) rfl
    · exact step_new [.bool false, .slice none 0 0, .slice none 0 0, .bool false, .slice none 0 0, .slice none 0 0] zero_W rfl rfl (want_none rfl) rfl (fill_waits (s0 := 6) (k := 0) (by kernel_rfl) rfl rfl rfl rfl) allocs_W (by simp [notLimb]) (by kernel_rfl)
    · exact step_fill C (a := 5) (k := 0) rfl rfl rfl rfl (want_none rfl) rfl rfl rfl rfl rfl (by decide) (one_fill (by kernel_rfl)) (opn_new C 3 1 rfl rfl rfl rfl rfl rfl) (stores_W (cok_wv _ _))
    · exact step_assign rfl rfl (want_none rfl) rfl (opn_new C 4 0 rfl rfl rfl rfl rfl rfl)
  intro γ a2 w2 S2
  replace S2 : AS w 17 [(5, In (0)), (4, Jus (.pointer (some ⟨γ 5, 0, none⟩))), (3, In (0)), (2, Jus (.pointer (some ⟨G1_1, 0, none⟩)))] [(G1_0, 67, Agg [Tx ts, Tx tc]), (G1_1, 67, Agg [Tx ⟨#[]⟩, Tx ⟨#[]⟩]), (γ 5, 86, Wv rtc rts)] a2 w2 := cast (by kernel_rfl) (S2.keep [2, 3, 4, 5])
  generalize γ 5 = G2_5 at S2
  clear S1
  refine then_normal ?_
  refine wp_seq ?_
  refine wp_seq ?_
  refine region_abs [.pure (In (0)), .pure (Bo false)] ⟨S2, by decide +kernel⟩ (by kernel_rfl) (by kernel_rfl) rfl (by kernel_rfl) ?_ ?_
  · intro C
    refine ASteps.cons ?_ (ASteps.cons ?_ (ASteps.nil))
    · exact step_move rfl rfl (want_none rfl) rfl (opn_old C 0 (by kernel_rfl) rfl)
    · exact step_bin rfl rfl (want_none rfl) rfl (opn_new C 0 0 rfl rfl rfl rfl rfl rfl) (opn_const _) (run_neq_int _ _ _ _ _ _ rfl)
  intro γ a3 w3 S3
  replace S3 : AS w 17 [(12, Bo false), (5, In (0)), (4, Jus (.pointer (some ⟨G2_5, 0, none⟩))), (3, In (0)), (2, Jus (.pointer (some ⟨G1_1, 0, none⟩)))] [(G1_0, 67, Agg [Tx ts, Tx tc]), (G1_1, 67, Agg [Tx ⟨#[]⟩, Tx ⟨#[]⟩]), (G2_5, 86, Wv rtc rts)] a3 w3 := cast (by kernel_rfl) (S3.keep [2, 3, 4, 5, 12])
  clear S2
  refine then_normal ?_
  refine wp_cond_false (S3.val 0 rfl) ?_
  refine wp_skip ?_
  refine then_normal ?_
  refine wp_seq ?_
  obtain ⟨z1, ez1⟩ : ∃ q : Rat, q = rts * fac [rtc, rts] := ⟨_, rfl⟩
  have fz1 : QS (3 * k + 1) z1 := by rw [ez1]; exact QS.mono (QS.fac2 ttc.qs tts.qs (by simp)) (by first | decide | omega)
  obtain ⟨s2, es2⟩ : ∃ s : ByteArray, s.data.toList = tx z1 := ⟨⟨(tx z1).toArray⟩, by simp⟩
  have ts2 : TX (3 * k + 1) s2 z1 := TX.told es2 fz1
  obtain ⟨z3, ez3⟩ : ∃ q : Rat, q = rtc * fac [rtc, rts] := ⟨_, rfl⟩
  have fz3 : QS (3 * k + 1) z3 := by rw [ez3]; exact QS.mono (QS.fac2 ttc.qs tts.qs (by simp)) (by first | decide | omega)
  obtain ⟨s4, es4⟩ : ∃ s : ByteArray, s.data.toList = tx z3 := ⟨⟨(tx z3).toArray⟩, by simp⟩
  have ts4 : TX (3 * k + 1) s4 z3 := TX.told es4 fz3
  refine region_abs [.pure (Wv rtc rts), .pure (Agg [Tx s2, Tx s4]), .over 1 (Agg [Tx s2, Tx s4]), .pure (In (0))] ⟨S3, by decide +kernel⟩ (by kernel_rfl) (by kernel_rfl) rfl (by kernel_rfl) ?_ ?_
  · intro C
    refine ASteps.cons ?_ (ASteps.cons ?_ (ASteps.cons ?_ (ASteps.cons ?_ (ASteps.nil))))
    · exact step_load (k := 2) rfl rfl rfl (want_none rfl) rfl (opn_old C 2 (by kernel_rfl) rfl) (no_over (by kernel_rfl)) loads_W
    · exact step_call HPRE rfl rfl (want_none rfl) rfl en_angle_text (Opns.cons (opn_new C 0 0 rfl rfl rfl rfl rfl rfl) Opns.nil) (con_atext ttc.qs tts.qs (by first | decide | omega) (es2.trans (by rw [ez1])) (es4.trans (by rw [ez3])))
    · exact step_over C (k := 1) rfl rfl rfl (want_none rfl) rfl (opn_old C 4 (by kernel_rfl) rfl) (by decide) (one_over (by kernel_rfl)) (opn_new C 1 0 rfl rfl rfl rfl rfl rfl) (stores_T (cok2 (nl_tx s2) (nl_tx s4)))
    · exact step_assign rfl rfl (want_none rfl) rfl (opn_const _)
  intro γ a4 w4 S4
  replace S4 : AS w 17 [(3, In (0)), (2, Jus (.pointer (some ⟨G1_1, 0, none⟩)))] [(G1_0, 67, Agg [Tx ts, Tx tc]), (G1_1, 67, Agg [Tx s2, Tx s4]), (G2_5, 86, Wv rtc rts)] a4 w4 := cast (by kernel_rfl) (S4.keep [2, 3])
  clear S3
  refine then_normal ?_
  refine wp_ret ?_
  obtain rfl : s2 = sa := (bytes_of (es2.trans ((congrArg tx (by (subst_vars; first | rfl | grind))).trans ea.symm))).trans (bytes_of rfl).symm
  obtain rfl : s4 = sb := (bytes_of (es4.trans ((congrArg tx (by (subst_vars; first | rfl | grind))).trans eb.symm))).trans (bytes_of rfl).symm
  exact S4.ret2 1 1 0 rfl rfl rfl loads_T rfl fun v hv => ⟨S4.bel, v, rfl, hv⟩
theorem con_aplain_flat {ts tc : ByteArray} {rts rtc : Rat} {k : Nat} (tts : TX k ts rts) (ttc : TX k tc rtc) (_ : 2 * k + 4 ≤ 4294967296) (_ : 3 * k + 2 ≤ 35184372088640) (hf : rtc = 0 ∧ rts = 0) :
    Con Tryz.prog Pre 51 [Agg [Tx ts, Tx tc]] (Tup [Agg [Tx ⟨#[]⟩, Tx ⟨#[]⟩], In (5)]) := by
  refine con_of (n := 17) Tryz.func51 rfl rfl (Nat.le_of_ble_eq_true rfl) ?_
  intro w a0 hp S0
  have HPRE : ∀ w', Below w.heap.size w w' → Pre w' := fun w' hb => hp.below hb
  refine wp_seq ?_
  refine region_abs [.alloc 67 (Agg [Tx ts, Tx tc]), .alloc 67 (Agg [Tx ⟨#[]⟩, Tx ⟨#[]⟩]), .pure (In (0))] ⟨S0, by decide +kernel⟩ (by kernel_rfl) (by kernel_rfl) rfl (by kernel_rfl) ?_ ?_
  · intro C
    refine ASteps.cons ?_ (ASteps.cons ?_ (ASteps.cons ?_ (ASteps.nil)))
    · exact step_box rfl rfl (want_none rfl) rfl (no_fill (by kernel_rfl)) (opn_old C 0 (by kernel_rfl) rfl) (boxes_T (cok2 (nl_tx ts) (nl_tx tc)))
    · exact step_new [.string ⟨#[]⟩, .string ⟨#[]⟩] zero_T rfl rfl (want_none rfl) rfl (no_fill (by kernel_rfl)) allocs_T (by simp [notLimb]) (by kernel_rfl)
    · exact step_assign rfl rfl (want_none rfl) rfl (opn_const _)
  intro γ a1 w1 S1
  replace S1 : AS w 17 [(3, In (0)), (2, Jus (.pointer (some ⟨γ 1, 0, none⟩))), (1, Jus (.pointer (some ⟨γ 0, 0, none⟩)))] [(γ 0, 67, Agg [Tx ts, Tx tc]), (γ 1, 67, Agg [Tx ⟨#[]⟩, Tx ⟨#[]⟩])] a1 w1 := cast (by kernel_rfl) (S1.keep [1, 2, 3])
  generalize γ 0 = G1_0 at S1
  generalize γ 1 = G1_1 at S1
  clear S0
  refine then_normal ?_
  refine wp_seq ?_
  refine region_abs [.pure (Agg [Tx ts, Tx tc]), .pure (Tup [Wv 0 0, In (5)]), .pure (Tup [Wv 0 0, In (5)]), .pure (Wv 0 0), .pure (In (5)), .alloc 86 (Any), .fill 5 (Wv 0 0), .pure (In (5))] ⟨S1, by decide +kernel⟩ (by kernel_rfl) (by kernel_rfl) rfl (by kernel_rfl) ?_ ?_
  · intro C
    refine ASteps.cons ?_ (ASteps.cons ?_ (ASteps.cons ?_ (ASteps.cons ?_ (ASteps.cons ?_ (ASteps.cons ?_ (ASteps.cons ?_ (ASteps.cons ?_ (ASteps.nil))))))))
    · exact step_load (k := 0) rfl rfl rfl (want_none rfl) rfl (opn_old C 2 (by kernel_rfl) rfl) (no_over (by kernel_rfl)) loads_T
    · exact step_call HPRE rfl rfl (want_none rfl) rfl en_angle_read (Opns.cons (opn_new C 0 0 rfl rfl rfl rfl rfl rfl) Opns.nil) (con_aread_flat tts ttc (by first | decide | omega) hf)
    · exact step_move rfl rfl (want_none rfl) rfl (opn_new C 1 0 rfl rfl rfl rfl rfl rfl)
    · exact step_extract (k := 0) rfl rfl (want_none rfl) rfl (opn_new C 2 0 rfl rfl rfl rfl rfl rfl) rfl
    · exact step_extract (k := 1) rfl rfl (want_none rfl) rfl (opn_new C 2 0 rfl rfl rfl rfl rfl rfl) rfl
    · exact step_new [.bool false, .slice none 0 0, .slice none 0 0, .bool false, .slice none 0 0, .slice none 0 0] zero_W rfl rfl (want_none rfl) rfl (fill_waits (s0 := 6) (k := 0) (by kernel_rfl) rfl rfl rfl rfl) allocs_W (by simp [notLimb]) (by kernel_rfl)
    · exact step_fill C (a := 5) (k := 0) rfl rfl rfl rfl (want_none rfl) rfl rfl rfl rfl rfl (by decide) (one_fill (by kernel_rfl)) (opn_new C 3 1 rfl rfl rfl rfl rfl rfl) (stores_W (cok_wv _ _))
    · exact step_assign rfl rfl (want_none rfl) rfl (opn_new C 4 0 rfl rfl rfl rfl rfl rfl)
  intro γ a2 w2 S2
  replace S2 : AS w 17 [(5, In (5)), (4, Jus (.pointer (some ⟨γ 5, 0, none⟩))), (3, In (0)), (2, Jus (.pointer (some ⟨G1_1, 0, none⟩)))] [(G1_0, 67, Agg [Tx ts, Tx tc]), (G1_1, 67, Agg [Tx ⟨#[]⟩, Tx ⟨#[]⟩]), (γ 5, 86, Wv 0 0)] a2 w2 := cast (by kernel_rfl) (S2.keep [2, 3, 4, 5])
  generalize γ 5 = G2_5 at S2
  clear S1
  refine then_normal ?_
  refine wp_seq ?_
  refine wp_seq ?_
  refine region_abs [.pure (In (5)), .pure (Bo true)] ⟨S2, by decide +kernel⟩ (by kernel_rfl) (by kernel_rfl) rfl (by kernel_rfl) ?_ ?_
  · intro C
    refine ASteps.cons ?_ (ASteps.cons ?_ (ASteps.nil))
    · exact step_move rfl rfl (want_none rfl) rfl (opn_old C 0 (by kernel_rfl) rfl)
    · exact step_bin rfl rfl (want_none rfl) rfl (opn_new C 0 0 rfl rfl rfl rfl rfl rfl) (opn_const _) (run_neq_int _ _ _ _ _ _ rfl)
  intro γ a3 w3 S3
  replace S3 : AS w 17 [(12, Bo true), (5, In (5)), (4, Jus (.pointer (some ⟨G2_5, 0, none⟩))), (3, In (0)), (2, Jus (.pointer (some ⟨G1_1, 0, none⟩)))] [(G1_0, 67, Agg [Tx ts, Tx tc]), (G1_1, 67, Agg [Tx ⟨#[]⟩, Tx ⟨#[]⟩]), (G2_5, 86, Wv 0 0)] a3 w3 := cast (by kernel_rfl) (S3.keep [2, 3, 4, 5, 12])
  clear S2
  refine then_normal ?_
  refine wp_cond_true (S3.val 0 rfl) ?_
  refine wp_seq ?_
  refine region_abs [.pure (Agg [Tx ⟨#[]⟩, Tx ⟨#[]⟩]), .pure (In (5)), .over 1 (Agg [Tx ⟨#[]⟩, Tx ⟨#[]⟩]), .pure (In (5))] ⟨S3, by decide +kernel⟩ (by kernel_rfl) (by kernel_rfl) rfl (by kernel_rfl) ?_ ?_
  · intro C
    refine ASteps.cons ?_ (ASteps.cons ?_ (ASteps.cons ?_ (ASteps.cons ?_ (ASteps.nil))))
    · exact step_build rfl rfl (want_none rfl) rfl Opns.nil builds0_T
    · exact step_move rfl rfl (want_none rfl) rfl (opn_old C 1 (by kernel_rfl) rfl)
    · exact step_over C (k := 1) rfl rfl rfl (want_none rfl) rfl (opn_old C 4 (by kernel_rfl) rfl) (by decide) (one_over (by kernel_rfl)) (opn_new C 0 0 rfl rfl rfl rfl rfl rfl) (stores_T (cok2 (nl_tx ⟨#[]⟩) (nl_tx ⟨#[]⟩)))
    · exact step_assign rfl rfl (want_none rfl) rfl (opn_new C 1 0 rfl rfl rfl rfl rfl rfl)
  intro γ a4 w4 S4
  replace S4 : AS w 17 [(3, In (5)), (4, Jus (.pointer (some ⟨G2_5, 0, none⟩))), (2, Jus (.pointer (some ⟨G1_1, 0, none⟩)))] [(G1_0, 67, Agg [Tx ts, Tx tc]), (G1_1, 67, Agg [Tx ⟨#[]⟩, Tx ⟨#[]⟩]), (G2_5, 86, Wv 0 0)] a4 w4 := cast (by kernel_rfl) (S4.keep [2, 3, 4])
  clear S3
  refine then_normal ?_
  refine wp_ret ?_
  refine then_ret ?_
  exact S4.ret2 2 1 0 rfl rfl rfl loads_T rfl fun v hv => ⟨S4.bel, v, rfl, hv⟩
end Go.Proofs.YtgajdmadbdbabaaGreatDoor
