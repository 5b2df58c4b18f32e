/- Part 13 of the walks and of the mathematics under them: XH AWG. -/
import Derived.Test.YtgajdmadbdbabaaGreatDoorA12
/- Walks of package angle: the closed fact. -/
namespace Go.Proofs.YtgajdmadbdbabaaGreatDoor
open Go.RowKit Cx

attribute [local go_sem ↓] Go.wp_at_zero Go.wp_at_succ

theorem bytes_eq {s : ByteArray} {l : List UInt8} (h : s.data.toList = l) : s = ⟨l.toArray⟩ := by
  cases s
  subst h
  simp

theorem an_from {s c : List UInt8} {z : Int} (h : AngAns ((rd [48] = 0 ∧ rd [49] = 0) ∨ (rd [49] = 0 ∧ rd [45, 49] = 0)) (rd [48] * rd [49] - -rd [49] * rd [45, 49]) (rd [48] * rd [45, 49] + -rd [49] * rd [49]) s c z) : z = 0 ∧ s = [49] ∧ c = [49] := by
  rw [rd0, rd1, rdm1] at h
  rcases h with ⟨h, _⟩ | ⟨_, hz, h1, h2⟩
  · exact absurd h (by decide +kernel)
  · rw [show ((((0 : Int) : Rat) * ((-1 : Int) : Rat) + -((1 : Int) : Rat) * ((1 : Int) : Rat)) * fac [((0 : Int) : Rat) * ((1 : Int) : Rat) - -((1 : Int) : Rat) * ((-1 : Int) : Rat), ((0 : Int) : Rat) * ((-1 : Int) : Rat) + -((1 : Int) : Rat) * ((1 : Int) : Rat)]) = ((1 : Int) : Rat) by decide +kernel] at h1
    rw [show ((((0 : Int) : Rat) * ((1 : Int) : Rat) - -((1 : Int) : Rat) * ((-1 : Int) : Rat)) * fac [((0 : Int) : Rat) * ((1 : Int) : Rat) - -((1 : Int) : Rat) * ((-1 : Int) : Rat), ((0 : Int) : Rat) * ((-1 : Int) : Rat) + -((1 : Int) : Rat) * ((1 : Int) : Rat)]) = ((1 : Int) : Rat) by decide +kernel] at h2
    exact ⟨hz, h1.trans (tx_int 1 (by decide)), h2.trans (tx_int 1 (by decide))⟩

theorem an_pow : cpow (((1 : Int) : Rat) * fac [((1 : Int) : Rat), ((1 : Int) : Rat)]) (((1 : Int) : Rat) * fac [((1 : Int) : Rat), ((1 : Int) : Rat)]) 2 = (((0 : Int) : Rat), ((2 : Int) : Rat)) := by decide +kernel

theorem an_times {s c : List UInt8} {z : Int} (h : AngAns (rd [49] = 0 ∧ rd [49] = 0) (cpow (rd [49] * fac [rd [49], rd [49]]) (rd [49] * fac [rd [49], rd [49]]) 2).1 (cpow (rd [49] * fac [rd [49], rd [49]]) (rd [49] * fac [rd [49], rd [49]]) 2).2 s c z) : z = 0 ∧ s = [49] ∧ c = [48] := by
  rw [rd1, an_pow] at h
  rcases h with ⟨h, _⟩ | ⟨_, hz, h1, h2⟩
  · exact absurd h (by decide +kernel)
  · dsimp only at h1 h2
    rw [show ((2 : Int) : Rat) * fac [((0 : Int) : Rat), ((2 : Int) : Rat)] = ((1 : Int) : Rat) by decide +kernel] at h1
    rw [show ((0 : Int) : Rat) * fac [((0 : Int) : Rat), ((2 : Int) : Rat)] = ((0 : Int) : Rat) by decide +kernel] at h2
    exact ⟨hz, h1.trans (tx_int 1 (by decide)), h2.trans (tx_int 0 (by decide))⟩

theorem an_seen {s c : List UInt8} {z : Int} (h : AngAns ((rd [49] - rd [48] = 0 ∧ rd [48] - rd [48] = 0) ∨ (rd [48] - rd [48] = 0 ∧ rd [49] - rd [48] = 0)) ((rd [49] - rd [48]) * (rd [48] - rd [48]) - -(rd [48] - rd [48]) * (rd [49] - rd [48])) ((rd [49] - rd [48]) * (rd [49] - rd [48]) + -(rd [48] - rd [48]) * (rd [48] - rd [48])) s c z) : z = 0 ∧ s = [49] ∧ c = [48] := by
  rw [rd0, rd1] at h
  rw [show ((1 : Int) : Rat) - ((0 : Int) : Rat) = ((1 : Int) : Rat) by decide +kernel, show ((0 : Int) : Rat) - ((0 : Int) : Rat) = ((0 : Int) : Rat) by decide +kernel] at h
  rw [show (((1 : Int) : Rat) * ((0 : Int) : Rat) - -((0 : Int) : Rat) * ((1 : Int) : Rat)) = ((0 : Int) : Rat) by decide +kernel, show (((1 : Int) : Rat) * ((1 : Int) : Rat) + -((0 : Int) : Rat) * ((0 : Int) : Rat)) = ((1 : Int) : Rat) by decide +kernel] at h
  rcases h with ⟨h, _⟩ | ⟨_, hz, h1, h2⟩
  · exact absurd h (by decide +kernel)
  · rw [show ((1 : Int) : Rat) * fac [((0 : Int) : Rat), ((1 : Int) : Rat)] = ((1 : Int) : Rat) by decide +kernel] at h1
    rw [show ((0 : Int) : Rat) * fac [((0 : Int) : Rat), ((1 : Int) : Rat)] = ((0 : Int) : Rat) by decide +kernel] at h2
    exact ⟨hz, h1.trans (tx_int 1 (by decide)), h2.trans (tx_int 0 (by decide))⟩

/-- pt: a point of two texts. -/
theorem anpt_calls (x y : ByteArray) (w : World) :
    Calls Tryz.prog 72 #[.string x, .string y] w fun e w' => Below w.heap.size w w' ∧ e = .returned (.agg #[.string x, .string y]) := by
  go_enter Tryz.func72, Tryz.ntmps72
  go_wp2
  refine bodyPost_ret (v := .agg #[.string x, .string y]) (by simp [results, Tryz.results72, go_sem]) rfl ⟨below_new _ _, rfl⟩

theorem qs30 (s : ByteArray) (h : s.size ≤ 6) : QS 30 (rd s.data.toList) := (QS.rd _).mono (by rw [str_len]; omega)
theorem len6 (s : ByteArray) (h : s.size ≤ 6) : s.data.toList.length ≤ 4294967296 := by rw [str_len]; omega

set_option maxHeartbeats 8000000 in
set_option maxRecDepth 100000 in
theorem angled_calls (w : World) (tab : Tab w) :
    Calls Tryz.prog 52 #[] w fun e w' => Below w.heap.size w w' ∧ e = .returned (.bool true) := by
  have HT := hideIt tab
  clear tab
  go_enter Tryz.func52, Tryz.ntmps52
  go_wp2_with fail
  refine (angFrom_calls (va := .agg #[.string ⟨#[48]⟩, .string ⟨#[49]⟩, .string ⟨#[]⟩]) (vb := .agg #[.string ⟨#[49]⟩, .string ⟨#[45, 49]⟩, .string ⟨#[]⟩]) ⟨⟨#[48]⟩, ⟨#[49]⟩, ⟨#[]⟩, rfl, rfl, rfl, rfl⟩ ⟨⟨#[49]⟩, ⟨#[45, 49]⟩, ⟨#[]⟩, rfl, rfl, rfl, rfl⟩ (len6 _ (by decide)) (len6 _ (by decide)) (len6 _ (by decide)) (len6 _ (by decide)) (len6 _ (by decide)) (len6 _ (by decide)) (qs30 _ (by decide)) (qs30 _ (by decide)) (qs30 _ (by decide)) (qs30 _ (by decide)) (by decide) HT.out).mono ?_
  rintro _ w1 ⟨hb1, sa, sb, z, rfl, hans⟩
  obtain ⟨rfl, h1, h2⟩ := an_from hans
  obtain rfl := bytes_eq h1
  obtain rfl := bytes_eq h2
  have HB1 := hideIt hb1
  clear hb1 hans h1 h2
  go_wp2_with fail
  obtain ⟨w2, hw2⟩ : ∃ w2, w2 = w1.alloc (.cells #[.string ⟨#[49]⟩, .string ⟨#[49]⟩] 67) := ⟨_, rfl⟩
  have hbA := below_new w1 (.cells #[.string ⟨#[49]⟩, .string ⟨#[49]⟩] 67)
  have HKG := hideIt (Blk.new w1 #[.string ⟨#[49]⟩, .string ⟨#[49]⟩] 67)
  rw [← hw2] at hbA HKG ⊢
  obtain ⟨G, hG⟩ : ∃ G, G = w1.heap.size := ⟨_, rfl⟩
  rw [← hG] at HKG ⊢
  clear hG hw2
  have HB2 := hideIt (HB1.out.trans (hbA.mono HB1.out.size))
  clear hbA
  refine (angTimes_walk (s := ⟨#[49]⟩) (c := ⟨#[49]⟩) (n := 2) (len6 _ (by decide)) (len6 _ (by decide)) (qs30 _ (by decide)) (qs30 _ (by decide)) (by decide) (by decide) (HT.out.below HB2.out)).mono ?_
  rintro _ w3 ⟨hb3, sa, sb, z, rfl, hans⟩
  obtain ⟨rfl, h1, h2⟩ := an_times hans
  obtain rfl := bytes_eq h1
  obtain rfl := bytes_eq h2
  have HB3 := hideIt (HB2.out.trans (hb3.mono HB2.out.size))
  have HKG3 := hideIt (HKG.out.below hb3 HKG.out.lt)
  clear hb3 hans h1 h2 HKG
  go_wp2_with fail
  obtain ⟨w4, hw4⟩ : ∃ w4, w4 = w3.alloc (.cells #[.string ⟨#[49]⟩, .string ⟨#[48]⟩] 67) := ⟨_, rfl⟩
  have hbA := below_new w3 (.cells #[.string ⟨#[49]⟩, .string ⟨#[48]⟩] 67)
  have HKH := hideIt (Blk.new w3 #[.string ⟨#[49]⟩, .string ⟨#[48]⟩] 67)
  rw [← hw4] at hbA HKH ⊢
  obtain ⟨H, hH⟩ : ∃ H, H = w3.heap.size := ⟨_, rfl⟩
  rw [← hH] at HKH ⊢
  clear hH hw4
  have HB4 := hideIt (HB3.out.trans (hbA.mono HB3.out.size))
  have HKG4 := hideIt (HKG3.out.below hbA HKG3.out.lt)
  clear hbA
  refine (anpt_calls ⟨#[49]⟩ ⟨#[48]⟩ _).mono ?_
  rintro _ w5 ⟨hb5, rfl⟩
  go_wp2_with fail
  refine (anpt_calls ⟨#[48]⟩ ⟨#[49]⟩ _).mono ?_
  rintro _ w6 ⟨hb6, rfl⟩
  go_wp2_with fail
  refine (anpt_calls ⟨#[48]⟩ ⟨#[48]⟩ _).mono ?_
  rintro _ w7 ⟨hb7, rfl⟩
  have hbl6 := hb5.trans (hb6.mono hb5.size)
  have hbl7 := hbl6.trans (hb7.mono hbl6.size)
  have HB7 := hideIt (HB4.out.trans (hbl7.mono HB4.out.size))
  have HKG7 := hideIt (HKG4.out.below hbl7 HKG4.out.lt)
  have HKH7 := hideIt (HKH.out.below hbl7 HKH.out.lt)
  clear hb5 hb6 hb7 hbl6 hbl7
  go_wp2_with fail
  refine (angSeen_walk (ax := ⟨#[49]⟩) (ay := ⟨#[48]⟩) (bx := ⟨#[48]⟩) (bz := ⟨#[49]⟩) (px := ⟨#[48]⟩) (pz := ⟨#[48]⟩) (len6 _ (by decide)) (len6 _ (by decide)) (len6 _ (by decide)) (len6 _ (by decide)) (len6 _ (by decide)) (len6 _ (by decide)) (qs30 _ (by decide)) (qs30 _ (by decide)) (qs30 _ (by decide)) (qs30 _ (by decide)) (qs30 _ (by decide)) (qs30 _ (by decide)) (by decide) (HT.out.below HB7.out)).mono ?_
  rintro _ w8 ⟨hb8, sa, sb, z, rfl, hans⟩
  obtain ⟨rfl, h1, h2⟩ := an_seen hans
  obtain rfl := bytes_eq h1
  obtain rfl := bytes_eq h2
  have HB8 := hideIt (HB7.out.trans (hb8.mono HB7.out.size))
  have HKG8 := hideIt (HKG7.out.below hb8 HKG7.out.lt)
  have HKH8 := hideIt (HKH7.out.below hb8 HKH7.out.lt)
  clear hb8 hans h1 h2
  have g0 : ∀ o, (w8.alloc o).cell? ⟨G, 0, none⟩ = some (.string ⟨#[49]⟩) := fun o => (HKG8.out.old o).cell 0
  have g1 : ∀ o, (w8.alloc o).cell? ⟨G, 1, none⟩ = some (.string ⟨#[49]⟩) := fun o => (HKG8.out.old o).cell 1
  have y0 : ∀ o, (w8.alloc o).cell? ⟨H, 0, none⟩ = some (.string ⟨#[49]⟩) := fun o => (HKH8.out.old o).cell 0
  have y1 : ∀ o, (w8.alloc o).cell? ⟨H, 1, none⟩ = some (.string ⟨#[48]⟩) := fun o => (HKH8.out.old o).cell 1
  go_wp2
  go_ret
  exact ⟨HB8.out.alloc HB8.out.size _, rfl⟩

end Go.Proofs.YtgajdmadbdbabaaGreatDoor
/- Walks by what is known: contracts of angles. -/
namespace Go.Proofs.YtgajdmadbdbabaaGreatDoor
open Go.RowKit Cx

theorem en_compasslaw_angled (vs : Array Value) (w : World) : (callFunc 52 vs).run Tryz.prog w = .ok (.enter 52 vs) w := enters Tryz.func52 (by kernel_rfl) (by kernel_rfl) vs w
theorem con_angled : Con Tryz.prog Pre 52 [] (Bo true) := fun w vs hp hall => by
  obtain rfl := all2_none hall
  refine (angled_calls w hp.1).mono ?_
  rintro _ w' ⟨hb, rfl⟩
  exact ⟨hb, _, rfl, rfl⟩
theorem angAns_ok {p : Prop} {X Y : Rat} {la lb sa sb : ByteArray} {z : Int} {w : World} (h : AngAns p X Y la.data.toList lb.data.toList z) (hn : ¬ p) (ea : sa.data.toList = tx (Y * fac [X, Y])) (eb : sb.data.toList = tx (X * fac [X, Y])) : (Tup [P2 sa sb, In 0]).on (.tuple #[.agg #[.string la, .string lb], .int .i64 z]) w := by
  rcases h with ⟨h1, _⟩ | ⟨_, rfl, h1, h2⟩
  · exact absurd h1 hn
  · obtain rfl : la = sa := (bytes_of (h1.trans ea.symm)).trans (bytes_of rfl).symm
    obtain rfl : lb = sb := (bytes_of (h2.trans eb.symm)).trans (bytes_of rfl).symm
    exact ⟨[_, _], rfl, P2.mk _ _ _, rfl, trivial⟩
theorem angAns_flat {p : Prop} {X Y : Rat} {la lb : ByteArray} {z : Int} {w : World} (h : AngAns p X Y la.data.toList lb.data.toList z) (hf : p) : (Tup [P2 ⟨#[]⟩ ⟨#[]⟩, In 5]).on (.tuple #[.agg #[.string la, .string lb], .int .i64 z]) w := by
  rcases h with ⟨_, rfl, h1, h2⟩ | ⟨hn, _⟩
  · obtain rfl : la = ⟨#[]⟩ := bytes_of h1
    obtain rfl : lb = ⟨#[]⟩ := bytes_of h2
    exact ⟨[_, _], rfl, P2.mk _ _ _, rfl, trivial⟩
  · exact absurd hf hn
theorem en_angle_From (vs : Array Value) (w : World) : (callFunc 57 vs).run Tryz.prog w = .ok (.enter 57 vs) w := enters Tryz.func57 (by kernel_rfl) (by kernel_rfl) vs w
theorem con_from_ok {la lb lc ma mb mc sa sb : ByteArray} {rla rlb rlc rma rmb rmc : Rat} {X Y : Rat} {k : Nat} (tla : TX k la rla) (tlb : TX k lb rlb) (tlc : TX k lc rlc) (tma : TX k ma rma) (tmb : TX k mb rmb) (tmc : TX k mc rmc) (eX : X = rla * rma - -rlb * rmb) (eY : Y = rla * rmb + -rlb * rma) (hs : 2 * k + 4 ≤ 4294967296) (hk : 20 * (k + 1) ≤ 35184372088640) (hn : ¬ ((rla = 0 ∧ rlb = 0) ∨ (rma = 0 ∧ rmb = 0))) (ea : sa.data.toList = tx (Y * fac [X, Y])) (eb : sb.data.toList = tx (X * fac [X, Y])) : Con Tryz.prog Pre 57 [L3 la lb lc, L3 ma mb mc] (Tup [P2 sa sb, In 0]) := fun w vs hp hall => by
  obtain ⟨v0, v1, rfl, h0, h1⟩ := all2_two hall
  cases L3.eq h0
  cases L3.eq h1
  have erla := tla.rd
  have erlb := tlb.rd
  have erlc := tlc.rd
  have erma := tma.rd
  have ermb := tmb.rd
  have ermc := tmc.rd
  subst erla erlb erlc erma ermb ermc
  refine (angFrom_walk (tla.len hs) (tlb.len hs) (tlc.len hs) (tma.len hs) (tmb.len hs) (tmc.len hs) tla.qs tlb.qs tma.qs tmb.qs hk hp.1).mono ?_
  rintro _ w' ⟨hb, la, lb, z, rfl, hans⟩
  subst eX eY
  exact ⟨hb, _, rfl, angAns_ok hans hn ea eb⟩
theorem con_from_flat {la lb lc ma mb mc : ByteArray} {rla rlb rlc rma rmb rmc : Rat} {X Y : Rat} {k : Nat} (tla : TX k la rla) (tlb : TX k lb rlb) (tlc : TX k lc rlc) (tma : TX k ma rma) (tmb : TX k mb rmb) (tmc : TX k mc rmc) (eX : X = rla * rma - -rlb * rmb) (eY : Y = rla * rmb + -rlb * rma) (hs : 2 * k + 4 ≤ 4294967296) (hk : 20 * (k + 1) ≤ 35184372088640) (hf : (rla = 0 ∧ rlb = 0) ∨ (rma = 0 ∧ rmb = 0)) : Con Tryz.prog Pre 57 [L3 la lb lc, L3 ma mb mc] (Tup [P2 ⟨#[]⟩ ⟨#[]⟩, In 5]) := fun w vs hp hall => by
  obtain ⟨v0, v1, rfl, h0, h1⟩ := all2_two hall
  cases L3.eq h0
  cases L3.eq h1
  have erla := tla.rd
  have erlb := tlb.rd
  have erlc := tlc.rd
  have erma := tma.rd
  have ermb := tmb.rd
  have ermc := tmc.rd
  subst erla erlb erlc erma ermb ermc
  refine (angFrom_walk (tla.len hs) (tlb.len hs) (tlc.len hs) (tma.len hs) (tmb.len hs) (tmc.len hs) tla.qs tlb.qs tma.qs tmb.qs hk hp.1).mono ?_
  rintro _ w' ⟨hb, la, lb, z, rfl, hans⟩
  subst eX eY
  exact ⟨hb, _, rfl, angAns_flat hans hf⟩
theorem en_angle_Sum (vs : Array Value) (w : World) : (callFunc 59 vs).run Tryz.prog w = .ok (.enter 59 vs) w := enters Tryz.func59 (by kernel_rfl) (by kernel_rfl) vs w
theorem con_sum_ok {ls lc ms mc sa sb : ByteArray} {rls rlc rms rmc : Rat} {X Y : Rat} {k : Nat} (tls : TX k ls rls) (tlc : TX k lc rlc) (tms : TX k ms rms) (tmc : TX k mc rmc) (eX : X = rlc * rmc - rls * rms) (eY : Y = rlc * rms + rls * rmc) (hs : 2 * k + 4 ≤ 4294967296) (hk : 20 * (k + 1) ≤ 35184372088640) (hn : ¬ ((rlc = 0 ∧ rls = 0) ∨ (rmc = 0 ∧ rms = 0))) (ea : sa.data.toList = tx (Y * fac [X, Y])) (eb : sb.data.toList = tx (X * fac [X, Y])) : Con Tryz.prog Pre 59 [P2 ls lc, P2 ms mc] (Tup [P2 sa sb, In 0]) := fun w vs hp hall => by
  obtain ⟨v0, v1, rfl, h0, h1⟩ := all2_two hall
  cases P2.eq h0
  cases P2.eq h1
  have erls := tls.rd
  have erlc := tlc.rd
  have erms := tms.rd
  have ermc := tmc.rd
  subst erls erlc erms ermc
  refine (angSum_walk (tls.len hs) (tlc.len hs) (tms.len hs) (tmc.len hs) tlc.qs tls.qs tmc.qs tms.qs hk hp.1).mono ?_
  rintro _ w' ⟨hb, la, lb, z, rfl, hans⟩
  subst eX eY
  exact ⟨hb, _, rfl, angAns_ok hans hn ea eb⟩
theorem con_sum_flat {ls lc ms mc : ByteArray} {rls rlc rms rmc : Rat} {X Y : Rat} {k : Nat} (tls : TX k ls rls) (tlc : TX k lc rlc) (tms : TX k ms rms) (tmc : TX k mc rmc) (eX : X = rlc * rmc - rls * rms) (eY : Y = rlc * rms + rls * rmc) (hs : 2 * k + 4 ≤ 4294967296) (hk : 20 * (k + 1) ≤ 35184372088640) (hf : (rlc = 0 ∧ rls = 0) ∨ (rmc = 0 ∧ rms = 0)) : Con Tryz.prog Pre 59 [P2 ls lc, P2 ms mc] (Tup [P2 ⟨#[]⟩ ⟨#[]⟩, In 5]) := fun w vs hp hall => by
  obtain ⟨v0, v1, rfl, h0, h1⟩ := all2_two hall
  cases P2.eq h0
  cases P2.eq h1
  have erls := tls.rd
  have erlc := tlc.rd
  have erms := tms.rd
  have ermc := tmc.rd
  subst erls erlc erms ermc
  refine (angSum_walk (tls.len hs) (tlc.len hs) (tms.len hs) (tmc.len hs) tlc.qs tls.qs tmc.qs tms.qs hk hp.1).mono ?_
  rintro _ w' ⟨hb, la, lb, z, rfl, hans⟩
  subst eX eY
  exact ⟨hb, _, rfl, angAns_flat hans hf⟩
theorem en_angle_Seen (vs : Array Value) (w : World) : (callFunc 60 vs).run Tryz.prog w = .ok (.enter 60 vs) w := enters Tryz.func60 (by kernel_rfl) (by kernel_rfl) vs w
theorem con_seen_ok {ax ay bx bz px pz sa sb : ByteArray} {rax ray rbx rbz rpx rpz : Rat} {X Y : Rat} {k : Nat} (tax : TX k ax rax) (tay : TX k ay ray) (tbx : TX k bx rbx) (tbz : TX k bz rbz) (tpx : TX k px rpx) (tpz : TX k pz rpz) (eX : X = (rax - rpx) * (rbx - rpx) - -(ray - rpz) * (rbz - rpz)) (eY : Y = (rax - rpx) * (rbz - rpz) + -(ray - rpz) * (rbx - rpx)) (hs : 2 * k + 4 ≤ 4294967296) (hk : 40 * (k + 1) ≤ 35184372088640) (hn : ¬ (((rax - rpx) = 0 ∧ (ray - rpz) = 0) ∨ ((rbx - rpx) = 0 ∧ (rbz - rpz) = 0))) (ea : sa.data.toList = tx (Y * fac [X, Y])) (eb : sb.data.toList = tx (X * fac [X, Y])) : Con Tryz.prog Pre 60 [P2 ax ay, P2 bx bz, P2 px pz] (Tup [P2 sa sb, In 0]) := fun w vs hp hall => by
  obtain ⟨v0, v1, v2, rfl, h0, h1, h2⟩ := all2_three hall
  cases P2.eq h0
  cases P2.eq h1
  cases P2.eq h2
  have erax := tax.rd
  have eray := tay.rd
  have erbx := tbx.rd
  have erbz := tbz.rd
  have erpx := tpx.rd
  have erpz := tpz.rd
  subst erax eray erbx erbz erpx erpz
  refine (angSeen_walk (tax.len hs) (tay.len hs) (tbx.len hs) (tbz.len hs) (tpx.len hs) (tpz.len hs) tax.qs tay.qs tbx.qs tbz.qs tpx.qs tpz.qs hk hp.1).mono ?_
  rintro _ w' ⟨hb, la, lb, z, rfl, hans⟩
  subst eX eY
  exact ⟨hb, _, rfl, angAns_ok hans hn ea eb⟩
theorem con_seen_flat {ax ay bx bz px pz : ByteArray} {rax ray rbx rbz rpx rpz : Rat} {X Y : Rat} {k : Nat} (tax : TX k ax rax) (tay : TX k ay ray) (tbx : TX k bx rbx) (tbz : TX k bz rbz) (tpx : TX k px rpx) (tpz : TX k pz rpz) (eX : X = (rax - rpx) * (rbx - rpx) - -(ray - rpz) * (rbz - rpz)) (eY : Y = (rax - rpx) * (rbz - rpz) + -(ray - rpz) * (rbx - rpx)) (hs : 2 * k + 4 ≤ 4294967296) (hk : 40 * (k + 1) ≤ 35184372088640) (hf : ((rax - rpx) = 0 ∧ (ray - rpz) = 0) ∨ ((rbx - rpx) = 0 ∧ (rbz - rpz) = 0)) : Con Tryz.prog Pre 60 [P2 ax ay, P2 bx bz, P2 px pz] (Tup [P2 ⟨#[]⟩ ⟨#[]⟩, In 5]) := fun w vs hp hall => by
  obtain ⟨v0, v1, v2, rfl, h0, h1, h2⟩ := all2_three hall
  cases P2.eq h0
  cases P2.eq h1
  cases P2.eq h2
  have erax := tax.rd
  have eray := tay.rd
  have erbx := tbx.rd
  have erbz := tbz.rd
  have erpx := tpx.rd
  have erpz := tpz.rd
  subst erax eray erbx erbz erpx erpz
  refine (angSeen_walk (tax.len hs) (tay.len hs) (tbx.len hs) (tbz.len hs) (tpx.len hs) (tpz.len hs) tax.qs tay.qs tbx.qs tbz.qs tpx.qs tpz.qs hk hp.1).mono ?_
  rintro _ w' ⟨hb, la, lb, z, rfl, hans⟩
  subst eX eY
  exact ⟨hb, _, rfl, angAns_flat hans hf⟩
end Go.Proofs.YtgajdmadbdbabaaGreatDoor
