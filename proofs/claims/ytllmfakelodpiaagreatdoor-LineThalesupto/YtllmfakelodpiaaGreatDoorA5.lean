/- Part 5 of the walks of the packages num, way, ruler, line and plane, and of the mathematics under them: QB MathR QC QD MathT MathP TA TB. -/
import Derived.Test.YtllmfakelodpiaaGreatDoorA4
import Derived.Test.YtllmfakelodpiaaGreatDoorA1
import Derived.Lib.IndexLaws
import Derived.Lib.Strings
/- Walks of package num: fractions: addSigned, Plus. -/
namespace Go.Proofs.YtllmfakelodpiaaGreatDoor
open Go.RowKit Cx

attribute [local go_sem ↓] Go.wp_at_zero Go.wp_at_succ

/-- addSigned: the sum of two numbers with signs. -/
theorem addSigned_calls {w : World} {an bn : Bool} {va vb : Value} {a b : Nat} (ha : NatN w va a) (hb : NatN w vb b) (sa : Small a) (sb : Small b) :
    Calls Tryz.prog 60 #[.bool an, va, .bool bn, vb] w fun e w' => Below w.heap.size w w' ∧ ∃ neg v n, e = .returned (.tuple #[.bool neg, v]) ∧ NatN w' v n ∧ sg neg n = sg an a + sg bn b := by
  have HC := hideIt (compare_calls ha hb sa sb)
  have HA := hideIt ha
  have HB := hideIt hb
  have SA := hideIt sa
  have SB := hideIt sb
  clear ha hb sa sb
  cases an <;> cases bn
  · go_enter Tryz.func60, Tryz.ntmps60
    go_wp2_with fail
    refine (add_calls HA.out HB.out SA.out SB.out).mono ?_
    rintro e w1 ⟨hb1, v, rfl, hv⟩
    go_wp2
    go_ret2
    exact ⟨hb1, false, v, a + b, rfl, hv, by simp [sg]⟩
  · go_enter Tryz.func60, Tryz.ntmps60
    go_wp2_with fail
    refine Calls.mono HC.out ?_
    rintro e w1 ⟨hb1, c, rfl, hc1, _⟩
    rcases Decidable.em (c < 0) with hc | hc
    · have hlt := hideIt (hc1.1 hc)
      clear hc1
      go_wp2_with fail
      refine (subtract_calls (HB.out.below hb1) (HA.out.below hb1) SB.out SA.out (Nat.le_of_lt hlt.out)).mono ?_
      rintro e w2 ⟨hb2, v, rfl, hv⟩
      go_wp2
      go_ret2
      exact ⟨hb1.trans (hb2.mono hb1.size), true, v, b - a, rfl, hv, by have := hlt.out; simp [sg]; omega⟩
    · have hle : Hid (b ≤ a) := by
        show b ≤ a
        rcases Nat.lt_or_ge a b with h | h
        · exact absurd (hc1.2 h) hc
        · exact h
      clear hc1
      go_wp2_with fail
      refine (subtract_calls (HA.out.below hb1) (HB.out.below hb1) SA.out SB.out hle.out).mono ?_
      rintro e w2 ⟨hb2, v, rfl, hv⟩
      go_wp2
      go_ret2
      exact ⟨hb1.trans (hb2.mono hb1.size), false, v, a - b, rfl, hv, by have := hle.out; simp [sg]; omega⟩
  · go_enter Tryz.func60, Tryz.ntmps60
    go_wp2_with fail
    refine Calls.mono HC.out ?_
    rintro e w1 ⟨hb1, c, rfl, hc1, _⟩
    rcases Decidable.em (c < 0) with hc | hc
    · have hlt := hideIt (hc1.1 hc)
      clear hc1
      go_wp2_with fail
      refine (subtract_calls (HB.out.below hb1) (HA.out.below hb1) SB.out SA.out (Nat.le_of_lt hlt.out)).mono ?_
      rintro e w2 ⟨hb2, v, rfl, hv⟩
      go_wp2
      go_ret2
      exact ⟨hb1.trans (hb2.mono hb1.size), false, v, b - a, rfl, hv, by have := hlt.out; simp [sg]; omega⟩
    · have hle : Hid (b ≤ a) := by
        show b ≤ a
        rcases Nat.lt_or_ge a b with h | h
        · exact absurd (hc1.2 h) hc
        · exact h
      clear hc1
      go_wp2_with fail
      refine (subtract_calls (HA.out.below hb1) (HB.out.below hb1) SA.out SB.out hle.out).mono ?_
      rintro e w2 ⟨hb2, v, rfl, hv⟩
      go_wp2
      go_ret2
      exact ⟨hb1.trans (hb2.mono hb1.size), true, v, a - b, rfl, hv, by have := hle.out; simp [sg]; omega⟩
  · go_enter Tryz.func60, Tryz.ntmps60
    go_wp2_with fail
    refine (add_calls HA.out HB.out SA.out SB.out).mono ?_
    rintro e w1 ⟨hb1, v, rfl, hv⟩
    go_wp2
    go_ret2
    exact ⟨hb1, true, v, a + b, rfl, hv, by simp [sg]; omega⟩
end Go.Proofs.YtllmfakelodpiaaGreatDoor
/- Plain mathematics: sums and products of fractions. -/
namespace Cx

theorem sg_mul (s : Bool) (u v : Nat) : sg s (u * v) = sg s u * v := by
  cases s
  · simp [sg]
  · simp only [sg, if_true, Int.natCast_mul, Int.neg_mul]

theorem sg_div (s : Bool) {u h : Nat} (hd : h ∣ u) : sg s (u / h) * h = sg s u := by
  rw [← sg_mul, Nat.div_mul_cancel hd]

/-- The sum, as package num reckons it. -/
theorem plus_fr (a b : Rat) {neg : Bool} {n : Nat} (hN : sg neg n = a.num * (b.den / Nat.gcd a.den b.den : Nat) + b.num * (a.den / Nat.gcd a.den b.den : Nat)) :
    ∃ hl hc, fr neg (n / Nat.gcd n (Nat.gcd a.den b.den)) (a.den / Nat.gcd a.den b.den * (b.den / Nat.gcd n (Nat.gcd a.den b.den))) hl hc = a + b := by
  have hc := henrici a.reduced b.reduced a.den_nz hN
  rw [sg_abs] at hc
  have hg : 0 < Nat.gcd a.den b.den := Nat.gcd_pos_of_pos_left _ (Nat.pos_of_ne_zero a.den_nz)
  have ga := Nat.gcd_dvd_left a.den b.den
  have gb := Nat.gcd_dvd_right a.den b.den
  have hh : 0 < Nat.gcd n (Nat.gcd a.den b.den) := Nat.gcd_pos_of_pos_right _ hg
  have hdn := Nat.gcd_dvd_left n (Nat.gcd a.den b.den)
  have hdg := Nat.gcd_dvd_right n (Nat.gcd a.den b.den)
  have hdb : Nat.gcd n (Nat.gcd a.den b.den) ∣ b.den := Nat.dvd_trans hdg gb
  have hx : 0 < a.den / Nat.gcd a.den b.den := Nat.div_pos (Nat.le_of_dvd (Nat.pos_of_ne_zero a.den_nz) ga) hg
  have hy : 0 < b.den / Nat.gcd n (Nat.gcd a.den b.den) := Nat.div_pos (Nat.le_of_dvd (Nat.pos_of_ne_zero b.den_nz) hdb) hh
  have hl : a.den / Nat.gcd a.den b.den * (b.den / Nat.gcd n (Nat.gcd a.den b.den)) ≠ 0 := Nat.ne_of_gt (Nat.mul_pos hx hy)
  refine ⟨hl, hc, ?_⟩
  have hab : a.den * b.den ≠ 0 := Nat.mul_ne_zero a.den_nz b.den_nz
  have e : a + b = mkRat (a.num * b.den + b.num * a.den) (a.den * b.den) := by
    rw [Rat.add_def, Rat.normalize_eq_mkRat]
  rw [e]
  apply fr_eq hab
  have e1 := sg_div neg hdn
  obtain ⟨x, hxx⟩ := ga
  obtain ⟨y, hyy⟩ := gb
  obtain ⟨z, hzz⟩ := hdb
  generalize hgg : Nat.gcd a.den b.den = g at *
  generalize hhh : Nat.gcd n g = h at *
  have ex : a.den / g = x := by rw [hxx]; exact Nat.mul_div_cancel_left _ hg
  have ey : b.den / g = y := by rw [hyy]; exact Nat.mul_div_cancel_left _ hg
  have ez : b.den / h = z := by rw [hzz]; exact Nat.mul_div_cancel_left _ hh
  rw [ex, ez]
  rw [ex, ey] at hN
  rw [hN] at e1
  have hbi : (b.den : Int) = (h : Int) * z := by exact_mod_cast hzz
  have hbj : (b.den : Int) = (g : Int) * y := by exact_mod_cast hyy
  have hai : (a.den : Int) = (g : Int) * x := by exact_mod_cast hxx
  have hcast : ((a.den * b.den : Nat) : Int) = (a.den : Int) * b.den := Int.natCast_mul _ _
  have hcast2 : ((x * z : Nat) : Int) = (x : Int) * z := Int.natCast_mul _ _
  rw [hcast, hcast2]
  generalize sg neg (n / h) = s at *
  generalize (x : Int) = X at *
  generalize (y : Int) = Y at *
  generalize (z : Int) = Z at *
  generalize (h : Int) = H at *
  generalize (g : Int) = G at *
  generalize (a.den : Int) = AD at *
  generalize (b.den : Int) = BD at *
  generalize a.num = AN at *
  generalize b.num = BN at *
  clear hc hN hdn hdg hx hy hl hab e hcast hcast2 ex ey ez hxx hyy hzz hgg hhh hg hh
  subst hai
  have k1 : s * (G * X * BD) = s * H * (G * X * Z) := by rw [hbi]; grind
  rw [k1, e1, hbj]
  grind

/-- The product, as package num reckons it. -/
theorem times_fr (a b : Rat) :
    ∃ hl hc, fr (decide (a.num < 0) != decide (b.num < 0)) (a.num.natAbs / Nat.gcd a.num.natAbs b.den * (b.num.natAbs / Nat.gcd b.num.natAbs a.den)) (a.den / Nat.gcd b.num.natAbs a.den * (b.den / Nat.gcd a.num.natAbs b.den)) hl hc = a * b := by
  have hg : 0 < Nat.gcd a.num.natAbs b.den := Nat.gcd_pos_of_pos_right _ (Nat.pos_of_ne_zero b.den_nz)
  have hh : 0 < Nat.gcd b.num.natAbs a.den := Nat.gcd_pos_of_pos_right _ (Nat.pos_of_ne_zero a.den_nz)
  have ga := Nat.gcd_dvd_left a.num.natAbs b.den
  have gb := Nat.gcd_dvd_right a.num.natAbs b.den
  have ha := Nat.gcd_dvd_left b.num.natAbs a.den
  have hb := Nat.gcd_dvd_right b.num.natAbs a.den
  have c1 : Nat.Coprime (a.num.natAbs / Nat.gcd a.num.natAbs b.den) (b.den / Nat.gcd a.num.natAbs b.den) := Nat.coprime_div_gcd_div_gcd hg
  have c2 : Nat.Coprime (b.num.natAbs / Nat.gcd b.num.natAbs a.den) (a.den / Nat.gcd b.num.natAbs a.den) := Nat.coprime_div_gcd_div_gcd hh
  have c3 : Nat.Coprime (a.num.natAbs / Nat.gcd a.num.natAbs b.den) (a.den / Nat.gcd b.num.natAbs a.den) :=
    Nat.Coprime.coprime_dvd_left (Nat.div_dvd_of_dvd ga) (Nat.Coprime.coprime_dvd_right (Nat.div_dvd_of_dvd hb) a.reduced)
  have c4 : Nat.Coprime (b.num.natAbs / Nat.gcd b.num.natAbs a.den) (b.den / Nat.gcd a.num.natAbs b.den) :=
    Nat.Coprime.coprime_dvd_left (Nat.div_dvd_of_dvd ha) (Nat.Coprime.coprime_dvd_right (Nat.div_dvd_of_dvd gb) b.reduced)
  have hc := Nat.Coprime.mul_left (Nat.Coprime.mul_right c3 c1) (Nat.Coprime.mul_right c2 c4)
  have p1 : 0 < a.den / Nat.gcd b.num.natAbs a.den := Nat.div_pos (Nat.le_of_dvd (Nat.pos_of_ne_zero a.den_nz) hb) hh
  have p2 : 0 < b.den / Nat.gcd a.num.natAbs b.den := Nat.div_pos (Nat.le_of_dvd (Nat.pos_of_ne_zero b.den_nz) gb) hg
  refine ⟨Nat.ne_of_gt (Nat.mul_pos p1 p2), hc, ?_⟩
  have e : a * b = mkRat (a.num * b.num) (a.den * b.den) := by
    rw [Rat.mul_def, Rat.normalize_eq_mkRat]
  rw [e]
  apply fr_eq (Nat.mul_ne_zero a.den_nz b.den_nz)
  obtain ⟨x, hx⟩ := ga
  obtain ⟨y, hy⟩ := gb
  obtain ⟨z, hz⟩ := ha
  obtain ⟨t, ht⟩ := hb
  generalize hgg : Nat.gcd a.num.natAbs b.den = g at *
  generalize hhh : Nat.gcd b.num.natAbs a.den = h at *
  have ex : a.num.natAbs / g = x := by rw [hx]; exact Nat.mul_div_cancel_left _ hg
  have ey : b.den / g = y := by rw [hy]; exact Nat.mul_div_cancel_left _ hg
  have ez : b.num.natAbs / h = z := by rw [hz]; exact Nat.mul_div_cancel_left _ hh
  have et : a.den / h = t := by rw [ht]; exact Nat.mul_div_cancel_left _ hh
  rw [ex, ey, ez, et]
  have ea := sg_num a
  have eb := sg_num b
  rw [hx, Nat.mul_comm, sg_mul] at ea
  rw [hz, Nat.mul_comm, sg_mul] at eb
  have ed : ((a.den * b.den : Nat) : Int) = (h : Int) * t * (g * y) := by rw [ht, hy]; simp
  have ef : ((t * y : Nat) : Int) = (t : Int) * y := Int.natCast_mul _ _
  have hab : a.num * b.num = sg (decide (a.num < 0)) x * g * (sg (decide (b.num < 0)) z * h) := by rw [ea, eb]
  rw [ed, ef]
  have es : sg (decide (a.num < 0) != decide (b.num < 0)) (x * z) = sg (decide (a.num < 0)) x * sg (decide (b.num < 0)) z := by
    cases decide (a.num < 0) <;> cases decide (b.num < 0) <;> simp [sg, Int.mul_neg, Int.neg_mul]
  rw [es, hab]
  generalize sg (decide (a.num < 0)) x = X
  generalize sg (decide (b.num < 0)) z = Z
  grind

end Cx
/- Walks of package num: fractions: Plus. -/
namespace Go.Proofs.YtllmfakelodpiaaGreatDoor
open Go.RowKit Cx

attribute [local go_sem ↓] Go.wp_at_zero Go.wp_at_succ

theorem six_cells {w : World} {g h t u : Nat} {a b c d e f : Value} (h1 : Blk w g #[a, b, c] t) (h2 : Blk w h #[d, e, f] u) :
    w.cell? ⟨g, 0, none⟩ = some a ∧ w.cell? ⟨g, 1, none⟩ = some b ∧ w.cell? ⟨g, 2, none⟩ = some c ∧ w.cell? ⟨h, 0, none⟩ = some d ∧ w.cell? ⟨h, 1, none⟩ = some e ∧ w.cell? ⟨h, 2, none⟩ = some f :=
  ⟨h1.cell 0, h1.cell 1, h1.cell 2, h2.cell 0, h2.cell 1, h2.cell 2⟩

/-- How long the numbers of a fraction are, in bits. -/
structure QS (k : Nat) (q : Rat) : Prop where
  num : q.num.natAbs < 2 ^ k
  den : q.den < 2 ^ k

theorem mul_lt_two {x y m n : Nat} (h1 : x < m) (h2 : y < n) : x * y < m * n := Nat.mul_lt_mul'' h1 h2

set_option maxHeartbeats 8000000 in
set_option maxRecDepth 100000 in
theorem plus_walk {w : World} {na nb : Bool} {ua la ub lb : Option Addr} {lua cua lla cla lub cub llb clb : Nat} {a b : Rat}
    (ha : QV w (.agg #[.bool na, .slice ua lua cua, .slice la lla cla]) a) (hb : QV w (.agg #[.bool nb, .slice ub lub cub, .slice lb llb clb]) b)
    (ea : na = decide (a.num < 0)) (eb : nb = decide (b.num < 0)) (hua : NatN w (.slice ua lua cua) a.num.natAbs) (hub : NatN w (.slice ub lub cub) b.num.natAbs)
    (s1 : Small a.den) (s2 : Small b.den) (s3 : Small (a.num.natAbs * (b.den / Nat.gcd a.den b.den))) (s4 : Small (b.num.natAbs * (a.den / Nat.gcd a.den b.den)))
    (s5 : Small a.num.natAbs) (s6 : Small b.num.natAbs) (s7 : ∀ n, n ≤ a.num.natAbs * (b.den / Nat.gcd a.den b.den) + b.num.natAbs * (a.den / Nat.gcd a.den b.den) → Small n) :
    Calls Tryz.prog 42 #[.agg #[.bool na, .slice ua lua cua, .slice la lla cla], .agg #[.bool nb, .slice ub lub cub, .slice lb llb clb]] w fun e w' => Below w.heap.size w w' ∧ ∃ v, e = .returned v ∧ QV w' v (a + b) := by
  have HB0 : Hid (Below w.heap.size w (((w.alloc (.cells #[.bool na, .slice ua lua cua, .slice la lla cla] 39)).alloc (.cells #[.bool nb, .slice ub lub cub, .slice lb llb clb] 39)).alloc (.cells #[.bool false, .slice none 0 0, .slice none 0 0] 39))) := ((below_new w _).alloc (by simp) _).alloc (by simp; omega) _
  have HKA : Hid (Blk (((w.alloc (.cells #[.bool na, .slice ua lua cua, .slice la lla cla] 39)).alloc (.cells #[.bool nb, .slice ub lub cub, .slice lb llb clb] 39)).alloc (.cells #[.bool false, .slice none 0 0, .slice none 0 0] 39)) w.heap.size #[.bool na, .slice ua lua cua, .slice la lla cla] 39) := (((Blk.new w _ _).below (below_new _ _) (by simp)).below (below_new _ _) (by simp; omega))
  have HKB : Hid (Blk (((w.alloc (.cells #[.bool na, .slice ua lua cua, .slice la lla cla] 39)).alloc (.cells #[.bool nb, .slice ub lub cub, .slice lb llb clb] 39)).alloc (.cells #[.bool false, .slice none 0 0, .slice none 0 0] 39)) (w.heap.size + 1) #[.bool nb, .slice ub lub cub, .slice lb llb clb] 39) := by
    have := (Blk.new (w.alloc (.cells #[.bool na, .slice ua lua cua, .slice la lla cla] 39)) #[.bool nb, .slice ub lub cub, .slice lb llb clb] 39).below (below_new _ (.cells #[.bool false, .slice none 0 0, .slice none 0 0] 39)) (by simp)
    exact hideIt (by simpa using this)
  have HKR : Hid (Blk (((w.alloc (.cells #[.bool na, .slice ua lua cua, .slice la lla cla] 39)).alloc (.cells #[.bool nb, .slice ub lub cub, .slice lb llb clb] 39)).alloc (.cells #[.bool false, .slice none 0 0, .slice none 0 0] 39)) (w.heap.size + 1 + 1) #[.bool false, .slice none 0 0, .slice none 0 0] 39) := by
    have := Blk.new ((w.alloc (.cells #[.bool na, .slice ua lua cua, .slice la lla cla] 39)).alloc (.cells #[.bool nb, .slice ub lub cub, .slice lb llb clb] 39)) #[.bool false, .slice none 0 0, .slice none 0 0] 39
    exact hideIt (by simpa using this)
  have HA := hideIt (ha.below HB0.out)
  have HB := hideIt (hb.below HB0.out)
  have HUA := hideIt (hua.below HB0.out)
  have HUB := hideIt (hub.below HB0.out)
  have S1 := hideIt s1
  have S2 := hideIt s2
  have S3 := hideIt s3
  have S4 := hideIt s4
  have S5 := hideIt s5
  have S6 := hideIt s6
  have S7 := hideIt s7
  have EA := hideIt ea
  have EB := hideIt eb
  clear ha hb hua hub s1 s2 s3 s4 s5 s6 s7 ea eb
  have G0 : Hid (0 < Nat.gcd a.den b.den) := Nat.gcd_pos_of_pos_left _ (Nat.pos_of_ne_zero a.den_nz)
  have GS : Hid (Small (Nat.gcd a.den b.den)) := small_le S1.out (Nat.le_of_dvd (Nat.pos_of_ne_zero a.den_nz) (Nat.gcd_dvd_left _ _))
  have SAL : Hid (Small (a.den / Nat.gcd a.den b.den)) := small_le S1.out (Nat.div_le_self _ _)
  have SBL : Hid (Small (b.den / Nat.gcd a.den b.den)) := small_le S2.out (Nat.div_le_self _ _)
  go_enter Tryz.func42, Tryz.ntmps42
  go_wp2_with fail
  obtain ⟨z0, z1, z2, z3, z4, z5⟩ := six_cells HKA.out HKB.out
  go_region_held3 (fun w' => w'.cell? ⟨w.heap.size, 0, none⟩ = some (.bool na) ∧ w'.cell? ⟨w.heap.size, 1, none⟩ = some (.slice ua lua cua) ∧ w'.cell? ⟨w.heap.size, 2, none⟩ = some (.slice la lla cla) ∧ w'.cell? ⟨w.heap.size + 1, 0, none⟩ = some (.bool nb) ∧ w'.cell? ⟨w.heap.size + 1, 1, none⟩ = some (.slice ub lub cub) ∧ w'.cell? ⟨w.heap.size + 1, 2, none⟩ = some (.slice lb llb clb)) (first | go_keep | exact hk1 | exact hk2 | exact hk3)
    (first
      | (go_at_call_of 44 (Value.agg #[Value.bool na, Value.slice ua lua cua, Value.slice la lla cla]); refine (lower_calls (w := (((w.alloc (.cells #[.bool na, .slice ua lua cua, .slice la lla cla] 39)).alloc (.cells #[.bool nb, .slice ub lub cub, .slice lb llb clb] 39)).alloc (.cells #[.bool false, .slice none 0 0, .slice none 0 0] 39)).drew) (HA.out.below (Below.drew (Below.refl _ _)))).mono ?_; rintro e w1 ⟨hb1, v1, rfl, hv1⟩; have hbl1 : Below (((w.alloc (.cells #[.bool na, .slice ua lua cua, .slice la lla cla] 39)).alloc (.cells #[.bool nb, .slice ub lub cub, .slice lb llb clb] 39)).alloc (.cells #[.bool false, .slice none 0 0, .slice none 0 0] 39)).heap.size (((w.alloc (.cells #[.bool na, .slice ua lua cua, .slice la lla cla] 39)).alloc (.cells #[.bool nb, .slice ub lub cub, .slice lb llb clb] 39)).alloc (.cells #[.bool false, .slice none 0 0, .slice none 0 0] 39)) w1 := (Below.drew (Below.refl _ (((w.alloc (.cells #[.bool na, .slice ua lua cua, .slice la lla cla] 39)).alloc (.cells #[.bool nb, .slice ub lub cub, .slice lb llb clb] 39)).alloc (.cells #[.bool false, .slice none 0 0, .slice none 0 0] 39)))).trans hb1; have hk1 := six_cells (HKA.out.below hbl1 (by simp; omega)) (HKB.out.below hbl1 (by simp)))
      | (go_at_call_of 44 (Value.agg #[Value.bool nb, Value.slice ub lub cub, Value.slice lb llb clb]); refine (lower_calls (HB.out.below hbl1)).mono ?_; rintro e w2 ⟨hb2, v2, rfl, hv2⟩; have hbl2 := hbl1.trans (hb2.mono hbl1.size); have hk2 := six_cells (HKA.out.below hbl2 (by simp; omega)) (HKB.out.below hbl2 (by simp)))
      | (go_at_call 45; refine (gcd_walk (hv1.below hb2) hv2 S1.out S2.out).mono ?_; rintro e w3 ⟨hb3, vg, rfl, hvg⟩; have hbl3 := hbl2.trans (hb3.mono hbl2.size); have hk3 := six_cells (HKA.out.below hbl3 (by simp; omega)) (HKB.out.below hbl3 (by simp)))
      )
  clear z0 z1 z2 z3 z4 z5 hk1 hk2 hv1 hv2 hb1 hb2 hb3 hbl1 hbl2
  obtain ⟨z0, z1, z2, z3, z4, z5⟩ := hk3
  go_wp2_with fail
  go_region_held3 (fun w' => w'.cell? ⟨w.heap.size, 0, none⟩ = some (.bool na) ∧ w'.cell? ⟨w.heap.size, 1, none⟩ = some (.slice ua lua cua) ∧ w'.cell? ⟨w.heap.size, 2, none⟩ = some (.slice la lla cla) ∧ w'.cell? ⟨w.heap.size + 1, 0, none⟩ = some (.bool nb) ∧ w'.cell? ⟨w.heap.size + 1, 1, none⟩ = some (.slice ub lub cub) ∧ w'.cell? ⟨w.heap.size + 1, 2, none⟩ = some (.slice lb llb clb)) (first | go_keep | exact hk4 | exact hk5 | exact hk6 | exact hk7)
    (first
      | (go_at_call_of 44 (Value.agg #[Value.bool na, Value.slice ua lua cua, Value.slice la lla cla]); refine (lower_calls (w := w3.drew) (HA.out.below (Below.drew hbl3))).mono ?_; rintro e w4 ⟨hb4, v4, rfl, hv4⟩; have hc4 : Below w3.heap.size w3 w4 := (Below.drew (Below.refl _ w3)).trans hb4; have hbl4 := hbl3.trans (hc4.mono hbl3.size); have hk4 := six_cells (HKA.out.below hbl4 (by simp; omega)) (HKB.out.below hbl4 (by simp)))
      | (go_at_call_of 47 (v4); refine (over_calls hv4 (hvg.below hc4) S1.out GS.out G0.out).mono ?_; rintro e w5 ⟨hb5, vx, rfl, hvx⟩; have hbl5 := hbl4.trans (hb5.mono hbl4.size); have hk5 := six_cells (HKA.out.below hbl5 (by simp; omega)) (HKB.out.below hbl5 (by simp)); have hvg5 := (hvg.below hc4).below hb5)
      | (go_at_call_of 44 (Value.agg #[Value.bool nb, Value.slice ub lub cub, Value.slice lb llb clb]); refine (lower_calls (HB.out.below hbl5)).mono ?_; rintro e w6 ⟨hb6, v6, rfl, hv6⟩; have hbl6 := hbl5.trans (hb6.mono hbl5.size); have hk6 := six_cells (HKA.out.below hbl6 (by simp; omega)) (HKB.out.below hbl6 (by simp)))
      | (go_at_call_of 47 (v6); refine (over_calls hv6 (hvg5.below hb6) S2.out GS.out G0.out).mono ?_; rintro e w7 ⟨hb7, vy, rfl, hvy⟩; have hbl7 := hbl6.trans (hb7.mono hbl6.size); have hk7 := six_cells (HKA.out.below hbl7 (by simp; omega)) (HKB.out.below hbl7 (by simp)))
      )
  have hvg7 := (hvg5.below hb6).below hb7
  have hvx7 := (hvx.below hb6).below hb7
  clear hvg hvg5 hvx hc4 z0 z1 z2 z3 z4 z5 hk4 hk5 hk6 hv4 hv6 hb4 hb5 hb6 hb7 hbl4 hbl5 hbl6 hbl3
  obtain ⟨z0, z1, z2, z3, z4, z5⟩ := hk7
  go_wp2_with fail
  go_region_held3 (fun w' => w'.cell? ⟨w.heap.size, 0, none⟩ = some (.bool na) ∧ w'.cell? ⟨w.heap.size, 1, none⟩ = some (.slice ua lua cua) ∧ w'.cell? ⟨w.heap.size, 2, none⟩ = some (.slice la lla cla) ∧ w'.cell? ⟨w.heap.size + 1, 0, none⟩ = some (.bool nb) ∧ w'.cell? ⟨w.heap.size + 1, 1, none⟩ = some (.slice ub lub cub) ∧ w'.cell? ⟨w.heap.size + 1, 2, none⟩ = some (.slice lb llb clb)) (first | go_keep | exact hk8 | exact hk9 | exact hkA)
    (first
      | (go_at_call_of 46 (vy); refine (multiply_calls (w := w7.drew) (HUA.out.below (Below.drew hbl7)) (hvy.below (Below.drew (Below.refl _ _))) S5.out SBL.out).mono ?_; rintro e w8 ⟨hb8, v8, rfl, hv8⟩; have hc8 : Below w7.heap.size w7 w8 := (Below.drew (Below.refl _ w7)).trans hb8; have hbl8 := hbl7.trans (hc8.mono hbl7.size); have hk8 := six_cells (HKA.out.below hbl8 (by simp; omega)) (HKB.out.below hbl8 (by simp)))
      | (go_at_call_of 46 (vx); refine (multiply_calls (HUB.out.below hbl8) (hvx7.below hc8) S6.out SAL.out).mono ?_; rintro e w9 ⟨hb9, v9, rfl, hv9⟩; have hbl9 := hbl8.trans (hb9.mono hbl8.size); have hk9 := six_cells (HKA.out.below hbl9 (by simp; omega)) (HKB.out.below hbl9 (by simp)))
      | (go_at_call 60; refine (addSigned_calls (hv8.below hb9) hv9 S3.out S4.out).mono ?_; rintro e wA ⟨hbA, neg, vn, n, rfl, hvn, hsum⟩; have hblA := hbl9.trans (hbA.mono hbl9.size); have hkA := six_cells (HKA.out.below hblA (by simp; omega)) (HKB.out.below hblA (by simp)))
      )
  have hvgA := ((hvg7.below hc8).below hb9).below hbA
  have hvxA := ((hvx7.below hc8).below hb9).below hbA
  have HSUM : Hid (sg neg n = a.num * (b.den / Nat.gcd a.den b.den : Nat) + b.num * (a.den / Nat.gcd a.den b.den : Nat)) := by
    show sg neg n = _
    rw [hsum, sg_mul, sg_mul, EA.out, EB.out, sg_num, sg_num]
  have SN : Hid (Small n) := S7.out n (by
    have h1 := congrArg Int.natAbs hsum
    rw [sg_abs] at h1
    have h2 := Int.natAbs_add_le (sg na (a.num.natAbs * (b.den / Nat.gcd a.den b.den))) (sg nb (b.num.natAbs * (a.den / Nat.gcd a.den b.den)))
    rw [sg_abs, sg_abs] at h2
    omega)
  clear hvg7 hvx7 hc8 z0 z1 z2 z3 z4 z5 hk8 hk9 hv8 hv9 hb8 hb9 hbA hbl7 hbl8 hbl9 hsum hvy
  go_wp2_with fail
  refine (gcd_walk hvn hvgA SN.out GS.out).mono ?_
  rintro e wB ⟨hbB, vh, rfl, hvh⟩
  have hblB := hblA.trans (hbB.mono hblA.size)
  have hkB := six_cells (HKA.out.below hblB (by simp; omega)) (HKB.out.below hblB (by simp))
  have hvnB := hvn.below hbB
  have hvxB := hvxA.below hbB
  clear hvn hvgA hvxA hbB hkA
  have H0 : Hid (0 < Nat.gcd n (Nat.gcd a.den b.den)) := Nat.gcd_pos_of_pos_right _ G0.out
  have HS : Hid (Small (Nat.gcd n (Nat.gcd a.den b.den))) := small_le GS.out (Nat.le_of_dvd G0.out (Nat.gcd_dvd_right _ _))
  obtain ⟨hl, hcop, hfin⟩ := plus_fr a b HSUM.out
  have HFIN := hideIt hfin
  clear hfin
  obtain ⟨z0, z1, z2, z3, z4, z5⟩ := hkB
  have SBH : Hid (Small (b.den / Nat.gcd n (Nat.gcd a.den b.den))) := small_le S2.out (Nat.div_le_self _ _)
  go_wp2_with fail
  go_region_held3 (fun w' => w'.cell? ⟨w.heap.size + 1, 0, none⟩ = some (.bool nb) ∧ w'.cell? ⟨w.heap.size + 1, 1, none⟩ = some (.slice ub lub cub) ∧ w'.cell? ⟨w.heap.size + 1, 2, none⟩ = some (.slice lb llb clb)) (first | go_keep | exact hkC.2.2.2 | exact hkD.2.2.2 | exact hkE.2.2.2 | exact hkF.2.2.2 | exact hkG.2.2.2)
    (first
      | (go_at_call_of 47 (vn); refine (over_calls (w := wB.drew) (hvnB.below (Below.drew (Below.refl _ _))) (hvh.below (Below.drew (Below.refl _ _))) SN.out HS.out H0.out).mono ?_; rintro e wC ⟨hbC, vC, rfl, hvC⟩; have hcC : Below wB.heap.size wB wC := (Below.drew (Below.refl _ wB)).trans hbC; have hblC := hblB.trans (hcC.mono hblB.size); have hkC := six_cells (HKA.out.below hblC (by simp; omega)) (HKB.out.below hblC (by simp)))
      | (go_at_call_of 44 (Value.agg #[Value.bool nb, Value.slice ub lub cub, Value.slice lb llb clb]); refine (lower_calls (HB.out.below hblC)).mono ?_; rintro e wD ⟨hbD, vD, rfl, hvD⟩; have hblD := hblC.trans (hbD.mono hblC.size); have hkD := six_cells (HKA.out.below hblD (by simp; omega)) (HKB.out.below hblD (by simp)); have hvhD := (hvh.below hcC).below hbD)
      | (go_at_call_of 47 (vD); refine (over_calls hvD hvhD S2.out HS.out H0.out).mono ?_; rintro e wE ⟨hbE, vE, rfl, hvE⟩; have hblE := hblD.trans (hbE.mono hblD.size); have hkE := six_cells (HKA.out.below hblE (by simp; omega)) (HKB.out.below hblE (by simp)); have hvxE := ((hvxB.below hcC).below hbD).below hbE)
      | (go_at_call 46; refine (multiply_calls hvxE hvE SAL.out SBH.out).mono ?_; rintro e wF ⟨hbF, vF, rfl, hvF⟩; have hblF := hblE.trans (hbF.mono hblE.size); have hkF := six_cells (HKA.out.below hblF (by simp; omega)) (HKB.out.below hblF (by simp)); have hvCF := ((hvC.below hbD).below hbE).below hbF)
      | (go_at_call 43; refine (ready_calls hvCF hvF hl hcop).mono ?_; rintro e wG ⟨hbG, vG, rfl, hvG⟩; have hblG := hblF.trans (hbG.mono hblF.size); have hkG := six_cells (HKA.out.below hblG (by simp; omega)) (HKB.out.below hblG (by simp)); rw [HFIN.out] at hvG; have HQ := hideIt hvG; obtain ⟨vu', vl', rfl, hn1, hn2⟩ := hvG; obtain ⟨ao3, len3, cap3, rfl, _, _, _⟩ := len_big hn1; obtain ⟨ao4, len4, cap4, rfl, _, _, _⟩ := len_big hn2; have hkr := HKR.out.below hblG (by simp); obtain ⟨r0, r1, r2, f0, f1, f2⟩ := hkr.three)
      )
  all_goals
    go_wp2
    obtain ⟨k0, k1, k2, hlow⟩ := hkr.three_set (.bool (decide ((a + b).num < 0))) (.slice ao3 len3 cap3) (.slice ao4 len4 cap4)
    exact bodyPost_ret (v := .agg #[.bool (decide ((a + b).num < 0)), .slice ao3 len3 cap3, .slice ao4 len4 cap4]) (by simp [results, Tryz.results42, go_sem, k0, k1, k2]) rfl ⟨hlow _ _ (HB0.out.trans (hblG.mono HB0.out.size)) (by omega), _, rfl, HQ.out.three hkr⟩

/-- Plus: a + b. -/
theorem plus_calls {w : World} {va vb : Value} {a b : Rat} {k l : Nat} (ha : QV w va a) (hb : QV w vb b) (fa : QS k a) (fb : QS l b) (hk : k + l + 1 ≤ 35184372088640) :
    Calls Tryz.prog 42 #[va, vb] w fun e w' => Below w.heap.size w w' ∧ ∃ v, e = .returned v ∧ QV w' v (a + b) := by
  have ha' := ha
  have hb' := hb
  obtain ⟨ua, la, rfl, h1, h2⟩ := ha
  obtain ⟨ub, lb, rfl, h3, h4⟩ := hb
  obtain ⟨a1, n1, c1, rfl, _, _, _⟩ := len_big h1
  obtain ⟨a2, n2, c2, rfl, _, _, _⟩ := len_big h2
  obtain ⟨a3, n3, c3, rfl, _, _, _⟩ := len_big h3
  obtain ⟨a4, n4, c4, rfl, _, _, _⟩ := len_big h4
  have m1 : a.num.natAbs * (b.den / Nat.gcd a.den b.den) < 2 ^ (k + l) := by
    rw [Nat.pow_add]
    exact Nat.lt_of_le_of_lt (Nat.mul_le_mul_left _ (Nat.div_le_self _ _)) (mul_lt_two fa.num fb.den)
  have m2 : b.num.natAbs * (a.den / Nat.gcd a.den b.den) < 2 ^ (k + l) := by
    rw [Nat.pow_add, Nat.mul_comm (2 ^ k)]
    exact Nat.lt_of_le_of_lt (Nat.mul_le_mul_left _ (Nat.div_le_self _ _)) (mul_lt_two fb.num fa.den)
  refine plus_walk ha' hb' rfl rfl h1 h3 (small_two fa.den (by omega)) (small_two fb.den (by omega)) (small_two m1 (by omega)) (small_two m2 (by omega)) (small_two fa.num (by omega)) (small_two fb.num (by omega)) ?_
  intro n hn
  refine small_two (k := k + l + 1) ?_ hk
  rw [Nat.pow_succ]
  omega
end Go.Proofs.YtllmfakelodpiaaGreatDoor
/- Walks of package num: fractions: Negative, Minus, Times, Over. -/
namespace Go.Proofs.YtllmfakelodpiaaGreatDoor
open Go.RowKit Cx

attribute [local go_sem ↓] Go.wp_at_zero Go.wp_at_succ

theorem neg_fr (q : Rat) : ∃ hl hc, fr (!(decide (q.num < 0))) q.num.natAbs q.den hl hc = -q := by
  refine ⟨q.den_nz, q.reduced, ?_⟩
  have e : -q = mkRat (-q.num) q.den := by
    have := Rat.neg_mkRat q.num q.den
    rw [Rat.mkRat_self] at this
    exact this
  rw [e]
  apply fr_eq q.den_nz
  congr 1
  unfold sg
  by_cases h : q.num < 0
  · simp [h]; omega
  · simp [h]; omega

theorem inv_fr (q : Rat) (h : q.num ≠ 0) : ∃ hl hc, fr (decide (q.num < 0)) q.den q.num.natAbs hl hc = q⁻¹ := by
  have hn : q.num.natAbs ≠ 0 := by omega
  refine ⟨hn, Nat.Coprime.symm q.reduced, ?_⟩
  have e1 : fr (decide (q.num < 0)) q.den q.num.natAbs hn (Nat.Coprime.symm q.reduced) = mkRat (sg (decide (q.num < 0)) q.den) q.num.natAbs := fr_eq hn rfl
  rw [e1]
  have hq : q = mkRat q.num q.den := (Rat.mkRat_self q).symm
  have hm : q * mkRat (sg (decide (q.num < 0)) q.den) q.num.natAbs = 1 := by
    conv => lhs; arg 1; rw [hq]
    rw [Rat.mkRat_mul_mkRat]
    have e2 : (1 : Rat) = mkRat 1 1 := by rfl
    rw [e2, Rat.mkRat_eq_iff (Nat.mul_ne_zero q.den_nz hn) (by omega)]
    have e3 : q.num * sg (decide (q.num < 0)) q.den = ((q.den * q.num.natAbs : Nat) : Int) := by
      rw [Int.natCast_mul]
      unfold sg
      by_cases hs : q.num < 0
      · simp only [hs, decide_true, if_true]
        have : (q.num.natAbs : Int) = -q.num := by omega
        rw [this, Int.mul_neg, Int.mul_neg, Int.mul_comm]
      · simp only [hs, decide_false]
        have : (q.num.natAbs : Int) = q.num := by omega
        rw [this, Int.mul_comm]
        rfl
    rw [e3]
    simp
  have hq0 : q ≠ 0 := by
    intro e
    rw [e] at h
    exact h rfl
  generalize mkRat (sg (decide (q.num < 0)) q.den) q.num.natAbs = x at *
  grind

theorem Blk.cells3 {w : World} {g t : Nat} {a b c : Value} (h : Blk w g #[a, b, c] t) : w.cell? ⟨g, 0, none⟩ = some a ∧ w.cell? ⟨g, 1, none⟩ = some b ∧ w.cell? ⟨g, 2, none⟩ = some c := ⟨h.cell 0, h.cell 1, h.cell 2⟩

theorem Blk.other {w : World} {g g' t : Nat} {cs : Array Value} (h : Blk w g cs t) (hne : g' ≠ g) (j : Nat) (v : Value) : Blk (w.setCell ⟨g', j, none⟩ v) g cs t := by
  unfold Blk at h ⊢
  rw [Below.heap_setCell _ _ _ _ (by exact fun e => hne e.symm), h]

theorem Blk.other3 {w : World} {g g' t : Nat} {cs : Array Value} (h : Blk w g cs t) (hne : g' ≠ g) (x y z : Value) : Blk (((w.setCell ⟨g', 0, none⟩ x).setCell ⟨g', 1, none⟩ y).setCell ⟨g', 2, none⟩ z) g cs t :=
  ((h.other hne _ _).other hne _ _).other hne _ _

set_option maxHeartbeats 4000000 in
set_option maxRecDepth 100000 in
theorem negative_walk {w : World} {na : Bool} {ua la : Option Addr} {lua cua lla cla : Nat} {a : Rat}
    (ha : QV w (.agg #[.bool na, .slice ua lua cua, .slice la lla cla]) a) (ea : na = decide (a.num < 0)) (hua : NatN w (.slice ua lua cua) a.num.natAbs) :
    Calls Tryz.prog 26 #[.agg #[.bool na, .slice ua lua cua, .slice la lla cla]] w fun e w' => Below w.heap.size w w' ∧ ∃ v, e = .returned v ∧ QV w' v (-a) := by
  have HB0 : Hid (Below w.heap.size w ((w.alloc (.cells #[.bool na, .slice ua lua cua, .slice la lla cla] 39)).alloc (.cells #[.bool false, .slice none 0 0, .slice none 0 0] 39))) := (below_new w _).alloc (by simp) _
  have HKA : Hid (Blk ((w.alloc (.cells #[.bool na, .slice ua lua cua, .slice la lla cla] 39)).alloc (.cells #[.bool false, .slice none 0 0, .slice none 0 0] 39)) w.heap.size #[.bool na, .slice ua lua cua, .slice la lla cla] 39) := (Blk.new w _ _).below (below_new _ _) (by simp)
  have HKR : Hid (Blk ((w.alloc (.cells #[.bool na, .slice ua lua cua, .slice la lla cla] 39)).alloc (.cells #[.bool false, .slice none 0 0, .slice none 0 0] 39)) (w.heap.size + 1) #[.bool false, .slice none 0 0, .slice none 0 0] 39) := by
    have := Blk.new (w.alloc (.cells #[.bool na, .slice ua lua cua, .slice la lla cla] 39)) #[.bool false, .slice none 0 0, .slice none 0 0] 39
    exact hideIt (by simpa using this)
  have HA := hideIt (ha.below HB0.out)
  have HUA := hideIt (hua.below HB0.out)
  have EA := hideIt ea
  clear ha hua ea
  obtain ⟨hl, hcop, hfin⟩ := neg_fr a
  rw [← EA.out] at hfin
  have HFIN := hideIt hfin
  clear hfin
  go_enter Tryz.func26, Tryz.ntmps26
  go_wp2_with fail
  obtain ⟨z0, z1, z2, _, _, _⟩ := HKA.out.three
  go_region_held3 (fun w' => w'.cell? ⟨w.heap.size, 0, none⟩ = some (.bool na) ∧ w'.cell? ⟨w.heap.size, 1, none⟩ = some (.slice ua lua cua) ∧ w'.cell? ⟨w.heap.size, 2, none⟩ = some (.slice la lla cla)) (first | go_keep | exact hk1 | exact hk2 | exact hk3)
    (first
      | (go_at_call 44; refine (lower_calls (w := ((w.alloc (.cells #[.bool na, .slice ua lua cua, .slice la lla cla] 39)).alloc (.cells #[.bool false, .slice none 0 0, .slice none 0 0] 39)).drew) (HA.out.below (Below.drew (Below.refl _ _)))).mono ?_; rintro e w1 ⟨hb1, v1, rfl, hv1⟩; have hbl1 : Below ((w.alloc (.cells #[.bool na, .slice ua lua cua, .slice la lla cla] 39)).alloc (.cells #[.bool false, .slice none 0 0, .slice none 0 0] 39)).heap.size ((w.alloc (.cells #[.bool na, .slice ua lua cua, .slice la lla cla] 39)).alloc (.cells #[.bool false, .slice none 0 0, .slice none 0 0] 39)) w1 := (Below.drew (Below.refl _ ((w.alloc (.cells #[.bool na, .slice ua lua cua, .slice la lla cla] 39)).alloc (.cells #[.bool false, .slice none 0 0, .slice none 0 0] 39)))).trans hb1; have hk1 := (HKA.out.below hbl1 (by simp; omega)).cells3)
      | (go_at_call 43; refine (ready_calls (HUA.out.below hbl1) hv1 hl hcop).mono ?_; rintro e w2 ⟨hb2, v2, rfl, hv2⟩; have hbl2 := hbl1.trans (hb2.mono hbl1.size); have hk2 := (HKA.out.below hbl2 (by simp; omega)).cells3; rw [HFIN.out] at hv2; obtain ⟨rr, hrr⟩ : ∃ rr : Rat, rr = -a := ⟨_, rfl⟩; rw [← hrr] at hv2; have HRR := hideIt hrr; clear hrr; have HQ := hideIt hv2; obtain ⟨vu', vl', rfl, hn1, hn2⟩ := hv2; obtain ⟨ao3, len3, cap3, rfl, _, _, _⟩ := len_big hn1; obtain ⟨ao4, len4, cap4, rfl, _, _, _⟩ := len_big hn2; have hkr := HKR.out.below hbl2 (by simp); obtain ⟨r0, r1, r2, f0, f1, f2⟩ := hkr.three; have hk3 := ((HKA.out.below hbl2 (by simp; omega)).other3 (g' := w.heap.size + 1) (by omega) (.bool (decide (rr.num < 0))) (.slice ao3 len3 cap3) (.slice ao4 len4 cap4)).cells3)
      )
  all_goals
    go_wp2
    obtain ⟨k0, k1, k2, hlow⟩ := hkr.three_set (.bool (decide (rr.num < 0))) (.slice ao3 len3 cap3) (.slice ao4 len4 cap4)
    exact bodyPost_ret (v := .agg #[.bool (decide (rr.num < 0)), .slice ao3 len3 cap3, .slice ao4 len4 cap4]) (by simp [results, Tryz.results26, go_sem, k0, k1, k2]) rfl ⟨hlow _ _ (HB0.out.trans (hbl2.mono HB0.out.size)) (by omega), _, rfl, by rw [← HRR.out]; exact HQ.out.three hkr⟩

/-- Negative: - a. -/
theorem negative_calls {w : World} {va : Value} {a : Rat} (ha : QV w va a) :
    Calls Tryz.prog 26 #[va] w fun e w' => Below w.heap.size w w' ∧ ∃ v, e = .returned v ∧ QV w' v (-a) := by
  have ha' := ha
  obtain ⟨ua, la, rfl, h1, h2⟩ := ha
  obtain ⟨a1, n1, c1, rfl, _, _, _⟩ := len_big h1
  obtain ⟨a2, n2, c2, rfl, _, _, _⟩ := len_big h2
  exact negative_walk ha' rfl h1

set_option maxHeartbeats 4000000 in
set_option maxRecDepth 100000 in
theorem minus_walk {w : World} {na nb : Bool} {ua la ub lb : Option Addr} {lua cua lla cla lub cub llb clb : Nat} {a b : Rat}
    (ha : QV w (.agg #[.bool na, .slice ua lua cua, .slice la lla cla]) a) (hb : QV w (.agg #[.bool nb, .slice ub lub cub, .slice lb llb clb]) b) {k l : Nat} (fa : QS k a) (fb : QS l (-b)) (hk : k + l + 1 ≤ 35184372088640) :
    Calls Tryz.prog 25 #[.agg #[.bool na, .slice ua lua cua, .slice la lla cla], .agg #[.bool nb, .slice ub lub cub, .slice lb llb clb]] w fun e w' => Below w.heap.size w w' ∧ ∃ v, e = .returned v ∧ QV w' v (a + -b) := by
  have HB0 : Hid (Below w.heap.size w (((w.alloc (.cells #[.bool na, .slice ua lua cua, .slice la lla cla] 39)).alloc (.cells #[.bool nb, .slice ub lub cub, .slice lb llb clb] 39)).alloc (.cells #[.bool false, .slice none 0 0, .slice none 0 0] 39))) := ((below_new w _).alloc (by simp) _).alloc (by simp; omega) _
  have HKA : Hid (Blk (((w.alloc (.cells #[.bool na, .slice ua lua cua, .slice la lla cla] 39)).alloc (.cells #[.bool nb, .slice ub lub cub, .slice lb llb clb] 39)).alloc (.cells #[.bool false, .slice none 0 0, .slice none 0 0] 39)) w.heap.size #[.bool na, .slice ua lua cua, .slice la lla cla] 39) := (((Blk.new w _ _).below (below_new _ _) (by simp)).below (below_new _ _) (by simp; omega))
  have HKB : Hid (Blk (((w.alloc (.cells #[.bool na, .slice ua lua cua, .slice la lla cla] 39)).alloc (.cells #[.bool nb, .slice ub lub cub, .slice lb llb clb] 39)).alloc (.cells #[.bool false, .slice none 0 0, .slice none 0 0] 39)) (w.heap.size + 1) #[.bool nb, .slice ub lub cub, .slice lb llb clb] 39) := by
    have := (Blk.new (w.alloc (.cells #[.bool na, .slice ua lua cua, .slice la lla cla] 39)) #[.bool nb, .slice ub lub cub, .slice lb llb clb] 39).below (below_new _ (.cells #[.bool false, .slice none 0 0, .slice none 0 0] 39)) (by simp)
    exact hideIt (by simpa using this)
  have HKR : Hid (Blk (((w.alloc (.cells #[.bool na, .slice ua lua cua, .slice la lla cla] 39)).alloc (.cells #[.bool nb, .slice ub lub cub, .slice lb llb clb] 39)).alloc (.cells #[.bool false, .slice none 0 0, .slice none 0 0] 39)) (w.heap.size + 1 + 1) #[.bool false, .slice none 0 0, .slice none 0 0] 39) := by
    have := Blk.new ((w.alloc (.cells #[.bool na, .slice ua lua cua, .slice la lla cla] 39)).alloc (.cells #[.bool nb, .slice ub lub cub, .slice lb llb clb] 39)) #[.bool false, .slice none 0 0, .slice none 0 0] 39
    exact hideIt (by simpa using this)
  have HA := hideIt (ha.below HB0.out)
  have HB := hideIt (hb.below HB0.out)
  clear ha hb
  have FA := hideIt fa
  have FB := hideIt fb
  have HK := hideIt hk
  clear fa fb hk
  go_enter Tryz.func25, Tryz.ntmps25
  go_wp2_with fail
  obtain ⟨z0, z1, z2, z3, z4, z5⟩ := six_cells HKA.out HKB.out
  go_region_held3 (fun w' => w'.cell? ⟨w.heap.size, 0, none⟩ = some (.bool na) ∧ w'.cell? ⟨w.heap.size, 1, none⟩ = some (.slice ua lua cua) ∧ w'.cell? ⟨w.heap.size, 2, none⟩ = some (.slice la lla cla) ∧ w'.cell? ⟨w.heap.size + 1, 0, none⟩ = some (.bool nb) ∧ w'.cell? ⟨w.heap.size + 1, 1, none⟩ = some (.slice ub lub cub) ∧ w'.cell? ⟨w.heap.size + 1, 2, none⟩ = some (.slice lb llb clb)) (first | go_keep | exact hk1 | exact hk2 | exact hkS)
    (first
      | (go_at_call 26; refine (negative_calls (w := (((w.alloc (.cells #[.bool na, .slice ua lua cua, .slice la lla cla] 39)).alloc (.cells #[.bool nb, .slice ub lub cub, .slice lb llb clb] 39)).alloc (.cells #[.bool false, .slice none 0 0, .slice none 0 0] 39)).drew) (HB.out.below (Below.drew (Below.refl _ _)))).mono ?_; rintro e w1 ⟨hb1, v1, rfl, hv1⟩; have hbl1 : Below (((w.alloc (.cells #[.bool na, .slice ua lua cua, .slice la lla cla] 39)).alloc (.cells #[.bool nb, .slice ub lub cub, .slice lb llb clb] 39)).alloc (.cells #[.bool false, .slice none 0 0, .slice none 0 0] 39)).heap.size (((w.alloc (.cells #[.bool na, .slice ua lua cua, .slice la lla cla] 39)).alloc (.cells #[.bool nb, .slice ub lub cub, .slice lb llb clb] 39)).alloc (.cells #[.bool false, .slice none 0 0, .slice none 0 0] 39)) w1 := (Below.drew (Below.refl _ (((w.alloc (.cells #[.bool na, .slice ua lua cua, .slice la lla cla] 39)).alloc (.cells #[.bool nb, .slice ub lub cub, .slice lb llb clb] 39)).alloc (.cells #[.bool false, .slice none 0 0, .slice none 0 0] 39)))).trans hb1; have hk1 := six_cells (HKA.out.below hbl1 (by simp; omega)) (HKB.out.below hbl1 (by simp)))
      | (go_at_call 42; refine (plus_calls (HA.out.below hbl1) hv1 FA.out FB.out HK.out).mono ?_; rintro e w2 ⟨hb2, v2, rfl, hv2⟩; have hbl2 := hbl1.trans (hb2.mono hbl1.size); have hk2 := six_cells (HKA.out.below hbl2 (by simp; omega)) (HKB.out.below hbl2 (by simp)); obtain ⟨rr, hrr⟩ : ∃ rr : Rat, rr = a + -b := ⟨_, rfl⟩; rw [← hrr] at hv2; have HRR := hideIt hrr; clear hrr; have HQ := hideIt hv2; obtain ⟨vu', vl', rfl, hn1, hn2⟩ := hv2; obtain ⟨ao3, len3, cap3, rfl, _, _, _⟩ := len_big hn1; obtain ⟨ao4, len4, cap4, rfl, _, _, _⟩ := len_big hn2; have hkr := HKR.out.below hbl2 (by simp); obtain ⟨r0, r1, r2, f0, f1, f2⟩ := hkr.three; have hkS := six_cells ((HKA.out.below hbl2 (by simp; omega)).other3 (g' := w.heap.size + 1 + 1) (by omega) (.bool (decide (rr.num < 0))) (.slice ao3 len3 cap3) (.slice ao4 len4 cap4)) ((HKB.out.below hbl2 (by simp)).other3 (g' := w.heap.size + 1 + 1) (by omega) (.bool (decide (rr.num < 0))) (.slice ao3 len3 cap3) (.slice ao4 len4 cap4)))
      )
  all_goals
    go_wp2
    obtain ⟨k0, k1, k2, hlow⟩ := hkr.three_set (.bool (decide (rr.num < 0))) (.slice ao3 len3 cap3) (.slice ao4 len4 cap4)
    exact bodyPost_ret (v := .agg #[.bool (decide (rr.num < 0)), .slice ao3 len3 cap3, .slice ao4 len4 cap4]) (by simp [results, Tryz.results25, go_sem, k0, k1, k2]) rfl ⟨hlow _ _ (HB0.out.trans (hbl2.mono HB0.out.size)) (by omega), _, rfl, by rw [← HRR.out]; exact HQ.out.three hkr⟩

theorem QS.neg {k : Nat} {q : Rat} (h : QS k q) : QS k (-q) := ⟨by show (-q.num).natAbs < 2 ^ k; rw [Int.natAbs_neg]; exact h.num, h.den⟩

/-- Minus: a - b. -/
theorem minus_calls {w : World} {va vb : Value} {a b : Rat} {k l : Nat} (ha : QV w va a) (hb : QV w vb b) (fa : QS k a) (fb : QS l b) (hk : k + l + 1 ≤ 35184372088640) :
    Calls Tryz.prog 25 #[va, vb] w fun e w' => Below w.heap.size w w' ∧ ∃ v, e = .returned v ∧ QV w' v (a - b) := by
  have ha' := ha
  have hb' := hb
  obtain ⟨ua, la, rfl, h1, h2⟩ := ha
  obtain ⟨ub, lb, rfl, h3, h4⟩ := hb
  obtain ⟨a1, n1, c1, rfl, _, _, _⟩ := len_big h1
  obtain ⟨a2, n2, c2, rfl, _, _, _⟩ := len_big h2
  obtain ⟨a3, n3, c3, rfl, _, _, _⟩ := len_big h3
  obtain ⟨a4, n4, c4, rfl, _, _, _⟩ := len_big h4
  rw [Rat.sub_eq_add_neg]
  exact minus_walk ha' hb' fa fb.neg hk

set_option maxHeartbeats 8000000 in
set_option maxRecDepth 100000 in
theorem times_walk {w : World} {na nb : Bool} {ua la ub lb : Option Addr} {lua cua lla cla lub cub llb clb : Nat} {a b : Rat}
    (ha : QV w (.agg #[.bool na, .slice ua lua cua, .slice la lla cla]) a) (hb : QV w (.agg #[.bool nb, .slice ub lub cub, .slice lb llb clb]) b) (ea : na = decide (a.num < 0)) (eb : nb = decide (b.num < 0)) (hua : NatN w (.slice ua lua cua) a.num.natAbs) (hub : NatN w (.slice ub lub cub) b.num.natAbs)
    (s1 : Small a.den) (s2 : Small b.den) (s5 : Small a.num.natAbs) (s6 : Small b.num.natAbs) :
    Calls Tryz.prog 28 #[.agg #[.bool na, .slice ua lua cua, .slice la lla cla], .agg #[.bool nb, .slice ub lub cub, .slice lb llb clb]] w fun e w' => Below w.heap.size w w' ∧ ∃ v, e = .returned v ∧ QV w' v (a * b) := by
  have HB0 : Hid (Below w.heap.size w (((w.alloc (.cells #[.bool na, .slice ua lua cua, .slice la lla cla] 39)).alloc (.cells #[.bool nb, .slice ub lub cub, .slice lb llb clb] 39)).alloc (.cells #[.bool false, .slice none 0 0, .slice none 0 0] 39))) := ((below_new w _).alloc (by simp) _).alloc (by simp; omega) _
  have HKA : Hid (Blk (((w.alloc (.cells #[.bool na, .slice ua lua cua, .slice la lla cla] 39)).alloc (.cells #[.bool nb, .slice ub lub cub, .slice lb llb clb] 39)).alloc (.cells #[.bool false, .slice none 0 0, .slice none 0 0] 39)) w.heap.size #[.bool na, .slice ua lua cua, .slice la lla cla] 39) := (((Blk.new w _ _).below (below_new _ _) (by simp)).below (below_new _ _) (by simp; omega))
  have HKB : Hid (Blk (((w.alloc (.cells #[.bool na, .slice ua lua cua, .slice la lla cla] 39)).alloc (.cells #[.bool nb, .slice ub lub cub, .slice lb llb clb] 39)).alloc (.cells #[.bool false, .slice none 0 0, .slice none 0 0] 39)) (w.heap.size + 1) #[.bool nb, .slice ub lub cub, .slice lb llb clb] 39) := by
    have := (Blk.new (w.alloc (.cells #[.bool na, .slice ua lua cua, .slice la lla cla] 39)) #[.bool nb, .slice ub lub cub, .slice lb llb clb] 39).below (below_new _ (.cells #[.bool false, .slice none 0 0, .slice none 0 0] 39)) (by simp)
    exact hideIt (by simpa using this)
  have HKR : Hid (Blk (((w.alloc (.cells #[.bool na, .slice ua lua cua, .slice la lla cla] 39)).alloc (.cells #[.bool nb, .slice ub lub cub, .slice lb llb clb] 39)).alloc (.cells #[.bool false, .slice none 0 0, .slice none 0 0] 39)) (w.heap.size + 1 + 1) #[.bool false, .slice none 0 0, .slice none 0 0] 39) := by
    have := Blk.new ((w.alloc (.cells #[.bool na, .slice ua lua cua, .slice la lla cla] 39)).alloc (.cells #[.bool nb, .slice ub lub cub, .slice lb llb clb] 39)) #[.bool false, .slice none 0 0, .slice none 0 0] 39
    exact hideIt (by simpa using this)
  have HA := hideIt (ha.below HB0.out)
  have HB := hideIt (hb.below HB0.out)
  clear ha hb
  have HUA := hideIt (hua.below HB0.out)
  have HUB := hideIt (hub.below HB0.out)
  have S1 := hideIt s1
  have S2 := hideIt s2
  have S5 := hideIt s5
  have S6 := hideIt s6
  have EA := hideIt ea
  have EB := hideIt eb
  clear hua hub s1 s2 s5 s6 ea eb
  have G0 : Hid (0 < Nat.gcd a.num.natAbs b.den) := Nat.gcd_pos_of_pos_right _ (Nat.pos_of_ne_zero b.den_nz)
  have H0 : Hid (0 < Nat.gcd b.num.natAbs a.den) := Nat.gcd_pos_of_pos_right _ (Nat.pos_of_ne_zero a.den_nz)
  have GS : Hid (Small (Nat.gcd a.num.natAbs b.den)) := small_le S2.out (Nat.le_of_dvd (Nat.pos_of_ne_zero b.den_nz) (Nat.gcd_dvd_right _ _))
  have HS : Hid (Small (Nat.gcd b.num.natAbs a.den)) := small_le S1.out (Nat.le_of_dvd (Nat.pos_of_ne_zero a.den_nz) (Nat.gcd_dvd_right _ _))
  obtain ⟨hl, hcop, hfin⟩ := times_fr a b
  rw [← EA.out, ← EB.out] at hfin
  change fr (!(na == nb)) _ _ _ _ = _ at hfin
  have HFIN := hideIt hfin
  clear hfin
  go_enter Tryz.func28, Tryz.ntmps28
  go_wp2_with fail
  obtain ⟨z0, z1, z2, z3, z4, z5⟩ := six_cells HKA.out HKB.out
  go_region_held3 (fun w' => w'.cell? ⟨w.heap.size, 0, none⟩ = some (.bool na) ∧ w'.cell? ⟨w.heap.size, 1, none⟩ = some (.slice ua lua cua) ∧ w'.cell? ⟨w.heap.size, 2, none⟩ = some (.slice la lla cla) ∧ w'.cell? ⟨w.heap.size + 1, 0, none⟩ = some (.bool nb) ∧ w'.cell? ⟨w.heap.size + 1, 1, none⟩ = some (.slice ub lub cub) ∧ w'.cell? ⟨w.heap.size + 1, 2, none⟩ = some (.slice lb llb clb)) (first | go_keep | exact hk1 | exact hk2 | exact hk3 | exact hk4)
    (first
      | (go_at_call_of 44 (Value.agg #[Value.bool nb, Value.slice ub lub cub, Value.slice lb llb clb]); refine (lower_calls (w := (((w.alloc (.cells #[.bool na, .slice ua lua cua, .slice la lla cla] 39)).alloc (.cells #[.bool nb, .slice ub lub cub, .slice lb llb clb] 39)).alloc (.cells #[.bool false, .slice none 0 0, .slice none 0 0] 39)).drew) (HB.out.below (Below.drew (Below.refl _ _)))).mono ?_; rintro e w1 ⟨hb1, v1, rfl, hv1⟩; have hbl1 : Below (((w.alloc (.cells #[.bool na, .slice ua lua cua, .slice la lla cla] 39)).alloc (.cells #[.bool nb, .slice ub lub cub, .slice lb llb clb] 39)).alloc (.cells #[.bool false, .slice none 0 0, .slice none 0 0] 39)).heap.size (((w.alloc (.cells #[.bool na, .slice ua lua cua, .slice la lla cla] 39)).alloc (.cells #[.bool nb, .slice ub lub cub, .slice lb llb clb] 39)).alloc (.cells #[.bool false, .slice none 0 0, .slice none 0 0] 39)) w1 := (Below.drew (Below.refl _ (((w.alloc (.cells #[.bool na, .slice ua lua cua, .slice la lla cla] 39)).alloc (.cells #[.bool nb, .slice ub lub cub, .slice lb llb clb] 39)).alloc (.cells #[.bool false, .slice none 0 0, .slice none 0 0] 39)))).trans hb1; have hk1 := six_cells (HKA.out.below hbl1 (by simp; omega)) (HKB.out.below hbl1 (by simp)))
      | (go_at_call_of 45 (v1); refine (gcd_walk (HUA.out.below hbl1) hv1 S5.out S2.out).mono ?_; rintro e w2 ⟨hb2, vg, rfl, hvg⟩; have hbl2 := hbl1.trans (hb2.mono hbl1.size); have hk2 := six_cells (HKA.out.below hbl2 (by simp; omega)) (HKB.out.below hbl2 (by simp)))
      | (go_at_call_of 44 (Value.agg #[Value.bool na, Value.slice ua lua cua, Value.slice la lla cla]); refine (lower_calls (HA.out.below hbl2)).mono ?_; rintro e w3 ⟨hb3, v3, rfl, hv3⟩; have hbl3 := hbl2.trans (hb3.mono hbl2.size); have hk3 := six_cells (HKA.out.below hbl3 (by simp; omega)) (HKB.out.below hbl3 (by simp)))
      | (go_at_call_of 45 (v3); refine (gcd_walk (HUB.out.below hbl3) hv3 S6.out S1.out).mono ?_; rintro e w4 ⟨hb4, vh, rfl, hvh⟩; have hbl4 := hbl3.trans (hb4.mono hbl3.size); have hk4 := six_cells (HKA.out.below hbl4 (by simp; omega)) (HKB.out.below hbl4 (by simp)))
      )
  have hvg4 := (hvg.below hb3).below hb4
  clear hvg hv1 hv3 hb1 hb2 hb3 hb4 hbl1 hbl2 hbl3 hk1 hk2 hk3 z0 z1 z2 z3 z4 z5
  obtain ⟨z0, z1, z2, z3, z4, z5⟩ := hk4
  go_wp2_with fail
  go_region_held3 (fun w' => w'.cell? ⟨w.heap.size, 0, none⟩ = some (.bool na) ∧ w'.cell? ⟨w.heap.size, 1, none⟩ = some (.slice ua lua cua) ∧ w'.cell? ⟨w.heap.size, 2, none⟩ = some (.slice la lla cla) ∧ w'.cell? ⟨w.heap.size + 1, 0, none⟩ = some (.bool nb) ∧ w'.cell? ⟨w.heap.size + 1, 1, none⟩ = some (.slice ub lub cub) ∧ w'.cell? ⟨w.heap.size + 1, 2, none⟩ = some (.slice lb llb clb)) (first | go_keep | exact hk5 | exact hk6 | exact hk7)
    (first
      | (go_at_call_of 47 (vg); refine (over_calls (w := w4.drew) (HUA.out.below (Below.drew hbl4)) (hvg4.below (Below.drew (Below.refl _ _))) S5.out GS.out G0.out).mono ?_; rintro e w5 ⟨hb5, vx, rfl, hvx⟩; have hc5 : Below w4.heap.size w4 w5 := (Below.drew (Below.refl _ w4)).trans hb5; have hbl5 := hbl4.trans (hc5.mono hbl4.size); have hk5 := six_cells (HKA.out.below hbl5 (by simp; omega)) (HKB.out.below hbl5 (by simp)))
      | (go_at_call_of 47 (vh); refine (over_calls (HUB.out.below hbl5) (hvh.below hc5) S6.out HS.out H0.out).mono ?_; rintro e w6 ⟨hb6, vz, rfl, hvz⟩; have hbl6 := hbl5.trans (hb6.mono hbl5.size); have hk6 := six_cells (HKA.out.below hbl6 (by simp; omega)) (HKB.out.below hbl6 (by simp)))
      | (go_at_call 46; refine (multiply_calls (hvx.below hb6) hvz (small_le S5.out (Nat.div_le_self _ _)) (small_le S6.out (Nat.div_le_self _ _))).mono ?_; rintro e w7 ⟨hb7, vu, rfl, hvu⟩; have hbl7 := hbl6.trans (hb7.mono hbl6.size); have hk7 := six_cells (HKA.out.below hbl7 (by simp; omega)) (HKB.out.below hbl7 (by simp)))
      )
  have hvg7 := ((hvg4.below hc5).below hb6).below hb7
  have hvh7 := ((hvh.below hc5).below hb6).below hb7
  clear hvg4 hvh hvx hvz hb5 hb6 hb7 hc5 hbl4 hbl5 hbl6 hk5 hk6 z0 z1 z2 z3 z4 z5
  obtain ⟨z0, z1, z2, z3, z4, z5⟩ := hk7
  go_wp2_with fail
  go_region_held3 (fun w' => w'.cell? ⟨w.heap.size, 0, none⟩ = some (.bool na) ∧ w'.cell? ⟨w.heap.size, 1, none⟩ = some (.slice ua lua cua) ∧ w'.cell? ⟨w.heap.size, 2, none⟩ = some (.slice la lla cla) ∧ w'.cell? ⟨w.heap.size + 1, 0, none⟩ = some (.bool nb) ∧ w'.cell? ⟨w.heap.size + 1, 1, none⟩ = some (.slice ub lub cub) ∧ w'.cell? ⟨w.heap.size + 1, 2, none⟩ = some (.slice lb llb clb)) (first | go_keep | exact hk8 | exact hk9 | exact hkA | exact hkB | exact hkC)
    (first
      | (go_at_call_of 44 (Value.agg #[Value.bool na, Value.slice ua lua cua, Value.slice la lla cla]); refine (lower_calls (w := w7.drew) (HA.out.below (Below.drew hbl7))).mono ?_; rintro e w8 ⟨hb8, v8, rfl, hv8⟩; have hc8 : Below w7.heap.size w7 w8 := (Below.drew (Below.refl _ w7)).trans hb8; have hbl8 := hbl7.trans (hc8.mono hbl7.size); have hk8 := six_cells (HKA.out.below hbl8 (by simp; omega)) (HKB.out.below hbl8 (by simp)))
      | (go_at_call_of 47 (v8); refine (over_calls hv8 (hvh7.below hc8) S1.out HS.out H0.out).mono ?_; rintro e w9 ⟨hb9, vt, rfl, hvt⟩; have hbl9 := hbl8.trans (hb9.mono hbl8.size); have hk9 := six_cells (HKA.out.below hbl9 (by simp; omega)) (HKB.out.below hbl9 (by simp)))
      | (go_at_call_of 44 (Value.agg #[Value.bool nb, Value.slice ub lub cub, Value.slice lb llb clb]); refine (lower_calls (HB.out.below hbl9)).mono ?_; rintro e wA ⟨hbA, vA, rfl, hvA⟩; have hblA := hbl9.trans (hbA.mono hbl9.size); have hkA := six_cells (HKA.out.below hblA (by simp; omega)) (HKB.out.below hblA (by simp)))
      | (go_at_call_of 47 (vA); refine (over_calls hvA (((hvg7.below hc8).below hb9).below hbA) S2.out GS.out G0.out).mono ?_; rintro e wB ⟨hbB, vy, rfl, hvy⟩; have hblB := hblA.trans (hbB.mono hblA.size); have hkB := six_cells (HKA.out.below hblB (by simp; omega)) (HKB.out.below hblB (by simp)))
      | (go_at_call 46; refine (multiply_calls ((hvt.below hbA).below hbB) hvy (small_le S1.out (Nat.div_le_self _ _)) (small_le S2.out (Nat.div_le_self _ _))).mono ?_; rintro e wC ⟨hbC, vl, rfl, hvl⟩; have hblC := hblB.trans (hbC.mono hblB.size); have hkC := six_cells (HKA.out.below hblC (by simp; omega)) (HKB.out.below hblC (by simp)))
      )
  have hvuC := ((((hvu.below hc8).below hb9).below hbA).below hbB).below hbC
  clear hvg7 hvh7 hvu hvt hvy hv8 hvA hb8 hb9 hbA hbB hbC hc8 hbl7 hbl8 hbl9 hblA hblB hk8 hk9 hkA hkB z0 z1 z2 z3 z4 z5
  obtain ⟨z0, z1, z2, z3, z4, z5⟩ := hkC
  go_wp2_with fail
  refine (ready_calls hvuC hvl hl hcop).mono ?_
  rintro e wD ⟨hbD, vD, rfl, hvD⟩
  have hblD := hblC.trans (hbD.mono hblC.size)
  have hkD := six_cells (HKA.out.below hblD (by simp; omega)) (HKB.out.below hblD (by simp))
  rw [HFIN.out] at hvD
  obtain ⟨rr, hrr⟩ : ∃ rr : Rat, rr = a * b := ⟨_, rfl⟩
  rw [← hrr] at hvD
  have HRR := hideIt hrr
  clear hrr
  have HQ := hideIt hvD
  obtain ⟨vu', vl', rfl, hn1, hn2⟩ := hvD
  obtain ⟨ao3, len3, cap3, rfl, _, _, _⟩ := len_big hn1
  obtain ⟨ao4, len4, cap4, rfl, _, _, _⟩ := len_big hn2
  have hkr := HKR.out.below hblD (by simp)
  obtain ⟨r0, r1, r2, f0, f1, f2⟩ := hkr.three
  go_wp2
  obtain ⟨k0, k1, k2, hlow⟩ := hkr.three_set (.bool (decide (rr.num < 0))) (.slice ao3 len3 cap3) (.slice ao4 len4 cap4)
  exact bodyPost_ret (v := .agg #[.bool (decide (rr.num < 0)), .slice ao3 len3 cap3, .slice ao4 len4 cap4]) (by simp [results, Tryz.results28, go_sem, k0, k1, k2]) rfl ⟨hlow _ _ (HB0.out.trans (hblD.mono HB0.out.size)) (by omega), _, rfl, by rw [← HRR.out]; exact HQ.out.three hkr⟩

/-- Times: a b. -/
theorem times_calls {w : World} {va vb : Value} {a b : Rat} {k l : Nat} (ha : QV w va a) (hb : QV w vb b) (fa : QS k a) (fb : QS l b) (hk : k + l + 1 ≤ 35184372088640) :
    Calls Tryz.prog 28 #[va, vb] w fun e w' => Below w.heap.size w w' ∧ ∃ v, e = .returned v ∧ QV w' v (a * b) := by
  have ha' := ha
  have hb' := hb
  obtain ⟨ua, la, rfl, h1, h2⟩ := ha
  obtain ⟨ub, lb, rfl, h3, h4⟩ := hb
  obtain ⟨a1, n1, c1, rfl, _, _, _⟩ := len_big h1
  obtain ⟨a2, n2, c2, rfl, _, _, _⟩ := len_big h2
  obtain ⟨a3, n3, c3, rfl, _, _, _⟩ := len_big h3
  obtain ⟨a4, n4, c4, rfl, _, _, _⟩ := len_big h4
  exact times_walk ha' hb' rfl rfl h1 h3 (small_two fa.den (by omega)) (small_two fb.den (by omega)) (small_two fa.num (by omega)) (small_two fb.num (by omega))

set_option maxHeartbeats 4000000 in
set_option maxRecDepth 100000 in
theorem overQ_walk {w : World} {na nb : Bool} {ua la ub lb : Option Addr} {lua cua lla cla lub cub llb clb : Nat} {a b : Rat}
    (ha : QV w (.agg #[.bool na, .slice ua lua cua, .slice la lla cla]) a) (hb : QV w (.agg #[.bool nb, .slice ub lub cub, .slice lb llb clb]) b) (eb : nb = decide (b.num < 0)) (hub : NatN w (.slice ub lub cub) b.num.natAbs) (hb0 : b.num ≠ 0) {k l : Nat} (fa : QS k a) (fb : QS l b⁻¹) (hk : k + l + 1 ≤ 35184372088640) :
    Calls Tryz.prog 57 #[.agg #[.bool na, .slice ua lua cua, .slice la lla cla], .agg #[.bool nb, .slice ub lub cub, .slice lb llb clb]] w fun e w' => Below w.heap.size w w' ∧ ∃ v, e = .returned v ∧ QV w' v (a * b⁻¹) := by
  have HB0 : Hid (Below w.heap.size w (((w.alloc (.cells #[.bool na, .slice ua lua cua, .slice la lla cla] 39)).alloc (.cells #[.bool nb, .slice ub lub cub, .slice lb llb clb] 39)).alloc (.cells #[.bool false, .slice none 0 0, .slice none 0 0] 39))) := ((below_new w _).alloc (by simp) _).alloc (by simp; omega) _
  have HKA : Hid (Blk (((w.alloc (.cells #[.bool na, .slice ua lua cua, .slice la lla cla] 39)).alloc (.cells #[.bool nb, .slice ub lub cub, .slice lb llb clb] 39)).alloc (.cells #[.bool false, .slice none 0 0, .slice none 0 0] 39)) w.heap.size #[.bool na, .slice ua lua cua, .slice la lla cla] 39) := (((Blk.new w _ _).below (below_new _ _) (by simp)).below (below_new _ _) (by simp; omega))
  have HKB : Hid (Blk (((w.alloc (.cells #[.bool na, .slice ua lua cua, .slice la lla cla] 39)).alloc (.cells #[.bool nb, .slice ub lub cub, .slice lb llb clb] 39)).alloc (.cells #[.bool false, .slice none 0 0, .slice none 0 0] 39)) (w.heap.size + 1) #[.bool nb, .slice ub lub cub, .slice lb llb clb] 39) := by
    have := (Blk.new (w.alloc (.cells #[.bool na, .slice ua lua cua, .slice la lla cla] 39)) #[.bool nb, .slice ub lub cub, .slice lb llb clb] 39).below (below_new _ (.cells #[.bool false, .slice none 0 0, .slice none 0 0] 39)) (by simp)
    exact hideIt (by simpa using this)
  have HKR : Hid (Blk (((w.alloc (.cells #[.bool na, .slice ua lua cua, .slice la lla cla] 39)).alloc (.cells #[.bool nb, .slice ub lub cub, .slice lb llb clb] 39)).alloc (.cells #[.bool false, .slice none 0 0, .slice none 0 0] 39)) (w.heap.size + 1 + 1) #[.bool false, .slice none 0 0, .slice none 0 0] 39) := by
    have := Blk.new ((w.alloc (.cells #[.bool na, .slice ua lua cua, .slice la lla cla] 39)).alloc (.cells #[.bool nb, .slice ub lub cub, .slice lb llb clb] 39)) #[.bool false, .slice none 0 0, .slice none 0 0] 39
    exact hideIt (by simpa using this)
  have HA := hideIt (ha.below HB0.out)
  have HB := hideIt (hb.below HB0.out)
  clear ha hb
  have HUB := hideIt (hub.below HB0.out)
  have hne : ((lub : Int) == 0) = false := by
    obtain ⟨ao, len, cap, e, _, _, hz⟩ := len_big hub
    cases e
    rw [beq_eq_false_iff_ne]; intro e; have := hz.1 (by omega); omega
  have EB := hideIt eb
  have FA := hideIt fa
  have FB := hideIt fb
  have HK := hideIt hk
  obtain ⟨hl, hcop, hfin⟩ := inv_fr b hb0
  rw [← eb] at hfin
  have HFIN := hideIt hfin
  clear hub eb fa fb hk hfin hb0
  go_enter Tryz.func57, Tryz.ntmps57
  obtain ⟨z0, z1, z2, z3, z4, z5⟩ := six_cells HKA.out HKB.out
  go_wp2_with fail
  go_region_held3 (fun w' => w'.cell? ⟨w.heap.size, 0, none⟩ = some (.bool na) ∧ w'.cell? ⟨w.heap.size, 1, none⟩ = some (.slice ua lua cua) ∧ w'.cell? ⟨w.heap.size, 2, none⟩ = some (.slice la lla cla) ∧ w'.cell? ⟨w.heap.size + 1, 0, none⟩ = some (.bool nb) ∧ w'.cell? ⟨w.heap.size + 1, 1, none⟩ = some (.slice ub lub cub) ∧ w'.cell? ⟨w.heap.size + 1, 2, none⟩ = some (.slice lb llb clb)) (first | go_keep | exact hk1 | exact hk2 | exact hk3 | exact hkS)
    (first
      | (go_at_call 44; refine (lower_calls (w := (((w.alloc (.cells #[.bool na, .slice ua lua cua, .slice la lla cla] 39)).alloc (.cells #[.bool nb, .slice ub lub cub, .slice lb llb clb] 39)).alloc (.cells #[.bool false, .slice none 0 0, .slice none 0 0] 39)).drew) (HB.out.below (Below.drew (Below.refl _ _)))).mono ?_; rintro e w1 ⟨hb1, v1, rfl, hv1⟩; have hbl1 : Below (((w.alloc (.cells #[.bool na, .slice ua lua cua, .slice la lla cla] 39)).alloc (.cells #[.bool nb, .slice ub lub cub, .slice lb llb clb] 39)).alloc (.cells #[.bool false, .slice none 0 0, .slice none 0 0] 39)).heap.size (((w.alloc (.cells #[.bool na, .slice ua lua cua, .slice la lla cla] 39)).alloc (.cells #[.bool nb, .slice ub lub cub, .slice lb llb clb] 39)).alloc (.cells #[.bool false, .slice none 0 0, .slice none 0 0] 39)) w1 := (Below.drew (Below.refl _ (((w.alloc (.cells #[.bool na, .slice ua lua cua, .slice la lla cla] 39)).alloc (.cells #[.bool nb, .slice ub lub cub, .slice lb llb clb] 39)).alloc (.cells #[.bool false, .slice none 0 0, .slice none 0 0] 39)))).trans hb1; have hk1 := six_cells (HKA.out.below hbl1 (by simp; omega)) (HKB.out.below hbl1 (by simp)))
      | (go_at_call 43; refine (ready_calls hv1 (HUB.out.below hbl1) hl hcop).mono ?_; rintro e w2 ⟨hb2, v2, rfl, hv2⟩; rw [HFIN.out] at hv2; have hbl2 := hbl1.trans (hb2.mono hbl1.size); have hk2 := six_cells (HKA.out.below hbl2 (by simp; omega)) (HKB.out.below hbl2 (by simp)))
      | (go_at_call 28; refine (times_calls (HA.out.below hbl2) hv2 FA.out FB.out HK.out).mono ?_; rintro e w3 ⟨hb3, v3, rfl, hv3⟩; have hbl3 := hbl2.trans (hb3.mono hbl2.size); have hk3 := six_cells (HKA.out.below hbl3 (by simp; omega)) (HKB.out.below hbl3 (by simp)); obtain ⟨rr, hrr⟩ : ∃ rr : Rat, rr = a * b⁻¹ := ⟨_, rfl⟩; rw [← hrr] at hv3; have HRR := hideIt hrr; clear hrr; have HQ := hideIt hv3; obtain ⟨vu', vl', rfl, hn1, hn2⟩ := hv3; obtain ⟨ao3, len3, cap3, rfl, _, _, _⟩ := len_big hn1; obtain ⟨ao4, len4, cap4, rfl, _, _, _⟩ := len_big hn2; have hkr := HKR.out.below hbl3 (by simp); obtain ⟨r0, r1, r2, f0, f1, f2⟩ := hkr.three; have hkS := six_cells ((HKA.out.below hbl3 (by simp; omega)).other3 (g' := w.heap.size + 1 + 1) (by omega) (.bool (decide (rr.num < 0))) (.slice ao3 len3 cap3) (.slice ao4 len4 cap4)) ((HKB.out.below hbl3 (by simp)).other3 (g' := w.heap.size + 1 + 1) (by omega) (.bool (decide (rr.num < 0))) (.slice ao3 len3 cap3) (.slice ao4 len4 cap4)))
      )
  all_goals
    go_wp2
    obtain ⟨k0, k1, k2, hlow⟩ := hkr.three_set (.bool (decide (rr.num < 0))) (.slice ao3 len3 cap3) (.slice ao4 len4 cap4)
    exact bodyPost_ret (v := .agg #[.bool (decide (rr.num < 0)), .slice ao3 len3 cap3, .slice ao4 len4 cap4]) (by simp [results, Tryz.results57, go_sem, k0, k1, k2]) rfl ⟨hlow _ _ (HB0.out.trans (hbl3.mono HB0.out.size)) (by omega), _, rfl, by rw [← HRR.out]; exact HQ.out.three hkr⟩

set_option maxHeartbeats 4000000 in
theorem overQ_zero {w : World} {na nb : Bool} {ua la ub lb : Option Addr} {lua cua lla cla cub llb clb : Nat} :
    Calls Tryz.prog 57 #[.agg #[.bool na, .slice ua lua cua, .slice la lla cla], .agg #[.bool nb, .slice ub 0 cub, .slice lb llb clb]] w fun e w' => Below w.heap.size w w' ∧ ∃ v, e = .returned v ∧ QV w' v 0 := by
  go_enter Tryz.func57, Tryz.ntmps57
  go_wp2
  exact bodyPost_ret (v := .agg #[.bool false, .slice none 0 0, .slice none 0 0]) (by simp [results, Tryz.results57, go_sem]) rfl ⟨((below_new w _).alloc (by simp) _).alloc (by simp; omega) _, _, rfl, ⟨.slice none 0 0, .slice none 0 0, rfl, NatN.nil _ _ _, NatN.nil _ _ _⟩⟩

theorem QS.inv {k : Nat} {q : Rat} (h : QS k q) (h0 : q.num ≠ 0) : QS k q⁻¹ := by
  obtain ⟨hl, hc, e⟩ := inv_fr q h0
  rw [← e]
  refine ⟨?_, h.num⟩
  show (sg _ _).natAbs < _
  rw [sg_abs]; exact h.den

/-- Over: a / b; 0, if b is. -/
theorem overQ_calls {w : World} {va vb : Value} {a b : Rat} {k l : Nat} (ha : QV w va a) (hb : QV w vb b) (fa : QS k a) (fb : QS l b) (hk : k + l + 1 ≤ 35184372088640) :
    Calls Tryz.prog 57 #[va, vb] w fun e w' => Below w.heap.size w w' ∧ ∃ v, e = .returned v ∧ QV w' v (a / b) := by
  have ha' := ha
  have hb' := hb
  obtain ⟨ua, la, rfl, h1, h2⟩ := ha
  obtain ⟨ub, lb, rfl, h3, h4⟩ := hb
  obtain ⟨a1, n1, c1, rfl, _, _, _⟩ := len_big h1
  obtain ⟨a2, n2, c2, rfl, _, _, _⟩ := len_big h2
  obtain ⟨a3, n3, c3, rfl, _, _, _⟩ := len_big h3
  obtain ⟨a4, n4, c4, rfl, _, _, _⟩ := len_big h4
  rw [Rat.div_def]
  by_cases h0 : b.num = 0
  · have hb0 : b = 0 := Rat.num_eq_zero.1 h0
    have hz : n3 = 0 := by
      obtain ⟨ao, len, cap, e, _, _, hz⟩ := len_big h3
      cases e
      exact hz.2 (by rw [h0]; rfl)
    subst hz
    have e : a * b⁻¹ = 0 := by rw [hb0, Rat.inv_zero, Rat.mul_zero]
    rw [e]
    exact overQ_zero
  · exact overQ_walk ha' hb' rfl h3 h0 fa (fb.inv h0) hk
end Go.Proofs.YtllmfakelodpiaaGreatDoor
/- Plain mathematics: digits of the base ten. -/
namespace Cx

def dg (c : UInt8) : Bool := decide (48 ≤ c.toNat) && decide (c.toNat ≤ 57)

/-- Digits, one at least. -/
def digs (l : List UInt8) : Bool := !l.isEmpty && l.all dg

/-- The number that digits tell. -/
def dv (l : List UInt8) : Nat := l.foldl (fun a c => a * 10 + (c.toNat - 48)) 0

theorem dv_nil : dv [] = 0 := rfl
theorem dv_snoc (l : List UInt8) (c : UInt8) : dv (l ++ [c]) = dv l * 10 + (c.toNat - 48) := by
  unfold dv; rw [List.foldl_append]; rfl
theorem dv_from (l : List UInt8) (a : Nat) : l.foldl (fun a c => a * 10 + (c.toNat - 48)) a = a * 10 ^ l.length + dv l := by
  induction l generalizing a with
  | nil => simp [dv_nil]
  | cons c l ih =>
    have e : dv (c :: l) = l.foldl (fun a c => a * 10 + (c.toNat - 48)) (0 * 10 + (c.toNat - 48)) := rfl
    rw [e, List.foldl_cons, ih, ih (0 * 10 + (c.toNat - 48)), List.length_cons, Nat.pow_succ]
    generalize 10 ^ l.length = P
    grind
theorem dv_append (l m : List UInt8) : dv (l ++ m) = dv l * 10 ^ m.length + dv m := by
  have e : dv (l ++ m) = m.foldl (fun a c => a * 10 + (c.toNat - 48)) (dv l) := by unfold dv; rw [List.foldl_append]
  rw [e, dv_from]
theorem dv_cons (c : UInt8) (l : List UInt8) : dv (c :: l) = (c.toNat - 48) * 10 ^ l.length + dv l := by
  have := dv_append [c] l
  simpa [dv] using this
theorem dg_le {c : UInt8} (h : dg c = true) : 48 ≤ c.toNat ∧ c.toNat ≤ 57 := by
  unfold dg at h; simpa using h
theorem dv_lt {l : List UInt8} (h : l.all dg = true) : dv l < 10 ^ l.length := by
  induction l with
  | nil => simp [dv_nil]
  | cons c l ih =>
    simp only [List.all_cons, Bool.and_eq_true] at h
    have h1 := ih h.2
    have h2 := dg_le h.1
    rw [dv_cons, List.length_cons, Nat.pow_succ]
    have h3 : (c.toNat - 48) * 10 ^ l.length ≤ 9 * 10 ^ l.length := Nat.mul_le_mul_right _ (by omega)
    omega
theorem take_snoc8 {l : List UInt8} {k : Nat} (h : k < l.length) : l.take (k + 1) = l.take k ++ [l[k]] := List.take_succ_eq_append_getElem h

end Cx
/- Plain mathematics: what a text counts as. -/
namespace Cx
open Go
/-- Where the bar lies, if one does. -/
def barAt (l : List UInt8) : Option Nat := if Lib.indexByte l 47 < 0 then none else some (Lib.indexByte l 47).toNat
def upOf (l : List UInt8) : List UInt8 := match barAt l with | none => l | some i => l.take i
def lowOf (l : List UInt8) : List UInt8 := match barAt l with | none => [49] | some i => l.drop (i + 1)
def ngOf (l : List UInt8) : Bool := Lib.hasPrefix l [45]
def tailOf (l : List UInt8) : List UInt8 := Lib.trimPrefix l [45]
/-- What a text counts as. -/
def rd (l : List UInt8) : Rat := if digs (upOf (tailOf l)) && digs (lowOf (tailOf l)) then mkRat (sg (ngOf l) (dv (upOf (tailOf l)))) (dv (lowOf (tailOf l))) else 0
end Cx
namespace Go.Proofs.YtllmfakelodpiaaGreatDoor
open Go Cx
theorem digs_all {l : List UInt8} (h : digs l = true) : l.all dg = true := by
  unfold digs at h; simp only [Bool.and_eq_true] at h; exact h.2

end Go.Proofs.YtllmfakelodpiaaGreatDoor
/- Walks of package num: texts: isDigits, readRun. -/
namespace Go.Proofs.YtllmfakelodpiaaGreatDoor
open Go.RowKit Cx

theorem byte_at (s : ByteArray) (k : Nat) (h : k < s.size) : s.data.toList[k]'(by simpa using h) = s[k] := rfl

set_option maxHeartbeats 1000000 in
/-- isDigits: digits, one at least. -/
theorem isDigits_calls (s : ByteArray) (w : World) (hs : s.size ≤ 9223372036854775807) :
    Calls Tryz.prog 31 #[.string s] w fun e w' => e = .returned (.bool (digs s.data.toList)) ∧ w' = w := by
  go_enter Tryz.func31, Tryz.ntmps31
  go_wp2
  go_loop [6] (fun i => ∃ k : Nat, k ≤ s.size ∧ i = .int .i64 k ∧ (s.data.toList.take k).all dg = true) (fun i => s.size - (intOf i).toNat)
  case atStart => exact ⟨0, Nat.zero_le _, rfl, by simp⟩
  case round =>
    obtain ⟨k, hk, rfl, hall⟩ := hrel
    have HAL := hideIt hall
    clear hall
    by_cases hlt : k < s.size
    · have hlen : k < s.data.toList.length := by simpa using hlt
      have htk := hideIt (take_snoc8 hlen)
      by_cases h1 : s[k].toNat < 48
      · have HF : Hid (digs s.data.toList = false) := by
          show digs s.data.toList = false
          have hm : s.data.toList.all dg = false := by
            rw [Bool.eq_false_iff]
            intro h
            have := List.all_eq_true.1 h _ (List.getElem_mem hlen)
            have := dg_le this
            rw [byte_at s k hlt] at this
            omega
          simp [digs, hm]
        go_wp2
        go_ret
        exact ⟨by rw [HF.out]; rfl, rfl⟩
      · by_cases h2 : 57 < s[k].toNat
        · have HF : Hid (digs s.data.toList = false) := by
            show digs s.data.toList = false
            have hm : s.data.toList.all dg = false := by
              rw [Bool.eq_false_iff]
              intro h
              have := List.all_eq_true.1 h _ (List.getElem_mem hlen)
              have := dg_le this
              rw [byte_at s k hlt] at this
              omega
            simp [digs, hm]
          go_wp2
          go_ret
          exact ⟨by rw [HF.out]; rfl, rfl⟩
        · go_wp2
          go_round
          case rel =>
            refine ⟨k + 1, by omega, by go_num, ?_⟩
            rw [htk.out, List.all_append, HAL.out, byte_at s k hlt]
            simp [dg]
            omega
          case measure => simp [intOf]; omega
    · have hall : s.data.toList.all dg = true := by
        have := HAL.out
        rwa [List.take_of_length_le (by simp; omega)] at this
      have HF := hideIt hall
      clear hall
      go_wp2
      go_ret
      refine ⟨?_, rfl⟩
      show Ending.returned (Value.bool (!s.toList.isEmpty)) = _
      rw [ByteArray.toList_eq]
      simp [digs, HF.out]

theorem pow_nine {k : Nat} (h : k ≤ 9) : 10 ^ k ≤ 1000000000 := by
  have := Nat.pow_le_pow_right (show 0 < 10 by omega) h
  omega

set_option maxHeartbeats 1000000 in
/-- readRun: nine digits at most. -/
theorem readRun_calls (s : ByteArray) (w : World) (hs : s.size ≤ 9) (hd : s.data.toList.all dg = true) :
    Calls Tryz.prog 52 #[.string s] w fun e w' => e = .returned (.int .u32 (dv s.data.toList)) ∧ w' = w := by
  have HD := hideIt hd
  clear hd
  go_enter Tryz.func52, Tryz.ntmps52
  go_wp2
  go_loop [3, 7] (fun r i => ∃ k n : Nat, k ≤ s.size ∧ i = .int .i64 k ∧ r = .int .u32 n ∧ n = dv (s.data.toList.take k)) (fun _ i => s.size - (intOf i).toNat)
  case atStart => exact ⟨0, 0, Nat.zero_le _, rfl, rfl, rfl⟩
  case round =>
    obtain ⟨k, n, hk, rfl, rfl, hn⟩ := hrel
    have HN := hideIt hn
    clear hn
    by_cases hlt : k < s.size
    · have hlen : k < s.data.toList.length := by simpa using hlt
      have htk := hideIt (take_snoc8 hlen)
      have hb : n < 100000000 := by
        rw [HN.out]
        have h1 : (s.data.toList.take k).all dg = true := List.all_eq_true.2 fun x hx => List.all_eq_true.1 HD.out x (List.mem_of_mem_take hx)
        have h2 := dv_lt h1
        have h3 : (s.data.toList.take k).length ≤ 8 := by simp; omega
        have h4 := Nat.pow_le_pow_right (show 0 < 10 by omega) h3
        omega
      have hc : 48 ≤ s[k].toNat ∧ s[k].toNat ≤ 57 := by
        have := dg_le (List.all_eq_true.1 HD.out _ (List.getElem_mem hlen))
        rwa [byte_at s k hlt] at this
      obtain ⟨hc1, hc2⟩ := hc
      go_wp2
      go_round
      case rel =>
        refine ⟨k + 1, n * 10 + (s[k].toNat - 48), by omega, by go_num, ?_, ?_⟩
        · first | rfl | go_num
        · rw [htk.out, dv_snoc, ← HN.out, byte_at s k hlt]
      case measure => simp [intOf]; omega
    · go_wp2
      go_ret
      have hn := HN.out
      rw [List.take_of_length_le (by simp; omega)] at hn
      exact ⟨by rw [hn]; rfl, rfl⟩
end Go.Proofs.YtllmfakelodpiaaGreatDoor
/- Walks of package num: texts: appendRun. -/
namespace Go.Proofs.YtllmfakelodpiaaGreatDoor
open Go.RowKit Cx

/-- A row of one's own that begins with the limbs l, with room for cap. -/
def RowC (w : World) (g cap : Nat) (l : List Nat) : Prop := ∃ sp : Array Value, w.heap[g]? = some (.cells (rowOf l ++ sp) 82 (0, 0)) ∧ l.length + sp.size = cap

theorem RowC.row {w : World} {g cap : Nat} {l : List Nat} (h : RowC w g cap l) : Row w g l := ⟨h.choose, h.choose_spec.1⟩
theorem RowC.le {w : World} {g cap : Nat} {l : List Nat} (h : RowC w g cap l) : l.length ≤ cap := by obtain ⟨sp, _, h⟩ := h; omega
theorem RowC.set {w : World} {g cap : Nat} {l : List Nat} (h : RowC w g cap l) {j : Nat} (hj : j < l.length) (y : Nat) {z : Int} (hz : z = (y : Int)) : RowC (w.setCell ⟨g, j, none⟩ (.int .u32 z)) g cap (l.set j y) := by
  obtain ⟨sp, h, hc⟩ := h
  refine ⟨sp, ?_, by simpa using hc⟩
  rw [hz, heap_setCell_same w g j _ _ _ h, Array.setIfInBounds_append_left (by rw [rowOf_size]; exact hj), rowOf_set]
theorem RowC.below {w w' : World} {g cap B : Nat} {l : List Nat} (h : RowC w g cap l) (hb : Below B w w') (hg : g < B) : RowC w' g cap l := by
  obtain ⟨sp, h, hc⟩ := h
  exact ⟨sp, by rw [hb.block g hg, h], hc⟩
theorem RowC.owns {w : World} {g cap : Nat} {l : List Nat} (h : RowC w g cap l) (hm : cap ≤ maxLen) : w.ownsRow g 82 1 (.slice (some ⟨g, 0, none⟩) l.length cap) l.length (l.map fun x : Nat => Value.int .u32 (x : Int)) := by
  obtain ⟨sp, h, hc⟩ := h
  refine ⟨by simp, Or.inr ⟨g, cap, rowOf l ++ sp, rfl, Nat.le_refl _, h, by omega, hm, ?_, ?_⟩⟩
  · simp [rowOf_size]; omega
  · rw [Array.toList_append, Nat.mul_one, List.take_append_of_le_length (by simp [rowOf])]
    simp [rowOf]
    exact List.take_of_length_le (by simp)
theorem rowC_of_owns {w : World} {base n : Nat} {v : Value} {l : List Nat} (hl : l.length = n) (h : w.ownsRow base 82 1 v n (l.map fun x : Nat => Value.int .u32 (x : Int))) (hv : v ≠ .slice none 0 0) :
    ∃ g cap, v = .slice (some ⟨g, 0, none⟩) n cap ∧ base ≤ g ∧ cap ≤ maxLen ∧ RowC w g cap l := by
  rcases h.2 with ⟨h1, _⟩ | ⟨g, cap, cur, rfl, hb, hh, hc, hm, hs, ht⟩
  · exact absurd h1 hv
  · refine ⟨g, cap, rfl, hb, hm, (cur.toList.drop n).toArray, ?_, ?_⟩
    · rw [hh]
      have : cur = rowOf l ++ (cur.toList.drop n).toArray := by
        apply Array.ext'
        rw [Array.toList_append]
        rw [Nat.mul_one] at ht
        have := List.take_append_drop n cur.toList
        rw [ht] at this
        simp [rowOf, this]
      rw [← this]
    · simp; omega

theorem run_round (V cy P A x : Nat) (R : Nat) (h : V + cy * P = A * 1000000000 + R) :
    V + P * ((cy + x * 1000000000) % 4294967296) + ((cy + x * 1000000000) / 4294967296) * (4294967296 * P) = (A + P * x) * 1000000000 + R := by
  have e := Nat.mod_add_div (cy + x * 1000000000) 4294967296
  generalize (cy + x * 1000000000) % 4294967296 = a at *
  generalize (cy + x * 1000000000) / 4294967296 = b at *
  have : P * a + b * (4294967296 * P) = P * (cy + x * 1000000000) := by rw [← e]; grind
  grind

theorem run_trim {l cur : List Nat} {r : Nat} (hc : Lim cur) (tl : Trim l) (hlen : cur.length = l.length) (hv : val cur = val l * 1000000000 + r) : Trim cur := by
  by_cases e : l = []
  · subst e; left; exact List.length_eq_zero_iff.1 hlen
  · right
    have hp : 0 < l.length := List.length_pos_iff.2 e
    have h1 := trim_pos tl e
    intro h0
    have h2 := val_lt_top hc (by omega)
    rw [h0, Nat.zero_add, Nat.one_mul, hlen] at h2
    omega

theorem trim_snoc {l : List Nat} {x : Nat} (h : x ≠ 0) : Trim (l ++ [x]) := by
  right
  simp [nth]
  exact h

/-- What appendRun leaves. -/
def Run (w : World) (g : Nat) (l : List Nat) (t : Nat) (w' : World) (e : Ending) : Prop :=
  ∃ g' cap' l', e = .returned (.slice (some ⟨g', 0, none⟩) l'.length cap') ∧ RowC w' g' cap' l' ∧ Lim l' ∧ (Trim l → Trim l') ∧ val l' = val l * 1000000000 + t ∧ l'.length ≤ l.length + 1 ∧ cap' ≤ maxLen ∧
    ∀ B w0, Below B w0 w → B ≤ g → Below B w0 w' ∧ B ≤ g'

set_option maxHeartbeats 2000000 in
set_option maxRecDepth 100000 in
theorem appendRun_calls {w : World} {g cap r : Nat} {l : List Nat} (h : RowC w g cap l) (hl : Lim l) (hlen : l.length ≤ 1099511627776) (hcap : cap ≤ maxLen) (hr : r < 1000000000) :
    Calls Tryz.prog 51 #[.slice (some ⟨g, 0, none⟩) l.length cap, .int .u32 r] w fun e w' => Run w g l r w' e := by
  obtain ⟨i0, hi, hz0, hz1, hz2⟩ := info_parts Tryz.infoU32
  have HL0 := hideIt hl
  have HC := hideIt hcap
  clear hl hcap
  go_enter Tryz.func51, Tryz.ntmps51
  go_wp2
  go_loopw [5, 12] (fun c i wr => ∃ (k cy : Nat) (cur : List Nat), k ≤ l.length ∧ i = .int .i64 k ∧ c = .int .u64 cy ∧ cy < 1000000000 ∧ RowC wr g cap cur ∧ cur.length = l.length ∧ Lim cur ∧ (∀ j, k ≤ j → nth cur j = nth l j) ∧ val (cur.take k) + cy * pw k = val (l.take k) * 1000000000 + r ∧ Only g w wr) (fun _ i _ => l.length - (intOf i).toNat)
  case atStart => exact ⟨0, r, l, Nat.zero_le _, rfl, rfl, hr, h, rfl, HL0.out, fun _ _ => rfl, by simp [val, pw], Only.refl _ _⟩
  case round =>
    obtain ⟨k, cy, cur, hk, rfl, rfl, hcy, hrow, hcl, hcm, hag, hval, honly⟩ := hrel
    have HV := hideIt hval
    have HL := hideIt hcl
    have HG := hideIt hag
    clear hval hcl hag h
    by_cases hlt : k < l.length
    · have hcc := hrow.row.cell (j := k) (by rw [HL.out]; omega)
      have hfz := hrow.row.frozen k
      have hx := nth_lt hcm k
      go_wp2
      go_roundw
      case rel =>
        refine ⟨k + 1, (cy + nth cur k * 1000000000) / 4294967296, cur.set k ((cy + nth cur k * 1000000000) % 4294967296), by omega, by go_num, by go_num, by omega, hrow.set (by rw [HL.out]; omega) _ (by omega), by rw [List.length_set, HL.out], hcm.set (by omega), ?_, ?_, honly.set _ _⟩
        · intro j hj
          rw [nth_set_other (by omega)]
          exact HG.out j (by omega)
        · rw [val_set_take (by rw [HL.out]; omega), val_take_succ, pw_succ, ← HG.out k (Nat.le_refl _)]
          exact run_round _ _ _ _ _ _ HV.out
      case measure => simp [intOf]; omega
    · obtain rfl : k = l.length := by omega
      have hend : Hid (val cur + cy * pw l.length = val l * 1000000000 + r) := by
        have := HV.out
        rw [List.take_length, List.take_of_length_le (by rw [HL.out]; exact Nat.le_refl _)] at this
        exact this
      by_cases h0 : cy = 0
      · subst h0
        go_wp2
        go_ret
        have hv : val cur = val l * 1000000000 + r := by have := hend.out; simpa using this
        refine ⟨g, cap, cur, by rw [HL.out]; rfl, hrow, hcm, fun t => run_trim hcm t HL.out hv, hv, by rw [HL.out]; omega, HC.out, ?_⟩
        intro B w0 hb hB
        exact ⟨honly.below hb hB, hB⟩
      · have hne : ((cy : Int) != 0) = true := by rw [bne_iff_ne]; omega
        have hown := (hrow.below (below_new wr (.cells #[.int .u32 (cy : Int)] 82)) hrow.row.lt).owns HC.out
        rw [HL.out] at hown
        have hnews : ∀ j u, ([Value.int .u32 (cy : Int)] : List Value)[j]? = some u → (wr.alloc (.cells #[.int .u32 (cy : Int)] 82)).cell? (Addr.add ⟨wr.heap.size, 0, none⟩ j) = some u := by
          intro j u hj
          match j, hj with
          | 0, hj => simp at hj; subst hj; simp [Addr.add]
        have HNW := hideIt hnews
        have HC2 := hideIt h0
        clear hnews h0
        go_wp2_with (at_builtin; refine wpList_append_own _ rfl _ _ 37 rfl g 82 i0 (.int .u32 0) 1 4 Tryz.underlying37 hi hz0 hz1 hz2 rfl (by decide) (.slice (some ⟨g, 0, none⟩) l.length cap) l.length (cur.map fun x : Nat => Value.int .u32 (x : Int)) rfl hown ⟨wr.heap.size, 0, none⟩ 1 1 [.int .u32 (cy : Int)] rfl rfl HNW.out (by intro u hu; simp at hu; subst hu; rfl) (by unfold maxLen; omega) (by omega) (by have := hrow.row.lt; simp; omega) ?_; intro v' w1 hown1 hgrow hnil)
        rw [show (List.map (fun x : Nat => Value.int .u32 (x : Int)) cur ++ [Value.int .u32 (cy : Int)]) = (cur ++ [cy]).map (fun x : Nat => Value.int .u32 (x : Int)) from by simp] at hown1
        obtain ⟨g', cap', rfl, hg', hm', hrow'⟩ := rowC_of_owns (l := cur ++ [cy]) (by simp [HL.out]) hown1 (fun e => by have := (hnil.1 e).2; omega)
        have hlen' : (cur ++ [cy]).length = l.length + 1 := by simp [HL.out]
        go_ret
        refine ⟨g', cap', cur ++ [cy], by rw [hlen']; rfl, hrow', ?_, fun _ => trim_snoc HC2.out, ?_, by omega, hm', ?_⟩
        · intro x hx
          rcases List.mem_append.1 hx with hx | hx
          · exact hcm x hx
          · rw [List.mem_singleton.1 hx]; omega
        · rw [val_append, HL.out]
          have := hend.out
          simp only [val]
          rw [← this]; grind
        · intro B w0 hb hB
          have hb1 := honly.below hb hB
          have hlt := hrow.row.lt
          have hb2 : Below B w0 (wr.alloc (.cells #[.int .u32 (cy : Int)] 82)) := hb1.alloc (by omega) _
          refine ⟨⟨hgrow.os.trans hb2.os, hgrow.tape.trans hb2.tape, hgrow.output.trans hb2.output, Nat.le_trans hb2.size hgrow.size, fun i hi => ?_⟩, by omega⟩
          rw [hgrow.block i (by have := hb2.size; simp; omega) (by simp [Value.ownBlock]; omega), hb2.block i hi]
end Go.Proofs.YtllmfakelodpiaaGreatDoor
