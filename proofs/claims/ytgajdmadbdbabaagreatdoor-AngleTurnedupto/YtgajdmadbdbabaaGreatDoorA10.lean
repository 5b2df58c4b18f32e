/- Part 10 of the walks and of the mathematics under them: BQ BR BS TA TB BV BW BX ShelfB TC TD BY BZ RA WC WE RB WF. -/
import Derived.Test.YtgajdmadbdbabaaGreatDoorA7
import Derived.Deep.RegionWith
import Derived.Test.YtgajdmadbdbabaaGreatDoorA6
import Derived.Laws.OwnMore
import Derived.Laws.IdiomStrings
import Derived.Test.YtgajdmadbdbabaaGreatDoorASh
import Derived.Lib.IndexLaws
import Derived.Shelf.Strings.SlTrimAscii
import Derived.Lib.SlTrimSet
import Derived.Lib.IndexBytes
import Derived.Test.YtgajdmadbdbabaaGreatDoorA8
import Derived.Test.YtgajdmadbdbabaaGreatDoorA9
set_option maxHeartbeats 16000000
set_option maxRecDepth 100000
/- BQ -/
namespace Go.Proofs.YtgajdmadbdbabaaGreatDoor
open Go.RowKit Cx
attribute [local go_sem ↓] Go.wp_at_zero Go.wp_at_succ
theorem ratNum_calls (g : Nat) (w : World) :
    Calls Tryz.prog 88 #[.pointer (some ⟨g, 0, none⟩)] w fun e w' => w' = w ∧ e = .returned (.pointer (some ⟨g, 0, none⟩)) := by
  go_enter Tryz.func88, Tryz.ntmps88
  go_wp2
  go_ret
  exact ⟨rfl, rfl⟩
theorem mkRat_whole (n : Nat) : mkRat (n : Int) 1 = (n : Rat) := by
  rw [Rat.mkRat_one]
  rfl
theorem ratSetInt64_calls {w : World} {g : Nat} {y0 y1 y2 y3 : Value} (n : Nat) (hn : n < 9223372036854775808) (hk : Blk w g #[y0, y1, y2, y3] 118) (hno : (#[y0, y1, y2, y3] : Array Value).all notLimb = true) :
    Calls Tryz.prog 86 #[.pointer (some ⟨g, 0, none⟩), .int .i64 n] w fun e w' => e = .returned (.pointer (some ⟨g, 0, none⟩)) ∧ Save g w w' ∧ RV w' g (n : Rat) := by
  have HK := hideIt2 hk
  have LG := hideIt2 hk.lt
  have SN : Hid (Small ((n : Int)).natAbs) := by
    show Small _
    rw [Int.natAbs_natCast]
    exact small_two (k := 63) hn (by decide)
  have S1 : Hid (Small 1) := small_two (k := 1) (by decide) (by decide)
  clear hk
  go_enter Tryz.func86, Tryz.ntmps86
  go_wp2_with fail
  refine (newInt_calls n hn w).mono ?_
  rintro e w1 ⟨hb1, g1, rfl, hg1, ho1⟩
  have HO1 := hideIt2 ho1
  have HB1 := hideIt2 hb1
  clear ho1 hb1
  go_wp2_with fail
  refine (newInt_calls 1 (by decide) w1).mono ?_
  rintro e w2 ⟨hb2, g2, rfl, hg2, ho2⟩
  have HO2 := hideIt2 ho2
  have HO1' := hideIt2 (HO1.out.below hb2)
  have HB2 := hideIt2 (HB1.out.trans (hb2.mono HB1.out.size))
  clear ho2 hb2
  go_wp2_with fail
  refine (setFrac_walk (z := (n : Int)) (b := 1) (HK.out.below HB2.out LG.out) hno HO1'.out.iv HO2.out.iv (by decide) SN.out S1.out).mono ?_
  rintro e w3 ⟨rfl, hs, hr⟩
  rw [mkRat_whole] at hr
  have HR := hideIt2 (And.intro ((Save.of HB2.out).trans hs) hr)
  clear hs hr
  go_wp2
  go_ret
  exact ⟨rfl, HR.out.1, HR.out.2⟩
theorem refN_calls (n : Nat) (hn : n < 9223372036854775808) (w : World) :
    Calls Tryz.prog 35 #[.int .i64 n] w fun e w' => Below w.heap.size w w' ∧ ∃ g, e = .returned (.pointer (some ⟨g, 0, none⟩)) ∧ w.heap.size ≤ g ∧ RV w' g (n : Rat) := by
  have hk := Blk.new w #[.bool false, .slice none 0 0, .bool false, .slice none 0 0] 118
  have hb := below_new w (.cells #[.bool false, .slice none 0 0, .bool false, .slice none 0 0] 118)
  go_enter Tryz.func35, Tryz.ntmps35
  go_wp2_with fail
  refine (ratSetInt64_calls n hn hk (by simp [notLimb])).mono ?_
  rintro e w1 ⟨rfl, hs, hr⟩
  have HR := hideIt2 (And.intro (hb.trans (hs.below (Nat.le_refl _) hb.size)) hr)
  clear hs hr hb hk
  go_wp2
  go_ret
  exact ⟨HR.out.1, w.heap.size, rfl, Nat.le_refl _, HR.out.2⟩
end Go.Proofs.YtgajdmadbdbabaaGreatDoor
/- BR -/
namespace Go.Proofs.YtgajdmadbdbabaaGreatDoor
open Go.RowKit Cx
attribute [local go_sem ↓] Go.wp_at_zero Go.wp_at_succ
theorem neg_sign {x : Int} (h : -x ≠ 0) : (!decide (x < 0)) = decide (-x < 0) := by
  by_cases h1 : x < 0
  · simp [h1]; omega
  · simp [h1]; omega
theorem intNeg_calls {w : World} {g o : Nat} {px : Value} {x : Int} (h : At2 w g o) (hx : IV w px x) (sx : Small x.natAbs) :
    Calls Tryz.prog 183 #[.pointer (some ⟨g, o, none⟩), px] w fun e w' => e = .returned (.pointer (some ⟨g, o, none⟩)) ∧ Gave w g o (-x) w' := by
  obtain ⟨g1, o1, a1, n1, c1, rfl, x0, x1, x2, xl⟩ := hx
  have H := hideIt2 h
  have HX := hideIt2 x2
  have SX := hideIt2 sx
  have HS : Hid (∀ w', Below w.heap.size w w' → w'.cell? ⟨g1, o1, none⟩ = some (.bool (decide (x < 0))) ∧ w'.cell? ⟨g1, o1 + 1, none⟩ = some (.slice a1 n1 c1)) := fun w' hb => ⟨(hb.cell (p := ⟨g1, o1, none⟩) xl).trans x0, (hb.cell (p := ⟨g1, o1 + 1, none⟩) xl).trans x1⟩
  clear h x2 sx xl
  go_enter Tryz.func183, Tryz.ntmps183
  go_wp2_with fail
  go_region_with (first
    | (go_at_call 188; refine (bigTwin_calls (w := w.drew) (HX.out.below (Below.drew (Below.refl _ _))) SX.out).mono ?_; rintro e w1 ⟨hb1, v1, rfl, hv1⟩; obtain ⟨ao, n, c, rfl, hn, hnb, hnz⟩ := big_len hv1; have hbl1 : Below w.heap.size w w1 := (Below.drew (Below.refl _ w)).trans hb1; obtain ⟨u0, u1⟩ := HS.out w1 hbl1)
    | (go_at_call 179; refine (give_calls (n := n) (ao := ao) (c := c) _ (H.out.below hbl1)).mono ?_; rintro e w2 ⟨rfl, rfl⟩))
  all_goals
    go_wp2
    go_ret
    refine ⟨rfl, w1, ao, n, c, hbl1, ?_, by rw [Int.natAbs_neg]; exact hv1⟩
    rw [give_sign (z := -x) _ (by rw [Int.natAbs_neg]; exact hnz) neg_sign]
theorem mkRat_own (q : Rat) : mkRat q.num q.den = q := Rat.mkRat_self q
theorem ratSet_calls {w : World} {g gx : Nat} {y0 y1 y2 y3 : Value} {x : Rat} {k : Nat} (hk : Blk w g #[y0, y1, y2, y3] 118) (hno : (#[y0, y1, y2, y3] : Array Value).all notLimb = true) (hx : RV w gx x) (fx : QS k x) (hkl : k ≤ 35184372088640) :
    Calls Tryz.prog 182 #[.pointer (some ⟨g, 0, none⟩), .pointer (some ⟨gx, 0, none⟩)] w fun e w' => e = .returned (.pointer (some ⟨g, 0, none⟩)) ∧ Save g w w' ∧ RV w' g x := by
  have HX := hideIt2 hx
  have HK := hideIt2 hk
  have LG := hideIt2 hk.lt
  have SX := hideIt2 (small_num fx hkl)
  have DX := hideIt2 (small_two fx.den hkl)
  clear hx hk fx
  go_enter Tryz.func182, Tryz.ntmps182
  go_wp2_with fail
  go_region_held3 (fun _ => True) (trivial)
    (first
      | (go_at_call 137; refine (den_calls (w := w.drew) (HX.out.below (Below.drew (Below.refl _ _)))).mono ?_; rintro e w1 ⟨hb1, p1, rfl, hv1, _⟩; have hbl1 : Below w.heap.size w w1 := (Below.drew (Below.refl _ w)).trans hb1)
      | (go_at_call 131; refine (setFrac_walk (z := x.num) (b := x.den) (HK.out.below hbl1 LG.out) hno (RV.num (HX.out.below hbl1)) hv1 x.den_pos SX.out DX.out).mono ?_; rintro e w2 ⟨rfl, hs, hr⟩)
      )
  all_goals
    go_wp2
    go_ret
    rw [mkRat_own] at hr
    exact ⟨rfl, (Save.of hbl1).trans hs, hr⟩
theorem RV.at2 {w : World} {g : Nat} {q : Rat} (h : RV w g q) : At2 w g 0 := by
  obtain ⟨a1, l1, c1, a2, l2, c2, h0, _⟩ := h
  exact ⟨⟨_, h0.cell 0⟩, ⟨_, h0.cell 1⟩, h0.frozen 0, h0.frozen 1, h0.lt⟩
theorem RV.neg {w w' : World} {g : Nat} {q : Rat} (h : RV w g q) (hg : Gave w g 0 (-q.num) w') : RV w' g (-q) ∧ Save g w w' := by
  refine ⟨?_, hg.save⟩
  have hh := h.held
  obtain ⟨a1, l1, c1, a2, l2, c2, h0, h1, h2⟩ := h
  obtain ⟨w1, ao, n, c, hbl, rfl, hn⟩ := hg
  have hb1 := h0.below hbl h0.lt
  have hh1 : Held w1 g := ⟨_, _, hb1, by simp [notLimb]⟩
  refine ⟨ao, n, c, a2, l2, c2, ?_, ?_, ?_⟩
  · have := (hb1.set 1 (.slice ao n c)).set 0 (.bool (decide (-q.num < 0)))
    simpa using this
  · rw [Rat.neg_num]
    exact hn.two hh1 rfl
  · rcases h2 with h2 | ⟨e, h2⟩
    · rw [Rat.neg_den]
      exact Or.inl ((h2.below hbl).two hh1 rfl)
    · exact Or.inr ⟨e, by rw [h2]; rfl⟩
theorem ratNeg_calls {w : World} {g gx : Nat} {y0 y1 y2 y3 : Value} {x : Rat} {k : Nat} (hk : Blk w g #[y0, y1, y2, y3] 118) (hno : (#[y0, y1, y2, y3] : Array Value).all notLimb = true) (hx : RV w gx x) (fx : QS k x) (hkl : k ≤ 35184372088640) :
    Calls Tryz.prog 132 #[.pointer (some ⟨g, 0, none⟩), .pointer (some ⟨gx, 0, none⟩)] w fun e w' => e = .returned (.pointer (some ⟨g, 0, none⟩)) ∧ Save g w w' ∧ RV w' g (-x) := by
  have HX := hideIt2 hx
  have HK := hideIt2 hk
  have FX := hideIt2 fx
  have SX := hideIt2 (small_num fx hkl)
  clear hx hk fx
  go_enter Tryz.func132, Tryz.ntmps132
  go_wp2_with fail
  refine (ratSet_calls HK.out hno HX.out FX.out hkl).mono ?_
  rintro e w1 ⟨rfl, hs1, hr1⟩
  have HS1 := hideIt2 hs1
  have HR1 := hideIt2 hr1
  clear hs1 hr1
  go_wp2_with fail
  go_region_held3 (fun _ => True) (trivial)
    (first
      | (go_at_call 183; refine (intNeg_calls (w := w1.drew) (HR1.out.below (Below.drew (Below.refl _ _))).at2 (HR1.out.below (Below.drew (Below.refl _ _))).num SX.out).mono ?_; rintro e w2 ⟨rfl, hg2⟩)
      )
  all_goals
    have hd : Below w1.heap.size w1 w1.drew := Below.drew (Below.refl _ _)
    obtain ⟨hr2, hs2⟩ := (HR1.out.below hd).neg hg2
    go_wp2
    go_ret
    exact ⟨rfl, HS1.out.trans ((Save.of hd).trans hs2), hr2⟩
end Go.Proofs.YtgajdmadbdbabaaGreatDoor
/- BS -/
namespace Go.Proofs.YtgajdmadbdbabaaGreatDoor
open Go.RowKit Cx
attribute [local go_sem ↓] Go.wp_at_zero Go.wp_at_succ
theorem intCmp_calls {w : World} {px py : Value} {x y : Int} (hx : IV w px x) (hy : IV w py y) (sx : Small x.natAbs) (sy : Small y.natAbs) :
    Calls Tryz.prog 138 #[px, py] w fun e w' => Below w.heap.size w w' ∧ ∃ c : Int, e = .returned (.int .i64 c) ∧ (c < 0 ↔ x < y) ∧ (c = 0 ↔ x = y) := by
  obtain ⟨g1, o1, a1, n1, c1, rfl, x0, x1, x2, xl⟩ := hx
  obtain ⟨g2, o2, a2, n2, c2, rfl, y0, y1, y2, yl⟩ := hy
  have HX := hideIt2 x2
  have HY := hideIt2 y2
  have SX := hideIt2 sx
  have SY := hideIt2 sy
  clear x2 y2 sx sy
  by_cases h1 : x < 0
  · by_cases h2 : y < 0
    · have x0' : w.cell? ⟨g1, o1, none⟩ = some (.bool true) := by rw [x0, decide_eq_true h1]
      have y0' : w.cell? ⟨g2, o2, none⟩ = some (.bool true) := by rw [y0, decide_eq_true h2]
      clear x0 y0
      go_enter Tryz.func138, Tryz.ntmps138
      go_wp2_with fail
      go_quiet (fail)
      go_wp2_with fail
      have HS : Hid (∀ w', Below w.heap.size w w' → (w'.cell? ⟨g1, o1 + 1, none⟩ = some (.slice a1 n1 c1) ∧ w'.cell? ⟨g2, o2 + 1, none⟩ = some (.slice a2 n2 c2)) ∧ w'.cell? ⟨g1, o1, none⟩ = some (.bool true)) := fun w' hb => ⟨⟨(hb.cell (p := ⟨g1, o1 + 1, none⟩) xl).trans x1, (hb.cell (p := ⟨g2, o2 + 1, none⟩) yl).trans y1⟩, (hb.cell (p := ⟨g1, o1, none⟩) xl).trans x0'⟩
      go_region_held3 (fun w' => w'.cell? ⟨g1, o1 + 1, none⟩ = some (.slice a1 n1 c1) ∧ w'.cell? ⟨g2, o2 + 1, none⟩ = some (.slice a2 n2 c2)) (first | go_keep | exact hs1)
        (first
          | (go_at_call 187; refine (bigCmp_three (HX.out.below (Below.drew (belowDrewN (Below.refl _ _) _))) (HY.out.below (Below.drew (belowDrewN (Below.refl _ _) _))) SX.out SY.out).mono ?_; rintro e w1 ⟨hb1, c, rfl, hc1, hc2, hc3, hc4⟩; have hbl1 : Below w.heap.size w w1 := (Below.drew (belowDrewN (Below.refl _ _) _)).trans hb1; have hs1 := (HS.out w1 hbl1).1; have u0 := (HS.out w1 hbl1).2))
      all_goals
        have HC := hideIt2 (And.intro hc1 hc2)
        clear hc1 hc2
        go_wp2
        go_ret
        obtain ⟨hc1, hc2⟩ := HC.out
        exact ⟨hbl1, -c, by first | rfl | (congr 1; omega), by omega, by omega⟩
    · have x0' : w.cell? ⟨g1, o1, none⟩ = some (.bool true) := by rw [x0, decide_eq_true h1]
      have y0' : w.cell? ⟨g2, o2, none⟩ = some (.bool false) := by rw [y0, decide_eq_false h2]
      clear x0 y0
      go_enter Tryz.func138, Tryz.ntmps138
      go_wp2_with fail
      go_quiet (fail)
      go_wp2
      go_ret
      exact ⟨belowDrewN (Below.refl _ _) _, -1, rfl, by omega, by omega⟩
  · by_cases h2 : y < 0
    · have x0' : w.cell? ⟨g1, o1, none⟩ = some (.bool false) := by rw [x0, decide_eq_false h1]
      have y0' : w.cell? ⟨g2, o2, none⟩ = some (.bool true) := by rw [y0, decide_eq_true h2]
      clear x0 y0
      go_enter Tryz.func138, Tryz.ntmps138
      go_wp2_with fail
      go_quiet (fail)
      go_wp2
      go_ret
      exact ⟨belowDrewN (Below.refl _ _) _, 1, rfl, by omega, by omega⟩
    · have x0' : w.cell? ⟨g1, o1, none⟩ = some (.bool false) := by rw [x0, decide_eq_false h1]
      have y0' : w.cell? ⟨g2, o2, none⟩ = some (.bool false) := by rw [y0, decide_eq_false h2]
      clear x0 y0
      go_enter Tryz.func138, Tryz.ntmps138
      go_wp2_with fail
      go_quiet (fail)
      go_wp2_with fail
      have HS : Hid (∀ w', Below w.heap.size w w' → (w'.cell? ⟨g1, o1 + 1, none⟩ = some (.slice a1 n1 c1) ∧ w'.cell? ⟨g2, o2 + 1, none⟩ = some (.slice a2 n2 c2)) ∧ w'.cell? ⟨g1, o1, none⟩ = some (.bool false)) := fun w' hb => ⟨⟨(hb.cell (p := ⟨g1, o1 + 1, none⟩) xl).trans x1, (hb.cell (p := ⟨g2, o2 + 1, none⟩) yl).trans y1⟩, (hb.cell (p := ⟨g1, o1, none⟩) xl).trans x0'⟩
      go_region_held3 (fun w' => w'.cell? ⟨g1, o1 + 1, none⟩ = some (.slice a1 n1 c1) ∧ w'.cell? ⟨g2, o2 + 1, none⟩ = some (.slice a2 n2 c2)) (first | go_keep | exact hs1)
        (first
          | (go_at_call 187; refine (bigCmp_three (HX.out.below (Below.drew (belowDrewN (Below.refl _ _) _))) (HY.out.below (Below.drew (belowDrewN (Below.refl _ _) _))) SX.out SY.out).mono ?_; rintro e w1 ⟨hb1, c, rfl, hc1, hc2, hc3, hc4⟩; have hbl1 : Below w.heap.size w w1 := (Below.drew (belowDrewN (Below.refl _ _) _)).trans hb1; have hs1 := (HS.out w1 hbl1).1; have u0 := (HS.out w1 hbl1).2))
      all_goals
        have HC := hideIt2 (And.intro hc1 hc2)
        clear hc1 hc2
        go_wp2
        go_ret
        obtain ⟨hc1, hc2⟩ := HC.out
        exact ⟨hbl1, c, by first | rfl | (congr 1; omega), by omega, by omega⟩
theorem isInt_calls {w : World} {gx : Nat} {x : Rat} {k : Nat} (hx : RV w gx x) (fx : QS k x) (hkl : k ≤ 35184372088640) :
    Calls Tryz.prog 87 #[.pointer (some ⟨gx, 0, none⟩)] w fun e w' => Below w.heap.size w w' ∧ e = .returned (.bool (decide (x.den = 1))) := by
  have HX := hideIt2 hx
  have DX := hideIt2 (small_den fx hkl)
  have S1 : Hid (Small (((1 : Nat) : Int)).natAbs) := small_two (k := 1) (by decide) (by decide)
  clear hx fx
  go_enter Tryz.func87, Tryz.ntmps87
  go_wp2_with fail
  refine (den_calls HX.out).mono ?_
  rintro e w1 ⟨hb1, p1, rfl, hv1, _⟩
  have HV1 := hideIt2 hv1
  have HB1 := hideIt2 hb1
  clear hv1 hb1
  go_wp2_with fail
  refine (newInt_calls 1 (by decide) w1).mono ?_
  rintro e w2 ⟨hb2, g2, rfl, hg2, ho2⟩
  have HO2 := hideIt2 ho2
  have HV2 := hideIt2 (HV1.out.below hb2)
  have HB2 := hideIt2 (HB1.out.trans (hb2.mono HB1.out.size))
  clear ho2 hb2
  go_wp2_with fail
  refine (intCmp_calls HV2.out HO2.out.iv DX.out S1.out).mono ?_
  rintro e w3 ⟨hb3, c, rfl, hc1, hc2⟩
  have HB3 := hideIt2 (HB2.out.trans (hb3.mono HB2.out.size))
  have hd : (c == 0) = decide (x.den = 1) := by
    by_cases h : x.den = 1
    · rw [decide_eq_true h, beq_iff_eq]
      exact hc2.2 (by omega)
    · rw [decide_eq_false h, beq_eq_false_iff_ne]
      exact fun e => h (by have := hc2.1 e; omega)
  have HD := hideIt2 hd
  clear hb3 hc1 hc2 hd
  go_wp2
  go_ret
  exact ⟨HB3.out, by rw [← HD.out]; rfl⟩
end Go.Proofs.YtgajdmadbdbabaaGreatDoor
/- TA -/
namespace Go.Proofs.YtgajdmadbdbabaaGreatDoor
open Go.RowKit Cx
theorem byte_at (s : ByteArray) (k : Nat) (h : k < s.size) : s.data.toList[k]'(by simpa using h) = s[k] := rfl
theorem isDigits_calls (s : ByteArray) (w : World) (hs : s.size ≤ 9223372036854775807) :
    Calls Tryz.prog 112 #[.string s] w fun e w' => e = .returned (.bool (digs s.data.toList)) ∧ w' = w := by
  go_enter Tryz.func112, Tryz.ntmps112
  go_wp2
  go_loop [6] (fun i => ∃ k : Nat, k ≤ s.size ∧ i = .int .i64 k ∧ (s.data.toList.take k).all dg = true) (fun i => s.size - (intOf i).toNat)
  case atStart => exact ⟨0, Nat.zero_le _, rfl, by simp⟩
  case round =>
    obtain ⟨k, hk, rfl, hall⟩ := hrel
    have HAL := hideIt hall
    clear hall
    by_cases hlt : k < s.size
    · have hlen : k < s.data.toList.length := by simpa using hlt
      have htk := hideIt (take_snoc8 hlen)
      by_cases h1 : s[k].toNat < 48
      · have HF : Hid (digs s.data.toList = false) := by
          show digs s.data.toList = false
          have hm : s.data.toList.all dg = false := by
            rw [Bool.eq_false_iff]
            intro h
            have := List.all_eq_true.1 h _ (List.getElem_mem hlen)
            have := dg_le this
            rw [byte_at s k hlt] at this
            omega
          simp [digs, hm]
        go_wp2
        go_ret
        exact ⟨by rw [HF.out]; rfl, rfl⟩
      · by_cases h2 : 57 < s[k].toNat
        · have HF : Hid (digs s.data.toList = false) := by
            show digs s.data.toList = false
            have hm : s.data.toList.all dg = false := by
              rw [Bool.eq_false_iff]
              intro h
              have := List.all_eq_true.1 h _ (List.getElem_mem hlen)
              have := dg_le this
              rw [byte_at s k hlt] at this
              omega
            simp [digs, hm]
          go_wp2
          go_ret
          exact ⟨by rw [HF.out]; rfl, rfl⟩
        · go_wp2
          go_round
          case rel =>
            refine ⟨k + 1, by omega, by go_num, ?_⟩
            rw [htk.out, List.all_append, HAL.out, byte_at s k hlt]
            simp [dg]
            omega
          case measure => simp [intOf]; omega
    · have hall : s.data.toList.all dg = true := by
        have := HAL.out
        rwa [List.take_of_length_le (by simp; omega)] at this
      have HF := hideIt hall
      clear hall
      go_wp2
      go_ret
      refine ⟨?_, rfl⟩
      show Ending.returned (Value.bool (!s.toList.isEmpty)) = _
      rw [ByteArray.toList_eq]
      simp [digs, HF.out]
theorem pow_nine {k : Nat} (h : k ≤ 9) : 10 ^ k ≤ 1000000000 := by
  have := Nat.pow_le_pow_right (show 0 < 10 by omega) h
  omega
theorem readRun_calls (s : ByteArray) (w : World) (hs : s.size ≤ 9) (hd : s.data.toList.all dg = true) :
    Calls Tryz.prog 158 #[.string s] w fun e w' => e = .returned (.int .u32 (dv s.data.toList)) ∧ w' = w := by
  have HD := hideIt hd
  clear hd
  go_enter Tryz.func158, Tryz.ntmps158
  go_wp2
  go_loop [3, 7] (fun r i => ∃ k n : Nat, k ≤ s.size ∧ i = .int .i64 k ∧ r = .int .u32 n ∧ n = dv (s.data.toList.take k)) (fun _ i => s.size - (intOf i).toNat)
  case atStart => exact ⟨0, 0, Nat.zero_le _, rfl, rfl, rfl⟩
  case round =>
    obtain ⟨k, n, hk, rfl, rfl, hn⟩ := hrel
    have HN := hideIt hn
    clear hn
    by_cases hlt : k < s.size
    · have hlen : k < s.data.toList.length := by simpa using hlt
      have htk := hideIt (take_snoc8 hlen)
      have hb : n < 100000000 := by
        rw [HN.out]
        have h1 : (s.data.toList.take k).all dg = true := List.all_eq_true.2 fun x hx => List.all_eq_true.1 HD.out x (List.mem_of_mem_take hx)
        have h2 := dv_lt h1
        have h3 : (s.data.toList.take k).length ≤ 8 := by simp; omega
        have h4 := Nat.pow_le_pow_right (show 0 < 10 by omega) h3
        omega
      have hc : 48 ≤ s[k].toNat ∧ s[k].toNat ≤ 57 := by
        have := dg_le (List.all_eq_true.1 HD.out _ (List.getElem_mem hlen))
        rwa [byte_at s k hlt] at this
      obtain ⟨hc1, hc2⟩ := hc
      go_wp2
      go_round
      case rel =>
        refine ⟨k + 1, n * 10 + (s[k].toNat - 48), by omega, by go_num, ?_, ?_⟩
        · first | rfl | go_num
        · rw [htk.out, dv_snoc, ← HN.out, byte_at s k hlt]
      case measure => simp [intOf]; omega
    · go_wp2
      go_ret
      have hn := HN.out
      rw [List.take_of_length_le (by simp; omega)] at hn
      exact ⟨by rw [hn]; rfl, rfl⟩
end Go.Proofs.YtgajdmadbdbabaaGreatDoor
/- TB -/
namespace Go.Proofs.YtgajdmadbdbabaaGreatDoor
open Go.RowKit Cx
def RowC (w : World) (g cap : Nat) (l : List Nat) : Prop := ∃ sp : Array Value, w.heap[g]? = some (.cells (rowOf l ++ sp) 168 (0, 0)) ∧ l.length + sp.size = cap
theorem RowC.row {w : World} {g cap : Nat} {l : List Nat} (h : RowC w g cap l) : Row w g l := ⟨h.choose, h.choose_spec.1⟩
theorem RowC.le {w : World} {g cap : Nat} {l : List Nat} (h : RowC w g cap l) : l.length ≤ cap := by obtain ⟨sp, _, h⟩ := h; omega
theorem RowC.set {w : World} {g cap : Nat} {l : List Nat} (h : RowC w g cap l) {j : Nat} (hj : j < l.length) (y : Nat) {z : Int} (hz : z = (y : Int)) : RowC (w.setCell ⟨g, j, none⟩ (.int .u32 z)) g cap (l.set j y) := by
  obtain ⟨sp, h, hc⟩ := h
  refine ⟨sp, ?_, by simpa using hc⟩
  rw [hz, heap_setCell_same w g j _ _ _ h, Array.setIfInBounds_append_left (by rw [rowOf_size]; exact hj), rowOf_set]
theorem RowC.below {w w' : World} {g cap B : Nat} {l : List Nat} (h : RowC w g cap l) (hb : Below B w w') (hg : g < B) : RowC w' g cap l := by
  obtain ⟨sp, h, hc⟩ := h
  exact ⟨sp, by rw [hb.block g hg, h], hc⟩
theorem RowC.owns {w : World} {g cap : Nat} {l : List Nat} (h : RowC w g cap l) (hm : cap ≤ maxLen) : w.ownsRow g 168 1 (.slice (some ⟨g, 0, none⟩) l.length cap) l.length (l.map fun x : Nat => Value.int .u32 (x : Int)) := by
  obtain ⟨sp, h, hc⟩ := h
  refine ⟨by simp, Or.inr ⟨g, cap, rowOf l ++ sp, rfl, Nat.le_refl _, h, by omega, hm, ?_, ?_⟩⟩
  · simp [rowOf_size]; omega
  · rw [Array.toList_append, Nat.mul_one, List.take_append_of_le_length (by simp [rowOf])]
    simp [rowOf]
    exact List.take_of_length_le (by simp)
theorem rowC_of_owns {w : World} {base n : Nat} {v : Value} {l : List Nat} (hl : l.length = n) (h : w.ownsRow base 168 1 v n (l.map fun x : Nat => Value.int .u32 (x : Int))) (hv : v ≠ .slice none 0 0) :
    ∃ g cap, v = .slice (some ⟨g, 0, none⟩) n cap ∧ base ≤ g ∧ cap ≤ maxLen ∧ RowC w g cap l := by
  rcases h.2 with ⟨h1, _⟩ | ⟨g, cap, cur, rfl, hb, hh, hc, hm, hs, ht⟩
  · exact absurd h1 hv
  · refine ⟨g, cap, rfl, hb, hm, (cur.toList.drop n).toArray, ?_, ?_⟩
    · rw [hh]
      have : cur = rowOf l ++ (cur.toList.drop n).toArray := by
        apply Array.ext'
        rw [Array.toList_append]
        rw [Nat.mul_one] at ht
        have := List.take_append_drop n cur.toList
        rw [ht] at this
        simp [rowOf, this]
      rw [← this]
    · simp; omega
theorem run_round (V cy P A x : Nat) (R : Nat) (h : V + cy * P = A * 1000000000 + R) :
    V + P * ((cy + x * 1000000000) % 4294967296) + ((cy + x * 1000000000) / 4294967296) * (4294967296 * P) = (A + P * x) * 1000000000 + R := by
  have e := Nat.mod_add_div (cy + x * 1000000000) 4294967296
  generalize (cy + x * 1000000000) % 4294967296 = a at *
  generalize (cy + x * 1000000000) / 4294967296 = b at *
  have : P * a + b * (4294967296 * P) = P * (cy + x * 1000000000) := by rw [← e]; grind
  grind
theorem run_trim {l cur : List Nat} {r : Nat} (hc : Lim cur) (tl : Trim l) (hlen : cur.length = l.length) (hv : val cur = val l * 1000000000 + r) : Trim cur := by
  by_cases e : l = []
  · subst e; left; exact List.length_eq_zero_iff.1 hlen
  · right
    have hp : 0 < l.length := List.length_pos_iff.2 e
    have h1 := trim_pos tl e
    intro h0
    have h2 := val_lt_top hc (by omega)
    rw [h0, Nat.zero_add, Nat.one_mul, hlen] at h2
    omega
theorem trim_snoc {l : List Nat} {x : Nat} (h : x ≠ 0) : Trim (l ++ [x]) := by
  right
  simp [nth]
  exact h
def Run (w : World) (g : Nat) (l : List Nat) (t : Nat) (w' : World) (e : Ending) : Prop :=
  ∃ g' cap' l', e = .returned (.slice (some ⟨g', 0, none⟩) l'.length cap') ∧ RowC w' g' cap' l' ∧ Lim l' ∧ (Trim l → Trim l') ∧ val l' = val l * 1000000000 + t ∧ l'.length ≤ l.length + 1 ∧ cap' ≤ maxLen ∧
    ∀ B w0, Below B w0 w → B ≤ g → Below B w0 w' ∧ B ≤ g'
theorem appendRun_calls {w : World} {g cap r : Nat} {l : List Nat} (h : RowC w g cap l) (hl : Lim l) (hlen : l.length ≤ 1099511627776) (hcap : cap ≤ maxLen) (hr : r < 1000000000) :
    Calls Tryz.prog 157 #[.slice (some ⟨g, 0, none⟩) l.length cap, .int .u32 r] w fun e w' => Run w g l r w' e := by
  obtain ⟨i0, hi, hz0, hz1, hz2⟩ := info_parts Tryz.infoU32
  have HL0 := hideIt hl
  have HC := hideIt hcap
  clear hl hcap
  go_enter Tryz.func157, Tryz.ntmps157
  go_wp2
  go_loopw [5, 12] (fun c i wr => ∃ (k cy : Nat) (cur : List Nat), k ≤ l.length ∧ i = .int .i64 k ∧ c = .int .u64 cy ∧ cy < 1000000000 ∧ RowC wr g cap cur ∧ cur.length = l.length ∧ Lim cur ∧ (∀ j, k ≤ j → nth cur j = nth l j) ∧ val (cur.take k) + cy * pw k = val (l.take k) * 1000000000 + r ∧ Only g w wr) (fun _ i _ => l.length - (intOf i).toNat)
  case atStart => exact ⟨0, r, l, Nat.zero_le _, rfl, rfl, hr, h, rfl, HL0.out, fun _ _ => rfl, by simp [val, pw], Only.refl _ _⟩
  case round =>
    obtain ⟨k, cy, cur, hk, rfl, rfl, hcy, hrow, hcl, hcm, hag, hval, honly⟩ := hrel
    have HV := hideIt hval
    have HL := hideIt hcl
    have HG := hideIt hag
    clear hval hcl hag h
    by_cases hlt : k < l.length
    · have hcc := hrow.row.cell (j := k) (by rw [HL.out]; omega)
      have hfz := hrow.row.frozen k
      have hx := nth_lt hcm k
      go_wp2
      go_roundw
      case rel =>
        refine ⟨k + 1, (cy + nth cur k * 1000000000) / 4294967296, cur.set k ((cy + nth cur k * 1000000000) % 4294967296), by omega, by go_num, by go_num, by omega, hrow.set (by rw [HL.out]; omega) _ (by omega), by rw [List.length_set, HL.out], hcm.set (by omega), ?_, ?_, honly.set _ _⟩
        · intro j hj
          rw [nth_set_other (by omega)]
          exact HG.out j (by omega)
        · rw [val_set_take (by rw [HL.out]; omega), val_take_succ, pw_succ, ← HG.out k (Nat.le_refl _)]
          exact run_round _ _ _ _ _ _ HV.out
      case measure => simp [intOf]; omega
    · obtain rfl : k = l.length := by omega
      have hend : Hid (val cur + cy * pw l.length = val l * 1000000000 + r) := by
        have := HV.out
        rw [List.take_length, List.take_of_length_le (by rw [HL.out]; exact Nat.le_refl _)] at this
        exact this
      by_cases h0 : cy = 0
      · subst h0
        go_wp2
        go_ret
        have hv : val cur = val l * 1000000000 + r := by have := hend.out; simpa using this
        refine ⟨g, cap, cur, by rw [HL.out]; rfl, hrow, hcm, fun t => run_trim hcm t HL.out hv, hv, by rw [HL.out]; omega, HC.out, ?_⟩
        intro B w0 hb hB
        exact ⟨honly.below hb hB, hB⟩
      · have hne : ((cy : Int) != 0) = true := by rw [bne_iff_ne]; omega
        have hown := (hrow.below (below_new wr (.cells #[.int .u32 (cy : Int)] 168)) hrow.row.lt).owns HC.out
        rw [HL.out] at hown
        have hnews : ∀ j u, ([Value.int .u32 (cy : Int)] : List Value)[j]? = some u → (wr.alloc (.cells #[.int .u32 (cy : Int)] 168)).cell? (Addr.add ⟨wr.heap.size, 0, none⟩ j) = some u := by
          intro j u hj
          match j, hj with
          | 0, hj => simp at hj; subst hj; simp [Addr.add]
        have HNW := hideIt hnews
        have HC2 := hideIt h0
        clear hnews h0
        go_wp2_with (at_builtin; refine wpList_append_own _ rfl _ _ 82 rfl g 168 i0 (.int .u32 0) 1 4 Tryz.underlying82 hi hz0 hz1 hz2 rfl (by decide) (.slice (some ⟨g, 0, none⟩) l.length cap) l.length (cur.map fun x : Nat => Value.int .u32 (x : Int)) rfl hown ⟨wr.heap.size, 0, none⟩ 1 1 [.int .u32 (cy : Int)] rfl rfl HNW.out (by intro u hu; simp at hu; subst hu; rfl) (by unfold maxLen; omega) (by omega) (by have := hrow.row.lt; simp; omega) ?_; intro v' w1 hown1 hgrow hnil)
        rw [show (List.map (fun x : Nat => Value.int .u32 (x : Int)) cur ++ [Value.int .u32 (cy : Int)]) = (cur ++ [cy]).map (fun x : Nat => Value.int .u32 (x : Int)) from by simp] at hown1
        obtain ⟨g', cap', rfl, hg', hm', hrow'⟩ := rowC_of_owns (l := cur ++ [cy]) (by simp [HL.out]) hown1 (fun e => by have := (hnil.1 e).2; omega)
        have hlen' : (cur ++ [cy]).length = l.length + 1 := by simp [HL.out]
        go_ret
        refine ⟨g', cap', cur ++ [cy], by rw [hlen']; rfl, hrow', ?_, fun _ => trim_snoc HC2.out, ?_, by omega, hm', ?_⟩
        · intro x hx
          rcases List.mem_append.1 hx with hx | hx
          · exact hcm x hx
          · rw [List.mem_singleton.1 hx]; omega
        · rw [val_append, HL.out]
          have := hend.out
          simp only [val]
          rw [← this]; grind
        · intro B w0 hb hB
          have hb1 := honly.below hb hB
          have hlt := hrow.row.lt
          have hb2 : Below B w0 (wr.alloc (.cells #[.int .u32 (cy : Int)] 168)) := hb1.alloc (by omega) _
          refine ⟨⟨hgrow.os.trans hb2.os, hgrow.tape.trans hb2.tape, hgrow.output.trans hb2.output, Nat.le_trans hb2.size hgrow.size, fun i hi => ?_⟩, by omega⟩
          rw [hgrow.block i (by have := hb2.size; simp; omega) (by simp [Value.ownBlock]; omega), hb2.block i hi]
end Go.Proofs.YtgajdmadbdbabaaGreatDoor
/- BV -/
namespace Go.Proofs.YtgajdmadbdbabaaGreatDoor
open Go.RowKit Cx
attribute [local go_sem ↓] Go.wp_at_zero Go.wp_at_succ
theorem bigTrim_far {w : World} {g n : Nat} {l : List Nat} (h : Row w g l) (hl : Lim l) (hn : l.length = n) (hm : n ≤ 9223372036854775807) :
    Calls Tryz.prog 217 #[.slice (some ⟨g, 0, none⟩) n n] w fun e w' => w' = w ∧ ∃ v', e = .returned v' ∧ NatN w v' (val l) ∧ ∃ n c, v' = .slice (some ⟨g, 0, none⟩) n c := by
  subst hn
  have hv := NatV.ofRow h hl (Nat.le_refl _) (Nat.le_refl _) (by unfold maxLen; omega)
  rw [List.take_length] at hv
  by_cases h0 : l.length = 0
  · have := List.length_eq_zero_iff.1 h0
    subst this
    refine (bigTrim_none (some ⟨g, 0, none⟩) 0 w).mono ?_
    rintro e w' ⟨rfl, rfl⟩
    exact ⟨rfl, _, rfl, ⟨[], NatV.nil _ _ _, Or.inl rfl, rfl⟩, _, _, rfl⟩
  · obtain ⟨hl2, ⟨rfl, _⟩ | ⟨b, off, cap, e, hc, hm2, hlt, hs⟩⟩ := hv
    · exact absurd rfl h0
    · simp only [Value.slice.injEq, Option.some.injEq, Addr.mk.injEq, and_true, true_and] at e
      obtain ⟨⟨rfl, rfl⟩, rfl⟩ := e
      have hv := NatV.ofRow h hl (Nat.le_refl _) (Nat.le_refl _) (by unfold maxLen; omega)
      rw [List.take_length] at hv
      refine (bigTrim_some g 0 l.length l w hc hm2 hs).mono ?_
      rintro e w' ⟨rfl, rfl⟩
      refine ⟨rfl, _, rfl, ⟨strip l, ⟨hl.strip, Or.inr ⟨g, 0, l.length, by rw [strip_length], ?_, hm2, hlt, hs.pre _⟩⟩, strip_trim l, val_strip l⟩, _, _, rfl⟩
      rw [strip_length]; have := sig_le l; omega
theorem bigSmall_far {w : World} {ao : Option Addr} {ca b1 o1 d : Nat} {la : List Nat} (ha : Sl w 81 ao ca la b1 o1) (hla : la.length ≤ 1099511627776) (hd : 0 < d) (hd2 : d < 4294967296) :
    Calls Tryz.prog 189 #[.slice ao la.length ca, .int .u32 d] w fun e w' => Below w.heap.size w w' ∧ ∃ v, e = .returned (.tuple #[v, .int .u32 (val la % d : Nat)]) ∧ NatN w' v (val la / d) ∧ ∃ n c, v = .slice (some ⟨w.heap.size, 0, none⟩) n c := by
  have hmk := make_row (t := 81) (by kernel_rfl) la.length (by omega)
  have HA : Hid (Sl w 81 ao ca la b1 o1) := ha
  clear ha
  go_enter Tryz.func189, Tryz.ntmps189
  go_wp2
  go_loopw [7, 8] (fun lf i wr => ∃ (k r : Nat) (cur : List Nat), k ≤ la.length ∧ i = .int .i64 ((k : Int) - 1) ∧ lf = .int .u64 r ∧ r < d ∧ Row wr w.heap.size cur ∧ cur.length = la.length ∧ Lim cur ∧ val (la.drop k) = d * val (cur.drop k) + r ∧ Below w.heap.size w wr) (fun _ i _ => (intOf i + 1).toNat)
  case atStart => exact ⟨la.length, 0, List.replicate la.length 0, Nat.le_refl _, rfl, rfl, hd, Row.new _ _, by simp, lim_zeros _, by rw [List.drop_length, List.drop_of_length_le (by simp)]; simp [val], below_new _ _⟩
  case round =>
    obtain ⟨k, r, cur, hk, rfl, rfl, hrd, hrow, hcl, hcm, hval, hbel⟩ := hrel
    have HV : Hid (val (la.drop k) = d * val (cur.drop k) + r) := hval
    have HL : Hid (cur.length = la.length) := hcl
    clear hval hcl
    by_cases h0 : k = 0
    · subst h0
      go_wp2_with fail
      refine (bigTrim_far hrow hcm HL.out (by omega)).mono ?_
      rintro e w' ⟨rfl, v', rfl, hv', nn, cc, rfl⟩
      go_wp2
      go_ret2
      have h1 := HV.out
      rw [List.drop_zero, List.drop_zero] at h1
      have hq : val cur = val la / d := by
        rw [h1, Nat.mul_add_div hd, Nat.div_eq_of_lt hrd, Nat.add_zero]
      have hm2 : val la % d = r := by
        rw [h1, Nat.mul_add_mod, Nat.mod_eq_of_lt hrd]
      rw [hq] at hv'
      rw [hm2]
      refine ⟨hbel, _, by go_num, hv', _, _, rfl⟩
    · obtain ⟨m, rfl⟩ : ∃ m, k = m + 1 := ⟨k - 1, by omega⟩
      rw [show (((m + 1 : Nat) : Int) - 1) = (m : Int) from by omega]
      have hia := HA.out.idx m (by omega)
      have hca := (hbel.cell (p := ⟨b1, o1 + m, none⟩) (HA.out.lt (by omega))).trans (HA.out.seg m (by omega))
      have hcc := hrow.cell (j := m) (by rw [HL.out]; omega)
      have hfz := hrow.frozen m
      have hx := nth_lt HA.out.lim m
      have hor := shl_or r (nth la m) (by omega) hx
      go_wp2
      go_roundw
      case rel =>
        have hq := limb_quot_lt r (nth la m) d hrd hx
        have e1 : (((r * 4294967296 + nth la m) % d : Nat) : Int) = ((r : Int) * 4294967296 + (nth la m : Int)) % (d : Int) := cast_mod _ _ _
        have e2 : (((r * 4294967296 + nth la m) / d : Nat) : Int) = ((r : Int) * 4294967296 + (nth la m : Int)) / (d : Int) := cast_div _ _ _
        refine ⟨m, (r * 4294967296 + nth la m) % d, cur.set m ((r * 4294967296 + nth la m) / d), by omega, rfl, by rw [e1], Nat.mod_lt _ hd, hrow.set' _ _ (by rw [← e2]; exact mod_id hq), by rw [List.length_set, HL.out], hcm.set hq, ?_, hbel.setCell (Nat.le_refl _) _⟩
        rw [val_drop (l := la) (by omega), val_drop (l := cur.set m _) (by rw [List.length_set, HL.out]; omega), val_drop_set', nth_set_same (by rw [HL.out]; omega)]
        exact limb_round _ _ _ _ _ HV.out
      case measure => simp [intOf]
theorem bigSmall_new {w : World} {va : Value} {a d : Nat} (ha : NatN w va a) (hla : Small a) (hd : 0 < d) (hd2 : d < 4294967296) :
    Calls Tryz.prog 189 #[va, .int .u32 d] w fun e w' => Below w.heap.size w w' ∧ ∃ v, e = .returned (.tuple #[v, .int .u32 (a % d : Nat)]) ∧ NatN w' v (a / d) ∧ ∃ n c, v = .slice (some ⟨w.heap.size, 0, none⟩) n c := by
  obtain ⟨la, ha, ta, rfl⟩ := ha
  obtain ⟨ao, ca, b1, o1, rfl, sa⟩ := ha.sl32
  exact bigSmall_far sa (hla.len ta) hd hd2
def bx (l : List UInt8) : List Value := l.map fun b => Value.int .u8 (b.toNat : Int)
theorem bx_append (a b : List UInt8) : bx (a ++ b) = bx a ++ bx b := List.map_append
theorem bx_length (a : List UInt8) : (bx a).length = a.length := List.length_map _
def dd (n : Nat) : List UInt8 := if n = 0 then [] else Lib.decDigits n
theorem dd_step {a : Nat} (h : a ≠ 0) : dd a = dd (a / 10) ++ [UInt8.ofNat (48 + a % 10)] := by
  unfold dd
  rw [if_neg h, Lib.decDigits]
  by_cases h1 : a < 10
  · rw [dif_pos h1, if_pos (by omega), Nat.mod_eq_of_lt h1]; rfl
  · rw [dif_neg h1, if_neg (by omega)]
theorem dd_round {a n : Nat} {L : List UInt8} (h : a ≠ 0) (e : dd a ++ L.reverse = dd n) : dd (a / 10) ++ (L ++ [UInt8.ofNat (48 + a % 10)]).reverse = dd n := by
  rw [← e, dd_step h, List.reverse_append]
  simp
theorem dd_len {a n : Nat} {L : List UInt8} (e : dd a ++ L.reverse = dd n) : L.length ≤ (Lib.decDigits n).length := by
  have h := congrArg List.length e
  rw [List.length_append, List.length_reverse] at h
  have h2 : (dd n).length ≤ (Lib.decDigits n).length := by
    unfold dd
    split
    · exact Nat.zero_le _
    · exact Nat.le_refl _
  omega
theorem heap_lt {w : World} {g : Nat} {o : Obj} (h : w.heap[g]? = some o) : g < w.heap.size := (Array.getElem?_eq_some_iff.1 h).choose
theorem byte_nat {r : Nat} (h : r < 10) : ((UInt8.ofNat (48 + r)).toNat : Int) = 48 + (r : Int) := by
  rw [UInt8.toNat_ofNat', Nat.mod_eq_of_lt (by omega)]
  omega
theorem NatN.grown {w w' : World} {n k c : Nat} {b o : Nat} {row : Option Nat} (h : NatN w (.slice (some ⟨b, o, none⟩) k c) n) (hg : w.grownBy w' row) (hne : some b ≠ row) : NatN w' (.slice (some ⟨b, o, none⟩) k c) n := by
  obtain ⟨l, ⟨hl, ⟨rfl, ao, cap, e⟩ | ⟨b1, off, cap, e, hc, hm, hlt, hs⟩⟩, t, rfl⟩ := h
  · cases e
    exact ⟨[], NatV.nil _ _ _, t, rfl⟩
  · cases e
    exact ⟨l, ⟨hl, Or.inr ⟨b, o, c, rfl, hc, hm, Nat.lt_of_lt_of_le hlt hg.size, fun j hj => hg.cell (a := ⟨b, o + j, none⟩) (hs j hj) hne⟩⟩, t, rfl⟩
theorem below_grown {a w w' : World} {row : Option Nat} (h : Below a.heap.size a w) (hg : w.grownBy w' row) (hr : ∀ k, row = some k → a.heap.size ≤ k) : Below a.heap.size a w' := by
  refine ⟨hg.os.trans h.os, hg.tape.trans h.tape, hg.output.trans h.output, Nat.le_trans h.size hg.size, fun i hi => ?_⟩
  rw [hg.block i (Nat.lt_of_lt_of_le hi h.size) (fun e => by have := hr i e.symm; omega), h.block i hi]
theorem owns_block {w : World} {base e n : Nat} {v : Value} {xs : List Value} (h : w.ownsRow base e 1 v n xs) : ∀ k, v.ownBlock = some k → base ≤ k ∧ k < w.heap.size := by
  intro k hk
  rcases h.2 with ⟨rfl, _⟩ | ⟨g, cap, cur, rfl, hb, hh, _⟩
  · simp [Value.ownBlock] at hk
  · simp [Value.ownBlock] at hk
    subst hk
    exact ⟨hb, heap_lt hh⟩
theorem owns_bel {w w' : World} {base e n : Nat} {v : Value} {xs : List Value} (h : w.ownsRow base e 1 v n xs) (hb : Below w.heap.size w w') : w'.ownsRow base e 1 v n xs := by
  refine ⟨h.1, ?_⟩
  rcases h.2 with h2 | ⟨g, cap, cur, rfl, hb2, hh, h3⟩
  · exact Or.inl h2
  · exact Or.inr ⟨g, cap, cur, rfl, hb2, (hb.block g (heap_lt hh)).trans hh, h3⟩
theorem one_news (w : World) (v : Value) (t : TypeId) : ∀ j u, ([v] : List Value)[j]? = some u → (w.alloc (.cells #[v] t)).cell? (Addr.add ⟨w.heap.size, 0, none⟩ j) = some u := by
  intro j u hj
  match j, hj with
  | 0, hj => simp at hj; subst hj; simp [Addr.add]
def half (L : List UInt8) (i : Nat) : List UInt8 := (List.range L.length).map fun p => if p < i ∨ L.length - i ≤ p then L.getD (L.length - 1 - p) 0 else L.getD p 0
theorem half_length (L : List UInt8) (i : Nat) : (half L i).length = L.length := by simp [half]
theorem half_at {L : List UInt8} {i p : Nat} (h : p < L.length) : (half L i)[p]? = some (if p < i ∨ L.length - i ≤ p then L.getD (L.length - 1 - p) 0 else L.getD p 0) := by
  simp [half, h]
theorem half_zero (L : List UInt8) : half L 0 = L := by
  apply List.ext_getElem?
  intro p
  by_cases h : p < L.length
  · rw [half_at h, if_neg (by omega), List.getD_eq_getElem?_getD, List.getElem?_eq_getElem h]
    rfl
  · rw [List.getElem?_eq_none (by rw [half_length]; omega), List.getElem?_eq_none (by omega)]
theorem half_all {L : List UInt8} {i : Nat} (h : L.length ≤ 2 * i + 1) : half L i = L.reverse := by
  apply List.ext_getElem?
  intro p
  by_cases hp : p < L.length
  · rw [half_at hp, List.getElem?_reverse hp, List.getElem?_eq_getElem (by omega)]
    split
    · rw [List.getD_eq_getElem?_getD, List.getElem?_eq_getElem (by omega)]; rfl
    · have : L.length - 1 - p = p := by omega
      simp only [this]
      rw [List.getD_eq_getElem?_getD, List.getElem?_eq_getElem hp]; rfl
  · rw [List.getElem?_eq_none (by rw [half_length]; omega), List.getElem?_eq_none (by simp; omega)]
theorem half_step {L : List UInt8} {i : Nat} (h : 2 * i + 1 < L.length) : ((half L i).set i (L.getD (L.length - 1 - i) 0)).set (L.length - 1 - i) (L.getD i 0) = half L (i + 1) := by
  apply List.ext_getElem?
  intro p
  by_cases hp : p < L.length
  · rw [half_at hp]
    by_cases e1 : p = L.length - 1 - i
    · subst e1
      rw [List.getElem?_set_self (by rw [List.length_set, half_length]; omega), if_pos (Or.inr (by omega))]
      rw [show L.length - 1 - (L.length - 1 - i) = i by omega]
    · rw [List.getElem?_set_ne (by omega)]
      by_cases e2 : p = i
      · subst e2
        rw [List.getElem?_set_self (by rw [half_length]; omega), if_pos (Or.inl (by omega))]
      · rw [List.getElem?_set_ne (by omega), half_at hp]
        by_cases e3 : p < i ∨ L.length - i ≤ p
        · rw [if_pos e3, if_pos (by omega)]
        · rw [if_neg e3, if_neg (by omega)]
  · rw [List.getElem?_eq_none (by rw [List.length_set, List.length_set, half_length]; omega), List.getElem?_eq_none (by rw [half_length]; omega)]
end Go.Proofs.YtgajdmadbdbabaaGreatDoor
/- BW -/
namespace Go.Proofs.YtgajdmadbdbabaaGreatDoor
open Go.RowKit Cx
attribute [local go_sem ↓] Go.wp_at_zero Go.wp_at_succ
theorem Tryz.infoU8 : (Tryz.prog.info? 5).map (fun i => (i.zero, i.size, i.bytes)) = some (some (.int .u8 0), 1, 1) := by kernel_rfl
theorem text_next {w w0 w2 w4 : World} {a n : Nat} {L : List UInt8} {bs v' : Value} {nn cc r : Nat} (hr : a % 10 = r) (ha : a ≠ 0) (e : dd a ++ L.reverse = dd n)
    (hown : w0.ownsRow w.heap.size 5 1 bs L.length (bx L)) (hbl : Below w.heap.size w w0) (hb2 : Below w0.heap.size w0 w2) (hv : NatN w2 (.slice (some ⟨w0.heap.size, 0, none⟩) nn cc) (a / 10))
    (hown4 : w4.ownsRow w.heap.size 5 1 v' (L.length + 1) (bx L ++ [.int .u8 (48 + (r : Int))])) (hg : (w2.alloc (.cells #[.int .u8 (48 + (r : Int))] 5)).grownBy w4 bs.ownBlock) :
    ∃ (L' : List UInt8) (a' : Nat), a' < a ∧ w4.ownsRow w.heap.size 5 1 v' L'.length (bx L') ∧ NatN w4 (.slice (some ⟨w0.heap.size, 0, none⟩) nn cc) a' ∧ dd a' ++ L'.reverse = dd n ∧ Below w.heap.size w w4 ∧ a' = a / 10 := by
  have hr2 : r < 10 := by omega
  refine ⟨L ++ [UInt8.ofNat (48 + r)], a / 10, by omega, ?_, ?_, ?_, ?_, rfl⟩
  · rw [bx_append, List.length_append]
    show World.ownsRow _ _ _ _ _ _ (bx L ++ [Value.int .u8 ((UInt8.ofNat (48 + r)).toNat : Int)])
    rw [byte_nat hr2]
    exact hown4
  · refine (hv.below (below_new _ _)).grown hg ?_
    intro h
    have := (owns_block hown _ h.symm).2
    omega
  · rw [← hr]
    exact dd_round ha e
  · refine below_grown (Below.new (hbl.trans (hb2.mono hbl.size)) _) hg ?_
    intro k hk
    exact (owns_block hown _ hk).1
theorem owns_slice {w : World} {base e n : Nat} {v : Value} {xs : List Value} (h : w.ownsRow base e 1 v n xs) (hv : v ≠ .slice none 0 0) : ∃ g cap, v = .slice (some ⟨g, 0, none⟩) n cap ∧ base ≤ g ∧ n ≤ cap ∧ cap ≤ maxLen := by
  rcases h.2 with ⟨h1, _⟩ | ⟨g, cap, cur, rfl, hb, hh, hc, hm, _⟩
  · exact absurd h1 hv
  · exact ⟨g, cap, rfl, hb, hc, hm⟩
theorem owns_some {w : World} {base e n : Nat} {v : Value} {L : List UInt8} (h : w.ownsRow base e 1 v n (bx L)) (hL : L ≠ []) : v ≠ .slice none 0 0 := by
  rintro rfl
  rcases h.2 with ⟨_, h1⟩ | ⟨g, cap, cur, h1, _⟩
  · apply hL
    have h2 := h.1
    rw [bx_length] at h2
    exact List.length_eq_zero_iff.1 (by omega)
  · cases h1
def gd (M : List UInt8) (p : Nat) : UInt8 := M.getD p 0
theorem rev_cell {w : World} {base g cap : Nat} {M : List UInt8} {i p : Nat} (h : w.ownsRow base 5 1 (.slice (some ⟨g, 0, none⟩) M.length cap) M.length (bx (half M i))) (hp : p < M.length) (h2 : ¬ (p < i ∨ M.length - i ≤ p)) : w.cell? ⟨g, p, none⟩ = some (.int .u8 ((gd M p).toNat : Int)) := by
  rw [h.cellAt p (by omega)]
  simp only [bx, List.getElem?_map, half_at hp, if_neg h2, Option.map_some]
  rfl
theorem rev_step {w : World} {base g cap : Nat} {M : List UInt8} {i j : Nat} (h : w.ownsRow base 5 1 (.slice (some ⟨g, 0, none⟩) M.length cap) M.length (bx (half M i))) (hij : i + j + 1 = M.length) (hlt : i < j) :
    ((w.setCell ⟨g, i, none⟩ (.int .u8 ((gd M j).toNat : Int))).setCell ⟨g, j, none⟩ (.int .u8 ((gd M i).toNat : Int))).ownsRow base 5 1 (.slice (some ⟨g, 0, none⟩) M.length cap) M.length (bx (half M (i + 1))) := by
  have h1 := (h.stored i (.int .u8 ((gd M j).toNat : Int))).1
  have h2 := (h1.stored j (.int .u8 ((gd M i).toNat : Int))).1
  have hst := half_step (L := M) (i := i) (by omega)
  rw [show M.length - 1 - i = j by omega] at hst
  rw [← hst]
  have e : bx (((half M i).set i (gd M j)).set j (gd M i)) = ((bx (half M i)).set i (.int .u8 ((gd M j).toNat : Int))).set j (.int .u8 ((gd M i).toNat : Int)) := by
    simp [bx, List.map_set]
  show World.ownsRow _ _ _ _ _ _ (bx (((half M i).set i (gd M j)).set j (gd M i)))
  rw [e]
  exact h2
theorem rev_text {w : World} {base g cap : Nat} {M : List UInt8} {i j : Nat} (h : w.ownsRow base 5 1 (.slice (some ⟨g, 0, none⟩) M.length cap) M.length (bx (half M i))) (hij : i + j + 1 = M.length) (hlt : ¬ i < j) :
    (convert 176 9 (.slice (some ⟨g, 0, none⟩) M.length cap)).run Tryz.prog w = .ok (.string ⟨M.reverse.toArray⟩) w := by
  have := run_convert_bytes_back (P := Tryz.prog) w 176 9 5 ⟨g, 0, none⟩ cap M.reverse Tryz.underlying176 Tryz.underlying5 Tryz.underlying9 (fun k hk => by
    have hk2 : k < M.length := by simpa using hk
    have := h.cellAt k (by omega)
    rw [half_all (by omega)] at this
    have ea : Addr.add ⟨g, 0, none⟩ k = ⟨g, k, none⟩ := by unfold Addr.add; split <;> simp_all
    rw [ea, this]
    simp only [bx, List.getElem?_map, List.getElem?_eq_getElem hk, Option.map_some])
  rw [List.length_reverse] at this
  exact this
theorem intText_walk {w : World} {p : Value} {x : Int} (hx : IV w p x) (sx : Small x.natAbs) (hne : x ≠ 0) (hd : (Lib.decDigits x.natAbs).length ≤ 140737488355300) :
    Calls Tryz.prog 139 #[p, .int .i64 10] w fun e w' => Below w.heap.size w w' ∧ e = .returned (.string ⟨((if x < 0 then [45] else []) ++ Lib.decDigits x.natAbs).toArray⟩) := by
  obtain ⟨g, o, ao, n, c, rfl, x0, x1, x2, xl⟩ := hx
  obtain ⟨i0, hi, hz0, hz1, hz2⟩ := info_parts Tryz.infoU8
  generalize hT : ((if x < 0 then [45] else []) ++ Lib.decDigits x.natAbs : List UInt8) = T
  have HT := hideIt2 hT
  clear hT
  have hn0 : n ≠ 0 := by
    obtain ⟨_, _, _, e, _, _, hz⟩ := big_len x2
    cases e
    intro h
    have := hz.1 h
    omega
  have hnb : ((n : Int) == 0) = false := beq_eq_false_iff_ne.mpr (by omega)
  have HX := hideIt2 x2
  have SX := hideIt2 sx
  have HD := hideIt2 hd
  clear x2 sx hd
  go_enter Tryz.func139, Tryz.ntmps139
  go_wp2_with fail
  refine (bigTwin_calls HX.out SX.out).mono ?_
  rintro e w1 ⟨hb1, v1, rfl, hv1⟩
  have HB1 := hideIt2 hb1
  have HV1 := hideIt2 hv1
  clear hb1 hv1
  go_wp2
  go_loopg [5, 6] x.natAbs (fun k bs av wr => ∃ (L : List UInt8) (a : Nat), a ≤ k ∧ a ≤ x.natAbs ∧ wr.ownsRow w.heap.size 5 1 bs L.length (bx L) ∧ NatN wr av a ∧ dd a ++ L.reverse = dd x.natAbs ∧ Below w.heap.size w wr)
  case atStart => exact ⟨[], x.natAbs, Nat.le_refl _, Nat.le_refl _, World.ownsRow_nil _ _ _ _, HV1.out, by simp, HB1.out⟩
  case round =>
    obtain ⟨L, a, hak, han, hown, hva, hdd, hbl⟩ := hrel
    have HOWN := hideIt2 hown
    have HVA := hideIt2 hva
    have HDD := hideIt2 hdd
    have HBL := hideIt2 hbl
    have HLL := hideIt2 (dd_len hdd)
    obtain ⟨ab, na, ca, rfl, _, _, hz⟩ := big_len hva
    have HZ := hideIt2 hz
    have hy0 := (hbl.cell (p := ⟨g, o, none⟩) xl).trans x0
    clear hown hva hdd hbl hz
    by_cases ha : a = 0
    · have hna : na = 0 := HZ.out.2 ha
      subst hna
      have HLR : Hid (L.reverse = Lib.decDigits x.natAbs) := by
        have := HDD.out
        subst ha
        have h0 : x.natAbs ≠ 0 := by omega
        simp only [dd, if_neg h0, if_true, List.nil_append] at this
        exact this
      have hL0 : L ≠ [] := by
        intro e
        have := HLR.out
        rw [e] at this
        have h1 := Lib.decDigits_length x.natAbs
        rw [← this] at h1
        have h2 := Lib.nDigits_pos x.natAbs
        simp at h1
        omega
      have hlen : L.length + 1 ≤ 140737488355328 := by have := HLL.out; have := HD.out; omega
      by_cases hs : x < 0
      · rw [decide_eq_true hs] at hy0
        have HO2 := hideIt2 (owns_bel HOWN.out (below_new wr (.cells #[.int .u8 45] 5)))
        have HNW := hideIt2 (one_news wr (.int .u8 45) 5)
        obtain ⟨M, hM⟩ : ∃ M, L ++ [45] = M := ⟨_, rfl⟩
        have HMB : Hid (bx L ++ [Value.int .u8 45] = bx M ∧ L.length + 1 = M.length) := by
          refine ⟨?_, ?_⟩
          · rw [← hM, bx_append]; rfl
          · rw [← hM]; simp
        have HMM := hideIt2 hM
        clear hM
        have hM0 : 0 < M.length := by have := HMB.out.2; omega
        have hMm : M.length ≤ 140737488355328 := by have := HMB.out.2; omega
        go_wp2_with (at_builtin; refine wpList_append_own _ rfl _ _ 176 rfl w.heap.size 5 i0 (.int .u8 0) 1 1 Tryz.underlying176 hi hz0 hz1 hz2 rfl (by decide) _ L.length (bx L) rfl HO2.out ⟨wr.heap.size, 0, none⟩ 1 1 [.int .u8 45] rfl rfl HNW.out (by intro u hu; simp at hu; subst hu; rfl) (by unfold maxLen; omega) (by omega) (by have := HBL.out.size; simp; omega) ?_; intro v' w4 hown4 hgrow hnil; rw [HMB.out.1, HMB.out.2] at hown4; obtain ⟨g2, cap, rfl, hg2, hc2, hm2⟩ := owns_slice hown4 (fun e => by have := (hnil.1 e).2; omega))
        have HR : Hid (T = M.reverse) := by
          show _ = _
          rw [← HT.out, if_pos hs, ← HMM.out, List.reverse_append, HLR.out]
          rfl
        have HM := hideIt2 (And.intro hown4 (below_grown (Below.new HBL.out _) hgrow (fun k hk => (owns_block HOWN.out _ hk).1)))
        clear hown4 hgrow hnil hlen
        go_wp2
        go_loopw [8, 9] (fun iv jv wx => ∃ i j : Nat, iv = .int .i64 i ∧ jv = .int .i64 j ∧ i + j + 1 = M.length ∧ wx.ownsRow w.heap.size 5 1 (.slice (some ⟨g2, 0, none⟩) M.length cap) M.length (bx (half M i)) ∧ Below w.heap.size w wx) (fun iv _ _ => M.length - (intOf iv).toNat)
        case atStart => exact ⟨0, M.length - 1, rfl, by rw [show ((M.length - 1 : Nat) : Int) = (M.length : Int) - 1 by omega], by omega, by rw [half_zero]; exact HM.out.1, HM.out.2⟩
        case round =>
          obtain ⟨i, j, rfl, rfl, hij, hw, hbx⟩ := hrel
          have HW := hideIt2 (And.intro hw (And.intro hij hbx))
          have hiM : i < M.length := by omega
          have hjM : j < M.length := by omega
          by_cases hlt : i < j
          · have ci := rev_cell hw hiM (by omega)
            have cj := rev_cell hw hjM (by omega)
            have fi := hw.frozenAt i
            have fj := hw.frozenAt j
            clear hw hij hbx
            go_wp2
            go_roundw
            case rel => exact ⟨i + 1, j - 1, by rw [show ((i + 1 : Nat) : Int) = (i : Int) + 1 by omega], by rw [show ((j - 1 : Nat) : Int) = (j : Int) - 1 by omega], by have := HW.out.2.1; omega, rev_step HW.out.1 HW.out.2.1 hlt, Below.set (Below.set HW.out.2.2 hg2 _ _) hg2 _ _⟩
            case measure => simp [intOf]; omega
          · have hcv := rev_text hw hij hlt
            clear hw hij hbx
            go_wp2
            go_ret
            exact ⟨HW.out.2.2, by rw [HR.out]; rfl⟩
      · rw [decide_eq_false hs] at hy0
        obtain ⟨g2, cap, hv', hg2, hc2, hm2⟩ := owns_slice HOWN.out (owns_some HOWN.out hL0)
        subst hv'
        generalize hM : L = M at *
        have HR : Hid (T = M.reverse) := by
          show _ = _
          rw [← HT.out, if_neg hs, HLR.out]
          rfl
        have HM := hideIt2 (And.intro HOWN.out HBL.out)
        have hM0 : 0 < M.length := List.length_pos_iff.2 hL0
        have hMm : M.length ≤ 140737488355328 := by omega
        clear hlen
        go_wp2
        go_loopw [8, 9] (fun iv jv wx => ∃ i j : Nat, iv = .int .i64 i ∧ jv = .int .i64 j ∧ i + j + 1 = M.length ∧ wx.ownsRow w.heap.size 5 1 (.slice (some ⟨g2, 0, none⟩) M.length cap) M.length (bx (half M i)) ∧ Below w.heap.size w wx) (fun iv _ _ => M.length - (intOf iv).toNat)
        case atStart => exact ⟨0, M.length - 1, rfl, by rw [show ((M.length - 1 : Nat) : Int) = (M.length : Int) - 1 by omega], by omega, by rw [half_zero]; exact HM.out.1, HM.out.2⟩
        case round =>
          obtain ⟨i, j, rfl, rfl, hij, hw, hbx⟩ := hrel
          have HW := hideIt2 (And.intro hw (And.intro hij hbx))
          have hiM : i < M.length := by omega
          have hjM : j < M.length := by omega
          by_cases hlt : i < j
          · have ci := rev_cell hw hiM (by omega)
            have cj := rev_cell hw hjM (by omega)
            have fi := hw.frozenAt i
            have fj := hw.frozenAt j
            clear hw hij hbx
            go_wp2
            go_roundw
            case rel => exact ⟨i + 1, j - 1, by rw [show ((i + 1 : Nat) : Int) = (i : Int) + 1 by omega], by rw [show ((j - 1 : Nat) : Int) = (j : Int) - 1 by omega], by have := HW.out.2.1; omega, rev_step HW.out.1 HW.out.2.1 hlt, Below.set (Below.set HW.out.2.2 hg2 _ _) hg2 _ _⟩
            case measure => simp [intOf]; omega
          · have hcv := rev_text hw hij hlt
            clear hw hij hbx
            go_wp2
            go_ret
            exact ⟨HW.out.2.2, by rw [HR.out]; rfl⟩
    · have hna : na ≠ 0 := fun h => ha (HZ.out.1 h)
      have HSA : Hid (Small a) := small_of SX.out han
      go_wp2_with fail
      refine (bigSmall_new (d := 10) HVA.out HSA.out (by decide) (by decide)).mono ?_
      generalize hr : a % 10 = r
      have hr10 : r < 10 := by omega
      rintro e w2 ⟨hb2, v2, rfl, hv2, nn, cc, rfl⟩
      have HB2 := hideIt2 hb2
      have HV2 := hideIt2 hv2
      have HR := hideIt2 hr
      have hown2 := owns_bel HOWN.out (Below.new hb2 (.cells #[.int .u8 (48 + (r : Int))] 5))
      have HNW := hideIt2 (one_news w2 (.int .u8 (48 + (r : Int))) 5)
      have HO2 := hideIt2 hown2
      have hlen : L.length + 1 ≤ 140737488355328 := by have := HLL.out; have := HD.out; omega
      clear hb2 hv2 hr hown2
      go_wp2_with (at_builtin; refine wpList_append_own _ rfl _ _ 176 rfl w.heap.size 5 i0 (.int .u8 0) 1 1 Tryz.underlying176 hi hz0 hz1 hz2 rfl (by decide) _ L.length (bx L) rfl HO2.out ⟨w2.heap.size, 0, none⟩ 1 1 [.int .u8 (48 + (r : Int))] rfl rfl HNW.out (by intro u hu; simp at hu; subst hu; rfl) (by unfold maxLen; omega) (by omega) (by have := HBL.out.size; have := HB2.out.size; simp; omega) ?_; intro v' w4 hown4 hgrow hnil)
      obtain ⟨L', a', h1, h2, h3, h4, h5, h6⟩ := text_next HR.out ha HDD.out HOWN.out HBL.out HB2.out HV2.out hown4 hgrow
      have HF := hideIt2 (And.intro h2 (And.intro h3 (And.intro h4 h5)))
      clear h2 h3 h4 h5 hown4 hgrow hnil
      go_wp2
      go_roundg a'
      case measure => omega
      case rel => exact ⟨L', a', Nat.le_refl _, by omega, HF.out.1, HF.out.2.1, HF.out.2.2.1, HF.out.2.2.2⟩
end Go.Proofs.YtgajdmadbdbabaaGreatDoor
/- BX -/
namespace Go.Proofs.YtgajdmadbdbabaaGreatDoor
open Go.RowKit Cx
attribute [local go_sem ↓] Go.wp_at_zero Go.wp_at_succ
def zx (x : Int) : List UInt8 := (if x < 0 then [45] else []) ++ Lib.decDigits x.natAbs
theorem zx_zero : zx 0 = [48] := by
  unfold zx
  rw [if_neg (by decide)]
  show Lib.decDigits 0 = _
  rw [Lib.decDigits, dif_pos (by decide)]
  rfl
theorem intText_zero {w : World} {p : Value} (hx : IV w p 0) :
    Calls Tryz.prog 139 #[p, .int .i64 10] w fun e w' => w' = w ∧ e = .returned (.string ⟨#[48]⟩) := by
  obtain ⟨g, o, ao, n, c, rfl, x0, x1, x2, xl⟩ := hx
  have hn0 : n = 0 := by
    obtain ⟨_, _, _, e, _, _, hz⟩ := big_len x2
    cases e
    exact hz.2 rfl
  subst hn0
  clear x2
  go_enter Tryz.func139, Tryz.ntmps139
  go_wp2
  go_ret
  exact ⟨rfl, rfl⟩
theorem intText_calls {w : World} {p : Value} {x : Int} {k : Nat} (hx : IV w p x) (sx : x.natAbs < 2 ^ k) (hk : k ≤ 35184372088640) :
    Calls Tryz.prog 139 #[p, .int .i64 10] w fun e w' => Below w.heap.size w w' ∧ e = .returned (.string ⟨(zx x).toArray⟩) := by
  by_cases h : x = 0
  · subst h
    refine (intText_zero hx).mono ?_
    rintro e w' ⟨rfl, rfl⟩
    exact ⟨Below.refl _ _, by rw [zx_zero]⟩
  · refine intText_walk hx (small_two sx hk) h ?_
    rw [Lib.decDigits_length]
    have := nDigits_two sx
    omega
theorem intString_calls {w : World} {p : Value} {x : Int} {k : Nat} (hx : IV w p x) (sx : x.natAbs < 2 ^ k) (hk : k ≤ 35184372088640) :
    Calls Tryz.prog 89 #[p] w fun e w' => Below w.heap.size w w' ∧ e = .returned (.string ⟨(zx x).toArray⟩) := by
  have h := intText_calls hx sx hk
  obtain ⟨g, o, ao, n, c, rfl, x0, x1, x2, xl⟩ := hx
  clear x0 x1 x2
  go_enter Tryz.func89, Tryz.ntmps89
  go_wp2_with fail
  refine h.mono ?_
  rintro e w1 ⟨hb, rfl⟩
  have HB := hideIt2 hb
  clear hb
  go_wp2
  go_ret
  exact ⟨HB.out, rfl⟩
theorem ratDenom_calls {w : World} {g : Nat} {x : Rat} {k : Nat} (hx : RV w g x) (fx : QS k x) (hkl : k ≤ 35184372088640) :
    Calls Tryz.prog 90 #[.pointer (some ⟨g, 0, none⟩)] w fun e w' => Below w.heap.size w w' ∧ ∃ g', e = .returned (.pointer (some ⟨g', 0, none⟩)) ∧ Own2 w' g' (x.den : Int) := by
  have HX := hideIt2 hx
  have LX := hideIt2 hx.lt
  have DX := hideIt2 (small_den fx hkl)
  clear hx fx
  go_enter Tryz.func90, Tryz.ntmps90
  go_wp2_with fail
  refine (den_calls (HX.out.below (below_new _ _))).mono ?_
  rintro e w1 ⟨hb1, p1, rfl, hv1, hap1⟩
  have HB1 := hideIt2 hb1
  have HV1 := hideIt2 hv1
  have HA1 := hideIt2 (hap1 w.heap.size (by have := LX.out; omega) (by simp))
  have HK1 := hideIt2 (blk_bel hb1 (Blk.new w #[.bool false, .slice none 0 0] 116))
  clear hb1 hv1 hap1
  go_wp2_with fail
  refine (intSet_calls (At2.blk HK1.out) HV1.out HA1.out DX.out).mono ?_
  rintro e w2 ⟨rfl, hg⟩
  have HG := hideIt2 hg
  clear hg
  go_wp2
  go_ret
  exact ⟨bel_sav (bel_bel (below_new _ _) HB1.out) HG.out.save (Nat.le_refl _), _, rfl, (HG.out.own HK1.out).1⟩
theorem tx_whole {q : Rat} (h : q.den = 1) : tx q = zx q.num := by
  unfold tx zx
  rw [if_pos h, List.append_nil]
theorem tx_parts {q : Rat} (h : q.den ≠ 1) : tx q = zx q.num ++ (47 :: zx (q.den : Int)) := by
  unfold tx zx
  rw [if_neg h, if_neg (show ¬ ((q.den : Int) < 0) by omega), List.nil_append, Int.natAbs_natCast, List.append_assoc]
theorem zx_len {x : Int} {k : Nat} (sx : x.natAbs < 2 ^ k) : (zx x).length ≤ k + 2 := by
  unfold zx
  rw [List.length_append, Lib.decDigits_length]
  have h1 := nDigits_two sx
  have h3 : (if x < 0 then ([45] : List UInt8) else []).length ≤ 1 := by split <;> simp
  omega
theorem refT_calls {w : World} {g : Nat} {x : Rat} {k : Nat} (hx : RV w g x) (fx : QS k x) (hkl : k ≤ 35184372088640) :
    Calls Tryz.prog 36 #[.pointer (some ⟨g, 0, none⟩)] w fun e w' => Below w.heap.size w w' ∧ e = .returned (.string ⟨(tx x).toArray⟩) := by
  have HX := hideIt2 hx
  have FX := hideIt2 fx
  clear hx
  by_cases hd : x.den = 1
  · have HD := hideIt2 hd
    have hdd : decide (x.den = 1) = true := decide_eq_true hd
    have HT := hideIt2 (tx_whole hd)
    clear hd
    go_enter Tryz.func36, Tryz.ntmps36
    go_wp2_with fail
    refine (isInt_calls HX.out FX.out hkl).mono ?_
    rintro e w1 ⟨hb1, rfl⟩
    rw [hdd]
    have HB1 := hideIt2 hb1
    clear hb1 hdd
    go_wp2_with fail
    refine (ratNum_calls g w1).mono ?_
    rintro e w2 ⟨hw, rfl⟩
    subst hw
    go_wp2_with fail
    refine (intString_calls (HX.out.below HB1.out).num FX.out.num hkl).mono ?_
    rintro e w3 ⟨hb3, rfl⟩
    have HB3 := hideIt2 (bel_bel HB1.out hb3)
    clear hb3
    go_wp2
    go_ret
    exact ⟨HB3.out, by rw [HT.out]; rfl⟩
  · have hdd : decide (x.den = 1) = false := decide_eq_false hd
    have HT := hideIt2 (tx_parts hd)
    have hl1 := zx_len fx.num
    have hl2 : (zx (x.den : Int)).length ≤ k + 2 := zx_len (by rw [Int.natAbs_natCast]; exact fx.den)
    clear hd
    go_enter Tryz.func36, Tryz.ntmps36
    go_wp2_with fail
    refine (isInt_calls HX.out FX.out hkl).mono ?_
    rintro e w1 ⟨hb1, rfl⟩
    rw [hdd]
    have HB1 := hideIt2 hb1
    clear hb1 hdd
    go_wp2_with fail
    refine (ratNum_calls g w1).mono ?_
    rintro e w2 ⟨hw, rfl⟩
    subst hw
    go_wp2_with fail
    refine (intString_calls (HX.out.below HB1.out).num FX.out.num hkl).mono ?_
    rintro e w3 ⟨hb3, rfl⟩
    have HB3 := hideIt2 (bel_bel HB1.out hb3)
    clear hb3
    go_wp2_with fail
    refine (ratDenom_calls (HX.out.below HB3.out) FX.out hkl).mono ?_
    rintro e w4 ⟨hb4, g4, rfl, ho4⟩
    have HB4 := hideIt2 (bel_bel HB3.out hb4)
    have HO4 := hideIt2 ho4
    clear hb4 ho4
    go_wp2_with fail
    refine (intString_calls HO4.out.iv (k := k) (by rw [Int.natAbs_natCast]; exact FX.out.den) hkl).mono ?_
    rintro e w5 ⟨hb5, rfl⟩
    have HB5 := hideIt2 (bel_bel HB4.out hb5)
    clear hb5
    go_wp2
    go_ret
    exact ⟨HB5.out, by rw [HT.out]; simp; apply ByteArray.ext; simp [ByteArray.data_append]⟩
end Go.Proofs.YtgajdmadbdbabaaGreatDoor
/- ShelfB -/
/- TC -/
namespace Go.Proofs.YtgajdmadbdbabaaGreatDoor
open Go.RowKit Cx
theorem make_cap {t : TypeId} (ht : Tryz.prog.underlying t = some (.slice 168)) (n : Nat) (hn : n ≤ 70368744177664) (w : World) :
    (Instr.makeSlice t (.int .i64 0) (.int .i64 n)).run Tryz.prog w = .ok (.slice (some ⟨w.heap.size, 0, none⟩) 0 n) (w.alloc (.cells (rowOf (List.replicate n 0)) 168)) := by
  obtain ⟨i, hi, hz0, hz1, hz2⟩ := info_parts Tryz.infoU32
  have h := run_make (P := Tryz.prog) w t 168 i (.int .u32 0) ht hi hz0 .i64 .i64 0 n (by omega) (by omega) (by rw [hz2]; omega) (by omega)
  rw [hz1] at h
  rw [← made_row]
  simpa using h
theorem RowC.new (w : World) (n : Nat) : RowC (w.alloc (.cells (rowOf (List.replicate n 0)) 168)) w.heap.size n [] :=
  by
  refine ⟨rowOf (List.replicate n 0), ?_, by simp [rowOf]⟩
  show (w.heap.push _)[w.heap.size]? = _
  simp [rowOf]
theorem bytes_take (u : ByteArray) (n : Nat) : (u.extract 0 n).data.toList = u.data.toList.take n := by
  simp [ByteArray.data_extract, Array.toList_extract, List.extract]
theorem bytes_drop (u : ByteArray) (n : Nat) : (u.extract n u.size).data.toList = u.data.toList.drop n := by
  simp [ByteArray.data_extract, Array.toList_extract, List.extract]
  exact List.take_of_length_le (by simp)
theorem read_round {V u : Nat} {l : List UInt8} {n r X : Nat} (hn : n ≤ l.length) (hu : u = l.length) (h9 : V = 0 ∨ n = 9) (hr : dv (l.take n) = r) (h : V * 10 ^ u + dv l = X) : (V * 1000000000 + r) * 10 ^ (u - n) + dv (l.drop n) = X := by
  have e := dv_append (l.take n) (l.drop n)
  rw [List.take_append_drop, List.length_drop, hr, ← hu] at e
  rw [← h, e]
  rcases h9 with rfl | rfl
  · simp
  · have : 10 ^ u = 1000000000 * 10 ^ (u - 9) := by
      rw [show (1000000000 : Nat) = 10 ^ 9 from rfl, ← Nat.pow_add]; congr 1; omega
    rw [this, Nat.add_mul, Nat.mul_assoc, Nat.add_assoc]
theorem dv_dropZero (l : List UInt8) : dv (l.dropWhile (· == 48)) = dv l := by
  induction l with
  | nil => rfl
  | cons c l ih =>
    by_cases h : c = 48
    · subst h
      rw [List.dropWhile_cons_of_pos (by rfl), ih, dv_cons]
      simp
    · rw [List.dropWhile_cons_of_neg (by simpa using h)]
theorem trimmed (s : ByteArray) (hd : s.data.toList.all dg = true) : ∃ t : ByteArray, t = ⟨(Lib.trimLeftB s.data.toList 48).toArray⟩ ∧ t.size ≤ s.size ∧ Hid (t.data.toList.all dg = true) ∧ Hid (dv t.data.toList = dv s.data.toList) := by
  refine ⟨_, rfl, ?_, ?_, ?_⟩
  · show (List.toArray (Lib.trimLeftB s.data.toList 48)).size ≤ s.data.size
    have := (List.dropWhile_sublist (l := s.data.toList) (· == 48)).length_le
    simpa [Lib.trimLeftB] using this
  · show (Lib.trimLeftB s.data.toList 48).all dg = true
    exact List.all_eq_true.2 fun x hx => List.all_eq_true.1 hd x ((List.dropWhile_sublist _).subset hx)
  · exact dv_dropZero _
theorem readNat_calls (s : ByteArray) (w : World) (hs : s.size ≤ 4294967296) (hd : s.data.toList.all dg = true) :
    Calls Tryz.prog 114 #[.string s] w fun e w' => Below w.heap.size w w' ∧ ∃ v, e = .returned v ∧ NatN w' v (dv s.data.toList) := by
  have HD := hideIt hd
  clear hd
  go_enter Tryz.func114, Tryz.ntmps114
  go_wp2_with fail
  refine (Tryz.strings_TrimLeft_one s 48 (by decide) w).mono ?_
  rintro e w1 ⟨rfl, hw1⟩
  subst hw1
  have HT : ∃ t : ByteArray, t = ⟨(Lib.trimLeftB s.data.toList 48).toArray⟩ ∧ t.size ≤ s.size ∧ Hid (t.data.toList.all dg = true) ∧ Hid (dv t.data.toList = dv s.data.toList) := trimmed s HD.out
  obtain ⟨t, et, htl, HD1, HV1⟩ := HT
  rw [← et]
  clear et
  have hmk := make_cap (t := 82) (by kernel_rfl) (t.size / 9 + 1) (by omega)
  have ec : ((t.size / 9 + 1 : Nat) : Int) = (t.size : Int) / 9 + 1 := by omega
  rw [ec] at hmk
  clear ec
  go_wp2
  go_loopg [0, 3] t.size (fun k x y wr => ∃ (u : ByteArray) (l : List Nat) (g cap : Nat), x = .string u ∧ y = .slice (some ⟨g, 0, none⟩) l.length cap ∧ u.size ≤ k ∧ l.length + u.size ≤ t.size ∧ u.data.toList.all dg = true ∧ RowC wr g cap l ∧ cap ≤ maxLen ∧ Lim l ∧ Trim l ∧ (val l = 0 ∨ u.size % 9 = 0) ∧ val l * 10 ^ u.size + dv u.data.toList = dv s.data.toList ∧ Below w1.heap.size w1 wr ∧ w1.heap.size ≤ g)
  case atStart =>
    exact ⟨t, [], w1.heap.size, t.size / 9 + 1, rfl, rfl, Nat.le_refl _, by simp, HD1.out, RowC.new _ _, by unfold maxLen; omega, fun x hx => by simp at hx, Or.inl rfl, Or.inl rfl, by rw [HV1.out]; simp [val], below_new _ _, Nat.le_refl _⟩
  case round =>
    obtain ⟨u, l, g, cap, rfl, rfl, huk, hlu, hdu, hrow, hcap, hlim, htr, hnine, hval, hbel, hg⟩ := hrel
    have H1 := hideIt hdu
    have H2 := hideIt hrow
    have H3 := hideIt hcap
    have H4 := hideIt hlim
    have H5 := hideIt htr
    have H6 := hideIt hnine
    have H7 := hideIt hval
    clear hdu hrow hcap hlim htr hnine hval
    by_cases h0 : u.size = 0
    · have hu : u = ⟨#[]⟩ := by
        have : u.data = #[] := Array.eq_empty_of_size_eq_zero h0
        cases u; simp at this; simp [this]
      subst hu
      go_wp2
      go_ret
      refine ⟨hbel, _, rfl, l, ?_, H5.out, ?_⟩
      · exact ⟨H4.out, Or.inr ⟨g, 0, cap, rfl, H2.out.le, H3.out, H2.out.row.lt, H2.out.row.seg⟩⟩
      · have := H7.out
        rw [show (⟨#[]⟩ : ByteArray).size = 0 from rfl, Nat.pow_zero, Nat.mul_one] at this
        exact this
    · have hne : u.toList.isEmpty = false := by
        rw [ByteArray.toList_eq, List.isEmpty_eq_false_iff]
        intro e
        have := congrArg List.length e
        simp at this
        exact h0 (by rw [this]; rfl)
      go_wp2_with fail
      have hn9 : (u.size - 1) % 9 + 1 ≤ u.size := by omega
      have htk : (u.extract 0 ((u.size - 1) % 9 + 1)).data.toList = u.data.toList.take ((u.size - 1) % 9 + 1) := bytes_take u _
      have htd : (u.extract 0 ((u.size - 1) % 9 + 1)).data.toList.all dg = true := by
        rw [htk]; exact List.all_eq_true.2 fun x hx => List.all_eq_true.1 H1.out x (List.mem_of_mem_take hx)
      have hts : (u.extract 0 ((u.size - 1) % 9 + 1)).size ≤ 9 := by rw [ByteArray.size_extract]; omega
      refine (readRun_calls _ wr hts htd).mono ?_
      rintro e w2 ⟨rfl, hw2⟩
      have hw3 := hw2.symm; subst hw3; clear hw2
      have hrl := dv_lt htd
      have hrl2 : dv (u.extract 0 ((u.size - 1) % 9 + 1)).data.toList < 1000000000 := by
        have h1 : (u.extract 0 ((u.size - 1) % 9 + 1)).data.toList.length ≤ 9 := by simpa using hts
        exact Nat.lt_of_lt_of_le hrl (pow_nine h1)
      rw [htk] at hrl2
      rw [htk]
      clear hrl htd hts htk
      have HR := hideIt hrl2
      clear hrl2
      generalize er : dv (u.data.toList.take ((u.size - 1) % 9 + 1)) = r at *
      have HE := hideIt er
      clear er
      go_wp2_with fail
      refine (appendRun_calls H2.out H4.out (by omega) H3.out HR.out).mono ?_
      rintro e w3 ⟨g', cap', l', rfl, hrow', hlim', htr', hval', hlen', hcap', hfr⟩
      obtain ⟨hb3, hg3⟩ := hfr w1.heap.size w1 hbel hg
      have K1 := hideIt hrow'
      have K2 := hideIt hlim'
      have K3 := hideIt htr'
      have K4 := hideIt hval'
      have K5 := hideIt hcap'
      clear hrow' hlim' htr' hval' hcap' hfr
      go_wp2
      have hsz : (u.extract ((u.size - 1) % 9 + 1) u.size).size = u.size - ((u.size - 1) % 9 + 1) := by rw [ByteArray.size_extract]; omega
      go_roundg (u.size - ((u.size - 1) % 9 + 1))
      case measure => omega
      case rel =>
        refine ⟨_, l', g', cap', rfl, rfl, by rw [hsz]; exact Nat.le_refl _, by rw [hsz]; omega, ?_, K1.out, K5.out, K2.out, K3.out H5.out, Or.inr (by rw [hsz]; omega), ?_, hb3, hg3⟩
        · rw [bytes_drop]; exact List.all_eq_true.2 fun x hx => List.all_eq_true.1 H1.out x (List.mem_of_mem_drop hx)
        · rw [bytes_drop, K4.out, hsz]
          exact read_round (by simpa using hn9) (by simp) (H6.out.imp_right fun h => by omega) HE.out H7.out
end Go.Proofs.YtgajdmadbdbabaaGreatDoor
/- TD -/
namespace Go.Proofs.YtgajdmadbdbabaaGreatDoor
open Go.RowKit Cx
theorem barAt_lt {l : List UInt8} {i : Nat} (h : barAt l = some i) : i < l.length ∧ Lib.indexByte l 47 = (i : Int) := by
  unfold barAt at h
  split at h
  · cases h
  · rename_i hn
    cases h
    have e : Lib.indexByte l 47 = ((Lib.indexByte l 47).toNat : Int) := by omega
    refine ⟨?_, e⟩
    have := (Lib.indexByte_some (l := l) (c := 47) e).1
    exact (List.getElem?_eq_some_iff.1 this).1
theorem liteCut_calls (s : ByteArray) (w : World) (hs : s.size ≤ 4294967296) :
    Calls Tryz.prog 155 #[.string s, .string ⟨#[47]⟩] w fun e w' => (w' = w ∨ w' = w.drew) ∧ ∃ a b : ByteArray, e = .returned (.tuple #[.string a, .string b, .bool (barAt s.data.toList).isSome]) ∧ a.data.toList = upOf s.data.toList ∧ (∀ i, barAt s.data.toList = some i → b.data.toList = s.data.toList.drop (i + 1)) := by
  go_enter Tryz.func155, Tryz.ntmps155
  go_wp2_with fail
  refine (Tryz.stringslite_Index_one s 47 w).mono ?_
  rintro e w1 ⟨rfl, hw1⟩
  have hw2 := hw1.symm; subst hw2; clear hw1
  rcases hb : barAt s.data.toList with _ | i
  · have hneg : Lib.indexByte s.data.toList 47 < 0 := by
      unfold barAt at hb
      split at hb
      · assumption
      · cases hb
    have HB := hideIt hb
    clear hb
    generalize Lib.indexByte s.data.toList 47 = z at *
    go_wp2
    go_ret3
    exact ⟨Or.inl rfl, s, ⟨#[]⟩, by rw [HB.out]; rfl, by unfold upOf; rw [HB.out], fun i h => by rw [HB.out] at h; cases h⟩
  · obtain ⟨hi, he⟩ := barAt_lt hb
    rw [he]
    have hi2 : i < s.size := by simpa using hi
    have HB := hideIt hb
    clear hb he hi
    go_wp2
    go_region
    go_wp2
    go_ret3
    refine ⟨Or.inr rfl, _, _, by rw [HB.out]; rfl, ?_, ?_⟩
    · unfold upOf; rw [HB.out, bytes_take]
    · intro j h
      rw [HB.out] at h
      cases h
      rw [bytes_drop]
theorem cut_calls (s : ByteArray) (w : World) (hs : s.size ≤ 4294967296) :
    Calls Tryz.prog 111 #[.string s, .string ⟨#[47]⟩] w fun e w' => (w' = w ∨ w' = w.drew) ∧ ∃ a b : ByteArray, e = .returned (.tuple #[.string a, .string b, .bool (barAt s.data.toList).isSome]) ∧ a.data.toList = upOf s.data.toList ∧ (∀ i, barAt s.data.toList = some i → b.data.toList = s.data.toList.drop (i + 1)) := by
  go_enter Tryz.func111, Tryz.ntmps111
  go_wp2_with fail
  refine (liteCut_calls s w hs).mono ?_
  rintro e w1 ⟨hw, a, b, rfl, h1, h2⟩
  go_wp2
  go_ret3
  exact ⟨hw, a, b, rfl, h1, h2⟩
theorem tail_bytes (s : ByteArray) : ∃ t : ByteArray, (⟨(Lib.trimPrefix s.data.toList (⟨#[45]⟩ : ByteArray).data.toList).toArray⟩ : ByteArray) = t ∧ t.data.toList = tailOf s.data.toList ∧ t.size ≤ s.size := by
  refine ⟨_, rfl, rfl, ?_⟩
  show (List.toArray (Lib.trimPrefix s.data.toList [45])).size ≤ s.data.size
  unfold Lib.trimPrefix
  split
  · simp
  · simp
theorem ten_pw (n : Nat) : 10 ^ n ≤ pw n := by
  induction n with
  | zero => exact Nat.le_refl _
  | succ n ih => rw [pw_succ, Nat.pow_succ]; omega
theorem dv_small {l : List UInt8} (h : l.all dg = true) (hl : l.length ≤ 4294967296) : Small (dv l) :=
  ⟨Nat.lt_of_lt_of_le (dv_lt h) (Nat.le_trans (ten_pw _) (pw_le (by omega)))⟩
theorem read_calls (s : ByteArray) (w : World) (hs : s.size ≤ 4294967296) :
    Calls Tryz.prog 69 #[.string s] w fun e w' => Below w.heap.size w w' ∧ ∃ v, e = .returned v ∧ QV w' v (rd s.data.toList) := by
  have HB := hideIt (below_new w (.cells #[.bool false, .slice none 0 0, .slice none 0 0] 84))
  have HK := hideIt (Blk.new w #[.bool false, .slice none 0 0, .slice none 0 0] 84)
  go_enter Tryz.func69, Tryz.ntmps69
  go_wp2_with fail
  generalize hw0 : w.alloc (.cells #[.bool false, .slice none 0 0, .slice none 0 0] 84) = w0 at *
  refine (Tryz.strings_CutPrefix s ⟨#[45]⟩ w0).mono ?_
  rintro e w1 ⟨rfl, hw1⟩
  have hw2 := hw1.symm; subst hw2; clear hw1
  obtain ⟨t, et, ht, htl⟩ := tail_bytes s
  rw [et]
  clear et
  have HT := hideIt ht
  clear ht
  go_wp2_with fail
  refine (cut_calls t w0 (by omega)).mono ?_
  rintro e w1 ⟨hw1, a, b, rfl, ha, hb⟩
  have hb1 : Hid (Below w0.heap.size w0 w1) := by
    rcases hw1 with rfl | rfl
    · exact Below.refl _ _
    · exact Below.drew (Below.refl _ _)
  clear hw1
  rw [HT.out] at ha hb
  rw [HT.out]
  have HA := hideIt ha
  have HBB := hideIt hb
  clear ha hb
  have hal : a.size ≤ 4294967296 := by
    have h1 : a.data.toList.length ≤ (tailOf s.data.toList).length := by
      rw [HA.out]; unfold upOf; split
      · exact Nat.le_refl _
      · rw [List.length_take]; exact Nat.min_le_right _ _
    rw [← HT.out] at h1
    simp at h1
    omega
  have hk1 := HK.out.below hb1.out (by rw [← hw0]; simp)
  have HB1 := hideIt (HB.out.trans (hb1.out.mono HB.out.size))
  rcases hbar : barAt (tailOf s.data.toList) with _ | i
  · obtain ⟨low, elow, hlow, hll⟩ : ∃ low : ByteArray, (⟨#[49]⟩ : ByteArray) = low ∧ Hid (low.data.toList = lowOf (tailOf s.data.toList)) ∧ low.size ≤ 4294967296 := by
      refine ⟨_, rfl, ?_, by decide⟩
      show _ = _
      unfold lowOf; rw [hbar]
    clear hbar HBB
    go_wp2_with fail
    rw [elow]
    clear elow
    refine (isDigits_calls a w1 (by omega)).mono ?_
    rintro e w2 ⟨rfl, hw2⟩
    have hw3 := hw2.symm; subst hw3; clear hw2
    rw [HA.out]
    by_cases d1 : digs (upOf (tailOf s.data.toList)) = true
    · rw [d1]
      go_wp2_with fail
      refine (isDigits_calls low w1 (by omega)).mono ?_
      rintro e w2 ⟨rfl, hw2⟩
      have hw3 := hw2.symm; subst hw3; clear hw2
      rw [hlow.out]
      by_cases d2 : digs (lowOf (tailOf s.data.toList)) = true
      · rw [d2]
        have hrd : rd s.data.toList = mkRat (sg (ngOf s.data.toList) (dv (upOf (tailOf s.data.toList)))) (dv (lowOf (tailOf s.data.toList))) := by
          unfold rd; rw [d1, d2]; rfl
        have HRD := hideIt hrd
        clear hrd
        have D1 := hideIt (digs_all d1)
        have D2 := hideIt (digs_all d2)
        clear d1 d2
        go_wp2_with fail
        refine (readNat_calls a w1 hal (by rw [HA.out]; exact D1.out)).mono ?_
        rintro e w2 ⟨hb2, v1, rfl, hv1⟩
        rw [HA.out] at hv1
        have N1 := hideIt hv1
        clear hv1
        go_wp2_with fail
        refine (readNat_calls low w2 hll (by rw [hlow.out]; exact D2.out)).mono ?_
        rintro e w3 ⟨hb3, v2, rfl, hv2⟩
        rw [hlow.out] at hv2
        have N2 := hideIt hv2
        clear hv2
        go_wp2_with fail
        refine (reduced_calls (neg := ngOf s.data.toList) (N1.out.below hb3) N2.out (dv_small D1.out (by rw [← HA.out]; simpa using hal)) (dv_small D2.out (by rw [← hlow.out]; simpa using hll))).mono ?_
        rintro e w4 ⟨hb4, v, rfl, hv⟩
        rw [← HRD.out] at hv
        have hbl3 := hb2.trans (hb3.mono hb2.size)
        have hbl4 := hbl3.trans (hb4.mono hbl3.size)
        have HQ := hideIt hv
        obtain ⟨vu', vl', rfl, hn1, hn2⟩ := hv
        obtain ⟨ao3, len3, cap3, rfl, _, _, _⟩ := len_big hn1
        obtain ⟨ao4, len4, cap4, rfl, _, _, _⟩ := len_big hn2
        have hk4 := hk1.below hbl4 hk1.lt
        obtain ⟨c0, c1, c2, f0, f1, f2⟩ := hk4.three
        have HB4 := hideIt (HB1.out.trans (hbl4.mono HB1.out.size))
        clear hb2 hb3 hb4 hbl3 hbl4 hn1 hn2
        obtain ⟨rr, hrr⟩ : ∃ rr : Rat, rr = rd s.data.toList := ⟨_, rfl⟩
        rw [← hrr] at HQ ⊢
        have HRR := hideIt hrr
        clear hrr
        go_wp2
        obtain ⟨k0, k1, k2, hlow3⟩ := hk4.three_set (.bool (decide (rr.num < 0))) (.slice ao3 len3 cap3) (.slice ao4 len4 cap4)
        exact bodyPost_ret (v := .agg #[.bool (decide (rr.num < 0)), .slice ao3 len3 cap3, .slice ao4 len4 cap4]) (by simp [results, Tryz.results69, go_sem, k0, k1, k2]) rfl ⟨hlow3 _ _ HB4.out (Nat.le_refl _), _, rfl, by rw [← HRR.out]; exact HQ.out.three hk4⟩
      · have d2' : digs (lowOf (tailOf s.data.toList)) = false := by simpa using d2
        have hrd : rd s.data.toList = 0 := by unfold rd; rw [d1, d2']; rfl
        rw [d2']
        have HRD := hideIt hrd
        clear hrd d1 d2 d2'
        obtain ⟨c0, c1, c2, f0, f1, f2⟩ := hk1.three
        go_wp2
        obtain ⟨k0, k1, k2, hlow3⟩ := hk1.three_set (.bool false) (.slice none 0 0) (.slice none 0 0)
        refine bodyPost_ret (v := .agg #[.bool false, .slice none 0 0, .slice none 0 0]) (by simp [results, Tryz.results69, go_sem, k0, k1, k2]) rfl ⟨hlow3 _ _ HB1.out (Nat.le_refl _), _, rfl, ?_⟩
        rw [HRD.out]
        exact ⟨_, _, rfl, NatN.nil _ _ _, NatN.nil _ _ _⟩
    · have d1' : digs (upOf (tailOf s.data.toList)) = false := by simpa using d1
      have hrd : rd s.data.toList = 0 := by unfold rd; rw [d1']; rfl
      rw [d1']
      have HRD := hideIt hrd
      clear hrd d1 d1'
      obtain ⟨c0, c1, c2, f0, f1, f2⟩ := hk1.three
      go_wp2
      obtain ⟨k0, k1, k2, hlow3⟩ := hk1.three_set (.bool false) (.slice none 0 0) (.slice none 0 0)
      refine bodyPost_ret (v := .agg #[.bool false, .slice none 0 0, .slice none 0 0]) (by simp [results, Tryz.results69, go_sem, k0, k1, k2]) rfl ⟨hlow3 _ _ HB1.out (Nat.le_refl _), _, rfl, ?_⟩
      rw [HRD.out]
      exact ⟨_, _, rfl, NatN.nil _ _ _, NatN.nil _ _ _⟩
  · obtain ⟨low, elow, hlow, hll⟩ : ∃ low : ByteArray, b = low ∧ Hid (low.data.toList = lowOf (tailOf s.data.toList)) ∧ low.size ≤ 4294967296 := by
      refine ⟨_, rfl, ?_, ?_⟩
      · show _ = _
        rw [HBB.out i hbar]; unfold lowOf; rw [hbar]
      · have h1 : b.data.toList.length ≤ (tailOf s.data.toList).length := by
          rw [HBB.out i hbar]; simp
        rw [← HT.out] at h1
        simp at h1
        omega
    subst elow
    clear hbar HBB
    go_wp2_with fail
    refine (isDigits_calls a w1 (by omega)).mono ?_
    rintro e w2 ⟨rfl, hw2⟩
    have hw3 := hw2.symm; subst hw3; clear hw2
    rw [HA.out]
    by_cases d1 : digs (upOf (tailOf s.data.toList)) = true
    · rw [d1]
      go_wp2_with fail
      refine (isDigits_calls b w1 (by omega)).mono ?_
      rintro e w2 ⟨rfl, hw2⟩
      have hw3 := hw2.symm; subst hw3; clear hw2
      rw [hlow.out]
      by_cases d2 : digs (lowOf (tailOf s.data.toList)) = true
      · rw [d2]
        have hrd : rd s.data.toList = mkRat (sg (ngOf s.data.toList) (dv (upOf (tailOf s.data.toList)))) (dv (lowOf (tailOf s.data.toList))) := by
          unfold rd; rw [d1, d2]; rfl
        have HRD := hideIt hrd
        clear hrd
        have D1 := hideIt (digs_all d1)
        have D2 := hideIt (digs_all d2)
        clear d1 d2
        go_wp2_with fail
        refine (readNat_calls a w1 hal (by rw [HA.out]; exact D1.out)).mono ?_
        rintro e w2 ⟨hb2, v1, rfl, hv1⟩
        rw [HA.out] at hv1
        have N1 := hideIt hv1
        clear hv1
        go_wp2_with fail
        refine (readNat_calls b w2 hll (by rw [hlow.out]; exact D2.out)).mono ?_
        rintro e w3 ⟨hb3, v2, rfl, hv2⟩
        rw [hlow.out] at hv2
        have N2 := hideIt hv2
        clear hv2
        go_wp2_with fail
        refine (reduced_calls (neg := ngOf s.data.toList) (N1.out.below hb3) N2.out (dv_small D1.out (by rw [← HA.out]; simpa using hal)) (dv_small D2.out (by rw [← hlow.out]; simpa using hll))).mono ?_
        rintro e w4 ⟨hb4, v, rfl, hv⟩
        rw [← HRD.out] at hv
        have hbl3 := hb2.trans (hb3.mono hb2.size)
        have hbl4 := hbl3.trans (hb4.mono hbl3.size)
        have HQ := hideIt hv
        obtain ⟨vu', vl', rfl, hn1, hn2⟩ := hv
        obtain ⟨ao3, len3, cap3, rfl, _, _, _⟩ := len_big hn1
        obtain ⟨ao4, len4, cap4, rfl, _, _, _⟩ := len_big hn2
        have hk4 := hk1.below hbl4 hk1.lt
        obtain ⟨c0, c1, c2, f0, f1, f2⟩ := hk4.three
        have HB4 := hideIt (HB1.out.trans (hbl4.mono HB1.out.size))
        clear hb2 hb3 hb4 hbl3 hbl4 hn1 hn2
        obtain ⟨rr, hrr⟩ : ∃ rr : Rat, rr = rd s.data.toList := ⟨_, rfl⟩
        rw [← hrr] at HQ ⊢
        have HRR := hideIt hrr
        clear hrr
        go_wp2
        obtain ⟨k0, k1, k2, hlow3⟩ := hk4.three_set (.bool (decide (rr.num < 0))) (.slice ao3 len3 cap3) (.slice ao4 len4 cap4)
        exact bodyPost_ret (v := .agg #[.bool (decide (rr.num < 0)), .slice ao3 len3 cap3, .slice ao4 len4 cap4]) (by simp [results, Tryz.results69, go_sem, k0, k1, k2]) rfl ⟨hlow3 _ _ HB4.out (Nat.le_refl _), _, rfl, by rw [← HRR.out]; exact HQ.out.three hk4⟩
      · have d2' : digs (lowOf (tailOf s.data.toList)) = false := by simpa using d2
        have hrd : rd s.data.toList = 0 := by unfold rd; rw [d1, d2']; rfl
        rw [d2']
        have HRD := hideIt hrd
        clear hrd d1 d2 d2'
        obtain ⟨c0, c1, c2, f0, f1, f2⟩ := hk1.three
        go_wp2
        obtain ⟨k0, k1, k2, hlow3⟩ := hk1.three_set (.bool false) (.slice none 0 0) (.slice none 0 0)
        refine bodyPost_ret (v := .agg #[.bool false, .slice none 0 0, .slice none 0 0]) (by simp [results, Tryz.results69, go_sem, k0, k1, k2]) rfl ⟨hlow3 _ _ HB1.out (Nat.le_refl _), _, rfl, ?_⟩
        rw [HRD.out]
        exact ⟨_, _, rfl, NatN.nil _ _ _, NatN.nil _ _ _⟩
    · have d1' : digs (upOf (tailOf s.data.toList)) = false := by simpa using d1
      have hrd : rd s.data.toList = 0 := by unfold rd; rw [d1']; rfl
      rw [d1']
      have HRD := hideIt hrd
      clear hrd d1 d1'
      obtain ⟨c0, c1, c2, f0, f1, f2⟩ := hk1.three
      go_wp2
      obtain ⟨k0, k1, k2, hlow3⟩ := hk1.three_set (.bool false) (.slice none 0 0) (.slice none 0 0)
      refine bodyPost_ret (v := .agg #[.bool false, .slice none 0 0, .slice none 0 0]) (by simp [results, Tryz.results69, go_sem, k0, k1, k2]) rfl ⟨hlow3 _ _ HB1.out (Nat.le_refl _), _, rfl, ?_⟩
      rw [HRD.out]
      exact ⟨_, _, rfl, NatN.nil _ _ _, NatN.nil _ _ _⟩
end Go.Proofs.YtgajdmadbdbabaaGreatDoor
/- BY -/
namespace Go.Proofs.YtgajdmadbdbabaaGreatDoor
open Go.RowKit Cx
attribute [local go_sem ↓] Go.wp_at_zero Go.wp_at_succ
theorem dv_take_succ {s : ByteArray} {k : Nat} (h : k < s.size) : dv (s.data.toList.take (k + 1)) = dv (s.data.toList.take k) * 10 + (s[k].toNat - 48) := by
  have hlen : k < s.data.toList.length := by simpa using h
  rw [take_snoc8 hlen, dv_snoc]
  rfl
theorem digs_at {s : ByteArray} {k : Nat} (h : digs s.data.toList = true) (hk : k < s.size) : 48 ≤ s[k].toNat ∧ s[k].toNat ≤ 57 := by
  have hlen : k < s.data.toList.length := by simpa using hk
  have := List.all_eq_true.1 (digs_all h) _ (List.getElem_mem hlen)
  have := dg_le this
  rw [byte_at s k hk] at this
  exact this
theorem digs_pos {s : ByteArray} (h : digs s.data.toList = true) : 0 < s.size := by
  rcases Nat.eq_zero_or_pos s.size with h0 | h0
  · exfalso
    have : s.data.toList = [] := List.length_eq_zero_iff.1 (by simpa using h0)
    rw [this] at h
    cases h
  · exact h0
theorem digs_take {s : ByteArray} {k : Nat} (h : digs s.data.toList = true) (hsz : s.size ≤ 4294967280) : Small (dv (s.data.toList.take k)) := by
  refine dv_small ?_ ?_
  · rw [List.all_eq_true]
    intro x hx
    exact List.all_eq_true.1 (digs_all h) x (List.mem_of_mem_take hx)
  · rw [List.length_take]
    have : s.data.toList.length = s.size := by simp
    omega
theorem setString_walk {w : World} {g : Nat} {s : ByteArray} (hk : Blk w g #[.bool false, .slice none 0 0] 116) (hs : digs s.data.toList = true) (hsz : s.size ≤ 4294967280) :
    Calls Tryz.prog 129 #[.pointer (some ⟨g, 0, none⟩), .string s, .int .i64 10] w fun e w' => e = .returned (.tuple #[.pointer (some ⟨g, 0, none⟩), .bool true]) ∧ Save g w w' ∧ Own2 w' g (dv s.data.toList : Int) := by
  have HK := hideIt2 hk
  have HS := hideIt2 hs
  have hs0 : 0 < s.size := digs_pos hs
  have hs1 : ((s.size : Int) == 0) = false := beq_eq_false_iff_ne.mpr (by omega)
  have hb0 := digs_at hs hs0
  have hb1 : ((s[0].toNat : Int) == 45) = false := beq_eq_false_iff_ne.mpr (by omega)
  have hb2 : ((s[0].toNat : Int) == 43) = false := beq_eq_false_iff_ne.mpr (by omega)
  clear hk hs
  go_enter Tryz.func129, Tryz.ntmps129
  go_wp2
  go_loopw [9, 10] (fun rv iv wr => ∃ k : Nat, iv = .int .i64 k ∧ k ≤ s.size ∧ NatN wr rv (dv (s.data.toList.take k)) ∧ Below w.heap.size w wr) (fun _ iv _ => s.size - (intOf iv).toNat)
  case atStart => exact ⟨0, rfl, Nat.zero_le _, ⟨[], NatV.nil _ _ _, Or.inl rfl, rfl⟩, Below.refl _ _⟩
  case round =>
    obtain ⟨k, rfl, hks, hn, hbl⟩ := hrel
    have HN := hideIt2 hn
    have HBL := hideIt2 hbl
    clear hn hbl
    by_cases hlt : k < s.size
    · have hb := digs_at HS.out hlt
      have HSM : Hid (Small (dv (s.data.toList.take k))) := digs_take HS.out hsz
      have HDS := hideIt2 (dv_take_succ hlt)
      have HSM10 : Hid (Small (dv (s.data.toList.take k) * 10)) := small_of (digs_take (k := k + 1) HS.out hsz) (by rw [dv_take_succ hlt]; omega)
      generalize hA : dv (s.data.toList.take k) = A at *
      clear hA
      go_wp2_with fail
      refine (bigWords_calls 10 wr (by decide)).mono ?_
      rintro e w1 ⟨hb1', v1, rfl, hv1⟩
      have H1 := hideIt2 (And.intro hb1' hv1)
      clear hb1' hv1
      go_wp2_with fail
      refine (bigMul_calls (HN.out.below H1.out.1) H1.out.2 HSM.out (small_two (k := 4) (by decide) (by decide))).mono ?_
      rintro e w2 ⟨hb2', v2, rfl, hv2⟩
      have H2 := hideIt2 (And.intro (bel_bel H1.out.1 hb2') hv2)
      clear hb2' hv2
      go_wp2_with fail
      have ed : ((s[k].toNat : Int) - 48) = ((s[k].toNat - 48 : Nat) : Int) := by omega
      rw [ed]
      refine (bigWords_calls (s[k].toNat - 48) w2 (by omega)).mono ?_
      rintro e w3 ⟨hb3', v3, rfl, hv3⟩
      have H3 := hideIt2 (And.intro (bel_bel H2.out.1 hb3') (And.intro (H2.out.2.below hb3') hv3))
      clear hb3' hv3
      go_wp2_with fail
      refine (bigAdd_calls H3.out.2.1 H3.out.2.2 HSM10.out (small_two (k := 6) (by omega) (by decide))).mono ?_
      rintro e w4 ⟨hb4', v4, rfl, hv4⟩
      have H4 := hideIt2 (And.intro (bel_bel HBL.out (bel_bel H3.out.1 hb4')) hv4)
      clear hb4' hv4
      go_wp2
      go_roundw
      case rel => exact ⟨k + 1, by rw [show ((k + 1 : Nat) : Int) = (k : Int) + 1 by omega], by omega, by rw [HDS.out]; exact H4.out.2, H4.out.1⟩
      case measure => simp [intOf]; omega
    · have hks2 : k = s.size := by omega
      have HNE : Hid (NatN wr u9 (dv s.data.toList)) := by
        have := HN.out
        rw [hks2, List.take_of_length_le (by simp)] at this
        exact this
      obtain ⟨ao, n, c, hv, _, _, _⟩ := big_len HNE.out
      subst hv
      go_wp2_with fail
      refine (give_calls (n := n) (ao := ao) (c := c) false ((At2.blk HK.out).below HBL.out)).mono ?_
      rintro e w2 ⟨rfl, hw2⟩
      have HG : Hid (Gave w g 0 (dv s.data.toList : Int) w2) := by
        refine ⟨wr, ao, n, c, HBL.out, ?_, ?_⟩
        · rw [hw2, natAbs_lt]; rfl
        · rw [Int.natAbs_natCast]; exact HNE.out
      clear hw2
      go_wp2
      go_ret2
      exact ⟨rfl, HG.out.save, (HG.out.own HK.out).1⟩
end Go.Proofs.YtgajdmadbdbabaaGreatDoor
/- BZ -/
namespace Go.Proofs.YtgajdmadbdbabaaGreatDoor
open Go.RowKit Cx
attribute [local go_sem ↓] Go.wp_at_zero Go.wp_at_succ
def MaxL (w : World) : Prop := ∃ m, w.cell? ⟨Tryz.lays147_ren.g 1, 0, none⟩ = some (.int .i64 m)
theorem cell_lt {w : World} {p : Addr} {v : Value} (h : w.cell? p = some v) : p.block < w.heap.size := by
  rcases Nat.lt_or_ge p.block w.heap.size with h1 | h1
  · exact h1
  · exfalso
    unfold World.cell? at h
    rw [Array.getElem?_eq_none h1] at h
    simp at h
theorem MaxL.below {w w' : World} (h : MaxL w) (hb : Below w.heap.size w w') : MaxL w' := by
  obtain ⟨m, h⟩ := h
  exact ⟨m, (hb.cell (cell_lt h)).trans h⟩
theorem MaxL.shaped {w : World} (h : w.ShapedOpen Tryz.prog) : MaxL w := Tryz.laysM147.s1_3 w h
def tenDigits : ByteArray := ⟨#[48, 49, 50, 51, 52, 53, 54, 55, 56, 57]⟩
theorem dropWhile_nil {α : Type} {p : α → Bool} : ∀ {l : List α}, l.dropWhile p = [] ↔ l.all p = true
  | [] => by simp
  | x :: l => by
    rw [List.dropWhile_cons]
    split
    · rename_i h
      rw [dropWhile_nil (l := l), List.all_cons, h, Bool.true_and]
    · rename_i h
      simp [h]
theorem trimS_nil (l cs : List UInt8) : (Lib.trimS l cs = []) ↔ l.all (cs.contains ·) = true := by
  unfold Lib.trimS Lib.trimLeftS Lib.trimRightS
  constructor
  · intro h
    rw [dropWhile_nil, List.all_reverse] at h
    have h2 : (l.reverse.dropWhile (cs.contains ·)) = [] := by
      cases e : l.reverse.dropWhile (cs.contains ·) with
      | nil => rfl
      | cons x r =>
        exfalso
        rw [e, List.all_cons, Bool.and_eq_true] at h
        have h3 := List.head_dropWhile_not (p := (cs.contains ·)) (l := l.reverse) (by rw [e]; simp)
        simp only [e, List.head_cons] at h3
        rw [h.1] at h3
        cases h3
    rw [dropWhile_nil, List.all_reverse] at h2
    exact h2
  · intro h
    have : l.reverse.dropWhile (cs.contains ·) = [] := by rw [dropWhile_nil, List.all_reverse]; exact h
    rw [this]
    rfl
theorem ten_dg : (fun c : UInt8 => tenDigits.data.toList.contains c) = dg := by
  funext c
  have h : ∀ n : Fin 256, tenDigits.data.toList.contains (UInt8.ofNat n) = dg (UInt8.ofNat n) := by decide
  have := h ⟨c.toNat, c.toNat_lt⟩
  simpa using this
theorem trimB_nil (l : List UInt8) : (Lib.trimB l 48 = []) ↔ l.all (· == 48) = true := by
  unfold Lib.trimB Lib.trimLeftB Lib.trimRightB
  constructor
  · intro h
    rw [dropWhile_nil, List.all_reverse] at h
    have h2 : (l.reverse.dropWhile (· == 48)) = [] := by
      cases e : l.reverse.dropWhile (· == 48) with
      | nil => rfl
      | cons x r =>
        exfalso
        rw [e, List.all_cons, Bool.and_eq_true] at h
        have h3 := List.head_dropWhile_not (p := (· == 48)) (l := l.reverse) (by rw [e]; simp)
        simp only [e, List.head_cons] at h3
        rw [h.1] at h3
        cases h3
    rw [dropWhile_nil, List.all_reverse] at h2
    exact h2
  · intro h
    have : l.reverse.dropWhile (· == 48) = [] := by rw [dropWhile_nil, List.all_reverse]; exact h
    rw [this]
    rfl
theorem dv_zeros {l : List UInt8} (h : l.all dg = true) : l.all (· == 48) = true ↔ dv l = 0 := by
  induction l with
  | nil => simp [dv]
  | cons c l ih =>
    rw [List.all_cons, Bool.and_eq_true] at h
    rw [List.all_cons, Bool.and_eq_true, ih h.2, dv_cons]
    have hc := dg_le h.1
    have hp : 0 < 10 ^ l.length := Nat.pow_pos (by decide)
    constructor
    · rintro ⟨h1, h2⟩
      rw [h2, eq_of_beq h1]
      simp
    · intro h0
      have h1 : (c.toNat - 48) * 10 ^ l.length = 0 := by omega
      have h2 : c.toNat - 48 = 0 := by
        rcases Nat.mul_eq_zero.1 h1 with h | h
        · exact h
        · omega
      refine ⟨?_, by omega⟩
      rw [beq_iff_eq]
      exact UInt8.toNat_inj.1 (by show c.toNat = 48; omega)
theorem Tryz.zeroSet (w : World) : (zeroValue (Tryz.lays160_ren.t 116)).run Tryz.prog w = .ok (.agg (Array.replicate 256 (.bool false))) w := by kernel_rfl
theorem ten_ascii : ∀ (j : Nat) b, tenDigits.data.toList[j]? = some b → b.toNat < 128 := by
  intro j b h
  have := List.mem_of_getElem? h
  simp [tenDigits] at this
  rcases this with rfl | rfl | rfl | rfl | rfl | rfl | rfl | rfl | rfl | rfl <;> decide
theorem emp (t : ByteArray) : t.toList.isEmpty = t.data.toList.isEmpty := by rw [ByteArray.toList_eq]
theorem onlyDigits_calls (s : ByteArray) (w : World) (hs : s.size ≤ 4294967280) :
    Calls Tryz.prog 127 #[.string s] w fun e w' => Below w.heap.size w w' ∧ e = .returned (.bool (digs s.data.toList)) := by
  have hem := emp s
  generalize hD : digs s.data.toList = D
  by_cases h0 : s.data.toList = []
  · have HL : Hid (D = false) := by show D = false; rw [← hD, h0]; rfl
    rw [h0] at hem
    have hem2 : s.toList.isEmpty = true := hem
    clear hem hD
    go_enter Tryz.func127, Tryz.ntmps127
    go_wp2
    go_ret
    exact ⟨Below.refl _ _, by rw [HL.out]; rfl⟩
  · have hem2 : s.toList.isEmpty = false := by rw [hem, List.isEmpty_eq_false_iff]; exact h0
    have hT := Any.strings_Trim_ascii Tryz.lays160 Tryz.zeroSet (by kernel_rfl) s tenDigits w (by omega) (by decide) ten_ascii
    obtain ⟨t, ht⟩ : ∃ t : ByteArray, (⟨(Lib.trimS s.data.toList tenDigits.data.toList).toArray⟩ : ByteArray) = t := ⟨_, rfl⟩
    have HTT : Hid (D = t.toList.isEmpty) := by
      show D = _
      rw [← hD, emp t, ← ht]
      show _ = List.isEmpty (Lib.trimS s.data.toList tenDigits.data.toList)
      rw [Bool.eq_iff_iff, List.isEmpty_iff, trimS_nil, ten_dg]
      unfold digs
      rw [List.isEmpty_eq_false_iff.2 h0]
      simp
    rw [ht] at hT
    clear hem hD ht
    go_enter Tryz.func127, Tryz.ntmps127
    go_wp2_with fail
    refine Calls.mono (show Calls Tryz.prog 128 #[.string s, .string ⟨#[48, 49, 50, 51, 52, 53, 54, 55, 56, 57]⟩] w _ from hT) ?_
    rintro e w1 ⟨rfl, hb⟩
    have HB := hideIt2 hb
    clear hb hT
    go_wp2
    go_ret
    exact ⟨HB.out, by rw [HTT.out]; rfl⟩
end Go.Proofs.YtgajdmadbdbabaaGreatDoor
/- RA -/
namespace Go.Proofs.YtgajdmadbdbabaaGreatDoor
open Go.RowKit Cx
attribute [local go_sem ↓] Go.wp_at_zero Go.wp_at_succ
theorem index_bar (s : ByteArray) : Lib.indexB s ⟨#[47]⟩ = Lib.indexByte s.data.toList 47 := Lib.index_one s.data.toList 47
theorem split_none {s : ByteArray} (k : Nat) (h : barAt s.data.toList = none) : Lib.splitB ⟨#[47]⟩ 0 k s = [s] := by
  apply Lib.splitB_miss
  rw [index_bar]
  unfold barAt at h
  split at h
  · rename_i hn
    have := Lib.indexByte_ge s.data.toList 47
    omega
  · cases h
theorem split_some {s : ByteArray} {i : Nat} (h : barAt s.data.toList = some i) : Lib.splitB ⟨#[47]⟩ 0 1 s = [s.extract 0 i, s.extract (i + 1) s.size] := by
  have h2 := (barAt_lt h).2
  rw [← index_bar] at h2
  rw [Lib.splitB_hit _ _ _ _ i h2]
  rfl
theorem split_calls (s : ByteArray) (w : World) (hm : MaxL w) (hs : s.size < 4294967281) :
    Calls Tryz.prog 126 #[.string s, .string ⟨#[47]⟩, .int .i64 2] w fun e w' => Below w.heap.size w w' ∧
      ((barAt s.data.toList = none ∧ ∃ cap, e = .returned (.slice (some ⟨w.heap.size, 0, none⟩) 1 cap) ∧ 1 ≤ cap ∧ cap ≤ 2 ∧ w'.cell? ⟨w.heap.size, 0, none⟩ = some (.string s)) ∨
       (∃ i a b, barAt s.data.toList = some i ∧ e = .returned (.slice (some ⟨w.heap.size, 0, none⟩) 2 2) ∧ w'.cell? ⟨w.heap.size, 0, none⟩ = some (.string a) ∧ w'.cell? ⟨w.heap.size, 1, none⟩ = some (.string b) ∧ a.data.toList = upOf s.data.toList ∧ b.data.toList = lowOf s.data.toList ∧ a.size ≤ s.size ∧ b.size ≤ s.size)) := by
  obtain ⟨m, hm⟩ := hm
  refine Calls.mono (show Calls Tryz.prog 126 #[.string s, .string ⟨#[47]⟩, .int .i64 2] w _ from Tryz.strings_SplitN s ⟨#[47]⟩ 2 m w hs hm (by decide) (by decide) (by decide)) ?_
  rintro e w' ⟨rfl, rfl⟩
  refine ⟨below_new _ _, ?_⟩
  rcases hb : barAt s.data.toList with _ | i
  · left
    refine ⟨rfl, min 2 (s.size + 1), ?_, by omega, by omega, ?_⟩
    · rw [split_none _ hb]
      rfl
    · rw [split_none _ hb, World.cell?_alloc_at _ _ _ _ (by simp)]
      simp [Lib.cellsOf]
  · right
    have hi := (barAt_lt hb).1
    have hi2 : i < s.size := by simpa using hi
    have e1 : min 2 (s.size + 1) = 2 := by omega
    rw [e1, show (2 - 1 : Nat) = 1 from rfl, split_some hb]
    refine ⟨i, s.extract 0 i, s.extract (i + 1) s.size, rfl, rfl, ?_, ?_, ?_, ?_, ?_, ?_⟩
    · rw [World.cell?_alloc_at _ _ _ _ (by simp)]
      simp [Lib.cellsOf]
    · rw [World.cell?_alloc_at _ _ _ _ (by simp)]
      simp [Lib.cellsOf]
    · unfold upOf; rw [hb, bytes_take]
    · unfold lowOf; rw [hb, bytes_drop]
    · rw [ByteArray.size_extract]; omega
    · rw [ByteArray.size_extract]; omega
theorem RV.nought (w : World) : RV (w.alloc (.cells #[.bool false, .slice none 0 0, .bool false, .slice none 0 0] 118)) w.heap.size 0 :=
  ⟨none, 0, 0, none, 0, 0, Blk.new _ _ _, ⟨[], NatV.nil _ _ _, Or.inl rfl, rfl⟩, Or.inr ⟨rfl, rfl⟩⟩
theorem rd_up {l : List UInt8} (h : digs (upOf (tailOf l)) = false) : rd l = 0 := by
  unfold rd
  rw [h]
  simp
theorem rd_low {l : List UInt8} (h : digs (lowOf (tailOf l)) = false) : rd l = 0 := by
  unfold rd
  rw [h]
  simp
theorem rd_nought {l : List UInt8} (h : dv (lowOf (tailOf l)) = 0) : rd l = 0 := by
  unfold rd
  rw [h, Rat.mkRat_zero]
  simp
theorem rd_pos {l : List UInt8} (hn : ngOf l = false) (h1 : digs (upOf (tailOf l)) = true) (h2 : digs (lowOf (tailOf l)) = true) : rd l = mkRat (dv (upOf (tailOf l)) : Int) (dv (lowOf (tailOf l))) := by
  unfold rd
  rw [h1, h2, hn]
  simp [sg]
theorem rd_neg {l : List UInt8} (hn : ngOf l = true) (h1 : digs (upOf (tailOf l)) = true) (h2 : digs (lowOf (tailOf l)) = true) : rd l = -mkRat (dv (upOf (tailOf l)) : Int) (dv (lowOf (tailOf l))) := by
  unfold rd
  rw [h1, h2, hn, Rat.neg_mkRat]
  simp [sg]
theorem tail_pos {l : List UInt8} (h : ngOf l = false) : tailOf l = l := by
  unfold tailOf Lib.trimPrefix
  unfold ngOf at h
  rw [h]
  rfl
theorem tail_neg {s : ByteArray} (h : ngOf s.data.toList = true) : (s.extract 1 s.size).data.toList = tailOf s.data.toList ∧ 1 ≤ s.size := by
  refine ⟨?_, ?_⟩
  · unfold tailOf Lib.trimPrefix
    unfold ngOf at h
    rw [h, bytes_drop]
    rfl
  · rcases Nat.eq_zero_or_pos s.size with h0 | h0
    · exfalso
      have : s.data.toList = [] := List.length_eq_zero_iff.1 (by simpa using h0)
      rw [this] at h
      cases h
    · exact h0
theorem bar_none {l : List UInt8} (h : barAt l = none) : upOf l = l ∧ digs (lowOf l) = true ∧ dv (lowOf l) = 1 := by
  unfold upOf lowOf
  rw [h]
  exact ⟨rfl, rfl, rfl⟩
theorem size_digs {t : ByteArray} (h : digs t.data.toList = true) (hs : t.size ≤ 4294967280) {k : Nat} (hk : 17179869120 ≤ k) : dv t.data.toList < 2 ^ k := by
  refine Nat.lt_of_lt_of_le (dv_two h) (Nat.pow_le_pow_right (by decide) ?_)
  have : t.data.toList.length = t.size := by simp
  omega
theorem held_int {w : World} {g : Nat} (hk : Blk w g #[.bool false, .slice none 0 0] 116) : Held w g := ⟨_, _, hk, by simp [notLimb]⟩
theorem refOf_pos (s : ByteArray) (w : World) (hm : MaxL w) (hs : s.size ≤ 4294967280) (hng : ngOf s.data.toList = false) :
    Calls Tryz.prog 79 #[.string s] w fun e w' => Below w.heap.size w w' ∧ ∃ g, e = .returned (.pointer (some ⟨g, 0, none⟩)) ∧ w.heap.size ≤ g ∧ RV w' g (rd s.data.toList) := by
  have HM := hideIt2 hm
  have HNG : Hid (Lib.hasPrefix s.data.toList (⟨#[45]⟩ : ByteArray).data.toList = false) := hng
  have HNG2 := hideIt2 hng
  obtain ⟨K, hK1, hK2⟩ : ∃ K : Nat, 17179869120 ≤ K ∧ K ≤ 17179869121 := ⟨17179869120, by decide, by decide⟩
  generalize hQ : rd s.data.toList = Q
  have HQ := hideIt2 hQ
  have HTL : Hid (s.data.toList = tailOf s.data.toList) := (tail_pos hng).symm
  have hts : s.size ≤ 4294967280 := hs
  clear hm hng hQ
  go_enter Tryz.func79, Tryz.ntmps79
  go_wp2_with fail
  refine (Tryz.strings_HasPrefix s ⟨#[45]⟩ w).mono ?_
  rintro e w1 ⟨rfl, hw1⟩
  have hw2 := hw1.symm; subst hw2; clear hw1
  rw [HNG.out]
  go_wp2_with fail
  refine (split_calls s w HM.out (by omega)).mono ?_
  rintro e w1 ⟨hb1, ⟨hbar, cap, rfl, hc1, hc2, hcell⟩ | ⟨i, a, b, hbar, rfl, hca, hcb, ha, hb, has, hbs⟩⟩
  · have HB1 := hideIt2 hb1
    obtain ⟨hup, hlo, hl1⟩ := bar_none hbar
    have HUP : Hid (upOf (tailOf s.data.toList) = s.data.toList ∧ digs (lowOf (tailOf s.data.toList)) = true ∧ dv (lowOf (tailOf s.data.toList)) = 1) := by
      rw [← HTL.out]
      exact ⟨hup, hlo, hl1⟩
    have hlw : w.heap.size < w1.heap.size := cell_lt hcell
    clear hb1 hbar hup hlo hl1
    rcases hd : digs s.data.toList with _ | _
    · have HD := hideIt2 hd
      clear hd
      go_wp2_with fail
      refine (onlyDigits_calls s w1 (by omega)).mono ?_
      rintro e w2 ⟨hb_w2, rfl⟩
      rw [HD.out]
      have HCw2 := hideIt2 (bel_bel (Below.refl _ _) hb_w2)
      clear hb_w2
      go_wp2
      go_ret
      exact ⟨Below.new (bel_bel HB1.out HCw2.out) _, _, rfl, ((bel_bel HB1.out HCw2.out)).size, by rw [← HQ.out, rd_up (by rw [HUP.out.1]; exact HD.out)]; exact RV.nought _⟩
    · have HD := hideIt2 hd
      clear hd
      go_wp2_with fail
      refine (onlyDigits_calls s w1 (by omega)).mono ?_
      rintro e w2 ⟨hb_w2, rfl⟩
      rw [HD.out]
      have HCw2 := hideIt2 (bel_bel (Below.refl _ _) hb_w2)
      clear hb_w2
      have hcell2 := (HCw2.out.cell (p := ⟨w.heap.size, 0, none⟩) hlw).trans hcell
      have hlw2 : w.heap.size < w2.heap.size := cell_lt hcell2
      go_wp2_with fail
      refine (setString_walk (s := s) (Blk.new w2 _ _) HD.out (by omega)).mono ?_
      rintro e w5 ⟨rfl, hs5, ho5⟩
      have H5 := hideIt2 (And.intro (bel_sav (Below.new (bel_bel HB1.out HCw2.out) _) hs5 (bel_bel HB1.out HCw2.out).size) ho5)
      clear hs5 ho5
      go_wp2_with fail
      refine (newInt_calls 1 (by decide) w5).mono ?_
      rintro e w6 ⟨hb6, gd, rfl, hgd, ho6⟩
      have H6 := hideIt2 (And.intro (bel_bel H5.out.1 hb6) (And.intro (H5.out.2.below hb6) ho6))
      clear hb6 ho6
      go_wp2_with fail
      refine (setFrac_walk (z := (dv s.data.toList : Int)) (b := 1) (Blk.new w6 _ _) (by simp [notLimb]) (Own2.iv (own_new _ H6.out.2.1)) (Own2.iv (own_new _ H6.out.2.2)) (by decide) (by rw [Int.natAbs_natCast]; exact small_two (k := K) (size_digs HD.out (by omega) (by omega)) (by omega)) (small_two (k := 1) (by decide) (by decide))).mono ?_
      rintro e w8 ⟨rfl, hs8, hr8⟩
      have H8 := hideIt2 (And.intro (bel_sav (Below.new H6.out.1 _) hs8 H6.out.1.size) hr8)
      clear hs8 hr8
      go_wp2
      go_ret
      exact ⟨H8.out.1, _, rfl, H6.out.1.size, by rw [← HQ.out, rd_pos HNG2.out (by rw [HUP.out.1]; exact HD.out) HUP.out.2.1, HUP.out.1, HUP.out.2.2]; exact H8.out.2⟩
  · have HB1 := hideIt2 hb1
    have HUP : Hid (upOf (tailOf s.data.toList) = a.data.toList ∧ lowOf (tailOf s.data.toList) = b.data.toList) := by
      rw [← HTL.out]
      exact ⟨ha.symm, hb.symm⟩
    have hlw : w.heap.size < w1.heap.size := cell_lt hca
    clear hb1 hbar ha hb
    rcases hd : digs a.data.toList with _ | _
    · have HD := hideIt2 hd
      clear hd
      go_wp2_with fail
      refine (onlyDigits_calls a w1 (by omega)).mono ?_
      rintro e w2 ⟨hb_w2, rfl⟩
      rw [HD.out]
      have HCw2 := hideIt2 (bel_bel (Below.refl _ _) hb_w2)
      clear hb_w2
      go_wp2
      go_ret
      exact ⟨Below.new (bel_bel HB1.out HCw2.out) _, _, rfl, ((bel_bel HB1.out HCw2.out)).size, by rw [← HQ.out, rd_up (by rw [HUP.out.1]; exact HD.out)]; exact RV.nought _⟩
    · have HD := hideIt2 hd
      clear hd
      rcases hd2 : digs b.data.toList with _ | _
      · have HD2 := hideIt2 hd2
        clear hd2
        go_wp2_with fail
        refine (onlyDigits_calls a w1 (by omega)).mono ?_
        rintro e w2 ⟨hb_w2, rfl⟩
        rw [HD.out]
        have HCw2 := hideIt2 (bel_bel (Below.refl _ _) hb_w2)
        clear hb_w2
        have hcb2 := (HCw2.out.cell (p := ⟨w.heap.size, 1, none⟩) hlw).trans hcb
        go_wp2_with fail
        refine (onlyDigits_calls b w2 (by omega)).mono ?_
        rintro e w3 ⟨hb_w3, rfl⟩
        rw [HD2.out]
        have HCw3 := hideIt2 (bel_bel HCw2.out hb_w3)
        clear hb_w3
        go_wp2
        go_ret
        exact ⟨Below.new (bel_bel HB1.out HCw3.out) _, _, rfl, ((bel_bel HB1.out HCw3.out)).size, by rw [← HQ.out, rd_low (by rw [HUP.out.2]; exact HD2.out)]; exact RV.nought _⟩
      · have HD2 := hideIt2 hd2
        clear hd2
        by_cases hz : dv b.data.toList = 0
        · have HZ : Hid ((Lib.trimB b.data.toList 48).isEmpty = true) := by
            show _ = _
            rw [List.isEmpty_iff, trimB_nil, dv_zeros (digs_all HD2.out)]
            exact hz
          have HZ0 := hideIt2 hz
          clear hz
          go_wp2_with fail
          refine (onlyDigits_calls a w1 (by omega)).mono ?_
          rintro e w2 ⟨hb_w2, rfl⟩
          rw [HD.out]
          have HCw2 := hideIt2 (bel_bel (Below.refl _ _) hb_w2)
          clear hb_w2
          have hcb2 := (HCw2.out.cell (p := ⟨w.heap.size, 1, none⟩) hlw).trans hcb
          go_wp2_with fail
          refine (onlyDigits_calls b w2 (by omega)).mono ?_
          rintro e w3 ⟨hb_w3, rfl⟩
          rw [HD2.out]
          have HCw3 := hideIt2 (bel_bel HCw2.out hb_w3)
          clear hb_w3
          have hcb3 := (HCw3.out.cell (p := ⟨w.heap.size, 1, none⟩) hlw).trans hcb
          go_wp2_with fail
          refine (Tryz.strings_Trim_one b 48 (by decide) w3 (by omega)).mono ?_
          obtain ⟨tb, htb⟩ : ∃ tb : ByteArray, (⟨(Lib.trimB b.data.toList 48).toArray⟩ : ByteArray) = tb := ⟨_, rfl⟩
          have hem : tb.toList.isEmpty = true := by
            rw [emp, ← htb]
            exact HZ.out
          rw [htb]
          clear htb
          rintro e w4 ⟨rfl, hw4⟩
          have HCw4 : Hid (Below w1.heap.size w1 w4) := by
            rcases hw4 with rfl | rfl
            · exact HCw3.out
            · exact Below.drew HCw3.out
          clear hw4
          go_wp2
          go_ret
          exact ⟨Below.new (bel_bel HB1.out HCw4.out) _, _, rfl, ((bel_bel HB1.out HCw4.out)).size, by rw [← HQ.out, rd_nought (by rw [HUP.out.2]; exact HZ0.out)]; exact RV.nought _⟩
        · have HZ : Hid ((Lib.trimB b.data.toList 48).isEmpty = false) := by
            show _ = _
            rw [List.isEmpty_eq_false_iff, Ne, trimB_nil, dv_zeros (digs_all HD2.out)]
            exact hz
          have HZ0 : Hid (0 < dv b.data.toList) := Nat.pos_of_ne_zero hz
          clear hz
          go_wp2_with fail
          refine (onlyDigits_calls a w1 (by omega)).mono ?_
          rintro e w2 ⟨hb_w2, rfl⟩
          rw [HD.out]
          have HCw2 := hideIt2 (bel_bel (Below.refl _ _) hb_w2)
          clear hb_w2
          have hcb2 := (HCw2.out.cell (p := ⟨w.heap.size, 1, none⟩) hlw).trans hcb
          go_wp2_with fail
          refine (onlyDigits_calls b w2 (by omega)).mono ?_
          rintro e w3 ⟨hb_w3, rfl⟩
          rw [HD2.out]
          have HCw3 := hideIt2 (bel_bel HCw2.out hb_w3)
          clear hb_w3
          have hcb3 := (HCw3.out.cell (p := ⟨w.heap.size, 1, none⟩) hlw).trans hcb
          go_wp2_with fail
          refine (Tryz.strings_Trim_one b 48 (by decide) w3 (by omega)).mono ?_
          obtain ⟨tb, htb⟩ : ∃ tb : ByteArray, (⟨(Lib.trimB b.data.toList 48).toArray⟩ : ByteArray) = tb := ⟨_, rfl⟩
          have hem : tb.toList.isEmpty = false := by
            rw [emp, ← htb]
            exact HZ.out
          rw [htb]
          clear htb
          rintro e w4 ⟨rfl, hw4⟩
          have HCw4 : Hid (Below w1.heap.size w1 w4) := by
            rcases hw4 with rfl | rfl
            · exact HCw3.out
            · exact Below.drew HCw3.out
          clear hw4
          have hca4 := (HCw4.out.cell (p := ⟨w.heap.size, 0, none⟩) hlw).trans hca
          have hlw4 : w.heap.size < w4.heap.size := cell_lt hca4
          go_wp2_with fail
          refine (setString_walk (s := a) (Blk.new w4 _ _) HD.out (by omega)).mono ?_
          rintro e w5 ⟨rfl, hs5, ho5⟩
          have H5 := hideIt2 (And.intro (bel_sav (Below.new HCw4.out _) hs5 HCw4.out.size) ho5)
          clear hs5 ho5
          go_wp2_with fail
          refine (newInt_calls 1 (by decide) w5).mono ?_
          rintro e w6 ⟨hb6, gd, rfl, hgd, ho6⟩
          have H6 := hideIt2 (And.intro (bel_bel H5.out.1 hb6) (H5.out.2.below hb6))
          have hcb6 := (H6.out.1.cell (p := ⟨w.heap.size, 1, none⟩) hlw).trans hcb
          have hlw6 : w.heap.size < w6.heap.size := cell_lt hcb6
          clear hb6 ho6
          go_wp2_with fail
          refine (setString_walk (s := b) (Blk.new w6 _ _) HD2.out (by omega)).mono ?_
          rintro e w7 ⟨rfl, hs7, ho7⟩
          have H7 := hideIt2 (And.intro (bel_bel HB1.out (bel_sav (Below.new H6.out.1 _) hs7 H6.out.1.size)) (And.intro (own_sav hs7 (held_int (Blk.new w6 _ _)) (own_new _ H6.out.2) (by have := H6.out.2.lt; omega)) ho7))
          clear hs7 ho7
          go_wp2_with fail
          refine (setFrac_walk (z := (dv a.data.toList : Int)) (b := dv b.data.toList) (Blk.new w7 _ _) (by simp [notLimb]) (Own2.iv (own_new _ H7.out.2.1)) (Own2.iv (own_new _ H7.out.2.2)) HZ0.out (by rw [Int.natAbs_natCast]; exact small_two (k := K) (size_digs HD.out (by omega) (by omega)) (by omega)) (small_two (k := K) (size_digs HD2.out (by omega) (by omega)) (by omega))).mono ?_
          rintro e w8 ⟨rfl, hs8, hr8⟩
          have H8 := hideIt2 (And.intro (bel_sav (Below.new H7.out.1 _) hs8 H7.out.1.size) hr8)
          clear hs8 hr8
          go_wp2
          go_ret
          exact ⟨H8.out.1, _, rfl, H7.out.1.size, by rw [← HQ.out, rd_pos HNG2.out (by rw [HUP.out.1]; exact HD.out) (by rw [HUP.out.2]; exact HD2.out), HUP.out.1, HUP.out.2]; exact H8.out.2⟩
theorem refOf_neg (s : ByteArray) (w : World) (hm : MaxL w) (hs : s.size ≤ 4294967280) (hng : ngOf s.data.toList = true) :
    Calls Tryz.prog 79 #[.string s] w fun e w' => Below w.heap.size w w' ∧ ∃ g, e = .returned (.pointer (some ⟨g, 0, none⟩)) ∧ w.heap.size ≤ g ∧ RV w' g (rd s.data.toList) := by
  have HM := hideIt2 hm
  have HNG : Hid (Lib.hasPrefix s.data.toList (⟨#[45]⟩ : ByteArray).data.toList = true) := hng
  have HNG2 := hideIt2 hng
  obtain ⟨K, hK1, hK2⟩ : ∃ K : Nat, 17179869120 ≤ K ∧ K ≤ 17179869121 := ⟨17179869120, by decide, by decide⟩
  generalize hQ : rd s.data.toList = Q
  have HQ := hideIt2 hQ
  obtain ⟨htl, hs1⟩ := tail_neg hng
  have HTL := hideIt2 htl
  have hts : (s.extract 1 s.size).size ≤ 4294967280 := by rw [ByteArray.size_extract]; omega
  clear htl
  clear hm hng hQ
  go_enter Tryz.func79, Tryz.ntmps79
  go_wp2_with fail
  refine (Tryz.strings_HasPrefix s ⟨#[45]⟩ w).mono ?_
  rintro e w1 ⟨rfl, hw1⟩
  have hw2 := hw1.symm; subst hw2; clear hw1
  rw [HNG.out]
  go_wp2_with fail
  generalize s.extract 1 s.size = t at *
  refine (split_calls t w HM.out (by omega)).mono ?_
  rintro e w1 ⟨hb1, ⟨hbar, cap, rfl, hc1, hc2, hcell⟩ | ⟨i, a, b, hbar, rfl, hca, hcb, ha, hb, has, hbs⟩⟩
  · have HB1 := hideIt2 hb1
    obtain ⟨hup, hlo, hl1⟩ := bar_none hbar
    have HUP : Hid (upOf (tailOf s.data.toList) = t.data.toList ∧ digs (lowOf (tailOf s.data.toList)) = true ∧ dv (lowOf (tailOf s.data.toList)) = 1) := by
      rw [← HTL.out]
      exact ⟨hup, hlo, hl1⟩
    have hlw : w.heap.size < w1.heap.size := cell_lt hcell
    clear hb1 hbar hup hlo hl1
    rcases hd : digs t.data.toList with _ | _
    · have HD := hideIt2 hd
      clear hd
      go_wp2_with fail
      refine (onlyDigits_calls t w1 (by omega)).mono ?_
      rintro e w2 ⟨hb_w2, rfl⟩
      rw [HD.out]
      have HCw2 := hideIt2 (bel_bel (Below.refl _ _) hb_w2)
      clear hb_w2
      go_wp2
      go_ret
      exact ⟨Below.new (bel_bel HB1.out HCw2.out) _, _, rfl, ((bel_bel HB1.out HCw2.out)).size, by rw [← HQ.out, rd_up (by rw [HUP.out.1]; exact HD.out)]; exact RV.nought _⟩
    · have HD := hideIt2 hd
      clear hd
      go_wp2_with fail
      refine (onlyDigits_calls t w1 (by omega)).mono ?_
      rintro e w2 ⟨hb_w2, rfl⟩
      rw [HD.out]
      have HCw2 := hideIt2 (bel_bel (Below.refl _ _) hb_w2)
      clear hb_w2
      have hcell2 := (HCw2.out.cell (p := ⟨w.heap.size, 0, none⟩) hlw).trans hcell
      have hlw2 : w.heap.size < w2.heap.size := cell_lt hcell2
      go_wp2_with fail
      refine (setString_walk (s := t) (Blk.new w2 _ _) HD.out (by omega)).mono ?_
      rintro e w5 ⟨rfl, hs5, ho5⟩
      have H5 := hideIt2 (And.intro (bel_sav (Below.new (bel_bel HB1.out HCw2.out) _) hs5 (bel_bel HB1.out HCw2.out).size) ho5)
      clear hs5 ho5
      go_wp2_with fail
      refine (newInt_calls 1 (by decide) w5).mono ?_
      rintro e w6 ⟨hb6, gd, rfl, hgd, ho6⟩
      have H6 := hideIt2 (And.intro (bel_bel H5.out.1 hb6) (And.intro (H5.out.2.below hb6) ho6))
      clear hb6 ho6
      go_wp2_with fail
      refine (setFrac_walk (z := (dv t.data.toList : Int)) (b := 1) (Blk.new w6 _ _) (by simp [notLimb]) (Own2.iv (own_new _ H6.out.2.1)) (Own2.iv (own_new _ H6.out.2.2)) (by decide) (by rw [Int.natAbs_natCast]; exact small_two (k := K) (size_digs HD.out (by omega) (by omega)) (by omega)) (small_two (k := 1) (by decide) (by decide))).mono ?_
      rintro e w8 ⟨rfl, hs8, hr8⟩
      have H8 := hideIt2 (And.intro (bel_sav (Below.new H6.out.1 _) hs8 H6.out.1.size) hr8)
      clear hs8 hr8
      obtain ⟨a1, l1, c1, a2, l2, c2, hk8, _, _⟩ := H8.out.2
      have HK8 := hideIt2 hk8
      clear hk8
      have FR : Hid (QS (K + 1) (mkRat (dv t.data.toList : Int) (1))) := QS.mkr (by rw [Int.natAbs_natCast]; exact size_digs HD.out (by omega) (by omega)) (Nat.one_lt_two_pow (by omega))
      go_wp2_with fail
      refine (ratNeg_calls HK8.out (by simp [notLimb]) H8.out.2 FR.out (by omega)).mono ?_
      rintro e w9 ⟨rfl, hs9, hr9⟩
      have H9 := hideIt2 (And.intro (bel_sav H8.out.1 hs9 H6.out.1.size) hr9)
      clear hs9 hr9
      go_wp2
      go_ret
      exact ⟨H9.out.1, _, rfl, H6.out.1.size, by rw [← HQ.out, rd_neg HNG2.out (by rw [HUP.out.1]; exact HD.out) HUP.out.2.1, HUP.out.1, HUP.out.2.2]; exact H9.out.2⟩
  · have HB1 := hideIt2 hb1
    have HUP : Hid (upOf (tailOf s.data.toList) = a.data.toList ∧ lowOf (tailOf s.data.toList) = b.data.toList) := by
      rw [← HTL.out]
      exact ⟨ha.symm, hb.symm⟩
    have hlw : w.heap.size < w1.heap.size := cell_lt hca
    clear hb1 hbar ha hb
    rcases hd : digs a.data.toList with _ | _
    · have HD := hideIt2 hd
      clear hd
      go_wp2_with fail
      refine (onlyDigits_calls a w1 (by omega)).mono ?_
      rintro e w2 ⟨hb_w2, rfl⟩
      rw [HD.out]
      have HCw2 := hideIt2 (bel_bel (Below.refl _ _) hb_w2)
      clear hb_w2
      go_wp2
      go_ret
      exact ⟨Below.new (bel_bel HB1.out HCw2.out) _, _, rfl, ((bel_bel HB1.out HCw2.out)).size, by rw [← HQ.out, rd_up (by rw [HUP.out.1]; exact HD.out)]; exact RV.nought _⟩
    · have HD := hideIt2 hd
      clear hd
      rcases hd2 : digs b.data.toList with _ | _
      · have HD2 := hideIt2 hd2
        clear hd2
        go_wp2_with fail
        refine (onlyDigits_calls a w1 (by omega)).mono ?_
        rintro e w2 ⟨hb_w2, rfl⟩
        rw [HD.out]
        have HCw2 := hideIt2 (bel_bel (Below.refl _ _) hb_w2)
        clear hb_w2
        have hcb2 := (HCw2.out.cell (p := ⟨w.heap.size, 1, none⟩) hlw).trans hcb
        go_wp2_with fail
        refine (onlyDigits_calls b w2 (by omega)).mono ?_
        rintro e w3 ⟨hb_w3, rfl⟩
        rw [HD2.out]
        have HCw3 := hideIt2 (bel_bel HCw2.out hb_w3)
        clear hb_w3
        go_wp2
        go_ret
        exact ⟨Below.new (bel_bel HB1.out HCw3.out) _, _, rfl, ((bel_bel HB1.out HCw3.out)).size, by rw [← HQ.out, rd_low (by rw [HUP.out.2]; exact HD2.out)]; exact RV.nought _⟩
      · have HD2 := hideIt2 hd2
        clear hd2
        by_cases hz : dv b.data.toList = 0
        · have HZ : Hid ((Lib.trimB b.data.toList 48).isEmpty = true) := by
            show _ = _
            rw [List.isEmpty_iff, trimB_nil, dv_zeros (digs_all HD2.out)]
            exact hz
          have HZ0 := hideIt2 hz
          clear hz
          go_wp2_with fail
          refine (onlyDigits_calls a w1 (by omega)).mono ?_
          rintro e w2 ⟨hb_w2, rfl⟩
          rw [HD.out]
          have HCw2 := hideIt2 (bel_bel (Below.refl _ _) hb_w2)
          clear hb_w2
          have hcb2 := (HCw2.out.cell (p := ⟨w.heap.size, 1, none⟩) hlw).trans hcb
          go_wp2_with fail
          refine (onlyDigits_calls b w2 (by omega)).mono ?_
          rintro e w3 ⟨hb_w3, rfl⟩
          rw [HD2.out]
          have HCw3 := hideIt2 (bel_bel HCw2.out hb_w3)
          clear hb_w3
          have hcb3 := (HCw3.out.cell (p := ⟨w.heap.size, 1, none⟩) hlw).trans hcb
          go_wp2_with fail
          refine (Tryz.strings_Trim_one b 48 (by decide) w3 (by omega)).mono ?_
          obtain ⟨tb, htb⟩ : ∃ tb : ByteArray, (⟨(Lib.trimB b.data.toList 48).toArray⟩ : ByteArray) = tb := ⟨_, rfl⟩
          have hem : tb.toList.isEmpty = true := by
            rw [emp, ← htb]
            exact HZ.out
          rw [htb]
          clear htb
          rintro e w4 ⟨rfl, hw4⟩
          have HCw4 : Hid (Below w1.heap.size w1 w4) := by
            rcases hw4 with rfl | rfl
            · exact HCw3.out
            · exact Below.drew HCw3.out
          clear hw4
          go_wp2
          go_ret
          exact ⟨Below.new (bel_bel HB1.out HCw4.out) _, _, rfl, ((bel_bel HB1.out HCw4.out)).size, by rw [← HQ.out, rd_nought (by rw [HUP.out.2]; exact HZ0.out)]; exact RV.nought _⟩
        · have HZ : Hid ((Lib.trimB b.data.toList 48).isEmpty = false) := by
            show _ = _
            rw [List.isEmpty_eq_false_iff, Ne, trimB_nil, dv_zeros (digs_all HD2.out)]
            exact hz
          have HZ0 : Hid (0 < dv b.data.toList) := Nat.pos_of_ne_zero hz
          clear hz
          go_wp2_with fail
          refine (onlyDigits_calls a w1 (by omega)).mono ?_
          rintro e w2 ⟨hb_w2, rfl⟩
          rw [HD.out]
          have HCw2 := hideIt2 (bel_bel (Below.refl _ _) hb_w2)
          clear hb_w2
          have hcb2 := (HCw2.out.cell (p := ⟨w.heap.size, 1, none⟩) hlw).trans hcb
          go_wp2_with fail
          refine (onlyDigits_calls b w2 (by omega)).mono ?_
          rintro e w3 ⟨hb_w3, rfl⟩
          rw [HD2.out]
          have HCw3 := hideIt2 (bel_bel HCw2.out hb_w3)
          clear hb_w3
          have hcb3 := (HCw3.out.cell (p := ⟨w.heap.size, 1, none⟩) hlw).trans hcb
          go_wp2_with fail
          refine (Tryz.strings_Trim_one b 48 (by decide) w3 (by omega)).mono ?_
          obtain ⟨tb, htb⟩ : ∃ tb : ByteArray, (⟨(Lib.trimB b.data.toList 48).toArray⟩ : ByteArray) = tb := ⟨_, rfl⟩
          have hem : tb.toList.isEmpty = false := by
            rw [emp, ← htb]
            exact HZ.out
          rw [htb]
          clear htb
          rintro e w4 ⟨rfl, hw4⟩
          have HCw4 : Hid (Below w1.heap.size w1 w4) := by
            rcases hw4 with rfl | rfl
            · exact HCw3.out
            · exact Below.drew HCw3.out
          clear hw4
          have hca4 := (HCw4.out.cell (p := ⟨w.heap.size, 0, none⟩) hlw).trans hca
          have hlw4 : w.heap.size < w4.heap.size := cell_lt hca4
          go_wp2_with fail
          refine (setString_walk (s := a) (Blk.new w4 _ _) HD.out (by omega)).mono ?_
          rintro e w5 ⟨rfl, hs5, ho5⟩
          have H5 := hideIt2 (And.intro (bel_sav (Below.new HCw4.out _) hs5 HCw4.out.size) ho5)
          clear hs5 ho5
          go_wp2_with fail
          refine (newInt_calls 1 (by decide) w5).mono ?_
          rintro e w6 ⟨hb6, gd, rfl, hgd, ho6⟩
          have H6 := hideIt2 (And.intro (bel_bel H5.out.1 hb6) (H5.out.2.below hb6))
          have hcb6 := (H6.out.1.cell (p := ⟨w.heap.size, 1, none⟩) hlw).trans hcb
          have hlw6 : w.heap.size < w6.heap.size := cell_lt hcb6
          clear hb6 ho6
          go_wp2_with fail
          refine (setString_walk (s := b) (Blk.new w6 _ _) HD2.out (by omega)).mono ?_
          rintro e w7 ⟨rfl, hs7, ho7⟩
          have H7 := hideIt2 (And.intro (bel_bel HB1.out (bel_sav (Below.new H6.out.1 _) hs7 H6.out.1.size)) (And.intro (own_sav hs7 (held_int (Blk.new w6 _ _)) (own_new _ H6.out.2) (by have := H6.out.2.lt; omega)) ho7))
          clear hs7 ho7
          go_wp2_with fail
          refine (setFrac_walk (z := (dv a.data.toList : Int)) (b := dv b.data.toList) (Blk.new w7 _ _) (by simp [notLimb]) (Own2.iv (own_new _ H7.out.2.1)) (Own2.iv (own_new _ H7.out.2.2)) HZ0.out (by rw [Int.natAbs_natCast]; exact small_two (k := K) (size_digs HD.out (by omega) (by omega)) (by omega)) (small_two (k := K) (size_digs HD2.out (by omega) (by omega)) (by omega))).mono ?_
          rintro e w8 ⟨rfl, hs8, hr8⟩
          have H8 := hideIt2 (And.intro (bel_sav (Below.new H7.out.1 _) hs8 H7.out.1.size) hr8)
          clear hs8 hr8
          obtain ⟨a1, l1, c1, a2, l2, c2, hk8, _, _⟩ := H8.out.2
          have HK8 := hideIt2 hk8
          clear hk8
          have FR : Hid (QS (K + 1) (mkRat (dv a.data.toList : Int) (dv b.data.toList))) := QS.mkr (by rw [Int.natAbs_natCast]; exact size_digs HD.out (by omega) (by omega)) (size_digs HD2.out (by omega) (by omega))
          go_wp2_with fail
          refine (ratNeg_calls HK8.out (by simp [notLimb]) H8.out.2 FR.out (by omega)).mono ?_
          rintro e w9 ⟨rfl, hs9, hr9⟩
          have H9 := hideIt2 (And.intro (bel_sav H8.out.1 hs9 H7.out.1.size) hr9)
          clear hs9 hr9
          go_wp2
          go_ret
          exact ⟨H9.out.1, _, rfl, H7.out.1.size, by rw [← HQ.out, rd_neg HNG2.out (by rw [HUP.out.1]; exact HD.out) (by rw [HUP.out.2]; exact HD2.out), HUP.out.1, HUP.out.2]; exact H9.out.2⟩
theorem refOf_calls (s : ByteArray) (w : World) (hm : MaxL w) (hs : s.size ≤ 4294967280) :
    Calls Tryz.prog 79 #[.string s] w fun e w' => Below w.heap.size w w' ∧ ∃ g, e = .returned (.pointer (some ⟨g, 0, none⟩)) ∧ w.heap.size ≤ g ∧ RV w' g (rd s.data.toList) := by
  rcases h : ngOf s.data.toList with _ | _
  · exact refOf_pos s w hm hs h
  · exact refOf_neg s w hm hs h
end Go.Proofs.YtgajdmadbdbabaaGreatDoor
/- WC -/
namespace Go.Proofs.YtgajdmadbdbabaaGreatDoor
open Go.RowKit Cx
attribute [local go_sem ↓] Go.wp_at_zero Go.wp_at_succ
theorem wayTimes_walk {w : World} {cax cay cq : C3} {ax ay q : Rat} (hax : QV w (.agg #[.bool cax.n, .slice cax.u cax.nu cax.cu, .slice cax.l cax.nl cax.cl]) ax) (hay : QV w (.agg #[.bool cay.n, .slice cay.u cay.nu cay.cu, .slice cay.l cay.nl cay.cl]) ay) (hq : QV w (.agg #[.bool cq.n, .slice cq.u cq.nu cq.cu, .slice cq.l cq.nl cq.cl]) q) {k l : Nat} (f1 : QS k ax) (f2 : QS k ay) (f3 : QS l q) (hk : k + l + 1 ≤ 35184372088640) :
    Calls Tryz.prog 68 #[.agg #[.bool cax.n, .slice cax.u cax.nu cax.cu, .slice cax.l cax.nl cax.cl, .bool cay.n, .slice cay.u cay.nu cay.cu, .slice cay.l cay.nl cay.cl], .agg #[.bool cq.n, .slice cq.u cq.nu cq.cu, .slice cq.l cq.nl cq.cl]] w fun e w' => Below w.heap.size w w' ∧ ∃ v, e = .returned v ∧ WV w' v (ax * q) (ay * q) := by
  obtain ⟨hb0, hk0, hk1, hk2, hsz⟩ := boxes3 w #[.bool cax.n, .slice cax.u cax.nu cax.cu, .slice cax.l cax.nl cax.cl, .bool cay.n, .slice cay.u cay.nu cay.cu, .slice cay.l cay.nl cay.cl] #[.bool cq.n, .slice cq.u cq.nu cq.cu, .slice cq.l cq.nl cq.cl] #[.bool false, .slice none 0 0, .slice none 0 0, .bool false, .slice none 0 0, .slice none 0 0] 86 84 86
  have HB0 := hideIt hb0
  have HSZ := hideIt hsz
  have HK0 := hideIt hk0
  have HK1 := hideIt hk1
  have HK2 := hideIt hk2
  have Hax := hideIt (hax.below hb0)
  have Hay := hideIt (hay.below hb0)
  have Hq := hideIt (hq.below hb0)
  have F1 := hideIt f1
  have F2 := hideIt f2
  have F3 := hideIt f3
  have HK := hideIt hk
  clear hb0 hsz hk0 hk1 hk2 hax hay hq f1 f2 f3 hk
  go_enter Tryz.func68, Tryz.ntmps68
  go_wp2_with fail
  generalize (((w.alloc (.cells #[.bool cax.n, .slice cax.u cax.nu cax.cu, .slice cax.l cax.nl cax.cl, .bool cay.n, .slice cay.u cay.nu cay.cu, .slice cay.l cay.nl cay.cl] 86)).alloc (.cells #[.bool cq.n, .slice cq.u cq.nu cq.cu, .slice cq.l cq.nl cq.cl] 84)).alloc (.cells #[.bool false, .slice none 0 0, .slice none 0 0, .bool false, .slice none 0 0, .slice none 0 0] 86)) = W0 at *
  have HS : Hid (∀ w', Below W0.heap.size W0 w' → w'.cell? ⟨w.heap.size, 0, none⟩ = some (.bool cax.n) ∧ w'.cell? ⟨w.heap.size, 1, none⟩ = some (.slice cax.u cax.nu cax.cu) ∧ w'.cell? ⟨w.heap.size, 2, none⟩ = some (.slice cax.l cax.nl cax.cl) ∧ w'.cell? ⟨w.heap.size, 3, none⟩ = some (.bool cay.n) ∧ w'.cell? ⟨w.heap.size, 4, none⟩ = some (.slice cay.u cay.nu cay.cu) ∧ w'.cell? ⟨w.heap.size, 5, none⟩ = some (.slice cay.l cay.nl cay.cl) ∧ w'.cell? ⟨w.heap.size + 1, 0, none⟩ = some (.bool cq.n) ∧ w'.cell? ⟨w.heap.size + 1, 1, none⟩ = some (.slice cq.u cq.nu cq.cu) ∧ w'.cell? ⟨w.heap.size + 1, 2, none⟩ = some (.slice cq.l cq.nl cq.cl)) := fun w' hb => ⟨(HK0.out.below hb (by rw [HSZ.out]; omega)).cell 0, (HK0.out.below hb (by rw [HSZ.out]; omega)).cell 1, (HK0.out.below hb (by rw [HSZ.out]; omega)).cell 2, (HK0.out.below hb (by rw [HSZ.out]; omega)).cell 3, (HK0.out.below hb (by rw [HSZ.out]; omega)).cell 4, (HK0.out.below hb (by rw [HSZ.out]; omega)).cell 5, (HK1.out.below hb (by rw [HSZ.out]; omega)).cell 0, (HK1.out.below hb (by rw [HSZ.out]; omega)).cell 1, (HK1.out.below hb (by rw [HSZ.out]; omega)).cell 2⟩
  have HSS : Hid (∀ w', Below W0.heap.size W0 w' → ∀ x0 x1 x2 x3 x4 x5 : Value, ((((((w'.setCell ⟨w.heap.size + 1 + 1, 0, none⟩ (x0)).setCell ⟨w.heap.size + 1 + 1, 1, none⟩ (x1)).setCell ⟨w.heap.size + 1 + 1, 2, none⟩ (x2)).setCell ⟨w.heap.size + 1 + 1, 3, none⟩ (x3)).setCell ⟨w.heap.size + 1 + 1, 4, none⟩ (x4)).setCell ⟨w.heap.size + 1 + 1, 5, none⟩ (x5)).cell? ⟨w.heap.size, 0, none⟩ = some (.bool cax.n) ∧ ((((((w'.setCell ⟨w.heap.size + 1 + 1, 0, none⟩ (x0)).setCell ⟨w.heap.size + 1 + 1, 1, none⟩ (x1)).setCell ⟨w.heap.size + 1 + 1, 2, none⟩ (x2)).setCell ⟨w.heap.size + 1 + 1, 3, none⟩ (x3)).setCell ⟨w.heap.size + 1 + 1, 4, none⟩ (x4)).setCell ⟨w.heap.size + 1 + 1, 5, none⟩ (x5)).cell? ⟨w.heap.size, 1, none⟩ = some (.slice cax.u cax.nu cax.cu) ∧ ((((((w'.setCell ⟨w.heap.size + 1 + 1, 0, none⟩ (x0)).setCell ⟨w.heap.size + 1 + 1, 1, none⟩ (x1)).setCell ⟨w.heap.size + 1 + 1, 2, none⟩ (x2)).setCell ⟨w.heap.size + 1 + 1, 3, none⟩ (x3)).setCell ⟨w.heap.size + 1 + 1, 4, none⟩ (x4)).setCell ⟨w.heap.size + 1 + 1, 5, none⟩ (x5)).cell? ⟨w.heap.size, 2, none⟩ = some (.slice cax.l cax.nl cax.cl) ∧ ((((((w'.setCell ⟨w.heap.size + 1 + 1, 0, none⟩ (x0)).setCell ⟨w.heap.size + 1 + 1, 1, none⟩ (x1)).setCell ⟨w.heap.size + 1 + 1, 2, none⟩ (x2)).setCell ⟨w.heap.size + 1 + 1, 3, none⟩ (x3)).setCell ⟨w.heap.size + 1 + 1, 4, none⟩ (x4)).setCell ⟨w.heap.size + 1 + 1, 5, none⟩ (x5)).cell? ⟨w.heap.size, 3, none⟩ = some (.bool cay.n) ∧ ((((((w'.setCell ⟨w.heap.size + 1 + 1, 0, none⟩ (x0)).setCell ⟨w.heap.size + 1 + 1, 1, none⟩ (x1)).setCell ⟨w.heap.size + 1 + 1, 2, none⟩ (x2)).setCell ⟨w.heap.size + 1 + 1, 3, none⟩ (x3)).setCell ⟨w.heap.size + 1 + 1, 4, none⟩ (x4)).setCell ⟨w.heap.size + 1 + 1, 5, none⟩ (x5)).cell? ⟨w.heap.size, 4, none⟩ = some (.slice cay.u cay.nu cay.cu) ∧ ((((((w'.setCell ⟨w.heap.size + 1 + 1, 0, none⟩ (x0)).setCell ⟨w.heap.size + 1 + 1, 1, none⟩ (x1)).setCell ⟨w.heap.size + 1 + 1, 2, none⟩ (x2)).setCell ⟨w.heap.size + 1 + 1, 3, none⟩ (x3)).setCell ⟨w.heap.size + 1 + 1, 4, none⟩ (x4)).setCell ⟨w.heap.size + 1 + 1, 5, none⟩ (x5)).cell? ⟨w.heap.size, 5, none⟩ = some (.slice cay.l cay.nl cay.cl) ∧ ((((((w'.setCell ⟨w.heap.size + 1 + 1, 0, none⟩ (x0)).setCell ⟨w.heap.size + 1 + 1, 1, none⟩ (x1)).setCell ⟨w.heap.size + 1 + 1, 2, none⟩ (x2)).setCell ⟨w.heap.size + 1 + 1, 3, none⟩ (x3)).setCell ⟨w.heap.size + 1 + 1, 4, none⟩ (x4)).setCell ⟨w.heap.size + 1 + 1, 5, none⟩ (x5)).cell? ⟨w.heap.size + 1, 0, none⟩ = some (.bool cq.n) ∧ ((((((w'.setCell ⟨w.heap.size + 1 + 1, 0, none⟩ (x0)).setCell ⟨w.heap.size + 1 + 1, 1, none⟩ (x1)).setCell ⟨w.heap.size + 1 + 1, 2, none⟩ (x2)).setCell ⟨w.heap.size + 1 + 1, 3, none⟩ (x3)).setCell ⟨w.heap.size + 1 + 1, 4, none⟩ (x4)).setCell ⟨w.heap.size + 1 + 1, 5, none⟩ (x5)).cell? ⟨w.heap.size + 1, 1, none⟩ = some (.slice cq.u cq.nu cq.cu) ∧ ((((((w'.setCell ⟨w.heap.size + 1 + 1, 0, none⟩ (x0)).setCell ⟨w.heap.size + 1 + 1, 1, none⟩ (x1)).setCell ⟨w.heap.size + 1 + 1, 2, none⟩ (x2)).setCell ⟨w.heap.size + 1 + 1, 3, none⟩ (x3)).setCell ⟨w.heap.size + 1 + 1, 4, none⟩ (x4)).setCell ⟨w.heap.size + 1 + 1, 5, none⟩ (x5)).cell? ⟨w.heap.size + 1, 2, none⟩ = some (.slice cq.l cq.nl cq.cl)) := fun w' hb x0 x1 x2 x3 x4 x5 => ⟨((HK0.out.below hb (by rw [HSZ.out]; omega)).off6 (g := w.heap.size + 1 + 1) (by omega) x0 x1 x2 x3 x4 x5).cell 0, ((HK0.out.below hb (by rw [HSZ.out]; omega)).off6 (g := w.heap.size + 1 + 1) (by omega) x0 x1 x2 x3 x4 x5).cell 1, ((HK0.out.below hb (by rw [HSZ.out]; omega)).off6 (g := w.heap.size + 1 + 1) (by omega) x0 x1 x2 x3 x4 x5).cell 2, ((HK0.out.below hb (by rw [HSZ.out]; omega)).off6 (g := w.heap.size + 1 + 1) (by omega) x0 x1 x2 x3 x4 x5).cell 3, ((HK0.out.below hb (by rw [HSZ.out]; omega)).off6 (g := w.heap.size + 1 + 1) (by omega) x0 x1 x2 x3 x4 x5).cell 4, ((HK0.out.below hb (by rw [HSZ.out]; omega)).off6 (g := w.heap.size + 1 + 1) (by omega) x0 x1 x2 x3 x4 x5).cell 5, ((HK1.out.below hb (by rw [HSZ.out]; omega)).off6 (g := w.heap.size + 1 + 1) (by omega) x0 x1 x2 x3 x4 x5).cell 0, ((HK1.out.below hb (by rw [HSZ.out]; omega)).off6 (g := w.heap.size + 1 + 1) (by omega) x0 x1 x2 x3 x4 x5).cell 1, ((HK1.out.below hb (by rw [HSZ.out]; omega)).off6 (g := w.heap.size + 1 + 1) (by omega) x0 x1 x2 x3 x4 x5).cell 2⟩
  obtain ⟨z0, z1, z2, z3, z4, z5, z6, z7, z8⟩ := HS.out W0 (Below.refl _ _)
  go_region_held3 (fun w' => w'.cell? ⟨w.heap.size, 0, none⟩ = some (.bool cax.n) ∧ w'.cell? ⟨w.heap.size, 1, none⟩ = some (.slice cax.u cax.nu cax.cu) ∧ w'.cell? ⟨w.heap.size, 2, none⟩ = some (.slice cax.l cax.nl cax.cl) ∧ w'.cell? ⟨w.heap.size, 3, none⟩ = some (.bool cay.n) ∧ w'.cell? ⟨w.heap.size, 4, none⟩ = some (.slice cay.u cay.nu cay.cu) ∧ w'.cell? ⟨w.heap.size, 5, none⟩ = some (.slice cay.l cay.nl cay.cl) ∧ w'.cell? ⟨w.heap.size + 1, 0, none⟩ = some (.bool cq.n) ∧ w'.cell? ⟨w.heap.size + 1, 1, none⟩ = some (.slice cq.u cq.nu cq.cu) ∧ w'.cell? ⟨w.heap.size + 1, 2, none⟩ = some (.slice cq.l cq.nl cq.cl)) (first | go_keep | exact hs1 | exact hs2 | exact hkS)
    (first
      | (go_at_call_of 109 (Value.agg #[Value.bool cax.n, Value.slice cax.u cax.nu cax.cu, Value.slice cax.l cax.nl cax.cl]); refine (times_calls (w := W0.drew) (Hax.out.below (Below.drew (Below.refl _ _))) (Hq.out.below (Below.drew (Below.refl _ _))) F1.out F3.out HK.out).mono ?_; rintro e w1 ⟨hb1, v1, rfl, hv1⟩; have hbl1 : Below W0.heap.size W0 w1 := (Below.drew (Below.refl _ W0)).trans hb1; obtain ⟨d1, rfl⟩ := qv_open hv1; have hs1 := HS.out w1 hbl1)
      | (go_at_call_of 109 (Value.agg #[Value.bool cay.n, Value.slice cay.u cay.nu cay.cu, Value.slice cay.l cay.nl cay.cl]); refine (times_calls (Hay.out.below hbl1) (Hq.out.below hbl1) F2.out F3.out HK.out).mono ?_; rintro e w2 ⟨hb2, v2, rfl, hv2⟩; have hbl2 := hbl1.trans (hb2.mono hbl1.size); obtain ⟨d2, rfl⟩ := qv_open hv2; have hs2 := HS.out w2 hbl2; have hkr := HK2.out.below hbl2 (by rw [HSZ.out]; omega); obtain ⟨r0, r1, r2, r3, r4, r5, f0, f1, f2, f3, f4, f5⟩ := hkr.all6; have hkS := HSS.out w2 hbl2 (.bool d1.n) (.slice d1.u d1.nu d1.cu) (.slice d1.l d1.nl d1.cl) (.bool d2.n) (.slice d2.u d2.nu d2.cu) (.slice d2.l d2.nl d2.cl))
      )
  all_goals
    go_wp2
    obtain ⟨k0, k1, k2, k3, k4, k5, _, _, _, _, _, _⟩ := (hkr.put6 (.bool d1.n) (.slice d1.u d1.nu d1.cu) (.slice d1.l d1.nl d1.cl) (.bool d2.n) (.slice d2.u d2.nu d2.cu) (.slice d2.l d2.nl d2.cl)).all6
    refine bodyPost_ret (v := .agg #[.bool d1.n, .slice d1.u d1.nu d1.cu, .slice d1.l d1.nl d1.cl, .bool d2.n, .slice d2.u d2.nu d2.cu, .slice d2.l d2.nl d2.cl]) (by simp [results, Tryz.results68, go_sem, k0, k1, k2, k3, k4, k5]) rfl ⟨Below.put6 (HB0.out.trans (hbl2.mono HB0.out.size)) (by omega) (.bool d1.n) (.slice d1.u d1.nu d1.cu) (.slice d1.l d1.nl d1.cl) (.bool d2.n) (.slice d2.u d2.nu d2.cu) (.slice d2.l d2.nl d2.cl), _, rfl, ?_⟩
    have hst := Stays.put6 hkr (by simp [notLimb]) (.bool d1.n) (.slice d1.u d1.nu d1.cu) (.slice d1.l d1.nl d1.cl) (.bool d2.n) (.slice d2.u d2.nu d2.cu) (.slice d2.l d2.nl d2.cl) rfl rfl rfl rfl rfl rfl
    exact ⟨d1, d2, rfl, hst.qv (hv1.below hb2), hst.qv hv2⟩
theorem wayLeft_walk {w : World} {cax cay : C3} {ax ay : Rat} (hax : QV w (.agg #[.bool cax.n, .slice cax.u cax.nu cax.cu, .slice cax.l cax.nl cax.cl]) ax) (hay : QV w (.agg #[.bool cay.n, .slice cay.u cay.nu cay.cu, .slice cay.l cay.nl cay.cl]) ay)  :
    Calls Tryz.prog 65 #[.agg #[.bool cax.n, .slice cax.u cax.nu cax.cu, .slice cax.l cax.nl cax.cl, .bool cay.n, .slice cay.u cay.nu cay.cu, .slice cay.l cay.nl cay.cl]] w fun e w' => Below w.heap.size w w' ∧ ∃ v, e = .returned v ∧ WV w' v (-ay) ax := by
  obtain ⟨hb0, hk0, hk1, hsz⟩ := boxes2 w #[.bool cax.n, .slice cax.u cax.nu cax.cu, .slice cax.l cax.nl cax.cl, .bool cay.n, .slice cay.u cay.nu cay.cu, .slice cay.l cay.nl cay.cl] #[.bool false, .slice none 0 0, .slice none 0 0, .bool false, .slice none 0 0, .slice none 0 0] 86 86
  have HB0 := hideIt hb0
  have HSZ := hideIt hsz
  have HK0 := hideIt hk0
  have HK1 := hideIt hk1
  have Hax := hideIt (hax.below hb0)
  have Hay := hideIt (hay.below hb0)
  clear hb0 hsz hk0 hk1 hax hay 
  go_enter Tryz.func65, Tryz.ntmps65
  go_wp2_with fail
  generalize ((w.alloc (.cells #[.bool cax.n, .slice cax.u cax.nu cax.cu, .slice cax.l cax.nl cax.cl, .bool cay.n, .slice cay.u cay.nu cay.cu, .slice cay.l cay.nl cay.cl] 86)).alloc (.cells #[.bool false, .slice none 0 0, .slice none 0 0, .bool false, .slice none 0 0, .slice none 0 0] 86)) = W0 at *
  have HS : Hid (∀ w', Below W0.heap.size W0 w' → w'.cell? ⟨w.heap.size, 0, none⟩ = some (.bool cax.n) ∧ w'.cell? ⟨w.heap.size, 1, none⟩ = some (.slice cax.u cax.nu cax.cu) ∧ w'.cell? ⟨w.heap.size, 2, none⟩ = some (.slice cax.l cax.nl cax.cl) ∧ w'.cell? ⟨w.heap.size, 3, none⟩ = some (.bool cay.n) ∧ w'.cell? ⟨w.heap.size, 4, none⟩ = some (.slice cay.u cay.nu cay.cu) ∧ w'.cell? ⟨w.heap.size, 5, none⟩ = some (.slice cay.l cay.nl cay.cl)) := fun w' hb => ⟨(HK0.out.below hb (by rw [HSZ.out]; omega)).cell 0, (HK0.out.below hb (by rw [HSZ.out]; omega)).cell 1, (HK0.out.below hb (by rw [HSZ.out]; omega)).cell 2, (HK0.out.below hb (by rw [HSZ.out]; omega)).cell 3, (HK0.out.below hb (by rw [HSZ.out]; omega)).cell 4, (HK0.out.below hb (by rw [HSZ.out]; omega)).cell 5⟩
  have HSS : Hid (∀ w', Below W0.heap.size W0 w' → ∀ x0 x1 x2 x3 x4 x5 : Value, ((((((w'.setCell ⟨w.heap.size + 1, 0, none⟩ (x0)).setCell ⟨w.heap.size + 1, 1, none⟩ (x1)).setCell ⟨w.heap.size + 1, 2, none⟩ (x2)).setCell ⟨w.heap.size + 1, 3, none⟩ (x3)).setCell ⟨w.heap.size + 1, 4, none⟩ (x4)).setCell ⟨w.heap.size + 1, 5, none⟩ (x5)).cell? ⟨w.heap.size, 0, none⟩ = some (.bool cax.n) ∧ ((((((w'.setCell ⟨w.heap.size + 1, 0, none⟩ (x0)).setCell ⟨w.heap.size + 1, 1, none⟩ (x1)).setCell ⟨w.heap.size + 1, 2, none⟩ (x2)).setCell ⟨w.heap.size + 1, 3, none⟩ (x3)).setCell ⟨w.heap.size + 1, 4, none⟩ (x4)).setCell ⟨w.heap.size + 1, 5, none⟩ (x5)).cell? ⟨w.heap.size, 1, none⟩ = some (.slice cax.u cax.nu cax.cu) ∧ ((((((w'.setCell ⟨w.heap.size + 1, 0, none⟩ (x0)).setCell ⟨w.heap.size + 1, 1, none⟩ (x1)).setCell ⟨w.heap.size + 1, 2, none⟩ (x2)).setCell ⟨w.heap.size + 1, 3, none⟩ (x3)).setCell ⟨w.heap.size + 1, 4, none⟩ (x4)).setCell ⟨w.heap.size + 1, 5, none⟩ (x5)).cell? ⟨w.heap.size, 2, none⟩ = some (.slice cax.l cax.nl cax.cl) ∧ ((((((w'.setCell ⟨w.heap.size + 1, 0, none⟩ (x0)).setCell ⟨w.heap.size + 1, 1, none⟩ (x1)).setCell ⟨w.heap.size + 1, 2, none⟩ (x2)).setCell ⟨w.heap.size + 1, 3, none⟩ (x3)).setCell ⟨w.heap.size + 1, 4, none⟩ (x4)).setCell ⟨w.heap.size + 1, 5, none⟩ (x5)).cell? ⟨w.heap.size, 3, none⟩ = some (.bool cay.n) ∧ ((((((w'.setCell ⟨w.heap.size + 1, 0, none⟩ (x0)).setCell ⟨w.heap.size + 1, 1, none⟩ (x1)).setCell ⟨w.heap.size + 1, 2, none⟩ (x2)).setCell ⟨w.heap.size + 1, 3, none⟩ (x3)).setCell ⟨w.heap.size + 1, 4, none⟩ (x4)).setCell ⟨w.heap.size + 1, 5, none⟩ (x5)).cell? ⟨w.heap.size, 4, none⟩ = some (.slice cay.u cay.nu cay.cu) ∧ ((((((w'.setCell ⟨w.heap.size + 1, 0, none⟩ (x0)).setCell ⟨w.heap.size + 1, 1, none⟩ (x1)).setCell ⟨w.heap.size + 1, 2, none⟩ (x2)).setCell ⟨w.heap.size + 1, 3, none⟩ (x3)).setCell ⟨w.heap.size + 1, 4, none⟩ (x4)).setCell ⟨w.heap.size + 1, 5, none⟩ (x5)).cell? ⟨w.heap.size, 5, none⟩ = some (.slice cay.l cay.nl cay.cl)) := fun w' hb x0 x1 x2 x3 x4 x5 => ⟨((HK0.out.below hb (by rw [HSZ.out]; omega)).off6 (g := w.heap.size + 1) (by omega) x0 x1 x2 x3 x4 x5).cell 0, ((HK0.out.below hb (by rw [HSZ.out]; omega)).off6 (g := w.heap.size + 1) (by omega) x0 x1 x2 x3 x4 x5).cell 1, ((HK0.out.below hb (by rw [HSZ.out]; omega)).off6 (g := w.heap.size + 1) (by omega) x0 x1 x2 x3 x4 x5).cell 2, ((HK0.out.below hb (by rw [HSZ.out]; omega)).off6 (g := w.heap.size + 1) (by omega) x0 x1 x2 x3 x4 x5).cell 3, ((HK0.out.below hb (by rw [HSZ.out]; omega)).off6 (g := w.heap.size + 1) (by omega) x0 x1 x2 x3 x4 x5).cell 4, ((HK0.out.below hb (by rw [HSZ.out]; omega)).off6 (g := w.heap.size + 1) (by omega) x0 x1 x2 x3 x4 x5).cell 5⟩
  obtain ⟨z0, z1, z2, z3, z4, z5⟩ := HS.out W0 (Below.refl _ _)
  go_region_held3 (fun w' => w'.cell? ⟨w.heap.size, 0, none⟩ = some (.bool cax.n) ∧ w'.cell? ⟨w.heap.size, 1, none⟩ = some (.slice cax.u cax.nu cax.cu) ∧ w'.cell? ⟨w.heap.size, 2, none⟩ = some (.slice cax.l cax.nl cax.cl) ∧ w'.cell? ⟨w.heap.size, 3, none⟩ = some (.bool cay.n) ∧ w'.cell? ⟨w.heap.size, 4, none⟩ = some (.slice cay.u cay.nu cay.cu) ∧ w'.cell? ⟨w.heap.size, 5, none⟩ = some (.slice cay.l cay.nl cay.cl)) (first | go_keep | exact hs1 | exact hkS)
    (first
      | (go_at_call 107; refine (negative_calls (w := W0.drew) (Hay.out.below (Below.drew (Below.refl _ _)))).mono ?_; rintro e w1 ⟨hb1, v1, rfl, hv1⟩; have hbl1 : Below W0.heap.size W0 w1 := (Below.drew (Below.refl _ W0)).trans hb1; obtain ⟨d1, rfl⟩ := qv_open hv1; have hs1 := HS.out w1 hbl1; have hkr := HK1.out.below hbl1 (by rw [HSZ.out]; omega); obtain ⟨r0, r1, r2, r3, r4, r5, f0, f1, f2, f3, f4, f5⟩ := hkr.all6; have hkS := HSS.out w1 hbl1 (.bool d1.n) (.slice d1.u d1.nu d1.cu) (.slice d1.l d1.nl d1.cl) (.bool cax.n) (.slice cax.u cax.nu cax.cu) (.slice cax.l cax.nl cax.cl))
      )
  all_goals
    go_wp2
    obtain ⟨k0, k1, k2, k3, k4, k5, _, _, _, _, _, _⟩ := (hkr.put6 (.bool d1.n) (.slice d1.u d1.nu d1.cu) (.slice d1.l d1.nl d1.cl) (.bool cax.n) (.slice cax.u cax.nu cax.cu) (.slice cax.l cax.nl cax.cl)).all6
    refine bodyPost_ret (v := .agg #[.bool d1.n, .slice d1.u d1.nu d1.cu, .slice d1.l d1.nl d1.cl, .bool cax.n, .slice cax.u cax.nu cax.cu, .slice cax.l cax.nl cax.cl]) (by simp [results, Tryz.results65, go_sem, k0, k1, k2, k3, k4, k5]) rfl ⟨Below.put6 (HB0.out.trans (hbl1.mono HB0.out.size)) (by omega) (.bool d1.n) (.slice d1.u d1.nu d1.cu) (.slice d1.l d1.nl d1.cl) (.bool cax.n) (.slice cax.u cax.nu cax.cu) (.slice cax.l cax.nl cax.cl), _, rfl, ?_⟩
    have hst := Stays.put6 hkr (by simp [notLimb]) (.bool d1.n) (.slice d1.u d1.nu d1.cu) (.slice d1.l d1.nl d1.cl) (.bool cax.n) (.slice cax.u cax.nu cax.cu) (.slice cax.l cax.nl cax.cl) rfl rfl rfl rfl rfl rfl
    exact ⟨d1, cax, rfl, hst.qv hv1, hst.qv (Hax.out.below hbl1)⟩
theorem wayLeft_calls {w : World} {va : Value} {ax ay : Rat} (ha : WV w va ax ay) :
    Calls Tryz.prog 65 #[va] w fun e w' => Below w.heap.size w w' ∧ ∃ v, e = .returned v ∧ WV w' v (-ay) ax := by
  obtain ⟨c1, c2, rfl, h1, h2⟩ := ha
  exact wayLeft_walk h1 h2
theorem wayCross_walk {w : World} {cax cay cbx cbz : C3} {ax ay bx bz : Rat} (hax : QV w (.agg #[.bool cax.n, .slice cax.u cax.nu cax.cu, .slice cax.l cax.nl cax.cl]) ax) (hay : QV w (.agg #[.bool cay.n, .slice cay.u cay.nu cay.cu, .slice cay.l cay.nl cay.cl]) ay) (hbx : QV w (.agg #[.bool cbx.n, .slice cbx.u cbx.nu cbx.cu, .slice cbx.l cbx.nl cbx.cl]) bx) (hbz : QV w (.agg #[.bool cbz.n, .slice cbz.u cbz.nu cbz.cu, .slice cbz.l cbz.nl cbz.cl]) bz) {k l : Nat} (f1 : QS k ax) (f2 : QS k ay) (f3 : QS l bx) (f4 : QS l bz) (hk : k + l + (k + l) + 1 ≤ 35184372088640) :
    Calls Tryz.prog 115 #[.agg #[.bool cax.n, .slice cax.u cax.nu cax.cu, .slice cax.l cax.nl cax.cl, .bool cay.n, .slice cay.u cay.nu cay.cu, .slice cay.l cay.nl cay.cl], .agg #[.bool cbx.n, .slice cbx.u cbx.nu cbx.cu, .slice cbx.l cbx.nl cbx.cl, .bool cbz.n, .slice cbz.u cbz.nu cbz.cu, .slice cbz.l cbz.nl cbz.cl]] w fun e w' => Below w.heap.size w w' ∧ ∃ v, e = .returned v ∧ QV w' v (ax * bz - ay * bx) := by
  obtain ⟨hb0, hk0, hk1, hk2, hsz⟩ := boxes3 w #[.bool cax.n, .slice cax.u cax.nu cax.cu, .slice cax.l cax.nl cax.cl, .bool cay.n, .slice cay.u cay.nu cay.cu, .slice cay.l cay.nl cay.cl] #[.bool cbx.n, .slice cbx.u cbx.nu cbx.cu, .slice cbx.l cbx.nl cbx.cl, .bool cbz.n, .slice cbz.u cbz.nu cbz.cu, .slice cbz.l cbz.nl cbz.cl] #[.bool false, .slice none 0 0, .slice none 0 0] 86 86 84
  have HB0 := hideIt hb0
  have HSZ := hideIt hsz
  have HK0 := hideIt hk0
  have HK1 := hideIt hk1
  have HK2 := hideIt hk2
  have Hax := hideIt (hax.below hb0)
  have Hay := hideIt (hay.below hb0)
  have Hbx := hideIt (hbx.below hb0)
  have Hbz := hideIt (hbz.below hb0)
  have F1 := hideIt f1
  have F2 := hideIt f2
  have F3 := hideIt f3
  have F4 := hideIt f4
  have HK := hideIt hk
  clear hb0 hsz hk0 hk1 hk2 hax hay hbx hbz f1 f2 f3 f4 hk
  have HL : Hid (k + l + 1 ≤ 35184372088640) := by have := HK.out; show _ ≤ _; omega
  go_enter Tryz.func115, Tryz.ntmps115
  go_wp2_with fail
  generalize (((w.alloc (.cells #[.bool cax.n, .slice cax.u cax.nu cax.cu, .slice cax.l cax.nl cax.cl, .bool cay.n, .slice cay.u cay.nu cay.cu, .slice cay.l cay.nl cay.cl] 86)).alloc (.cells #[.bool cbx.n, .slice cbx.u cbx.nu cbx.cu, .slice cbx.l cbx.nl cbx.cl, .bool cbz.n, .slice cbz.u cbz.nu cbz.cu, .slice cbz.l cbz.nl cbz.cl] 86)).alloc (.cells #[.bool false, .slice none 0 0, .slice none 0 0] 84)) = W0 at *
  have HS : Hid (∀ w', Below W0.heap.size W0 w' → w'.cell? ⟨w.heap.size, 0, none⟩ = some (.bool cax.n) ∧ w'.cell? ⟨w.heap.size, 1, none⟩ = some (.slice cax.u cax.nu cax.cu) ∧ w'.cell? ⟨w.heap.size, 2, none⟩ = some (.slice cax.l cax.nl cax.cl) ∧ w'.cell? ⟨w.heap.size, 3, none⟩ = some (.bool cay.n) ∧ w'.cell? ⟨w.heap.size, 4, none⟩ = some (.slice cay.u cay.nu cay.cu) ∧ w'.cell? ⟨w.heap.size, 5, none⟩ = some (.slice cay.l cay.nl cay.cl) ∧ w'.cell? ⟨w.heap.size + 1, 0, none⟩ = some (.bool cbx.n) ∧ w'.cell? ⟨w.heap.size + 1, 1, none⟩ = some (.slice cbx.u cbx.nu cbx.cu) ∧ w'.cell? ⟨w.heap.size + 1, 2, none⟩ = some (.slice cbx.l cbx.nl cbx.cl) ∧ w'.cell? ⟨w.heap.size + 1, 3, none⟩ = some (.bool cbz.n) ∧ w'.cell? ⟨w.heap.size + 1, 4, none⟩ = some (.slice cbz.u cbz.nu cbz.cu) ∧ w'.cell? ⟨w.heap.size + 1, 5, none⟩ = some (.slice cbz.l cbz.nl cbz.cl)) := fun w' hb => ⟨(HK0.out.below hb (by rw [HSZ.out]; omega)).cell 0, (HK0.out.below hb (by rw [HSZ.out]; omega)).cell 1, (HK0.out.below hb (by rw [HSZ.out]; omega)).cell 2, (HK0.out.below hb (by rw [HSZ.out]; omega)).cell 3, (HK0.out.below hb (by rw [HSZ.out]; omega)).cell 4, (HK0.out.below hb (by rw [HSZ.out]; omega)).cell 5, (HK1.out.below hb (by rw [HSZ.out]; omega)).cell 0, (HK1.out.below hb (by rw [HSZ.out]; omega)).cell 1, (HK1.out.below hb (by rw [HSZ.out]; omega)).cell 2, (HK1.out.below hb (by rw [HSZ.out]; omega)).cell 3, (HK1.out.below hb (by rw [HSZ.out]; omega)).cell 4, (HK1.out.below hb (by rw [HSZ.out]; omega)).cell 5⟩
  have HSS : Hid (∀ w', Below W0.heap.size W0 w' → ∀ x0 x1 x2 : Value, (((w'.setCell ⟨w.heap.size + 1 + 1, 0, none⟩ (x0)).setCell ⟨w.heap.size + 1 + 1, 1, none⟩ (x1)).setCell ⟨w.heap.size + 1 + 1, 2, none⟩ (x2)).cell? ⟨w.heap.size, 0, none⟩ = some (.bool cax.n) ∧ (((w'.setCell ⟨w.heap.size + 1 + 1, 0, none⟩ (x0)).setCell ⟨w.heap.size + 1 + 1, 1, none⟩ (x1)).setCell ⟨w.heap.size + 1 + 1, 2, none⟩ (x2)).cell? ⟨w.heap.size, 1, none⟩ = some (.slice cax.u cax.nu cax.cu) ∧ (((w'.setCell ⟨w.heap.size + 1 + 1, 0, none⟩ (x0)).setCell ⟨w.heap.size + 1 + 1, 1, none⟩ (x1)).setCell ⟨w.heap.size + 1 + 1, 2, none⟩ (x2)).cell? ⟨w.heap.size, 2, none⟩ = some (.slice cax.l cax.nl cax.cl) ∧ (((w'.setCell ⟨w.heap.size + 1 + 1, 0, none⟩ (x0)).setCell ⟨w.heap.size + 1 + 1, 1, none⟩ (x1)).setCell ⟨w.heap.size + 1 + 1, 2, none⟩ (x2)).cell? ⟨w.heap.size, 3, none⟩ = some (.bool cay.n) ∧ (((w'.setCell ⟨w.heap.size + 1 + 1, 0, none⟩ (x0)).setCell ⟨w.heap.size + 1 + 1, 1, none⟩ (x1)).setCell ⟨w.heap.size + 1 + 1, 2, none⟩ (x2)).cell? ⟨w.heap.size, 4, none⟩ = some (.slice cay.u cay.nu cay.cu) ∧ (((w'.setCell ⟨w.heap.size + 1 + 1, 0, none⟩ (x0)).setCell ⟨w.heap.size + 1 + 1, 1, none⟩ (x1)).setCell ⟨w.heap.size + 1 + 1, 2, none⟩ (x2)).cell? ⟨w.heap.size, 5, none⟩ = some (.slice cay.l cay.nl cay.cl) ∧ (((w'.setCell ⟨w.heap.size + 1 + 1, 0, none⟩ (x0)).setCell ⟨w.heap.size + 1 + 1, 1, none⟩ (x1)).setCell ⟨w.heap.size + 1 + 1, 2, none⟩ (x2)).cell? ⟨w.heap.size + 1, 0, none⟩ = some (.bool cbx.n) ∧ (((w'.setCell ⟨w.heap.size + 1 + 1, 0, none⟩ (x0)).setCell ⟨w.heap.size + 1 + 1, 1, none⟩ (x1)).setCell ⟨w.heap.size + 1 + 1, 2, none⟩ (x2)).cell? ⟨w.heap.size + 1, 1, none⟩ = some (.slice cbx.u cbx.nu cbx.cu) ∧ (((w'.setCell ⟨w.heap.size + 1 + 1, 0, none⟩ (x0)).setCell ⟨w.heap.size + 1 + 1, 1, none⟩ (x1)).setCell ⟨w.heap.size + 1 + 1, 2, none⟩ (x2)).cell? ⟨w.heap.size + 1, 2, none⟩ = some (.slice cbx.l cbx.nl cbx.cl) ∧ (((w'.setCell ⟨w.heap.size + 1 + 1, 0, none⟩ (x0)).setCell ⟨w.heap.size + 1 + 1, 1, none⟩ (x1)).setCell ⟨w.heap.size + 1 + 1, 2, none⟩ (x2)).cell? ⟨w.heap.size + 1, 3, none⟩ = some (.bool cbz.n) ∧ (((w'.setCell ⟨w.heap.size + 1 + 1, 0, none⟩ (x0)).setCell ⟨w.heap.size + 1 + 1, 1, none⟩ (x1)).setCell ⟨w.heap.size + 1 + 1, 2, none⟩ (x2)).cell? ⟨w.heap.size + 1, 4, none⟩ = some (.slice cbz.u cbz.nu cbz.cu) ∧ (((w'.setCell ⟨w.heap.size + 1 + 1, 0, none⟩ (x0)).setCell ⟨w.heap.size + 1 + 1, 1, none⟩ (x1)).setCell ⟨w.heap.size + 1 + 1, 2, none⟩ (x2)).cell? ⟨w.heap.size + 1, 5, none⟩ = some (.slice cbz.l cbz.nl cbz.cl)) := fun w' hb x0 x1 x2 => ⟨((HK0.out.below hb (by rw [HSZ.out]; omega)).off3 (g := w.heap.size + 1 + 1) (by omega) x0 x1 x2).cell 0, ((HK0.out.below hb (by rw [HSZ.out]; omega)).off3 (g := w.heap.size + 1 + 1) (by omega) x0 x1 x2).cell 1, ((HK0.out.below hb (by rw [HSZ.out]; omega)).off3 (g := w.heap.size + 1 + 1) (by omega) x0 x1 x2).cell 2, ((HK0.out.below hb (by rw [HSZ.out]; omega)).off3 (g := w.heap.size + 1 + 1) (by omega) x0 x1 x2).cell 3, ((HK0.out.below hb (by rw [HSZ.out]; omega)).off3 (g := w.heap.size + 1 + 1) (by omega) x0 x1 x2).cell 4, ((HK0.out.below hb (by rw [HSZ.out]; omega)).off3 (g := w.heap.size + 1 + 1) (by omega) x0 x1 x2).cell 5, ((HK1.out.below hb (by rw [HSZ.out]; omega)).off3 (g := w.heap.size + 1 + 1) (by omega) x0 x1 x2).cell 0, ((HK1.out.below hb (by rw [HSZ.out]; omega)).off3 (g := w.heap.size + 1 + 1) (by omega) x0 x1 x2).cell 1, ((HK1.out.below hb (by rw [HSZ.out]; omega)).off3 (g := w.heap.size + 1 + 1) (by omega) x0 x1 x2).cell 2, ((HK1.out.below hb (by rw [HSZ.out]; omega)).off3 (g := w.heap.size + 1 + 1) (by omega) x0 x1 x2).cell 3, ((HK1.out.below hb (by rw [HSZ.out]; omega)).off3 (g := w.heap.size + 1 + 1) (by omega) x0 x1 x2).cell 4, ((HK1.out.below hb (by rw [HSZ.out]; omega)).off3 (g := w.heap.size + 1 + 1) (by omega) x0 x1 x2).cell 5⟩
  obtain ⟨z0, z1, z2, z3, z4, z5, z6, z7, z8, z9, z10, z11⟩ := HS.out W0 (Below.refl _ _)
  go_region_held3 (fun w' => w'.cell? ⟨w.heap.size, 0, none⟩ = some (.bool cax.n) ∧ w'.cell? ⟨w.heap.size, 1, none⟩ = some (.slice cax.u cax.nu cax.cu) ∧ w'.cell? ⟨w.heap.size, 2, none⟩ = some (.slice cax.l cax.nl cax.cl) ∧ w'.cell? ⟨w.heap.size, 3, none⟩ = some (.bool cay.n) ∧ w'.cell? ⟨w.heap.size, 4, none⟩ = some (.slice cay.u cay.nu cay.cu) ∧ w'.cell? ⟨w.heap.size, 5, none⟩ = some (.slice cay.l cay.nl cay.cl) ∧ w'.cell? ⟨w.heap.size + 1, 0, none⟩ = some (.bool cbx.n) ∧ w'.cell? ⟨w.heap.size + 1, 1, none⟩ = some (.slice cbx.u cbx.nu cbx.cu) ∧ w'.cell? ⟨w.heap.size + 1, 2, none⟩ = some (.slice cbx.l cbx.nl cbx.cl) ∧ w'.cell? ⟨w.heap.size + 1, 3, none⟩ = some (.bool cbz.n) ∧ w'.cell? ⟨w.heap.size + 1, 4, none⟩ = some (.slice cbz.u cbz.nu cbz.cu) ∧ w'.cell? ⟨w.heap.size + 1, 5, none⟩ = some (.slice cbz.l cbz.nl cbz.cl)) (first | go_keep | exact hs1 | exact hs2 | exact hs3 | exact hkS)
    (first
      | (go_at_call_of 109 (Value.agg #[Value.bool cax.n, Value.slice cax.u cax.nu cax.cu, Value.slice cax.l cax.nl cax.cl]); refine (times_calls (w := W0.drew) (Hax.out.below (Below.drew (Below.refl _ _))) (Hbz.out.below (Below.drew (Below.refl _ _))) F1.out F4.out HL.out).mono ?_; rintro e w1 ⟨hb1, v1, rfl, hv1⟩; have hbl1 : Below W0.heap.size W0 w1 := (Below.drew (Below.refl _ W0)).trans hb1; obtain ⟨d1, rfl⟩ := qv_open hv1; have hs1 := HS.out w1 hbl1)
      | (go_at_call_of 109 (Value.agg #[Value.bool cay.n, Value.slice cay.u cay.nu cay.cu, Value.slice cay.l cay.nl cay.cl]); refine (times_calls (Hay.out.below hbl1) (Hbx.out.below hbl1) F2.out F3.out HL.out).mono ?_; rintro e w2 ⟨hb2, v2, rfl, hv2⟩; have hbl2 := hbl1.trans (hb2.mono hbl1.size); obtain ⟨d2, rfl⟩ := qv_open hv2; have hs2 := HS.out w2 hbl2)
      | (go_at_call 106; refine (minus_calls (hv1.below hb2) hv2 (F1.out.mul F4.out) (F2.out.mul F3.out) HK.out).mono ?_; rintro e w3 ⟨hb3, v3, rfl, hv3⟩; have hbl3 := hbl2.trans (hb3.mono hbl2.size); obtain ⟨d3, rfl⟩ := qv_open hv3; have hs3 := HS.out w3 hbl3; have hkr := HK2.out.below hbl3 (by rw [HSZ.out]; omega); obtain ⟨r0, r1, r2, f0, f1, f2⟩ := hkr.all3; have hkS := HSS.out w3 hbl3 (.bool d3.n) (.slice d3.u d3.nu d3.cu) (.slice d3.l d3.nl d3.cl))
      )
  all_goals
    go_wp2
    obtain ⟨k0, k1, k2, _, _, _⟩ := (hkr.put3 (.bool d3.n) (.slice d3.u d3.nu d3.cu) (.slice d3.l d3.nl d3.cl)).all3
    refine bodyPost_ret (v := .agg #[.bool d3.n, .slice d3.u d3.nu d3.cu, .slice d3.l d3.nl d3.cl]) (by simp [results, Tryz.results115, go_sem, k0, k1, k2]) rfl ⟨Below.put3 (HB0.out.trans (hbl3.mono HB0.out.size)) (by omega) (.bool d3.n) (.slice d3.u d3.nu d3.cu) (.slice d3.l d3.nl d3.cl), _, rfl, ?_⟩
    have hst := Stays.put3 hkr (by simp [notLimb]) (.bool d3.n) (.slice d3.u d3.nu d3.cu) (.slice d3.l d3.nl d3.cl) rfl rfl rfl
    exact hst.qv hv3
theorem wayCross_calls {w : World} {va vb : Value} {ax ay bx bz : Rat} {k l : Nat} (ha : WV w va ax ay) (hb : WV w vb bx bz) (f1 : QS k ax) (f2 : QS k ay) (f3 : QS l bx) (f4 : QS l bz) (hk : k + l + (k + l) + 1 ≤ 35184372088640) :
    Calls Tryz.prog 115 #[va, vb] w fun e w' => Below w.heap.size w w' ∧ ∃ v, e = .returned v ∧ QV w' v (ax * bz - ay * bx) := by
  obtain ⟨c1, c2, rfl, h1, h2⟩ := ha
  obtain ⟨c3, c4, rfl, h3, h4⟩ := hb
  exact wayCross_walk h1 h2 h3 h4 f1 f2 f3 f4 hk
end Go.Proofs.YtgajdmadbdbabaaGreatDoor
/- WE -/
namespace Go.Proofs.YtgajdmadbdbabaaGreatDoor
open Go.RowKit Cx
attribute [local go_sem ↓] Go.wp_at_zero Go.wp_at_succ
def QRow (w : World) (v : Value) (qs : List Rat) : Prop :=
  ∃ b off cap, v = .slice (some ⟨b, off, none⟩) qs.length cap ∧ b < w.heap.size ∧ ∀ (j : Nat) (hj : j < qs.length), ∃ c : C3,
    w.cell? ⟨b, off + j * 3, none⟩ = some (.bool c.n) ∧ w.cell? ⟨b, off + j * 3 + 1, none⟩ = some (.slice c.u c.nu c.cu) ∧ w.cell? ⟨b, off + j * 3 + 2, none⟩ = some (.slice c.l c.nl c.cl) ∧ QV w (.agg #[.bool c.n, .slice c.u c.nu c.cu, .slice c.l c.nl c.cl]) (qs[j]'hj)
theorem QRow.below {w w' : World} {v : Value} {qs : List Rat} (h : QRow w v qs) (hb : Below w.heap.size w w') : QRow w' v qs := by
  obtain ⟨b, off, cap, e, hlt, h⟩ := h
  refine ⟨b, off, cap, e, Nat.lt_of_lt_of_le hlt hb.size, fun j hj => ?_⟩
  obtain ⟨c, h0, h1, h2, h3⟩ := h j hj
  exact ⟨c, by rw [hb.cell (p := ⟨b, off + j * 3, none⟩) hlt]; exact h0, by rw [hb.cell (p := ⟨b, off + j * 3 + 1, none⟩) hlt]; exact h1, by rw [hb.cell (p := ⟨b, off + j * 3 + 2, none⟩) hlt]; exact h2, h3.below hb⟩
theorem qrow_idx {b off n cap k : Nat} (hk : k < n) (wx : World) : (Instr.indexAt 163 (.slice (some ⟨b, off, none⟩) n cap) (.int .i64 k)).run Tryz.prog wx = .ok (.pointer (some ⟨b, off + k * 3, none⟩)) wx := by
  have he : Tryz.prog.elem 163 = 84 := by simp [Program.elem, Tryz.underlying163]
  rw [run_indexAt_slice (h := by rw [he]; exact Tryz.underlying163), if_pos (by omega), he, Tryz.sizeOf84]
  simp [Result.andThen, Addr.add]
def rsum (qs : List Rat) : Rat := qs.foldl (fun a q => a + q) 0
theorem rsum_take {qs : List Rat} {k : Nat} (h : k < qs.length) : rsum (qs.take (k + 1)) = rsum (qs.take k) + qs[k] := by
  unfold rsum
  rw [List.take_succ_eq_append_getElem h, List.foldl_append]
  rfl
theorem QS.rsum {K : Nat} : ∀ {qs : List Rat} (_ : ∀ q ∈ qs, QS K q) (k : Nat), QS (k * (K + 1) + 1) (rsum (qs.take k))
  | qs, _, 0 => by rw [List.take_zero]; exact QS.zero.mono (by omega)
  | qs, h, k + 1 => by
    have ih := QS.rsum h k
    by_cases hk : k < qs.length
    · rw [rsum_take hk]
      refine (ih.add (h _ (List.getElem_mem hk))).mono ?_
      rw [Nat.succ_mul]; omega
    · rw [List.take_of_length_le (by omega)]
      rw [List.take_of_length_le (by omega)] at ih
      exact ih.mono (by rw [Nat.succ_mul]; omega)
theorem sum_walk {w : World} {b off cap : Nat} {qs : List Rat} (h : QRow w (.slice (some ⟨b, off, none⟩) qs.length cap) qs) {K : Nat} (f : ∀ q ∈ qs, QS K q) (hn : qs.length ≤ 1000000) (hk : qs.length * (K + 1) + 1 ≤ 35184372088640) :
    Calls Tryz.prog 161 #[.slice (some ⟨b, off, none⟩) qs.length cap] w fun e w' => Below w.heap.size w w' ∧ ∃ v, e = .returned v ∧ QV w' v (rsum qs) := by
  obtain ⟨hb0, hk0, hk1, hsz⟩ := boxes2 w #[.bool false, .slice none 0 0, .slice none 0 0] #[.bool false, .slice none 0 0, .slice none 0 0] 84 84
  have HB0 := hideIt hb0
  have HSZ := hideIt hsz
  have HK0 := hideIt hk0
  have HK1 := hideIt hk1
  have HR := hideIt h
  have F := hideIt f
  have HK := hideIt hk
  clear hb0 hsz hk0 hk1 h f hk
  go_enter Tryz.func161, Tryz.ntmps161
  go_wp2
  generalize ((w.alloc (.cells #[.bool false, .slice none 0 0, .slice none 0 0] 84)).alloc (.cells #[.bool false, .slice none 0 0, .slice none 0 0] 84)) = W0 at *
  go_loopw [8] (fun i wr => ∃ k : Nat, k ≤ qs.length ∧ i = .int .i64 (k : Int) ∧ Blk wr w.heap.size #[.bool false, .slice none 0 0, .slice none 0 0] 84 ∧ Below w.heap.size w wr ∧ ∃ c : C3, Blk wr (w.heap.size + 1) #[.bool c.n, .slice c.u c.nu c.cu, .slice c.l c.nl c.cl] 84 ∧ QV wr (.agg #[.bool c.n, .slice c.u c.nu c.cu, .slice c.l c.nl c.cl]) (rsum (qs.take k))) (fun i _ => qs.length - (intOf i).toNat)
  case atStart =>
    refine ⟨0, Nat.zero_le _, rfl, HK0.out, HB0.out, ⟨false, none, 0, 0, none, 0, 0⟩, HK1.out, ?_⟩
    rw [List.take_zero]
    exact qv_zero0 _
  case round =>
    obtain ⟨k, hkl, rfl, hk0, hbel, c, hk1, hq⟩ := hrel
    have HQ := hideIt hq
    have HK0' := hideIt hk0
    have HK1' := hideIt hk1
    have hlt1 := hideIt hk1.lt
    have hsz' := hideIt hbel.size
    obtain ⟨y0, y1, y2, g0, g1, g2⟩ := hk1.all3
    obtain ⟨x0, x1, x2, e0, e1, e2⟩ := hk0.all3
    clear hq hk0 hk1
    by_cases hend : k = qs.length
    · subst hend
      go_wp2
      obtain ⟨r0, r1, r2, _, _, _⟩ := (HK0'.out.put3 (.bool c.n) (.slice c.u c.nu c.cu) (.slice c.l c.nl c.cl)).all3
      refine bodyPost_ret (v := .agg #[.bool c.n, .slice c.u c.nu c.cu, .slice c.l c.nl c.cl]) (by simp [results, Tryz.results161, go_sem, r0, r1, r2]) rfl ⟨Below.put3 hbel (Nat.le_refl _) _ _ _, _, rfl, ?_⟩
      have hst := Stays.put3 HK0'.out (by simp [notLimb]) (.bool c.n) (.slice c.u c.nu c.cu) (.slice c.l c.nl c.cl) rfl rfl rfl
      have := hst.qv HQ.out
      rwa [List.take_length] at this
    · have hlt : k < qs.length := by omega
      have hidx := qrow_idx (b := b) (off := off) (cap := cap) hlt
      obtain ⟨b', off', cap', e, hbl, hcells⟩ := HR.out
      cases e
      obtain ⟨d, d0, d1, d2, hd⟩ := hcells k hlt
      have HD := hideIt (hd.below hbel)
      have z0 := (hbel.cell (p := ⟨b, off + k * 3, none⟩) hbl).trans d0
      have z1 := (hbel.cell (p := ⟨b, off + k * 3 + 1, none⟩) hbl).trans d1
      have z2 := (hbel.cell (p := ⟨b, off + k * 3 + 2, none⟩) hbl).trans d2
      have FS := hideIt (QS.rsum F.out k)
      have FQ := hideIt (F.out _ (List.getElem_mem hlt))
      have HKK : Hid (k * (K + 1) + 1 + K + 1 ≤ 35184372088640) := by
        have h1 := HK.out
        have h2 : (k + 1) * (K + 1) ≤ qs.length * (K + 1) := Nat.mul_le_mul_right _ hlt
        rw [Nat.succ_mul] at h2
        show _ ≤ _
        omega
      clear d0 d1 d2 hd hcells
      have a0 : ∀ o, (wr.alloc o).cell? ⟨w.heap.size + 1, 0, none⟩ = some (.bool c.n) := fun o => (HK1'.out.below (below_new wr o) hlt1.out).cell 0
      have a1 : ∀ o, (wr.alloc o).cell? ⟨w.heap.size + 1, 1, none⟩ = some (.slice c.u c.nu c.cu) := fun o => (HK1'.out.below (below_new wr o) hlt1.out).cell 1
      have a2 : ∀ o, (wr.alloc o).cell? ⟨w.heap.size + 1, 2, none⟩ = some (.slice c.l c.nl c.cl) := fun o => (HK1'.out.below (below_new wr o) hlt1.out).cell 2
      go_wp2_with fail
      have hbn := below_new wr (.cells #[.bool d.n, .slice d.u d.nu d.cu, .slice d.l d.nl d.cl] 84)
      refine (plus_calls (HQ.out.below hbn) (HD.out.below hbn) FS.out FQ.out HKK.out).mono ?_
      rintro e w2 ⟨hb2, v2, rfl, hv2⟩
      obtain ⟨d2, rfl⟩ := qv_open hv2
      have hbw := hbn.trans (hb2.mono hbn.size)
      have hk2 := HK1'.out.below hbw hlt1.out
      have hkr := HK0'.out.below hbw (by have := hlt1.out; omega)
      obtain ⟨y0, y1, y2, g0, g1, g2⟩ := hk2.all3
      have HV2 := hideIt hv2
      clear hv2 a0 a1 a2 z0 z1 z2
      go_wp2
      go_roundw
      case rel =>
        refine ⟨k + 1, hlt, by go_num, ?_, ?_, d2, hk2.put3 _ _ _, ?_⟩
        · exact hkr.off3 (by omega) _ _ _
        · exact Below.put3 (hbel.trans (hbw.mono hsz'.out)) (by omega) _ _ _
        · rw [rsum_take hlt]
          exact (Stays.put3 hk2 (by simp [notLimb]) _ _ _ rfl rfl rfl).qv HV2.out
      case measure => simp [intOf]; omega
theorem sum_calls {w : World} {v : Value} {qs : List Rat} (h : QRow w v qs) {K : Nat} (f : ∀ q ∈ qs, QS K q) (hn : qs.length ≤ 1000000) (hk : qs.length * (K + 1) + 1 ≤ 35184372088640) :
    Calls Tryz.prog 161 #[v] w fun e w' => Below w.heap.size w w' ∧ ∃ v', e = .returned v' ∧ QV w' v' (rsum qs) := by
  have h' := h
  obtain ⟨b, off, cap, rfl, _⟩ := h
  exact sum_walk h' f hn hk
end Go.Proofs.YtgajdmadbdbabaaGreatDoor
/- RB -/
namespace Go.Proofs.YtgajdmadbdbabaaGreatDoor
open Go.RowKit Cx
attribute [local go_sem ↓] Go.wp_at_zero Go.wp_at_succ
def PR (w : World) (v : Value) (q : Rat) : Prop := ∃ g, v = .pointer (some ⟨g, 0, none⟩) ∧ RV w g q
theorem RV.part {w : World} {g : Nat} {q : Rat} (h : RV w g q) : ∃ y0 y1 y2 y3, Blk w g #[y0, y1, y2, y3] 118 ∧ (#[y0, y1, y2, y3] : Array Value).all notLimb = true := by
  obtain ⟨a1, l1, c1, a2, l2, c2, h0, _⟩ := h
  exact ⟨_, _, _, _, h0, by simp [notLimb]⟩
theorem refSub_calls {w : World} {px py : Value} {x y : Rat} {k l : Nat} (hx : PR w px x) (hy : PR w py y) (fx : QS k x) (fy : QS l y) (hkl : k + l + 1 ≤ 35184372088640) :
    Calls Tryz.prog 83 #[px, py] w fun e w' => Below w.heap.size w w' ∧ ∃ v, e = .returned v ∧ PR w' v (x - y) := by
  obtain ⟨gx, rfl, hx⟩ := hx
  obtain ⟨gy, rfl, hy⟩ := hy
  have HX := hideIt2 hx
  have HY := hideIt2 hy
  clear hx hy
  go_enter Tryz.func83, Tryz.ntmps83
  go_wp2_with fail
  refine (ratSub_calls (Blk.new w _ _) (by simp [notLimb]) (HX.out.below (below_new _ _)) (HY.out.below (below_new _ _)) fx fy hkl).mono ?_
  rintro e w1 ⟨rfl, hs, hr⟩
  have H1 := hideIt2 (And.intro (bel_sav (below_new _ _) hs (Nat.le_refl _)) hr)
  clear hs hr
  go_wp2
  go_ret
  exact ⟨H1.out.1, _, rfl, _, rfl, H1.out.2⟩
def RRow (w : World) (v : Value) (qs : List Rat) : Prop :=
  ∃ b off cap, v = .slice (some ⟨b, off, none⟩) qs.length cap ∧ b < w.heap.size ∧ ∀ (j : Nat) (hj : j < qs.length), ∃ p, w.cell? ⟨b, off + j, none⟩ = some p ∧ PR w p (qs[j]'hj)
theorem rrow_idx {b off n cap k : Nat} (hk : k < n) (wx : World) : (Instr.indexAt 63 (.slice (some ⟨b, off, none⟩) n cap) (.int .i64 k)).run Tryz.prog wx = .ok (.pointer (some ⟨b, off + k, none⟩)) wx := by
  have he : Tryz.prog.elem 63 = 41 := by simp [Program.elem, Tryz.underlying63]
  rw [run_indexAt_slice (h := by rw [he]; exact Tryz.underlying63), if_pos (by omega), he, Tryz.sizeOf41]
  simp [Result.andThen, Addr.add]
theorem refAdd_walk {w : World} {b off cap : Nat} {qs : List Rat} (h : RRow w (.slice (some ⟨b, off, none⟩) qs.length cap) qs) {K : Nat} (f : ∀ q ∈ qs, QS K q) (hn : qs.length ≤ 1000000) (hk : qs.length * (K + 1) + 1 ≤ 35184372088640) :
    Calls Tryz.prog 81 #[.slice (some ⟨b, off, none⟩) qs.length cap] w fun e w' => Below w.heap.size w w' ∧ ∃ v, e = .returned v ∧ PR w' v (rsum qs) := by
  have HR := hideIt h
  have F := hideIt f
  have HK := hideIt hk
  clear h f hk
  go_enter Tryz.func81, Tryz.ntmps81
  go_wp2
  go_loopw [9] (fun i wr => ∃ k : Nat, k ≤ qs.length ∧ i = .int .i64 (k : Int) ∧ Below w.heap.size w wr ∧ RV wr w.heap.size (rsum (qs.take k))) (fun i _ => qs.length - (intOf i).toNat)
  case atStart =>
    refine ⟨0, Nat.zero_le _, rfl, below_new _ _, ?_⟩
    rw [List.take_zero]
    exact RV.nought _
  case round =>
    obtain ⟨k, hkl, rfl, hbel, hq⟩ := hrel
    have HQ := hideIt2 hq
    have HBL := hideIt2 hbel
    clear hq hbel
    by_cases hend : k = qs.length
    · subst hend
      go_wp2
      go_ret
      exact ⟨HBL.out, _, rfl, _, rfl, by have := HQ.out; rwa [List.take_length] at this⟩
    · have hlt : k < qs.length := by omega
      have hidx := rrow_idx (b := b) (off := off) (cap := cap) hlt
      obtain ⟨b', off', cap', e, hbl, hcells⟩ := HR.out
      cases e
      obtain ⟨p, hp, gx, rfl, hx⟩ := hcells k hlt
      have z0 := (HBL.out.cell (p := ⟨b, off + k, none⟩) hbl).trans hp
      have HX := hideIt2 (hx.below HBL.out)
      have FS := hideIt (QS.rsum F.out k)
      have FQ := hideIt (F.out _ (List.getElem_mem hlt))
      have HKK : Hid (k * (K + 1) + 1 + K + 1 ≤ 35184372088640) := by
        have h1 := HK.out
        have h2 : (k + 1) * (K + 1) ≤ qs.length * (K + 1) := Nat.mul_le_mul_right _ hlt
        rw [Nat.succ_mul] at h2
        show _ ≤ _
        omega
      have HE := hideIt2 (rsum_take hlt)
      clear hp hx hcells
      obtain ⟨y0, y1, y2, y3, hkb, hno⟩ := RV.part HQ.out
      have HKB := hideIt2 (And.intro hkb hno)
      clear hkb hno
      go_wp2_with fail
      refine (ratAdd_calls HKB.out.1 HKB.out.2 HQ.out HX.out FS.out FQ.out HKK.out).mono ?_
      rintro e w2 ⟨rfl, hs, hr⟩
      have H2 := hideIt2 (And.intro (bel_sav HBL.out hs (Nat.le_refl _)) hr)
      clear hs hr
      go_wp2
      go_roundw
      case rel => exact ⟨k + 1, hlt, by go_num, H2.out.1, by rw [HE.out]; exact H2.out.2⟩
      case measure => simp [intOf]; omega
theorem refAdd_calls {w : World} {v : Value} {qs : List Rat} (h : RRow w v qs) {K : Nat} (f : ∀ q ∈ qs, QS K q) (hn : qs.length ≤ 1000000) (hk : qs.length * (K + 1) + 1 ≤ 35184372088640) :
    Calls Tryz.prog 81 #[v] w fun e w' => Below w.heap.size w w' ∧ ∃ v', e = .returned v' ∧ PR w' v' (rsum qs) := by
  have h' := h
  obtain ⟨b, off, cap, rfl, _⟩ := h
  exact refAdd_walk h' f hn hk
def rprod (qs : List Rat) : Rat := qs.foldl (fun a q => a * q) 1
theorem rprod_take {qs : List Rat} {k : Nat} (h : k < qs.length) : rprod (qs.take (k + 1)) = rprod (qs.take k) * qs[k] := by
  unfold rprod
  rw [List.take_succ_eq_append_getElem h, List.foldl_append]
  rfl
theorem QS.rprod {K : Nat} : ∀ {qs : List Rat} (_ : ∀ q ∈ qs, QS K q) (k : Nat), QS (k * (K + 1) + 1) (rprod (qs.take k))
  | qs, _, 0 => by
    rw [List.take_zero]
    exact QS.mono (k := 1) ⟨by decide, by decide⟩ (by omega)
  | qs, h, k + 1 => by
    have ih := QS.rprod h k
    by_cases hk : k < qs.length
    · rw [rprod_take hk]
      refine (ih.mul (h _ (List.getElem_mem hk))).mono ?_
      rw [Nat.succ_mul]; omega
    · rw [List.take_of_length_le (by omega)]
      rw [List.take_of_length_le (by omega)] at ih
      exact ih.mono (by rw [Nat.succ_mul]; omega)
theorem refMul_walk {w : World} {b off cap : Nat} {qs : List Rat} (h : RRow w (.slice (some ⟨b, off, none⟩) qs.length cap) qs) {K : Nat} (f : ∀ q ∈ qs, QS K q) (hn : qs.length ≤ 1000000) (hk : qs.length * (K + 1) + 1 ≤ 35184372088640) :
    Calls Tryz.prog 82 #[.slice (some ⟨b, off, none⟩) qs.length cap] w fun e w' => Below w.heap.size w w' ∧ ∃ v, e = .returned v ∧ PR w' v (rprod qs) := by
  have HR := hideIt h
  have F := hideIt f
  have HK := hideIt hk
  clear h f hk
  go_enter Tryz.func82, Tryz.ntmps82
  go_wp2_with fail
  refine (refN_calls 1 (by decide) w).mono ?_
  rintro e w0 ⟨hb0, g0, rfl, hg0, hr0⟩
  have H0 := hideIt2 (And.intro hb0 hr0)
  clear hb0 hr0
  go_wp2
  go_loopw [9] (fun i wr => ∃ k : Nat, k ≤ qs.length ∧ i = .int .i64 (k : Int) ∧ Below w.heap.size w wr ∧ RV wr g0 (rprod (qs.take k))) (fun i _ => qs.length - (intOf i).toNat)
  case atStart =>
    refine ⟨0, Nat.zero_le _, rfl, H0.out.1, ?_⟩
    rw [List.take_zero]
    exact H0.out.2
  case round =>
    obtain ⟨k, hkl, rfl, hbel, hq⟩ := hrel
    have HQ := hideIt2 hq
    have HBL := hideIt2 hbel
    clear hq hbel
    by_cases hend : k = qs.length
    · subst hend
      go_wp2
      go_ret
      exact ⟨HBL.out, _, rfl, _, rfl, by have := HQ.out; rwa [List.take_length] at this⟩
    · have hlt : k < qs.length := by omega
      have hidx := rrow_idx (b := b) (off := off) (cap := cap) hlt
      obtain ⟨b', off', cap', e, hbl, hcells⟩ := HR.out
      cases e
      obtain ⟨p, hp, gx, rfl, hx⟩ := hcells k hlt
      have z0 := (HBL.out.cell (p := ⟨b, off + k, none⟩) hbl).trans hp
      have HX := hideIt2 (hx.below HBL.out)
      have FS := hideIt (QS.rprod F.out k)
      have FQ := hideIt (F.out _ (List.getElem_mem hlt))
      have HKK : Hid (k * (K + 1) + 1 + K + 1 ≤ 35184372088640) := by
        have h1 := HK.out
        have h2 : (k + 1) * (K + 1) ≤ qs.length * (K + 1) := Nat.mul_le_mul_right _ hlt
        rw [Nat.succ_mul] at h2
        show _ ≤ _
        omega
      have HE := hideIt2 (rprod_take hlt)
      clear hp hx hcells
      obtain ⟨y0, y1, y2, y3, hkb, hno⟩ := RV.part HQ.out
      have HKB := hideIt2 (And.intro hkb hno)
      clear hkb hno
      go_wp2_with fail
      refine (ratMul_calls HKB.out.1 HKB.out.2 HQ.out HX.out FS.out FQ.out HKK.out).mono ?_
      rintro e w2 ⟨rfl, hs, hr⟩
      have H2 := hideIt2 (And.intro (bel_sav HBL.out hs hg0) hr)
      clear hs hr
      go_wp2
      go_roundw
      case rel => exact ⟨k + 1, hlt, by go_num, H2.out.1, by rw [HE.out]; exact H2.out.2⟩
      case measure => simp [intOf]; omega
theorem refMul_calls {w : World} {v : Value} {qs : List Rat} (h : RRow w v qs) {K : Nat} (f : ∀ q ∈ qs, QS K q) (hn : qs.length ≤ 1000000) (hk : qs.length * (K + 1) + 1 ≤ 35184372088640) :
    Calls Tryz.prog 82 #[v] w fun e w' => Below w.heap.size w w' ∧ ∃ v', e = .returned v' ∧ PR w' v' (rprod qs) := by
  have h' := h
  obtain ⟨b, off, cap, rfl, _⟩ := h
  exact refMul_walk h' f hn hk
end Go.Proofs.YtgajdmadbdbabaaGreatDoor
/- WF -/
namespace Go.Proofs.YtgajdmadbdbabaaGreatDoor
open Go.RowKit Cx
attribute [local go_sem ↓] Go.wp_at_zero Go.wp_at_succ
theorem qrow2 {w : World} {c0 c1 : C3} {q0 q1 : Rat} (h0 : QV w (.agg #[.bool c0.n, .slice c0.u c0.nu c0.cu, .slice c0.l c0.nl c0.cl]) q0) (h1 : QV w (.agg #[.bool c1.n, .slice c1.u c1.nu c1.cu, .slice c1.l c1.nl c1.cl]) q1) :
    QRow (w.alloc (.cells #[.bool c0.n, .slice c0.u c0.nu c0.cu, .slice c0.l c0.nl c0.cl, .bool c1.n, .slice c1.u c1.nu c1.cu, .slice c1.l c1.nl c1.cl] 84)) (.slice (some ⟨w.heap.size, 0, none⟩) 2 2) [q0, q1] := by
  have hb := below_new w (.cells #[.bool c0.n, .slice c0.u c0.nu c0.cu, .slice c0.l c0.nl c0.cl, .bool c1.n, .slice c1.u c1.nu c1.cu, .slice c1.l c1.nl c1.cl] 84)
  have hk := Blk.new w #[.bool c0.n, .slice c0.u c0.nu c0.cu, .slice c0.l c0.nl c0.cl, .bool c1.n, .slice c1.u c1.nu c1.cu, .slice c1.l c1.nl c1.cl] 84
  refine ⟨w.heap.size, 0, 2, rfl, hk.lt, fun j hj => ?_⟩
  match j, hj with
  | 0, _ => exact ⟨c0, hk.cell 0, hk.cell 1, hk.cell 2, h0.below hb⟩
  | 1, _ => exact ⟨c1, hk.cell 3, hk.cell 4, hk.cell 5, h1.below hb⟩
  | j + 2, hj => simp at hj; omega
theorem qrow3 {w : World} {c0 c1 c2 : C3} {q0 q1 q2 : Rat} (h0 : QV w (.agg #[.bool c0.n, .slice c0.u c0.nu c0.cu, .slice c0.l c0.nl c0.cl]) q0) (h1 : QV w (.agg #[.bool c1.n, .slice c1.u c1.nu c1.cu, .slice c1.l c1.nl c1.cl]) q1) (h2 : QV w (.agg #[.bool c2.n, .slice c2.u c2.nu c2.cu, .slice c2.l c2.nl c2.cl]) q2) :
    QRow (w.alloc (.cells #[.bool c0.n, .slice c0.u c0.nu c0.cu, .slice c0.l c0.nl c0.cl, .bool c1.n, .slice c1.u c1.nu c1.cu, .slice c1.l c1.nl c1.cl, .bool c2.n, .slice c2.u c2.nu c2.cu, .slice c2.l c2.nl c2.cl] 84)) (.slice (some ⟨w.heap.size, 0, none⟩) 3 3) [q0, q1, q2] := by
  have hb := below_new w (.cells #[.bool c0.n, .slice c0.u c0.nu c0.cu, .slice c0.l c0.nl c0.cl, .bool c1.n, .slice c1.u c1.nu c1.cu, .slice c1.l c1.nl c1.cl, .bool c2.n, .slice c2.u c2.nu c2.cu, .slice c2.l c2.nl c2.cl] 84)
  have hk := Blk.new w #[.bool c0.n, .slice c0.u c0.nu c0.cu, .slice c0.l c0.nl c0.cl, .bool c1.n, .slice c1.u c1.nu c1.cu, .slice c1.l c1.nl c1.cl, .bool c2.n, .slice c2.u c2.nu c2.cu, .slice c2.l c2.nl c2.cl] 84
  refine ⟨w.heap.size, 0, 3, rfl, hk.lt, fun j hj => ?_⟩
  match j, hj with
  | 0, _ => exact ⟨c0, hk.cell 0, hk.cell 1, hk.cell 2, h0.below hb⟩
  | 1, _ => exact ⟨c1, hk.cell 3, hk.cell 4, hk.cell 5, h1.below hb⟩
  | 2, _ => exact ⟨c2, hk.cell 6, hk.cell 7, hk.cell 8, h2.below hb⟩
  | j + 3, hj => simp at hj; omega
theorem rsum2 (a b : Rat) : rsum [a, b] = a + b := by simp [rsum, Rat.zero_add]
theorem rsum3 (a b c : Rat) : rsum [a, b, c] = a + b + c := by simp [rsum, Rat.zero_add]
theorem all2 {K : Nat} {a b : Rat} (h1 : QS K a) (h2 : QS K b) : ∀ q ∈ [a, b], QS K q := by
  intro q hq
  rcases List.mem_cons.1 hq with rfl | hq
  · exact h1
  · rw [List.mem_singleton.1 hq]; exact h2
theorem all3 {K : Nat} {a b c : Rat} (h1 : QS K a) (h2 : QS K b) (h3 : QS K c) : ∀ q ∈ [a, b, c], QS K q := by
  intro q hq
  rcases List.mem_cons.1 hq with rfl | hq
  · exact h1
  · exact all2 h2 h3 q hq
theorem wayDot_walk {w : World} {cax cay cbx cbz : C3} {ax ay bx bz : Rat} (hax : QV w (.agg #[.bool cax.n, .slice cax.u cax.nu cax.cu, .slice cax.l cax.nl cax.cl]) ax) (hay : QV w (.agg #[.bool cay.n, .slice cay.u cay.nu cay.cu, .slice cay.l cay.nl cay.cl]) ay) (hbx : QV w (.agg #[.bool cbx.n, .slice cbx.u cbx.nu cbx.cu, .slice cbx.l cbx.nl cbx.cl]) bx) (hbz : QV w (.agg #[.bool cbz.n, .slice cbz.u cbz.nu cbz.cu, .slice cbz.l cbz.nl cbz.cl]) bz) {k l : Nat} (f1 : QS k ax) (f2 : QS k ay) (f3 : QS l bx) (f4 : QS l bz) (hk : 2 * (k + l + 1) + 1 ≤ 35184372088640) :
    Calls Tryz.prog 123 #[.agg #[.bool cax.n, .slice cax.u cax.nu cax.cu, .slice cax.l cax.nl cax.cl, .bool cay.n, .slice cay.u cay.nu cay.cu, .slice cay.l cay.nl cay.cl], .agg #[.bool cbx.n, .slice cbx.u cbx.nu cbx.cu, .slice cbx.l cbx.nl cbx.cl, .bool cbz.n, .slice cbz.u cbz.nu cbz.cu, .slice cbz.l cbz.nl cbz.cl]] w fun e w' => Below w.heap.size w w' ∧ ∃ v, e = .returned v ∧ QV w' v (ax * bx + ay * bz) := by
  obtain ⟨hb0, hk0, hk1, hk2, hsz⟩ := boxes3 w #[.bool cax.n, .slice cax.u cax.nu cax.cu, .slice cax.l cax.nl cax.cl, .bool cay.n, .slice cay.u cay.nu cay.cu, .slice cay.l cay.nl cay.cl] #[.bool cbx.n, .slice cbx.u cbx.nu cbx.cu, .slice cbx.l cbx.nl cbx.cl, .bool cbz.n, .slice cbz.u cbz.nu cbz.cu, .slice cbz.l cbz.nl cbz.cl] #[.bool false, .slice none 0 0, .slice none 0 0] 86 86 84
  have HB0 := hideIt hb0
  have HSZ := hideIt hsz
  have HK0 := hideIt hk0
  have HK1 := hideIt hk1
  have HK2 := hideIt hk2
  have Hax := hideIt (hax.below hb0)
  have Hay := hideIt (hay.below hb0)
  have Hbx := hideIt (hbx.below hb0)
  have Hbz := hideIt (hbz.below hb0)
  have F1 := hideIt f1
  have F2 := hideIt f2
  have F3 := hideIt f3
  have F4 := hideIt f4
  have HK := hideIt hk
  clear hb0 hsz hk0 hk1 hk2 hax hay hbx hbz f1 f2 f3 f4 hk
  have HL : Hid (k + l + 1 ≤ 35184372088640) := by have := HK.out; show _ ≤ _; omega
  go_enter Tryz.func123, Tryz.ntmps123
  go_wp2_with fail
  generalize (((w.alloc (.cells #[.bool cax.n, .slice cax.u cax.nu cax.cu, .slice cax.l cax.nl cax.cl, .bool cay.n, .slice cay.u cay.nu cay.cu, .slice cay.l cay.nl cay.cl] 86)).alloc (.cells #[.bool cbx.n, .slice cbx.u cbx.nu cbx.cu, .slice cbx.l cbx.nl cbx.cl, .bool cbz.n, .slice cbz.u cbz.nu cbz.cu, .slice cbz.l cbz.nl cbz.cl] 86)).alloc (.cells #[.bool false, .slice none 0 0, .slice none 0 0] 84)) = W0 at *
  have HS : Hid (∀ w', Below W0.heap.size W0 w' → w'.cell? ⟨w.heap.size, 0, none⟩ = some (.bool cax.n) ∧ w'.cell? ⟨w.heap.size, 1, none⟩ = some (.slice cax.u cax.nu cax.cu) ∧ w'.cell? ⟨w.heap.size, 2, none⟩ = some (.slice cax.l cax.nl cax.cl) ∧ w'.cell? ⟨w.heap.size, 3, none⟩ = some (.bool cay.n) ∧ w'.cell? ⟨w.heap.size, 4, none⟩ = some (.slice cay.u cay.nu cay.cu) ∧ w'.cell? ⟨w.heap.size, 5, none⟩ = some (.slice cay.l cay.nl cay.cl) ∧ w'.cell? ⟨w.heap.size + 1, 0, none⟩ = some (.bool cbx.n) ∧ w'.cell? ⟨w.heap.size + 1, 1, none⟩ = some (.slice cbx.u cbx.nu cbx.cu) ∧ w'.cell? ⟨w.heap.size + 1, 2, none⟩ = some (.slice cbx.l cbx.nl cbx.cl) ∧ w'.cell? ⟨w.heap.size + 1, 3, none⟩ = some (.bool cbz.n) ∧ w'.cell? ⟨w.heap.size + 1, 4, none⟩ = some (.slice cbz.u cbz.nu cbz.cu) ∧ w'.cell? ⟨w.heap.size + 1, 5, none⟩ = some (.slice cbz.l cbz.nl cbz.cl)) := fun w' hb => ⟨(HK0.out.below hb (by rw [HSZ.out]; omega)).cell 0, (HK0.out.below hb (by rw [HSZ.out]; omega)).cell 1, (HK0.out.below hb (by rw [HSZ.out]; omega)).cell 2, (HK0.out.below hb (by rw [HSZ.out]; omega)).cell 3, (HK0.out.below hb (by rw [HSZ.out]; omega)).cell 4, (HK0.out.below hb (by rw [HSZ.out]; omega)).cell 5, (HK1.out.below hb (by rw [HSZ.out]; omega)).cell 0, (HK1.out.below hb (by rw [HSZ.out]; omega)).cell 1, (HK1.out.below hb (by rw [HSZ.out]; omega)).cell 2, (HK1.out.below hb (by rw [HSZ.out]; omega)).cell 3, (HK1.out.below hb (by rw [HSZ.out]; omega)).cell 4, (HK1.out.below hb (by rw [HSZ.out]; omega)).cell 5⟩
  have HSS : Hid (∀ w', Below W0.heap.size W0 w' → ∀ x0 x1 x2 : Value, (((w'.setCell ⟨w.heap.size + 1 + 1, 0, none⟩ (x0)).setCell ⟨w.heap.size + 1 + 1, 1, none⟩ (x1)).setCell ⟨w.heap.size + 1 + 1, 2, none⟩ (x2)).cell? ⟨w.heap.size, 0, none⟩ = some (.bool cax.n) ∧ (((w'.setCell ⟨w.heap.size + 1 + 1, 0, none⟩ (x0)).setCell ⟨w.heap.size + 1 + 1, 1, none⟩ (x1)).setCell ⟨w.heap.size + 1 + 1, 2, none⟩ (x2)).cell? ⟨w.heap.size, 1, none⟩ = some (.slice cax.u cax.nu cax.cu) ∧ (((w'.setCell ⟨w.heap.size + 1 + 1, 0, none⟩ (x0)).setCell ⟨w.heap.size + 1 + 1, 1, none⟩ (x1)).setCell ⟨w.heap.size + 1 + 1, 2, none⟩ (x2)).cell? ⟨w.heap.size, 2, none⟩ = some (.slice cax.l cax.nl cax.cl) ∧ (((w'.setCell ⟨w.heap.size + 1 + 1, 0, none⟩ (x0)).setCell ⟨w.heap.size + 1 + 1, 1, none⟩ (x1)).setCell ⟨w.heap.size + 1 + 1, 2, none⟩ (x2)).cell? ⟨w.heap.size, 3, none⟩ = some (.bool cay.n) ∧ (((w'.setCell ⟨w.heap.size + 1 + 1, 0, none⟩ (x0)).setCell ⟨w.heap.size + 1 + 1, 1, none⟩ (x1)).setCell ⟨w.heap.size + 1 + 1, 2, none⟩ (x2)).cell? ⟨w.heap.size, 4, none⟩ = some (.slice cay.u cay.nu cay.cu) ∧ (((w'.setCell ⟨w.heap.size + 1 + 1, 0, none⟩ (x0)).setCell ⟨w.heap.size + 1 + 1, 1, none⟩ (x1)).setCell ⟨w.heap.size + 1 + 1, 2, none⟩ (x2)).cell? ⟨w.heap.size, 5, none⟩ = some (.slice cay.l cay.nl cay.cl) ∧ (((w'.setCell ⟨w.heap.size + 1 + 1, 0, none⟩ (x0)).setCell ⟨w.heap.size + 1 + 1, 1, none⟩ (x1)).setCell ⟨w.heap.size + 1 + 1, 2, none⟩ (x2)).cell? ⟨w.heap.size + 1, 0, none⟩ = some (.bool cbx.n) ∧ (((w'.setCell ⟨w.heap.size + 1 + 1, 0, none⟩ (x0)).setCell ⟨w.heap.size + 1 + 1, 1, none⟩ (x1)).setCell ⟨w.heap.size + 1 + 1, 2, none⟩ (x2)).cell? ⟨w.heap.size + 1, 1, none⟩ = some (.slice cbx.u cbx.nu cbx.cu) ∧ (((w'.setCell ⟨w.heap.size + 1 + 1, 0, none⟩ (x0)).setCell ⟨w.heap.size + 1 + 1, 1, none⟩ (x1)).setCell ⟨w.heap.size + 1 + 1, 2, none⟩ (x2)).cell? ⟨w.heap.size + 1, 2, none⟩ = some (.slice cbx.l cbx.nl cbx.cl) ∧ (((w'.setCell ⟨w.heap.size + 1 + 1, 0, none⟩ (x0)).setCell ⟨w.heap.size + 1 + 1, 1, none⟩ (x1)).setCell ⟨w.heap.size + 1 + 1, 2, none⟩ (x2)).cell? ⟨w.heap.size + 1, 3, none⟩ = some (.bool cbz.n) ∧ (((w'.setCell ⟨w.heap.size + 1 + 1, 0, none⟩ (x0)).setCell ⟨w.heap.size + 1 + 1, 1, none⟩ (x1)).setCell ⟨w.heap.size + 1 + 1, 2, none⟩ (x2)).cell? ⟨w.heap.size + 1, 4, none⟩ = some (.slice cbz.u cbz.nu cbz.cu) ∧ (((w'.setCell ⟨w.heap.size + 1 + 1, 0, none⟩ (x0)).setCell ⟨w.heap.size + 1 + 1, 1, none⟩ (x1)).setCell ⟨w.heap.size + 1 + 1, 2, none⟩ (x2)).cell? ⟨w.heap.size + 1, 5, none⟩ = some (.slice cbz.l cbz.nl cbz.cl)) := fun w' hb x0 x1 x2 => ⟨((HK0.out.below hb (by rw [HSZ.out]; omega)).off3 (g := w.heap.size + 1 + 1) (by omega) x0 x1 x2).cell 0, ((HK0.out.below hb (by rw [HSZ.out]; omega)).off3 (g := w.heap.size + 1 + 1) (by omega) x0 x1 x2).cell 1, ((HK0.out.below hb (by rw [HSZ.out]; omega)).off3 (g := w.heap.size + 1 + 1) (by omega) x0 x1 x2).cell 2, ((HK0.out.below hb (by rw [HSZ.out]; omega)).off3 (g := w.heap.size + 1 + 1) (by omega) x0 x1 x2).cell 3, ((HK0.out.below hb (by rw [HSZ.out]; omega)).off3 (g := w.heap.size + 1 + 1) (by omega) x0 x1 x2).cell 4, ((HK0.out.below hb (by rw [HSZ.out]; omega)).off3 (g := w.heap.size + 1 + 1) (by omega) x0 x1 x2).cell 5, ((HK1.out.below hb (by rw [HSZ.out]; omega)).off3 (g := w.heap.size + 1 + 1) (by omega) x0 x1 x2).cell 0, ((HK1.out.below hb (by rw [HSZ.out]; omega)).off3 (g := w.heap.size + 1 + 1) (by omega) x0 x1 x2).cell 1, ((HK1.out.below hb (by rw [HSZ.out]; omega)).off3 (g := w.heap.size + 1 + 1) (by omega) x0 x1 x2).cell 2, ((HK1.out.below hb (by rw [HSZ.out]; omega)).off3 (g := w.heap.size + 1 + 1) (by omega) x0 x1 x2).cell 3, ((HK1.out.below hb (by rw [HSZ.out]; omega)).off3 (g := w.heap.size + 1 + 1) (by omega) x0 x1 x2).cell 4, ((HK1.out.below hb (by rw [HSZ.out]; omega)).off3 (g := w.heap.size + 1 + 1) (by omega) x0 x1 x2).cell 5⟩
  obtain ⟨z0, z1, z2, z3, z4, z5, z6, z7, z8, z9, z10, z11⟩ := HS.out W0 (Below.refl _ _)
  go_region_held3 (fun w' => w'.cell? ⟨w.heap.size, 0, none⟩ = some (.bool cax.n) ∧ w'.cell? ⟨w.heap.size, 1, none⟩ = some (.slice cax.u cax.nu cax.cu) ∧ w'.cell? ⟨w.heap.size, 2, none⟩ = some (.slice cax.l cax.nl cax.cl) ∧ w'.cell? ⟨w.heap.size, 3, none⟩ = some (.bool cay.n) ∧ w'.cell? ⟨w.heap.size, 4, none⟩ = some (.slice cay.u cay.nu cay.cu) ∧ w'.cell? ⟨w.heap.size, 5, none⟩ = some (.slice cay.l cay.nl cay.cl) ∧ w'.cell? ⟨w.heap.size + 1, 0, none⟩ = some (.bool cbx.n) ∧ w'.cell? ⟨w.heap.size + 1, 1, none⟩ = some (.slice cbx.u cbx.nu cbx.cu) ∧ w'.cell? ⟨w.heap.size + 1, 2, none⟩ = some (.slice cbx.l cbx.nl cbx.cl) ∧ w'.cell? ⟨w.heap.size + 1, 3, none⟩ = some (.bool cbz.n) ∧ w'.cell? ⟨w.heap.size + 1, 4, none⟩ = some (.slice cbz.u cbz.nu cbz.cu) ∧ w'.cell? ⟨w.heap.size + 1, 5, none⟩ = some (.slice cbz.l cbz.nl cbz.cl)) (first | go_keep | exact hs1 | exact hs2 | exact hsA2 | exact hs3 | exact hkS)
    (first
      | (go_at_call_of 109 (Value.agg #[Value.bool cax.n, Value.slice cax.u cax.nu cax.cu, Value.slice cax.l cax.nl cax.cl]); refine (times_calls (w := W0.drew) (Hax.out.below (Below.drew (Below.refl _ _))) (Hbx.out.below (Below.drew (Below.refl _ _))) F1.out F3.out HL.out).mono ?_; rintro e w1 ⟨hb1, v1, rfl, hv1⟩; have hbl1 : Below W0.heap.size W0 w1 := (Below.drew (Below.refl _ W0)).trans hb1; obtain ⟨d1, rfl⟩ := qv_open hv1; have hs1 := HS.out w1 hbl1)
      | (go_at_call_of 109 (Value.agg #[Value.bool cay.n, Value.slice cay.u cay.nu cay.cu, Value.slice cay.l cay.nl cay.cl]); refine (times_calls (Hay.out.below hbl1) (Hbz.out.below hbl1) F2.out F4.out HL.out).mono ?_; rintro e w2 ⟨hb2, v2, rfl, hv2⟩; have hbl2 := hbl1.trans (hb2.mono hbl1.size); obtain ⟨d2, rfl⟩ := qv_open hv2; have hs2 := HS.out w2 hbl2; have hbA2 := below_new w2 (.cells #[.bool d1.n, .slice d1.u d1.nu d1.cu, .slice d1.l d1.nl d1.cl, .bool d2.n, .slice d2.u d2.nu d2.cu, .slice d2.l d2.nl d2.cl] 84); have hblA2 := hbl2.trans (hbA2.mono hbl2.size); have hsA2 := HS.out _ hblA2)
      | (go_at_call 161; refine (sum_calls (qrow2 (hv1.below hb2) hv2) (all2 (F1.out.mul F3.out) (F2.out.mul F4.out)) (by simp) HK.out).mono ?_; rintro e w3 ⟨hb3, v3, rfl, hv3⟩; have hbl3 := hblA2.trans (hb3.mono hblA2.size); obtain ⟨d3, rfl⟩ := qv_open hv3; have hs3 := HS.out w3 hbl3; have hkr := HK2.out.below hbl3 (by rw [HSZ.out]; omega); obtain ⟨r0, r1, r2, f0, f1, f2⟩ := hkr.all3; have hkS := HSS.out w3 hbl3 (.bool d3.n) (.slice d3.u d3.nu d3.cu) (.slice d3.l d3.nl d3.cl))
      )
  all_goals
    go_wp2
    obtain ⟨k0, k1, k2, _, _, _⟩ := (hkr.put3 (.bool d3.n) (.slice d3.u d3.nu d3.cu) (.slice d3.l d3.nl d3.cl)).all3
    refine bodyPost_ret (v := .agg #[.bool d3.n, .slice d3.u d3.nu d3.cu, .slice d3.l d3.nl d3.cl]) (by simp [results, Tryz.results123, go_sem, k0, k1, k2]) rfl ⟨Below.put3 (HB0.out.trans (hbl3.mono HB0.out.size)) (by omega) (.bool d3.n) (.slice d3.u d3.nu d3.cu) (.slice d3.l d3.nl d3.cl), _, rfl, ?_⟩
    have hst := Stays.put3 hkr (by simp [notLimb]) (.bool d3.n) (.slice d3.u d3.nu d3.cu) (.slice d3.l d3.nl d3.cl) rfl rfl rfl
    rw [rsum2] at hv3; exact hst.qv hv3
theorem wayDot_calls {w : World} {va vb : Value} {ax ay bx bz : Rat} {k l : Nat} (ha : WV w va ax ay) (hb : WV w vb bx bz) (f1 : QS k ax) (f2 : QS k ay) (f3 : QS l bx) (f4 : QS l bz) (hk : 2 * (k + l + 1) + 1 ≤ 35184372088640) :
    Calls Tryz.prog 123 #[va, vb] w fun e w' => Below w.heap.size w w' ∧ ∃ v, e = .returned v ∧ QV w' v (ax * bx + ay * bz) := by
  obtain ⟨c1, c2, rfl, h1, h2⟩ := ha
  obtain ⟨c3, c4, rfl, h3, h4⟩ := hb
  exact wayDot_walk h1 h2 h3 h4 f1 f2 f3 f4 hk
end Go.Proofs.YtgajdmadbdbabaaGreatDoor
