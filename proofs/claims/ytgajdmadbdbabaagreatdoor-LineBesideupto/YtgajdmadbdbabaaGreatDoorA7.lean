/- Part 7 of the walks and of the mathematics under them: BL BM AWA AWB AWC BN BO BP BTA. -/
import Derived.Test.YtgajdmadbdbabaaGreatDoorA6
import Derived.Deep.RegionHeld3
import Derived.Test.YtgajdmadbdbabaaGreatDoorA1
import Derived.BigCall
import Derived.Deep.DeepCutAuto
set_option maxHeartbeats 16000000
set_option maxRecDepth 100000
/- BL -/
namespace Go.Proofs.YtgajdmadbdbabaaGreatDoor
open Go.RowKit Cx
attribute [local go_sem ↓] Go.wp_at_zero Go.wp_at_succ
theorem intSet_calls {w : World} {g o : Nat} {px : Value} {x : Int} (h : At2 w g o) (hx : IV w px x) (ax : Apart px g) (sx : Small x.natAbs) :
    Calls Tryz.prog 140 #[.pointer (some ⟨g, o, none⟩), px] w fun e w' => e = .returned (.pointer (some ⟨g, o, none⟩)) ∧ Gave w g o x w' := by
  obtain ⟨g1, o1, a1, n1, c1, rfl, x0, x1, x2, xl⟩ := hx
  have H := hideIt2 h
  have HX := hideIt2 x2
  have SX := hideIt2 sx
  have HS : Hid (∀ w', Below w.heap.size w w' → w'.cell? ⟨g1, o1, none⟩ = some (.bool (decide (x < 0))) ∧ w'.cell? ⟨g1, o1 + 1, none⟩ = some (.slice a1 n1 c1)) := fun w' hb => ⟨(hb.cell (p := ⟨g1, o1, none⟩) xl).trans x0, (hb.cell (p := ⟨g1, o1 + 1, none⟩) xl).trans x1⟩
  have HSS : Hid (∀ w', Below w.heap.size w w' → ∀ v0 v1 : Value, ((w'.setCell ⟨g, o + 1, none⟩ v0).setCell ⟨g, o, none⟩ v1).cell? ⟨g1, o1, none⟩ = some (.bool (decide (x < 0))) ∧ ((w'.setCell ⟨g, o + 1, none⟩ v0).setCell ⟨g, o, none⟩ v1).cell? ⟨g1, o1 + 1, none⟩ = some (.slice a1 n1 c1)) := fun w' hb v0 v1 => by
    have h1 := ax g1 o1 none rfl
    obtain ⟨e1, e2⟩ := HS.out w' hb
    exact ⟨(cell_two h1).trans e1, (cell_two h1).trans e2⟩
  clear h x2 sx xl ax
  go_enter Tryz.func140, Tryz.ntmps140
  go_wp2_with fail
  go_region_held3 (fun w' => w'.cell? ⟨g1, o1, none⟩ = some (.bool (decide (x < 0))) ∧ w'.cell? ⟨g1, o1 + 1, none⟩ = some (.slice a1 n1 c1)) (first | go_keep | exact hs1 | exact hkS)
    (first
      | (go_at_call 188; refine (bigTwin_calls (w := w.drew) (HX.out.below (Below.drew (Below.refl _ _))) SX.out).mono ?_; rintro e w1 ⟨hb1, v1, rfl, hv1⟩; obtain ⟨ao, n, c, rfl, hn, hnb, hnz⟩ := big_len hv1; have hbl1 : Below w.heap.size w w1 := (Below.drew (Below.refl _ w)).trans hb1; have hs1 := HS.out w1 hbl1)
      | (go_at_call 179; refine (give_calls (n := n) (ao := ao) (c := c) _ (H.out.below hbl1)).mono ?_; rintro e w2 ⟨rfl, rfl⟩; have hkS := HSS.out w1 hbl1 (.slice ao n c) (.bool (decide (x < 0) && decide (0 < n))))
      )
  all_goals
    go_wp2
    go_ret
    refine ⟨rfl, w1, ao, n, c, hbl1, ?_, hv1⟩
    rw [give_sign (z := x) _ hnz (fun _ => rfl)]
theorem sum_eq_calls {w : World} {va vb : Value} {a b : Nat} (s : Bool) (ha : NatN w va a) (hb : NatN w vb b) (sa : Small a) (sb : Small b) :
    Calls Tryz.prog 220 #[.bool s, va, .bool s, vb] w fun e w' => Below w.heap.size w w' ∧ ∃ v, e = .returned (.tuple #[.bool s, v]) ∧ NatN w' v (a + b) := by
  have HA := hideIt2 ha
  have HB := hideIt2 hb
  have SA := hideIt2 sa
  have SB := hideIt2 sb
  clear ha hb sa sb
  have hs : (s == s) = true := by simp
  go_enter Tryz.func220, Tryz.ntmps220
  go_wp2_with fail
  refine (bigAdd_calls HA.out HB.out SA.out SB.out).mono ?_
  rintro e w1 ⟨hb1, v1, rfl, hv1⟩
  go_wp2
  go_ret2
  exact ⟨hb1, v1, rfl, hv1⟩
theorem sum_ne_calls {w : World} {va vb : Value} {a b : Nat} (s : Bool) (ha : NatN w va a) (hb : NatN w vb b) (sa : Small a) (sb : Small b) :
    Calls Tryz.prog 220 #[.bool s, va, .bool (!s), vb] w fun e w' => Below w.heap.size w w' ∧ ((b ≤ a ∧ ∃ v, e = .returned (.tuple #[.bool s, v]) ∧ NatN w' v (a - b)) ∨ (a < b ∧ ∃ v, e = .returned (.tuple #[.bool (!s), v]) ∧ NatN w' v (b - a))) := by
  have HC := hideIt2 (bigCmp_calls ha hb sa sb)
  have HA := hideIt2 ha
  have HB := hideIt2 hb
  have SA := hideIt2 sa
  have SB := hideIt2 sb
  clear ha hb sa sb
  have hs : (s == !s) = false := by cases s <;> rfl
  go_enter Tryz.func220, Tryz.ntmps220
  go_wp2_with fail
  refine Calls.mono HC.out ?_
  rintro e w1 ⟨hb1, c, rfl, hc1, hc2⟩
  have HA1 := hideIt2 (HA.out.below hb1)
  have HB1 := hideIt2 (HB.out.below hb1)
  by_cases hlt : a < b
  · have hc : c < 0 := hc1.2 hlt
    clear hc1 hc2
    go_wp2_with fail
    refine (bigSub_calls HB1.out HA1.out SB.out (Nat.le_of_lt hlt)).mono ?_
    rintro e w2 ⟨hb2, v2, rfl, hv2⟩
    go_wp2
    go_ret2
    exact ⟨hb1.trans (hb2.mono hb1.size), Or.inr ⟨hlt, v2, rfl, hv2⟩⟩
  · have hc : 0 ≤ c := Int.not_lt.1 (fun h => hlt (hc1.1 h))
    clear hc1 hc2
    go_wp2_with fail
    refine (bigSub_calls HA1.out HB1.out SA.out (Nat.le_of_not_lt hlt)).mono ?_
    rintro e w2 ⟨hb2, v2, rfl, hv2⟩
    go_wp2
    go_ret2
    exact ⟨hb1.trans (hb2.mono hb1.size), Or.inl ⟨Nat.le_of_not_lt hlt, v2, rfl, hv2⟩⟩
def sv (s : Bool) (a : Nat) : Int := if s then -(a : Int) else a
theorem sv_abs (x : Int) : sv (decide (x < 0)) x.natAbs = x := by
  unfold sv
  by_cases h : x < 0
  · rw [if_pos (decide_eq_true h)]; omega
  · rw [if_neg (by simpa using h)]; omega
theorem sv_not (x : Int) : sv (!decide (x < 0)) x.natAbs = -x := by
  unfold sv
  by_cases h : x < 0
  · rw [if_neg (by simpa using h)]; omega
  · rw [if_pos (by simpa using h)]; omega
theorem sv_natAbs (s : Bool) (a : Nat) : (sv s a).natAbs = a := by
  cases s <;> simp [sv]
theorem sv_neg {s : Bool} {a : Nat} (h : sv s a ≠ 0) : s = decide (sv s a < 0) := by
  cases s
  · simp [sv]
  · simp [sv] at h ⊢
    omega
theorem bigSum_calls {w : World} {va vb : Value} {a b : Nat} (s t : Bool) (ha : NatN w va a) (hb : NatN w vb b) (sa : Small a) (sb : Small b) :
    Calls Tryz.prog 220 #[.bool s, va, .bool t, vb] w fun e w' => Below w.heap.size w w' ∧ ∃ r v n, e = .returned (.tuple #[.bool r, v]) ∧ NatN w' v n ∧ sv r n = sv s a + sv t b := by
  by_cases h : t = s
  · subst h
    refine (sum_eq_calls t ha hb sa sb).mono ?_
    rintro e w' ⟨hb, v, rfl, hv⟩
    refine ⟨hb, t, v, _, rfl, hv, ?_⟩
    cases t <;> simp [sv] <;> omega
  · have ht : t = !s := by cases s <;> cases t <;> simp_all
    subst ht
    refine (sum_ne_calls s ha hb sa sb).mono ?_
    rintro e w' ⟨hb, ⟨hle, v, rfl, hv⟩ | ⟨hlt, v, rfl, hv⟩⟩
    · refine ⟨hb, s, v, _, rfl, hv, ?_⟩
      cases s <;> simp [sv] <;> omega
    · refine ⟨hb, !s, v, _, rfl, hv, ?_⟩
      cases s <;> simp [sv] <;> omega
theorem intAdd_calls {w : World} {g o : Nat} {px py : Value} {x y : Int} (h : At2 w g o) (hx : IV w px x) (hy : IV w py y) (ax : Apart px g) (ay : Apart py g) (sx : Small x.natAbs) (sy : Small y.natAbs) :
    Calls Tryz.prog 184 #[.pointer (some ⟨g, o, none⟩), px, py] w fun e w' => e = .returned (.pointer (some ⟨g, o, none⟩)) ∧ Gave w g o (x + y) w' := by
  obtain ⟨g1, o1, a1, n1, c1, rfl, x0, x1, x2, xl⟩ := hx
  obtain ⟨g2, o2, a2, n2, c2, rfl, y0, y1, y2, yl⟩ := hy
  have H := hideIt2 h
  have HX := hideIt2 x2
  have HY := hideIt2 y2
  have SX := hideIt2 sx
  have SY := hideIt2 sy
  have HS : Hid (∀ w', Below w.heap.size w w' → w'.cell? ⟨g1, o1, none⟩ = some (.bool (decide (x < 0))) ∧ w'.cell? ⟨g1, o1 + 1, none⟩ = some (.slice a1 n1 c1) ∧ w'.cell? ⟨g2, o2, none⟩ = some (.bool (decide (y < 0))) ∧ w'.cell? ⟨g2, o2 + 1, none⟩ = some (.slice a2 n2 c2)) := fun w' hb => ⟨(hb.cell (p := ⟨g1, o1, none⟩) xl).trans x0, (hb.cell (p := ⟨g1, o1 + 1, none⟩) xl).trans x1, (hb.cell (p := ⟨g2, o2, none⟩) yl).trans y0, (hb.cell (p := ⟨g2, o2 + 1, none⟩) yl).trans y1⟩
  have HSS : Hid (∀ w', Below w.heap.size w w' → ∀ v0 v1 : Value, ((w'.setCell ⟨g, o + 1, none⟩ v0).setCell ⟨g, o, none⟩ v1).cell? ⟨g1, o1, none⟩ = some (.bool (decide (x < 0))) ∧ ((w'.setCell ⟨g, o + 1, none⟩ v0).setCell ⟨g, o, none⟩ v1).cell? ⟨g1, o1 + 1, none⟩ = some (.slice a1 n1 c1) ∧ ((w'.setCell ⟨g, o + 1, none⟩ v0).setCell ⟨g, o, none⟩ v1).cell? ⟨g2, o2, none⟩ = some (.bool (decide (y < 0))) ∧ ((w'.setCell ⟨g, o + 1, none⟩ v0).setCell ⟨g, o, none⟩ v1).cell? ⟨g2, o2 + 1, none⟩ = some (.slice a2 n2 c2)) := fun w' hb v0 v1 => by
    have h1 := ax g1 o1 none rfl
    have h2 := ay g2 o2 none rfl
    obtain ⟨e1, e2, e3, e4⟩ := HS.out w' hb
    exact ⟨(cell_two h1).trans e1, (cell_two h1).trans e2, (cell_two h2).trans e3, (cell_two h2).trans e4⟩
  clear h x2 y2 sx sy xl yl ax ay
  go_enter Tryz.func184, Tryz.ntmps184
  go_wp2_with fail
  go_region_held3 (fun w' => w'.cell? ⟨g1, o1, none⟩ = some (.bool (decide (x < 0))) ∧ w'.cell? ⟨g1, o1 + 1, none⟩ = some (.slice a1 n1 c1) ∧ w'.cell? ⟨g2, o2, none⟩ = some (.bool (decide (y < 0))) ∧ w'.cell? ⟨g2, o2 + 1, none⟩ = some (.slice a2 n2 c2)) (first | go_keep | exact hs1 | exact hkS)
    (first
      | (go_at_call 220; refine (bigSum_calls (w := w.drew) (decide (x < 0)) (decide (y < 0)) (HX.out.below (Below.drew (Below.refl _ _))) (HY.out.below (Below.drew (Below.refl _ _))) SX.out SY.out).mono ?_; rintro e w1 ⟨hb1, r, v1, k, rfl, hv1, hsv⟩; obtain ⟨ao, n, c, rfl, hn, hnb, hnz⟩ := big_len hv1; have hbl1 : Below w.heap.size w w1 := (Below.drew (Below.refl _ w)).trans hb1; have hs1 := HS.out w1 hbl1; rw [sv_abs, sv_abs] at hsv)
      | (go_at_call 179; refine (give_calls (n := n) (ao := ao) (c := c) r (H.out.below hbl1)).mono ?_; rintro e w2 ⟨rfl, rfl⟩; have hkS := HSS.out w1 hbl1 (.slice ao n c) (.bool (r && decide (0 < n))))
      )
  all_goals
    go_wp2
    go_ret
    have hz : sv r k = x + y := by rw [hsv]; try omega
    refine ⟨rfl, w1, ao, n, c, hbl1, ?_, by rw [← hz, sv_natAbs]; exact hv1⟩
    rw [← hz, give_sign (z := sv r k) r (by rw [sv_natAbs]; exact hnz) sv_neg]
theorem intSub_calls {w : World} {g o : Nat} {px py : Value} {x y : Int} (h : At2 w g o) (hx : IV w px x) (hy : IV w py y) (ax : Apart px g) (ay : Apart py g) (sx : Small x.natAbs) (sy : Small y.natAbs) :
    Calls Tryz.prog 186 #[.pointer (some ⟨g, o, none⟩), px, py] w fun e w' => e = .returned (.pointer (some ⟨g, o, none⟩)) ∧ Gave w g o (x - y) w' := by
  obtain ⟨g1, o1, a1, n1, c1, rfl, x0, x1, x2, xl⟩ := hx
  obtain ⟨g2, o2, a2, n2, c2, rfl, y0, y1, y2, yl⟩ := hy
  have H := hideIt2 h
  have HX := hideIt2 x2
  have HY := hideIt2 y2
  have SX := hideIt2 sx
  have SY := hideIt2 sy
  have HS : Hid (∀ w', Below w.heap.size w w' → w'.cell? ⟨g1, o1, none⟩ = some (.bool (decide (x < 0))) ∧ w'.cell? ⟨g1, o1 + 1, none⟩ = some (.slice a1 n1 c1) ∧ w'.cell? ⟨g2, o2, none⟩ = some (.bool (decide (y < 0))) ∧ w'.cell? ⟨g2, o2 + 1, none⟩ = some (.slice a2 n2 c2)) := fun w' hb => ⟨(hb.cell (p := ⟨g1, o1, none⟩) xl).trans x0, (hb.cell (p := ⟨g1, o1 + 1, none⟩) xl).trans x1, (hb.cell (p := ⟨g2, o2, none⟩) yl).trans y0, (hb.cell (p := ⟨g2, o2 + 1, none⟩) yl).trans y1⟩
  have HSS : Hid (∀ w', Below w.heap.size w w' → ∀ v0 v1 : Value, ((w'.setCell ⟨g, o + 1, none⟩ v0).setCell ⟨g, o, none⟩ v1).cell? ⟨g1, o1, none⟩ = some (.bool (decide (x < 0))) ∧ ((w'.setCell ⟨g, o + 1, none⟩ v0).setCell ⟨g, o, none⟩ v1).cell? ⟨g1, o1 + 1, none⟩ = some (.slice a1 n1 c1) ∧ ((w'.setCell ⟨g, o + 1, none⟩ v0).setCell ⟨g, o, none⟩ v1).cell? ⟨g2, o2, none⟩ = some (.bool (decide (y < 0))) ∧ ((w'.setCell ⟨g, o + 1, none⟩ v0).setCell ⟨g, o, none⟩ v1).cell? ⟨g2, o2 + 1, none⟩ = some (.slice a2 n2 c2)) := fun w' hb v0 v1 => by
    have h1 := ax g1 o1 none rfl
    have h2 := ay g2 o2 none rfl
    obtain ⟨e1, e2, e3, e4⟩ := HS.out w' hb
    exact ⟨(cell_two h1).trans e1, (cell_two h1).trans e2, (cell_two h2).trans e3, (cell_two h2).trans e4⟩
  clear h x2 y2 sx sy xl yl ax ay
  go_enter Tryz.func186, Tryz.ntmps186
  go_wp2_with fail
  go_region_held3 (fun w' => w'.cell? ⟨g1, o1, none⟩ = some (.bool (decide (x < 0))) ∧ w'.cell? ⟨g1, o1 + 1, none⟩ = some (.slice a1 n1 c1) ∧ w'.cell? ⟨g2, o2, none⟩ = some (.bool (decide (y < 0))) ∧ w'.cell? ⟨g2, o2 + 1, none⟩ = some (.slice a2 n2 c2)) (first | go_keep | exact hs1 | exact hkS)
    (first
      | (go_at_call 220; refine (bigSum_calls (w := w.drew) (decide (x < 0)) (!decide (y < 0)) (HX.out.below (Below.drew (Below.refl _ _))) (HY.out.below (Below.drew (Below.refl _ _))) SX.out SY.out).mono ?_; rintro e w1 ⟨hb1, r, v1, k, rfl, hv1, hsv⟩; obtain ⟨ao, n, c, rfl, hn, hnb, hnz⟩ := big_len hv1; have hbl1 : Below w.heap.size w w1 := (Below.drew (Below.refl _ w)).trans hb1; have hs1 := HS.out w1 hbl1; rw [sv_abs, sv_not] at hsv)
      | (go_at_call 179; refine (give_calls (n := n) (ao := ao) (c := c) r (H.out.below hbl1)).mono ?_; rintro e w2 ⟨rfl, rfl⟩; have hkS := HSS.out w1 hbl1 (.slice ao n c) (.bool (r && decide (0 < n))))
      )
  all_goals
    go_wp2
    go_ret
    have hz : sv r k = x - y := by rw [hsv]; try omega
    refine ⟨rfl, w1, ao, n, c, hbl1, ?_, by rw [← hz, sv_natAbs]; exact hv1⟩
    rw [← hz, give_sign (z := sv r k) r (by rw [sv_natAbs]; exact hnz) sv_neg]
end Go.Proofs.YtgajdmadbdbabaaGreatDoor
/- BM -/
namespace Go.Proofs.YtgajdmadbdbabaaGreatDoor
open Go.RowKit Cx
attribute [local go_sem ↓] Go.wp_at_zero Go.wp_at_succ
structure Save (g : Nat) (w w' : World) : Prop where
  os : w'.os = w.os
  tape : w'.tape = w.tape
  output : w'.output = w.output
  size : w.heap.size ≤ w'.heap.size
  block : ∀ k, k < w.heap.size → k ≠ g → w'.heap[k]? = w.heap[k]?
theorem Save.of {g : Nat} {w w' : World} (h : Below w.heap.size w w') : Save g w w' := ⟨h.os, h.tape, h.output, h.size, fun k hk _ => h.block k hk⟩
theorem Save.trans {g : Nat} {a b c : World} (h : Save g a b) (k : Save g b c) : Save g a c :=
  ⟨k.os.trans h.os, k.tape.trans h.tape, k.output.trans h.output, Nat.le_trans h.size k.size, fun i hi hne => (k.block i (Nat.lt_of_lt_of_le hi h.size) hne).trans (h.block i hi hne)⟩
theorem Save.set {g : Nat} {a w : World} (h : Save g a w) (j : Nat) (x : Value) : Save g a (w.setCell ⟨g, j, none⟩ x) := by
  have h0 : Below g w (w.setCell ⟨g, j, none⟩ x) := Below.set (Below.refl _ _) (Nat.le_refl _) j x
  exact ⟨h0.os.trans h.os, h0.tape.trans h.tape, h0.output.trans h.output, Nat.le_trans h.size h0.size, fun k hk hne => (Below.heap_setCell _ _ _ _ (by exact hne)).trans (h.block k hk hne)⟩
theorem Save.below {g B : Nat} {w w' : World} (h : Save g w w') (hB : B ≤ g) (hs : B ≤ w.heap.size) : Below B w w' := ⟨h.os, h.tape, h.output, h.size, fun k hk => h.block k (by omega) (by omega)⟩
theorem Save.cell {g : Nat} {w w' : World} (h : Save g w w') {p : Addr} (hp : p.block < w.heap.size) (hne : p.block ≠ g) : w'.cell? p = w.cell? p := by
  simp [World.cell?, h.block p.block hp hne]
theorem Save.blk {g g' : Nat} {w w' : World} {cs : Array Value} {t : TypeId} (h : Save g w w') (hb : Blk w g' cs t) (hne : g' ≠ g) : Blk w' g' cs t := (h.block g' hb.lt hne).trans hb
theorem NatN.save {w w' : World} {v : Value} {n g : Nat} (h : NatN w v n) (hh : Held w g) (hs : Save g w w') : NatN w' v n := by
  obtain ⟨l, ⟨hl, ⟨rfl, ao, cap, rfl⟩ | ⟨b, off, cap, rfl, hc, hm, hlt, hseg⟩⟩, t, rfl⟩ := h
  · exact ⟨[], NatV.nil _ _ _, t, rfl⟩
  · by_cases h0 : l.length = 0
    · have := List.length_eq_zero_iff.1 h0
      subst this
      exact ⟨[], NatV.nil _ _ _, t, rfl⟩
    · have hne : b ≠ g := by
        rintro rfl
        obtain ⟨cs, t', hb, hno⟩ := hh
        have h1 := hseg 0 (by omega)
        rw [Nat.add_zero, hb.cell off] at h1
        exact (noLimb_of hno) off _ h1
      refine ⟨l, ⟨hl, Or.inr ⟨b, off, cap, rfl, hc, hm, Nat.lt_of_lt_of_le hlt hs.size, fun j hj => ?_⟩⟩, t, rfl⟩
      rw [hs.cell (p := ⟨b, off + j, none⟩) hlt hne]
      exact hseg j hj
def RV (w : World) (g : Nat) (q : Rat) : Prop :=
  ∃ a1 l1 c1 a2 l2 c2, Blk w g #[.bool (decide (q.num < 0)), .slice a1 l1 c1, .bool false, .slice a2 l2 c2] 118 ∧ NatN w (.slice a1 l1 c1) q.num.natAbs ∧ (NatN w (.slice a2 l2 c2) q.den ∨ (l2 = 0 ∧ q = 0))
theorem RV.held {w : World} {g : Nat} {q : Rat} (h : RV w g q) : Held w g := by
  obtain ⟨a1, l1, c1, a2, l2, c2, hb, _⟩ := h
  exact ⟨_, _, hb, by simp [notLimb]⟩
theorem RV.below {w w' : World} {g : Nat} {q : Rat} (h : RV w g q) (hb : Below w.heap.size w w') : RV w' g q := by
  obtain ⟨a1, l1, c1, a2, l2, c2, h0, h1, h2⟩ := h
  refine ⟨a1, l1, c1, a2, l2, c2, h0.below hb h0.lt, h1.below hb, ?_⟩
  rcases h2 with h2 | h2
  · exact Or.inl (h2.below hb)
  · exact Or.inr h2
theorem RV.lt {w : World} {g : Nat} {q : Rat} (h : RV w g q) : g < w.heap.size := by
  obtain ⟨a1, l1, c1, a2, l2, c2, h0, _⟩ := h
  exact h0.lt
theorem RV.num {w : World} {g : Nat} {q : Rat} (h : RV w g q) : IV w (.pointer (some ⟨g, 0, none⟩)) q.num := by
  obtain ⟨a1, l1, c1, a2, l2, c2, h0, h1, _⟩ := h
  exact ⟨g, 0, a1, l1, c1, rfl, h0.cell 0, h0.cell 1, h1, h0.lt⟩
theorem RV.save {w w' : World} {g g' : Nat} {q : Rat} (h : RV w g' q) (hne : g' ≠ g) (hh : Held w g) (hs : Save g w w') : RV w' g' q := by
  obtain ⟨a1, l1, c1, a2, l2, c2, h0, h1, h2⟩ := h
  refine ⟨a1, l1, c1, a2, l2, c2, hs.blk h0 hne, h1.save hh hs, ?_⟩
  rcases h2 with h2 | h2
  · exact Or.inl (h2.save hh hs)
  · exact Or.inr h2
theorem den_calls {w : World} {g : Nat} {q : Rat} (h : RV w g q) :
    Calls Tryz.prog 137 #[.pointer (some ⟨g, 0, none⟩)] w fun e w' => Below w.heap.size w w' ∧ ∃ p, e = .returned p ∧ IV w' p q.den ∧ ∀ g', g' ≠ g → g' < w.heap.size → Apart p g' := by
  obtain ⟨a1, l1, c1, a2, l2, c2, h0, h1, h2⟩ := h
  have HK := hideIt2 h0
  obtain ⟨x0, x1, x2, x3⟩ : w.cell? ⟨g, 0, none⟩ = _ ∧ w.cell? ⟨g, 1, none⟩ = _ ∧ w.cell? ⟨g, 2, none⟩ = _ ∧ w.cell? ⟨g, 3, none⟩ = _ := ⟨h0.cell 0, h0.cell 1, h0.cell 2, h0.cell 3⟩
  by_cases hl : l2 = 0
  · have hd : q.den = 1 := by
      rcases h2 with h2 | ⟨_, rfl⟩
      · exfalso
        obtain ⟨_, _, _, e, _, _, hz⟩ := big_len h2
        cases e
        exact q.den_nz (hz.1 hl)
      · rfl
    subst hl
    have HD := hideIt2 hd
    clear h1 h2 hd h0
    go_enter Tryz.func137, Tryz.ntmps137
    go_wp2_with fail
    refine (newInt_calls 1 (by decide) w).mono ?_
    rintro e w1 ⟨hb1, g1, rfl, hg1, ho⟩
    have HO := hideIt2 ho
    have HB := hideIt2 hb1
    clear ho hb1
    go_wp2
    go_ret
    refine ⟨HB.out, _, rfl, ?_, fun g' _ hlt g2 o2 t e => ?_⟩
    · rw [HD.out]
      exact HO.out.iv
    · cases e
      omega
  · have hden : NatN w (.slice a2 l2 c2) q.den := by
      rcases h2 with h2 | ⟨h, _⟩
      · exact h2
      · exact absurd h hl
    have HD := hideIt2 hden
    have hne : ((l2 : Int) == 0) = false := beq_eq_false_iff_ne.mpr (by omega)
    clear h1 h2 hden h0
    go_enter Tryz.func137, Tryz.ntmps137
    go_wp2
    go_ret
    refine ⟨Below.refl _ _, _, rfl, ⟨g, 2, a2, l2, c2, rfl, ?_, HK.out.cell 3, HD.out, HK.out.lt⟩, fun g' hne _ g2 o2 t e => ?_⟩
    · rw [show decide ((q.den : Int) < 0) = false by simp]
      exact HK.out.cell 2
    · cases e
      exact fun h => hne h.symm
end Go.Proofs.YtgajdmadbdbabaaGreatDoor
/- AWA -/
namespace Go.Proofs.YtgajdmadbdbabaaGreatDoor
open Go.RowKit Cx
def boxT (t : TypeId) : Bool := !(Nat.beq t 118 || Nat.beq t 116)
def Boxed (w : World) (k : Nat) : Prop := ∃ cs t, Blk w k cs t ∧ boxT t = true ∧ cs.all notLimb = true
structure Grows (w w' : World) : Prop where
  size : w.heap.size ≤ w'.heap.size
  block : ∀ k, k < w.heap.size → ¬ Boxed w k → w'.heap[k]? = w.heap[k]?
theorem Boxed.of {w w' : World} {k : Nat} (e : w'.heap[k]? = w.heap[k]?) (h : Boxed w' k) : Boxed w k := by
  obtain ⟨cs, t, h1, h2, h3⟩ := h
  exact ⟨cs, t, e.symm.trans h1, h2, h3⟩
theorem Grows.trans {a b c : World} (h : Grows a b) (k : Grows b c) : Grows a c :=
  ⟨Nat.le_trans h.size k.size, fun i hi hn => by
    have e := h.block i hi hn
    exact (k.block i (Nat.lt_of_lt_of_le hi h.size) (fun q => hn (q.of e))).trans e⟩
theorem Grows.of {w w' : World} (h : Below w.heap.size w w') : Grows w w' := ⟨h.size, fun k hk _ => h.block k hk⟩
theorem Grows.save {w w' : World} {G : Nat} (h : Save G w w') (hb : Boxed w G) : Grows w w' :=
  ⟨h.size, fun k hk hn => h.block k hk (fun e => hn (e ▸ hb))⟩
structure Fact where
  on : Value → World → Prop
  st : ∀ {v : Value} {w w' : World}, Grows w w' → on v w → on v w'
def Jus (X : Value) : Fact := ⟨fun v _ => v = X, fun _ h => h⟩
def Any : Fact := ⟨fun _ _ => True, fun _ h => h⟩
def All2 (w : World) : List Fact → List Value → Prop
  | [], [] => True
  | F :: Fs, v :: vs => F.on v w ∧ All2 w Fs vs
  | _, _ => False
theorem All2.st {w w' : World} (hg : Grows w w') : ∀ {Fs : List Fact} {vs : List Value}, All2 w Fs vs → All2 w' Fs vs
  | [], [], _ => trivial
  | F :: _, _ :: _, h => ⟨F.st hg h.1, All2.st hg h.2⟩
  | [], _ :: _, h => h.elim
  | _ :: _, [], h => h.elim
theorem All2.len {w : World} : ∀ {Fs : List Fact} {vs : List Value}, All2 w Fs vs → vs.length = Fs.length
  | [], [], _ => rfl
  | _ :: _, _ :: _, h => congrArg (· + 1) (All2.len h.2)
  | [], _ :: _, h => h.elim
  | _ :: _, [], h => h.elim
theorem All2.get {w : World} : ∀ {Fs : List Fact} {vs : List Value} {k : Nat} {F : Fact}, All2 w Fs vs → Fs[k]? = some F → ∃ v, vs[k]? = some v ∧ F.on v w
  | [], _, _, _, _, h => by simp at h
  | _ :: _, [], _, _, h, _ => h.elim
  | F :: Fs, v :: vs, 0, F', h, e => by
    have : F = F' := by simpa using e
    subst this
    exact ⟨v, rfl, h.1⟩
  | F :: Fs, v :: vs, k + 1, F', h, e => by
    have : Fs[k]? = some F' := by simpa using e
    obtain ⟨u, hu, hF⟩ := All2.get h.2 this
    exact ⟨u, by simpa using hu, hF⟩
def Agg (Fs : List Fact) : Fact := ⟨fun v w => ∃ cs : List Value, v = .agg cs.toArray ∧ All2 w Fs cs, fun hg ⟨cs, e, h⟩ => ⟨cs, e, h.st hg⟩⟩
def Tup (Fs : List Fact) : Fact := ⟨fun v w => ∃ cs : List Value, v = .tuple cs.toArray ∧ All2 w Fs cs, fun hg ⟨cs, e, h⟩ => ⟨cs, e, h.st hg⟩⟩
def BoxIs (w : World) (G : Nat) (t : TypeId) (F : Fact) : Prop := ∃ cs : List Value, Blk w G cs.toArray t ∧ F.on (.agg cs.toArray) w ∧ cs.toArray.all notLimb = true ∧ cs.length = Tryz.prog.cellsOf t
theorem BoxIs.boxed {w : World} {G : Nat} {t : TypeId} {F : Fact} (h : BoxIs w G t F) (ht : boxT t = true) : Boxed w G := by
  obtain ⟨cs, h1, _, h3, _⟩ := h
  exact ⟨_, t, h1, ht, h3⟩
theorem BoxIs.lt {w : World} {G : Nat} {t : TypeId} {F : Fact} (h : BoxIs w G t F) : G < w.heap.size := by
  obtain ⟨cs, h1, _⟩ := h
  exact h1.lt
theorem BoxIs.below {w w' : World} {G : Nat} {t : TypeId} {F : Fact} (h : BoxIs w G t F) (hb : Below w.heap.size w w') : BoxIs w' G t F := by
  obtain ⟨cs, h1, h2, h3, h4⟩ := h
  exact ⟨cs, h1.below hb h1.lt, F.st (Grows.of hb) h2, h3, h4⟩
theorem BoxIs.save {w w' : World} {G G' : Nat} {t : TypeId} {F : Fact} (h : BoxIs w G t F) (hs : Save G' w w') (hb : Boxed w G') (hne : G ≠ G') : BoxIs w' G t F := by
  obtain ⟨cs, h1, h2, h3, h4⟩ := h
  exact ⟨cs, hs.blk h1 hne, F.st (Grows.save hs hb) h2, h3, h4⟩
structure AS (w0 : World) (n : Nat) (tm : List (Nat × Fact)) (bx : List (Nat × TypeId × Fact)) (a : Act) (w : World) : Prop where
  bel : Below w0.heap.size w0 w
  siz : a.tmps.size = n
  nod : a.defers = []
  tmp : ∀ t F, (t, F) ∈ tm → F.on (a.tmps.getD t undef) w
  box : ∀ (k G : Nat) (t : TypeId) (Fs : Fact), bx[k]? = some (G, t, Fs) → w0.heap.size ≤ G ∧ BoxIs w G t Fs
  dis : (bx.map (·.1)).Nodup
structure Soft where
  on : Value → World → Prop
  st : ∀ {v : Value} {w w' : World}, Below w.heap.size w w' → on v w → on v w'
def Fact.soft (F : Fact) : Soft := ⟨F.on, fun hb h => F.st (Grows.of hb) h⟩
abbrev Plan := Sum Fact (Sum Soft (Sum (TypeId × Fact) (Sum (Nat × Fact) (Sum (Nat × Fact) Unit))))
abbrev Plan.pure (F : Fact) : Plan := Sum.inl F
abbrev Plan.soft (S : Soft) : Plan := Sum.inr (Sum.inl S)
abbrev Plan.alloc (t : TypeId) (Fs : Fact) : Plan := Sum.inr (Sum.inr (Sum.inl (t, Fs)))
abbrev Plan.fill (a : Nat) (Fs : Fact) : Plan := Sum.inr (Sum.inr (Sum.inr (Sum.inl (a, Fs))))
abbrev Plan.over (k : Nat) (Fs : Fact) : Plan := Sum.inr (Sum.inr (Sum.inr (Sum.inr (Sum.inl (k, Fs)))))
abbrev Plan.skip : Plan := Sum.inr (Sum.inr (Sum.inr (Sum.inr (Sum.inr ()))))
def Plan.writes : Plan → Bool
  | Sum.inr (Sum.inr (Sum.inr (Sum.inl _))) => true
  | Sum.inr (Sum.inr (Sum.inr (Sum.inr (Sum.inl _)))) => true
  | _ => false
section
variable (w0 : World) (n : Nat) (tm : List (Nat × Fact)) (bx : List (Nat × TypeId × Fact)) (a0 : Act) (wr : World) (os : List Oper) (pl : List Plan)
structure RInv (d : Nat → Prop) (τ : Nat → Value) (w : World) : Prop where
  bel : Below w0.heap.size w0 w
  gro : Grows wr w
  dwn : ∀ i o, os[i]? = some o → d i → ∀ e ∈ o.after, Region.binds .any e = true → d e.on
  und : ∀ i o t, os[i]? = some o → o.dst = some t → ¬ d i → τ i = a0.tmps.getD t undef
  pur : ∀ i F, pl[i]? = some (.pure F) → d i → F.on (τ i) w
  sof : ∀ i F, pl[i]? = some (.soft F) → d i → (∀ (s : Nat) (p : Plan), pl[s]? = some p → p.writes = true → ¬ d s) → F.on (τ i) w
  alo : ∀ i t Fs, pl[i]? = some (.alloc t Fs) → d i → ∃ G, τ i = .pointer (some ⟨G, 0, none⟩) ∧ wr.heap.size ≤ G ∧ G < w.heap.size ∧
    ((∀ s Fs', pl[s]? = some (.fill i Fs') → ¬ d s) → BoxIs w G t Fs) ∧ (∀ s Fs', pl[s]? = some (.fill i Fs') → d s → BoxIs w G t Fs')
  box : ∀ (k G : Nat) (t : TypeId) (Fs : Fact), bx[k]? = some (G, t, Fs) → ((∀ s Fs', pl[s]? = some (.over k Fs') → ¬ d s) → BoxIs w G t Fs) ∧ (∀ s Fs', pl[s]? = some (.over k Fs') → d s → BoxIs w G t Fs')
  inj : ∀ i j ti Fi tj Fj, pl[i]? = some (.alloc ti Fi) → pl[j]? = some (.alloc tj Fj) → d i → d j → τ i = τ j → i = j
end
section
variable {w0 : World} {n : Nat} {tm : List (Nat × Fact)} {bx : List (Nat × TypeId × Fact)} {a0 : Act} {wr : World} {os : List Oper} {pl : List Plan}
theorem RInv.init {w : World} (h : AS w0 n tm bx a0 wr) (hw : Below wr.heap.size wr w) : RInv w0 bx a0 wr os pl (fun _ => False) (beforeOps a0 os) w where
  bel := h.bel.trans (hw.mono h.bel.size)
  gro := Grows.of hw
  dwn := fun _ _ _ q => q.elim
  und := fun i o t ho ht _ => by simp [beforeOps, ho, ht]
  pur := fun _ _ _ q => q.elim
  sof := fun _ _ _ q => q.elim
  alo := fun _ _ _ _ q => q.elim
  box := fun k G t Fs hm => ⟨fun _ => (h.box k G t Fs hm).2.below hw, fun _ _ _ q => q.elim⟩
  inj := fun _ _ _ _ _ _ _ _ q => q.elim
theorem RInv.pure {d : Nat → Prop} {τ : Nat → Value} {w w' : World} {i : Nat} {o : Oper} {p : Plan} {v : Value} (h : RInv w0 bx a0 wr os pl d τ w) (ho : os[i]? = some o) (hd : ∀ e ∈ o.after, Region.binds .any e = true → d e.on)
    (hp : pl[i]? = some p) (hk : (∃ F, p = .pure F ∧ F.on v w') ∨ (∃ F, p = .soft F ∧ F.on v w') ∨ p = .skip) (hb : Below w.heap.size w w') : RInv w0 bx a0 wr os pl (fun j => j = i ∨ d j) (updOp τ i v) w' where
  bel := h.bel.trans (hb.mono h.bel.size)
  gro := h.gro.trans (Grows.of hb)
  dwn := fun j o' hj q e he hbi => by
    rcases q with rfl | q
    · rw [ho] at hj
      cases hj
      exact Or.inr (hd e he hbi)
    · exact Or.inr (h.dwn j o' hj q e he hbi)
  und := fun j o' t hj ht q => by
    rw [updOp_ne _ _ (fun e => q (Or.inl e))]
    exact h.und j o' t hj ht (fun q' => q (Or.inr q'))
  pur := fun j F hj q => by
    by_cases e : j = i
    · subst e
      rw [updOp_at]
      rw [hp] at hj
      cases hj
      rcases hk with ⟨F', e, hF⟩ | ⟨F', e, _⟩ | e
      · cases e
        exact hF
      · cases e
      · cases e
    · rw [updOp_ne _ _ e]
      exact F.st (Grows.of hb) (h.pur j F hj (q.resolve_left e))
  sof := fun j F hj q hs => by
    by_cases e : j = i
    · subst e
      rw [updOp_at]
      rw [hp] at hj
      cases hj
      rcases hk with ⟨F', e, _⟩ | ⟨F', e, hF⟩ | e
      · cases e
      · cases e
        exact hF
      · cases e
    · rw [updOp_ne _ _ e]
      exact F.st hb (h.sof j F hj (q.resolve_left e) fun s p h1 h2 h3 => hs s p h1 h2 (Or.inr h3))
  alo := fun j t Fs hj q => by
    by_cases e : j = i
    · subst e
      rw [hp] at hj
      cases hj
      rcases hk with ⟨F', e, _⟩ | ⟨F', e, _⟩ | e <;> cases e
    · rw [updOp_ne _ _ e]
      obtain ⟨G, h1, h2, h3, h4, h5⟩ := h.alo j t Fs hj (q.resolve_left e)
      refine ⟨G, h1, h2, Nat.lt_of_lt_of_le h3 hb.size, fun hn => (h4 fun s Fs' hs q' => hn s Fs' hs (Or.inr q')).below hb, fun s Fs' hs q' => ?_⟩
      rcases q' with rfl | q'
      · rw [hp] at hs
        cases hs
        rcases hk with ⟨F', e, _⟩ | ⟨F', e, _⟩ | e <;> cases e
      · exact (h5 s Fs' hs q').below hb
  box := fun k G t Fs hm => by
    obtain ⟨h4, h5⟩ := h.box k G t Fs hm
    refine ⟨fun hn => (h4 fun s Fs' hs q' => hn s Fs' hs (Or.inr q')).below hb, fun s Fs' hs q' => ?_⟩
    rcases q' with rfl | q'
    · rw [hp] at hs
      cases hs
      rcases hk with ⟨F', e, _⟩ | ⟨F', e, _⟩ | e <;> cases e
    · exact (h5 s Fs' hs q').below hb
  inj := fun x y tx Fx ty Fy hx hy qx qy e => by
    have nx : x ≠ i := fun e => by
      subst e
      rw [hp] at hx
      cases hx
      rcases hk with ⟨F', e, _⟩ | ⟨F', e, _⟩ | e <;> cases e
    have ny : y ≠ i := fun e => by
      subst e
      rw [hp] at hy
      cases hy
      rcases hk with ⟨F', e, _⟩ | ⟨F', e, _⟩ | e <;> cases e
    rw [updOp_ne _ _ nx, updOp_ne _ _ ny] at e
    exact h.inj x y tx Fx ty Fy hx hy (qx.resolve_left nx) (qy.resolve_left ny) e
theorem RInv.alloc {d : Nat → Prop} {τ : Nat → Value} {w w' : World} {i : Nat} {o : Oper} {t : TypeId} {Fs : Fact} (h : RInv w0 bx a0 wr os pl d τ w) (ho : os[i]? = some o) (hd : ∀ e ∈ o.after, Region.binds .any e = true → d e.on)
    (hf : ∀ s Fs', pl[s]? = some (.fill i Fs') → ¬ d s) (hi : ¬ d i)
    (hp : pl[i]? = some (.alloc t Fs)) (hb : Below w.heap.size w w') (hB : BoxIs w' w.heap.size t Fs) : RInv w0 bx a0 wr os pl (fun j => j = i ∨ d j) (updOp τ i (.pointer (some ⟨w.heap.size, 0, none⟩))) w' where
  bel := h.bel.trans (hb.mono h.bel.size)
  gro := h.gro.trans (Grows.of hb)
  dwn := fun j o' hj q e he hbi => by
    rcases q with rfl | q
    · rw [ho] at hj
      cases hj
      exact Or.inr (hd e he hbi)
    · exact Or.inr (h.dwn j o' hj q e he hbi)
  und := fun j o' t hj ht q => by
    rw [updOp_ne _ _ (fun e => q (Or.inl e))]
    exact h.und j o' t hj ht (fun q' => q (Or.inr q'))
  pur := fun j F hj q => by
    by_cases e : j = i
    · subst e
      rw [hp] at hj
      cases hj
    · rw [updOp_ne _ _ e]
      exact F.st (Grows.of hb) (h.pur j F hj (q.resolve_left e))
  sof := fun j F hj q hs => by
    by_cases e : j = i
    · subst e
      rw [hp] at hj
      cases hj
    · rw [updOp_ne _ _ e]
      exact F.st hb (h.sof j F hj (q.resolve_left e) fun s p h1 h2 h3 => hs s p h1 h2 (Or.inr h3))
  alo := fun j t' Fs' hj q => by
    by_cases e : j = i
    · subst e
      rw [hp] at hj
      cases hj
      rw [updOp_at]
      refine ⟨_, rfl, h.gro.size, hB.lt, fun _ => hB, fun s Fs' hs q' => ?_⟩
      rcases q' with rfl | q'
      · rw [hp] at hs; cases hs
      · exact absurd q' (hf s Fs' hs)
    · rw [updOp_ne _ _ e]
      obtain ⟨G, h1, h2, h3, h4, h5⟩ := h.alo j t' Fs' hj (q.resolve_left e)
      refine ⟨G, h1, h2, Nat.lt_of_lt_of_le h3 hb.size, fun hn => (h4 fun s Fs' hs q' => hn s Fs' hs (Or.inr q')).below hb, fun s Fs' hs q' => ?_⟩
      rcases q' with rfl | q'
      · rw [hp] at hs; cases hs
      · exact (h5 s Fs' hs q').below hb
  box := fun k G t Fs hm => by
    obtain ⟨h4, h5⟩ := h.box k G t Fs hm
    refine ⟨fun hn => (h4 fun s Fs' hs q' => hn s Fs' hs (Or.inr q')).below hb, fun s Fs' hs q' => ?_⟩
    rcases q' with rfl | q'
    · rw [hp] at hs; cases hs
    · exact (h5 s Fs' hs q').below hb
  inj := fun x y tx Fx ty Fy hx hy qx qy e => by
    by_cases ex : x = i
    · by_cases ey : y = i
      · rw [ex, ey]
      · rw [ex, updOp_at, updOp_ne _ _ ey] at e
        obtain ⟨G, h1, _, h3, _⟩ := h.alo y ty Fy hy (qy.resolve_left ey)
        rw [h1] at e
        simp at e
        all_goals omega
    · by_cases ey : y = i
      · rw [ey, updOp_at, updOp_ne _ _ ex] at e
        obtain ⟨G, h1, _, h3, _⟩ := h.alo x tx Fx hx (qx.resolve_left ex)
        rw [h1] at e
        simp at e
        all_goals omega
      · rw [updOp_ne _ _ ex, updOp_ne _ _ ey] at e
        exact h.inj x y tx Fx ty Fy hx hy (qx.resolve_left ex) (qy.resolve_left ey) e
theorem RInv.fill {d : Nat → Prop} {τ : Nat → Value} {w w' : World} {i a G : Nat} {o : Oper} {t : TypeId} {Fs Fs0 : Fact} {v : Value} (h : RInv w0 bx a0 wr os pl d τ w) (has : AS w0 n tm bx a0 wr) (ho : os[i]? = some o) (hd : ∀ e ∈ o.after, Region.binds .any e = true → d e.on)
    (hp : pl[i]? = some (.fill a Fs)) (ha : pl[a]? = some (.alloc t Fs0)) (hda : d a) (hG : τ a = .pointer (some ⟨G, 0, none⟩)) (hone : ∀ s Fs', pl[s]? = some (.fill a Fs') → s = i)
    (hs : Save G w w') (hbx : Boxed w G) (hB : BoxIs w' G t Fs) : RInv w0 bx a0 wr os pl (fun j => j = i ∨ d j) (updOp τ i v) w' := by
  obtain ⟨G', e', hge, hlt, _, _⟩ := h.alo a t Fs0 ha hda
  rw [hG] at e'
  cases e'
  have hgr := Grows.save hs hbx
  have hne : i ≠ a := fun e => by subst e; rw [hp] at ha; cases ha
  exact {
    bel := h.bel.trans (hs.below (Nat.le_trans has.bel.size hge) h.bel.size)
    gro := h.gro.trans hgr
    dwn := fun j o' hj q e he hbi => by
      rcases q with rfl | q
      · rw [ho] at hj
        cases hj
        exact Or.inr (hd e he hbi)
      · exact Or.inr (h.dwn j o' hj q e he hbi)
    und := fun j o' t hj ht q => by
      rw [updOp_ne _ _ (fun e => q (Or.inl e))]
      exact h.und j o' t hj ht (fun q' => q (Or.inr q'))
    pur := fun j F hj q => by
      by_cases e : j = i
      · subst e
        rw [hp] at hj
        cases hj
      · rw [updOp_ne _ _ e]
        exact F.st hgr (h.pur j F hj (q.resolve_left e))
    sof := fun j F hj q hs => absurd (Or.inl rfl) (hs i _ hp rfl)
    alo := fun j t' Fs' hj q => by
      have e : j ≠ i := fun e => by subst e; rw [hp] at hj; cases hj
      rw [updOp_ne _ _ e]
      obtain ⟨G', h1, h2, h3, h4, h5⟩ := h.alo j t' Fs' hj (q.resolve_left e)
      refine ⟨G', h1, h2, Nat.lt_of_lt_of_le h3 hs.size, fun hn => ?_, fun s Fs'' hs' q' => ?_⟩
      · by_cases hja : j = a
        · subst hja
          exact absurd (Or.inl rfl) (hn i Fs hp)
        · have hGG : G' ≠ G := fun e => hja (h.inj j a _ _ _ _ hj ha (q.resolve_left ‹_›) hda (by rw [h1, hG, e]))
          exact (h4 fun s Fs' hs q' => hn s Fs' hs (Or.inr q')).save hs hbx hGG
      · by_cases hja : j = a
        · subst hja
          have := hone s Fs'' hs'
          subst this
          rw [hp] at hs'
          cases hs'
          rw [ha] at hj
          cases hj
          rw [hG] at h1
          cases h1
          exact hB
        · have hGG : G' ≠ G := fun e => hja (h.inj j a _ _ _ _ hj ha (q.resolve_left ‹_›) hda (by rw [h1, hG, e]))
          rcases q' with rfl | q'
          · rw [hp] at hs'
            cases hs'
            exact absurd rfl hja
          · exact (h5 s Fs'' hs' q').save hs hbx hGG
    box := fun k G' t' Fs' hm => by
      obtain ⟨h4, h5⟩ := h.box k G' t' Fs' hm
      have hGG : G' ≠ G := fun e => by
        have := (has.box k G' t' Fs' hm).2.lt
        omega
      refine ⟨fun hn => (h4 fun s Fs' hs q' => hn s Fs' hs (Or.inr q')).save hs hbx hGG, fun s Fs' hs' q' => ?_⟩
      rcases q' with rfl | q'
      · rw [hp] at hs'; cases hs'
      · exact (h5 s Fs' hs' q').save hs hbx hGG
    inj := fun x y tx Fx ty Fy hx hy qx qy e => by
      have nx : x ≠ i := fun e => by subst e; rw [hp] at hx; cases hx
      have ny : y ≠ i := fun e => by subst e; rw [hp] at hy; cases hy
      rw [updOp_ne _ _ nx, updOp_ne _ _ ny] at e
      exact h.inj x y tx Fx ty Fy hx hy (qx.resolve_left nx) (qy.resolve_left ny) e }
theorem nodup_idx {bx : List (Nat × TypeId × Fact)} (h : (bx.map (·.1)).Nodup) {i j G : Nat} {t t' : TypeId} {Fs Fs' : Fact} (h1 : bx[i]? = some (G, t, Fs)) (h2 : bx[j]? = some (G, t', Fs')) : i = j := by
  have hi : i < (bx.map (·.1)).length := by
    rw [List.length_map]
    exact (List.getElem?_eq_some_iff.1 h1).1
  exact (List.getElem?_inj hi h).1 (by rw [List.getElem?_map, List.getElem?_map, h1, h2]; rfl)
theorem RInv.over {d : Nat → Prop} {τ : Nat → Value} {w w' : World} {i k G : Nat} {o : Oper} {t : TypeId} {Fs Fs0 : Fact} {v : Value} (h : RInv w0 bx a0 wr os pl d τ w) (has : AS w0 n tm bx a0 wr) (ho : os[i]? = some o) (hd : ∀ e ∈ o.after, Region.binds .any e = true → d e.on)
    (hp : pl[i]? = some (.over k Fs)) (ha : bx[k]? = some (G, t, Fs0)) (hone : ∀ s Fs', pl[s]? = some (.over k Fs') → s = i)
    (hs : Save G w w') (hbx : Boxed w G) (hB : BoxIs w' G t Fs) : RInv w0 bx a0 wr os pl (fun j => j = i ∨ d j) (updOp τ i v) w' := by
  have hgr := Grows.save hs hbx
  have hold := has.box k G t Fs0 ha
  exact {
    bel := h.bel.trans (hs.below hold.1 h.bel.size)
    gro := h.gro.trans hgr
    dwn := fun j o' hj q e he hbi => by
      rcases q with rfl | q
      · rw [ho] at hj
        cases hj
        exact Or.inr (hd e he hbi)
      · exact Or.inr (h.dwn j o' hj q e he hbi)
    und := fun j o' t hj ht q => by
      rw [updOp_ne _ _ (fun e => q (Or.inl e))]
      exact h.und j o' t hj ht (fun q' => q (Or.inr q'))
    pur := fun j F hj q => by
      by_cases e : j = i
      · subst e
        rw [hp] at hj
        cases hj
      · rw [updOp_ne _ _ e]
        exact F.st hgr (h.pur j F hj (q.resolve_left e))
    sof := fun j F hj q hs => absurd (Or.inl rfl) (hs i _ hp rfl)
    alo := fun j t' Fs' hj q => by
      have e : j ≠ i := fun e => by subst e; rw [hp] at hj; cases hj
      rw [updOp_ne _ _ e]
      obtain ⟨G', h1, h2, h3, h4, h5⟩ := h.alo j t' Fs' hj (q.resolve_left e)
      have hGG : G' ≠ G := fun e => by have := hold.2.lt; omega
      refine ⟨G', h1, h2, Nat.lt_of_lt_of_le h3 hs.size, fun hn => (h4 fun s Fs' hs q' => hn s Fs' hs (Or.inr q')).save hs hbx hGG, fun s Fs'' hs' q' => ?_⟩
      rcases q' with rfl | q'
      · rw [hp] at hs'; cases hs'
      · exact (h5 s Fs'' hs' q').save hs hbx hGG
    box := fun k' G' t' Fs' hm => by
      obtain ⟨h4, h5⟩ := h.box k' G' t' Fs' hm
      by_cases hGG : G' = G
      · subst hGG
        obtain rfl := nodup_idx has.dis ha hm
        rw [ha] at hm
        cases hm
        refine ⟨fun hn => absurd (Or.inl rfl) (hn i Fs hp), fun s Fs' hs' q' => ?_⟩
        have := hone s Fs' hs'
        subst this
        rw [hp] at hs'
        cases hs'
        exact hB
      · refine ⟨fun hn => (h4 fun s Fs' hs q' => hn s Fs' hs (Or.inr q')).save hs hbx hGG, fun s Fs' hs' q' => ?_⟩
        rcases q' with rfl | q'
        · rw [hp] at hs'
          cases hs'
          rw [ha] at hm
          cases hm
          exact absurd rfl hGG
        · exact (h5 s Fs' hs' q').save hs hbx hGG
    inj := fun x y tx Fx ty Fy hx hy qx qy e => by
      have nx : x ≠ i := fun e => by subst e; rw [hp] at hx; cases hx
      have ny : y ≠ i := fun e => by subst e; rw [hp] at hy; cases hy
      rw [updOp_ne _ _ nx, updOp_ne _ _ ny] at e
      exact h.inj x y tx Fx ty Fy hx hy (qx.resolve_left nx) (qy.resolve_left ny) e }
end
end Go.Proofs.YtgajdmadbdbabaaGreatDoor
/- AWB -/
namespace Cx
open Go
theorem putAll_size (τ : Nat → Value) : ∀ (os : List Oper) (a : Act) (i : Nat), (putAll a τ i os).tmps.size = a.tmps.size
  | [], _, _ => rfl
  | o :: os, a, i => by
    show (putAll (a.put o.dst (τ i)) τ (i + 1) os).tmps.size = _
    rw [putAll_size τ os]
    cases o.dst <;> simp [Act.put]
theorem putAll_defers (τ : Nat → Value) : ∀ (os : List Oper) (a : Act) (i : Nat), (putAll a τ i os).defers = a.defers
  | [], _, _ => rfl
  | o :: os, a, i => by
    show (putAll (a.put o.dst (τ i)) τ (i + 1) os).defers = _
    rw [putAll_defers τ os]
    cases o.dst <;> simp [Act.put]
theorem put_at (a : Act) {t : Tmp} (v : Value) (h : t < a.tmps.size) : (a.put (some t) v).tmps.getD t undef = v := by
  simp [Act.put, Array.getD, h]
theorem put_off (a : Act) {d : Option Tmp} {t : Tmp} (v : Value) (h : d ≠ some t) : (a.put d v).tmps.getD t undef = a.tmps.getD t undef := by
  cases d with
  | none => rfl
  | some d =>
    have hne : d ≠ t := fun e => h (by rw [e])
    show (a.tmps.setIfInBounds d v).getD t undef = _
    rw [Array.getD_eq_getD_getElem?, Array.getD_eq_getD_getElem?, Array.getElem?_setIfInBounds_ne hne]
theorem putAll_off (τ : Nat → Value) {t : Tmp} : ∀ (os : List Oper) (a : Act) (i : Nat), t ∉ os.filterMap (·.dst) → (putAll a τ i os).tmps.getD t undef = a.tmps.getD t undef
  | [], _, _, _ => rfl
  | o :: os, a, i, h => by
    show (putAll (a.put o.dst (τ i)) τ (i + 1) os).tmps.getD t undef = _
    have h1 : o.dst ≠ some t := fun e => h (by rw [List.filterMap_cons_some e]; exact List.mem_cons_self)
    have h2 : t ∉ os.filterMap (·.dst) := fun q => h (by
      cases ho : o.dst with
      | none => rw [List.filterMap_cons_none ho]; exact q
      | some y => rw [List.filterMap_cons_some ho]; exact List.mem_cons_of_mem _ q)
    rw [putAll_off τ os _ _ h2, put_off _ _ h1]
theorem putAll_at (τ : Nat → Value) {t : Tmp} : ∀ (os : List Oper) (a : Act) (i j : Nat), (os.filterMap (·.dst)).Nodup → (os[j]?).bind (·.dst) = some t → t < a.tmps.size → (putAll a τ i os).tmps.getD t undef = τ (i + j)
  | [], _, _, _, _, h, _ => by simp at h
  | o :: os, a, i, 0, hn, h, hlt => by
    show (putAll (a.put o.dst (τ i)) τ (i + 1) os).tmps.getD t undef = _
    have e : o.dst = some t := by simpa using h
    have h2 : t ∉ os.filterMap (·.dst) := by
      rw [List.filterMap_cons_some e] at hn
      exact (List.nodup_cons.1 hn).1
    rw [putAll_off τ os _ _ h2, e, put_at _ _ hlt]
    rfl
  | o :: os, a, i, j + 1, hn, h, hlt => by
    show (putAll (a.put o.dst (τ i)) τ (i + 1) os).tmps.getD t undef = _
    have h' : (os[j]?).bind (·.dst) = some t := by simpa using h
    have hn' : (os.filterMap (·.dst)).Nodup := by
      cases hp : o.dst with
      | none => rwa [List.filterMap_cons_none hp] at hn
      | some y => rw [List.filterMap_cons_some hp] at hn; exact (List.nodup_cons.1 hn).2
    rw [putAll_at τ os _ (i + 1) j hn' h' (by cases o.dst <;> simpa [Act.put] using hlt)]
    congr 1
    omega
theorem wpOps_inv {P : Program} {Q : Exit → Act → World → Prop} {os : List Oper} {a0 : Act} {Inv : (Nat → Prop) → (Nat → Value) → World → Prop}
    (hn : (os.filterMap (·.dst)).Nodup) (ht : topoOps 0 os = true) (hs : OpSteps P Q os a0 Inv 0 os)
    (hd : ∀ d τ w, (∀ j, j < os.length → d j) → Inv d τ w → Q .normal (putAll a0 τ 0 os) w) :
    ∀ (m k : Nat) (τ : Nat → Value) (w : World), k + m = os.length → Inv (fun j => j < k) τ w → wpOps P os.toArray Q (List.range' k m) (putAll a0 τ 0 os) w
  | 0, k, τ, w, hk, hI => hd _ τ w (fun j hj => by omega) hI
  | m + 1, k, τ, w, hk, hI => by
    have hlt : k < os.length := by omega
    have ho : os[k]? = some os[k] := by simp [hlt]
    have ho' : os.toArray[k]? = some os[k] := by simp [hlt]
    rw [List.range'_succ]
    simp only [wpOps, ho']
    have hst := OpSteps.get hs ho
    rw [Nat.zero_add] at hst
    have key : ∀ v w', Inv (fun j => j = k ∨ j < k) (updOp τ k v) w' → wpOps P os.toArray Q (List.range' (k + 1) m) ((putAll a0 τ 0 os).put (os[k]).dst v) w' := fun v w' h => by
      rw [putAll_upd τ v os a0 0 k _ hn ho, Nat.zero_add]
      refine wpOps_inv hn ht hs hd m (k + 1) _ w' (by omega) ?_
      have e : (fun j => j < k + 1) = (fun j => j = k ∨ j < k) := by
        funext j
        apply propext
        omega
      rw [e]
      exact h
    have h := hst (fun j => j < k) τ w (fun e he hb => by have := topoOps.get ht ho e he hb; omega) (Nat.lt_irrefl k) hI _ key
    split
    · rename_i hw
      rw [if_pos hw] at h
      exact Or.inl h
    · rename_i hw
      rw [if_neg hw] at h
      exact h
theorem region_any {P : Program} {Q : Exit → Act → World → Prop} {os : List Oper} {a0 : Act} {w0 : World} {id : Nat} {dr : Bool} (Inv : (Nat → Prop) → (Nat → Value) → World → Prop)
    (hm : P.follows .mixedOrders = true) (hn : (os.filterMap (·.dst)).Nodup) (ht : topoOps 0 os = true)
    (h0 : Inv (fun _ => False) (beforeOps a0 os) w0.drew) (h0' : Inv (fun _ => False) (beforeOps a0 os) w0) (hs : OpSteps P Q os a0 Inv 0 os)
    (hd : ∀ d τ w, (∀ j, j < os.length → d j) → Inv d τ w → Q .normal (putAll a0 τ 0 os) w) :
    (Code.region id os.toArray dr).wp P Q a0 w0 := by
  have hbefore := putAll_before a0 os os 0 (fun k => by rw [Nat.zero_add])
  cases dr with
  | true =>
    refine wp_region_any hm ?_
    have := wpAny_inv hn ht hs hd os.length (Array.replicate os.length false) (beforeOps a0 os) w0.drew (by simp) (by
      have := List.countP_le_length (p := fun i => !(Array.replicate os.length false).getD i true) (l := List.range os.length)
      simpa using this) (by
      have e : (fun j => (Array.replicate os.length false).getD j false = true) = (fun _ : Nat => False) := by
        funext j
        apply propext
        by_cases h : j < os.length <;> simp [Array.getD, h]
      rw [e]
      exact h0)
    rw [hbefore] at this
    rw [show os.toArray.size = os.length by simp]
    exact this
  | false =>
    refine wp_region ?_
    have := wpOps_inv hn ht hs hd os.length 0 (beforeOps a0 os) w0 (by omega) (by
      have e : (fun j : Nat => j < 0) = (fun _ : Nat => False) := by
        funext j
        apply propext
        simp
      rw [e]
      exact h0')
    rw [hbefore] at this
    rw [show os.toArray.size = os.length by simp, List.range_eq_range']
    exact this
end Cx
namespace Go.Proofs.YtgajdmadbdbabaaGreatDoor
open Go.RowKit Cx
def addrOf : Value → Nat
  | .pointer (some p) => p.block
  | _ => 0
def fillOf (a : Nat) : List Plan → Option Fact
  | [] => none
  | (Sum.inr (Sum.inr (Sum.inr (Sum.inl (b, Fs))))) :: ps => if Nat.beq a b = true then some Fs else fillOf a ps
  | (Sum.inl _) :: ps => fillOf a ps
  | (Sum.inr (Sum.inl _)) :: ps => fillOf a ps
  | (Sum.inr (Sum.inr (Sum.inl (_, _)))) :: ps => fillOf a ps
  | (Sum.inr (Sum.inr (Sum.inr (Sum.inr (Sum.inl (_, _)))))) :: ps => fillOf a ps
  | (Sum.inr (Sum.inr (Sum.inr (Sum.inr (Sum.inr _))))) :: ps => fillOf a ps
def overOf (k : Nat) : List Plan → Option Fact
  | [] => none
  | (Sum.inr (Sum.inr (Sum.inr (Sum.inr (Sum.inl (b, Fs)))))) :: ps => if Nat.beq k b = true then some Fs else overOf k ps
  | (Sum.inl _) :: ps => overOf k ps
  | (Sum.inr (Sum.inl _)) :: ps => overOf k ps
  | (Sum.inr (Sum.inr (Sum.inl (_, _)))) :: ps => overOf k ps
  | (Sum.inr (Sum.inr (Sum.inr (Sum.inl (_, _))))) :: ps => overOf k ps
  | (Sum.inr (Sum.inr (Sum.inr (Sum.inr (Sum.inr _))))) :: ps => overOf k ps
theorem fillOf_some {a : Nat} : ∀ {pl : List Plan} {Fs : Fact}, fillOf a pl = some Fs → ∃ s : Nat, pl[s]? = some (Plan.fill a Fs)
  | [], _, h => by cases h
  | (Sum.inr (Sum.inr (Sum.inr (Sum.inl (b, Fs'))))) :: ps, Fs, h => by
    unfold fillOf at h
    split at h
    · rename_i e
      cases h
      exact ⟨0, by rw [Nat.eq_of_beq_eq_true e]; rfl⟩
    · obtain ⟨s, hs⟩ := fillOf_some h
      exact ⟨s + 1, by simpa using hs⟩
  | (Sum.inl _) :: ps, _, h => by obtain ⟨s, hs⟩ := fillOf_some (pl := ps) h; exact ⟨s + 1, by simpa using hs⟩
  | (Sum.inr (Sum.inl _)) :: ps, _, h => by obtain ⟨s, hs⟩ := fillOf_some (pl := ps) h; exact ⟨s + 1, by simpa using hs⟩
  | (Sum.inr (Sum.inr (Sum.inl (_, _)))) :: ps, _, h => by obtain ⟨s, hs⟩ := fillOf_some (pl := ps) h; exact ⟨s + 1, by simpa using hs⟩
  | (Sum.inr (Sum.inr (Sum.inr (Sum.inr (Sum.inl (_, _)))))) :: ps, _, h => by obtain ⟨s, hs⟩ := fillOf_some (pl := ps) h; exact ⟨s + 1, by simpa using hs⟩
  | (Sum.inr (Sum.inr (Sum.inr (Sum.inr (Sum.inr _))))) :: ps, _, h => by obtain ⟨s, hs⟩ := fillOf_some (pl := ps) h; exact ⟨s + 1, by simpa using hs⟩
theorem fillOf_none {a : Nat} : ∀ {pl : List Plan}, fillOf a pl = none → ∀ (s : Nat) (Fs : Fact), pl[s]? ≠ some (Plan.fill a Fs)
  | [], _, s, Fs, h => by simp at h
  | (Sum.inr (Sum.inr (Sum.inr (Sum.inl (b, Fs'))))) :: ps, h, s, Fs, hs => by
    unfold fillOf at h
    split at h
    · cases h
    · rename_i e
      cases s with
      | zero =>
        simp at hs
        exact e (by rw [hs.1]; exact Nat.beq_refl a)
      | succ s => exact fillOf_none h s Fs (by simpa using hs)
  | (Sum.inl _) :: ps, h, s, Fs, hs => by
    cases s with
    | zero => simp at hs
    | succ s => exact fillOf_none (pl := ps) h s Fs (by simpa using hs)
  | (Sum.inr (Sum.inl _)) :: ps, h, s, Fs, hs => by
    cases s with
    | zero => simp at hs
    | succ s => exact fillOf_none (pl := ps) h s Fs (by simpa using hs)
  | (Sum.inr (Sum.inr (Sum.inl (_, _)))) :: ps, h, s, Fs, hs => by
    cases s with
    | zero => simp at hs
    | succ s => exact fillOf_none (pl := ps) h s Fs (by simpa using hs)
  | (Sum.inr (Sum.inr (Sum.inr (Sum.inr (Sum.inl (_, _)))))) :: ps, h, s, Fs, hs => by
    cases s with
    | zero => simp at hs
    | succ s => exact fillOf_none (pl := ps) h s Fs (by simpa using hs)
  | (Sum.inr (Sum.inr (Sum.inr (Sum.inr (Sum.inr _))))) :: ps, h, s, Fs, hs => by
    cases s with
    | zero => simp at hs
    | succ s => exact fillOf_none (pl := ps) h s Fs (by simpa using hs)
theorem overOf_some {a : Nat} : ∀ {pl : List Plan} {Fs : Fact}, overOf a pl = some Fs → ∃ s : Nat, pl[s]? = some (Plan.over a Fs)
  | [], _, h => by cases h
  | (Sum.inr (Sum.inr (Sum.inr (Sum.inr (Sum.inl (b, Fs')))))) :: ps, Fs, h => by
    unfold overOf at h
    split at h
    · rename_i e
      cases h
      exact ⟨0, by rw [Nat.eq_of_beq_eq_true e]; rfl⟩
    · obtain ⟨s, hs⟩ := overOf_some h
      exact ⟨s + 1, by simpa using hs⟩
  | (Sum.inl _) :: ps, _, h => by obtain ⟨s, hs⟩ := overOf_some (pl := ps) h; exact ⟨s + 1, by simpa using hs⟩
  | (Sum.inr (Sum.inl _)) :: ps, _, h => by obtain ⟨s, hs⟩ := overOf_some (pl := ps) h; exact ⟨s + 1, by simpa using hs⟩
  | (Sum.inr (Sum.inr (Sum.inl (_, _)))) :: ps, _, h => by obtain ⟨s, hs⟩ := overOf_some (pl := ps) h; exact ⟨s + 1, by simpa using hs⟩
  | (Sum.inr (Sum.inr (Sum.inr (Sum.inl (_, _))))) :: ps, _, h => by obtain ⟨s, hs⟩ := overOf_some (pl := ps) h; exact ⟨s + 1, by simpa using hs⟩
  | (Sum.inr (Sum.inr (Sum.inr (Sum.inr (Sum.inr _))))) :: ps, _, h => by obtain ⟨s, hs⟩ := overOf_some (pl := ps) h; exact ⟨s + 1, by simpa using hs⟩
theorem overOf_none {a : Nat} : ∀ {pl : List Plan}, overOf a pl = none → ∀ (s : Nat) (Fs : Fact), pl[s]? ≠ some (Plan.over a Fs)
  | [], _, s, Fs, h => by simp at h
  | (Sum.inr (Sum.inr (Sum.inr (Sum.inr (Sum.inl (b, Fs')))))) :: ps, h, s, Fs, hs => by
    unfold overOf at h
    split at h
    · cases h
    · rename_i e
      cases s with
      | zero =>
        simp at hs
        exact e (by rw [hs.1]; exact Nat.beq_refl a)
      | succ s => exact overOf_none h s Fs (by simpa using hs)
  | (Sum.inl _) :: ps, h, s, Fs, hs => by
    cases s with
    | zero => simp at hs
    | succ s => exact overOf_none (pl := ps) h s Fs (by simpa using hs)
  | (Sum.inr (Sum.inl _)) :: ps, h, s, Fs, hs => by
    cases s with
    | zero => simp at hs
    | succ s => exact overOf_none (pl := ps) h s Fs (by simpa using hs)
  | (Sum.inr (Sum.inr (Sum.inl (_, _)))) :: ps, h, s, Fs, hs => by
    cases s with
    | zero => simp at hs
    | succ s => exact overOf_none (pl := ps) h s Fs (by simpa using hs)
  | (Sum.inr (Sum.inr (Sum.inr (Sum.inl (_, _))))) :: ps, h, s, Fs, hs => by
    cases s with
    | zero => simp at hs
    | succ s => exact overOf_none (pl := ps) h s Fs (by simpa using hs)
  | (Sum.inr (Sum.inr (Sum.inr (Sum.inr (Sum.inr _))))) :: ps, h, s, Fs, hs => by
    cases s with
    | zero => simp at hs
    | succ s => exact overOf_none (pl := ps) h s Fs (by simpa using hs)
def tmAfter (γ : Nat → Nat) : Nat → List Oper → List Plan → List (Nat × Fact) → List (Nat × Fact)
  | i, o :: os, p :: ps, tm =>
    tmAfter γ (i + 1) os ps (match o.dst with
      | none => tm
      | some t => match p with
        | Sum.inl F => (t, F) :: tm.filter (fun x => !Nat.beq x.1 t)
        | Sum.inr (Sum.inr (Sum.inl _)) => (t, Jus (.pointer (some ⟨γ i, 0, none⟩))) :: tm.filter (fun x => !Nat.beq x.1 t)
        | Sum.inr (Sum.inl _) => tm.filter (fun x => !Nat.beq x.1 t)
        | Sum.inr (Sum.inr (Sum.inr _)) => tm.filter (fun x => !Nat.beq x.1 t))
  | _, _, _, tm => tm
def oversIn (pl : List Plan) : Nat → List (Nat × TypeId × Fact) → List (Nat × TypeId × Fact)
  | _, [] => []
  | k, b :: bs => (b.1, b.2.1, match overOf k pl with | some Fs => Fs | none => b.2.2) :: oversIn pl (k + 1) bs
def newIn (γ : Nat → Nat) (pl : List Plan) : Nat → List Plan → List (Nat × TypeId × Fact)
  | _, [] => []
  | i, (Sum.inr (Sum.inr (Sum.inl (t, Fs)))) :: ps => (γ i, t, match fillOf i pl with | some Fs' => Fs' | none => Fs) :: newIn γ pl (i + 1) ps
  | i, (Sum.inl _) :: ps => newIn γ pl (i + 1) ps
  | i, (Sum.inr (Sum.inl _)) :: ps => newIn γ pl (i + 1) ps
  | i, (Sum.inr (Sum.inr (Sum.inr (Sum.inl (_, _))))) :: ps => newIn γ pl (i + 1) ps
  | i, (Sum.inr (Sum.inr (Sum.inr (Sum.inr (Sum.inl (_, _)))))) :: ps => newIn γ pl (i + 1) ps
  | i, (Sum.inr (Sum.inr (Sum.inr (Sum.inr (Sum.inr _))))) :: ps => newIn γ pl (i + 1) ps
theorem tmAfter_ok {τ : Nat → Value} {w : World} {γ : Nat → Nat} : ∀ (os : List Oper) (pl : List Plan) (i : Nat) (a : Act) (tm : List (Nat × Fact)),
    (∀ o ∈ os, ∀ t, o.dst = some t → t < a.tmps.size) → (∀ t F, (t, F) ∈ tm → F.on (a.tmps.getD t undef) w) →
    (∀ k F, pl[k]? = some (.pure F) → k < os.length → F.on (τ (i + k)) w) → (∀ k t Fs, pl[k]? = some (.alloc t Fs) → k < os.length → τ (i + k) = .pointer (some ⟨γ (i + k), 0, none⟩)) →
    os.length ≤ pl.length →
    ∀ t F, (t, F) ∈ tmAfter γ i os pl tm → F.on ((putAll a τ i os).tmps.getD t undef) w
  | [], pl, i, a, tm, _, htm, _, _, _, t, F, h => by
    cases pl <;> exact htm t F h
  | o :: os, [], i, a, tm, _, _, _, _, hl, t, F, h => by simp at hl
  | o :: os, p :: ps, i, a, tm, hb, htm, hp, ha, hl, t, F, h => by
    show F.on ((putAll (a.put o.dst (τ i)) τ (i + 1) os).tmps.getD t undef) w
    refine tmAfter_ok os ps (i + 1) (a.put o.dst (τ i)) _ ?_ ?_ ?_ ?_ (by simpa using hl) t F h
    · intro o' ho' t' ht'
      have := hb o' (List.mem_cons_of_mem _ ho') t' ht'
      cases o.dst <;> simpa [Act.put] using this
    · intro t' F' hm
      have old : ∀ d, o.dst = some d → (t', F') ∈ tm.filter (fun x => !Nat.beq x.1 d) → F'.on ((a.put o.dst (τ i)).tmps.getD t' undef) w := fun d hd hm => by
        rw [List.mem_filter] at hm
        have hne : t' ≠ d := fun e => by
          have := hm.2
          rw [e] at this
          simp at this
        rw [put_off _ _ (by rw [hd]; intro e; cases e; exact hne rfl)]
        exact htm t' F' hm.1
      cases hd : o.dst with
      | none =>
        rw [hd] at hm
        exact htm t' F' hm
      | some d =>
        rw [hd] at hm old
        have hlt := hb o List.mem_cons_self d hd
        rcases p with F0 | S0 | ⟨t0, Fs0⟩ | q0
        · rcases List.mem_cons.1 hm with e | hm
          · cases e
            rw [put_at _ _ hlt]
            exact hp 0 F' rfl (by simp)
          · exact old d rfl hm
        · exact old d rfl hm
        · rcases List.mem_cons.1 hm with e | hm
          · cases e
            rw [put_at _ _ hlt]
            exact ha 0 t0 Fs0 rfl (by simp)
          · exact old d rfl hm
        · exact old d rfl hm
    · intro k F' hk hlt
      have := hp (k + 1) F' (by simpa using hk) (by simpa using hlt)
      rwa [show i + (k + 1) = i + 1 + k by omega] at this
    · intro k t' Fs' hk hlt
      have := ha (k + 1) t' Fs' (by simpa using hk) (by simpa using hlt)
      rwa [show i + (k + 1) = i + 1 + k by omega] at this
theorem oversIn_get {pl : List Plan} : ∀ {bx : List (Nat × TypeId × Fact)} {k0 k G : Nat} {t : TypeId} {Fs : Fact}, (oversIn pl k0 bx)[k]? = some (G, t, Fs) → ∃ Fs0, bx[k]? = some (G, t, Fs0) ∧ Fs = (match overOf (k0 + k) pl with | some Fs' => Fs' | none => Fs0)
  | [], _, _, _, _, _, h => by simp [oversIn] at h
  | b :: bs, k0, 0, G, t, Fs, h => by
    simp only [oversIn, List.getElem?_cons_zero, Option.some.injEq, Prod.mk.injEq] at h
    obtain ⟨rfl, rfl, rfl⟩ := h
    exact ⟨b.2.2, rfl, rfl⟩
  | b :: bs, k0, k + 1, G, t, Fs, h => by
    obtain ⟨Fs0, h1, h2⟩ := oversIn_get (bx := bs) (k0 := k0 + 1) (k := k) (by simpa [oversIn] using h)
    exact ⟨Fs0, by simpa using h1, by rw [h2, show k0 + 1 + k = k0 + (k + 1) by omega]⟩
theorem oversIn_map {pl : List Plan} : ∀ {bx : List (Nat × TypeId × Fact)} {k0 : Nat}, (oversIn pl k0 bx).map (·.1) = bx.map (·.1)
  | [], _ => rfl
  | b :: bs, k0 => by simp [oversIn, oversIn_map (bx := bs)]
theorem newIn_mem {γ : Nat → Nat} {pl : List Plan} : ∀ {ps : List Plan} {i G : Nat} {t : TypeId} {Fs : Fact}, (G, t, Fs) ∈ newIn γ pl i ps → ∃ k Fs0, ps[k]? = some (.alloc t Fs0) ∧ G = γ (i + k) ∧ Fs = (match fillOf (i + k) pl with | some Fs' => Fs' | none => Fs0)
  | [], _, _, _, _, h => by cases h
  | (Sum.inr (Sum.inr (Sum.inl (t0, Fs0)))) :: ps, i, G, t, Fs, h => by
    rcases List.mem_cons.1 h with e | h
    · cases e
      exact ⟨0, Fs0, rfl, rfl, rfl⟩
    · obtain ⟨k, F0, h1, h2, h3⟩ := newIn_mem (ps := ps) h
      exact ⟨k + 1, F0, by simpa using h1, by rw [h2]; congr 1; omega, by rw [h3, show i + 1 + k = i + (k + 1) by omega]⟩
  | (Sum.inl _) :: ps, i, G, t, Fs, h => by
    obtain ⟨k, F0, h1, h2, h3⟩ := newIn_mem (ps := ps) (i := i + 1) h
    exact ⟨k + 1, F0, by simpa using h1, by rw [h2]; congr 1; omega, by rw [h3, show i + 1 + k = i + (k + 1) by omega]⟩
  | (Sum.inr (Sum.inl _)) :: ps, i, G, t, Fs, h => by
    obtain ⟨k, F0, h1, h2, h3⟩ := newIn_mem (ps := ps) (i := i + 1) h
    exact ⟨k + 1, F0, by simpa using h1, by rw [h2]; congr 1; omega, by rw [h3, show i + 1 + k = i + (k + 1) by omega]⟩
  | (Sum.inr (Sum.inr (Sum.inr (Sum.inl (_, _))))) :: ps, i, G, t, Fs, h => by
    obtain ⟨k, F0, h1, h2, h3⟩ := newIn_mem (ps := ps) (i := i + 1) h
    exact ⟨k + 1, F0, by simpa using h1, by rw [h2]; congr 1; omega, by rw [h3, show i + 1 + k = i + (k + 1) by omega]⟩
  | (Sum.inr (Sum.inr (Sum.inr (Sum.inr (Sum.inl (_, _)))))) :: ps, i, G, t, Fs, h => by
    obtain ⟨k, F0, h1, h2, h3⟩ := newIn_mem (ps := ps) (i := i + 1) h
    exact ⟨k + 1, F0, by simpa using h1, by rw [h2]; congr 1; omega, by rw [h3, show i + 1 + k = i + (k + 1) by omega]⟩
  | (Sum.inr (Sum.inr (Sum.inr (Sum.inr (Sum.inr _))))) :: ps, i, G, t, Fs, h => by
    obtain ⟨k, F0, h1, h2, h3⟩ := newIn_mem (ps := ps) (i := i + 1) h
    exact ⟨k + 1, F0, by simpa using h1, by rw [h2]; congr 1; omega, by rw [h3, show i + 1 + k = i + (k + 1) by omega]⟩
theorem newIn_nodup {γ : Nat → Nat} {pl : List Plan} : ∀ {ps : List Plan} {i : Nat}, (∀ j k tj Fj tk Fk, ps[j]? = some (.alloc tj Fj) → ps[k]? = some (.alloc tk Fk) → γ (i + j) = γ (i + k) → j = k) → ((newIn γ pl i ps).map (·.1)).Nodup
  | [], _, _ => List.nodup_nil
  | p :: ps, i, h => by
    have ih : ((newIn γ pl (i + 1) ps).map (·.1)).Nodup := newIn_nodup (ps := ps) (i := i + 1) fun j k tj Fj tk Fk hj hk e => by
      have := h (j + 1) (k + 1) tj Fj tk Fk (by simpa using hj) (by simpa using hk) (by rw [show i + (j + 1) = i + 1 + j by omega, show i + (k + 1) = i + 1 + k by omega]; exact e)
      omega
    rcases p with F0 | S0 | ⟨t0, Fs0⟩ | ⟨a0, q0⟩ | ⟨k0, q0⟩ | _
    · exact ih
    · exact ih
    · refine List.nodup_cons.2 ⟨fun hm => ?_, ih⟩
      obtain ⟨⟨G, t, Fs⟩, hb, e⟩ := List.mem_map.1 hm
      obtain ⟨k, F0, h1, h2, _⟩ := newIn_mem hb
      have := h 0 (k + 1) t0 Fs0 t F0 rfl (by simpa using h1) (by
        rw [show i + (k + 1) = i + 1 + k by omega, ← h2]
        exact e.symm)
      omega
    · exact ih
    · exact ih
    · exact ih
theorem RInv.done {w0 : World} {n : Nat} {tm : List (Nat × Fact)} {bx : List (Nat × TypeId × Fact)} {a0 : Act} {wr : World} {os : List Oper} {pl : List Plan} {d : Nat → Prop} {τ : Nat → Value} {w : World}
    (has : AS w0 n tm bx a0 wr) (hr : RInv w0 bx a0 wr os pl d τ w) (hall : ∀ j, j < os.length → d j) (hlen : pl.length = os.length)
    (hbd : ∀ o ∈ os, ∀ t, o.dst = some t → t < n) : ∃ γ : Nat → Nat, AS w0 n (tmAfter γ 0 os pl tm) (oversIn pl 0 bx ++ newIn γ pl 0 pl) (putAll a0 τ 0 os) w := by
  have hdone : ∀ {k : Nat} {p : Plan}, pl[k]? = some p → d k := fun {k p} h => hall k (by
    rw [← hlen]
    exact (List.getElem?_eq_some_iff.1 h).1)
  have hγ : ∀ k t Fs, pl[k]? = some (.alloc t Fs) → τ k = .pointer (some ⟨addrOf (τ k), 0, none⟩) := fun k t Fs h => by
    obtain ⟨G, e, _⟩ := hr.alo k t Fs h (hdone h)
    rw [e]
    rfl
  refine ⟨fun i => addrOf (τ i), hr.bel, by rw [putAll_size, has.siz], by rw [putAll_defers, has.nod], ?_, ?_, ?_⟩
  · refine tmAfter_ok os pl 0 a0 tm (fun o ho t ht => by rw [has.siz]; exact hbd o ho t ht) (fun t F h => F.st hr.gro (has.tmp t F h)) (fun k F h _ => ?_) (fun k t Fs h _ => ?_) (by omega)
    · rw [Nat.zero_add]
      exact hr.pur k F h (hdone h)
    · rw [Nat.zero_add]
      exact hγ k t Fs h
  · intro k G t Fs h
    rw [List.getElem?_append] at h
    split at h
    · obtain ⟨Fs0, h1, h2⟩ := oversIn_get h
      rw [Nat.zero_add] at h2
      obtain ⟨h4, h5⟩ := hr.box k G t Fs0 h1
      refine ⟨(has.box k G t Fs0 h1).1, ?_⟩
      cases ho : overOf k pl with
      | none =>
        rw [ho] at h2
        rw [h2]
        exact h4 fun s Fs' hs => absurd hs (overOf_none ho s Fs')
      | some Fs' =>
        rw [ho] at h2
        obtain ⟨s, hs⟩ := overOf_some ho
        rw [h2]
        exact h5 s Fs' hs (hdone hs)
    · obtain ⟨j, Fs0, h1, h2, h3⟩ := newIn_mem (List.mem_of_getElem? h)
      rw [Nat.zero_add] at h2 h3
      obtain ⟨G', e, h4, h5, h6, h7⟩ := hr.alo j t Fs0 h1 (hdone h1)
      have eG : G = G' := by rw [h2]; show addrOf (τ j) = G'; rw [e]; rfl
      subst eG
      refine ⟨Nat.le_trans has.bel.size h4, ?_⟩
      cases ho : fillOf j pl with
      | none =>
        rw [ho] at h3
        rw [h3]
        exact h6 fun s Fs' hs => absurd hs (fillOf_none ho s Fs')
      | some Fs' =>
        rw [ho] at h3
        obtain ⟨s, hs⟩ := fillOf_some ho
        rw [h3]
        exact h7 s Fs' hs (hdone hs)
  · rw [List.map_append, oversIn_map]
    refine List.nodup_append.2 ⟨has.dis, newIn_nodup fun j k tj Fj tk Fk hj hk e => ?_, fun x hx y hy e => ?_⟩
    · rw [Nat.zero_add, Nat.zero_add] at e
      refine hr.inj j k tj Fj tk Fk hj hk (hdone hj) (hdone hk) ?_
      rw [hγ j tj Fj hj, hγ k tk Fk hk]
      exact congrArg (fun x => Value.pointer (some ⟨x, 0, none⟩)) e
    · subst e
      obtain ⟨⟨G, t, Fs⟩, hb, eG⟩ := List.mem_map.1 hx
      obtain ⟨⟨G', t', Fs'⟩, hb', eG'⟩ := List.mem_map.1 hy
      obtain ⟨k, hk⟩ := List.getElem?_of_mem hb
      have hlt := (has.box k G t Fs hk).2.lt
      obtain ⟨j, F0, h1, h2, _⟩ := newIn_mem hb'
      rw [Nat.zero_add] at h2
      obtain ⟨G2, e2, h4, _⟩ := hr.alo j t' F0 h1 (hdone h1)
      have : G' = G2 := by rw [h2]; show addrOf (τ j) = G2; rw [e2]; rfl
      simp at eG eG'
      omega
end Go.Proofs.YtgajdmadbdbabaaGreatDoor
/- AWC -/
namespace Go.Proofs.YtgajdmadbdbabaaGreatDoor
open Go.RowKit Cx
structure RC (w0 : World) (n : Nat) (tm : List (Nat × Fact)) (bx : List (Nat × TypeId × Fact)) (a0 : Act) (wr : World) (os : List Oper) : Prop where
  has : AS w0 n tm bx a0 wr
  nd : (os.filterMap (·.dst)).Nodup
structure AStep (P : Program) (Q : Exit → Act → World → Prop) (all : List Oper) (a0 : Act) (Inv : (Nat → Prop) → (Nat → Value) → World → Prop) (i : Nat) (o : Oper) : Prop where
  run : OpStep P Q all a0 Inv i o
def ASteps (P : Program) (Q : Exit → Act → World → Prop) (all : List Oper) (a0 : Act) (Inv : (Nat → Prop) → (Nat → Value) → World → Prop) : Nat → List Oper → Prop
  | _, [] => True
  | i, o :: os => AStep P Q all a0 Inv i o ∧ ASteps P Q all a0 Inv (i + 1) os
theorem ASteps.nil {P : Program} {Q : Exit → Act → World → Prop} {all : List Oper} {a0 : Act} {Inv : (Nat → Prop) → (Nat → Value) → World → Prop} {i : Nat} : ASteps P Q all a0 Inv i [] := trivial
theorem ASteps.cons {P : Program} {Q : Exit → Act → World → Prop} {all : List Oper} {a0 : Act} {Inv : (Nat → Prop) → (Nat → Value) → World → Prop} {i : Nat} {o : Oper} {os : List Oper} (h : AStep P Q all a0 Inv i o) (hs : ASteps P Q all a0 Inv (i + 1) os) : ASteps P Q all a0 Inv i (o :: os) := ⟨h, hs⟩
theorem ASteps.ops {P : Program} {Q : Exit → Act → World → Prop} {all : List Oper} {a0 : Act} {Inv : (Nat → Prop) → (Nat → Value) → World → Prop} : ∀ {i : Nat} {os : List Oper}, ASteps P Q all a0 Inv i os → OpSteps P Q all a0 Inv i os
  | _, [], _ => OpSteps.nil
  | _, _ :: _, h => OpSteps.cons h.1.run h.2.ops
section
variable {P : Program} {Q : Exit → Act → World → Prop} {w0 : World} {n : Nat} {tm : List (Nat × Fact)} {bx : List (Nat × TypeId × Fact)} {a0 : Act} {wr : World} {os : List Oper} {pl : List Plan}
def Dep (o : Oper) (d : Nat → Prop) : Prop := ∀ e ∈ o.after, Region.binds .any e = true → d e.on
def Opn (w0 : World) (bx : List (Nat × TypeId × Fact)) (a0 : Act) (wr : World) (os : List Oper) (pl : List Plan) (i : Nat) (o : Oper) (x : Operand) (F : Fact) : Prop :=
  ∀ d τ w, RInv w0 bx a0 wr os pl d τ w → Dep o d → ¬ d i → F.on ((putAll a0 τ 0 os).eval x) w
theorem opn_const {i : Nat} {o : Oper} (v : Value) : Opn w0 bx a0 wr os pl i o (.const v) (Jus v) := fun _ _ _ _ _ _ => rfl
theorem opn_new (C : RC w0 n tm bx a0 wr os) {i : Nat} {o : Oper} (j k : Nat) {t : Tmp} {F : Fact} {e : Edge} (hj : (os[j]?).bind (·.dst) = some t) (hp : pl[j]? = some (.pure F)) (hk : o.after[k]? = some e) (he : e.on = j) (hb : Region.binds .any e = true) (hlt : Nat.blt t n = true) :
    Opn w0 bx a0 wr os pl i o (.tmp t) F := fun d τ w hr hd _ => by
  show F.on ((putAll a0 τ 0 os).tmps.getD t undef) w
  rw [putAll_at τ os a0 0 j C.nd hj (by rw [C.has.siz]; simpa using hlt), Nat.zero_add]
  exact hr.pur j F hp (he ▸ hd e (Array.mem_of_getElem? hk) hb)
theorem opn_old (C : RC w0 n tm bx a0 wr os) {i : Nat} {o : Oper} (k : Nat) {t : Tmp} {F : Fact} (hno : (os.filterMap (·.dst)).contains t = false) (hk : tm[k]? = some (t, F)) :
    Opn w0 bx a0 wr os pl i o (.tmp t) F := fun d τ w hr _ _ => by
  show F.on ((putAll a0 τ 0 os).tmps.getD t undef) w
  rw [putAll_off τ os a0 0 (by simpa using hno)]
  exact F.st hr.gro (C.has.tmp t F (List.mem_of_getElem? hk))
def Opns (w0 : World) (bx : List (Nat × TypeId × Fact)) (a0 : Act) (wr : World) (os : List Oper) (pl : List Plan) (i : Nat) (o : Oper) : List Operand → List Fact → Prop
  | [], [] => True
  | x :: xs, F :: Fs => Opn w0 bx a0 wr os pl i o x F ∧ Opns w0 bx a0 wr os pl i o xs Fs
  | _, _ => False
theorem Opns.nil {i : Nat} {o : Oper} : Opns w0 bx a0 wr os pl i o [] [] := trivial
theorem Opns.cons {i : Nat} {o : Oper} {x : Operand} {xs : List Operand} {F : Fact} {Fs : List Fact} (h : Opn w0 bx a0 wr os pl i o x F) (hs : Opns w0 bx a0 wr os pl i o xs Fs) : Opns w0 bx a0 wr os pl i o (x :: xs) (F :: Fs) := ⟨h, hs⟩
theorem Opns.all {i : Nat} {o : Oper} {d : Nat → Prop} {τ : Nat → Value} {w : World} (hr : RInv w0 bx a0 wr os pl d τ w) (hd : Dep o d) (hn : ¬ d i) : ∀ {xs : List Operand} {Fs : List Fact}, Opns w0 bx a0 wr os pl i o xs Fs → All2 w Fs (xs.map (putAll a0 τ 0 os).eval)
  | [], [], _ => trivial
  | _ :: _, _ :: _, h => ⟨h.1 d τ w hr hd hn, Opns.all hr hd hn h.2⟩
  | [], _ :: _, h => h.elim
  | _ :: _, [], h => h.elim
def Want (w0 : World) (bx : List (Nat × TypeId × Fact)) (a0 : Act) (wr : World) (os : List Oper) (pl : List Plan) (o : Oper) (b : Bool) : Prop :=
  ∀ d τ w, RInv w0 bx a0 wr os pl d τ w → Dep o d → Region.wanted o (yielded os.toArray (putAll a0 τ 0 os).tmps) = b
theorem want_none {o : Oper} (h : o.guard = none) : Want w0 bx a0 wr os pl o true := fun _ _ _ _ _ => by
  unfold Region.wanted
  rw [h]
theorem want_guard (C : RC w0 n tm bx a0 wr os) {o : Oper} (j k : Nat) {b c : Bool} {t : Tmp} {e : Edge} (hg : o.guard = some (j, b)) (hj : (os[j]?).bind (·.dst) = some t) (hp : pl[j]? = some (.pure (Jus (.bool c)))) (hk : o.after[k]? = some e) (he : e.on = j) (hb : Region.binds .any e = true) (hlt : Nat.blt t n = true) :
    Want w0 bx a0 wr os pl o (c == b) := fun d τ w hr hd => by
  unfold Region.wanted
  rw [hg]
  have hv : τ j = .bool c := hr.pur j _ hp (he ▸ hd e (Array.mem_of_getElem? hk) hb)
  have hlt' : t < a0.tmps.size := by rw [C.has.siz]; simpa using hlt
  have hat := putAll_at τ os a0 0 j C.nd hj hlt'
  rw [Nat.zero_add, hv] at hat
  have hlt2 : t < (putAll a0 τ 0 os).tmps.size := by rw [putAll_size]; exact hlt'
  have hget : (putAll a0 τ 0 os).tmps[t]? = some (.bool c) := by
    rw [← hat, Array.getD_eq_getD_getElem?, Array.getElem?_eq_getElem hlt2]
    rfl
  have hy : yielded os.toArray (putAll a0 τ 0 os).tmps j = some c := by
    unfold yielded
    rw [List.getElem?_toArray, hj]
    show (match (putAll a0 τ 0 os).tmps[t]? with | some (.bool b) => some b | _ => none) = some c
    rw [hget]
  show (yielded os.toArray (putAll a0 τ 0 os).tmps j == some b) = (c == b)
  rw [hy]
  rfl
theorem want_yes (C : RC w0 n tm bx a0 wr os) {o : Oper} (j k : Nat) (b : Bool) {t : Tmp} {e : Edge} (hg : o.guard = some (j, b)) (hj : (os[j]?).bind (·.dst) = some t) (hp : pl[j]? = some (.pure (Jus (.bool b)))) (hk : o.after[k]? = some e) (he : e.on = j) (hb : Region.binds .any e = true) (hlt : Nat.blt t n = true) :
    Want w0 bx a0 wr os pl o true := fun d τ w hr hd => (want_guard C j k hg hj hp hk he hb hlt d τ w hr hd).trans (by cases b <;> rfl)
theorem step_of {i : Nat} {o : Oper} {F : Fact} (ho : os[i]? = some o) (hp : pl[i]? = some (.pure F)) (hw : Want w0 bx a0 wr os pl o true)
    (h : ∀ d τ w, RInv w0 bx a0 wr os pl d τ w → Dep o d → ¬ d i → ∀ K : Act → World → Prop, (∀ v w', Below w.heap.size w w' → F.on v w' → K ((putAll a0 τ 0 os).put o.dst v) w') → Oper.wp P o (putAll a0 τ 0 os) w K Q) :
    AStep P Q os a0 (RInv w0 bx a0 wr os pl) i o := AStep.mk <| fun d τ w hd hn hr K hK => by
  rw [if_pos (hw d τ w hr hd)]
  exact h d τ w hr hd hn K fun v w' hb hF => hK v w' (hr.pure ho hd hp (Or.inl ⟨F, rfl, hF⟩) hb)
theorem step_run {i : Nat} {o : Oper} {F : Fact} (ho : os[i]? = some o) (hp : pl[i]? = some (.pure F)) (hw : Want w0 bx a0 wr os pl o true)
    (h : ∀ d τ w, RInv w0 bx a0 wr os pl d τ w → Dep o d → ¬ d i → ∃ v w', (execOp (putAll a0 τ 0 os).eval o).run P w = .ok (.value v) w' ∧ Below w.heap.size w w' ∧ F.on v w') :
    AStep P Q os a0 (RInv w0 bx a0 wr os pl) i o := step_of ho hp hw fun d τ w hr hd hn K hK => by
  obtain ⟨v, w', e, hb, hF⟩ := h d τ w hr hd hn
  unfold Oper.wp
  rw [e]
  exact hK v w' hb hF
theorem step_move {i : Nat} {o : Oper} {F : Fact} {x : Operand} (ho : os[i]? = some o) (hp : pl[i]? = some (.pure F)) (hw : Want w0 bx a0 wr os pl o true) (hop : o.op = .move x) (hx : Opn w0 bx a0 wr os pl i o x F) :
    AStep P Q os a0 (RInv w0 bx a0 wr os pl) i o := step_run ho hp hw fun d τ w hr hd hn => ⟨_, w, by unfold execOp; rw [hop]; rfl, Below.refl _ _, hx d τ w hr hd hn⟩
theorem step_assign {i : Nat} {o : Oper} {F : Fact} {x : Operand} (ho : os[i]? = some o) (hp : pl[i]? = some (.pure F)) (hw : Want w0 bx a0 wr os pl o true) (hop : o.op = .assign x) (hx : Opn w0 bx a0 wr os pl i o x F) :
    AStep P Q os a0 (RInv w0 bx a0 wr os pl) i o := step_run ho hp hw fun d τ w hr hd hn => ⟨_, w, by unfold execOp; rw [hop]; rfl, Below.refl _ _, hx d τ w hr hd hn⟩
theorem step_pick {i : Nat} {o : Oper} {F : Fact} {c x y : Operand} (b : Bool) (ho : os[i]? = some o) (hp : pl[i]? = some (.pure F)) (hw : Want w0 bx a0 wr os pl o true) (hop : o.op = .pick c x y) (hc : Opn w0 bx a0 wr os pl i o c (Jus (.bool b))) (hx : Opn w0 bx a0 wr os pl i o (if b then x else y) F) :
    AStep P Q os a0 (RInv w0 bx a0 wr os pl) i o := step_run ho hp hw fun d τ w hr hd hn => by
  have hx' := hx d τ w hr hd hn
  have hc' : (putAll a0 τ 0 os).eval c = .bool b := hc d τ w hr hd hn
  refine ⟨_, w, ?_, Below.refl _ _, hx'⟩
  unfold execOp
  rw [hop]
  simp only [hc']
  cases b <;> rfl
theorem step_extract {i k : Nat} {o : Oper} {F : Fact} {Fs : List Fact} {x : Operand} (ho : os[i]? = some o) (hp : pl[i]? = some (.pure F)) (hw : Want w0 bx a0 wr os pl o true) (hop : o.op = .extract x k) (hx : Opn w0 bx a0 wr os pl i o x (Tup Fs)) (hk : Fs[k]? = some F) :
    AStep P Q os a0 (RInv w0 bx a0 wr os pl) i o := step_run ho hp hw fun d τ w hr hd hn => by
  obtain ⟨cs, e, hall⟩ := hx d τ w hr hd hn
  obtain ⟨v, hv, hF⟩ := hall.get hk
  refine ⟨v, w, ?_, Below.refl _ _, hF⟩
  unfold execOp
  rw [hop]
  simp only [e, Instr.extract, List.getElem?_toArray, hv]
  rfl
theorem step_bin {i : Nat} {o : Oper} {op : BinOp} {xT yT : TypeId} {x y : Operand} {a b c : Value} (ho : os[i]? = some o) (hp : pl[i]? = some (.pure (Jus c))) (hw : Want w0 bx a0 wr os pl o true) (hop : o.op = .binOp op xT x y yT) (hx : Opn w0 bx a0 wr os pl i o x (Jus a)) (hy : Opn w0 bx a0 wr os pl i o y (Jus b))
    (hr : ∀ w, (do eqGuard op xT x y a b; binOp op xT a b : Sem Value).run P w = .ok c w) :
    AStep P Q os a0 (RInv w0 bx a0 wr os pl) i o := step_run ho hp hw fun d τ w hri hd hn => by
  have hx' : (putAll a0 τ 0 os).eval x = a := hx d τ w hri hd hn
  have hy' : (putAll a0 τ 0 os).eval y = b := hy d τ w hri hd hn
  refine ⟨c, w, ?_, Below.refl _ _, rfl⟩
  unfold execOp
  rw [hop]
  show (do pure (Next.value (← (do eqGuard op xT x y ((putAll a0 τ 0 os).eval x) ((putAll a0 τ 0 os).eval y); binOp op xT ((putAll a0 τ 0 os).eval x) ((putAll a0 τ 0 os).eval y) : Sem Value))) : Sem Next).run P w = _
  rw [hx', hy']
  have h := hr w
  revert h
  generalize (do eqGuard op xT x y a b; binOp op xT a b : Sem Value) = s
  intro h
  simp [go_sem, h]
theorem step_not {i : Nat} {o : Oper} {xT : TypeId} {x : Operand} (b : Bool) (ho : os[i]? = some o) (hp : pl[i]? = some (.pure (Jus (.bool (!b))))) (hw : Want w0 bx a0 wr os pl o true) (hop : o.op = .unOp .not xT x) (hx : Opn w0 bx a0 wr os pl i o x (Jus (.bool b))) :
    AStep P Q os a0 (RInv w0 bx a0 wr os pl) i o := step_run ho hp hw fun d τ w hri hd hn => by
  have hx' : (putAll a0 τ 0 os).eval x = .bool b := hx d τ w hri hd hn
  refine ⟨.bool (!b), w, ?_, Below.refl _ _, rfl⟩
  unfold execOp
  rw [hop]
  simp only [hx']
  rfl
def Con (P : Program) (Pre : World → Prop) (f : FuncId) (Fs : List Fact) (F : Fact) : Prop :=
  ∀ (w : World) (vs : List Value), Pre w → All2 w Fs vs → Calls P f vs.toArray w fun e w' => Below w.heap.size w w' ∧ ∃ v, e = .returned v ∧ F.on v w'
theorem enters {f : FuncId} {fn : Func} (hf : P.funcs[f]? = some fn) (hn : (fn.name == "runtime.NumGoroutine") = false) (hb : fn.body.isNone = false) (vs : Array Value) (w : World) : (callFunc f vs).run P w = .ok (.enter f vs) w := by
  have h1 : ¬ fn.name = "runtime.NumGoroutine" := by simpa using hn
  have h2 : ¬ fn.body = none := fun e => by rw [e] at hb; cases hb
  unfold callFunc
  simp [go_sem, hf, h1, h2]
theorem step_call {Pre : World → Prop} {i : Nat} {o : Oper} {f : FuncId} {xs : Array Operand} {ats : Array TypeId} {Fs : List Fact} {F : Fact} (hpre : ∀ w, Below w0.heap.size w0 w → Pre w) (ho : os[i]? = some o) (hp : pl[i]? = some (.pure F)) (hw : Want w0 bx a0 wr os pl o true) (hop : o.op = .call { callee := .value (.func f), args := xs, argTypes := ats })
    (hen : ∀ (vs : Array Value) (w : World), (callFunc f vs).run P w = .ok (.enter f vs) w) (hxs : Opns w0 bx a0 wr os pl i o xs.toList Fs) (hc : Con P Pre f Fs F) :
    AStep P Q os a0 (RInv w0 bx a0 wr os pl) i o := step_of ho hp hw fun d τ w hr hd hn K hK => by
  have hall := hxs.all hr hd hn
  have hcall := hc w _ (hpre w hr.bel) hall
  have e : (execOp (putAll a0 τ 0 os).eval o).run P w = .ok (.enter f (xs.toList.map (putAll a0 τ 0 os).eval).toArray) w := by
    obtain ⟨dst, op, ty, pos, after, guard⟩ := o
    cases hop
    have em : (xs.toList.map (putAll a0 τ 0 os).eval).toArray = #[] ++ xs.map (putAll a0 τ 0 os).eval ++ #[] := by
      apply Array.ext'
      simp
    rw [execOp_call_go, hen, em]
  unfold Oper.wp
  rw [e]
  refine Calls.mono hcall ?_
  rintro _ w' ⟨hb, v, rfl, hF⟩
  exact hK v w' hb hF
theorem step_alloc {i : Nat} {o : Oper} {t : TypeId} {Fs : Fact} (ho : os[i]? = some o) (hp : pl[i]? = some (.alloc t Fs)) (hw : Want w0 bx a0 wr os pl o true)
    (hf : ∀ (s : Nat) (Fs' : Fact), pl[s]? = some (.fill i Fs') → ∃ (o' : Oper) (e : Edge), os[s]? = some o' ∧ e ∈ o'.after ∧ e.on = i ∧ Region.binds .any e = true)
    (h : ∀ d τ w, RInv w0 bx a0 wr os pl d τ w → Dep o d → ¬ d i → ∃ w', (execOp (putAll a0 τ 0 os).eval o).run P w = .ok (.value (.pointer (some ⟨w.heap.size, 0, none⟩))) w' ∧ Below w.heap.size w w' ∧ BoxIs w' w.heap.size t Fs) :
    AStep P Q os a0 (RInv w0 bx a0 wr os pl) i o := AStep.mk <| fun d τ w hd hn hr K hK => by
  rw [if_pos (hw d τ w hr hd)]
  obtain ⟨w', e, hb, hB⟩ := h d τ w hr hd hn
  unfold Oper.wp
  rw [e]
  exact hK _ w' (hr.alloc ho hd (fun s Fs' hs q => by
    obtain ⟨o', e, h1, h2, h3, h4⟩ := hf s Fs' hs
    exact hn (h3 ▸ hr.dwn s o' h1 q e h2 h4)) hn hp hb hB)
def Stores (P : Program) (t : TypeId) (F F' : Fact) : Prop :=
  ∀ (w : World) (G : Nat) (F0 : Fact) (v : Value), BoxIs w G t F0 → F.on v w → ∃ w', (Instr.storeAt t (.pointer (some ⟨G, 0, none⟩)) v).run P w = .ok () w' ∧ Save G w w' ∧ BoxIs w' G t F'
def Loads (P : Program) (t : TypeId) (F F' : Fact) : Prop :=
  ∀ (w : World) (G : Nat), BoxIs w G t F → ∃ v, (Instr.loadAt t (.pointer (some ⟨G, 0, none⟩))).run P w = .ok v w ∧ F'.on v w
def PartLoads (P : Program) (t' : TypeId) (j : Nat) (F F' : Fact) : Prop :=
  ∀ (w : World) (G : Nat) (cs : List Value) (t : TypeId), Blk w G cs.toArray t → F.on (.agg cs.toArray) w → ∃ v, (Instr.loadAt t' (.pointer (some ⟨G, j, none⟩))).run P w = .ok v w ∧ F'.on v w
theorem step_fill (C : RC w0 n tm bx a0 wr os) {i a k : Nat} {o : Oper} {t ta : TypeId} {x : Operand} {F Fs Fs0 : Fact} {e : Edge} (ho : os[i]? = some o) (hp : pl[i]? = some (.fill a Fs)) (ha : pl[a]? = some (.alloc t Fs0)) (hda : (os[a]?).bind (·.dst) = some ta) (hw : Want w0 bx a0 wr os pl o true) (hop : o.op = .store t (.tmp ta) x)
    (hk : o.after[k]? = some e) (he : e.on = a) (hb : Region.binds .any e = true) (hlt : Nat.blt ta n = true) (hT : boxT t = true)
    (hone : ∀ (s : Nat) (Fs' : Fact), pl[s]? = some (.fill a Fs') → s = i)
    (hx : Opn w0 bx a0 wr os pl i o x F) (hst : Stores P t F Fs) :
    AStep P Q os a0 (RInv w0 bx a0 wr os pl) i o := AStep.mk <| fun d τ w hd hn hr K hK => by
  rw [if_pos (hw d τ w hr hd)]
  have hdA : d a := he ▸ hd e (Array.mem_of_getElem? hk) hb
  obtain ⟨G, eG, hge, hltG, hz, _⟩ := hr.alo a t Fs0 ha hdA
  have hB := hz fun s Fs' hs q => by
    have := hone s Fs' hs
    subst this
    exact hn q
  have hv := hx d τ w hr hd hn
  obtain ⟨w', e', hs, hB'⟩ := hst w G Fs0 _ hB hv
  have hat : (putAll a0 τ 0 os).eval (.tmp ta) = .pointer (some ⟨G, 0, none⟩) := by
    show (putAll a0 τ 0 os).tmps.getD ta undef = _
    rw [putAll_at τ os a0 0 a C.nd hda (by rw [C.has.siz]; simpa using hlt), Nat.zero_add, eG]
  have e : (execOp (putAll a0 τ 0 os).eval o).run P w = .ok .skip w' := by
    unfold execOp
    rw [hop]
    simp only [hat]
    revert e'
    generalize Instr.storeAt t (.pointer (some ⟨G, 0, none⟩)) ((putAll a0 τ 0 os).eval x) = s
    intro e'
    simp [go_sem, e']
  unfold Oper.wp
  rw [e]
  exact hK undef w' (hr.fill C.has ho hd hp ha hdA eG hone hs (hB.boxed hT) hB')
theorem step_over (C : RC w0 n tm bx a0 wr os) {i k G : Nat} {o : Oper} {t : TypeId} {y x : Operand} {F Fs Fs0 : Fact} (ho : os[i]? = some o) (hp : pl[i]? = some (.over k Fs)) (hbx : bx[k]? = some (G, t, Fs0)) (hw : Want w0 bx a0 wr os pl o true) (hop : o.op = .store t y x)
    (hy : Opn w0 bx a0 wr os pl i o y (Jus (.pointer (some ⟨G, 0, none⟩)))) (hT : boxT t = true)
    (hone : ∀ (s : Nat) (Fs' : Fact), pl[s]? = some (.over k Fs') → s = i)
    (hx : Opn w0 bx a0 wr os pl i o x F) (hst : Stores P t F Fs) :
    AStep P Q os a0 (RInv w0 bx a0 wr os pl) i o := AStep.mk <| fun d τ w hd hn hr K hK => by
  rw [if_pos (hw d τ w hr hd)]
  have hB := (hr.box k G t Fs0 hbx).1 fun s Fs' hs q => by
    have := hone s Fs' hs
    subst this
    exact hn q
  have hv := hx d τ w hr hd hn
  obtain ⟨w', e', hs, hB'⟩ := hst w G Fs0 _ hB hv
  have hat : (putAll a0 τ 0 os).eval y = .pointer (some ⟨G, 0, none⟩) := hy d τ w hr hd hn
  have e : (execOp (putAll a0 τ 0 os).eval o).run P w = .ok .skip w' := by
    unfold execOp
    rw [hop]
    simp only [hat]
    revert e'
    generalize Instr.storeAt t (.pointer (some ⟨G, 0, none⟩)) ((putAll a0 τ 0 os).eval x) = s
    intro e'
    simp [go_sem, e']
  unfold Oper.wp
  rw [e]
  exact hK undef w' (hr.over C.has ho hd hp hbx hone hs (hB.boxed hT) hB')
theorem step_load {i k G : Nat} {o : Oper} {t : TypeId} {y : Operand} {F Fs : Fact} (ho : os[i]? = some o) (hp : pl[i]? = some (.pure F)) (hbx : bx[k]? = some (G, t, Fs)) (hw : Want w0 bx a0 wr os pl o true) (hop : o.op = .load t y)
    (hy : Opn w0 bx a0 wr os pl i o y (Jus (.pointer (some ⟨G, 0, none⟩))))
    (hf : ∀ (s : Nat) (Fs' : Fact), pl[s]? = some (.over k Fs') → ∃ (o' : Oper) (e : Edge), os[s]? = some o' ∧ e ∈ o'.after ∧ e.on = i ∧ Region.binds .any e = true)
    (hl : Loads P t Fs F) :
    AStep P Q os a0 (RInv w0 bx a0 wr os pl) i o := step_run ho hp hw fun d τ w hr hd hn => by
  have hB := (hr.box k G t Fs hbx).1 fun s Fs' hs q => by
    obtain ⟨o', e, h1, h2, h3, h4⟩ := hf s Fs' hs
    exact hn (h3 ▸ hr.dwn s o' h1 q e h2 h4)
  obtain ⟨v, e', hF⟩ := hl w G hB
  have hat : (putAll a0 τ 0 os).eval y = .pointer (some ⟨G, 0, none⟩) := hy d τ w hr hd hn
  refine ⟨v, w, ?_, Below.refl _ _, hF⟩
  unfold execOp
  rw [hop]
  simp only [hat]
  revert e'
  generalize Instr.loadAt t (.pointer (some ⟨G, 0, none⟩)) = s
  intro e'
  simp [go_sem, e']
def OpnS (w0 : World) (bx : List (Nat × TypeId × Fact)) (a0 : Act) (wr : World) (os : List Oper) (pl : List Plan) (i : Nat) (o : Oper) (x : Operand) (S : Soft) : Prop :=
  ∀ d τ w, RInv w0 bx a0 wr os pl d τ w → Dep o d → ¬ d i → S.on ((putAll a0 τ 0 os).eval x) w
theorem opnS_of {i : Nat} {o : Oper} {x : Operand} {F : Fact} (h : Opn w0 bx a0 wr os pl i o x F) : OpnS w0 bx a0 wr os pl i o x F.soft := h
def waitsFor (i : Nat) : List Oper → List Plan → Bool
  | o :: os, p :: ps => (!p.writes || o.after.toList.any (fun e => Nat.beq e.on i && Region.binds .any e)) && waitsFor i os ps
  | [], p :: ps => !p.writes && waitsFor i [] ps
  | _, [] => true
theorem waitsFor.get {i : Nat} : ∀ {os : List Oper} {pl : List Plan} {s : Nat} {p : Plan}, waitsFor i os pl = true → pl[s]? = some p → p.writes = true → ∃ (o : Oper) (e : Edge), os[s]? = some o ∧ e ∈ o.after ∧ e.on = i ∧ Region.binds .any e = true
  | os, [], s, p, _, h, _ => by simp at h
  | [], q :: ps, 0, p, h, hs, hp => by
    have e : q = p := by simpa using hs
    subst e
    unfold waitsFor at h
    rw [hp] at h
    simp at h
  | [], q :: ps, s + 1, p, h, hs, hp => by
    unfold waitsFor at h
    rw [Bool.and_eq_true] at h
    obtain ⟨o, e, ho, _⟩ := waitsFor.get h.2 (s := s) (p := p) (by simpa using hs) hp
    simp at ho
  | o :: os, q :: ps, 0, p, h, hs, hp => by
    have e : q = p := by simpa using hs
    subst e
    unfold waitsFor at h
    rw [hp, Bool.and_eq_true, Bool.not_true, Bool.false_or, List.any_eq_true] at h
    obtain ⟨⟨e, he, hb⟩, _⟩ := h
    rw [Bool.and_eq_true] at hb
    exact ⟨o, e, rfl, by simpa using he, Nat.eq_of_beq_eq_true hb.1, hb.2⟩
  | o :: os, q :: ps, s + 1, p, h, hs, hp => by
    unfold waitsFor at h
    rw [Bool.and_eq_true] at h
    obtain ⟨o', e, ho, h1⟩ := waitsFor.get h.2 (s := s) (p := p) (by simpa using hs) hp
    exact ⟨o', e, by simpa using ho, h1⟩
theorem opn_soft (C : RC w0 n tm bx a0 wr os) {i : Nat} {o : Oper} (j k : Nat) {t : Tmp} {S : Soft} {e : Edge} (hj : (os[j]?).bind (·.dst) = some t) (hp : pl[j]? = some (.soft S)) (hk : o.after[k]? = some e) (he : e.on = j) (hb : Region.binds .any e = true) (hlt : Nat.blt t n = true) (hw : waitsFor i os pl = true) :
    OpnS w0 bx a0 wr os pl i o (.tmp t) S := fun d τ w hr hd hn => by
  show S.on ((putAll a0 τ 0 os).tmps.getD t undef) w
  rw [putAll_at τ os a0 0 j C.nd hj (by rw [C.has.siz]; simpa using hlt), Nat.zero_add]
  refine hr.sof j S hp (he ▸ hd e (Array.mem_of_getElem? hk) hb) fun s p h1 h2 h3 => ?_
  obtain ⟨o', e', g1, g2, g3, g4⟩ := waitsFor.get hw h1 h2
  exact hn (g3 ▸ hr.dwn s o' g1 h3 e' g2 g4)
theorem step_soft {i : Nat} {o : Oper} {S : Soft} (ho : os[i]? = some o) (hp : pl[i]? = some (.soft S)) (hw : Want w0 bx a0 wr os pl o true)
    (h : ∀ d τ w, RInv w0 bx a0 wr os pl d τ w → Dep o d → ¬ d i → ∃ v w', (execOp (putAll a0 τ 0 os).eval o).run P w = .ok (.value v) w' ∧ Below w.heap.size w w' ∧ S.on v w') :
    AStep P Q os a0 (RInv w0 bx a0 wr os pl) i o := AStep.mk <| fun d τ w hd hn hr K hK => by
  rw [if_pos (hw d τ w hr hd)]
  obtain ⟨v, w', e, hb, hS⟩ := h d τ w hr hd hn
  unfold Oper.wp
  rw [e]
  exact hK v w' (hr.pure ho hd hp (Or.inr (Or.inl ⟨S, rfl, hS⟩)) hb)
def AllS (w : World) : List Soft → List Value → Prop
  | [], [] => True
  | S :: Ss, v :: vs => S.on v w ∧ AllS w Ss vs
  | _, _ => False
def OpnsS (w0 : World) (bx : List (Nat × TypeId × Fact)) (a0 : Act) (wr : World) (os : List Oper) (pl : List Plan) (i : Nat) (o : Oper) : List Operand → List Soft → Prop
  | [], [] => True
  | x :: xs, S :: Ss => OpnS w0 bx a0 wr os pl i o x S ∧ OpnsS w0 bx a0 wr os pl i o xs Ss
  | _, _ => False
theorem OpnsS.nil {i : Nat} {o : Oper} : OpnsS w0 bx a0 wr os pl i o [] [] := trivial
theorem OpnsS.cons {i : Nat} {o : Oper} {x : Operand} {xs : List Operand} {S : Soft} {Ss : List Soft} (h : OpnS w0 bx a0 wr os pl i o x S) (hs : OpnsS w0 bx a0 wr os pl i o xs Ss) : OpnsS w0 bx a0 wr os pl i o (x :: xs) (S :: Ss) := ⟨h, hs⟩
theorem OpnsS.all {i : Nat} {o : Oper} {d : Nat → Prop} {τ : Nat → Value} {w : World} (hr : RInv w0 bx a0 wr os pl d τ w) (hd : Dep o d) (hn : ¬ d i) : ∀ {xs : List Operand} {Ss : List Soft}, OpnsS w0 bx a0 wr os pl i o xs Ss → AllS w Ss (xs.map (putAll a0 τ 0 os).eval)
  | [], [], _ => trivial
  | _ :: _, _ :: _, h => ⟨h.1 d τ w hr hd hn, OpnsS.all hr hd hn h.2⟩
  | [], _ :: _, h => h.elim
  | _ :: _, [], h => h.elim
def ConS (P : Program) (Pre : World → Prop) (f : FuncId) (Ss : List Soft) (F : Fact) : Prop :=
  ∀ (w : World) (vs : List Value), Pre w → AllS w Ss vs → Calls P f vs.toArray w fun e w' => Below w.heap.size w w' ∧ ∃ v, e = .returned v ∧ F.on v w'
theorem step_callS {Pre : World → Prop} {i : Nat} {o : Oper} {f : FuncId} {xs : Array Operand} {ats : Array TypeId} {Ss : List Soft} {F : Fact} (hpre : ∀ w, Below w0.heap.size w0 w → Pre w) (ho : os[i]? = some o) (hp : pl[i]? = some (.pure F)) (hw : Want w0 bx a0 wr os pl o true) (hop : o.op = .call { callee := .value (.func f), args := xs, argTypes := ats })
    (hen : ∀ (vs : Array Value) (w : World), (callFunc f vs).run P w = .ok (.enter f vs) w) (hxs : OpnsS w0 bx a0 wr os pl i o xs.toList Ss) (hc : ConS P Pre f Ss F) :
    AStep P Q os a0 (RInv w0 bx a0 wr os pl) i o := step_of ho hp hw fun d τ w hr hd hn K hK => by
  have hall := hxs.all hr hd hn
  have hcall := hc w _ (hpre w hr.bel) hall
  have e : (execOp (putAll a0 τ 0 os).eval o).run P w = .ok (.enter f (xs.toList.map (putAll a0 τ 0 os).eval).toArray) w := by
    obtain ⟨dst, op, ty, pos, after, guard⟩ := o
    cases hop
    have em : (xs.toList.map (putAll a0 τ 0 os).eval).toArray = #[] ++ xs.map (putAll a0 τ 0 os).eval ++ #[] := by
      apply Array.ext'
      simp
    rw [execOp_call_go, hen, em]
  unfold Oper.wp
  rw [e]
  refine Calls.mono hcall ?_
  rintro _ w' ⟨hb, v, rfl, hF⟩
  exact hK v w' hb hF
theorem step_fieldAddr {i f : Nat} {o : Oper} {t : TypeId} {x : Operand} {p q : Value} (ho : os[i]? = some o) (hp : pl[i]? = some (.pure (Jus q))) (hw : Want w0 bx a0 wr os pl o true) (hop : o.op = .fieldAddr t x f) (hx : Opn w0 bx a0 wr os pl i o x (Jus p))
    (hr : ∀ w, (Instr.fieldAt t p f).run P w = .ok q w) : AStep P Q os a0 (RInv w0 bx a0 wr os pl) i o := step_run ho hp hw fun d τ w hri hd hn => by
  have hx' : (putAll a0 τ 0 os).eval x = p := hx d τ w hri hd hn
  refine ⟨q, w, ?_, Below.refl _ _, rfl⟩
  unfold execOp
  rw [hop]
  show (do pure (Next.value (← Instr.fieldAt t ((putAll a0 τ 0 os).eval x) f)) : Sem Next).run P w = _
  rw [hx']
  have h := hr w
  revert h
  generalize Instr.fieldAt t p f = s
  intro h
  simp [go_sem, h]
theorem step_loadF {i k G j : Nat} {o : Oper} {t t' : TypeId} {y : Operand} {F Fs : Fact} (ho : os[i]? = some o) (hp : pl[i]? = some (.pure F)) (hbx : bx[k]? = some (G, t, Fs)) (hw : Want w0 bx a0 wr os pl o true) (hop : o.op = .load t' y)
    (hy : Opn w0 bx a0 wr os pl i o y (Jus (.pointer (some ⟨G, j, none⟩))))
    (hf : ∀ (s : Nat) (Fs' : Fact), pl[s]? = some (.over k Fs') → ∃ (o' : Oper) (e : Edge), os[s]? = some o' ∧ e ∈ o'.after ∧ e.on = i ∧ Region.binds .any e = true)
    (hl : PartLoads P t' j Fs F) :
    AStep P Q os a0 (RInv w0 bx a0 wr os pl) i o := step_run ho hp hw fun d τ w hr hd hn => by
  obtain ⟨cs, hk, hall, _⟩ := (hr.box k G t Fs hbx).1 fun s Fs' hs q => by
    obtain ⟨o', e, h1, h2, h3, h4⟩ := hf s Fs' hs
    exact hn (h3 ▸ hr.dwn s o' h1 q e h2 h4)
  obtain ⟨v, e', hF⟩ := hl w G cs t hk hall
  have hat : (putAll a0 τ 0 os).eval y = .pointer (some ⟨G, j, none⟩) := hy d τ w hr hd hn
  refine ⟨v, w, ?_, Below.refl _ _, hF⟩
  unfold execOp
  rw [hop]
  show (do pure (Next.value (← Instr.loadAt t' ((putAll a0 τ 0 os).eval y))) : Sem Next).run P w = _
  rw [hat]
  revert e'
  generalize Instr.loadAt t' (.pointer (some ⟨G, j, none⟩)) = s
  intro e'
  simp [go_sem, e']
theorem step_build {i : Nat} {o : Oper} {t : TypeId} {parts : Array (Nat × Operand)} {F : Fact} {Fs : List Fact} (ho : os[i]? = some o) (hp : pl[i]? = some (.pure F)) (hw : Want w0 bx a0 wr os pl o true) (hop : o.op = .build t parts)
    (hx : Opns w0 bx a0 wr os pl i o (parts.toList.map (·.2)) Fs) (hb : ∀ (w : World) (ρ : Operand → Value), All2 w Fs ((parts.toList.map (·.2)).map ρ) → ∃ v, (Instr.build t (parts.map fun (i, x) => (i, ρ x))).run P w = .ok v w ∧ F.on v w) :
    AStep P Q os a0 (RInv w0 bx a0 wr os pl) i o := step_run ho hp hw fun d τ w hri hd hn => by
  obtain ⟨v, e, hF⟩ := hb w _ (hx.all hri hd hn)
  refine ⟨v, w, ?_, Below.refl _ _, hF⟩
  unfold execOp
  rw [hop]
  show (do pure (Next.value (← Instr.build t (parts.map fun (i, x) => (i, (putAll a0 τ 0 os).eval x)))) : Sem Next).run P w = _
  revert e
  generalize Instr.build t (parts.map fun (i, x) => (i, (putAll a0 τ 0 os).eval x)) = s
  intro e
  simp [go_sem, e]
theorem step_bslice {i m : Nat} {o : Oper} {t : TypeId} {parts : Array (Nat × Operand)} {S : Soft} {Fs : List Fact} (ho : os[i]? = some o) (hp : pl[i]? = some (.soft S)) (hw : Want w0 bx a0 wr os pl o true) (hop : o.op = .buildSlice t m parts)
    (hx : Opns w0 bx a0 wr os pl i o (parts.toList.map (·.2)) Fs) (hb : ∀ (w : World) (ρ : Operand → Value), All2 w Fs ((parts.toList.map (·.2)).map ρ) → ∃ v w', (Instr.buildSlice t m (parts.map fun (i, x) => (i, ρ x))).run P w = .ok v w' ∧ Below w.heap.size w w' ∧ S.on v w') :
    AStep P Q os a0 (RInv w0 bx a0 wr os pl) i o := step_soft ho hp hw fun d τ w hri hd hn => by
  obtain ⟨v, w', e, hbel, hS⟩ := hb w _ (hx.all hri hd hn)
  refine ⟨v, w', ?_, hbel, hS⟩
  unfold execOp
  rw [hop]
  show (do pure (Next.value (← Instr.buildSlice t m (parts.map fun (i, x) => (i, (putAll a0 τ 0 os).eval x)))) : Sem Next).run P w = _
  revert e
  generalize Instr.buildSlice t m (parts.map fun (i, x) => (i, (putAll a0 τ 0 os).eval x)) = s
  intro e
  simp [go_sem, e]
theorem region_abs {id : Nat} {dr : Bool} (pl : List Plan) (C : RC w0 n tm bx a0 wr os) (hm : P.follows .mixedOrders = true) (ht : topoOps 0 os = true)
    (hlen : pl.length = os.length) (hbd : os.all (fun o => match o.dst with | some t => Nat.blt t n | none => true) = true)
    (hs : RC w0 n tm bx a0 wr os → ASteps P Q os a0 (RInv w0 bx a0 wr os pl) 0 os)
    (hd : ∀ (γ : Nat → Nat) (a : Act) (w : World), AS w0 n (tmAfter γ 0 os pl tm) (oversIn pl 0 bx ++ newIn γ pl 0 pl) a w → Q .normal a w) : (Code.region id os.toArray dr).wp P Q a0 wr := by
  refine region_any (RInv w0 bx a0 wr os pl) hm C.nd ht (RInv.init C.has (Below.drew (Below.refl _ _))) (RInv.init C.has (Below.refl _ _)) (hs C).ops ?_
  intro d τ w hall hr
  obtain ⟨γ, h⟩ := hr.done C.has hall hlen (fun o ho t ht => by
    have := List.all_eq_true.1 hbd o ho
    rw [ht] at this
    simpa using this)
  exact hd γ _ w h
theorem AS.sub {a : Act} {w : World} {tm' : List (Nat × Fact)} (h : AS w0 n tm bx a w) (hs : ∀ x ∈ tm', x ∈ tm) : AS w0 n tm' bx a w := ⟨h.bel, h.siz, h.nod, fun t F hm => h.tmp t F (hs _ hm), h.box, h.dis⟩
def keepTm (ks : List Nat) (tm : List (Nat × Fact)) : List (Nat × Fact) := tm.filter (fun x => ks.any (fun k => Nat.beq k x.1))
theorem AS.keep {a : Act} {w : World} (ks : List Nat) (h : AS w0 n tm bx a w) : AS w0 n (keepTm ks tm) bx a w := h.sub fun _ hx => (List.mem_filter.1 hx).1
theorem AS.val {a : Act} {w : World} (h : AS w0 n tm bx a w) (k : Nat) {t : Nat} {v : Value} (hk : tm[k]? = some (t, Jus v)) : a.eval (.tmp t) = v := h.tmp t _ (List.mem_of_getElem? hk)
end
theorem AS.ret {P : Program} {fn : Func} {R : Ending → World → Prop} {w0 : World} {n : Nat} {tm : List (Nat × Fact)} {bx : List (Nat × TypeId × Fact)} {a : Act} {w : World} (h : AS w0 n tm bx a w) (k : Nat) {t : Tmp} {F : Fact} (hr : fn.results = #[.tmp t]) (hk : tm[k]? = some (t, F)) (hR : ∀ v, F.on v w → R (.returned v) w) : bodyPost P fn R .ret a w :=
  ⟨h.nod, a.tmps.getD t undef, by unfold results; rw [hr]; simp [go_sem], hR _ (h.tmp t F (List.mem_of_getElem? hk))⟩
theorem AS.retCell {P : Program} {fn : Func} {R : Ending → World → Prop} {w0 : World} {n : Nat} {tm : List (Nat × Fact)} {bx : List (Nat × TypeId × Fact)} {a : Act} {w : World} (h : AS w0 n tm bx a w) (k b : Nat) {t : Tmp} {ty : TypeId} {G : Nat} {F Fs : Fact} (hr : fn.results = #[.cell t ty]) (hk : tm[k]? = some (t, Jus (.pointer (some ⟨G, 0, none⟩)))) (hb : bx[b]? = some (G, ty, Fs)) (hl : Loads P ty Fs F) (hR : ∀ v, F.on v w → R (.returned v) w) : bodyPost P fn R .ret a w := by
  obtain ⟨v, e, hF⟩ := hl w G (h.box b G ty Fs hb).2
  have hv : a.tmps.getD t undef = .pointer (some ⟨G, 0, none⟩) := h.tmp t _ (List.mem_of_getElem? hk)
  refine ⟨h.nod, v, ?_, hR v hF⟩
  have e2 : (loadVar ty ⟨G, 0, none⟩).run P w = .ok v w := by
    have : Instr.loadAt ty (.pointer (some ⟨G, 0, none⟩)) = loadVar ty ⟨G, 0, none⟩ := rfl
    rw [← this]
    exact e
  unfold results
  rw [hr]
  have e3 : ((do loadVar ty (← asAddr (a.tmps.getD t undef)) : Sem Value)).run P w = .ok v w := by
    rw [hv]
    exact e2
  revert e3
  simp only [List.mapM_toArray, List.mapM_cons, List.mapM_nil]
  generalize (do loadVar ty (← asAddr (a.tmps.getD t undef)) : Sem Value) = s
  intro e3
  simp [go_sem, e3]
theorem AS.ret2 {P : Program} {fn : Func} {R : Ending → World → Prop} {w0 : World} {n : Nat} {tm : List (Nat × Fact)} {bx : List (Nat × TypeId × Fact)} {a : Act} {w : World} (h : AS w0 n tm bx a w) (k b k2 : Nat) {t t2 : Tmp} {ty : TypeId} {G : Nat} {F Fs F2 : Fact} (hr : fn.results = #[.cell t ty, .tmp t2]) (hk : tm[k]? = some (t, Jus (.pointer (some ⟨G, 0, none⟩)))) (hb : bx[b]? = some (G, ty, Fs)) (hl : Loads P ty Fs F) (hk2 : tm[k2]? = some (t2, F2)) (hR : ∀ v, (Tup [F, F2]).on v w → R (.returned v) w) : bodyPost P fn R .ret a w := by
  obtain ⟨v, e, hF⟩ := hl w G (h.box b G ty Fs hb).2
  have hv : a.tmps.getD t undef = .pointer (some ⟨G, 0, none⟩) := h.tmp t _ (List.mem_of_getElem? hk)
  have h2 := h.tmp t2 _ (List.mem_of_getElem? hk2)
  refine ⟨h.nod, .tuple #[v, a.tmps.getD t2 undef], ?_, hR _ ⟨[_, _], rfl, hF, h2, trivial⟩⟩
  have e2 : (loadVar ty ⟨G, 0, none⟩).run P w = .ok v w := by
    have : Instr.loadAt ty (.pointer (some ⟨G, 0, none⟩)) = loadVar ty ⟨G, 0, none⟩ := rfl
    rw [← this]
    exact e
  unfold results
  rw [hr]
  have e3 : ((do loadVar ty (← asAddr (a.tmps.getD t undef)) : Sem Value)).run P w = .ok v w := by
    rw [hv]
    exact e2
  revert e3
  simp only [List.mapM_toArray, List.mapM_cons, List.mapM_nil]
  generalize (do loadVar ty (← asAddr (a.tmps.getD t undef)) : Sem Value) = s
  intro e3
  simp [go_sem, e3]
theorem AS.start {w : World} {n : Nat} {tm : List (Nat × Fact)} (a : Act) (hs : a.tmps.size = n) (hd : a.defers = []) (ht : ∀ t F, (t, F) ∈ tm → F.on (a.tmps.getD t undef) w) : AS w n tm [] a w := ⟨Below.refl _ _, hs, hd, ht, fun k G t Fs h => by simp at h, List.nodup_nil⟩
theorem then_ret {K : Act → World → Prop} {Q : Exit → Act → World → Prop} {a : Act} {w : World} (h : Q .ret a w) : Exit.then K Q .ret a w := h
theorem then_normal {K : Act → World → Prop} {Q : Exit → Act → World → Prop} {a : Act} {w : World} (h : K a w) : Exit.then K Q .normal a w := h
def numb : Nat → List Fact → List (Nat × Fact)
  | _, [] => []
  | i, F :: Fs => (i, F) :: numb (i + 1) Fs
theorem numb_get : ∀ {Fs : List Fact} {i t : Nat} {F : Fact}, (t, F) ∈ numb i Fs → ∃ k, t = i + k ∧ Fs[k]? = some F
  | [], _, _, _, h => by cases h
  | G :: Fs, i, t, F, h => by
    rcases List.mem_cons.1 h with e | h
    · cases e
      exact ⟨0, rfl, rfl⟩
    · obtain ⟨k, e, hk⟩ := numb_get h
      exact ⟨k + 1, by omega, by simpa using hk⟩
theorem con_of {P : Program} {Pre : World → Prop} {f : FuncId} {fn : Func} {c : Code} {Fs : List Fact} {F : Fact} {n : Nat} (hf : P.funcs[f]? = some fn) (hb : fn.body = some c) (hn : fn.ntmps = n) (hle : Fs.length ≤ n)
    (h : ∀ (w : World) (a : Act), Pre w → AS w n (numb 0 Fs) [] a w → c.wp P (bodyPost P fn (fun e w' => Below w.heap.size w w' ∧ ∃ v, e = .returned v ∧ F.on v w')) a w) : Con P Pre f Fs F := fun w vs hp hall => by
  refine calls_of_wp hf hb (h w _ hp (AS.start _ ?_ rfl ?_))
  · have := hall.len
    simp [hn]
    omega
  · intro t G hm
    obtain ⟨k, e, hk⟩ := numb_get hm
    rw [Nat.zero_add] at e
    subst e
    obtain ⟨v, hv, hG⟩ := hall.get hk
    have hlt : t < vs.length := (List.getElem?_eq_some_iff.1 hv).1
    have : (vs.toArray ++ Array.replicate (fn.ntmps - vs.toArray.size) undef).getD t undef = v := by
      rw [Array.getD_eq_getD_getElem?, Array.getElem?_append_left (by simpa using hlt)]
      simp [hv]
    rw [this]
    exact hG
end Go.Proofs.YtgajdmadbdbabaaGreatDoor
/- BN -/
namespace Go.Proofs.YtgajdmadbdbabaaGreatDoor
open Go.RowKit Cx
attribute [local go_sem ↓] Go.wp_at_zero Go.wp_at_succ
theorem one_word {w : World} {ao : Option Addr} {c n : Nat} (h : NatN w (.slice ao 1 c) n) : ∃ b o, (∀ wx, (Instr.indexAt 81 (.slice ao 1 c) (.int .i64 0)).run Tryz.prog wx = .ok (.pointer (some ⟨b, o, none⟩)) wx) ∧ w.cell? ⟨b, o, none⟩ = some (.int .u32 (n : Int)) ∧ b < w.heap.size ∧ n < 4294967296 := by
  obtain ⟨l, hl, t, rfl⟩ := h
  obtain ⟨ao', c', b, o, e, sl⟩ := hl.sl32
  simp only [Value.slice.injEq] at e
  obtain ⟨rfl, hlen, rfl⟩ := e
  obtain ⟨x, rfl⟩ := List.length_eq_one_iff.1 hlen.symm
  have e1 : val [x] = x := by simp [val]
  rw [e1]
  exact ⟨b, o, sl.idx 0 (by simp), sl.seg 0 (by simp), sl.lt (by simp), sl.lim.head⟩
theorem many_words {w : World} {ao : Option Addr} {l c n : Nat} (h : NatN w (.slice ao l c) n) (hl : l ≠ 1) : n ≠ 1 := by
  obtain ⟨ls, hv, t, rfl⟩ := h
  obtain ⟨ao', c', b, o, e, sl⟩ := hv.sl32
  cases e
  intro h
  by_cases h0 : ls.length = 0
  · rw [List.length_eq_zero_iff.1 h0, val_nil] at h
    omega
  · have h1 := len_le t (show val ls < pw 1 by rw [h]; decide)
    omega
theorem mk_parts {z : Int} {b : Nat} (hb : 0 < b) : decide ((mkRat z b).num < 0) = decide (z < 0) ∧ (mkRat z b).num.natAbs = z.natAbs / Nat.gcd z.natAbs b ∧ (mkRat z b).den = b / Nat.gcd z.natAbs b := by
  rw [Rat.mkRat_def, dif_neg (by omega), Rat.normalize_eq]
  have hG : 0 < Nat.gcd z.natAbs b := Nat.gcd_pos_of_pos_right _ hb
  obtain ⟨k, hk⟩ : (Nat.gcd z.natAbs b : Int) ∣ z := Int.ofNat_dvd_left.2 (Nat.gcd_dvd_left _ _)
  show decide (z / (Nat.gcd z.natAbs b : Int) < 0) = _ ∧ (z / (Nat.gcd z.natAbs b : Int)).natAbs = _ ∧ b / Nat.gcd z.natAbs b = b / Nat.gcd z.natAbs b
  generalize Nat.gcd z.natAbs b = G at *
  have e1 : z / (G : Int) = k := by rw [hk, Int.mul_ediv_cancel_left _ (by omega)]
  have e2 : z.natAbs / G = k.natAbs := by rw [hk, Int.natAbs_mul, Int.natAbs_natCast, Nat.mul_div_cancel_left _ hG]
  rw [e1, e2]
  refine ⟨?_, rfl, rfl⟩
  have hGi : (0 : Int) < G := by omega
  by_cases h : k < 0
  · have := Int.mul_neg_of_pos_of_neg hGi h
    rw [← hk] at this
    simp [h, this]
  · have := Int.mul_nonneg (Int.le_of_lt hGi) (Int.not_lt.1 h)
    rw [← hk] at this
    simp [h, Int.not_lt.2 this]
theorem RV.mk {w : World} {g : Nat} {z : Int} {b : Nat} {a1 a2 : Option Addr} {l1 c1 l2 c2 : Nat} (hb : 0 < b) (hk : Blk w g #[.bool (decide (z < 0)), .slice a1 l1 c1, .bool false, .slice a2 l2 c2] 118) (h1 : NatN w (.slice a1 l1 c1) (z.natAbs / Nat.gcd z.natAbs b)) (h2 : NatN w (.slice a2 l2 c2) (b / Nat.gcd z.natAbs b)) : RV w g (mkRat z b) := by
  obtain ⟨e1, e2, e3⟩ := mk_parts (z := z) hb
  exact ⟨a1, l1, c1, a2, l2, c2, by rw [e1]; exact hk, by rw [e2]; exact h1, Or.inl (by rw [e3]; exact h2)⟩
theorem norm_walk {w : World} {g : Nat} {a1 a2 : Option Addr} {l1 c1 l2 c2 b : Nat} {z : Int} (hk : Blk w g #[.bool (decide (z < 0)), .slice a1 l1 c1, .bool false, .slice a2 l2 c2] 118) (ha : NatN w (.slice a1 l1 c1) z.natAbs) (hb : NatN w (.slice a2 l2 c2) b) (hb0 : 0 < b) (sa : Small z.natAbs) (sb : Small b) :
    Calls Tryz.prog 181 #[.pointer (some ⟨g, 0, none⟩)] w fun e w' => e = .returned (.pointer (some ⟨g, 0, none⟩)) ∧ Save g w w' ∧ RV w' g (mkRat z b) := by
  obtain ⟨_, _, _, ea, hal, habig, haz⟩ := big_len ha
  obtain ⟨_, _, _, eb, hbl, hbbig, hbz⟩ := big_len hb
  cases ea
  cases eb
  have hl2 : l2 ≠ 0 := fun h => by have := hbz.1 h; omega
  have hne : ((l2 : Int) == 0) = false := beq_eq_false_iff_ne.mpr (by omega)
  have HK := hideIt2 hk
  have HA := hideIt2 ha
  have HB := hideIt2 hb
  have SA := hideIt2 sa
  have SB := hideIt2 sb
  have HZ := hideIt2 haz
  obtain ⟨x0, x1, x2, x3⟩ : w.cell? ⟨g, 0, none⟩ = _ ∧ w.cell? ⟨g, 1, none⟩ = _ ∧ w.cell? ⟨g, 2, none⟩ = _ ∧ w.cell? ⟨g, 3, none⟩ = _ := ⟨hk.cell 0, hk.cell 1, hk.cell 2, hk.cell 3⟩
  clear hk ha hb sa sb habig hbbig haz hbz
  by_cases h1 : l1 = 0
  · have hz : z = 0 := by have := HZ.out.1 h1; omega
    subst h1
    subst hz
    have hat : At2 w g 2 := ⟨⟨_, HK.out.cell 2⟩, ⟨_, HK.out.cell 3⟩, HK.out.frozen 2, HK.out.frozen 3, HK.out.lt⟩
    have HAT := hideIt2 hat
    clear hat
    go_enter Tryz.func181, Tryz.ntmps181
    go_wp2_with fail
    refine (setInt64_calls 1 (by decide) HAT.out).mono ?_
    rintro e w1 ⟨rfl, wz, ao, n, c, hbl1, rfl, hn⟩
    have HN := hideIt2 hn
    have HB1 := hideIt2 hbl1
    clear hn hbl1
    go_wp2
    go_ret
    have hkz := HK.out.below HB1.out HK.out.lt
    refine ⟨rfl, ((Save.of HB1.out).set _ _).set _ _, a1, 0, c1, ao, n, c, ?_, ?_, Or.inl ?_⟩
    · have := (hkz.set 3 (.slice ao n c)).set 2 (.bool (decide (((1 : Nat) : Int) < 0)))
      simpa using this
    · have := (HA.out.below HB1.out).two (g := g) (i := 3) (j := 2) (x := .slice ao n c) (y := .bool (decide (((1 : Nat) : Int) < 0))) ⟨_, _, hkz, by simp [notLimb]⟩ rfl
      simpa using this
    · have := HN.out.two (g := g) (i := 3) (j := 2) (x := .slice ao n c) (y := .bool (decide (((1 : Nat) : Int) < 0))) ⟨_, _, hkz, by simp [notLimb]⟩ rfl
      simpa using this
  · have hne1 : ((l1 : Int) == 0) = false := beq_eq_false_iff_ne.mpr (by omega)
    by_cases hone : b = 1
    · have hl21 : l2 = 1 := by
        by_cases h : l2 = 1
        · exact h
        · exact absurd hone (many_words HB.out h)
      subst hl21
      obtain ⟨b3, o3, hi3, hc3, hlt3, hs3⟩ := one_word HB.out
      rw [hone] at hc3
      go_enter Tryz.func181, Tryz.ntmps181
      go_wp2
      go_ret
      refine ⟨rfl, Save.of (Below.refl _ _), RV.mk hb0 HK.out ?_ ?_⟩
      · rw [hone, Nat.gcd_one_right, Nat.div_one]; exact HA.out
      · rw [show b / Nat.gcd z.natAbs b = b by rw [hone, Nat.gcd_one_right, Nat.div_one]]; exact HB.out
    · by_cases hl21 : l2 = 1
      · subst hl21
        obtain ⟨b3, o3, hi3, hc3, hlt3, hs3⟩ := one_word HB.out
        have hne3 : ((b : Int) == 1) = false := beq_eq_false_iff_ne.mpr (by omega)
        go_enter Tryz.func181, Tryz.ntmps181
        go_wp2_with fail
        have HS : Hid (∀ w', Below w.heap.size w w' → w'.cell? ⟨g, 1, none⟩ = some (.slice a1 l1 c1) ∧ w'.cell? ⟨g, 3, none⟩ = some (.slice a2 1 c2)) := fun w' hb => ⟨(HK.out.below hb HK.out.lt).cell 1, (HK.out.below hb HK.out.lt).cell 3⟩
        go_region_held3 (fun w' => w'.cell? ⟨g, 1, none⟩ = some (.slice a1 l1 c1) ∧ w'.cell? ⟨g, 3, none⟩ = some (.slice a2 1 c2)) (first | go_keep | exact hs1)
          (first
            | (go_at_call 218; refine (bigCommon_calls (w := w.drew) (HA.out.below (Below.drew (Below.refl _ _))) (HB.out.below (Below.drew (Below.refl _ _))) SA.out SB.out).mono ?_; rintro e w1 ⟨hb0', vg, rfl, hvg⟩; obtain ⟨ag, lg, cg, rfl, hgl, _, hgz⟩ := big_len hvg; have hb1 : Below w.heap.size w w1 := (Below.drew (Below.refl _ w)).trans hb0'; have hs1 := HS.out w1 hb1; clear hb0'))
        clear hs1
        have HG := hideIt2 hvg
        have HB1 := hideIt2 hb1
        have HK1 := hideIt2 (HK.out.below hb1 HK.out.lt)
        obtain ⟨k0, k1, k2, k3⟩ : w1.cell? ⟨g, 0, none⟩ = _ ∧ w1.cell? ⟨g, 1, none⟩ = _ ∧ w1.cell? ⟨g, 2, none⟩ = _ ∧ w1.cell? ⟨g, 3, none⟩ = _ := ⟨HK1.out.cell 0, HK1.out.cell 1, HK1.out.cell 2, HK1.out.cell 3⟩
        have hG0 : 0 < Nat.gcd z.natAbs b := Nat.gcd_pos_of_pos_right _ hb0
        have HSG : Hid (Small (Nat.gcd z.natAbs b)) := small_of SB.out (Nat.le_of_dvd hb0 (Nat.gcd_dvd_right _ _))
        clear hvg hb1 hgz x0 x1 x2 x3
        by_cases hg1 : Nat.gcd z.natAbs b = 1
        · have hlg : lg = 1 := by
            by_cases h : lg = 1
            · exact h
            · exact absurd hg1 (many_words HG.out h)
          subst hlg
          obtain ⟨b4, o4, hi4, hc4, hlt4, hs4⟩ := one_word HG.out
          rw [hg1] at hc4
          go_wp2
          go_ret
          refine ⟨rfl, Save.of HB1.out, RV.mk hb0 HK1.out ?_ ?_⟩
          · rw [hg1, Nat.div_one]; exact HA.out.below HB1.out
          · rw [hg1, Nat.div_one]; exact HB.out.below HB1.out
        · by_cases hlg : lg = 1
          · subst hlg
            obtain ⟨b4, o4, hi4, hc4, hlt4, hs4⟩ := one_word HG.out
            have hne4 : ((Nat.gcd z.natAbs b : Int) == 1) = false := beq_eq_false_iff_ne.mpr (by omega)
            go_wp2_with fail
            refine (bigDiv_calls (HA.out.below HB1.out) HG.out SA.out HSG.out hG0).mono ?_
            rintro e w2 ⟨hb2, vp, vr, rfl, hvp, _⟩
            obtain ⟨ap, lp, cp, rfl, hpl, _, _⟩ := big_len hvp
            have hbl2 := HB1.out.trans (hb2.mono HB1.out.size)
            have HP := hideIt2 hvp
            have HG2 := hideIt2 (HG.out.below hb2)
            have HK2 := hideIt2 (HK1.out.below hb2 HK1.out.lt)
            have HB2 := hideIt2 hbl2
            obtain ⟨m0, m1, m2, m3⟩ : w2.cell? ⟨g, 0, none⟩ = _ ∧ w2.cell? ⟨g, 1, none⟩ = _ ∧ w2.cell? ⟨g, 2, none⟩ = _ ∧ w2.cell? ⟨g, 3, none⟩ = _ := ⟨HK2.out.cell 0, HK2.out.cell 1, HK2.out.cell 2, HK2.out.cell 3⟩
            clear hvp hb2 hbl2 k0 k1 k2 k3
            go_wp2_with fail
            refine (bigDiv_calls (HB.out.below HB2.out) HG2.out SB.out HSG.out hG0).mono ?_
            rintro e w3 ⟨hb3, vq, vr2, rfl, hvq, _⟩
            obtain ⟨aq, lq, cq, rfl, hql, _, _⟩ := big_len hvq
            have HQ := hideIt2 hvq
            have HP3 := hideIt2 (HP.out.below hb3)
            have HK3 := hideIt2 (HK2.out.below hb3 HK2.out.lt)
            have HB3 := hideIt2 (HB2.out.trans (hb3.mono HB2.out.size))
            have q1 := HK3.out.cell 1
            have f1 := HK3.out.frozen 1
            have HK4 := hideIt2 (HK3.out.set 1 (.slice ap lp cp))
            have q3 := HK4.out.cell 3
            have f3 := HK4.out.frozen 3
            clear hvq hb3 m0 m1 m2 m3
            go_wp2
            go_ret
            have hh : Held w3 g := ⟨_, _, HK3.out, by simp [notLimb]⟩
            refine ⟨rfl, ((Save.of HB3.out).set _ _).set _ _, RV.mk hb0 (by have := HK4.out.set 3 (.slice aq lq cq); simpa using this) (HP3.out.two hh rfl) (HQ.out.two hh rfl)⟩
          · have hne4 : ((lg : Int) == 1) = false := beq_eq_false_iff_ne.mpr (by omega)
            go_wp2_with fail
            refine (bigDiv_calls (HA.out.below HB1.out) HG.out SA.out HSG.out hG0).mono ?_
            rintro e w2 ⟨hb2, vp, vr, rfl, hvp, _⟩
            obtain ⟨ap, lp, cp, rfl, hpl, _, _⟩ := big_len hvp
            have hbl2 := HB1.out.trans (hb2.mono HB1.out.size)
            have HP := hideIt2 hvp
            have HG2 := hideIt2 (HG.out.below hb2)
            have HK2 := hideIt2 (HK1.out.below hb2 HK1.out.lt)
            have HB2 := hideIt2 hbl2
            obtain ⟨m0, m1, m2, m3⟩ : w2.cell? ⟨g, 0, none⟩ = _ ∧ w2.cell? ⟨g, 1, none⟩ = _ ∧ w2.cell? ⟨g, 2, none⟩ = _ ∧ w2.cell? ⟨g, 3, none⟩ = _ := ⟨HK2.out.cell 0, HK2.out.cell 1, HK2.out.cell 2, HK2.out.cell 3⟩
            clear hvp hb2 hbl2 k0 k1 k2 k3
            go_wp2_with fail
            refine (bigDiv_calls (HB.out.below HB2.out) HG2.out SB.out HSG.out hG0).mono ?_
            rintro e w3 ⟨hb3, vq, vr2, rfl, hvq, _⟩
            obtain ⟨aq, lq, cq, rfl, hql, _, _⟩ := big_len hvq
            have HQ := hideIt2 hvq
            have HP3 := hideIt2 (HP.out.below hb3)
            have HK3 := hideIt2 (HK2.out.below hb3 HK2.out.lt)
            have HB3 := hideIt2 (HB2.out.trans (hb3.mono HB2.out.size))
            have q1 := HK3.out.cell 1
            have f1 := HK3.out.frozen 1
            have HK4 := hideIt2 (HK3.out.set 1 (.slice ap lp cp))
            have q3 := HK4.out.cell 3
            have f3 := HK4.out.frozen 3
            clear hvq hb3 m0 m1 m2 m3
            go_wp2
            go_ret
            have hh : Held w3 g := ⟨_, _, HK3.out, by simp [notLimb]⟩
            refine ⟨rfl, ((Save.of HB3.out).set _ _).set _ _, RV.mk hb0 (by have := HK4.out.set 3 (.slice aq lq cq); simpa using this) (HP3.out.two hh rfl) (HQ.out.two hh rfl)⟩
      · have hne3 : ((l2 : Int) == 1) = false := beq_eq_false_iff_ne.mpr (by omega)
        go_enter Tryz.func181, Tryz.ntmps181
        go_wp2_with fail
        have HS : Hid (∀ w', Below w.heap.size w w' → w'.cell? ⟨g, 1, none⟩ = some (.slice a1 l1 c1) ∧ w'.cell? ⟨g, 3, none⟩ = some (.slice a2 l2 c2)) := fun w' hb => ⟨(HK.out.below hb HK.out.lt).cell 1, (HK.out.below hb HK.out.lt).cell 3⟩
        go_region_held3 (fun w' => w'.cell? ⟨g, 1, none⟩ = some (.slice a1 l1 c1) ∧ w'.cell? ⟨g, 3, none⟩ = some (.slice a2 l2 c2)) (first | go_keep | exact hs1)
          (first
            | (go_at_call 218; refine (bigCommon_calls (w := w.drew) (HA.out.below (Below.drew (Below.refl _ _))) (HB.out.below (Below.drew (Below.refl _ _))) SA.out SB.out).mono ?_; rintro e w1 ⟨hb0', vg, rfl, hvg⟩; obtain ⟨ag, lg, cg, rfl, hgl, _, hgz⟩ := big_len hvg; have hb1 : Below w.heap.size w w1 := (Below.drew (Below.refl _ w)).trans hb0'; have hs1 := HS.out w1 hb1; clear hb0'))
        clear hs1
        have HG := hideIt2 hvg
        have HB1 := hideIt2 hb1
        have HK1 := hideIt2 (HK.out.below hb1 HK.out.lt)
        obtain ⟨k0, k1, k2, k3⟩ : w1.cell? ⟨g, 0, none⟩ = _ ∧ w1.cell? ⟨g, 1, none⟩ = _ ∧ w1.cell? ⟨g, 2, none⟩ = _ ∧ w1.cell? ⟨g, 3, none⟩ = _ := ⟨HK1.out.cell 0, HK1.out.cell 1, HK1.out.cell 2, HK1.out.cell 3⟩
        have hG0 : 0 < Nat.gcd z.natAbs b := Nat.gcd_pos_of_pos_right _ hb0
        have HSG : Hid (Small (Nat.gcd z.natAbs b)) := small_of SB.out (Nat.le_of_dvd hb0 (Nat.gcd_dvd_right _ _))
        clear hvg hb1 hgz x0 x1 x2 x3
        by_cases hg1 : Nat.gcd z.natAbs b = 1
        · have hlg : lg = 1 := by
            by_cases h : lg = 1
            · exact h
            · exact absurd hg1 (many_words HG.out h)
          subst hlg
          obtain ⟨b4, o4, hi4, hc4, hlt4, hs4⟩ := one_word HG.out
          rw [hg1] at hc4
          go_wp2
          go_ret
          refine ⟨rfl, Save.of HB1.out, RV.mk hb0 HK1.out ?_ ?_⟩
          · rw [hg1, Nat.div_one]; exact HA.out.below HB1.out
          · rw [hg1, Nat.div_one]; exact HB.out.below HB1.out
        · by_cases hlg : lg = 1
          · subst hlg
            obtain ⟨b4, o4, hi4, hc4, hlt4, hs4⟩ := one_word HG.out
            have hne4 : ((Nat.gcd z.natAbs b : Int) == 1) = false := beq_eq_false_iff_ne.mpr (by omega)
            go_wp2_with fail
            refine (bigDiv_calls (HA.out.below HB1.out) HG.out SA.out HSG.out hG0).mono ?_
            rintro e w2 ⟨hb2, vp, vr, rfl, hvp, _⟩
            obtain ⟨ap, lp, cp, rfl, hpl, _, _⟩ := big_len hvp
            have hbl2 := HB1.out.trans (hb2.mono HB1.out.size)
            have HP := hideIt2 hvp
            have HG2 := hideIt2 (HG.out.below hb2)
            have HK2 := hideIt2 (HK1.out.below hb2 HK1.out.lt)
            have HB2 := hideIt2 hbl2
            obtain ⟨m0, m1, m2, m3⟩ : w2.cell? ⟨g, 0, none⟩ = _ ∧ w2.cell? ⟨g, 1, none⟩ = _ ∧ w2.cell? ⟨g, 2, none⟩ = _ ∧ w2.cell? ⟨g, 3, none⟩ = _ := ⟨HK2.out.cell 0, HK2.out.cell 1, HK2.out.cell 2, HK2.out.cell 3⟩
            clear hvp hb2 hbl2 k0 k1 k2 k3
            go_wp2_with fail
            refine (bigDiv_calls (HB.out.below HB2.out) HG2.out SB.out HSG.out hG0).mono ?_
            rintro e w3 ⟨hb3, vq, vr2, rfl, hvq, _⟩
            obtain ⟨aq, lq, cq, rfl, hql, _, _⟩ := big_len hvq
            have HQ := hideIt2 hvq
            have HP3 := hideIt2 (HP.out.below hb3)
            have HK3 := hideIt2 (HK2.out.below hb3 HK2.out.lt)
            have HB3 := hideIt2 (HB2.out.trans (hb3.mono HB2.out.size))
            have q1 := HK3.out.cell 1
            have f1 := HK3.out.frozen 1
            have HK4 := hideIt2 (HK3.out.set 1 (.slice ap lp cp))
            have q3 := HK4.out.cell 3
            have f3 := HK4.out.frozen 3
            clear hvq hb3 m0 m1 m2 m3
            go_wp2
            go_ret
            have hh : Held w3 g := ⟨_, _, HK3.out, by simp [notLimb]⟩
            refine ⟨rfl, ((Save.of HB3.out).set _ _).set _ _, RV.mk hb0 (by have := HK4.out.set 3 (.slice aq lq cq); simpa using this) (HP3.out.two hh rfl) (HQ.out.two hh rfl)⟩
          · have hne4 : ((lg : Int) == 1) = false := beq_eq_false_iff_ne.mpr (by omega)
            go_wp2_with fail
            refine (bigDiv_calls (HA.out.below HB1.out) HG.out SA.out HSG.out hG0).mono ?_
            rintro e w2 ⟨hb2, vp, vr, rfl, hvp, _⟩
            obtain ⟨ap, lp, cp, rfl, hpl, _, _⟩ := big_len hvp
            have hbl2 := HB1.out.trans (hb2.mono HB1.out.size)
            have HP := hideIt2 hvp
            have HG2 := hideIt2 (HG.out.below hb2)
            have HK2 := hideIt2 (HK1.out.below hb2 HK1.out.lt)
            have HB2 := hideIt2 hbl2
            obtain ⟨m0, m1, m2, m3⟩ : w2.cell? ⟨g, 0, none⟩ = _ ∧ w2.cell? ⟨g, 1, none⟩ = _ ∧ w2.cell? ⟨g, 2, none⟩ = _ ∧ w2.cell? ⟨g, 3, none⟩ = _ := ⟨HK2.out.cell 0, HK2.out.cell 1, HK2.out.cell 2, HK2.out.cell 3⟩
            clear hvp hb2 hbl2 k0 k1 k2 k3
            go_wp2_with fail
            refine (bigDiv_calls (HB.out.below HB2.out) HG2.out SB.out HSG.out hG0).mono ?_
            rintro e w3 ⟨hb3, vq, vr2, rfl, hvq, _⟩
            obtain ⟨aq, lq, cq, rfl, hql, _, _⟩ := big_len hvq
            have HQ := hideIt2 hvq
            have HP3 := hideIt2 (HP.out.below hb3)
            have HK3 := hideIt2 (HK2.out.below hb3 HK2.out.lt)
            have HB3 := hideIt2 (HB2.out.trans (hb3.mono HB2.out.size))
            have q1 := HK3.out.cell 1
            have f1 := HK3.out.frozen 1
            have HK4 := hideIt2 (HK3.out.set 1 (.slice ap lp cp))
            have q3 := HK4.out.cell 3
            have f3 := HK4.out.frozen 3
            clear hvq hb3 m0 m1 m2 m3
            go_wp2
            go_ret
            have hh : Held w3 g := ⟨_, _, HK3.out, by simp [notLimb]⟩
            refine ⟨rfl, ((Save.of HB3.out).set _ _).set _ _, RV.mk hb0 (by have := HK4.out.set 3 (.slice aq lq cq); simpa using this) (HP3.out.two hh rfl) (HQ.out.two hh rfl)⟩
end Go.Proofs.YtgajdmadbdbabaaGreatDoor
/- BO -/
namespace Go.Proofs.YtgajdmadbdbabaaGreatDoor
open Go.RowKit Cx
attribute [local go_sem ↓] Go.wp_at_zero Go.wp_at_succ
theorem IV.apart {w : World} {p : Value} {z : Int} {g : Nat} (h : IV w p z) (hg : w.heap.size ≤ g) : Apart p g := by
  obtain ⟨g1, o1, _, _, _, rfl, _, _, _, hl⟩ := h
  intro g2 o2 t e
  cases e
  omega
theorem setFrac_walk {w : World} {g : Nat} {y0 y1 y2 y3 : Value} {pa pb : Value} {z : Int} {b : Nat} (hk : Blk w g #[y0, y1, y2, y3] 118) (hno : (#[y0, y1, y2, y3] : Array Value).all notLimb = true) (ha : IV w pa z) (hb : IV w pb b) (hb0 : 0 < b) (sa : Small z.natAbs) (sb : Small b) :
    Calls Tryz.prog 131 #[.pointer (some ⟨g, 0, none⟩), pa, pb] w fun e w' => e = .returned (.pointer (some ⟨g, 0, none⟩)) ∧ Save g w w' ∧ RV w' g (mkRat z b) := by
  have HA := hideIt2 ha
  have HB := hideIt2 hb
  obtain ⟨g2, o2, a2, n2, c2, rfl, z0, z1, z2, zl⟩ := hb
  have hn2 : n2 ≠ 0 := fun h => by
    obtain ⟨_, _, _, e, _, _, hz⟩ := big_len z2
    cases e
    have := hz.1 h
    omega
  have hne : ((n2 : Int) == 0) = false := beq_eq_false_iff_ne.mpr (by omega)
  have HK := hideIt2 hk
  have SA := hideIt2 sa
  have SB := hideIt2 sb
  clear hk ha sa sb z2
  go_enter Tryz.func131, Tryz.ntmps131
  go_wp2_with fail
  have hkp := Blk.new w #[.bool false, .slice none 0 0] 116
  have hbp := below_new w (.cells #[.bool false, .slice none 0 0] 116)
  refine (intSet_calls (At2.blk hkp) (HA.out.below hbp) (HA.out.apart (Nat.le_refl _)) SA.out).mono ?_
  rintro e w1 ⟨rfl, hg⟩
  obtain ⟨ho, hbl⟩ := hg.own hkp
  have hb1 := hbp.trans (hbl _ (Nat.le_refl _) hbp.size)
  obtain ⟨gp, hgp⟩ : ∃ gp, gp = w.heap.size := ⟨_, rfl⟩
  rw [← hgp] at ho ⊢
  have HOP := hideIt2 ho
  have HB1 := hideIt2 hb1
  have HGP := hideIt2 hgp
  clear ho hbl hg hkp hbp hb1 hgp
  go_wp2_with fail
  have hkq := Blk.new w1 #[.bool false, .slice none 0 0] 116
  have hbq := below_new w1 (.cells #[.bool false, .slice none 0 0] 116)
  have HBq : Hid (Below w.heap.size w (w1.alloc (.cells #[.bool false, .slice none 0 0] 116))) := HB1.out.trans (hbq.mono HB1.out.size)
  refine (intSet_calls (x := (b : Int)) (At2.blk hkq) (HB.out.below HBq.out) (HB.out.apart HB1.out.size) (by simpa using SB.out)).mono ?_
  rintro e w2 ⟨rfl, hg⟩
  obtain ⟨ho, hbl⟩ := hg.own hkq
  have hb2 := hbq.trans (hbl _ (Nat.le_refl _) hbq.size)
  have HGQ : Hid (w.heap.size ≤ w1.heap.size) := HB1.out.size
  obtain ⟨gq, hgq⟩ : ∃ gq, gq = w1.heap.size := ⟨_, rfl⟩
  rw [← hgq] at ho HGQ ⊢
  have HOQ := hideIt2 ho
  have HOP2 := hideIt2 (HOP.out.below hb2)
  have HB2 := hideIt2 (HB1.out.trans (hb2.mono HB1.out.size))
  have HK2 := hideIt2 (HK.out.below HB2.out HK.out.lt)
  have HNG : Hid (g ≠ gp ∧ g ≠ gq) := by
    have h1 := HK.out.lt
    have h2 := HGQ.out
    have h3 := HGP.out
    constructor <;> omega
  clear ho hbl hg hkq hbq hb2 hgq
  obtain ⟨ap, np, cp, kp, hnp⟩ := HOP2.out
  obtain ⟨aq, nq, cq, kq, hnq⟩ := HOQ.out
  have HNP := hideIt2 hnp
  have HNQ := hideIt2 hnq
  obtain ⟨p0, p1, _⟩ := kp.all2
  obtain ⟨m0, m1, m2, m3⟩ : w2.cell? ⟨g, 0, none⟩ = _ ∧ w2.cell? ⟨g, 1, none⟩ = _ ∧ w2.frozen? ⟨g, 0, none⟩ = _ ∧ w2.frozen? ⟨g, 1, none⟩ = _ := ⟨HK2.out.cell 0, HK2.out.cell 1, HK2.out.frozen 0, HK2.out.frozen 1⟩
  have HKA := hideIt2 ((HK2.out.set 0 (.bool (decide (z < 0)))).set 1 (.slice ap np cp))
  obtain ⟨r0, r1, r2, r3⟩ : ((w2.setCell ⟨g, 0, none⟩ (.bool (decide (z < 0)))).setCell ⟨g, 1, none⟩ (.slice ap np cp)).cell? ⟨g, 2, none⟩ = _ ∧ ((w2.setCell ⟨g, 0, none⟩ (.bool (decide (z < 0)))).setCell ⟨g, 1, none⟩ (.slice ap np cp)).cell? ⟨g, 3, none⟩ = _ ∧ ((w2.setCell ⟨g, 0, none⟩ (.bool (decide (z < 0)))).setCell ⟨g, 1, none⟩ (.slice ap np cp)).frozen? ⟨g, 2, none⟩ = _ ∧ ((w2.setCell ⟨g, 0, none⟩ (.bool (decide (z < 0)))).setCell ⟨g, 1, none⟩ (.slice ap np cp)).frozen? ⟨g, 3, none⟩ = _ := ⟨HKA.out.cell 2, HKA.out.cell 3, HKA.out.frozen 2, HKA.out.frozen 3⟩
  have q0 : ((w2.setCell ⟨g, 0, none⟩ (.bool (decide (z < 0)))).setCell ⟨g, 1, none⟩ (.slice ap np cp)).cell? ⟨gq, 0, none⟩ = _ := (cell_two HNG.out.2.symm).trans (kq.cell 0)
  have q1 : ((w2.setCell ⟨g, 0, none⟩ (.bool (decide (z < 0)))).setCell ⟨g, 1, none⟩ (.slice ap np cp)).cell? ⟨gq, 1, none⟩ = _ := (cell_two HNG.out.2.symm).trans (kq.cell 1)
  clear hnp hnq kp kq
  go_wp2_with fail
  have HKB := hideIt2 ((HKA.out.set 2 (.bool (decide ((b : Int) < 0)))).set 3 (.slice aq nq cq))
  have hno2 : (#[y0, y1, y2, y3] : Array Value).all notLimb = true := hno
  have hh : Held w2 g := ⟨_, _, HK2.out, hno2⟩
  have hh2 : Held ((w2.setCell ⟨g, 0, none⟩ (.bool (decide (z < 0)))).setCell ⟨g, 1, none⟩ (.slice ap np cp)) g := ⟨_, _, HKA.out, all_set (all_set hno2 0 rfl) 1 rfl⟩
  have h1 := (HNP.out.two (i := 0) (j := 1) (x := .bool (decide (z < 0))) (y := .slice ap np cp) hh rfl).two (i := 2) (j := 3) (x := .bool (decide ((b : Int) < 0))) (y := .slice aq nq cq) hh2 rfl
  have h2 := (HNQ.out.two (i := 0) (j := 1) (x := .bool (decide (z < 0))) (y := .slice ap np cp) hh rfl).two (i := 2) (j := 3) (x := .bool (decide ((b : Int) < 0))) (y := .slice aq nq cq) hh2 rfl
  have hs : Save g w ((((w2.setCell ⟨g, 0, none⟩ (.bool (decide (z < 0)))).setCell ⟨g, 1, none⟩ (.slice ap np cp)).setCell ⟨g, 2, none⟩ (.bool (decide ((b : Int) < 0)))).setCell ⟨g, 3, none⟩ (.slice aq nq cq)) := ((((Save.of HB2.out).set _ _).set _ _).set _ _).set _ _
  have HSV := hideIt2 hs
  rw [Int.natAbs_natCast] at h2
  have hkb : Blk ((((w2.setCell ⟨g, 0, none⟩ (.bool (decide (z < 0)))).setCell ⟨g, 1, none⟩ (.slice ap np cp)).setCell ⟨g, 2, none⟩ (.bool (decide ((b : Int) < 0)))).setCell ⟨g, 3, none⟩ (.slice aq nq cq)) g #[.bool (decide (z < 0)), .slice ap np cp, .bool false, .slice aq nq cq] 118 := by
    have h : Blk ((((w2.setCell ⟨g, 0, none⟩ (.bool (decide (z < 0)))).setCell ⟨g, 1, none⟩ (.slice ap np cp)).setCell ⟨g, 2, none⟩ (.bool (decide ((b : Int) < 0)))).setCell ⟨g, 3, none⟩ (.slice aq nq cq)) g #[.bool (decide (z < 0)), .slice ap np cp, .bool (decide ((b : Int) < 0)), .slice aq nq cq] 118 := HKB.out
    have e : (#[.bool (decide (z < 0)), .slice ap np cp, .bool (decide ((b : Int) < 0)), .slice aq nq cq] : Array Value) = #[.bool (decide (z < 0)), .slice ap np cp, .bool false, .slice aq nq cq] := by
      rw [show decide ((b : Int) < 0) = false by simp]
    rwa [e] at h
  refine (norm_walk (z := z) (b := b) hkb h1 h2 hb0 SA.out SB.out).mono ?_
  rintro e w5 ⟨rfl, hsv, hrv⟩
  have HR := hideIt2 (And.intro (HSV.out.trans hsv) hrv)
  clear hsv hrv hs h1 h2 hh hh2
  go_wp2
  go_ret
  exact ⟨rfl, HR.out.1, HR.out.2⟩
end Go.Proofs.YtgajdmadbdbabaaGreatDoor
/- BP -/
namespace Go.Proofs.YtgajdmadbdbabaaGreatDoor
open Go.RowKit Cx
attribute [local go_sem ↓] Go.wp_at_zero Go.wp_at_succ
theorem Below.new {a w : World} (h : Below a.heap.size a w) (o : Obj) : Below a.heap.size a (w.alloc o) := h.alloc h.size o
theorem Own2.save {w w' : World} {g g' : Nat} {z : Int} (h : Own2 w g' z) (hne : g' ≠ g) (hh : Held w g) (hs : Save g w w') : Own2 w' g' z := by
  obtain ⟨ao, n, c, h0, h1⟩ := h
  exact ⟨ao, n, c, hs.blk h0 hne, h1.save hh hs⟩
theorem Own2.lt {w : World} {g : Nat} {z : Int} (h : Own2 w g z) : g < w.heap.size := by
  obtain ⟨ao, n, c, h0, _⟩ := h
  exact h0.lt
theorem Gave.save {w w' : World} {g o : Nat} {z : Int} (h : Gave w g o z w') : Save g w w' := by
  obtain ⟨w1, ao, n', c', hbl, rfl, hn⟩ := h
  exact ((Save.of hbl).set _ _).set _ _
theorem blk_old {w : World} {g : Nat} {cs : Array Value} {t : TypeId} (o : Obj) (h : Blk w g cs t) : Blk (w.alloc o) g cs t := h.below (below_new _ _) h.lt
theorem blk_at {w : World} {g : Nat} {cs : Array Value} {t : TypeId} (h : g = w.heap.size) : Blk (w.alloc (.cells cs t)) g cs t := by
  subst h
  exact Blk.new _ _ _
theorem early {w w1 w2 w3 : World} {g g' : Nat} {cs : Array Value} {t : TypeId} (hs : Save g w w1) (h2 : Below w1.heap.size w1 w2) (h3 : Below w2.heap.size w2 w3) (hb : Blk w g' cs t) (hne : g' ≠ g) : Blk w3 g' cs t := by
  have h1 := hs.blk hb hne
  have h2' := h1.below h2 h1.lt
  exact h2'.below h3 h2'.lt
theorem intMul_new {w : World} {g : Nat} {px py : Value} {x y : Int} (hk : Blk w g #[.bool false, .slice none 0 0] 116) (hx : IV w px x) (hy : IV w py y) (ax : Apart px g) (ay : Apart py g) (sx : Small x.natAbs) (sy : Small y.natAbs) :
    Calls Tryz.prog 185 #[.pointer (some ⟨g, 0, none⟩), px, py] w fun e w' => e = .returned (.pointer (some ⟨g, 0, none⟩)) ∧ Save g w w' ∧ Own2 w' g (x * y) ∧ Held w g := by
  refine (intMul_calls (At2.blk hk) hx hy ax ay sx sy).mono ?_
  rintro e w' ⟨rfl, hg⟩
  exact ⟨rfl, hg.save, (hg.own hk).1, _, _, hk, by simp [notLimb]⟩
theorem small_num {k : Nat} {q : Rat} (f : QS k q) (hk : k ≤ 35184372088640) : Small q.num.natAbs := small_two f.num hk
theorem small_den {k : Nat} {q : Rat} (f : QS k q) (hk : k ≤ 35184372088640) : Small (q.den : Int).natAbs := by
  rw [Int.natAbs_natCast]
  exact small_two f.den hk
theorem ratMul_calls {w : World} {g gx gy : Nat} {y0 y1 y2 y3 : Value} {x y : Rat} {k l : Nat} (hk : Blk w g #[y0, y1, y2, y3] 118) (hno : (#[y0, y1, y2, y3] : Array Value).all notLimb = true) (hx : RV w gx x) (hy : RV w gy y) (fx : QS k x) (fy : QS l y) (hkl : k + l + 1 ≤ 35184372088640) :
    Calls Tryz.prog 134 #[.pointer (some ⟨g, 0, none⟩), .pointer (some ⟨gx, 0, none⟩), .pointer (some ⟨gy, 0, none⟩)] w fun e w' => e = .returned (.pointer (some ⟨g, 0, none⟩)) ∧ Save g w w' ∧ RV w' g (x * y) := by
  have LX := hideIt2 hx.lt
  have LY := hideIt2 hy.lt
  have LG := hideIt2 hk.lt
  have HX := hideIt2 hx
  have HY := hideIt2 hy
  have HK := hideIt2 hk
  have SX := hideIt2 (small_num fx (by omega))
  have SY := hideIt2 (small_num fy (by omega))
  have DX := hideIt2 (small_den fx (by omega))
  have DY := hideIt2 (small_den fy (by omega))
  have SN : Hid (Small (x.num * y.num).natAbs) := by
    show Small _
    rw [Int.natAbs_mul]
    exact small_two (k := k + l) (by rw [Nat.pow_add]; exact Nat.mul_lt_mul_of_lt_of_lt fx.num fy.num) (by omega)
  have SD : Hid (Small (x.den * y.den)) := small_two (k := k + l) (by rw [Nat.pow_add]; exact Nat.mul_lt_mul_of_lt_of_lt fx.den fy.den) (by omega)
  have HQ : Hid (x * y = mkRat (x.num * y.num) (x.den * y.den)) := by
    show _ = _
    conv => lhs; rw [← Rat.mkRat_self x, ← Rat.mkRat_self y]
    exact Rat.mkRat_mul_mkRat ..
  have HD0 : Hid (0 < x.den * y.den) := Nat.mul_pos x.den_pos y.den_pos
  clear hx hy hk fx fy
  go_enter Tryz.func134, Tryz.ntmps134
  go_wp2_with fail
  go_region_held3 (fun _ => True) (trivial)
    (first
      | (go_at_call_of 185 (Value.pointer (some { block := gx, off := 0 })); refine (intMul_new (by first | with_reducible exact Blk.new _ _ _ | (refine blk_at ?_; (first | with_reducible rfl | (simp; done))) | (refine blk_old _ (blk_at ?_); (first | with_reducible rfl | (simp; done)))) (RV.num (HX.out.below (by repeat' first | with_reducible exact hbl3 | with_reducible exact hbl2 | with_reducible exact hbl1 | with_reducible exact Below.refl _ _ | apply Below.new | apply Below.drew))) (RV.num (HY.out.below (by repeat' first | with_reducible exact hbl3 | with_reducible exact hbl2 | with_reducible exact hbl1 | with_reducible exact Below.refl _ _ | apply Below.new | apply Below.drew))) (HX.out.num.apart (by first | with_reducible exact Nat.le_refl _ | with_reducible exact hbl3.size | with_reducible exact hbl2.size | with_reducible exact hbl1.size | (simp; done) | (simp; omega))) (HY.out.num.apart (by first | with_reducible exact Nat.le_refl _ | with_reducible exact hbl3.size | with_reducible exact hbl2.size | with_reducible exact hbl1.size | (simp; done) | (simp; omega))) SX.out SY.out).mono ?_; rintro e w1 ⟨rfl, hsv1, ho1, _⟩; have hbl1 : Below w.heap.size w w1 := Below.trans (by repeat' first | with_reducible exact hbl3 | with_reducible exact hbl2 | with_reducible exact hbl1 | with_reducible exact Below.refl _ _ | apply Below.new | apply Below.drew) (hsv1.below (by first | with_reducible exact Nat.le_refl _ | with_reducible exact hbl3.size | with_reducible exact hbl2.size | with_reducible exact hbl1.size | (simp; done) | (simp; omega)) (by first | with_reducible exact Nat.le_refl _ | with_reducible exact hbl3.size | with_reducible exact hbl2.size | with_reducible exact hbl1.size | (simp; done) | (simp; omega))))
      | (go_at_call_of 137 (Value.pointer (some { block := gx, off := 0 })); refine (den_calls (HX.out.below (by repeat' first | with_reducible exact hbl3 | with_reducible exact hbl2 | with_reducible exact hbl1 | with_reducible exact Below.refl _ _ | apply Below.new | apply Below.drew))).mono ?_; rintro e w2 ⟨hb2, p1, rfl, hv2, hap2⟩; have hbl2 : Below w.heap.size w w2 := (fun (h : Below w.heap.size w _) => h.trans (hb2.mono h.size)) (by repeat' first | with_reducible exact hbl3 | with_reducible exact hbl2 | with_reducible exact hbl1 | with_reducible exact Below.refl _ _ | apply Below.new | apply Below.drew); have hc2 : Below w1.heap.size w1 w2 := (fun (h : Below w1.heap.size w1 _) => h.trans (hb2.mono h.size)) (by repeat' first | with_reducible exact Below.refl _ _ | apply Below.new | apply Below.drew); have ho2 := ho1.below hc2)
      | (go_at_call_of 137 (Value.pointer (some { block := gy, off := 0 })); refine (den_calls (HY.out.below (by repeat' first | with_reducible exact hbl3 | with_reducible exact hbl2 | with_reducible exact hbl1 | with_reducible exact Below.refl _ _ | apply Below.new | apply Below.drew))).mono ?_; rintro e w3 ⟨hb3, p2, rfl, hv3, hap3⟩; have hbl3 : Below w.heap.size w w3 := (fun (h : Below w.heap.size w _) => h.trans (hb3.mono h.size)) (by repeat' first | with_reducible exact hbl3 | with_reducible exact hbl2 | with_reducible exact hbl1 | with_reducible exact Below.refl _ _ | apply Below.new | apply Below.drew); have hc3 : Below w2.heap.size w2 w3 := (fun (h : Below w2.heap.size w2 _) => h.trans (hb3.mono h.size)) (by repeat' first | with_reducible exact Below.refl _ _ | apply Below.new | apply Below.drew); have ho3 := ho2.below hc3; have hv2' := hv2.below hc3)
      | (go_at_call 131; refine (setFrac_walk (z := x.num * y.num) (b := x.den * y.den) (HK.out.below hbl4 LG.out) hno hoA.iv (by have := ho4.iv; rwa [← Int.natCast_mul] at this) HD0.out SN.out SD.out).mono ?_; rintro e w5 ⟨rfl, hs5, hr5⟩)
      | (go_at_call_of 185 p1; have q0 := LX.out; have q00 := LY.out; have q1 := ho1.lt; have q2 := hc2.size; have q3 := hc3.size; have q4 := hbl1.size; have q5 := ho2.lt; have q6 := hb2.size; have q7 := hb3.size; have q8 := hsv1.size; (try simp at q8); (try simp at q6); (try simp at q7); refine Calls.mono (intMul_new (by first | with_reducible exact Blk.new w3 _ _ | with_reducible exact (Blk.new w2 _ _).below hb3 (Blk.new w2 _ _).lt | with_reducible exact ((Blk.new w1 _ _).below hb2 (Blk.new w1 _ _).lt).below hb3 (((Blk.new w1 _ _).below hb2 (Blk.new w1 _ _).lt).lt) | (refine early hsv1 hb2 hb3 (blk_at ?_) ?_ <;> (simp; done)) | (refine early hsv1 hb2 hb3 (blk_old _ (blk_at ?_)) ?_ <;> (simp; done))) (show IV _ p1 (x.den : Int) by first | with_reducible exact hv2' | exact hv2'.below (below_new _ _)) (show IV _ p2 (y.den : Int) by first | with_reducible exact hv3 | exact hv3.below (below_new _ _)) (by first | with_reducible exact hv2'.apart (Nat.le_refl _) | with_reducible exact hv2.apart (Nat.le_refl _) | exact hap2 _ (by omega) (by first | omega | (simp; done) | (simp; omega))) (by first | with_reducible exact hv3.apart (Nat.le_refl _) | exact hap3 _ (by omega) (by first | omega | (simp; done) | (simp; omega))) DX.out DY.out) ?_; rintro e w4 ⟨rfl, hsv4, ho4, hh4⟩; have hbl4 : Below w.heap.size w w4 := (fun (h : Below w.heap.size w _) => h.trans (hsv4.below (by first | with_reducible exact hbl3.size | with_reducible exact hbl2.size | with_reducible exact hbl1.size | omega | (simp; done)) h.size)) (by repeat' first | with_reducible exact hbl3 | with_reducible exact hbl2 | with_reducible exact hbl1 | with_reducible exact Below.refl _ _ | apply Below.new | apply Below.drew); have hoA : Own2 w4 _ (x.num * y.num) := (show Own2 _ _ (x.num * y.num) by first | with_reducible exact ho3 | exact ho3.below (below_new _ _)).save (by first | omega | (simp; done) | (simp; omega)) hh4 hsv4)
      )
  all_goals
    go_wp2
    go_ret
    exact ⟨rfl, (Save.of hbl4).trans hs5, by rw [HQ.out]; exact hr5⟩
end Go.Proofs.YtgajdmadbdbabaaGreatDoor
/- BTA -/
namespace Go.Proofs.YtgajdmadbdbabaaGreatDoor
open Go.RowKit Cx
attribute [local go_sem ↓] Go.wp_at_zero Go.wp_at_succ
theorem blk_bel {w w' : World} {g : Nat} {cs : Array Value} {t : TypeId} (hb : Below w.heap.size w w') (h : Blk w g cs t) : Blk w' g cs t := h.below hb h.lt
theorem blk_sav {w w' : World} {g g' : Nat} {cs : Array Value} {t : TypeId} (hs : Save g w w') (h : Blk w g' cs t) (hne : g' ≠ g) : Blk w' g' cs t := hs.blk h hne
theorem own_new {w : World} {g : Nat} {z : Int} (o : Obj) (h : Own2 w g z) : Own2 (w.alloc o) g z := h.below (below_new _ _)
theorem own_bel {w w' : World} {g : Nat} {z : Int} (hb : Below w.heap.size w w') (h : Own2 w g z) : Own2 w' g z := h.below hb
theorem own_sav {w w' : World} {g g' : Nat} {z : Int} (hs : Save g w w') (hh : Held w g) (h : Own2 w g' z) (hne : g' ≠ g) : Own2 w' g' z := h.save hne hh hs
theorem iv_new {w : World} {p : Value} {z : Int} (o : Obj) (h : IV w p z) : IV (w.alloc o) p z := h.below (below_new _ _)
theorem iv_bel {w w' : World} {p : Value} {z : Int} (hb : Below w.heap.size w w') (h : IV w p z) : IV w' p z := h.below hb
theorem blk_drew {w : World} {g : Nat} {cs : Array Value} {t : TypeId} (h : Blk w g cs t) : Blk w.drew g cs t := h.below (Below.drew (Below.refl _ _)) h.lt
theorem own_drew {w : World} {g : Nat} {z : Int} (h : Own2 w g z) : Own2 w.drew g z := h.below (Below.drew (Below.refl _ _))
theorem iv_drew {w : World} {p : Value} {z : Int} (h : IV w p z) : IV w.drew p z := h.below (Below.drew (Below.refl _ _))
theorem apart_ne {g g' o : Nat} (h : g' ≠ g) : Apart (.pointer (some ⟨g', o, none⟩)) g := by
  intro g1 o1 t e
  cases e
  exact h
theorem bel_sav {a w w' : World} {g : Nat} (h : Below a.heap.size a w) (hs : Save g w w') (hg : a.heap.size ≤ g) : Below a.heap.size a w' := h.trans (hs.below hg h.size)
theorem bel_bel {a w w' : World} (h : Below a.heap.size a w) (hs : Below w.heap.size w w') : Below a.heap.size a w' := h.trans (hs.mono h.size)
theorem ge_at {w a b : World} {g : Nat} (_ : Save g a b) (h : w.heap.size ≤ g) : w.heap.size ≤ g := h
theorem intAdd_new {w : World} {g : Nat} {px py : Value} {x y : Int} (hk : Blk w g #[.bool false, .slice none 0 0] 116) (hx : IV w px x) (hy : IV w py y) (ax : Apart px g) (ay : Apart py g) (sx : Small x.natAbs) (sy : Small y.natAbs) :
    Calls Tryz.prog 184 #[.pointer (some ⟨g, 0, none⟩), px, py] w fun e w' => e = .returned (.pointer (some ⟨g, 0, none⟩)) ∧ Save g w w' ∧ Own2 w' g (x + y) ∧ Held w g := by
  refine (intAdd_calls (At2.blk hk) hx hy ax ay sx sy).mono ?_
  rintro e w' ⟨rfl, hg⟩
  exact ⟨rfl, hg.save, (hg.own hk).1, _, _, hk, by simp [notLimb]⟩
theorem intSub_new {w : World} {g : Nat} {px py : Value} {x y : Int} (hk : Blk w g #[.bool false, .slice none 0 0] 116) (hx : IV w px x) (hy : IV w py y) (ax : Apart px g) (ay : Apart py g) (sx : Small x.natAbs) (sy : Small y.natAbs) :
    Calls Tryz.prog 186 #[.pointer (some ⟨g, 0, none⟩), px, py] w fun e w' => e = .returned (.pointer (some ⟨g, 0, none⟩)) ∧ Save g w w' ∧ Own2 w' g (x - y) ∧ Held w g := by
  refine (intSub_calls (At2.blk hk) hx hy ax ay sx sy).mono ?_
  rintro e w' ⟨rfl, hg⟩
  exact ⟨rfl, hg.save, (hg.own hk).1, _, _, hk, by simp [notLimb]⟩
theorem small_cross {x y : Rat} {k l : Nat} (fx : QS k x) (fy : QS l y) (hkl : k + l + 1 ≤ 35184372088640) : Small (x.num * (y.den : Int)).natAbs := by
  rw [Int.natAbs_mul, Int.natAbs_natCast]
  exact small_two (k := k + l) (by rw [Nat.pow_add]; exact Nat.mul_lt_mul_of_lt_of_lt fx.num fy.den) (by omega)
theorem cross_lt {x y : Rat} {k l : Nat} (fx : QS k x) (fy : QS l y) : (x.num * (y.den : Int)).natAbs < 2 ^ (k + l) := by
  rw [Int.natAbs_mul, Int.natAbs_natCast, Nat.pow_add]
  exact Nat.mul_lt_mul_of_lt_of_lt fx.num fy.den
theorem small_crossAdd {x y : Rat} {k l : Nat} (fx : QS k x) (fy : QS l y) (hkl : k + l + 1 ≤ 35184372088640) : Small (x.num * (y.den : Int) + y.num * (x.den : Int)).natAbs := by
  have h1 := cross_lt fx fy
  have h2 := cross_lt fy fx
  rw [Nat.add_comm l k] at h2
  exact small_two (k := k + l + 1) (by rw [Nat.pow_succ]; omega) (by omega)
theorem small_crossSub {x y : Rat} {k l : Nat} (fx : QS k x) (fy : QS l y) (hkl : k + l + 1 ≤ 35184372088640) : Small (x.num * (y.den : Int) - y.num * (x.den : Int)).natAbs := by
  have h1 := cross_lt fx fy
  have h2 := cross_lt fy fx
  rw [Nat.add_comm l k] at h2
  exact small_two (k := k + l + 1) (by rw [Nat.pow_succ]; omega) (by omega)
theorem rat_crossAdd (x y : Rat) : x + y = mkRat (x.num * (y.den : Int) + y.num * (x.den : Int)) (x.den * y.den) := by
  conv => lhs; rw [← Rat.mkRat_self x, ← Rat.mkRat_self y]
  exact Rat.mkRat_add_mkRat _ _ x.den_nz y.den_nz
theorem rat_crossSub (x y : Rat) : x - y = mkRat (x.num * (y.den : Int) - y.num * (x.den : Int)) (x.den * y.den) := by
  rw [Rat.sub_eq_add_neg]
  refine (rat_crossAdd x (-y)).trans ?_
  show mkRat (x.num * (y.den : Int) + (-y.num) * (x.den : Int)) (x.den * y.den) = _
  rw [Int.neg_mul, ← Int.sub_eq_add_neg]
end Go.Proofs.YtgajdmadbdbabaaGreatDoor
