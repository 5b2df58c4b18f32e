/- Part 11 of the walks and of the mathematics under them: RC RD RF RG TE TF TG TH WG RK AWD WB WH WY RE RH RLA BQU AWE AWH BGC BGD BGE BPL BPM BPN. -/
import Derived.Test.YtgajdmadbdbabaaGreatDoorA10
import Derived.Deep.DeepCutAuto
import Derived.Test.YtgajdmadbdbabaaGreatDoorA6
import Derived.Lib.ItoaMem
import Derived.Lib.OthersKept
import Derived.Test.YtgajdmadbdbabaaGreatDoorA7
import Derived.Deep.LoopGhost
set_option maxHeartbeats 16000000
set_option maxRecDepth 100000
/- RC -/
namespace Go.Proofs.YtgajdmadbdbabaaGreatDoor
open Go.RowKit Cx
attribute [local go_sem ↓] Go.wp_at_zero Go.wp_at_succ
def VV (w : World) (v : Value) (x y : Rat) : Prop := ∃ px py, v = .agg #[px, py] ∧ PR w px x ∧ PR w py y
theorem rv_new {w : World} {g : Nat} {q : Rat} (o : Obj) (h : RV w g q) : RV (w.alloc o) g q := h.below (below_new _ _)
theorem rv_drew {w : World} {g : Nat} {q : Rat} (h : RV w g q) : RV w.drew g q := h.below (Below.drew (Below.refl _ _))
theorem rv_bel {w w' : World} {g : Nat} {q : Rat} (hb : Below w.heap.size w w') (h : RV w g q) : RV w' g q := h.below hb
theorem rrow2 {w : World} {b : Nat} {p q : Value} {x y : Rat} (hb : Blk w b #[p, q] 41) (hx : PR w p x) (hy : PR w q y) : RRow w (.slice (some ⟨b, 0, none⟩) 2 2) [x, y] := by
  refine ⟨b, 0, 2, rfl, hb.lt, fun j hj => ?_⟩
  match j, hj with
  | 0, _ => exact ⟨p, hb.cell 0, hx⟩
  | 1, _ => exact ⟨q, hb.cell 1, hy⟩
theorem rprod2 (a b : Rat) : rprod [a, b] = a * b := by simp [rprod, Rat.one_mul]
theorem vCross_walk {w : World} {gax gaz gbx gbz : Nat} {ax az bx bz : Rat} {k : Nat} (hax : RV w gax ax) (haz : RV w gaz az) (hbx : RV w gbx bx) (hbz : RV w gbz bz) (fax : QS k ax) (faz : QS k az) (fbx : QS k bx) (fbz : QS k bz) (hk : 8 * k + 16 ≤ 35184372088640) :
    Calls Tryz.prog 42 #[.agg #[.pointer (some ⟨gax, 0, none⟩), .pointer (some ⟨gaz, 0, none⟩)], .agg #[.pointer (some ⟨gbx, 0, none⟩), .pointer (some ⟨gbz, 0, none⟩)]] w fun e w' => Below w.heap.size w w' ∧ ∃ v, e = .returned v ∧ PR w' v ((ax * bz) - (az * bx)) := by
  obtain ⟨hb0, hk0, hk1, hsz⟩ := boxes2 w #[.pointer (some ⟨gax, 0, none⟩), .pointer (some ⟨gaz, 0, none⟩)] #[.pointer (some ⟨gbx, 0, none⟩), .pointer (some ⟨gbz, 0, none⟩)] 43 43
  have HB0 := hideIt2 hb0
  have HSZ := hideIt2 hsz
  have HK0 := hideIt2 hk0
  have HK1 := hideIt2 hk1
  have Hax := hideIt2 (hax.below hb0)
  have Haz := hideIt2 (haz.below hb0)
  have Hbx := hideIt2 (hbx.below hb0)
  have Hbz := hideIt2 (hbz.below hb0)
  have Fax := hideIt2 fax
  have Faz := hideIt2 faz
  have Fbx := hideIt2 fbx
  have Fbz := hideIt2 fbz
  clear hb0 hsz hk0 hk1 hax haz hbx hbz fax faz fbx fbz
  go_enter Tryz.func42, Tryz.ntmps42
  go_wp2_with fail
  generalize ((w.alloc (.cells #[.pointer (some ⟨gax, 0, none⟩), .pointer (some ⟨gaz, 0, none⟩)] 43)).alloc (.cells #[.pointer (some ⟨gbx, 0, none⟩), .pointer (some ⟨gbz, 0, none⟩)] 43)) = W0 at *
  have HS : Hid (∀ w', Below W0.heap.size W0 w' → w'.cell? ⟨w.heap.size, 0, none⟩ = some (.pointer (some ⟨gax, 0, none⟩)) ∧ w'.cell? ⟨w.heap.size, 1, none⟩ = some (.pointer (some ⟨gaz, 0, none⟩)) ∧ w'.cell? ⟨w.heap.size + 1, 0, none⟩ = some (.pointer (some ⟨gbx, 0, none⟩)) ∧ w'.cell? ⟨w.heap.size + 1, 1, none⟩ = some (.pointer (some ⟨gbz, 0, none⟩))) := fun w' hb => ⟨(HK0.out.below hb (by rw [HSZ.out]; omega)).cell 0, (HK0.out.below hb (by rw [HSZ.out]; omega)).cell 1, (HK1.out.below hb (by rw [HSZ.out]; omega)).cell 0, (HK1.out.below hb (by rw [HSZ.out]; omega)).cell 1⟩
  obtain ⟨z0, z1, z2, z3⟩ := HS.out W0 (Below.refl _ _)
  go_region_held3 (fun w' => w'.cell? ⟨w.heap.size, 0, none⟩ = some (.pointer (some ⟨gax, 0, none⟩)) ∧ w'.cell? ⟨w.heap.size, 1, none⟩ = some (.pointer (some ⟨gaz, 0, none⟩)) ∧ w'.cell? ⟨w.heap.size + 1, 0, none⟩ = some (.pointer (some ⟨gbx, 0, none⟩)) ∧ w'.cell? ⟨w.heap.size + 1, 1, none⟩ = some (.pointer (some ⟨gbz, 0, none⟩))) (first | (refine HS.out _ ?_; (repeat' first | with_reducible exact hbl3 | with_reducible exact hbl2 | with_reducible exact hbl1 | with_reducible exact Below.refl _ _ | with_reducible refine Below.new ?_ _ | with_reducible refine Below.drew ?_); done) | go_keep)
    (first
      | (have hq2 := hbl2; go_at_call 83; refine (refSub_calls ⟨_, rfl, (by repeat' first | with_reducible exact hv1 | with_reducible refine rv_new _ ?_ | with_reducible refine rv_drew ?_ | with_reducible refine rv_bel hb2 ?_ | with_reducible refine rv_bel hb1 ?_)⟩ ⟨_, rfl, (by repeat' first | with_reducible exact hv2 | with_reducible refine rv_new _ ?_ | with_reducible refine rv_drew ?_ | with_reducible refine rv_bel hb2 ?_ | with_reducible refine rv_bel hb1 ?_)⟩ (Fax.out.mul Fbz.out) (Faz.out.mul Fbx.out) (by omega)).mono ?_; rintro e w3 ⟨hb3, _, rfl, g3, rfl, hv3⟩; have hbl3 : Below W0.heap.size W0 w3 := bel_bel (by repeat' first | with_reducible exact hbl2 | with_reducible exact hbl1 | with_reducible exact Below.refl _ _ | with_reducible refine Below.new ?_ _ | with_reducible refine Below.drew ?_) hb3; have hs3 := HS.out w3 hbl3)
      | (have hq1 := hbl1; go_at_call 82; refine (refMul_calls (rrow2 (by repeat' first | with_reducible exact Blk.new _ _ _ | ((with_reducible refine blk_at ?_); (first | with_reducible rfl | (simp; done))) | with_reducible refine blk_old _ ?_ | with_reducible refine blk_drew ?_ | with_reducible refine blk_bel hb1 ?_) ⟨_, rfl, Haz.out.below (by repeat' first | with_reducible exact hbl1 | with_reducible exact Below.refl _ _ | with_reducible refine Below.new ?_ _ | with_reducible refine Below.drew ?_)⟩ ⟨_, rfl, Hbx.out.below (by repeat' first | with_reducible exact hbl1 | with_reducible exact Below.refl _ _ | with_reducible refine Below.new ?_ _ | with_reducible refine Below.drew ?_)⟩) (all2 (QS.mono (l := k + k) Faz.out (by omega)) (QS.mono (l := k + k) Fbx.out (by omega))) (by simp) (by simp only [List.length_cons, List.length_nil]; omega)).mono ?_; rintro e w2 ⟨hb2, _, rfl, g2, rfl, hv2⟩; rw [rprod2] at hv2; have hbl2 : Below W0.heap.size W0 w2 := bel_bel (by repeat' first | with_reducible exact hbl1 | with_reducible exact Below.refl _ _ | with_reducible refine Below.new ?_ _ | with_reducible refine Below.drew ?_) hb2; have hs2 := HS.out w2 hbl2)
      | (go_at_call 82; refine (refMul_calls (rrow2 (by repeat' first | with_reducible exact Blk.new _ _ _ | ((with_reducible refine blk_at ?_); (first | with_reducible rfl | (simp; done))) | with_reducible refine blk_old _ ?_ | with_reducible refine blk_drew ?_) ⟨_, rfl, Hax.out.below (by repeat' first | with_reducible exact Below.refl _ _ | with_reducible refine Below.new ?_ _ | with_reducible refine Below.drew ?_)⟩ ⟨_, rfl, Hbz.out.below (by repeat' first | with_reducible exact Below.refl _ _ | with_reducible refine Below.new ?_ _ | with_reducible refine Below.drew ?_)⟩) (all2 (QS.mono (l := k + k) Fax.out (by omega)) (QS.mono (l := k + k) Fbz.out (by omega))) (by simp) (by simp only [List.length_cons, List.length_nil]; omega)).mono ?_; rintro e w1 ⟨hb1, _, rfl, g1, rfl, hv1⟩; rw [rprod2] at hv1; have hbl1 : Below W0.heap.size W0 w1 := bel_bel (by repeat' first | with_reducible exact Below.refl _ _ | with_reducible refine Below.new ?_ _ | with_reducible refine Below.drew ?_) hb1; have hs1 := HS.out w1 hbl1)
      )
  all_goals
    go_wp2
    go_ret
    exact ⟨HB0.out.trans (hbl3.mono HB0.out.size), _, rfl, _, rfl, hv3⟩
theorem vCross_calls {w : World} {va vb : Value} {ax az bx bz : Rat} {k : Nat} (ha : VV w va ax az) (hb : VV w vb bx bz) (fax : QS k ax) (faz : QS k az) (fbx : QS k bx) (fbz : QS k bz) (hk : 8 * k + 16 ≤ 35184372088640) :
    Calls Tryz.prog 42 #[va, vb] w fun e w' => Below w.heap.size w w' ∧ ∃ v, e = .returned v ∧ PR w' v ((ax * bz) - (az * bx)) := by
  obtain ⟨_, _, rfl, ⟨gax, rfl, hax⟩, ⟨gaz, rfl, haz⟩⟩ := ha
  obtain ⟨_, _, rfl, ⟨gbx, rfl, hbx⟩, ⟨gbz, rfl, hbz⟩⟩ := hb
  exact vCross_walk hax haz hbx hbz fax faz fbx fbz hk
end Go.Proofs.YtgajdmadbdbabaaGreatDoor
/- RD -/
namespace Go.Proofs.YtgajdmadbdbabaaGreatDoor
open Go.RowKit Cx
attribute [local go_sem ↓] Go.wp_at_zero Go.wp_at_succ
end Go.Proofs.YtgajdmadbdbabaaGreatDoor
/- RF -/
namespace Go.Proofs.YtgajdmadbdbabaaGreatDoor
open Go.RowKit Cx
attribute [local go_sem ↓] Go.wp_at_zero Go.wp_at_succ
def sgn (x : Int) : Int := if x = 0 then 0 else if x < 0 then -1 else 1
theorem intSign_calls {w : World} {p : Value} {x : Int} (hx : IV w p x) :
    Calls Tryz.prog 97 #[p] w fun e w' => Below w.heap.size w w' ∧ e = .returned (.int .i64 (sgn x)) := by
  obtain ⟨g, o, ao, n, c, rfl, x0, x1, x2, xl⟩ := hx
  have hz : n = 0 ↔ x.natAbs = 0 := by
    obtain ⟨_, _, _, e, _, _, hz⟩ := big_len x2
    cases e
    exact hz
  clear x2
  by_cases h0 : x = 0
  · have hn : n = 0 := hz.2 (by omega)
    subst hn
    have HV : Hid (sgn x = 0) := if_pos h0
    clear hz h0
    go_enter Tryz.func97, Tryz.ntmps97
    go_wp2
    go_ret
    exact ⟨Below.refl _ _, by rw [HV.out]; rfl⟩
  · have hnb : ((n : Int) == 0) = false := beq_eq_false_iff_ne.mpr (by omega)
    have hn0 : n ≠ 0 := by omega
    by_cases hs : x < 0
    · have HV : Hid (sgn x = -1) := by show sgn x = -1; unfold sgn; rw [if_neg h0, if_pos hs]
      rw [decide_eq_true hs] at x0
      clear hz h0 hs
      go_enter Tryz.func97, Tryz.ntmps97
      go_wp2
      go_ret
      exact ⟨Below.refl _ _, by rw [HV.out]; rfl⟩
    · have HV : Hid (sgn x = 1) := by show sgn x = 1; unfold sgn; rw [if_neg h0, if_neg hs]
      rw [decide_eq_false hs] at x0
      clear hz h0 hs
      go_enter Tryz.func97, Tryz.ntmps97
      go_wp2
      go_ret
      exact ⟨Below.refl _ _, by rw [HV.out]; rfl⟩
theorem ratSign_calls {w : World} {p : Value} {x : Rat} (hx : PR w p x) :
    Calls Tryz.prog 50 #[p] w fun e w' => Below w.heap.size w w' ∧ e = .returned (.int .i64 (sgn x.num)) := by
  obtain ⟨g, rfl, hx⟩ := hx
  have HX := hideIt2 hx.num
  clear hx
  go_enter Tryz.func50, Tryz.ntmps50
  go_wp2_with fail
  refine (intSign_calls HX.out).mono ?_
  rintro e w1 ⟨hb, rfl⟩
  have HB := hideIt2 hb
  clear hb
  go_wp2
  go_ret
  exact ⟨HB.out, rfl⟩
theorem sgn_zero {x : Rat} : (sgn x.num == 0) = decide (x = 0) := by
  unfold sgn
  by_cases h : x = 0
  · subst h; rfl
  · have hn : x.num ≠ 0 := fun e => h (Rat.num_eq_zero.1 e)
    rw [if_neg hn, decide_eq_false h]
    split <;> rfl
theorem refZero_calls {w : World} {p : Value} {x : Rat} (hx : PR w p x) :
    Calls Tryz.prog 27 #[p] w fun e w' => Below w.heap.size w w' ∧ e = .returned (.bool (decide (x = 0))) := by
  have HX := hideIt2 hx
  have HZ := hideIt2 (sgn_zero (x := x))
  obtain ⟨g, rfl, hx⟩ := hx
  clear hx
  go_enter Tryz.func27, Tryz.ntmps27
  go_wp2_with fail
  refine (ratSign_calls HX.out).mono ?_
  rintro e w1 ⟨hb, rfl⟩
  have HB := hideIt2 hb
  clear hb
  generalize sgn x.num = z at *
  go_wp2
  go_ret
  exact ⟨HB.out, by rw [← HZ.out]; rfl⟩
end Go.Proofs.YtgajdmadbdbabaaGreatDoor
/- RG -/
namespace Go.Proofs.YtgajdmadbdbabaaGreatDoor
open Go.RowKit Cx
attribute [local go_sem ↓] Go.wp_at_zero Go.wp_at_succ
end Go.Proofs.YtgajdmadbdbabaaGreatDoor
/- TE -/
namespace Go.Proofs.YtgajdmadbdbabaaGreatDoor
open Go.RowKit Cx
theorem owns_only {w w' : World} {g B n : Nat} {v : Value} {xs : List Value} (h : w.ownsRow B 168 1 v n xs) (ho : Only g w w') (hg : g < B) : w'.ownsRow B 168 1 v n xs := by
  obtain ⟨h1, h2 | ⟨g', cap, cur, rfl, hb, hh, hc⟩⟩ := h
  · exact ⟨h1, Or.inl h2⟩
  · exact ⟨h1, Or.inr ⟨g', cap, cur, rfl, hb, by rw [ho.block g' (by omega), hh], hc⟩⟩
theorem owns_below {w w' : World} {B n : Nat} {v : Value} {xs : List Value} (h : w.ownsRow B 168 1 v n xs) (ho : Below w.heap.size w w') : w'.ownsRow B 168 1 v n xs := by
  obtain ⟨h1, h2 | ⟨g', cap, cur, rfl, hb, hh, hc⟩⟩ := h
  · exact ⟨h1, Or.inl h2⟩
  · refine ⟨h1, Or.inr ⟨g', cap, cur, rfl, hb, ?_, hc⟩⟩
    have : g' < w.heap.size := by
      by_cases e : g' < w.heap.size
      · exact e
      · rw [Array.getElem?_eq_none (by omega)] at hh; cases hh
    rw [ho.block g' this, hh]
theorem runs_walk {w : World} {v : Value} {l0 : List Nat} (h : NatV w v l0) (ht : Trim l0) (hl : l0.length ≤ 1099511627770) :
    Calls Tryz.prog 162 #[v] w fun e w' => Below w.heap.size w w' ∧ ∃ v' rs, e = .returned v' ∧ NatV w' v' rs ∧ Runs rs ∧ rv rs = val l0 ∧ rs.length ≤ 2 * l0.length + 1 := by
  obtain ⟨i0, hi, hz0, hz1, hz2⟩ := info_parts Tryz.infoU32
  have HH := hideIt h
  have HT := hideIt ht
  have hlim0 := hideIt h.1
  have hvs : ∃ ao cap, v = .slice ao l0.length cap := by
    obtain ⟨_, ⟨rfl, ao, cap, rfl⟩ | ⟨b, off, cap, rfl, _⟩⟩ := h
    · exact ⟨ao, cap, rfl⟩
    · exact ⟨_, cap, rfl⟩
  obtain ⟨ao0, cap0, rfl⟩ := hvs
  clear h ht
  go_enter Tryz.func162, Tryz.ntmps162
  go_wp2_with fail
  refine (clone_calls HH.out (by omega)).mono ?_
  rintro e w1 ⟨hb1, ⟨rfl, rfl⟩ | ⟨g, cap, rfl, hg, hcl, hcm, hrow⟩⟩
  · go_wp2
    go_loopg [0, 3] 0 (fun k va vr wr => va = .slice none 0 0 ∧ vr = .slice none 0 0 ∧ wr = w1)
    case atStart => exact ⟨rfl, rfl, rfl⟩
    case round =>
      obtain ⟨rfl, rfl, rfl⟩ := hrel
      go_wp2
      go_ret
      exact ⟨hb1, _, [], rfl, ⟨fun x hx => by simp at hx, Or.inl ⟨rfl, _, _, rfl⟩⟩, ⟨fun x hx => by simp at hx, Or.inl rfl⟩, rfl, Nat.zero_le _⟩
  · have HR := hideIt hrow
    clear hrow
    go_wp2
    go_loopg [0, 3] (val l0) (fun k va vr wr => ∃ (l : List Nat) (n : Nat) (rs : List Nat), va = .slice (some ⟨g, 0, none⟩) n cap ∧ n ≤ l.length ∧ l.length = l0.length ∧ Row wr g l ∧ Lim l ∧ Trim (l.take n) ∧ val (l.take n) ≤ k ∧ (∀ x ∈ rs, x < 1000000000) ∧ rv rs + 1000000000 ^ rs.length * val (l.take n) = val l0 ∧ (val (l.take n) = 0 → rs = [] ∨ rs.getLast? ≠ some 0) ∧ wr.ownsRow w1.heap.size 168 1 vr rs.length (rs.map fun x : Nat => Value.int .u32 (x : Int)) ∧ Below w.heap.size w wr ∧ w1.heap.size ≤ wr.heap.size ∧ rs.length ≤ 2 * l0.length + 1)
    case atStart =>
      have e : l0.take l0.length = l0 := List.take_length
      exact ⟨l0, l0.length, [], rfl, Nat.le_refl _, rfl, HR.out, hlim0.out, by rw [e]; exact HT.out, by rw [e]; exact Nat.le_refl _, fun x hx => by simp at hx, by rw [e]; simp [rv], fun _ => Or.inl rfl, ⟨rfl, Or.inl ⟨rfl, rfl⟩⟩, hb1, Nat.le_refl _, Nat.zero_le _⟩
    case round =>
      obtain ⟨l, n, rs, rfl, hn, hll, hrow, hlim, htr, hk, hrs, hval, htop, hown, hbel, hsz, hrl⟩ := hrel
      have hgl : g < w1.heap.size := HR.out.lt
      have H1 := hideIt hrow
      have H2 := hideIt hlim
      have H3 := hideIt htr
      have H4 := hideIt hrs
      have H5 := hideIt hval
      have H6 := hideIt htop
      have H7 := hideIt hown
      clear hrow hlim htr hrs hval htop hown
      by_cases h0 : n = 0
      · subst h0
        go_wp2
        go_ret
        have h50 := H5.out
        have h60 := H6.out
        rw [List.take_zero, val_nil, Nat.mul_zero, Nat.add_zero] at h50
        rw [List.take_zero, val_nil] at h60
        refine ⟨hbel, _, rs, rfl, ?_, ⟨H4.out, h60 rfl⟩, h50, hrl⟩
        have hlr : Lim rs := fun x hx => by have := H4.out x hx; omega
        by_cases e : rs = []
        · subst e
          rcases H7.out.2 with ⟨e1, _⟩ | ⟨g', c', cur, e1, _⟩
          · exact ⟨hlr, Or.inl ⟨rfl, _, _, e1⟩⟩
          · exact ⟨hlr, Or.inl ⟨rfl, _, _, e1⟩⟩
        · obtain ⟨g', c', e1, hg', hm', hr'⟩ := rowC_of_owns rfl H7.out (fun e2 => by
            rcases H7.out.2 with ⟨_, e3⟩ | ⟨g', c', cur, e3, _⟩
            · exact e (List.length_eq_zero_iff.1 e3)
            · have e4 := e2.symm.trans e3
              cases e4)
          exact ⟨hlr, Or.inr ⟨g', 0, c', e1, hr'.le, hm', hr'.row.lt, hr'.row.seg⟩⟩
      · have hApos : Hid (0 < val (l.take n)) := by
          have h1 := trim_pos H3.out (by intro e; have := congrArg List.length e; rw [List.length_take, List.length_nil] at this; omega)
          exact Nat.lt_of_lt_of_le (pw_pos _) h1
        go_wp2_with fail
        refine (divideLimb_calls (cap := cap) H1.out H2.out hn (by omega) (by decide : 0 < 1000000000) (by decide)).mono ?_
        rintro e w2 ⟨rfl, honly, l', hrow', hlim', hlen', hv'⟩
        have hle2 : Hid (rs.length ≤ 2 * l0.length) := runs_len (by have := H5.out; omega) hApos.out (val_lt hlim0.out)
        obtain ⟨r, hr⟩ : ∃ r, r = val (l.take n) % 1000000000 := ⟨_, rfl⟩
        have hr9 : r < 1000000000 := by rw [hr]; exact Nat.mod_lt _ (by decide)
        rw [← hr]
        have K0 := hideIt hr
        have K1 := hideIt hrow'
        have K2 := hideIt hlim'
        have K3 := hideIt hv'
        have hs2 : w1.heap.size ≤ w2.heap.size := by rw [honly.size]; exact hsz
        have K4 := hideIt (honly.below hbel (by omega : w.heap.size ≤ g))
        have hown := owns_below (owns_only H7.out honly hgl) (below_new w2 (.cells #[.int .u32 (r : Int)] 168))
        have hnews : ∀ j u, ([Value.int .u32 (r : Int)] : List Value)[j]? = some u → (w2.alloc (.cells #[.int .u32 (r : Int)] 168)).cell? (Addr.add ⟨w2.heap.size, 0, none⟩ j) = some u := by
          intro j u hj
          match j, hj with
          | 0, hj => simp at hj; subst hj; simp [Addr.add]
        have HNW := hideIt hnews
        have HO := hideIt hown
        clear hnews hr hrow' hlim' hv' hown
        go_wp2_with (at_builtin; refine wpList_append_own _ rfl _ _ 81 rfl w1.heap.size 168 i0 (.int .u32 0) 1 4 Tryz.underlying81 hi hz0 hz1 hz2 rfl (by decide) _ rs.length (rs.map fun x : Nat => Value.int .u32 (x : Int)) rfl HO.out ⟨w2.heap.size, 0, none⟩ 1 1 [.int .u32 (r : Int)] rfl rfl HNW.out (by intro u hu; simp at hu; subst hu; rfl) (by unfold maxLen; omega) (by omega) (by simp; omega) ?_; intro v' w3 hown1 hgrow hnil)
        have hnb : ∀ i, i < w1.heap.size → w3.heap[i]? = w2.heap[i]? := by
          intro i hi'
          have h1 := hgrow.block i (by simp; omega) (by
            rcases H7.out.2 with ⟨e1, _⟩ | ⟨g', c', cur, e1, hb', _⟩
            · rw [e1]; simp [go_sem, Value.ownBlock]
            · rw [e1]; simp [go_sem, Value.ownBlock]; omega)
          rw [h1, (below_new w2 _).block i (by omega)]
        have hgs := hgrow.size
        have hb3 : Hid (Below w.heap.size w w3) := by
          have hb2 : Below w.heap.size w (w2.alloc (.cells #[.int .u32 (r : Int)] 168)) := K4.out.alloc (by have := hb1.size; omega) _
          exact ⟨hgrow.os.trans hb2.os, hgrow.tape.trans hb2.tape, hgrow.output.trans hb2.output, Nat.le_trans hb2.size hgrow.size, fun i hi' => by rw [hnb i (by have := hb1.size; omega), K4.out.block i hi']⟩
        have hs3 : w1.heap.size ≤ w3.heap.size := by simp at hgs; omega
        have hrow3 : Hid (Row w3 g l') := by
          obtain ⟨sp, h⟩ := K1.out
          exact ⟨sp, by rw [hnb g hgl, h]⟩
        rw [show (List.map (fun x : Nat => Value.int .u32 (x : Int)) rs ++ [Value.int .u32 (r : Int)]) = (rs ++ [r]).map (fun x : Nat => Value.int .u32 (x : Int)) from by simp, show rs.length + 1 = (rs ++ [r]).length from by simp] at hown1
        have HO1 := hideIt hown1
        clear hown1 hgrow hnil hnb hgs
        have hnl : (l'.take n).length = n := by rw [List.length_take]; omega
        have htrim := trim_some g 0 cap (l'.take n) w3 (by omega) hcm (hrow3.out.seg.pre n)
        rw [hnl] at htrim
        refine htrim.mono ?_
        rintro e w4 ⟨rfl, hw4⟩
        have hw5 := hw4.symm; subst hw5; clear hw4 htrim
        have hsl := sig_le (l'.take n)
        have hst : l'.take (sig (l'.take n)) = strip (l'.take n) := by
          unfold strip; rw [List.take_take, Nat.min_eq_left (by omega)]
        have hvn : val (l'.take (sig (l'.take n))) = val (l.take n) / 1000000000 := by rw [hst, val_strip, K3.out]
        have HST := hideIt hst
        have HVN := hideIt hvn
        clear hst hvn
        generalize sig (l'.take n) = m at *
        go_wp2
        go_roundg (val (l.take n) / 1000000000)
        case measure =>
          have := hApos.out
          omega
        case rel =>
          refine ⟨l', m, rs ++ [r], rfl, by omega, by omega, hrow3.out, K2.out, by rw [HST.out]; exact strip_trim _, by rw [HVN.out]; exact Nat.le_refl _, ?_, ?_, ?_, HO1.out, hb3.out, hs3, ?_⟩
          · intro x hx
            rcases List.mem_append.1 hx with hx | hx
            · exact H4.out x hx
            · rw [List.mem_singleton.1 hx]; exact hr9
          · rw [HVN.out, K0.out]; exact rv_round H5.out
          · intro h0'
            right
            rw [HVN.out] at h0'
            rw [List.getLast?_concat]
            have := hApos.out
            have := K0.out
            intro e
            cases e
            omega
          · rw [List.length_append, List.length_singleton]
            have := hle2.out
            omega
end Go.Proofs.YtgajdmadbdbabaaGreatDoor
/- TF -/
namespace Go.Proofs.YtgajdmadbdbabaaGreatDoor
open Go.RowKit Cx Go.Sort
def Tab (w : World) : Prop := Lib.TabIs Tryz.prog w "internal/strconv.uint64pow10" .u64 Lib.pow10Tab
theorem Tab.below {w w' : World} (h : Tab w) (hb : Below w.heap.size w w') : Tab w' := by
  unfold Tab Lib.TabIs World.var? at *
  cases hg : (Tryz.prog).globalNamed "internal/strconv.uint64pow10" with
  | none => simp [hg] at h
  | some g =>
    simp only [hg, Option.bind_some] at h ⊢
    have hlt : g < w.heap.size := by
      rcases Nat.lt_or_ge g w.heap.size with h' | h'
      · exact h'
      · rw [Array.getElem?_eq_none h'] at h; simp at h
    rw [hb.block g hlt]
    exact h
theorem holds0 (w : World) (T : TypeId) (nd : Nat) (hs : nd ≤ 24) : Holds (fun (b : UInt8) => Value.int .u8 (b.toNat : Int)) (w.alloc (.cells Lib.zeros24 T)) w.heap.size 0 (Array.replicate nd (0 : UInt8)) := fun j hj => by
  have hj' : j < nd := by simpa using hj
  refine ⟨?_, World.frozen?_alloc_new _ _ _ _⟩
  rw [World.cell?_alloc_new, Lib.zeros24_at _ (by omega), getElem!_pos _ j hj]
  simp
theorem fmt_small (u : Nat) (hu : u < 100) (w : World) :
    Calls Tryz.prog 205 #[.int .u64 u, .int .i64 10] w fun e w' => e = .returned (.string ⟨(Lib.decDigits u).toArray⟩) ∧ Below w.heap.size w w' := by
  go_enter Tryz.func205, Tryz.ntmps205
  go_wp2_with fail
  refine (Tryz.internal_strconv_small u hu _).mono ?_
  rintro e w' ⟨rfl, hw⟩
  have hw2 := hw.symm; subst hw2; clear hw
  go_wp2
  go_ret
  exact ⟨rfl, Below.refl _ _⟩
theorem fmt_big (u : Nat) (hu : 100 ≤ u) (hu2 : u < 4294967296) (w : World) (ht : Tab w) :
    Calls Tryz.prog 205 #[.int .u64 u, .int .i64 10] w fun e w' => e = .returned (.string ⟨(Lib.decDigits u).toArray⟩) ∧ Below w.heap.size w w' := by
  have hu64 : u < 18446744073709551616 := by omega
  have hnd20 : Lib.nDigits u ≤ 20 := by have := Lib.numDigits_eq u (by omega) hu64; split at this <;> omega
  have hal : (Tryz.prog).arrayLen 237 = 24 := by simp [Program.arrayLen, Tryz.underlying237]
  have hsl1 : ∀ W, (Instr.sliceAt 237 (.pointer (some ⟨w.heap.size, 0, none⟩)) none (some (.int .i64 (Lib.nDigits u : Int))) none).run Tryz.prog W = .ok (.slice (some ⟨w.heap.size, 0, none⟩) (Lib.nDigits u) 24) W := fun W => by
    rw [run_sliceAt_array_h W 237 ⟨w.heap.size, 0, none⟩ (by simp [Program.arrayLen, Program.elem, Tryz.underlying237]) .i64 (Lib.nDigits u : Int) (by omega) (by rw [hal]; omega)]
    go_simp
  have hH0 := holds0 w 237 (Lib.nDigits u) (by omega)
  have hfmt := Tryz.internal_strconv_formatBase10 w.heap.size 0 24 u (Array.replicate (Lib.nDigits u) 0) (w.alloc (.cells Lib.zeros24 237)) hH0 (by rw [Array.size_replicate]; exact Lib.lt_pow_nDigits u) hu64 (by rw [Array.size_replicate]; omega)
  rw [Array.size_replicate] at hfmt
  have HH0 := hideIt hH0
  have HT := hideIt (Lib.tabIs_alloc ht (.cells Lib.zeros24 237))
  have HF := hideIt hfmt
  clear hH0 hal ht hfmt
  go_enter Tryz.func205, Tryz.ntmps205
  go_wp2_with fail
  refine (Tryz.internal_strconv_numDigits u (by omega) hu64 _ HT.out).mono ?_
  rintro e w' ⟨rfl, hw⟩
  have hw2 := hw.symm; subst hw2; clear hw
  go_wp2_with fail
  refine Calls.mono HF.out ?_
  rintro e w' ⟨rfl, k, v', dk, hw, hF⟩
  have hw2 := hw.symm; subst hw2; clear hw
  have hcv : (convert 176 9 (.slice (some ⟨w.heap.size, 0, none⟩) (Lib.nDigits u) 24)).run Tryz.prog ((putRow (fun (b : UInt8) => Value.int .u8 (b.toNat : Int)) (w.alloc (.cells Lib.zeros24 237)) w.heap.size 0 dk).drewN k) = .ok (.string ⟨(Lib.decDigits u).toArray⟩) ((putRow (fun (b : UInt8) => Value.int .u8 (b.toNat : Int)) (w.alloc (.cells Lib.zeros24 237)) w.heap.size 0 dk).drewN k) := by
    have h := run_convert_bytes_back (P := Tryz.prog) ((putRow (fun (b : UInt8) => Value.int .u8 (b.toNat : Int)) (w.alloc (.cells Lib.zeros24 237)) w.heap.size 0 dk).drewN k) 176 9 5 ⟨w.heap.size, 0, none⟩ 24 (Lib.decDigits u) Tryz.underlying176 Tryz.underlying5 Tryz.underlying9 (fun j hj => by
      rw [Lib.row_is_numeral hF j hj, Lib.add_plain, World.cell?_drewN]
      exact cell?_putRow (fun (b : UInt8) => Value.int .u8 (b.toNat : Int)) _ w.heap.size 0 _ dk HH0.out (by rw [hF.size, Array.size_replicate]) j (by rw [hF.size]; rw [Lib.decDigits_length] at hj; exact hj))
    rw [Lib.decDigits_length] at h
    exact h
  go_wp2
  go_ret
  refine ⟨rfl, ?_⟩
  obtain ⟨os, _, e⟩ := putRow_grow_new (fun (b : UInt8) => Value.int .u8 (b.toNat : Int)) w #[.cells Lib.zeros24 237] w.heap.size 0 dk (Nat.le_refl _)
  rw [alloc_eq_grow, e]
  refine belowDrewN ?_ k
  refine ⟨rfl, rfl, rfl, ?_, ?_⟩
  · simp [grow]
  · intro i hi
    simp [grow, Array.getElem?_append_left hi]
theorem fmt_calls (u : Nat) (hu : u < 4294967296) (w : World) (ht : Tab w) :
    Calls Tryz.prog 163 #[.int .u64 u, .int .i64 10] w fun e w' => e = .returned (.string ⟨(Lib.decDigits u).toArray⟩) ∧ Below w.heap.size w w' := by
  have h : Calls Tryz.prog 205 #[.int .u64 u, .int .i64 10] w fun e w' => e = .returned (.string ⟨(Lib.decDigits u).toArray⟩) ∧ Below w.heap.size w w' := by
    rcases Nat.lt_or_ge u 100 with h | h
    · exact fmt_small u h w
    · exact fmt_big u h hu w ht
  have H := hideIt h
  clear h ht
  go_enter Tryz.func163, Tryz.ntmps163
  go_wp2_with fail
  refine Calls.mono H.out ?_
  rintro e w' ⟨rfl, hb⟩
  go_wp2
  go_ret
  exact ⟨rfl, hb⟩
def Bld (B b : Nat) (l : List UInt8) (w : World) : Prop := Lib.IsBuilderF 178 5 B b (Lib.byteCells l) w
theorem bld_write (B b : Nat) (l : List UInt8) (s : ByteArray) (w : World) (h : Bld B b l w) (hlen : l.length + s.size ≤ 140737488355328) (hBw : B ≤ w.heap.size) :
    Calls Tryz.prog 164 #[.pointer (some ⟨b, 0, none⟩), .string s] w fun e w' => e = .returned (.tuple #[.int .i64 s.size, .nilIface]) ∧ Bld B b (l ++ s.data.toList) w' ∧ Below B w w' := by
  refine (Any.Builder_WriteString_k { Tryz.lays105 with } Tryz.Builder_Extra_105 B b (Lib.byteCells l) s w h (by rw [Lib.byteCells_length]; exact hlen) hBw).mono ?_
  rintro e w' ⟨rfl, h1, h2, _⟩
  refine ⟨rfl, Or.inr ?_, h2⟩
  have e1 : Lib.byteCells l ++ Lib.strCells s = Lib.byteCells (l ++ s.data.toList) := by rw [Lib.strCells_eq]; simp [Lib.byteCells]
  rw [e1] at h1
  exact h1
theorem bld_string (B b : Nat) (l : List UInt8) (w : World) (h : Bld B b l w) (hBw : B ≤ w.heap.size) :
    Calls Tryz.prog 166 #[.pointer (some ⟨b, 0, none⟩)] w fun e w' => e = .returned (.string ⟨l.toArray⟩) ∧ Below B w w' := by
  refine (Tryz.Builder_String_any_f B b l w h hBw).mono ?_
  rintro e w' ⟨rfl, _, h2⟩
  exact ⟨rfl, h2⟩
theorem bld_new (w : World) : Bld w.heap.size w.heap.size [] (w.alloc (.cells #[.pointer none, .slice none 0 0] 178)) := by
  refine Or.inl ⟨Nat.le_refl _, .slice none 0 0, ?_, ⟨rfl, Or.inl ⟨rfl, rfl⟩⟩, ?_⟩
  · show (w.heap.push _)[w.heap.size]? = _
    simp
  · simp [Value.ownBlock]
theorem Bld.below {B b : Nat} {l : List UInt8} {w w' : World} (h : Bld B b l w) (hb : Below w.heap.size w w') : Bld B b l w' := by
  have one : ∀ p, Lib.BuilderAtF 178 5 B b p (Lib.byteCells l) w → Lib.BuilderAtF 178 5 B b p (Lib.byteCells l) w' := by
    rintro p ⟨h1, v, h2, h3, h4⟩
    have lt : ∀ {g : Nat} {o : Obj}, w.heap[g]? = some o → g < w.heap.size := by
      intro g o e
      by_cases e' : g < w.heap.size
      · exact e'
      · rw [Array.getElem?_eq_none (by omega)] at e; cases e
    refine ⟨h1, v, by rw [hb.block b (lt h2), h2], ⟨h3.1, ?_⟩, h4⟩
    rcases h3.2 with h | ⟨g', cap, cur, fz, rfl, h5, h6, h7⟩
    · exact Or.inl h
    · exact Or.inr ⟨g', cap, cur, fz, rfl, h5, by rw [hb.block g' (lt h6), h6], h7⟩
  rcases h with h | h
  · exact Or.inl (one _ h)
  · exact Or.inr (one _ h)
end Go.Proofs.YtgajdmadbdbabaaGreatDoor
/- TG -/
namespace Go.Proofs.YtgajdmadbdbabaaGreatDoor
open Go.RowKit Cx
def bytesFrom (rs : List Nat) (k : Nat) : List UInt8 := if k = rs.length then [] else Lib.decDigits (rv (rs.drop k))
theorem rv_pos {rs : List Nat} (h : Runs rs) {k : Nat} (hk : k < rs.length) : 0 < rv (rs.drop k) := by
  have h1 : rs.drop k ≠ [] := by
    intro e
    have := congrArg List.length e
    rw [List.length_drop] at this
    simp at this
    omega
  obtain ⟨a, x, e⟩ : ∃ a x, rs.drop k = a ++ [x] := ⟨_, _, (List.dropLast_concat_getLast h1).symm⟩
  have hx : rs.getLast? = some x := by
    have e2 : rs = rs.take k ++ (a ++ [x]) := by rw [← e, List.take_append_drop]
    rw [e2, ← List.append_assoc, List.getLast?_concat]
  have hx0 : x ≠ 0 := by
    intro e0
    rcases h.top with h2 | h2
    · rw [h2] at hk; simp at hk
    · exact h2 (by rw [hx, e0])
  rw [e, rv_snoc]
  have : 0 < 1000000000 ^ a.length * x := Nat.mul_pos (Nat.pow_pos (by decide)) (Nat.pos_of_ne_zero hx0)
  omega
theorem runs_lt {rs : List Nat} (h : Runs rs) {m : Nat} (hm : m < rs.length) : nth rs m < 1000000000 := by
  rw [nth_get hm]; exact h.lt _ (List.getElem_mem hm)
theorem nd9 {x : Nat} (h : x < 1000000000) : Lib.nDigits x ≤ 9 := by
  rcases Nat.lt_or_ge 9 (Lib.nDigits x) with h9 | h9
  · have h1 : ∀ (k u : Nat), k < Lib.nDigits u → 10 ^ k ≤ u ∨ u = 0 ∨ k = 0 := by
      intro k
      induction k with
      | zero => intro u _; exact Or.inr (Or.inr rfl)
      | succ k ih =>
        intro u hu
        by_cases h10 : u < 10
        · rw [Lib.nDigits_small h10] at hu; omega
        · rw [Lib.nDigits_big h10] at hu
          rcases ih (u / 10) (by omega) with h | h | h
          · left; rw [Nat.pow_succ]; omega
          · omega
          · subst h; left; omega
    rcases h1 9 x h9 with h | h | h
    · omega
    · subst h; rw [Lib.nDigits_small (by decide)] at h9; omega
    · omega
  · exact h9
theorem bytes_first {rs : List Nat} {m : Nat} (hm : m + 1 = rs.length) : bytesFrom rs (m + 1) ++ Lib.decDigits (nth rs m) = bytesFrom rs m := by
  unfold bytesFrom
  rw [if_pos hm, if_neg (by omega), List.nil_append]
  have e : rs.drop m = [nth rs m] := by
    rw [List.drop_eq_getElem_cons (by omega), nth_get (by omega)]
    rw [List.drop_eq_nil_of_le (by omega)]
  rw [e]
  simp [rv]
theorem bytes_next {rs : List Nat} (h : Runs rs) {m : Nat} (hm : m + 1 < rs.length) : bytesFrom rs (m + 1) ++ List.replicate (9 - Lib.nDigits (nth rs m)) 48 ++ Lib.decDigits (nth rs m) = bytesFrom rs m := by
  unfold bytesFrom
  rw [if_neg (by omega), if_neg (by omega)]
  have e : rs.drop m = nth rs m :: rs.drop (m + 1) := by
    rw [List.drop_eq_getElem_cons (by omega), nth_get (by omega)]
  have h9 := runs_lt h (m := m) (by omega)
  have := dec_pad 9 (rv (rs.drop (m + 1))) (nth rs m) (rv_pos h hm) h9
  rw [e, rv, this, padk_dec 9 _ (nd9 h9), Lib.decDigits_length, List.append_assoc]
theorem repeat_zero (c : Nat) : (Lib.repeatL [48] c) = List.replicate c 48 := by
  induction c with
  | zero => rfl
  | succ c ih => rw [Lib.repeatL, ih, List.replicate_succ]; rfl
theorem natText_walk {w : World} {v : Value} {l0 : List Nat} (h : NatV w v l0) (ht : Trim l0) (hl : l0.length ≤ 1099511627770) (tab : Tab w) :
    Calls Tryz.prog 124 #[v] w fun e w' => Below w.heap.size w w' ∧ ∃ s : ByteArray, e = .returned (.string s) ∧ s.data.toList = Lib.decDigits (val l0) := by
  have HV := hideIt h
  have HT := hideIt ht
  have HTAB := hideIt tab
  clear h ht tab
  go_enter Tryz.func124, Tryz.ntmps124
  go_wp2_with fail
  refine (runs_walk HV.out HT.out hl).mono ?_
  rintro e w1 ⟨hb1, v', rs, rfl, hrs, hruns, hval, hlen⟩
  have htab1 := hideIt (HTAB.out.below hb1)
  have HR := hideIt hruns
  have HVAL := hideIt hval
  have HB1 := hideIt hb1
  have HRS := hideIt hrs
  have hvs : ∃ ao cap, v' = .slice ao rs.length cap := by
    obtain ⟨_, ⟨rfl, ao, cap, rfl⟩ | ⟨b, off, cap, rfl, _⟩⟩ := hrs
    · exact ⟨ao, cap, rfl⟩
    · exact ⟨_, cap, rfl⟩
  obtain ⟨ao, cap, rfl⟩ := hvs
  clear hrs hruns hval hb1 HTAB
  by_cases h0 : rs.length = 0
  · rw [h0]
    go_wp2
    go_ret
    have : rs = [] := List.length_eq_zero_iff.1 h0
    subst this
    refine ⟨HB1.out, _, rfl, ?_⟩
    rw [← HVAL.out, show rv [] = 0 from rfl, dec_small (by decide)]
    rfl
  · have hne : ((rs.length : Int) == 0) = false := by rw [beq_eq_false_iff_ne]; omega
    have hbN := hideIt (bld_new w1)
    obtain ⟨ao', cap', b1, o1, e, hsl⟩ := HRS.out.sl Tryz.underlying81 Tryz.sizeOf168
    cases e
    have HSL := hideIt hsl
    clear hsl
    go_wp2
    go_loopw [5] (fun i wr => ∃ k : Nat, k ≤ rs.length ∧ i = .int .i64 ((k : Int) - 1) ∧ Bld w1.heap.size w1.heap.size (bytesFrom rs k) wr ∧ (bytesFrom rs k).length ≤ 9 * (rs.length - k) ∧ Below w1.heap.size w1 wr) (fun i _ => (intOf i + 1).toNat)
    case atStart =>
      refine ⟨rs.length, Nat.le_refl _, rfl, ?_, ?_, below_new _ _⟩
      · unfold bytesFrom; rw [if_pos rfl]; exact hbN.out
      · unfold bytesFrom; rw [if_pos rfl]; simp
    case round =>
      obtain ⟨k, hk, rfl, hbld, hbl, hbel⟩ := hrel
      have HBLD := hideIt hbld
      have hsz := hideIt hbel.size
      clear hbld
      by_cases hk0 : k = 0
      · subst hk0
        go_wp2_with fail
        refine (bld_string _ _ _ _ HBLD.out hsz.out).mono ?_
        rintro e w5 ⟨rfl, hb5⟩
        go_wp2
        go_ret
        refine ⟨HB1.out.trans ((hbel.trans hb5).mono HB1.out.size), _, rfl, ?_⟩
        unfold bytesFrom
        rw [if_neg (by omega), List.drop_zero, HVAL.out]
      · obtain ⟨m, rfl⟩ : ∃ m, k = m + 1 := ⟨k - 1, by omega⟩
        rw [show (((m + 1 : Nat) : Int) - 1) = (m : Int) from by omega]
        have hia := HSL.out.idx m (by omega)
        have hca := (hbel.cell (p := ⟨b1, o1 + m, none⟩) (HSL.out.lt (by omega))).trans (HSL.out.seg m (by omega))
        have hx9 := runs_lt HR.out (m := m) (by omega)
        have hd9 := nd9 hx9
        have HN1 := hideIt (fun h => bytes_first (rs := rs) (m := m) h)
        have HN2 := hideIt (fun h => bytes_next HR.out (m := m) h)
        generalize nth rs m = x at *
        go_wp2_with fail
        refine (fmt_calls x (by omega) _ (htab1.out.below hbel)).mono ?_
        rintro e w2 ⟨rfl, hb2⟩
        have hts : (⟨(Lib.decDigits x).toArray⟩ : ByteArray).size = Lib.nDigits x := by
          show (Lib.decDigits x).toArray.size = _
          rw [List.size_toArray, Lib.decDigits_length]
        obtain ⟨t, ht, htl, hts⟩ : ∃ t : ByteArray, (⟨(Lib.decDigits x).toArray⟩ : ByteArray) = t ∧ Hid (t.data.toList = Lib.decDigits x) ∧ t.size = Lib.nDigits x := ⟨_, rfl, rfl, hts⟩
        rw [ht]
        clear ht
        have hbel2 := hbel.trans (hb2.mono hsz.out)
        have HBLD2 := hideIt (HBLD.out.below hb2)
        have hsz2 := hideIt hbel2.size
        by_cases hlast : m + 1 = rs.length
        · have hcond : ¬ (m : Int) < (rs.length : Int) - 1 := by omega
          go_wp2_with fail
          refine (bld_write _ _ _ t _ HBLD2.out (by omega) hsz2.out).mono ?_
          rintro e w3 ⟨rfl, hbld3, hb3⟩
          have HBLD3 := hideIt hbld3
          clear hbld3
          go_wp2
          go_roundw
          case rel =>
            have e := HN1.out hlast
            refine ⟨m, by omega, by go_num, ?_, ?_, hbel2.trans hb3⟩
            · rw [← e, ← htl.out]; exact HBLD3.out
            · rw [← e, List.length_append, Lib.decDigits_length]; omega
          case measure => simp [intOf]
        · have hcond : (m : Int) < (rs.length : Int) - 1 := by omega
          have hd : (9 : Int) - (Lib.nDigits x : Nat) = ((9 - Lib.nDigits x : Nat) : Int) := by omega
          have hzs : (⟨(Lib.repeatL (⟨#[48]⟩ : ByteArray).data.toList (9 - Lib.nDigits x)).toArray⟩ : ByteArray).size = 9 - Lib.nDigits x := by
            show (Lib.repeatL [48] (9 - Lib.nDigits x)).toArray.size = _
            rw [List.size_toArray, repeat_zero, List.length_replicate]
          go_wp2_with fail
          refine (Tryz.strings_Repeat ⟨#[48]⟩ (9 - Lib.nDigits x) w2 (by omega) (by
            show 1 * (9 - Lib.nDigits x) ≤ 140737488355328
            omega)).mono ?_
          rintro e w3 ⟨rfl, hb3⟩
          obtain ⟨z, hz, hzl, hzs⟩ : ∃ z : ByteArray, (⟨(Lib.repeatL (⟨#[48]⟩ : ByteArray).data.toList (9 - Lib.nDigits x)).toArray⟩ : ByteArray) = z ∧ Hid (z.data.toList = List.replicate (9 - Lib.nDigits x) 48) ∧ z.size = 9 - Lib.nDigits x := ⟨_, rfl, repeat_zero _, hzs⟩
          rw [hz]
          clear hz
          have hbel3 := hbel2.trans (hb3.mono hsz2.out)
          have HBLD3 := hideIt (HBLD2.out.below hb3)
          have hsz3 := hideIt hbel3.size
          go_wp2_with fail
          refine (bld_write _ _ _ z _ HBLD3.out (by omega) hsz3.out).mono ?_
          rintro e w4 ⟨rfl, hbld4, hb4⟩
          have HBLD4 := hideIt hbld4
          clear hbld4
          have hbel4 := hbel3.trans hb4
          have hsz4 := hideIt hbel4.size
          go_wp2_with fail
          refine (bld_write _ _ _ t _ HBLD4.out (by rw [List.length_append, hzl.out, List.length_replicate]; omega) hsz4.out).mono ?_
          rintro e w5 ⟨rfl, hbld5, hb5⟩
          have HBLD5 := hideIt hbld5
          clear hbld5
          go_wp2
          go_roundw
          case rel =>
            have e := HN2.out (by omega)
            refine ⟨m, by omega, by go_num, ?_, ?_, hbel4.trans hb5⟩
            · rw [← e, ← htl.out, ← hzl.out]; exact HBLD5.out
            · rw [← e, List.length_append, List.length_append, Lib.decDigits_length, List.length_replicate]; omega
          case measure => simp [intOf]
theorem natText_calls {w : World} {v : Value} {n : Nat} (h : NatN w v n) (hs : Small n) (tab : Tab w) :
    Calls Tryz.prog 124 #[v] w fun e w' => Below w.heap.size w w' ∧ ∃ s : ByteArray, e = .returned (.string s) ∧ s.data.toList = Lib.decDigits n := by
  obtain ⟨l, hl, ht, rfl⟩ := h
  exact natText_walk hl ht (hs.len0 ht) tab
end Go.Proofs.YtgajdmadbdbabaaGreatDoor
/- TH -/
namespace Go.Proofs.YtgajdmadbdbabaaGreatDoor
open Go.RowKit Cx
attribute [local go_sem ↓] Go.wp_at_zero Go.wp_at_succ
theorem text_walk {w : World} {c : C3} {q : Rat} (h : QV w (.agg #[.bool c.n, .slice c.u c.nu c.cu, .slice c.l c.nl c.cl]) q) {k : Nat} (f : QS k q) (hk : k ≤ 35184372088640) (tab : Tab w) :
    Calls Tryz.prog 78 #[.agg #[.bool c.n, .slice c.u c.nu c.cu, .slice c.l c.nl c.cl]] w fun e w' => Below w.heap.size w w' ∧ ∃ s : ByteArray, e = .returned (.string s) ∧ s.data.toList = tx q := by
  obtain ⟨hb0, hk0, hsz⟩ := boxes1 w #[.bool c.n, .slice c.u c.nu c.cu, .slice c.l c.nl c.cl] 84
  have HB0 := hideIt hb0
  have HSZ := hideIt hsz
  have HK0 := hideIt hk0
  have HTAB := hideIt (tab.below hb0)
  have SU := hideIt (small_two f.num hk)
  have SL := hideIt (small_two f.den hk)
  have N1 := hideIt (nDigits_two f.num)
  have N2 := hideIt (nDigits_two f.den)
  obtain ⟨vu, vl, e, h1, h2⟩ := h
  have H1 := hideIt (h1.below hb0)
  have H2 := hideIt (h2.below hb0)
  obtain ⟨a2, n2, c2, e2, _, _, hz⟩ := len_big h2
  have hn : c.n = decide (q.num < 0) ∧ vu = .slice c.u c.nu c.cu ∧ vl = .slice c.l c.nl c.cl := by
    simp only [Value.agg.injEq, Array.mk.injEq, List.cons.injEq, Value.bool.injEq, and_true] at e
    exact ⟨e.1, e.2.1.symm, e.2.2.symm⟩
  obtain ⟨hn, rfl, rfl⟩ := hn
  cases e2
  clear e hb0 hsz hk0 tab f h1 h2
  obtain ⟨z0, z1, z2, _, _, _⟩ := HK0.out.all3
  have HN := hideIt hn
  have hlow : Hid (c.nl = 0 ↔ q.den = 1) := by
    show _ ↔ _
    rw [hz]
    split
    · rename_i h; simp [h]
    · rename_i h; have := q.den_nz; simp [h, this]
  clear hz hn
  go_enter Tryz.func78, Tryz.ntmps78
  go_wp2_with fail
  generalize (w.alloc (.cells #[.bool c.n, .slice c.u c.nu c.cu, .slice c.l c.nl c.cl] 84)) = W0 at *
  refine (natText_calls H1.out SU.out HTAB.out).mono ?_
  rintro e w1 ⟨hb1, s1, rfl, hs1⟩
  have hl1 : s1.size ≤ k + 1 := by
    have h := congrArg List.length hs1
    rw [Lib.decDigits_length] at h
    have h' : s1.size = s1.data.toList.length := by simp
    have := N1.out
    omega
  have HS1 := hideIt hs1
  clear hs1
  have hk1 := HK0.out.below hb1 (by rw [HSZ.out]; omega)
  obtain ⟨y0, y1, y2, _, _, _⟩ := hk1.all3
  have hcn : c.n = true ∨ c.n = false := by cases c.n <;> simp
  have hcl : c.nl = 0 ∨ ((c.nl : Int) != 0) = true := by
    rcases Nat.eq_zero_or_pos c.nl with h | h
    · exact Or.inl h
    · right; simp; omega
  rcases hcn with hcn | hcn
  · have hq : Hid (q.num < 0) := by have h := HN.out; rw [hcn] at h; show q.num < 0; exact of_decide_eq_true h.symm
    rw [hcn] at y0
    rcases hcl with hcl | hcl
    · have hd : Hid (q.den = 1) := hlow.out.1 hcl
      rw [hcl] at y2
      go_wp2
      go_ret
      refine ⟨HB0.out.trans (hb1.mono HB0.out.size), _, rfl, ?_⟩
      unfold tx
      rw [if_pos hq.out, if_pos hd.out, List.append_nil, ← HS1.out]
      simp
    · have hd : Hid (¬ q.den = 1) := fun e => by have := hlow.out.2 e; rw [this] at hcl; simp at hcl
      have h2 := H2.out
      rw [if_neg hd.out] at h2
      have H2' := hideIt h2
      clear h2
      go_wp2_with fail
      refine (natText_calls (H2'.out.below hb1) SL.out (HTAB.out.below hb1)).mono ?_
      rintro e w2 ⟨hb2, s2, rfl, hs2⟩
      have hl2 : s2.size ≤ k + 1 := by
        have h := congrArg List.length hs2
        rw [Lib.decDigits_length] at h
        have h' : s2.size = s2.data.toList.length := by simp
        have := N2.out
        omega
      have HS2 := hideIt hs2
      clear hs2
      go_wp2
      go_ret
      refine ⟨HB0.out.trans ((hb1.trans (hb2.mono hb1.size)).mono HB0.out.size), _, rfl, ?_⟩
      unfold tx
      rw [if_pos hq.out, if_neg hd.out, ← HS1.out, ← HS2.out]
      simp
  · have hq : Hid (¬ q.num < 0) := by have h := HN.out; rw [hcn] at h; show ¬ q.num < 0; exact of_decide_eq_false h.symm
    rw [hcn] at y0
    rcases hcl with hcl | hcl
    · have hd : Hid (q.den = 1) := hlow.out.1 hcl
      rw [hcl] at y2
      go_wp2
      go_ret
      refine ⟨HB0.out.trans (hb1.mono HB0.out.size), _, rfl, ?_⟩
      unfold tx
      rw [if_neg (Int.not_lt.2 hq.out), if_pos hd.out, List.append_nil, ← HS1.out]
      rfl
    · have hd : Hid (¬ q.den = 1) := fun e => by have := hlow.out.2 e; rw [this] at hcl; simp at hcl
      have h2 := H2.out
      rw [if_neg hd.out] at h2
      have H2' := hideIt h2
      clear h2
      go_wp2_with fail
      refine (natText_calls (H2'.out.below hb1) SL.out (HTAB.out.below hb1)).mono ?_
      rintro e w2 ⟨hb2, s2, rfl, hs2⟩
      have hl2 : s2.size ≤ k + 1 := by
        have h := congrArg List.length hs2
        rw [Lib.decDigits_length] at h
        have h' : s2.size = s2.data.toList.length := by simp
        have := N2.out
        omega
      have HS2 := hideIt hs2
      clear hs2
      go_wp2
      go_ret
      refine ⟨HB0.out.trans ((hb1.trans (hb2.mono hb1.size)).mono HB0.out.size), _, rfl, ?_⟩
      unfold tx
      rw [if_neg (Int.not_lt.2 hq.out), if_neg hd.out, ← HS1.out, ← HS2.out]
      simp
theorem text_calls {w : World} {v : Value} {q : Rat} (h : QV w v q) {k : Nat} (f : QS k q) (hk : k ≤ 35184372088640) (tab : Tab w) :
    Calls Tryz.prog 78 #[v] w fun e w' => Below w.heap.size w w' ∧ ∃ s : ByteArray, e = .returned (.string s) ∧ s.data.toList = tx q := by
  obtain ⟨c, rfl⟩ := qv_open h
  exact text_walk h f hk tab
end Go.Proofs.YtgajdmadbdbabaaGreatDoor
/- WG -/
namespace Go.Proofs.YtgajdmadbdbabaaGreatDoor
open Go.RowKit Cx
attribute [local go_sem ↓] Go.wp_at_zero Go.wp_at_succ
theorem sg_zero {q : Rat} : (q.num = 0) ↔ q = 0 := Rat.num_eq_zero
theorem nowhere_walk {w : World} {c d : C3} {x y : Rat} (hx : QV w (.agg #[.bool c.n, .slice c.u c.nu c.cu, .slice c.l c.nl c.cl]) x) (hy : QV w (.agg #[.bool d.n, .slice d.u d.nu d.cu, .slice d.l d.nl d.cl]) y) :
    Calls Tryz.prog 105 #[.agg #[.bool c.n, .slice c.u c.nu c.cu, .slice c.l c.nl c.cl, .bool d.n, .slice d.u d.nu d.cu, .slice d.l d.nl d.cl]] w fun e w' => Below w.heap.size w w' ∧ e = .returned (.bool (decide (x = 0 ∧ y = 0))) := by
  obtain ⟨hb0, hk0, hsz⟩ := boxes1 w #[.bool c.n, .slice c.u c.nu c.cu, .slice c.l c.nl c.cl, .bool d.n, .slice d.u d.nu d.cu, .slice d.l d.nl d.cl] 86
  have HB0 := hideIt hb0
  have HSZ := hideIt hsz
  have HK0 := hideIt hk0
  have HX := hideIt (hx.below hb0)
  have HY := hideIt (hy.below hb0)
  clear hb0 hsz hk0 hx hy
  obtain ⟨r, hr⟩ : ∃ r, r = decide (x = 0 ∧ y = 0) := ⟨_, rfl⟩
  rw [← hr]
  have HRR := hideIt hr
  clear hr
  go_enter Tryz.func105, Tryz.ntmps105
  go_wp2_with fail
  generalize (w.alloc (.cells #[.bool c.n, .slice c.u c.nu c.cu, .slice c.l c.nl c.cl, .bool d.n, .slice d.u d.nu d.cu, .slice d.l d.nl d.cl] 86)) = W0 at *
  refine (sign_calls HX.out).mono ?_
  rintro e w1 ⟨hb1, rfl⟩
  have hk1 := HK0.out.below hb1 (by rw [HSZ.out]; omega)
  obtain ⟨y0, y1, y2, y3, y4, y5, _⟩ := hk1.all6
  by_cases h1 : x = 0
  · rw [if_pos (sg_zero.2 h1)]
    have HX1 := hideIt h1
    clear h1
    go_wp2_with fail
    refine (sign_calls (HY.out.below hb1)).mono ?_
    rintro e w2 ⟨hb2, rfl⟩
    by_cases h2 : y = 0
    · rw [if_pos (sg_zero.2 h2)]
      have HX2 := hideIt h2
      clear h2
      go_wp2
      go_ret
      exact ⟨HB0.out.trans ((hb1.trans (hb2.mono hb1.size)).mono HB0.out.size), by rw [HRR.out, decide_eq_true (And.intro HX1.out HX2.out)]; rfl⟩
    · rw [if_neg (fun h => h2 (sg_zero.1 h))]
      have hne : ((if y.num < 0 then (-1 : Int) else 1) == 0) = false := by split <;> rfl
      generalize (if y.num < 0 then (-1 : Int) else 1) = z at *
      have HX2 := hideIt h2
      clear h2
      go_wp2
      go_ret
      exact ⟨HB0.out.trans ((hb1.trans (hb2.mono hb1.size)).mono HB0.out.size), by rw [HRR.out, decide_eq_false (fun h => HX2.out h.2)]; rfl⟩
  · rw [if_neg (fun h => h1 (sg_zero.1 h))]
    have hne : ((if x.num < 0 then (-1 : Int) else 1) == 0) = false := by split <;> rfl
    generalize (if x.num < 0 then (-1 : Int) else 1) = z at *
    have HX1 := hideIt h1
    clear h1
    go_wp2
    go_ret
    exact ⟨HB0.out.trans (hb1.mono HB0.out.size), by rw [HRR.out, decide_eq_false (fun h => HX1.out h.1)]; rfl⟩
theorem nowhere_calls {w : World} {v : Value} {x y : Rat} (h : WV w v x y) :
    Calls Tryz.prog 105 #[v] w fun e w' => Below w.heap.size w w' ∧ e = .returned (.bool (decide (x = 0 ∧ y = 0))) := by
  obtain ⟨c, d, rfl, h1, h2⟩ := h
  exact nowhere_walk h1 h2
theorem fr_nat (n : Nat) (hl : (1 : Nat) ≠ 0) (hc : Nat.Coprime n 1) : fr false n 1 hl hc = (n : Rat) := by
  have := fr_eq (neg := false) (u := n) (l := 1) (hl := hl) (hc := hc) (n := (n : Int)) (d := 1) (by decide) (by simp [sg])
  rw [this, Rat.mkRat_one]
  rfl
theorem int_calls (n : Nat) (hn : n < 9223372036854775808) (w : World) :
    Calls Tryz.prog 76 #[.int .i64 n] w fun e w' => Below w.heap.size w w' ∧ ∃ v, e = .returned v ∧ QV w' v (n : Rat) := by
  obtain ⟨hb0, hk0, hsz⟩ := boxes1 w #[.bool false, .slice none 0 0, .slice none 0 0] 84
  have HB0 := hideIt hb0
  have HSZ := hideIt hsz
  have HK0 := hideIt hk0
  clear hb0 hsz hk0
  go_enter Tryz.func76, Tryz.ntmps76
  go_wp2_with fail
  generalize (w.alloc (.cells #[.bool false, .slice none 0 0, .slice none 0 0] 84)) = W0 at *
  refine (natOf_calls n W0 (by omega)).mono ?_
  rintro e w1 ⟨hb1, v1, rfl, hv1⟩
  go_wp2_with fail
  refine (one_calls w1).mono ?_
  rintro e w2 ⟨hb2, v2, rfl, hv2⟩
  go_wp2_with fail
  refine (ready_calls (neg := false) (hv1.below hb2) hv2 (by decide) (Nat.coprime_one_right n)).mono ?_
  rintro e w3 ⟨hb3, v3, rfl, hv3⟩
  rw [fr_nat] at hv3
  obtain ⟨d3, rfl⟩ := qv_open hv3
  have hbl2 := hb1.trans (hb2.mono hb1.size)
  have hbl3 := hbl2.trans (hb3.mono hbl2.size)
  have hkr := HK0.out.below hbl3 (by rw [HSZ.out]; omega)
  obtain ⟨r0, r1, r2, f0, f1, f2⟩ := hkr.all3
  have HV := hideIt hv3
  clear hv1 hv2 hv3
  go_wp2
  obtain ⟨k0, k1, k2, _, _, _⟩ := (hkr.put3 (.bool d3.n) (.slice d3.u d3.nu d3.cu) (.slice d3.l d3.nl d3.cl)).all3
  refine bodyPost_ret (v := .agg #[.bool d3.n, .slice d3.u d3.nu d3.cu, .slice d3.l d3.nl d3.cl]) (by simp [results, Tryz.results76, go_sem, k0, k1, k2]) rfl ⟨Below.put3 (HB0.out.trans (hbl3.mono HB0.out.size)) (by omega) _ _ _, _, rfl, ?_⟩
  exact (Stays.put3 hkr (by simp [notLimb]) (.bool d3.n) (.slice d3.u d3.nu d3.cu) (.slice d3.l d3.nl d3.cl) rfl rfl rfl).qv HV.out
def PV (v : Value) (lx ly : List UInt8) : Prop := ∃ a b : ByteArray, v = .agg #[.string a, .string b] ∧ a.data.toList = lx ∧ b.data.toList = ly
def TV (v : Value) (lx ly lz : List UInt8) : Prop := ∃ a b c : ByteArray, v = .agg #[.string a, .string b, .string c] ∧ a.data.toList = lx ∧ b.data.toList = ly ∧ c.data.toList = lz
theorem wayRead_walk {w : World} {px pz : ByteArray} (s1 : px.size ≤ 4294967296) (s2 : pz.size ≤ 4294967296) :
    Calls Tryz.prog 62 #[.agg #[.string px, .string pz]] w fun e w' => Below w.heap.size w w' ∧ ∃ v, e = .returned v ∧ WV w' v (rd px.data.toList) (rd pz.data.toList) := by
  obtain ⟨hb0, hk0, hk1, hsz⟩ := boxes2 w #[.string px, .string pz] #[.bool false, .slice none 0 0, .slice none 0 0, .bool false, .slice none 0 0, .slice none 0 0] 24 86
  have HB0 := hideIt hb0
  have HSZ := hideIt hsz
  have HK0 := hideIt hk0
  have HK1 := hideIt hk1
  have S1 := hideIt s1
  have S2 := hideIt s2
  clear hb0 hsz hk0 hk1  s1 s2
  go_enter Tryz.func62, Tryz.ntmps62
  go_wp2_with fail
  generalize ((w.alloc (.cells #[.string px, .string pz] 24)).alloc (.cells #[.bool false, .slice none 0 0, .slice none 0 0, .bool false, .slice none 0 0, .slice none 0 0] 86)) = W0 at *
  have HS : Hid (∀ w', Below W0.heap.size W0 w' → w'.cell? ⟨w.heap.size, 0, none⟩ = some (.string px) ∧ w'.cell? ⟨w.heap.size, 1, none⟩ = some (.string pz)) := fun w' hb => ⟨(HK0.out.below hb (by rw [HSZ.out]; omega)).cell 0, (HK0.out.below hb (by rw [HSZ.out]; omega)).cell 1⟩
  have HSS : Hid (∀ w', Below W0.heap.size W0 w' → ∀ x0 x1 x2 x3 x4 x5 : Value, ((((((w'.setCell ⟨w.heap.size + 1, 0, none⟩ (x0)).setCell ⟨w.heap.size + 1, 1, none⟩ (x1)).setCell ⟨w.heap.size + 1, 2, none⟩ (x2)).setCell ⟨w.heap.size + 1, 3, none⟩ (x3)).setCell ⟨w.heap.size + 1, 4, none⟩ (x4)).setCell ⟨w.heap.size + 1, 5, none⟩ (x5)).cell? ⟨w.heap.size, 0, none⟩ = some (.string px) ∧ ((((((w'.setCell ⟨w.heap.size + 1, 0, none⟩ (x0)).setCell ⟨w.heap.size + 1, 1, none⟩ (x1)).setCell ⟨w.heap.size + 1, 2, none⟩ (x2)).setCell ⟨w.heap.size + 1, 3, none⟩ (x3)).setCell ⟨w.heap.size + 1, 4, none⟩ (x4)).setCell ⟨w.heap.size + 1, 5, none⟩ (x5)).cell? ⟨w.heap.size, 1, none⟩ = some (.string pz)) := fun w' hb x0 x1 x2 x3 x4 x5 => ⟨((HK0.out.below hb (by rw [HSZ.out]; omega)).off6 (g := w.heap.size + 1) (by omega) x0 x1 x2 x3 x4 x5).cell 0, ((HK0.out.below hb (by rw [HSZ.out]; omega)).off6 (g := w.heap.size + 1) (by omega) x0 x1 x2 x3 x4 x5).cell 1⟩
  obtain ⟨z0, z1⟩ := HS.out W0 (Below.refl _ _)
  go_region_held3 (fun w' => w'.cell? ⟨w.heap.size, 0, none⟩ = some (.string px) ∧ w'.cell? ⟨w.heap.size, 1, none⟩ = some (.string pz)) (first | go_keep | exact hs1 | exact hs2 | exact hkS)
    (first
      | (go_at_call_of 69 (Value.string px); refine (read_calls (w := W0.drew) px S1.out).mono ?_; rintro e w1 ⟨hb1, v1, rfl, hv1⟩; have hbl1 : Below W0.heap.size W0 w1 := (Below.drew (Below.refl _ W0)).trans hb1; obtain ⟨d1, rfl⟩ := qv_open hv1; have hs1 := HS.out w1 hbl1)
      | (go_at_call_of 69 (Value.string pz); refine (read_calls pz _ S2.out).mono ?_; rintro e w2 ⟨hb2, v2, rfl, hv2⟩; have hbl2 := hbl1.trans (hb2.mono hbl1.size); obtain ⟨d2, rfl⟩ := qv_open hv2; have hs2 := HS.out w2 hbl2; have hkr := HK1.out.below hbl2 (by rw [HSZ.out]; omega); obtain ⟨r0, r1, r2, r3, r4, r5, f0, f1, f2, f3, f4, f5⟩ := hkr.all6; have hkS := HSS.out w2 hbl2 (.bool d1.n) (.slice d1.u d1.nu d1.cu) (.slice d1.l d1.nl d1.cl) (.bool d2.n) (.slice d2.u d2.nu d2.cu) (.slice d2.l d2.nl d2.cl))
      )
  all_goals
    go_wp2
    obtain ⟨k0, k1, k2, k3, k4, k5, _, _, _, _, _, _⟩ := (hkr.put6 (.bool d1.n) (.slice d1.u d1.nu d1.cu) (.slice d1.l d1.nl d1.cl) (.bool d2.n) (.slice d2.u d2.nu d2.cu) (.slice d2.l d2.nl d2.cl)).all6
    refine bodyPost_ret (v := .agg #[.bool d1.n, .slice d1.u d1.nu d1.cu, .slice d1.l d1.nl d1.cl, .bool d2.n, .slice d2.u d2.nu d2.cu, .slice d2.l d2.nl d2.cl]) (by simp [results, Tryz.results62, go_sem, k0, k1, k2, k3, k4, k5]) rfl ⟨Below.put6 (HB0.out.trans (hbl2.mono HB0.out.size)) (by omega) (.bool d1.n) (.slice d1.u d1.nu d1.cu) (.slice d1.l d1.nl d1.cl) (.bool d2.n) (.slice d2.u d2.nu d2.cu) (.slice d2.l d2.nl d2.cl), _, rfl, ?_⟩
    have hst := Stays.put6 hkr (by simp [notLimb]) (.bool d1.n) (.slice d1.u d1.nu d1.cu) (.slice d1.l d1.nl d1.cl) (.bool d2.n) (.slice d2.u d2.nu d2.cu) (.slice d2.l d2.nl d2.cl) rfl rfl rfl rfl rfl rfl
    exact ⟨d1, d2, rfl, hst.qv (hv1.below hb2), hst.qv hv2⟩
theorem str_len (a : ByteArray) : a.data.toList.length = a.size := by simp
theorem wayRead_calls {w : World} {v : Value} {lx ly : List UInt8} (h : PV v lx ly) (s1 : lx.length ≤ 4294967296) (s2 : ly.length ≤ 4294967296) :
    Calls Tryz.prog 62 #[v] w fun e w' => Below w.heap.size w w' ∧ ∃ v, e = .returned v ∧ WV w' v (rd lx) (rd ly) := by
  obtain ⟨a, b, rfl, rfl, rfl⟩ := h
  exact wayRead_walk (by rwa [str_len] at s1) (by rwa [str_len] at s2)
end Go.Proofs.YtgajdmadbdbabaaGreatDoor
/- RK -/
namespace Go.Proofs.YtgajdmadbdbabaaGreatDoor
open Go.RowKit Cx
attribute [local go_sem ↓] Go.wp_at_zero Go.wp_at_succ
def SRow (w : World) (v : Value) (ss : List ByteArray) : Prop :=
  ∃ b off cap, v = .slice (some ⟨b, off, none⟩) ss.length cap ∧ b < w.heap.size ∧ ∀ (j : Nat) (hj : j < ss.length), w.cell? ⟨b, off + j, none⟩ = some (.string (ss[j]'hj))
theorem srow_idx {b off n cap k : Nat} (hk : k < n) (wx : World) : (Instr.indexAt 124 (.slice (some ⟨b, off, none⟩) n cap) (.int .i64 k)).run Tryz.prog wx = .ok (.pointer (some ⟨b, off + k, none⟩)) wx := by
  have he : Tryz.prog.elem 124 = 22 := by simp [Program.elem, Tryz.underlying124]
  rw [run_indexAt_slice (h := by rw [he]; exact Tryz.underlying124), if_pos (by omega), he, Tryz.sizeOf22]
  simp [Result.andThen, Addr.add]
def right (s : ByteArray) : Prop := tx (rd s.data.toList) = s.data.toList
theorem right_eq {s : ByteArray} : ((⟨(tx (rd s.data.toList)).toArray⟩ : ByteArray) = s) ↔ right s := by
  unfold right
  constructor
  · intro h
    have := congrArg (fun b : ByteArray => b.data.toList) h
    simpa using this
  · intro h
    apply ByteArray.ext
    apply Array.ext'
    simpa using h
theorem refRight_walk {w : World} {b off cap : Nat} {ss : List ByteArray} (h : SRow w (.slice (some ⟨b, off, none⟩) ss.length cap) ss) (hm : MaxL w) (hl : ∀ s ∈ ss, s.size ≤ 4294967280) (hn : ss.length ≤ 1000000) :
    Calls Tryz.prog 80 #[.slice (some ⟨b, off, none⟩) ss.length cap] w fun e w' => Below w.heap.size w w' ∧ ∃ r : Bool, e = .returned (.bool r) ∧ (r = true ↔ ∀ s ∈ ss, right s) := by
  have HR := hideIt2 h
  have HM := hideIt2 hm
  have HL := hideIt2 hl
  clear h hm hl
  go_enter Tryz.func80, Tryz.ntmps80
  go_wp2
  go_loopw [7] (fun i wr => ∃ k : Nat, k ≤ ss.length ∧ i = .int .i64 (k : Int) ∧ Below w.heap.size w wr ∧ ∀ s ∈ ss.take k, right s) (fun i _ => ss.length - (intOf i).toNat)
  case atStart => exact ⟨0, Nat.zero_le _, rfl, Below.refl _ _, by simp⟩
  case round =>
    obtain ⟨k, hkl, rfl, hbel, hall⟩ := hrel
    have HBL := hideIt2 hbel
    have HAL := hideIt2 hall
    clear hbel hall
    by_cases hend : k = ss.length
    · subst hend
      go_wp2
      go_ret
      exact ⟨HBL.out, true, rfl, ⟨fun _ => (by have := HAL.out; rwa [List.take_length] at this), fun _ => rfl⟩⟩
    · have hlt : k < ss.length := by omega
      have hidx := srow_idx (b := b) (off := off) (cap := cap) hlt
      obtain ⟨b', off', cap', e, hbl, hcells⟩ := HR.out
      cases e
      have hp := hcells k hlt
      obtain ⟨s, hs⟩ : ∃ s, ss[k] = s := ⟨_, rfl⟩
      have hmem : s ∈ ss := hs ▸ List.getElem_mem hlt
      have hsz := HL.out s hmem
      rw [hs] at hp
      have z0 := (HBL.out.cell (p := ⟨b, off + k, none⟩) hbl).trans hp
      have HMEM := hideIt2 (And.intro hs hmem)
      clear hp hcells hs hmem
      go_wp2_with fail
      refine (refOf_calls s wr (HM.out.below HBL.out) hsz).mono ?_
      rintro e w1 ⟨hb1, g1, rfl, _, hv1⟩
      have H1 := hideIt2 (And.intro (bel_bel HBL.out hb1) hv1)
      clear hb1 hv1
      go_wp2_with fail
      refine (refT_calls H1.out.2 (QS.rd s.data.toList) (by rw [str_len]; omega)).mono ?_
      rintro e w2 ⟨hb2, rfl⟩
      have H2 := hideIt2 (bel_bel H1.out.1 hb2)
      clear hb2
      by_cases hr : right s
      · have he := right_eq.2 hr
        rw [he]
        have HRR := hideIt2 hr
        clear hr he
        go_wp2
        go_roundw
        case rel =>
          refine ⟨k + 1, hlt, by go_num, H2.out, ?_⟩
          intro t ht
          rw [List.take_succ_eq_append_getElem hlt, List.mem_append] at ht
          rcases ht with ht | ht
          · exact HAL.out t ht
          · rw [List.mem_singleton.1 ht, HMEM.out.1]; exact HRR.out
        case measure => simp [intOf]; omega
      · have hne : ¬ ((⟨(tx (rd s.data.toList)).toArray⟩ : ByteArray) = s) := fun e => hr (right_eq.1 e)
        have hnb : ((⟨(tx (rd s.data.toList)).toArray⟩ : ByteArray).toList == s.toList) = false := by
          rw [beq_eq_false_iff_ne]
          intro e
          rw [ByteArray.toList_eq, ByteArray.toList_eq] at e
          exact hne (ByteArray.ext (Array.ext' e))
        have HRR := hideIt2 hr
        clear hr
        generalize (⟨(tx (rd s.data.toList)).toArray⟩ : ByteArray) = t at *
        go_wp2
        go_ret
        exact ⟨H2.out, false, rfl, ⟨fun h => (by cases h), fun h => absurd (h s HMEM.out.2) HRR.out⟩⟩
theorem refRight_calls {w : World} {v : Value} {ss : List ByteArray} (h : SRow w v ss) (hm : MaxL w) (hl : ∀ s ∈ ss, s.size ≤ 4294967280) (hn : ss.length ≤ 1000000) :
    Calls Tryz.prog 80 #[v] w fun e w' => Below w.heap.size w w' ∧ ∃ r : Bool, e = .returned (.bool r) ∧ (r = true ↔ ∀ s ∈ ss, right s) := by
  have h' := h
  obtain ⟨b, off, cap, rfl, _⟩ := h
  exact refRight_walk h' hm hl hn
end Go.Proofs.YtgajdmadbdbabaaGreatDoor
/- AWD -/
namespace Go.Proofs.YtgajdmadbdbabaaGreatDoor
open Go.RowKit Cx
theorem NatN.grows {w w' : World} {v : Value} {n : Nat} (hg : Grows w w') (h : NatN w v n) : NatN w' v n := by
  obtain ⟨l, ⟨hl, ⟨rfl, ao, cap, rfl⟩ | ⟨b, off, cap, rfl, hc, hm, hlt, hseg⟩⟩, t, rfl⟩ := h
  · exact ⟨[], NatV.nil _ _ _, t, rfl⟩
  · by_cases h0 : l.length = 0
    · have := List.length_eq_zero_iff.1 h0
      subst this
      exact ⟨[], NatV.nil _ _ _, t, rfl⟩
    · have hn : ¬ Boxed w b := by
        rintro ⟨cs, t', hb, _, hno⟩
        have h1 := hseg 0 (by omega)
        rw [Nat.add_zero, hb.cell off] at h1
        exact (noLimb_of hno) off _ h1
      refine ⟨l, ⟨hl, Or.inr ⟨b, off, cap, rfl, hc, hm, Nat.lt_of_lt_of_le hlt hg.size, fun j hj => ?_⟩⟩, t, rfl⟩
      have : w'.cell? ⟨b, off + j, none⟩ = w.cell? ⟨b, off + j, none⟩ := by simp [World.cell?, hg.block b hlt hn]
      rw [this]
      exact hseg j hj
theorem blk_one {w : World} {g : Nat} {cs cs' : Array Value} {t t' : TypeId} (h : Blk w g cs t) (h' : Blk w g cs' t') : cs = cs' ∧ t = t' := by
  unfold Blk at h h'
  rw [h] at h'
  cases h'
  exact ⟨rfl, rfl⟩
theorem Blk.grows {w w' : World} {g : Nat} {cs : Array Value} {t : TypeId} (hg : Grows w w') (h : Blk w g cs t) (ht : boxT t = false) : Blk w' g cs t := by
  have hn : ¬ Boxed w g := by
    rintro ⟨cs', t', hb, hT, _⟩
    rw [(blk_one h hb).2] at ht
    rw [ht] at hT
    cases hT
  exact (hg.block g h.lt hn).trans h
theorem RV.grows {w w' : World} {g : Nat} {q : Rat} (hg : Grows w w') (h : RV w g q) : RV w' g q := by
  obtain ⟨a1, l1, c1, a2, l2, c2, h0, h1, h2⟩ := h
  refine ⟨a1, l1, c1, a2, l2, c2, h0.grows hg (by decide), h1.grows hg, ?_⟩
  rcases h2 with h2 | h2
  · exact Or.inl (h2.grows hg)
  · exact Or.inr h2
def Rt (q : Rat) : Fact := ⟨fun v w => PR w v q, fun hg ⟨g, e, h⟩ => ⟨g, e, h.grows hg⟩⟩
abbrev Tx (s : ByteArray) : Fact := Jus (.string s)
abbrev P2 (a b : ByteArray) : Fact := Agg [Tx a, Tx b]
abbrev L3 (a b c : ByteArray) : Fact := Agg [Tx a, Tx b, Tx c]
abbrev V2 (x y : Rat) : Fact := Agg [Rt x, Rt y]
abbrev Bo (b : Bool) : Fact := Jus (.bool b)
abbrev In (z : Int) : Fact := Jus (.int .i64 z)
theorem all2_one {w : World} {F : Fact} {vs : List Value} (h : All2 w [F] vs) : ∃ v, vs = [v] ∧ F.on v w := by
  match vs, h with
  | [v], h => exact ⟨v, rfl, h.1⟩
theorem all2_two {w : World} {F G : Fact} {vs : List Value} (h : All2 w [F, G] vs) : ∃ u v, vs = [u, v] ∧ F.on u w ∧ G.on v w := by
  match vs, h with
  | [u, v], h => exact ⟨u, v, rfl, h.1, h.2.1⟩
theorem all2_none {w : World} {vs : List Value} (h : All2 w [] vs) : vs = [] := by
  match vs, h with
  | [], _ => rfl
theorem P2.eq {a b : ByteArray} {v : Value} {w : World} (h : (P2 a b).on v w) : v = .agg #[.string a, .string b] := by
  obtain ⟨cs, rfl, hall⟩ := h
  obtain ⟨u, v, rfl, h1, h2⟩ := all2_two hall
  cases h1
  cases h2
  rfl
theorem P2.mk (a b : ByteArray) (w : World) : (P2 a b).on (.agg #[.string a, .string b]) w := ⟨[_, _], rfl, rfl, rfl, trivial⟩
theorem V2.vv {x y : Rat} {v : Value} {w : World} (h : (V2 x y).on v w) : VV w v x y := by
  obtain ⟨cs, rfl, hall⟩ := h
  obtain ⟨u, v, rfl, h1, h2⟩ := all2_two hall
  exact ⟨u, v, rfl, h1, h2⟩
def NL (F : Fact) : Prop := ∀ v w, F.on v w → notLimb v = true ∧ v.oneCell' = true
theorem nl_tx (s : ByteArray) : NL (Tx s) := fun _ _ h => by cases h; exact ⟨rfl, rfl⟩
theorem nl_rt (q : Rat) : NL (Rt q) := fun _ _ h => by obtain ⟨g, rfl, _⟩ := h; exact ⟨rfl, rfl⟩
theorem store_run {P : Program} {w : World} {a : Addr} {v c : Value} (m : Mode) (hv : v.oneCell' = true) (hc : w.cell? a = some c) (hf : w.frozen? a = false) : (store a v m).run P w = .ok () (w.setCell a v) := by
  rw [run_store P w a v m hv, hc]
  simp [hf]
theorem save_refl (g : Nat) (w : World) : Save g w w := Save.of (Below.refl _ _)
theorem no_over {pl : List Plan} {os : List Oper} {i k : Nat} (h : overOf k pl = none) (s : Nat) (Fs' : Fact) (hs : pl[s]? = some (.over k Fs')) : ∃ (o' : Oper) (e : Edge), os[s]? = some o' ∧ e ∈ o'.after ∧ e.on = i ∧ Region.binds .any e = true := absurd hs (overOf_none h s Fs')
theorem no_fill {pl : List Plan} {os : List Oper} {i : Nat} (h : fillOf i pl = none) (s : Nat) (Fs' : Fact) (hs : pl[s]? = some (.fill i Fs')) : ∃ (o' : Oper) (e : Edge), os[s]? = some o' ∧ e ∈ o'.after ∧ e.on = i ∧ Region.binds .any e = true := absurd hs (fillOf_none h s Fs')
def isFill (a : Nat) : Plan → Bool
  | Sum.inr (Sum.inr (Sum.inr (Sum.inl (b, _)))) => Nat.beq a b
  | _ => false
def isOver (k : Nat) : Plan → Bool
  | Sum.inr (Sum.inr (Sum.inr (Sum.inr (Sum.inl (b, _))))) => Nat.beq k b
  | _ => false
def onlyAt (p : Plan → Bool) (s0 : Nat) : Nat → List Plan → Bool
  | _, [] => true
  | i, x :: xs => (!p x || Nat.beq i s0) && onlyAt p s0 (i + 1) xs
theorem onlyAt.get {p : Plan → Bool} {s0 : Nat} : ∀ {pl : List Plan} {i s : Nat} {x : Plan}, onlyAt p s0 i pl = true → pl[s]? = some x → p x = true → i + s = s0
  | [], _, _, _, _, h, _ => by simp at h
  | y :: ys, i, 0, x, h, hs, hp => by
    have e : y = x := by simpa using hs
    subst e
    unfold onlyAt at h
    rw [hp] at h
    simp at h
    exact h.1
  | y :: ys, i, s + 1, x, h, hs, hp => by
    unfold onlyAt at h
    rw [Bool.and_eq_true] at h
    have := onlyAt.get h.2 (s := s) (x := x) (by simpa using hs) hp
    omega
theorem one_fill {pl : List Plan} {a s0 : Nat} (h : onlyAt (isFill a) s0 0 pl = true) (s : Nat) (Fs' : Fact) (hs : pl[s]? = some (.fill a Fs')) : s = s0 := by
  have := onlyAt.get h hs (Nat.beq_refl a)
  omega
theorem one_over {pl : List Plan} {k s0 : Nat} (h : onlyAt (isOver k) s0 0 pl = true) (s : Nat) (Fs' : Fact) (hs : pl[s]? = some (.over k Fs')) : s = s0 := by
  have := onlyAt.get h hs (Nat.beq_refl k)
  omega
theorem fill_waits {pl : List Plan} {os : List Oper} {i s0 k : Nat} {o' : Oper} {e : Edge} (h : onlyAt (isFill i) s0 0 pl = true) (ho : os[s0]? = some o') (hk : o'.after[k]? = some e) (he : e.on = i) (hb : Region.binds .any e = true) (s : Nat) (Fs' : Fact) (hs : pl[s]? = some (.fill i Fs')) : ∃ (o' : Oper) (e : Edge), os[s]? = some o' ∧ e ∈ o'.after ∧ e.on = i ∧ Region.binds .any e = true := by
  have := one_fill h s Fs' hs
  subst this
  exact ⟨o', e, ho, Array.mem_of_getElem? hk, he, hb⟩
def CellsOk (m : Nat) (F : Fact) : Prop := ∀ v w, F.on v w → ∃ cs : List Value, v = .agg cs.toArray ∧ cs.length = m ∧ ∀ c ∈ cs, notLimb c = true ∧ c.oneCell' = true
theorem cok2 {F G : Fact} (h1 : NL F) (h2 : NL G) : CellsOk 2 (Agg [F, G]) := fun v w ⟨cs, e, hall⟩ => by
  obtain ⟨x, y, rfl, hx, hy⟩ := all2_two hall
  exact ⟨[x, y], e, rfl, by simp only [List.mem_cons, List.not_mem_nil, or_false, forall_eq_or_imp, forall_eq]; exact ⟨h1 _ _ hx, h2 _ _ hy⟩⟩
theorem all_notLimb {cs : List Value} (h : ∀ c ∈ cs, notLimb c = true ∧ c.oneCell' = true) : cs.toArray.all notLimb = true := by
  simp only [List.all_toArray, List.all_eq_true]
  exact fun c hc => (h c hc).1
def OneCell (P : Program) (t : TypeId) : Prop := ∀ (w : World) (G j : Nat) (c : Value), w.cell? ⟨G, j, none⟩ = some c → (Instr.loadAt t (.pointer (some ⟨G, j, none⟩))).run P w = .ok c w
theorem part_agg {P : Program} {t' : TypeId} {j : Nat} {Fs : List Fact} {F : Fact} (hj : Fs[j]? = some F) (h1 : OneCell P t') : PartLoads P t' j (Agg Fs) F := fun w G cs t hk ⟨cs', e, hall⟩ => by
  have : cs = cs' := by simpa using e
  subst this
  obtain ⟨v, hv, hF⟩ := hall.get hj
  exact ⟨v, h1 w G j v (by rw [hk.cell j]; simpa using hv), hF⟩
section
variable {Q : Exit → Act → World → Prop} {w0 : World} {n : Nat} {tm : List (Nat × Fact)} {bx : List (Nat × TypeId × Fact)} {a0 : Act} {wr : World} {os : List Oper} {pl : List Plan}
theorem step_new {i : Nat} {o : Oper} {t : TypeId} (zs : List Value) {Fz : Fact} (hFz : ∀ w, Fz.on (.agg zs.toArray) w) (ho : os[i]? = some o) (hp : pl[i]? = some (.alloc t Fz)) (hw : Want w0 bx a0 wr os pl o true) (hop : o.op = .alloc t)
    (hf : ∀ (s : Nat) (Fs' : Fact), pl[s]? = some (.fill i Fs') → ∃ (o' : Oper) (e : Edge), os[s]? = some o' ∧ e ∈ o'.after ∧ e.on = i ∧ Region.binds .any e = true)
    (hz : ∀ w, (Instr.alloc t true (.tuple #[])).run Tryz.prog w = .ok (.pointer (some ⟨w.heap.size, 0, none⟩)) (w.alloc (.cells zs.toArray t))) (hnl : zs.toArray.all notLimb = true) (hln : zs.length = Tryz.prog.cellsOf t) :
    AStep Tryz.prog Q os a0 (RInv w0 bx a0 wr os pl) i o := step_alloc ho hp hw hf fun d τ w hr hd hn => by
  refine ⟨w.alloc (.cells zs.toArray t), ?_, below_new _ _, zs, Blk.new _ _ _, hFz _, hnl, hln⟩
  unfold execOp
  rw [hop]
  show (do pure (Next.value (← Instr.alloc t true (.tuple #[]))) : Sem Next).run Tryz.prog w = _
  have h := hz w
  revert h
  generalize Instr.alloc t true (.tuple #[]) = s
  intro h
  simp [go_sem, h]
def Boxes (t : TypeId) (F : Fact) : Prop :=
  ∀ (w : World) (v : Value), F.on v w → ∃ cs : List Value, (Instr.box t v).run Tryz.prog w = .ok (.pointer (some ⟨w.heap.size, 0, none⟩)) (w.alloc (.cells cs.toArray t)) ∧ v = .agg cs.toArray ∧ cs.toArray.all notLimb = true ∧ cs.length = Tryz.prog.cellsOf t
theorem step_box {i : Nat} {o : Oper} {t : TypeId} {x : Operand} {F : Fact} (ho : os[i]? = some o) (hp : pl[i]? = some (.alloc t F)) (hw : Want w0 bx a0 wr os pl o true) (hop : o.op = .box t x)
    (hf : ∀ (s : Nat) (Fs' : Fact), pl[s]? = some (.fill i Fs') → ∃ (o' : Oper) (e : Edge), os[s]? = some o' ∧ e ∈ o'.after ∧ e.on = i ∧ Region.binds .any e = true)
    (hx : Opn w0 bx a0 wr os pl i o x F) (hb : Boxes t F) :
    AStep Tryz.prog Q os a0 (RInv w0 bx a0 wr os pl) i o := step_alloc ho hp hw hf fun d τ w hr hd hn => by
  have hv := hx d τ w hr hd hn
  obtain ⟨cs, e, ev, hnl, hln⟩ := hb w _ hv
  rw [ev] at hv
  refine ⟨w.alloc (.cells cs.toArray t), ?_, below_new _ _, cs, Blk.new _ _ _, F.st (Grows.of (below_new _ _)) hv, hnl, hln⟩
  unfold execOp
  rw [hop]
  show (do pure (Next.value (← Instr.box t ((putAll a0 τ 0 os).eval x))) : Sem Next).run Tryz.prog w = _
  revert e
  generalize Instr.box t ((putAll a0 τ 0 os).eval x) = s
  intro e
  simp [go_sem, e]
end
theorem cellsN_P : Tryz.prog.cellsOf 24 = 2 := by kernel_rfl
theorem boxes_P {F : Fact} (hc : CellsOk 2 F) : Boxes 24 F := fun w v hv => by
  obtain ⟨vs, rfl, hlv, hok⟩ := hc v w hv
  match vs, hlv with
  | [y0, y1], _ =>
    refine ⟨[y0, y1], ?_, rfl, all_notLimb hok, by rw [cellsN_P]; rfl⟩
    clear hv hok
    simp [go_sem]
theorem cellsN_T : Tryz.prog.cellsOf 67 = 2 := by kernel_rfl
theorem loads_T {F : Fact} : Loads Tryz.prog 67 F F := fun w G ⟨cs, hk, hF, _, hln⟩ => by
  rw [cellsN_T] at hln
  match cs, hln with
  | [x0, x1], _ =>
    refine ⟨.agg #[x0, x1], ?_, hF⟩
    have k0 : w.cell? ⟨G, 0, none⟩ = some x0 := hk.cell 0
    have k1 : w.cell? ⟨G, 1, none⟩ = some x1 := hk.cell 1
    clear hk hF
    simp [go_sem, k0, k1]
theorem stores_T {F : Fact} (hc : CellsOk 2 F) : Stores Tryz.prog 67 F F := fun w G F0 v ⟨cs, hk, _, hno, hln⟩ hv => by
  obtain ⟨vs, rfl, hlv, hok⟩ := hc v w hv
  rw [cellsN_T] at hln
  match cs, hln, vs, hlv with
  | [x0, x1], _, [y0, y1], _ =>
    have hbx : Boxed w G := ⟨_, _, hk, by decide, hno⟩
    have hk2 := ((hk.set 0 y0).set 1 y1)
    have hs : Save G w (((w.setCell ⟨G, 0, none⟩ y0).setCell ⟨G, 1, none⟩ y1)) := (((save_refl G w).set 0 y0).set 1 y1)
    refine ⟨_, ?_, hs, [y0, y1], by simpa using hk2, F.st (Grows.save hs hbx) hv, all_notLimb hok, by rw [cellsN_T]; rfl⟩
    have r0 : (store ⟨G, 0, none⟩ y0).run Tryz.prog w = .ok () (w.setCell ⟨G, 0, none⟩ y0) := store_run (c := x0) _ (hok y0 (by simp)).2 (by rw [hk.cell 0]; rfl) (hk.frozen 0)
    have r1 : (store ⟨G, 1, none⟩ y1).run Tryz.prog (w.setCell ⟨G, 0, none⟩ y0) = .ok () ((w.setCell ⟨G, 0, none⟩ y0).setCell ⟨G, 1, none⟩ y1) := store_run (c := x1) _ (hok y1 (by simp)).2 (by rw [(hk.set 0 y0).cell 1]; rfl) ((hk.set 0 y0).frozen 1)
    clear hk hk2 hs hbx hno hv hok
    simp [go_sem, r0, r1]
theorem boxes_T {F : Fact} (hc : CellsOk 2 F) : Boxes 67 F := fun w v hv => by
  obtain ⟨vs, rfl, hlv, hok⟩ := hc v w hv
  match vs, hlv with
  | [y0, y1], _ =>
    refine ⟨[y0, y1], ?_, rfl, all_notLimb hok, by rw [cellsN_T]; rfl⟩
    clear hv hok
    simp [go_sem]
theorem allocs_T (w : World) : (Instr.alloc 67 true (.tuple #[])).run Tryz.prog w = .ok (.pointer (some ⟨w.heap.size, 0, none⟩)) (w.alloc (.cells [.string ⟨#[]⟩, .string ⟨#[]⟩].toArray 67)) := by
  simp [go_sem]
theorem zero_T (w : World) : (Agg [Jus (.string ⟨#[]⟩), Jus (.string ⟨#[]⟩)]).on (.agg [.string ⟨#[]⟩, .string ⟨#[]⟩].toArray) w := ⟨[.string ⟨#[]⟩, .string ⟨#[]⟩], rfl, rfl, rfl, trivial⟩
theorem cellsN_V : Tryz.prog.cellsOf 43 = 2 := by kernel_rfl
theorem loads_V {F : Fact} : Loads Tryz.prog 43 F F := fun w G ⟨cs, hk, hF, _, hln⟩ => by
  rw [cellsN_V] at hln
  match cs, hln with
  | [x0, x1], _ =>
    refine ⟨.agg #[x0, x1], ?_, hF⟩
    have k0 : w.cell? ⟨G, 0, none⟩ = some x0 := hk.cell 0
    have k1 : w.cell? ⟨G, 1, none⟩ = some x1 := hk.cell 1
    clear hk hF
    simp [go_sem, k0, k1]
theorem stores_V {F : Fact} (hc : CellsOk 2 F) : Stores Tryz.prog 43 F F := fun w G F0 v ⟨cs, hk, _, hno, hln⟩ hv => by
  obtain ⟨vs, rfl, hlv, hok⟩ := hc v w hv
  rw [cellsN_V] at hln
  match cs, hln, vs, hlv with
  | [x0, x1], _, [y0, y1], _ =>
    have hbx : Boxed w G := ⟨_, _, hk, by decide, hno⟩
    have hk2 := ((hk.set 0 y0).set 1 y1)
    have hs : Save G w (((w.setCell ⟨G, 0, none⟩ y0).setCell ⟨G, 1, none⟩ y1)) := (((save_refl G w).set 0 y0).set 1 y1)
    refine ⟨_, ?_, hs, [y0, y1], by simpa using hk2, F.st (Grows.save hs hbx) hv, all_notLimb hok, by rw [cellsN_V]; rfl⟩
    have r0 : (store ⟨G, 0, none⟩ y0).run Tryz.prog w = .ok () (w.setCell ⟨G, 0, none⟩ y0) := store_run (c := x0) _ (hok y0 (by simp)).2 (by rw [hk.cell 0]; rfl) (hk.frozen 0)
    have r1 : (store ⟨G, 1, none⟩ y1).run Tryz.prog (w.setCell ⟨G, 0, none⟩ y0) = .ok () ((w.setCell ⟨G, 0, none⟩ y0).setCell ⟨G, 1, none⟩ y1) := store_run (c := x1) _ (hok y1 (by simp)).2 (by rw [(hk.set 0 y0).cell 1]; rfl) ((hk.set 0 y0).frozen 1)
    clear hk hk2 hs hbx hno hv hok
    simp [go_sem, r0, r1]
theorem allocs_V (w : World) : (Instr.alloc 43 true (.tuple #[])).run Tryz.prog w = .ok (.pointer (some ⟨w.heap.size, 0, none⟩)) (w.alloc (.cells [.pointer none, .pointer none].toArray 43)) := by
  simp [go_sem]
theorem zero_V (w : World) : (Agg [Jus (.pointer none), Jus (.pointer none)]).on (.agg [.pointer none, .pointer none].toArray) w := ⟨[.pointer none, .pointer none], rfl, rfl, rfl, trivial⟩
theorem builds_P {s0 s1 : ByteArray} (x0 x1 : Operand) (w : World) (ρ : Operand → Value) (h : All2 w [Tx s0, Tx s1] ((((#[(0, x0), (1, x1)] : Array (Nat × Operand)).toList.map (·.2))).map ρ)) : ∃ v, (Instr.build 24 ((#[(0, x0), (1, x1)] : Array (Nat × Operand)).map fun (i, x) => (i, ρ x))).run Tryz.prog w = .ok v w ∧ (Agg [Tx s0, Tx s1]).on v w := by
  have h' : All2 w [Tx s0, Tx s1] [ρ x0, ρ x1] := h
  refine ⟨.agg #[ρ x0, ρ x1], ?_, _, rfl, h'⟩
  have e0 : ρ x0 = .string s0 := h'.1
  have e1 : ρ x1 = .string s1 := h'.2.1
  clear h h'
  simp [go_sem, e0, e1]
theorem field_T_0 (G : Nat) (w : World) : (Instr.fieldAt 67 (.pointer (some ⟨G, 0, none⟩)) 0).run Tryz.prog w = .ok (.pointer (some ⟨G, 0, none⟩)) w := by
  simp [go_sem]
theorem field_T_1 (G : Nat) (w : World) : (Instr.fieldAt 67 (.pointer (some ⟨G, 0, none⟩)) 1).run Tryz.prog w = .ok (.pointer (some ⟨G, 1, none⟩)) w := by
  simp [go_sem]
theorem builds0_T (w : World) (ρ : Operand → Value) (_ : All2 w [] (((#[] : Array (Nat × Operand)).toList.map (·.2)).map ρ)) : ∃ v, (Instr.build 67 ((#[] : Array (Nat × Operand)).map fun (i, x) => (i, ρ x))).run Tryz.prog w = .ok v w ∧ (Agg [Jus (.string ⟨#[]⟩), Jus (.string ⟨#[]⟩)]).on v w := by
  refine ⟨.agg #[.string ⟨#[]⟩, .string ⟨#[]⟩], ?_, [.string ⟨#[]⟩, .string ⟨#[]⟩], rfl, rfl, rfl, trivial⟩
  simp [go_sem]
theorem builds_V {q0 q1 : Rat} (x0 x1 : Operand) (w : World) (ρ : Operand → Value) (h : All2 w [Rt q0, Rt q1] ((((#[(0, x0), (1, x1)] : Array (Nat × Operand)).toList.map (·.2))).map ρ)) : ∃ v, (Instr.build 43 ((#[(0, x0), (1, x1)] : Array (Nat × Operand)).map fun (i, x) => (i, ρ x))).run Tryz.prog w = .ok v w ∧ (Agg [Rt q0, Rt q1]).on v w := by
  have h' : All2 w [Rt q0, Rt q1] [ρ x0, ρ x1] := h
  refine ⟨.agg #[ρ x0, ρ x1], ?_, _, rfl, h'⟩
  obtain ⟨g0, e0, _⟩ := h'.1
  obtain ⟨g1, e1, _⟩ := h'.2.1
  clear h h'
  simp [go_sem, e0, e1]
theorem one_Q : OneCell Tryz.prog 22 := fun w G j c h => by
  simp [go_sem, h]
def RowS (t : TypeId) (n : Nat) (Fs : List Fact) : Soft := ⟨fun v w => ∃ (G : Nat) (cs : List Value), v = .slice (some ⟨G, 0, none⟩) n n ∧ Blk w G cs.toArray t ∧ All2 w Fs cs, fun hb ⟨G, cs, e, h1, h2⟩ => ⟨G, cs, e, h1.below hb h1.lt, h2.st (Grows.of hb)⟩⟩
theorem bslice_Q2 {s0 s1 : ByteArray} (x0 x1 : Operand) (w : World) (ρ : Operand → Value) (h : All2 w [Tx s0, Tx s1] (((#[(0, x0), (1, x1)] : Array (Nat × Operand)).toList.map (·.2)).map ρ)) : ∃ v w', (Instr.buildSlice 124 2 ((#[(0, x0), (1, x1)] : Array (Nat × Operand)).map fun (i, x) => (i, ρ x))).run Tryz.prog w = .ok v w' ∧ Below w.heap.size w w' ∧ (RowS 22 2 [Tx s0, Tx s1]).on v w' := by
  have h' : All2 w [Tx s0, Tx s1] [ρ x0, ρ x1] := h
  refine ⟨.slice (some ⟨w.heap.size, 0, none⟩) 2 2, w.alloc (.cells [ρ x0, ρ x1].toArray 22), ?_, below_new _ _, w.heap.size, _, rfl, Blk.new _ _ _, h'.st (Grows.of (below_new _ _))⟩
  have e0 : ρ x0 = .string s0 := h'.1
  have e1 : ρ x1 = .string s1 := h'.2.1
  clear h h'
  simp [go_sem, e0, e1]
theorem bslice_I1 {z0 : Int} (x0 : Operand) (w : World) (ρ : Operand → Value) (h : All2 w [In z0] (((#[(0, x0)] : Array (Nat × Operand)).toList.map (·.2)).map ρ)) : ∃ v w', (Instr.buildSlice 160 1 ((#[(0, x0)] : Array (Nat × Operand)).map fun (i, x) => (i, ρ x))).run Tryz.prog w = .ok v w' ∧ Below w.heap.size w w' ∧ (RowS 3 1 [In z0]).on v w' := by
  have h' : All2 w [In z0] [ρ x0] := h
  refine ⟨.slice (some ⟨w.heap.size, 0, none⟩) 1 1, w.alloc (.cells [ρ x0].toArray 3), ?_, below_new _ _, w.heap.size, _, rfl, Blk.new _ _ _, h'.st (Grows.of (below_new _ _))⟩
  have e0 : ρ x0 = .int .i64 z0 := h'.1
  clear h h'
  simp [go_sem, e0]
end Go.Proofs.YtgajdmadbdbabaaGreatDoor
/- WB -/
namespace Go.Proofs.YtgajdmadbdbabaaGreatDoor
open Go.RowKit Cx
attribute [local go_sem ↓] Go.wp_at_zero Go.wp_at_succ
theorem wayPlus_walk {w : World} {cax cay cbx cbz : C3} {ax ay bx bz : Rat} (hax : QV w (.agg #[.bool cax.n, .slice cax.u cax.nu cax.cu, .slice cax.l cax.nl cax.cl]) ax) (hay : QV w (.agg #[.bool cay.n, .slice cay.u cay.nu cay.cu, .slice cay.l cay.nl cay.cl]) ay) (hbx : QV w (.agg #[.bool cbx.n, .slice cbx.u cbx.nu cbx.cu, .slice cbx.l cbx.nl cbx.cl]) bx) (hbz : QV w (.agg #[.bool cbz.n, .slice cbz.u cbz.nu cbz.cu, .slice cbz.l cbz.nl cbz.cl]) bz) {k l : Nat} (f1 : QS k ax) (f2 : QS k ay) (f3 : QS l bx) (f4 : QS l bz) (hk : k + l + 1 ≤ 35184372088640) :
    Calls Tryz.prog 108 #[.agg #[.bool cax.n, .slice cax.u cax.nu cax.cu, .slice cax.l cax.nl cax.cl, .bool cay.n, .slice cay.u cay.nu cay.cu, .slice cay.l cay.nl cay.cl], .agg #[.bool cbx.n, .slice cbx.u cbx.nu cbx.cu, .slice cbx.l cbx.nl cbx.cl, .bool cbz.n, .slice cbz.u cbz.nu cbz.cu, .slice cbz.l cbz.nl cbz.cl]] w fun e w' => Below w.heap.size w w' ∧ ∃ v, e = .returned v ∧ WV w' v (ax + bx) (ay + bz) := by
  obtain ⟨hb0, hk0, hk1, hk2, hsz⟩ := boxes3 w #[.bool cax.n, .slice cax.u cax.nu cax.cu, .slice cax.l cax.nl cax.cl, .bool cay.n, .slice cay.u cay.nu cay.cu, .slice cay.l cay.nl cay.cl] #[.bool cbx.n, .slice cbx.u cbx.nu cbx.cu, .slice cbx.l cbx.nl cbx.cl, .bool cbz.n, .slice cbz.u cbz.nu cbz.cu, .slice cbz.l cbz.nl cbz.cl] #[.bool false, .slice none 0 0, .slice none 0 0, .bool false, .slice none 0 0, .slice none 0 0] 86 86 86
  have HB0 := hideIt hb0
  have HSZ := hideIt hsz
  have HK0 := hideIt hk0
  have HK1 := hideIt hk1
  have HK2 := hideIt hk2
  have Hax := hideIt (hax.below hb0)
  have Hay := hideIt (hay.below hb0)
  have Hbx := hideIt (hbx.below hb0)
  have Hbz := hideIt (hbz.below hb0)
  have F1 := hideIt f1
  have F2 := hideIt f2
  have F3 := hideIt f3
  have F4 := hideIt f4
  have HK := hideIt hk
  clear hb0 hsz hk0 hk1 hk2 hax hay hbx hbz f1 f2 f3 f4 hk
  go_enter Tryz.func108, Tryz.ntmps108
  go_wp2_with fail
  generalize (((w.alloc (.cells #[.bool cax.n, .slice cax.u cax.nu cax.cu, .slice cax.l cax.nl cax.cl, .bool cay.n, .slice cay.u cay.nu cay.cu, .slice cay.l cay.nl cay.cl] 86)).alloc (.cells #[.bool cbx.n, .slice cbx.u cbx.nu cbx.cu, .slice cbx.l cbx.nl cbx.cl, .bool cbz.n, .slice cbz.u cbz.nu cbz.cu, .slice cbz.l cbz.nl cbz.cl] 86)).alloc (.cells #[.bool false, .slice none 0 0, .slice none 0 0, .bool false, .slice none 0 0, .slice none 0 0] 86)) = W0 at *
  have HS : Hid (∀ w', Below W0.heap.size W0 w' → w'.cell? ⟨w.heap.size, 0, none⟩ = some (.bool cax.n) ∧ w'.cell? ⟨w.heap.size, 1, none⟩ = some (.slice cax.u cax.nu cax.cu) ∧ w'.cell? ⟨w.heap.size, 2, none⟩ = some (.slice cax.l cax.nl cax.cl) ∧ w'.cell? ⟨w.heap.size, 3, none⟩ = some (.bool cay.n) ∧ w'.cell? ⟨w.heap.size, 4, none⟩ = some (.slice cay.u cay.nu cay.cu) ∧ w'.cell? ⟨w.heap.size, 5, none⟩ = some (.slice cay.l cay.nl cay.cl) ∧ w'.cell? ⟨w.heap.size + 1, 0, none⟩ = some (.bool cbx.n) ∧ w'.cell? ⟨w.heap.size + 1, 1, none⟩ = some (.slice cbx.u cbx.nu cbx.cu) ∧ w'.cell? ⟨w.heap.size + 1, 2, none⟩ = some (.slice cbx.l cbx.nl cbx.cl) ∧ w'.cell? ⟨w.heap.size + 1, 3, none⟩ = some (.bool cbz.n) ∧ w'.cell? ⟨w.heap.size + 1, 4, none⟩ = some (.slice cbz.u cbz.nu cbz.cu) ∧ w'.cell? ⟨w.heap.size + 1, 5, none⟩ = some (.slice cbz.l cbz.nl cbz.cl)) := fun w' hb => ⟨(HK0.out.below hb (by rw [HSZ.out]; omega)).cell 0, (HK0.out.below hb (by rw [HSZ.out]; omega)).cell 1, (HK0.out.below hb (by rw [HSZ.out]; omega)).cell 2, (HK0.out.below hb (by rw [HSZ.out]; omega)).cell 3, (HK0.out.below hb (by rw [HSZ.out]; omega)).cell 4, (HK0.out.below hb (by rw [HSZ.out]; omega)).cell 5, (HK1.out.below hb (by rw [HSZ.out]; omega)).cell 0, (HK1.out.below hb (by rw [HSZ.out]; omega)).cell 1, (HK1.out.below hb (by rw [HSZ.out]; omega)).cell 2, (HK1.out.below hb (by rw [HSZ.out]; omega)).cell 3, (HK1.out.below hb (by rw [HSZ.out]; omega)).cell 4, (HK1.out.below hb (by rw [HSZ.out]; omega)).cell 5⟩
  have HSS : Hid (∀ w', Below W0.heap.size W0 w' → ∀ x0 x1 x2 x3 x4 x5 : Value, ((((((w'.setCell ⟨w.heap.size + 1 + 1, 0, none⟩ (x0)).setCell ⟨w.heap.size + 1 + 1, 1, none⟩ (x1)).setCell ⟨w.heap.size + 1 + 1, 2, none⟩ (x2)).setCell ⟨w.heap.size + 1 + 1, 3, none⟩ (x3)).setCell ⟨w.heap.size + 1 + 1, 4, none⟩ (x4)).setCell ⟨w.heap.size + 1 + 1, 5, none⟩ (x5)).cell? ⟨w.heap.size, 0, none⟩ = some (.bool cax.n) ∧ ((((((w'.setCell ⟨w.heap.size + 1 + 1, 0, none⟩ (x0)).setCell ⟨w.heap.size + 1 + 1, 1, none⟩ (x1)).setCell ⟨w.heap.size + 1 + 1, 2, none⟩ (x2)).setCell ⟨w.heap.size + 1 + 1, 3, none⟩ (x3)).setCell ⟨w.heap.size + 1 + 1, 4, none⟩ (x4)).setCell ⟨w.heap.size + 1 + 1, 5, none⟩ (x5)).cell? ⟨w.heap.size, 1, none⟩ = some (.slice cax.u cax.nu cax.cu) ∧ ((((((w'.setCell ⟨w.heap.size + 1 + 1, 0, none⟩ (x0)).setCell ⟨w.heap.size + 1 + 1, 1, none⟩ (x1)).setCell ⟨w.heap.size + 1 + 1, 2, none⟩ (x2)).setCell ⟨w.heap.size + 1 + 1, 3, none⟩ (x3)).setCell ⟨w.heap.size + 1 + 1, 4, none⟩ (x4)).setCell ⟨w.heap.size + 1 + 1, 5, none⟩ (x5)).cell? ⟨w.heap.size, 2, none⟩ = some (.slice cax.l cax.nl cax.cl) ∧ ((((((w'.setCell ⟨w.heap.size + 1 + 1, 0, none⟩ (x0)).setCell ⟨w.heap.size + 1 + 1, 1, none⟩ (x1)).setCell ⟨w.heap.size + 1 + 1, 2, none⟩ (x2)).setCell ⟨w.heap.size + 1 + 1, 3, none⟩ (x3)).setCell ⟨w.heap.size + 1 + 1, 4, none⟩ (x4)).setCell ⟨w.heap.size + 1 + 1, 5, none⟩ (x5)).cell? ⟨w.heap.size, 3, none⟩ = some (.bool cay.n) ∧ ((((((w'.setCell ⟨w.heap.size + 1 + 1, 0, none⟩ (x0)).setCell ⟨w.heap.size + 1 + 1, 1, none⟩ (x1)).setCell ⟨w.heap.size + 1 + 1, 2, none⟩ (x2)).setCell ⟨w.heap.size + 1 + 1, 3, none⟩ (x3)).setCell ⟨w.heap.size + 1 + 1, 4, none⟩ (x4)).setCell ⟨w.heap.size + 1 + 1, 5, none⟩ (x5)).cell? ⟨w.heap.size, 4, none⟩ = some (.slice cay.u cay.nu cay.cu) ∧ ((((((w'.setCell ⟨w.heap.size + 1 + 1, 0, none⟩ (x0)).setCell ⟨w.heap.size + 1 + 1, 1, none⟩ (x1)).setCell ⟨w.heap.size + 1 + 1, 2, none⟩ (x2)).setCell ⟨w.heap.size + 1 + 1, 3, none⟩ (x3)).setCell ⟨w.heap.size + 1 + 1, 4, none⟩ (x4)).setCell ⟨w.heap.size + 1 + 1, 5, none⟩ (x5)).cell? ⟨w.heap.size, 5, none⟩ = some (.slice cay.l cay.nl cay.cl) ∧ ((((((w'.setCell ⟨w.heap.size + 1 + 1, 0, none⟩ (x0)).setCell ⟨w.heap.size + 1 + 1, 1, none⟩ (x1)).setCell ⟨w.heap.size + 1 + 1, 2, none⟩ (x2)).setCell ⟨w.heap.size + 1 + 1, 3, none⟩ (x3)).setCell ⟨w.heap.size + 1 + 1, 4, none⟩ (x4)).setCell ⟨w.heap.size + 1 + 1, 5, none⟩ (x5)).cell? ⟨w.heap.size + 1, 0, none⟩ = some (.bool cbx.n) ∧ ((((((w'.setCell ⟨w.heap.size + 1 + 1, 0, none⟩ (x0)).setCell ⟨w.heap.size + 1 + 1, 1, none⟩ (x1)).setCell ⟨w.heap.size + 1 + 1, 2, none⟩ (x2)).setCell ⟨w.heap.size + 1 + 1, 3, none⟩ (x3)).setCell ⟨w.heap.size + 1 + 1, 4, none⟩ (x4)).setCell ⟨w.heap.size + 1 + 1, 5, none⟩ (x5)).cell? ⟨w.heap.size + 1, 1, none⟩ = some (.slice cbx.u cbx.nu cbx.cu) ∧ ((((((w'.setCell ⟨w.heap.size + 1 + 1, 0, none⟩ (x0)).setCell ⟨w.heap.size + 1 + 1, 1, none⟩ (x1)).setCell ⟨w.heap.size + 1 + 1, 2, none⟩ (x2)).setCell ⟨w.heap.size + 1 + 1, 3, none⟩ (x3)).setCell ⟨w.heap.size + 1 + 1, 4, none⟩ (x4)).setCell ⟨w.heap.size + 1 + 1, 5, none⟩ (x5)).cell? ⟨w.heap.size + 1, 2, none⟩ = some (.slice cbx.l cbx.nl cbx.cl) ∧ ((((((w'.setCell ⟨w.heap.size + 1 + 1, 0, none⟩ (x0)).setCell ⟨w.heap.size + 1 + 1, 1, none⟩ (x1)).setCell ⟨w.heap.size + 1 + 1, 2, none⟩ (x2)).setCell ⟨w.heap.size + 1 + 1, 3, none⟩ (x3)).setCell ⟨w.heap.size + 1 + 1, 4, none⟩ (x4)).setCell ⟨w.heap.size + 1 + 1, 5, none⟩ (x5)).cell? ⟨w.heap.size + 1, 3, none⟩ = some (.bool cbz.n) ∧ ((((((w'.setCell ⟨w.heap.size + 1 + 1, 0, none⟩ (x0)).setCell ⟨w.heap.size + 1 + 1, 1, none⟩ (x1)).setCell ⟨w.heap.size + 1 + 1, 2, none⟩ (x2)).setCell ⟨w.heap.size + 1 + 1, 3, none⟩ (x3)).setCell ⟨w.heap.size + 1 + 1, 4, none⟩ (x4)).setCell ⟨w.heap.size + 1 + 1, 5, none⟩ (x5)).cell? ⟨w.heap.size + 1, 4, none⟩ = some (.slice cbz.u cbz.nu cbz.cu) ∧ ((((((w'.setCell ⟨w.heap.size + 1 + 1, 0, none⟩ (x0)).setCell ⟨w.heap.size + 1 + 1, 1, none⟩ (x1)).setCell ⟨w.heap.size + 1 + 1, 2, none⟩ (x2)).setCell ⟨w.heap.size + 1 + 1, 3, none⟩ (x3)).setCell ⟨w.heap.size + 1 + 1, 4, none⟩ (x4)).setCell ⟨w.heap.size + 1 + 1, 5, none⟩ (x5)).cell? ⟨w.heap.size + 1, 5, none⟩ = some (.slice cbz.l cbz.nl cbz.cl)) := fun w' hb x0 x1 x2 x3 x4 x5 => ⟨((HK0.out.below hb (by rw [HSZ.out]; omega)).off6 (g := w.heap.size + 1 + 1) (by omega) x0 x1 x2 x3 x4 x5).cell 0, ((HK0.out.below hb (by rw [HSZ.out]; omega)).off6 (g := w.heap.size + 1 + 1) (by omega) x0 x1 x2 x3 x4 x5).cell 1, ((HK0.out.below hb (by rw [HSZ.out]; omega)).off6 (g := w.heap.size + 1 + 1) (by omega) x0 x1 x2 x3 x4 x5).cell 2, ((HK0.out.below hb (by rw [HSZ.out]; omega)).off6 (g := w.heap.size + 1 + 1) (by omega) x0 x1 x2 x3 x4 x5).cell 3, ((HK0.out.below hb (by rw [HSZ.out]; omega)).off6 (g := w.heap.size + 1 + 1) (by omega) x0 x1 x2 x3 x4 x5).cell 4, ((HK0.out.below hb (by rw [HSZ.out]; omega)).off6 (g := w.heap.size + 1 + 1) (by omega) x0 x1 x2 x3 x4 x5).cell 5, ((HK1.out.below hb (by rw [HSZ.out]; omega)).off6 (g := w.heap.size + 1 + 1) (by omega) x0 x1 x2 x3 x4 x5).cell 0, ((HK1.out.below hb (by rw [HSZ.out]; omega)).off6 (g := w.heap.size + 1 + 1) (by omega) x0 x1 x2 x3 x4 x5).cell 1, ((HK1.out.below hb (by rw [HSZ.out]; omega)).off6 (g := w.heap.size + 1 + 1) (by omega) x0 x1 x2 x3 x4 x5).cell 2, ((HK1.out.below hb (by rw [HSZ.out]; omega)).off6 (g := w.heap.size + 1 + 1) (by omega) x0 x1 x2 x3 x4 x5).cell 3, ((HK1.out.below hb (by rw [HSZ.out]; omega)).off6 (g := w.heap.size + 1 + 1) (by omega) x0 x1 x2 x3 x4 x5).cell 4, ((HK1.out.below hb (by rw [HSZ.out]; omega)).off6 (g := w.heap.size + 1 + 1) (by omega) x0 x1 x2 x3 x4 x5).cell 5⟩
  obtain ⟨z0, z1, z2, z3, z4, z5, z6, z7, z8, z9, z10, z11⟩ := HS.out W0 (Below.refl _ _)
  go_region_held3 (fun w' => w'.cell? ⟨w.heap.size, 0, none⟩ = some (.bool cax.n) ∧ w'.cell? ⟨w.heap.size, 1, none⟩ = some (.slice cax.u cax.nu cax.cu) ∧ w'.cell? ⟨w.heap.size, 2, none⟩ = some (.slice cax.l cax.nl cax.cl) ∧ w'.cell? ⟨w.heap.size, 3, none⟩ = some (.bool cay.n) ∧ w'.cell? ⟨w.heap.size, 4, none⟩ = some (.slice cay.u cay.nu cay.cu) ∧ w'.cell? ⟨w.heap.size, 5, none⟩ = some (.slice cay.l cay.nl cay.cl) ∧ w'.cell? ⟨w.heap.size + 1, 0, none⟩ = some (.bool cbx.n) ∧ w'.cell? ⟨w.heap.size + 1, 1, none⟩ = some (.slice cbx.u cbx.nu cbx.cu) ∧ w'.cell? ⟨w.heap.size + 1, 2, none⟩ = some (.slice cbx.l cbx.nl cbx.cl) ∧ w'.cell? ⟨w.heap.size + 1, 3, none⟩ = some (.bool cbz.n) ∧ w'.cell? ⟨w.heap.size + 1, 4, none⟩ = some (.slice cbz.u cbz.nu cbz.cu) ∧ w'.cell? ⟨w.heap.size + 1, 5, none⟩ = some (.slice cbz.l cbz.nl cbz.cl)) (first | go_keep | exact hs1 | exact hs2 | exact hkS)
    (first
      | (go_at_call_of 149 (Value.agg #[Value.bool cax.n, Value.slice cax.u cax.nu cax.cu, Value.slice cax.l cax.nl cax.cl]); refine (plus_calls (w := W0.drew) (Hax.out.below (Below.drew (Below.refl _ _))) (Hbx.out.below (Below.drew (Below.refl _ _))) F1.out F3.out HK.out).mono ?_; rintro e w1 ⟨hb1, v1, rfl, hv1⟩; have hbl1 : Below W0.heap.size W0 w1 := (Below.drew (Below.refl _ W0)).trans hb1; obtain ⟨d1, rfl⟩ := qv_open hv1; have hs1 := HS.out w1 hbl1)
      | (go_at_call_of 149 (Value.agg #[Value.bool cay.n, Value.slice cay.u cay.nu cay.cu, Value.slice cay.l cay.nl cay.cl]); refine (plus_calls (Hay.out.below hbl1) (Hbz.out.below hbl1) F2.out F4.out HK.out).mono ?_; rintro e w2 ⟨hb2, v2, rfl, hv2⟩; have hbl2 := hbl1.trans (hb2.mono hbl1.size); obtain ⟨d2, rfl⟩ := qv_open hv2; have hs2 := HS.out w2 hbl2; have hkr := HK2.out.below hbl2 (by rw [HSZ.out]; omega); obtain ⟨r0, r1, r2, r3, r4, r5, f0, f1, f2, f3, f4, f5⟩ := hkr.all6; have hkS := HSS.out w2 hbl2 (.bool d1.n) (.slice d1.u d1.nu d1.cu) (.slice d1.l d1.nl d1.cl) (.bool d2.n) (.slice d2.u d2.nu d2.cu) (.slice d2.l d2.nl d2.cl))
      )
  all_goals
    go_wp2
    obtain ⟨k0, k1, k2, k3, k4, k5, _, _, _, _, _, _⟩ := (hkr.put6 (.bool d1.n) (.slice d1.u d1.nu d1.cu) (.slice d1.l d1.nl d1.cl) (.bool d2.n) (.slice d2.u d2.nu d2.cu) (.slice d2.l d2.nl d2.cl)).all6
    refine bodyPost_ret (v := .agg #[.bool d1.n, .slice d1.u d1.nu d1.cu, .slice d1.l d1.nl d1.cl, .bool d2.n, .slice d2.u d2.nu d2.cu, .slice d2.l d2.nl d2.cl]) (by simp [results, Tryz.results108, go_sem, k0, k1, k2, k3, k4, k5]) rfl ⟨Below.put6 (HB0.out.trans (hbl2.mono HB0.out.size)) (by omega) (.bool d1.n) (.slice d1.u d1.nu d1.cu) (.slice d1.l d1.nl d1.cl) (.bool d2.n) (.slice d2.u d2.nu d2.cu) (.slice d2.l d2.nl d2.cl), _, rfl, ?_⟩
    have hst := Stays.put6 hkr (by simp [notLimb]) (.bool d1.n) (.slice d1.u d1.nu d1.cu) (.slice d1.l d1.nl d1.cl) (.bool d2.n) (.slice d2.u d2.nu d2.cu) (.slice d2.l d2.nl d2.cl) rfl rfl rfl rfl rfl rfl
    exact ⟨d1, d2, rfl, hst.qv (hv1.below hb2), hst.qv hv2⟩
theorem wayMinus_walk {w : World} {cax cay cbx cbz : C3} {ax ay bx bz : Rat} (hax : QV w (.agg #[.bool cax.n, .slice cax.u cax.nu cax.cu, .slice cax.l cax.nl cax.cl]) ax) (hay : QV w (.agg #[.bool cay.n, .slice cay.u cay.nu cay.cu, .slice cay.l cay.nl cay.cl]) ay) (hbx : QV w (.agg #[.bool cbx.n, .slice cbx.u cbx.nu cbx.cu, .slice cbx.l cbx.nl cbx.cl]) bx) (hbz : QV w (.agg #[.bool cbz.n, .slice cbz.u cbz.nu cbz.cu, .slice cbz.l cbz.nl cbz.cl]) bz) {k l : Nat} (f1 : QS k ax) (f2 : QS k ay) (f3 : QS l bx) (f4 : QS l bz) (hk : k + l + 1 ≤ 35184372088640) :
    Calls Tryz.prog 64 #[.agg #[.bool cax.n, .slice cax.u cax.nu cax.cu, .slice cax.l cax.nl cax.cl, .bool cay.n, .slice cay.u cay.nu cay.cu, .slice cay.l cay.nl cay.cl], .agg #[.bool cbx.n, .slice cbx.u cbx.nu cbx.cu, .slice cbx.l cbx.nl cbx.cl, .bool cbz.n, .slice cbz.u cbz.nu cbz.cu, .slice cbz.l cbz.nl cbz.cl]] w fun e w' => Below w.heap.size w w' ∧ ∃ v, e = .returned v ∧ WV w' v (ax - bx) (ay - bz) := by
  obtain ⟨hb0, hk0, hk1, hk2, hsz⟩ := boxes3 w #[.bool cax.n, .slice cax.u cax.nu cax.cu, .slice cax.l cax.nl cax.cl, .bool cay.n, .slice cay.u cay.nu cay.cu, .slice cay.l cay.nl cay.cl] #[.bool cbx.n, .slice cbx.u cbx.nu cbx.cu, .slice cbx.l cbx.nl cbx.cl, .bool cbz.n, .slice cbz.u cbz.nu cbz.cu, .slice cbz.l cbz.nl cbz.cl] #[.bool false, .slice none 0 0, .slice none 0 0, .bool false, .slice none 0 0, .slice none 0 0] 86 86 86
  have HB0 := hideIt hb0
  have HSZ := hideIt hsz
  have HK0 := hideIt hk0
  have HK1 := hideIt hk1
  have HK2 := hideIt hk2
  have Hax := hideIt (hax.below hb0)
  have Hay := hideIt (hay.below hb0)
  have Hbx := hideIt (hbx.below hb0)
  have Hbz := hideIt (hbz.below hb0)
  have F1 := hideIt f1
  have F2 := hideIt f2
  have F3 := hideIt f3
  have F4 := hideIt f4
  have HK := hideIt hk
  clear hb0 hsz hk0 hk1 hk2 hax hay hbx hbz f1 f2 f3 f4 hk
  go_enter Tryz.func64, Tryz.ntmps64
  go_wp2_with fail
  generalize (((w.alloc (.cells #[.bool cax.n, .slice cax.u cax.nu cax.cu, .slice cax.l cax.nl cax.cl, .bool cay.n, .slice cay.u cay.nu cay.cu, .slice cay.l cay.nl cay.cl] 86)).alloc (.cells #[.bool cbx.n, .slice cbx.u cbx.nu cbx.cu, .slice cbx.l cbx.nl cbx.cl, .bool cbz.n, .slice cbz.u cbz.nu cbz.cu, .slice cbz.l cbz.nl cbz.cl] 86)).alloc (.cells #[.bool false, .slice none 0 0, .slice none 0 0, .bool false, .slice none 0 0, .slice none 0 0] 86)) = W0 at *
  have HS : Hid (∀ w', Below W0.heap.size W0 w' → w'.cell? ⟨w.heap.size, 0, none⟩ = some (.bool cax.n) ∧ w'.cell? ⟨w.heap.size, 1, none⟩ = some (.slice cax.u cax.nu cax.cu) ∧ w'.cell? ⟨w.heap.size, 2, none⟩ = some (.slice cax.l cax.nl cax.cl) ∧ w'.cell? ⟨w.heap.size, 3, none⟩ = some (.bool cay.n) ∧ w'.cell? ⟨w.heap.size, 4, none⟩ = some (.slice cay.u cay.nu cay.cu) ∧ w'.cell? ⟨w.heap.size, 5, none⟩ = some (.slice cay.l cay.nl cay.cl) ∧ w'.cell? ⟨w.heap.size + 1, 0, none⟩ = some (.bool cbx.n) ∧ w'.cell? ⟨w.heap.size + 1, 1, none⟩ = some (.slice cbx.u cbx.nu cbx.cu) ∧ w'.cell? ⟨w.heap.size + 1, 2, none⟩ = some (.slice cbx.l cbx.nl cbx.cl) ∧ w'.cell? ⟨w.heap.size + 1, 3, none⟩ = some (.bool cbz.n) ∧ w'.cell? ⟨w.heap.size + 1, 4, none⟩ = some (.slice cbz.u cbz.nu cbz.cu) ∧ w'.cell? ⟨w.heap.size + 1, 5, none⟩ = some (.slice cbz.l cbz.nl cbz.cl)) := fun w' hb => ⟨(HK0.out.below hb (by rw [HSZ.out]; omega)).cell 0, (HK0.out.below hb (by rw [HSZ.out]; omega)).cell 1, (HK0.out.below hb (by rw [HSZ.out]; omega)).cell 2, (HK0.out.below hb (by rw [HSZ.out]; omega)).cell 3, (HK0.out.below hb (by rw [HSZ.out]; omega)).cell 4, (HK0.out.below hb (by rw [HSZ.out]; omega)).cell 5, (HK1.out.below hb (by rw [HSZ.out]; omega)).cell 0, (HK1.out.below hb (by rw [HSZ.out]; omega)).cell 1, (HK1.out.below hb (by rw [HSZ.out]; omega)).cell 2, (HK1.out.below hb (by rw [HSZ.out]; omega)).cell 3, (HK1.out.below hb (by rw [HSZ.out]; omega)).cell 4, (HK1.out.below hb (by rw [HSZ.out]; omega)).cell 5⟩
  have HSS : Hid (∀ w', Below W0.heap.size W0 w' → ∀ x0 x1 x2 x3 x4 x5 : Value, ((((((w'.setCell ⟨w.heap.size + 1 + 1, 0, none⟩ (x0)).setCell ⟨w.heap.size + 1 + 1, 1, none⟩ (x1)).setCell ⟨w.heap.size + 1 + 1, 2, none⟩ (x2)).setCell ⟨w.heap.size + 1 + 1, 3, none⟩ (x3)).setCell ⟨w.heap.size + 1 + 1, 4, none⟩ (x4)).setCell ⟨w.heap.size + 1 + 1, 5, none⟩ (x5)).cell? ⟨w.heap.size, 0, none⟩ = some (.bool cax.n) ∧ ((((((w'.setCell ⟨w.heap.size + 1 + 1, 0, none⟩ (x0)).setCell ⟨w.heap.size + 1 + 1, 1, none⟩ (x1)).setCell ⟨w.heap.size + 1 + 1, 2, none⟩ (x2)).setCell ⟨w.heap.size + 1 + 1, 3, none⟩ (x3)).setCell ⟨w.heap.size + 1 + 1, 4, none⟩ (x4)).setCell ⟨w.heap.size + 1 + 1, 5, none⟩ (x5)).cell? ⟨w.heap.size, 1, none⟩ = some (.slice cax.u cax.nu cax.cu) ∧ ((((((w'.setCell ⟨w.heap.size + 1 + 1, 0, none⟩ (x0)).setCell ⟨w.heap.size + 1 + 1, 1, none⟩ (x1)).setCell ⟨w.heap.size + 1 + 1, 2, none⟩ (x2)).setCell ⟨w.heap.size + 1 + 1, 3, none⟩ (x3)).setCell ⟨w.heap.size + 1 + 1, 4, none⟩ (x4)).setCell ⟨w.heap.size + 1 + 1, 5, none⟩ (x5)).cell? ⟨w.heap.size, 2, none⟩ = some (.slice cax.l cax.nl cax.cl) ∧ ((((((w'.setCell ⟨w.heap.size + 1 + 1, 0, none⟩ (x0)).setCell ⟨w.heap.size + 1 + 1, 1, none⟩ (x1)).setCell ⟨w.heap.size + 1 + 1, 2, none⟩ (x2)).setCell ⟨w.heap.size + 1 + 1, 3, none⟩ (x3)).setCell ⟨w.heap.size + 1 + 1, 4, none⟩ (x4)).setCell ⟨w.heap.size + 1 + 1, 5, none⟩ (x5)).cell? ⟨w.heap.size, 3, none⟩ = some (.bool cay.n) ∧ ((((((w'.setCell ⟨w.heap.size + 1 + 1, 0, none⟩ (x0)).setCell ⟨w.heap.size + 1 + 1, 1, none⟩ (x1)).setCell ⟨w.heap.size + 1 + 1, 2, none⟩ (x2)).setCell ⟨w.heap.size + 1 + 1, 3, none⟩ (x3)).setCell ⟨w.heap.size + 1 + 1, 4, none⟩ (x4)).setCell ⟨w.heap.size + 1 + 1, 5, none⟩ (x5)).cell? ⟨w.heap.size, 4, none⟩ = some (.slice cay.u cay.nu cay.cu) ∧ ((((((w'.setCell ⟨w.heap.size + 1 + 1, 0, none⟩ (x0)).setCell ⟨w.heap.size + 1 + 1, 1, none⟩ (x1)).setCell ⟨w.heap.size + 1 + 1, 2, none⟩ (x2)).setCell ⟨w.heap.size + 1 + 1, 3, none⟩ (x3)).setCell ⟨w.heap.size + 1 + 1, 4, none⟩ (x4)).setCell ⟨w.heap.size + 1 + 1, 5, none⟩ (x5)).cell? ⟨w.heap.size, 5, none⟩ = some (.slice cay.l cay.nl cay.cl) ∧ ((((((w'.setCell ⟨w.heap.size + 1 + 1, 0, none⟩ (x0)).setCell ⟨w.heap.size + 1 + 1, 1, none⟩ (x1)).setCell ⟨w.heap.size + 1 + 1, 2, none⟩ (x2)).setCell ⟨w.heap.size + 1 + 1, 3, none⟩ (x3)).setCell ⟨w.heap.size + 1 + 1, 4, none⟩ (x4)).setCell ⟨w.heap.size + 1 + 1, 5, none⟩ (x5)).cell? ⟨w.heap.size + 1, 0, none⟩ = some (.bool cbx.n) ∧ ((((((w'.setCell ⟨w.heap.size + 1 + 1, 0, none⟩ (x0)).setCell ⟨w.heap.size + 1 + 1, 1, none⟩ (x1)).setCell ⟨w.heap.size + 1 + 1, 2, none⟩ (x2)).setCell ⟨w.heap.size + 1 + 1, 3, none⟩ (x3)).setCell ⟨w.heap.size + 1 + 1, 4, none⟩ (x4)).setCell ⟨w.heap.size + 1 + 1, 5, none⟩ (x5)).cell? ⟨w.heap.size + 1, 1, none⟩ = some (.slice cbx.u cbx.nu cbx.cu) ∧ ((((((w'.setCell ⟨w.heap.size + 1 + 1, 0, none⟩ (x0)).setCell ⟨w.heap.size + 1 + 1, 1, none⟩ (x1)).setCell ⟨w.heap.size + 1 + 1, 2, none⟩ (x2)).setCell ⟨w.heap.size + 1 + 1, 3, none⟩ (x3)).setCell ⟨w.heap.size + 1 + 1, 4, none⟩ (x4)).setCell ⟨w.heap.size + 1 + 1, 5, none⟩ (x5)).cell? ⟨w.heap.size + 1, 2, none⟩ = some (.slice cbx.l cbx.nl cbx.cl) ∧ ((((((w'.setCell ⟨w.heap.size + 1 + 1, 0, none⟩ (x0)).setCell ⟨w.heap.size + 1 + 1, 1, none⟩ (x1)).setCell ⟨w.heap.size + 1 + 1, 2, none⟩ (x2)).setCell ⟨w.heap.size + 1 + 1, 3, none⟩ (x3)).setCell ⟨w.heap.size + 1 + 1, 4, none⟩ (x4)).setCell ⟨w.heap.size + 1 + 1, 5, none⟩ (x5)).cell? ⟨w.heap.size + 1, 3, none⟩ = some (.bool cbz.n) ∧ ((((((w'.setCell ⟨w.heap.size + 1 + 1, 0, none⟩ (x0)).setCell ⟨w.heap.size + 1 + 1, 1, none⟩ (x1)).setCell ⟨w.heap.size + 1 + 1, 2, none⟩ (x2)).setCell ⟨w.heap.size + 1 + 1, 3, none⟩ (x3)).setCell ⟨w.heap.size + 1 + 1, 4, none⟩ (x4)).setCell ⟨w.heap.size + 1 + 1, 5, none⟩ (x5)).cell? ⟨w.heap.size + 1, 4, none⟩ = some (.slice cbz.u cbz.nu cbz.cu) ∧ ((((((w'.setCell ⟨w.heap.size + 1 + 1, 0, none⟩ (x0)).setCell ⟨w.heap.size + 1 + 1, 1, none⟩ (x1)).setCell ⟨w.heap.size + 1 + 1, 2, none⟩ (x2)).setCell ⟨w.heap.size + 1 + 1, 3, none⟩ (x3)).setCell ⟨w.heap.size + 1 + 1, 4, none⟩ (x4)).setCell ⟨w.heap.size + 1 + 1, 5, none⟩ (x5)).cell? ⟨w.heap.size + 1, 5, none⟩ = some (.slice cbz.l cbz.nl cbz.cl)) := fun w' hb x0 x1 x2 x3 x4 x5 => ⟨((HK0.out.below hb (by rw [HSZ.out]; omega)).off6 (g := w.heap.size + 1 + 1) (by omega) x0 x1 x2 x3 x4 x5).cell 0, ((HK0.out.below hb (by rw [HSZ.out]; omega)).off6 (g := w.heap.size + 1 + 1) (by omega) x0 x1 x2 x3 x4 x5).cell 1, ((HK0.out.below hb (by rw [HSZ.out]; omega)).off6 (g := w.heap.size + 1 + 1) (by omega) x0 x1 x2 x3 x4 x5).cell 2, ((HK0.out.below hb (by rw [HSZ.out]; omega)).off6 (g := w.heap.size + 1 + 1) (by omega) x0 x1 x2 x3 x4 x5).cell 3, ((HK0.out.below hb (by rw [HSZ.out]; omega)).off6 (g := w.heap.size + 1 + 1) (by omega) x0 x1 x2 x3 x4 x5).cell 4, ((HK0.out.below hb (by rw [HSZ.out]; omega)).off6 (g := w.heap.size + 1 + 1) (by omega) x0 x1 x2 x3 x4 x5).cell 5, ((HK1.out.below hb (by rw [HSZ.out]; omega)).off6 (g := w.heap.size + 1 + 1) (by omega) x0 x1 x2 x3 x4 x5).cell 0, ((HK1.out.below hb (by rw [HSZ.out]; omega)).off6 (g := w.heap.size + 1 + 1) (by omega) x0 x1 x2 x3 x4 x5).cell 1, ((HK1.out.below hb (by rw [HSZ.out]; omega)).off6 (g := w.heap.size + 1 + 1) (by omega) x0 x1 x2 x3 x4 x5).cell 2, ((HK1.out.below hb (by rw [HSZ.out]; omega)).off6 (g := w.heap.size + 1 + 1) (by omega) x0 x1 x2 x3 x4 x5).cell 3, ((HK1.out.below hb (by rw [HSZ.out]; omega)).off6 (g := w.heap.size + 1 + 1) (by omega) x0 x1 x2 x3 x4 x5).cell 4, ((HK1.out.below hb (by rw [HSZ.out]; omega)).off6 (g := w.heap.size + 1 + 1) (by omega) x0 x1 x2 x3 x4 x5).cell 5⟩
  obtain ⟨z0, z1, z2, z3, z4, z5, z6, z7, z8, z9, z10, z11⟩ := HS.out W0 (Below.refl _ _)
  go_region_held3 (fun w' => w'.cell? ⟨w.heap.size, 0, none⟩ = some (.bool cax.n) ∧ w'.cell? ⟨w.heap.size, 1, none⟩ = some (.slice cax.u cax.nu cax.cu) ∧ w'.cell? ⟨w.heap.size, 2, none⟩ = some (.slice cax.l cax.nl cax.cl) ∧ w'.cell? ⟨w.heap.size, 3, none⟩ = some (.bool cay.n) ∧ w'.cell? ⟨w.heap.size, 4, none⟩ = some (.slice cay.u cay.nu cay.cu) ∧ w'.cell? ⟨w.heap.size, 5, none⟩ = some (.slice cay.l cay.nl cay.cl) ∧ w'.cell? ⟨w.heap.size + 1, 0, none⟩ = some (.bool cbx.n) ∧ w'.cell? ⟨w.heap.size + 1, 1, none⟩ = some (.slice cbx.u cbx.nu cbx.cu) ∧ w'.cell? ⟨w.heap.size + 1, 2, none⟩ = some (.slice cbx.l cbx.nl cbx.cl) ∧ w'.cell? ⟨w.heap.size + 1, 3, none⟩ = some (.bool cbz.n) ∧ w'.cell? ⟨w.heap.size + 1, 4, none⟩ = some (.slice cbz.u cbz.nu cbz.cu) ∧ w'.cell? ⟨w.heap.size + 1, 5, none⟩ = some (.slice cbz.l cbz.nl cbz.cl)) (first | go_keep | exact hs1 | exact hs2 | exact hkS)
    (first
      | (go_at_call_of 106 (Value.agg #[Value.bool cax.n, Value.slice cax.u cax.nu cax.cu, Value.slice cax.l cax.nl cax.cl]); refine (minus_calls (w := W0.drew) (Hax.out.below (Below.drew (Below.refl _ _))) (Hbx.out.below (Below.drew (Below.refl _ _))) F1.out F3.out HK.out).mono ?_; rintro e w1 ⟨hb1, v1, rfl, hv1⟩; have hbl1 : Below W0.heap.size W0 w1 := (Below.drew (Below.refl _ W0)).trans hb1; obtain ⟨d1, rfl⟩ := qv_open hv1; have hs1 := HS.out w1 hbl1)
      | (go_at_call_of 106 (Value.agg #[Value.bool cay.n, Value.slice cay.u cay.nu cay.cu, Value.slice cay.l cay.nl cay.cl]); refine (minus_calls (Hay.out.below hbl1) (Hbz.out.below hbl1) F2.out F4.out HK.out).mono ?_; rintro e w2 ⟨hb2, v2, rfl, hv2⟩; have hbl2 := hbl1.trans (hb2.mono hbl1.size); obtain ⟨d2, rfl⟩ := qv_open hv2; have hs2 := HS.out w2 hbl2; have hkr := HK2.out.below hbl2 (by rw [HSZ.out]; omega); obtain ⟨r0, r1, r2, r3, r4, r5, f0, f1, f2, f3, f4, f5⟩ := hkr.all6; have hkS := HSS.out w2 hbl2 (.bool d1.n) (.slice d1.u d1.nu d1.cu) (.slice d1.l d1.nl d1.cl) (.bool d2.n) (.slice d2.u d2.nu d2.cu) (.slice d2.l d2.nl d2.cl))
      )
  all_goals
    go_wp2
    obtain ⟨k0, k1, k2, k3, k4, k5, _, _, _, _, _, _⟩ := (hkr.put6 (.bool d1.n) (.slice d1.u d1.nu d1.cu) (.slice d1.l d1.nl d1.cl) (.bool d2.n) (.slice d2.u d2.nu d2.cu) (.slice d2.l d2.nl d2.cl)).all6
    refine bodyPost_ret (v := .agg #[.bool d1.n, .slice d1.u d1.nu d1.cu, .slice d1.l d1.nl d1.cl, .bool d2.n, .slice d2.u d2.nu d2.cu, .slice d2.l d2.nl d2.cl]) (by simp [results, Tryz.results64, go_sem, k0, k1, k2, k3, k4, k5]) rfl ⟨Below.put6 (HB0.out.trans (hbl2.mono HB0.out.size)) (by omega) (.bool d1.n) (.slice d1.u d1.nu d1.cu) (.slice d1.l d1.nl d1.cl) (.bool d2.n) (.slice d2.u d2.nu d2.cu) (.slice d2.l d2.nl d2.cl), _, rfl, ?_⟩
    have hst := Stays.put6 hkr (by simp [notLimb]) (.bool d1.n) (.slice d1.u d1.nu d1.cu) (.slice d1.l d1.nl d1.cl) (.bool d2.n) (.slice d2.u d2.nu d2.cu) (.slice d2.l d2.nl d2.cl) rfl rfl rfl rfl rfl rfl
    exact ⟨d1, d2, rfl, hst.qv (hv1.below hb2), hst.qv hv2⟩
theorem wayMinus_calls {w : World} {va vb : Value} {ax ay bx bz : Rat} {k l : Nat} (ha : WV w va ax ay) (hb : WV w vb bx bz) (f1 : QS k ax) (f2 : QS k ay) (f3 : QS l bx) (f4 : QS l bz) (hk : k + l + 1 ≤ 35184372088640) :
    Calls Tryz.prog 64 #[va, vb] w fun e w' => Below w.heap.size w w' ∧ ∃ v, e = .returned v ∧ WV w' v (ax - bx) (ay - bz) := by
  obtain ⟨c1, c2, rfl, h1, h2⟩ := ha
  obtain ⟨c3, c4, rfl, h3, h4⟩ := hb
  exact wayMinus_walk h1 h2 h3 h4 f1 f2 f3 f4 hk
end Go.Proofs.YtgajdmadbdbabaaGreatDoor
/- WH -/
namespace Go.Proofs.YtgajdmadbdbabaaGreatDoor
open Go.RowKit Cx
attribute [local go_sem ↓] Go.wp_at_zero Go.wp_at_succ
end Go.Proofs.YtgajdmadbdbabaaGreatDoor
/- WY -/
namespace Go.Proofs.YtgajdmadbdbabaaGreatDoor
open Go.RowKit Cx
attribute [local go_sem ↓] Go.wp_at_zero Go.wp_at_succ
end Go.Proofs.YtgajdmadbdbabaaGreatDoor
/- RE -/
namespace Go.Proofs.YtgajdmadbdbabaaGreatDoor
open Go.RowKit Cx
attribute [local go_sem ↓] Go.wp_at_zero Go.wp_at_succ
theorem bytes_of {s : ByteArray} {l : List UInt8} (h : s.data.toList = l) : s = ⟨l.toArray⟩ := by
  apply ByteArray.ext
  apply Array.ext'
  simpa using h
end Go.Proofs.YtgajdmadbdbabaaGreatDoor
/- RH -/
namespace Go.Proofs.YtgajdmadbdbabaaGreatDoor
open Go.RowKit Cx
attribute [local go_sem ↓] Go.wp_at_zero Go.wp_at_succ
theorem refOfS_calls (s : ByteArray) (w : World) (hm : MaxL w) (hs : s.size ≤ 4294967280) :
    Calls Tryz.prog 79 #[.string s] w fun e w' => Below w.heap.size w w' ∧ ∃ v, e = .returned v ∧ PR w' v (rd s.data.toList) := by
  refine (refOf_calls s w hm hs).mono ?_
  rintro e w' ⟨hb, g, rfl, _, h⟩
  exact ⟨hb, _, rfl, _, rfl, h⟩
end Go.Proofs.YtgajdmadbdbabaaGreatDoor
/- RLA -/
namespace Go.Proofs.YtgajdmadbdbabaaGreatDoor
open Go.RowKit Cx
attribute [local go_sem ↓] Go.wp_at_zero Go.wp_at_succ
end Go.Proofs.YtgajdmadbdbabaaGreatDoor
/- BQU -/
namespace Go.Proofs.YtgajdmadbdbabaaGreatDoor
open Go.RowKit Cx
attribute [local go_sem ↓] Go.wp_at_zero Go.wp_at_succ
end Go.Proofs.YtgajdmadbdbabaaGreatDoor
/- AWE -/
namespace Go.Proofs.YtgajdmadbdbabaaGreatDoor
open Go.RowKit Cx
structure TX (k : Nat) (s : ByteArray) (q : Rat) : Prop where
  rd : Cx.rd s.data.toList = q
  qs : QS k q
  sz : s.size ≤ 2 * k + 4
theorem TX.param {s : ByteArray} (h : s.size ≤ 1048576) : TX 4194309 s (Cx.rd s.data.toList) := ⟨rfl, (QS.rd _).mono (by rw [str_len]; omega), by omega⟩
theorem TX.told {s : ByteArray} {q : Rat} {k : Nat} (h : s.data.toList = tx q) (f : QS k q) : TX k s q := ⟨by rw [h, rd_tx], f, by rw [← str_len, h]; exact tx_len f⟩
theorem TX.right {s : ByteArray} {q : Rat} (h : s.data.toList = tx q) : right s := by
  show tx (Cx.rd s.data.toList) = s.data.toList
  rw [h, rd_tx]
theorem TX.len {s : ByteArray} {q : Rat} {k : Nat} (h : TX k s q) (hk : 2 * k + 4 ≤ 4294967296) : s.data.toList.length ≤ 4294967296 := by rw [str_len]; exact Nat.le_trans h.sz hk
theorem TX.qsr {s : ByteArray} {q : Rat} {k : Nat} (h : TX k s q) : QS k (Cx.rd s.data.toList) := h.rd ▸ h.qs
def Pre (w : World) : Prop := Tab w ∧ MaxL w
theorem Pre.below {w w' : World} (h : Pre w) (hb : Below w.heap.size w w') : Pre w' := ⟨h.1.below hb, h.2.below hb⟩
theorem run_eql_int (T : TypeId) (x y : Operand) (a b : Int) (c : Bool) (h : (a == b) = c) (w : World) : (do eqGuard .eql T x y (.int .i64 a) (.int .i64 b); binOp .eql T (.int .i64 a) (.int .i64 b) : Sem Value).run Tryz.prog w = .ok (.bool c) w := by
  subst h
  simp [go_sem]
theorem run_neq_int (T : TypeId) (x y : Operand) (a b : Int) (c : Bool) (h : (a != b) = c) (w : World) : (do eqGuard .neq T x y (.int .i64 a) (.int .i64 b); binOp .neq T (.int .i64 a) (.int .i64 b) : Sem Value).run Tryz.prog w = .ok (.bool c) w := by
  subst h
  simp [go_sem]
theorem run_eql_T_t {x y : Operand} {a0 a1 b0 b1 : ByteArray} (h : a0 = b0 ∧ a1 = b1) (w : World) : (do eqGuard .eql 67 x y (.agg #[.string a0, .string a1]) (.agg #[.string b0, .string b1]); binOp .eql 67 (.agg #[.string a0, .string a1]) (.agg #[.string b0, .string b1]) : Sem Value).run Tryz.prog w = .ok (.bool true) w := by
  obtain ⟨rfl, rfl⟩ := h
  simp [go_sem]
section
variable {Q : Exit → Act → World → Prop} {w0 : World} {n : Nat} {tm : List (Nat × Fact)} {bx : List (Nat × TypeId × Fact)} {a0 : Act} {wr : World} {os : List Oper} {pl : List Plan}
theorem step_agg2 {i : Nat} {o : Oper} {op : BinOp} {xT yT : TypeId} {x y : Operand} {a b c d : ByteArray} {r : Value} (ho : os[i]? = some o) (hp : pl[i]? = some (.pure (Jus r))) (hw : Want w0 bx a0 wr os pl o true) (hop : o.op = .binOp op xT x y yT) (hx : Opn w0 bx a0 wr os pl i o x (P2 a b)) (hy : Opn w0 bx a0 wr os pl i o y (P2 c d))
    (hr : ∀ w, (do eqGuard op xT x y (.agg #[.string a, .string b]) (.agg #[.string c, .string d]); binOp op xT (.agg #[.string a, .string b]) (.agg #[.string c, .string d]) : Sem Value).run Tryz.prog w = .ok r w) :
    AStep Tryz.prog Q os a0 (RInv w0 bx a0 wr os pl) i o := step_bin ho hp hw hop (fun d τ w h1 h2 h3 => P2.eq (hx d τ w h1 h2 h3)) (fun d τ w h1 h2 h3 => P2.eq (hy d τ w h1 h2 h3)) hr
end
theorem allS_two {w : World} {S T : Soft} {vs : List Value} (h : AllS w [S, T] vs) : ∃ u v, vs = [u, v] ∧ S.on u w ∧ T.on v w := by
  match vs, h with
  | [u, v], h => exact ⟨u, v, rfl, h.1, h.2.1⟩
theorem srow_of {w : World} {v : Value} {ss : List ByteArray} (h : (RowS 22 ss.length (ss.map Tx)).on v w) : SRow w v ss := by
  obtain ⟨G, cs, rfl, hk, hall⟩ := h
  refine ⟨G, 0, ss.length, rfl, hk.lt, fun j hj => ?_⟩
  obtain ⟨p, hp, hF⟩ := hall.get (k := j) (F := Tx ss[j]) (by simp [hj])
  cases hF
  rw [Nat.zero_add, hk.cell j]
  simpa using hp
theorem en_compassref_Of (vs : Array Value) (w : World) : (callFunc 79 vs).run Tryz.prog w = .ok (.enter 79 vs) w := enters Tryz.func79 (by kernel_rfl) (by kernel_rfl) vs w
theorem con_Of {a : ByteArray} {x : Rat} {k : Nat} (ha : TX k a x) (hk : 2 * k + 4 ≤ 4294967280) : Con Tryz.prog Pre 79 [Tx a] (Rt x) := fun w vs hp hall => by
  obtain ⟨v0, rfl, h1⟩ := all2_one hall
  cases h1
  have e1 := ha.rd
  subst e1
  refine (refOfS_calls a w hp.2 (Nat.le_trans ha.sz hk)).mono ?_
  rintro _ w' ⟨hb, v, rfl, hv⟩
  exact ⟨hb, v, rfl, hv⟩
theorem en_compassref_Zero (vs : Array Value) (w : World) : (callFunc 27 vs).run Tryz.prog w = .ok (.enter 27 vs) w := enters Tryz.func27 (by kernel_rfl) (by kernel_rfl) vs w
theorem con_Zero_t {x : Rat} (hP : x = 0) : Con Tryz.prog Pre 27 [Rt x] (Bo true) := fun w vs hp hall => by
  obtain ⟨v0, rfl, h1⟩ := all2_one hall
  refine (refZero_calls h1).mono ?_
  rintro _ w' ⟨hb, rfl⟩
  exact ⟨hb, _, rfl, by rw [decide_eq_true hP]; rfl⟩
theorem con_Zero_f {x : Rat} (hP : ¬ x = 0) : Con Tryz.prog Pre 27 [Rt x] (Bo false) := fun w vs hp hall => by
  obtain ⟨v0, rfl, h1⟩ := all2_one hall
  refine (refZero_calls h1).mono ?_
  rintro _ w' ⟨hb, rfl⟩
  exact ⟨hb, _, rfl, by rw [decide_eq_false hP]; rfl⟩
theorem en_compassref_V_Cross (vs : Array Value) (w : World) : (callFunc 42 vs).run Tryz.prog w = .ok (.enter 42 vs) w := enters Tryz.func42 (by kernel_rfl) (by kernel_rfl) vs w
theorem con_Cross {ax az : Rat} {bx bz : Rat} {x : Rat} {k : Nat} (e : x = (ax * bz) - (az * bx)) (fax : QS k ax) (faz : QS k az) (fbx : QS k bx) (fbz : QS k bz) (hk : 8 * k + 16 ≤ 35184372088640) : Con Tryz.prog Pre 42 [V2 ax az, V2 bx bz] (Rt x) := fun w vs hp hall => by
  obtain ⟨v0, v1, rfl, h1, h2⟩ := all2_two hall
  refine (vCross_calls (V2.vv h1) (V2.vv h2) fax faz fbx fbz hk).mono ?_
  rintro _ w' ⟨hb, v, rfl, hv⟩
  exact ⟨hb, v, rfl, by rw [e]; exact hv⟩
end Go.Proofs.YtgajdmadbdbabaaGreatDoor
/- AWH -/
namespace Go.Proofs.YtgajdmadbdbabaaGreatDoor
open Go.RowKit Cx
theorem en_compasslaw_way (vs : Array Value) (w : World) : (callFunc 56 vs).run Tryz.prog w = .ok (.enter 56 vs) w := enters Tryz.func56 (by kernel_rfl) (by kernel_rfl) vs w
theorem con_way {s c : ByteArray} {rs rc : Rat} {k : Nat} (ts : TX k s rs) (tc : TX k c rc) (_ : 2 * k + 4 ≤ 4294967280) :
    Con Tryz.prog Pre 56 [Agg [Tx s, Tx c]] (Agg [Rt rc, Rt rs]) := by
  refine con_of (n := 10) Tryz.func56 rfl rfl (Nat.le_of_ble_eq_true rfl) ?_
  intro w a0 hp S0
  have HPRE : ∀ w', Below w.heap.size w w' → Pre w' := fun w' hb => hp.below hb
  refine wp_seq ?_
  refine region_abs [.alloc 67 (Agg [Tx s, Tx c]), .alloc 43 (Agg [Jus (.pointer none), Jus (.pointer none)])] ⟨S0, by decide +kernel⟩ (by kernel_rfl) (by kernel_rfl) rfl (by kernel_rfl) ?_ ?_
  · intro C
    refine ASteps.cons ?_ (ASteps.cons ?_ (ASteps.nil))
    · exact step_box rfl rfl (want_none rfl) rfl (no_fill (by kernel_rfl)) (opn_old C 0 (by kernel_rfl) rfl) (boxes_T (cok2 (nl_tx s) (nl_tx c)))
    · exact step_new [.pointer none, .pointer none] zero_V rfl rfl (want_none rfl) rfl (no_fill (by kernel_rfl)) allocs_V (by simp [notLimb]) (by kernel_rfl)
  intro γ a1 w1 S1
  replace S1 : AS w 10 [(2, Jus (.pointer (some ⟨γ 1, 0, none⟩))), (1, Jus (.pointer (some ⟨γ 0, 0, none⟩)))] [(γ 0, 67, Agg [Tx s, Tx c]), (γ 1, 43, Agg [Jus (.pointer none), Jus (.pointer none)])] a1 w1 := cast (by kernel_rfl) (S1.keep [1, 2])
  generalize γ 0 = G1_0 at S1
  generalize γ 1 = G1_1 at S1
  clear S0
  refine then_normal ?_
  refine wp_seq ?_
  refine region_abs [.pure (Jus (.pointer (some ⟨G1_0, 1, none⟩))), .pure (Tx c), .pure (Rt rc), .pure (Jus (.pointer (some ⟨G1_0, 0, none⟩))), .pure (Tx s), .pure (Rt rs), .pure (Agg [Rt rc, Rt rs]), .over 1 (Agg [Rt rc, Rt rs])] ⟨S1, by decide +kernel⟩ (by kernel_rfl) (by kernel_rfl) rfl (by kernel_rfl) ?_ ?_
  · intro C
    refine ASteps.cons ?_ (ASteps.cons ?_ (ASteps.cons ?_ (ASteps.cons ?_ (ASteps.cons ?_ (ASteps.cons ?_ (ASteps.cons ?_ (ASteps.cons ?_ (ASteps.nil))))))))
    · exact step_fieldAddr rfl rfl (want_none rfl) rfl (opn_old C 1 (by kernel_rfl) rfl) (field_T_1 _)
    · exact step_loadF (k := 0) rfl rfl rfl (want_none rfl) rfl (opn_new C 0 0 rfl rfl rfl rfl rfl rfl) (no_over (by kernel_rfl)) (part_agg rfl one_Q)
    · exact step_call HPRE rfl rfl (want_none rfl) rfl en_compassref_Of (Opns.cons (opn_new C 1 0 rfl rfl rfl rfl rfl rfl) Opns.nil) (con_Of tc (by first | decide | omega))
    · exact step_fieldAddr rfl rfl (want_none rfl) rfl (opn_old C 1 (by kernel_rfl) rfl) (field_T_0 _)
    · exact step_loadF (k := 0) rfl rfl rfl (want_none rfl) rfl (opn_new C 3 0 rfl rfl rfl rfl rfl rfl) (no_over (by kernel_rfl)) (part_agg rfl one_Q)
    · exact step_call HPRE rfl rfl (want_none rfl) rfl en_compassref_Of (Opns.cons (opn_new C 4 0 rfl rfl rfl rfl rfl rfl) Opns.nil) (con_Of ts (by first | decide | omega))
    · exact step_build rfl rfl (want_none rfl) rfl (Opns.cons (opn_new C 2 0 rfl rfl rfl rfl rfl rfl) (Opns.cons (opn_new C 5 1 rfl rfl rfl rfl rfl rfl) Opns.nil)) (builds_V _ _)
    · exact step_over C (k := 1) rfl rfl rfl (want_none rfl) rfl (opn_old C 0 (by kernel_rfl) rfl) (by decide) (one_over (by kernel_rfl)) (opn_new C 6 0 rfl rfl rfl rfl rfl rfl) (stores_V (cok2 (nl_rt rc) (nl_rt rs)))
  intro γ a2 w2 S2
  replace S2 : AS w 10 [(2, Jus (.pointer (some ⟨G1_1, 0, none⟩)))] [(G1_0, 67, Agg [Tx s, Tx c]), (G1_1, 43, Agg [Rt rc, Rt rs])] a2 w2 := cast (by kernel_rfl) (S2.keep [2])
  clear S1
  refine then_normal ?_
  refine wp_ret ?_
  exact S2.retCell 0 1 rfl rfl rfl loads_V fun v hv => ⟨S2.bel, v, rfl, hv⟩
theorem en_compasslaw_isT (vs : Array Value) (w : World) : (callFunc 53 vs).run Tryz.prog w = .ok (.enter 53 vs) w := enters Tryz.func53 (by kernel_rfl) (by kernel_rfl) vs w
theorem con_isT_f {s c : ByteArray} {rs rc : Rat} {k : Nat} (ts : TX k s rs) (tc : TX k c rc) (_ : 2 * k + 4 ≤ 4294967280) (h1 : rs = 0) (h2 : rc = 0) :
    Con Tryz.prog Pre 53 [Agg [Tx s, Tx c]] (Bo false) := by
  refine con_of (n := 15) Tryz.func53 rfl rfl (Nat.le_of_ble_eq_true rfl) ?_
  intro w a0 hp S0
  have HPRE : ∀ w', Below w.heap.size w w' → Pre w' := fun w' hb => hp.below hb
  refine wp_seq ?_
  refine region_abs [.alloc 67 (Agg [Tx s, Tx c]), .pure (Bo false)] ⟨S0, by decide +kernel⟩ (by kernel_rfl) (by kernel_rfl) rfl (by kernel_rfl) ?_ ?_
  · intro C
    refine ASteps.cons ?_ (ASteps.cons ?_ (ASteps.nil))
    · exact step_box rfl rfl (want_none rfl) rfl (no_fill (by kernel_rfl)) (opn_old C 0 (by kernel_rfl) rfl) (boxes_T (cok2 (nl_tx s) (nl_tx c)))
    · exact step_assign rfl rfl (want_none rfl) rfl (opn_const _)
  intro γ a1 w1 S1
  replace S1 : AS w 15 [(2, Bo false), (1, Jus (.pointer (some ⟨γ 0, 0, none⟩)))] [(γ 0, 67, Agg [Tx s, Tx c])] a1 w1 := cast (by kernel_rfl) (S1.keep [1, 2])
  generalize γ 0 = G1_0 at S1
  clear S0
  refine then_normal ?_
  refine wp_seq ?_
  refine region_abs [.pure (Jus (.pointer (some ⟨G1_0, 0, none⟩))), .pure (Tx s), .pure (Rt rs), .pure (Bo true), .pure (Bo false), .pure (Bo false), .pure (Jus (.pointer (some ⟨G1_0, 1, none⟩))), .pure (Tx c), .pure (Rt rc), .pure (Bo true), .pure (Bo false), .pure (Bo false), .pure (Bo false)] ⟨S1, by decide +kernel⟩ (by kernel_rfl) (by kernel_rfl) rfl (by kernel_rfl) ?_ ?_
  · intro C
    refine ASteps.cons ?_ (ASteps.cons ?_ (ASteps.cons ?_ (ASteps.cons ?_ (ASteps.cons ?_ (ASteps.cons ?_ (ASteps.cons ?_ (ASteps.cons ?_ (ASteps.cons ?_ (ASteps.cons ?_ (ASteps.cons ?_ (ASteps.cons ?_ (ASteps.cons ?_ (ASteps.nil)))))))))))))
    · exact step_fieldAddr rfl rfl (want_none rfl) rfl (opn_old C 1 (by kernel_rfl) rfl) (field_T_0 _)
    · exact step_loadF (k := 0) rfl rfl rfl (want_none rfl) rfl (opn_new C 0 0 rfl rfl rfl rfl rfl rfl) (no_over (by kernel_rfl)) (part_agg rfl one_Q)
    · exact step_call HPRE rfl rfl (want_none rfl) rfl en_compassref_Of (Opns.cons (opn_new C 1 0 rfl rfl rfl rfl rfl rfl) Opns.nil) (con_Of ts (by first | decide | omega))
    · exact step_call HPRE rfl rfl (want_none rfl) rfl en_compassref_Zero (Opns.cons (opn_new C 2 0 rfl rfl rfl rfl rfl rfl) Opns.nil) (con_Zero_t  h1)
    · exact step_not true rfl rfl (want_none rfl) rfl (opn_new C 3 0 rfl rfl rfl rfl rfl rfl)
    · exact step_move rfl rfl (want_none rfl) rfl (opn_new C 4 0 rfl rfl rfl rfl rfl rfl)
    · exact step_fieldAddr rfl rfl (want_yes C 5 0 false rfl rfl rfl rfl rfl rfl rfl) rfl (opn_old C 1 (by kernel_rfl) rfl) (field_T_1 _)
    · exact step_loadF (k := 0) rfl rfl rfl (want_yes C 5 1 false rfl rfl rfl rfl rfl rfl rfl) rfl (opn_new C 6 0 rfl rfl rfl rfl rfl rfl) (no_over (by kernel_rfl)) (part_agg rfl one_Q)
    · exact step_call HPRE rfl rfl (want_yes C 5 1 false rfl rfl rfl rfl rfl rfl rfl) rfl en_compassref_Of (Opns.cons (opn_new C 7 0 rfl rfl rfl rfl rfl rfl) Opns.nil) (con_Of tc (by first | decide | omega))
    · exact step_call HPRE rfl rfl (want_yes C 5 2 false rfl rfl rfl rfl rfl rfl rfl) rfl en_compassref_Zero (Opns.cons (opn_new C 8 0 rfl rfl rfl rfl rfl rfl) Opns.nil) (con_Zero_t  h2)
    · exact step_not true rfl rfl (want_yes C 5 1 false rfl rfl rfl rfl rfl rfl rfl) rfl (opn_new C 9 0 rfl rfl rfl rfl rfl rfl)
    · exact step_pick false rfl rfl (want_none rfl) rfl (opn_new C 5 0 rfl rfl rfl rfl rfl rfl) (opn_new C 10 1 rfl rfl rfl rfl rfl rfl)
    · exact step_assign rfl rfl (want_none rfl) rfl (opn_new C 11 0 rfl rfl rfl rfl rfl rfl)
  intro γ a2 w2 S2
  replace S2 : AS w 15 [(2, Bo false)] [(G1_0, 67, Agg [Tx s, Tx c])] a2 w2 := cast (by kernel_rfl) (S2.keep [2])
  clear S1
  refine then_normal ?_
  refine wp_ret ?_
  exact S2.ret 0 rfl rfl fun v hv => ⟨S2.bel, v, rfl, hv⟩
theorem con_isT_t1 {s c : ByteArray} {rs rc : Rat} {k : Nat} (ts : TX k s rs) (_ : TX k c rc) (_ : 2 * k + 4 ≤ 4294967280) (h1 : ¬ rs = 0) :
    Con Tryz.prog Pre 53 [Agg [Tx s, Tx c]] (Bo true) := by
  refine con_of (n := 15) Tryz.func53 rfl rfl (Nat.le_of_ble_eq_true rfl) ?_
  intro w a0 hp S0
  have HPRE : ∀ w', Below w.heap.size w w' → Pre w' := fun w' hb => hp.below hb
  refine wp_seq ?_
  refine region_abs [.alloc 67 (Agg [Tx s, Tx c]), .pure (Bo false)] ⟨S0, by decide +kernel⟩ (by kernel_rfl) (by kernel_rfl) rfl (by kernel_rfl) ?_ ?_
  · intro C
    refine ASteps.cons ?_ (ASteps.cons ?_ (ASteps.nil))
    · exact step_box rfl rfl (want_none rfl) rfl (no_fill (by kernel_rfl)) (opn_old C 0 (by kernel_rfl) rfl) (boxes_T (cok2 (nl_tx s) (nl_tx c)))
    · exact step_assign rfl rfl (want_none rfl) rfl (opn_const _)
  intro γ a1 w1 S1
  replace S1 : AS w 15 [(2, Bo false), (1, Jus (.pointer (some ⟨γ 0, 0, none⟩)))] [(γ 0, 67, Agg [Tx s, Tx c])] a1 w1 := cast (by kernel_rfl) (S1.keep [1, 2])
  generalize γ 0 = G1_0 at S1
  clear S0
  refine then_normal ?_
  refine wp_seq ?_
  refine region_abs [.pure (Jus (.pointer (some ⟨G1_0, 0, none⟩))), .pure (Tx s), .pure (Rt rs), .pure (Bo false), .pure (Bo true), .pure (Bo true), .skip, .skip, .skip, .skip, .skip, .pure (Bo true), .pure (Bo true)] ⟨S1, by decide +kernel⟩ (by kernel_rfl) (by kernel_rfl) rfl (by kernel_rfl) ?_ ?_
  · intro C
    refine ASteps.cons ?_ (ASteps.cons ?_ (ASteps.cons ?_ (ASteps.cons ?_ (ASteps.cons ?_ (ASteps.cons ?_ (ASteps.cons ?_ (ASteps.cons ?_ (ASteps.cons ?_ (ASteps.cons ?_ (ASteps.cons ?_ (ASteps.cons ?_ (ASteps.cons ?_ (ASteps.nil)))))))))))))
    · exact step_fieldAddr rfl rfl (want_none rfl) rfl (opn_old C 1 (by kernel_rfl) rfl) (field_T_0 _)
    · exact step_loadF (k := 0) rfl rfl rfl (want_none rfl) rfl (opn_new C 0 0 rfl rfl rfl rfl rfl rfl) (no_over (by kernel_rfl)) (part_agg rfl one_Q)
    · exact step_call HPRE rfl rfl (want_none rfl) rfl en_compassref_Of (Opns.cons (opn_new C 1 0 rfl rfl rfl rfl rfl rfl) Opns.nil) (con_Of ts (by first | decide | omega))
    · exact step_call HPRE rfl rfl (want_none rfl) rfl en_compassref_Zero (Opns.cons (opn_new C 2 0 rfl rfl rfl rfl rfl rfl) Opns.nil) (con_Zero_f  h1)
    · exact step_not false rfl rfl (want_none rfl) rfl (opn_new C 3 0 rfl rfl rfl rfl rfl rfl)
    · exact step_move rfl rfl (want_none rfl) rfl (opn_new C 4 0 rfl rfl rfl rfl rfl rfl)
    · exact step_skip rfl rfl (want_no C 5 0 false true rfl rfl rfl rfl rfl rfl rfl rfl)
    · exact step_skip rfl rfl (want_no C 5 1 false true rfl rfl rfl rfl rfl rfl rfl rfl)
    · exact step_skip rfl rfl (want_no C 5 1 false true rfl rfl rfl rfl rfl rfl rfl rfl)
    · exact step_skip rfl rfl (want_no C 5 2 false true rfl rfl rfl rfl rfl rfl rfl rfl)
    · exact step_skip rfl rfl (want_no C 5 1 false true rfl rfl rfl rfl rfl rfl rfl rfl)
    · exact step_pick true rfl rfl (want_none rfl) rfl (opn_new C 5 0 rfl rfl rfl rfl rfl rfl) (opn_const _)
    · exact step_assign rfl rfl (want_none rfl) rfl (opn_new C 11 0 rfl rfl rfl rfl rfl rfl)
  intro γ a2 w2 S2
  replace S2 : AS w 15 [(2, Bo true)] [(G1_0, 67, Agg [Tx s, Tx c])] a2 w2 := cast (by kernel_rfl) (S2.keep [2])
  clear S1
  refine then_normal ?_
  refine wp_ret ?_
  exact S2.ret 0 rfl rfl fun v hv => ⟨S2.bel, v, rfl, hv⟩
theorem con_isT_t2 {s c : ByteArray} {rs rc : Rat} {k : Nat} (ts : TX k s rs) (tc : TX k c rc) (_ : 2 * k + 4 ≤ 4294967280) (h1 : rs = 0) (h2 : ¬ rc = 0) :
    Con Tryz.prog Pre 53 [Agg [Tx s, Tx c]] (Bo true) := by
  refine con_of (n := 15) Tryz.func53 rfl rfl (Nat.le_of_ble_eq_true rfl) ?_
  intro w a0 hp S0
  have HPRE : ∀ w', Below w.heap.size w w' → Pre w' := fun w' hb => hp.below hb
  refine wp_seq ?_
  refine region_abs [.alloc 67 (Agg [Tx s, Tx c]), .pure (Bo false)] ⟨S0, by decide +kernel⟩ (by kernel_rfl) (by kernel_rfl) rfl (by kernel_rfl) ?_ ?_
  · intro C
    refine ASteps.cons ?_ (ASteps.cons ?_ (ASteps.nil))
    · exact step_box rfl rfl (want_none rfl) rfl (no_fill (by kernel_rfl)) (opn_old C 0 (by kernel_rfl) rfl) (boxes_T (cok2 (nl_tx s) (nl_tx c)))
    · exact step_assign rfl rfl (want_none rfl) rfl (opn_const _)
  intro γ a1 w1 S1
  replace S1 : AS w 15 [(2, Bo false), (1, Jus (.pointer (some ⟨γ 0, 0, none⟩)))] [(γ 0, 67, Agg [Tx s, Tx c])] a1 w1 := cast (by kernel_rfl) (S1.keep [1, 2])
  generalize γ 0 = G1_0 at S1
  clear S0
  refine then_normal ?_
  refine wp_seq ?_
  refine region_abs [.pure (Jus (.pointer (some ⟨G1_0, 0, none⟩))), .pure (Tx s), .pure (Rt rs), .pure (Bo true), .pure (Bo false), .pure (Bo false), .pure (Jus (.pointer (some ⟨G1_0, 1, none⟩))), .pure (Tx c), .pure (Rt rc), .pure (Bo false), .pure (Bo true), .pure (Bo true), .pure (Bo true)] ⟨S1, by decide +kernel⟩ (by kernel_rfl) (by kernel_rfl) rfl (by kernel_rfl) ?_ ?_
  · intro C
    refine ASteps.cons ?_ (ASteps.cons ?_ (ASteps.cons ?_ (ASteps.cons ?_ (ASteps.cons ?_ (ASteps.cons ?_ (ASteps.cons ?_ (ASteps.cons ?_ (ASteps.cons ?_ (ASteps.cons ?_ (ASteps.cons ?_ (ASteps.cons ?_ (ASteps.cons ?_ (ASteps.nil)))))))))))))
    · exact step_fieldAddr rfl rfl (want_none rfl) rfl (opn_old C 1 (by kernel_rfl) rfl) (field_T_0 _)
    · exact step_loadF (k := 0) rfl rfl rfl (want_none rfl) rfl (opn_new C 0 0 rfl rfl rfl rfl rfl rfl) (no_over (by kernel_rfl)) (part_agg rfl one_Q)
    · exact step_call HPRE rfl rfl (want_none rfl) rfl en_compassref_Of (Opns.cons (opn_new C 1 0 rfl rfl rfl rfl rfl rfl) Opns.nil) (con_Of ts (by first | decide | omega))
    · exact step_call HPRE rfl rfl (want_none rfl) rfl en_compassref_Zero (Opns.cons (opn_new C 2 0 rfl rfl rfl rfl rfl rfl) Opns.nil) (con_Zero_t  h1)
    · exact step_not true rfl rfl (want_none rfl) rfl (opn_new C 3 0 rfl rfl rfl rfl rfl rfl)
    · exact step_move rfl rfl (want_none rfl) rfl (opn_new C 4 0 rfl rfl rfl rfl rfl rfl)
    · exact step_fieldAddr rfl rfl (want_yes C 5 0 false rfl rfl rfl rfl rfl rfl rfl) rfl (opn_old C 1 (by kernel_rfl) rfl) (field_T_1 _)
    · exact step_loadF (k := 0) rfl rfl rfl (want_yes C 5 1 false rfl rfl rfl rfl rfl rfl rfl) rfl (opn_new C 6 0 rfl rfl rfl rfl rfl rfl) (no_over (by kernel_rfl)) (part_agg rfl one_Q)
    · exact step_call HPRE rfl rfl (want_yes C 5 1 false rfl rfl rfl rfl rfl rfl rfl) rfl en_compassref_Of (Opns.cons (opn_new C 7 0 rfl rfl rfl rfl rfl rfl) Opns.nil) (con_Of tc (by first | decide | omega))
    · exact step_call HPRE rfl rfl (want_yes C 5 2 false rfl rfl rfl rfl rfl rfl rfl) rfl en_compassref_Zero (Opns.cons (opn_new C 8 0 rfl rfl rfl rfl rfl rfl) Opns.nil) (con_Zero_f  h2)
    · exact step_not false rfl rfl (want_yes C 5 1 false rfl rfl rfl rfl rfl rfl rfl) rfl (opn_new C 9 0 rfl rfl rfl rfl rfl rfl)
    · exact step_pick false rfl rfl (want_none rfl) rfl (opn_new C 5 0 rfl rfl rfl rfl rfl rfl) (opn_new C 10 1 rfl rfl rfl rfl rfl rfl)
    · exact step_assign rfl rfl (want_none rfl) rfl (opn_new C 11 0 rfl rfl rfl rfl rfl rfl)
  intro γ a2 w2 S2
  replace S2 : AS w 15 [(2, Bo true)] [(G1_0, 67, Agg [Tx s, Tx c])] a2 w2 := cast (by kernel_rfl) (S2.keep [2])
  clear S1
  refine then_normal ?_
  refine wp_ret ?_
  exact S2.ret 0 rfl rfl fun v hv => ⟨S2.bel, v, rfl, hv⟩
theorem en_compasslaw_noT (vs : Array Value) (w : World) : (callFunc 54 vs).run Tryz.prog w = .ok (.enter 54 vs) w := enters Tryz.func54 (by kernel_rfl) (by kernel_rfl) vs w
theorem con_noT   :
    Con Tryz.prog Pre 54 [Agg [Tx ⟨#[]⟩, Tx ⟨#[]⟩]] (Bo true) := by
  refine con_of (n := 6) Tryz.func54 rfl rfl (Nat.le_of_ble_eq_true rfl) ?_
  intro w a0 hp S0
  have HPRE : ∀ w', Below w.heap.size w w' → Pre w' := fun w' hb => hp.below hb
  refine wp_seq ?_
  refine region_abs [.alloc 67 (Agg [Tx ⟨#[]⟩, Tx ⟨#[]⟩]), .pure (Bo false)] ⟨S0, by decide +kernel⟩ (by kernel_rfl) (by kernel_rfl) rfl (by kernel_rfl) ?_ ?_
  · intro C
    refine ASteps.cons ?_ (ASteps.cons ?_ (ASteps.nil))
    · exact step_box rfl rfl (want_none rfl) rfl (no_fill (by kernel_rfl)) (opn_old C 0 (by kernel_rfl) rfl) (boxes_T (cok2 (nl_tx ⟨#[]⟩) (nl_tx ⟨#[]⟩)))
    · exact step_assign rfl rfl (want_none rfl) rfl (opn_const _)
  intro γ a1 w1 S1
  replace S1 : AS w 6 [(2, Bo false), (1, Jus (.pointer (some ⟨γ 0, 0, none⟩)))] [(γ 0, 67, Agg [Tx ⟨#[]⟩, Tx ⟨#[]⟩])] a1 w1 := cast (by kernel_rfl) (S1.keep [1, 2])
  generalize γ 0 = G1_0 at S1
  clear S0
  refine then_normal ?_
  refine wp_seq ?_
  refine region_abs [.pure (Agg [Tx ⟨#[]⟩, Tx ⟨#[]⟩]), .pure (Agg [Tx ⟨#[]⟩, Tx ⟨#[]⟩]), .pure (Bo true), .pure (Bo true)] ⟨S1, by decide +kernel⟩ (by kernel_rfl) (by kernel_rfl) rfl (by kernel_rfl) ?_ ?_
  · intro C
    refine ASteps.cons ?_ (ASteps.cons ?_ (ASteps.cons ?_ (ASteps.cons ?_ (ASteps.nil))))
    · exact step_load (k := 0) rfl rfl rfl (want_none rfl) rfl (opn_old C 1 (by kernel_rfl) rfl) (no_over (by kernel_rfl)) loads_T
    · exact step_build rfl rfl (want_none rfl) rfl Opns.nil builds0_T
    · exact step_agg2 rfl rfl (want_none rfl) rfl (opn_new C 0 0 rfl rfl rfl rfl rfl rfl) (opn_new C 1 1 rfl rfl rfl rfl rfl rfl) (run_eql_T_t ⟨rfl, rfl⟩)
    · exact step_assign rfl rfl (want_none rfl) rfl (opn_new C 2 0 rfl rfl rfl rfl rfl rfl)
  intro γ a2 w2 S2
  replace S2 : AS w 6 [(2, Bo true)] [(G1_0, 67, Agg [Tx ⟨#[]⟩, Tx ⟨#[]⟩])] a2 w2 := cast (by kernel_rfl) (S2.keep [2])
  clear S1
  refine then_normal ?_
  refine wp_ret ?_
  exact S2.ret 0 rfl rfl fun v hv => ⟨S2.bel, v, rfl, hv⟩
end Go.Proofs.YtgajdmadbdbabaaGreatDoor
/- BGC -/
namespace Go.Proofs.YtgajdmadbdbabaaGreatDoor
open Go.RowKit Cx
attribute [local go_sem ↓] Go.wp_at_zero Go.wp_at_succ
theorem intAbs_calls {w : World} {g o : Nat} {px : Value} {x : Int} (h : At2 w g o) (hx : IV w px x) (sx : Small x.natAbs) :
    Calls Tryz.prog 142 #[.pointer (some ⟨g, o, none⟩), px] w fun e w' => e = .returned (.pointer (some ⟨g, o, none⟩)) ∧ Gave w g o (x.natAbs : Int) w' := by
  obtain ⟨g1, o1, a1, n1, c1, rfl, x0, x1, x2, xl⟩ := hx
  have H := hideIt2 h
  have HX := hideIt2 x2
  have SX := hideIt2 sx
  clear h x2 sx xl
  go_enter Tryz.func142, Tryz.ntmps142
  go_wp2_with fail
  refine (bigTwin_calls HX.out SX.out).mono ?_
  rintro e w1 ⟨hb1, v1, rfl, hv1⟩
  obtain ⟨ao, n, c, rfl, hn, hnb, hnz⟩ := big_len hv1
  have H1 := hideIt2 (And.intro hb1 hv1)
  clear hb1 hv1
  go_wp2_with fail
  refine (give_calls (n := n) (ao := ao) (c := c) false (H.out.below H1.out.1)).mono ?_
  rintro e w2 ⟨rfl, rfl⟩
  go_wp2
  go_ret
  refine ⟨rfl, w1, ao, n, c, H1.out.1, ?_, by rw [Int.natAbs_natCast]; exact H1.out.2⟩
  rw [natAbs_lt]
theorem intAbs_new {w : World} {g : Nat} {px : Value} {x : Int} (hk : Blk w g #[.bool false, .slice none 0 0] 116) (hx : IV w px x) (sx : Small x.natAbs) :
    Calls Tryz.prog 142 #[.pointer (some ⟨g, 0, none⟩), px] w fun e w' => e = .returned (.pointer (some ⟨g, 0, none⟩)) ∧ Save g w w' ∧ Own2 w' g (x.natAbs : Int) := by
  refine (intAbs_calls (At2.blk hk) hx sx).mono ?_
  rintro e w' ⟨rfl, hg⟩
  exact ⟨rfl, hg.save, (hg.own hk).1⟩
theorem intQuoRem_new {w : World} {gz gr : Nat} {pp pq : Value} {a b : Nat} (hz : Blk w gz #[.bool false, .slice none 0 0] 116) (hr : Blk w gr #[.bool false, .slice none 0 0] 116) (hne : gz ≠ gr) (hp : IV w pp a) (hq : IV w pq b) (sa : Small a) (sb : Small b) (hb0 : 0 < b) :
    Calls Tryz.prog 190 #[.pointer (some ⟨gz, 0, none⟩), pp, pq, .pointer (some ⟨gr, 0, none⟩)] w fun e w' => e = .returned (.tuple #[.pointer (some ⟨gz, 0, none⟩), .pointer (some ⟨gr, 0, none⟩)]) ∧ Own2 w' gz ((a / b : Nat) : Int) ∧ Own2 w' gr ((a % b : Nat) : Int) ∧ ∀ B, B ≤ gz → B ≤ gr → B ≤ w.heap.size → Below B w w' := by
  obtain ⟨g1, o1, a1, n1, c1, rfl, x0, x1, x2, xl⟩ := hp
  obtain ⟨g2, o2, a2, n2, c2, rfl, y0, y1, y2, yl⟩ := hq
  rw [natAbs_lt] at x0 y0
  rw [Int.natAbs_natCast] at x2 y2
  have HZ := hideIt2 hz
  have HR := hideIt2 hr
  have HX := hideIt2 x2
  have HY := hideIt2 y2
  have SA := hideIt2 sa
  have SB := hideIt2 sb
  have HS : Hid (∀ w', Below w.heap.size w w' → w'.cell? ⟨g1, o1, none⟩ = some (.bool false) ∧ w'.cell? ⟨g1, o1 + 1, none⟩ = some (.slice a1 n1 c1) ∧ w'.cell? ⟨g2, o2, none⟩ = some (.bool false) ∧ w'.cell? ⟨g2, o2 + 1, none⟩ = some (.slice a2 n2 c2)) := fun w' hb => ⟨(hb.cell (p := ⟨g1, o1, none⟩) xl).trans x0, (hb.cell (p := ⟨g1, o1 + 1, none⟩) xl).trans x1, (hb.cell (p := ⟨g2, o2, none⟩) yl).trans y0, (hb.cell (p := ⟨g2, o2 + 1, none⟩) yl).trans y1⟩
  clear hz hr x2 y2 sa sb xl yl
  go_enter Tryz.func190, Tryz.ntmps190
  go_wp2_with fail
  go_region_held3 (fun w' => w'.cell? ⟨g1, o1, none⟩ = some (.bool false) ∧ w'.cell? ⟨g1, o1 + 1, none⟩ = some (.slice a1 n1 c1) ∧ w'.cell? ⟨g2, o2, none⟩ = some (.bool false) ∧ w'.cell? ⟨g2, o2 + 1, none⟩ = some (.slice a2 n2 c2)) (first | (refine HS.out _ ?_; (repeat' first | with_reducible exact Below.refl _ _ | with_reducible refine Below.drew ?_); done) | go_keep) (fail)
  have HB0 : Hid (Below w.heap.size w w.drew) := Below.drew (Below.refl _ _)
  generalize w.drew = wa at *
  obtain ⟨z0, z1, z2, z3⟩ := HS.out wa HB0.out
  go_wp2_with fail
  go_region_held3 (fun w' => w'.cell? ⟨g1, o1, none⟩ = some (.bool false) ∧ w'.cell? ⟨g1, o1 + 1, none⟩ = some (.slice a1 n1 c1) ∧ w'.cell? ⟨g2, o2, none⟩ = some (.bool false) ∧ w'.cell? ⟨g2, o2 + 1, none⟩ = some (.slice a2 n2 c2)) (first | (refine HS.out _ (bel_bel HB0.out ?_); (repeat' first | with_reducible exact hbl1 | with_reducible exact Below.refl _ _ | with_reducible refine Below.drew ?_); done) | go_keep)
    (first
      | (go_at_call 219; refine (bigDiv_calls (w := wa.drew) (HX.out.below (bel_bel HB0.out (Below.drew (Below.refl _ _)))) (HY.out.below (bel_bel HB0.out (Below.drew (Below.refl _ _)))) SA.out SB.out hb0).mono ?_; rintro e w1 ⟨hb1, v1, v2, rfl, hv1, hv2⟩; obtain ⟨ao, n, c, rfl, hn, hnb, hnz⟩ := big_len hv1; obtain ⟨bo, m, d, rfl, hm, hmb, hmz⟩ := big_len hv2; have hbl1 : Below wa.heap.size wa w1 := bel_bel (Below.drew (Below.refl _ _)) hb1)
      )
  all_goals
    have HB1 := hideIt2 (bel_bel HB0.out hbl1)
    have HV := hideIt2 (And.intro hv1 hv2)
    clear hb1 hbl1 hv1 hv2
    have HZ1 := hideIt2 (HZ.out.below HB1.out HZ.out.lt)
    have HR1 := hideIt2 (HR.out.below HB1.out HR.out.lt)
    go_wp2_with fail
    refine (give_calls (n := n) (ao := ao) (c := c) false (At2.blk HZ1.out)).mono ?_
    rintro e w2 ⟨rfl, hw2⟩
    have hg1 : Gave w1 gz 0 ((a / b : Nat) : Int) w2 := ⟨w1, ao, n, c, Below.refl _ _, by rw [natAbs_lt, hw2, Bool.false_and], by rw [Int.natAbs_natCast]; exact HV.out.1⟩
    have HO1 := hideIt2 (hg1.own HZ1.out)
    have HG1 := hideIt2 hg1.save
    have HR2 := hideIt2 (HG1.out.blk HR1.out (fun e => hne e.symm))
    have HV2 := hideIt2 (HV.out.2.save ⟨_, _, HZ1.out, by simp [notLimb]⟩ HG1.out)
    clear hg1 hw2
    go_wp2_with fail
    refine (give_calls (n := m) (ao := bo) (c := d) false (At2.blk HR2.out)).mono ?_
    rintro e w3 ⟨rfl, hw3⟩
    have hg2 : Gave w2 gr 0 ((a % b : Nat) : Int) w3 := ⟨w2, bo, m, d, Below.refl _ _, by rw [natAbs_lt, hw3, Bool.false_and], by rw [Int.natAbs_natCast]; exact HV2.out⟩
    have HO2 := hideIt2 (hg2.own HR2.out)
    have HG2 := hideIt2 hg2.save
    have HO3 := hideIt2 (HO1.out.1.save (fun e => hne e) ⟨_, _, HR2.out, by simp [notLimb]⟩ HG2.out)
    clear hg2 hw3
    go_wp2
    exact bodyPost_ret (v := .tuple #[.pointer (some ⟨gz, 0, none⟩), .pointer (some ⟨gr, 0, none⟩)]) (by simp [results, Tryz.results190, go_sem]) rfl ⟨rfl, HO3.out, HO2.out.1, fun B h1 h2 h3 => ((HB1.out.mono h3).trans (HO1.out.2 B h1 (Nat.le_trans h3 HB1.out.size))).trans (HO2.out.2 B h2 (Nat.le_trans h3 (Nat.le_trans HB1.out.size HG1.out.size)))⟩
theorem gcd_step (a b : Nat) : Nat.gcd b (a % b) = Nat.gcd a b := by
  rw [Nat.gcd_comm b, ← Nat.gcd_rec, Nat.gcd_comm]
structure Cof (a b : Nat) (s t : Int) (n : Nat) : Prop where
  sum : t.natAbs * a + s.natAbs * b = n
  opp : (0 ≤ s ∧ t ≤ 0) ∨ (s ≤ 0 ∧ 0 ≤ t)
theorem Cof.next {a b n : Nat} {s t : Int} (h : Cof a b s t n) : Cof b (a % b) t (s - ((a / b : Nat) : Int) * t) n ∧ (s - ((a / b : Nat) : Int) * t).natAbs = s.natAbs + a / b * t.natAbs := by
  have e : (s - ((a / b : Nat) : Int) * t).natAbs = s.natAbs + a / b * t.natAbs := by
    rcases h.opp with ⟨h1, h2⟩ | ⟨h1, h2⟩
    · obtain ⟨u, rfl⟩ := Int.eq_ofNat_of_zero_le h1
      obtain ⟨v, hv⟩ := Int.eq_ofNat_of_zero_le (a := -t) (by omega)
      have ht : t = -(v : Int) := by omega
      subst ht
      rw [Int.natAbs_natCast, Int.natAbs_neg, Int.natAbs_natCast]
      have : (u : Int) - ((a / b : Nat) : Int) * -(v : Int) = ((u + a / b * v : Nat) : Int) := by
        rw [Int.natCast_add, Int.natCast_mul]; grind
      rw [this, Int.natAbs_natCast]
    · obtain ⟨v, rfl⟩ := Int.eq_ofNat_of_zero_le h2
      obtain ⟨u, hu⟩ := Int.eq_ofNat_of_zero_le (a := -s) (by omega)
      have hs : s = -(u : Int) := by omega
      subst hs
      rw [Int.natAbs_neg, Int.natAbs_natCast, Int.natAbs_natCast]
      have : -(u : Int) - ((a / b : Nat) : Int) * (v : Int) = -((u + a / b * v : Nat) : Int) := by
        rw [Int.natCast_add, Int.natCast_mul]; grind
      rw [this, Int.natAbs_neg, Int.natAbs_natCast]
  refine ⟨⟨?_, ?_⟩, e⟩
  · rw [e, ← h.sum]
    have hd := Nat.div_add_mod a b
    have : t.natAbs * a = t.natAbs * (b * (a / b)) + t.natAbs * (a % b) := by rw [← Nat.mul_add, hd]
    rw [this, Nat.add_mul]
    have h2 : a / b * t.natAbs * b = t.natAbs * (b * (a / b)) := by grind
    omega
  · have hq : (0 : Int) ≤ ((a / b : Nat) : Int) := Int.natCast_nonneg _
    rcases h.opp with ⟨h1, h2⟩ | ⟨h1, h2⟩
    · refine Or.inr ⟨h2, ?_⟩
      have := Int.mul_nonpos_of_nonneg_of_nonpos hq h2
      omega
    · refine Or.inl ⟨h2, ?_⟩
      have := Int.mul_nonneg hq h2
      omega
end Go.Proofs.YtgajdmadbdbabaaGreatDoor
/- BGD -/
namespace Go.Proofs.YtgajdmadbdbabaaGreatDoor
open Go.RowKit Cx
attribute [local go_sem ↓] Go.wp_at_zero Go.wp_at_succ
theorem mul_le_self {a b n : Nat} (h : a * b ≤ n) (hb : 0 < b) : a ≤ n := Nat.le_trans (Nat.le_mul_of_pos_right a hb) h
theorem apart_new {w : World} {g : Nat} {z : Int} (h : Own2 w g z) {g' : Nat} (hg : w.heap.size ≤ g') : Apart (.pointer (some ⟨g, 0, none⟩)) g' := apart_ne (Nat.ne_of_lt (Nat.lt_of_lt_of_le h.lt hg))
theorem Own2.blk {w : World} {g : Nat} {z : Int} (h : Own2 w g z) : ∃ ao n c, Blk w g #[.bool (decide (z < 0)), .slice ao n c] 116 ∧ (n = 0 ↔ z.natAbs = 0) := by
  obtain ⟨ao, n, c, h0, h1⟩ := h
  obtain ⟨_, _, _, e, _, _, hz⟩ := big_len h1
  cases e
  exact ⟨ao, n, c, h0, hz⟩
theorem intGCD_first {w : World} {g : Nat} {pb : Value} {b : Nat} (ha : Own2 w g ((0 : Nat) : Int)) (hb : IV w pb b) (sb : Small b) :
    Calls Tryz.prog 141 #[.pointer (some ⟨g, 0, none⟩), .pointer none, .pointer none, .pointer (some ⟨g, 0, none⟩), pb] w fun e w' => e = .returned (.pointer (some ⟨g, 0, none⟩)) ∧ Save g w w' ∧ Own2 w' g ((b : Nat) : Int) := by
  have HIB := hideIt2 hb
  obtain ⟨ao, n1, c1, hk, hz1⟩ := ha.blk
  obtain ⟨g2, o2, a2, n2, c2, rfl, y0, y1, y2, yl⟩ := hb
  have hn0 : n1 = 0 := hz1.2 rfl
  subst hn0
  have HK := hideIt2 hk
  have SB := hideIt2 sb
  obtain ⟨x0, x1⟩ : w.cell? ⟨g, 0, none⟩ = some (.bool (decide (((0 : Nat) : Int) < 0))) ∧ w.cell? ⟨g, 1, none⟩ = some (.slice ao 0 c1) := ⟨hk.cell 0, hk.cell 1⟩
  have HS : Hid (∀ w', Below w.heap.size w w' → w'.cell? ⟨g, 0, none⟩ = some (.bool (decide (((0 : Nat) : Int) < 0))) ∧ w'.cell? ⟨g, 1, none⟩ = some (.slice ao 0 c1) ∧ w'.cell? ⟨g2, o2, none⟩ = some (.bool (decide ((b : Int) < 0))) ∧ w'.cell? ⟨g2, o2 + 1, none⟩ = some (.slice a2 n2 c2)) := fun w' hb => ⟨(hb.cell (p := ⟨g, 0, none⟩) HK.out.lt).trans x0, (hb.cell (p := ⟨g, 1, none⟩) HK.out.lt).trans x1, (hb.cell (p := ⟨g2, o2, none⟩) yl).trans y0, (hb.cell (p := ⟨g2, o2 + 1, none⟩) yl).trans y1⟩
  clear hk y2 sb hz1 yl
  go_enter Tryz.func141, Tryz.ntmps141
  go_wp2_with fail
  go_region_held3 (fun w' => w'.cell? ⟨g, 0, none⟩ = some (.bool (decide (((0 : Nat) : Int) < 0))) ∧ w'.cell? ⟨g, 1, none⟩ = some (.slice ao 0 c1) ∧ w'.cell? ⟨g2, o2, none⟩ = some (.bool (decide ((b : Int) < 0))) ∧ w'.cell? ⟨g2, o2 + 1, none⟩ = some (.slice a2 n2 c2)) (first | (refine HS.out _ ?_; (repeat' first | with_reducible exact Below.refl _ _ | with_reducible refine Below.drew ?_); done) | go_keep) (fail)
  have HB0 : Hid (Below w.heap.size w w.drew) := Below.drew (Below.refl _ _)
  generalize w.drew = wa at *
  obtain ⟨z0, z1, z2, z3⟩ := HS.out wa HB0.out
  go_wp2_with fail
  go_region_held3 (fun w' => w'.cell? ⟨g, 0, none⟩ = some (.bool (decide (((0 : Nat) : Int) < 0))) ∧ w'.cell? ⟨g, 1, none⟩ = some (.slice ao 0 c1) ∧ w'.cell? ⟨g2, o2, none⟩ = some (.bool (decide ((b : Int) < 0))) ∧ w'.cell? ⟨g2, o2 + 1, none⟩ = some (.slice a2 n2 c2)) (first | (refine HS.out _ (bel_bel HB0.out ?_); (repeat' first | with_reducible exact Below.refl _ _ | with_reducible refine Below.drew ?_); done) | go_keep) (fail)
  have HB1 : Hid (Below w.heap.size w wa.drew) := bel_bel HB0.out (Below.drew (Below.refl _ _))
  generalize wa.drew = wb at *
  go_wp2_with fail
  refine (intAbs_calls (g := g) (o := 0) (w := wb) (At2.blk (HK.out.below HB1.out HK.out.lt)) (HIB.out.below HB1.out) (by rw [Int.natAbs_natCast]; exact SB.out)).mono ?_
  rintro e w2 ⟨rfl, hg⟩
  have HG := hideIt2 (And.intro hg.save (hg.own (HK.out.below HB1.out HK.out.lt)).1)
  clear hg
  go_wp2
  go_ret
  exact ⟨rfl, (Save.of HB1.out).trans HG.out.1, by have := HG.out.2; rwa [Int.natAbs_natCast] at this⟩
theorem intGCD_second {w : World} {g : Nat} {pb : Value} {a : Nat} (ha : Own2 w g (a : Int)) (h0 : 0 < a) (hb : IV w pb ((0 : Nat) : Int)) (sa : Small a) :
    Calls Tryz.prog 141 #[.pointer (some ⟨g, 0, none⟩), .pointer none, .pointer none, .pointer (some ⟨g, 0, none⟩), pb] w fun e w' => e = .returned (.pointer (some ⟨g, 0, none⟩)) ∧ Save g w w' ∧ Own2 w' g (a : Int) := by
  have HIA := hideIt2 ha.iv
  obtain ⟨ao, n1, c1, hk, hz1⟩ := ha.blk
  obtain ⟨g2, o2, a2, n2, c2, rfl, y0, y1, y2, yl⟩ := hb
  obtain ⟨_, _, _, e2, _, _, hz2⟩ := big_len y2
  cases e2
  have hn0 : n2 = 0 := hz2.2 rfl
  subst hn0
  have hna : ¬ n1 = 0 := fun e => by have := hz1.1 e; rw [Int.natAbs_natCast] at this; omega
  have hnb : ((n1 : Int) == 0) = false := beq_eq_false_iff_ne.mpr (by omega)
  have HK := hideIt2 hk
  have SA := hideIt2 sa
  obtain ⟨x0, x1⟩ : w.cell? ⟨g, 0, none⟩ = some (.bool (decide ((a : Int) < 0))) ∧ w.cell? ⟨g, 1, none⟩ = some (.slice ao n1 c1) := ⟨hk.cell 0, hk.cell 1⟩
  have HS : Hid (∀ w', Below w.heap.size w w' → w'.cell? ⟨g, 0, none⟩ = some (.bool (decide ((a : Int) < 0))) ∧ w'.cell? ⟨g, 1, none⟩ = some (.slice ao n1 c1) ∧ w'.cell? ⟨g2, o2, none⟩ = some (.bool (decide (((0 : Nat) : Int) < 0))) ∧ w'.cell? ⟨g2, o2 + 1, none⟩ = some (.slice a2 0 c2)) := fun w' hb => ⟨(hb.cell (p := ⟨g, 0, none⟩) HK.out.lt).trans x0, (hb.cell (p := ⟨g, 1, none⟩) HK.out.lt).trans x1, (hb.cell (p := ⟨g2, o2, none⟩) yl).trans y0, (hb.cell (p := ⟨g2, o2 + 1, none⟩) yl).trans y1⟩
  clear hk y2 sa hz1 hz2 yl
  go_enter Tryz.func141, Tryz.ntmps141
  go_wp2_with fail
  go_region_held3 (fun w' => w'.cell? ⟨g, 0, none⟩ = some (.bool (decide ((a : Int) < 0))) ∧ w'.cell? ⟨g, 1, none⟩ = some (.slice ao n1 c1) ∧ w'.cell? ⟨g2, o2, none⟩ = some (.bool (decide (((0 : Nat) : Int) < 0))) ∧ w'.cell? ⟨g2, o2 + 1, none⟩ = some (.slice a2 0 c2)) (first | (refine HS.out _ ?_; (repeat' first | with_reducible exact Below.refl _ _ | with_reducible refine Below.drew ?_); done) | go_keep) (fail)
  have HB0 : Hid (Below w.heap.size w w.drew) := Below.drew (Below.refl _ _)
  generalize w.drew = wa at *
  obtain ⟨z0, z1, z2, z3⟩ := HS.out wa HB0.out
  go_wp2_with fail
  go_region_held3 (fun w' => w'.cell? ⟨g, 0, none⟩ = some (.bool (decide ((a : Int) < 0))) ∧ w'.cell? ⟨g, 1, none⟩ = some (.slice ao n1 c1) ∧ w'.cell? ⟨g2, o2, none⟩ = some (.bool (decide (((0 : Nat) : Int) < 0))) ∧ w'.cell? ⟨g2, o2 + 1, none⟩ = some (.slice a2 0 c2)) (first | (refine HS.out _ (bel_bel HB0.out ?_); (repeat' first | with_reducible exact Below.refl _ _ | with_reducible refine Below.drew ?_); done) | go_keep) (fail)
  have HB1 : Hid (Below w.heap.size w wa.drew) := bel_bel HB0.out (Below.drew (Below.refl _ _))
  generalize wa.drew = wb at *
  go_wp2_with fail
  refine (intAbs_calls (g := g) (o := 0) (w := wb) (At2.blk (HK.out.below HB1.out HK.out.lt)) (HIA.out.below HB1.out) (by rw [Int.natAbs_natCast]; exact SA.out)).mono ?_
  rintro e w2 ⟨rfl, hg⟩
  have HG := hideIt2 (And.intro hg.save (hg.own (HK.out.below HB1.out HK.out.lt)).1)
  clear hg
  go_wp2
  go_ret
  exact ⟨rfl, (Save.of HB1.out).trans HG.out.1, by have := HG.out.2; rwa [Int.natAbs_natCast] at this⟩
end Go.Proofs.YtgajdmadbdbabaaGreatDoor
/- BGE -/
namespace Go.Proofs.YtgajdmadbdbabaaGreatDoor
open Go.RowKit Cx
attribute [local go_sem ↓] Go.wp_at_zero Go.wp_at_succ
theorem intGCD_both {w : World} {g : Nat} {pb : Value} {a b : Nat} (ha : Own2 w g (a : Int)) (hb : IV w pb (b : Int)) (ha0 : 0 < a) (hb0 : 0 < b) (sa : Small a) (sb : Small b) :
    Calls Tryz.prog 141 #[.pointer (some ⟨g, 0, none⟩), .pointer none, .pointer none, .pointer (some ⟨g, 0, none⟩), pb] w fun e w' => e = .returned (.pointer (some ⟨g, 0, none⟩)) ∧ Save g w w' ∧ Own2 w' g ((Nat.gcd a b : Nat) : Int) := by
  have HIA := hideIt2 ha.iv
  have HIB := hideIt2 hb
  obtain ⟨ao, n1, c1, hk, hz1⟩ := ha.blk
  obtain ⟨g2, o2, a2, n2, c2, rfl, y0, y1, y2, yl⟩ := hb
  obtain ⟨_, _, _, e2, _, _, hz2⟩ := big_len y2
  cases e2
  have hna : ¬ n1 = 0 := fun e => by have := hz1.1 e; rw [Int.natAbs_natCast] at this; omega
  have hnb : ¬ n2 = 0 := fun e => by have := hz2.1 e; rw [Int.natAbs_natCast] at this; omega
  have hna' : ((n1 : Int) == 0) = false := beq_eq_false_iff_ne.mpr (by omega)
  have hnb' : ((n2 : Int) == 0) = false := beq_eq_false_iff_ne.mpr (by omega)
  have HK := hideIt2 hk
  have SA := hideIt2 sa
  have SB := hideIt2 sb
  obtain ⟨x0, x1⟩ : w.cell? ⟨g, 0, none⟩ = some (.bool (decide ((a : Int) < 0))) ∧ w.cell? ⟨g, 1, none⟩ = some (.slice ao n1 c1) := ⟨hk.cell 0, hk.cell 1⟩
  clear hk y2 sa sb hz1 hz2 yl hna hnb
  go_enter Tryz.func141, Tryz.ntmps141
  go_wp2_with fail
  refine (intAbs_new (Blk.new w _ _) (HIA.out.below (below_new _ _)) (by rw [Int.natAbs_natCast]; exact SA.out)).mono ?_
  rintro e w1 ⟨rfl, hs1, ho1⟩
  rw [Int.natAbs_natCast] at ho1
  have HB1 := hideIt2 (bel_sav (below_new w _) hs1 (Nat.le_refl _))
  have HO1 := hideIt2 ho1
  clear hs1 ho1
  go_wp2_with fail
  refine (intAbs_new (Blk.new w1 _ _) (HIB.out.below (bel_bel HB1.out (below_new _ _))) (by rw [Int.natAbs_natCast]; exact SB.out)).mono ?_
  rintro e w2 ⟨rfl, hs2, ho2⟩
  rw [Int.natAbs_natCast] at ho2
  have hb2 := bel_sav (below_new w1 _) hs2 (Nat.le_refl _)
  have HB2 := hideIt2 (bel_bel HB1.out hb2)
  have HO12 := hideIt2 (HO1.out.below hb2)
  have HO2 := hideIt2 ho2
  clear hs2 ho2 hb2
  go_wp2_with fail
  refine (newInt_calls 1 (by decide) w2).mono ?_
  rintro e w3 ⟨hb3, g3, rfl, hg3, ho3⟩
  have HB3 := hideIt2 (bel_bel HB2.out hb3)
  have HO13 := hideIt2 (HO12.out.below hb3)
  have HO23 := hideIt2 (HO2.out.below hb3)
  have HO3 := hideIt2 ho3
  have HG3 := hideIt2 hg3
  clear hb3 ho3 hg3
  go_wp2_with fail
  refine (newInt_calls 0 (by decide) w3).mono ?_
  rintro e w4 ⟨hb4, g4, rfl, hg4, ho4⟩
  have HB4 := hideIt2 (bel_bel HB3.out hb4)
  have HO14 := hideIt2 (HO13.out.below hb4)
  have HO24 := hideIt2 (HO23.out.below hb4)
  have HO34 := hideIt2 (HO3.out.below hb4)
  have HO4 := hideIt2 ho4
  have HG12 : Hid (w.heap.size ≤ w1.heap.size) := HB1.out.size
  clear hb4 ho4 hg4
  go_wp2
  go_loopg [15, 16, 17, 18] b (fun k p q s t wr => ∃ (A B : Nat) (S T : Int) (gp gq gs gt : Nat), p = .pointer (some ⟨gp, 0, none⟩) ∧ q = .pointer (some ⟨gq, 0, none⟩) ∧ s = .pointer (some ⟨gs, 0, none⟩) ∧ t = .pointer (some ⟨gt, 0, none⟩) ∧ Own2 wr gp (A : Int) ∧ Own2 wr gq (B : Int) ∧ Own2 wr gs S ∧ Own2 wr gt T ∧ 0 < A ∧ B ≤ k ∧ Nat.gcd A B = Nat.gcd a b ∧ Small A ∧ Small B ∧ Cof A B S T b ∧ Below w.heap.size w wr ∧ w.heap.size ≤ gp ∧ w.heap.size ≤ gq)
  case atStart => exact ⟨a, b, 1, 0, _, _, _, _, rfl, rfl, rfl, rfl, HO14.out, HO24.out, HO34.out, HO4.out, ha0, Nat.le_refl _, rfl, SA.out, SB.out, ⟨by simp, Or.inl ⟨by decide, by decide⟩⟩, HB4.out, Nat.le_refl _, HG12.out⟩
  case round =>
    obtain ⟨A, B, S, T, gp, gq, gs, gt, rfl, rfl, rfl, rfl, hp, hq, hs, ht, hA0, hBk, hgcd, sA, sB, hcof, hbl, hgp, hgq⟩ := hrel
    have HP := hideIt2 hp
    have HQ := hideIt2 hq
    have HSS := hideIt2 hs
    have HTT := hideIt2 ht
    have HGC := hideIt2 hgcd
    have HSA := hideIt2 sA
    have HSB := hideIt2 sB
    have HC := hideIt2 hcof
    have HBL := hideIt2 hbl
    obtain ⟨bo, m, c, hkq, hzq⟩ := hq.blk
    obtain ⟨q0, q1⟩ : wr.cell? ⟨gq, 0, none⟩ = some (.bool (decide ((B : Int) < 0))) ∧ wr.cell? ⟨gq, 1, none⟩ = some (.slice bo m c) := ⟨hkq.cell 0, hkq.cell 1⟩
    rw [Int.natAbs_natCast] at hzq
    have HZQ := hideIt2 hzq
    clear hp hq hs ht hgcd sA sB hcof hbl hkq hzq
    by_cases hm : m = 0
    · have hB : B = 0 := HZQ.out.1 hm
      subst hm
      go_wp2_with fail
      refine (intSet_calls (g := g) (o := 0) (w := wr) (At2.blk (HK.out.below HBL.out HK.out.lt)) HP.out.iv (apart_ne (by have := HK.out.lt; omega)) (by rw [Int.natAbs_natCast]; exact HSA.out)).mono ?_
      rintro e w5 ⟨rfl, hg⟩
      have HG := hideIt2 (And.intro hg.save (hg.own (HK.out.below HBL.out HK.out.lt)).1)
      clear hg
      go_wp2
      go_ret
      refine ⟨rfl, (Save.of HBL.out).trans HG.out.1, ?_⟩
      rw [← HGC.out, hB, Nat.gcd_zero_right]
      exact HG.out.2
    · have hB0 : 0 < B := Nat.pos_of_ne_zero fun e => hm (HZQ.out.2 e)
      have hmp : (0 : Int) < (m : Int) := by omega
      have HM := hideIt2 hm
      clear hm
      go_wp2_with fail
      have HD1 := hideIt2 (below_new wr (.cells #[.bool false, .slice none 0 0] 116))
      have HD2 := hideIt2 (bel_bel HD1.out (below_new (wr.alloc (.cells #[.bool false, .slice none 0 0] 116)) (.cells #[.bool false, .slice none 0 0] 116)))
      have hK1 : Blk ((wr.alloc (.cells #[.bool false, .slice none 0 0] 116)).alloc (.cells #[.bool false, .slice none 0 0] 116)) wr.heap.size #[.bool false, .slice none 0 0] 116 := (Blk.new wr _ _).below (below_new _ _) (by simp)
      have hK2 : Blk ((wr.alloc (.cells #[.bool false, .slice none 0 0] 116)).alloc (.cells #[.bool false, .slice none 0 0] 116)) (wr.heap.size + 1) #[.bool false, .slice none 0 0] 116 := by
        have := Blk.new (wr.alloc (.cells #[.bool false, .slice none 0 0] 116)) #[.bool false, .slice none 0 0] 116
        simpa using this
      refine (intQuoRem_new hK1 hK2 (by omega) (HP.out.iv.below HD2.out) (HQ.out.iv.below HD2.out) HSA.out HSB.out hB0).mono ?_
      rintro e w5 ⟨rfl, hq5, hr5, hbel5⟩
      have hb5 : Below wr.heap.size wr w5 := HD2.out.trans (hbel5 _ (Nat.le_refl _) (Nat.le_succ _) HD2.out.size)
      have HB5 := hideIt2 hb5
      have HQ5 := hideIt2 hq5
      have HR5 := hideIt2 hr5
      have HOQ5 := hideIt2 (HQ.out.below hb5)
      have HOS5 := hideIt2 (HSS.out.below hb5)
      have HOT5 := hideIt2 (HTT.out.below hb5)
      have HBL5 := hideIt2 (bel_bel HBL.out hb5)
      have HSZ := hideIt2 HBL.out.size
      obtain ⟨hcof', hnat⟩ := HC.out.next
      have hT : T.natAbs ≤ b := mul_le_self (b := A) (by have := HC.out.sum; omega) hA0
      have hS : S.natAbs ≤ b := mul_le_self (b := B) (by have := HC.out.sum; omega) hB0
      have hT' : (S - ((A / B : Nat) : Int) * T).natAbs ≤ b := by
        have := hcof'.sum
        have h1 : (S - ((A / B : Nat) : Int) * T).natAbs * B ≤ (S - ((A / B : Nat) : Int) * T).natAbs * B + T.natAbs * (A % B) := Nat.le_add_right _ _
        refine mul_le_self (b := B) ?_ hB0
        omega
      have hDT : (((A / B : Nat) : Int) * T).natAbs ≤ b := by
        rw [Int.natAbs_mul, Int.natAbs_natCast]
        omega
      have hD : A / B ≤ A := Nat.div_le_self _ _
      have HN := hideIt2 (And.intro (small_le SB.out hT) (And.intro (small_le SB.out hS) (And.intro (small_le SB.out hDT) (And.intro (small_le HSA.out hD) hcof'))))
      clear hq5 hr5 hbel5 hb5 hK1 hK2 HD1 HD2 hcof' hnat hT hS hT' hDT hD
      go_wp2_with fail
      have HM1 := hideIt2 (below_new w5 (.cells #[.bool false, .slice none 0 0] 116))
      have HM2 := hideIt2 (bel_bel HM1.out (below_new (w5.alloc (.cells #[.bool false, .slice none 0 0] 116)) (.cells #[.bool false, .slice none 0 0] 116)))
      have hM1 : Blk ((w5.alloc (.cells #[.bool false, .slice none 0 0] 116)).alloc (.cells #[.bool false, .slice none 0 0] 116)) w5.heap.size #[.bool false, .slice none 0 0] 116 := (Blk.new w5 _ _).below (below_new _ _) (by simp)
      have hM2 : Blk ((w5.alloc (.cells #[.bool false, .slice none 0 0] 116)).alloc (.cells #[.bool false, .slice none 0 0] 116)) (w5.heap.size + 1) #[.bool false, .slice none 0 0] 116 := by
        have := Blk.new (w5.alloc (.cells #[.bool false, .slice none 0 0] 116)) #[.bool false, .slice none 0 0] 116
        simpa using this
      refine (intMul_new hM2 (HQ5.out.iv.below HM2.out) (HOT5.out.iv.below HM2.out) (apart_new HQ5.out (by omega)) (apart_new HOT5.out (by omega)) (by rw [Int.natAbs_natCast]; exact HN.out.2.2.2.1) HN.out.1).mono ?_
      rintro e w6 ⟨rfl, hs6, ho6, hh6⟩
      have hb6 : Below w5.heap.size w5 w6 := HM2.out.trans (hs6.below (by omega) HM2.out.size)
      have hM16 := hs6.blk hM1 (by omega)
      have HB6 := hideIt2 hb6
      have HO6 := hideIt2 ho6
      have HM16 := hideIt2 hM16
      have HOS6 := hideIt2 (HOS5.out.below hb6)
      clear hs6 ho6 hh6 hb6 hM1 hM2 hM16 HM1 HM2
      go_wp2_with fail
      refine (intSub_new HM16.out HOS6.out.iv HO6.out.iv (apart_new HOS5.out (Nat.le_refl _)) (apart_ne (by omega)) HN.out.2.1 HN.out.2.2.1).mono ?_
      rintro e w7 ⟨rfl, hs7, ho7, hh7⟩
      have hb7 : Below w5.heap.size w5 w7 := HB6.out.trans (hs7.below (Nat.le_refl _) HB6.out.size)
      have HB7 := hideIt2 (bel_bel HBL5.out hb7)
      have HO7 := hideIt2 ho7
      have HOT7 := hideIt2 (HOT5.out.below hb7)
      have HOQ7 := hideIt2 (HOQ5.out.below hb7)
      have HR7 := hideIt2 (HR5.out.below hb7)
      clear hs7 ho7 hh7 hb7
      go_wp2
      go_roundg (A % B)
      case measure => have := Nat.mod_lt A hB0; omega
      case rel => exact ⟨B, A % B, T, _, _, _, _, _, rfl, rfl, rfl, rfl, HOQ7.out, HR7.out, HOT7.out, HO7.out, hB0, Nat.le_refl _, (gcd_step A B).trans HGC.out, HSB.out, small_le HSB.out (Nat.le_of_lt (Nat.mod_lt A hB0)), HN.out.2.2.2.2, HB7.out, hgq, by have := HSZ.out; omega⟩
end Go.Proofs.YtgajdmadbdbabaaGreatDoor
/- BPL -/
namespace Go.Proofs.YtgajdmadbdbabaaGreatDoor
open Go.RowKit Cx
attribute [local go_sem ↓] Go.wp_at_zero Go.wp_at_succ
theorem own_one {w : World} {g : Nat} (h : Own2 w g ((1 : Nat) : Int)) : ∃ b1 o1 ca, Blk w g #[.bool false, .slice (some ⟨b1, o1, none⟩) 1 ca] 116 ∧ Sl w 81 (some ⟨b1, o1, none⟩) ca [1] b1 o1 := by
  obtain ⟨ao, n, c, hk, hn⟩ := h
  rw [Int.natAbs_natCast] at hn
  obtain ⟨l, hv, ht, hl⟩ := hn
  have hl1 : l = [1] := by
    match l, hl, ht with
    | [], hl, _ => simp [val] at hl
    | [x], hl, _ =>
      have : val [x] = x := by simp [val]
      rw [this] at hl
      rw [hl]
    | x :: y :: l, hl, ht =>
      exfalso
      have h1 := trim_pos ht (by simp)
      have h2 : pw ((x :: y :: l).length - 1) = 4294967296 * pw l.length := by
        show pw (l.length + 1) = _
        exact pw_succ _
      have h3 := pw_pos l.length
      rw [hl, h2] at h1
      omega
  subst hl1
  have hv' := hv
  rcases hv with ⟨_, ⟨e, _⟩ | ⟨b, off, cap, e, _, _, _, hseg⟩⟩
  · cases e
  · cases e
    obtain ⟨ao', ca', b', o', e', hs⟩ := hv'.sl32
    cases e'
    have hidx := hs.idx 0 (by simp) w
    rw [show (Instr.indexAt 81 (.slice (some ⟨b, off, none⟩) [1].length c) (.int .i64 ((0 : Nat) : Int))).run Tryz.prog w = .ok (.pointer (some ⟨b, off, none⟩)) w from by
      have he : Tryz.prog.elem 81 = 168 := by simp [Program.elem, Tryz.underlying81]
      rw [run_indexAt_slice (h := by rw [he]; exact Tryz.underlying81), if_pos (by simp), he, Tryz.sizeOf168]
      simp [Result.andThen, Addr.add]] at hidx
    simp at hidx
    obtain ⟨rfl, rfl⟩ := hidx
    exact ⟨_, _, _, by simpa using hk, hs⟩
theorem isInt64_one {w : World} {g : Nat} (h : Own2 w g ((1 : Nat) : Int)) :
    Calls Tryz.prog 143 #[.pointer (some ⟨g, 0, none⟩)] w fun e w' => w' = w ∧ e = .returned (.bool true) := by
  obtain ⟨b1, o1, ca, hk, hs⟩ := own_one h
  obtain ⟨x0, x1⟩ : w.cell? ⟨g, 0, none⟩ = some (.bool false) ∧ w.cell? ⟨g, 1, none⟩ = some (.slice (some ⟨b1, o1, none⟩) 1 ca) := ⟨hk.cell 0, hk.cell 1⟩
  have HS := hideIt2 hs
  clear hk hs h
  go_enter Tryz.func143, Tryz.ntmps143
  go_wp2_with fail
  refine (bigLength_walk (la := [1]) HS.out (by simp) 0 rfl (by simp [nth])).mono ?_
  rintro e w1 ⟨hw1, n, rfl, hn1, hn2, _, _⟩
  subst hw1
  have hlt : ((0 * 32 + n : Nat) : Int) < 64 := by omega
  go_wp2
  go_ret
  exact ⟨rfl, rfl⟩
theorem uint64_one {w : World} {g : Nat} (h : Own2 w g ((1 : Nat) : Int)) :
    Calls Tryz.prog 194 #[.pointer (some ⟨g, 0, none⟩)] w fun e w' => w' = w ∧ e = .returned (.int .u64 1) := by
  obtain ⟨b1, o1, ca, hk, ha⟩ := own_one h
  obtain ⟨x0, x1⟩ : w.cell? ⟨g, 0, none⟩ = some (.bool false) ∧ w.cell? ⟨g, 1, none⟩ = some (.slice (some ⟨b1, o1, none⟩) 1 ca) := ⟨hk.cell 0, hk.cell 1⟩
  have hia : ∀ wx, (Instr.indexAt 81 (.slice (some ⟨b1, o1, none⟩) 1 ca) (.int .i64 0)).run Tryz.prog wx = .ok (.pointer (some ⟨b1, o1, none⟩)) wx := ha.idx 0 (by simp)
  have hca : w.cell? ⟨b1, o1, none⟩ = some (.int .u32 ((1 : Nat) : Int)) := ha.seg 0 (by simp)
  clear hk ha h
  go_enter Tryz.func194, Tryz.ntmps194
  go_wp2
  go_ret
  exact ⟨rfl, by first | rfl | simp⟩
theorem int64_one {w : World} {g : Nat} (h : Own2 w g ((1 : Nat) : Int)) :
    Calls Tryz.prog 144 #[.pointer (some ⟨g, 0, none⟩)] w fun e w' => w' = w ∧ e = .returned (.int .i64 1) := by
  have HO := hideIt2 h
  obtain ⟨b1, o1, ca, hk, _⟩ := own_one h
  obtain ⟨x0, x1⟩ : w.cell? ⟨g, 0, none⟩ = some (.bool false) ∧ w.cell? ⟨g, 1, none⟩ = some (.slice (some ⟨b1, o1, none⟩) 1 ca) := ⟨hk.cell 0, hk.cell 1⟩
  clear hk h
  go_enter Tryz.func144, Tryz.ntmps144
  go_wp2_with fail
  refine (uint64_one HO.out).mono ?_
  rintro e w1 ⟨hw1, rfl⟩
  subst hw1
  go_wp2
  go_ret
  exact ⟨rfl, by first | rfl | simp⟩
end Go.Proofs.YtgajdmadbdbabaaGreatDoor
/- BPM -/
namespace Go.Proofs.YtgajdmadbdbabaaGreatDoor
open Go.RowKit Cx
attribute [local go_sem ↓] Go.wp_at_zero Go.wp_at_succ
theorem intGCD_calls {w : World} {g : Nat} {pb : Value} {a b : Nat} (ha : Own2 w g (a : Int)) (hb : IV w pb (b : Int)) (sa : Small a) (sb : Small b) :
    Calls Tryz.prog 141 #[.pointer (some ⟨g, 0, none⟩), .pointer none, .pointer none, .pointer (some ⟨g, 0, none⟩), pb] w fun e w' => e = .returned (.pointer (some ⟨g, 0, none⟩)) ∧ Save g w w' ∧ Own2 w' g ((Nat.gcd a b : Nat) : Int) := by
  rcases Nat.eq_zero_or_pos a with h | h
  · subst h
    rw [Nat.gcd_zero_left]
    exact intGCD_first ha hb sb
  · rcases Nat.eq_zero_or_pos b with h' | h'
    · subst h'
      rw [Nat.gcd_zero_right]
      exact intGCD_second ha h hb sa
    · exact intGCD_both ha hb h h' sa sb
def gcds (ss : List ByteArray) : Nat := ss.foldl (fun g s => Nat.gcd g (rd s.data.toList).num.natAbs) 0
theorem gcds_take {ss : List ByteArray} {k : Nat} (h : k < ss.length) : gcds (ss.take (k + 1)) = Nat.gcd (gcds (ss.take k)) (rd (ss[k]).data.toList).num.natAbs := by
  unfold gcds
  rw [List.take_succ_eq_append_getElem h, List.foldl_append]
  rfl
theorem gcd_lt {a b K : Nat} (ha : a < 2 ^ K) (hb : b < 2 ^ K) : Nat.gcd a b < 2 ^ K := by
  rcases Nat.eq_zero_or_pos a with h | h
  · rw [h, Nat.gcd_zero_left]; exact hb
  · exact Nat.lt_of_le_of_lt (Nat.gcd_le_left b h) ha
theorem gcds_lt {ss : List ByteArray} {K : Nat} (h : ∀ s ∈ ss, QS K (rd s.data.toList)) : ∀ (l : List ByteArray) (g : Nat), g < 2 ^ K → (∀ s ∈ l, s ∈ ss) → l.foldl (fun g s => Nat.gcd g (rd s.data.toList).num.natAbs) g < 2 ^ K
  | [], _, hg, _ => hg
  | s :: l, _, hg, hl => gcds_lt h l _ (gcd_lt hg (h s (hl s List.mem_cons_self)).num) (fun t ht => hl t (List.mem_cons_of_mem _ ht))
theorem gcds_zero {ss : List ByteArray} (h : ∀ (i : Nat) (hi : i < ss.length), rd (ss[i]).data.toList = 0) : gcds ss = 0 := by
  have key : ∀ (l : List ByteArray), (∀ s ∈ l, rd s.data.toList = 0) → l.foldl (fun g s => Nat.gcd g (rd s.data.toList).num.natAbs) 0 = 0 := by
    intro l
    induction l with
    | nil => intro _; rfl
    | cons s l ih =>
      intro hl
      have e := hl s List.mem_cons_self
      show l.foldl _ (Nat.gcd 0 (rd s.data.toList).num.natAbs) = 0
      rw [e]
      exact ih fun t ht => hl t (List.mem_cons_of_mem _ ht)
  exact key ss fun s hs => by
    obtain ⟨i, hi, e⟩ := List.getElem_of_mem hs
    rw [← e]
    exact h i hi
end Go.Proofs.YtgajdmadbdbabaaGreatDoor
/- BPN -/
namespace Go.Proofs.YtgajdmadbdbabaaGreatDoor
open Go.RowKit Cx
attribute [local go_sem ↓] Go.wp_at_zero Go.wp_at_succ
theorem refPlainA_walk {w : World} {b off cap b2 o2 c2 : Nat} {ss : List ByteArray} (i0 : Nat) (hi0 : i0 < ss.length) (hA : w.cell? ⟨b2, o2, none⟩ = some (.int .i64 (i0 : Int))) (hA2 : b2 < w.heap.size) (ha : rd (ss[i0]).data.toList ≠ 0 → 0 < (rd (ss[i0]).data.toList).num) (h : SRow w (.slice (some ⟨b, off, none⟩) ss.length cap) ss) (hm : MaxL w) (hl : ∀ s ∈ ss, s.size ≤ 4294967280) (hn : ss.length ≤ 1000000)
    (hr : ∀ s ∈ ss, right s) {K : Nat} (hq : ∀ s ∈ ss, QS K (rd s.data.toList)) (hK : K ≤ 35184372088640) (hd : ∀ s ∈ ss, (rd s.data.toList).den = 1) (hg : gcds ss = 1)
    (hs : rd (ss[i0]).data.toList = 0 → ∀ (j : Nat) (hj : j < ss.length), (∀ (i : Nat) (hi : i < ss.length), i < j → rd (ss[i]).data.toList = 0) → rd (ss[j]).data.toList ≠ 0 → 0 < (rd (ss[j]).data.toList).num) :
    Calls Tryz.prog 91 #[.slice (some ⟨b, off, none⟩) ss.length cap, .slice (some ⟨b2, o2, none⟩) 1 c2] w fun e w' => Below w.heap.size w w' ∧ e = .returned (.bool true) := by
  have HR := hideIt2 h
  have HM := hideIt2 hm
  have HL := hideIt2 hl
  have HRR := hideIt2 hr
  have HQ := hideIt2 hq
  have HK := hideIt2 hK
  have HD := hideIt2 hd
  have HG := hideIt2 hg
  have HS := hideIt2 hs
  have HA := hideIt2 (And.intro hA (And.intro hA2 ha))
  have hidA : ∀ wx, (Instr.indexAt 160 (.slice (some ⟨b2, o2, none⟩) 1 c2) (.int .i64 0)).run Tryz.prog wx = .ok (.pointer (some ⟨b2, o2, none⟩)) wx := fun wx => by
    have he : Tryz.prog.elem 160 = 3 := by simp [Program.elem, Tryz.underlying160]
    rw [run_indexAt_slice (h := by rw [he]; exact Tryz.underlying160), if_pos (by simp), he, Tryz.sizeOf3]
    simp [Result.andThen, Addr.add]
  clear h hm hl hr hq hK hd hg hs hA hA2 ha
  go_enter Tryz.func91, Tryz.ntmps91
  go_wp2_with fail
  refine (refRight_calls HR.out HM.out HL.out hn).mono ?_
  rintro e w1 ⟨hb1, r, rfl, hri⟩
  have hrt : r = true := hri.2 HRR.out
  subst hrt
  have HB1 := hideIt2 hb1
  clear hb1 hri
  go_wp2
  go_loopw [21] (fun i wr => ∃ k : Nat, k ≤ ss.length ∧ i = .int .i64 (k : Int) ∧ Below w.heap.size w wr ∧ Own2 wr w1.heap.size ((gcds (ss.take k) : Nat) : Int)) (fun i _ => ss.length - (intOf i).toNat)
  case atStart =>
    refine ⟨0, Nat.zero_le _, rfl, bel_bel HB1.out (below_new _ _), ?_⟩
    rw [List.take_zero]
    exact ⟨none, 0, 0, Blk.new _ _ _, NatN.nil _ _ _⟩
  case round =>
    obtain ⟨k, hkl, rfl, hbel, ho⟩ := hrel
    have HBL := hideIt2 hbel
    have HO := hideIt2 ho
    clear hbel ho
    by_cases hend : k = ss.length
    · have hO1 : Own2 wr w1.heap.size ((1 : Nat) : Int) := by
        have := HO.out
        rw [hend, List.take_length, HG.out] at this
        exact this
      have HO1 := hideIt2 hO1
      clear hO1
      subst hend
      go_wp2_with fail
      refine (isInt64_one HO1.out).mono ?_
      rintro e w2 ⟨hw2, rfl⟩
      subst hw2
      go_wp2_with fail
      refine (int64_one HO1.out).mono ?_
      rintro e w2 ⟨hw2, rfl⟩
      subst hw2
      go_wp2
      go_loopw [48] (fun i wx => ∃ k : Nat, k ≤ 1 ∧ i = .int .i64 (k : Int) ∧ Below w.heap.size w wx ∧ (k = 1 → rd (ss[i0]).data.toList = 0)) (fun i _ => 1 - (intOf i).toNat)
      case atStart => exact ⟨0, by omega, rfl, HBL.out, fun h => absurd h (by omega)⟩
      case round =>
        obtain ⟨ka, hka, rfl, hbela, hka0⟩ := hrel
        have HBA := hideIt2 hbela
        have HKA := hideIt2 hka0
        clear hbela hka0
        by_cases hka1 : ka = 1
        · subst hka1
          have HSS := hideIt2 (HS.out (HKA.out rfl))
          go_wp2
          go_loopw [65] (fun i wr => ∃ k : Nat, k ≤ ss.length ∧ i = .int .i64 (k : Int) ∧ Below w.heap.size w wr ∧ ∀ (i : Nat) (hi : i < ss.length), i < k → rd (ss[i]).data.toList = 0) (fun i _ => ss.length - (intOf i).toNat)
          case atStart => exact ⟨0, Nat.zero_le _, rfl, HBA.out, fun i hi h => absurd h (Nat.not_lt_zero _)⟩
          case round =>
            obtain ⟨k, hkl, rfl, hbel3, hzero⟩ := hrel
            have HB3 := hideIt2 hbel3
            have HZ := hideIt2 hzero
            clear hbel3 hzero
            by_cases hend : k = ss.length
            · exfalso
              have h0 := gcds_zero (ss := ss) fun i hi => HZ.out i hi (by omega)
              rw [HG.out] at h0
              omega
            · have hlt : k < ss.length := by omega
              have hidx := srow_idx (b := b) (off := off) (cap := cap) hlt
              obtain ⟨b', off', cap', e, hbl, hcells⟩ := HR.out
              cases e
              have hp := hcells k hlt
              obtain ⟨s, hs⟩ : ∃ s, ss[k] = s := ⟨_, rfl⟩
              have hmem : s ∈ ss := hs ▸ List.getElem_mem hlt
              have hsz := HL.out s hmem
              rw [hs] at hp
              have z0 := (HB3.out.cell (p := ⟨b, off + k, none⟩) hbl).trans hp
              have HMEM := hideIt2 (And.intro hs hmem)
              clear hp hcells hs hmem
              go_wp2_with fail
              refine (refOfS_calls s _ (HM.out.below HB3.out) hsz).mono ?_
              rintro e w4 ⟨hb4, v4, rfl, hv4⟩
              have H4 := hideIt2 (And.intro (bel_bel HB3.out hb4) hv4)
              clear hb4 hv4
              go_wp2_with fail
              refine (ratSign_calls H4.out.2).mono ?_
              rintro e w5 ⟨hb5, rfl⟩
              have H5 := hideIt2 (bel_bel H4.out.1 hb5)
              clear hb5
              by_cases hz : rd s.data.toList = 0
              · have hsg : sgn (rd s.data.toList).num = 0 := by rw [hz]; rfl
                rw [hsg]
                have HZZ := hideIt2 hz
                clear hz hsg
                go_wp2
                go_roundw
                case rel =>
                  refine ⟨k + 1, hlt, by go_num, H5.out, fun i hi hik => ?_⟩
                  by_cases hik' : i = k
                  · subst hik'
                    rw [HMEM.out.1]
                    exact HZZ.out
                  · exact HZ.out i hi (by omega)
                case measure => simp [intOf]; omega
              · have hpos : 0 < (rd s.data.toList).num := by
                  have := HSS.out k hlt HZ.out
                  rw [HMEM.out.1] at this
                  exact this hz
                have hsg : sgn (rd s.data.toList).num = 1 := by unfold sgn; rw [if_neg (by omega), if_neg (by omega)]
                rw [hsg]
                clear hz hpos hsg
                go_wp2
                go_ret
                exact ⟨H5.out, by first | rfl | simp⟩
        · have hk0 : ka = 0 := by omega
          subst hk0
          have hidx := srow_idx (b := b) (off := off) (cap := cap) hi0
          obtain ⟨b', off', cap', e, hbl, hcells⟩ := HR.out
          cases e
          have hp := hcells i0 hi0
          obtain ⟨s, hs⟩ : ∃ s, ss[i0] = s := ⟨_, rfl⟩
          have hmem : s ∈ ss := hs ▸ List.getElem_mem hi0
          have hsz := HL.out s hmem
          rw [hs] at hp
          have z0 := (HBA.out.cell (p := ⟨b, off + i0, none⟩) hbl).trans hp
          have z1 := (HBA.out.cell (p := ⟨b2, o2, none⟩) HA.out.2.1).trans HA.out.1
          have HMEM := hideIt2 (And.intro hs hmem)
          clear hp hcells hs hmem
          go_wp2_with fail
          refine (refOfS_calls s _ (HM.out.below HBA.out) hsz).mono ?_
          rintro e w4 ⟨hb4, v4, rfl, hv4⟩
          have H4 := hideIt2 (And.intro (bel_bel HBA.out hb4) hv4)
          clear hb4 hv4
          go_wp2_with fail
          refine (ratSign_calls H4.out.2).mono ?_
          rintro e w5 ⟨hb5, rfl⟩
          have H5 := hideIt2 (bel_bel H4.out.1 hb5)
          clear hb5
          by_cases hz : rd s.data.toList = 0
          · have hsg : sgn (rd s.data.toList).num = 0 := by rw [hz]; rfl
            rw [hsg]
            have HZZ := hideIt2 hz
            clear hz hsg
            go_wp2
            go_roundw
            case rel => exact ⟨1, by omega, by go_num, H5.out, fun _ => by rw [HMEM.out.1]; exact HZZ.out⟩
            case measure => simp [intOf]
          · have hpos : 0 < (rd s.data.toList).num := by
              have := HA.out.2.2
              rw [HMEM.out.1] at this
              exact this hz
            have hsg : sgn (rd s.data.toList).num = 1 := by unfold sgn; rw [if_neg (by omega), if_neg (by omega)]
            rw [hsg]
            clear hz hpos hsg
            go_wp2
            go_ret
            exact ⟨H5.out, by first | rfl | simp⟩
    · have hlt : k < ss.length := by omega
      have hidx := srow_idx (b := b) (off := off) (cap := cap) hlt
      obtain ⟨b', off', cap', e, hbl, hcells⟩ := HR.out
      cases e
      have hp := hcells k hlt
      obtain ⟨s, hs⟩ : ∃ s, ss[k] = s := ⟨_, rfl⟩
      have hmem : s ∈ ss := hs ▸ List.getElem_mem hlt
      have hsz := HL.out s hmem
      rw [hs] at hp
      have z0 := (HBL.out.cell (p := ⟨b, off + k, none⟩) hbl).trans hp
      have HMEM := hideIt2 (And.intro hs hmem)
      clear hp hcells hs hmem
      go_wp2_with fail
      refine (refOfS_calls s wr (HM.out.below HBL.out) hsz).mono ?_
      rintro e w4 ⟨hb4, _, rfl, g4, rfl, hv4⟩
      have HB4 := hideIt2 (bel_bel HBL.out hb4)
      have HV4 := hideIt2 hv4
      have HO4 := hideIt2 (HO.out.below hb4)
      clear hb4 hv4
      go_wp2_with fail
      refine (isInt_calls HV4.out (HQ.out s HMEM.out.2) HK.out).mono ?_
      rintro e w5 ⟨hb5, rfl⟩
      rw [decide_eq_true (HD.out s HMEM.out.2)]
      have HB5 := hideIt2 (bel_bel HB4.out hb5)
      have HV5 := hideIt2 (HV4.out.below hb5)
      have HO5 := hideIt2 (HO4.out.below hb5)
      clear hb5
      go_wp2_with fail
      refine (ratNum_calls g4 _).mono ?_
      rintro e w6 ⟨hw6, rfl⟩
      subst hw6
      go_wp2_with fail
      refine (intAbs_new (Blk.new w5 _ _) (HV5.out.num.below (below_new _ _)) (small_num (HQ.out s HMEM.out.2) HK.out)).mono ?_
      rintro e w7 ⟨rfl, hs7, ho7⟩
      have hb7 := bel_sav (below_new w5 _) hs7 (Nat.le_refl _)
      have HB7 := hideIt2 (bel_bel HB5.out hb7)
      have HA7 := hideIt2 ho7
      have HO7 := hideIt2 (HO5.out.below hb7)
      clear hs7 ho7 hb7
      go_wp2_with fail
      have hgl : gcds (ss.take k) < 2 ^ K := gcds_lt HQ.out _ 0 (Nat.two_pow_pos _) (fun t ht => List.mem_of_mem_take ht)
      refine (intGCD_calls HO7.out HA7.out.iv (small_two hgl HK.out) (small_num (HQ.out s HMEM.out.2) HK.out)).mono ?_
      rintro e w8 ⟨rfl, hs8, ho8⟩
      have HB8 := hideIt2 (bel_sav HB7.out hs8 HB1.out.size)
      have HO8 := hideIt2 ho8
      clear hs8 ho8 hgl
      go_wp2
      go_roundw
      case rel =>
        refine ⟨k + 1, hlt, by go_num, HB8.out, ?_⟩
        rw [gcds_take hlt, HMEM.out.1]
        exact HO8.out
      case measure => simp [intOf]; omega
end Go.Proofs.YtgajdmadbdbabaaGreatDoor
