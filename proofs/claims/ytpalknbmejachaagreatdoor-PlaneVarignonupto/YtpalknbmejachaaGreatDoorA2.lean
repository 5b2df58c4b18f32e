/- Part 2 of the walks of the packages num, way, ruler, line and plane, and of the mathematics under them: BA BB BC BD BE BF BG BH. -/
import Derived.Test.YtpalknbmejachaaGreatDoorA1
import Derived.Deep.AppendSrc
import Derived.Deep.DeepBigQuietO
/- Walks of package compassbig: trim, words, plain. -/
namespace Go.Proofs.YtpalknbmejachaaGreatDoor
open Go.RowKit Cx

theorem NatV.sl32 {w : World} {v : Value} {l : List Nat} (h : NatV w v l) : ∃ ao cap b off, v = .slice ao l.length cap ∧ Sl w 67 ao cap l b off :=
  h.sl Tryz.underlying67 Tryz.sizeOf160

set_option maxHeartbeats 800000 in
theorem bigTrim_some (b off cap : Nat) (l : List Nat) (w : World) (hcap : l.length ≤ cap) (hm : cap ≤ maxLen) (hs : Seg w b off l) :
    Calls Tryz.prog 150 #[.slice (some ⟨b, off, none⟩) l.length cap] w fun e w' => e = .returned (.slice (some ⟨b, off, none⟩) (sig l) cap) ∧ w' = w := by
  unfold maxLen at hm
  go_enter Tryz.func150, Tryz.ntmps150
  go_wp2
  go_loop [3] (fun v => ∃ n : Nat, n ≤ l.length ∧ (∀ k, n ≤ k → nth l k = 0) ∧ v = .int .i64 (n : Int)) (fun v => (intOf v).toNat)
  case atStart => exact ⟨l.length, Nat.le_refl _, fun k hk => nth_beyond hk, rfl⟩
  case round =>
    obtain ⟨n, hn, hz, rfl⟩ := hrel
    have HZ : Hid (∀ k, n ≤ k → nth l k = 0) := hz
    clear hz
    by_cases h0 : n = 0
    · subst h0
      go_wp2
      go_ret
      exact ⟨by rw [sig_unique (Nat.zero_le _) HZ.out (Or.inl rfl)]; rfl, rfl⟩
    · obtain ⟨m, rfl⟩ : ∃ m, n = m + 1 := ⟨n - 1, by omega⟩
      have hc := hs m (by omega)
      by_cases hx : nth l m = 0
      · rw [hx] at hc
        go_wp2
        go_round
        case rel => exact ⟨m, by omega, fun k hk => by by_cases e : k = m; (· rw [e]; exact hx); (· exact HZ.out k (by omega)), by go_num⟩
        case measure => simp [intOf]
      · have hb : ((nth l m : Int) == 0) = false := by simp; omega
        go_wp2
        go_ret
        exact ⟨by rw [sig_unique hn HZ.out (Or.inr hx)]; rfl, rfl⟩

theorem bigTrim_none (ao : Option Addr) (cap : Nat) (w : World) :
    Calls Tryz.prog 150 #[.slice ao 0 cap] w fun e w' => e = .returned (.slice ao 0 cap) ∧ w' = w := by
  go_enter Tryz.func150, Tryz.ntmps150
  go_wp2
  go_loop [3] (fun v => v = .int .i64 0) (fun _ => 0)
  case atStart => rfl
  case round =>
    subst hrel
    go_wp2
    go_ret
    exact ⟨rfl, rfl⟩

/-- trim: the noughts at the end are cut off; memory is as it was. -/
theorem bigTrim_calls {w : World} {v : Value} {l : List Nat} (h : NatV w v l) :
    Calls Tryz.prog 150 #[v] w fun e w' => w' = w ∧ ∃ v', e = .returned v' ∧ NatV w v' (strip l) := by
  obtain ⟨hl, h | ⟨b, off, cap, rfl, hc, hm, hlt, hs⟩⟩ := h
  · obtain ⟨rfl, ao, cap, rfl⟩ := h
    refine (bigTrim_none ao cap w).mono ?_
    rintro e w' ⟨rfl, rfl⟩
    exact ⟨rfl, _, rfl, NatV.nil _ _ _⟩
  · refine (bigTrim_some b off cap l w hc hm hs).mono ?_
    rintro e w' ⟨rfl, rfl⟩
    refine ⟨rfl, _, rfl, hl.strip, Or.inr ⟨b, off, cap, by rw [strip_length], ?_, hm, hlt, hs.pre _⟩⟩
    rw [strip_length]; have := sig_le l; omega

/-- trim of a whole row of one's own. -/
theorem bigTrim_row {w : World} {g n : Nat} {l : List Nat} (h : Row w g l) (hl : Lim l) (hn : l.length = n) (hm : n ≤ 9223372036854775807) :
    Calls Tryz.prog 150 #[.slice (some ⟨g, 0, none⟩) n n] w fun e w' => w' = w ∧ ∃ v', e = .returned v' ∧ NatN w v' (val l) := by
  subst hn
  have hv := NatV.ofRow h hl (Nat.le_refl _) (Nat.le_refl _) (by unfold maxLen; omega)
  rw [List.take_length] at hv
  refine (bigTrim_calls hv).mono ?_
  rintro e w' ⟨rfl, v', rfl, hv'⟩
  exact ⟨rfl, v', rfl, strip l, hv', strip_trim l, val_strip l⟩
end Go.Proofs.YtpalknbmejachaaGreatDoor
/- Walks of package compassbig: words, add, cmp. -/
namespace Go.Proofs.YtpalknbmejachaaGreatDoor
open Go.RowKit Cx

/-- bigWords: a machine number in limbs. -/
theorem bigWords_calls (x : Nat) (w : World) (hx : x < 18446744073709551616) :
    Calls Tryz.prog 108 #[.int .u64 x] w fun e w' => Below w.heap.size w w' ∧ ∃ v, e = .returned v ∧ NatN w' v x := by
  have hr : Row (w.alloc (.cells #[.int .u32 ((x : Int) % 4294967296), .int .u32 ((x : Int) / 4294967296)] 160)) w.heap.size [x % 4294967296, x / 4294967296] := Row.new w [x % 4294967296, x / 4294967296]
  have hv : val [x % 4294967296, x / 4294967296] = x := by simp [val]; omega
  have HV : Hid (val [x % 4294967296, x / 4294967296] = x) := hv
  clear hv
  go_enter Tryz.func108, Tryz.ntmps108
  go_wp2_with fail
  refine (bigTrim_row hr (n := 2) (Lim.cons (by omega) (Lim.cons (by omega) Lim.nil)) rfl (by omega)).mono ?_
  rintro e w' ⟨rfl, v', rfl, hv'⟩
  go_wp2
  go_ret
  exact ⟨below_new _ _, _, rfl, by rw [HV.out] at hv'; exact hv'⟩
set_option maxHeartbeats 1000000 in
theorem bigAdd_walk {w : World} {ao bo : Option Addr} {ca cb b1 o1 b2 o2 : Nat} {la lb : List Nat} (ha : Sl w 67 ao ca la b1 o1) (hb : Sl w 67 bo cb lb b2 o2) (hla : la.length ≤ 1099511627776) (hlb : lb.length ≤ la.length) :
    Calls Tryz.prog 106 #[.slice ao la.length ca, .slice bo lb.length cb] w fun e w' => Below w.heap.size w w' ∧ ∃ v, e = .returned v ∧ NatN w' v (val la + val lb) := by
  have hmk := make_row (t := 67) (by kernel_rfl) (la.length + 1) (by omega)
  have ec : ((la.length + 1 : Nat) : Int) = (la.length : Int) + 1 := by omega
  rw [ec] at hmk
  clear ec
  have HA : Hid (Sl w 67 ao ca la b1 o1) := ha
  have HB : Hid (Sl w 67 bo cb lb b2 o2) := hb
  clear ha hb
  go_enter Tryz.func106, Tryz.ntmps106
  go_wp2
  go_loopw [6, 7] (fun c i wr => ∃ (k cy : Nat) (cur : List Nat), k ≤ la.length ∧ i = .int .i64 k ∧ c = .int .u64 cy ∧ cy ≤ 1 ∧ Row wr w.heap.size cur ∧ cur.length = la.length + 1 ∧ Lim cur ∧ val (cur.take k) + cy * pw k = val (la.take k) + val (lb.take k) ∧ Below w.heap.size w wr) (fun _ i _ => la.length - (intOf i).toNat)
  case atStart => exact ⟨0, 0, List.replicate (la.length + 1) 0, Nat.zero_le _, rfl, rfl, Nat.zero_le _, Row.new _ _, by simp, lim_zeros _, by simp [val], below_new _ _⟩
  case round =>
    obtain ⟨k, cy, cur, hk, rfl, rfl, hcy, hrow, hcl, hcm, hval, hbel⟩ := hrel
    have HV : Hid (val (cur.take k) + cy * pw k = val (la.take k) + val (lb.take k)) := hval
    have HL : Hid (cur.length = la.length + 1) := hcl
    clear hval hcl
    have hfz := hrow.frozen k
    by_cases hlt : k < la.length
    · have hia := HA.out.idx k hlt
      have hca := (hbel.cell (p := ⟨b1, o1 + k, none⟩) (HA.out.lt (by omega))).trans (HA.out.seg k hlt)
      have hxa := nth_lt HA.out.lim k
      have hcc := hrow.cell (j := k) (by rw [HL.out]; omega)
      by_cases hlt2 : k < lb.length
      · have hib := HB.out.idx k hlt2
        have hcb := (hbel.cell (p := ⟨b2, o2 + k, none⟩) (HB.out.lt (by omega))).trans (HB.out.seg k hlt2)
        have hxb := nth_lt HB.out.lim k
        go_wp2
        go_roundw
        case rel =>
          refine ⟨k + 1, (cy + nth la k + nth lb k) / 4294967296, cur.set k ((cy + nth la k + nth lb k) % 4294967296), by omega, by go_num, by go_num, by omega, hrow.set' _ _ (by omega), by rw [List.length_set, HL.out], hcm.set (by omega), ?_, hbel.setCell (Nat.le_refl _) _⟩
          rw [val_set_take (by rw [HL.out]; omega), val_take_succ, val_take_succ, pw_succ]
          exact add_round _ _ _ _ _ _ _ HV.out
        case measure => simp [intOf]; omega
      · go_wp2
        go_roundw
        case rel =>
          refine ⟨k + 1, (cy + nth la k) / 4294967296, cur.set k ((cy + nth la k) % 4294967296), by omega, by go_num, by go_num, by omega, hrow.set' _ _ (by omega), by rw [List.length_set, HL.out], hcm.set (by omega), ?_, hbel.setCell (Nat.le_refl _) _⟩
          rw [val_set_take (by rw [HL.out]; omega), val_take_succ, val_take_succ, pw_succ, nth_beyond (l := lb) (by omega)]
          exact add_round _ _ _ _ _ 0 _ HV.out
        case measure => simp [intOf]; omega
    · obtain rfl : k = la.length := by omega
      have hcc := hrow.cell (j := la.length) (by rw [HL.out]; omega)
      go_wp2_with fail
      refine (bigTrim_row (hrow.set' la.length cy (by omega)) (hcm.set (by omega)) (by rw [List.length_set, HL.out]) (by omega)).mono ?_
      rintro e w' ⟨rfl, v', rfl, hv'⟩
      go_wp2
      go_ret
      refine ⟨hbel.setCell (Nat.le_refl _) _, v', rfl, ?_⟩
      have hvv : val (cur.set la.length cy) = val la + val lb := by
        have h1 := HV.out
        rw [List.take_length, List.take_of_length_le hlb] at h1
        have h2 := val_set_take (l := cur) (k := la.length) (y := cy) (by rw [HL.out]; omega)
        rw [List.take_of_length_le (by rw [List.length_set, HL.out]; omega)] at h2
        rw [h2, Nat.mul_comm (pw _)]; exact h1
      rw [hvv] at hv'
      exact hv'
set_option maxHeartbeats 1000000 in
theorem bigAdd_swap {w : World} {ao bo : Option Addr} {ca cb b1 o1 b2 o2 : Nat} {la lb : List Nat} (ha : Sl w 67 ao ca la b1 o1) (hb : Sl w 67 bo cb lb b2 o2) (hla : la.length ≤ 1099511627776) (hlt0 : lb.length < la.length) :
    Calls Tryz.prog 106 #[.slice bo lb.length cb, .slice ao la.length ca] w fun e w' => Below w.heap.size w w' ∧ ∃ v, e = .returned v ∧ NatN w' v (val la + val lb) := by
  have hmk := make_row (t := 67) (by kernel_rfl) (la.length + 1) (by omega)
  have ec : ((la.length + 1 : Nat) : Int) = (la.length : Int) + 1 := by omega
  rw [ec] at hmk
  clear ec
  have HA : Hid (Sl w 67 ao ca la b1 o1) := ha
  have HB : Hid (Sl w 67 bo cb lb b2 o2) := hb
  clear ha hb
  go_enter Tryz.func106, Tryz.ntmps106
  go_wp2
  go_loopw [6, 7] (fun c i wr => ∃ (k cy : Nat) (cur : List Nat), k ≤ la.length ∧ i = .int .i64 k ∧ c = .int .u64 cy ∧ cy ≤ 1 ∧ Row wr w.heap.size cur ∧ cur.length = la.length + 1 ∧ Lim cur ∧ val (cur.take k) + cy * pw k = val (la.take k) + val (lb.take k) ∧ Below w.heap.size w wr) (fun _ i _ => la.length - (intOf i).toNat)
  case atStart => exact ⟨0, 0, List.replicate (la.length + 1) 0, Nat.zero_le _, rfl, rfl, Nat.zero_le _, Row.new _ _, by simp, lim_zeros _, by simp [val], below_new _ _⟩
  case round =>
    obtain ⟨k, cy, cur, hk, rfl, rfl, hcy, hrow, hcl, hcm, hval, hbel⟩ := hrel
    have HV : Hid (val (cur.take k) + cy * pw k = val (la.take k) + val (lb.take k)) := hval
    have HL : Hid (cur.length = la.length + 1) := hcl
    clear hval hcl
    have hfz := hrow.frozen k
    by_cases hlt : k < la.length
    · have hia := HA.out.idx k hlt
      have hca := (hbel.cell (p := ⟨b1, o1 + k, none⟩) (HA.out.lt (by omega))).trans (HA.out.seg k hlt)
      have hxa := nth_lt HA.out.lim k
      have hcc := hrow.cell (j := k) (by rw [HL.out]; omega)
      by_cases hlt2 : k < lb.length
      · have hib := HB.out.idx k hlt2
        have hcb := (hbel.cell (p := ⟨b2, o2 + k, none⟩) (HB.out.lt (by omega))).trans (HB.out.seg k hlt2)
        have hxb := nth_lt HB.out.lim k
        go_wp2
        go_roundw
        case rel =>
          refine ⟨k + 1, (cy + nth la k + nth lb k) / 4294967296, cur.set k ((cy + nth la k + nth lb k) % 4294967296), by omega, by go_num, by go_num, by omega, hrow.set' _ _ (by omega), by rw [List.length_set, HL.out], hcm.set (by omega), ?_, hbel.setCell (Nat.le_refl _) _⟩
          rw [val_set_take (by rw [HL.out]; omega), val_take_succ, val_take_succ, pw_succ]
          exact add_round _ _ _ _ _ _ _ HV.out
        case measure => simp [intOf]; omega
      · go_wp2
        go_roundw
        case rel =>
          refine ⟨k + 1, (cy + nth la k) / 4294967296, cur.set k ((cy + nth la k) % 4294967296), by omega, by go_num, by go_num, by omega, hrow.set' _ _ (by omega), by rw [List.length_set, HL.out], hcm.set (by omega), ?_, hbel.setCell (Nat.le_refl _) _⟩
          rw [val_set_take (by rw [HL.out]; omega), val_take_succ, val_take_succ, pw_succ, nth_beyond (l := lb) (by omega)]
          exact add_round _ _ _ _ _ 0 _ HV.out
        case measure => simp [intOf]; omega
    · obtain rfl : k = la.length := by omega
      have hcc := hrow.cell (j := la.length) (by rw [HL.out]; omega)
      go_wp2_with fail
      refine (bigTrim_row (hrow.set' la.length cy (by omega)) (hcm.set (by omega)) (by rw [List.length_set, HL.out]) (by omega)).mono ?_
      rintro e w' ⟨rfl, v', rfl, hv'⟩
      go_wp2
      go_ret
      refine ⟨hbel.setCell (Nat.le_refl _) _, v', rfl, ?_⟩
      have hvv : val (cur.set la.length cy) = val la + val lb := by
        have h1 := HV.out
        rw [List.take_length, List.take_of_length_le (l := lb) (by omega)] at h1
        have h2 := val_set_take (l := cur) (k := la.length) (y := cy) (by rw [HL.out]; omega)
        rw [List.take_of_length_le (by rw [List.length_set, HL.out]; omega)] at h2
        rw [h2, Nat.mul_comm (pw _)]; exact h1
      rw [hvv] at hv'
      exact hv'

/-- add: the sum, in new memory. -/
theorem bigAdd_calls {w : World} {va vb : Value} {a b : Nat} (ha : NatN w va a) (hb : NatN w vb b) (hla : Small a) (hlb : Small b) :
    Calls Tryz.prog 106 #[va, vb] w fun e w' => Below w.heap.size w w' ∧ ∃ v, e = .returned v ∧ NatN w' v (a + b) := by
  obtain ⟨la, ha, ta, rfl⟩ := ha
  obtain ⟨lb, hb, tb, rfl⟩ := hb
  obtain ⟨ao, ca, b1, o1, rfl, sa⟩ := ha.sl32
  obtain ⟨bo, cb, b2, o2, rfl, sb⟩ := hb.sl32
  have h1 := hla.len ta
  have h2 := hlb.len tb
  by_cases h : la.length < lb.length
  · have := bigAdd_swap sb sa h2 h
    rwa [Nat.add_comm (val lb)] at this
  · exact bigAdd_walk sa sb h1 (by omega)
set_option maxHeartbeats 1000000 in
theorem bigCmp_walk {w : World} {ao bo : Option Addr} {ca cb b1 o1 b2 o2 : Nat} {la lb : List Nat} (ha : Sl w 67 ao ca la b1 o1) (hb : Sl w 67 bo cb lb b2 o2) (hla : la.length ≤ 1099511627776) (hll : la.length = lb.length) :
    Calls Tryz.prog 127 #[.slice ao la.length ca, .slice bo lb.length cb] w fun e w' => Below w.heap.size w w' ∧ ∃ c : Int, e = .returned (.int .i64 c) ∧ (c < 0 ↔ val la < val lb) ∧ (c = 0 ↔ val la = val lb) ∧ -1 ≤ c ∧ c ≤ 1 := by
  have hbb : ((la.length : Int) != (lb.length : Int)) = false := by simp [hll]
  have HLL : Hid (la.length = lb.length) := hll
  clear hll
  have HA : Hid (Sl w 67 ao ca la b1 o1) := ha
  have HB : Hid (Sl w 67 bo cb lb b2 o2) := hb
  clear ha hb
  go_enter Tryz.func127, Tryz.ntmps127
  go_wp2
  go_loopw [5] (fun i wr => ∃ k : Nat, k ≤ la.length ∧ i = .int .i64 ((k : Int) - 1) ∧ (∀ j, k ≤ j → nth la j = nth lb j) ∧ Below w.heap.size w wr) (fun i _ => (intOf i + 1).toNat)
  case atStart => exact ⟨la.length, Nat.le_refl _, rfl, fun j hj => by rw [nth_beyond hj, nth_beyond (by rw [← HLL.out]; exact hj)], Below.refl _ _⟩
  case round =>
    obtain ⟨k, hk, rfl, he, hbel⟩ := hrel
    have HE : Hid (∀ j, k ≤ j → nth la j = nth lb j) := he
    clear he
    by_cases h0 : k = 0
    · subst h0
      go_wp2
      go_ret
      refine ⟨hbel, 0, rfl, ?_⟩
      have := val_eq_of_nth (l := la) (m := lb) (fun j => HE.out j (Nat.zero_le _))
      omega
    · obtain ⟨m, rfl⟩ : ∃ m, k = m + 1 := ⟨k - 1, by omega⟩
      rw [show (((m + 1 : Nat) : Int) - 1) = (m : Int) from by omega]
      have hia := HA.out.idx m (by omega)
      have hib := HB.out.idx m (by rw [← HLL.out]; omega)
      have hca := (hbel.cell (p := ⟨b1, o1 + m, none⟩) (HA.out.lt (by omega))).trans (HA.out.seg m (by omega))
      have hcb := (hbel.cell (p := ⟨b2, o2 + m, none⟩) (HB.out.lt (by rw [← HLL.out]; omega))).trans (HB.out.seg m (by rw [← HLL.out]; omega))
      rcases Nat.lt_trichotomy (nth la m) (nth lb m) with h | h | h
      · have e0 : ((nth la m : Int) != (nth lb m : Int)) = true := by simp; omega
        have e1 : (nth la m : Int) < nth lb m := by omega
        have HH : Hid (nth la m < nth lb m) := h
        clear h
        go_wp2
        go_quiet (fail)
        go_wp2
        go_quiet (fail)
        go_wp2
        go_ret
        have hv := val_lt_of_limb HA.out.lim HH.out (fun j hj => HE.out j (by omega)) HLL.out
        exact ⟨belowDrewN (belowDrewN hbel _) _, -1, rfl, by omega, by omega, by decide, by decide⟩
      · have e0 : ((nth la m : Int) != (nth lb m : Int)) = false := by simp; omega
        have HH : Hid (nth la m = nth lb m) := h
        clear h
        go_wp2
        go_quiet (fail)
        go_wp2
        go_roundw
        case rel =>
          refine ⟨m, by omega, by go_num, fun j hj => ?_, belowDrewN hbel _⟩
          by_cases e : j = m
          · rw [e]; exact HH.out
          · exact HE.out j (by omega)
        case measure => simp [intOf]
      · have e0 : ((nth la m : Int) != (nth lb m : Int)) = true := by simp; omega
        have e1 : ¬ (nth la m : Int) < nth lb m := by omega
        have HH : Hid (nth lb m < nth la m) := h
        clear h
        go_wp2
        go_quiet (fail)
        go_wp2
        go_quiet (fail)
        go_wp2
        go_ret
        have hv := val_lt_of_limb HB.out.lim HH.out (fun j hj => (HE.out j (by omega)).symm) HLL.out.symm
        exact ⟨belowDrewN (belowDrewN hbel _) _, 1, rfl, by omega, by omega, by decide, by decide⟩

theorem bigCmp_lens (ao bo : Option Addr) (n m ca cb : Nat) (w : World) (h : n ≠ m) :
    Calls Tryz.prog 127 #[.slice ao n ca, .slice bo m cb] w fun e w' => e = .returned (.int .i64 (if n < m then -1 else 1)) ∧ w' = w := by
  have hb : ((n : Int) != (m : Int)) = true := by simp; omega
  by_cases hlt : n < m
  · rw [if_pos hlt]
    go_enter Tryz.func127, Tryz.ntmps127
    go_wp2
    go_ret
    exact ⟨rfl, rfl⟩
  · rw [if_neg hlt]
    go_enter Tryz.func127, Tryz.ntmps127
    go_wp2
    go_ret
    exact ⟨rfl, rfl⟩

/-- cmp: the sign tells which number is the greater. -/
theorem bigCmp_three {w : World} {va vb : Value} {a b : Nat} (ha : NatN w va a) (hb : NatN w vb b) (hla : Small a) (hlb : Small b) :
    Calls Tryz.prog 127 #[va, vb] w fun e w' => Below w.heap.size w w' ∧ ∃ c : Int, e = .returned (.int .i64 c) ∧ (c < 0 ↔ a < b) ∧ (c = 0 ↔ a = b) ∧ -1 ≤ c ∧ c ≤ 1 := by
  obtain ⟨la, ha, ta, rfl⟩ := ha
  obtain ⟨lb, hb, tb, rfl⟩ := hb
  obtain ⟨ao, ca, b1, o1, rfl, sa⟩ := ha.sl32
  obtain ⟨bo, cb, b2, o2, rfl, sb⟩ := hb.sl32
  have h1 := hla.len ta
  have h2 := hlb.len tb
  by_cases h : la.length = lb.length
  · exact bigCmp_walk sa sb h1 h
  · refine (bigCmp_lens ao bo _ _ ca cb w h).mono ?_
    rintro e w' ⟨rfl, rfl⟩
    refine ⟨Below.refl _ _, _, rfl, ?_⟩
    rcases Nat.lt_or_ge la.length lb.length with hlt | hge
    · have := val_lt_of_len sa.lim tb hlt
      rw [if_pos hlt]
      omega
    · have := val_lt_of_len sb.lim ta (by omega)
      rw [if_neg (by omega)]
      omega

/-- cmp, by its sign alone. -/
theorem bigCmp_calls {w : World} {va vb : Value} {a b : Nat} (ha : NatN w va a) (hb : NatN w vb b) (hla : Small a) (hlb : Small b) :
    Calls Tryz.prog 127 #[va, vb] w fun e w' => Below w.heap.size w w' ∧ ∃ c : Int, e = .returned (.int .i64 c) ∧ (c < 0 ↔ a < b) ∧ (c = 0 ↔ a = b) := by
  refine (bigCmp_three ha hb hla hlb).mono ?_
  rintro e w' ⟨hbl, c, rfl, h1, h2, _⟩
  exact ⟨hbl, c, rfl, h1, h2⟩
end Go.Proofs.YtpalknbmejachaaGreatDoor
/- Walks of package compassbig: sub, mul. -/
namespace Go.Proofs.YtpalknbmejachaaGreatDoor
open Go.RowKit Cx

theorem sub_wrap1 (p br : Nat) (hp : p < 4294967296) (hb : br ≤ 1) :
    ∃ br' out : Nat, IntKind.u64.wrap ((p : Int) - br) / 9223372036854775808 = (br' : Int) ∧ IntKind.u64.wrap ((p : Int) - br) % 4294967296 = (out : Int) ∧ br' ≤ 1 ∧ out < 4294967296 ∧ out + br = p + 4294967296 * br' := by
  simp only [IntKind.wrap_u64]
  by_cases h : br ≤ p
  · exact ⟨0, p - br, by omega, by omega, by omega, by omega, by omega⟩
  · exact ⟨1, p + 4294967296 - br, by omega, by omega, by omega, by omega, by omega⟩

theorem sub_wrap2 (p q br : Nat) (hp : p < 4294967296) (hq : q < 4294967296) (hb : br ≤ 1) :
    ∃ br' out : Nat, IntKind.u64.wrap (IntKind.u64.wrap ((p : Int) - br) - q) / 9223372036854775808 = (br' : Int) ∧ IntKind.u64.wrap (IntKind.u64.wrap ((p : Int) - br) - q) % 4294967296 = (out : Int) ∧ br' ≤ 1 ∧ out < 4294967296 ∧ out + q + br = p + 4294967296 * br' := by
  simp only [IntKind.wrap_u64]
  by_cases h : q + br ≤ p
  · exact ⟨0, p - q - br, by omega, by omega, by omega, by omega, by omega⟩
  · exact ⟨1, p + 4294967296 - q - br, by omega, by omega, by omega, by omega, by omega⟩

/-- One round of a subtraction. -/
theorem sub_round (A B P c x y V o c' : Nat) (h : V + B = A + c * P) (e : o + y + c = x + 4294967296 * c') : V + P * o + (B + P * y) = A + P * x + c' * (4294967296 * P) := by
  have h2 : P * o + P * y + P * c = P * x + P * (4294967296 * c') := by rw [← Nat.mul_add, ← Nat.mul_add, e, Nat.mul_add]
  have h3 : P * (4294967296 * c') = c' * (4294967296 * P) := by rw [Nat.mul_left_comm, Nat.mul_comm P c', Nat.mul_left_comm]
  have h4 : P * c = c * P := Nat.mul_comm _ _
  omega

set_option maxHeartbeats 2000000 in
set_option maxRecDepth 100000 in
theorem bigMul_walk {w : World} {ao bo : Option Addr} {ca cb b1 o1 b2 o2 : Nat} {la lb : List Nat} (ha : Sl w 67 ao ca la b1 o1) (hb : Sl w 67 bo cb lb b2 o2) (hla : la.length ≤ 1099511627776) (hlb : lb.length ≤ 1099511627776)
    (ea : la.length ≠ 0) (eb : lb.length ≠ 0) :
    Calls Tryz.prog 107 #[.slice ao la.length ca, .slice bo lb.length cb] w fun e w' => Below w.heap.size w w' ∧ ∃ v, e = .returned v ∧ NatN w' v (val la * val lb) := by
  have hmk := make_row (t := 67) (by kernel_rfl) (la.length + lb.length) (by omega)
  have ec : ((la.length + lb.length : Nat) : Int) = (la.length : Int) + lb.length := by omega
  rw [ec] at hmk
  clear ec
  have HA : Hid (Sl w 67 ao ca la b1 o1) := ha
  have HB : Hid (Sl w 67 bo cb lb b2 o2) := hb
  clear ha hb
  have xa : ((la.length : Int) == 0) = false := beq_eq_false_iff_ne.mpr (by omega)
  have xb : ((lb.length : Int) == 0) = false := beq_eq_false_iff_ne.mpr (by omega)
  go_enter Tryz.func107, Tryz.ntmps107
  go_wp2
  go_loopw [6] (fun i wr => ∃ (k : Nat) (cur : List Nat), k ≤ la.length ∧ i = .int .i64 k ∧ Row wr w.heap.size cur ∧ cur.length = la.length + lb.length ∧ Lim cur ∧ val (cur.take (k + lb.length)) = val (la.take k) * val lb ∧ Below w.heap.size w wr) (fun i _ => la.length - (intOf i).toNat)
  case atStart => exact ⟨0, List.replicate (la.length + lb.length) 0, Nat.zero_le _, rfl, Row.new _ _, by simp, lim_zeros _, by rw [List.take_replicate, val_zeros]; simp [val], below_new _ _⟩
  case round =>
    obtain ⟨k, cur, hk, rfl, hrow, hcl, hcm, hval, hbel⟩ := hrel
    have HV : Hid (val (cur.take (k + lb.length)) = val (la.take k) * val lb) := hval
    have HL : Hid (cur.length = la.length + lb.length) := hcl
    clear hval hcl
    by_cases hlt : k < la.length
    · have hia := HA.out.idx k hlt
      have hca := (hbel.cell (p := ⟨b1, o1 + k, none⟩) (HA.out.lt (by omega))).trans (HA.out.seg k hlt)
      have hxa := nth_lt HA.out.lim k
      go_wp2
      go_loopw [7, 8] (fun c i wq => ∃ (j cy : Nat) (cu : List Nat), j ≤ lb.length ∧ i = .int .i64 j ∧ c = .int .u64 cy ∧ cy < 4294967296 ∧ Row wq w.heap.size cu ∧ cu.length = la.length + lb.length ∧ Lim cu ∧ val (cu.take (k + j)) + cy * pw (k + j) = val (cur.take (k + j)) + pw k * nth la k * val (lb.take j) ∧ (∀ r, k + j ≤ r → nth cu r = nth cur r) ∧ Below w.heap.size w wq) (fun _ i _ => lb.length - (intOf i).toNat)
      case atStart => exact ⟨0, 0, cur, Nat.zero_le _, rfl, rfl, by omega, hrow, HL.out, hcm, by simp [val], fun _ _ => rfl, hbel⟩
      case round =>
        obtain ⟨j, cy, cu, hj, rfl, rfl, hcy, hrw, hcul, hcum, hv2, hag, hbl⟩ := hrel
        clear hrow hbel hca
        have hca := (hbl.cell (p := ⟨b1, o1 + k, none⟩) (HA.out.lt (by omega))).trans (HA.out.seg k hlt)
        have HV2 : Hid (val (cu.take (k + j)) + cy * pw (k + j) = val (cur.take (k + j)) + pw k * nth la k * val (lb.take j)) := hv2
        have HL2 : Hid (cu.length = la.length + lb.length) := hcul
        have HG : Hid (∀ r, k + j ≤ r → nth cu r = nth cur r) := hag
        clear hv2 hcul hag
        by_cases hjl : j < lb.length
        · have hib := HB.out.idx j hjl
          have hcb := (hbl.cell (p := ⟨b2, o2 + j, none⟩) (HB.out.lt (by omega))).trans (HB.out.seg j hjl)
          have hxb := nth_lt HB.out.lim j
          have hcc := hrw.cell (j := k + j) (by rw [HL2.out]; omega)
          have hxc := nth_lt hcum (k + j)
          have hfz := hrw.frozen (k + j)
          obtain ⟨m1, hm1⟩ : ∃ m1, m1 = nth la k * nth lb j := ⟨_, rfl⟩
          have hb1 : m1 ≤ 18446744065119617025 := by rw [hm1]; exact mul_le_max hxa hxb
          have hr1 : (nth la k : Int) * (nth lb j : Int) = (m1 : Int) := by rw [hm1]; exact (Int.natCast_mul _ _).symm
          have HM : Hid (m1 = nth la k * nth lb j) := hm1
          clear hm1
          go_wp2
          go_quiet (fail)
          go_wp2
          go_roundw
          case rel =>
            refine ⟨j + 1, (cy + (m1 + nth cu (k + j))) / 4294967296, cu.set (k + j) ((cy + (m1 + nth cu (k + j))) % 4294967296), by omega, by go_num, by go_num, by omega, Row.set' (w := wr.drewN _) hrw _ _ (by omega), by rw [List.length_set, HL2.out], hcum.set (by omega), ?_, ?_, (belowDrewN hbl _).setCell (Nat.le_refl _) _⟩
            · rw [← Nat.add_assoc k j 1, val_set_take (by rw [HL2.out]; omega), val_take_succ, val_take_succ, pw_succ, ← HG.out (k + j) (Nat.le_refl _)]
              exact mul_round _ _ _ _ _ (pw j) _ _ _ _ _ _ HV2.out (by rw [← HM.out]; omega) (pw_add _ _)
            · intro r hr
              rw [nth_set_other (by omega)]
              exact HG.out r (by omega)
          case measure => simp [intOf]; omega
        · obtain rfl : j = lb.length := by omega
          have hcc := hrw.cell (j := k + lb.length) (by rw [HL2.out]; omega)
          have hfz := hrw.frozen (k + lb.length)
          go_wp2
          go_roundw
          case rel =>
            refine ⟨k + 1, cu.set (k + lb.length) cy, by omega, by go_num, hrw.set' _ _ (by omega), by rw [List.length_set, HL2.out], hcum.set (by omega), ?_, hbl.setCell (Nat.le_refl _) _⟩
            have h1 := HV2.out
            rw [List.take_length, HV.out] at h1
            rw [show k + 1 + lb.length = k + lb.length + 1 from by omega, val_set_take (by rw [HL2.out]; omega), val_take_succ, Nat.add_mul, Nat.mul_comm (pw (k + lb.length))]
            exact h1
          case measure => simp [intOf]; omega
    · obtain rfl : k = la.length := by omega
      go_wp2_with fail
      refine (bigTrim_row hrow hcm HL.out (by omega)).mono ?_
      rintro e w' ⟨rfl, v', rfl, hv'⟩
      go_wp2
      go_ret
      refine ⟨hbel, v', rfl, ?_⟩
      have h1 := HV.out
      rw [List.take_length, List.take_of_length_le (by rw [HL.out]; omega)] at h1
      rw [h1] at hv'
      exact hv'

theorem bigMul_nil1 (ao bo : Option Addr) (ca m cb : Nat) (w : World) :
    Calls Tryz.prog 107 #[.slice ao 0 ca, .slice bo m cb] w fun e w' => e = .returned (.slice none 0 0) ∧ w' = w := by
  go_enter Tryz.func107, Tryz.ntmps107
  go_wp2
  go_ret
  exact ⟨rfl, rfl⟩

theorem bigMul_nil2 (ao bo : Option Addr) (ca n cb : Nat) (w : World) (h : n ≠ 0) :
    Calls Tryz.prog 107 #[.slice ao n ca, .slice bo 0 cb] w fun e w' => e = .returned (.slice none 0 0) ∧ w' = w := by
  have xa : ((n : Int) == 0) = false := beq_eq_false_iff_ne.mpr (by omega)
  go_enter Tryz.func107, Tryz.ntmps107
  go_wp2
  go_ret
  exact ⟨rfl, rfl⟩

/-- mul: the product, in new memory. -/
theorem bigMul_calls {w : World} {va vb : Value} {a b : Nat} (ha : NatN w va a) (hb : NatN w vb b) (hla : Small a) (hlb : Small b) :
    Calls Tryz.prog 107 #[va, vb] w fun e w' => Below w.heap.size w w' ∧ ∃ v, e = .returned v ∧ NatN w' v (a * b) := by
  obtain ⟨la, ha, ta, rfl⟩ := ha
  obtain ⟨lb, hb, tb, rfl⟩ := hb
  obtain ⟨ao, ca, b1, o1, rfl, sa⟩ := ha.sl32
  obtain ⟨bo, cb, b2, o2, rfl, sb⟩ := hb.sl32
  by_cases h1 : la.length = 0
  · have e1 : la = [] := List.length_eq_zero_iff.mp h1
    subst e1
    refine (bigMul_nil1 ao bo ca _ cb w).mono ?_
    rintro e w' ⟨rfl, rfl⟩
    exact ⟨Below.refl _ _, _, rfl, [], NatV.nil _ _ _, Or.inl rfl, by simp [val]⟩
  by_cases h2 : lb.length = 0
  · have e1 : lb = [] := List.length_eq_zero_iff.mp h2
    subst e1
    refine (bigMul_nil2 ao bo ca _ cb w h1).mono ?_
    rintro e w' ⟨rfl, rfl⟩
    exact ⟨Below.refl _ _, _, rfl, [], NatV.nil _ _ _, Or.inl rfl, by simp [val]⟩
  exact bigMul_walk sa sb (hla.len ta) (hlb.len tb) h1 h2

set_option maxHeartbeats 1000000 in
theorem bigSub_walk {w : World} {ao bo : Option Addr} {ca cb b1 o1 b2 o2 : Nat} {la lb : List Nat} (ha : Sl w 67 ao ca la b1 o1) (hb : Sl w 67 bo cb lb b2 o2) (hla : la.length ≤ 1099511627776) (hlb : lb.length ≤ la.length) (hle : val lb ≤ val la) :
    Calls Tryz.prog 186 #[.slice ao la.length ca, .slice bo lb.length cb] w fun e w' => Below w.heap.size w w' ∧ ∃ v, e = .returned v ∧ NatN w' v (val la - val lb) := by
  have hmk := make_row (t := 67) (by kernel_rfl) la.length (by omega)
  have HA : Hid (Sl w 67 ao ca la b1 o1) := ha
  have HB : Hid (Sl w 67 bo cb lb b2 o2) := hb
  have HLE : Hid (val lb ≤ val la) := hle
  clear ha hb hle
  go_enter Tryz.func186, Tryz.ntmps186
  go_wp2
  go_loopw [6, 7] (fun c i wr => ∃ (k br : Nat) (cur : List Nat), k ≤ la.length ∧ i = .int .i64 k ∧ c = .int .u64 br ∧ br ≤ 1 ∧ Row wr w.heap.size cur ∧ cur.length = la.length ∧ Lim cur ∧ val (cur.take k) + val (lb.take k) = val (la.take k) + br * pw k ∧ Below w.heap.size w wr) (fun _ i _ => la.length - (intOf i).toNat)
  case atStart => exact ⟨0, 0, List.replicate la.length 0, Nat.zero_le _, rfl, rfl, Nat.zero_le _, Row.new _ _, by simp, lim_zeros _, by simp [val], below_new _ _⟩
  case round =>
    obtain ⟨k, br, cur, hk, rfl, rfl, hbr, hrow, hcl, hcm, hval, hbel⟩ := hrel
    have HV : Hid (val (cur.take k) + val (lb.take k) = val (la.take k) + br * pw k) := hval
    have HL : Hid (cur.length = la.length) := hcl
    clear hval hcl
    have hfz := hrow.frozen k
    by_cases hlt : k < la.length
    · have hia := HA.out.idx k hlt
      have hca := (hbel.cell (p := ⟨b1, o1 + k, none⟩) (HA.out.lt (by omega))).trans (HA.out.seg k hlt)
      have hxa := nth_lt HA.out.lim k
      have hcc := hrow.cell (j := k) (by rw [HL.out]; omega)
      by_cases hlt2 : k < lb.length
      · have hib := HB.out.idx k hlt2
        have hcb := (hbel.cell (p := ⟨b2, o2 + k, none⟩) (HB.out.lt (by omega))).trans (HB.out.seg k hlt2)
        have hxb := nth_lt HB.out.lim k
        obtain ⟨br', out, hw1, hw2, hb', ho', hsum⟩ := sub_wrap2 (nth la k) (nth lb k) br hxa hxb hbr
        go_wp2
        go_roundw
        case rel =>
          refine ⟨k + 1, br', cur.set k out, by omega, by go_num, by go_num, hb', hrow.set' _ _ (by go_num), by rw [List.length_set, HL.out], hcm.set (by omega), ?_, hbel.setCell (Nat.le_refl _) _⟩
          rw [val_set_take (by rw [HL.out]; omega), val_take_succ, val_take_succ, pw_succ]
          exact sub_round _ _ _ _ _ _ _ _ _ HV.out hsum
        case measure => simp [intOf]; omega
      · obtain ⟨br', out, hw1, hw2, hb', ho', hsum⟩ := sub_wrap1 (nth la k) br hxa hbr
        go_wp2
        go_roundw
        case rel =>
          refine ⟨k + 1, br', cur.set k out, by omega, by go_num, by go_num, hb', hrow.set' _ _ (by go_num), by rw [List.length_set, HL.out], hcm.set (by omega), ?_, hbel.setCell (Nat.le_refl _) _⟩
          rw [val_set_take (by rw [HL.out]; omega), val_take_succ, val_take_succ, pw_succ, nth_beyond (l := lb) (by omega)]
          exact sub_round _ _ _ _ _ 0 _ _ _ HV.out (by omega)
        case measure => simp [intOf]; omega
    · obtain rfl : k = la.length := by omega
      go_wp2_with fail
      refine (bigTrim_row hrow hcm HL.out (by omega)).mono ?_
      rintro e w' ⟨rfl, v', rfl, hv'⟩
      go_wp2
      go_ret
      refine ⟨hbel, v', rfl, ?_⟩
      have hvv : val cur = val la - val lb := by
        have h1 := HV.out
        rw [List.take_length, List.take_of_length_le (l := lb) hlb, List.take_of_length_le (l := cur) (by rw [HL.out]; omega)] at h1
        have h2 := val_lt hcm
        rw [HL.out] at h2
        have h3 := HLE.out
        rcases Nat.lt_or_ge br 1 with h | h
        · have : br = 0 := by omega
          subst this; omega
        · have : br = 1 := by omega
          subst this; omega
      rw [hvv] at hv'
      exact hv'

/-- sub: the difference, in new memory. -/
theorem bigSub_calls {w : World} {va vb : Value} {a b : Nat} (ha : NatN w va a) (hb : NatN w vb b) (hla : Small a) (hle : b ≤ a) :
    Calls Tryz.prog 186 #[va, vb] w fun e w' => Below w.heap.size w w' ∧ ∃ v, e = .returned v ∧ NatN w' v (a - b) := by
  obtain ⟨la, ha, ta, rfl⟩ := ha
  obtain ⟨lb, hb, tb, rfl⟩ := hb
  obtain ⟨ao, ca, b1, o1, rfl, sa⟩ := ha.sl32
  obtain ⟨bo, cb, b2, o2, rfl, sb⟩ := hb.sl32
  refine bigSub_walk sa sb (hla.len ta) ?_ hle
  rcases Nat.lt_or_ge la.length lb.length with h | h
  · have := val_lt_of_len sa.lim tb h
    omega
  · exact h
end Go.Proofs.YtpalknbmejachaaGreatDoor
/- Walks of package compassbig: plain, small, length. -/
namespace Go.Proofs.YtpalknbmejachaaGreatDoor
open Go.RowKit Cx

theorem bor_shl (x y : Nat) (hx : x < 4294967296) (hy : y < 4294967296) : bits .or .u64 (y : Int) ((x : Int) * 4294967296) = ((x * 4294967296 + y : Nat) : Int) := by
  have := u64_or_nat y (x * 4294967296) (by omega) (by omega)
  rw [Int.natCast_mul] at this
  rw [show ((4294967296 : Nat) : Int) = 4294967296 from rfl] at this
  rw [this]
  congr 1
  have h := Nat.shiftLeft_add_eq_or_of_lt (i := 32) (b := y) (by omega) x
  rw [Nat.shiftLeft_eq] at h
  rw [Nat.or_comm]
  exact h.symm

theorem bigPlain_nil (ao : Option Addr) (ca : Nat) (w : World) :
    Calls Tryz.prog 182 #[.slice ao 0 ca] w fun e w' => e = .returned (.int .u64 0) ∧ w' = w := by
  go_enter Tryz.func182, Tryz.ntmps182
  go_wp2
  go_ret
  exact ⟨rfl, rfl⟩

theorem bigPlain_one {w : World} {ao : Option Addr} {ca b1 o1 x : Nat} (ha : Sl w 67 ao ca [x] b1 o1) :
    Calls Tryz.prog 182 #[.slice ao 1 ca] w fun e w' => e = .returned (.int .u64 x) ∧ w' = w := by
  have hia : ∀ wx, (Instr.indexAt 67 (.slice ao 1 ca) (.int .i64 0)).run Tryz.prog wx = .ok (.pointer (some ⟨b1, o1, none⟩)) wx := ha.idx 0 (by simp)
  have hca : w.cell? ⟨b1, o1, none⟩ = some (.int .u32 (x : Int)) := ha.seg 0 (by simp)
  have hx : x < 4294967296 := ha.lim.head
  clear ha
  go_enter Tryz.func182, Tryz.ntmps182
  go_wp2
  go_ret
  exact ⟨rfl, rfl⟩

theorem bigPlain_two {w : World} {ao : Option Addr} {ca b1 o1 x y : Nat} (ha : Sl w 67 ao ca [x, y] b1 o1) :
    Calls Tryz.prog 182 #[.slice ao 2 ca] w fun e w' => e = .returned (.int .u64 ((y * 4294967296 + x : Nat) : Int)) ∧ w' = w := by
  have hia : ∀ wx, (Instr.indexAt 67 (.slice ao 2 ca) (.int .i64 0)).run Tryz.prog wx = .ok (.pointer (some ⟨b1, o1, none⟩)) wx := ha.idx 0 (by simp)
  have hca : w.cell? ⟨b1, o1, none⟩ = some (.int .u32 (x : Int)) := ha.seg 0 (by simp)
  have hib : ∀ wx, (Instr.indexAt 67 (.slice ao 2 ca) (.int .i64 1)).run Tryz.prog wx = .ok (.pointer (some ⟨b1, o1 + 1, none⟩)) wx := ha.idx 1 (by simp)
  have hcb : w.cell? ⟨b1, o1 + 1, none⟩ = some (.int .u32 (y : Int)) := ha.seg 1 (by simp)
  have hx : x < 4294967296 := ha.lim.head
  have hy : y < 4294967296 := ha.lim.tail.head
  have hor := bor_shl y x hy hx
  clear ha
  go_enter Tryz.func182, Tryz.ntmps182
  go_wp2
  go_ret
  exact ⟨by go_num, rfl⟩

set_option maxHeartbeats 1000000 in
theorem bigSmall_walk {w : World} {ao : Option Addr} {ca b1 o1 d : Nat} {la : List Nat} (ha : Sl w 67 ao ca la b1 o1) (hla : la.length ≤ 1099511627776) (hd : 0 < d) (hd2 : d < 4294967296) :
    Calls Tryz.prog 175 #[.slice ao la.length ca, .int .u32 d] w fun e w' => Below w.heap.size w w' ∧ ∃ v, e = .returned (.tuple #[v, .int .u32 (val la % d : Nat)]) ∧ NatN w' v (val la / d) := by
  have hmk := make_row (t := 67) (by kernel_rfl) la.length (by omega)
  have HA : Hid (Sl w 67 ao ca la b1 o1) := ha
  clear ha
  go_enter Tryz.func175, Tryz.ntmps175
  go_wp2
  go_loopw [7, 8] (fun lf i wr => ∃ (k r : Nat) (cur : List Nat), k ≤ la.length ∧ i = .int .i64 ((k : Int) - 1) ∧ lf = .int .u64 r ∧ r < d ∧ Row wr w.heap.size cur ∧ cur.length = la.length ∧ Lim cur ∧ val (la.drop k) = d * val (cur.drop k) + r ∧ Below w.heap.size w wr) (fun _ i _ => (intOf i + 1).toNat)
  case atStart => exact ⟨la.length, 0, List.replicate la.length 0, Nat.le_refl _, rfl, rfl, hd, Row.new _ _, by simp, lim_zeros _, by rw [List.drop_length, List.drop_of_length_le (by simp)]; simp [val], below_new _ _⟩
  case round =>
    obtain ⟨k, r, cur, hk, rfl, rfl, hrd, hrow, hcl, hcm, hval, hbel⟩ := hrel
    have HV : Hid (val (la.drop k) = d * val (cur.drop k) + r) := hval
    have HL : Hid (cur.length = la.length) := hcl
    clear hval hcl
    by_cases h0 : k = 0
    · subst h0
      go_wp2_with fail
      refine (bigTrim_row hrow hcm HL.out (by omega)).mono ?_
      rintro e w' ⟨rfl, v', rfl, hv'⟩
      go_wp2
      go_ret2
      have h1 := HV.out
      rw [List.drop_zero, List.drop_zero] at h1
      have hq : val cur = val la / d := by
        rw [h1, Nat.mul_add_div hd, Nat.div_eq_of_lt hrd, Nat.add_zero]
      have hm2 : val la % d = r := by
        rw [h1, Nat.mul_add_mod, Nat.mod_eq_of_lt hrd]
      rw [hq] at hv'
      rw [hm2]
      refine ⟨hbel, v', by go_num, hv'⟩
    · obtain ⟨m, rfl⟩ : ∃ m, k = m + 1 := ⟨k - 1, by omega⟩
      rw [show (((m + 1 : Nat) : Int) - 1) = (m : Int) from by omega]
      have hia := HA.out.idx m (by omega)
      have hca := (hbel.cell (p := ⟨b1, o1 + m, none⟩) (HA.out.lt (by omega))).trans (HA.out.seg m (by omega))
      have hcc := hrow.cell (j := m) (by rw [HL.out]; omega)
      have hfz := hrow.frozen m
      have hx := nth_lt HA.out.lim m
      have hor := shl_or r (nth la m) (by omega) hx
      go_wp2
      go_roundw
      case rel =>
        have hq := limb_quot_lt r (nth la m) d hrd hx
        have e1 : (((r * 4294967296 + nth la m) % d : Nat) : Int) = ((r : Int) * 4294967296 + (nth la m : Int)) % (d : Int) := cast_mod _ _ _
        have e2 : (((r * 4294967296 + nth la m) / d : Nat) : Int) = ((r : Int) * 4294967296 + (nth la m : Int)) / (d : Int) := cast_div _ _ _
        refine ⟨m, (r * 4294967296 + nth la m) % d, cur.set m ((r * 4294967296 + nth la m) / d), by omega, rfl, by rw [e1], Nat.mod_lt _ hd, hrow.set' _ _ (by rw [← e2]; exact mod_id hq), by rw [List.length_set, HL.out], hcm.set hq, ?_, hbel.setCell (Nat.le_refl _) _⟩
        rw [val_drop (l := la) (by omega), val_drop (l := cur.set m _) (by rw [List.length_set, HL.out]; omega), val_drop_set', nth_set_same (by rw [HL.out]; omega)]
        exact limb_round _ _ _ _ _ HV.out
      case measure => simp [intOf]

/-- small: divided by one word, and the rest. -/
theorem bigSmall_calls {w : World} {va : Value} {a d : Nat} (ha : NatN w va a) (hla : Small a) (hd : 0 < d) (hd2 : d < 4294967296) :
    Calls Tryz.prog 175 #[va, .int .u32 d] w fun e w' => Below w.heap.size w w' ∧ ∃ v, e = .returned (.tuple #[v, .int .u32 (a % d : Nat)]) ∧ NatN w' v (a / d) := by
  obtain ⟨la, ha, ta, rfl⟩ := ha
  obtain ⟨ao, ca, b1, o1, rfl, sa⟩ := ha.sl32
  exact bigSmall_walk sa (hla.len ta) hd hd2

/-- plain: a number of at most two limbs as a machine number. -/
theorem bigPlain_calls {w : World} {va : Value} {a : Nat} (ha : NatN w va a) (h : a < 18446744073709551616) :
    Calls Tryz.prog 182 #[va] w fun e w' => e = .returned (.int .u64 a) ∧ w' = w := by
  obtain ⟨la, ha, ta, rfl⟩ := ha
  obtain ⟨ao, ca, b1, o1, rfl, sa⟩ := ha.sl32
  match la, ta, h, sa with
  | [], _, _, _ => exact bigPlain_nil ao ca w
  | [x], _, _, sa => rw [show val [x] = x from by simp [val]]; exact bigPlain_one sa
  | [x, y], _, _, sa =>
    rw [show val [x, y] = y * 4294967296 + x from by simp [val]; omega]
    exact bigPlain_two sa
  | x :: y :: z :: t, ta, h, _ =>
    have h1 := len_le (n := 2) ta (by simpa [pw] using h)
    simp at h1

end Go.Proofs.YtpalknbmejachaaGreatDoor
/- Walks of package compassbig: twin, length. -/
namespace Go.Proofs.YtpalknbmejachaaGreatDoor
open Go.RowKit Cx

theorem wpList_append_run {P : Program} {w : World} {ops : Array Oper} {rest : List Oper} {o : Oper} {a : Act} {Q : Exit → Act → World → Prop}
    (hg : o.guard = none) (s x : Operand) (t : TypeId) (hop : o.op = Op.call { callee := Callee.builtin Builtin.append, args := #[s, x], argTypes := #[t, t] })
    (vs vx v : Value) (hs : a.eval s = vs) (hx : a.eval x = vx) (hrun : ∀ ty, (Builtin.append_ #[t, t] ty #[vs, vx]).run P w = .ok v w) (hk : wpList P ops Q rest (a.put o.dst v) w) :
    wpList P ops Q (o :: rest) a w := by
  refine wpList_plain hg fun K hK' => ?_
  unfold Oper.wp
  simp [execOp, hop, resolve, invoke, builtin, hs, hx, hrun, Result.andThen]
  exact hK' _ _ hk

theorem bigTwin_none (cap : Nat) (w : World) :
    Calls Tryz.prog 151 #[.slice none 0 cap] w fun e w' => e = .returned (.slice none 0 0) ∧ w' = w := by
  obtain ⟨i0, hi, hz0, hz1, hz2⟩ := info_parts Tryz.infoU32
  have hrun : ∀ ty, (Builtin.append_ #[67, 67] ty #[.slice none 0 0, .slice none 0 cap]).run Tryz.prog w = .ok (.slice none 0 0) w := by
    intro ty
    have hs : Src Tryz.prog i0.size 67 (.slice none 0 cap) 0 [] w := Src.ofNil w Tryz.underlying67 cap
    rcases hs.kind with ⟨e', hk⟩ | hk <;> simp [Builtin.append_, run_underlying Tryz.underlying67, sizeOf, typeInfo, hi, hs.len, hs.cells]
  go_enter Tryz.func151, Tryz.ntmps151
  go_wp2_with (at_builtin; refine wpList_append_run rfl _ _ 67 rfl _ _ _ rfl rfl hrun ?_)
  go_ret
  exact ⟨rfl, rfl⟩

set_option maxHeartbeats 1000000 in
theorem bigTwin_some (ad : Addr) (cap : Nat) (l : List Nat) (w : World) (hl : l.length ≤ 1099511627776) (hs : ∀ j, j < l.length → w.cell? (ad.add j) = some (.int .u32 (nth l j : Int))) (hlim : Lim l) :
    Calls Tryz.prog 151 #[.slice (some ad) l.length cap] w fun e w' => Below w.heap.size w w' ∧ ∃ v, e = .returned v ∧ NatV w' v l := by
  obtain ⟨i0, hi, hz0, hz1, hz2⟩ := info_parts Tryz.infoU32
  have hown : w.ownsRow w.heap.size 160 1 (.slice none 0 0) 0 [] := ⟨rfl, Or.inl ⟨rfl, rfl⟩⟩
  have hnews : ∀ j u, (l.map fun x : Nat => Value.int .u32 (x : Int))[j]? = some u → w.cell? (ad.add j) = some u := by
    intro j u hj
    rw [List.getElem?_map, Option.map_eq_some_iff] at hj
    obtain ⟨x, hx, rfl⟩ := hj
    obtain ⟨hjl, hx⟩ := List.getElem?_eq_some_iff.1 hx
    rw [hs j hjl, nth_get hjl, hx]
  have h1 : ∀ u ∈ (l.map fun x : Nat => Value.int .u32 (x : Int)), u.oneCell' = true := by
    intro u hu
    obtain ⟨x, _, rfl⟩ := List.mem_map.1 hu
    rfl
  have HS : Hid (∀ j u, (l.map fun x : Nat => Value.int .u32 (x : Int))[j]? = some u → w.cell? (ad.add j) = some u) := hnews
  clear hnews hs
  go_enter Tryz.func151, Tryz.ntmps151
  go_wp2_with (at_builtin; refine wpList_append_own _ rfl _ _ 67 rfl w.heap.size 160 i0 (.int .u32 0) 1 4 Tryz.underlying67 hi hz0 hz1 hz2 rfl (by decide) (.slice none 0 0) 0 [] rfl hown ad l.length cap (l.map fun x : Nat => Value.int .u32 (x : Int)) rfl (by simp) HS.out h1 (by unfold maxLen; omega) (by omega) (by simp) ?_; intro v' w1 hown1 hgrow hnil)
  go_ret
  simp only [Nat.zero_add, List.nil_append] at hown1
  have hb : Below w.heap.size w w1 := (Below.refl _ w).grown hgrow (by simp) (fun k hk => by simp [Value.ownBlock] at hk)
  refine ⟨hb, v', rfl, ?_⟩
  by_cases e : v' = .slice none 0 0
  · subst e
    rcases hown1.2 with ⟨_, h0⟩ | ⟨g, cap, cur, h0, _⟩
    · have e1 : l = [] := List.length_eq_zero_iff.mp h0
      subst e1
      exact NatV.nil _ _ _
    · cases h0
  · obtain ⟨g, cap', rfl, hb, hc, hm, hrow⟩ := row_of_owns hown1 e
    exact ⟨hlim, Or.inr ⟨g, 0, cap', rfl, hc, hm, hrow.lt, hrow.seg⟩⟩

/-- twin: the same limbs, in new memory. -/
theorem bigTwin_calls {w : World} {va : Value} {a : Nat} (ha : NatN w va a) (hla : Small a) :
    Calls Tryz.prog 151 #[va] w fun e w' => Below w.heap.size w w' ∧ ∃ v, e = .returned v ∧ NatN w' v a := by
  obtain ⟨l, ⟨hlim, ⟨rfl, ao, cap, rfl⟩ | ⟨b, off, cap, rfl, hc, hm, hlt, hs⟩⟩, ta, rfl⟩ := ha
  · cases ao with
    | none =>
      refine (bigTwin_none cap w).mono ?_
      rintro e w' ⟨rfl, rfl⟩
      exact ⟨Below.refl _ _, _, rfl, [], NatV.nil _ _ _, ta, rfl⟩
    | some ad =>
      refine (bigTwin_some ad cap [] w (by simp) (fun j hj => absurd hj (by simp)) hlim).mono ?_
      rintro e w' ⟨hb, v, rfl, h⟩
      exact ⟨hb, v, rfl, [], h, ta, rfl⟩
  · refine (bigTwin_some ⟨b, off, none⟩ cap l w (hla.len ta) (fun j hj => ?_) hlim).mono ?_
    · have := hs j hj
      simp only [Addr.add]
      split
      · rename_i e; rw [e] at this ⊢; exact this
      · exact this
    · rintro e w' ⟨hb, v, rfl, h⟩
      exact ⟨hb, v, rfl, l, h, ta, rfl⟩

end Go.Proofs.YtpalknbmejachaaGreatDoor
/- Walks of package compassbig: length, left, right. -/
namespace Go.Proofs.YtpalknbmejachaaGreatDoor
open Go.RowKit Cx

set_option maxHeartbeats 1000000 in
set_option maxRecDepth 100000 in
theorem bigLength_walk {w : World} {ao : Option Addr} {ca b1 o1 : Nat} {la : List Nat} (ha : Sl w 67 ao ca la b1 o1) (hla : la.length ≤ 1099511627776) (m : Nat) (hm : la.length = m + 1) (ht : nth la m ≠ 0) :
    Calls Tryz.prog 183 #[.slice ao la.length ca] w fun e w' => w' = w ∧ ∃ n : Nat, e = .returned (.int .i64 ((m * 32 + n : Nat) : Int)) ∧ 1 ≤ n ∧ n ≤ 32 ∧ 2 ^ (n - 1) ≤ nth la m ∧ nth la m < 2 ^ n := by
  have HA : Hid (Sl w 67 ao ca la b1 o1) := ha
  clear ha
  have xa : ((la.length : Int) == 0) = false := beq_eq_false_iff_ne.mpr (by omega)
  have hi : ((la.length : Int) - 1) = (m : Int) := by omega
  have hia := HA.out.idx m (by omega)
  have hca := HA.out.seg m (by omega)
  have hxa := nth_lt HA.out.lim m
  obtain ⟨x, hx⟩ : ∃ x, x = nth la m := ⟨_, rfl⟩
  rw [← hx] at hca hxa ht ⊢
  clear hx
  have HM : Hid (la.length = m + 1) := hm
  clear hm
  go_enter Tryz.func183, Tryz.ntmps183
  go_wp2
  go_loop [3, 4] (fun n t => ∃ k : Nat, n = .int .i64 (k : Int) ∧ t = .int .u32 ((x / 2 ^ k : Nat) : Int) ∧ (1 ≤ k → 2 ^ (k - 1) ≤ x)) (fun _ t => (intOf t).toNat)
  case atStart => exact ⟨0, rfl, by simp, fun h => absurd h (by omega)⟩
  case round =>
    obtain ⟨k, rfl, rfl, hk⟩ := hrel
    have hk32 : k ≤ 32 := by
      rcases Nat.lt_or_ge 32 k with h | h
      · have h1 := hk (by omega)
        have h2 : 2 ^ 32 ≤ 2 ^ (k - 1) := Nat.pow_le_pow_right (by omega) (by omega)
        omega
      · exact h
    obtain ⟨y, hy⟩ : ∃ y, y = x / 2 ^ k := ⟨_, rfl⟩
    rw [← hy]
    have hyx : y < 4294967296 := by rw [hy]; exact Nat.lt_of_le_of_lt (Nat.div_le_self _ _) hxa
    have HY : Hid (y = x / 2 ^ k) := hy
    have HK : Hid (1 ≤ k → 2 ^ (k - 1) ≤ x) := hk
    clear hy hk
    by_cases h0 : y = 0
    · subst h0
      go_wp2
      go_ret
      have h1 : x < 2 ^ k := by
        have h2 := HY.out
        rcases Nat.div_eq_zero_iff.1 h2.symm with h3 | h3
        · have := Nat.two_pow_pos k; omega
        · exact h3
      have hk1 : 1 ≤ k := by
        rcases Nat.eq_zero_or_pos k with h | h
        · subst h; simp at h1; omega
        · exact h
      exact ⟨rfl, k, by go_num, hk1, hk32, HK.out hk1, h1⟩
    · have hne : ((y : Int) != 0) = true := by rw [bne_iff_ne]; omega
      go_wp2
      go_round
      case rel =>
        refine ⟨k + 1, by go_num, ?_, fun _ => ?_⟩
        · rw [Nat.pow_succ, ← Nat.div_div_eq_div_mul, ← HY.out]; go_num
        · have h3 := HY.out
          have h4 : 1 ≤ x / 2 ^ k := by omega
          rw [Nat.add_sub_cancel]
          exact (Nat.one_le_div_iff (Nat.two_pow_pos k)).1 h4
      case measure => simp [intOf]; omega

theorem nth_zeros (n j : Nat) : nth (List.replicate n 0) j = 0 := by
  rcases Nat.lt_or_ge j n with h | h
  · rw [nth_get (by simpa using h), List.getElem_replicate]
  · exact nth_beyond (by simpa using h)

set_option maxHeartbeats 2000000 in
set_option maxRecDepth 100000 in
theorem bigLeft_walk {w : World} {ao : Option Addr} {ca b1 o1 sh : Nat} {la : List Nat} (ha : Sl w 67 ao ca la b1 o1) (hla : la.length ≤ 1099511627776) (hne : la.length ≠ 0) (hsh : sh < 32) :
    Calls Tryz.prog 184 #[.slice ao la.length ca, .int .u64 sh] w fun e w' => Below w.heap.size w w' ∧ ∃ v, e = .returned v ∧ NatN w' v (val la * 2 ^ sh) := by
  have hmk := make_row (t := 67) (by kernel_rfl) (la.length + 1) (by omega)
  have ec : ((la.length + 1 : Nat) : Int) = (la.length : Int) + 1 := by omega
  rw [ec] at hmk
  clear ec
  have HA : Hid (Sl w 67 ao ca la b1 o1) := ha
  clear ha
  have xa : ((la.length : Int) == 0) = false := beq_eq_false_iff_ne.mpr (by omega)
  have xd : (sh : Int) / 32 = 0 := by omega
  have xm : (sh : Int) % 32 = sh := by omega
  go_enter Tryz.func184, Tryz.ntmps184
  go_wp2
  go_loopw [8] (fun i wr => ∃ (k : Nat) (cur : List Nat), k ≤ la.length ∧ i = .int .i64 k ∧ Row wr w.heap.size cur ∧ cur.length = la.length + 1 ∧ Lim cur ∧ nth cur k < 2 ^ sh ∧ (∀ j, k < j → nth cur j = 0) ∧ val (cur.take k) + nth cur k * pw k = val (la.take k) * 2 ^ sh ∧ Below w.heap.size w wr) (fun i _ => la.length - (intOf i).toNat)
  case atStart => exact ⟨0, List.replicate (la.length + 1) 0, Nat.zero_le _, rfl, Row.new _ _, by simp, lim_zeros _, by rw [nth_zeros]; exact Nat.two_pow_pos _, fun j _ => nth_zeros _ _, by rw [nth_zeros]; simp [val], below_new _ _⟩
  case round =>
    obtain ⟨k, cur, hk, rfl, hrow, hcl, hcm, hcy, hz, hval, hbel⟩ := hrel
    have HV : Hid (val (cur.take k) + nth cur k * pw k = val (la.take k) * 2 ^ sh) := hval
    have HL : Hid (cur.length = la.length + 1) := hcl
    have HZ : Hid (∀ j, k < j → nth cur j = 0) := hz
    clear hval hcl hz
    by_cases hlt : k < la.length
    · have hia := HA.out.idx k hlt
      have hca := (hbel.cell (p := ⟨b1, o1 + k, none⟩) (HA.out.lt (by omega))).trans (HA.out.seg k hlt)
      have hxa := nth_lt HA.out.lim k
      have hcc := hrow.cell (j := k) (by rw [HL.out]; omega)
      have hcd := hrow.cell (j := k + 1) (by rw [HL.out]; omega)
      rw [HZ.out (k + 1) (by omega)] at hcd
      have hfz := hrow.frozen k
      have hfy := hrow.frozen (k + 1)
      obtain ⟨cy, hcye⟩ : ∃ cy, cy = nth cur k := ⟨_, rfl⟩
      rw [← hcye] at hcc hcy
      have HCY : Hid (cy = nth cur k) := hcye
      clear hcye
      obtain ⟨m1, hm1⟩ : ∃ m1, m1 = nth la k * 2 ^ sh := ⟨_, rfl⟩
      have h2p := two_pow_le hsh
      have hcy2 : cy < 4294967296 := by omega
      have hb1 : m1 ≤ 9223372034707292160 := by
        rw [hm1]
        exact Nat.le_trans (Nat.mul_le_mul (show nth la k ≤ 4294967295 by omega) h2p) (by omega)
      have hr1 : (nth la k : Int) * 2 ^ sh = (m1 : Int) := by rw [hm1, Int.natCast_mul, Int.natCast_pow]; rfl
      have ho1 : bits .or .u32 (cy : Int) ((m1 : Int) % 4294967296) = ((m1 % 4294967296 + cy : Nat) : Int) := by
        have := u32_or_nat cy (m1 % 4294967296) (by omega) (by omega)
        rw [hm1] at this ⊢
        rw [Nat.or_comm, shl_low hsh hcy] at this
        exact this
      have ho2 : bits .or .u32 0 ((m1 : Int) / 4294967296) = ((m1 / 4294967296 : Nat) : Int) := by
        have := u32_or_nat 0 (m1 / 4294967296) (by omega) (by omega)
        rw [Nat.zero_or] at this
        exact this
      have HM : Hid (m1 = nth la k * 2 ^ sh) := hm1
      have HLT : Hid (m1 % 4294967296 + cy < 4294967296) := by show m1 % 4294967296 + cy < 4294967296; rw [hm1]; exact shl_lt hsh hcy
      have HCL : Hid (m1 / 4294967296 < 2 ^ sh) := by
        show m1 / 4294967296 < 2 ^ sh
        rw [Nat.div_lt_iff_lt_mul (by omega), hm1, Nat.mul_comm (2 ^ sh)]
        exact Nat.mul_lt_mul_of_pos_right hxa (Nat.two_pow_pos _)
      clear hm1 h2p
      go_wp2
      go_roundw
      case rel =>
        refine ⟨k + 1, (cur.set k (m1 % 4294967296 + cy)).set (k + 1) (m1 / 4294967296), by omega, by go_num, (hrow.set' _ _ rfl).set' _ _ rfl, by rw [List.length_set, List.length_set, HL.out], (hcm.set HLT.out).set (by omega), ?_, ?_, ?_, (hbel.setCell (Nat.le_refl _) _).setCell (Nat.le_refl _) _⟩
        · rw [nth_set_same (by rw [List.length_set, HL.out]; omega)]; exact HCL.out
        · intro j hj
          rw [nth_set_other (by omega), nth_set_other (by omega)]
          exact HZ.out j (by omega)
        · have h1 := HV.out
          rw [← HCY.out] at h1
          rw [nth_set_same (by rw [List.length_set, HL.out]; omega), List.take_set_of_le (Nat.le_refl _), val_set_take (by rw [HL.out]; omega), val_take_succ, pw_succ]
          exact shl_round _ _ _ _ _ _ _ h1 HM.out
      case measure => simp [intOf]; omega
    · obtain rfl : k = la.length := by omega
      go_wp2_with fail
      refine (bigTrim_row hrow hcm HL.out (by omega)).mono ?_
      rintro e w' ⟨rfl, v', rfl, hv'⟩
      go_wp2
      go_ret
      refine ⟨hbel, v', rfl, ?_⟩
      have h1 := HV.out
      rw [List.take_length, Nat.mul_comm (nth cur la.length), ← val_take_succ, List.take_of_length_le (by rw [HL.out]; omega)] at h1
      rw [h1] at hv'
      exact hv'

end Go.Proofs.YtpalknbmejachaaGreatDoor
/- Walks of package compassbig: left (its ends), right. -/
namespace Go.Proofs.YtpalknbmejachaaGreatDoor
open Go.RowKit Cx

theorem bigLeft_nil (ao : Option Addr) (ca sh : Nat) (w : World) :
    Calls Tryz.prog 184 #[.slice ao 0 ca, .int .u64 sh] w fun e w' => e = .returned (.slice none 0 0) ∧ w' = w := by
  go_enter Tryz.func184, Tryz.ntmps184
  go_wp2
  go_ret
  exact ⟨rfl, rfl⟩

/-- left: shifted to the left by less than a limb. -/
theorem bigLeft_calls {w : World} {va : Value} {a sh : Nat} (ha : NatN w va a) (hla : Small a) (hsh : sh < 32) :
    Calls Tryz.prog 184 #[va, .int .u64 sh] w fun e w' => Below w.heap.size w w' ∧ ∃ v, e = .returned v ∧ NatN w' v (a * 2 ^ sh) := by
  obtain ⟨la, ha, ta, rfl⟩ := ha
  obtain ⟨ao, ca, b1, o1, rfl, sa⟩ := ha.sl32
  by_cases h1 : la.length = 0
  · have e1 : la = [] := List.length_eq_zero_iff.mp h1
    subst e1
    refine (bigLeft_nil ao ca sh w).mono ?_
    rintro e w' ⟨rfl, rfl⟩
    exact ⟨Below.refl _ _, _, rfl, [], NatV.nil _ _ _, Or.inl rfl, by simp [val]⟩
  exact bigLeft_walk sa (hla.len ta) h1 hsh

/-- One round of a shift to the right. -/
theorem shr_round (S V l0 A L P r x L1 : Nat) (h : S * V + l0 = A + L * P) (e : S * r + L = x + 4294967296 * L1) : S * (V + P * r) + l0 = A + P * x + L1 * (4294967296 * P) := by
  have h2 : P * (S * r) + P * L = P * x + P * (4294967296 * L1) := by rw [← Nat.mul_add, ← Nat.mul_add, e]
  have h3 : P * (4294967296 * L1) = L1 * (4294967296 * P) := by rw [Nat.mul_left_comm, Nat.mul_comm P L1, Nat.mul_left_comm]
  have h4 : S * (V + P * r) = S * V + P * (S * r) := by rw [Nat.mul_add, Nat.mul_left_comm]
  have h5 : P * L = L * P := Nat.mul_comm _ _
  omega

theorem shr_limb {sh x y : Nat} (hsh : sh < 32) (hx : x < 4294967296) : 2 ^ sh * ((y * 4294967296 + x) / 2 ^ sh % 4294967296) + x % 2 ^ sh = x + 4294967296 * (y % 2 ^ sh) := by
  obtain ⟨t, ht⟩ : ∃ t, 4294967296 = 2 ^ sh * t := ⟨2 ^ (32 - sh), by rw [← Nat.pow_add, show sh + (32 - sh) = 32 from by omega]⟩
  have hS := Nat.two_pow_pos sh
  obtain ⟨S, hSe⟩ : ∃ S, S = 2 ^ sh := ⟨_, rfl⟩
  rw [← hSe] at ht hS ⊢
  have e1 : (y * 4294967296 + x) / S = y * t + x / S := by
    rw [ht, Nat.mul_left_comm, Nat.add_comm, Nat.add_mul_div_left _ _ hS, Nat.add_comm]
  have hxt : x / S < t := (Nat.div_lt_iff_lt_mul hS).2 (by rw [Nat.mul_comm, ← ht]; exact hx)
  have e2 : (y * t + x / S) % 4294967296 = y % S * t + x / S := by
    have hy := Nat.div_add_mod y S
    have e3 : y * t + x / S = (y % S * t + x / S) + 4294967296 * (y / S) := by
      have : y * t = S * (y / S) * t + y % S * t := by rw [← Nat.add_mul, hy]
      have h6 : S * (y / S) * t = 4294967296 * (y / S) := by rw [ht, Nat.mul_right_comm]
      omega
    rw [e3, Nat.add_mul_mod_self_left]
    refine Nat.mod_eq_of_lt ?_
    have h7 : y % S + 1 ≤ S := Nat.mod_lt _ hS
    have h8 := Nat.mul_le_mul_right t h7
    rw [Nat.add_mul, Nat.one_mul, ← ht] at h8
    omega
  rw [e1, e2]
  have hx2 := Nat.div_add_mod x S
  have h9 : S * (y % S * t + x / S) = 4294967296 * (y % S) + S * (x / S) := by
    rw [Nat.mul_add, ht, Nat.mul_left_comm, Nat.mul_comm (y % S)]
  omega

set_option maxHeartbeats 2000000 in
set_option maxRecDepth 100000 in
theorem bigRight_walk {w : World} {ao : Option Addr} {ca b1 o1 sh : Nat} {la : List Nat} (ha : Sl w 67 ao ca la b1 o1) (hla : la.length ≤ 1099511627776) (hne : 0 < la.length) (hsh : sh < 32) :
    Calls Tryz.prog 185 #[.slice ao la.length ca, .int .u64 sh] w fun e w' => Below w.heap.size w w' ∧ ∃ v, e = .returned v ∧ NatN w' v (val la / 2 ^ sh) := by
  have hmk := make_row (t := 67) (by kernel_rfl) la.length (by omega)
  have HA : Hid (Sl w 67 ao ca la b1 o1) := ha
  clear ha
  have xe : ¬ la = [] := by intro e; subst e; simp at hne
  have xd : (sh : Int) / 32 = 0 := by omega
  have xm : (sh : Int) % 32 = sh := by omega
  go_enter Tryz.func185, Tryz.ntmps185
  go_wp2
  go_loopw [8] (fun i wr => ∃ (k : Nat) (cur : List Nat), k ≤ la.length ∧ i = .int .i64 k ∧ Row wr w.heap.size cur ∧ cur.length = la.length ∧ Lim cur ∧ 2 ^ sh * val (cur.take k) + nth la 0 % 2 ^ sh = val (la.take k) + nth la k % 2 ^ sh * pw k ∧ Below w.heap.size w wr) (fun i _ => la.length - (intOf i).toNat)
  case atStart => exact ⟨0, List.replicate la.length 0, Nat.zero_le _, rfl, Row.new _ _, by simp, lim_zeros _, by simp [val, pw], below_new _ _⟩
  case round =>
    obtain ⟨k, cur, hk, rfl, hrow, hcl, hcm, hval, hbel⟩ := hrel
    have HV : Hid (2 ^ sh * val (cur.take k) + nth la 0 % 2 ^ sh = val (la.take k) + nth la k % 2 ^ sh * pw k) := hval
    have HL : Hid (cur.length = la.length) := hcl
    clear hval hcl
    by_cases hlt : k < la.length
    · have hia := HA.out.idx k hlt
      have hca := (hbel.cell (p := ⟨b1, o1 + k, none⟩) (HA.out.lt (by omega))).trans (HA.out.seg k hlt)
      have hxa := nth_lt HA.out.lim k
      have hcc := hrow.cell (j := k) (by rw [HL.out]; omega)
      have hfz := hrow.frozen k
      by_cases hlt2 : k + 1 < la.length
      · have hib : ∀ wx, (Instr.indexAt 67 (.slice ao la.length ca) (.int .i64 ((k : Int) + 1))).run Tryz.prog wx = .ok (.pointer (some ⟨b1, o1 + (k + 1), none⟩)) wx := HA.out.idx (k + 1) hlt2
        have hcb := (hbel.cell (p := ⟨b1, o1 + (k + 1), none⟩) (HA.out.lt (by omega))).trans (HA.out.seg (k + 1) hlt2)
        have hxb := nth_lt HA.out.lim (k + 1)
        have hor := bor_shl (nth la (k + 1)) (nth la k) hxb hxa
        obtain ⟨q, hq⟩ : ∃ q, q = (nth la (k + 1) * 4294967296 + nth la k) / 2 ^ sh := ⟨_, rfl⟩
        have hq1 : ((nth la (k + 1) : Int) * 4294967296 + (nth la k : Int)) / 2 ^ sh = (q : Int) := by rw [hq, Int.natCast_ediv, Int.natCast_pow, Int.natCast_add, Int.natCast_mul]; rfl
        have HQ : Hid (q = (nth la (k + 1) * 4294967296 + nth la k) / 2 ^ sh) := hq
        clear hq
        go_wp2
        go_roundw
        case rel =>
          refine ⟨k + 1, cur.set k (q % 4294967296), by omega, by go_num, hrow.set' _ _ (by go_num), by rw [List.length_set, HL.out], hcm.set (by omega), ?_, hbel.setCell (Nat.le_refl _) _⟩
          rw [val_set_take (by rw [HL.out]; omega), val_take_succ, pw_succ, HQ.out]
          exact shr_round _ _ _ _ _ _ _ _ _ HV.out (shr_limb hsh hxa)
        case measure => simp [intOf]; omega
      · obtain ⟨q, hq⟩ : ∃ q, q = nth la k / 2 ^ sh := ⟨_, rfl⟩
        have hq1 : ((nth la k : Int)) / 2 ^ sh = (q : Int) := by rw [hq, Int.natCast_ediv, Int.natCast_pow]; rfl
        have hql : q < 4294967296 := by rw [hq]; exact Nat.lt_of_le_of_lt (Nat.div_le_self _ _) hxa
        have HQ : Hid (q = nth la k / 2 ^ sh) := hq
        clear hq
        go_wp2
        go_roundw
        case rel =>
          refine ⟨k + 1, cur.set k q, by omega, by go_num, hrow.set' _ _ (by go_num), by rw [List.length_set, HL.out], hcm.set (by omega), ?_, hbel.setCell (Nat.le_refl _) _⟩
          rw [val_set_take (by rw [HL.out]; omega), val_take_succ, pw_succ, nth_beyond (l := la) (k := k + 1) (by omega), HQ.out]
          have h1 := shr_limb (y := 0) hsh hxa
          rw [Nat.zero_mul, Nat.zero_add, Nat.mod_eq_of_lt (Nat.lt_of_le_of_lt (Nat.div_le_self _ _) hxa)] at h1
          exact shr_round _ _ _ _ _ _ _ _ _ HV.out h1
        case measure => simp [intOf]; omega
    · obtain rfl : k = la.length := by omega
      go_wp2_with fail
      refine (bigTrim_row hrow hcm HL.out (by omega)).mono ?_
      rintro e w' ⟨rfl, v', rfl, hv'⟩
      go_wp2
      go_ret
      refine ⟨hbel, v', rfl, ?_⟩
      have h1 := HV.out
      rw [List.take_length, nth_beyond (l := la) (k := la.length) (Nat.le_refl _), Nat.zero_mod, Nat.zero_mul, Nat.add_zero, List.take_of_length_le (by rw [HL.out]; omega)] at h1
      have h2 : val cur = val la / 2 ^ sh := by
        rw [← h1, Nat.mul_add_div (Nat.two_pow_pos _), Nat.div_eq_of_lt (Nat.mod_lt _ (Nat.two_pow_pos _)), Nat.add_zero]
      rw [h2] at hv'
      exact hv'

theorem bigRight_nil (ao : Option Addr) (ca sh : Nat) (w : World) (hsh : sh < 32) :
    Calls Tryz.prog 185 #[.slice ao 0 ca, .int .u64 sh] w fun e w' => e = .returned (.slice none 0 0) ∧ w' = w := by
  have xd : (sh : Int) / 32 = 0 := by omega
  have xm : (sh : Int) % 32 = sh := by omega
  go_enter Tryz.func185, Tryz.ntmps185
  go_wp2
  go_ret
  exact ⟨rfl, rfl⟩

/-- right: shifted to the right by less than a limb. -/
theorem bigRight_calls {w : World} {va : Value} {a sh : Nat} (ha : NatN w va a) (hla : Small a) (hsh : sh < 32) :
    Calls Tryz.prog 185 #[va, .int .u64 sh] w fun e w' => Below w.heap.size w w' ∧ ∃ v, e = .returned v ∧ NatN w' v (a / 2 ^ sh) := by
  obtain ⟨la, ha, ta, rfl⟩ := ha
  obtain ⟨ao, ca, b1, o1, rfl, sa⟩ := ha.sl32
  by_cases h1 : la.length = 0
  · have e1 : la = [] := List.length_eq_zero_iff.mp h1
    subst e1
    refine (bigRight_nil ao ca sh w hsh).mono ?_
    rintro e w' ⟨rfl, rfl⟩
    exact ⟨Below.refl _ _, _, rfl, [], NatV.nil _ _ _, Or.inl rfl, by simp [val]⟩
  exact bigRight_walk sa (hla.len ta) (by omega) hsh

end Go.Proofs.YtpalknbmejachaaGreatDoor
/- Walks of package compassbig: div, its short arms. -/
namespace Go.Proofs.YtpalknbmejachaaGreatDoor
open Go.RowKit Cx

set_option maxHeartbeats 2000000 in
set_option maxRecDepth 100000 in
theorem bigDiv_less {w : World} {ao bo : Option Addr} {ca cb n m a b : Nat} (ha : NatN w (.slice ao n ca) a) (hb : NatN w (.slice bo m cb) b) (sa : Small a) (sb : Small b) (h : a < b) (hm : m ≠ 0) :
    Calls Tryz.prog 153 #[.slice ao n ca, .slice bo m cb] w fun e w' => Below w.heap.size w w' ∧ ∃ v1 v2, e = .returned (.tuple #[v1, v2]) ∧ NatN w' v1 (a / b) ∧ NatN w' v2 (a % b) := by
  have HC : Hid _ := bigCmp_calls ha hb sa sb
  have HA : Hid (NatN w (.slice ao n ca) a) := ha
  have HS : Hid (Small a) := sa
  clear ha hb sa sb
  have xa : ((m : Int) == 0) = false := beq_eq_false_iff_ne.mpr (by omega)
  go_enter Tryz.func153, Tryz.ntmps153
  go_wp2_with fail
  refine Calls.mono HC.out ?_
  rintro e w1 ⟨hb1, c, rfl, hc1, hc2⟩
  have hc : c < 0 := hc1.2 h
  clear hc1 hc2
  go_wp2_with fail
  refine (bigTwin_calls (HA.out.below hb1) HS.out).mono ?_
  rintro e w2 ⟨hb2, v, rfl, hv⟩
  go_wp2
  go_ret2
  exact ⟨hb1.trans (hb2.mono hb1.size), _, _, rfl, by rw [Nat.div_eq_of_lt h]; exact ⟨[], NatV.nil _ _ _, Or.inl rfl, rfl⟩, by rw [Nat.mod_eq_of_lt h]; exact hv⟩

set_option maxHeartbeats 2000000 in
set_option maxRecDepth 100000 in
theorem bigDiv_short {w : World} {ao bo : Option Addr} {ca cb n m a b : Nat} (ha : NatN w (.slice ao n ca) a) (hb : NatN w (.slice bo m cb) b) (sa : Small a) (sb : Small b) (h : b ≤ a) (hb0 : 0 < b) (hm : m ≠ 0) (hn : n ≤ 2) (ha64 : a < 18446744073709551616) :
    Calls Tryz.prog 153 #[.slice ao n ca, .slice bo m cb] w fun e w' => Below w.heap.size w w' ∧ ∃ v1 v2, e = .returned (.tuple #[v1, v2]) ∧ NatN w' v1 (a / b) ∧ NatN w' v2 (a % b) := by
  have HC : Hid _ := bigCmp_calls ha hb sa sb
  have HA : Hid (NatN w (.slice ao n ca) a) := ha
  have HB : Hid (NatN w (.slice bo m cb) b) := hb
  clear ha hb sa sb
  have xa : ((m : Int) == 0) = false := beq_eq_false_iff_ne.mpr (by omega)
  go_enter Tryz.func153, Tryz.ntmps153
  go_wp2_with fail
  refine Calls.mono HC.out ?_
  rintro e w1 ⟨hbl, c, rfl, hc1, hc2⟩
  have hc : ¬ c < 0 := fun h => by have := hc1.1 h; omega
  clear hc1 hc2
  go_wp2_with fail
  refine (bigPlain_calls (HA.out.below hbl) ha64).mono ?_
  rintro e w2 ⟨rfl, hw2⟩
  have hw3 := hw2.symm; subst hw3; clear hw2
  go_wp2_with fail
  refine (bigPlain_calls (HB.out.below hbl) (by omega)).mono ?_
  rintro e w2 ⟨rfl, hw2⟩
  have hw3 := hw2.symm; subst hw3; clear hw2
  have hq : (a : Int) / (b : Int) = ((a / b : Nat) : Int) := (Int.natCast_ediv _ _).symm
  have hr : (a : Int) % (b : Int) = ((a % b : Nat) : Int) := (Int.natCast_emod _ _).symm
  have lq : a / b < 18446744073709551616 := Nat.lt_of_le_of_lt (Nat.div_le_self _ _) ha64
  have lr : a % b < 18446744073709551616 := Nat.lt_of_le_of_lt (Nat.mod_le _ _) ha64
  have HLQ : Hid (a / b < 18446744073709551616) := lq
  have HLR : Hid (a % b < 18446744073709551616) := lr
  obtain ⟨q, hqq⟩ : ∃ q, q = a / b := ⟨_, rfl⟩
  obtain ⟨r, hrr⟩ : ∃ r, r = a % b := ⟨_, rfl⟩
  rw [← hqq] at hq HLQ
  rw [← hrr] at hr HLR
  clear lq lr
  have HE : Hid (q = a / b ∧ r = a % b) := And.intro hqq hrr
  have hwq : IntKind.u64.wrap (q : Int) = (q : Int) := by rw [IntKind.wrap_u64]; have := HLQ.out; omega
  have hwr : IntKind.u64.wrap (r : Int) = (r : Int) := by rw [IntKind.wrap_u64]; have := HLR.out; omega
  have htm : (a : Int).tmod (b : Int) = (r : Int) := by rw [Int.tmod_eq_emod_of_nonneg (by omega)]; exact hr
  clear hqq hrr
  go_wp2_with fail
  go_region_with (first
    | (go_at_call_of 108 (Value.int IntKind.u64 (q : Int)); refine (bigWords_calls q _ HLQ.out).mono ?_; rintro e w3 ⟨hb3, v1, rfl, hv1⟩)
    | (go_at_call_of 108 (Value.int IntKind.u64 (r : Int)); refine (bigWords_calls r _ HLR.out).mono ?_; rintro e w4 ⟨hb4, v2, rfl, hv2⟩))
  all_goals
    go_wp2
    go_ret2
    have hb5 : Below w.heap.size w w3 := (Below.drew hbl).trans (hb3.mono (by exact hbl.size))
    have hb6 : Below w.heap.size w w4 := hb5.trans (hb4.mono hb5.size)
    rw [HE.out.1] at hv1
    rw [HE.out.2] at hv2
    exact ⟨hb6, v1, v2, rfl, hv1.below hb4, hv2⟩

set_option maxHeartbeats 2000000 in
set_option maxRecDepth 100000 in
theorem bigDiv_limb {w : World} {ao bo : Option Addr} {ca cb n a x b2 o2 : Nat} (ha : NatN w (.slice ao n ca) a) (hb : Sl w 67 bo cb [x] b2 o2) (hbn : NatN w (.slice bo 1 cb) x) (sa : Small a) (sb : Small x) (h : x ≤ a) (hx0 : 0 < x) (hn : 3 ≤ n) :
    Calls Tryz.prog 153 #[.slice ao n ca, .slice bo 1 cb] w fun e w' => Below w.heap.size w w' ∧ ∃ v1 v2, e = .returned (.tuple #[v1, v2]) ∧ NatN w' v1 (a / x) ∧ NatN w' v2 (a % x) := by
  have hx : x < 4294967296 := hb.lim.head
  have hia : ∀ wx, (Instr.indexAt 67 (.slice bo 1 cb) (.int .i64 0)).run Tryz.prog wx = .ok (.pointer (some ⟨b2, o2, none⟩)) wx := hb.idx 0 (by simp)
  have hca : w.cell? ⟨b2, o2, none⟩ = some (.int .u32 (x : Int)) := hb.seg 0 (by simp)
  have hlt : b2 < w.heap.size := hb.lt (by simp)
  have HC : Hid _ := bigCmp_calls ha hbn sa sb
  have HA : Hid (NatN w (.slice ao n ca) a) := ha
  have HS : Hid (Small a) := sa
  clear ha hbn sa sb hb
  go_enter Tryz.func153, Tryz.ntmps153
  go_wp2_with fail
  refine Calls.mono HC.out ?_
  rintro e w1 ⟨hbl, c, rfl, hc1, hc2⟩
  have hc : ¬ c < 0 := fun h => by have := hc1.1 h; omega
  clear hc1 hc2
  have hca1 := (hbl.cell (p := ⟨b2, o2, none⟩) hlt).trans hca
  clear hca
  go_wp2_with fail
  refine (bigSmall_calls (HA.out.below hbl) HS.out hx0 hx).mono ?_
  rintro e w2 ⟨hb2, v1, rfl, hv1⟩
  have lr : a % x < 4294967296 := Nat.lt_trans (Nat.mod_lt _ hx0) hx
  obtain ⟨r, hr⟩ : ∃ r, r = a % x := ⟨_, rfl⟩
  rw [← hr] at lr
  have hr2 : (a : Int) % (x : Int) = (r : Int) := by rw [hr]; exact (Int.natCast_emod _ _).symm
  have HR : Hid (r = a % x) := hr
  clear hr
  have hrow : Row (w2.alloc (.cells #[.int .u32 (r : Int)] 160)) w2.heap.size [r] := Row.new w2 [r]
  have HV1 : Hid (NatN w2 v1 (a / x)) := hv1
  clear hv1
  go_wp2_with fail
  refine (bigTrim_row hrow (n := 1) (Lim.cons (by omega) Lim.nil) rfl (by omega)).mono ?_
  rintro e w' ⟨rfl, v', rfl, hv'⟩
  go_wp2
  go_ret2
  have hb3 : Below w.heap.size w w2 := hbl.trans (hb2.mono hbl.size)
  refine ⟨hb3.trans ((below_new _ _).mono hb3.size), v1, v', rfl, HV1.out.below (below_new _ _), ?_⟩
  rw [← HR.out]
  have e1 : val [r] = r := by simp [val]
  rw [e1] at hv'
  exact hv'

end Go.Proofs.YtpalknbmejachaaGreatDoor
