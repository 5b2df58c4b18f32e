/- Part 4 of the walks of the packages num, way, ruler, line and plane, and of the mathematics under them: BJ. -/
import Derived.Test.YtpalknbmejachaaGreatDoorA3
import Derived.Test.YtpalknbmejachaaGreatDoorA1
/- Walks of package compassbig: div, common. -/
namespace Go.Proofs.YtpalknbmejachaaGreatDoor
open Go.RowKit Cx

/-- div: quotient and rest. -/
theorem bigDiv_calls {w : World} {va vb : Value} {a b : Nat} (ha : NatN w va a) (hb : NatN w vb b) (sa : Small a) (sb : Small b) (hb0 : 0 < b) :
    Calls Tryz.prog 153 #[va, vb] w fun e w' => Below w.heap.size w w' ∧ ∃ v1 v2, e = .returned (.tuple #[v1, v2]) ∧ NatN w' v1 (a / b) ∧ NatN w' v2 (a % b) := by
  have ha' := ha
  have hb' := hb
  obtain ⟨la, hla, ta, rfl⟩ := ha
  obtain ⟨lb, hlb, tb, rfl⟩ := hb
  obtain ⟨ao, ca, b1, o1, rfl, sla⟩ := hla.sl32
  obtain ⟨bo, cb, b2, o2, rfl, slb⟩ := hlb.sl32
  have hm : lb.length ≠ 0 := fun e => by
    rw [List.length_eq_zero_iff.1 e, val_nil] at hb0
    omega
  by_cases h : val la < val lb
  · exact bigDiv_less ha' hb' sa sb h hm
  · have hle : val lb ≤ val la := by omega
    have hA := sa.len ta
    have hB := sb.len tb
    by_cases hn : la.length ≤ 2
    · refine bigDiv_short ha' hb' sa sb hle hb0 hm hn ?_
      have h1 := val_lt sla.lim
      have h2 := pw_le hn
      have h3 : pw 2 = 18446744073709551616 := by decide
      omega
    · by_cases h1 : lb.length = 1
      · obtain ⟨x, hx⟩ := List.length_eq_one_iff.1 h1
        subst hx
        have e1 : val [x] = x := by simp [val]
        rw [e1] at *
        exact bigDiv_limb ha' slb hb' sa sb hle hb0 (by omega)
      · obtain ⟨m, hmm⟩ : ∃ m, lb.length = m + 2 := ⟨lb.length - 2, by omega⟩
        have ht : nth lb (m + 1) ≠ 0 := by
          rcases tb with e | e
          · rw [e] at hm; simp at hm
          · rw [hmm] at e; exact e
        refine bigDiv_long sla.lim ha' slb hb' hmm ht (by omega) ?_ (sa.len0 ta) sa sb hle
        exact len_le tb (Nat.lt_of_le_of_lt hle (val_lt sla.lim))
theorem big_len {w : World} {v : Value} {n : Nat} (h : NatN w v n) : ∃ ao len cap, v = .slice ao len cap ∧ len ≤ 9223372036854775807 ∧ (2 < len ↔ 18446744073709551616 ≤ n) ∧ (len = 0 ↔ n = 0) := by
  obtain ⟨l, hl, t, rfl⟩ := h
  have h4 : pw 2 = 18446744073709551616 := by simp [pw]
  have hz : l.length = 0 ↔ val l = 0 := by
    constructor
    · intro h; rw [List.length_eq_zero_iff.1 h]; rfl
    · intro h; rw [trim_val_zero t h]; rfl
  have hb : 2 < l.length ↔ 18446744073709551616 ≤ val l := by
    constructor
    · intro h
      have h1 := trim_pos t (by intro e; rw [e] at h; simp at h)
      have h2 := pw_le (show 2 ≤ l.length - 1 by omega)
      omega
    · intro h
      rcases Nat.lt_or_ge 2 l.length with hc | hc
      · exact hc
      · have h1 := val_lt hl.1
        have h2 := pw_le hc
        omega
  obtain ⟨hlim, ⟨rfl, ao, cap, rfl⟩ | ⟨b, off, cap, rfl, hc, hm, hlt, hs⟩⟩ := hl
  · exact ⟨ao, 0, cap, rfl, by omega, hb, hz⟩
  · unfold maxLen at hm
    exact ⟨_, l.length, cap, rfl, by omega, hb, hz⟩

theorem small_of {a b : Nat} (h : Small a) (hb : b ≤ a) : Small b := ⟨Nat.lt_of_le_of_lt hb h.lt⟩

set_option maxHeartbeats 8000000 in
set_option maxRecDepth 100000 in
/-- common: the greatest divisor of both. -/
theorem bigCommon_calls {w : World} {va vb : Value} {a b : Nat} (ha : NatN w va a) (hb : NatN w vb b) (sa : Small a) (sb : Small b) :
    Calls Tryz.prog 152 #[va, vb] w fun e w' => Below w.heap.size w w' ∧ ∃ v, e = .returned v ∧ NatN w' v (Nat.gcd a b) := by
  have HA := hideIt2 ha
  have HB := hideIt2 hb
  have SA := hideIt2 sa
  have SB := hideIt2 sb
  clear ha hb sa sb
  go_enter Tryz.func152, Tryz.ntmps152
  go_wp2
  go_loopg [0, 1] b (fun k x y wr => ∃ A B : Nat, NatN wr x A ∧ NatN wr y B ∧ Nat.gcd A B = Nat.gcd a b ∧ B ≤ k ∧ Small A ∧ Small B ∧ Below w.heap.size w wr)
  case atStart => exact ⟨a, b, HA.out, HB.out, rfl, Nat.le_refl _, SA.out, SB.out, Below.refl _ _⟩
  case round =>
    obtain ⟨A, B, hA, hB, hg, hk, sA, sB, hbl⟩ := hrel
    have HHA := hideIt2 hA
    have HHB := hideIt2 hB
    have HG := hideIt2 hg
    have HSA := hideIt2 sA
    have HSB := hideIt2 sB
    have HBL := hideIt2 hbl
    obtain ⟨bo, n, cb, rfl, hnm, hbig, hnz⟩ := big_len hB
    have HN := hideIt2 (And.intro hbig hnz)
    clear hA hB hg sA sB hbig hnz hbl
    by_cases h2 : 2 < n
    · have hB0 : 0 < B := by have := HN.out.1.1 h2; omega
      go_wp2_with fail
      refine (bigDiv_calls HHA.out HHB.out HSA.out HSB.out hB0).mono ?_
      rintro e w2 ⟨hb2, v1, v2, rfl, hv1, hv2⟩
      have HV2 := hideIt2 hv2
      have HB2 := hideIt2 (HBL.out.trans (hb2.mono HBL.out.size))
      have HHB2 := hideIt2 (HHB.out.below hb2)
      clear hv1 hv2 hb2
      go_wp2
      go_roundg (A % B)
      case measure => have := Nat.mod_lt A hB0; omega
      case rel =>
        exact ⟨B, A % B, HHB2.out, HV2.out, by rw [← HG.out, Nat.gcd_comm B, ← Nat.gcd_rec, Nat.gcd_comm], Nat.le_refl _, HSB.out, small_of HSB.out (Nat.le_of_lt (Nat.mod_lt _ hB0)), HB2.out⟩
    · by_cases h0 : n = 0
      · have hB0 : B = 0 := HN.out.2.1 h0
        subst h0
        subst hB0
        have HAV : Hid (NatN wr u0 A ∧ A = Nat.gcd a b) := ⟨HHA.out, by have := HG.out; rw [Nat.gcd_zero_right] at this; exact this⟩
        go_wp2
        go_ret
        exact ⟨HBL.out, _, rfl, by rw [← HAV.out.2]; exact HAV.out.1⟩
      · have xn : ((n : Int) == 0) = false := beq_eq_false_iff_ne.mpr (by omega)
        have hB0 : 0 < B := by
          rcases Nat.eq_zero_or_pos B with h | h
          · exact absurd (HN.out.2.2 h) h0
          · exact h
        have HBS : Hid (B < 18446744073709551616) := by
          show _ < _
          have := HN.out.1
          omega
        obtain ⟨xo, nx, cx, hx, hxm, hxbig, hxnz⟩ := big_len HHA.out
        subst hx
        have HNX := hideIt2 (And.intro hxbig hxnz)
        clear hxbig hxnz
        by_cases h3 : 2 < nx
        · go_wp2_with fail
          refine (bigDiv_calls HHA.out HHB.out HSA.out HSB.out hB0).mono ?_
          rintro e w2 ⟨hb2, v1, v2, rfl, hv1, hv2⟩
          have HV2 := hideIt2 hv2
          have HB2 := hideIt2 (HBL.out.trans (hb2.mono HBL.out.size))
          have HHB2 := hideIt2 (HHB.out.below hb2)
          have HGM : Hid (Nat.gcd B (A % B) = Nat.gcd a b) := by rw [← HG.out, Nat.gcd_comm B, ← Nat.gcd_rec, Nat.gcd_comm]; rfl
          have HMS : Hid (A % B < 18446744073709551616) := Nat.lt_trans (Nat.mod_lt _ hB0) HBS.out
          clear hv1 hv2 hb2
          go_wp2_with fail
          refine (bigPlain_calls HHB2.out HBS.out).mono ?_
          rintro e wz ⟨rfl, hz⟩
          have hz2 := hz.symm; subst hz2; clear hz
          go_wp2_with fail
          refine (bigPlain_calls HV2.out HMS.out).mono ?_
          rintro e wz ⟨rfl, hz⟩
          have hz2 := hz.symm; subst hz2; clear hz
          have la1 := HBS.out
          have lb1 := HMS.out
          go_wp2
          go_loopw [9, 10] (fun x y wy => ∃ X Y q : Nat, x = .int .u64 X ∧ y = .int .u64 Y ∧ X < 18446744073709551616 ∧ Y < 18446744073709551616 ∧ Nat.gcd X Y = Nat.gcd a b ∧ wy = w2.drewN q) (fun _ y _ => (intOf y).toNat)
          case atStart => exact ⟨B, (A % B), 0, rfl, rfl, la1, lb1, HGM.out, rfl⟩
          case round =>
            obtain ⟨X, Y, q, rfl, rfl, hX, hY, hg, rfl⟩ := hrel
            have HGG : Hid (Nat.gcd X Y = Nat.gcd a b) := hg
            clear hg
            by_cases h0 : Y = 0
            · subst h0
              go_wp2_with fail
              refine (bigWords_calls X _ hX).mono ?_
              rintro e w9 ⟨hb9, v9, rfl, hv9⟩
              have hgz := HGG.out
              rw [Nat.gcd_zero_right] at hgz
              rw [hgz] at hv9
              have HV9 : Hid (NatN w9 v9 (Nat.gcd a b)) := hv9
              have hbq : Below w.heap.size w (w2.drewN q) := belowDrewN HB2.out _
              have HB9 : Hid (Below w.heap.size w w9) := hbq.trans (hb9.mono hbq.size)
              clear hv9 hgz hbq
              go_wp2
              go_ret
              exact ⟨HB9.out, v9, rfl, HV9.out⟩
            · have hne : ((Y : Int) != 0) = true := by rw [bne_iff_ne]; omega
              have hpos : 0 < Y := by omega
              go_wp2
              go_quiet (fail)
              go_wp2
              go_roundw
              case rel =>
                have e : ((X % Y : Nat) : Int) = (X : Int) % (Y : Int) := Int.natCast_emod _ _
                exact ⟨Y, X % Y, _, rfl, by rw [e], hY, Nat.lt_trans (Nat.mod_lt _ hpos) hY, by rw [← HGG.out, Nat.gcd_comm Y, ← Nat.gcd_rec, Nat.gcd_comm], World.drewN_drewN _ _ _⟩
              case measure =>
                have e : ((X % Y : Nat) : Int) = (X : Int) % (Y : Int) := Int.natCast_emod _ _
                have := Nat.mod_lt X hpos
                simp only [intOf, ← e]
                simp
                omega
        · have HAS : Hid (A < 18446744073709551616) := by
            show _ < _
            have := HNX.out.1
            omega
          go_wp2_with fail
          refine (bigPlain_calls HHA.out HAS.out).mono ?_
          rintro e wz ⟨rfl, hz⟩
          have hz2 := hz.symm; subst hz2; clear hz
          go_wp2_with fail
          refine (bigPlain_calls HHB.out HBS.out).mono ?_
          rintro e wz ⟨rfl, hz⟩
          have hz2 := hz.symm; subst hz2; clear hz
          have la1 := HAS.out
          have lb1 := HBS.out
          go_wp2
          go_loopw [9, 10] (fun x y wy => ∃ X Y q : Nat, x = .int .u64 X ∧ y = .int .u64 Y ∧ X < 18446744073709551616 ∧ Y < 18446744073709551616 ∧ Nat.gcd X Y = Nat.gcd a b ∧ wy = wr.drewN q) (fun _ y _ => (intOf y).toNat)
          case atStart => exact ⟨A, B, 0, rfl, rfl, la1, lb1, HG.out, rfl⟩
          case round =>
            obtain ⟨X, Y, q, rfl, rfl, hX, hY, hg, rfl⟩ := hrel
            have HGG : Hid (Nat.gcd X Y = Nat.gcd a b) := hg
            clear hg
            by_cases h0 : Y = 0
            · subst h0
              go_wp2_with fail
              refine (bigWords_calls X _ hX).mono ?_
              rintro e w9 ⟨hb9, v9, rfl, hv9⟩
              have hgz := HGG.out
              rw [Nat.gcd_zero_right] at hgz
              rw [hgz] at hv9
              have HV9 : Hid (NatN w9 v9 (Nat.gcd a b)) := hv9
              have hbq : Below w.heap.size w (wr.drewN q) := belowDrewN HBL.out _
              have HB9 : Hid (Below w.heap.size w w9) := hbq.trans (hb9.mono hbq.size)
              clear hv9 hgz hbq
              go_wp2
              go_ret
              exact ⟨HB9.out, v9, rfl, HV9.out⟩
            · have hne : ((Y : Int) != 0) = true := by rw [bne_iff_ne]; omega
              have hpos : 0 < Y := by omega
              go_wp2
              go_quiet (fail)
              go_wp2
              go_roundw
              case rel =>
                have e : ((X % Y : Nat) : Int) = (X : Int) % (Y : Int) := Int.natCast_emod _ _
                exact ⟨Y, X % Y, _, rfl, by rw [e], hY, Nat.lt_trans (Nat.mod_lt _ hpos) hY, by rw [← HGG.out, Nat.gcd_comm Y, ← Nat.gcd_rec, Nat.gcd_comm], World.drewN_drewN _ _ _⟩
              case measure =>
                have e : ((X % Y : Nat) : Int) = (X : Int) % (Y : Int) := Int.natCast_emod _ _
                have := Nat.mod_lt X hpos
                simp only [intOf, ← e]
                simp
                omega
end Go.Proofs.YtpalknbmejachaaGreatDoor
