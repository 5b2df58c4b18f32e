/- Part 12 of the walks and of the mathematics under them: MathX MathZ AWP AWI WI WJ WK WL WM WN AWQ WPA WO WQ WP WAN WS WT WU MathY WV WW WBT WSD WMI WFR WR AWF XA XB XC XD XE XF XG XH AWG AWR. -/
import Derived.Test.YtgajdmadbdbabaaGreatDoorA6
import Derived.Test.YtgajdmadbdbabaaGreatDoorA11
import Derived.Deep.Cut
import Derived.Test.YtgajdmadbdbabaaGreatDoorA10
set_option maxHeartbeats 16000000
set_option maxRecDepth 100000
/- MathX -/
namespace Cx
open Go
def gN (qs : List Rat) : Nat := qs.foldl (fun g q => Nat.gcd g q.num.natAbs) 0
def lD (qs : List Rat) : Nat := qs.foldl (fun m q => m * (q.den / Nat.gcd m q.den)) 1
def fb : List Rat → Bool
  | [] => false
  | q :: r => if q.num = 0 then fb r else decide (q.num < 0)
def pl (G M : Nat) (flip : Bool) (q : Rat) : Rat := ((sg (decide (q.num < 0) != flip) (q.num.natAbs / G * (M / q.den)) : Int) : Rat)
def plain (qs : List Rat) : List Rat := qs.map (pl (gN qs) (lD qs) (fb qs))
theorem gN_take {qs : List Rat} {k : Nat} (h : k < qs.length) : gN (qs.take (k + 1)) = Nat.gcd (gN (qs.take k)) (qs[k]).num.natAbs := by
  unfold gN; rw [List.take_succ_eq_append_getElem h, List.foldl_append]; rfl
theorem lD_take {qs : List Rat} {k : Nat} (h : k < qs.length) : lD (qs.take (k + 1)) = lD (qs.take k) * ((qs[k]).den / Nat.gcd (lD (qs.take k)) (qs[k]).den) := by
  unfold lD; rw [List.take_succ_eq_append_getElem h, List.foldl_append]; rfl
theorem lD_pos (qs : List Rat) : 0 < lD qs := by
  unfold lD
  have : ∀ (l : List Rat) (m : Nat), 0 < m → 0 < l.foldl (fun m q => m * (q.den / Nat.gcd m q.den)) m := by
    intro l
    induction l with
    | nil => intro m h; exact h
    | cons q l ih =>
      intro m h
      refine ih _ (Nat.mul_pos h ?_)
      exact Nat.div_pos (Nat.le_of_dvd (Nat.pos_of_ne_zero q.den_nz) (Nat.gcd_dvd_right _ _)) (Nat.gcd_pos_of_pos_left _ h)
  exact this qs 1 (by decide)
theorem foldg_dvd (l : List Rat) (g : Nat) : (l.foldl (fun g q => Nat.gcd g q.num.natAbs) g) ∣ g ∧ ∀ q ∈ l, (l.foldl (fun g q => Nat.gcd g q.num.natAbs) g) ∣ q.num.natAbs := by
  induction l generalizing g with
  | nil => exact ⟨Nat.dvd_refl _, fun q hq => by simp at hq⟩
  | cons a l ih =>
    obtain ⟨h1, h2⟩ := ih (Nat.gcd g a.num.natAbs)
    refine ⟨Nat.dvd_trans h1 (Nat.gcd_dvd_left _ _), fun q hq => ?_⟩
    rcases List.mem_cons.1 hq with rfl | hq
    · exact Nat.dvd_trans h1 (Nat.gcd_dvd_right _ _)
    · exact h2 q hq
theorem gN_dvd {qs : List Rat} {q : Rat} (h : q ∈ qs) : gN qs ∣ q.num.natAbs := (foldg_dvd qs 0).2 q h
theorem foldl_dvd (l : List Rat) (m : Nat) : m ∣ (l.foldl (fun m q => m * (q.den / Nat.gcd m q.den)) m) ∧ ∀ q ∈ l, q.den ∣ (l.foldl (fun m q => m * (q.den / Nat.gcd m q.den)) m) := by
  induction l generalizing m with
  | nil => exact ⟨Nat.dvd_refl _, fun q hq => by simp at hq⟩
  | cons a l ih =>
    obtain ⟨h1, h2⟩ := ih (m * (a.den / Nat.gcd m a.den))
    refine ⟨Nat.dvd_trans (Nat.dvd_mul_right _ _) h1, fun q hq => ?_⟩
    rcases List.mem_cons.1 hq with rfl | hq
    · refine Nat.dvd_trans ?_ h1
      have : Nat.gcd m q.den ∣ m := Nat.gcd_dvd_left _ _
      obtain ⟨c, hc⟩ := this
      obtain ⟨d, hd⟩ := Nat.gcd_dvd_right m q.den
      have hg : 0 < Nat.gcd m q.den := Nat.gcd_pos_of_pos_right _ (Nat.pos_of_ne_zero q.den_nz)
      generalize Nat.gcd m q.den = g at *
      rw [hd, Nat.mul_div_cancel_left _ hg, hc]
      exact ⟨c, by grind⟩
    · exact h2 q hq
theorem lD_dvd {qs : List Rat} {q : Rat} (h : q ∈ qs) : q.den ∣ lD qs := (foldl_dvd qs 1).2 q h
theorem gN_pos {qs : List Rat} {q : Rat} (h : q ∈ qs) (h0 : q.num ≠ 0) : 0 < gN qs := by
  rcases Nat.eq_zero_or_pos (gN qs) with e | e
  · have := gN_dvd h
    rw [e] at this
    have := Nat.eq_zero_of_zero_dvd this
    omega
  · exact e
theorem gN_lt {K : Nat} {qs : List Rat} (h : ∀ q ∈ qs, Go.Proofs.YtgajdmadbdbabaaGreatDoor.QS K q) : gN qs < 2 ^ K := by
  rcases Nat.eq_zero_or_pos (gN qs) with e | e
  · rw [e]; exact Nat.pow_pos (by decide)
  · have : ∃ q ∈ qs, q.num ≠ 0 := by
      apply Classical.byContradiction
      intro hno
      have hall : ∀ q ∈ qs, q.num = 0 := fun q hq => Classical.byContradiction fun hn => hno ⟨q, hq, hn⟩
      have hz : ∀ (l : List Rat), (∀ q ∈ l, q.num = 0) → l.foldl (fun g q => Nat.gcd g q.num.natAbs) 0 = 0 := by
        intro l
        induction l with
        | nil => intro _; rfl
        | cons a l ih =>
          intro hl
          rw [List.foldl_cons, hl a (List.mem_cons_self ..)]
          exact ih fun q hq => hl q (List.mem_cons_of_mem _ hq)
      have := hz qs hall
      unfold gN at e
      omega
    obtain ⟨q, hq, hn⟩ := this
    exact Nat.lt_of_le_of_lt (Nat.le_of_dvd (by omega) (gN_dvd hq)) (h q hq).num
theorem lD_le {K : Nat} {qs : List Rat} (h : ∀ q ∈ qs, Go.Proofs.YtgajdmadbdbabaaGreatDoor.QS K q) : ∀ k, lD (qs.take k) ≤ 2 ^ (k * K)
  | 0 => by simp [lD]
  | k + 1 => by
    have ih := lD_le h k
    by_cases hk : k < qs.length
    · rw [lD_take hk, Nat.succ_mul, Nat.pow_add]
      refine Nat.mul_le_mul ih (Nat.le_trans (Nat.div_le_self _ _) (Nat.le_of_lt (h _ (List.getElem_mem hk)).den))
    · rw [List.take_of_length_le (by omega)]
      rw [List.take_of_length_le (by omega)] at ih
      exact Nat.le_trans ih (Nat.pow_le_pow_right (by decide) (by rw [Nat.succ_mul]; omega))
theorem pl_zero (G M : Nat) (flip : Bool) {q : Rat} (h : q.num = 0) : pl G M flip q = 0 := by
  unfold pl
  rw [h]
  simp [sg]
def fac (qs : List Rat) : Rat := mkRat (sg (fb qs) (lD qs)) (gN qs)
theorem pl_mul {qs : List Rat} {q : Rat} (h : q ∈ qs) : pl (gN qs) (lD qs) (fb qs) q = q * fac qs := by
  by_cases h0 : q.num = 0
  · rw [pl_zero _ _ _ h0, Rat.num_eq_zero.1 h0, Rat.zero_mul]
  · have hg := gN_pos h h0
    obtain ⟨a, ha⟩ := gN_dvd h
    obtain ⟨b, hb⟩ := lD_dvd h
    have hd : 0 < q.den := Nat.pos_of_ne_zero q.den_nz
    unfold pl fac
    generalize gN qs = G at *
    generalize lD qs = M at *
    rw [ha, Nat.mul_div_cancel_left _ hg, hb, Nat.mul_div_cancel_left _ hd]
    have eq : q = mkRat (sg (decide (q.num < 0)) (G * a)) q.den := by rw [← ha, sg_num, Rat.mkRat_self]
    have e1 : ((sg (decide (q.num < 0) != fb qs) (a * b) : Int) : Rat) = mkRat (sg (decide (q.num < 0) != fb qs) (a * b)) 1 := (Rat.mkRat_one _).symm
    rw [e1]
    conv => rhs; lhs; rw [eq]
    rw [Rat.mkRat_mul_mkRat, Rat.mkRat_eq_iff (by decide) (Nat.mul_ne_zero q.den_nz (by omega))]
    generalize decide (q.num < 0) = s
    generalize fb qs = t
    have c1 : ((q.den * G : Nat) : Int) = (q.den : Int) * G := Int.natCast_mul _ _
    rw [c1]
    have m1 : ((a * b : Nat) : Int) = (a : Int) * b := Int.natCast_mul _ _
    have m2 : ((G * a : Nat) : Int) = (G : Int) * a := Int.natCast_mul _ _
    have m3 : ((q.den * b : Nat) : Int) = (q.den : Int) * b := Int.natCast_mul _ _
    generalize (q.den : Int) = D at *
    cases s <;> cases t <;> simp only [sg, bne_self_eq_false, Bool.false_eq_true, if_false, if_true, m1, m2, m3, Bool.true_bne, Bool.false_bne, Bool.not_false] <;> grind
theorem fac_ne {qs : List Rat} {q : Rat} (h : q ∈ qs) (h0 : q ≠ 0) : fac qs ≠ 0 := by
  have hn : q.num ≠ 0 := fun e => h0 (Rat.num_eq_zero.1 e)
  have hg := gN_pos h hn
  have hl := lD_pos qs
  unfold fac
  intro e
  rw [Rat.mkRat_eq_zero (by omega)] at e
  cases fb qs <;> simp [sg] at e <;> omega
end Cx
/- MathZ -/
namespace Cx
theorem least_factor : ∀ (n : Nat), 1 < n → ∃ p, 1 < p ∧ p ∣ n ∧ ∀ m, m ∣ p → m = 1 ∨ m = p := by
  intro n
  induction n using Nat.strongRecOn with
  | ind n ih =>
    intro hn
    by_cases h : ∃ m, m ∣ n ∧ m ≠ 1 ∧ m ≠ n
    · obtain ⟨m, hm, h1, h2⟩ := h
      have hpos : 0 < m := Nat.pos_of_dvd_of_pos hm (by omega)
      have hle := Nat.le_of_dvd (by omega) hm
      obtain ⟨p, hp1, hp2, hp3⟩ := ih m (by omega) (by omega)
      exact ⟨p, hp1, Nat.dvd_trans hp2 hm, hp3⟩
    · refine ⟨n, hn, Nat.dvd_refl _, fun m hm => ?_⟩
      by_cases h1 : m = 1
      · exact Or.inl h1
      · by_cases h2 : m = n
        · exact Or.inr h2
        · exact absurd ⟨m, hm, h1, h2⟩ h
theorem factor_mul {p a b : Nat} (hp : ∀ m, m ∣ p → m = 1 ∨ m = p) (h : p ∣ a * b) : p ∣ a ∨ p ∣ b := by
  rcases hp _ (Nat.gcd_dvd_left p a) with h1 | h1
  · exact Or.inr (Nat.Coprime.dvd_of_dvd_mul_left h1 h)
  · exact Or.inl (h1 ▸ Nat.gcd_dvd_right p a)
theorem foldg_great (c : Nat) : ∀ (l : List Rat) (g : Nat), c ∣ g → (∀ q ∈ l, c ∣ q.num.natAbs) → c ∣ l.foldl (fun g q => Nat.gcd g q.num.natAbs) g
  | [], _, hg, _ => hg
  | q :: l, _, hg, h => foldg_great c l _ (Nat.dvd_gcd hg (h q List.mem_cons_self)) (fun r hr => h r (List.mem_cons_of_mem _ hr))
theorem gN_great {qs : List Rat} {c : Nat} (h : ∀ q ∈ qs, c ∣ q.num.natAbs) : c ∣ gN qs := foldg_great c qs 0 (Nat.dvd_zero c) h
theorem foldl_least (c : Nat) : ∀ (l : List Rat) (m : Nat), m ∣ c → (∀ q ∈ l, q.den ∣ c) → l.foldl (fun m q => m * (q.den / Nat.gcd m q.den)) m ∣ c
  | [], _, hm, _ => hm
  | q :: l, m, hm, h => foldl_least c l _ (by
      have e : m * (q.den / Nat.gcd m q.den) = Nat.lcm m q.den := by
        rw [Nat.lcm, Nat.mul_div_assoc _ (Nat.gcd_dvd_right m q.den)]
      show m * (q.den / Nat.gcd m q.den) ∣ c
      rw [e]
      exact Nat.lcm_dvd hm (h q List.mem_cons_self)) (fun r hr => h r (List.mem_cons_of_mem _ hr))
theorem lD_least {qs : List Rat} {c : Nat} (h : ∀ q ∈ qs, q.den ∣ c) : lD qs ∣ c := foldl_least c qs 1 (Nat.one_dvd c) h
theorem plain_coprime {qs : List Rat} {q0 : Rat} (h0 : q0 ∈ qs) (hz : q0.num ≠ 0) {d : Nat} (hd : ∀ q ∈ qs, d ∣ q.num.natAbs / gN qs * (lD qs / q.den)) : d = 1 := by
  have hG := gN_pos h0 hz
  have hM := lD_pos qs
  by_cases h1 : d = 1
  · exact h1
  exfalso
  have hd0 : d ≠ 0 := by
    rintro rfl
    have h := Nat.eq_zero_of_zero_dvd (hd q0 h0)
    rcases Nat.mul_eq_zero.1 h with h | h
    · have h2 := Nat.div_mul_cancel (gN_dvd h0)
      rw [h, Nat.zero_mul] at h2
      omega
    · have h2 := Nat.div_mul_cancel (lD_dvd h0)
      rw [h, Nat.zero_mul] at h2
      omega
  obtain ⟨p, hp1, hpd, hp⟩ := least_factor d (by omega)
  have hpv : ∀ q ∈ qs, p ∣ q.num.natAbs / gN qs * (lD qs / q.den) := fun q hq => Nat.dvd_trans hpd (hd q hq)
  -- one whose cofactor p does not divide
  have hj : ∃ q ∈ qs, ¬ p ∣ lD qs / q.den := by
    refine Classical.byContradiction fun hn => ?_
    have hall : ∀ q ∈ qs, p ∣ lD qs / q.den := fun q hq => Classical.byContradiction fun h => hn ⟨q, hq, h⟩
    have hpM : p ∣ lD qs := Nat.dvd_trans (hall q0 h0) ⟨q0.den, (Nat.div_mul_cancel (lD_dvd h0)).symm⟩
    obtain ⟨m, hm⟩ := hpM
    have hl : lD qs ∣ m := lD_least fun q hq => by
      obtain ⟨c, hc⟩ := hall q hq
      have e := Nat.div_mul_cancel (lD_dvd hq)
      rw [hc, hm, Nat.mul_assoc] at e
      exact ⟨c, by rw [Nat.mul_comm]; exact (Nat.eq_of_mul_eq_mul_left (by omega) e).symm⟩
    have hmpos : 0 < m := by
      rcases Nat.eq_zero_or_pos m with h | h
      · rw [h, Nat.mul_zero] at hm; omega
      · exact h
    have hle := Nat.le_of_dvd hmpos hl
    rw [hm] at hle
    have : 2 * m ≤ p * m := Nat.mul_le_mul_right m (by omega)
    omega
  obtain ⟨q, hq, hpq⟩ := hj
  have hnum : p ∣ q.num.natAbs / gN qs := (factor_mul hp (hpv q hq)).resolve_right hpq
  have hnum2 : p ∣ q.num.natAbs := Nat.dvd_trans hnum ⟨gN qs, (Nat.div_mul_cancel (gN_dvd hq)).symm⟩
  have hden : ¬ p ∣ q.den := fun h => by
    have := Nat.dvd_gcd hnum2 h
    rw [q.reduced] at this
    have := Nat.le_of_dvd (by omega) this
    omega
  have hM2 : ¬ p ∣ lD qs := fun h => by
    rw [← Nat.div_mul_cancel (lD_dvd hq)] at h
    exact (factor_mul hp h).elim hpq hden
  have hall : ∀ r ∈ qs, p * gN qs ∣ r.num.natAbs := fun r hr => by
    have hnr : ¬ p ∣ lD qs / r.den := fun h => hM2 (Nat.dvd_trans h ⟨r.den, (Nat.div_mul_cancel (lD_dvd hr)).symm⟩)
    have h := (factor_mul hp (hpv r hr)).resolve_right hnr
    have h2 := Nat.mul_dvd_mul_right h (gN qs)
    rwa [Nat.div_mul_cancel (gN_dvd hr)] at h2
  have h := Nat.le_of_dvd hG (gN_great hall)
  have : 2 * gN qs ≤ p * gN qs := Nat.mul_le_mul_right _ (by omega)
  omega
end Cx
/- AWP -/
namespace Cx
theorem sg_natAbs (b : Bool) (n : Nat) : (sg b n).natAbs = n := by cases b <;> simp [sg]
theorem pl_num (G M : Nat) (f : Bool) (q : Rat) : (pl G M f q).num = sg (decide (q.num < 0) != f) (q.num.natAbs / G * (M / q.den)) ∧ (pl G M f q).den = 1 := ⟨rfl, rfl⟩
theorem fac_den {qs : List Rat} {q : Rat} (h : q ∈ qs) : (q * fac qs).den = 1 := by
  rw [← pl_mul h]
  exact (pl_num _ _ _ _).2
theorem fac_abs {qs : List Rat} {q : Rat} (h : q ∈ qs) : (q * fac qs).num.natAbs = q.num.natAbs / gN qs * (lD qs / q.den) := by
  rw [← pl_mul h, (pl_num _ _ _ _).1, sg_natAbs]
theorem fac_gcd {qs : List Rat} {q0 : Rat} (h0 : q0 ∈ qs) (hz : q0 ≠ 0) : gN (qs.map (fun q => q * fac qs)) = 1 := by
  refine plain_coprime h0 (fun e => hz (Rat.num_eq_zero.1 e)) fun q hq => ?_
  rw [← fac_abs hq]
  exact gN_dvd (List.mem_map.2 ⟨q, hq, rfl⟩)
theorem fb_first : ∀ {qs : List Rat} {j : Nat} (hj : j < qs.length), (∀ (i : Nat) (hi : i < qs.length), i < j → qs[i] = 0) → qs[j] ≠ 0 → fb qs = decide (qs[j].num < 0)
  | [], _, hj, _, _ => absurd hj (Nat.not_lt_zero _)
  | q :: r, 0, _, _, h => by
    have hn : q.num ≠ 0 := fun e => h (Rat.num_eq_zero.1 e)
    show (if q.num = 0 then fb r else decide (q.num < 0)) = decide (q.num < 0)
    rw [if_neg hn]
  | q :: r, j + 1, hj, hz, h => by
    have h0 : q = 0 := hz 0 (by simp) (by omega)
    have hn : q.num = 0 := by rw [h0]; rfl
    show (if q.num = 0 then fb r else decide (q.num < 0)) = _
    rw [if_pos hn]
    exact fb_first (qs := r) (j := j) (by simpa using hj) (fun i hi hij => hz (i + 1) (by simpa using hi) (by omega)) h
theorem fac_sign {qs : List Rat} {j : Nat} (hj : j < qs.length) (hz : ∀ (i : Nat) (hi : i < qs.length), i < j → qs[i] = 0) (h : qs[j] ≠ 0) : 0 < (qs[j] * fac qs).num := by
  have hm := List.getElem_mem hj
  have hne : qs[j] * fac qs ≠ 0 := fun e => (Rat.mul_eq_zero.1 e).elim h (fac_ne hm h)
  have hnn : (qs[j] * fac qs).num ≠ 0 := fun e => hne (Rat.num_eq_zero.1 e)
  rw [← pl_mul hm] at hnn ⊢
  rw [(pl_num _ _ _ _).1, fb_first hj hz h, bne_self_eq_false] at hnn ⊢
  simp only [sg, Bool.false_eq_true, if_false] at hnn ⊢
  omega
end Cx
namespace Go.Proofs.YtgajdmadbdbabaaGreatDoor
open Go.RowKit Cx
structure PlainOk (qs : List Rat) : Prop where
  den : ∀ q ∈ qs, q.den = 1
  gcd : gN qs = 1
  sgn : ∀ (j : Nat) (hj : j < qs.length), (∀ (i : Nat) (hi : i < qs.length), i < j → qs[i] = 0) → qs[j] ≠ 0 → 0 < (qs[j]).num
theorem plain_fac {qs : List Rat} {q0 : Rat} (h0 : q0 ∈ qs) (hz : q0 ≠ 0) : PlainOk (qs.map (fun q => q * fac qs)) where
  den := fun q hq => by
    obtain ⟨p, hp, rfl⟩ := List.mem_map.1 hq
    exact fac_den hp
  gcd := fac_gcd h0 hz
  sgn := fun j hj hi hne => by
    have hj' : j < qs.length := by simpa using hj
    rw [List.getElem_map] at hne ⊢
    have hf := fac_ne h0 hz
    refine fac_sign hj' (fun i hi' hij => ?_) (fun e => hne (by rw [e, Rat.zero_mul]))
    have := hi i (by simpa using hi') hij
    rw [List.getElem_map] at this
    exact (Rat.mul_eq_zero.1 this).resolve_right hf
theorem plain_two {a b : Rat} (h : ¬ (a = 0 ∧ b = 0)) {x y : Rat} (ex : x = a * fac [a, b]) (ey : y = b * fac [a, b]) : PlainOk [x, y] := by
  subst ex ey
  by_cases ha : a = 0
  · exact plain_fac (qs := [a, b]) (q0 := b) (by simp) (fun e => h ⟨ha, e⟩)
  · exact plain_fac (qs := [a, b]) (q0 := a) (by simp) ha
theorem en_compassref_Plain (vs : Array Value) (w : World) : (callFunc 91 vs).run Tryz.prog w = .ok (.enter 91 vs) w := enters Tryz.func91 (by kernel_rfl) (by kernel_rfl) vs w
theorem con_Plain2 {s c : ByteArray} {x y : Rat} {k : Nat} (hs : TX k s y) (hc : TX k c x) (rs : right s) (rc : right c) (hk : 2 * k + 4 ≤ 4294967280) (hP : PlainOk [x, y]) : ConS Tryz.prog Pre 91 [RowS 22 2 [Tx s, Tx c], RowS 3 1 [In (1 : Int)]] (Bo true) := fun w vs hp hall => by
  obtain ⟨v0, v1, rfl, h1, h2⟩ := allS_two hall
  obtain ⟨G, cs, rfl, hk2, hall2⟩ := h2
  obtain ⟨u, rfl, hu⟩ := all2_one hall2
  cases hu
  have hrow := srow_of (ss := [s, c]) h1
  have hrow' := hrow
  obtain ⟨b', off, cap, rfl, _⟩ := hrow
  have e1 := hc.rd
  have e2 := hs.rd
  have hx : x ≠ 0 → 0 < x.num := fun h => hP.sgn 0 (by simp) (fun i hi' h => absurd h (Nat.not_lt_zero _)) h
  refine (refPlainA_walk (ss := [s, c]) 1 (by simp) (hk2.cell 0) hk2.lt (fun h => by
      show 0 < (Cx.rd c.data.toList).num
      rw [e1]
      exact hx (fun q => h (by show Cx.rd c.data.toList = 0; rw [e1, q]))) hrow' hp.2 (by simp [Nat.le_trans hs.sz hk, Nat.le_trans hc.sz hk]) (by simp) (by simp [rs, rc]) (K := k) (by simp [hs.qsr, hc.qsr]) (by omega) ?_ ?_ ?_).mono ?_
  · have := hP.den
    simp only [List.mem_cons, List.not_mem_nil, or_false, forall_eq_or_imp, forall_eq] at this ⊢
    rw [e1, e2]
    exact ⟨this.2, this.1⟩
  · have := hP.gcd
    unfold gN at this
    unfold gcds
    simp only [List.foldl_cons, List.foldl_nil, Nat.gcd_zero_left] at this ⊢
    rw [e1, e2, Nat.gcd_comm]
    exact this
  · intro hz j hj hi hne
    have hz' : x = 0 := by rw [← e1]; exact hz
    match j, hj with
    | 0, _ =>
      refine e2 ▸ hP.sgn 1 (by simp) (fun i hi' h => ?_) (e2 ▸ hne)
      have : i = 0 := by omega
      subst this
      exact hz'
    | 1, _ => exact absurd hz hne
  · rintro _ w' ⟨hb, rfl⟩
    exact ⟨hb, _, rfl, rfl⟩
end Go.Proofs.YtgajdmadbdbabaaGreatDoor
/- AWI -/
namespace Go.Proofs.YtgajdmadbdbabaaGreatDoor
open Go.RowKit Cx
theorem plain_ne2 {a b x y : Rat} (h : ¬ (a = 0 ∧ b = 0)) (ex : x = a * fac [a, b]) (ey : y = b * fac [a, b]) : ¬ (x = 0 ∧ y = 0) := by
  subst ex ey
  intro ⟨h1, h2⟩
  have hf : fac [a, b] ≠ 0 := by
    by_cases ha : a = 0
    · exact fac_ne (q := b) (by simp) (fun e => h ⟨ha, e⟩)
    · exact fac_ne (q := a) (by simp) ha
  exact h ⟨(Rat.mul_eq_zero.1 h1).resolve_right hf, (Rat.mul_eq_zero.1 h2).resolve_right hf⟩
theorem con_isT_yes {s c : ByteArray} {rs rc : Rat} {k : Nat} (ts : TX k s rs) (tc : TX k c rc) (hs : 2 * k + 4 ≤ 4294967280) (h : ¬ (rc = 0 ∧ rs = 0)) : Con Tryz.prog Pre 53 [P2 s c] (Bo true) := by
  by_cases h1 : rs = 0
  · exact con_isT_t2 ts tc hs h1 (fun e => h ⟨e, h1⟩)
  · exact con_isT_t1 ts tc hs h1
theorem con_isT_no {s c : ByteArray} {rs rc : Rat} {k : Nat} (ts : TX k s rs) (tc : TX k c rc) (hs : 2 * k + 4 ≤ 4294967280) (h : rc = 0 ∧ rs = 0) : Con Tryz.prog Pre 53 [P2 s c] (Bo false) := con_isT_f ts tc hs h.2 h.1
theorem en_compasslaw_plainT (vs : Array Value) (w : World) : (callFunc 55 vs).run Tryz.prog w = .ok (.enter 55 vs) w := enters Tryz.func55 (by kernel_rfl) (by kernel_rfl) vs w
theorem con_plainT {s c : ByteArray} {rs rc : Rat} {k : Nat} (ts : TX k s rs) (tc : TX k c rc) (gs : right s) (gc : right c) (_ : 2 * k + 4 ≤ 4294967280) (hn : ¬ (rc = 0 ∧ rs = 0)) (hP : PlainOk [rc, rs]) :
    Con Tryz.prog Pre 55 [Agg [Tx s, Tx c]] (Bo true) := by
  refine con_of (n := 14) Tryz.func55 rfl rfl (Nat.le_of_ble_eq_true rfl) ?_
  intro w a0 hp S0
  have HPRE : ∀ w', Below w.heap.size w w' → Pre w' := fun w' hb => hp.below hb
  refine wp_seq ?_
  refine region_abs [.alloc 67 (Agg [Tx s, Tx c]), .pure (Bo false)] ⟨S0, by decide +kernel⟩ (by kernel_rfl) (by kernel_rfl) rfl (by kernel_rfl) ?_ ?_
  · intro C
    refine ASteps.cons ?_ (ASteps.cons ?_ (ASteps.nil))
    · exact step_box rfl rfl (want_none rfl) rfl (no_fill (by kernel_rfl)) (opn_old C 0 (by kernel_rfl) rfl) (boxes_T (cok2 (nl_tx s) (nl_tx c)))
    · exact step_assign rfl rfl (want_none rfl) rfl (opn_const _)
  intro γ a1 w1 S1
  replace S1 : AS w 14 [(2, Bo false), (1, Jus (.pointer (some ⟨γ 0, 0, none⟩)))] [(γ 0, 67, Agg [Tx s, Tx c])] a1 w1 := cast (by kernel_rfl) (S1.keep [1, 2])
  generalize γ 0 = G1_0 at S1
  clear S0
  refine then_normal ?_
  refine wp_seq ?_
  refine region_abs [.pure (Agg [Tx s, Tx c]), .pure (Bo true), .pure (Bo true), .pure (Jus (.pointer (some ⟨G1_0, 0, none⟩))), .pure (Tx s), .pure (Jus (.pointer (some ⟨G1_0, 1, none⟩))), .pure (Tx c), .soft (RowS 22 2 [Tx s, Tx c]), .soft (RowS 3 1 [In (1)]), .pure (Bo true), .pure (Bo true), .pure (Bo true)] ⟨S1, by decide +kernel⟩ (by kernel_rfl) (by kernel_rfl) rfl (by kernel_rfl) ?_ ?_
  · intro C
    refine ASteps.cons ?_ (ASteps.cons ?_ (ASteps.cons ?_ (ASteps.cons ?_ (ASteps.cons ?_ (ASteps.cons ?_ (ASteps.cons ?_ (ASteps.cons ?_ (ASteps.cons ?_ (ASteps.cons ?_ (ASteps.cons ?_ (ASteps.cons ?_ (ASteps.nil))))))))))))
    · exact step_load (k := 0) rfl rfl rfl (want_none rfl) rfl (opn_old C 1 (by kernel_rfl) rfl) (no_over (by kernel_rfl)) loads_T
    · exact step_call HPRE rfl rfl (want_none rfl) rfl en_compasslaw_isT (Opns.cons (opn_new C 0 0 rfl rfl rfl rfl rfl rfl) Opns.nil) (con_isT_yes ts tc (by first | decide | omega) hn)
    · exact step_move rfl rfl (want_none rfl) rfl (opn_new C 1 0 rfl rfl rfl rfl rfl rfl)
    · exact step_fieldAddr rfl rfl (want_yes C 2 0 true rfl rfl rfl rfl rfl rfl rfl) rfl (opn_old C 1 (by kernel_rfl) rfl) (field_T_0 _)
    · exact step_loadF (k := 0) rfl rfl rfl (want_yes C 2 1 true rfl rfl rfl rfl rfl rfl rfl) rfl (opn_new C 3 0 rfl rfl rfl rfl rfl rfl) (no_over (by kernel_rfl)) (part_agg rfl one_Q)
    · exact step_fieldAddr rfl rfl (want_yes C 2 0 true rfl rfl rfl rfl rfl rfl rfl) rfl (opn_old C 1 (by kernel_rfl) rfl) (field_T_1 _)
    · exact step_loadF (k := 0) rfl rfl rfl (want_yes C 2 1 true rfl rfl rfl rfl rfl rfl rfl) rfl (opn_new C 5 0 rfl rfl rfl rfl rfl rfl) (no_over (by kernel_rfl)) (part_agg rfl one_Q)
    · exact step_bslice rfl rfl (want_yes C 2 2 true rfl rfl rfl rfl rfl rfl rfl) rfl (Opns.cons (opn_new C 4 0 rfl rfl rfl rfl rfl rfl) (Opns.cons (opn_new C 6 1 rfl rfl rfl rfl rfl rfl) Opns.nil)) (bslice_Q2 _ _)
    · exact step_bslice rfl rfl (want_yes C 2 0 true rfl rfl rfl rfl rfl rfl rfl) rfl (Opns.cons (opn_const _) Opns.nil) (bslice_I1 _)
    · exact step_callS HPRE rfl rfl (want_yes C 2 2 true rfl rfl rfl rfl rfl rfl rfl) rfl en_compassref_Plain (OpnsS.cons (opn_soft C 7 0 rfl rfl rfl rfl rfl rfl (by kernel_rfl)) (OpnsS.cons (opn_soft C 8 1 rfl rfl rfl rfl rfl rfl (by kernel_rfl)) OpnsS.nil)) (con_Plain2 ts tc gs gc (by first | decide | omega) hP)
    · exact step_pick true rfl rfl (want_none rfl) rfl (opn_new C 2 0 rfl rfl rfl rfl rfl rfl) (opn_new C 9 1 rfl rfl rfl rfl rfl rfl)
    · exact step_assign rfl rfl (want_none rfl) rfl (opn_new C 10 0 rfl rfl rfl rfl rfl rfl)
  intro γ a2 w2 S2
  replace S2 : AS w 14 [(2, Bo true)] [(G1_0, 67, Agg [Tx s, Tx c])] a2 w2 := cast (by kernel_rfl) (S2.keep [2])
  clear S1
  refine then_normal ?_
  refine wp_ret ?_
  exact S2.ret 0 rfl rfl fun v hv => ⟨S2.bel, v, rfl, hv⟩
end Go.Proofs.YtgajdmadbdbabaaGreatDoor
/- WI -/
namespace Go.Proofs.YtgajdmadbdbabaaGreatDoor
open Go.RowKit Cx
attribute [local go_sem ↓] Go.wp_at_zero Go.wp_at_succ
end Go.Proofs.YtgajdmadbdbabaaGreatDoor
/- WJ -/
namespace Go.Proofs.YtgajdmadbdbabaaGreatDoor
open Go.RowKit Cx
attribute [local go_sem ↓] Go.wp_at_zero Go.wp_at_succ
end Go.Proofs.YtgajdmadbdbabaaGreatDoor
/- WK -/
namespace Go.Proofs.YtgajdmadbdbabaaGreatDoor
open Go.RowKit Cx
attribute [local go_sem ↓] Go.wp_at_zero Go.wp_at_succ
theorem qv_parts {w : World} {c : C3} {q : Rat} (h : QV w (.agg #[.bool c.n, .slice c.u c.nu c.cu, .slice c.l c.nl c.cl]) q) :
    c.n = decide (q.num < 0) ∧ NatN w (.slice c.u c.nu c.cu) q.num.natAbs ∧ NatN w (.slice c.l c.nl c.cl) (if q.den = 1 then 0 else q.den) := by
  obtain ⟨vu, vl, e, h1, h2⟩ := h
  simp only [Value.agg.injEq, Array.mk.injEq, List.cons.injEq, Value.bool.injEq, and_true] at e
  obtain ⟨e0, e1, e2⟩ := e
  subst e1
  subst e2
  exact ⟨e0, h1, h2⟩
theorem fb_drop {qs : List Rat} : ∀ {k : Nat}, (∀ j (hj : j < qs.length), j < k → (qs[j]'hj).num = 0) → fb qs = fb (qs.drop k) := by
  induction qs with
  | nil => intro k _; simp
  | cons q r ih =>
    intro k h
    match k with
    | 0 => rfl
    | k + 1 =>
      have h0 := h 0 (by simp) (by omega)
      rw [List.drop_succ_cons]
      have h0' : q.num = 0 := h0
      rw [fb, if_pos h0']
      exact ih fun j hj hk => h (j + 1) (by simpa using hj) (by omega)
theorem firstBelow_walk {w : World} {b off cap : Nat} {qs : List Rat} (h : QRow w (.slice (some ⟨b, off, none⟩) qs.length cap) qs) (hn : qs.length ≤ 1000000) :
    Calls Tryz.prog 195 #[.slice (some ⟨b, off, none⟩) qs.length cap] w fun e w' => Below w.heap.size w w' ∧ e = .returned (.bool (fb qs)) := by
  have HR := hideIt h
  clear h
  obtain ⟨r, hr⟩ : ∃ r, r = fb qs := ⟨_, rfl⟩
  rw [← hr]
  have HRR := hideIt hr
  clear hr
  go_enter Tryz.func195, Tryz.ntmps195
  go_wp2
  go_loopw [7] (fun i wr => ∃ k : Nat, k ≤ qs.length ∧ i = .int .i64 (k : Int) ∧ (∀ j (hj : j < qs.length), j < k → (qs[j]'hj).num = 0) ∧ Below w.heap.size w wr) (fun i _ => qs.length - (intOf i).toNat)
  case atStart => exact ⟨0, Nat.zero_le _, rfl, fun j _ h => absurd h (by omega), Below.refl _ _⟩
  case round =>
    obtain ⟨k, hkl, rfl, hz, hbel⟩ := hrel
    have HZ := hideIt hz
    clear hz
    by_cases hend : k = qs.length
    · subst hend
      go_wp2
      go_ret
      refine ⟨hbel, ?_⟩
      rw [HRR.out, fb_drop HZ.out, List.drop_length]
      rfl
    · have hlt : k < qs.length := by omega
      have hidx := qrow_idx (b := b) (off := off) (cap := cap) hlt
      obtain ⟨b', off', cap', e, hbl, hcells⟩ := HR.out
      cases e
      obtain ⟨d, d0, d1, d2, hd⟩ := hcells k hlt
      have HD := hideIt (hd.below hbel)
      have z0 := (hbel.cell (p := ⟨b, off + k * 3, none⟩) hbl).trans d0
      have z1 := (hbel.cell (p := ⟨b, off + k * 3 + 1, none⟩) hbl).trans d1
      have z2 := (hbel.cell (p := ⟨b, off + k * 3 + 2, none⟩) hbl).trans d2
      have hsz' := hideIt hbel.size
      obtain ⟨hn1, _, _⟩ := qv_parts hd
      have HN := hideIt hn1
      clear d0 d1 d2 hd hcells hn1
      go_wp2_with fail
      have hbn := below_new wr (.cells #[.bool d.n, .slice d.u d.nu d.cu, .slice d.l d.nl d.cl] 84)
      have hkn := Blk.new wr #[.bool d.n, .slice d.u d.nu d.cu, .slice d.l d.nl d.cl] 84
      refine (sign_calls (HD.out.below hbn)).mono ?_
      rintro e w2 ⟨hb2, rfl⟩
      have hk2 := hkn.below hb2 hkn.lt
      obtain ⟨y0, y1, y2, _, _, _⟩ := hk2.all3
      have hbw := hbel.trans ((hbn.trans (hb2.mono hbn.size)).mono hsz'.out)
      by_cases h0 : (qs[k]'hlt).num = 0
      · rw [if_pos h0]
        have H0 := hideIt h0
        clear h0
        go_wp2
        go_roundw
        case rel =>
          refine ⟨k + 1, hlt, by go_num, fun j hj hjk => ?_, hbw⟩
          by_cases e : j = k
          · subst e; exact H0.out
          · exact HZ.out j hj (by omega)
        case measure => simp [intOf]; omega
      · rw [if_neg h0]
        have hne : ((if (qs[k]'hlt).num < 0 then (-1 : Int) else 1) != 0) = true := by split <;> rfl
        generalize (if (qs[k]'hlt).num < 0 then (-1 : Int) else 1) = z at *
        have H0 := hideIt h0
        clear h0
        go_wp2
        go_ret
        refine ⟨hbw, ?_⟩
        rw [HRR.out, fb_drop HZ.out, List.drop_eq_getElem_cons hlt, fb, if_neg H0.out, HN.out]
        rfl
theorem firstBelow_calls {w : World} {v : Value} {qs : List Rat} (h : QRow w v qs) (hn : qs.length ≤ 1000000) :
    Calls Tryz.prog 195 #[v] w fun e w' => Below w.heap.size w w' ∧ e = .returned (.bool (fb qs)) := by
  have h' := h
  obtain ⟨b, off, cap, rfl, _⟩ := h
  exact firstBelow_walk h' hn
def QBlk (w : World) (g : Nat) (qs : List Rat) : Prop :=
  ∃ cs : Array Value, Blk w g cs 84 ∧ cs.all notLimb = true ∧ cs.size = qs.length * 3 ∧ ∀ (j : Nat) (hj : j < qs.length), ∃ c : C3,
    cs[j * 3]? = some (.bool c.n) ∧ cs[j * 3 + 1]? = some (.slice c.u c.nu c.cu) ∧ cs[j * 3 + 2]? = some (.slice c.l c.nl c.cl) ∧ QV w (.agg #[.bool c.n, .slice c.u c.nu c.cu, .slice c.l c.nl c.cl]) (qs[j]'hj)
theorem QBlk.lt {w : World} {g : Nat} {qs : List Rat} (h : QBlk w g qs) : g < w.heap.size := by
  obtain ⟨cs, h, _⟩ := h
  exact h.lt
theorem QBlk.below {w w' : World} {g : Nat} {qs : List Rat} (h : QBlk w g qs) (hb : Below w.heap.size w w') : QBlk w' g qs := by
  obtain ⟨cs, h1, h2, h3, h4⟩ := h
  refine ⟨cs, h1.below hb h1.lt, h2, h3, fun j hj => ?_⟩
  obtain ⟨c, e0, e1, e2, hq⟩ := h4 j hj
  exact ⟨c, e0, e1, e2, hq.below hb⟩
theorem QBlk.row {w : World} {g : Nat} {qs : List Rat} (h : QBlk w g qs) (cap : Nat) : QRow w (.slice (some ⟨g, 0, none⟩) qs.length cap) qs := by
  obtain ⟨cs, h1, h2, h3, h4⟩ := h
  refine ⟨g, 0, cap, rfl, h1.lt, fun j hj => ?_⟩
  obtain ⟨c, e0, e1, e2, hq⟩ := h4 j hj
  exact ⟨c, by rw [Nat.zero_add, h1.cell]; exact e0, by rw [Nat.zero_add, h1.cell]; exact e1, by rw [Nat.zero_add, h1.cell]; exact e2, hq⟩
theorem QBlk.facts {w : World} {g : Nat} {qs : List Rat} (h : QBlk w g qs) {k : Nat} (hk : k < qs.length) :
    ∃ c : C3, w.cell? ⟨g, k * 3, none⟩ = some (.bool c.n) ∧ w.cell? ⟨g, k * 3 + 1, none⟩ = some (.slice c.u c.nu c.cu) ∧ w.cell? ⟨g, k * 3 + 2, none⟩ = some (.slice c.l c.nl c.cl) ∧ w.frozen? ⟨g, k * 3, none⟩ = false ∧ w.frozen? ⟨g, k * 3 + 1, none⟩ = false ∧ w.frozen? ⟨g, k * 3 + 2, none⟩ = false := by
  obtain ⟨cs, h1, h2, h3, h4⟩ := h
  obtain ⟨c, e0, e1, e2, _⟩ := h4 k hk
  exact ⟨c, by rw [h1.cell]; exact e0, by rw [h1.cell]; exact e1, by rw [h1.cell]; exact e2, h1.frozen _, h1.frozen _, h1.frozen _⟩
theorem QBlk.put {w : World} {g : Nat} {qs : List Rat} (h : QBlk w g qs) {k : Nat} (hk : k < qs.length) {d : C3} {q : Rat} (hq : QV w (.agg #[.bool d.n, .slice d.u d.nu d.cu, .slice d.l d.nl d.cl]) q) :
    QBlk (((w.setCell ⟨g, k * 3, none⟩ (.bool d.n)).setCell ⟨g, k * 3 + 1, none⟩ (.slice d.u d.nu d.cu)).setCell ⟨g, k * 3 + 2, none⟩ (.slice d.l d.nl d.cl)) g (qs.set k q) ∧ Stays w (((w.setCell ⟨g, k * 3, none⟩ (.bool d.n)).setCell ⟨g, k * 3 + 1, none⟩ (.slice d.u d.nu d.cu)).setCell ⟨g, k * 3 + 2, none⟩ (.slice d.l d.nl d.cl)) := by
  obtain ⟨cs, h1, h2, h3, h4⟩ := h
  have b1 := h1.set (k * 3) (.bool d.n)
  have b2 := b1.set (k * 3 + 1) (.slice d.u d.nu d.cu)
  have b3 := b2.set (k * 3 + 2) (.slice d.l d.nl d.cl)
  have a1 := all_set h2 (k * 3) (v := .bool d.n) rfl
  have a2 := all_set a1 (k * 3 + 1) (v := .slice d.u d.nu d.cu) rfl
  have a3 := all_set a2 (k * 3 + 2) (v := .slice d.l d.nl d.cl) rfl
  have hst := ((Stays.set h1 h2 (k * 3) (.bool d.n)).trans (Stays.set b1 a1 (k * 3 + 1) (.slice d.u d.nu d.cu))).trans (Stays.set b2 a2 (k * 3 + 2) (.slice d.l d.nl d.cl))
  refine ⟨⟨_, b3, a3, by simp [h3], fun j hj => ?_⟩, hst⟩
  have hj' : j < qs.length := by simpa using hj
  by_cases e : j = k
  · subst e
    refine ⟨d, ?_, ?_, ?_, ?_⟩
    · simp [Array.getElem?_setIfInBounds, h3]; omega
    · simp [Array.getElem?_setIfInBounds, h3]; omega
    · simp [Array.getElem?_setIfInBounds, h3]; omega
    · rw [List.getElem_set_self]; exact hst.qv hq
  · obtain ⟨c, e0, e1, e2, hc⟩ := h4 j hj'
    refine ⟨c, ?_, ?_, ?_, ?_⟩
    · simp only [Array.getElem?_setIfInBounds]
      rw [if_neg (by omega), if_neg (by omega), if_neg (by omega)]; exact e0
    · simp only [Array.getElem?_setIfInBounds]
      rw [if_neg (by omega), if_neg (by omega), if_neg (by omega)]; exact e1
    · simp only [Array.getElem?_setIfInBounds]
      rw [if_neg (by omega), if_neg (by omega), if_neg (by omega)]; exact e2
    · rw [List.getElem_set_ne (by omega)]; exact hst.qv hc
end Go.Proofs.YtgajdmadbdbabaaGreatDoor
/- WL -/
namespace Go.Proofs.YtgajdmadbdbabaaGreatDoor
open Go.RowKit Cx
attribute [local go_sem ↓] Go.wp_at_zero Go.wp_at_succ
theorem Tryz.infoQ : (Tryz.prog.info? 84).map (fun i => (i.zero, i.size, i.bytes)) = some (some (.agg #[.bool false, .slice none 0 0, .slice none 0 0]), 3, 56) := by kernel_rfl
theorem make_qs (n : Nat) (hn : n ≤ 1000000) (w : World) :
    (Instr.makeSlice 163 (.int .i64 n) (.int .i64 n)).run Tryz.prog w = .ok (.slice (some ⟨w.heap.size, 0, none⟩) n n) (w.alloc (.cells (madeCells #[.bool false, .slice none 0 0, .slice none 0 0] (n * 3)) 84)) := by
  obtain ⟨i, hi, hz0, hz1, hz2⟩ := info_parts Tryz.infoQ
  have h := run_make (P := Tryz.prog) w 163 84 i (.agg #[.bool false, .slice none 0 0, .slice none 0 0]) Tryz.underlying163 hi hz0 .i64 .i64 n n (by omega) (by omega) (by rw [hz2]; omega) (by omega)
  rw [hz1] at h
  simpa [Value.cells] using h
theorem made_at (n j r : Nat) (hj : j < n) (hr : r < 3) : (madeCells #[.bool false, .slice none 0 0, .slice none 0 0] (n * 3))[j * 3 + r]? = #[Value.bool false, .slice none 0 0, .slice none 0 0][r]? := by
  have h1 : j * 3 + r < n * 3 := by omega
  have h2 : (j * 3 + r) % 3 = r := by omega
  match r, hr with
  | 0, _ => simp [madeCells, show j * 3 < n * 3 by omega]
  | 1, _ => simp [madeCells, h1, h2]
  | 2, _ => simp [madeCells, h1, h2]
theorem qblk_made (w : World) (n : Nat) : QBlk (w.alloc (.cells (madeCells #[.bool false, .slice none 0 0, .slice none 0 0] (n * 3)) 84)) w.heap.size (List.replicate n 0) := by
  refine ⟨_, Blk.new _ _ _, ?_, ?_, fun j hj => ?_⟩
  · rw [Array.all_eq_true]
    intro i hi
    have h3 : i % 3 < 3 := Nat.mod_lt _ (by decide)
    simp only [size_madeCells] at hi
    have := made_at n (i / 3) (i % 3) (by omega) h3
    rw [show i / 3 * 3 + i % 3 = i by omega] at this
    obtain ⟨_, e⟩ := Array.getElem?_eq_some_iff.1 (this.trans (Array.getElem?_eq_getElem (by simpa using h3)))
    rw [e]
    match i % 3, h3 with
    | 0, _ => rfl
    | 1, _ => rfl
    | 2, _ => rfl
  · simp [size_madeCells]
  · have hj' : j < n := by simpa using hj
    refine ⟨⟨false, none, 0, 0, none, 0, 0⟩, made_at n j 0 hj' (by decide), made_at n j 1 hj' (by decide), made_at n j 2 hj' (by decide), ?_⟩
    rw [List.getElem_replicate]
    exact qv_zero0 _
theorem Stays.nat {w w' : World} (h : Stays w w') {v : Value} {n : Nat} (k : NatN w v n) : NatN w' v n := by
  have hq : QV w (.agg #[.bool (decide (((n : Nat) : Rat).num < 0)), v, .slice none 0 0]) ((n : Nat) : Rat) := by
    refine ⟨v, .slice none 0 0, rfl, ?_, ?_⟩
    · simpa using k
    · simpa using NatN.nil w none 0
  obtain ⟨vu, vl, e, h1, _⟩ := h.qv hq
  simp only [Value.agg.injEq, Array.mk.injEq, List.cons.injEq, and_true, true_and] at e
  obtain ⟨rfl, _⟩ := e
  simpa using h1
theorem fr_int (neg : Bool) (u : Nat) (hl : (1 : Nat) ≠ 0) (hc : Nat.Coprime u 1) : fr neg u 1 hl hc = ((sg neg u : Int) : Rat) := by
  have := fr_eq (neg := neg) (u := u) (l := 1) (hl := hl) (hc := hc) (n := sg neg u) (d := 1) (by decide) rfl
  rw [this, Rat.mkRat_one]
def mix (qs : List Rat) (k : Nat) : List Rat := (plain qs).take k ++ List.replicate (qs.length - k) 0
theorem plain_len (qs : List Rat) : (plain qs).length = qs.length := by simp [plain]
theorem mix_len (qs : List Rat) (k : Nat) (h : k ≤ qs.length) : (mix qs k).length = qs.length := by
  unfold mix; rw [List.length_append, List.length_take, List.length_replicate, plain_len]; omega
theorem mix_set {qs : List Rat} {k : Nat} (h : k < qs.length) : (mix qs k).set k (pl (gN qs) (lD qs) (fb qs) (qs[k])) = mix qs (k + 1) := by
  unfold mix
  have hl : ((plain qs).take k).length = k := by rw [List.length_take, plain_len]; omega
  rw [List.set_append, if_neg (by omega), hl, Nat.sub_self]
  rw [show qs.length - k = (qs.length - (k + 1)) + 1 by omega, List.replicate_succ, List.set_cons_zero]
  rw [List.take_succ_eq_append_getElem (by rw [plain_len]; exact h), List.append_assoc]
  congr 1
  simp [plain]
theorem mix_same {qs : List Rat} {k : Nat} (h : k < qs.length) (h0 : (qs[k]).num = 0) : mix qs k = mix qs (k + 1) := by
  rw [← mix_set h, pl_zero _ _ _ h0]
  unfold mix
  have hl : ((plain qs).take k).length = k := by rw [List.length_take, plain_len]; omega
  rw [List.set_append, if_neg (by omega), hl, Nat.sub_self]
  rw [show qs.length - k = (qs.length - (k + 1)) + 1 by omega, List.replicate_succ, List.set_cons_zero]
theorem mix_zero (qs : List Rat) : mix qs 0 = List.replicate qs.length 0 := by simp [mix]
theorem mix_all (qs : List Rat) : mix qs qs.length = plain qs := by
  unfold mix; rw [List.take_of_length_le (by rw [plain_len]; exact Nat.le_refl _)]; simp
def NewAt (w : World) (v : Value) : Prop := ∃ b off n cap, v = .slice (some ⟨b, off, none⟩) n cap ∧ w.heap.size ≤ b
theorem plain_walk {w : World} {b off cap : Nat} {qs : List Rat} (h : QRow w (.slice (some ⟨b, off, none⟩) qs.length cap) qs) {K : Nat} (f : ∀ q ∈ qs, QS K q) (hn : qs.length ≤ 1000000) (hk : qs.length * K + K + 2 ≤ 35184372088640) :
    Calls Tryz.prog 145 #[.slice (some ⟨b, off, none⟩) qs.length cap] w fun e w' => Below w.heap.size w w' ∧ ∃ v, e = .returned v ∧ QRow w' v (plain qs) ∧ NewAt w v := by
  have HR := hideIt h
  have F := hideIt f
  have HK := hideIt hk
  clear h f hk
  have SM : Hid (∀ q ∈ qs, Small q.num.natAbs ∧ Small q.den) := fun q hq => ⟨small_two (F.out q hq).num (by have := HK.out; omega), small_two (F.out q hq).den (by have := HK.out; omega)⟩
  have SG : Hid (∀ k, Small (gN (qs.take k))) := fun k => small_two (gN_lt (qs := qs.take k) fun q hq => F.out q (List.mem_of_mem_take hq)) (by have := HK.out; omega)
  have SL : Hid (∀ k, k ≤ qs.length → Small (lD (qs.take k))) := fun k hk => by
    have h1 := lD_le F.out k
    have h2 : k * K ≤ qs.length * K := Nat.mul_le_mul_right _ hk
    exact small_two (k := k * K + 1) (Nat.lt_of_le_of_lt h1 (Nat.pow_lt_pow_right (by decide) (by omega))) (by have := HK.out; omega)
  go_enter Tryz.func145, Tryz.ntmps145
  go_wp2_with fail
  refine (one_calls _).mono ?_
  rintro e w1 ⟨hb1, v1, rfl, hv1⟩
  have HV1 := hideIt hv1
  have HB1 := hideIt hb1
  clear hv1 hb1
  go_wp2
  go_loopw [3, 4, 14] (fun vu vl i wr => ∃ k : Nat, k ≤ qs.length ∧ i = .int .i64 (k : Int) ∧ NatN wr vu (gN (qs.take k)) ∧ NatN wr vl (lD (qs.take k)) ∧ Below w.heap.size w wr) (fun _ _ i _ => qs.length - (intOf i).toNat)
  case atStart =>
    refine ⟨0, Nat.zero_le _, rfl, ?_, ?_, HB1.out⟩
    · exact NatN.nil _ _ _
    · exact HV1.out
  case round =>
    obtain ⟨k, hkl, rfl, hu, hl, hbel⟩ := hrel
    have HU := hideIt hu
    have HL := hideIt hl
    have hsz' := hideIt hbel.size
    clear hu hl
    by_cases hend : k = qs.length
    · subst hend
      have hmk := make_qs qs.length hn
      rw [List.take_length] at HU HL
      go_wp2_with fail
      have hbn := below_new wr (.cells (madeCells #[.bool false, .slice none 0 0, .slice none 0 0] (qs.length * 3)) 84)
      have hqn := qblk_made wr qs.length
      have hbel1 := hbel.trans (hbn.mono hsz'.out)
      refine (firstBelow_calls (HR.out.below hbel1) hn).mono ?_
      rintro e w2 ⟨hb2, rfl⟩
      have HQB := hideIt (hqn.below hb2)
      have hbw := hbn.trans (hb2.mono hbn.size)
      have HU2 := hideIt (HU.out.below hbw)
      have HL2 := hideIt (HL.out.below hbw)
      have hbel2 := hideIt (hbel.trans (hbw.mono hsz'.out))
      clear hqn hmk
      obtain ⟨g, hg⟩ : ∃ g, g = wr.heap.size := ⟨_, rfl⟩
      rw [← hg] at HQB ⊢
      have HGE : Hid (w.heap.size ≤ g) := by rw [hg]; exact hsz'.out
      clear hg hbn hbel1 hb2 hbw
      have HLP : Hid (lD qs ≠ 0) := Nat.ne_of_gt (lD_pos qs)
      have SLA : Hid (Small (lD qs)) := by have := SL.out qs.length (Nat.le_refl _); rwa [List.take_length] at this
      have SGA : Hid (Small (gN qs)) := by have := SG.out qs.length; rwa [List.take_length] at this
      go_wp2
      go_loopw [39] (fun i wx => ∃ k : Nat, k ≤ qs.length ∧ i = .int .i64 (k : Int) ∧ QBlk wx g (mix qs k) ∧ NatN wx u3 (gN qs) ∧ NatN wx u4 (lD qs) ∧ Below w.heap.size w wx) (fun i _ => qs.length - (intOf i).toNat)
      case atStart => exact ⟨0, Nat.zero_le _, rfl, by rw [mix_zero]; exact HQB.out, HU2.out, HL2.out, hbel2.out⟩
      case round =>
        rename World => wx
        obtain ⟨k, hkl, rfl, hqb, hu, hl, hbel⟩ := hrel
        have HQ := hideIt hqb
        have HU := hideIt hu
        have HL := hideIt hl
        have hszx := hideIt hbel.size
        have hgl := hideIt hqb.lt
        clear hqb hu hl
        by_cases hend : k = qs.length
        · subst hend
          go_wp2
          go_ret
          refine ⟨hbel, _, rfl, ?_, ⟨g, _, _, _, rfl, HGE.out⟩⟩
          have := HQ.out.row qs.length
          rw [mix_len _ _ (Nat.le_refl _), mix_all] at this
          exact this
        · have hlt : k < qs.length := by omega
          have hidx := qrow_idx (b := b) (off := off) (cap := cap) hlt
          have hidx2 := qrow_idx (b := g) (off := 0) (cap := qs.length) hlt
          rw [Nat.zero_add] at hidx2
          obtain ⟨b', off', cap', e, hbl, hcells⟩ := HR.out
          cases e
          obtain ⟨d, d0, d1, d2, hd⟩ := hcells k hlt
          have HD := hideIt (hd.below hbel)
          have z0 := (hbel.cell (p := ⟨b, off + k * 3, none⟩) hbl).trans d0
          have z1 := (hbel.cell (p := ⟨b, off + k * 3 + 1, none⟩) hbl).trans d1
          have z2 := (hbel.cell (p := ⟨b, off + k * 3 + 2, none⟩) hbl).trans d2
          have HDU := hideIt (qv_parts (hd.below hbel)).2.1
          have HDN := hideIt (qv_parts (hd.below hbel)).1
          have S1 := hideIt (SM.out _ (List.getElem_mem hlt))
          have HMS := hideIt (mix_set hlt)
          have HM0 := hideIt (fun h => mix_same hlt h)
          have HDV := hideIt (lD_dvd (List.getElem_mem hlt))
          have HGP := hideIt (fun h => gN_pos (List.getElem_mem hlt) h)
          have HML := hideIt (mix_len qs k hkl)
          clear d0 d1 d2 hd hcells
          generalize qs[k]'hlt = q at *
          go_wp2_with fail
          have hbn := below_new wx (.cells #[.bool d.n, .slice d.u d.nu d.cu, .slice d.l d.nl d.cl] 84)
          have hkn := Blk.new wx #[.bool d.n, .slice d.u d.nu d.cu, .slice d.l d.nl d.cl] 84
          refine (sign_calls (HD.out.below hbn)).mono ?_
          rintro e w3 ⟨hb3, rfl⟩
          have hbw := hbn.trans (hb3.mono hbn.size)
          have HK3 := hideIt (hkn.below hb3 hkn.lt)
          have hlt3 : Hid (wx.heap.size < w3.heap.size) := HK3.out.lt
          have HD3 := hideIt (HD.out.below hbw)
          have HU3 := hideIt (HU.out.below hbw)
          have HL3 := hideIt (HL.out.below hbw)
          have HDU3 := hideIt (HDU.out.below hbw)
          have HQ3 := hideIt (HQ.out.below hbw)
          have hbel3 := hideIt (hbel.trans (hbw.mono hszx.out))
          by_cases h0 : q.num = 0
          · rw [if_pos h0]
            have H0 := hideIt h0
            clear h0
            go_wp2
            go_roundw
            case rel =>
              refine ⟨k + 1, hlt, by go_num, ?_, HU3.out, HL3.out, hbel3.out⟩
              rw [← HM0.out H0.out]
              exact HQ3.out
            case measure => simp [intOf]; omega
          · rw [if_neg h0]
            have hne : ((if q.num < 0 then (-1 : Int) else 1) != 0) = true := by split <;> rfl
            generalize (if q.num < 0 then (-1 : Int) else 1) = z at *
            have H0 := hideIt h0
            have hG0 : Hid (0 < gN qs) := HGP.out h0
            have S5 : Hid (Small (q.num.natAbs / gN qs)) := small_le S1.out.1 (Nat.div_le_self _ _)
            have S6 : Hid (Small (lD qs / q.den)) := small_le SLA.out (Nat.div_le_self _ _)
            have hD0 : Hid (0 < q.den) := Nat.pos_of_ne_zero q.den_nz
            clear h0 z0 z1 z2
            obtain ⟨z0, z1, z2, _, _, _⟩ := HK3.out.all3
            go_wp2_with fail
            go_region_held3 (fun w' => w'.cell? ⟨wx.heap.size, 0, none⟩ = some (.bool d.n) ∧ w'.cell? ⟨wx.heap.size, 1, none⟩ = some (.slice d.u d.nu d.cu) ∧ w'.cell? ⟨wx.heap.size, 2, none⟩ = some (.slice d.l d.nl d.cl)) (first | go_keep | exact hs4 | exact hs5 | exact hs6 | exact hs7 | exact hs8 | exact hs9 | exact hkS)
              (first
                | (go_at_call 118; refine (ready_calls (neg := d.n != fb qs) (hv7.below hb8) hv8 (by decide) (Nat.coprime_one_right _)).mono ?_; rintro e w9 ⟨hb9, v9, rfl, hv9⟩; rw [fr_int] at hv9; have hbl9 := hbl8.trans (hb9.mono hbl8.size); have hs9 := (HK3.out.below hbl9 hlt3.out).cells3; obtain ⟨d9, rfl⟩ := qv_open hv9; have hq9 := HQ3.out.below hbl9; obtain ⟨_, x0, x1, x2, y0, y1, y2⟩ := hq9.facts (k := k) (by rw [HML.out]; exact hlt); have hkS := (((HK3.out.below hbl9 hlt3.out).other (g' := g) (Nat.ne_of_lt hgl.out) (k * 3) (.bool d9.n)).other (g' := g) (Nat.ne_of_lt hgl.out) (k * 3 + 1) (.slice d9.u d9.nu d9.cu)).other (g' := g) (Nat.ne_of_lt hgl.out) (k * 3 + 2) (.slice d9.l d9.nl d9.cl) |>.cells3)
                | (go_at_call 120; refine (one_calls _).mono ?_; rintro e w8 ⟨hb8, v8, rfl, hv8⟩; have hbl8 := hbl7.trans (hb8.mono hbl7.size); have hs8 := (HK3.out.below hbl8 hlt3.out).cells3)
                | (go_at_call 152; refine (multiply_calls ((hv4.below hb5).below hb6) hv6 S5.out S6.out).mono ?_; rintro e w7 ⟨hb7, v7, rfl, hv7⟩; have hbl7 := hbl6.trans (hb7.mono hbl6.size); have hs7 := (HK3.out.below hbl7 hlt3.out).cells3)
                | (have hx := hv5; go_at_call 153; refine (over_calls (HL3.out.below hbl5) hv5 SLA.out S1.out.2 hD0.out).mono ?_; rintro e w6 ⟨hb6, v6, rfl, hv6⟩; have hbl6 := hbl5.trans (hb6.mono hbl5.size); have hs6 := (HK3.out.below hbl6 hlt3.out).cells3)
                | (go_at_call 150; refine (lower_calls (HD3.out.below hbl4)).mono ?_; rintro e w5 ⟨hb5, v5, rfl, hv5⟩; have hbl5 := hbl4.trans (hb5.mono hbl4.size); have hs5 := (HK3.out.below hbl5 hlt3.out).cells3)
                | (go_at_call 153; refine (over_calls (w := w3.drew) (HDU3.out.below (Below.drew (Below.refl _ _))) (HU3.out.below (Below.drew (Below.refl _ _))) S1.out.1 SGA.out hG0.out).mono ?_; rintro e w4 ⟨hb4, v4, rfl, hv4⟩; have hbl4 : Below w3.heap.size w3 w4 := (Below.drew (Below.refl _ w3)).trans hb4; have hs4 := (HK3.out.below hbl4 hlt3.out).cells3)
                )
            all_goals
              go_wp2
              go_roundw
              case rel =>
                obtain ⟨hput, hst⟩ := hq9.put (k := k) (by rw [HML.out]; exact hlt) hv9
                have hge := HGE.out
                refine ⟨k + 1, hlt, by go_num, ?_, hst.nat (HU3.out.below hbl9), hst.nat (HL3.out.below hbl9), Below.set (Below.set (Below.set (hbel3.out.trans (hbl9.mono hbel3.out.size)) hge _ _) hge _ _) hge _ _⟩
                rw [← HMS.out]
                have e : ((sg (d.n != fb qs) (q.num.natAbs / gN qs * (lD qs / q.den)) : Int) : Rat) = pl (gN qs) (lD qs) (fb qs) q := by rw [HDN.out]; rfl
                rw [e] at hput
                exact hput
              case measure => simp [intOf]; omega
    · have hlt : k < qs.length := by omega
      have hidx := qrow_idx (b := b) (off := off) (cap := cap) hlt
      obtain ⟨b', off', cap', e, hbl, hcells⟩ := HR.out
      cases e
      obtain ⟨d, d0, d1, d2, hd⟩ := hcells k hlt
      have HD := hideIt (hd.below hbel)
      have z0 := (hbel.cell (p := ⟨b, off + k * 3, none⟩) hbl).trans d0
      have z1 := (hbel.cell (p := ⟨b, off + k * 3 + 1, none⟩) hbl).trans d1
      have z2 := (hbel.cell (p := ⟨b, off + k * 3 + 2, none⟩) hbl).trans d2
      have hdu := (qv_parts (hd.below hbel)).2.1
      have HDU := hideIt hdu
      have S1 := hideIt (SM.out _ (List.getElem_mem hlt))
      have S2 := hideIt (SG.out k)
      have S3 := hideIt (SL.out k hkl)
      have HG := hideIt (gN_take hlt)
      have HLD := hideIt (lD_take hlt)
      clear d0 d1 d2 hd hcells hdu
      have hgp : Hid (0 < Nat.gcd (lD (qs.take k)) (qs[k]'hlt).den) := Nat.gcd_pos_of_pos_left _ (lD_pos _)
      have S4 : Hid (Small (Nat.gcd (lD (qs.take k)) (qs[k]'hlt).den)) := small_le S1.out.2 (Nat.le_of_dvd (Nat.pos_of_ne_zero (qs[k]'hlt).den_nz) (Nat.gcd_dvd_right _ _))
      have S5 : Hid (Small ((qs[k]'hlt).den / Nat.gcd (lD (qs.take k)) (qs[k]'hlt).den)) := small_le S1.out.2 (Nat.div_le_self _ _)
      generalize qs[k]'hlt = q at *
      generalize lD (qs.take k) = M at *
      generalize gN (qs.take k) = G at *
      go_wp2_with fail
      have hbn := below_new wr (.cells #[.bool d.n, .slice d.u d.nu d.cu, .slice d.l d.nl d.cl] 84)
      have hkn := Blk.new wr #[.bool d.n, .slice d.u d.nu d.cu, .slice d.l d.nl d.cl] 84
      refine (gcd_walk (HU.out.below hbn) (HDU.out.below hbn) S2.out S1.out.1).mono ?_
      rintro e w2 ⟨hb2, vg, rfl, hvg⟩
      have hbw := hbn.trans (hb2.mono hbn.size)
      have HK2 := hideIt (hkn.below hb2 hkn.lt)
      have HD2 := hideIt (HD.out.below hbw)
      have HL2 := hideIt (HL.out.below hbw)
      have HGV := hideIt hvg
      have hlt2 : Hid (wr.heap.size < w2.heap.size) := HK2.out.lt
      clear hvg z0 z1 z2
      obtain ⟨z0, z1, z2, _, _, _⟩ := HK2.out.all3
      go_wp2_with fail
      go_region_held3 (fun w' => w'.cell? ⟨wr.heap.size, 0, none⟩ = some (.bool d.n) ∧ w'.cell? ⟨wr.heap.size, 1, none⟩ = some (.slice d.u d.nu d.cu) ∧ w'.cell? ⟨wr.heap.size, 2, none⟩ = some (.slice d.l d.nl d.cl)) (first | go_keep | exact hs3 | exact hs4 | exact hs5 | exact hs6 | exact hs7)
        (first
          | (go_at_call 152; refine (multiply_calls ((HL2.out.below hbl6)) hv6 S3.out S5.out).mono ?_; rintro e w7 ⟨hb7, v7, rfl, hv7⟩; have hbl7 := hbl6.trans (hb7.mono hbl6.size); have hs7 := (HK2.out.below hbl7 hlt2.out).cells3)
          | (go_at_call 153; refine (over_calls ((hv3.below hb4).below hb5) hv5 S1.out.2 S4.out hgp.out).mono ?_; rintro e w6 ⟨hb6, v6, rfl, hv6⟩; have hbl6 := hbl5.trans (hb6.mono hbl5.size); have hs6 := (HK2.out.below hbl6 hlt2.out).cells3)
          | (go_at_call 151; refine (gcd_walk (HL2.out.below hbl4) hv4 S3.out S1.out.2).mono ?_; rintro e w5 ⟨hb5, v5, rfl, hv5⟩; have hbl5 := hbl4.trans (hb5.mono hbl4.size); have hs5 := (HK2.out.below hbl5 hlt2.out).cells3)
          | (have hx := hv3; go_at_call 150; refine (lower_calls (HD2.out.below hbl3)).mono ?_; rintro e w4 ⟨hb4, v4, rfl, hv4⟩; have hbl4 := hbl3.trans (hb4.mono hbl3.size); have hs4 := (HK2.out.below hbl4 hlt2.out).cells3)
          | (go_at_call 150; refine (lower_calls (w := w2.drew) (HD2.out.below (Below.drew (Below.refl _ _)))).mono ?_; rintro e w3 ⟨hb3, v3, rfl, hv3⟩; have hbl3 : Below w2.heap.size w2 w3 := (Below.drew (Below.refl _ w2)).trans hb3; have hs3 := (HK2.out.below hbl3 hlt2.out).cells3)
          )
      all_goals
        go_wp2
        go_roundw
        case rel =>
          refine ⟨k + 1, hlt, by go_num, ?_, ?_, hbel.trans ((hbw.trans (hbl7.mono hbw.size)).mono hsz'.out)⟩
          · rw [HG.out]; exact HGV.out.below hbl7
          · rw [HLD.out]; exact hv7
        case measure => simp [intOf]; omega
theorem plain_new {w : World} {v : Value} {qs : List Rat} (h : QRow w v qs) {K : Nat} (f : ∀ q ∈ qs, QS K q) (hn : qs.length ≤ 1000000) (hk : qs.length * K + K + 2 ≤ 35184372088640) :
    Calls Tryz.prog 145 #[v] w fun e w' => Below w.heap.size w w' ∧ ∃ v', e = .returned v' ∧ QRow w' v' (plain qs) ∧ NewAt w v' := by
  have h' := h
  obtain ⟨b, off, cap, rfl, _⟩ := h
  exact plain_walk h' f hn hk
end Go.Proofs.YtgajdmadbdbabaaGreatDoor
/- WM -/
namespace Go.Proofs.YtgajdmadbdbabaaGreatDoor
open Go.RowKit Cx
attribute [local go_sem ↓] Go.wp_at_zero Go.wp_at_succ
theorem QS.pl {K : Nat} {qs : List Rat} (h : ∀ q ∈ qs, QS K q) {q : Rat} (hq : q ∈ qs) : QS (K + qs.length * K + 1) (pl (gN qs) (lD qs) (fb qs) q) := by
  unfold Cx.pl
  have h1 := (h q hq).num
  have h2 := lD_le h qs.length
  rw [List.take_length] at h2
  have e : ∀ z : Int, ((z : Int) : Rat) = mkRat z 1 := fun z => (Rat.mkRat_one _).symm
  rw [e]
  apply QS.mkr
  · rw [sg_abs]
    have h3 : q.num.natAbs / gN qs ≤ q.num.natAbs := Nat.div_le_self _ _
    have h4 : lD qs / q.den ≤ lD qs := Nat.div_le_self _ _
    have h5 : q.num.natAbs / gN qs * (lD qs / q.den) ≤ q.num.natAbs * 2 ^ (qs.length * K) := Nat.mul_le_mul h3 (Nat.le_trans h4 h2)
    have h6 : q.num.natAbs * 2 ^ (qs.length * K) < 2 ^ K * 2 ^ (qs.length * K) := Nat.mul_lt_mul_of_pos_right h1 (Nat.pow_pos (by decide))
    rw [Nat.pow_succ, Nat.pow_add]
    omega
  · exact Nat.one_lt_two_pow (by omega)
end Go.Proofs.YtgajdmadbdbabaaGreatDoor
/- WN -/
namespace Go.Proofs.YtgajdmadbdbabaaGreatDoor
open Go.RowKit Cx
attribute [local go_sem ↓] Go.wp_at_zero Go.wp_at_succ
theorem rulerRead_walk {w : World} {a b c : ByteArray} (s1 : a.data.toList.length ≤ 4294967296) (s2 : b.data.toList.length ≤ 4294967296) (s3 : c.size ≤ 4294967296) :
    Calls Tryz.prog 71 #[.agg #[.string a, .string b, .string c]] w fun e w' => Below w.heap.size w w' ∧ ((rd a.data.toList = 0 ∧ rd b.data.toList = 0 ∧ e = .returned (.tuple #[.agg #[.bool false, .slice none 0 0, .slice none 0 0, .bool false, .slice none 0 0, .slice none 0 0, .bool false, .slice none 0 0, .slice none 0 0], .int .i64 5])) ∨ (¬ (rd a.data.toList = 0 ∧ rd b.data.toList = 0) ∧ ∃ v, e = .returned (.tuple #[v, .int .i64 0]) ∧ LV w' v (rd a.data.toList) (rd b.data.toList) (rd c.data.toList))) := by
  obtain ⟨hb0, hk0, hk1, hsz⟩ := boxes2 w #[.string a, .string b, .string c] #[.bool false, .slice none 0 0, .slice none 0 0, .bool false, .slice none 0 0, .slice none 0 0, .bool false, .slice none 0 0, .slice none 0 0] 26 97
  have HB0 := hideIt hb0
  have HSZ := hideIt hsz
  have HK0 := hideIt hk0
  have HK1 := hideIt hk1
  have L1 := hideIt s1
  have L2 := hideIt s2
  have L3 := hideIt s3
  clear hb0 hsz hk0 hk1 s1 s2 s3
  go_enter Tryz.func71, Tryz.ntmps71
  go_wp2_with fail
  generalize ((w.alloc (.cells #[.string a, .string b, .string c] 26)).alloc (.cells #[.bool false, .slice none 0 0, .slice none 0 0, .bool false, .slice none 0 0, .slice none 0 0, .bool false, .slice none 0 0, .slice none 0 0] 97)) = W0 at *
  have HS : Hid (∀ w', Below W0.heap.size W0 w' → w'.cell? ⟨w.heap.size, 0, none⟩ = some (.string a) ∧ w'.cell? ⟨w.heap.size, 1, none⟩ = some (.string b) ∧ w'.cell? ⟨w.heap.size, 2, none⟩ = some (.string c)) := fun w' hb => ⟨(HK0.out.below hb (by rw [HSZ.out]; omega)).cell 0, (HK0.out.below hb (by rw [HSZ.out]; omega)).cell 1, (HK0.out.below hb (by rw [HSZ.out]; omega)).cell 2⟩
  have HSS : Hid (∀ w', Below W0.heap.size W0 w' → ∀ G, W0.heap.size ≤ G → ∀ x0 x1 x2 x3 x4 x5 x6 x7 x8 : Value, (((((((((w'.setCell ⟨G, 0, none⟩ (x0)).setCell ⟨G, 1, none⟩ (x1)).setCell ⟨G, 2, none⟩ (x2)).setCell ⟨G, 3, none⟩ (x3)).setCell ⟨G, 4, none⟩ (x4)).setCell ⟨G, 5, none⟩ (x5)).setCell ⟨G, 6, none⟩ (x6)).setCell ⟨G, 7, none⟩ (x7)).setCell ⟨G, 8, none⟩ (x8)).cell? ⟨w.heap.size, 0, none⟩ = some (.string a) ∧ (((((((((w'.setCell ⟨G, 0, none⟩ (x0)).setCell ⟨G, 1, none⟩ (x1)).setCell ⟨G, 2, none⟩ (x2)).setCell ⟨G, 3, none⟩ (x3)).setCell ⟨G, 4, none⟩ (x4)).setCell ⟨G, 5, none⟩ (x5)).setCell ⟨G, 6, none⟩ (x6)).setCell ⟨G, 7, none⟩ (x7)).setCell ⟨G, 8, none⟩ (x8)).cell? ⟨w.heap.size, 1, none⟩ = some (.string b) ∧ (((((((((w'.setCell ⟨G, 0, none⟩ (x0)).setCell ⟨G, 1, none⟩ (x1)).setCell ⟨G, 2, none⟩ (x2)).setCell ⟨G, 3, none⟩ (x3)).setCell ⟨G, 4, none⟩ (x4)).setCell ⟨G, 5, none⟩ (x5)).setCell ⟨G, 6, none⟩ (x6)).setCell ⟨G, 7, none⟩ (x7)).setCell ⟨G, 8, none⟩ (x8)).cell? ⟨w.heap.size, 2, none⟩ = some (.string c)) := fun w' hb G hG x0 x1 x2 x3 x4 x5 x6 x7 x8 => by
    have h := (HK0.out.below hb (by rw [HSZ.out]; omega)).off9 (g := G) (by have := HSZ.out; omega) x0 x1 x2 x3 x4 x5 x6 x7 x8
    exact ⟨h.cell 0, h.cell 1, h.cell 2⟩
  obtain ⟨z0, z1, z2⟩ := HS.out W0 (Below.refl _ _)
  go_cut [4] from 5 (fun p wc => ∃ G, p = .pointer (some ⟨G, 0, none⟩) ∧ W0.heap.size ≤ G ∧ Below W0.heap.size W0 wc ∧ ∃ d e f : C3, Blk wc G #[.bool d.n, .slice d.u d.nu d.cu, .slice d.l d.nl d.cl, .bool e.n, .slice e.u e.nu e.cu, .slice e.l e.nl e.cl, .bool f.n, .slice f.u f.nu f.cu, .slice f.l f.nl f.cl] 97 ∧ QV wc (.agg #[.bool d.n, .slice d.u d.nu d.cu, .slice d.l d.nl d.cl]) (rd a.data.toList) ∧ QV wc (.agg #[.bool e.n, .slice e.u e.nu e.cu, .slice e.l e.nl e.cl]) (rd b.data.toList) ∧ QV wc (.agg #[.bool f.n, .slice f.u f.nu f.cu, .slice f.l f.nl f.cl]) (rd c.data.toList))
  case first =>
    go_region_held3 (fun w' => w'.cell? ⟨w.heap.size, 0, none⟩ = some (.string a) ∧ w'.cell? ⟨w.heap.size, 1, none⟩ = some (.string b) ∧ w'.cell? ⟨w.heap.size, 2, none⟩ = some (.string c)) (first | (dsimp only; first | with_reducible exact hs1 | with_reducible exact hs2 | with_reducible exact HS.out _ (below_new W0 _) | with_reducible exact HS.out _ (hbl1.alloc hbl1.size _) | with_reducible exact HS.out _ (hbl2.alloc hbl2.size _) | with_reducible exact HSS.out _ hbl2 _ (Nat.le_refl _) _ _ _ _ _ _ _ _ _ | with_reducible exact HSS.out _ hbl2 _ hbl1.size _ _ _ _ _ _ _ _ _ | with_reducible exact HS.out _ (Below.drew (Below.refl _ _))) | (first | with_reducible exact hs1 | with_reducible exact hs2 | with_reducible exact HS.out _ (below_new W0 _) | with_reducible exact HS.out _ (hbl1.alloc hbl1.size _) | with_reducible exact HS.out _ (hbl2.alloc hbl2.size _) | with_reducible exact HSS.out _ hbl2 _ (Nat.le_refl _) _ _ _ _ _ _ _ _ _ | with_reducible exact HSS.out _ hbl2 _ hbl1.size _ _ _ _ _ _ _ _ _) | go_keep)
      (first
        | (go_at_call 62; refine (wayRead_calls ⟨a, b, rfl, rfl, rfl⟩ L1.out L2.out).mono ?_; rintro e w1 ⟨hb1, v1, rfl, hv1⟩; obtain ⟨d1, e1, rfl, hx1, hy1⟩ := hv1; (first | (have hbl1 : Below W0.heap.size W0 w1 := (Below.drew (Below.refl _ W0)).trans hb1) | (have hbl1 : Below W0.heap.size W0 w1 := (Below.drew (below_new W0 (.cells #[.bool false, .slice none 0 0, .slice none 0 0, .bool false, .slice none 0 0, .slice none 0 0, .bool false, .slice none 0 0, .slice none 0 0] 97))).trans (hb1.mono (Nat.le_of_lt (Blk.new W0 #[.bool false, .slice none 0 0, .slice none 0 0, .bool false, .slice none 0 0, .slice none 0 0, .bool false, .slice none 0 0, .slice none 0 0] 97).lt)); have hg1 := (show Blk (W0.alloc (.cells #[.bool false, .slice none 0 0, .slice none 0 0, .bool false, .slice none 0 0, .slice none 0 0, .bool false, .slice none 0 0, .slice none 0 0] 97)).drew W0.heap.size #[.bool false, .slice none 0 0, .slice none 0 0, .bool false, .slice none 0 0, .slice none 0 0, .bool false, .slice none 0 0, .slice none 0 0] 97 from Blk.new W0 #[.bool false, .slice none 0 0, .slice none 0 0, .bool false, .slice none 0 0, .slice none 0 0, .bool false, .slice none 0 0, .slice none 0 0] 97).below hb1 (Blk.new W0 #[.bool false, .slice none 0 0, .slice none 0 0, .bool false, .slice none 0 0, .slice none 0 0, .bool false, .slice none 0 0, .slice none 0 0] 97).lt)); have hs1 := HS.out w1 hbl1)
        | (go_at_call 69; refine (read_calls c _ L3.out).mono ?_; rintro e w2 ⟨hb2, v2, rfl, hv2⟩; obtain ⟨d2, rfl⟩ := qv_open hv2; (first | (have hc2 : Below w1.heap.size w1 w2 := hb2; try have hg2 := hg1.below hb2 hg1.lt) | (have hc2 : Below w1.heap.size w1 w2 := (below_new w1 (.cells #[.bool false, .slice none 0 0, .slice none 0 0, .bool false, .slice none 0 0, .slice none 0 0, .bool false, .slice none 0 0, .slice none 0 0] 97)).trans (hb2.mono (Nat.le_of_lt (Blk.new w1 #[.bool false, .slice none 0 0, .slice none 0 0, .bool false, .slice none 0 0, .slice none 0 0, .bool false, .slice none 0 0, .slice none 0 0] 97).lt)); have hg2 := (Blk.new w1 #[.bool false, .slice none 0 0, .slice none 0 0, .bool false, .slice none 0 0, .slice none 0 0, .bool false, .slice none 0 0, .slice none 0 0] 97).below hb2 (Blk.new w1 #[.bool false, .slice none 0 0, .slice none 0 0, .bool false, .slice none 0 0, .slice none 0 0, .bool false, .slice none 0 0, .slice none 0 0] 97).lt)); have hbl2 := hbl1.trans (hc2.mono hbl1.size); have hs2 := HS.out w2 hbl2; try obtain ⟨r0, r1, r2, r3, r4, r5, r6, r7, r8, f0, f1, f2, f3, f4, f5, f6, f7, f8⟩ := hg2.all9)
        )
    all_goals
      go_wp2_with fail
      go_meet
      (first | have hst := Stays.put9 hg2 (by simp [notLimb]) (.bool d1.n) (.slice d1.u d1.nu d1.cu) (.slice d1.l d1.nl d1.cl) (.bool e1.n) (.slice e1.u e1.nu e1.cu) (.slice e1.l e1.nl e1.cl) (.bool d2.n) (.slice d2.u d2.nu d2.cu) (.slice d2.l d2.nl d2.cl) rfl rfl rfl rfl rfl rfl rfl rfl rfl | skip)
      refine ⟨_, rfl, ?_, ?_, d1, e1, d2, ?_, ?_, ?_, ?_⟩
      · first | with_reducible exact Nat.le_refl _ | with_reducible exact hbl1.size | with_reducible exact hbl2.size
      · first | with_reducible exact Below.put9 hbl2 (Nat.le_refl _) _ _ _ _ _ _ _ _ _ | with_reducible exact Below.put9 hbl2 hbl1.size _ _ _ _ _ _ _ _ _ | with_reducible exact hbl2.alloc hbl2.size _
      · first | with_reducible exact hg2.put9 (.bool d1.n) (.slice d1.u d1.nu d1.cu) (.slice d1.l d1.nl d1.cl) (.bool e1.n) (.slice e1.u e1.nu e1.cu) (.slice e1.l e1.nl e1.cl) (.bool d2.n) (.slice d2.u d2.nu d2.cu) (.slice d2.l d2.nl d2.cl) | with_reducible exact Blk.new _ _ _
      · first | with_reducible exact hst.qv (hx1.below hc2) | with_reducible exact (hx1.below hc2).below (below_new _ _)
      · first | with_reducible exact hst.qv (hy1.below hc2) | with_reducible exact (hy1.below hc2).below (below_new _ _)
      · first | with_reducible exact hst.qv hv2 | with_reducible exact hv2.below (below_new _ _)
  case rest =>
    obtain ⟨G, rfl, hG, hbl, d, e, f, hk, hx, hy, hz⟩ := hcut
    have HX := hideIt hx
    have HY := hideIt hy
    have HZ := hideIt hz
    have HKG := hideIt hk
    have HG := hideIt hG
    have HBL := hideIt hbl
    obtain ⟨r0, r1, r2, r3, r4, r5, r6, r7, r8, f0, f1, f2, f3, f4, f5, f6, f7, f8⟩ := hk.all9
    clear hx hy hz hk hG hbl z0 z1 z2
    go_wp2_with fail
    refine (nowhere_calls ⟨d, e, rfl, HX.out, HY.out⟩).mono ?_
    rintro _ w3 ⟨hb3, rfl⟩
    clear r0 r1 r2 r3 r4 r5 r6 r7 r8 f0 f1 f2 f3 f4 f5 f6 f7 f8
    have hbl3 := hideIt (HBL.out.trans (hb3.mono HBL.out.size))
    have hk3 := hideIt (HKG.out.below hb3 HKG.out.lt)
    have hkr := hideIt (HK1.out.below hbl3.out (by rw [HSZ.out]; omega))
    have hbw := hideIt (HB0.out.trans (hbl3.out.mono HB0.out.size))
    have HX3 := hideIt (HX.out.below hb3)
    have HY3 := hideIt (HY.out.below hb3)
    have HZ3 := hideIt (HZ.out.below hb3)
    clear hb3
    obtain ⟨r0, r1, r2, r3, r4, r5, r6, r7, r8, f0, f1, f2, f3, f4, f5, f6, f7, f8⟩ := hk3.out.all9
    obtain ⟨q0, q1, q2, q3, q4, q5, q6, q7, q8, g0, g1, g2, g3, g4, g5, g6, g7, g8⟩ := hkr.out.all9
    by_cases h0 : rd a.data.toList = 0 ∧ rd b.data.toList = 0
    · rw [decide_eq_true h0]
      have H0 := hideIt h0
      clear h0
      go_wp2
      obtain ⟨k0, k1, k2, k3, k4, k5, k6, k7, k8, _⟩ := (hkr.out.put9 (.bool false) (.slice none 0 0) (.slice none 0 0) (.bool false) (.slice none 0 0) (.slice none 0 0) (.bool false) (.slice none 0 0) (.slice none 0 0)).all9
      refine bodyPost_ret (v := .tuple #[.agg #[.bool false, .slice none 0 0, .slice none 0 0, .bool false, .slice none 0 0, .slice none 0 0, .bool false, .slice none 0 0, .slice none 0 0], .int .i64 5]) (by simp [results, Tryz.results71, go_sem, k0, k1, k2, k3, k4, k5, k6, k7, k8]) rfl ⟨Below.put9 hbw.out (by omega) _ _ _ _ _ _ _ _ _, Or.inl ⟨H0.out.1, H0.out.2, rfl⟩⟩
    · rw [decide_eq_false h0]
      have H0 := hideIt h0
      clear h0
      go_wp2
      obtain ⟨k0, k1, k2, k3, k4, k5, k6, k7, k8, _⟩ := (hkr.out.put9 (.bool d.n) (.slice d.u d.nu d.cu) (.slice d.l d.nl d.cl) (.bool e.n) (.slice e.u e.nu e.cu) (.slice e.l e.nl e.cl) (.bool f.n) (.slice f.u f.nu f.cu) (.slice f.l f.nl f.cl)).all9
      have hst := Stays.put9 hkr.out (by simp [notLimb]) (.bool d.n) (.slice d.u d.nu d.cu) (.slice d.l d.nl d.cl) (.bool e.n) (.slice e.u e.nu e.cu) (.slice e.l e.nl e.cl) (.bool f.n) (.slice f.u f.nu f.cu) (.slice f.l f.nl f.cl) rfl rfl rfl rfl rfl rfl rfl rfl rfl
      refine bodyPost_ret (v := .tuple #[.agg #[.bool d.n, .slice d.u d.nu d.cu, .slice d.l d.nl d.cl, .bool e.n, .slice e.u e.nu e.cu, .slice e.l e.nl e.cl, .bool f.n, .slice f.u f.nu f.cu, .slice f.l f.nl f.cl], .int .i64 0]) (by simp [results, Tryz.results71, go_sem, k0, k1, k2, k3, k4, k5, k6, k7, k8]) rfl ⟨Below.put9 hbw.out (by omega) _ _ _ _ _ _ _ _ _, Or.inr ⟨H0.out, _, rfl, d, e, f, rfl, hst.qv HX3.out, hst.qv HY3.out, hst.qv HZ3.out⟩⟩
theorem rulerRead_calls {w : World} {v : Value} {la lb lc : List UInt8} (h : TV v la lb lc) (s1 : la.length ≤ 4294967296) (s2 : lb.length ≤ 4294967296) (s3 : lc.length ≤ 4294967296) :
    Calls Tryz.prog 71 #[v] w fun e w' => Below w.heap.size w w' ∧ ((rd la = 0 ∧ rd lb = 0 ∧ e = .returned (.tuple #[.agg #[.bool false, .slice none 0 0, .slice none 0 0, .bool false, .slice none 0 0, .slice none 0 0, .bool false, .slice none 0 0, .slice none 0 0], .int .i64 5])) ∨ (¬ (rd la = 0 ∧ rd lb = 0) ∧ ∃ v, e = .returned (.tuple #[v, .int .i64 0]) ∧ LV w' v (rd la) (rd lb) (rd lc))) := by
  obtain ⟨a, b, c, rfl, rfl, rfl, rfl⟩ := h
  rw [str_len c] at s3
  exact rulerRead_walk s1 s2 s3
end Go.Proofs.YtgajdmadbdbabaaGreatDoor
/- AWQ -/
namespace Go.Proofs.YtgajdmadbdbabaaGreatDoor
open Go.RowKit Cx
theorem QV.grows {w w' : World} {v : Value} {q : Rat} (hg : Grows w w') (h : QV w v q) : QV w' v q := by
  obtain ⟨vu, vl, e, h1, h2⟩ := h
  exact ⟨vu, vl, e, h1.grows hg, h2.grows hg⟩
def Wv (x y : Rat) : Fact := ⟨fun v w => WV w v x y, fun hg ⟨c, d, e, h1, h2⟩ => ⟨c, d, e, h1.grows hg, h2.grows hg⟩⟩
theorem cok_wv (x y : Rat) : CellsOk 6 (Wv x y) := fun v w h => by
  obtain ⟨c, d, e, _⟩ := h
  exact ⟨[.bool c.n, .slice c.u c.nu c.cu, .slice c.l c.nl c.cl, .bool d.n, .slice d.u d.nu d.cu, .slice d.l d.nl d.cl], e, rfl, by simp [notLimb, Value.oneCell']⟩
theorem store_next {P : Program} {w0 w : World} {G : Nat} {cs : Array Value} {t : TypeId} (hk : Blk w G cs t) (hs : Save G w0 w) (j : Nat) (x y : Value) (cs' : Array Value) (hx : cs[j]? = some x) (hy : y.oneCell' = true) (hc : cs.setIfInBounds j y = cs') : ∃ w', (store ⟨G, j, none⟩ y).run P w = .ok () w' ∧ Blk w' G cs' t ∧ Save G w0 w' :=
  ⟨_, store_run (c := x) _ hy (by rw [hk.cell j]; exact hx) (hk.frozen j), hc ▸ hk.set j y, hs.set j y⟩
theorem wv_zero (w : World) : (Wv 0 0).on (.agg #[.bool false, .slice none 0 0, .slice none 0 0, .bool false, .slice none 0 0, .slice none 0 0]) w := ⟨⟨false, none, 0, 0, none, 0, 0⟩, ⟨false, none, 0, 0, none, 0, 0⟩, rfl, qv_zero0 _, qv_zero0 _⟩
theorem cellsN_W : Tryz.prog.cellsOf 86 = 6 := by kernel_rfl
theorem loads_W {F : Fact} : Loads Tryz.prog 86 F F := fun w G ⟨cs, hk, hF, _, hln⟩ => by
  rw [cellsN_W] at hln
  match cs, hln with
  | [x0, x1, x2, x3, x4, x5], _ =>
    refine ⟨.agg #[x0, x1, x2, x3, x4, x5], ?_, hF⟩
    have k0 : w.cell? ⟨G, 0, none⟩ = some x0 := hk.cell 0
    have k1 : w.cell? ⟨G, 1, none⟩ = some x1 := hk.cell 1
    have k2 : w.cell? ⟨G, 2, none⟩ = some x2 := hk.cell 2
    have k3 : w.cell? ⟨G, 3, none⟩ = some x3 := hk.cell 3
    have k4 : w.cell? ⟨G, 4, none⟩ = some x4 := hk.cell 4
    have k5 : w.cell? ⟨G, 5, none⟩ = some x5 := hk.cell 5
    clear hk hF
    simp [go_sem, k0, k1, k2, k3, k4, k5]
theorem stores_W {F : Fact} (hc : CellsOk 6 F) : Stores Tryz.prog 86 F F := fun w G F0 v ⟨cs, hk, _, hno, hln⟩ hv => by
  obtain ⟨vs, rfl, hlv, hok⟩ := hc v w hv
  rw [cellsN_W] at hln
  match cs, hln, vs, hlv with
  | [x0, x1, x2, x3, x4, x5], _, [y0, y1, y2, y3, y4, y5], _ =>
    have hbx : Boxed w G := ⟨_, _, hk, by decide, hno⟩
    have s0 := save_refl G w
    obtain ⟨w1, r0, b1, s1⟩ := store_next (P := Tryz.prog) hk s0 0 x0 y0 [y0, x1, x2, x3, x4, x5].toArray rfl (hok y0 (by simp)).2 rfl
    obtain ⟨w2, r1, b2, s2⟩ := store_next (P := Tryz.prog) b1 s1 1 x1 y1 [y0, y1, x2, x3, x4, x5].toArray rfl (hok y1 (by simp)).2 rfl
    obtain ⟨w3, r2, b3, s3⟩ := store_next (P := Tryz.prog) b2 s2 2 x2 y2 [y0, y1, y2, x3, x4, x5].toArray rfl (hok y2 (by simp)).2 rfl
    obtain ⟨w4, r3, b4, s4⟩ := store_next (P := Tryz.prog) b3 s3 3 x3 y3 [y0, y1, y2, y3, x4, x5].toArray rfl (hok y3 (by simp)).2 rfl
    obtain ⟨w5, r4, b5, s5⟩ := store_next (P := Tryz.prog) b4 s4 4 x4 y4 [y0, y1, y2, y3, y4, x5].toArray rfl (hok y4 (by simp)).2 rfl
    obtain ⟨w6, r5, b6, s6⟩ := store_next (P := Tryz.prog) b5 s5 5 x5 y5 [y0, y1, y2, y3, y4, y5].toArray rfl (hok y5 (by simp)).2 rfl
    refine ⟨w6, ?_, s6, [y0, y1, y2, y3, y4, y5], b6, F.st (Grows.save s6 hbx) hv, all_notLimb hok, by rw [cellsN_W]; rfl⟩
    clear b1 s1 b2 s2 b3 s3 b4 s4 b5 s5 b6 s6 s0 hbx hno hv hok hk
    simp [go_sem, r0, r1, r2, r3, r4, r5]
theorem allocs_W (w : World) : (Instr.alloc 86 true (.tuple #[])).run Tryz.prog w = .ok (.pointer (some ⟨w.heap.size, 0, none⟩)) (w.alloc (.cells [.bool false, .slice none 0 0, .slice none 0 0, .bool false, .slice none 0 0, .slice none 0 0].toArray 86)) := by
  simp [go_sem]
theorem zero_W (w : World) : Any.on (.agg [.bool false, .slice none 0 0, .slice none 0 0, .bool false, .slice none 0 0, .slice none 0 0].toArray) w := trivial
end Go.Proofs.YtgajdmadbdbabaaGreatDoor
/- WPA -/
namespace Go.Proofs.YtgajdmadbdbabaaGreatDoor
open Go.RowKit Cx
theorem Blk.old {w : World} {g : Nat} {cs : Array Value} {t : TypeId} (o : Obj) (h : Blk w g cs t) : Blk (w.alloc o) g cs t := h.below (below_new _ _) h.lt
def Two (W0 : World) (p q : Value) (wc : World) (x y z t : Rat) : Prop :=
  ∃ G H, p = .pointer (some ⟨G, 0, none⟩) ∧ q = .pointer (some ⟨H, 0, none⟩) ∧ W0.heap.size ≤ G ∧ W0.heap.size ≤ H ∧ Below W0.heap.size W0 wc ∧ ∃ d e f g : C3, Blk wc G #[.bool d.n, .slice d.u d.nu d.cu, .slice d.l d.nl d.cl, .bool e.n, .slice e.u e.nu e.cu, .slice e.l e.nl e.cl] 86 ∧ Blk wc H #[.bool f.n, .slice f.u f.nu f.cu, .slice f.l f.nl f.cl, .bool g.n, .slice g.u g.nu g.cu, .slice g.l g.nl g.cl] 86 ∧ QV wc (.agg #[.bool d.n, .slice d.u d.nu d.cu, .slice d.l d.nl d.cl]) x ∧ QV wc (.agg #[.bool e.n, .slice e.u e.nu e.cu, .slice e.l e.nl e.cl]) y ∧ QV wc (.agg #[.bool f.n, .slice f.u f.nu f.cu, .slice f.l f.nl f.cl]) z ∧ QV wc (.agg #[.bool g.n, .slice g.u g.nu g.cu, .slice g.l g.nl g.cl]) t
def One (W0 : World) (p : Value) (wc : World) (x y : Rat) : Prop :=
  ∃ G, p = .pointer (some ⟨G, 0, none⟩) ∧ W0.heap.size ≤ G ∧ Below W0.heap.size W0 wc ∧ ∃ d e : C3, Blk wc G #[.bool d.n, .slice d.u d.nu d.cu, .slice d.l d.nl d.cl, .bool e.n, .slice e.u e.nu e.cu, .slice e.l e.nl e.cl] 86 ∧ QV wc (.agg #[.bool d.n, .slice d.u d.nu d.cu, .slice d.l d.nl d.cl]) x ∧ QV wc (.agg #[.bool e.n, .slice e.u e.nu e.cu, .slice e.l e.nl e.cl]) y
end Go.Proofs.YtgajdmadbdbabaaGreatDoor
/- WO -/
namespace Go.Proofs.YtgajdmadbdbabaaGreatDoor
open Go.RowKit Cx
attribute [local go_sem ↓] Go.wp_at_zero Go.wp_at_succ
end Go.Proofs.YtgajdmadbdbabaaGreatDoor
/- WQ -/
namespace Go.Proofs.YtgajdmadbdbabaaGreatDoor
open Go.RowKit Cx
attribute [local go_sem ↓] Go.wp_at_zero Go.wp_at_succ
end Go.Proofs.YtgajdmadbdbabaaGreatDoor
/- WP -/
namespace Go.Proofs.YtgajdmadbdbabaaGreatDoor
open Go.RowKit Cx
attribute [local go_sem ↓] Go.wp_at_zero Go.wp_at_succ
end Go.Proofs.YtgajdmadbdbabaaGreatDoor
/- WAN -/
namespace Go.Proofs.YtgajdmadbdbabaaGreatDoor
open Go.RowKit Cx
attribute [local go_sem ↓] Go.wp_at_zero Go.wp_at_succ
end Go.Proofs.YtgajdmadbdbabaaGreatDoor
/- WS -/
namespace Go.Proofs.YtgajdmadbdbabaaGreatDoor
open Go.RowKit Cx
attribute [local go_sem ↓] Go.wp_at_zero Go.wp_at_succ
end Go.Proofs.YtgajdmadbdbabaaGreatDoor
/- WT -/
namespace Go.Proofs.YtgajdmadbdbabaaGreatDoor
open Go.RowKit Cx
attribute [local go_sem ↓] Go.wp_at_zero Go.wp_at_succ
end Go.Proofs.YtgajdmadbdbabaaGreatDoor
/- WU -/
namespace Go.Proofs.YtgajdmadbdbabaaGreatDoor
open Go.RowKit Cx
attribute [local go_sem ↓] Go.wp_at_zero Go.wp_at_succ
end Go.Proofs.YtgajdmadbdbabaaGreatDoor
/- MathY -/
namespace Cx
open Go
theorem tx_int (z : Int) (h : z.natAbs < 10) : tx ((z : Int) : Rat) = (if z < 0 then [45] else []) ++ [UInt8.ofNat (48 + z.natAbs)] := by
  unfold tx
  have h1 : ((z : Int) : Rat).num = z := rfl
  have h2 : ((z : Int) : Rat).den = 1 := rfl
  rw [h1, h2, if_pos rfl, List.append_nil, dec_small h]
theorem rd0 : rd [48] = ((0 : Int) : Rat) := by rw [← show tx ((0 : Int) : Rat) = [48] from tx_int 0 (by decide), rd_tx]
theorem rd1 : rd [49] = ((1 : Int) : Rat) := by rw [← show tx ((1 : Int) : Rat) = [49] from tx_int 1 (by decide), rd_tx]
theorem rdm1 : rd [45, 49] = ((-1 : Int) : Rat) := by rw [← show tx ((-1 : Int) : Rat) = [45, 49] from tx_int (-1) (by decide), rd_tx]
end Cx
/- WV -/
namespace Go.Proofs.YtgajdmadbdbabaaGreatDoor
open Go.RowKit Cx
theorem bytes_eq {s : ByteArray} {l : List UInt8} (h : s.data.toList = l) : s = ⟨l.toArray⟩ := by
  cases s
  subst h
  simp
end Go.Proofs.YtgajdmadbdbabaaGreatDoor
/- WW -/
namespace Go.Proofs.YtgajdmadbdbabaaGreatDoor
open Go.RowKit Cx
attribute [local go_sem ↓] Go.wp_at_zero Go.wp_at_succ
theorem qs30 (s : ByteArray) (h : s.size ≤ 6) : QS 30 (rd s.data.toList) := (QS.rd _).mono (by rw [str_len]; omega)
theorem len6 (s : ByteArray) (h : s.size ≤ 6) : s.data.toList.length ≤ 4294967296 := by rw [str_len]; omega
end Go.Proofs.YtgajdmadbdbabaaGreatDoor
/- WBT -/
namespace Go.Proofs.YtgajdmadbdbabaaGreatDoor
open Go.RowKit Cx
attribute [local go_sem ↓] Go.wp_at_zero Go.wp_at_succ
end Go.Proofs.YtgajdmadbdbabaaGreatDoor
/- WSD -/
namespace Go.Proofs.YtgajdmadbdbabaaGreatDoor
open Go.RowKit Cx
attribute [local go_sem ↓] Go.wp_at_zero Go.wp_at_succ
end Go.Proofs.YtgajdmadbdbabaaGreatDoor
/- WMI -/
namespace Go.Proofs.YtgajdmadbdbabaaGreatDoor
open Go.RowKit Cx
attribute [local go_sem ↓] Go.wp_at_zero Go.wp_at_succ
end Go.Proofs.YtgajdmadbdbabaaGreatDoor
/- WFR -/
namespace Go.Proofs.YtgajdmadbdbabaaGreatDoor
open Go.RowKit Cx
attribute [local go_sem ↓] Go.wp_at_zero Go.wp_at_succ
end Go.Proofs.YtgajdmadbdbabaaGreatDoor
/- WR -/
namespace Go.Proofs.YtgajdmadbdbabaaGreatDoor
open Go.RowKit Cx
attribute [local go_sem ↓] Go.wp_at_zero Go.wp_at_succ
end Go.Proofs.YtgajdmadbdbabaaGreatDoor
/- AWF -/
namespace Go.Proofs.YtgajdmadbdbabaaGreatDoor
open Go.RowKit Cx
end Go.Proofs.YtgajdmadbdbabaaGreatDoor
/- XA -/
namespace Go.Proofs.YtgajdmadbdbabaaGreatDoor
open Go.RowKit Cx
attribute [local go_sem ↓] Go.wp_at_zero Go.wp_at_succ
theorem wayConj_walk {w : World} {cax cay : C3} {ax ay : Rat} (hax : QV w (.agg #[.bool cax.n, .slice cax.u cax.nu cax.cu, .slice cax.l cax.nl cax.cl]) ax) (hay : QV w (.agg #[.bool cay.n, .slice cay.u cay.nu cay.cu, .slice cay.l cay.nl cay.cl]) ay)  :
    Calls Tryz.prog 147 #[.agg #[.bool cax.n, .slice cax.u cax.nu cax.cu, .slice cax.l cax.nl cax.cl, .bool cay.n, .slice cay.u cay.nu cay.cu, .slice cay.l cay.nl cay.cl]] w fun e w' => Below w.heap.size w w' ∧ ∃ v, e = .returned v ∧ WV w' v ax (-ay) := by
  obtain ⟨hb0, hk0, hk1, hsz⟩ := boxes2 w #[.bool cax.n, .slice cax.u cax.nu cax.cu, .slice cax.l cax.nl cax.cl, .bool cay.n, .slice cay.u cay.nu cay.cu, .slice cay.l cay.nl cay.cl] #[.bool false, .slice none 0 0, .slice none 0 0, .bool false, .slice none 0 0, .slice none 0 0] 86 86
  have HB0 := hideIt hb0
  have HSZ := hideIt hsz
  have HK0 := hideIt hk0
  have HK1 := hideIt hk1
  have Hax := hideIt (hax.below hb0)
  have Hay := hideIt (hay.below hb0)
  clear hb0 hsz hk0 hk1 hax hay 
  go_enter Tryz.func147, Tryz.ntmps147
  go_wp2_with fail
  generalize ((w.alloc (.cells #[.bool cax.n, .slice cax.u cax.nu cax.cu, .slice cax.l cax.nl cax.cl, .bool cay.n, .slice cay.u cay.nu cay.cu, .slice cay.l cay.nl cay.cl] 86)).alloc (.cells #[.bool false, .slice none 0 0, .slice none 0 0, .bool false, .slice none 0 0, .slice none 0 0] 86)) = W0 at *
  have HS : Hid (∀ w', Below W0.heap.size W0 w' → w'.cell? ⟨w.heap.size, 0, none⟩ = some (.bool cax.n) ∧ w'.cell? ⟨w.heap.size, 1, none⟩ = some (.slice cax.u cax.nu cax.cu) ∧ w'.cell? ⟨w.heap.size, 2, none⟩ = some (.slice cax.l cax.nl cax.cl) ∧ w'.cell? ⟨w.heap.size, 3, none⟩ = some (.bool cay.n) ∧ w'.cell? ⟨w.heap.size, 4, none⟩ = some (.slice cay.u cay.nu cay.cu) ∧ w'.cell? ⟨w.heap.size, 5, none⟩ = some (.slice cay.l cay.nl cay.cl)) := fun w' hb => ⟨(HK0.out.below hb (by rw [HSZ.out]; omega)).cell 0, (HK0.out.below hb (by rw [HSZ.out]; omega)).cell 1, (HK0.out.below hb (by rw [HSZ.out]; omega)).cell 2, (HK0.out.below hb (by rw [HSZ.out]; omega)).cell 3, (HK0.out.below hb (by rw [HSZ.out]; omega)).cell 4, (HK0.out.below hb (by rw [HSZ.out]; omega)).cell 5⟩
  have HSS : Hid (∀ w', Below W0.heap.size W0 w' → ∀ x0 x1 x2 x3 x4 x5 : Value, ((((((w'.setCell ⟨w.heap.size + 1, 0, none⟩ (x0)).setCell ⟨w.heap.size + 1, 1, none⟩ (x1)).setCell ⟨w.heap.size + 1, 2, none⟩ (x2)).setCell ⟨w.heap.size + 1, 3, none⟩ (x3)).setCell ⟨w.heap.size + 1, 4, none⟩ (x4)).setCell ⟨w.heap.size + 1, 5, none⟩ (x5)).cell? ⟨w.heap.size, 0, none⟩ = some (.bool cax.n) ∧ ((((((w'.setCell ⟨w.heap.size + 1, 0, none⟩ (x0)).setCell ⟨w.heap.size + 1, 1, none⟩ (x1)).setCell ⟨w.heap.size + 1, 2, none⟩ (x2)).setCell ⟨w.heap.size + 1, 3, none⟩ (x3)).setCell ⟨w.heap.size + 1, 4, none⟩ (x4)).setCell ⟨w.heap.size + 1, 5, none⟩ (x5)).cell? ⟨w.heap.size, 1, none⟩ = some (.slice cax.u cax.nu cax.cu) ∧ ((((((w'.setCell ⟨w.heap.size + 1, 0, none⟩ (x0)).setCell ⟨w.heap.size + 1, 1, none⟩ (x1)).setCell ⟨w.heap.size + 1, 2, none⟩ (x2)).setCell ⟨w.heap.size + 1, 3, none⟩ (x3)).setCell ⟨w.heap.size + 1, 4, none⟩ (x4)).setCell ⟨w.heap.size + 1, 5, none⟩ (x5)).cell? ⟨w.heap.size, 2, none⟩ = some (.slice cax.l cax.nl cax.cl) ∧ ((((((w'.setCell ⟨w.heap.size + 1, 0, none⟩ (x0)).setCell ⟨w.heap.size + 1, 1, none⟩ (x1)).setCell ⟨w.heap.size + 1, 2, none⟩ (x2)).setCell ⟨w.heap.size + 1, 3, none⟩ (x3)).setCell ⟨w.heap.size + 1, 4, none⟩ (x4)).setCell ⟨w.heap.size + 1, 5, none⟩ (x5)).cell? ⟨w.heap.size, 3, none⟩ = some (.bool cay.n) ∧ ((((((w'.setCell ⟨w.heap.size + 1, 0, none⟩ (x0)).setCell ⟨w.heap.size + 1, 1, none⟩ (x1)).setCell ⟨w.heap.size + 1, 2, none⟩ (x2)).setCell ⟨w.heap.size + 1, 3, none⟩ (x3)).setCell ⟨w.heap.size + 1, 4, none⟩ (x4)).setCell ⟨w.heap.size + 1, 5, none⟩ (x5)).cell? ⟨w.heap.size, 4, none⟩ = some (.slice cay.u cay.nu cay.cu) ∧ ((((((w'.setCell ⟨w.heap.size + 1, 0, none⟩ (x0)).setCell ⟨w.heap.size + 1, 1, none⟩ (x1)).setCell ⟨w.heap.size + 1, 2, none⟩ (x2)).setCell ⟨w.heap.size + 1, 3, none⟩ (x3)).setCell ⟨w.heap.size + 1, 4, none⟩ (x4)).setCell ⟨w.heap.size + 1, 5, none⟩ (x5)).cell? ⟨w.heap.size, 5, none⟩ = some (.slice cay.l cay.nl cay.cl)) := fun w' hb x0 x1 x2 x3 x4 x5 => ⟨((HK0.out.below hb (by rw [HSZ.out]; omega)).off6 (g := w.heap.size + 1) (by omega) x0 x1 x2 x3 x4 x5).cell 0, ((HK0.out.below hb (by rw [HSZ.out]; omega)).off6 (g := w.heap.size + 1) (by omega) x0 x1 x2 x3 x4 x5).cell 1, ((HK0.out.below hb (by rw [HSZ.out]; omega)).off6 (g := w.heap.size + 1) (by omega) x0 x1 x2 x3 x4 x5).cell 2, ((HK0.out.below hb (by rw [HSZ.out]; omega)).off6 (g := w.heap.size + 1) (by omega) x0 x1 x2 x3 x4 x5).cell 3, ((HK0.out.below hb (by rw [HSZ.out]; omega)).off6 (g := w.heap.size + 1) (by omega) x0 x1 x2 x3 x4 x5).cell 4, ((HK0.out.below hb (by rw [HSZ.out]; omega)).off6 (g := w.heap.size + 1) (by omega) x0 x1 x2 x3 x4 x5).cell 5⟩
  obtain ⟨z0, z1, z2, z3, z4, z5⟩ := HS.out W0 (Below.refl _ _)
  go_region_held3 (fun w' => w'.cell? ⟨w.heap.size, 0, none⟩ = some (.bool cax.n) ∧ w'.cell? ⟨w.heap.size, 1, none⟩ = some (.slice cax.u cax.nu cax.cu) ∧ w'.cell? ⟨w.heap.size, 2, none⟩ = some (.slice cax.l cax.nl cax.cl) ∧ w'.cell? ⟨w.heap.size, 3, none⟩ = some (.bool cay.n) ∧ w'.cell? ⟨w.heap.size, 4, none⟩ = some (.slice cay.u cay.nu cay.cu) ∧ w'.cell? ⟨w.heap.size, 5, none⟩ = some (.slice cay.l cay.nl cay.cl)) (first | go_keep | exact hs1 | exact hkS)
    (first
      | (go_at_call 107; refine (negative_calls (w := W0.drew) (Hay.out.below (Below.drew (Below.refl _ _)))).mono ?_; rintro e w1 ⟨hb1, v1, rfl, hv1⟩; have hbl1 : Below W0.heap.size W0 w1 := (Below.drew (Below.refl _ W0)).trans hb1; obtain ⟨d1, rfl⟩ := qv_open hv1; have hs1 := HS.out w1 hbl1; have hkr := HK1.out.below hbl1 (by rw [HSZ.out]; omega); obtain ⟨r0, r1, r2, r3, r4, r5, f0, f1, f2, f3, f4, f5⟩ := hkr.all6; have hkS := HSS.out w1 hbl1 (.bool cax.n) (.slice cax.u cax.nu cax.cu) (.slice cax.l cax.nl cax.cl) (.bool d1.n) (.slice d1.u d1.nu d1.cu) (.slice d1.l d1.nl d1.cl))
      )
  all_goals
    go_wp2
    obtain ⟨k0, k1, k2, k3, k4, k5, _, _, _, _, _, _⟩ := (hkr.put6 (.bool cax.n) (.slice cax.u cax.nu cax.cu) (.slice cax.l cax.nl cax.cl) (.bool d1.n) (.slice d1.u d1.nu d1.cu) (.slice d1.l d1.nl d1.cl)).all6
    refine bodyPost_ret (v := .agg #[.bool cax.n, .slice cax.u cax.nu cax.cu, .slice cax.l cax.nl cax.cl, .bool d1.n, .slice d1.u d1.nu d1.cu, .slice d1.l d1.nl d1.cl]) (by simp [results, Tryz.results147, go_sem, k0, k1, k2, k3, k4, k5]) rfl ⟨Below.put6 (HB0.out.trans (hbl1.mono HB0.out.size)) (by omega) (.bool cax.n) (.slice cax.u cax.nu cax.cu) (.slice cax.l cax.nl cax.cl) (.bool d1.n) (.slice d1.u d1.nu d1.cu) (.slice d1.l d1.nl d1.cl), _, rfl, ?_⟩
    have hst := Stays.put6 hkr (by simp [notLimb]) (.bool cax.n) (.slice cax.u cax.nu cax.cu) (.slice cax.l cax.nl cax.cl) (.bool d1.n) (.slice d1.u d1.nu d1.cu) (.slice d1.l d1.nl d1.cl) rfl rfl rfl rfl rfl rfl
    exact ⟨cax, d1, rfl, hst.qv (Hax.out.below hbl1), hst.qv hv1⟩
theorem wayConj_calls {w : World} {va : Value} {ax ay : Rat} (ha : WV w va ax ay) :
    Calls Tryz.prog 147 #[va] w fun e w' => Below w.heap.size w w' ∧ ∃ v, e = .returned v ∧ WV w' v ax (-ay) := by
  obtain ⟨c1, c2, rfl, h1, h2⟩ := ha
  exact wayConj_walk h1 h2
theorem wayProd_walk {w : World} {cax cay cbx cbz : C3} {ax ay bx bz : Rat} (hax : QV w (.agg #[.bool cax.n, .slice cax.u cax.nu cax.cu, .slice cax.l cax.nl cax.cl]) ax) (hay : QV w (.agg #[.bool cay.n, .slice cay.u cay.nu cay.cu, .slice cay.l cay.nl cay.cl]) ay) (hbx : QV w (.agg #[.bool cbx.n, .slice cbx.u cbx.nu cbx.cu, .slice cbx.l cbx.nl cbx.cl]) bx) (hbz : QV w (.agg #[.bool cbz.n, .slice cbz.u cbz.nu cbz.cu, .slice cbz.l cbz.nl cbz.cl]) bz) {k l : Nat} (f1 : QS k ax) (f2 : QS k ay) (f3 : QS l bx) (f4 : QS l bz) (hk : 2 * (k + l + 1) + 1 ≤ 35184372088640) :
    Calls Tryz.prog 103 #[.agg #[.bool cax.n, .slice cax.u cax.nu cax.cu, .slice cax.l cax.nl cax.cl, .bool cay.n, .slice cay.u cay.nu cay.cu, .slice cay.l cay.nl cay.cl], .agg #[.bool cbx.n, .slice cbx.u cbx.nu cbx.cu, .slice cbx.l cbx.nl cbx.cl, .bool cbz.n, .slice cbz.u cbz.nu cbz.cu, .slice cbz.l cbz.nl cbz.cl]] w fun e w' => Below w.heap.size w w' ∧ ∃ v, e = .returned v ∧ WV w' v (ax * bx + ay * -bz) (ax * bz - -ay * bx) := by
  obtain ⟨hb0, hk0, hk1, hk2, hsz⟩ := boxes3 w #[.bool cax.n, .slice cax.u cax.nu cax.cu, .slice cax.l cax.nl cax.cl, .bool cay.n, .slice cay.u cay.nu cay.cu, .slice cay.l cay.nl cay.cl] #[.bool cbx.n, .slice cbx.u cbx.nu cbx.cu, .slice cbx.l cbx.nl cbx.cl, .bool cbz.n, .slice cbz.u cbz.nu cbz.cu, .slice cbz.l cbz.nl cbz.cl] #[.bool false, .slice none 0 0, .slice none 0 0, .bool false, .slice none 0 0, .slice none 0 0] 86 86 86
  have HB0 := hideIt hb0
  have HSZ := hideIt hsz
  have HK0 := hideIt hk0
  have HK1 := hideIt hk1
  have HK2 := hideIt hk2
  have Hax := hideIt (hax.below hb0)
  have Hay := hideIt (hay.below hb0)
  have Hbx := hideIt (hbx.below hb0)
  have Hbz := hideIt (hbz.below hb0)
  have F1 := hideIt f1
  have F2 := hideIt f2
  have F3 := hideIt f3
  have F4 := hideIt f4
  have HK := hideIt hk
  clear hb0 hsz hk0 hk1 hk2 hax hay hbx hbz f1 f2 f3 f4 hk
  have HL : Hid (k + l + (k + l) + 1 ≤ 35184372088640) := by have := HK.out; show _ ≤ _; omega
  have F5 : Hid (QS l (-bz)) := F4.out.neg
  have F6 : Hid (QS k (-ay)) := F2.out.neg
  go_enter Tryz.func103, Tryz.ntmps103
  go_wp2_with fail
  generalize (((w.alloc (.cells #[.bool cax.n, .slice cax.u cax.nu cax.cu, .slice cax.l cax.nl cax.cl, .bool cay.n, .slice cay.u cay.nu cay.cu, .slice cay.l cay.nl cay.cl] 86)).alloc (.cells #[.bool cbx.n, .slice cbx.u cbx.nu cbx.cu, .slice cbx.l cbx.nl cbx.cl, .bool cbz.n, .slice cbz.u cbz.nu cbz.cu, .slice cbz.l cbz.nl cbz.cl] 86)).alloc (.cells #[.bool false, .slice none 0 0, .slice none 0 0, .bool false, .slice none 0 0, .slice none 0 0] 86)) = W0 at *
  have HS : Hid (∀ w', Below W0.heap.size W0 w' → w'.cell? ⟨w.heap.size, 0, none⟩ = some (.bool cax.n) ∧ w'.cell? ⟨w.heap.size, 1, none⟩ = some (.slice cax.u cax.nu cax.cu) ∧ w'.cell? ⟨w.heap.size, 2, none⟩ = some (.slice cax.l cax.nl cax.cl) ∧ w'.cell? ⟨w.heap.size, 3, none⟩ = some (.bool cay.n) ∧ w'.cell? ⟨w.heap.size, 4, none⟩ = some (.slice cay.u cay.nu cay.cu) ∧ w'.cell? ⟨w.heap.size, 5, none⟩ = some (.slice cay.l cay.nl cay.cl) ∧ w'.cell? ⟨w.heap.size + 1, 0, none⟩ = some (.bool cbx.n) ∧ w'.cell? ⟨w.heap.size + 1, 1, none⟩ = some (.slice cbx.u cbx.nu cbx.cu) ∧ w'.cell? ⟨w.heap.size + 1, 2, none⟩ = some (.slice cbx.l cbx.nl cbx.cl) ∧ w'.cell? ⟨w.heap.size + 1, 3, none⟩ = some (.bool cbz.n) ∧ w'.cell? ⟨w.heap.size + 1, 4, none⟩ = some (.slice cbz.u cbz.nu cbz.cu) ∧ w'.cell? ⟨w.heap.size + 1, 5, none⟩ = some (.slice cbz.l cbz.nl cbz.cl)) := fun w' hb => ⟨(HK0.out.below hb (by rw [HSZ.out]; omega)).cell 0, (HK0.out.below hb (by rw [HSZ.out]; omega)).cell 1, (HK0.out.below hb (by rw [HSZ.out]; omega)).cell 2, (HK0.out.below hb (by rw [HSZ.out]; omega)).cell 3, (HK0.out.below hb (by rw [HSZ.out]; omega)).cell 4, (HK0.out.below hb (by rw [HSZ.out]; omega)).cell 5, (HK1.out.below hb (by rw [HSZ.out]; omega)).cell 0, (HK1.out.below hb (by rw [HSZ.out]; omega)).cell 1, (HK1.out.below hb (by rw [HSZ.out]; omega)).cell 2, (HK1.out.below hb (by rw [HSZ.out]; omega)).cell 3, (HK1.out.below hb (by rw [HSZ.out]; omega)).cell 4, (HK1.out.below hb (by rw [HSZ.out]; omega)).cell 5⟩
  have HSS : Hid (∀ w', Below W0.heap.size W0 w' → ∀ x0 x1 x2 x3 x4 x5 : Value, ((((((w'.setCell ⟨w.heap.size + 1 + 1, 0, none⟩ (x0)).setCell ⟨w.heap.size + 1 + 1, 1, none⟩ (x1)).setCell ⟨w.heap.size + 1 + 1, 2, none⟩ (x2)).setCell ⟨w.heap.size + 1 + 1, 3, none⟩ (x3)).setCell ⟨w.heap.size + 1 + 1, 4, none⟩ (x4)).setCell ⟨w.heap.size + 1 + 1, 5, none⟩ (x5)).cell? ⟨w.heap.size, 0, none⟩ = some (.bool cax.n) ∧ ((((((w'.setCell ⟨w.heap.size + 1 + 1, 0, none⟩ (x0)).setCell ⟨w.heap.size + 1 + 1, 1, none⟩ (x1)).setCell ⟨w.heap.size + 1 + 1, 2, none⟩ (x2)).setCell ⟨w.heap.size + 1 + 1, 3, none⟩ (x3)).setCell ⟨w.heap.size + 1 + 1, 4, none⟩ (x4)).setCell ⟨w.heap.size + 1 + 1, 5, none⟩ (x5)).cell? ⟨w.heap.size, 1, none⟩ = some (.slice cax.u cax.nu cax.cu) ∧ ((((((w'.setCell ⟨w.heap.size + 1 + 1, 0, none⟩ (x0)).setCell ⟨w.heap.size + 1 + 1, 1, none⟩ (x1)).setCell ⟨w.heap.size + 1 + 1, 2, none⟩ (x2)).setCell ⟨w.heap.size + 1 + 1, 3, none⟩ (x3)).setCell ⟨w.heap.size + 1 + 1, 4, none⟩ (x4)).setCell ⟨w.heap.size + 1 + 1, 5, none⟩ (x5)).cell? ⟨w.heap.size, 2, none⟩ = some (.slice cax.l cax.nl cax.cl) ∧ ((((((w'.setCell ⟨w.heap.size + 1 + 1, 0, none⟩ (x0)).setCell ⟨w.heap.size + 1 + 1, 1, none⟩ (x1)).setCell ⟨w.heap.size + 1 + 1, 2, none⟩ (x2)).setCell ⟨w.heap.size + 1 + 1, 3, none⟩ (x3)).setCell ⟨w.heap.size + 1 + 1, 4, none⟩ (x4)).setCell ⟨w.heap.size + 1 + 1, 5, none⟩ (x5)).cell? ⟨w.heap.size, 3, none⟩ = some (.bool cay.n) ∧ ((((((w'.setCell ⟨w.heap.size + 1 + 1, 0, none⟩ (x0)).setCell ⟨w.heap.size + 1 + 1, 1, none⟩ (x1)).setCell ⟨w.heap.size + 1 + 1, 2, none⟩ (x2)).setCell ⟨w.heap.size + 1 + 1, 3, none⟩ (x3)).setCell ⟨w.heap.size + 1 + 1, 4, none⟩ (x4)).setCell ⟨w.heap.size + 1 + 1, 5, none⟩ (x5)).cell? ⟨w.heap.size, 4, none⟩ = some (.slice cay.u cay.nu cay.cu) ∧ ((((((w'.setCell ⟨w.heap.size + 1 + 1, 0, none⟩ (x0)).setCell ⟨w.heap.size + 1 + 1, 1, none⟩ (x1)).setCell ⟨w.heap.size + 1 + 1, 2, none⟩ (x2)).setCell ⟨w.heap.size + 1 + 1, 3, none⟩ (x3)).setCell ⟨w.heap.size + 1 + 1, 4, none⟩ (x4)).setCell ⟨w.heap.size + 1 + 1, 5, none⟩ (x5)).cell? ⟨w.heap.size, 5, none⟩ = some (.slice cay.l cay.nl cay.cl) ∧ ((((((w'.setCell ⟨w.heap.size + 1 + 1, 0, none⟩ (x0)).setCell ⟨w.heap.size + 1 + 1, 1, none⟩ (x1)).setCell ⟨w.heap.size + 1 + 1, 2, none⟩ (x2)).setCell ⟨w.heap.size + 1 + 1, 3, none⟩ (x3)).setCell ⟨w.heap.size + 1 + 1, 4, none⟩ (x4)).setCell ⟨w.heap.size + 1 + 1, 5, none⟩ (x5)).cell? ⟨w.heap.size + 1, 0, none⟩ = some (.bool cbx.n) ∧ ((((((w'.setCell ⟨w.heap.size + 1 + 1, 0, none⟩ (x0)).setCell ⟨w.heap.size + 1 + 1, 1, none⟩ (x1)).setCell ⟨w.heap.size + 1 + 1, 2, none⟩ (x2)).setCell ⟨w.heap.size + 1 + 1, 3, none⟩ (x3)).setCell ⟨w.heap.size + 1 + 1, 4, none⟩ (x4)).setCell ⟨w.heap.size + 1 + 1, 5, none⟩ (x5)).cell? ⟨w.heap.size + 1, 1, none⟩ = some (.slice cbx.u cbx.nu cbx.cu) ∧ ((((((w'.setCell ⟨w.heap.size + 1 + 1, 0, none⟩ (x0)).setCell ⟨w.heap.size + 1 + 1, 1, none⟩ (x1)).setCell ⟨w.heap.size + 1 + 1, 2, none⟩ (x2)).setCell ⟨w.heap.size + 1 + 1, 3, none⟩ (x3)).setCell ⟨w.heap.size + 1 + 1, 4, none⟩ (x4)).setCell ⟨w.heap.size + 1 + 1, 5, none⟩ (x5)).cell? ⟨w.heap.size + 1, 2, none⟩ = some (.slice cbx.l cbx.nl cbx.cl) ∧ ((((((w'.setCell ⟨w.heap.size + 1 + 1, 0, none⟩ (x0)).setCell ⟨w.heap.size + 1 + 1, 1, none⟩ (x1)).setCell ⟨w.heap.size + 1 + 1, 2, none⟩ (x2)).setCell ⟨w.heap.size + 1 + 1, 3, none⟩ (x3)).setCell ⟨w.heap.size + 1 + 1, 4, none⟩ (x4)).setCell ⟨w.heap.size + 1 + 1, 5, none⟩ (x5)).cell? ⟨w.heap.size + 1, 3, none⟩ = some (.bool cbz.n) ∧ ((((((w'.setCell ⟨w.heap.size + 1 + 1, 0, none⟩ (x0)).setCell ⟨w.heap.size + 1 + 1, 1, none⟩ (x1)).setCell ⟨w.heap.size + 1 + 1, 2, none⟩ (x2)).setCell ⟨w.heap.size + 1 + 1, 3, none⟩ (x3)).setCell ⟨w.heap.size + 1 + 1, 4, none⟩ (x4)).setCell ⟨w.heap.size + 1 + 1, 5, none⟩ (x5)).cell? ⟨w.heap.size + 1, 4, none⟩ = some (.slice cbz.u cbz.nu cbz.cu) ∧ ((((((w'.setCell ⟨w.heap.size + 1 + 1, 0, none⟩ (x0)).setCell ⟨w.heap.size + 1 + 1, 1, none⟩ (x1)).setCell ⟨w.heap.size + 1 + 1, 2, none⟩ (x2)).setCell ⟨w.heap.size + 1 + 1, 3, none⟩ (x3)).setCell ⟨w.heap.size + 1 + 1, 4, none⟩ (x4)).setCell ⟨w.heap.size + 1 + 1, 5, none⟩ (x5)).cell? ⟨w.heap.size + 1, 5, none⟩ = some (.slice cbz.l cbz.nl cbz.cl)) := fun w' hb x0 x1 x2 x3 x4 x5 => ⟨((HK0.out.below hb (by rw [HSZ.out]; omega)).off6 (g := w.heap.size + 1 + 1) (by omega) x0 x1 x2 x3 x4 x5).cell 0, ((HK0.out.below hb (by rw [HSZ.out]; omega)).off6 (g := w.heap.size + 1 + 1) (by omega) x0 x1 x2 x3 x4 x5).cell 1, ((HK0.out.below hb (by rw [HSZ.out]; omega)).off6 (g := w.heap.size + 1 + 1) (by omega) x0 x1 x2 x3 x4 x5).cell 2, ((HK0.out.below hb (by rw [HSZ.out]; omega)).off6 (g := w.heap.size + 1 + 1) (by omega) x0 x1 x2 x3 x4 x5).cell 3, ((HK0.out.below hb (by rw [HSZ.out]; omega)).off6 (g := w.heap.size + 1 + 1) (by omega) x0 x1 x2 x3 x4 x5).cell 4, ((HK0.out.below hb (by rw [HSZ.out]; omega)).off6 (g := w.heap.size + 1 + 1) (by omega) x0 x1 x2 x3 x4 x5).cell 5, ((HK1.out.below hb (by rw [HSZ.out]; omega)).off6 (g := w.heap.size + 1 + 1) (by omega) x0 x1 x2 x3 x4 x5).cell 0, ((HK1.out.below hb (by rw [HSZ.out]; omega)).off6 (g := w.heap.size + 1 + 1) (by omega) x0 x1 x2 x3 x4 x5).cell 1, ((HK1.out.below hb (by rw [HSZ.out]; omega)).off6 (g := w.heap.size + 1 + 1) (by omega) x0 x1 x2 x3 x4 x5).cell 2, ((HK1.out.below hb (by rw [HSZ.out]; omega)).off6 (g := w.heap.size + 1 + 1) (by omega) x0 x1 x2 x3 x4 x5).cell 3, ((HK1.out.below hb (by rw [HSZ.out]; omega)).off6 (g := w.heap.size + 1 + 1) (by omega) x0 x1 x2 x3 x4 x5).cell 4, ((HK1.out.below hb (by rw [HSZ.out]; omega)).off6 (g := w.heap.size + 1 + 1) (by omega) x0 x1 x2 x3 x4 x5).cell 5⟩
  obtain ⟨z0, z1, z2, z3, z4, z5, z6, z7, z8, z9, z10, z11⟩ := HS.out W0 (Below.refl _ _)
  go_region_held3 (fun w' => w'.cell? ⟨w.heap.size, 0, none⟩ = some (.bool cax.n) ∧ w'.cell? ⟨w.heap.size, 1, none⟩ = some (.slice cax.u cax.nu cax.cu) ∧ w'.cell? ⟨w.heap.size, 2, none⟩ = some (.slice cax.l cax.nl cax.cl) ∧ w'.cell? ⟨w.heap.size, 3, none⟩ = some (.bool cay.n) ∧ w'.cell? ⟨w.heap.size, 4, none⟩ = some (.slice cay.u cay.nu cay.cu) ∧ w'.cell? ⟨w.heap.size, 5, none⟩ = some (.slice cay.l cay.nl cay.cl) ∧ w'.cell? ⟨w.heap.size + 1, 0, none⟩ = some (.bool cbx.n) ∧ w'.cell? ⟨w.heap.size + 1, 1, none⟩ = some (.slice cbx.u cbx.nu cbx.cu) ∧ w'.cell? ⟨w.heap.size + 1, 2, none⟩ = some (.slice cbx.l cbx.nl cbx.cl) ∧ w'.cell? ⟨w.heap.size + 1, 3, none⟩ = some (.bool cbz.n) ∧ w'.cell? ⟨w.heap.size + 1, 4, none⟩ = some (.slice cbz.u cbz.nu cbz.cu) ∧ w'.cell? ⟨w.heap.size + 1, 5, none⟩ = some (.slice cbz.l cbz.nl cbz.cl)) (first | go_keep | exact hs1 | exact hs2 | exact hs3 | exact hs4 | exact hkS)
    (first
      | (go_at_call_of 147 (Value.agg #[Value.bool cbx.n, Value.slice cbx.u cbx.nu cbx.cu, Value.slice cbx.l cbx.nl cbx.cl, Value.bool cbz.n, Value.slice cbz.u cbz.nu cbz.cu, Value.slice cbz.l cbz.nl cbz.cl]); refine (wayConj_calls (w := W0.drew) ⟨cbx, cbz, rfl, (Hbx.out.below (Below.drew (Below.refl _ _))), (Hbz.out.below (Below.drew (Below.refl _ _)))⟩).mono ?_; rintro e w1 ⟨hb1, v1, rfl, hv1⟩; have hbl1 : Below W0.heap.size W0 w1 := (Below.drew (Below.refl _ W0)).trans hb1; have hw1 := hv1; obtain ⟨d1, e1, rfl, hx1, hy1⟩ := hw1; have hs1 := HS.out w1 hbl1)
      | (go_at_call 123; refine (wayDot_calls ⟨cax, cay, rfl, (Hax.out.below hbl1), (Hay.out.below hbl1)⟩ hv1 F1.out F2.out F3.out F5.out HK.out).mono ?_; rintro e w2 ⟨hb2, v2, rfl, hv2⟩; have hbl2 := hbl1.trans (hb2.mono hbl1.size); obtain ⟨d2, rfl⟩ := qv_open hv2; have hs2 := HS.out w2 hbl2)
      | (go_at_call_of 147 (Value.agg #[Value.bool cax.n, Value.slice cax.u cax.nu cax.cu, Value.slice cax.l cax.nl cax.cl, Value.bool cay.n, Value.slice cay.u cay.nu cay.cu, Value.slice cay.l cay.nl cay.cl]); refine (wayConj_calls ⟨cax, cay, rfl, (Hax.out.below hbl2), (Hay.out.below hbl2)⟩).mono ?_; rintro e w3 ⟨hb3, v3, rfl, hv3⟩; have hbl3 := hbl2.trans (hb3.mono hbl2.size); have hw3 := hv3; obtain ⟨d3, e3, rfl, hx3, hy3⟩ := hw3; have hs3 := HS.out w3 hbl3)
      | (go_at_call 115; refine (wayCross_calls hv3 ⟨cbx, cbz, rfl, (Hbx.out.below hbl3), (Hbz.out.below hbl3)⟩ F1.out F6.out F3.out F4.out HL.out).mono ?_; rintro e w4 ⟨hb4, v4, rfl, hv4⟩; have hbl4 := hbl3.trans (hb4.mono hbl3.size); obtain ⟨d4, rfl⟩ := qv_open hv4; have hs4 := HS.out w4 hbl4; have hkr := HK2.out.below hbl4 (by rw [HSZ.out]; omega); obtain ⟨r0, r1, r2, r3, r4, r5, f0, f1, f2, f3, f4, f5⟩ := hkr.all6; have hkS := HSS.out w4 hbl4 (.bool d2.n) (.slice d2.u d2.nu d2.cu) (.slice d2.l d2.nl d2.cl) (.bool d4.n) (.slice d4.u d4.nu d4.cu) (.slice d4.l d4.nl d4.cl))
      )
  all_goals
    go_wp2
    obtain ⟨k0, k1, k2, k3, k4, k5, _, _, _, _, _, _⟩ := (hkr.put6 (.bool d2.n) (.slice d2.u d2.nu d2.cu) (.slice d2.l d2.nl d2.cl) (.bool d4.n) (.slice d4.u d4.nu d4.cu) (.slice d4.l d4.nl d4.cl)).all6
    refine bodyPost_ret (v := .agg #[.bool d2.n, .slice d2.u d2.nu d2.cu, .slice d2.l d2.nl d2.cl, .bool d4.n, .slice d4.u d4.nu d4.cu, .slice d4.l d4.nl d4.cl]) (by simp [results, Tryz.results103, go_sem, k0, k1, k2, k3, k4, k5]) rfl ⟨Below.put6 (HB0.out.trans (hbl4.mono HB0.out.size)) (by omega) (.bool d2.n) (.slice d2.u d2.nu d2.cu) (.slice d2.l d2.nl d2.cl) (.bool d4.n) (.slice d4.u d4.nu d4.cu) (.slice d4.l d4.nl d4.cl), _, rfl, ?_⟩
    have hst := Stays.put6 hkr (by simp [notLimb]) (.bool d2.n) (.slice d2.u d2.nu d2.cu) (.slice d2.l d2.nl d2.cl) (.bool d4.n) (.slice d4.u d4.nu d4.cu) (.slice d4.l d4.nl d4.cl) rfl rfl rfl rfl rfl rfl
    exact ⟨d2, d4, rfl, hst.qv ((hv2.below hb3).below hb4), hst.qv hv4⟩
theorem prod_re (a b c d : Rat) : a * c + b * -d = a * c - b * d := by grind
theorem prod_im (a b c d : Rat) : a * d - -b * c = a * d + b * c := by grind
theorem wayProd_calls {w : World} {va vb : Value} {ax ay bx bz : Rat} {k l : Nat} (ha : WV w va ax ay) (hb : WV w vb bx bz) (f1 : QS k ax) (f2 : QS k ay) (f3 : QS l bx) (f4 : QS l bz) (hk : 2 * (k + l + 1) + 1 ≤ 35184372088640) :
    Calls Tryz.prog 103 #[va, vb] w fun e w' => Below w.heap.size w w' ∧ ∃ v, e = .returned v ∧ WV w' v (ax * bx - ay * bz) (ax * bz + ay * bx) := by
  obtain ⟨c1, c2, rfl, h1, h2⟩ := ha
  obtain ⟨c3, c4, rfl, h3, h4⟩ := hb
  have := wayProd_walk h1 h2 h3 h4 f1 f2 f3 f4 hk
  rwa [prod_re, prod_im] at this
end Go.Proofs.YtgajdmadbdbabaaGreatDoor
/- XB -/
namespace Go.Proofs.YtgajdmadbdbabaaGreatDoor
open Go.RowKit Cx
attribute [local go_sem ↓] Go.wp_at_zero Go.wp_at_succ
theorem QS.fac2 {K : Nat} {x y q : Rat} (f1 : QS K x) (f2 : QS K y) (h : q ∈ [x, y]) : QS (3 * K + 1) (q * Cx.fac [x, y]) := by
  rw [← pl_mul h]
  exact (QS.pl (all2 f1 f2) h).mono (by simp; omega)
theorem cell_put6 (w : World) {g g' : Nat} (hne : g' ≠ g) (j : Nat) (x0 x1 x2 x3 x4 x5 : Value) : ((((((w.setCell ⟨g', 0, none⟩ (x0)).setCell ⟨g', 1, none⟩ (x1)).setCell ⟨g', 2, none⟩ (x2)).setCell ⟨g', 3, none⟩ (x3)).setCell ⟨g', 4, none⟩ (x4)).setCell ⟨g', 5, none⟩ (x5)).cell? ⟨g, j, none⟩ = w.cell? ⟨g, j, none⟩ := by
  have h : ∀ (w : World) (i : Nat) (x : Value), (w.setCell ⟨g', i, none⟩ x).cell? ⟨g, j, none⟩ = w.cell? ⟨g, j, none⟩ := fun w i x => World.cell?_setCell_other _ _ _ _ (by first | exact fun h => hne (congrArg Addr.block h) | exact fun h => hne (congrArg Addr.block h).symm)
  simp only [h]
theorem anglePlain_walk {w : World} {a b : C3} {x y : Rat} (hx : QV w (.agg #[.bool a.n, .slice a.u a.nu a.cu, .slice a.l a.nl a.cl]) x) (hy : QV w (.agg #[.bool b.n, .slice b.u b.nu b.cu, .slice b.l b.nl b.cl]) y) {K : Nat} (f1 : QS K x) (f2 : QS K y) (hk : 3 * K + 2 ≤ 35184372088640) :
    Calls Tryz.prog 146 #[.agg #[.bool a.n, .slice a.u a.nu a.cu, .slice a.l a.nl a.cl, .bool b.n, .slice b.u b.nu b.cu, .slice b.l b.nl b.cl]] w fun e w' => Below w.heap.size w w' ∧ ∃ v, e = .returned v ∧ WV w' v (pl (gN [x, y]) (lD [x, y]) (fb [x, y]) x) (pl (gN [x, y]) (lD [x, y]) (fb [x, y]) y) := by
  obtain ⟨hb0, hk0, hk1, hsz⟩ := boxes2 w #[.bool a.n, .slice a.u a.nu a.cu, .slice a.l a.nl a.cl, .bool b.n, .slice b.u b.nu b.cu, .slice b.l b.nl b.cl] #[.bool false, .slice none 0 0, .slice none 0 0, .bool false, .slice none 0 0, .slice none 0 0] 86 86
  have HB0 := hideIt hb0
  have HSZ := hideIt hsz
  have HK1 := hideIt hk1
  have HX := hideIt (hx.below hb0)
  have HY := hideIt (hy.below hb0)
  have FA := hideIt (all2 f1 f2)
  have HK := hideIt hk
  clear hb0 hsz hk0 hk1 hx hy f1 f2 hk
  have K2 : Hid (([x, y] : List Rat).length * K + K + 2 ≤ 35184372088640) := by have := HK.out; show 2 * K + K + 2 ≤ _; omega
  have HPL : Hid (plain [x, y] = [(pl (gN [x, y]) (lD [x, y]) (fb [x, y]) x), (pl (gN [x, y]) (lD [x, y]) (fb [x, y]) y)]) := rfl
  go_enter Tryz.func146, Tryz.ntmps146
  go_wp2_with fail
  generalize ((w.alloc (.cells #[.bool a.n, .slice a.u a.nu a.cu, .slice a.l a.nl a.cl, .bool b.n, .slice b.u b.nu b.cu, .slice b.l b.nl b.cl] 86)).alloc (.cells #[.bool false, .slice none 0 0, .slice none 0 0, .bool false, .slice none 0 0, .slice none 0 0] 86)) = W0 at *
  have hbA := below_new W0 (.cells #[.bool a.n, .slice a.u a.nu a.cu, .slice a.l a.nl a.cl, .bool b.n, .slice b.u b.nu b.cu, .slice b.l b.nl b.cl] 84)
  have hq3 := qrow2 HX.out HY.out
  rw [HSZ.out] at hq3
  refine (plain_new hq3 FA.out (by simp) K2.out).mono ?_
  rintro e w1 ⟨hb1, v1, rfl, hv1, hnew⟩
  rw [HPL.out] at hv1
  have hbl1 := hideIt (hbA.trans (hb1.mono hbA.size))
  have HK1' := hideIt (HK1.out.below hbl1.out (by rw [HSZ.out]; omega))
  obtain ⟨r0, r1, r2, r3, r4, r5, j0, j1, j2, j3, j4, j5⟩ := HK1'.out.all6
  obtain ⟨p, hp⟩ : ∃ p, p = (pl (gN [x, y]) (lD [x, y]) (fb [x, y]) x) := ⟨_, rfl⟩
  obtain ⟨q, hq⟩ : ∃ q, q = (pl (gN [x, y]) (lD [x, y]) (fb [x, y]) y) := ⟨_, rfl⟩
  rw [← hp, ← hq] at hv1
  have Hp := hideIt hp
  have Hq := hideIt hq
  clear hp hq
  obtain ⟨g, off, cap, rfl, hgl, hcells⟩ := hv1
  have hne : Hid (w.heap.size + 1 ≠ g) := by
    obtain ⟨_, _, _, _, e, hge⟩ := hnew
    cases e
    have h1 := hbA.size
    have h2 := HSZ.out
    show _ ≠ _
    omega
  clear hnew
  obtain ⟨d, d0, d1, d2, hd⟩ := hcells 0 (by simp)
  obtain ⟨e, e0, e1, e2, he⟩ := hcells 1 (by simp)
  have i0 : ∀ wx, (Instr.indexAt 163 (.slice (some ⟨g, off, none⟩) 2 cap) (.int .i64 0)).run Tryz.prog wx = .ok (.pointer (some ⟨g, off, none⟩)) wx := fun wx => qrow_idx (k := 0) (by decide) wx
  have i1 : ∀ wx, (Instr.indexAt 163 (.slice (some ⟨g, off, none⟩) 2 cap) (.int .i64 1)).run Tryz.prog wx = .ok (.pointer (some ⟨g, off + 3, none⟩)) wx := fun wx => qrow_idx (k := 1) (by decide) wx
  have HD : Hid (QV w1 (.agg #[.bool d.n, .slice d.u d.nu d.cu, .slice d.l d.nl d.cl]) p) := hd
  have HE : Hid (QV w1 (.agg #[.bool e.n, .slice e.u e.nu e.cu, .slice e.l e.nl e.cl]) q) := he
  have HS0 : Hid (w1.cell? ⟨g, off, none⟩ = some (.bool d.n) ∧ w1.cell? ⟨g, off + 1, none⟩ = some (.slice d.u d.nu d.cu) ∧ w1.cell? ⟨g, off + 2, none⟩ = some (.slice d.l d.nl d.cl) ∧ w1.cell? ⟨g, off + 3, none⟩ = some (.bool e.n) ∧ w1.cell? ⟨g, off + 4, none⟩ = some (.slice e.u e.nu e.cu) ∧ w1.cell? ⟨g, off + 5, none⟩ = some (.slice e.l e.nl e.cl)) := ⟨d0, d1, d2, e0, e1, e2⟩
  clear d0 d1 d2 e0 e1 e2 hd he hcells hb1 hbA hq3
  obtain ⟨z0, z1, z2, z3, z4, z5⟩ := HS0.out
  have HSS : Hid (∀ w', Below w1.heap.size w1 w' → ∀ x0 x1 x2 x3 x4 x5 : Value, ((((((w'.setCell ⟨w.heap.size + 1, 0, none⟩ (x0)).setCell ⟨w.heap.size + 1, 1, none⟩ (x1)).setCell ⟨w.heap.size + 1, 2, none⟩ (x2)).setCell ⟨w.heap.size + 1, 3, none⟩ (x3)).setCell ⟨w.heap.size + 1, 4, none⟩ (x4)).setCell ⟨w.heap.size + 1, 5, none⟩ (x5)).cell? ⟨g, off, none⟩ = some (.bool d.n) ∧ ((((((w'.setCell ⟨w.heap.size + 1, 0, none⟩ (x0)).setCell ⟨w.heap.size + 1, 1, none⟩ (x1)).setCell ⟨w.heap.size + 1, 2, none⟩ (x2)).setCell ⟨w.heap.size + 1, 3, none⟩ (x3)).setCell ⟨w.heap.size + 1, 4, none⟩ (x4)).setCell ⟨w.heap.size + 1, 5, none⟩ (x5)).cell? ⟨g, off + 1, none⟩ = some (.slice d.u d.nu d.cu) ∧ ((((((w'.setCell ⟨w.heap.size + 1, 0, none⟩ (x0)).setCell ⟨w.heap.size + 1, 1, none⟩ (x1)).setCell ⟨w.heap.size + 1, 2, none⟩ (x2)).setCell ⟨w.heap.size + 1, 3, none⟩ (x3)).setCell ⟨w.heap.size + 1, 4, none⟩ (x4)).setCell ⟨w.heap.size + 1, 5, none⟩ (x5)).cell? ⟨g, off + 2, none⟩ = some (.slice d.l d.nl d.cl) ∧ ((((((w'.setCell ⟨w.heap.size + 1, 0, none⟩ (x0)).setCell ⟨w.heap.size + 1, 1, none⟩ (x1)).setCell ⟨w.heap.size + 1, 2, none⟩ (x2)).setCell ⟨w.heap.size + 1, 3, none⟩ (x3)).setCell ⟨w.heap.size + 1, 4, none⟩ (x4)).setCell ⟨w.heap.size + 1, 5, none⟩ (x5)).cell? ⟨g, off + 3, none⟩ = some (.bool e.n) ∧ ((((((w'.setCell ⟨w.heap.size + 1, 0, none⟩ (x0)).setCell ⟨w.heap.size + 1, 1, none⟩ (x1)).setCell ⟨w.heap.size + 1, 2, none⟩ (x2)).setCell ⟨w.heap.size + 1, 3, none⟩ (x3)).setCell ⟨w.heap.size + 1, 4, none⟩ (x4)).setCell ⟨w.heap.size + 1, 5, none⟩ (x5)).cell? ⟨g, off + 4, none⟩ = some (.slice e.u e.nu e.cu) ∧ ((((((w'.setCell ⟨w.heap.size + 1, 0, none⟩ (x0)).setCell ⟨w.heap.size + 1, 1, none⟩ (x1)).setCell ⟨w.heap.size + 1, 2, none⟩ (x2)).setCell ⟨w.heap.size + 1, 3, none⟩ (x3)).setCell ⟨w.heap.size + 1, 4, none⟩ (x4)).setCell ⟨w.heap.size + 1, 5, none⟩ (x5)).cell? ⟨g, off + 5, none⟩ = some (.slice e.l e.nl e.cl)) := by
    intro w' hb x0 x1 x2 x3 x4 x5
    have h := HS0.out
    simp only [cell_put6 w' hne.out, hb.cell (p := ⟨g, _, none⟩) hgl]
    exact h
  have hkS := HSS.out w1 (Below.refl _ _) (.bool d.n) (.slice d.u d.nu d.cu) (.slice d.l d.nl d.cl) (.bool e.n) (.slice e.u e.nu e.cu) (.slice e.l e.nl e.cl)
  have hkD := HSS.out w1.drew (Below.drew (Below.refl _ _)) (.bool d.n) (.slice d.u d.nu d.cu) (.slice d.l d.nl d.cl) (.bool e.n) (.slice e.u e.nu e.cu) (.slice e.l e.nl e.cl)
  go_wp2_with fail
  go_region_held3 (fun w' => w'.cell? ⟨g, off, none⟩ = some (.bool d.n) ∧ w'.cell? ⟨g, off + 1, none⟩ = some (.slice d.u d.nu d.cu) ∧ w'.cell? ⟨g, off + 2, none⟩ = some (.slice d.l d.nl d.cl) ∧ w'.cell? ⟨g, off + 3, none⟩ = some (.bool e.n) ∧ w'.cell? ⟨g, off + 4, none⟩ = some (.slice e.u e.nu e.cu) ∧ w'.cell? ⟨g, off + 5, none⟩ = some (.slice e.l e.nl e.cl)) (first | go_keep | exact hkS | exact hkD) (fail)
  all_goals
   go_wp2
   obtain ⟨k0, k1, k2, k3, k4, k5, _⟩ := (HK1'.out.put6 (.bool d.n) (.slice d.u d.nu d.cu) (.slice d.l d.nl d.cl) (.bool e.n) (.slice e.u e.nu e.cu) (.slice e.l e.nl e.cl)).all6
   refine bodyPost_ret (v := .agg #[.bool d.n, .slice d.u d.nu d.cu, .slice d.l d.nl d.cl, .bool e.n, .slice e.u e.nu e.cu, .slice e.l e.nl e.cl]) (by simp [results, Tryz.results146, go_sem, k0, k1, k2, k3, k4, k5]) rfl ⟨Below.drew (Below.put6 (HB0.out.trans (hbl1.out.mono HB0.out.size)) (by omega) (.bool d.n) (.slice d.u d.nu d.cu) (.slice d.l d.nl d.cl) (.bool e.n) (.slice e.u e.nu e.cu) (.slice e.l e.nl e.cl)), _, rfl, ?_⟩
   have hst := Stays.put6 HK1'.out (by simp [notLimb]) (.bool d.n) (.slice d.u d.nu d.cu) (.slice d.l d.nl d.cl) (.bool e.n) (.slice e.u e.nu e.cu) (.slice e.l e.nl e.cl) rfl rfl rfl rfl rfl rfl
   exact ⟨d, e, rfl, by rw [← Hp.out]; exact (hst.qv HD.out).below (Below.drew (Below.refl _ _)), by rw [← Hq.out]; exact (hst.qv HE.out).below (Below.drew (Below.refl _ _))⟩
theorem anglePlain_calls {w : World} {v : Value} {x y : Rat} (h : WV w v x y) {K : Nat} (f1 : QS K x) (f2 : QS K y) (hk : 3 * K + 2 ≤ 35184372088640) :
    Calls Tryz.prog 146 #[v] w fun e w' => Below w.heap.size w w' ∧ ∃ v, e = .returned v ∧ WV w' v (x * fac [x, y]) (y * fac [x, y]) := by
  obtain ⟨a, b, rfl, h1, h2⟩ := h
  have := anglePlain_walk h1 h2 f1 f2 hk
  rwa [pl_mul (qs := [x, y]) (by simp), pl_mul (qs := [x, y]) (by simp)] at this
theorem angleText_walk {w : World} {a b : C3} {x y : Rat} (hx : QV w (.agg #[.bool a.n, .slice a.u a.nu a.cu, .slice a.l a.nl a.cl]) x) (hy : QV w (.agg #[.bool b.n, .slice b.u b.nu b.cu, .slice b.l b.nl b.cl]) y) {K : Nat} (f1 : QS K x) (f2 : QS K y) (hk : 3 * K + 2 ≤ 35184372088640) (tab : Tab w) :
    Calls Tryz.prog 99 #[.agg #[.bool a.n, .slice a.u a.nu a.cu, .slice a.l a.nl a.cl, .bool b.n, .slice b.u b.nu b.cu, .slice b.l b.nl b.cl]] w fun e w' => Below w.heap.size w w' ∧ ∃ v, e = .returned v ∧ PV v (tx (y * fac [x, y])) (tx (x * fac [x, y])) := by
  obtain ⟨hb0, hk0, hk1, hsz⟩ := boxes2 w #[.bool a.n, .slice a.u a.nu a.cu, .slice a.l a.nl a.cl, .bool b.n, .slice b.u b.nu b.cu, .slice b.l b.nl b.cl] #[.string ⟨#[]⟩, .string ⟨#[]⟩] 86 67
  have HB0 := hideIt hb0
  have HSZ := hideIt hsz
  have HK0 := hideIt hk0
  have HK1 := hideIt hk1
  have HX := hideIt (hx.below hb0)
  have HY := hideIt (hy.below hb0)
  have HTAB := hideIt tab
  have F1 := hideIt f1
  have F2 := hideIt f2
  have HK := hideIt hk
  have P1 : Hid (QS (3 * K + 1) (x * fac [x, y])) := QS.fac2 f1 f2 (by simp)
  have P2 : Hid (QS (3 * K + 1) (y * fac [x, y])) := QS.fac2 f1 f2 (by simp)
  have K1 : Hid (3 * K + 1 ≤ 35184372088640) := by show _ ≤ _; omega
  clear hb0 hsz hk0 hk1 hx hy tab f1 f2 hk
  go_enter Tryz.func99, Tryz.ntmps99
  go_wp2_with fail
  generalize ((w.alloc (.cells #[.bool a.n, .slice a.u a.nu a.cu, .slice a.l a.nl a.cl, .bool b.n, .slice b.u b.nu b.cu, .slice b.l b.nl b.cl] 86)).alloc (.cells #[.string ⟨#[]⟩, .string ⟨#[]⟩] 67)) = W0 at *
  refine (anglePlain_calls ⟨a, b, rfl, HX.out, HY.out⟩ F1.out F2.out HK.out).mono ?_
  rintro e w1 ⟨hb1, v1, rfl, p, q, rfl, hp, hq⟩
  have hA := HK0.out.below hb1 (by rw [HSZ.out]; omega)
  have hR := HK1.out.below hb1 (by rw [HSZ.out]; omega)
  obtain ⟨r0, r1, r2, r3, r4, r5, j0, j1, j2, j3, j4, j5⟩ := hA.all6
  have HA := hideIt (hA.put6 (.bool p.n) (.slice p.u p.nu p.cu) (.slice p.l p.nl p.cl) (.bool q.n) (.slice q.u q.nu q.cu) (.slice q.l q.nl q.cl))
  have HR := hideIt (hR.off6 (g := w.heap.size) (by omega) (.bool p.n) (.slice p.u p.nu p.cu) (.slice p.l p.nl p.cl) (.bool q.n) (.slice q.u q.nu q.cu) (.slice q.l q.nl q.cl))
  have HST := hideIt (Stays.put6 hA (by simp [notLimb]) (.bool p.n) (.slice p.u p.nu p.cu) (.slice p.l p.nl p.cl) (.bool q.n) (.slice q.u q.nu q.cu) (.slice q.l q.nl q.cl) rfl rfl rfl rfl rfl rfl)
  have HBW := hideIt (Below.put6 (HB0.out.trans (hb1.mono HB0.out.size)) (Nat.le_refl _) (.bool p.n) (.slice p.u p.nu p.cu) (.slice p.l p.nl p.cl) (.bool q.n) (.slice q.u q.nu q.cu) (.slice q.l q.nl q.cl))
  have HP := hideIt (HST.out.qv hp)
  have HQ := hideIt (HST.out.qv hq)
  clear hA hR hp hq HST hb1
  go_wp2_with fail
  generalize ((((((w1.setCell ⟨w.heap.size, 0, none⟩ (.bool p.n)).setCell ⟨w.heap.size, 1, none⟩ (.slice p.u p.nu p.cu)).setCell ⟨w.heap.size, 2, none⟩ (.slice p.l p.nl p.cl)).setCell ⟨w.heap.size, 3, none⟩ (.bool q.n)).setCell ⟨w.heap.size, 4, none⟩ (.slice q.u q.nu q.cu)).setCell ⟨w.heap.size, 5, none⟩ (.slice q.l q.nl q.cl)) = w2 at *
  have HTB := hideIt (HTAB.out.below HBW.out)
  have HS : Hid (∀ w', Below w2.heap.size w2 w' → w'.cell? ⟨w.heap.size, 0, none⟩ = some (.bool p.n) ∧ w'.cell? ⟨w.heap.size, 1, none⟩ = some (.slice p.u p.nu p.cu) ∧ w'.cell? ⟨w.heap.size, 2, none⟩ = some (.slice p.l p.nl p.cl) ∧ w'.cell? ⟨w.heap.size, 3, none⟩ = some (.bool q.n) ∧ w'.cell? ⟨w.heap.size, 4, none⟩ = some (.slice q.u q.nu q.cu) ∧ w'.cell? ⟨w.heap.size, 5, none⟩ = some (.slice q.l q.nl q.cl)) := fun w' hb => ⟨(HA.out.below hb HA.out.lt).cell 0, (HA.out.below hb HA.out.lt).cell 1, (HA.out.below hb HA.out.lt).cell 2, (HA.out.below hb HA.out.lt).cell 3, (HA.out.below hb HA.out.lt).cell 4, (HA.out.below hb HA.out.lt).cell 5⟩
  have HSS : Hid (∀ w', Below w2.heap.size w2 w' → ∀ x0 x1 : Value, ((w'.setCell ⟨w.heap.size + 1, 0, none⟩ x0).setCell ⟨w.heap.size + 1, 1, none⟩ x1).cell? ⟨w.heap.size, 0, none⟩ = some (.bool p.n) ∧ ((w'.setCell ⟨w.heap.size + 1, 0, none⟩ x0).setCell ⟨w.heap.size + 1, 1, none⟩ x1).cell? ⟨w.heap.size, 1, none⟩ = some (.slice p.u p.nu p.cu) ∧ ((w'.setCell ⟨w.heap.size + 1, 0, none⟩ x0).setCell ⟨w.heap.size + 1, 1, none⟩ x1).cell? ⟨w.heap.size, 2, none⟩ = some (.slice p.l p.nl p.cl) ∧ ((w'.setCell ⟨w.heap.size + 1, 0, none⟩ x0).setCell ⟨w.heap.size + 1, 1, none⟩ x1).cell? ⟨w.heap.size, 3, none⟩ = some (.bool q.n) ∧ ((w'.setCell ⟨w.heap.size + 1, 0, none⟩ x0).setCell ⟨w.heap.size + 1, 1, none⟩ x1).cell? ⟨w.heap.size, 4, none⟩ = some (.slice q.u q.nu q.cu) ∧ ((w'.setCell ⟨w.heap.size + 1, 0, none⟩ x0).setCell ⟨w.heap.size + 1, 1, none⟩ x1).cell? ⟨w.heap.size, 5, none⟩ = some (.slice q.l q.nl q.cl)) := fun w' hb x0 x1 => by
    have h := (HA.out.below hb HA.out.lt).off2 (g := w.heap.size + 1) (by omega) x0 x1
    exact ⟨h.cell 0, h.cell 1, h.cell 2, h.cell 3, h.cell 4, h.cell 5⟩
  clear r0 r1 r2 r3 r4 r5 j0 j1 j2 j3 j4 j5
  obtain ⟨z0, z1, z2, z3, z4, z5⟩ := HS.out w2 (Below.refl _ _)
  go_region_held3 (fun w' => w'.cell? ⟨w.heap.size, 0, none⟩ = some (.bool p.n) ∧ w'.cell? ⟨w.heap.size, 1, none⟩ = some (.slice p.u p.nu p.cu) ∧ w'.cell? ⟨w.heap.size, 2, none⟩ = some (.slice p.l p.nl p.cl) ∧ w'.cell? ⟨w.heap.size, 3, none⟩ = some (.bool q.n) ∧ w'.cell? ⟨w.heap.size, 4, none⟩ = some (.slice q.u q.nu q.cu) ∧ w'.cell? ⟨w.heap.size, 5, none⟩ = some (.slice q.l q.nl q.cl)) (first | go_keep | exact hs3 | exact hs4 | exact hkS)
    (first
      | (go_at_call_of 78 (Value.agg #[Value.bool q.n, Value.slice q.u q.nu q.cu, Value.slice q.l q.nl q.cl]); refine (text_calls (w := w2.drew) (HQ.out.below (Below.drew (Below.refl _ _))) P2.out K1.out (HTB.out.below (Below.drew (Below.refl _ _)))).mono ?_; rintro e w3 ⟨hb3, s3, rfl, ht3⟩; have hbl3 : Below w2.heap.size w2 w3 := (Below.drew (Below.refl _ w2)).trans hb3; have hs3 := HS.out w3 hbl3)
      | (go_at_call_of 78 (Value.agg #[Value.bool p.n, Value.slice p.u p.nu p.cu, Value.slice p.l p.nl p.cl]); refine (text_calls (HP.out.below hbl3) P1.out K1.out (HTB.out.below hbl3)).mono ?_; rintro e w4 ⟨hb4, s4, rfl, ht4⟩; have hbl4 := hbl3.trans (hb4.mono hbl3.size); have hs4 := HS.out w4 hbl4; have hkr := HR.out.below hbl4 HR.out.lt; obtain ⟨r0, r1, j0, j1⟩ := hkr.all2; have hkS := HSS.out w4 hbl4 (.string s3) (.string s4))
      )
  all_goals
    go_wp2
    obtain ⟨k0, k1, _⟩ := (hkr.put2 (.string s3) (.string s4)).all2
    exact bodyPost_ret (v := .agg #[.string s3, .string s4]) (by simp [results, Tryz.results99, go_sem, k0, k1]) rfl ⟨Below.put2 (HBW.out.trans (hbl4.mono HBW.out.size)) (by omega) _ _, _, rfl, s3, s4, rfl, ht3, ht4⟩
theorem angleText_calls {w : World} {v : Value} {x y : Rat} (h : WV w v x y) {K : Nat} (f1 : QS K x) (f2 : QS K y) (hk : 3 * K + 2 ≤ 35184372088640) (tab : Tab w) :
    Calls Tryz.prog 99 #[v] w fun e w' => Below w.heap.size w w' ∧ ∃ v, e = .returned v ∧ PV v (tx (y * fac [x, y])) (tx (x * fac [x, y])) := by
  obtain ⟨a, b, rfl, h1, h2⟩ := h
  exact angleText_walk h1 h2 f1 f2 hk tab
end Go.Proofs.YtgajdmadbdbabaaGreatDoor
/- XC -/
namespace Go.Proofs.YtgajdmadbdbabaaGreatDoor
open Go.RowKit Cx
attribute [local go_sem ↓] Go.wp_at_zero Go.wp_at_succ
theorem angleRead_walk {w : World} {s c : ByteArray} (s1 : s.data.toList.length ≤ 4294967296) (s2 : c.data.toList.length ≤ 4294967296) :
    Calls Tryz.prog 98 #[.agg #[.string s, .string c]] w fun e w' => Below w.heap.size w w' ∧ ((rd c.data.toList = 0 ∧ rd s.data.toList = 0 ∧ e = .returned (.tuple #[.agg #[.bool false, .slice none 0 0, .slice none 0 0, .bool false, .slice none 0 0, .slice none 0 0], .int .i64 5])) ∨ (¬ (rd c.data.toList = 0 ∧ rd s.data.toList = 0) ∧ ∃ v, e = .returned (.tuple #[v, .int .i64 0]) ∧ WV w' v (rd c.data.toList) (rd s.data.toList))) := by
  obtain ⟨hb0, hk0, hk1, hsz⟩ := boxes2 w #[.string s, .string c] #[.bool false, .slice none 0 0, .slice none 0 0, .bool false, .slice none 0 0, .slice none 0 0] 67 86
  have HB0 := hideIt hb0
  have HSZ := hideIt hsz
  have HK1 := hideIt hk1
  have L1 := hideIt s1
  have L2 := hideIt s2
  clear hb0 hsz hk0 hk1 s1 s2
  go_enter Tryz.func98, Tryz.ntmps98
  go_wp2_with fail
  generalize ((w.alloc (.cells #[.string s, .string c] 67)).alloc (.cells #[.bool false, .slice none 0 0, .slice none 0 0, .bool false, .slice none 0 0, .slice none 0 0] 86)) = W0 at *
  refine (wayRead_calls ⟨c, s, rfl, rfl, rfl⟩ L2.out L1.out).mono ?_
  rintro _ w1 ⟨hb1, v1, rfl, d, e, rfl, hx, hy⟩
  have HX := hideIt hx
  have HY := hideIt hy
  have HB1 := hideIt hb1
  clear hx hy hb1
  go_wp2_with fail
  obtain ⟨w2, hw2⟩ : ∃ w2, w2 = w1.alloc (.cells #[.bool d.n, .slice d.u d.nu d.cu, .slice d.l d.nl d.cl, .bool e.n, .slice e.u e.nu e.cu, .slice e.l e.nl e.cl] 86) := ⟨_, rfl⟩
  have hbA := below_new w1 (.cells #[.bool d.n, .slice d.u d.nu d.cu, .slice d.l d.nl d.cl, .bool e.n, .slice e.u e.nu e.cu, .slice e.l e.nl e.cl] 86)
  have HKG := hideIt (Blk.new w1 #[.bool d.n, .slice d.u d.nu d.cu, .slice d.l d.nl d.cl, .bool e.n, .slice e.u e.nu e.cu, .slice e.l e.nl e.cl] 86)
  rw [← hw2] at hbA HKG ⊢
  obtain ⟨G, hG⟩ : ∃ G, G = w1.heap.size := ⟨_, rfl⟩
  rw [← hG] at HKG ⊢
  clear hG hw2
  have HB2 := hideIt (HB1.out.trans (hbA.mono HB1.out.size))
  have HX2 := hideIt (HX.out.below hbA)
  have HY2 := hideIt (HY.out.below hbA)
  clear hbA
  refine (nowhere_calls ⟨d, e, rfl, HX2.out, HY2.out⟩).mono ?_
  rintro _ w3 ⟨hb3, rfl⟩
  have HB3 := hideIt (HB2.out.trans (hb3.mono HB2.out.size))
  have HX3 := hideIt (HX2.out.below hb3)
  have HY3 := hideIt (HY2.out.below hb3)
  have HG3 := hideIt (HKG.out.below hb3 HKG.out.lt)
  have HR := hideIt (HK1.out.below HB3.out (by rw [HSZ.out]; omega))
  have HBW := hideIt (HB0.out.trans (HB3.out.mono HB0.out.size))
  clear hb3
  obtain ⟨r0, r1, r2, r3, r4, r5, f0, f1, f2, f3, f4, f5⟩ := HG3.out.all6
  obtain ⟨q0, q1, q2, q3, q4, q5, g0, g1, g2, g3, g4, g5⟩ := HR.out.all6
  by_cases h0 : rd c.data.toList = 0 ∧ rd s.data.toList = 0
  · rw [decide_eq_true h0]
    have H0 := hideIt h0
    clear h0
    go_wp2
    obtain ⟨k0, k1, k2, k3, k4, k5, _⟩ := (HR.out.put6 (.bool false) (.slice none 0 0) (.slice none 0 0) (.bool false) (.slice none 0 0) (.slice none 0 0)).all6
    exact bodyPost_ret (v := .tuple #[.agg #[.bool false, .slice none 0 0, .slice none 0 0, .bool false, .slice none 0 0, .slice none 0 0], .int .i64 5]) (by simp [results, Tryz.results98, go_sem, k0, k1, k2, k3, k4, k5]) rfl ⟨Below.put6 HBW.out (by omega) _ _ _ _ _ _, Or.inl ⟨H0.out.1, H0.out.2, rfl⟩⟩
  · rw [decide_eq_false h0]
    have H0 := hideIt h0
    clear h0
    go_wp2
    obtain ⟨k0, k1, k2, k3, k4, k5, _⟩ := (HR.out.put6 (.bool d.n) (.slice d.u d.nu d.cu) (.slice d.l d.nl d.cl) (.bool e.n) (.slice e.u e.nu e.cu) (.slice e.l e.nl e.cl)).all6
    have hst := Stays.put6 HR.out (by simp [notLimb]) (.bool d.n) (.slice d.u d.nu d.cu) (.slice d.l d.nl d.cl) (.bool e.n) (.slice e.u e.nu e.cu) (.slice e.l e.nl e.cl) rfl rfl rfl rfl rfl rfl
    exact bodyPost_ret (v := .tuple #[.agg #[.bool d.n, .slice d.u d.nu d.cu, .slice d.l d.nl d.cl, .bool e.n, .slice e.u e.nu e.cu, .slice e.l e.nl e.cl], .int .i64 0]) (by simp [results, Tryz.results98, go_sem, k0, k1, k2, k3, k4, k5]) rfl ⟨Below.put6 HBW.out (by omega) _ _ _ _ _ _, Or.inr ⟨H0.out, _, rfl, d, e, rfl, hst.qv HX3.out, hst.qv HY3.out⟩⟩
theorem angleRead_calls {w : World} {v : Value} {ls lc : List UInt8} (h : PV v ls lc) (s1 : ls.length ≤ 4294967296) (s2 : lc.length ≤ 4294967296) :
    Calls Tryz.prog 98 #[v] w fun e w' => Below w.heap.size w w' ∧ ((rd lc = 0 ∧ rd ls = 0 ∧ e = .returned (.tuple #[.agg #[.bool false, .slice none 0 0, .slice none 0 0, .bool false, .slice none 0 0, .slice none 0 0], .int .i64 5])) ∨ (¬ (rd lc = 0 ∧ rd ls = 0) ∧ ∃ v, e = .returned (.tuple #[v, .int .i64 0]) ∧ WV w' v (rd lc) (rd ls))) := by
  obtain ⟨a, b, rfl, rfl, rfl⟩ := h
  exact angleRead_walk s1 s2
def AngAns (none : Prop) (X Y : Rat) (s c : List UInt8) (z : Int) : Prop :=
  (none ∧ z = 5 ∧ s = [] ∧ c = []) ∨ (¬ none ∧ z = 0 ∧ s = tx (Y * fac [X, Y]) ∧ c = tx (X * fac [X, Y]))
theorem angBetween_walk {w : World} {a b p q : C3} {ux uy vx vy : Rat} (h1 : QV w (.agg #[.bool a.n, .slice a.u a.nu a.cu, .slice a.l a.nl a.cl]) ux) (h2 : QV w (.agg #[.bool b.n, .slice b.u b.nu b.cu, .slice b.l b.nl b.cl]) uy) (h3 : QV w (.agg #[.bool p.n, .slice p.u p.nu p.cu, .slice p.l p.nl p.cl]) vx) (h4 : QV w (.agg #[.bool q.n, .slice q.u q.nu q.cu, .slice q.l q.nl q.cl]) vy) {k l : Nat} (f1 : QS k ux) (f2 : QS k uy) (f3 : QS l vx) (f4 : QS l vy) (hk : 3 * (k + l + (k + l) + 1) + 2 ≤ 35184372088640) (tab : Tab w) :
    Calls Tryz.prog 101 #[.agg #[.bool a.n, .slice a.u a.nu a.cu, .slice a.l a.nl a.cl, .bool b.n, .slice b.u b.nu b.cu, .slice b.l b.nl b.cl], .agg #[.bool p.n, .slice p.u p.nu p.cu, .slice p.l p.nl p.cl, .bool q.n, .slice q.u q.nu q.cu, .slice q.l q.nl q.cl]] w fun e w' => Below w.heap.size w w' ∧ ∃ (sa sb : ByteArray) (z : Int), e = .returned (.tuple #[.agg #[.string sa, .string sb], .int .i64 z]) ∧ AngAns ((ux = 0 ∧ uy = 0) ∨ (vx = 0 ∧ vy = 0)) (ux * vx - -uy * vy) (ux * vy + -uy * vx) sa.data.toList sb.data.toList z := by
  obtain ⟨hb0, hk0, hk1, hk2, hsz⟩ := boxes3 w #[.bool a.n, .slice a.u a.nu a.cu, .slice a.l a.nl a.cl, .bool b.n, .slice b.u b.nu b.cu, .slice b.l b.nl b.cl] #[.bool p.n, .slice p.u p.nu p.cu, .slice p.l p.nl p.cl, .bool q.n, .slice q.u q.nu q.cu, .slice q.l q.nl q.cl] #[.string ⟨#[]⟩, .string ⟨#[]⟩] 86 86 67
  have HB0 := hideIt hb0
  have HSZ := hideIt hsz
  have HK0 := hideIt hk0
  have HK1 := hideIt hk1
  have HK2 := hideIt hk2
  have H1 := hideIt (h1.below hb0)
  have H2 := hideIt (h2.below hb0)
  have H3 := hideIt (h3.below hb0)
  have H4 := hideIt (h4.below hb0)
  have HTAB := hideIt (tab.below hb0)
  have F1 := hideIt f1
  have F2 := hideIt f2.neg
  have F3 := hideIt f3
  have F4 := hideIt f4
  have HK := hideIt hk
  have FX : Hid (QS (k + l + (k + l) + 1) (ux * vx - -uy * vy)) := (f1.mul f3).sub (f2.neg.mul f4)
  have FY : Hid (QS (k + l + (k + l) + 1) (ux * vy + -uy * vx)) := (f1.mul f4).add (f2.neg.mul f3)
  have K1 : Hid (2 * (k + l + 1) + 1 ≤ 35184372088640) := by show _ ≤ _; omega
  clear hb0 hsz hk0 hk1 hk2 h1 h2 h3 h4 tab f1 f2 f3 f4 hk
  go_enter Tryz.func101, Tryz.ntmps101
  go_wp2_with fail
  generalize (((w.alloc (.cells #[.bool a.n, .slice a.u a.nu a.cu, .slice a.l a.nl a.cl, .bool b.n, .slice b.u b.nu b.cu, .slice b.l b.nl b.cl] 86)).alloc (.cells #[.bool p.n, .slice p.u p.nu p.cu, .slice p.l p.nl p.cl, .bool q.n, .slice q.u q.nu q.cu, .slice q.l q.nl q.cl] 86)).alloc (.cells #[.string ⟨#[]⟩, .string ⟨#[]⟩] 67)) = W0 at *
  refine (nowhere_calls ⟨a, b, rfl, H1.out, H2.out⟩).mono ?_
  rintro _ w1 ⟨hb1, rfl⟩
  have HB1 := hideIt hb1
  clear hb1
  by_cases h0 : ux = 0 ∧ uy = 0
  · rw [decide_eq_true h0]
    have H0 := hideIt h0
    have HR := hideIt (HK2.out.below HB1.out (by rw [HSZ.out]; omega))
    have HBW := hideIt (HB0.out.trans (HB1.out.mono HB0.out.size))
    obtain ⟨q0, q1, g0, g1⟩ := HR.out.all2
    clear h0
    go_wp2
    obtain ⟨k0, k1, _⟩ := (HR.out.put2 (.string ⟨#[]⟩) (.string ⟨#[]⟩)).all2
    exact bodyPost_ret (v := .tuple #[.agg #[.string ⟨#[]⟩, .string ⟨#[]⟩], .int .i64 5]) (by simp [results, Tryz.results101, go_sem, k0, k1]) rfl ⟨Below.put2 HBW.out (by omega) _ _, _, _, _, rfl, Or.inl ⟨Or.inl H0.out, rfl, rfl, rfl⟩⟩
  · rw [decide_eq_false h0]
    have H0 := hideIt h0
    have HV1 := hideIt (HK1.out.below HB1.out (by rw [HSZ.out]; omega))
    obtain ⟨x0, x1, x2, x3, x4, x5, _⟩ := HV1.out.all6
    clear h0
    go_wp2_with fail
    refine (nowhere_calls ⟨p, q, rfl, H3.out.below HB1.out, H4.out.below HB1.out⟩).mono ?_
    rintro _ w2 ⟨hb2, rfl⟩
    have HB2 := hideIt (HB1.out.trans (hb2.mono HB1.out.size))
    clear hb2 x0 x1 x2 x3 x4 x5
    by_cases h0 : vx = 0 ∧ vy = 0
    · rw [decide_eq_true h0]
      have H5 := hideIt h0
      have HR := hideIt (HK2.out.below HB2.out (by rw [HSZ.out]; omega))
      have HBW := hideIt (HB0.out.trans (HB2.out.mono HB0.out.size))
      obtain ⟨q0, q1, g0, g1⟩ := HR.out.all2
      clear h0
      go_wp2
      obtain ⟨k0, k1, _⟩ := (HR.out.put2 (.string ⟨#[]⟩) (.string ⟨#[]⟩)).all2
      exact bodyPost_ret (v := .tuple #[.agg #[.string ⟨#[]⟩, .string ⟨#[]⟩], .int .i64 5]) (by simp [results, Tryz.results101, go_sem, k0, k1]) rfl ⟨Below.put2 HBW.out (by omega) _ _, _, _, _, rfl, Or.inl ⟨Or.inr H5.out, rfl, rfl, rfl⟩⟩
    · rw [decide_eq_false h0]
      have H5 := hideIt h0
      clear h0
      have HS : Hid (∀ w', Below W0.heap.size W0 w' → w'.cell? ⟨w.heap.size, 0, none⟩ = some (.bool a.n) ∧ w'.cell? ⟨w.heap.size, 1, none⟩ = some (.slice a.u a.nu a.cu) ∧ w'.cell? ⟨w.heap.size, 2, none⟩ = some (.slice a.l a.nl a.cl) ∧ w'.cell? ⟨w.heap.size, 3, none⟩ = some (.bool b.n) ∧ w'.cell? ⟨w.heap.size, 4, none⟩ = some (.slice b.u b.nu b.cu) ∧ w'.cell? ⟨w.heap.size, 5, none⟩ = some (.slice b.l b.nl b.cl) ∧ w'.cell? ⟨w.heap.size + 1, 0, none⟩ = some (.bool p.n) ∧ w'.cell? ⟨w.heap.size + 1, 1, none⟩ = some (.slice p.u p.nu p.cu) ∧ w'.cell? ⟨w.heap.size + 1, 2, none⟩ = some (.slice p.l p.nl p.cl) ∧ w'.cell? ⟨w.heap.size + 1, 3, none⟩ = some (.bool q.n) ∧ w'.cell? ⟨w.heap.size + 1, 4, none⟩ = some (.slice q.u q.nu q.cu) ∧ w'.cell? ⟨w.heap.size + 1, 5, none⟩ = some (.slice q.l q.nl q.cl)) := fun w' hb => ⟨(HK0.out.below hb (by rw [HSZ.out]; omega)).cell 0, (HK0.out.below hb (by rw [HSZ.out]; omega)).cell 1, (HK0.out.below hb (by rw [HSZ.out]; omega)).cell 2, (HK0.out.below hb (by rw [HSZ.out]; omega)).cell 3, (HK0.out.below hb (by rw [HSZ.out]; omega)).cell 4, (HK0.out.below hb (by rw [HSZ.out]; omega)).cell 5, (HK1.out.below hb (by rw [HSZ.out]; omega)).cell 0, (HK1.out.below hb (by rw [HSZ.out]; omega)).cell 1, (HK1.out.below hb (by rw [HSZ.out]; omega)).cell 2, (HK1.out.below hb (by rw [HSZ.out]; omega)).cell 3, (HK1.out.below hb (by rw [HSZ.out]; omega)).cell 4, (HK1.out.below hb (by rw [HSZ.out]; omega)).cell 5⟩
      have HSS : Hid (∀ w', Below W0.heap.size W0 w' → ∀ x0 x1 : Value, ((w'.setCell ⟨w.heap.size + 1 + 1, 0, none⟩ x0).setCell ⟨w.heap.size + 1 + 1, 1, none⟩ x1).cell? ⟨w.heap.size, 0, none⟩ = some (.bool a.n) ∧ ((w'.setCell ⟨w.heap.size + 1 + 1, 0, none⟩ x0).setCell ⟨w.heap.size + 1 + 1, 1, none⟩ x1).cell? ⟨w.heap.size, 1, none⟩ = some (.slice a.u a.nu a.cu) ∧ ((w'.setCell ⟨w.heap.size + 1 + 1, 0, none⟩ x0).setCell ⟨w.heap.size + 1 + 1, 1, none⟩ x1).cell? ⟨w.heap.size, 2, none⟩ = some (.slice a.l a.nl a.cl) ∧ ((w'.setCell ⟨w.heap.size + 1 + 1, 0, none⟩ x0).setCell ⟨w.heap.size + 1 + 1, 1, none⟩ x1).cell? ⟨w.heap.size, 3, none⟩ = some (.bool b.n) ∧ ((w'.setCell ⟨w.heap.size + 1 + 1, 0, none⟩ x0).setCell ⟨w.heap.size + 1 + 1, 1, none⟩ x1).cell? ⟨w.heap.size, 4, none⟩ = some (.slice b.u b.nu b.cu) ∧ ((w'.setCell ⟨w.heap.size + 1 + 1, 0, none⟩ x0).setCell ⟨w.heap.size + 1 + 1, 1, none⟩ x1).cell? ⟨w.heap.size, 5, none⟩ = some (.slice b.l b.nl b.cl) ∧ ((w'.setCell ⟨w.heap.size + 1 + 1, 0, none⟩ x0).setCell ⟨w.heap.size + 1 + 1, 1, none⟩ x1).cell? ⟨w.heap.size + 1, 0, none⟩ = some (.bool p.n) ∧ ((w'.setCell ⟨w.heap.size + 1 + 1, 0, none⟩ x0).setCell ⟨w.heap.size + 1 + 1, 1, none⟩ x1).cell? ⟨w.heap.size + 1, 1, none⟩ = some (.slice p.u p.nu p.cu) ∧ ((w'.setCell ⟨w.heap.size + 1 + 1, 0, none⟩ x0).setCell ⟨w.heap.size + 1 + 1, 1, none⟩ x1).cell? ⟨w.heap.size + 1, 2, none⟩ = some (.slice p.l p.nl p.cl) ∧ ((w'.setCell ⟨w.heap.size + 1 + 1, 0, none⟩ x0).setCell ⟨w.heap.size + 1 + 1, 1, none⟩ x1).cell? ⟨w.heap.size + 1, 3, none⟩ = some (.bool q.n) ∧ ((w'.setCell ⟨w.heap.size + 1 + 1, 0, none⟩ x0).setCell ⟨w.heap.size + 1 + 1, 1, none⟩ x1).cell? ⟨w.heap.size + 1, 4, none⟩ = some (.slice q.u q.nu q.cu) ∧ ((w'.setCell ⟨w.heap.size + 1 + 1, 0, none⟩ x0).setCell ⟨w.heap.size + 1 + 1, 1, none⟩ x1).cell? ⟨w.heap.size + 1, 5, none⟩ = some (.slice q.l q.nl q.cl)) := fun w' hb x0 x1 => by
        have h := (HK0.out.below hb (by rw [HSZ.out]; omega)).off2 (g := w.heap.size + 1 + 1) (by omega) x0 x1
        have h' := (HK1.out.below hb (by rw [HSZ.out]; omega)).off2 (g := w.heap.size + 1 + 1) (by omega) x0 x1
        exact ⟨h.cell 0, h.cell 1, h.cell 2, h.cell 3, h.cell 4, h.cell 5, h'.cell 0, h'.cell 1, h'.cell 2, h'.cell 3, h'.cell 4, h'.cell 5⟩
      have HBD : Hid (Below W0.heap.size W0 w2.drew) := Below.drew HB2.out
      obtain ⟨z0, z1, z2, z3, z4, z5, z6, z7, z8, z9, z10, z11⟩ := HS.out w2 HB2.out
      go_wp2_with fail
      go_region_held3 (fun w' => w'.cell? ⟨w.heap.size, 0, none⟩ = some (.bool a.n) ∧ w'.cell? ⟨w.heap.size, 1, none⟩ = some (.slice a.u a.nu a.cu) ∧ w'.cell? ⟨w.heap.size, 2, none⟩ = some (.slice a.l a.nl a.cl) ∧ w'.cell? ⟨w.heap.size, 3, none⟩ = some (.bool b.n) ∧ w'.cell? ⟨w.heap.size, 4, none⟩ = some (.slice b.u b.nu b.cu) ∧ w'.cell? ⟨w.heap.size, 5, none⟩ = some (.slice b.l b.nl b.cl) ∧ w'.cell? ⟨w.heap.size + 1, 0, none⟩ = some (.bool p.n) ∧ w'.cell? ⟨w.heap.size + 1, 1, none⟩ = some (.slice p.u p.nu p.cu) ∧ w'.cell? ⟨w.heap.size + 1, 2, none⟩ = some (.slice p.l p.nl p.cl) ∧ w'.cell? ⟨w.heap.size + 1, 3, none⟩ = some (.bool q.n) ∧ w'.cell? ⟨w.heap.size + 1, 4, none⟩ = some (.slice q.u q.nu q.cu) ∧ w'.cell? ⟨w.heap.size + 1, 5, none⟩ = some (.slice q.l q.nl q.cl)) (first | go_keep | exact hs3 | exact hs4 | exact hs5 | exact hkS)
        (first
          | (go_at_call 147; refine (wayConj_calls (w := w2.drew) ⟨a, b, rfl, H1.out.below HBD.out, H2.out.below HBD.out⟩).mono ?_; rintro _ w3 ⟨hb3, v3, rfl, hv3⟩; obtain ⟨d3, e3, rfl, hx3, hy3⟩ := hv3; have hbl3 : Below W0.heap.size W0 w3 := HBD.out.trans (hb3.mono HBD.out.size); have hs3 := HS.out w3 hbl3)
          | (go_at_call 103; refine (wayProd_calls ⟨d3, e3, rfl, hx3, hy3⟩ ⟨p, q, rfl, H3.out.below hbl3, H4.out.below hbl3⟩ F1.out F2.out F3.out F4.out K1.out).mono ?_; rintro _ w4 ⟨hb4, v4, rfl, hv4⟩; obtain ⟨d4, e4, rfl, hx4, hy4⟩ := hv4; have hbl4 := hbl3.trans (hb4.mono hbl3.size); have hs4 := HS.out w4 hbl4)
          | (go_at_call 99; refine (angleText_calls ⟨d4, e4, rfl, hx4, hy4⟩ FX.out FY.out HK.out (HTAB.out.below hbl4)).mono ?_; rintro _ w5 ⟨hb5, v5, rfl, sa, sb, rfl, ta, tb⟩; have hbl5 := hbl4.trans (hb5.mono hbl4.size); have hs5 := HS.out w5 hbl5; have hkr := HK2.out.below hbl5 (by rw [HSZ.out]; omega); obtain ⟨q0, q1, g0, g1⟩ := hkr.all2; have hkS := HSS.out w5 hbl5 (.string sa) (.string sb))
          )
      all_goals
        go_wp2
        obtain ⟨k0, k1, _⟩ := (hkr.put2 (.string sa) (.string sb)).all2
        exact bodyPost_ret (v := .tuple #[.agg #[.string sa, .string sb], .int .i64 0]) (by simp [results, Tryz.results101, go_sem, k0, k1]) rfl ⟨Below.put2 (HB0.out.trans (hbl5.mono HB0.out.size)) (by omega) _ _, _, _, _, rfl, Or.inr ⟨fun h => h.elim H0.out H5.out, rfl, ta, tb⟩⟩
theorem angBetween_calls {w : World} {va vb : Value} {ux uy vx vy : Rat} (ha : WV w va ux uy) (hb : WV w vb vx vy) {k l : Nat} (f1 : QS k ux) (f2 : QS k uy) (f3 : QS l vx) (f4 : QS l vy) (hk : 3 * (k + l + (k + l) + 1) + 2 ≤ 35184372088640) (tab : Tab w) :
    Calls Tryz.prog 101 #[va, vb] w fun e w' => Below w.heap.size w w' ∧ ∃ (sa sb : ByteArray) (z : Int), e = .returned (.tuple #[.agg #[.string sa, .string sb], .int .i64 z]) ∧ AngAns ((ux = 0 ∧ uy = 0) ∨ (vx = 0 ∧ vy = 0)) (ux * vx - -uy * vy) (ux * vy + -uy * vx) sa.data.toList sb.data.toList z := by
  obtain ⟨a, b, rfl, h1, h2⟩ := ha
  obtain ⟨p, q, rfl, h3, h4⟩ := hb
  exact angBetween_walk h1 h2 h3 h4 f1 f2 f3 f4 hk tab
end Go.Proofs.YtgajdmadbdbabaaGreatDoor
/- XD -/
namespace Go.Proofs.YtgajdmadbdbabaaGreatDoor
open Go.RowKit Cx
attribute [local go_sem ↓] Go.wp_at_zero Go.wp_at_succ
theorem angFrom_walk {w : World} {la lb lc ma mb mc : ByteArray} (s1 : la.data.toList.length ≤ 4294967296) (s2 : lb.data.toList.length ≤ 4294967296) (s3 : lc.data.toList.length ≤ 4294967296) (s4 : ma.data.toList.length ≤ 4294967296) (s5 : mb.data.toList.length ≤ 4294967296) (s6 : mc.data.toList.length ≤ 4294967296) {k : Nat} (f1 : QS k (rd la.data.toList)) (f2 : QS k (rd lb.data.toList)) (f3 : QS k (rd ma.data.toList)) (f4 : QS k (rd mb.data.toList)) (hk : 20 * (k + 1) ≤ 35184372088640) (tab : Tab w) :
    Calls Tryz.prog 57 #[.agg #[.string la, .string lb, .string lc], .agg #[.string ma, .string mb, .string mc]] w fun e w' => Below w.heap.size w w' ∧ ∃ (sa sb : ByteArray) (z : Int), e = .returned (.tuple #[.agg #[.string sa, .string sb], .int .i64 z]) ∧ AngAns ((rd la.data.toList = 0 ∧ rd lb.data.toList = 0) ∨ (rd ma.data.toList = 0 ∧ rd mb.data.toList = 0)) (rd la.data.toList * rd ma.data.toList - -rd lb.data.toList * rd mb.data.toList) (rd la.data.toList * rd mb.data.toList + -rd lb.data.toList * rd ma.data.toList) sa.data.toList sb.data.toList z := by
  obtain ⟨hb0, hk0, hk1, hk2, hsz⟩ := boxes3 w #[.string la, .string lb, .string lc] #[.string ma, .string mb, .string mc] #[.string ⟨#[]⟩, .string ⟨#[]⟩] 26 26 67
  have HB0 := hideIt hb0
  have HSZ := hideIt hsz
  have HK1 := hideIt hk1
  have HK2 := hideIt hk2
  have HTAB := hideIt (tab.below hb0)
  have S1 := hideIt s1
  have S2 := hideIt s2
  have S3 := hideIt s3
  have S4 := hideIt s4
  have S5 := hideIt s5
  have S6 := hideIt s6
  have F1 := hideIt f1
  have F2 := hideIt f2
  have F3 := hideIt f3
  have F4 := hideIt f4
  have HK := hideIt hk
  clear hb0 hsz hk0 hk1 hk2 tab s1 s2 s3 s4 s5 s6 f1 f2 f3 f4 hk
  go_enter Tryz.func57, Tryz.ntmps57
  go_wp2_with fail
  generalize (((w.alloc (.cells #[.string la, .string lb, .string lc] 26)).alloc (.cells #[.string ma, .string mb, .string mc] 26)).alloc (.cells #[.string ⟨#[]⟩, .string ⟨#[]⟩] 67)) = W0 at *
  refine (rulerRead_calls ⟨la, lb, lc, rfl, rfl, rfl, rfl⟩ S1.out S2.out S3.out).mono ?_
  rintro _ w1 ⟨hb1, ⟨h1, h2, rfl⟩ | ⟨hn, v1, rfl, hv1⟩⟩
  · have HKR := hideIt (HK2.out.below hb1 (by rw [HSZ.out]; omega))
    have HBW := hideIt (HB0.out.trans (hb1.mono HB0.out.size))
    have HH := hideIt (And.intro h1 h2)
    have r0 : ∀ o, (w1.alloc o).cell? ⟨w.heap.size + 1 + 1, 0, none⟩ = some (.string ⟨#[]⟩) := fun o => (HKR.out.old o).cell 0
    have j0 : ∀ o, (w1.alloc o).frozen? ⟨w.heap.size + 1 + 1, 0, none⟩ = false := fun o => (HKR.out.old o).frozen 0
    have r1 : ∀ o, (w1.alloc o).cell? ⟨w.heap.size + 1 + 1, 1, none⟩ = some (.string ⟨#[]⟩) := fun o => (HKR.out.old o).cell 1
    have j1 : ∀ o, (w1.alloc o).frozen? ⟨w.heap.size + 1 + 1, 1, none⟩ = false := fun o => (HKR.out.old o).frozen 1
    obtain ⟨q0, q1, g0, g1⟩ := HKR.out.all2
    have lR := HKR.out.lt
    clear hb1 h1 h2
    go_wp2
    obtain ⟨k0, k1, _⟩ := ((HKR.out.put2 (.string ⟨#[]⟩) (.string ⟨#[]⟩)).old (.cells #[.bool false, .slice none 0 0, .slice none 0 0, .bool false, .slice none 0 0, .slice none 0 0, .bool false, .slice none 0 0, .slice none 0 0] 97)).all2
    have hbf := (Below.put2 HBW.out (g := w.heap.size + 1 + 1) (by omega) (.string ⟨#[]⟩) (.string ⟨#[]⟩))
    exact bodyPost_ret (v := .tuple #[.agg #[.string ⟨#[]⟩, .string ⟨#[]⟩], .int .i64 5]) (by simp [results, Tryz.results57, go_sem, k0, k1]) rfl ⟨hbf.alloc hbf.size _, _, _, _, rfl, Or.inl ⟨Or.inl HH.out, rfl, rfl, rfl⟩⟩
  · obtain ⟨a, b, c, rfl, hx0, hx1, hx2⟩ := hv1
    have N0 := hideIt hx0
    have N1 := hideIt hx1
    have N2 := hideIt hx2
    have HN := hideIt hn
    have HB1 := hideIt hb1
    have HKM1 := hideIt (HK1.out.below hb1 (by rw [HSZ.out]; omega))
    have m0 : ∀ o, (w1.alloc o).cell? ⟨w.heap.size + 1, 0, none⟩ = some (.string ma) := fun o => (HKM1.out.old o).cell 0
    have m1 : ∀ o, (w1.alloc o).cell? ⟨w.heap.size + 1, 1, none⟩ = some (.string mb) := fun o => (HKM1.out.old o).cell 1
    have m2 : ∀ o, (w1.alloc o).cell? ⟨w.heap.size + 1, 2, none⟩ = some (.string mc) := fun o => (HKM1.out.old o).cell 2
    clear hx0 hx1 hx2 hn hb1
    go_wp2_with fail
    obtain ⟨w2, hw2⟩ : ∃ w2, w2 = w1.alloc (.cells #[.bool a.n, .slice a.u a.nu a.cu, .slice a.l a.nl a.cl, .bool b.n, .slice b.u b.nu b.cu, .slice b.l b.nl b.cl, .bool c.n, .slice c.u c.nu c.cu, .slice c.l c.nl c.cl] 97) := ⟨_, rfl⟩
    have hbA := below_new w1 (.cells #[.bool a.n, .slice a.u a.nu a.cu, .slice a.l a.nl a.cl, .bool b.n, .slice b.u b.nu b.cu, .slice b.l b.nl b.cl, .bool c.n, .slice c.u c.nu c.cu, .slice c.l c.nl c.cl] 97)
    have HKG := hideIt (Blk.new w1 #[.bool a.n, .slice a.u a.nu a.cu, .slice a.l a.nl a.cl, .bool b.n, .slice b.u b.nu b.cu, .slice b.l b.nl b.cl, .bool c.n, .slice c.u c.nu c.cu, .slice c.l c.nl c.cl] 97)
    rw [← hw2] at hbA HKG ⊢
    obtain ⟨G, hG⟩ : ∃ G, G = w1.heap.size := ⟨_, rfl⟩
    rw [← hG] at HKG ⊢
    clear hG hw2
    have HBL : Hid (Below W0.heap.size W0 w2) := HB1.out.trans (hbA.mono HB1.out.size)
    have O0 := hideIt (N0.out.below hbA)
    have O1 := hideIt (N1.out.below hbA)
    have O2 := hideIt (N2.out.below hbA)
    clear hbA m0 m1 m2
    refine (rulerRead_calls ⟨ma, mb, mc, rfl, rfl, rfl, rfl⟩ S4.out S5.out S6.out).mono ?_
    rintro _ w3 ⟨hb3, ⟨h1, h2, rfl⟩ | ⟨hm, v3, rfl, hv3⟩⟩
    · have hbl3 := HBL.out.trans (hb3.mono HBL.out.size)
      have HKR := hideIt (HK2.out.below hbl3 (by rw [HSZ.out]; omega))
      have HBW := hideIt (HB0.out.trans (hbl3.mono HB0.out.size))
      have HH := hideIt (And.intro h1 h2)
      have r0 : ∀ o, (w3.alloc o).cell? ⟨w.heap.size + 1 + 1, 0, none⟩ = some (.string ⟨#[]⟩) := fun o => (HKR.out.old o).cell 0
      have j0 : ∀ o, (w3.alloc o).frozen? ⟨w.heap.size + 1 + 1, 0, none⟩ = false := fun o => (HKR.out.old o).frozen 0
      have r1 : ∀ o, (w3.alloc o).cell? ⟨w.heap.size + 1 + 1, 1, none⟩ = some (.string ⟨#[]⟩) := fun o => (HKR.out.old o).cell 1
      have j1 : ∀ o, (w3.alloc o).frozen? ⟨w.heap.size + 1 + 1, 1, none⟩ = false := fun o => (HKR.out.old o).frozen 1
      obtain ⟨q0, q1, g0, g1⟩ := HKR.out.all2
      have lR := HKR.out.lt
      clear hb3 h1 h2 hbl3
      go_wp2
      obtain ⟨k0, k1, _⟩ := ((HKR.out.put2 (.string ⟨#[]⟩) (.string ⟨#[]⟩)).old (.cells #[.bool false, .slice none 0 0, .slice none 0 0, .bool false, .slice none 0 0, .slice none 0 0, .bool false, .slice none 0 0, .slice none 0 0] 97)).all2
      have hbf := (Below.put2 HBW.out (g := w.heap.size + 1 + 1) (by omega) (.string ⟨#[]⟩) (.string ⟨#[]⟩))
      exact bodyPost_ret (v := .tuple #[.agg #[.string ⟨#[]⟩, .string ⟨#[]⟩], .int .i64 5]) (by simp [results, Tryz.results57, go_sem, k0, k1]) rfl ⟨hbf.alloc hbf.size _, _, _, _, rfl, Or.inl ⟨Or.inr HH.out, rfl, rfl, rfl⟩⟩
    · obtain ⟨p, q, r, rfl, hy0, hy1, hy2⟩ := hv3
      have P0 := hideIt hy0
      have P1 := hideIt hy1
      have P2 := hideIt hy2
      have HM := hideIt hm
      have HBL3 := hideIt (HBL.out.trans (hb3.mono HBL.out.size))
      have R0 := hideIt (O0.out.below hb3)
      have R1 := hideIt (O1.out.below hb3)
      have R2 := hideIt (O2.out.below hb3)
      have HKG3 := hideIt (HKG.out.below hb3 HKG.out.lt)
      clear hy0 hy1 hy2 hm hb3
      have y0 : ∀ o, (w3.alloc o).cell? ⟨G, 0, none⟩ = some (.bool a.n) := fun o => (HKG3.out.old o).cell 0
      have y1 : ∀ o, (w3.alloc o).cell? ⟨G, 1, none⟩ = some (.slice a.u a.nu a.cu) := fun o => (HKG3.out.old o).cell 1
      have y2 : ∀ o, (w3.alloc o).cell? ⟨G, 2, none⟩ = some (.slice a.l a.nl a.cl) := fun o => (HKG3.out.old o).cell 2
      have y3 : ∀ o, (w3.alloc o).cell? ⟨G, 3, none⟩ = some (.bool b.n) := fun o => (HKG3.out.old o).cell 3
      have y4 : ∀ o, (w3.alloc o).cell? ⟨G, 4, none⟩ = some (.slice b.u b.nu b.cu) := fun o => (HKG3.out.old o).cell 4
      have y5 : ∀ o, (w3.alloc o).cell? ⟨G, 5, none⟩ = some (.slice b.l b.nl b.cl) := fun o => (HKG3.out.old o).cell 5
      have y6 : ∀ o, (w3.alloc o).cell? ⟨G, 6, none⟩ = some (.bool c.n) := fun o => (HKG3.out.old o).cell 6
      have y7 : ∀ o, (w3.alloc o).cell? ⟨G, 7, none⟩ = some (.slice c.u c.nu c.cu) := fun o => (HKG3.out.old o).cell 7
      have y8 : ∀ o, (w3.alloc o).cell? ⟨G, 8, none⟩ = some (.slice c.l c.nl c.cl) := fun o => (HKG3.out.old o).cell 8
      go_wp2_with fail
      obtain ⟨w4, hw4⟩ : ∃ w4, w4 = w3.alloc (.cells #[.bool p.n, .slice p.u p.nu p.cu, .slice p.l p.nl p.cl, .bool q.n, .slice q.u q.nu q.cu, .slice q.l q.nl q.cl, .bool r.n, .slice r.u r.nu r.cu, .slice r.l r.nl r.cl] 97) := ⟨_, rfl⟩
      have hbA := below_new w3 (.cells #[.bool p.n, .slice p.u p.nu p.cu, .slice p.l p.nl p.cl, .bool q.n, .slice q.u q.nu q.cu, .slice q.l q.nl q.cl, .bool r.n, .slice r.u r.nu r.cu, .slice r.l r.nl r.cl] 97)
      have HKH := hideIt (Blk.new w3 #[.bool p.n, .slice p.u p.nu p.cu, .slice p.l p.nl p.cl, .bool q.n, .slice q.u q.nu q.cu, .slice q.l q.nl q.cl, .bool r.n, .slice r.u r.nu r.cu, .slice r.l r.nl r.cl] 97)
      rw [← hw4] at hbA HKH ⊢
      obtain ⟨H, hH⟩ : ∃ H, H = w3.heap.size := ⟨_, rfl⟩
      rw [← hH] at HKH ⊢
      clear hH hw4
      have HBL4 : Hid (Below W0.heap.size W0 w4) := HBL3.out.trans (hbA.mono HBL3.out.size)
      have KB : Hid (3 * (k + k + (k + k) + 1) + 2 ≤ 35184372088640) := by have := HK.out; show _ ≤ _; omega
      refine (angBetween_calls ⟨a, b, rfl, R0.out.below hbA, R1.out.below hbA⟩ ⟨p, q, rfl, P0.out.below hbA, P1.out.below hbA⟩ F1.out F2.out F3.out F4.out KB.out (HTAB.out.below HBL4.out)).mono ?_
      rintro _ w5 ⟨hb5, sa, sb, z, rfl, hans⟩
      have hbl5 := HBL4.out.trans (hb5.mono HBL4.out.size)
      have HKR := hideIt (HK2.out.below hbl5 (by rw [HSZ.out]; omega))
      have HBW := hideIt (HB0.out.trans (hbl5.mono HB0.out.size))
      have HANS := hideIt hans
      obtain ⟨q0, q1, g0, g1⟩ := HKR.out.all2
      clear hbA y0 y1 y2 y3 y4 y5 y6 y7 y8 hb5 hbl5 hans
      go_wp2
      obtain ⟨k0, k1, _⟩ := (HKR.out.put2 (.string sa) (.string sb)).all2
      exact bodyPost_ret (v := .tuple #[.agg #[.string sa, .string sb], .int .i64 z]) (by simp [results, Tryz.results57, go_sem, k0, k1]) rfl ⟨Below.put2 HBW.out (by omega) _ _, sa, sb, z, rfl, HANS.out⟩
theorem angFrom_calls {w : World} {va vb : Value} {la lb lc ma mb mc : List UInt8} (ha : TV va la lb lc) (hb : TV vb ma mb mc) (s1 : la.length ≤ 4294967296) (s2 : lb.length ≤ 4294967296) (s3 : lc.length ≤ 4294967296) (s4 : ma.length ≤ 4294967296) (s5 : mb.length ≤ 4294967296) (s6 : mc.length ≤ 4294967296) {k : Nat} (f1 : QS k (rd la)) (f2 : QS k (rd lb)) (f3 : QS k (rd ma)) (f4 : QS k (rd mb)) (hk : 20 * (k + 1) ≤ 35184372088640) (tab : Tab w) :
    Calls Tryz.prog 57 #[va, vb] w fun e w' => Below w.heap.size w w' ∧ ∃ (sa sb : ByteArray) (z : Int), e = .returned (.tuple #[.agg #[.string sa, .string sb], .int .i64 z]) ∧ AngAns ((rd la = 0 ∧ rd lb = 0) ∨ (rd ma = 0 ∧ rd mb = 0)) (rd la * rd ma - -rd lb * rd mb) (rd la * rd mb + -rd lb * rd ma) sa.data.toList sb.data.toList z := by
  obtain ⟨a, b, c, rfl, rfl, rfl, rfl⟩ := ha
  obtain ⟨d, e, f, rfl, rfl, rfl, rfl⟩ := hb
  exact angFrom_walk s1 s2 s3 s4 s5 s6 f1 f2 f3 f4 hk tab
end Go.Proofs.YtgajdmadbdbabaaGreatDoor
/- XE -/
namespace Go.Proofs.YtgajdmadbdbabaaGreatDoor
open Go.RowKit Cx
attribute [local go_sem ↓] Go.wp_at_zero Go.wp_at_succ
theorem angSeen_walk {w : World} {ax ay bx bz px pz : ByteArray} (s1 : ax.data.toList.length ≤ 4294967296) (s2 : ay.data.toList.length ≤ 4294967296) (s3 : bx.data.toList.length ≤ 4294967296) (s4 : bz.data.toList.length ≤ 4294967296) (s5 : px.data.toList.length ≤ 4294967296) (s6 : pz.data.toList.length ≤ 4294967296) {k : Nat} (f1 : QS k (rd ax.data.toList)) (f2 : QS k (rd ay.data.toList)) (f3 : QS k (rd bx.data.toList)) (f4 : QS k (rd bz.data.toList)) (f5 : QS k (rd px.data.toList)) (f6 : QS k (rd pz.data.toList)) (hk : 40 * (k + 1) ≤ 35184372088640) (tab : Tab w) :
    Calls Tryz.prog 60 #[.agg #[.string ax, .string ay], .agg #[.string bx, .string bz], .agg #[.string px, .string pz]] w fun e w' => Below w.heap.size w w' ∧ ∃ (sa sb : ByteArray) (z : Int), e = .returned (.tuple #[.agg #[.string sa, .string sb], .int .i64 z]) ∧ AngAns (((rd ax.data.toList - rd px.data.toList) = 0 ∧ (rd ay.data.toList - rd pz.data.toList) = 0) ∨ ((rd bx.data.toList - rd px.data.toList) = 0 ∧ (rd bz.data.toList - rd pz.data.toList) = 0)) ((rd ax.data.toList - rd px.data.toList) * (rd bx.data.toList - rd px.data.toList) - -(rd ay.data.toList - rd pz.data.toList) * (rd bz.data.toList - rd pz.data.toList)) ((rd ax.data.toList - rd px.data.toList) * (rd bz.data.toList - rd pz.data.toList) + -(rd ay.data.toList - rd pz.data.toList) * (rd bx.data.toList - rd px.data.toList)) sa.data.toList sb.data.toList z := by
  obtain ⟨hb0, hk0, hk1, hk2, hk3, hsz⟩ := boxes4 w #[.string ax, .string ay] #[.string bx, .string bz] #[.string px, .string pz] #[.string ⟨#[]⟩, .string ⟨#[]⟩] 24 24 24 67
  have HB0 := hideIt hb0
  have HSZ := hideIt hsz
  have HK0 := hideIt hk0
  have HK1 := hideIt hk1
  have HK3 := hideIt hk3
  have HTAB := hideIt (tab.below hb0)
  have S1 := hideIt s1
  have F1 := hideIt f1
  have S2 := hideIt s2
  have F2 := hideIt f2
  have S3 := hideIt s3
  have F3 := hideIt f3
  have S4 := hideIt s4
  have F4 := hideIt f4
  have S5 := hideIt s5
  have F5 := hideIt f5
  have S6 := hideIt s6
  have F6 := hideIt f6
  have HK := hideIt hk
  have FU1 : Hid (QS (k + k + 1) (rd ax.data.toList - rd px.data.toList)) := f1.sub f5
  have FU2 : Hid (QS (k + k + 1) (rd ay.data.toList - rd pz.data.toList)) := f2.sub f6
  have FV1 : Hid (QS (k + k + 1) (rd bx.data.toList - rd px.data.toList)) := f3.sub f5
  have FV2 : Hid (QS (k + k + 1) (rd bz.data.toList - rd pz.data.toList)) := f4.sub f6
  have KA : Hid (k + k + 1 ≤ 35184372088640) := by show _ ≤ _; omega
  have KB : Hid (3 * (k + k + 1 + (k + k + 1) + (k + k + 1 + (k + k + 1)) + 1) + 2 ≤ 35184372088640) := by show _ ≤ _; omega
  clear hb0 hsz hk0 hk1 hk2 hk3 tab s1 f1 s2 f2 s3 f3 s4 f4 s5 f5 s6 f6 hk
  go_enter Tryz.func60, Tryz.ntmps60
  go_wp2_with fail
  generalize ((((w.alloc (.cells #[.string ax, .string ay] 24)).alloc (.cells #[.string bx, .string bz] 24)).alloc (.cells #[.string px, .string pz] 24)).alloc (.cells #[.string ⟨#[]⟩, .string ⟨#[]⟩] 67)) = W0 at *
  refine (wayRead_calls ⟨px, pz, rfl, rfl, rfl⟩ S5.out S6.out).mono ?_
  rintro _ w1 ⟨hb1, v1, rfl, d, e, rfl, hx, hy⟩
  have HX := hideIt hx
  have HY := hideIt hy
  have HB1 := hideIt hb1
  have HA1 := hideIt (HK0.out.below hb1 (by rw [HSZ.out]; omega))
  have a0 : ∀ o, (w1.alloc o).cell? ⟨w.heap.size, 0, none⟩ = some (.string ax) := fun o => (HA1.out.old o).cell 0
  have a1 : ∀ o, (w1.alloc o).cell? ⟨w.heap.size, 1, none⟩ = some (.string ay) := fun o => (HA1.out.old o).cell 1
  clear hx hy hb1
  go_wp2_with fail
  obtain ⟨w2, hw2⟩ : ∃ w2, w2 = w1.alloc (.cells #[.bool d.n, .slice d.u d.nu d.cu, .slice d.l d.nl d.cl, .bool e.n, .slice e.u e.nu e.cu, .slice e.l e.nl e.cl] 86) := ⟨_, rfl⟩
  have hbA := below_new w1 (.cells #[.bool d.n, .slice d.u d.nu d.cu, .slice d.l d.nl d.cl, .bool e.n, .slice e.u e.nu e.cu, .slice e.l e.nl e.cl] 86)
  have HKG := hideIt (Blk.new w1 #[.bool d.n, .slice d.u d.nu d.cu, .slice d.l d.nl d.cl, .bool e.n, .slice e.u e.nu e.cu, .slice e.l e.nl e.cl] 86)
  rw [← hw2] at hbA HKG ⊢
  obtain ⟨G, hG⟩ : ∃ G, G = w1.heap.size := ⟨_, rfl⟩
  rw [← hG] at HKG ⊢
  clear hG hw2
  have HB2 := hideIt (HB1.out.trans (hbA.mono HB1.out.size))
  have HX2 := hideIt (HX.out.below hbA)
  have HY2 := hideIt (HY.out.below hbA)
  clear hbA a0 a1
  have HS : Hid (∀ w', Below w2.heap.size w2 w' → w'.cell? ⟨w.heap.size, 0, none⟩ = some (.string ax) ∧ w'.cell? ⟨w.heap.size, 1, none⟩ = some (.string ay) ∧ w'.cell? ⟨w.heap.size + 1, 0, none⟩ = some (.string bx) ∧ w'.cell? ⟨w.heap.size + 1, 1, none⟩ = some (.string bz) ∧ w'.cell? ⟨G, 0, none⟩ = some (.bool d.n) ∧ w'.cell? ⟨G, 1, none⟩ = some (.slice d.u d.nu d.cu) ∧ w'.cell? ⟨G, 2, none⟩ = some (.slice d.l d.nl d.cl) ∧ w'.cell? ⟨G, 3, none⟩ = some (.bool e.n) ∧ w'.cell? ⟨G, 4, none⟩ = some (.slice e.u e.nu e.cu) ∧ w'.cell? ⟨G, 5, none⟩ = some (.slice e.l e.nl e.cl)) := fun w' hb => by
    have h := HK0.out.below (HB2.out.trans (hb.mono HB2.out.size)) (by rw [HSZ.out]; omega)
    have h' := HK1.out.below (HB2.out.trans (hb.mono HB2.out.size)) (by rw [HSZ.out]; omega)
    have h'' := HKG.out.below hb HKG.out.lt
    exact ⟨h.cell 0, h.cell 1, h'.cell 0, h'.cell 1, h''.cell 0, h''.cell 1, h''.cell 2, h''.cell 3, h''.cell 4, h''.cell 5⟩
  have HR2 := hideIt (HK3.out.below HB2.out (by rw [HSZ.out]; omega))
  have nG : Hid (w.heap.size + 1 + 1 + 1 ≠ G) := fun h => by
    have := HKG.out.cell 0
    rw [← h, HR2.out.cell 0] at this
    simp at this
  have HSS : Hid (∀ w', Below w2.heap.size w2 w' → ∀ x0 x1 : Value, ((w'.setCell ⟨w.heap.size + 1 + 1 + 1, 0, none⟩ x0).setCell ⟨w.heap.size + 1 + 1 + 1, 1, none⟩ x1).cell? ⟨w.heap.size, 0, none⟩ = some (.string ax) ∧ ((w'.setCell ⟨w.heap.size + 1 + 1 + 1, 0, none⟩ x0).setCell ⟨w.heap.size + 1 + 1 + 1, 1, none⟩ x1).cell? ⟨w.heap.size, 1, none⟩ = some (.string ay) ∧ ((w'.setCell ⟨w.heap.size + 1 + 1 + 1, 0, none⟩ x0).setCell ⟨w.heap.size + 1 + 1 + 1, 1, none⟩ x1).cell? ⟨w.heap.size + 1, 0, none⟩ = some (.string bx) ∧ ((w'.setCell ⟨w.heap.size + 1 + 1 + 1, 0, none⟩ x0).setCell ⟨w.heap.size + 1 + 1 + 1, 1, none⟩ x1).cell? ⟨w.heap.size + 1, 1, none⟩ = some (.string bz) ∧ ((w'.setCell ⟨w.heap.size + 1 + 1 + 1, 0, none⟩ x0).setCell ⟨w.heap.size + 1 + 1 + 1, 1, none⟩ x1).cell? ⟨G, 0, none⟩ = some (.bool d.n) ∧ ((w'.setCell ⟨w.heap.size + 1 + 1 + 1, 0, none⟩ x0).setCell ⟨w.heap.size + 1 + 1 + 1, 1, none⟩ x1).cell? ⟨G, 1, none⟩ = some (.slice d.u d.nu d.cu) ∧ ((w'.setCell ⟨w.heap.size + 1 + 1 + 1, 0, none⟩ x0).setCell ⟨w.heap.size + 1 + 1 + 1, 1, none⟩ x1).cell? ⟨G, 2, none⟩ = some (.slice d.l d.nl d.cl) ∧ ((w'.setCell ⟨w.heap.size + 1 + 1 + 1, 0, none⟩ x0).setCell ⟨w.heap.size + 1 + 1 + 1, 1, none⟩ x1).cell? ⟨G, 3, none⟩ = some (.bool e.n) ∧ ((w'.setCell ⟨w.heap.size + 1 + 1 + 1, 0, none⟩ x0).setCell ⟨w.heap.size + 1 + 1 + 1, 1, none⟩ x1).cell? ⟨G, 4, none⟩ = some (.slice e.u e.nu e.cu) ∧ ((w'.setCell ⟨w.heap.size + 1 + 1 + 1, 0, none⟩ x0).setCell ⟨w.heap.size + 1 + 1 + 1, 1, none⟩ x1).cell? ⟨G, 5, none⟩ = some (.slice e.l e.nl e.cl)) := fun w' hb x0 x1 => by
    have h := (HK0.out.below (HB2.out.trans (hb.mono HB2.out.size)) (by rw [HSZ.out]; omega)).off2 (g := w.heap.size + 1 + 1 + 1) (by omega) x0 x1
    have h' := (HK1.out.below (HB2.out.trans (hb.mono HB2.out.size)) (by rw [HSZ.out]; omega)).off2 (g := w.heap.size + 1 + 1 + 1) (by omega) x0 x1
    have h'' := (HKG.out.below hb HKG.out.lt).off2 (g := w.heap.size + 1 + 1 + 1) nG.out x0 x1
    exact ⟨h.cell 0, h.cell 1, h'.cell 0, h'.cell 1, h''.cell 0, h''.cell 1, h''.cell 2, h''.cell 3, h''.cell 4, h''.cell 5⟩
  obtain ⟨z0, z1, z2, z3, z4, z5, z6, z7, z8, z9⟩ := HS.out w2 (Below.refl _ _)
  go_region_held3 (fun w' => w'.cell? ⟨w.heap.size, 0, none⟩ = some (.string ax) ∧ w'.cell? ⟨w.heap.size, 1, none⟩ = some (.string ay) ∧ w'.cell? ⟨w.heap.size + 1, 0, none⟩ = some (.string bx) ∧ w'.cell? ⟨w.heap.size + 1, 1, none⟩ = some (.string bz) ∧ w'.cell? ⟨G, 0, none⟩ = some (.bool d.n) ∧ w'.cell? ⟨G, 1, none⟩ = some (.slice d.u d.nu d.cu) ∧ w'.cell? ⟨G, 2, none⟩ = some (.slice d.l d.nl d.cl) ∧ w'.cell? ⟨G, 3, none⟩ = some (.bool e.n) ∧ w'.cell? ⟨G, 4, none⟩ = some (.slice e.u e.nu e.cu) ∧ w'.cell? ⟨G, 5, none⟩ = some (.slice e.l e.nl e.cl)) (first | go_keep | exact hs3 | exact hs4 | exact hs5 | exact hs6 | exact hs7 | exact hkS)
    (first
      | (go_at_call_of 62 (Value.agg #[Value.string ax, Value.string ay]); refine (wayRead_calls (w := w2.drew) ⟨ax, ay, rfl, rfl, rfl⟩ S1.out S2.out).mono ?_; rintro _ w3 ⟨hb3, v3, rfl, hv3⟩; obtain ⟨d3, e3, rfl, hx3, hy3⟩ := hv3; have hbl3 : Below w2.heap.size w2 w3 := (Below.drew (Below.refl _ w2)).trans hb3; have hs3 := HS.out w3 hbl3)
      | (go_at_call_of 64 (Value.agg #[Value.bool d3.n, Value.slice d3.u d3.nu d3.cu, Value.slice d3.l d3.nl d3.cl, Value.bool e3.n, Value.slice e3.u e3.nu e3.cu, Value.slice e3.l e3.nl e3.cl]); refine (wayMinus_calls ⟨d3, e3, rfl, hx3, hy3⟩ ⟨d, e, rfl, HX2.out.below hbl3, HY2.out.below hbl3⟩ F1.out F2.out F5.out F6.out KA.out |>.mono ?_) ; rintro _ w4 ⟨hb4, v4, rfl, hv4⟩; obtain ⟨d4, e4, rfl, hx4, hy4⟩ := hv4; have hbl4 := hbl3.trans (hb4.mono hbl3.size); have hs4 := HS.out w4 hbl4)
      | (go_at_call_of 62 (Value.agg #[Value.string bx, Value.string bz]); refine (wayRead_calls ⟨bx, bz, rfl, rfl, rfl⟩ S3.out S4.out).mono ?_; rintro _ w5 ⟨hb5, v5, rfl, hv5⟩; obtain ⟨d5, e5, rfl, hx5, hy5⟩ := hv5; have hbl5 := hbl4.trans (hb5.mono hbl4.size); have hs5 := HS.out w5 hbl5)
      | (go_at_call_of 64 (Value.agg #[Value.bool d5.n, Value.slice d5.u d5.nu d5.cu, Value.slice d5.l d5.nl d5.cl, Value.bool e5.n, Value.slice e5.u e5.nu e5.cu, Value.slice e5.l e5.nl e5.cl]); refine (wayMinus_calls ⟨d5, e5, rfl, hx5, hy5⟩ ⟨d, e, rfl, HX2.out.below hbl5, HY2.out.below hbl5⟩ F3.out F4.out F5.out F6.out KA.out).mono ?_ ; rintro _ w6 ⟨hb6, v6, rfl, hv6⟩; obtain ⟨d6, e6, rfl, hx6, hy6⟩ := hv6; have hbl6 := hbl5.trans (hb6.mono hbl5.size); have hs6 := HS.out w6 hbl6)
      | (go_at_call 101; refine (angBetween_calls ⟨d4, e4, rfl, (hx4.below hb5).below hb6, (hy4.below hb5).below hb6⟩ ⟨d6, e6, rfl, hx6, hy6⟩ FU1.out FU2.out FV1.out FV2.out KB.out (HTAB.out.below (HB2.out.trans (hbl6.mono HB2.out.size)))).mono ?_; rintro _ w7 ⟨hb7, sa, sb, z, rfl, hans⟩; have hbl7 := hbl6.trans (hb7.mono hbl6.size); have hs7 := HS.out w7 hbl7; have hkr := HR2.out.below hbl7 HR2.out.lt; obtain ⟨q0, q1, g0, g1⟩ := hkr.all2; have hkS := HSS.out w7 hbl7 (.string sa) (.string sb); have HANS := hideIt hans; clear hans)
      )
  all_goals
    go_wp2
    obtain ⟨k0, k1, _⟩ := (hkr.put2 (.string sa) (.string sb)).all2
    exact bodyPost_ret (v := .tuple #[.agg #[.string sa, .string sb], .int .i64 z]) (by simp [results, Tryz.results60, go_sem, k0, k1]) rfl ⟨Below.put2 (HB0.out.trans ((HB2.out.trans (hbl7.mono HB2.out.size)).mono HB0.out.size)) (by omega) _ _, _, _, _, rfl, HANS.out⟩
end Go.Proofs.YtgajdmadbdbabaaGreatDoor
/- XF -/
namespace Go.Proofs.YtgajdmadbdbabaaGreatDoor
open Go.RowKit Cx
attribute [local go_sem ↓] Go.wp_at_zero Go.wp_at_succ
def cpow (x y : Rat) : Nat → Rat × Rat
  | 0 => (1, 0)
  | n + 1 => ((cpow x y n).1 * x - (cpow x y n).2 * y, (cpow x y n).1 * y + (cpow x y n).2 * x)
structure QI (k : Nat) (q : Rat) : Prop where
  den : q.den = 1
  num : q.num.natAbs < 2 ^ k
theorem QI.mono {k l : Nat} {q : Rat} (h : QI k q) (hk : k ≤ l) : QI l q := ⟨h.den, Nat.lt_of_lt_of_le h.num (Nat.pow_le_pow_right (by decide) hk)⟩
theorem QI.of {k : Nat} {z : Int} (h : z.natAbs < 2 ^ k) : QI k (z : Rat) := ⟨rfl, h⟩
theorem QI.int {k : Nat} {q : Rat} (h : QI k q) : q = ((q.num : Int) : Rat) := by
  have := h.den
  rw [← Rat.mkRat_self q, this, Rat.mkRat_one]
  simp
theorem QI.qs {k : Nat} {q : Rat} (h : QI k q) : QS (k + 1) q := ⟨Nat.lt_of_lt_of_le h.num (Nat.pow_le_pow_right (by decide) (by omega)), by rw [h.den]; exact Nat.one_lt_two_pow (by omega)⟩
theorem mul_lt_pow {a b k l : Nat} (h1 : a < 2 ^ k) (h2 : b < 2 ^ l) : a * b < 2 ^ (k + l) := by
  rw [Nat.pow_add]
  exact Nat.mul_lt_mul_of_lt_of_lt h1 h2
theorem QI.re {k l : Nat} {a b x y : Rat} (h1 : QI k a) (h2 : QI k b) (h3 : QI l x) (h4 : QI l y) : QI (k + l + 1) (a * x - b * y) := by
  rw [h1.int, h2.int, h3.int, h4.int, ← Rat.intCast_mul, ← Rat.intCast_mul, ← Rat.intCast_sub]
  apply QI.of
  have e1 := mul_lt_pow h1.num h3.num
  have e2 := mul_lt_pow h2.num h4.num
  rw [← Int.natAbs_mul] at e1 e2
  have := Int.natAbs_sub_le (a.num * x.num) (b.num * y.num)
  rw [Nat.pow_succ]
  omega
theorem QI.im {k l : Nat} {a b x y : Rat} (h1 : QI k a) (h2 : QI k b) (h3 : QI l x) (h4 : QI l y) : QI (k + l + 1) (a * y + b * x) := by
  rw [h1.int, h2.int, h3.int, h4.int, ← Rat.intCast_mul, ← Rat.intCast_mul, ← Rat.intCast_add]
  apply QI.of
  have e1 := mul_lt_pow h1.num h4.num
  have e2 := mul_lt_pow h2.num h3.num
  rw [← Int.natAbs_mul] at e1 e2
  have := Int.natAbs_add_le (a.num * y.num) (b.num * x.num)
  rw [Nat.pow_succ]
  omega
theorem QI.pow {L : Nat} {x y : Rat} (h1 : QI L x) (h2 : QI L y) : ∀ n, QI (n * (L + 1) + 1) (cpow x y n).1 ∧ QI (n * (L + 1) + 1) (cpow x y n).2
  | 0 => by
    have e : cpow x y 0 = (1, 0) := rfl
    rw [e, Nat.zero_mul]
    exact ⟨⟨by decide, by decide⟩, ⟨by decide, by decide⟩⟩
  | n + 1 => by
    obtain ⟨i1, i2⟩ := QI.pow h1 h2 n
    exact ⟨(QI.re i1 i2 h1 h2).mono (by rw [Nat.succ_mul]; omega), (QI.im i1 i2 h1 h2).mono (by rw [Nat.succ_mul]; omega)⟩
theorem QI.fac2 {K : Nat} {x y q : Rat} (f1 : QS K x) (f2 : QS K y) (h : q ∈ [x, y]) : QI (3 * K + 1) (q * Cx.fac [x, y]) := by
  have h1 := QS.fac2 f1 f2 h
  refine ⟨?_, h1.num⟩
  rw [← pl_mul h]
  rfl
theorem power_walk {w : World} {a b : C3} {x y : Rat} {n : Nat} (hx : QV w (.agg #[.bool a.n, .slice a.u a.nu a.cu, .slice a.l a.nl a.cl]) x) (hy : QV w (.agg #[.bool b.n, .slice b.u b.nu b.cu, .slice b.l b.nl b.cl]) y) {K : Nat} (f1 : QS K x) (f2 : QS K y) (hn : n ≤ 60) (hk : 1000 * (K + 1) ≤ 35184372088640) :
    Calls Tryz.prog 148 #[.agg #[.bool a.n, .slice a.u a.nu a.cu, .slice a.l a.nl a.cl, .bool b.n, .slice b.u b.nu b.cu, .slice b.l b.nl b.cl], .int .i64 n] w fun e w' => Below w.heap.size w w' ∧ ∃ v, e = .returned v ∧ WV w' v (cpow (x * fac [x, y]) (y * fac [x, y]) n).1 (cpow (x * fac [x, y]) (y * fac [x, y]) n).2 := by
  obtain ⟨hb0, hk0, hk1, hsz⟩ := boxes2 w #[.bool a.n, .slice a.u a.nu a.cu, .slice a.l a.nl a.cl, .bool b.n, .slice b.u b.nu b.cu, .slice b.l b.nl b.cl] #[.bool false, .slice none 0 0, .slice none 0 0, .bool false, .slice none 0 0, .slice none 0 0] 86 86
  have HB0 := hideIt hb0
  have HSZ := hideIt hsz
  have HK0 := hideIt hk0
  have HK1 := hideIt hk1
  have HX := hideIt (hx.below hb0)
  have HY := hideIt (hy.below hb0)
  have F1 := hideIt f1
  have F2 := hideIt f2
  have HK := hideIt hk
  have I1 : Hid (QI (3 * K + 1) (x * fac [x, y])) := QI.fac2 f1 f2 (by simp)
  have I2 : Hid (QI (3 * K + 1) (y * fac [x, y])) := QI.fac2 f1 f2 (by simp)
  have K1 : Hid (3 * K + 2 ≤ 35184372088640) := by show _ ≤ _; omega
  clear hb0 hsz hk0 hk1 hx hy f1 f2 hk
  go_enter Tryz.func148, Tryz.ntmps148
  go_wp2_with fail
  generalize ((w.alloc (.cells #[.bool a.n, .slice a.u a.nu a.cu, .slice a.l a.nl a.cl, .bool b.n, .slice b.u b.nu b.cu, .slice b.l b.nl b.cl] 86)).alloc (.cells #[.bool false, .slice none 0 0, .slice none 0 0, .bool false, .slice none 0 0, .slice none 0 0] 86)) = W0 at *
  refine (anglePlain_calls ⟨a, b, rfl, HX.out, HY.out⟩ F1.out F2.out K1.out).mono ?_
  rintro e w1 ⟨hb1, v1, rfl, p, q, rfl, hp, hq⟩
  have hA := HK0.out.below hb1 (by rw [HSZ.out]; omega)
  have hR := HK1.out.below hb1 (by rw [HSZ.out]; omega)
  obtain ⟨r0, r1, r2, r3, r4, r5, j0, j1, j2, j3, j4, j5⟩ := hA.all6
  have HA := hideIt (hA.put6 (.bool p.n) (.slice p.u p.nu p.cu) (.slice p.l p.nl p.cl) (.bool q.n) (.slice q.u q.nu q.cu) (.slice q.l q.nl q.cl))
  have HR := hideIt (hR.off6 (g := w.heap.size) (by omega) (.bool p.n) (.slice p.u p.nu p.cu) (.slice p.l p.nl p.cl) (.bool q.n) (.slice q.u q.nu q.cu) (.slice q.l q.nl q.cl))
  have HST := hideIt (Stays.put6 hA (by simp [notLimb]) (.bool p.n) (.slice p.u p.nu p.cu) (.slice p.l p.nl p.cl) (.bool q.n) (.slice q.u q.nu q.cu) (.slice q.l q.nl q.cl) rfl rfl rfl rfl rfl rfl)
  have HBW := hideIt (Below.put6 (HB0.out.trans (hb1.mono HB0.out.size)) (Nat.le_refl _) (.bool p.n) (.slice p.u p.nu p.cu) (.slice p.l p.nl p.cl) (.bool q.n) (.slice q.u q.nu q.cu) (.slice q.l q.nl q.cl))
  have HP := hideIt (HST.out.qv hp)
  have HQ := hideIt (HST.out.qv hq)
  clear hA hR hp hq HST hb1
  go_wp2_with fail
  generalize ((((((w1.setCell ⟨w.heap.size, 0, none⟩ (.bool p.n)).setCell ⟨w.heap.size, 1, none⟩ (.slice p.u p.nu p.cu)).setCell ⟨w.heap.size, 2, none⟩ (.slice p.l p.nl p.cl)).setCell ⟨w.heap.size, 3, none⟩ (.bool q.n)).setCell ⟨w.heap.size, 4, none⟩ (.slice q.u q.nu q.cu)).setCell ⟨w.heap.size, 5, none⟩ (.slice q.l q.nl q.cl)) = w2 at *
  clear r0 r1 r2 r3 r4 r5 j0 j1 j2 j3 j4 j5
  refine (int_calls 1 (by decide) w2).mono ?_
  rintro _ w3 ⟨hb3, v3, rfl, hv3⟩
  obtain ⟨c0, rfl⟩ := qv_open hv3
  have HV3 := hideIt hv3
  have HBW3 := hideIt (HBW.out.trans (hb3.mono HBW.out.size))
  have HA3 := hideIt (HA.out.below hb3 HA.out.lt)
  have HR3 := hideIt (HR.out.below hb3 HR.out.lt)
  have HP3 := hideIt (HP.out.below hb3)
  have HQ3 := hideIt (HQ.out.below hb3)
  clear hb3 hv3
  go_wp2
  obtain ⟨w4, hw4⟩ : ∃ w4, w4 = w3.alloc (.cells #[.bool c0.n, .slice c0.u c0.nu c0.cu, .slice c0.l c0.nl c0.cl, .bool false, .slice none 0 0, .slice none 0 0] 86) := ⟨_, rfl⟩
  have hbA := below_new w3 (.cells #[.bool c0.n, .slice c0.u c0.nu c0.cu, .slice c0.l c0.nl c0.cl, .bool false, .slice none 0 0, .slice none 0 0] 86)
  have HKG := hideIt (Blk.new w3 #[.bool c0.n, .slice c0.u c0.nu c0.cu, .slice c0.l c0.nl c0.cl, .bool false, .slice none 0 0, .slice none 0 0] 86)
  rw [← hw4] at hbA HKG ⊢
  obtain ⟨G, hG⟩ : ∃ G, G = w3.heap.size := ⟨_, rfl⟩
  rw [← hG] at HKG ⊢
  have HGE : Hid (w.heap.size ≤ G ∧ w.heap.size ≠ G ∧ w.heap.size + 1 ≠ G) := by have h1 := HA3.out.lt; have h2 := HR3.out.lt; rw [hG]; exact ⟨by omega, by omega, by omega⟩
  clear hG hw4
  have HA4 := hideIt (HA3.out.below hbA HA3.out.lt)
  have HR4 := hideIt (HR3.out.below hbA HR3.out.lt)
  have HP4 := hideIt (HP3.out.below hbA)
  have HQ4 := hideIt (HQ3.out.below hbA)
  have HV4 := hideIt (HV3.out.below hbA)
  have HB4 := hideIt (HBW3.out.trans (hbA.mono HBW3.out.size))
  clear hbA
  have HN := hideIt hn
  clear hn
  go_loopw [11] (fun i wr => ∃ k : Nat, k ≤ n ∧ i = .int .i64 (k : Int) ∧ Blk wr w.heap.size #[.bool p.n, .slice p.u p.nu p.cu, .slice p.l p.nl p.cl, .bool q.n, .slice q.u q.nu q.cu, .slice q.l q.nl q.cl] 86 ∧ Blk wr (w.heap.size + 1) #[.bool false, .slice none 0 0, .slice none 0 0, .bool false, .slice none 0 0, .slice none 0 0] 86 ∧ Below w.heap.size w wr ∧ QV wr (.agg #[.bool p.n, .slice p.u p.nu p.cu, .slice p.l p.nl p.cl]) (x * fac [x, y]) ∧ QV wr (.agg #[.bool q.n, .slice q.u q.nu q.cu, .slice q.l q.nl q.cl]) (y * fac [x, y]) ∧ ∃ c d : C3, Blk wr G #[.bool c.n, .slice c.u c.nu c.cu, .slice c.l c.nl c.cl, .bool d.n, .slice d.u d.nu d.cu, .slice d.l d.nl d.cl] 86 ∧ QV wr (.agg #[.bool c.n, .slice c.u c.nu c.cu, .slice c.l c.nl c.cl]) (cpow (x * fac [x, y]) (y * fac [x, y]) k).1 ∧ QV wr (.agg #[.bool d.n, .slice d.u d.nu d.cu, .slice d.l d.nl d.cl]) (cpow (x * fac [x, y]) (y * fac [x, y]) k).2) (fun i _ => n - (intOf i).toNat)
  case atStart =>
    exact ⟨0, Nat.zero_le _, rfl, HA4.out, HR4.out, HB4.out, HP4.out, HQ4.out, c0, ⟨false, none, 0, 0, none, 0, 0⟩, HKG.out, HV4.out, qv_zero0 _⟩
  case round =>
    obtain ⟨k, hkl, rfl, hA, hR, hbel, hp, hq, c, d, hG, hc, hd⟩ := hrel
    have HA' := hideIt hA
    have HR' := hideIt hR
    have HG' := hideIt hG
    have HB' := hideIt hbel
    have HP' := hideIt hp
    have HQ' := hideIt hq
    have HC' := hideIt hc
    have HD' := hideIt hd
    obtain ⟨x0, x1, x2, x3, x4, x5, _⟩ := hA.all6
    obtain ⟨y0, y1, y2, y3, y4, y5, g0, g1, g2, g3, g4, g5⟩ := hG.all6
    obtain ⟨r0, r1, r2, r3, r4, r5, e0, e1, e2, e3, e4, e5⟩ := hR.all6
    clear hA hR hG hbel hp hq hc hd
    by_cases hend : k = n
    · subst hend
      go_wp2
      obtain ⟨k0, k1, k2, k3, k4, k5, _⟩ := (HR'.out.put6 (.bool c.n) (.slice c.u c.nu c.cu) (.slice c.l c.nl c.cl) (.bool d.n) (.slice d.u d.nu d.cu) (.slice d.l d.nl d.cl)).all6
      refine bodyPost_ret (v := .agg #[.bool c.n, .slice c.u c.nu c.cu, .slice c.l c.nl c.cl, .bool d.n, .slice d.u d.nu d.cu, .slice d.l d.nl d.cl]) (by simp [results, Tryz.results148, go_sem, k0, k1, k2, k3, k4, k5]) rfl ⟨Below.put6 HB'.out (by omega) (.bool c.n) (.slice c.u c.nu c.cu) (.slice c.l c.nl c.cl) (.bool d.n) (.slice d.u d.nu d.cu) (.slice d.l d.nl d.cl), _, rfl, ?_⟩
      have hst := Stays.put6 HR'.out (by simp [notLimb]) (.bool c.n) (.slice c.u c.nu c.cu) (.slice c.l c.nl c.cl) (.bool d.n) (.slice d.u d.nu d.cu) (.slice d.l d.nl d.cl) rfl rfl rfl rfl rfl rfl
      exact ⟨c, d, rfl, hst.qv HC'.out, hst.qv HD'.out⟩
    · have hlt : k < n := by omega
      have hn60 := HN.out
      have JP := hideIt (QI.pow I1.out I2.out k)
      have KK : Hid (2 * (k * (3 * K + 1 + 1) + 1 + 1 + (3 * K + 1 + 1) + 1) + 1 ≤ 35184372088640) := by
        have h1 := HK.out
        have h2 := HN.out
        have h3 : k * (3 * K + 1 + 1) ≤ 60 * (3 * K + 1 + 1) := Nat.mul_le_mul_right _ (by omega)
        show _ ≤ _
        omega
      go_wp2_with fail
      refine (wayProd_calls ⟨c, d, rfl, HC'.out, HD'.out⟩ ⟨p, q, rfl, HP'.out, HQ'.out⟩ JP.out.1.qs JP.out.2.qs I1.out.qs I2.out.qs KK.out).mono ?_
      rintro _ w5 ⟨hb5, v5, rfl, d5, e5, rfl, hx5, hy5⟩
      have hG5 := HG'.out.below hb5 HG'.out.lt
      have HG5 := hideIt hG5
      have HX5 := hideIt hx5
      have HY5 := hideIt hy5
      have HB5 := hideIt hb5
      obtain ⟨y0, y1, y2, y3, y4, y5, g0, g1, g2, g3, g4, g5⟩ := hG5.all6
      clear hG5 hx5 hy5 hb5
      go_wp2
      go_roundw
      case rel =>
        have hst := Stays.put6 HG5.out (by simp [notLimb]) (.bool d5.n) (.slice d5.u d5.nu d5.cu) (.slice d5.l d5.nl d5.cl) (.bool e5.n) (.slice e5.u e5.nu e5.cu) (.slice e5.l e5.nl e5.cl) rfl rfl rfl rfl rfl rfl
        exact ⟨k + 1, hlt, by go_num, (HA'.out.below HB5.out HA'.out.lt).off6 (g := G) HGE.out.2.1.symm _ _ _ _ _ _, (HR'.out.below HB5.out HR'.out.lt).off6 (g := G) HGE.out.2.2.symm _ _ _ _ _ _, Below.put6 (HB'.out.trans (HB5.out.mono HB'.out.size)) HGE.out.1 _ _ _ _ _ _, hst.qv (HP'.out.below HB5.out), hst.qv (HQ'.out.below HB5.out), d5, e5, HG5.out.put6 _ _ _ _ _ _, hst.qv HX5.out, hst.qv HY5.out⟩
      case measure => simp [intOf]; omega
theorem power_calls {w : World} {v : Value} {x y : Rat} {n : Nat} (h : WV w v x y) {K : Nat} (f1 : QS K x) (f2 : QS K y) (hn : n ≤ 60) (hk : 1000 * (K + 1) ≤ 35184372088640) :
    Calls Tryz.prog 148 #[v, .int .i64 n] w fun e w' => Below w.heap.size w w' ∧ ∃ v, e = .returned v ∧ WV w' v (cpow (x * fac [x, y]) (y * fac [x, y]) n).1 (cpow (x * fac [x, y]) (y * fac [x, y]) n).2 := by
  obtain ⟨a, b, rfl, h1, h2⟩ := h
  exact power_walk h1 h2 f1 f2 hn hk
theorem angTimes_walk {w : World} {s c : ByteArray} {n : Nat} (s1 : s.data.toList.length ≤ 4294967296) (s2 : c.data.toList.length ≤ 4294967296) {k : Nat} (f1 : QS k (rd c.data.toList)) (f2 : QS k (rd s.data.toList)) (hn : n ≤ 60) (hk : 1000 * (k + 1) ≤ 35184372088640) (tab : Tab w) :
    Calls Tryz.prog 100 #[.agg #[.string s, .string c], .int .i64 n] w fun e w' => Below w.heap.size w w' ∧ ∃ (sa sb : ByteArray) (z : Int), e = .returned (.tuple #[.agg #[.string sa, .string sb], .int .i64 z]) ∧ AngAns ((rd c.data.toList) = 0 ∧ (rd s.data.toList) = 0) (cpow ((rd c.data.toList) * fac [(rd c.data.toList), (rd s.data.toList)]) ((rd s.data.toList) * fac [(rd c.data.toList), (rd s.data.toList)]) n).1 (cpow ((rd c.data.toList) * fac [(rd c.data.toList), (rd s.data.toList)]) ((rd s.data.toList) * fac [(rd c.data.toList), (rd s.data.toList)]) n).2 sa.data.toList sb.data.toList z := by
  obtain ⟨hb0, hk0, hk2, hsz⟩ := boxes2 w #[.string s, .string c] #[.string ⟨#[]⟩, .string ⟨#[]⟩] 67 67
  have HB0 := hideIt hb0
  have HSZ := hideIt hsz
  have HK2 := hideIt hk2
  have HTAB := hideIt (tab.below hb0)
  have S1 := hideIt s1
  have S2 := hideIt s2
  have F1 := hideIt f1
  have F2 := hideIt f2
  have HK := hideIt hk
  have I := hideIt (QI.pow (QI.fac2 f1 f2 (q := (rd c.data.toList)) (by simp)) (QI.fac2 f1 f2 (q := (rd s.data.toList)) (by simp)) n)
  have KK : Hid (3 * (n * (3 * k + 1 + 1) + 1 + 1) + 2 ≤ 35184372088640) := by
    have h3 : n * (3 * k + 1 + 1) ≤ 60 * (3 * k + 1 + 1) := Nat.mul_le_mul_right _ hn
    show _ ≤ _
    omega
  clear hb0 hsz hk0 hk2 tab s1 s2 f1 f2 hk
  go_enter Tryz.func100, Tryz.ntmps100
  go_wp2_with fail
  generalize ((w.alloc (.cells #[.string s, .string c] 67)).alloc (.cells #[.string ⟨#[]⟩, .string ⟨#[]⟩] 67)) = W0 at *
  refine (angleRead_calls ⟨s, c, rfl, rfl, rfl⟩ S1.out S2.out).mono ?_
  rintro _ w1 ⟨hb1, ⟨h1, h2, rfl⟩ | ⟨hn0, v1, rfl, hv1⟩⟩
  · have HKR := hideIt (HK2.out.below hb1 (by rw [HSZ.out]; omega))
    have HBW := hideIt (HB0.out.trans (hb1.mono HB0.out.size))
    have HH := hideIt (And.intro h1 h2)
    have r0 : ∀ o, (w1.alloc o).cell? ⟨w.heap.size + 1, 0, none⟩ = some (.string ⟨#[]⟩) := fun o => (HKR.out.old o).cell 0
    have j0 : ∀ o, (w1.alloc o).frozen? ⟨w.heap.size + 1, 0, none⟩ = false := fun o => (HKR.out.old o).frozen 0
    have r1 : ∀ o, (w1.alloc o).cell? ⟨w.heap.size + 1, 1, none⟩ = some (.string ⟨#[]⟩) := fun o => (HKR.out.old o).cell 1
    have j1 : ∀ o, (w1.alloc o).frozen? ⟨w.heap.size + 1, 1, none⟩ = false := fun o => (HKR.out.old o).frozen 1
    obtain ⟨q0, q1, g0, g1⟩ := HKR.out.all2
    have lR := HKR.out.lt
    clear hb1 h1 h2
    go_wp2
    obtain ⟨k0, k1, _⟩ := ((HKR.out.put2 (.string ⟨#[]⟩) (.string ⟨#[]⟩)).old (.cells #[.bool false, .slice none 0 0, .slice none 0 0, .bool false, .slice none 0 0, .slice none 0 0] 86)).all2
    have hbf := (Below.put2 HBW.out (g := w.heap.size + 1) (by omega) (.string ⟨#[]⟩) (.string ⟨#[]⟩))
    exact bodyPost_ret (v := .tuple #[.agg #[.string ⟨#[]⟩, .string ⟨#[]⟩], .int .i64 5]) (by simp [results, Tryz.results100, go_sem, k0, k1]) rfl ⟨hbf.alloc hbf.size _, _, _, _, rfl, Or.inl ⟨HH.out, rfl, rfl, rfl⟩⟩
  · obtain ⟨a, b, rfl, hx0, hx1⟩ := hv1
    have N0 := hideIt hx0
    have N1 := hideIt hx1
    have HN := hideIt hn0
    have HB1 := hideIt hb1
    clear hx0 hx1 hn0 hb1
    go_wp2_with fail
    obtain ⟨w2, hw2⟩ : ∃ w2, w2 = w1.alloc (.cells #[.bool a.n, .slice a.u a.nu a.cu, .slice a.l a.nl a.cl, .bool b.n, .slice b.u b.nu b.cu, .slice b.l b.nl b.cl] 86) := ⟨_, rfl⟩
    have hbA := below_new w1 (.cells #[.bool a.n, .slice a.u a.nu a.cu, .slice a.l a.nl a.cl, .bool b.n, .slice b.u b.nu b.cu, .slice b.l b.nl b.cl] 86)
    have HKG := hideIt (Blk.new w1 #[.bool a.n, .slice a.u a.nu a.cu, .slice a.l a.nl a.cl, .bool b.n, .slice b.u b.nu b.cu, .slice b.l b.nl b.cl] 86)
    rw [← hw2] at hbA HKG ⊢
    obtain ⟨G, hG⟩ : ∃ G, G = w1.heap.size := ⟨_, rfl⟩
    rw [← hG] at HKG ⊢
    clear hG hw2
    have HBL : Hid (Below W0.heap.size W0 w2) := HB1.out.trans (hbA.mono HB1.out.size)
    have O0 := hideIt (N0.out.below hbA)
    have O1 := hideIt (N1.out.below hbA)
    clear hbA
    obtain ⟨z0, z1, z2, z3, z4, z5, _⟩ := HKG.out.all6
    refine (power_calls ⟨a, b, rfl, O0.out, O1.out⟩ F1.out F2.out hn HK.out).mono ?_
    rintro _ w5 ⟨hb5, v5, rfl, hv5⟩
    have hbl5 := HBL.out.trans (hb5.mono HBL.out.size)
    go_wp2_with fail
    refine (angleText_calls hv5 I.out.1.qs I.out.2.qs KK.out (HTAB.out.below hbl5)).mono ?_
    rintro _ w6 ⟨hb6, v6, rfl, sa, sb, rfl, ta, tb⟩
    have hbl6 := hbl5.trans (hb6.mono hbl5.size)
    have HKR := hideIt (HK2.out.below hbl6 (by rw [HSZ.out]; omega))
    have HBW := hideIt (HB0.out.trans (hbl6.mono HB0.out.size))
    have HT := hideIt (And.intro ta tb)
    obtain ⟨q0, q1, g0, g1⟩ := HKR.out.all2
    clear hb5 hb6 hbl5 hbl6 ta tb hv5 z0 z1 z2 z3 z4 z5
    go_wp2
    obtain ⟨k0, k1, _⟩ := (HKR.out.put2 (.string sa) (.string sb)).all2
    exact bodyPost_ret (v := .tuple #[.agg #[.string sa, .string sb], .int .i64 0]) (by simp [results, Tryz.results100, go_sem, k0, k1]) rfl ⟨Below.put2 HBW.out (by omega) _ _, _, _, _, rfl, Or.inr ⟨HN.out, rfl, HT.out.1, HT.out.2⟩⟩
end Go.Proofs.YtgajdmadbdbabaaGreatDoor
/- XG -/
namespace Go.Proofs.YtgajdmadbdbabaaGreatDoor
open Go.RowKit Cx
theorem sq_nonneg (a : Rat) : 0 ≤ a * a := by
  rcases Rat.le_total (a := 0) (b := a) with h | h
  · exact Rat.mul_nonneg h h
  · have := Rat.mul_nonneg (Rat.neg_le_neg h) (Rat.neg_le_neg h)
    grind
theorem norm_ne {a b : Rat} (h : ¬ (a = 0 ∧ b = 0)) : a * a + b * b ≠ 0 := by
  intro e
  have h1 := sq_nonneg a
  have h2 := sq_nonneg b
  have e1 : a * a = 0 := by grind
  have e2 : b * b = 0 := by grind
  exact h ⟨(Rat.mul_eq_zero.1 e1).elim id id, (Rat.mul_eq_zero.1 e2).elim id id⟩
theorem ne_norm {a b : Rat} (h : a * a + b * b ≠ 0) : ¬ (a = 0 ∧ b = 0) := by
  rintro ⟨rfl, rfl⟩
  exact h (by decide +kernel)
theorem prod_ne {a b c d : Rat} (h1 : ¬ (a = 0 ∧ b = 0)) (h2 : ¬ (c = 0 ∧ d = 0)) : ¬ (a * c - b * d = 0 ∧ a * d + b * c = 0) := by
  apply ne_norm
  have e : (a * c - b * d) * (a * c - b * d) + (a * d + b * c) * (a * d + b * c) = (a * a + b * b) * (c * c + d * d) := by grind
  rw [e]
  intro h
  exact (Rat.mul_eq_zero.1 h).elim (norm_ne h1) (norm_ne h2)
theorem fac2_ne {x y : Rat} (h : ¬ (x = 0 ∧ y = 0)) : fac [x, y] ≠ 0 := by
  by_cases hx : x = 0
  · exact fac_ne (q := y) (by simp) (fun e => h ⟨hx, e⟩)
  · exact fac_ne (q := x) (by simp) hx
theorem scaled_ne {x y f : Rat} (h : ¬ (x = 0 ∧ y = 0)) (hf : f ≠ 0) : ¬ (x * f = 0 ∧ y * f = 0) := by
  rintro ⟨h1, h2⟩
  exact h ⟨(Rat.mul_eq_zero.1 h1).resolve_right hf, (Rat.mul_eq_zero.1 h2).resolve_right hf⟩
theorem plain_one {r : Rat} (h : r ≠ 0) : r * fac [r, 0] = 1 := by
  have hn : r.num ≠ 0 := fun e => h (Rat.num_eq_zero.1 e)
  rw [← pl_mul (qs := [r, 0]) (by simp)]
  have e1 : gN [r, 0] = r.num.natAbs := by simp [gN]
  have e2 : lD [r, 0] = r.den := by simp [lD]
  have e3 : fb [r, 0] = decide (r.num < 0) := by simp [fb, hn]
  unfold pl
  rw [e1, e2, e3, Nat.div_self (by omega), Nat.div_self r.den_pos]
  simp [sg]
theorem three {X1 Y1 X2 Y2 X3 Y3 : Rat} {s1 c1 s2 c2 s3 c3 s4 c4 s5 c5 : List UInt8} {h i : Int}
    (n1 : ¬ (X1 = 0 ∧ Y1 = 0)) (n2 : ¬ (X2 = 0 ∧ Y2 = 0)) (n3 : ¬ (X3 = 0 ∧ Y3 = 0)) (t : (X1 * X2 - Y1 * Y2) * Y3 + (X1 * Y2 + Y1 * X2) * X3 = 0)
    (e1 : s1 = tx (Y1 * fac [X1, Y1]) ∧ c1 = tx (X1 * fac [X1, Y1])) (e2 : s2 = tx (Y2 * fac [X2, Y2]) ∧ c2 = tx (X2 * fac [X2, Y2])) (e3 : s3 = tx (Y3 * fac [X3, Y3]) ∧ c3 = tx (X3 * fac [X3, Y3]))
    (a4 : AngAns ((rd c1 = 0 ∧ rd s1 = 0) ∨ (rd c2 = 0 ∧ rd s2 = 0)) (rd c1 * rd c2 - rd s1 * rd s2) (rd c1 * rd s2 + rd s1 * rd c2) s4 c4 h)
    (a5 : AngAns ((rd c4 = 0 ∧ rd s4 = 0) ∨ (rd c3 = 0 ∧ rd s3 = 0)) (rd c4 * rd c3 - rd s4 * rd s3) (rd c4 * rd s3 + rd s4 * rd c3) s5 c5 i) :
    h = 0 ∧ i = 0 ∧ s5 = [48] ∧ c5 = [49] := by
  have f1 := fac2_ne n1
  have f2 := fac2_ne n2
  have f3 := fac2_ne n3
  obtain ⟨rfl, rfl⟩ := e1
  obtain ⟨rfl, rfl⟩ := e2
  obtain ⟨rfl, rfl⟩ := e3
  simp only [rd_tx] at a4 a5
  have m1 := scaled_ne n1 f1
  have m2 := scaled_ne n2 f2
  have m3 := scaled_ne n3 f3
  generalize fac [X1, Y1] = g1 at *
  generalize fac [X2, Y2] = g2 at *
  generalize fac [X3, Y3] = g3 at *
  have n4 := prod_ne m1 m2
  rcases a4 with ⟨a4, _⟩ | ⟨_, h4, es, ec⟩
  · exact absurd a4 (fun h => h.elim m1 m2)
  · have f4 := fac2_ne n4
    have m4 := scaled_ne n4 f4
    rw [es, ec] at a5
    simp only [rd_tx] at a5
    generalize fac [X1 * g1 * (X2 * g2) - Y1 * g1 * (Y2 * g2), X1 * g1 * (Y2 * g2) + Y1 * g1 * (X2 * g2)] = g4 at *
    have n5 := prod_ne m4 m3
    rcases a5 with ⟨a5, _⟩ | ⟨_, h5, es, ec⟩
    · exact absurd a5 (fun h => h.elim m4 m3)
    · have z : (X1 * g1 * (X2 * g2) - Y1 * g1 * (Y2 * g2)) * g4 * (Y3 * g3) + (X1 * g1 * (Y2 * g2) + Y1 * g1 * (X2 * g2)) * g4 * (X3 * g3) = 0 := by
        have : (X1 * g1 * (X2 * g2) - Y1 * g1 * (Y2 * g2)) * g4 * (Y3 * g3) + (X1 * g1 * (Y2 * g2) + Y1 * g1 * (X2 * g2)) * g4 * (X3 * g3) = ((X1 * X2 - Y1 * Y2) * Y3 + (X1 * Y2 + Y1 * X2) * X3) * (g1 * g2 * g3 * g4) := by grind
        rw [this, t, Rat.zero_mul]
      rw [z] at es ec n5
      generalize (X1 * g1 * (X2 * g2) - Y1 * g1 * (Y2 * g2)) * g4 * (X3 * g3) - (X1 * g1 * (Y2 * g2) + Y1 * g1 * (X2 * g2)) * g4 * (Y3 * g3) = r at *
      have hr : r ≠ 0 := fun e => n5 ⟨e, rfl⟩
      rw [Rat.zero_mul] at es
      rw [plain_one hr] at ec
      exact ⟨h4, h5, es.trans (tx_int 0 (by decide)), ec.trans (tx_int 1 (by decide))⟩
end Go.Proofs.YtgajdmadbdbabaaGreatDoor
/- XH -/
namespace Go.Proofs.YtgajdmadbdbabaaGreatDoor
open Go.RowKit Cx
attribute [local go_sem ↓] Go.wp_at_zero Go.wp_at_succ
theorem an_from {s c : List UInt8} {z : Int} (h : AngAns ((rd [48] = 0 ∧ rd [49] = 0) ∨ (rd [49] = 0 ∧ rd [45, 49] = 0)) (rd [48] * rd [49] - -rd [49] * rd [45, 49]) (rd [48] * rd [45, 49] + -rd [49] * rd [49]) s c z) : z = 0 ∧ s = [49] ∧ c = [49] := by
  rw [rd0, rd1, rdm1] at h
  rcases h with ⟨h, _⟩ | ⟨_, hz, h1, h2⟩
  · exact absurd h (by decide +kernel)
  · rw [show ((((0 : Int) : Rat) * ((-1 : Int) : Rat) + -((1 : Int) : Rat) * ((1 : Int) : Rat)) * fac [((0 : Int) : Rat) * ((1 : Int) : Rat) - -((1 : Int) : Rat) * ((-1 : Int) : Rat), ((0 : Int) : Rat) * ((-1 : Int) : Rat) + -((1 : Int) : Rat) * ((1 : Int) : Rat)]) = ((1 : Int) : Rat) by decide +kernel] at h1
    rw [show ((((0 : Int) : Rat) * ((1 : Int) : Rat) - -((1 : Int) : Rat) * ((-1 : Int) : Rat)) * fac [((0 : Int) : Rat) * ((1 : Int) : Rat) - -((1 : Int) : Rat) * ((-1 : Int) : Rat), ((0 : Int) : Rat) * ((-1 : Int) : Rat) + -((1 : Int) : Rat) * ((1 : Int) : Rat)]) = ((1 : Int) : Rat) by decide +kernel] at h2
    exact ⟨hz, h1.trans (tx_int 1 (by decide)), h2.trans (tx_int 1 (by decide))⟩
theorem an_pow : cpow (((1 : Int) : Rat) * fac [((1 : Int) : Rat), ((1 : Int) : Rat)]) (((1 : Int) : Rat) * fac [((1 : Int) : Rat), ((1 : Int) : Rat)]) 2 = (((0 : Int) : Rat), ((2 : Int) : Rat)) := by decide +kernel
theorem an_times {s c : List UInt8} {z : Int} (h : AngAns (rd [49] = 0 ∧ rd [49] = 0) (cpow (rd [49] * fac [rd [49], rd [49]]) (rd [49] * fac [rd [49], rd [49]]) 2).1 (cpow (rd [49] * fac [rd [49], rd [49]]) (rd [49] * fac [rd [49], rd [49]]) 2).2 s c z) : z = 0 ∧ s = [49] ∧ c = [48] := by
  rw [rd1, an_pow] at h
  rcases h with ⟨h, _⟩ | ⟨_, hz, h1, h2⟩
  · exact absurd h (by decide +kernel)
  · dsimp only at h1 h2
    rw [show ((2 : Int) : Rat) * fac [((0 : Int) : Rat), ((2 : Int) : Rat)] = ((1 : Int) : Rat) by decide +kernel] at h1
    rw [show ((0 : Int) : Rat) * fac [((0 : Int) : Rat), ((2 : Int) : Rat)] = ((0 : Int) : Rat) by decide +kernel] at h2
    exact ⟨hz, h1.trans (tx_int 1 (by decide)), h2.trans (tx_int 0 (by decide))⟩
theorem an_seen {s c : List UInt8} {z : Int} (h : AngAns ((rd [49] - rd [48] = 0 ∧ rd [48] - rd [48] = 0) ∨ (rd [48] - rd [48] = 0 ∧ rd [49] - rd [48] = 0)) ((rd [49] - rd [48]) * (rd [48] - rd [48]) - -(rd [48] - rd [48]) * (rd [49] - rd [48])) ((rd [49] - rd [48]) * (rd [49] - rd [48]) + -(rd [48] - rd [48]) * (rd [48] - rd [48])) s c z) : z = 0 ∧ s = [49] ∧ c = [48] := by
  rw [rd0, rd1] at h
  rw [show ((1 : Int) : Rat) - ((0 : Int) : Rat) = ((1 : Int) : Rat) by decide +kernel, show ((0 : Int) : Rat) - ((0 : Int) : Rat) = ((0 : Int) : Rat) by decide +kernel] at h
  rw [show (((1 : Int) : Rat) * ((0 : Int) : Rat) - -((0 : Int) : Rat) * ((1 : Int) : Rat)) = ((0 : Int) : Rat) by decide +kernel, show (((1 : Int) : Rat) * ((1 : Int) : Rat) + -((0 : Int) : Rat) * ((0 : Int) : Rat)) = ((1 : Int) : Rat) by decide +kernel] at h
  rcases h with ⟨h, _⟩ | ⟨_, hz, h1, h2⟩
  · exact absurd h (by decide +kernel)
  · rw [show ((1 : Int) : Rat) * fac [((0 : Int) : Rat), ((1 : Int) : Rat)] = ((1 : Int) : Rat) by decide +kernel] at h1
    rw [show ((0 : Int) : Rat) * fac [((0 : Int) : Rat), ((1 : Int) : Rat)] = ((0 : Int) : Rat) by decide +kernel] at h2
    exact ⟨hz, h1.trans (tx_int 1 (by decide)), h2.trans (tx_int 0 (by decide))⟩
theorem anpt_calls (x y : ByteArray) (w : World) :
    Calls Tryz.prog 72 #[.string x, .string y] w fun e w' => Below w.heap.size w w' ∧ e = .returned (.agg #[.string x, .string y]) := by
  go_enter Tryz.func72, Tryz.ntmps72
  go_wp2
  refine bodyPost_ret (v := .agg #[.string x, .string y]) (by simp [results, Tryz.results72, go_sem]) rfl ⟨below_new _ _, rfl⟩
theorem angled_calls (w : World) (tab : Tab w) :
    Calls Tryz.prog 52 #[] w fun e w' => Below w.heap.size w w' ∧ e = .returned (.bool true) := by
  have HT := hideIt tab
  clear tab
  go_enter Tryz.func52, Tryz.ntmps52
  go_wp2_with fail
  refine (angFrom_calls (va := .agg #[.string ⟨#[48]⟩, .string ⟨#[49]⟩, .string ⟨#[]⟩]) (vb := .agg #[.string ⟨#[49]⟩, .string ⟨#[45, 49]⟩, .string ⟨#[]⟩]) ⟨⟨#[48]⟩, ⟨#[49]⟩, ⟨#[]⟩, rfl, rfl, rfl, rfl⟩ ⟨⟨#[49]⟩, ⟨#[45, 49]⟩, ⟨#[]⟩, rfl, rfl, rfl, rfl⟩ (len6 _ (by decide)) (len6 _ (by decide)) (len6 _ (by decide)) (len6 _ (by decide)) (len6 _ (by decide)) (len6 _ (by decide)) (qs30 _ (by decide)) (qs30 _ (by decide)) (qs30 _ (by decide)) (qs30 _ (by decide)) (by decide) HT.out).mono ?_
  rintro _ w1 ⟨hb1, sa, sb, z, rfl, hans⟩
  obtain ⟨rfl, h1, h2⟩ := an_from hans
  obtain rfl := bytes_eq h1
  obtain rfl := bytes_eq h2
  have HB1 := hideIt hb1
  clear hb1 hans h1 h2
  go_wp2_with fail
  obtain ⟨w2, hw2⟩ : ∃ w2, w2 = w1.alloc (.cells #[.string ⟨#[49]⟩, .string ⟨#[49]⟩] 67) := ⟨_, rfl⟩
  have hbA := below_new w1 (.cells #[.string ⟨#[49]⟩, .string ⟨#[49]⟩] 67)
  have HKG := hideIt (Blk.new w1 #[.string ⟨#[49]⟩, .string ⟨#[49]⟩] 67)
  rw [← hw2] at hbA HKG ⊢
  obtain ⟨G, hG⟩ : ∃ G, G = w1.heap.size := ⟨_, rfl⟩
  rw [← hG] at HKG ⊢
  clear hG hw2
  have HB2 := hideIt (HB1.out.trans (hbA.mono HB1.out.size))
  clear hbA
  refine (angTimes_walk (s := ⟨#[49]⟩) (c := ⟨#[49]⟩) (n := 2) (len6 _ (by decide)) (len6 _ (by decide)) (qs30 _ (by decide)) (qs30 _ (by decide)) (by decide) (by decide) (HT.out.below HB2.out)).mono ?_
  rintro _ w3 ⟨hb3, sa, sb, z, rfl, hans⟩
  obtain ⟨rfl, h1, h2⟩ := an_times hans
  obtain rfl := bytes_eq h1
  obtain rfl := bytes_eq h2
  have HB3 := hideIt (HB2.out.trans (hb3.mono HB2.out.size))
  have HKG3 := hideIt (HKG.out.below hb3 HKG.out.lt)
  clear hb3 hans h1 h2 HKG
  go_wp2_with fail
  obtain ⟨w4, hw4⟩ : ∃ w4, w4 = w3.alloc (.cells #[.string ⟨#[49]⟩, .string ⟨#[48]⟩] 67) := ⟨_, rfl⟩
  have hbA := below_new w3 (.cells #[.string ⟨#[49]⟩, .string ⟨#[48]⟩] 67)
  have HKH := hideIt (Blk.new w3 #[.string ⟨#[49]⟩, .string ⟨#[48]⟩] 67)
  rw [← hw4] at hbA HKH ⊢
  obtain ⟨H, hH⟩ : ∃ H, H = w3.heap.size := ⟨_, rfl⟩
  rw [← hH] at HKH ⊢
  clear hH hw4
  have HB4 := hideIt (HB3.out.trans (hbA.mono HB3.out.size))
  have HKG4 := hideIt (HKG3.out.below hbA HKG3.out.lt)
  clear hbA
  refine (anpt_calls ⟨#[49]⟩ ⟨#[48]⟩ _).mono ?_
  rintro _ w5 ⟨hb5, rfl⟩
  go_wp2_with fail
  refine (anpt_calls ⟨#[48]⟩ ⟨#[49]⟩ _).mono ?_
  rintro _ w6 ⟨hb6, rfl⟩
  go_wp2_with fail
  refine (anpt_calls ⟨#[48]⟩ ⟨#[48]⟩ _).mono ?_
  rintro _ w7 ⟨hb7, rfl⟩
  have hbl6 := hb5.trans (hb6.mono hb5.size)
  have hbl7 := hbl6.trans (hb7.mono hbl6.size)
  have HB7 := hideIt (HB4.out.trans (hbl7.mono HB4.out.size))
  have HKG7 := hideIt (HKG4.out.below hbl7 HKG4.out.lt)
  have HKH7 := hideIt (HKH.out.below hbl7 HKH.out.lt)
  clear hb5 hb6 hb7 hbl6 hbl7
  go_wp2_with fail
  refine (angSeen_walk (ax := ⟨#[49]⟩) (ay := ⟨#[48]⟩) (bx := ⟨#[48]⟩) (bz := ⟨#[49]⟩) (px := ⟨#[48]⟩) (pz := ⟨#[48]⟩) (len6 _ (by decide)) (len6 _ (by decide)) (len6 _ (by decide)) (len6 _ (by decide)) (len6 _ (by decide)) (len6 _ (by decide)) (qs30 _ (by decide)) (qs30 _ (by decide)) (qs30 _ (by decide)) (qs30 _ (by decide)) (qs30 _ (by decide)) (qs30 _ (by decide)) (by decide) (HT.out.below HB7.out)).mono ?_
  rintro _ w8 ⟨hb8, sa, sb, z, rfl, hans⟩
  obtain ⟨rfl, h1, h2⟩ := an_seen hans
  obtain rfl := bytes_eq h1
  obtain rfl := bytes_eq h2
  have HB8 := hideIt (HB7.out.trans (hb8.mono HB7.out.size))
  have HKG8 := hideIt (HKG7.out.below hb8 HKG7.out.lt)
  have HKH8 := hideIt (HKH7.out.below hb8 HKH7.out.lt)
  clear hb8 hans h1 h2
  have g0 : ∀ o, (w8.alloc o).cell? ⟨G, 0, none⟩ = some (.string ⟨#[49]⟩) := fun o => (HKG8.out.old o).cell 0
  have g1 : ∀ o, (w8.alloc o).cell? ⟨G, 1, none⟩ = some (.string ⟨#[49]⟩) := fun o => (HKG8.out.old o).cell 1
  have y0 : ∀ o, (w8.alloc o).cell? ⟨H, 0, none⟩ = some (.string ⟨#[49]⟩) := fun o => (HKH8.out.old o).cell 0
  have y1 : ∀ o, (w8.alloc o).cell? ⟨H, 1, none⟩ = some (.string ⟨#[48]⟩) := fun o => (HKH8.out.old o).cell 1
  go_wp2
  go_ret
  exact ⟨HB8.out.alloc HB8.out.size _, rfl⟩
end Go.Proofs.YtgajdmadbdbabaaGreatDoor
/- AWG -/
namespace Go.Proofs.YtgajdmadbdbabaaGreatDoor
open Go.RowKit Cx
theorem en_compasslaw_angled (vs : Array Value) (w : World) : (callFunc 52 vs).run Tryz.prog w = .ok (.enter 52 vs) w := enters Tryz.func52 (by kernel_rfl) (by kernel_rfl) vs w
theorem con_angled : Con Tryz.prog Pre 52 [] (Bo true) := fun w vs hp hall => by
  obtain rfl := all2_none hall
  refine (angled_calls w hp.1).mono ?_
  rintro _ w' ⟨hb, rfl⟩
  exact ⟨hb, _, rfl, rfl⟩
end Go.Proofs.YtgajdmadbdbabaaGreatDoor
/- AWR -/
namespace Go.Proofs.YtgajdmadbdbabaaGreatDoor
open Go.RowKit Cx
theorem PV.p2 {v : Value} {w : World} {a b : List UInt8} {sa sb : ByteArray} (h : PV v a b) (ea : sa.data.toList = a) (eb : sb.data.toList = b) : (P2 sa sb).on v w := by
  obtain ⟨x, y, rfl, h1, h2⟩ := h
  obtain rfl : x = sa := (bytes_of (h1.trans ea.symm)).trans (bytes_of rfl).symm
  obtain rfl : y = sb := (bytes_of (h2.trans eb.symm)).trans (bytes_of rfl).symm
  exact P2.mk _ _ _
theorem en_angle_read (vs : Array Value) (w : World) : (callFunc 98 vs).run Tryz.prog w = .ok (.enter 98 vs) w := enters Tryz.func98 (by kernel_rfl) (by kernel_rfl) vs w
theorem con_aread_ok {ls lc : ByteArray} {rls rlc : Rat} {k : Nat} (tls : TX k ls rls) (tlc : TX k lc rlc) (hs : 2 * k + 4 ≤ 4294967296) (hn : ¬ (rlc = 0 ∧ rls = 0)) : Con Tryz.prog Pre 98 [P2 ls lc] (Tup [Wv rlc rls, In 0]) := fun w vs hp hall => by
  obtain ⟨v0, rfl, h1⟩ := all2_one hall
  cases P2.eq h1
  have erls := tls.rd
  have erlc := tlc.rd
  subst erls erlc
  refine (angleRead_calls ⟨_, _, rfl, rfl, rfl⟩ (tls.len hs) (tlc.len hs)).mono ?_
  rintro _ w' ⟨hb, ⟨h1, h2, rfl⟩ | ⟨hn', v, rfl, hv⟩⟩
  · exact absurd ⟨h1, h2⟩ hn
  · exact ⟨hb, _, rfl, [_, _], rfl, hv, rfl, trivial⟩
theorem con_aread_flat {ls lc : ByteArray} {rls rlc : Rat} {k : Nat} (tls : TX k ls rls) (tlc : TX k lc rlc) (hs : 2 * k + 4 ≤ 4294967296) (hf : (rlc = 0 ∧ rls = 0)) : Con Tryz.prog Pre 98 [P2 ls lc] (Tup [Wv 0 0, In 5]) := fun w vs hp hall => by
  obtain ⟨v0, rfl, h1⟩ := all2_one hall
  cases P2.eq h1
  have erls := tls.rd
  have erlc := tlc.rd
  subst erls erlc
  refine (angleRead_calls ⟨_, _, rfl, rfl, rfl⟩ (tls.len hs) (tlc.len hs)).mono ?_
  rintro _ w' ⟨hb, ⟨h1, h2, rfl⟩ | ⟨hn', v, rfl, hv⟩⟩
  · exact ⟨hb, _, rfl, [_, _], rfl, wv_zero w', rfl, trivial⟩
  · exact absurd hf hn'
theorem en_angle_text (vs : Array Value) (w : World) : (callFunc 99 vs).run Tryz.prog w = .ok (.enter 99 vs) w := enters Tryz.func99 (by kernel_rfl) (by kernel_rfl) vs w
theorem con_atext {sa sb : ByteArray} {x y : Rat} {K : Nat} (f1 : QS K x) (f2 : QS K y) (hk : 3 * K + 2 ≤ 35184372088640) (ea : sa.data.toList = tx (y * fac [x, y])) (eb : sb.data.toList = tx (x * fac [x, y])) : Con Tryz.prog Pre 99 [Wv x y] (P2 sa sb) := fun w vs hp hall => by
  obtain ⟨v0, rfl, h1⟩ := all2_one hall
  refine (angleText_calls h1 f1 f2 hk hp.1).mono ?_
  rintro _ w' ⟨hb, v, rfl, hv⟩
  exact ⟨hb, _, rfl, hv.p2 ea eb⟩
end Go.Proofs.YtgajdmadbdbabaaGreatDoor
