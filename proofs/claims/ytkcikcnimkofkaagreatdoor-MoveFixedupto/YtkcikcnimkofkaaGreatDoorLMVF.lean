/- Part 13 of the walks and of the mathematics under them: VY VSZ CFmoved VP VPC MVF. -/
import Derived.Test.YtkcikcnimkofkaaGreatDoorA12
import Derived.Test.YtkcikcnimkofkaaGreatDoorA2
set_option maxHeartbeats 16000000
set_option maxRecDepth 100000
/- VY -/
namespace Go.Proofs.YtkcikcnimkofkaaGreatDoor
open Go.RowKit Cx
theorem den_num (t : Rat) : t * (t.den : Rat) = ((t.num : Int) : Rat) := by
 conv => lhs; lhs; rw [← Rat.mkRat_self t]
 have h0 : (t.den : Rat) ≠ 0 := fun h => t.den_nz (by exact_mod_cast h)
 rw [Rat.mkRat_eq_div, Rat.div_mul_cancel h0]
theorem whole {q : Rat} (h : q.den = 1) : q = ((q.num : Int) : Rat) := by
 have := den_num q
 rw [h] at this
 rw [← this]
 show q = q * ((1 : Nat) : Rat)
 exact (Rat.mul_one q).symm
end Go.Proofs.YtkcikcnimkofkaaGreatDoor
/- VSZ -/
namespace Go.Proofs.YtkcikcnimkofkaaGreatDoor
open Go.RowKit Cx
def szW (Z : List Nat) (I : List Bool) (z : Nat) (b : Bool) (nd : Nd) : Bool := match nd.1, nd.2 with
 | 0, [_, n, d] => (Nat.blt n (2 ^ z) && (Nat.blt 0 d && Nat.blt d (2 ^ z))) && (!b || Nat.beq d 1)
 | 1, [_] => Nat.ble 3495259 z && !b
 | 2, [a, c] => (match Z[a]?, Z[c]?, I[a]?, I[c]? with
  | some x, some y, some true, some true => Nat.ble (Nat.max x y + 1) z
  | some x, some y, _, _ => Nat.ble (x + y + 1) z && !b
  | _, _, _, _ => false)
 | 3, [a, c] => (match Z[a]?, Z[c]?, I[a]?, I[c]? with
  | some x, some y, some true, some true => Nat.ble (Nat.max x y + 1) z
  | some x, some y, _, _ => Nat.ble (x + y + 1) z && !b
  | _, _, _, _ => false)
 | 4, [a, c] => (match Z[a]?, Z[c]?, I[a]?, I[c]? with
  | some x, some y, some true, some true => Nat.ble (x + y) z
  | some x, some y, _, _ => Nat.ble (x + y) z && !b
  | _, _, _, _ => false)
 | 5, [a] => (match Z[a]?, I[a]? with
  | some x, some true => Nat.ble x z
  | some x, _ => Nat.ble x z && !b
  | _, _ => false)
 | 6, [a, c] => (match Z[a]?, Z[c]? with
  | some x, some y => Nat.ble (x + y) z && !b
  | _, _ => false)
 | 8, i :: xs => (match getsO Z xs with
  | some zs => Nat.blt i xs.length && (Nat.ble ((xs.length + 1) * maxL zs + 1) z || (xs.all (fun a => match I[a]? with
   | some true => true
   | _ => false) && (match xs[i]? with
   | some a => (match Z[a]? with
    | some x => Nat.ble (x + 1) z
    | none => false)
   | none => false)))
  | none => false)
 | _, _ => false
def szC (Z : List Nat) (I : List Bool) : List Nd → List Nat → List Bool → Bool
 | [], [], [] => true
 | nd :: ns, z :: zs, b :: bs => (szW Z I z b nd && Nat.ble z 1000000000000) && szC Z I ns zs bs
 | _, _, _ => false
theorem szC_get {Z : List Nat} {I : List Bool} : ∀ {ns : List Nd} {zs : List Nat} {bs : List Bool} {i z : Nat}, szC Z I ns zs bs = true → zs[i]? = some z → ∃ nd b, ns[i]? = some nd ∧ bs[i]? = some b ∧ szW Z I z b nd = true ∧ z ≤ 1000000000000
 | [], [], [], _, _, _, h => by simp at h
 | [], [], _ :: _, _, _, h, _ => by cases h
 | [], _ :: _, _, _, _, h, _ => by cases h
 | _ :: _, [], _, _, _, h, _ => by cases h
 | _ :: _, _ :: _, [], _, _, h, _ => by cases h
 | nd :: ns, z' :: zs, b :: bs, 0, z, h, e => by
  have : z' = z := by simpa using e
  subst this
  unfold szC at h
  simp only [Bool.and_eq_true, Nat.ble_eq] at h
  exact ⟨nd, b, rfl, rfl, h.1.1, h.1.2⟩
 | nd :: ns, z' :: zs, b :: bs, i + 1, z, h, e => by
  unfold szC at h
  rw [Bool.and_eq_true] at h
  obtain ⟨nd2, b2, g1, g2, g3⟩ := szC_get (ns := ns) (zs := zs) (bs := bs) h.2 (show zs[i]? = some z by simpa using e)
  exact ⟨nd2, b2, by simpa using g1, by simpa using g2, g3⟩
theorem szC_len {Z : List Nat} {I : List Bool} : ∀ {ns : List Nd} {zs : List Nat} {bs : List Bool}, szC Z I ns zs bs = true → ns.length = zs.length
 | [], [], [], _ => rfl
 | [], [], _ :: _, h => by cases h
 | [], _ :: _, _, h => by cases h
 | _ :: _, [], _, h => by cases h
 | _ :: _, _ :: _, [], h => by cases h
 | _ :: _, _ :: _, _ :: _, h => by
  unfold szC at h
  rw [Bool.and_eq_true] at h
  exact congrArg (· + 1) (szC_len h.2)
structure QW (z : Nat) (x : Rat) : Prop where
 qs : QS z x
 wh : x.den = 1
theorem QW.of {z : Nat} {n : Int} (h : n.natAbs < 2 ^ z) (hz : 0 < z) : QW z ((n : Int) : Rat) :=
 ⟨⟨by simpa using h, by
  show ((n : Int) : Rat).den < 2 ^ z
  rw [Rat.den_intCast]
  exact Nat.one_lt_two_pow (by omega)⟩, Rat.den_intCast n⟩
theorem QW.mono {k l : Nat} {x : Rat} (h : QW k x) (hk : k ≤ l) : QW l x := ⟨h.qs.mono hk, h.wh⟩
theorem two_max {a b x y : Nat} (h1 : a < 2 ^ x) (h2 : b < 2 ^ y) : a + b < 2 ^ (Nat.max x y + 1) := by
 have e1 : 2 ^ x ≤ 2 ^ Nat.max x y := Nat.pow_le_pow_right (by decide) (Nat.le_max_left x y)
 have e2 : 2 ^ y ≤ 2 ^ Nat.max x y := Nat.pow_le_pow_right (by decide) (Nat.le_max_right x y)
 rw [Nat.pow_succ]
 omega
theorem QW.add {x y : Nat} {a b : Rat} (h1 : QW x a) (h2 : QW y b) : QW (Nat.max x y + 1) (a + b) := by
 rw [whole h1.wh, whole h2.wh, ← Rat.intCast_add]
 refine QW.of ?_ (by omega)
 have := two_max h1.qs.num h2.qs.num
 omega
theorem QW.sub {x y : Nat} {a b : Rat} (h1 : QW x a) (h2 : QW y b) : QW (Nat.max x y + 1) (a - b) := by
 rw [whole h1.wh, whole h2.wh, ← Rat.intCast_sub]
 refine QW.of ?_ (by omega)
 have := two_max h1.qs.num h2.qs.num
 omega
theorem QW.mul {x y : Nat} {a b : Rat} (h1 : QW x a) (h2 : QW y b) : QW (x + y) (a * b) := by
 refine ⟨h1.qs.mul h2.qs, ?_⟩
 rw [whole h1.wh, whole h2.wh, ← Rat.intCast_mul]
 exact Rat.den_intCast _
theorem QW.neg {x : Nat} {a : Rat} (h1 : QW x a) : QW x (-a) := ⟨h1.qs.neg, h1.wh⟩
theorem lD_one : ∀ {qs : List Rat} {m : Nat}, (∀ q ∈ qs, q.den = 1) → qs.foldl (fun m q => m * (q.den / Nat.gcd m q.den)) m = m
 | [], _, _ => rfl
 | q :: qs, m, h => by
  rw [List.foldl_cons, h q List.mem_cons_self, Nat.gcd_one_right, Nat.div_self (by decide), Nat.mul_one]
  exact lD_one fun p hp => h p (List.mem_cons_of_mem _ hp)
theorem QW.fac {z : Nat} {qs : List Rat} {x : Rat} (hx : QS z x) (h : x ∈ qs) (hw : ∀ y ∈ qs, y.den = 1) : QS (z + 1) (x * fac qs) := by
 have hl : lD qs = 1 := lD_one hw
 refine ⟨?_, ?_⟩
 ·rw [fac_abs h, hl, hw x h, Nat.div_self (by decide), Nat.mul_one]
  exact Nat.lt_of_le_of_lt (Nat.div_le_self _ _) (Nat.lt_of_lt_of_le hx.num (Nat.pow_le_pow_right (by decide) (by omega)))
 ·rw [fac_den h]
  exact Nat.one_lt_two_pow (by omega)
theorem ten_three : ∀ n : Nat, 10 ^ n ≤ 2 ^ ((10 * n + 2) / 3)
 | 0 => by decide
 | 1 => by decide
 | 2 => by decide
 | n + 3 => by
  have h := ten_three n
  have e : (10 * (n + 3) + 2) / 3 = (10 * n + 2) / 3 + 10 := by omega
  rw [e, Nat.pow_add, Nat.pow_add]
  exact Nat.mul_le_mul h (by decide)
theorem QS.rd3 (l : List UInt8) : QS ((10 * l.length + 2) / 3 + 5) (Cx.rd l) := by
 have key : ∀ {m : List UInt8}, digs m = true → dv m < 2 ^ ((10 * m.length + 2) / 3) := fun {m} h => Nat.lt_of_lt_of_le (dv_lt (digs_all h)) (ten_three _)
 unfold Cx.rd
 split
 ·rename_i h
  rw [Bool.and_eq_true] at h
  have h1 := key h.1
  have h2 := key h.2
  have h3 := up_len (tailOf l)
  have h4 := low_len (tailOf l)
  have h5 := tail_len l
  apply QS.mkr
  ·rw [sg_abs]; exact Nat.lt_of_lt_of_le h1 (Nat.pow_le_pow_right (by decide) (by omega))
  ·exact Nat.lt_of_lt_of_le h2 (Nat.pow_le_pow_right (by decide) (by omega))
 ·exact QS.zero.mono (by omega)
section
variable {N : List Nd} {Z : List Nat} {I : List Bool} {q : Nat → Rat}
theorem sizes_okW {σ : Nat → ByteArray} (hσ : ∀ j, (σ j).size ≤ 1048576) (hw : wfB 0 N = true) (hz : szC Z I N Z I = true) (hq : ∀ (a : Nat) nd, N[a]? = some nd → q a = valN σ q nd) (h0 : ∀ a, N.length ≤ a → q a = 0) : (∀ (a : Nat) z, Z[a]? = some z → QS z (q a)) ∧ ∀ a, QS 1000000000000 (q a) := by
 have h2 : ∀ (a : Nat) z, Z[a]? = some z → QS z (q a) ∧ (I[a]? = some true → (q a).den = 1) := by
  intro a
  induction a using Nat.strongRecOn with
  | ind a ih =>
   intro z hz'
   obtain ⟨nd, b, hn, hb, hs, _⟩ := szC_get hz hz'
   have hwf := wfB_get hw hn
   rw [Nat.zero_add] at hwf
   rw [hq a nd hn, hb]
   obtain ⟨op, xs⟩ := nd
   unfold szW at hs
   unfold valN
   unfold wfN at hwf
   dsimp only at hs hwf ⊢
   have W : ∀ {c x}, c < a → Z[c]? = some x → I[c]? = some true → QW x (q c) := fun hc hx hi => ⟨(ih _ hc _ hx).1, (ih _ hc _ hx).2 hi⟩
   have no : ∀ {v : Rat}, b = false → (some b = some true → v.den = 1) := fun e h => by rw [e] at h; cases h
   split at hs
   ·rename_i s n d
    simp only [Bool.and_eq_true] at hs
    obtain ⟨⟨h1, h2, h3⟩, h4⟩ := hs
    refine ⟨QS.const (by simpa [Nat.blt_eq] using h1) (by simpa [Nat.blt_eq] using h2) (by simpa [Nat.blt_eq] using h3), fun e => ?_⟩
    rw [show b = true from Option.some.inj e] at h4
    have hd : d = 1 := by simpa using h4
    subst hd
    show (if s = 0 then mkRat (n : Int) 1 else mkRat (-(n : Int)) 1).den = 1
    split
    ·rw [Rat.mkRat_one]
     exact Rat.den_intCast _
    ·rw [Rat.mkRat_one]
     exact Rat.den_intCast _
   ·rename_i j
    simp only [Bool.and_eq_true, Nat.ble_eq, Bool.not_eq_true'] at hs
    exact ⟨QS.mono (QS.rd3 _) (by have := hσ j; rw [str_len]; omega), no hs.2⟩
   ·simp only [List.all_cons, List.all_nil, Bool.and_true, Bool.and_eq_true] at hwf
    have l1 := (by simpa [Nat.blt_eq] using hwf.1 : _ < a)
    have l2 := (by simpa [Nat.blt_eq] using hwf.2 : _ < a)
    split at hs
    ·rename_i x y hx hy i1 i2
     rw [Nat.ble_eq] at hs
     have := ((W l1 hx i1).add (W l2 hy i2)).mono hs
     exact ⟨this.qs, fun _ => this.wh⟩
    ·rename_i x y hx hy _
     simp only [Bool.and_eq_true, Nat.ble_eq, Bool.not_eq_true'] at hs
     exact ⟨((ih _ l1 x hx).1.add (ih _ l2 y hy).1).mono hs.1, no hs.2⟩
    ·cases hs
   ·simp only [List.all_cons, List.all_nil, Bool.and_true, Bool.and_eq_true] at hwf
    have l1 := (by simpa [Nat.blt_eq] using hwf.1 : _ < a)
    have l2 := (by simpa [Nat.blt_eq] using hwf.2 : _ < a)
    split at hs
    ·rename_i x y hx hy i1 i2
     rw [Nat.ble_eq] at hs
     have := ((W l1 hx i1).sub (W l2 hy i2)).mono hs
     exact ⟨this.qs, fun _ => this.wh⟩
    ·rename_i x y hx hy _
     simp only [Bool.and_eq_true, Nat.ble_eq, Bool.not_eq_true'] at hs
     exact ⟨((ih _ l1 x hx).1.sub (ih _ l2 y hy).1).mono hs.1, no hs.2⟩
    ·cases hs
   ·simp only [List.all_cons, List.all_nil, Bool.and_true, Bool.and_eq_true] at hwf
    have l1 := (by simpa [Nat.blt_eq] using hwf.1 : _ < a)
    have l2 := (by simpa [Nat.blt_eq] using hwf.2 : _ < a)
    split at hs
    ·rename_i x y hx hy i1 i2
     rw [Nat.ble_eq] at hs
     have := ((W l1 hx i1).mul (W l2 hy i2)).mono hs
     exact ⟨this.qs, fun _ => this.wh⟩
    ·rename_i x y hx hy _
     simp only [Bool.and_eq_true, Nat.ble_eq, Bool.not_eq_true'] at hs
     exact ⟨((ih _ l1 x hx).1.mul (ih _ l2 y hy).1).mono hs.1, no hs.2⟩
    ·cases hs
   ·simp only [List.all_cons, List.all_nil, Bool.and_true] at hwf
    have l1 := (by simpa [Nat.blt_eq] using hwf : _ < a)
    split at hs
    ·rename_i x hx i1
     rw [Nat.ble_eq] at hs
     have := (W l1 hx i1).neg.mono hs
     exact ⟨this.qs, fun _ => this.wh⟩
    ·rename_i x hx _
     simp only [Bool.and_eq_true, Nat.ble_eq, Bool.not_eq_true'] at hs
     exact ⟨((ih _ l1 x hx).1.neg).mono hs.1, no hs.2⟩
    ·cases hs
   ·simp only [List.all_cons, List.all_nil, Bool.and_true, Bool.and_eq_true] at hwf
    split at hs
    ·rename_i x y hx hy
     simp only [Bool.and_eq_true, Nat.ble_eq, Bool.not_eq_true'] at hs
     exact ⟨((ih _ (by simpa [Nat.blt_eq] using hwf.1) x hx).1.div (ih _ (by simpa [Nat.blt_eq] using hwf.2) y hy).1).mono hs.1, no hs.2⟩
    ·cases hs
   ·rename_i i ys
    split at hs
    ·rename_i zs hzs
     rw [Bool.and_eq_true] at hs
     have hi : i < ys.length := by simpa [Nat.blt_eq] using hs.1
     have hwf' : ys.all (Nat.blt · a) = true := hwf
     rw [List.all_eq_true] at hwf'
     have hlt : ∀ c ∈ ys, c < a := fun c hc => by simpa [Nat.blt_eq] using hwf' c hc
     have hm : q ys[i] ∈ ys.map q := List.mem_map_of_mem (List.getElem_mem hi)
     have hg : (ys.map q).getD i 0 = q ys[i] := by
      rw [List.getD_eq_getElem?_getD, List.getElem?_map, List.getElem?_eq_getElem hi]
      rfl
     show QS z ((ys.map q).getD i 0 * fac (ys.map q)) ∧ (some b = some true → ((ys.map q).getD i 0 * fac (ys.map q)).den = 1)
     rw [hg]
     refine ⟨?_, fun _ => fac_den hm⟩
     rcases Bool.or_eq_true _ _ ▸ hs.2 with h3 | h3
     ·rw [Nat.ble_eq] at h3
      have hall : ∀ y ∈ ys.map q, QS (maxL zs) y := fun y hy => by
       obtain ⟨c, hc, rfl⟩ := List.mem_map.1 hy
       obtain ⟨z', hm', hz2⟩ := getsO_get hzs c hc
       exact (ih c (hlt c hc) z' hz2).1.mono (le_maxL z' hm')
      have := QS.facN hall (x := q ys[i]) hm
      rw [List.length_map] at this
      exact this.mono h3
     ·rw [Bool.and_eq_true, List.all_eq_true] at h3
      obtain ⟨h4, h5⟩ := h3
      have hwh : ∀ y ∈ ys.map q, y.den = 1 := fun y hy => by
       obtain ⟨c, hc, rfl⟩ := List.mem_map.1 hy
       obtain ⟨z', _, hz2⟩ := getsO_get hzs c hc
       refine (ih c (hlt c hc) z' hz2).2 ?_
       have := h4 c hc
       split at this
       ·assumption
       ·cases this
      rw [List.getElem?_eq_getElem hi] at h5
      dsimp only at h5
      split at h5
      ·rename_i x hx
       rw [Nat.ble_eq] at h5
       exact (QW.fac (ih _ (hlt _ (List.getElem_mem hi)) x hx).1 hm hwh).mono h5
      ·cases h5
    ·cases hs
   ·cases hs
 refine ⟨fun a z h => (h2 a z h).1, fun a => ?_⟩
 have hl := szC_len hz
 by_cases ha : a < Z.length
 ·obtain ⟨nd, b, _, _, _, hle⟩ := szC_get hz (List.getElem?_eq_getElem ha)
  exact (h2 a _ (List.getElem?_eq_getElem ha)).1.mono hle
 ·rw [h0 a (by omega)]
  exact QS.zero.mono (by decide)
theorem hy_ofW {L C : List (List Nat × Nat)} {σ : Nat → ByteArray} {H : List (Nat × Nat × Nat × Nat)} (hσ : ∀ j, (σ j).size ≤ 1048576) (hw : wfB 0 N = true) (hz : szC Z I N Z I = true) (hl : litB N L = true) (hcn : canB N C = true) (hq : ∀ (a : Nat) nd, N[a]? = some nd → q a = valN σ q nd) (h0 : ∀ a, N.length ≤ a → q a = 0) (hH : hAll q H) : Hy N H L C Z q σ where
 nat := hq
 qs := (sizes_okW hσ hw hz hq h0).2
 zs := (sizes_okW hσ hw hz hq h0).1
 par := hσ
 lit := fun s b h => lit_rd hl hq h
 k0 := fun a r h => kn_at hH h
 k1 := fun a r h => kn_at hH h
 k2 := fun a r h => kn_at hH h
 k3 := fun a b r h => kn_at hH h
 k4 := fun l a b r h1 h2 => by
  have h3 : Nat.beq 1 r = true ↔ q a = q b := kn_at hH h2
  rw [h3, ← can_tx hcn hq h1]
  exact ⟨fun e => by rw [e], fun e => tellS_inj (bytesN_inj e)⟩
 k6 := fun a b r h => kn_at hH h
 k5 := fun a r h => kn_at hH h
end
end Go.Proofs.YtkcikcnimkofkaaGreatDoor
/- CFmoved -/
namespace Go.Proofs.YtkcikcnimkofkaaGreatDoor
open Go.RowKit Cx
theorem closed_moved : Closed 50 :=
 closed_told (N := [(0, [0, 1, 1]), (0, [0, 0, 1]), (4, [0, 1]), (4, [1, 1]), (2, [2, 3]), (2, [4, 1]), (5, [5]), (4, [0, 6]), (4, [1, 6]), (4, [0, 0]), (2, [9, 3]), (6, [7, 10]), (6, [8, 10]), (0, [0, 2, 1]), (4, [11, 13]), (4, [12, 13]), (2, [1, 14]), (2, [1, 15]), (2, [10, 1]), (5, [18]), (4, [0, 19]), (4, [1, 19]), (6, [20, 10]), (6, [21, 10]), (4, [22, 13]), (4, [23, 13]), (2, [0, 24]), (2, [1, 25]), (3, [26, 16]), (3, [27, 17]), (4, [1, 0]), (2, [2, 30]), (2, [31, 1]), (5, [32]), (4, [0, 33]), (4, [1, 33]), (6, [34, 10]), (6, [35, 10]), (4, [36, 13]), (4, [37, 13]), (2, [1, 38]), (2, [0, 39]), (3, [40, 16]), (3, [41, 17]), (0, [1, 1, 1]), (2, [4, 44]), (5, [45]), (4, [0, 46]), (4, [1, 46]), (6, [47, 10]), (6, [48, 10]), (4, [49, 13]), (4, [50, 13]), (2, [1, 51]), (2, [1, 52]), (2, [10, 44]), (5, [55]), (4, [0, 56]), (4, [1, 56]), (6, [57, 10]), (6, [58, 10]), (4, [59, 13]), (4, [60, 13]), (2, [0, 61]), (2, [1, 62]), (3, [63, 53]), (3, [64, 54]), (2, [31, 44]), (5, [67]), (4, [0, 68]), (4, [1, 68]), (6, [69, 10]), (6, [70, 10]), (4, [71, 13]), (4, [72, 13]), (2, [1, 73]), (2, [0, 74]), (3, [75, 53]), (3, [76, 54]), (4, [65, 28]), (4, [66, 28]), (4, [77, 29]), (4, [78, 29]), (2, [79, 81]), (2, [80, 82]), (4, [65, 42]), (4, [66, 42]), (4, [77, 43]), (4, [78, 43]), (2, [85, 87]), (2, [86, 88]), (4, [65, 16]), (4, [66, 16]), (4, [77, 17]), (4, [78, 17]), (2, [91, 93]), (2, [92, 94]), (2, [95, 53]), (2, [96, 54]), (4, [83, 83]), (4, [84, 84]), (2, [99, 100]), (3, [101, 0]), (4, [89, 89]), (4, [90, 90]), (2, [103, 104]), (3, [105, 0]), (4, [83, 89]), (4, [84, 90]), (2, [107, 108]), (4, [83, 90]), (4, [84, 89]), (3, [110, 111]), (3, [83, 0]), (3, [84, 1]), (0, [0, 3, 1]), (0, [0, 4, 1]), (4, [28, 115]), (4, [29, 115]), (4, [42, 116]), (4, [43, 116]), (2, [117, 119]), (2, [118, 120]), (2, [121, 16]), (2, [122, 17]), (0, [1, 3, 1])]) (H := [(0, 0, 0, 0), (0, 102, 0, 1), (0, 106, 0, 1), (0, 109, 0, 1), (1, 112, 0, 0), (0, 113, 0, 1), (0, 114, 0, 1), (0, 97, 0, 0), (4, 83, 0, 1), (4, 89, 1, 1), (4, 97, 13, 1), (4, 84, 1, 1), (4, 90, 0, 1), (4, 98, 1, 1), (4, 123, 125, 1), (4, 124, 116, 1)]) (K := [(218, [.inr (3, 9, 0, 0, 0)]), (218, [.inr (3, 121, 0, 0, 0)]), (208, [.inr (3, 227, 0, 0, 0)]), (208, [.inr (3, 238, 0, 0, 0)]), (208, [.inr (3, 311, 0, 0, 0)]), (219, []), (208, [.inr (3, 354, 0, 0, 0)])]) (L := [([49], 0), ([48], 1), ([45, 49], 44), ([50], 13), ([51], 115), ([52], 116), ([45, 51], 125)]) (C := [([49], 0), ([48], 1), ([50], 13), ([45, 51], 125), ([52], 116)]) (Z := [2, 2, 4, 4, 9, 12, 12, 14, 14, 4, 9, 23, 23, 3, 26, 26, 29, 29, 12, 12, 14, 14, 23, 23, 26, 26, 29, 29, 59, 59, 4, 9, 12, 12, 14, 14, 23, 23, 26, 26, 29, 29, 59, 59, 2, 12, 12, 14, 14, 23, 23, 26, 26, 29, 29, 12, 12, 14, 14, 23, 23, 26, 26, 29, 29, 59, 59, 12, 12, 14, 14, 23, 23, 26, 26, 29, 29, 59, 59, 118, 118, 118, 118, 237, 237, 118, 118, 118, 118, 237, 237, 88, 88, 88, 88, 177, 177, 207, 207, 474, 474, 949, 952, 474, 474, 949, 952, 474, 474, 949, 474, 474, 949, 240, 240, 3, 4, 62, 62, 63, 63, 126, 126, 156, 156, 3]) (cl := []) 8 (fun _ h => by cases h) (by kernel_rfl) (by kernel_rfl) (by kernel_rfl) (by kernel_rfl) (by kernel_rfl) (by kernel_rfl) (by kernel_rfl)
end Go.Proofs.YtkcikcnimkofkaaGreatDoor
/- VP -/
namespace Cx
open Go Go.RowKit
abbrev Hs := List (Nat × Nat × Nat × Nat)
def Sx.plus (S : Sx) (X : Hs) : Sx := { S with H := X ++ S.H }
abbrev Ask := Nat × Nat × Nat × Nat
def askZ (a : Nat) : Ask := (0, a, 0, a)
def askOk (S : Sx) : Ask → Bool
 | (k, a, b, d) => (Nat.beq k 0 && (Nat.beq b 0 && Nat.beq d a)) || (Nat.beq k 3 && (match S.N[d]? with
  | some (op, ar) => Nat.beq op 3 && beqL ar [a, b]
  | none => false))
def sqF (S : Sx) : Nat → List Nat → Option Nat
 | s, [] => some s
 | s, a :: l => (S.nd 4 [a, a]).bind fun b => (S.nd 2 [s, b]).bind fun t => sqF S t l
def sqN (S : Sx) : List Nat → Option Nat
 | [] => none
 | a :: l => (S.nd 4 [a, a]).bind fun s => sqF S s l
def acrossB (S : Sx) (a b : Nat) : List Nat → List Nat → Option (List Ask)
 | c :: l, d :: m => (S.nd 4 [a, d]).bind fun x => (S.nd 4 [c, b]).bind fun y => (S.nd 3 [x, y]).bind fun z => (acrossB S a b l m).map fun r => (3, x, y, z) :: r
 | _, _ => some []
def alikeB (S : Sx) : List Nat → List Nat → List Nat → List Nat → Option (List Ask)
 | pl, pm, a :: l, b :: m => (acrossB S a b pl pm).bind fun r => (alikeB S (pl ++ [a]) (pm ++ [b]) l m).map fun t => r ++ t
 | _, _, _, _ => some []
def asks (S : Sx) (h : List HB) (code : Nat) (args : List AV) : Option (List Ask) :=
 match code with
 | 60 => arg1 (fun x => (asA x).bind fun cs => (qRow S cs).map fun l => l.map askZ) args
 | 61 => arg1 (fun x => (rowB h 1 x).bind fun p => (mapO (acX 0) p.2).map fun l => l.map askZ) args
 | 62 => arg2 (fun x y => (rowB h 1 x).bind fun p => (mapO (acX 0) p.2).bind fun l => (rowB h 1 y).bind fun p' => (mapO (acX 0) p'.2).bind fun m => alikeB S [] [] l m) args
 | 63 => arg1 (fun x => (asA x).bind fun cs => (mapO acTold cs).bind fun l => (plainOf S l).map fun xs => xs.map askZ) args
 | _ => none
def splits : List Ask → Hs → List Hs
 | [], _ => []
 | (k, a, b, _) :: l, X => ((k, a, b, 0) :: X) :: splits l ((k, a, b, 1) :: X)
def allZ : List Ask → Hs → Hs
 | [], X => X
 | (k, a, b, _) :: l, X => allZ l ((k, a, b, 1) :: X)
def bodyC (S : Sx) (call : CallF) : CallF := fun f args h nx => S.P.funcs[f]?.bind fun fn => fn.body.bind fun c => ifO (Nat.ble args.length fn.ntmps) ((runB S call fn.ntmps c { tm := numb1 0 args, h := h, nx := nx }).bind fun r =>
   ifO (Nat.beq r.1 1) ((mapO (resB S.P r.2) fn.results.toList).map fun xs => (tupB xs, r.2.h, r.2.nx)))
abbrev CRes := Option (AV × List HB × Nat)
def agree (h : List HB) (b : Bool) (hi : Nat) : CRes → Bool
 | some (v, h', nx') => (match asB v with
  | some c => b == c
  | none => false) && (Nat.ble nx' hi && h.all fun x => h'.any fun y => Nat.beq y.1 x.1 && acsW x.2 y.2)
 | none => false
def topN : Nat → List CRes → Nat
 | m, [] => m
 | m, some p :: rs => topN (bif Nat.ble m p.2.2 then p.2.2 else m) rs
 | m, none :: rs => topN m rs
def joinC (h : List HB) (nx : Nat) (rs : List CRes) : CRes :=
 match rs with
 | some p :: _ => (asB p.1).bind fun b => ifO (rs.all (agree h b (topN nx rs))) (some (kB b, h, topN nx rs))
 | _ => none
def callC (S : Sx) (cs : List (FuncId × Nat)) : Nat → Hs → CallF
 | 0, _, _, _, _, _ => none
 | n + 1, X, f, args, h, nx => match prGet f cs with
  | none => bodyC (S.plus X) (callC S cs n X) f args h nx
  | some c => (asks (S.plus X) h c args).bind fun l => ifO (l.all (askOk S)) ((sqN S (l.map (·.2.2.2))).bind fun s => ((S.plus X).kn 0 s 0).bind fun r =>
    bif Nat.beq 1 r then bodyC (S.plus (allZ l X)) (callC S cs n (allZ l X)) f args h nx
    else joinC h nx ((splits l X).map fun X' => bodyC (S.plus X') (callC S cs n X') f args h nx))
section
variable {S : Sx} {E : Ev S.nb} {w0 : World}
theorem bodyC_ok {call : CallF} (hm : S.P.follows .mixedOrders = true) (N : Knows S E) (hP : PrimOk S E w0) (hC : CallOk S E w0 call) : CallOk S E w0 (bodyC S call) := fun f args h nx p hp γ w vs hi hA hb hlt hf => by
 unfold bodyC at hp
 simp only [Option.bind_eq_some_iff, ifO_some, Option.map_eq_some_iff, Nat.ble_eq, Nat.beq_eq] at hp
 obtain ⟨fn, h1, c, h2, h3, ⟨e, s'⟩, h4, h5, xs, h6, rfl⟩ := hp
 dsimp only at h5 h6
 subst h5
 obtain ⟨_, _, r⟩ := runB_ok hm N hP hC c _ _ _ h4
 refine calls_of_wp h1 h2 (r γ _ w _ ⟨hi, fun t v q => ?_, hb, hlt, ?_, rfl⟩ hf fun a' w' γ' hef hs => ?_)
 ·obtain ⟨_, q2⟩ := numb1_get q
  rw [Nat.sub_zero] at q2
  obtain ⟨u, hu, hv⟩ := hA.get q2
  have hlt : t < vs.length := (List.getElem?_eq_some_iff.1 hu).1
  have : (vs.toArray ++ Array.replicate (fn.ntmps - vs.toArray.size) undef).getD t undef = u := by
   rw [Array.getD_eq_getD_getElem?, Array.getElem?_append_left (by simpa using hlt)]
   simp [hu]
  show avOn _ v ((vs.toArray ++ Array.replicate (fn.ntmps - vs.toArray.size) undef).getD t undef)
  rw [this]
  exact hv
 ·have := hA.len
  simp
  omega
 ·obtain ⟨v, hv, hx⟩ := results_run hs h6
  exact ⟨hs.df, v, hv, v, γ', rfl, hef, hx, hs.bx⟩
theorem asB_kB {v : AV} {b : Bool} (h : asB v = some b) : v = kB b := by
 unfold asB at h
 rw [Option.bind_eq_some_iff] at h
 obtain ⟨c, h1, h2⟩ := h
 unfold asC at h1
 split at h1
 ·cases h1
  unfold acB at h2
  split at h2
  ·cases h2
   rfl
  ·cases h2
 ·cases h1
theorem agree_some {h : List HB} {b : Bool} {hi : Nat} {r : CRes} (hr : agree h b hi r = true) : ∃ h' nx', r = some (kB b, h', nx') ∧ nx' ≤ hi ∧ ∀ x ∈ h, x ∈ h' := by
 unfold agree at hr
 split at hr
 ·rename_i v h' nx'
  rw [Bool.and_eq_true, Bool.and_eq_true, Nat.ble_eq, List.all_eq_true] at hr
  obtain ⟨h1, h2, h3⟩ := hr
  refine ⟨h', nx', ?_, h2, fun x hx => ?_⟩
  ·split at h1
   ·rename_i c hc
    rw [asB_kB hc, show c = b from (by simpa using h1 : b = c).symm]
   ·cases h1
  ·have := h3 x hx
   rw [List.any_eq_true] at this
   obtain ⟨y, hy, e⟩ := this
   rw [Bool.and_eq_true, Nat.beq_eq] at e
   have : x = y := Prod.ext e.1.symm (acsW_eq e.2)
   rw [this]
   exact hy
 ·cases hr
variable {T : Hs → Prop} {z : Nat → Prop}
def AskTrue (S : Sx) (T : Hs → Prop) (z : Nat → Prop) : Prop := ∀ X, T X → ∀ a, askOk S a = true → (z a.2.2.2 → T ((a.1, a.2.1, a.2.2.1, 1) :: X)) ∧ (¬ z a.2.2.2 → T ((a.1, a.2.1, a.2.2.1, 0) :: X))
theorem allZ_true (hk : AskTrue S T z) : ∀ {l : List Ask} {X : Hs}, T X → (∀ a ∈ l, askOk S a = true) → (∀ a ∈ l, z a.2.2.2) → T (allZ l X)
 | [], _, h, _, _ => h
 | (k, a, b, d) :: l, X, h, ho, hz => allZ_true (l := l) hk ((hk X h (k, a, b, d) (ho _ List.mem_cons_self)).1 (hz _ List.mem_cons_self)) (fun a ha => ho a (List.mem_cons_of_mem _ ha)) (fun a ha => hz a (List.mem_cons_of_mem _ ha))
theorem splits_true (hk : AskTrue S T z) : ∀ {l : List Ask} {X : Hs}, T X → (∀ a ∈ l, askOk S a = true) → (∃ a ∈ l, ¬ z a.2.2.2) → ∃ X' ∈ splits l X, T X'
 | [], _, _, _, ⟨_, h, _⟩ => by cases h
 | (k, a, b, d) :: l, X, h, ho, hz => by
  by_cases e : z d
  ·obtain ⟨X', h1, h2⟩ := splits_true (l := l) hk ((hk X h (k, a, b, d) (ho _ List.mem_cons_self)).1 e) (fun a ha => ho a (List.mem_cons_of_mem _ ha)) (by
    obtain ⟨c, hc, hn⟩ := hz
    rcases List.mem_cons.1 hc with rfl | hc
    ·exact (hn e).elim
    ·exact ⟨c, hc, hn⟩)
   exact ⟨X', List.mem_cons_of_mem _ h1, h2⟩
  ·exact ⟨_, List.mem_cons_self, (hk X h (k, a, b, d) (ho _ List.mem_cons_self)).2 e⟩
theorem callC_ok {cs : List (FuncId × Nat)} (hm : S.P.follows .mixedOrders = true) (hN : ∀ X, T X → Knows (S.plus X) E) (hP : ∀ X, T X → PrimOk (S.plus X) E w0) (hk : AskTrue S T z)
  (hs : ∀ X, T X → ∀ l s r, sqN S l = some s → (S.plus X).kn 0 s 0 = some r → (Nat.beq 1 r = true → ∀ d ∈ l, z d) ∧ (Nat.beq 1 r = false → ∃ d ∈ l, ¬ z d)) : ∀ n X, T X → CallOk S E w0 (callC S cs n X)
 | 0, _, _ => fun _ _ _ _ _ h => by cases h
 | n + 1, X, hX => fun f args h nx p hp => by
  have body : ∀ Y, T Y → CallOk S E w0 (bodyC (S.plus Y) (callC S cs n Y)) := fun Y hY => bodyC_ok (S := S.plus Y) hm (hN Y hY) (hP Y hY) (callC_ok hm hN hP hk hs n Y hY)
  unfold callC at hp
  split at hp
  ·exact body X hX f args h nx p hp
  ·simp only [Option.bind_eq_some_iff, ifO_some, List.all_eq_true] at hp
   obtain ⟨l, _, hl, s, h1, r, h2, h3⟩ := hp
   obtain ⟨a1, a0⟩ := hs X hX _ s r h1 h2
   cases e : Nat.beq 1 r with
   | true =>
    rw [e] at h3
    exact body _ (allZ_true hk hX hl fun a ha => a1 e _ (List.mem_map_of_mem ha)) f args h nx p h3
   | false =>
    rw [e] at h3
    obtain ⟨d, hd, hz⟩ := a0 e
    obtain ⟨a, ha, rfl⟩ := List.mem_map.1 hd
    obtain ⟨X', m1, m2⟩ := splits_true hk hX hl ⟨a, ha, hz⟩
    replace h3 : joinC h nx ((splits l X).map fun X' => bodyC (S.plus X') (callC S cs n X') f args h nx) = some p := h3
    unfold joinC at h3
    split at h3
    ·rename_i p0 rs hrs
     rw [Option.bind_eq_some_iff] at h3
     obtain ⟨b, hb, h4⟩ := h3
     rw [ifO_some, List.all_eq_true] at h4
     obtain ⟨h5, h6⟩ := h4
     cases h6
     obtain ⟨h', nx', q1, q2, q3⟩ := agree_some (h5 _ (List.mem_map_of_mem m1))
     intro γ w vs hi hA hb hlt hf
     refine (body X' m2 f args h nx _ q1 γ w vs hi hA hb hlt fun b g1 g2 => hf b g1 (Nat.lt_of_lt_of_le g2 q2)).mono ?_
     rintro _ w' ⟨r', γ', rfl, hef, hv, hx⟩
     exact ⟨r', γ', rfl, hef.wide (Nat.le_refl _) q2, hv, fun x hh => hx x (q3 x hh)⟩
    ·cases h3
end
end Cx
/- VPC -/
namespace Go.Proofs.YtkcikcnimkofkaaGreatDoor
open Cx Go Go.RowKit
section
variable {N : List Nd} {H : List (Nat × Nat × Nat × Nat)} {K : List (FuncId × List AC)} {L C : List (List Nat × Nat)} {Z : List Nat} {q : Nat → Rat} {σ : Nat → ByteArray} {w0 : World} {cl : List FuncId} {cs pr : List (FuncId × Nat)}
theorem kn_cons {k a b k' a' b' r' : Nat} {r : Nat} (h : knFrom k a b ((k', a', b', r') :: H) = some r) : (k = k' ∧ a = a' ∧ b = b' ∧ r = r') ∨ knFrom k a b H = some r := by
 unfold knFrom at h
 cases e : (Nat.beq k k' && (Nat.beq a a' && Nat.beq b b')) with
 | true =>
  rw [e] at h
  simp only [Bool.and_eq_true, Nat.beq_eq] at e
  exact Or.inl ⟨e.1, e.2.1, e.2.2, (Option.some.inj h).symm⟩
 | false =>
  rw [e] at h
  exact Or.inr h
theorem Hy.add0 (Y : Hy N H L C Z q σ) {a r : Nat} (h : Nat.beq 1 r = true ↔ q a = 0) : Hy N ((0, a, 0, r) :: H) L C Z q σ where
 nat := Y.nat
 qs := Y.qs
 zs := Y.zs
 par := Y.par
 lit := Y.lit
 k0 := fun a' r' g => by
  rcases kn_cons g with ⟨_, e1, _, e2⟩ | g
  ·rw [e1, e2]
   exact h
  ·exact Y.k0 a' r' g
 k1 := fun a' r' g => by
  rcases kn_cons g with ⟨e, _⟩ | g
  ·cases e
  ·exact Y.k1 a' r' g
 k2 := fun a' r' g => by
  rcases kn_cons g with ⟨e, _⟩ | g
  ·cases e
  ·exact Y.k2 a' r' g
 k4 := fun l a' b' r' g1 g => by
  rcases kn_cons g with ⟨e, _⟩ | g
  ·cases e
  ·exact Y.k4 l a' b' r' g1 g
 k3 := fun a' b' r' g => by
  rcases kn_cons g with ⟨e, _⟩ | g
  ·cases e
  ·exact Y.k3 a' b' r' g
 k6 := fun a' b' r' g => by
  rcases kn_cons g with ⟨e, _⟩ | g
  ·cases e
  ·exact Y.k6 a' b' r' g
 k5 := fun a' r' g => by
  rcases kn_cons g with ⟨e, _⟩ | g
  ·cases e
  ·exact Y.k5 a' r' g
theorem Hy.add3 (Y : Hy N H L C Z q σ) {a b r : Nat} (h : Nat.beq 1 r = true ↔ q a = q b) : Hy N ((3, a, b, r) :: H) L C Z q σ where
 nat := Y.nat
 qs := Y.qs
 zs := Y.zs
 par := Y.par
 lit := Y.lit
 k0 := fun a' r' g => by
  rcases kn_cons g with ⟨e, _⟩ | g
  ·cases e
  ·exact Y.k0 a' r' g
 k1 := fun a' r' g => by
  rcases kn_cons g with ⟨e, _⟩ | g
  ·cases e
  ·exact Y.k1 a' r' g
 k2 := fun a' r' g => by
  rcases kn_cons g with ⟨e, _⟩ | g
  ·cases e
  ·exact Y.k2 a' r' g
 k4 := fun l a' b' r' g1 g => by
  rcases kn_cons g with ⟨e, _⟩ | g
  ·cases e
  ·exact Y.k4 l a' b' r' g1 g
 k3 := fun a' b' r' g => by
  rcases kn_cons g with ⟨_, e1, e2, e3⟩ | g
  ·rw [e1, e2, e3]
   exact h
  ·exact Y.k3 a' b' r' g
 k6 := fun a' b' r' g => by
  rcases kn_cons g with ⟨e, _⟩ | g
  ·cases e
  ·exact Y.k6 a' b' r' g
 k5 := fun a' r' g => by
  rcases kn_cons g with ⟨e, _⟩ | g
  ·cases e
  ·exact Y.k5 a' r' g
theorem ask_true : AskTrue (sx Tryz.prog N H K L C Z pr) (fun X => Hy N (X ++ H) L C Z q σ) (fun d => q d = 0) := fun X Y a ha => by
 obtain ⟨k, a, b, d⟩ := a
 have t1 : Nat.beq 1 1 = true := rfl
 have t0 : Nat.beq 1 0 ≠ true := fun h => by cases h
 unfold askOk at ha
 rw [Bool.or_eq_true] at ha
 rcases ha with ha | ha
 ·simp only [Bool.and_eq_true, Nat.beq_eq] at ha
  obtain ⟨rfl, rfl, rfl⟩ := ha
  exact ⟨fun h => Hy.add0 Y ⟨fun _ => h, fun _ => t1⟩, fun h => Hy.add0 Y ⟨fun g => (t0 g).elim, fun g => (h g).elim⟩⟩
 ·rw [Bool.and_eq_true, Nat.beq_eq] at ha
  obtain ⟨rfl, hb⟩ := ha
  split at hb
  ·rename_i op ar hn
   rw [Bool.and_eq_true, Nat.beq_eq] at hb
   obtain ⟨rfl, hb⟩ := hb
   have e := beqL_eq hb
   subst e
   have hv : q d = q a - q b := Y.nat d _ hn
   have h2 : q d = 0 ↔ q a = q b := by
    rw [hv]
    constructor <;> intro h <;> grind
   exact ⟨fun h => Hy.add3 Y ⟨fun _ => h2.1 h, fun _ => t1⟩, fun h => Hy.add3 Y ⟨fun g => (t0 g).elim, fun g => (h (h2.2 g)).elim⟩⟩
  ·cases hb
theorem sq_nn (y : Rat) : 0 ≤ y * y := by
 by_cases h : y = 0
 ·rw [h, Rat.zero_mul]
  exact Rat.le_refl
 ·exact Rat.le_of_lt (sq1_pos h)
theorem sq_sum {x y : Rat} (hx : 0 ≤ x) : x + y * y = 0 ↔ x = 0 ∧ y = 0 := by
 constructor
 ·intro h
  have h2 := sq_nn y
  have h3 : x = 0 := by grind
  refine ⟨h3, ?_⟩
  have : y * y = 0 := by grind
  rcases Rat.mul_eq_zero.1 this with g | g <;> exact g
 ·rintro ⟨rfl, rfl⟩
  grind
theorem sqF_val {H' : List (Nat × Nat × Nat × Nat)} (Y : Hy N H' L C Z q σ) : ∀ {l : List Nat} {s t : Nat}, sqF (sx Tryz.prog N H K L C Z pr) s l = some t → 0 ≤ q s → 0 ≤ q t ∧ (q t = 0 ↔ q s = 0 ∧ ∀ d ∈ l, q d = 0)
 | [], s, t, h, hs => by
  cases h
  exact ⟨hs, fun e => ⟨e, fun d hd => by cases hd⟩, fun e => e.1⟩
 | a :: l, s, t, h, hs => by
  unfold sqF at h
  simp only [Option.bind_eq_some_iff] at h
  obtain ⟨b, h1, c, h2, h3⟩ := h
  have e1 : q b = q a * q a := Hy.nd (H := H') (K := K) (pr := pr) Y h1
  have e2 : q c = q s + q b := Hy.nd (H := H') (K := K) (pr := pr) Y h2
  have n := sq_nn (q a)
  obtain ⟨g1, g2⟩ := sqF_val Y h3 (by grind)
  refine ⟨g1, g2.trans ?_⟩
  have e3 := sq_sum (y := q a) hs
  rw [e2, e1, e3]
  constructor
  ·rintro ⟨⟨x, y⟩, z⟩
   refine ⟨x, fun d hd => ?_⟩
   rcases List.mem_cons.1 hd with rfl | hd
   ·exact y
   ·exact z d hd
  ·rintro ⟨x, y⟩
   exact ⟨⟨x, y a List.mem_cons_self⟩, fun d hd => y d (List.mem_cons_of_mem _ hd)⟩
theorem sqN_val {H' : List (Nat × Nat × Nat × Nat)} (Y : Hy N H' L C Z q σ) {l : List Nat} {s : Nat} (h : sqN (sx Tryz.prog N H K L C Z pr) l = some s) : q s = 0 ↔ ∀ d ∈ l, q d = 0 := by
 unfold sqN at h
 split at h
 ·cases h
 ·rename_i a l
  rw [Option.bind_eq_some_iff] at h
  obtain ⟨b, h1, h2⟩ := h
  have e1 : q b = q a * q a := Hy.nd (H := H') (K := K) (pr := pr) Y h1
  have n := sq_nn (q a)
  obtain ⟨_, g⟩ := sqF_val Y h2 (by grind)
  rw [g, e1]
  constructor
  ·rintro ⟨x, y⟩ d hd
   rcases List.mem_cons.1 hd with rfl | hd
   ·rcases Rat.mul_eq_zero.1 x with x | x <;> exact x
   ·exact y d hd
  ·intro y
   refine ⟨?_, fun d hd => y d (List.mem_cons_of_mem _ hd)⟩
   rw [y a List.mem_cons_self, Rat.zero_mul]
theorem run_cases {f : FuncId} {args : List AV} {vs : List Value} {k : Nat} {p : List HB × Nat} {b : Bool} (Y : Hy N H L C Z q σ) (hm : (Tryz.prog).follows .mixedOrders = true) {w : World} (hP : ∀ H', Hy N H' L C Z q σ → PrimOk (sx Tryz.prog N H' K L C Z pr) (evS q σ) w) (hr : callC (sx Tryz.prog N H K L C Z pr) cs k [] f args [] 0 = some (kB b, p))
  (hA : A2 (avOn (cOn (evS q σ) K (fun _ => none) w)) args vs) : Calls Tryz.prog f vs.toArray w fun e w' => Below w.heap.size w w' ∧ e = .returned (.bool b) := by
 refine (callC_ok (S := sx Tryz.prog N H K L C Z pr) (E := evS q σ) (w0 := w) (T := fun X => Hy N (X ++ H) L C Z q σ) (z := fun d => q d = 0) hm (fun X hX => knows hX) (fun X hX => hP _ hX) ask_true ?_ k [] Y f args [] 0 (kB b, p) hr (fun _ => none) w vs ⟨Below.refl _ _, (fun _ _ h => by cases h)⟩ hA (fun x hx => by cases hx) (fun x hx => by cases hx) (fun _ _ _ => rfl)).mono ?_
 ·intro X hX l s r h1 h2
  have e := hX.k0 s r h2
  have g := sqN_val hX h1
  refine ⟨fun h => g.1 (e.1 h), fun h => ?_⟩
  have hn : ¬ ∀ d ∈ l, q d = 0 := fun q' => by
   rw [e.2 (g.2 q')] at h
   cases h
  simpa using hn
 ·rintro _ w' ⟨r, γ', rfl, hef, hv, _⟩
  exact ⟨hef.wi.bel, by rw [show r = .bool b from (asC_on (v := kB b) (c := .inl (.bool b)) rfl hv).1]⟩
theorem run_toldC {f : FuncId} {args : List AV} {vs : List Value} {k : Nat} {p : List HB × Nat} {b : Bool} (Y : Hy N H L C Z q σ) (hc : ∀ f ∈ cl, Closed f) (hm : (Tryz.prog).follows .mixedOrders = true) (hr : callC (sx Tryz.prog N H K L C Z (prC cl)) cs k [] f args [] 0 = some (kB b, p)) {w : World} (hp : PreS w)
  (hA : A2 (avOn (cOn (evS q σ) K (fun _ => none) w)) args vs) : Calls Tryz.prog f vs.toArray w fun e w' => Below w.heap.size w w' ∧ e = .returned (.bool b) := run_cases Y hm (fun _ Y' => primOk Y' hp hc) hr hA
theorem run_toldC' {f : FuncId} {args : List AV} {vs : List Value} (k : Nat) (Y : Hy N H L C Z q σ) (hc : ∀ f ∈ cl, Closed f) (hm : (Tryz.prog).follows .mixedOrders = true) (hr : (callC (sx Tryz.prog N H K L C Z (prC cl)) cs k [] f args [] 0).map (·.1) = some (kB true)) {w : World} (hp : PreS w)
  (hA : A2 (avOn (cOn (evS q σ) K (fun _ => none) w)) args vs) : Calls Tryz.prog f vs.toArray w fun e w' => Below w.heap.size w w' ∧ e = .returned (.bool true) := by
 rw [Option.map_eq_some_iff] at hr
 obtain ⟨⟨v, p⟩, h1, h2⟩ := hr
 dsimp only at h2
 subst h2
 exact run_toldC Y hc hm h1 hp hA
theorem sq_first {u x : Rat} (h : u = x * x) : 0 ≤ u ∧ (u = 0 ↔ x = 0) := by
 rw [h]
 exact ⟨sq_nn x, fun e => (Rat.mul_eq_zero.1 e).elim id id, fun e => by rw [e, Rat.zero_mul]⟩
theorem sq_next {p : Prop} {s x v t : Rat} (h : 0 ≤ s ∧ (s = 0 ↔ p)) (hv : v = x * x) (ht : t = s + v) : 0 ≤ t ∧ (t = 0 ↔ (p ∧ x = 0)) := by
 have n := sq_nn x
 refine ⟨by have := h.1; grind, ?_⟩
 rw [ht, hv, sq_sum h.1, h.2]
end
end Go.Proofs.YtkcikcnimkofkaaGreatDoor
/- MVF -/
namespace Go.Proofs.YtkcikcnimkofkaaGreatDoor
open Go.RowKit Cx
def moveFixed_N : List Nd := [(1, [0]), (1, [3]), (1, [1]), (1, [4]), (1, [2]), (1, [5]), (0, [0, 1, 1]), (3, [0, 6]), (0, [0, 0, 1]), (3, [1, 8]), (3, [2, 8]), (3, [3, 6]), (4, [10, 5]), (4, [4, 11]), (3, [12, 13]), (4, [4, 9]), (4, [7, 5]), (3, [15, 16]), (4, [7, 11]), (4, [10, 9]), (3, [18, 19]), (4, [7, 7]), (4, [10, 10]), (2, [21, 22]), (4, [4, 4]), (2, [23, 24]), (4, [9, 9]), (4, [11, 11]), (2, [26, 27]), (4, [5, 5]), (2, [28, 29]), (4, [2, 1]), (3, [18, 31]), (4, [14, 14]), (4, [17, 17]), (2, [33, 34]), (4, [20, 20]), (2, [35, 36]), (8, [0, 9, 11, 5]), (8, [1, 9, 11, 5]), (8, [2, 9, 11, 5]), (4, [11, 38]), (4, [1, 39]), (3, [41, 42]), (4, [5, 38]), (4, [1, 40]), (3, [44, 45]), (4, [5, 39]), (4, [11, 40]), (3, [47, 48]), (4, [43, 43]), (4, [46, 46]), (2, [50, 51]), (4, [49, 49]), (2, [52, 53]), (8, [0, 7, 10, 4]), (8, [1, 7, 10, 4]), (8, [2, 7, 10, 4]), (4, [2, 55]), (4, [7, 56]), (3, [58, 59]), (4, [4, 55]), (4, [7, 57]), (3, [61, 62]), (4, [4, 56]), (4, [2, 57]), (3, [64, 65]), (4, [60, 60]), (4, [63, 63]), (2, [67, 68]), (4, [66, 66]), (2, [69, 70]), (3, [31, 18]), (4, [4, 1]), (3, [73, 16]), (4, [2, 5]), (3, [13, 75]), (4, [72, 72]), (4, [74, 74]), (2, [77, 78]), (4, [76, 76]), (2, [79, 80]), (6, [14, 20]), (6, [17, 20]), (4, [0, 82]), (4, [2, 83]), (2, [84, 85]), (2, [86, 4]), (4, [1, 82]), (4, [3, 83]), (2, [88, 89]), (2, [90, 5])]
def moveFixed_L : List (List Nat × Nat) := []
def moveFixed_C : List (List Nat × Nat) := []
def moveFixed_Z : List Nat := [3495259, 3495259, 3495259, 3495259, 3495259, 3495259, 2, 3495262, 2, 3495262, 3495262, 3495262, 6990521, 6990521, 13981043, 6990521, 6990521, 13981043, 6990524, 6990524, 13981049, 6990524, 6990524, 13981049, 6990518, 20971568, 6990524, 6990524, 13981049, 6990518, 20971568, 6990518, 13981043, 27962086, 27962086, 55924173, 27962098, 83886272, 13981049, 13981049, 13981049, 17476311, 17476308, 34952620, 17476308, 17476308, 34952617, 17476308, 17476311, 34952620, 69905240, 69905234, 139810475, 69905240, 209715716, 13981049, 13981049, 13981049, 17476308, 17476311, 34952620, 17476308, 17476311, 34952620, 17476308, 17476308, 34952617, 69905240, 69905240, 139810481, 69905234, 209715716, 13981043, 6990518, 13981040, 6990518, 13981040, 27962086, 27962080, 55924167, 27962080, 83886248, 27962092, 27962092, 31457351, 31457351, 62914703, 66409963, 31457351, 31457351, 62914703, 66409963]
def moveFixed_I : List Bool := [false, false, false, false, false, false, true, false, true, false, false, false, false, false, false, false, false, false, false, false, false, false, false, false, false, false, false, false, false, false, false, false, false, false, false, false, false, false, true, true, true, false, false, false, false, false, false, false, false, false, false, false, false, false, false, true, true, true, false, false, false, false, false, false, false, false, false, false, false, false, false, false, false, false, false, false, false, false, false, false, false, false, false, false, false, false, false, false, false, false, false, false]
theorem moveFixed_wf : wfB 0 moveFixed_N = true := by kernel_rfl
theorem moveFixed_sz : szC moveFixed_Z moveFixed_I moveFixed_N moveFixed_Z moveFixed_I = true := by kernel_rfl
theorem moveFixed_lt : litB moveFixed_N moveFixed_L = true := by kernel_rfl
theorem moveFixed_cn : canB moveFixed_N moveFixed_C = true := by kernel_rfl
theorem moveFixed_c6 : cst 0 1 1 = (1 : Rat) := by decide +kernel
theorem moveFixed_c8 : cst 0 0 1 = (0 : Rat) := by decide +kernel
theorem moveFixed_f0 {z0 z1 z2 z3 z4 z6 z7 z8 z9 z10 z11 z18 z19 z20 z25 : Rat} : z6 = 1 → z7 = z0 - z6 → z8 = 0 → z9 = z1 - z8 → z10 = z2 - z8 → z11 = z3 - z6 → z18 = z7 * z11 → z19 = z10 * z9 → z20 = z18 - z19 → (z25 = 0 ↔ ((z7 = 0 ∧ z10 = 0) ∧ z4 = 0)) → (z25 = 0) → z20 = 0 := by
 intro e6 e7 e8 e9 e10 e11 e18 e19 e20 e25 u0
 obtain ⟨⟨ua0_7, ua0_10⟩, ua0_4⟩ := e25.1 u0
 clear u0 e25
 subst_vars; grind
theorem moveFixed_f1 {z0 z1 z2 z3 z4 z5 z6 z7 z8 z9 z10 z11 z18 z25 z30 z31 z32 : Rat} : z6 = 1 → z7 = z0 - z6 → z8 = 0 → z9 = z1 - z8 → z10 = z2 - z8 → z11 = z3 - z6 → z18 = z7 * z11 → (z25 = 0 ↔ ((z7 = 0 ∧ z10 = 0) ∧ z4 = 0)) → (z30 = 0 ↔ ((z9 = 0 ∧ z11 = 0) ∧ z5 = 0)) → z31 = z2 * z1 → z32 = z18 - z31 → (z25 = 0) → (z30 = 0) → z32 = 0 := by
 intro e6 e7 e8 e9 e10 e11 e18 e25 e30 e31 e32 u0 u1
 obtain ⟨⟨ua0_7, ua0_10⟩, ua0_4⟩ := e25.1 u0
 obtain ⟨⟨ua1_9, ua1_11⟩, ua1_5⟩ := e30.1 u1
 clear u0 u1 e25 e30
 subst_vars; grind
theorem moveFixed_f2 {z0 z1 z2 z3 z4 z5 z6 z7 z8 z9 z10 z11 z25 z30 : Rat} : z6 = 1 → z7 = z0 - z6 → z8 = 0 → z9 = z1 - z8 → z10 = z2 - z8 → z11 = z3 - z6 → (z25 = 0 ↔ ((z7 = 0 ∧ z10 = 0) ∧ z4 = 0)) → (z30 = 0 ↔ ((z9 = 0 ∧ z11 = 0) ∧ z5 = 0)) → (z25 = 0) → (z30 = 0) → z7 = 0 := by
 intro e6 e7 e8 e9 e10 e11 e25 e30 u0 u1
 obtain ⟨⟨ua0_7, ua0_10⟩, ua0_4⟩ := e25.1 u0
 obtain ⟨⟨ua1_9, ua1_11⟩, ua1_5⟩ := e30.1 u1
 clear u0 u1 e25 e30
 subst_vars; grind
theorem moveFixed_f3 {z0 z1 z2 z3 z4 z5 z6 z7 z8 z9 z10 z11 z25 z30 : Rat} : z6 = 1 → z7 = z0 - z6 → z8 = 0 → z9 = z1 - z8 → z10 = z2 - z8 → z11 = z3 - z6 → (z25 = 0 ↔ ((z7 = 0 ∧ z10 = 0) ∧ z4 = 0)) → (z30 = 0 ↔ ((z9 = 0 ∧ z11 = 0) ∧ z5 = 0)) → (z25 = 0) → (z30 = 0) → z2 = 0 := by
 intro e6 e7 e8 e9 e10 e11 e25 e30 u0 u1
 obtain ⟨⟨ua0_7, ua0_10⟩, ua0_4⟩ := e25.1 u0
 obtain ⟨⟨ua1_9, ua1_11⟩, ua1_5⟩ := e30.1 u1
 clear u0 u1 e25 e30
 subst_vars; grind
theorem moveFixed_f4 {z0 z1 z2 z3 z4 z5 z6 z7 z8 z9 z10 z11 z25 z30 : Rat} : z6 = 1 → z7 = z0 - z6 → z8 = 0 → z9 = z1 - z8 → z10 = z2 - z8 → z11 = z3 - z6 → (z25 = 0 ↔ ((z7 = 0 ∧ z10 = 0) ∧ z4 = 0)) → (z30 = 0 ↔ ((z9 = 0 ∧ z11 = 0) ∧ z5 = 0)) → (z25 = 0) → (z30 = 0) → z1 = 0 := by
 intro e6 e7 e8 e9 e10 e11 e25 e30 u0 u1
 obtain ⟨⟨ua0_7, ua0_10⟩, ua0_4⟩ := e25.1 u0
 obtain ⟨⟨ua1_9, ua1_11⟩, ua1_5⟩ := e30.1 u1
 clear u0 u1 e25 e30
 subst_vars; grind
theorem moveFixed_f5 {z0 z1 z2 z3 z4 z5 z6 z7 z8 z9 z10 z11 z25 z30 : Rat} : z6 = 1 → z7 = z0 - z6 → z8 = 0 → z9 = z1 - z8 → z10 = z2 - z8 → z11 = z3 - z6 → (z25 = 0 ↔ ((z7 = 0 ∧ z10 = 0) ∧ z4 = 0)) → (z30 = 0 ↔ ((z9 = 0 ∧ z11 = 0) ∧ z5 = 0)) → (z25 = 0) → (z30 = 0) → z11 = 0 := by
 intro e6 e7 e8 e9 e10 e11 e25 e30 u0 u1
 obtain ⟨⟨ua0_7, ua0_10⟩, ua0_4⟩ := e25.1 u0
 obtain ⟨⟨ua1_9, ua1_11⟩, ua1_5⟩ := e30.1 u1
 clear u0 u1 e25 e30
 subst_vars; grind
theorem moveFixed_f6 {z0 z1 z2 z3 z4 z5 z6 z7 z8 z9 z10 z11 z25 z30 : Rat} : z6 = 1 → z7 = z0 - z6 → z8 = 0 → z9 = z1 - z8 → z10 = z2 - z8 → z11 = z3 - z6 → (z25 = 0 ↔ ((z7 = 0 ∧ z10 = 0) ∧ z4 = 0)) → (z30 = 0 ↔ ((z9 = 0 ∧ z11 = 0) ∧ z5 = 0)) → (z25 = 0) → (z30 = 0) → z4 = 0 := by
 intro e6 e7 e8 e9 e10 e11 e25 e30 u0 u1
 obtain ⟨⟨ua0_7, ua0_10⟩, ua0_4⟩ := e25.1 u0
 obtain ⟨⟨ua1_9, ua1_11⟩, ua1_5⟩ := e30.1 u1
 clear u0 u1 e25 e30
 subst_vars; grind
theorem moveFixed_f7 {z0 z1 z2 z3 z4 z5 z6 z7 z8 z9 z10 z11 z25 z30 : Rat} : z6 = 1 → z7 = z0 - z6 → z8 = 0 → z9 = z1 - z8 → z10 = z2 - z8 → z11 = z3 - z6 → (z25 = 0 ↔ ((z7 = 0 ∧ z10 = 0) ∧ z4 = 0)) → (z30 = 0 ↔ ((z9 = 0 ∧ z11 = 0) ∧ z5 = 0)) → (z25 = 0) → (z30 = 0) → z5 = 0 := by
 intro e6 e7 e8 e9 e10 e11 e25 e30 u0 u1
 obtain ⟨⟨ua0_7, ua0_10⟩, ua0_4⟩ := e25.1 u0
 obtain ⟨⟨ua1_9, ua1_11⟩, ua1_5⟩ := e30.1 u1
 clear u0 u1 e25 e30
 subst_vars; grind
theorem moveFixed_f8 {z0 z1 z2 z3 z4 z5 z6 z7 z8 z9 z10 z11 z12 z13 z14 z25 z30 : Rat} : z6 = 1 → z7 = z0 - z6 → z8 = 0 → z9 = z1 - z8 → z10 = z2 - z8 → z11 = z3 - z6 → z12 = z10 * z5 → z13 = z4 * z11 → z14 = z12 - z13 → (z25 = 0 ↔ ((z7 = 0 ∧ z10 = 0) ∧ z4 = 0)) → (z30 = 0 ↔ ((z9 = 0 ∧ z11 = 0) ∧ z5 = 0)) → (z25 = 0) → (¬ (z30 = 0)) → z14 = 0 := by
 intro e6 e7 e8 e9 e10 e11 e12 e13 e14 e25 e30 u0 u1
 obtain ⟨⟨ua0_7, ua0_10⟩, ua0_4⟩ := e25.1 u0
 rw [e30] at u1
 clear u0 e25 e30
 subst_vars; grind
theorem moveFixed_f9 {z0 z1 z2 z3 z4 z5 z6 z7 z8 z9 z10 z11 z15 z16 z17 z25 z30 : Rat} : z6 = 1 → z7 = z0 - z6 → z8 = 0 → z9 = z1 - z8 → z10 = z2 - z8 → z11 = z3 - z6 → z15 = z4 * z9 → z16 = z7 * z5 → z17 = z15 - z16 → (z25 = 0 ↔ ((z7 = 0 ∧ z10 = 0) ∧ z4 = 0)) → (z30 = 0 ↔ ((z9 = 0 ∧ z11 = 0) ∧ z5 = 0)) → (z25 = 0) → (¬ (z30 = 0)) → z17 = 0 := by
 intro e6 e7 e8 e9 e10 e11 e15 e16 e17 e25 e30 u0 u1
 obtain ⟨⟨ua0_7, ua0_10⟩, ua0_4⟩ := e25.1 u0
 rw [e30] at u1
 clear u0 e25 e30
 subst_vars; grind
theorem moveFixed_f10 {z0 z1 z2 z3 z4 z5 z6 z7 z8 z9 z10 z11 z18 z19 z20 z25 z30 : Rat} : z6 = 1 → z7 = z0 - z6 → z8 = 0 → z9 = z1 - z8 → z10 = z2 - z8 → z11 = z3 - z6 → z18 = z7 * z11 → z19 = z10 * z9 → z20 = z18 - z19 → (z25 = 0 ↔ ((z7 = 0 ∧ z10 = 0) ∧ z4 = 0)) → (z30 = 0 ↔ ((z9 = 0 ∧ z11 = 0) ∧ z5 = 0)) → (z25 = 0) → (¬ (z30 = 0)) → z20 = 0 := by
 intro e6 e7 e8 e9 e10 e11 e18 e19 e20 e25 e30 u0 u1
 obtain ⟨⟨ua0_7, ua0_10⟩, ua0_4⟩ := e25.1 u0
 rw [e30] at u1
 clear u0 e25 e30
 subst_vars; grind
theorem moveFixed_f11 {z0 z1 z2 z3 z4 z5 z6 z7 z8 z9 z10 z11 z18 z25 z30 z31 z32 : Rat} : z6 = 1 → z7 = z0 - z6 → z8 = 0 → z9 = z1 - z8 → z10 = z2 - z8 → z11 = z3 - z6 → z18 = z7 * z11 → (z25 = 0 ↔ ((z7 = 0 ∧ z10 = 0) ∧ z4 = 0)) → (z30 = 0 ↔ ((z9 = 0 ∧ z11 = 0) ∧ z5 = 0)) → z31 = z2 * z1 → z32 = z18 - z31 → (z25 = 0) → (¬ (z30 = 0)) → (z9 = 0) → (z11 = 0) → z32 = 0 := by
 intro e6 e7 e8 e9 e10 e11 e18 e25 e30 e31 e32 u0 u1 u2 u3
 obtain ⟨⟨ua0_7, ua0_10⟩, ua0_4⟩ := e25.1 u0
 rw [e30] at u1
 clear u0 e25 e30
 rw [u2] at e9
 rw [u3] at e11
 subst_vars; grind
theorem moveFixed_f12 {z0 z1 z2 z3 z4 z5 z6 z7 z8 z9 z10 z11 z25 z30 : Rat} : z6 = 1 → z7 = z0 - z6 → z8 = 0 → z9 = z1 - z8 → z10 = z2 - z8 → z11 = z3 - z6 → (z25 = 0 ↔ ((z7 = 0 ∧ z10 = 0) ∧ z4 = 0)) → (z30 = 0 ↔ ((z9 = 0 ∧ z11 = 0) ∧ z5 = 0)) → (z25 = 0) → (¬ (z30 = 0)) → (z9 = 0) → (z11 = 0) → z7 = 0 := by
 intro e6 e7 e8 e9 e10 e11 e25 e30 u0 u1 u2 u3
 obtain ⟨⟨ua0_7, ua0_10⟩, ua0_4⟩ := e25.1 u0
 rw [e30] at u1
 clear u0 e25 e30
 rw [u2] at e9
 rw [u3] at e11
 subst_vars; grind
theorem moveFixed_f13 {z0 z1 z2 z3 z4 z5 z6 z7 z8 z9 z10 z11 z25 z30 : Rat} : z6 = 1 → z7 = z0 - z6 → z8 = 0 → z9 = z1 - z8 → z10 = z2 - z8 → z11 = z3 - z6 → (z25 = 0 ↔ ((z7 = 0 ∧ z10 = 0) ∧ z4 = 0)) → (z30 = 0 ↔ ((z9 = 0 ∧ z11 = 0) ∧ z5 = 0)) → (z25 = 0) → (¬ (z30 = 0)) → (z9 = 0) → (z11 = 0) → z2 = 0 := by
 intro e6 e7 e8 e9 e10 e11 e25 e30 u0 u1 u2 u3
 obtain ⟨⟨ua0_7, ua0_10⟩, ua0_4⟩ := e25.1 u0
 rw [e30] at u1
 clear u0 e25 e30
 rw [u2] at e9
 rw [u3] at e11
 subst_vars; grind
theorem moveFixed_f14 {z0 z1 z2 z3 z4 z5 z6 z7 z8 z9 z10 z11 z25 z30 : Rat} : z6 = 1 → z7 = z0 - z6 → z8 = 0 → z9 = z1 - z8 → z10 = z2 - z8 → z11 = z3 - z6 → (z25 = 0 ↔ ((z7 = 0 ∧ z10 = 0) ∧ z4 = 0)) → (z30 = 0 ↔ ((z9 = 0 ∧ z11 = 0) ∧ z5 = 0)) → (z25 = 0) → (¬ (z30 = 0)) → (z9 = 0) → (z11 = 0) → z1 = 0 := by
 intro e6 e7 e8 e9 e10 e11 e25 e30 u0 u1 u2 u3
 obtain ⟨⟨ua0_7, ua0_10⟩, ua0_4⟩ := e25.1 u0
 rw [e30] at u1
 clear u0 e25 e30
 rw [u2] at e9
 rw [u3] at e11
 subst_vars; grind
theorem moveFixed_f15 {z0 z1 z2 z3 z4 z5 z6 z7 z8 z9 z10 z11 z25 z30 : Rat} : z6 = 1 → z7 = z0 - z6 → z8 = 0 → z9 = z1 - z8 → z10 = z2 - z8 → z11 = z3 - z6 → (z25 = 0 ↔ ((z7 = 0 ∧ z10 = 0) ∧ z4 = 0)) → (z30 = 0 ↔ ((z9 = 0 ∧ z11 = 0) ∧ z5 = 0)) → (z25 = 0) → (¬ (z30 = 0)) → (z9 = 0) → (z11 = 0) → z4 = 0 := by
 intro e6 e7 e8 e9 e10 e11 e25 e30 u0 u1 u2 u3
 obtain ⟨⟨ua0_7, ua0_10⟩, ua0_4⟩ := e25.1 u0
 rw [e30] at u1
 clear u0 e25 e30
 rw [u2] at e9
 rw [u3] at e11
 subst_vars; grind
theorem moveFixed_f16 {z0 z1 z2 z3 z4 z5 z6 z7 z8 z9 z10 z11 z25 z30 : Rat} : z6 = 1 → z7 = z0 - z6 → z8 = 0 → z9 = z1 - z8 → z10 = z2 - z8 → z11 = z3 - z6 → (z25 = 0 ↔ ((z7 = 0 ∧ z10 = 0) ∧ z4 = 0)) → (z30 = 0 ↔ ((z9 = 0 ∧ z11 = 0) ∧ z5 = 0)) → (z25 = 0) → (¬ (z30 = 0)) → (z9 = 0) → (z11 = 0) → ¬ (z5 = 0) := by
 intro e6 e7 e8 e9 e10 e11 e25 e30 u0 u1 u2 u3
 obtain ⟨⟨ua0_7, ua0_10⟩, ua0_4⟩ := e25.1 u0
 rw [e30] at u1
 clear u0 e25 e30
 rw [u2] at e9
 rw [u3] at e11
 subst_vars; grind
theorem moveFixed_f17 {z0 z1 z2 z3 z4 z5 z6 z7 z8 z9 z10 z11 z18 z25 z30 z31 z32 : Rat} : z6 = 1 → z7 = z0 - z6 → z8 = 0 → z9 = z1 - z8 → z10 = z2 - z8 → z11 = z3 - z6 → z18 = z7 * z11 → (z25 = 0 ↔ ((z7 = 0 ∧ z10 = 0) ∧ z4 = 0)) → (z30 = 0 ↔ ((z9 = 0 ∧ z11 = 0) ∧ z5 = 0)) → z31 = z2 * z1 → z32 = z18 - z31 → (z25 = 0) → (¬ (z30 = 0)) → (z9 = 0) → (¬ (z11 = 0)) → z32 = 0 := by
 intro e6 e7 e8 e9 e10 e11 e18 e25 e30 e31 e32 u0 u1 u2 u3
 obtain ⟨⟨ua0_7, ua0_10⟩, ua0_4⟩ := e25.1 u0
 rw [e30] at u1
 clear u0 e25 e30
 rw [u2] at e9
 subst_vars; grind
theorem moveFixed_f18 {z0 z1 z2 z3 z4 z5 z6 z7 z8 z9 z10 z11 z25 z30 : Rat} : z6 = 1 → z7 = z0 - z6 → z8 = 0 → z9 = z1 - z8 → z10 = z2 - z8 → z11 = z3 - z6 → (z25 = 0 ↔ ((z7 = 0 ∧ z10 = 0) ∧ z4 = 0)) → (z30 = 0 ↔ ((z9 = 0 ∧ z11 = 0) ∧ z5 = 0)) → (z25 = 0) → (¬ (z30 = 0)) → (z9 = 0) → (¬ (z11 = 0)) → z7 = 0 := by
 intro e6 e7 e8 e9 e10 e11 e25 e30 u0 u1 u2 u3
 obtain ⟨⟨ua0_7, ua0_10⟩, ua0_4⟩ := e25.1 u0
 rw [e30] at u1
 clear u0 e25 e30
 rw [u2] at e9
 subst_vars; grind
theorem moveFixed_f19 {z0 z1 z2 z3 z4 z5 z6 z7 z8 z9 z10 z11 z25 z30 : Rat} : z6 = 1 → z7 = z0 - z6 → z8 = 0 → z9 = z1 - z8 → z10 = z2 - z8 → z11 = z3 - z6 → (z25 = 0 ↔ ((z7 = 0 ∧ z10 = 0) ∧ z4 = 0)) → (z30 = 0 ↔ ((z9 = 0 ∧ z11 = 0) ∧ z5 = 0)) → (z25 = 0) → (¬ (z30 = 0)) → (z9 = 0) → (¬ (z11 = 0)) → z2 = 0 := by
 intro e6 e7 e8 e9 e10 e11 e25 e30 u0 u1 u2 u3
 obtain ⟨⟨ua0_7, ua0_10⟩, ua0_4⟩ := e25.1 u0
 rw [e30] at u1
 clear u0 e25 e30
 rw [u2] at e9
 subst_vars; grind
theorem moveFixed_f20 {z0 z1 z2 z3 z4 z5 z6 z7 z8 z9 z10 z11 z25 z30 : Rat} : z6 = 1 → z7 = z0 - z6 → z8 = 0 → z9 = z1 - z8 → z10 = z2 - z8 → z11 = z3 - z6 → (z25 = 0 ↔ ((z7 = 0 ∧ z10 = 0) ∧ z4 = 0)) → (z30 = 0 ↔ ((z9 = 0 ∧ z11 = 0) ∧ z5 = 0)) → (z25 = 0) → (¬ (z30 = 0)) → (z9 = 0) → (¬ (z11 = 0)) → z1 = 0 := by
 intro e6 e7 e8 e9 e10 e11 e25 e30 u0 u1 u2 u3
 obtain ⟨⟨ua0_7, ua0_10⟩, ua0_4⟩ := e25.1 u0
 rw [e30] at u1
 clear u0 e25 e30
 rw [u2] at e9
 subst_vars; grind
theorem moveFixed_f21 {z0 z1 z2 z3 z4 z5 z6 z7 z8 z9 z10 z11 z25 z30 : Rat} : z6 = 1 → z7 = z0 - z6 → z8 = 0 → z9 = z1 - z8 → z10 = z2 - z8 → z11 = z3 - z6 → (z25 = 0 ↔ ((z7 = 0 ∧ z10 = 0) ∧ z4 = 0)) → (z30 = 0 ↔ ((z9 = 0 ∧ z11 = 0) ∧ z5 = 0)) → (z25 = 0) → (¬ (z30 = 0)) → (z9 = 0) → (¬ (z11 = 0)) → z4 = 0 := by
 intro e6 e7 e8 e9 e10 e11 e25 e30 u0 u1 u2 u3
 obtain ⟨⟨ua0_7, ua0_10⟩, ua0_4⟩ := e25.1 u0
 rw [e30] at u1
 clear u0 e25 e30
 rw [u2] at e9
 subst_vars; grind
theorem moveFixed_f22 {z0 z1 z2 z3 z4 z5 z6 z7 z8 z9 z10 z11 z25 z30 z38 : Rat} : z6 = 1 → z7 = z0 - z6 → z8 = 0 → z9 = z1 - z8 → z10 = z2 - z8 → z11 = z3 - z6 → (z25 = 0 ↔ ((z7 = 0 ∧ z10 = 0) ∧ z4 = 0)) → (z30 = 0 ↔ ((z9 = 0 ∧ z11 = 0) ∧ z5 = 0)) → z38 = z9 * fac [z9, z11, z5] → (z25 = 0) → (¬ (z30 = 0)) → (z9 = 0) → (¬ (z11 = 0)) → z38 = 0 := by
 intro e6 e7 e8 e9 e10 e11 e25 e30 e38 u0 u1 u2 u3
 obtain ⟨⟨ua0_7, ua0_10⟩, ua0_4⟩ := e25.1 u0
 rw [e30] at u1
 clear u0 e25 e30
 rw [u2] at e9
 have k0_5 : fac [z9, z11, z5] = 0 → z5 = 0 := fac_zero (by simp)
 have k0_9 : fac [z9, z11, z5] = 0 → z9 = 0 := fac_zero (by simp)
 have k0_11 : fac [z9, z11, z5] = 0 → z11 = 0 := fac_zero (by simp)
 generalize fac [z9, z11, z5] = g0 at *
 have nx0 := u1
 have iw0 : g0 ≠ 0 := fun hg => nx0 ⟨⟨(k0_9 hg), (k0_11 hg)⟩, (k0_5 hg)⟩
 obtain ⟨iv0, ih0⟩ : ∃ i, g0 * i = 1 := ⟨g0⁻¹, Rat.mul_inv_cancel _ iw0⟩
 clear k0_5 k0_9 k0_11
 subst_vars; grind
theorem moveFixed_f23 {z0 z1 z2 z3 z4 z5 z6 z7 z8 z9 z10 z11 z25 z30 z39 : Rat} : z6 = 1 → z7 = z0 - z6 → z8 = 0 → z9 = z1 - z8 → z10 = z2 - z8 → z11 = z3 - z6 → (z25 = 0 ↔ ((z7 = 0 ∧ z10 = 0) ∧ z4 = 0)) → (z30 = 0 ↔ ((z9 = 0 ∧ z11 = 0) ∧ z5 = 0)) → z39 = z11 * fac [z9, z11, z5] → (z25 = 0) → (¬ (z30 = 0)) → (z9 = 0) → (¬ (z11 = 0)) → ¬ (z39 = 0) := by
 intro e6 e7 e8 e9 e10 e11 e25 e30 e39 u0 u1 u2 u3
 obtain ⟨⟨ua0_7, ua0_10⟩, ua0_4⟩ := e25.1 u0
 rw [e30] at u1
 clear u0 e25 e30
 rw [u2] at e9
 have k0_5 : fac [z9, z11, z5] = 0 → z5 = 0 := fac_zero (by simp)
 have k0_9 : fac [z9, z11, z5] = 0 → z9 = 0 := fac_zero (by simp)
 have k0_11 : fac [z9, z11, z5] = 0 → z11 = 0 := fac_zero (by simp)
 generalize fac [z9, z11, z5] = g0 at *
 have nx0 := u1
 have iw0 : g0 ≠ 0 := fun hg => nx0 ⟨⟨(k0_9 hg), (k0_11 hg)⟩, (k0_5 hg)⟩
 obtain ⟨iv0, ih0⟩ : ∃ i, g0 * i = 1 := ⟨g0⁻¹, Rat.mul_inv_cancel _ iw0⟩
 clear k0_5 k0_9 k0_11
 subst_vars; grind
theorem moveFixed_f24 {z0 z1 z2 z3 z4 z5 z6 z7 z8 z9 z10 z11 z25 z30 z38 z39 z41 z42 z43 : Rat} : z6 = 1 → z7 = z0 - z6 → z8 = 0 → z9 = z1 - z8 → z10 = z2 - z8 → z11 = z3 - z6 → (z25 = 0 ↔ ((z7 = 0 ∧ z10 = 0) ∧ z4 = 0)) → (z30 = 0 ↔ ((z9 = 0 ∧ z11 = 0) ∧ z5 = 0)) → z38 = z9 * fac [z9, z11, z5] → z39 = z11 * fac [z9, z11, z5] → z41 = z11 * z38 → z42 = z1 * z39 → z43 = z41 - z42 → (z25 = 0) → (¬ (z30 = 0)) → (z9 = 0) → (¬ (z11 = 0)) → z43 = 0 := by
 intro e6 e7 e8 e9 e10 e11 e25 e30 e38 e39 e41 e42 e43 u0 u1 u2 u3
 obtain ⟨⟨ua0_7, ua0_10⟩, ua0_4⟩ := e25.1 u0
 rw [e30] at u1
 clear u0 e25 e30
 rw [u2] at e9
 have k0_5 : fac [z9, z11, z5] = 0 → z5 = 0 := fac_zero (by simp)
 have k0_9 : fac [z9, z11, z5] = 0 → z9 = 0 := fac_zero (by simp)
 have k0_11 : fac [z9, z11, z5] = 0 → z11 = 0 := fac_zero (by simp)
 generalize fac [z9, z11, z5] = g0 at *
 have nx0 := u1
 have iw0 : g0 ≠ 0 := fun hg => nx0 ⟨⟨(k0_9 hg), (k0_11 hg)⟩, (k0_5 hg)⟩
 obtain ⟨iv0, ih0⟩ : ∃ i, g0 * i = 1 := ⟨g0⁻¹, Rat.mul_inv_cancel _ iw0⟩
 clear k0_5 k0_9 k0_11
 subst_vars; grind
theorem moveFixed_f25 {z0 z1 z2 z3 z4 z5 z6 z7 z8 z9 z10 z11 z25 z30 z38 z40 z44 z45 z46 : Rat} : z6 = 1 → z7 = z0 - z6 → z8 = 0 → z9 = z1 - z8 → z10 = z2 - z8 → z11 = z3 - z6 → (z25 = 0 ↔ ((z7 = 0 ∧ z10 = 0) ∧ z4 = 0)) → (z30 = 0 ↔ ((z9 = 0 ∧ z11 = 0) ∧ z5 = 0)) → z38 = z9 * fac [z9, z11, z5] → z40 = z5 * fac [z9, z11, z5] → z44 = z5 * z38 → z45 = z1 * z40 → z46 = z44 - z45 → (z25 = 0) → (¬ (z30 = 0)) → (z9 = 0) → (¬ (z11 = 0)) → z46 = 0 := by
 intro e6 e7 e8 e9 e10 e11 e25 e30 e38 e40 e44 e45 e46 u0 u1 u2 u3
 obtain ⟨⟨ua0_7, ua0_10⟩, ua0_4⟩ := e25.1 u0
 rw [e30] at u1
 clear u0 e25 e30
 rw [u2] at e9
 have k0_5 : fac [z9, z11, z5] = 0 → z5 = 0 := fac_zero (by simp)
 have k0_9 : fac [z9, z11, z5] = 0 → z9 = 0 := fac_zero (by simp)
 have k0_11 : fac [z9, z11, z5] = 0 → z11 = 0 := fac_zero (by simp)
 generalize fac [z9, z11, z5] = g0 at *
 have nx0 := u1
 have iw0 : g0 ≠ 0 := fun hg => nx0 ⟨⟨(k0_9 hg), (k0_11 hg)⟩, (k0_5 hg)⟩
 obtain ⟨iv0, ih0⟩ : ∃ i, g0 * i = 1 := ⟨g0⁻¹, Rat.mul_inv_cancel _ iw0⟩
 clear k0_5 k0_9 k0_11
 subst_vars; grind
theorem moveFixed_f26 {z0 z1 z2 z3 z4 z5 z6 z7 z8 z9 z10 z11 z25 z30 z39 z40 z47 z48 z49 : Rat} : z6 = 1 → z7 = z0 - z6 → z8 = 0 → z9 = z1 - z8 → z10 = z2 - z8 → z11 = z3 - z6 → (z25 = 0 ↔ ((z7 = 0 ∧ z10 = 0) ∧ z4 = 0)) → (z30 = 0 ↔ ((z9 = 0 ∧ z11 = 0) ∧ z5 = 0)) → z39 = z11 * fac [z9, z11, z5] → z40 = z5 * fac [z9, z11, z5] → z47 = z5 * z39 → z48 = z11 * z40 → z49 = z47 - z48 → (z25 = 0) → (¬ (z30 = 0)) → (z9 = 0) → (¬ (z11 = 0)) → z49 = 0 := by
 intro e6 e7 e8 e9 e10 e11 e25 e30 e39 e40 e47 e48 e49 u0 u1 u2 u3
 obtain ⟨⟨ua0_7, ua0_10⟩, ua0_4⟩ := e25.1 u0
 rw [e30] at u1
 clear u0 e25 e30
 rw [u2] at e9
 have k0_5 : fac [z9, z11, z5] = 0 → z5 = 0 := fac_zero (by simp)
 have k0_9 : fac [z9, z11, z5] = 0 → z9 = 0 := fac_zero (by simp)
 have k0_11 : fac [z9, z11, z5] = 0 → z11 = 0 := fac_zero (by simp)
 generalize fac [z9, z11, z5] = g0 at *
 have nx0 := u1
 have iw0 : g0 ≠ 0 := fun hg => nx0 ⟨⟨(k0_9 hg), (k0_11 hg)⟩, (k0_5 hg)⟩
 obtain ⟨iv0, ih0⟩ : ∃ i, g0 * i = 1 := ⟨g0⁻¹, Rat.mul_inv_cancel _ iw0⟩
 clear k0_5 k0_9 k0_11
 subst_vars; grind
theorem moveFixed_f27 {z0 z1 z2 z3 z4 z5 z6 z7 z8 z9 z10 z11 z18 z25 z30 z31 z32 : Rat} : z6 = 1 → z7 = z0 - z6 → z8 = 0 → z9 = z1 - z8 → z10 = z2 - z8 → z11 = z3 - z6 → z18 = z7 * z11 → (z25 = 0 ↔ ((z7 = 0 ∧ z10 = 0) ∧ z4 = 0)) → (z30 = 0 ↔ ((z9 = 0 ∧ z11 = 0) ∧ z5 = 0)) → z31 = z2 * z1 → z32 = z18 - z31 → (z25 = 0) → (¬ (z30 = 0)) → (¬ (z9 = 0)) → z32 = 0 := by
 intro e6 e7 e8 e9 e10 e11 e18 e25 e30 e31 e32 u0 u1 u2
 obtain ⟨⟨ua0_7, ua0_10⟩, ua0_4⟩ := e25.1 u0
 rw [e30] at u1
 clear u0 e25 e30
 subst_vars; grind
theorem moveFixed_f28 {z0 z1 z2 z3 z4 z5 z6 z7 z8 z9 z10 z11 z25 z30 : Rat} : z6 = 1 → z7 = z0 - z6 → z8 = 0 → z9 = z1 - z8 → z10 = z2 - z8 → z11 = z3 - z6 → (z25 = 0 ↔ ((z7 = 0 ∧ z10 = 0) ∧ z4 = 0)) → (z30 = 0 ↔ ((z9 = 0 ∧ z11 = 0) ∧ z5 = 0)) → (z25 = 0) → (¬ (z30 = 0)) → (¬ (z9 = 0)) → z7 = 0 := by
 intro e6 e7 e8 e9 e10 e11 e25 e30 u0 u1 u2
 obtain ⟨⟨ua0_7, ua0_10⟩, ua0_4⟩ := e25.1 u0
 rw [e30] at u1
 clear u0 e25 e30
 subst_vars; grind
theorem moveFixed_f29 {z0 z1 z2 z3 z4 z5 z6 z7 z8 z9 z10 z11 z25 z30 : Rat} : z6 = 1 → z7 = z0 - z6 → z8 = 0 → z9 = z1 - z8 → z10 = z2 - z8 → z11 = z3 - z6 → (z25 = 0 ↔ ((z7 = 0 ∧ z10 = 0) ∧ z4 = 0)) → (z30 = 0 ↔ ((z9 = 0 ∧ z11 = 0) ∧ z5 = 0)) → (z25 = 0) → (¬ (z30 = 0)) → (¬ (z9 = 0)) → z2 = 0 := by
 intro e6 e7 e8 e9 e10 e11 e25 e30 u0 u1 u2
 obtain ⟨⟨ua0_7, ua0_10⟩, ua0_4⟩ := e25.1 u0
 rw [e30] at u1
 clear u0 e25 e30
 subst_vars; grind
theorem moveFixed_f30 {z0 z1 z2 z3 z4 z5 z6 z7 z8 z9 z10 z11 z25 z30 : Rat} : z6 = 1 → z7 = z0 - z6 → z8 = 0 → z9 = z1 - z8 → z10 = z2 - z8 → z11 = z3 - z6 → (z25 = 0 ↔ ((z7 = 0 ∧ z10 = 0) ∧ z4 = 0)) → (z30 = 0 ↔ ((z9 = 0 ∧ z11 = 0) ∧ z5 = 0)) → (z25 = 0) → (¬ (z30 = 0)) → (¬ (z9 = 0)) → ¬ (z1 = 0) := by
 intro e6 e7 e8 e9 e10 e11 e25 e30 u0 u1 u2
 obtain ⟨⟨ua0_7, ua0_10⟩, ua0_4⟩ := e25.1 u0
 rw [e30] at u1
 clear u0 e25 e30
 subst_vars; grind
theorem moveFixed_f31 {z0 z1 z2 z3 z4 z5 z6 z7 z8 z9 z10 z11 z25 z30 : Rat} : z6 = 1 → z7 = z0 - z6 → z8 = 0 → z9 = z1 - z8 → z10 = z2 - z8 → z11 = z3 - z6 → (z25 = 0 ↔ ((z7 = 0 ∧ z10 = 0) ∧ z4 = 0)) → (z30 = 0 ↔ ((z9 = 0 ∧ z11 = 0) ∧ z5 = 0)) → (z25 = 0) → (¬ (z30 = 0)) → (¬ (z9 = 0)) → z4 = 0 := by
 intro e6 e7 e8 e9 e10 e11 e25 e30 u0 u1 u2
 obtain ⟨⟨ua0_7, ua0_10⟩, ua0_4⟩ := e25.1 u0
 rw [e30] at u1
 clear u0 e25 e30
 subst_vars; grind
theorem moveFixed_f32 {z0 z1 z2 z3 z4 z5 z6 z7 z8 z9 z10 z11 z25 z30 z38 : Rat} : z6 = 1 → z7 = z0 - z6 → z8 = 0 → z9 = z1 - z8 → z10 = z2 - z8 → z11 = z3 - z6 → (z25 = 0 ↔ ((z7 = 0 ∧ z10 = 0) ∧ z4 = 0)) → (z30 = 0 ↔ ((z9 = 0 ∧ z11 = 0) ∧ z5 = 0)) → z38 = z9 * fac [z9, z11, z5] → (z25 = 0) → (¬ (z30 = 0)) → (¬ (z9 = 0)) → ¬ (z38 = 0) := by
 intro e6 e7 e8 e9 e10 e11 e25 e30 e38 u0 u1 u2
 obtain ⟨⟨ua0_7, ua0_10⟩, ua0_4⟩ := e25.1 u0
 rw [e30] at u1
 clear u0 e25 e30
 have k0_5 : fac [z9, z11, z5] = 0 → z5 = 0 := fac_zero (by simp)
 have k0_9 : fac [z9, z11, z5] = 0 → z9 = 0 := fac_zero (by simp)
 have k0_11 : fac [z9, z11, z5] = 0 → z11 = 0 := fac_zero (by simp)
 generalize fac [z9, z11, z5] = g0 at *
 have nx0 := u1
 have iw0 : g0 ≠ 0 := fun hg => nx0 ⟨⟨(k0_9 hg), (k0_11 hg)⟩, (k0_5 hg)⟩
 obtain ⟨iv0, ih0⟩ : ∃ i, g0 * i = 1 := ⟨g0⁻¹, Rat.mul_inv_cancel _ iw0⟩
 clear k0_5 k0_9 k0_11
 subst_vars; grind
theorem moveFixed_f33 {z0 z1 z2 z3 z4 z5 z6 z7 z8 z9 z10 z11 z25 z30 z38 z39 z41 z42 z43 : Rat} : z6 = 1 → z7 = z0 - z6 → z8 = 0 → z9 = z1 - z8 → z10 = z2 - z8 → z11 = z3 - z6 → (z25 = 0 ↔ ((z7 = 0 ∧ z10 = 0) ∧ z4 = 0)) → (z30 = 0 ↔ ((z9 = 0 ∧ z11 = 0) ∧ z5 = 0)) → z38 = z9 * fac [z9, z11, z5] → z39 = z11 * fac [z9, z11, z5] → z41 = z11 * z38 → z42 = z1 * z39 → z43 = z41 - z42 → (z25 = 0) → (¬ (z30 = 0)) → (¬ (z9 = 0)) → z43 = 0 := by
 intro e6 e7 e8 e9 e10 e11 e25 e30 e38 e39 e41 e42 e43 u0 u1 u2
 obtain ⟨⟨ua0_7, ua0_10⟩, ua0_4⟩ := e25.1 u0
 rw [e30] at u1
 clear u0 e25 e30
 have k0_5 : fac [z9, z11, z5] = 0 → z5 = 0 := fac_zero (by simp)
 have k0_9 : fac [z9, z11, z5] = 0 → z9 = 0 := fac_zero (by simp)
 have k0_11 : fac [z9, z11, z5] = 0 → z11 = 0 := fac_zero (by simp)
 generalize fac [z9, z11, z5] = g0 at *
 have nx0 := u1
 have iw0 : g0 ≠ 0 := fun hg => nx0 ⟨⟨(k0_9 hg), (k0_11 hg)⟩, (k0_5 hg)⟩
 obtain ⟨iv0, ih0⟩ : ∃ i, g0 * i = 1 := ⟨g0⁻¹, Rat.mul_inv_cancel _ iw0⟩
 clear k0_5 k0_9 k0_11
 subst_vars; grind
theorem moveFixed_f34 {z0 z1 z2 z3 z4 z5 z6 z7 z8 z9 z10 z11 z25 z30 z38 z40 z44 z45 z46 : Rat} : z6 = 1 → z7 = z0 - z6 → z8 = 0 → z9 = z1 - z8 → z10 = z2 - z8 → z11 = z3 - z6 → (z25 = 0 ↔ ((z7 = 0 ∧ z10 = 0) ∧ z4 = 0)) → (z30 = 0 ↔ ((z9 = 0 ∧ z11 = 0) ∧ z5 = 0)) → z38 = z9 * fac [z9, z11, z5] → z40 = z5 * fac [z9, z11, z5] → z44 = z5 * z38 → z45 = z1 * z40 → z46 = z44 - z45 → (z25 = 0) → (¬ (z30 = 0)) → (¬ (z9 = 0)) → z46 = 0 := by
 intro e6 e7 e8 e9 e10 e11 e25 e30 e38 e40 e44 e45 e46 u0 u1 u2
 obtain ⟨⟨ua0_7, ua0_10⟩, ua0_4⟩ := e25.1 u0
 rw [e30] at u1
 clear u0 e25 e30
 have k0_5 : fac [z9, z11, z5] = 0 → z5 = 0 := fac_zero (by simp)
 have k0_9 : fac [z9, z11, z5] = 0 → z9 = 0 := fac_zero (by simp)
 have k0_11 : fac [z9, z11, z5] = 0 → z11 = 0 := fac_zero (by simp)
 generalize fac [z9, z11, z5] = g0 at *
 have nx0 := u1
 have iw0 : g0 ≠ 0 := fun hg => nx0 ⟨⟨(k0_9 hg), (k0_11 hg)⟩, (k0_5 hg)⟩
 obtain ⟨iv0, ih0⟩ : ∃ i, g0 * i = 1 := ⟨g0⁻¹, Rat.mul_inv_cancel _ iw0⟩
 clear k0_5 k0_9 k0_11
 subst_vars; grind
theorem moveFixed_f35 {z0 z1 z2 z3 z4 z5 z6 z7 z8 z9 z10 z11 z25 z30 z39 z40 z47 z48 z49 : Rat} : z6 = 1 → z7 = z0 - z6 → z8 = 0 → z9 = z1 - z8 → z10 = z2 - z8 → z11 = z3 - z6 → (z25 = 0 ↔ ((z7 = 0 ∧ z10 = 0) ∧ z4 = 0)) → (z30 = 0 ↔ ((z9 = 0 ∧ z11 = 0) ∧ z5 = 0)) → z39 = z11 * fac [z9, z11, z5] → z40 = z5 * fac [z9, z11, z5] → z47 = z5 * z39 → z48 = z11 * z40 → z49 = z47 - z48 → (z25 = 0) → (¬ (z30 = 0)) → (¬ (z9 = 0)) → z49 = 0 := by
 intro e6 e7 e8 e9 e10 e11 e25 e30 e39 e40 e47 e48 e49 u0 u1 u2
 obtain ⟨⟨ua0_7, ua0_10⟩, ua0_4⟩ := e25.1 u0
 rw [e30] at u1
 clear u0 e25 e30
 have k0_5 : fac [z9, z11, z5] = 0 → z5 = 0 := fac_zero (by simp)
 have k0_9 : fac [z9, z11, z5] = 0 → z9 = 0 := fac_zero (by simp)
 have k0_11 : fac [z9, z11, z5] = 0 → z11 = 0 := fac_zero (by simp)
 generalize fac [z9, z11, z5] = g0 at *
 have nx0 := u1
 have iw0 : g0 ≠ 0 := fun hg => nx0 ⟨⟨(k0_9 hg), (k0_11 hg)⟩, (k0_5 hg)⟩
 obtain ⟨iv0, ih0⟩ : ∃ i, g0 * i = 1 := ⟨g0⁻¹, Rat.mul_inv_cancel _ iw0⟩
 clear k0_5 k0_9 k0_11
 subst_vars; grind
theorem moveFixed_f36 {z0 z1 z2 z3 z4 z5 z6 z7 z8 z9 z10 z11 z12 z13 z14 z15 z16 z17 z18 z19 z20 z25 z31 z32 z37 : Rat} : z6 = 1 → z7 = z0 - z6 → z8 = 0 → z9 = z1 - z8 → z10 = z2 - z8 → z11 = z3 - z6 → z12 = z10 * z5 → z13 = z4 * z11 → z14 = z12 - z13 → z15 = z4 * z9 → z16 = z7 * z5 → z17 = z15 - z16 → z18 = z7 * z11 → z19 = z10 * z9 → z20 = z18 - z19 → (z25 = 0 ↔ ((z7 = 0 ∧ z10 = 0) ∧ z4 = 0)) → z31 = z2 * z1 → z32 = z18 - z31 → (z37 = 0 ↔ ((z14 = 0 ∧ z17 = 0) ∧ z20 = 0)) → (¬ (z25 = 0)) → (z20 = 0) → (z37 = 0) → (z7 = 0) → (z10 = 0) → z32 = 0 := by
 intro e6 e7 e8 e9 e10 e11 e12 e13 e14 e15 e16 e17 e18 e19 e20 e25 e31 e32 e37 u0 u1 u2 u3 u4
 rw [e25] at u0
 obtain ⟨⟨ua2_14, ua2_17⟩, ua2_20⟩ := e37.1 u2
 clear u2 e25 e37
 rw [u1] at e20
 rw [u3] at e7
 rw [u4] at e10
 subst_vars; grind
theorem moveFixed_f37 {z0 z1 z2 z3 z4 z5 z6 z7 z8 z9 z10 z11 z12 z13 z14 z15 z16 z17 z18 z19 z20 z25 z37 : Rat} : z6 = 1 → z7 = z0 - z6 → z8 = 0 → z9 = z1 - z8 → z10 = z2 - z8 → z11 = z3 - z6 → z12 = z10 * z5 → z13 = z4 * z11 → z14 = z12 - z13 → z15 = z4 * z9 → z16 = z7 * z5 → z17 = z15 - z16 → z18 = z7 * z11 → z19 = z10 * z9 → z20 = z18 - z19 → (z25 = 0 ↔ ((z7 = 0 ∧ z10 = 0) ∧ z4 = 0)) → (z37 = 0 ↔ ((z14 = 0 ∧ z17 = 0) ∧ z20 = 0)) → (¬ (z25 = 0)) → (z20 = 0) → (z37 = 0) → (z7 = 0) → (z10 = 0) → z2 = 0 := by
 intro e6 e7 e8 e9 e10 e11 e12 e13 e14 e15 e16 e17 e18 e19 e20 e25 e37 u0 u1 u2 u3 u4
 rw [e25] at u0
 obtain ⟨⟨ua2_14, ua2_17⟩, ua2_20⟩ := e37.1 u2
 clear u2 e25 e37
 rw [u1] at e20
 rw [u3] at e7
 rw [u4] at e10
 subst_vars; grind
theorem moveFixed_f38 {z0 z1 z2 z3 z4 z5 z6 z7 z8 z9 z10 z11 z12 z13 z14 z15 z16 z17 z18 z19 z20 z25 z37 : Rat} : z6 = 1 → z7 = z0 - z6 → z8 = 0 → z9 = z1 - z8 → z10 = z2 - z8 → z11 = z3 - z6 → z12 = z10 * z5 → z13 = z4 * z11 → z14 = z12 - z13 → z15 = z4 * z9 → z16 = z7 * z5 → z17 = z15 - z16 → z18 = z7 * z11 → z19 = z10 * z9 → z20 = z18 - z19 → (z25 = 0 ↔ ((z7 = 0 ∧ z10 = 0) ∧ z4 = 0)) → (z37 = 0 ↔ ((z14 = 0 ∧ z17 = 0) ∧ z20 = 0)) → (¬ (z25 = 0)) → (z20 = 0) → (z37 = 0) → (z7 = 0) → (z10 = 0) → z1 = 0 := by
 intro e6 e7 e8 e9 e10 e11 e12 e13 e14 e15 e16 e17 e18 e19 e20 e25 e37 u0 u1 u2 u3 u4
 rw [e25] at u0
 obtain ⟨⟨ua2_14, ua2_17⟩, ua2_20⟩ := e37.1 u2
 clear u2 e25 e37
 rw [u1] at e20
 rw [u3] at e7
 rw [u4] at e10
 subst_vars; grind
theorem moveFixed_f39 {z0 z1 z2 z3 z4 z5 z6 z7 z8 z9 z10 z11 z12 z13 z14 z15 z16 z17 z18 z19 z20 z25 z37 : Rat} : z6 = 1 → z7 = z0 - z6 → z8 = 0 → z9 = z1 - z8 → z10 = z2 - z8 → z11 = z3 - z6 → z12 = z10 * z5 → z13 = z4 * z11 → z14 = z12 - z13 → z15 = z4 * z9 → z16 = z7 * z5 → z17 = z15 - z16 → z18 = z7 * z11 → z19 = z10 * z9 → z20 = z18 - z19 → (z25 = 0 ↔ ((z7 = 0 ∧ z10 = 0) ∧ z4 = 0)) → (z37 = 0 ↔ ((z14 = 0 ∧ z17 = 0) ∧ z20 = 0)) → (¬ (z25 = 0)) → (z20 = 0) → (z37 = 0) → (z7 = 0) → (z10 = 0) → z11 = 0 := by
 intro e6 e7 e8 e9 e10 e11 e12 e13 e14 e15 e16 e17 e18 e19 e20 e25 e37 u0 u1 u2 u3 u4
 rw [e25] at u0
 obtain ⟨⟨ua2_14, ua2_17⟩, ua2_20⟩ := e37.1 u2
 clear u2 e25 e37
 rw [u1] at e20
 rw [u3] at e7
 rw [u4] at e10
 subst_vars; grind
theorem moveFixed_f40 {z0 z1 z2 z3 z4 z5 z6 z7 z8 z9 z10 z11 z12 z13 z14 z15 z16 z17 z18 z19 z20 z25 z37 : Rat} : z6 = 1 → z7 = z0 - z6 → z8 = 0 → z9 = z1 - z8 → z10 = z2 - z8 → z11 = z3 - z6 → z12 = z10 * z5 → z13 = z4 * z11 → z14 = z12 - z13 → z15 = z4 * z9 → z16 = z7 * z5 → z17 = z15 - z16 → z18 = z7 * z11 → z19 = z10 * z9 → z20 = z18 - z19 → (z25 = 0 ↔ ((z7 = 0 ∧ z10 = 0) ∧ z4 = 0)) → (z37 = 0 ↔ ((z14 = 0 ∧ z17 = 0) ∧ z20 = 0)) → (¬ (z25 = 0)) → (z20 = 0) → (z37 = 0) → (z7 = 0) → (z10 = 0) → ¬ (z4 = 0) := by
 intro e6 e7 e8 e9 e10 e11 e12 e13 e14 e15 e16 e17 e18 e19 e20 e25 e37 u0 u1 u2 u3 u4
 rw [e25] at u0
 obtain ⟨⟨ua2_14, ua2_17⟩, ua2_20⟩ := e37.1 u2
 clear u2 e25 e37
 rw [u1] at e20
 rw [u3] at e7
 rw [u4] at e10
 subst_vars; grind
theorem moveFixed_f41 {z0 z1 z2 z3 z4 z5 z6 z7 z8 z9 z10 z11 z12 z13 z14 z15 z16 z17 z18 z19 z20 z25 z31 z32 z37 : Rat} : z6 = 1 → z7 = z0 - z6 → z8 = 0 → z9 = z1 - z8 → z10 = z2 - z8 → z11 = z3 - z6 → z12 = z10 * z5 → z13 = z4 * z11 → z14 = z12 - z13 → z15 = z4 * z9 → z16 = z7 * z5 → z17 = z15 - z16 → z18 = z7 * z11 → z19 = z10 * z9 → z20 = z18 - z19 → (z25 = 0 ↔ ((z7 = 0 ∧ z10 = 0) ∧ z4 = 0)) → z31 = z2 * z1 → z32 = z18 - z31 → (z37 = 0 ↔ ((z14 = 0 ∧ z17 = 0) ∧ z20 = 0)) → (¬ (z25 = 0)) → (z20 = 0) → (z37 = 0) → (z7 = 0) → (¬ (z10 = 0)) → z32 = 0 := by
 intro e6 e7 e8 e9 e10 e11 e12 e13 e14 e15 e16 e17 e18 e19 e20 e25 e31 e32 e37 u0 u1 u2 u3 u4
 rw [e25] at u0
 obtain ⟨⟨ua2_14, ua2_17⟩, ua2_20⟩ := e37.1 u2
 clear u2 e25 e37
 rw [u1] at e20
 rw [u3] at e7
 subst_vars; grind
theorem moveFixed_f42 {z0 z1 z2 z3 z4 z5 z6 z7 z8 z9 z10 z11 z12 z13 z14 z15 z16 z17 z18 z19 z20 z25 z37 : Rat} : z6 = 1 → z7 = z0 - z6 → z8 = 0 → z9 = z1 - z8 → z10 = z2 - z8 → z11 = z3 - z6 → z12 = z10 * z5 → z13 = z4 * z11 → z14 = z12 - z13 → z15 = z4 * z9 → z16 = z7 * z5 → z17 = z15 - z16 → z18 = z7 * z11 → z19 = z10 * z9 → z20 = z18 - z19 → (z25 = 0 ↔ ((z7 = 0 ∧ z10 = 0) ∧ z4 = 0)) → (z37 = 0 ↔ ((z14 = 0 ∧ z17 = 0) ∧ z20 = 0)) → (¬ (z25 = 0)) → (z20 = 0) → (z37 = 0) → (z7 = 0) → (¬ (z10 = 0)) → ¬ (z2 = 0) := by
 intro e6 e7 e8 e9 e10 e11 e12 e13 e14 e15 e16 e17 e18 e19 e20 e25 e37 u0 u1 u2 u3 u4
 rw [e25] at u0
 obtain ⟨⟨ua2_14, ua2_17⟩, ua2_20⟩ := e37.1 u2
 clear u2 e25 e37
 rw [u1] at e20
 rw [u3] at e7
 subst_vars; grind
theorem moveFixed_f43 {z0 z1 z2 z3 z4 z5 z6 z7 z8 z9 z10 z11 z12 z13 z14 z15 z16 z17 z18 z19 z20 z25 z37 : Rat} : z6 = 1 → z7 = z0 - z6 → z8 = 0 → z9 = z1 - z8 → z10 = z2 - z8 → z11 = z3 - z6 → z12 = z10 * z5 → z13 = z4 * z11 → z14 = z12 - z13 → z15 = z4 * z9 → z16 = z7 * z5 → z17 = z15 - z16 → z18 = z7 * z11 → z19 = z10 * z9 → z20 = z18 - z19 → (z25 = 0 ↔ ((z7 = 0 ∧ z10 = 0) ∧ z4 = 0)) → (z37 = 0 ↔ ((z14 = 0 ∧ z17 = 0) ∧ z20 = 0)) → (¬ (z25 = 0)) → (z20 = 0) → (z37 = 0) → (z7 = 0) → (¬ (z10 = 0)) → z1 = 0 := by
 intro e6 e7 e8 e9 e10 e11 e12 e13 e14 e15 e16 e17 e18 e19 e20 e25 e37 u0 u1 u2 u3 u4
 rw [e25] at u0
 obtain ⟨⟨ua2_14, ua2_17⟩, ua2_20⟩ := e37.1 u2
 clear u2 e25 e37
 rw [u1] at e20
 rw [u3] at e7
 subst_vars; grind
theorem moveFixed_f44 {z0 z1 z2 z3 z4 z5 z6 z7 z8 z9 z10 z11 z12 z13 z14 z15 z16 z17 z18 z19 z20 z25 z37 : Rat} : z6 = 1 → z7 = z0 - z6 → z8 = 0 → z9 = z1 - z8 → z10 = z2 - z8 → z11 = z3 - z6 → z12 = z10 * z5 → z13 = z4 * z11 → z14 = z12 - z13 → z15 = z4 * z9 → z16 = z7 * z5 → z17 = z15 - z16 → z18 = z7 * z11 → z19 = z10 * z9 → z20 = z18 - z19 → (z25 = 0 ↔ ((z7 = 0 ∧ z10 = 0) ∧ z4 = 0)) → (z37 = 0 ↔ ((z14 = 0 ∧ z17 = 0) ∧ z20 = 0)) → (¬ (z25 = 0)) → (z20 = 0) → (z37 = 0) → (z7 = 0) → (¬ (z10 = 0)) → (z11 = 0) → z5 = 0 := by
 intro e6 e7 e8 e9 e10 e11 e12 e13 e14 e15 e16 e17 e18 e19 e20 e25 e37 u0 u1 u2 u3 u4 u5
 rw [e25] at u0
 obtain ⟨⟨ua2_14, ua2_17⟩, ua2_20⟩ := e37.1 u2
 clear u2 e25 e37
 rw [u1] at e20
 rw [u3] at e7
 rw [u5] at e11
 subst_vars; grind
theorem moveFixed_f45 {z0 z1 z2 z3 z4 z5 z6 z7 z8 z9 z10 z11 z12 z13 z14 z15 z16 z17 z18 z19 z20 z25 z37 z55 : Rat} : z6 = 1 → z7 = z0 - z6 → z8 = 0 → z9 = z1 - z8 → z10 = z2 - z8 → z11 = z3 - z6 → z12 = z10 * z5 → z13 = z4 * z11 → z14 = z12 - z13 → z15 = z4 * z9 → z16 = z7 * z5 → z17 = z15 - z16 → z18 = z7 * z11 → z19 = z10 * z9 → z20 = z18 - z19 → (z25 = 0 ↔ ((z7 = 0 ∧ z10 = 0) ∧ z4 = 0)) → (z37 = 0 ↔ ((z14 = 0 ∧ z17 = 0) ∧ z20 = 0)) → z55 = z7 * fac [z7, z10, z4] → (¬ (z25 = 0)) → (z20 = 0) → (z37 = 0) → (z7 = 0) → (¬ (z10 = 0)) → (z11 = 0) → z55 = 0 := by
 intro e6 e7 e8 e9 e10 e11 e12 e13 e14 e15 e16 e17 e18 e19 e20 e25 e37 e55 u0 u1 u2 u3 u4 u5
 rw [e25] at u0
 obtain ⟨⟨ua2_14, ua2_17⟩, ua2_20⟩ := e37.1 u2
 clear u2 e25 e37
 rw [u1] at e20
 rw [u3] at e7
 rw [u5] at e11
 have k0_4 : fac [z7, z10, z4] = 0 → z4 = 0 := fac_zero (by simp)
 have k0_7 : fac [z7, z10, z4] = 0 → z7 = 0 := fac_zero (by simp)
 have k0_10 : fac [z7, z10, z4] = 0 → z10 = 0 := fac_zero (by simp)
 generalize fac [z7, z10, z4] = g0 at *
 have nx0 := u0
 have iw0 : g0 ≠ 0 := fun hg => nx0 ⟨⟨(k0_7 hg), (k0_10 hg)⟩, (k0_4 hg)⟩
 obtain ⟨iv0, ih0⟩ : ∃ i, g0 * i = 1 := ⟨g0⁻¹, Rat.mul_inv_cancel _ iw0⟩
 clear k0_4 k0_7 k0_10
 subst_vars; grind
theorem moveFixed_f46 {z0 z1 z2 z3 z4 z5 z6 z7 z8 z9 z10 z11 z12 z13 z14 z15 z16 z17 z18 z19 z20 z25 z37 z56 : Rat} : z6 = 1 → z7 = z0 - z6 → z8 = 0 → z9 = z1 - z8 → z10 = z2 - z8 → z11 = z3 - z6 → z12 = z10 * z5 → z13 = z4 * z11 → z14 = z12 - z13 → z15 = z4 * z9 → z16 = z7 * z5 → z17 = z15 - z16 → z18 = z7 * z11 → z19 = z10 * z9 → z20 = z18 - z19 → (z25 = 0 ↔ ((z7 = 0 ∧ z10 = 0) ∧ z4 = 0)) → (z37 = 0 ↔ ((z14 = 0 ∧ z17 = 0) ∧ z20 = 0)) → z56 = z10 * fac [z7, z10, z4] → (¬ (z25 = 0)) → (z20 = 0) → (z37 = 0) → (z7 = 0) → (¬ (z10 = 0)) → (z11 = 0) → ¬ (z56 = 0) := by
 intro e6 e7 e8 e9 e10 e11 e12 e13 e14 e15 e16 e17 e18 e19 e20 e25 e37 e56 u0 u1 u2 u3 u4 u5
 rw [e25] at u0
 obtain ⟨⟨ua2_14, ua2_17⟩, ua2_20⟩ := e37.1 u2
 clear u2 e25 e37
 rw [u1] at e20
 rw [u3] at e7
 rw [u5] at e11
 have k0_4 : fac [z7, z10, z4] = 0 → z4 = 0 := fac_zero (by simp)
 have k0_7 : fac [z7, z10, z4] = 0 → z7 = 0 := fac_zero (by simp)
 have k0_10 : fac [z7, z10, z4] = 0 → z10 = 0 := fac_zero (by simp)
 generalize fac [z7, z10, z4] = g0 at *
 have nx0 := u0
 have iw0 : g0 ≠ 0 := fun hg => nx0 ⟨⟨(k0_7 hg), (k0_10 hg)⟩, (k0_4 hg)⟩
 obtain ⟨iv0, ih0⟩ : ∃ i, g0 * i = 1 := ⟨g0⁻¹, Rat.mul_inv_cancel _ iw0⟩
 clear k0_4 k0_7 k0_10
 subst_vars; grind
theorem moveFixed_f47 {z0 z1 z2 z3 z4 z5 z6 z7 z8 z9 z10 z11 z12 z13 z14 z15 z16 z17 z18 z19 z20 z25 z37 z55 z56 z58 z59 z60 : Rat} : z6 = 1 → z7 = z0 - z6 → z8 = 0 → z9 = z1 - z8 → z10 = z2 - z8 → z11 = z3 - z6 → z12 = z10 * z5 → z13 = z4 * z11 → z14 = z12 - z13 → z15 = z4 * z9 → z16 = z7 * z5 → z17 = z15 - z16 → z18 = z7 * z11 → z19 = z10 * z9 → z20 = z18 - z19 → (z25 = 0 ↔ ((z7 = 0 ∧ z10 = 0) ∧ z4 = 0)) → (z37 = 0 ↔ ((z14 = 0 ∧ z17 = 0) ∧ z20 = 0)) → z55 = z7 * fac [z7, z10, z4] → z56 = z10 * fac [z7, z10, z4] → z58 = z2 * z55 → z59 = z7 * z56 → z60 = z58 - z59 → (¬ (z25 = 0)) → (z20 = 0) → (z37 = 0) → (z7 = 0) → (¬ (z10 = 0)) → (z11 = 0) → z60 = 0 := by
 intro e6 e7 e8 e9 e10 e11 e12 e13 e14 e15 e16 e17 e18 e19 e20 e25 e37 e55 e56 e58 e59 e60 u0 u1 u2 u3 u4 u5
 rw [e25] at u0
 obtain ⟨⟨ua2_14, ua2_17⟩, ua2_20⟩ := e37.1 u2
 clear u2 e25 e37
 rw [u1] at e20
 rw [u3] at e7
 rw [u5] at e11
 have k0_4 : fac [z7, z10, z4] = 0 → z4 = 0 := fac_zero (by simp)
 have k0_7 : fac [z7, z10, z4] = 0 → z7 = 0 := fac_zero (by simp)
 have k0_10 : fac [z7, z10, z4] = 0 → z10 = 0 := fac_zero (by simp)
 generalize fac [z7, z10, z4] = g0 at *
 have nx0 := u0
 have iw0 : g0 ≠ 0 := fun hg => nx0 ⟨⟨(k0_7 hg), (k0_10 hg)⟩, (k0_4 hg)⟩
 obtain ⟨iv0, ih0⟩ : ∃ i, g0 * i = 1 := ⟨g0⁻¹, Rat.mul_inv_cancel _ iw0⟩
 clear k0_4 k0_7 k0_10
 subst_vars; grind
theorem moveFixed_f48 {z0 z1 z2 z3 z4 z5 z6 z7 z8 z9 z10 z11 z12 z13 z14 z15 z16 z17 z18 z19 z20 z25 z37 z55 z57 z61 z62 z63 : Rat} : z6 = 1 → z7 = z0 - z6 → z8 = 0 → z9 = z1 - z8 → z10 = z2 - z8 → z11 = z3 - z6 → z12 = z10 * z5 → z13 = z4 * z11 → z14 = z12 - z13 → z15 = z4 * z9 → z16 = z7 * z5 → z17 = z15 - z16 → z18 = z7 * z11 → z19 = z10 * z9 → z20 = z18 - z19 → (z25 = 0 ↔ ((z7 = 0 ∧ z10 = 0) ∧ z4 = 0)) → (z37 = 0 ↔ ((z14 = 0 ∧ z17 = 0) ∧ z20 = 0)) → z55 = z7 * fac [z7, z10, z4] → z57 = z4 * fac [z7, z10, z4] → z61 = z4 * z55 → z62 = z7 * z57 → z63 = z61 - z62 → (¬ (z25 = 0)) → (z20 = 0) → (z37 = 0) → (z7 = 0) → (¬ (z10 = 0)) → (z11 = 0) → z63 = 0 := by
 intro e6 e7 e8 e9 e10 e11 e12 e13 e14 e15 e16 e17 e18 e19 e20 e25 e37 e55 e57 e61 e62 e63 u0 u1 u2 u3 u4 u5
 rw [e25] at u0
 obtain ⟨⟨ua2_14, ua2_17⟩, ua2_20⟩ := e37.1 u2
 clear u2 e25 e37
 rw [u1] at e20
 rw [u3] at e7
 rw [u5] at e11
 have k0_4 : fac [z7, z10, z4] = 0 → z4 = 0 := fac_zero (by simp)
 have k0_7 : fac [z7, z10, z4] = 0 → z7 = 0 := fac_zero (by simp)
 have k0_10 : fac [z7, z10, z4] = 0 → z10 = 0 := fac_zero (by simp)
 generalize fac [z7, z10, z4] = g0 at *
 have nx0 := u0
 have iw0 : g0 ≠ 0 := fun hg => nx0 ⟨⟨(k0_7 hg), (k0_10 hg)⟩, (k0_4 hg)⟩
 obtain ⟨iv0, ih0⟩ : ∃ i, g0 * i = 1 := ⟨g0⁻¹, Rat.mul_inv_cancel _ iw0⟩
 clear k0_4 k0_7 k0_10
 subst_vars; grind
theorem moveFixed_f49 {z0 z1 z2 z3 z4 z5 z6 z7 z8 z9 z10 z11 z12 z13 z14 z15 z16 z17 z18 z19 z20 z25 z37 z56 z57 z64 z65 z66 : Rat} : z6 = 1 → z7 = z0 - z6 → z8 = 0 → z9 = z1 - z8 → z10 = z2 - z8 → z11 = z3 - z6 → z12 = z10 * z5 → z13 = z4 * z11 → z14 = z12 - z13 → z15 = z4 * z9 → z16 = z7 * z5 → z17 = z15 - z16 → z18 = z7 * z11 → z19 = z10 * z9 → z20 = z18 - z19 → (z25 = 0 ↔ ((z7 = 0 ∧ z10 = 0) ∧ z4 = 0)) → (z37 = 0 ↔ ((z14 = 0 ∧ z17 = 0) ∧ z20 = 0)) → z56 = z10 * fac [z7, z10, z4] → z57 = z4 * fac [z7, z10, z4] → z64 = z4 * z56 → z65 = z2 * z57 → z66 = z64 - z65 → (¬ (z25 = 0)) → (z20 = 0) → (z37 = 0) → (z7 = 0) → (¬ (z10 = 0)) → (z11 = 0) → z66 = 0 := by
 intro e6 e7 e8 e9 e10 e11 e12 e13 e14 e15 e16 e17 e18 e19 e20 e25 e37 e56 e57 e64 e65 e66 u0 u1 u2 u3 u4 u5
 rw [e25] at u0
 obtain ⟨⟨ua2_14, ua2_17⟩, ua2_20⟩ := e37.1 u2
 clear u2 e25 e37
 rw [u1] at e20
 rw [u3] at e7
 rw [u5] at e11
 have k0_4 : fac [z7, z10, z4] = 0 → z4 = 0 := fac_zero (by simp)
 have k0_7 : fac [z7, z10, z4] = 0 → z7 = 0 := fac_zero (by simp)
 have k0_10 : fac [z7, z10, z4] = 0 → z10 = 0 := fac_zero (by simp)
 generalize fac [z7, z10, z4] = g0 at *
 have nx0 := u0
 have iw0 : g0 ≠ 0 := fun hg => nx0 ⟨⟨(k0_7 hg), (k0_10 hg)⟩, (k0_4 hg)⟩
 obtain ⟨iv0, ih0⟩ : ∃ i, g0 * i = 1 := ⟨g0⁻¹, Rat.mul_inv_cancel _ iw0⟩
 clear k0_4 k0_7 k0_10
 subst_vars; grind
theorem moveFixed_f50 {z0 z1 z2 z3 z4 z5 z6 z7 z8 z9 z10 z11 z12 z13 z14 z15 z16 z17 z18 z19 z20 z25 z31 z37 z72 : Rat} : z6 = 1 → z7 = z0 - z6 → z8 = 0 → z9 = z1 - z8 → z10 = z2 - z8 → z11 = z3 - z6 → z12 = z10 * z5 → z13 = z4 * z11 → z14 = z12 - z13 → z15 = z4 * z9 → z16 = z7 * z5 → z17 = z15 - z16 → z18 = z7 * z11 → z19 = z10 * z9 → z20 = z18 - z19 → (z25 = 0 ↔ ((z7 = 0 ∧ z10 = 0) ∧ z4 = 0)) → z31 = z2 * z1 → (z37 = 0 ↔ ((z14 = 0 ∧ z17 = 0) ∧ z20 = 0)) → z72 = z31 - z18 → (¬ (z25 = 0)) → (z20 = 0) → (z37 = 0) → (z7 = 0) → (¬ (z10 = 0)) → (¬ (z11 = 0)) → z72 = 0 := by
 intro e6 e7 e8 e9 e10 e11 e12 e13 e14 e15 e16 e17 e18 e19 e20 e25 e31 e37 e72 u0 u1 u2 u3 u4 u5
 rw [e25] at u0
 obtain ⟨⟨ua2_14, ua2_17⟩, ua2_20⟩ := e37.1 u2
 clear u2 e25 e37
 rw [u1] at e20
 rw [u3] at e7
 subst_vars; grind
theorem moveFixed_f51 {z0 z1 z2 z3 z4 z5 z6 z7 z8 z9 z10 z11 z12 z13 z14 z15 z16 z17 z18 z19 z20 z25 z37 z73 z74 : Rat} : z6 = 1 → z7 = z0 - z6 → z8 = 0 → z9 = z1 - z8 → z10 = z2 - z8 → z11 = z3 - z6 → z12 = z10 * z5 → z13 = z4 * z11 → z14 = z12 - z13 → z15 = z4 * z9 → z16 = z7 * z5 → z17 = z15 - z16 → z18 = z7 * z11 → z19 = z10 * z9 → z20 = z18 - z19 → (z25 = 0 ↔ ((z7 = 0 ∧ z10 = 0) ∧ z4 = 0)) → (z37 = 0 ↔ ((z14 = 0 ∧ z17 = 0) ∧ z20 = 0)) → z73 = z4 * z1 → z74 = z73 - z16 → (¬ (z25 = 0)) → (z20 = 0) → (z37 = 0) → (z7 = 0) → (¬ (z10 = 0)) → (¬ (z11 = 0)) → z74 = 0 := by
 intro e6 e7 e8 e9 e10 e11 e12 e13 e14 e15 e16 e17 e18 e19 e20 e25 e37 e73 e74 u0 u1 u2 u3 u4 u5
 rw [e25] at u0
 obtain ⟨⟨ua2_14, ua2_17⟩, ua2_20⟩ := e37.1 u2
 clear u2 e25 e37
 rw [u1] at e20
 rw [u3] at e7
 subst_vars; grind
theorem moveFixed_f52 {z0 z1 z2 z3 z4 z5 z6 z7 z8 z9 z10 z11 z12 z13 z14 z15 z16 z17 z18 z19 z20 z25 z37 z75 z76 : Rat} : z6 = 1 → z7 = z0 - z6 → z8 = 0 → z9 = z1 - z8 → z10 = z2 - z8 → z11 = z3 - z6 → z12 = z10 * z5 → z13 = z4 * z11 → z14 = z12 - z13 → z15 = z4 * z9 → z16 = z7 * z5 → z17 = z15 - z16 → z18 = z7 * z11 → z19 = z10 * z9 → z20 = z18 - z19 → (z25 = 0 ↔ ((z7 = 0 ∧ z10 = 0) ∧ z4 = 0)) → (z37 = 0 ↔ ((z14 = 0 ∧ z17 = 0) ∧ z20 = 0)) → z75 = z2 * z5 → z76 = z13 - z75 → (¬ (z25 = 0)) → (z20 = 0) → (z37 = 0) → (z7 = 0) → (¬ (z10 = 0)) → (¬ (z11 = 0)) → z76 = 0 := by
 intro e6 e7 e8 e9 e10 e11 e12 e13 e14 e15 e16 e17 e18 e19 e20 e25 e37 e75 e76 u0 u1 u2 u3 u4 u5
 rw [e25] at u0
 obtain ⟨⟨ua2_14, ua2_17⟩, ua2_20⟩ := e37.1 u2
 clear u2 e25 e37
 rw [u1] at e20
 rw [u3] at e7
 subst_vars; grind
theorem moveFixed_f53 {z0 z1 z2 z3 z4 z5 z6 z7 z8 z9 z10 z11 z12 z13 z14 z15 z16 z17 z18 z19 z20 z25 z37 z55 : Rat} : z6 = 1 → z7 = z0 - z6 → z8 = 0 → z9 = z1 - z8 → z10 = z2 - z8 → z11 = z3 - z6 → z12 = z10 * z5 → z13 = z4 * z11 → z14 = z12 - z13 → z15 = z4 * z9 → z16 = z7 * z5 → z17 = z15 - z16 → z18 = z7 * z11 → z19 = z10 * z9 → z20 = z18 - z19 → (z25 = 0 ↔ ((z7 = 0 ∧ z10 = 0) ∧ z4 = 0)) → (z37 = 0 ↔ ((z14 = 0 ∧ z17 = 0) ∧ z20 = 0)) → z55 = z7 * fac [z7, z10, z4] → (¬ (z25 = 0)) → (z20 = 0) → (z37 = 0) → (z7 = 0) → (¬ (z10 = 0)) → (¬ (z11 = 0)) → z55 = 0 := by
 intro e6 e7 e8 e9 e10 e11 e12 e13 e14 e15 e16 e17 e18 e19 e20 e25 e37 e55 u0 u1 u2 u3 u4 u5
 rw [e25] at u0
 obtain ⟨⟨ua2_14, ua2_17⟩, ua2_20⟩ := e37.1 u2
 clear u2 e25 e37
 rw [u1] at e20
 rw [u3] at e7
 have k0_4 : fac [z7, z10, z4] = 0 → z4 = 0 := fac_zero (by simp)
 have k0_7 : fac [z7, z10, z4] = 0 → z7 = 0 := fac_zero (by simp)
 have k0_10 : fac [z7, z10, z4] = 0 → z10 = 0 := fac_zero (by simp)
 generalize fac [z7, z10, z4] = g0 at *
 have nx0 := u0
 have iw0 : g0 ≠ 0 := fun hg => nx0 ⟨⟨(k0_7 hg), (k0_10 hg)⟩, (k0_4 hg)⟩
 obtain ⟨iv0, ih0⟩ : ∃ i, g0 * i = 1 := ⟨g0⁻¹, Rat.mul_inv_cancel _ iw0⟩
 clear k0_4 k0_7 k0_10
 subst_vars; grind
theorem moveFixed_f54 {z0 z1 z2 z3 z4 z5 z6 z7 z8 z9 z10 z11 z12 z13 z14 z15 z16 z17 z18 z19 z20 z25 z37 z56 : Rat} : z6 = 1 → z7 = z0 - z6 → z8 = 0 → z9 = z1 - z8 → z10 = z2 - z8 → z11 = z3 - z6 → z12 = z10 * z5 → z13 = z4 * z11 → z14 = z12 - z13 → z15 = z4 * z9 → z16 = z7 * z5 → z17 = z15 - z16 → z18 = z7 * z11 → z19 = z10 * z9 → z20 = z18 - z19 → (z25 = 0 ↔ ((z7 = 0 ∧ z10 = 0) ∧ z4 = 0)) → (z37 = 0 ↔ ((z14 = 0 ∧ z17 = 0) ∧ z20 = 0)) → z56 = z10 * fac [z7, z10, z4] → (¬ (z25 = 0)) → (z20 = 0) → (z37 = 0) → (z7 = 0) → (¬ (z10 = 0)) → (¬ (z11 = 0)) → ¬ (z56 = 0) := by
 intro e6 e7 e8 e9 e10 e11 e12 e13 e14 e15 e16 e17 e18 e19 e20 e25 e37 e56 u0 u1 u2 u3 u4 u5
 rw [e25] at u0
 obtain ⟨⟨ua2_14, ua2_17⟩, ua2_20⟩ := e37.1 u2
 clear u2 e25 e37
 rw [u1] at e20
 rw [u3] at e7
 have k0_4 : fac [z7, z10, z4] = 0 → z4 = 0 := fac_zero (by simp)
 have k0_7 : fac [z7, z10, z4] = 0 → z7 = 0 := fac_zero (by simp)
 have k0_10 : fac [z7, z10, z4] = 0 → z10 = 0 := fac_zero (by simp)
 generalize fac [z7, z10, z4] = g0 at *
 have nx0 := u0
 have iw0 : g0 ≠ 0 := fun hg => nx0 ⟨⟨(k0_7 hg), (k0_10 hg)⟩, (k0_4 hg)⟩
 obtain ⟨iv0, ih0⟩ : ∃ i, g0 * i = 1 := ⟨g0⁻¹, Rat.mul_inv_cancel _ iw0⟩
 clear k0_4 k0_7 k0_10
 subst_vars; grind
theorem moveFixed_f55 {z0 z1 z2 z3 z4 z5 z6 z7 z8 z9 z10 z11 z12 z13 z14 z15 z16 z17 z18 z19 z20 z25 z37 z55 z56 z58 z59 z60 : Rat} : z6 = 1 → z7 = z0 - z6 → z8 = 0 → z9 = z1 - z8 → z10 = z2 - z8 → z11 = z3 - z6 → z12 = z10 * z5 → z13 = z4 * z11 → z14 = z12 - z13 → z15 = z4 * z9 → z16 = z7 * z5 → z17 = z15 - z16 → z18 = z7 * z11 → z19 = z10 * z9 → z20 = z18 - z19 → (z25 = 0 ↔ ((z7 = 0 ∧ z10 = 0) ∧ z4 = 0)) → (z37 = 0 ↔ ((z14 = 0 ∧ z17 = 0) ∧ z20 = 0)) → z55 = z7 * fac [z7, z10, z4] → z56 = z10 * fac [z7, z10, z4] → z58 = z2 * z55 → z59 = z7 * z56 → z60 = z58 - z59 → (¬ (z25 = 0)) → (z20 = 0) → (z37 = 0) → (z7 = 0) → (¬ (z10 = 0)) → (¬ (z11 = 0)) → z60 = 0 := by
 intro e6 e7 e8 e9 e10 e11 e12 e13 e14 e15 e16 e17 e18 e19 e20 e25 e37 e55 e56 e58 e59 e60 u0 u1 u2 u3 u4 u5
 rw [e25] at u0
 obtain ⟨⟨ua2_14, ua2_17⟩, ua2_20⟩ := e37.1 u2
 clear u2 e25 e37
 rw [u1] at e20
 rw [u3] at e7
 have k0_4 : fac [z7, z10, z4] = 0 → z4 = 0 := fac_zero (by simp)
 have k0_7 : fac [z7, z10, z4] = 0 → z7 = 0 := fac_zero (by simp)
 have k0_10 : fac [z7, z10, z4] = 0 → z10 = 0 := fac_zero (by simp)
 generalize fac [z7, z10, z4] = g0 at *
 have nx0 := u0
 have iw0 : g0 ≠ 0 := fun hg => nx0 ⟨⟨(k0_7 hg), (k0_10 hg)⟩, (k0_4 hg)⟩
 obtain ⟨iv0, ih0⟩ : ∃ i, g0 * i = 1 := ⟨g0⁻¹, Rat.mul_inv_cancel _ iw0⟩
 clear k0_4 k0_7 k0_10
 subst_vars; grind
theorem moveFixed_f56 {z0 z1 z2 z3 z4 z5 z6 z7 z8 z9 z10 z11 z12 z13 z14 z15 z16 z17 z18 z19 z20 z25 z37 z55 z57 z61 z62 z63 : Rat} : z6 = 1 → z7 = z0 - z6 → z8 = 0 → z9 = z1 - z8 → z10 = z2 - z8 → z11 = z3 - z6 → z12 = z10 * z5 → z13 = z4 * z11 → z14 = z12 - z13 → z15 = z4 * z9 → z16 = z7 * z5 → z17 = z15 - z16 → z18 = z7 * z11 → z19 = z10 * z9 → z20 = z18 - z19 → (z25 = 0 ↔ ((z7 = 0 ∧ z10 = 0) ∧ z4 = 0)) → (z37 = 0 ↔ ((z14 = 0 ∧ z17 = 0) ∧ z20 = 0)) → z55 = z7 * fac [z7, z10, z4] → z57 = z4 * fac [z7, z10, z4] → z61 = z4 * z55 → z62 = z7 * z57 → z63 = z61 - z62 → (¬ (z25 = 0)) → (z20 = 0) → (z37 = 0) → (z7 = 0) → (¬ (z10 = 0)) → (¬ (z11 = 0)) → z63 = 0 := by
 intro e6 e7 e8 e9 e10 e11 e12 e13 e14 e15 e16 e17 e18 e19 e20 e25 e37 e55 e57 e61 e62 e63 u0 u1 u2 u3 u4 u5
 rw [e25] at u0
 obtain ⟨⟨ua2_14, ua2_17⟩, ua2_20⟩ := e37.1 u2
 clear u2 e25 e37
 rw [u1] at e20
 rw [u3] at e7
 have k0_4 : fac [z7, z10, z4] = 0 → z4 = 0 := fac_zero (by simp)
 have k0_7 : fac [z7, z10, z4] = 0 → z7 = 0 := fac_zero (by simp)
 have k0_10 : fac [z7, z10, z4] = 0 → z10 = 0 := fac_zero (by simp)
 generalize fac [z7, z10, z4] = g0 at *
 have nx0 := u0
 have iw0 : g0 ≠ 0 := fun hg => nx0 ⟨⟨(k0_7 hg), (k0_10 hg)⟩, (k0_4 hg)⟩
 obtain ⟨iv0, ih0⟩ : ∃ i, g0 * i = 1 := ⟨g0⁻¹, Rat.mul_inv_cancel _ iw0⟩
 clear k0_4 k0_7 k0_10
 subst_vars; grind
theorem moveFixed_f57 {z0 z1 z2 z3 z4 z5 z6 z7 z8 z9 z10 z11 z12 z13 z14 z15 z16 z17 z18 z19 z20 z25 z37 z56 z57 z64 z65 z66 : Rat} : z6 = 1 → z7 = z0 - z6 → z8 = 0 → z9 = z1 - z8 → z10 = z2 - z8 → z11 = z3 - z6 → z12 = z10 * z5 → z13 = z4 * z11 → z14 = z12 - z13 → z15 = z4 * z9 → z16 = z7 * z5 → z17 = z15 - z16 → z18 = z7 * z11 → z19 = z10 * z9 → z20 = z18 - z19 → (z25 = 0 ↔ ((z7 = 0 ∧ z10 = 0) ∧ z4 = 0)) → (z37 = 0 ↔ ((z14 = 0 ∧ z17 = 0) ∧ z20 = 0)) → z56 = z10 * fac [z7, z10, z4] → z57 = z4 * fac [z7, z10, z4] → z64 = z4 * z56 → z65 = z2 * z57 → z66 = z64 - z65 → (¬ (z25 = 0)) → (z20 = 0) → (z37 = 0) → (z7 = 0) → (¬ (z10 = 0)) → (¬ (z11 = 0)) → z66 = 0 := by
 intro e6 e7 e8 e9 e10 e11 e12 e13 e14 e15 e16 e17 e18 e19 e20 e25 e37 e56 e57 e64 e65 e66 u0 u1 u2 u3 u4 u5
 rw [e25] at u0
 obtain ⟨⟨ua2_14, ua2_17⟩, ua2_20⟩ := e37.1 u2
 clear u2 e25 e37
 rw [u1] at e20
 rw [u3] at e7
 have k0_4 : fac [z7, z10, z4] = 0 → z4 = 0 := fac_zero (by simp)
 have k0_7 : fac [z7, z10, z4] = 0 → z7 = 0 := fac_zero (by simp)
 have k0_10 : fac [z7, z10, z4] = 0 → z10 = 0 := fac_zero (by simp)
 generalize fac [z7, z10, z4] = g0 at *
 have nx0 := u0
 have iw0 : g0 ≠ 0 := fun hg => nx0 ⟨⟨(k0_7 hg), (k0_10 hg)⟩, (k0_4 hg)⟩
 obtain ⟨iv0, ih0⟩ : ∃ i, g0 * i = 1 := ⟨g0⁻¹, Rat.mul_inv_cancel _ iw0⟩
 clear k0_4 k0_7 k0_10
 subst_vars; grind
theorem moveFixed_f58 {z0 z1 z2 z3 z4 z5 z6 z7 z8 z9 z10 z11 z12 z13 z14 z15 z16 z17 z18 z19 z20 z25 z31 z32 z37 : Rat} : z6 = 1 → z7 = z0 - z6 → z8 = 0 → z9 = z1 - z8 → z10 = z2 - z8 → z11 = z3 - z6 → z12 = z10 * z5 → z13 = z4 * z11 → z14 = z12 - z13 → z15 = z4 * z9 → z16 = z7 * z5 → z17 = z15 - z16 → z18 = z7 * z11 → z19 = z10 * z9 → z20 = z18 - z19 → (z25 = 0 ↔ ((z7 = 0 ∧ z10 = 0) ∧ z4 = 0)) → z31 = z2 * z1 → z32 = z18 - z31 → (z37 = 0 ↔ ((z14 = 0 ∧ z17 = 0) ∧ z20 = 0)) → (¬ (z25 = 0)) → (z20 = 0) → (z37 = 0) → (¬ (z7 = 0)) → z32 = 0 := by
 intro e6 e7 e8 e9 e10 e11 e12 e13 e14 e15 e16 e17 e18 e19 e20 e25 e31 e32 e37 u0 u1 u2 u3
 rw [e25] at u0
 obtain ⟨⟨ua2_14, ua2_17⟩, ua2_20⟩ := e37.1 u2
 clear u2 e25 e37
 rw [u1] at e20
 subst_vars; grind
theorem moveFixed_f59 {z0 z1 z2 z3 z4 z5 z6 z7 z8 z9 z10 z11 z12 z13 z14 z15 z16 z17 z18 z19 z20 z25 z37 : Rat} : z6 = 1 → z7 = z0 - z6 → z8 = 0 → z9 = z1 - z8 → z10 = z2 - z8 → z11 = z3 - z6 → z12 = z10 * z5 → z13 = z4 * z11 → z14 = z12 - z13 → z15 = z4 * z9 → z16 = z7 * z5 → z17 = z15 - z16 → z18 = z7 * z11 → z19 = z10 * z9 → z20 = z18 - z19 → (z25 = 0 ↔ ((z7 = 0 ∧ z10 = 0) ∧ z4 = 0)) → (z37 = 0 ↔ ((z14 = 0 ∧ z17 = 0) ∧ z20 = 0)) → (¬ (z25 = 0)) → (z20 = 0) → (z37 = 0) → (¬ (z7 = 0)) → (z1 = 0) → z11 = 0 := by
 intro e6 e7 e8 e9 e10 e11 e12 e13 e14 e15 e16 e17 e18 e19 e20 e25 e37 u0 u1 u2 u3 u4
 rw [e25] at u0
 obtain ⟨⟨ua2_14, ua2_17⟩, ua2_20⟩ := e37.1 u2
 clear u2 e25 e37
 rw [u1] at e20
 subst_vars; grind
theorem moveFixed_f60 {z0 z1 z2 z3 z4 z5 z6 z7 z8 z9 z10 z11 z12 z13 z14 z15 z16 z17 z18 z19 z20 z25 z37 : Rat} : z6 = 1 → z7 = z0 - z6 → z8 = 0 → z9 = z1 - z8 → z10 = z2 - z8 → z11 = z3 - z6 → z12 = z10 * z5 → z13 = z4 * z11 → z14 = z12 - z13 → z15 = z4 * z9 → z16 = z7 * z5 → z17 = z15 - z16 → z18 = z7 * z11 → z19 = z10 * z9 → z20 = z18 - z19 → (z25 = 0 ↔ ((z7 = 0 ∧ z10 = 0) ∧ z4 = 0)) → (z37 = 0 ↔ ((z14 = 0 ∧ z17 = 0) ∧ z20 = 0)) → (¬ (z25 = 0)) → (z20 = 0) → (z37 = 0) → (¬ (z7 = 0)) → (z1 = 0) → z5 = 0 := by
 intro e6 e7 e8 e9 e10 e11 e12 e13 e14 e15 e16 e17 e18 e19 e20 e25 e37 u0 u1 u2 u3 u4
 rw [e25] at u0
 obtain ⟨⟨ua2_14, ua2_17⟩, ua2_20⟩ := e37.1 u2
 clear u2 e25 e37
 rw [u1] at e20
 subst_vars; grind
theorem moveFixed_f61 {z0 z1 z2 z3 z4 z5 z6 z7 z8 z9 z10 z11 z12 z13 z14 z15 z16 z17 z18 z19 z20 z25 z37 z55 : Rat} : z6 = 1 → z7 = z0 - z6 → z8 = 0 → z9 = z1 - z8 → z10 = z2 - z8 → z11 = z3 - z6 → z12 = z10 * z5 → z13 = z4 * z11 → z14 = z12 - z13 → z15 = z4 * z9 → z16 = z7 * z5 → z17 = z15 - z16 → z18 = z7 * z11 → z19 = z10 * z9 → z20 = z18 - z19 → (z25 = 0 ↔ ((z7 = 0 ∧ z10 = 0) ∧ z4 = 0)) → (z37 = 0 ↔ ((z14 = 0 ∧ z17 = 0) ∧ z20 = 0)) → z55 = z7 * fac [z7, z10, z4] → (¬ (z25 = 0)) → (z20 = 0) → (z37 = 0) → (¬ (z7 = 0)) → (z1 = 0) → ¬ (z55 = 0) := by
 intro e6 e7 e8 e9 e10 e11 e12 e13 e14 e15 e16 e17 e18 e19 e20 e25 e37 e55 u0 u1 u2 u3 u4
 rw [e25] at u0
 obtain ⟨⟨ua2_14, ua2_17⟩, ua2_20⟩ := e37.1 u2
 clear u2 e25 e37
 rw [u1] at e20
 have k0_4 : fac [z7, z10, z4] = 0 → z4 = 0 := fac_zero (by simp)
 have k0_7 : fac [z7, z10, z4] = 0 → z7 = 0 := fac_zero (by simp)
 have k0_10 : fac [z7, z10, z4] = 0 → z10 = 0 := fac_zero (by simp)
 generalize fac [z7, z10, z4] = g0 at *
 have nx0 := u0
 have iw0 : g0 ≠ 0 := fun hg => nx0 ⟨⟨(k0_7 hg), (k0_10 hg)⟩, (k0_4 hg)⟩
 obtain ⟨iv0, ih0⟩ : ∃ i, g0 * i = 1 := ⟨g0⁻¹, Rat.mul_inv_cancel _ iw0⟩
 clear k0_4 k0_7 k0_10
 subst_vars; grind
theorem moveFixed_f62 {z0 z1 z2 z3 z4 z5 z6 z7 z8 z9 z10 z11 z12 z13 z14 z15 z16 z17 z18 z19 z20 z25 z37 z55 z56 z58 z59 z60 : Rat} : z6 = 1 → z7 = z0 - z6 → z8 = 0 → z9 = z1 - z8 → z10 = z2 - z8 → z11 = z3 - z6 → z12 = z10 * z5 → z13 = z4 * z11 → z14 = z12 - z13 → z15 = z4 * z9 → z16 = z7 * z5 → z17 = z15 - z16 → z18 = z7 * z11 → z19 = z10 * z9 → z20 = z18 - z19 → (z25 = 0 ↔ ((z7 = 0 ∧ z10 = 0) ∧ z4 = 0)) → (z37 = 0 ↔ ((z14 = 0 ∧ z17 = 0) ∧ z20 = 0)) → z55 = z7 * fac [z7, z10, z4] → z56 = z10 * fac [z7, z10, z4] → z58 = z2 * z55 → z59 = z7 * z56 → z60 = z58 - z59 → (¬ (z25 = 0)) → (z20 = 0) → (z37 = 0) → (¬ (z7 = 0)) → (z1 = 0) → z60 = 0 := by
 intro e6 e7 e8 e9 e10 e11 e12 e13 e14 e15 e16 e17 e18 e19 e20 e25 e37 e55 e56 e58 e59 e60 u0 u1 u2 u3 u4
 rw [e25] at u0
 obtain ⟨⟨ua2_14, ua2_17⟩, ua2_20⟩ := e37.1 u2
 clear u2 e25 e37
 rw [u1] at e20
 have k0_4 : fac [z7, z10, z4] = 0 → z4 = 0 := fac_zero (by simp)
 have k0_7 : fac [z7, z10, z4] = 0 → z7 = 0 := fac_zero (by simp)
 have k0_10 : fac [z7, z10, z4] = 0 → z10 = 0 := fac_zero (by simp)
 generalize fac [z7, z10, z4] = g0 at *
 have nx0 := u0
 have iw0 : g0 ≠ 0 := fun hg => nx0 ⟨⟨(k0_7 hg), (k0_10 hg)⟩, (k0_4 hg)⟩
 obtain ⟨iv0, ih0⟩ : ∃ i, g0 * i = 1 := ⟨g0⁻¹, Rat.mul_inv_cancel _ iw0⟩
 clear k0_4 k0_7 k0_10
 subst_vars; grind
theorem moveFixed_f63 {z0 z1 z2 z3 z4 z5 z6 z7 z8 z9 z10 z11 z12 z13 z14 z15 z16 z17 z18 z19 z20 z25 z37 z55 z57 z61 z62 z63 : Rat} : z6 = 1 → z7 = z0 - z6 → z8 = 0 → z9 = z1 - z8 → z10 = z2 - z8 → z11 = z3 - z6 → z12 = z10 * z5 → z13 = z4 * z11 → z14 = z12 - z13 → z15 = z4 * z9 → z16 = z7 * z5 → z17 = z15 - z16 → z18 = z7 * z11 → z19 = z10 * z9 → z20 = z18 - z19 → (z25 = 0 ↔ ((z7 = 0 ∧ z10 = 0) ∧ z4 = 0)) → (z37 = 0 ↔ ((z14 = 0 ∧ z17 = 0) ∧ z20 = 0)) → z55 = z7 * fac [z7, z10, z4] → z57 = z4 * fac [z7, z10, z4] → z61 = z4 * z55 → z62 = z7 * z57 → z63 = z61 - z62 → (¬ (z25 = 0)) → (z20 = 0) → (z37 = 0) → (¬ (z7 = 0)) → (z1 = 0) → z63 = 0 := by
 intro e6 e7 e8 e9 e10 e11 e12 e13 e14 e15 e16 e17 e18 e19 e20 e25 e37 e55 e57 e61 e62 e63 u0 u1 u2 u3 u4
 rw [e25] at u0
 obtain ⟨⟨ua2_14, ua2_17⟩, ua2_20⟩ := e37.1 u2
 clear u2 e25 e37
 rw [u1] at e20
 have k0_4 : fac [z7, z10, z4] = 0 → z4 = 0 := fac_zero (by simp)
 have k0_7 : fac [z7, z10, z4] = 0 → z7 = 0 := fac_zero (by simp)
 have k0_10 : fac [z7, z10, z4] = 0 → z10 = 0 := fac_zero (by simp)
 generalize fac [z7, z10, z4] = g0 at *
 have nx0 := u0
 have iw0 : g0 ≠ 0 := fun hg => nx0 ⟨⟨(k0_7 hg), (k0_10 hg)⟩, (k0_4 hg)⟩
 obtain ⟨iv0, ih0⟩ : ∃ i, g0 * i = 1 := ⟨g0⁻¹, Rat.mul_inv_cancel _ iw0⟩
 clear k0_4 k0_7 k0_10
 subst_vars; grind
theorem moveFixed_f64 {z0 z1 z2 z3 z4 z5 z6 z7 z8 z9 z10 z11 z12 z13 z14 z15 z16 z17 z18 z19 z20 z25 z37 z56 z57 z64 z65 z66 : Rat} : z6 = 1 → z7 = z0 - z6 → z8 = 0 → z9 = z1 - z8 → z10 = z2 - z8 → z11 = z3 - z6 → z12 = z10 * z5 → z13 = z4 * z11 → z14 = z12 - z13 → z15 = z4 * z9 → z16 = z7 * z5 → z17 = z15 - z16 → z18 = z7 * z11 → z19 = z10 * z9 → z20 = z18 - z19 → (z25 = 0 ↔ ((z7 = 0 ∧ z10 = 0) ∧ z4 = 0)) → (z37 = 0 ↔ ((z14 = 0 ∧ z17 = 0) ∧ z20 = 0)) → z56 = z10 * fac [z7, z10, z4] → z57 = z4 * fac [z7, z10, z4] → z64 = z4 * z56 → z65 = z2 * z57 → z66 = z64 - z65 → (¬ (z25 = 0)) → (z20 = 0) → (z37 = 0) → (¬ (z7 = 0)) → (z1 = 0) → z66 = 0 := by
 intro e6 e7 e8 e9 e10 e11 e12 e13 e14 e15 e16 e17 e18 e19 e20 e25 e37 e56 e57 e64 e65 e66 u0 u1 u2 u3 u4
 rw [e25] at u0
 obtain ⟨⟨ua2_14, ua2_17⟩, ua2_20⟩ := e37.1 u2
 clear u2 e25 e37
 rw [u1] at e20
 have k0_4 : fac [z7, z10, z4] = 0 → z4 = 0 := fac_zero (by simp)
 have k0_7 : fac [z7, z10, z4] = 0 → z7 = 0 := fac_zero (by simp)
 have k0_10 : fac [z7, z10, z4] = 0 → z10 = 0 := fac_zero (by simp)
 generalize fac [z7, z10, z4] = g0 at *
 have nx0 := u0
 have iw0 : g0 ≠ 0 := fun hg => nx0 ⟨⟨(k0_7 hg), (k0_10 hg)⟩, (k0_4 hg)⟩
 obtain ⟨iv0, ih0⟩ : ∃ i, g0 * i = 1 := ⟨g0⁻¹, Rat.mul_inv_cancel _ iw0⟩
 clear k0_4 k0_7 k0_10
 subst_vars; grind
theorem moveFixed_f65 {z0 z1 z2 z3 z4 z5 z6 z7 z8 z9 z10 z11 z12 z13 z14 z15 z16 z17 z18 z19 z20 z25 z31 z37 z72 : Rat} : z6 = 1 → z7 = z0 - z6 → z8 = 0 → z9 = z1 - z8 → z10 = z2 - z8 → z11 = z3 - z6 → z12 = z10 * z5 → z13 = z4 * z11 → z14 = z12 - z13 → z15 = z4 * z9 → z16 = z7 * z5 → z17 = z15 - z16 → z18 = z7 * z11 → z19 = z10 * z9 → z20 = z18 - z19 → (z25 = 0 ↔ ((z7 = 0 ∧ z10 = 0) ∧ z4 = 0)) → z31 = z2 * z1 → (z37 = 0 ↔ ((z14 = 0 ∧ z17 = 0) ∧ z20 = 0)) → z72 = z31 - z18 → (¬ (z25 = 0)) → (z20 = 0) → (z37 = 0) → (¬ (z7 = 0)) → (¬ (z1 = 0)) → z72 = 0 := by
 intro e6 e7 e8 e9 e10 e11 e12 e13 e14 e15 e16 e17 e18 e19 e20 e25 e31 e37 e72 u0 u1 u2 u3 u4
 rw [e25] at u0
 obtain ⟨⟨ua2_14, ua2_17⟩, ua2_20⟩ := e37.1 u2
 clear u2 e25 e37
 rw [u1] at e20
 subst_vars; grind
theorem moveFixed_f66 {z0 z1 z2 z3 z4 z5 z6 z7 z8 z9 z10 z11 z12 z13 z14 z15 z16 z17 z18 z19 z20 z25 z37 z73 z74 : Rat} : z6 = 1 → z7 = z0 - z6 → z8 = 0 → z9 = z1 - z8 → z10 = z2 - z8 → z11 = z3 - z6 → z12 = z10 * z5 → z13 = z4 * z11 → z14 = z12 - z13 → z15 = z4 * z9 → z16 = z7 * z5 → z17 = z15 - z16 → z18 = z7 * z11 → z19 = z10 * z9 → z20 = z18 - z19 → (z25 = 0 ↔ ((z7 = 0 ∧ z10 = 0) ∧ z4 = 0)) → (z37 = 0 ↔ ((z14 = 0 ∧ z17 = 0) ∧ z20 = 0)) → z73 = z4 * z1 → z74 = z73 - z16 → (¬ (z25 = 0)) → (z20 = 0) → (z37 = 0) → (¬ (z7 = 0)) → (¬ (z1 = 0)) → z74 = 0 := by
 intro e6 e7 e8 e9 e10 e11 e12 e13 e14 e15 e16 e17 e18 e19 e20 e25 e37 e73 e74 u0 u1 u2 u3 u4
 rw [e25] at u0
 obtain ⟨⟨ua2_14, ua2_17⟩, ua2_20⟩ := e37.1 u2
 clear u2 e25 e37
 rw [u1] at e20
 subst_vars; grind
theorem moveFixed_f67 {z0 z1 z2 z3 z4 z5 z6 z7 z8 z9 z10 z11 z12 z13 z14 z15 z16 z17 z18 z19 z20 z25 z37 z75 z76 : Rat} : z6 = 1 → z7 = z0 - z6 → z8 = 0 → z9 = z1 - z8 → z10 = z2 - z8 → z11 = z3 - z6 → z12 = z10 * z5 → z13 = z4 * z11 → z14 = z12 - z13 → z15 = z4 * z9 → z16 = z7 * z5 → z17 = z15 - z16 → z18 = z7 * z11 → z19 = z10 * z9 → z20 = z18 - z19 → (z25 = 0 ↔ ((z7 = 0 ∧ z10 = 0) ∧ z4 = 0)) → (z37 = 0 ↔ ((z14 = 0 ∧ z17 = 0) ∧ z20 = 0)) → z75 = z2 * z5 → z76 = z13 - z75 → (¬ (z25 = 0)) → (z20 = 0) → (z37 = 0) → (¬ (z7 = 0)) → (¬ (z1 = 0)) → z76 = 0 := by
 intro e6 e7 e8 e9 e10 e11 e12 e13 e14 e15 e16 e17 e18 e19 e20 e25 e37 e75 e76 u0 u1 u2 u3 u4
 rw [e25] at u0
 obtain ⟨⟨ua2_14, ua2_17⟩, ua2_20⟩ := e37.1 u2
 clear u2 e25 e37
 rw [u1] at e20
 subst_vars; grind
theorem moveFixed_f68 {z0 z1 z2 z3 z4 z5 z6 z7 z8 z9 z10 z11 z12 z13 z14 z15 z16 z17 z18 z19 z20 z25 z37 z55 : Rat} : z6 = 1 → z7 = z0 - z6 → z8 = 0 → z9 = z1 - z8 → z10 = z2 - z8 → z11 = z3 - z6 → z12 = z10 * z5 → z13 = z4 * z11 → z14 = z12 - z13 → z15 = z4 * z9 → z16 = z7 * z5 → z17 = z15 - z16 → z18 = z7 * z11 → z19 = z10 * z9 → z20 = z18 - z19 → (z25 = 0 ↔ ((z7 = 0 ∧ z10 = 0) ∧ z4 = 0)) → (z37 = 0 ↔ ((z14 = 0 ∧ z17 = 0) ∧ z20 = 0)) → z55 = z7 * fac [z7, z10, z4] → (¬ (z25 = 0)) → (z20 = 0) → (z37 = 0) → (¬ (z7 = 0)) → (¬ (z1 = 0)) → ¬ (z55 = 0) := by
 intro e6 e7 e8 e9 e10 e11 e12 e13 e14 e15 e16 e17 e18 e19 e20 e25 e37 e55 u0 u1 u2 u3 u4
 rw [e25] at u0
 obtain ⟨⟨ua2_14, ua2_17⟩, ua2_20⟩ := e37.1 u2
 clear u2 e25 e37
 rw [u1] at e20
 have k0_4 : fac [z7, z10, z4] = 0 → z4 = 0 := fac_zero (by simp)
 have k0_7 : fac [z7, z10, z4] = 0 → z7 = 0 := fac_zero (by simp)
 have k0_10 : fac [z7, z10, z4] = 0 → z10 = 0 := fac_zero (by simp)
 generalize fac [z7, z10, z4] = g0 at *
 have nx0 := u0
 have iw0 : g0 ≠ 0 := fun hg => nx0 ⟨⟨(k0_7 hg), (k0_10 hg)⟩, (k0_4 hg)⟩
 obtain ⟨iv0, ih0⟩ : ∃ i, g0 * i = 1 := ⟨g0⁻¹, Rat.mul_inv_cancel _ iw0⟩
 clear k0_4 k0_7 k0_10
 subst_vars; grind
theorem moveFixed_f69 {z0 z1 z2 z3 z4 z5 z6 z7 z8 z9 z10 z11 z12 z13 z14 z15 z16 z17 z18 z19 z20 z25 z37 z55 z56 z58 z59 z60 : Rat} : z6 = 1 → z7 = z0 - z6 → z8 = 0 → z9 = z1 - z8 → z10 = z2 - z8 → z11 = z3 - z6 → z12 = z10 * z5 → z13 = z4 * z11 → z14 = z12 - z13 → z15 = z4 * z9 → z16 = z7 * z5 → z17 = z15 - z16 → z18 = z7 * z11 → z19 = z10 * z9 → z20 = z18 - z19 → (z25 = 0 ↔ ((z7 = 0 ∧ z10 = 0) ∧ z4 = 0)) → (z37 = 0 ↔ ((z14 = 0 ∧ z17 = 0) ∧ z20 = 0)) → z55 = z7 * fac [z7, z10, z4] → z56 = z10 * fac [z7, z10, z4] → z58 = z2 * z55 → z59 = z7 * z56 → z60 = z58 - z59 → (¬ (z25 = 0)) → (z20 = 0) → (z37 = 0) → (¬ (z7 = 0)) → (¬ (z1 = 0)) → z60 = 0 := by
 intro e6 e7 e8 e9 e10 e11 e12 e13 e14 e15 e16 e17 e18 e19 e20 e25 e37 e55 e56 e58 e59 e60 u0 u1 u2 u3 u4
 rw [e25] at u0
 obtain ⟨⟨ua2_14, ua2_17⟩, ua2_20⟩ := e37.1 u2
 clear u2 e25 e37
 rw [u1] at e20
 have k0_4 : fac [z7, z10, z4] = 0 → z4 = 0 := fac_zero (by simp)
 have k0_7 : fac [z7, z10, z4] = 0 → z7 = 0 := fac_zero (by simp)
 have k0_10 : fac [z7, z10, z4] = 0 → z10 = 0 := fac_zero (by simp)
 generalize fac [z7, z10, z4] = g0 at *
 have nx0 := u0
 have iw0 : g0 ≠ 0 := fun hg => nx0 ⟨⟨(k0_7 hg), (k0_10 hg)⟩, (k0_4 hg)⟩
 obtain ⟨iv0, ih0⟩ : ∃ i, g0 * i = 1 := ⟨g0⁻¹, Rat.mul_inv_cancel _ iw0⟩
 clear k0_4 k0_7 k0_10
 subst_vars; grind
theorem moveFixed_f70 {z0 z1 z2 z3 z4 z5 z6 z7 z8 z9 z10 z11 z12 z13 z14 z15 z16 z17 z18 z19 z20 z25 z37 z55 z57 z61 z62 z63 : Rat} : z6 = 1 → z7 = z0 - z6 → z8 = 0 → z9 = z1 - z8 → z10 = z2 - z8 → z11 = z3 - z6 → z12 = z10 * z5 → z13 = z4 * z11 → z14 = z12 - z13 → z15 = z4 * z9 → z16 = z7 * z5 → z17 = z15 - z16 → z18 = z7 * z11 → z19 = z10 * z9 → z20 = z18 - z19 → (z25 = 0 ↔ ((z7 = 0 ∧ z10 = 0) ∧ z4 = 0)) → (z37 = 0 ↔ ((z14 = 0 ∧ z17 = 0) ∧ z20 = 0)) → z55 = z7 * fac [z7, z10, z4] → z57 = z4 * fac [z7, z10, z4] → z61 = z4 * z55 → z62 = z7 * z57 → z63 = z61 - z62 → (¬ (z25 = 0)) → (z20 = 0) → (z37 = 0) → (¬ (z7 = 0)) → (¬ (z1 = 0)) → z63 = 0 := by
 intro e6 e7 e8 e9 e10 e11 e12 e13 e14 e15 e16 e17 e18 e19 e20 e25 e37 e55 e57 e61 e62 e63 u0 u1 u2 u3 u4
 rw [e25] at u0
 obtain ⟨⟨ua2_14, ua2_17⟩, ua2_20⟩ := e37.1 u2
 clear u2 e25 e37
 rw [u1] at e20
 have k0_4 : fac [z7, z10, z4] = 0 → z4 = 0 := fac_zero (by simp)
 have k0_7 : fac [z7, z10, z4] = 0 → z7 = 0 := fac_zero (by simp)
 have k0_10 : fac [z7, z10, z4] = 0 → z10 = 0 := fac_zero (by simp)
 generalize fac [z7, z10, z4] = g0 at *
 have nx0 := u0
 have iw0 : g0 ≠ 0 := fun hg => nx0 ⟨⟨(k0_7 hg), (k0_10 hg)⟩, (k0_4 hg)⟩
 obtain ⟨iv0, ih0⟩ : ∃ i, g0 * i = 1 := ⟨g0⁻¹, Rat.mul_inv_cancel _ iw0⟩
 clear k0_4 k0_7 k0_10
 subst_vars; grind
theorem moveFixed_f71 {z0 z1 z2 z3 z4 z5 z6 z7 z8 z9 z10 z11 z12 z13 z14 z15 z16 z17 z18 z19 z20 z25 z37 z56 z57 z64 z65 z66 : Rat} : z6 = 1 → z7 = z0 - z6 → z8 = 0 → z9 = z1 - z8 → z10 = z2 - z8 → z11 = z3 - z6 → z12 = z10 * z5 → z13 = z4 * z11 → z14 = z12 - z13 → z15 = z4 * z9 → z16 = z7 * z5 → z17 = z15 - z16 → z18 = z7 * z11 → z19 = z10 * z9 → z20 = z18 - z19 → (z25 = 0 ↔ ((z7 = 0 ∧ z10 = 0) ∧ z4 = 0)) → (z37 = 0 ↔ ((z14 = 0 ∧ z17 = 0) ∧ z20 = 0)) → z56 = z10 * fac [z7, z10, z4] → z57 = z4 * fac [z7, z10, z4] → z64 = z4 * z56 → z65 = z2 * z57 → z66 = z64 - z65 → (¬ (z25 = 0)) → (z20 = 0) → (z37 = 0) → (¬ (z7 = 0)) → (¬ (z1 = 0)) → z66 = 0 := by
 intro e6 e7 e8 e9 e10 e11 e12 e13 e14 e15 e16 e17 e18 e19 e20 e25 e37 e56 e57 e64 e65 e66 u0 u1 u2 u3 u4
 rw [e25] at u0
 obtain ⟨⟨ua2_14, ua2_17⟩, ua2_20⟩ := e37.1 u2
 clear u2 e25 e37
 rw [u1] at e20
 have k0_4 : fac [z7, z10, z4] = 0 → z4 = 0 := fac_zero (by simp)
 have k0_7 : fac [z7, z10, z4] = 0 → z7 = 0 := fac_zero (by simp)
 have k0_10 : fac [z7, z10, z4] = 0 → z10 = 0 := fac_zero (by simp)
 generalize fac [z7, z10, z4] = g0 at *
 have nx0 := u0
 have iw0 : g0 ≠ 0 := fun hg => nx0 ⟨⟨(k0_7 hg), (k0_10 hg)⟩, (k0_4 hg)⟩
 obtain ⟨iv0, ih0⟩ : ∃ i, g0 * i = 1 := ⟨g0⁻¹, Rat.mul_inv_cancel _ iw0⟩
 clear k0_4 k0_7 k0_10
 subst_vars; grind
theorem moveFixed_f72 {z0 z1 z2 z3 z4 z5 z6 z7 z8 z9 z10 z11 z12 z13 z14 z15 z16 z17 z18 z19 z20 z25 z31 z32 z37 : Rat} : z6 = 1 → z7 = z0 - z6 → z8 = 0 → z9 = z1 - z8 → z10 = z2 - z8 → z11 = z3 - z6 → z12 = z10 * z5 → z13 = z4 * z11 → z14 = z12 - z13 → z15 = z4 * z9 → z16 = z7 * z5 → z17 = z15 - z16 → z18 = z7 * z11 → z19 = z10 * z9 → z20 = z18 - z19 → (z25 = 0 ↔ ((z7 = 0 ∧ z10 = 0) ∧ z4 = 0)) → z31 = z2 * z1 → z32 = z18 - z31 → (z37 = 0 ↔ ((z14 = 0 ∧ z17 = 0) ∧ z20 = 0)) → (¬ (z25 = 0)) → (z20 = 0) → (¬ (z37 = 0)) → z32 = 0 := by
 intro e6 e7 e8 e9 e10 e11 e12 e13 e14 e15 e16 e17 e18 e19 e20 e25 e31 e32 e37 u0 u1 u2
 rw [e25] at u0
 rw [e37] at u2
 clear  e25 e37
 rw [u1] at e20
 subst_vars; grind
theorem moveFixed_f73 {z0 z1 z2 z3 z4 z5 z6 z7 z8 z9 z10 z11 z12 z13 z14 z15 z16 z17 z18 z19 z20 z25 z37 : Rat} : z6 = 1 → z7 = z0 - z6 → z8 = 0 → z9 = z1 - z8 → z10 = z2 - z8 → z11 = z3 - z6 → z12 = z10 * z5 → z13 = z4 * z11 → z14 = z12 - z13 → z15 = z4 * z9 → z16 = z7 * z5 → z17 = z15 - z16 → z18 = z7 * z11 → z19 = z10 * z9 → z20 = z18 - z19 → (z25 = 0 ↔ ((z7 = 0 ∧ z10 = 0) ∧ z4 = 0)) → (z37 = 0 ↔ ((z14 = 0 ∧ z17 = 0) ∧ z20 = 0)) → (¬ (z25 = 0)) → (z20 = 0) → (¬ (z37 = 0)) → (z7 = 0) → (z2 = 0) → (z1 = 0) → ¬ (z11 = 0) := by
 intro e6 e7 e8 e9 e10 e11 e12 e13 e14 e15 e16 e17 e18 e19 e20 e25 e37 u0 u1 u2 u3 u4 u5
 rw [e25] at u0
 rw [e37] at u2
 clear  e25 e37
 rw [u1] at e20
 rw [u3] at e7
 subst_vars; grind
theorem moveFixed_f74 {z0 z1 z2 z3 z4 z5 z6 z7 z8 z9 z10 z11 z12 z13 z14 z15 z16 z17 z18 z19 z20 z25 z37 : Rat} : z6 = 1 → z7 = z0 - z6 → z8 = 0 → z9 = z1 - z8 → z10 = z2 - z8 → z11 = z3 - z6 → z12 = z10 * z5 → z13 = z4 * z11 → z14 = z12 - z13 → z15 = z4 * z9 → z16 = z7 * z5 → z17 = z15 - z16 → z18 = z7 * z11 → z19 = z10 * z9 → z20 = z18 - z19 → (z25 = 0 ↔ ((z7 = 0 ∧ z10 = 0) ∧ z4 = 0)) → (z37 = 0 ↔ ((z14 = 0 ∧ z17 = 0) ∧ z20 = 0)) → (¬ (z25 = 0)) → (z20 = 0) → (¬ (z37 = 0)) → (z7 = 0) → (z2 = 0) → (z1 = 0) → ¬ (z4 = 0) := by
 intro e6 e7 e8 e9 e10 e11 e12 e13 e14 e15 e16 e17 e18 e19 e20 e25 e37 u0 u1 u2 u3 u4 u5
 rw [e25] at u0
 rw [e37] at u2
 clear  e25 e37
 rw [u1] at e20
 rw [u3] at e7
 subst_vars; grind
theorem moveFixed_f75 {z0 z1 z2 z3 z4 z5 z6 z7 z8 z9 z10 z11 z12 z13 z14 z15 z16 z17 z18 z19 z20 z25 z37 : Rat} : z6 = 1 → z7 = z0 - z6 → z8 = 0 → z9 = z1 - z8 → z10 = z2 - z8 → z11 = z3 - z6 → z12 = z10 * z5 → z13 = z4 * z11 → z14 = z12 - z13 → z15 = z4 * z9 → z16 = z7 * z5 → z17 = z15 - z16 → z18 = z7 * z11 → z19 = z10 * z9 → z20 = z18 - z19 → (z25 = 0 ↔ ((z7 = 0 ∧ z10 = 0) ∧ z4 = 0)) → (z37 = 0 ↔ ((z14 = 0 ∧ z17 = 0) ∧ z20 = 0)) → (¬ (z25 = 0)) → (z20 = 0) → (¬ (z37 = 0)) → (z7 = 0) → (z2 = 0) → (¬ (z1 = 0)) → ¬ (z4 = 0) := by
 intro e6 e7 e8 e9 e10 e11 e12 e13 e14 e15 e16 e17 e18 e19 e20 e25 e37 u0 u1 u2 u3 u4 u5
 rw [e25] at u0
 rw [e37] at u2
 clear  e25 e37
 rw [u1] at e20
 rw [u3] at e7
 subst_vars; grind
theorem moveFixed_f76 {z0 z1 z2 z3 z4 z5 z6 z7 z8 z9 z10 z11 z12 z13 z14 z15 z16 z17 z18 z19 z20 z25 z37 : Rat} : z6 = 1 → z7 = z0 - z6 → z8 = 0 → z9 = z1 - z8 → z10 = z2 - z8 → z11 = z3 - z6 → z12 = z10 * z5 → z13 = z4 * z11 → z14 = z12 - z13 → z15 = z4 * z9 → z16 = z7 * z5 → z17 = z15 - z16 → z18 = z7 * z11 → z19 = z10 * z9 → z20 = z18 - z19 → (z25 = 0 ↔ ((z7 = 0 ∧ z10 = 0) ∧ z4 = 0)) → (z37 = 0 ↔ ((z14 = 0 ∧ z17 = 0) ∧ z20 = 0)) → (¬ (z25 = 0)) → (z20 = 0) → (¬ (z37 = 0)) → (z7 = 0) → (¬ (z2 = 0)) → z1 = 0 := by
 intro e6 e7 e8 e9 e10 e11 e12 e13 e14 e15 e16 e17 e18 e19 e20 e25 e37 u0 u1 u2 u3 u4
 rw [e25] at u0
 rw [e37] at u2
 clear  e25 e37
 rw [u1] at e20
 rw [u3] at e7
 subst_vars; grind
theorem moveFixed_f77 {z0 z1 z2 z3 z4 z5 z6 z7 z8 z9 z10 z11 z12 z13 z14 z15 z16 z17 z18 z19 z20 z25 z37 : Rat} : z6 = 1 → z7 = z0 - z6 → z8 = 0 → z9 = z1 - z8 → z10 = z2 - z8 → z11 = z3 - z6 → z12 = z10 * z5 → z13 = z4 * z11 → z14 = z12 - z13 → z15 = z4 * z9 → z16 = z7 * z5 → z17 = z15 - z16 → z18 = z7 * z11 → z19 = z10 * z9 → z20 = z18 - z19 → (z25 = 0 ↔ ((z7 = 0 ∧ z10 = 0) ∧ z4 = 0)) → (z37 = 0 ↔ ((z14 = 0 ∧ z17 = 0) ∧ z20 = 0)) → (¬ (z25 = 0)) → (z20 = 0) → (¬ (z37 = 0)) → (z7 = 0) → (¬ (z2 = 0)) → (z11 = 0) → ¬ (z5 = 0) := by
 intro e6 e7 e8 e9 e10 e11 e12 e13 e14 e15 e16 e17 e18 e19 e20 e25 e37 u0 u1 u2 u3 u4 u5
 rw [e25] at u0
 rw [e37] at u2
 clear  e25 e37
 rw [u1] at e20
 rw [u3] at e7
 rw [u5] at e11
 subst_vars; grind
theorem moveFixed_f78 {z0 z1 z2 z3 z4 z5 z6 z7 z8 z9 z10 z11 z12 z13 z14 z15 z16 z17 z18 z19 z20 z25 z31 z37 z72 z73 z74 z75 z76 z81 : Rat} : z6 = 1 → z7 = z0 - z6 → z8 = 0 → z9 = z1 - z8 → z10 = z2 - z8 → z11 = z3 - z6 → z12 = z10 * z5 → z13 = z4 * z11 → z14 = z12 - z13 → z15 = z4 * z9 → z16 = z7 * z5 → z17 = z15 - z16 → z18 = z7 * z11 → z19 = z10 * z9 → z20 = z18 - z19 → (z25 = 0 ↔ ((z7 = 0 ∧ z10 = 0) ∧ z4 = 0)) → z31 = z2 * z1 → (z37 = 0 ↔ ((z14 = 0 ∧ z17 = 0) ∧ z20 = 0)) → z72 = z31 - z18 → z73 = z4 * z1 → z74 = z73 - z16 → z75 = z2 * z5 → z76 = z13 - z75 → (z81 = 0 ↔ ((z72 = 0 ∧ z74 = 0) ∧ z76 = 0)) → (¬ (z25 = 0)) → (z20 = 0) → (¬ (z37 = 0)) → (z7 = 0) → (¬ (z2 = 0)) → (¬ (z11 = 0)) → ¬ (z81 = 0) := by
 intro e6 e7 e8 e9 e10 e11 e12 e13 e14 e15 e16 e17 e18 e19 e20 e25 e31 e37 e72 e73 e74 e75 e76 e81 u0 u1 u2 u3 u4 u5
 rw [e25] at u0
 rw [e37] at u2
 rw [e81]
 clear  e25 e37 e81
 rw [u1] at e20
 rw [u3] at e7
 rintro ⟨⟨ub72, ub74⟩, ub76⟩
 subst_vars; grind
theorem moveFixed_f79 {z0 z1 z2 z3 z4 z5 z6 z7 z8 z9 z10 z11 z12 z13 z14 z15 z16 z17 z18 z19 z20 z25 z37 : Rat} : z6 = 1 → z7 = z0 - z6 → z8 = 0 → z9 = z1 - z8 → z10 = z2 - z8 → z11 = z3 - z6 → z12 = z10 * z5 → z13 = z4 * z11 → z14 = z12 - z13 → z15 = z4 * z9 → z16 = z7 * z5 → z17 = z15 - z16 → z18 = z7 * z11 → z19 = z10 * z9 → z20 = z18 - z19 → (z25 = 0 ↔ ((z7 = 0 ∧ z10 = 0) ∧ z4 = 0)) → (z37 = 0 ↔ ((z14 = 0 ∧ z17 = 0) ∧ z20 = 0)) → (¬ (z25 = 0)) → (z20 = 0) → (¬ (z37 = 0)) → (¬ (z7 = 0)) → (z1 = 0) → z11 = 0 := by
 intro e6 e7 e8 e9 e10 e11 e12 e13 e14 e15 e16 e17 e18 e19 e20 e25 e37 u0 u1 u2 u3 u4
 rw [e25] at u0
 rw [e37] at u2
 clear  e25 e37
 rw [u1] at e20
 subst_vars; grind
theorem moveFixed_f80 {z0 z1 z2 z3 z4 z5 z6 z7 z8 z9 z10 z11 z12 z13 z14 z15 z16 z17 z18 z19 z20 z25 z37 : Rat} : z6 = 1 → z7 = z0 - z6 → z8 = 0 → z9 = z1 - z8 → z10 = z2 - z8 → z11 = z3 - z6 → z12 = z10 * z5 → z13 = z4 * z11 → z14 = z12 - z13 → z15 = z4 * z9 → z16 = z7 * z5 → z17 = z15 - z16 → z18 = z7 * z11 → z19 = z10 * z9 → z20 = z18 - z19 → (z25 = 0 ↔ ((z7 = 0 ∧ z10 = 0) ∧ z4 = 0)) → (z37 = 0 ↔ ((z14 = 0 ∧ z17 = 0) ∧ z20 = 0)) → (¬ (z25 = 0)) → (z20 = 0) → (¬ (z37 = 0)) → (¬ (z7 = 0)) → (z1 = 0) → ¬ (z5 = 0) := by
 intro e6 e7 e8 e9 e10 e11 e12 e13 e14 e15 e16 e17 e18 e19 e20 e25 e37 u0 u1 u2 u3 u4
 rw [e25] at u0
 rw [e37] at u2
 clear  e25 e37
 rw [u1] at e20
 subst_vars; grind
theorem moveFixed_f81 {z0 z1 z2 z3 z4 z5 z6 z7 z8 z9 z10 z11 z12 z13 z14 z15 z16 z17 z18 z19 z20 z25 z31 z37 z72 z73 z74 z75 z76 z81 : Rat} : z6 = 1 → z7 = z0 - z6 → z8 = 0 → z9 = z1 - z8 → z10 = z2 - z8 → z11 = z3 - z6 → z12 = z10 * z5 → z13 = z4 * z11 → z14 = z12 - z13 → z15 = z4 * z9 → z16 = z7 * z5 → z17 = z15 - z16 → z18 = z7 * z11 → z19 = z10 * z9 → z20 = z18 - z19 → (z25 = 0 ↔ ((z7 = 0 ∧ z10 = 0) ∧ z4 = 0)) → z31 = z2 * z1 → (z37 = 0 ↔ ((z14 = 0 ∧ z17 = 0) ∧ z20 = 0)) → z72 = z31 - z18 → z73 = z4 * z1 → z74 = z73 - z16 → z75 = z2 * z5 → z76 = z13 - z75 → (z81 = 0 ↔ ((z72 = 0 ∧ z74 = 0) ∧ z76 = 0)) → (¬ (z25 = 0)) → (z20 = 0) → (¬ (z37 = 0)) → (¬ (z7 = 0)) → (¬ (z1 = 0)) → ¬ (z81 = 0) := by
 intro e6 e7 e8 e9 e10 e11 e12 e13 e14 e15 e16 e17 e18 e19 e20 e25 e31 e37 e72 e73 e74 e75 e76 e81 u0 u1 u2 u3 u4
 rw [e25] at u0
 rw [e37] at u2
 rw [e81]
 clear  e25 e37 e81
 rw [u1] at e20
 rintro ⟨⟨ub72, ub74⟩, ub76⟩
 subst_vars; grind
theorem moveFixed_f82 {z0 z1 z2 z3 z4 z6 z7 z8 z9 z10 z11 z18 z19 z20 z25 z31 z32 : Rat} : z6 = 1 → z7 = z0 - z6 → z8 = 0 → z9 = z1 - z8 → z10 = z2 - z8 → z11 = z3 - z6 → z18 = z7 * z11 → z19 = z10 * z9 → z20 = z18 - z19 → (z25 = 0 ↔ ((z7 = 0 ∧ z10 = 0) ∧ z4 = 0)) → z31 = z2 * z1 → z32 = z18 - z31 → (¬ (z25 = 0)) → (¬ (z20 = 0)) → ¬ (z32 = 0) := by
 intro e6 e7 e8 e9 e10 e11 e18 e19 e20 e25 e31 e32 u0 u1
 rw [e25] at u0
 clear  e25
 subst_vars; grind
theorem moveFixed_f83 {z0 z1 z2 z3 z4 z5 z6 z7 z8 z9 z10 z11 z12 z13 z14 z15 z16 z17 z18 z19 z20 z25 z82 z83 z84 z85 z86 z87 : Rat} : z6 = 1 → z7 = z0 - z6 → z8 = 0 → z9 = z1 - z8 → z10 = z2 - z8 → z11 = z3 - z6 → z12 = z10 * z5 → z13 = z4 * z11 → z14 = z12 - z13 → z15 = z4 * z9 → z16 = z7 * z5 → z17 = z15 - z16 → z18 = z7 * z11 → z19 = z10 * z9 → z20 = z18 - z19 → (z25 = 0 ↔ ((z7 = 0 ∧ z10 = 0) ∧ z4 = 0)) → z82 = z14 / z20 → z83 = z17 / z20 → z84 = z0 * z82 → z85 = z2 * z83 → z86 = z84 + z85 → z87 = z86 + z4 → (¬ (z25 = 0)) → (¬ (z20 = 0)) → z87 = z82 := by
 intro e6 e7 e8 e9 e10 e11 e12 e13 e14 e15 e16 e17 e18 e19 e20 e25 e82 e83 e84 e85 e86 e87 u0 u1
 rw [e25] at u0
 clear  e25
 have n20 : z20 ≠ 0 := by grind
 subst_vars; grind
theorem moveFixed_f84 {z0 z1 z2 z3 z4 z5 z6 z7 z8 z9 z10 z11 z12 z13 z14 z15 z16 z17 z18 z19 z20 z25 z82 z83 z88 z89 z90 z91 : Rat} : z6 = 1 → z7 = z0 - z6 → z8 = 0 → z9 = z1 - z8 → z10 = z2 - z8 → z11 = z3 - z6 → z12 = z10 * z5 → z13 = z4 * z11 → z14 = z12 - z13 → z15 = z4 * z9 → z16 = z7 * z5 → z17 = z15 - z16 → z18 = z7 * z11 → z19 = z10 * z9 → z20 = z18 - z19 → (z25 = 0 ↔ ((z7 = 0 ∧ z10 = 0) ∧ z4 = 0)) → z82 = z14 / z20 → z83 = z17 / z20 → z88 = z1 * z82 → z89 = z3 * z83 → z90 = z88 + z89 → z91 = z90 + z5 → (¬ (z25 = 0)) → (¬ (z20 = 0)) → z91 = z83 := by
 intro e6 e7 e8 e9 e10 e11 e12 e13 e14 e15 e16 e17 e18 e19 e20 e25 e82 e83 e88 e89 e90 e91 u0 u1
 rw [e25] at u0
 clear  e25
 have n20 : z20 ≠ 0 := by grind
 subst_vars; grind
theorem moveFixed_r0 : (callC (sx Tryz.prog moveFixed_N [(0, 25, 0, 1), (0, 20, 0, 1), (0, 30, 0, 1), (0, 32, 0, 1), (0, 7, 0, 1), (0, 2, 0, 1), (0, 1, 0, 1), (0, 11, 0, 1), (0, 4, 0, 1), (0, 5, 0, 1)] [(208, [.inr (3, 4, 0, 0, 0)]), (77, [])] moveFixed_L moveFixed_C moveFixed_Z (prC [50])) [(151, 60), (156, 62)] 6 [] 14 [(false, [(true, [.inr (2, 0, 0, 0, 0), .inr (2, 1, 0, 0, 0), .inr (2, 2, 0, 0, 0), .inr (2, 3, 0, 0, 0), .inr (2, 4, 0, 0, 0), .inr (2, 5, 0, 0, 0)])])] [] 0).map (·.1) = some (kB true) := by kernel_rfl
theorem moveFixed_r1 : (callC (sx Tryz.prog moveFixed_N [(0, 25, 0, 1), (0, 20, 0, 1), (0, 30, 0, 0), (0, 37, 0, 1), (0, 9, 0, 1), (0, 11, 0, 1), (0, 32, 0, 1), (0, 7, 0, 1), (0, 2, 0, 1), (0, 1, 0, 1), (0, 4, 0, 1), (0, 5, 0, 0)] [(208, [.inr (3, 4, 0, 0, 0)]), (77, [])] moveFixed_L moveFixed_C moveFixed_Z (prC [50])) [(151, 60), (156, 62)] 6 [] 14 [(false, [(true, [.inr (2, 0, 0, 0, 0), .inr (2, 1, 0, 0, 0), .inr (2, 2, 0, 0, 0), .inr (2, 3, 0, 0, 0), .inr (2, 4, 0, 0, 0), .inr (2, 5, 0, 0, 0)])])] [] 0).map (·.1) = some (kB true) := by kernel_rfl
theorem moveFixed_r2 : (callC (sx Tryz.prog moveFixed_N [(0, 25, 0, 1), (0, 20, 0, 1), (0, 30, 0, 0), (0, 37, 0, 1), (0, 9, 0, 1), (0, 11, 0, 0), (0, 32, 0, 1), (0, 7, 0, 1), (0, 2, 0, 1), (0, 1, 0, 1), (0, 4, 0, 1), (0, 38, 0, 1), (0, 39, 0, 0), (0, 54, 0, 1)] [(208, [.inr (3, 4, 0, 0, 0)]), (77, [])] moveFixed_L moveFixed_C moveFixed_Z (prC [50])) [(151, 60), (156, 62)] 6 [] 14 [(false, [(true, [.inr (2, 0, 0, 0, 0), .inr (2, 1, 0, 0, 0), .inr (2, 2, 0, 0, 0), .inr (2, 3, 0, 0, 0), .inr (2, 4, 0, 0, 0), .inr (2, 5, 0, 0, 0)])])] [] 0).map (·.1) = some (kB true) := by kernel_rfl
theorem moveFixed_r3 : (callC (sx Tryz.prog moveFixed_N [(0, 25, 0, 1), (0, 20, 0, 1), (0, 30, 0, 0), (0, 37, 0, 1), (0, 9, 0, 0), (0, 32, 0, 1), (0, 7, 0, 1), (0, 2, 0, 1), (0, 1, 0, 0), (0, 4, 0, 1), (0, 38, 0, 0), (0, 54, 0, 1)] [(208, [.inr (3, 4, 0, 0, 0)]), (77, [])] moveFixed_L moveFixed_C moveFixed_Z (prC [50])) [(151, 60), (156, 62)] 6 [] 14 [(false, [(true, [.inr (2, 0, 0, 0, 0), .inr (2, 1, 0, 0, 0), .inr (2, 2, 0, 0, 0), .inr (2, 3, 0, 0, 0), .inr (2, 4, 0, 0, 0), .inr (2, 5, 0, 0, 0)])])] [] 0).map (·.1) = some (kB true) := by kernel_rfl
theorem moveFixed_r4 : (callC (sx Tryz.prog moveFixed_N [(0, 25, 0, 0), (0, 20, 0, 1), (0, 37, 0, 1), (0, 7, 0, 1), (0, 10, 0, 1), (0, 32, 0, 1), (0, 2, 0, 1), (0, 1, 0, 1), (0, 11, 0, 1), (0, 4, 0, 0)] [(208, [.inr (3, 4, 0, 0, 0)]), (77, [])] moveFixed_L moveFixed_C moveFixed_Z (prC [50])) [(151, 60), (156, 62)] 6 [] 14 [(false, [(true, [.inr (2, 0, 0, 0, 0), .inr (2, 1, 0, 0, 0), .inr (2, 2, 0, 0, 0), .inr (2, 3, 0, 0, 0), .inr (2, 4, 0, 0, 0), .inr (2, 5, 0, 0, 0)])])] [] 0).map (·.1) = some (kB true) := by kernel_rfl
theorem moveFixed_r5 : (callC (sx Tryz.prog moveFixed_N [(0, 25, 0, 0), (0, 20, 0, 1), (0, 37, 0, 1), (0, 7, 0, 1), (0, 10, 0, 0), (0, 32, 0, 1), (0, 2, 0, 0), (0, 1, 0, 1), (0, 11, 0, 1), (0, 5, 0, 1), (0, 55, 0, 1), (0, 56, 0, 0), (0, 71, 0, 1)] [(208, [.inr (3, 4, 0, 0, 0)]), (77, [])] moveFixed_L moveFixed_C moveFixed_Z (prC [50])) [(151, 60), (156, 62)] 6 [] 14 [(false, [(true, [.inr (2, 0, 0, 0, 0), .inr (2, 1, 0, 0, 0), .inr (2, 2, 0, 0, 0), .inr (2, 3, 0, 0, 0), .inr (2, 4, 0, 0, 0), .inr (2, 5, 0, 0, 0)])])] [] 0).map (·.1) = some (kB true) := by kernel_rfl
theorem moveFixed_r6 : (callC (sx Tryz.prog moveFixed_N [(0, 25, 0, 0), (0, 20, 0, 1), (0, 37, 0, 1), (0, 7, 0, 1), (0, 10, 0, 0), (0, 32, 0, 1), (0, 2, 0, 0), (0, 1, 0, 1), (0, 11, 0, 0), (0, 81, 0, 1), (0, 55, 0, 1), (0, 56, 0, 0), (0, 71, 0, 1)] [(208, [.inr (3, 4, 0, 0, 0)]), (77, [])] moveFixed_L moveFixed_C moveFixed_Z (prC [50])) [(151, 60), (156, 62)] 6 [] 14 [(false, [(true, [.inr (2, 0, 0, 0, 0), .inr (2, 1, 0, 0, 0), .inr (2, 2, 0, 0, 0), .inr (2, 3, 0, 0, 0), .inr (2, 4, 0, 0, 0), .inr (2, 5, 0, 0, 0)])])] [] 0).map (·.1) = some (kB true) := by kernel_rfl
theorem moveFixed_r7 : (callC (sx Tryz.prog moveFixed_N [(0, 25, 0, 0), (0, 20, 0, 1), (0, 37, 0, 1), (0, 7, 0, 0), (0, 32, 0, 1), (0, 1, 0, 1), (0, 11, 0, 1), (0, 5, 0, 1), (0, 55, 0, 0), (0, 71, 0, 1)] [(208, [.inr (3, 4, 0, 0, 0)]), (77, [])] moveFixed_L moveFixed_C moveFixed_Z (prC [50])) [(151, 60), (156, 62)] 6 [] 14 [(false, [(true, [.inr (2, 0, 0, 0, 0), .inr (2, 1, 0, 0, 0), .inr (2, 2, 0, 0, 0), .inr (2, 3, 0, 0, 0), .inr (2, 4, 0, 0, 0), .inr (2, 5, 0, 0, 0)])])] [] 0).map (·.1) = some (kB true) := by kernel_rfl
theorem moveFixed_r8 : (callC (sx Tryz.prog moveFixed_N [(0, 25, 0, 0), (0, 20, 0, 1), (0, 37, 0, 1), (0, 7, 0, 0), (0, 32, 0, 1), (0, 1, 0, 0), (0, 81, 0, 1), (0, 55, 0, 0), (0, 71, 0, 1)] [(208, [.inr (3, 4, 0, 0, 0)]), (77, [])] moveFixed_L moveFixed_C moveFixed_Z (prC [50])) [(151, 60), (156, 62)] 6 [] 14 [(false, [(true, [.inr (2, 0, 0, 0, 0), .inr (2, 1, 0, 0, 0), .inr (2, 2, 0, 0, 0), .inr (2, 3, 0, 0, 0), .inr (2, 4, 0, 0, 0), .inr (2, 5, 0, 0, 0)])])] [] 0).map (·.1) = some (kB true) := by kernel_rfl
theorem moveFixed_r9 : (callC (sx Tryz.prog moveFixed_N [(0, 25, 0, 0), (0, 20, 0, 1), (0, 37, 0, 0), (0, 32, 0, 1), (0, 7, 0, 1), (0, 2, 0, 1), (0, 1, 0, 1), (0, 11, 0, 0), (0, 4, 0, 0)] [(208, [.inr (3, 4, 0, 0, 0)]), (77, [])] moveFixed_L moveFixed_C moveFixed_Z (prC [50])) [(151, 60), (156, 62)] 6 [] 14 [(false, [(true, [.inr (2, 0, 0, 0, 0), .inr (2, 1, 0, 0, 0), .inr (2, 2, 0, 0, 0), .inr (2, 3, 0, 0, 0), .inr (2, 4, 0, 0, 0), .inr (2, 5, 0, 0, 0)])])] [] 0).map (·.1) = some (kB true) := by kernel_rfl
theorem moveFixed_r10 : (callC (sx Tryz.prog moveFixed_N [(0, 25, 0, 0), (0, 20, 0, 1), (0, 37, 0, 0), (0, 32, 0, 1), (0, 7, 0, 1), (0, 2, 0, 1), (0, 1, 0, 0), (0, 4, 0, 0)] [(208, [.inr (3, 4, 0, 0, 0)]), (77, [])] moveFixed_L moveFixed_C moveFixed_Z (prC [50])) [(151, 60), (156, 62)] 6 [] 14 [(false, [(true, [.inr (2, 0, 0, 0, 0), .inr (2, 1, 0, 0, 0), .inr (2, 2, 0, 0, 0), .inr (2, 3, 0, 0, 0), .inr (2, 4, 0, 0, 0), .inr (2, 5, 0, 0, 0)])])] [] 0).map (·.1) = some (kB true) := by kernel_rfl
theorem moveFixed_r11 : (callC (sx Tryz.prog moveFixed_N [(0, 25, 0, 0), (0, 20, 0, 1), (0, 37, 0, 0), (0, 32, 0, 1), (0, 7, 0, 1), (0, 2, 0, 0), (0, 1, 0, 1), (0, 11, 0, 1), (0, 5, 0, 0)] [(208, [.inr (3, 4, 0, 0, 0)]), (77, [])] moveFixed_L moveFixed_C moveFixed_Z (prC [50])) [(151, 60), (156, 62)] 6 [] 14 [(false, [(true, [.inr (2, 0, 0, 0, 0), .inr (2, 1, 0, 0, 0), .inr (2, 2, 0, 0, 0), .inr (2, 3, 0, 0, 0), .inr (2, 4, 0, 0, 0), .inr (2, 5, 0, 0, 0)])])] [] 0).map (·.1) = some (kB true) := by kernel_rfl
theorem moveFixed_r12 : (callC (sx Tryz.prog moveFixed_N [(0, 25, 0, 0), (0, 20, 0, 1), (0, 37, 0, 0), (0, 32, 0, 1), (0, 7, 0, 1), (0, 2, 0, 0), (0, 1, 0, 1), (0, 11, 0, 0), (0, 81, 0, 0)] [(208, [.inr (3, 4, 0, 0, 0)]), (77, [])] moveFixed_L moveFixed_C moveFixed_Z (prC [50])) [(151, 60), (156, 62)] 6 [] 14 [(false, [(true, [.inr (2, 0, 0, 0, 0), .inr (2, 1, 0, 0, 0), .inr (2, 2, 0, 0, 0), .inr (2, 3, 0, 0, 0), .inr (2, 4, 0, 0, 0), .inr (2, 5, 0, 0, 0)])])] [] 0).map (·.1) = some (kB true) := by kernel_rfl
theorem moveFixed_r13 : (callC (sx Tryz.prog moveFixed_N [(0, 25, 0, 0), (0, 20, 0, 1), (0, 37, 0, 0), (0, 32, 0, 1), (0, 7, 0, 0), (0, 1, 0, 1), (0, 11, 0, 1), (0, 5, 0, 0)] [(208, [.inr (3, 4, 0, 0, 0)]), (77, [])] moveFixed_L moveFixed_C moveFixed_Z (prC [50])) [(151, 60), (156, 62)] 6 [] 14 [(false, [(true, [.inr (2, 0, 0, 0, 0), .inr (2, 1, 0, 0, 0), .inr (2, 2, 0, 0, 0), .inr (2, 3, 0, 0, 0), .inr (2, 4, 0, 0, 0), .inr (2, 5, 0, 0, 0)])])] [] 0).map (·.1) = some (kB true) := by kernel_rfl
theorem moveFixed_r14 : (callC (sx Tryz.prog moveFixed_N [(0, 25, 0, 0), (0, 20, 0, 1), (0, 37, 0, 0), (0, 32, 0, 1), (0, 7, 0, 0), (0, 1, 0, 0), (0, 81, 0, 0)] [(208, [.inr (3, 4, 0, 0, 0)]), (77, [])] moveFixed_L moveFixed_C moveFixed_Z (prC [50])) [(151, 60), (156, 62)] 6 [] 14 [(false, [(true, [.inr (2, 0, 0, 0, 0), .inr (2, 1, 0, 0, 0), .inr (2, 2, 0, 0, 0), .inr (2, 3, 0, 0, 0), .inr (2, 4, 0, 0, 0), .inr (2, 5, 0, 0, 0)])])] [] 0).map (·.1) = some (kB true) := by kernel_rfl
theorem moveFixed_r15 : (callC (sx Tryz.prog moveFixed_N [(0, 25, 0, 0), (0, 20, 0, 0), (0, 32, 0, 0), (3, 87, 82, 1), (3, 91, 83, 1)] [(208, [.inr (3, 4, 0, 0, 0)]), (77, [])] moveFixed_L moveFixed_C moveFixed_Z (prC [50])) [(151, 60), (156, 62)] 6 [] 14 [(false, [(true, [.inr (2, 0, 0, 0, 0), .inr (2, 1, 0, 0, 0), .inr (2, 2, 0, 0, 0), .inr (2, 3, 0, 0, 0), .inr (2, 4, 0, 0, 0), .inr (2, 5, 0, 0, 0)])])] [] 0).map (·.1) = some (kB true) := by kernel_rfl
theorem moveFixed_An {a b : Prop} (x : a) (y : b) : a ∧ b := ⟨x, y⟩
theorem moveFixed_leaf {H : List (Nat × Nat × Nat × Nat)} {K : List (FuncId × List AC)} {k : Nat} {q : Nat → Rat} {σ : Nat → ByteArray} {args : List AV} {vs : List Value} {w : World} (hr : (callC (sx Tryz.prog moveFixed_N H K moveFixed_L moveFixed_C moveFixed_Z (prC [50])) [(151, 60), (156, 62)] k [] 14 args [] 0).map (·.1) = some (kB true)) (hσ : ∀ j, (σ j).size ≤ 1048576) (hq : ∀ (a : Nat) nd, moveFixed_N[a]? = some nd → q a = valN σ q nd) (h0 : ∀ a, moveFixed_N.length ≤ a → q a = 0) (hH : hAll q H) (hp : PreS w) (hA : ∀ K, A2 (avOn (cOn (evS q σ) K (fun _ => none) w)) args vs) : Calls Tryz.prog 14 vs.toArray w fun e w' => Below w.heap.size w w' ∧ e = .returned (.bool true) :=
 run_toldC' k (hy_ofW hσ moveFixed_wf moveFixed_sz moveFixed_lt moveFixed_cn hq h0 hH) (by simp [closed_moved]) (by kernel_rfl) hr hp (hA K)
theorem moveFixed_walk {w : World} {aa ab ac ad ae af : ByteArray} (saa : aa.size ≤ 1048576) (sab : ab.size ≤ 1048576) (sac : ac.size ≤ 1048576) (sad : ad.size ≤ 1048576) (sae : ae.size ≤ 1048576) (saf : af.size ≤ 1048576) (tab : Tab w) (mx : MaxL w) :
  Calls Tryz.prog 14 #[.agg #[.string aa, .string ab, .string ac, .string ad, .string ae, .string af]] w fun e w' => Below w.heap.size w w' ∧ e = .returned (.bool true) := by
 have hσ : ∀ j, (sgOf [aa, ab, ac, ad, ae, af] j).size ≤ 1048576 := sgOf_size (by simp [saa, sab, sac, sad, sae, saf])
 obtain ⟨q, hq, h0⟩ := nodes_exist (sgOf [aa, ab, ac, ad, ae, af]) moveFixed_N moveFixed_wf
 have hA : ∀ K, A2 (avOn (cOn (evS q (sgOf [aa, ab, ac, ad, ae, af])) K (fun _ => none) w)) [(false, [(true, [.inr (2, 0, 0, 0, 0), .inr (2, 1, 0, 0, 0), .inr (2, 2, 0, 0, 0), .inr (2, 3, 0, 0, 0), .inr (2, 4, 0, 0, 0), .inr (2, 5, 0, 0, 0)])])] [.agg #[.string aa, .string ab, .string ac, .string ad, .string ae, .string af]] := fun K => ⟨⟨⟨[.string aa, .string ab, .string ac, .string ad, .string ae, .string af], rfl, rfl, rfl, rfl, rfl, rfl, rfl, trivial⟩, trivial⟩, trivial⟩
 have E6 : q 6 = 1 := (hq 6 _ rfl).trans moveFixed_c6
 have E7 : q 7 = q 0 - q 6 := hq 7 _ rfl
 have E8 : q 8 = 0 := (hq 8 _ rfl).trans moveFixed_c8
 have E9 : q 9 = q 1 - q 8 := hq 9 _ rfl
 have E10 : q 10 = q 2 - q 8 := hq 10 _ rfl
 have E11 : q 11 = q 3 - q 6 := hq 11 _ rfl
 have E12 : q 12 = q 10 * q 5 := hq 12 _ rfl
 have E13 : q 13 = q 4 * q 11 := hq 13 _ rfl
 have E14 : q 14 = q 12 - q 13 := hq 14 _ rfl
 have E15 : q 15 = q 4 * q 9 := hq 15 _ rfl
 have E16 : q 16 = q 7 * q 5 := hq 16 _ rfl
 have E17 : q 17 = q 15 - q 16 := hq 17 _ rfl
 have E18 : q 18 = q 7 * q 11 := hq 18 _ rfl
 have E19 : q 19 = q 10 * q 9 := hq 19 _ rfl
 have E20 : q 20 = q 18 - q 19 := hq 20 _ rfl
 have E31 : q 31 = q 2 * q 1 := hq 31 _ rfl
 have E32 : q 32 = q 18 - q 31 := hq 32 _ rfl
 have E38 : q 38 = q 9 * fac [q 9, q 11, q 5] := hq 38 _ rfl
 have E39 : q 39 = q 11 * fac [q 9, q 11, q 5] := hq 39 _ rfl
 have E40 : q 40 = q 5 * fac [q 9, q 11, q 5] := hq 40 _ rfl
 have E41 : q 41 = q 11 * q 38 := hq 41 _ rfl
 have E42 : q 42 = q 1 * q 39 := hq 42 _ rfl
 have E43 : q 43 = q 41 - q 42 := hq 43 _ rfl
 have E44 : q 44 = q 5 * q 38 := hq 44 _ rfl
 have E45 : q 45 = q 1 * q 40 := hq 45 _ rfl
 have E46 : q 46 = q 44 - q 45 := hq 46 _ rfl
 have E47 : q 47 = q 5 * q 39 := hq 47 _ rfl
 have E48 : q 48 = q 11 * q 40 := hq 48 _ rfl
 have E49 : q 49 = q 47 - q 48 := hq 49 _ rfl
 have E55 : q 55 = q 7 * fac [q 7, q 10, q 4] := hq 55 _ rfl
 have E56 : q 56 = q 10 * fac [q 7, q 10, q 4] := hq 56 _ rfl
 have E57 : q 57 = q 4 * fac [q 7, q 10, q 4] := hq 57 _ rfl
 have E58 : q 58 = q 2 * q 55 := hq 58 _ rfl
 have E59 : q 59 = q 7 * q 56 := hq 59 _ rfl
 have E60 : q 60 = q 58 - q 59 := hq 60 _ rfl
 have E61 : q 61 = q 4 * q 55 := hq 61 _ rfl
 have E62 : q 62 = q 7 * q 57 := hq 62 _ rfl
 have E63 : q 63 = q 61 - q 62 := hq 63 _ rfl
 have E64 : q 64 = q 4 * q 56 := hq 64 _ rfl
 have E65 : q 65 = q 2 * q 57 := hq 65 _ rfl
 have E66 : q 66 = q 64 - q 65 := hq 66 _ rfl
 have E72 : q 72 = q 31 - q 18 := hq 72 _ rfl
 have E73 : q 73 = q 4 * q 1 := hq 73 _ rfl
 have E74 : q 74 = q 73 - q 16 := hq 74 _ rfl
 have E75 : q 75 = q 2 * q 5 := hq 75 _ rfl
 have E76 : q 76 = q 13 - q 75 := hq 76 _ rfl
 have E82 : q 82 = q 14 / q 20 := hq 82 _ rfl
 have E83 : q 83 = q 17 / q 20 := hq 83 _ rfl
 have E84 : q 84 = q 0 * q 82 := hq 84 _ rfl
 have E85 : q 85 = q 2 * q 83 := hq 85 _ rfl
 have E86 : q 86 = q 84 + q 85 := hq 86 _ rfl
 have E87 : q 87 = q 86 + q 4 := hq 87 _ rfl
 have E88 : q 88 = q 1 * q 82 := hq 88 _ rfl
 have E89 : q 89 = q 3 * q 83 := hq 89 _ rfl
 have E90 : q 90 = q 88 + q 89 := hq 90 _ rfl
 have E91 : q 91 = q 90 + q 5 := hq 91 _ rfl
 have Q25 : q 25 = 0 ↔ ((q 7 = 0 ∧ q 10 = 0) ∧ q 4 = 0) := (sq_next (sq_next (sq_first (hq 21 _ rfl)) (hq 22 _ rfl) (hq 23 _ rfl)) (hq 24 _ rfl) (hq 25 _ rfl)).2
 have Q30 : q 30 = 0 ↔ ((q 9 = 0 ∧ q 11 = 0) ∧ q 5 = 0) := (sq_next (sq_next (sq_first (hq 26 _ rfl)) (hq 27 _ rfl) (hq 28 _ rfl)) (hq 29 _ rfl) (hq 30 _ rfl)).2
 have Q37 : q 37 = 0 ↔ ((q 14 = 0 ∧ q 17 = 0) ∧ q 20 = 0) := (sq_next (sq_next (sq_first (hq 33 _ rfl)) (hq 34 _ rfl) (hq 35 _ rfl)) (hq 36 _ rfl) (hq 37 _ rfl)).2
 have Q54 : q 54 = 0 ↔ ((q 43 = 0 ∧ q 46 = 0) ∧ q 49 = 0) := (sq_next (sq_next (sq_first (hq 50 _ rfl)) (hq 51 _ rfl) (hq 52 _ rfl)) (hq 53 _ rfl) (hq 54 _ rfl)).2
 have Q71 : q 71 = 0 ↔ ((q 60 = 0 ∧ q 63 = 0) ∧ q 66 = 0) := (sq_next (sq_next (sq_first (hq 67 _ rfl)) (hq 68 _ rfl) (hq 69 _ rfl)) (hq 70 _ rfl) (hq 71 _ rfl)).2
 have Q81 : q 81 = 0 ↔ ((q 72 = 0 ∧ q 74 = 0) ∧ q 76 = 0) := (sq_next (sq_next (sq_first (hq 77 _ rfl)) (hq 78 _ rfl) (hq 79 _ rfl)) (hq 80 _ rfl) (hq 81 _ rfl)).2
 by_cases b25 : q 25 = 0
 ·
  have b20 : q 20 = 0 := moveFixed_f0 E6 E7 E8 E9 E10 E11 E18 E19 E20 Q25 b25
  by_cases b30 : q 30 = 0
  ·
   have b32 : q 32 = 0 := moveFixed_f1 E6 E7 E8 E9 E10 E11 E18 Q25 Q30 E31 E32 b25 b30
   have b7 : q 7 = 0 := moveFixed_f2 E6 E7 E8 E9 E10 E11 Q25 Q30 b25 b30
   have b2 : q 2 = 0 := moveFixed_f3 E6 E7 E8 E9 E10 E11 Q25 Q30 b25 b30
   have b1 : q 1 = 0 := moveFixed_f4 E6 E7 E8 E9 E10 E11 Q25 Q30 b25 b30
   have b11 : q 11 = 0 := moveFixed_f5 E6 E7 E8 E9 E10 E11 Q25 Q30 b25 b30
   have b4 : q 4 = 0 := moveFixed_f6 E6 E7 E8 E9 E10 E11 Q25 Q30 b25 b30
   have b5 : q 5 = 0 := moveFixed_f7 E6 E7 E8 E9 E10 E11 Q25 Q30 b25 b30
   exact moveFixed_leaf moveFixed_r0 hσ hq h0 (moveFixed_An (hT b25) (moveFixed_An (hT b20) (moveFixed_An (hT b30) (moveFixed_An (hT b32) (moveFixed_An (hT b7) (moveFixed_An (hT b2) (moveFixed_An (hT b1) (moveFixed_An (hT b11) (moveFixed_An (hT b4) (moveFixed_An (hT b5) trivial)))))))))) ⟨tab, mx⟩ hA
  ·
   have b37 : q 37 = 0 := Q37.2 ⟨⟨moveFixed_f8 E6 E7 E8 E9 E10 E11 E12 E13 E14 Q25 Q30 b25 b30, moveFixed_f9 E6 E7 E8 E9 E10 E11 E15 E16 E17 Q25 Q30 b25 b30⟩, moveFixed_f10 E6 E7 E8 E9 E10 E11 E18 E19 E20 Q25 Q30 b25 b30⟩
   by_cases b9 : q 9 = 0
   ·
    by_cases b11 : q 11 = 0
    ·
     have b32 : q 32 = 0 := moveFixed_f11 E6 E7 E8 E9 E10 E11 E18 Q25 Q30 E31 E32 b25 b30 b9 b11
     have b7 : q 7 = 0 := moveFixed_f12 E6 E7 E8 E9 E10 E11 Q25 Q30 b25 b30 b9 b11
     have b2 : q 2 = 0 := moveFixed_f13 E6 E7 E8 E9 E10 E11 Q25 Q30 b25 b30 b9 b11
     have b1 : q 1 = 0 := moveFixed_f14 E6 E7 E8 E9 E10 E11 Q25 Q30 b25 b30 b9 b11
     have b4 : q 4 = 0 := moveFixed_f15 E6 E7 E8 E9 E10 E11 Q25 Q30 b25 b30 b9 b11
     have b5 : ¬ (q 5 = 0) := moveFixed_f16 E6 E7 E8 E9 E10 E11 Q25 Q30 b25 b30 b9 b11
     exact moveFixed_leaf moveFixed_r1 hσ hq h0 (moveFixed_An (hT b25) (moveFixed_An (hT b20) (moveFixed_An (hF b30) (moveFixed_An (hT b37) (moveFixed_An (hT b9) (moveFixed_An (hT b11) (moveFixed_An (hT b32) (moveFixed_An (hT b7) (moveFixed_An (hT b2) (moveFixed_An (hT b1) (moveFixed_An (hT b4) (moveFixed_An (hF b5) trivial)))))))))))) ⟨tab, mx⟩ hA
    ·
     have b32 : q 32 = 0 := moveFixed_f17 E6 E7 E8 E9 E10 E11 E18 Q25 Q30 E31 E32 b25 b30 b9 b11
     have b7 : q 7 = 0 := moveFixed_f18 E6 E7 E8 E9 E10 E11 Q25 Q30 b25 b30 b9 b11
     have b2 : q 2 = 0 := moveFixed_f19 E6 E7 E8 E9 E10 E11 Q25 Q30 b25 b30 b9 b11
     have b1 : q 1 = 0 := moveFixed_f20 E6 E7 E8 E9 E10 E11 Q25 Q30 b25 b30 b9 b11
     have b4 : q 4 = 0 := moveFixed_f21 E6 E7 E8 E9 E10 E11 Q25 Q30 b25 b30 b9 b11
     have b38 : q 38 = 0 := moveFixed_f22 E6 E7 E8 E9 E10 E11 Q25 Q30 E38 b25 b30 b9 b11
     have b39 : ¬ (q 39 = 0) := moveFixed_f23 E6 E7 E8 E9 E10 E11 Q25 Q30 E39 b25 b30 b9 b11
     have b54 : q 54 = 0 := Q54.2 ⟨⟨moveFixed_f24 E6 E7 E8 E9 E10 E11 Q25 Q30 E38 E39 E41 E42 E43 b25 b30 b9 b11, moveFixed_f25 E6 E7 E8 E9 E10 E11 Q25 Q30 E38 E40 E44 E45 E46 b25 b30 b9 b11⟩, moveFixed_f26 E6 E7 E8 E9 E10 E11 Q25 Q30 E39 E40 E47 E48 E49 b25 b30 b9 b11⟩
     exact moveFixed_leaf moveFixed_r2 hσ hq h0 (moveFixed_An (hT b25) (moveFixed_An (hT b20) (moveFixed_An (hF b30) (moveFixed_An (hT b37) (moveFixed_An (hT b9) (moveFixed_An (hF b11) (moveFixed_An (hT b32) (moveFixed_An (hT b7) (moveFixed_An (hT b2) (moveFixed_An (hT b1) (moveFixed_An (hT b4) (moveFixed_An (hT b38) (moveFixed_An (hF b39) (moveFixed_An (hT b54) trivial)))))))))))))) ⟨tab, mx⟩ hA
   ·
    have b32 : q 32 = 0 := moveFixed_f27 E6 E7 E8 E9 E10 E11 E18 Q25 Q30 E31 E32 b25 b30 b9
    have b7 : q 7 = 0 := moveFixed_f28 E6 E7 E8 E9 E10 E11 Q25 Q30 b25 b30 b9
    have b2 : q 2 = 0 := moveFixed_f29 E6 E7 E8 E9 E10 E11 Q25 Q30 b25 b30 b9
    have b1 : ¬ (q 1 = 0) := moveFixed_f30 E6 E7 E8 E9 E10 E11 Q25 Q30 b25 b30 b9
    have b4 : q 4 = 0 := moveFixed_f31 E6 E7 E8 E9 E10 E11 Q25 Q30 b25 b30 b9
    have b38 : ¬ (q 38 = 0) := moveFixed_f32 E6 E7 E8 E9 E10 E11 Q25 Q30 E38 b25 b30 b9
    have b54 : q 54 = 0 := Q54.2 ⟨⟨moveFixed_f33 E6 E7 E8 E9 E10 E11 Q25 Q30 E38 E39 E41 E42 E43 b25 b30 b9, moveFixed_f34 E6 E7 E8 E9 E10 E11 Q25 Q30 E38 E40 E44 E45 E46 b25 b30 b9⟩, moveFixed_f35 E6 E7 E8 E9 E10 E11 Q25 Q30 E39 E40 E47 E48 E49 b25 b30 b9⟩
    exact moveFixed_leaf moveFixed_r3 hσ hq h0 (moveFixed_An (hT b25) (moveFixed_An (hT b20) (moveFixed_An (hF b30) (moveFixed_An (hT b37) (moveFixed_An (hF b9) (moveFixed_An (hT b32) (moveFixed_An (hT b7) (moveFixed_An (hT b2) (moveFixed_An (hF b1) (moveFixed_An (hT b4) (moveFixed_An (hF b38) (moveFixed_An (hT b54) trivial)))))))))))) ⟨tab, mx⟩ hA
 ·
  by_cases b20 : q 20 = 0
  ·
   by_cases b37 : q 37 = 0
   ·
    by_cases b7 : q 7 = 0
    ·
     by_cases b10 : q 10 = 0
     ·
      have b32 : q 32 = 0 := moveFixed_f36 E6 E7 E8 E9 E10 E11 E12 E13 E14 E15 E16 E17 E18 E19 E20 Q25 E31 E32 Q37 b25 b20 b37 b7 b10
      have b2 : q 2 = 0 := moveFixed_f37 E6 E7 E8 E9 E10 E11 E12 E13 E14 E15 E16 E17 E18 E19 E20 Q25 Q37 b25 b20 b37 b7 b10
      have b1 : q 1 = 0 := moveFixed_f38 E6 E7 E8 E9 E10 E11 E12 E13 E14 E15 E16 E17 E18 E19 E20 Q25 Q37 b25 b20 b37 b7 b10
      have b11 : q 11 = 0 := moveFixed_f39 E6 E7 E8 E9 E10 E11 E12 E13 E14 E15 E16 E17 E18 E19 E20 Q25 Q37 b25 b20 b37 b7 b10
      have b4 : ¬ (q 4 = 0) := moveFixed_f40 E6 E7 E8 E9 E10 E11 E12 E13 E14 E15 E16 E17 E18 E19 E20 Q25 Q37 b25 b20 b37 b7 b10
      exact moveFixed_leaf moveFixed_r4 hσ hq h0 (moveFixed_An (hF b25) (moveFixed_An (hT b20) (moveFixed_An (hT b37) (moveFixed_An (hT b7) (moveFixed_An (hT b10) (moveFixed_An (hT b32) (moveFixed_An (hT b2) (moveFixed_An (hT b1) (moveFixed_An (hT b11) (moveFixed_An (hF b4) trivial)))))))))) ⟨tab, mx⟩ hA
     ·
      have b32 : q 32 = 0 := moveFixed_f41 E6 E7 E8 E9 E10 E11 E12 E13 E14 E15 E16 E17 E18 E19 E20 Q25 E31 E32 Q37 b25 b20 b37 b7 b10
      have b2 : ¬ (q 2 = 0) := moveFixed_f42 E6 E7 E8 E9 E10 E11 E12 E13 E14 E15 E16 E17 E18 E19 E20 Q25 Q37 b25 b20 b37 b7 b10
      have b1 : q 1 = 0 := moveFixed_f43 E6 E7 E8 E9 E10 E11 E12 E13 E14 E15 E16 E17 E18 E19 E20 Q25 Q37 b25 b20 b37 b7 b10
      by_cases b11 : q 11 = 0
      ·
       have b5 : q 5 = 0 := moveFixed_f44 E6 E7 E8 E9 E10 E11 E12 E13 E14 E15 E16 E17 E18 E19 E20 Q25 Q37 b25 b20 b37 b7 b10 b11
       have b55 : q 55 = 0 := moveFixed_f45 E6 E7 E8 E9 E10 E11 E12 E13 E14 E15 E16 E17 E18 E19 E20 Q25 Q37 E55 b25 b20 b37 b7 b10 b11
       have b56 : ¬ (q 56 = 0) := moveFixed_f46 E6 E7 E8 E9 E10 E11 E12 E13 E14 E15 E16 E17 E18 E19 E20 Q25 Q37 E56 b25 b20 b37 b7 b10 b11
       have b71 : q 71 = 0 := Q71.2 ⟨⟨moveFixed_f47 E6 E7 E8 E9 E10 E11 E12 E13 E14 E15 E16 E17 E18 E19 E20 Q25 Q37 E55 E56 E58 E59 E60 b25 b20 b37 b7 b10 b11, moveFixed_f48 E6 E7 E8 E9 E10 E11 E12 E13 E14 E15 E16 E17 E18 E19 E20 Q25 Q37 E55 E57 E61 E62 E63 b25 b20 b37 b7 b10 b11⟩, moveFixed_f49 E6 E7 E8 E9 E10 E11 E12 E13 E14 E15 E16 E17 E18 E19 E20 Q25 Q37 E56 E57 E64 E65 E66 b25 b20 b37 b7 b10 b11⟩
       exact moveFixed_leaf moveFixed_r5 hσ hq h0 (moveFixed_An (hF b25) (moveFixed_An (hT b20) (moveFixed_An (hT b37) (moveFixed_An (hT b7) (moveFixed_An (hF b10) (moveFixed_An (hT b32) (moveFixed_An (hF b2) (moveFixed_An (hT b1) (moveFixed_An (hT b11) (moveFixed_An (hT b5) (moveFixed_An (hT b55) (moveFixed_An (hF b56) (moveFixed_An (hT b71) trivial))))))))))))) ⟨tab, mx⟩ hA
      ·
       have b81 : q 81 = 0 := Q81.2 ⟨⟨moveFixed_f50 E6 E7 E8 E9 E10 E11 E12 E13 E14 E15 E16 E17 E18 E19 E20 Q25 E31 Q37 E72 b25 b20 b37 b7 b10 b11, moveFixed_f51 E6 E7 E8 E9 E10 E11 E12 E13 E14 E15 E16 E17 E18 E19 E20 Q25 Q37 E73 E74 b25 b20 b37 b7 b10 b11⟩, moveFixed_f52 E6 E7 E8 E9 E10 E11 E12 E13 E14 E15 E16 E17 E18 E19 E20 Q25 Q37 E75 E76 b25 b20 b37 b7 b10 b11⟩
       have b55 : q 55 = 0 := moveFixed_f53 E6 E7 E8 E9 E10 E11 E12 E13 E14 E15 E16 E17 E18 E19 E20 Q25 Q37 E55 b25 b20 b37 b7 b10 b11
       have b56 : ¬ (q 56 = 0) := moveFixed_f54 E6 E7 E8 E9 E10 E11 E12 E13 E14 E15 E16 E17 E18 E19 E20 Q25 Q37 E56 b25 b20 b37 b7 b10 b11
       have b71 : q 71 = 0 := Q71.2 ⟨⟨moveFixed_f55 E6 E7 E8 E9 E10 E11 E12 E13 E14 E15 E16 E17 E18 E19 E20 Q25 Q37 E55 E56 E58 E59 E60 b25 b20 b37 b7 b10 b11, moveFixed_f56 E6 E7 E8 E9 E10 E11 E12 E13 E14 E15 E16 E17 E18 E19 E20 Q25 Q37 E55 E57 E61 E62 E63 b25 b20 b37 b7 b10 b11⟩, moveFixed_f57 E6 E7 E8 E9 E10 E11 E12 E13 E14 E15 E16 E17 E18 E19 E20 Q25 Q37 E56 E57 E64 E65 E66 b25 b20 b37 b7 b10 b11⟩
       exact moveFixed_leaf moveFixed_r6 hσ hq h0 (moveFixed_An (hF b25) (moveFixed_An (hT b20) (moveFixed_An (hT b37) (moveFixed_An (hT b7) (moveFixed_An (hF b10) (moveFixed_An (hT b32) (moveFixed_An (hF b2) (moveFixed_An (hT b1) (moveFixed_An (hF b11) (moveFixed_An (hT b81) (moveFixed_An (hT b55) (moveFixed_An (hF b56) (moveFixed_An (hT b71) trivial))))))))))))) ⟨tab, mx⟩ hA
    ·
     have b32 : q 32 = 0 := moveFixed_f58 E6 E7 E8 E9 E10 E11 E12 E13 E14 E15 E16 E17 E18 E19 E20 Q25 E31 E32 Q37 b25 b20 b37 b7
     by_cases b1 : q 1 = 0
     ·
      have b11 : q 11 = 0 := moveFixed_f59 E6 E7 E8 E9 E10 E11 E12 E13 E14 E15 E16 E17 E18 E19 E20 Q25 Q37 b25 b20 b37 b7 b1
      have b5 : q 5 = 0 := moveFixed_f60 E6 E7 E8 E9 E10 E11 E12 E13 E14 E15 E16 E17 E18 E19 E20 Q25 Q37 b25 b20 b37 b7 b1
      have b55 : ¬ (q 55 = 0) := moveFixed_f61 E6 E7 E8 E9 E10 E11 E12 E13 E14 E15 E16 E17 E18 E19 E20 Q25 Q37 E55 b25 b20 b37 b7 b1
      have b71 : q 71 = 0 := Q71.2 ⟨⟨moveFixed_f62 E6 E7 E8 E9 E10 E11 E12 E13 E14 E15 E16 E17 E18 E19 E20 Q25 Q37 E55 E56 E58 E59 E60 b25 b20 b37 b7 b1, moveFixed_f63 E6 E7 E8 E9 E10 E11 E12 E13 E14 E15 E16 E17 E18 E19 E20 Q25 Q37 E55 E57 E61 E62 E63 b25 b20 b37 b7 b1⟩, moveFixed_f64 E6 E7 E8 E9 E10 E11 E12 E13 E14 E15 E16 E17 E18 E19 E20 Q25 Q37 E56 E57 E64 E65 E66 b25 b20 b37 b7 b1⟩
      exact moveFixed_leaf moveFixed_r7 hσ hq h0 (moveFixed_An (hF b25) (moveFixed_An (hT b20) (moveFixed_An (hT b37) (moveFixed_An (hF b7) (moveFixed_An (hT b32) (moveFixed_An (hT b1) (moveFixed_An (hT b11) (moveFixed_An (hT b5) (moveFixed_An (hF b55) (moveFixed_An (hT b71) trivial)))))))))) ⟨tab, mx⟩ hA
     ·
      have b81 : q 81 = 0 := Q81.2 ⟨⟨moveFixed_f65 E6 E7 E8 E9 E10 E11 E12 E13 E14 E15 E16 E17 E18 E19 E20 Q25 E31 Q37 E72 b25 b20 b37 b7 b1, moveFixed_f66 E6 E7 E8 E9 E10 E11 E12 E13 E14 E15 E16 E17 E18 E19 E20 Q25 Q37 E73 E74 b25 b20 b37 b7 b1⟩, moveFixed_f67 E6 E7 E8 E9 E10 E11 E12 E13 E14 E15 E16 E17 E18 E19 E20 Q25 Q37 E75 E76 b25 b20 b37 b7 b1⟩
      have b55 : ¬ (q 55 = 0) := moveFixed_f68 E6 E7 E8 E9 E10 E11 E12 E13 E14 E15 E16 E17 E18 E19 E20 Q25 Q37 E55 b25 b20 b37 b7 b1
      have b71 : q 71 = 0 := Q71.2 ⟨⟨moveFixed_f69 E6 E7 E8 E9 E10 E11 E12 E13 E14 E15 E16 E17 E18 E19 E20 Q25 Q37 E55 E56 E58 E59 E60 b25 b20 b37 b7 b1, moveFixed_f70 E6 E7 E8 E9 E10 E11 E12 E13 E14 E15 E16 E17 E18 E19 E20 Q25 Q37 E55 E57 E61 E62 E63 b25 b20 b37 b7 b1⟩, moveFixed_f71 E6 E7 E8 E9 E10 E11 E12 E13 E14 E15 E16 E17 E18 E19 E20 Q25 Q37 E56 E57 E64 E65 E66 b25 b20 b37 b7 b1⟩
      exact moveFixed_leaf moveFixed_r8 hσ hq h0 (moveFixed_An (hF b25) (moveFixed_An (hT b20) (moveFixed_An (hT b37) (moveFixed_An (hF b7) (moveFixed_An (hT b32) (moveFixed_An (hF b1) (moveFixed_An (hT b81) (moveFixed_An (hF b55) (moveFixed_An (hT b71) trivial))))))))) ⟨tab, mx⟩ hA
   ·
    have b32 : q 32 = 0 := moveFixed_f72 E6 E7 E8 E9 E10 E11 E12 E13 E14 E15 E16 E17 E18 E19 E20 Q25 E31 E32 Q37 b25 b20 b37
    by_cases b7 : q 7 = 0
    ·
     by_cases b2 : q 2 = 0
     ·
      by_cases b1 : q 1 = 0
      ·
       have b11 : ¬ (q 11 = 0) := moveFixed_f73 E6 E7 E8 E9 E10 E11 E12 E13 E14 E15 E16 E17 E18 E19 E20 Q25 Q37 b25 b20 b37 b7 b2 b1
       have b4 : ¬ (q 4 = 0) := moveFixed_f74 E6 E7 E8 E9 E10 E11 E12 E13 E14 E15 E16 E17 E18 E19 E20 Q25 Q37 b25 b20 b37 b7 b2 b1
       exact moveFixed_leaf moveFixed_r9 hσ hq h0 (moveFixed_An (hF b25) (moveFixed_An (hT b20) (moveFixed_An (hF b37) (moveFixed_An (hT b32) (moveFixed_An (hT b7) (moveFixed_An (hT b2) (moveFixed_An (hT b1) (moveFixed_An (hF b11) (moveFixed_An (hF b4) trivial))))))))) ⟨tab, mx⟩ hA
      ·
       have b4 : ¬ (q 4 = 0) := moveFixed_f75 E6 E7 E8 E9 E10 E11 E12 E13 E14 E15 E16 E17 E18 E19 E20 Q25 Q37 b25 b20 b37 b7 b2 b1
       exact moveFixed_leaf moveFixed_r10 hσ hq h0 (moveFixed_An (hF b25) (moveFixed_An (hT b20) (moveFixed_An (hF b37) (moveFixed_An (hT b32) (moveFixed_An (hT b7) (moveFixed_An (hT b2) (moveFixed_An (hF b1) (moveFixed_An (hF b4) trivial)))))))) ⟨tab, mx⟩ hA
     ·
      have b1 : q 1 = 0 := moveFixed_f76 E6 E7 E8 E9 E10 E11 E12 E13 E14 E15 E16 E17 E18 E19 E20 Q25 Q37 b25 b20 b37 b7 b2
      by_cases b11 : q 11 = 0
      ·
       have b5 : ¬ (q 5 = 0) := moveFixed_f77 E6 E7 E8 E9 E10 E11 E12 E13 E14 E15 E16 E17 E18 E19 E20 Q25 Q37 b25 b20 b37 b7 b2 b11
       exact moveFixed_leaf moveFixed_r11 hσ hq h0 (moveFixed_An (hF b25) (moveFixed_An (hT b20) (moveFixed_An (hF b37) (moveFixed_An (hT b32) (moveFixed_An (hT b7) (moveFixed_An (hF b2) (moveFixed_An (hT b1) (moveFixed_An (hT b11) (moveFixed_An (hF b5) trivial))))))))) ⟨tab, mx⟩ hA
      ·
       have b81 : ¬ (q 81 = 0) := moveFixed_f78 E6 E7 E8 E9 E10 E11 E12 E13 E14 E15 E16 E17 E18 E19 E20 Q25 E31 Q37 E72 E73 E74 E75 E76 Q81 b25 b20 b37 b7 b2 b11
       exact moveFixed_leaf moveFixed_r12 hσ hq h0 (moveFixed_An (hF b25) (moveFixed_An (hT b20) (moveFixed_An (hF b37) (moveFixed_An (hT b32) (moveFixed_An (hT b7) (moveFixed_An (hF b2) (moveFixed_An (hT b1) (moveFixed_An (hF b11) (moveFixed_An (hF b81) trivial))))))))) ⟨tab, mx⟩ hA
    ·
     by_cases b1 : q 1 = 0
     ·
      have b11 : q 11 = 0 := moveFixed_f79 E6 E7 E8 E9 E10 E11 E12 E13 E14 E15 E16 E17 E18 E19 E20 Q25 Q37 b25 b20 b37 b7 b1
      have b5 : ¬ (q 5 = 0) := moveFixed_f80 E6 E7 E8 E9 E10 E11 E12 E13 E14 E15 E16 E17 E18 E19 E20 Q25 Q37 b25 b20 b37 b7 b1
      exact moveFixed_leaf moveFixed_r13 hσ hq h0 (moveFixed_An (hF b25) (moveFixed_An (hT b20) (moveFixed_An (hF b37) (moveFixed_An (hT b32) (moveFixed_An (hF b7) (moveFixed_An (hT b1) (moveFixed_An (hT b11) (moveFixed_An (hF b5) trivial)))))))) ⟨tab, mx⟩ hA
     ·
      have b81 : ¬ (q 81 = 0) := moveFixed_f81 E6 E7 E8 E9 E10 E11 E12 E13 E14 E15 E16 E17 E18 E19 E20 Q25 E31 Q37 E72 E73 E74 E75 E76 Q81 b25 b20 b37 b7 b1
      exact moveFixed_leaf moveFixed_r14 hσ hq h0 (moveFixed_An (hF b25) (moveFixed_An (hT b20) (moveFixed_An (hF b37) (moveFixed_An (hT b32) (moveFixed_An (hF b7) (moveFixed_An (hF b1) (moveFixed_An (hF b81) trivial))))))) ⟨tab, mx⟩ hA
  ·
   have b32 : ¬ (q 32 = 0) := moveFixed_f82 E6 E7 E8 E9 E10 E11 E18 E19 E20 Q25 E31 E32 b25 b20
   have a_3_87_82 : q 87 = q 82 := moveFixed_f83 E6 E7 E8 E9 E10 E11 E12 E13 E14 E15 E16 E17 E18 E19 E20 Q25 E82 E83 E84 E85 E86 E87 b25 b20
   have a_3_91_83 : q 91 = q 83 := moveFixed_f84 E6 E7 E8 E9 E10 E11 E12 E13 E14 E15 E16 E17 E18 E19 E20 Q25 E82 E83 E88 E89 E90 E91 b25 b20
   exact moveFixed_leaf moveFixed_r15 hσ hq h0 (moveFixed_An (hF b25) (moveFixed_An (hF b20) (moveFixed_An (hF b32) (moveFixed_An (hT a_3_87_82) (moveFixed_An (hT a_3_91_83) trivial))))) ⟨tab, mx⟩ hA
end Go.Proofs.YtkcikcnimkofkaaGreatDoor
