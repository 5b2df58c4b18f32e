/- Part 13 of the walks and of the mathematics under them: VY VSZ CFmoved MVE. -/
import Derived.Test.YtkcikcnimkofkaaGreatDoorA12
set_option maxHeartbeats 16000000
set_option maxRecDepth 100000
/- VY -/
namespace Go.Proofs.YtkcikcnimkofkaaGreatDoor
open Go.RowKit Cx
theorem den_num (t : Rat) : t * (t.den : Rat) = ((t.num : Int) : Rat) := by
 conv => lhs; lhs; rw [← Rat.mkRat_self t]
 have h0 : (t.den : Rat) ≠ 0 := fun h => t.den_nz (by exact_mod_cast h)
 rw [Rat.mkRat_eq_div, Rat.div_mul_cancel h0]
theorem whole {q : Rat} (h : q.den = 1) : q = ((q.num : Int) : Rat) := by
 have := den_num q
 rw [h] at this
 rw [← this]
 show q = q * ((1 : Nat) : Rat)
 exact (Rat.mul_one q).symm
end Go.Proofs.YtkcikcnimkofkaaGreatDoor
/- VSZ -/
namespace Go.Proofs.YtkcikcnimkofkaaGreatDoor
open Go.RowKit Cx
def szW (Z : List Nat) (I : List Bool) (z : Nat) (b : Bool) (nd : Nd) : Bool := match nd.1, nd.2 with
 | 0, [_, n, d] => (Nat.blt n (2 ^ z) && (Nat.blt 0 d && Nat.blt d (2 ^ z))) && (!b || Nat.beq d 1)
 | 1, [_] => Nat.ble 3495259 z && !b
 | 2, [a, c] => (match Z[a]?, Z[c]?, I[a]?, I[c]? with
  | some x, some y, some true, some true => Nat.ble (Nat.max x y + 1) z
  | some x, some y, _, _ => Nat.ble (x + y + 1) z && !b
  | _, _, _, _ => false)
 | 3, [a, c] => (match Z[a]?, Z[c]?, I[a]?, I[c]? with
  | some x, some y, some true, some true => Nat.ble (Nat.max x y + 1) z
  | some x, some y, _, _ => Nat.ble (x + y + 1) z && !b
  | _, _, _, _ => false)
 | 4, [a, c] => (match Z[a]?, Z[c]?, I[a]?, I[c]? with
  | some x, some y, some true, some true => Nat.ble (x + y) z
  | some x, some y, _, _ => Nat.ble (x + y) z && !b
  | _, _, _, _ => false)
 | 5, [a] => (match Z[a]?, I[a]? with
  | some x, some true => Nat.ble x z
  | some x, _ => Nat.ble x z && !b
  | _, _ => false)
 | 6, [a, c] => (match Z[a]?, Z[c]? with
  | some x, some y => Nat.ble (x + y) z && !b
  | _, _ => false)
 | 8, i :: xs => (match getsO Z xs with
  | some zs => Nat.blt i xs.length && (Nat.ble ((xs.length + 1) * maxL zs + 1) z || (xs.all (fun a => match I[a]? with
   | some true => true
   | _ => false) && (match xs[i]? with
   | some a => (match Z[a]? with
    | some x => Nat.ble (x + 1) z
    | none => false)
   | none => false)))
  | none => false)
 | _, _ => false
def szC (Z : List Nat) (I : List Bool) : List Nd → List Nat → List Bool → Bool
 | [], [], [] => true
 | nd :: ns, z :: zs, b :: bs => (szW Z I z b nd && Nat.ble z 1000000000000) && szC Z I ns zs bs
 | _, _, _ => false
theorem szC_get {Z : List Nat} {I : List Bool} : ∀ {ns : List Nd} {zs : List Nat} {bs : List Bool} {i z : Nat}, szC Z I ns zs bs = true → zs[i]? = some z → ∃ nd b, ns[i]? = some nd ∧ bs[i]? = some b ∧ szW Z I z b nd = true ∧ z ≤ 1000000000000
 | [], [], [], _, _, _, h => by simp at h
 | [], [], _ :: _, _, _, h, _ => by cases h
 | [], _ :: _, _, _, _, h, _ => by cases h
 | _ :: _, [], _, _, _, h, _ => by cases h
 | _ :: _, _ :: _, [], _, _, h, _ => by cases h
 | nd :: ns, z' :: zs, b :: bs, 0, z, h, e => by
  have : z' = z := by simpa using e
  subst this
  unfold szC at h
  simp only [Bool.and_eq_true, Nat.ble_eq] at h
  exact ⟨nd, b, rfl, rfl, h.1.1, h.1.2⟩
 | nd :: ns, z' :: zs, b :: bs, i + 1, z, h, e => by
  unfold szC at h
  rw [Bool.and_eq_true] at h
  obtain ⟨nd2, b2, g1, g2, g3⟩ := szC_get (ns := ns) (zs := zs) (bs := bs) h.2 (show zs[i]? = some z by simpa using e)
  exact ⟨nd2, b2, by simpa using g1, by simpa using g2, g3⟩
theorem szC_len {Z : List Nat} {I : List Bool} : ∀ {ns : List Nd} {zs : List Nat} {bs : List Bool}, szC Z I ns zs bs = true → ns.length = zs.length
 | [], [], [], _ => rfl
 | [], [], _ :: _, h => by cases h
 | [], _ :: _, _, h => by cases h
 | _ :: _, [], _, h => by cases h
 | _ :: _, _ :: _, [], h => by cases h
 | _ :: _, _ :: _, _ :: _, h => by
  unfold szC at h
  rw [Bool.and_eq_true] at h
  exact congrArg (· + 1) (szC_len h.2)
structure QW (z : Nat) (x : Rat) : Prop where
 qs : QS z x
 wh : x.den = 1
theorem QW.of {z : Nat} {n : Int} (h : n.natAbs < 2 ^ z) (hz : 0 < z) : QW z ((n : Int) : Rat) :=
 ⟨⟨by simpa using h, by
  show ((n : Int) : Rat).den < 2 ^ z
  rw [Rat.den_intCast]
  exact Nat.one_lt_two_pow (by omega)⟩, Rat.den_intCast n⟩
theorem QW.mono {k l : Nat} {x : Rat} (h : QW k x) (hk : k ≤ l) : QW l x := ⟨h.qs.mono hk, h.wh⟩
theorem two_max {a b x y : Nat} (h1 : a < 2 ^ x) (h2 : b < 2 ^ y) : a + b < 2 ^ (Nat.max x y + 1) := by
 have e1 : 2 ^ x ≤ 2 ^ Nat.max x y := Nat.pow_le_pow_right (by decide) (Nat.le_max_left x y)
 have e2 : 2 ^ y ≤ 2 ^ Nat.max x y := Nat.pow_le_pow_right (by decide) (Nat.le_max_right x y)
 rw [Nat.pow_succ]
 omega
theorem QW.add {x y : Nat} {a b : Rat} (h1 : QW x a) (h2 : QW y b) : QW (Nat.max x y + 1) (a + b) := by
 rw [whole h1.wh, whole h2.wh, ← Rat.intCast_add]
 refine QW.of ?_ (by omega)
 have := two_max h1.qs.num h2.qs.num
 omega
theorem QW.sub {x y : Nat} {a b : Rat} (h1 : QW x a) (h2 : QW y b) : QW (Nat.max x y + 1) (a - b) := by
 rw [whole h1.wh, whole h2.wh, ← Rat.intCast_sub]
 refine QW.of ?_ (by omega)
 have := two_max h1.qs.num h2.qs.num
 omega
theorem QW.mul {x y : Nat} {a b : Rat} (h1 : QW x a) (h2 : QW y b) : QW (x + y) (a * b) := by
 refine ⟨h1.qs.mul h2.qs, ?_⟩
 rw [whole h1.wh, whole h2.wh, ← Rat.intCast_mul]
 exact Rat.den_intCast _
theorem QW.neg {x : Nat} {a : Rat} (h1 : QW x a) : QW x (-a) := ⟨h1.qs.neg, h1.wh⟩
theorem lD_one : ∀ {qs : List Rat} {m : Nat}, (∀ q ∈ qs, q.den = 1) → qs.foldl (fun m q => m * (q.den / Nat.gcd m q.den)) m = m
 | [], _, _ => rfl
 | q :: qs, m, h => by
  rw [List.foldl_cons, h q List.mem_cons_self, Nat.gcd_one_right, Nat.div_self (by decide), Nat.mul_one]
  exact lD_one fun p hp => h p (List.mem_cons_of_mem _ hp)
theorem QW.fac {z : Nat} {qs : List Rat} {x : Rat} (hx : QS z x) (h : x ∈ qs) (hw : ∀ y ∈ qs, y.den = 1) : QS (z + 1) (x * fac qs) := by
 have hl : lD qs = 1 := lD_one hw
 refine ⟨?_, ?_⟩
 ·rw [fac_abs h, hl, hw x h, Nat.div_self (by decide), Nat.mul_one]
  exact Nat.lt_of_le_of_lt (Nat.div_le_self _ _) (Nat.lt_of_lt_of_le hx.num (Nat.pow_le_pow_right (by decide) (by omega)))
 ·rw [fac_den h]
  exact Nat.one_lt_two_pow (by omega)
theorem ten_three : ∀ n : Nat, 10 ^ n ≤ 2 ^ ((10 * n + 2) / 3)
 | 0 => by decide
 | 1 => by decide
 | 2 => by decide
 | n + 3 => by
  have h := ten_three n
  have e : (10 * (n + 3) + 2) / 3 = (10 * n + 2) / 3 + 10 := by omega
  rw [e, Nat.pow_add, Nat.pow_add]
  exact Nat.mul_le_mul h (by decide)
theorem QS.rd3 (l : List UInt8) : QS ((10 * l.length + 2) / 3 + 5) (Cx.rd l) := by
 have key : ∀ {m : List UInt8}, digs m = true → dv m < 2 ^ ((10 * m.length + 2) / 3) := fun {m} h => Nat.lt_of_lt_of_le (dv_lt (digs_all h)) (ten_three _)
 unfold Cx.rd
 split
 ·rename_i h
  rw [Bool.and_eq_true] at h
  have h1 := key h.1
  have h2 := key h.2
  have h3 := up_len (tailOf l)
  have h4 := low_len (tailOf l)
  have h5 := tail_len l
  apply QS.mkr
  ·rw [sg_abs]; exact Nat.lt_of_lt_of_le h1 (Nat.pow_le_pow_right (by decide) (by omega))
  ·exact Nat.lt_of_lt_of_le h2 (Nat.pow_le_pow_right (by decide) (by omega))
 ·exact QS.zero.mono (by omega)
section
variable {N : List Nd} {Z : List Nat} {I : List Bool} {q : Nat → Rat}
theorem sizes_okW {σ : Nat → ByteArray} (hσ : ∀ j, (σ j).size ≤ 1048576) (hw : wfB 0 N = true) (hz : szC Z I N Z I = true) (hq : ∀ (a : Nat) nd, N[a]? = some nd → q a = valN σ q nd) (h0 : ∀ a, N.length ≤ a → q a = 0) : (∀ (a : Nat) z, Z[a]? = some z → QS z (q a)) ∧ ∀ a, QS 1000000000000 (q a) := by
 have h2 : ∀ (a : Nat) z, Z[a]? = some z → QS z (q a) ∧ (I[a]? = some true → (q a).den = 1) := by
  intro a
  induction a using Nat.strongRecOn with
  | ind a ih =>
   intro z hz'
   obtain ⟨nd, b, hn, hb, hs, _⟩ := szC_get hz hz'
   have hwf := wfB_get hw hn
   rw [Nat.zero_add] at hwf
   rw [hq a nd hn, hb]
   obtain ⟨op, xs⟩ := nd
   unfold szW at hs
   unfold valN
   unfold wfN at hwf
   dsimp only at hs hwf ⊢
   have W : ∀ {c x}, c < a → Z[c]? = some x → I[c]? = some true → QW x (q c) := fun hc hx hi => ⟨(ih _ hc _ hx).1, (ih _ hc _ hx).2 hi⟩
   have no : ∀ {v : Rat}, b = false → (some b = some true → v.den = 1) := fun e h => by rw [e] at h; cases h
   split at hs
   ·rename_i s n d
    simp only [Bool.and_eq_true] at hs
    obtain ⟨⟨h1, h2, h3⟩, h4⟩ := hs
    refine ⟨QS.const (by simpa [Nat.blt_eq] using h1) (by simpa [Nat.blt_eq] using h2) (by simpa [Nat.blt_eq] using h3), fun e => ?_⟩
    rw [show b = true from Option.some.inj e] at h4
    have hd : d = 1 := by simpa using h4
    subst hd
    show (if s = 0 then mkRat (n : Int) 1 else mkRat (-(n : Int)) 1).den = 1
    split
    ·rw [Rat.mkRat_one]
     exact Rat.den_intCast _
    ·rw [Rat.mkRat_one]
     exact Rat.den_intCast _
   ·rename_i j
    simp only [Bool.and_eq_true, Nat.ble_eq, Bool.not_eq_true'] at hs
    exact ⟨QS.mono (QS.rd3 _) (by have := hσ j; rw [str_len]; omega), no hs.2⟩
   ·simp only [List.all_cons, List.all_nil, Bool.and_true, Bool.and_eq_true] at hwf
    have l1 := (by simpa [Nat.blt_eq] using hwf.1 : _ < a)
    have l2 := (by simpa [Nat.blt_eq] using hwf.2 : _ < a)
    split at hs
    ·rename_i x y hx hy i1 i2
     rw [Nat.ble_eq] at hs
     have := ((W l1 hx i1).add (W l2 hy i2)).mono hs
     exact ⟨this.qs, fun _ => this.wh⟩
    ·rename_i x y hx hy _
     simp only [Bool.and_eq_true, Nat.ble_eq, Bool.not_eq_true'] at hs
     exact ⟨((ih _ l1 x hx).1.add (ih _ l2 y hy).1).mono hs.1, no hs.2⟩
    ·cases hs
   ·simp only [List.all_cons, List.all_nil, Bool.and_true, Bool.and_eq_true] at hwf
    have l1 := (by simpa [Nat.blt_eq] using hwf.1 : _ < a)
    have l2 := (by simpa [Nat.blt_eq] using hwf.2 : _ < a)
    split at hs
    ·rename_i x y hx hy i1 i2
     rw [Nat.ble_eq] at hs
     have := ((W l1 hx i1).sub (W l2 hy i2)).mono hs
     exact ⟨this.qs, fun _ => this.wh⟩
    ·rename_i x y hx hy _
     simp only [Bool.and_eq_true, Nat.ble_eq, Bool.not_eq_true'] at hs
     exact ⟨((ih _ l1 x hx).1.sub (ih _ l2 y hy).1).mono hs.1, no hs.2⟩
    ·cases hs
   ·simp only [List.all_cons, List.all_nil, Bool.and_true, Bool.and_eq_true] at hwf
    have l1 := (by simpa [Nat.blt_eq] using hwf.1 : _ < a)
    have l2 := (by simpa [Nat.blt_eq] using hwf.2 : _ < a)
    split at hs
    ·rename_i x y hx hy i1 i2
     rw [Nat.ble_eq] at hs
     have := ((W l1 hx i1).mul (W l2 hy i2)).mono hs
     exact ⟨this.qs, fun _ => this.wh⟩
    ·rename_i x y hx hy _
     simp only [Bool.and_eq_true, Nat.ble_eq, Bool.not_eq_true'] at hs
     exact ⟨((ih _ l1 x hx).1.mul (ih _ l2 y hy).1).mono hs.1, no hs.2⟩
    ·cases hs
   ·simp only [List.all_cons, List.all_nil, Bool.and_true] at hwf
    have l1 := (by simpa [Nat.blt_eq] using hwf : _ < a)
    split at hs
    ·rename_i x hx i1
     rw [Nat.ble_eq] at hs
     have := (W l1 hx i1).neg.mono hs
     exact ⟨this.qs, fun _ => this.wh⟩
    ·rename_i x hx _
     simp only [Bool.and_eq_true, Nat.ble_eq, Bool.not_eq_true'] at hs
     exact ⟨((ih _ l1 x hx).1.neg).mono hs.1, no hs.2⟩
    ·cases hs
   ·simp only [List.all_cons, List.all_nil, Bool.and_true, Bool.and_eq_true] at hwf
    split at hs
    ·rename_i x y hx hy
     simp only [Bool.and_eq_true, Nat.ble_eq, Bool.not_eq_true'] at hs
     exact ⟨((ih _ (by simpa [Nat.blt_eq] using hwf.1) x hx).1.div (ih _ (by simpa [Nat.blt_eq] using hwf.2) y hy).1).mono hs.1, no hs.2⟩
    ·cases hs
   ·rename_i i ys
    split at hs
    ·rename_i zs hzs
     rw [Bool.and_eq_true] at hs
     have hi : i < ys.length := by simpa [Nat.blt_eq] using hs.1
     have hwf' : ys.all (Nat.blt · a) = true := hwf
     rw [List.all_eq_true] at hwf'
     have hlt : ∀ c ∈ ys, c < a := fun c hc => by simpa [Nat.blt_eq] using hwf' c hc
     have hm : q ys[i] ∈ ys.map q := List.mem_map_of_mem (List.getElem_mem hi)
     have hg : (ys.map q).getD i 0 = q ys[i] := by
      rw [List.getD_eq_getElem?_getD, List.getElem?_map, List.getElem?_eq_getElem hi]
      rfl
     show QS z ((ys.map q).getD i 0 * fac (ys.map q)) ∧ (some b = some true → ((ys.map q).getD i 0 * fac (ys.map q)).den = 1)
     rw [hg]
     refine ⟨?_, fun _ => fac_den hm⟩
     rcases Bool.or_eq_true _ _ ▸ hs.2 with h3 | h3
     ·rw [Nat.ble_eq] at h3
      have hall : ∀ y ∈ ys.map q, QS (maxL zs) y := fun y hy => by
       obtain ⟨c, hc, rfl⟩ := List.mem_map.1 hy
       obtain ⟨z', hm', hz2⟩ := getsO_get hzs c hc
       exact (ih c (hlt c hc) z' hz2).1.mono (le_maxL z' hm')
      have := QS.facN hall (x := q ys[i]) hm
      rw [List.length_map] at this
      exact this.mono h3
     ·rw [Bool.and_eq_true, List.all_eq_true] at h3
      obtain ⟨h4, h5⟩ := h3
      have hwh : ∀ y ∈ ys.map q, y.den = 1 := fun y hy => by
       obtain ⟨c, hc, rfl⟩ := List.mem_map.1 hy
       obtain ⟨z', _, hz2⟩ := getsO_get hzs c hc
       refine (ih c (hlt c hc) z' hz2).2 ?_
       have := h4 c hc
       split at this
       ·assumption
       ·cases this
      rw [List.getElem?_eq_getElem hi] at h5
      dsimp only at h5
      split at h5
      ·rename_i x hx
       rw [Nat.ble_eq] at h5
       exact (QW.fac (ih _ (hlt _ (List.getElem_mem hi)) x hx).1 hm hwh).mono h5
      ·cases h5
    ·cases hs
   ·cases hs
 refine ⟨fun a z h => (h2 a z h).1, fun a => ?_⟩
 have hl := szC_len hz
 by_cases ha : a < Z.length
 ·obtain ⟨nd, b, _, _, _, hle⟩ := szC_get hz (List.getElem?_eq_getElem ha)
  exact (h2 a _ (List.getElem?_eq_getElem ha)).1.mono hle
 ·rw [h0 a (by omega)]
  exact QS.zero.mono (by decide)
theorem hy_ofW {L C : List (List Nat × Nat)} {σ : Nat → ByteArray} {H : List (Nat × Nat × Nat × Nat)} (hσ : ∀ j, (σ j).size ≤ 1048576) (hw : wfB 0 N = true) (hz : szC Z I N Z I = true) (hl : litB N L = true) (hcn : canB N C = true) (hq : ∀ (a : Nat) nd, N[a]? = some nd → q a = valN σ q nd) (h0 : ∀ a, N.length ≤ a → q a = 0) (hH : hAll q H) : Hy N H L C Z q σ where
 nat := hq
 qs := (sizes_okW hσ hw hz hq h0).2
 zs := (sizes_okW hσ hw hz hq h0).1
 par := hσ
 lit := fun s b h => lit_rd hl hq h
 k0 := fun a r h => kn_at hH h
 k1 := fun a r h => kn_at hH h
 k2 := fun a r h => kn_at hH h
 k3 := fun a b r h => kn_at hH h
 k4 := fun l a b r h1 h2 => by
  have h3 : Nat.beq 1 r = true ↔ q a = q b := kn_at hH h2
  rw [h3, ← can_tx hcn hq h1]
  exact ⟨fun e => by rw [e], fun e => tellS_inj (bytesN_inj e)⟩
 k6 := fun a b r h => kn_at hH h
 k5 := fun a r h => kn_at hH h
end
end Go.Proofs.YtkcikcnimkofkaaGreatDoor
/- CFmoved -/
namespace Go.Proofs.YtkcikcnimkofkaaGreatDoor
open Go.RowKit Cx
theorem closed_moved : Closed 50 :=
 closed_told (N := [(0, [0, 1, 1]), (0, [0, 0, 1]), (4, [0, 1]), (4, [1, 1]), (2, [2, 3]), (2, [4, 1]), (5, [5]), (4, [0, 6]), (4, [1, 6]), (4, [0, 0]), (2, [9, 3]), (6, [7, 10]), (6, [8, 10]), (0, [0, 2, 1]), (4, [11, 13]), (4, [12, 13]), (2, [1, 14]), (2, [1, 15]), (2, [10, 1]), (5, [18]), (4, [0, 19]), (4, [1, 19]), (6, [20, 10]), (6, [21, 10]), (4, [22, 13]), (4, [23, 13]), (2, [0, 24]), (2, [1, 25]), (3, [26, 16]), (3, [27, 17]), (4, [1, 0]), (2, [2, 30]), (2, [31, 1]), (5, [32]), (4, [0, 33]), (4, [1, 33]), (6, [34, 10]), (6, [35, 10]), (4, [36, 13]), (4, [37, 13]), (2, [1, 38]), (2, [0, 39]), (3, [40, 16]), (3, [41, 17]), (0, [1, 1, 1]), (2, [4, 44]), (5, [45]), (4, [0, 46]), (4, [1, 46]), (6, [47, 10]), (6, [48, 10]), (4, [49, 13]), (4, [50, 13]), (2, [1, 51]), (2, [1, 52]), (2, [10, 44]), (5, [55]), (4, [0, 56]), (4, [1, 56]), (6, [57, 10]), (6, [58, 10]), (4, [59, 13]), (4, [60, 13]), (2, [0, 61]), (2, [1, 62]), (3, [63, 53]), (3, [64, 54]), (2, [31, 44]), (5, [67]), (4, [0, 68]), (4, [1, 68]), (6, [69, 10]), (6, [70, 10]), (4, [71, 13]), (4, [72, 13]), (2, [1, 73]), (2, [0, 74]), (3, [75, 53]), (3, [76, 54]), (4, [65, 28]), (4, [66, 28]), (4, [77, 29]), (4, [78, 29]), (2, [79, 81]), (2, [80, 82]), (4, [65, 42]), (4, [66, 42]), (4, [77, 43]), (4, [78, 43]), (2, [85, 87]), (2, [86, 88]), (4, [65, 16]), (4, [66, 16]), (4, [77, 17]), (4, [78, 17]), (2, [91, 93]), (2, [92, 94]), (2, [95, 53]), (2, [96, 54]), (4, [83, 83]), (4, [84, 84]), (2, [99, 100]), (3, [101, 0]), (4, [89, 89]), (4, [90, 90]), (2, [103, 104]), (3, [105, 0]), (4, [83, 89]), (4, [84, 90]), (2, [107, 108]), (4, [83, 90]), (4, [84, 89]), (3, [110, 111]), (3, [83, 0]), (3, [84, 1]), (0, [0, 3, 1]), (0, [0, 4, 1]), (4, [28, 115]), (4, [29, 115]), (4, [42, 116]), (4, [43, 116]), (2, [117, 119]), (2, [118, 120]), (2, [121, 16]), (2, [122, 17]), (0, [1, 3, 1])]) (H := [(0, 0, 0, 0), (0, 102, 0, 1), (0, 106, 0, 1), (0, 109, 0, 1), (1, 112, 0, 0), (0, 113, 0, 1), (0, 114, 0, 1), (0, 97, 0, 0), (4, 83, 0, 1), (4, 89, 1, 1), (4, 97, 13, 1), (4, 84, 1, 1), (4, 90, 0, 1), (4, 98, 1, 1), (4, 123, 125, 1), (4, 124, 116, 1)]) (K := [(218, [.inr (3, 9, 0, 0, 0)]), (218, [.inr (3, 121, 0, 0, 0)]), (208, [.inr (3, 227, 0, 0, 0)]), (208, [.inr (3, 238, 0, 0, 0)]), (208, [.inr (3, 311, 0, 0, 0)]), (219, []), (208, [.inr (3, 354, 0, 0, 0)])]) (L := [([49], 0), ([48], 1), ([45, 49], 44), ([50], 13), ([51], 115), ([52], 116), ([45, 51], 125)]) (C := [([49], 0), ([48], 1), ([50], 13), ([45, 51], 125), ([52], 116)]) (Z := [2, 2, 4, 4, 9, 12, 12, 14, 14, 4, 9, 23, 23, 3, 26, 26, 29, 29, 12, 12, 14, 14, 23, 23, 26, 26, 29, 29, 59, 59, 4, 9, 12, 12, 14, 14, 23, 23, 26, 26, 29, 29, 59, 59, 2, 12, 12, 14, 14, 23, 23, 26, 26, 29, 29, 12, 12, 14, 14, 23, 23, 26, 26, 29, 29, 59, 59, 12, 12, 14, 14, 23, 23, 26, 26, 29, 29, 59, 59, 118, 118, 118, 118, 237, 237, 118, 118, 118, 118, 237, 237, 88, 88, 88, 88, 177, 177, 207, 207, 474, 474, 949, 952, 474, 474, 949, 952, 474, 474, 949, 474, 474, 949, 240, 240, 3, 4, 62, 62, 63, 63, 126, 126, 156, 156, 3]) (cl := []) 8 (fun _ h => by cases h) (by kernel_rfl) (by kernel_rfl) (by kernel_rfl) (by kernel_rfl) (by kernel_rfl) (by kernel_rfl) (by kernel_rfl)
end Go.Proofs.YtkcikcnimkofkaaGreatDoor
/- MVE -/
namespace Go.Proofs.YtkcikcnimkofkaaGreatDoor
open Go.RowKit Cx
def moveAreas_N : List Nd := [(1, [0]), (1, [3]), (1, [1]), (1, [4]), (1, [2]), (1, [5]), (1, [6]), (1, [7]), (4, [0, 6]), (4, [1, 6]), (4, [2, 7]), (4, [3, 7]), (2, [8, 10]), (2, [9, 11]), (2, [12, 4]), (2, [13, 5]), (1, [8]), (1, [9]), (4, [0, 16]), (4, [1, 16]), (4, [2, 17]), (4, [3, 17]), (2, [18, 20]), (2, [19, 21]), (2, [22, 4]), (2, [23, 5]), (1, [10]), (1, [11]), (4, [0, 26]), (4, [1, 26]), (4, [2, 27]), (4, [3, 27]), (2, [28, 30]), (2, [29, 31]), (2, [32, 4]), (2, [33, 5]), (3, [24, 14]), (3, [25, 15]), (3, [34, 14]), (3, [35, 15]), (4, [36, 39]), (4, [37, 38]), (3, [40, 41]), (4, [0, 3]), (4, [1, 2]), (3, [43, 44]), (3, [16, 6]), (3, [17, 7]), (3, [26, 6]), (3, [27, 7]), (4, [46, 49]), (4, [47, 48]), (3, [50, 51]), (4, [45, 52]), (1, [12]), (4, [46, 54]), (4, [47, 54]), (0, [0, 0, 1]), (2, [57, 6]), (2, [57, 7]), (2, [58, 55]), (2, [59, 56]), (4, [0, 60]), (4, [1, 60]), (4, [2, 61]), (4, [3, 61]), (2, [62, 64]), (2, [63, 65]), (2, [66, 4]), (2, [67, 5]), (4, [36, 54]), (4, [37, 54]), (2, [57, 14]), (2, [57, 15]), (2, [72, 70]), (2, [73, 71])]
def moveAreas_L : List (List Nat × Nat) := []
def moveAreas_C : List (List Nat × Nat) := []
def moveAreas_Z : List Nat := [3495259, 3495259, 3495259, 3495259, 3495259, 3495259, 3495259, 3495259, 6990518, 6990518, 6990518, 6990518, 13981037, 13981037, 17476297, 17476297, 3495259, 3495259, 6990518, 6990518, 6990518, 6990518, 13981037, 13981037, 17476297, 17476297, 3495259, 3495259, 6990518, 6990518, 6990518, 6990518, 13981037, 13981037, 17476297, 17476297, 34952595, 34952595, 34952595, 34952595, 69905190, 69905190, 139810381, 6990518, 6990518, 13981037, 6990519, 6990519, 6990519, 6990519, 13981038, 13981038, 27962077, 41943114, 3495259, 10485778, 10485778, 2, 3495262, 3495262, 13981041, 13981041, 17476300, 17476300, 17476300, 17476300, 34952601, 34952601, 38447861, 38447861, 38447854, 38447854, 17476300, 17476300, 55924155, 55924155]
def moveAreas_I : List Bool := [false, false, false, false, false, false, false, false, false, false, false, false, false, false, false, false, false, false, false, false, false, false, false, false, false, false, false, false, false, false, false, false, false, false, false, false, false, false, false, false, false, false, false, false, false, false, false, false, false, false, false, false, false, false, false, false, false, true, false, false, false, false, false, false, false, false, false, false, false, false, false, false, false, false, false, false]
theorem moveAreas_wf : wfB 0 moveAreas_N = true := by kernel_rfl
theorem moveAreas_sz : szC moveAreas_Z moveAreas_I moveAreas_N moveAreas_Z moveAreas_I = true := by kernel_rfl
theorem moveAreas_lt : litB moveAreas_N moveAreas_L = true := by kernel_rfl
theorem moveAreas_cn : canB moveAreas_N moveAreas_C = true := by kernel_rfl
theorem moveAreas_c57 : cst 0 0 1 = (0 : Rat) := by decide +kernel
theorem moveAreas_f0 {z0 z1 z2 z3 z4 z5 z6 z7 z8 z9 z10 z11 z12 z13 z14 z15 z16 z17 z18 z19 z20 z21 z22 z23 z24 z25 z26 z27 z28 z29 z30 z31 z32 z33 z34 z35 z36 z37 z38 z39 z40 z41 z42 z43 z44 z45 z46 z47 z48 z49 z50 z51 z52 z53 : Rat} : z8 = z0 * z6 → z9 = z1 * z6 → z10 = z2 * z7 → z11 = z3 * z7 → z12 = z8 + z10 → z13 = z9 + z11 → z14 = z12 + z4 → z15 = z13 + z5 → z18 = z0 * z16 → z19 = z1 * z16 → z20 = z2 * z17 → z21 = z3 * z17 → z22 = z18 + z20 → z23 = z19 + z21 → z24 = z22 + z4 → z25 = z23 + z5 → z28 = z0 * z26 → z29 = z1 * z26 → z30 = z2 * z27 → z31 = z3 * z27 → z32 = z28 + z30 → z33 = z29 + z31 → z34 = z32 + z4 → z35 = z33 + z5 → z36 = z24 - z14 → z37 = z25 - z15 → z38 = z34 - z14 → z39 = z35 - z15 → z40 = z36 * z39 → z41 = z37 * z38 → z42 = z40 - z41 → z43 = z0 * z3 → z44 = z1 * z2 → z45 = z43 - z44 → z46 = z16 - z6 → z47 = z17 - z7 → z48 = z26 - z6 → z49 = z27 - z7 → z50 = z46 * z49 → z51 = z47 * z48 → z52 = z50 - z51 → z53 = z45 * z52 → z42 = z53 := by
 intro e8 e9 e10 e11 e12 e13 e14 e15 e18 e19 e20 e21 e22 e23 e24 e25 e28 e29 e30 e31 e32 e33 e34 e35 e36 e37 e38 e39 e40 e41 e42 e43 e44 e45 e46 e47 e48 e49 e50 e51 e52 e53
 subst_vars; grind
theorem moveAreas_f1 {z0 z2 z4 z6 z7 z8 z10 z12 z14 z16 z17 z18 z20 z22 z24 z36 z46 z47 z54 z55 z56 z57 z58 z59 z60 z61 z62 z64 z66 z68 z70 z72 z74 : Rat} : z8 = z0 * z6 → z10 = z2 * z7 → z12 = z8 + z10 → z14 = z12 + z4 → z18 = z0 * z16 → z20 = z2 * z17 → z22 = z18 + z20 → z24 = z22 + z4 → z36 = z24 - z14 → z46 = z16 - z6 → z47 = z17 - z7 → z55 = z46 * z54 → z56 = z47 * z54 → z57 = 0 → z58 = z57 + z6 → z59 = z57 + z7 → z60 = z58 + z55 → z61 = z59 + z56 → z62 = z0 * z60 → z64 = z2 * z61 → z66 = z62 + z64 → z68 = z66 + z4 → z70 = z36 * z54 → z72 = z57 + z14 → z74 = z72 + z70 → z68 = z74 := by
 intro e8 e10 e12 e14 e18 e20 e22 e24 e36 e46 e47 e55 e56 e57 e58 e59 e60 e61 e62 e64 e66 e68 e70 e72 e74
 subst_vars; grind
theorem moveAreas_f2 {z1 z3 z5 z6 z7 z9 z11 z13 z15 z16 z17 z19 z21 z23 z25 z37 z46 z47 z54 z55 z56 z57 z58 z59 z60 z61 z63 z65 z67 z69 z71 z73 z75 : Rat} : z9 = z1 * z6 → z11 = z3 * z7 → z13 = z9 + z11 → z15 = z13 + z5 → z19 = z1 * z16 → z21 = z3 * z17 → z23 = z19 + z21 → z25 = z23 + z5 → z37 = z25 - z15 → z46 = z16 - z6 → z47 = z17 - z7 → z55 = z46 * z54 → z56 = z47 * z54 → z57 = 0 → z58 = z57 + z6 → z59 = z57 + z7 → z60 = z58 + z55 → z61 = z59 + z56 → z63 = z1 * z60 → z65 = z3 * z61 → z67 = z63 + z65 → z69 = z67 + z5 → z71 = z37 * z54 → z73 = z57 + z15 → z75 = z73 + z71 → z69 = z75 := by
 intro e9 e11 e13 e15 e19 e21 e23 e25 e37 e46 e47 e55 e56 e57 e58 e59 e60 e61 e63 e65 e67 e69 e71 e73 e75
 subst_vars; grind
theorem moveAreas_r0 : (callB (sx Tryz.prog moveAreas_N [(3, 42, 53, 1), (3, 68, 74, 1), (3, 69, 75, 1)] [(208, [.inr (3, 7, 0, 0, 0)]), (208, [.inr (3, 43, 0, 0, 0)]), (208, [.inr (3, 79, 0, 0, 0)]), (208, [.inr (3, 142, 0, 0, 0)]), (208, [.inr (3, 219, 0, 0, 0)])] moveAreas_L moveAreas_C moveAreas_Z (prC [50])) 6 15 [(false, [(true, [.inr (2, 0, 0, 0, 0), .inr (2, 1, 0, 0, 0), .inr (2, 2, 0, 0, 0), .inr (2, 3, 0, 0, 0), .inr (2, 4, 0, 0, 0), .inr (2, 5, 0, 0, 0)])]), (false, [(true, [.inr (2, 6, 0, 0, 0), .inr (2, 7, 0, 0, 0)])]), (false, [(true, [.inr (2, 8, 0, 0, 0), .inr (2, 9, 0, 0, 0)])]), (false, [(true, [.inr (2, 10, 0, 0, 0), .inr (2, 11, 0, 0, 0)])]), (false, [(false, [.inr (2, 12, 0, 0, 0)])])] [] 0).map (·.1) = some (kB true) := by kernel_rfl
theorem moveAreas_An {a b : Prop} (x : a) (y : b) : a ∧ b := ⟨x, y⟩
theorem moveAreas_leaf {H : List (Nat × Nat × Nat × Nat)} {K : List (FuncId × List AC)} {k : Nat} {q : Nat → Rat} {σ : Nat → ByteArray} {args : List AV} {vs : List Value} {w : World} (hr : (callB (sx Tryz.prog moveAreas_N H K moveAreas_L moveAreas_C moveAreas_Z (prC [50])) k 15 args [] 0).map (·.1) = some (kB true)) (hσ : ∀ j, (σ j).size ≤ 1048576) (hq : ∀ (a : Nat) nd, moveAreas_N[a]? = some nd → q a = valN σ q nd) (h0 : ∀ a, moveAreas_N.length ≤ a → q a = 0) (hH : hAll q H) (hp : PreS w) (hA : ∀ K, A2 (avOn (cOn (evS q σ) K (fun _ => none) w)) args vs) : Calls Tryz.prog 15 vs.toArray w fun e w' => Below w.heap.size w w' ∧ e = .returned (.bool true) :=
 run_told' k (hy_ofW hσ moveAreas_wf moveAreas_sz moveAreas_lt moveAreas_cn hq h0 hH) (by simp [closed_moved]) (by kernel_rfl) hr hp (hA K)
theorem moveAreas_walk {w : World} {aa ab ac ad ae af sx sz tx tz ux uz k : ByteArray} (saa : aa.size ≤ 1048576) (sab : ab.size ≤ 1048576) (sac : ac.size ≤ 1048576) (sad : ad.size ≤ 1048576) (sae : ae.size ≤ 1048576) (saf : af.size ≤ 1048576) (ssx : sx.size ≤ 1048576) (ssz : sz.size ≤ 1048576) (stx : tx.size ≤ 1048576) (stz : tz.size ≤ 1048576) (sux : ux.size ≤ 1048576) (suz : uz.size ≤ 1048576) (sk : k.size ≤ 1048576) (tab : Tab w) (mx : MaxL w) :
  Calls Tryz.prog 15 #[.agg #[.string aa, .string ab, .string ac, .string ad, .string ae, .string af], .agg #[.string sx, .string sz], .agg #[.string tx, .string tz], .agg #[.string ux, .string uz], .string k] w fun e w' => Below w.heap.size w w' ∧ e = .returned (.bool true) := by
 have hσ : ∀ j, (sgOf [aa, ab, ac, ad, ae, af, sx, sz, tx, tz, ux, uz, k] j).size ≤ 1048576 := sgOf_size (by simp [saa, sab, sac, sad, sae, saf, ssx, ssz, stx, stz, sux, suz, sk])
 obtain ⟨q, hq, h0⟩ := nodes_exist (sgOf [aa, ab, ac, ad, ae, af, sx, sz, tx, tz, ux, uz, k]) moveAreas_N moveAreas_wf
 have hA : ∀ K, A2 (avOn (cOn (evS q (sgOf [aa, ab, ac, ad, ae, af, sx, sz, tx, tz, ux, uz, k])) K (fun _ => none) w)) [(false, [(true, [.inr (2, 0, 0, 0, 0), .inr (2, 1, 0, 0, 0), .inr (2, 2, 0, 0, 0), .inr (2, 3, 0, 0, 0), .inr (2, 4, 0, 0, 0), .inr (2, 5, 0, 0, 0)])]), (false, [(true, [.inr (2, 6, 0, 0, 0), .inr (2, 7, 0, 0, 0)])]), (false, [(true, [.inr (2, 8, 0, 0, 0), .inr (2, 9, 0, 0, 0)])]), (false, [(true, [.inr (2, 10, 0, 0, 0), .inr (2, 11, 0, 0, 0)])]), (false, [(false, [.inr (2, 12, 0, 0, 0)])])] [.agg #[.string aa, .string ab, .string ac, .string ad, .string ae, .string af], .agg #[.string sx, .string sz], .agg #[.string tx, .string tz], .agg #[.string ux, .string uz], .string k] := fun K => ⟨⟨⟨[.string aa, .string ab, .string ac, .string ad, .string ae, .string af], rfl, rfl, rfl, rfl, rfl, rfl, rfl, trivial⟩, trivial⟩, ⟨⟨[.string sx, .string sz], rfl, rfl, rfl, trivial⟩, trivial⟩, ⟨⟨[.string tx, .string tz], rfl, rfl, rfl, trivial⟩, trivial⟩, ⟨⟨[.string ux, .string uz], rfl, rfl, rfl, trivial⟩, trivial⟩, ⟨⟨rfl, trivial⟩, trivial⟩, trivial⟩
 have E8 : q 8 = q 0 * q 6 := hq 8 _ rfl
 have E9 : q 9 = q 1 * q 6 := hq 9 _ rfl
 have E10 : q 10 = q 2 * q 7 := hq 10 _ rfl
 have E11 : q 11 = q 3 * q 7 := hq 11 _ rfl
 have E12 : q 12 = q 8 + q 10 := hq 12 _ rfl
 have E13 : q 13 = q 9 + q 11 := hq 13 _ rfl
 have E14 : q 14 = q 12 + q 4 := hq 14 _ rfl
 have E15 : q 15 = q 13 + q 5 := hq 15 _ rfl
 have E18 : q 18 = q 0 * q 16 := hq 18 _ rfl
 have E19 : q 19 = q 1 * q 16 := hq 19 _ rfl
 have E20 : q 20 = q 2 * q 17 := hq 20 _ rfl
 have E21 : q 21 = q 3 * q 17 := hq 21 _ rfl
 have E22 : q 22 = q 18 + q 20 := hq 22 _ rfl
 have E23 : q 23 = q 19 + q 21 := hq 23 _ rfl
 have E24 : q 24 = q 22 + q 4 := hq 24 _ rfl
 have E25 : q 25 = q 23 + q 5 := hq 25 _ rfl
 have E28 : q 28 = q 0 * q 26 := hq 28 _ rfl
 have E29 : q 29 = q 1 * q 26 := hq 29 _ rfl
 have E30 : q 30 = q 2 * q 27 := hq 30 _ rfl
 have E31 : q 31 = q 3 * q 27 := hq 31 _ rfl
 have E32 : q 32 = q 28 + q 30 := hq 32 _ rfl
 have E33 : q 33 = q 29 + q 31 := hq 33 _ rfl
 have E34 : q 34 = q 32 + q 4 := hq 34 _ rfl
 have E35 : q 35 = q 33 + q 5 := hq 35 _ rfl
 have E36 : q 36 = q 24 - q 14 := hq 36 _ rfl
 have E37 : q 37 = q 25 - q 15 := hq 37 _ rfl
 have E38 : q 38 = q 34 - q 14 := hq 38 _ rfl
 have E39 : q 39 = q 35 - q 15 := hq 39 _ rfl
 have E40 : q 40 = q 36 * q 39 := hq 40 _ rfl
 have E41 : q 41 = q 37 * q 38 := hq 41 _ rfl
 have E42 : q 42 = q 40 - q 41 := hq 42 _ rfl
 have E43 : q 43 = q 0 * q 3 := hq 43 _ rfl
 have E44 : q 44 = q 1 * q 2 := hq 44 _ rfl
 have E45 : q 45 = q 43 - q 44 := hq 45 _ rfl
 have E46 : q 46 = q 16 - q 6 := hq 46 _ rfl
 have E47 : q 47 = q 17 - q 7 := hq 47 _ rfl
 have E48 : q 48 = q 26 - q 6 := hq 48 _ rfl
 have E49 : q 49 = q 27 - q 7 := hq 49 _ rfl
 have E50 : q 50 = q 46 * q 49 := hq 50 _ rfl
 have E51 : q 51 = q 47 * q 48 := hq 51 _ rfl
 have E52 : q 52 = q 50 - q 51 := hq 52 _ rfl
 have E53 : q 53 = q 45 * q 52 := hq 53 _ rfl
 have E55 : q 55 = q 46 * q 54 := hq 55 _ rfl
 have E56 : q 56 = q 47 * q 54 := hq 56 _ rfl
 have E57 : q 57 = 0 := (hq 57 _ rfl).trans moveAreas_c57
 have E58 : q 58 = q 57 + q 6 := hq 58 _ rfl
 have E59 : q 59 = q 57 + q 7 := hq 59 _ rfl
 have E60 : q 60 = q 58 + q 55 := hq 60 _ rfl
 have E61 : q 61 = q 59 + q 56 := hq 61 _ rfl
 have E62 : q 62 = q 0 * q 60 := hq 62 _ rfl
 have E63 : q 63 = q 1 * q 60 := hq 63 _ rfl
 have E64 : q 64 = q 2 * q 61 := hq 64 _ rfl
 have E65 : q 65 = q 3 * q 61 := hq 65 _ rfl
 have E66 : q 66 = q 62 + q 64 := hq 66 _ rfl
 have E67 : q 67 = q 63 + q 65 := hq 67 _ rfl
 have E68 : q 68 = q 66 + q 4 := hq 68 _ rfl
 have E69 : q 69 = q 67 + q 5 := hq 69 _ rfl
 have E70 : q 70 = q 36 * q 54 := hq 70 _ rfl
 have E71 : q 71 = q 37 * q 54 := hq 71 _ rfl
 have E72 : q 72 = q 57 + q 14 := hq 72 _ rfl
 have E73 : q 73 = q 57 + q 15 := hq 73 _ rfl
 have E74 : q 74 = q 72 + q 70 := hq 74 _ rfl
 have E75 : q 75 = q 73 + q 71 := hq 75 _ rfl
 have a_3_42_53 : q 42 = q 53 := moveAreas_f0 E8 E9 E10 E11 E12 E13 E14 E15 E18 E19 E20 E21 E22 E23 E24 E25 E28 E29 E30 E31 E32 E33 E34 E35 E36 E37 E38 E39 E40 E41 E42 E43 E44 E45 E46 E47 E48 E49 E50 E51 E52 E53
 have a_3_68_74 : q 68 = q 74 := moveAreas_f1 E8 E10 E12 E14 E18 E20 E22 E24 E36 E46 E47 E55 E56 E57 E58 E59 E60 E61 E62 E64 E66 E68 E70 E72 E74
 have a_3_69_75 : q 69 = q 75 := moveAreas_f2 E9 E11 E13 E15 E19 E21 E23 E25 E37 E46 E47 E55 E56 E57 E58 E59 E60 E61 E63 E65 E67 E69 E71 E73 E75
 exact moveAreas_leaf moveAreas_r0 hσ hq h0 (moveAreas_An (hT a_3_42_53) (moveAreas_An (hT a_3_68_74) (moveAreas_An (hT a_3_69_75) trivial))) ⟨tab, mx⟩ hA
end Go.Proofs.YtkcikcnimkofkaaGreatDoor
