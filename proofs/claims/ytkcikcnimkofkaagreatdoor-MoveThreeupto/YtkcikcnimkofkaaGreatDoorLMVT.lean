/- Part 13 of the walks and of the mathematics under them: VY VSZ CFmoved MVT. -/
import Derived.Test.YtkcikcnimkofkaaGreatDoorA12
set_option maxHeartbeats 16000000
set_option maxRecDepth 100000
/- VY -/
namespace Go.Proofs.YtkcikcnimkofkaaGreatDoor
open Go.RowKit Cx
theorem den_num (t : Rat) : t * (t.den : Rat) = ((t.num : Int) : Rat) := by
 conv => lhs; lhs; rw [← Rat.mkRat_self t]
 have h0 : (t.den : Rat) ≠ 0 := fun h => t.den_nz (by exact_mod_cast h)
 rw [Rat.mkRat_eq_div, Rat.div_mul_cancel h0]
theorem whole {q : Rat} (h : q.den = 1) : q = ((q.num : Int) : Rat) := by
 have := den_num q
 rw [h] at this
 rw [← this]
 show q = q * ((1 : Nat) : Rat)
 exact (Rat.mul_one q).symm
end Go.Proofs.YtkcikcnimkofkaaGreatDoor
/- VSZ -/
namespace Go.Proofs.YtkcikcnimkofkaaGreatDoor
open Go.RowKit Cx
def szW (Z : List Nat) (I : List Bool) (z : Nat) (b : Bool) (nd : Nd) : Bool := match nd.1, nd.2 with
 | 0, [_, n, d] => (Nat.blt n (2 ^ z) && (Nat.blt 0 d && Nat.blt d (2 ^ z))) && (!b || Nat.beq d 1)
 | 1, [_] => Nat.ble 3495259 z && !b
 | 2, [a, c] => (match Z[a]?, Z[c]?, I[a]?, I[c]? with
  | some x, some y, some true, some true => Nat.ble (Nat.max x y + 1) z
  | some x, some y, _, _ => Nat.ble (x + y + 1) z && !b
  | _, _, _, _ => false)
 | 3, [a, c] => (match Z[a]?, Z[c]?, I[a]?, I[c]? with
  | some x, some y, some true, some true => Nat.ble (Nat.max x y + 1) z
  | some x, some y, _, _ => Nat.ble (x + y + 1) z && !b
  | _, _, _, _ => false)
 | 4, [a, c] => (match Z[a]?, Z[c]?, I[a]?, I[c]? with
  | some x, some y, some true, some true => Nat.ble (x + y) z
  | some x, some y, _, _ => Nat.ble (x + y) z && !b
  | _, _, _, _ => false)
 | 5, [a] => (match Z[a]?, I[a]? with
  | some x, some true => Nat.ble x z
  | some x, _ => Nat.ble x z && !b
  | _, _ => false)
 | 6, [a, c] => (match Z[a]?, Z[c]? with
  | some x, some y => Nat.ble (x + y) z && !b
  | _, _ => false)
 | 8, i :: xs => (match getsO Z xs with
  | some zs => Nat.blt i xs.length && (Nat.ble ((xs.length + 1) * maxL zs + 1) z || (xs.all (fun a => match I[a]? with
   | some true => true
   | _ => false) && (match xs[i]? with
   | some a => (match Z[a]? with
    | some x => Nat.ble (x + 1) z
    | none => false)
   | none => false)))
  | none => false)
 | _, _ => false
def szC (Z : List Nat) (I : List Bool) : List Nd → List Nat → List Bool → Bool
 | [], [], [] => true
 | nd :: ns, z :: zs, b :: bs => (szW Z I z b nd && Nat.ble z 1000000000000) && szC Z I ns zs bs
 | _, _, _ => false
theorem szC_get {Z : List Nat} {I : List Bool} : ∀ {ns : List Nd} {zs : List Nat} {bs : List Bool} {i z : Nat}, szC Z I ns zs bs = true → zs[i]? = some z → ∃ nd b, ns[i]? = some nd ∧ bs[i]? = some b ∧ szW Z I z b nd = true ∧ z ≤ 1000000000000
 | [], [], [], _, _, _, h => by simp at h
 | [], [], _ :: _, _, _, h, _ => by cases h
 | [], _ :: _, _, _, _, h, _ => by cases h
 | _ :: _, [], _, _, _, h, _ => by cases h
 | _ :: _, _ :: _, [], _, _, h, _ => by cases h
 | nd :: ns, z' :: zs, b :: bs, 0, z, h, e => by
  have : z' = z := by simpa using e
  subst this
  unfold szC at h
  simp only [Bool.and_eq_true, Nat.ble_eq] at h
  exact ⟨nd, b, rfl, rfl, h.1.1, h.1.2⟩
 | nd :: ns, z' :: zs, b :: bs, i + 1, z, h, e => by
  unfold szC at h
  rw [Bool.and_eq_true] at h
  obtain ⟨nd2, b2, g1, g2, g3⟩ := szC_get (ns := ns) (zs := zs) (bs := bs) h.2 (show zs[i]? = some z by simpa using e)
  exact ⟨nd2, b2, by simpa using g1, by simpa using g2, g3⟩
theorem szC_len {Z : List Nat} {I : List Bool} : ∀ {ns : List Nd} {zs : List Nat} {bs : List Bool}, szC Z I ns zs bs = true → ns.length = zs.length
 | [], [], [], _ => rfl
 | [], [], _ :: _, h => by cases h
 | [], _ :: _, _, h => by cases h
 | _ :: _, [], _, h => by cases h
 | _ :: _, _ :: _, [], h => by cases h
 | _ :: _, _ :: _, _ :: _, h => by
  unfold szC at h
  rw [Bool.and_eq_true] at h
  exact congrArg (· + 1) (szC_len h.2)
structure QW (z : Nat) (x : Rat) : Prop where
 qs : QS z x
 wh : x.den = 1
theorem QW.of {z : Nat} {n : Int} (h : n.natAbs < 2 ^ z) (hz : 0 < z) : QW z ((n : Int) : Rat) :=
 ⟨⟨by simpa using h, by
  show ((n : Int) : Rat).den < 2 ^ z
  rw [Rat.den_intCast]
  exact Nat.one_lt_two_pow (by omega)⟩, Rat.den_intCast n⟩
theorem QW.mono {k l : Nat} {x : Rat} (h : QW k x) (hk : k ≤ l) : QW l x := ⟨h.qs.mono hk, h.wh⟩
theorem two_max {a b x y : Nat} (h1 : a < 2 ^ x) (h2 : b < 2 ^ y) : a + b < 2 ^ (Nat.max x y + 1) := by
 have e1 : 2 ^ x ≤ 2 ^ Nat.max x y := Nat.pow_le_pow_right (by decide) (Nat.le_max_left x y)
 have e2 : 2 ^ y ≤ 2 ^ Nat.max x y := Nat.pow_le_pow_right (by decide) (Nat.le_max_right x y)
 rw [Nat.pow_succ]
 omega
theorem QW.add {x y : Nat} {a b : Rat} (h1 : QW x a) (h2 : QW y b) : QW (Nat.max x y + 1) (a + b) := by
 rw [whole h1.wh, whole h2.wh, ← Rat.intCast_add]
 refine QW.of ?_ (by omega)
 have := two_max h1.qs.num h2.qs.num
 omega
theorem QW.sub {x y : Nat} {a b : Rat} (h1 : QW x a) (h2 : QW y b) : QW (Nat.max x y + 1) (a - b) := by
 rw [whole h1.wh, whole h2.wh, ← Rat.intCast_sub]
 refine QW.of ?_ (by omega)
 have := two_max h1.qs.num h2.qs.num
 omega
theorem QW.mul {x y : Nat} {a b : Rat} (h1 : QW x a) (h2 : QW y b) : QW (x + y) (a * b) := by
 refine ⟨h1.qs.mul h2.qs, ?_⟩
 rw [whole h1.wh, whole h2.wh, ← Rat.intCast_mul]
 exact Rat.den_intCast _
theorem QW.neg {x : Nat} {a : Rat} (h1 : QW x a) : QW x (-a) := ⟨h1.qs.neg, h1.wh⟩
theorem lD_one : ∀ {qs : List Rat} {m : Nat}, (∀ q ∈ qs, q.den = 1) → qs.foldl (fun m q => m * (q.den / Nat.gcd m q.den)) m = m
 | [], _, _ => rfl
 | q :: qs, m, h => by
  rw [List.foldl_cons, h q List.mem_cons_self, Nat.gcd_one_right, Nat.div_self (by decide), Nat.mul_one]
  exact lD_one fun p hp => h p (List.mem_cons_of_mem _ hp)
theorem QW.fac {z : Nat} {qs : List Rat} {x : Rat} (hx : QS z x) (h : x ∈ qs) (hw : ∀ y ∈ qs, y.den = 1) : QS (z + 1) (x * fac qs) := by
 have hl : lD qs = 1 := lD_one hw
 refine ⟨?_, ?_⟩
 ·rw [fac_abs h, hl, hw x h, Nat.div_self (by decide), Nat.mul_one]
  exact Nat.lt_of_le_of_lt (Nat.div_le_self _ _) (Nat.lt_of_lt_of_le hx.num (Nat.pow_le_pow_right (by decide) (by omega)))
 ·rw [fac_den h]
  exact Nat.one_lt_two_pow (by omega)
theorem ten_three : ∀ n : Nat, 10 ^ n ≤ 2 ^ ((10 * n + 2) / 3)
 | 0 => by decide
 | 1 => by decide
 | 2 => by decide
 | n + 3 => by
  have h := ten_three n
  have e : (10 * (n + 3) + 2) / 3 = (10 * n + 2) / 3 + 10 := by omega
  rw [e, Nat.pow_add, Nat.pow_add]
  exact Nat.mul_le_mul h (by decide)
theorem QS.rd3 (l : List UInt8) : QS ((10 * l.length + 2) / 3 + 5) (Cx.rd l) := by
 have key : ∀ {m : List UInt8}, digs m = true → dv m < 2 ^ ((10 * m.length + 2) / 3) := fun {m} h => Nat.lt_of_lt_of_le (dv_lt (digs_all h)) (ten_three _)
 unfold Cx.rd
 split
 ·rename_i h
  rw [Bool.and_eq_true] at h
  have h1 := key h.1
  have h2 := key h.2
  have h3 := up_len (tailOf l)
  have h4 := low_len (tailOf l)
  have h5 := tail_len l
  apply QS.mkr
  ·rw [sg_abs]; exact Nat.lt_of_lt_of_le h1 (Nat.pow_le_pow_right (by decide) (by omega))
  ·exact Nat.lt_of_lt_of_le h2 (Nat.pow_le_pow_right (by decide) (by omega))
 ·exact QS.zero.mono (by omega)
section
variable {N : List Nd} {Z : List Nat} {I : List Bool} {q : Nat → Rat}
theorem sizes_okW {σ : Nat → ByteArray} (hσ : ∀ j, (σ j).size ≤ 1048576) (hw : wfB 0 N = true) (hz : szC Z I N Z I = true) (hq : ∀ (a : Nat) nd, N[a]? = some nd → q a = valN σ q nd) (h0 : ∀ a, N.length ≤ a → q a = 0) : (∀ (a : Nat) z, Z[a]? = some z → QS z (q a)) ∧ ∀ a, QS 1000000000000 (q a) := by
 have h2 : ∀ (a : Nat) z, Z[a]? = some z → QS z (q a) ∧ (I[a]? = some true → (q a).den = 1) := by
  intro a
  induction a using Nat.strongRecOn with
  | ind a ih =>
   intro z hz'
   obtain ⟨nd, b, hn, hb, hs, _⟩ := szC_get hz hz'
   have hwf := wfB_get hw hn
   rw [Nat.zero_add] at hwf
   rw [hq a nd hn, hb]
   obtain ⟨op, xs⟩ := nd
   unfold szW at hs
   unfold valN
   unfold wfN at hwf
   dsimp only at hs hwf ⊢
   have W : ∀ {c x}, c < a → Z[c]? = some x → I[c]? = some true → QW x (q c) := fun hc hx hi => ⟨(ih _ hc _ hx).1, (ih _ hc _ hx).2 hi⟩
   have no : ∀ {v : Rat}, b = false → (some b = some true → v.den = 1) := fun e h => by rw [e] at h; cases h
   split at hs
   ·rename_i s n d
    simp only [Bool.and_eq_true] at hs
    obtain ⟨⟨h1, h2, h3⟩, h4⟩ := hs
    refine ⟨QS.const (by simpa [Nat.blt_eq] using h1) (by simpa [Nat.blt_eq] using h2) (by simpa [Nat.blt_eq] using h3), fun e => ?_⟩
    rw [show b = true from Option.some.inj e] at h4
    have hd : d = 1 := by simpa using h4
    subst hd
    show (if s = 0 then mkRat (n : Int) 1 else mkRat (-(n : Int)) 1).den = 1
    split
    ·rw [Rat.mkRat_one]
     exact Rat.den_intCast _
    ·rw [Rat.mkRat_one]
     exact Rat.den_intCast _
   ·rename_i j
    simp only [Bool.and_eq_true, Nat.ble_eq, Bool.not_eq_true'] at hs
    exact ⟨QS.mono (QS.rd3 _) (by have := hσ j; rw [str_len]; omega), no hs.2⟩
   ·simp only [List.all_cons, List.all_nil, Bool.and_true, Bool.and_eq_true] at hwf
    have l1 := (by simpa [Nat.blt_eq] using hwf.1 : _ < a)
    have l2 := (by simpa [Nat.blt_eq] using hwf.2 : _ < a)
    split at hs
    ·rename_i x y hx hy i1 i2
     rw [Nat.ble_eq] at hs
     have := ((W l1 hx i1).add (W l2 hy i2)).mono hs
     exact ⟨this.qs, fun _ => this.wh⟩
    ·rename_i x y hx hy _
     simp only [Bool.and_eq_true, Nat.ble_eq, Bool.not_eq_true'] at hs
     exact ⟨((ih _ l1 x hx).1.add (ih _ l2 y hy).1).mono hs.1, no hs.2⟩
    ·cases hs
   ·simp only [List.all_cons, List.all_nil, Bool.and_true, Bool.and_eq_true] at hwf
    have l1 := (by simpa [Nat.blt_eq] using hwf.1 : _ < a)
    have l2 := (by simpa [Nat.blt_eq] using hwf.2 : _ < a)
    split at hs
    ·rename_i x y hx hy i1 i2
     rw [Nat.ble_eq] at hs
     have := ((W l1 hx i1).sub (W l2 hy i2)).mono hs
     exact ⟨this.qs, fun _ => this.wh⟩
    ·rename_i x y hx hy _
     simp only [Bool.and_eq_true, Nat.ble_eq, Bool.not_eq_true'] at hs
     exact ⟨((ih _ l1 x hx).1.sub (ih _ l2 y hy).1).mono hs.1, no hs.2⟩
    ·cases hs
   ·simp only [List.all_cons, List.all_nil, Bool.and_true, Bool.and_eq_true] at hwf
    have l1 := (by simpa [Nat.blt_eq] using hwf.1 : _ < a)
    have l2 := (by simpa [Nat.blt_eq] using hwf.2 : _ < a)
    split at hs
    ·rename_i x y hx hy i1 i2
     rw [Nat.ble_eq] at hs
     have := ((W l1 hx i1).mul (W l2 hy i2)).mono hs
     exact ⟨this.qs, fun _ => this.wh⟩
    ·rename_i x y hx hy _
     simp only [Bool.and_eq_true, Nat.ble_eq, Bool.not_eq_true'] at hs
     exact ⟨((ih _ l1 x hx).1.mul (ih _ l2 y hy).1).mono hs.1, no hs.2⟩
    ·cases hs
   ·simp only [List.all_cons, List.all_nil, Bool.and_true] at hwf
    have l1 := (by simpa [Nat.blt_eq] using hwf : _ < a)
    split at hs
    ·rename_i x hx i1
     rw [Nat.ble_eq] at hs
     have := (W l1 hx i1).neg.mono hs
     exact ⟨this.qs, fun _ => this.wh⟩
    ·rename_i x hx _
     simp only [Bool.and_eq_true, Nat.ble_eq, Bool.not_eq_true'] at hs
     exact ⟨((ih _ l1 x hx).1.neg).mono hs.1, no hs.2⟩
    ·cases hs
   ·simp only [List.all_cons, List.all_nil, Bool.and_true, Bool.and_eq_true] at hwf
    split at hs
    ·rename_i x y hx hy
     simp only [Bool.and_eq_true, Nat.ble_eq, Bool.not_eq_true'] at hs
     exact ⟨((ih _ (by simpa [Nat.blt_eq] using hwf.1) x hx).1.div (ih _ (by simpa [Nat.blt_eq] using hwf.2) y hy).1).mono hs.1, no hs.2⟩
    ·cases hs
   ·rename_i i ys
    split at hs
    ·rename_i zs hzs
     rw [Bool.and_eq_true] at hs
     have hi : i < ys.length := by simpa [Nat.blt_eq] using hs.1
     have hwf' : ys.all (Nat.blt · a) = true := hwf
     rw [List.all_eq_true] at hwf'
     have hlt : ∀ c ∈ ys, c < a := fun c hc => by simpa [Nat.blt_eq] using hwf' c hc
     have hm : q ys[i] ∈ ys.map q := List.mem_map_of_mem (List.getElem_mem hi)
     have hg : (ys.map q).getD i 0 = q ys[i] := by
      rw [List.getD_eq_getElem?_getD, List.getElem?_map, List.getElem?_eq_getElem hi]
      rfl
     show QS z ((ys.map q).getD i 0 * fac (ys.map q)) ∧ (some b = some true → ((ys.map q).getD i 0 * fac (ys.map q)).den = 1)
     rw [hg]
     refine ⟨?_, fun _ => fac_den hm⟩
     rcases Bool.or_eq_true _ _ ▸ hs.2 with h3 | h3
     ·rw [Nat.ble_eq] at h3
      have hall : ∀ y ∈ ys.map q, QS (maxL zs) y := fun y hy => by
       obtain ⟨c, hc, rfl⟩ := List.mem_map.1 hy
       obtain ⟨z', hm', hz2⟩ := getsO_get hzs c hc
       exact (ih c (hlt c hc) z' hz2).1.mono (le_maxL z' hm')
      have := QS.facN hall (x := q ys[i]) hm
      rw [List.length_map] at this
      exact this.mono h3
     ·rw [Bool.and_eq_true, List.all_eq_true] at h3
      obtain ⟨h4, h5⟩ := h3
      have hwh : ∀ y ∈ ys.map q, y.den = 1 := fun y hy => by
       obtain ⟨c, hc, rfl⟩ := List.mem_map.1 hy
       obtain ⟨z', _, hz2⟩ := getsO_get hzs c hc
       refine (ih c (hlt c hc) z' hz2).2 ?_
       have := h4 c hc
       split at this
       ·assumption
       ·cases this
      rw [List.getElem?_eq_getElem hi] at h5
      dsimp only at h5
      split at h5
      ·rename_i x hx
       rw [Nat.ble_eq] at h5
       exact (QW.fac (ih _ (hlt _ (List.getElem_mem hi)) x hx).1 hm hwh).mono h5
      ·cases h5
    ·cases hs
   ·cases hs
 refine ⟨fun a z h => (h2 a z h).1, fun a => ?_⟩
 have hl := szC_len hz
 by_cases ha : a < Z.length
 ·obtain ⟨nd, b, _, _, _, hle⟩ := szC_get hz (List.getElem?_eq_getElem ha)
  exact (h2 a _ (List.getElem?_eq_getElem ha)).1.mono hle
 ·rw [h0 a (by omega)]
  exact QS.zero.mono (by decide)
theorem hy_ofW {L C : List (List Nat × Nat)} {σ : Nat → ByteArray} {H : List (Nat × Nat × Nat × Nat)} (hσ : ∀ j, (σ j).size ≤ 1048576) (hw : wfB 0 N = true) (hz : szC Z I N Z I = true) (hl : litB N L = true) (hcn : canB N C = true) (hq : ∀ (a : Nat) nd, N[a]? = some nd → q a = valN σ q nd) (h0 : ∀ a, N.length ≤ a → q a = 0) (hH : hAll q H) : Hy N H L C Z q σ where
 nat := hq
 qs := (sizes_okW hσ hw hz hq h0).2
 zs := (sizes_okW hσ hw hz hq h0).1
 par := hσ
 lit := fun s b h => lit_rd hl hq h
 k0 := fun a r h => kn_at hH h
 k1 := fun a r h => kn_at hH h
 k2 := fun a r h => kn_at hH h
 k3 := fun a b r h => kn_at hH h
 k4 := fun l a b r h1 h2 => by
  have h3 : Nat.beq 1 r = true ↔ q a = q b := kn_at hH h2
  rw [h3, ← can_tx hcn hq h1]
  exact ⟨fun e => by rw [e], fun e => tellS_inj (bytesN_inj e)⟩
 k6 := fun a b r h => kn_at hH h
 k5 := fun a r h => kn_at hH h
end
end Go.Proofs.YtkcikcnimkofkaaGreatDoor
/- CFmoved -/
namespace Go.Proofs.YtkcikcnimkofkaaGreatDoor
open Go.RowKit Cx
theorem closed_moved : Closed 50 :=
 closed_told (N := [(0, [0, 1, 1]), (0, [0, 0, 1]), (4, [0, 1]), (4, [1, 1]), (2, [2, 3]), (2, [4, 1]), (5, [5]), (4, [0, 6]), (4, [1, 6]), (4, [0, 0]), (2, [9, 3]), (6, [7, 10]), (6, [8, 10]), (0, [0, 2, 1]), (4, [11, 13]), (4, [12, 13]), (2, [1, 14]), (2, [1, 15]), (2, [10, 1]), (5, [18]), (4, [0, 19]), (4, [1, 19]), (6, [20, 10]), (6, [21, 10]), (4, [22, 13]), (4, [23, 13]), (2, [0, 24]), (2, [1, 25]), (3, [26, 16]), (3, [27, 17]), (4, [1, 0]), (2, [2, 30]), (2, [31, 1]), (5, [32]), (4, [0, 33]), (4, [1, 33]), (6, [34, 10]), (6, [35, 10]), (4, [36, 13]), (4, [37, 13]), (2, [1, 38]), (2, [0, 39]), (3, [40, 16]), (3, [41, 17]), (0, [1, 1, 1]), (2, [4, 44]), (5, [45]), (4, [0, 46]), (4, [1, 46]), (6, [47, 10]), (6, [48, 10]), (4, [49, 13]), (4, [50, 13]), (2, [1, 51]), (2, [1, 52]), (2, [10, 44]), (5, [55]), (4, [0, 56]), (4, [1, 56]), (6, [57, 10]), (6, [58, 10]), (4, [59, 13]), (4, [60, 13]), (2, [0, 61]), (2, [1, 62]), (3, [63, 53]), (3, [64, 54]), (2, [31, 44]), (5, [67]), (4, [0, 68]), (4, [1, 68]), (6, [69, 10]), (6, [70, 10]), (4, [71, 13]), (4, [72, 13]), (2, [1, 73]), (2, [0, 74]), (3, [75, 53]), (3, [76, 54]), (4, [65, 28]), (4, [66, 28]), (4, [77, 29]), (4, [78, 29]), (2, [79, 81]), (2, [80, 82]), (4, [65, 42]), (4, [66, 42]), (4, [77, 43]), (4, [78, 43]), (2, [85, 87]), (2, [86, 88]), (4, [65, 16]), (4, [66, 16]), (4, [77, 17]), (4, [78, 17]), (2, [91, 93]), (2, [92, 94]), (2, [95, 53]), (2, [96, 54]), (4, [83, 83]), (4, [84, 84]), (2, [99, 100]), (3, [101, 0]), (4, [89, 89]), (4, [90, 90]), (2, [103, 104]), (3, [105, 0]), (4, [83, 89]), (4, [84, 90]), (2, [107, 108]), (4, [83, 90]), (4, [84, 89]), (3, [110, 111]), (3, [83, 0]), (3, [84, 1]), (0, [0, 3, 1]), (0, [0, 4, 1]), (4, [28, 115]), (4, [29, 115]), (4, [42, 116]), (4, [43, 116]), (2, [117, 119]), (2, [118, 120]), (2, [121, 16]), (2, [122, 17]), (0, [1, 3, 1])]) (H := [(0, 0, 0, 0), (0, 102, 0, 1), (0, 106, 0, 1), (0, 109, 0, 1), (1, 112, 0, 0), (0, 113, 0, 1), (0, 114, 0, 1), (0, 97, 0, 0), (4, 83, 0, 1), (4, 89, 1, 1), (4, 97, 13, 1), (4, 84, 1, 1), (4, 90, 0, 1), (4, 98, 1, 1), (4, 123, 125, 1), (4, 124, 116, 1)]) (K := [(218, [.inr (3, 9, 0, 0, 0)]), (218, [.inr (3, 121, 0, 0, 0)]), (208, [.inr (3, 227, 0, 0, 0)]), (208, [.inr (3, 238, 0, 0, 0)]), (208, [.inr (3, 311, 0, 0, 0)]), (219, []), (208, [.inr (3, 354, 0, 0, 0)])]) (L := [([49], 0), ([48], 1), ([45, 49], 44), ([50], 13), ([51], 115), ([52], 116), ([45, 51], 125)]) (C := [([49], 0), ([48], 1), ([50], 13), ([45, 51], 125), ([52], 116)]) (Z := [2, 2, 4, 4, 9, 12, 12, 14, 14, 4, 9, 23, 23, 3, 26, 26, 29, 29, 12, 12, 14, 14, 23, 23, 26, 26, 29, 29, 59, 59, 4, 9, 12, 12, 14, 14, 23, 23, 26, 26, 29, 29, 59, 59, 2, 12, 12, 14, 14, 23, 23, 26, 26, 29, 29, 12, 12, 14, 14, 23, 23, 26, 26, 29, 29, 59, 59, 12, 12, 14, 14, 23, 23, 26, 26, 29, 29, 59, 59, 118, 118, 118, 118, 237, 237, 118, 118, 118, 118, 237, 237, 88, 88, 88, 88, 177, 177, 207, 207, 474, 474, 949, 952, 474, 474, 949, 952, 474, 474, 949, 474, 474, 949, 240, 240, 3, 4, 62, 62, 63, 63, 126, 126, 156, 156, 3]) (cl := []) 8 (fun _ h => by cases h) (by kernel_rfl) (by kernel_rfl) (by kernel_rfl) (by kernel_rfl) (by kernel_rfl) (by kernel_rfl) (by kernel_rfl)
end Go.Proofs.YtkcikcnimkofkaaGreatDoor
/- MVT -/
namespace Go.Proofs.YtkcikcnimkofkaaGreatDoor
open Go.RowKit Cx
def moveThree_N : List Nd := [(1, [0]), (1, [1]), (1, [2]), (1, [3]), (3, [2, 0]), (3, [3, 1]), (1, [4]), (1, [5]), (3, [6, 0]), (3, [7, 1]), (4, [4, 9]), (4, [5, 8]), (3, [10, 11]), (0, [0, 1, 1]), (4, [13, 9]), (0, [0, 0, 1]), (4, [15, 8]), (3, [14, 16]), (4, [4, 15]), (4, [5, 13]), (3, [18, 19]), (6, [17, 12]), (6, [20, 12]), (4, [15, 9]), (4, [13, 8]), (3, [23, 24]), (4, [4, 13]), (4, [5, 15]), (3, [26, 27]), (6, [25, 12]), (6, [28, 12]), (4, [0, 9]), (4, [1, 8]), (3, [31, 32]), (4, [4, 1]), (4, [5, 0]), (3, [34, 35]), (6, [33, 12]), (6, [36, 12]), (5, [37]), (5, [38]), (1, [6]), (1, [7]), (1, [8]), (1, [9]), (3, [43, 41]), (3, [44, 42]), (1, [10]), (1, [11]), (3, [47, 41]), (3, [48, 42]), (4, [45, 21]), (4, [46, 21]), (4, [49, 22]), (4, [50, 22]), (2, [51, 53]), (2, [52, 54]), (4, [45, 29]), (4, [46, 29]), (4, [49, 30]), (4, [50, 30]), (2, [57, 59]), (2, [58, 60]), (4, [45, 39]), (4, [46, 39]), (4, [49, 40]), (4, [50, 40]), (2, [63, 65]), (2, [64, 66]), (2, [67, 41]), (2, [68, 42]), (4, [55, 0]), (4, [61, 1]), (2, [71, 72]), (2, [73, 69]), (4, [56, 0]), (4, [62, 1]), (2, [75, 76]), (2, [77, 70]), (3, [74, 41]), (3, [78, 42]), (4, [55, 2]), (4, [61, 3]), (2, [81, 82]), (2, [83, 69]), (4, [56, 2]), (4, [62, 3]), (2, [85, 86]), (2, [87, 70]), (3, [84, 43]), (3, [88, 44]), (4, [55, 6]), (4, [61, 7]), (2, [91, 92]), (2, [93, 69]), (4, [56, 6]), (4, [62, 7]), (2, [95, 96]), (2, [97, 70]), (3, [94, 47]), (3, [98, 48])]
def moveThree_L : List (List Nat × Nat) := []
def moveThree_C : List (List Nat × Nat) := []
def moveThree_Z : List Nat := [3495259, 3495259, 3495259, 3495259, 6990519, 6990519, 3495259, 3495259, 6990519, 6990519, 13981038, 13981038, 27962077, 2, 6990521, 2, 6990521, 13981043, 6990521, 6990521, 13981043, 41943120, 41943120, 6990521, 6990521, 13981043, 6990521, 6990521, 13981043, 41943120, 41943120, 10485778, 10485778, 20971557, 10485778, 10485778, 20971557, 48933634, 48933634, 48933634, 48933634, 3495259, 3495259, 3495259, 3495259, 6990519, 6990519, 3495259, 3495259, 6990519, 6990519, 48933639, 48933639, 48933639, 48933639, 97867279, 97867279, 48933639, 48933639, 48933639, 48933639, 97867279, 97867279, 55924153, 55924153, 55924153, 55924153, 111848307, 111848307, 115343567, 115343567, 101362538, 101362538, 202725077, 318068645, 101362538, 101362538, 202725077, 318068645, 321563905, 321563905, 101362538, 101362538, 202725077, 318068645, 101362538, 101362538, 202725077, 318068645, 321563905, 321563905, 101362538, 101362538, 202725077, 318068645, 101362538, 101362538, 202725077, 318068645, 321563905, 321563905]
def moveThree_I : List Bool := [false, false, false, false, false, false, false, false, false, false, false, false, false, true, false, true, false, false, false, false, false, false, false, false, false, false, false, false, false, false, false, false, false, false, false, false, false, false, false, false, false, false, false, false, false, false, false, false, false, false, false, false, false, false, false, false, false, false, false, false, false, false, false, false, false, false, false, false, false, false, false, false, false, false, false, false, false, false, false, false, false, false, false, false, false, false, false, false, false, false, false, false, false, false, false, false, false, false, false, false, false]
theorem moveThree_wf : wfB 0 moveThree_N = true := by kernel_rfl
theorem moveThree_sz : szC moveThree_Z moveThree_I moveThree_N moveThree_Z moveThree_I = true := by kernel_rfl
theorem moveThree_lt : litB moveThree_N moveThree_L = true := by kernel_rfl
theorem moveThree_cn : canB moveThree_N moveThree_C = true := by kernel_rfl
theorem moveThree_c13 : cst 0 1 1 = (1 : Rat) := by decide +kernel
theorem moveThree_c15 : cst 0 0 1 = (0 : Rat) := by decide +kernel
theorem moveThree_f0 {z0 z1 z2 z3 z4 z5 z6 z7 z8 z9 z10 z11 z12 z13 z14 z15 z16 z17 z18 z19 z20 z21 z22 z23 z24 z25 z26 z27 z28 z29 z30 z31 z32 z33 z34 z35 z36 z37 z38 z39 z40 z41 z43 z45 z47 z49 z51 z53 z55 z57 z59 z61 z63 z65 z67 z69 z71 z72 z73 z74 z79 : Rat} : z4 = z2 - z0 → z5 = z3 - z1 → z8 = z6 - z0 → z9 = z7 - z1 → z10 = z4 * z9 → z11 = z5 * z8 → z12 = z10 - z11 → z13 = 1 → z14 = z13 * z9 → z15 = 0 → z16 = z15 * z8 → z17 = z14 - z16 → z18 = z4 * z15 → z19 = z5 * z13 → z20 = z18 - z19 → z21 = z17 / z12 → z22 = z20 / z12 → z23 = z15 * z9 → z24 = z13 * z8 → z25 = z23 - z24 → z26 = z4 * z13 → z27 = z5 * z15 → z28 = z26 - z27 → z29 = z25 / z12 → z30 = z28 / z12 → z31 = z0 * z9 → z32 = z1 * z8 → z33 = z31 - z32 → z34 = z4 * z1 → z35 = z5 * z0 → z36 = z34 - z35 → z37 = z33 / z12 → z38 = z36 / z12 → z39 = -z37 → z40 = -z38 → z45 = z43 - z41 → z49 = z47 - z41 → z51 = z45 * z21 → z53 = z49 * z22 → z55 = z51 + z53 → z57 = z45 * z29 → z59 = z49 * z30 → z61 = z57 + z59 → z63 = z45 * z39 → z65 = z49 * z40 → z67 = z63 + z65 → z69 = z67 + z41 → z71 = z55 * z0 → z72 = z61 * z1 → z73 = z71 + z72 → z74 = z73 + z69 → z79 = z74 - z41 → (¬ (z12 = 0)) → z79 = 0 := by
 intro e4 e5 e8 e9 e10 e11 e12 e13 e14 e15 e16 e17 e18 e19 e20 e21 e22 e23 e24 e25 e26 e27 e28 e29 e30 e31 e32 e33 e34 e35 e36 e37 e38 e39 e40 e45 e49 e51 e53 e55 e57 e59 e61 e63 e65 e67 e69 e71 e72 e73 e74 e79 u0
 have w12 : z12 ≠ 0 := by first | assumption | grind
 have n12 : z12 ≠ 0 := w12
 have h21 : z21 * z12 = z17 := by rw [e21]; exact Rat.div_mul_cancel n12
 obtain ⟨m21, hm21⟩ : ∃ m, m = z17 := ⟨_, rfl⟩
 have d21 : z21 * z12 = m21 := by
  have q : z21 * z12 = z21 * z12 := by grind
  rw [q, h21, hm21]
 clear h21 e21
 have h22 : z22 * z12 = z20 := by rw [e22]; exact Rat.div_mul_cancel n12
 obtain ⟨m22, hm22⟩ : ∃ m, m = z20 := ⟨_, rfl⟩
 have d22 : z22 * z12 = m22 := by
  have q : z22 * z12 = z22 * z12 := by grind
  rw [q, h22, hm22]
 clear h22 e22
 have h29 : z29 * z12 = z25 := by rw [e29]; exact Rat.div_mul_cancel n12
 obtain ⟨m29, hm29⟩ : ∃ m, m = z25 := ⟨_, rfl⟩
 have d29 : z29 * z12 = m29 := by
  have q : z29 * z12 = z29 * z12 := by grind
  rw [q, h29, hm29]
 clear h29 e29
 have h30 : z30 * z12 = z28 := by rw [e30]; exact Rat.div_mul_cancel n12
 obtain ⟨m30, hm30⟩ : ∃ m, m = z28 := ⟨_, rfl⟩
 have d30 : z30 * z12 = m30 := by
  have q : z30 * z12 = z30 * z12 := by grind
  rw [q, h30, hm30]
 clear h30 e30
 have h37 : z37 * z12 = z33 := by rw [e37]; exact Rat.div_mul_cancel n12
 obtain ⟨m37, hm37⟩ : ∃ m, m = z33 := ⟨_, rfl⟩
 have d37 : z37 * z12 = m37 := by
  have q : z37 * z12 = z37 * z12 := by grind
  rw [q, h37, hm37]
 clear h37 e37
 have h38 : z38 * z12 = z36 := by rw [e38]; exact Rat.div_mul_cancel n12
 obtain ⟨m38, hm38⟩ : ∃ m, m = z36 := ⟨_, rfl⟩
 have d38 : z38 * z12 = m38 := by
  have q : z38 * z12 = z38 * z12 := by grind
  rw [q, h38, hm38]
 clear h38 e38
 obtain ⟨m39, hm39⟩ : ∃ m, m = -m37 := ⟨_, rfl⟩
 have d39 : z39 * z12 = m39 := by
  have q : z39 * z12 = -(z37 * z12) := by rw [e39]; grind
  rw [q, d37, hm39]
 clear e39
 obtain ⟨m40, hm40⟩ : ∃ m, m = -m38 := ⟨_, rfl⟩
 have d40 : z40 * z12 = m40 := by
  have q : z40 * z12 = -(z38 * z12) := by rw [e40]; grind
  rw [q, d38, hm40]
 clear e40
 obtain ⟨m51, hm51⟩ : ∃ m, m = z45 * m21 := ⟨_, rfl⟩
 have d51 : z51 * z12 = m51 := by
  have q : z51 * z12 = z45 * (z21 * z12) := by rw [e51]; grind
  rw [q, d21, hm51]
 clear e51
 obtain ⟨m53, hm53⟩ : ∃ m, m = z49 * m22 := ⟨_, rfl⟩
 have d53 : z53 * z12 = m53 := by
  have q : z53 * z12 = z49 * (z22 * z12) := by rw [e53]; grind
  rw [q, d22, hm53]
 clear e53
 obtain ⟨m55, hm55⟩ : ∃ m, m = m51 * 1 + m53 * 1 := ⟨_, rfl⟩
 have d55 : z55 * z12 = m55 := by
  have q : z55 * z12 = (z51 * z12) * 1 + (z53 * z12) * 1 := by rw [e55]; grind
  rw [q, d51, d53, hm55]
 clear e55
 obtain ⟨m57, hm57⟩ : ∃ m, m = z45 * m29 := ⟨_, rfl⟩
 have d57 : z57 * z12 = m57 := by
  have q : z57 * z12 = z45 * (z29 * z12) := by rw [e57]; grind
  rw [q, d29, hm57]
 clear e57
 obtain ⟨m59, hm59⟩ : ∃ m, m = z49 * m30 := ⟨_, rfl⟩
 have d59 : z59 * z12 = m59 := by
  have q : z59 * z12 = z49 * (z30 * z12) := by rw [e59]; grind
  rw [q, d30, hm59]
 clear e59
 obtain ⟨m61, hm61⟩ : ∃ m, m = m57 * 1 + m59 * 1 := ⟨_, rfl⟩
 have d61 : z61 * z12 = m61 := by
  have q : z61 * z12 = (z57 * z12) * 1 + (z59 * z12) * 1 := by rw [e61]; grind
  rw [q, d57, d59, hm61]
 clear e61
 obtain ⟨m63, hm63⟩ : ∃ m, m = z45 * m39 := ⟨_, rfl⟩
 have d63 : z63 * z12 = m63 := by
  have q : z63 * z12 = z45 * (z39 * z12) := by rw [e63]; grind
  rw [q, d39, hm63]
 clear e63
 obtain ⟨m65, hm65⟩ : ∃ m, m = z49 * m40 := ⟨_, rfl⟩
 have d65 : z65 * z12 = m65 := by
  have q : z65 * z12 = z49 * (z40 * z12) := by rw [e65]; grind
  rw [q, d40, hm65]
 clear e65
 obtain ⟨m67, hm67⟩ : ∃ m, m = m63 * 1 + m65 * 1 := ⟨_, rfl⟩
 have d67 : z67 * z12 = m67 := by
  have q : z67 * z12 = (z63 * z12) * 1 + (z65 * z12) * 1 := by rw [e67]; grind
  rw [q, d63, d65, hm67]
 clear e67
 obtain ⟨m69, hm69⟩ : ∃ m, m = m67 * 1 + z41 * z12 := ⟨_, rfl⟩
 have d69 : z69 * z12 = m69 := by
  have q : z69 * z12 = (z67 * z12) * 1 + z41 * z12 := by rw [e69]; grind
  rw [q, d67, hm69]
 clear e69
 obtain ⟨m71, hm71⟩ : ∃ m, m = m55 * z0 := ⟨_, rfl⟩
 have d71 : z71 * z12 = m71 := by
  have q : z71 * z12 = (z55 * z12) * z0 := by rw [e71]; grind
  rw [q, d55, hm71]
 clear e71
 obtain ⟨m72, hm72⟩ : ∃ m, m = m61 * z1 := ⟨_, rfl⟩
 have d72 : z72 * z12 = m72 := by
  have q : z72 * z12 = (z61 * z12) * z1 := by rw [e72]; grind
  rw [q, d61, hm72]
 clear e72
 obtain ⟨m73, hm73⟩ : ∃ m, m = m71 * 1 + m72 * 1 := ⟨_, rfl⟩
 have d73 : z73 * z12 = m73 := by
  have q : z73 * z12 = (z71 * z12) * 1 + (z72 * z12) * 1 := by rw [e73]; grind
  rw [q, d71, d72, hm73]
 clear e73
 obtain ⟨m74, hm74⟩ : ∃ m, m = m73 * 1 + m69 * 1 := ⟨_, rfl⟩
 have d74 : z74 * z12 = m74 := by
  have q : z74 * z12 = (z73 * z12) * 1 + (z69 * z12) * 1 := by rw [e74]; grind
  rw [q, d73, d69, hm74]
 clear e74
 obtain ⟨m79, hm79⟩ : ∃ m, m = m74 * 1 - z41 * z12 := ⟨_, rfl⟩
 have d79 : z79 * z12 = m79 := by
  have q : z79 * z12 = (z74 * z12) * 1 - z41 * z12 := by rw [e79]; grind
  rw [q, d74, hm79]
 clear e79
 have hpoly : m79 = 0 := by
  clear d21 d22 d29 d30 d37 d38 d39 d40 d51 d53 d55 d57 d59 d61 d63 d65 d67 d69 d71 d72 d73 d74 d79
  subst_vars; grind
 have hgoal : z79 = 0 := (Rat.mul_eq_zero.1 (d79.trans hpoly)).resolve_right w12
 exact hgoal
theorem moveThree_f1 {z0 z1 z2 z3 z4 z5 z6 z7 z8 z9 z10 z11 z12 z13 z14 z15 z16 z17 z18 z19 z20 z21 z22 z23 z24 z25 z26 z27 z28 z29 z30 z31 z32 z33 z34 z35 z36 z37 z38 z39 z40 z42 z44 z46 z48 z50 z52 z54 z56 z58 z60 z62 z64 z66 z68 z70 z75 z76 z77 z78 z80 : Rat} : z4 = z2 - z0 → z5 = z3 - z1 → z8 = z6 - z0 → z9 = z7 - z1 → z10 = z4 * z9 → z11 = z5 * z8 → z12 = z10 - z11 → z13 = 1 → z14 = z13 * z9 → z15 = 0 → z16 = z15 * z8 → z17 = z14 - z16 → z18 = z4 * z15 → z19 = z5 * z13 → z20 = z18 - z19 → z21 = z17 / z12 → z22 = z20 / z12 → z23 = z15 * z9 → z24 = z13 * z8 → z25 = z23 - z24 → z26 = z4 * z13 → z27 = z5 * z15 → z28 = z26 - z27 → z29 = z25 / z12 → z30 = z28 / z12 → z31 = z0 * z9 → z32 = z1 * z8 → z33 = z31 - z32 → z34 = z4 * z1 → z35 = z5 * z0 → z36 = z34 - z35 → z37 = z33 / z12 → z38 = z36 / z12 → z39 = -z37 → z40 = -z38 → z46 = z44 - z42 → z50 = z48 - z42 → z52 = z46 * z21 → z54 = z50 * z22 → z56 = z52 + z54 → z58 = z46 * z29 → z60 = z50 * z30 → z62 = z58 + z60 → z64 = z46 * z39 → z66 = z50 * z40 → z68 = z64 + z66 → z70 = z68 + z42 → z75 = z56 * z0 → z76 = z62 * z1 → z77 = z75 + z76 → z78 = z77 + z70 → z80 = z78 - z42 → (¬ (z12 = 0)) → z80 = 0 := by
 intro e4 e5 e8 e9 e10 e11 e12 e13 e14 e15 e16 e17 e18 e19 e20 e21 e22 e23 e24 e25 e26 e27 e28 e29 e30 e31 e32 e33 e34 e35 e36 e37 e38 e39 e40 e46 e50 e52 e54 e56 e58 e60 e62 e64 e66 e68 e70 e75 e76 e77 e78 e80 u0
 have w12 : z12 ≠ 0 := by first | assumption | grind
 have n12 : z12 ≠ 0 := w12
 have h21 : z21 * z12 = z17 := by rw [e21]; exact Rat.div_mul_cancel n12
 obtain ⟨m21, hm21⟩ : ∃ m, m = z17 := ⟨_, rfl⟩
 have d21 : z21 * z12 = m21 := by
  have q : z21 * z12 = z21 * z12 := by grind
  rw [q, h21, hm21]
 clear h21 e21
 have h22 : z22 * z12 = z20 := by rw [e22]; exact Rat.div_mul_cancel n12
 obtain ⟨m22, hm22⟩ : ∃ m, m = z20 := ⟨_, rfl⟩
 have d22 : z22 * z12 = m22 := by
  have q : z22 * z12 = z22 * z12 := by grind
  rw [q, h22, hm22]
 clear h22 e22
 have h29 : z29 * z12 = z25 := by rw [e29]; exact Rat.div_mul_cancel n12
 obtain ⟨m29, hm29⟩ : ∃ m, m = z25 := ⟨_, rfl⟩
 have d29 : z29 * z12 = m29 := by
  have q : z29 * z12 = z29 * z12 := by grind
  rw [q, h29, hm29]
 clear h29 e29
 have h30 : z30 * z12 = z28 := by rw [e30]; exact Rat.div_mul_cancel n12
 obtain ⟨m30, hm30⟩ : ∃ m, m = z28 := ⟨_, rfl⟩
 have d30 : z30 * z12 = m30 := by
  have q : z30 * z12 = z30 * z12 := by grind
  rw [q, h30, hm30]
 clear h30 e30
 have h37 : z37 * z12 = z33 := by rw [e37]; exact Rat.div_mul_cancel n12
 obtain ⟨m37, hm37⟩ : ∃ m, m = z33 := ⟨_, rfl⟩
 have d37 : z37 * z12 = m37 := by
  have q : z37 * z12 = z37 * z12 := by grind
  rw [q, h37, hm37]
 clear h37 e37
 have h38 : z38 * z12 = z36 := by rw [e38]; exact Rat.div_mul_cancel n12
 obtain ⟨m38, hm38⟩ : ∃ m, m = z36 := ⟨_, rfl⟩
 have d38 : z38 * z12 = m38 := by
  have q : z38 * z12 = z38 * z12 := by grind
  rw [q, h38, hm38]
 clear h38 e38
 obtain ⟨m39, hm39⟩ : ∃ m, m = -m37 := ⟨_, rfl⟩
 have d39 : z39 * z12 = m39 := by
  have q : z39 * z12 = -(z37 * z12) := by rw [e39]; grind
  rw [q, d37, hm39]
 clear e39
 obtain ⟨m40, hm40⟩ : ∃ m, m = -m38 := ⟨_, rfl⟩
 have d40 : z40 * z12 = m40 := by
  have q : z40 * z12 = -(z38 * z12) := by rw [e40]; grind
  rw [q, d38, hm40]
 clear e40
 obtain ⟨m52, hm52⟩ : ∃ m, m = z46 * m21 := ⟨_, rfl⟩
 have d52 : z52 * z12 = m52 := by
  have q : z52 * z12 = z46 * (z21 * z12) := by rw [e52]; grind
  rw [q, d21, hm52]
 clear e52
 obtain ⟨m54, hm54⟩ : ∃ m, m = z50 * m22 := ⟨_, rfl⟩
 have d54 : z54 * z12 = m54 := by
  have q : z54 * z12 = z50 * (z22 * z12) := by rw [e54]; grind
  rw [q, d22, hm54]
 clear e54
 obtain ⟨m56, hm56⟩ : ∃ m, m = m52 * 1 + m54 * 1 := ⟨_, rfl⟩
 have d56 : z56 * z12 = m56 := by
  have q : z56 * z12 = (z52 * z12) * 1 + (z54 * z12) * 1 := by rw [e56]; grind
  rw [q, d52, d54, hm56]
 clear e56
 obtain ⟨m58, hm58⟩ : ∃ m, m = z46 * m29 := ⟨_, rfl⟩
 have d58 : z58 * z12 = m58 := by
  have q : z58 * z12 = z46 * (z29 * z12) := by rw [e58]; grind
  rw [q, d29, hm58]
 clear e58
 obtain ⟨m60, hm60⟩ : ∃ m, m = z50 * m30 := ⟨_, rfl⟩
 have d60 : z60 * z12 = m60 := by
  have q : z60 * z12 = z50 * (z30 * z12) := by rw [e60]; grind
  rw [q, d30, hm60]
 clear e60
 obtain ⟨m62, hm62⟩ : ∃ m, m = m58 * 1 + m60 * 1 := ⟨_, rfl⟩
 have d62 : z62 * z12 = m62 := by
  have q : z62 * z12 = (z58 * z12) * 1 + (z60 * z12) * 1 := by rw [e62]; grind
  rw [q, d58, d60, hm62]
 clear e62
 obtain ⟨m64, hm64⟩ : ∃ m, m = z46 * m39 := ⟨_, rfl⟩
 have d64 : z64 * z12 = m64 := by
  have q : z64 * z12 = z46 * (z39 * z12) := by rw [e64]; grind
  rw [q, d39, hm64]
 clear e64
 obtain ⟨m66, hm66⟩ : ∃ m, m = z50 * m40 := ⟨_, rfl⟩
 have d66 : z66 * z12 = m66 := by
  have q : z66 * z12 = z50 * (z40 * z12) := by rw [e66]; grind
  rw [q, d40, hm66]
 clear e66
 obtain ⟨m68, hm68⟩ : ∃ m, m = m64 * 1 + m66 * 1 := ⟨_, rfl⟩
 have d68 : z68 * z12 = m68 := by
  have q : z68 * z12 = (z64 * z12) * 1 + (z66 * z12) * 1 := by rw [e68]; grind
  rw [q, d64, d66, hm68]
 clear e68
 obtain ⟨m70, hm70⟩ : ∃ m, m = m68 * 1 + z42 * z12 := ⟨_, rfl⟩
 have d70 : z70 * z12 = m70 := by
  have q : z70 * z12 = (z68 * z12) * 1 + z42 * z12 := by rw [e70]; grind
  rw [q, d68, hm70]
 clear e70
 obtain ⟨m75, hm75⟩ : ∃ m, m = m56 * z0 := ⟨_, rfl⟩
 have d75 : z75 * z12 = m75 := by
  have q : z75 * z12 = (z56 * z12) * z0 := by rw [e75]; grind
  rw [q, d56, hm75]
 clear e75
 obtain ⟨m76, hm76⟩ : ∃ m, m = m62 * z1 := ⟨_, rfl⟩
 have d76 : z76 * z12 = m76 := by
  have q : z76 * z12 = (z62 * z12) * z1 := by rw [e76]; grind
  rw [q, d62, hm76]
 clear e76
 obtain ⟨m77, hm77⟩ : ∃ m, m = m75 * 1 + m76 * 1 := ⟨_, rfl⟩
 have d77 : z77 * z12 = m77 := by
  have q : z77 * z12 = (z75 * z12) * 1 + (z76 * z12) * 1 := by rw [e77]; grind
  rw [q, d75, d76, hm77]
 clear e77
 obtain ⟨m78, hm78⟩ : ∃ m, m = m77 * 1 + m70 * 1 := ⟨_, rfl⟩
 have d78 : z78 * z12 = m78 := by
  have q : z78 * z12 = (z77 * z12) * 1 + (z70 * z12) * 1 := by rw [e78]; grind
  rw [q, d77, d70, hm78]
 clear e78
 obtain ⟨m80, hm80⟩ : ∃ m, m = m78 * 1 - z42 * z12 := ⟨_, rfl⟩
 have d80 : z80 * z12 = m80 := by
  have q : z80 * z12 = (z78 * z12) * 1 - z42 * z12 := by rw [e80]; grind
  rw [q, d78, hm80]
 clear e80
 have hpoly : m80 = 0 := by
  clear d21 d22 d29 d30 d37 d38 d39 d40 d52 d54 d56 d58 d60 d62 d64 d66 d68 d70 d75 d76 d77 d78 d80
  subst_vars; grind
 have hgoal : z80 = 0 := (Rat.mul_eq_zero.1 (d80.trans hpoly)).resolve_right w12
 exact hgoal
theorem moveThree_f2 {z0 z1 z2 z3 z4 z5 z6 z7 z8 z9 z10 z11 z12 z13 z14 z15 z16 z17 z18 z19 z20 z21 z22 z23 z24 z25 z26 z27 z28 z29 z30 z31 z32 z33 z34 z35 z36 z37 z38 z39 z40 z41 z43 z45 z47 z49 z51 z53 z55 z57 z59 z61 z63 z65 z67 z69 z81 z82 z83 z84 z89 : Rat} : z4 = z2 - z0 → z5 = z3 - z1 → z8 = z6 - z0 → z9 = z7 - z1 → z10 = z4 * z9 → z11 = z5 * z8 → z12 = z10 - z11 → z13 = 1 → z14 = z13 * z9 → z15 = 0 → z16 = z15 * z8 → z17 = z14 - z16 → z18 = z4 * z15 → z19 = z5 * z13 → z20 = z18 - z19 → z21 = z17 / z12 → z22 = z20 / z12 → z23 = z15 * z9 → z24 = z13 * z8 → z25 = z23 - z24 → z26 = z4 * z13 → z27 = z5 * z15 → z28 = z26 - z27 → z29 = z25 / z12 → z30 = z28 / z12 → z31 = z0 * z9 → z32 = z1 * z8 → z33 = z31 - z32 → z34 = z4 * z1 → z35 = z5 * z0 → z36 = z34 - z35 → z37 = z33 / z12 → z38 = z36 / z12 → z39 = -z37 → z40 = -z38 → z45 = z43 - z41 → z49 = z47 - z41 → z51 = z45 * z21 → z53 = z49 * z22 → z55 = z51 + z53 → z57 = z45 * z29 → z59 = z49 * z30 → z61 = z57 + z59 → z63 = z45 * z39 → z65 = z49 * z40 → z67 = z63 + z65 → z69 = z67 + z41 → z81 = z55 * z2 → z82 = z61 * z3 → z83 = z81 + z82 → z84 = z83 + z69 → z89 = z84 - z43 → (¬ (z12 = 0)) → z89 = 0 := by
 intro e4 e5 e8 e9 e10 e11 e12 e13 e14 e15 e16 e17 e18 e19 e20 e21 e22 e23 e24 e25 e26 e27 e28 e29 e30 e31 e32 e33 e34 e35 e36 e37 e38 e39 e40 e45 e49 e51 e53 e55 e57 e59 e61 e63 e65 e67 e69 e81 e82 e83 e84 e89 u0
 have w12 : z12 ≠ 0 := by first | assumption | grind
 have n12 : z12 ≠ 0 := w12
 have h21 : z21 * z12 = z17 := by rw [e21]; exact Rat.div_mul_cancel n12
 obtain ⟨m21, hm21⟩ : ∃ m, m = z17 := ⟨_, rfl⟩
 have d21 : z21 * z12 = m21 := by
  have q : z21 * z12 = z21 * z12 := by grind
  rw [q, h21, hm21]
 clear h21 e21
 have h22 : z22 * z12 = z20 := by rw [e22]; exact Rat.div_mul_cancel n12
 obtain ⟨m22, hm22⟩ : ∃ m, m = z20 := ⟨_, rfl⟩
 have d22 : z22 * z12 = m22 := by
  have q : z22 * z12 = z22 * z12 := by grind
  rw [q, h22, hm22]
 clear h22 e22
 have h29 : z29 * z12 = z25 := by rw [e29]; exact Rat.div_mul_cancel n12
 obtain ⟨m29, hm29⟩ : ∃ m, m = z25 := ⟨_, rfl⟩
 have d29 : z29 * z12 = m29 := by
  have q : z29 * z12 = z29 * z12 := by grind
  rw [q, h29, hm29]
 clear h29 e29
 have h30 : z30 * z12 = z28 := by rw [e30]; exact Rat.div_mul_cancel n12
 obtain ⟨m30, hm30⟩ : ∃ m, m = z28 := ⟨_, rfl⟩
 have d30 : z30 * z12 = m30 := by
  have q : z30 * z12 = z30 * z12 := by grind
  rw [q, h30, hm30]
 clear h30 e30
 have h37 : z37 * z12 = z33 := by rw [e37]; exact Rat.div_mul_cancel n12
 obtain ⟨m37, hm37⟩ : ∃ m, m = z33 := ⟨_, rfl⟩
 have d37 : z37 * z12 = m37 := by
  have q : z37 * z12 = z37 * z12 := by grind
  rw [q, h37, hm37]
 clear h37 e37
 have h38 : z38 * z12 = z36 := by rw [e38]; exact Rat.div_mul_cancel n12
 obtain ⟨m38, hm38⟩ : ∃ m, m = z36 := ⟨_, rfl⟩
 have d38 : z38 * z12 = m38 := by
  have q : z38 * z12 = z38 * z12 := by grind
  rw [q, h38, hm38]
 clear h38 e38
 obtain ⟨m39, hm39⟩ : ∃ m, m = -m37 := ⟨_, rfl⟩
 have d39 : z39 * z12 = m39 := by
  have q : z39 * z12 = -(z37 * z12) := by rw [e39]; grind
  rw [q, d37, hm39]
 clear e39
 obtain ⟨m40, hm40⟩ : ∃ m, m = -m38 := ⟨_, rfl⟩
 have d40 : z40 * z12 = m40 := by
  have q : z40 * z12 = -(z38 * z12) := by rw [e40]; grind
  rw [q, d38, hm40]
 clear e40
 obtain ⟨m51, hm51⟩ : ∃ m, m = z45 * m21 := ⟨_, rfl⟩
 have d51 : z51 * z12 = m51 := by
  have q : z51 * z12 = z45 * (z21 * z12) := by rw [e51]; grind
  rw [q, d21, hm51]
 clear e51
 obtain ⟨m53, hm53⟩ : ∃ m, m = z49 * m22 := ⟨_, rfl⟩
 have d53 : z53 * z12 = m53 := by
  have q : z53 * z12 = z49 * (z22 * z12) := by rw [e53]; grind
  rw [q, d22, hm53]
 clear e53
 obtain ⟨m55, hm55⟩ : ∃ m, m = m51 * 1 + m53 * 1 := ⟨_, rfl⟩
 have d55 : z55 * z12 = m55 := by
  have q : z55 * z12 = (z51 * z12) * 1 + (z53 * z12) * 1 := by rw [e55]; grind
  rw [q, d51, d53, hm55]
 clear e55
 obtain ⟨m57, hm57⟩ : ∃ m, m = z45 * m29 := ⟨_, rfl⟩
 have d57 : z57 * z12 = m57 := by
  have q : z57 * z12 = z45 * (z29 * z12) := by rw [e57]; grind
  rw [q, d29, hm57]
 clear e57
 obtain ⟨m59, hm59⟩ : ∃ m, m = z49 * m30 := ⟨_, rfl⟩
 have d59 : z59 * z12 = m59 := by
  have q : z59 * z12 = z49 * (z30 * z12) := by rw [e59]; grind
  rw [q, d30, hm59]
 clear e59
 obtain ⟨m61, hm61⟩ : ∃ m, m = m57 * 1 + m59 * 1 := ⟨_, rfl⟩
 have d61 : z61 * z12 = m61 := by
  have q : z61 * z12 = (z57 * z12) * 1 + (z59 * z12) * 1 := by rw [e61]; grind
  rw [q, d57, d59, hm61]
 clear e61
 obtain ⟨m63, hm63⟩ : ∃ m, m = z45 * m39 := ⟨_, rfl⟩
 have d63 : z63 * z12 = m63 := by
  have q : z63 * z12 = z45 * (z39 * z12) := by rw [e63]; grind
  rw [q, d39, hm63]
 clear e63
 obtain ⟨m65, hm65⟩ : ∃ m, m = z49 * m40 := ⟨_, rfl⟩
 have d65 : z65 * z12 = m65 := by
  have q : z65 * z12 = z49 * (z40 * z12) := by rw [e65]; grind
  rw [q, d40, hm65]
 clear e65
 obtain ⟨m67, hm67⟩ : ∃ m, m = m63 * 1 + m65 * 1 := ⟨_, rfl⟩
 have d67 : z67 * z12 = m67 := by
  have q : z67 * z12 = (z63 * z12) * 1 + (z65 * z12) * 1 := by rw [e67]; grind
  rw [q, d63, d65, hm67]
 clear e67
 obtain ⟨m69, hm69⟩ : ∃ m, m = m67 * 1 + z41 * z12 := ⟨_, rfl⟩
 have d69 : z69 * z12 = m69 := by
  have q : z69 * z12 = (z67 * z12) * 1 + z41 * z12 := by rw [e69]; grind
  rw [q, d67, hm69]
 clear e69
 obtain ⟨m81, hm81⟩ : ∃ m, m = m55 * z2 := ⟨_, rfl⟩
 have d81 : z81 * z12 = m81 := by
  have q : z81 * z12 = (z55 * z12) * z2 := by rw [e81]; grind
  rw [q, d55, hm81]
 clear e81
 obtain ⟨m82, hm82⟩ : ∃ m, m = m61 * z3 := ⟨_, rfl⟩
 have d82 : z82 * z12 = m82 := by
  have q : z82 * z12 = (z61 * z12) * z3 := by rw [e82]; grind
  rw [q, d61, hm82]
 clear e82
 obtain ⟨m83, hm83⟩ : ∃ m, m = m81 * 1 + m82 * 1 := ⟨_, rfl⟩
 have d83 : z83 * z12 = m83 := by
  have q : z83 * z12 = (z81 * z12) * 1 + (z82 * z12) * 1 := by rw [e83]; grind
  rw [q, d81, d82, hm83]
 clear e83
 obtain ⟨m84, hm84⟩ : ∃ m, m = m83 * 1 + m69 * 1 := ⟨_, rfl⟩
 have d84 : z84 * z12 = m84 := by
  have q : z84 * z12 = (z83 * z12) * 1 + (z69 * z12) * 1 := by rw [e84]; grind
  rw [q, d83, d69, hm84]
 clear e84
 obtain ⟨m89, hm89⟩ : ∃ m, m = m84 * 1 - z43 * z12 := ⟨_, rfl⟩
 have d89 : z89 * z12 = m89 := by
  have q : z89 * z12 = (z84 * z12) * 1 - z43 * z12 := by rw [e89]; grind
  rw [q, d84, hm89]
 clear e89
 have hpoly : m89 = 0 := by
  clear d21 d22 d29 d30 d37 d38 d39 d40 d51 d53 d55 d57 d59 d61 d63 d65 d67 d69 d81 d82 d83 d84 d89
  subst_vars; grind
 have hgoal : z89 = 0 := (Rat.mul_eq_zero.1 (d89.trans hpoly)).resolve_right w12
 exact hgoal
theorem moveThree_f3 {z0 z1 z2 z3 z4 z5 z6 z7 z8 z9 z10 z11 z12 z13 z14 z15 z16 z17 z18 z19 z20 z21 z22 z23 z24 z25 z26 z27 z28 z29 z30 z31 z32 z33 z34 z35 z36 z37 z38 z39 z40 z42 z44 z46 z48 z50 z52 z54 z56 z58 z60 z62 z64 z66 z68 z70 z85 z86 z87 z88 z90 : Rat} : z4 = z2 - z0 → z5 = z3 - z1 → z8 = z6 - z0 → z9 = z7 - z1 → z10 = z4 * z9 → z11 = z5 * z8 → z12 = z10 - z11 → z13 = 1 → z14 = z13 * z9 → z15 = 0 → z16 = z15 * z8 → z17 = z14 - z16 → z18 = z4 * z15 → z19 = z5 * z13 → z20 = z18 - z19 → z21 = z17 / z12 → z22 = z20 / z12 → z23 = z15 * z9 → z24 = z13 * z8 → z25 = z23 - z24 → z26 = z4 * z13 → z27 = z5 * z15 → z28 = z26 - z27 → z29 = z25 / z12 → z30 = z28 / z12 → z31 = z0 * z9 → z32 = z1 * z8 → z33 = z31 - z32 → z34 = z4 * z1 → z35 = z5 * z0 → z36 = z34 - z35 → z37 = z33 / z12 → z38 = z36 / z12 → z39 = -z37 → z40 = -z38 → z46 = z44 - z42 → z50 = z48 - z42 → z52 = z46 * z21 → z54 = z50 * z22 → z56 = z52 + z54 → z58 = z46 * z29 → z60 = z50 * z30 → z62 = z58 + z60 → z64 = z46 * z39 → z66 = z50 * z40 → z68 = z64 + z66 → z70 = z68 + z42 → z85 = z56 * z2 → z86 = z62 * z3 → z87 = z85 + z86 → z88 = z87 + z70 → z90 = z88 - z44 → (¬ (z12 = 0)) → z90 = 0 := by
 intro e4 e5 e8 e9 e10 e11 e12 e13 e14 e15 e16 e17 e18 e19 e20 e21 e22 e23 e24 e25 e26 e27 e28 e29 e30 e31 e32 e33 e34 e35 e36 e37 e38 e39 e40 e46 e50 e52 e54 e56 e58 e60 e62 e64 e66 e68 e70 e85 e86 e87 e88 e90 u0
 have w12 : z12 ≠ 0 := by first | assumption | grind
 have n12 : z12 ≠ 0 := w12
 have h21 : z21 * z12 = z17 := by rw [e21]; exact Rat.div_mul_cancel n12
 obtain ⟨m21, hm21⟩ : ∃ m, m = z17 := ⟨_, rfl⟩
 have d21 : z21 * z12 = m21 := by
  have q : z21 * z12 = z21 * z12 := by grind
  rw [q, h21, hm21]
 clear h21 e21
 have h22 : z22 * z12 = z20 := by rw [e22]; exact Rat.div_mul_cancel n12
 obtain ⟨m22, hm22⟩ : ∃ m, m = z20 := ⟨_, rfl⟩
 have d22 : z22 * z12 = m22 := by
  have q : z22 * z12 = z22 * z12 := by grind
  rw [q, h22, hm22]
 clear h22 e22
 have h29 : z29 * z12 = z25 := by rw [e29]; exact Rat.div_mul_cancel n12
 obtain ⟨m29, hm29⟩ : ∃ m, m = z25 := ⟨_, rfl⟩
 have d29 : z29 * z12 = m29 := by
  have q : z29 * z12 = z29 * z12 := by grind
  rw [q, h29, hm29]
 clear h29 e29
 have h30 : z30 * z12 = z28 := by rw [e30]; exact Rat.div_mul_cancel n12
 obtain ⟨m30, hm30⟩ : ∃ m, m = z28 := ⟨_, rfl⟩
 have d30 : z30 * z12 = m30 := by
  have q : z30 * z12 = z30 * z12 := by grind
  rw [q, h30, hm30]
 clear h30 e30
 have h37 : z37 * z12 = z33 := by rw [e37]; exact Rat.div_mul_cancel n12
 obtain ⟨m37, hm37⟩ : ∃ m, m = z33 := ⟨_, rfl⟩
 have d37 : z37 * z12 = m37 := by
  have q : z37 * z12 = z37 * z12 := by grind
  rw [q, h37, hm37]
 clear h37 e37
 have h38 : z38 * z12 = z36 := by rw [e38]; exact Rat.div_mul_cancel n12
 obtain ⟨m38, hm38⟩ : ∃ m, m = z36 := ⟨_, rfl⟩
 have d38 : z38 * z12 = m38 := by
  have q : z38 * z12 = z38 * z12 := by grind
  rw [q, h38, hm38]
 clear h38 e38
 obtain ⟨m39, hm39⟩ : ∃ m, m = -m37 := ⟨_, rfl⟩
 have d39 : z39 * z12 = m39 := by
  have q : z39 * z12 = -(z37 * z12) := by rw [e39]; grind
  rw [q, d37, hm39]
 clear e39
 obtain ⟨m40, hm40⟩ : ∃ m, m = -m38 := ⟨_, rfl⟩
 have d40 : z40 * z12 = m40 := by
  have q : z40 * z12 = -(z38 * z12) := by rw [e40]; grind
  rw [q, d38, hm40]
 clear e40
 obtain ⟨m52, hm52⟩ : ∃ m, m = z46 * m21 := ⟨_, rfl⟩
 have d52 : z52 * z12 = m52 := by
  have q : z52 * z12 = z46 * (z21 * z12) := by rw [e52]; grind
  rw [q, d21, hm52]
 clear e52
 obtain ⟨m54, hm54⟩ : ∃ m, m = z50 * m22 := ⟨_, rfl⟩
 have d54 : z54 * z12 = m54 := by
  have q : z54 * z12 = z50 * (z22 * z12) := by rw [e54]; grind
  rw [q, d22, hm54]
 clear e54
 obtain ⟨m56, hm56⟩ : ∃ m, m = m52 * 1 + m54 * 1 := ⟨_, rfl⟩
 have d56 : z56 * z12 = m56 := by
  have q : z56 * z12 = (z52 * z12) * 1 + (z54 * z12) * 1 := by rw [e56]; grind
  rw [q, d52, d54, hm56]
 clear e56
 obtain ⟨m58, hm58⟩ : ∃ m, m = z46 * m29 := ⟨_, rfl⟩
 have d58 : z58 * z12 = m58 := by
  have q : z58 * z12 = z46 * (z29 * z12) := by rw [e58]; grind
  rw [q, d29, hm58]
 clear e58
 obtain ⟨m60, hm60⟩ : ∃ m, m = z50 * m30 := ⟨_, rfl⟩
 have d60 : z60 * z12 = m60 := by
  have q : z60 * z12 = z50 * (z30 * z12) := by rw [e60]; grind
  rw [q, d30, hm60]
 clear e60
 obtain ⟨m62, hm62⟩ : ∃ m, m = m58 * 1 + m60 * 1 := ⟨_, rfl⟩
 have d62 : z62 * z12 = m62 := by
  have q : z62 * z12 = (z58 * z12) * 1 + (z60 * z12) * 1 := by rw [e62]; grind
  rw [q, d58, d60, hm62]
 clear e62
 obtain ⟨m64, hm64⟩ : ∃ m, m = z46 * m39 := ⟨_, rfl⟩
 have d64 : z64 * z12 = m64 := by
  have q : z64 * z12 = z46 * (z39 * z12) := by rw [e64]; grind
  rw [q, d39, hm64]
 clear e64
 obtain ⟨m66, hm66⟩ : ∃ m, m = z50 * m40 := ⟨_, rfl⟩
 have d66 : z66 * z12 = m66 := by
  have q : z66 * z12 = z50 * (z40 * z12) := by rw [e66]; grind
  rw [q, d40, hm66]
 clear e66
 obtain ⟨m68, hm68⟩ : ∃ m, m = m64 * 1 + m66 * 1 := ⟨_, rfl⟩
 have d68 : z68 * z12 = m68 := by
  have q : z68 * z12 = (z64 * z12) * 1 + (z66 * z12) * 1 := by rw [e68]; grind
  rw [q, d64, d66, hm68]
 clear e68
 obtain ⟨m70, hm70⟩ : ∃ m, m = m68 * 1 + z42 * z12 := ⟨_, rfl⟩
 have d70 : z70 * z12 = m70 := by
  have q : z70 * z12 = (z68 * z12) * 1 + z42 * z12 := by rw [e70]; grind
  rw [q, d68, hm70]
 clear e70
 obtain ⟨m85, hm85⟩ : ∃ m, m = m56 * z2 := ⟨_, rfl⟩
 have d85 : z85 * z12 = m85 := by
  have q : z85 * z12 = (z56 * z12) * z2 := by rw [e85]; grind
  rw [q, d56, hm85]
 clear e85
 obtain ⟨m86, hm86⟩ : ∃ m, m = m62 * z3 := ⟨_, rfl⟩
 have d86 : z86 * z12 = m86 := by
  have q : z86 * z12 = (z62 * z12) * z3 := by rw [e86]; grind
  rw [q, d62, hm86]
 clear e86
 obtain ⟨m87, hm87⟩ : ∃ m, m = m85 * 1 + m86 * 1 := ⟨_, rfl⟩
 have d87 : z87 * z12 = m87 := by
  have q : z87 * z12 = (z85 * z12) * 1 + (z86 * z12) * 1 := by rw [e87]; grind
  rw [q, d85, d86, hm87]
 clear e87
 obtain ⟨m88, hm88⟩ : ∃ m, m = m87 * 1 + m70 * 1 := ⟨_, rfl⟩
 have d88 : z88 * z12 = m88 := by
  have q : z88 * z12 = (z87 * z12) * 1 + (z70 * z12) * 1 := by rw [e88]; grind
  rw [q, d87, d70, hm88]
 clear e88
 obtain ⟨m90, hm90⟩ : ∃ m, m = m88 * 1 - z44 * z12 := ⟨_, rfl⟩
 have d90 : z90 * z12 = m90 := by
  have q : z90 * z12 = (z88 * z12) * 1 - z44 * z12 := by rw [e90]; grind
  rw [q, d88, hm90]
 clear e90
 have hpoly : m90 = 0 := by
  clear d21 d22 d29 d30 d37 d38 d39 d40 d52 d54 d56 d58 d60 d62 d64 d66 d68 d70 d85 d86 d87 d88 d90
  subst_vars; grind
 have hgoal : z90 = 0 := (Rat.mul_eq_zero.1 (d90.trans hpoly)).resolve_right w12
 exact hgoal
theorem moveThree_f4 {z0 z1 z2 z3 z4 z5 z6 z7 z8 z9 z10 z11 z12 z13 z14 z15 z16 z17 z18 z19 z20 z21 z22 z23 z24 z25 z26 z27 z28 z29 z30 z31 z32 z33 z34 z35 z36 z37 z38 z39 z40 z41 z43 z45 z47 z49 z51 z53 z55 z57 z59 z61 z63 z65 z67 z69 z91 z92 z93 z94 z99 : Rat} : z4 = z2 - z0 → z5 = z3 - z1 → z8 = z6 - z0 → z9 = z7 - z1 → z10 = z4 * z9 → z11 = z5 * z8 → z12 = z10 - z11 → z13 = 1 → z14 = z13 * z9 → z15 = 0 → z16 = z15 * z8 → z17 = z14 - z16 → z18 = z4 * z15 → z19 = z5 * z13 → z20 = z18 - z19 → z21 = z17 / z12 → z22 = z20 / z12 → z23 = z15 * z9 → z24 = z13 * z8 → z25 = z23 - z24 → z26 = z4 * z13 → z27 = z5 * z15 → z28 = z26 - z27 → z29 = z25 / z12 → z30 = z28 / z12 → z31 = z0 * z9 → z32 = z1 * z8 → z33 = z31 - z32 → z34 = z4 * z1 → z35 = z5 * z0 → z36 = z34 - z35 → z37 = z33 / z12 → z38 = z36 / z12 → z39 = -z37 → z40 = -z38 → z45 = z43 - z41 → z49 = z47 - z41 → z51 = z45 * z21 → z53 = z49 * z22 → z55 = z51 + z53 → z57 = z45 * z29 → z59 = z49 * z30 → z61 = z57 + z59 → z63 = z45 * z39 → z65 = z49 * z40 → z67 = z63 + z65 → z69 = z67 + z41 → z91 = z55 * z6 → z92 = z61 * z7 → z93 = z91 + z92 → z94 = z93 + z69 → z99 = z94 - z47 → (¬ (z12 = 0)) → z99 = 0 := by
 intro e4 e5 e8 e9 e10 e11 e12 e13 e14 e15 e16 e17 e18 e19 e20 e21 e22 e23 e24 e25 e26 e27 e28 e29 e30 e31 e32 e33 e34 e35 e36 e37 e38 e39 e40 e45 e49 e51 e53 e55 e57 e59 e61 e63 e65 e67 e69 e91 e92 e93 e94 e99 u0
 have w12 : z12 ≠ 0 := by first | assumption | grind
 have n12 : z12 ≠ 0 := w12
 have h21 : z21 * z12 = z17 := by rw [e21]; exact Rat.div_mul_cancel n12
 obtain ⟨m21, hm21⟩ : ∃ m, m = z17 := ⟨_, rfl⟩
 have d21 : z21 * z12 = m21 := by
  have q : z21 * z12 = z21 * z12 := by grind
  rw [q, h21, hm21]
 clear h21 e21
 have h22 : z22 * z12 = z20 := by rw [e22]; exact Rat.div_mul_cancel n12
 obtain ⟨m22, hm22⟩ : ∃ m, m = z20 := ⟨_, rfl⟩
 have d22 : z22 * z12 = m22 := by
  have q : z22 * z12 = z22 * z12 := by grind
  rw [q, h22, hm22]
 clear h22 e22
 have h29 : z29 * z12 = z25 := by rw [e29]; exact Rat.div_mul_cancel n12
 obtain ⟨m29, hm29⟩ : ∃ m, m = z25 := ⟨_, rfl⟩
 have d29 : z29 * z12 = m29 := by
  have q : z29 * z12 = z29 * z12 := by grind
  rw [q, h29, hm29]
 clear h29 e29
 have h30 : z30 * z12 = z28 := by rw [e30]; exact Rat.div_mul_cancel n12
 obtain ⟨m30, hm30⟩ : ∃ m, m = z28 := ⟨_, rfl⟩
 have d30 : z30 * z12 = m30 := by
  have q : z30 * z12 = z30 * z12 := by grind
  rw [q, h30, hm30]
 clear h30 e30
 have h37 : z37 * z12 = z33 := by rw [e37]; exact Rat.div_mul_cancel n12
 obtain ⟨m37, hm37⟩ : ∃ m, m = z33 := ⟨_, rfl⟩
 have d37 : z37 * z12 = m37 := by
  have q : z37 * z12 = z37 * z12 := by grind
  rw [q, h37, hm37]
 clear h37 e37
 have h38 : z38 * z12 = z36 := by rw [e38]; exact Rat.div_mul_cancel n12
 obtain ⟨m38, hm38⟩ : ∃ m, m = z36 := ⟨_, rfl⟩
 have d38 : z38 * z12 = m38 := by
  have q : z38 * z12 = z38 * z12 := by grind
  rw [q, h38, hm38]
 clear h38 e38
 obtain ⟨m39, hm39⟩ : ∃ m, m = -m37 := ⟨_, rfl⟩
 have d39 : z39 * z12 = m39 := by
  have q : z39 * z12 = -(z37 * z12) := by rw [e39]; grind
  rw [q, d37, hm39]
 clear e39
 obtain ⟨m40, hm40⟩ : ∃ m, m = -m38 := ⟨_, rfl⟩
 have d40 : z40 * z12 = m40 := by
  have q : z40 * z12 = -(z38 * z12) := by rw [e40]; grind
  rw [q, d38, hm40]
 clear e40
 obtain ⟨m51, hm51⟩ : ∃ m, m = z45 * m21 := ⟨_, rfl⟩
 have d51 : z51 * z12 = m51 := by
  have q : z51 * z12 = z45 * (z21 * z12) := by rw [e51]; grind
  rw [q, d21, hm51]
 clear e51
 obtain ⟨m53, hm53⟩ : ∃ m, m = z49 * m22 := ⟨_, rfl⟩
 have d53 : z53 * z12 = m53 := by
  have q : z53 * z12 = z49 * (z22 * z12) := by rw [e53]; grind
  rw [q, d22, hm53]
 clear e53
 obtain ⟨m55, hm55⟩ : ∃ m, m = m51 * 1 + m53 * 1 := ⟨_, rfl⟩
 have d55 : z55 * z12 = m55 := by
  have q : z55 * z12 = (z51 * z12) * 1 + (z53 * z12) * 1 := by rw [e55]; grind
  rw [q, d51, d53, hm55]
 clear e55
 obtain ⟨m57, hm57⟩ : ∃ m, m = z45 * m29 := ⟨_, rfl⟩
 have d57 : z57 * z12 = m57 := by
  have q : z57 * z12 = z45 * (z29 * z12) := by rw [e57]; grind
  rw [q, d29, hm57]
 clear e57
 obtain ⟨m59, hm59⟩ : ∃ m, m = z49 * m30 := ⟨_, rfl⟩
 have d59 : z59 * z12 = m59 := by
  have q : z59 * z12 = z49 * (z30 * z12) := by rw [e59]; grind
  rw [q, d30, hm59]
 clear e59
 obtain ⟨m61, hm61⟩ : ∃ m, m = m57 * 1 + m59 * 1 := ⟨_, rfl⟩
 have d61 : z61 * z12 = m61 := by
  have q : z61 * z12 = (z57 * z12) * 1 + (z59 * z12) * 1 := by rw [e61]; grind
  rw [q, d57, d59, hm61]
 clear e61
 obtain ⟨m63, hm63⟩ : ∃ m, m = z45 * m39 := ⟨_, rfl⟩
 have d63 : z63 * z12 = m63 := by
  have q : z63 * z12 = z45 * (z39 * z12) := by rw [e63]; grind
  rw [q, d39, hm63]
 clear e63
 obtain ⟨m65, hm65⟩ : ∃ m, m = z49 * m40 := ⟨_, rfl⟩
 have d65 : z65 * z12 = m65 := by
  have q : z65 * z12 = z49 * (z40 * z12) := by rw [e65]; grind
  rw [q, d40, hm65]
 clear e65
 obtain ⟨m67, hm67⟩ : ∃ m, m = m63 * 1 + m65 * 1 := ⟨_, rfl⟩
 have d67 : z67 * z12 = m67 := by
  have q : z67 * z12 = (z63 * z12) * 1 + (z65 * z12) * 1 := by rw [e67]; grind
  rw [q, d63, d65, hm67]
 clear e67
 obtain ⟨m69, hm69⟩ : ∃ m, m = m67 * 1 + z41 * z12 := ⟨_, rfl⟩
 have d69 : z69 * z12 = m69 := by
  have q : z69 * z12 = (z67 * z12) * 1 + z41 * z12 := by rw [e69]; grind
  rw [q, d67, hm69]
 clear e69
 obtain ⟨m91, hm91⟩ : ∃ m, m = m55 * z6 := ⟨_, rfl⟩
 have d91 : z91 * z12 = m91 := by
  have q : z91 * z12 = (z55 * z12) * z6 := by rw [e91]; grind
  rw [q, d55, hm91]
 clear e91
 obtain ⟨m92, hm92⟩ : ∃ m, m = m61 * z7 := ⟨_, rfl⟩
 have d92 : z92 * z12 = m92 := by
  have q : z92 * z12 = (z61 * z12) * z7 := by rw [e92]; grind
  rw [q, d61, hm92]
 clear e92
 obtain ⟨m93, hm93⟩ : ∃ m, m = m91 * 1 + m92 * 1 := ⟨_, rfl⟩
 have d93 : z93 * z12 = m93 := by
  have q : z93 * z12 = (z91 * z12) * 1 + (z92 * z12) * 1 := by rw [e93]; grind
  rw [q, d91, d92, hm93]
 clear e93
 obtain ⟨m94, hm94⟩ : ∃ m, m = m93 * 1 + m69 * 1 := ⟨_, rfl⟩
 have d94 : z94 * z12 = m94 := by
  have q : z94 * z12 = (z93 * z12) * 1 + (z69 * z12) * 1 := by rw [e94]; grind
  rw [q, d93, d69, hm94]
 clear e94
 obtain ⟨m99, hm99⟩ : ∃ m, m = m94 * 1 - z47 * z12 := ⟨_, rfl⟩
 have d99 : z99 * z12 = m99 := by
  have q : z99 * z12 = (z94 * z12) * 1 - z47 * z12 := by rw [e99]; grind
  rw [q, d94, hm99]
 clear e99
 have hpoly : m99 = 0 := by
  clear d21 d22 d29 d30 d37 d38 d39 d40 d51 d53 d55 d57 d59 d61 d63 d65 d67 d69 d91 d92 d93 d94 d99
  subst_vars; grind
 have hgoal : z99 = 0 := (Rat.mul_eq_zero.1 (d99.trans hpoly)).resolve_right w12
 exact hgoal
theorem moveThree_f5 {z0 z1 z2 z3 z4 z5 z6 z7 z8 z9 z10 z11 z12 z13 z14 z15 z16 z17 z18 z19 z20 z21 z22 z23 z24 z25 z26 z27 z28 z29 z30 z31 z32 z33 z34 z35 z36 z37 z38 z39 z40 z42 z44 z46 z48 z50 z52 z54 z56 z58 z60 z62 z64 z66 z68 z70 z95 z96 z97 z98 z100 : Rat} : z4 = z2 - z0 → z5 = z3 - z1 → z8 = z6 - z0 → z9 = z7 - z1 → z10 = z4 * z9 → z11 = z5 * z8 → z12 = z10 - z11 → z13 = 1 → z14 = z13 * z9 → z15 = 0 → z16 = z15 * z8 → z17 = z14 - z16 → z18 = z4 * z15 → z19 = z5 * z13 → z20 = z18 - z19 → z21 = z17 / z12 → z22 = z20 / z12 → z23 = z15 * z9 → z24 = z13 * z8 → z25 = z23 - z24 → z26 = z4 * z13 → z27 = z5 * z15 → z28 = z26 - z27 → z29 = z25 / z12 → z30 = z28 / z12 → z31 = z0 * z9 → z32 = z1 * z8 → z33 = z31 - z32 → z34 = z4 * z1 → z35 = z5 * z0 → z36 = z34 - z35 → z37 = z33 / z12 → z38 = z36 / z12 → z39 = -z37 → z40 = -z38 → z46 = z44 - z42 → z50 = z48 - z42 → z52 = z46 * z21 → z54 = z50 * z22 → z56 = z52 + z54 → z58 = z46 * z29 → z60 = z50 * z30 → z62 = z58 + z60 → z64 = z46 * z39 → z66 = z50 * z40 → z68 = z64 + z66 → z70 = z68 + z42 → z95 = z56 * z6 → z96 = z62 * z7 → z97 = z95 + z96 → z98 = z97 + z70 → z100 = z98 - z48 → (¬ (z12 = 0)) → z100 = 0 := by
 intro e4 e5 e8 e9 e10 e11 e12 e13 e14 e15 e16 e17 e18 e19 e20 e21 e22 e23 e24 e25 e26 e27 e28 e29 e30 e31 e32 e33 e34 e35 e36 e37 e38 e39 e40 e46 e50 e52 e54 e56 e58 e60 e62 e64 e66 e68 e70 e95 e96 e97 e98 e100 u0
 have w12 : z12 ≠ 0 := by first | assumption | grind
 have n12 : z12 ≠ 0 := w12
 have h21 : z21 * z12 = z17 := by rw [e21]; exact Rat.div_mul_cancel n12
 obtain ⟨m21, hm21⟩ : ∃ m, m = z17 := ⟨_, rfl⟩
 have d21 : z21 * z12 = m21 := by
  have q : z21 * z12 = z21 * z12 := by grind
  rw [q, h21, hm21]
 clear h21 e21
 have h22 : z22 * z12 = z20 := by rw [e22]; exact Rat.div_mul_cancel n12
 obtain ⟨m22, hm22⟩ : ∃ m, m = z20 := ⟨_, rfl⟩
 have d22 : z22 * z12 = m22 := by
  have q : z22 * z12 = z22 * z12 := by grind
  rw [q, h22, hm22]
 clear h22 e22
 have h29 : z29 * z12 = z25 := by rw [e29]; exact Rat.div_mul_cancel n12
 obtain ⟨m29, hm29⟩ : ∃ m, m = z25 := ⟨_, rfl⟩
 have d29 : z29 * z12 = m29 := by
  have q : z29 * z12 = z29 * z12 := by grind
  rw [q, h29, hm29]
 clear h29 e29
 have h30 : z30 * z12 = z28 := by rw [e30]; exact Rat.div_mul_cancel n12
 obtain ⟨m30, hm30⟩ : ∃ m, m = z28 := ⟨_, rfl⟩
 have d30 : z30 * z12 = m30 := by
  have q : z30 * z12 = z30 * z12 := by grind
  rw [q, h30, hm30]
 clear h30 e30
 have h37 : z37 * z12 = z33 := by rw [e37]; exact Rat.div_mul_cancel n12
 obtain ⟨m37, hm37⟩ : ∃ m, m = z33 := ⟨_, rfl⟩
 have d37 : z37 * z12 = m37 := by
  have q : z37 * z12 = z37 * z12 := by grind
  rw [q, h37, hm37]
 clear h37 e37
 have h38 : z38 * z12 = z36 := by rw [e38]; exact Rat.div_mul_cancel n12
 obtain ⟨m38, hm38⟩ : ∃ m, m = z36 := ⟨_, rfl⟩
 have d38 : z38 * z12 = m38 := by
  have q : z38 * z12 = z38 * z12 := by grind
  rw [q, h38, hm38]
 clear h38 e38
 obtain ⟨m39, hm39⟩ : ∃ m, m = -m37 := ⟨_, rfl⟩
 have d39 : z39 * z12 = m39 := by
  have q : z39 * z12 = -(z37 * z12) := by rw [e39]; grind
  rw [q, d37, hm39]
 clear e39
 obtain ⟨m40, hm40⟩ : ∃ m, m = -m38 := ⟨_, rfl⟩
 have d40 : z40 * z12 = m40 := by
  have q : z40 * z12 = -(z38 * z12) := by rw [e40]; grind
  rw [q, d38, hm40]
 clear e40
 obtain ⟨m52, hm52⟩ : ∃ m, m = z46 * m21 := ⟨_, rfl⟩
 have d52 : z52 * z12 = m52 := by
  have q : z52 * z12 = z46 * (z21 * z12) := by rw [e52]; grind
  rw [q, d21, hm52]
 clear e52
 obtain ⟨m54, hm54⟩ : ∃ m, m = z50 * m22 := ⟨_, rfl⟩
 have d54 : z54 * z12 = m54 := by
  have q : z54 * z12 = z50 * (z22 * z12) := by rw [e54]; grind
  rw [q, d22, hm54]
 clear e54
 obtain ⟨m56, hm56⟩ : ∃ m, m = m52 * 1 + m54 * 1 := ⟨_, rfl⟩
 have d56 : z56 * z12 = m56 := by
  have q : z56 * z12 = (z52 * z12) * 1 + (z54 * z12) * 1 := by rw [e56]; grind
  rw [q, d52, d54, hm56]
 clear e56
 obtain ⟨m58, hm58⟩ : ∃ m, m = z46 * m29 := ⟨_, rfl⟩
 have d58 : z58 * z12 = m58 := by
  have q : z58 * z12 = z46 * (z29 * z12) := by rw [e58]; grind
  rw [q, d29, hm58]
 clear e58
 obtain ⟨m60, hm60⟩ : ∃ m, m = z50 * m30 := ⟨_, rfl⟩
 have d60 : z60 * z12 = m60 := by
  have q : z60 * z12 = z50 * (z30 * z12) := by rw [e60]; grind
  rw [q, d30, hm60]
 clear e60
 obtain ⟨m62, hm62⟩ : ∃ m, m = m58 * 1 + m60 * 1 := ⟨_, rfl⟩
 have d62 : z62 * z12 = m62 := by
  have q : z62 * z12 = (z58 * z12) * 1 + (z60 * z12) * 1 := by rw [e62]; grind
  rw [q, d58, d60, hm62]
 clear e62
 obtain ⟨m64, hm64⟩ : ∃ m, m = z46 * m39 := ⟨_, rfl⟩
 have d64 : z64 * z12 = m64 := by
  have q : z64 * z12 = z46 * (z39 * z12) := by rw [e64]; grind
  rw [q, d39, hm64]
 clear e64
 obtain ⟨m66, hm66⟩ : ∃ m, m = z50 * m40 := ⟨_, rfl⟩
 have d66 : z66 * z12 = m66 := by
  have q : z66 * z12 = z50 * (z40 * z12) := by rw [e66]; grind
  rw [q, d40, hm66]
 clear e66
 obtain ⟨m68, hm68⟩ : ∃ m, m = m64 * 1 + m66 * 1 := ⟨_, rfl⟩
 have d68 : z68 * z12 = m68 := by
  have q : z68 * z12 = (z64 * z12) * 1 + (z66 * z12) * 1 := by rw [e68]; grind
  rw [q, d64, d66, hm68]
 clear e68
 obtain ⟨m70, hm70⟩ : ∃ m, m = m68 * 1 + z42 * z12 := ⟨_, rfl⟩
 have d70 : z70 * z12 = m70 := by
  have q : z70 * z12 = (z68 * z12) * 1 + z42 * z12 := by rw [e70]; grind
  rw [q, d68, hm70]
 clear e70
 obtain ⟨m95, hm95⟩ : ∃ m, m = m56 * z6 := ⟨_, rfl⟩
 have d95 : z95 * z12 = m95 := by
  have q : z95 * z12 = (z56 * z12) * z6 := by rw [e95]; grind
  rw [q, d56, hm95]
 clear e95
 obtain ⟨m96, hm96⟩ : ∃ m, m = m62 * z7 := ⟨_, rfl⟩
 have d96 : z96 * z12 = m96 := by
  have q : z96 * z12 = (z62 * z12) * z7 := by rw [e96]; grind
  rw [q, d62, hm96]
 clear e96
 obtain ⟨m97, hm97⟩ : ∃ m, m = m95 * 1 + m96 * 1 := ⟨_, rfl⟩
 have d97 : z97 * z12 = m97 := by
  have q : z97 * z12 = (z95 * z12) * 1 + (z96 * z12) * 1 := by rw [e97]; grind
  rw [q, d95, d96, hm97]
 clear e97
 obtain ⟨m98, hm98⟩ : ∃ m, m = m97 * 1 + m70 * 1 := ⟨_, rfl⟩
 have d98 : z98 * z12 = m98 := by
  have q : z98 * z12 = (z97 * z12) * 1 + (z70 * z12) * 1 := by rw [e98]; grind
  rw [q, d97, d70, hm98]
 clear e98
 obtain ⟨m100, hm100⟩ : ∃ m, m = m98 * 1 - z48 * z12 := ⟨_, rfl⟩
 have d100 : z100 * z12 = m100 := by
  have q : z100 * z12 = (z98 * z12) * 1 - z48 * z12 := by rw [e100]; grind
  rw [q, d98, hm100]
 clear e100
 have hpoly : m100 = 0 := by
  clear d21 d22 d29 d30 d37 d38 d39 d40 d52 d54 d56 d58 d60 d62 d64 d66 d68 d70 d95 d96 d97 d98 d100
  subst_vars; grind
 have hgoal : z100 = 0 := (Rat.mul_eq_zero.1 (d100.trans hpoly)).resolve_right w12
 exact hgoal
theorem moveThree_r0 : (callB (sx Tryz.prog moveThree_N [(0, 12, 0, 1)] [] moveThree_L moveThree_C moveThree_Z (prQ [50])) 6 11 [(false, [(true, [.inr (2, 0, 0, 0, 0), .inr (2, 1, 0, 0, 0), .inr (2, 2, 0, 0, 0), .inr (2, 3, 0, 0, 0), .inr (2, 4, 0, 0, 0), .inr (2, 5, 0, 0, 0)])]), (false, [(true, [.inr (2, 6, 0, 0, 0), .inr (2, 7, 0, 0, 0), .inr (2, 8, 0, 0, 0), .inr (2, 9, 0, 0, 0), .inr (2, 10, 0, 0, 0), .inr (2, 11, 0, 0, 0)])])] [] 0).map (·.1) = some (kB true) := by kernel_rfl
theorem moveThree_r1 : (callB (sx Tryz.prog moveThree_N [(0, 12, 0, 0), (6, 79, 80, 1), (6, 89, 90, 1), (6, 99, 100, 1)] [(211, [.inr (3, 20, 0, 0, 0), .inr (3, 27, 0, 0, 0)])] moveThree_L moveThree_C moveThree_Z (prQ [50])) 7 11 [(false, [(true, [.inr (2, 0, 0, 0, 0), .inr (2, 1, 0, 0, 0), .inr (2, 2, 0, 0, 0), .inr (2, 3, 0, 0, 0), .inr (2, 4, 0, 0, 0), .inr (2, 5, 0, 0, 0)])]), (false, [(true, [.inr (2, 6, 0, 0, 0), .inr (2, 7, 0, 0, 0), .inr (2, 8, 0, 0, 0), .inr (2, 9, 0, 0, 0), .inr (2, 10, 0, 0, 0), .inr (2, 11, 0, 0, 0)])])] [] 0).map (·.1) = some (kB true) := by kernel_rfl
theorem moveThree_An {a b : Prop} (x : a) (y : b) : a ∧ b := ⟨x, y⟩
theorem moveThree_leaf {H : List (Nat × Nat × Nat × Nat)} {K : List (FuncId × List AC)} {k : Nat} {q : Nat → Rat} {σ : Nat → ByteArray} {args : List AV} {vs : List Value} {w : World} (hr : (callB (sx Tryz.prog moveThree_N H K moveThree_L moveThree_C moveThree_Z (prQ [50])) k 11 args [] 0).map (·.1) = some (kB true)) (hσ : ∀ j, (σ j).size ≤ 1048576) (hq : ∀ (a : Nat) nd, moveThree_N[a]? = some nd → q a = valN σ q nd) (h0 : ∀ a, moveThree_N.length ≤ a → q a = 0) (hH : hAll q H) (hp : PreS w) (hA : ∀ K, A2 (avOn (cOn (evS q σ) K (fun _ => none) w)) args vs) : Calls Tryz.prog 11 vs.toArray w fun e w' => Below w.heap.size w w' ∧ e = .returned (.bool true) :=
 run_toldQ' k (hy_ofW hσ moveThree_wf moveThree_sz moveThree_lt moveThree_cn hq h0 hH) (by simp [closed_moved]) (by kernel_rfl) hr hp (hA K)
theorem moveThree_walk {w : World} {sax saz sbx sbz scx scz tax taz tbx tbz tcx tcz : ByteArray} (ssax : sax.size ≤ 1048576) (ssaz : saz.size ≤ 1048576) (ssbx : sbx.size ≤ 1048576) (ssbz : sbz.size ≤ 1048576) (sscx : scx.size ≤ 1048576) (sscz : scz.size ≤ 1048576) (stax : tax.size ≤ 1048576) (staz : taz.size ≤ 1048576) (stbx : tbx.size ≤ 1048576) (stbz : tbz.size ≤ 1048576) (stcx : tcx.size ≤ 1048576) (stcz : tcz.size ≤ 1048576) (tab : Tab w) (mx : MaxL w) :
  Calls Tryz.prog 11 #[.agg #[.string sax, .string saz, .string sbx, .string sbz, .string scx, .string scz], .agg #[.string tax, .string taz, .string tbx, .string tbz, .string tcx, .string tcz]] w fun e w' => Below w.heap.size w w' ∧ e = .returned (.bool true) := by
 have hσ : ∀ j, (sgOf [sax, saz, sbx, sbz, scx, scz, tax, taz, tbx, tbz, tcx, tcz] j).size ≤ 1048576 := sgOf_size (by simp [ssax, ssaz, ssbx, ssbz, sscx, sscz, stax, staz, stbx, stbz, stcx, stcz])
 obtain ⟨q, hq, h0⟩ := nodes_exist (sgOf [sax, saz, sbx, sbz, scx, scz, tax, taz, tbx, tbz, tcx, tcz]) moveThree_N moveThree_wf
 have hA : ∀ K, A2 (avOn (cOn (evS q (sgOf [sax, saz, sbx, sbz, scx, scz, tax, taz, tbx, tbz, tcx, tcz])) K (fun _ => none) w)) [(false, [(true, [.inr (2, 0, 0, 0, 0), .inr (2, 1, 0, 0, 0), .inr (2, 2, 0, 0, 0), .inr (2, 3, 0, 0, 0), .inr (2, 4, 0, 0, 0), .inr (2, 5, 0, 0, 0)])]), (false, [(true, [.inr (2, 6, 0, 0, 0), .inr (2, 7, 0, 0, 0), .inr (2, 8, 0, 0, 0), .inr (2, 9, 0, 0, 0), .inr (2, 10, 0, 0, 0), .inr (2, 11, 0, 0, 0)])])] [.agg #[.string sax, .string saz, .string sbx, .string sbz, .string scx, .string scz], .agg #[.string tax, .string taz, .string tbx, .string tbz, .string tcx, .string tcz]] := fun K => ⟨⟨⟨[.string sax, .string saz, .string sbx, .string sbz, .string scx, .string scz], rfl, rfl, rfl, rfl, rfl, rfl, rfl, trivial⟩, trivial⟩, ⟨⟨[.string tax, .string taz, .string tbx, .string tbz, .string tcx, .string tcz], rfl, rfl, rfl, rfl, rfl, rfl, rfl, trivial⟩, trivial⟩, trivial⟩
 have E4 : q 4 = q 2 - q 0 := hq 4 _ rfl
 have E5 : q 5 = q 3 - q 1 := hq 5 _ rfl
 have E8 : q 8 = q 6 - q 0 := hq 8 _ rfl
 have E9 : q 9 = q 7 - q 1 := hq 9 _ rfl
 have E10 : q 10 = q 4 * q 9 := hq 10 _ rfl
 have E11 : q 11 = q 5 * q 8 := hq 11 _ rfl
 have E12 : q 12 = q 10 - q 11 := hq 12 _ rfl
 have E13 : q 13 = 1 := (hq 13 _ rfl).trans moveThree_c13
 have E14 : q 14 = q 13 * q 9 := hq 14 _ rfl
 have E15 : q 15 = 0 := (hq 15 _ rfl).trans moveThree_c15
 have E16 : q 16 = q 15 * q 8 := hq 16 _ rfl
 have E17 : q 17 = q 14 - q 16 := hq 17 _ rfl
 have E18 : q 18 = q 4 * q 15 := hq 18 _ rfl
 have E19 : q 19 = q 5 * q 13 := hq 19 _ rfl
 have E20 : q 20 = q 18 - q 19 := hq 20 _ rfl
 have E21 : q 21 = q 17 / q 12 := hq 21 _ rfl
 have E22 : q 22 = q 20 / q 12 := hq 22 _ rfl
 have E23 : q 23 = q 15 * q 9 := hq 23 _ rfl
 have E24 : q 24 = q 13 * q 8 := hq 24 _ rfl
 have E25 : q 25 = q 23 - q 24 := hq 25 _ rfl
 have E26 : q 26 = q 4 * q 13 := hq 26 _ rfl
 have E27 : q 27 = q 5 * q 15 := hq 27 _ rfl
 have E28 : q 28 = q 26 - q 27 := hq 28 _ rfl
 have E29 : q 29 = q 25 / q 12 := hq 29 _ rfl
 have E30 : q 30 = q 28 / q 12 := hq 30 _ rfl
 have E31 : q 31 = q 0 * q 9 := hq 31 _ rfl
 have E32 : q 32 = q 1 * q 8 := hq 32 _ rfl
 have E33 : q 33 = q 31 - q 32 := hq 33 _ rfl
 have E34 : q 34 = q 4 * q 1 := hq 34 _ rfl
 have E35 : q 35 = q 5 * q 0 := hq 35 _ rfl
 have E36 : q 36 = q 34 - q 35 := hq 36 _ rfl
 have E37 : q 37 = q 33 / q 12 := hq 37 _ rfl
 have E38 : q 38 = q 36 / q 12 := hq 38 _ rfl
 have E39 : q 39 = -q 37 := hq 39 _ rfl
 have E40 : q 40 = -q 38 := hq 40 _ rfl
 have E45 : q 45 = q 43 - q 41 := hq 45 _ rfl
 have E46 : q 46 = q 44 - q 42 := hq 46 _ rfl
 have E49 : q 49 = q 47 - q 41 := hq 49 _ rfl
 have E50 : q 50 = q 48 - q 42 := hq 50 _ rfl
 have E51 : q 51 = q 45 * q 21 := hq 51 _ rfl
 have E52 : q 52 = q 46 * q 21 := hq 52 _ rfl
 have E53 : q 53 = q 49 * q 22 := hq 53 _ rfl
 have E54 : q 54 = q 50 * q 22 := hq 54 _ rfl
 have E55 : q 55 = q 51 + q 53 := hq 55 _ rfl
 have E56 : q 56 = q 52 + q 54 := hq 56 _ rfl
 have E57 : q 57 = q 45 * q 29 := hq 57 _ rfl
 have E58 : q 58 = q 46 * q 29 := hq 58 _ rfl
 have E59 : q 59 = q 49 * q 30 := hq 59 _ rfl
 have E60 : q 60 = q 50 * q 30 := hq 60 _ rfl
 have E61 : q 61 = q 57 + q 59 := hq 61 _ rfl
 have E62 : q 62 = q 58 + q 60 := hq 62 _ rfl
 have E63 : q 63 = q 45 * q 39 := hq 63 _ rfl
 have E64 : q 64 = q 46 * q 39 := hq 64 _ rfl
 have E65 : q 65 = q 49 * q 40 := hq 65 _ rfl
 have E66 : q 66 = q 50 * q 40 := hq 66 _ rfl
 have E67 : q 67 = q 63 + q 65 := hq 67 _ rfl
 have E68 : q 68 = q 64 + q 66 := hq 68 _ rfl
 have E69 : q 69 = q 67 + q 41 := hq 69 _ rfl
 have E70 : q 70 = q 68 + q 42 := hq 70 _ rfl
 have E71 : q 71 = q 55 * q 0 := hq 71 _ rfl
 have E72 : q 72 = q 61 * q 1 := hq 72 _ rfl
 have E73 : q 73 = q 71 + q 72 := hq 73 _ rfl
 have E74 : q 74 = q 73 + q 69 := hq 74 _ rfl
 have E75 : q 75 = q 56 * q 0 := hq 75 _ rfl
 have E76 : q 76 = q 62 * q 1 := hq 76 _ rfl
 have E77 : q 77 = q 75 + q 76 := hq 77 _ rfl
 have E78 : q 78 = q 77 + q 70 := hq 78 _ rfl
 have E79 : q 79 = q 74 - q 41 := hq 79 _ rfl
 have E80 : q 80 = q 78 - q 42 := hq 80 _ rfl
 have E81 : q 81 = q 55 * q 2 := hq 81 _ rfl
 have E82 : q 82 = q 61 * q 3 := hq 82 _ rfl
 have E83 : q 83 = q 81 + q 82 := hq 83 _ rfl
 have E84 : q 84 = q 83 + q 69 := hq 84 _ rfl
 have E85 : q 85 = q 56 * q 2 := hq 85 _ rfl
 have E86 : q 86 = q 62 * q 3 := hq 86 _ rfl
 have E87 : q 87 = q 85 + q 86 := hq 87 _ rfl
 have E88 : q 88 = q 87 + q 70 := hq 88 _ rfl
 have E89 : q 89 = q 84 - q 43 := hq 89 _ rfl
 have E90 : q 90 = q 88 - q 44 := hq 90 _ rfl
 have E91 : q 91 = q 55 * q 6 := hq 91 _ rfl
 have E92 : q 92 = q 61 * q 7 := hq 92 _ rfl
 have E93 : q 93 = q 91 + q 92 := hq 93 _ rfl
 have E94 : q 94 = q 93 + q 69 := hq 94 _ rfl
 have E95 : q 95 = q 56 * q 6 := hq 95 _ rfl
 have E96 : q 96 = q 62 * q 7 := hq 96 _ rfl
 have E97 : q 97 = q 95 + q 96 := hq 97 _ rfl
 have E98 : q 98 = q 97 + q 70 := hq 98 _ rfl
 have E99 : q 99 = q 94 - q 47 := hq 99 _ rfl
 have E100 : q 100 = q 98 - q 48 := hq 100 _ rfl
 by_cases b12 : q 12 = 0
 ·
  exact moveThree_leaf moveThree_r0 hσ hq h0 (moveThree_An (hT b12) trivial) ⟨tab, mx⟩ hA
 ·
  have a_6_79_80 : q 79 = 0 ∧ q 80 = 0 := And.intro (moveThree_f0 E4 E5 E8 E9 E10 E11 E12 E13 E14 E15 E16 E17 E18 E19 E20 E21 E22 E23 E24 E25 E26 E27 E28 E29 E30 E31 E32 E33 E34 E35 E36 E37 E38 E39 E40 E45 E49 E51 E53 E55 E57 E59 E61 E63 E65 E67 E69 E71 E72 E73 E74 E79 b12) (moveThree_f1 E4 E5 E8 E9 E10 E11 E12 E13 E14 E15 E16 E17 E18 E19 E20 E21 E22 E23 E24 E25 E26 E27 E28 E29 E30 E31 E32 E33 E34 E35 E36 E37 E38 E39 E40 E46 E50 E52 E54 E56 E58 E60 E62 E64 E66 E68 E70 E75 E76 E77 E78 E80 b12)
  have a_6_89_90 : q 89 = 0 ∧ q 90 = 0 := And.intro (moveThree_f2 E4 E5 E8 E9 E10 E11 E12 E13 E14 E15 E16 E17 E18 E19 E20 E21 E22 E23 E24 E25 E26 E27 E28 E29 E30 E31 E32 E33 E34 E35 E36 E37 E38 E39 E40 E45 E49 E51 E53 E55 E57 E59 E61 E63 E65 E67 E69 E81 E82 E83 E84 E89 b12) (moveThree_f3 E4 E5 E8 E9 E10 E11 E12 E13 E14 E15 E16 E17 E18 E19 E20 E21 E22 E23 E24 E25 E26 E27 E28 E29 E30 E31 E32 E33 E34 E35 E36 E37 E38 E39 E40 E46 E50 E52 E54 E56 E58 E60 E62 E64 E66 E68 E70 E85 E86 E87 E88 E90 b12)
  have a_6_99_100 : q 99 = 0 ∧ q 100 = 0 := And.intro (moveThree_f4 E4 E5 E8 E9 E10 E11 E12 E13 E14 E15 E16 E17 E18 E19 E20 E21 E22 E23 E24 E25 E26 E27 E28 E29 E30 E31 E32 E33 E34 E35 E36 E37 E38 E39 E40 E45 E49 E51 E53 E55 E57 E59 E61 E63 E65 E67 E69 E91 E92 E93 E94 E99 b12) (moveThree_f5 E4 E5 E8 E9 E10 E11 E12 E13 E14 E15 E16 E17 E18 E19 E20 E21 E22 E23 E24 E25 E26 E27 E28 E29 E30 E31 E32 E33 E34 E35 E36 E37 E38 E39 E40 E46 E50 E52 E54 E56 E58 E60 E62 E64 E66 E68 E70 E95 E96 E97 E98 E100 b12)
  exact moveThree_leaf moveThree_r1 hσ hq h0 (moveThree_An (hF b12) (moveThree_An (hT a_6_79_80) (moveThree_An (hT a_6_89_90) (moveThree_An (hT a_6_99_100) trivial)))) ⟨tab, mx⟩ hA
end Go.Proofs.YtkcikcnimkofkaaGreatDoor
