/- Part 13 of the walks and of the mathematics under them: VY VSZ CFmoved MVW. -/
import Derived.Test.YtkcikcnimkofkaaGreatDoorA12
set_option maxHeartbeats 16000000
set_option maxRecDepth 100000
/- VY -/
namespace Go.Proofs.YtkcikcnimkofkaaGreatDoor
open Go.RowKit Cx
theorem den_num (t : Rat) : t * (t.den : Rat) = ((t.num : Int) : Rat) := by
 conv => lhs; lhs; rw [← Rat.mkRat_self t]
 have h0 : (t.den : Rat) ≠ 0 := fun h => t.den_nz (by exact_mod_cast h)
 rw [Rat.mkRat_eq_div, Rat.div_mul_cancel h0]
theorem whole {q : Rat} (h : q.den = 1) : q = ((q.num : Int) : Rat) := by
 have := den_num q
 rw [h] at this
 rw [← this]
 show q = q * ((1 : Nat) : Rat)
 exact (Rat.mul_one q).symm
end Go.Proofs.YtkcikcnimkofkaaGreatDoor
/- VSZ -/
namespace Go.Proofs.YtkcikcnimkofkaaGreatDoor
open Go.RowKit Cx
def szW (Z : List Nat) (I : List Bool) (z : Nat) (b : Bool) (nd : Nd) : Bool := match nd.1, nd.2 with
 | 0, [_, n, d] => (Nat.blt n (2 ^ z) && (Nat.blt 0 d && Nat.blt d (2 ^ z))) && (!b || Nat.beq d 1)
 | 1, [_] => Nat.ble 3495259 z && !b
 | 2, [a, c] => (match Z[a]?, Z[c]?, I[a]?, I[c]? with
  | some x, some y, some true, some true => Nat.ble (Nat.max x y + 1) z
  | some x, some y, _, _ => Nat.ble (x + y + 1) z && !b
  | _, _, _, _ => false)
 | 3, [a, c] => (match Z[a]?, Z[c]?, I[a]?, I[c]? with
  | some x, some y, some true, some true => Nat.ble (Nat.max x y + 1) z
  | some x, some y, _, _ => Nat.ble (x + y + 1) z && !b
  | _, _, _, _ => false)
 | 4, [a, c] => (match Z[a]?, Z[c]?, I[a]?, I[c]? with
  | some x, some y, some true, some true => Nat.ble (x + y) z
  | some x, some y, _, _ => Nat.ble (x + y) z && !b
  | _, _, _, _ => false)
 | 5, [a] => (match Z[a]?, I[a]? with
  | some x, some true => Nat.ble x z
  | some x, _ => Nat.ble x z && !b
  | _, _ => false)
 | 6, [a, c] => (match Z[a]?, Z[c]? with
  | some x, some y => Nat.ble (x + y) z && !b
  | _, _ => false)
 | 8, i :: xs => (match getsO Z xs with
  | some zs => Nat.blt i xs.length && (Nat.ble ((xs.length + 1) * maxL zs + 1) z || (xs.all (fun a => match I[a]? with
   | some true => true
   | _ => false) && (match xs[i]? with
   | some a => (match Z[a]? with
    | some x => Nat.ble (x + 1) z
    | none => false)
   | none => false)))
  | none => false)
 | _, _ => false
def szC (Z : List Nat) (I : List Bool) : List Nd → List Nat → List Bool → Bool
 | [], [], [] => true
 | nd :: ns, z :: zs, b :: bs => (szW Z I z b nd && Nat.ble z 1000000000000) && szC Z I ns zs bs
 | _, _, _ => false
theorem szC_get {Z : List Nat} {I : List Bool} : ∀ {ns : List Nd} {zs : List Nat} {bs : List Bool} {i z : Nat}, szC Z I ns zs bs = true → zs[i]? = some z → ∃ nd b, ns[i]? = some nd ∧ bs[i]? = some b ∧ szW Z I z b nd = true ∧ z ≤ 1000000000000
 | [], [], [], _, _, _, h => by simp at h
 | [], [], _ :: _, _, _, h, _ => by cases h
 | [], _ :: _, _, _, _, h, _ => by cases h
 | _ :: _, [], _, _, _, h, _ => by cases h
 | _ :: _, _ :: _, [], _, _, h, _ => by cases h
 | nd :: ns, z' :: zs, b :: bs, 0, z, h, e => by
  have : z' = z := by simpa using e
  subst this
  unfold szC at h
  simp only [Bool.and_eq_true, Nat.ble_eq] at h
  exact ⟨nd, b, rfl, rfl, h.1.1, h.1.2⟩
 | nd :: ns, z' :: zs, b :: bs, i + 1, z, h, e => by
  unfold szC at h
  rw [Bool.and_eq_true] at h
  obtain ⟨nd2, b2, g1, g2, g3⟩ := szC_get (ns := ns) (zs := zs) (bs := bs) h.2 (show zs[i]? = some z by simpa using e)
  exact ⟨nd2, b2, by simpa using g1, by simpa using g2, g3⟩
theorem szC_len {Z : List Nat} {I : List Bool} : ∀ {ns : List Nd} {zs : List Nat} {bs : List Bool}, szC Z I ns zs bs = true → ns.length = zs.length
 | [], [], [], _ => rfl
 | [], [], _ :: _, h => by cases h
 | [], _ :: _, _, h => by cases h
 | _ :: _, [], _, h => by cases h
 | _ :: _, _ :: _, [], h => by cases h
 | _ :: _, _ :: _, _ :: _, h => by
  unfold szC at h
  rw [Bool.and_eq_true] at h
  exact congrArg (· + 1) (szC_len h.2)
structure QW (z : Nat) (x : Rat) : Prop where
 qs : QS z x
 wh : x.den = 1
theorem QW.of {z : Nat} {n : Int} (h : n.natAbs < 2 ^ z) (hz : 0 < z) : QW z ((n : Int) : Rat) :=
 ⟨⟨by simpa using h, by
  show ((n : Int) : Rat).den < 2 ^ z
  rw [Rat.den_intCast]
  exact Nat.one_lt_two_pow (by omega)⟩, Rat.den_intCast n⟩
theorem QW.mono {k l : Nat} {x : Rat} (h : QW k x) (hk : k ≤ l) : QW l x := ⟨h.qs.mono hk, h.wh⟩
theorem two_max {a b x y : Nat} (h1 : a < 2 ^ x) (h2 : b < 2 ^ y) : a + b < 2 ^ (Nat.max x y + 1) := by
 have e1 : 2 ^ x ≤ 2 ^ Nat.max x y := Nat.pow_le_pow_right (by decide) (Nat.le_max_left x y)
 have e2 : 2 ^ y ≤ 2 ^ Nat.max x y := Nat.pow_le_pow_right (by decide) (Nat.le_max_right x y)
 rw [Nat.pow_succ]
 omega
theorem QW.add {x y : Nat} {a b : Rat} (h1 : QW x a) (h2 : QW y b) : QW (Nat.max x y + 1) (a + b) := by
 rw [whole h1.wh, whole h2.wh, ← Rat.intCast_add]
 refine QW.of ?_ (by omega)
 have := two_max h1.qs.num h2.qs.num
 omega
theorem QW.sub {x y : Nat} {a b : Rat} (h1 : QW x a) (h2 : QW y b) : QW (Nat.max x y + 1) (a - b) := by
 rw [whole h1.wh, whole h2.wh, ← Rat.intCast_sub]
 refine QW.of ?_ (by omega)
 have := two_max h1.qs.num h2.qs.num
 omega
theorem QW.mul {x y : Nat} {a b : Rat} (h1 : QW x a) (h2 : QW y b) : QW (x + y) (a * b) := by
 refine ⟨h1.qs.mul h2.qs, ?_⟩
 rw [whole h1.wh, whole h2.wh, ← Rat.intCast_mul]
 exact Rat.den_intCast _
theorem QW.neg {x : Nat} {a : Rat} (h1 : QW x a) : QW x (-a) := ⟨h1.qs.neg, h1.wh⟩
theorem lD_one : ∀ {qs : List Rat} {m : Nat}, (∀ q ∈ qs, q.den = 1) → qs.foldl (fun m q => m * (q.den / Nat.gcd m q.den)) m = m
 | [], _, _ => rfl
 | q :: qs, m, h => by
  rw [List.foldl_cons, h q List.mem_cons_self, Nat.gcd_one_right, Nat.div_self (by decide), Nat.mul_one]
  exact lD_one fun p hp => h p (List.mem_cons_of_mem _ hp)
theorem QW.fac {z : Nat} {qs : List Rat} {x : Rat} (hx : QS z x) (h : x ∈ qs) (hw : ∀ y ∈ qs, y.den = 1) : QS (z + 1) (x * fac qs) := by
 have hl : lD qs = 1 := lD_one hw
 refine ⟨?_, ?_⟩
 ·rw [fac_abs h, hl, hw x h, Nat.div_self (by decide), Nat.mul_one]
  exact Nat.lt_of_le_of_lt (Nat.div_le_self _ _) (Nat.lt_of_lt_of_le hx.num (Nat.pow_le_pow_right (by decide) (by omega)))
 ·rw [fac_den h]
  exact Nat.one_lt_two_pow (by omega)
theorem ten_three : ∀ n : Nat, 10 ^ n ≤ 2 ^ ((10 * n + 2) / 3)
 | 0 => by decide
 | 1 => by decide
 | 2 => by decide
 | n + 3 => by
  have h := ten_three n
  have e : (10 * (n + 3) + 2) / 3 = (10 * n + 2) / 3 + 10 := by omega
  rw [e, Nat.pow_add, Nat.pow_add]
  exact Nat.mul_le_mul h (by decide)
theorem QS.rd3 (l : List UInt8) : QS ((10 * l.length + 2) / 3 + 5) (Cx.rd l) := by
 have key : ∀ {m : List UInt8}, digs m = true → dv m < 2 ^ ((10 * m.length + 2) / 3) := fun {m} h => Nat.lt_of_lt_of_le (dv_lt (digs_all h)) (ten_three _)
 unfold Cx.rd
 split
 ·rename_i h
  rw [Bool.and_eq_true] at h
  have h1 := key h.1
  have h2 := key h.2
  have h3 := up_len (tailOf l)
  have h4 := low_len (tailOf l)
  have h5 := tail_len l
  apply QS.mkr
  ·rw [sg_abs]; exact Nat.lt_of_lt_of_le h1 (Nat.pow_le_pow_right (by decide) (by omega))
  ·exact Nat.lt_of_lt_of_le h2 (Nat.pow_le_pow_right (by decide) (by omega))
 ·exact QS.zero.mono (by omega)
section
variable {N : List Nd} {Z : List Nat} {I : List Bool} {q : Nat → Rat}
theorem sizes_okW {σ : Nat → ByteArray} (hσ : ∀ j, (σ j).size ≤ 1048576) (hw : wfB 0 N = true) (hz : szC Z I N Z I = true) (hq : ∀ (a : Nat) nd, N[a]? = some nd → q a = valN σ q nd) (h0 : ∀ a, N.length ≤ a → q a = 0) : (∀ (a : Nat) z, Z[a]? = some z → QS z (q a)) ∧ ∀ a, QS 1000000000000 (q a) := by
 have h2 : ∀ (a : Nat) z, Z[a]? = some z → QS z (q a) ∧ (I[a]? = some true → (q a).den = 1) := by
  intro a
  induction a using Nat.strongRecOn with
  | ind a ih =>
   intro z hz'
   obtain ⟨nd, b, hn, hb, hs, _⟩ := szC_get hz hz'
   have hwf := wfB_get hw hn
   rw [Nat.zero_add] at hwf
   rw [hq a nd hn, hb]
   obtain ⟨op, xs⟩ := nd
   unfold szW at hs
   unfold valN
   unfold wfN at hwf
   dsimp only at hs hwf ⊢
   have W : ∀ {c x}, c < a → Z[c]? = some x → I[c]? = some true → QW x (q c) := fun hc hx hi => ⟨(ih _ hc _ hx).1, (ih _ hc _ hx).2 hi⟩
   have no : ∀ {v : Rat}, b = false → (some b = some true → v.den = 1) := fun e h => by rw [e] at h; cases h
   split at hs
   ·rename_i s n d
    simp only [Bool.and_eq_true] at hs
    obtain ⟨⟨h1, h2, h3⟩, h4⟩ := hs
    refine ⟨QS.const (by simpa [Nat.blt_eq] using h1) (by simpa [Nat.blt_eq] using h2) (by simpa [Nat.blt_eq] using h3), fun e => ?_⟩
    rw [show b = true from Option.some.inj e] at h4
    have hd : d = 1 := by simpa using h4
    subst hd
    show (if s = 0 then mkRat (n : Int) 1 else mkRat (-(n : Int)) 1).den = 1
    split
    ·rw [Rat.mkRat_one]
     exact Rat.den_intCast _
    ·rw [Rat.mkRat_one]
     exact Rat.den_intCast _
   ·rename_i j
    simp only [Bool.and_eq_true, Nat.ble_eq, Bool.not_eq_true'] at hs
    exact ⟨QS.mono (QS.rd3 _) (by have := hσ j; rw [str_len]; omega), no hs.2⟩
   ·simp only [List.all_cons, List.all_nil, Bool.and_true, Bool.and_eq_true] at hwf
    have l1 := (by simpa [Nat.blt_eq] using hwf.1 : _ < a)
    have l2 := (by simpa [Nat.blt_eq] using hwf.2 : _ < a)
    split at hs
    ·rename_i x y hx hy i1 i2
     rw [Nat.ble_eq] at hs
     have := ((W l1 hx i1).add (W l2 hy i2)).mono hs
     exact ⟨this.qs, fun _ => this.wh⟩
    ·rename_i x y hx hy _
     simp only [Bool.and_eq_true, Nat.ble_eq, Bool.not_eq_true'] at hs
     exact ⟨((ih _ l1 x hx).1.add (ih _ l2 y hy).1).mono hs.1, no hs.2⟩
    ·cases hs
   ·simp only [List.all_cons, List.all_nil, Bool.and_true, Bool.and_eq_true] at hwf
    have l1 := (by simpa [Nat.blt_eq] using hwf.1 : _ < a)
    have l2 := (by simpa [Nat.blt_eq] using hwf.2 : _ < a)
    split at hs
    ·rename_i x y hx hy i1 i2
     rw [Nat.ble_eq] at hs
     have := ((W l1 hx i1).sub (W l2 hy i2)).mono hs
     exact ⟨this.qs, fun _ => this.wh⟩
    ·rename_i x y hx hy _
     simp only [Bool.and_eq_true, Nat.ble_eq, Bool.not_eq_true'] at hs
     exact ⟨((ih _ l1 x hx).1.sub (ih _ l2 y hy).1).mono hs.1, no hs.2⟩
    ·cases hs
   ·simp only [List.all_cons, List.all_nil, Bool.and_true, Bool.and_eq_true] at hwf
    have l1 := (by simpa [Nat.blt_eq] using hwf.1 : _ < a)
    have l2 := (by simpa [Nat.blt_eq] using hwf.2 : _ < a)
    split at hs
    ·rename_i x y hx hy i1 i2
     rw [Nat.ble_eq] at hs
     have := ((W l1 hx i1).mul (W l2 hy i2)).mono hs
     exact ⟨this.qs, fun _ => this.wh⟩
    ·rename_i x y hx hy _
     simp only [Bool.and_eq_true, Nat.ble_eq, Bool.not_eq_true'] at hs
     exact ⟨((ih _ l1 x hx).1.mul (ih _ l2 y hy).1).mono hs.1, no hs.2⟩
    ·cases hs
   ·simp only [List.all_cons, List.all_nil, Bool.and_true] at hwf
    have l1 := (by simpa [Nat.blt_eq] using hwf : _ < a)
    split at hs
    ·rename_i x hx i1
     rw [Nat.ble_eq] at hs
     have := (W l1 hx i1).neg.mono hs
     exact ⟨this.qs, fun _ => this.wh⟩
    ·rename_i x hx _
     simp only [Bool.and_eq_true, Nat.ble_eq, Bool.not_eq_true'] at hs
     exact ⟨((ih _ l1 x hx).1.neg).mono hs.1, no hs.2⟩
    ·cases hs
   ·simp only [List.all_cons, List.all_nil, Bool.and_true, Bool.and_eq_true] at hwf
    split at hs
    ·rename_i x y hx hy
     simp only [Bool.and_eq_true, Nat.ble_eq, Bool.not_eq_true'] at hs
     exact ⟨((ih _ (by simpa [Nat.blt_eq] using hwf.1) x hx).1.div (ih _ (by simpa [Nat.blt_eq] using hwf.2) y hy).1).mono hs.1, no hs.2⟩
    ·cases hs
   ·rename_i i ys
    split at hs
    ·rename_i zs hzs
     rw [Bool.and_eq_true] at hs
     have hi : i < ys.length := by simpa [Nat.blt_eq] using hs.1
     have hwf' : ys.all (Nat.blt · a) = true := hwf
     rw [List.all_eq_true] at hwf'
     have hlt : ∀ c ∈ ys, c < a := fun c hc => by simpa [Nat.blt_eq] using hwf' c hc
     have hm : q ys[i] ∈ ys.map q := List.mem_map_of_mem (List.getElem_mem hi)
     have hg : (ys.map q).getD i 0 = q ys[i] := by
      rw [List.getD_eq_getElem?_getD, List.getElem?_map, List.getElem?_eq_getElem hi]
      rfl
     show QS z ((ys.map q).getD i 0 * fac (ys.map q)) ∧ (some b = some true → ((ys.map q).getD i 0 * fac (ys.map q)).den = 1)
     rw [hg]
     refine ⟨?_, fun _ => fac_den hm⟩
     rcases Bool.or_eq_true _ _ ▸ hs.2 with h3 | h3
     ·rw [Nat.ble_eq] at h3
      have hall : ∀ y ∈ ys.map q, QS (maxL zs) y := fun y hy => by
       obtain ⟨c, hc, rfl⟩ := List.mem_map.1 hy
       obtain ⟨z', hm', hz2⟩ := getsO_get hzs c hc
       exact (ih c (hlt c hc) z' hz2).1.mono (le_maxL z' hm')
      have := QS.facN hall (x := q ys[i]) hm
      rw [List.length_map] at this
      exact this.mono h3
     ·rw [Bool.and_eq_true, List.all_eq_true] at h3
      obtain ⟨h4, h5⟩ := h3
      have hwh : ∀ y ∈ ys.map q, y.den = 1 := fun y hy => by
       obtain ⟨c, hc, rfl⟩ := List.mem_map.1 hy
       obtain ⟨z', _, hz2⟩ := getsO_get hzs c hc
       refine (ih c (hlt c hc) z' hz2).2 ?_
       have := h4 c hc
       split at this
       ·assumption
       ·cases this
      rw [List.getElem?_eq_getElem hi] at h5
      dsimp only at h5
      split at h5
      ·rename_i x hx
       rw [Nat.ble_eq] at h5
       exact (QW.fac (ih _ (hlt _ (List.getElem_mem hi)) x hx).1 hm hwh).mono h5
      ·cases h5
    ·cases hs
   ·cases hs
 refine ⟨fun a z h => (h2 a z h).1, fun a => ?_⟩
 have hl := szC_len hz
 by_cases ha : a < Z.length
 ·obtain ⟨nd, b, _, _, _, hle⟩ := szC_get hz (List.getElem?_eq_getElem ha)
  exact (h2 a _ (List.getElem?_eq_getElem ha)).1.mono hle
 ·rw [h0 a (by omega)]
  exact QS.zero.mono (by decide)
theorem hy_ofW {L C : List (List Nat × Nat)} {σ : Nat → ByteArray} {H : List (Nat × Nat × Nat × Nat)} (hσ : ∀ j, (σ j).size ≤ 1048576) (hw : wfB 0 N = true) (hz : szC Z I N Z I = true) (hl : litB N L = true) (hcn : canB N C = true) (hq : ∀ (a : Nat) nd, N[a]? = some nd → q a = valN σ q nd) (h0 : ∀ a, N.length ≤ a → q a = 0) (hH : hAll q H) : Hy N H L C Z q σ where
 nat := hq
 qs := (sizes_okW hσ hw hz hq h0).2
 zs := (sizes_okW hσ hw hz hq h0).1
 par := hσ
 lit := fun s b h => lit_rd hl hq h
 k0 := fun a r h => kn_at hH h
 k1 := fun a r h => kn_at hH h
 k2 := fun a r h => kn_at hH h
 k3 := fun a b r h => kn_at hH h
 k4 := fun l a b r h1 h2 => by
  have h3 : Nat.beq 1 r = true ↔ q a = q b := kn_at hH h2
  rw [h3, ← can_tx hcn hq h1]
  exact ⟨fun e => by rw [e], fun e => tellS_inj (bytesN_inj e)⟩
 k6 := fun a b r h => kn_at hH h
 k5 := fun a r h => kn_at hH h
end
end Go.Proofs.YtkcikcnimkofkaaGreatDoor
/- CFmoved -/
namespace Go.Proofs.YtkcikcnimkofkaaGreatDoor
open Go.RowKit Cx
theorem closed_moved : Closed 50 :=
 closed_told (N := [(0, [0, 1, 1]), (0, [0, 0, 1]), (4, [0, 1]), (4, [1, 1]), (2, [2, 3]), (2, [4, 1]), (5, [5]), (4, [0, 6]), (4, [1, 6]), (4, [0, 0]), (2, [9, 3]), (6, [7, 10]), (6, [8, 10]), (0, [0, 2, 1]), (4, [11, 13]), (4, [12, 13]), (2, [1, 14]), (2, [1, 15]), (2, [10, 1]), (5, [18]), (4, [0, 19]), (4, [1, 19]), (6, [20, 10]), (6, [21, 10]), (4, [22, 13]), (4, [23, 13]), (2, [0, 24]), (2, [1, 25]), (3, [26, 16]), (3, [27, 17]), (4, [1, 0]), (2, [2, 30]), (2, [31, 1]), (5, [32]), (4, [0, 33]), (4, [1, 33]), (6, [34, 10]), (6, [35, 10]), (4, [36, 13]), (4, [37, 13]), (2, [1, 38]), (2, [0, 39]), (3, [40, 16]), (3, [41, 17]), (0, [1, 1, 1]), (2, [4, 44]), (5, [45]), (4, [0, 46]), (4, [1, 46]), (6, [47, 10]), (6, [48, 10]), (4, [49, 13]), (4, [50, 13]), (2, [1, 51]), (2, [1, 52]), (2, [10, 44]), (5, [55]), (4, [0, 56]), (4, [1, 56]), (6, [57, 10]), (6, [58, 10]), (4, [59, 13]), (4, [60, 13]), (2, [0, 61]), (2, [1, 62]), (3, [63, 53]), (3, [64, 54]), (2, [31, 44]), (5, [67]), (4, [0, 68]), (4, [1, 68]), (6, [69, 10]), (6, [70, 10]), (4, [71, 13]), (4, [72, 13]), (2, [1, 73]), (2, [0, 74]), (3, [75, 53]), (3, [76, 54]), (4, [65, 28]), (4, [66, 28]), (4, [77, 29]), (4, [78, 29]), (2, [79, 81]), (2, [80, 82]), (4, [65, 42]), (4, [66, 42]), (4, [77, 43]), (4, [78, 43]), (2, [85, 87]), (2, [86, 88]), (4, [65, 16]), (4, [66, 16]), (4, [77, 17]), (4, [78, 17]), (2, [91, 93]), (2, [92, 94]), (2, [95, 53]), (2, [96, 54]), (4, [83, 83]), (4, [84, 84]), (2, [99, 100]), (3, [101, 0]), (4, [89, 89]), (4, [90, 90]), (2, [103, 104]), (3, [105, 0]), (4, [83, 89]), (4, [84, 90]), (2, [107, 108]), (4, [83, 90]), (4, [84, 89]), (3, [110, 111]), (3, [83, 0]), (3, [84, 1]), (0, [0, 3, 1]), (0, [0, 4, 1]), (4, [28, 115]), (4, [29, 115]), (4, [42, 116]), (4, [43, 116]), (2, [117, 119]), (2, [118, 120]), (2, [121, 16]), (2, [122, 17]), (0, [1, 3, 1])]) (H := [(0, 0, 0, 0), (0, 102, 0, 1), (0, 106, 0, 1), (0, 109, 0, 1), (1, 112, 0, 0), (0, 113, 0, 1), (0, 114, 0, 1), (0, 97, 0, 0), (4, 83, 0, 1), (4, 89, 1, 1), (4, 97, 13, 1), (4, 84, 1, 1), (4, 90, 0, 1), (4, 98, 1, 1), (4, 123, 125, 1), (4, 124, 116, 1)]) (K := [(218, [.inr (3, 9, 0, 0, 0)]), (218, [.inr (3, 121, 0, 0, 0)]), (208, [.inr (3, 227, 0, 0, 0)]), (208, [.inr (3, 238, 0, 0, 0)]), (208, [.inr (3, 311, 0, 0, 0)]), (219, []), (208, [.inr (3, 354, 0, 0, 0)])]) (L := [([49], 0), ([48], 1), ([45, 49], 44), ([50], 13), ([51], 115), ([52], 116), ([45, 51], 125)]) (C := [([49], 0), ([48], 1), ([50], 13), ([45, 51], 125), ([52], 116)]) (Z := [2, 2, 4, 4, 9, 12, 12, 14, 14, 4, 9, 23, 23, 3, 26, 26, 29, 29, 12, 12, 14, 14, 23, 23, 26, 26, 29, 29, 59, 59, 4, 9, 12, 12, 14, 14, 23, 23, 26, 26, 29, 29, 59, 59, 2, 12, 12, 14, 14, 23, 23, 26, 26, 29, 29, 12, 12, 14, 14, 23, 23, 26, 26, 29, 29, 59, 59, 12, 12, 14, 14, 23, 23, 26, 26, 29, 29, 59, 59, 118, 118, 118, 118, 237, 237, 118, 118, 118, 118, 237, 237, 88, 88, 88, 88, 177, 177, 207, 207, 474, 474, 949, 952, 474, 474, 949, 952, 474, 474, 949, 474, 474, 949, 240, 240, 3, 4, 62, 62, 63, 63, 126, 126, 156, 156, 3]) (cl := []) 8 (fun _ h => by cases h) (by kernel_rfl) (by kernel_rfl) (by kernel_rfl) (by kernel_rfl) (by kernel_rfl) (by kernel_rfl) (by kernel_rfl)
end Go.Proofs.YtkcikcnimkofkaaGreatDoor
/- MVW -/
namespace Go.Proofs.YtkcikcnimkofkaaGreatDoor
open Go.RowKit Cx
def moveTwoMirrors_N : List Nd := [(1, [0]), (1, [1]), (1, [2]), (1, [3]), (1, [4]), (1, [5]), (0, [0, 0, 1]), (4, [3, 6]), (4, [4, 6]), (2, [7, 8]), (2, [9, 5]), (5, [10]), (4, [3, 11]), (4, [4, 11]), (4, [3, 3]), (4, [4, 4]), (2, [14, 15]), (6, [12, 16]), (6, [13, 16]), (0, [0, 2, 1]), (4, [17, 19]), (4, [18, 19]), (2, [6, 20]), (2, [6, 21]), (0, [0, 1, 1]), (4, [3, 24]), (2, [25, 8]), (2, [26, 5]), (5, [27]), (4, [3, 28]), (4, [4, 28]), (6, [29, 16]), (6, [30, 16]), (4, [31, 19]), (4, [32, 19]), (2, [24, 33]), (2, [6, 34]), (3, [35, 22]), (3, [36, 23]), (4, [4, 24]), (2, [7, 39]), (2, [40, 5]), (5, [41]), (4, [3, 42]), (4, [4, 42]), (6, [43, 16]), (6, [44, 16]), (4, [45, 19]), (4, [46, 19]), (2, [6, 47]), (2, [24, 48]), (3, [49, 22]), (3, [50, 23]), (4, [0, 6]), (4, [1, 6]), (2, [53, 54]), (2, [55, 2]), (5, [56]), (4, [0, 57]), (4, [1, 57]), (4, [0, 0]), (4, [1, 1]), (2, [60, 61]), (6, [58, 62]), (6, [59, 62]), (4, [63, 19]), (4, [64, 19]), (2, [6, 65]), (2, [6, 66]), (4, [0, 24]), (2, [69, 54]), (2, [70, 2]), (5, [71]), (4, [0, 72]), (4, [1, 72]), (6, [73, 62]), (6, [74, 62]), (4, [75, 19]), (4, [76, 19]), (2, [24, 77]), (2, [6, 78]), (3, [79, 67]), (3, [80, 68]), (4, [1, 24]), (2, [53, 83]), (2, [84, 2]), (5, [85]), (4, [0, 86]), (4, [1, 86]), (6, [87, 62]), (6, [88, 62]), (4, [89, 19]), (4, [90, 19]), (2, [6, 91]), (2, [24, 92]), (3, [93, 67]), (3, [94, 68]), (4, [37, 81]), (4, [38, 81]), (4, [51, 82]), (4, [52, 82]), (2, [97, 99]), (2, [98, 100]), (4, [37, 95]), (4, [38, 95]), (4, [51, 96]), (4, [52, 96]), (2, [103, 105]), (2, [104, 106]), (4, [37, 67]), (4, [38, 67]), (4, [51, 68]), (4, [52, 68]), (2, [109, 111]), (2, [110, 112]), (2, [113, 22]), (2, [114, 23]), (4, [101, 101]), (4, [102, 102]), (2, [117, 118]), (3, [119, 24]), (4, [107, 107]), (4, [108, 108]), (2, [121, 122]), (3, [123, 24]), (4, [101, 107]), (4, [102, 108]), (2, [125, 126]), (4, [101, 108]), (4, [102, 107]), (3, [128, 129]), (3, [101, 24]), (3, [102, 6]), (3, [107, 6]), (3, [108, 24]), (4, [133, 116]), (4, [115, 134]), (3, [135, 136]), (4, [115, 132]), (4, [131, 116]), (3, [138, 139]), (4, [131, 134]), (4, [133, 132]), (3, [141, 142]), (4, [0, 4]), (4, [1, 3]), (3, [144, 145]), (4, [3, 2]), (4, [4, 2]), (4, [0, 5]), (4, [1, 5]), (3, [147, 149]), (3, [148, 150]), (6, [137, 143]), (6, [140, 143]), (5, [152]), (6, [155, 146]), (6, [151, 146])]
def moveTwoMirrors_L : List (List Nat × Nat) := []
def moveTwoMirrors_C : List (List Nat × Nat) := []
def moveTwoMirrors_Z : List Nat := [3495259, 3495259, 3495259, 3495259, 3495259, 3495259, 2, 3495261, 3495261, 6990523, 10485783, 10485783, 13981042, 13981042, 6990518, 6990518, 13981037, 27962079, 27962079, 3, 27962082, 27962082, 27962085, 27962085, 2, 3495261, 6990523, 10485783, 10485783, 13981042, 13981042, 27962079, 27962079, 27962082, 27962082, 27962085, 27962085, 55924171, 55924171, 3495261, 6990523, 10485783, 10485783, 13981042, 13981042, 27962079, 27962079, 27962082, 27962082, 27962085, 27962085, 55924171, 55924171, 3495261, 3495261, 6990523, 10485783, 10485783, 13981042, 13981042, 6990518, 6990518, 13981037, 27962079, 27962079, 27962082, 27962082, 27962085, 27962085, 3495261, 6990523, 10485783, 10485783, 13981042, 13981042, 27962079, 27962079, 27962082, 27962082, 27962085, 27962085, 55924171, 55924171, 3495261, 6990523, 10485783, 10485783, 13981042, 13981042, 27962079, 27962079, 27962082, 27962082, 27962085, 27962085, 55924171, 55924171, 111848342, 111848342, 111848342, 111848342, 223696685, 223696685, 111848342, 111848342, 111848342, 111848342, 223696685, 223696685, 83886256, 83886256, 83886256, 83886256, 167772513, 167772513, 195734599, 195734599, 447393370, 447393370, 894786741, 894786744, 447393370, 447393370, 894786741, 894786744, 447393370, 447393370, 894786741, 447393370, 447393370, 894786741, 223696688, 223696688, 223696688, 223696688, 419431287, 419431287, 838862575, 419431287, 419431287, 838862575, 447393376, 447393376, 894786753, 6990518, 6990518, 13981037, 6990518, 6990518, 6990518, 6990518, 13981037, 13981037, 1733649328, 1733649328, 13981037, 27962074, 27962074]
def moveTwoMirrors_I : List Bool := [false, false, false, false, false, false, true, false, false, false, false, false, false, false, false, false, false, false, false, true, false, false, false, false, true, false, false, false, false, false, false, false, false, false, false, false, false, false, false, false, false, false, false, false, false, false, false, false, false, false, false, false, false, false, false, false, false, false, false, false, false, false, false, false, false, false, false, false, false, false, false, false, false, false, false, false, false, false, false, false, false, false, false, false, false, false, false, false, false, false, false, false, false, false, false, false, false, false, false, false, false, false, false, false, false, false, false, false, false, false, false, false, false, false, false, false, false, false, false, false, false, false, false, false, false, false, false, false, false, false, false, false, false, false, false, false, false, false, false, false, false, false, false, false, false, false, false, false, false, false, false, false, false, false, false, false, false, false]
theorem moveTwoMirrors_wf : wfB 0 moveTwoMirrors_N = true := by kernel_rfl
theorem moveTwoMirrors_sz : szC moveTwoMirrors_Z moveTwoMirrors_I moveTwoMirrors_N moveTwoMirrors_Z moveTwoMirrors_I = true := by kernel_rfl
theorem moveTwoMirrors_lt : litB moveTwoMirrors_N moveTwoMirrors_L = true := by kernel_rfl
theorem moveTwoMirrors_cn : canB moveTwoMirrors_N moveTwoMirrors_C = true := by kernel_rfl
theorem moveTwoMirrors_c6 : cst 0 0 1 = (0 : Rat) := by decide +kernel
theorem moveTwoMirrors_c19 : cst 0 2 1 = (2 : Rat) := by decide +kernel
theorem moveTwoMirrors_c24 : cst 0 1 1 = (1 : Rat) := by decide +kernel
theorem mr_q {a n i : Rat} (hn : n ≠ 0) (hi : i * n = 2) : a / n * 2 = a * i := by
 have h : a * i = a / n * (i * n) := by
  have e : a / n * n = a := Rat.div_mul_cancel hn
  calc a * i = (a / n * n) * i := by rw [e]
   _ = a / n * (i * n) := by rw [Rat.mul_assoc, Rat.mul_comm n i]
 rw [h, hi]
theorem mt_det {A B D E i j a b c d p q r s P Q R S : Rat} (hi : i * (D * D + E * E) = 2) (hj : j * (A * A + B * B) = 2) (ha : a = 1 - D * D * i) (hb : b = -(D * E * i)) (hc : c = -(D * E * i)) (hd : d = 1 - E * E * i) (hp : p = 1 - A * A * j) (hq : q = -(A * B * j)) (hr : r = -(A * B * j)) (hs : s = 1 - B * B * j) (hP : P = a * p + c * q) (hQ : Q = b * p + d * q) (hR : R = a * r + c * s) (hS : S = b * r + d * s) : P * S - Q * R = 1 := by
 have h1 : a * d - b * c = -1 := by subst ha hb hc hd; grind
 have h2 : p * s - q * r = -1 := by subst hp hq hr hs; grind
 have h3 : P * S - Q * R = (a * d - b * c) * (p * s - q * r) := by subst hP hQ hR hS; clear hi hj ha hb hc hd hp hq hr hs h1 h2; grind
 rw [h3, h1, h2]; decide +kernel
theorem mt_pq {A B D E i j a b c d p q P Q : Rat} (hi : i * (D * D + E * E) = 2) (hj : j * (A * A + B * B) = 2) (ha : a = 1 - D * D * i) (hb : b = -(D * E * i)) (hc : c = -(D * E * i)) (hd : d = 1 - E * E * i) (hp : p = 1 - A * A * j) (hq : q = -(A * B * j)) (hP : P = a * p + c * q) (hQ : Q = b * p + d * q) : 2 * (P - 1) = -(i * j * ((A * E - B * D) * (A * E - B * D))) ∧ 2 * Q = i * j * ((A * E - B * D) * (A * D + B * E)) := by
 subst ha hb hc hd hp hq hP hQ
 constructor <;> grind
theorem mt_rs {A B D E i j a b c d r s R S : Rat} (hi : i * (D * D + E * E) = 2) (hj : j * (A * A + B * B) = 2) (ha : a = 1 - D * D * i) (hb : b = -(D * E * i)) (hc : c = -(D * E * i)) (hd : d = 1 - E * E * i) (hr : r = -(A * B * j)) (hs : s = 1 - B * B * j) (hR : R = a * r + c * s) (hS : S = b * r + d * s) : 2 * (S - 1) = -(i * j * ((A * E - B * D) * (A * E - B * D))) ∧ 2 * R = -(i * j * ((A * E - B * D) * (A * D + B * E))) := by
 subst ha hb hc hd hr hs hR hS
 constructor <;> grind
theorem mt_xz {A B C D E F i j a b c d u v x y X Y : Rat} (hi : i * (D * D + E * E) = 2) (hj : j * (A * A + B * B) = 2) (ha : a = 1 - D * D * i) (hb : b = -(D * E * i)) (hc : c = -(D * E * i)) (hd : d = 1 - E * E * i) (hu : u = -(A * C * j)) (hv : v = -(B * C * j)) (hx : x = -(D * F * i)) (hy : y = -(E * F * i)) (hX : X = a * u + c * v + x) (hY : Y = b * u + d * v + y) : 2 * X = i * j * (2 * D * C * (A * D + B * E) - A * C * (D * D + E * E) - D * F * (A * A + B * B)) ∧ 2 * Y = i * j * (2 * E * C * (A * D + B * E) - B * C * (D * D + E * E) - E * F * (A * A + B * B)) := by
 subst ha hb hc hd hu hv hx hy hX hY
 constructor <;> grind
theorem mt_fix {A B C D E F i j P Q R S X Y : Rat} (hi : i * (D * D + E * E) = 2) (hj : j * (A * A + B * B) = 2) (h1 : 2 * (P - 1) = -(i * j * ((A * E - B * D) * (A * E - B * D)))) (h2 : 2 * Q = i * j * ((A * E - B * D) * (A * D + B * E))) (h3 : 2 * (S - 1) = -(i * j * ((A * E - B * D) * (A * E - B * D)))) (h4 : 2 * R = -(i * j * ((A * E - B * D) * (A * D + B * E)))) (h5 : 2 * X = i * j * (2 * D * C * (A * D + B * E) - A * C * (D * D + E * E) - D * F * (A * A + B * B))) (h6 : 2 * Y = i * j * (2 * E * C * (A * D + B * E) - B * C * (D * D + E * E) - E * F * (A * A + B * B))) : (P - 1) * (S - 1) - R * Q = i * j * ((A * E - B * D) * (A * E - B * D)) ∧ R * Y - X * (S - 1) = -(E * C - B * F) * (A * E - B * D) * (i * j) ∧ X * Q - (P - 1) * Y = (D * C - A * F) * (A * E - B * D) * (i * j) := by
 have hkk : i * j * ((A * A + B * B) * (D * D + E * E)) = 4 := by clear h1 h2 h3 h4 h5 h6; grind
 clear hi hj
 generalize i * j = k at *
 refine ⟨?_, ?_, ?_⟩
 ·have q : 4 * ((P - 1) * (S - 1) - R * Q) = (2 * (P - 1)) * (2 * (S - 1)) - (2 * R) * (2 * Q) := by clear h1 h2 h3 h4 h5 h6 hkk; grind
  rw [h1, h2, h3, h4] at q
  clear h1 h2 h3 h4 h5 h6
  have q2 : 4 * ((P - 1) * (S - 1) - R * Q) = (k * ((A * E - B * D) * (A * E - B * D))) * (k * ((A * A + B * B) * (D * D + E * E))) := by rw [q]; clear q hkk; grind
  rw [hkk] at q2
  clear q hkk
  grind
 ·have q : 4 * (R * Y - X * (S - 1)) = (2 * R) * (2 * Y) - (2 * X) * (2 * (S - 1)) := by clear h1 h2 h3 h4 h5 h6 hkk; grind
  rw [h3, h4, h5, h6] at q
  clear h1 h2 h3 h4 h5 h6
  have q2 : 4 * (R * Y - X * (S - 1)) = (-(E * C - B * F) * (A * E - B * D) * k) * (k * ((A * A + B * B) * (D * D + E * E))) := by rw [q]; clear q hkk; grind
  rw [hkk] at q2
  clear q hkk
  grind
 ·have q : 4 * (X * Q - (P - 1) * Y) = (2 * X) * (2 * Q) - (2 * (P - 1)) * (2 * Y) := by clear h1 h2 h3 h4 h5 h6 hkk; grind
  rw [h1, h2, h5, h6] at q
  clear h1 h2 h3 h4 h5 h6
  have q2 : 4 * (X * Q - (P - 1) * Y) = ((D * C - A * F) * (A * E - B * D) * k) * (k * ((A * A + B * B) * (D * D + E * E))) := by rw [q]; clear q hkk; grind
  rw [hkk] at q2
  clear q hkk
  grind
theorem mt_quo {a b c k m : Rat} (hm : m ≠ 0) (hk : k ≠ 0) (ha : a = c * m * k) (hb : b = k * (m * m)) : a / b = c / m := by
 have hb0 : b ≠ 0 := by rw [hb]; exact fun h => (Rat.mul_eq_zero.1 h).elim hk fun h => (Rat.mul_eq_zero.1 h).elim hm hm
 have h1 : a / b * b = a := Rat.div_mul_cancel hb0
 have h2 : c / m * m = c := Rat.div_mul_cancel hm
 have h3 : (a / b - c / m) * b = 0 := by
  have : (a / b - c / m) * b = a / b * b - c / m * m * (k * m) := by rw [hb]; clear h1 h2 ha; grind
  rw [this, h1, h2, ha]; clear h1 h2; grind
 have := (Rat.mul_eq_zero.1 h3).resolve_right hb0
 clear h1 h2 h3; grind
theorem moveTwoMirrors_f1 {z0 z1 z2 z3 z4 z5 z6 z7 z8 z9 z10 z11 z12 z13 z14 z15 z16 z17 z18 z19 z20 z21 z22 z23 z24 z25 z26 z27 z28 z29 z30 z31 z32 z33 z34 z35 z36 z37 z38 z39 z40 z41 z42 z43 z44 z45 z46 z47 z48 z49 z50 z51 z52 z53 z54 z55 z56 z57 z58 z59 z60 z61 z62 z63 z64 z65 z66 z67 z68 z69 z70 z71 z72 z73 z74 z75 z76 z77 z78 z79 z80 z81 z82 z97 z98 z99 z100 z101 z102 z117 z118 z119 z120 : Rat} : z6 = 0 → z7 = z3 * z6 → z8 = z4 * z6 → z9 = z7 + z8 → z10 = z9 + z5 → z11 = -z10 → z12 = z3 * z11 → z13 = z4 * z11 → z14 = z3 * z3 → z15 = z4 * z4 → z16 = z14 + z15 → z17 = z12 / z16 → z18 = z13 / z16 → z19 = 2 → z20 = z17 * z19 → z21 = z18 * z19 → z22 = z6 + z20 → z23 = z6 + z21 → z24 = 1 → z25 = z3 * z24 → z26 = z25 + z8 → z27 = z26 + z5 → z28 = -z27 → z29 = z3 * z28 → z30 = z4 * z28 → z31 = z29 / z16 → z32 = z30 / z16 → z33 = z31 * z19 → z34 = z32 * z19 → z35 = z24 + z33 → z36 = z6 + z34 → z37 = z35 - z22 → z38 = z36 - z23 → z39 = z4 * z24 → z40 = z7 + z39 → z41 = z40 + z5 → z42 = -z41 → z43 = z3 * z42 → z44 = z4 * z42 → z45 = z43 / z16 → z46 = z44 / z16 → z47 = z45 * z19 → z48 = z46 * z19 → z49 = z6 + z47 → z50 = z24 + z48 → z51 = z49 - z22 → z52 = z50 - z23 → z53 = z0 * z6 → z54 = z1 * z6 → z55 = z53 + z54 → z56 = z55 + z2 → z57 = -z56 → z58 = z0 * z57 → z59 = z1 * z57 → z60 = z0 * z0 → z61 = z1 * z1 → z62 = z60 + z61 → z63 = z58 / z62 → z64 = z59 / z62 → z65 = z63 * z19 → z66 = z64 * z19 → z67 = z6 + z65 → z68 = z6 + z66 → z69 = z0 * z24 → z70 = z69 + z54 → z71 = z70 + z2 → z72 = -z71 → z73 = z0 * z72 → z74 = z1 * z72 → z75 = z73 / z62 → z76 = z74 / z62 → z77 = z75 * z19 → z78 = z76 * z19 → z79 = z24 + z77 → z80 = z6 + z78 → z81 = z79 - z67 → z82 = z80 - z68 → z97 = z37 * z81 → z98 = z38 * z81 → z99 = z51 * z82 → z100 = z52 * z82 → z101 = z97 + z99 → z102 = z98 + z100 → z117 = z101 * z101 → z118 = z102 * z102 → z119 = z117 + z118 → z120 = z119 - z24 → (¬ (z0 = 0 ∧ z1 = 0)) → (¬ (z3 = 0 ∧ z4 = 0)) → z120 = 0 := by
 intro e6 e7 e8 e9 e10 e11 e12 e13 e14 e15 e16 e17 e18 e19 e20 e21 e22 e23 e24 e25 e26 e27 e28 e29 e30 e31 e32 e33 e34 e35 e36 e37 e38 e39 e40 e41 e42 e43 e44 e45 e46 e47 e48 e49 e50 e51 e52 e53 e54 e55 e56 e57 e58 e59 e60 e61 e62 e63 e64 e65 e66 e67 e68 e69 e70 e71 e72 e73 e74 e75 e76 e77 e78 e79 e80 e81 e82 e97 e98 e99 e100 e101 e102 e117 e118 e119 e120 u0 u1
 have n16 : z16 ≠ 0 := by (have hp := sq_pos (x := z3) (y := z4) (by grind)); grind
 have n62 : z62 ≠ 0 := by (have hp := sq_pos (x := z0) (y := z1) (by grind)); grind
 subst_vars; grind
theorem moveTwoMirrors_f2 {z0 z1 z2 z3 z4 z5 z6 z7 z8 z9 z10 z11 z12 z13 z14 z15 z16 z17 z18 z19 z20 z21 z22 z23 z24 z25 z26 z27 z28 z29 z30 z31 z32 z33 z34 z35 z36 z37 z38 z39 z40 z41 z42 z43 z44 z45 z46 z47 z48 z49 z50 z51 z52 z53 z54 z55 z56 z57 z58 z59 z60 z61 z62 z63 z64 z65 z66 z67 z68 z83 z84 z85 z86 z87 z88 z89 z90 z91 z92 z93 z94 z95 z96 z103 z104 z105 z106 z107 z108 z121 z122 z123 z124 : Rat} : z6 = 0 → z7 = z3 * z6 → z8 = z4 * z6 → z9 = z7 + z8 → z10 = z9 + z5 → z11 = -z10 → z12 = z3 * z11 → z13 = z4 * z11 → z14 = z3 * z3 → z15 = z4 * z4 → z16 = z14 + z15 → z17 = z12 / z16 → z18 = z13 / z16 → z19 = 2 → z20 = z17 * z19 → z21 = z18 * z19 → z22 = z6 + z20 → z23 = z6 + z21 → z24 = 1 → z25 = z3 * z24 → z26 = z25 + z8 → z27 = z26 + z5 → z28 = -z27 → z29 = z3 * z28 → z30 = z4 * z28 → z31 = z29 / z16 → z32 = z30 / z16 → z33 = z31 * z19 → z34 = z32 * z19 → z35 = z24 + z33 → z36 = z6 + z34 → z37 = z35 - z22 → z38 = z36 - z23 → z39 = z4 * z24 → z40 = z7 + z39 → z41 = z40 + z5 → z42 = -z41 → z43 = z3 * z42 → z44 = z4 * z42 → z45 = z43 / z16 → z46 = z44 / z16 → z47 = z45 * z19 → z48 = z46 * z19 → z49 = z6 + z47 → z50 = z24 + z48 → z51 = z49 - z22 → z52 = z50 - z23 → z53 = z0 * z6 → z54 = z1 * z6 → z55 = z53 + z54 → z56 = z55 + z2 → z57 = -z56 → z58 = z0 * z57 → z59 = z1 * z57 → z60 = z0 * z0 → z61 = z1 * z1 → z62 = z60 + z61 → z63 = z58 / z62 → z64 = z59 / z62 → z65 = z63 * z19 → z66 = z64 * z19 → z67 = z6 + z65 → z68 = z6 + z66 → z83 = z1 * z24 → z84 = z53 + z83 → z85 = z84 + z2 → z86 = -z85 → z87 = z0 * z86 → z88 = z1 * z86 → z89 = z87 / z62 → z90 = z88 / z62 → z91 = z89 * z19 → z92 = z90 * z19 → z93 = z6 + z91 → z94 = z24 + z92 → z95 = z93 - z67 → z96 = z94 - z68 → z103 = z37 * z95 → z104 = z38 * z95 → z105 = z51 * z96 → z106 = z52 * z96 → z107 = z103 + z105 → z108 = z104 + z106 → z121 = z107 * z107 → z122 = z108 * z108 → z123 = z121 + z122 → z124 = z123 - z24 → (¬ (z0 = 0 ∧ z1 = 0)) → (¬ (z3 = 0 ∧ z4 = 0)) → z124 = 0 := by
 intro e6 e7 e8 e9 e10 e11 e12 e13 e14 e15 e16 e17 e18 e19 e20 e21 e22 e23 e24 e25 e26 e27 e28 e29 e30 e31 e32 e33 e34 e35 e36 e37 e38 e39 e40 e41 e42 e43 e44 e45 e46 e47 e48 e49 e50 e51 e52 e53 e54 e55 e56 e57 e58 e59 e60 e61 e62 e63 e64 e65 e66 e67 e68 e83 e84 e85 e86 e87 e88 e89 e90 e91 e92 e93 e94 e95 e96 e103 e104 e105 e106 e107 e108 e121 e122 e123 e124 u0 u1
 have n16 : z16 ≠ 0 := by (have hp := sq_pos (x := z3) (y := z4) (by grind)); grind
 have n62 : z62 ≠ 0 := by (have hp := sq_pos (x := z0) (y := z1) (by grind)); grind
 subst_vars; grind
theorem moveTwoMirrors_f3 {z0 z1 z2 z3 z4 z5 z6 z7 z8 z9 z10 z11 z12 z13 z14 z15 z16 z17 z18 z19 z20 z21 z22 z23 z24 z25 z26 z27 z28 z29 z30 z31 z32 z33 z34 z35 z36 z37 z38 z39 z40 z41 z42 z43 z44 z45 z46 z47 z48 z49 z50 z51 z52 z53 z54 z55 z56 z57 z58 z59 z60 z61 z62 z63 z64 z65 z66 z67 z68 z69 z70 z71 z72 z73 z74 z75 z76 z77 z78 z79 z80 z81 z82 z83 z84 z85 z86 z87 z88 z89 z90 z91 z92 z93 z94 z95 z96 z97 z98 z99 z100 z101 z102 z103 z104 z105 z106 z107 z108 z125 z126 z127 : Rat} : z6 = 0 → z7 = z3 * z6 → z8 = z4 * z6 → z9 = z7 + z8 → z10 = z9 + z5 → z11 = -z10 → z12 = z3 * z11 → z13 = z4 * z11 → z14 = z3 * z3 → z15 = z4 * z4 → z16 = z14 + z15 → z17 = z12 / z16 → z18 = z13 / z16 → z19 = 2 → z20 = z17 * z19 → z21 = z18 * z19 → z22 = z6 + z20 → z23 = z6 + z21 → z24 = 1 → z25 = z3 * z24 → z26 = z25 + z8 → z27 = z26 + z5 → z28 = -z27 → z29 = z3 * z28 → z30 = z4 * z28 → z31 = z29 / z16 → z32 = z30 / z16 → z33 = z31 * z19 → z34 = z32 * z19 → z35 = z24 + z33 → z36 = z6 + z34 → z37 = z35 - z22 → z38 = z36 - z23 → z39 = z4 * z24 → z40 = z7 + z39 → z41 = z40 + z5 → z42 = -z41 → z43 = z3 * z42 → z44 = z4 * z42 → z45 = z43 / z16 → z46 = z44 / z16 → z47 = z45 * z19 → z48 = z46 * z19 → z49 = z6 + z47 → z50 = z24 + z48 → z51 = z49 - z22 → z52 = z50 - z23 → z53 = z0 * z6 → z54 = z1 * z6 → z55 = z53 + z54 → z56 = z55 + z2 → z57 = -z56 → z58 = z0 * z57 → z59 = z1 * z57 → z60 = z0 * z0 → z61 = z1 * z1 → z62 = z60 + z61 → z63 = z58 / z62 → z64 = z59 / z62 → z65 = z63 * z19 → z66 = z64 * z19 → z67 = z6 + z65 → z68 = z6 + z66 → z69 = z0 * z24 → z70 = z69 + z54 → z71 = z70 + z2 → z72 = -z71 → z73 = z0 * z72 → z74 = z1 * z72 → z75 = z73 / z62 → z76 = z74 / z62 → z77 = z75 * z19 → z78 = z76 * z19 → z79 = z24 + z77 → z80 = z6 + z78 → z81 = z79 - z67 → z82 = z80 - z68 → z83 = z1 * z24 → z84 = z53 + z83 → z85 = z84 + z2 → z86 = -z85 → z87 = z0 * z86 → z88 = z1 * z86 → z89 = z87 / z62 → z90 = z88 / z62 → z91 = z89 * z19 → z92 = z90 * z19 → z93 = z6 + z91 → z94 = z24 + z92 → z95 = z93 - z67 → z96 = z94 - z68 → z97 = z37 * z81 → z98 = z38 * z81 → z99 = z51 * z82 → z100 = z52 * z82 → z101 = z97 + z99 → z102 = z98 + z100 → z103 = z37 * z95 → z104 = z38 * z95 → z105 = z51 * z96 → z106 = z52 * z96 → z107 = z103 + z105 → z108 = z104 + z106 → z125 = z101 * z107 → z126 = z102 * z108 → z127 = z125 + z126 → (¬ (z0 = 0 ∧ z1 = 0)) → (¬ (z3 = 0 ∧ z4 = 0)) → z127 = 0 := by
 intro e6 e7 e8 e9 e10 e11 e12 e13 e14 e15 e16 e17 e18 e19 e20 e21 e22 e23 e24 e25 e26 e27 e28 e29 e30 e31 e32 e33 e34 e35 e36 e37 e38 e39 e40 e41 e42 e43 e44 e45 e46 e47 e48 e49 e50 e51 e52 e53 e54 e55 e56 e57 e58 e59 e60 e61 e62 e63 e64 e65 e66 e67 e68 e69 e70 e71 e72 e73 e74 e75 e76 e77 e78 e79 e80 e81 e82 e83 e84 e85 e86 e87 e88 e89 e90 e91 e92 e93 e94 e95 e96 e97 e98 e99 e100 e101 e102 e103 e104 e105 e106 e107 e108 e125 e126 e127 u0 u1
 have n16 : z16 ≠ 0 := by (have hp := sq_pos (x := z3) (y := z4) (by grind)); grind
 have n62 : z62 ≠ 0 := by (have hp := sq_pos (x := z0) (y := z1) (by grind)); grind
 subst_vars; grind
theorem moveTwoMirrors_f4 {z0 z1 z2 z3 z4 z5 z6 z7 z8 z9 z10 z11 z12 z13 z14 z15 z16 z17 z18 z19 z20 z21 z22 z23 z24 z25 z26 z27 z28 z29 z30 z31 z32 z33 z34 z35 z36 z37 z38 z39 z40 z41 z42 z43 z44 z45 z46 z47 z48 z49 z50 z51 z52 z53 z54 z55 z56 z57 z58 z59 z60 z61 z62 z63 z64 z65 z66 z67 z68 z69 z70 z71 z72 z73 z74 z75 z76 z77 z78 z79 z80 z81 z82 z83 z84 z85 z86 z87 z88 z89 z90 z91 z92 z93 z94 z95 z96 z97 z98 z99 z100 z101 z102 z103 z104 z105 z106 z107 z108 z128 z129 z130 : Rat} : z6 = 0 → z7 = z3 * z6 → z8 = z4 * z6 → z9 = z7 + z8 → z10 = z9 + z5 → z11 = -z10 → z12 = z3 * z11 → z13 = z4 * z11 → z14 = z3 * z3 → z15 = z4 * z4 → z16 = z14 + z15 → z17 = z12 / z16 → z18 = z13 / z16 → z19 = 2 → z20 = z17 * z19 → z21 = z18 * z19 → z22 = z6 + z20 → z23 = z6 + z21 → z24 = 1 → z25 = z3 * z24 → z26 = z25 + z8 → z27 = z26 + z5 → z28 = -z27 → z29 = z3 * z28 → z30 = z4 * z28 → z31 = z29 / z16 → z32 = z30 / z16 → z33 = z31 * z19 → z34 = z32 * z19 → z35 = z24 + z33 → z36 = z6 + z34 → z37 = z35 - z22 → z38 = z36 - z23 → z39 = z4 * z24 → z40 = z7 + z39 → z41 = z40 + z5 → z42 = -z41 → z43 = z3 * z42 → z44 = z4 * z42 → z45 = z43 / z16 → z46 = z44 / z16 → z47 = z45 * z19 → z48 = z46 * z19 → z49 = z6 + z47 → z50 = z24 + z48 → z51 = z49 - z22 → z52 = z50 - z23 → z53 = z0 * z6 → z54 = z1 * z6 → z55 = z53 + z54 → z56 = z55 + z2 → z57 = -z56 → z58 = z0 * z57 → z59 = z1 * z57 → z60 = z0 * z0 → z61 = z1 * z1 → z62 = z60 + z61 → z63 = z58 / z62 → z64 = z59 / z62 → z65 = z63 * z19 → z66 = z64 * z19 → z67 = z6 + z65 → z68 = z6 + z66 → z69 = z0 * z24 → z70 = z69 + z54 → z71 = z70 + z2 → z72 = -z71 → z73 = z0 * z72 → z74 = z1 * z72 → z75 = z73 / z62 → z76 = z74 / z62 → z77 = z75 * z19 → z78 = z76 * z19 → z79 = z24 + z77 → z80 = z6 + z78 → z81 = z79 - z67 → z82 = z80 - z68 → z83 = z1 * z24 → z84 = z53 + z83 → z85 = z84 + z2 → z86 = -z85 → z87 = z0 * z86 → z88 = z1 * z86 → z89 = z87 / z62 → z90 = z88 / z62 → z91 = z89 * z19 → z92 = z90 * z19 → z93 = z6 + z91 → z94 = z24 + z92 → z95 = z93 - z67 → z96 = z94 - z68 → z97 = z37 * z81 → z98 = z38 * z81 → z99 = z51 * z82 → z100 = z52 * z82 → z101 = z97 + z99 → z102 = z98 + z100 → z103 = z37 * z95 → z104 = z38 * z95 → z105 = z51 * z96 → z106 = z52 * z96 → z107 = z103 + z105 → z108 = z104 + z106 → z128 = z101 * z108 → z129 = z102 * z107 → z130 = z128 - z129 → (¬ (z0 = 0 ∧ z1 = 0)) → (¬ (z3 = 0 ∧ z4 = 0)) → ¬ (z130 < 0) := by
 intro e6 e7 e8 e9 e10 e11 e12 e13 e14 e15 e16 e17 e18 e19 e20 e21 e22 e23 e24 e25 e26 e27 e28 e29 e30 e31 e32 e33 e34 e35 e36 e37 e38 e39 e40 e41 e42 e43 e44 e45 e46 e47 e48 e49 e50 e51 e52 e53 e54 e55 e56 e57 e58 e59 e60 e61 e62 e63 e64 e65 e66 e67 e68 e69 e70 e71 e72 e73 e74 e75 e76 e77 e78 e79 e80 e81 e82 e83 e84 e85 e86 e87 e88 e89 e90 e91 e92 e93 e94 e95 e96 e97 e98 e99 e100 e101 e102 e103 e104 e105 e106 e107 e108 e128 e129 e130 u0 u1
 have n16 : z16 ≠ 0 := by
  have hp := sq_pos u1
  rw [← e14, ← e15, ← e16] at hp
  intro h
  rw [h] at hp
  exact absurd hp (by decide)
 obtain ⟨i, hi0⟩ : ∃ i, i * z16 = 2 := ⟨2 / z16, Rat.div_mul_cancel n16⟩
 have hi : i * (z3 * z3 + z4 * z4) = 2 := by rw [← e14, ← e15, ← e16]; exact hi0
 have q20 : z20 = z12 * i := by rw [e20, e17, e19]; exact mr_q n16 hi0
 have q21 : z21 = z13 * i := by rw [e21, e18, e19]; exact mr_q n16 hi0
 have q33 : z33 = z29 * i := by rw [e33, e31, e19]; exact mr_q n16 hi0
 have q34 : z34 = z30 * i := by rw [e34, e32, e19]; exact mr_q n16 hi0
 have q47 : z47 = z43 * i := by rw [e47, e45, e19]; exact mr_q n16 hi0
 have q48 : z48 = z44 * i := by rw [e48, e46, e19]; exact mr_q n16 hi0
 have r37 : z37 = 1 - z3 * z3 * i := by
  rw [e37, e35, q33, e29, e28, e27, e26, e25, e24, e22, q20, e12, e11, e10, e9, e8, e7, e6]
  clear hi hi0; grind
 have r38 : z38 = -(z3 * z4 * i) := by
  rw [e38, e36, q34, e30, e28, e27, e26, e25, e24, e23, q21, e13, e11, e10, e9, e8, e7, e6]
  clear hi hi0; grind
 have r51 : z51 = -(z3 * z4 * i) := by
  rw [e51, e49, q47, e43, e42, e41, e40, e39, e24, e22, q20, e12, e11, e10, e9, e8, e7, e6]
  clear hi hi0; grind
 have r52 : z52 = 1 - z4 * z4 * i := by
  rw [e52, e50, q48, e44, e42, e41, e40, e39, e24, e23, q21, e13, e11, e10, e9, e8, e7, e6]
  clear hi hi0; grind
 have r22 : z22 = -(z3 * z5 * i) := by
  rw [e22, q20, e12, e11, e10, e9, e8, e7, e6]
  clear hi hi0; grind
 have r23 : z23 = -(z4 * z5 * i) := by
  rw [e23, q21, e13, e11, e10, e9, e8, e7, e6]
  clear hi hi0; grind
 have n62 : z62 ≠ 0 := by
  have hp := sq_pos u0
  rw [← e60, ← e61, ← e62] at hp
  intro h
  rw [h] at hp
  exact absurd hp (by decide)
 obtain ⟨j, hj0⟩ : ∃ i, i * z62 = 2 := ⟨2 / z62, Rat.div_mul_cancel n62⟩
 have hj : j * (z0 * z0 + z1 * z1) = 2 := by rw [← e60, ← e61, ← e62]; exact hj0
 have q65 : z65 = z58 * j := by rw [e65, e63, e19]; exact mr_q n62 hj0
 have q66 : z66 = z59 * j := by rw [e66, e64, e19]; exact mr_q n62 hj0
 have q77 : z77 = z73 * j := by rw [e77, e75, e19]; exact mr_q n62 hj0
 have q78 : z78 = z74 * j := by rw [e78, e76, e19]; exact mr_q n62 hj0
 have q91 : z91 = z87 * j := by rw [e91, e89, e19]; exact mr_q n62 hj0
 have q92 : z92 = z88 * j := by rw [e92, e90, e19]; exact mr_q n62 hj0
 have r81 : z81 = 1 - z0 * z0 * j := by
  rw [e81, e79, q77, e73, e72, e71, e70, e69, e67, q65, e58, e57, e56, e55, e54, e53, e24, e6]
  clear hj hj0; grind
 have r82 : z82 = -(z0 * z1 * j) := by
  rw [e82, e80, q78, e74, e72, e71, e70, e69, e68, q66, e59, e57, e56, e55, e54, e53, e24, e6]
  clear hj hj0; grind
 have r95 : z95 = -(z0 * z1 * j) := by
  rw [e95, e93, q91, e87, e86, e85, e84, e83, e67, q65, e58, e57, e56, e55, e54, e53, e24, e6]
  clear hj hj0; grind
 have r96 : z96 = 1 - z1 * z1 * j := by
  rw [e96, e94, q92, e88, e86, e85, e84, e83, e68, q66, e59, e57, e56, e55, e54, e53, e24, e6]
  clear hj hj0; grind
 have r67 : z67 = -(z0 * z2 * j) := by
  rw [e67, q65, e58, e57, e56, e55, e54, e53, e6]
  clear hj hj0; grind
 have r68 : z68 = -(z1 * z2 * j) := by
  rw [e68, q66, e59, e57, e56, e55, e54, e53, e6]
  clear hj hj0; grind
 have hd := mt_det hi hj r37 r38 r51 r52 r81 r82 r95 r96 (P := z101) (by rw [e101, e97, e99]) (Q := z102) (by rw [e102, e98, e100]) (R := z107) (by rw [e107, e103, e105]) (S := z108) (by rw [e108, e104, e106])
 rw [e130, e128, e129, hd]
 decide
theorem moveTwoMirrors_f5 {z0 z1 z2 z3 z4 z5 z6 z7 z8 z9 z10 z11 z12 z13 z14 z15 z16 z17 z18 z19 z20 z21 z22 z23 z24 z25 z26 z27 z28 z29 z30 z31 z32 z33 z34 z35 z36 z37 z38 z39 z40 z41 z42 z43 z44 z45 z46 z47 z48 z49 z50 z51 z52 z53 z54 z55 z56 z57 z58 z59 z60 z61 z62 z63 z64 z65 z66 z67 z68 z69 z70 z71 z72 z73 z74 z75 z76 z77 z78 z79 z80 z81 z82 z97 z98 z99 z100 z101 z102 z131 z132 : Rat} : z6 = 0 → z7 = z3 * z6 → z8 = z4 * z6 → z9 = z7 + z8 → z10 = z9 + z5 → z11 = -z10 → z12 = z3 * z11 → z13 = z4 * z11 → z14 = z3 * z3 → z15 = z4 * z4 → z16 = z14 + z15 → z17 = z12 / z16 → z18 = z13 / z16 → z19 = 2 → z20 = z17 * z19 → z21 = z18 * z19 → z22 = z6 + z20 → z23 = z6 + z21 → z24 = 1 → z25 = z3 * z24 → z26 = z25 + z8 → z27 = z26 + z5 → z28 = -z27 → z29 = z3 * z28 → z30 = z4 * z28 → z31 = z29 / z16 → z32 = z30 / z16 → z33 = z31 * z19 → z34 = z32 * z19 → z35 = z24 + z33 → z36 = z6 + z34 → z37 = z35 - z22 → z38 = z36 - z23 → z39 = z4 * z24 → z40 = z7 + z39 → z41 = z40 + z5 → z42 = -z41 → z43 = z3 * z42 → z44 = z4 * z42 → z45 = z43 / z16 → z46 = z44 / z16 → z47 = z45 * z19 → z48 = z46 * z19 → z49 = z6 + z47 → z50 = z24 + z48 → z51 = z49 - z22 → z52 = z50 - z23 → z53 = z0 * z6 → z54 = z1 * z6 → z55 = z53 + z54 → z56 = z55 + z2 → z57 = -z56 → z58 = z0 * z57 → z59 = z1 * z57 → z60 = z0 * z0 → z61 = z1 * z1 → z62 = z60 + z61 → z63 = z58 / z62 → z64 = z59 / z62 → z65 = z63 * z19 → z66 = z64 * z19 → z67 = z6 + z65 → z68 = z6 + z66 → z69 = z0 * z24 → z70 = z69 + z54 → z71 = z70 + z2 → z72 = -z71 → z73 = z0 * z72 → z74 = z1 * z72 → z75 = z73 / z62 → z76 = z74 / z62 → z77 = z75 * z19 → z78 = z76 * z19 → z79 = z24 + z77 → z80 = z6 + z78 → z81 = z79 - z67 → z82 = z80 - z68 → z97 = z37 * z81 → z98 = z38 * z81 → z99 = z51 * z82 → z100 = z52 * z82 → z101 = z97 + z99 → z102 = z98 + z100 → z131 = z101 - z24 → z132 = z102 - z6 → (¬ (z0 = 0 ∧ z1 = 0)) → (¬ (z3 = 0 ∧ z4 = 0)) → (z131 = 0 ∧ z132 = 0) → z131 = 0 := by
 intro e6 e7 e8 e9 e10 e11 e12 e13 e14 e15 e16 e17 e18 e19 e20 e21 e22 e23 e24 e25 e26 e27 e28 e29 e30 e31 e32 e33 e34 e35 e36 e37 e38 e39 e40 e41 e42 e43 e44 e45 e46 e47 e48 e49 e50 e51 e52 e53 e54 e55 e56 e57 e58 e59 e60 e61 e62 e63 e64 e65 e66 e67 e68 e69 e70 e71 e72 e73 e74 e75 e76 e77 e78 e79 e80 e81 e82 e97 e98 e99 e100 e101 e102 e131 e132 u0 u1 u2
 rw [u2.1] at e131
 rw [u2.2] at e132
 have n16 : z16 ≠ 0 := by (have hp := sq_pos (x := z3) (y := z4) (by grind)); grind
 have n62 : z62 ≠ 0 := by (have hp := sq_pos (x := z0) (y := z1) (by grind)); grind
 subst_vars; grind
theorem moveTwoMirrors_f6 {z0 z1 z2 z3 z4 z5 z6 z7 z8 z9 z10 z11 z12 z13 z14 z15 z16 z17 z18 z19 z20 z21 z22 z23 z24 z25 z26 z27 z28 z29 z30 z31 z32 z33 z34 z35 z36 z37 z38 z39 z40 z41 z42 z43 z44 z45 z46 z47 z48 z49 z50 z51 z52 z53 z54 z55 z56 z57 z58 z59 z60 z61 z62 z63 z64 z65 z66 z67 z68 z69 z70 z71 z72 z73 z74 z75 z76 z77 z78 z79 z80 z81 z82 z83 z84 z85 z86 z87 z88 z89 z90 z91 z92 z93 z94 z95 z96 z97 z98 z99 z100 z101 z102 z103 z105 z107 z131 z132 z133 : Rat} : z6 = 0 → z7 = z3 * z6 → z8 = z4 * z6 → z9 = z7 + z8 → z10 = z9 + z5 → z11 = -z10 → z12 = z3 * z11 → z13 = z4 * z11 → z14 = z3 * z3 → z15 = z4 * z4 → z16 = z14 + z15 → z17 = z12 / z16 → z18 = z13 / z16 → z19 = 2 → z20 = z17 * z19 → z21 = z18 * z19 → z22 = z6 + z20 → z23 = z6 + z21 → z24 = 1 → z25 = z3 * z24 → z26 = z25 + z8 → z27 = z26 + z5 → z28 = -z27 → z29 = z3 * z28 → z30 = z4 * z28 → z31 = z29 / z16 → z32 = z30 / z16 → z33 = z31 * z19 → z34 = z32 * z19 → z35 = z24 + z33 → z36 = z6 + z34 → z37 = z35 - z22 → z38 = z36 - z23 → z39 = z4 * z24 → z40 = z7 + z39 → z41 = z40 + z5 → z42 = -z41 → z43 = z3 * z42 → z44 = z4 * z42 → z45 = z43 / z16 → z46 = z44 / z16 → z47 = z45 * z19 → z48 = z46 * z19 → z49 = z6 + z47 → z50 = z24 + z48 → z51 = z49 - z22 → z52 = z50 - z23 → z53 = z0 * z6 → z54 = z1 * z6 → z55 = z53 + z54 → z56 = z55 + z2 → z57 = -z56 → z58 = z0 * z57 → z59 = z1 * z57 → z60 = z0 * z0 → z61 = z1 * z1 → z62 = z60 + z61 → z63 = z58 / z62 → z64 = z59 / z62 → z65 = z63 * z19 → z66 = z64 * z19 → z67 = z6 + z65 → z68 = z6 + z66 → z69 = z0 * z24 → z70 = z69 + z54 → z71 = z70 + z2 → z72 = -z71 → z73 = z0 * z72 → z74 = z1 * z72 → z75 = z73 / z62 → z76 = z74 / z62 → z77 = z75 * z19 → z78 = z76 * z19 → z79 = z24 + z77 → z80 = z6 + z78 → z81 = z79 - z67 → z82 = z80 - z68 → z83 = z1 * z24 → z84 = z53 + z83 → z85 = z84 + z2 → z86 = -z85 → z87 = z0 * z86 → z88 = z1 * z86 → z89 = z87 / z62 → z90 = z88 / z62 → z91 = z89 * z19 → z92 = z90 * z19 → z93 = z6 + z91 → z94 = z24 + z92 → z95 = z93 - z67 → z96 = z94 - z68 → z97 = z37 * z81 → z98 = z38 * z81 → z99 = z51 * z82 → z100 = z52 * z82 → z101 = z97 + z99 → z102 = z98 + z100 → z103 = z37 * z95 → z105 = z51 * z96 → z107 = z103 + z105 → z131 = z101 - z24 → z132 = z102 - z6 → z133 = z107 - z6 → (¬ (z0 = 0 ∧ z1 = 0)) → (¬ (z3 = 0 ∧ z4 = 0)) → (z131 = 0 ∧ z132 = 0) → z133 = 0 := by
 intro e6 e7 e8 e9 e10 e11 e12 e13 e14 e15 e16 e17 e18 e19 e20 e21 e22 e23 e24 e25 e26 e27 e28 e29 e30 e31 e32 e33 e34 e35 e36 e37 e38 e39 e40 e41 e42 e43 e44 e45 e46 e47 e48 e49 e50 e51 e52 e53 e54 e55 e56 e57 e58 e59 e60 e61 e62 e63 e64 e65 e66 e67 e68 e69 e70 e71 e72 e73 e74 e75 e76 e77 e78 e79 e80 e81 e82 e83 e84 e85 e86 e87 e88 e89 e90 e91 e92 e93 e94 e95 e96 e97 e98 e99 e100 e101 e102 e103 e105 e107 e131 e132 e133 u0 u1 u2
 rw [u2.1] at e131
 rw [u2.2] at e132
 have n16 : z16 ≠ 0 := by (have hp := sq_pos (x := z3) (y := z4) (by grind)); grind
 have n62 : z62 ≠ 0 := by (have hp := sq_pos (x := z0) (y := z1) (by grind)); grind
 subst_vars; grind
theorem moveTwoMirrors_f7 {z0 z1 z2 z3 z4 z5 z6 z7 z8 z9 z10 z11 z12 z13 z14 z15 z16 z17 z18 z19 z20 z21 z22 z23 z24 z25 z26 z27 z28 z29 z30 z31 z32 z33 z34 z35 z36 z37 z38 z39 z40 z41 z42 z43 z44 z45 z46 z47 z48 z49 z50 z51 z52 z53 z54 z55 z56 z57 z58 z59 z60 z61 z62 z63 z64 z65 z66 z67 z68 z109 z110 z111 z112 z113 z114 z115 z116 : Rat} : z6 = 0 → z7 = z3 * z6 → z8 = z4 * z6 → z9 = z7 + z8 → z10 = z9 + z5 → z11 = -z10 → z12 = z3 * z11 → z13 = z4 * z11 → z14 = z3 * z3 → z15 = z4 * z4 → z16 = z14 + z15 → z17 = z12 / z16 → z18 = z13 / z16 → z19 = 2 → z20 = z17 * z19 → z21 = z18 * z19 → z22 = z6 + z20 → z23 = z6 + z21 → z24 = 1 → z25 = z3 * z24 → z26 = z25 + z8 → z27 = z26 + z5 → z28 = -z27 → z29 = z3 * z28 → z30 = z4 * z28 → z31 = z29 / z16 → z32 = z30 / z16 → z33 = z31 * z19 → z34 = z32 * z19 → z35 = z24 + z33 → z36 = z6 + z34 → z37 = z35 - z22 → z38 = z36 - z23 → z39 = z4 * z24 → z40 = z7 + z39 → z41 = z40 + z5 → z42 = -z41 → z43 = z3 * z42 → z44 = z4 * z42 → z45 = z43 / z16 → z46 = z44 / z16 → z47 = z45 * z19 → z48 = z46 * z19 → z49 = z6 + z47 → z50 = z24 + z48 → z51 = z49 - z22 → z52 = z50 - z23 → z53 = z0 * z6 → z54 = z1 * z6 → z55 = z53 + z54 → z56 = z55 + z2 → z57 = -z56 → z58 = z0 * z57 → z59 = z1 * z57 → z60 = z0 * z0 → z61 = z1 * z1 → z62 = z60 + z61 → z63 = z58 / z62 → z64 = z59 / z62 → z65 = z63 * z19 → z66 = z64 * z19 → z67 = z6 + z65 → z68 = z6 + z66 → z109 = z37 * z67 → z110 = z38 * z67 → z111 = z51 * z68 → z112 = z52 * z68 → z113 = z109 + z111 → z114 = z110 + z112 → z115 = z113 + z22 → z116 = z114 + z23 → (¬ (z0 = 0 ∧ z1 = 0)) → (¬ (z3 = 0 ∧ z4 = 0)) → (z115 = 0 ∧ z116 = 0) → z115 = 0 := by
 intro e6 e7 e8 e9 e10 e11 e12 e13 e14 e15 e16 e17 e18 e19 e20 e21 e22 e23 e24 e25 e26 e27 e28 e29 e30 e31 e32 e33 e34 e35 e36 e37 e38 e39 e40 e41 e42 e43 e44 e45 e46 e47 e48 e49 e50 e51 e52 e53 e54 e55 e56 e57 e58 e59 e60 e61 e62 e63 e64 e65 e66 e67 e68 e109 e110 e111 e112 e113 e114 e115 e116 u0 u1 u3
 rw [u3.1] at e115
 rw [u3.2] at e116
 have n16 : z16 ≠ 0 := by (have hp := sq_pos (x := z3) (y := z4) (by grind)); grind
 have n62 : z62 ≠ 0 := by (have hp := sq_pos (x := z0) (y := z1) (by grind)); grind
 subst_vars; grind
theorem moveTwoMirrors_f8 {z0 z1 z2 z3 z4 z5 z6 z7 z8 z9 z10 z11 z12 z13 z14 z15 z16 z17 z18 z19 z20 z21 z22 z23 z24 z25 z26 z27 z28 z29 z30 z31 z32 z33 z34 z35 z36 z37 z38 z39 z40 z41 z42 z43 z44 z45 z46 z47 z48 z49 z50 z51 z52 z53 z54 z55 z56 z57 z58 z59 z60 z61 z62 z63 z64 z65 z66 z67 z68 z69 z70 z71 z72 z73 z74 z75 z76 z77 z78 z79 z80 z81 z82 z83 z84 z85 z86 z87 z88 z89 z90 z91 z92 z93 z94 z95 z96 z97 z98 z99 z100 z101 z102 z103 z104 z105 z106 z107 z108 z131 z132 z133 z134 z141 z142 z143 : Rat} : z6 = 0 → z7 = z3 * z6 → z8 = z4 * z6 → z9 = z7 + z8 → z10 = z9 + z5 → z11 = -z10 → z12 = z3 * z11 → z13 = z4 * z11 → z14 = z3 * z3 → z15 = z4 * z4 → z16 = z14 + z15 → z17 = z12 / z16 → z18 = z13 / z16 → z19 = 2 → z20 = z17 * z19 → z21 = z18 * z19 → z22 = z6 + z20 → z23 = z6 + z21 → z24 = 1 → z25 = z3 * z24 → z26 = z25 + z8 → z27 = z26 + z5 → z28 = -z27 → z29 = z3 * z28 → z30 = z4 * z28 → z31 = z29 / z16 → z32 = z30 / z16 → z33 = z31 * z19 → z34 = z32 * z19 → z35 = z24 + z33 → z36 = z6 + z34 → z37 = z35 - z22 → z38 = z36 - z23 → z39 = z4 * z24 → z40 = z7 + z39 → z41 = z40 + z5 → z42 = -z41 → z43 = z3 * z42 → z44 = z4 * z42 → z45 = z43 / z16 → z46 = z44 / z16 → z47 = z45 * z19 → z48 = z46 * z19 → z49 = z6 + z47 → z50 = z24 + z48 → z51 = z49 - z22 → z52 = z50 - z23 → z53 = z0 * z6 → z54 = z1 * z6 → z55 = z53 + z54 → z56 = z55 + z2 → z57 = -z56 → z58 = z0 * z57 → z59 = z1 * z57 → z60 = z0 * z0 → z61 = z1 * z1 → z62 = z60 + z61 → z63 = z58 / z62 → z64 = z59 / z62 → z65 = z63 * z19 → z66 = z64 * z19 → z67 = z6 + z65 → z68 = z6 + z66 → z69 = z0 * z24 → z70 = z69 + z54 → z71 = z70 + z2 → z72 = -z71 → z73 = z0 * z72 → z74 = z1 * z72 → z75 = z73 / z62 → z76 = z74 / z62 → z77 = z75 * z19 → z78 = z76 * z19 → z79 = z24 + z77 → z80 = z6 + z78 → z81 = z79 - z67 → z82 = z80 - z68 → z83 = z1 * z24 → z84 = z53 + z83 → z85 = z84 + z2 → z86 = -z85 → z87 = z0 * z86 → z88 = z1 * z86 → z89 = z87 / z62 → z90 = z88 / z62 → z91 = z89 * z19 → z92 = z90 * z19 → z93 = z6 + z91 → z94 = z24 + z92 → z95 = z93 - z67 → z96 = z94 - z68 → z97 = z37 * z81 → z98 = z38 * z81 → z99 = z51 * z82 → z100 = z52 * z82 → z101 = z97 + z99 → z102 = z98 + z100 → z103 = z37 * z95 → z104 = z38 * z95 → z105 = z51 * z96 → z106 = z52 * z96 → z107 = z103 + z105 → z108 = z104 + z106 → z131 = z101 - z24 → z132 = z102 - z6 → z133 = z107 - z6 → z134 = z108 - z24 → z141 = z131 * z134 → z142 = z133 * z132 → z143 = z141 - z142 → (¬ (z0 = 0 ∧ z1 = 0)) → (¬ (z3 = 0 ∧ z4 = 0)) → (z131 = 0 ∧ z132 = 0) → z143 = 0 := by
 intro e6 e7 e8 e9 e10 e11 e12 e13 e14 e15 e16 e17 e18 e19 e20 e21 e22 e23 e24 e25 e26 e27 e28 e29 e30 e31 e32 e33 e34 e35 e36 e37 e38 e39 e40 e41 e42 e43 e44 e45 e46 e47 e48 e49 e50 e51 e52 e53 e54 e55 e56 e57 e58 e59 e60 e61 e62 e63 e64 e65 e66 e67 e68 e69 e70 e71 e72 e73 e74 e75 e76 e77 e78 e79 e80 e81 e82 e83 e84 e85 e86 e87 e88 e89 e90 e91 e92 e93 e94 e95 e96 e97 e98 e99 e100 e101 e102 e103 e104 e105 e106 e107 e108 e131 e132 e133 e134 e141 e142 e143 u0 u1 u2
 rw [u2.1] at e131
 rw [u2.2] at e132
 have n16 : z16 ≠ 0 := by (have hp := sq_pos (x := z3) (y := z4) (by grind)); grind
 have n62 : z62 ≠ 0 := by (have hp := sq_pos (x := z0) (y := z1) (by grind)); grind
 subst_vars; grind
theorem moveTwoMirrors_f9 {z0 z1 z2 z3 z4 z5 z6 z7 z8 z9 z10 z11 z12 z13 z14 z15 z16 z17 z18 z19 z20 z21 z22 z23 z24 z25 z26 z27 z28 z29 z30 z31 z32 z33 z34 z35 z36 z37 z38 z39 z40 z41 z42 z43 z44 z45 z46 z47 z48 z49 z50 z51 z52 z53 z54 z55 z56 z57 z58 z59 z60 z61 z62 z63 z64 z65 z66 z67 z68 z69 z70 z71 z72 z73 z74 z75 z76 z77 z78 z79 z80 z81 z82 z97 z98 z99 z100 z101 z102 z131 z132 : Rat} : z6 = 0 → z7 = z3 * z6 → z8 = z4 * z6 → z9 = z7 + z8 → z10 = z9 + z5 → z11 = -z10 → z12 = z3 * z11 → z13 = z4 * z11 → z14 = z3 * z3 → z15 = z4 * z4 → z16 = z14 + z15 → z17 = z12 / z16 → z18 = z13 / z16 → z19 = 2 → z20 = z17 * z19 → z21 = z18 * z19 → z22 = z6 + z20 → z23 = z6 + z21 → z24 = 1 → z25 = z3 * z24 → z26 = z25 + z8 → z27 = z26 + z5 → z28 = -z27 → z29 = z3 * z28 → z30 = z4 * z28 → z31 = z29 / z16 → z32 = z30 / z16 → z33 = z31 * z19 → z34 = z32 * z19 → z35 = z24 + z33 → z36 = z6 + z34 → z37 = z35 - z22 → z38 = z36 - z23 → z39 = z4 * z24 → z40 = z7 + z39 → z41 = z40 + z5 → z42 = -z41 → z43 = z3 * z42 → z44 = z4 * z42 → z45 = z43 / z16 → z46 = z44 / z16 → z47 = z45 * z19 → z48 = z46 * z19 → z49 = z6 + z47 → z50 = z24 + z48 → z51 = z49 - z22 → z52 = z50 - z23 → z53 = z0 * z6 → z54 = z1 * z6 → z55 = z53 + z54 → z56 = z55 + z2 → z57 = -z56 → z58 = z0 * z57 → z59 = z1 * z57 → z60 = z0 * z0 → z61 = z1 * z1 → z62 = z60 + z61 → z63 = z58 / z62 → z64 = z59 / z62 → z65 = z63 * z19 → z66 = z64 * z19 → z67 = z6 + z65 → z68 = z6 + z66 → z69 = z0 * z24 → z70 = z69 + z54 → z71 = z70 + z2 → z72 = -z71 → z73 = z0 * z72 → z74 = z1 * z72 → z75 = z73 / z62 → z76 = z74 / z62 → z77 = z75 * z19 → z78 = z76 * z19 → z79 = z24 + z77 → z80 = z6 + z78 → z81 = z79 - z67 → z82 = z80 - z68 → z97 = z37 * z81 → z98 = z38 * z81 → z99 = z51 * z82 → z100 = z52 * z82 → z101 = z97 + z99 → z102 = z98 + z100 → z131 = z101 - z24 → z132 = z102 - z6 → (¬ (z0 = 0 ∧ z1 = 0)) → (¬ (z3 = 0 ∧ z4 = 0)) → (z131 = 0 ∧ z132 = 0) → z132 = 0 := by
 intro e6 e7 e8 e9 e10 e11 e12 e13 e14 e15 e16 e17 e18 e19 e20 e21 e22 e23 e24 e25 e26 e27 e28 e29 e30 e31 e32 e33 e34 e35 e36 e37 e38 e39 e40 e41 e42 e43 e44 e45 e46 e47 e48 e49 e50 e51 e52 e53 e54 e55 e56 e57 e58 e59 e60 e61 e62 e63 e64 e65 e66 e67 e68 e69 e70 e71 e72 e73 e74 e75 e76 e77 e78 e79 e80 e81 e82 e97 e98 e99 e100 e101 e102 e131 e132 u0 u1 u2
 rw [u2.1] at e131
 rw [u2.2] at e132
 have n16 : z16 ≠ 0 := by (have hp := sq_pos (x := z3) (y := z4) (by grind)); grind
 have n62 : z62 ≠ 0 := by (have hp := sq_pos (x := z0) (y := z1) (by grind)); grind
 subst_vars; grind
theorem moveTwoMirrors_f10 {z0 z1 z2 z3 z4 z5 z6 z7 z8 z9 z10 z11 z12 z13 z14 z15 z16 z17 z18 z19 z20 z21 z22 z23 z24 z25 z26 z27 z28 z29 z30 z31 z32 z33 z34 z35 z36 z37 z38 z39 z40 z41 z42 z43 z44 z45 z46 z47 z48 z49 z50 z51 z52 z53 z54 z55 z56 z57 z58 z59 z60 z61 z62 z63 z64 z65 z66 z67 z68 z69 z70 z71 z72 z73 z74 z75 z76 z77 z78 z79 z80 z81 z82 z83 z84 z85 z86 z87 z88 z89 z90 z91 z92 z93 z94 z95 z96 z97 z98 z99 z100 z101 z102 z104 z106 z108 z131 z132 z134 : Rat} : z6 = 0 → z7 = z3 * z6 → z8 = z4 * z6 → z9 = z7 + z8 → z10 = z9 + z5 → z11 = -z10 → z12 = z3 * z11 → z13 = z4 * z11 → z14 = z3 * z3 → z15 = z4 * z4 → z16 = z14 + z15 → z17 = z12 / z16 → z18 = z13 / z16 → z19 = 2 → z20 = z17 * z19 → z21 = z18 * z19 → z22 = z6 + z20 → z23 = z6 + z21 → z24 = 1 → z25 = z3 * z24 → z26 = z25 + z8 → z27 = z26 + z5 → z28 = -z27 → z29 = z3 * z28 → z30 = z4 * z28 → z31 = z29 / z16 → z32 = z30 / z16 → z33 = z31 * z19 → z34 = z32 * z19 → z35 = z24 + z33 → z36 = z6 + z34 → z37 = z35 - z22 → z38 = z36 - z23 → z39 = z4 * z24 → z40 = z7 + z39 → z41 = z40 + z5 → z42 = -z41 → z43 = z3 * z42 → z44 = z4 * z42 → z45 = z43 / z16 → z46 = z44 / z16 → z47 = z45 * z19 → z48 = z46 * z19 → z49 = z6 + z47 → z50 = z24 + z48 → z51 = z49 - z22 → z52 = z50 - z23 → z53 = z0 * z6 → z54 = z1 * z6 → z55 = z53 + z54 → z56 = z55 + z2 → z57 = -z56 → z58 = z0 * z57 → z59 = z1 * z57 → z60 = z0 * z0 → z61 = z1 * z1 → z62 = z60 + z61 → z63 = z58 / z62 → z64 = z59 / z62 → z65 = z63 * z19 → z66 = z64 * z19 → z67 = z6 + z65 → z68 = z6 + z66 → z69 = z0 * z24 → z70 = z69 + z54 → z71 = z70 + z2 → z72 = -z71 → z73 = z0 * z72 → z74 = z1 * z72 → z75 = z73 / z62 → z76 = z74 / z62 → z77 = z75 * z19 → z78 = z76 * z19 → z79 = z24 + z77 → z80 = z6 + z78 → z81 = z79 - z67 → z82 = z80 - z68 → z83 = z1 * z24 → z84 = z53 + z83 → z85 = z84 + z2 → z86 = -z85 → z87 = z0 * z86 → z88 = z1 * z86 → z89 = z87 / z62 → z90 = z88 / z62 → z91 = z89 * z19 → z92 = z90 * z19 → z93 = z6 + z91 → z94 = z24 + z92 → z95 = z93 - z67 → z96 = z94 - z68 → z97 = z37 * z81 → z98 = z38 * z81 → z99 = z51 * z82 → z100 = z52 * z82 → z101 = z97 + z99 → z102 = z98 + z100 → z104 = z38 * z95 → z106 = z52 * z96 → z108 = z104 + z106 → z131 = z101 - z24 → z132 = z102 - z6 → z134 = z108 - z24 → (¬ (z0 = 0 ∧ z1 = 0)) → (¬ (z3 = 0 ∧ z4 = 0)) → (z131 = 0 ∧ z132 = 0) → z134 = 0 := by
 intro e6 e7 e8 e9 e10 e11 e12 e13 e14 e15 e16 e17 e18 e19 e20 e21 e22 e23 e24 e25 e26 e27 e28 e29 e30 e31 e32 e33 e34 e35 e36 e37 e38 e39 e40 e41 e42 e43 e44 e45 e46 e47 e48 e49 e50 e51 e52 e53 e54 e55 e56 e57 e58 e59 e60 e61 e62 e63 e64 e65 e66 e67 e68 e69 e70 e71 e72 e73 e74 e75 e76 e77 e78 e79 e80 e81 e82 e83 e84 e85 e86 e87 e88 e89 e90 e91 e92 e93 e94 e95 e96 e97 e98 e99 e100 e101 e102 e104 e106 e108 e131 e132 e134 u0 u1 u2
 rw [u2.1] at e131
 rw [u2.2] at e132
 have n16 : z16 ≠ 0 := by (have hp := sq_pos (x := z3) (y := z4) (by grind)); grind
 have n62 : z62 ≠ 0 := by (have hp := sq_pos (x := z0) (y := z1) (by grind)); grind
 subst_vars; grind
theorem moveTwoMirrors_f11 {z0 z1 z2 z3 z4 z5 z6 z7 z8 z9 z10 z11 z12 z13 z14 z15 z16 z17 z18 z19 z20 z21 z22 z23 z24 z25 z26 z27 z28 z29 z30 z31 z32 z33 z34 z35 z36 z37 z38 z39 z40 z41 z42 z43 z44 z45 z46 z47 z48 z49 z50 z51 z52 z53 z54 z55 z56 z57 z58 z59 z60 z61 z62 z63 z64 z65 z66 z67 z68 z109 z110 z111 z112 z113 z114 z115 z116 : Rat} : z6 = 0 → z7 = z3 * z6 → z8 = z4 * z6 → z9 = z7 + z8 → z10 = z9 + z5 → z11 = -z10 → z12 = z3 * z11 → z13 = z4 * z11 → z14 = z3 * z3 → z15 = z4 * z4 → z16 = z14 + z15 → z17 = z12 / z16 → z18 = z13 / z16 → z19 = 2 → z20 = z17 * z19 → z21 = z18 * z19 → z22 = z6 + z20 → z23 = z6 + z21 → z24 = 1 → z25 = z3 * z24 → z26 = z25 + z8 → z27 = z26 + z5 → z28 = -z27 → z29 = z3 * z28 → z30 = z4 * z28 → z31 = z29 / z16 → z32 = z30 / z16 → z33 = z31 * z19 → z34 = z32 * z19 → z35 = z24 + z33 → z36 = z6 + z34 → z37 = z35 - z22 → z38 = z36 - z23 → z39 = z4 * z24 → z40 = z7 + z39 → z41 = z40 + z5 → z42 = -z41 → z43 = z3 * z42 → z44 = z4 * z42 → z45 = z43 / z16 → z46 = z44 / z16 → z47 = z45 * z19 → z48 = z46 * z19 → z49 = z6 + z47 → z50 = z24 + z48 → z51 = z49 - z22 → z52 = z50 - z23 → z53 = z0 * z6 → z54 = z1 * z6 → z55 = z53 + z54 → z56 = z55 + z2 → z57 = -z56 → z58 = z0 * z57 → z59 = z1 * z57 → z60 = z0 * z0 → z61 = z1 * z1 → z62 = z60 + z61 → z63 = z58 / z62 → z64 = z59 / z62 → z65 = z63 * z19 → z66 = z64 * z19 → z67 = z6 + z65 → z68 = z6 + z66 → z109 = z37 * z67 → z110 = z38 * z67 → z111 = z51 * z68 → z112 = z52 * z68 → z113 = z109 + z111 → z114 = z110 + z112 → z115 = z113 + z22 → z116 = z114 + z23 → (¬ (z0 = 0 ∧ z1 = 0)) → (¬ (z3 = 0 ∧ z4 = 0)) → (z115 = 0 ∧ z116 = 0) → z116 = 0 := by
 intro e6 e7 e8 e9 e10 e11 e12 e13 e14 e15 e16 e17 e18 e19 e20 e21 e22 e23 e24 e25 e26 e27 e28 e29 e30 e31 e32 e33 e34 e35 e36 e37 e38 e39 e40 e41 e42 e43 e44 e45 e46 e47 e48 e49 e50 e51 e52 e53 e54 e55 e56 e57 e58 e59 e60 e61 e62 e63 e64 e65 e66 e67 e68 e109 e110 e111 e112 e113 e114 e115 e116 u0 u1 u3
 rw [u3.1] at e115
 rw [u3.2] at e116
 have n16 : z16 ≠ 0 := by (have hp := sq_pos (x := z3) (y := z4) (by grind)); grind
 have n62 : z62 ≠ 0 := by (have hp := sq_pos (x := z0) (y := z1) (by grind)); grind
 subst_vars; grind
theorem moveTwoMirrors_f12 {z0 z1 z2 z3 z4 z5 z6 z7 z8 z9 z10 z11 z12 z13 z14 z15 z16 z17 z18 z19 z20 z21 z22 z23 z24 z25 z26 z27 z28 z29 z30 z31 z32 z33 z34 z35 z36 z37 z38 z39 z40 z41 z42 z43 z44 z45 z46 z47 z48 z49 z50 z51 z52 z53 z54 z55 z56 z57 z58 z59 z60 z61 z62 z63 z64 z65 z66 z67 z68 z69 z70 z71 z72 z73 z74 z75 z76 z77 z78 z79 z80 z81 z82 z97 z98 z99 z100 z101 z102 z131 z132 z144 z145 z146 : Rat} : z6 = 0 → z7 = z3 * z6 → z8 = z4 * z6 → z9 = z7 + z8 → z10 = z9 + z5 → z11 = -z10 → z12 = z3 * z11 → z13 = z4 * z11 → z14 = z3 * z3 → z15 = z4 * z4 → z16 = z14 + z15 → z17 = z12 / z16 → z18 = z13 / z16 → z19 = 2 → z20 = z17 * z19 → z21 = z18 * z19 → z22 = z6 + z20 → z23 = z6 + z21 → z24 = 1 → z25 = z3 * z24 → z26 = z25 + z8 → z27 = z26 + z5 → z28 = -z27 → z29 = z3 * z28 → z30 = z4 * z28 → z31 = z29 / z16 → z32 = z30 / z16 → z33 = z31 * z19 → z34 = z32 * z19 → z35 = z24 + z33 → z36 = z6 + z34 → z37 = z35 - z22 → z38 = z36 - z23 → z39 = z4 * z24 → z40 = z7 + z39 → z41 = z40 + z5 → z42 = -z41 → z43 = z3 * z42 → z44 = z4 * z42 → z45 = z43 / z16 → z46 = z44 / z16 → z47 = z45 * z19 → z48 = z46 * z19 → z49 = z6 + z47 → z50 = z24 + z48 → z51 = z49 - z22 → z52 = z50 - z23 → z53 = z0 * z6 → z54 = z1 * z6 → z55 = z53 + z54 → z56 = z55 + z2 → z57 = -z56 → z58 = z0 * z57 → z59 = z1 * z57 → z60 = z0 * z0 → z61 = z1 * z1 → z62 = z60 + z61 → z63 = z58 / z62 → z64 = z59 / z62 → z65 = z63 * z19 → z66 = z64 * z19 → z67 = z6 + z65 → z68 = z6 + z66 → z69 = z0 * z24 → z70 = z69 + z54 → z71 = z70 + z2 → z72 = -z71 → z73 = z0 * z72 → z74 = z1 * z72 → z75 = z73 / z62 → z76 = z74 / z62 → z77 = z75 * z19 → z78 = z76 * z19 → z79 = z24 + z77 → z80 = z6 + z78 → z81 = z79 - z67 → z82 = z80 - z68 → z97 = z37 * z81 → z98 = z38 * z81 → z99 = z51 * z82 → z100 = z52 * z82 → z101 = z97 + z99 → z102 = z98 + z100 → z131 = z101 - z24 → z132 = z102 - z6 → z144 = z0 * z4 → z145 = z1 * z3 → z146 = z144 - z145 → (¬ (z0 = 0 ∧ z1 = 0)) → (¬ (z3 = 0 ∧ z4 = 0)) → (z131 = 0 ∧ z132 = 0) → z146 = 0 := by
 intro e6 e7 e8 e9 e10 e11 e12 e13 e14 e15 e16 e17 e18 e19 e20 e21 e22 e23 e24 e25 e26 e27 e28 e29 e30 e31 e32 e33 e34 e35 e36 e37 e38 e39 e40 e41 e42 e43 e44 e45 e46 e47 e48 e49 e50 e51 e52 e53 e54 e55 e56 e57 e58 e59 e60 e61 e62 e63 e64 e65 e66 e67 e68 e69 e70 e71 e72 e73 e74 e75 e76 e77 e78 e79 e80 e81 e82 e97 e98 e99 e100 e101 e102 e131 e132 e144 e145 e146 u0 u1 u2
 rw [u2.1] at e131
 rw [u2.2] at e132
 have n16 : z16 ≠ 0 := by (have hp := sq_pos (x := z3) (y := z4) (by grind)); grind
 have n62 : z62 ≠ 0 := by (have hp := sq_pos (x := z0) (y := z1) (by grind)); grind
 subst_vars; grind
theorem moveTwoMirrors_f13 {z0 z1 z2 z3 z4 z5 z6 z7 z8 z9 z10 z11 z12 z13 z14 z15 z16 z17 z18 z19 z20 z21 z22 z23 z24 z25 z26 z27 z28 z29 z30 z31 z32 z33 z34 z35 z36 z37 z38 z39 z40 z41 z42 z43 z44 z45 z46 z47 z48 z49 z50 z51 z52 z53 z54 z55 z56 z57 z58 z59 z60 z61 z62 z63 z64 z65 z66 z67 z68 z109 z110 z111 z112 z113 z114 z115 z116 z147 z149 z151 : Rat} : z6 = 0 → z7 = z3 * z6 → z8 = z4 * z6 → z9 = z7 + z8 → z10 = z9 + z5 → z11 = -z10 → z12 = z3 * z11 → z13 = z4 * z11 → z14 = z3 * z3 → z15 = z4 * z4 → z16 = z14 + z15 → z17 = z12 / z16 → z18 = z13 / z16 → z19 = 2 → z20 = z17 * z19 → z21 = z18 * z19 → z22 = z6 + z20 → z23 = z6 + z21 → z24 = 1 → z25 = z3 * z24 → z26 = z25 + z8 → z27 = z26 + z5 → z28 = -z27 → z29 = z3 * z28 → z30 = z4 * z28 → z31 = z29 / z16 → z32 = z30 / z16 → z33 = z31 * z19 → z34 = z32 * z19 → z35 = z24 + z33 → z36 = z6 + z34 → z37 = z35 - z22 → z38 = z36 - z23 → z39 = z4 * z24 → z40 = z7 + z39 → z41 = z40 + z5 → z42 = -z41 → z43 = z3 * z42 → z44 = z4 * z42 → z45 = z43 / z16 → z46 = z44 / z16 → z47 = z45 * z19 → z48 = z46 * z19 → z49 = z6 + z47 → z50 = z24 + z48 → z51 = z49 - z22 → z52 = z50 - z23 → z53 = z0 * z6 → z54 = z1 * z6 → z55 = z53 + z54 → z56 = z55 + z2 → z57 = -z56 → z58 = z0 * z57 → z59 = z1 * z57 → z60 = z0 * z0 → z61 = z1 * z1 → z62 = z60 + z61 → z63 = z58 / z62 → z64 = z59 / z62 → z65 = z63 * z19 → z66 = z64 * z19 → z67 = z6 + z65 → z68 = z6 + z66 → z109 = z37 * z67 → z110 = z38 * z67 → z111 = z51 * z68 → z112 = z52 * z68 → z113 = z109 + z111 → z114 = z110 + z112 → z115 = z113 + z22 → z116 = z114 + z23 → z147 = z3 * z2 → z149 = z0 * z5 → z151 = z147 - z149 → (¬ (z0 = 0 ∧ z1 = 0)) → (¬ (z3 = 0 ∧ z4 = 0)) → (z115 = 0 ∧ z116 = 0) → z151 = 0 := by
 intro e6 e7 e8 e9 e10 e11 e12 e13 e14 e15 e16 e17 e18 e19 e20 e21 e22 e23 e24 e25 e26 e27 e28 e29 e30 e31 e32 e33 e34 e35 e36 e37 e38 e39 e40 e41 e42 e43 e44 e45 e46 e47 e48 e49 e50 e51 e52 e53 e54 e55 e56 e57 e58 e59 e60 e61 e62 e63 e64 e65 e66 e67 e68 e109 e110 e111 e112 e113 e114 e115 e116 e147 e149 e151 u0 u1 u3
 rw [u3.1] at e115
 rw [u3.2] at e116
 have n16 : z16 ≠ 0 := by (have hp := sq_pos (x := z3) (y := z4) (by grind)); grind
 have n62 : z62 ≠ 0 := by (have hp := sq_pos (x := z0) (y := z1) (by grind)); grind
 subst_vars; grind
theorem moveTwoMirrors_f14 {z0 z1 z2 z3 z4 z5 z6 z7 z8 z9 z10 z11 z12 z13 z14 z15 z16 z17 z18 z19 z20 z21 z22 z23 z24 z25 z26 z27 z28 z29 z30 z31 z32 z33 z34 z35 z36 z37 z38 z39 z40 z41 z42 z43 z44 z45 z46 z47 z48 z49 z50 z51 z52 z53 z54 z55 z56 z57 z58 z59 z60 z61 z62 z63 z64 z65 z66 z67 z68 z109 z110 z111 z112 z113 z114 z115 z116 z148 z150 z152 : Rat} : z6 = 0 → z7 = z3 * z6 → z8 = z4 * z6 → z9 = z7 + z8 → z10 = z9 + z5 → z11 = -z10 → z12 = z3 * z11 → z13 = z4 * z11 → z14 = z3 * z3 → z15 = z4 * z4 → z16 = z14 + z15 → z17 = z12 / z16 → z18 = z13 / z16 → z19 = 2 → z20 = z17 * z19 → z21 = z18 * z19 → z22 = z6 + z20 → z23 = z6 + z21 → z24 = 1 → z25 = z3 * z24 → z26 = z25 + z8 → z27 = z26 + z5 → z28 = -z27 → z29 = z3 * z28 → z30 = z4 * z28 → z31 = z29 / z16 → z32 = z30 / z16 → z33 = z31 * z19 → z34 = z32 * z19 → z35 = z24 + z33 → z36 = z6 + z34 → z37 = z35 - z22 → z38 = z36 - z23 → z39 = z4 * z24 → z40 = z7 + z39 → z41 = z40 + z5 → z42 = -z41 → z43 = z3 * z42 → z44 = z4 * z42 → z45 = z43 / z16 → z46 = z44 / z16 → z47 = z45 * z19 → z48 = z46 * z19 → z49 = z6 + z47 → z50 = z24 + z48 → z51 = z49 - z22 → z52 = z50 - z23 → z53 = z0 * z6 → z54 = z1 * z6 → z55 = z53 + z54 → z56 = z55 + z2 → z57 = -z56 → z58 = z0 * z57 → z59 = z1 * z57 → z60 = z0 * z0 → z61 = z1 * z1 → z62 = z60 + z61 → z63 = z58 / z62 → z64 = z59 / z62 → z65 = z63 * z19 → z66 = z64 * z19 → z67 = z6 + z65 → z68 = z6 + z66 → z109 = z37 * z67 → z110 = z38 * z67 → z111 = z51 * z68 → z112 = z52 * z68 → z113 = z109 + z111 → z114 = z110 + z112 → z115 = z113 + z22 → z116 = z114 + z23 → z148 = z4 * z2 → z150 = z1 * z5 → z152 = z148 - z150 → (¬ (z0 = 0 ∧ z1 = 0)) → (¬ (z3 = 0 ∧ z4 = 0)) → (z115 = 0 ∧ z116 = 0) → z152 = 0 := by
 intro e6 e7 e8 e9 e10 e11 e12 e13 e14 e15 e16 e17 e18 e19 e20 e21 e22 e23 e24 e25 e26 e27 e28 e29 e30 e31 e32 e33 e34 e35 e36 e37 e38 e39 e40 e41 e42 e43 e44 e45 e46 e47 e48 e49 e50 e51 e52 e53 e54 e55 e56 e57 e58 e59 e60 e61 e62 e63 e64 e65 e66 e67 e68 e109 e110 e111 e112 e113 e114 e115 e116 e148 e150 e152 u0 u1 u3
 rw [u3.1] at e115
 rw [u3.2] at e116
 have n16 : z16 ≠ 0 := by (have hp := sq_pos (x := z3) (y := z4) (by grind)); grind
 have n62 : z62 ≠ 0 := by (have hp := sq_pos (x := z0) (y := z1) (by grind)); grind
 subst_vars; grind
theorem moveTwoMirrors_f15 {z0 z1 z2 z3 z4 z5 z6 z7 z8 z9 z10 z11 z12 z13 z14 z15 z16 z17 z18 z19 z20 z21 z22 z23 z24 z25 z26 z27 z28 z29 z30 z31 z32 z33 z34 z35 z36 z37 z38 z39 z40 z41 z42 z43 z44 z45 z46 z47 z48 z49 z50 z51 z52 z53 z54 z55 z56 z57 z58 z59 z60 z61 z62 z63 z64 z65 z66 z67 z68 z69 z70 z71 z72 z73 z74 z75 z76 z77 z78 z79 z80 z81 z82 z97 z98 z99 z100 z101 z102 z109 z110 z111 z112 z113 z114 z115 z116 z131 z132 : Rat} : z6 = 0 → z7 = z3 * z6 → z8 = z4 * z6 → z9 = z7 + z8 → z10 = z9 + z5 → z11 = -z10 → z12 = z3 * z11 → z13 = z4 * z11 → z14 = z3 * z3 → z15 = z4 * z4 → z16 = z14 + z15 → z17 = z12 / z16 → z18 = z13 / z16 → z19 = 2 → z20 = z17 * z19 → z21 = z18 * z19 → z22 = z6 + z20 → z23 = z6 + z21 → z24 = 1 → z25 = z3 * z24 → z26 = z25 + z8 → z27 = z26 + z5 → z28 = -z27 → z29 = z3 * z28 → z30 = z4 * z28 → z31 = z29 / z16 → z32 = z30 / z16 → z33 = z31 * z19 → z34 = z32 * z19 → z35 = z24 + z33 → z36 = z6 + z34 → z37 = z35 - z22 → z38 = z36 - z23 → z39 = z4 * z24 → z40 = z7 + z39 → z41 = z40 + z5 → z42 = -z41 → z43 = z3 * z42 → z44 = z4 * z42 → z45 = z43 / z16 → z46 = z44 / z16 → z47 = z45 * z19 → z48 = z46 * z19 → z49 = z6 + z47 → z50 = z24 + z48 → z51 = z49 - z22 → z52 = z50 - z23 → z53 = z0 * z6 → z54 = z1 * z6 → z55 = z53 + z54 → z56 = z55 + z2 → z57 = -z56 → z58 = z0 * z57 → z59 = z1 * z57 → z60 = z0 * z0 → z61 = z1 * z1 → z62 = z60 + z61 → z63 = z58 / z62 → z64 = z59 / z62 → z65 = z63 * z19 → z66 = z64 * z19 → z67 = z6 + z65 → z68 = z6 + z66 → z69 = z0 * z24 → z70 = z69 + z54 → z71 = z70 + z2 → z72 = -z71 → z73 = z0 * z72 → z74 = z1 * z72 → z75 = z73 / z62 → z76 = z74 / z62 → z77 = z75 * z19 → z78 = z76 * z19 → z79 = z24 + z77 → z80 = z6 + z78 → z81 = z79 - z67 → z82 = z80 - z68 → z97 = z37 * z81 → z98 = z38 * z81 → z99 = z51 * z82 → z100 = z52 * z82 → z101 = z97 + z99 → z102 = z98 + z100 → z109 = z37 * z67 → z110 = z38 * z67 → z111 = z51 * z68 → z112 = z52 * z68 → z113 = z109 + z111 → z114 = z110 + z112 → z115 = z113 + z22 → z116 = z114 + z23 → z131 = z101 - z24 → z132 = z102 - z6 → (¬ (z0 = 0 ∧ z1 = 0)) → (¬ (z3 = 0 ∧ z4 = 0)) → (z131 = 0 ∧ z132 = 0) → (¬ (z115 = 0 ∧ z116 = 0)) → z131 = 0 := by
 intro e6 e7 e8 e9 e10 e11 e12 e13 e14 e15 e16 e17 e18 e19 e20 e21 e22 e23 e24 e25 e26 e27 e28 e29 e30 e31 e32 e33 e34 e35 e36 e37 e38 e39 e40 e41 e42 e43 e44 e45 e46 e47 e48 e49 e50 e51 e52 e53 e54 e55 e56 e57 e58 e59 e60 e61 e62 e63 e64 e65 e66 e67 e68 e69 e70 e71 e72 e73 e74 e75 e76 e77 e78 e79 e80 e81 e82 e97 e98 e99 e100 e101 e102 e109 e110 e111 e112 e113 e114 e115 e116 e131 e132 u0 u1 u2 u3
 rw [u2.1] at e131
 rw [u2.2] at e132
 have n16 : z16 ≠ 0 := by (have hp := sq_pos (x := z3) (y := z4) (by grind)); grind
 have n62 : z62 ≠ 0 := by (have hp := sq_pos (x := z0) (y := z1) (by grind)); grind
 subst_vars; grind
theorem moveTwoMirrors_f16 {z0 z1 z2 z3 z4 z5 z6 z7 z8 z9 z10 z11 z12 z13 z14 z15 z16 z17 z18 z19 z20 z21 z22 z23 z24 z25 z26 z27 z28 z29 z30 z31 z32 z33 z34 z35 z36 z37 z38 z39 z40 z41 z42 z43 z44 z45 z46 z47 z48 z49 z50 z51 z52 z53 z54 z55 z56 z57 z58 z59 z60 z61 z62 z63 z64 z65 z66 z67 z68 z69 z70 z71 z72 z73 z74 z75 z76 z77 z78 z79 z80 z81 z82 z83 z84 z85 z86 z87 z88 z89 z90 z91 z92 z93 z94 z95 z96 z97 z98 z99 z100 z101 z102 z103 z105 z107 z109 z110 z111 z112 z113 z114 z115 z116 z131 z132 z133 : Rat} : z6 = 0 → z7 = z3 * z6 → z8 = z4 * z6 → z9 = z7 + z8 → z10 = z9 + z5 → z11 = -z10 → z12 = z3 * z11 → z13 = z4 * z11 → z14 = z3 * z3 → z15 = z4 * z4 → z16 = z14 + z15 → z17 = z12 / z16 → z18 = z13 / z16 → z19 = 2 → z20 = z17 * z19 → z21 = z18 * z19 → z22 = z6 + z20 → z23 = z6 + z21 → z24 = 1 → z25 = z3 * z24 → z26 = z25 + z8 → z27 = z26 + z5 → z28 = -z27 → z29 = z3 * z28 → z30 = z4 * z28 → z31 = z29 / z16 → z32 = z30 / z16 → z33 = z31 * z19 → z34 = z32 * z19 → z35 = z24 + z33 → z36 = z6 + z34 → z37 = z35 - z22 → z38 = z36 - z23 → z39 = z4 * z24 → z40 = z7 + z39 → z41 = z40 + z5 → z42 = -z41 → z43 = z3 * z42 → z44 = z4 * z42 → z45 = z43 / z16 → z46 = z44 / z16 → z47 = z45 * z19 → z48 = z46 * z19 → z49 = z6 + z47 → z50 = z24 + z48 → z51 = z49 - z22 → z52 = z50 - z23 → z53 = z0 * z6 → z54 = z1 * z6 → z55 = z53 + z54 → z56 = z55 + z2 → z57 = -z56 → z58 = z0 * z57 → z59 = z1 * z57 → z60 = z0 * z0 → z61 = z1 * z1 → z62 = z60 + z61 → z63 = z58 / z62 → z64 = z59 / z62 → z65 = z63 * z19 → z66 = z64 * z19 → z67 = z6 + z65 → z68 = z6 + z66 → z69 = z0 * z24 → z70 = z69 + z54 → z71 = z70 + z2 → z72 = -z71 → z73 = z0 * z72 → z74 = z1 * z72 → z75 = z73 / z62 → z76 = z74 / z62 → z77 = z75 * z19 → z78 = z76 * z19 → z79 = z24 + z77 → z80 = z6 + z78 → z81 = z79 - z67 → z82 = z80 - z68 → z83 = z1 * z24 → z84 = z53 + z83 → z85 = z84 + z2 → z86 = -z85 → z87 = z0 * z86 → z88 = z1 * z86 → z89 = z87 / z62 → z90 = z88 / z62 → z91 = z89 * z19 → z92 = z90 * z19 → z93 = z6 + z91 → z94 = z24 + z92 → z95 = z93 - z67 → z96 = z94 - z68 → z97 = z37 * z81 → z98 = z38 * z81 → z99 = z51 * z82 → z100 = z52 * z82 → z101 = z97 + z99 → z102 = z98 + z100 → z103 = z37 * z95 → z105 = z51 * z96 → z107 = z103 + z105 → z109 = z37 * z67 → z110 = z38 * z67 → z111 = z51 * z68 → z112 = z52 * z68 → z113 = z109 + z111 → z114 = z110 + z112 → z115 = z113 + z22 → z116 = z114 + z23 → z131 = z101 - z24 → z132 = z102 - z6 → z133 = z107 - z6 → (¬ (z0 = 0 ∧ z1 = 0)) → (¬ (z3 = 0 ∧ z4 = 0)) → (z131 = 0 ∧ z132 = 0) → (¬ (z115 = 0 ∧ z116 = 0)) → z133 = 0 := by
 intro e6 e7 e8 e9 e10 e11 e12 e13 e14 e15 e16 e17 e18 e19 e20 e21 e22 e23 e24 e25 e26 e27 e28 e29 e30 e31 e32 e33 e34 e35 e36 e37 e38 e39 e40 e41 e42 e43 e44 e45 e46 e47 e48 e49 e50 e51 e52 e53 e54 e55 e56 e57 e58 e59 e60 e61 e62 e63 e64 e65 e66 e67 e68 e69 e70 e71 e72 e73 e74 e75 e76 e77 e78 e79 e80 e81 e82 e83 e84 e85 e86 e87 e88 e89 e90 e91 e92 e93 e94 e95 e96 e97 e98 e99 e100 e101 e102 e103 e105 e107 e109 e110 e111 e112 e113 e114 e115 e116 e131 e132 e133 u0 u1 u2 u3
 rw [u2.1] at e131
 rw [u2.2] at e132
 have n16 : z16 ≠ 0 := by (have hp := sq_pos (x := z3) (y := z4) (by grind)); grind
 have n62 : z62 ≠ 0 := by (have hp := sq_pos (x := z0) (y := z1) (by grind)); grind
 subst_vars; grind
theorem moveTwoMirrors_f17 {z0 z1 z2 z3 z4 z5 z6 z7 z8 z9 z10 z11 z12 z13 z14 z15 z16 z17 z18 z19 z20 z21 z22 z23 z24 z25 z26 z27 z28 z29 z30 z31 z32 z33 z34 z35 z36 z37 z38 z39 z40 z41 z42 z43 z44 z45 z46 z47 z48 z49 z50 z51 z52 z53 z54 z55 z56 z57 z58 z59 z60 z61 z62 z63 z64 z65 z66 z67 z68 z69 z70 z71 z72 z73 z74 z75 z76 z77 z78 z79 z80 z81 z82 z83 z84 z85 z86 z87 z88 z89 z90 z91 z92 z93 z94 z95 z96 z97 z98 z99 z100 z101 z102 z103 z104 z105 z106 z107 z108 z109 z110 z111 z112 z113 z114 z115 z116 z131 z132 z133 z134 z141 z142 z143 : Rat} : z6 = 0 → z7 = z3 * z6 → z8 = z4 * z6 → z9 = z7 + z8 → z10 = z9 + z5 → z11 = -z10 → z12 = z3 * z11 → z13 = z4 * z11 → z14 = z3 * z3 → z15 = z4 * z4 → z16 = z14 + z15 → z17 = z12 / z16 → z18 = z13 / z16 → z19 = 2 → z20 = z17 * z19 → z21 = z18 * z19 → z22 = z6 + z20 → z23 = z6 + z21 → z24 = 1 → z25 = z3 * z24 → z26 = z25 + z8 → z27 = z26 + z5 → z28 = -z27 → z29 = z3 * z28 → z30 = z4 * z28 → z31 = z29 / z16 → z32 = z30 / z16 → z33 = z31 * z19 → z34 = z32 * z19 → z35 = z24 + z33 → z36 = z6 + z34 → z37 = z35 - z22 → z38 = z36 - z23 → z39 = z4 * z24 → z40 = z7 + z39 → z41 = z40 + z5 → z42 = -z41 → z43 = z3 * z42 → z44 = z4 * z42 → z45 = z43 / z16 → z46 = z44 / z16 → z47 = z45 * z19 → z48 = z46 * z19 → z49 = z6 + z47 → z50 = z24 + z48 → z51 = z49 - z22 → z52 = z50 - z23 → z53 = z0 * z6 → z54 = z1 * z6 → z55 = z53 + z54 → z56 = z55 + z2 → z57 = -z56 → z58 = z0 * z57 → z59 = z1 * z57 → z60 = z0 * z0 → z61 = z1 * z1 → z62 = z60 + z61 → z63 = z58 / z62 → z64 = z59 / z62 → z65 = z63 * z19 → z66 = z64 * z19 → z67 = z6 + z65 → z68 = z6 + z66 → z69 = z0 * z24 → z70 = z69 + z54 → z71 = z70 + z2 → z72 = -z71 → z73 = z0 * z72 → z74 = z1 * z72 → z75 = z73 / z62 → z76 = z74 / z62 → z77 = z75 * z19 → z78 = z76 * z19 → z79 = z24 + z77 → z80 = z6 + z78 → z81 = z79 - z67 → z82 = z80 - z68 → z83 = z1 * z24 → z84 = z53 + z83 → z85 = z84 + z2 → z86 = -z85 → z87 = z0 * z86 → z88 = z1 * z86 → z89 = z87 / z62 → z90 = z88 / z62 → z91 = z89 * z19 → z92 = z90 * z19 → z93 = z6 + z91 → z94 = z24 + z92 → z95 = z93 - z67 → z96 = z94 - z68 → z97 = z37 * z81 → z98 = z38 * z81 → z99 = z51 * z82 → z100 = z52 * z82 → z101 = z97 + z99 → z102 = z98 + z100 → z103 = z37 * z95 → z104 = z38 * z95 → z105 = z51 * z96 → z106 = z52 * z96 → z107 = z103 + z105 → z108 = z104 + z106 → z109 = z37 * z67 → z110 = z38 * z67 → z111 = z51 * z68 → z112 = z52 * z68 → z113 = z109 + z111 → z114 = z110 + z112 → z115 = z113 + z22 → z116 = z114 + z23 → z131 = z101 - z24 → z132 = z102 - z6 → z133 = z107 - z6 → z134 = z108 - z24 → z141 = z131 * z134 → z142 = z133 * z132 → z143 = z141 - z142 → (¬ (z0 = 0 ∧ z1 = 0)) → (¬ (z3 = 0 ∧ z4 = 0)) → (z131 = 0 ∧ z132 = 0) → (¬ (z115 = 0 ∧ z116 = 0)) → z143 = 0 := by
 intro e6 e7 e8 e9 e10 e11 e12 e13 e14 e15 e16 e17 e18 e19 e20 e21 e22 e23 e24 e25 e26 e27 e28 e29 e30 e31 e32 e33 e34 e35 e36 e37 e38 e39 e40 e41 e42 e43 e44 e45 e46 e47 e48 e49 e50 e51 e52 e53 e54 e55 e56 e57 e58 e59 e60 e61 e62 e63 e64 e65 e66 e67 e68 e69 e70 e71 e72 e73 e74 e75 e76 e77 e78 e79 e80 e81 e82 e83 e84 e85 e86 e87 e88 e89 e90 e91 e92 e93 e94 e95 e96 e97 e98 e99 e100 e101 e102 e103 e104 e105 e106 e107 e108 e109 e110 e111 e112 e113 e114 e115 e116 e131 e132 e133 e134 e141 e142 e143 u0 u1 u2 u3
 rw [u2.1] at e131
 rw [u2.2] at e132
 have n16 : z16 ≠ 0 := by (have hp := sq_pos (x := z3) (y := z4) (by grind)); grind
 have n62 : z62 ≠ 0 := by (have hp := sq_pos (x := z0) (y := z1) (by grind)); grind
 subst_vars; grind
theorem moveTwoMirrors_f18 {z0 z1 z2 z3 z4 z5 z6 z7 z8 z9 z10 z11 z12 z13 z14 z15 z16 z17 z18 z19 z20 z21 z22 z23 z24 z25 z26 z27 z28 z29 z30 z31 z32 z33 z34 z35 z36 z37 z38 z39 z40 z41 z42 z43 z44 z45 z46 z47 z48 z49 z50 z51 z52 z53 z54 z55 z56 z57 z58 z59 z60 z61 z62 z63 z64 z65 z66 z67 z68 z69 z70 z71 z72 z73 z74 z75 z76 z77 z78 z79 z80 z81 z82 z97 z98 z99 z100 z101 z102 z109 z110 z111 z112 z113 z114 z115 z116 z131 z132 : Rat} : z6 = 0 → z7 = z3 * z6 → z8 = z4 * z6 → z9 = z7 + z8 → z10 = z9 + z5 → z11 = -z10 → z12 = z3 * z11 → z13 = z4 * z11 → z14 = z3 * z3 → z15 = z4 * z4 → z16 = z14 + z15 → z17 = z12 / z16 → z18 = z13 / z16 → z19 = 2 → z20 = z17 * z19 → z21 = z18 * z19 → z22 = z6 + z20 → z23 = z6 + z21 → z24 = 1 → z25 = z3 * z24 → z26 = z25 + z8 → z27 = z26 + z5 → z28 = -z27 → z29 = z3 * z28 → z30 = z4 * z28 → z31 = z29 / z16 → z32 = z30 / z16 → z33 = z31 * z19 → z34 = z32 * z19 → z35 = z24 + z33 → z36 = z6 + z34 → z37 = z35 - z22 → z38 = z36 - z23 → z39 = z4 * z24 → z40 = z7 + z39 → z41 = z40 + z5 → z42 = -z41 → z43 = z3 * z42 → z44 = z4 * z42 → z45 = z43 / z16 → z46 = z44 / z16 → z47 = z45 * z19 → z48 = z46 * z19 → z49 = z6 + z47 → z50 = z24 + z48 → z51 = z49 - z22 → z52 = z50 - z23 → z53 = z0 * z6 → z54 = z1 * z6 → z55 = z53 + z54 → z56 = z55 + z2 → z57 = -z56 → z58 = z0 * z57 → z59 = z1 * z57 → z60 = z0 * z0 → z61 = z1 * z1 → z62 = z60 + z61 → z63 = z58 / z62 → z64 = z59 / z62 → z65 = z63 * z19 → z66 = z64 * z19 → z67 = z6 + z65 → z68 = z6 + z66 → z69 = z0 * z24 → z70 = z69 + z54 → z71 = z70 + z2 → z72 = -z71 → z73 = z0 * z72 → z74 = z1 * z72 → z75 = z73 / z62 → z76 = z74 / z62 → z77 = z75 * z19 → z78 = z76 * z19 → z79 = z24 + z77 → z80 = z6 + z78 → z81 = z79 - z67 → z82 = z80 - z68 → z97 = z37 * z81 → z98 = z38 * z81 → z99 = z51 * z82 → z100 = z52 * z82 → z101 = z97 + z99 → z102 = z98 + z100 → z109 = z37 * z67 → z110 = z38 * z67 → z111 = z51 * z68 → z112 = z52 * z68 → z113 = z109 + z111 → z114 = z110 + z112 → z115 = z113 + z22 → z116 = z114 + z23 → z131 = z101 - z24 → z132 = z102 - z6 → (¬ (z0 = 0 ∧ z1 = 0)) → (¬ (z3 = 0 ∧ z4 = 0)) → (z131 = 0 ∧ z132 = 0) → (¬ (z115 = 0 ∧ z116 = 0)) → z132 = 0 := by
 intro e6 e7 e8 e9 e10 e11 e12 e13 e14 e15 e16 e17 e18 e19 e20 e21 e22 e23 e24 e25 e26 e27 e28 e29 e30 e31 e32 e33 e34 e35 e36 e37 e38 e39 e40 e41 e42 e43 e44 e45 e46 e47 e48 e49 e50 e51 e52 e53 e54 e55 e56 e57 e58 e59 e60 e61 e62 e63 e64 e65 e66 e67 e68 e69 e70 e71 e72 e73 e74 e75 e76 e77 e78 e79 e80 e81 e82 e97 e98 e99 e100 e101 e102 e109 e110 e111 e112 e113 e114 e115 e116 e131 e132 u0 u1 u2 u3
 rw [u2.1] at e131
 rw [u2.2] at e132
 have n16 : z16 ≠ 0 := by (have hp := sq_pos (x := z3) (y := z4) (by grind)); grind
 have n62 : z62 ≠ 0 := by (have hp := sq_pos (x := z0) (y := z1) (by grind)); grind
 subst_vars; grind
theorem moveTwoMirrors_f19 {z0 z1 z2 z3 z4 z5 z6 z7 z8 z9 z10 z11 z12 z13 z14 z15 z16 z17 z18 z19 z20 z21 z22 z23 z24 z25 z26 z27 z28 z29 z30 z31 z32 z33 z34 z35 z36 z37 z38 z39 z40 z41 z42 z43 z44 z45 z46 z47 z48 z49 z50 z51 z52 z53 z54 z55 z56 z57 z58 z59 z60 z61 z62 z63 z64 z65 z66 z67 z68 z69 z70 z71 z72 z73 z74 z75 z76 z77 z78 z79 z80 z81 z82 z83 z84 z85 z86 z87 z88 z89 z90 z91 z92 z93 z94 z95 z96 z97 z98 z99 z100 z101 z102 z104 z106 z108 z109 z110 z111 z112 z113 z114 z115 z116 z131 z132 z134 : Rat} : z6 = 0 → z7 = z3 * z6 → z8 = z4 * z6 → z9 = z7 + z8 → z10 = z9 + z5 → z11 = -z10 → z12 = z3 * z11 → z13 = z4 * z11 → z14 = z3 * z3 → z15 = z4 * z4 → z16 = z14 + z15 → z17 = z12 / z16 → z18 = z13 / z16 → z19 = 2 → z20 = z17 * z19 → z21 = z18 * z19 → z22 = z6 + z20 → z23 = z6 + z21 → z24 = 1 → z25 = z3 * z24 → z26 = z25 + z8 → z27 = z26 + z5 → z28 = -z27 → z29 = z3 * z28 → z30 = z4 * z28 → z31 = z29 / z16 → z32 = z30 / z16 → z33 = z31 * z19 → z34 = z32 * z19 → z35 = z24 + z33 → z36 = z6 + z34 → z37 = z35 - z22 → z38 = z36 - z23 → z39 = z4 * z24 → z40 = z7 + z39 → z41 = z40 + z5 → z42 = -z41 → z43 = z3 * z42 → z44 = z4 * z42 → z45 = z43 / z16 → z46 = z44 / z16 → z47 = z45 * z19 → z48 = z46 * z19 → z49 = z6 + z47 → z50 = z24 + z48 → z51 = z49 - z22 → z52 = z50 - z23 → z53 = z0 * z6 → z54 = z1 * z6 → z55 = z53 + z54 → z56 = z55 + z2 → z57 = -z56 → z58 = z0 * z57 → z59 = z1 * z57 → z60 = z0 * z0 → z61 = z1 * z1 → z62 = z60 + z61 → z63 = z58 / z62 → z64 = z59 / z62 → z65 = z63 * z19 → z66 = z64 * z19 → z67 = z6 + z65 → z68 = z6 + z66 → z69 = z0 * z24 → z70 = z69 + z54 → z71 = z70 + z2 → z72 = -z71 → z73 = z0 * z72 → z74 = z1 * z72 → z75 = z73 / z62 → z76 = z74 / z62 → z77 = z75 * z19 → z78 = z76 * z19 → z79 = z24 + z77 → z80 = z6 + z78 → z81 = z79 - z67 → z82 = z80 - z68 → z83 = z1 * z24 → z84 = z53 + z83 → z85 = z84 + z2 → z86 = -z85 → z87 = z0 * z86 → z88 = z1 * z86 → z89 = z87 / z62 → z90 = z88 / z62 → z91 = z89 * z19 → z92 = z90 * z19 → z93 = z6 + z91 → z94 = z24 + z92 → z95 = z93 - z67 → z96 = z94 - z68 → z97 = z37 * z81 → z98 = z38 * z81 → z99 = z51 * z82 → z100 = z52 * z82 → z101 = z97 + z99 → z102 = z98 + z100 → z104 = z38 * z95 → z106 = z52 * z96 → z108 = z104 + z106 → z109 = z37 * z67 → z110 = z38 * z67 → z111 = z51 * z68 → z112 = z52 * z68 → z113 = z109 + z111 → z114 = z110 + z112 → z115 = z113 + z22 → z116 = z114 + z23 → z131 = z101 - z24 → z132 = z102 - z6 → z134 = z108 - z24 → (¬ (z0 = 0 ∧ z1 = 0)) → (¬ (z3 = 0 ∧ z4 = 0)) → (z131 = 0 ∧ z132 = 0) → (¬ (z115 = 0 ∧ z116 = 0)) → z134 = 0 := by
 intro e6 e7 e8 e9 e10 e11 e12 e13 e14 e15 e16 e17 e18 e19 e20 e21 e22 e23 e24 e25 e26 e27 e28 e29 e30 e31 e32 e33 e34 e35 e36 e37 e38 e39 e40 e41 e42 e43 e44 e45 e46 e47 e48 e49 e50 e51 e52 e53 e54 e55 e56 e57 e58 e59 e60 e61 e62 e63 e64 e65 e66 e67 e68 e69 e70 e71 e72 e73 e74 e75 e76 e77 e78 e79 e80 e81 e82 e83 e84 e85 e86 e87 e88 e89 e90 e91 e92 e93 e94 e95 e96 e97 e98 e99 e100 e101 e102 e104 e106 e108 e109 e110 e111 e112 e113 e114 e115 e116 e131 e132 e134 u0 u1 u2 u3
 rw [u2.1] at e131
 rw [u2.2] at e132
 have n16 : z16 ≠ 0 := by (have hp := sq_pos (x := z3) (y := z4) (by grind)); grind
 have n62 : z62 ≠ 0 := by (have hp := sq_pos (x := z0) (y := z1) (by grind)); grind
 subst_vars; grind
theorem moveTwoMirrors_f20 {z0 z1 z2 z3 z4 z5 z6 z7 z8 z9 z10 z11 z12 z13 z14 z15 z16 z17 z18 z19 z20 z21 z22 z23 z24 z25 z26 z27 z28 z29 z30 z31 z32 z33 z34 z35 z36 z37 z38 z39 z40 z41 z42 z43 z44 z45 z46 z47 z48 z49 z50 z51 z52 z53 z54 z55 z56 z57 z58 z59 z60 z61 z62 z63 z64 z65 z66 z67 z68 z109 z110 z111 z112 z113 z114 z115 z116 : Rat} : z6 = 0 → z7 = z3 * z6 → z8 = z4 * z6 → z9 = z7 + z8 → z10 = z9 + z5 → z11 = -z10 → z12 = z3 * z11 → z13 = z4 * z11 → z14 = z3 * z3 → z15 = z4 * z4 → z16 = z14 + z15 → z17 = z12 / z16 → z18 = z13 / z16 → z19 = 2 → z20 = z17 * z19 → z21 = z18 * z19 → z22 = z6 + z20 → z23 = z6 + z21 → z24 = 1 → z25 = z3 * z24 → z26 = z25 + z8 → z27 = z26 + z5 → z28 = -z27 → z29 = z3 * z28 → z30 = z4 * z28 → z31 = z29 / z16 → z32 = z30 / z16 → z33 = z31 * z19 → z34 = z32 * z19 → z35 = z24 + z33 → z36 = z6 + z34 → z37 = z35 - z22 → z38 = z36 - z23 → z39 = z4 * z24 → z40 = z7 + z39 → z41 = z40 + z5 → z42 = -z41 → z43 = z3 * z42 → z44 = z4 * z42 → z45 = z43 / z16 → z46 = z44 / z16 → z47 = z45 * z19 → z48 = z46 * z19 → z49 = z6 + z47 → z50 = z24 + z48 → z51 = z49 - z22 → z52 = z50 - z23 → z53 = z0 * z6 → z54 = z1 * z6 → z55 = z53 + z54 → z56 = z55 + z2 → z57 = -z56 → z58 = z0 * z57 → z59 = z1 * z57 → z60 = z0 * z0 → z61 = z1 * z1 → z62 = z60 + z61 → z63 = z58 / z62 → z64 = z59 / z62 → z65 = z63 * z19 → z66 = z64 * z19 → z67 = z6 + z65 → z68 = z6 + z66 → z109 = z37 * z67 → z110 = z38 * z67 → z111 = z51 * z68 → z112 = z52 * z68 → z113 = z109 + z111 → z114 = z110 + z112 → z115 = z113 + z22 → z116 = z114 + z23 → (¬ (z0 = 0 ∧ z1 = 0)) → (¬ (z3 = 0 ∧ z4 = 0)) → (¬ (z115 = 0 ∧ z116 = 0)) → (z115 = 0) → ¬ (z116 = 0) := by
 intro e6 e7 e8 e9 e10 e11 e12 e13 e14 e15 e16 e17 e18 e19 e20 e21 e22 e23 e24 e25 e26 e27 e28 e29 e30 e31 e32 e33 e34 e35 e36 e37 e38 e39 e40 e41 e42 e43 e44 e45 e46 e47 e48 e49 e50 e51 e52 e53 e54 e55 e56 e57 e58 e59 e60 e61 e62 e63 e64 e65 e66 e67 e68 e109 e110 e111 e112 e113 e114 e115 e116 u0 u1 u3 u4
 rw [u4] at e115
 have n16 : z16 ≠ 0 := by (have hp := sq_pos (x := z3) (y := z4) (by grind)); grind
 have n62 : z62 ≠ 0 := by (have hp := sq_pos (x := z0) (y := z1) (by grind)); grind
 subst_vars; grind
theorem moveTwoMirrors_f21 {z0 z1 z2 z3 z4 z5 z6 z7 z8 z9 z10 z11 z12 z13 z14 z15 z16 z17 z18 z19 z20 z21 z22 z23 z24 z25 z26 z27 z28 z29 z30 z31 z32 z33 z34 z35 z36 z37 z38 z39 z40 z41 z42 z43 z44 z45 z46 z47 z48 z49 z50 z51 z52 z53 z54 z55 z56 z57 z58 z59 z60 z61 z62 z63 z64 z65 z66 z67 z68 z69 z70 z71 z72 z73 z74 z75 z76 z77 z78 z79 z80 z81 z82 z83 z84 z85 z86 z87 z88 z89 z90 z91 z92 z93 z94 z95 z96 z97 z98 z99 z100 z101 z102 z103 z104 z105 z106 z107 z108 z109 z110 z111 z112 z113 z114 z115 z116 z131 z132 z133 z134 z135 z136 z137 : Rat} : z6 = 0 → z7 = z3 * z6 → z8 = z4 * z6 → z9 = z7 + z8 → z10 = z9 + z5 → z11 = -z10 → z12 = z3 * z11 → z13 = z4 * z11 → z14 = z3 * z3 → z15 = z4 * z4 → z16 = z14 + z15 → z17 = z12 / z16 → z18 = z13 / z16 → z19 = 2 → z20 = z17 * z19 → z21 = z18 * z19 → z22 = z6 + z20 → z23 = z6 + z21 → z24 = 1 → z25 = z3 * z24 → z26 = z25 + z8 → z27 = z26 + z5 → z28 = -z27 → z29 = z3 * z28 → z30 = z4 * z28 → z31 = z29 / z16 → z32 = z30 / z16 → z33 = z31 * z19 → z34 = z32 * z19 → z35 = z24 + z33 → z36 = z6 + z34 → z37 = z35 - z22 → z38 = z36 - z23 → z39 = z4 * z24 → z40 = z7 + z39 → z41 = z40 + z5 → z42 = -z41 → z43 = z3 * z42 → z44 = z4 * z42 → z45 = z43 / z16 → z46 = z44 / z16 → z47 = z45 * z19 → z48 = z46 * z19 → z49 = z6 + z47 → z50 = z24 + z48 → z51 = z49 - z22 → z52 = z50 - z23 → z53 = z0 * z6 → z54 = z1 * z6 → z55 = z53 + z54 → z56 = z55 + z2 → z57 = -z56 → z58 = z0 * z57 → z59 = z1 * z57 → z60 = z0 * z0 → z61 = z1 * z1 → z62 = z60 + z61 → z63 = z58 / z62 → z64 = z59 / z62 → z65 = z63 * z19 → z66 = z64 * z19 → z67 = z6 + z65 → z68 = z6 + z66 → z69 = z0 * z24 → z70 = z69 + z54 → z71 = z70 + z2 → z72 = -z71 → z73 = z0 * z72 → z74 = z1 * z72 → z75 = z73 / z62 → z76 = z74 / z62 → z77 = z75 * z19 → z78 = z76 * z19 → z79 = z24 + z77 → z80 = z6 + z78 → z81 = z79 - z67 → z82 = z80 - z68 → z83 = z1 * z24 → z84 = z53 + z83 → z85 = z84 + z2 → z86 = -z85 → z87 = z0 * z86 → z88 = z1 * z86 → z89 = z87 / z62 → z90 = z88 / z62 → z91 = z89 * z19 → z92 = z90 * z19 → z93 = z6 + z91 → z94 = z24 + z92 → z95 = z93 - z67 → z96 = z94 - z68 → z97 = z37 * z81 → z98 = z38 * z81 → z99 = z51 * z82 → z100 = z52 * z82 → z101 = z97 + z99 → z102 = z98 + z100 → z103 = z37 * z95 → z104 = z38 * z95 → z105 = z51 * z96 → z106 = z52 * z96 → z107 = z103 + z105 → z108 = z104 + z106 → z109 = z37 * z67 → z110 = z38 * z67 → z111 = z51 * z68 → z112 = z52 * z68 → z113 = z109 + z111 → z114 = z110 + z112 → z115 = z113 + z22 → z116 = z114 + z23 → z131 = z101 - z24 → z132 = z102 - z6 → z133 = z107 - z6 → z134 = z108 - z24 → z135 = z133 * z116 → z136 = z115 * z134 → z137 = z135 - z136 → (¬ (z0 = 0 ∧ z1 = 0)) → (¬ (z3 = 0 ∧ z4 = 0)) → (z131 = 0 ∧ z132 = 0) → (¬ (z115 = 0 ∧ z116 = 0)) → z137 = 0 := by
 intro e6 e7 e8 e9 e10 e11 e12 e13 e14 e15 e16 e17 e18 e19 e20 e21 e22 e23 e24 e25 e26 e27 e28 e29 e30 e31 e32 e33 e34 e35 e36 e37 e38 e39 e40 e41 e42 e43 e44 e45 e46 e47 e48 e49 e50 e51 e52 e53 e54 e55 e56 e57 e58 e59 e60 e61 e62 e63 e64 e65 e66 e67 e68 e69 e70 e71 e72 e73 e74 e75 e76 e77 e78 e79 e80 e81 e82 e83 e84 e85 e86 e87 e88 e89 e90 e91 e92 e93 e94 e95 e96 e97 e98 e99 e100 e101 e102 e103 e104 e105 e106 e107 e108 e109 e110 e111 e112 e113 e114 e115 e116 e131 e132 e133 e134 e135 e136 e137 u0 u1 u2 u3
 rw [u2.1] at e131
 rw [u2.2] at e132
 have n16 : z16 ≠ 0 := by (have hp := sq_pos (x := z3) (y := z4) (by grind)); grind
 have n62 : z62 ≠ 0 := by (have hp := sq_pos (x := z0) (y := z1) (by grind)); grind
 subst_vars; grind
theorem moveTwoMirrors_f22 {z0 z1 z2 z3 z4 z5 z6 z7 z8 z9 z10 z11 z12 z13 z14 z15 z16 z17 z18 z19 z20 z21 z22 z23 z24 z25 z26 z27 z28 z29 z30 z31 z32 z33 z34 z35 z36 z37 z38 z39 z40 z41 z42 z43 z44 z45 z46 z47 z48 z49 z50 z51 z52 z53 z54 z55 z56 z57 z58 z59 z60 z61 z62 z63 z64 z65 z66 z67 z68 z69 z70 z71 z72 z73 z74 z75 z76 z77 z78 z79 z80 z81 z82 z97 z98 z99 z100 z101 z102 z109 z110 z111 z112 z113 z114 z115 z116 z131 z132 z138 z139 z140 : Rat} : z6 = 0 → z7 = z3 * z6 → z8 = z4 * z6 → z9 = z7 + z8 → z10 = z9 + z5 → z11 = -z10 → z12 = z3 * z11 → z13 = z4 * z11 → z14 = z3 * z3 → z15 = z4 * z4 → z16 = z14 + z15 → z17 = z12 / z16 → z18 = z13 / z16 → z19 = 2 → z20 = z17 * z19 → z21 = z18 * z19 → z22 = z6 + z20 → z23 = z6 + z21 → z24 = 1 → z25 = z3 * z24 → z26 = z25 + z8 → z27 = z26 + z5 → z28 = -z27 → z29 = z3 * z28 → z30 = z4 * z28 → z31 = z29 / z16 → z32 = z30 / z16 → z33 = z31 * z19 → z34 = z32 * z19 → z35 = z24 + z33 → z36 = z6 + z34 → z37 = z35 - z22 → z38 = z36 - z23 → z39 = z4 * z24 → z40 = z7 + z39 → z41 = z40 + z5 → z42 = -z41 → z43 = z3 * z42 → z44 = z4 * z42 → z45 = z43 / z16 → z46 = z44 / z16 → z47 = z45 * z19 → z48 = z46 * z19 → z49 = z6 + z47 → z50 = z24 + z48 → z51 = z49 - z22 → z52 = z50 - z23 → z53 = z0 * z6 → z54 = z1 * z6 → z55 = z53 + z54 → z56 = z55 + z2 → z57 = -z56 → z58 = z0 * z57 → z59 = z1 * z57 → z60 = z0 * z0 → z61 = z1 * z1 → z62 = z60 + z61 → z63 = z58 / z62 → z64 = z59 / z62 → z65 = z63 * z19 → z66 = z64 * z19 → z67 = z6 + z65 → z68 = z6 + z66 → z69 = z0 * z24 → z70 = z69 + z54 → z71 = z70 + z2 → z72 = -z71 → z73 = z0 * z72 → z74 = z1 * z72 → z75 = z73 / z62 → z76 = z74 / z62 → z77 = z75 * z19 → z78 = z76 * z19 → z79 = z24 + z77 → z80 = z6 + z78 → z81 = z79 - z67 → z82 = z80 - z68 → z97 = z37 * z81 → z98 = z38 * z81 → z99 = z51 * z82 → z100 = z52 * z82 → z101 = z97 + z99 → z102 = z98 + z100 → z109 = z37 * z67 → z110 = z38 * z67 → z111 = z51 * z68 → z112 = z52 * z68 → z113 = z109 + z111 → z114 = z110 + z112 → z115 = z113 + z22 → z116 = z114 + z23 → z131 = z101 - z24 → z132 = z102 - z6 → z138 = z115 * z132 → z139 = z131 * z116 → z140 = z138 - z139 → (¬ (z0 = 0 ∧ z1 = 0)) → (¬ (z3 = 0 ∧ z4 = 0)) → (z131 = 0 ∧ z132 = 0) → (¬ (z115 = 0 ∧ z116 = 0)) → z140 = 0 := by
 intro e6 e7 e8 e9 e10 e11 e12 e13 e14 e15 e16 e17 e18 e19 e20 e21 e22 e23 e24 e25 e26 e27 e28 e29 e30 e31 e32 e33 e34 e35 e36 e37 e38 e39 e40 e41 e42 e43 e44 e45 e46 e47 e48 e49 e50 e51 e52 e53 e54 e55 e56 e57 e58 e59 e60 e61 e62 e63 e64 e65 e66 e67 e68 e69 e70 e71 e72 e73 e74 e75 e76 e77 e78 e79 e80 e81 e82 e97 e98 e99 e100 e101 e102 e109 e110 e111 e112 e113 e114 e115 e116 e131 e132 e138 e139 e140 u0 u1 u2 u3
 rw [u2.1] at e131
 rw [u2.2] at e132
 have n16 : z16 ≠ 0 := by (have hp := sq_pos (x := z3) (y := z4) (by grind)); grind
 have n62 : z62 ≠ 0 := by (have hp := sq_pos (x := z0) (y := z1) (by grind)); grind
 subst_vars; grind
theorem moveTwoMirrors_f23 {z0 z1 z2 z3 z4 z5 z6 z7 z8 z9 z10 z11 z12 z13 z14 z15 z16 z17 z18 z19 z20 z21 z22 z23 z24 z25 z26 z27 z28 z29 z30 z31 z32 z33 z34 z35 z36 z37 z38 z39 z40 z41 z42 z43 z44 z45 z46 z47 z48 z49 z50 z51 z52 z53 z54 z55 z56 z57 z58 z59 z60 z61 z62 z63 z64 z65 z66 z67 z68 z69 z70 z71 z72 z73 z74 z75 z76 z77 z78 z79 z80 z81 z82 z97 z98 z99 z100 z101 z102 z109 z110 z111 z112 z113 z114 z115 z116 z131 z132 z144 z145 z146 : Rat} : z6 = 0 → z7 = z3 * z6 → z8 = z4 * z6 → z9 = z7 + z8 → z10 = z9 + z5 → z11 = -z10 → z12 = z3 * z11 → z13 = z4 * z11 → z14 = z3 * z3 → z15 = z4 * z4 → z16 = z14 + z15 → z17 = z12 / z16 → z18 = z13 / z16 → z19 = 2 → z20 = z17 * z19 → z21 = z18 * z19 → z22 = z6 + z20 → z23 = z6 + z21 → z24 = 1 → z25 = z3 * z24 → z26 = z25 + z8 → z27 = z26 + z5 → z28 = -z27 → z29 = z3 * z28 → z30 = z4 * z28 → z31 = z29 / z16 → z32 = z30 / z16 → z33 = z31 * z19 → z34 = z32 * z19 → z35 = z24 + z33 → z36 = z6 + z34 → z37 = z35 - z22 → z38 = z36 - z23 → z39 = z4 * z24 → z40 = z7 + z39 → z41 = z40 + z5 → z42 = -z41 → z43 = z3 * z42 → z44 = z4 * z42 → z45 = z43 / z16 → z46 = z44 / z16 → z47 = z45 * z19 → z48 = z46 * z19 → z49 = z6 + z47 → z50 = z24 + z48 → z51 = z49 - z22 → z52 = z50 - z23 → z53 = z0 * z6 → z54 = z1 * z6 → z55 = z53 + z54 → z56 = z55 + z2 → z57 = -z56 → z58 = z0 * z57 → z59 = z1 * z57 → z60 = z0 * z0 → z61 = z1 * z1 → z62 = z60 + z61 → z63 = z58 / z62 → z64 = z59 / z62 → z65 = z63 * z19 → z66 = z64 * z19 → z67 = z6 + z65 → z68 = z6 + z66 → z69 = z0 * z24 → z70 = z69 + z54 → z71 = z70 + z2 → z72 = -z71 → z73 = z0 * z72 → z74 = z1 * z72 → z75 = z73 / z62 → z76 = z74 / z62 → z77 = z75 * z19 → z78 = z76 * z19 → z79 = z24 + z77 → z80 = z6 + z78 → z81 = z79 - z67 → z82 = z80 - z68 → z97 = z37 * z81 → z98 = z38 * z81 → z99 = z51 * z82 → z100 = z52 * z82 → z101 = z97 + z99 → z102 = z98 + z100 → z109 = z37 * z67 → z110 = z38 * z67 → z111 = z51 * z68 → z112 = z52 * z68 → z113 = z109 + z111 → z114 = z110 + z112 → z115 = z113 + z22 → z116 = z114 + z23 → z131 = z101 - z24 → z132 = z102 - z6 → z144 = z0 * z4 → z145 = z1 * z3 → z146 = z144 - z145 → (¬ (z0 = 0 ∧ z1 = 0)) → (¬ (z3 = 0 ∧ z4 = 0)) → (z131 = 0 ∧ z132 = 0) → (¬ (z115 = 0 ∧ z116 = 0)) → z146 = 0 := by
 intro e6 e7 e8 e9 e10 e11 e12 e13 e14 e15 e16 e17 e18 e19 e20 e21 e22 e23 e24 e25 e26 e27 e28 e29 e30 e31 e32 e33 e34 e35 e36 e37 e38 e39 e40 e41 e42 e43 e44 e45 e46 e47 e48 e49 e50 e51 e52 e53 e54 e55 e56 e57 e58 e59 e60 e61 e62 e63 e64 e65 e66 e67 e68 e69 e70 e71 e72 e73 e74 e75 e76 e77 e78 e79 e80 e81 e82 e97 e98 e99 e100 e101 e102 e109 e110 e111 e112 e113 e114 e115 e116 e131 e132 e144 e145 e146 u0 u1 u2 u3
 rw [u2.1] at e131
 rw [u2.2] at e132
 have n16 : z16 ≠ 0 := by (have hp := sq_pos (x := z3) (y := z4) (by grind)); grind
 have n62 : z62 ≠ 0 := by (have hp := sq_pos (x := z0) (y := z1) (by grind)); grind
 subst_vars; grind
theorem moveTwoMirrors_f24 {z0 z1 z2 z3 z4 z5 z6 z7 z8 z9 z10 z11 z12 z13 z14 z15 z16 z17 z18 z19 z20 z21 z22 z23 z24 z25 z26 z27 z28 z29 z30 z31 z32 z33 z34 z35 z36 z37 z38 z39 z40 z41 z42 z43 z44 z45 z46 z47 z48 z49 z50 z51 z52 z53 z54 z55 z56 z57 z58 z59 z60 z61 z62 z63 z64 z65 z66 z67 z68 z109 z110 z111 z112 z113 z114 z115 z116 z147 z148 z149 z150 z151 z152 : Rat} : z6 = 0 → z7 = z3 * z6 → z8 = z4 * z6 → z9 = z7 + z8 → z10 = z9 + z5 → z11 = -z10 → z12 = z3 * z11 → z13 = z4 * z11 → z14 = z3 * z3 → z15 = z4 * z4 → z16 = z14 + z15 → z17 = z12 / z16 → z18 = z13 / z16 → z19 = 2 → z20 = z17 * z19 → z21 = z18 * z19 → z22 = z6 + z20 → z23 = z6 + z21 → z24 = 1 → z25 = z3 * z24 → z26 = z25 + z8 → z27 = z26 + z5 → z28 = -z27 → z29 = z3 * z28 → z30 = z4 * z28 → z31 = z29 / z16 → z32 = z30 / z16 → z33 = z31 * z19 → z34 = z32 * z19 → z35 = z24 + z33 → z36 = z6 + z34 → z37 = z35 - z22 → z38 = z36 - z23 → z39 = z4 * z24 → z40 = z7 + z39 → z41 = z40 + z5 → z42 = -z41 → z43 = z3 * z42 → z44 = z4 * z42 → z45 = z43 / z16 → z46 = z44 / z16 → z47 = z45 * z19 → z48 = z46 * z19 → z49 = z6 + z47 → z50 = z24 + z48 → z51 = z49 - z22 → z52 = z50 - z23 → z53 = z0 * z6 → z54 = z1 * z6 → z55 = z53 + z54 → z56 = z55 + z2 → z57 = -z56 → z58 = z0 * z57 → z59 = z1 * z57 → z60 = z0 * z0 → z61 = z1 * z1 → z62 = z60 + z61 → z63 = z58 / z62 → z64 = z59 / z62 → z65 = z63 * z19 → z66 = z64 * z19 → z67 = z6 + z65 → z68 = z6 + z66 → z109 = z37 * z67 → z110 = z38 * z67 → z111 = z51 * z68 → z112 = z52 * z68 → z113 = z109 + z111 → z114 = z110 + z112 → z115 = z113 + z22 → z116 = z114 + z23 → z147 = z3 * z2 → z148 = z4 * z2 → z149 = z0 * z5 → z150 = z1 * z5 → z151 = z147 - z149 → z152 = z148 - z150 → (¬ (z0 = 0 ∧ z1 = 0)) → (¬ (z3 = 0 ∧ z4 = 0)) → (¬ (z115 = 0 ∧ z116 = 0)) → ¬ (z151 = 0 ∧ z152 = 0) := by
 intro e6 e7 e8 e9 e10 e11 e12 e13 e14 e15 e16 e17 e18 e19 e20 e21 e22 e23 e24 e25 e26 e27 e28 e29 e30 e31 e32 e33 e34 e35 e36 e37 e38 e39 e40 e41 e42 e43 e44 e45 e46 e47 e48 e49 e50 e51 e52 e53 e54 e55 e56 e57 e58 e59 e60 e61 e62 e63 e64 e65 e66 e67 e68 e109 e110 e111 e112 e113 e114 e115 e116 e147 e148 e149 e150 e151 e152 u0 u1 u3
 have n16 : z16 ≠ 0 := by (have hp := sq_pos (x := z3) (y := z4) (by grind)); grind
 have n62 : z62 ≠ 0 := by (have hp := sq_pos (x := z0) (y := z1) (by grind)); grind
 subst_vars; grind
theorem moveTwoMirrors_f25 {z0 z1 z2 z3 z4 z5 z6 z7 z8 z9 z10 z11 z12 z13 z14 z15 z16 z17 z18 z19 z20 z21 z22 z23 z24 z25 z26 z27 z28 z29 z30 z31 z32 z33 z34 z35 z36 z37 z38 z39 z40 z41 z42 z43 z44 z45 z46 z47 z48 z49 z50 z51 z52 z53 z54 z55 z56 z57 z58 z59 z60 z61 z62 z63 z64 z65 z66 z67 z68 z69 z70 z71 z72 z73 z74 z75 z76 z77 z78 z79 z80 z81 z82 z97 z98 z99 z100 z101 z102 z131 z132 : Rat} : z6 = 0 → z7 = z3 * z6 → z8 = z4 * z6 → z9 = z7 + z8 → z10 = z9 + z5 → z11 = -z10 → z12 = z3 * z11 → z13 = z4 * z11 → z14 = z3 * z3 → z15 = z4 * z4 → z16 = z14 + z15 → z17 = z12 / z16 → z18 = z13 / z16 → z19 = 2 → z20 = z17 * z19 → z21 = z18 * z19 → z22 = z6 + z20 → z23 = z6 + z21 → z24 = 1 → z25 = z3 * z24 → z26 = z25 + z8 → z27 = z26 + z5 → z28 = -z27 → z29 = z3 * z28 → z30 = z4 * z28 → z31 = z29 / z16 → z32 = z30 / z16 → z33 = z31 * z19 → z34 = z32 * z19 → z35 = z24 + z33 → z36 = z6 + z34 → z37 = z35 - z22 → z38 = z36 - z23 → z39 = z4 * z24 → z40 = z7 + z39 → z41 = z40 + z5 → z42 = -z41 → z43 = z3 * z42 → z44 = z4 * z42 → z45 = z43 / z16 → z46 = z44 / z16 → z47 = z45 * z19 → z48 = z46 * z19 → z49 = z6 + z47 → z50 = z24 + z48 → z51 = z49 - z22 → z52 = z50 - z23 → z53 = z0 * z6 → z54 = z1 * z6 → z55 = z53 + z54 → z56 = z55 + z2 → z57 = -z56 → z58 = z0 * z57 → z59 = z1 * z57 → z60 = z0 * z0 → z61 = z1 * z1 → z62 = z60 + z61 → z63 = z58 / z62 → z64 = z59 / z62 → z65 = z63 * z19 → z66 = z64 * z19 → z67 = z6 + z65 → z68 = z6 + z66 → z69 = z0 * z24 → z70 = z69 + z54 → z71 = z70 + z2 → z72 = -z71 → z73 = z0 * z72 → z74 = z1 * z72 → z75 = z73 / z62 → z76 = z74 / z62 → z77 = z75 * z19 → z78 = z76 * z19 → z79 = z24 + z77 → z80 = z6 + z78 → z81 = z79 - z67 → z82 = z80 - z68 → z97 = z37 * z81 → z98 = z38 * z81 → z99 = z51 * z82 → z100 = z52 * z82 → z101 = z97 + z99 → z102 = z98 + z100 → z131 = z101 - z24 → z132 = z102 - z6 → (¬ (z0 = 0 ∧ z1 = 0)) → (¬ (z3 = 0 ∧ z4 = 0)) → (¬ (z131 = 0 ∧ z132 = 0)) → ¬ (z131 = 0) := by
 intro e6 e7 e8 e9 e10 e11 e12 e13 e14 e15 e16 e17 e18 e19 e20 e21 e22 e23 e24 e25 e26 e27 e28 e29 e30 e31 e32 e33 e34 e35 e36 e37 e38 e39 e40 e41 e42 e43 e44 e45 e46 e47 e48 e49 e50 e51 e52 e53 e54 e55 e56 e57 e58 e59 e60 e61 e62 e63 e64 e65 e66 e67 e68 e69 e70 e71 e72 e73 e74 e75 e76 e77 e78 e79 e80 e81 e82 e97 e98 e99 e100 e101 e102 e131 e132 u0 u1 u2
 have n16 : z16 ≠ 0 := by (have hp := sq_pos (x := z3) (y := z4) (by grind)); grind
 have n62 : z62 ≠ 0 := by (have hp := sq_pos (x := z0) (y := z1) (by grind)); grind
 subst_vars; grind
theorem moveTwoMirrors_f26 {z0 z1 z2 z3 z4 z5 z6 z7 z8 z9 z10 z11 z12 z13 z14 z15 z16 z17 z18 z19 z20 z21 z22 z23 z24 z25 z26 z27 z28 z29 z30 z31 z32 z33 z34 z35 z36 z37 z38 z39 z40 z41 z42 z43 z44 z45 z46 z47 z48 z49 z50 z51 z52 z53 z54 z55 z56 z57 z58 z59 z60 z61 z62 z63 z64 z65 z66 z67 z68 z69 z70 z71 z72 z73 z74 z75 z76 z77 z78 z79 z80 z81 z82 z83 z84 z85 z86 z87 z88 z89 z90 z91 z92 z93 z94 z95 z96 z97 z98 z99 z100 z101 z102 z103 z104 z105 z106 z107 z108 z131 z132 z133 z134 z141 z142 z143 : Rat} : z6 = 0 → z7 = z3 * z6 → z8 = z4 * z6 → z9 = z7 + z8 → z10 = z9 + z5 → z11 = -z10 → z12 = z3 * z11 → z13 = z4 * z11 → z14 = z3 * z3 → z15 = z4 * z4 → z16 = z14 + z15 → z17 = z12 / z16 → z18 = z13 / z16 → z19 = 2 → z20 = z17 * z19 → z21 = z18 * z19 → z22 = z6 + z20 → z23 = z6 + z21 → z24 = 1 → z25 = z3 * z24 → z26 = z25 + z8 → z27 = z26 + z5 → z28 = -z27 → z29 = z3 * z28 → z30 = z4 * z28 → z31 = z29 / z16 → z32 = z30 / z16 → z33 = z31 * z19 → z34 = z32 * z19 → z35 = z24 + z33 → z36 = z6 + z34 → z37 = z35 - z22 → z38 = z36 - z23 → z39 = z4 * z24 → z40 = z7 + z39 → z41 = z40 + z5 → z42 = -z41 → z43 = z3 * z42 → z44 = z4 * z42 → z45 = z43 / z16 → z46 = z44 / z16 → z47 = z45 * z19 → z48 = z46 * z19 → z49 = z6 + z47 → z50 = z24 + z48 → z51 = z49 - z22 → z52 = z50 - z23 → z53 = z0 * z6 → z54 = z1 * z6 → z55 = z53 + z54 → z56 = z55 + z2 → z57 = -z56 → z58 = z0 * z57 → z59 = z1 * z57 → z60 = z0 * z0 → z61 = z1 * z1 → z62 = z60 + z61 → z63 = z58 / z62 → z64 = z59 / z62 → z65 = z63 * z19 → z66 = z64 * z19 → z67 = z6 + z65 → z68 = z6 + z66 → z69 = z0 * z24 → z70 = z69 + z54 → z71 = z70 + z2 → z72 = -z71 → z73 = z0 * z72 → z74 = z1 * z72 → z75 = z73 / z62 → z76 = z74 / z62 → z77 = z75 * z19 → z78 = z76 * z19 → z79 = z24 + z77 → z80 = z6 + z78 → z81 = z79 - z67 → z82 = z80 - z68 → z83 = z1 * z24 → z84 = z53 + z83 → z85 = z84 + z2 → z86 = -z85 → z87 = z0 * z86 → z88 = z1 * z86 → z89 = z87 / z62 → z90 = z88 / z62 → z91 = z89 * z19 → z92 = z90 * z19 → z93 = z6 + z91 → z94 = z24 + z92 → z95 = z93 - z67 → z96 = z94 - z68 → z97 = z37 * z81 → z98 = z38 * z81 → z99 = z51 * z82 → z100 = z52 * z82 → z101 = z97 + z99 → z102 = z98 + z100 → z103 = z37 * z95 → z104 = z38 * z95 → z105 = z51 * z96 → z106 = z52 * z96 → z107 = z103 + z105 → z108 = z104 + z106 → z131 = z101 - z24 → z132 = z102 - z6 → z133 = z107 - z6 → z134 = z108 - z24 → z141 = z131 * z134 → z142 = z133 * z132 → z143 = z141 - z142 → (¬ (z0 = 0 ∧ z1 = 0)) → (¬ (z3 = 0 ∧ z4 = 0)) → (¬ (z131 = 0 ∧ z132 = 0)) → ¬ (z143 = 0) := by
 intro e6 e7 e8 e9 e10 e11 e12 e13 e14 e15 e16 e17 e18 e19 e20 e21 e22 e23 e24 e25 e26 e27 e28 e29 e30 e31 e32 e33 e34 e35 e36 e37 e38 e39 e40 e41 e42 e43 e44 e45 e46 e47 e48 e49 e50 e51 e52 e53 e54 e55 e56 e57 e58 e59 e60 e61 e62 e63 e64 e65 e66 e67 e68 e69 e70 e71 e72 e73 e74 e75 e76 e77 e78 e79 e80 e81 e82 e83 e84 e85 e86 e87 e88 e89 e90 e91 e92 e93 e94 e95 e96 e97 e98 e99 e100 e101 e102 e103 e104 e105 e106 e107 e108 e131 e132 e133 e134 e141 e142 e143 u0 u1 u2
 have n16 : z16 ≠ 0 := by (have hp := sq_pos (x := z3) (y := z4) (by grind)); grind
 have n62 : z62 ≠ 0 := by (have hp := sq_pos (x := z0) (y := z1) (by grind)); grind
 subst_vars; grind
theorem moveTwoMirrors_f27 {z0 z1 z2 z3 z4 z5 z6 z7 z8 z9 z10 z11 z12 z13 z14 z15 z16 z17 z18 z19 z20 z21 z22 z23 z24 z25 z26 z27 z28 z29 z30 z31 z32 z33 z34 z35 z36 z37 z38 z39 z40 z41 z42 z43 z44 z45 z46 z47 z48 z49 z50 z51 z52 z53 z54 z55 z56 z57 z58 z59 z60 z61 z62 z63 z64 z65 z66 z67 z68 z69 z70 z71 z72 z73 z74 z75 z76 z77 z78 z79 z80 z81 z82 z97 z98 z99 z100 z101 z102 z131 z132 z144 z145 z146 : Rat} : z6 = 0 → z7 = z3 * z6 → z8 = z4 * z6 → z9 = z7 + z8 → z10 = z9 + z5 → z11 = -z10 → z12 = z3 * z11 → z13 = z4 * z11 → z14 = z3 * z3 → z15 = z4 * z4 → z16 = z14 + z15 → z17 = z12 / z16 → z18 = z13 / z16 → z19 = 2 → z20 = z17 * z19 → z21 = z18 * z19 → z22 = z6 + z20 → z23 = z6 + z21 → z24 = 1 → z25 = z3 * z24 → z26 = z25 + z8 → z27 = z26 + z5 → z28 = -z27 → z29 = z3 * z28 → z30 = z4 * z28 → z31 = z29 / z16 → z32 = z30 / z16 → z33 = z31 * z19 → z34 = z32 * z19 → z35 = z24 + z33 → z36 = z6 + z34 → z37 = z35 - z22 → z38 = z36 - z23 → z39 = z4 * z24 → z40 = z7 + z39 → z41 = z40 + z5 → z42 = -z41 → z43 = z3 * z42 → z44 = z4 * z42 → z45 = z43 / z16 → z46 = z44 / z16 → z47 = z45 * z19 → z48 = z46 * z19 → z49 = z6 + z47 → z50 = z24 + z48 → z51 = z49 - z22 → z52 = z50 - z23 → z53 = z0 * z6 → z54 = z1 * z6 → z55 = z53 + z54 → z56 = z55 + z2 → z57 = -z56 → z58 = z0 * z57 → z59 = z1 * z57 → z60 = z0 * z0 → z61 = z1 * z1 → z62 = z60 + z61 → z63 = z58 / z62 → z64 = z59 / z62 → z65 = z63 * z19 → z66 = z64 * z19 → z67 = z6 + z65 → z68 = z6 + z66 → z69 = z0 * z24 → z70 = z69 + z54 → z71 = z70 + z2 → z72 = -z71 → z73 = z0 * z72 → z74 = z1 * z72 → z75 = z73 / z62 → z76 = z74 / z62 → z77 = z75 * z19 → z78 = z76 * z19 → z79 = z24 + z77 → z80 = z6 + z78 → z81 = z79 - z67 → z82 = z80 - z68 → z97 = z37 * z81 → z98 = z38 * z81 → z99 = z51 * z82 → z100 = z52 * z82 → z101 = z97 + z99 → z102 = z98 + z100 → z131 = z101 - z24 → z132 = z102 - z6 → z144 = z0 * z4 → z145 = z1 * z3 → z146 = z144 - z145 → (¬ (z0 = 0 ∧ z1 = 0)) → (¬ (z3 = 0 ∧ z4 = 0)) → (¬ (z131 = 0 ∧ z132 = 0)) → ¬ (z146 = 0) := by
 intro e6 e7 e8 e9 e10 e11 e12 e13 e14 e15 e16 e17 e18 e19 e20 e21 e22 e23 e24 e25 e26 e27 e28 e29 e30 e31 e32 e33 e34 e35 e36 e37 e38 e39 e40 e41 e42 e43 e44 e45 e46 e47 e48 e49 e50 e51 e52 e53 e54 e55 e56 e57 e58 e59 e60 e61 e62 e63 e64 e65 e66 e67 e68 e69 e70 e71 e72 e73 e74 e75 e76 e77 e78 e79 e80 e81 e82 e97 e98 e99 e100 e101 e102 e131 e132 e144 e145 e146 u0 u1 u2
 have n16 : z16 ≠ 0 := by (have hp := sq_pos (x := z3) (y := z4) (by grind)); grind
 have n62 : z62 ≠ 0 := by (have hp := sq_pos (x := z0) (y := z1) (by grind)); grind
 subst_vars; grind
theorem moveTwoMirrors_f28 {z0 z1 z2 z3 z4 z5 z6 z7 z8 z9 z10 z11 z12 z13 z14 z15 z16 z17 z18 z19 z20 z21 z22 z23 z24 z25 z26 z27 z28 z29 z30 z31 z32 z33 z34 z35 z36 z37 z38 z39 z40 z41 z42 z43 z44 z45 z46 z47 z48 z49 z50 z51 z52 z53 z54 z55 z56 z57 z58 z59 z60 z61 z62 z63 z64 z65 z66 z67 z68 z69 z70 z71 z72 z73 z74 z75 z76 z77 z78 z79 z80 z81 z82 z83 z84 z85 z86 z87 z88 z89 z90 z91 z92 z93 z94 z95 z96 z97 z98 z99 z100 z101 z102 z103 z104 z105 z106 z107 z108 z109 z110 z111 z112 z113 z114 z115 z116 z131 z132 z133 z134 z135 z136 z137 z141 z142 z143 z144 z145 z146 z148 z150 z152 z153 z155 z156 : Rat} : z6 = 0 → z7 = z3 * z6 → z8 = z4 * z6 → z9 = z7 + z8 → z10 = z9 + z5 → z11 = -z10 → z12 = z3 * z11 → z13 = z4 * z11 → z14 = z3 * z3 → z15 = z4 * z4 → z16 = z14 + z15 → z17 = z12 / z16 → z18 = z13 / z16 → z19 = 2 → z20 = z17 * z19 → z21 = z18 * z19 → z22 = z6 + z20 → z23 = z6 + z21 → z24 = 1 → z25 = z3 * z24 → z26 = z25 + z8 → z27 = z26 + z5 → z28 = -z27 → z29 = z3 * z28 → z30 = z4 * z28 → z31 = z29 / z16 → z32 = z30 / z16 → z33 = z31 * z19 → z34 = z32 * z19 → z35 = z24 + z33 → z36 = z6 + z34 → z37 = z35 - z22 → z38 = z36 - z23 → z39 = z4 * z24 → z40 = z7 + z39 → z41 = z40 + z5 → z42 = -z41 → z43 = z3 * z42 → z44 = z4 * z42 → z45 = z43 / z16 → z46 = z44 / z16 → z47 = z45 * z19 → z48 = z46 * z19 → z49 = z6 + z47 → z50 = z24 + z48 → z51 = z49 - z22 → z52 = z50 - z23 → z53 = z0 * z6 → z54 = z1 * z6 → z55 = z53 + z54 → z56 = z55 + z2 → z57 = -z56 → z58 = z0 * z57 → z59 = z1 * z57 → z60 = z0 * z0 → z61 = z1 * z1 → z62 = z60 + z61 → z63 = z58 / z62 → z64 = z59 / z62 → z65 = z63 * z19 → z66 = z64 * z19 → z67 = z6 + z65 → z68 = z6 + z66 → z69 = z0 * z24 → z70 = z69 + z54 → z71 = z70 + z2 → z72 = -z71 → z73 = z0 * z72 → z74 = z1 * z72 → z75 = z73 / z62 → z76 = z74 / z62 → z77 = z75 * z19 → z78 = z76 * z19 → z79 = z24 + z77 → z80 = z6 + z78 → z81 = z79 - z67 → z82 = z80 - z68 → z83 = z1 * z24 → z84 = z53 + z83 → z85 = z84 + z2 → z86 = -z85 → z87 = z0 * z86 → z88 = z1 * z86 → z89 = z87 / z62 → z90 = z88 / z62 → z91 = z89 * z19 → z92 = z90 * z19 → z93 = z6 + z91 → z94 = z24 + z92 → z95 = z93 - z67 → z96 = z94 - z68 → z97 = z37 * z81 → z98 = z38 * z81 → z99 = z51 * z82 → z100 = z52 * z82 → z101 = z97 + z99 → z102 = z98 + z100 → z103 = z37 * z95 → z104 = z38 * z95 → z105 = z51 * z96 → z106 = z52 * z96 → z107 = z103 + z105 → z108 = z104 + z106 → z109 = z37 * z67 → z110 = z38 * z67 → z111 = z51 * z68 → z112 = z52 * z68 → z113 = z109 + z111 → z114 = z110 + z112 → z115 = z113 + z22 → z116 = z114 + z23 → z131 = z101 - z24 → z132 = z102 - z6 → z133 = z107 - z6 → z134 = z108 - z24 → z135 = z133 * z116 → z136 = z115 * z134 → z137 = z135 - z136 → z141 = z131 * z134 → z142 = z133 * z132 → z143 = z141 - z142 → z144 = z0 * z4 → z145 = z1 * z3 → z146 = z144 - z145 → z148 = z4 * z2 → z150 = z1 * z5 → z152 = z148 - z150 → z153 = z137 / z143 → z155 = -z152 → z156 = z155 / z146 → (¬ (z0 = 0 ∧ z1 = 0)) → (¬ (z3 = 0 ∧ z4 = 0)) → (¬ (z131 = 0 ∧ z132 = 0)) → z153 = z156 := by
 intro e6 e7 e8 e9 e10 e11 e12 e13 e14 e15 e16 e17 e18 e19 e20 e21 e22 e23 e24 e25 e26 e27 e28 e29 e30 e31 e32 e33 e34 e35 e36 e37 e38 e39 e40 e41 e42 e43 e44 e45 e46 e47 e48 e49 e50 e51 e52 e53 e54 e55 e56 e57 e58 e59 e60 e61 e62 e63 e64 e65 e66 e67 e68 e69 e70 e71 e72 e73 e74 e75 e76 e77 e78 e79 e80 e81 e82 e83 e84 e85 e86 e87 e88 e89 e90 e91 e92 e93 e94 e95 e96 e97 e98 e99 e100 e101 e102 e103 e104 e105 e106 e107 e108 e109 e110 e111 e112 e113 e114 e115 e116 e131 e132 e133 e134 e135 e136 e137 e141 e142 e143 e144 e145 e146 e148 e150 e152 e153 e155 e156 u0 u1 u2
 have n16 : z16 ≠ 0 := by
  have hp := sq_pos u1
  rw [← e14, ← e15, ← e16] at hp
  intro h
  rw [h] at hp
  exact absurd hp (by decide)
 obtain ⟨i, hi0⟩ : ∃ i, i * z16 = 2 := ⟨2 / z16, Rat.div_mul_cancel n16⟩
 have hi : i * (z3 * z3 + z4 * z4) = 2 := by rw [← e14, ← e15, ← e16]; exact hi0
 have q20 : z20 = z12 * i := by rw [e20, e17, e19]; exact mr_q n16 hi0
 have q21 : z21 = z13 * i := by rw [e21, e18, e19]; exact mr_q n16 hi0
 have q33 : z33 = z29 * i := by rw [e33, e31, e19]; exact mr_q n16 hi0
 have q34 : z34 = z30 * i := by rw [e34, e32, e19]; exact mr_q n16 hi0
 have q47 : z47 = z43 * i := by rw [e47, e45, e19]; exact mr_q n16 hi0
 have q48 : z48 = z44 * i := by rw [e48, e46, e19]; exact mr_q n16 hi0
 have r37 : z37 = 1 - z3 * z3 * i := by
  rw [e37, e35, q33, e29, e28, e27, e26, e25, e24, e22, q20, e12, e11, e10, e9, e8, e7, e6]
  clear hi hi0; grind
 have r38 : z38 = -(z3 * z4 * i) := by
  rw [e38, e36, q34, e30, e28, e27, e26, e25, e24, e23, q21, e13, e11, e10, e9, e8, e7, e6]
  clear hi hi0; grind
 have r51 : z51 = -(z3 * z4 * i) := by
  rw [e51, e49, q47, e43, e42, e41, e40, e39, e24, e22, q20, e12, e11, e10, e9, e8, e7, e6]
  clear hi hi0; grind
 have r52 : z52 = 1 - z4 * z4 * i := by
  rw [e52, e50, q48, e44, e42, e41, e40, e39, e24, e23, q21, e13, e11, e10, e9, e8, e7, e6]
  clear hi hi0; grind
 have r22 : z22 = -(z3 * z5 * i) := by
  rw [e22, q20, e12, e11, e10, e9, e8, e7, e6]
  clear hi hi0; grind
 have r23 : z23 = -(z4 * z5 * i) := by
  rw [e23, q21, e13, e11, e10, e9, e8, e7, e6]
  clear hi hi0; grind
 have n62 : z62 ≠ 0 := by
  have hp := sq_pos u0
  rw [← e60, ← e61, ← e62] at hp
  intro h
  rw [h] at hp
  exact absurd hp (by decide)
 obtain ⟨j, hj0⟩ : ∃ i, i * z62 = 2 := ⟨2 / z62, Rat.div_mul_cancel n62⟩
 have hj : j * (z0 * z0 + z1 * z1) = 2 := by rw [← e60, ← e61, ← e62]; exact hj0
 have q65 : z65 = z58 * j := by rw [e65, e63, e19]; exact mr_q n62 hj0
 have q66 : z66 = z59 * j := by rw [e66, e64, e19]; exact mr_q n62 hj0
 have q77 : z77 = z73 * j := by rw [e77, e75, e19]; exact mr_q n62 hj0
 have q78 : z78 = z74 * j := by rw [e78, e76, e19]; exact mr_q n62 hj0
 have q91 : z91 = z87 * j := by rw [e91, e89, e19]; exact mr_q n62 hj0
 have q92 : z92 = z88 * j := by rw [e92, e90, e19]; exact mr_q n62 hj0
 have r81 : z81 = 1 - z0 * z0 * j := by
  rw [e81, e79, q77, e73, e72, e71, e70, e69, e67, q65, e58, e57, e56, e55, e54, e53, e24, e6]
  clear hj hj0; grind
 have r82 : z82 = -(z0 * z1 * j) := by
  rw [e82, e80, q78, e74, e72, e71, e70, e69, e68, q66, e59, e57, e56, e55, e54, e53, e24, e6]
  clear hj hj0; grind
 have r95 : z95 = -(z0 * z1 * j) := by
  rw [e95, e93, q91, e87, e86, e85, e84, e83, e67, q65, e58, e57, e56, e55, e54, e53, e24, e6]
  clear hj hj0; grind
 have r96 : z96 = 1 - z1 * z1 * j := by
  rw [e96, e94, q92, e88, e86, e85, e84, e83, e68, q66, e59, e57, e56, e55, e54, e53, e24, e6]
  clear hj hj0; grind
 have r67 : z67 = -(z0 * z2 * j) := by
  rw [e67, q65, e58, e57, e56, e55, e54, e53, e6]
  clear hj hj0; grind
 have r68 : z68 = -(z1 * z2 * j) := by
  rw [e68, q66, e59, e57, e56, e55, e54, e53, e6]
  clear hj hj0; grind
 have ⟨p1, p2⟩ := mt_pq hi hj r37 r38 r51 r52 r81 r82 (P := z101) (by rw [e101, e97, e99]) (Q := z102) (by rw [e102, e98, e100])
 have ⟨p3, p4⟩ := mt_rs hi hj r37 r38 r51 r52 r95 r96 (R := z107) (by rw [e107, e103, e105]) (S := z108) (by rw [e108, e104, e106])
 have ⟨p5, p6⟩ := mt_xz hi hj r37 r38 r51 r52 r67 r68 r22 r23 (X := z115) (by rw [e115, e113, e109, e111]) (Y := z116) (by rw [e116, e114, e110, e112])
 have ⟨x1, x2, x3⟩ := mt_fix hi hj p1 p2 p3 p4 p5 p6
 have em : z0 * z4 - z1 * z3 = z146 := by rw [e146, e144, e145]
 rw [em] at x1 x2 x3 p1 p2
 have nm : z146 ≠ 0 := fun h => u2 (by
  rw [h] at p1 p2
  rw [e131, e132, e24, e6]
  clear x1 x2 x3 p3 p4 p5 p6 hi hj
  constructor <;> grind)
 have ni : i ≠ 0 := fun h => by rw [h, Rat.zero_mul] at hi; exact absurd hi (by decide)
 have nj : j ≠ 0 := fun h => by rw [h, Rat.zero_mul] at hj; exact absurd hj (by decide)
 rw [e153, e156, e155]
 refine mt_quo nm (mul_ne ni nj) (c := -z152) ?_ ?_
 ·rw [e137, e135, e136, e133, e134, e6, e24, e152, e148, e150, show z107 - 0 = z107 by grind]; exact x2
 ·rw [e143, e141, e142, e131, e134, e133, e132, e6, e24, show z107 - 0 = z107 by grind, show z102 - 0 = z102 by grind]; exact x1
theorem moveTwoMirrors_f29 {z0 z1 z2 z3 z4 z5 z6 z7 z8 z9 z10 z11 z12 z13 z14 z15 z16 z17 z18 z19 z20 z21 z22 z23 z24 z25 z26 z27 z28 z29 z30 z31 z32 z33 z34 z35 z36 z37 z38 z39 z40 z41 z42 z43 z44 z45 z46 z47 z48 z49 z50 z51 z52 z53 z54 z55 z56 z57 z58 z59 z60 z61 z62 z63 z64 z65 z66 z67 z68 z69 z70 z71 z72 z73 z74 z75 z76 z77 z78 z79 z80 z81 z82 z83 z84 z85 z86 z87 z88 z89 z90 z91 z92 z93 z94 z95 z96 z97 z98 z99 z100 z101 z102 z103 z104 z105 z106 z107 z108 z109 z110 z111 z112 z113 z114 z115 z116 z131 z132 z133 z134 z138 z139 z140 z141 z142 z143 z144 z145 z146 z147 z149 z151 z154 z157 : Rat} : z6 = 0 → z7 = z3 * z6 → z8 = z4 * z6 → z9 = z7 + z8 → z10 = z9 + z5 → z11 = -z10 → z12 = z3 * z11 → z13 = z4 * z11 → z14 = z3 * z3 → z15 = z4 * z4 → z16 = z14 + z15 → z17 = z12 / z16 → z18 = z13 / z16 → z19 = 2 → z20 = z17 * z19 → z21 = z18 * z19 → z22 = z6 + z20 → z23 = z6 + z21 → z24 = 1 → z25 = z3 * z24 → z26 = z25 + z8 → z27 = z26 + z5 → z28 = -z27 → z29 = z3 * z28 → z30 = z4 * z28 → z31 = z29 / z16 → z32 = z30 / z16 → z33 = z31 * z19 → z34 = z32 * z19 → z35 = z24 + z33 → z36 = z6 + z34 → z37 = z35 - z22 → z38 = z36 - z23 → z39 = z4 * z24 → z40 = z7 + z39 → z41 = z40 + z5 → z42 = -z41 → z43 = z3 * z42 → z44 = z4 * z42 → z45 = z43 / z16 → z46 = z44 / z16 → z47 = z45 * z19 → z48 = z46 * z19 → z49 = z6 + z47 → z50 = z24 + z48 → z51 = z49 - z22 → z52 = z50 - z23 → z53 = z0 * z6 → z54 = z1 * z6 → z55 = z53 + z54 → z56 = z55 + z2 → z57 = -z56 → z58 = z0 * z57 → z59 = z1 * z57 → z60 = z0 * z0 → z61 = z1 * z1 → z62 = z60 + z61 → z63 = z58 / z62 → z64 = z59 / z62 → z65 = z63 * z19 → z66 = z64 * z19 → z67 = z6 + z65 → z68 = z6 + z66 → z69 = z0 * z24 → z70 = z69 + z54 → z71 = z70 + z2 → z72 = -z71 → z73 = z0 * z72 → z74 = z1 * z72 → z75 = z73 / z62 → z76 = z74 / z62 → z77 = z75 * z19 → z78 = z76 * z19 → z79 = z24 + z77 → z80 = z6 + z78 → z81 = z79 - z67 → z82 = z80 - z68 → z83 = z1 * z24 → z84 = z53 + z83 → z85 = z84 + z2 → z86 = -z85 → z87 = z0 * z86 → z88 = z1 * z86 → z89 = z87 / z62 → z90 = z88 / z62 → z91 = z89 * z19 → z92 = z90 * z19 → z93 = z6 + z91 → z94 = z24 + z92 → z95 = z93 - z67 → z96 = z94 - z68 → z97 = z37 * z81 → z98 = z38 * z81 → z99 = z51 * z82 → z100 = z52 * z82 → z101 = z97 + z99 → z102 = z98 + z100 → z103 = z37 * z95 → z104 = z38 * z95 → z105 = z51 * z96 → z106 = z52 * z96 → z107 = z103 + z105 → z108 = z104 + z106 → z109 = z37 * z67 → z110 = z38 * z67 → z111 = z51 * z68 → z112 = z52 * z68 → z113 = z109 + z111 → z114 = z110 + z112 → z115 = z113 + z22 → z116 = z114 + z23 → z131 = z101 - z24 → z132 = z102 - z6 → z133 = z107 - z6 → z134 = z108 - z24 → z138 = z115 * z132 → z139 = z131 * z116 → z140 = z138 - z139 → z141 = z131 * z134 → z142 = z133 * z132 → z143 = z141 - z142 → z144 = z0 * z4 → z145 = z1 * z3 → z146 = z144 - z145 → z147 = z3 * z2 → z149 = z0 * z5 → z151 = z147 - z149 → z154 = z140 / z143 → z157 = z151 / z146 → (¬ (z0 = 0 ∧ z1 = 0)) → (¬ (z3 = 0 ∧ z4 = 0)) → (¬ (z131 = 0 ∧ z132 = 0)) → z154 = z157 := by
 intro e6 e7 e8 e9 e10 e11 e12 e13 e14 e15 e16 e17 e18 e19 e20 e21 e22 e23 e24 e25 e26 e27 e28 e29 e30 e31 e32 e33 e34 e35 e36 e37 e38 e39 e40 e41 e42 e43 e44 e45 e46 e47 e48 e49 e50 e51 e52 e53 e54 e55 e56 e57 e58 e59 e60 e61 e62 e63 e64 e65 e66 e67 e68 e69 e70 e71 e72 e73 e74 e75 e76 e77 e78 e79 e80 e81 e82 e83 e84 e85 e86 e87 e88 e89 e90 e91 e92 e93 e94 e95 e96 e97 e98 e99 e100 e101 e102 e103 e104 e105 e106 e107 e108 e109 e110 e111 e112 e113 e114 e115 e116 e131 e132 e133 e134 e138 e139 e140 e141 e142 e143 e144 e145 e146 e147 e149 e151 e154 e157 u0 u1 u2
 have n16 : z16 ≠ 0 := by
  have hp := sq_pos u1
  rw [← e14, ← e15, ← e16] at hp
  intro h
  rw [h] at hp
  exact absurd hp (by decide)
 obtain ⟨i, hi0⟩ : ∃ i, i * z16 = 2 := ⟨2 / z16, Rat.div_mul_cancel n16⟩
 have hi : i * (z3 * z3 + z4 * z4) = 2 := by rw [← e14, ← e15, ← e16]; exact hi0
 have q20 : z20 = z12 * i := by rw [e20, e17, e19]; exact mr_q n16 hi0
 have q21 : z21 = z13 * i := by rw [e21, e18, e19]; exact mr_q n16 hi0
 have q33 : z33 = z29 * i := by rw [e33, e31, e19]; exact mr_q n16 hi0
 have q34 : z34 = z30 * i := by rw [e34, e32, e19]; exact mr_q n16 hi0
 have q47 : z47 = z43 * i := by rw [e47, e45, e19]; exact mr_q n16 hi0
 have q48 : z48 = z44 * i := by rw [e48, e46, e19]; exact mr_q n16 hi0
 have r37 : z37 = 1 - z3 * z3 * i := by
  rw [e37, e35, q33, e29, e28, e27, e26, e25, e24, e22, q20, e12, e11, e10, e9, e8, e7, e6]
  clear hi hi0; grind
 have r38 : z38 = -(z3 * z4 * i) := by
  rw [e38, e36, q34, e30, e28, e27, e26, e25, e24, e23, q21, e13, e11, e10, e9, e8, e7, e6]
  clear hi hi0; grind
 have r51 : z51 = -(z3 * z4 * i) := by
  rw [e51, e49, q47, e43, e42, e41, e40, e39, e24, e22, q20, e12, e11, e10, e9, e8, e7, e6]
  clear hi hi0; grind
 have r52 : z52 = 1 - z4 * z4 * i := by
  rw [e52, e50, q48, e44, e42, e41, e40, e39, e24, e23, q21, e13, e11, e10, e9, e8, e7, e6]
  clear hi hi0; grind
 have r22 : z22 = -(z3 * z5 * i) := by
  rw [e22, q20, e12, e11, e10, e9, e8, e7, e6]
  clear hi hi0; grind
 have r23 : z23 = -(z4 * z5 * i) := by
  rw [e23, q21, e13, e11, e10, e9, e8, e7, e6]
  clear hi hi0; grind
 have n62 : z62 ≠ 0 := by
  have hp := sq_pos u0
  rw [← e60, ← e61, ← e62] at hp
  intro h
  rw [h] at hp
  exact absurd hp (by decide)
 obtain ⟨j, hj0⟩ : ∃ i, i * z62 = 2 := ⟨2 / z62, Rat.div_mul_cancel n62⟩
 have hj : j * (z0 * z0 + z1 * z1) = 2 := by rw [← e60, ← e61, ← e62]; exact hj0
 have q65 : z65 = z58 * j := by rw [e65, e63, e19]; exact mr_q n62 hj0
 have q66 : z66 = z59 * j := by rw [e66, e64, e19]; exact mr_q n62 hj0
 have q77 : z77 = z73 * j := by rw [e77, e75, e19]; exact mr_q n62 hj0
 have q78 : z78 = z74 * j := by rw [e78, e76, e19]; exact mr_q n62 hj0
 have q91 : z91 = z87 * j := by rw [e91, e89, e19]; exact mr_q n62 hj0
 have q92 : z92 = z88 * j := by rw [e92, e90, e19]; exact mr_q n62 hj0
 have r81 : z81 = 1 - z0 * z0 * j := by
  rw [e81, e79, q77, e73, e72, e71, e70, e69, e67, q65, e58, e57, e56, e55, e54, e53, e24, e6]
  clear hj hj0; grind
 have r82 : z82 = -(z0 * z1 * j) := by
  rw [e82, e80, q78, e74, e72, e71, e70, e69, e68, q66, e59, e57, e56, e55, e54, e53, e24, e6]
  clear hj hj0; grind
 have r95 : z95 = -(z0 * z1 * j) := by
  rw [e95, e93, q91, e87, e86, e85, e84, e83, e67, q65, e58, e57, e56, e55, e54, e53, e24, e6]
  clear hj hj0; grind
 have r96 : z96 = 1 - z1 * z1 * j := by
  rw [e96, e94, q92, e88, e86, e85, e84, e83, e68, q66, e59, e57, e56, e55, e54, e53, e24, e6]
  clear hj hj0; grind
 have r67 : z67 = -(z0 * z2 * j) := by
  rw [e67, q65, e58, e57, e56, e55, e54, e53, e6]
  clear hj hj0; grind
 have r68 : z68 = -(z1 * z2 * j) := by
  rw [e68, q66, e59, e57, e56, e55, e54, e53, e6]
  clear hj hj0; grind
 have ⟨p1, p2⟩ := mt_pq hi hj r37 r38 r51 r52 r81 r82 (P := z101) (by rw [e101, e97, e99]) (Q := z102) (by rw [e102, e98, e100])
 have ⟨p3, p4⟩ := mt_rs hi hj r37 r38 r51 r52 r95 r96 (R := z107) (by rw [e107, e103, e105]) (S := z108) (by rw [e108, e104, e106])
 have ⟨p5, p6⟩ := mt_xz hi hj r37 r38 r51 r52 r67 r68 r22 r23 (X := z115) (by rw [e115, e113, e109, e111]) (Y := z116) (by rw [e116, e114, e110, e112])
 have ⟨x1, x2, x3⟩ := mt_fix hi hj p1 p2 p3 p4 p5 p6
 have em : z0 * z4 - z1 * z3 = z146 := by rw [e146, e144, e145]
 rw [em] at x1 x2 x3 p1 p2
 have nm : z146 ≠ 0 := fun h => u2 (by
  rw [h] at p1 p2
  rw [e131, e132, e24, e6]
  clear x1 x2 x3 p3 p4 p5 p6 hi hj
  constructor <;> grind)
 have ni : i ≠ 0 := fun h => by rw [h, Rat.zero_mul] at hi; exact absurd hi (by decide)
 have nj : j ≠ 0 := fun h => by rw [h, Rat.zero_mul] at hj; exact absurd hj (by decide)
 rw [e154, e157]
 refine mt_quo nm (mul_ne ni nj) (c := z151) ?_ ?_
 ·rw [e140, e138, e139, e131, e132, e6, e24, e151, e147, e149, show z102 - 0 = z102 by grind]; exact x3
 ·rw [e143, e141, e142, e131, e134, e133, e132, e6, e24, show z107 - 0 = z107 by grind, show z102 - 0 = z102 by grind]; exact x1
theorem moveTwoMirrors_r0 : (callB (sx Tryz.prog moveTwoMirrors_N [(6, 0, 1, 1), (6, 3, 4, 1)] [] moveTwoMirrors_L moveTwoMirrors_C moveTwoMirrors_Z (prQ [50])) 5 16 [(false, [(true, [.inr (2, 0, 0, 0, 0), .inr (2, 1, 0, 0, 0), .inr (2, 2, 0, 0, 0)])]), (false, [(true, [.inr (2, 3, 0, 0, 0), .inr (2, 4, 0, 0, 0), .inr (2, 5, 0, 0, 0)])])] [] 0).map (·.1) = some (kB true) := by kernel_rfl
theorem moveTwoMirrors_r1 : (callB (sx Tryz.prog moveTwoMirrors_N [(6, 0, 1, 1), (6, 3, 4, 0)] [(218, [.inr (3, 19, 0, 0, 0)])] moveTwoMirrors_L moveTwoMirrors_C moveTwoMirrors_Z (prQ [50])) 8 16 [(false, [(true, [.inr (2, 0, 0, 0, 0), .inr (2, 1, 0, 0, 0), .inr (2, 2, 0, 0, 0)])]), (false, [(true, [.inr (2, 3, 0, 0, 0), .inr (2, 4, 0, 0, 0), .inr (2, 5, 0, 0, 0)])])] [] 0).map (·.1) = some (kB true) := by kernel_rfl
theorem moveTwoMirrors_r2 : (callB (sx Tryz.prog moveTwoMirrors_N [(6, 0, 1, 0), (6, 3, 4, 1)] [(218, [.inr (3, 10, 0, 0, 0)])] moveTwoMirrors_L moveTwoMirrors_C moveTwoMirrors_Z (prQ [50])) 8 16 [(false, [(true, [.inr (2, 0, 0, 0, 0), .inr (2, 1, 0, 0, 0), .inr (2, 2, 0, 0, 0)])]), (false, [(true, [.inr (2, 3, 0, 0, 0), .inr (2, 4, 0, 0, 0), .inr (2, 5, 0, 0, 0)])])] [] 0).map (·.1) = some (kB true) := by kernel_rfl
theorem moveTwoMirrors_r3 : (callB (sx Tryz.prog moveTwoMirrors_N [(6, 0, 1, 0), (6, 3, 4, 0), (0, 120, 0, 1), (0, 124, 0, 1), (0, 127, 0, 1), (1, 130, 0, 0), (6, 131, 132, 1), (6, 115, 116, 1), (0, 131, 0, 1), (0, 133, 0, 1), (0, 115, 0, 1), (0, 143, 0, 1), (0, 132, 0, 1), (0, 134, 0, 1), (0, 116, 0, 1), (0, 146, 0, 1), (6, 151, 152, 1)] [(218, [.inr (3, 10, 0, 0, 0)]), (218, [.inr (3, 121, 0, 0, 0)]), (208, [.inr (3, 227, 0, 0, 0)]), (208, [.inr (3, 238, 0, 0, 0)]), (208, [.inr (3, 311, 0, 0, 0)]), (219, []), (208, [.inr (3, 351, 0, 0, 0)])] moveTwoMirrors_L moveTwoMirrors_C moveTwoMirrors_Z (prQ [50])) 8 16 [(false, [(true, [.inr (2, 0, 0, 0, 0), .inr (2, 1, 0, 0, 0), .inr (2, 2, 0, 0, 0)])]), (false, [(true, [.inr (2, 3, 0, 0, 0), .inr (2, 4, 0, 0, 0), .inr (2, 5, 0, 0, 0)])])] [] 0).map (·.1) = some (kB true) := by kernel_rfl
theorem moveTwoMirrors_r4 : (callB (sx Tryz.prog moveTwoMirrors_N [(6, 0, 1, 0), (6, 3, 4, 0), (0, 120, 0, 1), (0, 124, 0, 1), (0, 127, 0, 1), (1, 130, 0, 0), (6, 131, 132, 1), (6, 115, 116, 0), (0, 131, 0, 1), (0, 133, 0, 1), (0, 115, 0, 1), (0, 143, 0, 1), (0, 132, 0, 1), (0, 134, 0, 1), (0, 116, 0, 0), (0, 137, 0, 1), (0, 140, 0, 1), (6, 132, 134, 1), (0, 146, 0, 1), (6, 151, 152, 0)] [(218, [.inr (3, 10, 0, 0, 0)]), (218, [.inr (3, 121, 0, 0, 0)]), (208, [.inr (3, 227, 0, 0, 0)]), (208, [.inr (3, 238, 0, 0, 0)]), (208, [.inr (3, 311, 0, 0, 0)]), (219, []), (208, [.inr (3, 351, 0, 0, 0)])] moveTwoMirrors_L moveTwoMirrors_C moveTwoMirrors_Z (prQ [50])) 8 16 [(false, [(true, [.inr (2, 0, 0, 0, 0), .inr (2, 1, 0, 0, 0), .inr (2, 2, 0, 0, 0)])]), (false, [(true, [.inr (2, 3, 0, 0, 0), .inr (2, 4, 0, 0, 0), .inr (2, 5, 0, 0, 0)])])] [] 0).map (·.1) = some (kB true) := by kernel_rfl
theorem moveTwoMirrors_r5 : (callB (sx Tryz.prog moveTwoMirrors_N [(6, 0, 1, 0), (6, 3, 4, 0), (0, 120, 0, 1), (0, 124, 0, 1), (0, 127, 0, 1), (1, 130, 0, 0), (6, 131, 132, 1), (6, 115, 116, 0), (0, 131, 0, 1), (0, 133, 0, 1), (0, 115, 0, 0), (0, 143, 0, 1), (0, 137, 0, 1), (0, 140, 0, 1), (6, 131, 133, 1), (0, 146, 0, 1), (6, 151, 152, 0)] [(218, [.inr (3, 10, 0, 0, 0)]), (218, [.inr (3, 121, 0, 0, 0)]), (208, [.inr (3, 227, 0, 0, 0)]), (208, [.inr (3, 238, 0, 0, 0)]), (208, [.inr (3, 311, 0, 0, 0)]), (219, []), (208, [.inr (3, 351, 0, 0, 0)])] moveTwoMirrors_L moveTwoMirrors_C moveTwoMirrors_Z (prQ [50])) 8 16 [(false, [(true, [.inr (2, 0, 0, 0, 0), .inr (2, 1, 0, 0, 0), .inr (2, 2, 0, 0, 0)])]), (false, [(true, [.inr (2, 3, 0, 0, 0), .inr (2, 4, 0, 0, 0), .inr (2, 5, 0, 0, 0)])])] [] 0).map (·.1) = some (kB true) := by kernel_rfl
theorem moveTwoMirrors_r6 : (callB (sx Tryz.prog moveTwoMirrors_N [(6, 0, 1, 0), (6, 3, 4, 0), (0, 120, 0, 1), (0, 124, 0, 1), (0, 127, 0, 1), (1, 130, 0, 0), (6, 131, 132, 0), (0, 131, 0, 0), (0, 143, 0, 0), (0, 146, 0, 0), (3, 153, 156, 1), (3, 154, 157, 1)] [(218, [.inr (3, 10, 0, 0, 0)]), (218, [.inr (3, 121, 0, 0, 0)]), (208, [.inr (3, 227, 0, 0, 0)]), (208, [.inr (3, 238, 0, 0, 0)]), (208, [.inr (3, 311, 0, 0, 0)]), (219, []), (208, [.inr (3, 351, 0, 0, 0)])] moveTwoMirrors_L moveTwoMirrors_C moveTwoMirrors_Z (prQ [50])) 8 16 [(false, [(true, [.inr (2, 0, 0, 0, 0), .inr (2, 1, 0, 0, 0), .inr (2, 2, 0, 0, 0)])]), (false, [(true, [.inr (2, 3, 0, 0, 0), .inr (2, 4, 0, 0, 0), .inr (2, 5, 0, 0, 0)])])] [] 0).map (·.1) = some (kB true) := by kernel_rfl
theorem moveTwoMirrors_An {a b : Prop} (x : a) (y : b) : a ∧ b := ⟨x, y⟩
theorem moveTwoMirrors_leaf {H : List (Nat × Nat × Nat × Nat)} {K : List (FuncId × List AC)} {k : Nat} {q : Nat → Rat} {σ : Nat → ByteArray} {args : List AV} {vs : List Value} {w : World} (hr : (callB (sx Tryz.prog moveTwoMirrors_N H K moveTwoMirrors_L moveTwoMirrors_C moveTwoMirrors_Z (prQ [50])) k 16 args [] 0).map (·.1) = some (kB true)) (hσ : ∀ j, (σ j).size ≤ 1048576) (hq : ∀ (a : Nat) nd, moveTwoMirrors_N[a]? = some nd → q a = valN σ q nd) (h0 : ∀ a, moveTwoMirrors_N.length ≤ a → q a = 0) (hH : hAll q H) (hp : PreS w) (hA : ∀ K, A2 (avOn (cOn (evS q σ) K (fun _ => none) w)) args vs) : Calls Tryz.prog 16 vs.toArray w fun e w' => Below w.heap.size w w' ∧ e = .returned (.bool true) :=
 run_toldQ' k (hy_ofW hσ moveTwoMirrors_wf moveTwoMirrors_sz moveTwoMirrors_lt moveTwoMirrors_cn hq h0 hH) (by simp [closed_moved]) (by kernel_rfl) hr hp (hA K)
theorem moveTwoMirrors_walk {w : World} {la lb lc ma mb mc : ByteArray} (sla : la.size ≤ 1048576) (slb : lb.size ≤ 1048576) (slc : lc.size ≤ 1048576) (sma : ma.size ≤ 1048576) (smb : mb.size ≤ 1048576) (smc : mc.size ≤ 1048576) (tab : Tab w) (mx : MaxL w) :
  Calls Tryz.prog 16 #[.agg #[.string la, .string lb, .string lc], .agg #[.string ma, .string mb, .string mc]] w fun e w' => Below w.heap.size w w' ∧ e = .returned (.bool true) := by
 have hσ : ∀ j, (sgOf [la, lb, lc, ma, mb, mc] j).size ≤ 1048576 := sgOf_size (by simp [sla, slb, slc, sma, smb, smc])
 obtain ⟨q, hq, h0⟩ := nodes_exist (sgOf [la, lb, lc, ma, mb, mc]) moveTwoMirrors_N moveTwoMirrors_wf
 have hA : ∀ K, A2 (avOn (cOn (evS q (sgOf [la, lb, lc, ma, mb, mc])) K (fun _ => none) w)) [(false, [(true, [.inr (2, 0, 0, 0, 0), .inr (2, 1, 0, 0, 0), .inr (2, 2, 0, 0, 0)])]), (false, [(true, [.inr (2, 3, 0, 0, 0), .inr (2, 4, 0, 0, 0), .inr (2, 5, 0, 0, 0)])])] [.agg #[.string la, .string lb, .string lc], .agg #[.string ma, .string mb, .string mc]] := fun K => ⟨⟨⟨[.string la, .string lb, .string lc], rfl, rfl, rfl, rfl, trivial⟩, trivial⟩, ⟨⟨[.string ma, .string mb, .string mc], rfl, rfl, rfl, rfl, trivial⟩, trivial⟩, trivial⟩
 have E6 : q 6 = 0 := (hq 6 _ rfl).trans moveTwoMirrors_c6
 have E7 : q 7 = q 3 * q 6 := hq 7 _ rfl
 have E8 : q 8 = q 4 * q 6 := hq 8 _ rfl
 have E9 : q 9 = q 7 + q 8 := hq 9 _ rfl
 have E10 : q 10 = q 9 + q 5 := hq 10 _ rfl
 have E11 : q 11 = -q 10 := hq 11 _ rfl
 have E12 : q 12 = q 3 * q 11 := hq 12 _ rfl
 have E13 : q 13 = q 4 * q 11 := hq 13 _ rfl
 have E14 : q 14 = q 3 * q 3 := hq 14 _ rfl
 have E15 : q 15 = q 4 * q 4 := hq 15 _ rfl
 have E16 : q 16 = q 14 + q 15 := hq 16 _ rfl
 have E17 : q 17 = q 12 / q 16 := hq 17 _ rfl
 have E18 : q 18 = q 13 / q 16 := hq 18 _ rfl
 have E19 : q 19 = 2 := (hq 19 _ rfl).trans moveTwoMirrors_c19
 have E20 : q 20 = q 17 * q 19 := hq 20 _ rfl
 have E21 : q 21 = q 18 * q 19 := hq 21 _ rfl
 have E22 : q 22 = q 6 + q 20 := hq 22 _ rfl
 have E23 : q 23 = q 6 + q 21 := hq 23 _ rfl
 have E24 : q 24 = 1 := (hq 24 _ rfl).trans moveTwoMirrors_c24
 have E25 : q 25 = q 3 * q 24 := hq 25 _ rfl
 have E26 : q 26 = q 25 + q 8 := hq 26 _ rfl
 have E27 : q 27 = q 26 + q 5 := hq 27 _ rfl
 have E28 : q 28 = -q 27 := hq 28 _ rfl
 have E29 : q 29 = q 3 * q 28 := hq 29 _ rfl
 have E30 : q 30 = q 4 * q 28 := hq 30 _ rfl
 have E31 : q 31 = q 29 / q 16 := hq 31 _ rfl
 have E32 : q 32 = q 30 / q 16 := hq 32 _ rfl
 have E33 : q 33 = q 31 * q 19 := hq 33 _ rfl
 have E34 : q 34 = q 32 * q 19 := hq 34 _ rfl
 have E35 : q 35 = q 24 + q 33 := hq 35 _ rfl
 have E36 : q 36 = q 6 + q 34 := hq 36 _ rfl
 have E37 : q 37 = q 35 - q 22 := hq 37 _ rfl
 have E38 : q 38 = q 36 - q 23 := hq 38 _ rfl
 have E39 : q 39 = q 4 * q 24 := hq 39 _ rfl
 have E40 : q 40 = q 7 + q 39 := hq 40 _ rfl
 have E41 : q 41 = q 40 + q 5 := hq 41 _ rfl
 have E42 : q 42 = -q 41 := hq 42 _ rfl
 have E43 : q 43 = q 3 * q 42 := hq 43 _ rfl
 have E44 : q 44 = q 4 * q 42 := hq 44 _ rfl
 have E45 : q 45 = q 43 / q 16 := hq 45 _ rfl
 have E46 : q 46 = q 44 / q 16 := hq 46 _ rfl
 have E47 : q 47 = q 45 * q 19 := hq 47 _ rfl
 have E48 : q 48 = q 46 * q 19 := hq 48 _ rfl
 have E49 : q 49 = q 6 + q 47 := hq 49 _ rfl
 have E50 : q 50 = q 24 + q 48 := hq 50 _ rfl
 have E51 : q 51 = q 49 - q 22 := hq 51 _ rfl
 have E52 : q 52 = q 50 - q 23 := hq 52 _ rfl
 have E53 : q 53 = q 0 * q 6 := hq 53 _ rfl
 have E54 : q 54 = q 1 * q 6 := hq 54 _ rfl
 have E55 : q 55 = q 53 + q 54 := hq 55 _ rfl
 have E56 : q 56 = q 55 + q 2 := hq 56 _ rfl
 have E57 : q 57 = -q 56 := hq 57 _ rfl
 have E58 : q 58 = q 0 * q 57 := hq 58 _ rfl
 have E59 : q 59 = q 1 * q 57 := hq 59 _ rfl
 have E60 : q 60 = q 0 * q 0 := hq 60 _ rfl
 have E61 : q 61 = q 1 * q 1 := hq 61 _ rfl
 have E62 : q 62 = q 60 + q 61 := hq 62 _ rfl
 have E63 : q 63 = q 58 / q 62 := hq 63 _ rfl
 have E64 : q 64 = q 59 / q 62 := hq 64 _ rfl
 have E65 : q 65 = q 63 * q 19 := hq 65 _ rfl
 have E66 : q 66 = q 64 * q 19 := hq 66 _ rfl
 have E67 : q 67 = q 6 + q 65 := hq 67 _ rfl
 have E68 : q 68 = q 6 + q 66 := hq 68 _ rfl
 have E69 : q 69 = q 0 * q 24 := hq 69 _ rfl
 have E70 : q 70 = q 69 + q 54 := hq 70 _ rfl
 have E71 : q 71 = q 70 + q 2 := hq 71 _ rfl
 have E72 : q 72 = -q 71 := hq 72 _ rfl
 have E73 : q 73 = q 0 * q 72 := hq 73 _ rfl
 have E74 : q 74 = q 1 * q 72 := hq 74 _ rfl
 have E75 : q 75 = q 73 / q 62 := hq 75 _ rfl
 have E76 : q 76 = q 74 / q 62 := hq 76 _ rfl
 have E77 : q 77 = q 75 * q 19 := hq 77 _ rfl
 have E78 : q 78 = q 76 * q 19 := hq 78 _ rfl
 have E79 : q 79 = q 24 + q 77 := hq 79 _ rfl
 have E80 : q 80 = q 6 + q 78 := hq 80 _ rfl
 have E81 : q 81 = q 79 - q 67 := hq 81 _ rfl
 have E82 : q 82 = q 80 - q 68 := hq 82 _ rfl
 have E83 : q 83 = q 1 * q 24 := hq 83 _ rfl
 have E84 : q 84 = q 53 + q 83 := hq 84 _ rfl
 have E85 : q 85 = q 84 + q 2 := hq 85 _ rfl
 have E86 : q 86 = -q 85 := hq 86 _ rfl
 have E87 : q 87 = q 0 * q 86 := hq 87 _ rfl
 have E88 : q 88 = q 1 * q 86 := hq 88 _ rfl
 have E89 : q 89 = q 87 / q 62 := hq 89 _ rfl
 have E90 : q 90 = q 88 / q 62 := hq 90 _ rfl
 have E91 : q 91 = q 89 * q 19 := hq 91 _ rfl
 have E92 : q 92 = q 90 * q 19 := hq 92 _ rfl
 have E93 : q 93 = q 6 + q 91 := hq 93 _ rfl
 have E94 : q 94 = q 24 + q 92 := hq 94 _ rfl
 have E95 : q 95 = q 93 - q 67 := hq 95 _ rfl
 have E96 : q 96 = q 94 - q 68 := hq 96 _ rfl
 have E97 : q 97 = q 37 * q 81 := hq 97 _ rfl
 have E98 : q 98 = q 38 * q 81 := hq 98 _ rfl
 have E99 : q 99 = q 51 * q 82 := hq 99 _ rfl
 have E100 : q 100 = q 52 * q 82 := hq 100 _ rfl
 have E101 : q 101 = q 97 + q 99 := hq 101 _ rfl
 have E102 : q 102 = q 98 + q 100 := hq 102 _ rfl
 have E103 : q 103 = q 37 * q 95 := hq 103 _ rfl
 have E104 : q 104 = q 38 * q 95 := hq 104 _ rfl
 have E105 : q 105 = q 51 * q 96 := hq 105 _ rfl
 have E106 : q 106 = q 52 * q 96 := hq 106 _ rfl
 have E107 : q 107 = q 103 + q 105 := hq 107 _ rfl
 have E108 : q 108 = q 104 + q 106 := hq 108 _ rfl
 have E109 : q 109 = q 37 * q 67 := hq 109 _ rfl
 have E110 : q 110 = q 38 * q 67 := hq 110 _ rfl
 have E111 : q 111 = q 51 * q 68 := hq 111 _ rfl
 have E112 : q 112 = q 52 * q 68 := hq 112 _ rfl
 have E113 : q 113 = q 109 + q 111 := hq 113 _ rfl
 have E114 : q 114 = q 110 + q 112 := hq 114 _ rfl
 have E115 : q 115 = q 113 + q 22 := hq 115 _ rfl
 have E116 : q 116 = q 114 + q 23 := hq 116 _ rfl
 have E117 : q 117 = q 101 * q 101 := hq 117 _ rfl
 have E118 : q 118 = q 102 * q 102 := hq 118 _ rfl
 have E119 : q 119 = q 117 + q 118 := hq 119 _ rfl
 have E120 : q 120 = q 119 - q 24 := hq 120 _ rfl
 have E121 : q 121 = q 107 * q 107 := hq 121 _ rfl
 have E122 : q 122 = q 108 * q 108 := hq 122 _ rfl
 have E123 : q 123 = q 121 + q 122 := hq 123 _ rfl
 have E124 : q 124 = q 123 - q 24 := hq 124 _ rfl
 have E125 : q 125 = q 101 * q 107 := hq 125 _ rfl
 have E126 : q 126 = q 102 * q 108 := hq 126 _ rfl
 have E127 : q 127 = q 125 + q 126 := hq 127 _ rfl
 have E128 : q 128 = q 101 * q 108 := hq 128 _ rfl
 have E129 : q 129 = q 102 * q 107 := hq 129 _ rfl
 have E130 : q 130 = q 128 - q 129 := hq 130 _ rfl
 have E131 : q 131 = q 101 - q 24 := hq 131 _ rfl
 have E132 : q 132 = q 102 - q 6 := hq 132 _ rfl
 have E133 : q 133 = q 107 - q 6 := hq 133 _ rfl
 have E134 : q 134 = q 108 - q 24 := hq 134 _ rfl
 have E135 : q 135 = q 133 * q 116 := hq 135 _ rfl
 have E136 : q 136 = q 115 * q 134 := hq 136 _ rfl
 have E137 : q 137 = q 135 - q 136 := hq 137 _ rfl
 have E138 : q 138 = q 115 * q 132 := hq 138 _ rfl
 have E139 : q 139 = q 131 * q 116 := hq 139 _ rfl
 have E140 : q 140 = q 138 - q 139 := hq 140 _ rfl
 have E141 : q 141 = q 131 * q 134 := hq 141 _ rfl
 have E142 : q 142 = q 133 * q 132 := hq 142 _ rfl
 have E143 : q 143 = q 141 - q 142 := hq 143 _ rfl
 have E144 : q 144 = q 0 * q 4 := hq 144 _ rfl
 have E145 : q 145 = q 1 * q 3 := hq 145 _ rfl
 have E146 : q 146 = q 144 - q 145 := hq 146 _ rfl
 have E147 : q 147 = q 3 * q 2 := hq 147 _ rfl
 have E148 : q 148 = q 4 * q 2 := hq 148 _ rfl
 have E149 : q 149 = q 0 * q 5 := hq 149 _ rfl
 have E150 : q 150 = q 1 * q 5 := hq 150 _ rfl
 have E151 : q 151 = q 147 - q 149 := hq 151 _ rfl
 have E152 : q 152 = q 148 - q 150 := hq 152 _ rfl
 have E153 : q 153 = q 137 / q 143 := hq 153 _ rfl
 have E154 : q 154 = q 140 / q 143 := hq 154 _ rfl
 have E155 : q 155 = -q 152 := hq 155 _ rfl
 have E156 : q 156 = q 155 / q 146 := hq 156 _ rfl
 have E157 : q 157 = q 151 / q 146 := hq 157 _ rfl
 by_cases a_6_0_1 : q 0 = 0 ∧ q 1 = 0
 ·
  by_cases a_6_3_4 : q 3 = 0 ∧ q 4 = 0
  ·
   exact moveTwoMirrors_leaf moveTwoMirrors_r0 hσ hq h0 (moveTwoMirrors_An (hT a_6_0_1) (moveTwoMirrors_An (hT a_6_3_4) trivial)) ⟨tab, mx⟩ hA
  ·
   exact moveTwoMirrors_leaf moveTwoMirrors_r1 hσ hq h0 (moveTwoMirrors_An (hT a_6_0_1) (moveTwoMirrors_An (hF a_6_3_4) trivial)) ⟨tab, mx⟩ hA
 ·
  by_cases a_6_3_4 : q 3 = 0 ∧ q 4 = 0
  ·
   exact moveTwoMirrors_leaf moveTwoMirrors_r2 hσ hq h0 (moveTwoMirrors_An (hF a_6_0_1) (moveTwoMirrors_An (hT a_6_3_4) trivial)) ⟨tab, mx⟩ hA
  ·
   have b120 : q 120 = 0 := moveTwoMirrors_f1 E6 E7 E8 E9 E10 E11 E12 E13 E14 E15 E16 E17 E18 E19 E20 E21 E22 E23 E24 E25 E26 E27 E28 E29 E30 E31 E32 E33 E34 E35 E36 E37 E38 E39 E40 E41 E42 E43 E44 E45 E46 E47 E48 E49 E50 E51 E52 E53 E54 E55 E56 E57 E58 E59 E60 E61 E62 E63 E64 E65 E66 E67 E68 E69 E70 E71 E72 E73 E74 E75 E76 E77 E78 E79 E80 E81 E82 E97 E98 E99 E100 E101 E102 E117 E118 E119 E120 a_6_0_1 a_6_3_4
   have b124 : q 124 = 0 := moveTwoMirrors_f2 E6 E7 E8 E9 E10 E11 E12 E13 E14 E15 E16 E17 E18 E19 E20 E21 E22 E23 E24 E25 E26 E27 E28 E29 E30 E31 E32 E33 E34 E35 E36 E37 E38 E39 E40 E41 E42 E43 E44 E45 E46 E47 E48 E49 E50 E51 E52 E53 E54 E55 E56 E57 E58 E59 E60 E61 E62 E63 E64 E65 E66 E67 E68 E83 E84 E85 E86 E87 E88 E89 E90 E91 E92 E93 E94 E95 E96 E103 E104 E105 E106 E107 E108 E121 E122 E123 E124 a_6_0_1 a_6_3_4
   have b127 : q 127 = 0 := moveTwoMirrors_f3 E6 E7 E8 E9 E10 E11 E12 E13 E14 E15 E16 E17 E18 E19 E20 E21 E22 E23 E24 E25 E26 E27 E28 E29 E30 E31 E32 E33 E34 E35 E36 E37 E38 E39 E40 E41 E42 E43 E44 E45 E46 E47 E48 E49 E50 E51 E52 E53 E54 E55 E56 E57 E58 E59 E60 E61 E62 E63 E64 E65 E66 E67 E68 E69 E70 E71 E72 E73 E74 E75 E76 E77 E78 E79 E80 E81 E82 E83 E84 E85 E86 E87 E88 E89 E90 E91 E92 E93 E94 E95 E96 E97 E98 E99 E100 E101 E102 E103 E104 E105 E106 E107 E108 E125 E126 E127 a_6_0_1 a_6_3_4
   have a_1_130_0 : ¬ (q 130 < 0) := moveTwoMirrors_f4 E6 E7 E8 E9 E10 E11 E12 E13 E14 E15 E16 E17 E18 E19 E20 E21 E22 E23 E24 E25 E26 E27 E28 E29 E30 E31 E32 E33 E34 E35 E36 E37 E38 E39 E40 E41 E42 E43 E44 E45 E46 E47 E48 E49 E50 E51 E52 E53 E54 E55 E56 E57 E58 E59 E60 E61 E62 E63 E64 E65 E66 E67 E68 E69 E70 E71 E72 E73 E74 E75 E76 E77 E78 E79 E80 E81 E82 E83 E84 E85 E86 E87 E88 E89 E90 E91 E92 E93 E94 E95 E96 E97 E98 E99 E100 E101 E102 E103 E104 E105 E106 E107 E108 E128 E129 E130 a_6_0_1 a_6_3_4
   by_cases a_6_131_132 : q 131 = 0 ∧ q 132 = 0
   ·
    by_cases a_6_115_116 : q 115 = 0 ∧ q 116 = 0
    ·
     have b131 : q 131 = 0 := moveTwoMirrors_f5 E6 E7 E8 E9 E10 E11 E12 E13 E14 E15 E16 E17 E18 E19 E20 E21 E22 E23 E24 E25 E26 E27 E28 E29 E30 E31 E32 E33 E34 E35 E36 E37 E38 E39 E40 E41 E42 E43 E44 E45 E46 E47 E48 E49 E50 E51 E52 E53 E54 E55 E56 E57 E58 E59 E60 E61 E62 E63 E64 E65 E66 E67 E68 E69 E70 E71 E72 E73 E74 E75 E76 E77 E78 E79 E80 E81 E82 E97 E98 E99 E100 E101 E102 E131 E132 a_6_0_1 a_6_3_4 a_6_131_132
     have b133 : q 133 = 0 := moveTwoMirrors_f6 E6 E7 E8 E9 E10 E11 E12 E13 E14 E15 E16 E17 E18 E19 E20 E21 E22 E23 E24 E25 E26 E27 E28 E29 E30 E31 E32 E33 E34 E35 E36 E37 E38 E39 E40 E41 E42 E43 E44 E45 E46 E47 E48 E49 E50 E51 E52 E53 E54 E55 E56 E57 E58 E59 E60 E61 E62 E63 E64 E65 E66 E67 E68 E69 E70 E71 E72 E73 E74 E75 E76 E77 E78 E79 E80 E81 E82 E83 E84 E85 E86 E87 E88 E89 E90 E91 E92 E93 E94 E95 E96 E97 E98 E99 E100 E101 E102 E103 E105 E107 E131 E132 E133 a_6_0_1 a_6_3_4 a_6_131_132
     have b115 : q 115 = 0 := moveTwoMirrors_f7 E6 E7 E8 E9 E10 E11 E12 E13 E14 E15 E16 E17 E18 E19 E20 E21 E22 E23 E24 E25 E26 E27 E28 E29 E30 E31 E32 E33 E34 E35 E36 E37 E38 E39 E40 E41 E42 E43 E44 E45 E46 E47 E48 E49 E50 E51 E52 E53 E54 E55 E56 E57 E58 E59 E60 E61 E62 E63 E64 E65 E66 E67 E68 E109 E110 E111 E112 E113 E114 E115 E116 a_6_0_1 a_6_3_4 a_6_115_116
     have b143 : q 143 = 0 := moveTwoMirrors_f8 E6 E7 E8 E9 E10 E11 E12 E13 E14 E15 E16 E17 E18 E19 E20 E21 E22 E23 E24 E25 E26 E27 E28 E29 E30 E31 E32 E33 E34 E35 E36 E37 E38 E39 E40 E41 E42 E43 E44 E45 E46 E47 E48 E49 E50 E51 E52 E53 E54 E55 E56 E57 E58 E59 E60 E61 E62 E63 E64 E65 E66 E67 E68 E69 E70 E71 E72 E73 E74 E75 E76 E77 E78 E79 E80 E81 E82 E83 E84 E85 E86 E87 E88 E89 E90 E91 E92 E93 E94 E95 E96 E97 E98 E99 E100 E101 E102 E103 E104 E105 E106 E107 E108 E131 E132 E133 E134 E141 E142 E143 a_6_0_1 a_6_3_4 a_6_131_132
     have b132 : q 132 = 0 := moveTwoMirrors_f9 E6 E7 E8 E9 E10 E11 E12 E13 E14 E15 E16 E17 E18 E19 E20 E21 E22 E23 E24 E25 E26 E27 E28 E29 E30 E31 E32 E33 E34 E35 E36 E37 E38 E39 E40 E41 E42 E43 E44 E45 E46 E47 E48 E49 E50 E51 E52 E53 E54 E55 E56 E57 E58 E59 E60 E61 E62 E63 E64 E65 E66 E67 E68 E69 E70 E71 E72 E73 E74 E75 E76 E77 E78 E79 E80 E81 E82 E97 E98 E99 E100 E101 E102 E131 E132 a_6_0_1 a_6_3_4 a_6_131_132
     have b134 : q 134 = 0 := moveTwoMirrors_f10 E6 E7 E8 E9 E10 E11 E12 E13 E14 E15 E16 E17 E18 E19 E20 E21 E22 E23 E24 E25 E26 E27 E28 E29 E30 E31 E32 E33 E34 E35 E36 E37 E38 E39 E40 E41 E42 E43 E44 E45 E46 E47 E48 E49 E50 E51 E52 E53 E54 E55 E56 E57 E58 E59 E60 E61 E62 E63 E64 E65 E66 E67 E68 E69 E70 E71 E72 E73 E74 E75 E76 E77 E78 E79 E80 E81 E82 E83 E84 E85 E86 E87 E88 E89 E90 E91 E92 E93 E94 E95 E96 E97 E98 E99 E100 E101 E102 E104 E106 E108 E131 E132 E134 a_6_0_1 a_6_3_4 a_6_131_132
     have b116 : q 116 = 0 := moveTwoMirrors_f11 E6 E7 E8 E9 E10 E11 E12 E13 E14 E15 E16 E17 E18 E19 E20 E21 E22 E23 E24 E25 E26 E27 E28 E29 E30 E31 E32 E33 E34 E35 E36 E37 E38 E39 E40 E41 E42 E43 E44 E45 E46 E47 E48 E49 E50 E51 E52 E53 E54 E55 E56 E57 E58 E59 E60 E61 E62 E63 E64 E65 E66 E67 E68 E109 E110 E111 E112 E113 E114 E115 E116 a_6_0_1 a_6_3_4 a_6_115_116
     have b146 : q 146 = 0 := moveTwoMirrors_f12 E6 E7 E8 E9 E10 E11 E12 E13 E14 E15 E16 E17 E18 E19 E20 E21 E22 E23 E24 E25 E26 E27 E28 E29 E30 E31 E32 E33 E34 E35 E36 E37 E38 E39 E40 E41 E42 E43 E44 E45 E46 E47 E48 E49 E50 E51 E52 E53 E54 E55 E56 E57 E58 E59 E60 E61 E62 E63 E64 E65 E66 E67 E68 E69 E70 E71 E72 E73 E74 E75 E76 E77 E78 E79 E80 E81 E82 E97 E98 E99 E100 E101 E102 E131 E132 E144 E145 E146 a_6_0_1 a_6_3_4 a_6_131_132
     have a_6_151_152 : q 151 = 0 ∧ q 152 = 0 := And.intro (moveTwoMirrors_f13 E6 E7 E8 E9 E10 E11 E12 E13 E14 E15 E16 E17 E18 E19 E20 E21 E22 E23 E24 E25 E26 E27 E28 E29 E30 E31 E32 E33 E34 E35 E36 E37 E38 E39 E40 E41 E42 E43 E44 E45 E46 E47 E48 E49 E50 E51 E52 E53 E54 E55 E56 E57 E58 E59 E60 E61 E62 E63 E64 E65 E66 E67 E68 E109 E110 E111 E112 E113 E114 E115 E116 E147 E149 E151 a_6_0_1 a_6_3_4 a_6_115_116) (moveTwoMirrors_f14 E6 E7 E8 E9 E10 E11 E12 E13 E14 E15 E16 E17 E18 E19 E20 E21 E22 E23 E24 E25 E26 E27 E28 E29 E30 E31 E32 E33 E34 E35 E36 E37 E38 E39 E40 E41 E42 E43 E44 E45 E46 E47 E48 E49 E50 E51 E52 E53 E54 E55 E56 E57 E58 E59 E60 E61 E62 E63 E64 E65 E66 E67 E68 E109 E110 E111 E112 E113 E114 E115 E116 E148 E150 E152 a_6_0_1 a_6_3_4 a_6_115_116)
     exact moveTwoMirrors_leaf moveTwoMirrors_r3 hσ hq h0 (moveTwoMirrors_An (hF a_6_0_1) (moveTwoMirrors_An (hF a_6_3_4) (moveTwoMirrors_An (hT b120) (moveTwoMirrors_An (hT b124) (moveTwoMirrors_An (hT b127) (moveTwoMirrors_An (hF a_1_130_0) (moveTwoMirrors_An (hT a_6_131_132) (moveTwoMirrors_An (hT a_6_115_116) (moveTwoMirrors_An (hT b131) (moveTwoMirrors_An (hT b133) (moveTwoMirrors_An (hT b115) (moveTwoMirrors_An (hT b143) (moveTwoMirrors_An (hT b132) (moveTwoMirrors_An (hT b134) (moveTwoMirrors_An (hT b116) (moveTwoMirrors_An (hT b146) (moveTwoMirrors_An (hT a_6_151_152) trivial))))))))))))))))) ⟨tab, mx⟩ hA
    ·
     have b131 : q 131 = 0 := moveTwoMirrors_f15 E6 E7 E8 E9 E10 E11 E12 E13 E14 E15 E16 E17 E18 E19 E20 E21 E22 E23 E24 E25 E26 E27 E28 E29 E30 E31 E32 E33 E34 E35 E36 E37 E38 E39 E40 E41 E42 E43 E44 E45 E46 E47 E48 E49 E50 E51 E52 E53 E54 E55 E56 E57 E58 E59 E60 E61 E62 E63 E64 E65 E66 E67 E68 E69 E70 E71 E72 E73 E74 E75 E76 E77 E78 E79 E80 E81 E82 E97 E98 E99 E100 E101 E102 E109 E110 E111 E112 E113 E114 E115 E116 E131 E132 a_6_0_1 a_6_3_4 a_6_131_132 a_6_115_116
     have b133 : q 133 = 0 := moveTwoMirrors_f16 E6 E7 E8 E9 E10 E11 E12 E13 E14 E15 E16 E17 E18 E19 E20 E21 E22 E23 E24 E25 E26 E27 E28 E29 E30 E31 E32 E33 E34 E35 E36 E37 E38 E39 E40 E41 E42 E43 E44 E45 E46 E47 E48 E49 E50 E51 E52 E53 E54 E55 E56 E57 E58 E59 E60 E61 E62 E63 E64 E65 E66 E67 E68 E69 E70 E71 E72 E73 E74 E75 E76 E77 E78 E79 E80 E81 E82 E83 E84 E85 E86 E87 E88 E89 E90 E91 E92 E93 E94 E95 E96 E97 E98 E99 E100 E101 E102 E103 E105 E107 E109 E110 E111 E112 E113 E114 E115 E116 E131 E132 E133 a_6_0_1 a_6_3_4 a_6_131_132 a_6_115_116
     by_cases b115 : q 115 = 0
     ·
      have b143 : q 143 = 0 := moveTwoMirrors_f17 E6 E7 E8 E9 E10 E11 E12 E13 E14 E15 E16 E17 E18 E19 E20 E21 E22 E23 E24 E25 E26 E27 E28 E29 E30 E31 E32 E33 E34 E35 E36 E37 E38 E39 E40 E41 E42 E43 E44 E45 E46 E47 E48 E49 E50 E51 E52 E53 E54 E55 E56 E57 E58 E59 E60 E61 E62 E63 E64 E65 E66 E67 E68 E69 E70 E71 E72 E73 E74 E75 E76 E77 E78 E79 E80 E81 E82 E83 E84 E85 E86 E87 E88 E89 E90 E91 E92 E93 E94 E95 E96 E97 E98 E99 E100 E101 E102 E103 E104 E105 E106 E107 E108 E109 E110 E111 E112 E113 E114 E115 E116 E131 E132 E133 E134 E141 E142 E143 a_6_0_1 a_6_3_4 a_6_131_132 a_6_115_116
      have b132 : q 132 = 0 := moveTwoMirrors_f18 E6 E7 E8 E9 E10 E11 E12 E13 E14 E15 E16 E17 E18 E19 E20 E21 E22 E23 E24 E25 E26 E27 E28 E29 E30 E31 E32 E33 E34 E35 E36 E37 E38 E39 E40 E41 E42 E43 E44 E45 E46 E47 E48 E49 E50 E51 E52 E53 E54 E55 E56 E57 E58 E59 E60 E61 E62 E63 E64 E65 E66 E67 E68 E69 E70 E71 E72 E73 E74 E75 E76 E77 E78 E79 E80 E81 E82 E97 E98 E99 E100 E101 E102 E109 E110 E111 E112 E113 E114 E115 E116 E131 E132 a_6_0_1 a_6_3_4 a_6_131_132 a_6_115_116
      have b134 : q 134 = 0 := moveTwoMirrors_f19 E6 E7 E8 E9 E10 E11 E12 E13 E14 E15 E16 E17 E18 E19 E20 E21 E22 E23 E24 E25 E26 E27 E28 E29 E30 E31 E32 E33 E34 E35 E36 E37 E38 E39 E40 E41 E42 E43 E44 E45 E46 E47 E48 E49 E50 E51 E52 E53 E54 E55 E56 E57 E58 E59 E60 E61 E62 E63 E64 E65 E66 E67 E68 E69 E70 E71 E72 E73 E74 E75 E76 E77 E78 E79 E80 E81 E82 E83 E84 E85 E86 E87 E88 E89 E90 E91 E92 E93 E94 E95 E96 E97 E98 E99 E100 E101 E102 E104 E106 E108 E109 E110 E111 E112 E113 E114 E115 E116 E131 E132 E134 a_6_0_1 a_6_3_4 a_6_131_132 a_6_115_116
      have b116 : ¬ (q 116 = 0) := moveTwoMirrors_f20 E6 E7 E8 E9 E10 E11 E12 E13 E14 E15 E16 E17 E18 E19 E20 E21 E22 E23 E24 E25 E26 E27 E28 E29 E30 E31 E32 E33 E34 E35 E36 E37 E38 E39 E40 E41 E42 E43 E44 E45 E46 E47 E48 E49 E50 E51 E52 E53 E54 E55 E56 E57 E58 E59 E60 E61 E62 E63 E64 E65 E66 E67 E68 E109 E110 E111 E112 E113 E114 E115 E116 a_6_0_1 a_6_3_4 a_6_115_116 b115
      have b137 : q 137 = 0 := moveTwoMirrors_f21 E6 E7 E8 E9 E10 E11 E12 E13 E14 E15 E16 E17 E18 E19 E20 E21 E22 E23 E24 E25 E26 E27 E28 E29 E30 E31 E32 E33 E34 E35 E36 E37 E38 E39 E40 E41 E42 E43 E44 E45 E46 E47 E48 E49 E50 E51 E52 E53 E54 E55 E56 E57 E58 E59 E60 E61 E62 E63 E64 E65 E66 E67 E68 E69 E70 E71 E72 E73 E74 E75 E76 E77 E78 E79 E80 E81 E82 E83 E84 E85 E86 E87 E88 E89 E90 E91 E92 E93 E94 E95 E96 E97 E98 E99 E100 E101 E102 E103 E104 E105 E106 E107 E108 E109 E110 E111 E112 E113 E114 E115 E116 E131 E132 E133 E134 E135 E136 E137 a_6_0_1 a_6_3_4 a_6_131_132 a_6_115_116
      have b140 : q 140 = 0 := moveTwoMirrors_f22 E6 E7 E8 E9 E10 E11 E12 E13 E14 E15 E16 E17 E18 E19 E20 E21 E22 E23 E24 E25 E26 E27 E28 E29 E30 E31 E32 E33 E34 E35 E36 E37 E38 E39 E40 E41 E42 E43 E44 E45 E46 E47 E48 E49 E50 E51 E52 E53 E54 E55 E56 E57 E58 E59 E60 E61 E62 E63 E64 E65 E66 E67 E68 E69 E70 E71 E72 E73 E74 E75 E76 E77 E78 E79 E80 E81 E82 E97 E98 E99 E100 E101 E102 E109 E110 E111 E112 E113 E114 E115 E116 E131 E132 E138 E139 E140 a_6_0_1 a_6_3_4 a_6_131_132 a_6_115_116
      have a_6_132_134 : q 132 = 0 ∧ q 134 = 0 := And.intro (moveTwoMirrors_f18 E6 E7 E8 E9 E10 E11 E12 E13 E14 E15 E16 E17 E18 E19 E20 E21 E22 E23 E24 E25 E26 E27 E28 E29 E30 E31 E32 E33 E34 E35 E36 E37 E38 E39 E40 E41 E42 E43 E44 E45 E46 E47 E48 E49 E50 E51 E52 E53 E54 E55 E56 E57 E58 E59 E60 E61 E62 E63 E64 E65 E66 E67 E68 E69 E70 E71 E72 E73 E74 E75 E76 E77 E78 E79 E80 E81 E82 E97 E98 E99 E100 E101 E102 E109 E110 E111 E112 E113 E114 E115 E116 E131 E132 a_6_0_1 a_6_3_4 a_6_131_132 a_6_115_116) (moveTwoMirrors_f19 E6 E7 E8 E9 E10 E11 E12 E13 E14 E15 E16 E17 E18 E19 E20 E21 E22 E23 E24 E25 E26 E27 E28 E29 E30 E31 E32 E33 E34 E35 E36 E37 E38 E39 E40 E41 E42 E43 E44 E45 E46 E47 E48 E49 E50 E51 E52 E53 E54 E55 E56 E57 E58 E59 E60 E61 E62 E63 E64 E65 E66 E67 E68 E69 E70 E71 E72 E73 E74 E75 E76 E77 E78 E79 E80 E81 E82 E83 E84 E85 E86 E87 E88 E89 E90 E91 E92 E93 E94 E95 E96 E97 E98 E99 E100 E101 E102 E104 E106 E108 E109 E110 E111 E112 E113 E114 E115 E116 E131 E132 E134 a_6_0_1 a_6_3_4 a_6_131_132 a_6_115_116)
      have b146 : q 146 = 0 := moveTwoMirrors_f23 E6 E7 E8 E9 E10 E11 E12 E13 E14 E15 E16 E17 E18 E19 E20 E21 E22 E23 E24 E25 E26 E27 E28 E29 E30 E31 E32 E33 E34 E35 E36 E37 E38 E39 E40 E41 E42 E43 E44 E45 E46 E47 E48 E49 E50 E51 E52 E53 E54 E55 E56 E57 E58 E59 E60 E61 E62 E63 E64 E65 E66 E67 E68 E69 E70 E71 E72 E73 E74 E75 E76 E77 E78 E79 E80 E81 E82 E97 E98 E99 E100 E101 E102 E109 E110 E111 E112 E113 E114 E115 E116 E131 E132 E144 E145 E146 a_6_0_1 a_6_3_4 a_6_131_132 a_6_115_116
      have a_6_151_152 : ¬ (q 151 = 0 ∧ q 152 = 0) := moveTwoMirrors_f24 E6 E7 E8 E9 E10 E11 E12 E13 E14 E15 E16 E17 E18 E19 E20 E21 E22 E23 E24 E25 E26 E27 E28 E29 E30 E31 E32 E33 E34 E35 E36 E37 E38 E39 E40 E41 E42 E43 E44 E45 E46 E47 E48 E49 E50 E51 E52 E53 E54 E55 E56 E57 E58 E59 E60 E61 E62 E63 E64 E65 E66 E67 E68 E109 E110 E111 E112 E113 E114 E115 E116 E147 E148 E149 E150 E151 E152 a_6_0_1 a_6_3_4 a_6_115_116
      exact moveTwoMirrors_leaf moveTwoMirrors_r4 hσ hq h0 (moveTwoMirrors_An (hF a_6_0_1) (moveTwoMirrors_An (hF a_6_3_4) (moveTwoMirrors_An (hT b120) (moveTwoMirrors_An (hT b124) (moveTwoMirrors_An (hT b127) (moveTwoMirrors_An (hF a_1_130_0) (moveTwoMirrors_An (hT a_6_131_132) (moveTwoMirrors_An (hF a_6_115_116) (moveTwoMirrors_An (hT b131) (moveTwoMirrors_An (hT b133) (moveTwoMirrors_An (hT b115) (moveTwoMirrors_An (hT b143) (moveTwoMirrors_An (hT b132) (moveTwoMirrors_An (hT b134) (moveTwoMirrors_An (hF b116) (moveTwoMirrors_An (hT b137) (moveTwoMirrors_An (hT b140) (moveTwoMirrors_An (hT a_6_132_134) (moveTwoMirrors_An (hT b146) (moveTwoMirrors_An (hF a_6_151_152) trivial)))))))))))))))))))) ⟨tab, mx⟩ hA
     ·
      have b143 : q 143 = 0 := moveTwoMirrors_f17 E6 E7 E8 E9 E10 E11 E12 E13 E14 E15 E16 E17 E18 E19 E20 E21 E22 E23 E24 E25 E26 E27 E28 E29 E30 E31 E32 E33 E34 E35 E36 E37 E38 E39 E40 E41 E42 E43 E44 E45 E46 E47 E48 E49 E50 E51 E52 E53 E54 E55 E56 E57 E58 E59 E60 E61 E62 E63 E64 E65 E66 E67 E68 E69 E70 E71 E72 E73 E74 E75 E76 E77 E78 E79 E80 E81 E82 E83 E84 E85 E86 E87 E88 E89 E90 E91 E92 E93 E94 E95 E96 E97 E98 E99 E100 E101 E102 E103 E104 E105 E106 E107 E108 E109 E110 E111 E112 E113 E114 E115 E116 E131 E132 E133 E134 E141 E142 E143 a_6_0_1 a_6_3_4 a_6_131_132 a_6_115_116
      have b137 : q 137 = 0 := moveTwoMirrors_f21 E6 E7 E8 E9 E10 E11 E12 E13 E14 E15 E16 E17 E18 E19 E20 E21 E22 E23 E24 E25 E26 E27 E28 E29 E30 E31 E32 E33 E34 E35 E36 E37 E38 E39 E40 E41 E42 E43 E44 E45 E46 E47 E48 E49 E50 E51 E52 E53 E54 E55 E56 E57 E58 E59 E60 E61 E62 E63 E64 E65 E66 E67 E68 E69 E70 E71 E72 E73 E74 E75 E76 E77 E78 E79 E80 E81 E82 E83 E84 E85 E86 E87 E88 E89 E90 E91 E92 E93 E94 E95 E96 E97 E98 E99 E100 E101 E102 E103 E104 E105 E106 E107 E108 E109 E110 E111 E112 E113 E114 E115 E116 E131 E132 E133 E134 E135 E136 E137 a_6_0_1 a_6_3_4 a_6_131_132 a_6_115_116
      have b140 : q 140 = 0 := moveTwoMirrors_f22 E6 E7 E8 E9 E10 E11 E12 E13 E14 E15 E16 E17 E18 E19 E20 E21 E22 E23 E24 E25 E26 E27 E28 E29 E30 E31 E32 E33 E34 E35 E36 E37 E38 E39 E40 E41 E42 E43 E44 E45 E46 E47 E48 E49 E50 E51 E52 E53 E54 E55 E56 E57 E58 E59 E60 E61 E62 E63 E64 E65 E66 E67 E68 E69 E70 E71 E72 E73 E74 E75 E76 E77 E78 E79 E80 E81 E82 E97 E98 E99 E100 E101 E102 E109 E110 E111 E112 E113 E114 E115 E116 E131 E132 E138 E139 E140 a_6_0_1 a_6_3_4 a_6_131_132 a_6_115_116
      have a_6_131_133 : q 131 = 0 ∧ q 133 = 0 := And.intro (moveTwoMirrors_f15 E6 E7 E8 E9 E10 E11 E12 E13 E14 E15 E16 E17 E18 E19 E20 E21 E22 E23 E24 E25 E26 E27 E28 E29 E30 E31 E32 E33 E34 E35 E36 E37 E38 E39 E40 E41 E42 E43 E44 E45 E46 E47 E48 E49 E50 E51 E52 E53 E54 E55 E56 E57 E58 E59 E60 E61 E62 E63 E64 E65 E66 E67 E68 E69 E70 E71 E72 E73 E74 E75 E76 E77 E78 E79 E80 E81 E82 E97 E98 E99 E100 E101 E102 E109 E110 E111 E112 E113 E114 E115 E116 E131 E132 a_6_0_1 a_6_3_4 a_6_131_132 a_6_115_116) (moveTwoMirrors_f16 E6 E7 E8 E9 E10 E11 E12 E13 E14 E15 E16 E17 E18 E19 E20 E21 E22 E23 E24 E25 E26 E27 E28 E29 E30 E31 E32 E33 E34 E35 E36 E37 E38 E39 E40 E41 E42 E43 E44 E45 E46 E47 E48 E49 E50 E51 E52 E53 E54 E55 E56 E57 E58 E59 E60 E61 E62 E63 E64 E65 E66 E67 E68 E69 E70 E71 E72 E73 E74 E75 E76 E77 E78 E79 E80 E81 E82 E83 E84 E85 E86 E87 E88 E89 E90 E91 E92 E93 E94 E95 E96 E97 E98 E99 E100 E101 E102 E103 E105 E107 E109 E110 E111 E112 E113 E114 E115 E116 E131 E132 E133 a_6_0_1 a_6_3_4 a_6_131_132 a_6_115_116)
      have b146 : q 146 = 0 := moveTwoMirrors_f23 E6 E7 E8 E9 E10 E11 E12 E13 E14 E15 E16 E17 E18 E19 E20 E21 E22 E23 E24 E25 E26 E27 E28 E29 E30 E31 E32 E33 E34 E35 E36 E37 E38 E39 E40 E41 E42 E43 E44 E45 E46 E47 E48 E49 E50 E51 E52 E53 E54 E55 E56 E57 E58 E59 E60 E61 E62 E63 E64 E65 E66 E67 E68 E69 E70 E71 E72 E73 E74 E75 E76 E77 E78 E79 E80 E81 E82 E97 E98 E99 E100 E101 E102 E109 E110 E111 E112 E113 E114 E115 E116 E131 E132 E144 E145 E146 a_6_0_1 a_6_3_4 a_6_131_132 a_6_115_116
      have a_6_151_152 : ¬ (q 151 = 0 ∧ q 152 = 0) := moveTwoMirrors_f24 E6 E7 E8 E9 E10 E11 E12 E13 E14 E15 E16 E17 E18 E19 E20 E21 E22 E23 E24 E25 E26 E27 E28 E29 E30 E31 E32 E33 E34 E35 E36 E37 E38 E39 E40 E41 E42 E43 E44 E45 E46 E47 E48 E49 E50 E51 E52 E53 E54 E55 E56 E57 E58 E59 E60 E61 E62 E63 E64 E65 E66 E67 E68 E109 E110 E111 E112 E113 E114 E115 E116 E147 E148 E149 E150 E151 E152 a_6_0_1 a_6_3_4 a_6_115_116
      exact moveTwoMirrors_leaf moveTwoMirrors_r5 hσ hq h0 (moveTwoMirrors_An (hF a_6_0_1) (moveTwoMirrors_An (hF a_6_3_4) (moveTwoMirrors_An (hT b120) (moveTwoMirrors_An (hT b124) (moveTwoMirrors_An (hT b127) (moveTwoMirrors_An (hF a_1_130_0) (moveTwoMirrors_An (hT a_6_131_132) (moveTwoMirrors_An (hF a_6_115_116) (moveTwoMirrors_An (hT b131) (moveTwoMirrors_An (hT b133) (moveTwoMirrors_An (hF b115) (moveTwoMirrors_An (hT b143) (moveTwoMirrors_An (hT b137) (moveTwoMirrors_An (hT b140) (moveTwoMirrors_An (hT a_6_131_133) (moveTwoMirrors_An (hT b146) (moveTwoMirrors_An (hF a_6_151_152) trivial))))))))))))))))) ⟨tab, mx⟩ hA
   ·
    have b131 : ¬ (q 131 = 0) := moveTwoMirrors_f25 E6 E7 E8 E9 E10 E11 E12 E13 E14 E15 E16 E17 E18 E19 E20 E21 E22 E23 E24 E25 E26 E27 E28 E29 E30 E31 E32 E33 E34 E35 E36 E37 E38 E39 E40 E41 E42 E43 E44 E45 E46 E47 E48 E49 E50 E51 E52 E53 E54 E55 E56 E57 E58 E59 E60 E61 E62 E63 E64 E65 E66 E67 E68 E69 E70 E71 E72 E73 E74 E75 E76 E77 E78 E79 E80 E81 E82 E97 E98 E99 E100 E101 E102 E131 E132 a_6_0_1 a_6_3_4 a_6_131_132
    have b143 : ¬ (q 143 = 0) := moveTwoMirrors_f26 E6 E7 E8 E9 E10 E11 E12 E13 E14 E15 E16 E17 E18 E19 E20 E21 E22 E23 E24 E25 E26 E27 E28 E29 E30 E31 E32 E33 E34 E35 E36 E37 E38 E39 E40 E41 E42 E43 E44 E45 E46 E47 E48 E49 E50 E51 E52 E53 E54 E55 E56 E57 E58 E59 E60 E61 E62 E63 E64 E65 E66 E67 E68 E69 E70 E71 E72 E73 E74 E75 E76 E77 E78 E79 E80 E81 E82 E83 E84 E85 E86 E87 E88 E89 E90 E91 E92 E93 E94 E95 E96 E97 E98 E99 E100 E101 E102 E103 E104 E105 E106 E107 E108 E131 E132 E133 E134 E141 E142 E143 a_6_0_1 a_6_3_4 a_6_131_132
    have b146 : ¬ (q 146 = 0) := moveTwoMirrors_f27 E6 E7 E8 E9 E10 E11 E12 E13 E14 E15 E16 E17 E18 E19 E20 E21 E22 E23 E24 E25 E26 E27 E28 E29 E30 E31 E32 E33 E34 E35 E36 E37 E38 E39 E40 E41 E42 E43 E44 E45 E46 E47 E48 E49 E50 E51 E52 E53 E54 E55 E56 E57 E58 E59 E60 E61 E62 E63 E64 E65 E66 E67 E68 E69 E70 E71 E72 E73 E74 E75 E76 E77 E78 E79 E80 E81 E82 E97 E98 E99 E100 E101 E102 E131 E132 E144 E145 E146 a_6_0_1 a_6_3_4 a_6_131_132
    have a_3_153_156 : q 153 = q 156 := moveTwoMirrors_f28 E6 E7 E8 E9 E10 E11 E12 E13 E14 E15 E16 E17 E18 E19 E20 E21 E22 E23 E24 E25 E26 E27 E28 E29 E30 E31 E32 E33 E34 E35 E36 E37 E38 E39 E40 E41 E42 E43 E44 E45 E46 E47 E48 E49 E50 E51 E52 E53 E54 E55 E56 E57 E58 E59 E60 E61 E62 E63 E64 E65 E66 E67 E68 E69 E70 E71 E72 E73 E74 E75 E76 E77 E78 E79 E80 E81 E82 E83 E84 E85 E86 E87 E88 E89 E90 E91 E92 E93 E94 E95 E96 E97 E98 E99 E100 E101 E102 E103 E104 E105 E106 E107 E108 E109 E110 E111 E112 E113 E114 E115 E116 E131 E132 E133 E134 E135 E136 E137 E141 E142 E143 E144 E145 E146 E148 E150 E152 E153 E155 E156 a_6_0_1 a_6_3_4 a_6_131_132
    have a_3_154_157 : q 154 = q 157 := moveTwoMirrors_f29 E6 E7 E8 E9 E10 E11 E12 E13 E14 E15 E16 E17 E18 E19 E20 E21 E22 E23 E24 E25 E26 E27 E28 E29 E30 E31 E32 E33 E34 E35 E36 E37 E38 E39 E40 E41 E42 E43 E44 E45 E46 E47 E48 E49 E50 E51 E52 E53 E54 E55 E56 E57 E58 E59 E60 E61 E62 E63 E64 E65 E66 E67 E68 E69 E70 E71 E72 E73 E74 E75 E76 E77 E78 E79 E80 E81 E82 E83 E84 E85 E86 E87 E88 E89 E90 E91 E92 E93 E94 E95 E96 E97 E98 E99 E100 E101 E102 E103 E104 E105 E106 E107 E108 E109 E110 E111 E112 E113 E114 E115 E116 E131 E132 E133 E134 E138 E139 E140 E141 E142 E143 E144 E145 E146 E147 E149 E151 E154 E157 a_6_0_1 a_6_3_4 a_6_131_132
    exact moveTwoMirrors_leaf moveTwoMirrors_r6 hσ hq h0 (moveTwoMirrors_An (hF a_6_0_1) (moveTwoMirrors_An (hF a_6_3_4) (moveTwoMirrors_An (hT b120) (moveTwoMirrors_An (hT b124) (moveTwoMirrors_An (hT b127) (moveTwoMirrors_An (hF a_1_130_0) (moveTwoMirrors_An (hF a_6_131_132) (moveTwoMirrors_An (hF b131) (moveTwoMirrors_An (hF b143) (moveTwoMirrors_An (hF b146) (moveTwoMirrors_An (hT a_3_153_156) (moveTwoMirrors_An (hT a_3_154_157) trivial)))))))))))) ⟨tab, mx⟩ hA
end Go.Proofs.YtkcikcnimkofkaaGreatDoor
