/- Part 13 of the walks and of the mathematics under them: VY VSZ CFmoved MVG. -/
import Derived.Test.YtkcikcnimkofkaaGreatDoorA12
set_option maxHeartbeats 16000000
set_option maxRecDepth 100000
/- VY -/
namespace Go.Proofs.YtkcikcnimkofkaaGreatDoor
open Go.RowKit Cx
theorem den_num (t : Rat) : t * (t.den : Rat) = ((t.num : Int) : Rat) := by
 conv => lhs; lhs; rw [← Rat.mkRat_self t]
 have h0 : (t.den : Rat) ≠ 0 := fun h => t.den_nz (by exact_mod_cast h)
 rw [Rat.mkRat_eq_div, Rat.div_mul_cancel h0]
theorem whole {q : Rat} (h : q.den = 1) : q = ((q.num : Int) : Rat) := by
 have := den_num q
 rw [h] at this
 rw [← this]
 show q = q * ((1 : Nat) : Rat)
 exact (Rat.mul_one q).symm
end Go.Proofs.YtkcikcnimkofkaaGreatDoor
/- VSZ -/
namespace Go.Proofs.YtkcikcnimkofkaaGreatDoor
open Go.RowKit Cx
def szW (Z : List Nat) (I : List Bool) (z : Nat) (b : Bool) (nd : Nd) : Bool := match nd.1, nd.2 with
 | 0, [_, n, d] => (Nat.blt n (2 ^ z) && (Nat.blt 0 d && Nat.blt d (2 ^ z))) && (!b || Nat.beq d 1)
 | 1, [_] => Nat.ble 3495259 z && !b
 | 2, [a, c] => (match Z[a]?, Z[c]?, I[a]?, I[c]? with
  | some x, some y, some true, some true => Nat.ble (Nat.max x y + 1) z
  | some x, some y, _, _ => Nat.ble (x + y + 1) z && !b
  | _, _, _, _ => false)
 | 3, [a, c] => (match Z[a]?, Z[c]?, I[a]?, I[c]? with
  | some x, some y, some true, some true => Nat.ble (Nat.max x y + 1) z
  | some x, some y, _, _ => Nat.ble (x + y + 1) z && !b
  | _, _, _, _ => false)
 | 4, [a, c] => (match Z[a]?, Z[c]?, I[a]?, I[c]? with
  | some x, some y, some true, some true => Nat.ble (x + y) z
  | some x, some y, _, _ => Nat.ble (x + y) z && !b
  | _, _, _, _ => false)
 | 5, [a] => (match Z[a]?, I[a]? with
  | some x, some true => Nat.ble x z
  | some x, _ => Nat.ble x z && !b
  | _, _ => false)
 | 6, [a, c] => (match Z[a]?, Z[c]? with
  | some x, some y => Nat.ble (x + y) z && !b
  | _, _ => false)
 | 8, i :: xs => (match getsO Z xs with
  | some zs => Nat.blt i xs.length && (Nat.ble ((xs.length + 1) * maxL zs + 1) z || (xs.all (fun a => match I[a]? with
   | some true => true
   | _ => false) && (match xs[i]? with
   | some a => (match Z[a]? with
    | some x => Nat.ble (x + 1) z
    | none => false)
   | none => false)))
  | none => false)
 | _, _ => false
def szC (Z : List Nat) (I : List Bool) : List Nd → List Nat → List Bool → Bool
 | [], [], [] => true
 | nd :: ns, z :: zs, b :: bs => (szW Z I z b nd && Nat.ble z 1000000000000) && szC Z I ns zs bs
 | _, _, _ => false
theorem szC_get {Z : List Nat} {I : List Bool} : ∀ {ns : List Nd} {zs : List Nat} {bs : List Bool} {i z : Nat}, szC Z I ns zs bs = true → zs[i]? = some z → ∃ nd b, ns[i]? = some nd ∧ bs[i]? = some b ∧ szW Z I z b nd = true ∧ z ≤ 1000000000000
 | [], [], [], _, _, _, h => by simp at h
 | [], [], _ :: _, _, _, h, _ => by cases h
 | [], _ :: _, _, _, _, h, _ => by cases h
 | _ :: _, [], _, _, _, h, _ => by cases h
 | _ :: _, _ :: _, [], _, _, h, _ => by cases h
 | nd :: ns, z' :: zs, b :: bs, 0, z, h, e => by
  have : z' = z := by simpa using e
  subst this
  unfold szC at h
  simp only [Bool.and_eq_true, Nat.ble_eq] at h
  exact ⟨nd, b, rfl, rfl, h.1.1, h.1.2⟩
 | nd :: ns, z' :: zs, b :: bs, i + 1, z, h, e => by
  unfold szC at h
  rw [Bool.and_eq_true] at h
  obtain ⟨nd2, b2, g1, g2, g3⟩ := szC_get (ns := ns) (zs := zs) (bs := bs) h.2 (show zs[i]? = some z by simpa using e)
  exact ⟨nd2, b2, by simpa using g1, by simpa using g2, g3⟩
theorem szC_len {Z : List Nat} {I : List Bool} : ∀ {ns : List Nd} {zs : List Nat} {bs : List Bool}, szC Z I ns zs bs = true → ns.length = zs.length
 | [], [], [], _ => rfl
 | [], [], _ :: _, h => by cases h
 | [], _ :: _, _, h => by cases h
 | _ :: _, [], _, h => by cases h
 | _ :: _, _ :: _, [], h => by cases h
 | _ :: _, _ :: _, _ :: _, h => by
  unfold szC at h
  rw [Bool.and_eq_true] at h
  exact congrArg (· + 1) (szC_len h.2)
structure QW (z : Nat) (x : Rat) : Prop where
 qs : QS z x
 wh : x.den = 1
theorem QW.of {z : Nat} {n : Int} (h : n.natAbs < 2 ^ z) (hz : 0 < z) : QW z ((n : Int) : Rat) :=
 ⟨⟨by simpa using h, by
  show ((n : Int) : Rat).den < 2 ^ z
  rw [Rat.den_intCast]
  exact Nat.one_lt_two_pow (by omega)⟩, Rat.den_intCast n⟩
theorem QW.mono {k l : Nat} {x : Rat} (h : QW k x) (hk : k ≤ l) : QW l x := ⟨h.qs.mono hk, h.wh⟩
theorem two_max {a b x y : Nat} (h1 : a < 2 ^ x) (h2 : b < 2 ^ y) : a + b < 2 ^ (Nat.max x y + 1) := by
 have e1 : 2 ^ x ≤ 2 ^ Nat.max x y := Nat.pow_le_pow_right (by decide) (Nat.le_max_left x y)
 have e2 : 2 ^ y ≤ 2 ^ Nat.max x y := Nat.pow_le_pow_right (by decide) (Nat.le_max_right x y)
 rw [Nat.pow_succ]
 omega
theorem QW.add {x y : Nat} {a b : Rat} (h1 : QW x a) (h2 : QW y b) : QW (Nat.max x y + 1) (a + b) := by
 rw [whole h1.wh, whole h2.wh, ← Rat.intCast_add]
 refine QW.of ?_ (by omega)
 have := two_max h1.qs.num h2.qs.num
 omega
theorem QW.sub {x y : Nat} {a b : Rat} (h1 : QW x a) (h2 : QW y b) : QW (Nat.max x y + 1) (a - b) := by
 rw [whole h1.wh, whole h2.wh, ← Rat.intCast_sub]
 refine QW.of ?_ (by omega)
 have := two_max h1.qs.num h2.qs.num
 omega
theorem QW.mul {x y : Nat} {a b : Rat} (h1 : QW x a) (h2 : QW y b) : QW (x + y) (a * b) := by
 refine ⟨h1.qs.mul h2.qs, ?_⟩
 rw [whole h1.wh, whole h2.wh, ← Rat.intCast_mul]
 exact Rat.den_intCast _
theorem QW.neg {x : Nat} {a : Rat} (h1 : QW x a) : QW x (-a) := ⟨h1.qs.neg, h1.wh⟩
theorem lD_one : ∀ {qs : List Rat} {m : Nat}, (∀ q ∈ qs, q.den = 1) → qs.foldl (fun m q => m * (q.den / Nat.gcd m q.den)) m = m
 | [], _, _ => rfl
 | q :: qs, m, h => by
  rw [List.foldl_cons, h q List.mem_cons_self, Nat.gcd_one_right, Nat.div_self (by decide), Nat.mul_one]
  exact lD_one fun p hp => h p (List.mem_cons_of_mem _ hp)
theorem QW.fac {z : Nat} {qs : List Rat} {x : Rat} (hx : QS z x) (h : x ∈ qs) (hw : ∀ y ∈ qs, y.den = 1) : QS (z + 1) (x * fac qs) := by
 have hl : lD qs = 1 := lD_one hw
 refine ⟨?_, ?_⟩
 ·rw [fac_abs h, hl, hw x h, Nat.div_self (by decide), Nat.mul_one]
  exact Nat.lt_of_le_of_lt (Nat.div_le_self _ _) (Nat.lt_of_lt_of_le hx.num (Nat.pow_le_pow_right (by decide) (by omega)))
 ·rw [fac_den h]
  exact Nat.one_lt_two_pow (by omega)
theorem ten_three : ∀ n : Nat, 10 ^ n ≤ 2 ^ ((10 * n + 2) / 3)
 | 0 => by decide
 | 1 => by decide
 | 2 => by decide
 | n + 3 => by
  have h := ten_three n
  have e : (10 * (n + 3) + 2) / 3 = (10 * n + 2) / 3 + 10 := by omega
  rw [e, Nat.pow_add, Nat.pow_add]
  exact Nat.mul_le_mul h (by decide)
theorem QS.rd3 (l : List UInt8) : QS ((10 * l.length + 2) / 3 + 5) (Cx.rd l) := by
 have key : ∀ {m : List UInt8}, digs m = true → dv m < 2 ^ ((10 * m.length + 2) / 3) := fun {m} h => Nat.lt_of_lt_of_le (dv_lt (digs_all h)) (ten_three _)
 unfold Cx.rd
 split
 ·rename_i h
  rw [Bool.and_eq_true] at h
  have h1 := key h.1
  have h2 := key h.2
  have h3 := up_len (tailOf l)
  have h4 := low_len (tailOf l)
  have h5 := tail_len l
  apply QS.mkr
  ·rw [sg_abs]; exact Nat.lt_of_lt_of_le h1 (Nat.pow_le_pow_right (by decide) (by omega))
  ·exact Nat.lt_of_lt_of_le h2 (Nat.pow_le_pow_right (by decide) (by omega))
 ·exact QS.zero.mono (by omega)
section
variable {N : List Nd} {Z : List Nat} {I : List Bool} {q : Nat → Rat}
theorem sizes_okW {σ : Nat → ByteArray} (hσ : ∀ j, (σ j).size ≤ 1048576) (hw : wfB 0 N = true) (hz : szC Z I N Z I = true) (hq : ∀ (a : Nat) nd, N[a]? = some nd → q a = valN σ q nd) (h0 : ∀ a, N.length ≤ a → q a = 0) : (∀ (a : Nat) z, Z[a]? = some z → QS z (q a)) ∧ ∀ a, QS 1000000000000 (q a) := by
 have h2 : ∀ (a : Nat) z, Z[a]? = some z → QS z (q a) ∧ (I[a]? = some true → (q a).den = 1) := by
  intro a
  induction a using Nat.strongRecOn with
  | ind a ih =>
   intro z hz'
   obtain ⟨nd, b, hn, hb, hs, _⟩ := szC_get hz hz'
   have hwf := wfB_get hw hn
   rw [Nat.zero_add] at hwf
   rw [hq a nd hn, hb]
   obtain ⟨op, xs⟩ := nd
   unfold szW at hs
   unfold valN
   unfold wfN at hwf
   dsimp only at hs hwf ⊢
   have W : ∀ {c x}, c < a → Z[c]? = some x → I[c]? = some true → QW x (q c) := fun hc hx hi => ⟨(ih _ hc _ hx).1, (ih _ hc _ hx).2 hi⟩
   have no : ∀ {v : Rat}, b = false → (some b = some true → v.den = 1) := fun e h => by rw [e] at h; cases h
   split at hs
   ·rename_i s n d
    simp only [Bool.and_eq_true] at hs
    obtain ⟨⟨h1, h2, h3⟩, h4⟩ := hs
    refine ⟨QS.const (by simpa [Nat.blt_eq] using h1) (by simpa [Nat.blt_eq] using h2) (by simpa [Nat.blt_eq] using h3), fun e => ?_⟩
    rw [show b = true from Option.some.inj e] at h4
    have hd : d = 1 := by simpa using h4
    subst hd
    show (if s = 0 then mkRat (n : Int) 1 else mkRat (-(n : Int)) 1).den = 1
    split
    ·rw [Rat.mkRat_one]
     exact Rat.den_intCast _
    ·rw [Rat.mkRat_one]
     exact Rat.den_intCast _
   ·rename_i j
    simp only [Bool.and_eq_true, Nat.ble_eq, Bool.not_eq_true'] at hs
    exact ⟨QS.mono (QS.rd3 _) (by have := hσ j; rw [str_len]; omega), no hs.2⟩
   ·simp only [List.all_cons, List.all_nil, Bool.and_true, Bool.and_eq_true] at hwf
    have l1 := (by simpa [Nat.blt_eq] using hwf.1 : _ < a)
    have l2 := (by simpa [Nat.blt_eq] using hwf.2 : _ < a)
    split at hs
    ·rename_i x y hx hy i1 i2
     rw [Nat.ble_eq] at hs
     have := ((W l1 hx i1).add (W l2 hy i2)).mono hs
     exact ⟨this.qs, fun _ => this.wh⟩
    ·rename_i x y hx hy _
     simp only [Bool.and_eq_true, Nat.ble_eq, Bool.not_eq_true'] at hs
     exact ⟨((ih _ l1 x hx).1.add (ih _ l2 y hy).1).mono hs.1, no hs.2⟩
    ·cases hs
   ·simp only [List.all_cons, List.all_nil, Bool.and_true, Bool.and_eq_true] at hwf
    have l1 := (by simpa [Nat.blt_eq] using hwf.1 : _ < a)
    have l2 := (by simpa [Nat.blt_eq] using hwf.2 : _ < a)
    split at hs
    ·rename_i x y hx hy i1 i2
     rw [Nat.ble_eq] at hs
     have := ((W l1 hx i1).sub (W l2 hy i2)).mono hs
     exact ⟨this.qs, fun _ => this.wh⟩
    ·rename_i x y hx hy _
     simp only [Bool.and_eq_true, Nat.ble_eq, Bool.not_eq_true'] at hs
     exact ⟨((ih _ l1 x hx).1.sub (ih _ l2 y hy).1).mono hs.1, no hs.2⟩
    ·cases hs
   ·simp only [List.all_cons, List.all_nil, Bool.and_true, Bool.and_eq_true] at hwf
    have l1 := (by simpa [Nat.blt_eq] using hwf.1 : _ < a)
    have l2 := (by simpa [Nat.blt_eq] using hwf.2 : _ < a)
    split at hs
    ·rename_i x y hx hy i1 i2
     rw [Nat.ble_eq] at hs
     have := ((W l1 hx i1).mul (W l2 hy i2)).mono hs
     exact ⟨this.qs, fun _ => this.wh⟩
    ·rename_i x y hx hy _
     simp only [Bool.and_eq_true, Nat.ble_eq, Bool.not_eq_true'] at hs
     exact ⟨((ih _ l1 x hx).1.mul (ih _ l2 y hy).1).mono hs.1, no hs.2⟩
    ·cases hs
   ·simp only [List.all_cons, List.all_nil, Bool.and_true] at hwf
    have l1 := (by simpa [Nat.blt_eq] using hwf : _ < a)
    split at hs
    ·rename_i x hx i1
     rw [Nat.ble_eq] at hs
     have := (W l1 hx i1).neg.mono hs
     exact ⟨this.qs, fun _ => this.wh⟩
    ·rename_i x hx _
     simp only [Bool.and_eq_true, Nat.ble_eq, Bool.not_eq_true'] at hs
     exact ⟨((ih _ l1 x hx).1.neg).mono hs.1, no hs.2⟩
    ·cases hs
   ·simp only [List.all_cons, List.all_nil, Bool.and_true, Bool.and_eq_true] at hwf
    split at hs
    ·rename_i x y hx hy
     simp only [Bool.and_eq_true, Nat.ble_eq, Bool.not_eq_true'] at hs
     exact ⟨((ih _ (by simpa [Nat.blt_eq] using hwf.1) x hx).1.div (ih _ (by simpa [Nat.blt_eq] using hwf.2) y hy).1).mono hs.1, no hs.2⟩
    ·cases hs
   ·rename_i i ys
    split at hs
    ·rename_i zs hzs
     rw [Bool.and_eq_true] at hs
     have hi : i < ys.length := by simpa [Nat.blt_eq] using hs.1
     have hwf' : ys.all (Nat.blt · a) = true := hwf
     rw [List.all_eq_true] at hwf'
     have hlt : ∀ c ∈ ys, c < a := fun c hc => by simpa [Nat.blt_eq] using hwf' c hc
     have hm : q ys[i] ∈ ys.map q := List.mem_map_of_mem (List.getElem_mem hi)
     have hg : (ys.map q).getD i 0 = q ys[i] := by
      rw [List.getD_eq_getElem?_getD, List.getElem?_map, List.getElem?_eq_getElem hi]
      rfl
     show QS z ((ys.map q).getD i 0 * fac (ys.map q)) ∧ (some b = some true → ((ys.map q).getD i 0 * fac (ys.map q)).den = 1)
     rw [hg]
     refine ⟨?_, fun _ => fac_den hm⟩
     rcases Bool.or_eq_true _ _ ▸ hs.2 with h3 | h3
     ·rw [Nat.ble_eq] at h3
      have hall : ∀ y ∈ ys.map q, QS (maxL zs) y := fun y hy => by
       obtain ⟨c, hc, rfl⟩ := List.mem_map.1 hy
       obtain ⟨z', hm', hz2⟩ := getsO_get hzs c hc
       exact (ih c (hlt c hc) z' hz2).1.mono (le_maxL z' hm')
      have := QS.facN hall (x := q ys[i]) hm
      rw [List.length_map] at this
      exact this.mono h3
     ·rw [Bool.and_eq_true, List.all_eq_true] at h3
      obtain ⟨h4, h5⟩ := h3
      have hwh : ∀ y ∈ ys.map q, y.den = 1 := fun y hy => by
       obtain ⟨c, hc, rfl⟩ := List.mem_map.1 hy
       obtain ⟨z', _, hz2⟩ := getsO_get hzs c hc
       refine (ih c (hlt c hc) z' hz2).2 ?_
       have := h4 c hc
       split at this
       ·assumption
       ·cases this
      rw [List.getElem?_eq_getElem hi] at h5
      dsimp only at h5
      split at h5
      ·rename_i x hx
       rw [Nat.ble_eq] at h5
       exact (QW.fac (ih _ (hlt _ (List.getElem_mem hi)) x hx).1 hm hwh).mono h5
      ·cases h5
    ·cases hs
   ·cases hs
 refine ⟨fun a z h => (h2 a z h).1, fun a => ?_⟩
 have hl := szC_len hz
 by_cases ha : a < Z.length
 ·obtain ⟨nd, b, _, _, _, hle⟩ := szC_get hz (List.getElem?_eq_getElem ha)
  exact (h2 a _ (List.getElem?_eq_getElem ha)).1.mono hle
 ·rw [h0 a (by omega)]
  exact QS.zero.mono (by decide)
theorem hy_ofW {L C : List (List Nat × Nat)} {σ : Nat → ByteArray} {H : List (Nat × Nat × Nat × Nat)} (hσ : ∀ j, (σ j).size ≤ 1048576) (hw : wfB 0 N = true) (hz : szC Z I N Z I = true) (hl : litB N L = true) (hcn : canB N C = true) (hq : ∀ (a : Nat) nd, N[a]? = some nd → q a = valN σ q nd) (h0 : ∀ a, N.length ≤ a → q a = 0) (hH : hAll q H) : Hy N H L C Z q σ where
 nat := hq
 qs := (sizes_okW hσ hw hz hq h0).2
 zs := (sizes_okW hσ hw hz hq h0).1
 par := hσ
 lit := fun s b h => lit_rd hl hq h
 k0 := fun a r h => kn_at hH h
 k1 := fun a r h => kn_at hH h
 k2 := fun a r h => kn_at hH h
 k3 := fun a b r h => kn_at hH h
 k4 := fun l a b r h1 h2 => by
  have h3 : Nat.beq 1 r = true ↔ q a = q b := kn_at hH h2
  rw [h3, ← can_tx hcn hq h1]
  exact ⟨fun e => by rw [e], fun e => tellS_inj (bytesN_inj e)⟩
 k6 := fun a b r h => kn_at hH h
 k5 := fun a r h => kn_at hH h
end
end Go.Proofs.YtkcikcnimkofkaaGreatDoor
/- CFmoved -/
namespace Go.Proofs.YtkcikcnimkofkaaGreatDoor
open Go.RowKit Cx
theorem closed_moved : Closed 50 :=
 closed_told (N := [(0, [0, 1, 1]), (0, [0, 0, 1]), (4, [0, 1]), (4, [1, 1]), (2, [2, 3]), (2, [4, 1]), (5, [5]), (4, [0, 6]), (4, [1, 6]), (4, [0, 0]), (2, [9, 3]), (6, [7, 10]), (6, [8, 10]), (0, [0, 2, 1]), (4, [11, 13]), (4, [12, 13]), (2, [1, 14]), (2, [1, 15]), (2, [10, 1]), (5, [18]), (4, [0, 19]), (4, [1, 19]), (6, [20, 10]), (6, [21, 10]), (4, [22, 13]), (4, [23, 13]), (2, [0, 24]), (2, [1, 25]), (3, [26, 16]), (3, [27, 17]), (4, [1, 0]), (2, [2, 30]), (2, [31, 1]), (5, [32]), (4, [0, 33]), (4, [1, 33]), (6, [34, 10]), (6, [35, 10]), (4, [36, 13]), (4, [37, 13]), (2, [1, 38]), (2, [0, 39]), (3, [40, 16]), (3, [41, 17]), (0, [1, 1, 1]), (2, [4, 44]), (5, [45]), (4, [0, 46]), (4, [1, 46]), (6, [47, 10]), (6, [48, 10]), (4, [49, 13]), (4, [50, 13]), (2, [1, 51]), (2, [1, 52]), (2, [10, 44]), (5, [55]), (4, [0, 56]), (4, [1, 56]), (6, [57, 10]), (6, [58, 10]), (4, [59, 13]), (4, [60, 13]), (2, [0, 61]), (2, [1, 62]), (3, [63, 53]), (3, [64, 54]), (2, [31, 44]), (5, [67]), (4, [0, 68]), (4, [1, 68]), (6, [69, 10]), (6, [70, 10]), (4, [71, 13]), (4, [72, 13]), (2, [1, 73]), (2, [0, 74]), (3, [75, 53]), (3, [76, 54]), (4, [65, 28]), (4, [66, 28]), (4, [77, 29]), (4, [78, 29]), (2, [79, 81]), (2, [80, 82]), (4, [65, 42]), (4, [66, 42]), (4, [77, 43]), (4, [78, 43]), (2, [85, 87]), (2, [86, 88]), (4, [65, 16]), (4, [66, 16]), (4, [77, 17]), (4, [78, 17]), (2, [91, 93]), (2, [92, 94]), (2, [95, 53]), (2, [96, 54]), (4, [83, 83]), (4, [84, 84]), (2, [99, 100]), (3, [101, 0]), (4, [89, 89]), (4, [90, 90]), (2, [103, 104]), (3, [105, 0]), (4, [83, 89]), (4, [84, 90]), (2, [107, 108]), (4, [83, 90]), (4, [84, 89]), (3, [110, 111]), (3, [83, 0]), (3, [84, 1]), (0, [0, 3, 1]), (0, [0, 4, 1]), (4, [28, 115]), (4, [29, 115]), (4, [42, 116]), (4, [43, 116]), (2, [117, 119]), (2, [118, 120]), (2, [121, 16]), (2, [122, 17]), (0, [1, 3, 1])]) (H := [(0, 0, 0, 0), (0, 102, 0, 1), (0, 106, 0, 1), (0, 109, 0, 1), (1, 112, 0, 0), (0, 113, 0, 1), (0, 114, 0, 1), (0, 97, 0, 0), (4, 83, 0, 1), (4, 89, 1, 1), (4, 97, 13, 1), (4, 84, 1, 1), (4, 90, 0, 1), (4, 98, 1, 1), (4, 123, 125, 1), (4, 124, 116, 1)]) (K := [(218, [.inr (3, 9, 0, 0, 0)]), (218, [.inr (3, 121, 0, 0, 0)]), (208, [.inr (3, 227, 0, 0, 0)]), (208, [.inr (3, 238, 0, 0, 0)]), (208, [.inr (3, 311, 0, 0, 0)]), (219, []), (208, [.inr (3, 354, 0, 0, 0)])]) (L := [([49], 0), ([48], 1), ([45, 49], 44), ([50], 13), ([51], 115), ([52], 116), ([45, 51], 125)]) (C := [([49], 0), ([48], 1), ([50], 13), ([45, 51], 125), ([52], 116)]) (Z := [2, 2, 4, 4, 9, 12, 12, 14, 14, 4, 9, 23, 23, 3, 26, 26, 29, 29, 12, 12, 14, 14, 23, 23, 26, 26, 29, 29, 59, 59, 4, 9, 12, 12, 14, 14, 23, 23, 26, 26, 29, 29, 59, 59, 2, 12, 12, 14, 14, 23, 23, 26, 26, 29, 29, 12, 12, 14, 14, 23, 23, 26, 26, 29, 29, 59, 59, 12, 12, 14, 14, 23, 23, 26, 26, 29, 29, 59, 59, 118, 118, 118, 118, 237, 237, 118, 118, 118, 118, 237, 237, 88, 88, 88, 88, 177, 177, 207, 207, 474, 474, 949, 952, 474, 474, 949, 952, 474, 474, 949, 474, 474, 949, 240, 240, 3, 4, 62, 62, 63, 63, 126, 126, 156, 156, 3]) (cl := []) 8 (fun _ h => by cases h) (by kernel_rfl) (by kernel_rfl) (by kernel_rfl) (by kernel_rfl) (by kernel_rfl) (by kernel_rfl) (by kernel_rfl)
end Go.Proofs.YtkcikcnimkofkaaGreatDoor
/- MVG -/
namespace Go.Proofs.YtkcikcnimkofkaaGreatDoor
open Go.RowKit Cx
def moveGroup_N : List Nd := [(1, [0]), (1, [1]), (1, [2]), (1, [3]), (1, [4]), (1, [5]), (1, [6]), (1, [7]), (1, [8]), (0, [0, 0, 1]), (4, [6, 9]), (4, [7, 9]), (2, [10, 11]), (2, [12, 8]), (5, [13]), (4, [6, 14]), (4, [7, 14]), (4, [6, 6]), (4, [7, 7]), (2, [17, 18]), (6, [15, 19]), (6, [16, 19]), (0, [0, 2, 1]), (4, [20, 22]), (4, [21, 22]), (2, [9, 23]), (2, [9, 24]), (0, [0, 1, 1]), (4, [6, 27]), (2, [28, 11]), (2, [29, 8]), (5, [30]), (4, [6, 31]), (4, [7, 31]), (6, [32, 19]), (6, [33, 19]), (4, [34, 22]), (4, [35, 22]), (2, [27, 36]), (2, [9, 37]), (3, [38, 25]), (3, [39, 26]), (4, [7, 27]), (2, [10, 42]), (2, [43, 8]), (5, [44]), (4, [6, 45]), (4, [7, 45]), (6, [46, 19]), (6, [47, 19]), (4, [48, 22]), (4, [49, 22]), (2, [9, 50]), (2, [27, 51]), (3, [52, 25]), (3, [53, 26]), (4, [3, 9]), (4, [4, 9]), (2, [56, 57]), (2, [58, 5]), (5, [59]), (4, [3, 60]), (4, [4, 60]), (4, [3, 3]), (4, [4, 4]), (2, [63, 64]), (6, [61, 65]), (6, [62, 65]), (4, [66, 22]), (4, [67, 22]), (2, [9, 68]), (2, [9, 69]), (4, [3, 27]), (2, [72, 57]), (2, [73, 5]), (5, [74]), (4, [3, 75]), (4, [4, 75]), (6, [76, 65]), (6, [77, 65]), (4, [78, 22]), (4, [79, 22]), (2, [27, 80]), (2, [9, 81]), (3, [82, 70]), (3, [83, 71]), (4, [4, 27]), (2, [56, 86]), (2, [87, 5]), (5, [88]), (4, [3, 89]), (4, [4, 89]), (6, [90, 65]), (6, [91, 65]), (4, [92, 22]), (4, [93, 22]), (2, [9, 94]), (2, [27, 95]), (3, [96, 70]), (3, [97, 71]), (4, [0, 9]), (4, [1, 9]), (2, [100, 101]), (2, [102, 2]), (5, [103]), (4, [0, 104]), (4, [1, 104]), (4, [0, 0]), (4, [1, 1]), (2, [107, 108]), (6, [105, 109]), (6, [106, 109]), (4, [110, 22]), (4, [111, 22]), (2, [9, 112]), (2, [9, 113]), (4, [0, 27]), (2, [116, 101]), (2, [117, 2]), (5, [118]), (4, [0, 119]), (4, [1, 119]), (6, [120, 109]), (6, [121, 109]), (4, [122, 22]), (4, [123, 22]), (2, [27, 124]), (2, [9, 125]), (3, [126, 114]), (3, [127, 115]), (4, [1, 27]), (2, [100, 130]), (2, [131, 2]), (5, [132]), (4, [0, 133]), (4, [1, 133]), (6, [134, 109]), (6, [135, 109]), (4, [136, 22]), (4, [137, 22]), (2, [9, 138]), (2, [27, 139]), (3, [140, 114]), (3, [141, 115]), (4, [84, 128]), (4, [85, 128]), (4, [98, 129]), (4, [99, 129]), (2, [144, 146]), (2, [145, 147]), (4, [84, 142]), (4, [85, 142]), (4, [98, 143]), (4, [99, 143]), (2, [150, 152]), (2, [151, 153]), (4, [84, 114]), (4, [85, 114]), (4, [98, 115]), (4, [99, 115]), (2, [156, 158]), (2, [157, 159]), (2, [160, 70]), (2, [161, 71]), (4, [40, 148]), (4, [41, 148]), (4, [54, 149]), (4, [55, 149]), (2, [164, 166]), (2, [165, 167]), (4, [40, 154]), (4, [41, 154]), (4, [54, 155]), (4, [55, 155]), (2, [170, 172]), (2, [171, 173]), (4, [40, 162]), (4, [41, 162]), (4, [54, 163]), (4, [55, 163]), (2, [176, 178]), (2, [177, 179]), (2, [180, 25]), (2, [181, 26]), (4, [40, 84]), (4, [41, 84]), (4, [54, 85]), (4, [55, 85]), (2, [184, 186]), (2, [185, 187]), (4, [40, 98]), (4, [41, 98]), (4, [54, 99]), (4, [55, 99]), (2, [190, 192]), (2, [191, 193]), (4, [40, 70]), (4, [41, 70]), (4, [54, 71]), (4, [55, 71]), (2, [196, 198]), (2, [197, 199]), (2, [200, 25]), (2, [201, 26]), (4, [188, 128]), (4, [189, 128]), (4, [194, 129]), (4, [195, 129]), (2, [204, 206]), (2, [205, 207]), (4, [188, 142]), (4, [189, 142]), (4, [194, 143]), (4, [195, 143]), (2, [210, 212]), (2, [211, 213]), (4, [188, 114]), (4, [189, 114]), (4, [194, 115]), (4, [195, 115]), (2, [216, 218]), (2, [217, 219]), (2, [220, 202]), (2, [221, 203]), (1, [9]), (1, [10]), (4, [168, 224]), (4, [169, 224]), (4, [174, 225]), (4, [175, 225]), (2, [226, 228]), (2, [227, 229]), (2, [230, 182]), (2, [231, 183]), (4, [128, 224]), (4, [129, 224]), (4, [142, 225]), (4, [143, 225]), (2, [234, 236]), (2, [235, 237]), (2, [238, 114]), (2, [239, 115]), (4, [84, 240]), (4, [85, 240]), (4, [98, 241]), (4, [99, 241]), (2, [242, 244]), (2, [243, 245]), (2, [246, 70]), (2, [247, 71]), (4, [40, 248]), (4, [41, 248]), (4, [54, 249]), (4, [55, 249]), (2, [250, 252]), (2, [251, 253]), (2, [254, 25]), (2, [255, 26]), (4, [128, 128]), (4, [129, 128]), (4, [142, 129]), (4, [143, 129]), (2, [258, 260]), (2, [259, 261]), (4, [128, 142]), (4, [129, 142]), (4, [142, 143]), (4, [143, 143]), (2, [264, 266]), (2, [265, 267]), (4, [128, 114]), (4, [129, 114]), (4, [142, 115]), (4, [143, 115]), (2, [270, 272]), (2, [271, 273]), (2, [274, 114]), (2, [275, 115]), (4, [168, 175]), (4, [169, 174]), (3, [278, 279]), (4, [27, 175]), (4, [9, 174]), (3, [281, 282]), (4, [168, 9]), (4, [169, 27]), (3, [284, 285]), (6, [283, 280]), (6, [286, 280]), (4, [9, 175]), (4, [27, 174]), (3, [289, 290]), (4, [168, 27]), (4, [169, 9]), (3, [292, 293]), (6, [291, 280]), (6, [294, 280]), (4, [182, 175]), (4, [183, 174]), (3, [297, 298]), (4, [168, 183]), (4, [169, 182]), (3, [300, 301]), (6, [299, 280]), (6, [302, 280]), (5, [303]), (5, [304]), (4, [168, 168]), (4, [169, 169]), (2, [307, 308]), (3, [309, 27]), (4, [174, 174]), (4, [175, 175]), (2, [311, 312]), (3, [313, 27]), (4, [168, 174]), (4, [169, 175]), (2, [315, 316]), (4, [174, 9]), (4, [175, 9]), (2, [284, 318]), (2, [293, 319]), (2, [320, 182]), (2, [321, 183]), (4, [168, 322]), (4, [169, 322]), (4, [174, 323]), (4, [175, 323]), (2, [324, 326]), (2, [325, 327]), (2, [328, 182]), (2, [329, 183]), (4, [84, 40]), (4, [85, 40]), (4, [98, 41]), (4, [99, 41]), (2, [332, 334]), (2, [333, 335]), (4, [84, 54]), (4, [85, 54]), (4, [98, 55]), (4, [99, 55]), (2, [338, 340]), (2, [339, 341]), (4, [84, 25]), (4, [85, 25]), (4, [98, 26]), (4, [99, 26]), (2, [344, 346]), (2, [345, 347]), (2, [348, 70]), (2, [349, 71]), (4, [128, 336]), (4, [129, 336]), (4, [142, 337]), (4, [143, 337]), (2, [352, 354]), (2, [353, 355]), (4, [128, 342]), (4, [129, 342]), (4, [142, 343]), (4, [143, 343]), (2, [358, 360]), (2, [359, 361]), (4, [128, 350]), (4, [129, 350]), (4, [142, 351]), (4, [143, 351]), (2, [364, 366]), (2, [365, 367]), (2, [368, 114]), (2, [369, 115]), (0, [1, 1, 1])]
def moveGroup_L : List (List Nat × Nat) := [([49], 27), ([48], 9), ([45, 49], 372)]
def moveGroup_C : List (List Nat × Nat) := [([49], 27), ([48], 9), ([45, 49], 372)]
def moveGroup_Z : List Nat := [3495259, 3495259, 3495259, 3495259, 3495259, 3495259, 3495259, 3495259, 3495259, 2, 3495261, 3495261, 6990523, 10485783, 10485783, 13981042, 13981042, 6990518, 6990518, 13981037, 27962079, 27962079, 3, 27962082, 27962082, 27962085, 27962085, 2, 3495261, 6990523, 10485783, 10485783, 13981042, 13981042, 27962079, 27962079, 27962082, 27962082, 27962085, 27962085, 55924171, 55924171, 3495261, 6990523, 10485783, 10485783, 13981042, 13981042, 27962079, 27962079, 27962082, 27962082, 27962085, 27962085, 55924171, 55924171, 3495261, 3495261, 6990523, 10485783, 10485783, 13981042, 13981042, 6990518, 6990518, 13981037, 27962079, 27962079, 27962082, 27962082, 27962085, 27962085, 3495261, 6990523, 10485783, 10485783, 13981042, 13981042, 27962079, 27962079, 27962082, 27962082, 27962085, 27962085, 55924171, 55924171, 3495261, 6990523, 10485783, 10485783, 13981042, 13981042, 27962079, 27962079, 27962082, 27962082, 27962085, 27962085, 55924171, 55924171, 3495261, 3495261, 6990523, 10485783, 10485783, 13981042, 13981042, 6990518, 6990518, 13981037, 27962079, 27962079, 27962082, 27962082, 27962085, 27962085, 3495261, 6990523, 10485783, 10485783, 13981042, 13981042, 27962079, 27962079, 27962082, 27962082, 27962085, 27962085, 55924171, 55924171, 3495261, 6990523, 10485783, 10485783, 13981042, 13981042, 27962079, 27962079, 27962082, 27962082, 27962085, 27962085, 55924171, 55924171, 111848342, 111848342, 111848342, 111848342, 223696685, 223696685, 111848342, 111848342, 111848342, 111848342, 223696685, 223696685, 83886256, 83886256, 83886256, 83886256, 167772513, 167772513, 195734599, 195734599, 279620856, 279620856, 279620856, 279620856, 559241713, 559241713, 279620856, 279620856, 279620856, 279620856, 559241713, 559241713, 251658770, 251658770, 251658770, 251658770, 503317541, 503317541, 531279627, 531279627, 111848342, 111848342, 111848342, 111848342, 223696685, 223696685, 111848342, 111848342, 111848342, 111848342, 223696685, 223696685, 83886256, 83886256, 83886256, 83886256, 167772513, 167772513, 195734599, 195734599, 279620856, 279620856, 279620856, 279620856, 559241713, 559241713, 279620856, 279620856, 279620856, 279620856, 559241713, 559241713, 251658770, 251658770, 251658770, 251658770, 503317541, 503317541, 699052141, 699052141, 3495259, 3495259, 562736972, 562736972, 562736972, 562736972, 1125473945, 1125473945, 1656753573, 1656753573, 59419430, 59419430, 59419430, 59419430, 118838861, 118838861, 146800947, 146800947, 202725118, 202725118, 202725118, 202725118, 405450237, 405450237, 433412323, 433412323, 489336494, 489336494, 489336494, 489336494, 978672989, 978672989, 1006635075, 1006635075, 111848342, 111848342, 111848342, 111848342, 223696685, 223696685, 111848342, 111848342, 111848342, 111848342, 223696685, 223696685, 83886256, 83886256, 83886256, 83886256, 167772513, 167772513, 195734599, 195734599, 1118483426, 1118483426, 2236966853, 559241715, 559241715, 1118483431, 559241715, 559241715, 1118483431, 3355450284, 3355450284, 559241715, 559241715, 1118483431, 559241715, 559241715, 1118483431, 3355450284, 3355450284, 1090521340, 1090521340, 2181042681, 1090521340, 1090521340, 2181042681, 4418009534, 4418009534, 4418009534, 4418009534, 1118483426, 1118483426, 2236966853, 2236966856, 1118483426, 1118483426, 2236966853, 2236966856, 1118483426, 1118483426, 2236966853, 559241715, 559241715, 1118483431, 1118483431, 1649763059, 1649763059, 2209004772, 2209004772, 2209004772, 2209004772, 4418009545, 4418009545, 4949289173, 4949289173, 111848342, 111848342, 111848342, 111848342, 223696685, 223696685, 111848342, 111848342, 111848342, 111848342, 223696685, 223696685, 83886256, 83886256, 83886256, 83886256, 167772513, 167772513, 195734599, 195734599, 279620856, 279620856, 279620856, 279620856, 559241713, 559241713, 279620856, 279620856, 279620856, 279620856, 559241713, 559241713, 251658770, 251658770, 251658770, 251658770, 503317541, 503317541, 531279627, 531279627, 2]
def moveGroup_I : List Bool := [false, false, false, false, false, false, false, false, false, true, false, false, false, false, false, false, false, false, false, false, false, false, true, false, false, false, false, true, false, false, false, false, false, false, false, false, false, false, false, false, false, false, false, false, false, false, false, false, false, false, false, false, false, false, false, false, false, false, false, false, false, false, false, false, false, false, false, false, false, false, false, false, false, false, false, false, false, false, false, false, false, false, false, false, false, false, false, false, false, false, false, false, false, false, false, false, false, false, false, false, false, false, false, false, false, false, false, false, false, false, false, false, false, false, false, false, false, false, false, false, false, false, false, false, false, false, false, false, false, false, false, false, false, false, false, false, false, false, false, false, false, false, false, false, false, false, false, false, false, false, false, false, false, false, false, false, false, false, false, false, false, false, false, false, false, false, false, false, false, false, false, false, false, false, false, false, false, false, false, false, false, false, false, false, false, false, false, false, false, false, false, false, false, false, false, false, false, false, false, false, false, false, false, false, false, false, false, false, false, false, false, false, false, false, false, false, false, false, false, false, false, false, false, false, false, false, false, false, false, false, false, false, false, false, false, false, false, false, false, false, false, false, false, false, false, false, false, false, false, false, false, false, false, false, false, false, false, false, false, false, false, false, false, false, false, false, false, false, false, false, false, false, false, false, false, false, false, false, false, false, false, false, false, false, false, false, false, false, false, false, false, false, false, false, false, false, false, false, false, false, false, false, false, false, false, false, false, false, false, false, false, false, false, false, false, false, false, false, false, false, false, false, false, false, false, false, false, false, false, false, false, false, false, false, false, false, false, false, false, false, false, false, false, false, false, false, false, false, false, false, false, false, false, false, false, false, false, false, false, false, false, false, false, false, false, false, false, false, false, false, false, false, true]
theorem moveGroup_wf : wfB 0 moveGroup_N = true := by kernel_rfl
theorem moveGroup_sz : szC moveGroup_Z moveGroup_I moveGroup_N moveGroup_Z moveGroup_I = true := by kernel_rfl
theorem moveGroup_lt : litB moveGroup_N moveGroup_L = true := by kernel_rfl
theorem moveGroup_cn : canB moveGroup_N moveGroup_C = true := by kernel_rfl
theorem moveGroup_c9 : cst 0 0 1 = (0 : Rat) := by decide +kernel
theorem moveGroup_c22 : cst 0 2 1 = (2 : Rat) := by decide +kernel
theorem moveGroup_c27 : cst 0 1 1 = (1 : Rat) := by decide +kernel
theorem moveGroup_c372 : cst 1 1 1 = ((-1) : Rat) := by decide +kernel
theorem mr_q {a n i : Rat} (hn : n ≠ 0) (hi : i * n = 2) : a / n * 2 = a * i := by
 have h : a * i = a / n * (i * n) := by
  have e : a / n * n = a := Rat.div_mul_cancel hn
  calc a * i = (a / n * n) * i := by rw [e]
   _ = a / n * (i * n) := by rw [Rat.mul_assoc, Rat.mul_comm n i]
 rw [h, hi]
theorem mt_det {A B D E i j a b c d p q r s P Q R S : Rat} (hi : i * (D * D + E * E) = 2) (hj : j * (A * A + B * B) = 2) (ha : a = 1 - D * D * i) (hb : b = -(D * E * i)) (hc : c = -(D * E * i)) (hd : d = 1 - E * E * i) (hp : p = 1 - A * A * j) (hq : q = -(A * B * j)) (hr : r = -(A * B * j)) (hs : s = 1 - B * B * j) (hP : P = a * p + c * q) (hQ : Q = b * p + d * q) (hR : R = a * r + c * s) (hS : S = b * r + d * s) : P * S - Q * R = 1 := by
 have h1 : a * d - b * c = -1 := by subst ha hb hc hd; grind
 have h2 : p * s - q * r = -1 := by subst hp hq hr hs; grind
 have h3 : P * S - Q * R = (a * d - b * c) * (p * s - q * r) := by subst hP hQ hR hS; clear hi hj ha hb hc hd hp hq hr hs h1 h2; grind
 rw [h3, h1, h2]; decide +kernel
theorem mt_pq {A B D E i j a b c d p q P Q : Rat} (hi : i * (D * D + E * E) = 2) (hj : j * (A * A + B * B) = 2) (ha : a = 1 - D * D * i) (hb : b = -(D * E * i)) (hc : c = -(D * E * i)) (hd : d = 1 - E * E * i) (hp : p = 1 - A * A * j) (hq : q = -(A * B * j)) (hP : P = a * p + c * q) (hQ : Q = b * p + d * q) : 2 * (P - 1) = -(i * j * ((A * E - B * D) * (A * E - B * D))) ∧ 2 * Q = i * j * ((A * E - B * D) * (A * D + B * E)) := by
 subst ha hb hc hd hp hq hP hQ
 constructor <;> grind
theorem mt_rs {A B D E i j a b c d r s R S : Rat} (hi : i * (D * D + E * E) = 2) (hj : j * (A * A + B * B) = 2) (ha : a = 1 - D * D * i) (hb : b = -(D * E * i)) (hc : c = -(D * E * i)) (hd : d = 1 - E * E * i) (hr : r = -(A * B * j)) (hs : s = 1 - B * B * j) (hR : R = a * r + c * s) (hS : S = b * r + d * s) : 2 * (S - 1) = -(i * j * ((A * E - B * D) * (A * E - B * D))) ∧ 2 * R = -(i * j * ((A * E - B * D) * (A * D + B * E))) := by
 subst ha hb hc hd hr hs hR hS
 constructor <;> grind
theorem mt_xz {A B C D E F i j a b c d u v x y X Y : Rat} (hi : i * (D * D + E * E) = 2) (hj : j * (A * A + B * B) = 2) (ha : a = 1 - D * D * i) (hb : b = -(D * E * i)) (hc : c = -(D * E * i)) (hd : d = 1 - E * E * i) (hu : u = -(A * C * j)) (hv : v = -(B * C * j)) (hx : x = -(D * F * i)) (hy : y = -(E * F * i)) (hX : X = a * u + c * v + x) (hY : Y = b * u + d * v + y) : 2 * X = i * j * (2 * D * C * (A * D + B * E) - A * C * (D * D + E * E) - D * F * (A * A + B * B)) ∧ 2 * Y = i * j * (2 * E * C * (A * D + B * E) - B * C * (D * D + E * E) - E * F * (A * A + B * B)) := by
 subst ha hb hc hd hu hv hx hy hX hY
 constructor <;> grind
theorem mt_fix {A B C D E F i j P Q R S X Y : Rat} (hi : i * (D * D + E * E) = 2) (hj : j * (A * A + B * B) = 2) (h1 : 2 * (P - 1) = -(i * j * ((A * E - B * D) * (A * E - B * D)))) (h2 : 2 * Q = i * j * ((A * E - B * D) * (A * D + B * E))) (h3 : 2 * (S - 1) = -(i * j * ((A * E - B * D) * (A * E - B * D)))) (h4 : 2 * R = -(i * j * ((A * E - B * D) * (A * D + B * E)))) (h5 : 2 * X = i * j * (2 * D * C * (A * D + B * E) - A * C * (D * D + E * E) - D * F * (A * A + B * B))) (h6 : 2 * Y = i * j * (2 * E * C * (A * D + B * E) - B * C * (D * D + E * E) - E * F * (A * A + B * B))) : (P - 1) * (S - 1) - R * Q = i * j * ((A * E - B * D) * (A * E - B * D)) ∧ R * Y - X * (S - 1) = -(E * C - B * F) * (A * E - B * D) * (i * j) ∧ X * Q - (P - 1) * Y = (D * C - A * F) * (A * E - B * D) * (i * j) := by
 have hkk : i * j * ((A * A + B * B) * (D * D + E * E)) = 4 := by clear h1 h2 h3 h4 h5 h6; grind
 clear hi hj
 generalize i * j = k at *
 refine ⟨?_, ?_, ?_⟩
 ·have q : 4 * ((P - 1) * (S - 1) - R * Q) = (2 * (P - 1)) * (2 * (S - 1)) - (2 * R) * (2 * Q) := by clear h1 h2 h3 h4 h5 h6 hkk; grind
  rw [h1, h2, h3, h4] at q
  clear h1 h2 h3 h4 h5 h6
  have q2 : 4 * ((P - 1) * (S - 1) - R * Q) = (k * ((A * E - B * D) * (A * E - B * D))) * (k * ((A * A + B * B) * (D * D + E * E))) := by rw [q]; clear q hkk; grind
  rw [hkk] at q2
  clear q hkk
  grind
 ·have q : 4 * (R * Y - X * (S - 1)) = (2 * R) * (2 * Y) - (2 * X) * (2 * (S - 1)) := by clear h1 h2 h3 h4 h5 h6 hkk; grind
  rw [h3, h4, h5, h6] at q
  clear h1 h2 h3 h4 h5 h6
  have q2 : 4 * (R * Y - X * (S - 1)) = (-(E * C - B * F) * (A * E - B * D) * k) * (k * ((A * A + B * B) * (D * D + E * E))) := by rw [q]; clear q hkk; grind
  rw [hkk] at q2
  clear q hkk
  grind
 ·have q : 4 * (X * Q - (P - 1) * Y) = (2 * X) * (2 * Q) - (2 * (P - 1)) * (2 * Y) := by clear h1 h2 h3 h4 h5 h6 hkk; grind
  rw [h1, h2, h5, h6] at q
  clear h1 h2 h3 h4 h5 h6
  have q2 : 4 * (X * Q - (P - 1) * Y) = ((D * C - A * F) * (A * E - B * D) * k) * (k * ((A * A + B * B) * (D * D + E * E))) := by rw [q]; clear q hkk; grind
  rw [hkk] at q2
  clear q hkk
  grind
theorem mt_quo {a b c k m : Rat} (hm : m ≠ 0) (hk : k ≠ 0) (ha : a = c * m * k) (hb : b = k * (m * m)) : a / b = c / m := by
 have hb0 : b ≠ 0 := by rw [hb]; exact fun h => (Rat.mul_eq_zero.1 h).elim hk fun h => (Rat.mul_eq_zero.1 h).elim hm hm
 have h1 : a / b * b = a := Rat.div_mul_cancel hb0
 have h2 : c / m * m = c := Rat.div_mul_cancel hm
 have h3 : (a / b - c / m) * b = 0 := by
  have : (a / b - c / m) * b = a / b * b - c / m * m * (k * m) := by rw [hb]; clear h1 h2 ha; grind
  rw [this, h1, h2, ha]; clear h1 h2; grind
 have := (Rat.mul_eq_zero.1 h3).resolve_right hb0
 clear h1 h2 h3; grind
theorem mg_s {c s u v x y T W : Rat} (h : c * c + s * s = 1) (h1 : c * x + s * y = -x) (h2 : s * x - c * y = -y) (hT : T = c * u + s * v + x) (hW : W = s * u - c * v + y) : c * T + s * W = u - x ∧ s * T - c * W = v - y := by
 have k1 : c * T + s * W = (c * c + s * s) * u + (c * x + s * y) := by rw [hT, hW]; clear h h1 h2 hT hW; grind
 have k2 : s * T - c * W = (c * c + s * s) * v + (s * x - c * y) := by rw [hT, hW]; clear h h1 h2 hT hW k1; grind
 rw [k1, k2, h, h1, h2]
 clear k1 k2 h h1 h2 hT hW
 constructor <;> grind
theorem mg_norm {c s d t f g C S : Rat} (h1 : c * c + s * s = 1) (h2 : d * d + t * t = 1) (h3 : f * f + g * g = 1) (hC : C = f * (d * c + t * s) + g * (t * c - d * s)) (hS : S = g * (d * c + t * s) - f * (t * c - d * s)) : C * C + S * S = 1 := by
 have k : C * C + S * S = (f * f + g * g) * ((d * d + t * t) * (c * c + s * s)) := by rw [hC, hS]; clear h1 h2 h3 hC hS; grind
 rw [k, h1, h2, h3]; decide +kernel
theorem mg_one {A B C i a b c d x y : Rat} (hi : i * (A * A + B * B) = 2) (ha : a = 1 - A * A * i) (hb : b = -(A * B * i)) (hc : c = -(A * B * i)) (hd : d = 1 - B * B * i) (hx : x = -(A * C * i)) (hy : y = -(B * C * i)) : c = b ∧ d = -a ∧ a * a + b * b = 1 ∧ a * x + b * y = -x ∧ b * x - a * y = -y := by
 refine ⟨by rw [hc, hb], ?_, ?_, ?_, ?_⟩ <;> subst_vars <;> grind
theorem mg_r1 (c s d t f g P Q : Rat) : P * (f * (d * c + t * s) + g * (t * c - d * s)) + Q * (g * (d * c + t * s) - f * (t * c - d * s)) = c * (d * (f * P + g * Q) + t * (g * P - f * Q)) + s * (t * (f * P + g * Q) - d * (g * P - f * Q)) := by grind
theorem mg_r2 (c s d t f g P Q : Rat) : (f * (d * c + t * s) + g * (t * c - d * s)) * Q - (g * (d * c + t * s) - f * (t * c - d * s)) * P = -(s * (d * (f * P + g * Q) + t * (g * P - f * Q)) - c * (t * (f * P + g * Q) - d * (g * P - f * Q))) := by grind
theorem mg_r3 (d t p q a b : Rat) : d * (p - a) + t * (q - b) = (d * p + t * q) - (d * a + t * b) := by grind
theorem mg_r4 (d t p q a b : Rat) : t * (p - a) - d * (q - b) = (t * p - d * q) - (t * a - d * b) := by grind
theorem mg_r5 (c s x y u v h k : Rat) : c * (x - u - h) + s * (y - v - k) = (c * x + s * y) - (c * (h + u) + s * (k + v)) := by grind
theorem mg_r6 (c s x y u v h k : Rat) : s * (x - u - h) - c * (y - v - k) = (s * x - c * y) - (s * (h + u) - c * (k + v)) := by grind
theorem mg_r7 (x h : Rat) : -(-x - h) = h + x := by grind
theorem mg_back {c s d t f g x y u v a b C S p q P Q X Y : Rat} (n2 : d * d + t * t = 1) (n3 : f * f + g * g = 1) (l1 : c * x + s * y = -x) (l2 : s * x - c * y = -y) (m1 : d * u + t * v = -u) (m2 : t * u - d * v = -v) (k1 : f * a + g * b = -a) (k2 : g * a - f * b = -b)
  (hC : C = f * (d * c + t * s) + g * (t * c - d * s)) (hS : S = g * (d * c + t * s) - f * (t * c - d * s)) (hp : p = d * x + t * y + u) (hq : q = t * x - d * y + v) (hP : P = f * p + g * q + a) (hQ : Q = g * p - f * q + b) (hX : X = c * (d * a + t * b + u) + s * (t * a - d * b + v) + x) (hY : Y = s * (d * a + t * b + u) - c * (t * a - d * b + v) + y) : -(P * C + Q * S) = X ∧ C * Q - S * P = Y := by
 have ⟨g1, g2⟩ := mg_s n3 k1 k2 hP hQ
 have ⟨w1, w2⟩ := mg_s n2 m1 m2 hp hq
 have e1 : P * C + Q * S = c * (d * (f * P + g * Q) + t * (g * P - f * Q)) + s * (t * (f * P + g * Q) - d * (g * P - f * Q)) := by rw [hC, hS]; exact mg_r1 ..
 have e2 : C * Q - S * P = -(s * (d * (f * P + g * Q) + t * (g * P - f * Q)) - c * (t * (f * P + g * Q) - d * (g * P - f * Q))) := by rw [hC, hS]; exact mg_r2 ..
 rw [g1, g2, mg_r3 d t p q a b, mg_r4 d t p q a b, w1, w2] at e1 e2
 constructor
 ·rw [e1, mg_r5 c s x y u v, l1, hX]; exact mg_r7 ..
 ·rw [e2, mg_r6 c s x y u v, l2, hY]; exact mg_r7 ..
theorem mg_sg (a b c d e : Rat) : a * b + -c * d + e = a * b - c * d + e := by grind
theorem moveGroup_F0 {z0 z1 z2 z9 z22 z27 z100 z101 z102 z103 z104 z105 z106 z107 z108 z109 z110 z111 z112 z113 z114 z115 z116 z117 z118 z119 z120 z121 z122 z123 z124 z125 z126 z127 z128 z129 z130 z131 z132 z133 z134 z135 z136 z137 z138 z139 z140 z141 z142 z143 : Rat} : z9 = 0 → z22 = 2 → z27 = 1 → z100 = z0 * z9 → z101 = z1 * z9 → z102 = z100 + z101 → z103 = z102 + z2 → z104 = -z103 → z105 = z0 * z104 → z106 = z1 * z104 → z107 = z0 * z0 → z108 = z1 * z1 → z109 = z107 + z108 → z110 = z105 / z109 → z111 = z106 / z109 → z112 = z110 * z22 → z113 = z111 * z22 → z114 = z9 + z112 → z115 = z9 + z113 → z116 = z0 * z27 → z117 = z116 + z101 → z118 = z117 + z2 → z119 = -z118 → z120 = z0 * z119 → z121 = z1 * z119 → z122 = z120 / z109 → z123 = z121 / z109 → z124 = z122 * z22 → z125 = z123 * z22 → z126 = z27 + z124 → z127 = z9 + z125 → z128 = z126 - z114 → z129 = z127 - z115 → z130 = z1 * z27 → z131 = z100 + z130 → z132 = z131 + z2 → z133 = -z132 → z134 = z0 * z133 → z135 = z1 * z133 → z136 = z134 / z109 → z137 = z135 / z109 → z138 = z136 * z22 → z139 = z137 * z22 → z140 = z9 + z138 → z141 = z27 + z139 → z142 = z140 - z114 → z143 = z141 - z115 → ¬ (z0 = 0 ∧ z1 = 0) → (z142 = z129 ∧ z143 = -z128 ∧ z128 * z128 + z129 * z129 = 1 ∧ z128 * z114 + z129 * z115 = -z114 ∧ z129 * z114 - z128 * z115 = -z115) := by
 intro e9 e22 e27 e100 e101 e102 e103 e104 e105 e106 e107 e108 e109 e110 e111 e112 e113 e114 e115 e116 e117 e118 e119 e120 e121 e122 e123 e124 e125 e126 e127 e128 e129 e130 e131 e132 e133 e134 e135 e136 e137 e138 e139 e140 e141 e142 e143 u
 have n109 : z109 ≠ 0 := by
  have hp := sq_pos u
  rw [← e107, ← e108, ← e109] at hp
  intro h
  rw [h] at hp
  exact absurd hp (by decide)
 obtain ⟨i, hi0⟩ : ∃ i, i * z109 = 2 := ⟨2 / z109, Rat.div_mul_cancel n109⟩
 have hi : i * (z0 * z0 + z1 * z1) = 2 := by rw [← e107, ← e108, ← e109]; exact hi0
 have q112 : z112 = z105 * i := by rw [e112, e110, e22]; exact mr_q n109 hi0
 have q113 : z113 = z106 * i := by rw [e113, e111, e22]; exact mr_q n109 hi0
 have q124 : z124 = z120 * i := by rw [e124, e122, e22]; exact mr_q n109 hi0
 have q125 : z125 = z121 * i := by rw [e125, e123, e22]; exact mr_q n109 hi0
 have q138 : z138 = z134 * i := by rw [e138, e136, e22]; exact mr_q n109 hi0
 have q139 : z139 = z135 * i := by rw [e139, e137, e22]; exact mr_q n109 hi0
 have r128 : z128 = 1 - z0 * z0 * i := by
  rw [e128, e126, q124, e120, e119, e118, e117, e116, e114, q112, e105, e104, e103, e102, e101, e100, e27, e9]
  clear hi hi0; grind
 have r129 : z129 = -(z0 * z1 * i) := by
  rw [e129, e127, q125, e121, e119, e118, e117, e116, e115, q113, e106, e104, e103, e102, e101, e100, e27, e9]
  clear hi hi0; grind
 have r142 : z142 = -(z0 * z1 * i) := by
  rw [e142, e140, q138, e134, e133, e132, e131, e130, e114, q112, e105, e104, e103, e102, e101, e100, e27, e9]
  clear hi hi0; grind
 have r143 : z143 = 1 - z1 * z1 * i := by
  rw [e143, e141, q139, e135, e133, e132, e131, e130, e115, q113, e106, e104, e103, e102, e101, e100, e27, e9]
  clear hi hi0; grind
 have r114 : z114 = -(z0 * z2 * i) := by
  rw [e114, q112, e105, e104, e103, e102, e101, e100, e9]
  clear hi hi0; grind
 have r115 : z115 = -(z1 * z2 * i) := by
  rw [e115, q113, e106, e104, e103, e102, e101, e100, e9]
  clear hi hi0; grind
 exact mg_one hi r128 r129 r142 r143 r114 r115
theorem moveGroup_FX {z25 z26 z40 z41 z54 z55 z70 z71 z84 z85 z98 z99 z114 z115 z128 z129 z142 z143 z144 z145 z146 z147 z148 z149 z150 z151 z152 z153 z154 z155 z164 z165 z166 z167 z168 z169 z170 z171 z172 z173 z174 z175 : Rat} : z144 = z84 * z128 → z145 = z85 * z128 → z146 = z98 * z129 → z147 = z99 * z129 → z148 = z144 + z146 → z149 = z145 + z147 → z150 = z84 * z142 → z151 = z85 * z142 → z152 = z98 * z143 → z153 = z99 * z143 → z154 = z150 + z152 → z155 = z151 + z153 → z164 = z40 * z148 → z165 = z41 * z148 → z166 = z54 * z149 → z167 = z55 * z149 → z168 = z164 + z166 → z169 = z165 + z167 → z170 = z40 * z154 → z171 = z41 * z154 → z172 = z54 * z155 → z173 = z55 * z155 → z174 = z170 + z172 → z175 = z171 + z173 → (z142 = z129 ∧ z143 = -z128 ∧ z128 * z128 + z129 * z129 = 1 ∧ z128 * z114 + z129 * z115 = -z114 ∧ z129 * z114 - z128 * z115 = -z115) → (z98 = z85 ∧ z99 = -z84 ∧ z84 * z84 + z85 * z85 = 1 ∧ z84 * z70 + z85 * z71 = -z70 ∧ z85 * z70 - z84 * z71 = -z71) → (z54 = z41 ∧ z55 = -z40 ∧ z40 * z40 + z41 * z41 = 1 ∧ z40 * z25 + z41 * z26 = -z25 ∧ z41 * z25 - z40 * z26 = -z26) → (z174 = z169 ∧ z175 = -z168 ∧ z168 = z40 * (z84 * z128 + z85 * z129) + z41 * (z85 * z128 - z84 * z129) ∧ z169 = z41 * (z84 * z128 + z85 * z129) - z40 * (z85 * z128 - z84 * z129) ∧ z168 * z168 + z169 * z169 = 1) := by
 intro e144 e145 e146 e147 e148 e149 e150 e151 e152 e153 e154 e155 e164 e165 e166 e167 e168 e169 e170 e171 e172 e173 e174 e175 F0 F1 F2
 obtain ⟨l1, l2, l3, _, _⟩ := F0
 obtain ⟨m1, m2, m3, _, _⟩ := F1
 obtain ⟨n1, n2, n3, _, _⟩ := F2
 have hC : z168 = z40 * (z84 * z128 + z85 * z129) + z41 * (z85 * z128 - z84 * z129) := by
  rw [e168, e166, e164, e149, e148, e147, e146, e145, e144, m1, m2, n1]
  clear l3 m3 n3
  grind
 have hS : z169 = z41 * (z84 * z128 + z85 * z129) - z40 * (z85 * z128 - z84 * z129) := by
  rw [e169, e167, e165, e149, e148, e147, e146, e145, e144, m1, m2, n2]
  clear l3 m3 n3
  grind
 have h3 : z174 = z41 * (z84 * z128 + z85 * z129) - z40 * (z85 * z128 - z84 * z129) := by
  rw [e174, e172, e170, e155, e154, e153, e152, e151, e150, l1, l2, m1, m2, n1]
  clear l3 m3 n3
  grind
 have h4 : z175 = -(z40 * (z84 * z128 + z85 * z129) + z41 * (z85 * z128 - z84 * z129)) := by
  rw [e175, e173, e171, e155, e154, e153, e152, e151, e150, l1, l2, m1, m2, n2]
  clear l3 m3 n3
  grind
 exact ⟨h3.trans hS.symm, by rw [h4, hC], hC, hS, mg_norm l3 m3 n3 hC hS⟩
theorem moveGroup_F1 {z3 z4 z5 z9 z22 z27 z56 z57 z58 z59 z60 z61 z62 z63 z64 z65 z66 z67 z68 z69 z70 z71 z72 z73 z74 z75 z76 z77 z78 z79 z80 z81 z82 z83 z84 z85 z86 z87 z88 z89 z90 z91 z92 z93 z94 z95 z96 z97 z98 z99 : Rat} : z9 = 0 → z22 = 2 → z27 = 1 → z56 = z3 * z9 → z57 = z4 * z9 → z58 = z56 + z57 → z59 = z58 + z5 → z60 = -z59 → z61 = z3 * z60 → z62 = z4 * z60 → z63 = z3 * z3 → z64 = z4 * z4 → z65 = z63 + z64 → z66 = z61 / z65 → z67 = z62 / z65 → z68 = z66 * z22 → z69 = z67 * z22 → z70 = z9 + z68 → z71 = z9 + z69 → z72 = z3 * z27 → z73 = z72 + z57 → z74 = z73 + z5 → z75 = -z74 → z76 = z3 * z75 → z77 = z4 * z75 → z78 = z76 / z65 → z79 = z77 / z65 → z80 = z78 * z22 → z81 = z79 * z22 → z82 = z27 + z80 → z83 = z9 + z81 → z84 = z82 - z70 → z85 = z83 - z71 → z86 = z4 * z27 → z87 = z56 + z86 → z88 = z87 + z5 → z89 = -z88 → z90 = z3 * z89 → z91 = z4 * z89 → z92 = z90 / z65 → z93 = z91 / z65 → z94 = z92 * z22 → z95 = z93 * z22 → z96 = z9 + z94 → z97 = z27 + z95 → z98 = z96 - z70 → z99 = z97 - z71 → ¬ (z3 = 0 ∧ z4 = 0) → (z98 = z85 ∧ z99 = -z84 ∧ z84 * z84 + z85 * z85 = 1 ∧ z84 * z70 + z85 * z71 = -z70 ∧ z85 * z70 - z84 * z71 = -z71) := by
 intro e9 e22 e27 e56 e57 e58 e59 e60 e61 e62 e63 e64 e65 e66 e67 e68 e69 e70 e71 e72 e73 e74 e75 e76 e77 e78 e79 e80 e81 e82 e83 e84 e85 e86 e87 e88 e89 e90 e91 e92 e93 e94 e95 e96 e97 e98 e99 u
 have n65 : z65 ≠ 0 := by
  have hp := sq_pos u
  rw [← e63, ← e64, ← e65] at hp
  intro h
  rw [h] at hp
  exact absurd hp (by decide)
 obtain ⟨i, hi0⟩ : ∃ i, i * z65 = 2 := ⟨2 / z65, Rat.div_mul_cancel n65⟩
 have hi : i * (z3 * z3 + z4 * z4) = 2 := by rw [← e63, ← e64, ← e65]; exact hi0
 have q68 : z68 = z61 * i := by rw [e68, e66, e22]; exact mr_q n65 hi0
 have q69 : z69 = z62 * i := by rw [e69, e67, e22]; exact mr_q n65 hi0
 have q80 : z80 = z76 * i := by rw [e80, e78, e22]; exact mr_q n65 hi0
 have q81 : z81 = z77 * i := by rw [e81, e79, e22]; exact mr_q n65 hi0
 have q94 : z94 = z90 * i := by rw [e94, e92, e22]; exact mr_q n65 hi0
 have q95 : z95 = z91 * i := by rw [e95, e93, e22]; exact mr_q n65 hi0
 have r84 : z84 = 1 - z3 * z3 * i := by
  rw [e84, e82, q80, e76, e75, e74, e73, e72, e70, q68, e61, e60, e59, e58, e57, e56, e27, e9]
  clear hi hi0; grind
 have r85 : z85 = -(z3 * z4 * i) := by
  rw [e85, e83, q81, e77, e75, e74, e73, e72, e71, q69, e62, e60, e59, e58, e57, e56, e27, e9]
  clear hi hi0; grind
 have r98 : z98 = -(z3 * z4 * i) := by
  rw [e98, e96, q94, e90, e89, e88, e87, e86, e70, q68, e61, e60, e59, e58, e57, e56, e27, e9]
  clear hi hi0; grind
 have r99 : z99 = 1 - z4 * z4 * i := by
  rw [e99, e97, q95, e91, e89, e88, e87, e86, e71, q69, e62, e60, e59, e58, e57, e56, e27, e9]
  clear hi hi0; grind
 have r70 : z70 = -(z3 * z5 * i) := by
  rw [e70, q68, e61, e60, e59, e58, e57, e56, e9]
  clear hi hi0; grind
 have r71 : z71 = -(z4 * z5 * i) := by
  rw [e71, q69, e62, e60, e59, e58, e57, e56, e9]
  clear hi hi0; grind
 exact mg_one hi r84 r85 r98 r99 r70 r71
theorem moveGroup_F2 {z6 z7 z8 z9 z10 z11 z12 z13 z14 z15 z16 z17 z18 z19 z20 z21 z22 z23 z24 z25 z26 z27 z28 z29 z30 z31 z32 z33 z34 z35 z36 z37 z38 z39 z40 z41 z42 z43 z44 z45 z46 z47 z48 z49 z50 z51 z52 z53 z54 z55 : Rat} : z9 = 0 → z10 = z6 * z9 → z11 = z7 * z9 → z12 = z10 + z11 → z13 = z12 + z8 → z14 = -z13 → z15 = z6 * z14 → z16 = z7 * z14 → z17 = z6 * z6 → z18 = z7 * z7 → z19 = z17 + z18 → z20 = z15 / z19 → z21 = z16 / z19 → z22 = 2 → z23 = z20 * z22 → z24 = z21 * z22 → z25 = z9 + z23 → z26 = z9 + z24 → z27 = 1 → z28 = z6 * z27 → z29 = z28 + z11 → z30 = z29 + z8 → z31 = -z30 → z32 = z6 * z31 → z33 = z7 * z31 → z34 = z32 / z19 → z35 = z33 / z19 → z36 = z34 * z22 → z37 = z35 * z22 → z38 = z27 + z36 → z39 = z9 + z37 → z40 = z38 - z25 → z41 = z39 - z26 → z42 = z7 * z27 → z43 = z10 + z42 → z44 = z43 + z8 → z45 = -z44 → z46 = z6 * z45 → z47 = z7 * z45 → z48 = z46 / z19 → z49 = z47 / z19 → z50 = z48 * z22 → z51 = z49 * z22 → z52 = z9 + z50 → z53 = z27 + z51 → z54 = z52 - z25 → z55 = z53 - z26 → ¬ (z6 = 0 ∧ z7 = 0) → (z54 = z41 ∧ z55 = -z40 ∧ z40 * z40 + z41 * z41 = 1 ∧ z40 * z25 + z41 * z26 = -z25 ∧ z41 * z25 - z40 * z26 = -z26) := by
 intro e9 e10 e11 e12 e13 e14 e15 e16 e17 e18 e19 e20 e21 e22 e23 e24 e25 e26 e27 e28 e29 e30 e31 e32 e33 e34 e35 e36 e37 e38 e39 e40 e41 e42 e43 e44 e45 e46 e47 e48 e49 e50 e51 e52 e53 e54 e55 u
 have n19 : z19 ≠ 0 := by
  have hp := sq_pos u
  rw [← e17, ← e18, ← e19] at hp
  intro h
  rw [h] at hp
  exact absurd hp (by decide)
 obtain ⟨i, hi0⟩ : ∃ i, i * z19 = 2 := ⟨2 / z19, Rat.div_mul_cancel n19⟩
 have hi : i * (z6 * z6 + z7 * z7) = 2 := by rw [← e17, ← e18, ← e19]; exact hi0
 have q23 : z23 = z15 * i := by rw [e23, e20, e22]; exact mr_q n19 hi0
 have q24 : z24 = z16 * i := by rw [e24, e21, e22]; exact mr_q n19 hi0
 have q36 : z36 = z32 * i := by rw [e36, e34, e22]; exact mr_q n19 hi0
 have q37 : z37 = z33 * i := by rw [e37, e35, e22]; exact mr_q n19 hi0
 have q50 : z50 = z46 * i := by rw [e50, e48, e22]; exact mr_q n19 hi0
 have q51 : z51 = z47 * i := by rw [e51, e49, e22]; exact mr_q n19 hi0
 have r40 : z40 = 1 - z6 * z6 * i := by
  rw [e40, e38, q36, e32, e31, e30, e29, e28, e27, e25, q23, e15, e14, e13, e12, e11, e10, e9]
  clear hi hi0; grind
 have r41 : z41 = -(z6 * z7 * i) := by
  rw [e41, e39, q37, e33, e31, e30, e29, e28, e27, e26, q24, e16, e14, e13, e12, e11, e10, e9]
  clear hi hi0; grind
 have r54 : z54 = -(z6 * z7 * i) := by
  rw [e54, e52, q50, e46, e45, e44, e43, e42, e27, e25, q23, e15, e14, e13, e12, e11, e10, e9]
  clear hi hi0; grind
 have r55 : z55 = 1 - z7 * z7 * i := by
  rw [e55, e53, q51, e47, e45, e44, e43, e42, e27, e26, q24, e16, e14, e13, e12, e11, e10, e9]
  clear hi hi0; grind
 have r25 : z25 = -(z6 * z8 * i) := by
  rw [e25, q23, e15, e14, e13, e12, e11, e10, e9]
  clear hi hi0; grind
 have r26 : z26 = -(z7 * z8 * i) := by
  rw [e26, q24, e16, e14, e13, e12, e11, e10, e9]
  clear hi hi0; grind
 exact mg_one hi r40 r41 r54 r55 r25 r26
theorem moveGroup_f1 {z40 z54 z84 z85 z98 z99 z128 z129 z144 z145 z146 z147 z148 z149 z164 z166 z168 z184 z186 z188 z190 z192 z194 z204 z206 z208 : Rat} : z144 = z84 * z128 → z145 = z85 * z128 → z146 = z98 * z129 → z147 = z99 * z129 → z148 = z144 + z146 → z149 = z145 + z147 → z164 = z40 * z148 → z166 = z54 * z149 → z168 = z164 + z166 → z184 = z40 * z84 → z186 = z54 * z85 → z188 = z184 + z186 → z190 = z40 * z98 → z192 = z54 * z99 → z194 = z190 + z192 → z204 = z188 * z128 → z206 = z194 * z129 → z208 = z204 + z206 → z168 = z208 := by
 intro e144 e145 e146 e147 e148 e149 e164 e166 e168 e184 e186 e188 e190 e192 e194 e204 e206 e208
 subst_vars; grind
theorem moveGroup_f2 {z40 z54 z84 z85 z98 z99 z142 z143 z150 z151 z152 z153 z154 z155 z170 z172 z174 z184 z186 z188 z190 z192 z194 z210 z212 z214 : Rat} : z150 = z84 * z142 → z151 = z85 * z142 → z152 = z98 * z143 → z153 = z99 * z143 → z154 = z150 + z152 → z155 = z151 + z153 → z170 = z40 * z154 → z172 = z54 * z155 → z174 = z170 + z172 → z184 = z40 * z84 → z186 = z54 * z85 → z188 = z184 + z186 → z190 = z40 * z98 → z192 = z54 * z99 → z194 = z190 + z192 → z210 = z188 * z142 → z212 = z194 * z143 → z214 = z210 + z212 → z174 = z214 := by
 intro e150 e151 e152 e153 e154 e155 e170 e172 e174 e184 e186 e188 e190 e192 e194 e210 e212 e214
 subst_vars; grind
theorem moveGroup_f3 {z25 z40 z54 z70 z71 z84 z85 z98 z99 z114 z115 z156 z157 z158 z159 z160 z161 z162 z163 z176 z178 z180 z182 z184 z186 z188 z190 z192 z194 z196 z198 z200 z202 z216 z218 z220 z222 : Rat} : z156 = z84 * z114 → z157 = z85 * z114 → z158 = z98 * z115 → z159 = z99 * z115 → z160 = z156 + z158 → z161 = z157 + z159 → z162 = z160 + z70 → z163 = z161 + z71 → z176 = z40 * z162 → z178 = z54 * z163 → z180 = z176 + z178 → z182 = z180 + z25 → z184 = z40 * z84 → z186 = z54 * z85 → z188 = z184 + z186 → z190 = z40 * z98 → z192 = z54 * z99 → z194 = z190 + z192 → z196 = z40 * z70 → z198 = z54 * z71 → z200 = z196 + z198 → z202 = z200 + z25 → z216 = z188 * z114 → z218 = z194 * z115 → z220 = z216 + z218 → z222 = z220 + z202 → z182 = z222 := by
 intro e156 e157 e158 e159 e160 e161 e162 e163 e176 e178 e180 e182 e184 e186 e188 e190 e192 e194 e196 e198 e200 e202 e216 e218 e220 e222
 subst_vars; grind
theorem moveGroup_f4 {z41 z55 z84 z85 z98 z99 z128 z129 z144 z145 z146 z147 z148 z149 z165 z167 z169 z185 z187 z189 z191 z193 z195 z205 z207 z209 : Rat} : z144 = z84 * z128 → z145 = z85 * z128 → z146 = z98 * z129 → z147 = z99 * z129 → z148 = z144 + z146 → z149 = z145 + z147 → z165 = z41 * z148 → z167 = z55 * z149 → z169 = z165 + z167 → z185 = z41 * z84 → z187 = z55 * z85 → z189 = z185 + z187 → z191 = z41 * z98 → z193 = z55 * z99 → z195 = z191 + z193 → z205 = z189 * z128 → z207 = z195 * z129 → z209 = z205 + z207 → z169 = z209 := by
 intro e144 e145 e146 e147 e148 e149 e165 e167 e169 e185 e187 e189 e191 e193 e195 e205 e207 e209
 subst_vars; grind
theorem moveGroup_f5 {z41 z55 z84 z85 z98 z99 z142 z143 z150 z151 z152 z153 z154 z155 z171 z173 z175 z185 z187 z189 z191 z193 z195 z211 z213 z215 : Rat} : z150 = z84 * z142 → z151 = z85 * z142 → z152 = z98 * z143 → z153 = z99 * z143 → z154 = z150 + z152 → z155 = z151 + z153 → z171 = z41 * z154 → z173 = z55 * z155 → z175 = z171 + z173 → z185 = z41 * z84 → z187 = z55 * z85 → z189 = z185 + z187 → z191 = z41 * z98 → z193 = z55 * z99 → z195 = z191 + z193 → z211 = z189 * z142 → z213 = z195 * z143 → z215 = z211 + z213 → z175 = z215 := by
 intro e150 e151 e152 e153 e154 e155 e171 e173 e175 e185 e187 e189 e191 e193 e195 e211 e213 e215
 subst_vars; grind
theorem moveGroup_f6 {z26 z41 z55 z70 z71 z84 z85 z98 z99 z114 z115 z156 z157 z158 z159 z160 z161 z162 z163 z177 z179 z181 z183 z185 z187 z189 z191 z193 z195 z197 z199 z201 z203 z217 z219 z221 z223 : Rat} : z156 = z84 * z114 → z157 = z85 * z114 → z158 = z98 * z115 → z159 = z99 * z115 → z160 = z156 + z158 → z161 = z157 + z159 → z162 = z160 + z70 → z163 = z161 + z71 → z177 = z41 * z162 → z179 = z55 * z163 → z181 = z177 + z179 → z183 = z181 + z26 → z185 = z41 * z84 → z187 = z55 * z85 → z189 = z185 + z187 → z191 = z41 * z98 → z193 = z55 * z99 → z195 = z191 + z193 → z197 = z41 * z70 → z199 = z55 * z71 → z201 = z197 + z199 → z203 = z201 + z26 → z217 = z189 * z114 → z219 = z195 * z115 → z221 = z217 + z219 → z223 = z221 + z203 → z183 = z223 := by
 intro e156 e157 e158 e159 e160 e161 e162 e163 e177 e179 e181 e183 e185 e187 e189 e191 e193 e195 e197 e199 e201 e203 e217 e219 e221 e223
 subst_vars; grind
theorem moveGroup_f7 {z25 z40 z54 z70 z71 z84 z85 z98 z99 z114 z115 z128 z129 z142 z143 z144 z145 z146 z147 z148 z149 z150 z151 z152 z153 z154 z155 z156 z157 z158 z159 z160 z161 z162 z163 z164 z166 z168 z170 z172 z174 z176 z178 z180 z182 z224 z225 z226 z228 z230 z232 z234 z235 z236 z237 z238 z239 z240 z241 z242 z243 z244 z245 z246 z247 z248 z249 z250 z252 z254 z256 : Rat} : z144 = z84 * z128 → z145 = z85 * z128 → z146 = z98 * z129 → z147 = z99 * z129 → z148 = z144 + z146 → z149 = z145 + z147 → z150 = z84 * z142 → z151 = z85 * z142 → z152 = z98 * z143 → z153 = z99 * z143 → z154 = z150 + z152 → z155 = z151 + z153 → z156 = z84 * z114 → z157 = z85 * z114 → z158 = z98 * z115 → z159 = z99 * z115 → z160 = z156 + z158 → z161 = z157 + z159 → z162 = z160 + z70 → z163 = z161 + z71 → z164 = z40 * z148 → z166 = z54 * z149 → z168 = z164 + z166 → z170 = z40 * z154 → z172 = z54 * z155 → z174 = z170 + z172 → z176 = z40 * z162 → z178 = z54 * z163 → z180 = z176 + z178 → z182 = z180 + z25 → z226 = z168 * z224 → z228 = z174 * z225 → z230 = z226 + z228 → z232 = z230 + z182 → z234 = z128 * z224 → z235 = z129 * z224 → z236 = z142 * z225 → z237 = z143 * z225 → z238 = z234 + z236 → z239 = z235 + z237 → z240 = z238 + z114 → z241 = z239 + z115 → z242 = z84 * z240 → z243 = z85 * z240 → z244 = z98 * z241 → z245 = z99 * z241 → z246 = z242 + z244 → z247 = z243 + z245 → z248 = z246 + z70 → z249 = z247 + z71 → z250 = z40 * z248 → z252 = z54 * z249 → z254 = z250 + z252 → z256 = z254 + z25 → z232 = z256 := by
 intro e144 e145 e146 e147 e148 e149 e150 e151 e152 e153 e154 e155 e156 e157 e158 e159 e160 e161 e162 e163 e164 e166 e168 e170 e172 e174 e176 e178 e180 e182 e226 e228 e230 e232 e234 e235 e236 e237 e238 e239 e240 e241 e242 e243 e244 e245 e246 e247 e248 e249 e250 e252 e254 e256
 subst_vars; grind
theorem moveGroup_f8 {z26 z41 z55 z70 z71 z84 z85 z98 z99 z114 z115 z128 z129 z142 z143 z144 z145 z146 z147 z148 z149 z150 z151 z152 z153 z154 z155 z156 z157 z158 z159 z160 z161 z162 z163 z165 z167 z169 z171 z173 z175 z177 z179 z181 z183 z224 z225 z227 z229 z231 z233 z234 z235 z236 z237 z238 z239 z240 z241 z242 z243 z244 z245 z246 z247 z248 z249 z251 z253 z255 z257 : Rat} : z144 = z84 * z128 → z145 = z85 * z128 → z146 = z98 * z129 → z147 = z99 * z129 → z148 = z144 + z146 → z149 = z145 + z147 → z150 = z84 * z142 → z151 = z85 * z142 → z152 = z98 * z143 → z153 = z99 * z143 → z154 = z150 + z152 → z155 = z151 + z153 → z156 = z84 * z114 → z157 = z85 * z114 → z158 = z98 * z115 → z159 = z99 * z115 → z160 = z156 + z158 → z161 = z157 + z159 → z162 = z160 + z70 → z163 = z161 + z71 → z165 = z41 * z148 → z167 = z55 * z149 → z169 = z165 + z167 → z171 = z41 * z154 → z173 = z55 * z155 → z175 = z171 + z173 → z177 = z41 * z162 → z179 = z55 * z163 → z181 = z177 + z179 → z183 = z181 + z26 → z227 = z169 * z224 → z229 = z175 * z225 → z231 = z227 + z229 → z233 = z231 + z183 → z234 = z128 * z224 → z235 = z129 * z224 → z236 = z142 * z225 → z237 = z143 * z225 → z238 = z234 + z236 → z239 = z235 + z237 → z240 = z238 + z114 → z241 = z239 + z115 → z242 = z84 * z240 → z243 = z85 * z240 → z244 = z98 * z241 → z245 = z99 * z241 → z246 = z242 + z244 → z247 = z243 + z245 → z248 = z246 + z70 → z249 = z247 + z71 → z251 = z41 * z248 → z253 = z55 * z249 → z255 = z251 + z253 → z257 = z255 + z26 → z233 = z257 := by
 intro e144 e145 e146 e147 e148 e149 e150 e151 e152 e153 e154 e155 e156 e157 e158 e159 e160 e161 e162 e163 e165 e167 e169 e171 e173 e175 e177 e179 e181 e183 e227 e229 e231 e233 e234 e235 e236 e237 e238 e239 e240 e241 e242 e243 e244 e245 e246 e247 e248 e249 e251 e253 e255 e257
 subst_vars; grind
theorem moveGroup_f9 {z27 z114 z115 z128 z129 z142 z143 z258 z260 z262 : Rat} : z27 = 1 → z258 = z128 * z128 → z260 = z142 * z129 → z262 = z258 + z260 → (z142 = z129 ∧ z143 = -z128 ∧ z128 * z128 + z129 * z129 = 1 ∧ z128 * z114 + z129 * z115 = -z114 ∧ z129 * z114 - z128 * z115 = -z115) → z262 = z27 := by
 intro e27 e258 e260 e262 F0
 obtain ⟨l1, l2, l3, l4, l5⟩ := F0
 subst_vars; grind
theorem moveGroup_f10 {z9 z114 z115 z128 z129 z142 z143 z264 z266 z268 : Rat} : z9 = 0 → z264 = z128 * z142 → z266 = z142 * z143 → z268 = z264 + z266 → (z142 = z129 ∧ z143 = -z128 ∧ z128 * z128 + z129 * z129 = 1 ∧ z128 * z114 + z129 * z115 = -z114 ∧ z129 * z114 - z128 * z115 = -z115) → z268 = z9 := by
 intro e9 e264 e266 e268 F0
 obtain ⟨l1, l2, l3, l4, l5⟩ := F0
 subst_vars; grind
theorem moveGroup_f11 {z9 z114 z115 z128 z129 z142 z143 z270 z272 z274 z276 : Rat} : z9 = 0 → z270 = z128 * z114 → z272 = z142 * z115 → z274 = z270 + z272 → z276 = z274 + z114 → (z142 = z129 ∧ z143 = -z128 ∧ z128 * z128 + z129 * z129 = 1 ∧ z128 * z114 + z129 * z115 = -z114 ∧ z129 * z114 - z128 * z115 = -z115) → z276 = z9 := by
 intro e9 e270 e272 e274 e276 F0
 obtain ⟨l1, l2, l3, l4, l5⟩ := F0
 subst_vars; grind
theorem moveGroup_f12 {z9 z114 z115 z128 z129 z142 z143 z259 z261 z263 : Rat} : z9 = 0 → z259 = z129 * z128 → z261 = z143 * z129 → z263 = z259 + z261 → (z142 = z129 ∧ z143 = -z128 ∧ z128 * z128 + z129 * z129 = 1 ∧ z128 * z114 + z129 * z115 = -z114 ∧ z129 * z114 - z128 * z115 = -z115) → z263 = z9 := by
 intro e9 e259 e261 e263 F0
 obtain ⟨l1, l2, l3, l4, l5⟩ := F0
 subst_vars; grind
theorem moveGroup_f13 {z27 z114 z115 z128 z129 z142 z143 z265 z267 z269 : Rat} : z27 = 1 → z265 = z129 * z142 → z267 = z143 * z143 → z269 = z265 + z267 → (z142 = z129 ∧ z143 = -z128 ∧ z128 * z128 + z129 * z129 = 1 ∧ z128 * z114 + z129 * z115 = -z114 ∧ z129 * z114 - z128 * z115 = -z115) → z269 = z27 := by
 intro e27 e265 e267 e269 F0
 obtain ⟨l1, l2, l3, l4, l5⟩ := F0
 subst_vars; grind
theorem moveGroup_f14 {z9 z114 z115 z128 z129 z142 z143 z271 z273 z275 z277 : Rat} : z9 = 0 → z271 = z129 * z114 → z273 = z143 * z115 → z275 = z271 + z273 → z277 = z275 + z115 → (z142 = z129 ∧ z143 = -z128 ∧ z128 * z128 + z129 * z129 = 1 ∧ z128 * z114 + z129 * z115 = -z114 ∧ z129 * z114 - z128 * z115 = -z115) → z277 = z9 := by
 intro e9 e271 e273 e275 e277 F0
 obtain ⟨l1, l2, l3, l4, l5⟩ := F0
 subst_vars; grind
theorem moveGroup_f15 {z40 z41 z84 z85 z128 z129 z168 z169 z174 z175 z278 z279 z280 : Rat} : z278 = z168 * z175 → z279 = z169 * z174 → z280 = z278 - z279 → (z174 = z169 ∧ z175 = -z168 ∧ z168 = z40 * (z84 * z128 + z85 * z129) + z41 * (z85 * z128 - z84 * z129) ∧ z169 = z41 * (z84 * z128 + z85 * z129) - z40 * (z85 * z128 - z84 * z129) ∧ z168 * z168 + z169 * z169 = 1) → ¬ (z280 = 0) := by
 intro e278 e279 e280 F0
 obtain ⟨x1, x2, x3, x4, x5⟩ := F0
 have hd : z280 = -1 := by
  rw [e280, e278, e279, x1, x2]
  clear x3 x4
  grind
 rw [hd]
 decide
theorem moveGroup_f16 {z27 z40 z41 z84 z85 z128 z129 z168 z169 z174 z175 z307 z308 z309 z310 : Rat} : z27 = 1 → z307 = z168 * z168 → z308 = z169 * z169 → z309 = z307 + z308 → z310 = z309 - z27 → (z174 = z169 ∧ z175 = -z168 ∧ z168 = z40 * (z84 * z128 + z85 * z129) + z41 * (z85 * z128 - z84 * z129) ∧ z169 = z41 * (z84 * z128 + z85 * z129) - z40 * (z85 * z128 - z84 * z129) ∧ z168 * z168 + z169 * z169 = 1) → z310 = 0 := by
 intro e27 e307 e308 e309 e310 F0
 obtain ⟨x1, x2, x3, x4, x5⟩ := F0
 rw [e310, e309, e307, e308, x5, e27]
 decide +kernel
theorem moveGroup_f17 {z27 z40 z41 z84 z85 z128 z129 z168 z169 z174 z175 z311 z312 z313 z314 : Rat} : z27 = 1 → z311 = z174 * z174 → z312 = z175 * z175 → z313 = z311 + z312 → z314 = z313 - z27 → (z174 = z169 ∧ z175 = -z168 ∧ z168 = z40 * (z84 * z128 + z85 * z129) + z41 * (z85 * z128 - z84 * z129) ∧ z169 = z41 * (z84 * z128 + z85 * z129) - z40 * (z85 * z128 - z84 * z129) ∧ z168 * z168 + z169 * z169 = 1) → z314 = 0 := by
 intro e27 e311 e312 e313 e314 F0
 obtain ⟨x1, x2, x3, x4, x5⟩ := F0
 rw [e314, e313, e311, e312, x1, x2, e27, show z169 * z169 + -z168 * -z168 = z168 * z168 + z169 * z169 by clear x3 x4 x5; grind, x5]
 decide +kernel
theorem moveGroup_f18 {z40 z41 z84 z85 z128 z129 z168 z169 z174 z175 z315 z316 z317 : Rat} : z315 = z168 * z174 → z316 = z169 * z175 → z317 = z315 + z316 → (z174 = z169 ∧ z175 = -z168 ∧ z168 = z40 * (z84 * z128 + z85 * z129) + z41 * (z85 * z128 - z84 * z129) ∧ z169 = z41 * (z84 * z128 + z85 * z129) - z40 * (z85 * z128 - z84 * z129) ∧ z168 * z168 + z169 * z169 = 1) → z317 = 0 := by
 intro e315 e316 e317 F0
 obtain ⟨x1, x2, x3, x4, x5⟩ := F0
 rw [e317, e315, e316, x1, x2]
 clear x3 x4 x5
 grind
theorem moveGroup_f19 {z0 z1 z3 z4 z6 z7 z40 z41 z84 z85 z128 z129 z168 z169 z174 z175 z278 z279 z280 : Rat} : z278 = z168 * z175 → z279 = z169 * z174 → z280 = z278 - z279 → (¬ (z0 = 0 ∧ z1 = 0)) → (¬ (z3 = 0 ∧ z4 = 0)) → (¬ (z6 = 0 ∧ z7 = 0)) → (z174 = z169 ∧ z175 = -z168 ∧ z168 = z40 * (z84 * z128 + z85 * z129) + z41 * (z85 * z128 - z84 * z129) ∧ z169 = z41 * (z84 * z128 + z85 * z129) - z40 * (z85 * z128 - z84 * z129) ∧ z168 * z168 + z169 * z169 = 1) → z280 < 0 := by
 intro e278 e279 e280 u0 u1 u2 F0
 obtain ⟨x1, x2, x3, x4, x5⟩ := F0
 have hd : z280 = -1 := by
  rw [e280, e278, e279, x1, x2]
  clear x3 x4
  grind
 rw [hd]
 decide
theorem moveGroup_f20 {z9 z25 z26 z27 z40 z41 z54 z55 z70 z71 z84 z85 z98 z99 z114 z115 z128 z129 z142 z143 z168 z169 z174 z175 z278 z279 z280 z281 z282 z283 z287 z332 z333 z334 z335 z336 z337 z352 z354 z356 : Rat} : z9 = 0 → z27 = 1 → z278 = z168 * z175 → z279 = z169 * z174 → z280 = z278 - z279 → z281 = z27 * z175 → z282 = z9 * z174 → z283 = z281 - z282 → z287 = z283 / z280 → z332 = z84 * z40 → z333 = z85 * z40 → z334 = z98 * z41 → z335 = z99 * z41 → z336 = z332 + z334 → z337 = z333 + z335 → z352 = z128 * z336 → z354 = z142 * z337 → z356 = z352 + z354 → (z142 = z129 ∧ z143 = -z128 ∧ z128 * z128 + z129 * z129 = 1 ∧ z128 * z114 + z129 * z115 = -z114 ∧ z129 * z114 - z128 * z115 = -z115) → (z98 = z85 ∧ z99 = -z84 ∧ z84 * z84 + z85 * z85 = 1 ∧ z84 * z70 + z85 * z71 = -z70 ∧ z85 * z70 - z84 * z71 = -z71) → (z54 = z41 ∧ z55 = -z40 ∧ z40 * z40 + z41 * z41 = 1 ∧ z40 * z25 + z41 * z26 = -z25 ∧ z41 * z25 - z40 * z26 = -z26) → (z174 = z169 ∧ z175 = -z168 ∧ z168 = z40 * (z84 * z128 + z85 * z129) + z41 * (z85 * z128 - z84 * z129) ∧ z169 = z41 * (z84 * z128 + z85 * z129) - z40 * (z85 * z128 - z84 * z129) ∧ z168 * z168 + z169 * z169 = 1) → z287 = z356 := by
 intro e9 e27 e278 e279 e280 e281 e282 e283 e287 e332 e333 e334 e335 e336 e337 e352 e354 e356 F0 F1 F2 F3
 obtain ⟨l1, l2, l3, l4, l5⟩ := F0
 obtain ⟨m1, m2, m3, m4, m5⟩ := F1
 obtain ⟨n1, n2, n3, n4, n5⟩ := F2
 obtain ⟨x1, x2, x3, x4, x5⟩ := F3
 have hd : z280 = -1 := by
  rw [e280, e278, e279, x1, x2]
  clear x3 x4
  grind
 have hq : z287 = z168 := by
  rw [e287, hd, e283, e281, e282, e27, e9, x2]
  clear l3 l4 l5 m3 m4 m5 n3 n4 n5 x3 x4 x5
  grind
 rw [hq, x3, e356, e354, e352, e337, e336, e335, e334, e333, e332]
 clear hq hd l3 l4 l5 m3 m4 m5 n3 n4 n5 x1 x2 x5
 first | (rw [l1, m1, m2, n1, n2]; clear l1 l2 m1 m2 n1 n2 x3 x4; grind) | (subst l1 l2 m1 m2 n1 n2; clear x3 x4; grind) | grind
theorem moveGroup_f21 {z9 z25 z26 z27 z40 z41 z54 z55 z70 z71 z84 z85 z98 z99 z114 z115 z128 z129 z142 z143 z168 z169 z174 z175 z278 z279 z280 z289 z290 z291 z295 z338 z339 z340 z341 z342 z343 z358 z360 z362 : Rat} : z9 = 0 → z27 = 1 → z278 = z168 * z175 → z279 = z169 * z174 → z280 = z278 - z279 → z289 = z9 * z175 → z290 = z27 * z174 → z291 = z289 - z290 → z295 = z291 / z280 → z338 = z84 * z54 → z339 = z85 * z54 → z340 = z98 * z55 → z341 = z99 * z55 → z342 = z338 + z340 → z343 = z339 + z341 → z358 = z128 * z342 → z360 = z142 * z343 → z362 = z358 + z360 → (z142 = z129 ∧ z143 = -z128 ∧ z128 * z128 + z129 * z129 = 1 ∧ z128 * z114 + z129 * z115 = -z114 ∧ z129 * z114 - z128 * z115 = -z115) → (z98 = z85 ∧ z99 = -z84 ∧ z84 * z84 + z85 * z85 = 1 ∧ z84 * z70 + z85 * z71 = -z70 ∧ z85 * z70 - z84 * z71 = -z71) → (z54 = z41 ∧ z55 = -z40 ∧ z40 * z40 + z41 * z41 = 1 ∧ z40 * z25 + z41 * z26 = -z25 ∧ z41 * z25 - z40 * z26 = -z26) → (z174 = z169 ∧ z175 = -z168 ∧ z168 = z40 * (z84 * z128 + z85 * z129) + z41 * (z85 * z128 - z84 * z129) ∧ z169 = z41 * (z84 * z128 + z85 * z129) - z40 * (z85 * z128 - z84 * z129) ∧ z168 * z168 + z169 * z169 = 1) → z295 = z362 := by
 intro e9 e27 e278 e279 e280 e289 e290 e291 e295 e338 e339 e340 e341 e342 e343 e358 e360 e362 F0 F1 F2 F3
 obtain ⟨l1, l2, l3, l4, l5⟩ := F0
 obtain ⟨m1, m2, m3, m4, m5⟩ := F1
 obtain ⟨n1, n2, n3, n4, n5⟩ := F2
 obtain ⟨x1, x2, x3, x4, x5⟩ := F3
 have hd : z280 = -1 := by
  rw [e280, e278, e279, x1, x2]
  clear x3 x4
  grind
 have hq : z295 = z169 := by
  rw [e295, hd, e291, e289, e290, e27, e9, x1]
  clear l3 l4 l5 m3 m4 m5 n3 n4 n5 x3 x4 x5
  grind
 rw [hq, x4, e362, e360, e358, e343, e342, e341, e340, e339, e338]
 clear hq hd l3 l4 l5 m3 m4 m5 n3 n4 n5 x1 x2 x5
 first | (rw [l1, m1, m2, n1, n2]; clear l1 l2 m1 m2 n1 n2 x3 x4; grind) | (subst l1 l2 m1 m2 n1 n2; clear x3 x4; grind) | grind
theorem moveGroup_f22 {z25 z26 z40 z41 z54 z55 z70 z71 z84 z85 z98 z99 z114 z115 z128 z129 z142 z143 z156 z157 z158 z159 z160 z161 z162 z163 z168 z169 z174 z175 z176 z177 z178 z179 z180 z181 z182 z183 z278 z279 z280 z297 z298 z299 z303 z305 z344 z345 z346 z347 z348 z349 z350 z351 z364 z366 z368 z370 : Rat} : z156 = z84 * z114 → z157 = z85 * z114 → z158 = z98 * z115 → z159 = z99 * z115 → z160 = z156 + z158 → z161 = z157 + z159 → z162 = z160 + z70 → z163 = z161 + z71 → z176 = z40 * z162 → z177 = z41 * z162 → z178 = z54 * z163 → z179 = z55 * z163 → z180 = z176 + z178 → z181 = z177 + z179 → z182 = z180 + z25 → z183 = z181 + z26 → z278 = z168 * z175 → z279 = z169 * z174 → z280 = z278 - z279 → z297 = z182 * z175 → z298 = z183 * z174 → z299 = z297 - z298 → z303 = z299 / z280 → z305 = -z303 → z344 = z84 * z25 → z345 = z85 * z25 → z346 = z98 * z26 → z347 = z99 * z26 → z348 = z344 + z346 → z349 = z345 + z347 → z350 = z348 + z70 → z351 = z349 + z71 → z364 = z128 * z350 → z366 = z142 * z351 → z368 = z364 + z366 → z370 = z368 + z114 → (z142 = z129 ∧ z143 = -z128 ∧ z128 * z128 + z129 * z129 = 1 ∧ z128 * z114 + z129 * z115 = -z114 ∧ z129 * z114 - z128 * z115 = -z115) → (z98 = z85 ∧ z99 = -z84 ∧ z84 * z84 + z85 * z85 = 1 ∧ z84 * z70 + z85 * z71 = -z70 ∧ z85 * z70 - z84 * z71 = -z71) → (z54 = z41 ∧ z55 = -z40 ∧ z40 * z40 + z41 * z41 = 1 ∧ z40 * z25 + z41 * z26 = -z25 ∧ z41 * z25 - z40 * z26 = -z26) → (z174 = z169 ∧ z175 = -z168 ∧ z168 = z40 * (z84 * z128 + z85 * z129) + z41 * (z85 * z128 - z84 * z129) ∧ z169 = z41 * (z84 * z128 + z85 * z129) - z40 * (z85 * z128 - z84 * z129) ∧ z168 * z168 + z169 * z169 = 1) → z305 = z370 := by
 intro e156 e157 e158 e159 e160 e161 e162 e163 e176 e177 e178 e179 e180 e181 e182 e183 e278 e279 e280 e297 e298 e299 e303 e305 e344 e345 e346 e347 e348 e349 e350 e351 e364 e366 e368 e370 F0 F1 F2 F3
 obtain ⟨l1, l2, l3, l4, l5⟩ := F0
 obtain ⟨m1, m2, m3, m4, m5⟩ := F1
 obtain ⟨n1, n2, n3, n4, n5⟩ := F2
 obtain ⟨x1, x2, x3, x4, x5⟩ := F3
 have hd : z280 = -1 := by
  rw [e280, e278, e279, x1, x2]
  clear x3 x4
  grind
 have ⟨b1, b2⟩ := mg_back (c := z128) (s := z129) (d := z84) (t := z85) (f := z40) (g := z41) (x := z114) (y := z115) (u := z70) (v := z71) (a := z25) (b := z26) (C := z168) (S := z169) (p := z162) (q := z163) (P := z182) (Q := z183) m3 n3 l4 l5 m4 m5 n4 n5 x3 x4 (by rw [e162, e160, e156, e158, m1]) (by rw [e163, e161, e157, e159, m2]; exact mg_sg ..) (by rw [e182, e180, e176, e178, n1]) (by rw [e183, e181, e177, e179, n2]; exact mg_sg ..) rfl rfl
 have hq : z305 = -(z182 * z168 + z183 * z169) := by
  rw [e305, e303, hd, e299, e297, e298, x1, x2]
  clear l3 l4 l5 m3 m4 m5 n3 n4 n5 x3 x4 x5 b1 b2
  grind
 rw [hq, b1, e370, e368, e364, e366, e350, e348, e344, e346, e351, e349, e345, e347, l1, m1, m2, mg_sg z85 z25 z84 z26 z71]
theorem moveGroup_f23 {z9 z25 z26 z27 z40 z41 z54 z55 z70 z71 z84 z85 z98 z99 z114 z115 z128 z129 z142 z143 z168 z169 z174 z175 z278 z279 z280 z284 z285 z286 z288 z332 z333 z334 z335 z336 z337 z353 z355 z357 : Rat} : z9 = 0 → z27 = 1 → z278 = z168 * z175 → z279 = z169 * z174 → z280 = z278 - z279 → z284 = z168 * z9 → z285 = z169 * z27 → z286 = z284 - z285 → z288 = z286 / z280 → z332 = z84 * z40 → z333 = z85 * z40 → z334 = z98 * z41 → z335 = z99 * z41 → z336 = z332 + z334 → z337 = z333 + z335 → z353 = z129 * z336 → z355 = z143 * z337 → z357 = z353 + z355 → (z142 = z129 ∧ z143 = -z128 ∧ z128 * z128 + z129 * z129 = 1 ∧ z128 * z114 + z129 * z115 = -z114 ∧ z129 * z114 - z128 * z115 = -z115) → (z98 = z85 ∧ z99 = -z84 ∧ z84 * z84 + z85 * z85 = 1 ∧ z84 * z70 + z85 * z71 = -z70 ∧ z85 * z70 - z84 * z71 = -z71) → (z54 = z41 ∧ z55 = -z40 ∧ z40 * z40 + z41 * z41 = 1 ∧ z40 * z25 + z41 * z26 = -z25 ∧ z41 * z25 - z40 * z26 = -z26) → (z174 = z169 ∧ z175 = -z168 ∧ z168 = z40 * (z84 * z128 + z85 * z129) + z41 * (z85 * z128 - z84 * z129) ∧ z169 = z41 * (z84 * z128 + z85 * z129) - z40 * (z85 * z128 - z84 * z129) ∧ z168 * z168 + z169 * z169 = 1) → z288 = z357 := by
 intro e9 e27 e278 e279 e280 e284 e285 e286 e288 e332 e333 e334 e335 e336 e337 e353 e355 e357 F0 F1 F2 F3
 obtain ⟨l1, l2, l3, l4, l5⟩ := F0
 obtain ⟨m1, m2, m3, m4, m5⟩ := F1
 obtain ⟨n1, n2, n3, n4, n5⟩ := F2
 obtain ⟨x1, x2, x3, x4, x5⟩ := F3
 have hd : z280 = -1 := by
  rw [e280, e278, e279, x1, x2]
  clear x3 x4
  grind
 have hq : z288 = z169 := by
  rw [e288, hd, e286, e284, e285, e27, e9]
  clear l3 l4 l5 m3 m4 m5 n3 n4 n5 x3 x4 x5
  grind
 rw [hq, x4, e357, e355, e353, e337, e336, e335, e334, e333, e332]
 clear hq hd l3 l4 l5 m3 m4 m5 n3 n4 n5 x1 x2 x5
 first | (rw [l1, m1, m2, n1, n2]; clear l1 l2 m1 m2 n1 n2 x3 x4; grind) | (subst l1 l2 m1 m2 n1 n2; clear x3 x4; grind) | grind
theorem moveGroup_f24 {z9 z25 z26 z27 z40 z41 z54 z55 z70 z71 z84 z85 z98 z99 z114 z115 z128 z129 z142 z143 z168 z169 z174 z175 z278 z279 z280 z292 z293 z294 z296 z338 z339 z340 z341 z342 z343 z359 z361 z363 : Rat} : z9 = 0 → z27 = 1 → z278 = z168 * z175 → z279 = z169 * z174 → z280 = z278 - z279 → z292 = z168 * z27 → z293 = z169 * z9 → z294 = z292 - z293 → z296 = z294 / z280 → z338 = z84 * z54 → z339 = z85 * z54 → z340 = z98 * z55 → z341 = z99 * z55 → z342 = z338 + z340 → z343 = z339 + z341 → z359 = z129 * z342 → z361 = z143 * z343 → z363 = z359 + z361 → (z142 = z129 ∧ z143 = -z128 ∧ z128 * z128 + z129 * z129 = 1 ∧ z128 * z114 + z129 * z115 = -z114 ∧ z129 * z114 - z128 * z115 = -z115) → (z98 = z85 ∧ z99 = -z84 ∧ z84 * z84 + z85 * z85 = 1 ∧ z84 * z70 + z85 * z71 = -z70 ∧ z85 * z70 - z84 * z71 = -z71) → (z54 = z41 ∧ z55 = -z40 ∧ z40 * z40 + z41 * z41 = 1 ∧ z40 * z25 + z41 * z26 = -z25 ∧ z41 * z25 - z40 * z26 = -z26) → (z174 = z169 ∧ z175 = -z168 ∧ z168 = z40 * (z84 * z128 + z85 * z129) + z41 * (z85 * z128 - z84 * z129) ∧ z169 = z41 * (z84 * z128 + z85 * z129) - z40 * (z85 * z128 - z84 * z129) ∧ z168 * z168 + z169 * z169 = 1) → z296 = z363 := by
 intro e9 e27 e278 e279 e280 e292 e293 e294 e296 e338 e339 e340 e341 e342 e343 e359 e361 e363 F0 F1 F2 F3
 obtain ⟨l1, l2, l3, l4, l5⟩ := F0
 obtain ⟨m1, m2, m3, m4, m5⟩ := F1
 obtain ⟨n1, n2, n3, n4, n5⟩ := F2
 obtain ⟨x1, x2, x3, x4, x5⟩ := F3
 have hd : z280 = -1 := by
  rw [e280, e278, e279, x1, x2]
  clear x3 x4
  grind
 have hq : z296 = -z168 := by
  rw [e296, hd, e294, e292, e293, e27, e9]
  clear l3 l4 l5 m3 m4 m5 n3 n4 n5 x3 x4 x5
  grind
 rw [hq, x3, e363, e361, e359, e343, e342, e341, e340, e339, e338]
 clear hq hd l3 l4 l5 m3 m4 m5 n3 n4 n5 x1 x2 x5
 first | (rw [l1, m1, m2, n1, n2]; clear l1 l2 m1 m2 n1 n2 x3 x4; grind) | (subst l1 l2 m1 m2 n1 n2; clear x3 x4; grind) | grind
theorem moveGroup_f25 {z25 z26 z40 z41 z54 z55 z70 z71 z84 z85 z98 z99 z114 z115 z128 z129 z142 z143 z156 z157 z158 z159 z160 z161 z162 z163 z168 z169 z174 z175 z176 z177 z178 z179 z180 z181 z182 z183 z278 z279 z280 z300 z301 z302 z304 z306 z344 z345 z346 z347 z348 z349 z350 z351 z365 z367 z369 z371 : Rat} : z156 = z84 * z114 → z157 = z85 * z114 → z158 = z98 * z115 → z159 = z99 * z115 → z160 = z156 + z158 → z161 = z157 + z159 → z162 = z160 + z70 → z163 = z161 + z71 → z176 = z40 * z162 → z177 = z41 * z162 → z178 = z54 * z163 → z179 = z55 * z163 → z180 = z176 + z178 → z181 = z177 + z179 → z182 = z180 + z25 → z183 = z181 + z26 → z278 = z168 * z175 → z279 = z169 * z174 → z280 = z278 - z279 → z300 = z168 * z183 → z301 = z169 * z182 → z302 = z300 - z301 → z304 = z302 / z280 → z306 = -z304 → z344 = z84 * z25 → z345 = z85 * z25 → z346 = z98 * z26 → z347 = z99 * z26 → z348 = z344 + z346 → z349 = z345 + z347 → z350 = z348 + z70 → z351 = z349 + z71 → z365 = z129 * z350 → z367 = z143 * z351 → z369 = z365 + z367 → z371 = z369 + z115 → (z142 = z129 ∧ z143 = -z128 ∧ z128 * z128 + z129 * z129 = 1 ∧ z128 * z114 + z129 * z115 = -z114 ∧ z129 * z114 - z128 * z115 = -z115) → (z98 = z85 ∧ z99 = -z84 ∧ z84 * z84 + z85 * z85 = 1 ∧ z84 * z70 + z85 * z71 = -z70 ∧ z85 * z70 - z84 * z71 = -z71) → (z54 = z41 ∧ z55 = -z40 ∧ z40 * z40 + z41 * z41 = 1 ∧ z40 * z25 + z41 * z26 = -z25 ∧ z41 * z25 - z40 * z26 = -z26) → (z174 = z169 ∧ z175 = -z168 ∧ z168 = z40 * (z84 * z128 + z85 * z129) + z41 * (z85 * z128 - z84 * z129) ∧ z169 = z41 * (z84 * z128 + z85 * z129) - z40 * (z85 * z128 - z84 * z129) ∧ z168 * z168 + z169 * z169 = 1) → z306 = z371 := by
 intro e156 e157 e158 e159 e160 e161 e162 e163 e176 e177 e178 e179 e180 e181 e182 e183 e278 e279 e280 e300 e301 e302 e304 e306 e344 e345 e346 e347 e348 e349 e350 e351 e365 e367 e369 e371 F0 F1 F2 F3
 obtain ⟨l1, l2, l3, l4, l5⟩ := F0
 obtain ⟨m1, m2, m3, m4, m5⟩ := F1
 obtain ⟨n1, n2, n3, n4, n5⟩ := F2
 obtain ⟨x1, x2, x3, x4, x5⟩ := F3
 have hd : z280 = -1 := by
  rw [e280, e278, e279, x1, x2]
  clear x3 x4
  grind
 have ⟨b1, b2⟩ := mg_back (c := z128) (s := z129) (d := z84) (t := z85) (f := z40) (g := z41) (x := z114) (y := z115) (u := z70) (v := z71) (a := z25) (b := z26) (C := z168) (S := z169) (p := z162) (q := z163) (P := z182) (Q := z183) m3 n3 l4 l5 m4 m5 n4 n5 x3 x4 (by rw [e162, e160, e156, e158, m1]) (by rw [e163, e161, e157, e159, m2]; exact mg_sg ..) (by rw [e182, e180, e176, e178, n1]) (by rw [e183, e181, e177, e179, n2]; exact mg_sg ..) rfl rfl
 have hq : z306 = z168 * z183 - z169 * z182 := by
  rw [e306, e304, hd, e302, e300, e301]
  clear l3 l4 l5 m3 m4 m5 n3 n4 n5 x3 x4 x5 b1 b2
  grind
 rw [hq, b2, e371, e369, e365, e367, e350, e348, e344, e346, e351, e349, e345, e347, l2, m1, m2, mg_sg z85 z25 z84 z26 z71]
 exact (mg_sg ..).symm
theorem moveGroup_f26 {z0 z1 z3 z4 z6 z7 z40 z41 z84 z85 z128 z129 z168 z169 z174 z175 z278 z279 z280 z372 : Rat} : z278 = z168 * z175 → z279 = z169 * z174 → z280 = z278 - z279 → z372 = (-1) → (¬ (z0 = 0 ∧ z1 = 0)) → (¬ (z3 = 0 ∧ z4 = 0)) → (¬ (z6 = 0 ∧ z7 = 0)) → (z174 = z169 ∧ z175 = -z168 ∧ z168 = z40 * (z84 * z128 + z85 * z129) + z41 * (z85 * z128 - z84 * z129) ∧ z169 = z41 * (z84 * z128 + z85 * z129) - z40 * (z85 * z128 - z84 * z129) ∧ z168 * z168 + z169 * z169 = 1) → z280 = z372 := by
 intro e278 e279 e280 e372 u0 u1 u2 F0
 obtain ⟨x1, x2, x3, x4, x5⟩ := F0
 have hd : z280 = -1 := by
  rw [e280, e278, e279, x1, x2]
  clear x3 x4
  grind
 rw [hd, e372]
theorem moveGroup_r0 : (callB (sx Tryz.prog moveGroup_N [(6, 0, 1, 1), (6, 3, 4, 1), (6, 6, 7, 1)] [] moveGroup_L moveGroup_C moveGroup_Z (prQ [50])) 5 18 [(false, [(true, [.inr (2, 0, 0, 0, 0), .inr (2, 1, 0, 0, 0), .inr (2, 2, 0, 0, 0)])]), (false, [(true, [.inr (2, 3, 0, 0, 0), .inr (2, 4, 0, 0, 0), .inr (2, 5, 0, 0, 0)])]), (false, [(true, [.inr (2, 6, 0, 0, 0), .inr (2, 7, 0, 0, 0), .inr (2, 8, 0, 0, 0)])]), (false, [(true, [.inr (2, 9, 0, 0, 0), .inr (2, 10, 0, 0, 0)])])] [] 0).map (·.1) = some (kB true) := by kernel_rfl
theorem moveGroup_r1 : (callB (sx Tryz.prog moveGroup_N [(6, 0, 1, 1), (6, 3, 4, 1), (6, 6, 7, 0)] [(218, [.inr (3, 30, 0, 0, 0)])] moveGroup_L moveGroup_C moveGroup_Z (prQ [50])) 8 18 [(false, [(true, [.inr (2, 0, 0, 0, 0), .inr (2, 1, 0, 0, 0), .inr (2, 2, 0, 0, 0)])]), (false, [(true, [.inr (2, 3, 0, 0, 0), .inr (2, 4, 0, 0, 0), .inr (2, 5, 0, 0, 0)])]), (false, [(true, [.inr (2, 6, 0, 0, 0), .inr (2, 7, 0, 0, 0), .inr (2, 8, 0, 0, 0)])]), (false, [(true, [.inr (2, 9, 0, 0, 0), .inr (2, 10, 0, 0, 0)])])] [] 0).map (·.1) = some (kB true) := by kernel_rfl
theorem moveGroup_r2 : (callB (sx Tryz.prog moveGroup_N [(6, 0, 1, 1), (6, 3, 4, 0), (6, 6, 7, 1)] [(218, [.inr (3, 21, 0, 0, 0)])] moveGroup_L moveGroup_C moveGroup_Z (prQ [50])) 8 18 [(false, [(true, [.inr (2, 0, 0, 0, 0), .inr (2, 1, 0, 0, 0), .inr (2, 2, 0, 0, 0)])]), (false, [(true, [.inr (2, 3, 0, 0, 0), .inr (2, 4, 0, 0, 0), .inr (2, 5, 0, 0, 0)])]), (false, [(true, [.inr (2, 6, 0, 0, 0), .inr (2, 7, 0, 0, 0), .inr (2, 8, 0, 0, 0)])]), (false, [(true, [.inr (2, 9, 0, 0, 0), .inr (2, 10, 0, 0, 0)])])] [] 0).map (·.1) = some (kB true) := by kernel_rfl
theorem moveGroup_r3 : (callB (sx Tryz.prog moveGroup_N [(6, 0, 1, 1), (6, 3, 4, 0), (6, 6, 7, 0)] [(218, [.inr (3, 21, 0, 0, 0)]), (218, [.inr (3, 132, 0, 0, 0)])] moveGroup_L moveGroup_C moveGroup_Z (prQ [50])) 8 18 [(false, [(true, [.inr (2, 0, 0, 0, 0), .inr (2, 1, 0, 0, 0), .inr (2, 2, 0, 0, 0)])]), (false, [(true, [.inr (2, 3, 0, 0, 0), .inr (2, 4, 0, 0, 0), .inr (2, 5, 0, 0, 0)])]), (false, [(true, [.inr (2, 6, 0, 0, 0), .inr (2, 7, 0, 0, 0), .inr (2, 8, 0, 0, 0)])]), (false, [(true, [.inr (2, 9, 0, 0, 0), .inr (2, 10, 0, 0, 0)])])] [] 0).map (·.1) = some (kB true) := by kernel_rfl
theorem moveGroup_r4 : (callB (sx Tryz.prog moveGroup_N [(6, 0, 1, 0), (6, 3, 4, 1), (6, 6, 7, 1)] [(218, [.inr (3, 12, 0, 0, 0)])] moveGroup_L moveGroup_C moveGroup_Z (prQ [50])) 8 18 [(false, [(true, [.inr (2, 0, 0, 0, 0), .inr (2, 1, 0, 0, 0), .inr (2, 2, 0, 0, 0)])]), (false, [(true, [.inr (2, 3, 0, 0, 0), .inr (2, 4, 0, 0, 0), .inr (2, 5, 0, 0, 0)])]), (false, [(true, [.inr (2, 6, 0, 0, 0), .inr (2, 7, 0, 0, 0), .inr (2, 8, 0, 0, 0)])]), (false, [(true, [.inr (2, 9, 0, 0, 0), .inr (2, 10, 0, 0, 0)])])] [] 0).map (·.1) = some (kB true) := by kernel_rfl
theorem moveGroup_r5 : (callB (sx Tryz.prog moveGroup_N [(6, 0, 1, 0), (6, 3, 4, 1), (6, 6, 7, 0)] [(218, [.inr (3, 12, 0, 0, 0)]), (218, [.inr (3, 132, 0, 0, 0)])] moveGroup_L moveGroup_C moveGroup_Z (prQ [50])) 8 18 [(false, [(true, [.inr (2, 0, 0, 0, 0), .inr (2, 1, 0, 0, 0), .inr (2, 2, 0, 0, 0)])]), (false, [(true, [.inr (2, 3, 0, 0, 0), .inr (2, 4, 0, 0, 0), .inr (2, 5, 0, 0, 0)])]), (false, [(true, [.inr (2, 6, 0, 0, 0), .inr (2, 7, 0, 0, 0), .inr (2, 8, 0, 0, 0)])]), (false, [(true, [.inr (2, 9, 0, 0, 0), .inr (2, 10, 0, 0, 0)])])] [] 0).map (·.1) = some (kB true) := by kernel_rfl
theorem moveGroup_r6 : (callB (sx Tryz.prog moveGroup_N [(6, 0, 1, 0), (6, 3, 4, 0), (6, 6, 7, 1)] [(218, [.inr (3, 12, 0, 0, 0)]), (218, [.inr (3, 123, 0, 0, 0)])] moveGroup_L moveGroup_C moveGroup_Z (prQ [50])) 8 18 [(false, [(true, [.inr (2, 0, 0, 0, 0), .inr (2, 1, 0, 0, 0), .inr (2, 2, 0, 0, 0)])]), (false, [(true, [.inr (2, 3, 0, 0, 0), .inr (2, 4, 0, 0, 0), .inr (2, 5, 0, 0, 0)])]), (false, [(true, [.inr (2, 6, 0, 0, 0), .inr (2, 7, 0, 0, 0), .inr (2, 8, 0, 0, 0)])]), (false, [(true, [.inr (2, 9, 0, 0, 0), .inr (2, 10, 0, 0, 0)])])] [] 0).map (·.1) = some (kB true) := by kernel_rfl
theorem moveGroup_r7 : (callB (sx Tryz.prog moveGroup_N [(6, 0, 1, 0), (6, 3, 4, 0), (6, 6, 7, 0), (3, 168, 208, 1), (3, 174, 214, 1), (3, 182, 222, 1), (3, 169, 209, 1), (3, 175, 215, 1), (3, 183, 223, 1), (3, 232, 256, 1), (3, 233, 257, 1), (4, 262, 27, 1), (4, 268, 9, 1), (4, 276, 9, 1), (4, 263, 9, 1), (4, 269, 27, 1), (4, 277, 9, 1), (0, 280, 0, 0), (0, 310, 0, 1), (0, 314, 0, 1), (0, 317, 0, 1), (1, 280, 0, 1), (6, 330, 331, 1), (3, 287, 356, 1), (3, 295, 362, 1), (3, 305, 370, 1), (3, 288, 357, 1), (3, 296, 363, 1), (3, 306, 371, 1), (4, 280, 372, 1)] [(218, [.inr (3, 12, 0, 0, 0)]), (218, [.inr (3, 123, 0, 0, 0)]), (218, [.inr (3, 234, 0, 0, 0)]), (208, [.inr (3, 340, 0, 0, 0)]), (208, [.inr (3, 351, 0, 0, 0)]), (208, [.inr (3, 425, 0, 0, 0)]), (208, [.inr (3, 436, 0, 0, 0)]), (208, [.inr (3, 511, 0, 0, 0)]), (208, [.inr (3, 522, 0, 0, 0)]), (208, [.inr (3, 596, 0, 0, 0)]), (208, [.inr (3, 607, 0, 0, 0)]), (208, [.inr (3, 681, 0, 0, 0)]), (208, [.inr (3, 717, 0, 0, 0)]), (208, [.inr (3, 753, 0, 0, 0)]), (208, [.inr (3, 789, 0, 0, 0)]), (208, [.inr (3, 825, 0, 0, 0)]), (208, [.inr (3, 836, 0, 0, 0)]), (208, [.inr (3, 909, 0, 0, 0)]), (211, [.inr (3, 920, 0, 0, 0), .inr (3, 927, 0, 0, 0)]), (208, [.inr (3, 983, 0, 0, 0)]), (219, []), (208, [.inr (3, 1055, 0, 0, 0)]), (208, [.inr (3, 1066, 0, 0, 0)]), (208, [.inr (3, 1140, 0, 0, 0)]), (208, [.inr (3, 1151, 0, 0, 0)]), (208, [.inr (3, 1223, 0, 0, 0)])] moveGroup_L moveGroup_C moveGroup_Z (prQ [50])) 8 18 [(false, [(true, [.inr (2, 0, 0, 0, 0), .inr (2, 1, 0, 0, 0), .inr (2, 2, 0, 0, 0)])]), (false, [(true, [.inr (2, 3, 0, 0, 0), .inr (2, 4, 0, 0, 0), .inr (2, 5, 0, 0, 0)])]), (false, [(true, [.inr (2, 6, 0, 0, 0), .inr (2, 7, 0, 0, 0), .inr (2, 8, 0, 0, 0)])]), (false, [(true, [.inr (2, 9, 0, 0, 0), .inr (2, 10, 0, 0, 0)])])] [] 0).map (·.1) = some (kB true) := by kernel_rfl
theorem moveGroup_r8 : (callB (sx Tryz.prog moveGroup_N [(6, 0, 1, 0), (6, 3, 4, 0), (6, 6, 7, 0), (3, 168, 208, 1), (3, 174, 214, 1), (3, 182, 222, 1), (3, 169, 209, 1), (3, 175, 215, 1), (3, 183, 223, 1), (3, 232, 256, 1), (3, 233, 257, 1), (4, 262, 27, 1), (4, 268, 9, 1), (4, 276, 9, 1), (4, 263, 9, 1), (4, 269, 27, 1), (4, 277, 9, 1), (0, 280, 0, 0), (0, 310, 0, 1), (0, 314, 0, 1), (0, 317, 0, 1), (1, 280, 0, 1), (6, 330, 331, 0), (3, 287, 356, 1), (3, 295, 362, 1), (3, 305, 370, 1), (3, 288, 357, 1), (3, 296, 363, 1), (3, 306, 371, 1), (4, 280, 372, 1)] [(218, [.inr (3, 12, 0, 0, 0)]), (218, [.inr (3, 123, 0, 0, 0)]), (218, [.inr (3, 234, 0, 0, 0)]), (208, [.inr (3, 340, 0, 0, 0)]), (208, [.inr (3, 351, 0, 0, 0)]), (208, [.inr (3, 425, 0, 0, 0)]), (208, [.inr (3, 436, 0, 0, 0)]), (208, [.inr (3, 511, 0, 0, 0)]), (208, [.inr (3, 522, 0, 0, 0)]), (208, [.inr (3, 596, 0, 0, 0)]), (208, [.inr (3, 607, 0, 0, 0)]), (208, [.inr (3, 681, 0, 0, 0)]), (208, [.inr (3, 717, 0, 0, 0)]), (208, [.inr (3, 753, 0, 0, 0)]), (208, [.inr (3, 789, 0, 0, 0)]), (208, [.inr (3, 825, 0, 0, 0)]), (208, [.inr (3, 836, 0, 0, 0)]), (208, [.inr (3, 909, 0, 0, 0)]), (211, [.inr (3, 920, 0, 0, 0), .inr (3, 927, 0, 0, 0)]), (208, [.inr (3, 983, 0, 0, 0)]), (219, []), (208, [.inr (3, 1055, 0, 0, 0)]), (208, [.inr (3, 1066, 0, 0, 0)]), (208, [.inr (3, 1140, 0, 0, 0)]), (208, [.inr (3, 1151, 0, 0, 0)]), (208, [.inr (3, 1223, 0, 0, 0)])] moveGroup_L moveGroup_C moveGroup_Z (prQ [50])) 8 18 [(false, [(true, [.inr (2, 0, 0, 0, 0), .inr (2, 1, 0, 0, 0), .inr (2, 2, 0, 0, 0)])]), (false, [(true, [.inr (2, 3, 0, 0, 0), .inr (2, 4, 0, 0, 0), .inr (2, 5, 0, 0, 0)])]), (false, [(true, [.inr (2, 6, 0, 0, 0), .inr (2, 7, 0, 0, 0), .inr (2, 8, 0, 0, 0)])]), (false, [(true, [.inr (2, 9, 0, 0, 0), .inr (2, 10, 0, 0, 0)])])] [] 0).map (·.1) = some (kB true) := by kernel_rfl
theorem moveGroup_An {a b : Prop} (x : a) (y : b) : a ∧ b := ⟨x, y⟩
theorem moveGroup_leaf {H : List (Nat × Nat × Nat × Nat)} {K : List (FuncId × List AC)} {k : Nat} {q : Nat → Rat} {σ : Nat → ByteArray} {args : List AV} {vs : List Value} {w : World} (hr : (callB (sx Tryz.prog moveGroup_N H K moveGroup_L moveGroup_C moveGroup_Z (prQ [50])) k 18 args [] 0).map (·.1) = some (kB true)) (hσ : ∀ j, (σ j).size ≤ 1048576) (hq : ∀ (a : Nat) nd, moveGroup_N[a]? = some nd → q a = valN σ q nd) (h0 : ∀ a, moveGroup_N.length ≤ a → q a = 0) (hH : hAll q H) (hp : PreS w) (hA : ∀ K, A2 (avOn (cOn (evS q σ) K (fun _ => none) w)) args vs) : Calls Tryz.prog 18 vs.toArray w fun e w' => Below w.heap.size w w' ∧ e = .returned (.bool true) :=
 run_toldQ' k (hy_ofW hσ moveGroup_wf moveGroup_sz moveGroup_lt moveGroup_cn hq h0 hH) (by simp [closed_moved]) (by kernel_rfl) hr hp (hA K)
theorem moveGroup_walk {w : World} {la lb lc ma mb mc na nb nc vx vz : ByteArray} (sla : la.size ≤ 1048576) (slb : lb.size ≤ 1048576) (slc : lc.size ≤ 1048576) (sma : ma.size ≤ 1048576) (smb : mb.size ≤ 1048576) (smc : mc.size ≤ 1048576) (sna : na.size ≤ 1048576) (snb : nb.size ≤ 1048576) (snc : nc.size ≤ 1048576) (svx : vx.size ≤ 1048576) (svz : vz.size ≤ 1048576) (tab : Tab w) (mx : MaxL w) :
  Calls Tryz.prog 18 #[.agg #[.string la, .string lb, .string lc], .agg #[.string ma, .string mb, .string mc], .agg #[.string na, .string nb, .string nc], .agg #[.string vx, .string vz]] w fun e w' => Below w.heap.size w w' ∧ e = .returned (.bool true) := by
 have hσ : ∀ j, (sgOf [la, lb, lc, ma, mb, mc, na, nb, nc, vx, vz] j).size ≤ 1048576 := sgOf_size (by simp [sla, slb, slc, sma, smb, smc, sna, snb, snc, svx, svz])
 obtain ⟨q, hq, h0⟩ := nodes_exist (sgOf [la, lb, lc, ma, mb, mc, na, nb, nc, vx, vz]) moveGroup_N moveGroup_wf
 have hA : ∀ K, A2 (avOn (cOn (evS q (sgOf [la, lb, lc, ma, mb, mc, na, nb, nc, vx, vz])) K (fun _ => none) w)) [(false, [(true, [.inr (2, 0, 0, 0, 0), .inr (2, 1, 0, 0, 0), .inr (2, 2, 0, 0, 0)])]), (false, [(true, [.inr (2, 3, 0, 0, 0), .inr (2, 4, 0, 0, 0), .inr (2, 5, 0, 0, 0)])]), (false, [(true, [.inr (2, 6, 0, 0, 0), .inr (2, 7, 0, 0, 0), .inr (2, 8, 0, 0, 0)])]), (false, [(true, [.inr (2, 9, 0, 0, 0), .inr (2, 10, 0, 0, 0)])])] [.agg #[.string la, .string lb, .string lc], .agg #[.string ma, .string mb, .string mc], .agg #[.string na, .string nb, .string nc], .agg #[.string vx, .string vz]] := fun K => ⟨⟨⟨[.string la, .string lb, .string lc], rfl, rfl, rfl, rfl, trivial⟩, trivial⟩, ⟨⟨[.string ma, .string mb, .string mc], rfl, rfl, rfl, rfl, trivial⟩, trivial⟩, ⟨⟨[.string na, .string nb, .string nc], rfl, rfl, rfl, rfl, trivial⟩, trivial⟩, ⟨⟨[.string vx, .string vz], rfl, rfl, rfl, trivial⟩, trivial⟩, trivial⟩
 have E9 : q 9 = 0 := (hq 9 _ rfl).trans moveGroup_c9
 have E10 : q 10 = q 6 * q 9 := hq 10 _ rfl
 have E11 : q 11 = q 7 * q 9 := hq 11 _ rfl
 have E12 : q 12 = q 10 + q 11 := hq 12 _ rfl
 have E13 : q 13 = q 12 + q 8 := hq 13 _ rfl
 have E14 : q 14 = -q 13 := hq 14 _ rfl
 have E15 : q 15 = q 6 * q 14 := hq 15 _ rfl
 have E16 : q 16 = q 7 * q 14 := hq 16 _ rfl
 have E17 : q 17 = q 6 * q 6 := hq 17 _ rfl
 have E18 : q 18 = q 7 * q 7 := hq 18 _ rfl
 have E19 : q 19 = q 17 + q 18 := hq 19 _ rfl
 have E20 : q 20 = q 15 / q 19 := hq 20 _ rfl
 have E21 : q 21 = q 16 / q 19 := hq 21 _ rfl
 have E22 : q 22 = 2 := (hq 22 _ rfl).trans moveGroup_c22
 have E23 : q 23 = q 20 * q 22 := hq 23 _ rfl
 have E24 : q 24 = q 21 * q 22 := hq 24 _ rfl
 have E25 : q 25 = q 9 + q 23 := hq 25 _ rfl
 have E26 : q 26 = q 9 + q 24 := hq 26 _ rfl
 have E27 : q 27 = 1 := (hq 27 _ rfl).trans moveGroup_c27
 have E28 : q 28 = q 6 * q 27 := hq 28 _ rfl
 have E29 : q 29 = q 28 + q 11 := hq 29 _ rfl
 have E30 : q 30 = q 29 + q 8 := hq 30 _ rfl
 have E31 : q 31 = -q 30 := hq 31 _ rfl
 have E32 : q 32 = q 6 * q 31 := hq 32 _ rfl
 have E33 : q 33 = q 7 * q 31 := hq 33 _ rfl
 have E34 : q 34 = q 32 / q 19 := hq 34 _ rfl
 have E35 : q 35 = q 33 / q 19 := hq 35 _ rfl
 have E36 : q 36 = q 34 * q 22 := hq 36 _ rfl
 have E37 : q 37 = q 35 * q 22 := hq 37 _ rfl
 have E38 : q 38 = q 27 + q 36 := hq 38 _ rfl
 have E39 : q 39 = q 9 + q 37 := hq 39 _ rfl
 have E40 : q 40 = q 38 - q 25 := hq 40 _ rfl
 have E41 : q 41 = q 39 - q 26 := hq 41 _ rfl
 have E42 : q 42 = q 7 * q 27 := hq 42 _ rfl
 have E43 : q 43 = q 10 + q 42 := hq 43 _ rfl
 have E44 : q 44 = q 43 + q 8 := hq 44 _ rfl
 have E45 : q 45 = -q 44 := hq 45 _ rfl
 have E46 : q 46 = q 6 * q 45 := hq 46 _ rfl
 have E47 : q 47 = q 7 * q 45 := hq 47 _ rfl
 have E48 : q 48 = q 46 / q 19 := hq 48 _ rfl
 have E49 : q 49 = q 47 / q 19 := hq 49 _ rfl
 have E50 : q 50 = q 48 * q 22 := hq 50 _ rfl
 have E51 : q 51 = q 49 * q 22 := hq 51 _ rfl
 have E52 : q 52 = q 9 + q 50 := hq 52 _ rfl
 have E53 : q 53 = q 27 + q 51 := hq 53 _ rfl
 have E54 : q 54 = q 52 - q 25 := hq 54 _ rfl
 have E55 : q 55 = q 53 - q 26 := hq 55 _ rfl
 have E56 : q 56 = q 3 * q 9 := hq 56 _ rfl
 have E57 : q 57 = q 4 * q 9 := hq 57 _ rfl
 have E58 : q 58 = q 56 + q 57 := hq 58 _ rfl
 have E59 : q 59 = q 58 + q 5 := hq 59 _ rfl
 have E60 : q 60 = -q 59 := hq 60 _ rfl
 have E61 : q 61 = q 3 * q 60 := hq 61 _ rfl
 have E62 : q 62 = q 4 * q 60 := hq 62 _ rfl
 have E63 : q 63 = q 3 * q 3 := hq 63 _ rfl
 have E64 : q 64 = q 4 * q 4 := hq 64 _ rfl
 have E65 : q 65 = q 63 + q 64 := hq 65 _ rfl
 have E66 : q 66 = q 61 / q 65 := hq 66 _ rfl
 have E67 : q 67 = q 62 / q 65 := hq 67 _ rfl
 have E68 : q 68 = q 66 * q 22 := hq 68 _ rfl
 have E69 : q 69 = q 67 * q 22 := hq 69 _ rfl
 have E70 : q 70 = q 9 + q 68 := hq 70 _ rfl
 have E71 : q 71 = q 9 + q 69 := hq 71 _ rfl
 have E72 : q 72 = q 3 * q 27 := hq 72 _ rfl
 have E73 : q 73 = q 72 + q 57 := hq 73 _ rfl
 have E74 : q 74 = q 73 + q 5 := hq 74 _ rfl
 have E75 : q 75 = -q 74 := hq 75 _ rfl
 have E76 : q 76 = q 3 * q 75 := hq 76 _ rfl
 have E77 : q 77 = q 4 * q 75 := hq 77 _ rfl
 have E78 : q 78 = q 76 / q 65 := hq 78 _ rfl
 have E79 : q 79 = q 77 / q 65 := hq 79 _ rfl
 have E80 : q 80 = q 78 * q 22 := hq 80 _ rfl
 have E81 : q 81 = q 79 * q 22 := hq 81 _ rfl
 have E82 : q 82 = q 27 + q 80 := hq 82 _ rfl
 have E83 : q 83 = q 9 + q 81 := hq 83 _ rfl
 have E84 : q 84 = q 82 - q 70 := hq 84 _ rfl
 have E85 : q 85 = q 83 - q 71 := hq 85 _ rfl
 have E86 : q 86 = q 4 * q 27 := hq 86 _ rfl
 have E87 : q 87 = q 56 + q 86 := hq 87 _ rfl
 have E88 : q 88 = q 87 + q 5 := hq 88 _ rfl
 have E89 : q 89 = -q 88 := hq 89 _ rfl
 have E90 : q 90 = q 3 * q 89 := hq 90 _ rfl
 have E91 : q 91 = q 4 * q 89 := hq 91 _ rfl
 have E92 : q 92 = q 90 / q 65 := hq 92 _ rfl
 have E93 : q 93 = q 91 / q 65 := hq 93 _ rfl
 have E94 : q 94 = q 92 * q 22 := hq 94 _ rfl
 have E95 : q 95 = q 93 * q 22 := hq 95 _ rfl
 have E96 : q 96 = q 9 + q 94 := hq 96 _ rfl
 have E97 : q 97 = q 27 + q 95 := hq 97 _ rfl
 have E98 : q 98 = q 96 - q 70 := hq 98 _ rfl
 have E99 : q 99 = q 97 - q 71 := hq 99 _ rfl
 have E100 : q 100 = q 0 * q 9 := hq 100 _ rfl
 have E101 : q 101 = q 1 * q 9 := hq 101 _ rfl
 have E102 : q 102 = q 100 + q 101 := hq 102 _ rfl
 have E103 : q 103 = q 102 + q 2 := hq 103 _ rfl
 have E104 : q 104 = -q 103 := hq 104 _ rfl
 have E105 : q 105 = q 0 * q 104 := hq 105 _ rfl
 have E106 : q 106 = q 1 * q 104 := hq 106 _ rfl
 have E107 : q 107 = q 0 * q 0 := hq 107 _ rfl
 have E108 : q 108 = q 1 * q 1 := hq 108 _ rfl
 have E109 : q 109 = q 107 + q 108 := hq 109 _ rfl
 have E110 : q 110 = q 105 / q 109 := hq 110 _ rfl
 have E111 : q 111 = q 106 / q 109 := hq 111 _ rfl
 have E112 : q 112 = q 110 * q 22 := hq 112 _ rfl
 have E113 : q 113 = q 111 * q 22 := hq 113 _ rfl
 have E114 : q 114 = q 9 + q 112 := hq 114 _ rfl
 have E115 : q 115 = q 9 + q 113 := hq 115 _ rfl
 have E116 : q 116 = q 0 * q 27 := hq 116 _ rfl
 have E117 : q 117 = q 116 + q 101 := hq 117 _ rfl
 have E118 : q 118 = q 117 + q 2 := hq 118 _ rfl
 have E119 : q 119 = -q 118 := hq 119 _ rfl
 have E120 : q 120 = q 0 * q 119 := hq 120 _ rfl
 have E121 : q 121 = q 1 * q 119 := hq 121 _ rfl
 have E122 : q 122 = q 120 / q 109 := hq 122 _ rfl
 have E123 : q 123 = q 121 / q 109 := hq 123 _ rfl
 have E124 : q 124 = q 122 * q 22 := hq 124 _ rfl
 have E125 : q 125 = q 123 * q 22 := hq 125 _ rfl
 have E126 : q 126 = q 27 + q 124 := hq 126 _ rfl
 have E127 : q 127 = q 9 + q 125 := hq 127 _ rfl
 have E128 : q 128 = q 126 - q 114 := hq 128 _ rfl
 have E129 : q 129 = q 127 - q 115 := hq 129 _ rfl
 have E130 : q 130 = q 1 * q 27 := hq 130 _ rfl
 have E131 : q 131 = q 100 + q 130 := hq 131 _ rfl
 have E132 : q 132 = q 131 + q 2 := hq 132 _ rfl
 have E133 : q 133 = -q 132 := hq 133 _ rfl
 have E134 : q 134 = q 0 * q 133 := hq 134 _ rfl
 have E135 : q 135 = q 1 * q 133 := hq 135 _ rfl
 have E136 : q 136 = q 134 / q 109 := hq 136 _ rfl
 have E137 : q 137 = q 135 / q 109 := hq 137 _ rfl
 have E138 : q 138 = q 136 * q 22 := hq 138 _ rfl
 have E139 : q 139 = q 137 * q 22 := hq 139 _ rfl
 have E140 : q 140 = q 9 + q 138 := hq 140 _ rfl
 have E141 : q 141 = q 27 + q 139 := hq 141 _ rfl
 have E142 : q 142 = q 140 - q 114 := hq 142 _ rfl
 have E143 : q 143 = q 141 - q 115 := hq 143 _ rfl
 have E144 : q 144 = q 84 * q 128 := hq 144 _ rfl
 have E145 : q 145 = q 85 * q 128 := hq 145 _ rfl
 have E146 : q 146 = q 98 * q 129 := hq 146 _ rfl
 have E147 : q 147 = q 99 * q 129 := hq 147 _ rfl
 have E148 : q 148 = q 144 + q 146 := hq 148 _ rfl
 have E149 : q 149 = q 145 + q 147 := hq 149 _ rfl
 have E150 : q 150 = q 84 * q 142 := hq 150 _ rfl
 have E151 : q 151 = q 85 * q 142 := hq 151 _ rfl
 have E152 : q 152 = q 98 * q 143 := hq 152 _ rfl
 have E153 : q 153 = q 99 * q 143 := hq 153 _ rfl
 have E154 : q 154 = q 150 + q 152 := hq 154 _ rfl
 have E155 : q 155 = q 151 + q 153 := hq 155 _ rfl
 have E156 : q 156 = q 84 * q 114 := hq 156 _ rfl
 have E157 : q 157 = q 85 * q 114 := hq 157 _ rfl
 have E158 : q 158 = q 98 * q 115 := hq 158 _ rfl
 have E159 : q 159 = q 99 * q 115 := hq 159 _ rfl
 have E160 : q 160 = q 156 + q 158 := hq 160 _ rfl
 have E161 : q 161 = q 157 + q 159 := hq 161 _ rfl
 have E162 : q 162 = q 160 + q 70 := hq 162 _ rfl
 have E163 : q 163 = q 161 + q 71 := hq 163 _ rfl
 have E164 : q 164 = q 40 * q 148 := hq 164 _ rfl
 have E165 : q 165 = q 41 * q 148 := hq 165 _ rfl
 have E166 : q 166 = q 54 * q 149 := hq 166 _ rfl
 have E167 : q 167 = q 55 * q 149 := hq 167 _ rfl
 have E168 : q 168 = q 164 + q 166 := hq 168 _ rfl
 have E169 : q 169 = q 165 + q 167 := hq 169 _ rfl
 have E170 : q 170 = q 40 * q 154 := hq 170 _ rfl
 have E171 : q 171 = q 41 * q 154 := hq 171 _ rfl
 have E172 : q 172 = q 54 * q 155 := hq 172 _ rfl
 have E173 : q 173 = q 55 * q 155 := hq 173 _ rfl
 have E174 : q 174 = q 170 + q 172 := hq 174 _ rfl
 have E175 : q 175 = q 171 + q 173 := hq 175 _ rfl
 have E176 : q 176 = q 40 * q 162 := hq 176 _ rfl
 have E177 : q 177 = q 41 * q 162 := hq 177 _ rfl
 have E178 : q 178 = q 54 * q 163 := hq 178 _ rfl
 have E179 : q 179 = q 55 * q 163 := hq 179 _ rfl
 have E180 : q 180 = q 176 + q 178 := hq 180 _ rfl
 have E181 : q 181 = q 177 + q 179 := hq 181 _ rfl
 have E182 : q 182 = q 180 + q 25 := hq 182 _ rfl
 have E183 : q 183 = q 181 + q 26 := hq 183 _ rfl
 have E184 : q 184 = q 40 * q 84 := hq 184 _ rfl
 have E185 : q 185 = q 41 * q 84 := hq 185 _ rfl
 have E186 : q 186 = q 54 * q 85 := hq 186 _ rfl
 have E187 : q 187 = q 55 * q 85 := hq 187 _ rfl
 have E188 : q 188 = q 184 + q 186 := hq 188 _ rfl
 have E189 : q 189 = q 185 + q 187 := hq 189 _ rfl
 have E190 : q 190 = q 40 * q 98 := hq 190 _ rfl
 have E191 : q 191 = q 41 * q 98 := hq 191 _ rfl
 have E192 : q 192 = q 54 * q 99 := hq 192 _ rfl
 have E193 : q 193 = q 55 * q 99 := hq 193 _ rfl
 have E194 : q 194 = q 190 + q 192 := hq 194 _ rfl
 have E195 : q 195 = q 191 + q 193 := hq 195 _ rfl
 have E196 : q 196 = q 40 * q 70 := hq 196 _ rfl
 have E197 : q 197 = q 41 * q 70 := hq 197 _ rfl
 have E198 : q 198 = q 54 * q 71 := hq 198 _ rfl
 have E199 : q 199 = q 55 * q 71 := hq 199 _ rfl
 have E200 : q 200 = q 196 + q 198 := hq 200 _ rfl
 have E201 : q 201 = q 197 + q 199 := hq 201 _ rfl
 have E202 : q 202 = q 200 + q 25 := hq 202 _ rfl
 have E203 : q 203 = q 201 + q 26 := hq 203 _ rfl
 have E204 : q 204 = q 188 * q 128 := hq 204 _ rfl
 have E205 : q 205 = q 189 * q 128 := hq 205 _ rfl
 have E206 : q 206 = q 194 * q 129 := hq 206 _ rfl
 have E207 : q 207 = q 195 * q 129 := hq 207 _ rfl
 have E208 : q 208 = q 204 + q 206 := hq 208 _ rfl
 have E209 : q 209 = q 205 + q 207 := hq 209 _ rfl
 have E210 : q 210 = q 188 * q 142 := hq 210 _ rfl
 have E211 : q 211 = q 189 * q 142 := hq 211 _ rfl
 have E212 : q 212 = q 194 * q 143 := hq 212 _ rfl
 have E213 : q 213 = q 195 * q 143 := hq 213 _ rfl
 have E214 : q 214 = q 210 + q 212 := hq 214 _ rfl
 have E215 : q 215 = q 211 + q 213 := hq 215 _ rfl
 have E216 : q 216 = q 188 * q 114 := hq 216 _ rfl
 have E217 : q 217 = q 189 * q 114 := hq 217 _ rfl
 have E218 : q 218 = q 194 * q 115 := hq 218 _ rfl
 have E219 : q 219 = q 195 * q 115 := hq 219 _ rfl
 have E220 : q 220 = q 216 + q 218 := hq 220 _ rfl
 have E221 : q 221 = q 217 + q 219 := hq 221 _ rfl
 have E222 : q 222 = q 220 + q 202 := hq 222 _ rfl
 have E223 : q 223 = q 221 + q 203 := hq 223 _ rfl
 have E226 : q 226 = q 168 * q 224 := hq 226 _ rfl
 have E227 : q 227 = q 169 * q 224 := hq 227 _ rfl
 have E228 : q 228 = q 174 * q 225 := hq 228 _ rfl
 have E229 : q 229 = q 175 * q 225 := hq 229 _ rfl
 have E230 : q 230 = q 226 + q 228 := hq 230 _ rfl
 have E231 : q 231 = q 227 + q 229 := hq 231 _ rfl
 have E232 : q 232 = q 230 + q 182 := hq 232 _ rfl
 have E233 : q 233 = q 231 + q 183 := hq 233 _ rfl
 have E234 : q 234 = q 128 * q 224 := hq 234 _ rfl
 have E235 : q 235 = q 129 * q 224 := hq 235 _ rfl
 have E236 : q 236 = q 142 * q 225 := hq 236 _ rfl
 have E237 : q 237 = q 143 * q 225 := hq 237 _ rfl
 have E238 : q 238 = q 234 + q 236 := hq 238 _ rfl
 have E239 : q 239 = q 235 + q 237 := hq 239 _ rfl
 have E240 : q 240 = q 238 + q 114 := hq 240 _ rfl
 have E241 : q 241 = q 239 + q 115 := hq 241 _ rfl
 have E242 : q 242 = q 84 * q 240 := hq 242 _ rfl
 have E243 : q 243 = q 85 * q 240 := hq 243 _ rfl
 have E244 : q 244 = q 98 * q 241 := hq 244 _ rfl
 have E245 : q 245 = q 99 * q 241 := hq 245 _ rfl
 have E246 : q 246 = q 242 + q 244 := hq 246 _ rfl
 have E247 : q 247 = q 243 + q 245 := hq 247 _ rfl
 have E248 : q 248 = q 246 + q 70 := hq 248 _ rfl
 have E249 : q 249 = q 247 + q 71 := hq 249 _ rfl
 have E250 : q 250 = q 40 * q 248 := hq 250 _ rfl
 have E251 : q 251 = q 41 * q 248 := hq 251 _ rfl
 have E252 : q 252 = q 54 * q 249 := hq 252 _ rfl
 have E253 : q 253 = q 55 * q 249 := hq 253 _ rfl
 have E254 : q 254 = q 250 + q 252 := hq 254 _ rfl
 have E255 : q 255 = q 251 + q 253 := hq 255 _ rfl
 have E256 : q 256 = q 254 + q 25 := hq 256 _ rfl
 have E257 : q 257 = q 255 + q 26 := hq 257 _ rfl
 have E258 : q 258 = q 128 * q 128 := hq 258 _ rfl
 have E259 : q 259 = q 129 * q 128 := hq 259 _ rfl
 have E260 : q 260 = q 142 * q 129 := hq 260 _ rfl
 have E261 : q 261 = q 143 * q 129 := hq 261 _ rfl
 have E262 : q 262 = q 258 + q 260 := hq 262 _ rfl
 have E263 : q 263 = q 259 + q 261 := hq 263 _ rfl
 have E264 : q 264 = q 128 * q 142 := hq 264 _ rfl
 have E265 : q 265 = q 129 * q 142 := hq 265 _ rfl
 have E266 : q 266 = q 142 * q 143 := hq 266 _ rfl
 have E267 : q 267 = q 143 * q 143 := hq 267 _ rfl
 have E268 : q 268 = q 264 + q 266 := hq 268 _ rfl
 have E269 : q 269 = q 265 + q 267 := hq 269 _ rfl
 have E270 : q 270 = q 128 * q 114 := hq 270 _ rfl
 have E271 : q 271 = q 129 * q 114 := hq 271 _ rfl
 have E272 : q 272 = q 142 * q 115 := hq 272 _ rfl
 have E273 : q 273 = q 143 * q 115 := hq 273 _ rfl
 have E274 : q 274 = q 270 + q 272 := hq 274 _ rfl
 have E275 : q 275 = q 271 + q 273 := hq 275 _ rfl
 have E276 : q 276 = q 274 + q 114 := hq 276 _ rfl
 have E277 : q 277 = q 275 + q 115 := hq 277 _ rfl
 have E278 : q 278 = q 168 * q 175 := hq 278 _ rfl
 have E279 : q 279 = q 169 * q 174 := hq 279 _ rfl
 have E280 : q 280 = q 278 - q 279 := hq 280 _ rfl
 have E281 : q 281 = q 27 * q 175 := hq 281 _ rfl
 have E282 : q 282 = q 9 * q 174 := hq 282 _ rfl
 have E283 : q 283 = q 281 - q 282 := hq 283 _ rfl
 have E284 : q 284 = q 168 * q 9 := hq 284 _ rfl
 have E285 : q 285 = q 169 * q 27 := hq 285 _ rfl
 have E286 : q 286 = q 284 - q 285 := hq 286 _ rfl
 have E287 : q 287 = q 283 / q 280 := hq 287 _ rfl
 have E288 : q 288 = q 286 / q 280 := hq 288 _ rfl
 have E289 : q 289 = q 9 * q 175 := hq 289 _ rfl
 have E290 : q 290 = q 27 * q 174 := hq 290 _ rfl
 have E291 : q 291 = q 289 - q 290 := hq 291 _ rfl
 have E292 : q 292 = q 168 * q 27 := hq 292 _ rfl
 have E293 : q 293 = q 169 * q 9 := hq 293 _ rfl
 have E294 : q 294 = q 292 - q 293 := hq 294 _ rfl
 have E295 : q 295 = q 291 / q 280 := hq 295 _ rfl
 have E296 : q 296 = q 294 / q 280 := hq 296 _ rfl
 have E297 : q 297 = q 182 * q 175 := hq 297 _ rfl
 have E298 : q 298 = q 183 * q 174 := hq 298 _ rfl
 have E299 : q 299 = q 297 - q 298 := hq 299 _ rfl
 have E300 : q 300 = q 168 * q 183 := hq 300 _ rfl
 have E301 : q 301 = q 169 * q 182 := hq 301 _ rfl
 have E302 : q 302 = q 300 - q 301 := hq 302 _ rfl
 have E303 : q 303 = q 299 / q 280 := hq 303 _ rfl
 have E304 : q 304 = q 302 / q 280 := hq 304 _ rfl
 have E305 : q 305 = -q 303 := hq 305 _ rfl
 have E306 : q 306 = -q 304 := hq 306 _ rfl
 have E307 : q 307 = q 168 * q 168 := hq 307 _ rfl
 have E308 : q 308 = q 169 * q 169 := hq 308 _ rfl
 have E309 : q 309 = q 307 + q 308 := hq 309 _ rfl
 have E310 : q 310 = q 309 - q 27 := hq 310 _ rfl
 have E311 : q 311 = q 174 * q 174 := hq 311 _ rfl
 have E312 : q 312 = q 175 * q 175 := hq 312 _ rfl
 have E313 : q 313 = q 311 + q 312 := hq 313 _ rfl
 have E314 : q 314 = q 313 - q 27 := hq 314 _ rfl
 have E315 : q 315 = q 168 * q 174 := hq 315 _ rfl
 have E316 : q 316 = q 169 * q 175 := hq 316 _ rfl
 have E317 : q 317 = q 315 + q 316 := hq 317 _ rfl
 have E332 : q 332 = q 84 * q 40 := hq 332 _ rfl
 have E333 : q 333 = q 85 * q 40 := hq 333 _ rfl
 have E334 : q 334 = q 98 * q 41 := hq 334 _ rfl
 have E335 : q 335 = q 99 * q 41 := hq 335 _ rfl
 have E336 : q 336 = q 332 + q 334 := hq 336 _ rfl
 have E337 : q 337 = q 333 + q 335 := hq 337 _ rfl
 have E338 : q 338 = q 84 * q 54 := hq 338 _ rfl
 have E339 : q 339 = q 85 * q 54 := hq 339 _ rfl
 have E340 : q 340 = q 98 * q 55 := hq 340 _ rfl
 have E341 : q 341 = q 99 * q 55 := hq 341 _ rfl
 have E342 : q 342 = q 338 + q 340 := hq 342 _ rfl
 have E343 : q 343 = q 339 + q 341 := hq 343 _ rfl
 have E344 : q 344 = q 84 * q 25 := hq 344 _ rfl
 have E345 : q 345 = q 85 * q 25 := hq 345 _ rfl
 have E346 : q 346 = q 98 * q 26 := hq 346 _ rfl
 have E347 : q 347 = q 99 * q 26 := hq 347 _ rfl
 have E348 : q 348 = q 344 + q 346 := hq 348 _ rfl
 have E349 : q 349 = q 345 + q 347 := hq 349 _ rfl
 have E350 : q 350 = q 348 + q 70 := hq 350 _ rfl
 have E351 : q 351 = q 349 + q 71 := hq 351 _ rfl
 have E352 : q 352 = q 128 * q 336 := hq 352 _ rfl
 have E353 : q 353 = q 129 * q 336 := hq 353 _ rfl
 have E354 : q 354 = q 142 * q 337 := hq 354 _ rfl
 have E355 : q 355 = q 143 * q 337 := hq 355 _ rfl
 have E356 : q 356 = q 352 + q 354 := hq 356 _ rfl
 have E357 : q 357 = q 353 + q 355 := hq 357 _ rfl
 have E358 : q 358 = q 128 * q 342 := hq 358 _ rfl
 have E359 : q 359 = q 129 * q 342 := hq 359 _ rfl
 have E360 : q 360 = q 142 * q 343 := hq 360 _ rfl
 have E361 : q 361 = q 143 * q 343 := hq 361 _ rfl
 have E362 : q 362 = q 358 + q 360 := hq 362 _ rfl
 have E363 : q 363 = q 359 + q 361 := hq 363 _ rfl
 have E364 : q 364 = q 128 * q 350 := hq 364 _ rfl
 have E365 : q 365 = q 129 * q 350 := hq 365 _ rfl
 have E366 : q 366 = q 142 * q 351 := hq 366 _ rfl
 have E367 : q 367 = q 143 * q 351 := hq 367 _ rfl
 have E368 : q 368 = q 364 + q 366 := hq 368 _ rfl
 have E369 : q 369 = q 365 + q 367 := hq 369 _ rfl
 have E370 : q 370 = q 368 + q 114 := hq 370 _ rfl
 have E371 : q 371 = q 369 + q 115 := hq 371 _ rfl
 have E372 : q 372 = (-1) := (hq 372 _ rfl).trans moveGroup_c372
 by_cases a_6_0_1 : q 0 = 0 ∧ q 1 = 0
 ·
  by_cases a_6_3_4 : q 3 = 0 ∧ q 4 = 0
  ·
   by_cases a_6_6_7 : q 6 = 0 ∧ q 7 = 0
   ·
    exact moveGroup_leaf moveGroup_r0 hσ hq h0 (moveGroup_An (hT a_6_0_1) (moveGroup_An (hT a_6_3_4) (moveGroup_An (hT a_6_6_7) trivial))) ⟨tab, mx⟩ hA
   ·
    exact moveGroup_leaf moveGroup_r1 hσ hq h0 (moveGroup_An (hT a_6_0_1) (moveGroup_An (hT a_6_3_4) (moveGroup_An (hF a_6_6_7) trivial))) ⟨tab, mx⟩ hA
  ·
   by_cases a_6_6_7 : q 6 = 0 ∧ q 7 = 0
   ·
    exact moveGroup_leaf moveGroup_r2 hσ hq h0 (moveGroup_An (hT a_6_0_1) (moveGroup_An (hF a_6_3_4) (moveGroup_An (hT a_6_6_7) trivial))) ⟨tab, mx⟩ hA
   ·
    exact moveGroup_leaf moveGroup_r3 hσ hq h0 (moveGroup_An (hT a_6_0_1) (moveGroup_An (hF a_6_3_4) (moveGroup_An (hF a_6_6_7) trivial))) ⟨tab, mx⟩ hA
 ·
  by_cases a_6_3_4 : q 3 = 0 ∧ q 4 = 0
  ·
   by_cases a_6_6_7 : q 6 = 0 ∧ q 7 = 0
   ·
    exact moveGroup_leaf moveGroup_r4 hσ hq h0 (moveGroup_An (hF a_6_0_1) (moveGroup_An (hT a_6_3_4) (moveGroup_An (hT a_6_6_7) trivial))) ⟨tab, mx⟩ hA
   ·
    exact moveGroup_leaf moveGroup_r5 hσ hq h0 (moveGroup_An (hF a_6_0_1) (moveGroup_An (hT a_6_3_4) (moveGroup_An (hF a_6_6_7) trivial))) ⟨tab, mx⟩ hA
  ·
   by_cases a_6_6_7 : q 6 = 0 ∧ q 7 = 0
   ·
    exact moveGroup_leaf moveGroup_r6 hσ hq h0 (moveGroup_An (hF a_6_0_1) (moveGroup_An (hF a_6_3_4) (moveGroup_An (hT a_6_6_7) trivial))) ⟨tab, mx⟩ hA
   ·
    have a_3_168_208 : q 168 = q 208 := moveGroup_f1 E144 E145 E146 E147 E148 E149 E164 E166 E168 E184 E186 E188 E190 E192 E194 E204 E206 E208
    have a_3_174_214 : q 174 = q 214 := moveGroup_f2 E150 E151 E152 E153 E154 E155 E170 E172 E174 E184 E186 E188 E190 E192 E194 E210 E212 E214
    have a_3_182_222 : q 182 = q 222 := moveGroup_f3 E156 E157 E158 E159 E160 E161 E162 E163 E176 E178 E180 E182 E184 E186 E188 E190 E192 E194 E196 E198 E200 E202 E216 E218 E220 E222
    have a_3_169_209 : q 169 = q 209 := moveGroup_f4 E144 E145 E146 E147 E148 E149 E165 E167 E169 E185 E187 E189 E191 E193 E195 E205 E207 E209
    have a_3_175_215 : q 175 = q 215 := moveGroup_f5 E150 E151 E152 E153 E154 E155 E171 E173 E175 E185 E187 E189 E191 E193 E195 E211 E213 E215
    have a_3_183_223 : q 183 = q 223 := moveGroup_f6 E156 E157 E158 E159 E160 E161 E162 E163 E177 E179 E181 E183 E185 E187 E189 E191 E193 E195 E197 E199 E201 E203 E217 E219 E221 E223
    have a_3_232_256 : q 232 = q 256 := moveGroup_f7 E144 E145 E146 E147 E148 E149 E150 E151 E152 E153 E154 E155 E156 E157 E158 E159 E160 E161 E162 E163 E164 E166 E168 E170 E172 E174 E176 E178 E180 E182 E226 E228 E230 E232 E234 E235 E236 E237 E238 E239 E240 E241 E242 E243 E244 E245 E246 E247 E248 E249 E250 E252 E254 E256
    have a_3_233_257 : q 233 = q 257 := moveGroup_f8 E144 E145 E146 E147 E148 E149 E150 E151 E152 E153 E154 E155 E156 E157 E158 E159 E160 E161 E162 E163 E165 E167 E169 E171 E173 E175 E177 E179 E181 E183 E227 E229 E231 E233 E234 E235 E236 E237 E238 E239 E240 E241 E242 E243 E244 E245 E246 E247 E248 E249 E251 E253 E255 E257
    have a_4_262_27 : q 262 = q 27 := moveGroup_f9 E27 E258 E260 E262 (moveGroup_F0 E9 E22 E27 E100 E101 E102 E103 E104 E105 E106 E107 E108 E109 E110 E111 E112 E113 E114 E115 E116 E117 E118 E119 E120 E121 E122 E123 E124 E125 E126 E127 E128 E129 E130 E131 E132 E133 E134 E135 E136 E137 E138 E139 E140 E141 E142 E143 a_6_0_1)
    have a_4_268_9 : q 268 = q 9 := moveGroup_f10 E9 E264 E266 E268 (moveGroup_F0 E9 E22 E27 E100 E101 E102 E103 E104 E105 E106 E107 E108 E109 E110 E111 E112 E113 E114 E115 E116 E117 E118 E119 E120 E121 E122 E123 E124 E125 E126 E127 E128 E129 E130 E131 E132 E133 E134 E135 E136 E137 E138 E139 E140 E141 E142 E143 a_6_0_1)
    have a_4_276_9 : q 276 = q 9 := moveGroup_f11 E9 E270 E272 E274 E276 (moveGroup_F0 E9 E22 E27 E100 E101 E102 E103 E104 E105 E106 E107 E108 E109 E110 E111 E112 E113 E114 E115 E116 E117 E118 E119 E120 E121 E122 E123 E124 E125 E126 E127 E128 E129 E130 E131 E132 E133 E134 E135 E136 E137 E138 E139 E140 E141 E142 E143 a_6_0_1)
    have a_4_263_9 : q 263 = q 9 := moveGroup_f12 E9 E259 E261 E263 (moveGroup_F0 E9 E22 E27 E100 E101 E102 E103 E104 E105 E106 E107 E108 E109 E110 E111 E112 E113 E114 E115 E116 E117 E118 E119 E120 E121 E122 E123 E124 E125 E126 E127 E128 E129 E130 E131 E132 E133 E134 E135 E136 E137 E138 E139 E140 E141 E142 E143 a_6_0_1)
    have a_4_269_27 : q 269 = q 27 := moveGroup_f13 E27 E265 E267 E269 (moveGroup_F0 E9 E22 E27 E100 E101 E102 E103 E104 E105 E106 E107 E108 E109 E110 E111 E112 E113 E114 E115 E116 E117 E118 E119 E120 E121 E122 E123 E124 E125 E126 E127 E128 E129 E130 E131 E132 E133 E134 E135 E136 E137 E138 E139 E140 E141 E142 E143 a_6_0_1)
    have a_4_277_9 : q 277 = q 9 := moveGroup_f14 E9 E271 E273 E275 E277 (moveGroup_F0 E9 E22 E27 E100 E101 E102 E103 E104 E105 E106 E107 E108 E109 E110 E111 E112 E113 E114 E115 E116 E117 E118 E119 E120 E121 E122 E123 E124 E125 E126 E127 E128 E129 E130 E131 E132 E133 E134 E135 E136 E137 E138 E139 E140 E141 E142 E143 a_6_0_1)
    have b280 : ¬ (q 280 = 0) := moveGroup_f15 E278 E279 E280 (moveGroup_FX E144 E145 E146 E147 E148 E149 E150 E151 E152 E153 E154 E155 E164 E165 E166 E167 E168 E169 E170 E171 E172 E173 E174 E175 (moveGroup_F0 E9 E22 E27 E100 E101 E102 E103 E104 E105 E106 E107 E108 E109 E110 E111 E112 E113 E114 E115 E116 E117 E118 E119 E120 E121 E122 E123 E124 E125 E126 E127 E128 E129 E130 E131 E132 E133 E134 E135 E136 E137 E138 E139 E140 E141 E142 E143 a_6_0_1) (moveGroup_F1 E9 E22 E27 E56 E57 E58 E59 E60 E61 E62 E63 E64 E65 E66 E67 E68 E69 E70 E71 E72 E73 E74 E75 E76 E77 E78 E79 E80 E81 E82 E83 E84 E85 E86 E87 E88 E89 E90 E91 E92 E93 E94 E95 E96 E97 E98 E99 a_6_3_4) (moveGroup_F2 E9 E10 E11 E12 E13 E14 E15 E16 E17 E18 E19 E20 E21 E22 E23 E24 E25 E26 E27 E28 E29 E30 E31 E32 E33 E34 E35 E36 E37 E38 E39 E40 E41 E42 E43 E44 E45 E46 E47 E48 E49 E50 E51 E52 E53 E54 E55 a_6_6_7))
    have b310 : q 310 = 0 := moveGroup_f16 E27 E307 E308 E309 E310 (moveGroup_FX E144 E145 E146 E147 E148 E149 E150 E151 E152 E153 E154 E155 E164 E165 E166 E167 E168 E169 E170 E171 E172 E173 E174 E175 (moveGroup_F0 E9 E22 E27 E100 E101 E102 E103 E104 E105 E106 E107 E108 E109 E110 E111 E112 E113 E114 E115 E116 E117 E118 E119 E120 E121 E122 E123 E124 E125 E126 E127 E128 E129 E130 E131 E132 E133 E134 E135 E136 E137 E138 E139 E140 E141 E142 E143 a_6_0_1) (moveGroup_F1 E9 E22 E27 E56 E57 E58 E59 E60 E61 E62 E63 E64 E65 E66 E67 E68 E69 E70 E71 E72 E73 E74 E75 E76 E77 E78 E79 E80 E81 E82 E83 E84 E85 E86 E87 E88 E89 E90 E91 E92 E93 E94 E95 E96 E97 E98 E99 a_6_3_4) (moveGroup_F2 E9 E10 E11 E12 E13 E14 E15 E16 E17 E18 E19 E20 E21 E22 E23 E24 E25 E26 E27 E28 E29 E30 E31 E32 E33 E34 E35 E36 E37 E38 E39 E40 E41 E42 E43 E44 E45 E46 E47 E48 E49 E50 E51 E52 E53 E54 E55 a_6_6_7))
    have b314 : q 314 = 0 := moveGroup_f17 E27 E311 E312 E313 E314 (moveGroup_FX E144 E145 E146 E147 E148 E149 E150 E151 E152 E153 E154 E155 E164 E165 E166 E167 E168 E169 E170 E171 E172 E173 E174 E175 (moveGroup_F0 E9 E22 E27 E100 E101 E102 E103 E104 E105 E106 E107 E108 E109 E110 E111 E112 E113 E114 E115 E116 E117 E118 E119 E120 E121 E122 E123 E124 E125 E126 E127 E128 E129 E130 E131 E132 E133 E134 E135 E136 E137 E138 E139 E140 E141 E142 E143 a_6_0_1) (moveGroup_F1 E9 E22 E27 E56 E57 E58 E59 E60 E61 E62 E63 E64 E65 E66 E67 E68 E69 E70 E71 E72 E73 E74 E75 E76 E77 E78 E79 E80 E81 E82 E83 E84 E85 E86 E87 E88 E89 E90 E91 E92 E93 E94 E95 E96 E97 E98 E99 a_6_3_4) (moveGroup_F2 E9 E10 E11 E12 E13 E14 E15 E16 E17 E18 E19 E20 E21 E22 E23 E24 E25 E26 E27 E28 E29 E30 E31 E32 E33 E34 E35 E36 E37 E38 E39 E40 E41 E42 E43 E44 E45 E46 E47 E48 E49 E50 E51 E52 E53 E54 E55 a_6_6_7))
    have b317 : q 317 = 0 := moveGroup_f18 E315 E316 E317 (moveGroup_FX E144 E145 E146 E147 E148 E149 E150 E151 E152 E153 E154 E155 E164 E165 E166 E167 E168 E169 E170 E171 E172 E173 E174 E175 (moveGroup_F0 E9 E22 E27 E100 E101 E102 E103 E104 E105 E106 E107 E108 E109 E110 E111 E112 E113 E114 E115 E116 E117 E118 E119 E120 E121 E122 E123 E124 E125 E126 E127 E128 E129 E130 E131 E132 E133 E134 E135 E136 E137 E138 E139 E140 E141 E142 E143 a_6_0_1) (moveGroup_F1 E9 E22 E27 E56 E57 E58 E59 E60 E61 E62 E63 E64 E65 E66 E67 E68 E69 E70 E71 E72 E73 E74 E75 E76 E77 E78 E79 E80 E81 E82 E83 E84 E85 E86 E87 E88 E89 E90 E91 E92 E93 E94 E95 E96 E97 E98 E99 a_6_3_4) (moveGroup_F2 E9 E10 E11 E12 E13 E14 E15 E16 E17 E18 E19 E20 E21 E22 E23 E24 E25 E26 E27 E28 E29 E30 E31 E32 E33 E34 E35 E36 E37 E38 E39 E40 E41 E42 E43 E44 E45 E46 E47 E48 E49 E50 E51 E52 E53 E54 E55 a_6_6_7))
    have a_1_280_0 : q 280 < 0 := moveGroup_f19 E278 E279 E280 a_6_0_1 a_6_3_4 a_6_6_7 (moveGroup_FX E144 E145 E146 E147 E148 E149 E150 E151 E152 E153 E154 E155 E164 E165 E166 E167 E168 E169 E170 E171 E172 E173 E174 E175 (moveGroup_F0 E9 E22 E27 E100 E101 E102 E103 E104 E105 E106 E107 E108 E109 E110 E111 E112 E113 E114 E115 E116 E117 E118 E119 E120 E121 E122 E123 E124 E125 E126 E127 E128 E129 E130 E131 E132 E133 E134 E135 E136 E137 E138 E139 E140 E141 E142 E143 a_6_0_1) (moveGroup_F1 E9 E22 E27 E56 E57 E58 E59 E60 E61 E62 E63 E64 E65 E66 E67 E68 E69 E70 E71 E72 E73 E74 E75 E76 E77 E78 E79 E80 E81 E82 E83 E84 E85 E86 E87 E88 E89 E90 E91 E92 E93 E94 E95 E96 E97 E98 E99 a_6_3_4) (moveGroup_F2 E9 E10 E11 E12 E13 E14 E15 E16 E17 E18 E19 E20 E21 E22 E23 E24 E25 E26 E27 E28 E29 E30 E31 E32 E33 E34 E35 E36 E37 E38 E39 E40 E41 E42 E43 E44 E45 E46 E47 E48 E49 E50 E51 E52 E53 E54 E55 a_6_6_7))
    by_cases a_6_330_331 : q 330 = 0 ∧ q 331 = 0
    ·
     have a_3_287_356 : q 287 = q 356 := moveGroup_f20 E9 E27 E278 E279 E280 E281 E282 E283 E287 E332 E333 E334 E335 E336 E337 E352 E354 E356 (moveGroup_F0 E9 E22 E27 E100 E101 E102 E103 E104 E105 E106 E107 E108 E109 E110 E111 E112 E113 E114 E115 E116 E117 E118 E119 E120 E121 E122 E123 E124 E125 E126 E127 E128 E129 E130 E131 E132 E133 E134 E135 E136 E137 E138 E139 E140 E141 E142 E143 a_6_0_1) (moveGroup_F1 E9 E22 E27 E56 E57 E58 E59 E60 E61 E62 E63 E64 E65 E66 E67 E68 E69 E70 E71 E72 E73 E74 E75 E76 E77 E78 E79 E80 E81 E82 E83 E84 E85 E86 E87 E88 E89 E90 E91 E92 E93 E94 E95 E96 E97 E98 E99 a_6_3_4) (moveGroup_F2 E9 E10 E11 E12 E13 E14 E15 E16 E17 E18 E19 E20 E21 E22 E23 E24 E25 E26 E27 E28 E29 E30 E31 E32 E33 E34 E35 E36 E37 E38 E39 E40 E41 E42 E43 E44 E45 E46 E47 E48 E49 E50 E51 E52 E53 E54 E55 a_6_6_7) (moveGroup_FX E144 E145 E146 E147 E148 E149 E150 E151 E152 E153 E154 E155 E164 E165 E166 E167 E168 E169 E170 E171 E172 E173 E174 E175 (moveGroup_F0 E9 E22 E27 E100 E101 E102 E103 E104 E105 E106 E107 E108 E109 E110 E111 E112 E113 E114 E115 E116 E117 E118 E119 E120 E121 E122 E123 E124 E125 E126 E127 E128 E129 E130 E131 E132 E133 E134 E135 E136 E137 E138 E139 E140 E141 E142 E143 a_6_0_1) (moveGroup_F1 E9 E22 E27 E56 E57 E58 E59 E60 E61 E62 E63 E64 E65 E66 E67 E68 E69 E70 E71 E72 E73 E74 E75 E76 E77 E78 E79 E80 E81 E82 E83 E84 E85 E86 E87 E88 E89 E90 E91 E92 E93 E94 E95 E96 E97 E98 E99 a_6_3_4) (moveGroup_F2 E9 E10 E11 E12 E13 E14 E15 E16 E17 E18 E19 E20 E21 E22 E23 E24 E25 E26 E27 E28 E29 E30 E31 E32 E33 E34 E35 E36 E37 E38 E39 E40 E41 E42 E43 E44 E45 E46 E47 E48 E49 E50 E51 E52 E53 E54 E55 a_6_6_7))
     have a_3_295_362 : q 295 = q 362 := moveGroup_f21 E9 E27 E278 E279 E280 E289 E290 E291 E295 E338 E339 E340 E341 E342 E343 E358 E360 E362 (moveGroup_F0 E9 E22 E27 E100 E101 E102 E103 E104 E105 E106 E107 E108 E109 E110 E111 E112 E113 E114 E115 E116 E117 E118 E119 E120 E121 E122 E123 E124 E125 E126 E127 E128 E129 E130 E131 E132 E133 E134 E135 E136 E137 E138 E139 E140 E141 E142 E143 a_6_0_1) (moveGroup_F1 E9 E22 E27 E56 E57 E58 E59 E60 E61 E62 E63 E64 E65 E66 E67 E68 E69 E70 E71 E72 E73 E74 E75 E76 E77 E78 E79 E80 E81 E82 E83 E84 E85 E86 E87 E88 E89 E90 E91 E92 E93 E94 E95 E96 E97 E98 E99 a_6_3_4) (moveGroup_F2 E9 E10 E11 E12 E13 E14 E15 E16 E17 E18 E19 E20 E21 E22 E23 E24 E25 E26 E27 E28 E29 E30 E31 E32 E33 E34 E35 E36 E37 E38 E39 E40 E41 E42 E43 E44 E45 E46 E47 E48 E49 E50 E51 E52 E53 E54 E55 a_6_6_7) (moveGroup_FX E144 E145 E146 E147 E148 E149 E150 E151 E152 E153 E154 E155 E164 E165 E166 E167 E168 E169 E170 E171 E172 E173 E174 E175 (moveGroup_F0 E9 E22 E27 E100 E101 E102 E103 E104 E105 E106 E107 E108 E109 E110 E111 E112 E113 E114 E115 E116 E117 E118 E119 E120 E121 E122 E123 E124 E125 E126 E127 E128 E129 E130 E131 E132 E133 E134 E135 E136 E137 E138 E139 E140 E141 E142 E143 a_6_0_1) (moveGroup_F1 E9 E22 E27 E56 E57 E58 E59 E60 E61 E62 E63 E64 E65 E66 E67 E68 E69 E70 E71 E72 E73 E74 E75 E76 E77 E78 E79 E80 E81 E82 E83 E84 E85 E86 E87 E88 E89 E90 E91 E92 E93 E94 E95 E96 E97 E98 E99 a_6_3_4) (moveGroup_F2 E9 E10 E11 E12 E13 E14 E15 E16 E17 E18 E19 E20 E21 E22 E23 E24 E25 E26 E27 E28 E29 E30 E31 E32 E33 E34 E35 E36 E37 E38 E39 E40 E41 E42 E43 E44 E45 E46 E47 E48 E49 E50 E51 E52 E53 E54 E55 a_6_6_7))
     have a_3_305_370 : q 305 = q 370 := moveGroup_f22 E156 E157 E158 E159 E160 E161 E162 E163 E176 E177 E178 E179 E180 E181 E182 E183 E278 E279 E280 E297 E298 E299 E303 E305 E344 E345 E346 E347 E348 E349 E350 E351 E364 E366 E368 E370 (moveGroup_F0 E9 E22 E27 E100 E101 E102 E103 E104 E105 E106 E107 E108 E109 E110 E111 E112 E113 E114 E115 E116 E117 E118 E119 E120 E121 E122 E123 E124 E125 E126 E127 E128 E129 E130 E131 E132 E133 E134 E135 E136 E137 E138 E139 E140 E141 E142 E143 a_6_0_1) (moveGroup_F1 E9 E22 E27 E56 E57 E58 E59 E60 E61 E62 E63 E64 E65 E66 E67 E68 E69 E70 E71 E72 E73 E74 E75 E76 E77 E78 E79 E80 E81 E82 E83 E84 E85 E86 E87 E88 E89 E90 E91 E92 E93 E94 E95 E96 E97 E98 E99 a_6_3_4) (moveGroup_F2 E9 E10 E11 E12 E13 E14 E15 E16 E17 E18 E19 E20 E21 E22 E23 E24 E25 E26 E27 E28 E29 E30 E31 E32 E33 E34 E35 E36 E37 E38 E39 E40 E41 E42 E43 E44 E45 E46 E47 E48 E49 E50 E51 E52 E53 E54 E55 a_6_6_7) (moveGroup_FX E144 E145 E146 E147 E148 E149 E150 E151 E152 E153 E154 E155 E164 E165 E166 E167 E168 E169 E170 E171 E172 E173 E174 E175 (moveGroup_F0 E9 E22 E27 E100 E101 E102 E103 E104 E105 E106 E107 E108 E109 E110 E111 E112 E113 E114 E115 E116 E117 E118 E119 E120 E121 E122 E123 E124 E125 E126 E127 E128 E129 E130 E131 E132 E133 E134 E135 E136 E137 E138 E139 E140 E141 E142 E143 a_6_0_1) (moveGroup_F1 E9 E22 E27 E56 E57 E58 E59 E60 E61 E62 E63 E64 E65 E66 E67 E68 E69 E70 E71 E72 E73 E74 E75 E76 E77 E78 E79 E80 E81 E82 E83 E84 E85 E86 E87 E88 E89 E90 E91 E92 E93 E94 E95 E96 E97 E98 E99 a_6_3_4) (moveGroup_F2 E9 E10 E11 E12 E13 E14 E15 E16 E17 E18 E19 E20 E21 E22 E23 E24 E25 E26 E27 E28 E29 E30 E31 E32 E33 E34 E35 E36 E37 E38 E39 E40 E41 E42 E43 E44 E45 E46 E47 E48 E49 E50 E51 E52 E53 E54 E55 a_6_6_7))
     have a_3_288_357 : q 288 = q 357 := moveGroup_f23 E9 E27 E278 E279 E280 E284 E285 E286 E288 E332 E333 E334 E335 E336 E337 E353 E355 E357 (moveGroup_F0 E9 E22 E27 E100 E101 E102 E103 E104 E105 E106 E107 E108 E109 E110 E111 E112 E113 E114 E115 E116 E117 E118 E119 E120 E121 E122 E123 E124 E125 E126 E127 E128 E129 E130 E131 E132 E133 E134 E135 E136 E137 E138 E139 E140 E141 E142 E143 a_6_0_1) (moveGroup_F1 E9 E22 E27 E56 E57 E58 E59 E60 E61 E62 E63 E64 E65 E66 E67 E68 E69 E70 E71 E72 E73 E74 E75 E76 E77 E78 E79 E80 E81 E82 E83 E84 E85 E86 E87 E88 E89 E90 E91 E92 E93 E94 E95 E96 E97 E98 E99 a_6_3_4) (moveGroup_F2 E9 E10 E11 E12 E13 E14 E15 E16 E17 E18 E19 E20 E21 E22 E23 E24 E25 E26 E27 E28 E29 E30 E31 E32 E33 E34 E35 E36 E37 E38 E39 E40 E41 E42 E43 E44 E45 E46 E47 E48 E49 E50 E51 E52 E53 E54 E55 a_6_6_7) (moveGroup_FX E144 E145 E146 E147 E148 E149 E150 E151 E152 E153 E154 E155 E164 E165 E166 E167 E168 E169 E170 E171 E172 E173 E174 E175 (moveGroup_F0 E9 E22 E27 E100 E101 E102 E103 E104 E105 E106 E107 E108 E109 E110 E111 E112 E113 E114 E115 E116 E117 E118 E119 E120 E121 E122 E123 E124 E125 E126 E127 E128 E129 E130 E131 E132 E133 E134 E135 E136 E137 E138 E139 E140 E141 E142 E143 a_6_0_1) (moveGroup_F1 E9 E22 E27 E56 E57 E58 E59 E60 E61 E62 E63 E64 E65 E66 E67 E68 E69 E70 E71 E72 E73 E74 E75 E76 E77 E78 E79 E80 E81 E82 E83 E84 E85 E86 E87 E88 E89 E90 E91 E92 E93 E94 E95 E96 E97 E98 E99 a_6_3_4) (moveGroup_F2 E9 E10 E11 E12 E13 E14 E15 E16 E17 E18 E19 E20 E21 E22 E23 E24 E25 E26 E27 E28 E29 E30 E31 E32 E33 E34 E35 E36 E37 E38 E39 E40 E41 E42 E43 E44 E45 E46 E47 E48 E49 E50 E51 E52 E53 E54 E55 a_6_6_7))
     have a_3_296_363 : q 296 = q 363 := moveGroup_f24 E9 E27 E278 E279 E280 E292 E293 E294 E296 E338 E339 E340 E341 E342 E343 E359 E361 E363 (moveGroup_F0 E9 E22 E27 E100 E101 E102 E103 E104 E105 E106 E107 E108 E109 E110 E111 E112 E113 E114 E115 E116 E117 E118 E119 E120 E121 E122 E123 E124 E125 E126 E127 E128 E129 E130 E131 E132 E133 E134 E135 E136 E137 E138 E139 E140 E141 E142 E143 a_6_0_1) (moveGroup_F1 E9 E22 E27 E56 E57 E58 E59 E60 E61 E62 E63 E64 E65 E66 E67 E68 E69 E70 E71 E72 E73 E74 E75 E76 E77 E78 E79 E80 E81 E82 E83 E84 E85 E86 E87 E88 E89 E90 E91 E92 E93 E94 E95 E96 E97 E98 E99 a_6_3_4) (moveGroup_F2 E9 E10 E11 E12 E13 E14 E15 E16 E17 E18 E19 E20 E21 E22 E23 E24 E25 E26 E27 E28 E29 E30 E31 E32 E33 E34 E35 E36 E37 E38 E39 E40 E41 E42 E43 E44 E45 E46 E47 E48 E49 E50 E51 E52 E53 E54 E55 a_6_6_7) (moveGroup_FX E144 E145 E146 E147 E148 E149 E150 E151 E152 E153 E154 E155 E164 E165 E166 E167 E168 E169 E170 E171 E172 E173 E174 E175 (moveGroup_F0 E9 E22 E27 E100 E101 E102 E103 E104 E105 E106 E107 E108 E109 E110 E111 E112 E113 E114 E115 E116 E117 E118 E119 E120 E121 E122 E123 E124 E125 E126 E127 E128 E129 E130 E131 E132 E133 E134 E135 E136 E137 E138 E139 E140 E141 E142 E143 a_6_0_1) (moveGroup_F1 E9 E22 E27 E56 E57 E58 E59 E60 E61 E62 E63 E64 E65 E66 E67 E68 E69 E70 E71 E72 E73 E74 E75 E76 E77 E78 E79 E80 E81 E82 E83 E84 E85 E86 E87 E88 E89 E90 E91 E92 E93 E94 E95 E96 E97 E98 E99 a_6_3_4) (moveGroup_F2 E9 E10 E11 E12 E13 E14 E15 E16 E17 E18 E19 E20 E21 E22 E23 E24 E25 E26 E27 E28 E29 E30 E31 E32 E33 E34 E35 E36 E37 E38 E39 E40 E41 E42 E43 E44 E45 E46 E47 E48 E49 E50 E51 E52 E53 E54 E55 a_6_6_7))
     have a_3_306_371 : q 306 = q 371 := moveGroup_f25 E156 E157 E158 E159 E160 E161 E162 E163 E176 E177 E178 E179 E180 E181 E182 E183 E278 E279 E280 E300 E301 E302 E304 E306 E344 E345 E346 E347 E348 E349 E350 E351 E365 E367 E369 E371 (moveGroup_F0 E9 E22 E27 E100 E101 E102 E103 E104 E105 E106 E107 E108 E109 E110 E111 E112 E113 E114 E115 E116 E117 E118 E119 E120 E121 E122 E123 E124 E125 E126 E127 E128 E129 E130 E131 E132 E133 E134 E135 E136 E137 E138 E139 E140 E141 E142 E143 a_6_0_1) (moveGroup_F1 E9 E22 E27 E56 E57 E58 E59 E60 E61 E62 E63 E64 E65 E66 E67 E68 E69 E70 E71 E72 E73 E74 E75 E76 E77 E78 E79 E80 E81 E82 E83 E84 E85 E86 E87 E88 E89 E90 E91 E92 E93 E94 E95 E96 E97 E98 E99 a_6_3_4) (moveGroup_F2 E9 E10 E11 E12 E13 E14 E15 E16 E17 E18 E19 E20 E21 E22 E23 E24 E25 E26 E27 E28 E29 E30 E31 E32 E33 E34 E35 E36 E37 E38 E39 E40 E41 E42 E43 E44 E45 E46 E47 E48 E49 E50 E51 E52 E53 E54 E55 a_6_6_7) (moveGroup_FX E144 E145 E146 E147 E148 E149 E150 E151 E152 E153 E154 E155 E164 E165 E166 E167 E168 E169 E170 E171 E172 E173 E174 E175 (moveGroup_F0 E9 E22 E27 E100 E101 E102 E103 E104 E105 E106 E107 E108 E109 E110 E111 E112 E113 E114 E115 E116 E117 E118 E119 E120 E121 E122 E123 E124 E125 E126 E127 E128 E129 E130 E131 E132 E133 E134 E135 E136 E137 E138 E139 E140 E141 E142 E143 a_6_0_1) (moveGroup_F1 E9 E22 E27 E56 E57 E58 E59 E60 E61 E62 E63 E64 E65 E66 E67 E68 E69 E70 E71 E72 E73 E74 E75 E76 E77 E78 E79 E80 E81 E82 E83 E84 E85 E86 E87 E88 E89 E90 E91 E92 E93 E94 E95 E96 E97 E98 E99 a_6_3_4) (moveGroup_F2 E9 E10 E11 E12 E13 E14 E15 E16 E17 E18 E19 E20 E21 E22 E23 E24 E25 E26 E27 E28 E29 E30 E31 E32 E33 E34 E35 E36 E37 E38 E39 E40 E41 E42 E43 E44 E45 E46 E47 E48 E49 E50 E51 E52 E53 E54 E55 a_6_6_7))
     have a_4_280_372 : q 280 = q 372 := moveGroup_f26 E278 E279 E280 E372 a_6_0_1 a_6_3_4 a_6_6_7 (moveGroup_FX E144 E145 E146 E147 E148 E149 E150 E151 E152 E153 E154 E155 E164 E165 E166 E167 E168 E169 E170 E171 E172 E173 E174 E175 (moveGroup_F0 E9 E22 E27 E100 E101 E102 E103 E104 E105 E106 E107 E108 E109 E110 E111 E112 E113 E114 E115 E116 E117 E118 E119 E120 E121 E122 E123 E124 E125 E126 E127 E128 E129 E130 E131 E132 E133 E134 E135 E136 E137 E138 E139 E140 E141 E142 E143 a_6_0_1) (moveGroup_F1 E9 E22 E27 E56 E57 E58 E59 E60 E61 E62 E63 E64 E65 E66 E67 E68 E69 E70 E71 E72 E73 E74 E75 E76 E77 E78 E79 E80 E81 E82 E83 E84 E85 E86 E87 E88 E89 E90 E91 E92 E93 E94 E95 E96 E97 E98 E99 a_6_3_4) (moveGroup_F2 E9 E10 E11 E12 E13 E14 E15 E16 E17 E18 E19 E20 E21 E22 E23 E24 E25 E26 E27 E28 E29 E30 E31 E32 E33 E34 E35 E36 E37 E38 E39 E40 E41 E42 E43 E44 E45 E46 E47 E48 E49 E50 E51 E52 E53 E54 E55 a_6_6_7))
     exact moveGroup_leaf moveGroup_r7 hσ hq h0 (moveGroup_An (hF a_6_0_1) (moveGroup_An (hF a_6_3_4) (moveGroup_An (hF a_6_6_7) (moveGroup_An (hT a_3_168_208) (moveGroup_An (hT a_3_174_214) (moveGroup_An (hT a_3_182_222) (moveGroup_An (hT a_3_169_209) (moveGroup_An (hT a_3_175_215) (moveGroup_An (hT a_3_183_223) (moveGroup_An (hT a_3_232_256) (moveGroup_An (hT a_3_233_257) (moveGroup_An (hT a_4_262_27) (moveGroup_An (hT a_4_268_9) (moveGroup_An (hT a_4_276_9) (moveGroup_An (hT a_4_263_9) (moveGroup_An (hT a_4_269_27) (moveGroup_An (hT a_4_277_9) (moveGroup_An (hF b280) (moveGroup_An (hT b310) (moveGroup_An (hT b314) (moveGroup_An (hT b317) (moveGroup_An (hT a_1_280_0) (moveGroup_An (hT a_6_330_331) (moveGroup_An (hT a_3_287_356) (moveGroup_An (hT a_3_295_362) (moveGroup_An (hT a_3_305_370) (moveGroup_An (hT a_3_288_357) (moveGroup_An (hT a_3_296_363) (moveGroup_An (hT a_3_306_371) (moveGroup_An (hT a_4_280_372) trivial)))))))))))))))))))))))))))))) ⟨tab, mx⟩ hA
    ·
     have a_3_287_356 : q 287 = q 356 := moveGroup_f20 E9 E27 E278 E279 E280 E281 E282 E283 E287 E332 E333 E334 E335 E336 E337 E352 E354 E356 (moveGroup_F0 E9 E22 E27 E100 E101 E102 E103 E104 E105 E106 E107 E108 E109 E110 E111 E112 E113 E114 E115 E116 E117 E118 E119 E120 E121 E122 E123 E124 E125 E126 E127 E128 E129 E130 E131 E132 E133 E134 E135 E136 E137 E138 E139 E140 E141 E142 E143 a_6_0_1) (moveGroup_F1 E9 E22 E27 E56 E57 E58 E59 E60 E61 E62 E63 E64 E65 E66 E67 E68 E69 E70 E71 E72 E73 E74 E75 E76 E77 E78 E79 E80 E81 E82 E83 E84 E85 E86 E87 E88 E89 E90 E91 E92 E93 E94 E95 E96 E97 E98 E99 a_6_3_4) (moveGroup_F2 E9 E10 E11 E12 E13 E14 E15 E16 E17 E18 E19 E20 E21 E22 E23 E24 E25 E26 E27 E28 E29 E30 E31 E32 E33 E34 E35 E36 E37 E38 E39 E40 E41 E42 E43 E44 E45 E46 E47 E48 E49 E50 E51 E52 E53 E54 E55 a_6_6_7) (moveGroup_FX E144 E145 E146 E147 E148 E149 E150 E151 E152 E153 E154 E155 E164 E165 E166 E167 E168 E169 E170 E171 E172 E173 E174 E175 (moveGroup_F0 E9 E22 E27 E100 E101 E102 E103 E104 E105 E106 E107 E108 E109 E110 E111 E112 E113 E114 E115 E116 E117 E118 E119 E120 E121 E122 E123 E124 E125 E126 E127 E128 E129 E130 E131 E132 E133 E134 E135 E136 E137 E138 E139 E140 E141 E142 E143 a_6_0_1) (moveGroup_F1 E9 E22 E27 E56 E57 E58 E59 E60 E61 E62 E63 E64 E65 E66 E67 E68 E69 E70 E71 E72 E73 E74 E75 E76 E77 E78 E79 E80 E81 E82 E83 E84 E85 E86 E87 E88 E89 E90 E91 E92 E93 E94 E95 E96 E97 E98 E99 a_6_3_4) (moveGroup_F2 E9 E10 E11 E12 E13 E14 E15 E16 E17 E18 E19 E20 E21 E22 E23 E24 E25 E26 E27 E28 E29 E30 E31 E32 E33 E34 E35 E36 E37 E38 E39 E40 E41 E42 E43 E44 E45 E46 E47 E48 E49 E50 E51 E52 E53 E54 E55 a_6_6_7))
     have a_3_295_362 : q 295 = q 362 := moveGroup_f21 E9 E27 E278 E279 E280 E289 E290 E291 E295 E338 E339 E340 E341 E342 E343 E358 E360 E362 (moveGroup_F0 E9 E22 E27 E100 E101 E102 E103 E104 E105 E106 E107 E108 E109 E110 E111 E112 E113 E114 E115 E116 E117 E118 E119 E120 E121 E122 E123 E124 E125 E126 E127 E128 E129 E130 E131 E132 E133 E134 E135 E136 E137 E138 E139 E140 E141 E142 E143 a_6_0_1) (moveGroup_F1 E9 E22 E27 E56 E57 E58 E59 E60 E61 E62 E63 E64 E65 E66 E67 E68 E69 E70 E71 E72 E73 E74 E75 E76 E77 E78 E79 E80 E81 E82 E83 E84 E85 E86 E87 E88 E89 E90 E91 E92 E93 E94 E95 E96 E97 E98 E99 a_6_3_4) (moveGroup_F2 E9 E10 E11 E12 E13 E14 E15 E16 E17 E18 E19 E20 E21 E22 E23 E24 E25 E26 E27 E28 E29 E30 E31 E32 E33 E34 E35 E36 E37 E38 E39 E40 E41 E42 E43 E44 E45 E46 E47 E48 E49 E50 E51 E52 E53 E54 E55 a_6_6_7) (moveGroup_FX E144 E145 E146 E147 E148 E149 E150 E151 E152 E153 E154 E155 E164 E165 E166 E167 E168 E169 E170 E171 E172 E173 E174 E175 (moveGroup_F0 E9 E22 E27 E100 E101 E102 E103 E104 E105 E106 E107 E108 E109 E110 E111 E112 E113 E114 E115 E116 E117 E118 E119 E120 E121 E122 E123 E124 E125 E126 E127 E128 E129 E130 E131 E132 E133 E134 E135 E136 E137 E138 E139 E140 E141 E142 E143 a_6_0_1) (moveGroup_F1 E9 E22 E27 E56 E57 E58 E59 E60 E61 E62 E63 E64 E65 E66 E67 E68 E69 E70 E71 E72 E73 E74 E75 E76 E77 E78 E79 E80 E81 E82 E83 E84 E85 E86 E87 E88 E89 E90 E91 E92 E93 E94 E95 E96 E97 E98 E99 a_6_3_4) (moveGroup_F2 E9 E10 E11 E12 E13 E14 E15 E16 E17 E18 E19 E20 E21 E22 E23 E24 E25 E26 E27 E28 E29 E30 E31 E32 E33 E34 E35 E36 E37 E38 E39 E40 E41 E42 E43 E44 E45 E46 E47 E48 E49 E50 E51 E52 E53 E54 E55 a_6_6_7))
     have a_3_305_370 : q 305 = q 370 := moveGroup_f22 E156 E157 E158 E159 E160 E161 E162 E163 E176 E177 E178 E179 E180 E181 E182 E183 E278 E279 E280 E297 E298 E299 E303 E305 E344 E345 E346 E347 E348 E349 E350 E351 E364 E366 E368 E370 (moveGroup_F0 E9 E22 E27 E100 E101 E102 E103 E104 E105 E106 E107 E108 E109 E110 E111 E112 E113 E114 E115 E116 E117 E118 E119 E120 E121 E122 E123 E124 E125 E126 E127 E128 E129 E130 E131 E132 E133 E134 E135 E136 E137 E138 E139 E140 E141 E142 E143 a_6_0_1) (moveGroup_F1 E9 E22 E27 E56 E57 E58 E59 E60 E61 E62 E63 E64 E65 E66 E67 E68 E69 E70 E71 E72 E73 E74 E75 E76 E77 E78 E79 E80 E81 E82 E83 E84 E85 E86 E87 E88 E89 E90 E91 E92 E93 E94 E95 E96 E97 E98 E99 a_6_3_4) (moveGroup_F2 E9 E10 E11 E12 E13 E14 E15 E16 E17 E18 E19 E20 E21 E22 E23 E24 E25 E26 E27 E28 E29 E30 E31 E32 E33 E34 E35 E36 E37 E38 E39 E40 E41 E42 E43 E44 E45 E46 E47 E48 E49 E50 E51 E52 E53 E54 E55 a_6_6_7) (moveGroup_FX E144 E145 E146 E147 E148 E149 E150 E151 E152 E153 E154 E155 E164 E165 E166 E167 E168 E169 E170 E171 E172 E173 E174 E175 (moveGroup_F0 E9 E22 E27 E100 E101 E102 E103 E104 E105 E106 E107 E108 E109 E110 E111 E112 E113 E114 E115 E116 E117 E118 E119 E120 E121 E122 E123 E124 E125 E126 E127 E128 E129 E130 E131 E132 E133 E134 E135 E136 E137 E138 E139 E140 E141 E142 E143 a_6_0_1) (moveGroup_F1 E9 E22 E27 E56 E57 E58 E59 E60 E61 E62 E63 E64 E65 E66 E67 E68 E69 E70 E71 E72 E73 E74 E75 E76 E77 E78 E79 E80 E81 E82 E83 E84 E85 E86 E87 E88 E89 E90 E91 E92 E93 E94 E95 E96 E97 E98 E99 a_6_3_4) (moveGroup_F2 E9 E10 E11 E12 E13 E14 E15 E16 E17 E18 E19 E20 E21 E22 E23 E24 E25 E26 E27 E28 E29 E30 E31 E32 E33 E34 E35 E36 E37 E38 E39 E40 E41 E42 E43 E44 E45 E46 E47 E48 E49 E50 E51 E52 E53 E54 E55 a_6_6_7))
     have a_3_288_357 : q 288 = q 357 := moveGroup_f23 E9 E27 E278 E279 E280 E284 E285 E286 E288 E332 E333 E334 E335 E336 E337 E353 E355 E357 (moveGroup_F0 E9 E22 E27 E100 E101 E102 E103 E104 E105 E106 E107 E108 E109 E110 E111 E112 E113 E114 E115 E116 E117 E118 E119 E120 E121 E122 E123 E124 E125 E126 E127 E128 E129 E130 E131 E132 E133 E134 E135 E136 E137 E138 E139 E140 E141 E142 E143 a_6_0_1) (moveGroup_F1 E9 E22 E27 E56 E57 E58 E59 E60 E61 E62 E63 E64 E65 E66 E67 E68 E69 E70 E71 E72 E73 E74 E75 E76 E77 E78 E79 E80 E81 E82 E83 E84 E85 E86 E87 E88 E89 E90 E91 E92 E93 E94 E95 E96 E97 E98 E99 a_6_3_4) (moveGroup_F2 E9 E10 E11 E12 E13 E14 E15 E16 E17 E18 E19 E20 E21 E22 E23 E24 E25 E26 E27 E28 E29 E30 E31 E32 E33 E34 E35 E36 E37 E38 E39 E40 E41 E42 E43 E44 E45 E46 E47 E48 E49 E50 E51 E52 E53 E54 E55 a_6_6_7) (moveGroup_FX E144 E145 E146 E147 E148 E149 E150 E151 E152 E153 E154 E155 E164 E165 E166 E167 E168 E169 E170 E171 E172 E173 E174 E175 (moveGroup_F0 E9 E22 E27 E100 E101 E102 E103 E104 E105 E106 E107 E108 E109 E110 E111 E112 E113 E114 E115 E116 E117 E118 E119 E120 E121 E122 E123 E124 E125 E126 E127 E128 E129 E130 E131 E132 E133 E134 E135 E136 E137 E138 E139 E140 E141 E142 E143 a_6_0_1) (moveGroup_F1 E9 E22 E27 E56 E57 E58 E59 E60 E61 E62 E63 E64 E65 E66 E67 E68 E69 E70 E71 E72 E73 E74 E75 E76 E77 E78 E79 E80 E81 E82 E83 E84 E85 E86 E87 E88 E89 E90 E91 E92 E93 E94 E95 E96 E97 E98 E99 a_6_3_4) (moveGroup_F2 E9 E10 E11 E12 E13 E14 E15 E16 E17 E18 E19 E20 E21 E22 E23 E24 E25 E26 E27 E28 E29 E30 E31 E32 E33 E34 E35 E36 E37 E38 E39 E40 E41 E42 E43 E44 E45 E46 E47 E48 E49 E50 E51 E52 E53 E54 E55 a_6_6_7))
     have a_3_296_363 : q 296 = q 363 := moveGroup_f24 E9 E27 E278 E279 E280 E292 E293 E294 E296 E338 E339 E340 E341 E342 E343 E359 E361 E363 (moveGroup_F0 E9 E22 E27 E100 E101 E102 E103 E104 E105 E106 E107 E108 E109 E110 E111 E112 E113 E114 E115 E116 E117 E118 E119 E120 E121 E122 E123 E124 E125 E126 E127 E128 E129 E130 E131 E132 E133 E134 E135 E136 E137 E138 E139 E140 E141 E142 E143 a_6_0_1) (moveGroup_F1 E9 E22 E27 E56 E57 E58 E59 E60 E61 E62 E63 E64 E65 E66 E67 E68 E69 E70 E71 E72 E73 E74 E75 E76 E77 E78 E79 E80 E81 E82 E83 E84 E85 E86 E87 E88 E89 E90 E91 E92 E93 E94 E95 E96 E97 E98 E99 a_6_3_4) (moveGroup_F2 E9 E10 E11 E12 E13 E14 E15 E16 E17 E18 E19 E20 E21 E22 E23 E24 E25 E26 E27 E28 E29 E30 E31 E32 E33 E34 E35 E36 E37 E38 E39 E40 E41 E42 E43 E44 E45 E46 E47 E48 E49 E50 E51 E52 E53 E54 E55 a_6_6_7) (moveGroup_FX E144 E145 E146 E147 E148 E149 E150 E151 E152 E153 E154 E155 E164 E165 E166 E167 E168 E169 E170 E171 E172 E173 E174 E175 (moveGroup_F0 E9 E22 E27 E100 E101 E102 E103 E104 E105 E106 E107 E108 E109 E110 E111 E112 E113 E114 E115 E116 E117 E118 E119 E120 E121 E122 E123 E124 E125 E126 E127 E128 E129 E130 E131 E132 E133 E134 E135 E136 E137 E138 E139 E140 E141 E142 E143 a_6_0_1) (moveGroup_F1 E9 E22 E27 E56 E57 E58 E59 E60 E61 E62 E63 E64 E65 E66 E67 E68 E69 E70 E71 E72 E73 E74 E75 E76 E77 E78 E79 E80 E81 E82 E83 E84 E85 E86 E87 E88 E89 E90 E91 E92 E93 E94 E95 E96 E97 E98 E99 a_6_3_4) (moveGroup_F2 E9 E10 E11 E12 E13 E14 E15 E16 E17 E18 E19 E20 E21 E22 E23 E24 E25 E26 E27 E28 E29 E30 E31 E32 E33 E34 E35 E36 E37 E38 E39 E40 E41 E42 E43 E44 E45 E46 E47 E48 E49 E50 E51 E52 E53 E54 E55 a_6_6_7))
     have a_3_306_371 : q 306 = q 371 := moveGroup_f25 E156 E157 E158 E159 E160 E161 E162 E163 E176 E177 E178 E179 E180 E181 E182 E183 E278 E279 E280 E300 E301 E302 E304 E306 E344 E345 E346 E347 E348 E349 E350 E351 E365 E367 E369 E371 (moveGroup_F0 E9 E22 E27 E100 E101 E102 E103 E104 E105 E106 E107 E108 E109 E110 E111 E112 E113 E114 E115 E116 E117 E118 E119 E120 E121 E122 E123 E124 E125 E126 E127 E128 E129 E130 E131 E132 E133 E134 E135 E136 E137 E138 E139 E140 E141 E142 E143 a_6_0_1) (moveGroup_F1 E9 E22 E27 E56 E57 E58 E59 E60 E61 E62 E63 E64 E65 E66 E67 E68 E69 E70 E71 E72 E73 E74 E75 E76 E77 E78 E79 E80 E81 E82 E83 E84 E85 E86 E87 E88 E89 E90 E91 E92 E93 E94 E95 E96 E97 E98 E99 a_6_3_4) (moveGroup_F2 E9 E10 E11 E12 E13 E14 E15 E16 E17 E18 E19 E20 E21 E22 E23 E24 E25 E26 E27 E28 E29 E30 E31 E32 E33 E34 E35 E36 E37 E38 E39 E40 E41 E42 E43 E44 E45 E46 E47 E48 E49 E50 E51 E52 E53 E54 E55 a_6_6_7) (moveGroup_FX E144 E145 E146 E147 E148 E149 E150 E151 E152 E153 E154 E155 E164 E165 E166 E167 E168 E169 E170 E171 E172 E173 E174 E175 (moveGroup_F0 E9 E22 E27 E100 E101 E102 E103 E104 E105 E106 E107 E108 E109 E110 E111 E112 E113 E114 E115 E116 E117 E118 E119 E120 E121 E122 E123 E124 E125 E126 E127 E128 E129 E130 E131 E132 E133 E134 E135 E136 E137 E138 E139 E140 E141 E142 E143 a_6_0_1) (moveGroup_F1 E9 E22 E27 E56 E57 E58 E59 E60 E61 E62 E63 E64 E65 E66 E67 E68 E69 E70 E71 E72 E73 E74 E75 E76 E77 E78 E79 E80 E81 E82 E83 E84 E85 E86 E87 E88 E89 E90 E91 E92 E93 E94 E95 E96 E97 E98 E99 a_6_3_4) (moveGroup_F2 E9 E10 E11 E12 E13 E14 E15 E16 E17 E18 E19 E20 E21 E22 E23 E24 E25 E26 E27 E28 E29 E30 E31 E32 E33 E34 E35 E36 E37 E38 E39 E40 E41 E42 E43 E44 E45 E46 E47 E48 E49 E50 E51 E52 E53 E54 E55 a_6_6_7))
     have a_4_280_372 : q 280 = q 372 := moveGroup_f26 E278 E279 E280 E372 a_6_0_1 a_6_3_4 a_6_6_7 (moveGroup_FX E144 E145 E146 E147 E148 E149 E150 E151 E152 E153 E154 E155 E164 E165 E166 E167 E168 E169 E170 E171 E172 E173 E174 E175 (moveGroup_F0 E9 E22 E27 E100 E101 E102 E103 E104 E105 E106 E107 E108 E109 E110 E111 E112 E113 E114 E115 E116 E117 E118 E119 E120 E121 E122 E123 E124 E125 E126 E127 E128 E129 E130 E131 E132 E133 E134 E135 E136 E137 E138 E139 E140 E141 E142 E143 a_6_0_1) (moveGroup_F1 E9 E22 E27 E56 E57 E58 E59 E60 E61 E62 E63 E64 E65 E66 E67 E68 E69 E70 E71 E72 E73 E74 E75 E76 E77 E78 E79 E80 E81 E82 E83 E84 E85 E86 E87 E88 E89 E90 E91 E92 E93 E94 E95 E96 E97 E98 E99 a_6_3_4) (moveGroup_F2 E9 E10 E11 E12 E13 E14 E15 E16 E17 E18 E19 E20 E21 E22 E23 E24 E25 E26 E27 E28 E29 E30 E31 E32 E33 E34 E35 E36 E37 E38 E39 E40 E41 E42 E43 E44 E45 E46 E47 E48 E49 E50 E51 E52 E53 E54 E55 a_6_6_7))
     exact moveGroup_leaf moveGroup_r8 hσ hq h0 (moveGroup_An (hF a_6_0_1) (moveGroup_An (hF a_6_3_4) (moveGroup_An (hF a_6_6_7) (moveGroup_An (hT a_3_168_208) (moveGroup_An (hT a_3_174_214) (moveGroup_An (hT a_3_182_222) (moveGroup_An (hT a_3_169_209) (moveGroup_An (hT a_3_175_215) (moveGroup_An (hT a_3_183_223) (moveGroup_An (hT a_3_232_256) (moveGroup_An (hT a_3_233_257) (moveGroup_An (hT a_4_262_27) (moveGroup_An (hT a_4_268_9) (moveGroup_An (hT a_4_276_9) (moveGroup_An (hT a_4_263_9) (moveGroup_An (hT a_4_269_27) (moveGroup_An (hT a_4_277_9) (moveGroup_An (hF b280) (moveGroup_An (hT b310) (moveGroup_An (hT b314) (moveGroup_An (hT b317) (moveGroup_An (hT a_1_280_0) (moveGroup_An (hF a_6_330_331) (moveGroup_An (hT a_3_287_356) (moveGroup_An (hT a_3_295_362) (moveGroup_An (hT a_3_305_370) (moveGroup_An (hT a_3_288_357) (moveGroup_An (hT a_3_296_363) (moveGroup_An (hT a_3_306_371) (moveGroup_An (hT a_4_280_372) trivial)))))))))))))))))))))))))))))) ⟨tab, mx⟩ hA
end Go.Proofs.YtkcikcnimkofkaaGreatDoor
