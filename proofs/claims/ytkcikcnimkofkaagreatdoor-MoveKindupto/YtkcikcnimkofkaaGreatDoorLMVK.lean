/- Part 13 of the walks and of the mathematics under them: VY VSZ CFmoved MVK. -/
import Derived.Test.YtkcikcnimkofkaaGreatDoorA12
set_option maxHeartbeats 16000000
set_option maxRecDepth 100000
/- VY -/
namespace Go.Proofs.YtkcikcnimkofkaaGreatDoor
open Go.RowKit Cx
theorem den_num (t : Rat) : t * (t.den : Rat) = ((t.num : Int) : Rat) := by
 conv => lhs; lhs; rw [← Rat.mkRat_self t]
 have h0 : (t.den : Rat) ≠ 0 := fun h => t.den_nz (by exact_mod_cast h)
 rw [Rat.mkRat_eq_div, Rat.div_mul_cancel h0]
theorem whole {q : Rat} (h : q.den = 1) : q = ((q.num : Int) : Rat) := by
 have := den_num q
 rw [h] at this
 rw [← this]
 show q = q * ((1 : Nat) : Rat)
 exact (Rat.mul_one q).symm
end Go.Proofs.YtkcikcnimkofkaaGreatDoor
/- VSZ -/
namespace Go.Proofs.YtkcikcnimkofkaaGreatDoor
open Go.RowKit Cx
def szW (Z : List Nat) (I : List Bool) (z : Nat) (b : Bool) (nd : Nd) : Bool := match nd.1, nd.2 with
 | 0, [_, n, d] => (Nat.blt n (2 ^ z) && (Nat.blt 0 d && Nat.blt d (2 ^ z))) && (!b || Nat.beq d 1)
 | 1, [_] => Nat.ble 3495259 z && !b
 | 2, [a, c] => (match Z[a]?, Z[c]?, I[a]?, I[c]? with
  | some x, some y, some true, some true => Nat.ble (Nat.max x y + 1) z
  | some x, some y, _, _ => Nat.ble (x + y + 1) z && !b
  | _, _, _, _ => false)
 | 3, [a, c] => (match Z[a]?, Z[c]?, I[a]?, I[c]? with
  | some x, some y, some true, some true => Nat.ble (Nat.max x y + 1) z
  | some x, some y, _, _ => Nat.ble (x + y + 1) z && !b
  | _, _, _, _ => false)
 | 4, [a, c] => (match Z[a]?, Z[c]?, I[a]?, I[c]? with
  | some x, some y, some true, some true => Nat.ble (x + y) z
  | some x, some y, _, _ => Nat.ble (x + y) z && !b
  | _, _, _, _ => false)
 | 5, [a] => (match Z[a]?, I[a]? with
  | some x, some true => Nat.ble x z
  | some x, _ => Nat.ble x z && !b
  | _, _ => false)
 | 6, [a, c] => (match Z[a]?, Z[c]? with
  | some x, some y => Nat.ble (x + y) z && !b
  | _, _ => false)
 | 8, i :: xs => (match getsO Z xs with
  | some zs => Nat.blt i xs.length && (Nat.ble ((xs.length + 1) * maxL zs + 1) z || (xs.all (fun a => match I[a]? with
   | some true => true
   | _ => false) && (match xs[i]? with
   | some a => (match Z[a]? with
    | some x => Nat.ble (x + 1) z
    | none => false)
   | none => false)))
  | none => false)
 | _, _ => false
def szC (Z : List Nat) (I : List Bool) : List Nd → List Nat → List Bool → Bool
 | [], [], [] => true
 | nd :: ns, z :: zs, b :: bs => (szW Z I z b nd && Nat.ble z 1000000000000) && szC Z I ns zs bs
 | _, _, _ => false
theorem szC_get {Z : List Nat} {I : List Bool} : ∀ {ns : List Nd} {zs : List Nat} {bs : List Bool} {i z : Nat}, szC Z I ns zs bs = true → zs[i]? = some z → ∃ nd b, ns[i]? = some nd ∧ bs[i]? = some b ∧ szW Z I z b nd = true ∧ z ≤ 1000000000000
 | [], [], [], _, _, _, h => by simp at h
 | [], [], _ :: _, _, _, h, _ => by cases h
 | [], _ :: _, _, _, _, h, _ => by cases h
 | _ :: _, [], _, _, _, h, _ => by cases h
 | _ :: _, _ :: _, [], _, _, h, _ => by cases h
 | nd :: ns, z' :: zs, b :: bs, 0, z, h, e => by
  have : z' = z := by simpa using e
  subst this
  unfold szC at h
  simp only [Bool.and_eq_true, Nat.ble_eq] at h
  exact ⟨nd, b, rfl, rfl, h.1.1, h.1.2⟩
 | nd :: ns, z' :: zs, b :: bs, i + 1, z, h, e => by
  unfold szC at h
  rw [Bool.and_eq_true] at h
  obtain ⟨nd2, b2, g1, g2, g3⟩ := szC_get (ns := ns) (zs := zs) (bs := bs) h.2 (show zs[i]? = some z by simpa using e)
  exact ⟨nd2, b2, by simpa using g1, by simpa using g2, g3⟩
theorem szC_len {Z : List Nat} {I : List Bool} : ∀ {ns : List Nd} {zs : List Nat} {bs : List Bool}, szC Z I ns zs bs = true → ns.length = zs.length
 | [], [], [], _ => rfl
 | [], [], _ :: _, h => by cases h
 | [], _ :: _, _, h => by cases h
 | _ :: _, [], _, h => by cases h
 | _ :: _, _ :: _, [], h => by cases h
 | _ :: _, _ :: _, _ :: _, h => by
  unfold szC at h
  rw [Bool.and_eq_true] at h
  exact congrArg (· + 1) (szC_len h.2)
structure QW (z : Nat) (x : Rat) : Prop where
 qs : QS z x
 wh : x.den = 1
theorem QW.of {z : Nat} {n : Int} (h : n.natAbs < 2 ^ z) (hz : 0 < z) : QW z ((n : Int) : Rat) :=
 ⟨⟨by simpa using h, by
  show ((n : Int) : Rat).den < 2 ^ z
  rw [Rat.den_intCast]
  exact Nat.one_lt_two_pow (by omega)⟩, Rat.den_intCast n⟩
theorem QW.mono {k l : Nat} {x : Rat} (h : QW k x) (hk : k ≤ l) : QW l x := ⟨h.qs.mono hk, h.wh⟩
theorem two_max {a b x y : Nat} (h1 : a < 2 ^ x) (h2 : b < 2 ^ y) : a + b < 2 ^ (Nat.max x y + 1) := by
 have e1 : 2 ^ x ≤ 2 ^ Nat.max x y := Nat.pow_le_pow_right (by decide) (Nat.le_max_left x y)
 have e2 : 2 ^ y ≤ 2 ^ Nat.max x y := Nat.pow_le_pow_right (by decide) (Nat.le_max_right x y)
 rw [Nat.pow_succ]
 omega
theorem QW.add {x y : Nat} {a b : Rat} (h1 : QW x a) (h2 : QW y b) : QW (Nat.max x y + 1) (a + b) := by
 rw [whole h1.wh, whole h2.wh, ← Rat.intCast_add]
 refine QW.of ?_ (by omega)
 have := two_max h1.qs.num h2.qs.num
 omega
theorem QW.sub {x y : Nat} {a b : Rat} (h1 : QW x a) (h2 : QW y b) : QW (Nat.max x y + 1) (a - b) := by
 rw [whole h1.wh, whole h2.wh, ← Rat.intCast_sub]
 refine QW.of ?_ (by omega)
 have := two_max h1.qs.num h2.qs.num
 omega
theorem QW.mul {x y : Nat} {a b : Rat} (h1 : QW x a) (h2 : QW y b) : QW (x + y) (a * b) := by
 refine ⟨h1.qs.mul h2.qs, ?_⟩
 rw [whole h1.wh, whole h2.wh, ← Rat.intCast_mul]
 exact Rat.den_intCast _
theorem QW.neg {x : Nat} {a : Rat} (h1 : QW x a) : QW x (-a) := ⟨h1.qs.neg, h1.wh⟩
theorem lD_one : ∀ {qs : List Rat} {m : Nat}, (∀ q ∈ qs, q.den = 1) → qs.foldl (fun m q => m * (q.den / Nat.gcd m q.den)) m = m
 | [], _, _ => rfl
 | q :: qs, m, h => by
  rw [List.foldl_cons, h q List.mem_cons_self, Nat.gcd_one_right, Nat.div_self (by decide), Nat.mul_one]
  exact lD_one fun p hp => h p (List.mem_cons_of_mem _ hp)
theorem QW.fac {z : Nat} {qs : List Rat} {x : Rat} (hx : QS z x) (h : x ∈ qs) (hw : ∀ y ∈ qs, y.den = 1) : QS (z + 1) (x * fac qs) := by
 have hl : lD qs = 1 := lD_one hw
 refine ⟨?_, ?_⟩
 ·rw [fac_abs h, hl, hw x h, Nat.div_self (by decide), Nat.mul_one]
  exact Nat.lt_of_le_of_lt (Nat.div_le_self _ _) (Nat.lt_of_lt_of_le hx.num (Nat.pow_le_pow_right (by decide) (by omega)))
 ·rw [fac_den h]
  exact Nat.one_lt_two_pow (by omega)
theorem ten_three : ∀ n : Nat, 10 ^ n ≤ 2 ^ ((10 * n + 2) / 3)
 | 0 => by decide
 | 1 => by decide
 | 2 => by decide
 | n + 3 => by
  have h := ten_three n
  have e : (10 * (n + 3) + 2) / 3 = (10 * n + 2) / 3 + 10 := by omega
  rw [e, Nat.pow_add, Nat.pow_add]
  exact Nat.mul_le_mul h (by decide)
theorem QS.rd3 (l : List UInt8) : QS ((10 * l.length + 2) / 3 + 5) (Cx.rd l) := by
 have key : ∀ {m : List UInt8}, digs m = true → dv m < 2 ^ ((10 * m.length + 2) / 3) := fun {m} h => Nat.lt_of_lt_of_le (dv_lt (digs_all h)) (ten_three _)
 unfold Cx.rd
 split
 ·rename_i h
  rw [Bool.and_eq_true] at h
  have h1 := key h.1
  have h2 := key h.2
  have h3 := up_len (tailOf l)
  have h4 := low_len (tailOf l)
  have h5 := tail_len l
  apply QS.mkr
  ·rw [sg_abs]; exact Nat.lt_of_lt_of_le h1 (Nat.pow_le_pow_right (by decide) (by omega))
  ·exact Nat.lt_of_lt_of_le h2 (Nat.pow_le_pow_right (by decide) (by omega))
 ·exact QS.zero.mono (by omega)
section
variable {N : List Nd} {Z : List Nat} {I : List Bool} {q : Nat → Rat}
theorem sizes_okW {σ : Nat → ByteArray} (hσ : ∀ j, (σ j).size ≤ 1048576) (hw : wfB 0 N = true) (hz : szC Z I N Z I = true) (hq : ∀ (a : Nat) nd, N[a]? = some nd → q a = valN σ q nd) (h0 : ∀ a, N.length ≤ a → q a = 0) : (∀ (a : Nat) z, Z[a]? = some z → QS z (q a)) ∧ ∀ a, QS 1000000000000 (q a) := by
 have h2 : ∀ (a : Nat) z, Z[a]? = some z → QS z (q a) ∧ (I[a]? = some true → (q a).den = 1) := by
  intro a
  induction a using Nat.strongRecOn with
  | ind a ih =>
   intro z hz'
   obtain ⟨nd, b, hn, hb, hs, _⟩ := szC_get hz hz'
   have hwf := wfB_get hw hn
   rw [Nat.zero_add] at hwf
   rw [hq a nd hn, hb]
   obtain ⟨op, xs⟩ := nd
   unfold szW at hs
   unfold valN
   unfold wfN at hwf
   dsimp only at hs hwf ⊢
   have W : ∀ {c x}, c < a → Z[c]? = some x → I[c]? = some true → QW x (q c) := fun hc hx hi => ⟨(ih _ hc _ hx).1, (ih _ hc _ hx).2 hi⟩
   have no : ∀ {v : Rat}, b = false → (some b = some true → v.den = 1) := fun e h => by rw [e] at h; cases h
   split at hs
   ·rename_i s n d
    simp only [Bool.and_eq_true] at hs
    obtain ⟨⟨h1, h2, h3⟩, h4⟩ := hs
    refine ⟨QS.const (by simpa [Nat.blt_eq] using h1) (by simpa [Nat.blt_eq] using h2) (by simpa [Nat.blt_eq] using h3), fun e => ?_⟩
    rw [show b = true from Option.some.inj e] at h4
    have hd : d = 1 := by simpa using h4
    subst hd
    show (if s = 0 then mkRat (n : Int) 1 else mkRat (-(n : Int)) 1).den = 1
    split
    ·rw [Rat.mkRat_one]
     exact Rat.den_intCast _
    ·rw [Rat.mkRat_one]
     exact Rat.den_intCast _
   ·rename_i j
    simp only [Bool.and_eq_true, Nat.ble_eq, Bool.not_eq_true'] at hs
    exact ⟨QS.mono (QS.rd3 _) (by have := hσ j; rw [str_len]; omega), no hs.2⟩
   ·simp only [List.all_cons, List.all_nil, Bool.and_true, Bool.and_eq_true] at hwf
    have l1 := (by simpa [Nat.blt_eq] using hwf.1 : _ < a)
    have l2 := (by simpa [Nat.blt_eq] using hwf.2 : _ < a)
    split at hs
    ·rename_i x y hx hy i1 i2
     rw [Nat.ble_eq] at hs
     have := ((W l1 hx i1).add (W l2 hy i2)).mono hs
     exact ⟨this.qs, fun _ => this.wh⟩
    ·rename_i x y hx hy _
     simp only [Bool.and_eq_true, Nat.ble_eq, Bool.not_eq_true'] at hs
     exact ⟨((ih _ l1 x hx).1.add (ih _ l2 y hy).1).mono hs.1, no hs.2⟩
    ·cases hs
   ·simp only [List.all_cons, List.all_nil, Bool.and_true, Bool.and_eq_true] at hwf
    have l1 := (by simpa [Nat.blt_eq] using hwf.1 : _ < a)
    have l2 := (by simpa [Nat.blt_eq] using hwf.2 : _ < a)
    split at hs
    ·rename_i x y hx hy i1 i2
     rw [Nat.ble_eq] at hs
     have := ((W l1 hx i1).sub (W l2 hy i2)).mono hs
     exact ⟨this.qs, fun _ => this.wh⟩
    ·rename_i x y hx hy _
     simp only [Bool.and_eq_true, Nat.ble_eq, Bool.not_eq_true'] at hs
     exact ⟨((ih _ l1 x hx).1.sub (ih _ l2 y hy).1).mono hs.1, no hs.2⟩
    ·cases hs
   ·simp only [List.all_cons, List.all_nil, Bool.and_true, Bool.and_eq_true] at hwf
    have l1 := (by simpa [Nat.blt_eq] using hwf.1 : _ < a)
    have l2 := (by simpa [Nat.blt_eq] using hwf.2 : _ < a)
    split at hs
    ·rename_i x y hx hy i1 i2
     rw [Nat.ble_eq] at hs
     have := ((W l1 hx i1).mul (W l2 hy i2)).mono hs
     exact ⟨this.qs, fun _ => this.wh⟩
    ·rename_i x y hx hy _
     simp only [Bool.and_eq_true, Nat.ble_eq, Bool.not_eq_true'] at hs
     exact ⟨((ih _ l1 x hx).1.mul (ih _ l2 y hy).1).mono hs.1, no hs.2⟩
    ·cases hs
   ·simp only [List.all_cons, List.all_nil, Bool.and_true] at hwf
    have l1 := (by simpa [Nat.blt_eq] using hwf : _ < a)
    split at hs
    ·rename_i x hx i1
     rw [Nat.ble_eq] at hs
     have := (W l1 hx i1).neg.mono hs
     exact ⟨this.qs, fun _ => this.wh⟩
    ·rename_i x hx _
     simp only [Bool.and_eq_true, Nat.ble_eq, Bool.not_eq_true'] at hs
     exact ⟨((ih _ l1 x hx).1.neg).mono hs.1, no hs.2⟩
    ·cases hs
   ·simp only [List.all_cons, List.all_nil, Bool.and_true, Bool.and_eq_true] at hwf
    split at hs
    ·rename_i x y hx hy
     simp only [Bool.and_eq_true, Nat.ble_eq, Bool.not_eq_true'] at hs
     exact ⟨((ih _ (by simpa [Nat.blt_eq] using hwf.1) x hx).1.div (ih _ (by simpa [Nat.blt_eq] using hwf.2) y hy).1).mono hs.1, no hs.2⟩
    ·cases hs
   ·rename_i i ys
    split at hs
    ·rename_i zs hzs
     rw [Bool.and_eq_true] at hs
     have hi : i < ys.length := by simpa [Nat.blt_eq] using hs.1
     have hwf' : ys.all (Nat.blt · a) = true := hwf
     rw [List.all_eq_true] at hwf'
     have hlt : ∀ c ∈ ys, c < a := fun c hc => by simpa [Nat.blt_eq] using hwf' c hc
     have hm : q ys[i] ∈ ys.map q := List.mem_map_of_mem (List.getElem_mem hi)
     have hg : (ys.map q).getD i 0 = q ys[i] := by
      rw [List.getD_eq_getElem?_getD, List.getElem?_map, List.getElem?_eq_getElem hi]
      rfl
     show QS z ((ys.map q).getD i 0 * fac (ys.map q)) ∧ (some b = some true → ((ys.map q).getD i 0 * fac (ys.map q)).den = 1)
     rw [hg]
     refine ⟨?_, fun _ => fac_den hm⟩
     rcases Bool.or_eq_true _ _ ▸ hs.2 with h3 | h3
     ·rw [Nat.ble_eq] at h3
      have hall : ∀ y ∈ ys.map q, QS (maxL zs) y := fun y hy => by
       obtain ⟨c, hc, rfl⟩ := List.mem_map.1 hy
       obtain ⟨z', hm', hz2⟩ := getsO_get hzs c hc
       exact (ih c (hlt c hc) z' hz2).1.mono (le_maxL z' hm')
      have := QS.facN hall (x := q ys[i]) hm
      rw [List.length_map] at this
      exact this.mono h3
     ·rw [Bool.and_eq_true, List.all_eq_true] at h3
      obtain ⟨h4, h5⟩ := h3
      have hwh : ∀ y ∈ ys.map q, y.den = 1 := fun y hy => by
       obtain ⟨c, hc, rfl⟩ := List.mem_map.1 hy
       obtain ⟨z', _, hz2⟩ := getsO_get hzs c hc
       refine (ih c (hlt c hc) z' hz2).2 ?_
       have := h4 c hc
       split at this
       ·assumption
       ·cases this
      rw [List.getElem?_eq_getElem hi] at h5
      dsimp only at h5
      split at h5
      ·rename_i x hx
       rw [Nat.ble_eq] at h5
       exact (QW.fac (ih _ (hlt _ (List.getElem_mem hi)) x hx).1 hm hwh).mono h5
      ·cases h5
    ·cases hs
   ·cases hs
 refine ⟨fun a z h => (h2 a z h).1, fun a => ?_⟩
 have hl := szC_len hz
 by_cases ha : a < Z.length
 ·obtain ⟨nd, b, _, _, _, hle⟩ := szC_get hz (List.getElem?_eq_getElem ha)
  exact (h2 a _ (List.getElem?_eq_getElem ha)).1.mono hle
 ·rw [h0 a (by omega)]
  exact QS.zero.mono (by decide)
theorem hy_ofW {L C : List (List Nat × Nat)} {σ : Nat → ByteArray} {H : List (Nat × Nat × Nat × Nat)} (hσ : ∀ j, (σ j).size ≤ 1048576) (hw : wfB 0 N = true) (hz : szC Z I N Z I = true) (hl : litB N L = true) (hcn : canB N C = true) (hq : ∀ (a : Nat) nd, N[a]? = some nd → q a = valN σ q nd) (h0 : ∀ a, N.length ≤ a → q a = 0) (hH : hAll q H) : Hy N H L C Z q σ where
 nat := hq
 qs := (sizes_okW hσ hw hz hq h0).2
 zs := (sizes_okW hσ hw hz hq h0).1
 par := hσ
 lit := fun s b h => lit_rd hl hq h
 k0 := fun a r h => kn_at hH h
 k1 := fun a r h => kn_at hH h
 k2 := fun a r h => kn_at hH h
 k3 := fun a b r h => kn_at hH h
 k4 := fun l a b r h1 h2 => by
  have h3 : Nat.beq 1 r = true ↔ q a = q b := kn_at hH h2
  rw [h3, ← can_tx hcn hq h1]
  exact ⟨fun e => by rw [e], fun e => tellS_inj (bytesN_inj e)⟩
 k6 := fun a b r h => kn_at hH h
 k5 := fun a r h => kn_at hH h
end
end Go.Proofs.YtkcikcnimkofkaaGreatDoor
/- CFmoved -/
namespace Go.Proofs.YtkcikcnimkofkaaGreatDoor
open Go.RowKit Cx
theorem closed_moved : Closed 50 :=
 closed_told (N := [(0, [0, 1, 1]), (0, [0, 0, 1]), (4, [0, 1]), (4, [1, 1]), (2, [2, 3]), (2, [4, 1]), (5, [5]), (4, [0, 6]), (4, [1, 6]), (4, [0, 0]), (2, [9, 3]), (6, [7, 10]), (6, [8, 10]), (0, [0, 2, 1]), (4, [11, 13]), (4, [12, 13]), (2, [1, 14]), (2, [1, 15]), (2, [10, 1]), (5, [18]), (4, [0, 19]), (4, [1, 19]), (6, [20, 10]), (6, [21, 10]), (4, [22, 13]), (4, [23, 13]), (2, [0, 24]), (2, [1, 25]), (3, [26, 16]), (3, [27, 17]), (4, [1, 0]), (2, [2, 30]), (2, [31, 1]), (5, [32]), (4, [0, 33]), (4, [1, 33]), (6, [34, 10]), (6, [35, 10]), (4, [36, 13]), (4, [37, 13]), (2, [1, 38]), (2, [0, 39]), (3, [40, 16]), (3, [41, 17]), (0, [1, 1, 1]), (2, [4, 44]), (5, [45]), (4, [0, 46]), (4, [1, 46]), (6, [47, 10]), (6, [48, 10]), (4, [49, 13]), (4, [50, 13]), (2, [1, 51]), (2, [1, 52]), (2, [10, 44]), (5, [55]), (4, [0, 56]), (4, [1, 56]), (6, [57, 10]), (6, [58, 10]), (4, [59, 13]), (4, [60, 13]), (2, [0, 61]), (2, [1, 62]), (3, [63, 53]), (3, [64, 54]), (2, [31, 44]), (5, [67]), (4, [0, 68]), (4, [1, 68]), (6, [69, 10]), (6, [70, 10]), (4, [71, 13]), (4, [72, 13]), (2, [1, 73]), (2, [0, 74]), (3, [75, 53]), (3, [76, 54]), (4, [65, 28]), (4, [66, 28]), (4, [77, 29]), (4, [78, 29]), (2, [79, 81]), (2, [80, 82]), (4, [65, 42]), (4, [66, 42]), (4, [77, 43]), (4, [78, 43]), (2, [85, 87]), (2, [86, 88]), (4, [65, 16]), (4, [66, 16]), (4, [77, 17]), (4, [78, 17]), (2, [91, 93]), (2, [92, 94]), (2, [95, 53]), (2, [96, 54]), (4, [83, 83]), (4, [84, 84]), (2, [99, 100]), (3, [101, 0]), (4, [89, 89]), (4, [90, 90]), (2, [103, 104]), (3, [105, 0]), (4, [83, 89]), (4, [84, 90]), (2, [107, 108]), (4, [83, 90]), (4, [84, 89]), (3, [110, 111]), (3, [83, 0]), (3, [84, 1]), (0, [0, 3, 1]), (0, [0, 4, 1]), (4, [28, 115]), (4, [29, 115]), (4, [42, 116]), (4, [43, 116]), (2, [117, 119]), (2, [118, 120]), (2, [121, 16]), (2, [122, 17]), (0, [1, 3, 1])]) (H := [(0, 0, 0, 0), (0, 102, 0, 1), (0, 106, 0, 1), (0, 109, 0, 1), (1, 112, 0, 0), (0, 113, 0, 1), (0, 114, 0, 1), (0, 97, 0, 0), (4, 83, 0, 1), (4, 89, 1, 1), (4, 97, 13, 1), (4, 84, 1, 1), (4, 90, 0, 1), (4, 98, 1, 1), (4, 123, 125, 1), (4, 124, 116, 1)]) (K := [(218, [.inr (3, 9, 0, 0, 0)]), (218, [.inr (3, 121, 0, 0, 0)]), (208, [.inr (3, 227, 0, 0, 0)]), (208, [.inr (3, 238, 0, 0, 0)]), (208, [.inr (3, 311, 0, 0, 0)]), (219, []), (208, [.inr (3, 354, 0, 0, 0)])]) (L := [([49], 0), ([48], 1), ([45, 49], 44), ([50], 13), ([51], 115), ([52], 116), ([45, 51], 125)]) (C := [([49], 0), ([48], 1), ([50], 13), ([45, 51], 125), ([52], 116)]) (Z := [2, 2, 4, 4, 9, 12, 12, 14, 14, 4, 9, 23, 23, 3, 26, 26, 29, 29, 12, 12, 14, 14, 23, 23, 26, 26, 29, 29, 59, 59, 4, 9, 12, 12, 14, 14, 23, 23, 26, 26, 29, 29, 59, 59, 2, 12, 12, 14, 14, 23, 23, 26, 26, 29, 29, 12, 12, 14, 14, 23, 23, 26, 26, 29, 29, 59, 59, 12, 12, 14, 14, 23, 23, 26, 26, 29, 29, 59, 59, 118, 118, 118, 118, 237, 237, 118, 118, 118, 118, 237, 237, 88, 88, 88, 88, 177, 177, 207, 207, 474, 474, 949, 952, 474, 474, 949, 952, 474, 474, 949, 474, 474, 949, 240, 240, 3, 4, 62, 62, 63, 63, 126, 126, 156, 156, 3]) (cl := []) 8 (fun _ h => by cases h) (by kernel_rfl) (by kernel_rfl) (by kernel_rfl) (by kernel_rfl) (by kernel_rfl) (by kernel_rfl) (by kernel_rfl)
end Go.Proofs.YtkcikcnimkofkaaGreatDoor
/- MVK -/
namespace Go.Proofs.YtkcikcnimkofkaaGreatDoor
open Go.RowKit Cx
def moveKind_N : List Nd := [(1, [0]), (1, [3]), (1, [1]), (1, [4]), (1, [2]), (1, [5]), (4, [0, 0]), (4, [1, 1]), (2, [6, 7]), (0, [0, 1, 1]), (3, [8, 9]), (4, [2, 2]), (4, [3, 3]), (2, [11, 12]), (3, [13, 9]), (4, [0, 2]), (4, [1, 3]), (2, [15, 16]), (4, [0, 3]), (4, [1, 2]), (3, [18, 19]), (0, [0, 0, 1]), (4, [0, 21]), (4, [1, 21]), (4, [2, 21]), (4, [3, 21]), (2, [22, 24]), (2, [23, 25]), (2, [26, 4]), (2, [27, 5]), (4, [0, 28]), (4, [1, 28]), (4, [2, 29]), (4, [3, 29]), (2, [30, 32]), (2, [31, 33]), (2, [34, 4]), (2, [35, 5]), (4, [2, 1]), (3, [18, 38]), (0, [0, 1, 2]), (4, [28, 40]), (4, [29, 40]), (4, [0, 41]), (4, [2, 42]), (2, [43, 44]), (2, [45, 4]), (4, [1, 41]), (4, [3, 42]), (2, [47, 48]), (2, [49, 5]), (3, [46, 41]), (3, [50, 42]), (3, [0, 9]), (3, [1, 21])]
def moveKind_L : List (List Nat × Nat) := []
def moveKind_C : List (List Nat × Nat) := []
def moveKind_Z : List Nat := [3495259, 3495259, 3495259, 3495259, 3495259, 3495259, 6990518, 6990518, 13981037, 2, 13981040, 6990518, 6990518, 13981037, 13981040, 6990518, 6990518, 13981037, 6990518, 6990518, 13981037, 2, 3495261, 3495261, 3495261, 3495261, 6990523, 6990523, 10485783, 10485783, 13981042, 13981042, 13981042, 13981042, 27962085, 27962085, 31457345, 31457345, 6990518, 13981037, 3, 10485786, 10485786, 13981045, 13981045, 27962091, 31457351, 13981045, 13981045, 27962091, 31457351, 41943138, 41943138, 3495262, 3495262]
def moveKind_I : List Bool := [false, false, false, false, false, false, false, false, false, true, false, false, false, false, false, false, false, false, false, false, false, true, false, false, false, false, false, false, false, false, false, false, false, false, false, false, false, false, false, false, false, false, false, false, false, false, false, false, false, false, false, false, false, false, false]
theorem moveKind_wf : wfB 0 moveKind_N = true := by kernel_rfl
theorem moveKind_sz : szC moveKind_Z moveKind_I moveKind_N moveKind_Z moveKind_I = true := by kernel_rfl
theorem moveKind_lt : litB moveKind_N moveKind_L = true := by kernel_rfl
theorem moveKind_cn : canB moveKind_N moveKind_C = true := by kernel_rfl
theorem moveKind_c9 : cst 0 1 1 = (1 : Rat) := by decide +kernel
theorem moveKind_c21 : cst 0 0 1 = (0 : Rat) := by decide +kernel
theorem moveKind_c40 : cst 0 1 2 = ((1 / 2) : Rat) := by decide +kernel
theorem mk_det {a b c d : Rat} (h1 : a * a + b * b = 1) (h2 : c * c + d * d = 1) (h3 : a * c + b * d = 0) (h4 : ¬ (a * d - b * c < 0)) : 0 < a * d - c * b := by
 refine Classical.byContradiction fun h => ?_
 have hd : (a * d - c * b) * (a * d - c * b) = 1 := by
  clear h h4
  grind
 have h0 : a * d - c * b = 0 := Rat.le_antisymm (Rat.not_lt.1 h) (by rw [Rat.mul_comm c b]; exact Rat.not_lt.1 h4)
 rw [h0, Rat.zero_mul] at hd
 exact absurd hd (by decide)
theorem moveKind_f1 {z0 z1 z2 z3 z4 z5 z6 z7 z8 z9 z10 z11 z12 z13 z14 z15 z16 z17 z18 z19 z20 z21 z22 z23 z24 z25 z26 z27 z28 z29 z30 z31 z32 z33 z34 z35 z36 z37 : Rat} : z6 = z0 * z0 → z7 = z1 * z1 → z8 = z6 + z7 → z9 = 1 → z10 = z8 - z9 → z11 = z2 * z2 → z12 = z3 * z3 → z13 = z11 + z12 → z14 = z13 - z9 → z15 = z0 * z2 → z16 = z1 * z3 → z17 = z15 + z16 → z18 = z0 * z3 → z19 = z1 * z2 → z20 = z18 - z19 → z21 = 0 → z22 = z0 * z21 → z23 = z1 * z21 → z24 = z2 * z21 → z25 = z3 * z21 → z26 = z22 + z24 → z27 = z23 + z25 → z28 = z26 + z4 → z29 = z27 + z5 → z30 = z0 * z28 → z31 = z1 * z28 → z32 = z2 * z29 → z33 = z3 * z29 → z34 = z30 + z32 → z35 = z31 + z33 → z36 = z34 + z4 → z37 = z35 + z5 → (z10 = 0) → (z14 = 0) → (z17 = 0) → (z20 < 0) → (z36 = 0 ∧ z37 = 0) → z8 = z9 := by
 intro e6 e7 e8 e9 e10 e11 e12 e13 e14 e15 e16 e17 e18 e19 e20 e21 e22 e23 e24 e25 e26 e27 e28 e29 e30 e31 e32 e33 e34 e35 e36 e37 u0 u1 u2 u3 u4
 rw [u0] at e10
 rw [u1] at e14
 rw [u2] at e17
 rw [u4.1] at e36
 rw [u4.2] at e37
 subst_vars; grind
theorem moveKind_f2 {z0 z1 z2 z3 z4 z5 z6 z7 z8 z9 z10 z11 z12 z13 z14 z15 z16 z17 z18 z19 z20 z21 z22 z23 z24 z25 z26 z27 z28 z29 z30 z31 z32 z33 z34 z35 z36 z37 : Rat} : z6 = z0 * z0 → z7 = z1 * z1 → z8 = z6 + z7 → z9 = 1 → z10 = z8 - z9 → z11 = z2 * z2 → z12 = z3 * z3 → z13 = z11 + z12 → z14 = z13 - z9 → z15 = z0 * z2 → z16 = z1 * z3 → z17 = z15 + z16 → z18 = z0 * z3 → z19 = z1 * z2 → z20 = z18 - z19 → z21 = 0 → z22 = z0 * z21 → z23 = z1 * z21 → z24 = z2 * z21 → z25 = z3 * z21 → z26 = z22 + z24 → z27 = z23 + z25 → z28 = z26 + z4 → z29 = z27 + z5 → z30 = z0 * z28 → z31 = z1 * z28 → z32 = z2 * z29 → z33 = z3 * z29 → z34 = z30 + z32 → z35 = z31 + z33 → z36 = z34 + z4 → z37 = z35 + z5 → (z10 = 0) → (z14 = 0) → (z17 = 0) → (z20 < 0) → (z36 = 0 ∧ z37 = 0) → z13 = z9 := by
 intro e6 e7 e8 e9 e10 e11 e12 e13 e14 e15 e16 e17 e18 e19 e20 e21 e22 e23 e24 e25 e26 e27 e28 e29 e30 e31 e32 e33 e34 e35 e36 e37 u0 u1 u2 u3 u4
 rw [u0] at e10
 rw [u1] at e14
 rw [u2] at e17
 rw [u4.1] at e36
 rw [u4.2] at e37
 subst_vars; grind
theorem moveKind_f3 {z0 z1 z2 z3 z4 z5 z6 z7 z8 z9 z10 z11 z12 z13 z14 z15 z16 z17 z18 z19 z20 z21 z22 z23 z24 z25 z26 z27 z28 z29 z30 z31 z32 z33 z34 z35 z36 z37 z38 z39 : Rat} : z6 = z0 * z0 → z7 = z1 * z1 → z8 = z6 + z7 → z9 = 1 → z10 = z8 - z9 → z11 = z2 * z2 → z12 = z3 * z3 → z13 = z11 + z12 → z14 = z13 - z9 → z15 = z0 * z2 → z16 = z1 * z3 → z17 = z15 + z16 → z18 = z0 * z3 → z19 = z1 * z2 → z20 = z18 - z19 → z21 = 0 → z22 = z0 * z21 → z23 = z1 * z21 → z24 = z2 * z21 → z25 = z3 * z21 → z26 = z22 + z24 → z27 = z23 + z25 → z28 = z26 + z4 → z29 = z27 + z5 → z30 = z0 * z28 → z31 = z1 * z28 → z32 = z2 * z29 → z33 = z3 * z29 → z34 = z30 + z32 → z35 = z31 + z33 → z36 = z34 + z4 → z37 = z35 + z5 → z38 = z2 * z1 → z39 = z18 - z38 → (z10 = 0) → (z14 = 0) → (z17 = 0) → (z20 < 0) → (z36 = 0 ∧ z37 = 0) → ¬ (0 < z39) := by
 intro e6 e7 e8 e9 e10 e11 e12 e13 e14 e15 e16 e17 e18 e19 e20 e21 e22 e23 e24 e25 e26 e27 e28 e29 e30 e31 e32 e33 e34 e35 e36 e37 e38 e39 u0 u1 u2 u3 u4
 rw [u0] at e10
 rw [u1] at e14
 rw [u2] at e17
 rw [u4.1] at e36
 rw [u4.2] at e37
 subst_vars; grind
theorem moveKind_f4 {z0 z1 z2 z3 z4 z5 z6 z7 z8 z9 z10 z11 z12 z13 z14 z15 z16 z17 z18 z19 z20 z21 z22 z23 z24 z25 z26 z27 z28 z29 z30 z31 z32 z33 z34 z35 z36 z37 z40 z41 z42 z43 z44 z45 z46 z51 : Rat} : z6 = z0 * z0 → z7 = z1 * z1 → z8 = z6 + z7 → z9 = 1 → z10 = z8 - z9 → z11 = z2 * z2 → z12 = z3 * z3 → z13 = z11 + z12 → z14 = z13 - z9 → z15 = z0 * z2 → z16 = z1 * z3 → z17 = z15 + z16 → z18 = z0 * z3 → z19 = z1 * z2 → z20 = z18 - z19 → z21 = 0 → z22 = z0 * z21 → z23 = z1 * z21 → z24 = z2 * z21 → z25 = z3 * z21 → z26 = z22 + z24 → z27 = z23 + z25 → z28 = z26 + z4 → z29 = z27 + z5 → z30 = z0 * z28 → z31 = z1 * z28 → z32 = z2 * z29 → z33 = z3 * z29 → z34 = z30 + z32 → z35 = z31 + z33 → z36 = z34 + z4 → z37 = z35 + z5 → z40 = (1 / 2) → z41 = z28 * z40 → z42 = z29 * z40 → z43 = z0 * z41 → z44 = z2 * z42 → z45 = z43 + z44 → z46 = z45 + z4 → z51 = z46 - z41 → (z10 = 0) → (z14 = 0) → (z17 = 0) → (z20 < 0) → (z36 = 0 ∧ z37 = 0) → z51 = 0 := by
 intro e6 e7 e8 e9 e10 e11 e12 e13 e14 e15 e16 e17 e18 e19 e20 e21 e22 e23 e24 e25 e26 e27 e28 e29 e30 e31 e32 e33 e34 e35 e36 e37 e40 e41 e42 e43 e44 e45 e46 e51 u0 u1 u2 u3 u4
 rw [u0] at e10
 rw [u1] at e14
 rw [u2] at e17
 rw [u4.1] at e36
 rw [u4.2] at e37
 subst_vars; grind
theorem moveKind_f5 {z0 z1 z2 z3 z4 z5 z6 z7 z8 z9 z10 z11 z12 z13 z14 z15 z16 z17 z18 z19 z20 z21 z22 z23 z24 z25 z26 z27 z28 z29 z30 z31 z32 z33 z34 z35 z36 z37 z40 z41 z42 z47 z48 z49 z50 z52 : Rat} : z6 = z0 * z0 → z7 = z1 * z1 → z8 = z6 + z7 → z9 = 1 → z10 = z8 - z9 → z11 = z2 * z2 → z12 = z3 * z3 → z13 = z11 + z12 → z14 = z13 - z9 → z15 = z0 * z2 → z16 = z1 * z3 → z17 = z15 + z16 → z18 = z0 * z3 → z19 = z1 * z2 → z20 = z18 - z19 → z21 = 0 → z22 = z0 * z21 → z23 = z1 * z21 → z24 = z2 * z21 → z25 = z3 * z21 → z26 = z22 + z24 → z27 = z23 + z25 → z28 = z26 + z4 → z29 = z27 + z5 → z30 = z0 * z28 → z31 = z1 * z28 → z32 = z2 * z29 → z33 = z3 * z29 → z34 = z30 + z32 → z35 = z31 + z33 → z36 = z34 + z4 → z37 = z35 + z5 → z40 = (1 / 2) → z41 = z28 * z40 → z42 = z29 * z40 → z47 = z1 * z41 → z48 = z3 * z42 → z49 = z47 + z48 → z50 = z49 + z5 → z52 = z50 - z42 → (z10 = 0) → (z14 = 0) → (z17 = 0) → (z20 < 0) → (z36 = 0 ∧ z37 = 0) → z52 = 0 := by
 intro e6 e7 e8 e9 e10 e11 e12 e13 e14 e15 e16 e17 e18 e19 e20 e21 e22 e23 e24 e25 e26 e27 e28 e29 e30 e31 e32 e33 e34 e35 e36 e37 e40 e41 e42 e47 e48 e49 e50 e52 u0 u1 u2 u3 u4
 rw [u0] at e10
 rw [u1] at e14
 rw [u2] at e17
 rw [u4.1] at e36
 rw [u4.2] at e37
 subst_vars; grind
theorem moveKind_f6 {z0 z1 z2 z3 z4 z5 z6 z7 z8 z9 z10 z11 z12 z13 z14 z15 z16 z17 z18 z19 z20 z21 z22 z23 z24 z25 z26 z27 z28 z29 z30 z31 z32 z33 z34 z35 z36 z37 : Rat} : z6 = z0 * z0 → z7 = z1 * z1 → z8 = z6 + z7 → z9 = 1 → z10 = z8 - z9 → z11 = z2 * z2 → z12 = z3 * z3 → z13 = z11 + z12 → z14 = z13 - z9 → z15 = z0 * z2 → z16 = z1 * z3 → z17 = z15 + z16 → z18 = z0 * z3 → z19 = z1 * z2 → z20 = z18 - z19 → z21 = 0 → z22 = z0 * z21 → z23 = z1 * z21 → z24 = z2 * z21 → z25 = z3 * z21 → z26 = z22 + z24 → z27 = z23 + z25 → z28 = z26 + z4 → z29 = z27 + z5 → z30 = z0 * z28 → z31 = z1 * z28 → z32 = z2 * z29 → z33 = z3 * z29 → z34 = z30 + z32 → z35 = z31 + z33 → z36 = z34 + z4 → z37 = z35 + z5 → (z10 = 0) → (z14 = 0) → (z17 = 0) → (z20 < 0) → (¬ (z36 = 0 ∧ z37 = 0)) → z8 = z9 := by
 intro e6 e7 e8 e9 e10 e11 e12 e13 e14 e15 e16 e17 e18 e19 e20 e21 e22 e23 e24 e25 e26 e27 e28 e29 e30 e31 e32 e33 e34 e35 e36 e37 u0 u1 u2 u3 u4
 rw [u0] at e10
 rw [u1] at e14
 rw [u2] at e17
 subst_vars; grind
theorem moveKind_f7 {z0 z1 z2 z3 z4 z5 z6 z7 z8 z9 z10 z11 z12 z13 z14 z15 z16 z17 z18 z19 z20 z21 z22 z23 z24 z25 z26 z27 z28 z29 z30 z31 z32 z33 z34 z35 z36 z37 : Rat} : z6 = z0 * z0 → z7 = z1 * z1 → z8 = z6 + z7 → z9 = 1 → z10 = z8 - z9 → z11 = z2 * z2 → z12 = z3 * z3 → z13 = z11 + z12 → z14 = z13 - z9 → z15 = z0 * z2 → z16 = z1 * z3 → z17 = z15 + z16 → z18 = z0 * z3 → z19 = z1 * z2 → z20 = z18 - z19 → z21 = 0 → z22 = z0 * z21 → z23 = z1 * z21 → z24 = z2 * z21 → z25 = z3 * z21 → z26 = z22 + z24 → z27 = z23 + z25 → z28 = z26 + z4 → z29 = z27 + z5 → z30 = z0 * z28 → z31 = z1 * z28 → z32 = z2 * z29 → z33 = z3 * z29 → z34 = z30 + z32 → z35 = z31 + z33 → z36 = z34 + z4 → z37 = z35 + z5 → (z10 = 0) → (z14 = 0) → (z17 = 0) → (z20 < 0) → (¬ (z36 = 0 ∧ z37 = 0)) → z13 = z9 := by
 intro e6 e7 e8 e9 e10 e11 e12 e13 e14 e15 e16 e17 e18 e19 e20 e21 e22 e23 e24 e25 e26 e27 e28 e29 e30 e31 e32 e33 e34 e35 e36 e37 u0 u1 u2 u3 u4
 rw [u0] at e10
 rw [u1] at e14
 rw [u2] at e17
 subst_vars; grind
theorem moveKind_f8 {z0 z1 z2 z3 z4 z5 z6 z7 z8 z9 z10 z11 z12 z13 z14 z15 z16 z17 z18 z19 z20 z21 z22 z23 z24 z25 z26 z27 z28 z29 z30 z31 z32 z33 z34 z35 z36 z37 z38 z39 : Rat} : z6 = z0 * z0 → z7 = z1 * z1 → z8 = z6 + z7 → z9 = 1 → z10 = z8 - z9 → z11 = z2 * z2 → z12 = z3 * z3 → z13 = z11 + z12 → z14 = z13 - z9 → z15 = z0 * z2 → z16 = z1 * z3 → z17 = z15 + z16 → z18 = z0 * z3 → z19 = z1 * z2 → z20 = z18 - z19 → z21 = 0 → z22 = z0 * z21 → z23 = z1 * z21 → z24 = z2 * z21 → z25 = z3 * z21 → z26 = z22 + z24 → z27 = z23 + z25 → z28 = z26 + z4 → z29 = z27 + z5 → z30 = z0 * z28 → z31 = z1 * z28 → z32 = z2 * z29 → z33 = z3 * z29 → z34 = z30 + z32 → z35 = z31 + z33 → z36 = z34 + z4 → z37 = z35 + z5 → z38 = z2 * z1 → z39 = z18 - z38 → (z10 = 0) → (z14 = 0) → (z17 = 0) → (z20 < 0) → (¬ (z36 = 0 ∧ z37 = 0)) → ¬ (0 < z39) := by
 intro e6 e7 e8 e9 e10 e11 e12 e13 e14 e15 e16 e17 e18 e19 e20 e21 e22 e23 e24 e25 e26 e27 e28 e29 e30 e31 e32 e33 e34 e35 e36 e37 e38 e39 u0 u1 u2 u3 u4
 rw [u0] at e10
 rw [u1] at e14
 rw [u2] at e17
 subst_vars; grind
theorem moveKind_f9 {z0 z1 z2 z3 z4 z5 z6 z7 z8 z9 z10 z11 z12 z13 z14 z15 z16 z17 z18 z19 z20 z21 z22 z23 z24 z25 z26 z27 z28 z29 z30 z31 z32 z33 z34 z35 z36 z37 z40 z41 z42 z43 z44 z45 z46 z47 z48 z49 z50 z51 z52 : Rat} : z6 = z0 * z0 → z7 = z1 * z1 → z8 = z6 + z7 → z9 = 1 → z10 = z8 - z9 → z11 = z2 * z2 → z12 = z3 * z3 → z13 = z11 + z12 → z14 = z13 - z9 → z15 = z0 * z2 → z16 = z1 * z3 → z17 = z15 + z16 → z18 = z0 * z3 → z19 = z1 * z2 → z20 = z18 - z19 → z21 = 0 → z22 = z0 * z21 → z23 = z1 * z21 → z24 = z2 * z21 → z25 = z3 * z21 → z26 = z22 + z24 → z27 = z23 + z25 → z28 = z26 + z4 → z29 = z27 + z5 → z30 = z0 * z28 → z31 = z1 * z28 → z32 = z2 * z29 → z33 = z3 * z29 → z34 = z30 + z32 → z35 = z31 + z33 → z36 = z34 + z4 → z37 = z35 + z5 → z40 = (1 / 2) → z41 = z28 * z40 → z42 = z29 * z40 → z43 = z0 * z41 → z44 = z2 * z42 → z45 = z43 + z44 → z46 = z45 + z4 → z47 = z1 * z41 → z48 = z3 * z42 → z49 = z47 + z48 → z50 = z49 + z5 → z51 = z46 - z41 → z52 = z50 - z42 → (z10 = 0) → (z14 = 0) → (z17 = 0) → (z20 < 0) → (¬ (z36 = 0 ∧ z37 = 0)) → ¬ (z51 = 0 ∧ z52 = 0) := by
 intro e6 e7 e8 e9 e10 e11 e12 e13 e14 e15 e16 e17 e18 e19 e20 e21 e22 e23 e24 e25 e26 e27 e28 e29 e30 e31 e32 e33 e34 e35 e36 e37 e40 e41 e42 e43 e44 e45 e46 e47 e48 e49 e50 e51 e52 u0 u1 u2 u3 u4
 rw [u0] at e10
 rw [u1] at e14
 rw [u2] at e17
 subst_vars; grind
theorem moveKind_f10 {z0 z1 z2 z3 z4 z5 z6 z7 z8 z9 z10 z11 z12 z13 z14 z15 z16 z17 z18 z19 z20 z21 z53 z54 : Rat} : z6 = z0 * z0 → z7 = z1 * z1 → z8 = z6 + z7 → z9 = 1 → z10 = z8 - z9 → z11 = z2 * z2 → z12 = z3 * z3 → z13 = z11 + z12 → z14 = z13 - z9 → z15 = z0 * z2 → z16 = z1 * z3 → z17 = z15 + z16 → z18 = z0 * z3 → z19 = z1 * z2 → z20 = z18 - z19 → z21 = 0 → z53 = z0 - z9 → z54 = z1 - z21 → (z10 = 0) → (z14 = 0) → (z17 = 0) → (¬ (z20 < 0)) → (z53 = 0 ∧ z54 = 0) → (z4 = 0 ∧ z5 = 0) → z8 = z9 := by
 intro e6 e7 e8 e9 e10 e11 e12 e13 e14 e15 e16 e17 e18 e19 e20 e21 e53 e54 u0 u1 u2 u3 u4 u5
 rw [u0] at e10
 rw [u1] at e14
 rw [u2] at e17
 rw [u4.1] at e53
 rw [u4.2] at e54
 subst_vars; grind
theorem moveKind_f11 {z0 z1 z2 z3 z4 z5 z6 z7 z8 z9 z10 z11 z12 z13 z14 z15 z16 z17 z18 z19 z20 z21 z53 z54 : Rat} : z6 = z0 * z0 → z7 = z1 * z1 → z8 = z6 + z7 → z9 = 1 → z10 = z8 - z9 → z11 = z2 * z2 → z12 = z3 * z3 → z13 = z11 + z12 → z14 = z13 - z9 → z15 = z0 * z2 → z16 = z1 * z3 → z17 = z15 + z16 → z18 = z0 * z3 → z19 = z1 * z2 → z20 = z18 - z19 → z21 = 0 → z53 = z0 - z9 → z54 = z1 - z21 → (z10 = 0) → (z14 = 0) → (z17 = 0) → (¬ (z20 < 0)) → (z53 = 0 ∧ z54 = 0) → (z4 = 0 ∧ z5 = 0) → z13 = z9 := by
 intro e6 e7 e8 e9 e10 e11 e12 e13 e14 e15 e16 e17 e18 e19 e20 e21 e53 e54 u0 u1 u2 u3 u4 u5
 rw [u0] at e10
 rw [u1] at e14
 rw [u2] at e17
 rw [u4.1] at e53
 rw [u4.2] at e54
 subst_vars; grind
theorem moveKind_f12 {z0 z1 z2 z3 z4 z5 z6 z7 z8 z9 z10 z11 z12 z13 z14 z15 z16 z17 z18 z19 z20 z21 z38 z39 z53 z54 : Rat} : z6 = z0 * z0 → z7 = z1 * z1 → z8 = z6 + z7 → z9 = 1 → z10 = z8 - z9 → z11 = z2 * z2 → z12 = z3 * z3 → z13 = z11 + z12 → z14 = z13 - z9 → z15 = z0 * z2 → z16 = z1 * z3 → z17 = z15 + z16 → z18 = z0 * z3 → z19 = z1 * z2 → z20 = z18 - z19 → z21 = 0 → z38 = z2 * z1 → z39 = z18 - z38 → z53 = z0 - z9 → z54 = z1 - z21 → (z10 = 0) → (z14 = 0) → (z17 = 0) → (¬ (z20 < 0)) → (z53 = 0 ∧ z54 = 0) → (z4 = 0 ∧ z5 = 0) → 0 < z39 := by
 intro e6 e7 e8 e9 e10 e11 e12 e13 e14 e15 e16 e17 e18 e19 e20 e21 e38 e39 e53 e54 u0 u1 u2 u3 u4 u5
 rw [e39, e38, e18]
 exact mk_det (a := z0) (b := z1) (c := z2) (d := z3) (by have := u0; rw [e10, e9, e8, e6, e7] at this; grind) (by have := u1; rw [e14, e9, e13, e11, e12] at this; grind) (by have := u2; rw [e17, e15, e16] at this; exact this) (by have := u3; rw [e20, e18, e19] at this; exact this)
theorem moveKind_f13 {z0 z1 z2 z3 z4 z5 z6 z7 z8 z9 z10 z11 z12 z13 z14 z15 z16 z17 z18 z19 z20 z21 z53 z54 : Rat} : z6 = z0 * z0 → z7 = z1 * z1 → z8 = z6 + z7 → z9 = 1 → z10 = z8 - z9 → z11 = z2 * z2 → z12 = z3 * z3 → z13 = z11 + z12 → z14 = z13 - z9 → z15 = z0 * z2 → z16 = z1 * z3 → z17 = z15 + z16 → z18 = z0 * z3 → z19 = z1 * z2 → z20 = z18 - z19 → z21 = 0 → z53 = z0 - z9 → z54 = z1 - z21 → (z10 = 0) → (z14 = 0) → (z17 = 0) → (¬ (z20 < 0)) → (z53 = 0 ∧ z54 = 0) → (z4 = 0 ∧ z5 = 0) → z0 = z9 := by
 intro e6 e7 e8 e9 e10 e11 e12 e13 e14 e15 e16 e17 e18 e19 e20 e21 e53 e54 u0 u1 u2 u3 u4 u5
 rw [u0] at e10
 rw [u1] at e14
 rw [u2] at e17
 rw [u4.1] at e53
 rw [u4.2] at e54
 subst_vars; grind
theorem moveKind_f14 {z0 z1 z2 z3 z4 z5 z6 z7 z8 z9 z10 z11 z12 z13 z14 z15 z16 z17 z18 z19 z20 z21 z22 z24 z26 z28 z53 z54 : Rat} : z6 = z0 * z0 → z7 = z1 * z1 → z8 = z6 + z7 → z9 = 1 → z10 = z8 - z9 → z11 = z2 * z2 → z12 = z3 * z3 → z13 = z11 + z12 → z14 = z13 - z9 → z15 = z0 * z2 → z16 = z1 * z3 → z17 = z15 + z16 → z18 = z0 * z3 → z19 = z1 * z2 → z20 = z18 - z19 → z21 = 0 → z22 = z0 * z21 → z24 = z2 * z21 → z26 = z22 + z24 → z28 = z26 + z4 → z53 = z0 - z9 → z54 = z1 - z21 → (z10 = 0) → (z14 = 0) → (z17 = 0) → (¬ (z20 < 0)) → (z53 = 0 ∧ z54 = 0) → (z4 = 0 ∧ z5 = 0) → z28 = 0 := by
 intro e6 e7 e8 e9 e10 e11 e12 e13 e14 e15 e16 e17 e18 e19 e20 e21 e22 e24 e26 e28 e53 e54 u0 u1 u2 u3 u4 u5
 rw [u0] at e10
 rw [u1] at e14
 rw [u2] at e17
 rw [u4.1] at e53
 rw [u4.2] at e54
 subst_vars; grind
theorem moveKind_f15 {z0 z1 z2 z3 z4 z5 z6 z7 z8 z9 z10 z11 z12 z13 z14 z15 z16 z17 z18 z19 z20 z21 z23 z25 z27 z29 z53 z54 : Rat} : z6 = z0 * z0 → z7 = z1 * z1 → z8 = z6 + z7 → z9 = 1 → z10 = z8 - z9 → z11 = z2 * z2 → z12 = z3 * z3 → z13 = z11 + z12 → z14 = z13 - z9 → z15 = z0 * z2 → z16 = z1 * z3 → z17 = z15 + z16 → z18 = z0 * z3 → z19 = z1 * z2 → z20 = z18 - z19 → z21 = 0 → z23 = z1 * z21 → z25 = z3 * z21 → z27 = z23 + z25 → z29 = z27 + z5 → z53 = z0 - z9 → z54 = z1 - z21 → (z10 = 0) → (z14 = 0) → (z17 = 0) → (¬ (z20 < 0)) → (z53 = 0 ∧ z54 = 0) → (z4 = 0 ∧ z5 = 0) → z29 = 0 := by
 intro e6 e7 e8 e9 e10 e11 e12 e13 e14 e15 e16 e17 e18 e19 e20 e21 e23 e25 e27 e29 e53 e54 u0 u1 u2 u3 u4 u5
 rw [u0] at e10
 rw [u1] at e14
 rw [u2] at e17
 rw [u4.1] at e53
 rw [u4.2] at e54
 subst_vars; grind
theorem moveKind_f16 {z0 z1 z2 z3 z4 z5 z6 z7 z8 z9 z10 z11 z12 z13 z14 z15 z16 z17 z18 z19 z20 z21 z53 z54 : Rat} : z6 = z0 * z0 → z7 = z1 * z1 → z8 = z6 + z7 → z9 = 1 → z10 = z8 - z9 → z11 = z2 * z2 → z12 = z3 * z3 → z13 = z11 + z12 → z14 = z13 - z9 → z15 = z0 * z2 → z16 = z1 * z3 → z17 = z15 + z16 → z18 = z0 * z3 → z19 = z1 * z2 → z20 = z18 - z19 → z21 = 0 → z53 = z0 - z9 → z54 = z1 - z21 → (z10 = 0) → (z14 = 0) → (z17 = 0) → (¬ (z20 < 0)) → (z53 = 0 ∧ z54 = 0) → (¬ (z4 = 0 ∧ z5 = 0)) → z8 = z9 := by
 intro e6 e7 e8 e9 e10 e11 e12 e13 e14 e15 e16 e17 e18 e19 e20 e21 e53 e54 u0 u1 u2 u3 u4 u5
 rw [u0] at e10
 rw [u1] at e14
 rw [u2] at e17
 rw [u4.1] at e53
 rw [u4.2] at e54
 subst_vars; grind
theorem moveKind_f17 {z0 z1 z2 z3 z4 z5 z6 z7 z8 z9 z10 z11 z12 z13 z14 z15 z16 z17 z18 z19 z20 z21 z53 z54 : Rat} : z6 = z0 * z0 → z7 = z1 * z1 → z8 = z6 + z7 → z9 = 1 → z10 = z8 - z9 → z11 = z2 * z2 → z12 = z3 * z3 → z13 = z11 + z12 → z14 = z13 - z9 → z15 = z0 * z2 → z16 = z1 * z3 → z17 = z15 + z16 → z18 = z0 * z3 → z19 = z1 * z2 → z20 = z18 - z19 → z21 = 0 → z53 = z0 - z9 → z54 = z1 - z21 → (z10 = 0) → (z14 = 0) → (z17 = 0) → (¬ (z20 < 0)) → (z53 = 0 ∧ z54 = 0) → (¬ (z4 = 0 ∧ z5 = 0)) → z13 = z9 := by
 intro e6 e7 e8 e9 e10 e11 e12 e13 e14 e15 e16 e17 e18 e19 e20 e21 e53 e54 u0 u1 u2 u3 u4 u5
 rw [u0] at e10
 rw [u1] at e14
 rw [u2] at e17
 rw [u4.1] at e53
 rw [u4.2] at e54
 subst_vars; grind
theorem moveKind_f18 {z0 z1 z2 z3 z4 z5 z6 z7 z8 z9 z10 z11 z12 z13 z14 z15 z16 z17 z18 z19 z20 z21 z38 z39 z53 z54 : Rat} : z6 = z0 * z0 → z7 = z1 * z1 → z8 = z6 + z7 → z9 = 1 → z10 = z8 - z9 → z11 = z2 * z2 → z12 = z3 * z3 → z13 = z11 + z12 → z14 = z13 - z9 → z15 = z0 * z2 → z16 = z1 * z3 → z17 = z15 + z16 → z18 = z0 * z3 → z19 = z1 * z2 → z20 = z18 - z19 → z21 = 0 → z38 = z2 * z1 → z39 = z18 - z38 → z53 = z0 - z9 → z54 = z1 - z21 → (z10 = 0) → (z14 = 0) → (z17 = 0) → (¬ (z20 < 0)) → (z53 = 0 ∧ z54 = 0) → (¬ (z4 = 0 ∧ z5 = 0)) → 0 < z39 := by
 intro e6 e7 e8 e9 e10 e11 e12 e13 e14 e15 e16 e17 e18 e19 e20 e21 e38 e39 e53 e54 u0 u1 u2 u3 u4 u5
 rw [e39, e38, e18]
 exact mk_det (a := z0) (b := z1) (c := z2) (d := z3) (by have := u0; rw [e10, e9, e8, e6, e7] at this; grind) (by have := u1; rw [e14, e9, e13, e11, e12] at this; grind) (by have := u2; rw [e17, e15, e16] at this; exact this) (by have := u3; rw [e20, e18, e19] at this; exact this)
theorem moveKind_f19 {z0 z1 z2 z3 z4 z5 z6 z7 z8 z9 z10 z11 z12 z13 z14 z15 z16 z17 z18 z19 z20 z21 z53 z54 : Rat} : z6 = z0 * z0 → z7 = z1 * z1 → z8 = z6 + z7 → z9 = 1 → z10 = z8 - z9 → z11 = z2 * z2 → z12 = z3 * z3 → z13 = z11 + z12 → z14 = z13 - z9 → z15 = z0 * z2 → z16 = z1 * z3 → z17 = z15 + z16 → z18 = z0 * z3 → z19 = z1 * z2 → z20 = z18 - z19 → z21 = 0 → z53 = z0 - z9 → z54 = z1 - z21 → (z10 = 0) → (z14 = 0) → (z17 = 0) → (¬ (z20 < 0)) → (z53 = 0 ∧ z54 = 0) → (¬ (z4 = 0 ∧ z5 = 0)) → z0 = z9 := by
 intro e6 e7 e8 e9 e10 e11 e12 e13 e14 e15 e16 e17 e18 e19 e20 e21 e53 e54 u0 u1 u2 u3 u4 u5
 rw [u0] at e10
 rw [u1] at e14
 rw [u2] at e17
 rw [u4.1] at e53
 rw [u4.2] at e54
 subst_vars; grind
theorem moveKind_f20 {z0 z1 z2 z3 z4 z5 z6 z7 z8 z9 z10 z11 z12 z13 z14 z15 z16 z17 z18 z19 z20 z21 z22 z23 z24 z25 z26 z27 z28 z29 z53 z54 : Rat} : z6 = z0 * z0 → z7 = z1 * z1 → z8 = z6 + z7 → z9 = 1 → z10 = z8 - z9 → z11 = z2 * z2 → z12 = z3 * z3 → z13 = z11 + z12 → z14 = z13 - z9 → z15 = z0 * z2 → z16 = z1 * z3 → z17 = z15 + z16 → z18 = z0 * z3 → z19 = z1 * z2 → z20 = z18 - z19 → z21 = 0 → z22 = z0 * z21 → z23 = z1 * z21 → z24 = z2 * z21 → z25 = z3 * z21 → z26 = z22 + z24 → z27 = z23 + z25 → z28 = z26 + z4 → z29 = z27 + z5 → z53 = z0 - z9 → z54 = z1 - z21 → (z10 = 0) → (z14 = 0) → (z17 = 0) → (¬ (z20 < 0)) → (z53 = 0 ∧ z54 = 0) → (¬ (z4 = 0 ∧ z5 = 0)) → (z28 = 0) → ¬ (z29 = 0) := by
 intro e6 e7 e8 e9 e10 e11 e12 e13 e14 e15 e16 e17 e18 e19 e20 e21 e22 e23 e24 e25 e26 e27 e28 e29 e53 e54 u0 u1 u2 u3 u4 u5 u6
 rw [u0] at e10
 rw [u1] at e14
 rw [u2] at e17
 rw [u4.1] at e53
 rw [u4.2] at e54
 rw [u6] at e28
 subst_vars; grind
theorem moveKind_f21 {z0 z1 z2 z3 z6 z7 z8 z9 z10 z11 z12 z13 z14 z15 z16 z17 z18 z19 z20 z21 z53 z54 : Rat} : z6 = z0 * z0 → z7 = z1 * z1 → z8 = z6 + z7 → z9 = 1 → z10 = z8 - z9 → z11 = z2 * z2 → z12 = z3 * z3 → z13 = z11 + z12 → z14 = z13 - z9 → z15 = z0 * z2 → z16 = z1 * z3 → z17 = z15 + z16 → z18 = z0 * z3 → z19 = z1 * z2 → z20 = z18 - z19 → z21 = 0 → z53 = z0 - z9 → z54 = z1 - z21 → (z10 = 0) → (z14 = 0) → (z17 = 0) → (¬ (z20 < 0)) → (¬ (z53 = 0 ∧ z54 = 0)) → z8 = z9 := by
 intro e6 e7 e8 e9 e10 e11 e12 e13 e14 e15 e16 e17 e18 e19 e20 e21 e53 e54 u0 u1 u2 u3 u4
 rw [u0] at e10
 rw [u1] at e14
 rw [u2] at e17
 subst_vars; grind
theorem moveKind_f22 {z0 z1 z2 z3 z6 z7 z8 z9 z10 z11 z12 z13 z14 z15 z16 z17 z18 z19 z20 z21 z53 z54 : Rat} : z6 = z0 * z0 → z7 = z1 * z1 → z8 = z6 + z7 → z9 = 1 → z10 = z8 - z9 → z11 = z2 * z2 → z12 = z3 * z3 → z13 = z11 + z12 → z14 = z13 - z9 → z15 = z0 * z2 → z16 = z1 * z3 → z17 = z15 + z16 → z18 = z0 * z3 → z19 = z1 * z2 → z20 = z18 - z19 → z21 = 0 → z53 = z0 - z9 → z54 = z1 - z21 → (z10 = 0) → (z14 = 0) → (z17 = 0) → (¬ (z20 < 0)) → (¬ (z53 = 0 ∧ z54 = 0)) → z13 = z9 := by
 intro e6 e7 e8 e9 e10 e11 e12 e13 e14 e15 e16 e17 e18 e19 e20 e21 e53 e54 u0 u1 u2 u3 u4
 rw [u0] at e10
 rw [u1] at e14
 rw [u2] at e17
 subst_vars; grind
theorem moveKind_f23 {z0 z1 z2 z3 z6 z7 z8 z9 z10 z11 z12 z13 z14 z15 z16 z17 z18 z19 z20 z21 z38 z39 z53 z54 : Rat} : z6 = z0 * z0 → z7 = z1 * z1 → z8 = z6 + z7 → z9 = 1 → z10 = z8 - z9 → z11 = z2 * z2 → z12 = z3 * z3 → z13 = z11 + z12 → z14 = z13 - z9 → z15 = z0 * z2 → z16 = z1 * z3 → z17 = z15 + z16 → z18 = z0 * z3 → z19 = z1 * z2 → z20 = z18 - z19 → z21 = 0 → z38 = z2 * z1 → z39 = z18 - z38 → z53 = z0 - z9 → z54 = z1 - z21 → (z10 = 0) → (z14 = 0) → (z17 = 0) → (¬ (z20 < 0)) → (¬ (z53 = 0 ∧ z54 = 0)) → 0 < z39 := by
 intro e6 e7 e8 e9 e10 e11 e12 e13 e14 e15 e16 e17 e18 e19 e20 e21 e38 e39 e53 e54 u0 u1 u2 u3 u4
 rw [e39, e38, e18]
 exact mk_det (a := z0) (b := z1) (c := z2) (d := z3) (by have := u0; rw [e10, e9, e8, e6, e7] at this; grind) (by have := u1; rw [e14, e9, e13, e11, e12] at this; grind) (by have := u2; rw [e17, e15, e16] at this; exact this) (by have := u3; rw [e20, e18, e19] at this; exact this)
theorem moveKind_f24 {z0 z1 z2 z3 z6 z7 z8 z9 z10 z11 z12 z13 z14 z15 z16 z17 z18 z19 z20 z21 z53 z54 : Rat} : z6 = z0 * z0 → z7 = z1 * z1 → z8 = z6 + z7 → z9 = 1 → z10 = z8 - z9 → z11 = z2 * z2 → z12 = z3 * z3 → z13 = z11 + z12 → z14 = z13 - z9 → z15 = z0 * z2 → z16 = z1 * z3 → z17 = z15 + z16 → z18 = z0 * z3 → z19 = z1 * z2 → z20 = z18 - z19 → z21 = 0 → z53 = z0 - z9 → z54 = z1 - z21 → (z10 = 0) → (z14 = 0) → (z17 = 0) → (¬ (z20 < 0)) → (¬ (z53 = 0 ∧ z54 = 0)) → ¬ (z0 = z9) := by
 intro e6 e7 e8 e9 e10 e11 e12 e13 e14 e15 e16 e17 e18 e19 e20 e21 e53 e54 u0 u1 u2 u3 u4
 rw [u0] at e10
 rw [u1] at e14
 rw [u2] at e17
 subst_vars; grind
theorem moveKind_f25 {z0 z1 z2 z3 z6 z7 z8 z9 z10 z11 z12 z13 z14 z15 z16 z17 : Rat} : z6 = z0 * z0 → z7 = z1 * z1 → z8 = z6 + z7 → z9 = 1 → z10 = z8 - z9 → z11 = z2 * z2 → z12 = z3 * z3 → z13 = z11 + z12 → z14 = z13 - z9 → z15 = z0 * z2 → z16 = z1 * z3 → z17 = z15 + z16 → (z10 = 0) → (z14 = 0) → (¬ (z17 = 0)) → z8 = z9 := by
 intro e6 e7 e8 e9 e10 e11 e12 e13 e14 e15 e16 e17 u0 u1 u2
 rw [u0] at e10
 rw [u1] at e14
 subst_vars; grind
theorem moveKind_f26 {z0 z1 z2 z3 z6 z7 z8 z9 z10 z11 z12 z13 z14 z15 z16 z17 : Rat} : z6 = z0 * z0 → z7 = z1 * z1 → z8 = z6 + z7 → z9 = 1 → z10 = z8 - z9 → z11 = z2 * z2 → z12 = z3 * z3 → z13 = z11 + z12 → z14 = z13 - z9 → z15 = z0 * z2 → z16 = z1 * z3 → z17 = z15 + z16 → (z10 = 0) → (z14 = 0) → (¬ (z17 = 0)) → z13 = z9 := by
 intro e6 e7 e8 e9 e10 e11 e12 e13 e14 e15 e16 e17 u0 u1 u2
 rw [u0] at e10
 rw [u1] at e14
 subst_vars; grind
theorem moveKind_f27 {z0 z1 z2 z3 z6 z7 z8 z9 z10 z11 z12 z13 z14 : Rat} : z6 = z0 * z0 → z7 = z1 * z1 → z8 = z6 + z7 → z9 = 1 → z10 = z8 - z9 → z11 = z2 * z2 → z12 = z3 * z3 → z13 = z11 + z12 → z14 = z13 - z9 → (z10 = 0) → (¬ (z14 = 0)) → z8 = z9 := by
 intro e6 e7 e8 e9 e10 e11 e12 e13 e14 u0 u1
 rw [u0] at e10
 subst_vars; grind
theorem moveKind_f28 {z0 z1 z2 z3 z6 z7 z8 z9 z10 z11 z12 z13 z14 : Rat} : z6 = z0 * z0 → z7 = z1 * z1 → z8 = z6 + z7 → z9 = 1 → z10 = z8 - z9 → z11 = z2 * z2 → z12 = z3 * z3 → z13 = z11 + z12 → z14 = z13 - z9 → (z10 = 0) → (¬ (z14 = 0)) → ¬ (z13 = z9) := by
 intro e6 e7 e8 e9 e10 e11 e12 e13 e14 u0 u1
 rw [u0] at e10
 subst_vars; grind
theorem moveKind_f29 {z0 z1 z6 z7 z8 z9 z10 : Rat} : z6 = z0 * z0 → z7 = z1 * z1 → z8 = z6 + z7 → z9 = 1 → z10 = z8 - z9 → (¬ (z10 = 0)) → ¬ (z8 = z9) := by
 intro e6 e7 e8 e9 e10 u0
 subst_vars; grind
theorem moveKind_r0 : (callB (sx Tryz.prog moveKind_N [(0, 10, 0, 1), (0, 14, 0, 1), (0, 17, 0, 1), (1, 20, 0, 1), (6, 36, 37, 1), (3, 8, 9, 1), (3, 13, 9, 1), (2, 39, 0, 0), (6, 51, 52, 1)] [(208, [.inr (3, 2, 0, 0, 0)]), (219, [])] moveKind_L moveKind_C moveKind_Z (prQ [50])) 7 13 [(false, [(true, [.inr (2, 0, 0, 0, 0), .inr (2, 1, 0, 0, 0), .inr (2, 2, 0, 0, 0), .inr (2, 3, 0, 0, 0), .inr (2, 4, 0, 0, 0), .inr (2, 5, 0, 0, 0)])])] [] 0).map (·.1) = some (kB true) := by kernel_rfl
theorem moveKind_r1 : (callB (sx Tryz.prog moveKind_N [(0, 10, 0, 1), (0, 14, 0, 1), (0, 17, 0, 1), (1, 20, 0, 1), (6, 36, 37, 0), (3, 8, 9, 1), (3, 13, 9, 1), (2, 39, 0, 0), (6, 51, 52, 0)] [(208, [.inr (3, 2, 0, 0, 0)]), (219, [])] moveKind_L moveKind_C moveKind_Z (prQ [50])) 7 13 [(false, [(true, [.inr (2, 0, 0, 0, 0), .inr (2, 1, 0, 0, 0), .inr (2, 2, 0, 0, 0), .inr (2, 3, 0, 0, 0), .inr (2, 4, 0, 0, 0), .inr (2, 5, 0, 0, 0)])])] [] 0).map (·.1) = some (kB true) := by kernel_rfl
theorem moveKind_r2 : (callB (sx Tryz.prog moveKind_N [(0, 10, 0, 1), (0, 14, 0, 1), (0, 17, 0, 1), (1, 20, 0, 0), (6, 53, 54, 1), (6, 4, 5, 1), (3, 8, 9, 1), (3, 13, 9, 1), (2, 39, 0, 1), (3, 0, 9, 1), (0, 28, 0, 1), (0, 29, 0, 1)] [(208, [.inr (3, 2, 0, 0, 0)]), (219, [])] moveKind_L moveKind_C moveKind_Z (prQ [50])) 6 13 [(false, [(true, [.inr (2, 0, 0, 0, 0), .inr (2, 1, 0, 0, 0), .inr (2, 2, 0, 0, 0), .inr (2, 3, 0, 0, 0), .inr (2, 4, 0, 0, 0), .inr (2, 5, 0, 0, 0)])])] [] 0).map (·.1) = some (kB true) := by kernel_rfl
theorem moveKind_r3 : (callB (sx Tryz.prog moveKind_N [(0, 10, 0, 1), (0, 14, 0, 1), (0, 17, 0, 1), (1, 20, 0, 0), (6, 53, 54, 1), (6, 4, 5, 0), (3, 8, 9, 1), (3, 13, 9, 1), (2, 39, 0, 1), (3, 0, 9, 1), (0, 28, 0, 1), (0, 29, 0, 0)] [(208, [.inr (3, 2, 0, 0, 0)]), (219, [])] moveKind_L moveKind_C moveKind_Z (prQ [50])) 6 13 [(false, [(true, [.inr (2, 0, 0, 0, 0), .inr (2, 1, 0, 0, 0), .inr (2, 2, 0, 0, 0), .inr (2, 3, 0, 0, 0), .inr (2, 4, 0, 0, 0), .inr (2, 5, 0, 0, 0)])])] [] 0).map (·.1) = some (kB true) := by kernel_rfl
theorem moveKind_r4 : (callB (sx Tryz.prog moveKind_N [(0, 10, 0, 1), (0, 14, 0, 1), (0, 17, 0, 1), (1, 20, 0, 0), (6, 53, 54, 1), (6, 4, 5, 0), (3, 8, 9, 1), (3, 13, 9, 1), (2, 39, 0, 1), (3, 0, 9, 1), (0, 28, 0, 0)] [(208, [.inr (3, 2, 0, 0, 0)]), (219, [])] moveKind_L moveKind_C moveKind_Z (prQ [50])) 6 13 [(false, [(true, [.inr (2, 0, 0, 0, 0), .inr (2, 1, 0, 0, 0), .inr (2, 2, 0, 0, 0), .inr (2, 3, 0, 0, 0), .inr (2, 4, 0, 0, 0), .inr (2, 5, 0, 0, 0)])])] [] 0).map (·.1) = some (kB true) := by kernel_rfl
theorem moveKind_r5 : (callB (sx Tryz.prog moveKind_N [(0, 10, 0, 1), (0, 14, 0, 1), (0, 17, 0, 1), (1, 20, 0, 0), (6, 53, 54, 0), (3, 8, 9, 1), (3, 13, 9, 1), (2, 39, 0, 1), (3, 0, 9, 0)] [(208, [.inr (3, 2, 0, 0, 0)]), (219, [])] moveKind_L moveKind_C moveKind_Z (prQ [50])) 6 13 [(false, [(true, [.inr (2, 0, 0, 0, 0), .inr (2, 1, 0, 0, 0), .inr (2, 2, 0, 0, 0), .inr (2, 3, 0, 0, 0), .inr (2, 4, 0, 0, 0), .inr (2, 5, 0, 0, 0)])])] [] 0).map (·.1) = some (kB true) := by kernel_rfl
theorem moveKind_r6 : (callB (sx Tryz.prog moveKind_N [(0, 10, 0, 1), (0, 14, 0, 1), (0, 17, 0, 0), (3, 8, 9, 1), (3, 13, 9, 1)] [(208, [.inr (3, 2, 0, 0, 0)]), (219, [])] moveKind_L moveKind_C moveKind_Z (prQ [50])) 6 13 [(false, [(true, [.inr (2, 0, 0, 0, 0), .inr (2, 1, 0, 0, 0), .inr (2, 2, 0, 0, 0), .inr (2, 3, 0, 0, 0), .inr (2, 4, 0, 0, 0), .inr (2, 5, 0, 0, 0)])])] [] 0).map (·.1) = some (kB true) := by kernel_rfl
theorem moveKind_r7 : (callB (sx Tryz.prog moveKind_N [(0, 10, 0, 1), (0, 14, 0, 0), (3, 8, 9, 1), (3, 13, 9, 0)] [(208, [.inr (3, 2, 0, 0, 0)]), (219, [])] moveKind_L moveKind_C moveKind_Z (prQ [50])) 6 13 [(false, [(true, [.inr (2, 0, 0, 0, 0), .inr (2, 1, 0, 0, 0), .inr (2, 2, 0, 0, 0), .inr (2, 3, 0, 0, 0), .inr (2, 4, 0, 0, 0), .inr (2, 5, 0, 0, 0)])])] [] 0).map (·.1) = some (kB true) := by kernel_rfl
theorem moveKind_r8 : (callB (sx Tryz.prog moveKind_N [(0, 10, 0, 0), (3, 8, 9, 0)] [(208, [.inr (3, 2, 0, 0, 0)]), (219, [])] moveKind_L moveKind_C moveKind_Z (prQ [50])) 6 13 [(false, [(true, [.inr (2, 0, 0, 0, 0), .inr (2, 1, 0, 0, 0), .inr (2, 2, 0, 0, 0), .inr (2, 3, 0, 0, 0), .inr (2, 4, 0, 0, 0), .inr (2, 5, 0, 0, 0)])])] [] 0).map (·.1) = some (kB true) := by kernel_rfl
theorem moveKind_An {a b : Prop} (x : a) (y : b) : a ∧ b := ⟨x, y⟩
theorem moveKind_leaf {H : List (Nat × Nat × Nat × Nat)} {K : List (FuncId × List AC)} {k : Nat} {q : Nat → Rat} {σ : Nat → ByteArray} {args : List AV} {vs : List Value} {w : World} (hr : (callB (sx Tryz.prog moveKind_N H K moveKind_L moveKind_C moveKind_Z (prQ [50])) k 13 args [] 0).map (·.1) = some (kB true)) (hσ : ∀ j, (σ j).size ≤ 1048576) (hq : ∀ (a : Nat) nd, moveKind_N[a]? = some nd → q a = valN σ q nd) (h0 : ∀ a, moveKind_N.length ≤ a → q a = 0) (hH : hAll q H) (hp : PreS w) (hA : ∀ K, A2 (avOn (cOn (evS q σ) K (fun _ => none) w)) args vs) : Calls Tryz.prog 13 vs.toArray w fun e w' => Below w.heap.size w w' ∧ e = .returned (.bool true) :=
 run_toldQ' k (hy_ofW hσ moveKind_wf moveKind_sz moveKind_lt moveKind_cn hq h0 hH) (by simp [closed_moved]) (by kernel_rfl) hr hp (hA K)
theorem moveKind_walk {w : World} {aa ab ac ad ae af : ByteArray} (saa : aa.size ≤ 1048576) (sab : ab.size ≤ 1048576) (sac : ac.size ≤ 1048576) (sad : ad.size ≤ 1048576) (sae : ae.size ≤ 1048576) (saf : af.size ≤ 1048576) (tab : Tab w) (mx : MaxL w) :
  Calls Tryz.prog 13 #[.agg #[.string aa, .string ab, .string ac, .string ad, .string ae, .string af]] w fun e w' => Below w.heap.size w w' ∧ e = .returned (.bool true) := by
 have hσ : ∀ j, (sgOf [aa, ab, ac, ad, ae, af] j).size ≤ 1048576 := sgOf_size (by simp [saa, sab, sac, sad, sae, saf])
 obtain ⟨q, hq, h0⟩ := nodes_exist (sgOf [aa, ab, ac, ad, ae, af]) moveKind_N moveKind_wf
 have hA : ∀ K, A2 (avOn (cOn (evS q (sgOf [aa, ab, ac, ad, ae, af])) K (fun _ => none) w)) [(false, [(true, [.inr (2, 0, 0, 0, 0), .inr (2, 1, 0, 0, 0), .inr (2, 2, 0, 0, 0), .inr (2, 3, 0, 0, 0), .inr (2, 4, 0, 0, 0), .inr (2, 5, 0, 0, 0)])])] [.agg #[.string aa, .string ab, .string ac, .string ad, .string ae, .string af]] := fun K => ⟨⟨⟨[.string aa, .string ab, .string ac, .string ad, .string ae, .string af], rfl, rfl, rfl, rfl, rfl, rfl, rfl, trivial⟩, trivial⟩, trivial⟩
 have E6 : q 6 = q 0 * q 0 := hq 6 _ rfl
 have E7 : q 7 = q 1 * q 1 := hq 7 _ rfl
 have E8 : q 8 = q 6 + q 7 := hq 8 _ rfl
 have E9 : q 9 = 1 := (hq 9 _ rfl).trans moveKind_c9
 have E10 : q 10 = q 8 - q 9 := hq 10 _ rfl
 have E11 : q 11 = q 2 * q 2 := hq 11 _ rfl
 have E12 : q 12 = q 3 * q 3 := hq 12 _ rfl
 have E13 : q 13 = q 11 + q 12 := hq 13 _ rfl
 have E14 : q 14 = q 13 - q 9 := hq 14 _ rfl
 have E15 : q 15 = q 0 * q 2 := hq 15 _ rfl
 have E16 : q 16 = q 1 * q 3 := hq 16 _ rfl
 have E17 : q 17 = q 15 + q 16 := hq 17 _ rfl
 have E18 : q 18 = q 0 * q 3 := hq 18 _ rfl
 have E19 : q 19 = q 1 * q 2 := hq 19 _ rfl
 have E20 : q 20 = q 18 - q 19 := hq 20 _ rfl
 have E21 : q 21 = 0 := (hq 21 _ rfl).trans moveKind_c21
 have E22 : q 22 = q 0 * q 21 := hq 22 _ rfl
 have E23 : q 23 = q 1 * q 21 := hq 23 _ rfl
 have E24 : q 24 = q 2 * q 21 := hq 24 _ rfl
 have E25 : q 25 = q 3 * q 21 := hq 25 _ rfl
 have E26 : q 26 = q 22 + q 24 := hq 26 _ rfl
 have E27 : q 27 = q 23 + q 25 := hq 27 _ rfl
 have E28 : q 28 = q 26 + q 4 := hq 28 _ rfl
 have E29 : q 29 = q 27 + q 5 := hq 29 _ rfl
 have E30 : q 30 = q 0 * q 28 := hq 30 _ rfl
 have E31 : q 31 = q 1 * q 28 := hq 31 _ rfl
 have E32 : q 32 = q 2 * q 29 := hq 32 _ rfl
 have E33 : q 33 = q 3 * q 29 := hq 33 _ rfl
 have E34 : q 34 = q 30 + q 32 := hq 34 _ rfl
 have E35 : q 35 = q 31 + q 33 := hq 35 _ rfl
 have E36 : q 36 = q 34 + q 4 := hq 36 _ rfl
 have E37 : q 37 = q 35 + q 5 := hq 37 _ rfl
 have E38 : q 38 = q 2 * q 1 := hq 38 _ rfl
 have E39 : q 39 = q 18 - q 38 := hq 39 _ rfl
 have E40 : q 40 = (1 / 2) := (hq 40 _ rfl).trans moveKind_c40
 have E41 : q 41 = q 28 * q 40 := hq 41 _ rfl
 have E42 : q 42 = q 29 * q 40 := hq 42 _ rfl
 have E43 : q 43 = q 0 * q 41 := hq 43 _ rfl
 have E44 : q 44 = q 2 * q 42 := hq 44 _ rfl
 have E45 : q 45 = q 43 + q 44 := hq 45 _ rfl
 have E46 : q 46 = q 45 + q 4 := hq 46 _ rfl
 have E47 : q 47 = q 1 * q 41 := hq 47 _ rfl
 have E48 : q 48 = q 3 * q 42 := hq 48 _ rfl
 have E49 : q 49 = q 47 + q 48 := hq 49 _ rfl
 have E50 : q 50 = q 49 + q 5 := hq 50 _ rfl
 have E51 : q 51 = q 46 - q 41 := hq 51 _ rfl
 have E52 : q 52 = q 50 - q 42 := hq 52 _ rfl
 have E53 : q 53 = q 0 - q 9 := hq 53 _ rfl
 have E54 : q 54 = q 1 - q 21 := hq 54 _ rfl
 by_cases b10 : q 10 = 0
 ·
  by_cases b14 : q 14 = 0
  ·
   by_cases b17 : q 17 = 0
   ·
    by_cases a_1_20_0 : q 20 < 0
    ·
     by_cases a_6_36_37 : q 36 = 0 ∧ q 37 = 0
     ·
      have a_3_8_9 : q 8 = q 9 := moveKind_f1 E6 E7 E8 E9 E10 E11 E12 E13 E14 E15 E16 E17 E18 E19 E20 E21 E22 E23 E24 E25 E26 E27 E28 E29 E30 E31 E32 E33 E34 E35 E36 E37 b10 b14 b17 a_1_20_0 a_6_36_37
      have a_3_13_9 : q 13 = q 9 := moveKind_f2 E6 E7 E8 E9 E10 E11 E12 E13 E14 E15 E16 E17 E18 E19 E20 E21 E22 E23 E24 E25 E26 E27 E28 E29 E30 E31 E32 E33 E34 E35 E36 E37 b10 b14 b17 a_1_20_0 a_6_36_37
      have a_2_39_0 : ¬ (0 < q 39) := moveKind_f3 E6 E7 E8 E9 E10 E11 E12 E13 E14 E15 E16 E17 E18 E19 E20 E21 E22 E23 E24 E25 E26 E27 E28 E29 E30 E31 E32 E33 E34 E35 E36 E37 E38 E39 b10 b14 b17 a_1_20_0 a_6_36_37
      have a_6_51_52 : q 51 = 0 ∧ q 52 = 0 := And.intro (moveKind_f4 E6 E7 E8 E9 E10 E11 E12 E13 E14 E15 E16 E17 E18 E19 E20 E21 E22 E23 E24 E25 E26 E27 E28 E29 E30 E31 E32 E33 E34 E35 E36 E37 E40 E41 E42 E43 E44 E45 E46 E51 b10 b14 b17 a_1_20_0 a_6_36_37) (moveKind_f5 E6 E7 E8 E9 E10 E11 E12 E13 E14 E15 E16 E17 E18 E19 E20 E21 E22 E23 E24 E25 E26 E27 E28 E29 E30 E31 E32 E33 E34 E35 E36 E37 E40 E41 E42 E47 E48 E49 E50 E52 b10 b14 b17 a_1_20_0 a_6_36_37)
      exact moveKind_leaf moveKind_r0 hσ hq h0 (moveKind_An (hT b10) (moveKind_An (hT b14) (moveKind_An (hT b17) (moveKind_An (hT a_1_20_0) (moveKind_An (hT a_6_36_37) (moveKind_An (hT a_3_8_9) (moveKind_An (hT a_3_13_9) (moveKind_An (hF a_2_39_0) (moveKind_An (hT a_6_51_52) trivial))))))))) ⟨tab, mx⟩ hA
     ·
      have a_3_8_9 : q 8 = q 9 := moveKind_f6 E6 E7 E8 E9 E10 E11 E12 E13 E14 E15 E16 E17 E18 E19 E20 E21 E22 E23 E24 E25 E26 E27 E28 E29 E30 E31 E32 E33 E34 E35 E36 E37 b10 b14 b17 a_1_20_0 a_6_36_37
      have a_3_13_9 : q 13 = q 9 := moveKind_f7 E6 E7 E8 E9 E10 E11 E12 E13 E14 E15 E16 E17 E18 E19 E20 E21 E22 E23 E24 E25 E26 E27 E28 E29 E30 E31 E32 E33 E34 E35 E36 E37 b10 b14 b17 a_1_20_0 a_6_36_37
      have a_2_39_0 : ¬ (0 < q 39) := moveKind_f8 E6 E7 E8 E9 E10 E11 E12 E13 E14 E15 E16 E17 E18 E19 E20 E21 E22 E23 E24 E25 E26 E27 E28 E29 E30 E31 E32 E33 E34 E35 E36 E37 E38 E39 b10 b14 b17 a_1_20_0 a_6_36_37
      have a_6_51_52 : ¬ (q 51 = 0 ∧ q 52 = 0) := moveKind_f9 E6 E7 E8 E9 E10 E11 E12 E13 E14 E15 E16 E17 E18 E19 E20 E21 E22 E23 E24 E25 E26 E27 E28 E29 E30 E31 E32 E33 E34 E35 E36 E37 E40 E41 E42 E43 E44 E45 E46 E47 E48 E49 E50 E51 E52 b10 b14 b17 a_1_20_0 a_6_36_37
      exact moveKind_leaf moveKind_r1 hσ hq h0 (moveKind_An (hT b10) (moveKind_An (hT b14) (moveKind_An (hT b17) (moveKind_An (hT a_1_20_0) (moveKind_An (hF a_6_36_37) (moveKind_An (hT a_3_8_9) (moveKind_An (hT a_3_13_9) (moveKind_An (hF a_2_39_0) (moveKind_An (hF a_6_51_52) trivial))))))))) ⟨tab, mx⟩ hA
    ·
     by_cases a_6_53_54 : q 53 = 0 ∧ q 54 = 0
     ·
      by_cases a_6_4_5 : q 4 = 0 ∧ q 5 = 0
      ·
       have a_3_8_9 : q 8 = q 9 := moveKind_f10 E6 E7 E8 E9 E10 E11 E12 E13 E14 E15 E16 E17 E18 E19 E20 E21 E53 E54 b10 b14 b17 a_1_20_0 a_6_53_54 a_6_4_5
       have a_3_13_9 : q 13 = q 9 := moveKind_f11 E6 E7 E8 E9 E10 E11 E12 E13 E14 E15 E16 E17 E18 E19 E20 E21 E53 E54 b10 b14 b17 a_1_20_0 a_6_53_54 a_6_4_5
       have a_2_39_0 : 0 < q 39 := moveKind_f12 E6 E7 E8 E9 E10 E11 E12 E13 E14 E15 E16 E17 E18 E19 E20 E21 E38 E39 E53 E54 b10 b14 b17 a_1_20_0 a_6_53_54 a_6_4_5
       have a_3_0_9 : q 0 = q 9 := moveKind_f13 E6 E7 E8 E9 E10 E11 E12 E13 E14 E15 E16 E17 E18 E19 E20 E21 E53 E54 b10 b14 b17 a_1_20_0 a_6_53_54 a_6_4_5
       have b28 : q 28 = 0 := moveKind_f14 E6 E7 E8 E9 E10 E11 E12 E13 E14 E15 E16 E17 E18 E19 E20 E21 E22 E24 E26 E28 E53 E54 b10 b14 b17 a_1_20_0 a_6_53_54 a_6_4_5
       have b29 : q 29 = 0 := moveKind_f15 E6 E7 E8 E9 E10 E11 E12 E13 E14 E15 E16 E17 E18 E19 E20 E21 E23 E25 E27 E29 E53 E54 b10 b14 b17 a_1_20_0 a_6_53_54 a_6_4_5
       exact moveKind_leaf moveKind_r2 hσ hq h0 (moveKind_An (hT b10) (moveKind_An (hT b14) (moveKind_An (hT b17) (moveKind_An (hF a_1_20_0) (moveKind_An (hT a_6_53_54) (moveKind_An (hT a_6_4_5) (moveKind_An (hT a_3_8_9) (moveKind_An (hT a_3_13_9) (moveKind_An (hT a_2_39_0) (moveKind_An (hT a_3_0_9) (moveKind_An (hT b28) (moveKind_An (hT b29) trivial)))))))))))) ⟨tab, mx⟩ hA
      ·
       have a_3_8_9 : q 8 = q 9 := moveKind_f16 E6 E7 E8 E9 E10 E11 E12 E13 E14 E15 E16 E17 E18 E19 E20 E21 E53 E54 b10 b14 b17 a_1_20_0 a_6_53_54 a_6_4_5
       have a_3_13_9 : q 13 = q 9 := moveKind_f17 E6 E7 E8 E9 E10 E11 E12 E13 E14 E15 E16 E17 E18 E19 E20 E21 E53 E54 b10 b14 b17 a_1_20_0 a_6_53_54 a_6_4_5
       have a_2_39_0 : 0 < q 39 := moveKind_f18 E6 E7 E8 E9 E10 E11 E12 E13 E14 E15 E16 E17 E18 E19 E20 E21 E38 E39 E53 E54 b10 b14 b17 a_1_20_0 a_6_53_54 a_6_4_5
       have a_3_0_9 : q 0 = q 9 := moveKind_f19 E6 E7 E8 E9 E10 E11 E12 E13 E14 E15 E16 E17 E18 E19 E20 E21 E53 E54 b10 b14 b17 a_1_20_0 a_6_53_54 a_6_4_5
       by_cases b28 : q 28 = 0
       ·
        have b29 : ¬ (q 29 = 0) := moveKind_f20 E6 E7 E8 E9 E10 E11 E12 E13 E14 E15 E16 E17 E18 E19 E20 E21 E22 E23 E24 E25 E26 E27 E28 E29 E53 E54 b10 b14 b17 a_1_20_0 a_6_53_54 a_6_4_5 b28
        exact moveKind_leaf moveKind_r3 hσ hq h0 (moveKind_An (hT b10) (moveKind_An (hT b14) (moveKind_An (hT b17) (moveKind_An (hF a_1_20_0) (moveKind_An (hT a_6_53_54) (moveKind_An (hF a_6_4_5) (moveKind_An (hT a_3_8_9) (moveKind_An (hT a_3_13_9) (moveKind_An (hT a_2_39_0) (moveKind_An (hT a_3_0_9) (moveKind_An (hT b28) (moveKind_An (hF b29) trivial)))))))))))) ⟨tab, mx⟩ hA
       ·
        exact moveKind_leaf moveKind_r4 hσ hq h0 (moveKind_An (hT b10) (moveKind_An (hT b14) (moveKind_An (hT b17) (moveKind_An (hF a_1_20_0) (moveKind_An (hT a_6_53_54) (moveKind_An (hF a_6_4_5) (moveKind_An (hT a_3_8_9) (moveKind_An (hT a_3_13_9) (moveKind_An (hT a_2_39_0) (moveKind_An (hT a_3_0_9) (moveKind_An (hF b28) trivial))))))))))) ⟨tab, mx⟩ hA
     ·
      have a_3_8_9 : q 8 = q 9 := moveKind_f21 E6 E7 E8 E9 E10 E11 E12 E13 E14 E15 E16 E17 E18 E19 E20 E21 E53 E54 b10 b14 b17 a_1_20_0 a_6_53_54
      have a_3_13_9 : q 13 = q 9 := moveKind_f22 E6 E7 E8 E9 E10 E11 E12 E13 E14 E15 E16 E17 E18 E19 E20 E21 E53 E54 b10 b14 b17 a_1_20_0 a_6_53_54
      have a_2_39_0 : 0 < q 39 := moveKind_f23 E6 E7 E8 E9 E10 E11 E12 E13 E14 E15 E16 E17 E18 E19 E20 E21 E38 E39 E53 E54 b10 b14 b17 a_1_20_0 a_6_53_54
      have a_3_0_9 : ¬ (q 0 = q 9) := moveKind_f24 E6 E7 E8 E9 E10 E11 E12 E13 E14 E15 E16 E17 E18 E19 E20 E21 E53 E54 b10 b14 b17 a_1_20_0 a_6_53_54
      exact moveKind_leaf moveKind_r5 hσ hq h0 (moveKind_An (hT b10) (moveKind_An (hT b14) (moveKind_An (hT b17) (moveKind_An (hF a_1_20_0) (moveKind_An (hF a_6_53_54) (moveKind_An (hT a_3_8_9) (moveKind_An (hT a_3_13_9) (moveKind_An (hT a_2_39_0) (moveKind_An (hF a_3_0_9) trivial))))))))) ⟨tab, mx⟩ hA
   ·
    have a_3_8_9 : q 8 = q 9 := moveKind_f25 E6 E7 E8 E9 E10 E11 E12 E13 E14 E15 E16 E17 b10 b14 b17
    have a_3_13_9 : q 13 = q 9 := moveKind_f26 E6 E7 E8 E9 E10 E11 E12 E13 E14 E15 E16 E17 b10 b14 b17
    exact moveKind_leaf moveKind_r6 hσ hq h0 (moveKind_An (hT b10) (moveKind_An (hT b14) (moveKind_An (hF b17) (moveKind_An (hT a_3_8_9) (moveKind_An (hT a_3_13_9) trivial))))) ⟨tab, mx⟩ hA
  ·
   have a_3_8_9 : q 8 = q 9 := moveKind_f27 E6 E7 E8 E9 E10 E11 E12 E13 E14 b10 b14
   have a_3_13_9 : ¬ (q 13 = q 9) := moveKind_f28 E6 E7 E8 E9 E10 E11 E12 E13 E14 b10 b14
   exact moveKind_leaf moveKind_r7 hσ hq h0 (moveKind_An (hT b10) (moveKind_An (hF b14) (moveKind_An (hT a_3_8_9) (moveKind_An (hF a_3_13_9) trivial)))) ⟨tab, mx⟩ hA
 ·
  have a_3_8_9 : ¬ (q 8 = q 9) := moveKind_f29 E6 E7 E8 E9 E10 b10
  exact moveKind_leaf moveKind_r8 hσ hq h0 (moveKind_An (hF b10) (moveKind_An (hF a_3_8_9) trivial)) ⟨tab, mx⟩ hA
end Go.Proofs.YtkcikcnimkofkaaGreatDoor
