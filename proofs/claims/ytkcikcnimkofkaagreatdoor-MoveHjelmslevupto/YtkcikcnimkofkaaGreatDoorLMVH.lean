/- Part 13 of the walks and of the mathematics under them: VY VSZ CFmoved MVH. -/
import Derived.Test.YtkcikcnimkofkaaGreatDoorA12
set_option maxHeartbeats 16000000
set_option maxRecDepth 100000
/- VY -/
namespace Go.Proofs.YtkcikcnimkofkaaGreatDoor
open Go.RowKit Cx
theorem den_num (t : Rat) : t * (t.den : Rat) = ((t.num : Int) : Rat) := by
 conv => lhs; lhs; rw [← Rat.mkRat_self t]
 have h0 : (t.den : Rat) ≠ 0 := fun h => t.den_nz (by exact_mod_cast h)
 rw [Rat.mkRat_eq_div, Rat.div_mul_cancel h0]
theorem whole {q : Rat} (h : q.den = 1) : q = ((q.num : Int) : Rat) := by
 have := den_num q
 rw [h] at this
 rw [← this]
 show q = q * ((1 : Nat) : Rat)
 exact (Rat.mul_one q).symm
end Go.Proofs.YtkcikcnimkofkaaGreatDoor
/- VSZ -/
namespace Go.Proofs.YtkcikcnimkofkaaGreatDoor
open Go.RowKit Cx
def szW (Z : List Nat) (I : List Bool) (z : Nat) (b : Bool) (nd : Nd) : Bool := match nd.1, nd.2 with
 | 0, [_, n, d] => (Nat.blt n (2 ^ z) && (Nat.blt 0 d && Nat.blt d (2 ^ z))) && (!b || Nat.beq d 1)
 | 1, [_] => Nat.ble 3495259 z && !b
 | 2, [a, c] => (match Z[a]?, Z[c]?, I[a]?, I[c]? with
  | some x, some y, some true, some true => Nat.ble (Nat.max x y + 1) z
  | some x, some y, _, _ => Nat.ble (x + y + 1) z && !b
  | _, _, _, _ => false)
 | 3, [a, c] => (match Z[a]?, Z[c]?, I[a]?, I[c]? with
  | some x, some y, some true, some true => Nat.ble (Nat.max x y + 1) z
  | some x, some y, _, _ => Nat.ble (x + y + 1) z && !b
  | _, _, _, _ => false)
 | 4, [a, c] => (match Z[a]?, Z[c]?, I[a]?, I[c]? with
  | some x, some y, some true, some true => Nat.ble (x + y) z
  | some x, some y, _, _ => Nat.ble (x + y) z && !b
  | _, _, _, _ => false)
 | 5, [a] => (match Z[a]?, I[a]? with
  | some x, some true => Nat.ble x z
  | some x, _ => Nat.ble x z && !b
  | _, _ => false)
 | 6, [a, c] => (match Z[a]?, Z[c]? with
  | some x, some y => Nat.ble (x + y) z && !b
  | _, _ => false)
 | 8, i :: xs => (match getsO Z xs with
  | some zs => Nat.blt i xs.length && (Nat.ble ((xs.length + 1) * maxL zs + 1) z || (xs.all (fun a => match I[a]? with
   | some true => true
   | _ => false) && (match xs[i]? with
   | some a => (match Z[a]? with
    | some x => Nat.ble (x + 1) z
    | none => false)
   | none => false)))
  | none => false)
 | _, _ => false
def szC (Z : List Nat) (I : List Bool) : List Nd → List Nat → List Bool → Bool
 | [], [], [] => true
 | nd :: ns, z :: zs, b :: bs => (szW Z I z b nd && Nat.ble z 1000000000000) && szC Z I ns zs bs
 | _, _, _ => false
theorem szC_get {Z : List Nat} {I : List Bool} : ∀ {ns : List Nd} {zs : List Nat} {bs : List Bool} {i z : Nat}, szC Z I ns zs bs = true → zs[i]? = some z → ∃ nd b, ns[i]? = some nd ∧ bs[i]? = some b ∧ szW Z I z b nd = true ∧ z ≤ 1000000000000
 | [], [], [], _, _, _, h => by simp at h
 | [], [], _ :: _, _, _, h, _ => by cases h
 | [], _ :: _, _, _, _, h, _ => by cases h
 | _ :: _, [], _, _, _, h, _ => by cases h
 | _ :: _, _ :: _, [], _, _, h, _ => by cases h
 | nd :: ns, z' :: zs, b :: bs, 0, z, h, e => by
  have : z' = z := by simpa using e
  subst this
  unfold szC at h
  simp only [Bool.and_eq_true, Nat.ble_eq] at h
  exact ⟨nd, b, rfl, rfl, h.1.1, h.1.2⟩
 | nd :: ns, z' :: zs, b :: bs, i + 1, z, h, e => by
  unfold szC at h
  rw [Bool.and_eq_true] at h
  obtain ⟨nd2, b2, g1, g2, g3⟩ := szC_get (ns := ns) (zs := zs) (bs := bs) h.2 (show zs[i]? = some z by simpa using e)
  exact ⟨nd2, b2, by simpa using g1, by simpa using g2, g3⟩
theorem szC_len {Z : List Nat} {I : List Bool} : ∀ {ns : List Nd} {zs : List Nat} {bs : List Bool}, szC Z I ns zs bs = true → ns.length = zs.length
 | [], [], [], _ => rfl
 | [], [], _ :: _, h => by cases h
 | [], _ :: _, _, h => by cases h
 | _ :: _, [], _, h => by cases h
 | _ :: _, _ :: _, [], h => by cases h
 | _ :: _, _ :: _, _ :: _, h => by
  unfold szC at h
  rw [Bool.and_eq_true] at h
  exact congrArg (· + 1) (szC_len h.2)
structure QW (z : Nat) (x : Rat) : Prop where
 qs : QS z x
 wh : x.den = 1
theorem QW.of {z : Nat} {n : Int} (h : n.natAbs < 2 ^ z) (hz : 0 < z) : QW z ((n : Int) : Rat) :=
 ⟨⟨by simpa using h, by
  show ((n : Int) : Rat).den < 2 ^ z
  rw [Rat.den_intCast]
  exact Nat.one_lt_two_pow (by omega)⟩, Rat.den_intCast n⟩
theorem QW.mono {k l : Nat} {x : Rat} (h : QW k x) (hk : k ≤ l) : QW l x := ⟨h.qs.mono hk, h.wh⟩
theorem two_max {a b x y : Nat} (h1 : a < 2 ^ x) (h2 : b < 2 ^ y) : a + b < 2 ^ (Nat.max x y + 1) := by
 have e1 : 2 ^ x ≤ 2 ^ Nat.max x y := Nat.pow_le_pow_right (by decide) (Nat.le_max_left x y)
 have e2 : 2 ^ y ≤ 2 ^ Nat.max x y := Nat.pow_le_pow_right (by decide) (Nat.le_max_right x y)
 rw [Nat.pow_succ]
 omega
theorem QW.add {x y : Nat} {a b : Rat} (h1 : QW x a) (h2 : QW y b) : QW (Nat.max x y + 1) (a + b) := by
 rw [whole h1.wh, whole h2.wh, ← Rat.intCast_add]
 refine QW.of ?_ (by omega)
 have := two_max h1.qs.num h2.qs.num
 omega
theorem QW.sub {x y : Nat} {a b : Rat} (h1 : QW x a) (h2 : QW y b) : QW (Nat.max x y + 1) (a - b) := by
 rw [whole h1.wh, whole h2.wh, ← Rat.intCast_sub]
 refine QW.of ?_ (by omega)
 have := two_max h1.qs.num h2.qs.num
 omega
theorem QW.mul {x y : Nat} {a b : Rat} (h1 : QW x a) (h2 : QW y b) : QW (x + y) (a * b) := by
 refine ⟨h1.qs.mul h2.qs, ?_⟩
 rw [whole h1.wh, whole h2.wh, ← Rat.intCast_mul]
 exact Rat.den_intCast _
theorem QW.neg {x : Nat} {a : Rat} (h1 : QW x a) : QW x (-a) := ⟨h1.qs.neg, h1.wh⟩
theorem lD_one : ∀ {qs : List Rat} {m : Nat}, (∀ q ∈ qs, q.den = 1) → qs.foldl (fun m q => m * (q.den / Nat.gcd m q.den)) m = m
 | [], _, _ => rfl
 | q :: qs, m, h => by
  rw [List.foldl_cons, h q List.mem_cons_self, Nat.gcd_one_right, Nat.div_self (by decide), Nat.mul_one]
  exact lD_one fun p hp => h p (List.mem_cons_of_mem _ hp)
theorem QW.fac {z : Nat} {qs : List Rat} {x : Rat} (hx : QS z x) (h : x ∈ qs) (hw : ∀ y ∈ qs, y.den = 1) : QS (z + 1) (x * fac qs) := by
 have hl : lD qs = 1 := lD_one hw
 refine ⟨?_, ?_⟩
 ·rw [fac_abs h, hl, hw x h, Nat.div_self (by decide), Nat.mul_one]
  exact Nat.lt_of_le_of_lt (Nat.div_le_self _ _) (Nat.lt_of_lt_of_le hx.num (Nat.pow_le_pow_right (by decide) (by omega)))
 ·rw [fac_den h]
  exact Nat.one_lt_two_pow (by omega)
theorem ten_three : ∀ n : Nat, 10 ^ n ≤ 2 ^ ((10 * n + 2) / 3)
 | 0 => by decide
 | 1 => by decide
 | 2 => by decide
 | n + 3 => by
  have h := ten_three n
  have e : (10 * (n + 3) + 2) / 3 = (10 * n + 2) / 3 + 10 := by omega
  rw [e, Nat.pow_add, Nat.pow_add]
  exact Nat.mul_le_mul h (by decide)
theorem QS.rd3 (l : List UInt8) : QS ((10 * l.length + 2) / 3 + 5) (Cx.rd l) := by
 have key : ∀ {m : List UInt8}, digs m = true → dv m < 2 ^ ((10 * m.length + 2) / 3) := fun {m} h => Nat.lt_of_lt_of_le (dv_lt (digs_all h)) (ten_three _)
 unfold Cx.rd
 split
 ·rename_i h
  rw [Bool.and_eq_true] at h
  have h1 := key h.1
  have h2 := key h.2
  have h3 := up_len (tailOf l)
  have h4 := low_len (tailOf l)
  have h5 := tail_len l
  apply QS.mkr
  ·rw [sg_abs]; exact Nat.lt_of_lt_of_le h1 (Nat.pow_le_pow_right (by decide) (by omega))
  ·exact Nat.lt_of_lt_of_le h2 (Nat.pow_le_pow_right (by decide) (by omega))
 ·exact QS.zero.mono (by omega)
section
variable {N : List Nd} {Z : List Nat} {I : List Bool} {q : Nat → Rat}
theorem sizes_okW {σ : Nat → ByteArray} (hσ : ∀ j, (σ j).size ≤ 1048576) (hw : wfB 0 N = true) (hz : szC Z I N Z I = true) (hq : ∀ (a : Nat) nd, N[a]? = some nd → q a = valN σ q nd) (h0 : ∀ a, N.length ≤ a → q a = 0) : (∀ (a : Nat) z, Z[a]? = some z → QS z (q a)) ∧ ∀ a, QS 1000000000000 (q a) := by
 have h2 : ∀ (a : Nat) z, Z[a]? = some z → QS z (q a) ∧ (I[a]? = some true → (q a).den = 1) := by
  intro a
  induction a using Nat.strongRecOn with
  | ind a ih =>
   intro z hz'
   obtain ⟨nd, b, hn, hb, hs, _⟩ := szC_get hz hz'
   have hwf := wfB_get hw hn
   rw [Nat.zero_add] at hwf
   rw [hq a nd hn, hb]
   obtain ⟨op, xs⟩ := nd
   unfold szW at hs
   unfold valN
   unfold wfN at hwf
   dsimp only at hs hwf ⊢
   have W : ∀ {c x}, c < a → Z[c]? = some x → I[c]? = some true → QW x (q c) := fun hc hx hi => ⟨(ih _ hc _ hx).1, (ih _ hc _ hx).2 hi⟩
   have no : ∀ {v : Rat}, b = false → (some b = some true → v.den = 1) := fun e h => by rw [e] at h; cases h
   split at hs
   ·rename_i s n d
    simp only [Bool.and_eq_true] at hs
    obtain ⟨⟨h1, h2, h3⟩, h4⟩ := hs
    refine ⟨QS.const (by simpa [Nat.blt_eq] using h1) (by simpa [Nat.blt_eq] using h2) (by simpa [Nat.blt_eq] using h3), fun e => ?_⟩
    rw [show b = true from Option.some.inj e] at h4
    have hd : d = 1 := by simpa using h4
    subst hd
    show (if s = 0 then mkRat (n : Int) 1 else mkRat (-(n : Int)) 1).den = 1
    split
    ·rw [Rat.mkRat_one]
     exact Rat.den_intCast _
    ·rw [Rat.mkRat_one]
     exact Rat.den_intCast _
   ·rename_i j
    simp only [Bool.and_eq_true, Nat.ble_eq, Bool.not_eq_true'] at hs
    exact ⟨QS.mono (QS.rd3 _) (by have := hσ j; rw [str_len]; omega), no hs.2⟩
   ·simp only [List.all_cons, List.all_nil, Bool.and_true, Bool.and_eq_true] at hwf
    have l1 := (by simpa [Nat.blt_eq] using hwf.1 : _ < a)
    have l2 := (by simpa [Nat.blt_eq] using hwf.2 : _ < a)
    split at hs
    ·rename_i x y hx hy i1 i2
     rw [Nat.ble_eq] at hs
     have := ((W l1 hx i1).add (W l2 hy i2)).mono hs
     exact ⟨this.qs, fun _ => this.wh⟩
    ·rename_i x y hx hy _
     simp only [Bool.and_eq_true, Nat.ble_eq, Bool.not_eq_true'] at hs
     exact ⟨((ih _ l1 x hx).1.add (ih _ l2 y hy).1).mono hs.1, no hs.2⟩
    ·cases hs
   ·simp only [List.all_cons, List.all_nil, Bool.and_true, Bool.and_eq_true] at hwf
    have l1 := (by simpa [Nat.blt_eq] using hwf.1 : _ < a)
    have l2 := (by simpa [Nat.blt_eq] using hwf.2 : _ < a)
    split at hs
    ·rename_i x y hx hy i1 i2
     rw [Nat.ble_eq] at hs
     have := ((W l1 hx i1).sub (W l2 hy i2)).mono hs
     exact ⟨this.qs, fun _ => this.wh⟩
    ·rename_i x y hx hy _
     simp only [Bool.and_eq_true, Nat.ble_eq, Bool.not_eq_true'] at hs
     exact ⟨((ih _ l1 x hx).1.sub (ih _ l2 y hy).1).mono hs.1, no hs.2⟩
    ·cases hs
   ·simp only [List.all_cons, List.all_nil, Bool.and_true, Bool.and_eq_true] at hwf
    have l1 := (by simpa [Nat.blt_eq] using hwf.1 : _ < a)
    have l2 := (by simpa [Nat.blt_eq] using hwf.2 : _ < a)
    split at hs
    ·rename_i x y hx hy i1 i2
     rw [Nat.ble_eq] at hs
     have := ((W l1 hx i1).mul (W l2 hy i2)).mono hs
     exact ⟨this.qs, fun _ => this.wh⟩
    ·rename_i x y hx hy _
     simp only [Bool.and_eq_true, Nat.ble_eq, Bool.not_eq_true'] at hs
     exact ⟨((ih _ l1 x hx).1.mul (ih _ l2 y hy).1).mono hs.1, no hs.2⟩
    ·cases hs
   ·simp only [List.all_cons, List.all_nil, Bool.and_true] at hwf
    have l1 := (by simpa [Nat.blt_eq] using hwf : _ < a)
    split at hs
    ·rename_i x hx i1
     rw [Nat.ble_eq] at hs
     have := (W l1 hx i1).neg.mono hs
     exact ⟨this.qs, fun _ => this.wh⟩
    ·rename_i x hx _
     simp only [Bool.and_eq_true, Nat.ble_eq, Bool.not_eq_true'] at hs
     exact ⟨((ih _ l1 x hx).1.neg).mono hs.1, no hs.2⟩
    ·cases hs
   ·simp only [List.all_cons, List.all_nil, Bool.and_true, Bool.and_eq_true] at hwf
    split at hs
    ·rename_i x y hx hy
     simp only [Bool.and_eq_true, Nat.ble_eq, Bool.not_eq_true'] at hs
     exact ⟨((ih _ (by simpa [Nat.blt_eq] using hwf.1) x hx).1.div (ih _ (by simpa [Nat.blt_eq] using hwf.2) y hy).1).mono hs.1, no hs.2⟩
    ·cases hs
   ·rename_i i ys
    split at hs
    ·rename_i zs hzs
     rw [Bool.and_eq_true] at hs
     have hi : i < ys.length := by simpa [Nat.blt_eq] using hs.1
     have hwf' : ys.all (Nat.blt · a) = true := hwf
     rw [List.all_eq_true] at hwf'
     have hlt : ∀ c ∈ ys, c < a := fun c hc => by simpa [Nat.blt_eq] using hwf' c hc
     have hm : q ys[i] ∈ ys.map q := List.mem_map_of_mem (List.getElem_mem hi)
     have hg : (ys.map q).getD i 0 = q ys[i] := by
      rw [List.getD_eq_getElem?_getD, List.getElem?_map, List.getElem?_eq_getElem hi]
      rfl
     show QS z ((ys.map q).getD i 0 * fac (ys.map q)) ∧ (some b = some true → ((ys.map q).getD i 0 * fac (ys.map q)).den = 1)
     rw [hg]
     refine ⟨?_, fun _ => fac_den hm⟩
     rcases Bool.or_eq_true _ _ ▸ hs.2 with h3 | h3
     ·rw [Nat.ble_eq] at h3
      have hall : ∀ y ∈ ys.map q, QS (maxL zs) y := fun y hy => by
       obtain ⟨c, hc, rfl⟩ := List.mem_map.1 hy
       obtain ⟨z', hm', hz2⟩ := getsO_get hzs c hc
       exact (ih c (hlt c hc) z' hz2).1.mono (le_maxL z' hm')
      have := QS.facN hall (x := q ys[i]) hm
      rw [List.length_map] at this
      exact this.mono h3
     ·rw [Bool.and_eq_true, List.all_eq_true] at h3
      obtain ⟨h4, h5⟩ := h3
      have hwh : ∀ y ∈ ys.map q, y.den = 1 := fun y hy => by
       obtain ⟨c, hc, rfl⟩ := List.mem_map.1 hy
       obtain ⟨z', _, hz2⟩ := getsO_get hzs c hc
       refine (ih c (hlt c hc) z' hz2).2 ?_
       have := h4 c hc
       split at this
       ·assumption
       ·cases this
      rw [List.getElem?_eq_getElem hi] at h5
      dsimp only at h5
      split at h5
      ·rename_i x hx
       rw [Nat.ble_eq] at h5
       exact (QW.fac (ih _ (hlt _ (List.getElem_mem hi)) x hx).1 hm hwh).mono h5
      ·cases h5
    ·cases hs
   ·cases hs
 refine ⟨fun a z h => (h2 a z h).1, fun a => ?_⟩
 have hl := szC_len hz
 by_cases ha : a < Z.length
 ·obtain ⟨nd, b, _, _, _, hle⟩ := szC_get hz (List.getElem?_eq_getElem ha)
  exact (h2 a _ (List.getElem?_eq_getElem ha)).1.mono hle
 ·rw [h0 a (by omega)]
  exact QS.zero.mono (by decide)
theorem hy_ofW {L C : List (List Nat × Nat)} {σ : Nat → ByteArray} {H : List (Nat × Nat × Nat × Nat)} (hσ : ∀ j, (σ j).size ≤ 1048576) (hw : wfB 0 N = true) (hz : szC Z I N Z I = true) (hl : litB N L = true) (hcn : canB N C = true) (hq : ∀ (a : Nat) nd, N[a]? = some nd → q a = valN σ q nd) (h0 : ∀ a, N.length ≤ a → q a = 0) (hH : hAll q H) : Hy N H L C Z q σ where
 nat := hq
 qs := (sizes_okW hσ hw hz hq h0).2
 zs := (sizes_okW hσ hw hz hq h0).1
 par := hσ
 lit := fun s b h => lit_rd hl hq h
 k0 := fun a r h => kn_at hH h
 k1 := fun a r h => kn_at hH h
 k2 := fun a r h => kn_at hH h
 k3 := fun a b r h => kn_at hH h
 k4 := fun l a b r h1 h2 => by
  have h3 : Nat.beq 1 r = true ↔ q a = q b := kn_at hH h2
  rw [h3, ← can_tx hcn hq h1]
  exact ⟨fun e => by rw [e], fun e => tellS_inj (bytesN_inj e)⟩
 k6 := fun a b r h => kn_at hH h
 k5 := fun a r h => kn_at hH h
end
end Go.Proofs.YtkcikcnimkofkaaGreatDoor
/- CFmoved -/
namespace Go.Proofs.YtkcikcnimkofkaaGreatDoor
open Go.RowKit Cx
theorem closed_moved : Closed 50 :=
 closed_told (N := [(0, [0, 1, 1]), (0, [0, 0, 1]), (4, [0, 1]), (4, [1, 1]), (2, [2, 3]), (2, [4, 1]), (5, [5]), (4, [0, 6]), (4, [1, 6]), (4, [0, 0]), (2, [9, 3]), (6, [7, 10]), (6, [8, 10]), (0, [0, 2, 1]), (4, [11, 13]), (4, [12, 13]), (2, [1, 14]), (2, [1, 15]), (2, [10, 1]), (5, [18]), (4, [0, 19]), (4, [1, 19]), (6, [20, 10]), (6, [21, 10]), (4, [22, 13]), (4, [23, 13]), (2, [0, 24]), (2, [1, 25]), (3, [26, 16]), (3, [27, 17]), (4, [1, 0]), (2, [2, 30]), (2, [31, 1]), (5, [32]), (4, [0, 33]), (4, [1, 33]), (6, [34, 10]), (6, [35, 10]), (4, [36, 13]), (4, [37, 13]), (2, [1, 38]), (2, [0, 39]), (3, [40, 16]), (3, [41, 17]), (0, [1, 1, 1]), (2, [4, 44]), (5, [45]), (4, [0, 46]), (4, [1, 46]), (6, [47, 10]), (6, [48, 10]), (4, [49, 13]), (4, [50, 13]), (2, [1, 51]), (2, [1, 52]), (2, [10, 44]), (5, [55]), (4, [0, 56]), (4, [1, 56]), (6, [57, 10]), (6, [58, 10]), (4, [59, 13]), (4, [60, 13]), (2, [0, 61]), (2, [1, 62]), (3, [63, 53]), (3, [64, 54]), (2, [31, 44]), (5, [67]), (4, [0, 68]), (4, [1, 68]), (6, [69, 10]), (6, [70, 10]), (4, [71, 13]), (4, [72, 13]), (2, [1, 73]), (2, [0, 74]), (3, [75, 53]), (3, [76, 54]), (4, [65, 28]), (4, [66, 28]), (4, [77, 29]), (4, [78, 29]), (2, [79, 81]), (2, [80, 82]), (4, [65, 42]), (4, [66, 42]), (4, [77, 43]), (4, [78, 43]), (2, [85, 87]), (2, [86, 88]), (4, [65, 16]), (4, [66, 16]), (4, [77, 17]), (4, [78, 17]), (2, [91, 93]), (2, [92, 94]), (2, [95, 53]), (2, [96, 54]), (4, [83, 83]), (4, [84, 84]), (2, [99, 100]), (3, [101, 0]), (4, [89, 89]), (4, [90, 90]), (2, [103, 104]), (3, [105, 0]), (4, [83, 89]), (4, [84, 90]), (2, [107, 108]), (4, [83, 90]), (4, [84, 89]), (3, [110, 111]), (3, [83, 0]), (3, [84, 1]), (0, [0, 3, 1]), (0, [0, 4, 1]), (4, [28, 115]), (4, [29, 115]), (4, [42, 116]), (4, [43, 116]), (2, [117, 119]), (2, [118, 120]), (2, [121, 16]), (2, [122, 17]), (0, [1, 3, 1])]) (H := [(0, 0, 0, 0), (0, 102, 0, 1), (0, 106, 0, 1), (0, 109, 0, 1), (1, 112, 0, 0), (0, 113, 0, 1), (0, 114, 0, 1), (0, 97, 0, 0), (4, 83, 0, 1), (4, 89, 1, 1), (4, 97, 13, 1), (4, 84, 1, 1), (4, 90, 0, 1), (4, 98, 1, 1), (4, 123, 125, 1), (4, 124, 116, 1)]) (K := [(218, [.inr (3, 9, 0, 0, 0)]), (218, [.inr (3, 121, 0, 0, 0)]), (208, [.inr (3, 227, 0, 0, 0)]), (208, [.inr (3, 238, 0, 0, 0)]), (208, [.inr (3, 311, 0, 0, 0)]), (219, []), (208, [.inr (3, 354, 0, 0, 0)])]) (L := [([49], 0), ([48], 1), ([45, 49], 44), ([50], 13), ([51], 115), ([52], 116), ([45, 51], 125)]) (C := [([49], 0), ([48], 1), ([50], 13), ([45, 51], 125), ([52], 116)]) (Z := [2, 2, 4, 4, 9, 12, 12, 14, 14, 4, 9, 23, 23, 3, 26, 26, 29, 29, 12, 12, 14, 14, 23, 23, 26, 26, 29, 29, 59, 59, 4, 9, 12, 12, 14, 14, 23, 23, 26, 26, 29, 29, 59, 59, 2, 12, 12, 14, 14, 23, 23, 26, 26, 29, 29, 12, 12, 14, 14, 23, 23, 26, 26, 29, 29, 59, 59, 12, 12, 14, 14, 23, 23, 26, 26, 29, 29, 59, 59, 118, 118, 118, 118, 237, 237, 118, 118, 118, 118, 237, 237, 88, 88, 88, 88, 177, 177, 207, 207, 474, 474, 949, 952, 474, 474, 949, 952, 474, 474, 949, 474, 474, 949, 240, 240, 3, 4, 62, 62, 63, 63, 126, 126, 156, 156, 3]) (cl := []) 8 (fun _ h => by cases h) (by kernel_rfl) (by kernel_rfl) (by kernel_rfl) (by kernel_rfl) (by kernel_rfl) (by kernel_rfl) (by kernel_rfl)
end Go.Proofs.YtkcikcnimkofkaaGreatDoor
/- MVH -/
namespace Go.Proofs.YtkcikcnimkofkaaGreatDoor
open Go.RowKit Cx
def moveHjelmslev_N : List Nd := [(1, [0]), (1, [1]), (1, [2]), (0, [0, 0, 1]), (4, [0, 3]), (4, [1, 3]), (2, [4, 5]), (2, [6, 2]), (5, [7]), (4, [0, 8]), (4, [1, 8]), (4, [0, 0]), (4, [1, 1]), (2, [11, 12]), (6, [9, 13]), (6, [10, 13]), (0, [0, 2, 1]), (4, [14, 16]), (4, [15, 16]), (2, [3, 17]), (2, [3, 18]), (0, [0, 1, 1]), (4, [0, 21]), (2, [22, 5]), (2, [23, 2]), (5, [24]), (4, [0, 25]), (4, [1, 25]), (6, [26, 13]), (6, [27, 13]), (4, [28, 16]), (4, [29, 16]), (2, [21, 30]), (2, [3, 31]), (3, [32, 19]), (3, [33, 20]), (4, [1, 21]), (2, [4, 36]), (2, [37, 2]), (5, [38]), (4, [0, 39]), (4, [1, 39]), (6, [40, 13]), (6, [41, 13]), (4, [42, 16]), (4, [43, 16]), (2, [3, 44]), (2, [21, 45]), (3, [46, 19]), (3, [47, 20]), (1, [6]), (1, [7]), (4, [34, 21]), (4, [35, 21]), (4, [48, 3]), (4, [49, 3]), (2, [52, 54]), (2, [53, 55]), (4, [34, 3]), (4, [35, 3]), (4, [48, 21]), (4, [49, 21]), (2, [58, 60]), (2, [59, 61]), (2, [58, 54]), (2, [59, 55]), (2, [64, 19]), (2, [65, 20]), (1, [3]), (1, [4]), (1, [5]), (4, [68, 3]), (4, [69, 3]), (2, [71, 72]), (2, [73, 70]), (5, [74]), (4, [68, 75]), (4, [69, 75]), (4, [68, 68]), (4, [69, 69]), (2, [78, 79]), (6, [76, 80]), (6, [77, 80]), (4, [81, 16]), (4, [82, 16]), (2, [3, 83]), (2, [3, 84]), (4, [68, 21]), (2, [87, 72]), (2, [88, 70]), (5, [89]), (4, [68, 90]), (4, [69, 90]), (6, [91, 80]), (6, [92, 80]), (4, [93, 16]), (4, [94, 16]), (2, [21, 95]), (2, [3, 96]), (3, [97, 85]), (3, [98, 86]), (4, [69, 21]), (2, [71, 101]), (2, [102, 70]), (5, [103]), (4, [68, 104]), (4, [69, 104]), (6, [105, 80]), (6, [106, 80]), (4, [107, 16]), (4, [108, 16]), (2, [3, 109]), (2, [21, 110]), (3, [111, 85]), (3, [112, 86]), (4, [99, 56]), (4, [100, 56]), (4, [113, 57]), (4, [114, 57]), (2, [115, 117]), (2, [116, 118]), (4, [99, 62]), (4, [100, 62]), (4, [113, 63]), (4, [114, 63]), (2, [121, 123]), (2, [122, 124]), (4, [99, 66]), (4, [100, 66]), (4, [113, 67]), (4, [114, 67]), (2, [127, 129]), (2, [128, 130]), (2, [131, 85]), (2, [132, 86]), (1, [8]), (5, [135]), (4, [50, 50]), (4, [51, 51]), (2, [137, 138]), (6, [136, 139]), (4, [50, 140]), (4, [51, 140]), (5, [51]), (1, [9]), (4, [143, 144]), (4, [50, 144]), (2, [141, 145]), (2, [142, 146]), (4, [119, 147]), (4, [120, 147]), (4, [125, 148]), (4, [126, 148]), (2, [149, 151]), (2, [150, 152]), (2, [153, 133]), (2, [154, 134]), (3, [155, 147]), (3, [156, 148]), (0, [0, 1, 2]), (4, [157, 159]), (4, [158, 159]), (2, [3, 147]), (2, [3, 148]), (2, [162, 160]), (2, [163, 161]), (1, [10]), (4, [143, 166]), (4, [50, 166]), (2, [141, 167]), (2, [142, 168]), (4, [119, 169]), (4, [120, 169]), (4, [125, 170]), (4, [126, 170]), (2, [171, 173]), (2, [172, 174]), (2, [175, 133]), (2, [176, 134]), (3, [177, 169]), (3, [178, 170]), (4, [179, 159]), (4, [180, 159]), (2, [3, 169]), (2, [3, 170]), (2, [183, 181]), (2, [184, 182]), (1, [11]), (4, [143, 187]), (4, [50, 187]), (2, [141, 188]), (2, [142, 189]), (4, [119, 190]), (4, [120, 190]), (4, [125, 191]), (4, [126, 191]), (2, [192, 194]), (2, [193, 195]), (2, [196, 133]), (2, [197, 134]), (3, [198, 190]), (3, [199, 191]), (4, [200, 159]), (4, [201, 159]), (2, [3, 190]), (2, [3, 191]), (2, [204, 202]), (2, [205, 203]), (3, [185, 164]), (3, [186, 165]), (3, [206, 164]), (3, [207, 165]), (4, [208, 211]), (4, [209, 210]), (3, [212, 213])]
def moveHjelmslev_L : List (List Nat × Nat) := [([49], 21), ([48], 3), ([49, 47, 50], 159)]
def moveHjelmslev_C : List (List Nat × Nat) := []
def moveHjelmslev_Z : List Nat := [3495259, 3495259, 3495259, 2, 3495261, 3495261, 6990523, 10485783, 10485783, 13981042, 13981042, 6990518, 6990518, 13981037, 27962079, 27962079, 3, 27962082, 27962082, 27962085, 27962085, 2, 3495261, 6990523, 10485783, 10485783, 13981042, 13981042, 27962079, 27962079, 27962082, 27962082, 27962085, 27962085, 55924171, 55924171, 3495261, 6990523, 10485783, 10485783, 13981042, 13981042, 27962079, 27962079, 27962082, 27962082, 27962085, 27962085, 55924171, 55924171, 3495259, 3495259, 55924173, 55924173, 55924173, 55924173, 111848347, 111848347, 55924173, 55924173, 55924173, 55924173, 111848347, 111848347, 111848347, 111848347, 139810433, 139810433, 3495259, 3495259, 3495259, 3495261, 3495261, 6990523, 10485783, 10485783, 13981042, 13981042, 6990518, 6990518, 13981037, 27962079, 27962079, 27962082, 27962082, 27962085, 27962085, 3495261, 6990523, 10485783, 10485783, 13981042, 13981042, 27962079, 27962079, 27962082, 27962082, 27962085, 27962085, 55924171, 55924171, 3495261, 6990523, 10485783, 10485783, 13981042, 13981042, 27962079, 27962079, 27962082, 27962082, 27962085, 27962085, 55924171, 55924171, 167772518, 167772518, 167772518, 167772518, 335545037, 335545037, 167772518, 167772518, 167772518, 167772518, 335545037, 335545037, 195734604, 195734604, 195734604, 195734604, 391469209, 391469209, 419431295, 419431295, 3495259, 3495259, 6990518, 6990518, 13981037, 17476296, 20971555, 20971555, 3495259, 3495259, 6990518, 6990518, 27962074, 27962074, 363507111, 363507111, 363507111, 363507111, 727014223, 727014223, 1146445519, 1146445519, 1174407594, 1174407594, 3, 1174407597, 1174407597, 27962077, 27962077, 1202369675, 1202369675, 3495259, 6990518, 6990518, 27962074, 27962074, 363507111, 363507111, 363507111, 363507111, 727014223, 727014223, 1146445519, 1146445519, 1174407594, 1174407594, 1174407597, 1174407597, 27962077, 27962077, 1202369675, 1202369675, 3495259, 6990518, 6990518, 27962074, 27962074, 363507111, 363507111, 363507111, 363507111, 727014223, 727014223, 1146445519, 1146445519, 1174407594, 1174407594, 1174407597, 1174407597, 27962077, 27962077, 1202369675, 1202369675, 2404739351, 2404739351, 2404739351, 2404739351, 4809478702, 4809478702, 9618957405]
def moveHjelmslev_I : List Bool := [false, false, false, true, false, false, false, false, false, false, false, false, false, false, false, false, true, false, false, false, false, true, false, false, false, false, false, false, false, false, false, false, false, false, false, false, false, false, false, false, false, false, false, false, false, false, false, false, false, false, false, false, false, false, false, false, false, false, false, false, false, false, false, false, false, false, false, false, false, false, false, false, false, false, false, false, false, false, false, false, false, false, false, false, false, false, false, false, false, false, false, false, false, false, false, false, false, false, false, false, false, false, false, false, false, false, false, false, false, false, false, false, false, false, false, false, false, false, false, false, false, false, false, false, false, false, false, false, false, false, false, false, false, false, false, false, false, false, false, false, false, false, false, false, false, false, false, false, false, false, false, false, false, false, false, false, false, false, false, false, false, false, false, false, false, false, false, false, false, false, false, false, false, false, false, false, false, false, false, false, false, false, false, false, false, false, false, false, false, false, false, false, false, false, false, false, false, false, false, false, false, false, false, false, false, false, false, false, false, false, false, false, false, false, false]
theorem moveHjelmslev_wf : wfB 0 moveHjelmslev_N = true := by kernel_rfl
theorem moveHjelmslev_sz : szC moveHjelmslev_Z moveHjelmslev_I moveHjelmslev_N moveHjelmslev_Z moveHjelmslev_I = true := by kernel_rfl
theorem moveHjelmslev_lt : litB moveHjelmslev_N moveHjelmslev_L = true := by kernel_rfl
theorem moveHjelmslev_cn : canB moveHjelmslev_N moveHjelmslev_C = true := by kernel_rfl
theorem moveHjelmslev_c3 : cst 0 0 1 = (0 : Rat) := by decide +kernel
theorem moveHjelmslev_c16 : cst 0 2 1 = (2 : Rat) := by decide +kernel
theorem moveHjelmslev_c21 : cst 0 1 1 = (1 : Rat) := by decide +kernel
theorem moveHjelmslev_c159 : cst 0 1 2 = ((1 / 2) : Rat) := by decide +kernel
theorem moveHjelmslev_f0 {z3 z50 z51 z119 z120 z125 z126 z133 z134 z141 z142 z143 z144 z145 z146 z147 z148 z149 z150 z151 z152 z153 z154 z155 z156 z157 z158 z159 z160 z161 z162 z163 z164 z165 z166 z167 z168 z169 z170 z171 z172 z173 z174 z175 z176 z177 z178 z179 z180 z181 z182 z183 z184 z185 z186 z187 z188 z189 z190 z191 z192 z193 z194 z195 z196 z197 z198 z199 z200 z201 z202 z203 z204 z205 z206 z207 z208 z209 z210 z211 z212 z213 z214 : Rat} : z3 = 0 → z143 = -z51 → z145 = z143 * z144 → z146 = z50 * z144 → z147 = z141 + z145 → z148 = z142 + z146 → z149 = z119 * z147 → z150 = z120 * z147 → z151 = z125 * z148 → z152 = z126 * z148 → z153 = z149 + z151 → z154 = z150 + z152 → z155 = z153 + z133 → z156 = z154 + z134 → z157 = z155 - z147 → z158 = z156 - z148 → z159 = (1 / 2) → z160 = z157 * z159 → z161 = z158 * z159 → z162 = z3 + z147 → z163 = z3 + z148 → z164 = z162 + z160 → z165 = z163 + z161 → z167 = z143 * z166 → z168 = z50 * z166 → z169 = z141 + z167 → z170 = z142 + z168 → z171 = z119 * z169 → z172 = z120 * z169 → z173 = z125 * z170 → z174 = z126 * z170 → z175 = z171 + z173 → z176 = z172 + z174 → z177 = z175 + z133 → z178 = z176 + z134 → z179 = z177 - z169 → z180 = z178 - z170 → z181 = z179 * z159 → z182 = z180 * z159 → z183 = z3 + z169 → z184 = z3 + z170 → z185 = z183 + z181 → z186 = z184 + z182 → z188 = z143 * z187 → z189 = z50 * z187 → z190 = z141 + z188 → z191 = z142 + z189 → z192 = z119 * z190 → z193 = z120 * z190 → z194 = z125 * z191 → z195 = z126 * z191 → z196 = z192 + z194 → z197 = z193 + z195 → z198 = z196 + z133 → z199 = z197 + z134 → z200 = z198 - z190 → z201 = z199 - z191 → z202 = z200 * z159 → z203 = z201 * z159 → z204 = z3 + z190 → z205 = z3 + z191 → z206 = z204 + z202 → z207 = z205 + z203 → z208 = z185 - z164 → z209 = z186 - z165 → z210 = z206 - z164 → z211 = z207 - z165 → z212 = z208 * z211 → z213 = z209 * z210 → z214 = z212 - z213 → z214 = 0 := by
 intro e3 e143 e145 e146 e147 e148 e149 e150 e151 e152 e153 e154 e155 e156 e157 e158 e159 e160 e161 e162 e163 e164 e165 e167 e168 e169 e170 e171 e172 e173 e174 e175 e176 e177 e178 e179 e180 e181 e182 e183 e184 e185 e186 e188 e189 e190 e191 e192 e193 e194 e195 e196 e197 e198 e199 e200 e201 e202 e203 e204 e205 e206 e207 e208 e209 e210 e211 e212 e213 e214
 subst_vars; grind
theorem moveHjelmslev_r0 : (callB (sx Tryz.prog moveHjelmslev_N [(6, 0, 1, 1)] [] moveHjelmslev_L moveHjelmslev_C moveHjelmslev_Z (prQ [50])) 5 17 [(false, [(true, [.inr (2, 0, 0, 0, 0), .inr (2, 1, 0, 0, 0), .inr (2, 2, 0, 0, 0), .inr (2, 3, 0, 0, 0), .inr (2, 4, 0, 0, 0), .inr (2, 5, 0, 0, 0)])]), (false, [(true, [.inr (2, 6, 0, 0, 0), .inr (2, 7, 0, 0, 0), .inr (2, 8, 0, 0, 0)])]), (false, [(true, [.inr (2, 9, 0, 0, 0), .inr (2, 10, 0, 0, 0), .inr (2, 11, 0, 0, 0)])])] [] 0).map (·.1) = some (kB true) := by kernel_rfl
theorem moveHjelmslev_r1 : (callB (sx Tryz.prog moveHjelmslev_N [(6, 0, 1, 0), (0, 50, 0, 1), (0, 51, 0, 1)] [(218, [.inr (3, 13, 0, 0, 0)])] moveHjelmslev_L moveHjelmslev_C moveHjelmslev_Z (prQ [50])) 8 17 [(false, [(true, [.inr (2, 0, 0, 0, 0), .inr (2, 1, 0, 0, 0), .inr (2, 2, 0, 0, 0), .inr (2, 3, 0, 0, 0), .inr (2, 4, 0, 0, 0), .inr (2, 5, 0, 0, 0)])]), (false, [(true, [.inr (2, 6, 0, 0, 0), .inr (2, 7, 0, 0, 0), .inr (2, 8, 0, 0, 0)])]), (false, [(true, [.inr (2, 9, 0, 0, 0), .inr (2, 10, 0, 0, 0), .inr (2, 11, 0, 0, 0)])])] [] 0).map (·.1) = some (kB true) := by kernel_rfl
theorem moveHjelmslev_r2 : (callB (sx Tryz.prog moveHjelmslev_N [(6, 0, 1, 0), (0, 50, 0, 1), (0, 51, 0, 0), (6, 68, 69, 1)] [(218, [.inr (3, 13, 0, 0, 0)]), (208, [.inr (3, 120, 0, 0, 0)]), (208, [.inr (3, 131, 0, 0, 0)])] moveHjelmslev_L moveHjelmslev_C moveHjelmslev_Z (prQ [50])) 8 17 [(false, [(true, [.inr (2, 0, 0, 0, 0), .inr (2, 1, 0, 0, 0), .inr (2, 2, 0, 0, 0), .inr (2, 3, 0, 0, 0), .inr (2, 4, 0, 0, 0), .inr (2, 5, 0, 0, 0)])]), (false, [(true, [.inr (2, 6, 0, 0, 0), .inr (2, 7, 0, 0, 0), .inr (2, 8, 0, 0, 0)])]), (false, [(true, [.inr (2, 9, 0, 0, 0), .inr (2, 10, 0, 0, 0), .inr (2, 11, 0, 0, 0)])])] [] 0).map (·.1) = some (kB true) := by kernel_rfl
theorem moveHjelmslev_r3 : (callB (sx Tryz.prog moveHjelmslev_N [(6, 0, 1, 0), (0, 50, 0, 1), (0, 51, 0, 0), (6, 68, 69, 0), (0, 214, 0, 1)] [(218, [.inr (3, 13, 0, 0, 0)]), (208, [.inr (3, 120, 0, 0, 0)]), (208, [.inr (3, 131, 0, 0, 0)]), (218, [.inr (3, 211, 0, 0, 0)]), (208, [.inr (3, 318, 0, 0, 0)]), (208, [.inr (3, 329, 0, 0, 0)]), (208, [.inr (3, 430, 0, 0, 0)]), (208, [.inr (3, 515, 0, 0, 0)]), (208, [.inr (3, 600, 0, 0, 0)])] moveHjelmslev_L moveHjelmslev_C moveHjelmslev_Z (prQ [50])) 8 17 [(false, [(true, [.inr (2, 0, 0, 0, 0), .inr (2, 1, 0, 0, 0), .inr (2, 2, 0, 0, 0), .inr (2, 3, 0, 0, 0), .inr (2, 4, 0, 0, 0), .inr (2, 5, 0, 0, 0)])]), (false, [(true, [.inr (2, 6, 0, 0, 0), .inr (2, 7, 0, 0, 0), .inr (2, 8, 0, 0, 0)])]), (false, [(true, [.inr (2, 9, 0, 0, 0), .inr (2, 10, 0, 0, 0), .inr (2, 11, 0, 0, 0)])])] [] 0).map (·.1) = some (kB true) := by kernel_rfl
theorem moveHjelmslev_r4 : (callB (sx Tryz.prog moveHjelmslev_N [(6, 0, 1, 0), (0, 50, 0, 0), (6, 68, 69, 1)] [(218, [.inr (3, 13, 0, 0, 0)]), (208, [.inr (3, 120, 0, 0, 0)]), (208, [.inr (3, 131, 0, 0, 0)])] moveHjelmslev_L moveHjelmslev_C moveHjelmslev_Z (prQ [50])) 8 17 [(false, [(true, [.inr (2, 0, 0, 0, 0), .inr (2, 1, 0, 0, 0), .inr (2, 2, 0, 0, 0), .inr (2, 3, 0, 0, 0), .inr (2, 4, 0, 0, 0), .inr (2, 5, 0, 0, 0)])]), (false, [(true, [.inr (2, 6, 0, 0, 0), .inr (2, 7, 0, 0, 0), .inr (2, 8, 0, 0, 0)])]), (false, [(true, [.inr (2, 9, 0, 0, 0), .inr (2, 10, 0, 0, 0), .inr (2, 11, 0, 0, 0)])])] [] 0).map (·.1) = some (kB true) := by kernel_rfl
theorem moveHjelmslev_r5 : (callB (sx Tryz.prog moveHjelmslev_N [(6, 0, 1, 0), (0, 50, 0, 0), (6, 68, 69, 0), (0, 214, 0, 1)] [(218, [.inr (3, 13, 0, 0, 0)]), (208, [.inr (3, 120, 0, 0, 0)]), (208, [.inr (3, 131, 0, 0, 0)]), (218, [.inr (3, 211, 0, 0, 0)]), (208, [.inr (3, 318, 0, 0, 0)]), (208, [.inr (3, 329, 0, 0, 0)]), (208, [.inr (3, 430, 0, 0, 0)]), (208, [.inr (3, 515, 0, 0, 0)]), (208, [.inr (3, 600, 0, 0, 0)])] moveHjelmslev_L moveHjelmslev_C moveHjelmslev_Z (prQ [50])) 8 17 [(false, [(true, [.inr (2, 0, 0, 0, 0), .inr (2, 1, 0, 0, 0), .inr (2, 2, 0, 0, 0), .inr (2, 3, 0, 0, 0), .inr (2, 4, 0, 0, 0), .inr (2, 5, 0, 0, 0)])]), (false, [(true, [.inr (2, 6, 0, 0, 0), .inr (2, 7, 0, 0, 0), .inr (2, 8, 0, 0, 0)])]), (false, [(true, [.inr (2, 9, 0, 0, 0), .inr (2, 10, 0, 0, 0), .inr (2, 11, 0, 0, 0)])])] [] 0).map (·.1) = some (kB true) := by kernel_rfl
theorem moveHjelmslev_An {a b : Prop} (x : a) (y : b) : a ∧ b := ⟨x, y⟩
theorem moveHjelmslev_leaf {H : List (Nat × Nat × Nat × Nat)} {K : List (FuncId × List AC)} {k : Nat} {q : Nat → Rat} {σ : Nat → ByteArray} {args : List AV} {vs : List Value} {w : World} (hr : (callB (sx Tryz.prog moveHjelmslev_N H K moveHjelmslev_L moveHjelmslev_C moveHjelmslev_Z (prQ [50])) k 17 args [] 0).map (·.1) = some (kB true)) (hσ : ∀ j, (σ j).size ≤ 1048576) (hq : ∀ (a : Nat) nd, moveHjelmslev_N[a]? = some nd → q a = valN σ q nd) (h0 : ∀ a, moveHjelmslev_N.length ≤ a → q a = 0) (hH : hAll q H) (hp : PreS w) (hA : ∀ K, A2 (avOn (cOn (evS q σ) K (fun _ => none) w)) args vs) : Calls Tryz.prog 17 vs.toArray w fun e w' => Below w.heap.size w w' ∧ e = .returned (.bool true) :=
 run_toldQ' k (hy_ofW hσ moveHjelmslev_wf moveHjelmslev_sz moveHjelmslev_lt moveHjelmslev_cn hq h0 hH) (by simp [closed_moved]) (by kernel_rfl) hr hp (hA K)
theorem moveHjelmslev_walk {w : World} {uaa uab uac uba ubb ubc la lb lc ka kb kc : ByteArray} (suaa : uaa.size ≤ 1048576) (suab : uab.size ≤ 1048576) (suac : uac.size ≤ 1048576) (suba : uba.size ≤ 1048576) (subb : ubb.size ≤ 1048576) (subc : ubc.size ≤ 1048576) (sla : la.size ≤ 1048576) (slb : lb.size ≤ 1048576) (slc : lc.size ≤ 1048576) (ska : ka.size ≤ 1048576) (skb : kb.size ≤ 1048576) (skc : kc.size ≤ 1048576) (tab : Tab w) (mx : MaxL w) :
  Calls Tryz.prog 17 #[.agg #[.string uaa, .string uab, .string uac, .string uba, .string ubb, .string ubc], .agg #[.string la, .string lb, .string lc], .agg #[.string ka, .string kb, .string kc]] w fun e w' => Below w.heap.size w w' ∧ e = .returned (.bool true) := by
 have hσ : ∀ j, (sgOf [uaa, uab, uac, uba, ubb, ubc, la, lb, lc, ka, kb, kc] j).size ≤ 1048576 := sgOf_size (by simp [suaa, suab, suac, suba, subb, subc, sla, slb, slc, ska, skb, skc])
 obtain ⟨q, hq, h0⟩ := nodes_exist (sgOf [uaa, uab, uac, uba, ubb, ubc, la, lb, lc, ka, kb, kc]) moveHjelmslev_N moveHjelmslev_wf
 have hA : ∀ K, A2 (avOn (cOn (evS q (sgOf [uaa, uab, uac, uba, ubb, ubc, la, lb, lc, ka, kb, kc])) K (fun _ => none) w)) [(false, [(true, [.inr (2, 0, 0, 0, 0), .inr (2, 1, 0, 0, 0), .inr (2, 2, 0, 0, 0), .inr (2, 3, 0, 0, 0), .inr (2, 4, 0, 0, 0), .inr (2, 5, 0, 0, 0)])]), (false, [(true, [.inr (2, 6, 0, 0, 0), .inr (2, 7, 0, 0, 0), .inr (2, 8, 0, 0, 0)])]), (false, [(true, [.inr (2, 9, 0, 0, 0), .inr (2, 10, 0, 0, 0), .inr (2, 11, 0, 0, 0)])])] [.agg #[.string uaa, .string uab, .string uac, .string uba, .string ubb, .string ubc], .agg #[.string la, .string lb, .string lc], .agg #[.string ka, .string kb, .string kc]] := fun K => ⟨⟨⟨[.string uaa, .string uab, .string uac, .string uba, .string ubb, .string ubc], rfl, rfl, rfl, rfl, rfl, rfl, rfl, trivial⟩, trivial⟩, ⟨⟨[.string la, .string lb, .string lc], rfl, rfl, rfl, rfl, trivial⟩, trivial⟩, ⟨⟨[.string ka, .string kb, .string kc], rfl, rfl, rfl, rfl, trivial⟩, trivial⟩, trivial⟩
 have E3 : q 3 = 0 := (hq 3 _ rfl).trans moveHjelmslev_c3
 have E143 : q 143 = -q 51 := hq 143 _ rfl
 have E145 : q 145 = q 143 * q 144 := hq 145 _ rfl
 have E146 : q 146 = q 50 * q 144 := hq 146 _ rfl
 have E147 : q 147 = q 141 + q 145 := hq 147 _ rfl
 have E148 : q 148 = q 142 + q 146 := hq 148 _ rfl
 have E149 : q 149 = q 119 * q 147 := hq 149 _ rfl
 have E150 : q 150 = q 120 * q 147 := hq 150 _ rfl
 have E151 : q 151 = q 125 * q 148 := hq 151 _ rfl
 have E152 : q 152 = q 126 * q 148 := hq 152 _ rfl
 have E153 : q 153 = q 149 + q 151 := hq 153 _ rfl
 have E154 : q 154 = q 150 + q 152 := hq 154 _ rfl
 have E155 : q 155 = q 153 + q 133 := hq 155 _ rfl
 have E156 : q 156 = q 154 + q 134 := hq 156 _ rfl
 have E157 : q 157 = q 155 - q 147 := hq 157 _ rfl
 have E158 : q 158 = q 156 - q 148 := hq 158 _ rfl
 have E159 : q 159 = (1 / 2) := (hq 159 _ rfl).trans moveHjelmslev_c159
 have E160 : q 160 = q 157 * q 159 := hq 160 _ rfl
 have E161 : q 161 = q 158 * q 159 := hq 161 _ rfl
 have E162 : q 162 = q 3 + q 147 := hq 162 _ rfl
 have E163 : q 163 = q 3 + q 148 := hq 163 _ rfl
 have E164 : q 164 = q 162 + q 160 := hq 164 _ rfl
 have E165 : q 165 = q 163 + q 161 := hq 165 _ rfl
 have E167 : q 167 = q 143 * q 166 := hq 167 _ rfl
 have E168 : q 168 = q 50 * q 166 := hq 168 _ rfl
 have E169 : q 169 = q 141 + q 167 := hq 169 _ rfl
 have E170 : q 170 = q 142 + q 168 := hq 170 _ rfl
 have E171 : q 171 = q 119 * q 169 := hq 171 _ rfl
 have E172 : q 172 = q 120 * q 169 := hq 172 _ rfl
 have E173 : q 173 = q 125 * q 170 := hq 173 _ rfl
 have E174 : q 174 = q 126 * q 170 := hq 174 _ rfl
 have E175 : q 175 = q 171 + q 173 := hq 175 _ rfl
 have E176 : q 176 = q 172 + q 174 := hq 176 _ rfl
 have E177 : q 177 = q 175 + q 133 := hq 177 _ rfl
 have E178 : q 178 = q 176 + q 134 := hq 178 _ rfl
 have E179 : q 179 = q 177 - q 169 := hq 179 _ rfl
 have E180 : q 180 = q 178 - q 170 := hq 180 _ rfl
 have E181 : q 181 = q 179 * q 159 := hq 181 _ rfl
 have E182 : q 182 = q 180 * q 159 := hq 182 _ rfl
 have E183 : q 183 = q 3 + q 169 := hq 183 _ rfl
 have E184 : q 184 = q 3 + q 170 := hq 184 _ rfl
 have E185 : q 185 = q 183 + q 181 := hq 185 _ rfl
 have E186 : q 186 = q 184 + q 182 := hq 186 _ rfl
 have E188 : q 188 = q 143 * q 187 := hq 188 _ rfl
 have E189 : q 189 = q 50 * q 187 := hq 189 _ rfl
 have E190 : q 190 = q 141 + q 188 := hq 190 _ rfl
 have E191 : q 191 = q 142 + q 189 := hq 191 _ rfl
 have E192 : q 192 = q 119 * q 190 := hq 192 _ rfl
 have E193 : q 193 = q 120 * q 190 := hq 193 _ rfl
 have E194 : q 194 = q 125 * q 191 := hq 194 _ rfl
 have E195 : q 195 = q 126 * q 191 := hq 195 _ rfl
 have E196 : q 196 = q 192 + q 194 := hq 196 _ rfl
 have E197 : q 197 = q 193 + q 195 := hq 197 _ rfl
 have E198 : q 198 = q 196 + q 133 := hq 198 _ rfl
 have E199 : q 199 = q 197 + q 134 := hq 199 _ rfl
 have E200 : q 200 = q 198 - q 190 := hq 200 _ rfl
 have E201 : q 201 = q 199 - q 191 := hq 201 _ rfl
 have E202 : q 202 = q 200 * q 159 := hq 202 _ rfl
 have E203 : q 203 = q 201 * q 159 := hq 203 _ rfl
 have E204 : q 204 = q 3 + q 190 := hq 204 _ rfl
 have E205 : q 205 = q 3 + q 191 := hq 205 _ rfl
 have E206 : q 206 = q 204 + q 202 := hq 206 _ rfl
 have E207 : q 207 = q 205 + q 203 := hq 207 _ rfl
 have E208 : q 208 = q 185 - q 164 := hq 208 _ rfl
 have E209 : q 209 = q 186 - q 165 := hq 209 _ rfl
 have E210 : q 210 = q 206 - q 164 := hq 210 _ rfl
 have E211 : q 211 = q 207 - q 165 := hq 211 _ rfl
 have E212 : q 212 = q 208 * q 211 := hq 212 _ rfl
 have E213 : q 213 = q 209 * q 210 := hq 213 _ rfl
 have E214 : q 214 = q 212 - q 213 := hq 214 _ rfl
 by_cases a_6_0_1 : q 0 = 0 ∧ q 1 = 0
 ·
  exact moveHjelmslev_leaf moveHjelmslev_r0 hσ hq h0 (moveHjelmslev_An (hT a_6_0_1) trivial) ⟨tab, mx⟩ hA
 ·
  by_cases b50 : q 50 = 0
  ·
   by_cases b51 : q 51 = 0
   ·
    exact moveHjelmslev_leaf moveHjelmslev_r1 hσ hq h0 (moveHjelmslev_An (hF a_6_0_1) (moveHjelmslev_An (hT b50) (moveHjelmslev_An (hT b51) trivial))) ⟨tab, mx⟩ hA
   ·
    by_cases a_6_68_69 : q 68 = 0 ∧ q 69 = 0
    ·
     exact moveHjelmslev_leaf moveHjelmslev_r2 hσ hq h0 (moveHjelmslev_An (hF a_6_0_1) (moveHjelmslev_An (hT b50) (moveHjelmslev_An (hF b51) (moveHjelmslev_An (hT a_6_68_69) trivial)))) ⟨tab, mx⟩ hA
    ·
     have b214 : q 214 = 0 := moveHjelmslev_f0 E3 E143 E145 E146 E147 E148 E149 E150 E151 E152 E153 E154 E155 E156 E157 E158 E159 E160 E161 E162 E163 E164 E165 E167 E168 E169 E170 E171 E172 E173 E174 E175 E176 E177 E178 E179 E180 E181 E182 E183 E184 E185 E186 E188 E189 E190 E191 E192 E193 E194 E195 E196 E197 E198 E199 E200 E201 E202 E203 E204 E205 E206 E207 E208 E209 E210 E211 E212 E213 E214
     exact moveHjelmslev_leaf moveHjelmslev_r3 hσ hq h0 (moveHjelmslev_An (hF a_6_0_1) (moveHjelmslev_An (hT b50) (moveHjelmslev_An (hF b51) (moveHjelmslev_An (hF a_6_68_69) (moveHjelmslev_An (hT b214) trivial))))) ⟨tab, mx⟩ hA
  ·
   by_cases a_6_68_69 : q 68 = 0 ∧ q 69 = 0
   ·
    exact moveHjelmslev_leaf moveHjelmslev_r4 hσ hq h0 (moveHjelmslev_An (hF a_6_0_1) (moveHjelmslev_An (hF b50) (moveHjelmslev_An (hT a_6_68_69) trivial))) ⟨tab, mx⟩ hA
   ·
    have b214 : q 214 = 0 := moveHjelmslev_f0 E3 E143 E145 E146 E147 E148 E149 E150 E151 E152 E153 E154 E155 E156 E157 E158 E159 E160 E161 E162 E163 E164 E165 E167 E168 E169 E170 E171 E172 E173 E174 E175 E176 E177 E178 E179 E180 E181 E182 E183 E184 E185 E186 E188 E189 E190 E191 E192 E193 E194 E195 E196 E197 E198 E199 E200 E201 E202 E203 E204 E205 E206 E207 E208 E209 E210 E211 E212 E213 E214
    exact moveHjelmslev_leaf moveHjelmslev_r5 hσ hq h0 (moveHjelmslev_An (hF a_6_0_1) (moveHjelmslev_An (hF b50) (moveHjelmslev_An (hF a_6_68_69) (moveHjelmslev_An (hT b214) trivial)))) ⟨tab, mx⟩ hA
end Go.Proofs.YtkcikcnimkofkaaGreatDoor
