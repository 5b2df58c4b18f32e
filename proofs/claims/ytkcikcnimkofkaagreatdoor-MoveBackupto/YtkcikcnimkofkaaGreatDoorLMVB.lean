/- Part 13 of the walks and of the mathematics under them: VY VSZ CFmoved MVB. -/
import Derived.Test.YtkcikcnimkofkaaGreatDoorA12
set_option maxHeartbeats 16000000
set_option maxRecDepth 100000
/- VY -/
namespace Go.Proofs.YtkcikcnimkofkaaGreatDoor
open Go.RowKit Cx
theorem den_num (t : Rat) : t * (t.den : Rat) = ((t.num : Int) : Rat) := by
 conv => lhs; lhs; rw [← Rat.mkRat_self t]
 have h0 : (t.den : Rat) ≠ 0 := fun h => t.den_nz (by exact_mod_cast h)
 rw [Rat.mkRat_eq_div, Rat.div_mul_cancel h0]
theorem whole {q : Rat} (h : q.den = 1) : q = ((q.num : Int) : Rat) := by
 have := den_num q
 rw [h] at this
 rw [← this]
 show q = q * ((1 : Nat) : Rat)
 exact (Rat.mul_one q).symm
end Go.Proofs.YtkcikcnimkofkaaGreatDoor
/- VSZ -/
namespace Go.Proofs.YtkcikcnimkofkaaGreatDoor
open Go.RowKit Cx
def szW (Z : List Nat) (I : List Bool) (z : Nat) (b : Bool) (nd : Nd) : Bool := match nd.1, nd.2 with
 | 0, [_, n, d] => (Nat.blt n (2 ^ z) && (Nat.blt 0 d && Nat.blt d (2 ^ z))) && (!b || Nat.beq d 1)
 | 1, [_] => Nat.ble 3495259 z && !b
 | 2, [a, c] => (match Z[a]?, Z[c]?, I[a]?, I[c]? with
  | some x, some y, some true, some true => Nat.ble (Nat.max x y + 1) z
  | some x, some y, _, _ => Nat.ble (x + y + 1) z && !b
  | _, _, _, _ => false)
 | 3, [a, c] => (match Z[a]?, Z[c]?, I[a]?, I[c]? with
  | some x, some y, some true, some true => Nat.ble (Nat.max x y + 1) z
  | some x, some y, _, _ => Nat.ble (x + y + 1) z && !b
  | _, _, _, _ => false)
 | 4, [a, c] => (match Z[a]?, Z[c]?, I[a]?, I[c]? with
  | some x, some y, some true, some true => Nat.ble (x + y) z
  | some x, some y, _, _ => Nat.ble (x + y) z && !b
  | _, _, _, _ => false)
 | 5, [a] => (match Z[a]?, I[a]? with
  | some x, some true => Nat.ble x z
  | some x, _ => Nat.ble x z && !b
  | _, _ => false)
 | 6, [a, c] => (match Z[a]?, Z[c]? with
  | some x, some y => Nat.ble (x + y) z && !b
  | _, _ => false)
 | 8, i :: xs => (match getsO Z xs with
  | some zs => Nat.blt i xs.length && (Nat.ble ((xs.length + 1) * maxL zs + 1) z || (xs.all (fun a => match I[a]? with
   | some true => true
   | _ => false) && (match xs[i]? with
   | some a => (match Z[a]? with
    | some x => Nat.ble (x + 1) z
    | none => false)
   | none => false)))
  | none => false)
 | _, _ => false
def szC (Z : List Nat) (I : List Bool) : List Nd → List Nat → List Bool → Bool
 | [], [], [] => true
 | nd :: ns, z :: zs, b :: bs => (szW Z I z b nd && Nat.ble z 1000000000000) && szC Z I ns zs bs
 | _, _, _ => false
theorem szC_get {Z : List Nat} {I : List Bool} : ∀ {ns : List Nd} {zs : List Nat} {bs : List Bool} {i z : Nat}, szC Z I ns zs bs = true → zs[i]? = some z → ∃ nd b, ns[i]? = some nd ∧ bs[i]? = some b ∧ szW Z I z b nd = true ∧ z ≤ 1000000000000
 | [], [], [], _, _, _, h => by simp at h
 | [], [], _ :: _, _, _, h, _ => by cases h
 | [], _ :: _, _, _, _, h, _ => by cases h
 | _ :: _, [], _, _, _, h, _ => by cases h
 | _ :: _, _ :: _, [], _, _, h, _ => by cases h
 | nd :: ns, z' :: zs, b :: bs, 0, z, h, e => by
  have : z' = z := by simpa using e
  subst this
  unfold szC at h
  simp only [Bool.and_eq_true, Nat.ble_eq] at h
  exact ⟨nd, b, rfl, rfl, h.1.1, h.1.2⟩
 | nd :: ns, z' :: zs, b :: bs, i + 1, z, h, e => by
  unfold szC at h
  rw [Bool.and_eq_true] at h
  obtain ⟨nd2, b2, g1, g2, g3⟩ := szC_get (ns := ns) (zs := zs) (bs := bs) h.2 (show zs[i]? = some z by simpa using e)
  exact ⟨nd2, b2, by simpa using g1, by simpa using g2, g3⟩
theorem szC_len {Z : List Nat} {I : List Bool} : ∀ {ns : List Nd} {zs : List Nat} {bs : List Bool}, szC Z I ns zs bs = true → ns.length = zs.length
 | [], [], [], _ => rfl
 | [], [], _ :: _, h => by cases h
 | [], _ :: _, _, h => by cases h
 | _ :: _, [], _, h => by cases h
 | _ :: _, _ :: _, [], h => by cases h
 | _ :: _, _ :: _, _ :: _, h => by
  unfold szC at h
  rw [Bool.and_eq_true] at h
  exact congrArg (· + 1) (szC_len h.2)
structure QW (z : Nat) (x : Rat) : Prop where
 qs : QS z x
 wh : x.den = 1
theorem QW.of {z : Nat} {n : Int} (h : n.natAbs < 2 ^ z) (hz : 0 < z) : QW z ((n : Int) : Rat) :=
 ⟨⟨by simpa using h, by
  show ((n : Int) : Rat).den < 2 ^ z
  rw [Rat.den_intCast]
  exact Nat.one_lt_two_pow (by omega)⟩, Rat.den_intCast n⟩
theorem QW.mono {k l : Nat} {x : Rat} (h : QW k x) (hk : k ≤ l) : QW l x := ⟨h.qs.mono hk, h.wh⟩
theorem two_max {a b x y : Nat} (h1 : a < 2 ^ x) (h2 : b < 2 ^ y) : a + b < 2 ^ (Nat.max x y + 1) := by
 have e1 : 2 ^ x ≤ 2 ^ Nat.max x y := Nat.pow_le_pow_right (by decide) (Nat.le_max_left x y)
 have e2 : 2 ^ y ≤ 2 ^ Nat.max x y := Nat.pow_le_pow_right (by decide) (Nat.le_max_right x y)
 rw [Nat.pow_succ]
 omega
theorem QW.add {x y : Nat} {a b : Rat} (h1 : QW x a) (h2 : QW y b) : QW (Nat.max x y + 1) (a + b) := by
 rw [whole h1.wh, whole h2.wh, ← Rat.intCast_add]
 refine QW.of ?_ (by omega)
 have := two_max h1.qs.num h2.qs.num
 omega
theorem QW.sub {x y : Nat} {a b : Rat} (h1 : QW x a) (h2 : QW y b) : QW (Nat.max x y + 1) (a - b) := by
 rw [whole h1.wh, whole h2.wh, ← Rat.intCast_sub]
 refine QW.of ?_ (by omega)
 have := two_max h1.qs.num h2.qs.num
 omega
theorem QW.mul {x y : Nat} {a b : Rat} (h1 : QW x a) (h2 : QW y b) : QW (x + y) (a * b) := by
 refine ⟨h1.qs.mul h2.qs, ?_⟩
 rw [whole h1.wh, whole h2.wh, ← Rat.intCast_mul]
 exact Rat.den_intCast _
theorem QW.neg {x : Nat} {a : Rat} (h1 : QW x a) : QW x (-a) := ⟨h1.qs.neg, h1.wh⟩
theorem lD_one : ∀ {qs : List Rat} {m : Nat}, (∀ q ∈ qs, q.den = 1) → qs.foldl (fun m q => m * (q.den / Nat.gcd m q.den)) m = m
 | [], _, _ => rfl
 | q :: qs, m, h => by
  rw [List.foldl_cons, h q List.mem_cons_self, Nat.gcd_one_right, Nat.div_self (by decide), Nat.mul_one]
  exact lD_one fun p hp => h p (List.mem_cons_of_mem _ hp)
theorem QW.fac {z : Nat} {qs : List Rat} {x : Rat} (hx : QS z x) (h : x ∈ qs) (hw : ∀ y ∈ qs, y.den = 1) : QS (z + 1) (x * fac qs) := by
 have hl : lD qs = 1 := lD_one hw
 refine ⟨?_, ?_⟩
 ·rw [fac_abs h, hl, hw x h, Nat.div_self (by decide), Nat.mul_one]
  exact Nat.lt_of_le_of_lt (Nat.div_le_self _ _) (Nat.lt_of_lt_of_le hx.num (Nat.pow_le_pow_right (by decide) (by omega)))
 ·rw [fac_den h]
  exact Nat.one_lt_two_pow (by omega)
theorem ten_three : ∀ n : Nat, 10 ^ n ≤ 2 ^ ((10 * n + 2) / 3)
 | 0 => by decide
 | 1 => by decide
 | 2 => by decide
 | n + 3 => by
  have h := ten_three n
  have e : (10 * (n + 3) + 2) / 3 = (10 * n + 2) / 3 + 10 := by omega
  rw [e, Nat.pow_add, Nat.pow_add]
  exact Nat.mul_le_mul h (by decide)
theorem QS.rd3 (l : List UInt8) : QS ((10 * l.length + 2) / 3 + 5) (Cx.rd l) := by
 have key : ∀ {m : List UInt8}, digs m = true → dv m < 2 ^ ((10 * m.length + 2) / 3) := fun {m} h => Nat.lt_of_lt_of_le (dv_lt (digs_all h)) (ten_three _)
 unfold Cx.rd
 split
 ·rename_i h
  rw [Bool.and_eq_true] at h
  have h1 := key h.1
  have h2 := key h.2
  have h3 := up_len (tailOf l)
  have h4 := low_len (tailOf l)
  have h5 := tail_len l
  apply QS.mkr
  ·rw [sg_abs]; exact Nat.lt_of_lt_of_le h1 (Nat.pow_le_pow_right (by decide) (by omega))
  ·exact Nat.lt_of_lt_of_le h2 (Nat.pow_le_pow_right (by decide) (by omega))
 ·exact QS.zero.mono (by omega)
section
variable {N : List Nd} {Z : List Nat} {I : List Bool} {q : Nat → Rat}
theorem sizes_okW {σ : Nat → ByteArray} (hσ : ∀ j, (σ j).size ≤ 1048576) (hw : wfB 0 N = true) (hz : szC Z I N Z I = true) (hq : ∀ (a : Nat) nd, N[a]? = some nd → q a = valN σ q nd) (h0 : ∀ a, N.length ≤ a → q a = 0) : (∀ (a : Nat) z, Z[a]? = some z → QS z (q a)) ∧ ∀ a, QS 1000000000000 (q a) := by
 have h2 : ∀ (a : Nat) z, Z[a]? = some z → QS z (q a) ∧ (I[a]? = some true → (q a).den = 1) := by
  intro a
  induction a using Nat.strongRecOn with
  | ind a ih =>
   intro z hz'
   obtain ⟨nd, b, hn, hb, hs, _⟩ := szC_get hz hz'
   have hwf := wfB_get hw hn
   rw [Nat.zero_add] at hwf
   rw [hq a nd hn, hb]
   obtain ⟨op, xs⟩ := nd
   unfold szW at hs
   unfold valN
   unfold wfN at hwf
   dsimp only at hs hwf ⊢
   have W : ∀ {c x}, c < a → Z[c]? = some x → I[c]? = some true → QW x (q c) := fun hc hx hi => ⟨(ih _ hc _ hx).1, (ih _ hc _ hx).2 hi⟩
   have no : ∀ {v : Rat}, b = false → (some b = some true → v.den = 1) := fun e h => by rw [e] at h; cases h
   split at hs
   ·rename_i s n d
    simp only [Bool.and_eq_true] at hs
    obtain ⟨⟨h1, h2, h3⟩, h4⟩ := hs
    refine ⟨QS.const (by simpa [Nat.blt_eq] using h1) (by simpa [Nat.blt_eq] using h2) (by simpa [Nat.blt_eq] using h3), fun e => ?_⟩
    rw [show b = true from Option.some.inj e] at h4
    have hd : d = 1 := by simpa using h4
    subst hd
    show (if s = 0 then mkRat (n : Int) 1 else mkRat (-(n : Int)) 1).den = 1
    split
    ·rw [Rat.mkRat_one]
     exact Rat.den_intCast _
    ·rw [Rat.mkRat_one]
     exact Rat.den_intCast _
   ·rename_i j
    simp only [Bool.and_eq_true, Nat.ble_eq, Bool.not_eq_true'] at hs
    exact ⟨QS.mono (QS.rd3 _) (by have := hσ j; rw [str_len]; omega), no hs.2⟩
   ·simp only [List.all_cons, List.all_nil, Bool.and_true, Bool.and_eq_true] at hwf
    have l1 := (by simpa [Nat.blt_eq] using hwf.1 : _ < a)
    have l2 := (by simpa [Nat.blt_eq] using hwf.2 : _ < a)
    split at hs
    ·rename_i x y hx hy i1 i2
     rw [Nat.ble_eq] at hs
     have := ((W l1 hx i1).add (W l2 hy i2)).mono hs
     exact ⟨this.qs, fun _ => this.wh⟩
    ·rename_i x y hx hy _
     simp only [Bool.and_eq_true, Nat.ble_eq, Bool.not_eq_true'] at hs
     exact ⟨((ih _ l1 x hx).1.add (ih _ l2 y hy).1).mono hs.1, no hs.2⟩
    ·cases hs
   ·simp only [List.all_cons, List.all_nil, Bool.and_true, Bool.and_eq_true] at hwf
    have l1 := (by simpa [Nat.blt_eq] using hwf.1 : _ < a)
    have l2 := (by simpa [Nat.blt_eq] using hwf.2 : _ < a)
    split at hs
    ·rename_i x y hx hy i1 i2
     rw [Nat.ble_eq] at hs
     have := ((W l1 hx i1).sub (W l2 hy i2)).mono hs
     exact ⟨this.qs, fun _ => this.wh⟩
    ·rename_i x y hx hy _
     simp only [Bool.and_eq_true, Nat.ble_eq, Bool.not_eq_true'] at hs
     exact ⟨((ih _ l1 x hx).1.sub (ih _ l2 y hy).1).mono hs.1, no hs.2⟩
    ·cases hs
   ·simp only [List.all_cons, List.all_nil, Bool.and_true, Bool.and_eq_true] at hwf
    have l1 := (by simpa [Nat.blt_eq] using hwf.1 : _ < a)
    have l2 := (by simpa [Nat.blt_eq] using hwf.2 : _ < a)
    split at hs
    ·rename_i x y hx hy i1 i2
     rw [Nat.ble_eq] at hs
     have := ((W l1 hx i1).mul (W l2 hy i2)).mono hs
     exact ⟨this.qs, fun _ => this.wh⟩
    ·rename_i x y hx hy _
     simp only [Bool.and_eq_true, Nat.ble_eq, Bool.not_eq_true'] at hs
     exact ⟨((ih _ l1 x hx).1.mul (ih _ l2 y hy).1).mono hs.1, no hs.2⟩
    ·cases hs
   ·simp only [List.all_cons, List.all_nil, Bool.and_true] at hwf
    have l1 := (by simpa [Nat.blt_eq] using hwf : _ < a)
    split at hs
    ·rename_i x hx i1
     rw [Nat.ble_eq] at hs
     have := (W l1 hx i1).neg.mono hs
     exact ⟨this.qs, fun _ => this.wh⟩
    ·rename_i x hx _
     simp only [Bool.and_eq_true, Nat.ble_eq, Bool.not_eq_true'] at hs
     exact ⟨((ih _ l1 x hx).1.neg).mono hs.1, no hs.2⟩
    ·cases hs
   ·simp only [List.all_cons, List.all_nil, Bool.and_true, Bool.and_eq_true] at hwf
    split at hs
    ·rename_i x y hx hy
     simp only [Bool.and_eq_true, Nat.ble_eq, Bool.not_eq_true'] at hs
     exact ⟨((ih _ (by simpa [Nat.blt_eq] using hwf.1) x hx).1.div (ih _ (by simpa [Nat.blt_eq] using hwf.2) y hy).1).mono hs.1, no hs.2⟩
    ·cases hs
   ·rename_i i ys
    split at hs
    ·rename_i zs hzs
     rw [Bool.and_eq_true] at hs
     have hi : i < ys.length := by simpa [Nat.blt_eq] using hs.1
     have hwf' : ys.all (Nat.blt · a) = true := hwf
     rw [List.all_eq_true] at hwf'
     have hlt : ∀ c ∈ ys, c < a := fun c hc => by simpa [Nat.blt_eq] using hwf' c hc
     have hm : q ys[i] ∈ ys.map q := List.mem_map_of_mem (List.getElem_mem hi)
     have hg : (ys.map q).getD i 0 = q ys[i] := by
      rw [List.getD_eq_getElem?_getD, List.getElem?_map, List.getElem?_eq_getElem hi]
      rfl
     show QS z ((ys.map q).getD i 0 * fac (ys.map q)) ∧ (some b = some true → ((ys.map q).getD i 0 * fac (ys.map q)).den = 1)
     rw [hg]
     refine ⟨?_, fun _ => fac_den hm⟩
     rcases Bool.or_eq_true _ _ ▸ hs.2 with h3 | h3
     ·rw [Nat.ble_eq] at h3
      have hall : ∀ y ∈ ys.map q, QS (maxL zs) y := fun y hy => by
       obtain ⟨c, hc, rfl⟩ := List.mem_map.1 hy
       obtain ⟨z', hm', hz2⟩ := getsO_get hzs c hc
       exact (ih c (hlt c hc) z' hz2).1.mono (le_maxL z' hm')
      have := QS.facN hall (x := q ys[i]) hm
      rw [List.length_map] at this
      exact this.mono h3
     ·rw [Bool.and_eq_true, List.all_eq_true] at h3
      obtain ⟨h4, h5⟩ := h3
      have hwh : ∀ y ∈ ys.map q, y.den = 1 := fun y hy => by
       obtain ⟨c, hc, rfl⟩ := List.mem_map.1 hy
       obtain ⟨z', _, hz2⟩ := getsO_get hzs c hc
       refine (ih c (hlt c hc) z' hz2).2 ?_
       have := h4 c hc
       split at this
       ·assumption
       ·cases this
      rw [List.getElem?_eq_getElem hi] at h5
      dsimp only at h5
      split at h5
      ·rename_i x hx
       rw [Nat.ble_eq] at h5
       exact (QW.fac (ih _ (hlt _ (List.getElem_mem hi)) x hx).1 hm hwh).mono h5
      ·cases h5
    ·cases hs
   ·cases hs
 refine ⟨fun a z h => (h2 a z h).1, fun a => ?_⟩
 have hl := szC_len hz
 by_cases ha : a < Z.length
 ·obtain ⟨nd, b, _, _, _, hle⟩ := szC_get hz (List.getElem?_eq_getElem ha)
  exact (h2 a _ (List.getElem?_eq_getElem ha)).1.mono hle
 ·rw [h0 a (by omega)]
  exact QS.zero.mono (by decide)
theorem hy_ofW {L C : List (List Nat × Nat)} {σ : Nat → ByteArray} {H : List (Nat × Nat × Nat × Nat)} (hσ : ∀ j, (σ j).size ≤ 1048576) (hw : wfB 0 N = true) (hz : szC Z I N Z I = true) (hl : litB N L = true) (hcn : canB N C = true) (hq : ∀ (a : Nat) nd, N[a]? = some nd → q a = valN σ q nd) (h0 : ∀ a, N.length ≤ a → q a = 0) (hH : hAll q H) : Hy N H L C Z q σ where
 nat := hq
 qs := (sizes_okW hσ hw hz hq h0).2
 zs := (sizes_okW hσ hw hz hq h0).1
 par := hσ
 lit := fun s b h => lit_rd hl hq h
 k0 := fun a r h => kn_at hH h
 k1 := fun a r h => kn_at hH h
 k2 := fun a r h => kn_at hH h
 k3 := fun a b r h => kn_at hH h
 k4 := fun l a b r h1 h2 => by
  have h3 : Nat.beq 1 r = true ↔ q a = q b := kn_at hH h2
  rw [h3, ← can_tx hcn hq h1]
  exact ⟨fun e => by rw [e], fun e => tellS_inj (bytesN_inj e)⟩
 k6 := fun a b r h => kn_at hH h
 k5 := fun a r h => kn_at hH h
end
end Go.Proofs.YtkcikcnimkofkaaGreatDoor
/- CFmoved -/
namespace Go.Proofs.YtkcikcnimkofkaaGreatDoor
open Go.RowKit Cx
theorem closed_moved : Closed 50 :=
 closed_told (N := [(0, [0, 1, 1]), (0, [0, 0, 1]), (4, [0, 1]), (4, [1, 1]), (2, [2, 3]), (2, [4, 1]), (5, [5]), (4, [0, 6]), (4, [1, 6]), (4, [0, 0]), (2, [9, 3]), (6, [7, 10]), (6, [8, 10]), (0, [0, 2, 1]), (4, [11, 13]), (4, [12, 13]), (2, [1, 14]), (2, [1, 15]), (2, [10, 1]), (5, [18]), (4, [0, 19]), (4, [1, 19]), (6, [20, 10]), (6, [21, 10]), (4, [22, 13]), (4, [23, 13]), (2, [0, 24]), (2, [1, 25]), (3, [26, 16]), (3, [27, 17]), (4, [1, 0]), (2, [2, 30]), (2, [31, 1]), (5, [32]), (4, [0, 33]), (4, [1, 33]), (6, [34, 10]), (6, [35, 10]), (4, [36, 13]), (4, [37, 13]), (2, [1, 38]), (2, [0, 39]), (3, [40, 16]), (3, [41, 17]), (0, [1, 1, 1]), (2, [4, 44]), (5, [45]), (4, [0, 46]), (4, [1, 46]), (6, [47, 10]), (6, [48, 10]), (4, [49, 13]), (4, [50, 13]), (2, [1, 51]), (2, [1, 52]), (2, [10, 44]), (5, [55]), (4, [0, 56]), (4, [1, 56]), (6, [57, 10]), (6, [58, 10]), (4, [59, 13]), (4, [60, 13]), (2, [0, 61]), (2, [1, 62]), (3, [63, 53]), (3, [64, 54]), (2, [31, 44]), (5, [67]), (4, [0, 68]), (4, [1, 68]), (6, [69, 10]), (6, [70, 10]), (4, [71, 13]), (4, [72, 13]), (2, [1, 73]), (2, [0, 74]), (3, [75, 53]), (3, [76, 54]), (4, [65, 28]), (4, [66, 28]), (4, [77, 29]), (4, [78, 29]), (2, [79, 81]), (2, [80, 82]), (4, [65, 42]), (4, [66, 42]), (4, [77, 43]), (4, [78, 43]), (2, [85, 87]), (2, [86, 88]), (4, [65, 16]), (4, [66, 16]), (4, [77, 17]), (4, [78, 17]), (2, [91, 93]), (2, [92, 94]), (2, [95, 53]), (2, [96, 54]), (4, [83, 83]), (4, [84, 84]), (2, [99, 100]), (3, [101, 0]), (4, [89, 89]), (4, [90, 90]), (2, [103, 104]), (3, [105, 0]), (4, [83, 89]), (4, [84, 90]), (2, [107, 108]), (4, [83, 90]), (4, [84, 89]), (3, [110, 111]), (3, [83, 0]), (3, [84, 1]), (0, [0, 3, 1]), (0, [0, 4, 1]), (4, [28, 115]), (4, [29, 115]), (4, [42, 116]), (4, [43, 116]), (2, [117, 119]), (2, [118, 120]), (2, [121, 16]), (2, [122, 17]), (0, [1, 3, 1])]) (H := [(0, 0, 0, 0), (0, 102, 0, 1), (0, 106, 0, 1), (0, 109, 0, 1), (1, 112, 0, 0), (0, 113, 0, 1), (0, 114, 0, 1), (0, 97, 0, 0), (4, 83, 0, 1), (4, 89, 1, 1), (4, 97, 13, 1), (4, 84, 1, 1), (4, 90, 0, 1), (4, 98, 1, 1), (4, 123, 125, 1), (4, 124, 116, 1)]) (K := [(218, [.inr (3, 9, 0, 0, 0)]), (218, [.inr (3, 121, 0, 0, 0)]), (208, [.inr (3, 227, 0, 0, 0)]), (208, [.inr (3, 238, 0, 0, 0)]), (208, [.inr (3, 311, 0, 0, 0)]), (219, []), (208, [.inr (3, 354, 0, 0, 0)])]) (L := [([49], 0), ([48], 1), ([45, 49], 44), ([50], 13), ([51], 115), ([52], 116), ([45, 51], 125)]) (C := [([49], 0), ([48], 1), ([50], 13), ([45, 51], 125), ([52], 116)]) (Z := [2, 2, 4, 4, 9, 12, 12, 14, 14, 4, 9, 23, 23, 3, 26, 26, 29, 29, 12, 12, 14, 14, 23, 23, 26, 26, 29, 29, 59, 59, 4, 9, 12, 12, 14, 14, 23, 23, 26, 26, 29, 29, 59, 59, 2, 12, 12, 14, 14, 23, 23, 26, 26, 29, 29, 12, 12, 14, 14, 23, 23, 26, 26, 29, 29, 59, 59, 12, 12, 14, 14, 23, 23, 26, 26, 29, 29, 59, 59, 118, 118, 118, 118, 237, 237, 118, 118, 118, 118, 237, 237, 88, 88, 88, 88, 177, 177, 207, 207, 474, 474, 949, 952, 474, 474, 949, 952, 474, 474, 949, 474, 474, 949, 240, 240, 3, 4, 62, 62, 63, 63, 126, 126, 156, 156, 3]) (cl := []) 8 (fun _ h => by cases h) (by kernel_rfl) (by kernel_rfl) (by kernel_rfl) (by kernel_rfl) (by kernel_rfl) (by kernel_rfl) (by kernel_rfl)
end Go.Proofs.YtkcikcnimkofkaaGreatDoor
/- MVB -/
namespace Go.Proofs.YtkcikcnimkofkaaGreatDoor
open Go.RowKit Cx
def moveBack_N : List Nd := [(1, [0]), (1, [3]), (1, [1]), (1, [4]), (1, [2]), (1, [5]), (4, [0, 3]), (4, [1, 2]), (3, [6, 7]), (4, [2, 1]), (3, [6, 9]), (0, [0, 1, 1]), (4, [11, 3]), (0, [0, 0, 1]), (4, [13, 2]), (3, [12, 14]), (4, [0, 13]), (4, [1, 11]), (3, [16, 17]), (6, [15, 8]), (6, [18, 8]), (4, [13, 3]), (4, [11, 2]), (3, [21, 22]), (4, [0, 11]), (4, [1, 13]), (3, [24, 25]), (6, [23, 8]), (6, [26, 8]), (4, [4, 3]), (4, [5, 2]), (3, [29, 30]), (4, [0, 5]), (4, [1, 4]), (3, [32, 33]), (6, [31, 8]), (6, [34, 8]), (5, [35]), (5, [36]), (4, [2, 13]), (2, [16, 39]), (2, [40, 4]), (4, [3, 13]), (2, [25, 42]), (2, [43, 5]), (4, [19, 41]), (4, [27, 44]), (2, [45, 46]), (2, [47, 37]), (4, [20, 41]), (4, [28, 44]), (2, [49, 50]), (2, [51, 38]), (3, [48, 13]), (3, [52, 13]), (2, [24, 39]), (2, [55, 4]), (2, [17, 42]), (2, [57, 5]), (4, [19, 56]), (4, [27, 58]), (2, [59, 60]), (2, [61, 37]), (4, [20, 56]), (4, [28, 58]), (2, [63, 64]), (2, [65, 38]), (3, [62, 11]), (3, [66, 13]), (4, [2, 11]), (2, [16, 69]), (2, [70, 4]), (4, [3, 11]), (2, [25, 72]), (2, [73, 5]), (4, [19, 71]), (4, [27, 74]), (2, [75, 76]), (2, [77, 37]), (4, [20, 71]), (4, [28, 74]), (2, [79, 80]), (2, [81, 38]), (3, [78, 13]), (3, [82, 11])]
def moveBack_L : List (List Nat × Nat) := []
def moveBack_C : List (List Nat × Nat) := []
def moveBack_Z : List Nat := [3495259, 3495259, 3495259, 3495259, 3495259, 3495259, 6990518, 6990518, 13981037, 6990518, 13981037, 2, 3495261, 2, 3495261, 6990523, 3495261, 3495261, 6990523, 20971560, 20971560, 3495261, 3495261, 6990523, 3495261, 3495261, 6990523, 20971560, 20971560, 6990518, 6990518, 13981037, 6990518, 6990518, 13981037, 27962074, 27962074, 27962074, 27962074, 3495261, 6990523, 10485783, 3495261, 6990523, 10485783, 31457343, 31457343, 62914687, 90876762, 31457343, 31457343, 62914687, 90876762, 90876765, 90876765, 6990523, 10485783, 6990523, 10485783, 31457343, 31457343, 62914687, 90876762, 31457343, 31457343, 62914687, 90876762, 90876765, 90876765, 3495261, 6990523, 10485783, 3495261, 6990523, 10485783, 31457343, 31457343, 62914687, 90876762, 31457343, 31457343, 62914687, 90876762, 90876765, 90876765]
def moveBack_I : List Bool := [false, false, false, false, false, false, false, false, false, false, false, true, false, true, false, false, false, false, false, false, false, false, false, false, false, false, false, false, false, false, false, false, false, false, false, false, false, false, false, false, false, false, false, false, false, false, false, false, false, false, false, false, false, false, false, false, false, false, false, false, false, false, false, false, false, false, false, false, false, false, false, false, false, false, false, false, false, false, false, false, false, false, false, false, false]
theorem moveBack_wf : wfB 0 moveBack_N = true := by kernel_rfl
theorem moveBack_sz : szC moveBack_Z moveBack_I moveBack_N moveBack_Z moveBack_I = true := by kernel_rfl
theorem moveBack_lt : litB moveBack_N moveBack_L = true := by kernel_rfl
theorem moveBack_cn : canB moveBack_N moveBack_C = true := by kernel_rfl
theorem moveBack_c11 : cst 0 1 1 = (1 : Rat) := by decide +kernel
theorem moveBack_c13 : cst 0 0 1 = (0 : Rat) := by decide +kernel
theorem moveBack_f0 {z0 z1 z2 z3 z6 z7 z8 z9 z10 : Rat} : z6 = z0 * z3 → z7 = z1 * z2 → z8 = z6 - z7 → z9 = z2 * z1 → z10 = z6 - z9 → (z8 = 0) → z10 = 0 := by
 intro e6 e7 e8 e9 e10 u0
 rw [u0] at e8
 subst_vars; grind
theorem moveBack_f1 {z0 z1 z2 z3 z6 z7 z8 z9 z10 : Rat} : z6 = z0 * z3 → z7 = z1 * z2 → z8 = z6 - z7 → z9 = z2 * z1 → z10 = z6 - z9 → (¬ (z8 = 0)) → ¬ (z10 = 0) := by
 intro e6 e7 e8 e9 e10 u0
 subst_vars; grind
theorem moveBack_f2 {z0 z1 z2 z3 z4 z5 z6 z7 z8 z11 z12 z13 z14 z15 z16 z19 z21 z22 z23 z25 z27 z29 z30 z31 z35 z37 z39 z40 z41 z42 z43 z44 z45 z46 z47 z48 z53 : Rat} : z6 = z0 * z3 → z7 = z1 * z2 → z8 = z6 - z7 → z11 = 1 → z12 = z11 * z3 → z13 = 0 → z14 = z13 * z2 → z15 = z12 - z14 → z16 = z0 * z13 → z19 = z15 / z8 → z21 = z13 * z3 → z22 = z11 * z2 → z23 = z21 - z22 → z25 = z1 * z13 → z27 = z23 / z8 → z29 = z4 * z3 → z30 = z5 * z2 → z31 = z29 - z30 → z35 = z31 / z8 → z37 = -z35 → z39 = z2 * z13 → z40 = z16 + z39 → z41 = z40 + z4 → z42 = z3 * z13 → z43 = z25 + z42 → z44 = z43 + z5 → z45 = z19 * z41 → z46 = z27 * z44 → z47 = z45 + z46 → z48 = z47 + z37 → z53 = z48 - z13 → (¬ (z8 = 0)) → z53 = 0 := by
 intro e6 e7 e8 e11 e12 e13 e14 e15 e16 e19 e21 e22 e23 e25 e27 e29 e30 e31 e35 e37 e39 e40 e41 e42 e43 e44 e45 e46 e47 e48 e53 u0
 have w8 : z8 ≠ 0 := by first | assumption | grind
 have n8 : z8 ≠ 0 := w8
 have h19 : z19 * z8 = z15 := by rw [e19]; exact Rat.div_mul_cancel n8
 obtain ⟨m19, hm19⟩ : ∃ m, m = z15 := ⟨_, rfl⟩
 have d19 : z19 * z8 = m19 := by
  have q : z19 * z8 = z19 * z8 := by grind
  rw [q, h19, hm19]
 clear h19 e19
 have h27 : z27 * z8 = z23 := by rw [e27]; exact Rat.div_mul_cancel n8
 obtain ⟨m27, hm27⟩ : ∃ m, m = z23 := ⟨_, rfl⟩
 have d27 : z27 * z8 = m27 := by
  have q : z27 * z8 = z27 * z8 := by grind
  rw [q, h27, hm27]
 clear h27 e27
 have h35 : z35 * z8 = z31 := by rw [e35]; exact Rat.div_mul_cancel n8
 obtain ⟨m35, hm35⟩ : ∃ m, m = z31 := ⟨_, rfl⟩
 have d35 : z35 * z8 = m35 := by
  have q : z35 * z8 = z35 * z8 := by grind
  rw [q, h35, hm35]
 clear h35 e35
 obtain ⟨m37, hm37⟩ : ∃ m, m = -m35 := ⟨_, rfl⟩
 have d37 : z37 * z8 = m37 := by
  have q : z37 * z8 = -(z35 * z8) := by rw [e37]; grind
  rw [q, d35, hm37]
 clear e37
 obtain ⟨m45, hm45⟩ : ∃ m, m = m19 * z41 := ⟨_, rfl⟩
 have d45 : z45 * z8 = m45 := by
  have q : z45 * z8 = (z19 * z8) * z41 := by rw [e45]; grind
  rw [q, d19, hm45]
 clear e45
 obtain ⟨m46, hm46⟩ : ∃ m, m = m27 * z44 := ⟨_, rfl⟩
 have d46 : z46 * z8 = m46 := by
  have q : z46 * z8 = (z27 * z8) * z44 := by rw [e46]; grind
  rw [q, d27, hm46]
 clear e46
 obtain ⟨m47, hm47⟩ : ∃ m, m = m45 * 1 + m46 * 1 := ⟨_, rfl⟩
 have d47 : z47 * z8 = m47 := by
  have q : z47 * z8 = (z45 * z8) * 1 + (z46 * z8) * 1 := by rw [e47]; grind
  rw [q, d45, d46, hm47]
 clear e47
 obtain ⟨m48, hm48⟩ : ∃ m, m = m47 * 1 + m37 * 1 := ⟨_, rfl⟩
 have d48 : z48 * z8 = m48 := by
  have q : z48 * z8 = (z47 * z8) * 1 + (z37 * z8) * 1 := by rw [e48]; grind
  rw [q, d47, d37, hm48]
 clear e48
 obtain ⟨m53, hm53⟩ : ∃ m, m = m48 * 1 - z13 * z8 := ⟨_, rfl⟩
 have d53 : z53 * z8 = m53 := by
  have q : z53 * z8 = (z48 * z8) * 1 - z13 * z8 := by rw [e53]; grind
  rw [q, d48, hm53]
 clear e53
 have hpoly : m53 = 0 := by
  clear d19 d27 d35 d37 d45 d46 d47 d48 d53
  subst_vars; grind
 have hgoal : z53 = 0 := (Rat.mul_eq_zero.1 (d53.trans hpoly)).resolve_right w8
 exact hgoal
theorem moveBack_f3 {z0 z1 z2 z3 z4 z5 z6 z7 z8 z11 z13 z16 z17 z18 z20 z24 z25 z26 z28 z32 z33 z34 z36 z38 z39 z40 z41 z42 z43 z44 z49 z50 z51 z52 z54 : Rat} : z6 = z0 * z3 → z7 = z1 * z2 → z8 = z6 - z7 → z11 = 1 → z13 = 0 → z16 = z0 * z13 → z17 = z1 * z11 → z18 = z16 - z17 → z20 = z18 / z8 → z24 = z0 * z11 → z25 = z1 * z13 → z26 = z24 - z25 → z28 = z26 / z8 → z32 = z0 * z5 → z33 = z1 * z4 → z34 = z32 - z33 → z36 = z34 / z8 → z38 = -z36 → z39 = z2 * z13 → z40 = z16 + z39 → z41 = z40 + z4 → z42 = z3 * z13 → z43 = z25 + z42 → z44 = z43 + z5 → z49 = z20 * z41 → z50 = z28 * z44 → z51 = z49 + z50 → z52 = z51 + z38 → z54 = z52 - z13 → (¬ (z8 = 0)) → z54 = 0 := by
 intro e6 e7 e8 e11 e13 e16 e17 e18 e20 e24 e25 e26 e28 e32 e33 e34 e36 e38 e39 e40 e41 e42 e43 e44 e49 e50 e51 e52 e54 u0
 have w8 : z8 ≠ 0 := by first | assumption | grind
 have n8 : z8 ≠ 0 := w8
 have h20 : z20 * z8 = z18 := by rw [e20]; exact Rat.div_mul_cancel n8
 obtain ⟨m20, hm20⟩ : ∃ m, m = z18 := ⟨_, rfl⟩
 have d20 : z20 * z8 = m20 := by
  have q : z20 * z8 = z20 * z8 := by grind
  rw [q, h20, hm20]
 clear h20 e20
 have h28 : z28 * z8 = z26 := by rw [e28]; exact Rat.div_mul_cancel n8
 obtain ⟨m28, hm28⟩ : ∃ m, m = z26 := ⟨_, rfl⟩
 have d28 : z28 * z8 = m28 := by
  have q : z28 * z8 = z28 * z8 := by grind
  rw [q, h28, hm28]
 clear h28 e28
 have h36 : z36 * z8 = z34 := by rw [e36]; exact Rat.div_mul_cancel n8
 obtain ⟨m36, hm36⟩ : ∃ m, m = z34 := ⟨_, rfl⟩
 have d36 : z36 * z8 = m36 := by
  have q : z36 * z8 = z36 * z8 := by grind
  rw [q, h36, hm36]
 clear h36 e36
 obtain ⟨m38, hm38⟩ : ∃ m, m = -m36 := ⟨_, rfl⟩
 have d38 : z38 * z8 = m38 := by
  have q : z38 * z8 = -(z36 * z8) := by rw [e38]; grind
  rw [q, d36, hm38]
 clear e38
 obtain ⟨m49, hm49⟩ : ∃ m, m = m20 * z41 := ⟨_, rfl⟩
 have d49 : z49 * z8 = m49 := by
  have q : z49 * z8 = (z20 * z8) * z41 := by rw [e49]; grind
  rw [q, d20, hm49]
 clear e49
 obtain ⟨m50, hm50⟩ : ∃ m, m = m28 * z44 := ⟨_, rfl⟩
 have d50 : z50 * z8 = m50 := by
  have q : z50 * z8 = (z28 * z8) * z44 := by rw [e50]; grind
  rw [q, d28, hm50]
 clear e50
 obtain ⟨m51, hm51⟩ : ∃ m, m = m49 * 1 + m50 * 1 := ⟨_, rfl⟩
 have d51 : z51 * z8 = m51 := by
  have q : z51 * z8 = (z49 * z8) * 1 + (z50 * z8) * 1 := by rw [e51]; grind
  rw [q, d49, d50, hm51]
 clear e51
 obtain ⟨m52, hm52⟩ : ∃ m, m = m51 * 1 + m38 * 1 := ⟨_, rfl⟩
 have d52 : z52 * z8 = m52 := by
  have q : z52 * z8 = (z51 * z8) * 1 + (z38 * z8) * 1 := by rw [e52]; grind
  rw [q, d51, d38, hm52]
 clear e52
 obtain ⟨m54, hm54⟩ : ∃ m, m = m52 * 1 - z13 * z8 := ⟨_, rfl⟩
 have d54 : z54 * z8 = m54 := by
  have q : z54 * z8 = (z52 * z8) * 1 - z13 * z8 := by rw [e54]; grind
  rw [q, d52, hm54]
 clear e54
 have hpoly : m54 = 0 := by
  clear d20 d28 d36 d38 d49 d50 d51 d52 d54
  subst_vars; grind
 have hgoal : z54 = 0 := (Rat.mul_eq_zero.1 (d54.trans hpoly)).resolve_right w8
 exact hgoal
theorem moveBack_f4 {z0 z1 z2 z3 z4 z5 z6 z7 z8 z11 z12 z13 z14 z15 z17 z19 z21 z22 z23 z24 z27 z29 z30 z31 z35 z37 z39 z42 z55 z56 z57 z58 z59 z60 z61 z62 z67 : Rat} : z6 = z0 * z3 → z7 = z1 * z2 → z8 = z6 - z7 → z11 = 1 → z12 = z11 * z3 → z13 = 0 → z14 = z13 * z2 → z15 = z12 - z14 → z17 = z1 * z11 → z19 = z15 / z8 → z21 = z13 * z3 → z22 = z11 * z2 → z23 = z21 - z22 → z24 = z0 * z11 → z27 = z23 / z8 → z29 = z4 * z3 → z30 = z5 * z2 → z31 = z29 - z30 → z35 = z31 / z8 → z37 = -z35 → z39 = z2 * z13 → z42 = z3 * z13 → z55 = z24 + z39 → z56 = z55 + z4 → z57 = z17 + z42 → z58 = z57 + z5 → z59 = z19 * z56 → z60 = z27 * z58 → z61 = z59 + z60 → z62 = z61 + z37 → z67 = z62 - z11 → (¬ (z8 = 0)) → z67 = 0 := by
 intro e6 e7 e8 e11 e12 e13 e14 e15 e17 e19 e21 e22 e23 e24 e27 e29 e30 e31 e35 e37 e39 e42 e55 e56 e57 e58 e59 e60 e61 e62 e67 u0
 have w8 : z8 ≠ 0 := by first | assumption | grind
 have n8 : z8 ≠ 0 := w8
 have h19 : z19 * z8 = z15 := by rw [e19]; exact Rat.div_mul_cancel n8
 obtain ⟨m19, hm19⟩ : ∃ m, m = z15 := ⟨_, rfl⟩
 have d19 : z19 * z8 = m19 := by
  have q : z19 * z8 = z19 * z8 := by grind
  rw [q, h19, hm19]
 clear h19 e19
 have h27 : z27 * z8 = z23 := by rw [e27]; exact Rat.div_mul_cancel n8
 obtain ⟨m27, hm27⟩ : ∃ m, m = z23 := ⟨_, rfl⟩
 have d27 : z27 * z8 = m27 := by
  have q : z27 * z8 = z27 * z8 := by grind
  rw [q, h27, hm27]
 clear h27 e27
 have h35 : z35 * z8 = z31 := by rw [e35]; exact Rat.div_mul_cancel n8
 obtain ⟨m35, hm35⟩ : ∃ m, m = z31 := ⟨_, rfl⟩
 have d35 : z35 * z8 = m35 := by
  have q : z35 * z8 = z35 * z8 := by grind
  rw [q, h35, hm35]
 clear h35 e35
 obtain ⟨m37, hm37⟩ : ∃ m, m = -m35 := ⟨_, rfl⟩
 have d37 : z37 * z8 = m37 := by
  have q : z37 * z8 = -(z35 * z8) := by rw [e37]; grind
  rw [q, d35, hm37]
 clear e37
 obtain ⟨m59, hm59⟩ : ∃ m, m = m19 * z56 := ⟨_, rfl⟩
 have d59 : z59 * z8 = m59 := by
  have q : z59 * z8 = (z19 * z8) * z56 := by rw [e59]; grind
  rw [q, d19, hm59]
 clear e59
 obtain ⟨m60, hm60⟩ : ∃ m, m = m27 * z58 := ⟨_, rfl⟩
 have d60 : z60 * z8 = m60 := by
  have q : z60 * z8 = (z27 * z8) * z58 := by rw [e60]; grind
  rw [q, d27, hm60]
 clear e60
 obtain ⟨m61, hm61⟩ : ∃ m, m = m59 * 1 + m60 * 1 := ⟨_, rfl⟩
 have d61 : z61 * z8 = m61 := by
  have q : z61 * z8 = (z59 * z8) * 1 + (z60 * z8) * 1 := by rw [e61]; grind
  rw [q, d59, d60, hm61]
 clear e61
 obtain ⟨m62, hm62⟩ : ∃ m, m = m61 * 1 + m37 * 1 := ⟨_, rfl⟩
 have d62 : z62 * z8 = m62 := by
  have q : z62 * z8 = (z61 * z8) * 1 + (z37 * z8) * 1 := by rw [e62]; grind
  rw [q, d61, d37, hm62]
 clear e62
 obtain ⟨m67, hm67⟩ : ∃ m, m = m62 * 1 - z11 * z8 := ⟨_, rfl⟩
 have d67 : z67 * z8 = m67 := by
  have q : z67 * z8 = (z62 * z8) * 1 - z11 * z8 := by rw [e67]; grind
  rw [q, d62, hm67]
 clear e67
 have hpoly : m67 = 0 := by
  clear d19 d27 d35 d37 d59 d60 d61 d62 d67
  subst_vars; grind
 have hgoal : z67 = 0 := (Rat.mul_eq_zero.1 (d67.trans hpoly)).resolve_right w8
 exact hgoal
theorem moveBack_f5 {z0 z1 z2 z3 z4 z5 z6 z7 z8 z11 z13 z16 z17 z18 z20 z24 z25 z26 z28 z32 z33 z34 z36 z38 z39 z42 z55 z56 z57 z58 z63 z64 z65 z66 z68 : Rat} : z6 = z0 * z3 → z7 = z1 * z2 → z8 = z6 - z7 → z11 = 1 → z13 = 0 → z16 = z0 * z13 → z17 = z1 * z11 → z18 = z16 - z17 → z20 = z18 / z8 → z24 = z0 * z11 → z25 = z1 * z13 → z26 = z24 - z25 → z28 = z26 / z8 → z32 = z0 * z5 → z33 = z1 * z4 → z34 = z32 - z33 → z36 = z34 / z8 → z38 = -z36 → z39 = z2 * z13 → z42 = z3 * z13 → z55 = z24 + z39 → z56 = z55 + z4 → z57 = z17 + z42 → z58 = z57 + z5 → z63 = z20 * z56 → z64 = z28 * z58 → z65 = z63 + z64 → z66 = z65 + z38 → z68 = z66 - z13 → (¬ (z8 = 0)) → z68 = 0 := by
 intro e6 e7 e8 e11 e13 e16 e17 e18 e20 e24 e25 e26 e28 e32 e33 e34 e36 e38 e39 e42 e55 e56 e57 e58 e63 e64 e65 e66 e68 u0
 have w8 : z8 ≠ 0 := by first | assumption | grind
 have n8 : z8 ≠ 0 := w8
 have h20 : z20 * z8 = z18 := by rw [e20]; exact Rat.div_mul_cancel n8
 obtain ⟨m20, hm20⟩ : ∃ m, m = z18 := ⟨_, rfl⟩
 have d20 : z20 * z8 = m20 := by
  have q : z20 * z8 = z20 * z8 := by grind
  rw [q, h20, hm20]
 clear h20 e20
 have h28 : z28 * z8 = z26 := by rw [e28]; exact Rat.div_mul_cancel n8
 obtain ⟨m28, hm28⟩ : ∃ m, m = z26 := ⟨_, rfl⟩
 have d28 : z28 * z8 = m28 := by
  have q : z28 * z8 = z28 * z8 := by grind
  rw [q, h28, hm28]
 clear h28 e28
 have h36 : z36 * z8 = z34 := by rw [e36]; exact Rat.div_mul_cancel n8
 obtain ⟨m36, hm36⟩ : ∃ m, m = z34 := ⟨_, rfl⟩
 have d36 : z36 * z8 = m36 := by
  have q : z36 * z8 = z36 * z8 := by grind
  rw [q, h36, hm36]
 clear h36 e36
 obtain ⟨m38, hm38⟩ : ∃ m, m = -m36 := ⟨_, rfl⟩
 have d38 : z38 * z8 = m38 := by
  have q : z38 * z8 = -(z36 * z8) := by rw [e38]; grind
  rw [q, d36, hm38]
 clear e38
 obtain ⟨m63, hm63⟩ : ∃ m, m = m20 * z56 := ⟨_, rfl⟩
 have d63 : z63 * z8 = m63 := by
  have q : z63 * z8 = (z20 * z8) * z56 := by rw [e63]; grind
  rw [q, d20, hm63]
 clear e63
 obtain ⟨m64, hm64⟩ : ∃ m, m = m28 * z58 := ⟨_, rfl⟩
 have d64 : z64 * z8 = m64 := by
  have q : z64 * z8 = (z28 * z8) * z58 := by rw [e64]; grind
  rw [q, d28, hm64]
 clear e64
 obtain ⟨m65, hm65⟩ : ∃ m, m = m63 * 1 + m64 * 1 := ⟨_, rfl⟩
 have d65 : z65 * z8 = m65 := by
  have q : z65 * z8 = (z63 * z8) * 1 + (z64 * z8) * 1 := by rw [e65]; grind
  rw [q, d63, d64, hm65]
 clear e65
 obtain ⟨m66, hm66⟩ : ∃ m, m = m65 * 1 + m38 * 1 := ⟨_, rfl⟩
 have d66 : z66 * z8 = m66 := by
  have q : z66 * z8 = (z65 * z8) * 1 + (z38 * z8) * 1 := by rw [e66]; grind
  rw [q, d65, d38, hm66]
 clear e66
 obtain ⟨m68, hm68⟩ : ∃ m, m = m66 * 1 - z13 * z8 := ⟨_, rfl⟩
 have d68 : z68 * z8 = m68 := by
  have q : z68 * z8 = (z66 * z8) * 1 - z13 * z8 := by rw [e68]; grind
  rw [q, d66, hm68]
 clear e68
 have hpoly : m68 = 0 := by
  clear d20 d28 d36 d38 d63 d64 d65 d66 d68
  subst_vars; grind
 have hgoal : z68 = 0 := (Rat.mul_eq_zero.1 (d68.trans hpoly)).resolve_right w8
 exact hgoal
theorem moveBack_f6 {z0 z1 z2 z3 z4 z5 z6 z7 z8 z11 z12 z13 z14 z15 z16 z19 z21 z22 z23 z25 z27 z29 z30 z31 z35 z37 z69 z70 z71 z72 z73 z74 z75 z76 z77 z78 z83 : Rat} : z6 = z0 * z3 → z7 = z1 * z2 → z8 = z6 - z7 → z11 = 1 → z12 = z11 * z3 → z13 = 0 → z14 = z13 * z2 → z15 = z12 - z14 → z16 = z0 * z13 → z19 = z15 / z8 → z21 = z13 * z3 → z22 = z11 * z2 → z23 = z21 - z22 → z25 = z1 * z13 → z27 = z23 / z8 → z29 = z4 * z3 → z30 = z5 * z2 → z31 = z29 - z30 → z35 = z31 / z8 → z37 = -z35 → z69 = z2 * z11 → z70 = z16 + z69 → z71 = z70 + z4 → z72 = z3 * z11 → z73 = z25 + z72 → z74 = z73 + z5 → z75 = z19 * z71 → z76 = z27 * z74 → z77 = z75 + z76 → z78 = z77 + z37 → z83 = z78 - z13 → (¬ (z8 = 0)) → z83 = 0 := by
 intro e6 e7 e8 e11 e12 e13 e14 e15 e16 e19 e21 e22 e23 e25 e27 e29 e30 e31 e35 e37 e69 e70 e71 e72 e73 e74 e75 e76 e77 e78 e83 u0
 have w8 : z8 ≠ 0 := by first | assumption | grind
 have n8 : z8 ≠ 0 := w8
 have h19 : z19 * z8 = z15 := by rw [e19]; exact Rat.div_mul_cancel n8
 obtain ⟨m19, hm19⟩ : ∃ m, m = z15 := ⟨_, rfl⟩
 have d19 : z19 * z8 = m19 := by
  have q : z19 * z8 = z19 * z8 := by grind
  rw [q, h19, hm19]
 clear h19 e19
 have h27 : z27 * z8 = z23 := by rw [e27]; exact Rat.div_mul_cancel n8
 obtain ⟨m27, hm27⟩ : ∃ m, m = z23 := ⟨_, rfl⟩
 have d27 : z27 * z8 = m27 := by
  have q : z27 * z8 = z27 * z8 := by grind
  rw [q, h27, hm27]
 clear h27 e27
 have h35 : z35 * z8 = z31 := by rw [e35]; exact Rat.div_mul_cancel n8
 obtain ⟨m35, hm35⟩ : ∃ m, m = z31 := ⟨_, rfl⟩
 have d35 : z35 * z8 = m35 := by
  have q : z35 * z8 = z35 * z8 := by grind
  rw [q, h35, hm35]
 clear h35 e35
 obtain ⟨m37, hm37⟩ : ∃ m, m = -m35 := ⟨_, rfl⟩
 have d37 : z37 * z8 = m37 := by
  have q : z37 * z8 = -(z35 * z8) := by rw [e37]; grind
  rw [q, d35, hm37]
 clear e37
 obtain ⟨m75, hm75⟩ : ∃ m, m = m19 * z71 := ⟨_, rfl⟩
 have d75 : z75 * z8 = m75 := by
  have q : z75 * z8 = (z19 * z8) * z71 := by rw [e75]; grind
  rw [q, d19, hm75]
 clear e75
 obtain ⟨m76, hm76⟩ : ∃ m, m = m27 * z74 := ⟨_, rfl⟩
 have d76 : z76 * z8 = m76 := by
  have q : z76 * z8 = (z27 * z8) * z74 := by rw [e76]; grind
  rw [q, d27, hm76]
 clear e76
 obtain ⟨m77, hm77⟩ : ∃ m, m = m75 * 1 + m76 * 1 := ⟨_, rfl⟩
 have d77 : z77 * z8 = m77 := by
  have q : z77 * z8 = (z75 * z8) * 1 + (z76 * z8) * 1 := by rw [e77]; grind
  rw [q, d75, d76, hm77]
 clear e77
 obtain ⟨m78, hm78⟩ : ∃ m, m = m77 * 1 + m37 * 1 := ⟨_, rfl⟩
 have d78 : z78 * z8 = m78 := by
  have q : z78 * z8 = (z77 * z8) * 1 + (z37 * z8) * 1 := by rw [e78]; grind
  rw [q, d77, d37, hm78]
 clear e78
 obtain ⟨m83, hm83⟩ : ∃ m, m = m78 * 1 - z13 * z8 := ⟨_, rfl⟩
 have d83 : z83 * z8 = m83 := by
  have q : z83 * z8 = (z78 * z8) * 1 - z13 * z8 := by rw [e83]; grind
  rw [q, d78, hm83]
 clear e83
 have hpoly : m83 = 0 := by
  clear d19 d27 d35 d37 d75 d76 d77 d78 d83
  subst_vars; grind
 have hgoal : z83 = 0 := (Rat.mul_eq_zero.1 (d83.trans hpoly)).resolve_right w8
 exact hgoal
theorem moveBack_f7 {z0 z1 z2 z3 z4 z5 z6 z7 z8 z11 z13 z16 z17 z18 z20 z24 z25 z26 z28 z32 z33 z34 z36 z38 z69 z70 z71 z72 z73 z74 z79 z80 z81 z82 z84 : Rat} : z6 = z0 * z3 → z7 = z1 * z2 → z8 = z6 - z7 → z11 = 1 → z13 = 0 → z16 = z0 * z13 → z17 = z1 * z11 → z18 = z16 - z17 → z20 = z18 / z8 → z24 = z0 * z11 → z25 = z1 * z13 → z26 = z24 - z25 → z28 = z26 / z8 → z32 = z0 * z5 → z33 = z1 * z4 → z34 = z32 - z33 → z36 = z34 / z8 → z38 = -z36 → z69 = z2 * z11 → z70 = z16 + z69 → z71 = z70 + z4 → z72 = z3 * z11 → z73 = z25 + z72 → z74 = z73 + z5 → z79 = z20 * z71 → z80 = z28 * z74 → z81 = z79 + z80 → z82 = z81 + z38 → z84 = z82 - z11 → (¬ (z8 = 0)) → z84 = 0 := by
 intro e6 e7 e8 e11 e13 e16 e17 e18 e20 e24 e25 e26 e28 e32 e33 e34 e36 e38 e69 e70 e71 e72 e73 e74 e79 e80 e81 e82 e84 u0
 have w8 : z8 ≠ 0 := by first | assumption | grind
 have n8 : z8 ≠ 0 := w8
 have h20 : z20 * z8 = z18 := by rw [e20]; exact Rat.div_mul_cancel n8
 obtain ⟨m20, hm20⟩ : ∃ m, m = z18 := ⟨_, rfl⟩
 have d20 : z20 * z8 = m20 := by
  have q : z20 * z8 = z20 * z8 := by grind
  rw [q, h20, hm20]
 clear h20 e20
 have h28 : z28 * z8 = z26 := by rw [e28]; exact Rat.div_mul_cancel n8
 obtain ⟨m28, hm28⟩ : ∃ m, m = z26 := ⟨_, rfl⟩
 have d28 : z28 * z8 = m28 := by
  have q : z28 * z8 = z28 * z8 := by grind
  rw [q, h28, hm28]
 clear h28 e28
 have h36 : z36 * z8 = z34 := by rw [e36]; exact Rat.div_mul_cancel n8
 obtain ⟨m36, hm36⟩ : ∃ m, m = z34 := ⟨_, rfl⟩
 have d36 : z36 * z8 = m36 := by
  have q : z36 * z8 = z36 * z8 := by grind
  rw [q, h36, hm36]
 clear h36 e36
 obtain ⟨m38, hm38⟩ : ∃ m, m = -m36 := ⟨_, rfl⟩
 have d38 : z38 * z8 = m38 := by
  have q : z38 * z8 = -(z36 * z8) := by rw [e38]; grind
  rw [q, d36, hm38]
 clear e38
 obtain ⟨m79, hm79⟩ : ∃ m, m = m20 * z71 := ⟨_, rfl⟩
 have d79 : z79 * z8 = m79 := by
  have q : z79 * z8 = (z20 * z8) * z71 := by rw [e79]; grind
  rw [q, d20, hm79]
 clear e79
 obtain ⟨m80, hm80⟩ : ∃ m, m = m28 * z74 := ⟨_, rfl⟩
 have d80 : z80 * z8 = m80 := by
  have q : z80 * z8 = (z28 * z8) * z74 := by rw [e80]; grind
  rw [q, d28, hm80]
 clear e80
 obtain ⟨m81, hm81⟩ : ∃ m, m = m79 * 1 + m80 * 1 := ⟨_, rfl⟩
 have d81 : z81 * z8 = m81 := by
  have q : z81 * z8 = (z79 * z8) * 1 + (z80 * z8) * 1 := by rw [e81]; grind
  rw [q, d79, d80, hm81]
 clear e81
 obtain ⟨m82, hm82⟩ : ∃ m, m = m81 * 1 + m38 * 1 := ⟨_, rfl⟩
 have d82 : z82 * z8 = m82 := by
  have q : z82 * z8 = (z81 * z8) * 1 + (z38 * z8) * 1 := by rw [e82]; grind
  rw [q, d81, d38, hm82]
 clear e82
 obtain ⟨m84, hm84⟩ : ∃ m, m = m82 * 1 - z11 * z8 := ⟨_, rfl⟩
 have d84 : z84 * z8 = m84 := by
  have q : z84 * z8 = (z82 * z8) * 1 - z11 * z8 := by rw [e84]; grind
  rw [q, d82, hm84]
 clear e84
 have hpoly : m84 = 0 := by
  clear d20 d28 d36 d38 d79 d80 d81 d82 d84
  subst_vars; grind
 have hgoal : z84 = 0 := (Rat.mul_eq_zero.1 (d84.trans hpoly)).resolve_right w8
 exact hgoal
theorem moveBack_r0 : (callB (sx Tryz.prog moveBack_N [(0, 8, 0, 1), (0, 10, 0, 1)] [(208, [.inr (3, 3, 0, 0, 0)])] moveBack_L moveBack_C moveBack_Z (prQ [50])) 6 10 [(false, [(true, [.inr (2, 0, 0, 0, 0), .inr (2, 1, 0, 0, 0), .inr (2, 2, 0, 0, 0), .inr (2, 3, 0, 0, 0), .inr (2, 4, 0, 0, 0), .inr (2, 5, 0, 0, 0)])])] [] 0).map (·.1) = some (kB true) := by kernel_rfl
theorem moveBack_r1 : (callB (sx Tryz.prog moveBack_N [(0, 8, 0, 0), (0, 10, 0, 0), (6, 53, 54, 1), (6, 67, 68, 1), (6, 83, 84, 1)] [(208, [.inr (3, 3, 0, 0, 0)]), (211, [.inr (3, 14, 0, 0, 0), .inr (3, 21, 0, 0, 0)])] moveBack_L moveBack_C moveBack_Z (prQ [50])) 6 10 [(false, [(true, [.inr (2, 0, 0, 0, 0), .inr (2, 1, 0, 0, 0), .inr (2, 2, 0, 0, 0), .inr (2, 3, 0, 0, 0), .inr (2, 4, 0, 0, 0), .inr (2, 5, 0, 0, 0)])])] [] 0).map (·.1) = some (kB true) := by kernel_rfl
theorem moveBack_An {a b : Prop} (x : a) (y : b) : a ∧ b := ⟨x, y⟩
theorem moveBack_leaf {H : List (Nat × Nat × Nat × Nat)} {K : List (FuncId × List AC)} {k : Nat} {q : Nat → Rat} {σ : Nat → ByteArray} {args : List AV} {vs : List Value} {w : World} (hr : (callB (sx Tryz.prog moveBack_N H K moveBack_L moveBack_C moveBack_Z (prQ [50])) k 10 args [] 0).map (·.1) = some (kB true)) (hσ : ∀ j, (σ j).size ≤ 1048576) (hq : ∀ (a : Nat) nd, moveBack_N[a]? = some nd → q a = valN σ q nd) (h0 : ∀ a, moveBack_N.length ≤ a → q a = 0) (hH : hAll q H) (hp : PreS w) (hA : ∀ K, A2 (avOn (cOn (evS q σ) K (fun _ => none) w)) args vs) : Calls Tryz.prog 10 vs.toArray w fun e w' => Below w.heap.size w w' ∧ e = .returned (.bool true) :=
 run_toldQ' k (hy_ofW hσ moveBack_wf moveBack_sz moveBack_lt moveBack_cn hq h0 hH) (by simp [closed_moved]) (by kernel_rfl) hr hp (hA K)
theorem moveBack_walk {w : World} {aa ab ac ad ae af : ByteArray} (saa : aa.size ≤ 1048576) (sab : ab.size ≤ 1048576) (sac : ac.size ≤ 1048576) (sad : ad.size ≤ 1048576) (sae : ae.size ≤ 1048576) (saf : af.size ≤ 1048576) (tab : Tab w) (mx : MaxL w) :
  Calls Tryz.prog 10 #[.agg #[.string aa, .string ab, .string ac, .string ad, .string ae, .string af]] w fun e w' => Below w.heap.size w w' ∧ e = .returned (.bool true) := by
 have hσ : ∀ j, (sgOf [aa, ab, ac, ad, ae, af] j).size ≤ 1048576 := sgOf_size (by simp [saa, sab, sac, sad, sae, saf])
 obtain ⟨q, hq, h0⟩ := nodes_exist (sgOf [aa, ab, ac, ad, ae, af]) moveBack_N moveBack_wf
 have hA : ∀ K, A2 (avOn (cOn (evS q (sgOf [aa, ab, ac, ad, ae, af])) K (fun _ => none) w)) [(false, [(true, [.inr (2, 0, 0, 0, 0), .inr (2, 1, 0, 0, 0), .inr (2, 2, 0, 0, 0), .inr (2, 3, 0, 0, 0), .inr (2, 4, 0, 0, 0), .inr (2, 5, 0, 0, 0)])])] [.agg #[.string aa, .string ab, .string ac, .string ad, .string ae, .string af]] := fun K => ⟨⟨⟨[.string aa, .string ab, .string ac, .string ad, .string ae, .string af], rfl, rfl, rfl, rfl, rfl, rfl, rfl, trivial⟩, trivial⟩, trivial⟩
 have E6 : q 6 = q 0 * q 3 := hq 6 _ rfl
 have E7 : q 7 = q 1 * q 2 := hq 7 _ rfl
 have E8 : q 8 = q 6 - q 7 := hq 8 _ rfl
 have E9 : q 9 = q 2 * q 1 := hq 9 _ rfl
 have E10 : q 10 = q 6 - q 9 := hq 10 _ rfl
 have E11 : q 11 = 1 := (hq 11 _ rfl).trans moveBack_c11
 have E12 : q 12 = q 11 * q 3 := hq 12 _ rfl
 have E13 : q 13 = 0 := (hq 13 _ rfl).trans moveBack_c13
 have E14 : q 14 = q 13 * q 2 := hq 14 _ rfl
 have E15 : q 15 = q 12 - q 14 := hq 15 _ rfl
 have E16 : q 16 = q 0 * q 13 := hq 16 _ rfl
 have E17 : q 17 = q 1 * q 11 := hq 17 _ rfl
 have E18 : q 18 = q 16 - q 17 := hq 18 _ rfl
 have E19 : q 19 = q 15 / q 8 := hq 19 _ rfl
 have E20 : q 20 = q 18 / q 8 := hq 20 _ rfl
 have E21 : q 21 = q 13 * q 3 := hq 21 _ rfl
 have E22 : q 22 = q 11 * q 2 := hq 22 _ rfl
 have E23 : q 23 = q 21 - q 22 := hq 23 _ rfl
 have E24 : q 24 = q 0 * q 11 := hq 24 _ rfl
 have E25 : q 25 = q 1 * q 13 := hq 25 _ rfl
 have E26 : q 26 = q 24 - q 25 := hq 26 _ rfl
 have E27 : q 27 = q 23 / q 8 := hq 27 _ rfl
 have E28 : q 28 = q 26 / q 8 := hq 28 _ rfl
 have E29 : q 29 = q 4 * q 3 := hq 29 _ rfl
 have E30 : q 30 = q 5 * q 2 := hq 30 _ rfl
 have E31 : q 31 = q 29 - q 30 := hq 31 _ rfl
 have E32 : q 32 = q 0 * q 5 := hq 32 _ rfl
 have E33 : q 33 = q 1 * q 4 := hq 33 _ rfl
 have E34 : q 34 = q 32 - q 33 := hq 34 _ rfl
 have E35 : q 35 = q 31 / q 8 := hq 35 _ rfl
 have E36 : q 36 = q 34 / q 8 := hq 36 _ rfl
 have E37 : q 37 = -q 35 := hq 37 _ rfl
 have E38 : q 38 = -q 36 := hq 38 _ rfl
 have E39 : q 39 = q 2 * q 13 := hq 39 _ rfl
 have E40 : q 40 = q 16 + q 39 := hq 40 _ rfl
 have E41 : q 41 = q 40 + q 4 := hq 41 _ rfl
 have E42 : q 42 = q 3 * q 13 := hq 42 _ rfl
 have E43 : q 43 = q 25 + q 42 := hq 43 _ rfl
 have E44 : q 44 = q 43 + q 5 := hq 44 _ rfl
 have E45 : q 45 = q 19 * q 41 := hq 45 _ rfl
 have E46 : q 46 = q 27 * q 44 := hq 46 _ rfl
 have E47 : q 47 = q 45 + q 46 := hq 47 _ rfl
 have E48 : q 48 = q 47 + q 37 := hq 48 _ rfl
 have E49 : q 49 = q 20 * q 41 := hq 49 _ rfl
 have E50 : q 50 = q 28 * q 44 := hq 50 _ rfl
 have E51 : q 51 = q 49 + q 50 := hq 51 _ rfl
 have E52 : q 52 = q 51 + q 38 := hq 52 _ rfl
 have E53 : q 53 = q 48 - q 13 := hq 53 _ rfl
 have E54 : q 54 = q 52 - q 13 := hq 54 _ rfl
 have E55 : q 55 = q 24 + q 39 := hq 55 _ rfl
 have E56 : q 56 = q 55 + q 4 := hq 56 _ rfl
 have E57 : q 57 = q 17 + q 42 := hq 57 _ rfl
 have E58 : q 58 = q 57 + q 5 := hq 58 _ rfl
 have E59 : q 59 = q 19 * q 56 := hq 59 _ rfl
 have E60 : q 60 = q 27 * q 58 := hq 60 _ rfl
 have E61 : q 61 = q 59 + q 60 := hq 61 _ rfl
 have E62 : q 62 = q 61 + q 37 := hq 62 _ rfl
 have E63 : q 63 = q 20 * q 56 := hq 63 _ rfl
 have E64 : q 64 = q 28 * q 58 := hq 64 _ rfl
 have E65 : q 65 = q 63 + q 64 := hq 65 _ rfl
 have E66 : q 66 = q 65 + q 38 := hq 66 _ rfl
 have E67 : q 67 = q 62 - q 11 := hq 67 _ rfl
 have E68 : q 68 = q 66 - q 13 := hq 68 _ rfl
 have E69 : q 69 = q 2 * q 11 := hq 69 _ rfl
 have E70 : q 70 = q 16 + q 69 := hq 70 _ rfl
 have E71 : q 71 = q 70 + q 4 := hq 71 _ rfl
 have E72 : q 72 = q 3 * q 11 := hq 72 _ rfl
 have E73 : q 73 = q 25 + q 72 := hq 73 _ rfl
 have E74 : q 74 = q 73 + q 5 := hq 74 _ rfl
 have E75 : q 75 = q 19 * q 71 := hq 75 _ rfl
 have E76 : q 76 = q 27 * q 74 := hq 76 _ rfl
 have E77 : q 77 = q 75 + q 76 := hq 77 _ rfl
 have E78 : q 78 = q 77 + q 37 := hq 78 _ rfl
 have E79 : q 79 = q 20 * q 71 := hq 79 _ rfl
 have E80 : q 80 = q 28 * q 74 := hq 80 _ rfl
 have E81 : q 81 = q 79 + q 80 := hq 81 _ rfl
 have E82 : q 82 = q 81 + q 38 := hq 82 _ rfl
 have E83 : q 83 = q 78 - q 13 := hq 83 _ rfl
 have E84 : q 84 = q 82 - q 11 := hq 84 _ rfl
 by_cases b8 : q 8 = 0
 ·
  have b10 : q 10 = 0 := moveBack_f0 E6 E7 E8 E9 E10 b8
  exact moveBack_leaf moveBack_r0 hσ hq h0 (moveBack_An (hT b8) (moveBack_An (hT b10) trivial)) ⟨tab, mx⟩ hA
 ·
  have b10 : ¬ (q 10 = 0) := moveBack_f1 E6 E7 E8 E9 E10 b8
  have a_6_53_54 : q 53 = 0 ∧ q 54 = 0 := And.intro (moveBack_f2 E6 E7 E8 E11 E12 E13 E14 E15 E16 E19 E21 E22 E23 E25 E27 E29 E30 E31 E35 E37 E39 E40 E41 E42 E43 E44 E45 E46 E47 E48 E53 b8) (moveBack_f3 E6 E7 E8 E11 E13 E16 E17 E18 E20 E24 E25 E26 E28 E32 E33 E34 E36 E38 E39 E40 E41 E42 E43 E44 E49 E50 E51 E52 E54 b8)
  have a_6_67_68 : q 67 = 0 ∧ q 68 = 0 := And.intro (moveBack_f4 E6 E7 E8 E11 E12 E13 E14 E15 E17 E19 E21 E22 E23 E24 E27 E29 E30 E31 E35 E37 E39 E42 E55 E56 E57 E58 E59 E60 E61 E62 E67 b8) (moveBack_f5 E6 E7 E8 E11 E13 E16 E17 E18 E20 E24 E25 E26 E28 E32 E33 E34 E36 E38 E39 E42 E55 E56 E57 E58 E63 E64 E65 E66 E68 b8)
  have a_6_83_84 : q 83 = 0 ∧ q 84 = 0 := And.intro (moveBack_f6 E6 E7 E8 E11 E12 E13 E14 E15 E16 E19 E21 E22 E23 E25 E27 E29 E30 E31 E35 E37 E69 E70 E71 E72 E73 E74 E75 E76 E77 E78 E83 b8) (moveBack_f7 E6 E7 E8 E11 E13 E16 E17 E18 E20 E24 E25 E26 E28 E32 E33 E34 E36 E38 E69 E70 E71 E72 E73 E74 E79 E80 E81 E82 E84 b8)
  exact moveBack_leaf moveBack_r1 hσ hq h0 (moveBack_An (hF b8) (moveBack_An (hF b10) (moveBack_An (hT a_6_53_54) (moveBack_An (hT a_6_67_68) (moveBack_An (hT a_6_83_84) trivial))))) ⟨tab, mx⟩ hA
end Go.Proofs.YtkcikcnimkofkaaGreatDoor
