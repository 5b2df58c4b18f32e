/- Part 13 of the walks and of the mathematics under them: VY VSZ CFmoved MVA. -/
import Derived.Test.YtkcikcnimkofkaaGreatDoorA12
set_option maxHeartbeats 16000000
set_option maxRecDepth 100000
/- VY -/
namespace Go.Proofs.YtkcikcnimkofkaaGreatDoor
open Go.RowKit Cx
theorem den_num (t : Rat) : t * (t.den : Rat) = ((t.num : Int) : Rat) := by
 conv => lhs; lhs; rw [← Rat.mkRat_self t]
 have h0 : (t.den : Rat) ≠ 0 := fun h => t.den_nz (by exact_mod_cast h)
 rw [Rat.mkRat_eq_div, Rat.div_mul_cancel h0]
theorem whole {q : Rat} (h : q.den = 1) : q = ((q.num : Int) : Rat) := by
 have := den_num q
 rw [h] at this
 rw [← this]
 show q = q * ((1 : Nat) : Rat)
 exact (Rat.mul_one q).symm
end Go.Proofs.YtkcikcnimkofkaaGreatDoor
/- VSZ -/
namespace Go.Proofs.YtkcikcnimkofkaaGreatDoor
open Go.RowKit Cx
def szW (Z : List Nat) (I : List Bool) (z : Nat) (b : Bool) (nd : Nd) : Bool := match nd.1, nd.2 with
 | 0, [_, n, d] => (Nat.blt n (2 ^ z) && (Nat.blt 0 d && Nat.blt d (2 ^ z))) && (!b || Nat.beq d 1)
 | 1, [_] => Nat.ble 3495259 z && !b
 | 2, [a, c] => (match Z[a]?, Z[c]?, I[a]?, I[c]? with
  | some x, some y, some true, some true => Nat.ble (Nat.max x y + 1) z
  | some x, some y, _, _ => Nat.ble (x + y + 1) z && !b
  | _, _, _, _ => false)
 | 3, [a, c] => (match Z[a]?, Z[c]?, I[a]?, I[c]? with
  | some x, some y, some true, some true => Nat.ble (Nat.max x y + 1) z
  | some x, some y, _, _ => Nat.ble (x + y + 1) z && !b
  | _, _, _, _ => false)
 | 4, [a, c] => (match Z[a]?, Z[c]?, I[a]?, I[c]? with
  | some x, some y, some true, some true => Nat.ble (x + y) z
  | some x, some y, _, _ => Nat.ble (x + y) z && !b
  | _, _, _, _ => false)
 | 5, [a] => (match Z[a]?, I[a]? with
  | some x, some true => Nat.ble x z
  | some x, _ => Nat.ble x z && !b
  | _, _ => false)
 | 6, [a, c] => (match Z[a]?, Z[c]? with
  | some x, some y => Nat.ble (x + y) z && !b
  | _, _ => false)
 | 8, i :: xs => (match getsO Z xs with
  | some zs => Nat.blt i xs.length && (Nat.ble ((xs.length + 1) * maxL zs + 1) z || (xs.all (fun a => match I[a]? with
   | some true => true
   | _ => false) && (match xs[i]? with
   | some a => (match Z[a]? with
    | some x => Nat.ble (x + 1) z
    | none => false)
   | none => false)))
  | none => false)
 | _, _ => false
def szC (Z : List Nat) (I : List Bool) : List Nd → List Nat → List Bool → Bool
 | [], [], [] => true
 | nd :: ns, z :: zs, b :: bs => (szW Z I z b nd && Nat.ble z 1000000000000) && szC Z I ns zs bs
 | _, _, _ => false
theorem szC_get {Z : List Nat} {I : List Bool} : ∀ {ns : List Nd} {zs : List Nat} {bs : List Bool} {i z : Nat}, szC Z I ns zs bs = true → zs[i]? = some z → ∃ nd b, ns[i]? = some nd ∧ bs[i]? = some b ∧ szW Z I z b nd = true ∧ z ≤ 1000000000000
 | [], [], [], _, _, _, h => by simp at h
 | [], [], _ :: _, _, _, h, _ => by cases h
 | [], _ :: _, _, _, _, h, _ => by cases h
 | _ :: _, [], _, _, _, h, _ => by cases h
 | _ :: _, _ :: _, [], _, _, h, _ => by cases h
 | nd :: ns, z' :: zs, b :: bs, 0, z, h, e => by
  have : z' = z := by simpa using e
  subst this
  unfold szC at h
  simp only [Bool.and_eq_true, Nat.ble_eq] at h
  exact ⟨nd, b, rfl, rfl, h.1.1, h.1.2⟩
 | nd :: ns, z' :: zs, b :: bs, i + 1, z, h, e => by
  unfold szC at h
  rw [Bool.and_eq_true] at h
  obtain ⟨nd2, b2, g1, g2, g3⟩ := szC_get (ns := ns) (zs := zs) (bs := bs) h.2 (show zs[i]? = some z by simpa using e)
  exact ⟨nd2, b2, by simpa using g1, by simpa using g2, g3⟩
theorem szC_len {Z : List Nat} {I : List Bool} : ∀ {ns : List Nd} {zs : List Nat} {bs : List Bool}, szC Z I ns zs bs = true → ns.length = zs.length
 | [], [], [], _ => rfl
 | [], [], _ :: _, h => by cases h
 | [], _ :: _, _, h => by cases h
 | _ :: _, [], _, h => by cases h
 | _ :: _, _ :: _, [], h => by cases h
 | _ :: _, _ :: _, _ :: _, h => by
  unfold szC at h
  rw [Bool.and_eq_true] at h
  exact congrArg (· + 1) (szC_len h.2)
structure QW (z : Nat) (x : Rat) : Prop where
 qs : QS z x
 wh : x.den = 1
theorem QW.of {z : Nat} {n : Int} (h : n.natAbs < 2 ^ z) (hz : 0 < z) : QW z ((n : Int) : Rat) :=
 ⟨⟨by simpa using h, by
  show ((n : Int) : Rat).den < 2 ^ z
  rw [Rat.den_intCast]
  exact Nat.one_lt_two_pow (by omega)⟩, Rat.den_intCast n⟩
theorem QW.mono {k l : Nat} {x : Rat} (h : QW k x) (hk : k ≤ l) : QW l x := ⟨h.qs.mono hk, h.wh⟩
theorem two_max {a b x y : Nat} (h1 : a < 2 ^ x) (h2 : b < 2 ^ y) : a + b < 2 ^ (Nat.max x y + 1) := by
 have e1 : 2 ^ x ≤ 2 ^ Nat.max x y := Nat.pow_le_pow_right (by decide) (Nat.le_max_left x y)
 have e2 : 2 ^ y ≤ 2 ^ Nat.max x y := Nat.pow_le_pow_right (by decide) (Nat.le_max_right x y)
 rw [Nat.pow_succ]
 omega
theorem QW.add {x y : Nat} {a b : Rat} (h1 : QW x a) (h2 : QW y b) : QW (Nat.max x y + 1) (a + b) := by
 rw [whole h1.wh, whole h2.wh, ← Rat.intCast_add]
 refine QW.of ?_ (by omega)
 have := two_max h1.qs.num h2.qs.num
 omega
theorem QW.sub {x y : Nat} {a b : Rat} (h1 : QW x a) (h2 : QW y b) : QW (Nat.max x y + 1) (a - b) := by
 rw [whole h1.wh, whole h2.wh, ← Rat.intCast_sub]
 refine QW.of ?_ (by omega)
 have := two_max h1.qs.num h2.qs.num
 omega
theorem QW.mul {x y : Nat} {a b : Rat} (h1 : QW x a) (h2 : QW y b) : QW (x + y) (a * b) := by
 refine ⟨h1.qs.mul h2.qs, ?_⟩
 rw [whole h1.wh, whole h2.wh, ← Rat.intCast_mul]
 exact Rat.den_intCast _
theorem QW.neg {x : Nat} {a : Rat} (h1 : QW x a) : QW x (-a) := ⟨h1.qs.neg, h1.wh⟩
theorem lD_one : ∀ {qs : List Rat} {m : Nat}, (∀ q ∈ qs, q.den = 1) → qs.foldl (fun m q => m * (q.den / Nat.gcd m q.den)) m = m
 | [], _, _ => rfl
 | q :: qs, m, h => by
  rw [List.foldl_cons, h q List.mem_cons_self, Nat.gcd_one_right, Nat.div_self (by decide), Nat.mul_one]
  exact lD_one fun p hp => h p (List.mem_cons_of_mem _ hp)
theorem QW.fac {z : Nat} {qs : List Rat} {x : Rat} (hx : QS z x) (h : x ∈ qs) (hw : ∀ y ∈ qs, y.den = 1) : QS (z + 1) (x * fac qs) := by
 have hl : lD qs = 1 := lD_one hw
 refine ⟨?_, ?_⟩
 ·rw [fac_abs h, hl, hw x h, Nat.div_self (by decide), Nat.mul_one]
  exact Nat.lt_of_le_of_lt (Nat.div_le_self _ _) (Nat.lt_of_lt_of_le hx.num (Nat.pow_le_pow_right (by decide) (by omega)))
 ·rw [fac_den h]
  exact Nat.one_lt_two_pow (by omega)
theorem ten_three : ∀ n : Nat, 10 ^ n ≤ 2 ^ ((10 * n + 2) / 3)
 | 0 => by decide
 | 1 => by decide
 | 2 => by decide
 | n + 3 => by
  have h := ten_three n
  have e : (10 * (n + 3) + 2) / 3 = (10 * n + 2) / 3 + 10 := by omega
  rw [e, Nat.pow_add, Nat.pow_add]
  exact Nat.mul_le_mul h (by decide)
theorem QS.rd3 (l : List UInt8) : QS ((10 * l.length + 2) / 3 + 5) (Cx.rd l) := by
 have key : ∀ {m : List UInt8}, digs m = true → dv m < 2 ^ ((10 * m.length + 2) / 3) := fun {m} h => Nat.lt_of_lt_of_le (dv_lt (digs_all h)) (ten_three _)
 unfold Cx.rd
 split
 ·rename_i h
  rw [Bool.and_eq_true] at h
  have h1 := key h.1
  have h2 := key h.2
  have h3 := up_len (tailOf l)
  have h4 := low_len (tailOf l)
  have h5 := tail_len l
  apply QS.mkr
  ·rw [sg_abs]; exact Nat.lt_of_lt_of_le h1 (Nat.pow_le_pow_right (by decide) (by omega))
  ·exact Nat.lt_of_lt_of_le h2 (Nat.pow_le_pow_right (by decide) (by omega))
 ·exact QS.zero.mono (by omega)
section
variable {N : List Nd} {Z : List Nat} {I : List Bool} {q : Nat → Rat}
theorem sizes_okW {σ : Nat → ByteArray} (hσ : ∀ j, (σ j).size ≤ 1048576) (hw : wfB 0 N = true) (hz : szC Z I N Z I = true) (hq : ∀ (a : Nat) nd, N[a]? = some nd → q a = valN σ q nd) (h0 : ∀ a, N.length ≤ a → q a = 0) : (∀ (a : Nat) z, Z[a]? = some z → QS z (q a)) ∧ ∀ a, QS 1000000000000 (q a) := by
 have h2 : ∀ (a : Nat) z, Z[a]? = some z → QS z (q a) ∧ (I[a]? = some true → (q a).den = 1) := by
  intro a
  induction a using Nat.strongRecOn with
  | ind a ih =>
   intro z hz'
   obtain ⟨nd, b, hn, hb, hs, _⟩ := szC_get hz hz'
   have hwf := wfB_get hw hn
   rw [Nat.zero_add] at hwf
   rw [hq a nd hn, hb]
   obtain ⟨op, xs⟩ := nd
   unfold szW at hs
   unfold valN
   unfold wfN at hwf
   dsimp only at hs hwf ⊢
   have W : ∀ {c x}, c < a → Z[c]? = some x → I[c]? = some true → QW x (q c) := fun hc hx hi => ⟨(ih _ hc _ hx).1, (ih _ hc _ hx).2 hi⟩
   have no : ∀ {v : Rat}, b = false → (some b = some true → v.den = 1) := fun e h => by rw [e] at h; cases h
   split at hs
   ·rename_i s n d
    simp only [Bool.and_eq_true] at hs
    obtain ⟨⟨h1, h2, h3⟩, h4⟩ := hs
    refine ⟨QS.const (by simpa [Nat.blt_eq] using h1) (by simpa [Nat.blt_eq] using h2) (by simpa [Nat.blt_eq] using h3), fun e => ?_⟩
    rw [show b = true from Option.some.inj e] at h4
    have hd : d = 1 := by simpa using h4
    subst hd
    show (if s = 0 then mkRat (n : Int) 1 else mkRat (-(n : Int)) 1).den = 1
    split
    ·rw [Rat.mkRat_one]
     exact Rat.den_intCast _
    ·rw [Rat.mkRat_one]
     exact Rat.den_intCast _
   ·rename_i j
    simp only [Bool.and_eq_true, Nat.ble_eq, Bool.not_eq_true'] at hs
    exact ⟨QS.mono (QS.rd3 _) (by have := hσ j; rw [str_len]; omega), no hs.2⟩
   ·simp only [List.all_cons, List.all_nil, Bool.and_true, Bool.and_eq_true] at hwf
    have l1 := (by simpa [Nat.blt_eq] using hwf.1 : _ < a)
    have l2 := (by simpa [Nat.blt_eq] using hwf.2 : _ < a)
    split at hs
    ·rename_i x y hx hy i1 i2
     rw [Nat.ble_eq] at hs
     have := ((W l1 hx i1).add (W l2 hy i2)).mono hs
     exact ⟨this.qs, fun _ => this.wh⟩
    ·rename_i x y hx hy _
     simp only [Bool.and_eq_true, Nat.ble_eq, Bool.not_eq_true'] at hs
     exact ⟨((ih _ l1 x hx).1.add (ih _ l2 y hy).1).mono hs.1, no hs.2⟩
    ·cases hs
   ·simp only [List.all_cons, List.all_nil, Bool.and_true, Bool.and_eq_true] at hwf
    have l1 := (by simpa [Nat.blt_eq] using hwf.1 : _ < a)
    have l2 := (by simpa [Nat.blt_eq] using hwf.2 : _ < a)
    split at hs
    ·rename_i x y hx hy i1 i2
     rw [Nat.ble_eq] at hs
     have := ((W l1 hx i1).sub (W l2 hy i2)).mono hs
     exact ⟨this.qs, fun _ => this.wh⟩
    ·rename_i x y hx hy _
     simp only [Bool.and_eq_true, Nat.ble_eq, Bool.not_eq_true'] at hs
     exact ⟨((ih _ l1 x hx).1.sub (ih _ l2 y hy).1).mono hs.1, no hs.2⟩
    ·cases hs
   ·simp only [List.all_cons, List.all_nil, Bool.and_true, Bool.and_eq_true] at hwf
    have l1 := (by simpa [Nat.blt_eq] using hwf.1 : _ < a)
    have l2 := (by simpa [Nat.blt_eq] using hwf.2 : _ < a)
    split at hs
    ·rename_i x y hx hy i1 i2
     rw [Nat.ble_eq] at hs
     have := ((W l1 hx i1).mul (W l2 hy i2)).mono hs
     exact ⟨this.qs, fun _ => this.wh⟩
    ·rename_i x y hx hy _
     simp only [Bool.and_eq_true, Nat.ble_eq, Bool.not_eq_true'] at hs
     exact ⟨((ih _ l1 x hx).1.mul (ih _ l2 y hy).1).mono hs.1, no hs.2⟩
    ·cases hs
   ·simp only [List.all_cons, List.all_nil, Bool.and_true] at hwf
    have l1 := (by simpa [Nat.blt_eq] using hwf : _ < a)
    split at hs
    ·rename_i x hx i1
     rw [Nat.ble_eq] at hs
     have := (W l1 hx i1).neg.mono hs
     exact ⟨this.qs, fun _ => this.wh⟩
    ·rename_i x hx _
     simp only [Bool.and_eq_true, Nat.ble_eq, Bool.not_eq_true'] at hs
     exact ⟨((ih _ l1 x hx).1.neg).mono hs.1, no hs.2⟩
    ·cases hs
   ·simp only [List.all_cons, List.all_nil, Bool.and_true, Bool.and_eq_true] at hwf
    split at hs
    ·rename_i x y hx hy
     simp only [Bool.and_eq_true, Nat.ble_eq, Bool.not_eq_true'] at hs
     exact ⟨((ih _ (by simpa [Nat.blt_eq] using hwf.1) x hx).1.div (ih _ (by simpa [Nat.blt_eq] using hwf.2) y hy).1).mono hs.1, no hs.2⟩
    ·cases hs
   ·rename_i i ys
    split at hs
    ·rename_i zs hzs
     rw [Bool.and_eq_true] at hs
     have hi : i < ys.length := by simpa [Nat.blt_eq] using hs.1
     have hwf' : ys.all (Nat.blt · a) = true := hwf
     rw [List.all_eq_true] at hwf'
     have hlt : ∀ c ∈ ys, c < a := fun c hc => by simpa [Nat.blt_eq] using hwf' c hc
     have hm : q ys[i] ∈ ys.map q := List.mem_map_of_mem (List.getElem_mem hi)
     have hg : (ys.map q).getD i 0 = q ys[i] := by
      rw [List.getD_eq_getElem?_getD, List.getElem?_map, List.getElem?_eq_getElem hi]
      rfl
     show QS z ((ys.map q).getD i 0 * fac (ys.map q)) ∧ (some b = some true → ((ys.map q).getD i 0 * fac (ys.map q)).den = 1)
     rw [hg]
     refine ⟨?_, fun _ => fac_den hm⟩
     rcases Bool.or_eq_true _ _ ▸ hs.2 with h3 | h3
     ·rw [Nat.ble_eq] at h3
      have hall : ∀ y ∈ ys.map q, QS (maxL zs) y := fun y hy => by
       obtain ⟨c, hc, rfl⟩ := List.mem_map.1 hy
       obtain ⟨z', hm', hz2⟩ := getsO_get hzs c hc
       exact (ih c (hlt c hc) z' hz2).1.mono (le_maxL z' hm')
      have := QS.facN hall (x := q ys[i]) hm
      rw [List.length_map] at this
      exact this.mono h3
     ·rw [Bool.and_eq_true, List.all_eq_true] at h3
      obtain ⟨h4, h5⟩ := h3
      have hwh : ∀ y ∈ ys.map q, y.den = 1 := fun y hy => by
       obtain ⟨c, hc, rfl⟩ := List.mem_map.1 hy
       obtain ⟨z', _, hz2⟩ := getsO_get hzs c hc
       refine (ih c (hlt c hc) z' hz2).2 ?_
       have := h4 c hc
       split at this
       ·assumption
       ·cases this
      rw [List.getElem?_eq_getElem hi] at h5
      dsimp only at h5
      split at h5
      ·rename_i x hx
       rw [Nat.ble_eq] at h5
       exact (QW.fac (ih _ (hlt _ (List.getElem_mem hi)) x hx).1 hm hwh).mono h5
      ·cases h5
    ·cases hs
   ·cases hs
 refine ⟨fun a z h => (h2 a z h).1, fun a => ?_⟩
 have hl := szC_len hz
 by_cases ha : a < Z.length
 ·obtain ⟨nd, b, _, _, _, hle⟩ := szC_get hz (List.getElem?_eq_getElem ha)
  exact (h2 a _ (List.getElem?_eq_getElem ha)).1.mono hle
 ·rw [h0 a (by omega)]
  exact QS.zero.mono (by decide)
theorem hy_ofW {L C : List (List Nat × Nat)} {σ : Nat → ByteArray} {H : List (Nat × Nat × Nat × Nat)} (hσ : ∀ j, (σ j).size ≤ 1048576) (hw : wfB 0 N = true) (hz : szC Z I N Z I = true) (hl : litB N L = true) (hcn : canB N C = true) (hq : ∀ (a : Nat) nd, N[a]? = some nd → q a = valN σ q nd) (h0 : ∀ a, N.length ≤ a → q a = 0) (hH : hAll q H) : Hy N H L C Z q σ where
 nat := hq
 qs := (sizes_okW hσ hw hz hq h0).2
 zs := (sizes_okW hσ hw hz hq h0).1
 par := hσ
 lit := fun s b h => lit_rd hl hq h
 k0 := fun a r h => kn_at hH h
 k1 := fun a r h => kn_at hH h
 k2 := fun a r h => kn_at hH h
 k3 := fun a b r h => kn_at hH h
 k4 := fun l a b r h1 h2 => by
  have h3 : Nat.beq 1 r = true ↔ q a = q b := kn_at hH h2
  rw [h3, ← can_tx hcn hq h1]
  exact ⟨fun e => by rw [e], fun e => tellS_inj (bytesN_inj e)⟩
 k6 := fun a b r h => kn_at hH h
 k5 := fun a r h => kn_at hH h
end
end Go.Proofs.YtkcikcnimkofkaaGreatDoor
/- CFmoved -/
namespace Go.Proofs.YtkcikcnimkofkaaGreatDoor
open Go.RowKit Cx
theorem closed_moved : Closed 50 :=
 closed_told (N := [(0, [0, 1, 1]), (0, [0, 0, 1]), (4, [0, 1]), (4, [1, 1]), (2, [2, 3]), (2, [4, 1]), (5, [5]), (4, [0, 6]), (4, [1, 6]), (4, [0, 0]), (2, [9, 3]), (6, [7, 10]), (6, [8, 10]), (0, [0, 2, 1]), (4, [11, 13]), (4, [12, 13]), (2, [1, 14]), (2, [1, 15]), (2, [10, 1]), (5, [18]), (4, [0, 19]), (4, [1, 19]), (6, [20, 10]), (6, [21, 10]), (4, [22, 13]), (4, [23, 13]), (2, [0, 24]), (2, [1, 25]), (3, [26, 16]), (3, [27, 17]), (4, [1, 0]), (2, [2, 30]), (2, [31, 1]), (5, [32]), (4, [0, 33]), (4, [1, 33]), (6, [34, 10]), (6, [35, 10]), (4, [36, 13]), (4, [37, 13]), (2, [1, 38]), (2, [0, 39]), (3, [40, 16]), (3, [41, 17]), (0, [1, 1, 1]), (2, [4, 44]), (5, [45]), (4, [0, 46]), (4, [1, 46]), (6, [47, 10]), (6, [48, 10]), (4, [49, 13]), (4, [50, 13]), (2, [1, 51]), (2, [1, 52]), (2, [10, 44]), (5, [55]), (4, [0, 56]), (4, [1, 56]), (6, [57, 10]), (6, [58, 10]), (4, [59, 13]), (4, [60, 13]), (2, [0, 61]), (2, [1, 62]), (3, [63, 53]), (3, [64, 54]), (2, [31, 44]), (5, [67]), (4, [0, 68]), (4, [1, 68]), (6, [69, 10]), (6, [70, 10]), (4, [71, 13]), (4, [72, 13]), (2, [1, 73]), (2, [0, 74]), (3, [75, 53]), (3, [76, 54]), (4, [65, 28]), (4, [66, 28]), (4, [77, 29]), (4, [78, 29]), (2, [79, 81]), (2, [80, 82]), (4, [65, 42]), (4, [66, 42]), (4, [77, 43]), (4, [78, 43]), (2, [85, 87]), (2, [86, 88]), (4, [65, 16]), (4, [66, 16]), (4, [77, 17]), (4, [78, 17]), (2, [91, 93]), (2, [92, 94]), (2, [95, 53]), (2, [96, 54]), (4, [83, 83]), (4, [84, 84]), (2, [99, 100]), (3, [101, 0]), (4, [89, 89]), (4, [90, 90]), (2, [103, 104]), (3, [105, 0]), (4, [83, 89]), (4, [84, 90]), (2, [107, 108]), (4, [83, 90]), (4, [84, 89]), (3, [110, 111]), (3, [83, 0]), (3, [84, 1]), (0, [0, 3, 1]), (0, [0, 4, 1]), (4, [28, 115]), (4, [29, 115]), (4, [42, 116]), (4, [43, 116]), (2, [117, 119]), (2, [118, 120]), (2, [121, 16]), (2, [122, 17]), (0, [1, 3, 1])]) (H := [(0, 0, 0, 0), (0, 102, 0, 1), (0, 106, 0, 1), (0, 109, 0, 1), (1, 112, 0, 0), (0, 113, 0, 1), (0, 114, 0, 1), (0, 97, 0, 0), (4, 83, 0, 1), (4, 89, 1, 1), (4, 97, 13, 1), (4, 84, 1, 1), (4, 90, 0, 1), (4, 98, 1, 1), (4, 123, 125, 1), (4, 124, 116, 1)]) (K := [(218, [.inr (3, 9, 0, 0, 0)]), (218, [.inr (3, 121, 0, 0, 0)]), (208, [.inr (3, 227, 0, 0, 0)]), (208, [.inr (3, 238, 0, 0, 0)]), (208, [.inr (3, 311, 0, 0, 0)]), (219, []), (208, [.inr (3, 354, 0, 0, 0)])]) (L := [([49], 0), ([48], 1), ([45, 49], 44), ([50], 13), ([51], 115), ([52], 116), ([45, 51], 125)]) (C := [([49], 0), ([48], 1), ([50], 13), ([45, 51], 125), ([52], 116)]) (Z := [2, 2, 4, 4, 9, 12, 12, 14, 14, 4, 9, 23, 23, 3, 26, 26, 29, 29, 12, 12, 14, 14, 23, 23, 26, 26, 29, 29, 59, 59, 4, 9, 12, 12, 14, 14, 23, 23, 26, 26, 29, 29, 59, 59, 2, 12, 12, 14, 14, 23, 23, 26, 26, 29, 29, 12, 12, 14, 14, 23, 23, 26, 26, 29, 29, 59, 59, 12, 12, 14, 14, 23, 23, 26, 26, 29, 29, 59, 59, 118, 118, 118, 118, 237, 237, 118, 118, 118, 118, 237, 237, 88, 88, 88, 88, 177, 177, 207, 207, 474, 474, 949, 952, 474, 474, 949, 952, 474, 474, 949, 474, 474, 949, 240, 240, 3, 4, 62, 62, 63, 63, 126, 126, 156, 156, 3]) (cl := []) 8 (fun _ h => by cases h) (by kernel_rfl) (by kernel_rfl) (by kernel_rfl) (by kernel_rfl) (by kernel_rfl) (by kernel_rfl) (by kernel_rfl)
end Go.Proofs.YtkcikcnimkofkaaGreatDoor
/- MVA -/
namespace Go.Proofs.YtkcikcnimkofkaaGreatDoor
open Go.RowKit Cx
def moveApply_N : List Nd := [(1, [0]), (1, [3]), (1, [1]), (1, [4]), (1, [2]), (1, [5]), (1, [6]), (1, [9]), (1, [7]), (1, [10]), (1, [8]), (1, [11]), (4, [0, 6]), (4, [1, 6]), (4, [2, 7]), (4, [3, 7]), (2, [12, 14]), (2, [13, 15]), (4, [0, 8]), (4, [1, 8]), (4, [2, 9]), (4, [3, 9]), (2, [18, 20]), (2, [19, 21]), (4, [0, 10]), (4, [1, 10]), (4, [2, 11]), (4, [3, 11]), (2, [24, 26]), (2, [25, 27]), (2, [28, 4]), (2, [29, 5]), (1, [12]), (1, [13]), (4, [0, 32]), (4, [1, 32]), (4, [2, 33]), (4, [3, 33]), (2, [34, 36]), (2, [35, 37]), (2, [38, 4]), (2, [39, 5]), (4, [0, 3]), (4, [1, 2]), (3, [42, 43]), (4, [2, 1]), (3, [42, 45]), (0, [0, 0, 1]), (0, [0, 1, 1]), (4, [16, 47]), (4, [22, 47]), (2, [49, 50]), (2, [51, 30]), (4, [17, 47]), (4, [23, 47]), (2, [53, 54]), (2, [55, 31]), (4, [6, 47]), (4, [8, 47]), (2, [57, 58]), (2, [59, 10]), (4, [7, 47]), (4, [9, 47]), (2, [61, 62]), (2, [63, 11]), (4, [0, 60]), (4, [2, 64]), (2, [65, 66]), (2, [67, 4]), (4, [1, 60]), (4, [3, 64]), (2, [69, 70]), (2, [71, 5]), (3, [52, 68]), (3, [56, 72]), (4, [16, 48]), (2, [75, 50]), (2, [76, 30]), (4, [17, 48]), (2, [78, 54]), (2, [79, 31]), (4, [6, 48]), (2, [81, 58]), (2, [82, 10]), (4, [7, 48]), (2, [84, 62]), (2, [85, 11]), (4, [0, 83]), (4, [2, 86]), (2, [87, 88]), (2, [89, 4]), (4, [1, 83]), (4, [3, 86]), (2, [91, 92]), (2, [93, 5]), (3, [77, 90]), (3, [80, 94]), (4, [22, 48]), (2, [49, 97]), (2, [98, 30]), (4, [23, 48]), (2, [53, 100]), (2, [101, 31]), (4, [8, 48]), (2, [57, 103]), (2, [104, 10]), (4, [9, 48]), (2, [61, 106]), (2, [107, 11]), (4, [0, 105]), (4, [2, 108]), (2, [109, 110]), (2, [111, 4]), (4, [1, 105]), (4, [3, 108]), (2, [113, 114]), (2, [115, 5]), (3, [99, 112]), (3, [102, 116])]
def moveApply_L : List (List Nat × Nat) := []
def moveApply_C : List (List Nat × Nat) := []
def moveApply_Z : List Nat := [3495259, 3495259, 3495259, 3495259, 3495259, 3495259, 3495259, 3495259, 3495259, 3495259, 3495259, 3495259, 6990518, 6990518, 6990518, 6990518, 13981037, 13981037, 6990518, 6990518, 6990518, 6990518, 13981037, 13981037, 6990518, 6990518, 6990518, 6990518, 13981037, 13981037, 17476297, 17476297, 3495259, 3495259, 6990518, 6990518, 6990518, 6990518, 13981037, 13981037, 17476297, 17476297, 6990518, 6990518, 13981037, 6990518, 13981037, 2, 2, 13981039, 13981039, 27962079, 45438377, 13981039, 13981039, 27962079, 45438377, 3495261, 3495261, 6990523, 10485783, 3495261, 3495261, 6990523, 10485783, 13981042, 13981042, 27962085, 31457345, 13981042, 13981042, 27962085, 31457345, 76895723, 76895723, 13981039, 27962079, 45438377, 13981039, 27962079, 45438377, 3495261, 6990523, 10485783, 3495261, 6990523, 10485783, 13981042, 13981042, 27962085, 31457345, 13981042, 13981042, 27962085, 31457345, 76895723, 76895723, 13981039, 27962079, 45438377, 13981039, 27962079, 45438377, 3495261, 6990523, 10485783, 3495261, 6990523, 10485783, 13981042, 13981042, 27962085, 31457345, 13981042, 13981042, 27962085, 31457345, 76895723, 76895723]
def moveApply_I : List Bool := [false, false, false, false, false, false, false, false, false, false, false, false, false, false, false, false, false, false, false, false, false, false, false, false, false, false, false, false, false, false, false, false, false, false, false, false, false, false, false, false, false, false, false, false, false, false, false, true, true, false, false, false, false, false, false, false, false, false, false, false, false, false, false, false, false, false, false, false, false, false, false, false, false, false, false, false, false, false, false, false, false, false, false, false, false, false, false, false, false, false, false, false, false, false, false, false, false, false, false, false, false, false, false, false, false, false, false, false, false, false, false, false, false, false, false, false, false, false, false]
theorem moveApply_wf : wfB 0 moveApply_N = true := by kernel_rfl
theorem moveApply_sz : szC moveApply_Z moveApply_I moveApply_N moveApply_Z moveApply_I = true := by kernel_rfl
theorem moveApply_lt : litB moveApply_N moveApply_L = true := by kernel_rfl
theorem moveApply_cn : canB moveApply_N moveApply_C = true := by kernel_rfl
theorem moveApply_c47 : cst 0 0 1 = (0 : Rat) := by decide +kernel
theorem moveApply_c48 : cst 0 1 1 = (1 : Rat) := by decide +kernel
theorem moveApply_f0 {z0 z1 z2 z3 z42 z43 z44 z45 z46 : Rat} : z42 = z0 * z3 → z43 = z1 * z2 → z44 = z42 - z43 → z45 = z2 * z1 → z46 = z42 - z45 → z44 = z46 := by
 intro e42 e43 e44 e45 e46
 subst_vars; grind
theorem moveApply_f1 {z0 z2 z4 z6 z7 z8 z9 z10 z11 z12 z14 z16 z18 z20 z22 z24 z26 z28 z30 z47 z49 z50 z51 z52 z57 z58 z59 z60 z61 z62 z63 z64 z65 z66 z67 z68 z73 : Rat} : z12 = z0 * z6 → z14 = z2 * z7 → z16 = z12 + z14 → z18 = z0 * z8 → z20 = z2 * z9 → z22 = z18 + z20 → z24 = z0 * z10 → z26 = z2 * z11 → z28 = z24 + z26 → z30 = z28 + z4 → z47 = 0 → z49 = z16 * z47 → z50 = z22 * z47 → z51 = z49 + z50 → z52 = z51 + z30 → z57 = z6 * z47 → z58 = z8 * z47 → z59 = z57 + z58 → z60 = z59 + z10 → z61 = z7 * z47 → z62 = z9 * z47 → z63 = z61 + z62 → z64 = z63 + z11 → z65 = z0 * z60 → z66 = z2 * z64 → z67 = z65 + z66 → z68 = z67 + z4 → z73 = z52 - z68 → z73 = 0 := by
 intro e12 e14 e16 e18 e20 e22 e24 e26 e28 e30 e47 e49 e50 e51 e52 e57 e58 e59 e60 e61 e62 e63 e64 e65 e66 e67 e68 e73
 subst_vars; grind
theorem moveApply_f2 {z1 z3 z5 z6 z7 z8 z9 z10 z11 z13 z15 z17 z19 z21 z23 z25 z27 z29 z31 z47 z53 z54 z55 z56 z57 z58 z59 z60 z61 z62 z63 z64 z69 z70 z71 z72 z74 : Rat} : z13 = z1 * z6 → z15 = z3 * z7 → z17 = z13 + z15 → z19 = z1 * z8 → z21 = z3 * z9 → z23 = z19 + z21 → z25 = z1 * z10 → z27 = z3 * z11 → z29 = z25 + z27 → z31 = z29 + z5 → z47 = 0 → z53 = z17 * z47 → z54 = z23 * z47 → z55 = z53 + z54 → z56 = z55 + z31 → z57 = z6 * z47 → z58 = z8 * z47 → z59 = z57 + z58 → z60 = z59 + z10 → z61 = z7 * z47 → z62 = z9 * z47 → z63 = z61 + z62 → z64 = z63 + z11 → z69 = z1 * z60 → z70 = z3 * z64 → z71 = z69 + z70 → z72 = z71 + z5 → z74 = z56 - z72 → z74 = 0 := by
 intro e13 e15 e17 e19 e21 e23 e25 e27 e29 e31 e47 e53 e54 e55 e56 e57 e58 e59 e60 e61 e62 e63 e64 e69 e70 e71 e72 e74
 subst_vars; grind
theorem moveApply_f3 {z0 z2 z4 z6 z7 z8 z9 z10 z11 z12 z14 z16 z18 z20 z22 z24 z26 z28 z30 z47 z48 z50 z58 z62 z75 z76 z77 z81 z82 z83 z84 z85 z86 z87 z88 z89 z90 z95 : Rat} : z12 = z0 * z6 → z14 = z2 * z7 → z16 = z12 + z14 → z18 = z0 * z8 → z20 = z2 * z9 → z22 = z18 + z20 → z24 = z0 * z10 → z26 = z2 * z11 → z28 = z24 + z26 → z30 = z28 + z4 → z47 = 0 → z48 = 1 → z50 = z22 * z47 → z58 = z8 * z47 → z62 = z9 * z47 → z75 = z16 * z48 → z76 = z75 + z50 → z77 = z76 + z30 → z81 = z6 * z48 → z82 = z81 + z58 → z83 = z82 + z10 → z84 = z7 * z48 → z85 = z84 + z62 → z86 = z85 + z11 → z87 = z0 * z83 → z88 = z2 * z86 → z89 = z87 + z88 → z90 = z89 + z4 → z95 = z77 - z90 → z95 = 0 := by
 intro e12 e14 e16 e18 e20 e22 e24 e26 e28 e30 e47 e48 e50 e58 e62 e75 e76 e77 e81 e82 e83 e84 e85 e86 e87 e88 e89 e90 e95
 subst_vars; grind
theorem moveApply_f4 {z1 z3 z5 z6 z7 z8 z9 z10 z11 z13 z15 z17 z19 z21 z23 z25 z27 z29 z31 z47 z48 z54 z58 z62 z78 z79 z80 z81 z82 z83 z84 z85 z86 z91 z92 z93 z94 z96 : Rat} : z13 = z1 * z6 → z15 = z3 * z7 → z17 = z13 + z15 → z19 = z1 * z8 → z21 = z3 * z9 → z23 = z19 + z21 → z25 = z1 * z10 → z27 = z3 * z11 → z29 = z25 + z27 → z31 = z29 + z5 → z47 = 0 → z48 = 1 → z54 = z23 * z47 → z58 = z8 * z47 → z62 = z9 * z47 → z78 = z17 * z48 → z79 = z78 + z54 → z80 = z79 + z31 → z81 = z6 * z48 → z82 = z81 + z58 → z83 = z82 + z10 → z84 = z7 * z48 → z85 = z84 + z62 → z86 = z85 + z11 → z91 = z1 * z83 → z92 = z3 * z86 → z93 = z91 + z92 → z94 = z93 + z5 → z96 = z80 - z94 → z96 = 0 := by
 intro e13 e15 e17 e19 e21 e23 e25 e27 e29 e31 e47 e48 e54 e58 e62 e78 e79 e80 e81 e82 e83 e84 e85 e86 e91 e92 e93 e94 e96
 subst_vars; grind
theorem moveApply_f5 {z0 z2 z4 z6 z7 z8 z9 z10 z11 z12 z14 z16 z18 z20 z22 z24 z26 z28 z30 z47 z48 z49 z57 z61 z97 z98 z99 z103 z104 z105 z106 z107 z108 z109 z110 z111 z112 z117 : Rat} : z12 = z0 * z6 → z14 = z2 * z7 → z16 = z12 + z14 → z18 = z0 * z8 → z20 = z2 * z9 → z22 = z18 + z20 → z24 = z0 * z10 → z26 = z2 * z11 → z28 = z24 + z26 → z30 = z28 + z4 → z47 = 0 → z48 = 1 → z49 = z16 * z47 → z57 = z6 * z47 → z61 = z7 * z47 → z97 = z22 * z48 → z98 = z49 + z97 → z99 = z98 + z30 → z103 = z8 * z48 → z104 = z57 + z103 → z105 = z104 + z10 → z106 = z9 * z48 → z107 = z61 + z106 → z108 = z107 + z11 → z109 = z0 * z105 → z110 = z2 * z108 → z111 = z109 + z110 → z112 = z111 + z4 → z117 = z99 - z112 → z117 = 0 := by
 intro e12 e14 e16 e18 e20 e22 e24 e26 e28 e30 e47 e48 e49 e57 e61 e97 e98 e99 e103 e104 e105 e106 e107 e108 e109 e110 e111 e112 e117
 subst_vars; grind
theorem moveApply_f6 {z1 z3 z5 z6 z7 z8 z9 z10 z11 z13 z15 z17 z19 z21 z23 z25 z27 z29 z31 z47 z48 z53 z57 z61 z100 z101 z102 z103 z104 z105 z106 z107 z108 z113 z114 z115 z116 z118 : Rat} : z13 = z1 * z6 → z15 = z3 * z7 → z17 = z13 + z15 → z19 = z1 * z8 → z21 = z3 * z9 → z23 = z19 + z21 → z25 = z1 * z10 → z27 = z3 * z11 → z29 = z25 + z27 → z31 = z29 + z5 → z47 = 0 → z48 = 1 → z53 = z17 * z47 → z57 = z6 * z47 → z61 = z7 * z47 → z100 = z23 * z48 → z101 = z53 + z100 → z102 = z101 + z31 → z103 = z8 * z48 → z104 = z57 + z103 → z105 = z104 + z10 → z106 = z9 * z48 → z107 = z61 + z106 → z108 = z107 + z11 → z113 = z1 * z105 → z114 = z3 * z108 → z115 = z113 + z114 → z116 = z115 + z5 → z118 = z102 - z116 → z118 = 0 := by
 intro e13 e15 e17 e19 e21 e23 e25 e27 e29 e31 e47 e48 e53 e57 e61 e100 e101 e102 e103 e104 e105 e106 e107 e108 e113 e114 e115 e116 e118
 subst_vars; grind
theorem moveApply_r0 : (callB (sx Tryz.prog moveApply_N [(3, 44, 46, 1), (6, 73, 74, 1), (6, 95, 96, 1), (6, 117, 118, 1)] [(208, [.inr (3, 6, 0, 0, 0)]), (208, [.inr (3, 17, 0, 0, 0)]), (208, [.inr (3, 92, 0, 0, 0)]), (208, [.inr (3, 151, 0, 0, 0)])] moveApply_L moveApply_C moveApply_Z (prQ [50])) 7 9 [(false, [(true, [.inr (2, 0, 0, 0, 0), .inr (2, 1, 0, 0, 0), .inr (2, 2, 0, 0, 0), .inr (2, 3, 0, 0, 0), .inr (2, 4, 0, 0, 0), .inr (2, 5, 0, 0, 0)])]), (false, [(true, [.inr (2, 6, 0, 0, 0), .inr (2, 7, 0, 0, 0), .inr (2, 8, 0, 0, 0), .inr (2, 9, 0, 0, 0), .inr (2, 10, 0, 0, 0), .inr (2, 11, 0, 0, 0)])]), (false, [(true, [.inr (2, 12, 0, 0, 0), .inr (2, 13, 0, 0, 0)])])] [] 0).map (·.1) = some (kB true) := by kernel_rfl
theorem moveApply_An {a b : Prop} (x : a) (y : b) : a ∧ b := ⟨x, y⟩
theorem moveApply_leaf {H : List (Nat × Nat × Nat × Nat)} {K : List (FuncId × List AC)} {k : Nat} {q : Nat → Rat} {σ : Nat → ByteArray} {args : List AV} {vs : List Value} {w : World} (hr : (callB (sx Tryz.prog moveApply_N H K moveApply_L moveApply_C moveApply_Z (prQ [50])) k 9 args [] 0).map (·.1) = some (kB true)) (hσ : ∀ j, (σ j).size ≤ 1048576) (hq : ∀ (a : Nat) nd, moveApply_N[a]? = some nd → q a = valN σ q nd) (h0 : ∀ a, moveApply_N.length ≤ a → q a = 0) (hH : hAll q H) (hp : PreS w) (hA : ∀ K, A2 (avOn (cOn (evS q σ) K (fun _ => none) w)) args vs) : Calls Tryz.prog 9 vs.toArray w fun e w' => Below w.heap.size w w' ∧ e = .returned (.bool true) :=
 run_toldQ' k (hy_ofW hσ moveApply_wf moveApply_sz moveApply_lt moveApply_cn hq h0 hH) (by simp [closed_moved]) (by kernel_rfl) hr hp (hA K)
theorem moveApply_walk {w : World} {aa ab ac ad ae af ba bb bc bd be bf vx vz : ByteArray} (saa : aa.size ≤ 1048576) (sab : ab.size ≤ 1048576) (sac : ac.size ≤ 1048576) (sad : ad.size ≤ 1048576) (sae : ae.size ≤ 1048576) (saf : af.size ≤ 1048576) (sba : ba.size ≤ 1048576) (sbb : bb.size ≤ 1048576) (sbc : bc.size ≤ 1048576) (sbd : bd.size ≤ 1048576) (sbe : be.size ≤ 1048576) (sbf : bf.size ≤ 1048576) (svx : vx.size ≤ 1048576) (svz : vz.size ≤ 1048576) (tab : Tab w) (mx : MaxL w) :
  Calls Tryz.prog 9 #[.agg #[.string aa, .string ab, .string ac, .string ad, .string ae, .string af], .agg #[.string ba, .string bb, .string bc, .string bd, .string be, .string bf], .agg #[.string vx, .string vz]] w fun e w' => Below w.heap.size w w' ∧ e = .returned (.bool true) := by
 have hσ : ∀ j, (sgOf [aa, ab, ac, ad, ae, af, ba, bb, bc, bd, be, bf, vx, vz] j).size ≤ 1048576 := sgOf_size (by simp [saa, sab, sac, sad, sae, saf, sba, sbb, sbc, sbd, sbe, sbf, svx, svz])
 obtain ⟨q, hq, h0⟩ := nodes_exist (sgOf [aa, ab, ac, ad, ae, af, ba, bb, bc, bd, be, bf, vx, vz]) moveApply_N moveApply_wf
 have hA : ∀ K, A2 (avOn (cOn (evS q (sgOf [aa, ab, ac, ad, ae, af, ba, bb, bc, bd, be, bf, vx, vz])) K (fun _ => none) w)) [(false, [(true, [.inr (2, 0, 0, 0, 0), .inr (2, 1, 0, 0, 0), .inr (2, 2, 0, 0, 0), .inr (2, 3, 0, 0, 0), .inr (2, 4, 0, 0, 0), .inr (2, 5, 0, 0, 0)])]), (false, [(true, [.inr (2, 6, 0, 0, 0), .inr (2, 7, 0, 0, 0), .inr (2, 8, 0, 0, 0), .inr (2, 9, 0, 0, 0), .inr (2, 10, 0, 0, 0), .inr (2, 11, 0, 0, 0)])]), (false, [(true, [.inr (2, 12, 0, 0, 0), .inr (2, 13, 0, 0, 0)])])] [.agg #[.string aa, .string ab, .string ac, .string ad, .string ae, .string af], .agg #[.string ba, .string bb, .string bc, .string bd, .string be, .string bf], .agg #[.string vx, .string vz]] := fun K => ⟨⟨⟨[.string aa, .string ab, .string ac, .string ad, .string ae, .string af], rfl, rfl, rfl, rfl, rfl, rfl, rfl, trivial⟩, trivial⟩, ⟨⟨[.string ba, .string bb, .string bc, .string bd, .string be, .string bf], rfl, rfl, rfl, rfl, rfl, rfl, rfl, trivial⟩, trivial⟩, ⟨⟨[.string vx, .string vz], rfl, rfl, rfl, trivial⟩, trivial⟩, trivial⟩
 have E12 : q 12 = q 0 * q 6 := hq 12 _ rfl
 have E13 : q 13 = q 1 * q 6 := hq 13 _ rfl
 have E14 : q 14 = q 2 * q 7 := hq 14 _ rfl
 have E15 : q 15 = q 3 * q 7 := hq 15 _ rfl
 have E16 : q 16 = q 12 + q 14 := hq 16 _ rfl
 have E17 : q 17 = q 13 + q 15 := hq 17 _ rfl
 have E18 : q 18 = q 0 * q 8 := hq 18 _ rfl
 have E19 : q 19 = q 1 * q 8 := hq 19 _ rfl
 have E20 : q 20 = q 2 * q 9 := hq 20 _ rfl
 have E21 : q 21 = q 3 * q 9 := hq 21 _ rfl
 have E22 : q 22 = q 18 + q 20 := hq 22 _ rfl
 have E23 : q 23 = q 19 + q 21 := hq 23 _ rfl
 have E24 : q 24 = q 0 * q 10 := hq 24 _ rfl
 have E25 : q 25 = q 1 * q 10 := hq 25 _ rfl
 have E26 : q 26 = q 2 * q 11 := hq 26 _ rfl
 have E27 : q 27 = q 3 * q 11 := hq 27 _ rfl
 have E28 : q 28 = q 24 + q 26 := hq 28 _ rfl
 have E29 : q 29 = q 25 + q 27 := hq 29 _ rfl
 have E30 : q 30 = q 28 + q 4 := hq 30 _ rfl
 have E31 : q 31 = q 29 + q 5 := hq 31 _ rfl
 have E42 : q 42 = q 0 * q 3 := hq 42 _ rfl
 have E43 : q 43 = q 1 * q 2 := hq 43 _ rfl
 have E44 : q 44 = q 42 - q 43 := hq 44 _ rfl
 have E45 : q 45 = q 2 * q 1 := hq 45 _ rfl
 have E46 : q 46 = q 42 - q 45 := hq 46 _ rfl
 have E47 : q 47 = 0 := (hq 47 _ rfl).trans moveApply_c47
 have E48 : q 48 = 1 := (hq 48 _ rfl).trans moveApply_c48
 have E49 : q 49 = q 16 * q 47 := hq 49 _ rfl
 have E50 : q 50 = q 22 * q 47 := hq 50 _ rfl
 have E51 : q 51 = q 49 + q 50 := hq 51 _ rfl
 have E52 : q 52 = q 51 + q 30 := hq 52 _ rfl
 have E53 : q 53 = q 17 * q 47 := hq 53 _ rfl
 have E54 : q 54 = q 23 * q 47 := hq 54 _ rfl
 have E55 : q 55 = q 53 + q 54 := hq 55 _ rfl
 have E56 : q 56 = q 55 + q 31 := hq 56 _ rfl
 have E57 : q 57 = q 6 * q 47 := hq 57 _ rfl
 have E58 : q 58 = q 8 * q 47 := hq 58 _ rfl
 have E59 : q 59 = q 57 + q 58 := hq 59 _ rfl
 have E60 : q 60 = q 59 + q 10 := hq 60 _ rfl
 have E61 : q 61 = q 7 * q 47 := hq 61 _ rfl
 have E62 : q 62 = q 9 * q 47 := hq 62 _ rfl
 have E63 : q 63 = q 61 + q 62 := hq 63 _ rfl
 have E64 : q 64 = q 63 + q 11 := hq 64 _ rfl
 have E65 : q 65 = q 0 * q 60 := hq 65 _ rfl
 have E66 : q 66 = q 2 * q 64 := hq 66 _ rfl
 have E67 : q 67 = q 65 + q 66 := hq 67 _ rfl
 have E68 : q 68 = q 67 + q 4 := hq 68 _ rfl
 have E69 : q 69 = q 1 * q 60 := hq 69 _ rfl
 have E70 : q 70 = q 3 * q 64 := hq 70 _ rfl
 have E71 : q 71 = q 69 + q 70 := hq 71 _ rfl
 have E72 : q 72 = q 71 + q 5 := hq 72 _ rfl
 have E73 : q 73 = q 52 - q 68 := hq 73 _ rfl
 have E74 : q 74 = q 56 - q 72 := hq 74 _ rfl
 have E75 : q 75 = q 16 * q 48 := hq 75 _ rfl
 have E76 : q 76 = q 75 + q 50 := hq 76 _ rfl
 have E77 : q 77 = q 76 + q 30 := hq 77 _ rfl
 have E78 : q 78 = q 17 * q 48 := hq 78 _ rfl
 have E79 : q 79 = q 78 + q 54 := hq 79 _ rfl
 have E80 : q 80 = q 79 + q 31 := hq 80 _ rfl
 have E81 : q 81 = q 6 * q 48 := hq 81 _ rfl
 have E82 : q 82 = q 81 + q 58 := hq 82 _ rfl
 have E83 : q 83 = q 82 + q 10 := hq 83 _ rfl
 have E84 : q 84 = q 7 * q 48 := hq 84 _ rfl
 have E85 : q 85 = q 84 + q 62 := hq 85 _ rfl
 have E86 : q 86 = q 85 + q 11 := hq 86 _ rfl
 have E87 : q 87 = q 0 * q 83 := hq 87 _ rfl
 have E88 : q 88 = q 2 * q 86 := hq 88 _ rfl
 have E89 : q 89 = q 87 + q 88 := hq 89 _ rfl
 have E90 : q 90 = q 89 + q 4 := hq 90 _ rfl
 have E91 : q 91 = q 1 * q 83 := hq 91 _ rfl
 have E92 : q 92 = q 3 * q 86 := hq 92 _ rfl
 have E93 : q 93 = q 91 + q 92 := hq 93 _ rfl
 have E94 : q 94 = q 93 + q 5 := hq 94 _ rfl
 have E95 : q 95 = q 77 - q 90 := hq 95 _ rfl
 have E96 : q 96 = q 80 - q 94 := hq 96 _ rfl
 have E97 : q 97 = q 22 * q 48 := hq 97 _ rfl
 have E98 : q 98 = q 49 + q 97 := hq 98 _ rfl
 have E99 : q 99 = q 98 + q 30 := hq 99 _ rfl
 have E100 : q 100 = q 23 * q 48 := hq 100 _ rfl
 have E101 : q 101 = q 53 + q 100 := hq 101 _ rfl
 have E102 : q 102 = q 101 + q 31 := hq 102 _ rfl
 have E103 : q 103 = q 8 * q 48 := hq 103 _ rfl
 have E104 : q 104 = q 57 + q 103 := hq 104 _ rfl
 have E105 : q 105 = q 104 + q 10 := hq 105 _ rfl
 have E106 : q 106 = q 9 * q 48 := hq 106 _ rfl
 have E107 : q 107 = q 61 + q 106 := hq 107 _ rfl
 have E108 : q 108 = q 107 + q 11 := hq 108 _ rfl
 have E109 : q 109 = q 0 * q 105 := hq 109 _ rfl
 have E110 : q 110 = q 2 * q 108 := hq 110 _ rfl
 have E111 : q 111 = q 109 + q 110 := hq 111 _ rfl
 have E112 : q 112 = q 111 + q 4 := hq 112 _ rfl
 have E113 : q 113 = q 1 * q 105 := hq 113 _ rfl
 have E114 : q 114 = q 3 * q 108 := hq 114 _ rfl
 have E115 : q 115 = q 113 + q 114 := hq 115 _ rfl
 have E116 : q 116 = q 115 + q 5 := hq 116 _ rfl
 have E117 : q 117 = q 99 - q 112 := hq 117 _ rfl
 have E118 : q 118 = q 102 - q 116 := hq 118 _ rfl
 have a_3_44_46 : q 44 = q 46 := moveApply_f0 E42 E43 E44 E45 E46
 have a_6_73_74 : q 73 = 0 ∧ q 74 = 0 := And.intro (moveApply_f1 E12 E14 E16 E18 E20 E22 E24 E26 E28 E30 E47 E49 E50 E51 E52 E57 E58 E59 E60 E61 E62 E63 E64 E65 E66 E67 E68 E73) (moveApply_f2 E13 E15 E17 E19 E21 E23 E25 E27 E29 E31 E47 E53 E54 E55 E56 E57 E58 E59 E60 E61 E62 E63 E64 E69 E70 E71 E72 E74)
 have a_6_95_96 : q 95 = 0 ∧ q 96 = 0 := And.intro (moveApply_f3 E12 E14 E16 E18 E20 E22 E24 E26 E28 E30 E47 E48 E50 E58 E62 E75 E76 E77 E81 E82 E83 E84 E85 E86 E87 E88 E89 E90 E95) (moveApply_f4 E13 E15 E17 E19 E21 E23 E25 E27 E29 E31 E47 E48 E54 E58 E62 E78 E79 E80 E81 E82 E83 E84 E85 E86 E91 E92 E93 E94 E96)
 have a_6_117_118 : q 117 = 0 ∧ q 118 = 0 := And.intro (moveApply_f5 E12 E14 E16 E18 E20 E22 E24 E26 E28 E30 E47 E48 E49 E57 E61 E97 E98 E99 E103 E104 E105 E106 E107 E108 E109 E110 E111 E112 E117) (moveApply_f6 E13 E15 E17 E19 E21 E23 E25 E27 E29 E31 E47 E48 E53 E57 E61 E100 E101 E102 E103 E104 E105 E106 E107 E108 E113 E114 E115 E116 E118)
 exact moveApply_leaf moveApply_r0 hσ hq h0 (moveApply_An (hT a_3_44_46) (moveApply_An (hT a_6_73_74) (moveApply_An (hT a_6_95_96) (moveApply_An (hT a_6_117_118) trivial)))) ⟨tab, mx⟩ hA
end Go.Proofs.YtkcikcnimkofkaaGreatDoor
