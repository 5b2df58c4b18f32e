/- Part 13 of the walks and of the mathematics under them: VY VSZ CFmoved MVM. -/
import Derived.Test.YtkcikcnimkofkaaGreatDoorA12
set_option maxHeartbeats 16000000
set_option maxRecDepth 100000
/- VY -/
namespace Go.Proofs.YtkcikcnimkofkaaGreatDoor
open Go.RowKit Cx
theorem den_num (t : Rat) : t * (t.den : Rat) = ((t.num : Int) : Rat) := by
 conv => lhs; lhs; rw [← Rat.mkRat_self t]
 have h0 : (t.den : Rat) ≠ 0 := fun h => t.den_nz (by exact_mod_cast h)
 rw [Rat.mkRat_eq_div, Rat.div_mul_cancel h0]
theorem whole {q : Rat} (h : q.den = 1) : q = ((q.num : Int) : Rat) := by
 have := den_num q
 rw [h] at this
 rw [← this]
 show q = q * ((1 : Nat) : Rat)
 exact (Rat.mul_one q).symm
end Go.Proofs.YtkcikcnimkofkaaGreatDoor
/- VSZ -/
namespace Go.Proofs.YtkcikcnimkofkaaGreatDoor
open Go.RowKit Cx
def szW (Z : List Nat) (I : List Bool) (z : Nat) (b : Bool) (nd : Nd) : Bool := match nd.1, nd.2 with
 | 0, [_, n, d] => (Nat.blt n (2 ^ z) && (Nat.blt 0 d && Nat.blt d (2 ^ z))) && (!b || Nat.beq d 1)
 | 1, [_] => Nat.ble 3495259 z && !b
 | 2, [a, c] => (match Z[a]?, Z[c]?, I[a]?, I[c]? with
  | some x, some y, some true, some true => Nat.ble (Nat.max x y + 1) z
  | some x, some y, _, _ => Nat.ble (x + y + 1) z && !b
  | _, _, _, _ => false)
 | 3, [a, c] => (match Z[a]?, Z[c]?, I[a]?, I[c]? with
  | some x, some y, some true, some true => Nat.ble (Nat.max x y + 1) z
  | some x, some y, _, _ => Nat.ble (x + y + 1) z && !b
  | _, _, _, _ => false)
 | 4, [a, c] => (match Z[a]?, Z[c]?, I[a]?, I[c]? with
  | some x, some y, some true, some true => Nat.ble (x + y) z
  | some x, some y, _, _ => Nat.ble (x + y) z && !b
  | _, _, _, _ => false)
 | 5, [a] => (match Z[a]?, I[a]? with
  | some x, some true => Nat.ble x z
  | some x, _ => Nat.ble x z && !b
  | _, _ => false)
 | 6, [a, c] => (match Z[a]?, Z[c]? with
  | some x, some y => Nat.ble (x + y) z && !b
  | _, _ => false)
 | 8, i :: xs => (match getsO Z xs with
  | some zs => Nat.blt i xs.length && (Nat.ble ((xs.length + 1) * maxL zs + 1) z || (xs.all (fun a => match I[a]? with
   | some true => true
   | _ => false) && (match xs[i]? with
   | some a => (match Z[a]? with
    | some x => Nat.ble (x + 1) z
    | none => false)
   | none => false)))
  | none => false)
 | _, _ => false
def szC (Z : List Nat) (I : List Bool) : List Nd → List Nat → List Bool → Bool
 | [], [], [] => true
 | nd :: ns, z :: zs, b :: bs => (szW Z I z b nd && Nat.ble z 1000000000000) && szC Z I ns zs bs
 | _, _, _ => false
theorem szC_get {Z : List Nat} {I : List Bool} : ∀ {ns : List Nd} {zs : List Nat} {bs : List Bool} {i z : Nat}, szC Z I ns zs bs = true → zs[i]? = some z → ∃ nd b, ns[i]? = some nd ∧ bs[i]? = some b ∧ szW Z I z b nd = true ∧ z ≤ 1000000000000
 | [], [], [], _, _, _, h => by simp at h
 | [], [], _ :: _, _, _, h, _ => by cases h
 | [], _ :: _, _, _, _, h, _ => by cases h
 | _ :: _, [], _, _, _, h, _ => by cases h
 | _ :: _, _ :: _, [], _, _, h, _ => by cases h
 | nd :: ns, z' :: zs, b :: bs, 0, z, h, e => by
  have : z' = z := by simpa using e
  subst this
  unfold szC at h
  simp only [Bool.and_eq_true, Nat.ble_eq] at h
  exact ⟨nd, b, rfl, rfl, h.1.1, h.1.2⟩
 | nd :: ns, z' :: zs, b :: bs, i + 1, z, h, e => by
  unfold szC at h
  rw [Bool.and_eq_true] at h
  obtain ⟨nd2, b2, g1, g2, g3⟩ := szC_get (ns := ns) (zs := zs) (bs := bs) h.2 (show zs[i]? = some z by simpa using e)
  exact ⟨nd2, b2, by simpa using g1, by simpa using g2, g3⟩
theorem szC_len {Z : List Nat} {I : List Bool} : ∀ {ns : List Nd} {zs : List Nat} {bs : List Bool}, szC Z I ns zs bs = true → ns.length = zs.length
 | [], [], [], _ => rfl
 | [], [], _ :: _, h => by cases h
 | [], _ :: _, _, h => by cases h
 | _ :: _, [], _, h => by cases h
 | _ :: _, _ :: _, [], h => by cases h
 | _ :: _, _ :: _, _ :: _, h => by
  unfold szC at h
  rw [Bool.and_eq_true] at h
  exact congrArg (· + 1) (szC_len h.2)
structure QW (z : Nat) (x : Rat) : Prop where
 qs : QS z x
 wh : x.den = 1
theorem QW.of {z : Nat} {n : Int} (h : n.natAbs < 2 ^ z) (hz : 0 < z) : QW z ((n : Int) : Rat) :=
 ⟨⟨by simpa using h, by
  show ((n : Int) : Rat).den < 2 ^ z
  rw [Rat.den_intCast]
  exact Nat.one_lt_two_pow (by omega)⟩, Rat.den_intCast n⟩
theorem QW.mono {k l : Nat} {x : Rat} (h : QW k x) (hk : k ≤ l) : QW l x := ⟨h.qs.mono hk, h.wh⟩
theorem two_max {a b x y : Nat} (h1 : a < 2 ^ x) (h2 : b < 2 ^ y) : a + b < 2 ^ (Nat.max x y + 1) := by
 have e1 : 2 ^ x ≤ 2 ^ Nat.max x y := Nat.pow_le_pow_right (by decide) (Nat.le_max_left x y)
 have e2 : 2 ^ y ≤ 2 ^ Nat.max x y := Nat.pow_le_pow_right (by decide) (Nat.le_max_right x y)
 rw [Nat.pow_succ]
 omega
theorem QW.add {x y : Nat} {a b : Rat} (h1 : QW x a) (h2 : QW y b) : QW (Nat.max x y + 1) (a + b) := by
 rw [whole h1.wh, whole h2.wh, ← Rat.intCast_add]
 refine QW.of ?_ (by omega)
 have := two_max h1.qs.num h2.qs.num
 omega
theorem QW.sub {x y : Nat} {a b : Rat} (h1 : QW x a) (h2 : QW y b) : QW (Nat.max x y + 1) (a - b) := by
 rw [whole h1.wh, whole h2.wh, ← Rat.intCast_sub]
 refine QW.of ?_ (by omega)
 have := two_max h1.qs.num h2.qs.num
 omega
theorem QW.mul {x y : Nat} {a b : Rat} (h1 : QW x a) (h2 : QW y b) : QW (x + y) (a * b) := by
 refine ⟨h1.qs.mul h2.qs, ?_⟩
 rw [whole h1.wh, whole h2.wh, ← Rat.intCast_mul]
 exact Rat.den_intCast _
theorem QW.neg {x : Nat} {a : Rat} (h1 : QW x a) : QW x (-a) := ⟨h1.qs.neg, h1.wh⟩
theorem lD_one : ∀ {qs : List Rat} {m : Nat}, (∀ q ∈ qs, q.den = 1) → qs.foldl (fun m q => m * (q.den / Nat.gcd m q.den)) m = m
 | [], _, _ => rfl
 | q :: qs, m, h => by
  rw [List.foldl_cons, h q List.mem_cons_self, Nat.gcd_one_right, Nat.div_self (by decide), Nat.mul_one]
  exact lD_one fun p hp => h p (List.mem_cons_of_mem _ hp)
theorem QW.fac {z : Nat} {qs : List Rat} {x : Rat} (hx : QS z x) (h : x ∈ qs) (hw : ∀ y ∈ qs, y.den = 1) : QS (z + 1) (x * fac qs) := by
 have hl : lD qs = 1 := lD_one hw
 refine ⟨?_, ?_⟩
 ·rw [fac_abs h, hl, hw x h, Nat.div_self (by decide), Nat.mul_one]
  exact Nat.lt_of_le_of_lt (Nat.div_le_self _ _) (Nat.lt_of_lt_of_le hx.num (Nat.pow_le_pow_right (by decide) (by omega)))
 ·rw [fac_den h]
  exact Nat.one_lt_two_pow (by omega)
theorem ten_three : ∀ n : Nat, 10 ^ n ≤ 2 ^ ((10 * n + 2) / 3)
 | 0 => by decide
 | 1 => by decide
 | 2 => by decide
 | n + 3 => by
  have h := ten_three n
  have e : (10 * (n + 3) + 2) / 3 = (10 * n + 2) / 3 + 10 := by omega
  rw [e, Nat.pow_add, Nat.pow_add]
  exact Nat.mul_le_mul h (by decide)
theorem QS.rd3 (l : List UInt8) : QS ((10 * l.length + 2) / 3 + 5) (Cx.rd l) := by
 have key : ∀ {m : List UInt8}, digs m = true → dv m < 2 ^ ((10 * m.length + 2) / 3) := fun {m} h => Nat.lt_of_lt_of_le (dv_lt (digs_all h)) (ten_three _)
 unfold Cx.rd
 split
 ·rename_i h
  rw [Bool.and_eq_true] at h
  have h1 := key h.1
  have h2 := key h.2
  have h3 := up_len (tailOf l)
  have h4 := low_len (tailOf l)
  have h5 := tail_len l
  apply QS.mkr
  ·rw [sg_abs]; exact Nat.lt_of_lt_of_le h1 (Nat.pow_le_pow_right (by decide) (by omega))
  ·exact Nat.lt_of_lt_of_le h2 (Nat.pow_le_pow_right (by decide) (by omega))
 ·exact QS.zero.mono (by omega)
section
variable {N : List Nd} {Z : List Nat} {I : List Bool} {q : Nat → Rat}
theorem sizes_okW {σ : Nat → ByteArray} (hσ : ∀ j, (σ j).size ≤ 1048576) (hw : wfB 0 N = true) (hz : szC Z I N Z I = true) (hq : ∀ (a : Nat) nd, N[a]? = some nd → q a = valN σ q nd) (h0 : ∀ a, N.length ≤ a → q a = 0) : (∀ (a : Nat) z, Z[a]? = some z → QS z (q a)) ∧ ∀ a, QS 1000000000000 (q a) := by
 have h2 : ∀ (a : Nat) z, Z[a]? = some z → QS z (q a) ∧ (I[a]? = some true → (q a).den = 1) := by
  intro a
  induction a using Nat.strongRecOn with
  | ind a ih =>
   intro z hz'
   obtain ⟨nd, b, hn, hb, hs, _⟩ := szC_get hz hz'
   have hwf := wfB_get hw hn
   rw [Nat.zero_add] at hwf
   rw [hq a nd hn, hb]
   obtain ⟨op, xs⟩ := nd
   unfold szW at hs
   unfold valN
   unfold wfN at hwf
   dsimp only at hs hwf ⊢
   have W : ∀ {c x}, c < a → Z[c]? = some x → I[c]? = some true → QW x (q c) := fun hc hx hi => ⟨(ih _ hc _ hx).1, (ih _ hc _ hx).2 hi⟩
   have no : ∀ {v : Rat}, b = false → (some b = some true → v.den = 1) := fun e h => by rw [e] at h; cases h
   split at hs
   ·rename_i s n d
    simp only [Bool.and_eq_true] at hs
    obtain ⟨⟨h1, h2, h3⟩, h4⟩ := hs
    refine ⟨QS.const (by simpa [Nat.blt_eq] using h1) (by simpa [Nat.blt_eq] using h2) (by simpa [Nat.blt_eq] using h3), fun e => ?_⟩
    rw [show b = true from Option.some.inj e] at h4
    have hd : d = 1 := by simpa using h4
    subst hd
    show (if s = 0 then mkRat (n : Int) 1 else mkRat (-(n : Int)) 1).den = 1
    split
    ·rw [Rat.mkRat_one]
     exact Rat.den_intCast _
    ·rw [Rat.mkRat_one]
     exact Rat.den_intCast _
   ·rename_i j
    simp only [Bool.and_eq_true, Nat.ble_eq, Bool.not_eq_true'] at hs
    exact ⟨QS.mono (QS.rd3 _) (by have := hσ j; rw [str_len]; omega), no hs.2⟩
   ·simp only [List.all_cons, List.all_nil, Bool.and_true, Bool.and_eq_true] at hwf
    have l1 := (by simpa [Nat.blt_eq] using hwf.1 : _ < a)
    have l2 := (by simpa [Nat.blt_eq] using hwf.2 : _ < a)
    split at hs
    ·rename_i x y hx hy i1 i2
     rw [Nat.ble_eq] at hs
     have := ((W l1 hx i1).add (W l2 hy i2)).mono hs
     exact ⟨this.qs, fun _ => this.wh⟩
    ·rename_i x y hx hy _
     simp only [Bool.and_eq_true, Nat.ble_eq, Bool.not_eq_true'] at hs
     exact ⟨((ih _ l1 x hx).1.add (ih _ l2 y hy).1).mono hs.1, no hs.2⟩
    ·cases hs
   ·simp only [List.all_cons, List.all_nil, Bool.and_true, Bool.and_eq_true] at hwf
    have l1 := (by simpa [Nat.blt_eq] using hwf.1 : _ < a)
    have l2 := (by simpa [Nat.blt_eq] using hwf.2 : _ < a)
    split at hs
    ·rename_i x y hx hy i1 i2
     rw [Nat.ble_eq] at hs
     have := ((W l1 hx i1).sub (W l2 hy i2)).mono hs
     exact ⟨this.qs, fun _ => this.wh⟩
    ·rename_i x y hx hy _
     simp only [Bool.and_eq_true, Nat.ble_eq, Bool.not_eq_true'] at hs
     exact ⟨((ih _ l1 x hx).1.sub (ih _ l2 y hy).1).mono hs.1, no hs.2⟩
    ·cases hs
   ·simp only [List.all_cons, List.all_nil, Bool.and_true, Bool.and_eq_true] at hwf
    have l1 := (by simpa [Nat.blt_eq] using hwf.1 : _ < a)
    have l2 := (by simpa [Nat.blt_eq] using hwf.2 : _ < a)
    split at hs
    ·rename_i x y hx hy i1 i2
     rw [Nat.ble_eq] at hs
     have := ((W l1 hx i1).mul (W l2 hy i2)).mono hs
     exact ⟨this.qs, fun _ => this.wh⟩
    ·rename_i x y hx hy _
     simp only [Bool.and_eq_true, Nat.ble_eq, Bool.not_eq_true'] at hs
     exact ⟨((ih _ l1 x hx).1.mul (ih _ l2 y hy).1).mono hs.1, no hs.2⟩
    ·cases hs
   ·simp only [List.all_cons, List.all_nil, Bool.and_true] at hwf
    have l1 := (by simpa [Nat.blt_eq] using hwf : _ < a)
    split at hs
    ·rename_i x hx i1
     rw [Nat.ble_eq] at hs
     have := (W l1 hx i1).neg.mono hs
     exact ⟨this.qs, fun _ => this.wh⟩
    ·rename_i x hx _
     simp only [Bool.and_eq_true, Nat.ble_eq, Bool.not_eq_true'] at hs
     exact ⟨((ih _ l1 x hx).1.neg).mono hs.1, no hs.2⟩
    ·cases hs
   ·simp only [List.all_cons, List.all_nil, Bool.and_true, Bool.and_eq_true] at hwf
    split at hs
    ·rename_i x y hx hy
     simp only [Bool.and_eq_true, Nat.ble_eq, Bool.not_eq_true'] at hs
     exact ⟨((ih _ (by simpa [Nat.blt_eq] using hwf.1) x hx).1.div (ih _ (by simpa [Nat.blt_eq] using hwf.2) y hy).1).mono hs.1, no hs.2⟩
    ·cases hs
   ·rename_i i ys
    split at hs
    ·rename_i zs hzs
     rw [Bool.and_eq_true] at hs
     have hi : i < ys.length := by simpa [Nat.blt_eq] using hs.1
     have hwf' : ys.all (Nat.blt · a) = true := hwf
     rw [List.all_eq_true] at hwf'
     have hlt : ∀ c ∈ ys, c < a := fun c hc => by simpa [Nat.blt_eq] using hwf' c hc
     have hm : q ys[i] ∈ ys.map q := List.mem_map_of_mem (List.getElem_mem hi)
     have hg : (ys.map q).getD i 0 = q ys[i] := by
      rw [List.getD_eq_getElem?_getD, List.getElem?_map, List.getElem?_eq_getElem hi]
      rfl
     show QS z ((ys.map q).getD i 0 * fac (ys.map q)) ∧ (some b = some true → ((ys.map q).getD i 0 * fac (ys.map q)).den = 1)
     rw [hg]
     refine ⟨?_, fun _ => fac_den hm⟩
     rcases Bool.or_eq_true _ _ ▸ hs.2 with h3 | h3
     ·rw [Nat.ble_eq] at h3
      have hall : ∀ y ∈ ys.map q, QS (maxL zs) y := fun y hy => by
       obtain ⟨c, hc, rfl⟩ := List.mem_map.1 hy
       obtain ⟨z', hm', hz2⟩ := getsO_get hzs c hc
       exact (ih c (hlt c hc) z' hz2).1.mono (le_maxL z' hm')
      have := QS.facN hall (x := q ys[i]) hm
      rw [List.length_map] at this
      exact this.mono h3
     ·rw [Bool.and_eq_true, List.all_eq_true] at h3
      obtain ⟨h4, h5⟩ := h3
      have hwh : ∀ y ∈ ys.map q, y.den = 1 := fun y hy => by
       obtain ⟨c, hc, rfl⟩ := List.mem_map.1 hy
       obtain ⟨z', _, hz2⟩ := getsO_get hzs c hc
       refine (ih c (hlt c hc) z' hz2).2 ?_
       have := h4 c hc
       split at this
       ·assumption
       ·cases this
      rw [List.getElem?_eq_getElem hi] at h5
      dsimp only at h5
      split at h5
      ·rename_i x hx
       rw [Nat.ble_eq] at h5
       exact (QW.fac (ih _ (hlt _ (List.getElem_mem hi)) x hx).1 hm hwh).mono h5
      ·cases h5
    ·cases hs
   ·cases hs
 refine ⟨fun a z h => (h2 a z h).1, fun a => ?_⟩
 have hl := szC_len hz
 by_cases ha : a < Z.length
 ·obtain ⟨nd, b, _, _, _, hle⟩ := szC_get hz (List.getElem?_eq_getElem ha)
  exact (h2 a _ (List.getElem?_eq_getElem ha)).1.mono hle
 ·rw [h0 a (by omega)]
  exact QS.zero.mono (by decide)
theorem hy_ofW {L C : List (List Nat × Nat)} {σ : Nat → ByteArray} {H : List (Nat × Nat × Nat × Nat)} (hσ : ∀ j, (σ j).size ≤ 1048576) (hw : wfB 0 N = true) (hz : szC Z I N Z I = true) (hl : litB N L = true) (hcn : canB N C = true) (hq : ∀ (a : Nat) nd, N[a]? = some nd → q a = valN σ q nd) (h0 : ∀ a, N.length ≤ a → q a = 0) (hH : hAll q H) : Hy N H L C Z q σ where
 nat := hq
 qs := (sizes_okW hσ hw hz hq h0).2
 zs := (sizes_okW hσ hw hz hq h0).1
 par := hσ
 lit := fun s b h => lit_rd hl hq h
 k0 := fun a r h => kn_at hH h
 k1 := fun a r h => kn_at hH h
 k2 := fun a r h => kn_at hH h
 k3 := fun a b r h => kn_at hH h
 k4 := fun l a b r h1 h2 => by
  have h3 : Nat.beq 1 r = true ↔ q a = q b := kn_at hH h2
  rw [h3, ← can_tx hcn hq h1]
  exact ⟨fun e => by rw [e], fun e => tellS_inj (bytesN_inj e)⟩
 k6 := fun a b r h => kn_at hH h
 k5 := fun a r h => kn_at hH h
end
end Go.Proofs.YtkcikcnimkofkaaGreatDoor
/- CFmoved -/
namespace Go.Proofs.YtkcikcnimkofkaaGreatDoor
open Go.RowKit Cx
theorem closed_moved : Closed 50 :=
 closed_told (N := [(0, [0, 1, 1]), (0, [0, 0, 1]), (4, [0, 1]), (4, [1, 1]), (2, [2, 3]), (2, [4, 1]), (5, [5]), (4, [0, 6]), (4, [1, 6]), (4, [0, 0]), (2, [9, 3]), (6, [7, 10]), (6, [8, 10]), (0, [0, 2, 1]), (4, [11, 13]), (4, [12, 13]), (2, [1, 14]), (2, [1, 15]), (2, [10, 1]), (5, [18]), (4, [0, 19]), (4, [1, 19]), (6, [20, 10]), (6, [21, 10]), (4, [22, 13]), (4, [23, 13]), (2, [0, 24]), (2, [1, 25]), (3, [26, 16]), (3, [27, 17]), (4, [1, 0]), (2, [2, 30]), (2, [31, 1]), (5, [32]), (4, [0, 33]), (4, [1, 33]), (6, [34, 10]), (6, [35, 10]), (4, [36, 13]), (4, [37, 13]), (2, [1, 38]), (2, [0, 39]), (3, [40, 16]), (3, [41, 17]), (0, [1, 1, 1]), (2, [4, 44]), (5, [45]), (4, [0, 46]), (4, [1, 46]), (6, [47, 10]), (6, [48, 10]), (4, [49, 13]), (4, [50, 13]), (2, [1, 51]), (2, [1, 52]), (2, [10, 44]), (5, [55]), (4, [0, 56]), (4, [1, 56]), (6, [57, 10]), (6, [58, 10]), (4, [59, 13]), (4, [60, 13]), (2, [0, 61]), (2, [1, 62]), (3, [63, 53]), (3, [64, 54]), (2, [31, 44]), (5, [67]), (4, [0, 68]), (4, [1, 68]), (6, [69, 10]), (6, [70, 10]), (4, [71, 13]), (4, [72, 13]), (2, [1, 73]), (2, [0, 74]), (3, [75, 53]), (3, [76, 54]), (4, [65, 28]), (4, [66, 28]), (4, [77, 29]), (4, [78, 29]), (2, [79, 81]), (2, [80, 82]), (4, [65, 42]), (4, [66, 42]), (4, [77, 43]), (4, [78, 43]), (2, [85, 87]), (2, [86, 88]), (4, [65, 16]), (4, [66, 16]), (4, [77, 17]), (4, [78, 17]), (2, [91, 93]), (2, [92, 94]), (2, [95, 53]), (2, [96, 54]), (4, [83, 83]), (4, [84, 84]), (2, [99, 100]), (3, [101, 0]), (4, [89, 89]), (4, [90, 90]), (2, [103, 104]), (3, [105, 0]), (4, [83, 89]), (4, [84, 90]), (2, [107, 108]), (4, [83, 90]), (4, [84, 89]), (3, [110, 111]), (3, [83, 0]), (3, [84, 1]), (0, [0, 3, 1]), (0, [0, 4, 1]), (4, [28, 115]), (4, [29, 115]), (4, [42, 116]), (4, [43, 116]), (2, [117, 119]), (2, [118, 120]), (2, [121, 16]), (2, [122, 17]), (0, [1, 3, 1])]) (H := [(0, 0, 0, 0), (0, 102, 0, 1), (0, 106, 0, 1), (0, 109, 0, 1), (1, 112, 0, 0), (0, 113, 0, 1), (0, 114, 0, 1), (0, 97, 0, 0), (4, 83, 0, 1), (4, 89, 1, 1), (4, 97, 13, 1), (4, 84, 1, 1), (4, 90, 0, 1), (4, 98, 1, 1), (4, 123, 125, 1), (4, 124, 116, 1)]) (K := [(218, [.inr (3, 9, 0, 0, 0)]), (218, [.inr (3, 121, 0, 0, 0)]), (208, [.inr (3, 227, 0, 0, 0)]), (208, [.inr (3, 238, 0, 0, 0)]), (208, [.inr (3, 311, 0, 0, 0)]), (219, []), (208, [.inr (3, 354, 0, 0, 0)])]) (L := [([49], 0), ([48], 1), ([45, 49], 44), ([50], 13), ([51], 115), ([52], 116), ([45, 51], 125)]) (C := [([49], 0), ([48], 1), ([50], 13), ([45, 51], 125), ([52], 116)]) (Z := [2, 2, 4, 4, 9, 12, 12, 14, 14, 4, 9, 23, 23, 3, 26, 26, 29, 29, 12, 12, 14, 14, 23, 23, 26, 26, 29, 29, 59, 59, 4, 9, 12, 12, 14, 14, 23, 23, 26, 26, 29, 29, 59, 59, 2, 12, 12, 14, 14, 23, 23, 26, 26, 29, 29, 12, 12, 14, 14, 23, 23, 26, 26, 29, 29, 59, 59, 12, 12, 14, 14, 23, 23, 26, 26, 29, 29, 59, 59, 118, 118, 118, 118, 237, 237, 118, 118, 118, 118, 237, 237, 88, 88, 88, 88, 177, 177, 207, 207, 474, 474, 949, 952, 474, 474, 949, 952, 474, 474, 949, 474, 474, 949, 240, 240, 3, 4, 62, 62, 63, 63, 126, 126, 156, 156, 3]) (cl := []) 8 (fun _ h => by cases h) (by kernel_rfl) (by kernel_rfl) (by kernel_rfl) (by kernel_rfl) (by kernel_rfl) (by kernel_rfl) (by kernel_rfl)
end Go.Proofs.YtkcikcnimkofkaaGreatDoor
/- MVM -/
namespace Go.Proofs.YtkcikcnimkofkaaGreatDoor
open Go.RowKit Cx
def moveMirror_N : List Nd := [(1, [3]), (1, [4]), (1, [5]), (1, [6]), (0, [0, 0, 1]), (3, [4, 0]), (3, [4, 1]), (5, [3]), (4, [5, 2]), (4, [6, 7]), (2, [8, 9]), (5, [6]), (4, [5, 3]), (4, [11, 2]), (3, [12, 13]), (2, [0, 10]), (2, [1, 14]), (0, [0, 1, 1]), (3, [17, 0]), (4, [18, 2]), (2, [19, 9]), (4, [18, 3]), (3, [21, 13]), (2, [0, 20]), (2, [1, 22]), (3, [23, 15]), (3, [24, 16]), (3, [17, 1]), (4, [27, 7]), (2, [8, 28]), (5, [27]), (4, [30, 2]), (3, [12, 31]), (2, [0, 29]), (2, [1, 32]), (3, [33, 15]), (3, [34, 16]), (4, [25, 4]), (4, [35, 4]), (2, [37, 38]), (2, [39, 15]), (4, [26, 4]), (4, [36, 4]), (2, [41, 42]), (2, [43, 16]), (3, [40, 0]), (3, [44, 1]), (4, [6, 3]), (3, [8, 47]), (4, [6, 2]), (2, [12, 49]), (3, [45, 48]), (3, [46, 50]), (4, [25, 17]), (2, [53, 38]), (2, [54, 15]), (4, [26, 17]), (2, [56, 42]), (2, [57, 16]), (3, [55, 0]), (3, [58, 1]), (3, [19, 47]), (2, [21, 49]), (3, [59, 61]), (3, [60, 62]), (4, [35, 17]), (2, [37, 65]), (2, [66, 15]), (4, [36, 17]), (2, [41, 68]), (2, [69, 16]), (3, [67, 0]), (3, [70, 1]), (4, [27, 3]), (3, [8, 73]), (4, [27, 2]), (2, [12, 75]), (3, [71, 74]), (3, [72, 76]), (1, [0]), (1, [1]), (1, [2]), (4, [79, 4]), (4, [80, 4]), (2, [82, 83]), (2, [84, 81]), (5, [85]), (4, [79, 86]), (4, [80, 86]), (4, [79, 79]), (4, [80, 80]), (2, [89, 90]), (6, [87, 91]), (6, [88, 91]), (0, [0, 2, 1]), (4, [92, 94]), (4, [93, 94]), (2, [4, 95]), (2, [4, 96]), (4, [79, 17]), (2, [99, 83]), (2, [100, 81]), (5, [101]), (4, [79, 102]), (4, [80, 102]), (6, [103, 91]), (6, [104, 91]), (4, [105, 94]), (4, [106, 94]), (2, [17, 107]), (2, [4, 108]), (3, [109, 97]), (3, [110, 98]), (4, [80, 17]), (2, [82, 113]), (2, [114, 81]), (5, [115]), (4, [79, 116]), (4, [80, 116]), (6, [117, 91]), (6, [118, 91]), (4, [119, 94]), (4, [120, 94]), (2, [4, 121]), (2, [17, 122]), (3, [123, 97]), (3, [124, 98]), (4, [111, 4]), (4, [125, 4]), (2, [127, 128]), (2, [129, 97]), (4, [112, 4]), (4, [126, 4]), (2, [131, 132]), (2, [133, 98]), (4, [79, 130]), (4, [80, 134]), (2, [135, 136]), (2, [137, 81]), (2, [85, 138]), (3, [130, 4]), (3, [134, 4]), (4, [140, 80]), (4, [141, 79]), (3, [142, 143]), (4, [111, 17]), (2, [145, 128]), (2, [146, 97]), (4, [112, 17]), (2, [148, 132]), (2, [149, 98]), (4, [79, 147]), (4, [80, 150]), (2, [151, 152]), (2, [153, 81]), (2, [101, 154]), (3, [147, 17]), (3, [150, 4]), (4, [156, 80]), (4, [157, 79]), (3, [158, 159]), (4, [125, 17]), (2, [127, 161]), (2, [162, 97]), (4, [126, 17]), (2, [131, 164]), (2, [165, 98]), (4, [79, 163]), (4, [80, 166]), (2, [167, 168]), (2, [169, 81]), (2, [115, 170]), (3, [163, 4]), (3, [166, 17]), (4, [172, 80]), (4, [173, 79]), (3, [174, 175])]
def moveMirror_L : List (List Nat × Nat) := []
def moveMirror_C : List (List Nat × Nat) := []
def moveMirror_Z : List Nat := [3495259, 3495259, 3495259, 3495259, 2, 3495262, 3495262, 3495259, 6990521, 6990521, 13981043, 3495262, 6990521, 6990521, 13981043, 17476303, 17476303, 2, 3495262, 6990521, 13981043, 6990521, 13981043, 17476303, 17476303, 34952607, 34952607, 3495262, 6990521, 13981043, 3495262, 6990521, 13981043, 17476303, 17476303, 34952607, 34952607, 34952609, 34952609, 69905219, 87381523, 34952609, 34952609, 69905219, 87381523, 90876783, 90876783, 6990521, 13981043, 6990521, 13981043, 104857827, 104857827, 34952609, 69905219, 87381523, 34952609, 69905219, 87381523, 90876783, 90876783, 13981043, 13981043, 104857827, 104857827, 34952609, 69905219, 87381523, 34952609, 69905219, 87381523, 90876783, 90876783, 6990521, 13981043, 6990521, 13981043, 104857827, 104857827, 3495259, 3495259, 3495259, 3495261, 3495261, 6990523, 10485783, 10485783, 13981042, 13981042, 6990518, 6990518, 13981037, 27962079, 27962079, 3, 27962082, 27962082, 27962085, 27962085, 3495261, 6990523, 10485783, 10485783, 13981042, 13981042, 27962079, 27962079, 27962082, 27962082, 27962085, 27962085, 55924171, 55924171, 3495261, 6990523, 10485783, 10485783, 13981042, 13981042, 27962079, 27962079, 27962082, 27962082, 27962085, 27962085, 55924171, 55924171, 55924173, 55924173, 111848347, 139810433, 55924173, 55924173, 111848347, 139810433, 143305692, 143305692, 286611385, 290106645, 300592429, 139810436, 139810436, 143305695, 143305695, 286611391, 55924173, 111848347, 139810433, 55924173, 111848347, 139810433, 143305692, 143305692, 286611385, 290106645, 300592429, 139810436, 139810436, 143305695, 143305695, 286611391, 55924173, 111848347, 139810433, 55924173, 111848347, 139810433, 143305692, 143305692, 286611385, 290106645, 300592429, 139810436, 139810436, 143305695, 143305695, 286611391]
def moveMirror_I : List Bool := [false, false, false, false, true, false, false, false, false, false, false, false, false, false, false, false, false, true, false, false, false, false, false, false, false, false, false, false, false, false, false, false, false, false, false, false, false, false, false, false, false, false, false, false, false, false, false, false, false, false, false, false, false, false, false, false, false, false, false, false, false, false, false, false, false, false, false, false, false, false, false, false, false, false, false, false, false, false, false, false, false, false, false, false, false, false, false, false, false, false, false, false, false, false, true, false, false, false, false, false, false, false, false, false, false, false, false, false, false, false, false, false, false, false, false, false, false, false, false, false, false, false, false, false, false, false, false, false, false, false, false, false, false, false, false, false, false, false, false, false, false, false, false, false, false, false, false, false, false, false, false, false, false, false, false, false, false, false, false, false, false, false, false, false, false, false, false, false, false, false, false, false, false, false, false, false, false]
theorem moveMirror_wf : wfB 0 moveMirror_N = true := by kernel_rfl
theorem moveMirror_sz : szC moveMirror_Z moveMirror_I moveMirror_N moveMirror_Z moveMirror_I = true := by kernel_rfl
theorem moveMirror_lt : litB moveMirror_N moveMirror_L = true := by kernel_rfl
theorem moveMirror_cn : canB moveMirror_N moveMirror_C = true := by kernel_rfl
theorem moveMirror_c4 : cst 0 0 1 = (0 : Rat) := by decide +kernel
theorem moveMirror_c17 : cst 0 1 1 = (1 : Rat) := by decide +kernel
theorem moveMirror_c94 : cst 0 2 1 = (2 : Rat) := by decide +kernel
theorem moveMirror_f0 {z0 z1 z2 z3 z4 z5 z6 z7 z8 z9 z10 z15 z17 z18 z19 z20 z23 z25 z27 z28 z29 z33 z35 z37 z38 z39 z40 z45 z47 z48 z51 : Rat} : z4 = 0 → z5 = z4 - z0 → z6 = z4 - z1 → z7 = -z3 → z8 = z5 * z2 → z9 = z6 * z7 → z10 = z8 + z9 → z15 = z0 + z10 → z17 = 1 → z18 = z17 - z0 → z19 = z18 * z2 → z20 = z19 + z9 → z23 = z0 + z20 → z25 = z23 - z15 → z27 = z17 - z1 → z28 = z27 * z7 → z29 = z8 + z28 → z33 = z0 + z29 → z35 = z33 - z15 → z37 = z25 * z4 → z38 = z35 * z4 → z39 = z37 + z38 → z40 = z39 + z15 → z45 = z40 - z0 → z47 = z6 * z3 → z48 = z8 - z47 → z51 = z45 - z48 → z51 = 0 := by
 intro e4 e5 e6 e7 e8 e9 e10 e15 e17 e18 e19 e20 e23 e25 e27 e28 e29 e33 e35 e37 e38 e39 e40 e45 e47 e48 e51
 subst_vars; grind
theorem moveMirror_f1 {z0 z1 z2 z3 z4 z5 z6 z11 z12 z13 z14 z16 z17 z18 z21 z22 z24 z26 z27 z30 z31 z32 z34 z36 z41 z42 z43 z44 z46 z49 z50 z52 : Rat} : z4 = 0 → z5 = z4 - z0 → z6 = z4 - z1 → z11 = -z6 → z12 = z5 * z3 → z13 = z11 * z2 → z14 = z12 - z13 → z16 = z1 + z14 → z17 = 1 → z18 = z17 - z0 → z21 = z18 * z3 → z22 = z21 - z13 → z24 = z1 + z22 → z26 = z24 - z16 → z27 = z17 - z1 → z30 = -z27 → z31 = z30 * z2 → z32 = z12 - z31 → z34 = z1 + z32 → z36 = z34 - z16 → z41 = z26 * z4 → z42 = z36 * z4 → z43 = z41 + z42 → z44 = z43 + z16 → z46 = z44 - z1 → z49 = z6 * z2 → z50 = z12 + z49 → z52 = z46 - z50 → z52 = 0 := by
 intro e4 e5 e6 e11 e12 e13 e14 e16 e17 e18 e21 e22 e24 e26 e27 e30 e31 e32 e34 e36 e41 e42 e43 e44 e46 e49 e50 e52
 subst_vars; grind
theorem moveMirror_f2 {z0 z1 z2 z3 z4 z5 z6 z7 z8 z9 z10 z15 z17 z18 z19 z20 z23 z25 z27 z28 z29 z33 z35 z38 z47 z53 z54 z55 z59 z61 z63 : Rat} : z4 = 0 → z5 = z4 - z0 → z6 = z4 - z1 → z7 = -z3 → z8 = z5 * z2 → z9 = z6 * z7 → z10 = z8 + z9 → z15 = z0 + z10 → z17 = 1 → z18 = z17 - z0 → z19 = z18 * z2 → z20 = z19 + z9 → z23 = z0 + z20 → z25 = z23 - z15 → z27 = z17 - z1 → z28 = z27 * z7 → z29 = z8 + z28 → z33 = z0 + z29 → z35 = z33 - z15 → z38 = z35 * z4 → z47 = z6 * z3 → z53 = z25 * z17 → z54 = z53 + z38 → z55 = z54 + z15 → z59 = z55 - z0 → z61 = z19 - z47 → z63 = z59 - z61 → z63 = 0 := by
 intro e4 e5 e6 e7 e8 e9 e10 e15 e17 e18 e19 e20 e23 e25 e27 e28 e29 e33 e35 e38 e47 e53 e54 e55 e59 e61 e63
 subst_vars; grind
theorem moveMirror_f3 {z0 z1 z2 z3 z4 z5 z6 z11 z12 z13 z14 z16 z17 z18 z21 z22 z24 z26 z27 z30 z31 z32 z34 z36 z42 z49 z56 z57 z58 z60 z62 z64 : Rat} : z4 = 0 → z5 = z4 - z0 → z6 = z4 - z1 → z11 = -z6 → z12 = z5 * z3 → z13 = z11 * z2 → z14 = z12 - z13 → z16 = z1 + z14 → z17 = 1 → z18 = z17 - z0 → z21 = z18 * z3 → z22 = z21 - z13 → z24 = z1 + z22 → z26 = z24 - z16 → z27 = z17 - z1 → z30 = -z27 → z31 = z30 * z2 → z32 = z12 - z31 → z34 = z1 + z32 → z36 = z34 - z16 → z42 = z36 * z4 → z49 = z6 * z2 → z56 = z26 * z17 → z57 = z56 + z42 → z58 = z57 + z16 → z60 = z58 - z1 → z62 = z21 + z49 → z64 = z60 - z62 → z64 = 0 := by
 intro e4 e5 e6 e11 e12 e13 e14 e16 e17 e18 e21 e22 e24 e26 e27 e30 e31 e32 e34 e36 e42 e49 e56 e57 e58 e60 e62 e64
 subst_vars; grind
theorem moveMirror_f4 {z0 z1 z2 z3 z4 z5 z6 z7 z8 z9 z10 z15 z17 z18 z19 z20 z23 z25 z27 z28 z29 z33 z35 z37 z65 z66 z67 z71 z73 z74 z77 : Rat} : z4 = 0 → z5 = z4 - z0 → z6 = z4 - z1 → z7 = -z3 → z8 = z5 * z2 → z9 = z6 * z7 → z10 = z8 + z9 → z15 = z0 + z10 → z17 = 1 → z18 = z17 - z0 → z19 = z18 * z2 → z20 = z19 + z9 → z23 = z0 + z20 → z25 = z23 - z15 → z27 = z17 - z1 → z28 = z27 * z7 → z29 = z8 + z28 → z33 = z0 + z29 → z35 = z33 - z15 → z37 = z25 * z4 → z65 = z35 * z17 → z66 = z37 + z65 → z67 = z66 + z15 → z71 = z67 - z0 → z73 = z27 * z3 → z74 = z8 - z73 → z77 = z71 - z74 → z77 = 0 := by
 intro e4 e5 e6 e7 e8 e9 e10 e15 e17 e18 e19 e20 e23 e25 e27 e28 e29 e33 e35 e37 e65 e66 e67 e71 e73 e74 e77
 subst_vars; grind
theorem moveMirror_f5 {z0 z1 z2 z3 z4 z5 z6 z11 z12 z13 z14 z16 z17 z18 z21 z22 z24 z26 z27 z30 z31 z32 z34 z36 z41 z68 z69 z70 z72 z75 z76 z78 : Rat} : z4 = 0 → z5 = z4 - z0 → z6 = z4 - z1 → z11 = -z6 → z12 = z5 * z3 → z13 = z11 * z2 → z14 = z12 - z13 → z16 = z1 + z14 → z17 = 1 → z18 = z17 - z0 → z21 = z18 * z3 → z22 = z21 - z13 → z24 = z1 + z22 → z26 = z24 - z16 → z27 = z17 - z1 → z30 = -z27 → z31 = z30 * z2 → z32 = z12 - z31 → z34 = z1 + z32 → z36 = z34 - z16 → z41 = z26 * z4 → z68 = z36 * z17 → z69 = z41 + z68 → z70 = z69 + z16 → z72 = z70 - z1 → z75 = z27 * z2 → z76 = z12 + z75 → z78 = z72 - z76 → z78 = 0 := by
 intro e4 e5 e6 e11 e12 e13 e14 e16 e17 e18 e21 e22 e24 e26 e27 e30 e31 e32 e34 e36 e41 e68 e69 e70 e72 e75 e76 e78
 subst_vars; grind
theorem moveMirror_f6 {z79 z80 : Rat} : (z79 = 0 ∧ z80 = 0) → z79 = 0 := by
 intro u0
 subst_vars; grind
theorem moveMirror_f7 {z79 z80 : Rat} : (z79 = 0 ∧ z80 = 0) → z80 = 0 := by
 intro u0
 subst_vars; grind
theorem moveMirror_f8 {z79 z80 : Rat} : (¬ (z79 = 0 ∧ z80 = 0)) → (z79 = 0) → ¬ (z80 = 0) := by
 intro u0 u1
 subst_vars; grind
theorem moveMirror_f9 {z4 z17 z79 z80 z81 z82 z83 z84 z85 z86 z87 z88 z89 z90 z91 z92 z93 z94 z95 z96 z97 z98 z99 z100 z101 z102 z103 z104 z105 z106 z107 z108 z109 z110 z111 z112 z113 z114 z115 z116 z117 z118 z119 z120 z121 z122 z123 z124 z125 z126 z127 z128 z129 z130 z131 z132 z133 z134 z135 z136 z137 z138 z139 : Rat} : z4 = 0 → z17 = 1 → z82 = z79 * z4 → z83 = z80 * z4 → z84 = z82 + z83 → z85 = z84 + z81 → z86 = -z85 → z87 = z79 * z86 → z88 = z80 * z86 → z89 = z79 * z79 → z90 = z80 * z80 → z91 = z89 + z90 → z92 = z87 / z91 → z93 = z88 / z91 → z94 = 2 → z95 = z92 * z94 → z96 = z93 * z94 → z97 = z4 + z95 → z98 = z4 + z96 → z99 = z79 * z17 → z100 = z99 + z83 → z101 = z100 + z81 → z102 = -z101 → z103 = z79 * z102 → z104 = z80 * z102 → z105 = z103 / z91 → z106 = z104 / z91 → z107 = z105 * z94 → z108 = z106 * z94 → z109 = z17 + z107 → z110 = z4 + z108 → z111 = z109 - z97 → z112 = z110 - z98 → z113 = z80 * z17 → z114 = z82 + z113 → z115 = z114 + z81 → z116 = -z115 → z117 = z79 * z116 → z118 = z80 * z116 → z119 = z117 / z91 → z120 = z118 / z91 → z121 = z119 * z94 → z122 = z120 * z94 → z123 = z4 + z121 → z124 = z17 + z122 → z125 = z123 - z97 → z126 = z124 - z98 → z127 = z111 * z4 → z128 = z125 * z4 → z129 = z127 + z128 → z130 = z129 + z97 → z131 = z112 * z4 → z132 = z126 * z4 → z133 = z131 + z132 → z134 = z133 + z98 → z135 = z79 * z130 → z136 = z80 * z134 → z137 = z135 + z136 → z138 = z137 + z81 → z139 = z85 + z138 → (¬ (z79 = 0 ∧ z80 = 0)) → (z79 = 0) → z139 = 0 := by
 intro e4 e17 e82 e83 e84 e85 e86 e87 e88 e89 e90 e91 e92 e93 e94 e95 e96 e97 e98 e99 e100 e101 e102 e103 e104 e105 e106 e107 e108 e109 e110 e111 e112 e113 e114 e115 e116 e117 e118 e119 e120 e121 e122 e123 e124 e125 e126 e127 e128 e129 e130 e131 e132 e133 e134 e135 e136 e137 e138 e139 u0 u1
 have w91 : z91 ≠ 0 := by (have hp := sq_pos (x := z79) (y := z80) (by grind)); grind
 have n91 : z91 ≠ 0 := w91
 have h92 : z92 * z91 = z87 := by rw [e92]; exact Rat.div_mul_cancel n91
 obtain ⟨m92, hm92⟩ : ∃ m, m = z87 := ⟨_, rfl⟩
 have d92 : z92 * z91 = m92 := by
  have q : z92 * z91 = z92 * z91 := by grind
  rw [q, h92, hm92]
 clear h92 e92
 have h93 : z93 * z91 = z88 := by rw [e93]; exact Rat.div_mul_cancel n91
 obtain ⟨m93, hm93⟩ : ∃ m, m = z88 := ⟨_, rfl⟩
 have d93 : z93 * z91 = m93 := by
  have q : z93 * z91 = z93 * z91 := by grind
  rw [q, h93, hm93]
 clear h93 e93
 obtain ⟨m95, hm95⟩ : ∃ m, m = m92 * z94 := ⟨_, rfl⟩
 have d95 : z95 * z91 = m95 := by
  have q : z95 * z91 = (z92 * z91) * z94 := by rw [e95]; grind
  rw [q, d92, hm95]
 clear e95
 obtain ⟨m96, hm96⟩ : ∃ m, m = m93 * z94 := ⟨_, rfl⟩
 have d96 : z96 * z91 = m96 := by
  have q : z96 * z91 = (z93 * z91) * z94 := by rw [e96]; grind
  rw [q, d93, hm96]
 clear e96
 obtain ⟨m97, hm97⟩ : ∃ m, m = z4 * z91 + m95 * 1 := ⟨_, rfl⟩
 have d97 : z97 * z91 = m97 := by
  have q : z97 * z91 = z4 * z91 + (z95 * z91) * 1 := by rw [e97]; grind
  rw [q, d95, hm97]
 clear e97
 obtain ⟨m98, hm98⟩ : ∃ m, m = z4 * z91 + m96 * 1 := ⟨_, rfl⟩
 have d98 : z98 * z91 = m98 := by
  have q : z98 * z91 = z4 * z91 + (z96 * z91) * 1 := by rw [e98]; grind
  rw [q, d96, hm98]
 clear e98
 have h105 : z105 * z91 = z103 := by rw [e105]; exact Rat.div_mul_cancel n91
 obtain ⟨m105, hm105⟩ : ∃ m, m = z103 := ⟨_, rfl⟩
 have d105 : z105 * z91 = m105 := by
  have q : z105 * z91 = z105 * z91 := by grind
  rw [q, h105, hm105]
 clear h105 e105
 have h106 : z106 * z91 = z104 := by rw [e106]; exact Rat.div_mul_cancel n91
 obtain ⟨m106, hm106⟩ : ∃ m, m = z104 := ⟨_, rfl⟩
 have d106 : z106 * z91 = m106 := by
  have q : z106 * z91 = z106 * z91 := by grind
  rw [q, h106, hm106]
 clear h106 e106
 obtain ⟨m107, hm107⟩ : ∃ m, m = m105 * z94 := ⟨_, rfl⟩
 have d107 : z107 * z91 = m107 := by
  have q : z107 * z91 = (z105 * z91) * z94 := by rw [e107]; grind
  rw [q, d105, hm107]
 clear e107
 obtain ⟨m108, hm108⟩ : ∃ m, m = m106 * z94 := ⟨_, rfl⟩
 have d108 : z108 * z91 = m108 := by
  have q : z108 * z91 = (z106 * z91) * z94 := by rw [e108]; grind
  rw [q, d106, hm108]
 clear e108
 obtain ⟨m109, hm109⟩ : ∃ m, m = z17 * z91 + m107 * 1 := ⟨_, rfl⟩
 have d109 : z109 * z91 = m109 := by
  have q : z109 * z91 = z17 * z91 + (z107 * z91) * 1 := by rw [e109]; grind
  rw [q, d107, hm109]
 clear e109
 obtain ⟨m110, hm110⟩ : ∃ m, m = z4 * z91 + m108 * 1 := ⟨_, rfl⟩
 have d110 : z110 * z91 = m110 := by
  have q : z110 * z91 = z4 * z91 + (z108 * z91) * 1 := by rw [e110]; grind
  rw [q, d108, hm110]
 clear e110
 obtain ⟨m111, hm111⟩ : ∃ m, m = m109 * 1 - m97 * 1 := ⟨_, rfl⟩
 have d111 : z111 * z91 = m111 := by
  have q : z111 * z91 = (z109 * z91) * 1 - (z97 * z91) * 1 := by rw [e111]; grind
  rw [q, d109, d97, hm111]
 clear e111
 obtain ⟨m112, hm112⟩ : ∃ m, m = m110 * 1 - m98 * 1 := ⟨_, rfl⟩
 have d112 : z112 * z91 = m112 := by
  have q : z112 * z91 = (z110 * z91) * 1 - (z98 * z91) * 1 := by rw [e112]; grind
  rw [q, d110, d98, hm112]
 clear e112
 have h119 : z119 * z91 = z117 := by rw [e119]; exact Rat.div_mul_cancel n91
 obtain ⟨m119, hm119⟩ : ∃ m, m = z117 := ⟨_, rfl⟩
 have d119 : z119 * z91 = m119 := by
  have q : z119 * z91 = z119 * z91 := by grind
  rw [q, h119, hm119]
 clear h119 e119
 have h120 : z120 * z91 = z118 := by rw [e120]; exact Rat.div_mul_cancel n91
 obtain ⟨m120, hm120⟩ : ∃ m, m = z118 := ⟨_, rfl⟩
 have d120 : z120 * z91 = m120 := by
  have q : z120 * z91 = z120 * z91 := by grind
  rw [q, h120, hm120]
 clear h120 e120
 obtain ⟨m121, hm121⟩ : ∃ m, m = m119 * z94 := ⟨_, rfl⟩
 have d121 : z121 * z91 = m121 := by
  have q : z121 * z91 = (z119 * z91) * z94 := by rw [e121]; grind
  rw [q, d119, hm121]
 clear e121
 obtain ⟨m122, hm122⟩ : ∃ m, m = m120 * z94 := ⟨_, rfl⟩
 have d122 : z122 * z91 = m122 := by
  have q : z122 * z91 = (z120 * z91) * z94 := by rw [e122]; grind
  rw [q, d120, hm122]
 clear e122
 obtain ⟨m123, hm123⟩ : ∃ m, m = z4 * z91 + m121 * 1 := ⟨_, rfl⟩
 have d123 : z123 * z91 = m123 := by
  have q : z123 * z91 = z4 * z91 + (z121 * z91) * 1 := by rw [e123]; grind
  rw [q, d121, hm123]
 clear e123
 obtain ⟨m124, hm124⟩ : ∃ m, m = z17 * z91 + m122 * 1 := ⟨_, rfl⟩
 have d124 : z124 * z91 = m124 := by
  have q : z124 * z91 = z17 * z91 + (z122 * z91) * 1 := by rw [e124]; grind
  rw [q, d122, hm124]
 clear e124
 obtain ⟨m125, hm125⟩ : ∃ m, m = m123 * 1 - m97 * 1 := ⟨_, rfl⟩
 have d125 : z125 * z91 = m125 := by
  have q : z125 * z91 = (z123 * z91) * 1 - (z97 * z91) * 1 := by rw [e125]; grind
  rw [q, d123, d97, hm125]
 clear e125
 obtain ⟨m126, hm126⟩ : ∃ m, m = m124 * 1 - m98 * 1 := ⟨_, rfl⟩
 have d126 : z126 * z91 = m126 := by
  have q : z126 * z91 = (z124 * z91) * 1 - (z98 * z91) * 1 := by rw [e126]; grind
  rw [q, d124, d98, hm126]
 clear e126
 obtain ⟨m127, hm127⟩ : ∃ m, m = m111 * z4 := ⟨_, rfl⟩
 have d127 : z127 * z91 = m127 := by
  have q : z127 * z91 = (z111 * z91) * z4 := by rw [e127]; grind
  rw [q, d111, hm127]
 clear e127
 obtain ⟨m128, hm128⟩ : ∃ m, m = m125 * z4 := ⟨_, rfl⟩
 have d128 : z128 * z91 = m128 := by
  have q : z128 * z91 = (z125 * z91) * z4 := by rw [e128]; grind
  rw [q, d125, hm128]
 clear e128
 obtain ⟨m129, hm129⟩ : ∃ m, m = m127 * 1 + m128 * 1 := ⟨_, rfl⟩
 have d129 : z129 * z91 = m129 := by
  have q : z129 * z91 = (z127 * z91) * 1 + (z128 * z91) * 1 := by rw [e129]; grind
  rw [q, d127, d128, hm129]
 clear e129
 obtain ⟨m130, hm130⟩ : ∃ m, m = m129 * 1 + m97 * 1 := ⟨_, rfl⟩
 have d130 : z130 * z91 = m130 := by
  have q : z130 * z91 = (z129 * z91) * 1 + (z97 * z91) * 1 := by rw [e130]; grind
  rw [q, d129, d97, hm130]
 clear e130
 obtain ⟨m131, hm131⟩ : ∃ m, m = m112 * z4 := ⟨_, rfl⟩
 have d131 : z131 * z91 = m131 := by
  have q : z131 * z91 = (z112 * z91) * z4 := by rw [e131]; grind
  rw [q, d112, hm131]
 clear e131
 obtain ⟨m132, hm132⟩ : ∃ m, m = m126 * z4 := ⟨_, rfl⟩
 have d132 : z132 * z91 = m132 := by
  have q : z132 * z91 = (z126 * z91) * z4 := by rw [e132]; grind
  rw [q, d126, hm132]
 clear e132
 obtain ⟨m133, hm133⟩ : ∃ m, m = m131 * 1 + m132 * 1 := ⟨_, rfl⟩
 have d133 : z133 * z91 = m133 := by
  have q : z133 * z91 = (z131 * z91) * 1 + (z132 * z91) * 1 := by rw [e133]; grind
  rw [q, d131, d132, hm133]
 clear e133
 obtain ⟨m134, hm134⟩ : ∃ m, m = m133 * 1 + m98 * 1 := ⟨_, rfl⟩
 have d134 : z134 * z91 = m134 := by
  have q : z134 * z91 = (z133 * z91) * 1 + (z98 * z91) * 1 := by rw [e134]; grind
  rw [q, d133, d98, hm134]
 clear e134
 obtain ⟨m135, hm135⟩ : ∃ m, m = z79 * m130 := ⟨_, rfl⟩
 have d135 : z135 * z91 = m135 := by
  have q : z135 * z91 = z79 * (z130 * z91) := by rw [e135]; grind
  rw [q, d130, hm135]
 clear e135
 obtain ⟨m136, hm136⟩ : ∃ m, m = z80 * m134 := ⟨_, rfl⟩
 have d136 : z136 * z91 = m136 := by
  have q : z136 * z91 = z80 * (z134 * z91) := by rw [e136]; grind
  rw [q, d134, hm136]
 clear e136
 obtain ⟨m137, hm137⟩ : ∃ m, m = m135 * 1 + m136 * 1 := ⟨_, rfl⟩
 have d137 : z137 * z91 = m137 := by
  have q : z137 * z91 = (z135 * z91) * 1 + (z136 * z91) * 1 := by rw [e137]; grind
  rw [q, d135, d136, hm137]
 clear e137
 obtain ⟨m138, hm138⟩ : ∃ m, m = m137 * 1 + z81 * z91 := ⟨_, rfl⟩
 have d138 : z138 * z91 = m138 := by
  have q : z138 * z91 = (z137 * z91) * 1 + z81 * z91 := by rw [e138]; grind
  rw [q, d137, hm138]
 clear e138
 obtain ⟨m139, hm139⟩ : ∃ m, m = z85 * z91 + m138 * 1 := ⟨_, rfl⟩
 have d139 : z139 * z91 = m139 := by
  have q : z139 * z91 = z85 * z91 + (z138 * z91) * 1 := by rw [e139]; grind
  rw [q, d138, hm139]
 clear e139
 have hpoly : m139 = 0 := by
  clear d92 d93 d95 d96 d97 d98 d105 d106 d107 d108 d109 d110 d111 d112 d119 d120 d121 d122 d123 d124 d125 d126 d127 d128 d129 d130 d131 d132 d133 d134 d135 d136 d137 d138 d139
  subst_vars; grind
 have hgoal : z139 = 0 := (Rat.mul_eq_zero.1 (d139.trans hpoly)).resolve_right w91
 exact hgoal
theorem moveMirror_f10 {z4 z17 z79 z80 z81 z82 z83 z84 z85 z86 z87 z88 z89 z90 z91 z92 z93 z94 z95 z96 z97 z98 z99 z100 z101 z102 z103 z104 z105 z106 z107 z108 z109 z110 z111 z112 z113 z114 z115 z116 z117 z118 z119 z120 z121 z122 z123 z124 z125 z126 z127 z128 z129 z130 z131 z132 z133 z134 z140 z141 z142 z143 z144 : Rat} : z4 = 0 → z17 = 1 → z82 = z79 * z4 → z83 = z80 * z4 → z84 = z82 + z83 → z85 = z84 + z81 → z86 = -z85 → z87 = z79 * z86 → z88 = z80 * z86 → z89 = z79 * z79 → z90 = z80 * z80 → z91 = z89 + z90 → z92 = z87 / z91 → z93 = z88 / z91 → z94 = 2 → z95 = z92 * z94 → z96 = z93 * z94 → z97 = z4 + z95 → z98 = z4 + z96 → z99 = z79 * z17 → z100 = z99 + z83 → z101 = z100 + z81 → z102 = -z101 → z103 = z79 * z102 → z104 = z80 * z102 → z105 = z103 / z91 → z106 = z104 / z91 → z107 = z105 * z94 → z108 = z106 * z94 → z109 = z17 + z107 → z110 = z4 + z108 → z111 = z109 - z97 → z112 = z110 - z98 → z113 = z80 * z17 → z114 = z82 + z113 → z115 = z114 + z81 → z116 = -z115 → z117 = z79 * z116 → z118 = z80 * z116 → z119 = z117 / z91 → z120 = z118 / z91 → z121 = z119 * z94 → z122 = z120 * z94 → z123 = z4 + z121 → z124 = z17 + z122 → z125 = z123 - z97 → z126 = z124 - z98 → z127 = z111 * z4 → z128 = z125 * z4 → z129 = z127 + z128 → z130 = z129 + z97 → z131 = z112 * z4 → z132 = z126 * z4 → z133 = z131 + z132 → z134 = z133 + z98 → z140 = z130 - z4 → z141 = z134 - z4 → z142 = z140 * z80 → z143 = z141 * z79 → z144 = z142 - z143 → (¬ (z79 = 0 ∧ z80 = 0)) → (z79 = 0) → z144 = 0 := by
 intro e4 e17 e82 e83 e84 e85 e86 e87 e88 e89 e90 e91 e92 e93 e94 e95 e96 e97 e98 e99 e100 e101 e102 e103 e104 e105 e106 e107 e108 e109 e110 e111 e112 e113 e114 e115 e116 e117 e118 e119 e120 e121 e122 e123 e124 e125 e126 e127 e128 e129 e130 e131 e132 e133 e134 e140 e141 e142 e143 e144 u0 u1
 have w91 : z91 ≠ 0 := by (have hp := sq_pos (x := z79) (y := z80) (by grind)); grind
 have n91 : z91 ≠ 0 := w91
 have h92 : z92 * z91 = z87 := by rw [e92]; exact Rat.div_mul_cancel n91
 obtain ⟨m92, hm92⟩ : ∃ m, m = z87 := ⟨_, rfl⟩
 have d92 : z92 * z91 = m92 := by
  have q : z92 * z91 = z92 * z91 := by grind
  rw [q, h92, hm92]
 clear h92 e92
 have h93 : z93 * z91 = z88 := by rw [e93]; exact Rat.div_mul_cancel n91
 obtain ⟨m93, hm93⟩ : ∃ m, m = z88 := ⟨_, rfl⟩
 have d93 : z93 * z91 = m93 := by
  have q : z93 * z91 = z93 * z91 := by grind
  rw [q, h93, hm93]
 clear h93 e93
 obtain ⟨m95, hm95⟩ : ∃ m, m = m92 * z94 := ⟨_, rfl⟩
 have d95 : z95 * z91 = m95 := by
  have q : z95 * z91 = (z92 * z91) * z94 := by rw [e95]; grind
  rw [q, d92, hm95]
 clear e95
 obtain ⟨m96, hm96⟩ : ∃ m, m = m93 * z94 := ⟨_, rfl⟩
 have d96 : z96 * z91 = m96 := by
  have q : z96 * z91 = (z93 * z91) * z94 := by rw [e96]; grind
  rw [q, d93, hm96]
 clear e96
 obtain ⟨m97, hm97⟩ : ∃ m, m = z4 * z91 + m95 * 1 := ⟨_, rfl⟩
 have d97 : z97 * z91 = m97 := by
  have q : z97 * z91 = z4 * z91 + (z95 * z91) * 1 := by rw [e97]; grind
  rw [q, d95, hm97]
 clear e97
 obtain ⟨m98, hm98⟩ : ∃ m, m = z4 * z91 + m96 * 1 := ⟨_, rfl⟩
 have d98 : z98 * z91 = m98 := by
  have q : z98 * z91 = z4 * z91 + (z96 * z91) * 1 := by rw [e98]; grind
  rw [q, d96, hm98]
 clear e98
 have h105 : z105 * z91 = z103 := by rw [e105]; exact Rat.div_mul_cancel n91
 obtain ⟨m105, hm105⟩ : ∃ m, m = z103 := ⟨_, rfl⟩
 have d105 : z105 * z91 = m105 := by
  have q : z105 * z91 = z105 * z91 := by grind
  rw [q, h105, hm105]
 clear h105 e105
 have h106 : z106 * z91 = z104 := by rw [e106]; exact Rat.div_mul_cancel n91
 obtain ⟨m106, hm106⟩ : ∃ m, m = z104 := ⟨_, rfl⟩
 have d106 : z106 * z91 = m106 := by
  have q : z106 * z91 = z106 * z91 := by grind
  rw [q, h106, hm106]
 clear h106 e106
 obtain ⟨m107, hm107⟩ : ∃ m, m = m105 * z94 := ⟨_, rfl⟩
 have d107 : z107 * z91 = m107 := by
  have q : z107 * z91 = (z105 * z91) * z94 := by rw [e107]; grind
  rw [q, d105, hm107]
 clear e107
 obtain ⟨m108, hm108⟩ : ∃ m, m = m106 * z94 := ⟨_, rfl⟩
 have d108 : z108 * z91 = m108 := by
  have q : z108 * z91 = (z106 * z91) * z94 := by rw [e108]; grind
  rw [q, d106, hm108]
 clear e108
 obtain ⟨m109, hm109⟩ : ∃ m, m = z17 * z91 + m107 * 1 := ⟨_, rfl⟩
 have d109 : z109 * z91 = m109 := by
  have q : z109 * z91 = z17 * z91 + (z107 * z91) * 1 := by rw [e109]; grind
  rw [q, d107, hm109]
 clear e109
 obtain ⟨m110, hm110⟩ : ∃ m, m = z4 * z91 + m108 * 1 := ⟨_, rfl⟩
 have d110 : z110 * z91 = m110 := by
  have q : z110 * z91 = z4 * z91 + (z108 * z91) * 1 := by rw [e110]; grind
  rw [q, d108, hm110]
 clear e110
 obtain ⟨m111, hm111⟩ : ∃ m, m = m109 * 1 - m97 * 1 := ⟨_, rfl⟩
 have d111 : z111 * z91 = m111 := by
  have q : z111 * z91 = (z109 * z91) * 1 - (z97 * z91) * 1 := by rw [e111]; grind
  rw [q, d109, d97, hm111]
 clear e111
 obtain ⟨m112, hm112⟩ : ∃ m, m = m110 * 1 - m98 * 1 := ⟨_, rfl⟩
 have d112 : z112 * z91 = m112 := by
  have q : z112 * z91 = (z110 * z91) * 1 - (z98 * z91) * 1 := by rw [e112]; grind
  rw [q, d110, d98, hm112]
 clear e112
 have h119 : z119 * z91 = z117 := by rw [e119]; exact Rat.div_mul_cancel n91
 obtain ⟨m119, hm119⟩ : ∃ m, m = z117 := ⟨_, rfl⟩
 have d119 : z119 * z91 = m119 := by
  have q : z119 * z91 = z119 * z91 := by grind
  rw [q, h119, hm119]
 clear h119 e119
 have h120 : z120 * z91 = z118 := by rw [e120]; exact Rat.div_mul_cancel n91
 obtain ⟨m120, hm120⟩ : ∃ m, m = z118 := ⟨_, rfl⟩
 have d120 : z120 * z91 = m120 := by
  have q : z120 * z91 = z120 * z91 := by grind
  rw [q, h120, hm120]
 clear h120 e120
 obtain ⟨m121, hm121⟩ : ∃ m, m = m119 * z94 := ⟨_, rfl⟩
 have d121 : z121 * z91 = m121 := by
  have q : z121 * z91 = (z119 * z91) * z94 := by rw [e121]; grind
  rw [q, d119, hm121]
 clear e121
 obtain ⟨m122, hm122⟩ : ∃ m, m = m120 * z94 := ⟨_, rfl⟩
 have d122 : z122 * z91 = m122 := by
  have q : z122 * z91 = (z120 * z91) * z94 := by rw [e122]; grind
  rw [q, d120, hm122]
 clear e122
 obtain ⟨m123, hm123⟩ : ∃ m, m = z4 * z91 + m121 * 1 := ⟨_, rfl⟩
 have d123 : z123 * z91 = m123 := by
  have q : z123 * z91 = z4 * z91 + (z121 * z91) * 1 := by rw [e123]; grind
  rw [q, d121, hm123]
 clear e123
 obtain ⟨m124, hm124⟩ : ∃ m, m = z17 * z91 + m122 * 1 := ⟨_, rfl⟩
 have d124 : z124 * z91 = m124 := by
  have q : z124 * z91 = z17 * z91 + (z122 * z91) * 1 := by rw [e124]; grind
  rw [q, d122, hm124]
 clear e124
 obtain ⟨m125, hm125⟩ : ∃ m, m = m123 * 1 - m97 * 1 := ⟨_, rfl⟩
 have d125 : z125 * z91 = m125 := by
  have q : z125 * z91 = (z123 * z91) * 1 - (z97 * z91) * 1 := by rw [e125]; grind
  rw [q, d123, d97, hm125]
 clear e125
 obtain ⟨m126, hm126⟩ : ∃ m, m = m124 * 1 - m98 * 1 := ⟨_, rfl⟩
 have d126 : z126 * z91 = m126 := by
  have q : z126 * z91 = (z124 * z91) * 1 - (z98 * z91) * 1 := by rw [e126]; grind
  rw [q, d124, d98, hm126]
 clear e126
 obtain ⟨m127, hm127⟩ : ∃ m, m = m111 * z4 := ⟨_, rfl⟩
 have d127 : z127 * z91 = m127 := by
  have q : z127 * z91 = (z111 * z91) * z4 := by rw [e127]; grind
  rw [q, d111, hm127]
 clear e127
 obtain ⟨m128, hm128⟩ : ∃ m, m = m125 * z4 := ⟨_, rfl⟩
 have d128 : z128 * z91 = m128 := by
  have q : z128 * z91 = (z125 * z91) * z4 := by rw [e128]; grind
  rw [q, d125, hm128]
 clear e128
 obtain ⟨m129, hm129⟩ : ∃ m, m = m127 * 1 + m128 * 1 := ⟨_, rfl⟩
 have d129 : z129 * z91 = m129 := by
  have q : z129 * z91 = (z127 * z91) * 1 + (z128 * z91) * 1 := by rw [e129]; grind
  rw [q, d127, d128, hm129]
 clear e129
 obtain ⟨m130, hm130⟩ : ∃ m, m = m129 * 1 + m97 * 1 := ⟨_, rfl⟩
 have d130 : z130 * z91 = m130 := by
  have q : z130 * z91 = (z129 * z91) * 1 + (z97 * z91) * 1 := by rw [e130]; grind
  rw [q, d129, d97, hm130]
 clear e130
 obtain ⟨m131, hm131⟩ : ∃ m, m = m112 * z4 := ⟨_, rfl⟩
 have d131 : z131 * z91 = m131 := by
  have q : z131 * z91 = (z112 * z91) * z4 := by rw [e131]; grind
  rw [q, d112, hm131]
 clear e131
 obtain ⟨m132, hm132⟩ : ∃ m, m = m126 * z4 := ⟨_, rfl⟩
 have d132 : z132 * z91 = m132 := by
  have q : z132 * z91 = (z126 * z91) * z4 := by rw [e132]; grind
  rw [q, d126, hm132]
 clear e132
 obtain ⟨m133, hm133⟩ : ∃ m, m = m131 * 1 + m132 * 1 := ⟨_, rfl⟩
 have d133 : z133 * z91 = m133 := by
  have q : z133 * z91 = (z131 * z91) * 1 + (z132 * z91) * 1 := by rw [e133]; grind
  rw [q, d131, d132, hm133]
 clear e133
 obtain ⟨m134, hm134⟩ : ∃ m, m = m133 * 1 + m98 * 1 := ⟨_, rfl⟩
 have d134 : z134 * z91 = m134 := by
  have q : z134 * z91 = (z133 * z91) * 1 + (z98 * z91) * 1 := by rw [e134]; grind
  rw [q, d133, d98, hm134]
 clear e134
 obtain ⟨m140, hm140⟩ : ∃ m, m = m130 * 1 - z4 * z91 := ⟨_, rfl⟩
 have d140 : z140 * z91 = m140 := by
  have q : z140 * z91 = (z130 * z91) * 1 - z4 * z91 := by rw [e140]; grind
  rw [q, d130, hm140]
 clear e140
 obtain ⟨m141, hm141⟩ : ∃ m, m = m134 * 1 - z4 * z91 := ⟨_, rfl⟩
 have d141 : z141 * z91 = m141 := by
  have q : z141 * z91 = (z134 * z91) * 1 - z4 * z91 := by rw [e141]; grind
  rw [q, d134, hm141]
 clear e141
 obtain ⟨m142, hm142⟩ : ∃ m, m = m140 * z80 := ⟨_, rfl⟩
 have d142 : z142 * z91 = m142 := by
  have q : z142 * z91 = (z140 * z91) * z80 := by rw [e142]; grind
  rw [q, d140, hm142]
 clear e142
 obtain ⟨m143, hm143⟩ : ∃ m, m = m141 * z79 := ⟨_, rfl⟩
 have d143 : z143 * z91 = m143 := by
  have q : z143 * z91 = (z141 * z91) * z79 := by rw [e143]; grind
  rw [q, d141, hm143]
 clear e143
 obtain ⟨m144, hm144⟩ : ∃ m, m = m142 * 1 - m143 * 1 := ⟨_, rfl⟩
 have d144 : z144 * z91 = m144 := by
  have q : z144 * z91 = (z142 * z91) * 1 - (z143 * z91) * 1 := by rw [e144]; grind
  rw [q, d142, d143, hm144]
 clear e144
 have hpoly : m144 = 0 := by
  clear d92 d93 d95 d96 d97 d98 d105 d106 d107 d108 d109 d110 d111 d112 d119 d120 d121 d122 d123 d124 d125 d126 d127 d128 d129 d130 d131 d132 d133 d134 d140 d141 d142 d143 d144
  subst_vars; grind
 have hgoal : z144 = 0 := (Rat.mul_eq_zero.1 (d144.trans hpoly)).resolve_right w91
 exact hgoal
theorem moveMirror_f11 {z4 z17 z79 z80 z81 z82 z83 z84 z85 z86 z87 z88 z89 z90 z91 z92 z93 z94 z95 z96 z97 z98 z99 z100 z101 z102 z103 z104 z105 z106 z107 z108 z109 z110 z111 z112 z113 z114 z115 z116 z117 z118 z119 z120 z121 z122 z123 z124 z125 z126 z128 z132 z145 z146 z147 z148 z149 z150 z151 z152 z153 z154 z155 : Rat} : z4 = 0 → z17 = 1 → z82 = z79 * z4 → z83 = z80 * z4 → z84 = z82 + z83 → z85 = z84 + z81 → z86 = -z85 → z87 = z79 * z86 → z88 = z80 * z86 → z89 = z79 * z79 → z90 = z80 * z80 → z91 = z89 + z90 → z92 = z87 / z91 → z93 = z88 / z91 → z94 = 2 → z95 = z92 * z94 → z96 = z93 * z94 → z97 = z4 + z95 → z98 = z4 + z96 → z99 = z79 * z17 → z100 = z99 + z83 → z101 = z100 + z81 → z102 = -z101 → z103 = z79 * z102 → z104 = z80 * z102 → z105 = z103 / z91 → z106 = z104 / z91 → z107 = z105 * z94 → z108 = z106 * z94 → z109 = z17 + z107 → z110 = z4 + z108 → z111 = z109 - z97 → z112 = z110 - z98 → z113 = z80 * z17 → z114 = z82 + z113 → z115 = z114 + z81 → z116 = -z115 → z117 = z79 * z116 → z118 = z80 * z116 → z119 = z117 / z91 → z120 = z118 / z91 → z121 = z119 * z94 → z122 = z120 * z94 → z123 = z4 + z121 → z124 = z17 + z122 → z125 = z123 - z97 → z126 = z124 - z98 → z128 = z125 * z4 → z132 = z126 * z4 → z145 = z111 * z17 → z146 = z145 + z128 → z147 = z146 + z97 → z148 = z112 * z17 → z149 = z148 + z132 → z150 = z149 + z98 → z151 = z79 * z147 → z152 = z80 * z150 → z153 = z151 + z152 → z154 = z153 + z81 → z155 = z101 + z154 → (¬ (z79 = 0 ∧ z80 = 0)) → (z79 = 0) → z155 = 0 := by
 intro e4 e17 e82 e83 e84 e85 e86 e87 e88 e89 e90 e91 e92 e93 e94 e95 e96 e97 e98 e99 e100 e101 e102 e103 e104 e105 e106 e107 e108 e109 e110 e111 e112 e113 e114 e115 e116 e117 e118 e119 e120 e121 e122 e123 e124 e125 e126 e128 e132 e145 e146 e147 e148 e149 e150 e151 e152 e153 e154 e155 u0 u1
 have w91 : z91 ≠ 0 := by (have hp := sq_pos (x := z79) (y := z80) (by grind)); grind
 have n91 : z91 ≠ 0 := w91
 have h92 : z92 * z91 = z87 := by rw [e92]; exact Rat.div_mul_cancel n91
 obtain ⟨m92, hm92⟩ : ∃ m, m = z87 := ⟨_, rfl⟩
 have d92 : z92 * z91 = m92 := by
  have q : z92 * z91 = z92 * z91 := by grind
  rw [q, h92, hm92]
 clear h92 e92
 have h93 : z93 * z91 = z88 := by rw [e93]; exact Rat.div_mul_cancel n91
 obtain ⟨m93, hm93⟩ : ∃ m, m = z88 := ⟨_, rfl⟩
 have d93 : z93 * z91 = m93 := by
  have q : z93 * z91 = z93 * z91 := by grind
  rw [q, h93, hm93]
 clear h93 e93
 obtain ⟨m95, hm95⟩ : ∃ m, m = m92 * z94 := ⟨_, rfl⟩
 have d95 : z95 * z91 = m95 := by
  have q : z95 * z91 = (z92 * z91) * z94 := by rw [e95]; grind
  rw [q, d92, hm95]
 clear e95
 obtain ⟨m96, hm96⟩ : ∃ m, m = m93 * z94 := ⟨_, rfl⟩
 have d96 : z96 * z91 = m96 := by
  have q : z96 * z91 = (z93 * z91) * z94 := by rw [e96]; grind
  rw [q, d93, hm96]
 clear e96
 obtain ⟨m97, hm97⟩ : ∃ m, m = z4 * z91 + m95 * 1 := ⟨_, rfl⟩
 have d97 : z97 * z91 = m97 := by
  have q : z97 * z91 = z4 * z91 + (z95 * z91) * 1 := by rw [e97]; grind
  rw [q, d95, hm97]
 clear e97
 obtain ⟨m98, hm98⟩ : ∃ m, m = z4 * z91 + m96 * 1 := ⟨_, rfl⟩
 have d98 : z98 * z91 = m98 := by
  have q : z98 * z91 = z4 * z91 + (z96 * z91) * 1 := by rw [e98]; grind
  rw [q, d96, hm98]
 clear e98
 have h105 : z105 * z91 = z103 := by rw [e105]; exact Rat.div_mul_cancel n91
 obtain ⟨m105, hm105⟩ : ∃ m, m = z103 := ⟨_, rfl⟩
 have d105 : z105 * z91 = m105 := by
  have q : z105 * z91 = z105 * z91 := by grind
  rw [q, h105, hm105]
 clear h105 e105
 have h106 : z106 * z91 = z104 := by rw [e106]; exact Rat.div_mul_cancel n91
 obtain ⟨m106, hm106⟩ : ∃ m, m = z104 := ⟨_, rfl⟩
 have d106 : z106 * z91 = m106 := by
  have q : z106 * z91 = z106 * z91 := by grind
  rw [q, h106, hm106]
 clear h106 e106
 obtain ⟨m107, hm107⟩ : ∃ m, m = m105 * z94 := ⟨_, rfl⟩
 have d107 : z107 * z91 = m107 := by
  have q : z107 * z91 = (z105 * z91) * z94 := by rw [e107]; grind
  rw [q, d105, hm107]
 clear e107
 obtain ⟨m108, hm108⟩ : ∃ m, m = m106 * z94 := ⟨_, rfl⟩
 have d108 : z108 * z91 = m108 := by
  have q : z108 * z91 = (z106 * z91) * z94 := by rw [e108]; grind
  rw [q, d106, hm108]
 clear e108
 obtain ⟨m109, hm109⟩ : ∃ m, m = z17 * z91 + m107 * 1 := ⟨_, rfl⟩
 have d109 : z109 * z91 = m109 := by
  have q : z109 * z91 = z17 * z91 + (z107 * z91) * 1 := by rw [e109]; grind
  rw [q, d107, hm109]
 clear e109
 obtain ⟨m110, hm110⟩ : ∃ m, m = z4 * z91 + m108 * 1 := ⟨_, rfl⟩
 have d110 : z110 * z91 = m110 := by
  have q : z110 * z91 = z4 * z91 + (z108 * z91) * 1 := by rw [e110]; grind
  rw [q, d108, hm110]
 clear e110
 obtain ⟨m111, hm111⟩ : ∃ m, m = m109 * 1 - m97 * 1 := ⟨_, rfl⟩
 have d111 : z111 * z91 = m111 := by
  have q : z111 * z91 = (z109 * z91) * 1 - (z97 * z91) * 1 := by rw [e111]; grind
  rw [q, d109, d97, hm111]
 clear e111
 obtain ⟨m112, hm112⟩ : ∃ m, m = m110 * 1 - m98 * 1 := ⟨_, rfl⟩
 have d112 : z112 * z91 = m112 := by
  have q : z112 * z91 = (z110 * z91) * 1 - (z98 * z91) * 1 := by rw [e112]; grind
  rw [q, d110, d98, hm112]
 clear e112
 have h119 : z119 * z91 = z117 := by rw [e119]; exact Rat.div_mul_cancel n91
 obtain ⟨m119, hm119⟩ : ∃ m, m = z117 := ⟨_, rfl⟩
 have d119 : z119 * z91 = m119 := by
  have q : z119 * z91 = z119 * z91 := by grind
  rw [q, h119, hm119]
 clear h119 e119
 have h120 : z120 * z91 = z118 := by rw [e120]; exact Rat.div_mul_cancel n91
 obtain ⟨m120, hm120⟩ : ∃ m, m = z118 := ⟨_, rfl⟩
 have d120 : z120 * z91 = m120 := by
  have q : z120 * z91 = z120 * z91 := by grind
  rw [q, h120, hm120]
 clear h120 e120
 obtain ⟨m121, hm121⟩ : ∃ m, m = m119 * z94 := ⟨_, rfl⟩
 have d121 : z121 * z91 = m121 := by
  have q : z121 * z91 = (z119 * z91) * z94 := by rw [e121]; grind
  rw [q, d119, hm121]
 clear e121
 obtain ⟨m122, hm122⟩ : ∃ m, m = m120 * z94 := ⟨_, rfl⟩
 have d122 : z122 * z91 = m122 := by
  have q : z122 * z91 = (z120 * z91) * z94 := by rw [e122]; grind
  rw [q, d120, hm122]
 clear e122
 obtain ⟨m123, hm123⟩ : ∃ m, m = z4 * z91 + m121 * 1 := ⟨_, rfl⟩
 have d123 : z123 * z91 = m123 := by
  have q : z123 * z91 = z4 * z91 + (z121 * z91) * 1 := by rw [e123]; grind
  rw [q, d121, hm123]
 clear e123
 obtain ⟨m124, hm124⟩ : ∃ m, m = z17 * z91 + m122 * 1 := ⟨_, rfl⟩
 have d124 : z124 * z91 = m124 := by
  have q : z124 * z91 = z17 * z91 + (z122 * z91) * 1 := by rw [e124]; grind
  rw [q, d122, hm124]
 clear e124
 obtain ⟨m125, hm125⟩ : ∃ m, m = m123 * 1 - m97 * 1 := ⟨_, rfl⟩
 have d125 : z125 * z91 = m125 := by
  have q : z125 * z91 = (z123 * z91) * 1 - (z97 * z91) * 1 := by rw [e125]; grind
  rw [q, d123, d97, hm125]
 clear e125
 obtain ⟨m126, hm126⟩ : ∃ m, m = m124 * 1 - m98 * 1 := ⟨_, rfl⟩
 have d126 : z126 * z91 = m126 := by
  have q : z126 * z91 = (z124 * z91) * 1 - (z98 * z91) * 1 := by rw [e126]; grind
  rw [q, d124, d98, hm126]
 clear e126
 obtain ⟨m128, hm128⟩ : ∃ m, m = m125 * z4 := ⟨_, rfl⟩
 have d128 : z128 * z91 = m128 := by
  have q : z128 * z91 = (z125 * z91) * z4 := by rw [e128]; grind
  rw [q, d125, hm128]
 clear e128
 obtain ⟨m132, hm132⟩ : ∃ m, m = m126 * z4 := ⟨_, rfl⟩
 have d132 : z132 * z91 = m132 := by
  have q : z132 * z91 = (z126 * z91) * z4 := by rw [e132]; grind
  rw [q, d126, hm132]
 clear e132
 obtain ⟨m145, hm145⟩ : ∃ m, m = m111 * z17 := ⟨_, rfl⟩
 have d145 : z145 * z91 = m145 := by
  have q : z145 * z91 = (z111 * z91) * z17 := by rw [e145]; grind
  rw [q, d111, hm145]
 clear e145
 obtain ⟨m146, hm146⟩ : ∃ m, m = m145 * 1 + m128 * 1 := ⟨_, rfl⟩
 have d146 : z146 * z91 = m146 := by
  have q : z146 * z91 = (z145 * z91) * 1 + (z128 * z91) * 1 := by rw [e146]; grind
  rw [q, d145, d128, hm146]
 clear e146
 obtain ⟨m147, hm147⟩ : ∃ m, m = m146 * 1 + m97 * 1 := ⟨_, rfl⟩
 have d147 : z147 * z91 = m147 := by
  have q : z147 * z91 = (z146 * z91) * 1 + (z97 * z91) * 1 := by rw [e147]; grind
  rw [q, d146, d97, hm147]
 clear e147
 obtain ⟨m148, hm148⟩ : ∃ m, m = m112 * z17 := ⟨_, rfl⟩
 have d148 : z148 * z91 = m148 := by
  have q : z148 * z91 = (z112 * z91) * z17 := by rw [e148]; grind
  rw [q, d112, hm148]
 clear e148
 obtain ⟨m149, hm149⟩ : ∃ m, m = m148 * 1 + m132 * 1 := ⟨_, rfl⟩
 have d149 : z149 * z91 = m149 := by
  have q : z149 * z91 = (z148 * z91) * 1 + (z132 * z91) * 1 := by rw [e149]; grind
  rw [q, d148, d132, hm149]
 clear e149
 obtain ⟨m150, hm150⟩ : ∃ m, m = m149 * 1 + m98 * 1 := ⟨_, rfl⟩
 have d150 : z150 * z91 = m150 := by
  have q : z150 * z91 = (z149 * z91) * 1 + (z98 * z91) * 1 := by rw [e150]; grind
  rw [q, d149, d98, hm150]
 clear e150
 obtain ⟨m151, hm151⟩ : ∃ m, m = z79 * m147 := ⟨_, rfl⟩
 have d151 : z151 * z91 = m151 := by
  have q : z151 * z91 = z79 * (z147 * z91) := by rw [e151]; grind
  rw [q, d147, hm151]
 clear e151
 obtain ⟨m152, hm152⟩ : ∃ m, m = z80 * m150 := ⟨_, rfl⟩
 have d152 : z152 * z91 = m152 := by
  have q : z152 * z91 = z80 * (z150 * z91) := by rw [e152]; grind
  rw [q, d150, hm152]
 clear e152
 obtain ⟨m153, hm153⟩ : ∃ m, m = m151 * 1 + m152 * 1 := ⟨_, rfl⟩
 have d153 : z153 * z91 = m153 := by
  have q : z153 * z91 = (z151 * z91) * 1 + (z152 * z91) * 1 := by rw [e153]; grind
  rw [q, d151, d152, hm153]
 clear e153
 obtain ⟨m154, hm154⟩ : ∃ m, m = m153 * 1 + z81 * z91 := ⟨_, rfl⟩
 have d154 : z154 * z91 = m154 := by
  have q : z154 * z91 = (z153 * z91) * 1 + z81 * z91 := by rw [e154]; grind
  rw [q, d153, hm154]
 clear e154
 obtain ⟨m155, hm155⟩ : ∃ m, m = z101 * z91 + m154 * 1 := ⟨_, rfl⟩
 have d155 : z155 * z91 = m155 := by
  have q : z155 * z91 = z101 * z91 + (z154 * z91) * 1 := by rw [e155]; grind
  rw [q, d154, hm155]
 clear e155
 have hpoly : m155 = 0 := by
  clear d92 d93 d95 d96 d97 d98 d105 d106 d107 d108 d109 d110 d111 d112 d119 d120 d121 d122 d123 d124 d125 d126 d128 d132 d145 d146 d147 d148 d149 d150 d151 d152 d153 d154 d155
  subst_vars; grind
 have hgoal : z155 = 0 := (Rat.mul_eq_zero.1 (d155.trans hpoly)).resolve_right w91
 exact hgoal
theorem moveMirror_f12 {z4 z17 z79 z80 z81 z82 z83 z84 z85 z86 z87 z88 z89 z90 z91 z92 z93 z94 z95 z96 z97 z98 z99 z100 z101 z102 z103 z104 z105 z106 z107 z108 z109 z110 z111 z112 z113 z114 z115 z116 z117 z118 z119 z120 z121 z122 z123 z124 z125 z126 z128 z132 z145 z146 z147 z148 z149 z150 z156 z157 z158 z159 z160 : Rat} : z4 = 0 → z17 = 1 → z82 = z79 * z4 → z83 = z80 * z4 → z84 = z82 + z83 → z85 = z84 + z81 → z86 = -z85 → z87 = z79 * z86 → z88 = z80 * z86 → z89 = z79 * z79 → z90 = z80 * z80 → z91 = z89 + z90 → z92 = z87 / z91 → z93 = z88 / z91 → z94 = 2 → z95 = z92 * z94 → z96 = z93 * z94 → z97 = z4 + z95 → z98 = z4 + z96 → z99 = z79 * z17 → z100 = z99 + z83 → z101 = z100 + z81 → z102 = -z101 → z103 = z79 * z102 → z104 = z80 * z102 → z105 = z103 / z91 → z106 = z104 / z91 → z107 = z105 * z94 → z108 = z106 * z94 → z109 = z17 + z107 → z110 = z4 + z108 → z111 = z109 - z97 → z112 = z110 - z98 → z113 = z80 * z17 → z114 = z82 + z113 → z115 = z114 + z81 → z116 = -z115 → z117 = z79 * z116 → z118 = z80 * z116 → z119 = z117 / z91 → z120 = z118 / z91 → z121 = z119 * z94 → z122 = z120 * z94 → z123 = z4 + z121 → z124 = z17 + z122 → z125 = z123 - z97 → z126 = z124 - z98 → z128 = z125 * z4 → z132 = z126 * z4 → z145 = z111 * z17 → z146 = z145 + z128 → z147 = z146 + z97 → z148 = z112 * z17 → z149 = z148 + z132 → z150 = z149 + z98 → z156 = z147 - z17 → z157 = z150 - z4 → z158 = z156 * z80 → z159 = z157 * z79 → z160 = z158 - z159 → (¬ (z79 = 0 ∧ z80 = 0)) → (z79 = 0) → z160 = 0 := by
 intro e4 e17 e82 e83 e84 e85 e86 e87 e88 e89 e90 e91 e92 e93 e94 e95 e96 e97 e98 e99 e100 e101 e102 e103 e104 e105 e106 e107 e108 e109 e110 e111 e112 e113 e114 e115 e116 e117 e118 e119 e120 e121 e122 e123 e124 e125 e126 e128 e132 e145 e146 e147 e148 e149 e150 e156 e157 e158 e159 e160 u0 u1
 have w91 : z91 ≠ 0 := by (have hp := sq_pos (x := z79) (y := z80) (by grind)); grind
 have n91 : z91 ≠ 0 := w91
 have h92 : z92 * z91 = z87 := by rw [e92]; exact Rat.div_mul_cancel n91
 obtain ⟨m92, hm92⟩ : ∃ m, m = z87 := ⟨_, rfl⟩
 have d92 : z92 * z91 = m92 := by
  have q : z92 * z91 = z92 * z91 := by grind
  rw [q, h92, hm92]
 clear h92 e92
 have h93 : z93 * z91 = z88 := by rw [e93]; exact Rat.div_mul_cancel n91
 obtain ⟨m93, hm93⟩ : ∃ m, m = z88 := ⟨_, rfl⟩
 have d93 : z93 * z91 = m93 := by
  have q : z93 * z91 = z93 * z91 := by grind
  rw [q, h93, hm93]
 clear h93 e93
 obtain ⟨m95, hm95⟩ : ∃ m, m = m92 * z94 := ⟨_, rfl⟩
 have d95 : z95 * z91 = m95 := by
  have q : z95 * z91 = (z92 * z91) * z94 := by rw [e95]; grind
  rw [q, d92, hm95]
 clear e95
 obtain ⟨m96, hm96⟩ : ∃ m, m = m93 * z94 := ⟨_, rfl⟩
 have d96 : z96 * z91 = m96 := by
  have q : z96 * z91 = (z93 * z91) * z94 := by rw [e96]; grind
  rw [q, d93, hm96]
 clear e96
 obtain ⟨m97, hm97⟩ : ∃ m, m = z4 * z91 + m95 * 1 := ⟨_, rfl⟩
 have d97 : z97 * z91 = m97 := by
  have q : z97 * z91 = z4 * z91 + (z95 * z91) * 1 := by rw [e97]; grind
  rw [q, d95, hm97]
 clear e97
 obtain ⟨m98, hm98⟩ : ∃ m, m = z4 * z91 + m96 * 1 := ⟨_, rfl⟩
 have d98 : z98 * z91 = m98 := by
  have q : z98 * z91 = z4 * z91 + (z96 * z91) * 1 := by rw [e98]; grind
  rw [q, d96, hm98]
 clear e98
 have h105 : z105 * z91 = z103 := by rw [e105]; exact Rat.div_mul_cancel n91
 obtain ⟨m105, hm105⟩ : ∃ m, m = z103 := ⟨_, rfl⟩
 have d105 : z105 * z91 = m105 := by
  have q : z105 * z91 = z105 * z91 := by grind
  rw [q, h105, hm105]
 clear h105 e105
 have h106 : z106 * z91 = z104 := by rw [e106]; exact Rat.div_mul_cancel n91
 obtain ⟨m106, hm106⟩ : ∃ m, m = z104 := ⟨_, rfl⟩
 have d106 : z106 * z91 = m106 := by
  have q : z106 * z91 = z106 * z91 := by grind
  rw [q, h106, hm106]
 clear h106 e106
 obtain ⟨m107, hm107⟩ : ∃ m, m = m105 * z94 := ⟨_, rfl⟩
 have d107 : z107 * z91 = m107 := by
  have q : z107 * z91 = (z105 * z91) * z94 := by rw [e107]; grind
  rw [q, d105, hm107]
 clear e107
 obtain ⟨m108, hm108⟩ : ∃ m, m = m106 * z94 := ⟨_, rfl⟩
 have d108 : z108 * z91 = m108 := by
  have q : z108 * z91 = (z106 * z91) * z94 := by rw [e108]; grind
  rw [q, d106, hm108]
 clear e108
 obtain ⟨m109, hm109⟩ : ∃ m, m = z17 * z91 + m107 * 1 := ⟨_, rfl⟩
 have d109 : z109 * z91 = m109 := by
  have q : z109 * z91 = z17 * z91 + (z107 * z91) * 1 := by rw [e109]; grind
  rw [q, d107, hm109]
 clear e109
 obtain ⟨m110, hm110⟩ : ∃ m, m = z4 * z91 + m108 * 1 := ⟨_, rfl⟩
 have d110 : z110 * z91 = m110 := by
  have q : z110 * z91 = z4 * z91 + (z108 * z91) * 1 := by rw [e110]; grind
  rw [q, d108, hm110]
 clear e110
 obtain ⟨m111, hm111⟩ : ∃ m, m = m109 * 1 - m97 * 1 := ⟨_, rfl⟩
 have d111 : z111 * z91 = m111 := by
  have q : z111 * z91 = (z109 * z91) * 1 - (z97 * z91) * 1 := by rw [e111]; grind
  rw [q, d109, d97, hm111]
 clear e111
 obtain ⟨m112, hm112⟩ : ∃ m, m = m110 * 1 - m98 * 1 := ⟨_, rfl⟩
 have d112 : z112 * z91 = m112 := by
  have q : z112 * z91 = (z110 * z91) * 1 - (z98 * z91) * 1 := by rw [e112]; grind
  rw [q, d110, d98, hm112]
 clear e112
 have h119 : z119 * z91 = z117 := by rw [e119]; exact Rat.div_mul_cancel n91
 obtain ⟨m119, hm119⟩ : ∃ m, m = z117 := ⟨_, rfl⟩
 have d119 : z119 * z91 = m119 := by
  have q : z119 * z91 = z119 * z91 := by grind
  rw [q, h119, hm119]
 clear h119 e119
 have h120 : z120 * z91 = z118 := by rw [e120]; exact Rat.div_mul_cancel n91
 obtain ⟨m120, hm120⟩ : ∃ m, m = z118 := ⟨_, rfl⟩
 have d120 : z120 * z91 = m120 := by
  have q : z120 * z91 = z120 * z91 := by grind
  rw [q, h120, hm120]
 clear h120 e120
 obtain ⟨m121, hm121⟩ : ∃ m, m = m119 * z94 := ⟨_, rfl⟩
 have d121 : z121 * z91 = m121 := by
  have q : z121 * z91 = (z119 * z91) * z94 := by rw [e121]; grind
  rw [q, d119, hm121]
 clear e121
 obtain ⟨m122, hm122⟩ : ∃ m, m = m120 * z94 := ⟨_, rfl⟩
 have d122 : z122 * z91 = m122 := by
  have q : z122 * z91 = (z120 * z91) * z94 := by rw [e122]; grind
  rw [q, d120, hm122]
 clear e122
 obtain ⟨m123, hm123⟩ : ∃ m, m = z4 * z91 + m121 * 1 := ⟨_, rfl⟩
 have d123 : z123 * z91 = m123 := by
  have q : z123 * z91 = z4 * z91 + (z121 * z91) * 1 := by rw [e123]; grind
  rw [q, d121, hm123]
 clear e123
 obtain ⟨m124, hm124⟩ : ∃ m, m = z17 * z91 + m122 * 1 := ⟨_, rfl⟩
 have d124 : z124 * z91 = m124 := by
  have q : z124 * z91 = z17 * z91 + (z122 * z91) * 1 := by rw [e124]; grind
  rw [q, d122, hm124]
 clear e124
 obtain ⟨m125, hm125⟩ : ∃ m, m = m123 * 1 - m97 * 1 := ⟨_, rfl⟩
 have d125 : z125 * z91 = m125 := by
  have q : z125 * z91 = (z123 * z91) * 1 - (z97 * z91) * 1 := by rw [e125]; grind
  rw [q, d123, d97, hm125]
 clear e125
 obtain ⟨m126, hm126⟩ : ∃ m, m = m124 * 1 - m98 * 1 := ⟨_, rfl⟩
 have d126 : z126 * z91 = m126 := by
  have q : z126 * z91 = (z124 * z91) * 1 - (z98 * z91) * 1 := by rw [e126]; grind
  rw [q, d124, d98, hm126]
 clear e126
 obtain ⟨m128, hm128⟩ : ∃ m, m = m125 * z4 := ⟨_, rfl⟩
 have d128 : z128 * z91 = m128 := by
  have q : z128 * z91 = (z125 * z91) * z4 := by rw [e128]; grind
  rw [q, d125, hm128]
 clear e128
 obtain ⟨m132, hm132⟩ : ∃ m, m = m126 * z4 := ⟨_, rfl⟩
 have d132 : z132 * z91 = m132 := by
  have q : z132 * z91 = (z126 * z91) * z4 := by rw [e132]; grind
  rw [q, d126, hm132]
 clear e132
 obtain ⟨m145, hm145⟩ : ∃ m, m = m111 * z17 := ⟨_, rfl⟩
 have d145 : z145 * z91 = m145 := by
  have q : z145 * z91 = (z111 * z91) * z17 := by rw [e145]; grind
  rw [q, d111, hm145]
 clear e145
 obtain ⟨m146, hm146⟩ : ∃ m, m = m145 * 1 + m128 * 1 := ⟨_, rfl⟩
 have d146 : z146 * z91 = m146 := by
  have q : z146 * z91 = (z145 * z91) * 1 + (z128 * z91) * 1 := by rw [e146]; grind
  rw [q, d145, d128, hm146]
 clear e146
 obtain ⟨m147, hm147⟩ : ∃ m, m = m146 * 1 + m97 * 1 := ⟨_, rfl⟩
 have d147 : z147 * z91 = m147 := by
  have q : z147 * z91 = (z146 * z91) * 1 + (z97 * z91) * 1 := by rw [e147]; grind
  rw [q, d146, d97, hm147]
 clear e147
 obtain ⟨m148, hm148⟩ : ∃ m, m = m112 * z17 := ⟨_, rfl⟩
 have d148 : z148 * z91 = m148 := by
  have q : z148 * z91 = (z112 * z91) * z17 := by rw [e148]; grind
  rw [q, d112, hm148]
 clear e148
 obtain ⟨m149, hm149⟩ : ∃ m, m = m148 * 1 + m132 * 1 := ⟨_, rfl⟩
 have d149 : z149 * z91 = m149 := by
  have q : z149 * z91 = (z148 * z91) * 1 + (z132 * z91) * 1 := by rw [e149]; grind
  rw [q, d148, d132, hm149]
 clear e149
 obtain ⟨m150, hm150⟩ : ∃ m, m = m149 * 1 + m98 * 1 := ⟨_, rfl⟩
 have d150 : z150 * z91 = m150 := by
  have q : z150 * z91 = (z149 * z91) * 1 + (z98 * z91) * 1 := by rw [e150]; grind
  rw [q, d149, d98, hm150]
 clear e150
 obtain ⟨m156, hm156⟩ : ∃ m, m = m147 * 1 - z17 * z91 := ⟨_, rfl⟩
 have d156 : z156 * z91 = m156 := by
  have q : z156 * z91 = (z147 * z91) * 1 - z17 * z91 := by rw [e156]; grind
  rw [q, d147, hm156]
 clear e156
 obtain ⟨m157, hm157⟩ : ∃ m, m = m150 * 1 - z4 * z91 := ⟨_, rfl⟩
 have d157 : z157 * z91 = m157 := by
  have q : z157 * z91 = (z150 * z91) * 1 - z4 * z91 := by rw [e157]; grind
  rw [q, d150, hm157]
 clear e157
 obtain ⟨m158, hm158⟩ : ∃ m, m = m156 * z80 := ⟨_, rfl⟩
 have d158 : z158 * z91 = m158 := by
  have q : z158 * z91 = (z156 * z91) * z80 := by rw [e158]; grind
  rw [q, d156, hm158]
 clear e158
 obtain ⟨m159, hm159⟩ : ∃ m, m = m157 * z79 := ⟨_, rfl⟩
 have d159 : z159 * z91 = m159 := by
  have q : z159 * z91 = (z157 * z91) * z79 := by rw [e159]; grind
  rw [q, d157, hm159]
 clear e159
 obtain ⟨m160, hm160⟩ : ∃ m, m = m158 * 1 - m159 * 1 := ⟨_, rfl⟩
 have d160 : z160 * z91 = m160 := by
  have q : z160 * z91 = (z158 * z91) * 1 - (z159 * z91) * 1 := by rw [e160]; grind
  rw [q, d158, d159, hm160]
 clear e160
 have hpoly : m160 = 0 := by
  clear d92 d93 d95 d96 d97 d98 d105 d106 d107 d108 d109 d110 d111 d112 d119 d120 d121 d122 d123 d124 d125 d126 d128 d132 d145 d146 d147 d148 d149 d150 d156 d157 d158 d159 d160
  subst_vars; grind
 have hgoal : z160 = 0 := (Rat.mul_eq_zero.1 (d160.trans hpoly)).resolve_right w91
 exact hgoal
theorem moveMirror_f13 {z4 z17 z79 z80 z81 z82 z83 z84 z85 z86 z87 z88 z89 z90 z91 z92 z93 z94 z95 z96 z97 z98 z99 z100 z101 z102 z103 z104 z105 z106 z107 z108 z109 z110 z111 z112 z113 z114 z115 z116 z117 z118 z119 z120 z121 z122 z123 z124 z125 z126 z127 z131 z161 z162 z163 z164 z165 z166 z167 z168 z169 z170 z171 : Rat} : z4 = 0 → z17 = 1 → z82 = z79 * z4 → z83 = z80 * z4 → z84 = z82 + z83 → z85 = z84 + z81 → z86 = -z85 → z87 = z79 * z86 → z88 = z80 * z86 → z89 = z79 * z79 → z90 = z80 * z80 → z91 = z89 + z90 → z92 = z87 / z91 → z93 = z88 / z91 → z94 = 2 → z95 = z92 * z94 → z96 = z93 * z94 → z97 = z4 + z95 → z98 = z4 + z96 → z99 = z79 * z17 → z100 = z99 + z83 → z101 = z100 + z81 → z102 = -z101 → z103 = z79 * z102 → z104 = z80 * z102 → z105 = z103 / z91 → z106 = z104 / z91 → z107 = z105 * z94 → z108 = z106 * z94 → z109 = z17 + z107 → z110 = z4 + z108 → z111 = z109 - z97 → z112 = z110 - z98 → z113 = z80 * z17 → z114 = z82 + z113 → z115 = z114 + z81 → z116 = -z115 → z117 = z79 * z116 → z118 = z80 * z116 → z119 = z117 / z91 → z120 = z118 / z91 → z121 = z119 * z94 → z122 = z120 * z94 → z123 = z4 + z121 → z124 = z17 + z122 → z125 = z123 - z97 → z126 = z124 - z98 → z127 = z111 * z4 → z131 = z112 * z4 → z161 = z125 * z17 → z162 = z127 + z161 → z163 = z162 + z97 → z164 = z126 * z17 → z165 = z131 + z164 → z166 = z165 + z98 → z167 = z79 * z163 → z168 = z80 * z166 → z169 = z167 + z168 → z170 = z169 + z81 → z171 = z115 + z170 → (¬ (z79 = 0 ∧ z80 = 0)) → (z79 = 0) → z171 = 0 := by
 intro e4 e17 e82 e83 e84 e85 e86 e87 e88 e89 e90 e91 e92 e93 e94 e95 e96 e97 e98 e99 e100 e101 e102 e103 e104 e105 e106 e107 e108 e109 e110 e111 e112 e113 e114 e115 e116 e117 e118 e119 e120 e121 e122 e123 e124 e125 e126 e127 e131 e161 e162 e163 e164 e165 e166 e167 e168 e169 e170 e171 u0 u1
 have w91 : z91 ≠ 0 := by (have hp := sq_pos (x := z79) (y := z80) (by grind)); grind
 have n91 : z91 ≠ 0 := w91
 have h92 : z92 * z91 = z87 := by rw [e92]; exact Rat.div_mul_cancel n91
 obtain ⟨m92, hm92⟩ : ∃ m, m = z87 := ⟨_, rfl⟩
 have d92 : z92 * z91 = m92 := by
  have q : z92 * z91 = z92 * z91 := by grind
  rw [q, h92, hm92]
 clear h92 e92
 have h93 : z93 * z91 = z88 := by rw [e93]; exact Rat.div_mul_cancel n91
 obtain ⟨m93, hm93⟩ : ∃ m, m = z88 := ⟨_, rfl⟩
 have d93 : z93 * z91 = m93 := by
  have q : z93 * z91 = z93 * z91 := by grind
  rw [q, h93, hm93]
 clear h93 e93
 obtain ⟨m95, hm95⟩ : ∃ m, m = m92 * z94 := ⟨_, rfl⟩
 have d95 : z95 * z91 = m95 := by
  have q : z95 * z91 = (z92 * z91) * z94 := by rw [e95]; grind
  rw [q, d92, hm95]
 clear e95
 obtain ⟨m96, hm96⟩ : ∃ m, m = m93 * z94 := ⟨_, rfl⟩
 have d96 : z96 * z91 = m96 := by
  have q : z96 * z91 = (z93 * z91) * z94 := by rw [e96]; grind
  rw [q, d93, hm96]
 clear e96
 obtain ⟨m97, hm97⟩ : ∃ m, m = z4 * z91 + m95 * 1 := ⟨_, rfl⟩
 have d97 : z97 * z91 = m97 := by
  have q : z97 * z91 = z4 * z91 + (z95 * z91) * 1 := by rw [e97]; grind
  rw [q, d95, hm97]
 clear e97
 obtain ⟨m98, hm98⟩ : ∃ m, m = z4 * z91 + m96 * 1 := ⟨_, rfl⟩
 have d98 : z98 * z91 = m98 := by
  have q : z98 * z91 = z4 * z91 + (z96 * z91) * 1 := by rw [e98]; grind
  rw [q, d96, hm98]
 clear e98
 have h105 : z105 * z91 = z103 := by rw [e105]; exact Rat.div_mul_cancel n91
 obtain ⟨m105, hm105⟩ : ∃ m, m = z103 := ⟨_, rfl⟩
 have d105 : z105 * z91 = m105 := by
  have q : z105 * z91 = z105 * z91 := by grind
  rw [q, h105, hm105]
 clear h105 e105
 have h106 : z106 * z91 = z104 := by rw [e106]; exact Rat.div_mul_cancel n91
 obtain ⟨m106, hm106⟩ : ∃ m, m = z104 := ⟨_, rfl⟩
 have d106 : z106 * z91 = m106 := by
  have q : z106 * z91 = z106 * z91 := by grind
  rw [q, h106, hm106]
 clear h106 e106
 obtain ⟨m107, hm107⟩ : ∃ m, m = m105 * z94 := ⟨_, rfl⟩
 have d107 : z107 * z91 = m107 := by
  have q : z107 * z91 = (z105 * z91) * z94 := by rw [e107]; grind
  rw [q, d105, hm107]
 clear e107
 obtain ⟨m108, hm108⟩ : ∃ m, m = m106 * z94 := ⟨_, rfl⟩
 have d108 : z108 * z91 = m108 := by
  have q : z108 * z91 = (z106 * z91) * z94 := by rw [e108]; grind
  rw [q, d106, hm108]
 clear e108
 obtain ⟨m109, hm109⟩ : ∃ m, m = z17 * z91 + m107 * 1 := ⟨_, rfl⟩
 have d109 : z109 * z91 = m109 := by
  have q : z109 * z91 = z17 * z91 + (z107 * z91) * 1 := by rw [e109]; grind
  rw [q, d107, hm109]
 clear e109
 obtain ⟨m110, hm110⟩ : ∃ m, m = z4 * z91 + m108 * 1 := ⟨_, rfl⟩
 have d110 : z110 * z91 = m110 := by
  have q : z110 * z91 = z4 * z91 + (z108 * z91) * 1 := by rw [e110]; grind
  rw [q, d108, hm110]
 clear e110
 obtain ⟨m111, hm111⟩ : ∃ m, m = m109 * 1 - m97 * 1 := ⟨_, rfl⟩
 have d111 : z111 * z91 = m111 := by
  have q : z111 * z91 = (z109 * z91) * 1 - (z97 * z91) * 1 := by rw [e111]; grind
  rw [q, d109, d97, hm111]
 clear e111
 obtain ⟨m112, hm112⟩ : ∃ m, m = m110 * 1 - m98 * 1 := ⟨_, rfl⟩
 have d112 : z112 * z91 = m112 := by
  have q : z112 * z91 = (z110 * z91) * 1 - (z98 * z91) * 1 := by rw [e112]; grind
  rw [q, d110, d98, hm112]
 clear e112
 have h119 : z119 * z91 = z117 := by rw [e119]; exact Rat.div_mul_cancel n91
 obtain ⟨m119, hm119⟩ : ∃ m, m = z117 := ⟨_, rfl⟩
 have d119 : z119 * z91 = m119 := by
  have q : z119 * z91 = z119 * z91 := by grind
  rw [q, h119, hm119]
 clear h119 e119
 have h120 : z120 * z91 = z118 := by rw [e120]; exact Rat.div_mul_cancel n91
 obtain ⟨m120, hm120⟩ : ∃ m, m = z118 := ⟨_, rfl⟩
 have d120 : z120 * z91 = m120 := by
  have q : z120 * z91 = z120 * z91 := by grind
  rw [q, h120, hm120]
 clear h120 e120
 obtain ⟨m121, hm121⟩ : ∃ m, m = m119 * z94 := ⟨_, rfl⟩
 have d121 : z121 * z91 = m121 := by
  have q : z121 * z91 = (z119 * z91) * z94 := by rw [e121]; grind
  rw [q, d119, hm121]
 clear e121
 obtain ⟨m122, hm122⟩ : ∃ m, m = m120 * z94 := ⟨_, rfl⟩
 have d122 : z122 * z91 = m122 := by
  have q : z122 * z91 = (z120 * z91) * z94 := by rw [e122]; grind
  rw [q, d120, hm122]
 clear e122
 obtain ⟨m123, hm123⟩ : ∃ m, m = z4 * z91 + m121 * 1 := ⟨_, rfl⟩
 have d123 : z123 * z91 = m123 := by
  have q : z123 * z91 = z4 * z91 + (z121 * z91) * 1 := by rw [e123]; grind
  rw [q, d121, hm123]
 clear e123
 obtain ⟨m124, hm124⟩ : ∃ m, m = z17 * z91 + m122 * 1 := ⟨_, rfl⟩
 have d124 : z124 * z91 = m124 := by
  have q : z124 * z91 = z17 * z91 + (z122 * z91) * 1 := by rw [e124]; grind
  rw [q, d122, hm124]
 clear e124
 obtain ⟨m125, hm125⟩ : ∃ m, m = m123 * 1 - m97 * 1 := ⟨_, rfl⟩
 have d125 : z125 * z91 = m125 := by
  have q : z125 * z91 = (z123 * z91) * 1 - (z97 * z91) * 1 := by rw [e125]; grind
  rw [q, d123, d97, hm125]
 clear e125
 obtain ⟨m126, hm126⟩ : ∃ m, m = m124 * 1 - m98 * 1 := ⟨_, rfl⟩
 have d126 : z126 * z91 = m126 := by
  have q : z126 * z91 = (z124 * z91) * 1 - (z98 * z91) * 1 := by rw [e126]; grind
  rw [q, d124, d98, hm126]
 clear e126
 obtain ⟨m127, hm127⟩ : ∃ m, m = m111 * z4 := ⟨_, rfl⟩
 have d127 : z127 * z91 = m127 := by
  have q : z127 * z91 = (z111 * z91) * z4 := by rw [e127]; grind
  rw [q, d111, hm127]
 clear e127
 obtain ⟨m131, hm131⟩ : ∃ m, m = m112 * z4 := ⟨_, rfl⟩
 have d131 : z131 * z91 = m131 := by
  have q : z131 * z91 = (z112 * z91) * z4 := by rw [e131]; grind
  rw [q, d112, hm131]
 clear e131
 obtain ⟨m161, hm161⟩ : ∃ m, m = m125 * z17 := ⟨_, rfl⟩
 have d161 : z161 * z91 = m161 := by
  have q : z161 * z91 = (z125 * z91) * z17 := by rw [e161]; grind
  rw [q, d125, hm161]
 clear e161
 obtain ⟨m162, hm162⟩ : ∃ m, m = m127 * 1 + m161 * 1 := ⟨_, rfl⟩
 have d162 : z162 * z91 = m162 := by
  have q : z162 * z91 = (z127 * z91) * 1 + (z161 * z91) * 1 := by rw [e162]; grind
  rw [q, d127, d161, hm162]
 clear e162
 obtain ⟨m163, hm163⟩ : ∃ m, m = m162 * 1 + m97 * 1 := ⟨_, rfl⟩
 have d163 : z163 * z91 = m163 := by
  have q : z163 * z91 = (z162 * z91) * 1 + (z97 * z91) * 1 := by rw [e163]; grind
  rw [q, d162, d97, hm163]
 clear e163
 obtain ⟨m164, hm164⟩ : ∃ m, m = m126 * z17 := ⟨_, rfl⟩
 have d164 : z164 * z91 = m164 := by
  have q : z164 * z91 = (z126 * z91) * z17 := by rw [e164]; grind
  rw [q, d126, hm164]
 clear e164
 obtain ⟨m165, hm165⟩ : ∃ m, m = m131 * 1 + m164 * 1 := ⟨_, rfl⟩
 have d165 : z165 * z91 = m165 := by
  have q : z165 * z91 = (z131 * z91) * 1 + (z164 * z91) * 1 := by rw [e165]; grind
  rw [q, d131, d164, hm165]
 clear e165
 obtain ⟨m166, hm166⟩ : ∃ m, m = m165 * 1 + m98 * 1 := ⟨_, rfl⟩
 have d166 : z166 * z91 = m166 := by
  have q : z166 * z91 = (z165 * z91) * 1 + (z98 * z91) * 1 := by rw [e166]; grind
  rw [q, d165, d98, hm166]
 clear e166
 obtain ⟨m167, hm167⟩ : ∃ m, m = z79 * m163 := ⟨_, rfl⟩
 have d167 : z167 * z91 = m167 := by
  have q : z167 * z91 = z79 * (z163 * z91) := by rw [e167]; grind
  rw [q, d163, hm167]
 clear e167
 obtain ⟨m168, hm168⟩ : ∃ m, m = z80 * m166 := ⟨_, rfl⟩
 have d168 : z168 * z91 = m168 := by
  have q : z168 * z91 = z80 * (z166 * z91) := by rw [e168]; grind
  rw [q, d166, hm168]
 clear e168
 obtain ⟨m169, hm169⟩ : ∃ m, m = m167 * 1 + m168 * 1 := ⟨_, rfl⟩
 have d169 : z169 * z91 = m169 := by
  have q : z169 * z91 = (z167 * z91) * 1 + (z168 * z91) * 1 := by rw [e169]; grind
  rw [q, d167, d168, hm169]
 clear e169
 obtain ⟨m170, hm170⟩ : ∃ m, m = m169 * 1 + z81 * z91 := ⟨_, rfl⟩
 have d170 : z170 * z91 = m170 := by
  have q : z170 * z91 = (z169 * z91) * 1 + z81 * z91 := by rw [e170]; grind
  rw [q, d169, hm170]
 clear e170
 obtain ⟨m171, hm171⟩ : ∃ m, m = z115 * z91 + m170 * 1 := ⟨_, rfl⟩
 have d171 : z171 * z91 = m171 := by
  have q : z171 * z91 = z115 * z91 + (z170 * z91) * 1 := by rw [e171]; grind
  rw [q, d170, hm171]
 clear e171
 have hpoly : m171 = 0 := by
  clear d92 d93 d95 d96 d97 d98 d105 d106 d107 d108 d109 d110 d111 d112 d119 d120 d121 d122 d123 d124 d125 d126 d127 d131 d161 d162 d163 d164 d165 d166 d167 d168 d169 d170 d171
  subst_vars; grind
 have hgoal : z171 = 0 := (Rat.mul_eq_zero.1 (d171.trans hpoly)).resolve_right w91
 exact hgoal
theorem moveMirror_f14 {z4 z17 z79 z80 z81 z82 z83 z84 z85 z86 z87 z88 z89 z90 z91 z92 z93 z94 z95 z96 z97 z98 z99 z100 z101 z102 z103 z104 z105 z106 z107 z108 z109 z110 z111 z112 z113 z114 z115 z116 z117 z118 z119 z120 z121 z122 z123 z124 z125 z126 z127 z131 z161 z162 z163 z164 z165 z166 z172 z173 z174 z175 z176 : Rat} : z4 = 0 → z17 = 1 → z82 = z79 * z4 → z83 = z80 * z4 → z84 = z82 + z83 → z85 = z84 + z81 → z86 = -z85 → z87 = z79 * z86 → z88 = z80 * z86 → z89 = z79 * z79 → z90 = z80 * z80 → z91 = z89 + z90 → z92 = z87 / z91 → z93 = z88 / z91 → z94 = 2 → z95 = z92 * z94 → z96 = z93 * z94 → z97 = z4 + z95 → z98 = z4 + z96 → z99 = z79 * z17 → z100 = z99 + z83 → z101 = z100 + z81 → z102 = -z101 → z103 = z79 * z102 → z104 = z80 * z102 → z105 = z103 / z91 → z106 = z104 / z91 → z107 = z105 * z94 → z108 = z106 * z94 → z109 = z17 + z107 → z110 = z4 + z108 → z111 = z109 - z97 → z112 = z110 - z98 → z113 = z80 * z17 → z114 = z82 + z113 → z115 = z114 + z81 → z116 = -z115 → z117 = z79 * z116 → z118 = z80 * z116 → z119 = z117 / z91 → z120 = z118 / z91 → z121 = z119 * z94 → z122 = z120 * z94 → z123 = z4 + z121 → z124 = z17 + z122 → z125 = z123 - z97 → z126 = z124 - z98 → z127 = z111 * z4 → z131 = z112 * z4 → z161 = z125 * z17 → z162 = z127 + z161 → z163 = z162 + z97 → z164 = z126 * z17 → z165 = z131 + z164 → z166 = z165 + z98 → z172 = z163 - z4 → z173 = z166 - z17 → z174 = z172 * z80 → z175 = z173 * z79 → z176 = z174 - z175 → (¬ (z79 = 0 ∧ z80 = 0)) → (z79 = 0) → z176 = 0 := by
 intro e4 e17 e82 e83 e84 e85 e86 e87 e88 e89 e90 e91 e92 e93 e94 e95 e96 e97 e98 e99 e100 e101 e102 e103 e104 e105 e106 e107 e108 e109 e110 e111 e112 e113 e114 e115 e116 e117 e118 e119 e120 e121 e122 e123 e124 e125 e126 e127 e131 e161 e162 e163 e164 e165 e166 e172 e173 e174 e175 e176 u0 u1
 have w91 : z91 ≠ 0 := by (have hp := sq_pos (x := z79) (y := z80) (by grind)); grind
 have n91 : z91 ≠ 0 := w91
 have h92 : z92 * z91 = z87 := by rw [e92]; exact Rat.div_mul_cancel n91
 obtain ⟨m92, hm92⟩ : ∃ m, m = z87 := ⟨_, rfl⟩
 have d92 : z92 * z91 = m92 := by
  have q : z92 * z91 = z92 * z91 := by grind
  rw [q, h92, hm92]
 clear h92 e92
 have h93 : z93 * z91 = z88 := by rw [e93]; exact Rat.div_mul_cancel n91
 obtain ⟨m93, hm93⟩ : ∃ m, m = z88 := ⟨_, rfl⟩
 have d93 : z93 * z91 = m93 := by
  have q : z93 * z91 = z93 * z91 := by grind
  rw [q, h93, hm93]
 clear h93 e93
 obtain ⟨m95, hm95⟩ : ∃ m, m = m92 * z94 := ⟨_, rfl⟩
 have d95 : z95 * z91 = m95 := by
  have q : z95 * z91 = (z92 * z91) * z94 := by rw [e95]; grind
  rw [q, d92, hm95]
 clear e95
 obtain ⟨m96, hm96⟩ : ∃ m, m = m93 * z94 := ⟨_, rfl⟩
 have d96 : z96 * z91 = m96 := by
  have q : z96 * z91 = (z93 * z91) * z94 := by rw [e96]; grind
  rw [q, d93, hm96]
 clear e96
 obtain ⟨m97, hm97⟩ : ∃ m, m = z4 * z91 + m95 * 1 := ⟨_, rfl⟩
 have d97 : z97 * z91 = m97 := by
  have q : z97 * z91 = z4 * z91 + (z95 * z91) * 1 := by rw [e97]; grind
  rw [q, d95, hm97]
 clear e97
 obtain ⟨m98, hm98⟩ : ∃ m, m = z4 * z91 + m96 * 1 := ⟨_, rfl⟩
 have d98 : z98 * z91 = m98 := by
  have q : z98 * z91 = z4 * z91 + (z96 * z91) * 1 := by rw [e98]; grind
  rw [q, d96, hm98]
 clear e98
 have h105 : z105 * z91 = z103 := by rw [e105]; exact Rat.div_mul_cancel n91
 obtain ⟨m105, hm105⟩ : ∃ m, m = z103 := ⟨_, rfl⟩
 have d105 : z105 * z91 = m105 := by
  have q : z105 * z91 = z105 * z91 := by grind
  rw [q, h105, hm105]
 clear h105 e105
 have h106 : z106 * z91 = z104 := by rw [e106]; exact Rat.div_mul_cancel n91
 obtain ⟨m106, hm106⟩ : ∃ m, m = z104 := ⟨_, rfl⟩
 have d106 : z106 * z91 = m106 := by
  have q : z106 * z91 = z106 * z91 := by grind
  rw [q, h106, hm106]
 clear h106 e106
 obtain ⟨m107, hm107⟩ : ∃ m, m = m105 * z94 := ⟨_, rfl⟩
 have d107 : z107 * z91 = m107 := by
  have q : z107 * z91 = (z105 * z91) * z94 := by rw [e107]; grind
  rw [q, d105, hm107]
 clear e107
 obtain ⟨m108, hm108⟩ : ∃ m, m = m106 * z94 := ⟨_, rfl⟩
 have d108 : z108 * z91 = m108 := by
  have q : z108 * z91 = (z106 * z91) * z94 := by rw [e108]; grind
  rw [q, d106, hm108]
 clear e108
 obtain ⟨m109, hm109⟩ : ∃ m, m = z17 * z91 + m107 * 1 := ⟨_, rfl⟩
 have d109 : z109 * z91 = m109 := by
  have q : z109 * z91 = z17 * z91 + (z107 * z91) * 1 := by rw [e109]; grind
  rw [q, d107, hm109]
 clear e109
 obtain ⟨m110, hm110⟩ : ∃ m, m = z4 * z91 + m108 * 1 := ⟨_, rfl⟩
 have d110 : z110 * z91 = m110 := by
  have q : z110 * z91 = z4 * z91 + (z108 * z91) * 1 := by rw [e110]; grind
  rw [q, d108, hm110]
 clear e110
 obtain ⟨m111, hm111⟩ : ∃ m, m = m109 * 1 - m97 * 1 := ⟨_, rfl⟩
 have d111 : z111 * z91 = m111 := by
  have q : z111 * z91 = (z109 * z91) * 1 - (z97 * z91) * 1 := by rw [e111]; grind
  rw [q, d109, d97, hm111]
 clear e111
 obtain ⟨m112, hm112⟩ : ∃ m, m = m110 * 1 - m98 * 1 := ⟨_, rfl⟩
 have d112 : z112 * z91 = m112 := by
  have q : z112 * z91 = (z110 * z91) * 1 - (z98 * z91) * 1 := by rw [e112]; grind
  rw [q, d110, d98, hm112]
 clear e112
 have h119 : z119 * z91 = z117 := by rw [e119]; exact Rat.div_mul_cancel n91
 obtain ⟨m119, hm119⟩ : ∃ m, m = z117 := ⟨_, rfl⟩
 have d119 : z119 * z91 = m119 := by
  have q : z119 * z91 = z119 * z91 := by grind
  rw [q, h119, hm119]
 clear h119 e119
 have h120 : z120 * z91 = z118 := by rw [e120]; exact Rat.div_mul_cancel n91
 obtain ⟨m120, hm120⟩ : ∃ m, m = z118 := ⟨_, rfl⟩
 have d120 : z120 * z91 = m120 := by
  have q : z120 * z91 = z120 * z91 := by grind
  rw [q, h120, hm120]
 clear h120 e120
 obtain ⟨m121, hm121⟩ : ∃ m, m = m119 * z94 := ⟨_, rfl⟩
 have d121 : z121 * z91 = m121 := by
  have q : z121 * z91 = (z119 * z91) * z94 := by rw [e121]; grind
  rw [q, d119, hm121]
 clear e121
 obtain ⟨m122, hm122⟩ : ∃ m, m = m120 * z94 := ⟨_, rfl⟩
 have d122 : z122 * z91 = m122 := by
  have q : z122 * z91 = (z120 * z91) * z94 := by rw [e122]; grind
  rw [q, d120, hm122]
 clear e122
 obtain ⟨m123, hm123⟩ : ∃ m, m = z4 * z91 + m121 * 1 := ⟨_, rfl⟩
 have d123 : z123 * z91 = m123 := by
  have q : z123 * z91 = z4 * z91 + (z121 * z91) * 1 := by rw [e123]; grind
  rw [q, d121, hm123]
 clear e123
 obtain ⟨m124, hm124⟩ : ∃ m, m = z17 * z91 + m122 * 1 := ⟨_, rfl⟩
 have d124 : z124 * z91 = m124 := by
  have q : z124 * z91 = z17 * z91 + (z122 * z91) * 1 := by rw [e124]; grind
  rw [q, d122, hm124]
 clear e124
 obtain ⟨m125, hm125⟩ : ∃ m, m = m123 * 1 - m97 * 1 := ⟨_, rfl⟩
 have d125 : z125 * z91 = m125 := by
  have q : z125 * z91 = (z123 * z91) * 1 - (z97 * z91) * 1 := by rw [e125]; grind
  rw [q, d123, d97, hm125]
 clear e125
 obtain ⟨m126, hm126⟩ : ∃ m, m = m124 * 1 - m98 * 1 := ⟨_, rfl⟩
 have d126 : z126 * z91 = m126 := by
  have q : z126 * z91 = (z124 * z91) * 1 - (z98 * z91) * 1 := by rw [e126]; grind
  rw [q, d124, d98, hm126]
 clear e126
 obtain ⟨m127, hm127⟩ : ∃ m, m = m111 * z4 := ⟨_, rfl⟩
 have d127 : z127 * z91 = m127 := by
  have q : z127 * z91 = (z111 * z91) * z4 := by rw [e127]; grind
  rw [q, d111, hm127]
 clear e127
 obtain ⟨m131, hm131⟩ : ∃ m, m = m112 * z4 := ⟨_, rfl⟩
 have d131 : z131 * z91 = m131 := by
  have q : z131 * z91 = (z112 * z91) * z4 := by rw [e131]; grind
  rw [q, d112, hm131]
 clear e131
 obtain ⟨m161, hm161⟩ : ∃ m, m = m125 * z17 := ⟨_, rfl⟩
 have d161 : z161 * z91 = m161 := by
  have q : z161 * z91 = (z125 * z91) * z17 := by rw [e161]; grind
  rw [q, d125, hm161]
 clear e161
 obtain ⟨m162, hm162⟩ : ∃ m, m = m127 * 1 + m161 * 1 := ⟨_, rfl⟩
 have d162 : z162 * z91 = m162 := by
  have q : z162 * z91 = (z127 * z91) * 1 + (z161 * z91) * 1 := by rw [e162]; grind
  rw [q, d127, d161, hm162]
 clear e162
 obtain ⟨m163, hm163⟩ : ∃ m, m = m162 * 1 + m97 * 1 := ⟨_, rfl⟩
 have d163 : z163 * z91 = m163 := by
  have q : z163 * z91 = (z162 * z91) * 1 + (z97 * z91) * 1 := by rw [e163]; grind
  rw [q, d162, d97, hm163]
 clear e163
 obtain ⟨m164, hm164⟩ : ∃ m, m = m126 * z17 := ⟨_, rfl⟩
 have d164 : z164 * z91 = m164 := by
  have q : z164 * z91 = (z126 * z91) * z17 := by rw [e164]; grind
  rw [q, d126, hm164]
 clear e164
 obtain ⟨m165, hm165⟩ : ∃ m, m = m131 * 1 + m164 * 1 := ⟨_, rfl⟩
 have d165 : z165 * z91 = m165 := by
  have q : z165 * z91 = (z131 * z91) * 1 + (z164 * z91) * 1 := by rw [e165]; grind
  rw [q, d131, d164, hm165]
 clear e165
 obtain ⟨m166, hm166⟩ : ∃ m, m = m165 * 1 + m98 * 1 := ⟨_, rfl⟩
 have d166 : z166 * z91 = m166 := by
  have q : z166 * z91 = (z165 * z91) * 1 + (z98 * z91) * 1 := by rw [e166]; grind
  rw [q, d165, d98, hm166]
 clear e166
 obtain ⟨m172, hm172⟩ : ∃ m, m = m163 * 1 - z4 * z91 := ⟨_, rfl⟩
 have d172 : z172 * z91 = m172 := by
  have q : z172 * z91 = (z163 * z91) * 1 - z4 * z91 := by rw [e172]; grind
  rw [q, d163, hm172]
 clear e172
 obtain ⟨m173, hm173⟩ : ∃ m, m = m166 * 1 - z17 * z91 := ⟨_, rfl⟩
 have d173 : z173 * z91 = m173 := by
  have q : z173 * z91 = (z166 * z91) * 1 - z17 * z91 := by rw [e173]; grind
  rw [q, d166, hm173]
 clear e173
 obtain ⟨m174, hm174⟩ : ∃ m, m = m172 * z80 := ⟨_, rfl⟩
 have d174 : z174 * z91 = m174 := by
  have q : z174 * z91 = (z172 * z91) * z80 := by rw [e174]; grind
  rw [q, d172, hm174]
 clear e174
 obtain ⟨m175, hm175⟩ : ∃ m, m = m173 * z79 := ⟨_, rfl⟩
 have d175 : z175 * z91 = m175 := by
  have q : z175 * z91 = (z173 * z91) * z79 := by rw [e175]; grind
  rw [q, d173, hm175]
 clear e175
 obtain ⟨m176, hm176⟩ : ∃ m, m = m174 * 1 - m175 * 1 := ⟨_, rfl⟩
 have d176 : z176 * z91 = m176 := by
  have q : z176 * z91 = (z174 * z91) * 1 - (z175 * z91) * 1 := by rw [e176]; grind
  rw [q, d174, d175, hm176]
 clear e176
 have hpoly : m176 = 0 := by
  clear d92 d93 d95 d96 d97 d98 d105 d106 d107 d108 d109 d110 d111 d112 d119 d120 d121 d122 d123 d124 d125 d126 d127 d131 d161 d162 d163 d164 d165 d166 d172 d173 d174 d175 d176
  subst_vars; grind
 have hgoal : z176 = 0 := (Rat.mul_eq_zero.1 (d176.trans hpoly)).resolve_right w91
 exact hgoal
theorem moveMirror_f15 {z4 z17 z79 z80 z81 z82 z83 z84 z85 z86 z87 z88 z89 z90 z91 z92 z93 z94 z95 z96 z97 z98 z99 z100 z101 z102 z103 z104 z105 z106 z107 z108 z109 z110 z111 z112 z113 z114 z115 z116 z117 z118 z119 z120 z121 z122 z123 z124 z125 z126 z127 z128 z129 z130 z131 z132 z133 z134 z135 z136 z137 z138 z139 : Rat} : z4 = 0 → z17 = 1 → z82 = z79 * z4 → z83 = z80 * z4 → z84 = z82 + z83 → z85 = z84 + z81 → z86 = -z85 → z87 = z79 * z86 → z88 = z80 * z86 → z89 = z79 * z79 → z90 = z80 * z80 → z91 = z89 + z90 → z92 = z87 / z91 → z93 = z88 / z91 → z94 = 2 → z95 = z92 * z94 → z96 = z93 * z94 → z97 = z4 + z95 → z98 = z4 + z96 → z99 = z79 * z17 → z100 = z99 + z83 → z101 = z100 + z81 → z102 = -z101 → z103 = z79 * z102 → z104 = z80 * z102 → z105 = z103 / z91 → z106 = z104 / z91 → z107 = z105 * z94 → z108 = z106 * z94 → z109 = z17 + z107 → z110 = z4 + z108 → z111 = z109 - z97 → z112 = z110 - z98 → z113 = z80 * z17 → z114 = z82 + z113 → z115 = z114 + z81 → z116 = -z115 → z117 = z79 * z116 → z118 = z80 * z116 → z119 = z117 / z91 → z120 = z118 / z91 → z121 = z119 * z94 → z122 = z120 * z94 → z123 = z4 + z121 → z124 = z17 + z122 → z125 = z123 - z97 → z126 = z124 - z98 → z127 = z111 * z4 → z128 = z125 * z4 → z129 = z127 + z128 → z130 = z129 + z97 → z131 = z112 * z4 → z132 = z126 * z4 → z133 = z131 + z132 → z134 = z133 + z98 → z135 = z79 * z130 → z136 = z80 * z134 → z137 = z135 + z136 → z138 = z137 + z81 → z139 = z85 + z138 → (¬ (z79 = 0 ∧ z80 = 0)) → (¬ (z79 = 0)) → z139 = 0 := by
 intro e4 e17 e82 e83 e84 e85 e86 e87 e88 e89 e90 e91 e92 e93 e94 e95 e96 e97 e98 e99 e100 e101 e102 e103 e104 e105 e106 e107 e108 e109 e110 e111 e112 e113 e114 e115 e116 e117 e118 e119 e120 e121 e122 e123 e124 e125 e126 e127 e128 e129 e130 e131 e132 e133 e134 e135 e136 e137 e138 e139 u0 u1
 have w91 : z91 ≠ 0 := by (have hp := sq_pos (x := z79) (y := z80) (by grind)); grind
 have n91 : z91 ≠ 0 := w91
 have h92 : z92 * z91 = z87 := by rw [e92]; exact Rat.div_mul_cancel n91
 obtain ⟨m92, hm92⟩ : ∃ m, m = z87 := ⟨_, rfl⟩
 have d92 : z92 * z91 = m92 := by
  have q : z92 * z91 = z92 * z91 := by grind
  rw [q, h92, hm92]
 clear h92 e92
 have h93 : z93 * z91 = z88 := by rw [e93]; exact Rat.div_mul_cancel n91
 obtain ⟨m93, hm93⟩ : ∃ m, m = z88 := ⟨_, rfl⟩
 have d93 : z93 * z91 = m93 := by
  have q : z93 * z91 = z93 * z91 := by grind
  rw [q, h93, hm93]
 clear h93 e93
 obtain ⟨m95, hm95⟩ : ∃ m, m = m92 * z94 := ⟨_, rfl⟩
 have d95 : z95 * z91 = m95 := by
  have q : z95 * z91 = (z92 * z91) * z94 := by rw [e95]; grind
  rw [q, d92, hm95]
 clear e95
 obtain ⟨m96, hm96⟩ : ∃ m, m = m93 * z94 := ⟨_, rfl⟩
 have d96 : z96 * z91 = m96 := by
  have q : z96 * z91 = (z93 * z91) * z94 := by rw [e96]; grind
  rw [q, d93, hm96]
 clear e96
 obtain ⟨m97, hm97⟩ : ∃ m, m = z4 * z91 + m95 * 1 := ⟨_, rfl⟩
 have d97 : z97 * z91 = m97 := by
  have q : z97 * z91 = z4 * z91 + (z95 * z91) * 1 := by rw [e97]; grind
  rw [q, d95, hm97]
 clear e97
 obtain ⟨m98, hm98⟩ : ∃ m, m = z4 * z91 + m96 * 1 := ⟨_, rfl⟩
 have d98 : z98 * z91 = m98 := by
  have q : z98 * z91 = z4 * z91 + (z96 * z91) * 1 := by rw [e98]; grind
  rw [q, d96, hm98]
 clear e98
 have h105 : z105 * z91 = z103 := by rw [e105]; exact Rat.div_mul_cancel n91
 obtain ⟨m105, hm105⟩ : ∃ m, m = z103 := ⟨_, rfl⟩
 have d105 : z105 * z91 = m105 := by
  have q : z105 * z91 = z105 * z91 := by grind
  rw [q, h105, hm105]
 clear h105 e105
 have h106 : z106 * z91 = z104 := by rw [e106]; exact Rat.div_mul_cancel n91
 obtain ⟨m106, hm106⟩ : ∃ m, m = z104 := ⟨_, rfl⟩
 have d106 : z106 * z91 = m106 := by
  have q : z106 * z91 = z106 * z91 := by grind
  rw [q, h106, hm106]
 clear h106 e106
 obtain ⟨m107, hm107⟩ : ∃ m, m = m105 * z94 := ⟨_, rfl⟩
 have d107 : z107 * z91 = m107 := by
  have q : z107 * z91 = (z105 * z91) * z94 := by rw [e107]; grind
  rw [q, d105, hm107]
 clear e107
 obtain ⟨m108, hm108⟩ : ∃ m, m = m106 * z94 := ⟨_, rfl⟩
 have d108 : z108 * z91 = m108 := by
  have q : z108 * z91 = (z106 * z91) * z94 := by rw [e108]; grind
  rw [q, d106, hm108]
 clear e108
 obtain ⟨m109, hm109⟩ : ∃ m, m = z17 * z91 + m107 * 1 := ⟨_, rfl⟩
 have d109 : z109 * z91 = m109 := by
  have q : z109 * z91 = z17 * z91 + (z107 * z91) * 1 := by rw [e109]; grind
  rw [q, d107, hm109]
 clear e109
 obtain ⟨m110, hm110⟩ : ∃ m, m = z4 * z91 + m108 * 1 := ⟨_, rfl⟩
 have d110 : z110 * z91 = m110 := by
  have q : z110 * z91 = z4 * z91 + (z108 * z91) * 1 := by rw [e110]; grind
  rw [q, d108, hm110]
 clear e110
 obtain ⟨m111, hm111⟩ : ∃ m, m = m109 * 1 - m97 * 1 := ⟨_, rfl⟩
 have d111 : z111 * z91 = m111 := by
  have q : z111 * z91 = (z109 * z91) * 1 - (z97 * z91) * 1 := by rw [e111]; grind
  rw [q, d109, d97, hm111]
 clear e111
 obtain ⟨m112, hm112⟩ : ∃ m, m = m110 * 1 - m98 * 1 := ⟨_, rfl⟩
 have d112 : z112 * z91 = m112 := by
  have q : z112 * z91 = (z110 * z91) * 1 - (z98 * z91) * 1 := by rw [e112]; grind
  rw [q, d110, d98, hm112]
 clear e112
 have h119 : z119 * z91 = z117 := by rw [e119]; exact Rat.div_mul_cancel n91
 obtain ⟨m119, hm119⟩ : ∃ m, m = z117 := ⟨_, rfl⟩
 have d119 : z119 * z91 = m119 := by
  have q : z119 * z91 = z119 * z91 := by grind
  rw [q, h119, hm119]
 clear h119 e119
 have h120 : z120 * z91 = z118 := by rw [e120]; exact Rat.div_mul_cancel n91
 obtain ⟨m120, hm120⟩ : ∃ m, m = z118 := ⟨_, rfl⟩
 have d120 : z120 * z91 = m120 := by
  have q : z120 * z91 = z120 * z91 := by grind
  rw [q, h120, hm120]
 clear h120 e120
 obtain ⟨m121, hm121⟩ : ∃ m, m = m119 * z94 := ⟨_, rfl⟩
 have d121 : z121 * z91 = m121 := by
  have q : z121 * z91 = (z119 * z91) * z94 := by rw [e121]; grind
  rw [q, d119, hm121]
 clear e121
 obtain ⟨m122, hm122⟩ : ∃ m, m = m120 * z94 := ⟨_, rfl⟩
 have d122 : z122 * z91 = m122 := by
  have q : z122 * z91 = (z120 * z91) * z94 := by rw [e122]; grind
  rw [q, d120, hm122]
 clear e122
 obtain ⟨m123, hm123⟩ : ∃ m, m = z4 * z91 + m121 * 1 := ⟨_, rfl⟩
 have d123 : z123 * z91 = m123 := by
  have q : z123 * z91 = z4 * z91 + (z121 * z91) * 1 := by rw [e123]; grind
  rw [q, d121, hm123]
 clear e123
 obtain ⟨m124, hm124⟩ : ∃ m, m = z17 * z91 + m122 * 1 := ⟨_, rfl⟩
 have d124 : z124 * z91 = m124 := by
  have q : z124 * z91 = z17 * z91 + (z122 * z91) * 1 := by rw [e124]; grind
  rw [q, d122, hm124]
 clear e124
 obtain ⟨m125, hm125⟩ : ∃ m, m = m123 * 1 - m97 * 1 := ⟨_, rfl⟩
 have d125 : z125 * z91 = m125 := by
  have q : z125 * z91 = (z123 * z91) * 1 - (z97 * z91) * 1 := by rw [e125]; grind
  rw [q, d123, d97, hm125]
 clear e125
 obtain ⟨m126, hm126⟩ : ∃ m, m = m124 * 1 - m98 * 1 := ⟨_, rfl⟩
 have d126 : z126 * z91 = m126 := by
  have q : z126 * z91 = (z124 * z91) * 1 - (z98 * z91) * 1 := by rw [e126]; grind
  rw [q, d124, d98, hm126]
 clear e126
 obtain ⟨m127, hm127⟩ : ∃ m, m = m111 * z4 := ⟨_, rfl⟩
 have d127 : z127 * z91 = m127 := by
  have q : z127 * z91 = (z111 * z91) * z4 := by rw [e127]; grind
  rw [q, d111, hm127]
 clear e127
 obtain ⟨m128, hm128⟩ : ∃ m, m = m125 * z4 := ⟨_, rfl⟩
 have d128 : z128 * z91 = m128 := by
  have q : z128 * z91 = (z125 * z91) * z4 := by rw [e128]; grind
  rw [q, d125, hm128]
 clear e128
 obtain ⟨m129, hm129⟩ : ∃ m, m = m127 * 1 + m128 * 1 := ⟨_, rfl⟩
 have d129 : z129 * z91 = m129 := by
  have q : z129 * z91 = (z127 * z91) * 1 + (z128 * z91) * 1 := by rw [e129]; grind
  rw [q, d127, d128, hm129]
 clear e129
 obtain ⟨m130, hm130⟩ : ∃ m, m = m129 * 1 + m97 * 1 := ⟨_, rfl⟩
 have d130 : z130 * z91 = m130 := by
  have q : z130 * z91 = (z129 * z91) * 1 + (z97 * z91) * 1 := by rw [e130]; grind
  rw [q, d129, d97, hm130]
 clear e130
 obtain ⟨m131, hm131⟩ : ∃ m, m = m112 * z4 := ⟨_, rfl⟩
 have d131 : z131 * z91 = m131 := by
  have q : z131 * z91 = (z112 * z91) * z4 := by rw [e131]; grind
  rw [q, d112, hm131]
 clear e131
 obtain ⟨m132, hm132⟩ : ∃ m, m = m126 * z4 := ⟨_, rfl⟩
 have d132 : z132 * z91 = m132 := by
  have q : z132 * z91 = (z126 * z91) * z4 := by rw [e132]; grind
  rw [q, d126, hm132]
 clear e132
 obtain ⟨m133, hm133⟩ : ∃ m, m = m131 * 1 + m132 * 1 := ⟨_, rfl⟩
 have d133 : z133 * z91 = m133 := by
  have q : z133 * z91 = (z131 * z91) * 1 + (z132 * z91) * 1 := by rw [e133]; grind
  rw [q, d131, d132, hm133]
 clear e133
 obtain ⟨m134, hm134⟩ : ∃ m, m = m133 * 1 + m98 * 1 := ⟨_, rfl⟩
 have d134 : z134 * z91 = m134 := by
  have q : z134 * z91 = (z133 * z91) * 1 + (z98 * z91) * 1 := by rw [e134]; grind
  rw [q, d133, d98, hm134]
 clear e134
 obtain ⟨m135, hm135⟩ : ∃ m, m = z79 * m130 := ⟨_, rfl⟩
 have d135 : z135 * z91 = m135 := by
  have q : z135 * z91 = z79 * (z130 * z91) := by rw [e135]; grind
  rw [q, d130, hm135]
 clear e135
 obtain ⟨m136, hm136⟩ : ∃ m, m = z80 * m134 := ⟨_, rfl⟩
 have d136 : z136 * z91 = m136 := by
  have q : z136 * z91 = z80 * (z134 * z91) := by rw [e136]; grind
  rw [q, d134, hm136]
 clear e136
 obtain ⟨m137, hm137⟩ : ∃ m, m = m135 * 1 + m136 * 1 := ⟨_, rfl⟩
 have d137 : z137 * z91 = m137 := by
  have q : z137 * z91 = (z135 * z91) * 1 + (z136 * z91) * 1 := by rw [e137]; grind
  rw [q, d135, d136, hm137]
 clear e137
 obtain ⟨m138, hm138⟩ : ∃ m, m = m137 * 1 + z81 * z91 := ⟨_, rfl⟩
 have d138 : z138 * z91 = m138 := by
  have q : z138 * z91 = (z137 * z91) * 1 + z81 * z91 := by rw [e138]; grind
  rw [q, d137, hm138]
 clear e138
 obtain ⟨m139, hm139⟩ : ∃ m, m = z85 * z91 + m138 * 1 := ⟨_, rfl⟩
 have d139 : z139 * z91 = m139 := by
  have q : z139 * z91 = z85 * z91 + (z138 * z91) * 1 := by rw [e139]; grind
  rw [q, d138, hm139]
 clear e139
 have hpoly : m139 = 0 := by
  clear d92 d93 d95 d96 d97 d98 d105 d106 d107 d108 d109 d110 d111 d112 d119 d120 d121 d122 d123 d124 d125 d126 d127 d128 d129 d130 d131 d132 d133 d134 d135 d136 d137 d138 d139
  subst_vars; grind
 have hgoal : z139 = 0 := (Rat.mul_eq_zero.1 (d139.trans hpoly)).resolve_right w91
 exact hgoal
theorem moveMirror_f16 {z4 z17 z79 z80 z81 z82 z83 z84 z85 z86 z87 z88 z89 z90 z91 z92 z93 z94 z95 z96 z97 z98 z99 z100 z101 z102 z103 z104 z105 z106 z107 z108 z109 z110 z111 z112 z113 z114 z115 z116 z117 z118 z119 z120 z121 z122 z123 z124 z125 z126 z127 z128 z129 z130 z131 z132 z133 z134 z140 z141 z142 z143 z144 : Rat} : z4 = 0 → z17 = 1 → z82 = z79 * z4 → z83 = z80 * z4 → z84 = z82 + z83 → z85 = z84 + z81 → z86 = -z85 → z87 = z79 * z86 → z88 = z80 * z86 → z89 = z79 * z79 → z90 = z80 * z80 → z91 = z89 + z90 → z92 = z87 / z91 → z93 = z88 / z91 → z94 = 2 → z95 = z92 * z94 → z96 = z93 * z94 → z97 = z4 + z95 → z98 = z4 + z96 → z99 = z79 * z17 → z100 = z99 + z83 → z101 = z100 + z81 → z102 = -z101 → z103 = z79 * z102 → z104 = z80 * z102 → z105 = z103 / z91 → z106 = z104 / z91 → z107 = z105 * z94 → z108 = z106 * z94 → z109 = z17 + z107 → z110 = z4 + z108 → z111 = z109 - z97 → z112 = z110 - z98 → z113 = z80 * z17 → z114 = z82 + z113 → z115 = z114 + z81 → z116 = -z115 → z117 = z79 * z116 → z118 = z80 * z116 → z119 = z117 / z91 → z120 = z118 / z91 → z121 = z119 * z94 → z122 = z120 * z94 → z123 = z4 + z121 → z124 = z17 + z122 → z125 = z123 - z97 → z126 = z124 - z98 → z127 = z111 * z4 → z128 = z125 * z4 → z129 = z127 + z128 → z130 = z129 + z97 → z131 = z112 * z4 → z132 = z126 * z4 → z133 = z131 + z132 → z134 = z133 + z98 → z140 = z130 - z4 → z141 = z134 - z4 → z142 = z140 * z80 → z143 = z141 * z79 → z144 = z142 - z143 → (¬ (z79 = 0 ∧ z80 = 0)) → (¬ (z79 = 0)) → z144 = 0 := by
 intro e4 e17 e82 e83 e84 e85 e86 e87 e88 e89 e90 e91 e92 e93 e94 e95 e96 e97 e98 e99 e100 e101 e102 e103 e104 e105 e106 e107 e108 e109 e110 e111 e112 e113 e114 e115 e116 e117 e118 e119 e120 e121 e122 e123 e124 e125 e126 e127 e128 e129 e130 e131 e132 e133 e134 e140 e141 e142 e143 e144 u0 u1
 have w91 : z91 ≠ 0 := by (have hp := sq_pos (x := z79) (y := z80) (by grind)); grind
 have n91 : z91 ≠ 0 := w91
 have h92 : z92 * z91 = z87 := by rw [e92]; exact Rat.div_mul_cancel n91
 obtain ⟨m92, hm92⟩ : ∃ m, m = z87 := ⟨_, rfl⟩
 have d92 : z92 * z91 = m92 := by
  have q : z92 * z91 = z92 * z91 := by grind
  rw [q, h92, hm92]
 clear h92 e92
 have h93 : z93 * z91 = z88 := by rw [e93]; exact Rat.div_mul_cancel n91
 obtain ⟨m93, hm93⟩ : ∃ m, m = z88 := ⟨_, rfl⟩
 have d93 : z93 * z91 = m93 := by
  have q : z93 * z91 = z93 * z91 := by grind
  rw [q, h93, hm93]
 clear h93 e93
 obtain ⟨m95, hm95⟩ : ∃ m, m = m92 * z94 := ⟨_, rfl⟩
 have d95 : z95 * z91 = m95 := by
  have q : z95 * z91 = (z92 * z91) * z94 := by rw [e95]; grind
  rw [q, d92, hm95]
 clear e95
 obtain ⟨m96, hm96⟩ : ∃ m, m = m93 * z94 := ⟨_, rfl⟩
 have d96 : z96 * z91 = m96 := by
  have q : z96 * z91 = (z93 * z91) * z94 := by rw [e96]; grind
  rw [q, d93, hm96]
 clear e96
 obtain ⟨m97, hm97⟩ : ∃ m, m = z4 * z91 + m95 * 1 := ⟨_, rfl⟩
 have d97 : z97 * z91 = m97 := by
  have q : z97 * z91 = z4 * z91 + (z95 * z91) * 1 := by rw [e97]; grind
  rw [q, d95, hm97]
 clear e97
 obtain ⟨m98, hm98⟩ : ∃ m, m = z4 * z91 + m96 * 1 := ⟨_, rfl⟩
 have d98 : z98 * z91 = m98 := by
  have q : z98 * z91 = z4 * z91 + (z96 * z91) * 1 := by rw [e98]; grind
  rw [q, d96, hm98]
 clear e98
 have h105 : z105 * z91 = z103 := by rw [e105]; exact Rat.div_mul_cancel n91
 obtain ⟨m105, hm105⟩ : ∃ m, m = z103 := ⟨_, rfl⟩
 have d105 : z105 * z91 = m105 := by
  have q : z105 * z91 = z105 * z91 := by grind
  rw [q, h105, hm105]
 clear h105 e105
 have h106 : z106 * z91 = z104 := by rw [e106]; exact Rat.div_mul_cancel n91
 obtain ⟨m106, hm106⟩ : ∃ m, m = z104 := ⟨_, rfl⟩
 have d106 : z106 * z91 = m106 := by
  have q : z106 * z91 = z106 * z91 := by grind
  rw [q, h106, hm106]
 clear h106 e106
 obtain ⟨m107, hm107⟩ : ∃ m, m = m105 * z94 := ⟨_, rfl⟩
 have d107 : z107 * z91 = m107 := by
  have q : z107 * z91 = (z105 * z91) * z94 := by rw [e107]; grind
  rw [q, d105, hm107]
 clear e107
 obtain ⟨m108, hm108⟩ : ∃ m, m = m106 * z94 := ⟨_, rfl⟩
 have d108 : z108 * z91 = m108 := by
  have q : z108 * z91 = (z106 * z91) * z94 := by rw [e108]; grind
  rw [q, d106, hm108]
 clear e108
 obtain ⟨m109, hm109⟩ : ∃ m, m = z17 * z91 + m107 * 1 := ⟨_, rfl⟩
 have d109 : z109 * z91 = m109 := by
  have q : z109 * z91 = z17 * z91 + (z107 * z91) * 1 := by rw [e109]; grind
  rw [q, d107, hm109]
 clear e109
 obtain ⟨m110, hm110⟩ : ∃ m, m = z4 * z91 + m108 * 1 := ⟨_, rfl⟩
 have d110 : z110 * z91 = m110 := by
  have q : z110 * z91 = z4 * z91 + (z108 * z91) * 1 := by rw [e110]; grind
  rw [q, d108, hm110]
 clear e110
 obtain ⟨m111, hm111⟩ : ∃ m, m = m109 * 1 - m97 * 1 := ⟨_, rfl⟩
 have d111 : z111 * z91 = m111 := by
  have q : z111 * z91 = (z109 * z91) * 1 - (z97 * z91) * 1 := by rw [e111]; grind
  rw [q, d109, d97, hm111]
 clear e111
 obtain ⟨m112, hm112⟩ : ∃ m, m = m110 * 1 - m98 * 1 := ⟨_, rfl⟩
 have d112 : z112 * z91 = m112 := by
  have q : z112 * z91 = (z110 * z91) * 1 - (z98 * z91) * 1 := by rw [e112]; grind
  rw [q, d110, d98, hm112]
 clear e112
 have h119 : z119 * z91 = z117 := by rw [e119]; exact Rat.div_mul_cancel n91
 obtain ⟨m119, hm119⟩ : ∃ m, m = z117 := ⟨_, rfl⟩
 have d119 : z119 * z91 = m119 := by
  have q : z119 * z91 = z119 * z91 := by grind
  rw [q, h119, hm119]
 clear h119 e119
 have h120 : z120 * z91 = z118 := by rw [e120]; exact Rat.div_mul_cancel n91
 obtain ⟨m120, hm120⟩ : ∃ m, m = z118 := ⟨_, rfl⟩
 have d120 : z120 * z91 = m120 := by
  have q : z120 * z91 = z120 * z91 := by grind
  rw [q, h120, hm120]
 clear h120 e120
 obtain ⟨m121, hm121⟩ : ∃ m, m = m119 * z94 := ⟨_, rfl⟩
 have d121 : z121 * z91 = m121 := by
  have q : z121 * z91 = (z119 * z91) * z94 := by rw [e121]; grind
  rw [q, d119, hm121]
 clear e121
 obtain ⟨m122, hm122⟩ : ∃ m, m = m120 * z94 := ⟨_, rfl⟩
 have d122 : z122 * z91 = m122 := by
  have q : z122 * z91 = (z120 * z91) * z94 := by rw [e122]; grind
  rw [q, d120, hm122]
 clear e122
 obtain ⟨m123, hm123⟩ : ∃ m, m = z4 * z91 + m121 * 1 := ⟨_, rfl⟩
 have d123 : z123 * z91 = m123 := by
  have q : z123 * z91 = z4 * z91 + (z121 * z91) * 1 := by rw [e123]; grind
  rw [q, d121, hm123]
 clear e123
 obtain ⟨m124, hm124⟩ : ∃ m, m = z17 * z91 + m122 * 1 := ⟨_, rfl⟩
 have d124 : z124 * z91 = m124 := by
  have q : z124 * z91 = z17 * z91 + (z122 * z91) * 1 := by rw [e124]; grind
  rw [q, d122, hm124]
 clear e124
 obtain ⟨m125, hm125⟩ : ∃ m, m = m123 * 1 - m97 * 1 := ⟨_, rfl⟩
 have d125 : z125 * z91 = m125 := by
  have q : z125 * z91 = (z123 * z91) * 1 - (z97 * z91) * 1 := by rw [e125]; grind
  rw [q, d123, d97, hm125]
 clear e125
 obtain ⟨m126, hm126⟩ : ∃ m, m = m124 * 1 - m98 * 1 := ⟨_, rfl⟩
 have d126 : z126 * z91 = m126 := by
  have q : z126 * z91 = (z124 * z91) * 1 - (z98 * z91) * 1 := by rw [e126]; grind
  rw [q, d124, d98, hm126]
 clear e126
 obtain ⟨m127, hm127⟩ : ∃ m, m = m111 * z4 := ⟨_, rfl⟩
 have d127 : z127 * z91 = m127 := by
  have q : z127 * z91 = (z111 * z91) * z4 := by rw [e127]; grind
  rw [q, d111, hm127]
 clear e127
 obtain ⟨m128, hm128⟩ : ∃ m, m = m125 * z4 := ⟨_, rfl⟩
 have d128 : z128 * z91 = m128 := by
  have q : z128 * z91 = (z125 * z91) * z4 := by rw [e128]; grind
  rw [q, d125, hm128]
 clear e128
 obtain ⟨m129, hm129⟩ : ∃ m, m = m127 * 1 + m128 * 1 := ⟨_, rfl⟩
 have d129 : z129 * z91 = m129 := by
  have q : z129 * z91 = (z127 * z91) * 1 + (z128 * z91) * 1 := by rw [e129]; grind
  rw [q, d127, d128, hm129]
 clear e129
 obtain ⟨m130, hm130⟩ : ∃ m, m = m129 * 1 + m97 * 1 := ⟨_, rfl⟩
 have d130 : z130 * z91 = m130 := by
  have q : z130 * z91 = (z129 * z91) * 1 + (z97 * z91) * 1 := by rw [e130]; grind
  rw [q, d129, d97, hm130]
 clear e130
 obtain ⟨m131, hm131⟩ : ∃ m, m = m112 * z4 := ⟨_, rfl⟩
 have d131 : z131 * z91 = m131 := by
  have q : z131 * z91 = (z112 * z91) * z4 := by rw [e131]; grind
  rw [q, d112, hm131]
 clear e131
 obtain ⟨m132, hm132⟩ : ∃ m, m = m126 * z4 := ⟨_, rfl⟩
 have d132 : z132 * z91 = m132 := by
  have q : z132 * z91 = (z126 * z91) * z4 := by rw [e132]; grind
  rw [q, d126, hm132]
 clear e132
 obtain ⟨m133, hm133⟩ : ∃ m, m = m131 * 1 + m132 * 1 := ⟨_, rfl⟩
 have d133 : z133 * z91 = m133 := by
  have q : z133 * z91 = (z131 * z91) * 1 + (z132 * z91) * 1 := by rw [e133]; grind
  rw [q, d131, d132, hm133]
 clear e133
 obtain ⟨m134, hm134⟩ : ∃ m, m = m133 * 1 + m98 * 1 := ⟨_, rfl⟩
 have d134 : z134 * z91 = m134 := by
  have q : z134 * z91 = (z133 * z91) * 1 + (z98 * z91) * 1 := by rw [e134]; grind
  rw [q, d133, d98, hm134]
 clear e134
 obtain ⟨m140, hm140⟩ : ∃ m, m = m130 * 1 - z4 * z91 := ⟨_, rfl⟩
 have d140 : z140 * z91 = m140 := by
  have q : z140 * z91 = (z130 * z91) * 1 - z4 * z91 := by rw [e140]; grind
  rw [q, d130, hm140]
 clear e140
 obtain ⟨m141, hm141⟩ : ∃ m, m = m134 * 1 - z4 * z91 := ⟨_, rfl⟩
 have d141 : z141 * z91 = m141 := by
  have q : z141 * z91 = (z134 * z91) * 1 - z4 * z91 := by rw [e141]; grind
  rw [q, d134, hm141]
 clear e141
 obtain ⟨m142, hm142⟩ : ∃ m, m = m140 * z80 := ⟨_, rfl⟩
 have d142 : z142 * z91 = m142 := by
  have q : z142 * z91 = (z140 * z91) * z80 := by rw [e142]; grind
  rw [q, d140, hm142]
 clear e142
 obtain ⟨m143, hm143⟩ : ∃ m, m = m141 * z79 := ⟨_, rfl⟩
 have d143 : z143 * z91 = m143 := by
  have q : z143 * z91 = (z141 * z91) * z79 := by rw [e143]; grind
  rw [q, d141, hm143]
 clear e143
 obtain ⟨m144, hm144⟩ : ∃ m, m = m142 * 1 - m143 * 1 := ⟨_, rfl⟩
 have d144 : z144 * z91 = m144 := by
  have q : z144 * z91 = (z142 * z91) * 1 - (z143 * z91) * 1 := by rw [e144]; grind
  rw [q, d142, d143, hm144]
 clear e144
 have hpoly : m144 = 0 := by
  clear d92 d93 d95 d96 d97 d98 d105 d106 d107 d108 d109 d110 d111 d112 d119 d120 d121 d122 d123 d124 d125 d126 d127 d128 d129 d130 d131 d132 d133 d134 d140 d141 d142 d143 d144
  subst_vars; grind
 have hgoal : z144 = 0 := (Rat.mul_eq_zero.1 (d144.trans hpoly)).resolve_right w91
 exact hgoal
theorem moveMirror_f17 {z4 z17 z79 z80 z81 z82 z83 z84 z85 z86 z87 z88 z89 z90 z91 z92 z93 z94 z95 z96 z97 z98 z99 z100 z101 z102 z103 z104 z105 z106 z107 z108 z109 z110 z111 z112 z113 z114 z115 z116 z117 z118 z119 z120 z121 z122 z123 z124 z125 z126 z128 z132 z145 z146 z147 z148 z149 z150 z151 z152 z153 z154 z155 : Rat} : z4 = 0 → z17 = 1 → z82 = z79 * z4 → z83 = z80 * z4 → z84 = z82 + z83 → z85 = z84 + z81 → z86 = -z85 → z87 = z79 * z86 → z88 = z80 * z86 → z89 = z79 * z79 → z90 = z80 * z80 → z91 = z89 + z90 → z92 = z87 / z91 → z93 = z88 / z91 → z94 = 2 → z95 = z92 * z94 → z96 = z93 * z94 → z97 = z4 + z95 → z98 = z4 + z96 → z99 = z79 * z17 → z100 = z99 + z83 → z101 = z100 + z81 → z102 = -z101 → z103 = z79 * z102 → z104 = z80 * z102 → z105 = z103 / z91 → z106 = z104 / z91 → z107 = z105 * z94 → z108 = z106 * z94 → z109 = z17 + z107 → z110 = z4 + z108 → z111 = z109 - z97 → z112 = z110 - z98 → z113 = z80 * z17 → z114 = z82 + z113 → z115 = z114 + z81 → z116 = -z115 → z117 = z79 * z116 → z118 = z80 * z116 → z119 = z117 / z91 → z120 = z118 / z91 → z121 = z119 * z94 → z122 = z120 * z94 → z123 = z4 + z121 → z124 = z17 + z122 → z125 = z123 - z97 → z126 = z124 - z98 → z128 = z125 * z4 → z132 = z126 * z4 → z145 = z111 * z17 → z146 = z145 + z128 → z147 = z146 + z97 → z148 = z112 * z17 → z149 = z148 + z132 → z150 = z149 + z98 → z151 = z79 * z147 → z152 = z80 * z150 → z153 = z151 + z152 → z154 = z153 + z81 → z155 = z101 + z154 → (¬ (z79 = 0 ∧ z80 = 0)) → (¬ (z79 = 0)) → z155 = 0 := by
 intro e4 e17 e82 e83 e84 e85 e86 e87 e88 e89 e90 e91 e92 e93 e94 e95 e96 e97 e98 e99 e100 e101 e102 e103 e104 e105 e106 e107 e108 e109 e110 e111 e112 e113 e114 e115 e116 e117 e118 e119 e120 e121 e122 e123 e124 e125 e126 e128 e132 e145 e146 e147 e148 e149 e150 e151 e152 e153 e154 e155 u0 u1
 have w91 : z91 ≠ 0 := by (have hp := sq_pos (x := z79) (y := z80) (by grind)); grind
 have n91 : z91 ≠ 0 := w91
 have h92 : z92 * z91 = z87 := by rw [e92]; exact Rat.div_mul_cancel n91
 obtain ⟨m92, hm92⟩ : ∃ m, m = z87 := ⟨_, rfl⟩
 have d92 : z92 * z91 = m92 := by
  have q : z92 * z91 = z92 * z91 := by grind
  rw [q, h92, hm92]
 clear h92 e92
 have h93 : z93 * z91 = z88 := by rw [e93]; exact Rat.div_mul_cancel n91
 obtain ⟨m93, hm93⟩ : ∃ m, m = z88 := ⟨_, rfl⟩
 have d93 : z93 * z91 = m93 := by
  have q : z93 * z91 = z93 * z91 := by grind
  rw [q, h93, hm93]
 clear h93 e93
 obtain ⟨m95, hm95⟩ : ∃ m, m = m92 * z94 := ⟨_, rfl⟩
 have d95 : z95 * z91 = m95 := by
  have q : z95 * z91 = (z92 * z91) * z94 := by rw [e95]; grind
  rw [q, d92, hm95]
 clear e95
 obtain ⟨m96, hm96⟩ : ∃ m, m = m93 * z94 := ⟨_, rfl⟩
 have d96 : z96 * z91 = m96 := by
  have q : z96 * z91 = (z93 * z91) * z94 := by rw [e96]; grind
  rw [q, d93, hm96]
 clear e96
 obtain ⟨m97, hm97⟩ : ∃ m, m = z4 * z91 + m95 * 1 := ⟨_, rfl⟩
 have d97 : z97 * z91 = m97 := by
  have q : z97 * z91 = z4 * z91 + (z95 * z91) * 1 := by rw [e97]; grind
  rw [q, d95, hm97]
 clear e97
 obtain ⟨m98, hm98⟩ : ∃ m, m = z4 * z91 + m96 * 1 := ⟨_, rfl⟩
 have d98 : z98 * z91 = m98 := by
  have q : z98 * z91 = z4 * z91 + (z96 * z91) * 1 := by rw [e98]; grind
  rw [q, d96, hm98]
 clear e98
 have h105 : z105 * z91 = z103 := by rw [e105]; exact Rat.div_mul_cancel n91
 obtain ⟨m105, hm105⟩ : ∃ m, m = z103 := ⟨_, rfl⟩
 have d105 : z105 * z91 = m105 := by
  have q : z105 * z91 = z105 * z91 := by grind
  rw [q, h105, hm105]
 clear h105 e105
 have h106 : z106 * z91 = z104 := by rw [e106]; exact Rat.div_mul_cancel n91
 obtain ⟨m106, hm106⟩ : ∃ m, m = z104 := ⟨_, rfl⟩
 have d106 : z106 * z91 = m106 := by
  have q : z106 * z91 = z106 * z91 := by grind
  rw [q, h106, hm106]
 clear h106 e106
 obtain ⟨m107, hm107⟩ : ∃ m, m = m105 * z94 := ⟨_, rfl⟩
 have d107 : z107 * z91 = m107 := by
  have q : z107 * z91 = (z105 * z91) * z94 := by rw [e107]; grind
  rw [q, d105, hm107]
 clear e107
 obtain ⟨m108, hm108⟩ : ∃ m, m = m106 * z94 := ⟨_, rfl⟩
 have d108 : z108 * z91 = m108 := by
  have q : z108 * z91 = (z106 * z91) * z94 := by rw [e108]; grind
  rw [q, d106, hm108]
 clear e108
 obtain ⟨m109, hm109⟩ : ∃ m, m = z17 * z91 + m107 * 1 := ⟨_, rfl⟩
 have d109 : z109 * z91 = m109 := by
  have q : z109 * z91 = z17 * z91 + (z107 * z91) * 1 := by rw [e109]; grind
  rw [q, d107, hm109]
 clear e109
 obtain ⟨m110, hm110⟩ : ∃ m, m = z4 * z91 + m108 * 1 := ⟨_, rfl⟩
 have d110 : z110 * z91 = m110 := by
  have q : z110 * z91 = z4 * z91 + (z108 * z91) * 1 := by rw [e110]; grind
  rw [q, d108, hm110]
 clear e110
 obtain ⟨m111, hm111⟩ : ∃ m, m = m109 * 1 - m97 * 1 := ⟨_, rfl⟩
 have d111 : z111 * z91 = m111 := by
  have q : z111 * z91 = (z109 * z91) * 1 - (z97 * z91) * 1 := by rw [e111]; grind
  rw [q, d109, d97, hm111]
 clear e111
 obtain ⟨m112, hm112⟩ : ∃ m, m = m110 * 1 - m98 * 1 := ⟨_, rfl⟩
 have d112 : z112 * z91 = m112 := by
  have q : z112 * z91 = (z110 * z91) * 1 - (z98 * z91) * 1 := by rw [e112]; grind
  rw [q, d110, d98, hm112]
 clear e112
 have h119 : z119 * z91 = z117 := by rw [e119]; exact Rat.div_mul_cancel n91
 obtain ⟨m119, hm119⟩ : ∃ m, m = z117 := ⟨_, rfl⟩
 have d119 : z119 * z91 = m119 := by
  have q : z119 * z91 = z119 * z91 := by grind
  rw [q, h119, hm119]
 clear h119 e119
 have h120 : z120 * z91 = z118 := by rw [e120]; exact Rat.div_mul_cancel n91
 obtain ⟨m120, hm120⟩ : ∃ m, m = z118 := ⟨_, rfl⟩
 have d120 : z120 * z91 = m120 := by
  have q : z120 * z91 = z120 * z91 := by grind
  rw [q, h120, hm120]
 clear h120 e120
 obtain ⟨m121, hm121⟩ : ∃ m, m = m119 * z94 := ⟨_, rfl⟩
 have d121 : z121 * z91 = m121 := by
  have q : z121 * z91 = (z119 * z91) * z94 := by rw [e121]; grind
  rw [q, d119, hm121]
 clear e121
 obtain ⟨m122, hm122⟩ : ∃ m, m = m120 * z94 := ⟨_, rfl⟩
 have d122 : z122 * z91 = m122 := by
  have q : z122 * z91 = (z120 * z91) * z94 := by rw [e122]; grind
  rw [q, d120, hm122]
 clear e122
 obtain ⟨m123, hm123⟩ : ∃ m, m = z4 * z91 + m121 * 1 := ⟨_, rfl⟩
 have d123 : z123 * z91 = m123 := by
  have q : z123 * z91 = z4 * z91 + (z121 * z91) * 1 := by rw [e123]; grind
  rw [q, d121, hm123]
 clear e123
 obtain ⟨m124, hm124⟩ : ∃ m, m = z17 * z91 + m122 * 1 := ⟨_, rfl⟩
 have d124 : z124 * z91 = m124 := by
  have q : z124 * z91 = z17 * z91 + (z122 * z91) * 1 := by rw [e124]; grind
  rw [q, d122, hm124]
 clear e124
 obtain ⟨m125, hm125⟩ : ∃ m, m = m123 * 1 - m97 * 1 := ⟨_, rfl⟩
 have d125 : z125 * z91 = m125 := by
  have q : z125 * z91 = (z123 * z91) * 1 - (z97 * z91) * 1 := by rw [e125]; grind
  rw [q, d123, d97, hm125]
 clear e125
 obtain ⟨m126, hm126⟩ : ∃ m, m = m124 * 1 - m98 * 1 := ⟨_, rfl⟩
 have d126 : z126 * z91 = m126 := by
  have q : z126 * z91 = (z124 * z91) * 1 - (z98 * z91) * 1 := by rw [e126]; grind
  rw [q, d124, d98, hm126]
 clear e126
 obtain ⟨m128, hm128⟩ : ∃ m, m = m125 * z4 := ⟨_, rfl⟩
 have d128 : z128 * z91 = m128 := by
  have q : z128 * z91 = (z125 * z91) * z4 := by rw [e128]; grind
  rw [q, d125, hm128]
 clear e128
 obtain ⟨m132, hm132⟩ : ∃ m, m = m126 * z4 := ⟨_, rfl⟩
 have d132 : z132 * z91 = m132 := by
  have q : z132 * z91 = (z126 * z91) * z4 := by rw [e132]; grind
  rw [q, d126, hm132]
 clear e132
 obtain ⟨m145, hm145⟩ : ∃ m, m = m111 * z17 := ⟨_, rfl⟩
 have d145 : z145 * z91 = m145 := by
  have q : z145 * z91 = (z111 * z91) * z17 := by rw [e145]; grind
  rw [q, d111, hm145]
 clear e145
 obtain ⟨m146, hm146⟩ : ∃ m, m = m145 * 1 + m128 * 1 := ⟨_, rfl⟩
 have d146 : z146 * z91 = m146 := by
  have q : z146 * z91 = (z145 * z91) * 1 + (z128 * z91) * 1 := by rw [e146]; grind
  rw [q, d145, d128, hm146]
 clear e146
 obtain ⟨m147, hm147⟩ : ∃ m, m = m146 * 1 + m97 * 1 := ⟨_, rfl⟩
 have d147 : z147 * z91 = m147 := by
  have q : z147 * z91 = (z146 * z91) * 1 + (z97 * z91) * 1 := by rw [e147]; grind
  rw [q, d146, d97, hm147]
 clear e147
 obtain ⟨m148, hm148⟩ : ∃ m, m = m112 * z17 := ⟨_, rfl⟩
 have d148 : z148 * z91 = m148 := by
  have q : z148 * z91 = (z112 * z91) * z17 := by rw [e148]; grind
  rw [q, d112, hm148]
 clear e148
 obtain ⟨m149, hm149⟩ : ∃ m, m = m148 * 1 + m132 * 1 := ⟨_, rfl⟩
 have d149 : z149 * z91 = m149 := by
  have q : z149 * z91 = (z148 * z91) * 1 + (z132 * z91) * 1 := by rw [e149]; grind
  rw [q, d148, d132, hm149]
 clear e149
 obtain ⟨m150, hm150⟩ : ∃ m, m = m149 * 1 + m98 * 1 := ⟨_, rfl⟩
 have d150 : z150 * z91 = m150 := by
  have q : z150 * z91 = (z149 * z91) * 1 + (z98 * z91) * 1 := by rw [e150]; grind
  rw [q, d149, d98, hm150]
 clear e150
 obtain ⟨m151, hm151⟩ : ∃ m, m = z79 * m147 := ⟨_, rfl⟩
 have d151 : z151 * z91 = m151 := by
  have q : z151 * z91 = z79 * (z147 * z91) := by rw [e151]; grind
  rw [q, d147, hm151]
 clear e151
 obtain ⟨m152, hm152⟩ : ∃ m, m = z80 * m150 := ⟨_, rfl⟩
 have d152 : z152 * z91 = m152 := by
  have q : z152 * z91 = z80 * (z150 * z91) := by rw [e152]; grind
  rw [q, d150, hm152]
 clear e152
 obtain ⟨m153, hm153⟩ : ∃ m, m = m151 * 1 + m152 * 1 := ⟨_, rfl⟩
 have d153 : z153 * z91 = m153 := by
  have q : z153 * z91 = (z151 * z91) * 1 + (z152 * z91) * 1 := by rw [e153]; grind
  rw [q, d151, d152, hm153]
 clear e153
 obtain ⟨m154, hm154⟩ : ∃ m, m = m153 * 1 + z81 * z91 := ⟨_, rfl⟩
 have d154 : z154 * z91 = m154 := by
  have q : z154 * z91 = (z153 * z91) * 1 + z81 * z91 := by rw [e154]; grind
  rw [q, d153, hm154]
 clear e154
 obtain ⟨m155, hm155⟩ : ∃ m, m = z101 * z91 + m154 * 1 := ⟨_, rfl⟩
 have d155 : z155 * z91 = m155 := by
  have q : z155 * z91 = z101 * z91 + (z154 * z91) * 1 := by rw [e155]; grind
  rw [q, d154, hm155]
 clear e155
 have hpoly : m155 = 0 := by
  clear d92 d93 d95 d96 d97 d98 d105 d106 d107 d108 d109 d110 d111 d112 d119 d120 d121 d122 d123 d124 d125 d126 d128 d132 d145 d146 d147 d148 d149 d150 d151 d152 d153 d154 d155
  subst_vars; grind
 have hgoal : z155 = 0 := (Rat.mul_eq_zero.1 (d155.trans hpoly)).resolve_right w91
 exact hgoal
theorem moveMirror_f18 {z4 z17 z79 z80 z81 z82 z83 z84 z85 z86 z87 z88 z89 z90 z91 z92 z93 z94 z95 z96 z97 z98 z99 z100 z101 z102 z103 z104 z105 z106 z107 z108 z109 z110 z111 z112 z113 z114 z115 z116 z117 z118 z119 z120 z121 z122 z123 z124 z125 z126 z128 z132 z145 z146 z147 z148 z149 z150 z156 z157 z158 z159 z160 : Rat} : z4 = 0 → z17 = 1 → z82 = z79 * z4 → z83 = z80 * z4 → z84 = z82 + z83 → z85 = z84 + z81 → z86 = -z85 → z87 = z79 * z86 → z88 = z80 * z86 → z89 = z79 * z79 → z90 = z80 * z80 → z91 = z89 + z90 → z92 = z87 / z91 → z93 = z88 / z91 → z94 = 2 → z95 = z92 * z94 → z96 = z93 * z94 → z97 = z4 + z95 → z98 = z4 + z96 → z99 = z79 * z17 → z100 = z99 + z83 → z101 = z100 + z81 → z102 = -z101 → z103 = z79 * z102 → z104 = z80 * z102 → z105 = z103 / z91 → z106 = z104 / z91 → z107 = z105 * z94 → z108 = z106 * z94 → z109 = z17 + z107 → z110 = z4 + z108 → z111 = z109 - z97 → z112 = z110 - z98 → z113 = z80 * z17 → z114 = z82 + z113 → z115 = z114 + z81 → z116 = -z115 → z117 = z79 * z116 → z118 = z80 * z116 → z119 = z117 / z91 → z120 = z118 / z91 → z121 = z119 * z94 → z122 = z120 * z94 → z123 = z4 + z121 → z124 = z17 + z122 → z125 = z123 - z97 → z126 = z124 - z98 → z128 = z125 * z4 → z132 = z126 * z4 → z145 = z111 * z17 → z146 = z145 + z128 → z147 = z146 + z97 → z148 = z112 * z17 → z149 = z148 + z132 → z150 = z149 + z98 → z156 = z147 - z17 → z157 = z150 - z4 → z158 = z156 * z80 → z159 = z157 * z79 → z160 = z158 - z159 → (¬ (z79 = 0 ∧ z80 = 0)) → (¬ (z79 = 0)) → z160 = 0 := by
 intro e4 e17 e82 e83 e84 e85 e86 e87 e88 e89 e90 e91 e92 e93 e94 e95 e96 e97 e98 e99 e100 e101 e102 e103 e104 e105 e106 e107 e108 e109 e110 e111 e112 e113 e114 e115 e116 e117 e118 e119 e120 e121 e122 e123 e124 e125 e126 e128 e132 e145 e146 e147 e148 e149 e150 e156 e157 e158 e159 e160 u0 u1
 have w91 : z91 ≠ 0 := by (have hp := sq_pos (x := z79) (y := z80) (by grind)); grind
 have n91 : z91 ≠ 0 := w91
 have h92 : z92 * z91 = z87 := by rw [e92]; exact Rat.div_mul_cancel n91
 obtain ⟨m92, hm92⟩ : ∃ m, m = z87 := ⟨_, rfl⟩
 have d92 : z92 * z91 = m92 := by
  have q : z92 * z91 = z92 * z91 := by grind
  rw [q, h92, hm92]
 clear h92 e92
 have h93 : z93 * z91 = z88 := by rw [e93]; exact Rat.div_mul_cancel n91
 obtain ⟨m93, hm93⟩ : ∃ m, m = z88 := ⟨_, rfl⟩
 have d93 : z93 * z91 = m93 := by
  have q : z93 * z91 = z93 * z91 := by grind
  rw [q, h93, hm93]
 clear h93 e93
 obtain ⟨m95, hm95⟩ : ∃ m, m = m92 * z94 := ⟨_, rfl⟩
 have d95 : z95 * z91 = m95 := by
  have q : z95 * z91 = (z92 * z91) * z94 := by rw [e95]; grind
  rw [q, d92, hm95]
 clear e95
 obtain ⟨m96, hm96⟩ : ∃ m, m = m93 * z94 := ⟨_, rfl⟩
 have d96 : z96 * z91 = m96 := by
  have q : z96 * z91 = (z93 * z91) * z94 := by rw [e96]; grind
  rw [q, d93, hm96]
 clear e96
 obtain ⟨m97, hm97⟩ : ∃ m, m = z4 * z91 + m95 * 1 := ⟨_, rfl⟩
 have d97 : z97 * z91 = m97 := by
  have q : z97 * z91 = z4 * z91 + (z95 * z91) * 1 := by rw [e97]; grind
  rw [q, d95, hm97]
 clear e97
 obtain ⟨m98, hm98⟩ : ∃ m, m = z4 * z91 + m96 * 1 := ⟨_, rfl⟩
 have d98 : z98 * z91 = m98 := by
  have q : z98 * z91 = z4 * z91 + (z96 * z91) * 1 := by rw [e98]; grind
  rw [q, d96, hm98]
 clear e98
 have h105 : z105 * z91 = z103 := by rw [e105]; exact Rat.div_mul_cancel n91
 obtain ⟨m105, hm105⟩ : ∃ m, m = z103 := ⟨_, rfl⟩
 have d105 : z105 * z91 = m105 := by
  have q : z105 * z91 = z105 * z91 := by grind
  rw [q, h105, hm105]
 clear h105 e105
 have h106 : z106 * z91 = z104 := by rw [e106]; exact Rat.div_mul_cancel n91
 obtain ⟨m106, hm106⟩ : ∃ m, m = z104 := ⟨_, rfl⟩
 have d106 : z106 * z91 = m106 := by
  have q : z106 * z91 = z106 * z91 := by grind
  rw [q, h106, hm106]
 clear h106 e106
 obtain ⟨m107, hm107⟩ : ∃ m, m = m105 * z94 := ⟨_, rfl⟩
 have d107 : z107 * z91 = m107 := by
  have q : z107 * z91 = (z105 * z91) * z94 := by rw [e107]; grind
  rw [q, d105, hm107]
 clear e107
 obtain ⟨m108, hm108⟩ : ∃ m, m = m106 * z94 := ⟨_, rfl⟩
 have d108 : z108 * z91 = m108 := by
  have q : z108 * z91 = (z106 * z91) * z94 := by rw [e108]; grind
  rw [q, d106, hm108]
 clear e108
 obtain ⟨m109, hm109⟩ : ∃ m, m = z17 * z91 + m107 * 1 := ⟨_, rfl⟩
 have d109 : z109 * z91 = m109 := by
  have q : z109 * z91 = z17 * z91 + (z107 * z91) * 1 := by rw [e109]; grind
  rw [q, d107, hm109]
 clear e109
 obtain ⟨m110, hm110⟩ : ∃ m, m = z4 * z91 + m108 * 1 := ⟨_, rfl⟩
 have d110 : z110 * z91 = m110 := by
  have q : z110 * z91 = z4 * z91 + (z108 * z91) * 1 := by rw [e110]; grind
  rw [q, d108, hm110]
 clear e110
 obtain ⟨m111, hm111⟩ : ∃ m, m = m109 * 1 - m97 * 1 := ⟨_, rfl⟩
 have d111 : z111 * z91 = m111 := by
  have q : z111 * z91 = (z109 * z91) * 1 - (z97 * z91) * 1 := by rw [e111]; grind
  rw [q, d109, d97, hm111]
 clear e111
 obtain ⟨m112, hm112⟩ : ∃ m, m = m110 * 1 - m98 * 1 := ⟨_, rfl⟩
 have d112 : z112 * z91 = m112 := by
  have q : z112 * z91 = (z110 * z91) * 1 - (z98 * z91) * 1 := by rw [e112]; grind
  rw [q, d110, d98, hm112]
 clear e112
 have h119 : z119 * z91 = z117 := by rw [e119]; exact Rat.div_mul_cancel n91
 obtain ⟨m119, hm119⟩ : ∃ m, m = z117 := ⟨_, rfl⟩
 have d119 : z119 * z91 = m119 := by
  have q : z119 * z91 = z119 * z91 := by grind
  rw [q, h119, hm119]
 clear h119 e119
 have h120 : z120 * z91 = z118 := by rw [e120]; exact Rat.div_mul_cancel n91
 obtain ⟨m120, hm120⟩ : ∃ m, m = z118 := ⟨_, rfl⟩
 have d120 : z120 * z91 = m120 := by
  have q : z120 * z91 = z120 * z91 := by grind
  rw [q, h120, hm120]
 clear h120 e120
 obtain ⟨m121, hm121⟩ : ∃ m, m = m119 * z94 := ⟨_, rfl⟩
 have d121 : z121 * z91 = m121 := by
  have q : z121 * z91 = (z119 * z91) * z94 := by rw [e121]; grind
  rw [q, d119, hm121]
 clear e121
 obtain ⟨m122, hm122⟩ : ∃ m, m = m120 * z94 := ⟨_, rfl⟩
 have d122 : z122 * z91 = m122 := by
  have q : z122 * z91 = (z120 * z91) * z94 := by rw [e122]; grind
  rw [q, d120, hm122]
 clear e122
 obtain ⟨m123, hm123⟩ : ∃ m, m = z4 * z91 + m121 * 1 := ⟨_, rfl⟩
 have d123 : z123 * z91 = m123 := by
  have q : z123 * z91 = z4 * z91 + (z121 * z91) * 1 := by rw [e123]; grind
  rw [q, d121, hm123]
 clear e123
 obtain ⟨m124, hm124⟩ : ∃ m, m = z17 * z91 + m122 * 1 := ⟨_, rfl⟩
 have d124 : z124 * z91 = m124 := by
  have q : z124 * z91 = z17 * z91 + (z122 * z91) * 1 := by rw [e124]; grind
  rw [q, d122, hm124]
 clear e124
 obtain ⟨m125, hm125⟩ : ∃ m, m = m123 * 1 - m97 * 1 := ⟨_, rfl⟩
 have d125 : z125 * z91 = m125 := by
  have q : z125 * z91 = (z123 * z91) * 1 - (z97 * z91) * 1 := by rw [e125]; grind
  rw [q, d123, d97, hm125]
 clear e125
 obtain ⟨m126, hm126⟩ : ∃ m, m = m124 * 1 - m98 * 1 := ⟨_, rfl⟩
 have d126 : z126 * z91 = m126 := by
  have q : z126 * z91 = (z124 * z91) * 1 - (z98 * z91) * 1 := by rw [e126]; grind
  rw [q, d124, d98, hm126]
 clear e126
 obtain ⟨m128, hm128⟩ : ∃ m, m = m125 * z4 := ⟨_, rfl⟩
 have d128 : z128 * z91 = m128 := by
  have q : z128 * z91 = (z125 * z91) * z4 := by rw [e128]; grind
  rw [q, d125, hm128]
 clear e128
 obtain ⟨m132, hm132⟩ : ∃ m, m = m126 * z4 := ⟨_, rfl⟩
 have d132 : z132 * z91 = m132 := by
  have q : z132 * z91 = (z126 * z91) * z4 := by rw [e132]; grind
  rw [q, d126, hm132]
 clear e132
 obtain ⟨m145, hm145⟩ : ∃ m, m = m111 * z17 := ⟨_, rfl⟩
 have d145 : z145 * z91 = m145 := by
  have q : z145 * z91 = (z111 * z91) * z17 := by rw [e145]; grind
  rw [q, d111, hm145]
 clear e145
 obtain ⟨m146, hm146⟩ : ∃ m, m = m145 * 1 + m128 * 1 := ⟨_, rfl⟩
 have d146 : z146 * z91 = m146 := by
  have q : z146 * z91 = (z145 * z91) * 1 + (z128 * z91) * 1 := by rw [e146]; grind
  rw [q, d145, d128, hm146]
 clear e146
 obtain ⟨m147, hm147⟩ : ∃ m, m = m146 * 1 + m97 * 1 := ⟨_, rfl⟩
 have d147 : z147 * z91 = m147 := by
  have q : z147 * z91 = (z146 * z91) * 1 + (z97 * z91) * 1 := by rw [e147]; grind
  rw [q, d146, d97, hm147]
 clear e147
 obtain ⟨m148, hm148⟩ : ∃ m, m = m112 * z17 := ⟨_, rfl⟩
 have d148 : z148 * z91 = m148 := by
  have q : z148 * z91 = (z112 * z91) * z17 := by rw [e148]; grind
  rw [q, d112, hm148]
 clear e148
 obtain ⟨m149, hm149⟩ : ∃ m, m = m148 * 1 + m132 * 1 := ⟨_, rfl⟩
 have d149 : z149 * z91 = m149 := by
  have q : z149 * z91 = (z148 * z91) * 1 + (z132 * z91) * 1 := by rw [e149]; grind
  rw [q, d148, d132, hm149]
 clear e149
 obtain ⟨m150, hm150⟩ : ∃ m, m = m149 * 1 + m98 * 1 := ⟨_, rfl⟩
 have d150 : z150 * z91 = m150 := by
  have q : z150 * z91 = (z149 * z91) * 1 + (z98 * z91) * 1 := by rw [e150]; grind
  rw [q, d149, d98, hm150]
 clear e150
 obtain ⟨m156, hm156⟩ : ∃ m, m = m147 * 1 - z17 * z91 := ⟨_, rfl⟩
 have d156 : z156 * z91 = m156 := by
  have q : z156 * z91 = (z147 * z91) * 1 - z17 * z91 := by rw [e156]; grind
  rw [q, d147, hm156]
 clear e156
 obtain ⟨m157, hm157⟩ : ∃ m, m = m150 * 1 - z4 * z91 := ⟨_, rfl⟩
 have d157 : z157 * z91 = m157 := by
  have q : z157 * z91 = (z150 * z91) * 1 - z4 * z91 := by rw [e157]; grind
  rw [q, d150, hm157]
 clear e157
 obtain ⟨m158, hm158⟩ : ∃ m, m = m156 * z80 := ⟨_, rfl⟩
 have d158 : z158 * z91 = m158 := by
  have q : z158 * z91 = (z156 * z91) * z80 := by rw [e158]; grind
  rw [q, d156, hm158]
 clear e158
 obtain ⟨m159, hm159⟩ : ∃ m, m = m157 * z79 := ⟨_, rfl⟩
 have d159 : z159 * z91 = m159 := by
  have q : z159 * z91 = (z157 * z91) * z79 := by rw [e159]; grind
  rw [q, d157, hm159]
 clear e159
 obtain ⟨m160, hm160⟩ : ∃ m, m = m158 * 1 - m159 * 1 := ⟨_, rfl⟩
 have d160 : z160 * z91 = m160 := by
  have q : z160 * z91 = (z158 * z91) * 1 - (z159 * z91) * 1 := by rw [e160]; grind
  rw [q, d158, d159, hm160]
 clear e160
 have hpoly : m160 = 0 := by
  clear d92 d93 d95 d96 d97 d98 d105 d106 d107 d108 d109 d110 d111 d112 d119 d120 d121 d122 d123 d124 d125 d126 d128 d132 d145 d146 d147 d148 d149 d150 d156 d157 d158 d159 d160
  subst_vars; grind
 have hgoal : z160 = 0 := (Rat.mul_eq_zero.1 (d160.trans hpoly)).resolve_right w91
 exact hgoal
theorem moveMirror_f19 {z4 z17 z79 z80 z81 z82 z83 z84 z85 z86 z87 z88 z89 z90 z91 z92 z93 z94 z95 z96 z97 z98 z99 z100 z101 z102 z103 z104 z105 z106 z107 z108 z109 z110 z111 z112 z113 z114 z115 z116 z117 z118 z119 z120 z121 z122 z123 z124 z125 z126 z127 z131 z161 z162 z163 z164 z165 z166 z167 z168 z169 z170 z171 : Rat} : z4 = 0 → z17 = 1 → z82 = z79 * z4 → z83 = z80 * z4 → z84 = z82 + z83 → z85 = z84 + z81 → z86 = -z85 → z87 = z79 * z86 → z88 = z80 * z86 → z89 = z79 * z79 → z90 = z80 * z80 → z91 = z89 + z90 → z92 = z87 / z91 → z93 = z88 / z91 → z94 = 2 → z95 = z92 * z94 → z96 = z93 * z94 → z97 = z4 + z95 → z98 = z4 + z96 → z99 = z79 * z17 → z100 = z99 + z83 → z101 = z100 + z81 → z102 = -z101 → z103 = z79 * z102 → z104 = z80 * z102 → z105 = z103 / z91 → z106 = z104 / z91 → z107 = z105 * z94 → z108 = z106 * z94 → z109 = z17 + z107 → z110 = z4 + z108 → z111 = z109 - z97 → z112 = z110 - z98 → z113 = z80 * z17 → z114 = z82 + z113 → z115 = z114 + z81 → z116 = -z115 → z117 = z79 * z116 → z118 = z80 * z116 → z119 = z117 / z91 → z120 = z118 / z91 → z121 = z119 * z94 → z122 = z120 * z94 → z123 = z4 + z121 → z124 = z17 + z122 → z125 = z123 - z97 → z126 = z124 - z98 → z127 = z111 * z4 → z131 = z112 * z4 → z161 = z125 * z17 → z162 = z127 + z161 → z163 = z162 + z97 → z164 = z126 * z17 → z165 = z131 + z164 → z166 = z165 + z98 → z167 = z79 * z163 → z168 = z80 * z166 → z169 = z167 + z168 → z170 = z169 + z81 → z171 = z115 + z170 → (¬ (z79 = 0 ∧ z80 = 0)) → (¬ (z79 = 0)) → z171 = 0 := by
 intro e4 e17 e82 e83 e84 e85 e86 e87 e88 e89 e90 e91 e92 e93 e94 e95 e96 e97 e98 e99 e100 e101 e102 e103 e104 e105 e106 e107 e108 e109 e110 e111 e112 e113 e114 e115 e116 e117 e118 e119 e120 e121 e122 e123 e124 e125 e126 e127 e131 e161 e162 e163 e164 e165 e166 e167 e168 e169 e170 e171 u0 u1
 have w91 : z91 ≠ 0 := by (have hp := sq_pos (x := z79) (y := z80) (by grind)); grind
 have n91 : z91 ≠ 0 := w91
 have h92 : z92 * z91 = z87 := by rw [e92]; exact Rat.div_mul_cancel n91
 obtain ⟨m92, hm92⟩ : ∃ m, m = z87 := ⟨_, rfl⟩
 have d92 : z92 * z91 = m92 := by
  have q : z92 * z91 = z92 * z91 := by grind
  rw [q, h92, hm92]
 clear h92 e92
 have h93 : z93 * z91 = z88 := by rw [e93]; exact Rat.div_mul_cancel n91
 obtain ⟨m93, hm93⟩ : ∃ m, m = z88 := ⟨_, rfl⟩
 have d93 : z93 * z91 = m93 := by
  have q : z93 * z91 = z93 * z91 := by grind
  rw [q, h93, hm93]
 clear h93 e93
 obtain ⟨m95, hm95⟩ : ∃ m, m = m92 * z94 := ⟨_, rfl⟩
 have d95 : z95 * z91 = m95 := by
  have q : z95 * z91 = (z92 * z91) * z94 := by rw [e95]; grind
  rw [q, d92, hm95]
 clear e95
 obtain ⟨m96, hm96⟩ : ∃ m, m = m93 * z94 := ⟨_, rfl⟩
 have d96 : z96 * z91 = m96 := by
  have q : z96 * z91 = (z93 * z91) * z94 := by rw [e96]; grind
  rw [q, d93, hm96]
 clear e96
 obtain ⟨m97, hm97⟩ : ∃ m, m = z4 * z91 + m95 * 1 := ⟨_, rfl⟩
 have d97 : z97 * z91 = m97 := by
  have q : z97 * z91 = z4 * z91 + (z95 * z91) * 1 := by rw [e97]; grind
  rw [q, d95, hm97]
 clear e97
 obtain ⟨m98, hm98⟩ : ∃ m, m = z4 * z91 + m96 * 1 := ⟨_, rfl⟩
 have d98 : z98 * z91 = m98 := by
  have q : z98 * z91 = z4 * z91 + (z96 * z91) * 1 := by rw [e98]; grind
  rw [q, d96, hm98]
 clear e98
 have h105 : z105 * z91 = z103 := by rw [e105]; exact Rat.div_mul_cancel n91
 obtain ⟨m105, hm105⟩ : ∃ m, m = z103 := ⟨_, rfl⟩
 have d105 : z105 * z91 = m105 := by
  have q : z105 * z91 = z105 * z91 := by grind
  rw [q, h105, hm105]
 clear h105 e105
 have h106 : z106 * z91 = z104 := by rw [e106]; exact Rat.div_mul_cancel n91
 obtain ⟨m106, hm106⟩ : ∃ m, m = z104 := ⟨_, rfl⟩
 have d106 : z106 * z91 = m106 := by
  have q : z106 * z91 = z106 * z91 := by grind
  rw [q, h106, hm106]
 clear h106 e106
 obtain ⟨m107, hm107⟩ : ∃ m, m = m105 * z94 := ⟨_, rfl⟩
 have d107 : z107 * z91 = m107 := by
  have q : z107 * z91 = (z105 * z91) * z94 := by rw [e107]; grind
  rw [q, d105, hm107]
 clear e107
 obtain ⟨m108, hm108⟩ : ∃ m, m = m106 * z94 := ⟨_, rfl⟩
 have d108 : z108 * z91 = m108 := by
  have q : z108 * z91 = (z106 * z91) * z94 := by rw [e108]; grind
  rw [q, d106, hm108]
 clear e108
 obtain ⟨m109, hm109⟩ : ∃ m, m = z17 * z91 + m107 * 1 := ⟨_, rfl⟩
 have d109 : z109 * z91 = m109 := by
  have q : z109 * z91 = z17 * z91 + (z107 * z91) * 1 := by rw [e109]; grind
  rw [q, d107, hm109]
 clear e109
 obtain ⟨m110, hm110⟩ : ∃ m, m = z4 * z91 + m108 * 1 := ⟨_, rfl⟩
 have d110 : z110 * z91 = m110 := by
  have q : z110 * z91 = z4 * z91 + (z108 * z91) * 1 := by rw [e110]; grind
  rw [q, d108, hm110]
 clear e110
 obtain ⟨m111, hm111⟩ : ∃ m, m = m109 * 1 - m97 * 1 := ⟨_, rfl⟩
 have d111 : z111 * z91 = m111 := by
  have q : z111 * z91 = (z109 * z91) * 1 - (z97 * z91) * 1 := by rw [e111]; grind
  rw [q, d109, d97, hm111]
 clear e111
 obtain ⟨m112, hm112⟩ : ∃ m, m = m110 * 1 - m98 * 1 := ⟨_, rfl⟩
 have d112 : z112 * z91 = m112 := by
  have q : z112 * z91 = (z110 * z91) * 1 - (z98 * z91) * 1 := by rw [e112]; grind
  rw [q, d110, d98, hm112]
 clear e112
 have h119 : z119 * z91 = z117 := by rw [e119]; exact Rat.div_mul_cancel n91
 obtain ⟨m119, hm119⟩ : ∃ m, m = z117 := ⟨_, rfl⟩
 have d119 : z119 * z91 = m119 := by
  have q : z119 * z91 = z119 * z91 := by grind
  rw [q, h119, hm119]
 clear h119 e119
 have h120 : z120 * z91 = z118 := by rw [e120]; exact Rat.div_mul_cancel n91
 obtain ⟨m120, hm120⟩ : ∃ m, m = z118 := ⟨_, rfl⟩
 have d120 : z120 * z91 = m120 := by
  have q : z120 * z91 = z120 * z91 := by grind
  rw [q, h120, hm120]
 clear h120 e120
 obtain ⟨m121, hm121⟩ : ∃ m, m = m119 * z94 := ⟨_, rfl⟩
 have d121 : z121 * z91 = m121 := by
  have q : z121 * z91 = (z119 * z91) * z94 := by rw [e121]; grind
  rw [q, d119, hm121]
 clear e121
 obtain ⟨m122, hm122⟩ : ∃ m, m = m120 * z94 := ⟨_, rfl⟩
 have d122 : z122 * z91 = m122 := by
  have q : z122 * z91 = (z120 * z91) * z94 := by rw [e122]; grind
  rw [q, d120, hm122]
 clear e122
 obtain ⟨m123, hm123⟩ : ∃ m, m = z4 * z91 + m121 * 1 := ⟨_, rfl⟩
 have d123 : z123 * z91 = m123 := by
  have q : z123 * z91 = z4 * z91 + (z121 * z91) * 1 := by rw [e123]; grind
  rw [q, d121, hm123]
 clear e123
 obtain ⟨m124, hm124⟩ : ∃ m, m = z17 * z91 + m122 * 1 := ⟨_, rfl⟩
 have d124 : z124 * z91 = m124 := by
  have q : z124 * z91 = z17 * z91 + (z122 * z91) * 1 := by rw [e124]; grind
  rw [q, d122, hm124]
 clear e124
 obtain ⟨m125, hm125⟩ : ∃ m, m = m123 * 1 - m97 * 1 := ⟨_, rfl⟩
 have d125 : z125 * z91 = m125 := by
  have q : z125 * z91 = (z123 * z91) * 1 - (z97 * z91) * 1 := by rw [e125]; grind
  rw [q, d123, d97, hm125]
 clear e125
 obtain ⟨m126, hm126⟩ : ∃ m, m = m124 * 1 - m98 * 1 := ⟨_, rfl⟩
 have d126 : z126 * z91 = m126 := by
  have q : z126 * z91 = (z124 * z91) * 1 - (z98 * z91) * 1 := by rw [e126]; grind
  rw [q, d124, d98, hm126]
 clear e126
 obtain ⟨m127, hm127⟩ : ∃ m, m = m111 * z4 := ⟨_, rfl⟩
 have d127 : z127 * z91 = m127 := by
  have q : z127 * z91 = (z111 * z91) * z4 := by rw [e127]; grind
  rw [q, d111, hm127]
 clear e127
 obtain ⟨m131, hm131⟩ : ∃ m, m = m112 * z4 := ⟨_, rfl⟩
 have d131 : z131 * z91 = m131 := by
  have q : z131 * z91 = (z112 * z91) * z4 := by rw [e131]; grind
  rw [q, d112, hm131]
 clear e131
 obtain ⟨m161, hm161⟩ : ∃ m, m = m125 * z17 := ⟨_, rfl⟩
 have d161 : z161 * z91 = m161 := by
  have q : z161 * z91 = (z125 * z91) * z17 := by rw [e161]; grind
  rw [q, d125, hm161]
 clear e161
 obtain ⟨m162, hm162⟩ : ∃ m, m = m127 * 1 + m161 * 1 := ⟨_, rfl⟩
 have d162 : z162 * z91 = m162 := by
  have q : z162 * z91 = (z127 * z91) * 1 + (z161 * z91) * 1 := by rw [e162]; grind
  rw [q, d127, d161, hm162]
 clear e162
 obtain ⟨m163, hm163⟩ : ∃ m, m = m162 * 1 + m97 * 1 := ⟨_, rfl⟩
 have d163 : z163 * z91 = m163 := by
  have q : z163 * z91 = (z162 * z91) * 1 + (z97 * z91) * 1 := by rw [e163]; grind
  rw [q, d162, d97, hm163]
 clear e163
 obtain ⟨m164, hm164⟩ : ∃ m, m = m126 * z17 := ⟨_, rfl⟩
 have d164 : z164 * z91 = m164 := by
  have q : z164 * z91 = (z126 * z91) * z17 := by rw [e164]; grind
  rw [q, d126, hm164]
 clear e164
 obtain ⟨m165, hm165⟩ : ∃ m, m = m131 * 1 + m164 * 1 := ⟨_, rfl⟩
 have d165 : z165 * z91 = m165 := by
  have q : z165 * z91 = (z131 * z91) * 1 + (z164 * z91) * 1 := by rw [e165]; grind
  rw [q, d131, d164, hm165]
 clear e165
 obtain ⟨m166, hm166⟩ : ∃ m, m = m165 * 1 + m98 * 1 := ⟨_, rfl⟩
 have d166 : z166 * z91 = m166 := by
  have q : z166 * z91 = (z165 * z91) * 1 + (z98 * z91) * 1 := by rw [e166]; grind
  rw [q, d165, d98, hm166]
 clear e166
 obtain ⟨m167, hm167⟩ : ∃ m, m = z79 * m163 := ⟨_, rfl⟩
 have d167 : z167 * z91 = m167 := by
  have q : z167 * z91 = z79 * (z163 * z91) := by rw [e167]; grind
  rw [q, d163, hm167]
 clear e167
 obtain ⟨m168, hm168⟩ : ∃ m, m = z80 * m166 := ⟨_, rfl⟩
 have d168 : z168 * z91 = m168 := by
  have q : z168 * z91 = z80 * (z166 * z91) := by rw [e168]; grind
  rw [q, d166, hm168]
 clear e168
 obtain ⟨m169, hm169⟩ : ∃ m, m = m167 * 1 + m168 * 1 := ⟨_, rfl⟩
 have d169 : z169 * z91 = m169 := by
  have q : z169 * z91 = (z167 * z91) * 1 + (z168 * z91) * 1 := by rw [e169]; grind
  rw [q, d167, d168, hm169]
 clear e169
 obtain ⟨m170, hm170⟩ : ∃ m, m = m169 * 1 + z81 * z91 := ⟨_, rfl⟩
 have d170 : z170 * z91 = m170 := by
  have q : z170 * z91 = (z169 * z91) * 1 + z81 * z91 := by rw [e170]; grind
  rw [q, d169, hm170]
 clear e170
 obtain ⟨m171, hm171⟩ : ∃ m, m = z115 * z91 + m170 * 1 := ⟨_, rfl⟩
 have d171 : z171 * z91 = m171 := by
  have q : z171 * z91 = z115 * z91 + (z170 * z91) * 1 := by rw [e171]; grind
  rw [q, d170, hm171]
 clear e171
 have hpoly : m171 = 0 := by
  clear d92 d93 d95 d96 d97 d98 d105 d106 d107 d108 d109 d110 d111 d112 d119 d120 d121 d122 d123 d124 d125 d126 d127 d131 d161 d162 d163 d164 d165 d166 d167 d168 d169 d170 d171
  subst_vars; grind
 have hgoal : z171 = 0 := (Rat.mul_eq_zero.1 (d171.trans hpoly)).resolve_right w91
 exact hgoal
theorem moveMirror_f20 {z4 z17 z79 z80 z81 z82 z83 z84 z85 z86 z87 z88 z89 z90 z91 z92 z93 z94 z95 z96 z97 z98 z99 z100 z101 z102 z103 z104 z105 z106 z107 z108 z109 z110 z111 z112 z113 z114 z115 z116 z117 z118 z119 z120 z121 z122 z123 z124 z125 z126 z127 z131 z161 z162 z163 z164 z165 z166 z172 z173 z174 z175 z176 : Rat} : z4 = 0 → z17 = 1 → z82 = z79 * z4 → z83 = z80 * z4 → z84 = z82 + z83 → z85 = z84 + z81 → z86 = -z85 → z87 = z79 * z86 → z88 = z80 * z86 → z89 = z79 * z79 → z90 = z80 * z80 → z91 = z89 + z90 → z92 = z87 / z91 → z93 = z88 / z91 → z94 = 2 → z95 = z92 * z94 → z96 = z93 * z94 → z97 = z4 + z95 → z98 = z4 + z96 → z99 = z79 * z17 → z100 = z99 + z83 → z101 = z100 + z81 → z102 = -z101 → z103 = z79 * z102 → z104 = z80 * z102 → z105 = z103 / z91 → z106 = z104 / z91 → z107 = z105 * z94 → z108 = z106 * z94 → z109 = z17 + z107 → z110 = z4 + z108 → z111 = z109 - z97 → z112 = z110 - z98 → z113 = z80 * z17 → z114 = z82 + z113 → z115 = z114 + z81 → z116 = -z115 → z117 = z79 * z116 → z118 = z80 * z116 → z119 = z117 / z91 → z120 = z118 / z91 → z121 = z119 * z94 → z122 = z120 * z94 → z123 = z4 + z121 → z124 = z17 + z122 → z125 = z123 - z97 → z126 = z124 - z98 → z127 = z111 * z4 → z131 = z112 * z4 → z161 = z125 * z17 → z162 = z127 + z161 → z163 = z162 + z97 → z164 = z126 * z17 → z165 = z131 + z164 → z166 = z165 + z98 → z172 = z163 - z4 → z173 = z166 - z17 → z174 = z172 * z80 → z175 = z173 * z79 → z176 = z174 - z175 → (¬ (z79 = 0 ∧ z80 = 0)) → (¬ (z79 = 0)) → z176 = 0 := by
 intro e4 e17 e82 e83 e84 e85 e86 e87 e88 e89 e90 e91 e92 e93 e94 e95 e96 e97 e98 e99 e100 e101 e102 e103 e104 e105 e106 e107 e108 e109 e110 e111 e112 e113 e114 e115 e116 e117 e118 e119 e120 e121 e122 e123 e124 e125 e126 e127 e131 e161 e162 e163 e164 e165 e166 e172 e173 e174 e175 e176 u0 u1
 have w91 : z91 ≠ 0 := by (have hp := sq_pos (x := z79) (y := z80) (by grind)); grind
 have n91 : z91 ≠ 0 := w91
 have h92 : z92 * z91 = z87 := by rw [e92]; exact Rat.div_mul_cancel n91
 obtain ⟨m92, hm92⟩ : ∃ m, m = z87 := ⟨_, rfl⟩
 have d92 : z92 * z91 = m92 := by
  have q : z92 * z91 = z92 * z91 := by grind
  rw [q, h92, hm92]
 clear h92 e92
 have h93 : z93 * z91 = z88 := by rw [e93]; exact Rat.div_mul_cancel n91
 obtain ⟨m93, hm93⟩ : ∃ m, m = z88 := ⟨_, rfl⟩
 have d93 : z93 * z91 = m93 := by
  have q : z93 * z91 = z93 * z91 := by grind
  rw [q, h93, hm93]
 clear h93 e93
 obtain ⟨m95, hm95⟩ : ∃ m, m = m92 * z94 := ⟨_, rfl⟩
 have d95 : z95 * z91 = m95 := by
  have q : z95 * z91 = (z92 * z91) * z94 := by rw [e95]; grind
  rw [q, d92, hm95]
 clear e95
 obtain ⟨m96, hm96⟩ : ∃ m, m = m93 * z94 := ⟨_, rfl⟩
 have d96 : z96 * z91 = m96 := by
  have q : z96 * z91 = (z93 * z91) * z94 := by rw [e96]; grind
  rw [q, d93, hm96]
 clear e96
 obtain ⟨m97, hm97⟩ : ∃ m, m = z4 * z91 + m95 * 1 := ⟨_, rfl⟩
 have d97 : z97 * z91 = m97 := by
  have q : z97 * z91 = z4 * z91 + (z95 * z91) * 1 := by rw [e97]; grind
  rw [q, d95, hm97]
 clear e97
 obtain ⟨m98, hm98⟩ : ∃ m, m = z4 * z91 + m96 * 1 := ⟨_, rfl⟩
 have d98 : z98 * z91 = m98 := by
  have q : z98 * z91 = z4 * z91 + (z96 * z91) * 1 := by rw [e98]; grind
  rw [q, d96, hm98]
 clear e98
 have h105 : z105 * z91 = z103 := by rw [e105]; exact Rat.div_mul_cancel n91
 obtain ⟨m105, hm105⟩ : ∃ m, m = z103 := ⟨_, rfl⟩
 have d105 : z105 * z91 = m105 := by
  have q : z105 * z91 = z105 * z91 := by grind
  rw [q, h105, hm105]
 clear h105 e105
 have h106 : z106 * z91 = z104 := by rw [e106]; exact Rat.div_mul_cancel n91
 obtain ⟨m106, hm106⟩ : ∃ m, m = z104 := ⟨_, rfl⟩
 have d106 : z106 * z91 = m106 := by
  have q : z106 * z91 = z106 * z91 := by grind
  rw [q, h106, hm106]
 clear h106 e106
 obtain ⟨m107, hm107⟩ : ∃ m, m = m105 * z94 := ⟨_, rfl⟩
 have d107 : z107 * z91 = m107 := by
  have q : z107 * z91 = (z105 * z91) * z94 := by rw [e107]; grind
  rw [q, d105, hm107]
 clear e107
 obtain ⟨m108, hm108⟩ : ∃ m, m = m106 * z94 := ⟨_, rfl⟩
 have d108 : z108 * z91 = m108 := by
  have q : z108 * z91 = (z106 * z91) * z94 := by rw [e108]; grind
  rw [q, d106, hm108]
 clear e108
 obtain ⟨m109, hm109⟩ : ∃ m, m = z17 * z91 + m107 * 1 := ⟨_, rfl⟩
 have d109 : z109 * z91 = m109 := by
  have q : z109 * z91 = z17 * z91 + (z107 * z91) * 1 := by rw [e109]; grind
  rw [q, d107, hm109]
 clear e109
 obtain ⟨m110, hm110⟩ : ∃ m, m = z4 * z91 + m108 * 1 := ⟨_, rfl⟩
 have d110 : z110 * z91 = m110 := by
  have q : z110 * z91 = z4 * z91 + (z108 * z91) * 1 := by rw [e110]; grind
  rw [q, d108, hm110]
 clear e110
 obtain ⟨m111, hm111⟩ : ∃ m, m = m109 * 1 - m97 * 1 := ⟨_, rfl⟩
 have d111 : z111 * z91 = m111 := by
  have q : z111 * z91 = (z109 * z91) * 1 - (z97 * z91) * 1 := by rw [e111]; grind
  rw [q, d109, d97, hm111]
 clear e111
 obtain ⟨m112, hm112⟩ : ∃ m, m = m110 * 1 - m98 * 1 := ⟨_, rfl⟩
 have d112 : z112 * z91 = m112 := by
  have q : z112 * z91 = (z110 * z91) * 1 - (z98 * z91) * 1 := by rw [e112]; grind
  rw [q, d110, d98, hm112]
 clear e112
 have h119 : z119 * z91 = z117 := by rw [e119]; exact Rat.div_mul_cancel n91
 obtain ⟨m119, hm119⟩ : ∃ m, m = z117 := ⟨_, rfl⟩
 have d119 : z119 * z91 = m119 := by
  have q : z119 * z91 = z119 * z91 := by grind
  rw [q, h119, hm119]
 clear h119 e119
 have h120 : z120 * z91 = z118 := by rw [e120]; exact Rat.div_mul_cancel n91
 obtain ⟨m120, hm120⟩ : ∃ m, m = z118 := ⟨_, rfl⟩
 have d120 : z120 * z91 = m120 := by
  have q : z120 * z91 = z120 * z91 := by grind
  rw [q, h120, hm120]
 clear h120 e120
 obtain ⟨m121, hm121⟩ : ∃ m, m = m119 * z94 := ⟨_, rfl⟩
 have d121 : z121 * z91 = m121 := by
  have q : z121 * z91 = (z119 * z91) * z94 := by rw [e121]; grind
  rw [q, d119, hm121]
 clear e121
 obtain ⟨m122, hm122⟩ : ∃ m, m = m120 * z94 := ⟨_, rfl⟩
 have d122 : z122 * z91 = m122 := by
  have q : z122 * z91 = (z120 * z91) * z94 := by rw [e122]; grind
  rw [q, d120, hm122]
 clear e122
 obtain ⟨m123, hm123⟩ : ∃ m, m = z4 * z91 + m121 * 1 := ⟨_, rfl⟩
 have d123 : z123 * z91 = m123 := by
  have q : z123 * z91 = z4 * z91 + (z121 * z91) * 1 := by rw [e123]; grind
  rw [q, d121, hm123]
 clear e123
 obtain ⟨m124, hm124⟩ : ∃ m, m = z17 * z91 + m122 * 1 := ⟨_, rfl⟩
 have d124 : z124 * z91 = m124 := by
  have q : z124 * z91 = z17 * z91 + (z122 * z91) * 1 := by rw [e124]; grind
  rw [q, d122, hm124]
 clear e124
 obtain ⟨m125, hm125⟩ : ∃ m, m = m123 * 1 - m97 * 1 := ⟨_, rfl⟩
 have d125 : z125 * z91 = m125 := by
  have q : z125 * z91 = (z123 * z91) * 1 - (z97 * z91) * 1 := by rw [e125]; grind
  rw [q, d123, d97, hm125]
 clear e125
 obtain ⟨m126, hm126⟩ : ∃ m, m = m124 * 1 - m98 * 1 := ⟨_, rfl⟩
 have d126 : z126 * z91 = m126 := by
  have q : z126 * z91 = (z124 * z91) * 1 - (z98 * z91) * 1 := by rw [e126]; grind
  rw [q, d124, d98, hm126]
 clear e126
 obtain ⟨m127, hm127⟩ : ∃ m, m = m111 * z4 := ⟨_, rfl⟩
 have d127 : z127 * z91 = m127 := by
  have q : z127 * z91 = (z111 * z91) * z4 := by rw [e127]; grind
  rw [q, d111, hm127]
 clear e127
 obtain ⟨m131, hm131⟩ : ∃ m, m = m112 * z4 := ⟨_, rfl⟩
 have d131 : z131 * z91 = m131 := by
  have q : z131 * z91 = (z112 * z91) * z4 := by rw [e131]; grind
  rw [q, d112, hm131]
 clear e131
 obtain ⟨m161, hm161⟩ : ∃ m, m = m125 * z17 := ⟨_, rfl⟩
 have d161 : z161 * z91 = m161 := by
  have q : z161 * z91 = (z125 * z91) * z17 := by rw [e161]; grind
  rw [q, d125, hm161]
 clear e161
 obtain ⟨m162, hm162⟩ : ∃ m, m = m127 * 1 + m161 * 1 := ⟨_, rfl⟩
 have d162 : z162 * z91 = m162 := by
  have q : z162 * z91 = (z127 * z91) * 1 + (z161 * z91) * 1 := by rw [e162]; grind
  rw [q, d127, d161, hm162]
 clear e162
 obtain ⟨m163, hm163⟩ : ∃ m, m = m162 * 1 + m97 * 1 := ⟨_, rfl⟩
 have d163 : z163 * z91 = m163 := by
  have q : z163 * z91 = (z162 * z91) * 1 + (z97 * z91) * 1 := by rw [e163]; grind
  rw [q, d162, d97, hm163]
 clear e163
 obtain ⟨m164, hm164⟩ : ∃ m, m = m126 * z17 := ⟨_, rfl⟩
 have d164 : z164 * z91 = m164 := by
  have q : z164 * z91 = (z126 * z91) * z17 := by rw [e164]; grind
  rw [q, d126, hm164]
 clear e164
 obtain ⟨m165, hm165⟩ : ∃ m, m = m131 * 1 + m164 * 1 := ⟨_, rfl⟩
 have d165 : z165 * z91 = m165 := by
  have q : z165 * z91 = (z131 * z91) * 1 + (z164 * z91) * 1 := by rw [e165]; grind
  rw [q, d131, d164, hm165]
 clear e165
 obtain ⟨m166, hm166⟩ : ∃ m, m = m165 * 1 + m98 * 1 := ⟨_, rfl⟩
 have d166 : z166 * z91 = m166 := by
  have q : z166 * z91 = (z165 * z91) * 1 + (z98 * z91) * 1 := by rw [e166]; grind
  rw [q, d165, d98, hm166]
 clear e166
 obtain ⟨m172, hm172⟩ : ∃ m, m = m163 * 1 - z4 * z91 := ⟨_, rfl⟩
 have d172 : z172 * z91 = m172 := by
  have q : z172 * z91 = (z163 * z91) * 1 - z4 * z91 := by rw [e172]; grind
  rw [q, d163, hm172]
 clear e172
 obtain ⟨m173, hm173⟩ : ∃ m, m = m166 * 1 - z17 * z91 := ⟨_, rfl⟩
 have d173 : z173 * z91 = m173 := by
  have q : z173 * z91 = (z166 * z91) * 1 - z17 * z91 := by rw [e173]; grind
  rw [q, d166, hm173]
 clear e173
 obtain ⟨m174, hm174⟩ : ∃ m, m = m172 * z80 := ⟨_, rfl⟩
 have d174 : z174 * z91 = m174 := by
  have q : z174 * z91 = (z172 * z91) * z80 := by rw [e174]; grind
  rw [q, d172, hm174]
 clear e174
 obtain ⟨m175, hm175⟩ : ∃ m, m = m173 * z79 := ⟨_, rfl⟩
 have d175 : z175 * z91 = m175 := by
  have q : z175 * z91 = (z173 * z91) * z79 := by rw [e175]; grind
  rw [q, d173, hm175]
 clear e175
 obtain ⟨m176, hm176⟩ : ∃ m, m = m174 * 1 - m175 * 1 := ⟨_, rfl⟩
 have d176 : z176 * z91 = m176 := by
  have q : z176 * z91 = (z174 * z91) * 1 - (z175 * z91) * 1 := by rw [e176]; grind
  rw [q, d174, d175, hm176]
 clear e176
 have hpoly : m176 = 0 := by
  clear d92 d93 d95 d96 d97 d98 d105 d106 d107 d108 d109 d110 d111 d112 d119 d120 d121 d122 d123 d124 d125 d126 d127 d131 d161 d162 d163 d164 d165 d166 d172 d173 d174 d175 d176
  subst_vars; grind
 have hgoal : z176 = 0 := (Rat.mul_eq_zero.1 (d176.trans hpoly)).resolve_right w91
 exact hgoal
theorem moveMirror_r0 : (callB (sx Tryz.prog moveMirror_N [(6, 51, 52, 1), (6, 63, 64, 1), (6, 77, 78, 1), (6, 79, 80, 1), (0, 79, 0, 1), (0, 80, 0, 1)] [(216, [.inr (3, 10, 0, 0, 0), .inr (3, 11, 0, 0, 0)])] moveMirror_L moveMirror_C moveMirror_Z (prQ [50])) 8 12 [(false, [(true, [.inr (2, 0, 0, 0, 0), .inr (2, 1, 0, 0, 0), .inr (2, 2, 0, 0, 0)])]), (false, [(true, [.inr (2, 3, 0, 0, 0), .inr (2, 4, 0, 0, 0)])]), (false, [(true, [.inr (2, 5, 0, 0, 0), .inr (2, 6, 0, 0, 0)])])] [] 0).map (·.1) = some (kB true) := by kernel_rfl
theorem moveMirror_r1 : (callB (sx Tryz.prog moveMirror_N [(6, 51, 52, 1), (6, 63, 64, 1), (6, 77, 78, 1), (6, 79, 80, 0), (0, 79, 0, 1), (0, 80, 0, 0), (0, 139, 0, 1), (0, 144, 0, 1), (0, 155, 0, 1), (0, 160, 0, 1), (0, 171, 0, 1), (0, 176, 0, 1)] [(216, [.inr (3, 10, 0, 0, 0), .inr (3, 11, 0, 0, 0)]), (218, [.inr (3, 240, 0, 0, 0)])] moveMirror_L moveMirror_C moveMirror_Z (prQ [50])) 8 12 [(false, [(true, [.inr (2, 0, 0, 0, 0), .inr (2, 1, 0, 0, 0), .inr (2, 2, 0, 0, 0)])]), (false, [(true, [.inr (2, 3, 0, 0, 0), .inr (2, 4, 0, 0, 0)])]), (false, [(true, [.inr (2, 5, 0, 0, 0), .inr (2, 6, 0, 0, 0)])])] [] 0).map (·.1) = some (kB true) := by kernel_rfl
theorem moveMirror_r2 : (callB (sx Tryz.prog moveMirror_N [(6, 51, 52, 1), (6, 63, 64, 1), (6, 77, 78, 1), (6, 79, 80, 0), (0, 79, 0, 0), (0, 139, 0, 1), (0, 144, 0, 1), (0, 155, 0, 1), (0, 160, 0, 1), (0, 171, 0, 1), (0, 176, 0, 1)] [(216, [.inr (3, 10, 0, 0, 0), .inr (3, 11, 0, 0, 0)]), (218, [.inr (3, 240, 0, 0, 0)])] moveMirror_L moveMirror_C moveMirror_Z (prQ [50])) 8 12 [(false, [(true, [.inr (2, 0, 0, 0, 0), .inr (2, 1, 0, 0, 0), .inr (2, 2, 0, 0, 0)])]), (false, [(true, [.inr (2, 3, 0, 0, 0), .inr (2, 4, 0, 0, 0)])]), (false, [(true, [.inr (2, 5, 0, 0, 0), .inr (2, 6, 0, 0, 0)])])] [] 0).map (·.1) = some (kB true) := by kernel_rfl
theorem moveMirror_An {a b : Prop} (x : a) (y : b) : a ∧ b := ⟨x, y⟩
theorem moveMirror_leaf {H : List (Nat × Nat × Nat × Nat)} {K : List (FuncId × List AC)} {k : Nat} {q : Nat → Rat} {σ : Nat → ByteArray} {args : List AV} {vs : List Value} {w : World} (hr : (callB (sx Tryz.prog moveMirror_N H K moveMirror_L moveMirror_C moveMirror_Z (prQ [50])) k 12 args [] 0).map (·.1) = some (kB true)) (hσ : ∀ j, (σ j).size ≤ 1048576) (hq : ∀ (a : Nat) nd, moveMirror_N[a]? = some nd → q a = valN σ q nd) (h0 : ∀ a, moveMirror_N.length ≤ a → q a = 0) (hH : hAll q H) (hp : PreS w) (hA : ∀ K, A2 (avOn (cOn (evS q σ) K (fun _ => none) w)) args vs) : Calls Tryz.prog 12 vs.toArray w fun e w' => Below w.heap.size w w' ∧ e = .returned (.bool true) :=
 run_toldQ' k (hy_ofW hσ moveMirror_wf moveMirror_sz moveMirror_lt moveMirror_cn hq h0 hH) (by simp [closed_moved]) (by kernel_rfl) hr hp (hA K)
theorem moveMirror_walk {w : World} {la lb lc ox oz vx vz : ByteArray} (sla : la.size ≤ 1048576) (slb : lb.size ≤ 1048576) (slc : lc.size ≤ 1048576) (sox : ox.size ≤ 1048576) (soz : oz.size ≤ 1048576) (svx : vx.size ≤ 1048576) (svz : vz.size ≤ 1048576) (tab : Tab w) (mx : MaxL w) :
  Calls Tryz.prog 12 #[.agg #[.string la, .string lb, .string lc], .agg #[.string ox, .string oz], .agg #[.string vx, .string vz]] w fun e w' => Below w.heap.size w w' ∧ e = .returned (.bool true) := by
 have hσ : ∀ j, (sgOf [la, lb, lc, ox, oz, vx, vz] j).size ≤ 1048576 := sgOf_size (by simp [sla, slb, slc, sox, soz, svx, svz])
 obtain ⟨q, hq, h0⟩ := nodes_exist (sgOf [la, lb, lc, ox, oz, vx, vz]) moveMirror_N moveMirror_wf
 have hA : ∀ K, A2 (avOn (cOn (evS q (sgOf [la, lb, lc, ox, oz, vx, vz])) K (fun _ => none) w)) [(false, [(true, [.inr (2, 0, 0, 0, 0), .inr (2, 1, 0, 0, 0), .inr (2, 2, 0, 0, 0)])]), (false, [(true, [.inr (2, 3, 0, 0, 0), .inr (2, 4, 0, 0, 0)])]), (false, [(true, [.inr (2, 5, 0, 0, 0), .inr (2, 6, 0, 0, 0)])])] [.agg #[.string la, .string lb, .string lc], .agg #[.string ox, .string oz], .agg #[.string vx, .string vz]] := fun K => ⟨⟨⟨[.string la, .string lb, .string lc], rfl, rfl, rfl, rfl, trivial⟩, trivial⟩, ⟨⟨[.string ox, .string oz], rfl, rfl, rfl, trivial⟩, trivial⟩, ⟨⟨[.string vx, .string vz], rfl, rfl, rfl, trivial⟩, trivial⟩, trivial⟩
 have E4 : q 4 = 0 := (hq 4 _ rfl).trans moveMirror_c4
 have E5 : q 5 = q 4 - q 0 := hq 5 _ rfl
 have E6 : q 6 = q 4 - q 1 := hq 6 _ rfl
 have E7 : q 7 = -q 3 := hq 7 _ rfl
 have E8 : q 8 = q 5 * q 2 := hq 8 _ rfl
 have E9 : q 9 = q 6 * q 7 := hq 9 _ rfl
 have E10 : q 10 = q 8 + q 9 := hq 10 _ rfl
 have E11 : q 11 = -q 6 := hq 11 _ rfl
 have E12 : q 12 = q 5 * q 3 := hq 12 _ rfl
 have E13 : q 13 = q 11 * q 2 := hq 13 _ rfl
 have E14 : q 14 = q 12 - q 13 := hq 14 _ rfl
 have E15 : q 15 = q 0 + q 10 := hq 15 _ rfl
 have E16 : q 16 = q 1 + q 14 := hq 16 _ rfl
 have E17 : q 17 = 1 := (hq 17 _ rfl).trans moveMirror_c17
 have E18 : q 18 = q 17 - q 0 := hq 18 _ rfl
 have E19 : q 19 = q 18 * q 2 := hq 19 _ rfl
 have E20 : q 20 = q 19 + q 9 := hq 20 _ rfl
 have E21 : q 21 = q 18 * q 3 := hq 21 _ rfl
 have E22 : q 22 = q 21 - q 13 := hq 22 _ rfl
 have E23 : q 23 = q 0 + q 20 := hq 23 _ rfl
 have E24 : q 24 = q 1 + q 22 := hq 24 _ rfl
 have E25 : q 25 = q 23 - q 15 := hq 25 _ rfl
 have E26 : q 26 = q 24 - q 16 := hq 26 _ rfl
 have E27 : q 27 = q 17 - q 1 := hq 27 _ rfl
 have E28 : q 28 = q 27 * q 7 := hq 28 _ rfl
 have E29 : q 29 = q 8 + q 28 := hq 29 _ rfl
 have E30 : q 30 = -q 27 := hq 30 _ rfl
 have E31 : q 31 = q 30 * q 2 := hq 31 _ rfl
 have E32 : q 32 = q 12 - q 31 := hq 32 _ rfl
 have E33 : q 33 = q 0 + q 29 := hq 33 _ rfl
 have E34 : q 34 = q 1 + q 32 := hq 34 _ rfl
 have E35 : q 35 = q 33 - q 15 := hq 35 _ rfl
 have E36 : q 36 = q 34 - q 16 := hq 36 _ rfl
 have E37 : q 37 = q 25 * q 4 := hq 37 _ rfl
 have E38 : q 38 = q 35 * q 4 := hq 38 _ rfl
 have E39 : q 39 = q 37 + q 38 := hq 39 _ rfl
 have E40 : q 40 = q 39 + q 15 := hq 40 _ rfl
 have E41 : q 41 = q 26 * q 4 := hq 41 _ rfl
 have E42 : q 42 = q 36 * q 4 := hq 42 _ rfl
 have E43 : q 43 = q 41 + q 42 := hq 43 _ rfl
 have E44 : q 44 = q 43 + q 16 := hq 44 _ rfl
 have E45 : q 45 = q 40 - q 0 := hq 45 _ rfl
 have E46 : q 46 = q 44 - q 1 := hq 46 _ rfl
 have E47 : q 47 = q 6 * q 3 := hq 47 _ rfl
 have E48 : q 48 = q 8 - q 47 := hq 48 _ rfl
 have E49 : q 49 = q 6 * q 2 := hq 49 _ rfl
 have E50 : q 50 = q 12 + q 49 := hq 50 _ rfl
 have E51 : q 51 = q 45 - q 48 := hq 51 _ rfl
 have E52 : q 52 = q 46 - q 50 := hq 52 _ rfl
 have E53 : q 53 = q 25 * q 17 := hq 53 _ rfl
 have E54 : q 54 = q 53 + q 38 := hq 54 _ rfl
 have E55 : q 55 = q 54 + q 15 := hq 55 _ rfl
 have E56 : q 56 = q 26 * q 17 := hq 56 _ rfl
 have E57 : q 57 = q 56 + q 42 := hq 57 _ rfl
 have E58 : q 58 = q 57 + q 16 := hq 58 _ rfl
 have E59 : q 59 = q 55 - q 0 := hq 59 _ rfl
 have E60 : q 60 = q 58 - q 1 := hq 60 _ rfl
 have E61 : q 61 = q 19 - q 47 := hq 61 _ rfl
 have E62 : q 62 = q 21 + q 49 := hq 62 _ rfl
 have E63 : q 63 = q 59 - q 61 := hq 63 _ rfl
 have E64 : q 64 = q 60 - q 62 := hq 64 _ rfl
 have E65 : q 65 = q 35 * q 17 := hq 65 _ rfl
 have E66 : q 66 = q 37 + q 65 := hq 66 _ rfl
 have E67 : q 67 = q 66 + q 15 := hq 67 _ rfl
 have E68 : q 68 = q 36 * q 17 := hq 68 _ rfl
 have E69 : q 69 = q 41 + q 68 := hq 69 _ rfl
 have E70 : q 70 = q 69 + q 16 := hq 70 _ rfl
 have E71 : q 71 = q 67 - q 0 := hq 71 _ rfl
 have E72 : q 72 = q 70 - q 1 := hq 72 _ rfl
 have E73 : q 73 = q 27 * q 3 := hq 73 _ rfl
 have E74 : q 74 = q 8 - q 73 := hq 74 _ rfl
 have E75 : q 75 = q 27 * q 2 := hq 75 _ rfl
 have E76 : q 76 = q 12 + q 75 := hq 76 _ rfl
 have E77 : q 77 = q 71 - q 74 := hq 77 _ rfl
 have E78 : q 78 = q 72 - q 76 := hq 78 _ rfl
 have E82 : q 82 = q 79 * q 4 := hq 82 _ rfl
 have E83 : q 83 = q 80 * q 4 := hq 83 _ rfl
 have E84 : q 84 = q 82 + q 83 := hq 84 _ rfl
 have E85 : q 85 = q 84 + q 81 := hq 85 _ rfl
 have E86 : q 86 = -q 85 := hq 86 _ rfl
 have E87 : q 87 = q 79 * q 86 := hq 87 _ rfl
 have E88 : q 88 = q 80 * q 86 := hq 88 _ rfl
 have E89 : q 89 = q 79 * q 79 := hq 89 _ rfl
 have E90 : q 90 = q 80 * q 80 := hq 90 _ rfl
 have E91 : q 91 = q 89 + q 90 := hq 91 _ rfl
 have E92 : q 92 = q 87 / q 91 := hq 92 _ rfl
 have E93 : q 93 = q 88 / q 91 := hq 93 _ rfl
 have E94 : q 94 = 2 := (hq 94 _ rfl).trans moveMirror_c94
 have E95 : q 95 = q 92 * q 94 := hq 95 _ rfl
 have E96 : q 96 = q 93 * q 94 := hq 96 _ rfl
 have E97 : q 97 = q 4 + q 95 := hq 97 _ rfl
 have E98 : q 98 = q 4 + q 96 := hq 98 _ rfl
 have E99 : q 99 = q 79 * q 17 := hq 99 _ rfl
 have E100 : q 100 = q 99 + q 83 := hq 100 _ rfl
 have E101 : q 101 = q 100 + q 81 := hq 101 _ rfl
 have E102 : q 102 = -q 101 := hq 102 _ rfl
 have E103 : q 103 = q 79 * q 102 := hq 103 _ rfl
 have E104 : q 104 = q 80 * q 102 := hq 104 _ rfl
 have E105 : q 105 = q 103 / q 91 := hq 105 _ rfl
 have E106 : q 106 = q 104 / q 91 := hq 106 _ rfl
 have E107 : q 107 = q 105 * q 94 := hq 107 _ rfl
 have E108 : q 108 = q 106 * q 94 := hq 108 _ rfl
 have E109 : q 109 = q 17 + q 107 := hq 109 _ rfl
 have E110 : q 110 = q 4 + q 108 := hq 110 _ rfl
 have E111 : q 111 = q 109 - q 97 := hq 111 _ rfl
 have E112 : q 112 = q 110 - q 98 := hq 112 _ rfl
 have E113 : q 113 = q 80 * q 17 := hq 113 _ rfl
 have E114 : q 114 = q 82 + q 113 := hq 114 _ rfl
 have E115 : q 115 = q 114 + q 81 := hq 115 _ rfl
 have E116 : q 116 = -q 115 := hq 116 _ rfl
 have E117 : q 117 = q 79 * q 116 := hq 117 _ rfl
 have E118 : q 118 = q 80 * q 116 := hq 118 _ rfl
 have E119 : q 119 = q 117 / q 91 := hq 119 _ rfl
 have E120 : q 120 = q 118 / q 91 := hq 120 _ rfl
 have E121 : q 121 = q 119 * q 94 := hq 121 _ rfl
 have E122 : q 122 = q 120 * q 94 := hq 122 _ rfl
 have E123 : q 123 = q 4 + q 121 := hq 123 _ rfl
 have E124 : q 124 = q 17 + q 122 := hq 124 _ rfl
 have E125 : q 125 = q 123 - q 97 := hq 125 _ rfl
 have E126 : q 126 = q 124 - q 98 := hq 126 _ rfl
 have E127 : q 127 = q 111 * q 4 := hq 127 _ rfl
 have E128 : q 128 = q 125 * q 4 := hq 128 _ rfl
 have E129 : q 129 = q 127 + q 128 := hq 129 _ rfl
 have E130 : q 130 = q 129 + q 97 := hq 130 _ rfl
 have E131 : q 131 = q 112 * q 4 := hq 131 _ rfl
 have E132 : q 132 = q 126 * q 4 := hq 132 _ rfl
 have E133 : q 133 = q 131 + q 132 := hq 133 _ rfl
 have E134 : q 134 = q 133 + q 98 := hq 134 _ rfl
 have E135 : q 135 = q 79 * q 130 := hq 135 _ rfl
 have E136 : q 136 = q 80 * q 134 := hq 136 _ rfl
 have E137 : q 137 = q 135 + q 136 := hq 137 _ rfl
 have E138 : q 138 = q 137 + q 81 := hq 138 _ rfl
 have E139 : q 139 = q 85 + q 138 := hq 139 _ rfl
 have E140 : q 140 = q 130 - q 4 := hq 140 _ rfl
 have E141 : q 141 = q 134 - q 4 := hq 141 _ rfl
 have E142 : q 142 = q 140 * q 80 := hq 142 _ rfl
 have E143 : q 143 = q 141 * q 79 := hq 143 _ rfl
 have E144 : q 144 = q 142 - q 143 := hq 144 _ rfl
 have E145 : q 145 = q 111 * q 17 := hq 145 _ rfl
 have E146 : q 146 = q 145 + q 128 := hq 146 _ rfl
 have E147 : q 147 = q 146 + q 97 := hq 147 _ rfl
 have E148 : q 148 = q 112 * q 17 := hq 148 _ rfl
 have E149 : q 149 = q 148 + q 132 := hq 149 _ rfl
 have E150 : q 150 = q 149 + q 98 := hq 150 _ rfl
 have E151 : q 151 = q 79 * q 147 := hq 151 _ rfl
 have E152 : q 152 = q 80 * q 150 := hq 152 _ rfl
 have E153 : q 153 = q 151 + q 152 := hq 153 _ rfl
 have E154 : q 154 = q 153 + q 81 := hq 154 _ rfl
 have E155 : q 155 = q 101 + q 154 := hq 155 _ rfl
 have E156 : q 156 = q 147 - q 17 := hq 156 _ rfl
 have E157 : q 157 = q 150 - q 4 := hq 157 _ rfl
 have E158 : q 158 = q 156 * q 80 := hq 158 _ rfl
 have E159 : q 159 = q 157 * q 79 := hq 159 _ rfl
 have E160 : q 160 = q 158 - q 159 := hq 160 _ rfl
 have E161 : q 161 = q 125 * q 17 := hq 161 _ rfl
 have E162 : q 162 = q 127 + q 161 := hq 162 _ rfl
 have E163 : q 163 = q 162 + q 97 := hq 163 _ rfl
 have E164 : q 164 = q 126 * q 17 := hq 164 _ rfl
 have E165 : q 165 = q 131 + q 164 := hq 165 _ rfl
 have E166 : q 166 = q 165 + q 98 := hq 166 _ rfl
 have E167 : q 167 = q 79 * q 163 := hq 167 _ rfl
 have E168 : q 168 = q 80 * q 166 := hq 168 _ rfl
 have E169 : q 169 = q 167 + q 168 := hq 169 _ rfl
 have E170 : q 170 = q 169 + q 81 := hq 170 _ rfl
 have E171 : q 171 = q 115 + q 170 := hq 171 _ rfl
 have E172 : q 172 = q 163 - q 4 := hq 172 _ rfl
 have E173 : q 173 = q 166 - q 17 := hq 173 _ rfl
 have E174 : q 174 = q 172 * q 80 := hq 174 _ rfl
 have E175 : q 175 = q 173 * q 79 := hq 175 _ rfl
 have E176 : q 176 = q 174 - q 175 := hq 176 _ rfl
 have a_6_51_52 : q 51 = 0 ∧ q 52 = 0 := And.intro (moveMirror_f0 E4 E5 E6 E7 E8 E9 E10 E15 E17 E18 E19 E20 E23 E25 E27 E28 E29 E33 E35 E37 E38 E39 E40 E45 E47 E48 E51) (moveMirror_f1 E4 E5 E6 E11 E12 E13 E14 E16 E17 E18 E21 E22 E24 E26 E27 E30 E31 E32 E34 E36 E41 E42 E43 E44 E46 E49 E50 E52)
 have a_6_63_64 : q 63 = 0 ∧ q 64 = 0 := And.intro (moveMirror_f2 E4 E5 E6 E7 E8 E9 E10 E15 E17 E18 E19 E20 E23 E25 E27 E28 E29 E33 E35 E38 E47 E53 E54 E55 E59 E61 E63) (moveMirror_f3 E4 E5 E6 E11 E12 E13 E14 E16 E17 E18 E21 E22 E24 E26 E27 E30 E31 E32 E34 E36 E42 E49 E56 E57 E58 E60 E62 E64)
 have a_6_77_78 : q 77 = 0 ∧ q 78 = 0 := And.intro (moveMirror_f4 E4 E5 E6 E7 E8 E9 E10 E15 E17 E18 E19 E20 E23 E25 E27 E28 E29 E33 E35 E37 E65 E66 E67 E71 E73 E74 E77) (moveMirror_f5 E4 E5 E6 E11 E12 E13 E14 E16 E17 E18 E21 E22 E24 E26 E27 E30 E31 E32 E34 E36 E41 E68 E69 E70 E72 E75 E76 E78)
 by_cases a_6_79_80 : q 79 = 0 ∧ q 80 = 0
 ·
  have b79 : q 79 = 0 := moveMirror_f6 a_6_79_80
  have b80 : q 80 = 0 := moveMirror_f7 a_6_79_80
  exact moveMirror_leaf moveMirror_r0 hσ hq h0 (moveMirror_An (hT a_6_51_52) (moveMirror_An (hT a_6_63_64) (moveMirror_An (hT a_6_77_78) (moveMirror_An (hT a_6_79_80) (moveMirror_An (hT b79) (moveMirror_An (hT b80) trivial)))))) ⟨tab, mx⟩ hA
 ·
  by_cases b79 : q 79 = 0
  ·
   have b80 : ¬ (q 80 = 0) := moveMirror_f8 a_6_79_80 b79
   have b139 : q 139 = 0 := moveMirror_f9 E4 E17 E82 E83 E84 E85 E86 E87 E88 E89 E90 E91 E92 E93 E94 E95 E96 E97 E98 E99 E100 E101 E102 E103 E104 E105 E106 E107 E108 E109 E110 E111 E112 E113 E114 E115 E116 E117 E118 E119 E120 E121 E122 E123 E124 E125 E126 E127 E128 E129 E130 E131 E132 E133 E134 E135 E136 E137 E138 E139 a_6_79_80 b79
   have b144 : q 144 = 0 := moveMirror_f10 E4 E17 E82 E83 E84 E85 E86 E87 E88 E89 E90 E91 E92 E93 E94 E95 E96 E97 E98 E99 E100 E101 E102 E103 E104 E105 E106 E107 E108 E109 E110 E111 E112 E113 E114 E115 E116 E117 E118 E119 E120 E121 E122 E123 E124 E125 E126 E127 E128 E129 E130 E131 E132 E133 E134 E140 E141 E142 E143 E144 a_6_79_80 b79
   have b155 : q 155 = 0 := moveMirror_f11 E4 E17 E82 E83 E84 E85 E86 E87 E88 E89 E90 E91 E92 E93 E94 E95 E96 E97 E98 E99 E100 E101 E102 E103 E104 E105 E106 E107 E108 E109 E110 E111 E112 E113 E114 E115 E116 E117 E118 E119 E120 E121 E122 E123 E124 E125 E126 E128 E132 E145 E146 E147 E148 E149 E150 E151 E152 E153 E154 E155 a_6_79_80 b79
   have b160 : q 160 = 0 := moveMirror_f12 E4 E17 E82 E83 E84 E85 E86 E87 E88 E89 E90 E91 E92 E93 E94 E95 E96 E97 E98 E99 E100 E101 E102 E103 E104 E105 E106 E107 E108 E109 E110 E111 E112 E113 E114 E115 E116 E117 E118 E119 E120 E121 E122 E123 E124 E125 E126 E128 E132 E145 E146 E147 E148 E149 E150 E156 E157 E158 E159 E160 a_6_79_80 b79
   have b171 : q 171 = 0 := moveMirror_f13 E4 E17 E82 E83 E84 E85 E86 E87 E88 E89 E90 E91 E92 E93 E94 E95 E96 E97 E98 E99 E100 E101 E102 E103 E104 E105 E106 E107 E108 E109 E110 E111 E112 E113 E114 E115 E116 E117 E118 E119 E120 E121 E122 E123 E124 E125 E126 E127 E131 E161 E162 E163 E164 E165 E166 E167 E168 E169 E170 E171 a_6_79_80 b79
   have b176 : q 176 = 0 := moveMirror_f14 E4 E17 E82 E83 E84 E85 E86 E87 E88 E89 E90 E91 E92 E93 E94 E95 E96 E97 E98 E99 E100 E101 E102 E103 E104 E105 E106 E107 E108 E109 E110 E111 E112 E113 E114 E115 E116 E117 E118 E119 E120 E121 E122 E123 E124 E125 E126 E127 E131 E161 E162 E163 E164 E165 E166 E172 E173 E174 E175 E176 a_6_79_80 b79
   exact moveMirror_leaf moveMirror_r1 hσ hq h0 (moveMirror_An (hT a_6_51_52) (moveMirror_An (hT a_6_63_64) (moveMirror_An (hT a_6_77_78) (moveMirror_An (hF a_6_79_80) (moveMirror_An (hT b79) (moveMirror_An (hF b80) (moveMirror_An (hT b139) (moveMirror_An (hT b144) (moveMirror_An (hT b155) (moveMirror_An (hT b160) (moveMirror_An (hT b171) (moveMirror_An (hT b176) trivial)))))))))))) ⟨tab, mx⟩ hA
  ·
   have b139 : q 139 = 0 := moveMirror_f15 E4 E17 E82 E83 E84 E85 E86 E87 E88 E89 E90 E91 E92 E93 E94 E95 E96 E97 E98 E99 E100 E101 E102 E103 E104 E105 E106 E107 E108 E109 E110 E111 E112 E113 E114 E115 E116 E117 E118 E119 E120 E121 E122 E123 E124 E125 E126 E127 E128 E129 E130 E131 E132 E133 E134 E135 E136 E137 E138 E139 a_6_79_80 b79
   have b144 : q 144 = 0 := moveMirror_f16 E4 E17 E82 E83 E84 E85 E86 E87 E88 E89 E90 E91 E92 E93 E94 E95 E96 E97 E98 E99 E100 E101 E102 E103 E104 E105 E106 E107 E108 E109 E110 E111 E112 E113 E114 E115 E116 E117 E118 E119 E120 E121 E122 E123 E124 E125 E126 E127 E128 E129 E130 E131 E132 E133 E134 E140 E141 E142 E143 E144 a_6_79_80 b79
   have b155 : q 155 = 0 := moveMirror_f17 E4 E17 E82 E83 E84 E85 E86 E87 E88 E89 E90 E91 E92 E93 E94 E95 E96 E97 E98 E99 E100 E101 E102 E103 E104 E105 E106 E107 E108 E109 E110 E111 E112 E113 E114 E115 E116 E117 E118 E119 E120 E121 E122 E123 E124 E125 E126 E128 E132 E145 E146 E147 E148 E149 E150 E151 E152 E153 E154 E155 a_6_79_80 b79
   have b160 : q 160 = 0 := moveMirror_f18 E4 E17 E82 E83 E84 E85 E86 E87 E88 E89 E90 E91 E92 E93 E94 E95 E96 E97 E98 E99 E100 E101 E102 E103 E104 E105 E106 E107 E108 E109 E110 E111 E112 E113 E114 E115 E116 E117 E118 E119 E120 E121 E122 E123 E124 E125 E126 E128 E132 E145 E146 E147 E148 E149 E150 E156 E157 E158 E159 E160 a_6_79_80 b79
   have b171 : q 171 = 0 := moveMirror_f19 E4 E17 E82 E83 E84 E85 E86 E87 E88 E89 E90 E91 E92 E93 E94 E95 E96 E97 E98 E99 E100 E101 E102 E103 E104 E105 E106 E107 E108 E109 E110 E111 E112 E113 E114 E115 E116 E117 E118 E119 E120 E121 E122 E123 E124 E125 E126 E127 E131 E161 E162 E163 E164 E165 E166 E167 E168 E169 E170 E171 a_6_79_80 b79
   have b176 : q 176 = 0 := moveMirror_f20 E4 E17 E82 E83 E84 E85 E86 E87 E88 E89 E90 E91 E92 E93 E94 E95 E96 E97 E98 E99 E100 E101 E102 E103 E104 E105 E106 E107 E108 E109 E110 E111 E112 E113 E114 E115 E116 E117 E118 E119 E120 E121 E122 E123 E124 E125 E126 E127 E131 E161 E162 E163 E164 E165 E166 E172 E173 E174 E175 E176 a_6_79_80 b79
   exact moveMirror_leaf moveMirror_r2 hσ hq h0 (moveMirror_An (hT a_6_51_52) (moveMirror_An (hT a_6_63_64) (moveMirror_An (hT a_6_77_78) (moveMirror_An (hF a_6_79_80) (moveMirror_An (hF b79) (moveMirror_An (hT b139) (moveMirror_An (hT b144) (moveMirror_An (hT b155) (moveMirror_An (hT b160) (moveMirror_An (hT b171) (moveMirror_An (hT b176) trivial))))))))))) ⟨tab, mx⟩ hA
end Go.Proofs.YtkcikcnimkofkaaGreatDoor
