/- Part 13 of the walks and of the mathematics under them: VY VSZ CFcornered MGL. -/
import Derived.Test.YtkcikcnimkofkaaGreatDoorA12
set_option maxHeartbeats 16000000
set_option maxRecDepth 100000
/- VY -/
namespace Go.Proofs.YtkcikcnimkofkaaGreatDoor
open Go.RowKit Cx
theorem den_num (t : Rat) : t * (t.den : Rat) = ((t.num : Int) : Rat) := by
 conv => lhs; lhs; rw [← Rat.mkRat_self t]
 have h0 : (t.den : Rat) ≠ 0 := fun h => t.den_nz (by exact_mod_cast h)
 rw [Rat.mkRat_eq_div, Rat.div_mul_cancel h0]
theorem whole {q : Rat} (h : q.den = 1) : q = ((q.num : Int) : Rat) := by
 have := den_num q
 rw [h] at this
 rw [← this]
 show q = q * ((1 : Nat) : Rat)
 exact (Rat.mul_one q).symm
end Go.Proofs.YtkcikcnimkofkaaGreatDoor
/- VSZ -/
namespace Go.Proofs.YtkcikcnimkofkaaGreatDoor
open Go.RowKit Cx
def szW (Z : List Nat) (I : List Bool) (z : Nat) (b : Bool) (nd : Nd) : Bool := match nd.1, nd.2 with
 | 0, [_, n, d] => (Nat.blt n (2 ^ z) && (Nat.blt 0 d && Nat.blt d (2 ^ z))) && (!b || Nat.beq d 1)
 | 1, [_] => Nat.ble 3495259 z && !b
 | 2, [a, c] => (match Z[a]?, Z[c]?, I[a]?, I[c]? with
  | some x, some y, some true, some true => Nat.ble (Nat.max x y + 1) z
  | some x, some y, _, _ => Nat.ble (x + y + 1) z && !b
  | _, _, _, _ => false)
 | 3, [a, c] => (match Z[a]?, Z[c]?, I[a]?, I[c]? with
  | some x, some y, some true, some true => Nat.ble (Nat.max x y + 1) z
  | some x, some y, _, _ => Nat.ble (x + y + 1) z && !b
  | _, _, _, _ => false)
 | 4, [a, c] => (match Z[a]?, Z[c]?, I[a]?, I[c]? with
  | some x, some y, some true, some true => Nat.ble (x + y) z
  | some x, some y, _, _ => Nat.ble (x + y) z && !b
  | _, _, _, _ => false)
 | 5, [a] => (match Z[a]?, I[a]? with
  | some x, some true => Nat.ble x z
  | some x, _ => Nat.ble x z && !b
  | _, _ => false)
 | 6, [a, c] => (match Z[a]?, Z[c]? with
  | some x, some y => Nat.ble (x + y) z && !b
  | _, _ => false)
 | 8, i :: xs => (match getsO Z xs with
  | some zs => Nat.blt i xs.length && (Nat.ble ((xs.length + 1) * maxL zs + 1) z || (xs.all (fun a => match I[a]? with
   | some true => true
   | _ => false) && (match xs[i]? with
   | some a => (match Z[a]? with
    | some x => Nat.ble (x + 1) z
    | none => false)
   | none => false)))
  | none => false)
 | _, _ => false
def szC (Z : List Nat) (I : List Bool) : List Nd → List Nat → List Bool → Bool
 | [], [], [] => true
 | nd :: ns, z :: zs, b :: bs => (szW Z I z b nd && Nat.ble z 1000000000000) && szC Z I ns zs bs
 | _, _, _ => false
theorem szC_get {Z : List Nat} {I : List Bool} : ∀ {ns : List Nd} {zs : List Nat} {bs : List Bool} {i z : Nat}, szC Z I ns zs bs = true → zs[i]? = some z → ∃ nd b, ns[i]? = some nd ∧ bs[i]? = some b ∧ szW Z I z b nd = true ∧ z ≤ 1000000000000
 | [], [], [], _, _, _, h => by simp at h
 | [], [], _ :: _, _, _, h, _ => by cases h
 | [], _ :: _, _, _, _, h, _ => by cases h
 | _ :: _, [], _, _, _, h, _ => by cases h
 | _ :: _, _ :: _, [], _, _, h, _ => by cases h
 | nd :: ns, z' :: zs, b :: bs, 0, z, h, e => by
  have : z' = z := by simpa using e
  subst this
  unfold szC at h
  simp only [Bool.and_eq_true, Nat.ble_eq] at h
  exact ⟨nd, b, rfl, rfl, h.1.1, h.1.2⟩
 | nd :: ns, z' :: zs, b :: bs, i + 1, z, h, e => by
  unfold szC at h
  rw [Bool.and_eq_true] at h
  obtain ⟨nd2, b2, g1, g2, g3⟩ := szC_get (ns := ns) (zs := zs) (bs := bs) h.2 (show zs[i]? = some z by simpa using e)
  exact ⟨nd2, b2, by simpa using g1, by simpa using g2, g3⟩
theorem szC_len {Z : List Nat} {I : List Bool} : ∀ {ns : List Nd} {zs : List Nat} {bs : List Bool}, szC Z I ns zs bs = true → ns.length = zs.length
 | [], [], [], _ => rfl
 | [], [], _ :: _, h => by cases h
 | [], _ :: _, _, h => by cases h
 | _ :: _, [], _, h => by cases h
 | _ :: _, _ :: _, [], h => by cases h
 | _ :: _, _ :: _, _ :: _, h => by
  unfold szC at h
  rw [Bool.and_eq_true] at h
  exact congrArg (· + 1) (szC_len h.2)
structure QW (z : Nat) (x : Rat) : Prop where
 qs : QS z x
 wh : x.den = 1
theorem QW.of {z : Nat} {n : Int} (h : n.natAbs < 2 ^ z) (hz : 0 < z) : QW z ((n : Int) : Rat) :=
 ⟨⟨by simpa using h, by
  show ((n : Int) : Rat).den < 2 ^ z
  rw [Rat.den_intCast]
  exact Nat.one_lt_two_pow (by omega)⟩, Rat.den_intCast n⟩
theorem QW.mono {k l : Nat} {x : Rat} (h : QW k x) (hk : k ≤ l) : QW l x := ⟨h.qs.mono hk, h.wh⟩
theorem two_max {a b x y : Nat} (h1 : a < 2 ^ x) (h2 : b < 2 ^ y) : a + b < 2 ^ (Nat.max x y + 1) := by
 have e1 : 2 ^ x ≤ 2 ^ Nat.max x y := Nat.pow_le_pow_right (by decide) (Nat.le_max_left x y)
 have e2 : 2 ^ y ≤ 2 ^ Nat.max x y := Nat.pow_le_pow_right (by decide) (Nat.le_max_right x y)
 rw [Nat.pow_succ]
 omega
theorem QW.add {x y : Nat} {a b : Rat} (h1 : QW x a) (h2 : QW y b) : QW (Nat.max x y + 1) (a + b) := by
 rw [whole h1.wh, whole h2.wh, ← Rat.intCast_add]
 refine QW.of ?_ (by omega)
 have := two_max h1.qs.num h2.qs.num
 omega
theorem QW.sub {x y : Nat} {a b : Rat} (h1 : QW x a) (h2 : QW y b) : QW (Nat.max x y + 1) (a - b) := by
 rw [whole h1.wh, whole h2.wh, ← Rat.intCast_sub]
 refine QW.of ?_ (by omega)
 have := two_max h1.qs.num h2.qs.num
 omega
theorem QW.mul {x y : Nat} {a b : Rat} (h1 : QW x a) (h2 : QW y b) : QW (x + y) (a * b) := by
 refine ⟨h1.qs.mul h2.qs, ?_⟩
 rw [whole h1.wh, whole h2.wh, ← Rat.intCast_mul]
 exact Rat.den_intCast _
theorem QW.neg {x : Nat} {a : Rat} (h1 : QW x a) : QW x (-a) := ⟨h1.qs.neg, h1.wh⟩
theorem lD_one : ∀ {qs : List Rat} {m : Nat}, (∀ q ∈ qs, q.den = 1) → qs.foldl (fun m q => m * (q.den / Nat.gcd m q.den)) m = m
 | [], _, _ => rfl
 | q :: qs, m, h => by
  rw [List.foldl_cons, h q List.mem_cons_self, Nat.gcd_one_right, Nat.div_self (by decide), Nat.mul_one]
  exact lD_one fun p hp => h p (List.mem_cons_of_mem _ hp)
theorem QW.fac {z : Nat} {qs : List Rat} {x : Rat} (hx : QS z x) (h : x ∈ qs) (hw : ∀ y ∈ qs, y.den = 1) : QS (z + 1) (x * fac qs) := by
 have hl : lD qs = 1 := lD_one hw
 refine ⟨?_, ?_⟩
 ·rw [fac_abs h, hl, hw x h, Nat.div_self (by decide), Nat.mul_one]
  exact Nat.lt_of_le_of_lt (Nat.div_le_self _ _) (Nat.lt_of_lt_of_le hx.num (Nat.pow_le_pow_right (by decide) (by omega)))
 ·rw [fac_den h]
  exact Nat.one_lt_two_pow (by omega)
theorem ten_three : ∀ n : Nat, 10 ^ n ≤ 2 ^ ((10 * n + 2) / 3)
 | 0 => by decide
 | 1 => by decide
 | 2 => by decide
 | n + 3 => by
  have h := ten_three n
  have e : (10 * (n + 3) + 2) / 3 = (10 * n + 2) / 3 + 10 := by omega
  rw [e, Nat.pow_add, Nat.pow_add]
  exact Nat.mul_le_mul h (by decide)
theorem QS.rd3 (l : List UInt8) : QS ((10 * l.length + 2) / 3 + 5) (Cx.rd l) := by
 have key : ∀ {m : List UInt8}, digs m = true → dv m < 2 ^ ((10 * m.length + 2) / 3) := fun {m} h => Nat.lt_of_lt_of_le (dv_lt (digs_all h)) (ten_three _)
 unfold Cx.rd
 split
 ·rename_i h
  rw [Bool.and_eq_true] at h
  have h1 := key h.1
  have h2 := key h.2
  have h3 := up_len (tailOf l)
  have h4 := low_len (tailOf l)
  have h5 := tail_len l
  apply QS.mkr
  ·rw [sg_abs]; exact Nat.lt_of_lt_of_le h1 (Nat.pow_le_pow_right (by decide) (by omega))
  ·exact Nat.lt_of_lt_of_le h2 (Nat.pow_le_pow_right (by decide) (by omega))
 ·exact QS.zero.mono (by omega)
section
variable {N : List Nd} {Z : List Nat} {I : List Bool} {q : Nat → Rat}
theorem sizes_okW {σ : Nat → ByteArray} (hσ : ∀ j, (σ j).size ≤ 1048576) (hw : wfB 0 N = true) (hz : szC Z I N Z I = true) (hq : ∀ (a : Nat) nd, N[a]? = some nd → q a = valN σ q nd) (h0 : ∀ a, N.length ≤ a → q a = 0) : (∀ (a : Nat) z, Z[a]? = some z → QS z (q a)) ∧ ∀ a, QS 1000000000000 (q a) := by
 have h2 : ∀ (a : Nat) z, Z[a]? = some z → QS z (q a) ∧ (I[a]? = some true → (q a).den = 1) := by
  intro a
  induction a using Nat.strongRecOn with
  | ind a ih =>
   intro z hz'
   obtain ⟨nd, b, hn, hb, hs, _⟩ := szC_get hz hz'
   have hwf := wfB_get hw hn
   rw [Nat.zero_add] at hwf
   rw [hq a nd hn, hb]
   obtain ⟨op, xs⟩ := nd
   unfold szW at hs
   unfold valN
   unfold wfN at hwf
   dsimp only at hs hwf ⊢
   have W : ∀ {c x}, c < a → Z[c]? = some x → I[c]? = some true → QW x (q c) := fun hc hx hi => ⟨(ih _ hc _ hx).1, (ih _ hc _ hx).2 hi⟩
   have no : ∀ {v : Rat}, b = false → (some b = some true → v.den = 1) := fun e h => by rw [e] at h; cases h
   split at hs
   ·rename_i s n d
    simp only [Bool.and_eq_true] at hs
    obtain ⟨⟨h1, h2, h3⟩, h4⟩ := hs
    refine ⟨QS.const (by simpa [Nat.blt_eq] using h1) (by simpa [Nat.blt_eq] using h2) (by simpa [Nat.blt_eq] using h3), fun e => ?_⟩
    rw [show b = true from Option.some.inj e] at h4
    have hd : d = 1 := by simpa using h4
    subst hd
    show (if s = 0 then mkRat (n : Int) 1 else mkRat (-(n : Int)) 1).den = 1
    split
    ·rw [Rat.mkRat_one]
     exact Rat.den_intCast _
    ·rw [Rat.mkRat_one]
     exact Rat.den_intCast _
   ·rename_i j
    simp only [Bool.and_eq_true, Nat.ble_eq, Bool.not_eq_true'] at hs
    exact ⟨QS.mono (QS.rd3 _) (by have := hσ j; rw [str_len]; omega), no hs.2⟩
   ·simp only [List.all_cons, List.all_nil, Bool.and_true, Bool.and_eq_true] at hwf
    have l1 := (by simpa [Nat.blt_eq] using hwf.1 : _ < a)
    have l2 := (by simpa [Nat.blt_eq] using hwf.2 : _ < a)
    split at hs
    ·rename_i x y hx hy i1 i2
     rw [Nat.ble_eq] at hs
     have := ((W l1 hx i1).add (W l2 hy i2)).mono hs
     exact ⟨this.qs, fun _ => this.wh⟩
    ·rename_i x y hx hy _
     simp only [Bool.and_eq_true, Nat.ble_eq, Bool.not_eq_true'] at hs
     exact ⟨((ih _ l1 x hx).1.add (ih _ l2 y hy).1).mono hs.1, no hs.2⟩
    ·cases hs
   ·simp only [List.all_cons, List.all_nil, Bool.and_true, Bool.and_eq_true] at hwf
    have l1 := (by simpa [Nat.blt_eq] using hwf.1 : _ < a)
    have l2 := (by simpa [Nat.blt_eq] using hwf.2 : _ < a)
    split at hs
    ·rename_i x y hx hy i1 i2
     rw [Nat.ble_eq] at hs
     have := ((W l1 hx i1).sub (W l2 hy i2)).mono hs
     exact ⟨this.qs, fun _ => this.wh⟩
    ·rename_i x y hx hy _
     simp only [Bool.and_eq_true, Nat.ble_eq, Bool.not_eq_true'] at hs
     exact ⟨((ih _ l1 x hx).1.sub (ih _ l2 y hy).1).mono hs.1, no hs.2⟩
    ·cases hs
   ·simp only [List.all_cons, List.all_nil, Bool.and_true, Bool.and_eq_true] at hwf
    have l1 := (by simpa [Nat.blt_eq] using hwf.1 : _ < a)
    have l2 := (by simpa [Nat.blt_eq] using hwf.2 : _ < a)
    split at hs
    ·rename_i x y hx hy i1 i2
     rw [Nat.ble_eq] at hs
     have := ((W l1 hx i1).mul (W l2 hy i2)).mono hs
     exact ⟨this.qs, fun _ => this.wh⟩
    ·rename_i x y hx hy _
     simp only [Bool.and_eq_true, Nat.ble_eq, Bool.not_eq_true'] at hs
     exact ⟨((ih _ l1 x hx).1.mul (ih _ l2 y hy).1).mono hs.1, no hs.2⟩
    ·cases hs
   ·simp only [List.all_cons, List.all_nil, Bool.and_true] at hwf
    have l1 := (by simpa [Nat.blt_eq] using hwf : _ < a)
    split at hs
    ·rename_i x hx i1
     rw [Nat.ble_eq] at hs
     have := (W l1 hx i1).neg.mono hs
     exact ⟨this.qs, fun _ => this.wh⟩
    ·rename_i x hx _
     simp only [Bool.and_eq_true, Nat.ble_eq, Bool.not_eq_true'] at hs
     exact ⟨((ih _ l1 x hx).1.neg).mono hs.1, no hs.2⟩
    ·cases hs
   ·simp only [List.all_cons, List.all_nil, Bool.and_true, Bool.and_eq_true] at hwf
    split at hs
    ·rename_i x y hx hy
     simp only [Bool.and_eq_true, Nat.ble_eq, Bool.not_eq_true'] at hs
     exact ⟨((ih _ (by simpa [Nat.blt_eq] using hwf.1) x hx).1.div (ih _ (by simpa [Nat.blt_eq] using hwf.2) y hy).1).mono hs.1, no hs.2⟩
    ·cases hs
   ·rename_i i ys
    split at hs
    ·rename_i zs hzs
     rw [Bool.and_eq_true] at hs
     have hi : i < ys.length := by simpa [Nat.blt_eq] using hs.1
     have hwf' : ys.all (Nat.blt · a) = true := hwf
     rw [List.all_eq_true] at hwf'
     have hlt : ∀ c ∈ ys, c < a := fun c hc => by simpa [Nat.blt_eq] using hwf' c hc
     have hm : q ys[i] ∈ ys.map q := List.mem_map_of_mem (List.getElem_mem hi)
     have hg : (ys.map q).getD i 0 = q ys[i] := by
      rw [List.getD_eq_getElem?_getD, List.getElem?_map, List.getElem?_eq_getElem hi]
      rfl
     show QS z ((ys.map q).getD i 0 * fac (ys.map q)) ∧ (some b = some true → ((ys.map q).getD i 0 * fac (ys.map q)).den = 1)
     rw [hg]
     refine ⟨?_, fun _ => fac_den hm⟩
     rcases Bool.or_eq_true _ _ ▸ hs.2 with h3 | h3
     ·rw [Nat.ble_eq] at h3
      have hall : ∀ y ∈ ys.map q, QS (maxL zs) y := fun y hy => by
       obtain ⟨c, hc, rfl⟩ := List.mem_map.1 hy
       obtain ⟨z', hm', hz2⟩ := getsO_get hzs c hc
       exact (ih c (hlt c hc) z' hz2).1.mono (le_maxL z' hm')
      have := QS.facN hall (x := q ys[i]) hm
      rw [List.length_map] at this
      exact this.mono h3
     ·rw [Bool.and_eq_true, List.all_eq_true] at h3
      obtain ⟨h4, h5⟩ := h3
      have hwh : ∀ y ∈ ys.map q, y.den = 1 := fun y hy => by
       obtain ⟨c, hc, rfl⟩ := List.mem_map.1 hy
       obtain ⟨z', _, hz2⟩ := getsO_get hzs c hc
       refine (ih c (hlt c hc) z' hz2).2 ?_
       have := h4 c hc
       split at this
       ·assumption
       ·cases this
      rw [List.getElem?_eq_getElem hi] at h5
      dsimp only at h5
      split at h5
      ·rename_i x hx
       rw [Nat.ble_eq] at h5
       exact (QW.fac (ih _ (hlt _ (List.getElem_mem hi)) x hx).1 hm hwh).mono h5
      ·cases h5
    ·cases hs
   ·cases hs
 refine ⟨fun a z h => (h2 a z h).1, fun a => ?_⟩
 have hl := szC_len hz
 by_cases ha : a < Z.length
 ·obtain ⟨nd, b, _, _, _, hle⟩ := szC_get hz (List.getElem?_eq_getElem ha)
  exact (h2 a _ (List.getElem?_eq_getElem ha)).1.mono hle
 ·rw [h0 a (by omega)]
  exact QS.zero.mono (by decide)
theorem hy_ofW {L C : List (List Nat × Nat)} {σ : Nat → ByteArray} {H : List (Nat × Nat × Nat × Nat)} (hσ : ∀ j, (σ j).size ≤ 1048576) (hw : wfB 0 N = true) (hz : szC Z I N Z I = true) (hl : litB N L = true) (hcn : canB N C = true) (hq : ∀ (a : Nat) nd, N[a]? = some nd → q a = valN σ q nd) (h0 : ∀ a, N.length ≤ a → q a = 0) (hH : hAll q H) : Hy N H L C Z q σ where
 nat := hq
 qs := (sizes_okW hσ hw hz hq h0).2
 zs := (sizes_okW hσ hw hz hq h0).1
 par := hσ
 lit := fun s b h => lit_rd hl hq h
 k0 := fun a r h => kn_at hH h
 k1 := fun a r h => kn_at hH h
 k2 := fun a r h => kn_at hH h
 k3 := fun a b r h => kn_at hH h
 k4 := fun l a b r h1 h2 => by
  have h3 : Nat.beq 1 r = true ↔ q a = q b := kn_at hH h2
  rw [h3, ← can_tx hcn hq h1]
  exact ⟨fun e => by rw [e], fun e => tellS_inj (bytesN_inj e)⟩
 k6 := fun a b r h => kn_at hH h
 k5 := fun a r h => kn_at hH h
end
end Go.Proofs.YtkcikcnimkofkaaGreatDoor
/- CFcornered -/
namespace Go.Proofs.YtkcikcnimkofkaaGreatDoor
open Go.RowKit Cx
theorem closed_cornered : Closed 27 :=
 closed_told (N := [(0, [0, 0, 1]), (0, [0, 4, 1]), (0, [0, 3, 1]), (3, [1, 0]), (3, [0, 0]), (3, [2, 0]), (4, [3, 5]), (4, [4, 4]), (3, [6, 7]), (3, [0, 1]), (4, [9, 9]), (4, [5, 5]), (2, [10, 11]), (3, [0, 2]), (4, [13, 13]), (2, [7, 14]), (4, [3, 3]), (2, [16, 7]), (5, [12]), (2, [15, 17]), (2, [19, 18]), (4, [12, 20]), (5, [15]), (2, [17, 12]), (2, [23, 22]), (4, [15, 24]), (5, [17]), (2, [12, 15]), (2, [27, 26]), (4, [17, 28]), (2, [21, 25]), (2, [30, 29]), (4, [0, 21]), (2, [0, 32]), (4, [1, 25]), (4, [0, 25]), (2, [33, 34]), (2, [33, 35]), (4, [0, 29]), (4, [2, 29]), (2, [36, 38]), (2, [37, 39]), (6, [40, 31]), (6, [41, 31]), (2, [12, 17]), (2, [44, 22]), (4, [28, 45]), (2, [15, 12]), (2, [47, 26]), (4, [20, 48]), (2, [17, 15]), (2, [50, 18]), (4, [24, 51]), (2, [46, 49]), (2, [53, 52]), (4, [0, 46]), (2, [0, 55]), (4, [1, 49]), (4, [0, 49]), (2, [56, 57]), (2, [56, 58]), (4, [0, 52]), (4, [2, 52]), (2, [59, 61]), (2, [60, 62]), (6, [63, 54]), (6, [64, 54]), (0, [0, 2, 1]), (0, [0, 3, 2]), (0, [0, 25, 1]), (0, [0, 9, 1]), (0, [0, 16, 1])]) (H := [(0, 8, 0, 0), (0, 31, 0, 0), (0, 54, 0, 0), (4, 42, 67, 1), (4, 43, 68, 1), (4, 65, 0, 1), (4, 66, 0, 1), (4, 12, 69, 1), (4, 15, 70, 1), (4, 17, 71, 1)]) (K := [(96, []), (278, []), (279, []), (236, []), (114, [])]) (L := [([48], 0), ([52], 1), ([51], 2), ([50], 67), ([51, 47, 50], 68), ([50, 53], 69), ([57], 70), ([49, 54], 71)]) (C := [([50], 67), ([51, 47, 50], 68), ([48], 0), ([50, 53], 69), ([57], 70), ([49, 54], 71)]) (Z := [2, 4, 3, 7, 5, 6, 13, 10, 24, 7, 14, 12, 27, 6, 12, 23, 14, 25, 27, 49, 77, 104, 23, 53, 77, 100, 25, 51, 77, 102, 205, 308, 106, 109, 104, 102, 214, 212, 104, 105, 319, 318, 627, 626, 53, 77, 154, 51, 77, 154, 49, 77, 154, 309, 464, 156, 159, 158, 156, 318, 316, 156, 157, 475, 474, 939, 938, 3, 3, 6, 5, 6]) (cl := []) 8 (fun _ h => by cases h) (by kernel_rfl) (by kernel_rfl) (by kernel_rfl) (by kernel_rfl) (by kernel_rfl) (by kernel_rfl) (by kernel_rfl)
end Go.Proofs.YtkcikcnimkofkaaGreatDoor
/- MGL -/
namespace Go.Proofs.YtkcikcnimkofkaaGreatDoor
open Go.RowKit Cx
def triangleLemoine_N : List Nd := [(1, [0]), (1, [1]), (1, [2]), (1, [3]), (1, [4]), (1, [5]), (3, [2, 0]), (3, [3, 1]), (3, [4, 0]), (3, [5, 1]), (4, [6, 9]), (4, [7, 8]), (3, [10, 11]), (3, [4, 2]), (3, [5, 3]), (4, [13, 13]), (4, [14, 14]), (2, [15, 16]), (3, [0, 4]), (3, [1, 5]), (4, [18, 18]), (4, [19, 19]), (2, [20, 21]), (4, [6, 6]), (4, [7, 7]), (2, [23, 24]), (2, [17, 22]), (2, [26, 25]), (4, [0, 17]), (4, [1, 17]), (0, [0, 0, 1]), (2, [30, 28]), (2, [30, 29]), (4, [2, 22]), (4, [3, 22]), (2, [31, 33]), (2, [32, 34]), (4, [4, 25]), (4, [5, 25]), (2, [35, 37]), (2, [36, 38]), (6, [39, 27]), (6, [40, 27]), (5, [14]), (4, [43, 2]), (4, [13, 3]), (2, [44, 45]), (5, [46]), (4, [43, 41]), (4, [13, 42]), (2, [48, 49]), (2, [50, 47]), (5, [51]), (4, [43, 52]), (4, [13, 52]), (4, [43, 43]), (2, [55, 15]), (6, [53, 56]), (6, [54, 56]), (2, [41, 57]), (2, [42, 58]), (5, [19]), (4, [61, 4]), (4, [18, 5]), (2, [62, 63]), (5, [64]), (4, [61, 41]), (4, [18, 42]), (2, [66, 67]), (2, [68, 65]), (5, [69]), (4, [61, 70]), (4, [18, 70]), (4, [61, 61]), (2, [73, 20]), (6, [71, 74]), (6, [72, 74]), (2, [41, 75]), (2, [42, 76]), (5, [7]), (4, [79, 0]), (4, [6, 1]), (2, [80, 81]), (5, [82]), (4, [79, 41]), (4, [6, 42]), (2, [84, 85]), (2, [86, 83]), (5, [87]), (4, [79, 88]), (4, [6, 88]), (4, [79, 79]), (2, [91, 23]), (6, [89, 92]), (6, [90, 92]), (2, [41, 93]), (2, [42, 94]), (3, [41, 59]), (3, [42, 60]), (4, [97, 97]), (4, [98, 98]), (2, [99, 100]), (2, [30, 101]), (3, [41, 77]), (3, [42, 78]), (4, [103, 103]), (4, [104, 104]), (2, [105, 106]), (2, [102, 107]), (3, [41, 95]), (3, [42, 96]), (4, [109, 109]), (4, [110, 110]), (2, [111, 112]), (2, [108, 113]), (1, [6]), (1, [7]), (4, [43, 115]), (4, [13, 116]), (2, [117, 118]), (2, [119, 47]), (5, [120]), (4, [43, 121]), (4, [13, 121]), (6, [122, 56]), (6, [123, 56]), (2, [115, 124]), (2, [116, 125]), (4, [61, 115]), (4, [18, 116]), (2, [128, 129]), (2, [130, 65]), (5, [131]), (4, [61, 132]), (4, [18, 132]), (6, [133, 74]), (6, [134, 74]), (2, [115, 135]), (2, [116, 136]), (4, [79, 115]), (4, [6, 116]), (2, [139, 140]), (2, [141, 83]), (5, [142]), (4, [79, 143]), (4, [6, 143]), (6, [144, 92]), (6, [145, 92]), (2, [115, 146]), (2, [116, 147]), (3, [115, 126]), (3, [116, 127]), (4, [150, 150]), (4, [151, 151]), (2, [152, 153]), (2, [30, 154]), (3, [115, 137]), (3, [116, 138]), (4, [156, 156]), (4, [157, 157]), (2, [158, 159]), (2, [155, 160]), (3, [115, 148]), (3, [116, 149]), (4, [162, 162]), (4, [163, 163]), (2, [164, 165]), (2, [161, 166]), (3, [114, 167])]
def triangleLemoine_L : List (List Nat × Nat) := []
def triangleLemoine_C : List (List Nat × Nat) := []
def triangleLemoine_Z : List Nat := [3495259, 3495259, 3495259, 3495259, 3495259, 3495259, 6990519, 6990519, 6990519, 6990519, 13981038, 13981038, 27962077, 6990519, 6990519, 13981038, 13981038, 27962077, 6990519, 6990519, 13981038, 13981038, 27962077, 13981038, 13981038, 27962077, 55924155, 83886233, 31457336, 31457336, 2, 31457339, 31457339, 31457336, 31457336, 62914676, 62914676, 31457336, 31457336, 94372013, 94372013, 178258246, 178258246, 6990519, 10485778, 10485778, 20971557, 20971557, 185248765, 185248765, 370497531, 391469089, 391469089, 398459608, 398459608, 13981038, 27962077, 426421685, 426421685, 604679932, 604679932, 6990519, 10485778, 10485778, 20971557, 20971557, 185248765, 185248765, 370497531, 391469089, 391469089, 398459608, 398459608, 13981038, 27962077, 426421685, 426421685, 604679932, 604679932, 6990519, 10485778, 10485778, 20971557, 20971557, 185248765, 185248765, 370497531, 391469089, 391469089, 398459608, 398459608, 13981038, 27962077, 426421685, 426421685, 604679932, 604679932, 782938179, 782938179, 1565876358, 1565876358, 3131752717, 3131752720, 782938179, 782938179, 1565876358, 1565876358, 3131752717, 6263505438, 782938179, 782938179, 1565876358, 1565876358, 3131752717, 9395258156, 3495259, 3495259, 10485778, 10485778, 20971557, 41943115, 41943115, 48933634, 48933634, 76895711, 76895711, 80390971, 80390971, 10485778, 10485778, 20971557, 41943115, 41943115, 48933634, 48933634, 76895711, 76895711, 80390971, 80390971, 10485778, 10485778, 20971557, 41943115, 41943115, 48933634, 48933634, 76895711, 76895711, 80390971, 80390971, 83886231, 83886231, 167772462, 167772462, 335544925, 335544928, 83886231, 83886231, 167772462, 167772462, 335544925, 671089854, 83886231, 83886231, 167772462, 167772462, 335544925, 1006634780, 10401892937]
def triangleLemoine_I : List Bool := [false, false, false, false, false, false, false, false, false, false, false, false, false, false, false, false, false, false, false, false, false, false, false, false, false, false, false, false, false, false, true, false, false, false, false, false, false, false, false, false, false, false, false, false, false, false, false, false, false, false, false, false, false, false, false, false, false, false, false, false, false, false, false, false, false, false, false, false, false, false, false, false, false, false, false, false, false, false, false, false, false, false, false, false, false, false, false, false, false, false, false, false, false, false, false, false, false, false, false, false, false, false, false, false, false, false, false, false, false, false, false, false, false, false, false, false, false, false, false, false, false, false, false, false, false, false, false, false, false, false, false, false, false, false, false, false, false, false, false, false, false, false, false, false, false, false, false, false, false, false, false, false, false, false, false, false, false, false, false, false, false, false, false, false, false, false, false, false, false]
theorem triangleLemoine_wf : wfB 0 triangleLemoine_N = true := by kernel_rfl
theorem triangleLemoine_sz : szC triangleLemoine_Z triangleLemoine_I triangleLemoine_N triangleLemoine_Z triangleLemoine_I = true := by kernel_rfl
theorem triangleLemoine_lt : litB triangleLemoine_N triangleLemoine_L = true := by kernel_rfl
theorem triangleLemoine_cn : canB triangleLemoine_N triangleLemoine_C = true := by kernel_rfl
theorem triangleLemoine_c30 : cst 0 0 1 = (0 : Rat) := by decide +kernel
theorem lm_dist {P Q nx nz m A : Rat} (hA : A = nx * nx + nz * nz) (h0 : A ≠ 0) : (P - (P + nx * m / A)) * (P - (P + nx * m / A)) + (Q - (Q + nz * m / A)) * (Q - (Q + nz * m / A)) = m * m / A := by
 have d : ∀ x y : Rat, x * y / A = x * (y / A) := fun x y => by rw [Rat.div_def, Rat.div_def, Rat.mul_assoc]
 rw [d, d, d]
 have f : m / A * A = m := Rat.div_mul_cancel h0
 generalize m / A = t at *
 rw [← f, hA]
 clear d f h0
 grind
theorem lm_nn {A x : Rat} (hA : 0 < A) : 0 ≤ A * (x * x) := Rat.mul_nonneg (Rat.le_of_lt hA) (sq_facts x).1
theorem lm_main {A B C D S l0 l1 l2 m0 m1 m2 : Rat} (pA : 0 < A) (pB : 0 < B) (pC : 0 < C) (hS : S = A + B + C) (hl : l0 + l1 + l2 = D) (h0 : m0 * S = D * A) (h1 : m1 * S = D * B) (h2 : m2 * S = D * C) : m0 * m0 / A + m1 * m1 / B + m2 * m2 / C ≤ l0 * l0 / A + l1 * l1 / B + l2 * l2 / C := by
 have nA : A ≠ 0 := fun e => by rw [e] at pA; exact absurd pA (by decide)
 have nB : B ≠ 0 := fun e => by rw [e] at pB; exact absurd pB (by decide)
 have nC : C ≠ 0 := fun e => by rw [e] at pC; exact absurd pC (by decide)
 have pS : 0 < S := by rw [hS]; clear h0 h1 h2 hl; grind
 have nS : S ≠ 0 := fun e => by rw [e] at pS; exact absurd pS (by decide)
 have q : ∀ {x a : Rat}, a ≠ 0 → ∃ t, x = a * t ∧ x * x / a = a * (t * t) := fun {x a} h => by
  have f : x / a * a = x := Rat.div_mul_cancel h
  refine ⟨x / a, by rw [Rat.mul_comm]; exact f.symm, ?_⟩
  rw [show x * x / a = x * (x / a) from by rw [Rat.div_def, Rat.div_def, Rat.mul_assoc]]
  generalize x / a = t at *
  rw [← f]
  clear f
  grind
 obtain ⟨x, ex, fx⟩ := q (x := l0) nA
 obtain ⟨y, ey, fy⟩ := q (x := l1) nB
 obtain ⟨z, ez, fz⟩ := q (x := l2) nC
 obtain ⟨u, hu⟩ : ∃ u, D = S * u := ⟨D / S, by rw [Rat.mul_comm]; exact (Rat.div_mul_cancel nS).symm⟩
 have k : ∀ {m a : Rat}, m * S = D * a → m = a * u := fun {m a} h => by
  have e : (m - a * u) * S = 0 := by rw [hu] at h; clear fx fy fz; grind
  have := (Rat.mul_eq_zero.1 e).resolve_right nS
  clear fx fy fz
  grind
 obtain ⟨a, ea, fa⟩ := q (x := m0) nA
 obtain ⟨b, eb, fb⟩ := q (x := m1) nB
 obtain ⟨c, ec, fc⟩ := q (x := m2) nC
 have c1 : ∀ {a t : Rat}, a ≠ 0 → a * t = a * u → t = u := fun {a t} h e => by
  have : (t - u) * a = 0 := by grind
  have := (Rat.mul_eq_zero.1 this).resolve_right h
  grind
 have ua := c1 nA (ea.symm.trans (k h0))
 have ub := c1 nB (eb.symm.trans (k h1))
 have uc := c1 nC (ec.symm.trans (k h2))
 rw [fa, fb, fc, fx, fy, fz, ua, ub, uc]
 have s1 := lm_nn (x := x - u) pA
 have s2 := lm_nn (x := y - u) pB
 have s3 := lm_nn (x := z - u) pC
 have e : A * (x * x) + B * (y * y) + C * (z * z) - (A * (u * u) + B * (u * u) + C * (u * u)) = A * ((x - u) * (x - u)) + B * ((y - u) * (y - u)) + C * ((z - u) * (z - u)) := by
  have h : A * x + B * y + C * z = (A + B + C) * u := by rw [← ex, ← ey, ← ez, hl, hu, hS]
  clear s1 s2 s3 fx fy fz fa fb fc ua ub uc ea eb ec ex ey ez h0 h1 h2 hl hu hS
  grind
 clear fx fy fz fa fb fc ua ub uc ea eb ec ex ey ez h0 h1 h2 hl hu hS
 grind
theorem lm_l (ax az bx bz cx cz px pz : Rat) : (-(cz - bz) * px + (cx - bx) * pz + -(-(cz - bz) * bx + (cx - bx) * bz)) + (-(az - cz) * px + (ax - cx) * pz + -(-(az - cz) * cx + (ax - cx) * cz)) + (-(bz - az) * px + (bx - ax) * pz + -(-(bz - az) * ax + (bx - ax) * az)) = (bx - ax) * (cz - az) - (bz - az) * (cx - ax) := by grind
theorem lm_m {ax az bx bz cx cz A B C S X Z : Rat} (hS : S = A + B + C) (hX : X * S = 0 + ax * A + bx * B + cx * C) (hZ : Z * S = 0 + az * A + bz * B + cz * C) :
  (-(cz - bz) * X + (cx - bx) * Z + -(-(cz - bz) * bx + (cx - bx) * bz)) * S = ((bx - ax) * (cz - az) - (bz - az) * (cx - ax)) * A ∧ (-(az - cz) * X + (ax - cx) * Z + -(-(az - cz) * cx + (ax - cx) * cz)) * S = ((bx - ax) * (cz - az) - (bz - az) * (cx - ax)) * B ∧ (-(bz - az) * X + (bx - ax) * Z + -(-(bz - az) * ax + (bx - ax) * az)) * S = ((bx - ax) * (cz - az) - (bz - az) * (cx - ax)) * C := by
 have e : ∀ p q r : Rat, (p * X + q * Z + r) * S = p * (X * S) + q * (Z * S) + r * S := fun p q r => by clear hX hZ hS; grind
 refine ⟨?_, ?_, ?_⟩ <;> rw [e, hX, hZ, hS] <;> clear e hX hZ hS <;> grind
theorem lm_ng {m S D A : Rat} (h : m * S = D * A) : -m * S = -D * A := by
 have : -m * S = -(m * S) := by clear h; grind
 rw [this, h]
 clear h this
 grind
theorem lm_n3 {a b c d : Rat} (h : a + b + c = d) : -a + -b + -c = -d := by rw [← h]; clear h; grind
theorem lm_no {x y z : Rat} (h : x ≤ y) (hz : z = x - y) : ¬ 0 < z := by rw [hz]; clear hz; grind
theorem triangleLemoine_f1 {z0 z1 z2 z3 z4 z5 z6 z7 z8 z9 z10 z11 z12 z13 z14 z15 z16 z17 z18 z19 z20 z21 z22 z23 z24 z25 z26 z27 : Rat} : z6 = z2 - z0 → z7 = z3 - z1 → z8 = z4 - z0 → z9 = z5 - z1 → z10 = z6 * z9 → z11 = z7 * z8 → z12 = z10 - z11 → z13 = z4 - z2 → z14 = z5 - z3 → z15 = z13 * z13 → z16 = z14 * z14 → z17 = z15 + z16 → z18 = z0 - z4 → z19 = z1 - z5 → z20 = z18 * z18 → z21 = z19 * z19 → z22 = z20 + z21 → z23 = z6 * z6 → z24 = z7 * z7 → z25 = z23 + z24 → z26 = z17 + z22 → z27 = z26 + z25 → (¬ (z12 = 0)) → ¬ (z27 = 0) := by
 intro e6 e7 e8 e9 e10 e11 e12 e13 e14 e15 e16 e17 e18 e19 e20 e21 e22 e23 e24 e25 e26 e27 u0
 have pA : 0 < z17 := by
  rw [e17, e15, e16]
  refine sq_pos fun h => u0 ?_
  have x1 : z4 = z2 := by have h1 := h.1; rw [e13] at h1; clear u0; grind
  have x2 : z5 = z3 := by have h1 := h.2; rw [e14] at h1; clear u0; grind
  rw [e12, e10, e11, e6, e7, e8, e9, x1, x2]; clear u0 h; grind
 have pB : 0 < z22 := by
  rw [e22, e20, e21]
  refine sq_pos fun h => u0 ?_
  have x1 : z4 = z0 := by have h1 := h.1; rw [e18] at h1; clear u0; grind
  have x2 : z5 = z1 := by have h1 := h.2; rw [e19] at h1; clear u0; grind
  rw [e12, e10, e11, e6, e7, e8, e9, x1, x2]; clear u0 h; grind
 have pC : 0 < z25 := by
  rw [e25, e23, e24]
  refine sq_pos fun h => u0 ?_
  rw [e12, e10, e11, h.1, h.2]; clear u0 h; grind
 intro h
 rw [e27, e26] at h
 clear u0
 grind
theorem triangleLemoine_f2 {z0 z1 z2 z3 z4 z5 z6 z7 z8 z9 z10 z11 z12 z13 z14 z15 z16 z17 z18 z19 z20 z21 z22 z23 z24 z25 z26 z27 z28 z29 z30 z31 z32 z33 z34 z35 z36 z37 z38 z39 z40 z41 z42 z43 z44 z45 z46 z47 z48 z49 z50 z51 z52 z53 z54 z55 z56 z57 z58 z59 z60 z61 z62 z63 z64 z65 z66 z67 z68 z69 z70 z71 z72 z73 z74 z75 z76 z77 z78 z79 z80 z81 z82 z83 z84 z85 z86 z87 z88 z89 z90 z91 z92 z93 z94 z95 z96 z97 z98 z99 z100 z101 z102 z103 z104 z105 z106 z107 z108 z109 z110 z111 z112 z113 z114 z115 z116 z117 z118 z119 z120 z121 z122 z123 z124 z125 z126 z127 z128 z129 z130 z131 z132 z133 z134 z135 z136 z137 z138 z139 z140 z141 z142 z143 z144 z145 z146 z147 z148 z149 z150 z151 z152 z153 z154 z155 z156 z157 z158 z159 z160 z161 z162 z163 z164 z165 z166 z167 z168 : Rat} : z6 = z2 - z0 → z7 = z3 - z1 → z8 = z4 - z0 → z9 = z5 - z1 → z10 = z6 * z9 → z11 = z7 * z8 → z12 = z10 - z11 → z13 = z4 - z2 → z14 = z5 - z3 → z15 = z13 * z13 → z16 = z14 * z14 → z17 = z15 + z16 → z18 = z0 - z4 → z19 = z1 - z5 → z20 = z18 * z18 → z21 = z19 * z19 → z22 = z20 + z21 → z23 = z6 * z6 → z24 = z7 * z7 → z25 = z23 + z24 → z26 = z17 + z22 → z27 = z26 + z25 → z28 = z0 * z17 → z29 = z1 * z17 → z30 = 0 → z31 = z30 + z28 → z32 = z30 + z29 → z33 = z2 * z22 → z34 = z3 * z22 → z35 = z31 + z33 → z36 = z32 + z34 → z37 = z4 * z25 → z38 = z5 * z25 → z39 = z35 + z37 → z40 = z36 + z38 → z41 = z39 / z27 → z42 = z40 / z27 → z43 = -z14 → z44 = z43 * z2 → z45 = z13 * z3 → z46 = z44 + z45 → z47 = -z46 → z48 = z43 * z41 → z49 = z13 * z42 → z50 = z48 + z49 → z51 = z50 + z47 → z52 = -z51 → z53 = z43 * z52 → z54 = z13 * z52 → z55 = z43 * z43 → z56 = z55 + z15 → z57 = z53 / z56 → z58 = z54 / z56 → z59 = z41 + z57 → z60 = z42 + z58 → z61 = -z19 → z62 = z61 * z4 → z63 = z18 * z5 → z64 = z62 + z63 → z65 = -z64 → z66 = z61 * z41 → z67 = z18 * z42 → z68 = z66 + z67 → z69 = z68 + z65 → z70 = -z69 → z71 = z61 * z70 → z72 = z18 * z70 → z73 = z61 * z61 → z74 = z73 + z20 → z75 = z71 / z74 → z76 = z72 / z74 → z77 = z41 + z75 → z78 = z42 + z76 → z79 = -z7 → z80 = z79 * z0 → z81 = z6 * z1 → z82 = z80 + z81 → z83 = -z82 → z84 = z79 * z41 → z85 = z6 * z42 → z86 = z84 + z85 → z87 = z86 + z83 → z88 = -z87 → z89 = z79 * z88 → z90 = z6 * z88 → z91 = z79 * z79 → z92 = z91 + z23 → z93 = z89 / z92 → z94 = z90 / z92 → z95 = z41 + z93 → z96 = z42 + z94 → z97 = z41 - z59 → z98 = z42 - z60 → z99 = z97 * z97 → z100 = z98 * z98 → z101 = z99 + z100 → z102 = z30 + z101 → z103 = z41 - z77 → z104 = z42 - z78 → z105 = z103 * z103 → z106 = z104 * z104 → z107 = z105 + z106 → z108 = z102 + z107 → z109 = z41 - z95 → z110 = z42 - z96 → z111 = z109 * z109 → z112 = z110 * z110 → z113 = z111 + z112 → z114 = z108 + z113 → z117 = z43 * z115 → z118 = z13 * z116 → z119 = z117 + z118 → z120 = z119 + z47 → z121 = -z120 → z122 = z43 * z121 → z123 = z13 * z121 → z124 = z122 / z56 → z125 = z123 / z56 → z126 = z115 + z124 → z127 = z116 + z125 → z128 = z61 * z115 → z129 = z18 * z116 → z130 = z128 + z129 → z131 = z130 + z65 → z132 = -z131 → z133 = z61 * z132 → z134 = z18 * z132 → z135 = z133 / z74 → z136 = z134 / z74 → z137 = z115 + z135 → z138 = z116 + z136 → z139 = z79 * z115 → z140 = z6 * z116 → z141 = z139 + z140 → z142 = z141 + z83 → z143 = -z142 → z144 = z79 * z143 → z145 = z6 * z143 → z146 = z144 / z92 → z147 = z145 / z92 → z148 = z115 + z146 → z149 = z116 + z147 → z150 = z115 - z126 → z151 = z116 - z127 → z152 = z150 * z150 → z153 = z151 * z151 → z154 = z152 + z153 → z155 = z30 + z154 → z156 = z115 - z137 → z157 = z116 - z138 → z158 = z156 * z156 → z159 = z157 * z157 → z160 = z158 + z159 → z161 = z155 + z160 → z162 = z115 - z148 → z163 = z116 - z149 → z164 = z162 * z162 → z165 = z163 * z163 → z166 = z164 + z165 → z167 = z161 + z166 → z168 = z114 - z167 → (¬ (z12 = 0)) → ¬ (0 < z168) := by
 intro e6 e7 e8 e9 e10 e11 e12 e13 e14 e15 e16 e17 e18 e19 e20 e21 e22 e23 e24 e25 e26 e27 e28 e29 e30 e31 e32 e33 e34 e35 e36 e37 e38 e39 e40 e41 e42 e43 e44 e45 e46 e47 e48 e49 e50 e51 e52 e53 e54 e55 e56 e57 e58 e59 e60 e61 e62 e63 e64 e65 e66 e67 e68 e69 e70 e71 e72 e73 e74 e75 e76 e77 e78 e79 e80 e81 e82 e83 e84 e85 e86 e87 e88 e89 e90 e91 e92 e93 e94 e95 e96 e97 e98 e99 e100 e101 e102 e103 e104 e105 e106 e107 e108 e109 e110 e111 e112 e113 e114 e117 e118 e119 e120 e121 e122 e123 e124 e125 e126 e127 e128 e129 e130 e131 e132 e133 e134 e135 e136 e137 e138 e139 e140 e141 e142 e143 e144 e145 e146 e147 e148 e149 e150 e151 e152 e153 e154 e155 e156 e157 e158 e159 e160 e161 e162 e163 e164 e165 e166 e167 e168 u0
 have pA : 0 < z17 := by
  rw [e17, e15, e16]
  refine sq_pos fun h => u0 ?_
  have x1 : z4 = z2 := by have h1 := h.1; rw [e13] at h1; clear u0; grind
  have x2 : z5 = z3 := by have h1 := h.2; rw [e14] at h1; clear u0; grind
  rw [e12, e10, e11, e6, e7, e8, e9, x1, x2]; clear u0 h; grind
 have pB : 0 < z22 := by
  rw [e22, e20, e21]
  refine sq_pos fun h => u0 ?_
  have x1 : z4 = z0 := by have h1 := h.1; rw [e18] at h1; clear u0; grind
  have x2 : z5 = z1 := by have h1 := h.2; rw [e19] at h1; clear u0; grind
  rw [e12, e10, e11, e6, e7, e8, e9, x1, x2]; clear u0 h; grind
 have pC : 0 < z25 := by
  rw [e25, e23, e24]
  refine sq_pos fun h => u0 ?_
  rw [e12, e10, e11, h.1, h.2]; clear u0 h; grind
 have hS : z27 = z17 + z22 + z25 := by rw [e27, e26]
 have n27 : z27 ≠ 0 := fun h => by rw [h] at hS; clear u0; grind
 have a56 : z56 = z17 := by rw [e56, e55, e43, e17, e16]; clear u0 pA pB pC hS n27; grind
 have a74 : z74 = z22 := by rw [e74, e73, e61, e22, e21]; clear u0 pA pB pC hS n27; grind
 have a92 : z92 = z25 := by rw [e92, e91, e79, e25, e24]; clear u0 pA pB pC hS n27; grind
 have nA : z17 ≠ 0 := fun e => by rw [e] at pA; exact absurd pA (by decide)
 have nB : z22 ≠ 0 := fun e => by rw [e] at pB; exact absurd pB (by decide)
 have nC : z25 ≠ 0 := fun e => by rw [e] at pC; exact absurd pC (by decide)
 have hA2 : z17 = z43 * z43 + z13 * z13 := by rw [← a56, e56, e55, e15]
 have hB2 : z22 = z61 * z61 + z18 * z18 := by rw [← a74, e74, e73, e20]
 have hC2 : z25 = z79 * z79 + z6 * z6 := by rw [← a92, e92, e91, e23]
 have hX : z41 * z27 = 0 + z0 * z17 + z2 * z22 + z4 * z25 := by rw [e41, Rat.div_mul_cancel n27, e39, e35, e31, e30, e28, e33, e37]
 have hZ : z42 * z27 = 0 + z1 * z17 + z3 * z22 + z5 * z25 := by rw [e42, Rat.div_mul_cancel n27, e40, e36, e32, e30, e29, e34, e38]
 have ⟨k0, k1, k2⟩ := lm_m hS hX hZ
 have D : (z2 - z0) * (z5 - z1) - (z3 - z1) * (z4 - z0) = z12 := by rw [e12, e10, e11, e6, e7, e8, e9]
 rw [D] at k0 k1 k2
 have q0 : z51 = -(z5 - z3) * z41 + (z4 - z2) * z42 + -(-(z5 - z3) * z2 + (z4 - z2) * z3) := by rw [e51, e50, e48, e49, e47, e46, e44, e45, e43, e14, e13]
 have q1 : z69 = -(z1 - z5) * z41 + (z0 - z4) * z42 + -(-(z1 - z5) * z4 + (z0 - z4) * z5) := by rw [e69, e68, e66, e67, e65, e64, e62, e63, e61, e19, e18]
 have q2 : z87 = -(z3 - z1) * z41 + (z2 - z0) * z42 + -(-(z3 - z1) * z0 + (z2 - z0) * z1) := by rw [e87, e86, e84, e85, e83, e82, e80, e81, e79, e7, e6]
 rw [← q0] at k0
 rw [← q1] at k1
 rw [← q2] at k2
 have hl : z120 + z131 + z142 = z12 := by rw [← D, e120, e119, e117, e118, e47, e46, e44, e45, e43, e14, e13, e131, e130, e128, e129, e65, e64, e62, e63, e61, e19, e18, e142, e141, e139, e140, e83, e82, e80, e81, e79, e7, e6]; exact lm_l _ _ _ _ _ _ _ _
 have d101 : z101 = z52 * z52 / z17 := by rw [e101, e99, e100, e97, e98, e59, e60, e57, e58, e53, e54, a56]; exact lm_dist hA2 nA
 have d107 : z107 = z70 * z70 / z22 := by rw [e107, e105, e106, e103, e104, e77, e78, e75, e76, e71, e72, a74]; exact lm_dist hB2 nB
 have d113 : z113 = z88 * z88 / z25 := by rw [e113, e111, e112, e109, e110, e95, e96, e93, e94, e89, e90, a92]; exact lm_dist hC2 nC
 have d154 : z154 = z121 * z121 / z17 := by rw [e154, e152, e153, e150, e151, e126, e127, e124, e125, e122, e123, a56]; exact lm_dist hA2 nA
 have d160 : z160 = z132 * z132 / z22 := by rw [e160, e158, e159, e156, e157, e137, e138, e135, e136, e133, e134, a74]; exact lm_dist hB2 nB
 have d166 : z166 = z143 * z143 / z25 := by rw [e166, e164, e165, e162, e163, e148, e149, e146, e147, e144, e145, a92]; exact lm_dist hC2 nC
 have le : z114 ≤ z167 := by
  rw [e114, e108, e102, e30, Rat.zero_add, e167, e161, e155, e30, Rat.zero_add, d101, d107, d113, d154, d160, d166]
  exact lm_main (D := -z12) (S := z27) pA pB pC hS (by rw [e121, e132, e143]; exact lm_n3 hl) (by rw [e52]; exact lm_ng k0) (by rw [e70]; exact lm_ng k1) (by rw [e88]; exact lm_ng k2)
 exact lm_no le e168
theorem triangleLemoine_r0 : (callB (sx Tryz.prog triangleLemoine_N [(0, 12, 0, 1)] [] triangleLemoine_L triangleLemoine_C triangleLemoine_Z (prC [27])) 5 8 [(false, [(true, [.inr (2, 0, 0, 0, 0), .inr (2, 1, 0, 0, 0), .inr (2, 2, 0, 0, 0), .inr (2, 3, 0, 0, 0), .inr (2, 4, 0, 0, 0), .inr (2, 5, 0, 0, 0)])]), (false, [(true, [.inr (2, 6, 0, 0, 0), .inr (2, 7, 0, 0, 0)])])] [] 0).map (·.1) = some (kB true) := by kernel_rfl
theorem triangleLemoine_r1 : (callB (sx Tryz.prog triangleLemoine_N [(0, 12, 0, 0), (0, 27, 0, 0), (2, 168, 0, 0)] [(43, [.inr (3, 0, 0, 0, 0)]), (96, []), (278, []), (279, []), (282, []), (236, []), (123, [.inr (3, 186, 0, 0, 0)]), (119, []), (123, [.inr (3, 391, 0, 0, 0)])] triangleLemoine_L triangleLemoine_C triangleLemoine_Z (prC [27])) 9 8 [(false, [(true, [.inr (2, 0, 0, 0, 0), .inr (2, 1, 0, 0, 0), .inr (2, 2, 0, 0, 0), .inr (2, 3, 0, 0, 0), .inr (2, 4, 0, 0, 0), .inr (2, 5, 0, 0, 0)])]), (false, [(true, [.inr (2, 6, 0, 0, 0), .inr (2, 7, 0, 0, 0)])])] [] 0).map (·.1) = some (kB true) := by kernel_rfl
theorem triangleLemoine_An {a b : Prop} (x : a) (y : b) : a ∧ b := ⟨x, y⟩
theorem triangleLemoine_leaf {H : List (Nat × Nat × Nat × Nat)} {K : List (FuncId × List AC)} {k : Nat} {q : Nat → Rat} {σ : Nat → ByteArray} {args : List AV} {vs : List Value} {w : World} (hr : (callB (sx Tryz.prog triangleLemoine_N H K triangleLemoine_L triangleLemoine_C triangleLemoine_Z (prC [27])) k 8 args [] 0).map (·.1) = some (kB true)) (hσ : ∀ j, (σ j).size ≤ 1048576) (hq : ∀ (a : Nat) nd, triangleLemoine_N[a]? = some nd → q a = valN σ q nd) (h0 : ∀ a, triangleLemoine_N.length ≤ a → q a = 0) (hH : hAll q H) (hp : PreS w) (hA : ∀ K, A2 (avOn (cOn (evS q σ) K (fun _ => none) w)) args vs) : Calls Tryz.prog 8 vs.toArray w fun e w' => Below w.heap.size w w' ∧ e = .returned (.bool true) :=
 run_told' k (hy_ofW hσ triangleLemoine_wf triangleLemoine_sz triangleLemoine_lt triangleLemoine_cn hq h0 hH) (by simp [closed_cornered]) (by kernel_rfl) hr hp (hA K)
theorem triangleLemoine_walk {w : World} {tax taz tbx tbz tcx tcz vx vz : ByteArray} (stax : tax.size ≤ 1048576) (staz : taz.size ≤ 1048576) (stbx : tbx.size ≤ 1048576) (stbz : tbz.size ≤ 1048576) (stcx : tcx.size ≤ 1048576) (stcz : tcz.size ≤ 1048576) (svx : vx.size ≤ 1048576) (svz : vz.size ≤ 1048576) (tab : Tab w) (mx : MaxL w) :
  Calls Tryz.prog 8 #[.agg #[.string tax, .string taz, .string tbx, .string tbz, .string tcx, .string tcz], .agg #[.string vx, .string vz]] w fun e w' => Below w.heap.size w w' ∧ e = .returned (.bool true) := by
 have hσ : ∀ j, (sgOf [tax, taz, tbx, tbz, tcx, tcz, vx, vz] j).size ≤ 1048576 := sgOf_size (by simp [stax, staz, stbx, stbz, stcx, stcz, svx, svz])
 obtain ⟨q, hq, h0⟩ := nodes_exist (sgOf [tax, taz, tbx, tbz, tcx, tcz, vx, vz]) triangleLemoine_N triangleLemoine_wf
 have hA : ∀ K, A2 (avOn (cOn (evS q (sgOf [tax, taz, tbx, tbz, tcx, tcz, vx, vz])) K (fun _ => none) w)) [(false, [(true, [.inr (2, 0, 0, 0, 0), .inr (2, 1, 0, 0, 0), .inr (2, 2, 0, 0, 0), .inr (2, 3, 0, 0, 0), .inr (2, 4, 0, 0, 0), .inr (2, 5, 0, 0, 0)])]), (false, [(true, [.inr (2, 6, 0, 0, 0), .inr (2, 7, 0, 0, 0)])])] [.agg #[.string tax, .string taz, .string tbx, .string tbz, .string tcx, .string tcz], .agg #[.string vx, .string vz]] := fun K => ⟨⟨⟨[.string tax, .string taz, .string tbx, .string tbz, .string tcx, .string tcz], rfl, rfl, rfl, rfl, rfl, rfl, rfl, trivial⟩, trivial⟩, ⟨⟨[.string vx, .string vz], rfl, rfl, rfl, trivial⟩, trivial⟩, trivial⟩
 have E6 : q 6 = q 2 - q 0 := hq 6 _ rfl
 have E7 : q 7 = q 3 - q 1 := hq 7 _ rfl
 have E8 : q 8 = q 4 - q 0 := hq 8 _ rfl
 have E9 : q 9 = q 5 - q 1 := hq 9 _ rfl
 have E10 : q 10 = q 6 * q 9 := hq 10 _ rfl
 have E11 : q 11 = q 7 * q 8 := hq 11 _ rfl
 have E12 : q 12 = q 10 - q 11 := hq 12 _ rfl
 have E13 : q 13 = q 4 - q 2 := hq 13 _ rfl
 have E14 : q 14 = q 5 - q 3 := hq 14 _ rfl
 have E15 : q 15 = q 13 * q 13 := hq 15 _ rfl
 have E16 : q 16 = q 14 * q 14 := hq 16 _ rfl
 have E17 : q 17 = q 15 + q 16 := hq 17 _ rfl
 have E18 : q 18 = q 0 - q 4 := hq 18 _ rfl
 have E19 : q 19 = q 1 - q 5 := hq 19 _ rfl
 have E20 : q 20 = q 18 * q 18 := hq 20 _ rfl
 have E21 : q 21 = q 19 * q 19 := hq 21 _ rfl
 have E22 : q 22 = q 20 + q 21 := hq 22 _ rfl
 have E23 : q 23 = q 6 * q 6 := hq 23 _ rfl
 have E24 : q 24 = q 7 * q 7 := hq 24 _ rfl
 have E25 : q 25 = q 23 + q 24 := hq 25 _ rfl
 have E26 : q 26 = q 17 + q 22 := hq 26 _ rfl
 have E27 : q 27 = q 26 + q 25 := hq 27 _ rfl
 have E28 : q 28 = q 0 * q 17 := hq 28 _ rfl
 have E29 : q 29 = q 1 * q 17 := hq 29 _ rfl
 have E30 : q 30 = 0 := (hq 30 _ rfl).trans triangleLemoine_c30
 have E31 : q 31 = q 30 + q 28 := hq 31 _ rfl
 have E32 : q 32 = q 30 + q 29 := hq 32 _ rfl
 have E33 : q 33 = q 2 * q 22 := hq 33 _ rfl
 have E34 : q 34 = q 3 * q 22 := hq 34 _ rfl
 have E35 : q 35 = q 31 + q 33 := hq 35 _ rfl
 have E36 : q 36 = q 32 + q 34 := hq 36 _ rfl
 have E37 : q 37 = q 4 * q 25 := hq 37 _ rfl
 have E38 : q 38 = q 5 * q 25 := hq 38 _ rfl
 have E39 : q 39 = q 35 + q 37 := hq 39 _ rfl
 have E40 : q 40 = q 36 + q 38 := hq 40 _ rfl
 have E41 : q 41 = q 39 / q 27 := hq 41 _ rfl
 have E42 : q 42 = q 40 / q 27 := hq 42 _ rfl
 have E43 : q 43 = -q 14 := hq 43 _ rfl
 have E44 : q 44 = q 43 * q 2 := hq 44 _ rfl
 have E45 : q 45 = q 13 * q 3 := hq 45 _ rfl
 have E46 : q 46 = q 44 + q 45 := hq 46 _ rfl
 have E47 : q 47 = -q 46 := hq 47 _ rfl
 have E48 : q 48 = q 43 * q 41 := hq 48 _ rfl
 have E49 : q 49 = q 13 * q 42 := hq 49 _ rfl
 have E50 : q 50 = q 48 + q 49 := hq 50 _ rfl
 have E51 : q 51 = q 50 + q 47 := hq 51 _ rfl
 have E52 : q 52 = -q 51 := hq 52 _ rfl
 have E53 : q 53 = q 43 * q 52 := hq 53 _ rfl
 have E54 : q 54 = q 13 * q 52 := hq 54 _ rfl
 have E55 : q 55 = q 43 * q 43 := hq 55 _ rfl
 have E56 : q 56 = q 55 + q 15 := hq 56 _ rfl
 have E57 : q 57 = q 53 / q 56 := hq 57 _ rfl
 have E58 : q 58 = q 54 / q 56 := hq 58 _ rfl
 have E59 : q 59 = q 41 + q 57 := hq 59 _ rfl
 have E60 : q 60 = q 42 + q 58 := hq 60 _ rfl
 have E61 : q 61 = -q 19 := hq 61 _ rfl
 have E62 : q 62 = q 61 * q 4 := hq 62 _ rfl
 have E63 : q 63 = q 18 * q 5 := hq 63 _ rfl
 have E64 : q 64 = q 62 + q 63 := hq 64 _ rfl
 have E65 : q 65 = -q 64 := hq 65 _ rfl
 have E66 : q 66 = q 61 * q 41 := hq 66 _ rfl
 have E67 : q 67 = q 18 * q 42 := hq 67 _ rfl
 have E68 : q 68 = q 66 + q 67 := hq 68 _ rfl
 have E69 : q 69 = q 68 + q 65 := hq 69 _ rfl
 have E70 : q 70 = -q 69 := hq 70 _ rfl
 have E71 : q 71 = q 61 * q 70 := hq 71 _ rfl
 have E72 : q 72 = q 18 * q 70 := hq 72 _ rfl
 have E73 : q 73 = q 61 * q 61 := hq 73 _ rfl
 have E74 : q 74 = q 73 + q 20 := hq 74 _ rfl
 have E75 : q 75 = q 71 / q 74 := hq 75 _ rfl
 have E76 : q 76 = q 72 / q 74 := hq 76 _ rfl
 have E77 : q 77 = q 41 + q 75 := hq 77 _ rfl
 have E78 : q 78 = q 42 + q 76 := hq 78 _ rfl
 have E79 : q 79 = -q 7 := hq 79 _ rfl
 have E80 : q 80 = q 79 * q 0 := hq 80 _ rfl
 have E81 : q 81 = q 6 * q 1 := hq 81 _ rfl
 have E82 : q 82 = q 80 + q 81 := hq 82 _ rfl
 have E83 : q 83 = -q 82 := hq 83 _ rfl
 have E84 : q 84 = q 79 * q 41 := hq 84 _ rfl
 have E85 : q 85 = q 6 * q 42 := hq 85 _ rfl
 have E86 : q 86 = q 84 + q 85 := hq 86 _ rfl
 have E87 : q 87 = q 86 + q 83 := hq 87 _ rfl
 have E88 : q 88 = -q 87 := hq 88 _ rfl
 have E89 : q 89 = q 79 * q 88 := hq 89 _ rfl
 have E90 : q 90 = q 6 * q 88 := hq 90 _ rfl
 have E91 : q 91 = q 79 * q 79 := hq 91 _ rfl
 have E92 : q 92 = q 91 + q 23 := hq 92 _ rfl
 have E93 : q 93 = q 89 / q 92 := hq 93 _ rfl
 have E94 : q 94 = q 90 / q 92 := hq 94 _ rfl
 have E95 : q 95 = q 41 + q 93 := hq 95 _ rfl
 have E96 : q 96 = q 42 + q 94 := hq 96 _ rfl
 have E97 : q 97 = q 41 - q 59 := hq 97 _ rfl
 have E98 : q 98 = q 42 - q 60 := hq 98 _ rfl
 have E99 : q 99 = q 97 * q 97 := hq 99 _ rfl
 have E100 : q 100 = q 98 * q 98 := hq 100 _ rfl
 have E101 : q 101 = q 99 + q 100 := hq 101 _ rfl
 have E102 : q 102 = q 30 + q 101 := hq 102 _ rfl
 have E103 : q 103 = q 41 - q 77 := hq 103 _ rfl
 have E104 : q 104 = q 42 - q 78 := hq 104 _ rfl
 have E105 : q 105 = q 103 * q 103 := hq 105 _ rfl
 have E106 : q 106 = q 104 * q 104 := hq 106 _ rfl
 have E107 : q 107 = q 105 + q 106 := hq 107 _ rfl
 have E108 : q 108 = q 102 + q 107 := hq 108 _ rfl
 have E109 : q 109 = q 41 - q 95 := hq 109 _ rfl
 have E110 : q 110 = q 42 - q 96 := hq 110 _ rfl
 have E111 : q 111 = q 109 * q 109 := hq 111 _ rfl
 have E112 : q 112 = q 110 * q 110 := hq 112 _ rfl
 have E113 : q 113 = q 111 + q 112 := hq 113 _ rfl
 have E114 : q 114 = q 108 + q 113 := hq 114 _ rfl
 have E117 : q 117 = q 43 * q 115 := hq 117 _ rfl
 have E118 : q 118 = q 13 * q 116 := hq 118 _ rfl
 have E119 : q 119 = q 117 + q 118 := hq 119 _ rfl
 have E120 : q 120 = q 119 + q 47 := hq 120 _ rfl
 have E121 : q 121 = -q 120 := hq 121 _ rfl
 have E122 : q 122 = q 43 * q 121 := hq 122 _ rfl
 have E123 : q 123 = q 13 * q 121 := hq 123 _ rfl
 have E124 : q 124 = q 122 / q 56 := hq 124 _ rfl
 have E125 : q 125 = q 123 / q 56 := hq 125 _ rfl
 have E126 : q 126 = q 115 + q 124 := hq 126 _ rfl
 have E127 : q 127 = q 116 + q 125 := hq 127 _ rfl
 have E128 : q 128 = q 61 * q 115 := hq 128 _ rfl
 have E129 : q 129 = q 18 * q 116 := hq 129 _ rfl
 have E130 : q 130 = q 128 + q 129 := hq 130 _ rfl
 have E131 : q 131 = q 130 + q 65 := hq 131 _ rfl
 have E132 : q 132 = -q 131 := hq 132 _ rfl
 have E133 : q 133 = q 61 * q 132 := hq 133 _ rfl
 have E134 : q 134 = q 18 * q 132 := hq 134 _ rfl
 have E135 : q 135 = q 133 / q 74 := hq 135 _ rfl
 have E136 : q 136 = q 134 / q 74 := hq 136 _ rfl
 have E137 : q 137 = q 115 + q 135 := hq 137 _ rfl
 have E138 : q 138 = q 116 + q 136 := hq 138 _ rfl
 have E139 : q 139 = q 79 * q 115 := hq 139 _ rfl
 have E140 : q 140 = q 6 * q 116 := hq 140 _ rfl
 have E141 : q 141 = q 139 + q 140 := hq 141 _ rfl
 have E142 : q 142 = q 141 + q 83 := hq 142 _ rfl
 have E143 : q 143 = -q 142 := hq 143 _ rfl
 have E144 : q 144 = q 79 * q 143 := hq 144 _ rfl
 have E145 : q 145 = q 6 * q 143 := hq 145 _ rfl
 have E146 : q 146 = q 144 / q 92 := hq 146 _ rfl
 have E147 : q 147 = q 145 / q 92 := hq 147 _ rfl
 have E148 : q 148 = q 115 + q 146 := hq 148 _ rfl
 have E149 : q 149 = q 116 + q 147 := hq 149 _ rfl
 have E150 : q 150 = q 115 - q 126 := hq 150 _ rfl
 have E151 : q 151 = q 116 - q 127 := hq 151 _ rfl
 have E152 : q 152 = q 150 * q 150 := hq 152 _ rfl
 have E153 : q 153 = q 151 * q 151 := hq 153 _ rfl
 have E154 : q 154 = q 152 + q 153 := hq 154 _ rfl
 have E155 : q 155 = q 30 + q 154 := hq 155 _ rfl
 have E156 : q 156 = q 115 - q 137 := hq 156 _ rfl
 have E157 : q 157 = q 116 - q 138 := hq 157 _ rfl
 have E158 : q 158 = q 156 * q 156 := hq 158 _ rfl
 have E159 : q 159 = q 157 * q 157 := hq 159 _ rfl
 have E160 : q 160 = q 158 + q 159 := hq 160 _ rfl
 have E161 : q 161 = q 155 + q 160 := hq 161 _ rfl
 have E162 : q 162 = q 115 - q 148 := hq 162 _ rfl
 have E163 : q 163 = q 116 - q 149 := hq 163 _ rfl
 have E164 : q 164 = q 162 * q 162 := hq 164 _ rfl
 have E165 : q 165 = q 163 * q 163 := hq 165 _ rfl
 have E166 : q 166 = q 164 + q 165 := hq 166 _ rfl
 have E167 : q 167 = q 161 + q 166 := hq 167 _ rfl
 have E168 : q 168 = q 114 - q 167 := hq 168 _ rfl
 by_cases b12 : q 12 = 0
 ·
  exact triangleLemoine_leaf triangleLemoine_r0 hσ hq h0 (triangleLemoine_An (hT b12) trivial) ⟨tab, mx⟩ hA
 ·
  have b27 : ¬ (q 27 = 0) := triangleLemoine_f1 E6 E7 E8 E9 E10 E11 E12 E13 E14 E15 E16 E17 E18 E19 E20 E21 E22 E23 E24 E25 E26 E27 b12
  have a_2_168_0 : ¬ (0 < q 168) := triangleLemoine_f2 E6 E7 E8 E9 E10 E11 E12 E13 E14 E15 E16 E17 E18 E19 E20 E21 E22 E23 E24 E25 E26 E27 E28 E29 E30 E31 E32 E33 E34 E35 E36 E37 E38 E39 E40 E41 E42 E43 E44 E45 E46 E47 E48 E49 E50 E51 E52 E53 E54 E55 E56 E57 E58 E59 E60 E61 E62 E63 E64 E65 E66 E67 E68 E69 E70 E71 E72 E73 E74 E75 E76 E77 E78 E79 E80 E81 E82 E83 E84 E85 E86 E87 E88 E89 E90 E91 E92 E93 E94 E95 E96 E97 E98 E99 E100 E101 E102 E103 E104 E105 E106 E107 E108 E109 E110 E111 E112 E113 E114 E117 E118 E119 E120 E121 E122 E123 E124 E125 E126 E127 E128 E129 E130 E131 E132 E133 E134 E135 E136 E137 E138 E139 E140 E141 E142 E143 E144 E145 E146 E147 E148 E149 E150 E151 E152 E153 E154 E155 E156 E157 E158 E159 E160 E161 E162 E163 E164 E165 E166 E167 E168 b12
  exact triangleLemoine_leaf triangleLemoine_r1 hσ hq h0 (triangleLemoine_An (hF b12) (triangleLemoine_An (hF b27) (triangleLemoine_An (hF a_2_168_0) trivial))) ⟨tab, mx⟩ hA
end Go.Proofs.YtkcikcnimkofkaaGreatDoor
