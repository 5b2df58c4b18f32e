/- Part 13 of the walks and of the mathematics under them: VY VSZ CFcornered MGU. -/
import Derived.Test.YtkcikcnimkofkaaGreatDoorA12
set_option maxHeartbeats 16000000
set_option maxRecDepth 100000
/- VY -/
namespace Go.Proofs.YtkcikcnimkofkaaGreatDoor
open Go.RowKit Cx
theorem den_num (t : Rat) : t * (t.den : Rat) = ((t.num : Int) : Rat) := by
 conv => lhs; lhs; rw [← Rat.mkRat_self t]
 have h0 : (t.den : Rat) ≠ 0 := fun h => t.den_nz (by exact_mod_cast h)
 rw [Rat.mkRat_eq_div, Rat.div_mul_cancel h0]
theorem whole {q : Rat} (h : q.den = 1) : q = ((q.num : Int) : Rat) := by
 have := den_num q
 rw [h] at this
 rw [← this]
 show q = q * ((1 : Nat) : Rat)
 exact (Rat.mul_one q).symm
end Go.Proofs.YtkcikcnimkofkaaGreatDoor
/- VSZ -/
namespace Go.Proofs.YtkcikcnimkofkaaGreatDoor
open Go.RowKit Cx
def szW (Z : List Nat) (I : List Bool) (z : Nat) (b : Bool) (nd : Nd) : Bool := match nd.1, nd.2 with
 | 0, [_, n, d] => (Nat.blt n (2 ^ z) && (Nat.blt 0 d && Nat.blt d (2 ^ z))) && (!b || Nat.beq d 1)
 | 1, [_] => Nat.ble 3495259 z && !b
 | 2, [a, c] => (match Z[a]?, Z[c]?, I[a]?, I[c]? with
  | some x, some y, some true, some true => Nat.ble (Nat.max x y + 1) z
  | some x, some y, _, _ => Nat.ble (x + y + 1) z && !b
  | _, _, _, _ => false)
 | 3, [a, c] => (match Z[a]?, Z[c]?, I[a]?, I[c]? with
  | some x, some y, some true, some true => Nat.ble (Nat.max x y + 1) z
  | some x, some y, _, _ => Nat.ble (x + y + 1) z && !b
  | _, _, _, _ => false)
 | 4, [a, c] => (match Z[a]?, Z[c]?, I[a]?, I[c]? with
  | some x, some y, some true, some true => Nat.ble (x + y) z
  | some x, some y, _, _ => Nat.ble (x + y) z && !b
  | _, _, _, _ => false)
 | 5, [a] => (match Z[a]?, I[a]? with
  | some x, some true => Nat.ble x z
  | some x, _ => Nat.ble x z && !b
  | _, _ => false)
 | 6, [a, c] => (match Z[a]?, Z[c]? with
  | some x, some y => Nat.ble (x + y) z && !b
  | _, _ => false)
 | 8, i :: xs => (match getsO Z xs with
  | some zs => Nat.blt i xs.length && (Nat.ble ((xs.length + 1) * maxL zs + 1) z || (xs.all (fun a => match I[a]? with
   | some true => true
   | _ => false) && (match xs[i]? with
   | some a => (match Z[a]? with
    | some x => Nat.ble (x + 1) z
    | none => false)
   | none => false)))
  | none => false)
 | _, _ => false
def szC (Z : List Nat) (I : List Bool) : List Nd → List Nat → List Bool → Bool
 | [], [], [] => true
 | nd :: ns, z :: zs, b :: bs => (szW Z I z b nd && Nat.ble z 1000000000000) && szC Z I ns zs bs
 | _, _, _ => false
theorem szC_get {Z : List Nat} {I : List Bool} : ∀ {ns : List Nd} {zs : List Nat} {bs : List Bool} {i z : Nat}, szC Z I ns zs bs = true → zs[i]? = some z → ∃ nd b, ns[i]? = some nd ∧ bs[i]? = some b ∧ szW Z I z b nd = true ∧ z ≤ 1000000000000
 | [], [], [], _, _, _, h => by simp at h
 | [], [], _ :: _, _, _, h, _ => by cases h
 | [], _ :: _, _, _, _, h, _ => by cases h
 | _ :: _, [], _, _, _, h, _ => by cases h
 | _ :: _, _ :: _, [], _, _, h, _ => by cases h
 | nd :: ns, z' :: zs, b :: bs, 0, z, h, e => by
  have : z' = z := by simpa using e
  subst this
  unfold szC at h
  simp only [Bool.and_eq_true, Nat.ble_eq] at h
  exact ⟨nd, b, rfl, rfl, h.1.1, h.1.2⟩
 | nd :: ns, z' :: zs, b :: bs, i + 1, z, h, e => by
  unfold szC at h
  rw [Bool.and_eq_true] at h
  obtain ⟨nd2, b2, g1, g2, g3⟩ := szC_get (ns := ns) (zs := zs) (bs := bs) h.2 (show zs[i]? = some z by simpa using e)
  exact ⟨nd2, b2, by simpa using g1, by simpa using g2, g3⟩
theorem szC_len {Z : List Nat} {I : List Bool} : ∀ {ns : List Nd} {zs : List Nat} {bs : List Bool}, szC Z I ns zs bs = true → ns.length = zs.length
 | [], [], [], _ => rfl
 | [], [], _ :: _, h => by cases h
 | [], _ :: _, _, h => by cases h
 | _ :: _, [], _, h => by cases h
 | _ :: _, _ :: _, [], h => by cases h
 | _ :: _, _ :: _, _ :: _, h => by
  unfold szC at h
  rw [Bool.and_eq_true] at h
  exact congrArg (· + 1) (szC_len h.2)
structure QW (z : Nat) (x : Rat) : Prop where
 qs : QS z x
 wh : x.den = 1
theorem QW.of {z : Nat} {n : Int} (h : n.natAbs < 2 ^ z) (hz : 0 < z) : QW z ((n : Int) : Rat) :=
 ⟨⟨by simpa using h, by
  show ((n : Int) : Rat).den < 2 ^ z
  rw [Rat.den_intCast]
  exact Nat.one_lt_two_pow (by omega)⟩, Rat.den_intCast n⟩
theorem QW.mono {k l : Nat} {x : Rat} (h : QW k x) (hk : k ≤ l) : QW l x := ⟨h.qs.mono hk, h.wh⟩
theorem two_max {a b x y : Nat} (h1 : a < 2 ^ x) (h2 : b < 2 ^ y) : a + b < 2 ^ (Nat.max x y + 1) := by
 have e1 : 2 ^ x ≤ 2 ^ Nat.max x y := Nat.pow_le_pow_right (by decide) (Nat.le_max_left x y)
 have e2 : 2 ^ y ≤ 2 ^ Nat.max x y := Nat.pow_le_pow_right (by decide) (Nat.le_max_right x y)
 rw [Nat.pow_succ]
 omega
theorem QW.add {x y : Nat} {a b : Rat} (h1 : QW x a) (h2 : QW y b) : QW (Nat.max x y + 1) (a + b) := by
 rw [whole h1.wh, whole h2.wh, ← Rat.intCast_add]
 refine QW.of ?_ (by omega)
 have := two_max h1.qs.num h2.qs.num
 omega
theorem QW.sub {x y : Nat} {a b : Rat} (h1 : QW x a) (h2 : QW y b) : QW (Nat.max x y + 1) (a - b) := by
 rw [whole h1.wh, whole h2.wh, ← Rat.intCast_sub]
 refine QW.of ?_ (by omega)
 have := two_max h1.qs.num h2.qs.num
 omega
theorem QW.mul {x y : Nat} {a b : Rat} (h1 : QW x a) (h2 : QW y b) : QW (x + y) (a * b) := by
 refine ⟨h1.qs.mul h2.qs, ?_⟩
 rw [whole h1.wh, whole h2.wh, ← Rat.intCast_mul]
 exact Rat.den_intCast _
theorem QW.neg {x : Nat} {a : Rat} (h1 : QW x a) : QW x (-a) := ⟨h1.qs.neg, h1.wh⟩
theorem lD_one : ∀ {qs : List Rat} {m : Nat}, (∀ q ∈ qs, q.den = 1) → qs.foldl (fun m q => m * (q.den / Nat.gcd m q.den)) m = m
 | [], _, _ => rfl
 | q :: qs, m, h => by
  rw [List.foldl_cons, h q List.mem_cons_self, Nat.gcd_one_right, Nat.div_self (by decide), Nat.mul_one]
  exact lD_one fun p hp => h p (List.mem_cons_of_mem _ hp)
theorem QW.fac {z : Nat} {qs : List Rat} {x : Rat} (hx : QS z x) (h : x ∈ qs) (hw : ∀ y ∈ qs, y.den = 1) : QS (z + 1) (x * fac qs) := by
 have hl : lD qs = 1 := lD_one hw
 refine ⟨?_, ?_⟩
 ·rw [fac_abs h, hl, hw x h, Nat.div_self (by decide), Nat.mul_one]
  exact Nat.lt_of_le_of_lt (Nat.div_le_self _ _) (Nat.lt_of_lt_of_le hx.num (Nat.pow_le_pow_right (by decide) (by omega)))
 ·rw [fac_den h]
  exact Nat.one_lt_two_pow (by omega)
theorem ten_three : ∀ n : Nat, 10 ^ n ≤ 2 ^ ((10 * n + 2) / 3)
 | 0 => by decide
 | 1 => by decide
 | 2 => by decide
 | n + 3 => by
  have h := ten_three n
  have e : (10 * (n + 3) + 2) / 3 = (10 * n + 2) / 3 + 10 := by omega
  rw [e, Nat.pow_add, Nat.pow_add]
  exact Nat.mul_le_mul h (by decide)
theorem QS.rd3 (l : List UInt8) : QS ((10 * l.length + 2) / 3 + 5) (Cx.rd l) := by
 have key : ∀ {m : List UInt8}, digs m = true → dv m < 2 ^ ((10 * m.length + 2) / 3) := fun {m} h => Nat.lt_of_lt_of_le (dv_lt (digs_all h)) (ten_three _)
 unfold Cx.rd
 split
 ·rename_i h
  rw [Bool.and_eq_true] at h
  have h1 := key h.1
  have h2 := key h.2
  have h3 := up_len (tailOf l)
  have h4 := low_len (tailOf l)
  have h5 := tail_len l
  apply QS.mkr
  ·rw [sg_abs]; exact Nat.lt_of_lt_of_le h1 (Nat.pow_le_pow_right (by decide) (by omega))
  ·exact Nat.lt_of_lt_of_le h2 (Nat.pow_le_pow_right (by decide) (by omega))
 ·exact QS.zero.mono (by omega)
section
variable {N : List Nd} {Z : List Nat} {I : List Bool} {q : Nat → Rat}
theorem sizes_okW {σ : Nat → ByteArray} (hσ : ∀ j, (σ j).size ≤ 1048576) (hw : wfB 0 N = true) (hz : szC Z I N Z I = true) (hq : ∀ (a : Nat) nd, N[a]? = some nd → q a = valN σ q nd) (h0 : ∀ a, N.length ≤ a → q a = 0) : (∀ (a : Nat) z, Z[a]? = some z → QS z (q a)) ∧ ∀ a, QS 1000000000000 (q a) := by
 have h2 : ∀ (a : Nat) z, Z[a]? = some z → QS z (q a) ∧ (I[a]? = some true → (q a).den = 1) := by
  intro a
  induction a using Nat.strongRecOn with
  | ind a ih =>
   intro z hz'
   obtain ⟨nd, b, hn, hb, hs, _⟩ := szC_get hz hz'
   have hwf := wfB_get hw hn
   rw [Nat.zero_add] at hwf
   rw [hq a nd hn, hb]
   obtain ⟨op, xs⟩ := nd
   unfold szW at hs
   unfold valN
   unfold wfN at hwf
   dsimp only at hs hwf ⊢
   have W : ∀ {c x}, c < a → Z[c]? = some x → I[c]? = some true → QW x (q c) := fun hc hx hi => ⟨(ih _ hc _ hx).1, (ih _ hc _ hx).2 hi⟩
   have no : ∀ {v : Rat}, b = false → (some b = some true → v.den = 1) := fun e h => by rw [e] at h; cases h
   split at hs
   ·rename_i s n d
    simp only [Bool.and_eq_true] at hs
    obtain ⟨⟨h1, h2, h3⟩, h4⟩ := hs
    refine ⟨QS.const (by simpa [Nat.blt_eq] using h1) (by simpa [Nat.blt_eq] using h2) (by simpa [Nat.blt_eq] using h3), fun e => ?_⟩
    rw [show b = true from Option.some.inj e] at h4
    have hd : d = 1 := by simpa using h4
    subst hd
    show (if s = 0 then mkRat (n : Int) 1 else mkRat (-(n : Int)) 1).den = 1
    split
    ·rw [Rat.mkRat_one]
     exact Rat.den_intCast _
    ·rw [Rat.mkRat_one]
     exact Rat.den_intCast _
   ·rename_i j
    simp only [Bool.and_eq_true, Nat.ble_eq, Bool.not_eq_true'] at hs
    exact ⟨QS.mono (QS.rd3 _) (by have := hσ j; rw [str_len]; omega), no hs.2⟩
   ·simp only [List.all_cons, List.all_nil, Bool.and_true, Bool.and_eq_true] at hwf
    have l1 := (by simpa [Nat.blt_eq] using hwf.1 : _ < a)
    have l2 := (by simpa [Nat.blt_eq] using hwf.2 : _ < a)
    split at hs
    ·rename_i x y hx hy i1 i2
     rw [Nat.ble_eq] at hs
     have := ((W l1 hx i1).add (W l2 hy i2)).mono hs
     exact ⟨this.qs, fun _ => this.wh⟩
    ·rename_i x y hx hy _
     simp only [Bool.and_eq_true, Nat.ble_eq, Bool.not_eq_true'] at hs
     exact ⟨((ih _ l1 x hx).1.add (ih _ l2 y hy).1).mono hs.1, no hs.2⟩
    ·cases hs
   ·simp only [List.all_cons, List.all_nil, Bool.and_true, Bool.and_eq_true] at hwf
    have l1 := (by simpa [Nat.blt_eq] using hwf.1 : _ < a)
    have l2 := (by simpa [Nat.blt_eq] using hwf.2 : _ < a)
    split at hs
    ·rename_i x y hx hy i1 i2
     rw [Nat.ble_eq] at hs
     have := ((W l1 hx i1).sub (W l2 hy i2)).mono hs
     exact ⟨this.qs, fun _ => this.wh⟩
    ·rename_i x y hx hy _
     simp only [Bool.and_eq_true, Nat.ble_eq, Bool.not_eq_true'] at hs
     exact ⟨((ih _ l1 x hx).1.sub (ih _ l2 y hy).1).mono hs.1, no hs.2⟩
    ·cases hs
   ·simp only [List.all_cons, List.all_nil, Bool.and_true, Bool.and_eq_true] at hwf
    have l1 := (by simpa [Nat.blt_eq] using hwf.1 : _ < a)
    have l2 := (by simpa [Nat.blt_eq] using hwf.2 : _ < a)
    split at hs
    ·rename_i x y hx hy i1 i2
     rw [Nat.ble_eq] at hs
     have := ((W l1 hx i1).mul (W l2 hy i2)).mono hs
     exact ⟨this.qs, fun _ => this.wh⟩
    ·rename_i x y hx hy _
     simp only [Bool.and_eq_true, Nat.ble_eq, Bool.not_eq_true'] at hs
     exact ⟨((ih _ l1 x hx).1.mul (ih _ l2 y hy).1).mono hs.1, no hs.2⟩
    ·cases hs
   ·simp only [List.all_cons, List.all_nil, Bool.and_true] at hwf
    have l1 := (by simpa [Nat.blt_eq] using hwf : _ < a)
    split at hs
    ·rename_i x hx i1
     rw [Nat.ble_eq] at hs
     have := (W l1 hx i1).neg.mono hs
     exact ⟨this.qs, fun _ => this.wh⟩
    ·rename_i x hx _
     simp only [Bool.and_eq_true, Nat.ble_eq, Bool.not_eq_true'] at hs
     exact ⟨((ih _ l1 x hx).1.neg).mono hs.1, no hs.2⟩
    ·cases hs
   ·simp only [List.all_cons, List.all_nil, Bool.and_true, Bool.and_eq_true] at hwf
    split at hs
    ·rename_i x y hx hy
     simp only [Bool.and_eq_true, Nat.ble_eq, Bool.not_eq_true'] at hs
     exact ⟨((ih _ (by simpa [Nat.blt_eq] using hwf.1) x hx).1.div (ih _ (by simpa [Nat.blt_eq] using hwf.2) y hy).1).mono hs.1, no hs.2⟩
    ·cases hs
   ·rename_i i ys
    split at hs
    ·rename_i zs hzs
     rw [Bool.and_eq_true] at hs
     have hi : i < ys.length := by simpa [Nat.blt_eq] using hs.1
     have hwf' : ys.all (Nat.blt · a) = true := hwf
     rw [List.all_eq_true] at hwf'
     have hlt : ∀ c ∈ ys, c < a := fun c hc => by simpa [Nat.blt_eq] using hwf' c hc
     have hm : q ys[i] ∈ ys.map q := List.mem_map_of_mem (List.getElem_mem hi)
     have hg : (ys.map q).getD i 0 = q ys[i] := by
      rw [List.getD_eq_getElem?_getD, List.getElem?_map, List.getElem?_eq_getElem hi]
      rfl
     show QS z ((ys.map q).getD i 0 * fac (ys.map q)) ∧ (some b = some true → ((ys.map q).getD i 0 * fac (ys.map q)).den = 1)
     rw [hg]
     refine ⟨?_, fun _ => fac_den hm⟩
     rcases Bool.or_eq_true _ _ ▸ hs.2 with h3 | h3
     ·rw [Nat.ble_eq] at h3
      have hall : ∀ y ∈ ys.map q, QS (maxL zs) y := fun y hy => by
       obtain ⟨c, hc, rfl⟩ := List.mem_map.1 hy
       obtain ⟨z', hm', hz2⟩ := getsO_get hzs c hc
       exact (ih c (hlt c hc) z' hz2).1.mono (le_maxL z' hm')
      have := QS.facN hall (x := q ys[i]) hm
      rw [List.length_map] at this
      exact this.mono h3
     ·rw [Bool.and_eq_true, List.all_eq_true] at h3
      obtain ⟨h4, h5⟩ := h3
      have hwh : ∀ y ∈ ys.map q, y.den = 1 := fun y hy => by
       obtain ⟨c, hc, rfl⟩ := List.mem_map.1 hy
       obtain ⟨z', _, hz2⟩ := getsO_get hzs c hc
       refine (ih c (hlt c hc) z' hz2).2 ?_
       have := h4 c hc
       split at this
       ·assumption
       ·cases this
      rw [List.getElem?_eq_getElem hi] at h5
      dsimp only at h5
      split at h5
      ·rename_i x hx
       rw [Nat.ble_eq] at h5
       exact (QW.fac (ih _ (hlt _ (List.getElem_mem hi)) x hx).1 hm hwh).mono h5
      ·cases h5
    ·cases hs
   ·cases hs
 refine ⟨fun a z h => (h2 a z h).1, fun a => ?_⟩
 have hl := szC_len hz
 by_cases ha : a < Z.length
 ·obtain ⟨nd, b, _, _, _, hle⟩ := szC_get hz (List.getElem?_eq_getElem ha)
  exact (h2 a _ (List.getElem?_eq_getElem ha)).1.mono hle
 ·rw [h0 a (by omega)]
  exact QS.zero.mono (by decide)
theorem hy_ofW {L C : List (List Nat × Nat)} {σ : Nat → ByteArray} {H : List (Nat × Nat × Nat × Nat)} (hσ : ∀ j, (σ j).size ≤ 1048576) (hw : wfB 0 N = true) (hz : szC Z I N Z I = true) (hl : litB N L = true) (hcn : canB N C = true) (hq : ∀ (a : Nat) nd, N[a]? = some nd → q a = valN σ q nd) (h0 : ∀ a, N.length ≤ a → q a = 0) (hH : hAll q H) : Hy N H L C Z q σ where
 nat := hq
 qs := (sizes_okW hσ hw hz hq h0).2
 zs := (sizes_okW hσ hw hz hq h0).1
 par := hσ
 lit := fun s b h => lit_rd hl hq h
 k0 := fun a r h => kn_at hH h
 k1 := fun a r h => kn_at hH h
 k2 := fun a r h => kn_at hH h
 k3 := fun a b r h => kn_at hH h
 k4 := fun l a b r h1 h2 => by
  have h3 : Nat.beq 1 r = true ↔ q a = q b := kn_at hH h2
  rw [h3, ← can_tx hcn hq h1]
  exact ⟨fun e => by rw [e], fun e => tellS_inj (bytesN_inj e)⟩
 k6 := fun a b r h => kn_at hH h
 k5 := fun a r h => kn_at hH h
end
end Go.Proofs.YtkcikcnimkofkaaGreatDoor
/- CFcornered -/
namespace Go.Proofs.YtkcikcnimkofkaaGreatDoor
open Go.RowKit Cx
theorem closed_cornered : Closed 27 :=
 closed_told (N := [(0, [0, 0, 1]), (0, [0, 4, 1]), (0, [0, 3, 1]), (3, [1, 0]), (3, [0, 0]), (3, [2, 0]), (4, [3, 5]), (4, [4, 4]), (3, [6, 7]), (3, [0, 1]), (4, [9, 9]), (4, [5, 5]), (2, [10, 11]), (3, [0, 2]), (4, [13, 13]), (2, [7, 14]), (4, [3, 3]), (2, [16, 7]), (5, [12]), (2, [15, 17]), (2, [19, 18]), (4, [12, 20]), (5, [15]), (2, [17, 12]), (2, [23, 22]), (4, [15, 24]), (5, [17]), (2, [12, 15]), (2, [27, 26]), (4, [17, 28]), (2, [21, 25]), (2, [30, 29]), (4, [0, 21]), (2, [0, 32]), (4, [1, 25]), (4, [0, 25]), (2, [33, 34]), (2, [33, 35]), (4, [0, 29]), (4, [2, 29]), (2, [36, 38]), (2, [37, 39]), (6, [40, 31]), (6, [41, 31]), (2, [12, 17]), (2, [44, 22]), (4, [28, 45]), (2, [15, 12]), (2, [47, 26]), (4, [20, 48]), (2, [17, 15]), (2, [50, 18]), (4, [24, 51]), (2, [46, 49]), (2, [53, 52]), (4, [0, 46]), (2, [0, 55]), (4, [1, 49]), (4, [0, 49]), (2, [56, 57]), (2, [56, 58]), (4, [0, 52]), (4, [2, 52]), (2, [59, 61]), (2, [60, 62]), (6, [63, 54]), (6, [64, 54]), (0, [0, 2, 1]), (0, [0, 3, 2]), (0, [0, 25, 1]), (0, [0, 9, 1]), (0, [0, 16, 1])]) (H := [(0, 8, 0, 0), (0, 31, 0, 0), (0, 54, 0, 0), (4, 42, 67, 1), (4, 43, 68, 1), (4, 65, 0, 1), (4, 66, 0, 1), (4, 12, 69, 1), (4, 15, 70, 1), (4, 17, 71, 1)]) (K := [(96, []), (278, []), (279, []), (236, []), (114, [])]) (L := [([48], 0), ([52], 1), ([51], 2), ([50], 67), ([51, 47, 50], 68), ([50, 53], 69), ([57], 70), ([49, 54], 71)]) (C := [([50], 67), ([51, 47, 50], 68), ([48], 0), ([50, 53], 69), ([57], 70), ([49, 54], 71)]) (Z := [2, 4, 3, 7, 5, 6, 13, 10, 24, 7, 14, 12, 27, 6, 12, 23, 14, 25, 27, 49, 77, 104, 23, 53, 77, 100, 25, 51, 77, 102, 205, 308, 106, 109, 104, 102, 214, 212, 104, 105, 319, 318, 627, 626, 53, 77, 154, 51, 77, 154, 49, 77, 154, 309, 464, 156, 159, 158, 156, 318, 316, 156, 157, 475, 474, 939, 938, 3, 3, 6, 5, 6]) (cl := []) 8 (fun _ h => by cases h) (by kernel_rfl) (by kernel_rfl) (by kernel_rfl) (by kernel_rfl) (by kernel_rfl) (by kernel_rfl) (by kernel_rfl)
end Go.Proofs.YtkcikcnimkofkaaGreatDoor
/- MGU -/
namespace Go.Proofs.YtkcikcnimkofkaaGreatDoor
open Go.RowKit Cx
def triangleRouth_N : List Nd := [(1, [0]), (1, [1]), (1, [2]), (1, [3]), (1, [4]), (1, [5]), (3, [2, 0]), (3, [3, 1]), (3, [4, 0]), (3, [5, 1]), (4, [6, 9]), (4, [7, 8]), (3, [10, 11]), (1, [6]), (3, [4, 2]), (3, [5, 3]), (4, [14, 13]), (4, [15, 13]), (2, [2, 16]), (2, [3, 17]), (1, [7]), (3, [0, 4]), (3, [1, 5]), (4, [21, 20]), (4, [22, 20]), (2, [4, 23]), (2, [5, 24]), (1, [8]), (4, [6, 27]), (4, [7, 27]), (2, [0, 28]), (2, [1, 29]), (0, [0, 1, 1]), (3, [18, 0]), (3, [19, 1]), (5, [34]), (4, [35, 0]), (4, [33, 1]), (2, [36, 37]), (5, [38]), (8, [0, 35, 33, 39]), (8, [1, 35, 33, 39]), (8, [2, 35, 33, 39]), (3, [25, 2]), (3, [26, 3]), (5, [44]), (4, [45, 2]), (4, [43, 3]), (2, [46, 47]), (5, [48]), (8, [0, 45, 43, 49]), (8, [1, 45, 43, 49]), (8, [2, 45, 43, 49]), (3, [30, 4]), (3, [31, 5]), (5, [54]), (4, [55, 4]), (4, [53, 5]), (2, [56, 57]), (5, [58]), (8, [0, 55, 53, 59]), (8, [1, 55, 53, 59]), (8, [2, 55, 53, 59]), (4, [40, 51]), (4, [41, 50]), (3, [63, 64]), (4, [50, 42]), (4, [51, 42]), (4, [40, 52]), (4, [41, 52]), (3, [66, 68]), (3, [67, 69]), (5, [71]), (6, [72, 65]), (6, [70, 65]), (4, [50, 61]), (4, [51, 60]), (3, [75, 76]), (4, [60, 52]), (4, [61, 52]), (4, [50, 62]), (4, [51, 62]), (3, [78, 80]), (3, [79, 81]), (5, [83]), (6, [84, 77]), (6, [82, 77]), (4, [60, 41]), (4, [61, 40]), (3, [87, 88]), (4, [40, 62]), (4, [41, 62]), (4, [60, 42]), (4, [61, 42]), (3, [90, 92]), (3, [91, 93]), (5, [95]), (6, [96, 89]), (6, [94, 89]), (3, [32, 13]), (3, [32, 20]), (3, [32, 27]), (4, [13, 20]), (4, [102, 27]), (4, [99, 100]), (4, [104, 101]), (3, [103, 105]), (4, [106, 106]), (4, [20, 99]), (3, [32, 108]), (4, [32, 109]), (4, [27, 100]), (3, [32, 111]), (4, [110, 112]), (4, [13, 101]), (3, [32, 114]), (4, [113, 115]), (3, [85, 73]), (3, [86, 74]), (3, [97, 73]), (3, [98, 74]), (4, [117, 120]), (4, [118, 119]), (3, [121, 122]), (4, [123, 116]), (4, [12, 107])]
def triangleRouth_L : List (List Nat × Nat) := []
def triangleRouth_C : List (List Nat × Nat) := []
def triangleRouth_Z : List Nat := [3495259, 3495259, 3495259, 3495259, 3495259, 3495259, 6990519, 6990519, 6990519, 6990519, 13981038, 13981038, 27962077, 3495259, 6990519, 6990519, 10485778, 10485778, 13981038, 13981038, 3495259, 6990519, 6990519, 10485778, 10485778, 13981038, 13981038, 3495259, 10485778, 10485778, 13981038, 13981038, 2, 17476298, 17476298, 17476298, 20971557, 20971557, 41943115, 41943115, 167772461, 167772461, 167772461, 17476298, 17476298, 17476298, 20971557, 20971557, 41943115, 41943115, 167772461, 167772461, 167772461, 17476298, 17476298, 17476298, 20971557, 20971557, 41943115, 41943115, 167772461, 167772461, 167772461, 335544922, 335544922, 335544923, 335544922, 335544922, 335544922, 335544922, 335544923, 335544923, 335544923, 671089846, 671089846, 335544922, 335544922, 335544923, 335544922, 335544922, 335544922, 335544922, 335544923, 335544923, 335544923, 671089846, 671089846, 335544922, 335544922, 335544923, 335544922, 335544922, 335544922, 335544922, 335544923, 335544923, 335544923, 671089846, 671089846, 3495262, 3495262, 3495262, 6990518, 10485777, 6990524, 10485786, 20971564, 41943128, 6990521, 6990524, 6990526, 6990521, 6990524, 13981050, 6990521, 6990524, 20971574, 1342179693, 1342179693, 1342179693, 1342179693, 2684359386, 2684359386, 5368718773, 5389690347, 69905205]
def triangleRouth_I : List Bool := [false, false, false, false, false, false, false, false, false, false, false, false, false, false, false, false, false, false, false, false, false, false, false, false, false, false, false, false, false, false, false, false, true, false, false, false, false, false, false, false, true, true, true, false, false, false, false, false, false, false, true, true, true, false, false, false, false, false, false, false, true, true, true, true, true, true, true, true, true, true, true, true, true, false, false, true, true, true, true, true, true, true, true, true, true, false, false, true, true, true, true, true, true, true, true, true, true, false, false, false, false, false, false, false, false, false, false, false, false, false, false, false, false, false, false, false, false, false, false, false, false, false, false, false, false, false]
theorem triangleRouth_wf : wfB 0 triangleRouth_N = true := by kernel_rfl
theorem triangleRouth_sz : szC triangleRouth_Z triangleRouth_I triangleRouth_N triangleRouth_Z triangleRouth_I = true := by kernel_rfl
theorem triangleRouth_lt : litB triangleRouth_N triangleRouth_L = true := by kernel_rfl
theorem triangleRouth_cn : canB triangleRouth_N triangleRouth_C = true := by kernel_rfl
theorem triangleRouth_c32 : cst 0 1 1 = (1 : Rat) := by decide +kernel
theorem rt_meet {ax az bx bz dx dz ex ez g h p1 p2 p3 q1 q2 q3 M X Z : Rat} (hp1 : p1 = -dz * g) (hp2 : p2 = dx * g) (hp3 : p3 = -(-dz * ax + dx * az) * g) (hq1 : q1 = -ez * h) (hq2 : q2 = ex * h) (hq3 : q3 = -(-ez * bx + ex * bz) * h) (hM : M = p1 * q2 - p2 * q1) (h0 : M ≠ 0) (hX : X = -(q2 * p3 - p2 * q3) / M) (hZ : Z = (q1 * p3 - p1 * q3) / M) :
  (X - ax) * (dx * ez - dz * ex) = ((bx - ax) * ez - (bz - az) * ex) * dx ∧ (Z - az) * (dx * ez - dz * ex) = ((bx - ax) * ez - (bz - az) * ex) * dz := by
 have x1 : X * M = -(q2 * p3 - p2 * q3) := by rw [hX]; exact Rat.div_mul_cancel h0
 have z1 : Z * M = q1 * p3 - p1 * q3 := by rw [hZ]; exact Rat.div_mul_cancel h0
 clear hX hZ
 have m1 : M = (g * h) * (dx * ez - dz * ex) := by rw [hM, hp1, hp2, hq1, hq2]; grind
 have n : g * h ≠ 0 := fun e => h0 (by rw [m1, e, Rat.zero_mul])
 rw [m1] at x1 z1
 subst hp1 hp2 hp3 hq1 hq2 hq3
 clear hM h0 m1
 constructor
 ·have e : ((X - ax) * (dx * ez - dz * ex) - ((bx - ax) * ez - (bz - az) * ex) * dx) * (g * h) = 0 := by
   have : ((X - ax) * (dx * ez - dz * ex) - ((bx - ax) * ez - (bz - az) * ex) * dx) * (g * h) = X * (g * h * (dx * ez - dz * ex)) - (ax * (dx * ez - dz * ex) + ((bx - ax) * ez - (bz - az) * ex) * dx) * (g * h) := by clear x1 z1 n; grind
   rw [this, x1]
   clear x1 z1 n this
   grind
  have := (Rat.mul_eq_zero.1 e).resolve_right n
  clear x1 z1 e n
  grind
 ·have e : ((Z - az) * (dx * ez - dz * ex) - ((bx - ax) * ez - (bz - az) * ex) * dz) * (g * h) = 0 := by
   have : ((Z - az) * (dx * ez - dz * ex) - ((bx - ax) * ez - (bz - az) * ex) * dz) * (g * h) = Z * (g * h * (dx * ez - dz * ex)) - (az * (dx * ez - dz * ex) + ((bx - ax) * ez - (bz - az) * ex) * dz) * (g * h) := by clear x1 z1 n; grind
   rw [this, z1]
   clear x1 z1 n this
   grind
  have := (Rat.mul_eq_zero.1 e).resolve_right n
  clear x1 z1 e n
  grind
theorem rt_part {D W c x a d m r : Rat} (hD : D ≠ 0) (h : (x - a) * m = r * d) (hm : m = D * W) (hr : r = c * D) : (x - a) * W = c * d := by
 rw [hm, hr] at h
 have e : ((x - a) * W - c * d) * D = 0 := by grind
 have := (Rat.mul_eq_zero.1 e).resolve_right hD
 grind
theorem rt_core {ux uz vx vz k0 k1 k2 D W0 W1 W2 x0 z0 x1 z1 x2 z2 S : Rat} (hD : D = ux * vz - uz * vx) (w0 : W0 = 1 - k1 * (1 - k0)) (w1 : W1 = 1 - k2 * (1 - k1)) (w2 : W2 = 1 - k0 * (1 - k2))
  (hx0 : x0 * W0 = (1 - k1) * ((1 - k0) * ux + k0 * vx)) (hz0 : z0 * W0 = (1 - k1) * ((1 - k0) * uz + k0 * vz)) (hx1 : (x1 - ux) * W1 = (1 - k2) * ((1 - k1) * vx - ux)) (hz1 : (z1 - uz) * W1 = (1 - k2) * ((1 - k1) * vz - uz)) (hx2 : (x2 - vx) * W2 = (1 - k0) * (k2 * ux - vx)) (hz2 : (z2 - vz) * W2 = (1 - k0) * (k2 * uz - vz))
  (hS : S = (x1 - x0) * (z2 - z0) - (z1 - z0) * (x2 - x0)) : S * (W0 * W1 * W2) = D * ((k0 * k1 * k2 - (1 - k0) * (1 - k1) * (1 - k2)) * (k0 * k1 * k2 - (1 - k0) * (1 - k1) * (1 - k2))) := by
 have a1 : x1 * W1 = k1 * k2 * ux + (1 - k1) * (1 - k2) * vx := by
  have : x1 * W1 = (x1 - ux) * W1 + ux * W1 := by clear hx0 hz0 hx1 hz1 hx2 hz2; grind
  rw [this, hx1, w1]; clear hx0 hz0 hx1 hz1 hx2 hz2 this hS; grind
 have b1 : z1 * W1 = k1 * k2 * uz + (1 - k1) * (1 - k2) * vz := by
  have : z1 * W1 = (z1 - uz) * W1 + uz * W1 := by clear hx0 hz0 hx1 hz1 hx2 hz2; grind
  rw [this, hz1, w1]; clear hx0 hz0 hx1 hz1 hx2 hz2 this hS; grind
 have a2 : x2 * W2 = (1 - k0) * k2 * ux + k0 * k2 * vx := by
  have : x2 * W2 = (x2 - vx) * W2 + vx * W2 := by clear hx0 hz0 hx1 hz1 hx2 hz2; grind
  rw [this, hx2, w2]; clear hx0 hz0 hx1 hz1 hx2 hz2 this hS; grind
 have b2 : z2 * W2 = (1 - k0) * k2 * uz + k0 * k2 * vz := by
  have : z2 * W2 = (z2 - vz) * W2 + vz * W2 := by clear hx0 hz0 hx1 hz1 hx2 hz2; grind
  rw [this, hz2, w2]; clear hx0 hz0 hx1 hz1 hx2 hz2 this hS; grind
 have e : S * (W0 * W1 * W2) = ((x1 * W1) * (z2 * W2) - (z1 * W1) * (x2 * W2)) * W0 + ((x0 * W0) * (z1 * W1) - (z0 * W0) * (x1 * W1)) * W2 + ((x2 * W2) * (z0 * W0) - (z2 * W2) * (x0 * W0)) * W1 := by
  rw [hS]; clear hx0 hz0 hx1 hz1 hx2 hz2 hS a1 b1 a2 b2 w0 w1 w2 hD; grind
 rw [e, a1, b1, a2, b2, hx0, hz0, w0, w1, w2, hD]
 clear hx0 hz0 hx1 hz1 hx2 hz2 hS a1 b1 a2 b2 w0 w1 w2 hD e
 grind
theorem rt_c0 (ax az bx bz cx cz k0 k1 : Rat) : ((bx + (cx - bx) * k0) - ax) * ((cz + (az - cz) * k1) - bz) - ((bz + (cz - bz) * k0) - az) * ((cx + (ax - cx) * k1) - bx) = ((bx - ax) * (cz - az) - (bz - az) * (cx - ax)) * (1 - k1 * (1 - k0)) := by grind
theorem rt_c1 (ax az bx bz cx cz k1 k2 : Rat) : ((cx + (ax - cx) * k1) - bx) * ((az + (bz - az) * k2) - cz) - ((cz + (az - cz) * k1) - bz) * ((ax + (bx - ax) * k2) - cx) = ((bx - ax) * (cz - az) - (bz - az) * (cx - ax)) * (1 - k2 * (1 - k1)) := by grind
theorem rt_c2 (ax az bx bz cx cz k0 k2 : Rat) : ((ax + (bx - ax) * k2) - cx) * ((bz + (cz - bz) * k0) - az) - ((az + (bz - az) * k2) - cz) * ((bx + (cx - bx) * k0) - ax) = ((bx - ax) * (cz - az) - (bz - az) * (cx - ax)) * (1 - k0 * (1 - k2)) := by grind
theorem rt_r0 (ax az bx bz cx cz k1 : Rat) : (bx - ax) * ((cz + (az - cz) * k1) - bz) - (bz - az) * ((cx + (ax - cx) * k1) - bx) = (1 - k1) * ((bx - ax) * (cz - az) - (bz - az) * (cx - ax)) := by grind
theorem rt_r1 (ax az bx bz cx cz k2 : Rat) : (cx - bx) * ((az + (bz - az) * k2) - cz) - (cz - bz) * ((ax + (bx - ax) * k2) - cx) = (1 - k2) * ((bx - ax) * (cz - az) - (bz - az) * (cx - ax)) := by grind
theorem rt_r2 (ax az bx bz cx cz k0 : Rat) : (ax - cx) * ((bz + (cz - bz) * k0) - az) - (az - cz) * ((bx + (cx - bx) * k0) - ax) = (1 - k0) * ((bx - ax) * (cz - az) - (bz - az) * (cx - ax)) := by grind
theorem rt_d {x y w c d e : Rat} (h : (x - y) * w = c * d) (hd : d = e) : (x - y) * w = c * e := by rw [h, hd]
theorem rt_e0 (a b c k : Rat) : (b + (c - b) * k) - a = (1 - k) * (b - a) + k * (c - a) := by grind
theorem rt_e1 (a b c k : Rat) : (c + (a - c) * k) - b = (1 - k) * (c - a) - (b - a) := by grind
theorem rt_e2 (a b c k : Rat) : (a + (b - a) * k) - c = k * (b - a) - (c - a) := by grind
theorem rt_sh (x a y : Rat) : x - a - (y - a) = x - y := by grind
theorem triangleRouth_f1 {z0 z1 z2 z3 z4 z5 z6 z7 z8 z9 z10 z11 z12 z13 z14 z15 z16 z17 z18 z19 z33 z34 z35 : Rat} : z6 = z2 - z0 → z7 = z3 - z1 → z8 = z4 - z0 → z9 = z5 - z1 → z10 = z6 * z9 → z11 = z7 * z8 → z12 = z10 - z11 → z14 = z4 - z2 → z15 = z5 - z3 → z16 = z14 * z13 → z17 = z15 * z13 → z18 = z2 + z16 → z19 = z3 + z17 → z33 = z18 - z0 → z34 = z19 - z1 → z35 = -z34 → (¬ (z12 = 0)) → ¬ (z35 = 0 ∧ z33 = 0) := by
 intro e6 e7 e8 e9 e10 e11 e12 e14 e15 e16 e17 e18 e19 e33 e34 e35 u0
 subst_vars; grind
theorem triangleRouth_f2 {z0 z1 z2 z3 z4 z5 z6 z7 z8 z9 z10 z11 z12 z20 z21 z22 z23 z24 z25 z26 z43 z44 z45 : Rat} : z6 = z2 - z0 → z7 = z3 - z1 → z8 = z4 - z0 → z9 = z5 - z1 → z10 = z6 * z9 → z11 = z7 * z8 → z12 = z10 - z11 → z21 = z0 - z4 → z22 = z1 - z5 → z23 = z21 * z20 → z24 = z22 * z20 → z25 = z4 + z23 → z26 = z5 + z24 → z43 = z25 - z2 → z44 = z26 - z3 → z45 = -z44 → (¬ (z12 = 0)) → ¬ (z45 = 0 ∧ z43 = 0) := by
 intro e6 e7 e8 e9 e10 e11 e12 e21 e22 e23 e24 e25 e26 e43 e44 e45 u0
 subst_vars; grind
theorem triangleRouth_f3 {z0 z1 z2 z3 z4 z5 z6 z7 z8 z9 z10 z11 z12 z27 z28 z29 z30 z31 z53 z54 z55 : Rat} : z6 = z2 - z0 → z7 = z3 - z1 → z8 = z4 - z0 → z9 = z5 - z1 → z10 = z6 * z9 → z11 = z7 * z8 → z12 = z10 - z11 → z28 = z6 * z27 → z29 = z7 * z27 → z30 = z0 + z28 → z31 = z1 + z29 → z53 = z30 - z4 → z54 = z31 - z5 → z55 = -z54 → (¬ (z12 = 0)) → ¬ (z55 = 0 ∧ z53 = 0) := by
 intro e6 e7 e8 e9 e10 e11 e12 e28 e29 e30 e31 e53 e54 e55 u0
 subst_vars; grind
theorem triangleRouth_f4 {z0 z1 z2 z3 z4 z5 z6 z7 z8 z9 z10 z11 z12 z13 z14 z15 z16 z17 z18 z19 z33 z34 z35 z36 z37 z38 z39 z40 z41 : Rat} : z6 = z2 - z0 → z7 = z3 - z1 → z8 = z4 - z0 → z9 = z5 - z1 → z10 = z6 * z9 → z11 = z7 * z8 → z12 = z10 - z11 → z14 = z4 - z2 → z15 = z5 - z3 → z16 = z14 * z13 → z17 = z15 * z13 → z18 = z2 + z16 → z19 = z3 + z17 → z33 = z18 - z0 → z34 = z19 - z1 → z35 = -z34 → z36 = z35 * z0 → z37 = z33 * z1 → z38 = z36 + z37 → z39 = -z38 → z40 = z35 * fac [z35, z33, z39] → z41 = z33 * fac [z35, z33, z39] → (¬ (z12 = 0)) → ¬ (z40 = 0 ∧ z41 = 0) := by
 intro e6 e7 e8 e9 e10 e11 e12 e14 e15 e16 e17 e18 e19 e33 e34 e35 e36 e37 e38 e39 e40 e41 u0
 have k0_33 : fac [z35, z33, z39] = 0 → z33 = 0 := fac_zero (by simp)
 have k0_35 : fac [z35, z33, z39] = 0 → z35 = 0 := fac_zero (by simp)
 have k0_39 : fac [z35, z33, z39] = 0 → z39 = 0 := fac_zero (by simp)
 generalize fac [z35, z33, z39] = g0 at *
 subst_vars; grind
theorem triangleRouth_f5 {z0 z1 z2 z3 z4 z5 z6 z7 z8 z9 z10 z11 z12 z20 z21 z22 z23 z24 z25 z26 z43 z44 z45 z46 z47 z48 z49 z50 z51 : Rat} : z6 = z2 - z0 → z7 = z3 - z1 → z8 = z4 - z0 → z9 = z5 - z1 → z10 = z6 * z9 → z11 = z7 * z8 → z12 = z10 - z11 → z21 = z0 - z4 → z22 = z1 - z5 → z23 = z21 * z20 → z24 = z22 * z20 → z25 = z4 + z23 → z26 = z5 + z24 → z43 = z25 - z2 → z44 = z26 - z3 → z45 = -z44 → z46 = z45 * z2 → z47 = z43 * z3 → z48 = z46 + z47 → z49 = -z48 → z50 = z45 * fac [z45, z43, z49] → z51 = z43 * fac [z45, z43, z49] → (¬ (z12 = 0)) → ¬ (z50 = 0 ∧ z51 = 0) := by
 intro e6 e7 e8 e9 e10 e11 e12 e21 e22 e23 e24 e25 e26 e43 e44 e45 e46 e47 e48 e49 e50 e51 u0
 have k0_43 : fac [z45, z43, z49] = 0 → z43 = 0 := fac_zero (by simp)
 have k0_45 : fac [z45, z43, z49] = 0 → z45 = 0 := fac_zero (by simp)
 have k0_49 : fac [z45, z43, z49] = 0 → z49 = 0 := fac_zero (by simp)
 generalize fac [z45, z43, z49] = g0 at *
 subst_vars; grind
theorem triangleRouth_f6 {z0 z1 z2 z3 z4 z5 z6 z7 z8 z9 z10 z11 z12 z27 z28 z29 z30 z31 z53 z54 z55 z56 z57 z58 z59 z60 z61 : Rat} : z6 = z2 - z0 → z7 = z3 - z1 → z8 = z4 - z0 → z9 = z5 - z1 → z10 = z6 * z9 → z11 = z7 * z8 → z12 = z10 - z11 → z28 = z6 * z27 → z29 = z7 * z27 → z30 = z0 + z28 → z31 = z1 + z29 → z53 = z30 - z4 → z54 = z31 - z5 → z55 = -z54 → z56 = z55 * z4 → z57 = z53 * z5 → z58 = z56 + z57 → z59 = -z58 → z60 = z55 * fac [z55, z53, z59] → z61 = z53 * fac [z55, z53, z59] → (¬ (z12 = 0)) → ¬ (z60 = 0 ∧ z61 = 0) := by
 intro e6 e7 e8 e9 e10 e11 e12 e28 e29 e30 e31 e53 e54 e55 e56 e57 e58 e59 e60 e61 u0
 have k0_53 : fac [z55, z53, z59] = 0 → z53 = 0 := fac_zero (by simp)
 have k0_55 : fac [z55, z53, z59] = 0 → z55 = 0 := fac_zero (by simp)
 have k0_59 : fac [z55, z53, z59] = 0 → z59 = 0 := fac_zero (by simp)
 generalize fac [z55, z53, z59] = g0 at *
 subst_vars; grind
theorem triangleRouth_f7 {z0 z1 z2 z3 z4 z5 z6 z7 z13 z14 z15 z16 z17 z18 z19 z20 z21 z22 z23 z24 z25 z26 z27 z28 z29 z30 z31 z32 z33 z34 z35 z36 z37 z38 z39 z40 z41 z43 z44 z45 z46 z47 z48 z49 z50 z51 z53 z54 z55 z56 z57 z58 z59 z60 z61 z63 z64 z65 z75 z76 z77 z87 z88 z89 z99 z100 z101 z108 z109 z110 z111 z112 z113 z114 z115 z116 : Rat} : z6 = z2 - z0 → z7 = z3 - z1 → z14 = z4 - z2 → z15 = z5 - z3 → z16 = z14 * z13 → z17 = z15 * z13 → z18 = z2 + z16 → z19 = z3 + z17 → z21 = z0 - z4 → z22 = z1 - z5 → z23 = z21 * z20 → z24 = z22 * z20 → z25 = z4 + z23 → z26 = z5 + z24 → z28 = z6 * z27 → z29 = z7 * z27 → z30 = z0 + z28 → z31 = z1 + z29 → z32 = 1 → z33 = z18 - z0 → z34 = z19 - z1 → z35 = -z34 → z36 = z35 * z0 → z37 = z33 * z1 → z38 = z36 + z37 → z39 = -z38 → z40 = z35 * fac [z35, z33, z39] → z41 = z33 * fac [z35, z33, z39] → z43 = z25 - z2 → z44 = z26 - z3 → z45 = -z44 → z46 = z45 * z2 → z47 = z43 * z3 → z48 = z46 + z47 → z49 = -z48 → z50 = z45 * fac [z45, z43, z49] → z51 = z43 * fac [z45, z43, z49] → z53 = z30 - z4 → z54 = z31 - z5 → z55 = -z54 → z56 = z55 * z4 → z57 = z53 * z5 → z58 = z56 + z57 → z59 = -z58 → z60 = z55 * fac [z55, z53, z59] → z61 = z53 * fac [z55, z53, z59] → z63 = z40 * z51 → z64 = z41 * z50 → z65 = z63 - z64 → z75 = z50 * z61 → z76 = z51 * z60 → z77 = z75 - z76 → z87 = z60 * z41 → z88 = z61 * z40 → z89 = z87 - z88 → z99 = z32 - z13 → z100 = z32 - z20 → z101 = z32 - z27 → z108 = z20 * z99 → z109 = z32 - z108 → z110 = z32 * z109 → z111 = z27 * z100 → z112 = z32 - z111 → z113 = z110 * z112 → z114 = z13 * z101 → z115 = z32 - z114 → z116 = z113 * z115 → (¬ (z65 = 0)) → (¬ (z77 = 0)) → (¬ (z89 = 0)) → ¬ (z116 = 0) := by
 intro e6 e7 e14 e15 e16 e17 e18 e19 e21 e22 e23 e24 e25 e26 e28 e29 e30 e31 e32 e33 e34 e35 e36 e37 e38 e39 e40 e41 e43 e44 e45 e46 e47 e48 e49 e50 e51 e53 e54 e55 e56 e57 e58 e59 e60 e61 e63 e64 e65 e75 e76 e77 e87 e88 e89 e99 e100 e101 e108 e109 e110 e111 e112 e113 e114 e115 e116 u1 u2 u3
 have k0_33 : fac [z35, z33, z39] = 0 → z33 = 0 := fac_zero (by simp)
 have k0_35 : fac [z35, z33, z39] = 0 → z35 = 0 := fac_zero (by simp)
 have k0_39 : fac [z35, z33, z39] = 0 → z39 = 0 := fac_zero (by simp)
 generalize fac [z35, z33, z39] = g0 at *
 have k1_43 : fac [z45, z43, z49] = 0 → z43 = 0 := fac_zero (by simp)
 have k1_45 : fac [z45, z43, z49] = 0 → z45 = 0 := fac_zero (by simp)
 have k1_49 : fac [z45, z43, z49] = 0 → z49 = 0 := fac_zero (by simp)
 generalize fac [z45, z43, z49] = g1 at *
 have k2_53 : fac [z55, z53, z59] = 0 → z53 = 0 := fac_zero (by simp)
 have k2_55 : fac [z55, z53, z59] = 0 → z55 = 0 := fac_zero (by simp)
 have k2_59 : fac [z55, z53, z59] = 0 → z59 = 0 := fac_zero (by simp)
 generalize fac [z55, z53, z59] = g2 at *
 subst_vars; grind
theorem triangleRouth_f8 {z0 z1 z2 z3 z4 z5 z6 z7 z8 z9 z10 z11 z12 z13 z14 z15 z16 z17 z18 z19 z20 z21 z22 z23 z24 z25 z26 z27 z28 z29 z30 z31 z32 z33 z34 z35 z36 z37 z38 z39 z40 z41 z42 z43 z44 z45 z46 z47 z48 z49 z50 z51 z52 z53 z54 z55 z56 z57 z58 z59 z60 z61 z62 z63 z64 z65 z66 z67 z68 z69 z70 z71 z72 z73 z74 z75 z76 z77 z78 z79 z80 z81 z82 z83 z84 z85 z86 z87 z88 z89 z90 z91 z92 z93 z94 z95 z96 z97 z98 z99 z100 z101 z102 z103 z104 z105 z106 z107 z108 z109 z110 z111 z112 z113 z114 z115 z116 z117 z118 z119 z120 z121 z122 z123 z124 z125 : Rat} : z6 = z2 - z0 → z7 = z3 - z1 → z8 = z4 - z0 → z9 = z5 - z1 → z10 = z6 * z9 → z11 = z7 * z8 → z12 = z10 - z11 → z14 = z4 - z2 → z15 = z5 - z3 → z16 = z14 * z13 → z17 = z15 * z13 → z18 = z2 + z16 → z19 = z3 + z17 → z21 = z0 - z4 → z22 = z1 - z5 → z23 = z21 * z20 → z24 = z22 * z20 → z25 = z4 + z23 → z26 = z5 + z24 → z28 = z6 * z27 → z29 = z7 * z27 → z30 = z0 + z28 → z31 = z1 + z29 → z32 = 1 → z33 = z18 - z0 → z34 = z19 - z1 → z35 = -z34 → z36 = z35 * z0 → z37 = z33 * z1 → z38 = z36 + z37 → z39 = -z38 → z40 = z35 * fac [z35, z33, z39] → z41 = z33 * fac [z35, z33, z39] → z42 = z39 * fac [z35, z33, z39] → z43 = z25 - z2 → z44 = z26 - z3 → z45 = -z44 → z46 = z45 * z2 → z47 = z43 * z3 → z48 = z46 + z47 → z49 = -z48 → z50 = z45 * fac [z45, z43, z49] → z51 = z43 * fac [z45, z43, z49] → z52 = z49 * fac [z45, z43, z49] → z53 = z30 - z4 → z54 = z31 - z5 → z55 = -z54 → z56 = z55 * z4 → z57 = z53 * z5 → z58 = z56 + z57 → z59 = -z58 → z60 = z55 * fac [z55, z53, z59] → z61 = z53 * fac [z55, z53, z59] → z62 = z59 * fac [z55, z53, z59] → z63 = z40 * z51 → z64 = z41 * z50 → z65 = z63 - z64 → z66 = z50 * z42 → z67 = z51 * z42 → z68 = z40 * z52 → z69 = z41 * z52 → z70 = z66 - z68 → z71 = z67 - z69 → z72 = -z71 → z73 = z72 / z65 → z74 = z70 / z65 → z75 = z50 * z61 → z76 = z51 * z60 → z77 = z75 - z76 → z78 = z60 * z52 → z79 = z61 * z52 → z80 = z50 * z62 → z81 = z51 * z62 → z82 = z78 - z80 → z83 = z79 - z81 → z84 = -z83 → z85 = z84 / z77 → z86 = z82 / z77 → z87 = z60 * z41 → z88 = z61 * z40 → z89 = z87 - z88 → z90 = z40 * z62 → z91 = z41 * z62 → z92 = z60 * z42 → z93 = z61 * z42 → z94 = z90 - z92 → z95 = z91 - z93 → z96 = -z95 → z97 = z96 / z89 → z98 = z94 / z89 → z99 = z32 - z13 → z100 = z32 - z20 → z101 = z32 - z27 → z102 = z13 * z20 → z103 = z102 * z27 → z104 = z99 * z100 → z105 = z104 * z101 → z106 = z103 - z105 → z107 = z106 * z106 → z108 = z20 * z99 → z109 = z32 - z108 → z110 = z32 * z109 → z111 = z27 * z100 → z112 = z32 - z111 → z113 = z110 * z112 → z114 = z13 * z101 → z115 = z32 - z114 → z116 = z113 * z115 → z117 = z85 - z73 → z118 = z86 - z74 → z119 = z97 - z73 → z120 = z98 - z74 → z121 = z117 * z120 → z122 = z118 * z119 → z123 = z121 - z122 → z124 = z123 * z116 → z125 = z12 * z107 → (¬ (z12 = 0)) → (¬ (z65 = 0)) → (¬ (z77 = 0)) → (¬ (z89 = 0)) → z124 = z125 := by
 intro e6 e7 e8 e9 e10 e11 e12 e14 e15 e16 e17 e18 e19 e21 e22 e23 e24 e25 e26 e28 e29 e30 e31 e32 e33 e34 e35 e36 e37 e38 e39 e40 e41 e42 e43 e44 e45 e46 e47 e48 e49 e50 e51 e52 e53 e54 e55 e56 e57 e58 e59 e60 e61 e62 e63 e64 e65 e66 e67 e68 e69 e70 e71 e72 e73 e74 e75 e76 e77 e78 e79 e80 e81 e82 e83 e84 e85 e86 e87 e88 e89 e90 e91 e92 e93 e94 e95 e96 e97 e98 e99 e100 e101 e102 e103 e104 e105 e106 e107 e108 e109 e110 e111 e112 e113 e114 e115 e116 e117 e118 e119 e120 e121 e122 e123 e124 e125 u0 u1 u2 u3
 generalize fac [z35, z33, z39] = g0 at *
 generalize fac [z45, z43, z49] = g1 at *
 generalize fac [z55, z53, z59] = g2 at *
 have ⟨mx0, mz0⟩ := rt_meet (ax := z0) (az := z1) (bx := z2) (bz := z3) (dx := z33) (dz := z34) (ex := z43) (ez := z44) (p1 := z40) (p2 := z41) (p3 := z42) (q1 := z50) (q2 := z51) (q3 := z52) (M := z65) (X := z73) (Z := z74) (by rw [e40, e35]) e41 (by rw [e42, e39, e38, e36, e37, e35]) (by rw [e50, e45]) e51 (by rw [e52, e49, e48, e46, e47, e45]) (by rw [e65, e63, e64]) u1 (by rw [e73, e72, e71, e67, e69]) (by rw [e74, e70, e66, e68])
 have hm0 : z33 * z44 - z34 * z43 = z12 * z109 := by rw [e33, e18, e16, e14, e44, e26, e24, e22, e34, e19, e17, e15, e43, e25, e23, e21, e12, e10, e11, e6, e7, e8, e9, e109, e108, e99, e32]; exact rt_c0 z0 z1 z2 z3 z4 z5 z13 z20
 have hr0 : (z2 - z0) * z44 - (z3 - z1) * z43 = (1 - z20) * z12 := by rw [e44, e26, e24, e22, e43, e25, e23, e21, e12, e10, e11, e6, e7, e8, e9]; exact rt_r0 z0 z1 z2 z3 z4 z5 z20
 have fx0 := rt_part u0 mx0 hm0 hr0
 have fz0 := rt_part u0 mz0 hm0 hr0
 have ⟨mx1, mz1⟩ := rt_meet (ax := z2) (az := z3) (bx := z4) (bz := z5) (dx := z43) (dz := z44) (ex := z53) (ez := z54) (p1 := z50) (p2 := z51) (p3 := z52) (q1 := z60) (q2 := z61) (q3 := z62) (M := z77) (X := z85) (Z := z86) (by rw [e50, e45]) e51 (by rw [e52, e49, e48, e46, e47, e45]) (by rw [e60, e55]) e61 (by rw [e62, e59, e58, e56, e57, e55]) (by rw [e77, e75, e76]) u2 (by rw [e85, e84, e83, e79, e81]) (by rw [e86, e82, e78, e80])
 have hm1 : z43 * z54 - z44 * z53 = z12 * z112 := by rw [e43, e25, e23, e21, e54, e31, e29, e7, e44, e26, e24, e22, e53, e30, e28, e6, e12, e10, e11, e6, e7, e8, e9, e112, e111, e100, e32]; exact rt_c1 z0 z1 z2 z3 z4 z5 z20 z27
 have hr1 : (z4 - z2) * z54 - (z5 - z3) * z53 = (1 - z27) * z12 := by rw [e54, e31, e29, e7, e53, e30, e28, e6, e12, e10, e11, e6, e7, e8, e9]; exact rt_r1 z0 z1 z2 z3 z4 z5 z27
 have fx1 := rt_part u0 mx1 hm1 hr1
 have fz1 := rt_part u0 mz1 hm1 hr1
 have ⟨mx2, mz2⟩ := rt_meet (ax := z4) (az := z5) (bx := z0) (bz := z1) (dx := z53) (dz := z54) (ex := z33) (ez := z34) (p1 := z60) (p2 := z61) (p3 := z62) (q1 := z40) (q2 := z41) (q3 := z42) (M := z89) (X := z97) (Z := z98) (by rw [e60, e55]) e61 (by rw [e62, e59, e58, e56, e57, e55]) (by rw [e40, e35]) e41 (by rw [e42, e39, e38, e36, e37, e35]) (by rw [e89, e87, e88]) u3 (by rw [e97, e96, e95, e91, e93]) (by rw [e98, e94, e90, e92])
 have hm2 : z53 * z34 - z54 * z33 = z12 * z115 := by rw [e53, e30, e28, e6, e34, e19, e17, e15, e54, e31, e29, e7, e33, e18, e16, e14, e12, e10, e11, e6, e7, e8, e9, e115, e114, e101, e32]; exact rt_c2 z0 z1 z2 z3 z4 z5 z13 z27
 have hr2 : (z0 - z4) * z34 - (z1 - z5) * z33 = (1 - z13) * z12 := by rw [e34, e19, e17, e15, e33, e18, e16, e14, e12, e10, e11, e6, e7, e8, e9]; exact rt_r2 z0 z1 z2 z3 z4 z5 z13
 have fx2 := rt_part u0 mx2 hm2 hr2
 have fz2 := rt_part u0 mz2 hm2 hr2
 have vx0 : z33 = (1 - z13) * z6 + z13 * z8 := by rw [e33, e18, e16, e14, e6, e8]; exact rt_e0 _ _ _ _
 have vz0 : z34 = (1 - z13) * z7 + z13 * z9 := by rw [e34, e19, e17, e15, e7, e9]; exact rt_e0 _ _ _ _
 have vx1 : z43 = (1 - z20) * z8 - z6 := by rw [e43, e25, e23, e21, e6, e8]; exact rt_e1 _ _ _ _
 have vz1 : z44 = (1 - z20) * z9 - z7 := by rw [e44, e26, e24, e22, e7, e9]; exact rt_e1 _ _ _ _
 have vx2 : z53 = z27 * z6 - z8 := by rw [e53, e30, e28, e6, e8]; exact rt_e2 _ _ _ _
 have vz2 : z54 = z27 * z7 - z9 := by rw [e54, e31, e29, e7, e9]; exact rt_e2 _ _ _ _
 have hh := rt_core (ux := z6) (uz := z7) (vx := z8) (vz := z9) (k0 := z13) (k1 := z20) (k2 := z27) (D := z12) (W0 := z109) (W1 := z112) (W2 := z115) (x0 := z73 - z0) (z0 := z74 - z1) (x1 := z85 - z0) (z1 := z86 - z1) (x2 := z97 - z0) (z2 := z98 - z1) (S := z123) (by rw [e12, e10, e11]) (by rw [e109, e108, e99, e32]) (by rw [e112, e111, e100, e32]) (by rw [e115, e114, e101, e32]) (rt_d fx0 vx0) (rt_d fz0 vz0) (by rw [e6, rt_sh, ← e6]; exact rt_d fx1 vx1) (by rw [e7, rt_sh, ← e7]; exact rt_d fz1 vz1) (by rw [e8, rt_sh, ← e8]; exact rt_d fx2 vx2) (by rw [e9, rt_sh, ← e9]; exact rt_d fz2 vz2) (by rw [e123, e121, e122, e117, e118, e119, e120, rt_sh, rt_sh, rt_sh, rt_sh])
 rw [e124, e116, e113, e110, e32, Rat.one_mul, hh, e125, e107, e106, e103, e102, e105, e104, e99, e100, e101, e32]
theorem triangleRouth_r0 : (callB (sx Tryz.prog triangleRouth_N [(0, 12, 0, 1)] [] triangleRouth_L triangleRouth_C triangleRouth_Z (prQ [27])) 5 5 [(false, [(true, [.inr (2, 0, 0, 0, 0), .inr (2, 1, 0, 0, 0), .inr (2, 2, 0, 0, 0), .inr (2, 3, 0, 0, 0), .inr (2, 4, 0, 0, 0), .inr (2, 5, 0, 0, 0)])]), (false, [(true, [.inr (2, 6, 0, 0, 0), .inr (2, 7, 0, 0, 0), .inr (2, 8, 0, 0, 0)])])] [] 0).map (·.1) = some (kB true) := by kernel_rfl
theorem triangleRouth_r1 : (callB (sx Tryz.prog triangleRouth_N [(0, 12, 0, 0), (6, 35, 33, 0), (6, 45, 43, 0), (6, 55, 53, 0), (6, 40, 41, 0), (6, 50, 51, 0), (0, 65, 0, 1), (6, 70, 71, 1)] [] triangleRouth_L triangleRouth_C triangleRouth_Z (prQ [27])) 6 5 [(false, [(true, [.inr (2, 0, 0, 0, 0), .inr (2, 1, 0, 0, 0), .inr (2, 2, 0, 0, 0), .inr (2, 3, 0, 0, 0), .inr (2, 4, 0, 0, 0), .inr (2, 5, 0, 0, 0)])]), (false, [(true, [.inr (2, 6, 0, 0, 0), .inr (2, 7, 0, 0, 0), .inr (2, 8, 0, 0, 0)])])] [] 0).map (·.1) = some (kB true) := by kernel_rfl
theorem triangleRouth_r2 : (callB (sx Tryz.prog triangleRouth_N [(0, 12, 0, 0), (6, 35, 33, 0), (6, 45, 43, 0), (6, 55, 53, 0), (6, 40, 41, 0), (6, 50, 51, 0), (0, 65, 0, 1), (6, 70, 71, 0)] [] triangleRouth_L triangleRouth_C triangleRouth_Z (prQ [27])) 6 5 [(false, [(true, [.inr (2, 0, 0, 0, 0), .inr (2, 1, 0, 0, 0), .inr (2, 2, 0, 0, 0), .inr (2, 3, 0, 0, 0), .inr (2, 4, 0, 0, 0), .inr (2, 5, 0, 0, 0)])]), (false, [(true, [.inr (2, 6, 0, 0, 0), .inr (2, 7, 0, 0, 0), .inr (2, 8, 0, 0, 0)])])] [] 0).map (·.1) = some (kB true) := by kernel_rfl
theorem triangleRouth_r3 : (callB (sx Tryz.prog triangleRouth_N [(0, 12, 0, 0), (6, 35, 33, 0), (6, 45, 43, 0), (6, 55, 53, 0), (6, 40, 41, 0), (6, 50, 51, 0), (0, 65, 0, 0), (6, 60, 61, 0), (0, 77, 0, 1), (6, 82, 83, 1)] [] triangleRouth_L triangleRouth_C triangleRouth_Z (prQ [27])) 6 5 [(false, [(true, [.inr (2, 0, 0, 0, 0), .inr (2, 1, 0, 0, 0), .inr (2, 2, 0, 0, 0), .inr (2, 3, 0, 0, 0), .inr (2, 4, 0, 0, 0), .inr (2, 5, 0, 0, 0)])]), (false, [(true, [.inr (2, 6, 0, 0, 0), .inr (2, 7, 0, 0, 0), .inr (2, 8, 0, 0, 0)])])] [] 0).map (·.1) = some (kB true) := by kernel_rfl
theorem triangleRouth_r4 : (callB (sx Tryz.prog triangleRouth_N [(0, 12, 0, 0), (6, 35, 33, 0), (6, 45, 43, 0), (6, 55, 53, 0), (6, 40, 41, 0), (6, 50, 51, 0), (0, 65, 0, 0), (6, 60, 61, 0), (0, 77, 0, 1), (6, 82, 83, 0)] [] triangleRouth_L triangleRouth_C triangleRouth_Z (prQ [27])) 6 5 [(false, [(true, [.inr (2, 0, 0, 0, 0), .inr (2, 1, 0, 0, 0), .inr (2, 2, 0, 0, 0), .inr (2, 3, 0, 0, 0), .inr (2, 4, 0, 0, 0), .inr (2, 5, 0, 0, 0)])]), (false, [(true, [.inr (2, 6, 0, 0, 0), .inr (2, 7, 0, 0, 0), .inr (2, 8, 0, 0, 0)])])] [] 0).map (·.1) = some (kB true) := by kernel_rfl
theorem triangleRouth_r5 : (callB (sx Tryz.prog triangleRouth_N [(0, 12, 0, 0), (6, 35, 33, 0), (6, 45, 43, 0), (6, 55, 53, 0), (6, 40, 41, 0), (6, 50, 51, 0), (0, 65, 0, 0), (6, 60, 61, 0), (0, 77, 0, 0), (0, 89, 0, 1), (6, 94, 95, 1)] [] triangleRouth_L triangleRouth_C triangleRouth_Z (prQ [27])) 6 5 [(false, [(true, [.inr (2, 0, 0, 0, 0), .inr (2, 1, 0, 0, 0), .inr (2, 2, 0, 0, 0), .inr (2, 3, 0, 0, 0), .inr (2, 4, 0, 0, 0), .inr (2, 5, 0, 0, 0)])]), (false, [(true, [.inr (2, 6, 0, 0, 0), .inr (2, 7, 0, 0, 0), .inr (2, 8, 0, 0, 0)])])] [] 0).map (·.1) = some (kB true) := by kernel_rfl
theorem triangleRouth_r6 : (callB (sx Tryz.prog triangleRouth_N [(0, 12, 0, 0), (6, 35, 33, 0), (6, 45, 43, 0), (6, 55, 53, 0), (6, 40, 41, 0), (6, 50, 51, 0), (0, 65, 0, 0), (6, 60, 61, 0), (0, 77, 0, 0), (0, 89, 0, 1), (6, 94, 95, 0)] [] triangleRouth_L triangleRouth_C triangleRouth_Z (prQ [27])) 6 5 [(false, [(true, [.inr (2, 0, 0, 0, 0), .inr (2, 1, 0, 0, 0), .inr (2, 2, 0, 0, 0), .inr (2, 3, 0, 0, 0), .inr (2, 4, 0, 0, 0), .inr (2, 5, 0, 0, 0)])]), (false, [(true, [.inr (2, 6, 0, 0, 0), .inr (2, 7, 0, 0, 0), .inr (2, 8, 0, 0, 0)])])] [] 0).map (·.1) = some (kB true) := by kernel_rfl
theorem triangleRouth_r7 : (callB (sx Tryz.prog triangleRouth_N [(0, 12, 0, 0), (6, 35, 33, 0), (6, 45, 43, 0), (6, 55, 53, 0), (6, 40, 41, 0), (6, 50, 51, 0), (0, 65, 0, 0), (6, 60, 61, 0), (0, 77, 0, 0), (0, 89, 0, 0), (0, 116, 0, 0), (3, 124, 125, 1)] [] triangleRouth_L triangleRouth_C triangleRouth_Z (prQ [27])) 6 5 [(false, [(true, [.inr (2, 0, 0, 0, 0), .inr (2, 1, 0, 0, 0), .inr (2, 2, 0, 0, 0), .inr (2, 3, 0, 0, 0), .inr (2, 4, 0, 0, 0), .inr (2, 5, 0, 0, 0)])]), (false, [(true, [.inr (2, 6, 0, 0, 0), .inr (2, 7, 0, 0, 0), .inr (2, 8, 0, 0, 0)])])] [] 0).map (·.1) = some (kB true) := by kernel_rfl
theorem triangleRouth_An {a b : Prop} (x : a) (y : b) : a ∧ b := ⟨x, y⟩
theorem triangleRouth_leaf {H : List (Nat × Nat × Nat × Nat)} {K : List (FuncId × List AC)} {k : Nat} {q : Nat → Rat} {σ : Nat → ByteArray} {args : List AV} {vs : List Value} {w : World} (hr : (callB (sx Tryz.prog triangleRouth_N H K triangleRouth_L triangleRouth_C triangleRouth_Z (prQ [27])) k 5 args [] 0).map (·.1) = some (kB true)) (hσ : ∀ j, (σ j).size ≤ 1048576) (hq : ∀ (a : Nat) nd, triangleRouth_N[a]? = some nd → q a = valN σ q nd) (h0 : ∀ a, triangleRouth_N.length ≤ a → q a = 0) (hH : hAll q H) (hp : PreS w) (hA : ∀ K, A2 (avOn (cOn (evS q σ) K (fun _ => none) w)) args vs) : Calls Tryz.prog 5 vs.toArray w fun e w' => Below w.heap.size w w' ∧ e = .returned (.bool true) :=
 run_toldQ' k (hy_ofW hσ triangleRouth_wf triangleRouth_sz triangleRouth_lt triangleRouth_cn hq h0 hH) (by simp [closed_cornered]) (by kernel_rfl) hr hp (hA K)
theorem triangleRouth_walk {w : World} {tax taz tbx tbz tcx tcz ka kb kc : ByteArray} (stax : tax.size ≤ 1048576) (staz : taz.size ≤ 1048576) (stbx : tbx.size ≤ 1048576) (stbz : tbz.size ≤ 1048576) (stcx : tcx.size ≤ 1048576) (stcz : tcz.size ≤ 1048576) (ska : ka.size ≤ 1048576) (skb : kb.size ≤ 1048576) (skc : kc.size ≤ 1048576) (tab : Tab w) (mx : MaxL w) :
  Calls Tryz.prog 5 #[.agg #[.string tax, .string taz, .string tbx, .string tbz, .string tcx, .string tcz], .agg #[.string ka, .string kb, .string kc]] w fun e w' => Below w.heap.size w w' ∧ e = .returned (.bool true) := by
 have hσ : ∀ j, (sgOf [tax, taz, tbx, tbz, tcx, tcz, ka, kb, kc] j).size ≤ 1048576 := sgOf_size (by simp [stax, staz, stbx, stbz, stcx, stcz, ska, skb, skc])
 obtain ⟨q, hq, h0⟩ := nodes_exist (sgOf [tax, taz, tbx, tbz, tcx, tcz, ka, kb, kc]) triangleRouth_N triangleRouth_wf
 have hA : ∀ K, A2 (avOn (cOn (evS q (sgOf [tax, taz, tbx, tbz, tcx, tcz, ka, kb, kc])) K (fun _ => none) w)) [(false, [(true, [.inr (2, 0, 0, 0, 0), .inr (2, 1, 0, 0, 0), .inr (2, 2, 0, 0, 0), .inr (2, 3, 0, 0, 0), .inr (2, 4, 0, 0, 0), .inr (2, 5, 0, 0, 0)])]), (false, [(true, [.inr (2, 6, 0, 0, 0), .inr (2, 7, 0, 0, 0), .inr (2, 8, 0, 0, 0)])])] [.agg #[.string tax, .string taz, .string tbx, .string tbz, .string tcx, .string tcz], .agg #[.string ka, .string kb, .string kc]] := fun K => ⟨⟨⟨[.string tax, .string taz, .string tbx, .string tbz, .string tcx, .string tcz], rfl, rfl, rfl, rfl, rfl, rfl, rfl, trivial⟩, trivial⟩, ⟨⟨[.string ka, .string kb, .string kc], rfl, rfl, rfl, rfl, trivial⟩, trivial⟩, trivial⟩
 have E6 : q 6 = q 2 - q 0 := hq 6 _ rfl
 have E7 : q 7 = q 3 - q 1 := hq 7 _ rfl
 have E8 : q 8 = q 4 - q 0 := hq 8 _ rfl
 have E9 : q 9 = q 5 - q 1 := hq 9 _ rfl
 have E10 : q 10 = q 6 * q 9 := hq 10 _ rfl
 have E11 : q 11 = q 7 * q 8 := hq 11 _ rfl
 have E12 : q 12 = q 10 - q 11 := hq 12 _ rfl
 have E14 : q 14 = q 4 - q 2 := hq 14 _ rfl
 have E15 : q 15 = q 5 - q 3 := hq 15 _ rfl
 have E16 : q 16 = q 14 * q 13 := hq 16 _ rfl
 have E17 : q 17 = q 15 * q 13 := hq 17 _ rfl
 have E18 : q 18 = q 2 + q 16 := hq 18 _ rfl
 have E19 : q 19 = q 3 + q 17 := hq 19 _ rfl
 have E21 : q 21 = q 0 - q 4 := hq 21 _ rfl
 have E22 : q 22 = q 1 - q 5 := hq 22 _ rfl
 have E23 : q 23 = q 21 * q 20 := hq 23 _ rfl
 have E24 : q 24 = q 22 * q 20 := hq 24 _ rfl
 have E25 : q 25 = q 4 + q 23 := hq 25 _ rfl
 have E26 : q 26 = q 5 + q 24 := hq 26 _ rfl
 have E28 : q 28 = q 6 * q 27 := hq 28 _ rfl
 have E29 : q 29 = q 7 * q 27 := hq 29 _ rfl
 have E30 : q 30 = q 0 + q 28 := hq 30 _ rfl
 have E31 : q 31 = q 1 + q 29 := hq 31 _ rfl
 have E32 : q 32 = 1 := (hq 32 _ rfl).trans triangleRouth_c32
 have E33 : q 33 = q 18 - q 0 := hq 33 _ rfl
 have E34 : q 34 = q 19 - q 1 := hq 34 _ rfl
 have E35 : q 35 = -q 34 := hq 35 _ rfl
 have E36 : q 36 = q 35 * q 0 := hq 36 _ rfl
 have E37 : q 37 = q 33 * q 1 := hq 37 _ rfl
 have E38 : q 38 = q 36 + q 37 := hq 38 _ rfl
 have E39 : q 39 = -q 38 := hq 39 _ rfl
 have E40 : q 40 = q 35 * fac [q 35, q 33, q 39] := hq 40 _ rfl
 have E41 : q 41 = q 33 * fac [q 35, q 33, q 39] := hq 41 _ rfl
 have E42 : q 42 = q 39 * fac [q 35, q 33, q 39] := hq 42 _ rfl
 have E43 : q 43 = q 25 - q 2 := hq 43 _ rfl
 have E44 : q 44 = q 26 - q 3 := hq 44 _ rfl
 have E45 : q 45 = -q 44 := hq 45 _ rfl
 have E46 : q 46 = q 45 * q 2 := hq 46 _ rfl
 have E47 : q 47 = q 43 * q 3 := hq 47 _ rfl
 have E48 : q 48 = q 46 + q 47 := hq 48 _ rfl
 have E49 : q 49 = -q 48 := hq 49 _ rfl
 have E50 : q 50 = q 45 * fac [q 45, q 43, q 49] := hq 50 _ rfl
 have E51 : q 51 = q 43 * fac [q 45, q 43, q 49] := hq 51 _ rfl
 have E52 : q 52 = q 49 * fac [q 45, q 43, q 49] := hq 52 _ rfl
 have E53 : q 53 = q 30 - q 4 := hq 53 _ rfl
 have E54 : q 54 = q 31 - q 5 := hq 54 _ rfl
 have E55 : q 55 = -q 54 := hq 55 _ rfl
 have E56 : q 56 = q 55 * q 4 := hq 56 _ rfl
 have E57 : q 57 = q 53 * q 5 := hq 57 _ rfl
 have E58 : q 58 = q 56 + q 57 := hq 58 _ rfl
 have E59 : q 59 = -q 58 := hq 59 _ rfl
 have E60 : q 60 = q 55 * fac [q 55, q 53, q 59] := hq 60 _ rfl
 have E61 : q 61 = q 53 * fac [q 55, q 53, q 59] := hq 61 _ rfl
 have E62 : q 62 = q 59 * fac [q 55, q 53, q 59] := hq 62 _ rfl
 have E63 : q 63 = q 40 * q 51 := hq 63 _ rfl
 have E64 : q 64 = q 41 * q 50 := hq 64 _ rfl
 have E65 : q 65 = q 63 - q 64 := hq 65 _ rfl
 have E66 : q 66 = q 50 * q 42 := hq 66 _ rfl
 have E67 : q 67 = q 51 * q 42 := hq 67 _ rfl
 have E68 : q 68 = q 40 * q 52 := hq 68 _ rfl
 have E69 : q 69 = q 41 * q 52 := hq 69 _ rfl
 have E70 : q 70 = q 66 - q 68 := hq 70 _ rfl
 have E71 : q 71 = q 67 - q 69 := hq 71 _ rfl
 have E72 : q 72 = -q 71 := hq 72 _ rfl
 have E73 : q 73 = q 72 / q 65 := hq 73 _ rfl
 have E74 : q 74 = q 70 / q 65 := hq 74 _ rfl
 have E75 : q 75 = q 50 * q 61 := hq 75 _ rfl
 have E76 : q 76 = q 51 * q 60 := hq 76 _ rfl
 have E77 : q 77 = q 75 - q 76 := hq 77 _ rfl
 have E78 : q 78 = q 60 * q 52 := hq 78 _ rfl
 have E79 : q 79 = q 61 * q 52 := hq 79 _ rfl
 have E80 : q 80 = q 50 * q 62 := hq 80 _ rfl
 have E81 : q 81 = q 51 * q 62 := hq 81 _ rfl
 have E82 : q 82 = q 78 - q 80 := hq 82 _ rfl
 have E83 : q 83 = q 79 - q 81 := hq 83 _ rfl
 have E84 : q 84 = -q 83 := hq 84 _ rfl
 have E85 : q 85 = q 84 / q 77 := hq 85 _ rfl
 have E86 : q 86 = q 82 / q 77 := hq 86 _ rfl
 have E87 : q 87 = q 60 * q 41 := hq 87 _ rfl
 have E88 : q 88 = q 61 * q 40 := hq 88 _ rfl
 have E89 : q 89 = q 87 - q 88 := hq 89 _ rfl
 have E90 : q 90 = q 40 * q 62 := hq 90 _ rfl
 have E91 : q 91 = q 41 * q 62 := hq 91 _ rfl
 have E92 : q 92 = q 60 * q 42 := hq 92 _ rfl
 have E93 : q 93 = q 61 * q 42 := hq 93 _ rfl
 have E94 : q 94 = q 90 - q 92 := hq 94 _ rfl
 have E95 : q 95 = q 91 - q 93 := hq 95 _ rfl
 have E96 : q 96 = -q 95 := hq 96 _ rfl
 have E97 : q 97 = q 96 / q 89 := hq 97 _ rfl
 have E98 : q 98 = q 94 / q 89 := hq 98 _ rfl
 have E99 : q 99 = q 32 - q 13 := hq 99 _ rfl
 have E100 : q 100 = q 32 - q 20 := hq 100 _ rfl
 have E101 : q 101 = q 32 - q 27 := hq 101 _ rfl
 have E102 : q 102 = q 13 * q 20 := hq 102 _ rfl
 have E103 : q 103 = q 102 * q 27 := hq 103 _ rfl
 have E104 : q 104 = q 99 * q 100 := hq 104 _ rfl
 have E105 : q 105 = q 104 * q 101 := hq 105 _ rfl
 have E106 : q 106 = q 103 - q 105 := hq 106 _ rfl
 have E107 : q 107 = q 106 * q 106 := hq 107 _ rfl
 have E108 : q 108 = q 20 * q 99 := hq 108 _ rfl
 have E109 : q 109 = q 32 - q 108 := hq 109 _ rfl
 have E110 : q 110 = q 32 * q 109 := hq 110 _ rfl
 have E111 : q 111 = q 27 * q 100 := hq 111 _ rfl
 have E112 : q 112 = q 32 - q 111 := hq 112 _ rfl
 have E113 : q 113 = q 110 * q 112 := hq 113 _ rfl
 have E114 : q 114 = q 13 * q 101 := hq 114 _ rfl
 have E115 : q 115 = q 32 - q 114 := hq 115 _ rfl
 have E116 : q 116 = q 113 * q 115 := hq 116 _ rfl
 have E117 : q 117 = q 85 - q 73 := hq 117 _ rfl
 have E118 : q 118 = q 86 - q 74 := hq 118 _ rfl
 have E119 : q 119 = q 97 - q 73 := hq 119 _ rfl
 have E120 : q 120 = q 98 - q 74 := hq 120 _ rfl
 have E121 : q 121 = q 117 * q 120 := hq 121 _ rfl
 have E122 : q 122 = q 118 * q 119 := hq 122 _ rfl
 have E123 : q 123 = q 121 - q 122 := hq 123 _ rfl
 have E124 : q 124 = q 123 * q 116 := hq 124 _ rfl
 have E125 : q 125 = q 12 * q 107 := hq 125 _ rfl
 by_cases b12 : q 12 = 0
 ·
  exact triangleRouth_leaf triangleRouth_r0 hσ hq h0 (triangleRouth_An (hT b12) trivial) ⟨tab, mx⟩ hA
 ·
  have a_6_35_33 : ¬ (q 35 = 0 ∧ q 33 = 0) := triangleRouth_f1 E6 E7 E8 E9 E10 E11 E12 E14 E15 E16 E17 E18 E19 E33 E34 E35 b12
  have a_6_45_43 : ¬ (q 45 = 0 ∧ q 43 = 0) := triangleRouth_f2 E6 E7 E8 E9 E10 E11 E12 E21 E22 E23 E24 E25 E26 E43 E44 E45 b12
  have a_6_55_53 : ¬ (q 55 = 0 ∧ q 53 = 0) := triangleRouth_f3 E6 E7 E8 E9 E10 E11 E12 E28 E29 E30 E31 E53 E54 E55 b12
  have a_6_40_41 : ¬ (q 40 = 0 ∧ q 41 = 0) := triangleRouth_f4 E6 E7 E8 E9 E10 E11 E12 E14 E15 E16 E17 E18 E19 E33 E34 E35 E36 E37 E38 E39 E40 E41 b12
  have a_6_50_51 : ¬ (q 50 = 0 ∧ q 51 = 0) := triangleRouth_f5 E6 E7 E8 E9 E10 E11 E12 E21 E22 E23 E24 E25 E26 E43 E44 E45 E46 E47 E48 E49 E50 E51 b12
  by_cases b65 : q 65 = 0
  ·
   by_cases a_6_70_71 : q 70 = 0 ∧ q 71 = 0
   ·
    exact triangleRouth_leaf triangleRouth_r1 hσ hq h0 (triangleRouth_An (hF b12) (triangleRouth_An (hF a_6_35_33) (triangleRouth_An (hF a_6_45_43) (triangleRouth_An (hF a_6_55_53) (triangleRouth_An (hF a_6_40_41) (triangleRouth_An (hF a_6_50_51) (triangleRouth_An (hT b65) (triangleRouth_An (hT a_6_70_71) trivial)))))))) ⟨tab, mx⟩ hA
   ·
    exact triangleRouth_leaf triangleRouth_r2 hσ hq h0 (triangleRouth_An (hF b12) (triangleRouth_An (hF a_6_35_33) (triangleRouth_An (hF a_6_45_43) (triangleRouth_An (hF a_6_55_53) (triangleRouth_An (hF a_6_40_41) (triangleRouth_An (hF a_6_50_51) (triangleRouth_An (hT b65) (triangleRouth_An (hF a_6_70_71) trivial)))))))) ⟨tab, mx⟩ hA
  ·
   have a_6_60_61 : ¬ (q 60 = 0 ∧ q 61 = 0) := triangleRouth_f6 E6 E7 E8 E9 E10 E11 E12 E28 E29 E30 E31 E53 E54 E55 E56 E57 E58 E59 E60 E61 b12
   by_cases b77 : q 77 = 0
   ·
    by_cases a_6_82_83 : q 82 = 0 ∧ q 83 = 0
    ·
     exact triangleRouth_leaf triangleRouth_r3 hσ hq h0 (triangleRouth_An (hF b12) (triangleRouth_An (hF a_6_35_33) (triangleRouth_An (hF a_6_45_43) (triangleRouth_An (hF a_6_55_53) (triangleRouth_An (hF a_6_40_41) (triangleRouth_An (hF a_6_50_51) (triangleRouth_An (hF b65) (triangleRouth_An (hF a_6_60_61) (triangleRouth_An (hT b77) (triangleRouth_An (hT a_6_82_83) trivial)))))))))) ⟨tab, mx⟩ hA
    ·
     exact triangleRouth_leaf triangleRouth_r4 hσ hq h0 (triangleRouth_An (hF b12) (triangleRouth_An (hF a_6_35_33) (triangleRouth_An (hF a_6_45_43) (triangleRouth_An (hF a_6_55_53) (triangleRouth_An (hF a_6_40_41) (triangleRouth_An (hF a_6_50_51) (triangleRouth_An (hF b65) (triangleRouth_An (hF a_6_60_61) (triangleRouth_An (hT b77) (triangleRouth_An (hF a_6_82_83) trivial)))))))))) ⟨tab, mx⟩ hA
   ·
    by_cases b89 : q 89 = 0
    ·
     by_cases a_6_94_95 : q 94 = 0 ∧ q 95 = 0
     ·
      exact triangleRouth_leaf triangleRouth_r5 hσ hq h0 (triangleRouth_An (hF b12) (triangleRouth_An (hF a_6_35_33) (triangleRouth_An (hF a_6_45_43) (triangleRouth_An (hF a_6_55_53) (triangleRouth_An (hF a_6_40_41) (triangleRouth_An (hF a_6_50_51) (triangleRouth_An (hF b65) (triangleRouth_An (hF a_6_60_61) (triangleRouth_An (hF b77) (triangleRouth_An (hT b89) (triangleRouth_An (hT a_6_94_95) trivial))))))))))) ⟨tab, mx⟩ hA
     ·
      exact triangleRouth_leaf triangleRouth_r6 hσ hq h0 (triangleRouth_An (hF b12) (triangleRouth_An (hF a_6_35_33) (triangleRouth_An (hF a_6_45_43) (triangleRouth_An (hF a_6_55_53) (triangleRouth_An (hF a_6_40_41) (triangleRouth_An (hF a_6_50_51) (triangleRouth_An (hF b65) (triangleRouth_An (hF a_6_60_61) (triangleRouth_An (hF b77) (triangleRouth_An (hT b89) (triangleRouth_An (hF a_6_94_95) trivial))))))))))) ⟨tab, mx⟩ hA
    ·
     have b116 : ¬ (q 116 = 0) := triangleRouth_f7 E6 E7 E14 E15 E16 E17 E18 E19 E21 E22 E23 E24 E25 E26 E28 E29 E30 E31 E32 E33 E34 E35 E36 E37 E38 E39 E40 E41 E43 E44 E45 E46 E47 E48 E49 E50 E51 E53 E54 E55 E56 E57 E58 E59 E60 E61 E63 E64 E65 E75 E76 E77 E87 E88 E89 E99 E100 E101 E108 E109 E110 E111 E112 E113 E114 E115 E116 b65 b77 b89
     have a_3_124_125 : q 124 = q 125 := triangleRouth_f8 E6 E7 E8 E9 E10 E11 E12 E14 E15 E16 E17 E18 E19 E21 E22 E23 E24 E25 E26 E28 E29 E30 E31 E32 E33 E34 E35 E36 E37 E38 E39 E40 E41 E42 E43 E44 E45 E46 E47 E48 E49 E50 E51 E52 E53 E54 E55 E56 E57 E58 E59 E60 E61 E62 E63 E64 E65 E66 E67 E68 E69 E70 E71 E72 E73 E74 E75 E76 E77 E78 E79 E80 E81 E82 E83 E84 E85 E86 E87 E88 E89 E90 E91 E92 E93 E94 E95 E96 E97 E98 E99 E100 E101 E102 E103 E104 E105 E106 E107 E108 E109 E110 E111 E112 E113 E114 E115 E116 E117 E118 E119 E120 E121 E122 E123 E124 E125 b12 b65 b77 b89
     exact triangleRouth_leaf triangleRouth_r7 hσ hq h0 (triangleRouth_An (hF b12) (triangleRouth_An (hF a_6_35_33) (triangleRouth_An (hF a_6_45_43) (triangleRouth_An (hF a_6_55_53) (triangleRouth_An (hF a_6_40_41) (triangleRouth_An (hF a_6_50_51) (triangleRouth_An (hF b65) (triangleRouth_An (hF a_6_60_61) (triangleRouth_An (hF b77) (triangleRouth_An (hF b89) (triangleRouth_An (hF b116) (triangleRouth_An (hT a_3_124_125) trivial)))))))))))) ⟨tab, mx⟩ hA
end Go.Proofs.YtkcikcnimkofkaaGreatDoor
