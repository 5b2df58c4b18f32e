/- Part 13 of the walks and of the mathematics under them: VY VSZ CFlined MLA. -/
import Derived.Test.YtkcikcnimkofkaaGreatDoorA12
set_option maxHeartbeats 16000000
set_option maxRecDepth 100000
/- VY -/
namespace Go.Proofs.YtkcikcnimkofkaaGreatDoor
open Go.RowKit Cx
theorem den_num (t : Rat) : t * (t.den : Rat) = ((t.num : Int) : Rat) := by
 conv => lhs; lhs; rw [← Rat.mkRat_self t]
 have h0 : (t.den : Rat) ≠ 0 := fun h => t.den_nz (by exact_mod_cast h)
 rw [Rat.mkRat_eq_div, Rat.div_mul_cancel h0]
theorem whole {q : Rat} (h : q.den = 1) : q = ((q.num : Int) : Rat) := by
 have := den_num q
 rw [h] at this
 rw [← this]
 show q = q * ((1 : Nat) : Rat)
 exact (Rat.mul_one q).symm
end Go.Proofs.YtkcikcnimkofkaaGreatDoor
/- VSZ -/
namespace Go.Proofs.YtkcikcnimkofkaaGreatDoor
open Go.RowKit Cx
def szW (Z : List Nat) (I : List Bool) (z : Nat) (b : Bool) (nd : Nd) : Bool := match nd.1, nd.2 with
 | 0, [_, n, d] => (Nat.blt n (2 ^ z) && (Nat.blt 0 d && Nat.blt d (2 ^ z))) && (!b || Nat.beq d 1)
 | 1, [_] => Nat.ble 3495259 z && !b
 | 2, [a, c] => (match Z[a]?, Z[c]?, I[a]?, I[c]? with
  | some x, some y, some true, some true => Nat.ble (Nat.max x y + 1) z
  | some x, some y, _, _ => Nat.ble (x + y + 1) z && !b
  | _, _, _, _ => false)
 | 3, [a, c] => (match Z[a]?, Z[c]?, I[a]?, I[c]? with
  | some x, some y, some true, some true => Nat.ble (Nat.max x y + 1) z
  | some x, some y, _, _ => Nat.ble (x + y + 1) z && !b
  | _, _, _, _ => false)
 | 4, [a, c] => (match Z[a]?, Z[c]?, I[a]?, I[c]? with
  | some x, some y, some true, some true => Nat.ble (x + y) z
  | some x, some y, _, _ => Nat.ble (x + y) z && !b
  | _, _, _, _ => false)
 | 5, [a] => (match Z[a]?, I[a]? with
  | some x, some true => Nat.ble x z
  | some x, _ => Nat.ble x z && !b
  | _, _ => false)
 | 6, [a, c] => (match Z[a]?, Z[c]? with
  | some x, some y => Nat.ble (x + y) z && !b
  | _, _ => false)
 | 8, i :: xs => (match getsO Z xs with
  | some zs => Nat.blt i xs.length && (Nat.ble ((xs.length + 1) * maxL zs + 1) z || (xs.all (fun a => match I[a]? with
   | some true => true
   | _ => false) && (match xs[i]? with
   | some a => (match Z[a]? with
    | some x => Nat.ble (x + 1) z
    | none => false)
   | none => false)))
  | none => false)
 | _, _ => false
def szC (Z : List Nat) (I : List Bool) : List Nd → List Nat → List Bool → Bool
 | [], [], [] => true
 | nd :: ns, z :: zs, b :: bs => (szW Z I z b nd && Nat.ble z 1000000000000) && szC Z I ns zs bs
 | _, _, _ => false
theorem szC_get {Z : List Nat} {I : List Bool} : ∀ {ns : List Nd} {zs : List Nat} {bs : List Bool} {i z : Nat}, szC Z I ns zs bs = true → zs[i]? = some z → ∃ nd b, ns[i]? = some nd ∧ bs[i]? = some b ∧ szW Z I z b nd = true ∧ z ≤ 1000000000000
 | [], [], [], _, _, _, h => by simp at h
 | [], [], _ :: _, _, _, h, _ => by cases h
 | [], _ :: _, _, _, _, h, _ => by cases h
 | _ :: _, [], _, _, _, h, _ => by cases h
 | _ :: _, _ :: _, [], _, _, h, _ => by cases h
 | nd :: ns, z' :: zs, b :: bs, 0, z, h, e => by
  have : z' = z := by simpa using e
  subst this
  unfold szC at h
  simp only [Bool.and_eq_true, Nat.ble_eq] at h
  exact ⟨nd, b, rfl, rfl, h.1.1, h.1.2⟩
 | nd :: ns, z' :: zs, b :: bs, i + 1, z, h, e => by
  unfold szC at h
  rw [Bool.and_eq_true] at h
  obtain ⟨nd2, b2, g1, g2, g3⟩ := szC_get (ns := ns) (zs := zs) (bs := bs) h.2 (show zs[i]? = some z by simpa using e)
  exact ⟨nd2, b2, by simpa using g1, by simpa using g2, g3⟩
theorem szC_len {Z : List Nat} {I : List Bool} : ∀ {ns : List Nd} {zs : List Nat} {bs : List Bool}, szC Z I ns zs bs = true → ns.length = zs.length
 | [], [], [], _ => rfl
 | [], [], _ :: _, h => by cases h
 | [], _ :: _, _, h => by cases h
 | _ :: _, [], _, h => by cases h
 | _ :: _, _ :: _, [], h => by cases h
 | _ :: _, _ :: _, _ :: _, h => by
  unfold szC at h
  rw [Bool.and_eq_true] at h
  exact congrArg (· + 1) (szC_len h.2)
structure QW (z : Nat) (x : Rat) : Prop where
 qs : QS z x
 wh : x.den = 1
theorem QW.of {z : Nat} {n : Int} (h : n.natAbs < 2 ^ z) (hz : 0 < z) : QW z ((n : Int) : Rat) :=
 ⟨⟨by simpa using h, by
  show ((n : Int) : Rat).den < 2 ^ z
  rw [Rat.den_intCast]
  exact Nat.one_lt_two_pow (by omega)⟩, Rat.den_intCast n⟩
theorem QW.mono {k l : Nat} {x : Rat} (h : QW k x) (hk : k ≤ l) : QW l x := ⟨h.qs.mono hk, h.wh⟩
theorem two_max {a b x y : Nat} (h1 : a < 2 ^ x) (h2 : b < 2 ^ y) : a + b < 2 ^ (Nat.max x y + 1) := by
 have e1 : 2 ^ x ≤ 2 ^ Nat.max x y := Nat.pow_le_pow_right (by decide) (Nat.le_max_left x y)
 have e2 : 2 ^ y ≤ 2 ^ Nat.max x y := Nat.pow_le_pow_right (by decide) (Nat.le_max_right x y)
 rw [Nat.pow_succ]
 omega
theorem QW.add {x y : Nat} {a b : Rat} (h1 : QW x a) (h2 : QW y b) : QW (Nat.max x y + 1) (a + b) := by
 rw [whole h1.wh, whole h2.wh, ← Rat.intCast_add]
 refine QW.of ?_ (by omega)
 have := two_max h1.qs.num h2.qs.num
 omega
theorem QW.sub {x y : Nat} {a b : Rat} (h1 : QW x a) (h2 : QW y b) : QW (Nat.max x y + 1) (a - b) := by
 rw [whole h1.wh, whole h2.wh, ← Rat.intCast_sub]
 refine QW.of ?_ (by omega)
 have := two_max h1.qs.num h2.qs.num
 omega
theorem QW.mul {x y : Nat} {a b : Rat} (h1 : QW x a) (h2 : QW y b) : QW (x + y) (a * b) := by
 refine ⟨h1.qs.mul h2.qs, ?_⟩
 rw [whole h1.wh, whole h2.wh, ← Rat.intCast_mul]
 exact Rat.den_intCast _
theorem QW.neg {x : Nat} {a : Rat} (h1 : QW x a) : QW x (-a) := ⟨h1.qs.neg, h1.wh⟩
theorem lD_one : ∀ {qs : List Rat} {m : Nat}, (∀ q ∈ qs, q.den = 1) → qs.foldl (fun m q => m * (q.den / Nat.gcd m q.den)) m = m
 | [], _, _ => rfl
 | q :: qs, m, h => by
  rw [List.foldl_cons, h q List.mem_cons_self, Nat.gcd_one_right, Nat.div_self (by decide), Nat.mul_one]
  exact lD_one fun p hp => h p (List.mem_cons_of_mem _ hp)
theorem QW.fac {z : Nat} {qs : List Rat} {x : Rat} (hx : QS z x) (h : x ∈ qs) (hw : ∀ y ∈ qs, y.den = 1) : QS (z + 1) (x * fac qs) := by
 have hl : lD qs = 1 := lD_one hw
 refine ⟨?_, ?_⟩
 ·rw [fac_abs h, hl, hw x h, Nat.div_self (by decide), Nat.mul_one]
  exact Nat.lt_of_le_of_lt (Nat.div_le_self _ _) (Nat.lt_of_lt_of_le hx.num (Nat.pow_le_pow_right (by decide) (by omega)))
 ·rw [fac_den h]
  exact Nat.one_lt_two_pow (by omega)
theorem ten_three : ∀ n : Nat, 10 ^ n ≤ 2 ^ ((10 * n + 2) / 3)
 | 0 => by decide
 | 1 => by decide
 | 2 => by decide
 | n + 3 => by
  have h := ten_three n
  have e : (10 * (n + 3) + 2) / 3 = (10 * n + 2) / 3 + 10 := by omega
  rw [e, Nat.pow_add, Nat.pow_add]
  exact Nat.mul_le_mul h (by decide)
theorem QS.rd3 (l : List UInt8) : QS ((10 * l.length + 2) / 3 + 5) (Cx.rd l) := by
 have key : ∀ {m : List UInt8}, digs m = true → dv m < 2 ^ ((10 * m.length + 2) / 3) := fun {m} h => Nat.lt_of_lt_of_le (dv_lt (digs_all h)) (ten_three _)
 unfold Cx.rd
 split
 ·rename_i h
  rw [Bool.and_eq_true] at h
  have h1 := key h.1
  have h2 := key h.2
  have h3 := up_len (tailOf l)
  have h4 := low_len (tailOf l)
  have h5 := tail_len l
  apply QS.mkr
  ·rw [sg_abs]; exact Nat.lt_of_lt_of_le h1 (Nat.pow_le_pow_right (by decide) (by omega))
  ·exact Nat.lt_of_lt_of_le h2 (Nat.pow_le_pow_right (by decide) (by omega))
 ·exact QS.zero.mono (by omega)
section
variable {N : List Nd} {Z : List Nat} {I : List Bool} {q : Nat → Rat}
theorem sizes_okW {σ : Nat → ByteArray} (hσ : ∀ j, (σ j).size ≤ 1048576) (hw : wfB 0 N = true) (hz : szC Z I N Z I = true) (hq : ∀ (a : Nat) nd, N[a]? = some nd → q a = valN σ q nd) (h0 : ∀ a, N.length ≤ a → q a = 0) : (∀ (a : Nat) z, Z[a]? = some z → QS z (q a)) ∧ ∀ a, QS 1000000000000 (q a) := by
 have h2 : ∀ (a : Nat) z, Z[a]? = some z → QS z (q a) ∧ (I[a]? = some true → (q a).den = 1) := by
  intro a
  induction a using Nat.strongRecOn with
  | ind a ih =>
   intro z hz'
   obtain ⟨nd, b, hn, hb, hs, _⟩ := szC_get hz hz'
   have hwf := wfB_get hw hn
   rw [Nat.zero_add] at hwf
   rw [hq a nd hn, hb]
   obtain ⟨op, xs⟩ := nd
   unfold szW at hs
   unfold valN
   unfold wfN at hwf
   dsimp only at hs hwf ⊢
   have W : ∀ {c x}, c < a → Z[c]? = some x → I[c]? = some true → QW x (q c) := fun hc hx hi => ⟨(ih _ hc _ hx).1, (ih _ hc _ hx).2 hi⟩
   have no : ∀ {v : Rat}, b = false → (some b = some true → v.den = 1) := fun e h => by rw [e] at h; cases h
   split at hs
   ·rename_i s n d
    simp only [Bool.and_eq_true] at hs
    obtain ⟨⟨h1, h2, h3⟩, h4⟩ := hs
    refine ⟨QS.const (by simpa [Nat.blt_eq] using h1) (by simpa [Nat.blt_eq] using h2) (by simpa [Nat.blt_eq] using h3), fun e => ?_⟩
    rw [show b = true from Option.some.inj e] at h4
    have hd : d = 1 := by simpa using h4
    subst hd
    show (if s = 0 then mkRat (n : Int) 1 else mkRat (-(n : Int)) 1).den = 1
    split
    ·rw [Rat.mkRat_one]
     exact Rat.den_intCast _
    ·rw [Rat.mkRat_one]
     exact Rat.den_intCast _
   ·rename_i j
    simp only [Bool.and_eq_true, Nat.ble_eq, Bool.not_eq_true'] at hs
    exact ⟨QS.mono (QS.rd3 _) (by have := hσ j; rw [str_len]; omega), no hs.2⟩
   ·simp only [List.all_cons, List.all_nil, Bool.and_true, Bool.and_eq_true] at hwf
    have l1 := (by simpa [Nat.blt_eq] using hwf.1 : _ < a)
    have l2 := (by simpa [Nat.blt_eq] using hwf.2 : _ < a)
    split at hs
    ·rename_i x y hx hy i1 i2
     rw [Nat.ble_eq] at hs
     have := ((W l1 hx i1).add (W l2 hy i2)).mono hs
     exact ⟨this.qs, fun _ => this.wh⟩
    ·rename_i x y hx hy _
     simp only [Bool.and_eq_true, Nat.ble_eq, Bool.not_eq_true'] at hs
     exact ⟨((ih _ l1 x hx).1.add (ih _ l2 y hy).1).mono hs.1, no hs.2⟩
    ·cases hs
   ·simp only [List.all_cons, List.all_nil, Bool.and_true, Bool.and_eq_true] at hwf
    have l1 := (by simpa [Nat.blt_eq] using hwf.1 : _ < a)
    have l2 := (by simpa [Nat.blt_eq] using hwf.2 : _ < a)
    split at hs
    ·rename_i x y hx hy i1 i2
     rw [Nat.ble_eq] at hs
     have := ((W l1 hx i1).sub (W l2 hy i2)).mono hs
     exact ⟨this.qs, fun _ => this.wh⟩
    ·rename_i x y hx hy _
     simp only [Bool.and_eq_true, Nat.ble_eq, Bool.not_eq_true'] at hs
     exact ⟨((ih _ l1 x hx).1.sub (ih _ l2 y hy).1).mono hs.1, no hs.2⟩
    ·cases hs
   ·simp only [List.all_cons, List.all_nil, Bool.and_true, Bool.and_eq_true] at hwf
    have l1 := (by simpa [Nat.blt_eq] using hwf.1 : _ < a)
    have l2 := (by simpa [Nat.blt_eq] using hwf.2 : _ < a)
    split at hs
    ·rename_i x y hx hy i1 i2
     rw [Nat.ble_eq] at hs
     have := ((W l1 hx i1).mul (W l2 hy i2)).mono hs
     exact ⟨this.qs, fun _ => this.wh⟩
    ·rename_i x y hx hy _
     simp only [Bool.and_eq_true, Nat.ble_eq, Bool.not_eq_true'] at hs
     exact ⟨((ih _ l1 x hx).1.mul (ih _ l2 y hy).1).mono hs.1, no hs.2⟩
    ·cases hs
   ·simp only [List.all_cons, List.all_nil, Bool.and_true] at hwf
    have l1 := (by simpa [Nat.blt_eq] using hwf : _ < a)
    split at hs
    ·rename_i x hx i1
     rw [Nat.ble_eq] at hs
     have := (W l1 hx i1).neg.mono hs
     exact ⟨this.qs, fun _ => this.wh⟩
    ·rename_i x hx _
     simp only [Bool.and_eq_true, Nat.ble_eq, Bool.not_eq_true'] at hs
     exact ⟨((ih _ l1 x hx).1.neg).mono hs.1, no hs.2⟩
    ·cases hs
   ·simp only [List.all_cons, List.all_nil, Bool.and_true, Bool.and_eq_true] at hwf
    split at hs
    ·rename_i x y hx hy
     simp only [Bool.and_eq_true, Nat.ble_eq, Bool.not_eq_true'] at hs
     exact ⟨((ih _ (by simpa [Nat.blt_eq] using hwf.1) x hx).1.div (ih _ (by simpa [Nat.blt_eq] using hwf.2) y hy).1).mono hs.1, no hs.2⟩
    ·cases hs
   ·rename_i i ys
    split at hs
    ·rename_i zs hzs
     rw [Bool.and_eq_true] at hs
     have hi : i < ys.length := by simpa [Nat.blt_eq] using hs.1
     have hwf' : ys.all (Nat.blt · a) = true := hwf
     rw [List.all_eq_true] at hwf'
     have hlt : ∀ c ∈ ys, c < a := fun c hc => by simpa [Nat.blt_eq] using hwf' c hc
     have hm : q ys[i] ∈ ys.map q := List.mem_map_of_mem (List.getElem_mem hi)
     have hg : (ys.map q).getD i 0 = q ys[i] := by
      rw [List.getD_eq_getElem?_getD, List.getElem?_map, List.getElem?_eq_getElem hi]
      rfl
     show QS z ((ys.map q).getD i 0 * fac (ys.map q)) ∧ (some b = some true → ((ys.map q).getD i 0 * fac (ys.map q)).den = 1)
     rw [hg]
     refine ⟨?_, fun _ => fac_den hm⟩
     rcases Bool.or_eq_true _ _ ▸ hs.2 with h3 | h3
     ·rw [Nat.ble_eq] at h3
      have hall : ∀ y ∈ ys.map q, QS (maxL zs) y := fun y hy => by
       obtain ⟨c, hc, rfl⟩ := List.mem_map.1 hy
       obtain ⟨z', hm', hz2⟩ := getsO_get hzs c hc
       exact (ih c (hlt c hc) z' hz2).1.mono (le_maxL z' hm')
      have := QS.facN hall (x := q ys[i]) hm
      rw [List.length_map] at this
      exact this.mono h3
     ·rw [Bool.and_eq_true, List.all_eq_true] at h3
      obtain ⟨h4, h5⟩ := h3
      have hwh : ∀ y ∈ ys.map q, y.den = 1 := fun y hy => by
       obtain ⟨c, hc, rfl⟩ := List.mem_map.1 hy
       obtain ⟨z', _, hz2⟩ := getsO_get hzs c hc
       refine (ih c (hlt c hc) z' hz2).2 ?_
       have := h4 c hc
       split at this
       ·assumption
       ·cases this
      rw [List.getElem?_eq_getElem hi] at h5
      dsimp only at h5
      split at h5
      ·rename_i x hx
       rw [Nat.ble_eq] at h5
       exact (QW.fac (ih _ (hlt _ (List.getElem_mem hi)) x hx).1 hm hwh).mono h5
      ·cases h5
    ·cases hs
   ·cases hs
 refine ⟨fun a z h => (h2 a z h).1, fun a => ?_⟩
 have hl := szC_len hz
 by_cases ha : a < Z.length
 ·obtain ⟨nd, b, _, _, _, hle⟩ := szC_get hz (List.getElem?_eq_getElem ha)
  exact (h2 a _ (List.getElem?_eq_getElem ha)).1.mono hle
 ·rw [h0 a (by omega)]
  exact QS.zero.mono (by decide)
theorem hy_ofW {L C : List (List Nat × Nat)} {σ : Nat → ByteArray} {H : List (Nat × Nat × Nat × Nat)} (hσ : ∀ j, (σ j).size ≤ 1048576) (hw : wfB 0 N = true) (hz : szC Z I N Z I = true) (hl : litB N L = true) (hcn : canB N C = true) (hq : ∀ (a : Nat) nd, N[a]? = some nd → q a = valN σ q nd) (h0 : ∀ a, N.length ≤ a → q a = 0) (hH : hAll q H) : Hy N H L C Z q σ where
 nat := hq
 qs := (sizes_okW hσ hw hz hq h0).2
 zs := (sizes_okW hσ hw hz hq h0).1
 par := hσ
 lit := fun s b h => lit_rd hl hq h
 k0 := fun a r h => kn_at hH h
 k1 := fun a r h => kn_at hH h
 k2 := fun a r h => kn_at hH h
 k3 := fun a b r h => kn_at hH h
 k4 := fun l a b r h1 h2 => by
  have h3 : Nat.beq 1 r = true ↔ q a = q b := kn_at hH h2
  rw [h3, ← can_tx hcn hq h1]
  exact ⟨fun e => by rw [e], fun e => tellS_inj (bytesN_inj e)⟩
 k6 := fun a b r h => kn_at hH h
 k5 := fun a r h => kn_at hH h
end
end Go.Proofs.YtkcikcnimkofkaaGreatDoor
/- CFlined -/
namespace Go.Proofs.YtkcikcnimkofkaaGreatDoor
open Go.RowKit Cx
theorem closed_lined : Closed 41 :=
 closed_told (N := [(0, [0, 0, 1]), (0, [0, 1, 1]), (0, [0, 3, 1]), (3, [1, 0]), (3, [2, 1]), (5, [4]), (4, [5, 0]), (4, [3, 1]), (2, [6, 7]), (5, [8]), (8, [0, 5, 3, 9]), (8, [1, 5, 3, 9]), (8, [2, 5, 3, 9]), (0, [1, 5, 1]), (4, [10, 1]), (4, [11, 0]), (3, [14, 15]), (4, [0, 12]), (4, [1, 12]), (4, [10, 13]), (4, [11, 13]), (3, [17, 19]), (3, [18, 20]), (5, [22]), (6, [23, 16]), (6, [21, 16]), (4, [1, 1]), (4, [1, 0]), (2, [26, 27]), (2, [28, 0]), (5, [29]), (4, [1, 30]), (2, [26, 26]), (6, [31, 32]), (4, [33, 1]), (2, [0, 1]), (2, [0, 0]), (2, [35, 34]), (2, [36, 34]), (0, [0, 2, 1]), (0, [1, 1, 1]), (0, [0, 5, 1]), (0, [0, 1, 2]), (0, [1, 1, 2])]) (H := [(0, 5, 0, 0), (0, 10, 0, 0), (0, 0, 0, 1), (0, 1, 0, 0), (0, 16, 0, 0), (4, 10, 39, 1), (4, 11, 40, 1), (4, 12, 1, 1), (4, 24, 39, 1), (4, 25, 41, 1), (4, 37, 42, 1), (4, 38, 43, 1)]) (K := []) (L := [([48], 0), ([49], 1), ([51], 2), ([45, 53], 13), ([50], 39), ([45, 49], 40), ([53], 41), ([49, 47, 50], 42), ([45, 49, 47, 50], 43)]) (C := [([50], 39), ([45, 49], 40), ([49], 1), ([53], 41), ([49, 47, 50], 42), ([45, 49, 47, 50], 43)]) (Z := [2, 2, 3, 5, 6, 6, 8, 7, 16, 16, 65, 65, 65, 4, 67, 67, 135, 67, 67, 69, 69, 137, 137, 137, 272, 272, 4, 4, 9, 12, 12, 14, 9, 23, 25, 5, 5, 31, 31, 3, 2, 4, 3, 3]) (cl := []) 6 (fun _ h => by cases h) (by kernel_rfl) (by kernel_rfl) (by kernel_rfl) (by kernel_rfl) (by kernel_rfl) (by kernel_rfl) (by kernel_rfl)
end Go.Proofs.YtkcikcnimkofkaaGreatDoor
/- MLA -/
namespace Go.Proofs.YtkcikcnimkofkaaGreatDoor
open Go.RowKit Cx
def linePappus_N : List Nd := [(1, [0]), (1, [1]), (1, [2]), (1, [3]), (3, [2, 0]), (3, [3, 1]), (1, [8]), (4, [4, 6]), (4, [5, 6]), (0, [0, 0, 1]), (2, [9, 0]), (2, [9, 1]), (2, [10, 7]), (2, [11, 8]), (1, [4]), (1, [5]), (1, [6]), (1, [7]), (3, [16, 14]), (3, [17, 15]), (1, [9]), (4, [18, 20]), (4, [19, 20]), (2, [9, 14]), (2, [9, 15]), (2, [23, 21]), (2, [24, 22]), (3, [16, 0]), (3, [17, 1]), (5, [28]), (3, [14, 2]), (3, [15, 3]), (5, [31]), (4, [32, 2]), (4, [30, 3]), (2, [33, 34]), (5, [35]), (8, [0, 32, 30, 36]), (8, [1, 32, 30, 36]), (8, [2, 32, 30, 36]), (4, [29, 0]), (4, [27, 1]), (2, [40, 41]), (5, [42]), (8, [0, 29, 27, 43]), (8, [1, 29, 27, 43]), (8, [2, 29, 27, 43]), (4, [44, 38]), (4, [45, 37]), (3, [47, 48]), (4, [37, 46]), (4, [38, 46]), (4, [44, 39]), (4, [45, 39]), (3, [50, 52]), (3, [51, 53]), (5, [55]), (6, [56, 49]), (6, [54, 49]), (3, [25, 2]), (3, [26, 3]), (5, [60]), (3, [16, 12]), (3, [17, 13]), (5, [63]), (4, [64, 12]), (4, [62, 13]), (2, [65, 66]), (5, [67]), (8, [0, 64, 62, 68]), (8, [1, 64, 62, 68]), (8, [2, 64, 62, 68]), (4, [61, 2]), (4, [59, 3]), (2, [72, 73]), (5, [74]), (8, [0, 61, 59, 75]), (8, [1, 61, 59, 75]), (8, [2, 61, 59, 75]), (4, [76, 70]), (4, [77, 69]), (3, [79, 80]), (4, [69, 78]), (4, [70, 78]), (4, [76, 71]), (4, [77, 71]), (3, [82, 84]), (3, [83, 85]), (5, [87]), (6, [88, 81]), (6, [86, 81]), (3, [14, 12]), (3, [15, 13]), (5, [92]), (3, [25, 0]), (3, [26, 1]), (5, [95]), (4, [96, 0]), (4, [94, 1]), (2, [97, 98]), (5, [99]), (8, [0, 96, 94, 100]), (8, [1, 96, 94, 100]), (8, [2, 96, 94, 100]), (4, [93, 12]), (4, [91, 13]), (2, [104, 105]), (5, [106]), (8, [0, 93, 91, 107]), (8, [1, 93, 91, 107]), (8, [2, 93, 91, 107]), (4, [108, 102]), (4, [109, 101]), (3, [111, 112]), (4, [101, 110]), (4, [102, 110]), (4, [108, 103]), (4, [109, 103]), (3, [114, 116]), (3, [115, 117]), (5, [119]), (6, [120, 113]), (6, [118, 113]), (3, [89, 57]), (3, [90, 58]), (3, [121, 57]), (3, [122, 58]), (4, [123, 126]), (4, [124, 125]), (3, [127, 128])]
def linePappus_L : List (List Nat × Nat) := []
def linePappus_C : List (List Nat × Nat) := []
def linePappus_Z : List Nat := [3495259, 3495259, 3495259, 3495259, 6990519, 6990519, 3495259, 10485778, 10485778, 2, 3495262, 3495262, 13981041, 13981041, 3495259, 3495259, 3495259, 3495259, 6990519, 6990519, 3495259, 10485778, 10485778, 3495262, 3495262, 13981041, 13981041, 6990519, 6990519, 6990519, 6990519, 6990519, 6990519, 10485778, 10485778, 20971557, 20971557, 83886229, 83886229, 83886229, 10485778, 10485778, 20971557, 20971557, 83886229, 83886229, 83886229, 167772458, 167772458, 167772459, 167772458, 167772458, 167772458, 167772458, 167772459, 167772459, 167772459, 335544918, 335544918, 17476301, 17476301, 17476301, 17476301, 17476301, 17476301, 31457342, 31457342, 62914685, 62914685, 251658741, 251658741, 251658741, 20971560, 20971560, 41943121, 41943121, 167772485, 167772485, 167772485, 419431226, 419431226, 419431227, 419431226, 419431226, 419431226, 419431226, 419431227, 419431227, 419431227, 838862454, 838862454, 17476301, 17476301, 17476301, 17476301, 17476301, 17476301, 20971560, 20971560, 41943121, 41943121, 167772485, 167772485, 167772485, 31457342, 31457342, 62914685, 62914685, 251658741, 251658741, 251658741, 419431226, 419431226, 419431227, 419431226, 419431226, 419431226, 419431226, 419431227, 419431227, 419431227, 838862454, 838862454, 1174407373, 1174407373, 1174407373, 1174407373, 2348814746, 2348814746, 4697629493]
def linePappus_I : List Bool := [false, false, false, false, false, false, false, false, false, true, false, false, false, false, false, false, false, false, false, false, false, false, false, false, false, false, false, false, false, false, false, false, false, false, false, false, false, true, true, true, false, false, false, false, true, true, true, true, true, true, true, true, true, true, true, true, true, false, false, false, false, false, false, false, false, false, false, false, false, true, true, true, false, false, false, false, true, true, true, true, true, true, true, true, true, true, true, true, true, false, false, false, false, false, false, false, false, false, false, false, false, true, true, true, false, false, false, false, true, true, true, true, true, true, true, true, true, true, true, true, true, false, false, false, false, false, false, false, false, false]
theorem linePappus_wf : wfB 0 linePappus_N = true := by kernel_rfl
theorem linePappus_sz : szC linePappus_Z linePappus_I linePappus_N linePappus_Z linePappus_I = true := by kernel_rfl
theorem linePappus_lt : litB linePappus_N linePappus_L = true := by kernel_rfl
theorem linePappus_cn : canB linePappus_N linePappus_C = true := by kernel_rfl
theorem linePappus_c9 : cst 0 0 1 = (0 : Rat) := by decide +kernel
theorem pl_m {x y z p q r G H s : Rat} (hx : x = p * G) (hy : y = q * H) (hz : z = x * y) (hr : r = p * q) (hs : s = G * H) : z = r * s := by
 rw [hz, hx, hy, hr, hs]; grind
theorem pl_w {x y z p q r G H s : Rat} (hx : x = p * G) (hy : y = q * H) (hz : z = x * y) (hr : r = p * q) (hs : s = H * G) : z = r * s := by
 rw [hz, hx, hy, hr, hs]; grind
theorem pl_s {x y z p q r G : Rat} (hx : x = p * G) (hy : y = q * G) (hz : z = x - y) (hr : r = p - q) : z = r * G := by
 rw [hz, hx, hy, hr]; grind
theorem pl_a {x y z p q r G : Rat} (hx : x = p * G) (hy : y = q * G) (hz : z = x + y) (hr : r = p + q) : z = r * G := by
 rw [hz, hx, hy, hr]; grind
theorem pl_n {x z p r G : Rat} (hx : x = p * G) (hz : z = -x) (hr : r = -p) : z = r * G := by
 rw [hz, hx, hr]; grind
theorem pl_8 {x z p G g s : Rat} (hx : x = p * G) (hz : z = x * g) (hs : s = G * g) : z = p * s := by
 rw [hz, hx, hs]; grind
theorem pl_1 (x : Rat) : x = x * 1 := (Rat.mul_one x).symm
theorem pl_0 {z p s : Rat} (h : z = p * s) (hp : p = 0) : z = 0 := by rw [h, hp, Rat.zero_mul]
theorem pq_meet (u1 u2 u3 v1 v2 v3 w1 w2 w3 x1 x2 x3 : Rat) :
  ((u3 * v1 - u1 * v3) * (w1 * x2 - w2 * x1) - (u1 * v2 - u2 * v1) * (w3 * x1 - w1 * x3) = (u1 * (v2 * x3 - v3 * x2) - u2 * (v1 * x3 - v3 * x1) + u3 * (v1 * x2 - v2 * x1)) * w1 - (u1 * (v2 * w3 - v3 * w2) - u2 * (v1 * w3 - v3 * w1) + u3 * (v1 * w2 - v2 * w1)) * x1) ∧
  ((u1 * v2 - u2 * v1) * (w2 * x3 - w3 * x2) - (u2 * v3 - u3 * v2) * (w1 * x2 - w2 * x1) = (u1 * (v2 * x3 - v3 * x2) - u2 * (v1 * x3 - v3 * x1) + u3 * (v1 * x2 - v2 * x1)) * w2 - (u1 * (v2 * w3 - v3 * w2) - u2 * (v1 * w3 - v3 * w1) + u3 * (v1 * w2 - v2 * w1)) * x2) ∧
  ((u2 * v3 - u3 * v2) * (w3 * x1 - w1 * x3) - (u3 * v1 - u1 * v3) * (w2 * x3 - w3 * x2) = (u1 * (v2 * x3 - v3 * x2) - u2 * (v1 * x3 - v3 * x1) + u3 * (v1 * x2 - v2 * x1)) * w3 - (u1 * (v2 * w3 - v3 * w2) - u2 * (v1 * w3 - v3 * w1) + u3 * (v1 * w2 - v2 * w1)) * x3) := by
 refine ⟨?_, ?_, ?_⟩ <;> grind
theorem pq_lin (a1 a2 a3 b1 b2 b3 c1 c2 c3 d1 d2 d3 f0 g0 e1 f1 h1 e2 g2 h2 : Rat) : (f0 * b1 + g0 * c1) * ((e1 * a2 + f1 * b2 + h1 * d2) * (e2 * a3 + g2 * c3 + h2 * d3) - (e1 * a3 + f1 * b3 + h1 * d3) * (e2 * a2 + g2 * c2 + h2 * d2)) + -((f0 * b2 + g0 * c2) * ((e1 * a1 + f1 * b1 + h1 * d1) * (e2 * a3 + g2 * c3 + h2 * d3) - (e1 * a3 + f1 * b3 + h1 * d3) * (e2 * a1 + g2 * c1 + h2 * d1))) + (f0 * b3 + g0 * c3) * ((e1 * a1 + f1 * b1 + h1 * d1) * (e2 * a2 + g2 * c2 + h2 * d2) - (e1 * a2 + f1 * b2 + h1 * d2) * (e2 * a1 + g2 * c1 + h2 * d1)) = f0 * (e1 * (-(g2 * (a1 * (b2 * c3 - b3 * c2) - a2 * (b1 * c3 - b3 * c1) + a3 * (b1 * c2 - b2 * c1))) - h2 * (a1 * (b2 * d3 - b3 * d2) - a2 * (b1 * d3 - b3 * d1) + a3 * (b1 * d2 - b2 * d1))) + h1 * (e2 * (a1 * (b2 * d3 - b3 * d2) - a2 * (b1 * d3 - b3 * d1) + a3 * (b1 * d2 - b2 * d1)) - g2 * (b1 * (c2 * d3 - c3 * d2) - b2 * (c1 * d3 - c3 * d1) + b3 * (c1 * d2 - c2 * d1)))) + g0 * (e1 * (-(h2 * (a1 * (c2 * d3 - c3 * d2) - a2 * (c1 * d3 - c3 * d1) + a3 * (c1 * d2 - c2 * d1)))) + f1 * (-(e2 * (a1 * (b2 * c3 - b3 * c2) - a2 * (b1 * c3 - b3 * c1) + a3 * (b1 * c2 - b2 * c1))) - h2 * (b1 * (c2 * d3 - c3 * d2) - b2 * (c1 * d3 - c3 * d1) + b3 * (c1 * d2 - c2 * d1))) + h1 * (e2 * (a1 * (c2 * d3 - c3 * d2) - a2 * (c1 * d3 - c3 * d1) + a3 * (c1 * d2 - c2 * d1)))) := by
 grind
theorem pq_main {a1 a2 a3 b1 b2 b3 c1 c2 c3 d1 d2 d3 r1 r2 r3 s1 s2 s3 X01 X02 X03 Y01 Y02 Y03 Z01 Z02 Z03 X11 X12 X13 Y11 Y12 Y13 Z11 Z12 Z13 X21 X22 X23 Y21 Y22 Y23 Z21 Z22 Z23 k0 k1 n0 n1 : Rat} (hr1 : r1 = k0 * a1 + k1 * b1) (hr2 : r2 = k0 * a2 + k1 * b2) (hr3 : r3 = k0 * a3 + k1 * b3) (hs1 : s1 = n0 * c1 + n1 * d1) (hs2 : s2 = n0 * c2 + n1 * d2) (hs3 : s3 = n0 * c3 + n1 * d3)
  (x01 : X01 = a2 * d3 - a3 * d2) (x02 : X02 = a3 * d1 - a1 * d3) (x03 : X03 = a1 * d2 - a2 * d1) (y01 : Y01 = b2 * c3 - b3 * c2) (y02 : Y02 = b3 * c1 - b1 * c3) (y03 : Y03 = b1 * c2 - b2 * c1) (z01 : Z01 = X02 * Y03 - X03 * Y02) (z02 : Z02 = X03 * Y01 - X01 * Y03) (z03 : Z03 = X01 * Y02 - X02 * Y01) (x11 : X11 = b2 * s3 - b3 * s2) (x12 : X12 = b3 * s1 - b1 * s3) (x13 : X13 = b1 * s2 - b2 * s1) (y11 : Y11 = r2 * d3 - r3 * d2) (y12 : Y12 = r3 * d1 - r1 * d3) (y13 : Y13 = r1 * d2 - r2 * d1) (z11 : Z11 = X12 * Y13 - X13 * Y12) (z12 : Z12 = X13 * Y11 - X11 * Y13) (z13 : Z13 = X11 * Y12 - X12 * Y11) (x21 : X21 = r2 * c3 - r3 * c2) (x22 : X22 = r3 * c1 - r1 * c3) (x23 : X23 = r1 * c2 - r2 * c1) (y21 : Y21 = a2 * s3 - a3 * s2) (y22 : Y22 = a3 * s1 - a1 * s3) (y23 : Y23 = a1 * s2 - a2 * s1) (z21 : Z21 = X22 * Y23 - X23 * Y22) (z22 : Z22 = X23 * Y21 - X21 * Y23) (z23 : Z23 = X21 * Y22 - X22 * Y21) :
  Z01 * (Z12 * Z23 - Z13 * Z22) + -(Z02 * (Z11 * Z23 - Z13 * Z21)) + Z03 * (Z11 * Z22 - Z12 * Z21) = 0 := by
 obtain ⟨A, hA⟩ : ∃ x, x = (b1 * (c2 * d3 - c3 * d2) - b2 * (c1 * d3 - c3 * d1) + b3 * (c1 * d2 - c2 * d1)) := ⟨_, rfl⟩
 obtain ⟨B, hB⟩ : ∃ x, x = (a1 * (c2 * d3 - c3 * d2) - a2 * (c1 * d3 - c3 * d1) + a3 * (c1 * d2 - c2 * d1)) := ⟨_, rfl⟩
 obtain ⟨C, hC⟩ : ∃ x, x = (a1 * (b2 * d3 - b3 * d2) - a2 * (b1 * d3 - b3 * d1) + a3 * (b1 * d2 - b2 * d1)) := ⟨_, rfl⟩
 obtain ⟨E, hE⟩ : ∃ x, x = (a1 * (b2 * c3 - b3 * c2) - a2 * (b1 * c3 - b3 * c1) + a3 * (b1 * c2 - b2 * c1)) := ⟨_, rfl⟩
 have ⟨q01, q02, q03⟩ : Z01 = -B * b1 + C * c1 ∧ Z02 = -B * b2 + C * c2 ∧ Z03 = -B * b3 + C * c3 := by
  have ⟨m1, m2, m3⟩ := pq_meet a1 a2 a3 d1 d2 d3 b1 b2 b3 c1 c2 c3
  have b1_ : (a1 * (d2 * c3 - d3 * c2) - a2 * (d1 * c3 - d3 * c1) + a3 * (d1 * c2 - d2 * c1)) = -B := by
   subst hA hB hC hE hr1 hr2 hr3 hs1 hs2 hs3
   clear m1 m2 m3 x01 x02 x03 x11 x12 x13 x21 x22 x23 y01 y02 y03 y11 y12 y13 y21 y22 y23 z01 z02 z03 z11 z12 z13 z21 z22 z23
   grind
  have b2_ : (a1 * (d2 * b3 - d3 * b2) - a2 * (d1 * b3 - d3 * b1) + a3 * (d1 * b2 - d2 * b1)) = -C := by
   subst hA hB hC hE hr1 hr2 hr3 hs1 hs2 hs3
   clear m1 m2 m3 x01 x02 x03 x11 x12 x13 x21 x22 x23 y01 y02 y03 y11 y12 y13 y21 y22 y23 z01 z02 z03 z11 z12 z13 z21 z22 z23
   grind
  rw [b1_, b2_, ← x02, ← x03, ← y02, ← y03, ← z01] at m1
  rw [b1_, b2_, ← x01, ← x03, ← y01, ← y03, ← z02] at m2
  rw [b1_, b2_, ← x01, ← x02, ← y01, ← y02, ← z03] at m3
  rw [m1, m2, m3]
  clear m1 m2 m3 b1_ b2_ hA hB hC hE x01 x02 x03 x11 x12 x13 x21 x22 x23 y01 y02 y03 y11 y12 y13 y21 y22 y23 z01 z02 z03 z11 z12 z13 z21 z22 z23
  subst hr1 hr2 hr3 hs1 hs2 hs3
  refine ⟨?_, ?_, ?_⟩ <;> grind
 have ⟨q11, q12, q13⟩ : Z11 = n0 * A * k0 * a1 + n0 * A * k1 * b1 + -(k0 * (n0 * E + n1 * C)) * d1 ∧ Z12 = n0 * A * k0 * a2 + n0 * A * k1 * b2 + -(k0 * (n0 * E + n1 * C)) * d2 ∧ Z13 = n0 * A * k0 * a3 + n0 * A * k1 * b3 + -(k0 * (n0 * E + n1 * C)) * d3 := by
  clear q01 q02 q03
  have ⟨m1, m2, m3⟩ := pq_meet b1 b2 b3 s1 s2 s3 r1 r2 r3 d1 d2 d3
  have b1_ : (b1 * (s2 * d3 - s3 * d2) - b2 * (s1 * d3 - s3 * d1) + b3 * (s1 * d2 - s2 * d1)) = n0 * A := by
   subst hA hB hC hE hr1 hr2 hr3 hs1 hs2 hs3
   clear m1 m2 m3 x01 x02 x03 x11 x12 x13 x21 x22 x23 y01 y02 y03 y11 y12 y13 y21 y22 y23 z01 z02 z03 z11 z12 z13 z21 z22 z23
   grind
  have b2_ : (b1 * (s2 * r3 - s3 * r2) - b2 * (s1 * r3 - s3 * r1) + b3 * (s1 * r2 - s2 * r1)) = k0 * (n0 * E + n1 * C) := by
   subst hA hB hC hE hr1 hr2 hr3 hs1 hs2 hs3
   clear m1 m2 m3 x01 x02 x03 x11 x12 x13 x21 x22 x23 y01 y02 y03 y11 y12 y13 y21 y22 y23 z01 z02 z03 z11 z12 z13 z21 z22 z23
   grind
  rw [b1_, b2_, ← x12, ← x13, ← y12, ← y13, ← z11] at m1
  rw [b1_, b2_, ← x11, ← x13, ← y11, ← y13, ← z12] at m2
  rw [b1_, b2_, ← x11, ← x12, ← y11, ← y12, ← z13] at m3
  rw [m1, m2, m3]
  clear m1 m2 m3 b1_ b2_ hA hB hC hE x01 x02 x03 x11 x12 x13 x21 x22 x23 y01 y02 y03 y11 y12 y13 y21 y22 y23 z01 z02 z03 z11 z12 z13 z21 z22 z23
  subst hr1 hr2 hr3 hs1 hs2 hs3
  refine ⟨?_, ?_, ?_⟩ <;> grind
 have ⟨q21, q22, q23⟩ : Z21 = n1 * (k0 * B + k1 * A) * a1 + -(k1 * E * n0) * c1 + -(k1 * E * n1) * d1 ∧ Z22 = n1 * (k0 * B + k1 * A) * a2 + -(k1 * E * n0) * c2 + -(k1 * E * n1) * d2 ∧ Z23 = n1 * (k0 * B + k1 * A) * a3 + -(k1 * E * n0) * c3 + -(k1 * E * n1) * d3 := by
  clear q01 q02 q03 q11 q12 q13
  have ⟨m1, m2, m3⟩ := pq_meet r1 r2 r3 c1 c2 c3 a1 a2 a3 s1 s2 s3
  have b1_ : (r1 * (c2 * s3 - c3 * s2) - r2 * (c1 * s3 - c3 * s1) + r3 * (c1 * s2 - c2 * s1)) = n1 * (k0 * B + k1 * A) := by
   subst hA hB hC hE hr1 hr2 hr3 hs1 hs2 hs3
   clear m1 m2 m3 x01 x02 x03 x11 x12 x13 x21 x22 x23 y01 y02 y03 y11 y12 y13 y21 y22 y23 z01 z02 z03 z11 z12 z13 z21 z22 z23
   grind
  have b2_ : (r1 * (c2 * a3 - c3 * a2) - r2 * (c1 * a3 - c3 * a1) + r3 * (c1 * a2 - c2 * a1)) = k1 * E := by
   subst hA hB hC hE hr1 hr2 hr3 hs1 hs2 hs3
   clear m1 m2 m3 x01 x02 x03 x11 x12 x13 x21 x22 x23 y01 y02 y03 y11 y12 y13 y21 y22 y23 z01 z02 z03 z11 z12 z13 z21 z22 z23
   grind
  rw [b1_, b2_, ← x22, ← x23, ← y22, ← y23, ← z21] at m1
  rw [b1_, b2_, ← x21, ← x23, ← y21, ← y23, ← z22] at m2
  rw [b1_, b2_, ← x21, ← x22, ← y21, ← y22, ← z23] at m3
  rw [m1, m2, m3]
  clear m1 m2 m3 b1_ b2_ hA hB hC hE x01 x02 x03 x11 x12 x13 x21 x22 x23 y01 y02 y03 y11 y12 y13 y21 y22 y23 z01 z02 z03 z11 z12 z13 z21 z22 z23
  subst hr1 hr2 hr3 hs1 hs2 hs3
  refine ⟨?_, ?_, ?_⟩ <;> grind
 rw [q01, q02, q03, q11, q12, q13, q21, q22, q23, pq_lin, ← hA, ← hB, ← hC, ← hE]
 clear q01 q02 q03 q11 q12 q13 q21 q22 q23 x01 x02 x03 y01 y02 y03 z01 z02 z03 x11 x12 x13 y11 y12 y13 z11 z12 z13 x21 x22 x23 y21 y22 y23 z21 z22 z23 hr1 hr2 hr3 hs1 hs2 hs3 hA hB hC hE
 grind
theorem ds_meet (o1 o2 o3 t1 t2 t3 u1 u2 u3 k l m n : Rat) :
  ((t3 * u1 - t1 * u3) * ((k * o1 + m * t1) * (l * o2 + n * u2) - (k * o2 + m * t2) * (l * o1 + n * u1)) - (t1 * u2 - t2 * u1) * ((k * o3 + m * t3) * (l * o1 + n * u1) - (k * o1 + m * t1) * (l * o3 + n * u3)) = (t1 * (u2 * o3 - u3 * o2) - t2 * (u1 * o3 - u3 * o1) + t3 * (u1 * o2 - u2 * o1)) * (m * l * t1 - k * n * u1)) ∧
  ((t1 * u2 - t2 * u1) * ((k * o2 + m * t2) * (l * o3 + n * u3) - (k * o3 + m * t3) * (l * o2 + n * u2)) - (t2 * u3 - t3 * u2) * ((k * o1 + m * t1) * (l * o2 + n * u2) - (k * o2 + m * t2) * (l * o1 + n * u1)) = (t1 * (u2 * o3 - u3 * o2) - t2 * (u1 * o3 - u3 * o1) + t3 * (u1 * o2 - u2 * o1)) * (m * l * t2 - k * n * u2)) ∧
  ((t2 * u3 - t3 * u2) * ((k * o3 + m * t3) * (l * o1 + n * u1) - (k * o1 + m * t1) * (l * o3 + n * u3)) - (t3 * u1 - t1 * u3) * ((k * o2 + m * t2) * (l * o3 + n * u3) - (k * o3 + m * t3) * (l * o2 + n * u2)) = (t1 * (u2 * o3 - u3 * o2) - t2 * (u1 * o3 - u3 * o1) + t3 * (u1 * o2 - u2 * o1)) * (m * l * t3 - k * n * u3)) := by
 refine ⟨?_, ?_, ?_⟩ <;> grind
theorem ds_lin (t1 t2 t3 u1 u2 u3 v1 v2 v3 D0 D1 D2 x0 y0 x1 y1 x2 y2 : Rat) : (D0 * (x0 * t1 - y0 * u1)) * ((D1 * (x1 * u2 - y1 * v2)) * (D2 * (x2 * v3 - y2 * t3)) - (D1 * (x1 * u3 - y1 * v3)) * (D2 * (x2 * v2 - y2 * t2))) + -((D0 * (x0 * t2 - y0 * u2)) * ((D1 * (x1 * u1 - y1 * v1)) * (D2 * (x2 * v3 - y2 * t3)) - (D1 * (x1 * u3 - y1 * v3)) * (D2 * (x2 * v1 - y2 * t1)))) + (D0 * (x0 * t3 - y0 * u3)) * ((D1 * (x1 * u1 - y1 * v1)) * (D2 * (x2 * v2 - y2 * t2)) - (D1 * (x1 * u2 - y1 * v2)) * (D2 * (x2 * v1 - y2 * t1))) = D0 * D1 * D2 * (t1 * (u2 * v3 - u3 * v2) - t2 * (u1 * v3 - u3 * v1) + t3 * (u1 * v2 - u2 * v1)) * (x0 * x1 * x2 - y0 * y1 * y2) := by
 grind
theorem ds_main {o1 o2 o3 t1 t2 t3 u1 u2 u3 v1 v2 v3 p1 p2 p3 q1 q2 q3 r1 r2 r3 A01 A02 A03 B01 B02 B03 C01 C02 C03 A11 A12 A13 B11 B12 B13 C11 C12 C13 A21 A22 A23 B21 B22 B23 C21 C22 C23 k0 k1 k2 n0 n1 n2 : Rat} (hp1 : p1 = k0 * o1 + n0 * t1) (hp2 : p2 = k0 * o2 + n0 * t2) (hp3 : p3 = k0 * o3 + n0 * t3) (hq1 : q1 = k1 * o1 + n1 * u1) (hq2 : q2 = k1 * o2 + n1 * u2) (hq3 : q3 = k1 * o3 + n1 * u3) (hr1 : r1 = k2 * o1 + n2 * v1) (hr2 : r2 = k2 * o2 + n2 * v2) (hr3 : r3 = k2 * o3 + n2 * v3)
  (a01 : A01 = t2 * u3 - t3 * u2) (a02 : A02 = t3 * u1 - t1 * u3) (a03 : A03 = t1 * u2 - t2 * u1) (b01 : B01 = p2 * q3 - p3 * q2) (b02 : B02 = p3 * q1 - p1 * q3) (b03 : B03 = p1 * q2 - p2 * q1) (c01 : C01 = A02 * B03 - A03 * B02) (c02 : C02 = A03 * B01 - A01 * B03) (c03 : C03 = A01 * B02 - A02 * B01) (a11 : A11 = u2 * v3 - u3 * v2) (a12 : A12 = u3 * v1 - u1 * v3) (a13 : A13 = u1 * v2 - u2 * v1) (b11 : B11 = q2 * r3 - q3 * r2) (b12 : B12 = q3 * r1 - q1 * r3) (b13 : B13 = q1 * r2 - q2 * r1) (c11 : C11 = A12 * B13 - A13 * B12) (c12 : C12 = A13 * B11 - A11 * B13) (c13 : C13 = A11 * B12 - A12 * B11) (a21 : A21 = v2 * t3 - v3 * t2) (a22 : A22 = v3 * t1 - v1 * t3) (a23 : A23 = v1 * t2 - v2 * t1) (b21 : B21 = r2 * p3 - r3 * p2) (b22 : B22 = r3 * p1 - r1 * p3) (b23 : B23 = r1 * p2 - r2 * p1) (c21 : C21 = A22 * B23 - A23 * B22) (c22 : C22 = A23 * B21 - A21 * B23) (c23 : C23 = A21 * B22 - A22 * B21) :
  C01 * (C12 * C23 - C13 * C22) + -(C02 * (C11 * C23 - C13 * C21)) + C03 * (C11 * C22 - C12 * C21) = 0 := by
 have ⟨m01, m02, m03⟩ := ds_meet o1 o2 o3 t1 t2 t3 u1 u2 u3 k0 k1 n0 n1
 rw [← hp1, ← hp2, ← hp3, ← hq1, ← hq2, ← hq3, ← a02, ← a03, ← b02, ← b03, ← c01] at m01
 rw [← hp1, ← hp2, ← hp3, ← hq1, ← hq2, ← hq3, ← a01, ← a03, ← b01, ← b03, ← c02] at m02
 rw [← hp1, ← hp2, ← hp3, ← hq1, ← hq2, ← hq3, ← a01, ← a02, ← b01, ← b02, ← c03] at m03
 have ⟨m11, m12, m13⟩ := ds_meet o1 o2 o3 u1 u2 u3 v1 v2 v3 k1 k2 n1 n2
 rw [← hq1, ← hq2, ← hq3, ← hr1, ← hr2, ← hr3, ← a12, ← a13, ← b12, ← b13, ← c11] at m11
 rw [← hq1, ← hq2, ← hq3, ← hr1, ← hr2, ← hr3, ← a11, ← a13, ← b11, ← b13, ← c12] at m12
 rw [← hq1, ← hq2, ← hq3, ← hr1, ← hr2, ← hr3, ← a11, ← a12, ← b11, ← b12, ← c13] at m13
 have ⟨m21, m22, m23⟩ := ds_meet o1 o2 o3 v1 v2 v3 t1 t2 t3 k2 k0 n2 n0
 rw [← hr1, ← hr2, ← hr3, ← hp1, ← hp2, ← hp3, ← a22, ← a23, ← b22, ← b23, ← c21] at m21
 rw [← hr1, ← hr2, ← hr3, ← hp1, ← hp2, ← hp3, ← a21, ← a23, ← b21, ← b23, ← c22] at m22
 rw [← hr1, ← hr2, ← hr3, ← hp1, ← hp2, ← hp3, ← a21, ← a22, ← b21, ← b22, ← c23] at m23
 rw [m01, m02, m03, m11, m12, m13, m21, m22, m23, ds_lin]
 have e : n0 * k1 * (n1 * k2) * (n2 * k0) - k0 * n1 * (k1 * n2) * (k2 * n0) = 0 := by
  clear m01 m02 m03 m11 m12 m13 m21 m22 m23
  clear a01 a02 a03 a11 a12 a13 a21 a22 a23 b01 b02 b03 b11 b12 b13 b21 b22 b23 c01 c02 c03 c11 c12 c13 c21 c22 c23 hp1 hp2 hp3 hq1 hq2 hq3 hr1 hr2 hr3
  grind
 rw [e, Rat.mul_zero]
theorem lp_a (p q : Rat) : -(q - p) = p * 1 - 1 * q := by grind
theorem lp_b (p q : Rat) : q - p = 1 * q - p * 1 := by grind
theorem lp_c (a b c d : Rat) : -(-(d - b) * a + (c - a) * b) = a * d - b * c := by grind
theorem lp_d (a b c d : Rat) : -(a * b - c * d) = c * d - b * a := by grind
theorem lp_e (a b c d : Rat) : a * b - c * d = b * a - c * d := by grind
theorem lp_f (a b x : Rat) : 0 + a + (b - a) * x = (1 - x) * a + x * b := by grind
theorem lp_g (x : Rat) : (1 : Rat) = (1 - x) * 1 + x * 1 := by grind
theorem lp_q {x y z p q s : Rat} (hx : x = p * s) (hy : y = q * s) (hz : z = x / y) (h0 : y ≠ 0) : z = p / q ∧ q ≠ 0 := by
 have hq : q ≠ 0 := fun e => h0 (by rw [hy, e, Rat.zero_mul])
 have hs : s ≠ 0 := fun e => h0 (by rw [hy, e, Rat.mul_zero])
 refine ⟨?_, hq⟩
 have z1 : z * y = x := by rw [hz]; exact Rat.div_mul_cancel h0
 have f1 : p / q * q = p := Rat.div_mul_cancel hq
 obtain ⟨f, hf⟩ : ∃ f, f = p / q := ⟨_, rfl⟩
 rw [← hf] at f1 ⊢
 rw [hx, hy] at z1
 have e : (z - f) * (q * s) = 0 := by clear hx hy hz h0 hf; grind
 have := (Rat.mul_eq_zero.1 e).resolve_right (mul_ne hq hs)
 clear hx hy hz h0 hf e z1 f1
 grind
theorem lp_turn {X0 Y0 W0 X1 Y1 W1 X2 Y2 W2 x0 z0 x1 z1 x2 z2 : Rat} (w0 : W0 ≠ 0) (w1 : W1 ≠ 0) (w2 : W2 ≠ 0) (hx0 : x0 = X0 / W0) (hz0 : z0 = Y0 / W0) (hx1 : x1 = X1 / W1) (hz1 : z1 = Y1 / W1) (hx2 : x2 = X2 / W2) (hz2 : z2 = Y2 / W2) (hd : X0 * (Y1 * W2 - W1 * Y2) + -(Y0 * (X1 * W2 - W1 * X2)) + W0 * (X1 * Y2 - Y1 * X2) = 0) : (x1 - x0) * (z2 - z0) - (z1 - z0) * (x2 - x0) = 0 := by
 have a0 : x0 * W0 = X0 := by rw [hx0]; exact Rat.div_mul_cancel w0
 have b0 : z0 * W0 = Y0 := by rw [hz0]; exact Rat.div_mul_cancel w0
 have a1 : x1 * W1 = X1 := by rw [hx1]; exact Rat.div_mul_cancel w1
 have b1 : z1 * W1 = Y1 := by rw [hz1]; exact Rat.div_mul_cancel w1
 have a2 : x2 * W2 = X2 := by rw [hx2]; exact Rat.div_mul_cancel w2
 have b2 : z2 * W2 = Y2 := by rw [hz2]; exact Rat.div_mul_cancel w2
 clear hx0 hz0 hx1 hz1 hx2 hz2
 have e : ((x1 - x0) * (z2 - z0) - (z1 - z0) * (x2 - x0)) * (W0 * (W1 * W2)) = 0 := by
  rw [← hd, ← a0, ← b0, ← a1, ← b1, ← a2, ← b2]
  clear hd a0 b0 a1 b1 a2 b2
  grind
 exact (Rat.mul_eq_zero.1 e).resolve_right (mul_ne w0 (mul_ne w1 w2))
theorem linePappus_f1 {z0 z1 z16 z17 z27 z28 z29 z40 z41 z42 z43 z44 z45 : Rat} : z27 = z16 - z0 → z28 = z17 - z1 → z29 = -z28 → z40 = z29 * z0 → z41 = z27 * z1 → z42 = z40 + z41 → z43 = -z42 → z44 = z29 * fac [z29, z27, z43] → z45 = z27 * fac [z29, z27, z43] → (¬ (z29 = 0 ∧ z27 = 0)) → ¬ (z44 = 0 ∧ z45 = 0) := by
 intro e27 e28 e29 e40 e41 e42 e43 e44 e45 u0
 have k0_27 : fac [z29, z27, z43] = 0 → z27 = 0 := fac_zero (by simp)
 have k0_29 : fac [z29, z27, z43] = 0 → z29 = 0 := fac_zero (by simp)
 have k0_43 : fac [z29, z27, z43] = 0 → z43 = 0 := fac_zero (by simp)
 generalize fac [z29, z27, z43] = g0 at *
 rw [e44, e45]; exact pair_fac u0 k0_29 k0_27
theorem linePappus_f2 {z2 z3 z14 z15 z30 z31 z32 z33 z34 z35 z36 z37 z38 : Rat} : z30 = z14 - z2 → z31 = z15 - z3 → z32 = -z31 → z33 = z32 * z2 → z34 = z30 * z3 → z35 = z33 + z34 → z36 = -z35 → z37 = z32 * fac [z32, z30, z36] → z38 = z30 * fac [z32, z30, z36] → (¬ (z32 = 0 ∧ z30 = 0)) → ¬ (z37 = 0 ∧ z38 = 0) := by
 intro e30 e31 e32 e33 e34 e35 e36 e37 e38 u1
 have k0_30 : fac [z32, z30, z36] = 0 → z30 = 0 := fac_zero (by simp)
 have k0_32 : fac [z32, z30, z36] = 0 → z32 = 0 := fac_zero (by simp)
 have k0_36 : fac [z32, z30, z36] = 0 → z36 = 0 := fac_zero (by simp)
 generalize fac [z32, z30, z36] = g0 at *
 rw [e37, e38]; exact pair_fac u1 k0_32 k0_30
theorem linePappus_f3 {z2 z3 z9 z14 z15 z16 z17 z18 z19 z20 z21 z22 z23 z24 z25 z26 z59 z60 z61 z72 z73 z74 z75 z76 z77 : Rat} : z9 = 0 → z18 = z16 - z14 → z19 = z17 - z15 → z21 = z18 * z20 → z22 = z19 * z20 → z23 = z9 + z14 → z24 = z9 + z15 → z25 = z23 + z21 → z26 = z24 + z22 → z59 = z25 - z2 → z60 = z26 - z3 → z61 = -z60 → z72 = z61 * z2 → z73 = z59 * z3 → z74 = z72 + z73 → z75 = -z74 → z76 = z61 * fac [z61, z59, z75] → z77 = z59 * fac [z61, z59, z75] → (¬ (z61 = 0 ∧ z59 = 0)) → ¬ (z76 = 0 ∧ z77 = 0) := by
 intro e9 e18 e19 e21 e22 e23 e24 e25 e26 e59 e60 e61 e72 e73 e74 e75 e76 e77 u3
 have k0_59 : fac [z61, z59, z75] = 0 → z59 = 0 := fac_zero (by simp)
 have k0_61 : fac [z61, z59, z75] = 0 → z61 = 0 := fac_zero (by simp)
 have k0_75 : fac [z61, z59, z75] = 0 → z75 = 0 := fac_zero (by simp)
 generalize fac [z61, z59, z75] = g0 at *
 rw [e76, e77]; exact pair_fac u3 k0_61 k0_59
theorem linePappus_f4 {z0 z1 z2 z3 z4 z5 z6 z7 z8 z9 z10 z11 z12 z13 z16 z17 z62 z63 z64 z65 z66 z67 z68 z69 z70 : Rat} : z4 = z2 - z0 → z5 = z3 - z1 → z7 = z4 * z6 → z8 = z5 * z6 → z9 = 0 → z10 = z9 + z0 → z11 = z9 + z1 → z12 = z10 + z7 → z13 = z11 + z8 → z62 = z16 - z12 → z63 = z17 - z13 → z64 = -z63 → z65 = z64 * z12 → z66 = z62 * z13 → z67 = z65 + z66 → z68 = -z67 → z69 = z64 * fac [z64, z62, z68] → z70 = z62 * fac [z64, z62, z68] → (¬ (z64 = 0 ∧ z62 = 0)) → ¬ (z69 = 0 ∧ z70 = 0) := by
 intro e4 e5 e7 e8 e9 e10 e11 e12 e13 e62 e63 e64 e65 e66 e67 e68 e69 e70 u4
 have k0_62 : fac [z64, z62, z68] = 0 → z62 = 0 := fac_zero (by simp)
 have k0_64 : fac [z64, z62, z68] = 0 → z64 = 0 := fac_zero (by simp)
 have k0_68 : fac [z64, z62, z68] = 0 → z68 = 0 := fac_zero (by simp)
 generalize fac [z64, z62, z68] = g0 at *
 rw [e69, e70]; exact pair_fac u4 k0_64 k0_62
theorem linePappus_f5 {z0 z1 z2 z3 z4 z5 z6 z7 z8 z9 z10 z11 z12 z13 z14 z15 z91 z92 z93 z104 z105 z106 z107 z108 z109 : Rat} : z4 = z2 - z0 → z5 = z3 - z1 → z7 = z4 * z6 → z8 = z5 * z6 → z9 = 0 → z10 = z9 + z0 → z11 = z9 + z1 → z12 = z10 + z7 → z13 = z11 + z8 → z91 = z14 - z12 → z92 = z15 - z13 → z93 = -z92 → z104 = z93 * z12 → z105 = z91 * z13 → z106 = z104 + z105 → z107 = -z106 → z108 = z93 * fac [z93, z91, z107] → z109 = z91 * fac [z93, z91, z107] → (¬ (z93 = 0 ∧ z91 = 0)) → ¬ (z108 = 0 ∧ z109 = 0) := by
 intro e4 e5 e7 e8 e9 e10 e11 e12 e13 e91 e92 e93 e104 e105 e106 e107 e108 e109 u6
 have k0_91 : fac [z93, z91, z107] = 0 → z91 = 0 := fac_zero (by simp)
 have k0_93 : fac [z93, z91, z107] = 0 → z93 = 0 := fac_zero (by simp)
 have k0_107 : fac [z93, z91, z107] = 0 → z107 = 0 := fac_zero (by simp)
 generalize fac [z93, z91, z107] = g0 at *
 rw [e108, e109]; exact pair_fac u6 k0_93 k0_91
theorem linePappus_f6 {z0 z1 z9 z14 z15 z16 z17 z18 z19 z20 z21 z22 z23 z24 z25 z26 z94 z95 z96 z97 z98 z99 z100 z101 z102 : Rat} : z9 = 0 → z18 = z16 - z14 → z19 = z17 - z15 → z21 = z18 * z20 → z22 = z19 * z20 → z23 = z9 + z14 → z24 = z9 + z15 → z25 = z23 + z21 → z26 = z24 + z22 → z94 = z25 - z0 → z95 = z26 - z1 → z96 = -z95 → z97 = z96 * z0 → z98 = z94 * z1 → z99 = z97 + z98 → z100 = -z99 → z101 = z96 * fac [z96, z94, z100] → z102 = z94 * fac [z96, z94, z100] → (¬ (z96 = 0 ∧ z94 = 0)) → ¬ (z101 = 0 ∧ z102 = 0) := by
 intro e9 e18 e19 e21 e22 e23 e24 e25 e26 e94 e95 e96 e97 e98 e99 e100 e101 e102 u7
 have k0_94 : fac [z96, z94, z100] = 0 → z94 = 0 := fac_zero (by simp)
 have k0_96 : fac [z96, z94, z100] = 0 → z96 = 0 := fac_zero (by simp)
 have k0_100 : fac [z96, z94, z100] = 0 → z100 = 0 := fac_zero (by simp)
 generalize fac [z96, z94, z100] = g0 at *
 rw [e101, e102]; exact pair_fac u7 k0_96 k0_94
theorem linePappus_f7 {z0 z1 z2 z3 z4 z5 z6 z7 z8 z9 z10 z11 z12 z13 z14 z15 z16 z17 z18 z19 z20 z21 z22 z23 z24 z25 z26 z27 z28 z29 z30 z31 z32 z33 z34 z35 z36 z37 z38 z39 z40 z41 z42 z43 z44 z45 z46 z47 z48 z49 z50 z51 z52 z53 z54 z55 z56 z57 z58 z59 z60 z61 z62 z63 z64 z65 z66 z67 z68 z69 z70 z71 z72 z73 z74 z75 z76 z77 z78 z79 z80 z81 z82 z83 z84 z85 z86 z87 z88 z89 z90 z91 z92 z93 z94 z95 z96 z97 z98 z99 z100 z101 z102 z103 z104 z105 z106 z107 z108 z109 z110 z111 z112 z113 z114 z115 z116 z117 z118 z119 z120 z121 z122 z123 z124 z125 z126 z127 z128 z129 : Rat} : z4 = z2 - z0 → z5 = z3 - z1 → z7 = z4 * z6 → z8 = z5 * z6 → z9 = 0 → z10 = z9 + z0 → z11 = z9 + z1 → z12 = z10 + z7 → z13 = z11 + z8 → z18 = z16 - z14 → z19 = z17 - z15 → z21 = z18 * z20 → z22 = z19 * z20 → z23 = z9 + z14 → z24 = z9 + z15 → z25 = z23 + z21 → z26 = z24 + z22 → z27 = z16 - z0 → z28 = z17 - z1 → z29 = -z28 → z30 = z14 - z2 → z31 = z15 - z3 → z32 = -z31 → z33 = z32 * z2 → z34 = z30 * z3 → z35 = z33 + z34 → z36 = -z35 → z37 = z32 * fac [z32, z30, z36] → z38 = z30 * fac [z32, z30, z36] → z39 = z36 * fac [z32, z30, z36] → z40 = z29 * z0 → z41 = z27 * z1 → z42 = z40 + z41 → z43 = -z42 → z44 = z29 * fac [z29, z27, z43] → z45 = z27 * fac [z29, z27, z43] → z46 = z43 * fac [z29, z27, z43] → z47 = z44 * z38 → z48 = z45 * z37 → z49 = z47 - z48 → z50 = z37 * z46 → z51 = z38 * z46 → z52 = z44 * z39 → z53 = z45 * z39 → z54 = z50 - z52 → z55 = z51 - z53 → z56 = -z55 → z57 = z56 / z49 → z58 = z54 / z49 → z59 = z25 - z2 → z60 = z26 - z3 → z61 = -z60 → z62 = z16 - z12 → z63 = z17 - z13 → z64 = -z63 → z65 = z64 * z12 → z66 = z62 * z13 → z67 = z65 + z66 → z68 = -z67 → z69 = z64 * fac [z64, z62, z68] → z70 = z62 * fac [z64, z62, z68] → z71 = z68 * fac [z64, z62, z68] → z72 = z61 * z2 → z73 = z59 * z3 → z74 = z72 + z73 → z75 = -z74 → z76 = z61 * fac [z61, z59, z75] → z77 = z59 * fac [z61, z59, z75] → z78 = z75 * fac [z61, z59, z75] → z79 = z76 * z70 → z80 = z77 * z69 → z81 = z79 - z80 → z82 = z69 * z78 → z83 = z70 * z78 → z84 = z76 * z71 → z85 = z77 * z71 → z86 = z82 - z84 → z87 = z83 - z85 → z88 = -z87 → z89 = z88 / z81 → z90 = z86 / z81 → z91 = z14 - z12 → z92 = z15 - z13 → z93 = -z92 → z94 = z25 - z0 → z95 = z26 - z1 → z96 = -z95 → z97 = z96 * z0 → z98 = z94 * z1 → z99 = z97 + z98 → z100 = -z99 → z101 = z96 * fac [z96, z94, z100] → z102 = z94 * fac [z96, z94, z100] → z103 = z100 * fac [z96, z94, z100] → z104 = z93 * z12 → z105 = z91 * z13 → z106 = z104 + z105 → z107 = -z106 → z108 = z93 * fac [z93, z91, z107] → z109 = z91 * fac [z93, z91, z107] → z110 = z107 * fac [z93, z91, z107] → z111 = z108 * z102 → z112 = z109 * z101 → z113 = z111 - z112 → z114 = z101 * z110 → z115 = z102 * z110 → z116 = z108 * z103 → z117 = z109 * z103 → z118 = z114 - z116 → z119 = z115 - z117 → z120 = -z119 → z121 = z120 / z113 → z122 = z118 / z113 → z123 = z89 - z57 → z124 = z90 - z58 → z125 = z121 - z57 → z126 = z122 - z58 → z127 = z123 * z126 → z128 = z124 * z125 → z129 = z127 - z128 → (¬ (z29 = 0 ∧ z27 = 0)) → (¬ (z32 = 0 ∧ z30 = 0)) → (¬ (z49 = 0)) → (¬ (z61 = 0 ∧ z59 = 0)) → (¬ (z64 = 0 ∧ z62 = 0)) → (¬ (z81 = 0)) → (¬ (z93 = 0 ∧ z91 = 0)) → (¬ (z96 = 0 ∧ z94 = 0)) → (¬ (z113 = 0)) → z129 = 0 := by
 intro e4 e5 e7 e8 e9 e10 e11 e12 e13 e18 e19 e21 e22 e23 e24 e25 e26 e27 e28 e29 e30 e31 e32 e33 e34 e35 e36 e37 e38 e39 e40 e41 e42 e43 e44 e45 e46 e47 e48 e49 e50 e51 e52 e53 e54 e55 e56 e57 e58 e59 e60 e61 e62 e63 e64 e65 e66 e67 e68 e69 e70 e71 e72 e73 e74 e75 e76 e77 e78 e79 e80 e81 e82 e83 e84 e85 e86 e87 e88 e89 e90 e91 e92 e93 e94 e95 e96 e97 e98 e99 e100 e101 e102 e103 e104 e105 e106 e107 e108 e109 e110 e111 e112 e113 e114 e115 e116 e117 e118 e119 e120 e121 e122 e123 e124 e125 e126 e127 e128 e129 u0 u1 u2 u3 u4 u5 u6 u7 u8
 generalize fac [z32, z30, z36] = g0 at *
 generalize fac [z29, z27, z43] = g1 at *
 generalize fac [z64, z62, z68] = g2 at *
 generalize fac [z61, z59, z75] = g3 at *
 generalize fac [z96, z94, z100] = g4 at *
 generalize fac [z93, z91, z107] = g5 at *
 have t32 := pl_1 z32
 obtain ⟨s0, hs0⟩ : ∃ s, s = 1 * g0 := ⟨_, rfl⟩
 have t37 := pl_8 t32 e37 hs0
 have t30 := pl_1 z30
 have t38 := pl_8 t30 e38 hs0
 have t36 := pl_1 z36
 have t39 := pl_8 t36 e39 hs0
 have t29 := pl_1 z29
 obtain ⟨s1, hs1⟩ : ∃ s, s = 1 * g1 := ⟨_, rfl⟩
 have t44 := pl_8 t29 e44 hs1
 have t27 := pl_1 z27
 have t45 := pl_8 t27 e45 hs1
 have t43 := pl_1 z43
 have t46 := pl_8 t43 e46 hs1
 obtain ⟨s2, hs2⟩ : ∃ s, s = s1 * s0 := ⟨_, rfl⟩
 obtain ⟨p47, hp47⟩ : ∃ p, p = z29 * z30 := ⟨_, rfl⟩
 have t47 := pl_m t44 t38 e47 hp47 hs2
 obtain ⟨p48, hp48⟩ : ∃ p, p = z27 * z32 := ⟨_, rfl⟩
 have t48 := pl_m t45 t37 e48 hp48 hs2
 obtain ⟨p49, hp49⟩ : ∃ p, p = p47 - p48 := ⟨_, rfl⟩
 have t49 := pl_s t47 t48 e49 hp49
 obtain ⟨p50, hp50⟩ : ∃ p, p = z32 * z43 := ⟨_, rfl⟩
 have t50 := pl_w t37 t46 e50 hp50 hs2
 obtain ⟨p51, hp51⟩ : ∃ p, p = z30 * z43 := ⟨_, rfl⟩
 have t51 := pl_w t38 t46 e51 hp51 hs2
 obtain ⟨p52, hp52⟩ : ∃ p, p = z29 * z36 := ⟨_, rfl⟩
 have t52 := pl_m t44 t39 e52 hp52 hs2
 obtain ⟨p53, hp53⟩ : ∃ p, p = z27 * z36 := ⟨_, rfl⟩
 have t53 := pl_m t45 t39 e53 hp53 hs2
 obtain ⟨p54, hp54⟩ : ∃ p, p = p50 - p52 := ⟨_, rfl⟩
 have t54 := pl_s t50 t52 e54 hp54
 obtain ⟨p55, hp55⟩ : ∃ p, p = p51 - p53 := ⟨_, rfl⟩
 have t55 := pl_s t51 t53 e55 hp55
 obtain ⟨p56, hp56⟩ : ∃ p, p = -p55 := ⟨_, rfl⟩
 have t56 := pl_n t55 e56 hp56
 have t64 := pl_1 z64
 obtain ⟨s3, hs3⟩ : ∃ s, s = 1 * g2 := ⟨_, rfl⟩
 have t69 := pl_8 t64 e69 hs3
 have t62 := pl_1 z62
 have t70 := pl_8 t62 e70 hs3
 have t68 := pl_1 z68
 have t71 := pl_8 t68 e71 hs3
 have t61 := pl_1 z61
 obtain ⟨s4, hs4⟩ : ∃ s, s = 1 * g3 := ⟨_, rfl⟩
 have t76 := pl_8 t61 e76 hs4
 have t59 := pl_1 z59
 have t77 := pl_8 t59 e77 hs4
 have t75 := pl_1 z75
 have t78 := pl_8 t75 e78 hs4
 obtain ⟨s5, hs5⟩ : ∃ s, s = s4 * s3 := ⟨_, rfl⟩
 obtain ⟨p79, hp79⟩ : ∃ p, p = z61 * z62 := ⟨_, rfl⟩
 have t79 := pl_m t76 t70 e79 hp79 hs5
 obtain ⟨p80, hp80⟩ : ∃ p, p = z59 * z64 := ⟨_, rfl⟩
 have t80 := pl_m t77 t69 e80 hp80 hs5
 obtain ⟨p81, hp81⟩ : ∃ p, p = p79 - p80 := ⟨_, rfl⟩
 have t81 := pl_s t79 t80 e81 hp81
 obtain ⟨p82, hp82⟩ : ∃ p, p = z64 * z75 := ⟨_, rfl⟩
 have t82 := pl_w t69 t78 e82 hp82 hs5
 obtain ⟨p83, hp83⟩ : ∃ p, p = z62 * z75 := ⟨_, rfl⟩
 have t83 := pl_w t70 t78 e83 hp83 hs5
 obtain ⟨p84, hp84⟩ : ∃ p, p = z61 * z68 := ⟨_, rfl⟩
 have t84 := pl_m t76 t71 e84 hp84 hs5
 obtain ⟨p85, hp85⟩ : ∃ p, p = z59 * z68 := ⟨_, rfl⟩
 have t85 := pl_m t77 t71 e85 hp85 hs5
 obtain ⟨p86, hp86⟩ : ∃ p, p = p82 - p84 := ⟨_, rfl⟩
 have t86 := pl_s t82 t84 e86 hp86
 obtain ⟨p87, hp87⟩ : ∃ p, p = p83 - p85 := ⟨_, rfl⟩
 have t87 := pl_s t83 t85 e87 hp87
 obtain ⟨p88, hp88⟩ : ∃ p, p = -p87 := ⟨_, rfl⟩
 have t88 := pl_n t87 e88 hp88
 have t96 := pl_1 z96
 obtain ⟨s6, hs6⟩ : ∃ s, s = 1 * g4 := ⟨_, rfl⟩
 have t101 := pl_8 t96 e101 hs6
 have t94 := pl_1 z94
 have t102 := pl_8 t94 e102 hs6
 have t100 := pl_1 z100
 have t103 := pl_8 t100 e103 hs6
 have t93 := pl_1 z93
 obtain ⟨s7, hs7⟩ : ∃ s, s = 1 * g5 := ⟨_, rfl⟩
 have t108 := pl_8 t93 e108 hs7
 have t91 := pl_1 z91
 have t109 := pl_8 t91 e109 hs7
 have t107 := pl_1 z107
 have t110 := pl_8 t107 e110 hs7
 obtain ⟨s8, hs8⟩ : ∃ s, s = s7 * s6 := ⟨_, rfl⟩
 obtain ⟨p111, hp111⟩ : ∃ p, p = z93 * z94 := ⟨_, rfl⟩
 have t111 := pl_m t108 t102 e111 hp111 hs8
 obtain ⟨p112, hp112⟩ : ∃ p, p = z91 * z96 := ⟨_, rfl⟩
 have t112 := pl_m t109 t101 e112 hp112 hs8
 obtain ⟨p113, hp113⟩ : ∃ p, p = p111 - p112 := ⟨_, rfl⟩
 have t113 := pl_s t111 t112 e113 hp113
 obtain ⟨p114, hp114⟩ : ∃ p, p = z96 * z107 := ⟨_, rfl⟩
 have t114 := pl_w t101 t110 e114 hp114 hs8
 obtain ⟨p115, hp115⟩ : ∃ p, p = z94 * z107 := ⟨_, rfl⟩
 have t115 := pl_w t102 t110 e115 hp115 hs8
 obtain ⟨p116, hp116⟩ : ∃ p, p = z93 * z100 := ⟨_, rfl⟩
 have t116 := pl_m t108 t103 e116 hp116 hs8
 obtain ⟨p117, hp117⟩ : ∃ p, p = z91 * z100 := ⟨_, rfl⟩
 have t117 := pl_m t109 t103 e117 hp117 hs8
 obtain ⟨p118, hp118⟩ : ∃ p, p = p114 - p116 := ⟨_, rfl⟩
 have t118 := pl_s t114 t116 e118 hp118
 obtain ⟨p119, hp119⟩ : ∃ p, p = p115 - p117 := ⟨_, rfl⟩
 have t119 := pl_s t115 t117 e119 hp119
 obtain ⟨p120, hp120⟩ : ∃ p, p = -p119 := ⟨_, rfl⟩
 have t120 := pl_n t119 e120 hp120
 have ⟨fx57, fw49⟩ := lp_q t56 t49 e57 u2
 have ⟨fy58, _⟩ := lp_q t54 t49 e58 u2
 have ⟨fx89, fw81⟩ := lp_q t88 t81 e89 u5
 have ⟨fy90, _⟩ := lp_q t86 t81 e90 u5
 have ⟨fx121, fw113⟩ := lp_q t120 t113 e121 u8
 have ⟨fy122, _⟩ := lp_q t118 t113 e122 u8
 have hd := pq_main (a1 := z0) (a2 := z1) (a3 := 1) (b1 := z2) (b2 := z3) (b3 := 1) (c1 := z14) (c2 := z15) (c3 := 1) (d1 := z16) (d2 := z17) (d3 := 1) (r1 := z12) (r2 := z13) (r3 := 1) (s1 := z25) (s2 := z26) (s3 := 1) (X01 := z29) (X02 := z27) (X03 := z43) (Y01 := z32) (Y02 := z30) (Y03 := z36) (Z01 := p56) (Z02 := p54) (Z03 := p49) (X11 := z61) (X12 := z59) (X13 := z75) (Y11 := z64) (Y12 := z62) (Y13 := z68) (Z11 := p88) (Z12 := p86) (Z13 := p81) (X21 := z93) (X22 := z91) (X23 := z107) (Y21 := z96) (Y22 := z94) (Y23 := z100) (Z21 := p120) (Z22 := p118) (Z23 := p113) (k0 := 1 - z6) (k1 := z6) (n0 := 1 - z20) (n1 := z20) (by rw [e12, e10, e9, e7, e4]; exact lp_f _ _ _) (by rw [e13, e11, e9, e8, e5]; exact lp_f _ _ _) (lp_g _) (by rw [e25, e23, e9, e21, e18]; exact lp_f _ _ _) (by rw [e26, e24, e9, e22, e19]; exact lp_f _ _ _) (lp_g _) (by rw [e29, e28]; exact lp_a _ _) (by rw [e27]; exact lp_b _ _) (by rw [e43, e42, e40, e41, e29, e28, e27]; exact lp_c _ _ _ _) (by rw [e32, e31]; exact lp_a _ _) (by rw [e30]; exact lp_b _ _) (by rw [e36, e35, e33, e34, e32, e31, e30]; exact lp_c _ _ _ _) (by rw [hp56, hp55, hp51, hp53]; exact lp_d _ _ _ _) (by rw [hp54, hp50, hp52]; exact lp_e _ _ _ _) (by rw [hp49, hp47, hp48]) (by rw [e61, e60]; exact lp_a _ _) (by rw [e59]; exact lp_b _ _) (by rw [e75, e74, e72, e73, e61, e60, e59]; exact lp_c _ _ _ _) (by rw [e64, e63]; exact lp_a _ _) (by rw [e62]; exact lp_b _ _) (by rw [e68, e67, e65, e66, e64, e63, e62]; exact lp_c _ _ _ _) (by rw [hp88, hp87, hp83, hp85]; exact lp_d _ _ _ _) (by rw [hp86, hp82, hp84]; exact lp_e _ _ _ _) (by rw [hp81, hp79, hp80]) (by rw [e93, e92]; exact lp_a _ _) (by rw [e91]; exact lp_b _ _) (by rw [e107, e106, e104, e105, e93, e92, e91]; exact lp_c _ _ _ _) (by rw [e96, e95]; exact lp_a _ _) (by rw [e94]; exact lp_b _ _) (by rw [e100, e99, e97, e98, e96, e95, e94]; exact lp_c _ _ _ _) (by rw [hp120, hp119, hp115, hp117]; exact lp_d _ _ _ _) (by rw [hp118, hp114, hp116]; exact lp_e _ _ _ _) (by rw [hp113, hp111, hp112])
 rw [e129, e127, e128, e123, e124, e125, e126]
 exact lp_turn fw49 fw81 fw113 fx57 fy58 fx89 fy90 fx121 fy122 hd
theorem linePappus_r0 : (callB (sx Tryz.prog linePappus_N [(6, 29, 27, 1), (6, 32, 30, 1)] [] linePappus_L linePappus_C linePappus_Z (prQ [41])) 5 6 [(false, [(true, [.inr (2, 0, 0, 0, 0), .inr (2, 1, 0, 0, 0)])]), (false, [(true, [.inr (2, 2, 0, 0, 0), .inr (2, 3, 0, 0, 0)])]), (false, [(true, [.inr (2, 4, 0, 0, 0), .inr (2, 5, 0, 0, 0)])]), (false, [(true, [.inr (2, 6, 0, 0, 0), .inr (2, 7, 0, 0, 0)])]), (false, [(false, [.inr (2, 8, 0, 0, 0)])]), (false, [(false, [.inr (2, 9, 0, 0, 0)])])] [] 0).map (·.1) = some (kB true) := by kernel_rfl
theorem linePappus_r1 : (callB (sx Tryz.prog linePappus_N [(6, 29, 27, 1), (6, 32, 30, 0)] [] linePappus_L linePappus_C linePappus_Z (prQ [41])) 6 6 [(false, [(true, [.inr (2, 0, 0, 0, 0), .inr (2, 1, 0, 0, 0)])]), (false, [(true, [.inr (2, 2, 0, 0, 0), .inr (2, 3, 0, 0, 0)])]), (false, [(true, [.inr (2, 4, 0, 0, 0), .inr (2, 5, 0, 0, 0)])]), (false, [(true, [.inr (2, 6, 0, 0, 0), .inr (2, 7, 0, 0, 0)])]), (false, [(false, [.inr (2, 8, 0, 0, 0)])]), (false, [(false, [.inr (2, 9, 0, 0, 0)])])] [] 0).map (·.1) = some (kB true) := by kernel_rfl
theorem linePappus_r2 : (callB (sx Tryz.prog linePappus_N [(6, 29, 27, 0), (6, 32, 30, 1)] [] linePappus_L linePappus_C linePappus_Z (prQ [41])) 6 6 [(false, [(true, [.inr (2, 0, 0, 0, 0), .inr (2, 1, 0, 0, 0)])]), (false, [(true, [.inr (2, 2, 0, 0, 0), .inr (2, 3, 0, 0, 0)])]), (false, [(true, [.inr (2, 4, 0, 0, 0), .inr (2, 5, 0, 0, 0)])]), (false, [(true, [.inr (2, 6, 0, 0, 0), .inr (2, 7, 0, 0, 0)])]), (false, [(false, [.inr (2, 8, 0, 0, 0)])]), (false, [(false, [.inr (2, 9, 0, 0, 0)])])] [] 0).map (·.1) = some (kB true) := by kernel_rfl
theorem linePappus_r3 : (callB (sx Tryz.prog linePappus_N [(6, 29, 27, 0), (6, 32, 30, 0), (6, 44, 45, 0), (6, 37, 38, 0), (0, 49, 0, 1), (6, 54, 55, 1)] [] linePappus_L linePappus_C linePappus_Z (prQ [41])) 6 6 [(false, [(true, [.inr (2, 0, 0, 0, 0), .inr (2, 1, 0, 0, 0)])]), (false, [(true, [.inr (2, 2, 0, 0, 0), .inr (2, 3, 0, 0, 0)])]), (false, [(true, [.inr (2, 4, 0, 0, 0), .inr (2, 5, 0, 0, 0)])]), (false, [(true, [.inr (2, 6, 0, 0, 0), .inr (2, 7, 0, 0, 0)])]), (false, [(false, [.inr (2, 8, 0, 0, 0)])]), (false, [(false, [.inr (2, 9, 0, 0, 0)])])] [] 0).map (·.1) = some (kB true) := by kernel_rfl
theorem linePappus_r4 : (callB (sx Tryz.prog linePappus_N [(6, 29, 27, 0), (6, 32, 30, 0), (6, 44, 45, 0), (6, 37, 38, 0), (0, 49, 0, 1), (6, 54, 55, 0)] [] linePappus_L linePappus_C linePappus_Z (prQ [41])) 6 6 [(false, [(true, [.inr (2, 0, 0, 0, 0), .inr (2, 1, 0, 0, 0)])]), (false, [(true, [.inr (2, 2, 0, 0, 0), .inr (2, 3, 0, 0, 0)])]), (false, [(true, [.inr (2, 4, 0, 0, 0), .inr (2, 5, 0, 0, 0)])]), (false, [(true, [.inr (2, 6, 0, 0, 0), .inr (2, 7, 0, 0, 0)])]), (false, [(false, [.inr (2, 8, 0, 0, 0)])]), (false, [(false, [.inr (2, 9, 0, 0, 0)])])] [] 0).map (·.1) = some (kB true) := by kernel_rfl
theorem linePappus_r5 : (callB (sx Tryz.prog linePappus_N [(6, 29, 27, 0), (6, 32, 30, 0), (6, 44, 45, 0), (6, 37, 38, 0), (0, 49, 0, 0), (6, 61, 59, 1), (6, 64, 62, 1)] [] linePappus_L linePappus_C linePappus_Z (prQ [41])) 6 6 [(false, [(true, [.inr (2, 0, 0, 0, 0), .inr (2, 1, 0, 0, 0)])]), (false, [(true, [.inr (2, 2, 0, 0, 0), .inr (2, 3, 0, 0, 0)])]), (false, [(true, [.inr (2, 4, 0, 0, 0), .inr (2, 5, 0, 0, 0)])]), (false, [(true, [.inr (2, 6, 0, 0, 0), .inr (2, 7, 0, 0, 0)])]), (false, [(false, [.inr (2, 8, 0, 0, 0)])]), (false, [(false, [.inr (2, 9, 0, 0, 0)])])] [] 0).map (·.1) = some (kB true) := by kernel_rfl
theorem linePappus_r6 : (callB (sx Tryz.prog linePappus_N [(6, 29, 27, 0), (6, 32, 30, 0), (6, 44, 45, 0), (6, 37, 38, 0), (0, 49, 0, 0), (6, 61, 59, 1), (6, 64, 62, 0)] [] linePappus_L linePappus_C linePappus_Z (prQ [41])) 6 6 [(false, [(true, [.inr (2, 0, 0, 0, 0), .inr (2, 1, 0, 0, 0)])]), (false, [(true, [.inr (2, 2, 0, 0, 0), .inr (2, 3, 0, 0, 0)])]), (false, [(true, [.inr (2, 4, 0, 0, 0), .inr (2, 5, 0, 0, 0)])]), (false, [(true, [.inr (2, 6, 0, 0, 0), .inr (2, 7, 0, 0, 0)])]), (false, [(false, [.inr (2, 8, 0, 0, 0)])]), (false, [(false, [.inr (2, 9, 0, 0, 0)])])] [] 0).map (·.1) = some (kB true) := by kernel_rfl
theorem linePappus_r7 : (callB (sx Tryz.prog linePappus_N [(6, 29, 27, 0), (6, 32, 30, 0), (6, 44, 45, 0), (6, 37, 38, 0), (0, 49, 0, 0), (6, 61, 59, 0), (6, 64, 62, 1)] [] linePappus_L linePappus_C linePappus_Z (prQ [41])) 6 6 [(false, [(true, [.inr (2, 0, 0, 0, 0), .inr (2, 1, 0, 0, 0)])]), (false, [(true, [.inr (2, 2, 0, 0, 0), .inr (2, 3, 0, 0, 0)])]), (false, [(true, [.inr (2, 4, 0, 0, 0), .inr (2, 5, 0, 0, 0)])]), (false, [(true, [.inr (2, 6, 0, 0, 0), .inr (2, 7, 0, 0, 0)])]), (false, [(false, [.inr (2, 8, 0, 0, 0)])]), (false, [(false, [.inr (2, 9, 0, 0, 0)])])] [] 0).map (·.1) = some (kB true) := by kernel_rfl
theorem linePappus_r8 : (callB (sx Tryz.prog linePappus_N [(6, 29, 27, 0), (6, 32, 30, 0), (6, 44, 45, 0), (6, 37, 38, 0), (0, 49, 0, 0), (6, 61, 59, 0), (6, 64, 62, 0), (6, 76, 77, 0), (6, 69, 70, 0), (0, 81, 0, 1), (6, 86, 87, 1)] [] linePappus_L linePappus_C linePappus_Z (prQ [41])) 6 6 [(false, [(true, [.inr (2, 0, 0, 0, 0), .inr (2, 1, 0, 0, 0)])]), (false, [(true, [.inr (2, 2, 0, 0, 0), .inr (2, 3, 0, 0, 0)])]), (false, [(true, [.inr (2, 4, 0, 0, 0), .inr (2, 5, 0, 0, 0)])]), (false, [(true, [.inr (2, 6, 0, 0, 0), .inr (2, 7, 0, 0, 0)])]), (false, [(false, [.inr (2, 8, 0, 0, 0)])]), (false, [(false, [.inr (2, 9, 0, 0, 0)])])] [] 0).map (·.1) = some (kB true) := by kernel_rfl
theorem linePappus_r9 : (callB (sx Tryz.prog linePappus_N [(6, 29, 27, 0), (6, 32, 30, 0), (6, 44, 45, 0), (6, 37, 38, 0), (0, 49, 0, 0), (6, 61, 59, 0), (6, 64, 62, 0), (6, 76, 77, 0), (6, 69, 70, 0), (0, 81, 0, 1), (6, 86, 87, 0)] [] linePappus_L linePappus_C linePappus_Z (prQ [41])) 6 6 [(false, [(true, [.inr (2, 0, 0, 0, 0), .inr (2, 1, 0, 0, 0)])]), (false, [(true, [.inr (2, 2, 0, 0, 0), .inr (2, 3, 0, 0, 0)])]), (false, [(true, [.inr (2, 4, 0, 0, 0), .inr (2, 5, 0, 0, 0)])]), (false, [(true, [.inr (2, 6, 0, 0, 0), .inr (2, 7, 0, 0, 0)])]), (false, [(false, [.inr (2, 8, 0, 0, 0)])]), (false, [(false, [.inr (2, 9, 0, 0, 0)])])] [] 0).map (·.1) = some (kB true) := by kernel_rfl
theorem linePappus_r10 : (callB (sx Tryz.prog linePappus_N [(6, 29, 27, 0), (6, 32, 30, 0), (6, 44, 45, 0), (6, 37, 38, 0), (0, 49, 0, 0), (6, 61, 59, 0), (6, 64, 62, 0), (6, 76, 77, 0), (6, 69, 70, 0), (0, 81, 0, 0), (6, 93, 91, 1), (6, 96, 94, 1)] [] linePappus_L linePappus_C linePappus_Z (prQ [41])) 6 6 [(false, [(true, [.inr (2, 0, 0, 0, 0), .inr (2, 1, 0, 0, 0)])]), (false, [(true, [.inr (2, 2, 0, 0, 0), .inr (2, 3, 0, 0, 0)])]), (false, [(true, [.inr (2, 4, 0, 0, 0), .inr (2, 5, 0, 0, 0)])]), (false, [(true, [.inr (2, 6, 0, 0, 0), .inr (2, 7, 0, 0, 0)])]), (false, [(false, [.inr (2, 8, 0, 0, 0)])]), (false, [(false, [.inr (2, 9, 0, 0, 0)])])] [] 0).map (·.1) = some (kB true) := by kernel_rfl
theorem linePappus_r11 : (callB (sx Tryz.prog linePappus_N [(6, 29, 27, 0), (6, 32, 30, 0), (6, 44, 45, 0), (6, 37, 38, 0), (0, 49, 0, 0), (6, 61, 59, 0), (6, 64, 62, 0), (6, 76, 77, 0), (6, 69, 70, 0), (0, 81, 0, 0), (6, 93, 91, 1), (6, 96, 94, 0)] [] linePappus_L linePappus_C linePappus_Z (prQ [41])) 6 6 [(false, [(true, [.inr (2, 0, 0, 0, 0), .inr (2, 1, 0, 0, 0)])]), (false, [(true, [.inr (2, 2, 0, 0, 0), .inr (2, 3, 0, 0, 0)])]), (false, [(true, [.inr (2, 4, 0, 0, 0), .inr (2, 5, 0, 0, 0)])]), (false, [(true, [.inr (2, 6, 0, 0, 0), .inr (2, 7, 0, 0, 0)])]), (false, [(false, [.inr (2, 8, 0, 0, 0)])]), (false, [(false, [.inr (2, 9, 0, 0, 0)])])] [] 0).map (·.1) = some (kB true) := by kernel_rfl
theorem linePappus_r12 : (callB (sx Tryz.prog linePappus_N [(6, 29, 27, 0), (6, 32, 30, 0), (6, 44, 45, 0), (6, 37, 38, 0), (0, 49, 0, 0), (6, 61, 59, 0), (6, 64, 62, 0), (6, 76, 77, 0), (6, 69, 70, 0), (0, 81, 0, 0), (6, 93, 91, 0), (6, 96, 94, 1)] [] linePappus_L linePappus_C linePappus_Z (prQ [41])) 6 6 [(false, [(true, [.inr (2, 0, 0, 0, 0), .inr (2, 1, 0, 0, 0)])]), (false, [(true, [.inr (2, 2, 0, 0, 0), .inr (2, 3, 0, 0, 0)])]), (false, [(true, [.inr (2, 4, 0, 0, 0), .inr (2, 5, 0, 0, 0)])]), (false, [(true, [.inr (2, 6, 0, 0, 0), .inr (2, 7, 0, 0, 0)])]), (false, [(false, [.inr (2, 8, 0, 0, 0)])]), (false, [(false, [.inr (2, 9, 0, 0, 0)])])] [] 0).map (·.1) = some (kB true) := by kernel_rfl
theorem linePappus_r13 : (callB (sx Tryz.prog linePappus_N [(6, 29, 27, 0), (6, 32, 30, 0), (6, 44, 45, 0), (6, 37, 38, 0), (0, 49, 0, 0), (6, 61, 59, 0), (6, 64, 62, 0), (6, 76, 77, 0), (6, 69, 70, 0), (0, 81, 0, 0), (6, 93, 91, 0), (6, 96, 94, 0), (6, 108, 109, 0), (6, 101, 102, 0), (0, 113, 0, 1), (6, 118, 119, 1)] [] linePappus_L linePappus_C linePappus_Z (prQ [41])) 6 6 [(false, [(true, [.inr (2, 0, 0, 0, 0), .inr (2, 1, 0, 0, 0)])]), (false, [(true, [.inr (2, 2, 0, 0, 0), .inr (2, 3, 0, 0, 0)])]), (false, [(true, [.inr (2, 4, 0, 0, 0), .inr (2, 5, 0, 0, 0)])]), (false, [(true, [.inr (2, 6, 0, 0, 0), .inr (2, 7, 0, 0, 0)])]), (false, [(false, [.inr (2, 8, 0, 0, 0)])]), (false, [(false, [.inr (2, 9, 0, 0, 0)])])] [] 0).map (·.1) = some (kB true) := by kernel_rfl
theorem linePappus_r14 : (callB (sx Tryz.prog linePappus_N [(6, 29, 27, 0), (6, 32, 30, 0), (6, 44, 45, 0), (6, 37, 38, 0), (0, 49, 0, 0), (6, 61, 59, 0), (6, 64, 62, 0), (6, 76, 77, 0), (6, 69, 70, 0), (0, 81, 0, 0), (6, 93, 91, 0), (6, 96, 94, 0), (6, 108, 109, 0), (6, 101, 102, 0), (0, 113, 0, 1), (6, 118, 119, 0)] [] linePappus_L linePappus_C linePappus_Z (prQ [41])) 6 6 [(false, [(true, [.inr (2, 0, 0, 0, 0), .inr (2, 1, 0, 0, 0)])]), (false, [(true, [.inr (2, 2, 0, 0, 0), .inr (2, 3, 0, 0, 0)])]), (false, [(true, [.inr (2, 4, 0, 0, 0), .inr (2, 5, 0, 0, 0)])]), (false, [(true, [.inr (2, 6, 0, 0, 0), .inr (2, 7, 0, 0, 0)])]), (false, [(false, [.inr (2, 8, 0, 0, 0)])]), (false, [(false, [.inr (2, 9, 0, 0, 0)])])] [] 0).map (·.1) = some (kB true) := by kernel_rfl
theorem linePappus_r15 : (callB (sx Tryz.prog linePappus_N [(6, 29, 27, 0), (6, 32, 30, 0), (6, 44, 45, 0), (6, 37, 38, 0), (0, 49, 0, 0), (6, 61, 59, 0), (6, 64, 62, 0), (6, 76, 77, 0), (6, 69, 70, 0), (0, 81, 0, 0), (6, 93, 91, 0), (6, 96, 94, 0), (6, 108, 109, 0), (6, 101, 102, 0), (0, 113, 0, 0), (0, 129, 0, 1)] [] linePappus_L linePappus_C linePappus_Z (prQ [41])) 6 6 [(false, [(true, [.inr (2, 0, 0, 0, 0), .inr (2, 1, 0, 0, 0)])]), (false, [(true, [.inr (2, 2, 0, 0, 0), .inr (2, 3, 0, 0, 0)])]), (false, [(true, [.inr (2, 4, 0, 0, 0), .inr (2, 5, 0, 0, 0)])]), (false, [(true, [.inr (2, 6, 0, 0, 0), .inr (2, 7, 0, 0, 0)])]), (false, [(false, [.inr (2, 8, 0, 0, 0)])]), (false, [(false, [.inr (2, 9, 0, 0, 0)])])] [] 0).map (·.1) = some (kB true) := by kernel_rfl
theorem linePappus_An {a b : Prop} (x : a) (y : b) : a ∧ b := ⟨x, y⟩
theorem linePappus_leaf {H : List (Nat × Nat × Nat × Nat)} {K : List (FuncId × List AC)} {k : Nat} {q : Nat → Rat} {σ : Nat → ByteArray} {args : List AV} {vs : List Value} {w : World} (hr : (callB (sx Tryz.prog linePappus_N H K linePappus_L linePappus_C linePappus_Z (prQ [41])) k 6 args [] 0).map (·.1) = some (kB true)) (hσ : ∀ j, (σ j).size ≤ 1048576) (hq : ∀ (a : Nat) nd, linePappus_N[a]? = some nd → q a = valN σ q nd) (h0 : ∀ a, linePappus_N.length ≤ a → q a = 0) (hH : hAll q H) (hp : PreS w) (hA : ∀ K, A2 (avOn (cOn (evS q σ) K (fun _ => none) w)) args vs) : Calls Tryz.prog 6 vs.toArray w fun e w' => Below w.heap.size w w' ∧ e = .returned (.bool true) :=
 run_toldQ' k (hy_ofW hσ linePappus_wf linePappus_sz linePappus_lt linePappus_cn hq h0 hH) (by simp [closed_lined]) (by kernel_rfl) hr hp (hA K)
theorem linePappus_walk {w : World} {ax az bx bz cx cz dx dz x y : ByteArray} (sax : ax.size ≤ 1048576) (saz : az.size ≤ 1048576) (sbx : bx.size ≤ 1048576) (sbz : bz.size ≤ 1048576) (scx : cx.size ≤ 1048576) (scz : cz.size ≤ 1048576) (sdx : dx.size ≤ 1048576) (sdz : dz.size ≤ 1048576) (sx : x.size ≤ 1048576) (sy : y.size ≤ 1048576) (tab : Tab w) (mx : MaxL w) :
  Calls Tryz.prog 6 #[.agg #[.string ax, .string az], .agg #[.string bx, .string bz], .agg #[.string cx, .string cz], .agg #[.string dx, .string dz], .string x, .string y] w fun e w' => Below w.heap.size w w' ∧ e = .returned (.bool true) := by
 have hσ : ∀ j, (sgOf [ax, az, bx, bz, cx, cz, dx, dz, x, y] j).size ≤ 1048576 := sgOf_size (by simp [sax, saz, sbx, sbz, scx, scz, sdx, sdz, sx, sy])
 obtain ⟨q, hq, h0⟩ := nodes_exist (sgOf [ax, az, bx, bz, cx, cz, dx, dz, x, y]) linePappus_N linePappus_wf
 have hA : ∀ K, A2 (avOn (cOn (evS q (sgOf [ax, az, bx, bz, cx, cz, dx, dz, x, y])) K (fun _ => none) w)) [(false, [(true, [.inr (2, 0, 0, 0, 0), .inr (2, 1, 0, 0, 0)])]), (false, [(true, [.inr (2, 2, 0, 0, 0), .inr (2, 3, 0, 0, 0)])]), (false, [(true, [.inr (2, 4, 0, 0, 0), .inr (2, 5, 0, 0, 0)])]), (false, [(true, [.inr (2, 6, 0, 0, 0), .inr (2, 7, 0, 0, 0)])]), (false, [(false, [.inr (2, 8, 0, 0, 0)])]), (false, [(false, [.inr (2, 9, 0, 0, 0)])])] [.agg #[.string ax, .string az], .agg #[.string bx, .string bz], .agg #[.string cx, .string cz], .agg #[.string dx, .string dz], .string x, .string y] := fun K => ⟨⟨⟨[.string ax, .string az], rfl, rfl, rfl, trivial⟩, trivial⟩, ⟨⟨[.string bx, .string bz], rfl, rfl, rfl, trivial⟩, trivial⟩, ⟨⟨[.string cx, .string cz], rfl, rfl, rfl, trivial⟩, trivial⟩, ⟨⟨[.string dx, .string dz], rfl, rfl, rfl, trivial⟩, trivial⟩, ⟨⟨rfl, trivial⟩, trivial⟩, ⟨⟨rfl, trivial⟩, trivial⟩, trivial⟩
 have E4 : q 4 = q 2 - q 0 := hq 4 _ rfl
 have E5 : q 5 = q 3 - q 1 := hq 5 _ rfl
 have E7 : q 7 = q 4 * q 6 := hq 7 _ rfl
 have E8 : q 8 = q 5 * q 6 := hq 8 _ rfl
 have E9 : q 9 = 0 := (hq 9 _ rfl).trans linePappus_c9
 have E10 : q 10 = q 9 + q 0 := hq 10 _ rfl
 have E11 : q 11 = q 9 + q 1 := hq 11 _ rfl
 have E12 : q 12 = q 10 + q 7 := hq 12 _ rfl
 have E13 : q 13 = q 11 + q 8 := hq 13 _ rfl
 have E18 : q 18 = q 16 - q 14 := hq 18 _ rfl
 have E19 : q 19 = q 17 - q 15 := hq 19 _ rfl
 have E21 : q 21 = q 18 * q 20 := hq 21 _ rfl
 have E22 : q 22 = q 19 * q 20 := hq 22 _ rfl
 have E23 : q 23 = q 9 + q 14 := hq 23 _ rfl
 have E24 : q 24 = q 9 + q 15 := hq 24 _ rfl
 have E25 : q 25 = q 23 + q 21 := hq 25 _ rfl
 have E26 : q 26 = q 24 + q 22 := hq 26 _ rfl
 have E27 : q 27 = q 16 - q 0 := hq 27 _ rfl
 have E28 : q 28 = q 17 - q 1 := hq 28 _ rfl
 have E29 : q 29 = -q 28 := hq 29 _ rfl
 have E30 : q 30 = q 14 - q 2 := hq 30 _ rfl
 have E31 : q 31 = q 15 - q 3 := hq 31 _ rfl
 have E32 : q 32 = -q 31 := hq 32 _ rfl
 have E33 : q 33 = q 32 * q 2 := hq 33 _ rfl
 have E34 : q 34 = q 30 * q 3 := hq 34 _ rfl
 have E35 : q 35 = q 33 + q 34 := hq 35 _ rfl
 have E36 : q 36 = -q 35 := hq 36 _ rfl
 have E37 : q 37 = q 32 * fac [q 32, q 30, q 36] := hq 37 _ rfl
 have E38 : q 38 = q 30 * fac [q 32, q 30, q 36] := hq 38 _ rfl
 have E39 : q 39 = q 36 * fac [q 32, q 30, q 36] := hq 39 _ rfl
 have E40 : q 40 = q 29 * q 0 := hq 40 _ rfl
 have E41 : q 41 = q 27 * q 1 := hq 41 _ rfl
 have E42 : q 42 = q 40 + q 41 := hq 42 _ rfl
 have E43 : q 43 = -q 42 := hq 43 _ rfl
 have E44 : q 44 = q 29 * fac [q 29, q 27, q 43] := hq 44 _ rfl
 have E45 : q 45 = q 27 * fac [q 29, q 27, q 43] := hq 45 _ rfl
 have E46 : q 46 = q 43 * fac [q 29, q 27, q 43] := hq 46 _ rfl
 have E47 : q 47 = q 44 * q 38 := hq 47 _ rfl
 have E48 : q 48 = q 45 * q 37 := hq 48 _ rfl
 have E49 : q 49 = q 47 - q 48 := hq 49 _ rfl
 have E50 : q 50 = q 37 * q 46 := hq 50 _ rfl
 have E51 : q 51 = q 38 * q 46 := hq 51 _ rfl
 have E52 : q 52 = q 44 * q 39 := hq 52 _ rfl
 have E53 : q 53 = q 45 * q 39 := hq 53 _ rfl
 have E54 : q 54 = q 50 - q 52 := hq 54 _ rfl
 have E55 : q 55 = q 51 - q 53 := hq 55 _ rfl
 have E56 : q 56 = -q 55 := hq 56 _ rfl
 have E57 : q 57 = q 56 / q 49 := hq 57 _ rfl
 have E58 : q 58 = q 54 / q 49 := hq 58 _ rfl
 have E59 : q 59 = q 25 - q 2 := hq 59 _ rfl
 have E60 : q 60 = q 26 - q 3 := hq 60 _ rfl
 have E61 : q 61 = -q 60 := hq 61 _ rfl
 have E62 : q 62 = q 16 - q 12 := hq 62 _ rfl
 have E63 : q 63 = q 17 - q 13 := hq 63 _ rfl
 have E64 : q 64 = -q 63 := hq 64 _ rfl
 have E65 : q 65 = q 64 * q 12 := hq 65 _ rfl
 have E66 : q 66 = q 62 * q 13 := hq 66 _ rfl
 have E67 : q 67 = q 65 + q 66 := hq 67 _ rfl
 have E68 : q 68 = -q 67 := hq 68 _ rfl
 have E69 : q 69 = q 64 * fac [q 64, q 62, q 68] := hq 69 _ rfl
 have E70 : q 70 = q 62 * fac [q 64, q 62, q 68] := hq 70 _ rfl
 have E71 : q 71 = q 68 * fac [q 64, q 62, q 68] := hq 71 _ rfl
 have E72 : q 72 = q 61 * q 2 := hq 72 _ rfl
 have E73 : q 73 = q 59 * q 3 := hq 73 _ rfl
 have E74 : q 74 = q 72 + q 73 := hq 74 _ rfl
 have E75 : q 75 = -q 74 := hq 75 _ rfl
 have E76 : q 76 = q 61 * fac [q 61, q 59, q 75] := hq 76 _ rfl
 have E77 : q 77 = q 59 * fac [q 61, q 59, q 75] := hq 77 _ rfl
 have E78 : q 78 = q 75 * fac [q 61, q 59, q 75] := hq 78 _ rfl
 have E79 : q 79 = q 76 * q 70 := hq 79 _ rfl
 have E80 : q 80 = q 77 * q 69 := hq 80 _ rfl
 have E81 : q 81 = q 79 - q 80 := hq 81 _ rfl
 have E82 : q 82 = q 69 * q 78 := hq 82 _ rfl
 have E83 : q 83 = q 70 * q 78 := hq 83 _ rfl
 have E84 : q 84 = q 76 * q 71 := hq 84 _ rfl
 have E85 : q 85 = q 77 * q 71 := hq 85 _ rfl
 have E86 : q 86 = q 82 - q 84 := hq 86 _ rfl
 have E87 : q 87 = q 83 - q 85 := hq 87 _ rfl
 have E88 : q 88 = -q 87 := hq 88 _ rfl
 have E89 : q 89 = q 88 / q 81 := hq 89 _ rfl
 have E90 : q 90 = q 86 / q 81 := hq 90 _ rfl
 have E91 : q 91 = q 14 - q 12 := hq 91 _ rfl
 have E92 : q 92 = q 15 - q 13 := hq 92 _ rfl
 have E93 : q 93 = -q 92 := hq 93 _ rfl
 have E94 : q 94 = q 25 - q 0 := hq 94 _ rfl
 have E95 : q 95 = q 26 - q 1 := hq 95 _ rfl
 have E96 : q 96 = -q 95 := hq 96 _ rfl
 have E97 : q 97 = q 96 * q 0 := hq 97 _ rfl
 have E98 : q 98 = q 94 * q 1 := hq 98 _ rfl
 have E99 : q 99 = q 97 + q 98 := hq 99 _ rfl
 have E100 : q 100 = -q 99 := hq 100 _ rfl
 have E101 : q 101 = q 96 * fac [q 96, q 94, q 100] := hq 101 _ rfl
 have E102 : q 102 = q 94 * fac [q 96, q 94, q 100] := hq 102 _ rfl
 have E103 : q 103 = q 100 * fac [q 96, q 94, q 100] := hq 103 _ rfl
 have E104 : q 104 = q 93 * q 12 := hq 104 _ rfl
 have E105 : q 105 = q 91 * q 13 := hq 105 _ rfl
 have E106 : q 106 = q 104 + q 105 := hq 106 _ rfl
 have E107 : q 107 = -q 106 := hq 107 _ rfl
 have E108 : q 108 = q 93 * fac [q 93, q 91, q 107] := hq 108 _ rfl
 have E109 : q 109 = q 91 * fac [q 93, q 91, q 107] := hq 109 _ rfl
 have E110 : q 110 = q 107 * fac [q 93, q 91, q 107] := hq 110 _ rfl
 have E111 : q 111 = q 108 * q 102 := hq 111 _ rfl
 have E112 : q 112 = q 109 * q 101 := hq 112 _ rfl
 have E113 : q 113 = q 111 - q 112 := hq 113 _ rfl
 have E114 : q 114 = q 101 * q 110 := hq 114 _ rfl
 have E115 : q 115 = q 102 * q 110 := hq 115 _ rfl
 have E116 : q 116 = q 108 * q 103 := hq 116 _ rfl
 have E117 : q 117 = q 109 * q 103 := hq 117 _ rfl
 have E118 : q 118 = q 114 - q 116 := hq 118 _ rfl
 have E119 : q 119 = q 115 - q 117 := hq 119 _ rfl
 have E120 : q 120 = -q 119 := hq 120 _ rfl
 have E121 : q 121 = q 120 / q 113 := hq 121 _ rfl
 have E122 : q 122 = q 118 / q 113 := hq 122 _ rfl
 have E123 : q 123 = q 89 - q 57 := hq 123 _ rfl
 have E124 : q 124 = q 90 - q 58 := hq 124 _ rfl
 have E125 : q 125 = q 121 - q 57 := hq 125 _ rfl
 have E126 : q 126 = q 122 - q 58 := hq 126 _ rfl
 have E127 : q 127 = q 123 * q 126 := hq 127 _ rfl
 have E128 : q 128 = q 124 * q 125 := hq 128 _ rfl
 have E129 : q 129 = q 127 - q 128 := hq 129 _ rfl
 by_cases a_6_29_27 : q 29 = 0 ∧ q 27 = 0
 ·
  by_cases a_6_32_30 : q 32 = 0 ∧ q 30 = 0
  ·
   exact linePappus_leaf linePappus_r0 hσ hq h0 (linePappus_An (hT a_6_29_27) (linePappus_An (hT a_6_32_30) trivial)) ⟨tab, mx⟩ hA
  ·
   exact linePappus_leaf linePappus_r1 hσ hq h0 (linePappus_An (hT a_6_29_27) (linePappus_An (hF a_6_32_30) trivial)) ⟨tab, mx⟩ hA
 ·
  by_cases a_6_32_30 : q 32 = 0 ∧ q 30 = 0
  ·
   exact linePappus_leaf linePappus_r2 hσ hq h0 (linePappus_An (hF a_6_29_27) (linePappus_An (hT a_6_32_30) trivial)) ⟨tab, mx⟩ hA
  ·
   have a_6_44_45 : ¬ (q 44 = 0 ∧ q 45 = 0) := linePappus_f1 E27 E28 E29 E40 E41 E42 E43 E44 E45 a_6_29_27
   have a_6_37_38 : ¬ (q 37 = 0 ∧ q 38 = 0) := linePappus_f2 E30 E31 E32 E33 E34 E35 E36 E37 E38 a_6_32_30
   by_cases b49 : q 49 = 0
   ·
    by_cases a_6_54_55 : q 54 = 0 ∧ q 55 = 0
    ·
     exact linePappus_leaf linePappus_r3 hσ hq h0 (linePappus_An (hF a_6_29_27) (linePappus_An (hF a_6_32_30) (linePappus_An (hF a_6_44_45) (linePappus_An (hF a_6_37_38) (linePappus_An (hT b49) (linePappus_An (hT a_6_54_55) trivial)))))) ⟨tab, mx⟩ hA
    ·
     exact linePappus_leaf linePappus_r4 hσ hq h0 (linePappus_An (hF a_6_29_27) (linePappus_An (hF a_6_32_30) (linePappus_An (hF a_6_44_45) (linePappus_An (hF a_6_37_38) (linePappus_An (hT b49) (linePappus_An (hF a_6_54_55) trivial)))))) ⟨tab, mx⟩ hA
   ·
    by_cases a_6_61_59 : q 61 = 0 ∧ q 59 = 0
    ·
     by_cases a_6_64_62 : q 64 = 0 ∧ q 62 = 0
     ·
      exact linePappus_leaf linePappus_r5 hσ hq h0 (linePappus_An (hF a_6_29_27) (linePappus_An (hF a_6_32_30) (linePappus_An (hF a_6_44_45) (linePappus_An (hF a_6_37_38) (linePappus_An (hF b49) (linePappus_An (hT a_6_61_59) (linePappus_An (hT a_6_64_62) trivial))))))) ⟨tab, mx⟩ hA
     ·
      exact linePappus_leaf linePappus_r6 hσ hq h0 (linePappus_An (hF a_6_29_27) (linePappus_An (hF a_6_32_30) (linePappus_An (hF a_6_44_45) (linePappus_An (hF a_6_37_38) (linePappus_An (hF b49) (linePappus_An (hT a_6_61_59) (linePappus_An (hF a_6_64_62) trivial))))))) ⟨tab, mx⟩ hA
    ·
     by_cases a_6_64_62 : q 64 = 0 ∧ q 62 = 0
     ·
      exact linePappus_leaf linePappus_r7 hσ hq h0 (linePappus_An (hF a_6_29_27) (linePappus_An (hF a_6_32_30) (linePappus_An (hF a_6_44_45) (linePappus_An (hF a_6_37_38) (linePappus_An (hF b49) (linePappus_An (hF a_6_61_59) (linePappus_An (hT a_6_64_62) trivial))))))) ⟨tab, mx⟩ hA
     ·
      have a_6_76_77 : ¬ (q 76 = 0 ∧ q 77 = 0) := linePappus_f3 E9 E18 E19 E21 E22 E23 E24 E25 E26 E59 E60 E61 E72 E73 E74 E75 E76 E77 a_6_61_59
      have a_6_69_70 : ¬ (q 69 = 0 ∧ q 70 = 0) := linePappus_f4 E4 E5 E7 E8 E9 E10 E11 E12 E13 E62 E63 E64 E65 E66 E67 E68 E69 E70 a_6_64_62
      by_cases b81 : q 81 = 0
      ·
       by_cases a_6_86_87 : q 86 = 0 ∧ q 87 = 0
       ·
        exact linePappus_leaf linePappus_r8 hσ hq h0 (linePappus_An (hF a_6_29_27) (linePappus_An (hF a_6_32_30) (linePappus_An (hF a_6_44_45) (linePappus_An (hF a_6_37_38) (linePappus_An (hF b49) (linePappus_An (hF a_6_61_59) (linePappus_An (hF a_6_64_62) (linePappus_An (hF a_6_76_77) (linePappus_An (hF a_6_69_70) (linePappus_An (hT b81) (linePappus_An (hT a_6_86_87) trivial))))))))))) ⟨tab, mx⟩ hA
       ·
        exact linePappus_leaf linePappus_r9 hσ hq h0 (linePappus_An (hF a_6_29_27) (linePappus_An (hF a_6_32_30) (linePappus_An (hF a_6_44_45) (linePappus_An (hF a_6_37_38) (linePappus_An (hF b49) (linePappus_An (hF a_6_61_59) (linePappus_An (hF a_6_64_62) (linePappus_An (hF a_6_76_77) (linePappus_An (hF a_6_69_70) (linePappus_An (hT b81) (linePappus_An (hF a_6_86_87) trivial))))))))))) ⟨tab, mx⟩ hA
      ·
       by_cases a_6_93_91 : q 93 = 0 ∧ q 91 = 0
       ·
        by_cases a_6_96_94 : q 96 = 0 ∧ q 94 = 0
        ·
         exact linePappus_leaf linePappus_r10 hσ hq h0 (linePappus_An (hF a_6_29_27) (linePappus_An (hF a_6_32_30) (linePappus_An (hF a_6_44_45) (linePappus_An (hF a_6_37_38) (linePappus_An (hF b49) (linePappus_An (hF a_6_61_59) (linePappus_An (hF a_6_64_62) (linePappus_An (hF a_6_76_77) (linePappus_An (hF a_6_69_70) (linePappus_An (hF b81) (linePappus_An (hT a_6_93_91) (linePappus_An (hT a_6_96_94) trivial)))))))))))) ⟨tab, mx⟩ hA
        ·
         exact linePappus_leaf linePappus_r11 hσ hq h0 (linePappus_An (hF a_6_29_27) (linePappus_An (hF a_6_32_30) (linePappus_An (hF a_6_44_45) (linePappus_An (hF a_6_37_38) (linePappus_An (hF b49) (linePappus_An (hF a_6_61_59) (linePappus_An (hF a_6_64_62) (linePappus_An (hF a_6_76_77) (linePappus_An (hF a_6_69_70) (linePappus_An (hF b81) (linePappus_An (hT a_6_93_91) (linePappus_An (hF a_6_96_94) trivial)))))))))))) ⟨tab, mx⟩ hA
       ·
        by_cases a_6_96_94 : q 96 = 0 ∧ q 94 = 0
        ·
         exact linePappus_leaf linePappus_r12 hσ hq h0 (linePappus_An (hF a_6_29_27) (linePappus_An (hF a_6_32_30) (linePappus_An (hF a_6_44_45) (linePappus_An (hF a_6_37_38) (linePappus_An (hF b49) (linePappus_An (hF a_6_61_59) (linePappus_An (hF a_6_64_62) (linePappus_An (hF a_6_76_77) (linePappus_An (hF a_6_69_70) (linePappus_An (hF b81) (linePappus_An (hF a_6_93_91) (linePappus_An (hT a_6_96_94) trivial)))))))))))) ⟨tab, mx⟩ hA
        ·
         have a_6_108_109 : ¬ (q 108 = 0 ∧ q 109 = 0) := linePappus_f5 E4 E5 E7 E8 E9 E10 E11 E12 E13 E91 E92 E93 E104 E105 E106 E107 E108 E109 a_6_93_91
         have a_6_101_102 : ¬ (q 101 = 0 ∧ q 102 = 0) := linePappus_f6 E9 E18 E19 E21 E22 E23 E24 E25 E26 E94 E95 E96 E97 E98 E99 E100 E101 E102 a_6_96_94
         by_cases b113 : q 113 = 0
         ·
          by_cases a_6_118_119 : q 118 = 0 ∧ q 119 = 0
          ·
           exact linePappus_leaf linePappus_r13 hσ hq h0 (linePappus_An (hF a_6_29_27) (linePappus_An (hF a_6_32_30) (linePappus_An (hF a_6_44_45) (linePappus_An (hF a_6_37_38) (linePappus_An (hF b49) (linePappus_An (hF a_6_61_59) (linePappus_An (hF a_6_64_62) (linePappus_An (hF a_6_76_77) (linePappus_An (hF a_6_69_70) (linePappus_An (hF b81) (linePappus_An (hF a_6_93_91) (linePappus_An (hF a_6_96_94) (linePappus_An (hF a_6_108_109) (linePappus_An (hF a_6_101_102) (linePappus_An (hT b113) (linePappus_An (hT a_6_118_119) trivial)))))))))))))))) ⟨tab, mx⟩ hA
          ·
           exact linePappus_leaf linePappus_r14 hσ hq h0 (linePappus_An (hF a_6_29_27) (linePappus_An (hF a_6_32_30) (linePappus_An (hF a_6_44_45) (linePappus_An (hF a_6_37_38) (linePappus_An (hF b49) (linePappus_An (hF a_6_61_59) (linePappus_An (hF a_6_64_62) (linePappus_An (hF a_6_76_77) (linePappus_An (hF a_6_69_70) (linePappus_An (hF b81) (linePappus_An (hF a_6_93_91) (linePappus_An (hF a_6_96_94) (linePappus_An (hF a_6_108_109) (linePappus_An (hF a_6_101_102) (linePappus_An (hT b113) (linePappus_An (hF a_6_118_119) trivial)))))))))))))))) ⟨tab, mx⟩ hA
         ·
          have b129 : q 129 = 0 := linePappus_f7 E4 E5 E7 E8 E9 E10 E11 E12 E13 E18 E19 E21 E22 E23 E24 E25 E26 E27 E28 E29 E30 E31 E32 E33 E34 E35 E36 E37 E38 E39 E40 E41 E42 E43 E44 E45 E46 E47 E48 E49 E50 E51 E52 E53 E54 E55 E56 E57 E58 E59 E60 E61 E62 E63 E64 E65 E66 E67 E68 E69 E70 E71 E72 E73 E74 E75 E76 E77 E78 E79 E80 E81 E82 E83 E84 E85 E86 E87 E88 E89 E90 E91 E92 E93 E94 E95 E96 E97 E98 E99 E100 E101 E102 E103 E104 E105 E106 E107 E108 E109 E110 E111 E112 E113 E114 E115 E116 E117 E118 E119 E120 E121 E122 E123 E124 E125 E126 E127 E128 E129 a_6_29_27 a_6_32_30 b49 a_6_61_59 a_6_64_62 b81 a_6_93_91 a_6_96_94 b113
          exact linePappus_leaf linePappus_r15 hσ hq h0 (linePappus_An (hF a_6_29_27) (linePappus_An (hF a_6_32_30) (linePappus_An (hF a_6_44_45) (linePappus_An (hF a_6_37_38) (linePappus_An (hF b49) (linePappus_An (hF a_6_61_59) (linePappus_An (hF a_6_64_62) (linePappus_An (hF a_6_76_77) (linePappus_An (hF a_6_69_70) (linePappus_An (hF b81) (linePappus_An (hF a_6_93_91) (linePappus_An (hF a_6_96_94) (linePappus_An (hF a_6_108_109) (linePappus_An (hF a_6_101_102) (linePappus_An (hF b113) (linePappus_An (hT b129) trivial)))))))))))))))) ⟨tab, mx⟩ hA
end Go.Proofs.YtkcikcnimkofkaaGreatDoor
