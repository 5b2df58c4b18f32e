/- Part 13 of the walks and of the mathematics under them: VY VSZ CFlined MLD. -/
import Derived.Test.YtkcikcnimkofkaaGreatDoorA12
set_option maxHeartbeats 16000000
set_option maxRecDepth 100000
/- VY -/
namespace Go.Proofs.YtkcikcnimkofkaaGreatDoor
open Go.RowKit Cx
theorem den_num (t : Rat) : t * (t.den : Rat) = ((t.num : Int) : Rat) := by
 conv => lhs; lhs; rw [← Rat.mkRat_self t]
 have h0 : (t.den : Rat) ≠ 0 := fun h => t.den_nz (by exact_mod_cast h)
 rw [Rat.mkRat_eq_div, Rat.div_mul_cancel h0]
theorem whole {q : Rat} (h : q.den = 1) : q = ((q.num : Int) : Rat) := by
 have := den_num q
 rw [h] at this
 rw [← this]
 show q = q * ((1 : Nat) : Rat)
 exact (Rat.mul_one q).symm
end Go.Proofs.YtkcikcnimkofkaaGreatDoor
/- VSZ -/
namespace Go.Proofs.YtkcikcnimkofkaaGreatDoor
open Go.RowKit Cx
def szW (Z : List Nat) (I : List Bool) (z : Nat) (b : Bool) (nd : Nd) : Bool := match nd.1, nd.2 with
 | 0, [_, n, d] => (Nat.blt n (2 ^ z) && (Nat.blt 0 d && Nat.blt d (2 ^ z))) && (!b || Nat.beq d 1)
 | 1, [_] => Nat.ble 3495259 z && !b
 | 2, [a, c] => (match Z[a]?, Z[c]?, I[a]?, I[c]? with
  | some x, some y, some true, some true => Nat.ble (Nat.max x y + 1) z
  | some x, some y, _, _ => Nat.ble (x + y + 1) z && !b
  | _, _, _, _ => false)
 | 3, [a, c] => (match Z[a]?, Z[c]?, I[a]?, I[c]? with
  | some x, some y, some true, some true => Nat.ble (Nat.max x y + 1) z
  | some x, some y, _, _ => Nat.ble (x + y + 1) z && !b
  | _, _, _, _ => false)
 | 4, [a, c] => (match Z[a]?, Z[c]?, I[a]?, I[c]? with
  | some x, some y, some true, some true => Nat.ble (x + y) z
  | some x, some y, _, _ => Nat.ble (x + y) z && !b
  | _, _, _, _ => false)
 | 5, [a] => (match Z[a]?, I[a]? with
  | some x, some true => Nat.ble x z
  | some x, _ => Nat.ble x z && !b
  | _, _ => false)
 | 6, [a, c] => (match Z[a]?, Z[c]? with
  | some x, some y => Nat.ble (x + y) z && !b
  | _, _ => false)
 | 8, i :: xs => (match getsO Z xs with
  | some zs => Nat.blt i xs.length && (Nat.ble ((xs.length + 1) * maxL zs + 1) z || (xs.all (fun a => match I[a]? with
   | some true => true
   | _ => false) && (match xs[i]? with
   | some a => (match Z[a]? with
    | some x => Nat.ble (x + 1) z
    | none => false)
   | none => false)))
  | none => false)
 | _, _ => false
def szC (Z : List Nat) (I : List Bool) : List Nd → List Nat → List Bool → Bool
 | [], [], [] => true
 | nd :: ns, z :: zs, b :: bs => (szW Z I z b nd && Nat.ble z 1000000000000) && szC Z I ns zs bs
 | _, _, _ => false
theorem szC_get {Z : List Nat} {I : List Bool} : ∀ {ns : List Nd} {zs : List Nat} {bs : List Bool} {i z : Nat}, szC Z I ns zs bs = true → zs[i]? = some z → ∃ nd b, ns[i]? = some nd ∧ bs[i]? = some b ∧ szW Z I z b nd = true ∧ z ≤ 1000000000000
 | [], [], [], _, _, _, h => by simp at h
 | [], [], _ :: _, _, _, h, _ => by cases h
 | [], _ :: _, _, _, _, h, _ => by cases h
 | _ :: _, [], _, _, _, h, _ => by cases h
 | _ :: _, _ :: _, [], _, _, h, _ => by cases h
 | nd :: ns, z' :: zs, b :: bs, 0, z, h, e => by
  have : z' = z := by simpa using e
  subst this
  unfold szC at h
  simp only [Bool.and_eq_true, Nat.ble_eq] at h
  exact ⟨nd, b, rfl, rfl, h.1.1, h.1.2⟩
 | nd :: ns, z' :: zs, b :: bs, i + 1, z, h, e => by
  unfold szC at h
  rw [Bool.and_eq_true] at h
  obtain ⟨nd2, b2, g1, g2, g3⟩ := szC_get (ns := ns) (zs := zs) (bs := bs) h.2 (show zs[i]? = some z by simpa using e)
  exact ⟨nd2, b2, by simpa using g1, by simpa using g2, g3⟩
theorem szC_len {Z : List Nat} {I : List Bool} : ∀ {ns : List Nd} {zs : List Nat} {bs : List Bool}, szC Z I ns zs bs = true → ns.length = zs.length
 | [], [], [], _ => rfl
 | [], [], _ :: _, h => by cases h
 | [], _ :: _, _, h => by cases h
 | _ :: _, [], _, h => by cases h
 | _ :: _, _ :: _, [], h => by cases h
 | _ :: _, _ :: _, _ :: _, h => by
  unfold szC at h
  rw [Bool.and_eq_true] at h
  exact congrArg (· + 1) (szC_len h.2)
structure QW (z : Nat) (x : Rat) : Prop where
 qs : QS z x
 wh : x.den = 1
theorem QW.of {z : Nat} {n : Int} (h : n.natAbs < 2 ^ z) (hz : 0 < z) : QW z ((n : Int) : Rat) :=
 ⟨⟨by simpa using h, by
  show ((n : Int) : Rat).den < 2 ^ z
  rw [Rat.den_intCast]
  exact Nat.one_lt_two_pow (by omega)⟩, Rat.den_intCast n⟩
theorem QW.mono {k l : Nat} {x : Rat} (h : QW k x) (hk : k ≤ l) : QW l x := ⟨h.qs.mono hk, h.wh⟩
theorem two_max {a b x y : Nat} (h1 : a < 2 ^ x) (h2 : b < 2 ^ y) : a + b < 2 ^ (Nat.max x y + 1) := by
 have e1 : 2 ^ x ≤ 2 ^ Nat.max x y := Nat.pow_le_pow_right (by decide) (Nat.le_max_left x y)
 have e2 : 2 ^ y ≤ 2 ^ Nat.max x y := Nat.pow_le_pow_right (by decide) (Nat.le_max_right x y)
 rw [Nat.pow_succ]
 omega
theorem QW.add {x y : Nat} {a b : Rat} (h1 : QW x a) (h2 : QW y b) : QW (Nat.max x y + 1) (a + b) := by
 rw [whole h1.wh, whole h2.wh, ← Rat.intCast_add]
 refine QW.of ?_ (by omega)
 have := two_max h1.qs.num h2.qs.num
 omega
theorem QW.sub {x y : Nat} {a b : Rat} (h1 : QW x a) (h2 : QW y b) : QW (Nat.max x y + 1) (a - b) := by
 rw [whole h1.wh, whole h2.wh, ← Rat.intCast_sub]
 refine QW.of ?_ (by omega)
 have := two_max h1.qs.num h2.qs.num
 omega
theorem QW.mul {x y : Nat} {a b : Rat} (h1 : QW x a) (h2 : QW y b) : QW (x + y) (a * b) := by
 refine ⟨h1.qs.mul h2.qs, ?_⟩
 rw [whole h1.wh, whole h2.wh, ← Rat.intCast_mul]
 exact Rat.den_intCast _
theorem QW.neg {x : Nat} {a : Rat} (h1 : QW x a) : QW x (-a) := ⟨h1.qs.neg, h1.wh⟩
theorem lD_one : ∀ {qs : List Rat} {m : Nat}, (∀ q ∈ qs, q.den = 1) → qs.foldl (fun m q => m * (q.den / Nat.gcd m q.den)) m = m
 | [], _, _ => rfl
 | q :: qs, m, h => by
  rw [List.foldl_cons, h q List.mem_cons_self, Nat.gcd_one_right, Nat.div_self (by decide), Nat.mul_one]
  exact lD_one fun p hp => h p (List.mem_cons_of_mem _ hp)
theorem QW.fac {z : Nat} {qs : List Rat} {x : Rat} (hx : QS z x) (h : x ∈ qs) (hw : ∀ y ∈ qs, y.den = 1) : QS (z + 1) (x * fac qs) := by
 have hl : lD qs = 1 := lD_one hw
 refine ⟨?_, ?_⟩
 ·rw [fac_abs h, hl, hw x h, Nat.div_self (by decide), Nat.mul_one]
  exact Nat.lt_of_le_of_lt (Nat.div_le_self _ _) (Nat.lt_of_lt_of_le hx.num (Nat.pow_le_pow_right (by decide) (by omega)))
 ·rw [fac_den h]
  exact Nat.one_lt_two_pow (by omega)
theorem ten_three : ∀ n : Nat, 10 ^ n ≤ 2 ^ ((10 * n + 2) / 3)
 | 0 => by decide
 | 1 => by decide
 | 2 => by decide
 | n + 3 => by
  have h := ten_three n
  have e : (10 * (n + 3) + 2) / 3 = (10 * n + 2) / 3 + 10 := by omega
  rw [e, Nat.pow_add, Nat.pow_add]
  exact Nat.mul_le_mul h (by decide)
theorem QS.rd3 (l : List UInt8) : QS ((10 * l.length + 2) / 3 + 5) (Cx.rd l) := by
 have key : ∀ {m : List UInt8}, digs m = true → dv m < 2 ^ ((10 * m.length + 2) / 3) := fun {m} h => Nat.lt_of_lt_of_le (dv_lt (digs_all h)) (ten_three _)
 unfold Cx.rd
 split
 ·rename_i h
  rw [Bool.and_eq_true] at h
  have h1 := key h.1
  have h2 := key h.2
  have h3 := up_len (tailOf l)
  have h4 := low_len (tailOf l)
  have h5 := tail_len l
  apply QS.mkr
  ·rw [sg_abs]; exact Nat.lt_of_lt_of_le h1 (Nat.pow_le_pow_right (by decide) (by omega))
  ·exact Nat.lt_of_lt_of_le h2 (Nat.pow_le_pow_right (by decide) (by omega))
 ·exact QS.zero.mono (by omega)
section
variable {N : List Nd} {Z : List Nat} {I : List Bool} {q : Nat → Rat}
theorem sizes_okW {σ : Nat → ByteArray} (hσ : ∀ j, (σ j).size ≤ 1048576) (hw : wfB 0 N = true) (hz : szC Z I N Z I = true) (hq : ∀ (a : Nat) nd, N[a]? = some nd → q a = valN σ q nd) (h0 : ∀ a, N.length ≤ a → q a = 0) : (∀ (a : Nat) z, Z[a]? = some z → QS z (q a)) ∧ ∀ a, QS 1000000000000 (q a) := by
 have h2 : ∀ (a : Nat) z, Z[a]? = some z → QS z (q a) ∧ (I[a]? = some true → (q a).den = 1) := by
  intro a
  induction a using Nat.strongRecOn with
  | ind a ih =>
   intro z hz'
   obtain ⟨nd, b, hn, hb, hs, _⟩ := szC_get hz hz'
   have hwf := wfB_get hw hn
   rw [Nat.zero_add] at hwf
   rw [hq a nd hn, hb]
   obtain ⟨op, xs⟩ := nd
   unfold szW at hs
   unfold valN
   unfold wfN at hwf
   dsimp only at hs hwf ⊢
   have W : ∀ {c x}, c < a → Z[c]? = some x → I[c]? = some true → QW x (q c) := fun hc hx hi => ⟨(ih _ hc _ hx).1, (ih _ hc _ hx).2 hi⟩
   have no : ∀ {v : Rat}, b = false → (some b = some true → v.den = 1) := fun e h => by rw [e] at h; cases h
   split at hs
   ·rename_i s n d
    simp only [Bool.and_eq_true] at hs
    obtain ⟨⟨h1, h2, h3⟩, h4⟩ := hs
    refine ⟨QS.const (by simpa [Nat.blt_eq] using h1) (by simpa [Nat.blt_eq] using h2) (by simpa [Nat.blt_eq] using h3), fun e => ?_⟩
    rw [show b = true from Option.some.inj e] at h4
    have hd : d = 1 := by simpa using h4
    subst hd
    show (if s = 0 then mkRat (n : Int) 1 else mkRat (-(n : Int)) 1).den = 1
    split
    ·rw [Rat.mkRat_one]
     exact Rat.den_intCast _
    ·rw [Rat.mkRat_one]
     exact Rat.den_intCast _
   ·rename_i j
    simp only [Bool.and_eq_true, Nat.ble_eq, Bool.not_eq_true'] at hs
    exact ⟨QS.mono (QS.rd3 _) (by have := hσ j; rw [str_len]; omega), no hs.2⟩
   ·simp only [List.all_cons, List.all_nil, Bool.and_true, Bool.and_eq_true] at hwf
    have l1 := (by simpa [Nat.blt_eq] using hwf.1 : _ < a)
    have l2 := (by simpa [Nat.blt_eq] using hwf.2 : _ < a)
    split at hs
    ·rename_i x y hx hy i1 i2
     rw [Nat.ble_eq] at hs
     have := ((W l1 hx i1).add (W l2 hy i2)).mono hs
     exact ⟨this.qs, fun _ => this.wh⟩
    ·rename_i x y hx hy _
     simp only [Bool.and_eq_true, Nat.ble_eq, Bool.not_eq_true'] at hs
     exact ⟨((ih _ l1 x hx).1.add (ih _ l2 y hy).1).mono hs.1, no hs.2⟩
    ·cases hs
   ·simp only [List.all_cons, List.all_nil, Bool.and_true, Bool.and_eq_true] at hwf
    have l1 := (by simpa [Nat.blt_eq] using hwf.1 : _ < a)
    have l2 := (by simpa [Nat.blt_eq] using hwf.2 : _ < a)
    split at hs
    ·rename_i x y hx hy i1 i2
     rw [Nat.ble_eq] at hs
     have := ((W l1 hx i1).sub (W l2 hy i2)).mono hs
     exact ⟨this.qs, fun _ => this.wh⟩
    ·rename_i x y hx hy _
     simp only [Bool.and_eq_true, Nat.ble_eq, Bool.not_eq_true'] at hs
     exact ⟨((ih _ l1 x hx).1.sub (ih _ l2 y hy).1).mono hs.1, no hs.2⟩
    ·cases hs
   ·simp only [List.all_cons, List.all_nil, Bool.and_true, Bool.and_eq_true] at hwf
    have l1 := (by simpa [Nat.blt_eq] using hwf.1 : _ < a)
    have l2 := (by simpa [Nat.blt_eq] using hwf.2 : _ < a)
    split at hs
    ·rename_i x y hx hy i1 i2
     rw [Nat.ble_eq] at hs
     have := ((W l1 hx i1).mul (W l2 hy i2)).mono hs
     exact ⟨this.qs, fun _ => this.wh⟩
    ·rename_i x y hx hy _
     simp only [Bool.and_eq_true, Nat.ble_eq, Bool.not_eq_true'] at hs
     exact ⟨((ih _ l1 x hx).1.mul (ih _ l2 y hy).1).mono hs.1, no hs.2⟩
    ·cases hs
   ·simp only [List.all_cons, List.all_nil, Bool.and_true] at hwf
    have l1 := (by simpa [Nat.blt_eq] using hwf : _ < a)
    split at hs
    ·rename_i x hx i1
     rw [Nat.ble_eq] at hs
     have := (W l1 hx i1).neg.mono hs
     exact ⟨this.qs, fun _ => this.wh⟩
    ·rename_i x hx _
     simp only [Bool.and_eq_true, Nat.ble_eq, Bool.not_eq_true'] at hs
     exact ⟨((ih _ l1 x hx).1.neg).mono hs.1, no hs.2⟩
    ·cases hs
   ·simp only [List.all_cons, List.all_nil, Bool.and_true, Bool.and_eq_true] at hwf
    split at hs
    ·rename_i x y hx hy
     simp only [Bool.and_eq_true, Nat.ble_eq, Bool.not_eq_true'] at hs
     exact ⟨((ih _ (by simpa [Nat.blt_eq] using hwf.1) x hx).1.div (ih _ (by simpa [Nat.blt_eq] using hwf.2) y hy).1).mono hs.1, no hs.2⟩
    ·cases hs
   ·rename_i i ys
    split at hs
    ·rename_i zs hzs
     rw [Bool.and_eq_true] at hs
     have hi : i < ys.length := by simpa [Nat.blt_eq] using hs.1
     have hwf' : ys.all (Nat.blt · a) = true := hwf
     rw [List.all_eq_true] at hwf'
     have hlt : ∀ c ∈ ys, c < a := fun c hc => by simpa [Nat.blt_eq] using hwf' c hc
     have hm : q ys[i] ∈ ys.map q := List.mem_map_of_mem (List.getElem_mem hi)
     have hg : (ys.map q).getD i 0 = q ys[i] := by
      rw [List.getD_eq_getElem?_getD, List.getElem?_map, List.getElem?_eq_getElem hi]
      rfl
     show QS z ((ys.map q).getD i 0 * fac (ys.map q)) ∧ (some b = some true → ((ys.map q).getD i 0 * fac (ys.map q)).den = 1)
     rw [hg]
     refine ⟨?_, fun _ => fac_den hm⟩
     rcases Bool.or_eq_true _ _ ▸ hs.2 with h3 | h3
     ·rw [Nat.ble_eq] at h3
      have hall : ∀ y ∈ ys.map q, QS (maxL zs) y := fun y hy => by
       obtain ⟨c, hc, rfl⟩ := List.mem_map.1 hy
       obtain ⟨z', hm', hz2⟩ := getsO_get hzs c hc
       exact (ih c (hlt c hc) z' hz2).1.mono (le_maxL z' hm')
      have := QS.facN hall (x := q ys[i]) hm
      rw [List.length_map] at this
      exact this.mono h3
     ·rw [Bool.and_eq_true, List.all_eq_true] at h3
      obtain ⟨h4, h5⟩ := h3
      have hwh : ∀ y ∈ ys.map q, y.den = 1 := fun y hy => by
       obtain ⟨c, hc, rfl⟩ := List.mem_map.1 hy
       obtain ⟨z', _, hz2⟩ := getsO_get hzs c hc
       refine (ih c (hlt c hc) z' hz2).2 ?_
       have := h4 c hc
       split at this
       ·assumption
       ·cases this
      rw [List.getElem?_eq_getElem hi] at h5
      dsimp only at h5
      split at h5
      ·rename_i x hx
       rw [Nat.ble_eq] at h5
       exact (QW.fac (ih _ (hlt _ (List.getElem_mem hi)) x hx).1 hm hwh).mono h5
      ·cases h5
    ·cases hs
   ·cases hs
 refine ⟨fun a z h => (h2 a z h).1, fun a => ?_⟩
 have hl := szC_len hz
 by_cases ha : a < Z.length
 ·obtain ⟨nd, b, _, _, _, hle⟩ := szC_get hz (List.getElem?_eq_getElem ha)
  exact (h2 a _ (List.getElem?_eq_getElem ha)).1.mono hle
 ·rw [h0 a (by omega)]
  exact QS.zero.mono (by decide)
theorem hy_ofW {L C : List (List Nat × Nat)} {σ : Nat → ByteArray} {H : List (Nat × Nat × Nat × Nat)} (hσ : ∀ j, (σ j).size ≤ 1048576) (hw : wfB 0 N = true) (hz : szC Z I N Z I = true) (hl : litB N L = true) (hcn : canB N C = true) (hq : ∀ (a : Nat) nd, N[a]? = some nd → q a = valN σ q nd) (h0 : ∀ a, N.length ≤ a → q a = 0) (hH : hAll q H) : Hy N H L C Z q σ where
 nat := hq
 qs := (sizes_okW hσ hw hz hq h0).2
 zs := (sizes_okW hσ hw hz hq h0).1
 par := hσ
 lit := fun s b h => lit_rd hl hq h
 k0 := fun a r h => kn_at hH h
 k1 := fun a r h => kn_at hH h
 k2 := fun a r h => kn_at hH h
 k3 := fun a b r h => kn_at hH h
 k4 := fun l a b r h1 h2 => by
  have h3 : Nat.beq 1 r = true ↔ q a = q b := kn_at hH h2
  rw [h3, ← can_tx hcn hq h1]
  exact ⟨fun e => by rw [e], fun e => tellS_inj (bytesN_inj e)⟩
 k6 := fun a b r h => kn_at hH h
 k5 := fun a r h => kn_at hH h
end
end Go.Proofs.YtkcikcnimkofkaaGreatDoor
/- CFlined -/
namespace Go.Proofs.YtkcikcnimkofkaaGreatDoor
open Go.RowKit Cx
theorem closed_lined : Closed 41 :=
 closed_told (N := [(0, [0, 0, 1]), (0, [0, 1, 1]), (0, [0, 3, 1]), (3, [1, 0]), (3, [2, 1]), (5, [4]), (4, [5, 0]), (4, [3, 1]), (2, [6, 7]), (5, [8]), (8, [0, 5, 3, 9]), (8, [1, 5, 3, 9]), (8, [2, 5, 3, 9]), (0, [1, 5, 1]), (4, [10, 1]), (4, [11, 0]), (3, [14, 15]), (4, [0, 12]), (4, [1, 12]), (4, [10, 13]), (4, [11, 13]), (3, [17, 19]), (3, [18, 20]), (5, [22]), (6, [23, 16]), (6, [21, 16]), (4, [1, 1]), (4, [1, 0]), (2, [26, 27]), (2, [28, 0]), (5, [29]), (4, [1, 30]), (2, [26, 26]), (6, [31, 32]), (4, [33, 1]), (2, [0, 1]), (2, [0, 0]), (2, [35, 34]), (2, [36, 34]), (0, [0, 2, 1]), (0, [1, 1, 1]), (0, [0, 5, 1]), (0, [0, 1, 2]), (0, [1, 1, 2])]) (H := [(0, 5, 0, 0), (0, 10, 0, 0), (0, 0, 0, 1), (0, 1, 0, 0), (0, 16, 0, 0), (4, 10, 39, 1), (4, 11, 40, 1), (4, 12, 1, 1), (4, 24, 39, 1), (4, 25, 41, 1), (4, 37, 42, 1), (4, 38, 43, 1)]) (K := []) (L := [([48], 0), ([49], 1), ([51], 2), ([45, 53], 13), ([50], 39), ([45, 49], 40), ([53], 41), ([49, 47, 50], 42), ([45, 49, 47, 50], 43)]) (C := [([50], 39), ([45, 49], 40), ([49], 1), ([53], 41), ([49, 47, 50], 42), ([45, 49, 47, 50], 43)]) (Z := [2, 2, 3, 5, 6, 6, 8, 7, 16, 16, 65, 65, 65, 4, 67, 67, 135, 67, 67, 69, 69, 137, 137, 137, 272, 272, 4, 4, 9, 12, 12, 14, 9, 23, 25, 5, 5, 31, 31, 3, 2, 4, 3, 3]) (cl := []) 6 (fun _ h => by cases h) (by kernel_rfl) (by kernel_rfl) (by kernel_rfl) (by kernel_rfl) (by kernel_rfl) (by kernel_rfl) (by kernel_rfl)
end Go.Proofs.YtkcikcnimkofkaaGreatDoor
/- MLD -/
namespace Go.Proofs.YtkcikcnimkofkaaGreatDoor
open Go.RowKit Cx
def lineDesargues_N : List Nd := [(1, [0]), (1, [1]), (1, [2]), (1, [3]), (3, [2, 0]), (3, [3, 1]), (1, [8]), (4, [4, 6]), (4, [5, 6]), (0, [0, 0, 1]), (2, [9, 0]), (2, [9, 1]), (2, [10, 7]), (2, [11, 8]), (1, [4]), (1, [5]), (3, [14, 0]), (3, [15, 1]), (1, [9]), (4, [16, 18]), (4, [17, 18]), (2, [10, 19]), (2, [11, 20]), (1, [6]), (1, [7]), (3, [23, 0]), (3, [24, 1]), (1, [10]), (4, [25, 27]), (4, [26, 27]), (2, [10, 28]), (2, [11, 29]), (3, [14, 2]), (3, [15, 3]), (5, [33]), (3, [21, 12]), (3, [22, 13]), (5, [36]), (4, [37, 12]), (4, [35, 13]), (2, [38, 39]), (5, [40]), (8, [0, 37, 35, 41]), (8, [1, 37, 35, 41]), (8, [2, 37, 35, 41]), (4, [34, 2]), (4, [32, 3]), (2, [45, 46]), (5, [47]), (8, [0, 34, 32, 48]), (8, [1, 34, 32, 48]), (8, [2, 34, 32, 48]), (4, [49, 43]), (4, [50, 42]), (3, [52, 53]), (4, [42, 51]), (4, [43, 51]), (4, [49, 44]), (4, [50, 44]), (3, [55, 57]), (3, [56, 58]), (5, [60]), (6, [61, 54]), (6, [59, 54]), (3, [23, 14]), (3, [24, 15]), (5, [65]), (3, [30, 21]), (3, [31, 22]), (5, [68]), (4, [69, 21]), (4, [67, 22]), (2, [70, 71]), (5, [72]), (8, [0, 69, 67, 73]), (8, [1, 69, 67, 73]), (8, [2, 69, 67, 73]), (4, [66, 14]), (4, [64, 15]), (2, [77, 78]), (5, [79]), (8, [0, 66, 64, 80]), (8, [1, 66, 64, 80]), (8, [2, 66, 64, 80]), (4, [81, 75]), (4, [82, 74]), (3, [84, 85]), (4, [74, 83]), (4, [75, 83]), (4, [81, 76]), (4, [82, 76]), (3, [87, 89]), (3, [88, 90]), (5, [92]), (6, [93, 86]), (6, [91, 86]), (3, [2, 23]), (3, [3, 24]), (5, [97]), (3, [12, 30]), (3, [13, 31]), (5, [100]), (4, [101, 30]), (4, [99, 31]), (2, [102, 103]), (5, [104]), (8, [0, 101, 99, 105]), (8, [1, 101, 99, 105]), (8, [2, 101, 99, 105]), (4, [98, 23]), (4, [96, 24]), (2, [109, 110]), (5, [111]), (8, [0, 98, 96, 112]), (8, [1, 98, 96, 112]), (8, [2, 98, 96, 112]), (4, [113, 107]), (4, [114, 106]), (3, [116, 117]), (4, [106, 115]), (4, [107, 115]), (4, [113, 108]), (4, [114, 108]), (3, [119, 121]), (3, [120, 122]), (5, [124]), (6, [125, 118]), (6, [123, 118]), (4, [4, 17]), (4, [5, 16]), (3, [128, 129]), (4, [16, 26]), (4, [17, 25]), (3, [131, 132]), (4, [25, 5]), (4, [26, 4]), (3, [134, 135]), (3, [23, 2]), (3, [24, 3]), (4, [32, 138]), (4, [33, 137]), (3, [139, 140]), (3, [30, 12]), (3, [31, 13]), (4, [35, 143]), (4, [36, 142]), (3, [144, 145]), (3, [94, 62]), (3, [95, 63]), (3, [126, 62]), (3, [127, 63]), (4, [147, 150]), (4, [148, 149]), (3, [151, 152])]
def lineDesargues_L : List (List Nat × Nat) := []
def lineDesargues_C : List (List Nat × Nat) := []
def lineDesargues_Z : List Nat := [3495259, 3495259, 3495259, 3495259, 6990519, 6990519, 3495259, 10485778, 10485778, 2, 3495262, 3495262, 13981041, 13981041, 3495259, 3495259, 6990519, 6990519, 3495259, 10485778, 10485778, 13981041, 13981041, 3495259, 3495259, 6990519, 6990519, 3495259, 10485778, 10485778, 13981041, 13981041, 6990519, 6990519, 6990519, 27962083, 27962083, 27962083, 41943124, 41943124, 83886249, 83886249, 335544997, 335544997, 335544997, 10485778, 10485778, 20971557, 20971557, 83886229, 83886229, 83886229, 419431226, 419431226, 419431227, 419431226, 419431226, 419431226, 419431226, 419431227, 419431227, 419431227, 838862454, 838862454, 6990519, 6990519, 6990519, 27962083, 27962083, 27962083, 41943124, 41943124, 83886249, 83886249, 335544997, 335544997, 335544997, 10485778, 10485778, 20971557, 20971557, 83886229, 83886229, 83886229, 419431226, 419431226, 419431227, 419431226, 419431226, 419431226, 419431226, 419431227, 419431227, 419431227, 838862454, 838862454, 6990519, 6990519, 6990519, 27962083, 27962083, 27962083, 41943124, 41943124, 83886249, 83886249, 335544997, 335544997, 335544997, 10485778, 10485778, 20971557, 20971557, 83886229, 83886229, 83886229, 419431226, 419431226, 419431227, 419431226, 419431226, 419431226, 419431226, 419431227, 419431227, 419431227, 838862454, 838862454, 13981038, 13981038, 27962077, 13981038, 13981038, 27962077, 13981038, 13981038, 27962077, 6990519, 6990519, 13981038, 13981038, 27962077, 27962083, 27962083, 55924166, 55924166, 111848333, 1677724909, 1677724909, 1677724909, 1677724909, 3355449818, 3355449818, 6710899637]
def lineDesargues_I : List Bool := [false, false, false, false, false, false, false, false, false, true, false, false, false, false, false, false, false, false, false, false, false, false, false, false, false, false, false, false, false, false, false, false, false, false, false, false, false, false, false, false, false, false, true, true, true, false, false, false, false, true, true, true, true, true, true, true, true, true, true, true, true, true, false, false, false, false, false, false, false, false, false, false, false, false, true, true, true, false, false, false, false, true, true, true, true, true, true, true, true, true, true, true, true, true, false, false, false, false, false, false, false, false, false, false, false, false, true, true, true, false, false, false, false, true, true, true, true, true, true, true, true, true, true, true, true, true, false, false, false, false, false, false, false, false, false, false, false, false, false, false, false, false, false, false, false, false, false, false, false, false, false, false, false, false]
theorem lineDesargues_wf : wfB 0 lineDesargues_N = true := by kernel_rfl
theorem lineDesargues_sz : szC lineDesargues_Z lineDesargues_I lineDesargues_N lineDesargues_Z lineDesargues_I = true := by kernel_rfl
theorem lineDesargues_lt : litB lineDesargues_N lineDesargues_L = true := by kernel_rfl
theorem lineDesargues_cn : canB lineDesargues_N lineDesargues_C = true := by kernel_rfl
theorem lineDesargues_c9 : cst 0 0 1 = (0 : Rat) := by decide +kernel
theorem pl_m {x y z p q r G H s : Rat} (hx : x = p * G) (hy : y = q * H) (hz : z = x * y) (hr : r = p * q) (hs : s = G * H) : z = r * s := by
 rw [hz, hx, hy, hr, hs]; grind
theorem pl_w {x y z p q r G H s : Rat} (hx : x = p * G) (hy : y = q * H) (hz : z = x * y) (hr : r = p * q) (hs : s = H * G) : z = r * s := by
 rw [hz, hx, hy, hr, hs]; grind
theorem pl_s {x y z p q r G : Rat} (hx : x = p * G) (hy : y = q * G) (hz : z = x - y) (hr : r = p - q) : z = r * G := by
 rw [hz, hx, hy, hr]; grind
theorem pl_a {x y z p q r G : Rat} (hx : x = p * G) (hy : y = q * G) (hz : z = x + y) (hr : r = p + q) : z = r * G := by
 rw [hz, hx, hy, hr]; grind
theorem pl_n {x z p r G : Rat} (hx : x = p * G) (hz : z = -x) (hr : r = -p) : z = r * G := by
 rw [hz, hx, hr]; grind
theorem pl_8 {x z p G g s : Rat} (hx : x = p * G) (hz : z = x * g) (hs : s = G * g) : z = p * s := by
 rw [hz, hx, hs]; grind
theorem pl_1 (x : Rat) : x = x * 1 := (Rat.mul_one x).symm
theorem pl_0 {z p s : Rat} (h : z = p * s) (hp : p = 0) : z = 0 := by rw [h, hp, Rat.zero_mul]
theorem pq_meet (u1 u2 u3 v1 v2 v3 w1 w2 w3 x1 x2 x3 : Rat) :
  ((u3 * v1 - u1 * v3) * (w1 * x2 - w2 * x1) - (u1 * v2 - u2 * v1) * (w3 * x1 - w1 * x3) = (u1 * (v2 * x3 - v3 * x2) - u2 * (v1 * x3 - v3 * x1) + u3 * (v1 * x2 - v2 * x1)) * w1 - (u1 * (v2 * w3 - v3 * w2) - u2 * (v1 * w3 - v3 * w1) + u3 * (v1 * w2 - v2 * w1)) * x1) ∧
  ((u1 * v2 - u2 * v1) * (w2 * x3 - w3 * x2) - (u2 * v3 - u3 * v2) * (w1 * x2 - w2 * x1) = (u1 * (v2 * x3 - v3 * x2) - u2 * (v1 * x3 - v3 * x1) + u3 * (v1 * x2 - v2 * x1)) * w2 - (u1 * (v2 * w3 - v3 * w2) - u2 * (v1 * w3 - v3 * w1) + u3 * (v1 * w2 - v2 * w1)) * x2) ∧
  ((u2 * v3 - u3 * v2) * (w3 * x1 - w1 * x3) - (u3 * v1 - u1 * v3) * (w2 * x3 - w3 * x2) = (u1 * (v2 * x3 - v3 * x2) - u2 * (v1 * x3 - v3 * x1) + u3 * (v1 * x2 - v2 * x1)) * w3 - (u1 * (v2 * w3 - v3 * w2) - u2 * (v1 * w3 - v3 * w1) + u3 * (v1 * w2 - v2 * w1)) * x3) := by
 refine ⟨?_, ?_, ?_⟩ <;> grind
theorem pq_lin (a1 a2 a3 b1 b2 b3 c1 c2 c3 d1 d2 d3 f0 g0 e1 f1 h1 e2 g2 h2 : Rat) : (f0 * b1 + g0 * c1) * ((e1 * a2 + f1 * b2 + h1 * d2) * (e2 * a3 + g2 * c3 + h2 * d3) - (e1 * a3 + f1 * b3 + h1 * d3) * (e2 * a2 + g2 * c2 + h2 * d2)) + -((f0 * b2 + g0 * c2) * ((e1 * a1 + f1 * b1 + h1 * d1) * (e2 * a3 + g2 * c3 + h2 * d3) - (e1 * a3 + f1 * b3 + h1 * d3) * (e2 * a1 + g2 * c1 + h2 * d1))) + (f0 * b3 + g0 * c3) * ((e1 * a1 + f1 * b1 + h1 * d1) * (e2 * a2 + g2 * c2 + h2 * d2) - (e1 * a2 + f1 * b2 + h1 * d2) * (e2 * a1 + g2 * c1 + h2 * d1)) = f0 * (e1 * (-(g2 * (a1 * (b2 * c3 - b3 * c2) - a2 * (b1 * c3 - b3 * c1) + a3 * (b1 * c2 - b2 * c1))) - h2 * (a1 * (b2 * d3 - b3 * d2) - a2 * (b1 * d3 - b3 * d1) + a3 * (b1 * d2 - b2 * d1))) + h1 * (e2 * (a1 * (b2 * d3 - b3 * d2) - a2 * (b1 * d3 - b3 * d1) + a3 * (b1 * d2 - b2 * d1)) - g2 * (b1 * (c2 * d3 - c3 * d2) - b2 * (c1 * d3 - c3 * d1) + b3 * (c1 * d2 - c2 * d1)))) + g0 * (e1 * (-(h2 * (a1 * (c2 * d3 - c3 * d2) - a2 * (c1 * d3 - c3 * d1) + a3 * (c1 * d2 - c2 * d1)))) + f1 * (-(e2 * (a1 * (b2 * c3 - b3 * c2) - a2 * (b1 * c3 - b3 * c1) + a3 * (b1 * c2 - b2 * c1))) - h2 * (b1 * (c2 * d3 - c3 * d2) - b2 * (c1 * d3 - c3 * d1) + b3 * (c1 * d2 - c2 * d1))) + h1 * (e2 * (a1 * (c2 * d3 - c3 * d2) - a2 * (c1 * d3 - c3 * d1) + a3 * (c1 * d2 - c2 * d1)))) := by
 grind
theorem pq_main {a1 a2 a3 b1 b2 b3 c1 c2 c3 d1 d2 d3 r1 r2 r3 s1 s2 s3 X01 X02 X03 Y01 Y02 Y03 Z01 Z02 Z03 X11 X12 X13 Y11 Y12 Y13 Z11 Z12 Z13 X21 X22 X23 Y21 Y22 Y23 Z21 Z22 Z23 k0 k1 n0 n1 : Rat} (hr1 : r1 = k0 * a1 + k1 * b1) (hr2 : r2 = k0 * a2 + k1 * b2) (hr3 : r3 = k0 * a3 + k1 * b3) (hs1 : s1 = n0 * c1 + n1 * d1) (hs2 : s2 = n0 * c2 + n1 * d2) (hs3 : s3 = n0 * c3 + n1 * d3)
  (x01 : X01 = a2 * d3 - a3 * d2) (x02 : X02 = a3 * d1 - a1 * d3) (x03 : X03 = a1 * d2 - a2 * d1) (y01 : Y01 = b2 * c3 - b3 * c2) (y02 : Y02 = b3 * c1 - b1 * c3) (y03 : Y03 = b1 * c2 - b2 * c1) (z01 : Z01 = X02 * Y03 - X03 * Y02) (z02 : Z02 = X03 * Y01 - X01 * Y03) (z03 : Z03 = X01 * Y02 - X02 * Y01) (x11 : X11 = b2 * s3 - b3 * s2) (x12 : X12 = b3 * s1 - b1 * s3) (x13 : X13 = b1 * s2 - b2 * s1) (y11 : Y11 = r2 * d3 - r3 * d2) (y12 : Y12 = r3 * d1 - r1 * d3) (y13 : Y13 = r1 * d2 - r2 * d1) (z11 : Z11 = X12 * Y13 - X13 * Y12) (z12 : Z12 = X13 * Y11 - X11 * Y13) (z13 : Z13 = X11 * Y12 - X12 * Y11) (x21 : X21 = r2 * c3 - r3 * c2) (x22 : X22 = r3 * c1 - r1 * c3) (x23 : X23 = r1 * c2 - r2 * c1) (y21 : Y21 = a2 * s3 - a3 * s2) (y22 : Y22 = a3 * s1 - a1 * s3) (y23 : Y23 = a1 * s2 - a2 * s1) (z21 : Z21 = X22 * Y23 - X23 * Y22) (z22 : Z22 = X23 * Y21 - X21 * Y23) (z23 : Z23 = X21 * Y22 - X22 * Y21) :
  Z01 * (Z12 * Z23 - Z13 * Z22) + -(Z02 * (Z11 * Z23 - Z13 * Z21)) + Z03 * (Z11 * Z22 - Z12 * Z21) = 0 := by
 obtain ⟨A, hA⟩ : ∃ x, x = (b1 * (c2 * d3 - c3 * d2) - b2 * (c1 * d3 - c3 * d1) + b3 * (c1 * d2 - c2 * d1)) := ⟨_, rfl⟩
 obtain ⟨B, hB⟩ : ∃ x, x = (a1 * (c2 * d3 - c3 * d2) - a2 * (c1 * d3 - c3 * d1) + a3 * (c1 * d2 - c2 * d1)) := ⟨_, rfl⟩
 obtain ⟨C, hC⟩ : ∃ x, x = (a1 * (b2 * d3 - b3 * d2) - a2 * (b1 * d3 - b3 * d1) + a3 * (b1 * d2 - b2 * d1)) := ⟨_, rfl⟩
 obtain ⟨E, hE⟩ : ∃ x, x = (a1 * (b2 * c3 - b3 * c2) - a2 * (b1 * c3 - b3 * c1) + a3 * (b1 * c2 - b2 * c1)) := ⟨_, rfl⟩
 have ⟨q01, q02, q03⟩ : Z01 = -B * b1 + C * c1 ∧ Z02 = -B * b2 + C * c2 ∧ Z03 = -B * b3 + C * c3 := by
  have ⟨m1, m2, m3⟩ := pq_meet a1 a2 a3 d1 d2 d3 b1 b2 b3 c1 c2 c3
  have b1_ : (a1 * (d2 * c3 - d3 * c2) - a2 * (d1 * c3 - d3 * c1) + a3 * (d1 * c2 - d2 * c1)) = -B := by
   subst hA hB hC hE hr1 hr2 hr3 hs1 hs2 hs3
   clear m1 m2 m3 x01 x02 x03 x11 x12 x13 x21 x22 x23 y01 y02 y03 y11 y12 y13 y21 y22 y23 z01 z02 z03 z11 z12 z13 z21 z22 z23
   grind
  have b2_ : (a1 * (d2 * b3 - d3 * b2) - a2 * (d1 * b3 - d3 * b1) + a3 * (d1 * b2 - d2 * b1)) = -C := by
   subst hA hB hC hE hr1 hr2 hr3 hs1 hs2 hs3
   clear m1 m2 m3 x01 x02 x03 x11 x12 x13 x21 x22 x23 y01 y02 y03 y11 y12 y13 y21 y22 y23 z01 z02 z03 z11 z12 z13 z21 z22 z23
   grind
  rw [b1_, b2_, ← x02, ← x03, ← y02, ← y03, ← z01] at m1
  rw [b1_, b2_, ← x01, ← x03, ← y01, ← y03, ← z02] at m2
  rw [b1_, b2_, ← x01, ← x02, ← y01, ← y02, ← z03] at m3
  rw [m1, m2, m3]
  clear m1 m2 m3 b1_ b2_ hA hB hC hE x01 x02 x03 x11 x12 x13 x21 x22 x23 y01 y02 y03 y11 y12 y13 y21 y22 y23 z01 z02 z03 z11 z12 z13 z21 z22 z23
  subst hr1 hr2 hr3 hs1 hs2 hs3
  refine ⟨?_, ?_, ?_⟩ <;> grind
 have ⟨q11, q12, q13⟩ : Z11 = n0 * A * k0 * a1 + n0 * A * k1 * b1 + -(k0 * (n0 * E + n1 * C)) * d1 ∧ Z12 = n0 * A * k0 * a2 + n0 * A * k1 * b2 + -(k0 * (n0 * E + n1 * C)) * d2 ∧ Z13 = n0 * A * k0 * a3 + n0 * A * k1 * b3 + -(k0 * (n0 * E + n1 * C)) * d3 := by
  clear q01 q02 q03
  have ⟨m1, m2, m3⟩ := pq_meet b1 b2 b3 s1 s2 s3 r1 r2 r3 d1 d2 d3
  have b1_ : (b1 * (s2 * d3 - s3 * d2) - b2 * (s1 * d3 - s3 * d1) + b3 * (s1 * d2 - s2 * d1)) = n0 * A := by
   subst hA hB hC hE hr1 hr2 hr3 hs1 hs2 hs3
   clear m1 m2 m3 x01 x02 x03 x11 x12 x13 x21 x22 x23 y01 y02 y03 y11 y12 y13 y21 y22 y23 z01 z02 z03 z11 z12 z13 z21 z22 z23
   grind
  have b2_ : (b1 * (s2 * r3 - s3 * r2) - b2 * (s1 * r3 - s3 * r1) + b3 * (s1 * r2 - s2 * r1)) = k0 * (n0 * E + n1 * C) := by
   subst hA hB hC hE hr1 hr2 hr3 hs1 hs2 hs3
   clear m1 m2 m3 x01 x02 x03 x11 x12 x13 x21 x22 x23 y01 y02 y03 y11 y12 y13 y21 y22 y23 z01 z02 z03 z11 z12 z13 z21 z22 z23
   grind
  rw [b1_, b2_, ← x12, ← x13, ← y12, ← y13, ← z11] at m1
  rw [b1_, b2_, ← x11, ← x13, ← y11, ← y13, ← z12] at m2
  rw [b1_, b2_, ← x11, ← x12, ← y11, ← y12, ← z13] at m3
  rw [m1, m2, m3]
  clear m1 m2 m3 b1_ b2_ hA hB hC hE x01 x02 x03 x11 x12 x13 x21 x22 x23 y01 y02 y03 y11 y12 y13 y21 y22 y23 z01 z02 z03 z11 z12 z13 z21 z22 z23
  subst hr1 hr2 hr3 hs1 hs2 hs3
  refine ⟨?_, ?_, ?_⟩ <;> grind
 have ⟨q21, q22, q23⟩ : Z21 = n1 * (k0 * B + k1 * A) * a1 + -(k1 * E * n0) * c1 + -(k1 * E * n1) * d1 ∧ Z22 = n1 * (k0 * B + k1 * A) * a2 + -(k1 * E * n0) * c2 + -(k1 * E * n1) * d2 ∧ Z23 = n1 * (k0 * B + k1 * A) * a3 + -(k1 * E * n0) * c3 + -(k1 * E * n1) * d3 := by
  clear q01 q02 q03 q11 q12 q13
  have ⟨m1, m2, m3⟩ := pq_meet r1 r2 r3 c1 c2 c3 a1 a2 a3 s1 s2 s3
  have b1_ : (r1 * (c2 * s3 - c3 * s2) - r2 * (c1 * s3 - c3 * s1) + r3 * (c1 * s2 - c2 * s1)) = n1 * (k0 * B + k1 * A) := by
   subst hA hB hC hE hr1 hr2 hr3 hs1 hs2 hs3
   clear m1 m2 m3 x01 x02 x03 x11 x12 x13 x21 x22 x23 y01 y02 y03 y11 y12 y13 y21 y22 y23 z01 z02 z03 z11 z12 z13 z21 z22 z23
   grind
  have b2_ : (r1 * (c2 * a3 - c3 * a2) - r2 * (c1 * a3 - c3 * a1) + r3 * (c1 * a2 - c2 * a1)) = k1 * E := by
   subst hA hB hC hE hr1 hr2 hr3 hs1 hs2 hs3
   clear m1 m2 m3 x01 x02 x03 x11 x12 x13 x21 x22 x23 y01 y02 y03 y11 y12 y13 y21 y22 y23 z01 z02 z03 z11 z12 z13 z21 z22 z23
   grind
  rw [b1_, b2_, ← x22, ← x23, ← y22, ← y23, ← z21] at m1
  rw [b1_, b2_, ← x21, ← x23, ← y21, ← y23, ← z22] at m2
  rw [b1_, b2_, ← x21, ← x22, ← y21, ← y22, ← z23] at m3
  rw [m1, m2, m3]
  clear m1 m2 m3 b1_ b2_ hA hB hC hE x01 x02 x03 x11 x12 x13 x21 x22 x23 y01 y02 y03 y11 y12 y13 y21 y22 y23 z01 z02 z03 z11 z12 z13 z21 z22 z23
  subst hr1 hr2 hr3 hs1 hs2 hs3
  refine ⟨?_, ?_, ?_⟩ <;> grind
 rw [q01, q02, q03, q11, q12, q13, q21, q22, q23, pq_lin, ← hA, ← hB, ← hC, ← hE]
 clear q01 q02 q03 q11 q12 q13 q21 q22 q23 x01 x02 x03 y01 y02 y03 z01 z02 z03 x11 x12 x13 y11 y12 y13 z11 z12 z13 x21 x22 x23 y21 y22 y23 z21 z22 z23 hr1 hr2 hr3 hs1 hs2 hs3 hA hB hC hE
 grind
theorem ds_meet (o1 o2 o3 t1 t2 t3 u1 u2 u3 k l m n : Rat) :
  ((t3 * u1 - t1 * u3) * ((k * o1 + m * t1) * (l * o2 + n * u2) - (k * o2 + m * t2) * (l * o1 + n * u1)) - (t1 * u2 - t2 * u1) * ((k * o3 + m * t3) * (l * o1 + n * u1) - (k * o1 + m * t1) * (l * o3 + n * u3)) = (t1 * (u2 * o3 - u3 * o2) - t2 * (u1 * o3 - u3 * o1) + t3 * (u1 * o2 - u2 * o1)) * (m * l * t1 - k * n * u1)) ∧
  ((t1 * u2 - t2 * u1) * ((k * o2 + m * t2) * (l * o3 + n * u3) - (k * o3 + m * t3) * (l * o2 + n * u2)) - (t2 * u3 - t3 * u2) * ((k * o1 + m * t1) * (l * o2 + n * u2) - (k * o2 + m * t2) * (l * o1 + n * u1)) = (t1 * (u2 * o3 - u3 * o2) - t2 * (u1 * o3 - u3 * o1) + t3 * (u1 * o2 - u2 * o1)) * (m * l * t2 - k * n * u2)) ∧
  ((t2 * u3 - t3 * u2) * ((k * o3 + m * t3) * (l * o1 + n * u1) - (k * o1 + m * t1) * (l * o3 + n * u3)) - (t3 * u1 - t1 * u3) * ((k * o2 + m * t2) * (l * o3 + n * u3) - (k * o3 + m * t3) * (l * o2 + n * u2)) = (t1 * (u2 * o3 - u3 * o2) - t2 * (u1 * o3 - u3 * o1) + t3 * (u1 * o2 - u2 * o1)) * (m * l * t3 - k * n * u3)) := by
 refine ⟨?_, ?_, ?_⟩ <;> grind
theorem ds_lin (t1 t2 t3 u1 u2 u3 v1 v2 v3 D0 D1 D2 x0 y0 x1 y1 x2 y2 : Rat) : (D0 * (x0 * t1 - y0 * u1)) * ((D1 * (x1 * u2 - y1 * v2)) * (D2 * (x2 * v3 - y2 * t3)) - (D1 * (x1 * u3 - y1 * v3)) * (D2 * (x2 * v2 - y2 * t2))) + -((D0 * (x0 * t2 - y0 * u2)) * ((D1 * (x1 * u1 - y1 * v1)) * (D2 * (x2 * v3 - y2 * t3)) - (D1 * (x1 * u3 - y1 * v3)) * (D2 * (x2 * v1 - y2 * t1)))) + (D0 * (x0 * t3 - y0 * u3)) * ((D1 * (x1 * u1 - y1 * v1)) * (D2 * (x2 * v2 - y2 * t2)) - (D1 * (x1 * u2 - y1 * v2)) * (D2 * (x2 * v1 - y2 * t1))) = D0 * D1 * D2 * (t1 * (u2 * v3 - u3 * v2) - t2 * (u1 * v3 - u3 * v1) + t3 * (u1 * v2 - u2 * v1)) * (x0 * x1 * x2 - y0 * y1 * y2) := by
 grind
theorem ds_main {o1 o2 o3 t1 t2 t3 u1 u2 u3 v1 v2 v3 p1 p2 p3 q1 q2 q3 r1 r2 r3 A01 A02 A03 B01 B02 B03 C01 C02 C03 A11 A12 A13 B11 B12 B13 C11 C12 C13 A21 A22 A23 B21 B22 B23 C21 C22 C23 k0 k1 k2 n0 n1 n2 : Rat} (hp1 : p1 = k0 * o1 + n0 * t1) (hp2 : p2 = k0 * o2 + n0 * t2) (hp3 : p3 = k0 * o3 + n0 * t3) (hq1 : q1 = k1 * o1 + n1 * u1) (hq2 : q2 = k1 * o2 + n1 * u2) (hq3 : q3 = k1 * o3 + n1 * u3) (hr1 : r1 = k2 * o1 + n2 * v1) (hr2 : r2 = k2 * o2 + n2 * v2) (hr3 : r3 = k2 * o3 + n2 * v3)
  (a01 : A01 = t2 * u3 - t3 * u2) (a02 : A02 = t3 * u1 - t1 * u3) (a03 : A03 = t1 * u2 - t2 * u1) (b01 : B01 = p2 * q3 - p3 * q2) (b02 : B02 = p3 * q1 - p1 * q3) (b03 : B03 = p1 * q2 - p2 * q1) (c01 : C01 = A02 * B03 - A03 * B02) (c02 : C02 = A03 * B01 - A01 * B03) (c03 : C03 = A01 * B02 - A02 * B01) (a11 : A11 = u2 * v3 - u3 * v2) (a12 : A12 = u3 * v1 - u1 * v3) (a13 : A13 = u1 * v2 - u2 * v1) (b11 : B11 = q2 * r3 - q3 * r2) (b12 : B12 = q3 * r1 - q1 * r3) (b13 : B13 = q1 * r2 - q2 * r1) (c11 : C11 = A12 * B13 - A13 * B12) (c12 : C12 = A13 * B11 - A11 * B13) (c13 : C13 = A11 * B12 - A12 * B11) (a21 : A21 = v2 * t3 - v3 * t2) (a22 : A22 = v3 * t1 - v1 * t3) (a23 : A23 = v1 * t2 - v2 * t1) (b21 : B21 = r2 * p3 - r3 * p2) (b22 : B22 = r3 * p1 - r1 * p3) (b23 : B23 = r1 * p2 - r2 * p1) (c21 : C21 = A22 * B23 - A23 * B22) (c22 : C22 = A23 * B21 - A21 * B23) (c23 : C23 = A21 * B22 - A22 * B21) :
  C01 * (C12 * C23 - C13 * C22) + -(C02 * (C11 * C23 - C13 * C21)) + C03 * (C11 * C22 - C12 * C21) = 0 := by
 have ⟨m01, m02, m03⟩ := ds_meet o1 o2 o3 t1 t2 t3 u1 u2 u3 k0 k1 n0 n1
 rw [← hp1, ← hp2, ← hp3, ← hq1, ← hq2, ← hq3, ← a02, ← a03, ← b02, ← b03, ← c01] at m01
 rw [← hp1, ← hp2, ← hp3, ← hq1, ← hq2, ← hq3, ← a01, ← a03, ← b01, ← b03, ← c02] at m02
 rw [← hp1, ← hp2, ← hp3, ← hq1, ← hq2, ← hq3, ← a01, ← a02, ← b01, ← b02, ← c03] at m03
 have ⟨m11, m12, m13⟩ := ds_meet o1 o2 o3 u1 u2 u3 v1 v2 v3 k1 k2 n1 n2
 rw [← hq1, ← hq2, ← hq3, ← hr1, ← hr2, ← hr3, ← a12, ← a13, ← b12, ← b13, ← c11] at m11
 rw [← hq1, ← hq2, ← hq3, ← hr1, ← hr2, ← hr3, ← a11, ← a13, ← b11, ← b13, ← c12] at m12
 rw [← hq1, ← hq2, ← hq3, ← hr1, ← hr2, ← hr3, ← a11, ← a12, ← b11, ← b12, ← c13] at m13
 have ⟨m21, m22, m23⟩ := ds_meet o1 o2 o3 v1 v2 v3 t1 t2 t3 k2 k0 n2 n0
 rw [← hr1, ← hr2, ← hr3, ← hp1, ← hp2, ← hp3, ← a22, ← a23, ← b22, ← b23, ← c21] at m21
 rw [← hr1, ← hr2, ← hr3, ← hp1, ← hp2, ← hp3, ← a21, ← a23, ← b21, ← b23, ← c22] at m22
 rw [← hr1, ← hr2, ← hr3, ← hp1, ← hp2, ← hp3, ← a21, ← a22, ← b21, ← b22, ← c23] at m23
 rw [m01, m02, m03, m11, m12, m13, m21, m22, m23, ds_lin]
 have e : n0 * k1 * (n1 * k2) * (n2 * k0) - k0 * n1 * (k1 * n2) * (k2 * n0) = 0 := by
  clear m01 m02 m03 m11 m12 m13 m21 m22 m23
  clear a01 a02 a03 a11 a12 a13 a21 a22 a23 b01 b02 b03 b11 b12 b13 b21 b22 b23 c01 c02 c03 c11 c12 c13 c21 c22 c23 hp1 hp2 hp3 hq1 hq2 hq3 hr1 hr2 hr3
  grind
 rw [e, Rat.mul_zero]
theorem lp_a (p q : Rat) : -(q - p) = p * 1 - 1 * q := by grind
theorem lp_b (p q : Rat) : q - p = 1 * q - p * 1 := by grind
theorem lp_c (a b c d : Rat) : -(-(d - b) * a + (c - a) * b) = a * d - b * c := by grind
theorem lp_d (a b c d : Rat) : -(a * b - c * d) = c * d - b * a := by grind
theorem lp_e (a b c d : Rat) : a * b - c * d = b * a - c * d := by grind
theorem lp_f (a b x : Rat) : 0 + a + (b - a) * x = (1 - x) * a + x * b := by grind
theorem lp_g (x : Rat) : (1 : Rat) = (1 - x) * 1 + x * 1 := by grind
theorem lp_q {x y z p q s : Rat} (hx : x = p * s) (hy : y = q * s) (hz : z = x / y) (h0 : y ≠ 0) : z = p / q ∧ q ≠ 0 := by
 have hq : q ≠ 0 := fun e => h0 (by rw [hy, e, Rat.zero_mul])
 have hs : s ≠ 0 := fun e => h0 (by rw [hy, e, Rat.mul_zero])
 refine ⟨?_, hq⟩
 have z1 : z * y = x := by rw [hz]; exact Rat.div_mul_cancel h0
 have f1 : p / q * q = p := Rat.div_mul_cancel hq
 obtain ⟨f, hf⟩ : ∃ f, f = p / q := ⟨_, rfl⟩
 rw [← hf] at f1 ⊢
 rw [hx, hy] at z1
 have e : (z - f) * (q * s) = 0 := by clear hx hy hz h0 hf; grind
 have := (Rat.mul_eq_zero.1 e).resolve_right (mul_ne hq hs)
 clear hx hy hz h0 hf e z1 f1
 grind
theorem lp_turn {X0 Y0 W0 X1 Y1 W1 X2 Y2 W2 x0 z0 x1 z1 x2 z2 : Rat} (w0 : W0 ≠ 0) (w1 : W1 ≠ 0) (w2 : W2 ≠ 0) (hx0 : x0 = X0 / W0) (hz0 : z0 = Y0 / W0) (hx1 : x1 = X1 / W1) (hz1 : z1 = Y1 / W1) (hx2 : x2 = X2 / W2) (hz2 : z2 = Y2 / W2) (hd : X0 * (Y1 * W2 - W1 * Y2) + -(Y0 * (X1 * W2 - W1 * X2)) + W0 * (X1 * Y2 - Y1 * X2) = 0) : (x1 - x0) * (z2 - z0) - (z1 - z0) * (x2 - x0) = 0 := by
 have a0 : x0 * W0 = X0 := by rw [hx0]; exact Rat.div_mul_cancel w0
 have b0 : z0 * W0 = Y0 := by rw [hz0]; exact Rat.div_mul_cancel w0
 have a1 : x1 * W1 = X1 := by rw [hx1]; exact Rat.div_mul_cancel w1
 have b1 : z1 * W1 = Y1 := by rw [hz1]; exact Rat.div_mul_cancel w1
 have a2 : x2 * W2 = X2 := by rw [hx2]; exact Rat.div_mul_cancel w2
 have b2 : z2 * W2 = Y2 := by rw [hz2]; exact Rat.div_mul_cancel w2
 clear hx0 hz0 hx1 hz1 hx2 hz2
 have e : ((x1 - x0) * (z2 - z0) - (z1 - z0) * (x2 - x0)) * (W0 * (W1 * W2)) = 0 := by
  rw [← hd, ← a0, ← b0, ← a1, ← b1, ← a2, ← b2]
  clear hd a0 b0 a1 b1 a2 b2
  grind
 exact (Rat.mul_eq_zero.1 e).resolve_right (mul_ne w0 (mul_ne w1 w2))
theorem lineDesargues_f1 {z2 z3 z14 z15 z32 z33 z34 z45 z46 z47 z48 z49 z50 : Rat} : z32 = z14 - z2 → z33 = z15 - z3 → z34 = -z33 → z45 = z34 * z2 → z46 = z32 * z3 → z47 = z45 + z46 → z48 = -z47 → z49 = z34 * fac [z34, z32, z48] → z50 = z32 * fac [z34, z32, z48] → (¬ (z34 = 0 ∧ z32 = 0)) → ¬ (z49 = 0 ∧ z50 = 0) := by
 intro e32 e33 e34 e45 e46 e47 e48 e49 e50 u0
 have k0_32 : fac [z34, z32, z48] = 0 → z32 = 0 := fac_zero (by simp)
 have k0_34 : fac [z34, z32, z48] = 0 → z34 = 0 := fac_zero (by simp)
 have k0_48 : fac [z34, z32, z48] = 0 → z48 = 0 := fac_zero (by simp)
 generalize fac [z34, z32, z48] = g0 at *
 rw [e49, e50]; exact pair_fac u0 k0_34 k0_32
theorem lineDesargues_f2 {z0 z1 z2 z3 z4 z5 z6 z7 z8 z9 z10 z11 z12 z13 z14 z15 z16 z17 z18 z19 z20 z21 z22 z35 z36 z37 z38 z39 z40 z41 z42 z43 : Rat} : z4 = z2 - z0 → z5 = z3 - z1 → z7 = z4 * z6 → z8 = z5 * z6 → z9 = 0 → z10 = z9 + z0 → z11 = z9 + z1 → z12 = z10 + z7 → z13 = z11 + z8 → z16 = z14 - z0 → z17 = z15 - z1 → z19 = z16 * z18 → z20 = z17 * z18 → z21 = z10 + z19 → z22 = z11 + z20 → z35 = z21 - z12 → z36 = z22 - z13 → z37 = -z36 → z38 = z37 * z12 → z39 = z35 * z13 → z40 = z38 + z39 → z41 = -z40 → z42 = z37 * fac [z37, z35, z41] → z43 = z35 * fac [z37, z35, z41] → (¬ (z37 = 0 ∧ z35 = 0)) → ¬ (z42 = 0 ∧ z43 = 0) := by
 intro e4 e5 e7 e8 e9 e10 e11 e12 e13 e16 e17 e19 e20 e21 e22 e35 e36 e37 e38 e39 e40 e41 e42 e43 u1
 have k0_35 : fac [z37, z35, z41] = 0 → z35 = 0 := fac_zero (by simp)
 have k0_37 : fac [z37, z35, z41] = 0 → z37 = 0 := fac_zero (by simp)
 have k0_41 : fac [z37, z35, z41] = 0 → z41 = 0 := fac_zero (by simp)
 generalize fac [z37, z35, z41] = g0 at *
 rw [e42, e43]; exact pair_fac u1 k0_37 k0_35
theorem lineDesargues_f3 {z14 z15 z23 z24 z64 z65 z66 z77 z78 z79 z80 z81 z82 : Rat} : z64 = z23 - z14 → z65 = z24 - z15 → z66 = -z65 → z77 = z66 * z14 → z78 = z64 * z15 → z79 = z77 + z78 → z80 = -z79 → z81 = z66 * fac [z66, z64, z80] → z82 = z64 * fac [z66, z64, z80] → (¬ (z66 = 0 ∧ z64 = 0)) → ¬ (z81 = 0 ∧ z82 = 0) := by
 intro e64 e65 e66 e77 e78 e79 e80 e81 e82 u3
 have k0_64 : fac [z66, z64, z80] = 0 → z64 = 0 := fac_zero (by simp)
 have k0_66 : fac [z66, z64, z80] = 0 → z66 = 0 := fac_zero (by simp)
 have k0_80 : fac [z66, z64, z80] = 0 → z80 = 0 := fac_zero (by simp)
 generalize fac [z66, z64, z80] = g0 at *
 rw [e81, e82]; exact pair_fac u3 k0_66 k0_64
theorem lineDesargues_f4 {z0 z1 z9 z10 z11 z14 z15 z16 z17 z18 z19 z20 z21 z22 z23 z24 z25 z26 z27 z28 z29 z30 z31 z67 z68 z69 z70 z71 z72 z73 z74 z75 : Rat} : z9 = 0 → z10 = z9 + z0 → z11 = z9 + z1 → z16 = z14 - z0 → z17 = z15 - z1 → z19 = z16 * z18 → z20 = z17 * z18 → z21 = z10 + z19 → z22 = z11 + z20 → z25 = z23 - z0 → z26 = z24 - z1 → z28 = z25 * z27 → z29 = z26 * z27 → z30 = z10 + z28 → z31 = z11 + z29 → z67 = z30 - z21 → z68 = z31 - z22 → z69 = -z68 → z70 = z69 * z21 → z71 = z67 * z22 → z72 = z70 + z71 → z73 = -z72 → z74 = z69 * fac [z69, z67, z73] → z75 = z67 * fac [z69, z67, z73] → (¬ (z69 = 0 ∧ z67 = 0)) → ¬ (z74 = 0 ∧ z75 = 0) := by
 intro e9 e10 e11 e16 e17 e19 e20 e21 e22 e25 e26 e28 e29 e30 e31 e67 e68 e69 e70 e71 e72 e73 e74 e75 u4
 have k0_67 : fac [z69, z67, z73] = 0 → z67 = 0 := fac_zero (by simp)
 have k0_69 : fac [z69, z67, z73] = 0 → z69 = 0 := fac_zero (by simp)
 have k0_73 : fac [z69, z67, z73] = 0 → z73 = 0 := fac_zero (by simp)
 generalize fac [z69, z67, z73] = g0 at *
 rw [e74, e75]; exact pair_fac u4 k0_69 k0_67
theorem lineDesargues_f5 {z2 z3 z23 z24 z96 z97 z98 z109 z110 z111 z112 z113 z114 : Rat} : z96 = z2 - z23 → z97 = z3 - z24 → z98 = -z97 → z109 = z98 * z23 → z110 = z96 * z24 → z111 = z109 + z110 → z112 = -z111 → z113 = z98 * fac [z98, z96, z112] → z114 = z96 * fac [z98, z96, z112] → (¬ (z98 = 0 ∧ z96 = 0)) → ¬ (z113 = 0 ∧ z114 = 0) := by
 intro e96 e97 e98 e109 e110 e111 e112 e113 e114 u6
 have k0_96 : fac [z98, z96, z112] = 0 → z96 = 0 := fac_zero (by simp)
 have k0_98 : fac [z98, z96, z112] = 0 → z98 = 0 := fac_zero (by simp)
 have k0_112 : fac [z98, z96, z112] = 0 → z112 = 0 := fac_zero (by simp)
 generalize fac [z98, z96, z112] = g0 at *
 rw [e113, e114]; exact pair_fac u6 k0_98 k0_96
theorem lineDesargues_f6 {z0 z1 z2 z3 z4 z5 z6 z7 z8 z9 z10 z11 z12 z13 z23 z24 z25 z26 z27 z28 z29 z30 z31 z99 z100 z101 z102 z103 z104 z105 z106 z107 : Rat} : z4 = z2 - z0 → z5 = z3 - z1 → z7 = z4 * z6 → z8 = z5 * z6 → z9 = 0 → z10 = z9 + z0 → z11 = z9 + z1 → z12 = z10 + z7 → z13 = z11 + z8 → z25 = z23 - z0 → z26 = z24 - z1 → z28 = z25 * z27 → z29 = z26 * z27 → z30 = z10 + z28 → z31 = z11 + z29 → z99 = z12 - z30 → z100 = z13 - z31 → z101 = -z100 → z102 = z101 * z30 → z103 = z99 * z31 → z104 = z102 + z103 → z105 = -z104 → z106 = z101 * fac [z101, z99, z105] → z107 = z99 * fac [z101, z99, z105] → (¬ (z101 = 0 ∧ z99 = 0)) → ¬ (z106 = 0 ∧ z107 = 0) := by
 intro e4 e5 e7 e8 e9 e10 e11 e12 e13 e25 e26 e28 e29 e30 e31 e99 e100 e101 e102 e103 e104 e105 e106 e107 u7
 have k0_99 : fac [z101, z99, z105] = 0 → z99 = 0 := fac_zero (by simp)
 have k0_101 : fac [z101, z99, z105] = 0 → z101 = 0 := fac_zero (by simp)
 have k0_105 : fac [z101, z99, z105] = 0 → z105 = 0 := fac_zero (by simp)
 generalize fac [z101, z99, z105] = g0 at *
 rw [e106, e107]; exact pair_fac u7 k0_101 k0_99
theorem lineDesargues_f7 {z0 z1 z2 z3 z4 z5 z6 z7 z8 z9 z10 z11 z12 z13 z14 z15 z16 z17 z18 z19 z20 z21 z22 z32 z33 z34 z35 z36 z37 z38 z39 z40 z41 z42 z43 z45 z46 z47 z48 z49 z50 z52 z53 z54 z128 z129 z130 : Rat} : z4 = z2 - z0 → z5 = z3 - z1 → z7 = z4 * z6 → z8 = z5 * z6 → z9 = 0 → z10 = z9 + z0 → z11 = z9 + z1 → z12 = z10 + z7 → z13 = z11 + z8 → z16 = z14 - z0 → z17 = z15 - z1 → z19 = z16 * z18 → z20 = z17 * z18 → z21 = z10 + z19 → z22 = z11 + z20 → z32 = z14 - z2 → z33 = z15 - z3 → z34 = -z33 → z35 = z21 - z12 → z36 = z22 - z13 → z37 = -z36 → z38 = z37 * z12 → z39 = z35 * z13 → z40 = z38 + z39 → z41 = -z40 → z42 = z37 * fac [z37, z35, z41] → z43 = z35 * fac [z37, z35, z41] → z45 = z34 * z2 → z46 = z32 * z3 → z47 = z45 + z46 → z48 = -z47 → z49 = z34 * fac [z34, z32, z48] → z50 = z32 * fac [z34, z32, z48] → z52 = z49 * z43 → z53 = z50 * z42 → z54 = z52 - z53 → z128 = z4 * z17 → z129 = z5 * z16 → z130 = z128 - z129 → (¬ (z54 = 0)) → ¬ (z130 = 0) := by
 intro e4 e5 e7 e8 e9 e10 e11 e12 e13 e16 e17 e19 e20 e21 e22 e32 e33 e34 e35 e36 e37 e38 e39 e40 e41 e42 e43 e45 e46 e47 e48 e49 e50 e52 e53 e54 e128 e129 e130 u2
 have k0_35 : fac [z37, z35, z41] = 0 → z35 = 0 := fac_zero (by simp)
 have k0_37 : fac [z37, z35, z41] = 0 → z37 = 0 := fac_zero (by simp)
 have k0_41 : fac [z37, z35, z41] = 0 → z41 = 0 := fac_zero (by simp)
 generalize fac [z37, z35, z41] = g0 at *
 have k1_32 : fac [z34, z32, z48] = 0 → z32 = 0 := fac_zero (by simp)
 have k1_34 : fac [z34, z32, z48] = 0 → z34 = 0 := fac_zero (by simp)
 have k1_48 : fac [z34, z32, z48] = 0 → z48 = 0 := fac_zero (by simp)
 generalize fac [z34, z32, z48] = g1 at *
 subst_vars; grind
theorem lineDesargues_f8 {z0 z1 z9 z10 z11 z14 z15 z16 z17 z18 z19 z20 z21 z22 z23 z24 z25 z26 z27 z28 z29 z30 z31 z64 z65 z66 z67 z68 z69 z70 z71 z72 z73 z74 z75 z77 z78 z79 z80 z81 z82 z84 z85 z86 z131 z132 z133 : Rat} : z9 = 0 → z10 = z9 + z0 → z11 = z9 + z1 → z16 = z14 - z0 → z17 = z15 - z1 → z19 = z16 * z18 → z20 = z17 * z18 → z21 = z10 + z19 → z22 = z11 + z20 → z25 = z23 - z0 → z26 = z24 - z1 → z28 = z25 * z27 → z29 = z26 * z27 → z30 = z10 + z28 → z31 = z11 + z29 → z64 = z23 - z14 → z65 = z24 - z15 → z66 = -z65 → z67 = z30 - z21 → z68 = z31 - z22 → z69 = -z68 → z70 = z69 * z21 → z71 = z67 * z22 → z72 = z70 + z71 → z73 = -z72 → z74 = z69 * fac [z69, z67, z73] → z75 = z67 * fac [z69, z67, z73] → z77 = z66 * z14 → z78 = z64 * z15 → z79 = z77 + z78 → z80 = -z79 → z81 = z66 * fac [z66, z64, z80] → z82 = z64 * fac [z66, z64, z80] → z84 = z81 * z75 → z85 = z82 * z74 → z86 = z84 - z85 → z131 = z16 * z26 → z132 = z17 * z25 → z133 = z131 - z132 → (¬ (z86 = 0)) → ¬ (z133 = 0) := by
 intro e9 e10 e11 e16 e17 e19 e20 e21 e22 e25 e26 e28 e29 e30 e31 e64 e65 e66 e67 e68 e69 e70 e71 e72 e73 e74 e75 e77 e78 e79 e80 e81 e82 e84 e85 e86 e131 e132 e133 u5
 have k0_67 : fac [z69, z67, z73] = 0 → z67 = 0 := fac_zero (by simp)
 have k0_69 : fac [z69, z67, z73] = 0 → z69 = 0 := fac_zero (by simp)
 have k0_73 : fac [z69, z67, z73] = 0 → z73 = 0 := fac_zero (by simp)
 generalize fac [z69, z67, z73] = g0 at *
 have k1_64 : fac [z66, z64, z80] = 0 → z64 = 0 := fac_zero (by simp)
 have k1_66 : fac [z66, z64, z80] = 0 → z66 = 0 := fac_zero (by simp)
 have k1_80 : fac [z66, z64, z80] = 0 → z80 = 0 := fac_zero (by simp)
 generalize fac [z66, z64, z80] = g1 at *
 subst_vars; grind
theorem lineDesargues_f9 {z0 z1 z2 z3 z4 z5 z6 z7 z8 z9 z10 z11 z12 z13 z23 z24 z25 z26 z27 z28 z29 z30 z31 z96 z97 z98 z99 z100 z101 z102 z103 z104 z105 z106 z107 z109 z110 z111 z112 z113 z114 z116 z117 z118 z134 z135 z136 : Rat} : z4 = z2 - z0 → z5 = z3 - z1 → z7 = z4 * z6 → z8 = z5 * z6 → z9 = 0 → z10 = z9 + z0 → z11 = z9 + z1 → z12 = z10 + z7 → z13 = z11 + z8 → z25 = z23 - z0 → z26 = z24 - z1 → z28 = z25 * z27 → z29 = z26 * z27 → z30 = z10 + z28 → z31 = z11 + z29 → z96 = z2 - z23 → z97 = z3 - z24 → z98 = -z97 → z99 = z12 - z30 → z100 = z13 - z31 → z101 = -z100 → z102 = z101 * z30 → z103 = z99 * z31 → z104 = z102 + z103 → z105 = -z104 → z106 = z101 * fac [z101, z99, z105] → z107 = z99 * fac [z101, z99, z105] → z109 = z98 * z23 → z110 = z96 * z24 → z111 = z109 + z110 → z112 = -z111 → z113 = z98 * fac [z98, z96, z112] → z114 = z96 * fac [z98, z96, z112] → z116 = z113 * z107 → z117 = z114 * z106 → z118 = z116 - z117 → z134 = z25 * z5 → z135 = z26 * z4 → z136 = z134 - z135 → (¬ (z118 = 0)) → ¬ (z136 = 0) := by
 intro e4 e5 e7 e8 e9 e10 e11 e12 e13 e25 e26 e28 e29 e30 e31 e96 e97 e98 e99 e100 e101 e102 e103 e104 e105 e106 e107 e109 e110 e111 e112 e113 e114 e116 e117 e118 e134 e135 e136 u8
 have k0_99 : fac [z101, z99, z105] = 0 → z99 = 0 := fac_zero (by simp)
 have k0_101 : fac [z101, z99, z105] = 0 → z101 = 0 := fac_zero (by simp)
 have k0_105 : fac [z101, z99, z105] = 0 → z105 = 0 := fac_zero (by simp)
 generalize fac [z101, z99, z105] = g0 at *
 have k1_96 : fac [z98, z96, z112] = 0 → z96 = 0 := fac_zero (by simp)
 have k1_98 : fac [z98, z96, z112] = 0 → z98 = 0 := fac_zero (by simp)
 have k1_112 : fac [z98, z96, z112] = 0 → z112 = 0 := fac_zero (by simp)
 generalize fac [z98, z96, z112] = g1 at *
 subst_vars; grind
theorem lineDesargues_f10 {z0 z1 z2 z3 z4 z5 z6 z7 z8 z9 z10 z11 z12 z13 z14 z15 z16 z17 z18 z19 z20 z21 z22 z23 z24 z25 z26 z27 z28 z29 z30 z31 z32 z33 z34 z35 z36 z37 z38 z39 z40 z41 z42 z43 z44 z45 z46 z47 z48 z49 z50 z51 z52 z53 z54 z55 z56 z57 z58 z59 z60 z61 z62 z63 z64 z65 z66 z67 z68 z69 z70 z71 z72 z73 z74 z75 z76 z77 z78 z79 z80 z81 z82 z83 z84 z85 z86 z87 z88 z89 z90 z91 z92 z93 z94 z95 z96 z97 z98 z99 z100 z101 z102 z103 z104 z105 z106 z107 z108 z109 z110 z111 z112 z113 z114 z115 z116 z117 z118 z119 z120 z121 z122 z123 z124 z125 z126 z127 z137 z138 z139 z140 z141 z142 z143 z144 z145 z146 z147 z148 z149 z150 z151 z152 z153 : Rat} : z4 = z2 - z0 → z5 = z3 - z1 → z7 = z4 * z6 → z8 = z5 * z6 → z9 = 0 → z10 = z9 + z0 → z11 = z9 + z1 → z12 = z10 + z7 → z13 = z11 + z8 → z16 = z14 - z0 → z17 = z15 - z1 → z19 = z16 * z18 → z20 = z17 * z18 → z21 = z10 + z19 → z22 = z11 + z20 → z25 = z23 - z0 → z26 = z24 - z1 → z28 = z25 * z27 → z29 = z26 * z27 → z30 = z10 + z28 → z31 = z11 + z29 → z32 = z14 - z2 → z33 = z15 - z3 → z34 = -z33 → z35 = z21 - z12 → z36 = z22 - z13 → z37 = -z36 → z38 = z37 * z12 → z39 = z35 * z13 → z40 = z38 + z39 → z41 = -z40 → z42 = z37 * fac [z37, z35, z41] → z43 = z35 * fac [z37, z35, z41] → z44 = z41 * fac [z37, z35, z41] → z45 = z34 * z2 → z46 = z32 * z3 → z47 = z45 + z46 → z48 = -z47 → z49 = z34 * fac [z34, z32, z48] → z50 = z32 * fac [z34, z32, z48] → z51 = z48 * fac [z34, z32, z48] → z52 = z49 * z43 → z53 = z50 * z42 → z54 = z52 - z53 → z55 = z42 * z51 → z56 = z43 * z51 → z57 = z49 * z44 → z58 = z50 * z44 → z59 = z55 - z57 → z60 = z56 - z58 → z61 = -z60 → z62 = z61 / z54 → z63 = z59 / z54 → z64 = z23 - z14 → z65 = z24 - z15 → z66 = -z65 → z67 = z30 - z21 → z68 = z31 - z22 → z69 = -z68 → z70 = z69 * z21 → z71 = z67 * z22 → z72 = z70 + z71 → z73 = -z72 → z74 = z69 * fac [z69, z67, z73] → z75 = z67 * fac [z69, z67, z73] → z76 = z73 * fac [z69, z67, z73] → z77 = z66 * z14 → z78 = z64 * z15 → z79 = z77 + z78 → z80 = -z79 → z81 = z66 * fac [z66, z64, z80] → z82 = z64 * fac [z66, z64, z80] → z83 = z80 * fac [z66, z64, z80] → z84 = z81 * z75 → z85 = z82 * z74 → z86 = z84 - z85 → z87 = z74 * z83 → z88 = z75 * z83 → z89 = z81 * z76 → z90 = z82 * z76 → z91 = z87 - z89 → z92 = z88 - z90 → z93 = -z92 → z94 = z93 / z86 → z95 = z91 / z86 → z96 = z2 - z23 → z97 = z3 - z24 → z98 = -z97 → z99 = z12 - z30 → z100 = z13 - z31 → z101 = -z100 → z102 = z101 * z30 → z103 = z99 * z31 → z104 = z102 + z103 → z105 = -z104 → z106 = z101 * fac [z101, z99, z105] → z107 = z99 * fac [z101, z99, z105] → z108 = z105 * fac [z101, z99, z105] → z109 = z98 * z23 → z110 = z96 * z24 → z111 = z109 + z110 → z112 = -z111 → z113 = z98 * fac [z98, z96, z112] → z114 = z96 * fac [z98, z96, z112] → z115 = z112 * fac [z98, z96, z112] → z116 = z113 * z107 → z117 = z114 * z106 → z118 = z116 - z117 → z119 = z106 * z115 → z120 = z107 * z115 → z121 = z113 * z108 → z122 = z114 * z108 → z123 = z119 - z121 → z124 = z120 - z122 → z125 = -z124 → z126 = z125 / z118 → z127 = z123 / z118 → z137 = z23 - z2 → z138 = z24 - z3 → z139 = z32 * z138 → z140 = z33 * z137 → z141 = z139 - z140 → z142 = z30 - z12 → z143 = z31 - z13 → z144 = z35 * z143 → z145 = z36 * z142 → z146 = z144 - z145 → z147 = z94 - z62 → z148 = z95 - z63 → z149 = z126 - z62 → z150 = z127 - z63 → z151 = z147 * z150 → z152 = z148 * z149 → z153 = z151 - z152 → (¬ (z34 = 0 ∧ z32 = 0)) → (¬ (z37 = 0 ∧ z35 = 0)) → (¬ (z54 = 0)) → (¬ (z66 = 0 ∧ z64 = 0)) → (¬ (z69 = 0 ∧ z67 = 0)) → (¬ (z86 = 0)) → (¬ (z98 = 0 ∧ z96 = 0)) → (¬ (z101 = 0 ∧ z99 = 0)) → (¬ (z118 = 0)) → (¬ (z141 = 0)) → (¬ (z146 = 0)) → z153 = 0 := by
 intro e4 e5 e7 e8 e9 e10 e11 e12 e13 e16 e17 e19 e20 e21 e22 e25 e26 e28 e29 e30 e31 e32 e33 e34 e35 e36 e37 e38 e39 e40 e41 e42 e43 e44 e45 e46 e47 e48 e49 e50 e51 e52 e53 e54 e55 e56 e57 e58 e59 e60 e61 e62 e63 e64 e65 e66 e67 e68 e69 e70 e71 e72 e73 e74 e75 e76 e77 e78 e79 e80 e81 e82 e83 e84 e85 e86 e87 e88 e89 e90 e91 e92 e93 e94 e95 e96 e97 e98 e99 e100 e101 e102 e103 e104 e105 e106 e107 e108 e109 e110 e111 e112 e113 e114 e115 e116 e117 e118 e119 e120 e121 e122 e123 e124 e125 e126 e127 e137 e138 e139 e140 e141 e142 e143 e144 e145 e146 e147 e148 e149 e150 e151 e152 e153 u0 u1 u2 u3 u4 u5 u6 u7 u8 u9 u10
 generalize fac [z37, z35, z41] = g0 at *
 generalize fac [z34, z32, z48] = g1 at *
 generalize fac [z69, z67, z73] = g2 at *
 generalize fac [z66, z64, z80] = g3 at *
 generalize fac [z101, z99, z105] = g4 at *
 generalize fac [z98, z96, z112] = g5 at *
 have t37 := pl_1 z37
 obtain ⟨s0, hs0⟩ : ∃ s, s = 1 * g0 := ⟨_, rfl⟩
 have t42 := pl_8 t37 e42 hs0
 have t35 := pl_1 z35
 have t43 := pl_8 t35 e43 hs0
 have t41 := pl_1 z41
 have t44 := pl_8 t41 e44 hs0
 have t34 := pl_1 z34
 obtain ⟨s1, hs1⟩ : ∃ s, s = 1 * g1 := ⟨_, rfl⟩
 have t49 := pl_8 t34 e49 hs1
 have t32 := pl_1 z32
 have t50 := pl_8 t32 e50 hs1
 have t48 := pl_1 z48
 have t51 := pl_8 t48 e51 hs1
 obtain ⟨s2, hs2⟩ : ∃ s, s = s1 * s0 := ⟨_, rfl⟩
 obtain ⟨p52, hp52⟩ : ∃ p, p = z34 * z35 := ⟨_, rfl⟩
 have t52 := pl_m t49 t43 e52 hp52 hs2
 obtain ⟨p53, hp53⟩ : ∃ p, p = z32 * z37 := ⟨_, rfl⟩
 have t53 := pl_m t50 t42 e53 hp53 hs2
 obtain ⟨p54, hp54⟩ : ∃ p, p = p52 - p53 := ⟨_, rfl⟩
 have t54 := pl_s t52 t53 e54 hp54
 obtain ⟨p55, hp55⟩ : ∃ p, p = z37 * z48 := ⟨_, rfl⟩
 have t55 := pl_w t42 t51 e55 hp55 hs2
 obtain ⟨p56, hp56⟩ : ∃ p, p = z35 * z48 := ⟨_, rfl⟩
 have t56 := pl_w t43 t51 e56 hp56 hs2
 obtain ⟨p57, hp57⟩ : ∃ p, p = z34 * z41 := ⟨_, rfl⟩
 have t57 := pl_m t49 t44 e57 hp57 hs2
 obtain ⟨p58, hp58⟩ : ∃ p, p = z32 * z41 := ⟨_, rfl⟩
 have t58 := pl_m t50 t44 e58 hp58 hs2
 obtain ⟨p59, hp59⟩ : ∃ p, p = p55 - p57 := ⟨_, rfl⟩
 have t59 := pl_s t55 t57 e59 hp59
 obtain ⟨p60, hp60⟩ : ∃ p, p = p56 - p58 := ⟨_, rfl⟩
 have t60 := pl_s t56 t58 e60 hp60
 obtain ⟨p61, hp61⟩ : ∃ p, p = -p60 := ⟨_, rfl⟩
 have t61 := pl_n t60 e61 hp61
 have t69 := pl_1 z69
 obtain ⟨s3, hs3⟩ : ∃ s, s = 1 * g2 := ⟨_, rfl⟩
 have t74 := pl_8 t69 e74 hs3
 have t67 := pl_1 z67
 have t75 := pl_8 t67 e75 hs3
 have t73 := pl_1 z73
 have t76 := pl_8 t73 e76 hs3
 have t66 := pl_1 z66
 obtain ⟨s4, hs4⟩ : ∃ s, s = 1 * g3 := ⟨_, rfl⟩
 have t81 := pl_8 t66 e81 hs4
 have t64 := pl_1 z64
 have t82 := pl_8 t64 e82 hs4
 have t80 := pl_1 z80
 have t83 := pl_8 t80 e83 hs4
 obtain ⟨s5, hs5⟩ : ∃ s, s = s4 * s3 := ⟨_, rfl⟩
 obtain ⟨p84, hp84⟩ : ∃ p, p = z66 * z67 := ⟨_, rfl⟩
 have t84 := pl_m t81 t75 e84 hp84 hs5
 obtain ⟨p85, hp85⟩ : ∃ p, p = z64 * z69 := ⟨_, rfl⟩
 have t85 := pl_m t82 t74 e85 hp85 hs5
 obtain ⟨p86, hp86⟩ : ∃ p, p = p84 - p85 := ⟨_, rfl⟩
 have t86 := pl_s t84 t85 e86 hp86
 obtain ⟨p87, hp87⟩ : ∃ p, p = z69 * z80 := ⟨_, rfl⟩
 have t87 := pl_w t74 t83 e87 hp87 hs5
 obtain ⟨p88, hp88⟩ : ∃ p, p = z67 * z80 := ⟨_, rfl⟩
 have t88 := pl_w t75 t83 e88 hp88 hs5
 obtain ⟨p89, hp89⟩ : ∃ p, p = z66 * z73 := ⟨_, rfl⟩
 have t89 := pl_m t81 t76 e89 hp89 hs5
 obtain ⟨p90, hp90⟩ : ∃ p, p = z64 * z73 := ⟨_, rfl⟩
 have t90 := pl_m t82 t76 e90 hp90 hs5
 obtain ⟨p91, hp91⟩ : ∃ p, p = p87 - p89 := ⟨_, rfl⟩
 have t91 := pl_s t87 t89 e91 hp91
 obtain ⟨p92, hp92⟩ : ∃ p, p = p88 - p90 := ⟨_, rfl⟩
 have t92 := pl_s t88 t90 e92 hp92
 obtain ⟨p93, hp93⟩ : ∃ p, p = -p92 := ⟨_, rfl⟩
 have t93 := pl_n t92 e93 hp93
 have t101 := pl_1 z101
 obtain ⟨s6, hs6⟩ : ∃ s, s = 1 * g4 := ⟨_, rfl⟩
 have t106 := pl_8 t101 e106 hs6
 have t99 := pl_1 z99
 have t107 := pl_8 t99 e107 hs6
 have t105 := pl_1 z105
 have t108 := pl_8 t105 e108 hs6
 have t98 := pl_1 z98
 obtain ⟨s7, hs7⟩ : ∃ s, s = 1 * g5 := ⟨_, rfl⟩
 have t113 := pl_8 t98 e113 hs7
 have t96 := pl_1 z96
 have t114 := pl_8 t96 e114 hs7
 have t112 := pl_1 z112
 have t115 := pl_8 t112 e115 hs7
 obtain ⟨s8, hs8⟩ : ∃ s, s = s7 * s6 := ⟨_, rfl⟩
 obtain ⟨p116, hp116⟩ : ∃ p, p = z98 * z99 := ⟨_, rfl⟩
 have t116 := pl_m t113 t107 e116 hp116 hs8
 obtain ⟨p117, hp117⟩ : ∃ p, p = z96 * z101 := ⟨_, rfl⟩
 have t117 := pl_m t114 t106 e117 hp117 hs8
 obtain ⟨p118, hp118⟩ : ∃ p, p = p116 - p117 := ⟨_, rfl⟩
 have t118 := pl_s t116 t117 e118 hp118
 obtain ⟨p119, hp119⟩ : ∃ p, p = z101 * z112 := ⟨_, rfl⟩
 have t119 := pl_w t106 t115 e119 hp119 hs8
 obtain ⟨p120, hp120⟩ : ∃ p, p = z99 * z112 := ⟨_, rfl⟩
 have t120 := pl_w t107 t115 e120 hp120 hs8
 obtain ⟨p121, hp121⟩ : ∃ p, p = z98 * z105 := ⟨_, rfl⟩
 have t121 := pl_m t113 t108 e121 hp121 hs8
 obtain ⟨p122, hp122⟩ : ∃ p, p = z96 * z105 := ⟨_, rfl⟩
 have t122 := pl_m t114 t108 e122 hp122 hs8
 obtain ⟨p123, hp123⟩ : ∃ p, p = p119 - p121 := ⟨_, rfl⟩
 have t123 := pl_s t119 t121 e123 hp123
 obtain ⟨p124, hp124⟩ : ∃ p, p = p120 - p122 := ⟨_, rfl⟩
 have t124 := pl_s t120 t122 e124 hp124
 obtain ⟨p125, hp125⟩ : ∃ p, p = -p124 := ⟨_, rfl⟩
 have t125 := pl_n t124 e125 hp125
 have ⟨fx62, fw54⟩ := lp_q t61 t54 e62 u2
 have ⟨fy63, _⟩ := lp_q t59 t54 e63 u2
 have ⟨fx94, fw86⟩ := lp_q t93 t86 e94 u5
 have ⟨fy95, _⟩ := lp_q t91 t86 e95 u5
 have ⟨fx126, fw118⟩ := lp_q t125 t118 e126 u8
 have ⟨fy127, _⟩ := lp_q t123 t118 e127 u8
 have hd := ds_main (o1 := z0) (o2 := z1) (o3 := 1) (t1 := z2) (t2 := z3) (t3 := 1) (u1 := z14) (u2 := z15) (u3 := 1) (v1 := z23) (v2 := z24) (v3 := 1) (p1 := z12) (p2 := z13) (p3 := 1) (q1 := z21) (q2 := z22) (q3 := 1) (r1 := z30) (r2 := z31) (r3 := 1) (A01 := z34) (A02 := z32) (A03 := z48) (B01 := z37) (B02 := z35) (B03 := z41) (C01 := p61) (C02 := p59) (C03 := p54) (A11 := z66) (A12 := z64) (A13 := z80) (B11 := z69) (B12 := z67) (B13 := z73) (C11 := p93) (C12 := p91) (C13 := p86) (A21 := z98) (A22 := z96) (A23 := z112) (B21 := z101) (B22 := z99) (B23 := z105) (C21 := p125) (C22 := p123) (C23 := p118) (k0 := 1 - z6) (k1 := 1 - z18) (k2 := 1 - z27) (n0 := z6) (n1 := z18) (n2 := z27) (by rw [e12, e10, e9, e7, e4]; exact lp_f _ _ _) (by rw [e13, e11, e9, e8, e5]; exact lp_f _ _ _) (lp_g _) (by rw [e21, e10, e9, e19, e16]; exact lp_f _ _ _) (by rw [e22, e11, e9, e20, e17]; exact lp_f _ _ _) (lp_g _) (by rw [e30, e10, e9, e28, e25]; exact lp_f _ _ _) (by rw [e31, e11, e9, e29, e26]; exact lp_f _ _ _) (lp_g _) (by rw [e34, e33]; exact lp_a _ _) (by rw [e32]; exact lp_b _ _) (by rw [e48, e47, e45, e46, e34, e33, e32]; exact lp_c _ _ _ _) (by rw [e37, e36]; exact lp_a _ _) (by rw [e35]; exact lp_b _ _) (by rw [e41, e40, e38, e39, e37, e36, e35]; exact lp_c _ _ _ _) (by rw [hp61, hp60, hp56, hp58]; exact lp_d _ _ _ _) (by rw [hp59, hp55, hp57]; exact lp_e _ _ _ _) (by rw [hp54, hp52, hp53]) (by rw [e66, e65]; exact lp_a _ _) (by rw [e64]; exact lp_b _ _) (by rw [e80, e79, e77, e78, e66, e65, e64]; exact lp_c _ _ _ _) (by rw [e69, e68]; exact lp_a _ _) (by rw [e67]; exact lp_b _ _) (by rw [e73, e72, e70, e71, e69, e68, e67]; exact lp_c _ _ _ _) (by rw [hp93, hp92, hp88, hp90]; exact lp_d _ _ _ _) (by rw [hp91, hp87, hp89]; exact lp_e _ _ _ _) (by rw [hp86, hp84, hp85]) (by rw [e98, e97]; exact lp_a _ _) (by rw [e96]; exact lp_b _ _) (by rw [e112, e111, e109, e110, e98, e97, e96]; exact lp_c _ _ _ _) (by rw [e101, e100]; exact lp_a _ _) (by rw [e99]; exact lp_b _ _) (by rw [e105, e104, e102, e103, e101, e100, e99]; exact lp_c _ _ _ _) (by rw [hp125, hp124, hp120, hp122]; exact lp_d _ _ _ _) (by rw [hp123, hp119, hp121]; exact lp_e _ _ _ _) (by rw [hp118, hp116, hp117])
 rw [e153, e151, e152, e147, e148, e149, e150]
 exact lp_turn fw54 fw86 fw118 fx62 fy63 fx94 fy95 fx126 fy127 hd
theorem lineDesargues_r0 : (callB (sx Tryz.prog lineDesargues_N [(6, 34, 32, 1), (6, 37, 35, 1)] [] lineDesargues_L lineDesargues_C lineDesargues_Z (prQ [41])) 5 7 [(false, [(true, [.inr (2, 0, 0, 0, 0), .inr (2, 1, 0, 0, 0)])]), (false, [(true, [.inr (2, 2, 0, 0, 0), .inr (2, 3, 0, 0, 0)])]), (false, [(true, [.inr (2, 4, 0, 0, 0), .inr (2, 5, 0, 0, 0)])]), (false, [(true, [.inr (2, 6, 0, 0, 0), .inr (2, 7, 0, 0, 0)])]), (false, [(false, [.inr (2, 8, 0, 0, 0)])]), (false, [(false, [.inr (2, 9, 0, 0, 0)])]), (false, [(false, [.inr (2, 10, 0, 0, 0)])])] [] 0).map (·.1) = some (kB true) := by kernel_rfl
theorem lineDesargues_r1 : (callB (sx Tryz.prog lineDesargues_N [(6, 34, 32, 1), (6, 37, 35, 0)] [] lineDesargues_L lineDesargues_C lineDesargues_Z (prQ [41])) 6 7 [(false, [(true, [.inr (2, 0, 0, 0, 0), .inr (2, 1, 0, 0, 0)])]), (false, [(true, [.inr (2, 2, 0, 0, 0), .inr (2, 3, 0, 0, 0)])]), (false, [(true, [.inr (2, 4, 0, 0, 0), .inr (2, 5, 0, 0, 0)])]), (false, [(true, [.inr (2, 6, 0, 0, 0), .inr (2, 7, 0, 0, 0)])]), (false, [(false, [.inr (2, 8, 0, 0, 0)])]), (false, [(false, [.inr (2, 9, 0, 0, 0)])]), (false, [(false, [.inr (2, 10, 0, 0, 0)])])] [] 0).map (·.1) = some (kB true) := by kernel_rfl
theorem lineDesargues_r2 : (callB (sx Tryz.prog lineDesargues_N [(6, 34, 32, 0), (6, 37, 35, 1)] [] lineDesargues_L lineDesargues_C lineDesargues_Z (prQ [41])) 6 7 [(false, [(true, [.inr (2, 0, 0, 0, 0), .inr (2, 1, 0, 0, 0)])]), (false, [(true, [.inr (2, 2, 0, 0, 0), .inr (2, 3, 0, 0, 0)])]), (false, [(true, [.inr (2, 4, 0, 0, 0), .inr (2, 5, 0, 0, 0)])]), (false, [(true, [.inr (2, 6, 0, 0, 0), .inr (2, 7, 0, 0, 0)])]), (false, [(false, [.inr (2, 8, 0, 0, 0)])]), (false, [(false, [.inr (2, 9, 0, 0, 0)])]), (false, [(false, [.inr (2, 10, 0, 0, 0)])])] [] 0).map (·.1) = some (kB true) := by kernel_rfl
theorem lineDesargues_r3 : (callB (sx Tryz.prog lineDesargues_N [(6, 34, 32, 0), (6, 37, 35, 0), (6, 49, 50, 0), (6, 42, 43, 0), (0, 54, 0, 1), (6, 59, 60, 1)] [] lineDesargues_L lineDesargues_C lineDesargues_Z (prQ [41])) 6 7 [(false, [(true, [.inr (2, 0, 0, 0, 0), .inr (2, 1, 0, 0, 0)])]), (false, [(true, [.inr (2, 2, 0, 0, 0), .inr (2, 3, 0, 0, 0)])]), (false, [(true, [.inr (2, 4, 0, 0, 0), .inr (2, 5, 0, 0, 0)])]), (false, [(true, [.inr (2, 6, 0, 0, 0), .inr (2, 7, 0, 0, 0)])]), (false, [(false, [.inr (2, 8, 0, 0, 0)])]), (false, [(false, [.inr (2, 9, 0, 0, 0)])]), (false, [(false, [.inr (2, 10, 0, 0, 0)])])] [] 0).map (·.1) = some (kB true) := by kernel_rfl
theorem lineDesargues_r4 : (callB (sx Tryz.prog lineDesargues_N [(6, 34, 32, 0), (6, 37, 35, 0), (6, 49, 50, 0), (6, 42, 43, 0), (0, 54, 0, 1), (6, 59, 60, 0)] [] lineDesargues_L lineDesargues_C lineDesargues_Z (prQ [41])) 6 7 [(false, [(true, [.inr (2, 0, 0, 0, 0), .inr (2, 1, 0, 0, 0)])]), (false, [(true, [.inr (2, 2, 0, 0, 0), .inr (2, 3, 0, 0, 0)])]), (false, [(true, [.inr (2, 4, 0, 0, 0), .inr (2, 5, 0, 0, 0)])]), (false, [(true, [.inr (2, 6, 0, 0, 0), .inr (2, 7, 0, 0, 0)])]), (false, [(false, [.inr (2, 8, 0, 0, 0)])]), (false, [(false, [.inr (2, 9, 0, 0, 0)])]), (false, [(false, [.inr (2, 10, 0, 0, 0)])])] [] 0).map (·.1) = some (kB true) := by kernel_rfl
theorem lineDesargues_r5 : (callB (sx Tryz.prog lineDesargues_N [(6, 34, 32, 0), (6, 37, 35, 0), (6, 49, 50, 0), (6, 42, 43, 0), (0, 54, 0, 0), (6, 66, 64, 1), (6, 69, 67, 1)] [] lineDesargues_L lineDesargues_C lineDesargues_Z (prQ [41])) 6 7 [(false, [(true, [.inr (2, 0, 0, 0, 0), .inr (2, 1, 0, 0, 0)])]), (false, [(true, [.inr (2, 2, 0, 0, 0), .inr (2, 3, 0, 0, 0)])]), (false, [(true, [.inr (2, 4, 0, 0, 0), .inr (2, 5, 0, 0, 0)])]), (false, [(true, [.inr (2, 6, 0, 0, 0), .inr (2, 7, 0, 0, 0)])]), (false, [(false, [.inr (2, 8, 0, 0, 0)])]), (false, [(false, [.inr (2, 9, 0, 0, 0)])]), (false, [(false, [.inr (2, 10, 0, 0, 0)])])] [] 0).map (·.1) = some (kB true) := by kernel_rfl
theorem lineDesargues_r6 : (callB (sx Tryz.prog lineDesargues_N [(6, 34, 32, 0), (6, 37, 35, 0), (6, 49, 50, 0), (6, 42, 43, 0), (0, 54, 0, 0), (6, 66, 64, 1), (6, 69, 67, 0)] [] lineDesargues_L lineDesargues_C lineDesargues_Z (prQ [41])) 6 7 [(false, [(true, [.inr (2, 0, 0, 0, 0), .inr (2, 1, 0, 0, 0)])]), (false, [(true, [.inr (2, 2, 0, 0, 0), .inr (2, 3, 0, 0, 0)])]), (false, [(true, [.inr (2, 4, 0, 0, 0), .inr (2, 5, 0, 0, 0)])]), (false, [(true, [.inr (2, 6, 0, 0, 0), .inr (2, 7, 0, 0, 0)])]), (false, [(false, [.inr (2, 8, 0, 0, 0)])]), (false, [(false, [.inr (2, 9, 0, 0, 0)])]), (false, [(false, [.inr (2, 10, 0, 0, 0)])])] [] 0).map (·.1) = some (kB true) := by kernel_rfl
theorem lineDesargues_r7 : (callB (sx Tryz.prog lineDesargues_N [(6, 34, 32, 0), (6, 37, 35, 0), (6, 49, 50, 0), (6, 42, 43, 0), (0, 54, 0, 0), (6, 66, 64, 0), (6, 69, 67, 1)] [] lineDesargues_L lineDesargues_C lineDesargues_Z (prQ [41])) 6 7 [(false, [(true, [.inr (2, 0, 0, 0, 0), .inr (2, 1, 0, 0, 0)])]), (false, [(true, [.inr (2, 2, 0, 0, 0), .inr (2, 3, 0, 0, 0)])]), (false, [(true, [.inr (2, 4, 0, 0, 0), .inr (2, 5, 0, 0, 0)])]), (false, [(true, [.inr (2, 6, 0, 0, 0), .inr (2, 7, 0, 0, 0)])]), (false, [(false, [.inr (2, 8, 0, 0, 0)])]), (false, [(false, [.inr (2, 9, 0, 0, 0)])]), (false, [(false, [.inr (2, 10, 0, 0, 0)])])] [] 0).map (·.1) = some (kB true) := by kernel_rfl
theorem lineDesargues_r8 : (callB (sx Tryz.prog lineDesargues_N [(6, 34, 32, 0), (6, 37, 35, 0), (6, 49, 50, 0), (6, 42, 43, 0), (0, 54, 0, 0), (6, 66, 64, 0), (6, 69, 67, 0), (6, 81, 82, 0), (6, 74, 75, 0), (0, 86, 0, 1), (6, 91, 92, 1)] [] lineDesargues_L lineDesargues_C lineDesargues_Z (prQ [41])) 6 7 [(false, [(true, [.inr (2, 0, 0, 0, 0), .inr (2, 1, 0, 0, 0)])]), (false, [(true, [.inr (2, 2, 0, 0, 0), .inr (2, 3, 0, 0, 0)])]), (false, [(true, [.inr (2, 4, 0, 0, 0), .inr (2, 5, 0, 0, 0)])]), (false, [(true, [.inr (2, 6, 0, 0, 0), .inr (2, 7, 0, 0, 0)])]), (false, [(false, [.inr (2, 8, 0, 0, 0)])]), (false, [(false, [.inr (2, 9, 0, 0, 0)])]), (false, [(false, [.inr (2, 10, 0, 0, 0)])])] [] 0).map (·.1) = some (kB true) := by kernel_rfl
theorem lineDesargues_r9 : (callB (sx Tryz.prog lineDesargues_N [(6, 34, 32, 0), (6, 37, 35, 0), (6, 49, 50, 0), (6, 42, 43, 0), (0, 54, 0, 0), (6, 66, 64, 0), (6, 69, 67, 0), (6, 81, 82, 0), (6, 74, 75, 0), (0, 86, 0, 1), (6, 91, 92, 0)] [] lineDesargues_L lineDesargues_C lineDesargues_Z (prQ [41])) 6 7 [(false, [(true, [.inr (2, 0, 0, 0, 0), .inr (2, 1, 0, 0, 0)])]), (false, [(true, [.inr (2, 2, 0, 0, 0), .inr (2, 3, 0, 0, 0)])]), (false, [(true, [.inr (2, 4, 0, 0, 0), .inr (2, 5, 0, 0, 0)])]), (false, [(true, [.inr (2, 6, 0, 0, 0), .inr (2, 7, 0, 0, 0)])]), (false, [(false, [.inr (2, 8, 0, 0, 0)])]), (false, [(false, [.inr (2, 9, 0, 0, 0)])]), (false, [(false, [.inr (2, 10, 0, 0, 0)])])] [] 0).map (·.1) = some (kB true) := by kernel_rfl
theorem lineDesargues_r10 : (callB (sx Tryz.prog lineDesargues_N [(6, 34, 32, 0), (6, 37, 35, 0), (6, 49, 50, 0), (6, 42, 43, 0), (0, 54, 0, 0), (6, 66, 64, 0), (6, 69, 67, 0), (6, 81, 82, 0), (6, 74, 75, 0), (0, 86, 0, 0), (6, 98, 96, 1), (6, 101, 99, 1)] [] lineDesargues_L lineDesargues_C lineDesargues_Z (prQ [41])) 6 7 [(false, [(true, [.inr (2, 0, 0, 0, 0), .inr (2, 1, 0, 0, 0)])]), (false, [(true, [.inr (2, 2, 0, 0, 0), .inr (2, 3, 0, 0, 0)])]), (false, [(true, [.inr (2, 4, 0, 0, 0), .inr (2, 5, 0, 0, 0)])]), (false, [(true, [.inr (2, 6, 0, 0, 0), .inr (2, 7, 0, 0, 0)])]), (false, [(false, [.inr (2, 8, 0, 0, 0)])]), (false, [(false, [.inr (2, 9, 0, 0, 0)])]), (false, [(false, [.inr (2, 10, 0, 0, 0)])])] [] 0).map (·.1) = some (kB true) := by kernel_rfl
theorem lineDesargues_r11 : (callB (sx Tryz.prog lineDesargues_N [(6, 34, 32, 0), (6, 37, 35, 0), (6, 49, 50, 0), (6, 42, 43, 0), (0, 54, 0, 0), (6, 66, 64, 0), (6, 69, 67, 0), (6, 81, 82, 0), (6, 74, 75, 0), (0, 86, 0, 0), (6, 98, 96, 1), (6, 101, 99, 0)] [] lineDesargues_L lineDesargues_C lineDesargues_Z (prQ [41])) 6 7 [(false, [(true, [.inr (2, 0, 0, 0, 0), .inr (2, 1, 0, 0, 0)])]), (false, [(true, [.inr (2, 2, 0, 0, 0), .inr (2, 3, 0, 0, 0)])]), (false, [(true, [.inr (2, 4, 0, 0, 0), .inr (2, 5, 0, 0, 0)])]), (false, [(true, [.inr (2, 6, 0, 0, 0), .inr (2, 7, 0, 0, 0)])]), (false, [(false, [.inr (2, 8, 0, 0, 0)])]), (false, [(false, [.inr (2, 9, 0, 0, 0)])]), (false, [(false, [.inr (2, 10, 0, 0, 0)])])] [] 0).map (·.1) = some (kB true) := by kernel_rfl
theorem lineDesargues_r12 : (callB (sx Tryz.prog lineDesargues_N [(6, 34, 32, 0), (6, 37, 35, 0), (6, 49, 50, 0), (6, 42, 43, 0), (0, 54, 0, 0), (6, 66, 64, 0), (6, 69, 67, 0), (6, 81, 82, 0), (6, 74, 75, 0), (0, 86, 0, 0), (6, 98, 96, 0), (6, 101, 99, 1)] [] lineDesargues_L lineDesargues_C lineDesargues_Z (prQ [41])) 6 7 [(false, [(true, [.inr (2, 0, 0, 0, 0), .inr (2, 1, 0, 0, 0)])]), (false, [(true, [.inr (2, 2, 0, 0, 0), .inr (2, 3, 0, 0, 0)])]), (false, [(true, [.inr (2, 4, 0, 0, 0), .inr (2, 5, 0, 0, 0)])]), (false, [(true, [.inr (2, 6, 0, 0, 0), .inr (2, 7, 0, 0, 0)])]), (false, [(false, [.inr (2, 8, 0, 0, 0)])]), (false, [(false, [.inr (2, 9, 0, 0, 0)])]), (false, [(false, [.inr (2, 10, 0, 0, 0)])])] [] 0).map (·.1) = some (kB true) := by kernel_rfl
theorem lineDesargues_r13 : (callB (sx Tryz.prog lineDesargues_N [(6, 34, 32, 0), (6, 37, 35, 0), (6, 49, 50, 0), (6, 42, 43, 0), (0, 54, 0, 0), (6, 66, 64, 0), (6, 69, 67, 0), (6, 81, 82, 0), (6, 74, 75, 0), (0, 86, 0, 0), (6, 98, 96, 0), (6, 101, 99, 0), (6, 113, 114, 0), (6, 106, 107, 0), (0, 118, 0, 1), (6, 123, 124, 1)] [] lineDesargues_L lineDesargues_C lineDesargues_Z (prQ [41])) 6 7 [(false, [(true, [.inr (2, 0, 0, 0, 0), .inr (2, 1, 0, 0, 0)])]), (false, [(true, [.inr (2, 2, 0, 0, 0), .inr (2, 3, 0, 0, 0)])]), (false, [(true, [.inr (2, 4, 0, 0, 0), .inr (2, 5, 0, 0, 0)])]), (false, [(true, [.inr (2, 6, 0, 0, 0), .inr (2, 7, 0, 0, 0)])]), (false, [(false, [.inr (2, 8, 0, 0, 0)])]), (false, [(false, [.inr (2, 9, 0, 0, 0)])]), (false, [(false, [.inr (2, 10, 0, 0, 0)])])] [] 0).map (·.1) = some (kB true) := by kernel_rfl
theorem lineDesargues_r14 : (callB (sx Tryz.prog lineDesargues_N [(6, 34, 32, 0), (6, 37, 35, 0), (6, 49, 50, 0), (6, 42, 43, 0), (0, 54, 0, 0), (6, 66, 64, 0), (6, 69, 67, 0), (6, 81, 82, 0), (6, 74, 75, 0), (0, 86, 0, 0), (6, 98, 96, 0), (6, 101, 99, 0), (6, 113, 114, 0), (6, 106, 107, 0), (0, 118, 0, 1), (6, 123, 124, 0)] [] lineDesargues_L lineDesargues_C lineDesargues_Z (prQ [41])) 6 7 [(false, [(true, [.inr (2, 0, 0, 0, 0), .inr (2, 1, 0, 0, 0)])]), (false, [(true, [.inr (2, 2, 0, 0, 0), .inr (2, 3, 0, 0, 0)])]), (false, [(true, [.inr (2, 4, 0, 0, 0), .inr (2, 5, 0, 0, 0)])]), (false, [(true, [.inr (2, 6, 0, 0, 0), .inr (2, 7, 0, 0, 0)])]), (false, [(false, [.inr (2, 8, 0, 0, 0)])]), (false, [(false, [.inr (2, 9, 0, 0, 0)])]), (false, [(false, [.inr (2, 10, 0, 0, 0)])])] [] 0).map (·.1) = some (kB true) := by kernel_rfl
theorem lineDesargues_r15 : (callB (sx Tryz.prog lineDesargues_N [(6, 34, 32, 0), (6, 37, 35, 0), (6, 49, 50, 0), (6, 42, 43, 0), (0, 54, 0, 0), (6, 66, 64, 0), (6, 69, 67, 0), (6, 81, 82, 0), (6, 74, 75, 0), (0, 86, 0, 0), (6, 98, 96, 0), (6, 101, 99, 0), (6, 113, 114, 0), (6, 106, 107, 0), (0, 118, 0, 0), (0, 130, 0, 0), (0, 133, 0, 0), (0, 136, 0, 0), (0, 141, 0, 1)] [] lineDesargues_L lineDesargues_C lineDesargues_Z (prQ [41])) 6 7 [(false, [(true, [.inr (2, 0, 0, 0, 0), .inr (2, 1, 0, 0, 0)])]), (false, [(true, [.inr (2, 2, 0, 0, 0), .inr (2, 3, 0, 0, 0)])]), (false, [(true, [.inr (2, 4, 0, 0, 0), .inr (2, 5, 0, 0, 0)])]), (false, [(true, [.inr (2, 6, 0, 0, 0), .inr (2, 7, 0, 0, 0)])]), (false, [(false, [.inr (2, 8, 0, 0, 0)])]), (false, [(false, [.inr (2, 9, 0, 0, 0)])]), (false, [(false, [.inr (2, 10, 0, 0, 0)])])] [] 0).map (·.1) = some (kB true) := by kernel_rfl
theorem lineDesargues_r16 : (callB (sx Tryz.prog lineDesargues_N [(6, 34, 32, 0), (6, 37, 35, 0), (6, 49, 50, 0), (6, 42, 43, 0), (0, 54, 0, 0), (6, 66, 64, 0), (6, 69, 67, 0), (6, 81, 82, 0), (6, 74, 75, 0), (0, 86, 0, 0), (6, 98, 96, 0), (6, 101, 99, 0), (6, 113, 114, 0), (6, 106, 107, 0), (0, 118, 0, 0), (0, 130, 0, 0), (0, 133, 0, 0), (0, 136, 0, 0), (0, 141, 0, 0), (0, 146, 0, 1)] [] lineDesargues_L lineDesargues_C lineDesargues_Z (prQ [41])) 6 7 [(false, [(true, [.inr (2, 0, 0, 0, 0), .inr (2, 1, 0, 0, 0)])]), (false, [(true, [.inr (2, 2, 0, 0, 0), .inr (2, 3, 0, 0, 0)])]), (false, [(true, [.inr (2, 4, 0, 0, 0), .inr (2, 5, 0, 0, 0)])]), (false, [(true, [.inr (2, 6, 0, 0, 0), .inr (2, 7, 0, 0, 0)])]), (false, [(false, [.inr (2, 8, 0, 0, 0)])]), (false, [(false, [.inr (2, 9, 0, 0, 0)])]), (false, [(false, [.inr (2, 10, 0, 0, 0)])])] [] 0).map (·.1) = some (kB true) := by kernel_rfl
theorem lineDesargues_r17 : (callB (sx Tryz.prog lineDesargues_N [(6, 34, 32, 0), (6, 37, 35, 0), (6, 49, 50, 0), (6, 42, 43, 0), (0, 54, 0, 0), (6, 66, 64, 0), (6, 69, 67, 0), (6, 81, 82, 0), (6, 74, 75, 0), (0, 86, 0, 0), (6, 98, 96, 0), (6, 101, 99, 0), (6, 113, 114, 0), (6, 106, 107, 0), (0, 118, 0, 0), (0, 130, 0, 0), (0, 133, 0, 0), (0, 136, 0, 0), (0, 141, 0, 0), (0, 146, 0, 0), (0, 153, 0, 1)] [] lineDesargues_L lineDesargues_C lineDesargues_Z (prQ [41])) 6 7 [(false, [(true, [.inr (2, 0, 0, 0, 0), .inr (2, 1, 0, 0, 0)])]), (false, [(true, [.inr (2, 2, 0, 0, 0), .inr (2, 3, 0, 0, 0)])]), (false, [(true, [.inr (2, 4, 0, 0, 0), .inr (2, 5, 0, 0, 0)])]), (false, [(true, [.inr (2, 6, 0, 0, 0), .inr (2, 7, 0, 0, 0)])]), (false, [(false, [.inr (2, 8, 0, 0, 0)])]), (false, [(false, [.inr (2, 9, 0, 0, 0)])]), (false, [(false, [.inr (2, 10, 0, 0, 0)])])] [] 0).map (·.1) = some (kB true) := by kernel_rfl
theorem lineDesargues_An {a b : Prop} (x : a) (y : b) : a ∧ b := ⟨x, y⟩
theorem lineDesargues_leaf {H : List (Nat × Nat × Nat × Nat)} {K : List (FuncId × List AC)} {k : Nat} {q : Nat → Rat} {σ : Nat → ByteArray} {args : List AV} {vs : List Value} {w : World} (hr : (callB (sx Tryz.prog lineDesargues_N H K lineDesargues_L lineDesargues_C lineDesargues_Z (prQ [41])) k 7 args [] 0).map (·.1) = some (kB true)) (hσ : ∀ j, (σ j).size ≤ 1048576) (hq : ∀ (a : Nat) nd, lineDesargues_N[a]? = some nd → q a = valN σ q nd) (h0 : ∀ a, lineDesargues_N.length ≤ a → q a = 0) (hH : hAll q H) (hp : PreS w) (hA : ∀ K, A2 (avOn (cOn (evS q σ) K (fun _ => none) w)) args vs) : Calls Tryz.prog 7 vs.toArray w fun e w' => Below w.heap.size w w' ∧ e = .returned (.bool true) :=
 run_toldQ' k (hy_ofW hσ lineDesargues_wf lineDesargues_sz lineDesargues_lt lineDesargues_cn hq h0 hH) (by simp [closed_lined]) (by kernel_rfl) hr hp (hA K)
theorem lineDesargues_walk {w : World} {ox oz ax az bx bz cx cz x y z : ByteArray} (sox : ox.size ≤ 1048576) (soz : oz.size ≤ 1048576) (sax : ax.size ≤ 1048576) (saz : az.size ≤ 1048576) (sbx : bx.size ≤ 1048576) (sbz : bz.size ≤ 1048576) (scx : cx.size ≤ 1048576) (scz : cz.size ≤ 1048576) (sx : x.size ≤ 1048576) (sy : y.size ≤ 1048576) (sz : z.size ≤ 1048576) (tab : Tab w) (mx : MaxL w) :
  Calls Tryz.prog 7 #[.agg #[.string ox, .string oz], .agg #[.string ax, .string az], .agg #[.string bx, .string bz], .agg #[.string cx, .string cz], .string x, .string y, .string z] w fun e w' => Below w.heap.size w w' ∧ e = .returned (.bool true) := by
 have hσ : ∀ j, (sgOf [ox, oz, ax, az, bx, bz, cx, cz, x, y, z] j).size ≤ 1048576 := sgOf_size (by simp [sox, soz, sax, saz, sbx, sbz, scx, scz, sx, sy, sz])
 obtain ⟨q, hq, h0⟩ := nodes_exist (sgOf [ox, oz, ax, az, bx, bz, cx, cz, x, y, z]) lineDesargues_N lineDesargues_wf
 have hA : ∀ K, A2 (avOn (cOn (evS q (sgOf [ox, oz, ax, az, bx, bz, cx, cz, x, y, z])) K (fun _ => none) w)) [(false, [(true, [.inr (2, 0, 0, 0, 0), .inr (2, 1, 0, 0, 0)])]), (false, [(true, [.inr (2, 2, 0, 0, 0), .inr (2, 3, 0, 0, 0)])]), (false, [(true, [.inr (2, 4, 0, 0, 0), .inr (2, 5, 0, 0, 0)])]), (false, [(true, [.inr (2, 6, 0, 0, 0), .inr (2, 7, 0, 0, 0)])]), (false, [(false, [.inr (2, 8, 0, 0, 0)])]), (false, [(false, [.inr (2, 9, 0, 0, 0)])]), (false, [(false, [.inr (2, 10, 0, 0, 0)])])] [.agg #[.string ox, .string oz], .agg #[.string ax, .string az], .agg #[.string bx, .string bz], .agg #[.string cx, .string cz], .string x, .string y, .string z] := fun K => ⟨⟨⟨[.string ox, .string oz], rfl, rfl, rfl, trivial⟩, trivial⟩, ⟨⟨[.string ax, .string az], rfl, rfl, rfl, trivial⟩, trivial⟩, ⟨⟨[.string bx, .string bz], rfl, rfl, rfl, trivial⟩, trivial⟩, ⟨⟨[.string cx, .string cz], rfl, rfl, rfl, trivial⟩, trivial⟩, ⟨⟨rfl, trivial⟩, trivial⟩, ⟨⟨rfl, trivial⟩, trivial⟩, ⟨⟨rfl, trivial⟩, trivial⟩, trivial⟩
 have E4 : q 4 = q 2 - q 0 := hq 4 _ rfl
 have E5 : q 5 = q 3 - q 1 := hq 5 _ rfl
 have E7 : q 7 = q 4 * q 6 := hq 7 _ rfl
 have E8 : q 8 = q 5 * q 6 := hq 8 _ rfl
 have E9 : q 9 = 0 := (hq 9 _ rfl).trans lineDesargues_c9
 have E10 : q 10 = q 9 + q 0 := hq 10 _ rfl
 have E11 : q 11 = q 9 + q 1 := hq 11 _ rfl
 have E12 : q 12 = q 10 + q 7 := hq 12 _ rfl
 have E13 : q 13 = q 11 + q 8 := hq 13 _ rfl
 have E16 : q 16 = q 14 - q 0 := hq 16 _ rfl
 have E17 : q 17 = q 15 - q 1 := hq 17 _ rfl
 have E19 : q 19 = q 16 * q 18 := hq 19 _ rfl
 have E20 : q 20 = q 17 * q 18 := hq 20 _ rfl
 have E21 : q 21 = q 10 + q 19 := hq 21 _ rfl
 have E22 : q 22 = q 11 + q 20 := hq 22 _ rfl
 have E25 : q 25 = q 23 - q 0 := hq 25 _ rfl
 have E26 : q 26 = q 24 - q 1 := hq 26 _ rfl
 have E28 : q 28 = q 25 * q 27 := hq 28 _ rfl
 have E29 : q 29 = q 26 * q 27 := hq 29 _ rfl
 have E30 : q 30 = q 10 + q 28 := hq 30 _ rfl
 have E31 : q 31 = q 11 + q 29 := hq 31 _ rfl
 have E32 : q 32 = q 14 - q 2 := hq 32 _ rfl
 have E33 : q 33 = q 15 - q 3 := hq 33 _ rfl
 have E34 : q 34 = -q 33 := hq 34 _ rfl
 have E35 : q 35 = q 21 - q 12 := hq 35 _ rfl
 have E36 : q 36 = q 22 - q 13 := hq 36 _ rfl
 have E37 : q 37 = -q 36 := hq 37 _ rfl
 have E38 : q 38 = q 37 * q 12 := hq 38 _ rfl
 have E39 : q 39 = q 35 * q 13 := hq 39 _ rfl
 have E40 : q 40 = q 38 + q 39 := hq 40 _ rfl
 have E41 : q 41 = -q 40 := hq 41 _ rfl
 have E42 : q 42 = q 37 * fac [q 37, q 35, q 41] := hq 42 _ rfl
 have E43 : q 43 = q 35 * fac [q 37, q 35, q 41] := hq 43 _ rfl
 have E44 : q 44 = q 41 * fac [q 37, q 35, q 41] := hq 44 _ rfl
 have E45 : q 45 = q 34 * q 2 := hq 45 _ rfl
 have E46 : q 46 = q 32 * q 3 := hq 46 _ rfl
 have E47 : q 47 = q 45 + q 46 := hq 47 _ rfl
 have E48 : q 48 = -q 47 := hq 48 _ rfl
 have E49 : q 49 = q 34 * fac [q 34, q 32, q 48] := hq 49 _ rfl
 have E50 : q 50 = q 32 * fac [q 34, q 32, q 48] := hq 50 _ rfl
 have E51 : q 51 = q 48 * fac [q 34, q 32, q 48] := hq 51 _ rfl
 have E52 : q 52 = q 49 * q 43 := hq 52 _ rfl
 have E53 : q 53 = q 50 * q 42 := hq 53 _ rfl
 have E54 : q 54 = q 52 - q 53 := hq 54 _ rfl
 have E55 : q 55 = q 42 * q 51 := hq 55 _ rfl
 have E56 : q 56 = q 43 * q 51 := hq 56 _ rfl
 have E57 : q 57 = q 49 * q 44 := hq 57 _ rfl
 have E58 : q 58 = q 50 * q 44 := hq 58 _ rfl
 have E59 : q 59 = q 55 - q 57 := hq 59 _ rfl
 have E60 : q 60 = q 56 - q 58 := hq 60 _ rfl
 have E61 : q 61 = -q 60 := hq 61 _ rfl
 have E62 : q 62 = q 61 / q 54 := hq 62 _ rfl
 have E63 : q 63 = q 59 / q 54 := hq 63 _ rfl
 have E64 : q 64 = q 23 - q 14 := hq 64 _ rfl
 have E65 : q 65 = q 24 - q 15 := hq 65 _ rfl
 have E66 : q 66 = -q 65 := hq 66 _ rfl
 have E67 : q 67 = q 30 - q 21 := hq 67 _ rfl
 have E68 : q 68 = q 31 - q 22 := hq 68 _ rfl
 have E69 : q 69 = -q 68 := hq 69 _ rfl
 have E70 : q 70 = q 69 * q 21 := hq 70 _ rfl
 have E71 : q 71 = q 67 * q 22 := hq 71 _ rfl
 have E72 : q 72 = q 70 + q 71 := hq 72 _ rfl
 have E73 : q 73 = -q 72 := hq 73 _ rfl
 have E74 : q 74 = q 69 * fac [q 69, q 67, q 73] := hq 74 _ rfl
 have E75 : q 75 = q 67 * fac [q 69, q 67, q 73] := hq 75 _ rfl
 have E76 : q 76 = q 73 * fac [q 69, q 67, q 73] := hq 76 _ rfl
 have E77 : q 77 = q 66 * q 14 := hq 77 _ rfl
 have E78 : q 78 = q 64 * q 15 := hq 78 _ rfl
 have E79 : q 79 = q 77 + q 78 := hq 79 _ rfl
 have E80 : q 80 = -q 79 := hq 80 _ rfl
 have E81 : q 81 = q 66 * fac [q 66, q 64, q 80] := hq 81 _ rfl
 have E82 : q 82 = q 64 * fac [q 66, q 64, q 80] := hq 82 _ rfl
 have E83 : q 83 = q 80 * fac [q 66, q 64, q 80] := hq 83 _ rfl
 have E84 : q 84 = q 81 * q 75 := hq 84 _ rfl
 have E85 : q 85 = q 82 * q 74 := hq 85 _ rfl
 have E86 : q 86 = q 84 - q 85 := hq 86 _ rfl
 have E87 : q 87 = q 74 * q 83 := hq 87 _ rfl
 have E88 : q 88 = q 75 * q 83 := hq 88 _ rfl
 have E89 : q 89 = q 81 * q 76 := hq 89 _ rfl
 have E90 : q 90 = q 82 * q 76 := hq 90 _ rfl
 have E91 : q 91 = q 87 - q 89 := hq 91 _ rfl
 have E92 : q 92 = q 88 - q 90 := hq 92 _ rfl
 have E93 : q 93 = -q 92 := hq 93 _ rfl
 have E94 : q 94 = q 93 / q 86 := hq 94 _ rfl
 have E95 : q 95 = q 91 / q 86 := hq 95 _ rfl
 have E96 : q 96 = q 2 - q 23 := hq 96 _ rfl
 have E97 : q 97 = q 3 - q 24 := hq 97 _ rfl
 have E98 : q 98 = -q 97 := hq 98 _ rfl
 have E99 : q 99 = q 12 - q 30 := hq 99 _ rfl
 have E100 : q 100 = q 13 - q 31 := hq 100 _ rfl
 have E101 : q 101 = -q 100 := hq 101 _ rfl
 have E102 : q 102 = q 101 * q 30 := hq 102 _ rfl
 have E103 : q 103 = q 99 * q 31 := hq 103 _ rfl
 have E104 : q 104 = q 102 + q 103 := hq 104 _ rfl
 have E105 : q 105 = -q 104 := hq 105 _ rfl
 have E106 : q 106 = q 101 * fac [q 101, q 99, q 105] := hq 106 _ rfl
 have E107 : q 107 = q 99 * fac [q 101, q 99, q 105] := hq 107 _ rfl
 have E108 : q 108 = q 105 * fac [q 101, q 99, q 105] := hq 108 _ rfl
 have E109 : q 109 = q 98 * q 23 := hq 109 _ rfl
 have E110 : q 110 = q 96 * q 24 := hq 110 _ rfl
 have E111 : q 111 = q 109 + q 110 := hq 111 _ rfl
 have E112 : q 112 = -q 111 := hq 112 _ rfl
 have E113 : q 113 = q 98 * fac [q 98, q 96, q 112] := hq 113 _ rfl
 have E114 : q 114 = q 96 * fac [q 98, q 96, q 112] := hq 114 _ rfl
 have E115 : q 115 = q 112 * fac [q 98, q 96, q 112] := hq 115 _ rfl
 have E116 : q 116 = q 113 * q 107 := hq 116 _ rfl
 have E117 : q 117 = q 114 * q 106 := hq 117 _ rfl
 have E118 : q 118 = q 116 - q 117 := hq 118 _ rfl
 have E119 : q 119 = q 106 * q 115 := hq 119 _ rfl
 have E120 : q 120 = q 107 * q 115 := hq 120 _ rfl
 have E121 : q 121 = q 113 * q 108 := hq 121 _ rfl
 have E122 : q 122 = q 114 * q 108 := hq 122 _ rfl
 have E123 : q 123 = q 119 - q 121 := hq 123 _ rfl
 have E124 : q 124 = q 120 - q 122 := hq 124 _ rfl
 have E125 : q 125 = -q 124 := hq 125 _ rfl
 have E126 : q 126 = q 125 / q 118 := hq 126 _ rfl
 have E127 : q 127 = q 123 / q 118 := hq 127 _ rfl
 have E128 : q 128 = q 4 * q 17 := hq 128 _ rfl
 have E129 : q 129 = q 5 * q 16 := hq 129 _ rfl
 have E130 : q 130 = q 128 - q 129 := hq 130 _ rfl
 have E131 : q 131 = q 16 * q 26 := hq 131 _ rfl
 have E132 : q 132 = q 17 * q 25 := hq 132 _ rfl
 have E133 : q 133 = q 131 - q 132 := hq 133 _ rfl
 have E134 : q 134 = q 25 * q 5 := hq 134 _ rfl
 have E135 : q 135 = q 26 * q 4 := hq 135 _ rfl
 have E136 : q 136 = q 134 - q 135 := hq 136 _ rfl
 have E137 : q 137 = q 23 - q 2 := hq 137 _ rfl
 have E138 : q 138 = q 24 - q 3 := hq 138 _ rfl
 have E139 : q 139 = q 32 * q 138 := hq 139 _ rfl
 have E140 : q 140 = q 33 * q 137 := hq 140 _ rfl
 have E141 : q 141 = q 139 - q 140 := hq 141 _ rfl
 have E142 : q 142 = q 30 - q 12 := hq 142 _ rfl
 have E143 : q 143 = q 31 - q 13 := hq 143 _ rfl
 have E144 : q 144 = q 35 * q 143 := hq 144 _ rfl
 have E145 : q 145 = q 36 * q 142 := hq 145 _ rfl
 have E146 : q 146 = q 144 - q 145 := hq 146 _ rfl
 have E147 : q 147 = q 94 - q 62 := hq 147 _ rfl
 have E148 : q 148 = q 95 - q 63 := hq 148 _ rfl
 have E149 : q 149 = q 126 - q 62 := hq 149 _ rfl
 have E150 : q 150 = q 127 - q 63 := hq 150 _ rfl
 have E151 : q 151 = q 147 * q 150 := hq 151 _ rfl
 have E152 : q 152 = q 148 * q 149 := hq 152 _ rfl
 have E153 : q 153 = q 151 - q 152 := hq 153 _ rfl
 by_cases a_6_34_32 : q 34 = 0 ∧ q 32 = 0
 ·
  by_cases a_6_37_35 : q 37 = 0 ∧ q 35 = 0
  ·
   exact lineDesargues_leaf lineDesargues_r0 hσ hq h0 (lineDesargues_An (hT a_6_34_32) (lineDesargues_An (hT a_6_37_35) trivial)) ⟨tab, mx⟩ hA
  ·
   exact lineDesargues_leaf lineDesargues_r1 hσ hq h0 (lineDesargues_An (hT a_6_34_32) (lineDesargues_An (hF a_6_37_35) trivial)) ⟨tab, mx⟩ hA
 ·
  by_cases a_6_37_35 : q 37 = 0 ∧ q 35 = 0
  ·
   exact lineDesargues_leaf lineDesargues_r2 hσ hq h0 (lineDesargues_An (hF a_6_34_32) (lineDesargues_An (hT a_6_37_35) trivial)) ⟨tab, mx⟩ hA
  ·
   have a_6_49_50 : ¬ (q 49 = 0 ∧ q 50 = 0) := lineDesargues_f1 E32 E33 E34 E45 E46 E47 E48 E49 E50 a_6_34_32
   have a_6_42_43 : ¬ (q 42 = 0 ∧ q 43 = 0) := lineDesargues_f2 E4 E5 E7 E8 E9 E10 E11 E12 E13 E16 E17 E19 E20 E21 E22 E35 E36 E37 E38 E39 E40 E41 E42 E43 a_6_37_35
   by_cases b54 : q 54 = 0
   ·
    by_cases a_6_59_60 : q 59 = 0 ∧ q 60 = 0
    ·
     exact lineDesargues_leaf lineDesargues_r3 hσ hq h0 (lineDesargues_An (hF a_6_34_32) (lineDesargues_An (hF a_6_37_35) (lineDesargues_An (hF a_6_49_50) (lineDesargues_An (hF a_6_42_43) (lineDesargues_An (hT b54) (lineDesargues_An (hT a_6_59_60) trivial)))))) ⟨tab, mx⟩ hA
    ·
     exact lineDesargues_leaf lineDesargues_r4 hσ hq h0 (lineDesargues_An (hF a_6_34_32) (lineDesargues_An (hF a_6_37_35) (lineDesargues_An (hF a_6_49_50) (lineDesargues_An (hF a_6_42_43) (lineDesargues_An (hT b54) (lineDesargues_An (hF a_6_59_60) trivial)))))) ⟨tab, mx⟩ hA
   ·
    by_cases a_6_66_64 : q 66 = 0 ∧ q 64 = 0
    ·
     by_cases a_6_69_67 : q 69 = 0 ∧ q 67 = 0
     ·
      exact lineDesargues_leaf lineDesargues_r5 hσ hq h0 (lineDesargues_An (hF a_6_34_32) (lineDesargues_An (hF a_6_37_35) (lineDesargues_An (hF a_6_49_50) (lineDesargues_An (hF a_6_42_43) (lineDesargues_An (hF b54) (lineDesargues_An (hT a_6_66_64) (lineDesargues_An (hT a_6_69_67) trivial))))))) ⟨tab, mx⟩ hA
     ·
      exact lineDesargues_leaf lineDesargues_r6 hσ hq h0 (lineDesargues_An (hF a_6_34_32) (lineDesargues_An (hF a_6_37_35) (lineDesargues_An (hF a_6_49_50) (lineDesargues_An (hF a_6_42_43) (lineDesargues_An (hF b54) (lineDesargues_An (hT a_6_66_64) (lineDesargues_An (hF a_6_69_67) trivial))))))) ⟨tab, mx⟩ hA
    ·
     by_cases a_6_69_67 : q 69 = 0 ∧ q 67 = 0
     ·
      exact lineDesargues_leaf lineDesargues_r7 hσ hq h0 (lineDesargues_An (hF a_6_34_32) (lineDesargues_An (hF a_6_37_35) (lineDesargues_An (hF a_6_49_50) (lineDesargues_An (hF a_6_42_43) (lineDesargues_An (hF b54) (lineDesargues_An (hF a_6_66_64) (lineDesargues_An (hT a_6_69_67) trivial))))))) ⟨tab, mx⟩ hA
     ·
      have a_6_81_82 : ¬ (q 81 = 0 ∧ q 82 = 0) := lineDesargues_f3 E64 E65 E66 E77 E78 E79 E80 E81 E82 a_6_66_64
      have a_6_74_75 : ¬ (q 74 = 0 ∧ q 75 = 0) := lineDesargues_f4 E9 E10 E11 E16 E17 E19 E20 E21 E22 E25 E26 E28 E29 E30 E31 E67 E68 E69 E70 E71 E72 E73 E74 E75 a_6_69_67
      by_cases b86 : q 86 = 0
      ·
       by_cases a_6_91_92 : q 91 = 0 ∧ q 92 = 0
       ·
        exact lineDesargues_leaf lineDesargues_r8 hσ hq h0 (lineDesargues_An (hF a_6_34_32) (lineDesargues_An (hF a_6_37_35) (lineDesargues_An (hF a_6_49_50) (lineDesargues_An (hF a_6_42_43) (lineDesargues_An (hF b54) (lineDesargues_An (hF a_6_66_64) (lineDesargues_An (hF a_6_69_67) (lineDesargues_An (hF a_6_81_82) (lineDesargues_An (hF a_6_74_75) (lineDesargues_An (hT b86) (lineDesargues_An (hT a_6_91_92) trivial))))))))))) ⟨tab, mx⟩ hA
       ·
        exact lineDesargues_leaf lineDesargues_r9 hσ hq h0 (lineDesargues_An (hF a_6_34_32) (lineDesargues_An (hF a_6_37_35) (lineDesargues_An (hF a_6_49_50) (lineDesargues_An (hF a_6_42_43) (lineDesargues_An (hF b54) (lineDesargues_An (hF a_6_66_64) (lineDesargues_An (hF a_6_69_67) (lineDesargues_An (hF a_6_81_82) (lineDesargues_An (hF a_6_74_75) (lineDesargues_An (hT b86) (lineDesargues_An (hF a_6_91_92) trivial))))))))))) ⟨tab, mx⟩ hA
      ·
       by_cases a_6_98_96 : q 98 = 0 ∧ q 96 = 0
       ·
        by_cases a_6_101_99 : q 101 = 0 ∧ q 99 = 0
        ·
         exact lineDesargues_leaf lineDesargues_r10 hσ hq h0 (lineDesargues_An (hF a_6_34_32) (lineDesargues_An (hF a_6_37_35) (lineDesargues_An (hF a_6_49_50) (lineDesargues_An (hF a_6_42_43) (lineDesargues_An (hF b54) (lineDesargues_An (hF a_6_66_64) (lineDesargues_An (hF a_6_69_67) (lineDesargues_An (hF a_6_81_82) (lineDesargues_An (hF a_6_74_75) (lineDesargues_An (hF b86) (lineDesargues_An (hT a_6_98_96) (lineDesargues_An (hT a_6_101_99) trivial)))))))))))) ⟨tab, mx⟩ hA
        ·
         exact lineDesargues_leaf lineDesargues_r11 hσ hq h0 (lineDesargues_An (hF a_6_34_32) (lineDesargues_An (hF a_6_37_35) (lineDesargues_An (hF a_6_49_50) (lineDesargues_An (hF a_6_42_43) (lineDesargues_An (hF b54) (lineDesargues_An (hF a_6_66_64) (lineDesargues_An (hF a_6_69_67) (lineDesargues_An (hF a_6_81_82) (lineDesargues_An (hF a_6_74_75) (lineDesargues_An (hF b86) (lineDesargues_An (hT a_6_98_96) (lineDesargues_An (hF a_6_101_99) trivial)))))))))))) ⟨tab, mx⟩ hA
       ·
        by_cases a_6_101_99 : q 101 = 0 ∧ q 99 = 0
        ·
         exact lineDesargues_leaf lineDesargues_r12 hσ hq h0 (lineDesargues_An (hF a_6_34_32) (lineDesargues_An (hF a_6_37_35) (lineDesargues_An (hF a_6_49_50) (lineDesargues_An (hF a_6_42_43) (lineDesargues_An (hF b54) (lineDesargues_An (hF a_6_66_64) (lineDesargues_An (hF a_6_69_67) (lineDesargues_An (hF a_6_81_82) (lineDesargues_An (hF a_6_74_75) (lineDesargues_An (hF b86) (lineDesargues_An (hF a_6_98_96) (lineDesargues_An (hT a_6_101_99) trivial)))))))))))) ⟨tab, mx⟩ hA
        ·
         have a_6_113_114 : ¬ (q 113 = 0 ∧ q 114 = 0) := lineDesargues_f5 E96 E97 E98 E109 E110 E111 E112 E113 E114 a_6_98_96
         have a_6_106_107 : ¬ (q 106 = 0 ∧ q 107 = 0) := lineDesargues_f6 E4 E5 E7 E8 E9 E10 E11 E12 E13 E25 E26 E28 E29 E30 E31 E99 E100 E101 E102 E103 E104 E105 E106 E107 a_6_101_99
         by_cases b118 : q 118 = 0
         ·
          by_cases a_6_123_124 : q 123 = 0 ∧ q 124 = 0
          ·
           exact lineDesargues_leaf lineDesargues_r13 hσ hq h0 (lineDesargues_An (hF a_6_34_32) (lineDesargues_An (hF a_6_37_35) (lineDesargues_An (hF a_6_49_50) (lineDesargues_An (hF a_6_42_43) (lineDesargues_An (hF b54) (lineDesargues_An (hF a_6_66_64) (lineDesargues_An (hF a_6_69_67) (lineDesargues_An (hF a_6_81_82) (lineDesargues_An (hF a_6_74_75) (lineDesargues_An (hF b86) (lineDesargues_An (hF a_6_98_96) (lineDesargues_An (hF a_6_101_99) (lineDesargues_An (hF a_6_113_114) (lineDesargues_An (hF a_6_106_107) (lineDesargues_An (hT b118) (lineDesargues_An (hT a_6_123_124) trivial)))))))))))))))) ⟨tab, mx⟩ hA
          ·
           exact lineDesargues_leaf lineDesargues_r14 hσ hq h0 (lineDesargues_An (hF a_6_34_32) (lineDesargues_An (hF a_6_37_35) (lineDesargues_An (hF a_6_49_50) (lineDesargues_An (hF a_6_42_43) (lineDesargues_An (hF b54) (lineDesargues_An (hF a_6_66_64) (lineDesargues_An (hF a_6_69_67) (lineDesargues_An (hF a_6_81_82) (lineDesargues_An (hF a_6_74_75) (lineDesargues_An (hF b86) (lineDesargues_An (hF a_6_98_96) (lineDesargues_An (hF a_6_101_99) (lineDesargues_An (hF a_6_113_114) (lineDesargues_An (hF a_6_106_107) (lineDesargues_An (hT b118) (lineDesargues_An (hF a_6_123_124) trivial)))))))))))))))) ⟨tab, mx⟩ hA
         ·
          have b130 : ¬ (q 130 = 0) := lineDesargues_f7 E4 E5 E7 E8 E9 E10 E11 E12 E13 E16 E17 E19 E20 E21 E22 E32 E33 E34 E35 E36 E37 E38 E39 E40 E41 E42 E43 E45 E46 E47 E48 E49 E50 E52 E53 E54 E128 E129 E130 b54
          have b133 : ¬ (q 133 = 0) := lineDesargues_f8 E9 E10 E11 E16 E17 E19 E20 E21 E22 E25 E26 E28 E29 E30 E31 E64 E65 E66 E67 E68 E69 E70 E71 E72 E73 E74 E75 E77 E78 E79 E80 E81 E82 E84 E85 E86 E131 E132 E133 b86
          have b136 : ¬ (q 136 = 0) := lineDesargues_f9 E4 E5 E7 E8 E9 E10 E11 E12 E13 E25 E26 E28 E29 E30 E31 E96 E97 E98 E99 E100 E101 E102 E103 E104 E105 E106 E107 E109 E110 E111 E112 E113 E114 E116 E117 E118 E134 E135 E136 b118
          by_cases b141 : q 141 = 0
          ·
           exact lineDesargues_leaf lineDesargues_r15 hσ hq h0 (lineDesargues_An (hF a_6_34_32) (lineDesargues_An (hF a_6_37_35) (lineDesargues_An (hF a_6_49_50) (lineDesargues_An (hF a_6_42_43) (lineDesargues_An (hF b54) (lineDesargues_An (hF a_6_66_64) (lineDesargues_An (hF a_6_69_67) (lineDesargues_An (hF a_6_81_82) (lineDesargues_An (hF a_6_74_75) (lineDesargues_An (hF b86) (lineDesargues_An (hF a_6_98_96) (lineDesargues_An (hF a_6_101_99) (lineDesargues_An (hF a_6_113_114) (lineDesargues_An (hF a_6_106_107) (lineDesargues_An (hF b118) (lineDesargues_An (hF b130) (lineDesargues_An (hF b133) (lineDesargues_An (hF b136) (lineDesargues_An (hT b141) trivial))))))))))))))))))) ⟨tab, mx⟩ hA
          ·
           by_cases b146 : q 146 = 0
           ·
            exact lineDesargues_leaf lineDesargues_r16 hσ hq h0 (lineDesargues_An (hF a_6_34_32) (lineDesargues_An (hF a_6_37_35) (lineDesargues_An (hF a_6_49_50) (lineDesargues_An (hF a_6_42_43) (lineDesargues_An (hF b54) (lineDesargues_An (hF a_6_66_64) (lineDesargues_An (hF a_6_69_67) (lineDesargues_An (hF a_6_81_82) (lineDesargues_An (hF a_6_74_75) (lineDesargues_An (hF b86) (lineDesargues_An (hF a_6_98_96) (lineDesargues_An (hF a_6_101_99) (lineDesargues_An (hF a_6_113_114) (lineDesargues_An (hF a_6_106_107) (lineDesargues_An (hF b118) (lineDesargues_An (hF b130) (lineDesargues_An (hF b133) (lineDesargues_An (hF b136) (lineDesargues_An (hF b141) (lineDesargues_An (hT b146) trivial)))))))))))))))))))) ⟨tab, mx⟩ hA
           ·
            have b153 : q 153 = 0 := lineDesargues_f10 E4 E5 E7 E8 E9 E10 E11 E12 E13 E16 E17 E19 E20 E21 E22 E25 E26 E28 E29 E30 E31 E32 E33 E34 E35 E36 E37 E38 E39 E40 E41 E42 E43 E44 E45 E46 E47 E48 E49 E50 E51 E52 E53 E54 E55 E56 E57 E58 E59 E60 E61 E62 E63 E64 E65 E66 E67 E68 E69 E70 E71 E72 E73 E74 E75 E76 E77 E78 E79 E80 E81 E82 E83 E84 E85 E86 E87 E88 E89 E90 E91 E92 E93 E94 E95 E96 E97 E98 E99 E100 E101 E102 E103 E104 E105 E106 E107 E108 E109 E110 E111 E112 E113 E114 E115 E116 E117 E118 E119 E120 E121 E122 E123 E124 E125 E126 E127 E137 E138 E139 E140 E141 E142 E143 E144 E145 E146 E147 E148 E149 E150 E151 E152 E153 a_6_34_32 a_6_37_35 b54 a_6_66_64 a_6_69_67 b86 a_6_98_96 a_6_101_99 b118 b141 b146
            exact lineDesargues_leaf lineDesargues_r17 hσ hq h0 (lineDesargues_An (hF a_6_34_32) (lineDesargues_An (hF a_6_37_35) (lineDesargues_An (hF a_6_49_50) (lineDesargues_An (hF a_6_42_43) (lineDesargues_An (hF b54) (lineDesargues_An (hF a_6_66_64) (lineDesargues_An (hF a_6_69_67) (lineDesargues_An (hF a_6_81_82) (lineDesargues_An (hF a_6_74_75) (lineDesargues_An (hF b86) (lineDesargues_An (hF a_6_98_96) (lineDesargues_An (hF a_6_101_99) (lineDesargues_An (hF a_6_113_114) (lineDesargues_An (hF a_6_106_107) (lineDesargues_An (hF b118) (lineDesargues_An (hF b130) (lineDesargues_An (hF b133) (lineDesargues_An (hF b136) (lineDesargues_An (hF b141) (lineDesargues_An (hF b146) (lineDesargues_An (hT b153) trivial))))))))))))))))))))) ⟨tab, mx⟩ hA
end Go.Proofs.YtkcikcnimkofkaaGreatDoor
