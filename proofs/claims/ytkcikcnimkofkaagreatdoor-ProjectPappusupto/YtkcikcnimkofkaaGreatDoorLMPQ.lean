/- Part 13 of the walks and of the mathematics under them: VY VSZ VP VPC CFprojected MPQ. -/
import Derived.Test.YtkcikcnimkofkaaGreatDoorA12
import Derived.Test.YtkcikcnimkofkaaGreatDoorA2
set_option maxHeartbeats 16000000
set_option maxRecDepth 100000
/- VY -/
namespace Go.Proofs.YtkcikcnimkofkaaGreatDoor
open Go.RowKit Cx
theorem den_num (t : Rat) : t * (t.den : Rat) = ((t.num : Int) : Rat) := by
 conv => lhs; lhs; rw [← Rat.mkRat_self t]
 have h0 : (t.den : Rat) ≠ 0 := fun h => t.den_nz (by exact_mod_cast h)
 rw [Rat.mkRat_eq_div, Rat.div_mul_cancel h0]
theorem whole {q : Rat} (h : q.den = 1) : q = ((q.num : Int) : Rat) := by
 have := den_num q
 rw [h] at this
 rw [← this]
 show q = q * ((1 : Nat) : Rat)
 exact (Rat.mul_one q).symm
end Go.Proofs.YtkcikcnimkofkaaGreatDoor
/- VSZ -/
namespace Go.Proofs.YtkcikcnimkofkaaGreatDoor
open Go.RowKit Cx
def szW (Z : List Nat) (I : List Bool) (z : Nat) (b : Bool) (nd : Nd) : Bool := match nd.1, nd.2 with
 | 0, [_, n, d] => (Nat.blt n (2 ^ z) && (Nat.blt 0 d && Nat.blt d (2 ^ z))) && (!b || Nat.beq d 1)
 | 1, [_] => Nat.ble 3495259 z && !b
 | 2, [a, c] => (match Z[a]?, Z[c]?, I[a]?, I[c]? with
  | some x, some y, some true, some true => Nat.ble (Nat.max x y + 1) z
  | some x, some y, _, _ => Nat.ble (x + y + 1) z && !b
  | _, _, _, _ => false)
 | 3, [a, c] => (match Z[a]?, Z[c]?, I[a]?, I[c]? with
  | some x, some y, some true, some true => Nat.ble (Nat.max x y + 1) z
  | some x, some y, _, _ => Nat.ble (x + y + 1) z && !b
  | _, _, _, _ => false)
 | 4, [a, c] => (match Z[a]?, Z[c]?, I[a]?, I[c]? with
  | some x, some y, some true, some true => Nat.ble (x + y) z
  | some x, some y, _, _ => Nat.ble (x + y) z && !b
  | _, _, _, _ => false)
 | 5, [a] => (match Z[a]?, I[a]? with
  | some x, some true => Nat.ble x z
  | some x, _ => Nat.ble x z && !b
  | _, _ => false)
 | 6, [a, c] => (match Z[a]?, Z[c]? with
  | some x, some y => Nat.ble (x + y) z && !b
  | _, _ => false)
 | 8, i :: xs => (match getsO Z xs with
  | some zs => Nat.blt i xs.length && (Nat.ble ((xs.length + 1) * maxL zs + 1) z || (xs.all (fun a => match I[a]? with
   | some true => true
   | _ => false) && (match xs[i]? with
   | some a => (match Z[a]? with
    | some x => Nat.ble (x + 1) z
    | none => false)
   | none => false)))
  | none => false)
 | _, _ => false
def szC (Z : List Nat) (I : List Bool) : List Nd → List Nat → List Bool → Bool
 | [], [], [] => true
 | nd :: ns, z :: zs, b :: bs => (szW Z I z b nd && Nat.ble z 1000000000000) && szC Z I ns zs bs
 | _, _, _ => false
theorem szC_get {Z : List Nat} {I : List Bool} : ∀ {ns : List Nd} {zs : List Nat} {bs : List Bool} {i z : Nat}, szC Z I ns zs bs = true → zs[i]? = some z → ∃ nd b, ns[i]? = some nd ∧ bs[i]? = some b ∧ szW Z I z b nd = true ∧ z ≤ 1000000000000
 | [], [], [], _, _, _, h => by simp at h
 | [], [], _ :: _, _, _, h, _ => by cases h
 | [], _ :: _, _, _, _, h, _ => by cases h
 | _ :: _, [], _, _, _, h, _ => by cases h
 | _ :: _, _ :: _, [], _, _, h, _ => by cases h
 | nd :: ns, z' :: zs, b :: bs, 0, z, h, e => by
  have : z' = z := by simpa using e
  subst this
  unfold szC at h
  simp only [Bool.and_eq_true, Nat.ble_eq] at h
  exact ⟨nd, b, rfl, rfl, h.1.1, h.1.2⟩
 | nd :: ns, z' :: zs, b :: bs, i + 1, z, h, e => by
  unfold szC at h
  rw [Bool.and_eq_true] at h
  obtain ⟨nd2, b2, g1, g2, g3⟩ := szC_get (ns := ns) (zs := zs) (bs := bs) h.2 (show zs[i]? = some z by simpa using e)
  exact ⟨nd2, b2, by simpa using g1, by simpa using g2, g3⟩
theorem szC_len {Z : List Nat} {I : List Bool} : ∀ {ns : List Nd} {zs : List Nat} {bs : List Bool}, szC Z I ns zs bs = true → ns.length = zs.length
 | [], [], [], _ => rfl
 | [], [], _ :: _, h => by cases h
 | [], _ :: _, _, h => by cases h
 | _ :: _, [], _, h => by cases h
 | _ :: _, _ :: _, [], h => by cases h
 | _ :: _, _ :: _, _ :: _, h => by
  unfold szC at h
  rw [Bool.and_eq_true] at h
  exact congrArg (· + 1) (szC_len h.2)
structure QW (z : Nat) (x : Rat) : Prop where
 qs : QS z x
 wh : x.den = 1
theorem QW.of {z : Nat} {n : Int} (h : n.natAbs < 2 ^ z) (hz : 0 < z) : QW z ((n : Int) : Rat) :=
 ⟨⟨by simpa using h, by
  show ((n : Int) : Rat).den < 2 ^ z
  rw [Rat.den_intCast]
  exact Nat.one_lt_two_pow (by omega)⟩, Rat.den_intCast n⟩
theorem QW.mono {k l : Nat} {x : Rat} (h : QW k x) (hk : k ≤ l) : QW l x := ⟨h.qs.mono hk, h.wh⟩
theorem two_max {a b x y : Nat} (h1 : a < 2 ^ x) (h2 : b < 2 ^ y) : a + b < 2 ^ (Nat.max x y + 1) := by
 have e1 : 2 ^ x ≤ 2 ^ Nat.max x y := Nat.pow_le_pow_right (by decide) (Nat.le_max_left x y)
 have e2 : 2 ^ y ≤ 2 ^ Nat.max x y := Nat.pow_le_pow_right (by decide) (Nat.le_max_right x y)
 rw [Nat.pow_succ]
 omega
theorem QW.add {x y : Nat} {a b : Rat} (h1 : QW x a) (h2 : QW y b) : QW (Nat.max x y + 1) (a + b) := by
 rw [whole h1.wh, whole h2.wh, ← Rat.intCast_add]
 refine QW.of ?_ (by omega)
 have := two_max h1.qs.num h2.qs.num
 omega
theorem QW.sub {x y : Nat} {a b : Rat} (h1 : QW x a) (h2 : QW y b) : QW (Nat.max x y + 1) (a - b) := by
 rw [whole h1.wh, whole h2.wh, ← Rat.intCast_sub]
 refine QW.of ?_ (by omega)
 have := two_max h1.qs.num h2.qs.num
 omega
theorem QW.mul {x y : Nat} {a b : Rat} (h1 : QW x a) (h2 : QW y b) : QW (x + y) (a * b) := by
 refine ⟨h1.qs.mul h2.qs, ?_⟩
 rw [whole h1.wh, whole h2.wh, ← Rat.intCast_mul]
 exact Rat.den_intCast _
theorem QW.neg {x : Nat} {a : Rat} (h1 : QW x a) : QW x (-a) := ⟨h1.qs.neg, h1.wh⟩
theorem lD_one : ∀ {qs : List Rat} {m : Nat}, (∀ q ∈ qs, q.den = 1) → qs.foldl (fun m q => m * (q.den / Nat.gcd m q.den)) m = m
 | [], _, _ => rfl
 | q :: qs, m, h => by
  rw [List.foldl_cons, h q List.mem_cons_self, Nat.gcd_one_right, Nat.div_self (by decide), Nat.mul_one]
  exact lD_one fun p hp => h p (List.mem_cons_of_mem _ hp)
theorem QW.fac {z : Nat} {qs : List Rat} {x : Rat} (hx : QS z x) (h : x ∈ qs) (hw : ∀ y ∈ qs, y.den = 1) : QS (z + 1) (x * fac qs) := by
 have hl : lD qs = 1 := lD_one hw
 refine ⟨?_, ?_⟩
 ·rw [fac_abs h, hl, hw x h, Nat.div_self (by decide), Nat.mul_one]
  exact Nat.lt_of_le_of_lt (Nat.div_le_self _ _) (Nat.lt_of_lt_of_le hx.num (Nat.pow_le_pow_right (by decide) (by omega)))
 ·rw [fac_den h]
  exact Nat.one_lt_two_pow (by omega)
theorem ten_three : ∀ n : Nat, 10 ^ n ≤ 2 ^ ((10 * n + 2) / 3)
 | 0 => by decide
 | 1 => by decide
 | 2 => by decide
 | n + 3 => by
  have h := ten_three n
  have e : (10 * (n + 3) + 2) / 3 = (10 * n + 2) / 3 + 10 := by omega
  rw [e, Nat.pow_add, Nat.pow_add]
  exact Nat.mul_le_mul h (by decide)
theorem QS.rd3 (l : List UInt8) : QS ((10 * l.length + 2) / 3 + 5) (Cx.rd l) := by
 have key : ∀ {m : List UInt8}, digs m = true → dv m < 2 ^ ((10 * m.length + 2) / 3) := fun {m} h => Nat.lt_of_lt_of_le (dv_lt (digs_all h)) (ten_three _)
 unfold Cx.rd
 split
 ·rename_i h
  rw [Bool.and_eq_true] at h
  have h1 := key h.1
  have h2 := key h.2
  have h3 := up_len (tailOf l)
  have h4 := low_len (tailOf l)
  have h5 := tail_len l
  apply QS.mkr
  ·rw [sg_abs]; exact Nat.lt_of_lt_of_le h1 (Nat.pow_le_pow_right (by decide) (by omega))
  ·exact Nat.lt_of_lt_of_le h2 (Nat.pow_le_pow_right (by decide) (by omega))
 ·exact QS.zero.mono (by omega)
section
variable {N : List Nd} {Z : List Nat} {I : List Bool} {q : Nat → Rat}
theorem sizes_okW {σ : Nat → ByteArray} (hσ : ∀ j, (σ j).size ≤ 1048576) (hw : wfB 0 N = true) (hz : szC Z I N Z I = true) (hq : ∀ (a : Nat) nd, N[a]? = some nd → q a = valN σ q nd) (h0 : ∀ a, N.length ≤ a → q a = 0) : (∀ (a : Nat) z, Z[a]? = some z → QS z (q a)) ∧ ∀ a, QS 1000000000000 (q a) := by
 have h2 : ∀ (a : Nat) z, Z[a]? = some z → QS z (q a) ∧ (I[a]? = some true → (q a).den = 1) := by
  intro a
  induction a using Nat.strongRecOn with
  | ind a ih =>
   intro z hz'
   obtain ⟨nd, b, hn, hb, hs, _⟩ := szC_get hz hz'
   have hwf := wfB_get hw hn
   rw [Nat.zero_add] at hwf
   rw [hq a nd hn, hb]
   obtain ⟨op, xs⟩ := nd
   unfold szW at hs
   unfold valN
   unfold wfN at hwf
   dsimp only at hs hwf ⊢
   have W : ∀ {c x}, c < a → Z[c]? = some x → I[c]? = some true → QW x (q c) := fun hc hx hi => ⟨(ih _ hc _ hx).1, (ih _ hc _ hx).2 hi⟩
   have no : ∀ {v : Rat}, b = false → (some b = some true → v.den = 1) := fun e h => by rw [e] at h; cases h
   split at hs
   ·rename_i s n d
    simp only [Bool.and_eq_true] at hs
    obtain ⟨⟨h1, h2, h3⟩, h4⟩ := hs
    refine ⟨QS.const (by simpa [Nat.blt_eq] using h1) (by simpa [Nat.blt_eq] using h2) (by simpa [Nat.blt_eq] using h3), fun e => ?_⟩
    rw [show b = true from Option.some.inj e] at h4
    have hd : d = 1 := by simpa using h4
    subst hd
    show (if s = 0 then mkRat (n : Int) 1 else mkRat (-(n : Int)) 1).den = 1
    split
    ·rw [Rat.mkRat_one]
     exact Rat.den_intCast _
    ·rw [Rat.mkRat_one]
     exact Rat.den_intCast _
   ·rename_i j
    simp only [Bool.and_eq_true, Nat.ble_eq, Bool.not_eq_true'] at hs
    exact ⟨QS.mono (QS.rd3 _) (by have := hσ j; rw [str_len]; omega), no hs.2⟩
   ·simp only [List.all_cons, List.all_nil, Bool.and_true, Bool.and_eq_true] at hwf
    have l1 := (by simpa [Nat.blt_eq] using hwf.1 : _ < a)
    have l2 := (by simpa [Nat.blt_eq] using hwf.2 : _ < a)
    split at hs
    ·rename_i x y hx hy i1 i2
     rw [Nat.ble_eq] at hs
     have := ((W l1 hx i1).add (W l2 hy i2)).mono hs
     exact ⟨this.qs, fun _ => this.wh⟩
    ·rename_i x y hx hy _
     simp only [Bool.and_eq_true, Nat.ble_eq, Bool.not_eq_true'] at hs
     exact ⟨((ih _ l1 x hx).1.add (ih _ l2 y hy).1).mono hs.1, no hs.2⟩
    ·cases hs
   ·simp only [List.all_cons, List.all_nil, Bool.and_true, Bool.and_eq_true] at hwf
    have l1 := (by simpa [Nat.blt_eq] using hwf.1 : _ < a)
    have l2 := (by simpa [Nat.blt_eq] using hwf.2 : _ < a)
    split at hs
    ·rename_i x y hx hy i1 i2
     rw [Nat.ble_eq] at hs
     have := ((W l1 hx i1).sub (W l2 hy i2)).mono hs
     exact ⟨this.qs, fun _ => this.wh⟩
    ·rename_i x y hx hy _
     simp only [Bool.and_eq_true, Nat.ble_eq, Bool.not_eq_true'] at hs
     exact ⟨((ih _ l1 x hx).1.sub (ih _ l2 y hy).1).mono hs.1, no hs.2⟩
    ·cases hs
   ·simp only [List.all_cons, List.all_nil, Bool.and_true, Bool.and_eq_true] at hwf
    have l1 := (by simpa [Nat.blt_eq] using hwf.1 : _ < a)
    have l2 := (by simpa [Nat.blt_eq] using hwf.2 : _ < a)
    split at hs
    ·rename_i x y hx hy i1 i2
     rw [Nat.ble_eq] at hs
     have := ((W l1 hx i1).mul (W l2 hy i2)).mono hs
     exact ⟨this.qs, fun _ => this.wh⟩
    ·rename_i x y hx hy _
     simp only [Bool.and_eq_true, Nat.ble_eq, Bool.not_eq_true'] at hs
     exact ⟨((ih _ l1 x hx).1.mul (ih _ l2 y hy).1).mono hs.1, no hs.2⟩
    ·cases hs
   ·simp only [List.all_cons, List.all_nil, Bool.and_true] at hwf
    have l1 := (by simpa [Nat.blt_eq] using hwf : _ < a)
    split at hs
    ·rename_i x hx i1
     rw [Nat.ble_eq] at hs
     have := (W l1 hx i1).neg.mono hs
     exact ⟨this.qs, fun _ => this.wh⟩
    ·rename_i x hx _
     simp only [Bool.and_eq_true, Nat.ble_eq, Bool.not_eq_true'] at hs
     exact ⟨((ih _ l1 x hx).1.neg).mono hs.1, no hs.2⟩
    ·cases hs
   ·simp only [List.all_cons, List.all_nil, Bool.and_true, Bool.and_eq_true] at hwf
    split at hs
    ·rename_i x y hx hy
     simp only [Bool.and_eq_true, Nat.ble_eq, Bool.not_eq_true'] at hs
     exact ⟨((ih _ (by simpa [Nat.blt_eq] using hwf.1) x hx).1.div (ih _ (by simpa [Nat.blt_eq] using hwf.2) y hy).1).mono hs.1, no hs.2⟩
    ·cases hs
   ·rename_i i ys
    split at hs
    ·rename_i zs hzs
     rw [Bool.and_eq_true] at hs
     have hi : i < ys.length := by simpa [Nat.blt_eq] using hs.1
     have hwf' : ys.all (Nat.blt · a) = true := hwf
     rw [List.all_eq_true] at hwf'
     have hlt : ∀ c ∈ ys, c < a := fun c hc => by simpa [Nat.blt_eq] using hwf' c hc
     have hm : q ys[i] ∈ ys.map q := List.mem_map_of_mem (List.getElem_mem hi)
     have hg : (ys.map q).getD i 0 = q ys[i] := by
      rw [List.getD_eq_getElem?_getD, List.getElem?_map, List.getElem?_eq_getElem hi]
      rfl
     show QS z ((ys.map q).getD i 0 * fac (ys.map q)) ∧ (some b = some true → ((ys.map q).getD i 0 * fac (ys.map q)).den = 1)
     rw [hg]
     refine ⟨?_, fun _ => fac_den hm⟩
     rcases Bool.or_eq_true _ _ ▸ hs.2 with h3 | h3
     ·rw [Nat.ble_eq] at h3
      have hall : ∀ y ∈ ys.map q, QS (maxL zs) y := fun y hy => by
       obtain ⟨c, hc, rfl⟩ := List.mem_map.1 hy
       obtain ⟨z', hm', hz2⟩ := getsO_get hzs c hc
       exact (ih c (hlt c hc) z' hz2).1.mono (le_maxL z' hm')
      have := QS.facN hall (x := q ys[i]) hm
      rw [List.length_map] at this
      exact this.mono h3
     ·rw [Bool.and_eq_true, List.all_eq_true] at h3
      obtain ⟨h4, h5⟩ := h3
      have hwh : ∀ y ∈ ys.map q, y.den = 1 := fun y hy => by
       obtain ⟨c, hc, rfl⟩ := List.mem_map.1 hy
       obtain ⟨z', _, hz2⟩ := getsO_get hzs c hc
       refine (ih c (hlt c hc) z' hz2).2 ?_
       have := h4 c hc
       split at this
       ·assumption
       ·cases this
      rw [List.getElem?_eq_getElem hi] at h5
      dsimp only at h5
      split at h5
      ·rename_i x hx
       rw [Nat.ble_eq] at h5
       exact (QW.fac (ih _ (hlt _ (List.getElem_mem hi)) x hx).1 hm hwh).mono h5
      ·cases h5
    ·cases hs
   ·cases hs
 refine ⟨fun a z h => (h2 a z h).1, fun a => ?_⟩
 have hl := szC_len hz
 by_cases ha : a < Z.length
 ·obtain ⟨nd, b, _, _, _, hle⟩ := szC_get hz (List.getElem?_eq_getElem ha)
  exact (h2 a _ (List.getElem?_eq_getElem ha)).1.mono hle
 ·rw [h0 a (by omega)]
  exact QS.zero.mono (by decide)
theorem hy_ofW {L C : List (List Nat × Nat)} {σ : Nat → ByteArray} {H : List (Nat × Nat × Nat × Nat)} (hσ : ∀ j, (σ j).size ≤ 1048576) (hw : wfB 0 N = true) (hz : szC Z I N Z I = true) (hl : litB N L = true) (hcn : canB N C = true) (hq : ∀ (a : Nat) nd, N[a]? = some nd → q a = valN σ q nd) (h0 : ∀ a, N.length ≤ a → q a = 0) (hH : hAll q H) : Hy N H L C Z q σ where
 nat := hq
 qs := (sizes_okW hσ hw hz hq h0).2
 zs := (sizes_okW hσ hw hz hq h0).1
 par := hσ
 lit := fun s b h => lit_rd hl hq h
 k0 := fun a r h => kn_at hH h
 k1 := fun a r h => kn_at hH h
 k2 := fun a r h => kn_at hH h
 k3 := fun a b r h => kn_at hH h
 k4 := fun l a b r h1 h2 => by
  have h3 : Nat.beq 1 r = true ↔ q a = q b := kn_at hH h2
  rw [h3, ← can_tx hcn hq h1]
  exact ⟨fun e => by rw [e], fun e => tellS_inj (bytesN_inj e)⟩
 k6 := fun a b r h => kn_at hH h
 k5 := fun a r h => kn_at hH h
end
end Go.Proofs.YtkcikcnimkofkaaGreatDoor
/- VP -/
namespace Cx
open Go Go.RowKit
abbrev Hs := List (Nat × Nat × Nat × Nat)
def Sx.plus (S : Sx) (X : Hs) : Sx := { S with H := X ++ S.H }
abbrev Ask := Nat × Nat × Nat × Nat
def askZ (a : Nat) : Ask := (0, a, 0, a)
def askOk (S : Sx) : Ask → Bool
 | (k, a, b, d) => (Nat.beq k 0 && (Nat.beq b 0 && Nat.beq d a)) || (Nat.beq k 3 && (match S.N[d]? with
  | some (op, ar) => Nat.beq op 3 && beqL ar [a, b]
  | none => false))
def sqF (S : Sx) : Nat → List Nat → Option Nat
 | s, [] => some s
 | s, a :: l => (S.nd 4 [a, a]).bind fun b => (S.nd 2 [s, b]).bind fun t => sqF S t l
def sqN (S : Sx) : List Nat → Option Nat
 | [] => none
 | a :: l => (S.nd 4 [a, a]).bind fun s => sqF S s l
def acrossB (S : Sx) (a b : Nat) : List Nat → List Nat → Option (List Ask)
 | c :: l, d :: m => (S.nd 4 [a, d]).bind fun x => (S.nd 4 [c, b]).bind fun y => (S.nd 3 [x, y]).bind fun z => (acrossB S a b l m).map fun r => (3, x, y, z) :: r
 | _, _ => some []
def alikeB (S : Sx) : List Nat → List Nat → List Nat → List Nat → Option (List Ask)
 | pl, pm, a :: l, b :: m => (acrossB S a b pl pm).bind fun r => (alikeB S (pl ++ [a]) (pm ++ [b]) l m).map fun t => r ++ t
 | _, _, _, _ => some []
def asks (S : Sx) (h : List HB) (code : Nat) (args : List AV) : Option (List Ask) :=
 match code with
 | 60 => arg1 (fun x => (asA x).bind fun cs => (qRow S cs).map fun l => l.map askZ) args
 | 61 => arg1 (fun x => (rowB h 1 x).bind fun p => (mapO (acX 0) p.2).map fun l => l.map askZ) args
 | 62 => arg2 (fun x y => (rowB h 1 x).bind fun p => (mapO (acX 0) p.2).bind fun l => (rowB h 1 y).bind fun p' => (mapO (acX 0) p'.2).bind fun m => alikeB S [] [] l m) args
 | 63 => arg1 (fun x => (asA x).bind fun cs => (mapO acTold cs).bind fun l => (plainOf S l).map fun xs => xs.map askZ) args
 | _ => none
def splits : List Ask → Hs → List Hs
 | [], _ => []
 | (k, a, b, _) :: l, X => ((k, a, b, 0) :: X) :: splits l ((k, a, b, 1) :: X)
def allZ : List Ask → Hs → Hs
 | [], X => X
 | (k, a, b, _) :: l, X => allZ l ((k, a, b, 1) :: X)
def bodyC (S : Sx) (call : CallF) : CallF := fun f args h nx => S.P.funcs[f]?.bind fun fn => fn.body.bind fun c => ifO (Nat.ble args.length fn.ntmps) ((runB S call fn.ntmps c { tm := numb1 0 args, h := h, nx := nx }).bind fun r =>
   ifO (Nat.beq r.1 1) ((mapO (resB S.P r.2) fn.results.toList).map fun xs => (tupB xs, r.2.h, r.2.nx)))
abbrev CRes := Option (AV × List HB × Nat)
def agree (h : List HB) (b : Bool) (hi : Nat) : CRes → Bool
 | some (v, h', nx') => (match asB v with
  | some c => b == c
  | none => false) && (Nat.ble nx' hi && h.all fun x => h'.any fun y => Nat.beq y.1 x.1 && acsW x.2 y.2)
 | none => false
def topN : Nat → List CRes → Nat
 | m, [] => m
 | m, some p :: rs => topN (bif Nat.ble m p.2.2 then p.2.2 else m) rs
 | m, none :: rs => topN m rs
def joinC (h : List HB) (nx : Nat) (rs : List CRes) : CRes :=
 match rs with
 | some p :: _ => (asB p.1).bind fun b => ifO (rs.all (agree h b (topN nx rs))) (some (kB b, h, topN nx rs))
 | _ => none
def callC (S : Sx) (cs : List (FuncId × Nat)) : Nat → Hs → CallF
 | 0, _, _, _, _, _ => none
 | n + 1, X, f, args, h, nx => match prGet f cs with
  | none => bodyC (S.plus X) (callC S cs n X) f args h nx
  | some c => (asks (S.plus X) h c args).bind fun l => ifO (l.all (askOk S)) ((sqN S (l.map (·.2.2.2))).bind fun s => ((S.plus X).kn 0 s 0).bind fun r =>
    bif Nat.beq 1 r then bodyC (S.plus (allZ l X)) (callC S cs n (allZ l X)) f args h nx
    else joinC h nx ((splits l X).map fun X' => bodyC (S.plus X') (callC S cs n X') f args h nx))
section
variable {S : Sx} {E : Ev S.nb} {w0 : World}
theorem bodyC_ok {call : CallF} (hm : S.P.follows .mixedOrders = true) (N : Knows S E) (hP : PrimOk S E w0) (hC : CallOk S E w0 call) : CallOk S E w0 (bodyC S call) := fun f args h nx p hp γ w vs hi hA hb hlt hf => by
 unfold bodyC at hp
 simp only [Option.bind_eq_some_iff, ifO_some, Option.map_eq_some_iff, Nat.ble_eq, Nat.beq_eq] at hp
 obtain ⟨fn, h1, c, h2, h3, ⟨e, s'⟩, h4, h5, xs, h6, rfl⟩ := hp
 dsimp only at h5 h6
 subst h5
 obtain ⟨_, _, r⟩ := runB_ok hm N hP hC c _ _ _ h4
 refine calls_of_wp h1 h2 (r γ _ w _ ⟨hi, fun t v q => ?_, hb, hlt, ?_, rfl⟩ hf fun a' w' γ' hef hs => ?_)
 ·obtain ⟨_, q2⟩ := numb1_get q
  rw [Nat.sub_zero] at q2
  obtain ⟨u, hu, hv⟩ := hA.get q2
  have hlt : t < vs.length := (List.getElem?_eq_some_iff.1 hu).1
  have : (vs.toArray ++ Array.replicate (fn.ntmps - vs.toArray.size) undef).getD t undef = u := by
   rw [Array.getD_eq_getD_getElem?, Array.getElem?_append_left (by simpa using hlt)]
   simp [hu]
  show avOn _ v ((vs.toArray ++ Array.replicate (fn.ntmps - vs.toArray.size) undef).getD t undef)
  rw [this]
  exact hv
 ·have := hA.len
  simp
  omega
 ·obtain ⟨v, hv, hx⟩ := results_run hs h6
  exact ⟨hs.df, v, hv, v, γ', rfl, hef, hx, hs.bx⟩
theorem asB_kB {v : AV} {b : Bool} (h : asB v = some b) : v = kB b := by
 unfold asB at h
 rw [Option.bind_eq_some_iff] at h
 obtain ⟨c, h1, h2⟩ := h
 unfold asC at h1
 split at h1
 ·cases h1
  unfold acB at h2
  split at h2
  ·cases h2
   rfl
  ·cases h2
 ·cases h1
theorem agree_some {h : List HB} {b : Bool} {hi : Nat} {r : CRes} (hr : agree h b hi r = true) : ∃ h' nx', r = some (kB b, h', nx') ∧ nx' ≤ hi ∧ ∀ x ∈ h, x ∈ h' := by
 unfold agree at hr
 split at hr
 ·rename_i v h' nx'
  rw [Bool.and_eq_true, Bool.and_eq_true, Nat.ble_eq, List.all_eq_true] at hr
  obtain ⟨h1, h2, h3⟩ := hr
  refine ⟨h', nx', ?_, h2, fun x hx => ?_⟩
  ·split at h1
   ·rename_i c hc
    rw [asB_kB hc, show c = b from (by simpa using h1 : b = c).symm]
   ·cases h1
  ·have := h3 x hx
   rw [List.any_eq_true] at this
   obtain ⟨y, hy, e⟩ := this
   rw [Bool.and_eq_true, Nat.beq_eq] at e
   have : x = y := Prod.ext e.1.symm (acsW_eq e.2)
   rw [this]
   exact hy
 ·cases hr
variable {T : Hs → Prop} {z : Nat → Prop}
def AskTrue (S : Sx) (T : Hs → Prop) (z : Nat → Prop) : Prop := ∀ X, T X → ∀ a, askOk S a = true → (z a.2.2.2 → T ((a.1, a.2.1, a.2.2.1, 1) :: X)) ∧ (¬ z a.2.2.2 → T ((a.1, a.2.1, a.2.2.1, 0) :: X))
theorem allZ_true (hk : AskTrue S T z) : ∀ {l : List Ask} {X : Hs}, T X → (∀ a ∈ l, askOk S a = true) → (∀ a ∈ l, z a.2.2.2) → T (allZ l X)
 | [], _, h, _, _ => h
 | (k, a, b, d) :: l, X, h, ho, hz => allZ_true (l := l) hk ((hk X h (k, a, b, d) (ho _ List.mem_cons_self)).1 (hz _ List.mem_cons_self)) (fun a ha => ho a (List.mem_cons_of_mem _ ha)) (fun a ha => hz a (List.mem_cons_of_mem _ ha))
theorem splits_true (hk : AskTrue S T z) : ∀ {l : List Ask} {X : Hs}, T X → (∀ a ∈ l, askOk S a = true) → (∃ a ∈ l, ¬ z a.2.2.2) → ∃ X' ∈ splits l X, T X'
 | [], _, _, _, ⟨_, h, _⟩ => by cases h
 | (k, a, b, d) :: l, X, h, ho, hz => by
  by_cases e : z d
  ·obtain ⟨X', h1, h2⟩ := splits_true (l := l) hk ((hk X h (k, a, b, d) (ho _ List.mem_cons_self)).1 e) (fun a ha => ho a (List.mem_cons_of_mem _ ha)) (by
    obtain ⟨c, hc, hn⟩ := hz
    rcases List.mem_cons.1 hc with rfl | hc
    ·exact (hn e).elim
    ·exact ⟨c, hc, hn⟩)
   exact ⟨X', List.mem_cons_of_mem _ h1, h2⟩
  ·exact ⟨_, List.mem_cons_self, (hk X h (k, a, b, d) (ho _ List.mem_cons_self)).2 e⟩
theorem callC_ok {cs : List (FuncId × Nat)} (hm : S.P.follows .mixedOrders = true) (hN : ∀ X, T X → Knows (S.plus X) E) (hP : ∀ X, T X → PrimOk (S.plus X) E w0) (hk : AskTrue S T z)
  (hs : ∀ X, T X → ∀ l s r, sqN S l = some s → (S.plus X).kn 0 s 0 = some r → (Nat.beq 1 r = true → ∀ d ∈ l, z d) ∧ (Nat.beq 1 r = false → ∃ d ∈ l, ¬ z d)) : ∀ n X, T X → CallOk S E w0 (callC S cs n X)
 | 0, _, _ => fun _ _ _ _ _ h => by cases h
 | n + 1, X, hX => fun f args h nx p hp => by
  have body : ∀ Y, T Y → CallOk S E w0 (bodyC (S.plus Y) (callC S cs n Y)) := fun Y hY => bodyC_ok (S := S.plus Y) hm (hN Y hY) (hP Y hY) (callC_ok hm hN hP hk hs n Y hY)
  unfold callC at hp
  split at hp
  ·exact body X hX f args h nx p hp
  ·simp only [Option.bind_eq_some_iff, ifO_some, List.all_eq_true] at hp
   obtain ⟨l, _, hl, s, h1, r, h2, h3⟩ := hp
   obtain ⟨a1, a0⟩ := hs X hX _ s r h1 h2
   cases e : Nat.beq 1 r with
   | true =>
    rw [e] at h3
    exact body _ (allZ_true hk hX hl fun a ha => a1 e _ (List.mem_map_of_mem ha)) f args h nx p h3
   | false =>
    rw [e] at h3
    obtain ⟨d, hd, hz⟩ := a0 e
    obtain ⟨a, ha, rfl⟩ := List.mem_map.1 hd
    obtain ⟨X', m1, m2⟩ := splits_true hk hX hl ⟨a, ha, hz⟩
    replace h3 : joinC h nx ((splits l X).map fun X' => bodyC (S.plus X') (callC S cs n X') f args h nx) = some p := h3
    unfold joinC at h3
    split at h3
    ·rename_i p0 rs hrs
     rw [Option.bind_eq_some_iff] at h3
     obtain ⟨b, hb, h4⟩ := h3
     rw [ifO_some, List.all_eq_true] at h4
     obtain ⟨h5, h6⟩ := h4
     cases h6
     obtain ⟨h', nx', q1, q2, q3⟩ := agree_some (h5 _ (List.mem_map_of_mem m1))
     intro γ w vs hi hA hb hlt hf
     refine (body X' m2 f args h nx _ q1 γ w vs hi hA hb hlt fun b g1 g2 => hf b g1 (Nat.lt_of_lt_of_le g2 q2)).mono ?_
     rintro _ w' ⟨r', γ', rfl, hef, hv, hx⟩
     exact ⟨r', γ', rfl, hef.wide (Nat.le_refl _) q2, hv, fun x hh => hx x (q3 x hh)⟩
    ·cases h3
end
end Cx
/- VPC -/
namespace Go.Proofs.YtkcikcnimkofkaaGreatDoor
open Cx Go Go.RowKit
section
variable {N : List Nd} {H : List (Nat × Nat × Nat × Nat)} {K : List (FuncId × List AC)} {L C : List (List Nat × Nat)} {Z : List Nat} {q : Nat → Rat} {σ : Nat → ByteArray} {w0 : World} {cl : List FuncId} {cs pr : List (FuncId × Nat)}
theorem kn_cons {k a b k' a' b' r' : Nat} {r : Nat} (h : knFrom k a b ((k', a', b', r') :: H) = some r) : (k = k' ∧ a = a' ∧ b = b' ∧ r = r') ∨ knFrom k a b H = some r := by
 unfold knFrom at h
 cases e : (Nat.beq k k' && (Nat.beq a a' && Nat.beq b b')) with
 | true =>
  rw [e] at h
  simp only [Bool.and_eq_true, Nat.beq_eq] at e
  exact Or.inl ⟨e.1, e.2.1, e.2.2, (Option.some.inj h).symm⟩
 | false =>
  rw [e] at h
  exact Or.inr h
theorem Hy.add0 (Y : Hy N H L C Z q σ) {a r : Nat} (h : Nat.beq 1 r = true ↔ q a = 0) : Hy N ((0, a, 0, r) :: H) L C Z q σ where
 nat := Y.nat
 qs := Y.qs
 zs := Y.zs
 par := Y.par
 lit := Y.lit
 k0 := fun a' r' g => by
  rcases kn_cons g with ⟨_, e1, _, e2⟩ | g
  ·rw [e1, e2]
   exact h
  ·exact Y.k0 a' r' g
 k1 := fun a' r' g => by
  rcases kn_cons g with ⟨e, _⟩ | g
  ·cases e
  ·exact Y.k1 a' r' g
 k2 := fun a' r' g => by
  rcases kn_cons g with ⟨e, _⟩ | g
  ·cases e
  ·exact Y.k2 a' r' g
 k4 := fun l a' b' r' g1 g => by
  rcases kn_cons g with ⟨e, _⟩ | g
  ·cases e
  ·exact Y.k4 l a' b' r' g1 g
 k3 := fun a' b' r' g => by
  rcases kn_cons g with ⟨e, _⟩ | g
  ·cases e
  ·exact Y.k3 a' b' r' g
 k6 := fun a' b' r' g => by
  rcases kn_cons g with ⟨e, _⟩ | g
  ·cases e
  ·exact Y.k6 a' b' r' g
 k5 := fun a' r' g => by
  rcases kn_cons g with ⟨e, _⟩ | g
  ·cases e
  ·exact Y.k5 a' r' g
theorem Hy.add3 (Y : Hy N H L C Z q σ) {a b r : Nat} (h : Nat.beq 1 r = true ↔ q a = q b) : Hy N ((3, a, b, r) :: H) L C Z q σ where
 nat := Y.nat
 qs := Y.qs
 zs := Y.zs
 par := Y.par
 lit := Y.lit
 k0 := fun a' r' g => by
  rcases kn_cons g with ⟨e, _⟩ | g
  ·cases e
  ·exact Y.k0 a' r' g
 k1 := fun a' r' g => by
  rcases kn_cons g with ⟨e, _⟩ | g
  ·cases e
  ·exact Y.k1 a' r' g
 k2 := fun a' r' g => by
  rcases kn_cons g with ⟨e, _⟩ | g
  ·cases e
  ·exact Y.k2 a' r' g
 k4 := fun l a' b' r' g1 g => by
  rcases kn_cons g with ⟨e, _⟩ | g
  ·cases e
  ·exact Y.k4 l a' b' r' g1 g
 k3 := fun a' b' r' g => by
  rcases kn_cons g with ⟨_, e1, e2, e3⟩ | g
  ·rw [e1, e2, e3]
   exact h
  ·exact Y.k3 a' b' r' g
 k6 := fun a' b' r' g => by
  rcases kn_cons g with ⟨e, _⟩ | g
  ·cases e
  ·exact Y.k6 a' b' r' g
 k5 := fun a' r' g => by
  rcases kn_cons g with ⟨e, _⟩ | g
  ·cases e
  ·exact Y.k5 a' r' g
theorem ask_true : AskTrue (sx Tryz.prog N H K L C Z pr) (fun X => Hy N (X ++ H) L C Z q σ) (fun d => q d = 0) := fun X Y a ha => by
 obtain ⟨k, a, b, d⟩ := a
 have t1 : Nat.beq 1 1 = true := rfl
 have t0 : Nat.beq 1 0 ≠ true := fun h => by cases h
 unfold askOk at ha
 rw [Bool.or_eq_true] at ha
 rcases ha with ha | ha
 ·simp only [Bool.and_eq_true, Nat.beq_eq] at ha
  obtain ⟨rfl, rfl, rfl⟩ := ha
  exact ⟨fun h => Hy.add0 Y ⟨fun _ => h, fun _ => t1⟩, fun h => Hy.add0 Y ⟨fun g => (t0 g).elim, fun g => (h g).elim⟩⟩
 ·rw [Bool.and_eq_true, Nat.beq_eq] at ha
  obtain ⟨rfl, hb⟩ := ha
  split at hb
  ·rename_i op ar hn
   rw [Bool.and_eq_true, Nat.beq_eq] at hb
   obtain ⟨rfl, hb⟩ := hb
   have e := beqL_eq hb
   subst e
   have hv : q d = q a - q b := Y.nat d _ hn
   have h2 : q d = 0 ↔ q a = q b := by
    rw [hv]
    constructor <;> intro h <;> grind
   exact ⟨fun h => Hy.add3 Y ⟨fun _ => h2.1 h, fun _ => t1⟩, fun h => Hy.add3 Y ⟨fun g => (t0 g).elim, fun g => (h (h2.2 g)).elim⟩⟩
  ·cases hb
theorem sq_nn (y : Rat) : 0 ≤ y * y := by
 by_cases h : y = 0
 ·rw [h, Rat.zero_mul]
  exact Rat.le_refl
 ·exact Rat.le_of_lt (sq1_pos h)
theorem sq_sum {x y : Rat} (hx : 0 ≤ x) : x + y * y = 0 ↔ x = 0 ∧ y = 0 := by
 constructor
 ·intro h
  have h2 := sq_nn y
  have h3 : x = 0 := by grind
  refine ⟨h3, ?_⟩
  have : y * y = 0 := by grind
  rcases Rat.mul_eq_zero.1 this with g | g <;> exact g
 ·rintro ⟨rfl, rfl⟩
  grind
theorem sqF_val {H' : List (Nat × Nat × Nat × Nat)} (Y : Hy N H' L C Z q σ) : ∀ {l : List Nat} {s t : Nat}, sqF (sx Tryz.prog N H K L C Z pr) s l = some t → 0 ≤ q s → 0 ≤ q t ∧ (q t = 0 ↔ q s = 0 ∧ ∀ d ∈ l, q d = 0)
 | [], s, t, h, hs => by
  cases h
  exact ⟨hs, fun e => ⟨e, fun d hd => by cases hd⟩, fun e => e.1⟩
 | a :: l, s, t, h, hs => by
  unfold sqF at h
  simp only [Option.bind_eq_some_iff] at h
  obtain ⟨b, h1, c, h2, h3⟩ := h
  have e1 : q b = q a * q a := Hy.nd (H := H') (K := K) (pr := pr) Y h1
  have e2 : q c = q s + q b := Hy.nd (H := H') (K := K) (pr := pr) Y h2
  have n := sq_nn (q a)
  obtain ⟨g1, g2⟩ := sqF_val Y h3 (by grind)
  refine ⟨g1, g2.trans ?_⟩
  have e3 := sq_sum (y := q a) hs
  rw [e2, e1, e3]
  constructor
  ·rintro ⟨⟨x, y⟩, z⟩
   refine ⟨x, fun d hd => ?_⟩
   rcases List.mem_cons.1 hd with rfl | hd
   ·exact y
   ·exact z d hd
  ·rintro ⟨x, y⟩
   exact ⟨⟨x, y a List.mem_cons_self⟩, fun d hd => y d (List.mem_cons_of_mem _ hd)⟩
theorem sqN_val {H' : List (Nat × Nat × Nat × Nat)} (Y : Hy N H' L C Z q σ) {l : List Nat} {s : Nat} (h : sqN (sx Tryz.prog N H K L C Z pr) l = some s) : q s = 0 ↔ ∀ d ∈ l, q d = 0 := by
 unfold sqN at h
 split at h
 ·cases h
 ·rename_i a l
  rw [Option.bind_eq_some_iff] at h
  obtain ⟨b, h1, h2⟩ := h
  have e1 : q b = q a * q a := Hy.nd (H := H') (K := K) (pr := pr) Y h1
  have n := sq_nn (q a)
  obtain ⟨_, g⟩ := sqF_val Y h2 (by grind)
  rw [g, e1]
  constructor
  ·rintro ⟨x, y⟩ d hd
   rcases List.mem_cons.1 hd with rfl | hd
   ·rcases Rat.mul_eq_zero.1 x with x | x <;> exact x
   ·exact y d hd
  ·intro y
   refine ⟨?_, fun d hd => y d (List.mem_cons_of_mem _ hd)⟩
   rw [y a List.mem_cons_self, Rat.zero_mul]
theorem run_cases {f : FuncId} {args : List AV} {vs : List Value} {k : Nat} {p : List HB × Nat} {b : Bool} (Y : Hy N H L C Z q σ) (hm : (Tryz.prog).follows .mixedOrders = true) {w : World} (hP : ∀ H', Hy N H' L C Z q σ → PrimOk (sx Tryz.prog N H' K L C Z pr) (evS q σ) w) (hr : callC (sx Tryz.prog N H K L C Z pr) cs k [] f args [] 0 = some (kB b, p))
  (hA : A2 (avOn (cOn (evS q σ) K (fun _ => none) w)) args vs) : Calls Tryz.prog f vs.toArray w fun e w' => Below w.heap.size w w' ∧ e = .returned (.bool b) := by
 refine (callC_ok (S := sx Tryz.prog N H K L C Z pr) (E := evS q σ) (w0 := w) (T := fun X => Hy N (X ++ H) L C Z q σ) (z := fun d => q d = 0) hm (fun X hX => knows hX) (fun X hX => hP _ hX) ask_true ?_ k [] Y f args [] 0 (kB b, p) hr (fun _ => none) w vs ⟨Below.refl _ _, (fun _ _ h => by cases h)⟩ hA (fun x hx => by cases hx) (fun x hx => by cases hx) (fun _ _ _ => rfl)).mono ?_
 ·intro X hX l s r h1 h2
  have e := hX.k0 s r h2
  have g := sqN_val hX h1
  refine ⟨fun h => g.1 (e.1 h), fun h => ?_⟩
  have hn : ¬ ∀ d ∈ l, q d = 0 := fun q' => by
   rw [e.2 (g.2 q')] at h
   cases h
  simpa using hn
 ·rintro _ w' ⟨r, γ', rfl, hef, hv, _⟩
  exact ⟨hef.wi.bel, by rw [show r = .bool b from (asC_on (v := kB b) (c := .inl (.bool b)) rfl hv).1]⟩
theorem run_toldC {f : FuncId} {args : List AV} {vs : List Value} {k : Nat} {p : List HB × Nat} {b : Bool} (Y : Hy N H L C Z q σ) (hc : ∀ f ∈ cl, Closed f) (hm : (Tryz.prog).follows .mixedOrders = true) (hr : callC (sx Tryz.prog N H K L C Z (prC cl)) cs k [] f args [] 0 = some (kB b, p)) {w : World} (hp : PreS w)
  (hA : A2 (avOn (cOn (evS q σ) K (fun _ => none) w)) args vs) : Calls Tryz.prog f vs.toArray w fun e w' => Below w.heap.size w w' ∧ e = .returned (.bool b) := run_cases Y hm (fun _ Y' => primOk Y' hp hc) hr hA
theorem run_toldC' {f : FuncId} {args : List AV} {vs : List Value} (k : Nat) (Y : Hy N H L C Z q σ) (hc : ∀ f ∈ cl, Closed f) (hm : (Tryz.prog).follows .mixedOrders = true) (hr : (callC (sx Tryz.prog N H K L C Z (prC cl)) cs k [] f args [] 0).map (·.1) = some (kB true)) {w : World} (hp : PreS w)
  (hA : A2 (avOn (cOn (evS q σ) K (fun _ => none) w)) args vs) : Calls Tryz.prog f vs.toArray w fun e w' => Below w.heap.size w w' ∧ e = .returned (.bool true) := by
 rw [Option.map_eq_some_iff] at hr
 obtain ⟨⟨v, p⟩, h1, h2⟩ := hr
 dsimp only at h2
 subst h2
 exact run_toldC Y hc hm h1 hp hA
theorem trip_fac {x y z g a b c : Rat} (h : ¬ ((x = 0 ∧ y = 0) ∧ z = 0)) (hg : g ≠ 0) (ha : a = x * g) (hb : b = y * g) (hc : c = z * g) : ¬ ((a = 0 ∧ b = 0) ∧ c = 0) := by
 rintro ⟨⟨h1, h2⟩, h3⟩
 rw [ha] at h1
 rw [hb] at h2
 rw [hc] at h3
 exact h ⟨⟨(Rat.mul_eq_zero.1 h1).resolve_right hg, (Rat.mul_eq_zero.1 h2).resolve_right hg⟩, (Rat.mul_eq_zero.1 h3).resolve_right hg⟩
theorem sq_first {u x : Rat} (h : u = x * x) : 0 ≤ u ∧ (u = 0 ↔ x = 0) := by
 rw [h]
 exact ⟨sq_nn x, fun e => (Rat.mul_eq_zero.1 e).elim id id, fun e => by rw [e, Rat.zero_mul]⟩
theorem sq_next {p : Prop} {s x v t : Rat} (h : 0 ≤ s ∧ (s = 0 ↔ p)) (hv : v = x * x) (ht : t = s + v) : 0 ≤ t ∧ (t = 0 ↔ (p ∧ x = 0)) := by
 have n := sq_nn x
 refine ⟨by have := h.1; grind, ?_⟩
 rw [ht, hv, sq_sum h.1, h.2]
end
end Go.Proofs.YtkcikcnimkofkaaGreatDoor
/- CFprojected -/
namespace Go.Proofs.YtkcikcnimkofkaaGreatDoor
open Go.RowKit Cx
theorem closed_projected : Closed 21 :=
 closed_told (N := [(0, [0, 1, 1]), (0, [0, 0, 1]), (8, [0, 0, 1, 1]), (8, [1, 0, 1, 1]), (8, [2, 0, 1, 1]), (8, [0, 1, 0, 0]), (8, [1, 1, 0, 0]), (8, [2, 1, 0, 0]), (4, [3, 7]), (4, [4, 6]), (3, [8, 9]), (4, [4, 5]), (4, [2, 7]), (3, [11, 12]), (4, [2, 6]), (4, [3, 5]), (3, [14, 15]), (8, [0, 10, 13, 16]), (8, [1, 10, 13, 16]), (8, [2, 10, 13, 16]), (8, [0, 1, 0, 1]), (8, [1, 1, 0, 1]), (8, [2, 1, 0, 1]), (4, [3, 22]), (4, [4, 21]), (3, [23, 24]), (4, [4, 20]), (4, [2, 22]), (3, [26, 27]), (4, [2, 21]), (4, [3, 20]), (3, [29, 30]), (8, [0, 0, 0, 1]), (8, [1, 0, 0, 1]), (8, [2, 0, 0, 1]), (4, [3, 34]), (4, [4, 33]), (3, [35, 36]), (4, [4, 32]), (4, [2, 34]), (3, [38, 39]), (4, [2, 33]), (4, [3, 32]), (3, [41, 42]), (4, [21, 34]), (4, [22, 33]), (3, [44, 45]), (4, [22, 32]), (4, [20, 34]), (3, [47, 48]), (4, [20, 33]), (4, [21, 32]), (3, [50, 51]), (4, [32, 25]), (2, [1, 53]), (4, [33, 28]), (2, [54, 55]), (4, [34, 31]), (2, [56, 57]), (4, [33, 22]), (4, [34, 21]), (3, [59, 60]), (4, [34, 20]), (4, [32, 22]), (3, [62, 63]), (4, [32, 21]), (4, [33, 20]), (3, [65, 66]), (4, [61, 25]), (2, [1, 68]), (4, [64, 28]), (2, [69, 70]), (4, [67, 31]), (2, [71, 72]), (4, [37, 25]), (2, [1, 74]), (4, [40, 28]), (2, [75, 76]), (4, [43, 31]), (2, [77, 78]), (4, [2, 73]), (4, [3, 73]), (4, [4, 73]), (5, [79]), (4, [20, 83]), (4, [21, 83]), (4, [22, 83]), (2, [80, 84]), (2, [81, 85]), (2, [82, 86]), (8, [0, 87, 88, 89]), (8, [1, 87, 88, 89]), (8, [2, 87, 88, 89]), (0, [0, 2, 1]), (8, [0, 0, 93, 1]), (8, [1, 0, 93, 1]), (8, [2, 0, 93, 1]), (4, [3, 96]), (4, [4, 95]), (3, [97, 98]), (4, [4, 94]), (4, [2, 96]), (3, [100, 101]), (4, [2, 95]), (4, [3, 94]), (3, [103, 104]), (4, [21, 96]), (4, [22, 95]), (3, [106, 107]), (4, [22, 94]), (4, [20, 96]), (3, [109, 110]), (4, [20, 95]), (4, [21, 94]), (3, [112, 113]), (4, [33, 96]), (4, [34, 95]), (3, [115, 116]), (4, [34, 94]), (4, [32, 96]), (3, [118, 119]), (4, [32, 95]), (4, [33, 94]), (3, [121, 122]), (4, [94, 25]), (2, [1, 124]), (4, [95, 28]), (2, [125, 126]), (4, [96, 31]), (2, [127, 128]), (4, [95, 22]), (4, [96, 21]), (3, [130, 131]), (4, [96, 20]), (4, [94, 22]), (3, [133, 134]), (4, [94, 21]), (4, [95, 20]), (3, [136, 137]), (4, [132, 25]), (2, [1, 139]), (4, [135, 28]), (2, [140, 141]), (4, [138, 31]), (2, [142, 143]), (4, [99, 25]), (2, [1, 145]), (4, [102, 28]), (2, [146, 147]), (4, [105, 31]), (2, [148, 149]), (6, [79, 73]), (6, [144, 150]), (4, [151, 152]), (0, [1, 1, 1]), (0, [0, 1, 2])]) (H := [(0, 0, 0, 0), (0, 1, 0, 1), (0, 10, 0, 1), (0, 13, 0, 0), (0, 25, 0, 1), (0, 28, 0, 1), (0, 31, 0, 0), (0, 37, 0, 1), (0, 40, 0, 1), (0, 43, 0, 0), (0, 46, 0, 1), (0, 49, 0, 1), (0, 52, 0, 0), (0, 58, 0, 1), (0, 99, 0, 1), (0, 102, 0, 1), (0, 105, 0, 0), (0, 108, 0, 1), (0, 111, 0, 1), (0, 114, 0, 0), (0, 117, 0, 1), (0, 120, 0, 1), (0, 123, 0, 0), (0, 129, 0, 1), (4, 17, 1, 1), (4, 18, 0, 1), (4, 19, 154, 1), (4, 90, 0, 1), (4, 91, 154, 1), (4, 92, 1, 1), (4, 153, 155, 1)]) (K := []) (L := [([49], 0), ([48], 1), ([50], 93), ([45, 49], 154), ([49, 47, 50], 155)]) (C := [([48], 1), ([49], 0), ([45, 49], 154), ([49, 47, 50], 155)]) (Z := [2, 2, 9, 9, 9, 9, 9, 9, 18, 18, 37, 18, 18, 37, 18, 18, 37, 149, 149, 149, 9, 9, 9, 18, 18, 37, 18, 18, 37, 18, 18, 37, 9, 9, 9, 18, 18, 37, 18, 18, 37, 18, 18, 37, 18, 18, 37, 18, 18, 37, 18, 18, 37, 46, 49, 46, 96, 46, 143, 18, 18, 37, 18, 18, 37, 18, 18, 37, 74, 77, 74, 152, 74, 227, 74, 77, 74, 152, 74, 227, 236, 236, 236, 227, 236, 236, 236, 473, 473, 473, 1893, 1893, 1893, 3, 13, 13, 13, 22, 22, 45, 22, 22, 45, 22, 22, 45, 22, 22, 45, 22, 22, 45, 22, 22, 45, 22, 22, 45, 22, 22, 45, 22, 22, 45, 50, 53, 50, 104, 50, 155, 22, 22, 45, 22, 22, 45, 22, 22, 45, 82, 85, 82, 168, 82, 251, 82, 85, 82, 168, 82, 251, 454, 502, 956, 2, 3]) (cl := []) 6 (fun _ h => by cases h) (by kernel_rfl) (by kernel_rfl) (by kernel_rfl) (by kernel_rfl) (by kernel_rfl) (by kernel_rfl) (by kernel_rfl)
end Go.Proofs.YtkcikcnimkofkaaGreatDoor
/- MPQ -/
namespace Go.Proofs.YtkcikcnimkofkaaGreatDoor
open Go.RowKit Cx
def pQ_N : List Nd := [(1, [0]), (1, [1]), (1, [2]), (1, [3]), (1, [4]), (1, [5]), (1, [12]), (4, [6, 0]), (1, [13]), (4, [8, 3]), (2, [7, 9]), (4, [6, 1]), (4, [8, 4]), (2, [11, 12]), (4, [6, 2]), (4, [8, 5]), (2, [14, 15]), (1, [6]), (1, [7]), (1, [8]), (1, [9]), (1, [10]), (1, [11]), (1, [14]), (4, [23, 17]), (1, [15]), (4, [25, 20]), (2, [24, 26]), (4, [23, 18]), (4, [25, 21]), (2, [28, 29]), (4, [23, 19]), (4, [25, 22]), (2, [31, 32]), (4, [0, 0]), (4, [1, 1]), (2, [34, 35]), (4, [2, 2]), (2, [36, 37]), (4, [3, 3]), (4, [4, 4]), (2, [39, 40]), (4, [5, 5]), (2, [41, 42]), (0, [0, 0, 1]), (4, [44, 44]), (2, [45, 45]), (2, [46, 45]), (8, [0, 3, 4, 5]), (8, [1, 3, 4, 5]), (8, [2, 3, 4, 5]), (4, [17, 17]), (4, [18, 18]), (2, [51, 52]), (4, [19, 19]), (2, [53, 54]), (8, [0, 17, 18, 19]), (8, [1, 17, 18, 19]), (8, [2, 17, 18, 19]), (4, [49, 58]), (4, [50, 57]), (3, [59, 60]), (4, [50, 56]), (4, [48, 58]), (3, [62, 63]), (4, [48, 57]), (4, [49, 56]), (3, [65, 66]), (4, [61, 61]), (4, [64, 64]), (2, [68, 69]), (4, [67, 67]), (2, [70, 71]), (8, [0, 61, 64, 67]), (8, [1, 61, 64, 67]), (8, [2, 61, 64, 67]), (8, [0, 0, 1, 2]), (8, [1, 0, 1, 2]), (8, [2, 0, 1, 2]), (4, [20, 20]), (4, [21, 21]), (2, [79, 80]), (4, [22, 22]), (2, [81, 82]), (8, [0, 20, 21, 22]), (8, [1, 20, 21, 22]), (8, [2, 20, 21, 22]), (4, [77, 86]), (4, [78, 85]), (3, [87, 88]), (4, [78, 84]), (4, [76, 86]), (3, [90, 91]), (4, [76, 85]), (4, [77, 84]), (3, [93, 94]), (4, [89, 89]), (4, [92, 92]), (2, [96, 97]), (4, [95, 95]), (2, [98, 99]), (8, [0, 89, 92, 95]), (8, [1, 89, 92, 95]), (8, [2, 89, 92, 95]), (4, [101, 101]), (4, [102, 102]), (2, [104, 105]), (4, [103, 103]), (2, [106, 107]), (8, [0, 101, 102, 103]), (8, [1, 101, 102, 103]), (8, [2, 101, 102, 103]), (4, [73, 73]), (4, [74, 74]), (2, [112, 113]), (4, [75, 75]), (2, [114, 115]), (8, [0, 73, 74, 75]), (8, [1, 73, 74, 75]), (8, [2, 73, 74, 75]), (4, [110, 119]), (4, [111, 118]), (3, [120, 121]), (4, [111, 117]), (4, [109, 119]), (3, [123, 124]), (4, [109, 118]), (4, [110, 117]), (3, [126, 127]), (4, [122, 122]), (4, [125, 125]), (2, [129, 130]), (4, [128, 128]), (2, [131, 132]), (8, [0, 122, 125, 128]), (8, [1, 122, 125, 128]), (8, [2, 122, 125, 128]), (4, [27, 27]), (4, [30, 30]), (2, [137, 138]), (4, [33, 33]), (2, [139, 140]), (4, [10, 10]), (4, [13, 13]), (2, [142, 143]), (4, [16, 16]), (2, [144, 145]), (8, [0, 10, 13, 16]), (8, [1, 10, 13, 16]), (8, [2, 10, 13, 16]), (4, [148, 86]), (4, [149, 85]), (3, [150, 151]), (4, [149, 84]), (4, [147, 86]), (3, [153, 154]), (4, [147, 85]), (4, [148, 84]), (3, [156, 157]), (4, [152, 152]), (4, [155, 155]), (2, [159, 160]), (4, [158, 158]), (2, [161, 162]), (8, [0, 152, 155, 158]), (8, [1, 152, 155, 158]), (8, [2, 152, 155, 158]), (8, [0, 27, 30, 33]), (8, [1, 27, 30, 33]), (8, [2, 27, 30, 33]), (4, [49, 169]), (4, [50, 168]), (3, [170, 171]), (4, [50, 167]), (4, [48, 169]), (3, [173, 174]), (4, [48, 168]), (4, [49, 167]), (3, [176, 177]), (4, [172, 172]), (4, [175, 175]), (2, [179, 180]), (4, [178, 178]), (2, [181, 182]), (8, [0, 172, 175, 178]), (8, [1, 172, 175, 178]), (8, [2, 172, 175, 178]), (4, [184, 184]), (4, [185, 185]), (2, [187, 188]), (4, [186, 186]), (2, [189, 190]), (8, [0, 184, 185, 186]), (8, [1, 184, 185, 186]), (8, [2, 184, 185, 186]), (4, [164, 164]), (4, [165, 165]), (2, [195, 196]), (4, [166, 166]), (2, [197, 198]), (8, [0, 164, 165, 166]), (8, [1, 164, 165, 166]), (8, [2, 164, 165, 166]), (4, [193, 202]), (4, [194, 201]), (3, [203, 204]), (4, [194, 200]), (4, [192, 202]), (3, [206, 207]), (4, [192, 201]), (4, [193, 200]), (3, [209, 210]), (4, [205, 205]), (4, [208, 208]), (2, [212, 213]), (4, [211, 211]), (2, [214, 215]), (8, [0, 205, 208, 211]), (8, [1, 205, 208, 211]), (8, [2, 205, 208, 211]), (4, [148, 58]), (4, [149, 57]), (3, [220, 221]), (4, [149, 56]), (4, [147, 58]), (3, [223, 224]), (4, [147, 57]), (4, [148, 56]), (3, [226, 227]), (4, [222, 222]), (4, [225, 225]), (2, [229, 230]), (4, [228, 228]), (2, [231, 232]), (4, [77, 169]), (4, [78, 168]), (3, [234, 235]), (4, [78, 167]), (4, [76, 169]), (3, [237, 238]), (4, [76, 168]), (4, [77, 167]), (3, [240, 241]), (4, [236, 236]), (4, [239, 239]), (2, [243, 244]), (4, [242, 242]), (2, [245, 246]), (8, [0, 236, 239, 242]), (8, [1, 236, 239, 242]), (8, [2, 236, 239, 242]), (8, [0, 222, 225, 228]), (8, [1, 222, 225, 228]), (8, [2, 222, 225, 228]), (4, [251, 251]), (4, [252, 252]), (2, [254, 255]), (4, [253, 253]), (2, [256, 257]), (8, [0, 251, 252, 253]), (8, [1, 251, 252, 253]), (8, [2, 251, 252, 253]), (4, [248, 248]), (4, [249, 249]), (2, [262, 263]), (4, [250, 250]), (2, [264, 265]), (8, [0, 248, 249, 250]), (8, [1, 248, 249, 250]), (8, [2, 248, 249, 250]), (4, [260, 269]), (4, [261, 268]), (3, [270, 271]), (4, [261, 267]), (4, [259, 269]), (3, [273, 274]), (4, [259, 268]), (4, [260, 267]), (3, [276, 277]), (4, [272, 272]), (4, [275, 275]), (2, [279, 280]), (4, [278, 278]), (2, [281, 282]), (8, [0, 272, 275, 278]), (8, [1, 272, 275, 278]), (8, [2, 272, 275, 278]), (4, [218, 286]), (4, [219, 285]), (3, [287, 288]), (4, [134, 289]), (4, [217, 286]), (4, [219, 284]), (3, [291, 292]), (4, [135, 293]), (5, [294]), (4, [217, 285]), (4, [218, 284]), (3, [296, 297]), (4, [136, 298]), (2, [290, 295]), (2, [300, 299])]
def pQ_L : List (List Nat × Nat) := [([], 44)]
def pQ_C : List (List Nat × Nat) := []
def pQ_Z : List Nat := [3495259, 3495259, 3495259, 3495259, 3495259, 3495259, 3495259, 6990518, 3495259, 6990518, 13981037, 6990518, 6990518, 13981037, 6990518, 6990518, 13981037, 3495259, 3495259, 3495259, 3495259, 3495259, 3495259, 3495259, 6990518, 3495259, 6990518, 13981037, 6990518, 6990518, 13981037, 6990518, 6990518, 13981037, 6990518, 6990518, 13981037, 6990518, 20971556, 6990518, 6990518, 13981037, 6990518, 20971556, 2, 4, 5, 6, 13981037, 13981037, 13981037, 6990518, 6990518, 13981037, 6990518, 20971556, 13981037, 13981037, 13981037, 27962074, 27962074, 27962075, 27962074, 27962074, 27962075, 27962074, 27962074, 27962075, 55924150, 55924150, 55924151, 55924150, 55924152, 27962076, 27962076, 27962076, 13981037, 13981037, 13981037, 6990518, 6990518, 13981037, 6990518, 20971556, 13981037, 13981037, 13981037, 27962074, 27962074, 27962075, 27962074, 27962074, 27962075, 27962074, 27962074, 27962075, 55924150, 55924150, 55924151, 55924150, 55924152, 27962076, 27962076, 27962076, 55924152, 55924152, 55924153, 55924152, 55924154, 27962077, 27962077, 27962077, 55924152, 55924152, 55924153, 55924152, 55924154, 27962077, 27962077, 27962077, 55924154, 55924154, 55924155, 55924154, 55924154, 55924155, 55924154, 55924154, 55924155, 111848310, 111848310, 111848311, 111848310, 111848312, 55924156, 55924156, 55924156, 27962074, 27962074, 55924149, 27962074, 83886224, 27962074, 27962074, 55924149, 27962074, 83886224, 55924149, 55924149, 55924149, 69905186, 69905186, 69905187, 69905186, 69905186, 69905187, 69905186, 69905186, 69905187, 139810374, 139810374, 139810375, 139810374, 139810376, 69905188, 69905188, 69905188, 55924149, 55924149, 55924149, 69905186, 69905186, 69905187, 69905186, 69905186, 69905187, 69905186, 69905186, 69905187, 139810374, 139810374, 139810375, 139810374, 139810376, 69905188, 69905188, 69905188, 139810376, 139810376, 139810377, 139810376, 139810378, 69905189, 69905189, 69905189, 139810376, 139810376, 139810377, 139810376, 139810378, 69905189, 69905189, 69905189, 139810378, 139810378, 139810379, 139810378, 139810378, 139810379, 139810378, 139810378, 139810379, 279620758, 279620758, 279620759, 279620758, 279620760, 139810380, 139810380, 139810380, 69905186, 69905186, 69905187, 69905186, 69905186, 69905187, 69905186, 69905186, 69905187, 139810374, 139810374, 139810375, 139810374, 139810376, 69905186, 69905186, 69905187, 69905186, 69905186, 69905187, 69905186, 69905186, 69905187, 139810374, 139810374, 139810375, 139810374, 139810376, 69905188, 69905188, 69905188, 69905188, 69905188, 69905188, 139810376, 139810376, 139810377, 139810376, 139810378, 69905189, 69905189, 69905189, 139810376, 139810376, 139810377, 139810376, 139810378, 69905189, 69905189, 69905189, 139810378, 139810378, 139810379, 139810378, 139810378, 139810379, 139810378, 139810378, 139810379, 279620758, 279620758, 279620759, 279620758, 279620760, 139810380, 139810380, 139810380, 279620760, 279620760, 279620761, 335544917, 279620760, 279620760, 279620761, 335544917, 335544917, 279620760, 279620760, 279620761, 335544917, 335544918, 335544919]
def pQ_I : List Bool := [false, false, false, false, false, false, false, false, false, false, false, false, false, false, false, false, false, false, false, false, false, false, false, false, false, false, false, false, false, false, false, false, false, false, false, false, false, false, false, false, false, false, false, false, true, true, true, true, true, true, true, false, false, false, false, false, true, true, true, true, true, true, true, true, true, true, true, true, true, true, true, true, true, true, true, true, true, true, true, false, false, false, false, false, true, true, true, true, true, true, true, true, true, true, true, true, true, true, true, true, true, true, true, true, true, true, true, true, true, true, true, true, true, true, true, true, true, true, true, true, true, true, true, true, true, true, true, true, true, true, true, true, true, true, true, true, true, false, false, false, false, false, false, false, false, false, false, true, true, true, true, true, true, true, true, true, true, true, true, true, true, true, true, true, true, true, true, true, true, true, true, true, true, true, true, true, true, true, true, true, true, true, true, true, true, true, true, true, true, true, true, true, true, true, true, true, true, true, true, true, true, true, true, true, true, true, true, true, true, true, true, true, true, true, true, true, true, true, true, true, true, true, true, true, true, true, true, true, true, true, true, true, true, true, true, true, true, true, true, true, true, true, true, true, true, true, true, true, true, true, true, true, true, true, true, true, true, true, true, true, true, true, true, true, true, true, true, true, true, true, true, true, true, true, true, true, true, true, true, true, true, true, true, true, true, true, true, true, true, true, true, true, true, true, true, true, true, true, true, true, true, true]
theorem pQ_wf : wfB 0 pQ_N = true := by kernel_rfl
theorem pQ_sz : szC pQ_Z pQ_I pQ_N pQ_Z pQ_I = true := by kernel_rfl
theorem pQ_lt : litB pQ_N pQ_L = true := by kernel_rfl
theorem pQ_cn : canB pQ_N pQ_C = true := by kernel_rfl
theorem pQ_c44 : cst 0 0 1 = (0 : Rat) := by decide +kernel
theorem fac3_ne {x y z : Rat} (h : ¬ ((x = 0 ∧ y = 0) ∧ z = 0)) : fac [x, y, z] ≠ 0 := fun e => h ⟨⟨fac_zero (by simp) e, fac_zero (by simp) e⟩, fac_zero (by simp) e⟩
theorem inv_ex {g : Rat} (h : g ≠ 0) : ∃ i, g * i = 1 := ⟨g⁻¹, Rat.mul_inv_cancel _ h⟩
theorem pl_m {x y z p q r G H s : Rat} (hx : x = p * G) (hy : y = q * H) (hz : z = x * y) (hr : r = p * q) (hs : s = G * H) : z = r * s := by
 rw [hz, hx, hy, hr, hs]; grind
theorem pl_w {x y z p q r G H s : Rat} (hx : x = p * G) (hy : y = q * H) (hz : z = x * y) (hr : r = p * q) (hs : s = H * G) : z = r * s := by
 rw [hz, hx, hy, hr, hs]; grind
theorem pl_s {x y z p q r G : Rat} (hx : x = p * G) (hy : y = q * G) (hz : z = x - y) (hr : r = p - q) : z = r * G := by
 rw [hz, hx, hy, hr]; grind
theorem pl_a {x y z p q r G : Rat} (hx : x = p * G) (hy : y = q * G) (hz : z = x + y) (hr : r = p + q) : z = r * G := by
 rw [hz, hx, hy, hr]; grind
theorem pl_n {x z p r G : Rat} (hx : x = p * G) (hz : z = -x) (hr : r = -p) : z = r * G := by
 rw [hz, hx, hr]; grind
theorem pl_8 {x z p G g s : Rat} (hx : x = p * G) (hz : z = x * g) (hs : s = G * g) : z = p * s := by
 rw [hz, hx, hs]; grind
theorem pl_1 (x : Rat) : x = x * 1 := (Rat.mul_one x).symm
theorem pl_0 {z p s : Rat} (h : z = p * s) (hp : p = 0) : z = 0 := by rw [h, hp, Rat.zero_mul]
theorem pq_meet (u1 u2 u3 v1 v2 v3 w1 w2 w3 x1 x2 x3 : Rat) :
  ((u3 * v1 - u1 * v3) * (w1 * x2 - w2 * x1) - (u1 * v2 - u2 * v1) * (w3 * x1 - w1 * x3) = (u1 * (v2 * x3 - v3 * x2) - u2 * (v1 * x3 - v3 * x1) + u3 * (v1 * x2 - v2 * x1)) * w1 - (u1 * (v2 * w3 - v3 * w2) - u2 * (v1 * w3 - v3 * w1) + u3 * (v1 * w2 - v2 * w1)) * x1) ∧
  ((u1 * v2 - u2 * v1) * (w2 * x3 - w3 * x2) - (u2 * v3 - u3 * v2) * (w1 * x2 - w2 * x1) = (u1 * (v2 * x3 - v3 * x2) - u2 * (v1 * x3 - v3 * x1) + u3 * (v1 * x2 - v2 * x1)) * w2 - (u1 * (v2 * w3 - v3 * w2) - u2 * (v1 * w3 - v3 * w1) + u3 * (v1 * w2 - v2 * w1)) * x2) ∧
  ((u2 * v3 - u3 * v2) * (w3 * x1 - w1 * x3) - (u3 * v1 - u1 * v3) * (w2 * x3 - w3 * x2) = (u1 * (v2 * x3 - v3 * x2) - u2 * (v1 * x3 - v3 * x1) + u3 * (v1 * x2 - v2 * x1)) * w3 - (u1 * (v2 * w3 - v3 * w2) - u2 * (v1 * w3 - v3 * w1) + u3 * (v1 * w2 - v2 * w1)) * x3) := by
 refine ⟨?_, ?_, ?_⟩ <;> grind
theorem pq_lin (a1 a2 a3 b1 b2 b3 c1 c2 c3 d1 d2 d3 f0 g0 e1 f1 h1 e2 g2 h2 : Rat) : (f0 * b1 + g0 * c1) * ((e1 * a2 + f1 * b2 + h1 * d2) * (e2 * a3 + g2 * c3 + h2 * d3) - (e1 * a3 + f1 * b3 + h1 * d3) * (e2 * a2 + g2 * c2 + h2 * d2)) + -((f0 * b2 + g0 * c2) * ((e1 * a1 + f1 * b1 + h1 * d1) * (e2 * a3 + g2 * c3 + h2 * d3) - (e1 * a3 + f1 * b3 + h1 * d3) * (e2 * a1 + g2 * c1 + h2 * d1))) + (f0 * b3 + g0 * c3) * ((e1 * a1 + f1 * b1 + h1 * d1) * (e2 * a2 + g2 * c2 + h2 * d2) - (e1 * a2 + f1 * b2 + h1 * d2) * (e2 * a1 + g2 * c1 + h2 * d1)) = f0 * (e1 * (-(g2 * (a1 * (b2 * c3 - b3 * c2) - a2 * (b1 * c3 - b3 * c1) + a3 * (b1 * c2 - b2 * c1))) - h2 * (a1 * (b2 * d3 - b3 * d2) - a2 * (b1 * d3 - b3 * d1) + a3 * (b1 * d2 - b2 * d1))) + h1 * (e2 * (a1 * (b2 * d3 - b3 * d2) - a2 * (b1 * d3 - b3 * d1) + a3 * (b1 * d2 - b2 * d1)) - g2 * (b1 * (c2 * d3 - c3 * d2) - b2 * (c1 * d3 - c3 * d1) + b3 * (c1 * d2 - c2 * d1)))) + g0 * (e1 * (-(h2 * (a1 * (c2 * d3 - c3 * d2) - a2 * (c1 * d3 - c3 * d1) + a3 * (c1 * d2 - c2 * d1)))) + f1 * (-(e2 * (a1 * (b2 * c3 - b3 * c2) - a2 * (b1 * c3 - b3 * c1) + a3 * (b1 * c2 - b2 * c1))) - h2 * (b1 * (c2 * d3 - c3 * d2) - b2 * (c1 * d3 - c3 * d1) + b3 * (c1 * d2 - c2 * d1))) + h1 * (e2 * (a1 * (c2 * d3 - c3 * d2) - a2 * (c1 * d3 - c3 * d1) + a3 * (c1 * d2 - c2 * d1)))) := by
 grind
theorem pq_main {a1 a2 a3 b1 b2 b3 c1 c2 c3 d1 d2 d3 r1 r2 r3 s1 s2 s3 X01 X02 X03 Y01 Y02 Y03 Z01 Z02 Z03 X11 X12 X13 Y11 Y12 Y13 Z11 Z12 Z13 X21 X22 X23 Y21 Y22 Y23 Z21 Z22 Z23 k0 k1 n0 n1 : Rat} (hr1 : r1 = k0 * a1 + k1 * b1) (hr2 : r2 = k0 * a2 + k1 * b2) (hr3 : r3 = k0 * a3 + k1 * b3) (hs1 : s1 = n0 * c1 + n1 * d1) (hs2 : s2 = n0 * c2 + n1 * d2) (hs3 : s3 = n0 * c3 + n1 * d3)
  (x01 : X01 = a2 * d3 - a3 * d2) (x02 : X02 = a3 * d1 - a1 * d3) (x03 : X03 = a1 * d2 - a2 * d1) (y01 : Y01 = b2 * c3 - b3 * c2) (y02 : Y02 = b3 * c1 - b1 * c3) (y03 : Y03 = b1 * c2 - b2 * c1) (z01 : Z01 = X02 * Y03 - X03 * Y02) (z02 : Z02 = X03 * Y01 - X01 * Y03) (z03 : Z03 = X01 * Y02 - X02 * Y01) (x11 : X11 = b2 * s3 - b3 * s2) (x12 : X12 = b3 * s1 - b1 * s3) (x13 : X13 = b1 * s2 - b2 * s1) (y11 : Y11 = r2 * d3 - r3 * d2) (y12 : Y12 = r3 * d1 - r1 * d3) (y13 : Y13 = r1 * d2 - r2 * d1) (z11 : Z11 = X12 * Y13 - X13 * Y12) (z12 : Z12 = X13 * Y11 - X11 * Y13) (z13 : Z13 = X11 * Y12 - X12 * Y11) (x21 : X21 = r2 * c3 - r3 * c2) (x22 : X22 = r3 * c1 - r1 * c3) (x23 : X23 = r1 * c2 - r2 * c1) (y21 : Y21 = a2 * s3 - a3 * s2) (y22 : Y22 = a3 * s1 - a1 * s3) (y23 : Y23 = a1 * s2 - a2 * s1) (z21 : Z21 = X22 * Y23 - X23 * Y22) (z22 : Z22 = X23 * Y21 - X21 * Y23) (z23 : Z23 = X21 * Y22 - X22 * Y21) :
  Z01 * (Z12 * Z23 - Z13 * Z22) + -(Z02 * (Z11 * Z23 - Z13 * Z21)) + Z03 * (Z11 * Z22 - Z12 * Z21) = 0 := by
 obtain ⟨A, hA⟩ : ∃ x, x = (b1 * (c2 * d3 - c3 * d2) - b2 * (c1 * d3 - c3 * d1) + b3 * (c1 * d2 - c2 * d1)) := ⟨_, rfl⟩
 obtain ⟨B, hB⟩ : ∃ x, x = (a1 * (c2 * d3 - c3 * d2) - a2 * (c1 * d3 - c3 * d1) + a3 * (c1 * d2 - c2 * d1)) := ⟨_, rfl⟩
 obtain ⟨C, hC⟩ : ∃ x, x = (a1 * (b2 * d3 - b3 * d2) - a2 * (b1 * d3 - b3 * d1) + a3 * (b1 * d2 - b2 * d1)) := ⟨_, rfl⟩
 obtain ⟨E, hE⟩ : ∃ x, x = (a1 * (b2 * c3 - b3 * c2) - a2 * (b1 * c3 - b3 * c1) + a3 * (b1 * c2 - b2 * c1)) := ⟨_, rfl⟩
 have ⟨q01, q02, q03⟩ : Z01 = -B * b1 + C * c1 ∧ Z02 = -B * b2 + C * c2 ∧ Z03 = -B * b3 + C * c3 := by
  have ⟨m1, m2, m3⟩ := pq_meet a1 a2 a3 d1 d2 d3 b1 b2 b3 c1 c2 c3
  have b1_ : (a1 * (d2 * c3 - d3 * c2) - a2 * (d1 * c3 - d3 * c1) + a3 * (d1 * c2 - d2 * c1)) = -B := by
   subst hA hB hC hE hr1 hr2 hr3 hs1 hs2 hs3
   clear m1 m2 m3 x01 x02 x03 x11 x12 x13 x21 x22 x23 y01 y02 y03 y11 y12 y13 y21 y22 y23 z01 z02 z03 z11 z12 z13 z21 z22 z23
   grind
  have b2_ : (a1 * (d2 * b3 - d3 * b2) - a2 * (d1 * b3 - d3 * b1) + a3 * (d1 * b2 - d2 * b1)) = -C := by
   subst hA hB hC hE hr1 hr2 hr3 hs1 hs2 hs3
   clear m1 m2 m3 x01 x02 x03 x11 x12 x13 x21 x22 x23 y01 y02 y03 y11 y12 y13 y21 y22 y23 z01 z02 z03 z11 z12 z13 z21 z22 z23
   grind
  rw [b1_, b2_, ← x02, ← x03, ← y02, ← y03, ← z01] at m1
  rw [b1_, b2_, ← x01, ← x03, ← y01, ← y03, ← z02] at m2
  rw [b1_, b2_, ← x01, ← x02, ← y01, ← y02, ← z03] at m3
  rw [m1, m2, m3]
  clear m1 m2 m3 b1_ b2_ hA hB hC hE x01 x02 x03 x11 x12 x13 x21 x22 x23 y01 y02 y03 y11 y12 y13 y21 y22 y23 z01 z02 z03 z11 z12 z13 z21 z22 z23
  subst hr1 hr2 hr3 hs1 hs2 hs3
  refine ⟨?_, ?_, ?_⟩ <;> grind
 have ⟨q11, q12, q13⟩ : Z11 = n0 * A * k0 * a1 + n0 * A * k1 * b1 + -(k0 * (n0 * E + n1 * C)) * d1 ∧ Z12 = n0 * A * k0 * a2 + n0 * A * k1 * b2 + -(k0 * (n0 * E + n1 * C)) * d2 ∧ Z13 = n0 * A * k0 * a3 + n0 * A * k1 * b3 + -(k0 * (n0 * E + n1 * C)) * d3 := by
  clear q01 q02 q03
  have ⟨m1, m2, m3⟩ := pq_meet b1 b2 b3 s1 s2 s3 r1 r2 r3 d1 d2 d3
  have b1_ : (b1 * (s2 * d3 - s3 * d2) - b2 * (s1 * d3 - s3 * d1) + b3 * (s1 * d2 - s2 * d1)) = n0 * A := by
   subst hA hB hC hE hr1 hr2 hr3 hs1 hs2 hs3
   clear m1 m2 m3 x01 x02 x03 x11 x12 x13 x21 x22 x23 y01 y02 y03 y11 y12 y13 y21 y22 y23 z01 z02 z03 z11 z12 z13 z21 z22 z23
   grind
  have b2_ : (b1 * (s2 * r3 - s3 * r2) - b2 * (s1 * r3 - s3 * r1) + b3 * (s1 * r2 - s2 * r1)) = k0 * (n0 * E + n1 * C) := by
   subst hA hB hC hE hr1 hr2 hr3 hs1 hs2 hs3
   clear m1 m2 m3 x01 x02 x03 x11 x12 x13 x21 x22 x23 y01 y02 y03 y11 y12 y13 y21 y22 y23 z01 z02 z03 z11 z12 z13 z21 z22 z23
   grind
  rw [b1_, b2_, ← x12, ← x13, ← y12, ← y13, ← z11] at m1
  rw [b1_, b2_, ← x11, ← x13, ← y11, ← y13, ← z12] at m2
  rw [b1_, b2_, ← x11, ← x12, ← y11, ← y12, ← z13] at m3
  rw [m1, m2, m3]
  clear m1 m2 m3 b1_ b2_ hA hB hC hE x01 x02 x03 x11 x12 x13 x21 x22 x23 y01 y02 y03 y11 y12 y13 y21 y22 y23 z01 z02 z03 z11 z12 z13 z21 z22 z23
  subst hr1 hr2 hr3 hs1 hs2 hs3
  refine ⟨?_, ?_, ?_⟩ <;> grind
 have ⟨q21, q22, q23⟩ : Z21 = n1 * (k0 * B + k1 * A) * a1 + -(k1 * E * n0) * c1 + -(k1 * E * n1) * d1 ∧ Z22 = n1 * (k0 * B + k1 * A) * a2 + -(k1 * E * n0) * c2 + -(k1 * E * n1) * d2 ∧ Z23 = n1 * (k0 * B + k1 * A) * a3 + -(k1 * E * n0) * c3 + -(k1 * E * n1) * d3 := by
  clear q01 q02 q03 q11 q12 q13
  have ⟨m1, m2, m3⟩ := pq_meet r1 r2 r3 c1 c2 c3 a1 a2 a3 s1 s2 s3
  have b1_ : (r1 * (c2 * s3 - c3 * s2) - r2 * (c1 * s3 - c3 * s1) + r3 * (c1 * s2 - c2 * s1)) = n1 * (k0 * B + k1 * A) := by
   subst hA hB hC hE hr1 hr2 hr3 hs1 hs2 hs3
   clear m1 m2 m3 x01 x02 x03 x11 x12 x13 x21 x22 x23 y01 y02 y03 y11 y12 y13 y21 y22 y23 z01 z02 z03 z11 z12 z13 z21 z22 z23
   grind
  have b2_ : (r1 * (c2 * a3 - c3 * a2) - r2 * (c1 * a3 - c3 * a1) + r3 * (c1 * a2 - c2 * a1)) = k1 * E := by
   subst hA hB hC hE hr1 hr2 hr3 hs1 hs2 hs3
   clear m1 m2 m3 x01 x02 x03 x11 x12 x13 x21 x22 x23 y01 y02 y03 y11 y12 y13 y21 y22 y23 z01 z02 z03 z11 z12 z13 z21 z22 z23
   grind
  rw [b1_, b2_, ← x22, ← x23, ← y22, ← y23, ← z21] at m1
  rw [b1_, b2_, ← x21, ← x23, ← y21, ← y23, ← z22] at m2
  rw [b1_, b2_, ← x21, ← x22, ← y21, ← y22, ← z23] at m3
  rw [m1, m2, m3]
  clear m1 m2 m3 b1_ b2_ hA hB hC hE x01 x02 x03 x11 x12 x13 x21 x22 x23 y01 y02 y03 y11 y12 y13 y21 y22 y23 z01 z02 z03 z11 z12 z13 z21 z22 z23
  subst hr1 hr2 hr3 hs1 hs2 hs3
  refine ⟨?_, ?_, ?_⟩ <;> grind
 rw [q01, q02, q03, q11, q12, q13, q21, q22, q23, pq_lin, ← hA, ← hB, ← hC, ← hE]
 clear q01 q02 q03 q11 q12 q13 q21 q22 q23 x01 x02 x03 y01 y02 y03 z01 z02 z03 x11 x12 x13 y11 y12 y13 z11 z12 z13 x21 x22 x23 y21 y22 y23 z21 z22 z23 hr1 hr2 hr3 hs1 hs2 hs3 hA hB hC hE
 grind
theorem ds_meet (o1 o2 o3 t1 t2 t3 u1 u2 u3 k l m n : Rat) :
  ((t3 * u1 - t1 * u3) * ((k * o1 + m * t1) * (l * o2 + n * u2) - (k * o2 + m * t2) * (l * o1 + n * u1)) - (t1 * u2 - t2 * u1) * ((k * o3 + m * t3) * (l * o1 + n * u1) - (k * o1 + m * t1) * (l * o3 + n * u3)) = (t1 * (u2 * o3 - u3 * o2) - t2 * (u1 * o3 - u3 * o1) + t3 * (u1 * o2 - u2 * o1)) * (m * l * t1 - k * n * u1)) ∧
  ((t1 * u2 - t2 * u1) * ((k * o2 + m * t2) * (l * o3 + n * u3) - (k * o3 + m * t3) * (l * o2 + n * u2)) - (t2 * u3 - t3 * u2) * ((k * o1 + m * t1) * (l * o2 + n * u2) - (k * o2 + m * t2) * (l * o1 + n * u1)) = (t1 * (u2 * o3 - u3 * o2) - t2 * (u1 * o3 - u3 * o1) + t3 * (u1 * o2 - u2 * o1)) * (m * l * t2 - k * n * u2)) ∧
  ((t2 * u3 - t3 * u2) * ((k * o3 + m * t3) * (l * o1 + n * u1) - (k * o1 + m * t1) * (l * o3 + n * u3)) - (t3 * u1 - t1 * u3) * ((k * o2 + m * t2) * (l * o3 + n * u3) - (k * o3 + m * t3) * (l * o2 + n * u2)) = (t1 * (u2 * o3 - u3 * o2) - t2 * (u1 * o3 - u3 * o1) + t3 * (u1 * o2 - u2 * o1)) * (m * l * t3 - k * n * u3)) := by
 refine ⟨?_, ?_, ?_⟩ <;> grind
theorem ds_lin (t1 t2 t3 u1 u2 u3 v1 v2 v3 D0 D1 D2 x0 y0 x1 y1 x2 y2 : Rat) : (D0 * (x0 * t1 - y0 * u1)) * ((D1 * (x1 * u2 - y1 * v2)) * (D2 * (x2 * v3 - y2 * t3)) - (D1 * (x1 * u3 - y1 * v3)) * (D2 * (x2 * v2 - y2 * t2))) + -((D0 * (x0 * t2 - y0 * u2)) * ((D1 * (x1 * u1 - y1 * v1)) * (D2 * (x2 * v3 - y2 * t3)) - (D1 * (x1 * u3 - y1 * v3)) * (D2 * (x2 * v1 - y2 * t1)))) + (D0 * (x0 * t3 - y0 * u3)) * ((D1 * (x1 * u1 - y1 * v1)) * (D2 * (x2 * v2 - y2 * t2)) - (D1 * (x1 * u2 - y1 * v2)) * (D2 * (x2 * v1 - y2 * t1))) = D0 * D1 * D2 * (t1 * (u2 * v3 - u3 * v2) - t2 * (u1 * v3 - u3 * v1) + t3 * (u1 * v2 - u2 * v1)) * (x0 * x1 * x2 - y0 * y1 * y2) := by
 grind
theorem ds_main {o1 o2 o3 t1 t2 t3 u1 u2 u3 v1 v2 v3 p1 p2 p3 q1 q2 q3 r1 r2 r3 A01 A02 A03 B01 B02 B03 C01 C02 C03 A11 A12 A13 B11 B12 B13 C11 C12 C13 A21 A22 A23 B21 B22 B23 C21 C22 C23 k0 k1 k2 n0 n1 n2 : Rat} (hp1 : p1 = k0 * o1 + n0 * t1) (hp2 : p2 = k0 * o2 + n0 * t2) (hp3 : p3 = k0 * o3 + n0 * t3) (hq1 : q1 = k1 * o1 + n1 * u1) (hq2 : q2 = k1 * o2 + n1 * u2) (hq3 : q3 = k1 * o3 + n1 * u3) (hr1 : r1 = k2 * o1 + n2 * v1) (hr2 : r2 = k2 * o2 + n2 * v2) (hr3 : r3 = k2 * o3 + n2 * v3)
  (a01 : A01 = t2 * u3 - t3 * u2) (a02 : A02 = t3 * u1 - t1 * u3) (a03 : A03 = t1 * u2 - t2 * u1) (b01 : B01 = p2 * q3 - p3 * q2) (b02 : B02 = p3 * q1 - p1 * q3) (b03 : B03 = p1 * q2 - p2 * q1) (c01 : C01 = A02 * B03 - A03 * B02) (c02 : C02 = A03 * B01 - A01 * B03) (c03 : C03 = A01 * B02 - A02 * B01) (a11 : A11 = u2 * v3 - u3 * v2) (a12 : A12 = u3 * v1 - u1 * v3) (a13 : A13 = u1 * v2 - u2 * v1) (b11 : B11 = q2 * r3 - q3 * r2) (b12 : B12 = q3 * r1 - q1 * r3) (b13 : B13 = q1 * r2 - q2 * r1) (c11 : C11 = A12 * B13 - A13 * B12) (c12 : C12 = A13 * B11 - A11 * B13) (c13 : C13 = A11 * B12 - A12 * B11) (a21 : A21 = v2 * t3 - v3 * t2) (a22 : A22 = v3 * t1 - v1 * t3) (a23 : A23 = v1 * t2 - v2 * t1) (b21 : B21 = r2 * p3 - r3 * p2) (b22 : B22 = r3 * p1 - r1 * p3) (b23 : B23 = r1 * p2 - r2 * p1) (c21 : C21 = A22 * B23 - A23 * B22) (c22 : C22 = A23 * B21 - A21 * B23) (c23 : C23 = A21 * B22 - A22 * B21) :
  C01 * (C12 * C23 - C13 * C22) + -(C02 * (C11 * C23 - C13 * C21)) + C03 * (C11 * C22 - C12 * C21) = 0 := by
 have ⟨m01, m02, m03⟩ := ds_meet o1 o2 o3 t1 t2 t3 u1 u2 u3 k0 k1 n0 n1
 rw [← hp1, ← hp2, ← hp3, ← hq1, ← hq2, ← hq3, ← a02, ← a03, ← b02, ← b03, ← c01] at m01
 rw [← hp1, ← hp2, ← hp3, ← hq1, ← hq2, ← hq3, ← a01, ← a03, ← b01, ← b03, ← c02] at m02
 rw [← hp1, ← hp2, ← hp3, ← hq1, ← hq2, ← hq3, ← a01, ← a02, ← b01, ← b02, ← c03] at m03
 have ⟨m11, m12, m13⟩ := ds_meet o1 o2 o3 u1 u2 u3 v1 v2 v3 k1 k2 n1 n2
 rw [← hq1, ← hq2, ← hq3, ← hr1, ← hr2, ← hr3, ← a12, ← a13, ← b12, ← b13, ← c11] at m11
 rw [← hq1, ← hq2, ← hq3, ← hr1, ← hr2, ← hr3, ← a11, ← a13, ← b11, ← b13, ← c12] at m12
 rw [← hq1, ← hq2, ← hq3, ← hr1, ← hr2, ← hr3, ← a11, ← a12, ← b11, ← b12, ← c13] at m13
 have ⟨m21, m22, m23⟩ := ds_meet o1 o2 o3 v1 v2 v3 t1 t2 t3 k2 k0 n2 n0
 rw [← hr1, ← hr2, ← hr3, ← hp1, ← hp2, ← hp3, ← a22, ← a23, ← b22, ← b23, ← c21] at m21
 rw [← hr1, ← hr2, ← hr3, ← hp1, ← hp2, ← hp3, ← a21, ← a23, ← b21, ← b23, ← c22] at m22
 rw [← hr1, ← hr2, ← hr3, ← hp1, ← hp2, ← hp3, ← a21, ← a22, ← b21, ← b22, ← c23] at m23
 rw [m01, m02, m03, m11, m12, m13, m21, m22, m23, ds_lin]
 have e : n0 * k1 * (n1 * k2) * (n2 * k0) - k0 * n1 * (k1 * n2) * (k2 * n0) = 0 := by
  clear m01 m02 m03 m11 m12 m13 m21 m22 m23
  clear a01 a02 a03 a11 a12 a13 a21 a22 a23 b01 b02 b03 b11 b12 b13 b21 b22 b23 c01 c02 c03 c11 c12 c13 c21 c22 c23 hp1 hp2 hp3 hq1 hq2 hq3 hr1 hr2 hr3
  grind
 rw [e, Rat.mul_zero]
theorem pQ_f1 {z44 z47 : Rat} : z44 = 0 → (z47 = 0 ↔ ((z44 = 0 ∧ z44 = 0) ∧ z44 = 0)) → z47 = 0 := by
 intro e44 e47
 rw [e47]
 clear  e47
 refine ⟨⟨?_, ?_⟩, ?_⟩ <;> (subst_vars; grind)
theorem pQ_f2 {z0 z1 z2 z20 z21 z22 z38 z76 z77 z78 z83 z84 z85 z86 z87 z88 z89 z90 z91 z92 z93 z94 z95 z100 z101 z102 z103 z108 : Rat} : (z38 = 0 ↔ ((z0 = 0 ∧ z1 = 0) ∧ z2 = 0)) → z76 = z0 * fac [z0, z1, z2] → z77 = z1 * fac [z0, z1, z2] → z78 = z2 * fac [z0, z1, z2] → (z83 = 0 ↔ ((z20 = 0 ∧ z21 = 0) ∧ z22 = 0)) → z84 = z20 * fac [z20, z21, z22] → z85 = z21 * fac [z20, z21, z22] → z86 = z22 * fac [z20, z21, z22] → z87 = z77 * z86 → z88 = z78 * z85 → z89 = z87 - z88 → z90 = z78 * z84 → z91 = z76 * z86 → z92 = z90 - z91 → z93 = z76 * z85 → z94 = z77 * z84 → z95 = z93 - z94 → (z100 = 0 ↔ ((z89 = 0 ∧ z92 = 0) ∧ z95 = 0)) → z101 = z89 * fac [z89, z92, z95] → z102 = z92 * fac [z89, z92, z95] → z103 = z95 * fac [z89, z92, z95] → (z108 = 0 ↔ ((z101 = 0 ∧ z102 = 0) ∧ z103 = 0)) → (¬ (z38 = 0)) → (¬ (z83 = 0)) → (¬ (z100 = 0)) → ¬ (z108 = 0) := by
 intro e38 e76 e77 e78 e83 e84 e85 e86 e87 e88 e89 e90 e91 e92 e93 e94 e95 e100 e101 e102 e103 e108 u0 u1 u2
 rw [e38] at u0
 rw [e83] at u1
 rw [e100] at u2
 rw [e108]
 clear  e38 e83 e100 e108
 have iw0 := fac3_ne u0
 generalize fac [z0, z1, z2] = g0 at *
 have iw1 := fac3_ne u1
 generalize fac [z20, z21, z22] = g1 at *
 have iw2 := fac3_ne u2
 generalize fac [z89, z92, z95] = g2 at *
 obtain ⟨iv0, ih0⟩ := inv_ex iw0
 obtain ⟨iv1, ih1⟩ := inv_ex iw1
 obtain ⟨iv2, ih2⟩ := inv_ex iw2
 exact trip_fac u2 iw2 e101 e102 e103
theorem pQ_f3 {z3 z4 z5 z17 z18 z19 z43 z48 z49 z50 z55 z56 z57 z58 z59 z60 z61 z62 z63 z64 z65 z66 z67 z72 z73 z74 z75 z116 : Rat} : (z43 = 0 ↔ ((z3 = 0 ∧ z4 = 0) ∧ z5 = 0)) → z48 = z3 * fac [z3, z4, z5] → z49 = z4 * fac [z3, z4, z5] → z50 = z5 * fac [z3, z4, z5] → (z55 = 0 ↔ ((z17 = 0 ∧ z18 = 0) ∧ z19 = 0)) → z56 = z17 * fac [z17, z18, z19] → z57 = z18 * fac [z17, z18, z19] → z58 = z19 * fac [z17, z18, z19] → z59 = z49 * z58 → z60 = z50 * z57 → z61 = z59 - z60 → z62 = z50 * z56 → z63 = z48 * z58 → z64 = z62 - z63 → z65 = z48 * z57 → z66 = z49 * z56 → z67 = z65 - z66 → (z72 = 0 ↔ ((z61 = 0 ∧ z64 = 0) ∧ z67 = 0)) → z73 = z61 * fac [z61, z64, z67] → z74 = z64 * fac [z61, z64, z67] → z75 = z67 * fac [z61, z64, z67] → (z116 = 0 ↔ ((z73 = 0 ∧ z74 = 0) ∧ z75 = 0)) → (¬ (z43 = 0)) → (¬ (z55 = 0)) → (¬ (z72 = 0)) → ¬ (z116 = 0) := by
 intro e43 e48 e49 e50 e55 e56 e57 e58 e59 e60 e61 e62 e63 e64 e65 e66 e67 e72 e73 e74 e75 e116 u3 u4 u5
 rw [e43] at u3
 rw [e55] at u4
 rw [e72] at u5
 rw [e116]
 clear  e43 e55 e72 e116
 have iw0 := fac3_ne u3
 generalize fac [z3, z4, z5] = g0 at *
 have iw1 := fac3_ne u4
 generalize fac [z17, z18, z19] = g1 at *
 have iw2 := fac3_ne u5
 generalize fac [z61, z64, z67] = g2 at *
 obtain ⟨iv0, ih0⟩ := inv_ex iw0
 obtain ⟨iv1, ih1⟩ := inv_ex iw1
 obtain ⟨iv2, ih2⟩ := inv_ex iw2
 exact trip_fac u5 iw2 e73 e74 e75
theorem pQ_f4 {z3 z4 z5 z17 z18 z19 z20 z21 z22 z23 z24 z25 z26 z27 z28 z29 z30 z31 z32 z33 z43 z48 z49 z50 z141 z167 z168 z169 z170 z171 z172 z173 z174 z175 z176 z177 z178 z183 z184 z185 z186 z191 : Rat} : z24 = z23 * z17 → z26 = z25 * z20 → z27 = z24 + z26 → z28 = z23 * z18 → z29 = z25 * z21 → z30 = z28 + z29 → z31 = z23 * z19 → z32 = z25 * z22 → z33 = z31 + z32 → (z43 = 0 ↔ ((z3 = 0 ∧ z4 = 0) ∧ z5 = 0)) → z48 = z3 * fac [z3, z4, z5] → z49 = z4 * fac [z3, z4, z5] → z50 = z5 * fac [z3, z4, z5] → (z141 = 0 ↔ ((z27 = 0 ∧ z30 = 0) ∧ z33 = 0)) → z167 = z27 * fac [z27, z30, z33] → z168 = z30 * fac [z27, z30, z33] → z169 = z33 * fac [z27, z30, z33] → z170 = z49 * z169 → z171 = z50 * z168 → z172 = z170 - z171 → z173 = z50 * z167 → z174 = z48 * z169 → z175 = z173 - z174 → z176 = z48 * z168 → z177 = z49 * z167 → z178 = z176 - z177 → (z183 = 0 ↔ ((z172 = 0 ∧ z175 = 0) ∧ z178 = 0)) → z184 = z172 * fac [z172, z175, z178] → z185 = z175 * fac [z172, z175, z178] → z186 = z178 * fac [z172, z175, z178] → (z191 = 0 ↔ ((z184 = 0 ∧ z185 = 0) ∧ z186 = 0)) → (¬ (z43 = 0)) → (¬ (z141 = 0)) → (¬ (z183 = 0)) → ¬ (z191 = 0) := by
 intro e24 e26 e27 e28 e29 e30 e31 e32 e33 e43 e48 e49 e50 e141 e167 e168 e169 e170 e171 e172 e173 e174 e175 e176 e177 e178 e183 e184 e185 e186 e191 u3 u7 u8
 rw [e43] at u3
 rw [e141] at u7
 rw [e183] at u8
 rw [e191]
 clear  e43 e141 e183 e191
 have iw0 := fac3_ne u3
 generalize fac [z3, z4, z5] = g0 at *
 have iw1 := fac3_ne u7
 generalize fac [z27, z30, z33] = g1 at *
 have iw2 := fac3_ne u8
 generalize fac [z172, z175, z178] = g2 at *
 obtain ⟨iv0, ih0⟩ := inv_ex iw0
 obtain ⟨iv1, ih1⟩ := inv_ex iw1
 obtain ⟨iv2, ih2⟩ := inv_ex iw2
 exact trip_fac u8 iw2 e184 e185 e186
theorem pQ_f5 {z0 z1 z2 z3 z4 z5 z6 z7 z8 z9 z10 z11 z12 z13 z14 z15 z16 z20 z21 z22 z83 z84 z85 z86 z146 z147 z148 z149 z150 z151 z152 z153 z154 z155 z156 z157 z158 z163 z164 z165 z166 z199 : Rat} : z7 = z6 * z0 → z9 = z8 * z3 → z10 = z7 + z9 → z11 = z6 * z1 → z12 = z8 * z4 → z13 = z11 + z12 → z14 = z6 * z2 → z15 = z8 * z5 → z16 = z14 + z15 → (z83 = 0 ↔ ((z20 = 0 ∧ z21 = 0) ∧ z22 = 0)) → z84 = z20 * fac [z20, z21, z22] → z85 = z21 * fac [z20, z21, z22] → z86 = z22 * fac [z20, z21, z22] → (z146 = 0 ↔ ((z10 = 0 ∧ z13 = 0) ∧ z16 = 0)) → z147 = z10 * fac [z10, z13, z16] → z148 = z13 * fac [z10, z13, z16] → z149 = z16 * fac [z10, z13, z16] → z150 = z148 * z86 → z151 = z149 * z85 → z152 = z150 - z151 → z153 = z149 * z84 → z154 = z147 * z86 → z155 = z153 - z154 → z156 = z147 * z85 → z157 = z148 * z84 → z158 = z156 - z157 → (z163 = 0 ↔ ((z152 = 0 ∧ z155 = 0) ∧ z158 = 0)) → z164 = z152 * fac [z152, z155, z158] → z165 = z155 * fac [z152, z155, z158] → z166 = z158 * fac [z152, z155, z158] → (z199 = 0 ↔ ((z164 = 0 ∧ z165 = 0) ∧ z166 = 0)) → (¬ (z83 = 0)) → (¬ (z146 = 0)) → (¬ (z163 = 0)) → ¬ (z199 = 0) := by
 intro e7 e9 e10 e11 e12 e13 e14 e15 e16 e83 e84 e85 e86 e146 e147 e148 e149 e150 e151 e152 e153 e154 e155 e156 e157 e158 e163 e164 e165 e166 e199 u1 u9 u10
 rw [e83] at u1
 rw [e146] at u9
 rw [e163] at u10
 rw [e199]
 clear  e83 e146 e163 e199
 have iw0 := fac3_ne u1
 generalize fac [z20, z21, z22] = g0 at *
 have iw1 := fac3_ne u9
 generalize fac [z10, z13, z16] = g1 at *
 have iw2 := fac3_ne u10
 generalize fac [z152, z155, z158] = g2 at *
 obtain ⟨iv0, ih0⟩ := inv_ex iw0
 obtain ⟨iv1, ih1⟩ := inv_ex iw1
 obtain ⟨iv2, ih2⟩ := inv_ex iw2
 exact trip_fac u10 iw2 e164 e165 e166
theorem pQ_f6 {z0 z1 z2 z3 z4 z5 z6 z7 z8 z9 z10 z11 z12 z13 z14 z15 z16 z17 z18 z19 z55 z56 z57 z58 z146 z147 z148 z149 z220 z221 z222 z223 z224 z225 z226 z227 z228 z233 z251 z252 z253 z258 : Rat} : z7 = z6 * z0 → z9 = z8 * z3 → z10 = z7 + z9 → z11 = z6 * z1 → z12 = z8 * z4 → z13 = z11 + z12 → z14 = z6 * z2 → z15 = z8 * z5 → z16 = z14 + z15 → (z55 = 0 ↔ ((z17 = 0 ∧ z18 = 0) ∧ z19 = 0)) → z56 = z17 * fac [z17, z18, z19] → z57 = z18 * fac [z17, z18, z19] → z58 = z19 * fac [z17, z18, z19] → (z146 = 0 ↔ ((z10 = 0 ∧ z13 = 0) ∧ z16 = 0)) → z147 = z10 * fac [z10, z13, z16] → z148 = z13 * fac [z10, z13, z16] → z149 = z16 * fac [z10, z13, z16] → z220 = z148 * z58 → z221 = z149 * z57 → z222 = z220 - z221 → z223 = z149 * z56 → z224 = z147 * z58 → z225 = z223 - z224 → z226 = z147 * z57 → z227 = z148 * z56 → z228 = z226 - z227 → (z233 = 0 ↔ ((z222 = 0 ∧ z225 = 0) ∧ z228 = 0)) → z251 = z222 * fac [z222, z225, z228] → z252 = z225 * fac [z222, z225, z228] → z253 = z228 * fac [z222, z225, z228] → (z258 = 0 ↔ ((z251 = 0 ∧ z252 = 0) ∧ z253 = 0)) → (¬ (z55 = 0)) → (¬ (z146 = 0)) → (¬ (z233 = 0)) → ¬ (z258 = 0) := by
 intro e7 e9 e10 e11 e12 e13 e14 e15 e16 e55 e56 e57 e58 e146 e147 e148 e149 e220 e221 e222 e223 e224 e225 e226 e227 e228 e233 e251 e252 e253 e258 u4 u9 u12
 rw [e55] at u4
 rw [e146] at u9
 rw [e233] at u12
 rw [e258]
 clear  e55 e146 e233 e258
 have iw0 := fac3_ne u4
 generalize fac [z17, z18, z19] = g0 at *
 have iw1 := fac3_ne u9
 generalize fac [z10, z13, z16] = g1 at *
 have iw2 := fac3_ne u12
 generalize fac [z222, z225, z228] = g2 at *
 obtain ⟨iv0, ih0⟩ := inv_ex iw0
 obtain ⟨iv1, ih1⟩ := inv_ex iw1
 obtain ⟨iv2, ih2⟩ := inv_ex iw2
 exact trip_fac u12 iw2 e251 e252 e253
theorem pQ_f7 {z0 z1 z2 z17 z18 z19 z20 z21 z22 z23 z24 z25 z26 z27 z28 z29 z30 z31 z32 z33 z38 z76 z77 z78 z141 z167 z168 z169 z234 z235 z236 z237 z238 z239 z240 z241 z242 z247 z248 z249 z250 z266 : Rat} : z24 = z23 * z17 → z26 = z25 * z20 → z27 = z24 + z26 → z28 = z23 * z18 → z29 = z25 * z21 → z30 = z28 + z29 → z31 = z23 * z19 → z32 = z25 * z22 → z33 = z31 + z32 → (z38 = 0 ↔ ((z0 = 0 ∧ z1 = 0) ∧ z2 = 0)) → z76 = z0 * fac [z0, z1, z2] → z77 = z1 * fac [z0, z1, z2] → z78 = z2 * fac [z0, z1, z2] → (z141 = 0 ↔ ((z27 = 0 ∧ z30 = 0) ∧ z33 = 0)) → z167 = z27 * fac [z27, z30, z33] → z168 = z30 * fac [z27, z30, z33] → z169 = z33 * fac [z27, z30, z33] → z234 = z77 * z169 → z235 = z78 * z168 → z236 = z234 - z235 → z237 = z78 * z167 → z238 = z76 * z169 → z239 = z237 - z238 → z240 = z76 * z168 → z241 = z77 * z167 → z242 = z240 - z241 → (z247 = 0 ↔ ((z236 = 0 ∧ z239 = 0) ∧ z242 = 0)) → z248 = z236 * fac [z236, z239, z242] → z249 = z239 * fac [z236, z239, z242] → z250 = z242 * fac [z236, z239, z242] → (z266 = 0 ↔ ((z248 = 0 ∧ z249 = 0) ∧ z250 = 0)) → (¬ (z38 = 0)) → (¬ (z141 = 0)) → (¬ (z247 = 0)) → ¬ (z266 = 0) := by
 intro e24 e26 e27 e28 e29 e30 e31 e32 e33 e38 e76 e77 e78 e141 e167 e168 e169 e234 e235 e236 e237 e238 e239 e240 e241 e242 e247 e248 e249 e250 e266 u0 u7 u13
 rw [e38] at u0
 rw [e141] at u7
 rw [e247] at u13
 rw [e266]
 clear  e38 e141 e247 e266
 have iw0 := fac3_ne u0
 generalize fac [z0, z1, z2] = g0 at *
 have iw1 := fac3_ne u7
 generalize fac [z27, z30, z33] = g1 at *
 have iw2 := fac3_ne u13
 generalize fac [z236, z239, z242] = g2 at *
 obtain ⟨iv0, ih0⟩ := inv_ex iw0
 obtain ⟨iv1, ih1⟩ := inv_ex iw1
 obtain ⟨iv2, ih2⟩ := inv_ex iw2
 exact trip_fac u13 iw2 e248 e249 e250
theorem pQ_f8 {z0 z1 z2 z3 z4 z5 z6 z7 z8 z9 z10 z11 z12 z13 z14 z15 z16 z17 z18 z19 z20 z21 z22 z23 z24 z25 z26 z27 z28 z29 z30 z31 z32 z33 z38 z43 z48 z49 z50 z55 z56 z57 z58 z59 z60 z61 z62 z63 z64 z65 z66 z67 z72 z73 z74 z75 z76 z77 z78 z83 z84 z85 z86 z87 z88 z89 z90 z91 z92 z93 z94 z95 z100 z101 z102 z103 z109 z110 z111 z117 z118 z119 z120 z121 z122 z123 z124 z125 z126 z127 z128 z133 z134 z135 z136 z141 z146 z147 z148 z149 z150 z151 z152 z153 z154 z155 z156 z157 z158 z163 z164 z165 z166 z167 z168 z169 z170 z171 z172 z173 z174 z175 z176 z177 z178 z183 z184 z185 z186 z192 z193 z194 z200 z201 z202 z203 z204 z205 z206 z207 z208 z209 z210 z211 z216 z217 z218 z219 z220 z221 z222 z223 z224 z225 z226 z227 z228 z233 z234 z235 z236 z237 z238 z239 z240 z241 z242 z247 z248 z249 z250 z251 z252 z253 z259 z260 z261 z267 z268 z269 z270 z271 z272 z273 z274 z275 z276 z277 z278 z283 z284 z285 z286 z287 z288 z289 z290 z291 z292 z293 z294 z295 z296 z297 z298 z299 z300 z301 : Rat} : z7 = z6 * z0 → z9 = z8 * z3 → z10 = z7 + z9 → z11 = z6 * z1 → z12 = z8 * z4 → z13 = z11 + z12 → z14 = z6 * z2 → z15 = z8 * z5 → z16 = z14 + z15 → z24 = z23 * z17 → z26 = z25 * z20 → z27 = z24 + z26 → z28 = z23 * z18 → z29 = z25 * z21 → z30 = z28 + z29 → z31 = z23 * z19 → z32 = z25 * z22 → z33 = z31 + z32 → (z38 = 0 ↔ ((z0 = 0 ∧ z1 = 0) ∧ z2 = 0)) → (z43 = 0 ↔ ((z3 = 0 ∧ z4 = 0) ∧ z5 = 0)) → z48 = z3 * fac [z3, z4, z5] → z49 = z4 * fac [z3, z4, z5] → z50 = z5 * fac [z3, z4, z5] → (z55 = 0 ↔ ((z17 = 0 ∧ z18 = 0) ∧ z19 = 0)) → z56 = z17 * fac [z17, z18, z19] → z57 = z18 * fac [z17, z18, z19] → z58 = z19 * fac [z17, z18, z19] → z59 = z49 * z58 → z60 = z50 * z57 → z61 = z59 - z60 → z62 = z50 * z56 → z63 = z48 * z58 → z64 = z62 - z63 → z65 = z48 * z57 → z66 = z49 * z56 → z67 = z65 - z66 → (z72 = 0 ↔ ((z61 = 0 ∧ z64 = 0) ∧ z67 = 0)) → z73 = z61 * fac [z61, z64, z67] → z74 = z64 * fac [z61, z64, z67] → z75 = z67 * fac [z61, z64, z67] → z76 = z0 * fac [z0, z1, z2] → z77 = z1 * fac [z0, z1, z2] → z78 = z2 * fac [z0, z1, z2] → (z83 = 0 ↔ ((z20 = 0 ∧ z21 = 0) ∧ z22 = 0)) → z84 = z20 * fac [z20, z21, z22] → z85 = z21 * fac [z20, z21, z22] → z86 = z22 * fac [z20, z21, z22] → z87 = z77 * z86 → z88 = z78 * z85 → z89 = z87 - z88 → z90 = z78 * z84 → z91 = z76 * z86 → z92 = z90 - z91 → z93 = z76 * z85 → z94 = z77 * z84 → z95 = z93 - z94 → (z100 = 0 ↔ ((z89 = 0 ∧ z92 = 0) ∧ z95 = 0)) → z101 = z89 * fac [z89, z92, z95] → z102 = z92 * fac [z89, z92, z95] → z103 = z95 * fac [z89, z92, z95] → z109 = z101 * fac [z101, z102, z103] → z110 = z102 * fac [z101, z102, z103] → z111 = z103 * fac [z101, z102, z103] → z117 = z73 * fac [z73, z74, z75] → z118 = z74 * fac [z73, z74, z75] → z119 = z75 * fac [z73, z74, z75] → z120 = z110 * z119 → z121 = z111 * z118 → z122 = z120 - z121 → z123 = z111 * z117 → z124 = z109 * z119 → z125 = z123 - z124 → z126 = z109 * z118 → z127 = z110 * z117 → z128 = z126 - z127 → (z133 = 0 ↔ ((z122 = 0 ∧ z125 = 0) ∧ z128 = 0)) → z134 = z122 * fac [z122, z125, z128] → z135 = z125 * fac [z122, z125, z128] → z136 = z128 * fac [z122, z125, z128] → (z141 = 0 ↔ ((z27 = 0 ∧ z30 = 0) ∧ z33 = 0)) → (z146 = 0 ↔ ((z10 = 0 ∧ z13 = 0) ∧ z16 = 0)) → z147 = z10 * fac [z10, z13, z16] → z148 = z13 * fac [z10, z13, z16] → z149 = z16 * fac [z10, z13, z16] → z150 = z148 * z86 → z151 = z149 * z85 → z152 = z150 - z151 → z153 = z149 * z84 → z154 = z147 * z86 → z155 = z153 - z154 → z156 = z147 * z85 → z157 = z148 * z84 → z158 = z156 - z157 → (z163 = 0 ↔ ((z152 = 0 ∧ z155 = 0) ∧ z158 = 0)) → z164 = z152 * fac [z152, z155, z158] → z165 = z155 * fac [z152, z155, z158] → z166 = z158 * fac [z152, z155, z158] → z167 = z27 * fac [z27, z30, z33] → z168 = z30 * fac [z27, z30, z33] → z169 = z33 * fac [z27, z30, z33] → z170 = z49 * z169 → z171 = z50 * z168 → z172 = z170 - z171 → z173 = z50 * z167 → z174 = z48 * z169 → z175 = z173 - z174 → z176 = z48 * z168 → z177 = z49 * z167 → z178 = z176 - z177 → (z183 = 0 ↔ ((z172 = 0 ∧ z175 = 0) ∧ z178 = 0)) → z184 = z172 * fac [z172, z175, z178] → z185 = z175 * fac [z172, z175, z178] → z186 = z178 * fac [z172, z175, z178] → z192 = z184 * fac [z184, z185, z186] → z193 = z185 * fac [z184, z185, z186] → z194 = z186 * fac [z184, z185, z186] → z200 = z164 * fac [z164, z165, z166] → z201 = z165 * fac [z164, z165, z166] → z202 = z166 * fac [z164, z165, z166] → z203 = z193 * z202 → z204 = z194 * z201 → z205 = z203 - z204 → z206 = z194 * z200 → z207 = z192 * z202 → z208 = z206 - z207 → z209 = z192 * z201 → z210 = z193 * z200 → z211 = z209 - z210 → (z216 = 0 ↔ ((z205 = 0 ∧ z208 = 0) ∧ z211 = 0)) → z217 = z205 * fac [z205, z208, z211] → z218 = z208 * fac [z205, z208, z211] → z219 = z211 * fac [z205, z208, z211] → z220 = z148 * z58 → z221 = z149 * z57 → z222 = z220 - z221 → z223 = z149 * z56 → z224 = z147 * z58 → z225 = z223 - z224 → z226 = z147 * z57 → z227 = z148 * z56 → z228 = z226 - z227 → (z233 = 0 ↔ ((z222 = 0 ∧ z225 = 0) ∧ z228 = 0)) → z234 = z77 * z169 → z235 = z78 * z168 → z236 = z234 - z235 → z237 = z78 * z167 → z238 = z76 * z169 → z239 = z237 - z238 → z240 = z76 * z168 → z241 = z77 * z167 → z242 = z240 - z241 → (z247 = 0 ↔ ((z236 = 0 ∧ z239 = 0) ∧ z242 = 0)) → z248 = z236 * fac [z236, z239, z242] → z249 = z239 * fac [z236, z239, z242] → z250 = z242 * fac [z236, z239, z242] → z251 = z222 * fac [z222, z225, z228] → z252 = z225 * fac [z222, z225, z228] → z253 = z228 * fac [z222, z225, z228] → z259 = z251 * fac [z251, z252, z253] → z260 = z252 * fac [z251, z252, z253] → z261 = z253 * fac [z251, z252, z253] → z267 = z248 * fac [z248, z249, z250] → z268 = z249 * fac [z248, z249, z250] → z269 = z250 * fac [z248, z249, z250] → z270 = z260 * z269 → z271 = z261 * z268 → z272 = z270 - z271 → z273 = z261 * z267 → z274 = z259 * z269 → z275 = z273 - z274 → z276 = z259 * z268 → z277 = z260 * z267 → z278 = z276 - z277 → (z283 = 0 ↔ ((z272 = 0 ∧ z275 = 0) ∧ z278 = 0)) → z284 = z272 * fac [z272, z275, z278] → z285 = z275 * fac [z272, z275, z278] → z286 = z278 * fac [z272, z275, z278] → z287 = z218 * z286 → z288 = z219 * z285 → z289 = z287 - z288 → z290 = z134 * z289 → z291 = z217 * z286 → z292 = z219 * z284 → z293 = z291 - z292 → z294 = z135 * z293 → z295 = -z294 → z296 = z217 * z285 → z297 = z218 * z284 → z298 = z296 - z297 → z299 = z136 * z298 → z300 = z290 + z295 → z301 = z300 + z299 → (¬ (z38 = 0)) → (¬ (z83 = 0)) → (¬ (z100 = 0)) → (¬ (z43 = 0)) → (¬ (z55 = 0)) → (¬ (z72 = 0)) → (¬ (z133 = 0)) → (¬ (z141 = 0)) → (¬ (z183 = 0)) → (¬ (z146 = 0)) → (¬ (z163 = 0)) → (¬ (z216 = 0)) → (¬ (z233 = 0)) → (¬ (z247 = 0)) → (¬ (z283 = 0)) → z301 = 0 := by
 intro e7 e9 e10 e11 e12 e13 e14 e15 e16 e24 e26 e27 e28 e29 e30 e31 e32 e33 e38 e43 e48 e49 e50 e55 e56 e57 e58 e59 e60 e61 e62 e63 e64 e65 e66 e67 e72 e73 e74 e75 e76 e77 e78 e83 e84 e85 e86 e87 e88 e89 e90 e91 e92 e93 e94 e95 e100 e101 e102 e103 e109 e110 e111 e117 e118 e119 e120 e121 e122 e123 e124 e125 e126 e127 e128 e133 e134 e135 e136 e141 e146 e147 e148 e149 e150 e151 e152 e153 e154 e155 e156 e157 e158 e163 e164 e165 e166 e167 e168 e169 e170 e171 e172 e173 e174 e175 e176 e177 e178 e183 e184 e185 e186 e192 e193 e194 e200 e201 e202 e203 e204 e205 e206 e207 e208 e209 e210 e211 e216 e217 e218 e219 e220 e221 e222 e223 e224 e225 e226 e227 e228 e233 e234 e235 e236 e237 e238 e239 e240 e241 e242 e247 e248 e249 e250 e251 e252 e253 e259 e260 e261 e267 e268 e269 e270 e271 e272 e273 e274 e275 e276 e277 e278 e283 e284 e285 e286 e287 e288 e289 e290 e291 e292 e293 e294 e295 e296 e297 e298 e299 e300 e301 u0 u1 u2 u3 u4 u5 u6 u7 u8 u9 u10 u11 u12 u13 u14
 clear u0 u1 u2 u3 u4 u5 u6 u7 u8 u9 u10 u11 u12 u13 u14
 clear e38 e43 e55 e72 e83 e100 e133 e141 e146 e163 e183 e216 e233 e247 e283
 generalize fac [z3, z4, z5] = g0 at *
 generalize fac [z17, z18, z19] = g1 at *
 generalize fac [z61, z64, z67] = g2 at *
 generalize fac [z0, z1, z2] = g3 at *
 generalize fac [z20, z21, z22] = g4 at *
 generalize fac [z89, z92, z95] = g5 at *
 generalize fac [z101, z102, z103] = g6 at *
 generalize fac [z73, z74, z75] = g7 at *
 generalize fac [z122, z125, z128] = g8 at *
 generalize fac [z10, z13, z16] = g9 at *
 generalize fac [z152, z155, z158] = g10 at *
 generalize fac [z27, z30, z33] = g11 at *
 generalize fac [z172, z175, z178] = g12 at *
 generalize fac [z184, z185, z186] = g13 at *
 generalize fac [z164, z165, z166] = g14 at *
 generalize fac [z205, z208, z211] = g15 at *
 generalize fac [z236, z239, z242] = g16 at *
 generalize fac [z222, z225, z228] = g17 at *
 generalize fac [z251, z252, z253] = g18 at *
 generalize fac [z248, z249, z250] = g19 at *
 generalize fac [z272, z275, z278] = g20 at *
 have t3 := pl_1 z3
 obtain ⟨s0, hs0⟩ : ∃ s, s = 1 * g0 := ⟨_, rfl⟩
 have t48 := pl_8 t3 e48 hs0
 have t4 := pl_1 z4
 have t49 := pl_8 t4 e49 hs0
 have t5 := pl_1 z5
 have t50 := pl_8 t5 e50 hs0
 have t17 := pl_1 z17
 obtain ⟨s1, hs1⟩ : ∃ s, s = 1 * g1 := ⟨_, rfl⟩
 have t56 := pl_8 t17 e56 hs1
 have t18 := pl_1 z18
 have t57 := pl_8 t18 e57 hs1
 have t19 := pl_1 z19
 have t58 := pl_8 t19 e58 hs1
 obtain ⟨s2, hs2⟩ : ∃ s, s = s0 * s1 := ⟨_, rfl⟩
 obtain ⟨p59, hp59⟩ : ∃ p, p = z4 * z19 := ⟨_, rfl⟩
 have t59 := pl_m t49 t58 e59 hp59 hs2
 obtain ⟨p60, hp60⟩ : ∃ p, p = z5 * z18 := ⟨_, rfl⟩
 have t60 := pl_m t50 t57 e60 hp60 hs2
 obtain ⟨p61, hp61⟩ : ∃ p, p = p59 - p60 := ⟨_, rfl⟩
 have t61 := pl_s t59 t60 e61 hp61
 obtain ⟨p62, hp62⟩ : ∃ p, p = z5 * z17 := ⟨_, rfl⟩
 have t62 := pl_m t50 t56 e62 hp62 hs2
 obtain ⟨p63, hp63⟩ : ∃ p, p = z3 * z19 := ⟨_, rfl⟩
 have t63 := pl_m t48 t58 e63 hp63 hs2
 obtain ⟨p64, hp64⟩ : ∃ p, p = p62 - p63 := ⟨_, rfl⟩
 have t64 := pl_s t62 t63 e64 hp64
 obtain ⟨p65, hp65⟩ : ∃ p, p = z3 * z18 := ⟨_, rfl⟩
 have t65 := pl_m t48 t57 e65 hp65 hs2
 obtain ⟨p66, hp66⟩ : ∃ p, p = z4 * z17 := ⟨_, rfl⟩
 have t66 := pl_m t49 t56 e66 hp66 hs2
 obtain ⟨p67, hp67⟩ : ∃ p, p = p65 - p66 := ⟨_, rfl⟩
 have t67 := pl_s t65 t66 e67 hp67
 obtain ⟨s3, hs3⟩ : ∃ s, s = s2 * g2 := ⟨_, rfl⟩
 have t73 := pl_8 t61 e73 hs3
 have t74 := pl_8 t64 e74 hs3
 have t75 := pl_8 t67 e75 hs3
 have t0 := pl_1 z0
 obtain ⟨s4, hs4⟩ : ∃ s, s = 1 * g3 := ⟨_, rfl⟩
 have t76 := pl_8 t0 e76 hs4
 have t1 := pl_1 z1
 have t77 := pl_8 t1 e77 hs4
 have t2 := pl_1 z2
 have t78 := pl_8 t2 e78 hs4
 have t20 := pl_1 z20
 obtain ⟨s5, hs5⟩ : ∃ s, s = 1 * g4 := ⟨_, rfl⟩
 have t84 := pl_8 t20 e84 hs5
 have t21 := pl_1 z21
 have t85 := pl_8 t21 e85 hs5
 have t22 := pl_1 z22
 have t86 := pl_8 t22 e86 hs5
 obtain ⟨s6, hs6⟩ : ∃ s, s = s4 * s5 := ⟨_, rfl⟩
 obtain ⟨p87, hp87⟩ : ∃ p, p = z1 * z22 := ⟨_, rfl⟩
 have t87 := pl_m t77 t86 e87 hp87 hs6
 obtain ⟨p88, hp88⟩ : ∃ p, p = z2 * z21 := ⟨_, rfl⟩
 have t88 := pl_m t78 t85 e88 hp88 hs6
 obtain ⟨p89, hp89⟩ : ∃ p, p = p87 - p88 := ⟨_, rfl⟩
 have t89 := pl_s t87 t88 e89 hp89
 obtain ⟨p90, hp90⟩ : ∃ p, p = z2 * z20 := ⟨_, rfl⟩
 have t90 := pl_m t78 t84 e90 hp90 hs6
 obtain ⟨p91, hp91⟩ : ∃ p, p = z0 * z22 := ⟨_, rfl⟩
 have t91 := pl_m t76 t86 e91 hp91 hs6
 obtain ⟨p92, hp92⟩ : ∃ p, p = p90 - p91 := ⟨_, rfl⟩
 have t92 := pl_s t90 t91 e92 hp92
 obtain ⟨p93, hp93⟩ : ∃ p, p = z0 * z21 := ⟨_, rfl⟩
 have t93 := pl_m t76 t85 e93 hp93 hs6
 obtain ⟨p94, hp94⟩ : ∃ p, p = z1 * z20 := ⟨_, rfl⟩
 have t94 := pl_m t77 t84 e94 hp94 hs6
 obtain ⟨p95, hp95⟩ : ∃ p, p = p93 - p94 := ⟨_, rfl⟩
 have t95 := pl_s t93 t94 e95 hp95
 obtain ⟨s7, hs7⟩ : ∃ s, s = s6 * g5 := ⟨_, rfl⟩
 have t101 := pl_8 t89 e101 hs7
 have t102 := pl_8 t92 e102 hs7
 have t103 := pl_8 t95 e103 hs7
 obtain ⟨s8, hs8⟩ : ∃ s, s = s7 * g6 := ⟨_, rfl⟩
 have t109 := pl_8 t101 e109 hs8
 have t110 := pl_8 t102 e110 hs8
 have t111 := pl_8 t103 e111 hs8
 obtain ⟨s9, hs9⟩ : ∃ s, s = s3 * g7 := ⟨_, rfl⟩
 have t117 := pl_8 t73 e117 hs9
 have t118 := pl_8 t74 e118 hs9
 have t119 := pl_8 t75 e119 hs9
 obtain ⟨s10, hs10⟩ : ∃ s, s = s8 * s9 := ⟨_, rfl⟩
 obtain ⟨p120, hp120⟩ : ∃ p, p = p92 * p67 := ⟨_, rfl⟩
 have t120 := pl_m t110 t119 e120 hp120 hs10
 obtain ⟨p121, hp121⟩ : ∃ p, p = p95 * p64 := ⟨_, rfl⟩
 have t121 := pl_m t111 t118 e121 hp121 hs10
 obtain ⟨p122, hp122⟩ : ∃ p, p = p120 - p121 := ⟨_, rfl⟩
 have t122 := pl_s t120 t121 e122 hp122
 obtain ⟨p123, hp123⟩ : ∃ p, p = p95 * p61 := ⟨_, rfl⟩
 have t123 := pl_m t111 t117 e123 hp123 hs10
 obtain ⟨p124, hp124⟩ : ∃ p, p = p89 * p67 := ⟨_, rfl⟩
 have t124 := pl_m t109 t119 e124 hp124 hs10
 obtain ⟨p125, hp125⟩ : ∃ p, p = p123 - p124 := ⟨_, rfl⟩
 have t125 := pl_s t123 t124 e125 hp125
 obtain ⟨p126, hp126⟩ : ∃ p, p = p89 * p64 := ⟨_, rfl⟩
 have t126 := pl_m t109 t118 e126 hp126 hs10
 obtain ⟨p127, hp127⟩ : ∃ p, p = p92 * p61 := ⟨_, rfl⟩
 have t127 := pl_m t110 t117 e127 hp127 hs10
 obtain ⟨p128, hp128⟩ : ∃ p, p = p126 - p127 := ⟨_, rfl⟩
 have t128 := pl_s t126 t127 e128 hp128
 obtain ⟨s11, hs11⟩ : ∃ s, s = s10 * g8 := ⟨_, rfl⟩
 have t134 := pl_8 t122 e134 hs11
 have t135 := pl_8 t125 e135 hs11
 have t136 := pl_8 t128 e136 hs11
 have t10 := pl_1 z10
 obtain ⟨s12, hs12⟩ : ∃ s, s = 1 * g9 := ⟨_, rfl⟩
 have t147 := pl_8 t10 e147 hs12
 have t13 := pl_1 z13
 have t148 := pl_8 t13 e148 hs12
 have t16 := pl_1 z16
 have t149 := pl_8 t16 e149 hs12
 obtain ⟨s13, hs13⟩ : ∃ s, s = s12 * s5 := ⟨_, rfl⟩
 obtain ⟨p150, hp150⟩ : ∃ p, p = z13 * z22 := ⟨_, rfl⟩
 have t150 := pl_m t148 t86 e150 hp150 hs13
 obtain ⟨p151, hp151⟩ : ∃ p, p = z16 * z21 := ⟨_, rfl⟩
 have t151 := pl_m t149 t85 e151 hp151 hs13
 obtain ⟨p152, hp152⟩ : ∃ p, p = p150 - p151 := ⟨_, rfl⟩
 have t152 := pl_s t150 t151 e152 hp152
 obtain ⟨p153, hp153⟩ : ∃ p, p = z16 * z20 := ⟨_, rfl⟩
 have t153 := pl_m t149 t84 e153 hp153 hs13
 obtain ⟨p154, hp154⟩ : ∃ p, p = z10 * z22 := ⟨_, rfl⟩
 have t154 := pl_m t147 t86 e154 hp154 hs13
 obtain ⟨p155, hp155⟩ : ∃ p, p = p153 - p154 := ⟨_, rfl⟩
 have t155 := pl_s t153 t154 e155 hp155
 obtain ⟨p156, hp156⟩ : ∃ p, p = z10 * z21 := ⟨_, rfl⟩
 have t156 := pl_m t147 t85 e156 hp156 hs13
 obtain ⟨p157, hp157⟩ : ∃ p, p = z13 * z20 := ⟨_, rfl⟩
 have t157 := pl_m t148 t84 e157 hp157 hs13
 obtain ⟨p158, hp158⟩ : ∃ p, p = p156 - p157 := ⟨_, rfl⟩
 have t158 := pl_s t156 t157 e158 hp158
 obtain ⟨s14, hs14⟩ : ∃ s, s = s13 * g10 := ⟨_, rfl⟩
 have t164 := pl_8 t152 e164 hs14
 have t165 := pl_8 t155 e165 hs14
 have t166 := pl_8 t158 e166 hs14
 have t27 := pl_1 z27
 obtain ⟨s15, hs15⟩ : ∃ s, s = 1 * g11 := ⟨_, rfl⟩
 have t167 := pl_8 t27 e167 hs15
 have t30 := pl_1 z30
 have t168 := pl_8 t30 e168 hs15
 have t33 := pl_1 z33
 have t169 := pl_8 t33 e169 hs15
 obtain ⟨s16, hs16⟩ : ∃ s, s = s0 * s15 := ⟨_, rfl⟩
 obtain ⟨p170, hp170⟩ : ∃ p, p = z4 * z33 := ⟨_, rfl⟩
 have t170 := pl_m t49 t169 e170 hp170 hs16
 obtain ⟨p171, hp171⟩ : ∃ p, p = z5 * z30 := ⟨_, rfl⟩
 have t171 := pl_m t50 t168 e171 hp171 hs16
 obtain ⟨p172, hp172⟩ : ∃ p, p = p170 - p171 := ⟨_, rfl⟩
 have t172 := pl_s t170 t171 e172 hp172
 obtain ⟨p173, hp173⟩ : ∃ p, p = z5 * z27 := ⟨_, rfl⟩
 have t173 := pl_m t50 t167 e173 hp173 hs16
 obtain ⟨p174, hp174⟩ : ∃ p, p = z3 * z33 := ⟨_, rfl⟩
 have t174 := pl_m t48 t169 e174 hp174 hs16
 obtain ⟨p175, hp175⟩ : ∃ p, p = p173 - p174 := ⟨_, rfl⟩
 have t175 := pl_s t173 t174 e175 hp175
 obtain ⟨p176, hp176⟩ : ∃ p, p = z3 * z30 := ⟨_, rfl⟩
 have t176 := pl_m t48 t168 e176 hp176 hs16
 obtain ⟨p177, hp177⟩ : ∃ p, p = z4 * z27 := ⟨_, rfl⟩
 have t177 := pl_m t49 t167 e177 hp177 hs16
 obtain ⟨p178, hp178⟩ : ∃ p, p = p176 - p177 := ⟨_, rfl⟩
 have t178 := pl_s t176 t177 e178 hp178
 obtain ⟨s17, hs17⟩ : ∃ s, s = s16 * g12 := ⟨_, rfl⟩
 have t184 := pl_8 t172 e184 hs17
 have t185 := pl_8 t175 e185 hs17
 have t186 := pl_8 t178 e186 hs17
 obtain ⟨s18, hs18⟩ : ∃ s, s = s17 * g13 := ⟨_, rfl⟩
 have t192 := pl_8 t184 e192 hs18
 have t193 := pl_8 t185 e193 hs18
 have t194 := pl_8 t186 e194 hs18
 obtain ⟨s19, hs19⟩ : ∃ s, s = s14 * g14 := ⟨_, rfl⟩
 have t200 := pl_8 t164 e200 hs19
 have t201 := pl_8 t165 e201 hs19
 have t202 := pl_8 t166 e202 hs19
 obtain ⟨s20, hs20⟩ : ∃ s, s = s18 * s19 := ⟨_, rfl⟩
 obtain ⟨p203, hp203⟩ : ∃ p, p = p175 * p158 := ⟨_, rfl⟩
 have t203 := pl_m t193 t202 e203 hp203 hs20
 obtain ⟨p204, hp204⟩ : ∃ p, p = p178 * p155 := ⟨_, rfl⟩
 have t204 := pl_m t194 t201 e204 hp204 hs20
 obtain ⟨p205, hp205⟩ : ∃ p, p = p203 - p204 := ⟨_, rfl⟩
 have t205 := pl_s t203 t204 e205 hp205
 obtain ⟨p206, hp206⟩ : ∃ p, p = p178 * p152 := ⟨_, rfl⟩
 have t206 := pl_m t194 t200 e206 hp206 hs20
 obtain ⟨p207, hp207⟩ : ∃ p, p = p172 * p158 := ⟨_, rfl⟩
 have t207 := pl_m t192 t202 e207 hp207 hs20
 obtain ⟨p208, hp208⟩ : ∃ p, p = p206 - p207 := ⟨_, rfl⟩
 have t208 := pl_s t206 t207 e208 hp208
 obtain ⟨p209, hp209⟩ : ∃ p, p = p172 * p155 := ⟨_, rfl⟩
 have t209 := pl_m t192 t201 e209 hp209 hs20
 obtain ⟨p210, hp210⟩ : ∃ p, p = p175 * p152 := ⟨_, rfl⟩
 have t210 := pl_m t193 t200 e210 hp210 hs20
 obtain ⟨p211, hp211⟩ : ∃ p, p = p209 - p210 := ⟨_, rfl⟩
 have t211 := pl_s t209 t210 e211 hp211
 obtain ⟨s21, hs21⟩ : ∃ s, s = s20 * g15 := ⟨_, rfl⟩
 have t217 := pl_8 t205 e217 hs21
 have t218 := pl_8 t208 e218 hs21
 have t219 := pl_8 t211 e219 hs21
 obtain ⟨s22, hs22⟩ : ∃ s, s = s12 * s1 := ⟨_, rfl⟩
 obtain ⟨p220, hp220⟩ : ∃ p, p = z13 * z19 := ⟨_, rfl⟩
 have t220 := pl_m t148 t58 e220 hp220 hs22
 obtain ⟨p221, hp221⟩ : ∃ p, p = z16 * z18 := ⟨_, rfl⟩
 have t221 := pl_m t149 t57 e221 hp221 hs22
 obtain ⟨p222, hp222⟩ : ∃ p, p = p220 - p221 := ⟨_, rfl⟩
 have t222 := pl_s t220 t221 e222 hp222
 obtain ⟨p223, hp223⟩ : ∃ p, p = z16 * z17 := ⟨_, rfl⟩
 have t223 := pl_m t149 t56 e223 hp223 hs22
 obtain ⟨p224, hp224⟩ : ∃ p, p = z10 * z19 := ⟨_, rfl⟩
 have t224 := pl_m t147 t58 e224 hp224 hs22
 obtain ⟨p225, hp225⟩ : ∃ p, p = p223 - p224 := ⟨_, rfl⟩
 have t225 := pl_s t223 t224 e225 hp225
 obtain ⟨p226, hp226⟩ : ∃ p, p = z10 * z18 := ⟨_, rfl⟩
 have t226 := pl_m t147 t57 e226 hp226 hs22
 obtain ⟨p227, hp227⟩ : ∃ p, p = z13 * z17 := ⟨_, rfl⟩
 have t227 := pl_m t148 t56 e227 hp227 hs22
 obtain ⟨p228, hp228⟩ : ∃ p, p = p226 - p227 := ⟨_, rfl⟩
 have t228 := pl_s t226 t227 e228 hp228
 obtain ⟨s23, hs23⟩ : ∃ s, s = s4 * s15 := ⟨_, rfl⟩
 obtain ⟨p234, hp234⟩ : ∃ p, p = z1 * z33 := ⟨_, rfl⟩
 have t234 := pl_m t77 t169 e234 hp234 hs23
 obtain ⟨p235, hp235⟩ : ∃ p, p = z2 * z30 := ⟨_, rfl⟩
 have t235 := pl_m t78 t168 e235 hp235 hs23
 obtain ⟨p236, hp236⟩ : ∃ p, p = p234 - p235 := ⟨_, rfl⟩
 have t236 := pl_s t234 t235 e236 hp236
 obtain ⟨p237, hp237⟩ : ∃ p, p = z2 * z27 := ⟨_, rfl⟩
 have t237 := pl_m t78 t167 e237 hp237 hs23
 obtain ⟨p238, hp238⟩ : ∃ p, p = z0 * z33 := ⟨_, rfl⟩
 have t238 := pl_m t76 t169 e238 hp238 hs23
 obtain ⟨p239, hp239⟩ : ∃ p, p = p237 - p238 := ⟨_, rfl⟩
 have t239 := pl_s t237 t238 e239 hp239
 obtain ⟨p240, hp240⟩ : ∃ p, p = z0 * z30 := ⟨_, rfl⟩
 have t240 := pl_m t76 t168 e240 hp240 hs23
 obtain ⟨p241, hp241⟩ : ∃ p, p = z1 * z27 := ⟨_, rfl⟩
 have t241 := pl_m t77 t167 e241 hp241 hs23
 obtain ⟨p242, hp242⟩ : ∃ p, p = p240 - p241 := ⟨_, rfl⟩
 have t242 := pl_s t240 t241 e242 hp242
 obtain ⟨s24, hs24⟩ : ∃ s, s = s23 * g16 := ⟨_, rfl⟩
 have t248 := pl_8 t236 e248 hs24
 have t249 := pl_8 t239 e249 hs24
 have t250 := pl_8 t242 e250 hs24
 obtain ⟨s25, hs25⟩ : ∃ s, s = s22 * g17 := ⟨_, rfl⟩
 have t251 := pl_8 t222 e251 hs25
 have t252 := pl_8 t225 e252 hs25
 have t253 := pl_8 t228 e253 hs25
 obtain ⟨s26, hs26⟩ : ∃ s, s = s25 * g18 := ⟨_, rfl⟩
 have t259 := pl_8 t251 e259 hs26
 have t260 := pl_8 t252 e260 hs26
 have t261 := pl_8 t253 e261 hs26
 obtain ⟨s27, hs27⟩ : ∃ s, s = s24 * g19 := ⟨_, rfl⟩
 have t267 := pl_8 t248 e267 hs27
 have t268 := pl_8 t249 e268 hs27
 have t269 := pl_8 t250 e269 hs27
 obtain ⟨s28, hs28⟩ : ∃ s, s = s26 * s27 := ⟨_, rfl⟩
 obtain ⟨p270, hp270⟩ : ∃ p, p = p225 * p242 := ⟨_, rfl⟩
 have t270 := pl_m t260 t269 e270 hp270 hs28
 obtain ⟨p271, hp271⟩ : ∃ p, p = p228 * p239 := ⟨_, rfl⟩
 have t271 := pl_m t261 t268 e271 hp271 hs28
 obtain ⟨p272, hp272⟩ : ∃ p, p = p270 - p271 := ⟨_, rfl⟩
 have t272 := pl_s t270 t271 e272 hp272
 obtain ⟨p273, hp273⟩ : ∃ p, p = p228 * p236 := ⟨_, rfl⟩
 have t273 := pl_m t261 t267 e273 hp273 hs28
 obtain ⟨p274, hp274⟩ : ∃ p, p = p222 * p242 := ⟨_, rfl⟩
 have t274 := pl_m t259 t269 e274 hp274 hs28
 obtain ⟨p275, hp275⟩ : ∃ p, p = p273 - p274 := ⟨_, rfl⟩
 have t275 := pl_s t273 t274 e275 hp275
 obtain ⟨p276, hp276⟩ : ∃ p, p = p222 * p239 := ⟨_, rfl⟩
 have t276 := pl_m t259 t268 e276 hp276 hs28
 obtain ⟨p277, hp277⟩ : ∃ p, p = p225 * p236 := ⟨_, rfl⟩
 have t277 := pl_m t260 t267 e277 hp277 hs28
 obtain ⟨p278, hp278⟩ : ∃ p, p = p276 - p277 := ⟨_, rfl⟩
 have t278 := pl_s t276 t277 e278 hp278
 obtain ⟨s29, hs29⟩ : ∃ s, s = s28 * g20 := ⟨_, rfl⟩
 have t284 := pl_8 t272 e284 hs29
 have t285 := pl_8 t275 e285 hs29
 have t286 := pl_8 t278 e286 hs29
 obtain ⟨s30, hs30⟩ : ∃ s, s = s21 * s29 := ⟨_, rfl⟩
 obtain ⟨p287, hp287⟩ : ∃ p, p = p208 * p278 := ⟨_, rfl⟩
 have t287 := pl_m t218 t286 e287 hp287 hs30
 obtain ⟨p288, hp288⟩ : ∃ p, p = p211 * p275 := ⟨_, rfl⟩
 have t288 := pl_m t219 t285 e288 hp288 hs30
 obtain ⟨p289, hp289⟩ : ∃ p, p = p287 - p288 := ⟨_, rfl⟩
 have t289 := pl_s t287 t288 e289 hp289
 obtain ⟨s31, hs31⟩ : ∃ s, s = s11 * s30 := ⟨_, rfl⟩
 obtain ⟨p290, hp290⟩ : ∃ p, p = p122 * p289 := ⟨_, rfl⟩
 have t290 := pl_m t134 t289 e290 hp290 hs31
 obtain ⟨p291, hp291⟩ : ∃ p, p = p205 * p278 := ⟨_, rfl⟩
 have t291 := pl_m t217 t286 e291 hp291 hs30
 obtain ⟨p292, hp292⟩ : ∃ p, p = p211 * p272 := ⟨_, rfl⟩
 have t292 := pl_m t219 t284 e292 hp292 hs30
 obtain ⟨p293, hp293⟩ : ∃ p, p = p291 - p292 := ⟨_, rfl⟩
 have t293 := pl_s t291 t292 e293 hp293
 obtain ⟨p294, hp294⟩ : ∃ p, p = p125 * p293 := ⟨_, rfl⟩
 have t294 := pl_m t135 t293 e294 hp294 hs31
 obtain ⟨p295, hp295⟩ : ∃ p, p = -p294 := ⟨_, rfl⟩
 have t295 := pl_n t294 e295 hp295
 obtain ⟨p296, hp296⟩ : ∃ p, p = p205 * p275 := ⟨_, rfl⟩
 have t296 := pl_m t217 t285 e296 hp296 hs30
 obtain ⟨p297, hp297⟩ : ∃ p, p = p208 * p272 := ⟨_, rfl⟩
 have t297 := pl_m t218 t284 e297 hp297 hs30
 obtain ⟨p298, hp298⟩ : ∃ p, p = p296 - p297 := ⟨_, rfl⟩
 have t298 := pl_s t296 t297 e298 hp298
 obtain ⟨p299, hp299⟩ : ∃ p, p = p128 * p298 := ⟨_, rfl⟩
 have t299 := pl_m t136 t298 e299 hp299 hs31
 obtain ⟨p300, hp300⟩ : ∃ p, p = p290 + p295 := ⟨_, rfl⟩
 have t300 := pl_a t290 t295 e300 hp300
 obtain ⟨p301, hp301⟩ : ∃ p, p = p300 + p299 := ⟨_, rfl⟩
 have t301 := pl_a t300 t299 e301 hp301
 refine pl_0 t301 ?_
 rw [hp301, hp300, hp290, hp295, hp294, hp299, hp289, hp287, hp288, hp293, hp291, hp292, hp298, hp296, hp297]
 exact pq_main (a1 := z0) (a2 := z1) (a3 := z2) (b1 := z3) (b2 := z4) (b3 := z5) (c1 := z17) (c2 := z18) (c3 := z19) (d1 := z20) (d2 := z21) (d3 := z22) (r1 := z10) (r2 := z13) (r3 := z16) (s1 := z27) (s2 := z30) (s3 := z33) (X01 := p89) (X02 := p92) (X03 := p95) (Y01 := p61) (Y02 := p64) (Y03 := p67) (Z01 := p122) (Z02 := p125) (Z03 := p128) (X11 := p172) (X12 := p175) (X13 := p178) (Y11 := p152) (Y12 := p155) (Y13 := p158) (Z11 := p205) (Z12 := p208) (Z13 := p211) (X21 := p222) (X22 := p225) (X23 := p228) (Y21 := p236) (Y22 := p239) (Y23 := p242) (Z21 := p272) (Z22 := p275) (Z23 := p278) (k0 := z6) (k1 := z8) (n0 := z23) (n1 := z25) (by rw [e10, e7, e9]) (by rw [e13, e11, e12]) (by rw [e16, e14, e15]) (by rw [e27, e24, e26]) (by rw [e30, e28, e29]) (by rw [e33, e31, e32]) (by rw [hp89, hp87, hp88]) (by rw [hp92, hp90, hp91]) (by rw [hp95, hp93, hp94]) (by rw [hp61, hp59, hp60]) (by rw [hp64, hp62, hp63]) (by rw [hp67, hp65, hp66]) (by rw [hp122, hp120, hp121]) (by rw [hp125, hp123, hp124]) (by rw [hp128, hp126, hp127]) (by rw [hp172, hp170, hp171]) (by rw [hp175, hp173, hp174]) (by rw [hp178, hp176, hp177]) (by rw [hp152, hp150, hp151]) (by rw [hp155, hp153, hp154]) (by rw [hp158, hp156, hp157]) (by rw [hp205, hp203, hp204]) (by rw [hp208, hp206, hp207]) (by rw [hp211, hp209, hp210]) (by rw [hp222, hp220, hp221]) (by rw [hp225, hp223, hp224]) (by rw [hp228, hp226, hp227]) (by rw [hp236, hp234, hp235]) (by rw [hp239, hp237, hp238]) (by rw [hp242, hp240, hp241]) (by rw [hp272, hp270, hp271]) (by rw [hp275, hp273, hp274]) (by rw [hp278, hp276, hp277])
theorem pQ_r0 : (callC (sx Tryz.prog pQ_N [(0, 38, 0, 1), (0, 43, 0, 1), (0, 47, 0, 1)] [] pQ_L pQ_C pQ_Z (prC [21])) [(151, 60), (156, 62)] 7 [] 3 [(false, [(true, [.inr (2, 0, 0, 0, 0), .inr (2, 1, 0, 0, 0), .inr (2, 2, 0, 0, 0)])]), (false, [(true, [.inr (2, 3, 0, 0, 0), .inr (2, 4, 0, 0, 0), .inr (2, 5, 0, 0, 0)])]), (false, [(true, [.inr (2, 6, 0, 0, 0), .inr (2, 7, 0, 0, 0), .inr (2, 8, 0, 0, 0)])]), (false, [(true, [.inr (2, 9, 0, 0, 0), .inr (2, 10, 0, 0, 0), .inr (2, 11, 0, 0, 0)])]), (false, [(true, [.inr (2, 12, 0, 0, 0), .inr (2, 13, 0, 0, 0)])]), (false, [(true, [.inr (2, 14, 0, 0, 0), .inr (2, 15, 0, 0, 0)])])] [] 0).map (·.1) = some (kB true) := by kernel_rfl
theorem pQ_r1 : (callC (sx Tryz.prog pQ_N [(0, 38, 0, 1), (0, 43, 0, 0), (0, 55, 0, 1), (0, 47, 0, 1)] [] pQ_L pQ_C pQ_Z (prC [21])) [(151, 60), (156, 62)] 7 [] 3 [(false, [(true, [.inr (2, 0, 0, 0, 0), .inr (2, 1, 0, 0, 0), .inr (2, 2, 0, 0, 0)])]), (false, [(true, [.inr (2, 3, 0, 0, 0), .inr (2, 4, 0, 0, 0), .inr (2, 5, 0, 0, 0)])]), (false, [(true, [.inr (2, 6, 0, 0, 0), .inr (2, 7, 0, 0, 0), .inr (2, 8, 0, 0, 0)])]), (false, [(true, [.inr (2, 9, 0, 0, 0), .inr (2, 10, 0, 0, 0), .inr (2, 11, 0, 0, 0)])]), (false, [(true, [.inr (2, 12, 0, 0, 0), .inr (2, 13, 0, 0, 0)])]), (false, [(true, [.inr (2, 14, 0, 0, 0), .inr (2, 15, 0, 0, 0)])])] [] 0).map (·.1) = some (kB true) := by kernel_rfl
theorem pQ_r2 : (callC (sx Tryz.prog pQ_N [(0, 38, 0, 1), (0, 43, 0, 0), (0, 55, 0, 0), (0, 72, 0, 1), (0, 47, 0, 1)] [] pQ_L pQ_C pQ_Z (prC [21])) [(151, 60), (156, 62)] 7 [] 3 [(false, [(true, [.inr (2, 0, 0, 0, 0), .inr (2, 1, 0, 0, 0), .inr (2, 2, 0, 0, 0)])]), (false, [(true, [.inr (2, 3, 0, 0, 0), .inr (2, 4, 0, 0, 0), .inr (2, 5, 0, 0, 0)])]), (false, [(true, [.inr (2, 6, 0, 0, 0), .inr (2, 7, 0, 0, 0), .inr (2, 8, 0, 0, 0)])]), (false, [(true, [.inr (2, 9, 0, 0, 0), .inr (2, 10, 0, 0, 0), .inr (2, 11, 0, 0, 0)])]), (false, [(true, [.inr (2, 12, 0, 0, 0), .inr (2, 13, 0, 0, 0)])]), (false, [(true, [.inr (2, 14, 0, 0, 0), .inr (2, 15, 0, 0, 0)])])] [] 0).map (·.1) = some (kB true) := by kernel_rfl
theorem pQ_r3 : (callC (sx Tryz.prog pQ_N [(0, 38, 0, 1), (0, 43, 0, 0), (0, 55, 0, 0), (0, 72, 0, 0), (0, 47, 0, 1)] [] pQ_L pQ_C pQ_Z (prC [21])) [(151, 60), (156, 62)] 7 [] 3 [(false, [(true, [.inr (2, 0, 0, 0, 0), .inr (2, 1, 0, 0, 0), .inr (2, 2, 0, 0, 0)])]), (false, [(true, [.inr (2, 3, 0, 0, 0), .inr (2, 4, 0, 0, 0), .inr (2, 5, 0, 0, 0)])]), (false, [(true, [.inr (2, 6, 0, 0, 0), .inr (2, 7, 0, 0, 0), .inr (2, 8, 0, 0, 0)])]), (false, [(true, [.inr (2, 9, 0, 0, 0), .inr (2, 10, 0, 0, 0), .inr (2, 11, 0, 0, 0)])]), (false, [(true, [.inr (2, 12, 0, 0, 0), .inr (2, 13, 0, 0, 0)])]), (false, [(true, [.inr (2, 14, 0, 0, 0), .inr (2, 15, 0, 0, 0)])])] [] 0).map (·.1) = some (kB true) := by kernel_rfl
theorem pQ_r4 : (callC (sx Tryz.prog pQ_N [(0, 38, 0, 0), (0, 83, 0, 1), (0, 43, 0, 1), (0, 47, 0, 1)] [] pQ_L pQ_C pQ_Z (prC [21])) [(151, 60), (156, 62)] 7 [] 3 [(false, [(true, [.inr (2, 0, 0, 0, 0), .inr (2, 1, 0, 0, 0), .inr (2, 2, 0, 0, 0)])]), (false, [(true, [.inr (2, 3, 0, 0, 0), .inr (2, 4, 0, 0, 0), .inr (2, 5, 0, 0, 0)])]), (false, [(true, [.inr (2, 6, 0, 0, 0), .inr (2, 7, 0, 0, 0), .inr (2, 8, 0, 0, 0)])]), (false, [(true, [.inr (2, 9, 0, 0, 0), .inr (2, 10, 0, 0, 0), .inr (2, 11, 0, 0, 0)])]), (false, [(true, [.inr (2, 12, 0, 0, 0), .inr (2, 13, 0, 0, 0)])]), (false, [(true, [.inr (2, 14, 0, 0, 0), .inr (2, 15, 0, 0, 0)])])] [] 0).map (·.1) = some (kB true) := by kernel_rfl
theorem pQ_r5 : (callC (sx Tryz.prog pQ_N [(0, 38, 0, 0), (0, 83, 0, 1), (0, 43, 0, 0), (0, 55, 0, 1), (0, 47, 0, 1)] [] pQ_L pQ_C pQ_Z (prC [21])) [(151, 60), (156, 62)] 7 [] 3 [(false, [(true, [.inr (2, 0, 0, 0, 0), .inr (2, 1, 0, 0, 0), .inr (2, 2, 0, 0, 0)])]), (false, [(true, [.inr (2, 3, 0, 0, 0), .inr (2, 4, 0, 0, 0), .inr (2, 5, 0, 0, 0)])]), (false, [(true, [.inr (2, 6, 0, 0, 0), .inr (2, 7, 0, 0, 0), .inr (2, 8, 0, 0, 0)])]), (false, [(true, [.inr (2, 9, 0, 0, 0), .inr (2, 10, 0, 0, 0), .inr (2, 11, 0, 0, 0)])]), (false, [(true, [.inr (2, 12, 0, 0, 0), .inr (2, 13, 0, 0, 0)])]), (false, [(true, [.inr (2, 14, 0, 0, 0), .inr (2, 15, 0, 0, 0)])])] [] 0).map (·.1) = some (kB true) := by kernel_rfl
theorem pQ_r6 : (callC (sx Tryz.prog pQ_N [(0, 38, 0, 0), (0, 83, 0, 1), (0, 43, 0, 0), (0, 55, 0, 0), (0, 72, 0, 1), (0, 47, 0, 1)] [] pQ_L pQ_C pQ_Z (prC [21])) [(151, 60), (156, 62)] 7 [] 3 [(false, [(true, [.inr (2, 0, 0, 0, 0), .inr (2, 1, 0, 0, 0), .inr (2, 2, 0, 0, 0)])]), (false, [(true, [.inr (2, 3, 0, 0, 0), .inr (2, 4, 0, 0, 0), .inr (2, 5, 0, 0, 0)])]), (false, [(true, [.inr (2, 6, 0, 0, 0), .inr (2, 7, 0, 0, 0), .inr (2, 8, 0, 0, 0)])]), (false, [(true, [.inr (2, 9, 0, 0, 0), .inr (2, 10, 0, 0, 0), .inr (2, 11, 0, 0, 0)])]), (false, [(true, [.inr (2, 12, 0, 0, 0), .inr (2, 13, 0, 0, 0)])]), (false, [(true, [.inr (2, 14, 0, 0, 0), .inr (2, 15, 0, 0, 0)])])] [] 0).map (·.1) = some (kB true) := by kernel_rfl
theorem pQ_r7 : (callC (sx Tryz.prog pQ_N [(0, 38, 0, 0), (0, 83, 0, 1), (0, 43, 0, 0), (0, 55, 0, 0), (0, 72, 0, 0), (0, 47, 0, 1)] [] pQ_L pQ_C pQ_Z (prC [21])) [(151, 60), (156, 62)] 7 [] 3 [(false, [(true, [.inr (2, 0, 0, 0, 0), .inr (2, 1, 0, 0, 0), .inr (2, 2, 0, 0, 0)])]), (false, [(true, [.inr (2, 3, 0, 0, 0), .inr (2, 4, 0, 0, 0), .inr (2, 5, 0, 0, 0)])]), (false, [(true, [.inr (2, 6, 0, 0, 0), .inr (2, 7, 0, 0, 0), .inr (2, 8, 0, 0, 0)])]), (false, [(true, [.inr (2, 9, 0, 0, 0), .inr (2, 10, 0, 0, 0), .inr (2, 11, 0, 0, 0)])]), (false, [(true, [.inr (2, 12, 0, 0, 0), .inr (2, 13, 0, 0, 0)])]), (false, [(true, [.inr (2, 14, 0, 0, 0), .inr (2, 15, 0, 0, 0)])])] [] 0).map (·.1) = some (kB true) := by kernel_rfl
theorem pQ_r8 : (callC (sx Tryz.prog pQ_N [(0, 38, 0, 0), (0, 83, 0, 0), (0, 100, 0, 1), (0, 43, 0, 1), (0, 47, 0, 1)] [] pQ_L pQ_C pQ_Z (prC [21])) [(151, 60), (156, 62)] 7 [] 3 [(false, [(true, [.inr (2, 0, 0, 0, 0), .inr (2, 1, 0, 0, 0), .inr (2, 2, 0, 0, 0)])]), (false, [(true, [.inr (2, 3, 0, 0, 0), .inr (2, 4, 0, 0, 0), .inr (2, 5, 0, 0, 0)])]), (false, [(true, [.inr (2, 6, 0, 0, 0), .inr (2, 7, 0, 0, 0), .inr (2, 8, 0, 0, 0)])]), (false, [(true, [.inr (2, 9, 0, 0, 0), .inr (2, 10, 0, 0, 0), .inr (2, 11, 0, 0, 0)])]), (false, [(true, [.inr (2, 12, 0, 0, 0), .inr (2, 13, 0, 0, 0)])]), (false, [(true, [.inr (2, 14, 0, 0, 0), .inr (2, 15, 0, 0, 0)])])] [] 0).map (·.1) = some (kB true) := by kernel_rfl
theorem pQ_r9 : (callC (sx Tryz.prog pQ_N [(0, 38, 0, 0), (0, 83, 0, 0), (0, 100, 0, 1), (0, 43, 0, 0), (0, 55, 0, 1), (0, 47, 0, 1)] [] pQ_L pQ_C pQ_Z (prC [21])) [(151, 60), (156, 62)] 7 [] 3 [(false, [(true, [.inr (2, 0, 0, 0, 0), .inr (2, 1, 0, 0, 0), .inr (2, 2, 0, 0, 0)])]), (false, [(true, [.inr (2, 3, 0, 0, 0), .inr (2, 4, 0, 0, 0), .inr (2, 5, 0, 0, 0)])]), (false, [(true, [.inr (2, 6, 0, 0, 0), .inr (2, 7, 0, 0, 0), .inr (2, 8, 0, 0, 0)])]), (false, [(true, [.inr (2, 9, 0, 0, 0), .inr (2, 10, 0, 0, 0), .inr (2, 11, 0, 0, 0)])]), (false, [(true, [.inr (2, 12, 0, 0, 0), .inr (2, 13, 0, 0, 0)])]), (false, [(true, [.inr (2, 14, 0, 0, 0), .inr (2, 15, 0, 0, 0)])])] [] 0).map (·.1) = some (kB true) := by kernel_rfl
theorem pQ_r10 : (callC (sx Tryz.prog pQ_N [(0, 38, 0, 0), (0, 83, 0, 0), (0, 100, 0, 1), (0, 43, 0, 0), (0, 55, 0, 0), (0, 72, 0, 1), (0, 47, 0, 1)] [] pQ_L pQ_C pQ_Z (prC [21])) [(151, 60), (156, 62)] 7 [] 3 [(false, [(true, [.inr (2, 0, 0, 0, 0), .inr (2, 1, 0, 0, 0), .inr (2, 2, 0, 0, 0)])]), (false, [(true, [.inr (2, 3, 0, 0, 0), .inr (2, 4, 0, 0, 0), .inr (2, 5, 0, 0, 0)])]), (false, [(true, [.inr (2, 6, 0, 0, 0), .inr (2, 7, 0, 0, 0), .inr (2, 8, 0, 0, 0)])]), (false, [(true, [.inr (2, 9, 0, 0, 0), .inr (2, 10, 0, 0, 0), .inr (2, 11, 0, 0, 0)])]), (false, [(true, [.inr (2, 12, 0, 0, 0), .inr (2, 13, 0, 0, 0)])]), (false, [(true, [.inr (2, 14, 0, 0, 0), .inr (2, 15, 0, 0, 0)])])] [] 0).map (·.1) = some (kB true) := by kernel_rfl
theorem pQ_r11 : (callC (sx Tryz.prog pQ_N [(0, 38, 0, 0), (0, 83, 0, 0), (0, 100, 0, 1), (0, 43, 0, 0), (0, 55, 0, 0), (0, 72, 0, 0), (0, 47, 0, 1)] [] pQ_L pQ_C pQ_Z (prC [21])) [(151, 60), (156, 62)] 7 [] 3 [(false, [(true, [.inr (2, 0, 0, 0, 0), .inr (2, 1, 0, 0, 0), .inr (2, 2, 0, 0, 0)])]), (false, [(true, [.inr (2, 3, 0, 0, 0), .inr (2, 4, 0, 0, 0), .inr (2, 5, 0, 0, 0)])]), (false, [(true, [.inr (2, 6, 0, 0, 0), .inr (2, 7, 0, 0, 0), .inr (2, 8, 0, 0, 0)])]), (false, [(true, [.inr (2, 9, 0, 0, 0), .inr (2, 10, 0, 0, 0), .inr (2, 11, 0, 0, 0)])]), (false, [(true, [.inr (2, 12, 0, 0, 0), .inr (2, 13, 0, 0, 0)])]), (false, [(true, [.inr (2, 14, 0, 0, 0), .inr (2, 15, 0, 0, 0)])])] [] 0).map (·.1) = some (kB true) := by kernel_rfl
theorem pQ_r12 : (callC (sx Tryz.prog pQ_N [(0, 38, 0, 0), (0, 83, 0, 0), (0, 100, 0, 0), (0, 43, 0, 1), (0, 108, 0, 0), (0, 47, 0, 1)] [] pQ_L pQ_C pQ_Z (prC [21])) [(151, 60), (156, 62)] 7 [] 3 [(false, [(true, [.inr (2, 0, 0, 0, 0), .inr (2, 1, 0, 0, 0), .inr (2, 2, 0, 0, 0)])]), (false, [(true, [.inr (2, 3, 0, 0, 0), .inr (2, 4, 0, 0, 0), .inr (2, 5, 0, 0, 0)])]), (false, [(true, [.inr (2, 6, 0, 0, 0), .inr (2, 7, 0, 0, 0), .inr (2, 8, 0, 0, 0)])]), (false, [(true, [.inr (2, 9, 0, 0, 0), .inr (2, 10, 0, 0, 0), .inr (2, 11, 0, 0, 0)])]), (false, [(true, [.inr (2, 12, 0, 0, 0), .inr (2, 13, 0, 0, 0)])]), (false, [(true, [.inr (2, 14, 0, 0, 0), .inr (2, 15, 0, 0, 0)])])] [] 0).map (·.1) = some (kB true) := by kernel_rfl
theorem pQ_r13 : (callC (sx Tryz.prog pQ_N [(0, 38, 0, 0), (0, 83, 0, 0), (0, 100, 0, 0), (0, 43, 0, 0), (0, 55, 0, 1), (0, 108, 0, 0), (0, 47, 0, 1)] [] pQ_L pQ_C pQ_Z (prC [21])) [(151, 60), (156, 62)] 7 [] 3 [(false, [(true, [.inr (2, 0, 0, 0, 0), .inr (2, 1, 0, 0, 0), .inr (2, 2, 0, 0, 0)])]), (false, [(true, [.inr (2, 3, 0, 0, 0), .inr (2, 4, 0, 0, 0), .inr (2, 5, 0, 0, 0)])]), (false, [(true, [.inr (2, 6, 0, 0, 0), .inr (2, 7, 0, 0, 0), .inr (2, 8, 0, 0, 0)])]), (false, [(true, [.inr (2, 9, 0, 0, 0), .inr (2, 10, 0, 0, 0), .inr (2, 11, 0, 0, 0)])]), (false, [(true, [.inr (2, 12, 0, 0, 0), .inr (2, 13, 0, 0, 0)])]), (false, [(true, [.inr (2, 14, 0, 0, 0), .inr (2, 15, 0, 0, 0)])])] [] 0).map (·.1) = some (kB true) := by kernel_rfl
theorem pQ_r14 : (callC (sx Tryz.prog pQ_N [(0, 38, 0, 0), (0, 83, 0, 0), (0, 100, 0, 0), (0, 43, 0, 0), (0, 55, 0, 0), (0, 72, 0, 1), (0, 108, 0, 0), (0, 47, 0, 1)] [] pQ_L pQ_C pQ_Z (prC [21])) [(151, 60), (156, 62)] 7 [] 3 [(false, [(true, [.inr (2, 0, 0, 0, 0), .inr (2, 1, 0, 0, 0), .inr (2, 2, 0, 0, 0)])]), (false, [(true, [.inr (2, 3, 0, 0, 0), .inr (2, 4, 0, 0, 0), .inr (2, 5, 0, 0, 0)])]), (false, [(true, [.inr (2, 6, 0, 0, 0), .inr (2, 7, 0, 0, 0), .inr (2, 8, 0, 0, 0)])]), (false, [(true, [.inr (2, 9, 0, 0, 0), .inr (2, 10, 0, 0, 0), .inr (2, 11, 0, 0, 0)])]), (false, [(true, [.inr (2, 12, 0, 0, 0), .inr (2, 13, 0, 0, 0)])]), (false, [(true, [.inr (2, 14, 0, 0, 0), .inr (2, 15, 0, 0, 0)])])] [] 0).map (·.1) = some (kB true) := by kernel_rfl
theorem pQ_r15 : (callC (sx Tryz.prog pQ_N [(0, 38, 0, 0), (0, 83, 0, 0), (0, 100, 0, 0), (0, 43, 0, 0), (0, 55, 0, 0), (0, 72, 0, 0), (0, 108, 0, 0), (0, 116, 0, 0), (0, 133, 0, 1)] [] pQ_L pQ_C pQ_Z (prC [21])) [(151, 60), (156, 62)] 7 [] 3 [(false, [(true, [.inr (2, 0, 0, 0, 0), .inr (2, 1, 0, 0, 0), .inr (2, 2, 0, 0, 0)])]), (false, [(true, [.inr (2, 3, 0, 0, 0), .inr (2, 4, 0, 0, 0), .inr (2, 5, 0, 0, 0)])]), (false, [(true, [.inr (2, 6, 0, 0, 0), .inr (2, 7, 0, 0, 0), .inr (2, 8, 0, 0, 0)])]), (false, [(true, [.inr (2, 9, 0, 0, 0), .inr (2, 10, 0, 0, 0), .inr (2, 11, 0, 0, 0)])]), (false, [(true, [.inr (2, 12, 0, 0, 0), .inr (2, 13, 0, 0, 0)])]), (false, [(true, [.inr (2, 14, 0, 0, 0), .inr (2, 15, 0, 0, 0)])])] [] 0).map (·.1) = some (kB true) := by kernel_rfl
theorem pQ_r16 : (callC (sx Tryz.prog pQ_N [(0, 38, 0, 0), (0, 83, 0, 0), (0, 100, 0, 0), (0, 43, 0, 0), (0, 55, 0, 0), (0, 72, 0, 0), (0, 108, 0, 0), (0, 116, 0, 0), (0, 133, 0, 0), (0, 141, 0, 1), (0, 146, 0, 1), (0, 47, 0, 1)] [] pQ_L pQ_C pQ_Z (prC [21])) [(151, 60), (156, 62)] 7 [] 3 [(false, [(true, [.inr (2, 0, 0, 0, 0), .inr (2, 1, 0, 0, 0), .inr (2, 2, 0, 0, 0)])]), (false, [(true, [.inr (2, 3, 0, 0, 0), .inr (2, 4, 0, 0, 0), .inr (2, 5, 0, 0, 0)])]), (false, [(true, [.inr (2, 6, 0, 0, 0), .inr (2, 7, 0, 0, 0), .inr (2, 8, 0, 0, 0)])]), (false, [(true, [.inr (2, 9, 0, 0, 0), .inr (2, 10, 0, 0, 0), .inr (2, 11, 0, 0, 0)])]), (false, [(true, [.inr (2, 12, 0, 0, 0), .inr (2, 13, 0, 0, 0)])]), (false, [(true, [.inr (2, 14, 0, 0, 0), .inr (2, 15, 0, 0, 0)])])] [] 0).map (·.1) = some (kB true) := by kernel_rfl
theorem pQ_r17 : (callC (sx Tryz.prog pQ_N [(0, 38, 0, 0), (0, 83, 0, 0), (0, 100, 0, 0), (0, 43, 0, 0), (0, 55, 0, 0), (0, 72, 0, 0), (0, 108, 0, 0), (0, 116, 0, 0), (0, 133, 0, 0), (0, 141, 0, 1), (0, 146, 0, 0), (0, 163, 0, 1), (0, 47, 0, 1)] [] pQ_L pQ_C pQ_Z (prC [21])) [(151, 60), (156, 62)] 7 [] 3 [(false, [(true, [.inr (2, 0, 0, 0, 0), .inr (2, 1, 0, 0, 0), .inr (2, 2, 0, 0, 0)])]), (false, [(true, [.inr (2, 3, 0, 0, 0), .inr (2, 4, 0, 0, 0), .inr (2, 5, 0, 0, 0)])]), (false, [(true, [.inr (2, 6, 0, 0, 0), .inr (2, 7, 0, 0, 0), .inr (2, 8, 0, 0, 0)])]), (false, [(true, [.inr (2, 9, 0, 0, 0), .inr (2, 10, 0, 0, 0), .inr (2, 11, 0, 0, 0)])]), (false, [(true, [.inr (2, 12, 0, 0, 0), .inr (2, 13, 0, 0, 0)])]), (false, [(true, [.inr (2, 14, 0, 0, 0), .inr (2, 15, 0, 0, 0)])])] [] 0).map (·.1) = some (kB true) := by kernel_rfl
theorem pQ_r18 : (callC (sx Tryz.prog pQ_N [(0, 38, 0, 0), (0, 83, 0, 0), (0, 100, 0, 0), (0, 43, 0, 0), (0, 55, 0, 0), (0, 72, 0, 0), (0, 108, 0, 0), (0, 116, 0, 0), (0, 133, 0, 0), (0, 141, 0, 1), (0, 146, 0, 0), (0, 163, 0, 0), (0, 47, 0, 1)] [] pQ_L pQ_C pQ_Z (prC [21])) [(151, 60), (156, 62)] 7 [] 3 [(false, [(true, [.inr (2, 0, 0, 0, 0), .inr (2, 1, 0, 0, 0), .inr (2, 2, 0, 0, 0)])]), (false, [(true, [.inr (2, 3, 0, 0, 0), .inr (2, 4, 0, 0, 0), .inr (2, 5, 0, 0, 0)])]), (false, [(true, [.inr (2, 6, 0, 0, 0), .inr (2, 7, 0, 0, 0), .inr (2, 8, 0, 0, 0)])]), (false, [(true, [.inr (2, 9, 0, 0, 0), .inr (2, 10, 0, 0, 0), .inr (2, 11, 0, 0, 0)])]), (false, [(true, [.inr (2, 12, 0, 0, 0), .inr (2, 13, 0, 0, 0)])]), (false, [(true, [.inr (2, 14, 0, 0, 0), .inr (2, 15, 0, 0, 0)])])] [] 0).map (·.1) = some (kB true) := by kernel_rfl
theorem pQ_r19 : (callC (sx Tryz.prog pQ_N [(0, 38, 0, 0), (0, 83, 0, 0), (0, 100, 0, 0), (0, 43, 0, 0), (0, 55, 0, 0), (0, 72, 0, 0), (0, 108, 0, 0), (0, 116, 0, 0), (0, 133, 0, 0), (0, 141, 0, 0), (0, 183, 0, 1), (0, 146, 0, 1), (0, 47, 0, 1)] [] pQ_L pQ_C pQ_Z (prC [21])) [(151, 60), (156, 62)] 7 [] 3 [(false, [(true, [.inr (2, 0, 0, 0, 0), .inr (2, 1, 0, 0, 0), .inr (2, 2, 0, 0, 0)])]), (false, [(true, [.inr (2, 3, 0, 0, 0), .inr (2, 4, 0, 0, 0), .inr (2, 5, 0, 0, 0)])]), (false, [(true, [.inr (2, 6, 0, 0, 0), .inr (2, 7, 0, 0, 0), .inr (2, 8, 0, 0, 0)])]), (false, [(true, [.inr (2, 9, 0, 0, 0), .inr (2, 10, 0, 0, 0), .inr (2, 11, 0, 0, 0)])]), (false, [(true, [.inr (2, 12, 0, 0, 0), .inr (2, 13, 0, 0, 0)])]), (false, [(true, [.inr (2, 14, 0, 0, 0), .inr (2, 15, 0, 0, 0)])])] [] 0).map (·.1) = some (kB true) := by kernel_rfl
theorem pQ_r20 : (callC (sx Tryz.prog pQ_N [(0, 38, 0, 0), (0, 83, 0, 0), (0, 100, 0, 0), (0, 43, 0, 0), (0, 55, 0, 0), (0, 72, 0, 0), (0, 108, 0, 0), (0, 116, 0, 0), (0, 133, 0, 0), (0, 141, 0, 0), (0, 183, 0, 1), (0, 146, 0, 0), (0, 163, 0, 1), (0, 47, 0, 1)] [] pQ_L pQ_C pQ_Z (prC [21])) [(151, 60), (156, 62)] 7 [] 3 [(false, [(true, [.inr (2, 0, 0, 0, 0), .inr (2, 1, 0, 0, 0), .inr (2, 2, 0, 0, 0)])]), (false, [(true, [.inr (2, 3, 0, 0, 0), .inr (2, 4, 0, 0, 0), .inr (2, 5, 0, 0, 0)])]), (false, [(true, [.inr (2, 6, 0, 0, 0), .inr (2, 7, 0, 0, 0), .inr (2, 8, 0, 0, 0)])]), (false, [(true, [.inr (2, 9, 0, 0, 0), .inr (2, 10, 0, 0, 0), .inr (2, 11, 0, 0, 0)])]), (false, [(true, [.inr (2, 12, 0, 0, 0), .inr (2, 13, 0, 0, 0)])]), (false, [(true, [.inr (2, 14, 0, 0, 0), .inr (2, 15, 0, 0, 0)])])] [] 0).map (·.1) = some (kB true) := by kernel_rfl
theorem pQ_r21 : (callC (sx Tryz.prog pQ_N [(0, 38, 0, 0), (0, 83, 0, 0), (0, 100, 0, 0), (0, 43, 0, 0), (0, 55, 0, 0), (0, 72, 0, 0), (0, 108, 0, 0), (0, 116, 0, 0), (0, 133, 0, 0), (0, 141, 0, 0), (0, 183, 0, 1), (0, 146, 0, 0), (0, 163, 0, 0), (0, 47, 0, 1)] [] pQ_L pQ_C pQ_Z (prC [21])) [(151, 60), (156, 62)] 7 [] 3 [(false, [(true, [.inr (2, 0, 0, 0, 0), .inr (2, 1, 0, 0, 0), .inr (2, 2, 0, 0, 0)])]), (false, [(true, [.inr (2, 3, 0, 0, 0), .inr (2, 4, 0, 0, 0), .inr (2, 5, 0, 0, 0)])]), (false, [(true, [.inr (2, 6, 0, 0, 0), .inr (2, 7, 0, 0, 0), .inr (2, 8, 0, 0, 0)])]), (false, [(true, [.inr (2, 9, 0, 0, 0), .inr (2, 10, 0, 0, 0), .inr (2, 11, 0, 0, 0)])]), (false, [(true, [.inr (2, 12, 0, 0, 0), .inr (2, 13, 0, 0, 0)])]), (false, [(true, [.inr (2, 14, 0, 0, 0), .inr (2, 15, 0, 0, 0)])])] [] 0).map (·.1) = some (kB true) := by kernel_rfl
theorem pQ_r22 : (callC (sx Tryz.prog pQ_N [(0, 38, 0, 0), (0, 83, 0, 0), (0, 100, 0, 0), (0, 43, 0, 0), (0, 55, 0, 0), (0, 72, 0, 0), (0, 108, 0, 0), (0, 116, 0, 0), (0, 133, 0, 0), (0, 141, 0, 0), (0, 183, 0, 0), (0, 146, 0, 1), (0, 191, 0, 0), (0, 47, 0, 1)] [] pQ_L pQ_C pQ_Z (prC [21])) [(151, 60), (156, 62)] 7 [] 3 [(false, [(true, [.inr (2, 0, 0, 0, 0), .inr (2, 1, 0, 0, 0), .inr (2, 2, 0, 0, 0)])]), (false, [(true, [.inr (2, 3, 0, 0, 0), .inr (2, 4, 0, 0, 0), .inr (2, 5, 0, 0, 0)])]), (false, [(true, [.inr (2, 6, 0, 0, 0), .inr (2, 7, 0, 0, 0), .inr (2, 8, 0, 0, 0)])]), (false, [(true, [.inr (2, 9, 0, 0, 0), .inr (2, 10, 0, 0, 0), .inr (2, 11, 0, 0, 0)])]), (false, [(true, [.inr (2, 12, 0, 0, 0), .inr (2, 13, 0, 0, 0)])]), (false, [(true, [.inr (2, 14, 0, 0, 0), .inr (2, 15, 0, 0, 0)])])] [] 0).map (·.1) = some (kB true) := by kernel_rfl
theorem pQ_r23 : (callC (sx Tryz.prog pQ_N [(0, 38, 0, 0), (0, 83, 0, 0), (0, 100, 0, 0), (0, 43, 0, 0), (0, 55, 0, 0), (0, 72, 0, 0), (0, 108, 0, 0), (0, 116, 0, 0), (0, 133, 0, 0), (0, 141, 0, 0), (0, 183, 0, 0), (0, 146, 0, 0), (0, 163, 0, 1), (0, 191, 0, 0), (0, 47, 0, 1)] [] pQ_L pQ_C pQ_Z (prC [21])) [(151, 60), (156, 62)] 7 [] 3 [(false, [(true, [.inr (2, 0, 0, 0, 0), .inr (2, 1, 0, 0, 0), .inr (2, 2, 0, 0, 0)])]), (false, [(true, [.inr (2, 3, 0, 0, 0), .inr (2, 4, 0, 0, 0), .inr (2, 5, 0, 0, 0)])]), (false, [(true, [.inr (2, 6, 0, 0, 0), .inr (2, 7, 0, 0, 0), .inr (2, 8, 0, 0, 0)])]), (false, [(true, [.inr (2, 9, 0, 0, 0), .inr (2, 10, 0, 0, 0), .inr (2, 11, 0, 0, 0)])]), (false, [(true, [.inr (2, 12, 0, 0, 0), .inr (2, 13, 0, 0, 0)])]), (false, [(true, [.inr (2, 14, 0, 0, 0), .inr (2, 15, 0, 0, 0)])])] [] 0).map (·.1) = some (kB true) := by kernel_rfl
theorem pQ_r24 : (callC (sx Tryz.prog pQ_N [(0, 38, 0, 0), (0, 83, 0, 0), (0, 100, 0, 0), (0, 43, 0, 0), (0, 55, 0, 0), (0, 72, 0, 0), (0, 108, 0, 0), (0, 116, 0, 0), (0, 133, 0, 0), (0, 141, 0, 0), (0, 183, 0, 0), (0, 146, 0, 0), (0, 163, 0, 0), (0, 191, 0, 0), (0, 199, 0, 0), (0, 216, 0, 1)] [] pQ_L pQ_C pQ_Z (prC [21])) [(151, 60), (156, 62)] 7 [] 3 [(false, [(true, [.inr (2, 0, 0, 0, 0), .inr (2, 1, 0, 0, 0), .inr (2, 2, 0, 0, 0)])]), (false, [(true, [.inr (2, 3, 0, 0, 0), .inr (2, 4, 0, 0, 0), .inr (2, 5, 0, 0, 0)])]), (false, [(true, [.inr (2, 6, 0, 0, 0), .inr (2, 7, 0, 0, 0), .inr (2, 8, 0, 0, 0)])]), (false, [(true, [.inr (2, 9, 0, 0, 0), .inr (2, 10, 0, 0, 0), .inr (2, 11, 0, 0, 0)])]), (false, [(true, [.inr (2, 12, 0, 0, 0), .inr (2, 13, 0, 0, 0)])]), (false, [(true, [.inr (2, 14, 0, 0, 0), .inr (2, 15, 0, 0, 0)])])] [] 0).map (·.1) = some (kB true) := by kernel_rfl
theorem pQ_r25 : (callC (sx Tryz.prog pQ_N [(0, 38, 0, 0), (0, 83, 0, 0), (0, 100, 0, 0), (0, 43, 0, 0), (0, 55, 0, 0), (0, 72, 0, 0), (0, 108, 0, 0), (0, 116, 0, 0), (0, 133, 0, 0), (0, 141, 0, 0), (0, 183, 0, 0), (0, 146, 0, 0), (0, 163, 0, 0), (0, 191, 0, 0), (0, 199, 0, 0), (0, 216, 0, 0), (0, 233, 0, 1), (0, 247, 0, 1), (0, 47, 0, 1)] [] pQ_L pQ_C pQ_Z (prC [21])) [(151, 60), (156, 62)] 7 [] 3 [(false, [(true, [.inr (2, 0, 0, 0, 0), .inr (2, 1, 0, 0, 0), .inr (2, 2, 0, 0, 0)])]), (false, [(true, [.inr (2, 3, 0, 0, 0), .inr (2, 4, 0, 0, 0), .inr (2, 5, 0, 0, 0)])]), (false, [(true, [.inr (2, 6, 0, 0, 0), .inr (2, 7, 0, 0, 0), .inr (2, 8, 0, 0, 0)])]), (false, [(true, [.inr (2, 9, 0, 0, 0), .inr (2, 10, 0, 0, 0), .inr (2, 11, 0, 0, 0)])]), (false, [(true, [.inr (2, 12, 0, 0, 0), .inr (2, 13, 0, 0, 0)])]), (false, [(true, [.inr (2, 14, 0, 0, 0), .inr (2, 15, 0, 0, 0)])])] [] 0).map (·.1) = some (kB true) := by kernel_rfl
theorem pQ_r26 : (callC (sx Tryz.prog pQ_N [(0, 38, 0, 0), (0, 83, 0, 0), (0, 100, 0, 0), (0, 43, 0, 0), (0, 55, 0, 0), (0, 72, 0, 0), (0, 108, 0, 0), (0, 116, 0, 0), (0, 133, 0, 0), (0, 141, 0, 0), (0, 183, 0, 0), (0, 146, 0, 0), (0, 163, 0, 0), (0, 191, 0, 0), (0, 199, 0, 0), (0, 216, 0, 0), (0, 233, 0, 1), (0, 247, 0, 0), (0, 47, 0, 1)] [] pQ_L pQ_C pQ_Z (prC [21])) [(151, 60), (156, 62)] 7 [] 3 [(false, [(true, [.inr (2, 0, 0, 0, 0), .inr (2, 1, 0, 0, 0), .inr (2, 2, 0, 0, 0)])]), (false, [(true, [.inr (2, 3, 0, 0, 0), .inr (2, 4, 0, 0, 0), .inr (2, 5, 0, 0, 0)])]), (false, [(true, [.inr (2, 6, 0, 0, 0), .inr (2, 7, 0, 0, 0), .inr (2, 8, 0, 0, 0)])]), (false, [(true, [.inr (2, 9, 0, 0, 0), .inr (2, 10, 0, 0, 0), .inr (2, 11, 0, 0, 0)])]), (false, [(true, [.inr (2, 12, 0, 0, 0), .inr (2, 13, 0, 0, 0)])]), (false, [(true, [.inr (2, 14, 0, 0, 0), .inr (2, 15, 0, 0, 0)])])] [] 0).map (·.1) = some (kB true) := by kernel_rfl
theorem pQ_r27 : (callC (sx Tryz.prog pQ_N [(0, 38, 0, 0), (0, 83, 0, 0), (0, 100, 0, 0), (0, 43, 0, 0), (0, 55, 0, 0), (0, 72, 0, 0), (0, 108, 0, 0), (0, 116, 0, 0), (0, 133, 0, 0), (0, 141, 0, 0), (0, 183, 0, 0), (0, 146, 0, 0), (0, 163, 0, 0), (0, 191, 0, 0), (0, 199, 0, 0), (0, 216, 0, 0), (0, 233, 0, 0), (0, 247, 0, 1), (0, 258, 0, 0), (0, 47, 0, 1)] [] pQ_L pQ_C pQ_Z (prC [21])) [(151, 60), (156, 62)] 7 [] 3 [(false, [(true, [.inr (2, 0, 0, 0, 0), .inr (2, 1, 0, 0, 0), .inr (2, 2, 0, 0, 0)])]), (false, [(true, [.inr (2, 3, 0, 0, 0), .inr (2, 4, 0, 0, 0), .inr (2, 5, 0, 0, 0)])]), (false, [(true, [.inr (2, 6, 0, 0, 0), .inr (2, 7, 0, 0, 0), .inr (2, 8, 0, 0, 0)])]), (false, [(true, [.inr (2, 9, 0, 0, 0), .inr (2, 10, 0, 0, 0), .inr (2, 11, 0, 0, 0)])]), (false, [(true, [.inr (2, 12, 0, 0, 0), .inr (2, 13, 0, 0, 0)])]), (false, [(true, [.inr (2, 14, 0, 0, 0), .inr (2, 15, 0, 0, 0)])])] [] 0).map (·.1) = some (kB true) := by kernel_rfl
theorem pQ_r28 : (callC (sx Tryz.prog pQ_N [(0, 38, 0, 0), (0, 83, 0, 0), (0, 100, 0, 0), (0, 43, 0, 0), (0, 55, 0, 0), (0, 72, 0, 0), (0, 108, 0, 0), (0, 116, 0, 0), (0, 133, 0, 0), (0, 141, 0, 0), (0, 183, 0, 0), (0, 146, 0, 0), (0, 163, 0, 0), (0, 191, 0, 0), (0, 199, 0, 0), (0, 216, 0, 0), (0, 233, 0, 0), (0, 247, 0, 0), (0, 258, 0, 0), (0, 266, 0, 0), (0, 283, 0, 1)] [] pQ_L pQ_C pQ_Z (prC [21])) [(151, 60), (156, 62)] 7 [] 3 [(false, [(true, [.inr (2, 0, 0, 0, 0), .inr (2, 1, 0, 0, 0), .inr (2, 2, 0, 0, 0)])]), (false, [(true, [.inr (2, 3, 0, 0, 0), .inr (2, 4, 0, 0, 0), .inr (2, 5, 0, 0, 0)])]), (false, [(true, [.inr (2, 6, 0, 0, 0), .inr (2, 7, 0, 0, 0), .inr (2, 8, 0, 0, 0)])]), (false, [(true, [.inr (2, 9, 0, 0, 0), .inr (2, 10, 0, 0, 0), .inr (2, 11, 0, 0, 0)])]), (false, [(true, [.inr (2, 12, 0, 0, 0), .inr (2, 13, 0, 0, 0)])]), (false, [(true, [.inr (2, 14, 0, 0, 0), .inr (2, 15, 0, 0, 0)])])] [] 0).map (·.1) = some (kB true) := by kernel_rfl
theorem pQ_r29 : (callC (sx Tryz.prog pQ_N [(0, 38, 0, 0), (0, 83, 0, 0), (0, 100, 0, 0), (0, 43, 0, 0), (0, 55, 0, 0), (0, 72, 0, 0), (0, 108, 0, 0), (0, 116, 0, 0), (0, 133, 0, 0), (0, 141, 0, 0), (0, 183, 0, 0), (0, 146, 0, 0), (0, 163, 0, 0), (0, 191, 0, 0), (0, 199, 0, 0), (0, 216, 0, 0), (0, 233, 0, 0), (0, 247, 0, 0), (0, 258, 0, 0), (0, 266, 0, 0), (0, 283, 0, 0), (0, 301, 0, 1)] [] pQ_L pQ_C pQ_Z (prC [21])) [(151, 60), (156, 62)] 7 [] 3 [(false, [(true, [.inr (2, 0, 0, 0, 0), .inr (2, 1, 0, 0, 0), .inr (2, 2, 0, 0, 0)])]), (false, [(true, [.inr (2, 3, 0, 0, 0), .inr (2, 4, 0, 0, 0), .inr (2, 5, 0, 0, 0)])]), (false, [(true, [.inr (2, 6, 0, 0, 0), .inr (2, 7, 0, 0, 0), .inr (2, 8, 0, 0, 0)])]), (false, [(true, [.inr (2, 9, 0, 0, 0), .inr (2, 10, 0, 0, 0), .inr (2, 11, 0, 0, 0)])]), (false, [(true, [.inr (2, 12, 0, 0, 0), .inr (2, 13, 0, 0, 0)])]), (false, [(true, [.inr (2, 14, 0, 0, 0), .inr (2, 15, 0, 0, 0)])])] [] 0).map (·.1) = some (kB true) := by kernel_rfl
theorem pQ_An {a b : Prop} (x : a) (y : b) : a ∧ b := ⟨x, y⟩
theorem pQ_leaf {H : List (Nat × Nat × Nat × Nat)} {K : List (FuncId × List AC)} {k : Nat} {q : Nat → Rat} {σ : Nat → ByteArray} {args : List AV} {vs : List Value} {w : World} (hr : (callC (sx Tryz.prog pQ_N H K pQ_L pQ_C pQ_Z (prC [21])) [(151, 60), (156, 62)] k [] 3 args [] 0).map (·.1) = some (kB true)) (hσ : ∀ j, (σ j).size ≤ 1048576) (hq : ∀ (a : Nat) nd, pQ_N[a]? = some nd → q a = valN σ q nd) (h0 : ∀ a, pQ_N.length ≤ a → q a = 0) (hH : hAll q H) (hp : PreS w) (hA : ∀ K, A2 (avOn (cOn (evS q σ) K (fun _ => none) w)) args vs) : Calls Tryz.prog 3 vs.toArray w fun e w' => Below w.heap.size w w' ∧ e = .returned (.bool true) :=
 run_toldC' k (hy_ofW hσ pQ_wf pQ_sz pQ_lt pQ_cn hq h0 hH) (by simp [closed_projected]) (by kernel_rfl) hr hp (hA K)
theorem pQ_walk {w : World} {sa sb sc ta tb tc ua ub uc va vb vc ka kb na nb : ByteArray} (ssa : sa.size ≤ 1048576) (ssb : sb.size ≤ 1048576) (ssc : sc.size ≤ 1048576) (sta : ta.size ≤ 1048576) (stb : tb.size ≤ 1048576) (stc : tc.size ≤ 1048576) (sua : ua.size ≤ 1048576) (sub : ub.size ≤ 1048576) (suc : uc.size ≤ 1048576) (sva : va.size ≤ 1048576) (svb : vb.size ≤ 1048576) (svc : vc.size ≤ 1048576) (ska : ka.size ≤ 1048576) (skb : kb.size ≤ 1048576) (sna : na.size ≤ 1048576) (snb : nb.size ≤ 1048576) (tab : Tab w) (mx : MaxL w) :
  Calls Tryz.prog 3 #[.agg #[.string sa, .string sb, .string sc], .agg #[.string ta, .string tb, .string tc], .agg #[.string ua, .string ub, .string uc], .agg #[.string va, .string vb, .string vc], .agg #[.string ka, .string kb], .agg #[.string na, .string nb]] w fun e w' => Below w.heap.size w w' ∧ e = .returned (.bool true) := by
 have hσ : ∀ j, (sgOf [sa, sb, sc, ta, tb, tc, ua, ub, uc, va, vb, vc, ka, kb, na, nb] j).size ≤ 1048576 := sgOf_size (by simp [ssa, ssb, ssc, sta, stb, stc, sua, sub, suc, sva, svb, svc, ska, skb, sna, snb])
 obtain ⟨q, hq, h0⟩ := nodes_exist (sgOf [sa, sb, sc, ta, tb, tc, ua, ub, uc, va, vb, vc, ka, kb, na, nb]) pQ_N pQ_wf
 have hA : ∀ K, A2 (avOn (cOn (evS q (sgOf [sa, sb, sc, ta, tb, tc, ua, ub, uc, va, vb, vc, ka, kb, na, nb])) K (fun _ => none) w)) [(false, [(true, [.inr (2, 0, 0, 0, 0), .inr (2, 1, 0, 0, 0), .inr (2, 2, 0, 0, 0)])]), (false, [(true, [.inr (2, 3, 0, 0, 0), .inr (2, 4, 0, 0, 0), .inr (2, 5, 0, 0, 0)])]), (false, [(true, [.inr (2, 6, 0, 0, 0), .inr (2, 7, 0, 0, 0), .inr (2, 8, 0, 0, 0)])]), (false, [(true, [.inr (2, 9, 0, 0, 0), .inr (2, 10, 0, 0, 0), .inr (2, 11, 0, 0, 0)])]), (false, [(true, [.inr (2, 12, 0, 0, 0), .inr (2, 13, 0, 0, 0)])]), (false, [(true, [.inr (2, 14, 0, 0, 0), .inr (2, 15, 0, 0, 0)])])] [.agg #[.string sa, .string sb, .string sc], .agg #[.string ta, .string tb, .string tc], .agg #[.string ua, .string ub, .string uc], .agg #[.string va, .string vb, .string vc], .agg #[.string ka, .string kb], .agg #[.string na, .string nb]] := fun K => ⟨⟨⟨[.string sa, .string sb, .string sc], rfl, rfl, rfl, rfl, trivial⟩, trivial⟩, ⟨⟨[.string ta, .string tb, .string tc], rfl, rfl, rfl, rfl, trivial⟩, trivial⟩, ⟨⟨[.string ua, .string ub, .string uc], rfl, rfl, rfl, rfl, trivial⟩, trivial⟩, ⟨⟨[.string va, .string vb, .string vc], rfl, rfl, rfl, rfl, trivial⟩, trivial⟩, ⟨⟨[.string ka, .string kb], rfl, rfl, rfl, trivial⟩, trivial⟩, ⟨⟨[.string na, .string nb], rfl, rfl, rfl, trivial⟩, trivial⟩, trivial⟩
 have E7 : q 7 = q 6 * q 0 := hq 7 _ rfl
 have E9 : q 9 = q 8 * q 3 := hq 9 _ rfl
 have E10 : q 10 = q 7 + q 9 := hq 10 _ rfl
 have E11 : q 11 = q 6 * q 1 := hq 11 _ rfl
 have E12 : q 12 = q 8 * q 4 := hq 12 _ rfl
 have E13 : q 13 = q 11 + q 12 := hq 13 _ rfl
 have E14 : q 14 = q 6 * q 2 := hq 14 _ rfl
 have E15 : q 15 = q 8 * q 5 := hq 15 _ rfl
 have E16 : q 16 = q 14 + q 15 := hq 16 _ rfl
 have E24 : q 24 = q 23 * q 17 := hq 24 _ rfl
 have E26 : q 26 = q 25 * q 20 := hq 26 _ rfl
 have E27 : q 27 = q 24 + q 26 := hq 27 _ rfl
 have E28 : q 28 = q 23 * q 18 := hq 28 _ rfl
 have E29 : q 29 = q 25 * q 21 := hq 29 _ rfl
 have E30 : q 30 = q 28 + q 29 := hq 30 _ rfl
 have E31 : q 31 = q 23 * q 19 := hq 31 _ rfl
 have E32 : q 32 = q 25 * q 22 := hq 32 _ rfl
 have E33 : q 33 = q 31 + q 32 := hq 33 _ rfl
 have E44 : q 44 = 0 := (hq 44 _ rfl).trans pQ_c44
 have E48 : q 48 = q 3 * fac [q 3, q 4, q 5] := hq 48 _ rfl
 have E49 : q 49 = q 4 * fac [q 3, q 4, q 5] := hq 49 _ rfl
 have E50 : q 50 = q 5 * fac [q 3, q 4, q 5] := hq 50 _ rfl
 have E56 : q 56 = q 17 * fac [q 17, q 18, q 19] := hq 56 _ rfl
 have E57 : q 57 = q 18 * fac [q 17, q 18, q 19] := hq 57 _ rfl
 have E58 : q 58 = q 19 * fac [q 17, q 18, q 19] := hq 58 _ rfl
 have E59 : q 59 = q 49 * q 58 := hq 59 _ rfl
 have E60 : q 60 = q 50 * q 57 := hq 60 _ rfl
 have E61 : q 61 = q 59 - q 60 := hq 61 _ rfl
 have E62 : q 62 = q 50 * q 56 := hq 62 _ rfl
 have E63 : q 63 = q 48 * q 58 := hq 63 _ rfl
 have E64 : q 64 = q 62 - q 63 := hq 64 _ rfl
 have E65 : q 65 = q 48 * q 57 := hq 65 _ rfl
 have E66 : q 66 = q 49 * q 56 := hq 66 _ rfl
 have E67 : q 67 = q 65 - q 66 := hq 67 _ rfl
 have E73 : q 73 = q 61 * fac [q 61, q 64, q 67] := hq 73 _ rfl
 have E74 : q 74 = q 64 * fac [q 61, q 64, q 67] := hq 74 _ rfl
 have E75 : q 75 = q 67 * fac [q 61, q 64, q 67] := hq 75 _ rfl
 have E76 : q 76 = q 0 * fac [q 0, q 1, q 2] := hq 76 _ rfl
 have E77 : q 77 = q 1 * fac [q 0, q 1, q 2] := hq 77 _ rfl
 have E78 : q 78 = q 2 * fac [q 0, q 1, q 2] := hq 78 _ rfl
 have E84 : q 84 = q 20 * fac [q 20, q 21, q 22] := hq 84 _ rfl
 have E85 : q 85 = q 21 * fac [q 20, q 21, q 22] := hq 85 _ rfl
 have E86 : q 86 = q 22 * fac [q 20, q 21, q 22] := hq 86 _ rfl
 have E87 : q 87 = q 77 * q 86 := hq 87 _ rfl
 have E88 : q 88 = q 78 * q 85 := hq 88 _ rfl
 have E89 : q 89 = q 87 - q 88 := hq 89 _ rfl
 have E90 : q 90 = q 78 * q 84 := hq 90 _ rfl
 have E91 : q 91 = q 76 * q 86 := hq 91 _ rfl
 have E92 : q 92 = q 90 - q 91 := hq 92 _ rfl
 have E93 : q 93 = q 76 * q 85 := hq 93 _ rfl
 have E94 : q 94 = q 77 * q 84 := hq 94 _ rfl
 have E95 : q 95 = q 93 - q 94 := hq 95 _ rfl
 have E101 : q 101 = q 89 * fac [q 89, q 92, q 95] := hq 101 _ rfl
 have E102 : q 102 = q 92 * fac [q 89, q 92, q 95] := hq 102 _ rfl
 have E103 : q 103 = q 95 * fac [q 89, q 92, q 95] := hq 103 _ rfl
 have E109 : q 109 = q 101 * fac [q 101, q 102, q 103] := hq 109 _ rfl
 have E110 : q 110 = q 102 * fac [q 101, q 102, q 103] := hq 110 _ rfl
 have E111 : q 111 = q 103 * fac [q 101, q 102, q 103] := hq 111 _ rfl
 have E117 : q 117 = q 73 * fac [q 73, q 74, q 75] := hq 117 _ rfl
 have E118 : q 118 = q 74 * fac [q 73, q 74, q 75] := hq 118 _ rfl
 have E119 : q 119 = q 75 * fac [q 73, q 74, q 75] := hq 119 _ rfl
 have E120 : q 120 = q 110 * q 119 := hq 120 _ rfl
 have E121 : q 121 = q 111 * q 118 := hq 121 _ rfl
 have E122 : q 122 = q 120 - q 121 := hq 122 _ rfl
 have E123 : q 123 = q 111 * q 117 := hq 123 _ rfl
 have E124 : q 124 = q 109 * q 119 := hq 124 _ rfl
 have E125 : q 125 = q 123 - q 124 := hq 125 _ rfl
 have E126 : q 126 = q 109 * q 118 := hq 126 _ rfl
 have E127 : q 127 = q 110 * q 117 := hq 127 _ rfl
 have E128 : q 128 = q 126 - q 127 := hq 128 _ rfl
 have E134 : q 134 = q 122 * fac [q 122, q 125, q 128] := hq 134 _ rfl
 have E135 : q 135 = q 125 * fac [q 122, q 125, q 128] := hq 135 _ rfl
 have E136 : q 136 = q 128 * fac [q 122, q 125, q 128] := hq 136 _ rfl
 have E147 : q 147 = q 10 * fac [q 10, q 13, q 16] := hq 147 _ rfl
 have E148 : q 148 = q 13 * fac [q 10, q 13, q 16] := hq 148 _ rfl
 have E149 : q 149 = q 16 * fac [q 10, q 13, q 16] := hq 149 _ rfl
 have E150 : q 150 = q 148 * q 86 := hq 150 _ rfl
 have E151 : q 151 = q 149 * q 85 := hq 151 _ rfl
 have E152 : q 152 = q 150 - q 151 := hq 152 _ rfl
 have E153 : q 153 = q 149 * q 84 := hq 153 _ rfl
 have E154 : q 154 = q 147 * q 86 := hq 154 _ rfl
 have E155 : q 155 = q 153 - q 154 := hq 155 _ rfl
 have E156 : q 156 = q 147 * q 85 := hq 156 _ rfl
 have E157 : q 157 = q 148 * q 84 := hq 157 _ rfl
 have E158 : q 158 = q 156 - q 157 := hq 158 _ rfl
 have E164 : q 164 = q 152 * fac [q 152, q 155, q 158] := hq 164 _ rfl
 have E165 : q 165 = q 155 * fac [q 152, q 155, q 158] := hq 165 _ rfl
 have E166 : q 166 = q 158 * fac [q 152, q 155, q 158] := hq 166 _ rfl
 have E167 : q 167 = q 27 * fac [q 27, q 30, q 33] := hq 167 _ rfl
 have E168 : q 168 = q 30 * fac [q 27, q 30, q 33] := hq 168 _ rfl
 have E169 : q 169 = q 33 * fac [q 27, q 30, q 33] := hq 169 _ rfl
 have E170 : q 170 = q 49 * q 169 := hq 170 _ rfl
 have E171 : q 171 = q 50 * q 168 := hq 171 _ rfl
 have E172 : q 172 = q 170 - q 171 := hq 172 _ rfl
 have E173 : q 173 = q 50 * q 167 := hq 173 _ rfl
 have E174 : q 174 = q 48 * q 169 := hq 174 _ rfl
 have E175 : q 175 = q 173 - q 174 := hq 175 _ rfl
 have E176 : q 176 = q 48 * q 168 := hq 176 _ rfl
 have E177 : q 177 = q 49 * q 167 := hq 177 _ rfl
 have E178 : q 178 = q 176 - q 177 := hq 178 _ rfl
 have E184 : q 184 = q 172 * fac [q 172, q 175, q 178] := hq 184 _ rfl
 have E185 : q 185 = q 175 * fac [q 172, q 175, q 178] := hq 185 _ rfl
 have E186 : q 186 = q 178 * fac [q 172, q 175, q 178] := hq 186 _ rfl
 have E192 : q 192 = q 184 * fac [q 184, q 185, q 186] := hq 192 _ rfl
 have E193 : q 193 = q 185 * fac [q 184, q 185, q 186] := hq 193 _ rfl
 have E194 : q 194 = q 186 * fac [q 184, q 185, q 186] := hq 194 _ rfl
 have E200 : q 200 = q 164 * fac [q 164, q 165, q 166] := hq 200 _ rfl
 have E201 : q 201 = q 165 * fac [q 164, q 165, q 166] := hq 201 _ rfl
 have E202 : q 202 = q 166 * fac [q 164, q 165, q 166] := hq 202 _ rfl
 have E203 : q 203 = q 193 * q 202 := hq 203 _ rfl
 have E204 : q 204 = q 194 * q 201 := hq 204 _ rfl
 have E205 : q 205 = q 203 - q 204 := hq 205 _ rfl
 have E206 : q 206 = q 194 * q 200 := hq 206 _ rfl
 have E207 : q 207 = q 192 * q 202 := hq 207 _ rfl
 have E208 : q 208 = q 206 - q 207 := hq 208 _ rfl
 have E209 : q 209 = q 192 * q 201 := hq 209 _ rfl
 have E210 : q 210 = q 193 * q 200 := hq 210 _ rfl
 have E211 : q 211 = q 209 - q 210 := hq 211 _ rfl
 have E217 : q 217 = q 205 * fac [q 205, q 208, q 211] := hq 217 _ rfl
 have E218 : q 218 = q 208 * fac [q 205, q 208, q 211] := hq 218 _ rfl
 have E219 : q 219 = q 211 * fac [q 205, q 208, q 211] := hq 219 _ rfl
 have E220 : q 220 = q 148 * q 58 := hq 220 _ rfl
 have E221 : q 221 = q 149 * q 57 := hq 221 _ rfl
 have E222 : q 222 = q 220 - q 221 := hq 222 _ rfl
 have E223 : q 223 = q 149 * q 56 := hq 223 _ rfl
 have E224 : q 224 = q 147 * q 58 := hq 224 _ rfl
 have E225 : q 225 = q 223 - q 224 := hq 225 _ rfl
 have E226 : q 226 = q 147 * q 57 := hq 226 _ rfl
 have E227 : q 227 = q 148 * q 56 := hq 227 _ rfl
 have E228 : q 228 = q 226 - q 227 := hq 228 _ rfl
 have E234 : q 234 = q 77 * q 169 := hq 234 _ rfl
 have E235 : q 235 = q 78 * q 168 := hq 235 _ rfl
 have E236 : q 236 = q 234 - q 235 := hq 236 _ rfl
 have E237 : q 237 = q 78 * q 167 := hq 237 _ rfl
 have E238 : q 238 = q 76 * q 169 := hq 238 _ rfl
 have E239 : q 239 = q 237 - q 238 := hq 239 _ rfl
 have E240 : q 240 = q 76 * q 168 := hq 240 _ rfl
 have E241 : q 241 = q 77 * q 167 := hq 241 _ rfl
 have E242 : q 242 = q 240 - q 241 := hq 242 _ rfl
 have E248 : q 248 = q 236 * fac [q 236, q 239, q 242] := hq 248 _ rfl
 have E249 : q 249 = q 239 * fac [q 236, q 239, q 242] := hq 249 _ rfl
 have E250 : q 250 = q 242 * fac [q 236, q 239, q 242] := hq 250 _ rfl
 have E251 : q 251 = q 222 * fac [q 222, q 225, q 228] := hq 251 _ rfl
 have E252 : q 252 = q 225 * fac [q 222, q 225, q 228] := hq 252 _ rfl
 have E253 : q 253 = q 228 * fac [q 222, q 225, q 228] := hq 253 _ rfl
 have E259 : q 259 = q 251 * fac [q 251, q 252, q 253] := hq 259 _ rfl
 have E260 : q 260 = q 252 * fac [q 251, q 252, q 253] := hq 260 _ rfl
 have E261 : q 261 = q 253 * fac [q 251, q 252, q 253] := hq 261 _ rfl
 have E267 : q 267 = q 248 * fac [q 248, q 249, q 250] := hq 267 _ rfl
 have E268 : q 268 = q 249 * fac [q 248, q 249, q 250] := hq 268 _ rfl
 have E269 : q 269 = q 250 * fac [q 248, q 249, q 250] := hq 269 _ rfl
 have E270 : q 270 = q 260 * q 269 := hq 270 _ rfl
 have E271 : q 271 = q 261 * q 268 := hq 271 _ rfl
 have E272 : q 272 = q 270 - q 271 := hq 272 _ rfl
 have E273 : q 273 = q 261 * q 267 := hq 273 _ rfl
 have E274 : q 274 = q 259 * q 269 := hq 274 _ rfl
 have E275 : q 275 = q 273 - q 274 := hq 275 _ rfl
 have E276 : q 276 = q 259 * q 268 := hq 276 _ rfl
 have E277 : q 277 = q 260 * q 267 := hq 277 _ rfl
 have E278 : q 278 = q 276 - q 277 := hq 278 _ rfl
 have E284 : q 284 = q 272 * fac [q 272, q 275, q 278] := hq 284 _ rfl
 have E285 : q 285 = q 275 * fac [q 272, q 275, q 278] := hq 285 _ rfl
 have E286 : q 286 = q 278 * fac [q 272, q 275, q 278] := hq 286 _ rfl
 have E287 : q 287 = q 218 * q 286 := hq 287 _ rfl
 have E288 : q 288 = q 219 * q 285 := hq 288 _ rfl
 have E289 : q 289 = q 287 - q 288 := hq 289 _ rfl
 have E290 : q 290 = q 134 * q 289 := hq 290 _ rfl
 have E291 : q 291 = q 217 * q 286 := hq 291 _ rfl
 have E292 : q 292 = q 219 * q 284 := hq 292 _ rfl
 have E293 : q 293 = q 291 - q 292 := hq 293 _ rfl
 have E294 : q 294 = q 135 * q 293 := hq 294 _ rfl
 have E295 : q 295 = -q 294 := hq 295 _ rfl
 have E296 : q 296 = q 217 * q 285 := hq 296 _ rfl
 have E297 : q 297 = q 218 * q 284 := hq 297 _ rfl
 have E298 : q 298 = q 296 - q 297 := hq 298 _ rfl
 have E299 : q 299 = q 136 * q 298 := hq 299 _ rfl
 have E300 : q 300 = q 290 + q 295 := hq 300 _ rfl
 have E301 : q 301 = q 300 + q 299 := hq 301 _ rfl
 have Q38 : q 38 = 0 ↔ ((q 0 = 0 ∧ q 1 = 0) ∧ q 2 = 0) := (sq_next (sq_next (sq_first (hq 34 _ rfl)) (hq 35 _ rfl) (hq 36 _ rfl)) (hq 37 _ rfl) (hq 38 _ rfl)).2
 have Q43 : q 43 = 0 ↔ ((q 3 = 0 ∧ q 4 = 0) ∧ q 5 = 0) := (sq_next (sq_next (sq_first (hq 39 _ rfl)) (hq 40 _ rfl) (hq 41 _ rfl)) (hq 42 _ rfl) (hq 43 _ rfl)).2
 have Q47 : q 47 = 0 ↔ ((q 44 = 0 ∧ q 44 = 0) ∧ q 44 = 0) := (sq_next (sq_next (sq_first (hq 45 _ rfl)) (hq 45 _ rfl) (hq 46 _ rfl)) (hq 45 _ rfl) (hq 47 _ rfl)).2
 have Q55 : q 55 = 0 ↔ ((q 17 = 0 ∧ q 18 = 0) ∧ q 19 = 0) := (sq_next (sq_next (sq_first (hq 51 _ rfl)) (hq 52 _ rfl) (hq 53 _ rfl)) (hq 54 _ rfl) (hq 55 _ rfl)).2
 have Q72 : q 72 = 0 ↔ ((q 61 = 0 ∧ q 64 = 0) ∧ q 67 = 0) := (sq_next (sq_next (sq_first (hq 68 _ rfl)) (hq 69 _ rfl) (hq 70 _ rfl)) (hq 71 _ rfl) (hq 72 _ rfl)).2
 have Q83 : q 83 = 0 ↔ ((q 20 = 0 ∧ q 21 = 0) ∧ q 22 = 0) := (sq_next (sq_next (sq_first (hq 79 _ rfl)) (hq 80 _ rfl) (hq 81 _ rfl)) (hq 82 _ rfl) (hq 83 _ rfl)).2
 have Q100 : q 100 = 0 ↔ ((q 89 = 0 ∧ q 92 = 0) ∧ q 95 = 0) := (sq_next (sq_next (sq_first (hq 96 _ rfl)) (hq 97 _ rfl) (hq 98 _ rfl)) (hq 99 _ rfl) (hq 100 _ rfl)).2
 have Q108 : q 108 = 0 ↔ ((q 101 = 0 ∧ q 102 = 0) ∧ q 103 = 0) := (sq_next (sq_next (sq_first (hq 104 _ rfl)) (hq 105 _ rfl) (hq 106 _ rfl)) (hq 107 _ rfl) (hq 108 _ rfl)).2
 have Q116 : q 116 = 0 ↔ ((q 73 = 0 ∧ q 74 = 0) ∧ q 75 = 0) := (sq_next (sq_next (sq_first (hq 112 _ rfl)) (hq 113 _ rfl) (hq 114 _ rfl)) (hq 115 _ rfl) (hq 116 _ rfl)).2
 have Q133 : q 133 = 0 ↔ ((q 122 = 0 ∧ q 125 = 0) ∧ q 128 = 0) := (sq_next (sq_next (sq_first (hq 129 _ rfl)) (hq 130 _ rfl) (hq 131 _ rfl)) (hq 132 _ rfl) (hq 133 _ rfl)).2
 have Q141 : q 141 = 0 ↔ ((q 27 = 0 ∧ q 30 = 0) ∧ q 33 = 0) := (sq_next (sq_next (sq_first (hq 137 _ rfl)) (hq 138 _ rfl) (hq 139 _ rfl)) (hq 140 _ rfl) (hq 141 _ rfl)).2
 have Q146 : q 146 = 0 ↔ ((q 10 = 0 ∧ q 13 = 0) ∧ q 16 = 0) := (sq_next (sq_next (sq_first (hq 142 _ rfl)) (hq 143 _ rfl) (hq 144 _ rfl)) (hq 145 _ rfl) (hq 146 _ rfl)).2
 have Q163 : q 163 = 0 ↔ ((q 152 = 0 ∧ q 155 = 0) ∧ q 158 = 0) := (sq_next (sq_next (sq_first (hq 159 _ rfl)) (hq 160 _ rfl) (hq 161 _ rfl)) (hq 162 _ rfl) (hq 163 _ rfl)).2
 have Q183 : q 183 = 0 ↔ ((q 172 = 0 ∧ q 175 = 0) ∧ q 178 = 0) := (sq_next (sq_next (sq_first (hq 179 _ rfl)) (hq 180 _ rfl) (hq 181 _ rfl)) (hq 182 _ rfl) (hq 183 _ rfl)).2
 have Q191 : q 191 = 0 ↔ ((q 184 = 0 ∧ q 185 = 0) ∧ q 186 = 0) := (sq_next (sq_next (sq_first (hq 187 _ rfl)) (hq 188 _ rfl) (hq 189 _ rfl)) (hq 190 _ rfl) (hq 191 _ rfl)).2
 have Q199 : q 199 = 0 ↔ ((q 164 = 0 ∧ q 165 = 0) ∧ q 166 = 0) := (sq_next (sq_next (sq_first (hq 195 _ rfl)) (hq 196 _ rfl) (hq 197 _ rfl)) (hq 198 _ rfl) (hq 199 _ rfl)).2
 have Q216 : q 216 = 0 ↔ ((q 205 = 0 ∧ q 208 = 0) ∧ q 211 = 0) := (sq_next (sq_next (sq_first (hq 212 _ rfl)) (hq 213 _ rfl) (hq 214 _ rfl)) (hq 215 _ rfl) (hq 216 _ rfl)).2
 have Q233 : q 233 = 0 ↔ ((q 222 = 0 ∧ q 225 = 0) ∧ q 228 = 0) := (sq_next (sq_next (sq_first (hq 229 _ rfl)) (hq 230 _ rfl) (hq 231 _ rfl)) (hq 232 _ rfl) (hq 233 _ rfl)).2
 have Q247 : q 247 = 0 ↔ ((q 236 = 0 ∧ q 239 = 0) ∧ q 242 = 0) := (sq_next (sq_next (sq_first (hq 243 _ rfl)) (hq 244 _ rfl) (hq 245 _ rfl)) (hq 246 _ rfl) (hq 247 _ rfl)).2
 have Q258 : q 258 = 0 ↔ ((q 251 = 0 ∧ q 252 = 0) ∧ q 253 = 0) := (sq_next (sq_next (sq_first (hq 254 _ rfl)) (hq 255 _ rfl) (hq 256 _ rfl)) (hq 257 _ rfl) (hq 258 _ rfl)).2
 have Q266 : q 266 = 0 ↔ ((q 248 = 0 ∧ q 249 = 0) ∧ q 250 = 0) := (sq_next (sq_next (sq_first (hq 262 _ rfl)) (hq 263 _ rfl) (hq 264 _ rfl)) (hq 265 _ rfl) (hq 266 _ rfl)).2
 have Q283 : q 283 = 0 ↔ ((q 272 = 0 ∧ q 275 = 0) ∧ q 278 = 0) := (sq_next (sq_next (sq_first (hq 279 _ rfl)) (hq 280 _ rfl) (hq 281 _ rfl)) (hq 282 _ rfl) (hq 283 _ rfl)).2
 by_cases b38 : q 38 = 0
 ·
  by_cases b43 : q 43 = 0
  ·
   have b47 : q 47 = 0 := pQ_f1 E44 Q47
   exact pQ_leaf pQ_r0 hσ hq h0 (pQ_An (hT b38) (pQ_An (hT b43) (pQ_An (hT b47) trivial))) ⟨tab, mx⟩ hA
  ·
   by_cases b55 : q 55 = 0
   ·
    have b47 : q 47 = 0 := pQ_f1 E44 Q47
    exact pQ_leaf pQ_r1 hσ hq h0 (pQ_An (hT b38) (pQ_An (hF b43) (pQ_An (hT b55) (pQ_An (hT b47) trivial)))) ⟨tab, mx⟩ hA
   ·
    by_cases b72 : q 72 = 0
    ·
     have b47 : q 47 = 0 := pQ_f1 E44 Q47
     exact pQ_leaf pQ_r2 hσ hq h0 (pQ_An (hT b38) (pQ_An (hF b43) (pQ_An (hF b55) (pQ_An (hT b72) (pQ_An (hT b47) trivial))))) ⟨tab, mx⟩ hA
    ·
     have b47 : q 47 = 0 := pQ_f1 E44 Q47
     exact pQ_leaf pQ_r3 hσ hq h0 (pQ_An (hT b38) (pQ_An (hF b43) (pQ_An (hF b55) (pQ_An (hF b72) (pQ_An (hT b47) trivial))))) ⟨tab, mx⟩ hA
 ·
  by_cases b83 : q 83 = 0
  ·
   by_cases b43 : q 43 = 0
   ·
    have b47 : q 47 = 0 := pQ_f1 E44 Q47
    exact pQ_leaf pQ_r4 hσ hq h0 (pQ_An (hF b38) (pQ_An (hT b83) (pQ_An (hT b43) (pQ_An (hT b47) trivial)))) ⟨tab, mx⟩ hA
   ·
    by_cases b55 : q 55 = 0
    ·
     have b47 : q 47 = 0 := pQ_f1 E44 Q47
     exact pQ_leaf pQ_r5 hσ hq h0 (pQ_An (hF b38) (pQ_An (hT b83) (pQ_An (hF b43) (pQ_An (hT b55) (pQ_An (hT b47) trivial))))) ⟨tab, mx⟩ hA
    ·
     by_cases b72 : q 72 = 0
     ·
      have b47 : q 47 = 0 := pQ_f1 E44 Q47
      exact pQ_leaf pQ_r6 hσ hq h0 (pQ_An (hF b38) (pQ_An (hT b83) (pQ_An (hF b43) (pQ_An (hF b55) (pQ_An (hT b72) (pQ_An (hT b47) trivial)))))) ⟨tab, mx⟩ hA
     ·
      have b47 : q 47 = 0 := pQ_f1 E44 Q47
      exact pQ_leaf pQ_r7 hσ hq h0 (pQ_An (hF b38) (pQ_An (hT b83) (pQ_An (hF b43) (pQ_An (hF b55) (pQ_An (hF b72) (pQ_An (hT b47) trivial)))))) ⟨tab, mx⟩ hA
  ·
   by_cases b100 : q 100 = 0
   ·
    by_cases b43 : q 43 = 0
    ·
     have b47 : q 47 = 0 := pQ_f1 E44 Q47
     exact pQ_leaf pQ_r8 hσ hq h0 (pQ_An (hF b38) (pQ_An (hF b83) (pQ_An (hT b100) (pQ_An (hT b43) (pQ_An (hT b47) trivial))))) ⟨tab, mx⟩ hA
    ·
     by_cases b55 : q 55 = 0
     ·
      have b47 : q 47 = 0 := pQ_f1 E44 Q47
      exact pQ_leaf pQ_r9 hσ hq h0 (pQ_An (hF b38) (pQ_An (hF b83) (pQ_An (hT b100) (pQ_An (hF b43) (pQ_An (hT b55) (pQ_An (hT b47) trivial)))))) ⟨tab, mx⟩ hA
     ·
      by_cases b72 : q 72 = 0
      ·
       have b47 : q 47 = 0 := pQ_f1 E44 Q47
       exact pQ_leaf pQ_r10 hσ hq h0 (pQ_An (hF b38) (pQ_An (hF b83) (pQ_An (hT b100) (pQ_An (hF b43) (pQ_An (hF b55) (pQ_An (hT b72) (pQ_An (hT b47) trivial))))))) ⟨tab, mx⟩ hA
      ·
       have b47 : q 47 = 0 := pQ_f1 E44 Q47
       exact pQ_leaf pQ_r11 hσ hq h0 (pQ_An (hF b38) (pQ_An (hF b83) (pQ_An (hT b100) (pQ_An (hF b43) (pQ_An (hF b55) (pQ_An (hF b72) (pQ_An (hT b47) trivial))))))) ⟨tab, mx⟩ hA
   ·
    by_cases b43 : q 43 = 0
    ·
     have b108 : ¬ (q 108 = 0) := pQ_f2 Q38 E76 E77 E78 Q83 E84 E85 E86 E87 E88 E89 E90 E91 E92 E93 E94 E95 Q100 E101 E102 E103 Q108 b38 b83 b100
     have b47 : q 47 = 0 := pQ_f1 E44 Q47
     exact pQ_leaf pQ_r12 hσ hq h0 (pQ_An (hF b38) (pQ_An (hF b83) (pQ_An (hF b100) (pQ_An (hT b43) (pQ_An (hF b108) (pQ_An (hT b47) trivial)))))) ⟨tab, mx⟩ hA
    ·
     by_cases b55 : q 55 = 0
     ·
      have b108 : ¬ (q 108 = 0) := pQ_f2 Q38 E76 E77 E78 Q83 E84 E85 E86 E87 E88 E89 E90 E91 E92 E93 E94 E95 Q100 E101 E102 E103 Q108 b38 b83 b100
      have b47 : q 47 = 0 := pQ_f1 E44 Q47
      exact pQ_leaf pQ_r13 hσ hq h0 (pQ_An (hF b38) (pQ_An (hF b83) (pQ_An (hF b100) (pQ_An (hF b43) (pQ_An (hT b55) (pQ_An (hF b108) (pQ_An (hT b47) trivial))))))) ⟨tab, mx⟩ hA
     ·
      by_cases b72 : q 72 = 0
      ·
       have b108 : ¬ (q 108 = 0) := pQ_f2 Q38 E76 E77 E78 Q83 E84 E85 E86 E87 E88 E89 E90 E91 E92 E93 E94 E95 Q100 E101 E102 E103 Q108 b38 b83 b100
       have b47 : q 47 = 0 := pQ_f1 E44 Q47
       exact pQ_leaf pQ_r14 hσ hq h0 (pQ_An (hF b38) (pQ_An (hF b83) (pQ_An (hF b100) (pQ_An (hF b43) (pQ_An (hF b55) (pQ_An (hT b72) (pQ_An (hF b108) (pQ_An (hT b47) trivial)))))))) ⟨tab, mx⟩ hA
      ·
       have b108 : ¬ (q 108 = 0) := pQ_f2 Q38 E76 E77 E78 Q83 E84 E85 E86 E87 E88 E89 E90 E91 E92 E93 E94 E95 Q100 E101 E102 E103 Q108 b38 b83 b100
       have b116 : ¬ (q 116 = 0) := pQ_f3 Q43 E48 E49 E50 Q55 E56 E57 E58 E59 E60 E61 E62 E63 E64 E65 E66 E67 Q72 E73 E74 E75 Q116 b43 b55 b72
       by_cases b133 : q 133 = 0
       ·
        exact pQ_leaf pQ_r15 hσ hq h0 (pQ_An (hF b38) (pQ_An (hF b83) (pQ_An (hF b100) (pQ_An (hF b43) (pQ_An (hF b55) (pQ_An (hF b72) (pQ_An (hF b108) (pQ_An (hF b116) (pQ_An (hT b133) trivial))))))))) ⟨tab, mx⟩ hA
       ·
        by_cases b141 : q 141 = 0
        ·
         by_cases b146 : q 146 = 0
         ·
          have b47 : q 47 = 0 := pQ_f1 E44 Q47
          exact pQ_leaf pQ_r16 hσ hq h0 (pQ_An (hF b38) (pQ_An (hF b83) (pQ_An (hF b100) (pQ_An (hF b43) (pQ_An (hF b55) (pQ_An (hF b72) (pQ_An (hF b108) (pQ_An (hF b116) (pQ_An (hF b133) (pQ_An (hT b141) (pQ_An (hT b146) (pQ_An (hT b47) trivial)))))))))))) ⟨tab, mx⟩ hA
         ·
          by_cases b163 : q 163 = 0
          ·
           have b47 : q 47 = 0 := pQ_f1 E44 Q47
           exact pQ_leaf pQ_r17 hσ hq h0 (pQ_An (hF b38) (pQ_An (hF b83) (pQ_An (hF b100) (pQ_An (hF b43) (pQ_An (hF b55) (pQ_An (hF b72) (pQ_An (hF b108) (pQ_An (hF b116) (pQ_An (hF b133) (pQ_An (hT b141) (pQ_An (hF b146) (pQ_An (hT b163) (pQ_An (hT b47) trivial))))))))))))) ⟨tab, mx⟩ hA
          ·
           have b47 : q 47 = 0 := pQ_f1 E44 Q47
           exact pQ_leaf pQ_r18 hσ hq h0 (pQ_An (hF b38) (pQ_An (hF b83) (pQ_An (hF b100) (pQ_An (hF b43) (pQ_An (hF b55) (pQ_An (hF b72) (pQ_An (hF b108) (pQ_An (hF b116) (pQ_An (hF b133) (pQ_An (hT b141) (pQ_An (hF b146) (pQ_An (hF b163) (pQ_An (hT b47) trivial))))))))))))) ⟨tab, mx⟩ hA
        ·
         by_cases b183 : q 183 = 0
         ·
          by_cases b146 : q 146 = 0
          ·
           have b47 : q 47 = 0 := pQ_f1 E44 Q47
           exact pQ_leaf pQ_r19 hσ hq h0 (pQ_An (hF b38) (pQ_An (hF b83) (pQ_An (hF b100) (pQ_An (hF b43) (pQ_An (hF b55) (pQ_An (hF b72) (pQ_An (hF b108) (pQ_An (hF b116) (pQ_An (hF b133) (pQ_An (hF b141) (pQ_An (hT b183) (pQ_An (hT b146) (pQ_An (hT b47) trivial))))))))))))) ⟨tab, mx⟩ hA
          ·
           by_cases b163 : q 163 = 0
           ·
            have b47 : q 47 = 0 := pQ_f1 E44 Q47
            exact pQ_leaf pQ_r20 hσ hq h0 (pQ_An (hF b38) (pQ_An (hF b83) (pQ_An (hF b100) (pQ_An (hF b43) (pQ_An (hF b55) (pQ_An (hF b72) (pQ_An (hF b108) (pQ_An (hF b116) (pQ_An (hF b133) (pQ_An (hF b141) (pQ_An (hT b183) (pQ_An (hF b146) (pQ_An (hT b163) (pQ_An (hT b47) trivial)))))))))))))) ⟨tab, mx⟩ hA
           ·
            have b47 : q 47 = 0 := pQ_f1 E44 Q47
            exact pQ_leaf pQ_r21 hσ hq h0 (pQ_An (hF b38) (pQ_An (hF b83) (pQ_An (hF b100) (pQ_An (hF b43) (pQ_An (hF b55) (pQ_An (hF b72) (pQ_An (hF b108) (pQ_An (hF b116) (pQ_An (hF b133) (pQ_An (hF b141) (pQ_An (hT b183) (pQ_An (hF b146) (pQ_An (hF b163) (pQ_An (hT b47) trivial)))))))))))))) ⟨tab, mx⟩ hA
         ·
          by_cases b146 : q 146 = 0
          ·
           have b191 : ¬ (q 191 = 0) := pQ_f4 E24 E26 E27 E28 E29 E30 E31 E32 E33 Q43 E48 E49 E50 Q141 E167 E168 E169 E170 E171 E172 E173 E174 E175 E176 E177 E178 Q183 E184 E185 E186 Q191 b43 b141 b183
           have b47 : q 47 = 0 := pQ_f1 E44 Q47
           exact pQ_leaf pQ_r22 hσ hq h0 (pQ_An (hF b38) (pQ_An (hF b83) (pQ_An (hF b100) (pQ_An (hF b43) (pQ_An (hF b55) (pQ_An (hF b72) (pQ_An (hF b108) (pQ_An (hF b116) (pQ_An (hF b133) (pQ_An (hF b141) (pQ_An (hF b183) (pQ_An (hT b146) (pQ_An (hF b191) (pQ_An (hT b47) trivial)))))))))))))) ⟨tab, mx⟩ hA
          ·
           by_cases b163 : q 163 = 0
           ·
            have b191 : ¬ (q 191 = 0) := pQ_f4 E24 E26 E27 E28 E29 E30 E31 E32 E33 Q43 E48 E49 E50 Q141 E167 E168 E169 E170 E171 E172 E173 E174 E175 E176 E177 E178 Q183 E184 E185 E186 Q191 b43 b141 b183
            have b47 : q 47 = 0 := pQ_f1 E44 Q47
            exact pQ_leaf pQ_r23 hσ hq h0 (pQ_An (hF b38) (pQ_An (hF b83) (pQ_An (hF b100) (pQ_An (hF b43) (pQ_An (hF b55) (pQ_An (hF b72) (pQ_An (hF b108) (pQ_An (hF b116) (pQ_An (hF b133) (pQ_An (hF b141) (pQ_An (hF b183) (pQ_An (hF b146) (pQ_An (hT b163) (pQ_An (hF b191) (pQ_An (hT b47) trivial))))))))))))))) ⟨tab, mx⟩ hA
           ·
            have b191 : ¬ (q 191 = 0) := pQ_f4 E24 E26 E27 E28 E29 E30 E31 E32 E33 Q43 E48 E49 E50 Q141 E167 E168 E169 E170 E171 E172 E173 E174 E175 E176 E177 E178 Q183 E184 E185 E186 Q191 b43 b141 b183
            have b199 : ¬ (q 199 = 0) := pQ_f5 E7 E9 E10 E11 E12 E13 E14 E15 E16 Q83 E84 E85 E86 Q146 E147 E148 E149 E150 E151 E152 E153 E154 E155 E156 E157 E158 Q163 E164 E165 E166 Q199 b83 b146 b163
            by_cases b216 : q 216 = 0
            ·
             exact pQ_leaf pQ_r24 hσ hq h0 (pQ_An (hF b38) (pQ_An (hF b83) (pQ_An (hF b100) (pQ_An (hF b43) (pQ_An (hF b55) (pQ_An (hF b72) (pQ_An (hF b108) (pQ_An (hF b116) (pQ_An (hF b133) (pQ_An (hF b141) (pQ_An (hF b183) (pQ_An (hF b146) (pQ_An (hF b163) (pQ_An (hF b191) (pQ_An (hF b199) (pQ_An (hT b216) trivial)))))))))))))))) ⟨tab, mx⟩ hA
            ·
             by_cases b233 : q 233 = 0
             ·
              by_cases b247 : q 247 = 0
              ·
               have b47 : q 47 = 0 := pQ_f1 E44 Q47
               exact pQ_leaf pQ_r25 hσ hq h0 (pQ_An (hF b38) (pQ_An (hF b83) (pQ_An (hF b100) (pQ_An (hF b43) (pQ_An (hF b55) (pQ_An (hF b72) (pQ_An (hF b108) (pQ_An (hF b116) (pQ_An (hF b133) (pQ_An (hF b141) (pQ_An (hF b183) (pQ_An (hF b146) (pQ_An (hF b163) (pQ_An (hF b191) (pQ_An (hF b199) (pQ_An (hF b216) (pQ_An (hT b233) (pQ_An (hT b247) (pQ_An (hT b47) trivial))))))))))))))))))) ⟨tab, mx⟩ hA
              ·
               have b47 : q 47 = 0 := pQ_f1 E44 Q47
               exact pQ_leaf pQ_r26 hσ hq h0 (pQ_An (hF b38) (pQ_An (hF b83) (pQ_An (hF b100) (pQ_An (hF b43) (pQ_An (hF b55) (pQ_An (hF b72) (pQ_An (hF b108) (pQ_An (hF b116) (pQ_An (hF b133) (pQ_An (hF b141) (pQ_An (hF b183) (pQ_An (hF b146) (pQ_An (hF b163) (pQ_An (hF b191) (pQ_An (hF b199) (pQ_An (hF b216) (pQ_An (hT b233) (pQ_An (hF b247) (pQ_An (hT b47) trivial))))))))))))))))))) ⟨tab, mx⟩ hA
             ·
              by_cases b247 : q 247 = 0
              ·
               have b258 : ¬ (q 258 = 0) := pQ_f6 E7 E9 E10 E11 E12 E13 E14 E15 E16 Q55 E56 E57 E58 Q146 E147 E148 E149 E220 E221 E222 E223 E224 E225 E226 E227 E228 Q233 E251 E252 E253 Q258 b55 b146 b233
               have b47 : q 47 = 0 := pQ_f1 E44 Q47
               exact pQ_leaf pQ_r27 hσ hq h0 (pQ_An (hF b38) (pQ_An (hF b83) (pQ_An (hF b100) (pQ_An (hF b43) (pQ_An (hF b55) (pQ_An (hF b72) (pQ_An (hF b108) (pQ_An (hF b116) (pQ_An (hF b133) (pQ_An (hF b141) (pQ_An (hF b183) (pQ_An (hF b146) (pQ_An (hF b163) (pQ_An (hF b191) (pQ_An (hF b199) (pQ_An (hF b216) (pQ_An (hF b233) (pQ_An (hT b247) (pQ_An (hF b258) (pQ_An (hT b47) trivial)))))))))))))))))))) ⟨tab, mx⟩ hA
              ·
               have b258 : ¬ (q 258 = 0) := pQ_f6 E7 E9 E10 E11 E12 E13 E14 E15 E16 Q55 E56 E57 E58 Q146 E147 E148 E149 E220 E221 E222 E223 E224 E225 E226 E227 E228 Q233 E251 E252 E253 Q258 b55 b146 b233
               have b266 : ¬ (q 266 = 0) := pQ_f7 E24 E26 E27 E28 E29 E30 E31 E32 E33 Q38 E76 E77 E78 Q141 E167 E168 E169 E234 E235 E236 E237 E238 E239 E240 E241 E242 Q247 E248 E249 E250 Q266 b38 b141 b247
               by_cases b283 : q 283 = 0
               ·
                exact pQ_leaf pQ_r28 hσ hq h0 (pQ_An (hF b38) (pQ_An (hF b83) (pQ_An (hF b100) (pQ_An (hF b43) (pQ_An (hF b55) (pQ_An (hF b72) (pQ_An (hF b108) (pQ_An (hF b116) (pQ_An (hF b133) (pQ_An (hF b141) (pQ_An (hF b183) (pQ_An (hF b146) (pQ_An (hF b163) (pQ_An (hF b191) (pQ_An (hF b199) (pQ_An (hF b216) (pQ_An (hF b233) (pQ_An (hF b247) (pQ_An (hF b258) (pQ_An (hF b266) (pQ_An (hT b283) trivial))))))))))))))))))))) ⟨tab, mx⟩ hA
               ·
                have b301 : q 301 = 0 := pQ_f8 E7 E9 E10 E11 E12 E13 E14 E15 E16 E24 E26 E27 E28 E29 E30 E31 E32 E33 Q38 Q43 E48 E49 E50 Q55 E56 E57 E58 E59 E60 E61 E62 E63 E64 E65 E66 E67 Q72 E73 E74 E75 E76 E77 E78 Q83 E84 E85 E86 E87 E88 E89 E90 E91 E92 E93 E94 E95 Q100 E101 E102 E103 E109 E110 E111 E117 E118 E119 E120 E121 E122 E123 E124 E125 E126 E127 E128 Q133 E134 E135 E136 Q141 Q146 E147 E148 E149 E150 E151 E152 E153 E154 E155 E156 E157 E158 Q163 E164 E165 E166 E167 E168 E169 E170 E171 E172 E173 E174 E175 E176 E177 E178 Q183 E184 E185 E186 E192 E193 E194 E200 E201 E202 E203 E204 E205 E206 E207 E208 E209 E210 E211 Q216 E217 E218 E219 E220 E221 E222 E223 E224 E225 E226 E227 E228 Q233 E234 E235 E236 E237 E238 E239 E240 E241 E242 Q247 E248 E249 E250 E251 E252 E253 E259 E260 E261 E267 E268 E269 E270 E271 E272 E273 E274 E275 E276 E277 E278 Q283 E284 E285 E286 E287 E288 E289 E290 E291 E292 E293 E294 E295 E296 E297 E298 E299 E300 E301 b38 b83 b100 b43 b55 b72 b133 b141 b183 b146 b163 b216 b233 b247 b283
                exact pQ_leaf pQ_r29 hσ hq h0 (pQ_An (hF b38) (pQ_An (hF b83) (pQ_An (hF b100) (pQ_An (hF b43) (pQ_An (hF b55) (pQ_An (hF b72) (pQ_An (hF b108) (pQ_An (hF b116) (pQ_An (hF b133) (pQ_An (hF b141) (pQ_An (hF b183) (pQ_An (hF b146) (pQ_An (hF b163) (pQ_An (hF b191) (pQ_An (hF b199) (pQ_An (hF b216) (pQ_An (hF b233) (pQ_An (hF b247) (pQ_An (hF b258) (pQ_An (hF b266) (pQ_An (hF b283) (pQ_An (hT b301) trivial)))))))))))))))))))))) ⟨tab, mx⟩ hA
end Go.Proofs.YtkcikcnimkofkaaGreatDoor
