/- Part 13 of the walks and of the mathematics under them: VY VSZ VP VPC CFprojected MPD. -/
import Derived.Test.YtkcikcnimkofkaaGreatDoorA12
import Derived.Test.YtkcikcnimkofkaaGreatDoorA2
set_option maxHeartbeats 16000000
set_option maxRecDepth 100000
/- VY -/
namespace Go.Proofs.YtkcikcnimkofkaaGreatDoor
open Go.RowKit Cx
theorem den_num (t : Rat) : t * (t.den : Rat) = ((t.num : Int) : Rat) := by
 conv => lhs; lhs; rw [← Rat.mkRat_self t]
 have h0 : (t.den : Rat) ≠ 0 := fun h => t.den_nz (by exact_mod_cast h)
 rw [Rat.mkRat_eq_div, Rat.div_mul_cancel h0]
theorem whole {q : Rat} (h : q.den = 1) : q = ((q.num : Int) : Rat) := by
 have := den_num q
 rw [h] at this
 rw [← this]
 show q = q * ((1 : Nat) : Rat)
 exact (Rat.mul_one q).symm
end Go.Proofs.YtkcikcnimkofkaaGreatDoor
/- VSZ -/
namespace Go.Proofs.YtkcikcnimkofkaaGreatDoor
open Go.RowKit Cx
def szW (Z : List Nat) (I : List Bool) (z : Nat) (b : Bool) (nd : Nd) : Bool := match nd.1, nd.2 with
 | 0, [_, n, d] => (Nat.blt n (2 ^ z) && (Nat.blt 0 d && Nat.blt d (2 ^ z))) && (!b || Nat.beq d 1)
 | 1, [_] => Nat.ble 3495259 z && !b
 | 2, [a, c] => (match Z[a]?, Z[c]?, I[a]?, I[c]? with
  | some x, some y, some true, some true => Nat.ble (Nat.max x y + 1) z
  | some x, some y, _, _ => Nat.ble (x + y + 1) z && !b
  | _, _, _, _ => false)
 | 3, [a, c] => (match Z[a]?, Z[c]?, I[a]?, I[c]? with
  | some x, some y, some true, some true => Nat.ble (Nat.max x y + 1) z
  | some x, some y, _, _ => Nat.ble (x + y + 1) z && !b
  | _, _, _, _ => false)
 | 4, [a, c] => (match Z[a]?, Z[c]?, I[a]?, I[c]? with
  | some x, some y, some true, some true => Nat.ble (x + y) z
  | some x, some y, _, _ => Nat.ble (x + y) z && !b
  | _, _, _, _ => false)
 | 5, [a] => (match Z[a]?, I[a]? with
  | some x, some true => Nat.ble x z
  | some x, _ => Nat.ble x z && !b
  | _, _ => false)
 | 6, [a, c] => (match Z[a]?, Z[c]? with
  | some x, some y => Nat.ble (x + y) z && !b
  | _, _ => false)
 | 8, i :: xs => (match getsO Z xs with
  | some zs => Nat.blt i xs.length && (Nat.ble ((xs.length + 1) * maxL zs + 1) z || (xs.all (fun a => match I[a]? with
   | some true => true
   | _ => false) && (match xs[i]? with
   | some a => (match Z[a]? with
    | some x => Nat.ble (x + 1) z
    | none => false)
   | none => false)))
  | none => false)
 | _, _ => false
def szC (Z : List Nat) (I : List Bool) : List Nd → List Nat → List Bool → Bool
 | [], [], [] => true
 | nd :: ns, z :: zs, b :: bs => (szW Z I z b nd && Nat.ble z 1000000000000) && szC Z I ns zs bs
 | _, _, _ => false
theorem szC_get {Z : List Nat} {I : List Bool} : ∀ {ns : List Nd} {zs : List Nat} {bs : List Bool} {i z : Nat}, szC Z I ns zs bs = true → zs[i]? = some z → ∃ nd b, ns[i]? = some nd ∧ bs[i]? = some b ∧ szW Z I z b nd = true ∧ z ≤ 1000000000000
 | [], [], [], _, _, _, h => by simp at h
 | [], [], _ :: _, _, _, h, _ => by cases h
 | [], _ :: _, _, _, _, h, _ => by cases h
 | _ :: _, [], _, _, _, h, _ => by cases h
 | _ :: _, _ :: _, [], _, _, h, _ => by cases h
 | nd :: ns, z' :: zs, b :: bs, 0, z, h, e => by
  have : z' = z := by simpa using e
  subst this
  unfold szC at h
  simp only [Bool.and_eq_true, Nat.ble_eq] at h
  exact ⟨nd, b, rfl, rfl, h.1.1, h.1.2⟩
 | nd :: ns, z' :: zs, b :: bs, i + 1, z, h, e => by
  unfold szC at h
  rw [Bool.and_eq_true] at h
  obtain ⟨nd2, b2, g1, g2, g3⟩ := szC_get (ns := ns) (zs := zs) (bs := bs) h.2 (show zs[i]? = some z by simpa using e)
  exact ⟨nd2, b2, by simpa using g1, by simpa using g2, g3⟩
theorem szC_len {Z : List Nat} {I : List Bool} : ∀ {ns : List Nd} {zs : List Nat} {bs : List Bool}, szC Z I ns zs bs = true → ns.length = zs.length
 | [], [], [], _ => rfl
 | [], [], _ :: _, h => by cases h
 | [], _ :: _, _, h => by cases h
 | _ :: _, [], _, h => by cases h
 | _ :: _, _ :: _, [], h => by cases h
 | _ :: _, _ :: _, _ :: _, h => by
  unfold szC at h
  rw [Bool.and_eq_true] at h
  exact congrArg (· + 1) (szC_len h.2)
structure QW (z : Nat) (x : Rat) : Prop where
 qs : QS z x
 wh : x.den = 1
theorem QW.of {z : Nat} {n : Int} (h : n.natAbs < 2 ^ z) (hz : 0 < z) : QW z ((n : Int) : Rat) :=
 ⟨⟨by simpa using h, by
  show ((n : Int) : Rat).den < 2 ^ z
  rw [Rat.den_intCast]
  exact Nat.one_lt_two_pow (by omega)⟩, Rat.den_intCast n⟩
theorem QW.mono {k l : Nat} {x : Rat} (h : QW k x) (hk : k ≤ l) : QW l x := ⟨h.qs.mono hk, h.wh⟩
theorem two_max {a b x y : Nat} (h1 : a < 2 ^ x) (h2 : b < 2 ^ y) : a + b < 2 ^ (Nat.max x y + 1) := by
 have e1 : 2 ^ x ≤ 2 ^ Nat.max x y := Nat.pow_le_pow_right (by decide) (Nat.le_max_left x y)
 have e2 : 2 ^ y ≤ 2 ^ Nat.max x y := Nat.pow_le_pow_right (by decide) (Nat.le_max_right x y)
 rw [Nat.pow_succ]
 omega
theorem QW.add {x y : Nat} {a b : Rat} (h1 : QW x a) (h2 : QW y b) : QW (Nat.max x y + 1) (a + b) := by
 rw [whole h1.wh, whole h2.wh, ← Rat.intCast_add]
 refine QW.of ?_ (by omega)
 have := two_max h1.qs.num h2.qs.num
 omega
theorem QW.sub {x y : Nat} {a b : Rat} (h1 : QW x a) (h2 : QW y b) : QW (Nat.max x y + 1) (a - b) := by
 rw [whole h1.wh, whole h2.wh, ← Rat.intCast_sub]
 refine QW.of ?_ (by omega)
 have := two_max h1.qs.num h2.qs.num
 omega
theorem QW.mul {x y : Nat} {a b : Rat} (h1 : QW x a) (h2 : QW y b) : QW (x + y) (a * b) := by
 refine ⟨h1.qs.mul h2.qs, ?_⟩
 rw [whole h1.wh, whole h2.wh, ← Rat.intCast_mul]
 exact Rat.den_intCast _
theorem QW.neg {x : Nat} {a : Rat} (h1 : QW x a) : QW x (-a) := ⟨h1.qs.neg, h1.wh⟩
theorem lD_one : ∀ {qs : List Rat} {m : Nat}, (∀ q ∈ qs, q.den = 1) → qs.foldl (fun m q => m * (q.den / Nat.gcd m q.den)) m = m
 | [], _, _ => rfl
 | q :: qs, m, h => by
  rw [List.foldl_cons, h q List.mem_cons_self, Nat.gcd_one_right, Nat.div_self (by decide), Nat.mul_one]
  exact lD_one fun p hp => h p (List.mem_cons_of_mem _ hp)
theorem QW.fac {z : Nat} {qs : List Rat} {x : Rat} (hx : QS z x) (h : x ∈ qs) (hw : ∀ y ∈ qs, y.den = 1) : QS (z + 1) (x * fac qs) := by
 have hl : lD qs = 1 := lD_one hw
 refine ⟨?_, ?_⟩
 ·rw [fac_abs h, hl, hw x h, Nat.div_self (by decide), Nat.mul_one]
  exact Nat.lt_of_le_of_lt (Nat.div_le_self _ _) (Nat.lt_of_lt_of_le hx.num (Nat.pow_le_pow_right (by decide) (by omega)))
 ·rw [fac_den h]
  exact Nat.one_lt_two_pow (by omega)
theorem ten_three : ∀ n : Nat, 10 ^ n ≤ 2 ^ ((10 * n + 2) / 3)
 | 0 => by decide
 | 1 => by decide
 | 2 => by decide
 | n + 3 => by
  have h := ten_three n
  have e : (10 * (n + 3) + 2) / 3 = (10 * n + 2) / 3 + 10 := by omega
  rw [e, Nat.pow_add, Nat.pow_add]
  exact Nat.mul_le_mul h (by decide)
theorem QS.rd3 (l : List UInt8) : QS ((10 * l.length + 2) / 3 + 5) (Cx.rd l) := by
 have key : ∀ {m : List UInt8}, digs m = true → dv m < 2 ^ ((10 * m.length + 2) / 3) := fun {m} h => Nat.lt_of_lt_of_le (dv_lt (digs_all h)) (ten_three _)
 unfold Cx.rd
 split
 ·rename_i h
  rw [Bool.and_eq_true] at h
  have h1 := key h.1
  have h2 := key h.2
  have h3 := up_len (tailOf l)
  have h4 := low_len (tailOf l)
  have h5 := tail_len l
  apply QS.mkr
  ·rw [sg_abs]; exact Nat.lt_of_lt_of_le h1 (Nat.pow_le_pow_right (by decide) (by omega))
  ·exact Nat.lt_of_lt_of_le h2 (Nat.pow_le_pow_right (by decide) (by omega))
 ·exact QS.zero.mono (by omega)
section
variable {N : List Nd} {Z : List Nat} {I : List Bool} {q : Nat → Rat}
theorem sizes_okW {σ : Nat → ByteArray} (hσ : ∀ j, (σ j).size ≤ 1048576) (hw : wfB 0 N = true) (hz : szC Z I N Z I = true) (hq : ∀ (a : Nat) nd, N[a]? = some nd → q a = valN σ q nd) (h0 : ∀ a, N.length ≤ a → q a = 0) : (∀ (a : Nat) z, Z[a]? = some z → QS z (q a)) ∧ ∀ a, QS 1000000000000 (q a) := by
 have h2 : ∀ (a : Nat) z, Z[a]? = some z → QS z (q a) ∧ (I[a]? = some true → (q a).den = 1) := by
  intro a
  induction a using Nat.strongRecOn with
  | ind a ih =>
   intro z hz'
   obtain ⟨nd, b, hn, hb, hs, _⟩ := szC_get hz hz'
   have hwf := wfB_get hw hn
   rw [Nat.zero_add] at hwf
   rw [hq a nd hn, hb]
   obtain ⟨op, xs⟩ := nd
   unfold szW at hs
   unfold valN
   unfold wfN at hwf
   dsimp only at hs hwf ⊢
   have W : ∀ {c x}, c < a → Z[c]? = some x → I[c]? = some true → QW x (q c) := fun hc hx hi => ⟨(ih _ hc _ hx).1, (ih _ hc _ hx).2 hi⟩
   have no : ∀ {v : Rat}, b = false → (some b = some true → v.den = 1) := fun e h => by rw [e] at h; cases h
   split at hs
   ·rename_i s n d
    simp only [Bool.and_eq_true] at hs
    obtain ⟨⟨h1, h2, h3⟩, h4⟩ := hs
    refine ⟨QS.const (by simpa [Nat.blt_eq] using h1) (by simpa [Nat.blt_eq] using h2) (by simpa [Nat.blt_eq] using h3), fun e => ?_⟩
    rw [show b = true from Option.some.inj e] at h4
    have hd : d = 1 := by simpa using h4
    subst hd
    show (if s = 0 then mkRat (n : Int) 1 else mkRat (-(n : Int)) 1).den = 1
    split
    ·rw [Rat.mkRat_one]
     exact Rat.den_intCast _
    ·rw [Rat.mkRat_one]
     exact Rat.den_intCast _
   ·rename_i j
    simp only [Bool.and_eq_true, Nat.ble_eq, Bool.not_eq_true'] at hs
    exact ⟨QS.mono (QS.rd3 _) (by have := hσ j; rw [str_len]; omega), no hs.2⟩
   ·simp only [List.all_cons, List.all_nil, Bool.and_true, Bool.and_eq_true] at hwf
    have l1 := (by simpa [Nat.blt_eq] using hwf.1 : _ < a)
    have l2 := (by simpa [Nat.blt_eq] using hwf.2 : _ < a)
    split at hs
    ·rename_i x y hx hy i1 i2
     rw [Nat.ble_eq] at hs
     have := ((W l1 hx i1).add (W l2 hy i2)).mono hs
     exact ⟨this.qs, fun _ => this.wh⟩
    ·rename_i x y hx hy _
     simp only [Bool.and_eq_true, Nat.ble_eq, Bool.not_eq_true'] at hs
     exact ⟨((ih _ l1 x hx).1.add (ih _ l2 y hy).1).mono hs.1, no hs.2⟩
    ·cases hs
   ·simp only [List.all_cons, List.all_nil, Bool.and_true, Bool.and_eq_true] at hwf
    have l1 := (by simpa [Nat.blt_eq] using hwf.1 : _ < a)
    have l2 := (by simpa [Nat.blt_eq] using hwf.2 : _ < a)
    split at hs
    ·rename_i x y hx hy i1 i2
     rw [Nat.ble_eq] at hs
     have := ((W l1 hx i1).sub (W l2 hy i2)).mono hs
     exact ⟨this.qs, fun _ => this.wh⟩
    ·rename_i x y hx hy _
     simp only [Bool.and_eq_true, Nat.ble_eq, Bool.not_eq_true'] at hs
     exact ⟨((ih _ l1 x hx).1.sub (ih _ l2 y hy).1).mono hs.1, no hs.2⟩
    ·cases hs
   ·simp only [List.all_cons, List.all_nil, Bool.and_true, Bool.and_eq_true] at hwf
    have l1 := (by simpa [Nat.blt_eq] using hwf.1 : _ < a)
    have l2 := (by simpa [Nat.blt_eq] using hwf.2 : _ < a)
    split at hs
    ·rename_i x y hx hy i1 i2
     rw [Nat.ble_eq] at hs
     have := ((W l1 hx i1).mul (W l2 hy i2)).mono hs
     exact ⟨this.qs, fun _ => this.wh⟩
    ·rename_i x y hx hy _
     simp only [Bool.and_eq_true, Nat.ble_eq, Bool.not_eq_true'] at hs
     exact ⟨((ih _ l1 x hx).1.mul (ih _ l2 y hy).1).mono hs.1, no hs.2⟩
    ·cases hs
   ·simp only [List.all_cons, List.all_nil, Bool.and_true] at hwf
    have l1 := (by simpa [Nat.blt_eq] using hwf : _ < a)
    split at hs
    ·rename_i x hx i1
     rw [Nat.ble_eq] at hs
     have := (W l1 hx i1).neg.mono hs
     exact ⟨this.qs, fun _ => this.wh⟩
    ·rename_i x hx _
     simp only [Bool.and_eq_true, Nat.ble_eq, Bool.not_eq_true'] at hs
     exact ⟨((ih _ l1 x hx).1.neg).mono hs.1, no hs.2⟩
    ·cases hs
   ·simp only [List.all_cons, List.all_nil, Bool.and_true, Bool.and_eq_true] at hwf
    split at hs
    ·rename_i x y hx hy
     simp only [Bool.and_eq_true, Nat.ble_eq, Bool.not_eq_true'] at hs
     exact ⟨((ih _ (by simpa [Nat.blt_eq] using hwf.1) x hx).1.div (ih _ (by simpa [Nat.blt_eq] using hwf.2) y hy).1).mono hs.1, no hs.2⟩
    ·cases hs
   ·rename_i i ys
    split at hs
    ·rename_i zs hzs
     rw [Bool.and_eq_true] at hs
     have hi : i < ys.length := by simpa [Nat.blt_eq] using hs.1
     have hwf' : ys.all (Nat.blt · a) = true := hwf
     rw [List.all_eq_true] at hwf'
     have hlt : ∀ c ∈ ys, c < a := fun c hc => by simpa [Nat.blt_eq] using hwf' c hc
     have hm : q ys[i] ∈ ys.map q := List.mem_map_of_mem (List.getElem_mem hi)
     have hg : (ys.map q).getD i 0 = q ys[i] := by
      rw [List.getD_eq_getElem?_getD, List.getElem?_map, List.getElem?_eq_getElem hi]
      rfl
     show QS z ((ys.map q).getD i 0 * fac (ys.map q)) ∧ (some b = some true → ((ys.map q).getD i 0 * fac (ys.map q)).den = 1)
     rw [hg]
     refine ⟨?_, fun _ => fac_den hm⟩
     rcases Bool.or_eq_true _ _ ▸ hs.2 with h3 | h3
     ·rw [Nat.ble_eq] at h3
      have hall : ∀ y ∈ ys.map q, QS (maxL zs) y := fun y hy => by
       obtain ⟨c, hc, rfl⟩ := List.mem_map.1 hy
       obtain ⟨z', hm', hz2⟩ := getsO_get hzs c hc
       exact (ih c (hlt c hc) z' hz2).1.mono (le_maxL z' hm')
      have := QS.facN hall (x := q ys[i]) hm
      rw [List.length_map] at this
      exact this.mono h3
     ·rw [Bool.and_eq_true, List.all_eq_true] at h3
      obtain ⟨h4, h5⟩ := h3
      have hwh : ∀ y ∈ ys.map q, y.den = 1 := fun y hy => by
       obtain ⟨c, hc, rfl⟩ := List.mem_map.1 hy
       obtain ⟨z', _, hz2⟩ := getsO_get hzs c hc
       refine (ih c (hlt c hc) z' hz2).2 ?_
       have := h4 c hc
       split at this
       ·assumption
       ·cases this
      rw [List.getElem?_eq_getElem hi] at h5
      dsimp only at h5
      split at h5
      ·rename_i x hx
       rw [Nat.ble_eq] at h5
       exact (QW.fac (ih _ (hlt _ (List.getElem_mem hi)) x hx).1 hm hwh).mono h5
      ·cases h5
    ·cases hs
   ·cases hs
 refine ⟨fun a z h => (h2 a z h).1, fun a => ?_⟩
 have hl := szC_len hz
 by_cases ha : a < Z.length
 ·obtain ⟨nd, b, _, _, _, hle⟩ := szC_get hz (List.getElem?_eq_getElem ha)
  exact (h2 a _ (List.getElem?_eq_getElem ha)).1.mono hle
 ·rw [h0 a (by omega)]
  exact QS.zero.mono (by decide)
theorem hy_ofW {L C : List (List Nat × Nat)} {σ : Nat → ByteArray} {H : List (Nat × Nat × Nat × Nat)} (hσ : ∀ j, (σ j).size ≤ 1048576) (hw : wfB 0 N = true) (hz : szC Z I N Z I = true) (hl : litB N L = true) (hcn : canB N C = true) (hq : ∀ (a : Nat) nd, N[a]? = some nd → q a = valN σ q nd) (h0 : ∀ a, N.length ≤ a → q a = 0) (hH : hAll q H) : Hy N H L C Z q σ where
 nat := hq
 qs := (sizes_okW hσ hw hz hq h0).2
 zs := (sizes_okW hσ hw hz hq h0).1
 par := hσ
 lit := fun s b h => lit_rd hl hq h
 k0 := fun a r h => kn_at hH h
 k1 := fun a r h => kn_at hH h
 k2 := fun a r h => kn_at hH h
 k3 := fun a b r h => kn_at hH h
 k4 := fun l a b r h1 h2 => by
  have h3 : Nat.beq 1 r = true ↔ q a = q b := kn_at hH h2
  rw [h3, ← can_tx hcn hq h1]
  exact ⟨fun e => by rw [e], fun e => tellS_inj (bytesN_inj e)⟩
 k6 := fun a b r h => kn_at hH h
 k5 := fun a r h => kn_at hH h
end
end Go.Proofs.YtkcikcnimkofkaaGreatDoor
/- VP -/
namespace Cx
open Go Go.RowKit
abbrev Hs := List (Nat × Nat × Nat × Nat)
def Sx.plus (S : Sx) (X : Hs) : Sx := { S with H := X ++ S.H }
abbrev Ask := Nat × Nat × Nat × Nat
def askZ (a : Nat) : Ask := (0, a, 0, a)
def askOk (S : Sx) : Ask → Bool
 | (k, a, b, d) => (Nat.beq k 0 && (Nat.beq b 0 && Nat.beq d a)) || (Nat.beq k 3 && (match S.N[d]? with
  | some (op, ar) => Nat.beq op 3 && beqL ar [a, b]
  | none => false))
def sqF (S : Sx) : Nat → List Nat → Option Nat
 | s, [] => some s
 | s, a :: l => (S.nd 4 [a, a]).bind fun b => (S.nd 2 [s, b]).bind fun t => sqF S t l
def sqN (S : Sx) : List Nat → Option Nat
 | [] => none
 | a :: l => (S.nd 4 [a, a]).bind fun s => sqF S s l
def acrossB (S : Sx) (a b : Nat) : List Nat → List Nat → Option (List Ask)
 | c :: l, d :: m => (S.nd 4 [a, d]).bind fun x => (S.nd 4 [c, b]).bind fun y => (S.nd 3 [x, y]).bind fun z => (acrossB S a b l m).map fun r => (3, x, y, z) :: r
 | _, _ => some []
def alikeB (S : Sx) : List Nat → List Nat → List Nat → List Nat → Option (List Ask)
 | pl, pm, a :: l, b :: m => (acrossB S a b pl pm).bind fun r => (alikeB S (pl ++ [a]) (pm ++ [b]) l m).map fun t => r ++ t
 | _, _, _, _ => some []
def asks (S : Sx) (h : List HB) (code : Nat) (args : List AV) : Option (List Ask) :=
 match code with
 | 60 => arg1 (fun x => (asA x).bind fun cs => (qRow S cs).map fun l => l.map askZ) args
 | 61 => arg1 (fun x => (rowB h 1 x).bind fun p => (mapO (acX 0) p.2).map fun l => l.map askZ) args
 | 62 => arg2 (fun x y => (rowB h 1 x).bind fun p => (mapO (acX 0) p.2).bind fun l => (rowB h 1 y).bind fun p' => (mapO (acX 0) p'.2).bind fun m => alikeB S [] [] l m) args
 | 63 => arg1 (fun x => (asA x).bind fun cs => (mapO acTold cs).bind fun l => (plainOf S l).map fun xs => xs.map askZ) args
 | _ => none
def splits : List Ask → Hs → List Hs
 | [], _ => []
 | (k, a, b, _) :: l, X => ((k, a, b, 0) :: X) :: splits l ((k, a, b, 1) :: X)
def allZ : List Ask → Hs → Hs
 | [], X => X
 | (k, a, b, _) :: l, X => allZ l ((k, a, b, 1) :: X)
def bodyC (S : Sx) (call : CallF) : CallF := fun f args h nx => S.P.funcs[f]?.bind fun fn => fn.body.bind fun c => ifO (Nat.ble args.length fn.ntmps) ((runB S call fn.ntmps c { tm := numb1 0 args, h := h, nx := nx }).bind fun r =>
   ifO (Nat.beq r.1 1) ((mapO (resB S.P r.2) fn.results.toList).map fun xs => (tupB xs, r.2.h, r.2.nx)))
abbrev CRes := Option (AV × List HB × Nat)
def agree (h : List HB) (b : Bool) (hi : Nat) : CRes → Bool
 | some (v, h', nx') => (match asB v with
  | some c => b == c
  | none => false) && (Nat.ble nx' hi && h.all fun x => h'.any fun y => Nat.beq y.1 x.1 && acsW x.2 y.2)
 | none => false
def topN : Nat → List CRes → Nat
 | m, [] => m
 | m, some p :: rs => topN (bif Nat.ble m p.2.2 then p.2.2 else m) rs
 | m, none :: rs => topN m rs
def joinC (h : List HB) (nx : Nat) (rs : List CRes) : CRes :=
 match rs with
 | some p :: _ => (asB p.1).bind fun b => ifO (rs.all (agree h b (topN nx rs))) (some (kB b, h, topN nx rs))
 | _ => none
def callC (S : Sx) (cs : List (FuncId × Nat)) : Nat → Hs → CallF
 | 0, _, _, _, _, _ => none
 | n + 1, X, f, args, h, nx => match prGet f cs with
  | none => bodyC (S.plus X) (callC S cs n X) f args h nx
  | some c => (asks (S.plus X) h c args).bind fun l => ifO (l.all (askOk S)) ((sqN S (l.map (·.2.2.2))).bind fun s => ((S.plus X).kn 0 s 0).bind fun r =>
    bif Nat.beq 1 r then bodyC (S.plus (allZ l X)) (callC S cs n (allZ l X)) f args h nx
    else joinC h nx ((splits l X).map fun X' => bodyC (S.plus X') (callC S cs n X') f args h nx))
section
variable {S : Sx} {E : Ev S.nb} {w0 : World}
theorem bodyC_ok {call : CallF} (hm : S.P.follows .mixedOrders = true) (N : Knows S E) (hP : PrimOk S E w0) (hC : CallOk S E w0 call) : CallOk S E w0 (bodyC S call) := fun f args h nx p hp γ w vs hi hA hb hlt hf => by
 unfold bodyC at hp
 simp only [Option.bind_eq_some_iff, ifO_some, Option.map_eq_some_iff, Nat.ble_eq, Nat.beq_eq] at hp
 obtain ⟨fn, h1, c, h2, h3, ⟨e, s'⟩, h4, h5, xs, h6, rfl⟩ := hp
 dsimp only at h5 h6
 subst h5
 obtain ⟨_, _, r⟩ := runB_ok hm N hP hC c _ _ _ h4
 refine calls_of_wp h1 h2 (r γ _ w _ ⟨hi, fun t v q => ?_, hb, hlt, ?_, rfl⟩ hf fun a' w' γ' hef hs => ?_)
 ·obtain ⟨_, q2⟩ := numb1_get q
  rw [Nat.sub_zero] at q2
  obtain ⟨u, hu, hv⟩ := hA.get q2
  have hlt : t < vs.length := (List.getElem?_eq_some_iff.1 hu).1
  have : (vs.toArray ++ Array.replicate (fn.ntmps - vs.toArray.size) undef).getD t undef = u := by
   rw [Array.getD_eq_getD_getElem?, Array.getElem?_append_left (by simpa using hlt)]
   simp [hu]
  show avOn _ v ((vs.toArray ++ Array.replicate (fn.ntmps - vs.toArray.size) undef).getD t undef)
  rw [this]
  exact hv
 ·have := hA.len
  simp
  omega
 ·obtain ⟨v, hv, hx⟩ := results_run hs h6
  exact ⟨hs.df, v, hv, v, γ', rfl, hef, hx, hs.bx⟩
theorem asB_kB {v : AV} {b : Bool} (h : asB v = some b) : v = kB b := by
 unfold asB at h
 rw [Option.bind_eq_some_iff] at h
 obtain ⟨c, h1, h2⟩ := h
 unfold asC at h1
 split at h1
 ·cases h1
  unfold acB at h2
  split at h2
  ·cases h2
   rfl
  ·cases h2
 ·cases h1
theorem agree_some {h : List HB} {b : Bool} {hi : Nat} {r : CRes} (hr : agree h b hi r = true) : ∃ h' nx', r = some (kB b, h', nx') ∧ nx' ≤ hi ∧ ∀ x ∈ h, x ∈ h' := by
 unfold agree at hr
 split at hr
 ·rename_i v h' nx'
  rw [Bool.and_eq_true, Bool.and_eq_true, Nat.ble_eq, List.all_eq_true] at hr
  obtain ⟨h1, h2, h3⟩ := hr
  refine ⟨h', nx', ?_, h2, fun x hx => ?_⟩
  ·split at h1
   ·rename_i c hc
    rw [asB_kB hc, show c = b from (by simpa using h1 : b = c).symm]
   ·cases h1
  ·have := h3 x hx
   rw [List.any_eq_true] at this
   obtain ⟨y, hy, e⟩ := this
   rw [Bool.and_eq_true, Nat.beq_eq] at e
   have : x = y := Prod.ext e.1.symm (acsW_eq e.2)
   rw [this]
   exact hy
 ·cases hr
variable {T : Hs → Prop} {z : Nat → Prop}
def AskTrue (S : Sx) (T : Hs → Prop) (z : Nat → Prop) : Prop := ∀ X, T X → ∀ a, askOk S a = true → (z a.2.2.2 → T ((a.1, a.2.1, a.2.2.1, 1) :: X)) ∧ (¬ z a.2.2.2 → T ((a.1, a.2.1, a.2.2.1, 0) :: X))
theorem allZ_true (hk : AskTrue S T z) : ∀ {l : List Ask} {X : Hs}, T X → (∀ a ∈ l, askOk S a = true) → (∀ a ∈ l, z a.2.2.2) → T (allZ l X)
 | [], _, h, _, _ => h
 | (k, a, b, d) :: l, X, h, ho, hz => allZ_true (l := l) hk ((hk X h (k, a, b, d) (ho _ List.mem_cons_self)).1 (hz _ List.mem_cons_self)) (fun a ha => ho a (List.mem_cons_of_mem _ ha)) (fun a ha => hz a (List.mem_cons_of_mem _ ha))
theorem splits_true (hk : AskTrue S T z) : ∀ {l : List Ask} {X : Hs}, T X → (∀ a ∈ l, askOk S a = true) → (∃ a ∈ l, ¬ z a.2.2.2) → ∃ X' ∈ splits l X, T X'
 | [], _, _, _, ⟨_, h, _⟩ => by cases h
 | (k, a, b, d) :: l, X, h, ho, hz => by
  by_cases e : z d
  ·obtain ⟨X', h1, h2⟩ := splits_true (l := l) hk ((hk X h (k, a, b, d) (ho _ List.mem_cons_self)).1 e) (fun a ha => ho a (List.mem_cons_of_mem _ ha)) (by
    obtain ⟨c, hc, hn⟩ := hz
    rcases List.mem_cons.1 hc with rfl | hc
    ·exact (hn e).elim
    ·exact ⟨c, hc, hn⟩)
   exact ⟨X', List.mem_cons_of_mem _ h1, h2⟩
  ·exact ⟨_, List.mem_cons_self, (hk X h (k, a, b, d) (ho _ List.mem_cons_self)).2 e⟩
theorem callC_ok {cs : List (FuncId × Nat)} (hm : S.P.follows .mixedOrders = true) (hN : ∀ X, T X → Knows (S.plus X) E) (hP : ∀ X, T X → PrimOk (S.plus X) E w0) (hk : AskTrue S T z)
  (hs : ∀ X, T X → ∀ l s r, sqN S l = some s → (S.plus X).kn 0 s 0 = some r → (Nat.beq 1 r = true → ∀ d ∈ l, z d) ∧ (Nat.beq 1 r = false → ∃ d ∈ l, ¬ z d)) : ∀ n X, T X → CallOk S E w0 (callC S cs n X)
 | 0, _, _ => fun _ _ _ _ _ h => by cases h
 | n + 1, X, hX => fun f args h nx p hp => by
  have body : ∀ Y, T Y → CallOk S E w0 (bodyC (S.plus Y) (callC S cs n Y)) := fun Y hY => bodyC_ok (S := S.plus Y) hm (hN Y hY) (hP Y hY) (callC_ok hm hN hP hk hs n Y hY)
  unfold callC at hp
  split at hp
  ·exact body X hX f args h nx p hp
  ·simp only [Option.bind_eq_some_iff, ifO_some, List.all_eq_true] at hp
   obtain ⟨l, _, hl, s, h1, r, h2, h3⟩ := hp
   obtain ⟨a1, a0⟩ := hs X hX _ s r h1 h2
   cases e : Nat.beq 1 r with
   | true =>
    rw [e] at h3
    exact body _ (allZ_true hk hX hl fun a ha => a1 e _ (List.mem_map_of_mem ha)) f args h nx p h3
   | false =>
    rw [e] at h3
    obtain ⟨d, hd, hz⟩ := a0 e
    obtain ⟨a, ha, rfl⟩ := List.mem_map.1 hd
    obtain ⟨X', m1, m2⟩ := splits_true hk hX hl ⟨a, ha, hz⟩
    replace h3 : joinC h nx ((splits l X).map fun X' => bodyC (S.plus X') (callC S cs n X') f args h nx) = some p := h3
    unfold joinC at h3
    split at h3
    ·rename_i p0 rs hrs
     rw [Option.bind_eq_some_iff] at h3
     obtain ⟨b, hb, h4⟩ := h3
     rw [ifO_some, List.all_eq_true] at h4
     obtain ⟨h5, h6⟩ := h4
     cases h6
     obtain ⟨h', nx', q1, q2, q3⟩ := agree_some (h5 _ (List.mem_map_of_mem m1))
     intro γ w vs hi hA hb hlt hf
     refine (body X' m2 f args h nx _ q1 γ w vs hi hA hb hlt fun b g1 g2 => hf b g1 (Nat.lt_of_lt_of_le g2 q2)).mono ?_
     rintro _ w' ⟨r', γ', rfl, hef, hv, hx⟩
     exact ⟨r', γ', rfl, hef.wide (Nat.le_refl _) q2, hv, fun x hh => hx x (q3 x hh)⟩
    ·cases h3
end
end Cx
/- VPC -/
namespace Go.Proofs.YtkcikcnimkofkaaGreatDoor
open Cx Go Go.RowKit
section
variable {N : List Nd} {H : List (Nat × Nat × Nat × Nat)} {K : List (FuncId × List AC)} {L C : List (List Nat × Nat)} {Z : List Nat} {q : Nat → Rat} {σ : Nat → ByteArray} {w0 : World} {cl : List FuncId} {cs pr : List (FuncId × Nat)}
theorem kn_cons {k a b k' a' b' r' : Nat} {r : Nat} (h : knFrom k a b ((k', a', b', r') :: H) = some r) : (k = k' ∧ a = a' ∧ b = b' ∧ r = r') ∨ knFrom k a b H = some r := by
 unfold knFrom at h
 cases e : (Nat.beq k k' && (Nat.beq a a' && Nat.beq b b')) with
 | true =>
  rw [e] at h
  simp only [Bool.and_eq_true, Nat.beq_eq] at e
  exact Or.inl ⟨e.1, e.2.1, e.2.2, (Option.some.inj h).symm⟩
 | false =>
  rw [e] at h
  exact Or.inr h
theorem Hy.add0 (Y : Hy N H L C Z q σ) {a r : Nat} (h : Nat.beq 1 r = true ↔ q a = 0) : Hy N ((0, a, 0, r) :: H) L C Z q σ where
 nat := Y.nat
 qs := Y.qs
 zs := Y.zs
 par := Y.par
 lit := Y.lit
 k0 := fun a' r' g => by
  rcases kn_cons g with ⟨_, e1, _, e2⟩ | g
  ·rw [e1, e2]
   exact h
  ·exact Y.k0 a' r' g
 k1 := fun a' r' g => by
  rcases kn_cons g with ⟨e, _⟩ | g
  ·cases e
  ·exact Y.k1 a' r' g
 k2 := fun a' r' g => by
  rcases kn_cons g with ⟨e, _⟩ | g
  ·cases e
  ·exact Y.k2 a' r' g
 k4 := fun l a' b' r' g1 g => by
  rcases kn_cons g with ⟨e, _⟩ | g
  ·cases e
  ·exact Y.k4 l a' b' r' g1 g
 k3 := fun a' b' r' g => by
  rcases kn_cons g with ⟨e, _⟩ | g
  ·cases e
  ·exact Y.k3 a' b' r' g
 k6 := fun a' b' r' g => by
  rcases kn_cons g with ⟨e, _⟩ | g
  ·cases e
  ·exact Y.k6 a' b' r' g
 k5 := fun a' r' g => by
  rcases kn_cons g with ⟨e, _⟩ | g
  ·cases e
  ·exact Y.k5 a' r' g
theorem Hy.add3 (Y : Hy N H L C Z q σ) {a b r : Nat} (h : Nat.beq 1 r = true ↔ q a = q b) : Hy N ((3, a, b, r) :: H) L C Z q σ where
 nat := Y.nat
 qs := Y.qs
 zs := Y.zs
 par := Y.par
 lit := Y.lit
 k0 := fun a' r' g => by
  rcases kn_cons g with ⟨e, _⟩ | g
  ·cases e
  ·exact Y.k0 a' r' g
 k1 := fun a' r' g => by
  rcases kn_cons g with ⟨e, _⟩ | g
  ·cases e
  ·exact Y.k1 a' r' g
 k2 := fun a' r' g => by
  rcases kn_cons g with ⟨e, _⟩ | g
  ·cases e
  ·exact Y.k2 a' r' g
 k4 := fun l a' b' r' g1 g => by
  rcases kn_cons g with ⟨e, _⟩ | g
  ·cases e
  ·exact Y.k4 l a' b' r' g1 g
 k3 := fun a' b' r' g => by
  rcases kn_cons g with ⟨_, e1, e2, e3⟩ | g
  ·rw [e1, e2, e3]
   exact h
  ·exact Y.k3 a' b' r' g
 k6 := fun a' b' r' g => by
  rcases kn_cons g with ⟨e, _⟩ | g
  ·cases e
  ·exact Y.k6 a' b' r' g
 k5 := fun a' r' g => by
  rcases kn_cons g with ⟨e, _⟩ | g
  ·cases e
  ·exact Y.k5 a' r' g
theorem ask_true : AskTrue (sx Tryz.prog N H K L C Z pr) (fun X => Hy N (X ++ H) L C Z q σ) (fun d => q d = 0) := fun X Y a ha => by
 obtain ⟨k, a, b, d⟩ := a
 have t1 : Nat.beq 1 1 = true := rfl
 have t0 : Nat.beq 1 0 ≠ true := fun h => by cases h
 unfold askOk at ha
 rw [Bool.or_eq_true] at ha
 rcases ha with ha | ha
 ·simp only [Bool.and_eq_true, Nat.beq_eq] at ha
  obtain ⟨rfl, rfl, rfl⟩ := ha
  exact ⟨fun h => Hy.add0 Y ⟨fun _ => h, fun _ => t1⟩, fun h => Hy.add0 Y ⟨fun g => (t0 g).elim, fun g => (h g).elim⟩⟩
 ·rw [Bool.and_eq_true, Nat.beq_eq] at ha
  obtain ⟨rfl, hb⟩ := ha
  split at hb
  ·rename_i op ar hn
   rw [Bool.and_eq_true, Nat.beq_eq] at hb
   obtain ⟨rfl, hb⟩ := hb
   have e := beqL_eq hb
   subst e
   have hv : q d = q a - q b := Y.nat d _ hn
   have h2 : q d = 0 ↔ q a = q b := by
    rw [hv]
    constructor <;> intro h <;> grind
   exact ⟨fun h => Hy.add3 Y ⟨fun _ => h2.1 h, fun _ => t1⟩, fun h => Hy.add3 Y ⟨fun g => (t0 g).elim, fun g => (h (h2.2 g)).elim⟩⟩
  ·cases hb
theorem sq_nn (y : Rat) : 0 ≤ y * y := by
 by_cases h : y = 0
 ·rw [h, Rat.zero_mul]
  exact Rat.le_refl
 ·exact Rat.le_of_lt (sq1_pos h)
theorem sq_sum {x y : Rat} (hx : 0 ≤ x) : x + y * y = 0 ↔ x = 0 ∧ y = 0 := by
 constructor
 ·intro h
  have h2 := sq_nn y
  have h3 : x = 0 := by grind
  refine ⟨h3, ?_⟩
  have : y * y = 0 := by grind
  rcases Rat.mul_eq_zero.1 this with g | g <;> exact g
 ·rintro ⟨rfl, rfl⟩
  grind
theorem sqF_val {H' : List (Nat × Nat × Nat × Nat)} (Y : Hy N H' L C Z q σ) : ∀ {l : List Nat} {s t : Nat}, sqF (sx Tryz.prog N H K L C Z pr) s l = some t → 0 ≤ q s → 0 ≤ q t ∧ (q t = 0 ↔ q s = 0 ∧ ∀ d ∈ l, q d = 0)
 | [], s, t, h, hs => by
  cases h
  exact ⟨hs, fun e => ⟨e, fun d hd => by cases hd⟩, fun e => e.1⟩
 | a :: l, s, t, h, hs => by
  unfold sqF at h
  simp only [Option.bind_eq_some_iff] at h
  obtain ⟨b, h1, c, h2, h3⟩ := h
  have e1 : q b = q a * q a := Hy.nd (H := H') (K := K) (pr := pr) Y h1
  have e2 : q c = q s + q b := Hy.nd (H := H') (K := K) (pr := pr) Y h2
  have n := sq_nn (q a)
  obtain ⟨g1, g2⟩ := sqF_val Y h3 (by grind)
  refine ⟨g1, g2.trans ?_⟩
  have e3 := sq_sum (y := q a) hs
  rw [e2, e1, e3]
  constructor
  ·rintro ⟨⟨x, y⟩, z⟩
   refine ⟨x, fun d hd => ?_⟩
   rcases List.mem_cons.1 hd with rfl | hd
   ·exact y
   ·exact z d hd
  ·rintro ⟨x, y⟩
   exact ⟨⟨x, y a List.mem_cons_self⟩, fun d hd => y d (List.mem_cons_of_mem _ hd)⟩
theorem sqN_val {H' : List (Nat × Nat × Nat × Nat)} (Y : Hy N H' L C Z q σ) {l : List Nat} {s : Nat} (h : sqN (sx Tryz.prog N H K L C Z pr) l = some s) : q s = 0 ↔ ∀ d ∈ l, q d = 0 := by
 unfold sqN at h
 split at h
 ·cases h
 ·rename_i a l
  rw [Option.bind_eq_some_iff] at h
  obtain ⟨b, h1, h2⟩ := h
  have e1 : q b = q a * q a := Hy.nd (H := H') (K := K) (pr := pr) Y h1
  have n := sq_nn (q a)
  obtain ⟨_, g⟩ := sqF_val Y h2 (by grind)
  rw [g, e1]
  constructor
  ·rintro ⟨x, y⟩ d hd
   rcases List.mem_cons.1 hd with rfl | hd
   ·rcases Rat.mul_eq_zero.1 x with x | x <;> exact x
   ·exact y d hd
  ·intro y
   refine ⟨?_, fun d hd => y d (List.mem_cons_of_mem _ hd)⟩
   rw [y a List.mem_cons_self, Rat.zero_mul]
theorem run_cases {f : FuncId} {args : List AV} {vs : List Value} {k : Nat} {p : List HB × Nat} {b : Bool} (Y : Hy N H L C Z q σ) (hm : (Tryz.prog).follows .mixedOrders = true) {w : World} (hP : ∀ H', Hy N H' L C Z q σ → PrimOk (sx Tryz.prog N H' K L C Z pr) (evS q σ) w) (hr : callC (sx Tryz.prog N H K L C Z pr) cs k [] f args [] 0 = some (kB b, p))
  (hA : A2 (avOn (cOn (evS q σ) K (fun _ => none) w)) args vs) : Calls Tryz.prog f vs.toArray w fun e w' => Below w.heap.size w w' ∧ e = .returned (.bool b) := by
 refine (callC_ok (S := sx Tryz.prog N H K L C Z pr) (E := evS q σ) (w0 := w) (T := fun X => Hy N (X ++ H) L C Z q σ) (z := fun d => q d = 0) hm (fun X hX => knows hX) (fun X hX => hP _ hX) ask_true ?_ k [] Y f args [] 0 (kB b, p) hr (fun _ => none) w vs ⟨Below.refl _ _, (fun _ _ h => by cases h)⟩ hA (fun x hx => by cases hx) (fun x hx => by cases hx) (fun _ _ _ => rfl)).mono ?_
 ·intro X hX l s r h1 h2
  have e := hX.k0 s r h2
  have g := sqN_val hX h1
  refine ⟨fun h => g.1 (e.1 h), fun h => ?_⟩
  have hn : ¬ ∀ d ∈ l, q d = 0 := fun q' => by
   rw [e.2 (g.2 q')] at h
   cases h
  simpa using hn
 ·rintro _ w' ⟨r, γ', rfl, hef, hv, _⟩
  exact ⟨hef.wi.bel, by rw [show r = .bool b from (asC_on (v := kB b) (c := .inl (.bool b)) rfl hv).1]⟩
theorem run_toldC {f : FuncId} {args : List AV} {vs : List Value} {k : Nat} {p : List HB × Nat} {b : Bool} (Y : Hy N H L C Z q σ) (hc : ∀ f ∈ cl, Closed f) (hm : (Tryz.prog).follows .mixedOrders = true) (hr : callC (sx Tryz.prog N H K L C Z (prC cl)) cs k [] f args [] 0 = some (kB b, p)) {w : World} (hp : PreS w)
  (hA : A2 (avOn (cOn (evS q σ) K (fun _ => none) w)) args vs) : Calls Tryz.prog f vs.toArray w fun e w' => Below w.heap.size w w' ∧ e = .returned (.bool b) := run_cases Y hm (fun _ Y' => primOk Y' hp hc) hr hA
theorem run_toldC' {f : FuncId} {args : List AV} {vs : List Value} (k : Nat) (Y : Hy N H L C Z q σ) (hc : ∀ f ∈ cl, Closed f) (hm : (Tryz.prog).follows .mixedOrders = true) (hr : (callC (sx Tryz.prog N H K L C Z (prC cl)) cs k [] f args [] 0).map (·.1) = some (kB true)) {w : World} (hp : PreS w)
  (hA : A2 (avOn (cOn (evS q σ) K (fun _ => none) w)) args vs) : Calls Tryz.prog f vs.toArray w fun e w' => Below w.heap.size w w' ∧ e = .returned (.bool true) := by
 rw [Option.map_eq_some_iff] at hr
 obtain ⟨⟨v, p⟩, h1, h2⟩ := hr
 dsimp only at h2
 subst h2
 exact run_toldC Y hc hm h1 hp hA
theorem trip_fac {x y z g a b c : Rat} (h : ¬ ((x = 0 ∧ y = 0) ∧ z = 0)) (hg : g ≠ 0) (ha : a = x * g) (hb : b = y * g) (hc : c = z * g) : ¬ ((a = 0 ∧ b = 0) ∧ c = 0) := by
 rintro ⟨⟨h1, h2⟩, h3⟩
 rw [ha] at h1
 rw [hb] at h2
 rw [hc] at h3
 exact h ⟨⟨(Rat.mul_eq_zero.1 h1).resolve_right hg, (Rat.mul_eq_zero.1 h2).resolve_right hg⟩, (Rat.mul_eq_zero.1 h3).resolve_right hg⟩
theorem sq_first {u x : Rat} (h : u = x * x) : 0 ≤ u ∧ (u = 0 ↔ x = 0) := by
 rw [h]
 exact ⟨sq_nn x, fun e => (Rat.mul_eq_zero.1 e).elim id id, fun e => by rw [e, Rat.zero_mul]⟩
theorem sq_next {p : Prop} {s x v t : Rat} (h : 0 ≤ s ∧ (s = 0 ↔ p)) (hv : v = x * x) (ht : t = s + v) : 0 ≤ t ∧ (t = 0 ↔ (p ∧ x = 0)) := by
 have n := sq_nn x
 refine ⟨by have := h.1; grind, ?_⟩
 rw [ht, hv, sq_sum h.1, h.2]
end
end Go.Proofs.YtkcikcnimkofkaaGreatDoor
/- CFprojected -/
namespace Go.Proofs.YtkcikcnimkofkaaGreatDoor
open Go.RowKit Cx
theorem closed_projected : Closed 21 :=
 closed_told (N := [(0, [0, 1, 1]), (0, [0, 0, 1]), (8, [0, 0, 1, 1]), (8, [1, 0, 1, 1]), (8, [2, 0, 1, 1]), (8, [0, 1, 0, 0]), (8, [1, 1, 0, 0]), (8, [2, 1, 0, 0]), (4, [3, 7]), (4, [4, 6]), (3, [8, 9]), (4, [4, 5]), (4, [2, 7]), (3, [11, 12]), (4, [2, 6]), (4, [3, 5]), (3, [14, 15]), (8, [0, 10, 13, 16]), (8, [1, 10, 13, 16]), (8, [2, 10, 13, 16]), (8, [0, 1, 0, 1]), (8, [1, 1, 0, 1]), (8, [2, 1, 0, 1]), (4, [3, 22]), (4, [4, 21]), (3, [23, 24]), (4, [4, 20]), (4, [2, 22]), (3, [26, 27]), (4, [2, 21]), (4, [3, 20]), (3, [29, 30]), (8, [0, 0, 0, 1]), (8, [1, 0, 0, 1]), (8, [2, 0, 0, 1]), (4, [3, 34]), (4, [4, 33]), (3, [35, 36]), (4, [4, 32]), (4, [2, 34]), (3, [38, 39]), (4, [2, 33]), (4, [3, 32]), (3, [41, 42]), (4, [21, 34]), (4, [22, 33]), (3, [44, 45]), (4, [22, 32]), (4, [20, 34]), (3, [47, 48]), (4, [20, 33]), (4, [21, 32]), (3, [50, 51]), (4, [32, 25]), (2, [1, 53]), (4, [33, 28]), (2, [54, 55]), (4, [34, 31]), (2, [56, 57]), (4, [33, 22]), (4, [34, 21]), (3, [59, 60]), (4, [34, 20]), (4, [32, 22]), (3, [62, 63]), (4, [32, 21]), (4, [33, 20]), (3, [65, 66]), (4, [61, 25]), (2, [1, 68]), (4, [64, 28]), (2, [69, 70]), (4, [67, 31]), (2, [71, 72]), (4, [37, 25]), (2, [1, 74]), (4, [40, 28]), (2, [75, 76]), (4, [43, 31]), (2, [77, 78]), (4, [2, 73]), (4, [3, 73]), (4, [4, 73]), (5, [79]), (4, [20, 83]), (4, [21, 83]), (4, [22, 83]), (2, [80, 84]), (2, [81, 85]), (2, [82, 86]), (8, [0, 87, 88, 89]), (8, [1, 87, 88, 89]), (8, [2, 87, 88, 89]), (0, [0, 2, 1]), (8, [0, 0, 93, 1]), (8, [1, 0, 93, 1]), (8, [2, 0, 93, 1]), (4, [3, 96]), (4, [4, 95]), (3, [97, 98]), (4, [4, 94]), (4, [2, 96]), (3, [100, 101]), (4, [2, 95]), (4, [3, 94]), (3, [103, 104]), (4, [21, 96]), (4, [22, 95]), (3, [106, 107]), (4, [22, 94]), (4, [20, 96]), (3, [109, 110]), (4, [20, 95]), (4, [21, 94]), (3, [112, 113]), (4, [33, 96]), (4, [34, 95]), (3, [115, 116]), (4, [34, 94]), (4, [32, 96]), (3, [118, 119]), (4, [32, 95]), (4, [33, 94]), (3, [121, 122]), (4, [94, 25]), (2, [1, 124]), (4, [95, 28]), (2, [125, 126]), (4, [96, 31]), (2, [127, 128]), (4, [95, 22]), (4, [96, 21]), (3, [130, 131]), (4, [96, 20]), (4, [94, 22]), (3, [133, 134]), (4, [94, 21]), (4, [95, 20]), (3, [136, 137]), (4, [132, 25]), (2, [1, 139]), (4, [135, 28]), (2, [140, 141]), (4, [138, 31]), (2, [142, 143]), (4, [99, 25]), (2, [1, 145]), (4, [102, 28]), (2, [146, 147]), (4, [105, 31]), (2, [148, 149]), (6, [79, 73]), (6, [144, 150]), (4, [151, 152]), (0, [1, 1, 1]), (0, [0, 1, 2])]) (H := [(0, 0, 0, 0), (0, 1, 0, 1), (0, 10, 0, 1), (0, 13, 0, 0), (0, 25, 0, 1), (0, 28, 0, 1), (0, 31, 0, 0), (0, 37, 0, 1), (0, 40, 0, 1), (0, 43, 0, 0), (0, 46, 0, 1), (0, 49, 0, 1), (0, 52, 0, 0), (0, 58, 0, 1), (0, 99, 0, 1), (0, 102, 0, 1), (0, 105, 0, 0), (0, 108, 0, 1), (0, 111, 0, 1), (0, 114, 0, 0), (0, 117, 0, 1), (0, 120, 0, 1), (0, 123, 0, 0), (0, 129, 0, 1), (4, 17, 1, 1), (4, 18, 0, 1), (4, 19, 154, 1), (4, 90, 0, 1), (4, 91, 154, 1), (4, 92, 1, 1), (4, 153, 155, 1)]) (K := []) (L := [([49], 0), ([48], 1), ([50], 93), ([45, 49], 154), ([49, 47, 50], 155)]) (C := [([48], 1), ([49], 0), ([45, 49], 154), ([49, 47, 50], 155)]) (Z := [2, 2, 9, 9, 9, 9, 9, 9, 18, 18, 37, 18, 18, 37, 18, 18, 37, 149, 149, 149, 9, 9, 9, 18, 18, 37, 18, 18, 37, 18, 18, 37, 9, 9, 9, 18, 18, 37, 18, 18, 37, 18, 18, 37, 18, 18, 37, 18, 18, 37, 18, 18, 37, 46, 49, 46, 96, 46, 143, 18, 18, 37, 18, 18, 37, 18, 18, 37, 74, 77, 74, 152, 74, 227, 74, 77, 74, 152, 74, 227, 236, 236, 236, 227, 236, 236, 236, 473, 473, 473, 1893, 1893, 1893, 3, 13, 13, 13, 22, 22, 45, 22, 22, 45, 22, 22, 45, 22, 22, 45, 22, 22, 45, 22, 22, 45, 22, 22, 45, 22, 22, 45, 22, 22, 45, 50, 53, 50, 104, 50, 155, 22, 22, 45, 22, 22, 45, 22, 22, 45, 82, 85, 82, 168, 82, 251, 82, 85, 82, 168, 82, 251, 454, 502, 956, 2, 3]) (cl := []) 6 (fun _ h => by cases h) (by kernel_rfl) (by kernel_rfl) (by kernel_rfl) (by kernel_rfl) (by kernel_rfl) (by kernel_rfl) (by kernel_rfl)
end Go.Proofs.YtkcikcnimkofkaaGreatDoor
/- MPD -/
namespace Go.Proofs.YtkcikcnimkofkaaGreatDoor
open Go.RowKit Cx
def pD_N : List Nd := [(1,[0]),(1,[1]),(1,[2]),(1,[3]),(1,[4]),(1,[5]),(1,[12]),(4,[6,0]),(1,[15]),(4,[8,3]),(2,[7,9]),(4,[6,1]),(4,[8,4]),(2,[11,12]),(4,[6,2]),(4,[8,5]),(2,[14,15]),(1,[6]),(1,[7]),(1,[8]),(1,[13]),(4,[20,0]),(1,[16]),(4,[22,17]),(2,[21,23]),(4,[20,1]),(4,[22,18]),(2,[25,26]),(4,[20,2]),(4,[22,19]),(2,[28,29]),(1,[9]),(1,[10]),(1,[11]),(1,[14]),(4,[34,0]),(1,[17]),(4,[36,31]),(2,[35,37]),(4,[34,1]),(4,[36,32]),(2,[39,40]),(4,[34,2]),(4,[36,33]),(2,[42,43]),(4,[3,3]),(4,[4,4]),(2,[45,46]),(4,[5,5]),(2,[47,48]),(4,[10,10]),(4,[13,13]),(2,[50,51]),(4,[16,16]),(2,[52,53]),(0,[0,0,1]),(4,[55,55]),(2,[56,56]),(2,[57,56]),(8,[0,10,13,16]),(8,[1,10,13,16]),(8,[2,10,13,16]),(4,[24,24]),(4,[27,27]),(2,[62,63]),(4,[30,30]),(2,[64,65]),(8,[0,24,27,30]),(8,[1,24,27,30]),(8,[2,24,27,30]),(4,[60,69]),(4,[61,68]),(3,[70,71]),(4,[61,67]),(4,[59,69]),(3,[73,74]),(4,[59,68]),(4,[60,67]),(3,[76,77]),(4,[72,72]),(4,[75,75]),(2,[79,80]),(4,[78,78]),(2,[81,82]),(8,[0,72,75,78]),(8,[1,72,75,78]),(8,[2,72,75,78]),(8,[0,3,4,5]),(8,[1,3,4,5]),(8,[2,3,4,5]),(4,[17,17]),(4,[18,18]),(2,[90,91]),(4,[19,19]),(2,[92,93]),(8,[0,17,18,19]),(8,[1,17,18,19]),(8,[2,17,18,19]),(4,[88,97]),(4,[89,96]),(3,[98,99]),(4,[89,95]),(4,[87,97]),(3,[101,102]),(4,[87,96]),(4,[88,95]),(3,[104,105]),(4,[100,100]),(4,[103,103]),(2,[107,108]),(4,[106,106]),(2,[109,110]),(8,[0,100,103,106]),(8,[1,100,103,106]),(8,[2,100,103,106]),(4,[112,112]),(4,[113,113]),(2,[115,116]),(4,[114,114]),(2,[117,118]),(8,[0,112,113,114]),(8,[1,112,113,114]),(8,[2,112,113,114]),(4,[84,84]),(4,[85,85]),(2,[123,124]),(4,[86,86]),(2,[125,126]),(8,[0,84,85,86]),(8,[1,84,85,86]),(8,[2,84,85,86]),(4,[121,130]),(4,[122,129]),(3,[131,132]),(4,[122,128]),(4,[120,130]),(3,[134,135]),(4,[120,129]),(4,[121,128]),(3,[137,138]),(4,[133,133]),(4,[136,136]),(2,[140,141]),(4,[139,139]),(2,[142,143]),(8,[0,133,136,139]),(8,[1,133,136,139]),(8,[2,133,136,139]),(4,[31,31]),(4,[32,32]),(2,[148,149]),(4,[33,33]),(2,[150,151]),(4,[38,38]),(4,[41,41]),(2,[153,154]),(4,[44,44]),(2,[155,156]),(8,[0,38,41,44]),(8,[1,38,41,44]),(8,[2,38,41,44]),(4,[68,160]),(4,[69,159]),(3,[161,162]),(4,[69,158]),(4,[67,160]),(3,[164,165]),(4,[67,159]),(4,[68,158]),(3,[167,168]),(4,[163,163]),(4,[166,166]),(2,[170,171]),(4,[169,169]),(2,[172,173]),(8,[0,163,166,169]),(8,[1,163,166,169]),(8,[2,163,166,169]),(8,[0,31,32,33]),(8,[1,31,32,33]),(8,[2,31,32,33]),(4,[96,180]),(4,[97,179]),(3,[181,182]),(4,[97,178]),(4,[95,180]),(3,[184,185]),(4,[95,179]),(4,[96,178]),(3,[187,188]),(4,[183,183]),(4,[186,186]),(2,[190,191]),(4,[189,189]),(2,[192,193]),(8,[0,183,186,189]),(8,[1,183,186,189]),(8,[2,183,186,189]),(4,[195,195]),(4,[196,196]),(2,[198,199]),(4,[197,197]),(2,[200,201]),(8,[0,195,196,197]),(8,[1,195,196,197]),(8,[2,195,196,197]),(4,[175,175]),(4,[176,176]),(2,[206,207]),(4,[177,177]),(2,[208,209]),(8,[0,175,176,177]),(8,[1,175,176,177]),(8,[2,175,176,177]),(4,[204,213]),(4,[205,212]),(3,[214,215]),(4,[205,211]),(4,[203,213]),(3,[217,218]),(4,[203,212]),(4,[204,211]),(3,[220,221]),(4,[216,216]),(4,[219,219]),(2,[223,224]),(4,[222,222]),(2,[225,226]),(8,[0,216,219,222]),(8,[1,216,219,222]),(8,[2,216,219,222]),(4,[179,89]),(4,[180,88]),(3,[231,232]),(4,[180,87]),(4,[178,89]),(3,[234,235]),(4,[178,88]),(4,[179,87]),(3,[237,238]),(4,[233,233]),(4,[236,236]),(2,[240,241]),(4,[239,239]),(2,[242,243]),(4,[159,61]),(4,[160,60]),(3,[245,246]),(4,[160,59]),(4,[158,61]),(3,[248,249]),(4,[158,60]),(4,[159,59]),(3,[251,252]),(4,[247,247]),(4,[250,250]),(2,[254,255]),(4,[253,253]),(2,[256,257]),(8,[0,247,250,253]),(8,[1,247,250,253]),(8,[2,247,250,253]),(8,[0,233,236,239]),(8,[1,233,236,239]),(8,[2,233,236,239]),(4,[262,262]),(4,[263,263]),(2,[265,266]),(4,[264,264]),(2,[267,268]),(8,[0,262,263,264]),(8,[1,262,263,264]),(8,[2,262,263,264]),(4,[259,259]),(4,[260,260]),(2,[273,274]),(4,[261,261]),(2,[275,276]),(8,[0,259,260,261]),(8,[1,259,260,261]),(8,[2,259,260,261]),(4,[271,280]),(4,[272,279]),(3,[281,282]),(4,[272,278]),(4,[270,280]),(3,[284,285]),(4,[270,279]),(4,[271,278]),(3,[287,288]),(4,[283,283]),(4,[286,286]),(2,[290,291]),(4,[289,289]),(2,[292,293]),(8,[0,283,286,289]),(8,[1,283,286,289]),(8,[2,283,286,289]),(4,[18,33]),(4,[19,32]),(3,[298,299]),(4,[3,300]),(4,[17,33]),(4,[19,31]),(3,[302,303]),(4,[4,304]),(5,[305]),(4,[17,32]),(4,[18,31]),(3,[307,308]),(4,[5,309]),(2,[301,306]),(2,[311,310]),(4,[27,44]),(4,[30,41]),(3,[313,314]),(4,[10,315]),(4,[24,44]),(4,[30,38]),(3,[317,318]),(4,[13,319]),(5,[320]),(4,[24,41]),(4,[27,38]),(3,[322,323]),(4,[16,324]),(2,[316,321]),(2,[326,325]),(4,[4,19]),(4,[5,18]),(3,[328,329]),(4,[0,330]),(4,[3,19]),(4,[5,17]),(3,[332,333]),(4,[1,334]),(5,[335]),(4,[3,18]),(4,[4,17]),(3,[337,338]),(4,[2,339]),(2,[331,336]),(2,[341,340]),(4,[0,300]),(4,[1,304]),(5,[344]),(4,[2,309]),(2,[343,345]),(2,[347,346]),(4,[32,5]),(4,[33,4]),(3,[349,350]),(4,[0,351]),(4,[31,5]),(4,[33,3]),(3,[353,354]),(4,[1,355]),(5,[356]),(4,[31,4]),(4,[32,3]),(3,[358,359]),(4,[2,360]),(2,[352,357]),(2,[362,361]),(4,[229,297]),(4,[230,296]),(3,[364,365]),(4,[145,366]),(4,[228,297]),(4,[230,295]),(3,[368,369]),(4,[146,370]),(5,[371]),(4,[228,296]),(4,[229,295]),(3,[373,374]),(4,[147,375]),(2,[367,372]),(2,[377,376])]
def pD_L : List (List Nat × Nat) := [([],55)]
def pD_C : List (List Nat × Nat) := []
def pD_Z : List Nat := [3495259,3495259,3495259,3495259,3495259,3495259,3495259,6990518,3495259,6990518,13981037,6990518,6990518,13981037,6990518,6990518,13981037,3495259,3495259,3495259,3495259,6990518,3495259,6990518,13981037,6990518,6990518,13981037,6990518,6990518,13981037,3495259,3495259,3495259,3495259,6990518,3495259,6990518,13981037,6990518,6990518,13981037,6990518,6990518,13981037,6990518,6990518,13981037,6990518,20971556,27962074,27962074,55924149,27962074,83886224,2,4,5,6,55924149,55924149,55924149,27962074,27962074,55924149,27962074,83886224,55924149,55924149,55924149,111848298,111848298,111848299,111848298,111848298,111848299,111848298,111848298,111848299,223696598,223696598,223696599,223696598,223696600,111848300,111848300,111848300,13981037,13981037,13981037,6990518,6990518,13981037,6990518,20971556,13981037,13981037,13981037,27962074,27962074,27962075,27962074,27962074,27962075,27962074,27962074,27962075,55924150,55924150,55924151,55924150,55924152,27962076,27962076,27962076,55924152,55924152,55924153,55924152,55924154,27962077,27962077,27962077,223696600,223696600,223696601,223696600,223696602,111848301,111848301,111848301,139810378,139810378,139810379,139810378,139810378,139810379,139810378,139810378,139810379,279620758,279620758,279620759,279620758,279620760,139810380,139810380,139810380,6990518,6990518,13981037,6990518,20971556,27962074,27962074,55924149,27962074,83886224,55924149,55924149,55924149,111848298,111848298,111848299,111848298,111848298,111848299,111848298,111848298,111848299,223696598,223696598,223696599,223696598,223696600,111848300,111848300,111848300,13981037,13981037,13981037,27962074,27962074,27962075,27962074,27962074,27962075,27962074,27962074,27962075,55924150,55924150,55924151,55924150,55924152,27962076,27962076,27962076,55924152,55924152,55924153,55924152,55924154,27962077,27962077,27962077,223696600,223696600,223696601,223696600,223696602,111848301,111848301,111848301,139810378,139810378,139810379,139810378,139810378,139810379,139810378,139810378,139810379,279620758,279620758,279620759,279620758,279620760,139810380,139810380,139810380,27962074,27962074,27962075,27962074,27962074,27962075,27962074,27962074,27962075,55924150,55924150,55924151,55924150,55924152,111848298,111848298,111848299,111848298,111848298,111848299,111848298,111848298,111848299,223696598,223696598,223696599,223696598,223696600,111848300,111848300,111848300,27962076,27962076,27962076,55924152,55924152,55924153,55924152,55924154,27962077,27962077,27962077,223696600,223696600,223696601,223696600,223696602,111848301,111848301,111848301,139810378,139810378,139810379,139810378,139810378,139810379,139810378,139810378,139810379,279620758,279620758,279620759,279620758,279620760,139810380,139810380,139810380,6990518,6990518,13981037,17476296,6990518,6990518,13981037,17476296,17476296,6990518,6990518,13981037,17476296,34952593,52428890,27962074,27962074,55924149,69905186,27962074,27962074,55924149,69905186,69905186,27962074,27962074,55924149,69905186,139810373,209715560,6990518,6990518,13981037,17476296,6990518,6990518,13981037,17476296,17476296,6990518,6990518,13981037,17476296,34952593,52428890,17476296,17476296,17476296,17476296,34952593,52428890,6990518,6990518,13981037,17476296,6990518,6990518,13981037,17476296,17476296,6990518,6990518,13981037,17476296,34952593,52428890,279620760,279620760,279620761,419431141,279620760,279620760,279620761,419431141,419431141,279620760,279620760,279620761,419431141,419431142,419431143]
def pD_I : List Bool := [false,false,false,false,false,false,false,false,false,false,false,false,false,false,false,false,false,false,false,false,false,false,false,false,false,false,false,false,false,false,false,false,false,false,false,false,false,false,false,false,false,false,false,false,false,false,false,false,false,false,false,false,false,false,false,true,true,true,true,true,true,true,false,false,false,false,false,true,true,true,true,true,true,true,true,true,true,true,true,true,true,true,true,true,true,true,true,true,true,true,false,false,false,false,false,true,true,true,true,true,true,true,true,true,true,true,true,true,true,true,true,true,true,true,true,true,true,true,true,true,true,true,true,true,true,true,true,true,true,true,true,true,true,true,true,true,true,true,true,true,true,true,true,true,true,true,true,true,false,false,false,false,false,false,false,false,false,false,true,true,true,true,true,true,true,true,true,true,true,true,true,true,true,true,true,true,true,true,true,true,true,true,true,true,true,true,true,true,true,true,true,true,true,true,true,true,true,true,true,true,true,true,true,true,true,true,true,true,true,true,true,true,true,true,true,true,true,true,true,true,true,true,true,true,true,true,true,true,true,true,true,true,true,true,true,true,true,true,true,true,true,true,true,true,true,true,true,true,true,true,true,true,true,true,true,true,true,true,true,true,true,true,true,true,true,true,true,true,true,true,true,true,true,true,true,true,true,true,true,true,true,true,true,true,true,true,true,true,true,true,true,true,true,true,true,true,true,true,false,false,false,false,false,false,false,false,false,false,false,false,false,false,false,false,false,false,false,false,false,false,false,false,false,false,false,false,false,false,false,false,false,false,false,false,false,false,false,false,false,false,false,false,false,false,false,false,false,false,false,false,false,false,false,false,false,false,false,false,false,false,false,false,false,false,true,true,true,true,true,true,true,true,true,true,true,true,true,true,true]
theorem pD_wf : wfB 0 pD_N = true := by kernel_rfl
theorem pD_sz : szC pD_Z pD_I pD_N pD_Z pD_I = true := by kernel_rfl
theorem pD_lt : litB pD_N pD_L = true := by kernel_rfl
theorem pD_cn : canB pD_N pD_C = true := by kernel_rfl
theorem pD_c55 : cst 0 0 1 = (0 : Rat) := by decide +kernel
theorem fac3_ne {x y z : Rat} (h : ¬ ((x = 0 ∧ y = 0) ∧ z = 0)) : fac [x, y, z] ≠ 0 := fun e => h ⟨⟨fac_zero (by simp) e, fac_zero (by simp) e⟩, fac_zero (by simp) e⟩
theorem inv_ex {g : Rat} (h : g ≠ 0) : ∃ i, g * i = 1 := ⟨g⁻¹, Rat.mul_inv_cancel _ h⟩
theorem pl_m {x y z p q r G H s : Rat} (hx : x = p * G) (hy : y = q * H) (hz : z = x * y) (hr : r = p * q) (hs : s = G * H) : z = r * s := by
 rw [hz, hx, hy, hr, hs]; grind
theorem pl_w {x y z p q r G H s : Rat} (hx : x = p * G) (hy : y = q * H) (hz : z = x * y) (hr : r = p * q) (hs : s = H * G) : z = r * s := by
 rw [hz, hx, hy, hr, hs]; grind
theorem pl_s {x y z p q r G : Rat} (hx : x = p * G) (hy : y = q * G) (hz : z = x - y) (hr : r = p - q) : z = r * G := by
 rw [hz, hx, hy, hr]; grind
theorem pl_a {x y z p q r G : Rat} (hx : x = p * G) (hy : y = q * G) (hz : z = x + y) (hr : r = p + q) : z = r * G := by
 rw [hz, hx, hy, hr]; grind
theorem pl_n {x z p r G : Rat} (hx : x = p * G) (hz : z = -x) (hr : r = -p) : z = r * G := by
 rw [hz, hx, hr]; grind
theorem pl_8 {x z p G g s : Rat} (hx : x = p * G) (hz : z = x * g) (hs : s = G * g) : z = p * s := by
 rw [hz, hx, hs]; grind
theorem pl_1 (x : Rat) : x = x * 1 := (Rat.mul_one x).symm
theorem pl_0 {z p s : Rat} (h : z = p * s) (hp : p = 0) : z = 0 := by rw [h, hp, Rat.zero_mul]
theorem pq_meet (u1 u2 u3 v1 v2 v3 w1 w2 w3 x1 x2 x3 : Rat) :
  ((u3 * v1 - u1 * v3) * (w1 * x2 - w2 * x1) - (u1 * v2 - u2 * v1) * (w3 * x1 - w1 * x3) = (u1 * (v2 * x3 - v3 * x2) - u2 * (v1 * x3 - v3 * x1) + u3 * (v1 * x2 - v2 * x1)) * w1 - (u1 * (v2 * w3 - v3 * w2) - u2 * (v1 * w3 - v3 * w1) + u3 * (v1 * w2 - v2 * w1)) * x1) ∧
  ((u1 * v2 - u2 * v1) * (w2 * x3 - w3 * x2) - (u2 * v3 - u3 * v2) * (w1 * x2 - w2 * x1) = (u1 * (v2 * x3 - v3 * x2) - u2 * (v1 * x3 - v3 * x1) + u3 * (v1 * x2 - v2 * x1)) * w2 - (u1 * (v2 * w3 - v3 * w2) - u2 * (v1 * w3 - v3 * w1) + u3 * (v1 * w2 - v2 * w1)) * x2) ∧
  ((u2 * v3 - u3 * v2) * (w3 * x1 - w1 * x3) - (u3 * v1 - u1 * v3) * (w2 * x3 - w3 * x2) = (u1 * (v2 * x3 - v3 * x2) - u2 * (v1 * x3 - v3 * x1) + u3 * (v1 * x2 - v2 * x1)) * w3 - (u1 * (v2 * w3 - v3 * w2) - u2 * (v1 * w3 - v3 * w1) + u3 * (v1 * w2 - v2 * w1)) * x3) := by
 refine ⟨?_, ?_, ?_⟩ <;> grind
theorem pq_lin (a1 a2 a3 b1 b2 b3 c1 c2 c3 d1 d2 d3 f0 g0 e1 f1 h1 e2 g2 h2 : Rat) : (f0 * b1 + g0 * c1) * ((e1 * a2 + f1 * b2 + h1 * d2) * (e2 * a3 + g2 * c3 + h2 * d3) - (e1 * a3 + f1 * b3 + h1 * d3) * (e2 * a2 + g2 * c2 + h2 * d2)) + -((f0 * b2 + g0 * c2) * ((e1 * a1 + f1 * b1 + h1 * d1) * (e2 * a3 + g2 * c3 + h2 * d3) - (e1 * a3 + f1 * b3 + h1 * d3) * (e2 * a1 + g2 * c1 + h2 * d1))) + (f0 * b3 + g0 * c3) * ((e1 * a1 + f1 * b1 + h1 * d1) * (e2 * a2 + g2 * c2 + h2 * d2) - (e1 * a2 + f1 * b2 + h1 * d2) * (e2 * a1 + g2 * c1 + h2 * d1)) = f0 * (e1 * (-(g2 * (a1 * (b2 * c3 - b3 * c2) - a2 * (b1 * c3 - b3 * c1) + a3 * (b1 * c2 - b2 * c1))) - h2 * (a1 * (b2 * d3 - b3 * d2) - a2 * (b1 * d3 - b3 * d1) + a3 * (b1 * d2 - b2 * d1))) + h1 * (e2 * (a1 * (b2 * d3 - b3 * d2) - a2 * (b1 * d3 - b3 * d1) + a3 * (b1 * d2 - b2 * d1)) - g2 * (b1 * (c2 * d3 - c3 * d2) - b2 * (c1 * d3 - c3 * d1) + b3 * (c1 * d2 - c2 * d1)))) + g0 * (e1 * (-(h2 * (a1 * (c2 * d3 - c3 * d2) - a2 * (c1 * d3 - c3 * d1) + a3 * (c1 * d2 - c2 * d1)))) + f1 * (-(e2 * (a1 * (b2 * c3 - b3 * c2) - a2 * (b1 * c3 - b3 * c1) + a3 * (b1 * c2 - b2 * c1))) - h2 * (b1 * (c2 * d3 - c3 * d2) - b2 * (c1 * d3 - c3 * d1) + b3 * (c1 * d2 - c2 * d1))) + h1 * (e2 * (a1 * (c2 * d3 - c3 * d2) - a2 * (c1 * d3 - c3 * d1) + a3 * (c1 * d2 - c2 * d1)))) := by
 grind
theorem pq_main {a1 a2 a3 b1 b2 b3 c1 c2 c3 d1 d2 d3 r1 r2 r3 s1 s2 s3 X01 X02 X03 Y01 Y02 Y03 Z01 Z02 Z03 X11 X12 X13 Y11 Y12 Y13 Z11 Z12 Z13 X21 X22 X23 Y21 Y22 Y23 Z21 Z22 Z23 k0 k1 n0 n1 : Rat} (hr1 : r1 = k0 * a1 + k1 * b1) (hr2 : r2 = k0 * a2 + k1 * b2) (hr3 : r3 = k0 * a3 + k1 * b3) (hs1 : s1 = n0 * c1 + n1 * d1) (hs2 : s2 = n0 * c2 + n1 * d2) (hs3 : s3 = n0 * c3 + n1 * d3)
  (x01 : X01 = a2 * d3 - a3 * d2) (x02 : X02 = a3 * d1 - a1 * d3) (x03 : X03 = a1 * d2 - a2 * d1) (y01 : Y01 = b2 * c3 - b3 * c2) (y02 : Y02 = b3 * c1 - b1 * c3) (y03 : Y03 = b1 * c2 - b2 * c1) (z01 : Z01 = X02 * Y03 - X03 * Y02) (z02 : Z02 = X03 * Y01 - X01 * Y03) (z03 : Z03 = X01 * Y02 - X02 * Y01) (x11 : X11 = b2 * s3 - b3 * s2) (x12 : X12 = b3 * s1 - b1 * s3) (x13 : X13 = b1 * s2 - b2 * s1) (y11 : Y11 = r2 * d3 - r3 * d2) (y12 : Y12 = r3 * d1 - r1 * d3) (y13 : Y13 = r1 * d2 - r2 * d1) (z11 : Z11 = X12 * Y13 - X13 * Y12) (z12 : Z12 = X13 * Y11 - X11 * Y13) (z13 : Z13 = X11 * Y12 - X12 * Y11) (x21 : X21 = r2 * c3 - r3 * c2) (x22 : X22 = r3 * c1 - r1 * c3) (x23 : X23 = r1 * c2 - r2 * c1) (y21 : Y21 = a2 * s3 - a3 * s2) (y22 : Y22 = a3 * s1 - a1 * s3) (y23 : Y23 = a1 * s2 - a2 * s1) (z21 : Z21 = X22 * Y23 - X23 * Y22) (z22 : Z22 = X23 * Y21 - X21 * Y23) (z23 : Z23 = X21 * Y22 - X22 * Y21) :
  Z01 * (Z12 * Z23 - Z13 * Z22) + -(Z02 * (Z11 * Z23 - Z13 * Z21)) + Z03 * (Z11 * Z22 - Z12 * Z21) = 0 := by
 obtain ⟨A, hA⟩ : ∃ x, x = (b1 * (c2 * d3 - c3 * d2) - b2 * (c1 * d3 - c3 * d1) + b3 * (c1 * d2 - c2 * d1)) := ⟨_, rfl⟩
 obtain ⟨B, hB⟩ : ∃ x, x = (a1 * (c2 * d3 - c3 * d2) - a2 * (c1 * d3 - c3 * d1) + a3 * (c1 * d2 - c2 * d1)) := ⟨_, rfl⟩
 obtain ⟨C, hC⟩ : ∃ x, x = (a1 * (b2 * d3 - b3 * d2) - a2 * (b1 * d3 - b3 * d1) + a3 * (b1 * d2 - b2 * d1)) := ⟨_, rfl⟩
 obtain ⟨E, hE⟩ : ∃ x, x = (a1 * (b2 * c3 - b3 * c2) - a2 * (b1 * c3 - b3 * c1) + a3 * (b1 * c2 - b2 * c1)) := ⟨_, rfl⟩
 have ⟨q01, q02, q03⟩ : Z01 = -B * b1 + C * c1 ∧ Z02 = -B * b2 + C * c2 ∧ Z03 = -B * b3 + C * c3 := by
  have ⟨m1, m2, m3⟩ := pq_meet a1 a2 a3 d1 d2 d3 b1 b2 b3 c1 c2 c3
  have b1_ : (a1 * (d2 * c3 - d3 * c2) - a2 * (d1 * c3 - d3 * c1) + a3 * (d1 * c2 - d2 * c1)) = -B := by
   subst hA hB hC hE hr1 hr2 hr3 hs1 hs2 hs3
   clear m1 m2 m3 x01 x02 x03 x11 x12 x13 x21 x22 x23 y01 y02 y03 y11 y12 y13 y21 y22 y23 z01 z02 z03 z11 z12 z13 z21 z22 z23
   grind
  have b2_ : (a1 * (d2 * b3 - d3 * b2) - a2 * (d1 * b3 - d3 * b1) + a3 * (d1 * b2 - d2 * b1)) = -C := by
   subst hA hB hC hE hr1 hr2 hr3 hs1 hs2 hs3
   clear m1 m2 m3 x01 x02 x03 x11 x12 x13 x21 x22 x23 y01 y02 y03 y11 y12 y13 y21 y22 y23 z01 z02 z03 z11 z12 z13 z21 z22 z23
   grind
  rw [b1_, b2_, ← x02, ← x03, ← y02, ← y03, ← z01] at m1
  rw [b1_, b2_, ← x01, ← x03, ← y01, ← y03, ← z02] at m2
  rw [b1_, b2_, ← x01, ← x02, ← y01, ← y02, ← z03] at m3
  rw [m1, m2, m3]
  clear m1 m2 m3 b1_ b2_ hA hB hC hE x01 x02 x03 x11 x12 x13 x21 x22 x23 y01 y02 y03 y11 y12 y13 y21 y22 y23 z01 z02 z03 z11 z12 z13 z21 z22 z23
  subst hr1 hr2 hr3 hs1 hs2 hs3
  refine ⟨?_, ?_, ?_⟩ <;> grind
 have ⟨q11, q12, q13⟩ : Z11 = n0 * A * k0 * a1 + n0 * A * k1 * b1 + -(k0 * (n0 * E + n1 * C)) * d1 ∧ Z12 = n0 * A * k0 * a2 + n0 * A * k1 * b2 + -(k0 * (n0 * E + n1 * C)) * d2 ∧ Z13 = n0 * A * k0 * a3 + n0 * A * k1 * b3 + -(k0 * (n0 * E + n1 * C)) * d3 := by
  clear q01 q02 q03
  have ⟨m1, m2, m3⟩ := pq_meet b1 b2 b3 s1 s2 s3 r1 r2 r3 d1 d2 d3
  have b1_ : (b1 * (s2 * d3 - s3 * d2) - b2 * (s1 * d3 - s3 * d1) + b3 * (s1 * d2 - s2 * d1)) = n0 * A := by
   subst hA hB hC hE hr1 hr2 hr3 hs1 hs2 hs3
   clear m1 m2 m3 x01 x02 x03 x11 x12 x13 x21 x22 x23 y01 y02 y03 y11 y12 y13 y21 y22 y23 z01 z02 z03 z11 z12 z13 z21 z22 z23
   grind
  have b2_ : (b1 * (s2 * r3 - s3 * r2) - b2 * (s1 * r3 - s3 * r1) + b3 * (s1 * r2 - s2 * r1)) = k0 * (n0 * E + n1 * C) := by
   subst hA hB hC hE hr1 hr2 hr3 hs1 hs2 hs3
   clear m1 m2 m3 x01 x02 x03 x11 x12 x13 x21 x22 x23 y01 y02 y03 y11 y12 y13 y21 y22 y23 z01 z02 z03 z11 z12 z13 z21 z22 z23
   grind
  rw [b1_, b2_, ← x12, ← x13, ← y12, ← y13, ← z11] at m1
  rw [b1_, b2_, ← x11, ← x13, ← y11, ← y13, ← z12] at m2
  rw [b1_, b2_, ← x11, ← x12, ← y11, ← y12, ← z13] at m3
  rw [m1, m2, m3]
  clear m1 m2 m3 b1_ b2_ hA hB hC hE x01 x02 x03 x11 x12 x13 x21 x22 x23 y01 y02 y03 y11 y12 y13 y21 y22 y23 z01 z02 z03 z11 z12 z13 z21 z22 z23
  subst hr1 hr2 hr3 hs1 hs2 hs3
  refine ⟨?_, ?_, ?_⟩ <;> grind
 have ⟨q21, q22, q23⟩ : Z21 = n1 * (k0 * B + k1 * A) * a1 + -(k1 * E * n0) * c1 + -(k1 * E * n1) * d1 ∧ Z22 = n1 * (k0 * B + k1 * A) * a2 + -(k1 * E * n0) * c2 + -(k1 * E * n1) * d2 ∧ Z23 = n1 * (k0 * B + k1 * A) * a3 + -(k1 * E * n0) * c3 + -(k1 * E * n1) * d3 := by
  clear q01 q02 q03 q11 q12 q13
  have ⟨m1, m2, m3⟩ := pq_meet r1 r2 r3 c1 c2 c3 a1 a2 a3 s1 s2 s3
  have b1_ : (r1 * (c2 * s3 - c3 * s2) - r2 * (c1 * s3 - c3 * s1) + r3 * (c1 * s2 - c2 * s1)) = n1 * (k0 * B + k1 * A) := by
   subst hA hB hC hE hr1 hr2 hr3 hs1 hs2 hs3
   clear m1 m2 m3 x01 x02 x03 x11 x12 x13 x21 x22 x23 y01 y02 y03 y11 y12 y13 y21 y22 y23 z01 z02 z03 z11 z12 z13 z21 z22 z23
   grind
  have b2_ : (r1 * (c2 * a3 - c3 * a2) - r2 * (c1 * a3 - c3 * a1) + r3 * (c1 * a2 - c2 * a1)) = k1 * E := by
   subst hA hB hC hE hr1 hr2 hr3 hs1 hs2 hs3
   clear m1 m2 m3 x01 x02 x03 x11 x12 x13 x21 x22 x23 y01 y02 y03 y11 y12 y13 y21 y22 y23 z01 z02 z03 z11 z12 z13 z21 z22 z23
   grind
  rw [b1_, b2_, ← x22, ← x23, ← y22, ← y23, ← z21] at m1
  rw [b1_, b2_, ← x21, ← x23, ← y21, ← y23, ← z22] at m2
  rw [b1_, b2_, ← x21, ← x22, ← y21, ← y22, ← z23] at m3
  rw [m1, m2, m3]
  clear m1 m2 m3 b1_ b2_ hA hB hC hE x01 x02 x03 x11 x12 x13 x21 x22 x23 y01 y02 y03 y11 y12 y13 y21 y22 y23 z01 z02 z03 z11 z12 z13 z21 z22 z23
  subst hr1 hr2 hr3 hs1 hs2 hs3
  refine ⟨?_, ?_, ?_⟩ <;> grind
 rw [q01, q02, q03, q11, q12, q13, q21, q22, q23, pq_lin, ← hA, ← hB, ← hC, ← hE]
 clear q01 q02 q03 q11 q12 q13 q21 q22 q23 x01 x02 x03 y01 y02 y03 z01 z02 z03 x11 x12 x13 y11 y12 y13 z11 z12 z13 x21 x22 x23 y21 y22 y23 z21 z22 z23 hr1 hr2 hr3 hs1 hs2 hs3 hA hB hC hE
 grind
theorem ds_meet (o1 o2 o3 t1 t2 t3 u1 u2 u3 k l m n : Rat) :
  ((t3 * u1 - t1 * u3) * ((k * o1 + m * t1) * (l * o2 + n * u2) - (k * o2 + m * t2) * (l * o1 + n * u1)) - (t1 * u2 - t2 * u1) * ((k * o3 + m * t3) * (l * o1 + n * u1) - (k * o1 + m * t1) * (l * o3 + n * u3)) = (t1 * (u2 * o3 - u3 * o2) - t2 * (u1 * o3 - u3 * o1) + t3 * (u1 * o2 - u2 * o1)) * (m * l * t1 - k * n * u1)) ∧
  ((t1 * u2 - t2 * u1) * ((k * o2 + m * t2) * (l * o3 + n * u3) - (k * o3 + m * t3) * (l * o2 + n * u2)) - (t2 * u3 - t3 * u2) * ((k * o1 + m * t1) * (l * o2 + n * u2) - (k * o2 + m * t2) * (l * o1 + n * u1)) = (t1 * (u2 * o3 - u3 * o2) - t2 * (u1 * o3 - u3 * o1) + t3 * (u1 * o2 - u2 * o1)) * (m * l * t2 - k * n * u2)) ∧
  ((t2 * u3 - t3 * u2) * ((k * o3 + m * t3) * (l * o1 + n * u1) - (k * o1 + m * t1) * (l * o3 + n * u3)) - (t3 * u1 - t1 * u3) * ((k * o2 + m * t2) * (l * o3 + n * u3) - (k * o3 + m * t3) * (l * o2 + n * u2)) = (t1 * (u2 * o3 - u3 * o2) - t2 * (u1 * o3 - u3 * o1) + t3 * (u1 * o2 - u2 * o1)) * (m * l * t3 - k * n * u3)) := by
 refine ⟨?_, ?_, ?_⟩ <;> grind
theorem ds_lin (t1 t2 t3 u1 u2 u3 v1 v2 v3 D0 D1 D2 x0 y0 x1 y1 x2 y2 : Rat) : (D0 * (x0 * t1 - y0 * u1)) * ((D1 * (x1 * u2 - y1 * v2)) * (D2 * (x2 * v3 - y2 * t3)) - (D1 * (x1 * u3 - y1 * v3)) * (D2 * (x2 * v2 - y2 * t2))) + -((D0 * (x0 * t2 - y0 * u2)) * ((D1 * (x1 * u1 - y1 * v1)) * (D2 * (x2 * v3 - y2 * t3)) - (D1 * (x1 * u3 - y1 * v3)) * (D2 * (x2 * v1 - y2 * t1)))) + (D0 * (x0 * t3 - y0 * u3)) * ((D1 * (x1 * u1 - y1 * v1)) * (D2 * (x2 * v2 - y2 * t2)) - (D1 * (x1 * u2 - y1 * v2)) * (D2 * (x2 * v1 - y2 * t1))) = D0 * D1 * D2 * (t1 * (u2 * v3 - u3 * v2) - t2 * (u1 * v3 - u3 * v1) + t3 * (u1 * v2 - u2 * v1)) * (x0 * x1 * x2 - y0 * y1 * y2) := by
 grind
theorem ds_main {o1 o2 o3 t1 t2 t3 u1 u2 u3 v1 v2 v3 p1 p2 p3 q1 q2 q3 r1 r2 r3 A01 A02 A03 B01 B02 B03 C01 C02 C03 A11 A12 A13 B11 B12 B13 C11 C12 C13 A21 A22 A23 B21 B22 B23 C21 C22 C23 k0 k1 k2 n0 n1 n2 : Rat} (hp1 : p1 = k0 * o1 + n0 * t1) (hp2 : p2 = k0 * o2 + n0 * t2) (hp3 : p3 = k0 * o3 + n0 * t3) (hq1 : q1 = k1 * o1 + n1 * u1) (hq2 : q2 = k1 * o2 + n1 * u2) (hq3 : q3 = k1 * o3 + n1 * u3) (hr1 : r1 = k2 * o1 + n2 * v1) (hr2 : r2 = k2 * o2 + n2 * v2) (hr3 : r3 = k2 * o3 + n2 * v3)
  (a01 : A01 = t2 * u3 - t3 * u2) (a02 : A02 = t3 * u1 - t1 * u3) (a03 : A03 = t1 * u2 - t2 * u1) (b01 : B01 = p2 * q3 - p3 * q2) (b02 : B02 = p3 * q1 - p1 * q3) (b03 : B03 = p1 * q2 - p2 * q1) (c01 : C01 = A02 * B03 - A03 * B02) (c02 : C02 = A03 * B01 - A01 * B03) (c03 : C03 = A01 * B02 - A02 * B01) (a11 : A11 = u2 * v3 - u3 * v2) (a12 : A12 = u3 * v1 - u1 * v3) (a13 : A13 = u1 * v2 - u2 * v1) (b11 : B11 = q2 * r3 - q3 * r2) (b12 : B12 = q3 * r1 - q1 * r3) (b13 : B13 = q1 * r2 - q2 * r1) (c11 : C11 = A12 * B13 - A13 * B12) (c12 : C12 = A13 * B11 - A11 * B13) (c13 : C13 = A11 * B12 - A12 * B11) (a21 : A21 = v2 * t3 - v3 * t2) (a22 : A22 = v3 * t1 - v1 * t3) (a23 : A23 = v1 * t2 - v2 * t1) (b21 : B21 = r2 * p3 - r3 * p2) (b22 : B22 = r3 * p1 - r1 * p3) (b23 : B23 = r1 * p2 - r2 * p1) (c21 : C21 = A22 * B23 - A23 * B22) (c22 : C22 = A23 * B21 - A21 * B23) (c23 : C23 = A21 * B22 - A22 * B21) :
  C01 * (C12 * C23 - C13 * C22) + -(C02 * (C11 * C23 - C13 * C21)) + C03 * (C11 * C22 - C12 * C21) = 0 := by
 have ⟨m01, m02, m03⟩ := ds_meet o1 o2 o3 t1 t2 t3 u1 u2 u3 k0 k1 n0 n1
 rw [← hp1, ← hp2, ← hp3, ← hq1, ← hq2, ← hq3, ← a02, ← a03, ← b02, ← b03, ← c01] at m01
 rw [← hp1, ← hp2, ← hp3, ← hq1, ← hq2, ← hq3, ← a01, ← a03, ← b01, ← b03, ← c02] at m02
 rw [← hp1, ← hp2, ← hp3, ← hq1, ← hq2, ← hq3, ← a01, ← a02, ← b01, ← b02, ← c03] at m03
 have ⟨m11, m12, m13⟩ := ds_meet o1 o2 o3 u1 u2 u3 v1 v2 v3 k1 k2 n1 n2
 rw [← hq1, ← hq2, ← hq3, ← hr1, ← hr2, ← hr3, ← a12, ← a13, ← b12, ← b13, ← c11] at m11
 rw [← hq1, ← hq2, ← hq3, ← hr1, ← hr2, ← hr3, ← a11, ← a13, ← b11, ← b13, ← c12] at m12
 rw [← hq1, ← hq2, ← hq3, ← hr1, ← hr2, ← hr3, ← a11, ← a12, ← b11, ← b12, ← c13] at m13
 have ⟨m21, m22, m23⟩ := ds_meet o1 o2 o3 v1 v2 v3 t1 t2 t3 k2 k0 n2 n0
 rw [← hr1, ← hr2, ← hr3, ← hp1, ← hp2, ← hp3, ← a22, ← a23, ← b22, ← b23, ← c21] at m21
 rw [← hr1, ← hr2, ← hr3, ← hp1, ← hp2, ← hp3, ← a21, ← a23, ← b21, ← b23, ← c22] at m22
 rw [← hr1, ← hr2, ← hr3, ← hp1, ← hp2, ← hp3, ← a21, ← a22, ← b21, ← b22, ← c23] at m23
 rw [m01, m02, m03, m11, m12, m13, m21, m22, m23, ds_lin]
 have e : n0 * k1 * (n1 * k2) * (n2 * k0) - k0 * n1 * (k1 * n2) * (k2 * n0) = 0 := by
  clear m01 m02 m03 m11 m12 m13 m21 m22 m23
  clear a01 a02 a03 a11 a12 a13 a21 a22 a23 b01 b02 b03 b11 b12 b13 b21 b22 b23 c01 c02 c03 c11 c12 c13 c21 c22 c23 hp1 hp2 hp3 hq1 hq2 hq3 hr1 hr2 hr3
  grind
 rw [e, Rat.mul_zero]
theorem pD_f1 {z55 z58 : Rat} : z55=0→(z58=0↔((z55=0∧z55=0)∧z55=0))→z58=0 := by
 intro e55 e58
 rw [e58]
 clear  e58
 refine ⟨⟨?_, ?_⟩, ?_⟩ <;> (subst_vars; grind)
theorem pD_f2 {z3 z4 z5 z17 z18 z19 z49 z87 z88 z89 z94 z95 z96 z97 z98 z99 z100 z101 z102 z103 z104 z105 z106 z111 z112 z113 z114 z119 : Rat} : (z49=0↔((z3=0∧z4=0)∧z5=0))→z87=z3*fac [z3,z4,z5]→z88=z4*fac [z3,z4,z5]→z89=z5*fac [z3,z4,z5]→(z94=0↔((z17=0∧z18=0)∧z19=0))→z95=z17*fac [z17,z18,z19]→z96=z18*fac [z17,z18,z19]→z97=z19*fac [z17,z18,z19]→z98=z88*z97→z99=z89*z96→z100=z98-z99→z101=z89*z95→z102=z87*z97→z103=z101-z102→z104=z87*z96→z105=z88*z95→z106=z104-z105→(z111=0↔((z100=0∧z103=0)∧z106=0))→z112=z100*fac [z100,z103,z106]→z113=z103*fac [z100,z103,z106]→z114=z106*fac [z100,z103,z106]→(z119=0↔((z112=0∧z113=0)∧z114=0))→(¬ (z49=0))→(¬ (z94=0))→(¬ (z111=0))→¬ (z119=0) := by
 intro e49 e87 e88 e89 e94 e95 e96 e97 e98 e99 e100 e101 e102 e103 e104 e105 e106 e111 e112 e113 e114 e119 u0 u1 u2
 rw [e49] at u0
 rw [e94] at u1
 rw [e111] at u2
 rw [e119]
 clear  e49 e94 e111 e119
 have iw0 := fac3_ne u0
 generalize fac [z3, z4, z5] = g0 at *
 have iw1 := fac3_ne u1
 generalize fac [z17, z18, z19] = g1 at *
 have iw2 := fac3_ne u2
 generalize fac [z100, z103, z106] = g2 at *
 obtain ⟨iv0, ih0⟩ := inv_ex iw0
 obtain ⟨iv1, ih1⟩ := inv_ex iw1
 obtain ⟨iv2, ih2⟩ := inv_ex iw2
 exact trip_fac u2 iw2 e112 e113 e114
theorem pD_f3 {z0 z1 z2 z3 z4 z5 z6 z7 z8 z9 z10 z11 z12 z13 z14 z15 z16 z17 z18 z19 z20 z21 z22 z23 z24 z25 z26 z27 z28 z29 z30 z54 z59 z60 z61 z66 z67 z68 z69 z70 z71 z72 z73 z74 z75 z76 z77 z78 z83 z84 z85 z86 z127 : Rat} : z7=z6*z0→z9=z8*z3→z10=z7+z9→z11=z6*z1→z12=z8*z4→z13=z11+z12→z14=z6*z2→z15=z8*z5→z16=z14+z15→z21=z20*z0→z23=z22*z17→z24=z21+z23→z25=z20*z1→z26=z22*z18→z27=z25+z26→z28=z20*z2→z29=z22*z19→z30=z28+z29→(z54=0↔((z10=0∧z13=0)∧z16=0))→z59=z10*fac [z10,z13,z16]→z60=z13*fac [z10,z13,z16]→z61=z16*fac [z10,z13,z16]→(z66=0↔((z24=0∧z27=0)∧z30=0))→z67=z24*fac [z24,z27,z30]→z68=z27*fac [z24,z27,z30]→z69=z30*fac [z24,z27,z30]→z70=z60*z69→z71=z61*z68→z72=z70-z71→z73=z61*z67→z74=z59*z69→z75=z73-z74→z76=z59*z68→z77=z60*z67→z78=z76-z77→(z83=0↔((z72=0∧z75=0)∧z78=0))→z84=z72*fac [z72,z75,z78]→z85=z75*fac [z72,z75,z78]→z86=z78*fac [z72,z75,z78]→(z127=0↔((z84=0∧z85=0)∧z86=0))→(¬ (z54=0))→(¬ (z66=0))→(¬ (z83=0))→¬ (z127=0) := by
 intro e7 e9 e10 e11 e12 e13 e14 e15 e16 e21 e23 e24 e25 e26 e27 e28 e29 e30 e54 e59 e60 e61 e66 e67 e68 e69 e70 e71 e72 e73 e74 e75 e76 e77 e78 e83 e84 e85 e86 e127 u3 u4 u5
 rw [e54] at u3
 rw [e66] at u4
 rw [e83] at u5
 rw [e127]
 clear  e54 e66 e83 e127
 have iw0 := fac3_ne u3
 generalize fac [z10, z13, z16] = g0 at *
 have iw1 := fac3_ne u4
 generalize fac [z24, z27, z30] = g1 at *
 have iw2 := fac3_ne u5
 generalize fac [z72, z75, z78] = g2 at *
 obtain ⟨iv0, ih0⟩ := inv_ex iw0
 obtain ⟨iv1, ih1⟩ := inv_ex iw1
 obtain ⟨iv2, ih2⟩ := inv_ex iw2
 exact trip_fac u5 iw2 e84 e85 e86
theorem pD_f4 {z17 z18 z19 z31 z32 z33 z94 z95 z96 z97 z152 z178 z179 z180 z181 z182 z183 z184 z185 z186 z187 z188 z189 z194 z195 z196 z197 z202 : Rat} : (z94=0↔((z17=0∧z18=0)∧z19=0))→z95=z17*fac [z17,z18,z19]→z96=z18*fac [z17,z18,z19]→z97=z19*fac [z17,z18,z19]→(z152=0↔((z31=0∧z32=0)∧z33=0))→z178=z31*fac [z31,z32,z33]→z179=z32*fac [z31,z32,z33]→z180=z33*fac [z31,z32,z33]→z181=z96*z180→z182=z97*z179→z183=z181-z182→z184=z97*z178→z185=z95*z180→z186=z184-z185→z187=z95*z179→z188=z96*z178→z189=z187-z188→(z194=0↔((z183=0∧z186=0)∧z189=0))→z195=z183*fac [z183,z186,z189]→z196=z186*fac [z183,z186,z189]→z197=z189*fac [z183,z186,z189]→(z202=0↔((z195=0∧z196=0)∧z197=0))→(¬ (z94=0))→(¬ (z152=0))→(¬ (z194=0))→¬ (z202=0) := by
 intro e94 e95 e96 e97 e152 e178 e179 e180 e181 e182 e183 e184 e185 e186 e187 e188 e189 e194 e195 e196 e197 e202 u1 u7 u8
 rw [e94] at u1
 rw [e152] at u7
 rw [e194] at u8
 rw [e202]
 clear  e94 e152 e194 e202
 have iw0 := fac3_ne u1
 generalize fac [z17, z18, z19] = g0 at *
 have iw1 := fac3_ne u7
 generalize fac [z31, z32, z33] = g1 at *
 have iw2 := fac3_ne u8
 generalize fac [z183, z186, z189] = g2 at *
 obtain ⟨iv0, ih0⟩ := inv_ex iw0
 obtain ⟨iv1, ih1⟩ := inv_ex iw1
 obtain ⟨iv2, ih2⟩ := inv_ex iw2
 exact trip_fac u8 iw2 e195 e196 e197
theorem pD_f5 {z0 z1 z2 z17 z18 z19 z20 z21 z22 z23 z24 z25 z26 z27 z28 z29 z30 z31 z32 z33 z34 z35 z36 z37 z38 z39 z40 z41 z42 z43 z44 z66 z67 z68 z69 z157 z158 z159 z160 z161 z162 z163 z164 z165 z166 z167 z168 z169 z174 z175 z176 z177 z210 : Rat} : z21=z20*z0→z23=z22*z17→z24=z21+z23→z25=z20*z1→z26=z22*z18→z27=z25+z26→z28=z20*z2→z29=z22*z19→z30=z28+z29→z35=z34*z0→z37=z36*z31→z38=z35+z37→z39=z34*z1→z40=z36*z32→z41=z39+z40→z42=z34*z2→z43=z36*z33→z44=z42+z43→(z66=0↔((z24=0∧z27=0)∧z30=0))→z67=z24*fac [z24,z27,z30]→z68=z27*fac [z24,z27,z30]→z69=z30*fac [z24,z27,z30]→(z157=0↔((z38=0∧z41=0)∧z44=0))→z158=z38*fac [z38,z41,z44]→z159=z41*fac [z38,z41,z44]→z160=z44*fac [z38,z41,z44]→z161=z68*z160→z162=z69*z159→z163=z161-z162→z164=z69*z158→z165=z67*z160→z166=z164-z165→z167=z67*z159→z168=z68*z158→z169=z167-z168→(z174=0↔((z163=0∧z166=0)∧z169=0))→z175=z163*fac [z163,z166,z169]→z176=z166*fac [z163,z166,z169]→z177=z169*fac [z163,z166,z169]→(z210=0↔((z175=0∧z176=0)∧z177=0))→(¬ (z66=0))→(¬ (z157=0))→(¬ (z174=0))→¬ (z210=0) := by
 intro e21 e23 e24 e25 e26 e27 e28 e29 e30 e35 e37 e38 e39 e40 e41 e42 e43 e44 e66 e67 e68 e69 e157 e158 e159 e160 e161 e162 e163 e164 e165 e166 e167 e168 e169 e174 e175 e176 e177 e210 u4 u9 u10
 rw [e66] at u4
 rw [e157] at u9
 rw [e174] at u10
 rw [e210]
 clear  e66 e157 e174 e210
 have iw0 := fac3_ne u4
 generalize fac [z24, z27, z30] = g0 at *
 have iw1 := fac3_ne u9
 generalize fac [z38, z41, z44] = g1 at *
 have iw2 := fac3_ne u10
 generalize fac [z163, z166, z169] = g2 at *
 obtain ⟨iv0, ih0⟩ := inv_ex iw0
 obtain ⟨iv1, ih1⟩ := inv_ex iw1
 obtain ⟨iv2, ih2⟩ := inv_ex iw2
 exact trip_fac u10 iw2 e175 e176 e177
theorem pD_f6 {z3 z4 z5 z31 z32 z33 z49 z87 z88 z89 z152 z178 z179 z180 z231 z232 z233 z234 z235 z236 z237 z238 z239 z244 z262 z263 z264 z269 : Rat} : (z49=0↔((z3=0∧z4=0)∧z5=0))→z87=z3*fac [z3,z4,z5]→z88=z4*fac [z3,z4,z5]→z89=z5*fac [z3,z4,z5]→(z152=0↔((z31=0∧z32=0)∧z33=0))→z178=z31*fac [z31,z32,z33]→z179=z32*fac [z31,z32,z33]→z180=z33*fac [z31,z32,z33]→z231=z179*z89→z232=z180*z88→z233=z231-z232→z234=z180*z87→z235=z178*z89→z236=z234-z235→z237=z178*z88→z238=z179*z87→z239=z237-z238→(z244=0↔((z233=0∧z236=0)∧z239=0))→z262=z233*fac [z233,z236,z239]→z263=z236*fac [z233,z236,z239]→z264=z239*fac [z233,z236,z239]→(z269=0↔((z262=0∧z263=0)∧z264=0))→(¬ (z49=0))→(¬ (z152=0))→(¬ (z244=0))→¬ (z269=0) := by
 intro e49 e87 e88 e89 e152 e178 e179 e180 e231 e232 e233 e234 e235 e236 e237 e238 e239 e244 e262 e263 e264 e269 u0 u7 u12
 rw [e49] at u0
 rw [e152] at u7
 rw [e244] at u12
 rw [e269]
 clear  e49 e152 e244 e269
 have iw0 := fac3_ne u0
 generalize fac [z3, z4, z5] = g0 at *
 have iw1 := fac3_ne u7
 generalize fac [z31, z32, z33] = g1 at *
 have iw2 := fac3_ne u12
 generalize fac [z233, z236, z239] = g2 at *
 obtain ⟨iv0, ih0⟩ := inv_ex iw0
 obtain ⟨iv1, ih1⟩ := inv_ex iw1
 obtain ⟨iv2, ih2⟩ := inv_ex iw2
 exact trip_fac u12 iw2 e262 e263 e264
theorem pD_f7 {z0 z1 z2 z3 z4 z5 z6 z7 z8 z9 z10 z11 z12 z13 z14 z15 z16 z31 z32 z33 z34 z35 z36 z37 z38 z39 z40 z41 z42 z43 z44 z54 z59 z60 z61 z157 z158 z159 z160 z245 z246 z247 z248 z249 z250 z251 z252 z253 z258 z259 z260 z261 z277 : Rat} : z7=z6*z0→z9=z8*z3→z10=z7+z9→z11=z6*z1→z12=z8*z4→z13=z11+z12→z14=z6*z2→z15=z8*z5→z16=z14+z15→z35=z34*z0→z37=z36*z31→z38=z35+z37→z39=z34*z1→z40=z36*z32→z41=z39+z40→z42=z34*z2→z43=z36*z33→z44=z42+z43→(z54=0↔((z10=0∧z13=0)∧z16=0))→z59=z10*fac [z10,z13,z16]→z60=z13*fac [z10,z13,z16]→z61=z16*fac [z10,z13,z16]→(z157=0↔((z38=0∧z41=0)∧z44=0))→z158=z38*fac [z38,z41,z44]→z159=z41*fac [z38,z41,z44]→z160=z44*fac [z38,z41,z44]→z245=z159*z61→z246=z160*z60→z247=z245-z246→z248=z160*z59→z249=z158*z61→z250=z248-z249→z251=z158*z60→z252=z159*z59→z253=z251-z252→(z258=0↔((z247=0∧z250=0)∧z253=0))→z259=z247*fac [z247,z250,z253]→z260=z250*fac [z247,z250,z253]→z261=z253*fac [z247,z250,z253]→(z277=0↔((z259=0∧z260=0)∧z261=0))→(¬ (z54=0))→(¬ (z157=0))→(¬ (z258=0))→¬ (z277=0) := by
 intro e7 e9 e10 e11 e12 e13 e14 e15 e16 e35 e37 e38 e39 e40 e41 e42 e43 e44 e54 e59 e60 e61 e157 e158 e159 e160 e245 e246 e247 e248 e249 e250 e251 e252 e253 e258 e259 e260 e261 e277 u3 u9 u13
 rw [e54] at u3
 rw [e157] at u9
 rw [e258] at u13
 rw [e277]
 clear  e54 e157 e258 e277
 have iw0 := fac3_ne u3
 generalize fac [z10, z13, z16] = g0 at *
 have iw1 := fac3_ne u9
 generalize fac [z38, z41, z44] = g1 at *
 have iw2 := fac3_ne u13
 generalize fac [z247, z250, z253] = g2 at *
 obtain ⟨iv0, ih0⟩ := inv_ex iw0
 obtain ⟨iv1, ih1⟩ := inv_ex iw1
 obtain ⟨iv2, ih2⟩ := inv_ex iw2
 exact trip_fac u13 iw2 e259 e260 e261
theorem pD_f8 {z0 z1 z2 z3 z4 z5 z6 z7 z8 z9 z10 z11 z12 z13 z14 z15 z16 z17 z18 z19 z20 z21 z22 z23 z24 z25 z26 z27 z28 z29 z30 z49 z54 z59 z60 z61 z66 z67 z68 z69 z70 z71 z72 z73 z74 z75 z76 z77 z78 z83 z84 z85 z86 z87 z88 z89 z94 z95 z96 z97 z98 z99 z100 z101 z102 z103 z104 z105 z106 z111 z112 z113 z114 z120 z121 z122 z128 z129 z130 z131 z132 z133 z134 z135 z136 z137 z138 z139 z144 z328 z329 z330 z331 z332 z333 z334 z335 z336 z337 z338 z339 z340 z341 z342 : Rat} : z7=z6*z0→z9=z8*z3→z10=z7+z9→z11=z6*z1→z12=z8*z4→z13=z11+z12→z14=z6*z2→z15=z8*z5→z16=z14+z15→z21=z20*z0→z23=z22*z17→z24=z21+z23→z25=z20*z1→z26=z22*z18→z27=z25+z26→z28=z20*z2→z29=z22*z19→z30=z28+z29→(z49=0↔((z3=0∧z4=0)∧z5=0))→(z54=0↔((z10=0∧z13=0)∧z16=0))→z59=z10*fac [z10,z13,z16]→z60=z13*fac [z10,z13,z16]→z61=z16*fac [z10,z13,z16]→(z66=0↔((z24=0∧z27=0)∧z30=0))→z67=z24*fac [z24,z27,z30]→z68=z27*fac [z24,z27,z30]→z69=z30*fac [z24,z27,z30]→z70=z60*z69→z71=z61*z68→z72=z70-z71→z73=z61*z67→z74=z59*z69→z75=z73-z74→z76=z59*z68→z77=z60*z67→z78=z76-z77→(z83=0↔((z72=0∧z75=0)∧z78=0))→z84=z72*fac [z72,z75,z78]→z85=z75*fac [z72,z75,z78]→z86=z78*fac [z72,z75,z78]→z87=z3*fac [z3,z4,z5]→z88=z4*fac [z3,z4,z5]→z89=z5*fac [z3,z4,z5]→(z94=0↔((z17=0∧z18=0)∧z19=0))→z95=z17*fac [z17,z18,z19]→z96=z18*fac [z17,z18,z19]→z97=z19*fac [z17,z18,z19]→z98=z88*z97→z99=z89*z96→z100=z98-z99→z101=z89*z95→z102=z87*z97→z103=z101-z102→z104=z87*z96→z105=z88*z95→z106=z104-z105→(z111=0↔((z100=0∧z103=0)∧z106=0))→z112=z100*fac [z100,z103,z106]→z113=z103*fac [z100,z103,z106]→z114=z106*fac [z100,z103,z106]→z120=z112*fac [z112,z113,z114]→z121=z113*fac [z112,z113,z114]→z122=z114*fac [z112,z113,z114]→z128=z84*fac [z84,z85,z86]→z129=z85*fac [z84,z85,z86]→z130=z86*fac [z84,z85,z86]→z131=z121*z130→z132=z122*z129→z133=z131-z132→z134=z122*z128→z135=z120*z130→z136=z134-z135→z137=z120*z129→z138=z121*z128→z139=z137-z138→(z144=0↔((z133=0∧z136=0)∧z139=0))→z328=z4*z19→z329=z5*z18→z330=z328-z329→z331=z0*z330→z332=z3*z19→z333=z5*z17→z334=z332-z333→z335=z1*z334→z336=-z335→z337=z3*z18→z338=z4*z17→z339=z337-z338→z340=z2*z339→z341=z331+z336→z342=z341+z340→(¬ (z49=0))→(¬ (z94=0))→(¬ (z111=0))→(¬ (z54=0))→(¬ (z66=0))→(¬ (z83=0))→(¬ (z144=0))→¬ (z342=0) := by
 intro e7 e9 e10 e11 e12 e13 e14 e15 e16 e21 e23 e24 e25 e26 e27 e28 e29 e30 e49 e54 e59 e60 e61 e66 e67 e68 e69 e70 e71 e72 e73 e74 e75 e76 e77 e78 e83 e84 e85 e86 e87 e88 e89 e94 e95 e96 e97 e98 e99 e100 e101 e102 e103 e104 e105 e106 e111 e112 e113 e114 e120 e121 e122 e128 e129 e130 e131 e132 e133 e134 e135 e136 e137 e138 e139 e144 e328 e329 e330 e331 e332 e333 e334 e335 e336 e337 e338 e339 e340 e341 e342 u0 u1 u2 u3 u4 u5 u6
 rw [e49] at u0
 rw [e94] at u1
 rw [e111] at u2
 rw [e54] at u3
 rw [e66] at u4
 rw [e83] at u5
 rw [e144] at u6
 clear  e49 e54 e66 e83 e94 e111 e144
 have iw0 := fac3_ne u3
 generalize fac [z10, z13, z16] = g0 at *
 have iw1 := fac3_ne u4
 generalize fac [z24, z27, z30] = g1 at *
 have iw2 := fac3_ne u5
 generalize fac [z72, z75, z78] = g2 at *
 have iw3 := fac3_ne u0
 generalize fac [z3, z4, z5] = g3 at *
 have iw4 := fac3_ne u1
 generalize fac [z17, z18, z19] = g4 at *
 have iw5 := fac3_ne u2
 generalize fac [z100, z103, z106] = g5 at *
 have k6_112 : fac [z112, z113, z114] = 0 → z112 = 0 := fac_zero (by simp)
 have k6_113 : fac [z112, z113, z114] = 0 → z113 = 0 := fac_zero (by simp)
 have k6_114 : fac [z112, z113, z114] = 0 → z114 = 0 := fac_zero (by simp)
 generalize fac [z112, z113, z114] = g6 at *
 have k7_84 : fac [z84, z85, z86] = 0 → z84 = 0 := fac_zero (by simp)
 have k7_85 : fac [z84, z85, z86] = 0 → z85 = 0 := fac_zero (by simp)
 have k7_86 : fac [z84, z85, z86] = 0 → z86 = 0 := fac_zero (by simp)
 generalize fac [z84, z85, z86] = g7 at *
 obtain ⟨iv0, ih0⟩ := inv_ex iw0
 obtain ⟨iv1, ih1⟩ := inv_ex iw1
 obtain ⟨iv2, ih2⟩ := inv_ex iw2
 obtain ⟨iv3, ih3⟩ := inv_ex iw3
 obtain ⟨iv4, ih4⟩ := inv_ex iw4
 obtain ⟨iv5, ih5⟩ := inv_ex iw5
 have nx6 : ¬ ((z112 = 0 ∧ z113 = 0) ∧ z114 = 0) := by
  rintro ⟨⟨hx112, hx113⟩, hx114⟩
  first | grind | (subst_vars; grind)
 have iw6 : g6 ≠ 0 := fun hg => nx6 ⟨⟨(k6_112 hg), (k6_113 hg)⟩, (k6_114 hg)⟩
 obtain ⟨iv6, ih6⟩ : ∃ i, g6 * i = 1 := ⟨g6⁻¹, Rat.mul_inv_cancel _ iw6⟩
 have nx7 : ¬ ((z84 = 0 ∧ z85 = 0) ∧ z86 = 0) := by
  rintro ⟨⟨hx84, hx85⟩, hx86⟩
  first | grind | (subst_vars; grind)
 have iw7 : g7 ≠ 0 := fun hg => nx7 ⟨⟨(k7_84 hg), (k7_85 hg)⟩, (k7_86 hg)⟩
 obtain ⟨iv7, ih7⟩ : ∃ i, g7 * i = 1 := ⟨g7⁻¹, Rat.mul_inv_cancel _ iw7⟩
 clear k6_112 k6_113 k6_114 k7_84 k7_85 k7_86
 subst_vars; grind
theorem pD_f9 {z0 z1 z2 z17 z18 z19 z20 z21 z22 z23 z24 z25 z26 z27 z28 z29 z30 z31 z32 z33 z34 z35 z36 z37 z38 z39 z40 z41 z42 z43 z44 z66 z67 z68 z69 z94 z95 z96 z97 z152 z157 z158 z159 z160 z161 z162 z163 z164 z165 z166 z167 z168 z169 z174 z175 z176 z177 z178 z179 z180 z181 z182 z183 z184 z185 z186 z187 z188 z189 z194 z195 z196 z197 z203 z204 z205 z211 z212 z213 z214 z215 z216 z217 z218 z219 z220 z221 z222 z227 z298 z299 z300 z302 z303 z304 z307 z308 z309 z343 z344 z345 z346 z347 z348 : Rat} : z21=z20*z0→z23=z22*z17→z24=z21+z23→z25=z20*z1→z26=z22*z18→z27=z25+z26→z28=z20*z2→z29=z22*z19→z30=z28+z29→z35=z34*z0→z37=z36*z31→z38=z35+z37→z39=z34*z1→z40=z36*z32→z41=z39+z40→z42=z34*z2→z43=z36*z33→z44=z42+z43→(z66=0↔((z24=0∧z27=0)∧z30=0))→z67=z24*fac [z24,z27,z30]→z68=z27*fac [z24,z27,z30]→z69=z30*fac [z24,z27,z30]→(z94=0↔((z17=0∧z18=0)∧z19=0))→z95=z17*fac [z17,z18,z19]→z96=z18*fac [z17,z18,z19]→z97=z19*fac [z17,z18,z19]→(z152=0↔((z31=0∧z32=0)∧z33=0))→(z157=0↔((z38=0∧z41=0)∧z44=0))→z158=z38*fac [z38,z41,z44]→z159=z41*fac [z38,z41,z44]→z160=z44*fac [z38,z41,z44]→z161=z68*z160→z162=z69*z159→z163=z161-z162→z164=z69*z158→z165=z67*z160→z166=z164-z165→z167=z67*z159→z168=z68*z158→z169=z167-z168→(z174=0↔((z163=0∧z166=0)∧z169=0))→z175=z163*fac [z163,z166,z169]→z176=z166*fac [z163,z166,z169]→z177=z169*fac [z163,z166,z169]→z178=z31*fac [z31,z32,z33]→z179=z32*fac [z31,z32,z33]→z180=z33*fac [z31,z32,z33]→z181=z96*z180→z182=z97*z179→z183=z181-z182→z184=z97*z178→z185=z95*z180→z186=z184-z185→z187=z95*z179→z188=z96*z178→z189=z187-z188→(z194=0↔((z183=0∧z186=0)∧z189=0))→z195=z183*fac [z183,z186,z189]→z196=z186*fac [z183,z186,z189]→z197=z189*fac [z183,z186,z189]→z203=z195*fac [z195,z196,z197]→z204=z196*fac [z195,z196,z197]→z205=z197*fac [z195,z196,z197]→z211=z175*fac [z175,z176,z177]→z212=z176*fac [z175,z176,z177]→z213=z177*fac [z175,z176,z177]→z214=z204*z213→z215=z205*z212→z216=z214-z215→z217=z205*z211→z218=z203*z213→z219=z217-z218→z220=z203*z212→z221=z204*z211→z222=z220-z221→(z227=0↔((z216=0∧z219=0)∧z222=0))→z298=z18*z33→z299=z19*z32→z300=z298-z299→z302=z17*z33→z303=z19*z31→z304=z302-z303→z307=z17*z32→z308=z18*z31→z309=z307-z308→z343=z0*z300→z344=z1*z304→z345=-z344→z346=z2*z309→z347=z343+z345→z348=z347+z346→(¬ (z94=0))→(¬ (z66=0))→(¬ (z152=0))→(¬ (z194=0))→(¬ (z157=0))→(¬ (z174=0))→(¬ (z227=0))→¬ (z348=0) := by
 intro e21 e23 e24 e25 e26 e27 e28 e29 e30 e35 e37 e38 e39 e40 e41 e42 e43 e44 e66 e67 e68 e69 e94 e95 e96 e97 e152 e157 e158 e159 e160 e161 e162 e163 e164 e165 e166 e167 e168 e169 e174 e175 e176 e177 e178 e179 e180 e181 e182 e183 e184 e185 e186 e187 e188 e189 e194 e195 e196 e197 e203 e204 e205 e211 e212 e213 e214 e215 e216 e217 e218 e219 e220 e221 e222 e227 e298 e299 e300 e302 e303 e304 e307 e308 e309 e343 e344 e345 e346 e347 e348 u1 u4 u7 u8 u9 u10 u11
 rw [e94] at u1
 rw [e66] at u4
 rw [e152] at u7
 rw [e194] at u8
 rw [e157] at u9
 rw [e174] at u10
 rw [e227] at u11
 clear  e66 e94 e152 e157 e174 e194 e227
 have iw0 := fac3_ne u4
 generalize fac [z24, z27, z30] = g0 at *
 have iw1 := fac3_ne u1
 generalize fac [z17, z18, z19] = g1 at *
 have iw2 := fac3_ne u9
 generalize fac [z38, z41, z44] = g2 at *
 have iw3 := fac3_ne u10
 generalize fac [z163, z166, z169] = g3 at *
 have iw4 := fac3_ne u7
 generalize fac [z31, z32, z33] = g4 at *
 have iw5 := fac3_ne u8
 generalize fac [z183, z186, z189] = g5 at *
 have k6_195 : fac [z195, z196, z197] = 0 → z195 = 0 := fac_zero (by simp)
 have k6_196 : fac [z195, z196, z197] = 0 → z196 = 0 := fac_zero (by simp)
 have k6_197 : fac [z195, z196, z197] = 0 → z197 = 0 := fac_zero (by simp)
 generalize fac [z195, z196, z197] = g6 at *
 have k7_175 : fac [z175, z176, z177] = 0 → z175 = 0 := fac_zero (by simp)
 have k7_176 : fac [z175, z176, z177] = 0 → z176 = 0 := fac_zero (by simp)
 have k7_177 : fac [z175, z176, z177] = 0 → z177 = 0 := fac_zero (by simp)
 generalize fac [z175, z176, z177] = g7 at *
 obtain ⟨iv0, ih0⟩ := inv_ex iw0
 obtain ⟨iv1, ih1⟩ := inv_ex iw1
 obtain ⟨iv2, ih2⟩ := inv_ex iw2
 obtain ⟨iv3, ih3⟩ := inv_ex iw3
 obtain ⟨iv4, ih4⟩ := inv_ex iw4
 obtain ⟨iv5, ih5⟩ := inv_ex iw5
 have nx6 : ¬ ((z195 = 0 ∧ z196 = 0) ∧ z197 = 0) := by
  rintro ⟨⟨hx195, hx196⟩, hx197⟩
  first | grind | (subst_vars; grind)
 have iw6 : g6 ≠ 0 := fun hg => nx6 ⟨⟨(k6_195 hg), (k6_196 hg)⟩, (k6_197 hg)⟩
 obtain ⟨iv6, ih6⟩ : ∃ i, g6 * i = 1 := ⟨g6⁻¹, Rat.mul_inv_cancel _ iw6⟩
 have nx7 : ¬ ((z175 = 0 ∧ z176 = 0) ∧ z177 = 0) := by
  rintro ⟨⟨hx175, hx176⟩, hx177⟩
  first | grind | (subst_vars; grind)
 have iw7 : g7 ≠ 0 := fun hg => nx7 ⟨⟨(k7_175 hg), (k7_176 hg)⟩, (k7_177 hg)⟩
 obtain ⟨iv7, ih7⟩ : ∃ i, g7 * i = 1 := ⟨g7⁻¹, Rat.mul_inv_cancel _ iw7⟩
 clear k6_195 k6_196 k6_197 k7_175 k7_176 k7_177
 subst_vars; grind
theorem pD_f10 {z0 z1 z2 z3 z4 z5 z6 z7 z8 z9 z10 z11 z12 z13 z14 z15 z16 z31 z32 z33 z34 z35 z36 z37 z38 z39 z40 z41 z42 z43 z44 z49 z54 z59 z60 z61 z87 z88 z89 z152 z157 z158 z159 z160 z178 z179 z180 z231 z232 z233 z234 z235 z236 z237 z238 z239 z244 z245 z246 z247 z248 z249 z250 z251 z252 z253 z258 z259 z260 z261 z262 z263 z264 z270 z271 z272 z278 z279 z280 z281 z282 z283 z284 z285 z286 z287 z288 z289 z294 z349 z350 z351 z352 z353 z354 z355 z356 z357 z358 z359 z360 z361 z362 z363 : Rat} : z7=z6*z0→z9=z8*z3→z10=z7+z9→z11=z6*z1→z12=z8*z4→z13=z11+z12→z14=z6*z2→z15=z8*z5→z16=z14+z15→z35=z34*z0→z37=z36*z31→z38=z35+z37→z39=z34*z1→z40=z36*z32→z41=z39+z40→z42=z34*z2→z43=z36*z33→z44=z42+z43→(z49=0↔((z3=0∧z4=0)∧z5=0))→(z54=0↔((z10=0∧z13=0)∧z16=0))→z59=z10*fac [z10,z13,z16]→z60=z13*fac [z10,z13,z16]→z61=z16*fac [z10,z13,z16]→z87=z3*fac [z3,z4,z5]→z88=z4*fac [z3,z4,z5]→z89=z5*fac [z3,z4,z5]→(z152=0↔((z31=0∧z32=0)∧z33=0))→(z157=0↔((z38=0∧z41=0)∧z44=0))→z158=z38*fac [z38,z41,z44]→z159=z41*fac [z38,z41,z44]→z160=z44*fac [z38,z41,z44]→z178=z31*fac [z31,z32,z33]→z179=z32*fac [z31,z32,z33]→z180=z33*fac [z31,z32,z33]→z231=z179*z89→z232=z180*z88→z233=z231-z232→z234=z180*z87→z235=z178*z89→z236=z234-z235→z237=z178*z88→z238=z179*z87→z239=z237-z238→(z244=0↔((z233=0∧z236=0)∧z239=0))→z245=z159*z61→z246=z160*z60→z247=z245-z246→z248=z160*z59→z249=z158*z61→z250=z248-z249→z251=z158*z60→z252=z159*z59→z253=z251-z252→(z258=0↔((z247=0∧z250=0)∧z253=0))→z259=z247*fac [z247,z250,z253]→z260=z250*fac [z247,z250,z253]→z261=z253*fac [z247,z250,z253]→z262=z233*fac [z233,z236,z239]→z263=z236*fac [z233,z236,z239]→z264=z239*fac [z233,z236,z239]→z270=z262*fac [z262,z263,z264]→z271=z263*fac [z262,z263,z264]→z272=z264*fac [z262,z263,z264]→z278=z259*fac [z259,z260,z261]→z279=z260*fac [z259,z260,z261]→z280=z261*fac [z259,z260,z261]→z281=z271*z280→z282=z272*z279→z283=z281-z282→z284=z272*z278→z285=z270*z280→z286=z284-z285→z287=z270*z279→z288=z271*z278→z289=z287-z288→(z294=0↔((z283=0∧z286=0)∧z289=0))→z349=z32*z5→z350=z33*z4→z351=z349-z350→z352=z0*z351→z353=z31*z5→z354=z33*z3→z355=z353-z354→z356=z1*z355→z357=-z356→z358=z31*z4→z359=z32*z3→z360=z358-z359→z361=z2*z360→z362=z352+z357→z363=z362+z361→(¬ (z49=0))→(¬ (z54=0))→(¬ (z152=0))→(¬ (z157=0))→(¬ (z244=0))→(¬ (z258=0))→(¬ (z294=0))→¬ (z363=0) := by
 intro e7 e9 e10 e11 e12 e13 e14 e15 e16 e35 e37 e38 e39 e40 e41 e42 e43 e44 e49 e54 e59 e60 e61 e87 e88 e89 e152 e157 e158 e159 e160 e178 e179 e180 e231 e232 e233 e234 e235 e236 e237 e238 e239 e244 e245 e246 e247 e248 e249 e250 e251 e252 e253 e258 e259 e260 e261 e262 e263 e264 e270 e271 e272 e278 e279 e280 e281 e282 e283 e284 e285 e286 e287 e288 e289 e294 e349 e350 e351 e352 e353 e354 e355 e356 e357 e358 e359 e360 e361 e362 e363 u0 u3 u7 u9 u12 u13 u14
 rw [e49] at u0
 rw [e54] at u3
 rw [e152] at u7
 rw [e157] at u9
 rw [e244] at u12
 rw [e258] at u13
 rw [e294] at u14
 clear  e49 e54 e152 e157 e244 e258 e294
 have iw0 := fac3_ne u3
 generalize fac [z10, z13, z16] = g0 at *
 have iw1 := fac3_ne u0
 generalize fac [z3, z4, z5] = g1 at *
 have iw2 := fac3_ne u9
 generalize fac [z38, z41, z44] = g2 at *
 have iw3 := fac3_ne u7
 generalize fac [z31, z32, z33] = g3 at *
 have iw4 := fac3_ne u13
 generalize fac [z247, z250, z253] = g4 at *
 have iw5 := fac3_ne u12
 generalize fac [z233, z236, z239] = g5 at *
 have k6_262 : fac [z262, z263, z264] = 0 → z262 = 0 := fac_zero (by simp)
 have k6_263 : fac [z262, z263, z264] = 0 → z263 = 0 := fac_zero (by simp)
 have k6_264 : fac [z262, z263, z264] = 0 → z264 = 0 := fac_zero (by simp)
 generalize fac [z262, z263, z264] = g6 at *
 have k7_259 : fac [z259, z260, z261] = 0 → z259 = 0 := fac_zero (by simp)
 have k7_260 : fac [z259, z260, z261] = 0 → z260 = 0 := fac_zero (by simp)
 have k7_261 : fac [z259, z260, z261] = 0 → z261 = 0 := fac_zero (by simp)
 generalize fac [z259, z260, z261] = g7 at *
 obtain ⟨iv0, ih0⟩ := inv_ex iw0
 obtain ⟨iv1, ih1⟩ := inv_ex iw1
 obtain ⟨iv2, ih2⟩ := inv_ex iw2
 obtain ⟨iv3, ih3⟩ := inv_ex iw3
 obtain ⟨iv4, ih4⟩ := inv_ex iw4
 obtain ⟨iv5, ih5⟩ := inv_ex iw5
 have nx6 : ¬ ((z262 = 0 ∧ z263 = 0) ∧ z264 = 0) := by
  rintro ⟨⟨hx262, hx263⟩, hx264⟩
  first | grind | (subst_vars; grind)
 have iw6 : g6 ≠ 0 := fun hg => nx6 ⟨⟨(k6_262 hg), (k6_263 hg)⟩, (k6_264 hg)⟩
 obtain ⟨iv6, ih6⟩ : ∃ i, g6 * i = 1 := ⟨g6⁻¹, Rat.mul_inv_cancel _ iw6⟩
 have nx7 : ¬ ((z259 = 0 ∧ z260 = 0) ∧ z261 = 0) := by
  rintro ⟨⟨hx259, hx260⟩, hx261⟩
  first | grind | (subst_vars; grind)
 have iw7 : g7 ≠ 0 := fun hg => nx7 ⟨⟨(k7_259 hg), (k7_260 hg)⟩, (k7_261 hg)⟩
 obtain ⟨iv7, ih7⟩ : ∃ i, g7 * i = 1 := ⟨g7⁻¹, Rat.mul_inv_cancel _ iw7⟩
 clear k6_262 k6_263 k6_264 k7_259 k7_260 k7_261
 subst_vars; grind
theorem pD_f11 {z0 z1 z2 z3 z4 z5 z6 z7 z8 z9 z10 z11 z12 z13 z14 z15 z16 z17 z18 z19 z20 z21 z22 z23 z24 z25 z26 z27 z28 z29 z30 z31 z32 z33 z34 z35 z36 z37 z38 z39 z40 z41 z42 z43 z44 z49 z54 z59 z60 z61 z66 z67 z68 z69 z70 z71 z72 z73 z74 z75 z76 z77 z78 z83 z84 z85 z86 z87 z88 z89 z94 z95 z96 z97 z98 z99 z100 z101 z102 z103 z104 z105 z106 z111 z112 z113 z114 z120 z121 z122 z128 z129 z130 z131 z132 z133 z134 z135 z136 z137 z138 z139 z144 z145 z146 z147 z152 z157 z158 z159 z160 z161 z162 z163 z164 z165 z166 z167 z168 z169 z174 z175 z176 z177 z178 z179 z180 z181 z182 z183 z184 z185 z186 z187 z188 z189 z194 z195 z196 z197 z203 z204 z205 z211 z212 z213 z214 z215 z216 z217 z218 z219 z220 z221 z222 z227 z228 z229 z230 z231 z232 z233 z234 z235 z236 z237 z238 z239 z244 z245 z246 z247 z248 z249 z250 z251 z252 z253 z258 z259 z260 z261 z262 z263 z264 z270 z271 z272 z278 z279 z280 z281 z282 z283 z284 z285 z286 z287 z288 z289 z294 z295 z296 z297 z364 z365 z366 z367 z368 z369 z370 z371 z372 z373 z374 z375 z376 z377 z378 : Rat} : z7=z6*z0→z9=z8*z3→z10=z7+z9→z11=z6*z1→z12=z8*z4→z13=z11+z12→z14=z6*z2→z15=z8*z5→z16=z14+z15→z21=z20*z0→z23=z22*z17→z24=z21+z23→z25=z20*z1→z26=z22*z18→z27=z25+z26→z28=z20*z2→z29=z22*z19→z30=z28+z29→z35=z34*z0→z37=z36*z31→z38=z35+z37→z39=z34*z1→z40=z36*z32→z41=z39+z40→z42=z34*z2→z43=z36*z33→z44=z42+z43→(z49=0↔((z3=0∧z4=0)∧z5=0))→(z54=0↔((z10=0∧z13=0)∧z16=0))→z59=z10*fac [z10,z13,z16]→z60=z13*fac [z10,z13,z16]→z61=z16*fac [z10,z13,z16]→(z66=0↔((z24=0∧z27=0)∧z30=0))→z67=z24*fac [z24,z27,z30]→z68=z27*fac [z24,z27,z30]→z69=z30*fac [z24,z27,z30]→z70=z60*z69→z71=z61*z68→z72=z70-z71→z73=z61*z67→z74=z59*z69→z75=z73-z74→z76=z59*z68→z77=z60*z67→z78=z76-z77→(z83=0↔((z72=0∧z75=0)∧z78=0))→z84=z72*fac [z72,z75,z78]→z85=z75*fac [z72,z75,z78]→z86=z78*fac [z72,z75,z78]→z87=z3*fac [z3,z4,z5]→z88=z4*fac [z3,z4,z5]→z89=z5*fac [z3,z4,z5]→(z94=0↔((z17=0∧z18=0)∧z19=0))→z95=z17*fac [z17,z18,z19]→z96=z18*fac [z17,z18,z19]→z97=z19*fac [z17,z18,z19]→z98=z88*z97→z99=z89*z96→z100=z98-z99→z101=z89*z95→z102=z87*z97→z103=z101-z102→z104=z87*z96→z105=z88*z95→z106=z104-z105→(z111=0↔((z100=0∧z103=0)∧z106=0))→z112=z100*fac [z100,z103,z106]→z113=z103*fac [z100,z103,z106]→z114=z106*fac [z100,z103,z106]→z120=z112*fac [z112,z113,z114]→z121=z113*fac [z112,z113,z114]→z122=z114*fac [z112,z113,z114]→z128=z84*fac [z84,z85,z86]→z129=z85*fac [z84,z85,z86]→z130=z86*fac [z84,z85,z86]→z131=z121*z130→z132=z122*z129→z133=z131-z132→z134=z122*z128→z135=z120*z130→z136=z134-z135→z137=z120*z129→z138=z121*z128→z139=z137-z138→(z144=0↔((z133=0∧z136=0)∧z139=0))→z145=z133*fac [z133,z136,z139]→z146=z136*fac [z133,z136,z139]→z147=z139*fac [z133,z136,z139]→(z152=0↔((z31=0∧z32=0)∧z33=0))→(z157=0↔((z38=0∧z41=0)∧z44=0))→z158=z38*fac [z38,z41,z44]→z159=z41*fac [z38,z41,z44]→z160=z44*fac [z38,z41,z44]→z161=z68*z160→z162=z69*z159→z163=z161-z162→z164=z69*z158→z165=z67*z160→z166=z164-z165→z167=z67*z159→z168=z68*z158→z169=z167-z168→(z174=0↔((z163=0∧z166=0)∧z169=0))→z175=z163*fac [z163,z166,z169]→z176=z166*fac [z163,z166,z169]→z177=z169*fac [z163,z166,z169]→z178=z31*fac [z31,z32,z33]→z179=z32*fac [z31,z32,z33]→z180=z33*fac [z31,z32,z33]→z181=z96*z180→z182=z97*z179→z183=z181-z182→z184=z97*z178→z185=z95*z180→z186=z184-z185→z187=z95*z179→z188=z96*z178→z189=z187-z188→(z194=0↔((z183=0∧z186=0)∧z189=0))→z195=z183*fac [z183,z186,z189]→z196=z186*fac [z183,z186,z189]→z197=z189*fac [z183,z186,z189]→z203=z195*fac [z195,z196,z197]→z204=z196*fac [z195,z196,z197]→z205=z197*fac [z195,z196,z197]→z211=z175*fac [z175,z176,z177]→z212=z176*fac [z175,z176,z177]→z213=z177*fac [z175,z176,z177]→z214=z204*z213→z215=z205*z212→z216=z214-z215→z217=z205*z211→z218=z203*z213→z219=z217-z218→z220=z203*z212→z221=z204*z211→z222=z220-z221→(z227=0↔((z216=0∧z219=0)∧z222=0))→z228=z216*fac [z216,z219,z222]→z229=z219*fac [z216,z219,z222]→z230=z222*fac [z216,z219,z222]→z231=z179*z89→z232=z180*z88→z233=z231-z232→z234=z180*z87→z235=z178*z89→z236=z234-z235→z237=z178*z88→z238=z179*z87→z239=z237-z238→(z244=0↔((z233=0∧z236=0)∧z239=0))→z245=z159*z61→z246=z160*z60→z247=z245-z246→z248=z160*z59→z249=z158*z61→z250=z248-z249→z251=z158*z60→z252=z159*z59→z253=z251-z252→(z258=0↔((z247=0∧z250=0)∧z253=0))→z259=z247*fac [z247,z250,z253]→z260=z250*fac [z247,z250,z253]→z261=z253*fac [z247,z250,z253]→z262=z233*fac [z233,z236,z239]→z263=z236*fac [z233,z236,z239]→z264=z239*fac [z233,z236,z239]→z270=z262*fac [z262,z263,z264]→z271=z263*fac [z262,z263,z264]→z272=z264*fac [z262,z263,z264]→z278=z259*fac [z259,z260,z261]→z279=z260*fac [z259,z260,z261]→z280=z261*fac [z259,z260,z261]→z281=z271*z280→z282=z272*z279→z283=z281-z282→z284=z272*z278→z285=z270*z280→z286=z284-z285→z287=z270*z279→z288=z271*z278→z289=z287-z288→(z294=0↔((z283=0∧z286=0)∧z289=0))→z295=z283*fac [z283,z286,z289]→z296=z286*fac [z283,z286,z289]→z297=z289*fac [z283,z286,z289]→z364=z229*z297→z365=z230*z296→z366=z364-z365→z367=z145*z366→z368=z228*z297→z369=z230*z295→z370=z368-z369→z371=z146*z370→z372=-z371→z373=z228*z296→z374=z229*z295→z375=z373-z374→z376=z147*z375→z377=z367+z372→z378=z377+z376→(¬ (z49=0))→(¬ (z94=0))→(¬ (z111=0))→(¬ (z54=0))→(¬ (z66=0))→(¬ (z83=0))→(¬ (z144=0))→(¬ (z152=0))→(¬ (z194=0))→(¬ (z157=0))→(¬ (z174=0))→(¬ (z227=0))→(¬ (z244=0))→(¬ (z258=0))→(¬ (z294=0))→z378=0 := by
 intro e7 e9 e10 e11 e12 e13 e14 e15 e16 e21 e23 e24 e25 e26 e27 e28 e29 e30 e35 e37 e38 e39 e40 e41 e42 e43 e44 e49 e54 e59 e60 e61 e66 e67 e68 e69 e70 e71 e72 e73 e74 e75 e76 e77 e78 e83 e84 e85 e86 e87 e88 e89 e94 e95 e96 e97 e98 e99 e100 e101 e102 e103 e104 e105 e106 e111 e112 e113 e114 e120 e121 e122 e128 e129 e130 e131 e132 e133 e134 e135 e136 e137 e138 e139 e144 e145 e146 e147 e152 e157 e158 e159 e160 e161 e162 e163 e164 e165 e166 e167 e168 e169 e174 e175 e176 e177 e178 e179 e180 e181 e182 e183 e184 e185 e186 e187 e188 e189 e194 e195 e196 e197 e203 e204 e205 e211 e212 e213 e214 e215 e216 e217 e218 e219 e220 e221 e222 e227 e228 e229 e230 e231 e232 e233 e234 e235 e236 e237 e238 e239 e244 e245 e246 e247 e248 e249 e250 e251 e252 e253 e258 e259 e260 e261 e262 e263 e264 e270 e271 e272 e278 e279 e280 e281 e282 e283 e284 e285 e286 e287 e288 e289 e294 e295 e296 e297 e364 e365 e366 e367 e368 e369 e370 e371 e372 e373 e374 e375 e376 e377 e378 u0 u1 u2 u3 u4 u5 u6 u7 u8 u9 u10 u11 u12 u13 u14
 clear u0 u1 u2 u3 u4 u5 u6 u7 u8 u9 u10 u11 u12 u13 u14
 clear e49 e54 e66 e83 e94 e111 e144 e152 e157 e174 e194 e227 e244 e258 e294
 generalize fac [z10, z13, z16] = g0 at *
 generalize fac [z24, z27, z30] = g1 at *
 generalize fac [z72, z75, z78] = g2 at *
 generalize fac [z3, z4, z5] = g3 at *
 generalize fac [z17, z18, z19] = g4 at *
 generalize fac [z100, z103, z106] = g5 at *
 generalize fac [z112, z113, z114] = g6 at *
 generalize fac [z84, z85, z86] = g7 at *
 generalize fac [z133, z136, z139] = g8 at *
 generalize fac [z38, z41, z44] = g9 at *
 generalize fac [z163, z166, z169] = g10 at *
 generalize fac [z31, z32, z33] = g11 at *
 generalize fac [z183, z186, z189] = g12 at *
 generalize fac [z195, z196, z197] = g13 at *
 generalize fac [z175, z176, z177] = g14 at *
 generalize fac [z216, z219, z222] = g15 at *
 generalize fac [z247, z250, z253] = g16 at *
 generalize fac [z233, z236, z239] = g17 at *
 generalize fac [z262, z263, z264] = g18 at *
 generalize fac [z259, z260, z261] = g19 at *
 generalize fac [z283, z286, z289] = g20 at *
 have t10 := pl_1 z10
 obtain ⟨s0, hs0⟩ : ∃ s, s = 1 * g0 := ⟨_, rfl⟩
 have t59 := pl_8 t10 e59 hs0
 have t13 := pl_1 z13
 have t60 := pl_8 t13 e60 hs0
 have t16 := pl_1 z16
 have t61 := pl_8 t16 e61 hs0
 have t24 := pl_1 z24
 obtain ⟨s1, hs1⟩ : ∃ s, s = 1 * g1 := ⟨_, rfl⟩
 have t67 := pl_8 t24 e67 hs1
 have t27 := pl_1 z27
 have t68 := pl_8 t27 e68 hs1
 have t30 := pl_1 z30
 have t69 := pl_8 t30 e69 hs1
 obtain ⟨s2, hs2⟩ : ∃ s, s = s0 * s1 := ⟨_, rfl⟩
 obtain ⟨p70, hp70⟩ : ∃ p, p = z13 * z30 := ⟨_, rfl⟩
 have t70 := pl_m t60 t69 e70 hp70 hs2
 obtain ⟨p71, hp71⟩ : ∃ p, p = z16 * z27 := ⟨_, rfl⟩
 have t71 := pl_m t61 t68 e71 hp71 hs2
 obtain ⟨p72, hp72⟩ : ∃ p, p = p70 - p71 := ⟨_, rfl⟩
 have t72 := pl_s t70 t71 e72 hp72
 obtain ⟨p73, hp73⟩ : ∃ p, p = z16 * z24 := ⟨_, rfl⟩
 have t73 := pl_m t61 t67 e73 hp73 hs2
 obtain ⟨p74, hp74⟩ : ∃ p, p = z10 * z30 := ⟨_, rfl⟩
 have t74 := pl_m t59 t69 e74 hp74 hs2
 obtain ⟨p75, hp75⟩ : ∃ p, p = p73 - p74 := ⟨_, rfl⟩
 have t75 := pl_s t73 t74 e75 hp75
 obtain ⟨p76, hp76⟩ : ∃ p, p = z10 * z27 := ⟨_, rfl⟩
 have t76 := pl_m t59 t68 e76 hp76 hs2
 obtain ⟨p77, hp77⟩ : ∃ p, p = z13 * z24 := ⟨_, rfl⟩
 have t77 := pl_m t60 t67 e77 hp77 hs2
 obtain ⟨p78, hp78⟩ : ∃ p, p = p76 - p77 := ⟨_, rfl⟩
 have t78 := pl_s t76 t77 e78 hp78
 obtain ⟨s3, hs3⟩ : ∃ s, s = s2 * g2 := ⟨_, rfl⟩
 have t84 := pl_8 t72 e84 hs3
 have t85 := pl_8 t75 e85 hs3
 have t86 := pl_8 t78 e86 hs3
 have t3 := pl_1 z3
 obtain ⟨s4, hs4⟩ : ∃ s, s = 1 * g3 := ⟨_, rfl⟩
 have t87 := pl_8 t3 e87 hs4
 have t4 := pl_1 z4
 have t88 := pl_8 t4 e88 hs4
 have t5 := pl_1 z5
 have t89 := pl_8 t5 e89 hs4
 have t17 := pl_1 z17
 obtain ⟨s5, hs5⟩ : ∃ s, s = 1 * g4 := ⟨_, rfl⟩
 have t95 := pl_8 t17 e95 hs5
 have t18 := pl_1 z18
 have t96 := pl_8 t18 e96 hs5
 have t19 := pl_1 z19
 have t97 := pl_8 t19 e97 hs5
 obtain ⟨s6, hs6⟩ : ∃ s, s = s4 * s5 := ⟨_, rfl⟩
 obtain ⟨p98, hp98⟩ : ∃ p, p = z4 * z19 := ⟨_, rfl⟩
 have t98 := pl_m t88 t97 e98 hp98 hs6
 obtain ⟨p99, hp99⟩ : ∃ p, p = z5 * z18 := ⟨_, rfl⟩
 have t99 := pl_m t89 t96 e99 hp99 hs6
 obtain ⟨p100, hp100⟩ : ∃ p, p = p98 - p99 := ⟨_, rfl⟩
 have t100 := pl_s t98 t99 e100 hp100
 obtain ⟨p101, hp101⟩ : ∃ p, p = z5 * z17 := ⟨_, rfl⟩
 have t101 := pl_m t89 t95 e101 hp101 hs6
 obtain ⟨p102, hp102⟩ : ∃ p, p = z3 * z19 := ⟨_, rfl⟩
 have t102 := pl_m t87 t97 e102 hp102 hs6
 obtain ⟨p103, hp103⟩ : ∃ p, p = p101 - p102 := ⟨_, rfl⟩
 have t103 := pl_s t101 t102 e103 hp103
 obtain ⟨p104, hp104⟩ : ∃ p, p = z3 * z18 := ⟨_, rfl⟩
 have t104 := pl_m t87 t96 e104 hp104 hs6
 obtain ⟨p105, hp105⟩ : ∃ p, p = z4 * z17 := ⟨_, rfl⟩
 have t105 := pl_m t88 t95 e105 hp105 hs6
 obtain ⟨p106, hp106⟩ : ∃ p, p = p104 - p105 := ⟨_, rfl⟩
 have t106 := pl_s t104 t105 e106 hp106
 obtain ⟨s7, hs7⟩ : ∃ s, s = s6 * g5 := ⟨_, rfl⟩
 have t112 := pl_8 t100 e112 hs7
 have t113 := pl_8 t103 e113 hs7
 have t114 := pl_8 t106 e114 hs7
 obtain ⟨s8, hs8⟩ : ∃ s, s = s7 * g6 := ⟨_, rfl⟩
 have t120 := pl_8 t112 e120 hs8
 have t121 := pl_8 t113 e121 hs8
 have t122 := pl_8 t114 e122 hs8
 obtain ⟨s9, hs9⟩ : ∃ s, s = s3 * g7 := ⟨_, rfl⟩
 have t128 := pl_8 t84 e128 hs9
 have t129 := pl_8 t85 e129 hs9
 have t130 := pl_8 t86 e130 hs9
 obtain ⟨s10, hs10⟩ : ∃ s, s = s8 * s9 := ⟨_, rfl⟩
 obtain ⟨p131, hp131⟩ : ∃ p, p = p103 * p78 := ⟨_, rfl⟩
 have t131 := pl_m t121 t130 e131 hp131 hs10
 obtain ⟨p132, hp132⟩ : ∃ p, p = p106 * p75 := ⟨_, rfl⟩
 have t132 := pl_m t122 t129 e132 hp132 hs10
 obtain ⟨p133, hp133⟩ : ∃ p, p = p131 - p132 := ⟨_, rfl⟩
 have t133 := pl_s t131 t132 e133 hp133
 obtain ⟨p134, hp134⟩ : ∃ p, p = p106 * p72 := ⟨_, rfl⟩
 have t134 := pl_m t122 t128 e134 hp134 hs10
 obtain ⟨p135, hp135⟩ : ∃ p, p = p100 * p78 := ⟨_, rfl⟩
 have t135 := pl_m t120 t130 e135 hp135 hs10
 obtain ⟨p136, hp136⟩ : ∃ p, p = p134 - p135 := ⟨_, rfl⟩
 have t136 := pl_s t134 t135 e136 hp136
 obtain ⟨p137, hp137⟩ : ∃ p, p = p100 * p75 := ⟨_, rfl⟩
 have t137 := pl_m t120 t129 e137 hp137 hs10
 obtain ⟨p138, hp138⟩ : ∃ p, p = p103 * p72 := ⟨_, rfl⟩
 have t138 := pl_m t121 t128 e138 hp138 hs10
 obtain ⟨p139, hp139⟩ : ∃ p, p = p137 - p138 := ⟨_, rfl⟩
 have t139 := pl_s t137 t138 e139 hp139
 obtain ⟨s11, hs11⟩ : ∃ s, s = s10 * g8 := ⟨_, rfl⟩
 have t145 := pl_8 t133 e145 hs11
 have t146 := pl_8 t136 e146 hs11
 have t147 := pl_8 t139 e147 hs11
 have t38 := pl_1 z38
 obtain ⟨s12, hs12⟩ : ∃ s, s = 1 * g9 := ⟨_, rfl⟩
 have t158 := pl_8 t38 e158 hs12
 have t41 := pl_1 z41
 have t159 := pl_8 t41 e159 hs12
 have t44 := pl_1 z44
 have t160 := pl_8 t44 e160 hs12
 obtain ⟨s13, hs13⟩ : ∃ s, s = s1 * s12 := ⟨_, rfl⟩
 obtain ⟨p161, hp161⟩ : ∃ p, p = z27 * z44 := ⟨_, rfl⟩
 have t161 := pl_m t68 t160 e161 hp161 hs13
 obtain ⟨p162, hp162⟩ : ∃ p, p = z30 * z41 := ⟨_, rfl⟩
 have t162 := pl_m t69 t159 e162 hp162 hs13
 obtain ⟨p163, hp163⟩ : ∃ p, p = p161 - p162 := ⟨_, rfl⟩
 have t163 := pl_s t161 t162 e163 hp163
 obtain ⟨p164, hp164⟩ : ∃ p, p = z30 * z38 := ⟨_, rfl⟩
 have t164 := pl_m t69 t158 e164 hp164 hs13
 obtain ⟨p165, hp165⟩ : ∃ p, p = z24 * z44 := ⟨_, rfl⟩
 have t165 := pl_m t67 t160 e165 hp165 hs13
 obtain ⟨p166, hp166⟩ : ∃ p, p = p164 - p165 := ⟨_, rfl⟩
 have t166 := pl_s t164 t165 e166 hp166
 obtain ⟨p167, hp167⟩ : ∃ p, p = z24 * z41 := ⟨_, rfl⟩
 have t167 := pl_m t67 t159 e167 hp167 hs13
 obtain ⟨p168, hp168⟩ : ∃ p, p = z27 * z38 := ⟨_, rfl⟩
 have t168 := pl_m t68 t158 e168 hp168 hs13
 obtain ⟨p169, hp169⟩ : ∃ p, p = p167 - p168 := ⟨_, rfl⟩
 have t169 := pl_s t167 t168 e169 hp169
 obtain ⟨s14, hs14⟩ : ∃ s, s = s13 * g10 := ⟨_, rfl⟩
 have t175 := pl_8 t163 e175 hs14
 have t176 := pl_8 t166 e176 hs14
 have t177 := pl_8 t169 e177 hs14
 have t31 := pl_1 z31
 obtain ⟨s15, hs15⟩ : ∃ s, s = 1 * g11 := ⟨_, rfl⟩
 have t178 := pl_8 t31 e178 hs15
 have t32 := pl_1 z32
 have t179 := pl_8 t32 e179 hs15
 have t33 := pl_1 z33
 have t180 := pl_8 t33 e180 hs15
 obtain ⟨s16, hs16⟩ : ∃ s, s = s5 * s15 := ⟨_, rfl⟩
 obtain ⟨p181, hp181⟩ : ∃ p, p = z18 * z33 := ⟨_, rfl⟩
 have t181 := pl_m t96 t180 e181 hp181 hs16
 obtain ⟨p182, hp182⟩ : ∃ p, p = z19 * z32 := ⟨_, rfl⟩
 have t182 := pl_m t97 t179 e182 hp182 hs16
 obtain ⟨p183, hp183⟩ : ∃ p, p = p181 - p182 := ⟨_, rfl⟩
 have t183 := pl_s t181 t182 e183 hp183
 obtain ⟨p184, hp184⟩ : ∃ p, p = z19 * z31 := ⟨_, rfl⟩
 have t184 := pl_m t97 t178 e184 hp184 hs16
 obtain ⟨p185, hp185⟩ : ∃ p, p = z17 * z33 := ⟨_, rfl⟩
 have t185 := pl_m t95 t180 e185 hp185 hs16
 obtain ⟨p186, hp186⟩ : ∃ p, p = p184 - p185 := ⟨_, rfl⟩
 have t186 := pl_s t184 t185 e186 hp186
 obtain ⟨p187, hp187⟩ : ∃ p, p = z17 * z32 := ⟨_, rfl⟩
 have t187 := pl_m t95 t179 e187 hp187 hs16
 obtain ⟨p188, hp188⟩ : ∃ p, p = z18 * z31 := ⟨_, rfl⟩
 have t188 := pl_m t96 t178 e188 hp188 hs16
 obtain ⟨p189, hp189⟩ : ∃ p, p = p187 - p188 := ⟨_, rfl⟩
 have t189 := pl_s t187 t188 e189 hp189
 obtain ⟨s17, hs17⟩ : ∃ s, s = s16 * g12 := ⟨_, rfl⟩
 have t195 := pl_8 t183 e195 hs17
 have t196 := pl_8 t186 e196 hs17
 have t197 := pl_8 t189 e197 hs17
 obtain ⟨s18, hs18⟩ : ∃ s, s = s17 * g13 := ⟨_, rfl⟩
 have t203 := pl_8 t195 e203 hs18
 have t204 := pl_8 t196 e204 hs18
 have t205 := pl_8 t197 e205 hs18
 obtain ⟨s19, hs19⟩ : ∃ s, s = s14 * g14 := ⟨_, rfl⟩
 have t211 := pl_8 t175 e211 hs19
 have t212 := pl_8 t176 e212 hs19
 have t213 := pl_8 t177 e213 hs19
 obtain ⟨s20, hs20⟩ : ∃ s, s = s18 * s19 := ⟨_, rfl⟩
 obtain ⟨p214, hp214⟩ : ∃ p, p = p186 * p169 := ⟨_, rfl⟩
 have t214 := pl_m t204 t213 e214 hp214 hs20
 obtain ⟨p215, hp215⟩ : ∃ p, p = p189 * p166 := ⟨_, rfl⟩
 have t215 := pl_m t205 t212 e215 hp215 hs20
 obtain ⟨p216, hp216⟩ : ∃ p, p = p214 - p215 := ⟨_, rfl⟩
 have t216 := pl_s t214 t215 e216 hp216
 obtain ⟨p217, hp217⟩ : ∃ p, p = p189 * p163 := ⟨_, rfl⟩
 have t217 := pl_m t205 t211 e217 hp217 hs20
 obtain ⟨p218, hp218⟩ : ∃ p, p = p183 * p169 := ⟨_, rfl⟩
 have t218 := pl_m t203 t213 e218 hp218 hs20
 obtain ⟨p219, hp219⟩ : ∃ p, p = p217 - p218 := ⟨_, rfl⟩
 have t219 := pl_s t217 t218 e219 hp219
 obtain ⟨p220, hp220⟩ : ∃ p, p = p183 * p166 := ⟨_, rfl⟩
 have t220 := pl_m t203 t212 e220 hp220 hs20
 obtain ⟨p221, hp221⟩ : ∃ p, p = p186 * p163 := ⟨_, rfl⟩
 have t221 := pl_m t204 t211 e221 hp221 hs20
 obtain ⟨p222, hp222⟩ : ∃ p, p = p220 - p221 := ⟨_, rfl⟩
 have t222 := pl_s t220 t221 e222 hp222
 obtain ⟨s21, hs21⟩ : ∃ s, s = s20 * g15 := ⟨_, rfl⟩
 have t228 := pl_8 t216 e228 hs21
 have t229 := pl_8 t219 e229 hs21
 have t230 := pl_8 t222 e230 hs21
 obtain ⟨s22, hs22⟩ : ∃ s, s = s15 * s4 := ⟨_, rfl⟩
 obtain ⟨p231, hp231⟩ : ∃ p, p = z32 * z5 := ⟨_, rfl⟩
 have t231 := pl_m t179 t89 e231 hp231 hs22
 obtain ⟨p232, hp232⟩ : ∃ p, p = z33 * z4 := ⟨_, rfl⟩
 have t232 := pl_m t180 t88 e232 hp232 hs22
 obtain ⟨p233, hp233⟩ : ∃ p, p = p231 - p232 := ⟨_, rfl⟩
 have t233 := pl_s t231 t232 e233 hp233
 obtain ⟨p234, hp234⟩ : ∃ p, p = z33 * z3 := ⟨_, rfl⟩
 have t234 := pl_m t180 t87 e234 hp234 hs22
 obtain ⟨p235, hp235⟩ : ∃ p, p = z31 * z5 := ⟨_, rfl⟩
 have t235 := pl_m t178 t89 e235 hp235 hs22
 obtain ⟨p236, hp236⟩ : ∃ p, p = p234 - p235 := ⟨_, rfl⟩
 have t236 := pl_s t234 t235 e236 hp236
 obtain ⟨p237, hp237⟩ : ∃ p, p = z31 * z4 := ⟨_, rfl⟩
 have t237 := pl_m t178 t88 e237 hp237 hs22
 obtain ⟨p238, hp238⟩ : ∃ p, p = z32 * z3 := ⟨_, rfl⟩
 have t238 := pl_m t179 t87 e238 hp238 hs22
 obtain ⟨p239, hp239⟩ : ∃ p, p = p237 - p238 := ⟨_, rfl⟩
 have t239 := pl_s t237 t238 e239 hp239
 obtain ⟨s23, hs23⟩ : ∃ s, s = s12 * s0 := ⟨_, rfl⟩
 obtain ⟨p245, hp245⟩ : ∃ p, p = z41 * z16 := ⟨_, rfl⟩
 have t245 := pl_m t159 t61 e245 hp245 hs23
 obtain ⟨p246, hp246⟩ : ∃ p, p = z44 * z13 := ⟨_, rfl⟩
 have t246 := pl_m t160 t60 e246 hp246 hs23
 obtain ⟨p247, hp247⟩ : ∃ p, p = p245 - p246 := ⟨_, rfl⟩
 have t247 := pl_s t245 t246 e247 hp247
 obtain ⟨p248, hp248⟩ : ∃ p, p = z44 * z10 := ⟨_, rfl⟩
 have t248 := pl_m t160 t59 e248 hp248 hs23
 obtain ⟨p249, hp249⟩ : ∃ p, p = z38 * z16 := ⟨_, rfl⟩
 have t249 := pl_m t158 t61 e249 hp249 hs23
 obtain ⟨p250, hp250⟩ : ∃ p, p = p248 - p249 := ⟨_, rfl⟩
 have t250 := pl_s t248 t249 e250 hp250
 obtain ⟨p251, hp251⟩ : ∃ p, p = z38 * z13 := ⟨_, rfl⟩
 have t251 := pl_m t158 t60 e251 hp251 hs23
 obtain ⟨p252, hp252⟩ : ∃ p, p = z41 * z10 := ⟨_, rfl⟩
 have t252 := pl_m t159 t59 e252 hp252 hs23
 obtain ⟨p253, hp253⟩ : ∃ p, p = p251 - p252 := ⟨_, rfl⟩
 have t253 := pl_s t251 t252 e253 hp253
 obtain ⟨s24, hs24⟩ : ∃ s, s = s23 * g16 := ⟨_, rfl⟩
 have t259 := pl_8 t247 e259 hs24
 have t260 := pl_8 t250 e260 hs24
 have t261 := pl_8 t253 e261 hs24
 obtain ⟨s25, hs25⟩ : ∃ s, s = s22 * g17 := ⟨_, rfl⟩
 have t262 := pl_8 t233 e262 hs25
 have t263 := pl_8 t236 e263 hs25
 have t264 := pl_8 t239 e264 hs25
 obtain ⟨s26, hs26⟩ : ∃ s, s = s25 * g18 := ⟨_, rfl⟩
 have t270 := pl_8 t262 e270 hs26
 have t271 := pl_8 t263 e271 hs26
 have t272 := pl_8 t264 e272 hs26
 obtain ⟨s27, hs27⟩ : ∃ s, s = s24 * g19 := ⟨_, rfl⟩
 have t278 := pl_8 t259 e278 hs27
 have t279 := pl_8 t260 e279 hs27
 have t280 := pl_8 t261 e280 hs27
 obtain ⟨s28, hs28⟩ : ∃ s, s = s26 * s27 := ⟨_, rfl⟩
 obtain ⟨p281, hp281⟩ : ∃ p, p = p236 * p253 := ⟨_, rfl⟩
 have t281 := pl_m t271 t280 e281 hp281 hs28
 obtain ⟨p282, hp282⟩ : ∃ p, p = p239 * p250 := ⟨_, rfl⟩
 have t282 := pl_m t272 t279 e282 hp282 hs28
 obtain ⟨p283, hp283⟩ : ∃ p, p = p281 - p282 := ⟨_, rfl⟩
 have t283 := pl_s t281 t282 e283 hp283
 obtain ⟨p284, hp284⟩ : ∃ p, p = p239 * p247 := ⟨_, rfl⟩
 have t284 := pl_m t272 t278 e284 hp284 hs28
 obtain ⟨p285, hp285⟩ : ∃ p, p = p233 * p253 := ⟨_, rfl⟩
 have t285 := pl_m t270 t280 e285 hp285 hs28
 obtain ⟨p286, hp286⟩ : ∃ p, p = p284 - p285 := ⟨_, rfl⟩
 have t286 := pl_s t284 t285 e286 hp286
 obtain ⟨p287, hp287⟩ : ∃ p, p = p233 * p250 := ⟨_, rfl⟩
 have t287 := pl_m t270 t279 e287 hp287 hs28
 obtain ⟨p288, hp288⟩ : ∃ p, p = p236 * p247 := ⟨_, rfl⟩
 have t288 := pl_m t271 t278 e288 hp288 hs28
 obtain ⟨p289, hp289⟩ : ∃ p, p = p287 - p288 := ⟨_, rfl⟩
 have t289 := pl_s t287 t288 e289 hp289
 obtain ⟨s29, hs29⟩ : ∃ s, s = s28 * g20 := ⟨_, rfl⟩
 have t295 := pl_8 t283 e295 hs29
 have t296 := pl_8 t286 e296 hs29
 have t297 := pl_8 t289 e297 hs29
 obtain ⟨s30, hs30⟩ : ∃ s, s = s21 * s29 := ⟨_, rfl⟩
 obtain ⟨p364, hp364⟩ : ∃ p, p = p219 * p289 := ⟨_, rfl⟩
 have t364 := pl_m t229 t297 e364 hp364 hs30
 obtain ⟨p365, hp365⟩ : ∃ p, p = p222 * p286 := ⟨_, rfl⟩
 have t365 := pl_m t230 t296 e365 hp365 hs30
 obtain ⟨p366, hp366⟩ : ∃ p, p = p364 - p365 := ⟨_, rfl⟩
 have t366 := pl_s t364 t365 e366 hp366
 obtain ⟨s31, hs31⟩ : ∃ s, s = s11 * s30 := ⟨_, rfl⟩
 obtain ⟨p367, hp367⟩ : ∃ p, p = p133 * p366 := ⟨_, rfl⟩
 have t367 := pl_m t145 t366 e367 hp367 hs31
 obtain ⟨p368, hp368⟩ : ∃ p, p = p216 * p289 := ⟨_, rfl⟩
 have t368 := pl_m t228 t297 e368 hp368 hs30
 obtain ⟨p369, hp369⟩ : ∃ p, p = p222 * p283 := ⟨_, rfl⟩
 have t369 := pl_m t230 t295 e369 hp369 hs30
 obtain ⟨p370, hp370⟩ : ∃ p, p = p368 - p369 := ⟨_, rfl⟩
 have t370 := pl_s t368 t369 e370 hp370
 obtain ⟨p371, hp371⟩ : ∃ p, p = p136 * p370 := ⟨_, rfl⟩
 have t371 := pl_m t146 t370 e371 hp371 hs31
 obtain ⟨p372, hp372⟩ : ∃ p, p = -p371 := ⟨_, rfl⟩
 have t372 := pl_n t371 e372 hp372
 obtain ⟨p373, hp373⟩ : ∃ p, p = p216 * p286 := ⟨_, rfl⟩
 have t373 := pl_m t228 t296 e373 hp373 hs30
 obtain ⟨p374, hp374⟩ : ∃ p, p = p219 * p283 := ⟨_, rfl⟩
 have t374 := pl_m t229 t295 e374 hp374 hs30
 obtain ⟨p375, hp375⟩ : ∃ p, p = p373 - p374 := ⟨_, rfl⟩
 have t375 := pl_s t373 t374 e375 hp375
 obtain ⟨p376, hp376⟩ : ∃ p, p = p139 * p375 := ⟨_, rfl⟩
 have t376 := pl_m t147 t375 e376 hp376 hs31
 obtain ⟨p377, hp377⟩ : ∃ p, p = p367 + p372 := ⟨_, rfl⟩
 have t377 := pl_a t367 t372 e377 hp377
 obtain ⟨p378, hp378⟩ : ∃ p, p = p377 + p376 := ⟨_, rfl⟩
 have t378 := pl_a t377 t376 e378 hp378
 refine pl_0 t378 ?_
 rw [hp378, hp377, hp367, hp372, hp371, hp376, hp366, hp364, hp365, hp370, hp368, hp369, hp375, hp373, hp374]
 exact ds_main (o1 := z0) (o2 := z1) (o3 := z2) (t1 := z3) (t2 := z4) (t3 := z5) (u1 := z17) (u2 := z18) (u3 := z19) (v1 := z31) (v2 := z32) (v3 := z33) (p1 := z10) (p2 := z13) (p3 := z16) (q1 := z24) (q2 := z27) (q3 := z30) (r1 := z38) (r2 := z41) (r3 := z44) (A01 := p100) (A02 := p103) (A03 := p106) (B01 := p72) (B02 := p75) (B03 := p78) (C01 := p133) (C02 := p136) (C03 := p139) (A11 := p183) (A12 := p186) (A13 := p189) (B11 := p163) (B12 := p166) (B13 := p169) (C11 := p216) (C12 := p219) (C13 := p222) (A21 := p233) (A22 := p236) (A23 := p239) (B21 := p247) (B22 := p250) (B23 := p253) (C21 := p283) (C22 := p286) (C23 := p289) (k0 := z6) (k1 := z20) (k2 := z34) (n0 := z8) (n1 := z22) (n2 := z36) (by rw [e10, e7, e9]) (by rw [e13, e11, e12]) (by rw [e16, e14, e15]) (by rw [e24, e21, e23]) (by rw [e27, e25, e26]) (by rw [e30, e28, e29]) (by rw [e38, e35, e37]) (by rw [e41, e39, e40]) (by rw [e44, e42, e43]) (by rw [hp100, hp98, hp99]) (by rw [hp103, hp101, hp102]) (by rw [hp106, hp104, hp105]) (by rw [hp72, hp70, hp71]) (by rw [hp75, hp73, hp74]) (by rw [hp78, hp76, hp77]) (by rw [hp133, hp131, hp132]) (by rw [hp136, hp134, hp135]) (by rw [hp139, hp137, hp138]) (by rw [hp183, hp181, hp182]) (by rw [hp186, hp184, hp185]) (by rw [hp189, hp187, hp188]) (by rw [hp163, hp161, hp162]) (by rw [hp166, hp164, hp165]) (by rw [hp169, hp167, hp168]) (by rw [hp216, hp214, hp215]) (by rw [hp219, hp217, hp218]) (by rw [hp222, hp220, hp221]) (by rw [hp233, hp231, hp232]) (by rw [hp236, hp234, hp235]) (by rw [hp239, hp237, hp238]) (by rw [hp247, hp245, hp246]) (by rw [hp250, hp248, hp249]) (by rw [hp253, hp251, hp252]) (by rw [hp283, hp281, hp282]) (by rw [hp286, hp284, hp285]) (by rw [hp289, hp287, hp288])
theorem pD_r0 : (callC (sx Tryz.prog pD_N [(0,49,0,1),(0,54,0,1),(0,58,0,1)] [] pD_L pD_C pD_Z (prC [21])) [(151,60),(156,62)] 7 [] 4 [(false,[(true,[.inr (2,0,0,0,0),.inr (2,1,0,0,0),.inr (2,2,0,0,0)])]),(false,[(true,[.inr (2,3,0,0,0),.inr (2,4,0,0,0),.inr (2,5,0,0,0),.inr (2,6,0,0,0),.inr (2,7,0,0,0),.inr (2,8,0,0,0),.inr (2,9,0,0,0),.inr (2,10,0,0,0),.inr (2,11,0,0,0)])]),(false,[(true,[.inr (2,12,0,0,0),.inr (2,13,0,0,0),.inr (2,14,0,0,0)])]),(false,[(true,[.inr (2,15,0,0,0),.inr (2,16,0,0,0),.inr (2,17,0,0,0)])])] [] 0).map (·.1) = some (kB true) := by kernel_rfl
theorem pD_r1 : (callC (sx Tryz.prog pD_N [(0,49,0,1),(0,54,0,0),(0,66,0,1),(0,58,0,1)] [] pD_L pD_C pD_Z (prC [21])) [(151,60),(156,62)] 7 [] 4 [(false,[(true,[.inr (2,0,0,0,0),.inr (2,1,0,0,0),.inr (2,2,0,0,0)])]),(false,[(true,[.inr (2,3,0,0,0),.inr (2,4,0,0,0),.inr (2,5,0,0,0),.inr (2,6,0,0,0),.inr (2,7,0,0,0),.inr (2,8,0,0,0),.inr (2,9,0,0,0),.inr (2,10,0,0,0),.inr (2,11,0,0,0)])]),(false,[(true,[.inr (2,12,0,0,0),.inr (2,13,0,0,0),.inr (2,14,0,0,0)])]),(false,[(true,[.inr (2,15,0,0,0),.inr (2,16,0,0,0),.inr (2,17,0,0,0)])])] [] 0).map (·.1) = some (kB true) := by kernel_rfl
theorem pD_r2 : (callC (sx Tryz.prog pD_N [(0,49,0,1),(0,54,0,0),(0,66,0,0),(0,83,0,1),(0,58,0,1)] [] pD_L pD_C pD_Z (prC [21])) [(151,60),(156,62)] 7 [] 4 [(false,[(true,[.inr (2,0,0,0,0),.inr (2,1,0,0,0),.inr (2,2,0,0,0)])]),(false,[(true,[.inr (2,3,0,0,0),.inr (2,4,0,0,0),.inr (2,5,0,0,0),.inr (2,6,0,0,0),.inr (2,7,0,0,0),.inr (2,8,0,0,0),.inr (2,9,0,0,0),.inr (2,10,0,0,0),.inr (2,11,0,0,0)])]),(false,[(true,[.inr (2,12,0,0,0),.inr (2,13,0,0,0),.inr (2,14,0,0,0)])]),(false,[(true,[.inr (2,15,0,0,0),.inr (2,16,0,0,0),.inr (2,17,0,0,0)])])] [] 0).map (·.1) = some (kB true) := by kernel_rfl
theorem pD_r3 : (callC (sx Tryz.prog pD_N [(0,49,0,1),(0,54,0,0),(0,66,0,0),(0,83,0,0),(0,58,0,1)] [] pD_L pD_C pD_Z (prC [21])) [(151,60),(156,62)] 7 [] 4 [(false,[(true,[.inr (2,0,0,0,0),.inr (2,1,0,0,0),.inr (2,2,0,0,0)])]),(false,[(true,[.inr (2,3,0,0,0),.inr (2,4,0,0,0),.inr (2,5,0,0,0),.inr (2,6,0,0,0),.inr (2,7,0,0,0),.inr (2,8,0,0,0),.inr (2,9,0,0,0),.inr (2,10,0,0,0),.inr (2,11,0,0,0)])]),(false,[(true,[.inr (2,12,0,0,0),.inr (2,13,0,0,0),.inr (2,14,0,0,0)])]),(false,[(true,[.inr (2,15,0,0,0),.inr (2,16,0,0,0),.inr (2,17,0,0,0)])])] [] 0).map (·.1) = some (kB true) := by kernel_rfl
theorem pD_r4 : (callC (sx Tryz.prog pD_N [(0,49,0,0),(0,94,0,1),(0,54,0,1),(0,58,0,1)] [] pD_L pD_C pD_Z (prC [21])) [(151,60),(156,62)] 7 [] 4 [(false,[(true,[.inr (2,0,0,0,0),.inr (2,1,0,0,0),.inr (2,2,0,0,0)])]),(false,[(true,[.inr (2,3,0,0,0),.inr (2,4,0,0,0),.inr (2,5,0,0,0),.inr (2,6,0,0,0),.inr (2,7,0,0,0),.inr (2,8,0,0,0),.inr (2,9,0,0,0),.inr (2,10,0,0,0),.inr (2,11,0,0,0)])]),(false,[(true,[.inr (2,12,0,0,0),.inr (2,13,0,0,0),.inr (2,14,0,0,0)])]),(false,[(true,[.inr (2,15,0,0,0),.inr (2,16,0,0,0),.inr (2,17,0,0,0)])])] [] 0).map (·.1) = some (kB true) := by kernel_rfl
theorem pD_r5 : (callC (sx Tryz.prog pD_N [(0,49,0,0),(0,94,0,1),(0,54,0,0),(0,66,0,1),(0,58,0,1)] [] pD_L pD_C pD_Z (prC [21])) [(151,60),(156,62)] 7 [] 4 [(false,[(true,[.inr (2,0,0,0,0),.inr (2,1,0,0,0),.inr (2,2,0,0,0)])]),(false,[(true,[.inr (2,3,0,0,0),.inr (2,4,0,0,0),.inr (2,5,0,0,0),.inr (2,6,0,0,0),.inr (2,7,0,0,0),.inr (2,8,0,0,0),.inr (2,9,0,0,0),.inr (2,10,0,0,0),.inr (2,11,0,0,0)])]),(false,[(true,[.inr (2,12,0,0,0),.inr (2,13,0,0,0),.inr (2,14,0,0,0)])]),(false,[(true,[.inr (2,15,0,0,0),.inr (2,16,0,0,0),.inr (2,17,0,0,0)])])] [] 0).map (·.1) = some (kB true) := by kernel_rfl
theorem pD_r6 : (callC (sx Tryz.prog pD_N [(0,49,0,0),(0,94,0,1),(0,54,0,0),(0,66,0,0),(0,83,0,1),(0,58,0,1)] [] pD_L pD_C pD_Z (prC [21])) [(151,60),(156,62)] 7 [] 4 [(false,[(true,[.inr (2,0,0,0,0),.inr (2,1,0,0,0),.inr (2,2,0,0,0)])]),(false,[(true,[.inr (2,3,0,0,0),.inr (2,4,0,0,0),.inr (2,5,0,0,0),.inr (2,6,0,0,0),.inr (2,7,0,0,0),.inr (2,8,0,0,0),.inr (2,9,0,0,0),.inr (2,10,0,0,0),.inr (2,11,0,0,0)])]),(false,[(true,[.inr (2,12,0,0,0),.inr (2,13,0,0,0),.inr (2,14,0,0,0)])]),(false,[(true,[.inr (2,15,0,0,0),.inr (2,16,0,0,0),.inr (2,17,0,0,0)])])] [] 0).map (·.1) = some (kB true) := by kernel_rfl
theorem pD_r7 : (callC (sx Tryz.prog pD_N [(0,49,0,0),(0,94,0,1),(0,54,0,0),(0,66,0,0),(0,83,0,0),(0,58,0,1)] [] pD_L pD_C pD_Z (prC [21])) [(151,60),(156,62)] 7 [] 4 [(false,[(true,[.inr (2,0,0,0,0),.inr (2,1,0,0,0),.inr (2,2,0,0,0)])]),(false,[(true,[.inr (2,3,0,0,0),.inr (2,4,0,0,0),.inr (2,5,0,0,0),.inr (2,6,0,0,0),.inr (2,7,0,0,0),.inr (2,8,0,0,0),.inr (2,9,0,0,0),.inr (2,10,0,0,0),.inr (2,11,0,0,0)])]),(false,[(true,[.inr (2,12,0,0,0),.inr (2,13,0,0,0),.inr (2,14,0,0,0)])]),(false,[(true,[.inr (2,15,0,0,0),.inr (2,16,0,0,0),.inr (2,17,0,0,0)])])] [] 0).map (·.1) = some (kB true) := by kernel_rfl
theorem pD_r8 : (callC (sx Tryz.prog pD_N [(0,49,0,0),(0,94,0,0),(0,111,0,1),(0,54,0,1),(0,58,0,1)] [] pD_L pD_C pD_Z (prC [21])) [(151,60),(156,62)] 7 [] 4 [(false,[(true,[.inr (2,0,0,0,0),.inr (2,1,0,0,0),.inr (2,2,0,0,0)])]),(false,[(true,[.inr (2,3,0,0,0),.inr (2,4,0,0,0),.inr (2,5,0,0,0),.inr (2,6,0,0,0),.inr (2,7,0,0,0),.inr (2,8,0,0,0),.inr (2,9,0,0,0),.inr (2,10,0,0,0),.inr (2,11,0,0,0)])]),(false,[(true,[.inr (2,12,0,0,0),.inr (2,13,0,0,0),.inr (2,14,0,0,0)])]),(false,[(true,[.inr (2,15,0,0,0),.inr (2,16,0,0,0),.inr (2,17,0,0,0)])])] [] 0).map (·.1) = some (kB true) := by kernel_rfl
theorem pD_r9 : (callC (sx Tryz.prog pD_N [(0,49,0,0),(0,94,0,0),(0,111,0,1),(0,54,0,0),(0,66,0,1),(0,58,0,1)] [] pD_L pD_C pD_Z (prC [21])) [(151,60),(156,62)] 7 [] 4 [(false,[(true,[.inr (2,0,0,0,0),.inr (2,1,0,0,0),.inr (2,2,0,0,0)])]),(false,[(true,[.inr (2,3,0,0,0),.inr (2,4,0,0,0),.inr (2,5,0,0,0),.inr (2,6,0,0,0),.inr (2,7,0,0,0),.inr (2,8,0,0,0),.inr (2,9,0,0,0),.inr (2,10,0,0,0),.inr (2,11,0,0,0)])]),(false,[(true,[.inr (2,12,0,0,0),.inr (2,13,0,0,0),.inr (2,14,0,0,0)])]),(false,[(true,[.inr (2,15,0,0,0),.inr (2,16,0,0,0),.inr (2,17,0,0,0)])])] [] 0).map (·.1) = some (kB true) := by kernel_rfl
theorem pD_r10 : (callC (sx Tryz.prog pD_N [(0,49,0,0),(0,94,0,0),(0,111,0,1),(0,54,0,0),(0,66,0,0),(0,83,0,1),(0,58,0,1)] [] pD_L pD_C pD_Z (prC [21])) [(151,60),(156,62)] 7 [] 4 [(false,[(true,[.inr (2,0,0,0,0),.inr (2,1,0,0,0),.inr (2,2,0,0,0)])]),(false,[(true,[.inr (2,3,0,0,0),.inr (2,4,0,0,0),.inr (2,5,0,0,0),.inr (2,6,0,0,0),.inr (2,7,0,0,0),.inr (2,8,0,0,0),.inr (2,9,0,0,0),.inr (2,10,0,0,0),.inr (2,11,0,0,0)])]),(false,[(true,[.inr (2,12,0,0,0),.inr (2,13,0,0,0),.inr (2,14,0,0,0)])]),(false,[(true,[.inr (2,15,0,0,0),.inr (2,16,0,0,0),.inr (2,17,0,0,0)])])] [] 0).map (·.1) = some (kB true) := by kernel_rfl
theorem pD_r11 : (callC (sx Tryz.prog pD_N [(0,49,0,0),(0,94,0,0),(0,111,0,1),(0,54,0,0),(0,66,0,0),(0,83,0,0),(0,58,0,1)] [] pD_L pD_C pD_Z (prC [21])) [(151,60),(156,62)] 7 [] 4 [(false,[(true,[.inr (2,0,0,0,0),.inr (2,1,0,0,0),.inr (2,2,0,0,0)])]),(false,[(true,[.inr (2,3,0,0,0),.inr (2,4,0,0,0),.inr (2,5,0,0,0),.inr (2,6,0,0,0),.inr (2,7,0,0,0),.inr (2,8,0,0,0),.inr (2,9,0,0,0),.inr (2,10,0,0,0),.inr (2,11,0,0,0)])]),(false,[(true,[.inr (2,12,0,0,0),.inr (2,13,0,0,0),.inr (2,14,0,0,0)])]),(false,[(true,[.inr (2,15,0,0,0),.inr (2,16,0,0,0),.inr (2,17,0,0,0)])])] [] 0).map (·.1) = some (kB true) := by kernel_rfl
theorem pD_r12 : (callC (sx Tryz.prog pD_N [(0,49,0,0),(0,94,0,0),(0,111,0,0),(0,54,0,1),(0,119,0,0),(0,58,0,1)] [] pD_L pD_C pD_Z (prC [21])) [(151,60),(156,62)] 7 [] 4 [(false,[(true,[.inr (2,0,0,0,0),.inr (2,1,0,0,0),.inr (2,2,0,0,0)])]),(false,[(true,[.inr (2,3,0,0,0),.inr (2,4,0,0,0),.inr (2,5,0,0,0),.inr (2,6,0,0,0),.inr (2,7,0,0,0),.inr (2,8,0,0,0),.inr (2,9,0,0,0),.inr (2,10,0,0,0),.inr (2,11,0,0,0)])]),(false,[(true,[.inr (2,12,0,0,0),.inr (2,13,0,0,0),.inr (2,14,0,0,0)])]),(false,[(true,[.inr (2,15,0,0,0),.inr (2,16,0,0,0),.inr (2,17,0,0,0)])])] [] 0).map (·.1) = some (kB true) := by kernel_rfl
theorem pD_r13 : (callC (sx Tryz.prog pD_N [(0,49,0,0),(0,94,0,0),(0,111,0,0),(0,54,0,0),(0,66,0,1),(0,119,0,0),(0,58,0,1)] [] pD_L pD_C pD_Z (prC [21])) [(151,60),(156,62)] 7 [] 4 [(false,[(true,[.inr (2,0,0,0,0),.inr (2,1,0,0,0),.inr (2,2,0,0,0)])]),(false,[(true,[.inr (2,3,0,0,0),.inr (2,4,0,0,0),.inr (2,5,0,0,0),.inr (2,6,0,0,0),.inr (2,7,0,0,0),.inr (2,8,0,0,0),.inr (2,9,0,0,0),.inr (2,10,0,0,0),.inr (2,11,0,0,0)])]),(false,[(true,[.inr (2,12,0,0,0),.inr (2,13,0,0,0),.inr (2,14,0,0,0)])]),(false,[(true,[.inr (2,15,0,0,0),.inr (2,16,0,0,0),.inr (2,17,0,0,0)])])] [] 0).map (·.1) = some (kB true) := by kernel_rfl
theorem pD_r14 : (callC (sx Tryz.prog pD_N [(0,49,0,0),(0,94,0,0),(0,111,0,0),(0,54,0,0),(0,66,0,0),(0,83,0,1),(0,119,0,0),(0,58,0,1)] [] pD_L pD_C pD_Z (prC [21])) [(151,60),(156,62)] 7 [] 4 [(false,[(true,[.inr (2,0,0,0,0),.inr (2,1,0,0,0),.inr (2,2,0,0,0)])]),(false,[(true,[.inr (2,3,0,0,0),.inr (2,4,0,0,0),.inr (2,5,0,0,0),.inr (2,6,0,0,0),.inr (2,7,0,0,0),.inr (2,8,0,0,0),.inr (2,9,0,0,0),.inr (2,10,0,0,0),.inr (2,11,0,0,0)])]),(false,[(true,[.inr (2,12,0,0,0),.inr (2,13,0,0,0),.inr (2,14,0,0,0)])]),(false,[(true,[.inr (2,15,0,0,0),.inr (2,16,0,0,0),.inr (2,17,0,0,0)])])] [] 0).map (·.1) = some (kB true) := by kernel_rfl
theorem pD_r15 : (callC (sx Tryz.prog pD_N [(0,49,0,0),(0,94,0,0),(0,111,0,0),(0,54,0,0),(0,66,0,0),(0,83,0,0),(0,119,0,0),(0,127,0,0),(0,144,0,1)] [] pD_L pD_C pD_Z (prC [21])) [(151,60),(156,62)] 7 [] 4 [(false,[(true,[.inr (2,0,0,0,0),.inr (2,1,0,0,0),.inr (2,2,0,0,0)])]),(false,[(true,[.inr (2,3,0,0,0),.inr (2,4,0,0,0),.inr (2,5,0,0,0),.inr (2,6,0,0,0),.inr (2,7,0,0,0),.inr (2,8,0,0,0),.inr (2,9,0,0,0),.inr (2,10,0,0,0),.inr (2,11,0,0,0)])]),(false,[(true,[.inr (2,12,0,0,0),.inr (2,13,0,0,0),.inr (2,14,0,0,0)])]),(false,[(true,[.inr (2,15,0,0,0),.inr (2,16,0,0,0),.inr (2,17,0,0,0)])])] [] 0).map (·.1) = some (kB true) := by kernel_rfl
theorem pD_r16 : (callC (sx Tryz.prog pD_N [(0,49,0,0),(0,94,0,0),(0,111,0,0),(0,54,0,0),(0,66,0,0),(0,83,0,0),(0,119,0,0),(0,127,0,0),(0,144,0,0),(0,152,0,1),(0,157,0,1),(0,58,0,1)] [] pD_L pD_C pD_Z (prC [21])) [(151,60),(156,62)] 7 [] 4 [(false,[(true,[.inr (2,0,0,0,0),.inr (2,1,0,0,0),.inr (2,2,0,0,0)])]),(false,[(true,[.inr (2,3,0,0,0),.inr (2,4,0,0,0),.inr (2,5,0,0,0),.inr (2,6,0,0,0),.inr (2,7,0,0,0),.inr (2,8,0,0,0),.inr (2,9,0,0,0),.inr (2,10,0,0,0),.inr (2,11,0,0,0)])]),(false,[(true,[.inr (2,12,0,0,0),.inr (2,13,0,0,0),.inr (2,14,0,0,0)])]),(false,[(true,[.inr (2,15,0,0,0),.inr (2,16,0,0,0),.inr (2,17,0,0,0)])])] [] 0).map (·.1) = some (kB true) := by kernel_rfl
theorem pD_r17 : (callC (sx Tryz.prog pD_N [(0,49,0,0),(0,94,0,0),(0,111,0,0),(0,54,0,0),(0,66,0,0),(0,83,0,0),(0,119,0,0),(0,127,0,0),(0,144,0,0),(0,152,0,1),(0,157,0,0),(0,174,0,1),(0,58,0,1)] [] pD_L pD_C pD_Z (prC [21])) [(151,60),(156,62)] 7 [] 4 [(false,[(true,[.inr (2,0,0,0,0),.inr (2,1,0,0,0),.inr (2,2,0,0,0)])]),(false,[(true,[.inr (2,3,0,0,0),.inr (2,4,0,0,0),.inr (2,5,0,0,0),.inr (2,6,0,0,0),.inr (2,7,0,0,0),.inr (2,8,0,0,0),.inr (2,9,0,0,0),.inr (2,10,0,0,0),.inr (2,11,0,0,0)])]),(false,[(true,[.inr (2,12,0,0,0),.inr (2,13,0,0,0),.inr (2,14,0,0,0)])]),(false,[(true,[.inr (2,15,0,0,0),.inr (2,16,0,0,0),.inr (2,17,0,0,0)])])] [] 0).map (·.1) = some (kB true) := by kernel_rfl
theorem pD_r18 : (callC (sx Tryz.prog pD_N [(0,49,0,0),(0,94,0,0),(0,111,0,0),(0,54,0,0),(0,66,0,0),(0,83,0,0),(0,119,0,0),(0,127,0,0),(0,144,0,0),(0,152,0,1),(0,157,0,0),(0,174,0,0),(0,58,0,1)] [] pD_L pD_C pD_Z (prC [21])) [(151,60),(156,62)] 7 [] 4 [(false,[(true,[.inr (2,0,0,0,0),.inr (2,1,0,0,0),.inr (2,2,0,0,0)])]),(false,[(true,[.inr (2,3,0,0,0),.inr (2,4,0,0,0),.inr (2,5,0,0,0),.inr (2,6,0,0,0),.inr (2,7,0,0,0),.inr (2,8,0,0,0),.inr (2,9,0,0,0),.inr (2,10,0,0,0),.inr (2,11,0,0,0)])]),(false,[(true,[.inr (2,12,0,0,0),.inr (2,13,0,0,0),.inr (2,14,0,0,0)])]),(false,[(true,[.inr (2,15,0,0,0),.inr (2,16,0,0,0),.inr (2,17,0,0,0)])])] [] 0).map (·.1) = some (kB true) := by kernel_rfl
theorem pD_r19 : (callC (sx Tryz.prog pD_N [(0,49,0,0),(0,94,0,0),(0,111,0,0),(0,54,0,0),(0,66,0,0),(0,83,0,0),(0,119,0,0),(0,127,0,0),(0,144,0,0),(0,152,0,0),(0,194,0,1),(0,157,0,1),(0,58,0,1)] [] pD_L pD_C pD_Z (prC [21])) [(151,60),(156,62)] 7 [] 4 [(false,[(true,[.inr (2,0,0,0,0),.inr (2,1,0,0,0),.inr (2,2,0,0,0)])]),(false,[(true,[.inr (2,3,0,0,0),.inr (2,4,0,0,0),.inr (2,5,0,0,0),.inr (2,6,0,0,0),.inr (2,7,0,0,0),.inr (2,8,0,0,0),.inr (2,9,0,0,0),.inr (2,10,0,0,0),.inr (2,11,0,0,0)])]),(false,[(true,[.inr (2,12,0,0,0),.inr (2,13,0,0,0),.inr (2,14,0,0,0)])]),(false,[(true,[.inr (2,15,0,0,0),.inr (2,16,0,0,0),.inr (2,17,0,0,0)])])] [] 0).map (·.1) = some (kB true) := by kernel_rfl
theorem pD_r20 : (callC (sx Tryz.prog pD_N [(0,49,0,0),(0,94,0,0),(0,111,0,0),(0,54,0,0),(0,66,0,0),(0,83,0,0),(0,119,0,0),(0,127,0,0),(0,144,0,0),(0,152,0,0),(0,194,0,1),(0,157,0,0),(0,174,0,1),(0,58,0,1)] [] pD_L pD_C pD_Z (prC [21])) [(151,60),(156,62)] 7 [] 4 [(false,[(true,[.inr (2,0,0,0,0),.inr (2,1,0,0,0),.inr (2,2,0,0,0)])]),(false,[(true,[.inr (2,3,0,0,0),.inr (2,4,0,0,0),.inr (2,5,0,0,0),.inr (2,6,0,0,0),.inr (2,7,0,0,0),.inr (2,8,0,0,0),.inr (2,9,0,0,0),.inr (2,10,0,0,0),.inr (2,11,0,0,0)])]),(false,[(true,[.inr (2,12,0,0,0),.inr (2,13,0,0,0),.inr (2,14,0,0,0)])]),(false,[(true,[.inr (2,15,0,0,0),.inr (2,16,0,0,0),.inr (2,17,0,0,0)])])] [] 0).map (·.1) = some (kB true) := by kernel_rfl
theorem pD_r21 : (callC (sx Tryz.prog pD_N [(0,49,0,0),(0,94,0,0),(0,111,0,0),(0,54,0,0),(0,66,0,0),(0,83,0,0),(0,119,0,0),(0,127,0,0),(0,144,0,0),(0,152,0,0),(0,194,0,1),(0,157,0,0),(0,174,0,0),(0,58,0,1)] [] pD_L pD_C pD_Z (prC [21])) [(151,60),(156,62)] 7 [] 4 [(false,[(true,[.inr (2,0,0,0,0),.inr (2,1,0,0,0),.inr (2,2,0,0,0)])]),(false,[(true,[.inr (2,3,0,0,0),.inr (2,4,0,0,0),.inr (2,5,0,0,0),.inr (2,6,0,0,0),.inr (2,7,0,0,0),.inr (2,8,0,0,0),.inr (2,9,0,0,0),.inr (2,10,0,0,0),.inr (2,11,0,0,0)])]),(false,[(true,[.inr (2,12,0,0,0),.inr (2,13,0,0,0),.inr (2,14,0,0,0)])]),(false,[(true,[.inr (2,15,0,0,0),.inr (2,16,0,0,0),.inr (2,17,0,0,0)])])] [] 0).map (·.1) = some (kB true) := by kernel_rfl
theorem pD_r22 : (callC (sx Tryz.prog pD_N [(0,49,0,0),(0,94,0,0),(0,111,0,0),(0,54,0,0),(0,66,0,0),(0,83,0,0),(0,119,0,0),(0,127,0,0),(0,144,0,0),(0,152,0,0),(0,194,0,0),(0,157,0,1),(0,202,0,0),(0,58,0,1)] [] pD_L pD_C pD_Z (prC [21])) [(151,60),(156,62)] 7 [] 4 [(false,[(true,[.inr (2,0,0,0,0),.inr (2,1,0,0,0),.inr (2,2,0,0,0)])]),(false,[(true,[.inr (2,3,0,0,0),.inr (2,4,0,0,0),.inr (2,5,0,0,0),.inr (2,6,0,0,0),.inr (2,7,0,0,0),.inr (2,8,0,0,0),.inr (2,9,0,0,0),.inr (2,10,0,0,0),.inr (2,11,0,0,0)])]),(false,[(true,[.inr (2,12,0,0,0),.inr (2,13,0,0,0),.inr (2,14,0,0,0)])]),(false,[(true,[.inr (2,15,0,0,0),.inr (2,16,0,0,0),.inr (2,17,0,0,0)])])] [] 0).map (·.1) = some (kB true) := by kernel_rfl
theorem pD_r23 : (callC (sx Tryz.prog pD_N [(0,49,0,0),(0,94,0,0),(0,111,0,0),(0,54,0,0),(0,66,0,0),(0,83,0,0),(0,119,0,0),(0,127,0,0),(0,144,0,0),(0,152,0,0),(0,194,0,0),(0,157,0,0),(0,174,0,1),(0,202,0,0),(0,58,0,1)] [] pD_L pD_C pD_Z (prC [21])) [(151,60),(156,62)] 7 [] 4 [(false,[(true,[.inr (2,0,0,0,0),.inr (2,1,0,0,0),.inr (2,2,0,0,0)])]),(false,[(true,[.inr (2,3,0,0,0),.inr (2,4,0,0,0),.inr (2,5,0,0,0),.inr (2,6,0,0,0),.inr (2,7,0,0,0),.inr (2,8,0,0,0),.inr (2,9,0,0,0),.inr (2,10,0,0,0),.inr (2,11,0,0,0)])]),(false,[(true,[.inr (2,12,0,0,0),.inr (2,13,0,0,0),.inr (2,14,0,0,0)])]),(false,[(true,[.inr (2,15,0,0,0),.inr (2,16,0,0,0),.inr (2,17,0,0,0)])])] [] 0).map (·.1) = some (kB true) := by kernel_rfl
theorem pD_r24 : (callC (sx Tryz.prog pD_N [(0,49,0,0),(0,94,0,0),(0,111,0,0),(0,54,0,0),(0,66,0,0),(0,83,0,0),(0,119,0,0),(0,127,0,0),(0,144,0,0),(0,152,0,0),(0,194,0,0),(0,157,0,0),(0,174,0,0),(0,202,0,0),(0,210,0,0),(0,227,0,1)] [] pD_L pD_C pD_Z (prC [21])) [(151,60),(156,62)] 7 [] 4 [(false,[(true,[.inr (2,0,0,0,0),.inr (2,1,0,0,0),.inr (2,2,0,0,0)])]),(false,[(true,[.inr (2,3,0,0,0),.inr (2,4,0,0,0),.inr (2,5,0,0,0),.inr (2,6,0,0,0),.inr (2,7,0,0,0),.inr (2,8,0,0,0),.inr (2,9,0,0,0),.inr (2,10,0,0,0),.inr (2,11,0,0,0)])]),(false,[(true,[.inr (2,12,0,0,0),.inr (2,13,0,0,0),.inr (2,14,0,0,0)])]),(false,[(true,[.inr (2,15,0,0,0),.inr (2,16,0,0,0),.inr (2,17,0,0,0)])])] [] 0).map (·.1) = some (kB true) := by kernel_rfl
theorem pD_r25 : (callC (sx Tryz.prog pD_N [(0,49,0,0),(0,94,0,0),(0,111,0,0),(0,54,0,0),(0,66,0,0),(0,83,0,0),(0,119,0,0),(0,127,0,0),(0,144,0,0),(0,152,0,0),(0,194,0,0),(0,157,0,0),(0,174,0,0),(0,202,0,0),(0,210,0,0),(0,227,0,0),(0,244,0,1),(0,258,0,1),(0,58,0,1)] [] pD_L pD_C pD_Z (prC [21])) [(151,60),(156,62)] 7 [] 4 [(false,[(true,[.inr (2,0,0,0,0),.inr (2,1,0,0,0),.inr (2,2,0,0,0)])]),(false,[(true,[.inr (2,3,0,0,0),.inr (2,4,0,0,0),.inr (2,5,0,0,0),.inr (2,6,0,0,0),.inr (2,7,0,0,0),.inr (2,8,0,0,0),.inr (2,9,0,0,0),.inr (2,10,0,0,0),.inr (2,11,0,0,0)])]),(false,[(true,[.inr (2,12,0,0,0),.inr (2,13,0,0,0),.inr (2,14,0,0,0)])]),(false,[(true,[.inr (2,15,0,0,0),.inr (2,16,0,0,0),.inr (2,17,0,0,0)])])] [] 0).map (·.1) = some (kB true) := by kernel_rfl
theorem pD_r26 : (callC (sx Tryz.prog pD_N [(0,49,0,0),(0,94,0,0),(0,111,0,0),(0,54,0,0),(0,66,0,0),(0,83,0,0),(0,119,0,0),(0,127,0,0),(0,144,0,0),(0,152,0,0),(0,194,0,0),(0,157,0,0),(0,174,0,0),(0,202,0,0),(0,210,0,0),(0,227,0,0),(0,244,0,1),(0,258,0,0),(0,58,0,1)] [] pD_L pD_C pD_Z (prC [21])) [(151,60),(156,62)] 7 [] 4 [(false,[(true,[.inr (2,0,0,0,0),.inr (2,1,0,0,0),.inr (2,2,0,0,0)])]),(false,[(true,[.inr (2,3,0,0,0),.inr (2,4,0,0,0),.inr (2,5,0,0,0),.inr (2,6,0,0,0),.inr (2,7,0,0,0),.inr (2,8,0,0,0),.inr (2,9,0,0,0),.inr (2,10,0,0,0),.inr (2,11,0,0,0)])]),(false,[(true,[.inr (2,12,0,0,0),.inr (2,13,0,0,0),.inr (2,14,0,0,0)])]),(false,[(true,[.inr (2,15,0,0,0),.inr (2,16,0,0,0),.inr (2,17,0,0,0)])])] [] 0).map (·.1) = some (kB true) := by kernel_rfl
theorem pD_r27 : (callC (sx Tryz.prog pD_N [(0,49,0,0),(0,94,0,0),(0,111,0,0),(0,54,0,0),(0,66,0,0),(0,83,0,0),(0,119,0,0),(0,127,0,0),(0,144,0,0),(0,152,0,0),(0,194,0,0),(0,157,0,0),(0,174,0,0),(0,202,0,0),(0,210,0,0),(0,227,0,0),(0,244,0,0),(0,258,0,1),(0,269,0,0),(0,58,0,1)] [] pD_L pD_C pD_Z (prC [21])) [(151,60),(156,62)] 7 [] 4 [(false,[(true,[.inr (2,0,0,0,0),.inr (2,1,0,0,0),.inr (2,2,0,0,0)])]),(false,[(true,[.inr (2,3,0,0,0),.inr (2,4,0,0,0),.inr (2,5,0,0,0),.inr (2,6,0,0,0),.inr (2,7,0,0,0),.inr (2,8,0,0,0),.inr (2,9,0,0,0),.inr (2,10,0,0,0),.inr (2,11,0,0,0)])]),(false,[(true,[.inr (2,12,0,0,0),.inr (2,13,0,0,0),.inr (2,14,0,0,0)])]),(false,[(true,[.inr (2,15,0,0,0),.inr (2,16,0,0,0),.inr (2,17,0,0,0)])])] [] 0).map (·.1) = some (kB true) := by kernel_rfl
theorem pD_r28 : (callC (sx Tryz.prog pD_N [(0,49,0,0),(0,94,0,0),(0,111,0,0),(0,54,0,0),(0,66,0,0),(0,83,0,0),(0,119,0,0),(0,127,0,0),(0,144,0,0),(0,152,0,0),(0,194,0,0),(0,157,0,0),(0,174,0,0),(0,202,0,0),(0,210,0,0),(0,227,0,0),(0,244,0,0),(0,258,0,0),(0,269,0,0),(0,277,0,0),(0,294,0,1)] [] pD_L pD_C pD_Z (prC [21])) [(151,60),(156,62)] 7 [] 4 [(false,[(true,[.inr (2,0,0,0,0),.inr (2,1,0,0,0),.inr (2,2,0,0,0)])]),(false,[(true,[.inr (2,3,0,0,0),.inr (2,4,0,0,0),.inr (2,5,0,0,0),.inr (2,6,0,0,0),.inr (2,7,0,0,0),.inr (2,8,0,0,0),.inr (2,9,0,0,0),.inr (2,10,0,0,0),.inr (2,11,0,0,0)])]),(false,[(true,[.inr (2,12,0,0,0),.inr (2,13,0,0,0),.inr (2,14,0,0,0)])]),(false,[(true,[.inr (2,15,0,0,0),.inr (2,16,0,0,0),.inr (2,17,0,0,0)])])] [] 0).map (·.1) = some (kB true) := by kernel_rfl
theorem pD_r29 : (callC (sx Tryz.prog pD_N [(0,49,0,0),(0,94,0,0),(0,111,0,0),(0,54,0,0),(0,66,0,0),(0,83,0,0),(0,119,0,0),(0,127,0,0),(0,144,0,0),(0,152,0,0),(0,194,0,0),(0,157,0,0),(0,174,0,0),(0,202,0,0),(0,210,0,0),(0,227,0,0),(0,244,0,0),(0,258,0,0),(0,269,0,0),(0,277,0,0),(0,294,0,0),(0,312,0,1)] [(25,[])] pD_L pD_C pD_Z (prC [21])) [(151,60),(156,62)] 7 [] 4 [(false,[(true,[.inr (2,0,0,0,0),.inr (2,1,0,0,0),.inr (2,2,0,0,0)])]),(false,[(true,[.inr (2,3,0,0,0),.inr (2,4,0,0,0),.inr (2,5,0,0,0),.inr (2,6,0,0,0),.inr (2,7,0,0,0),.inr (2,8,0,0,0),.inr (2,9,0,0,0),.inr (2,10,0,0,0),.inr (2,11,0,0,0)])]),(false,[(true,[.inr (2,12,0,0,0),.inr (2,13,0,0,0),.inr (2,14,0,0,0)])]),(false,[(true,[.inr (2,15,0,0,0),.inr (2,16,0,0,0),.inr (2,17,0,0,0)])])] [] 0).map (·.1) = some (kB true) := by kernel_rfl
theorem pD_r30 : (callC (sx Tryz.prog pD_N [(0,49,0,0),(0,94,0,0),(0,111,0,0),(0,54,0,0),(0,66,0,0),(0,83,0,0),(0,119,0,0),(0,127,0,0),(0,144,0,0),(0,152,0,0),(0,194,0,0),(0,157,0,0),(0,174,0,0),(0,202,0,0),(0,210,0,0),(0,227,0,0),(0,244,0,0),(0,258,0,0),(0,269,0,0),(0,277,0,0),(0,294,0,0),(0,312,0,0),(0,327,0,1)] [(25,[])] pD_L pD_C pD_Z (prC [21])) [(151,60),(156,62)] 7 [] 4 [(false,[(true,[.inr (2,0,0,0,0),.inr (2,1,0,0,0),.inr (2,2,0,0,0)])]),(false,[(true,[.inr (2,3,0,0,0),.inr (2,4,0,0,0),.inr (2,5,0,0,0),.inr (2,6,0,0,0),.inr (2,7,0,0,0),.inr (2,8,0,0,0),.inr (2,9,0,0,0),.inr (2,10,0,0,0),.inr (2,11,0,0,0)])]),(false,[(true,[.inr (2,12,0,0,0),.inr (2,13,0,0,0),.inr (2,14,0,0,0)])]),(false,[(true,[.inr (2,15,0,0,0),.inr (2,16,0,0,0),.inr (2,17,0,0,0)])])] [] 0).map (·.1) = some (kB true) := by kernel_rfl
theorem pD_r31 : (callC (sx Tryz.prog pD_N [(0,49,0,0),(0,94,0,0),(0,111,0,0),(0,54,0,0),(0,66,0,0),(0,83,0,0),(0,119,0,0),(0,127,0,0),(0,144,0,0),(0,152,0,0),(0,194,0,0),(0,157,0,0),(0,174,0,0),(0,202,0,0),(0,210,0,0),(0,227,0,0),(0,244,0,0),(0,258,0,0),(0,269,0,0),(0,277,0,0),(0,294,0,0),(0,312,0,0),(0,327,0,0),(0,342,0,0),(0,348,0,0),(0,363,0,0),(0,378,0,1)] [(25,[])] pD_L pD_C pD_Z (prC [21])) [(151,60),(156,62)] 7 [] 4 [(false,[(true,[.inr (2,0,0,0,0),.inr (2,1,0,0,0),.inr (2,2,0,0,0)])]),(false,[(true,[.inr (2,3,0,0,0),.inr (2,4,0,0,0),.inr (2,5,0,0,0),.inr (2,6,0,0,0),.inr (2,7,0,0,0),.inr (2,8,0,0,0),.inr (2,9,0,0,0),.inr (2,10,0,0,0),.inr (2,11,0,0,0)])]),(false,[(true,[.inr (2,12,0,0,0),.inr (2,13,0,0,0),.inr (2,14,0,0,0)])]),(false,[(true,[.inr (2,15,0,0,0),.inr (2,16,0,0,0),.inr (2,17,0,0,0)])])] [] 0).map (·.1) = some (kB true) := by kernel_rfl
theorem pD_An {a b : Prop} (x : a) (y : b) : a ∧ b := ⟨x, y⟩
theorem pD_leaf {H : List (Nat × Nat × Nat × Nat)} {K : List (FuncId × List AC)} {k : Nat} {q : Nat → Rat} {σ : Nat → ByteArray} {args : List AV} {vs : List Value} {w : World} (hr : (callC (sx Tryz.prog pD_N H K pD_L pD_C pD_Z (prC [21])) [(151, 60), (156, 62)] k [] 4 args [] 0).map (·.1) = some (kB true)) (hσ : ∀ j, (σ j).size ≤ 1048576) (hq : ∀ (a : Nat) nd, pD_N[a]? = some nd → q a = valN σ q nd) (h0 : ∀ a, pD_N.length ≤ a → q a = 0) (hH : hAll q H) (hp : PreS w) (hA : ∀ K, A2 (avOn (cOn (evS q σ) K (fun _ => none) w)) args vs) : Calls Tryz.prog 4 vs.toArray w fun e w' => Below w.heap.size w w' ∧ e = .returned (.bool true) :=
 run_toldC' k (hy_ofW hσ pD_wf pD_sz pD_lt pD_cn hq h0 hH) (by simp [closed_projected]) (by kernel_rfl) hr hp (hA K)
theorem pD_walk {w : World} {oa ob oc tau tav taw tbu tbv tbw tcu tcv tcw ka kb kc na nb nc : ByteArray} (soa : oa.size ≤ 1048576) (sob : ob.size ≤ 1048576) (soc : oc.size ≤ 1048576) (stau : tau.size ≤ 1048576) (stav : tav.size ≤ 1048576) (staw : taw.size ≤ 1048576) (stbu : tbu.size ≤ 1048576) (stbv : tbv.size ≤ 1048576) (stbw : tbw.size ≤ 1048576) (stcu : tcu.size ≤ 1048576) (stcv : tcv.size ≤ 1048576) (stcw : tcw.size ≤ 1048576) (ska : ka.size ≤ 1048576) (skb : kb.size ≤ 1048576) (skc : kc.size ≤ 1048576) (sna : na.size ≤ 1048576) (snb : nb.size ≤ 1048576) (snc : nc.size ≤ 1048576) (tab : Tab w) (mx : MaxL w) :
  Calls Tryz.prog 4 #[.agg #[.string oa, .string ob, .string oc], .agg #[.string tau, .string tav, .string taw, .string tbu, .string tbv, .string tbw, .string tcu, .string tcv, .string tcw], .agg #[.string ka, .string kb, .string kc], .agg #[.string na, .string nb, .string nc]] w fun e w' => Below w.heap.size w w' ∧ e = .returned (.bool true) := by
 have hσ : ∀ j, (sgOf [oa, ob, oc, tau, tav, taw, tbu, tbv, tbw, tcu, tcv, tcw, ka, kb, kc, na, nb, nc] j).size ≤ 1048576 := sgOf_size (by simp [soa, sob, soc, stau, stav, staw, stbu, stbv, stbw, stcu, stcv, stcw, ska, skb, skc, sna, snb, snc])
 obtain ⟨q, hq, h0⟩ := nodes_exist (sgOf [oa, ob, oc, tau, tav, taw, tbu, tbv, tbw, tcu, tcv, tcw, ka, kb, kc, na, nb, nc]) pD_N pD_wf
 have hA : ∀ K, A2 (avOn (cOn (evS q (sgOf [oa, ob, oc, tau, tav, taw, tbu, tbv, tbw, tcu, tcv, tcw, ka, kb, kc, na, nb, nc])) K (fun _ => none) w)) [(false, [(true, [.inr (2, 0, 0, 0, 0), .inr (2, 1, 0, 0, 0), .inr (2, 2, 0, 0, 0)])]), (false, [(true, [.inr (2, 3, 0, 0, 0), .inr (2, 4, 0, 0, 0), .inr (2, 5, 0, 0, 0), .inr (2, 6, 0, 0, 0), .inr (2, 7, 0, 0, 0), .inr (2, 8, 0, 0, 0), .inr (2, 9, 0, 0, 0), .inr (2, 10, 0, 0, 0), .inr (2, 11, 0, 0, 0)])]), (false, [(true, [.inr (2, 12, 0, 0, 0), .inr (2, 13, 0, 0, 0), .inr (2, 14, 0, 0, 0)])]), (false, [(true, [.inr (2, 15, 0, 0, 0), .inr (2, 16, 0, 0, 0), .inr (2, 17, 0, 0, 0)])])] [.agg #[.string oa, .string ob, .string oc], .agg #[.string tau, .string tav, .string taw, .string tbu, .string tbv, .string tbw, .string tcu, .string tcv, .string tcw], .agg #[.string ka, .string kb, .string kc], .agg #[.string na, .string nb, .string nc]] := fun K => ⟨⟨⟨[.string oa, .string ob, .string oc], rfl, rfl, rfl, rfl, trivial⟩, trivial⟩, ⟨⟨[.string tau, .string tav, .string taw, .string tbu, .string tbv, .string tbw, .string tcu, .string tcv, .string tcw], rfl, rfl, rfl, rfl, rfl, rfl, rfl, rfl, rfl, rfl, trivial⟩, trivial⟩, ⟨⟨[.string ka, .string kb, .string kc], rfl, rfl, rfl, rfl, trivial⟩, trivial⟩, ⟨⟨[.string na, .string nb, .string nc], rfl, rfl, rfl, rfl, trivial⟩, trivial⟩, trivial⟩
 have E7 : q 7=q 6*q 0 := hq 7 _ rfl
 have E9 : q 9=q 8*q 3 := hq 9 _ rfl
 have E10 : q 10=q 7+q 9 := hq 10 _ rfl
 have E11 : q 11=q 6*q 1 := hq 11 _ rfl
 have E12 : q 12=q 8*q 4 := hq 12 _ rfl
 have E13 : q 13=q 11+q 12 := hq 13 _ rfl
 have E14 : q 14=q 6*q 2 := hq 14 _ rfl
 have E15 : q 15=q 8*q 5 := hq 15 _ rfl
 have E16 : q 16=q 14+q 15 := hq 16 _ rfl
 have E21 : q 21=q 20*q 0 := hq 21 _ rfl
 have E23 : q 23=q 22*q 17 := hq 23 _ rfl
 have E24 : q 24=q 21+q 23 := hq 24 _ rfl
 have E25 : q 25=q 20*q 1 := hq 25 _ rfl
 have E26 : q 26=q 22*q 18 := hq 26 _ rfl
 have E27 : q 27=q 25+q 26 := hq 27 _ rfl
 have E28 : q 28=q 20*q 2 := hq 28 _ rfl
 have E29 : q 29=q 22*q 19 := hq 29 _ rfl
 have E30 : q 30=q 28+q 29 := hq 30 _ rfl
 have E35 : q 35=q 34*q 0 := hq 35 _ rfl
 have E37 : q 37=q 36*q 31 := hq 37 _ rfl
 have E38 : q 38=q 35+q 37 := hq 38 _ rfl
 have E39 : q 39=q 34*q 1 := hq 39 _ rfl
 have E40 : q 40=q 36*q 32 := hq 40 _ rfl
 have E41 : q 41=q 39+q 40 := hq 41 _ rfl
 have E42 : q 42=q 34*q 2 := hq 42 _ rfl
 have E43 : q 43=q 36*q 33 := hq 43 _ rfl
 have E44 : q 44=q 42+q 43 := hq 44 _ rfl
 have E55 : q 55=0 := (hq 55 _ rfl).trans pD_c55
 have E59 : q 59=q 10*fac [q 10,q 13,q 16] := hq 59 _ rfl
 have E60 : q 60=q 13*fac [q 10,q 13,q 16] := hq 60 _ rfl
 have E61 : q 61=q 16*fac [q 10,q 13,q 16] := hq 61 _ rfl
 have E67 : q 67=q 24*fac [q 24,q 27,q 30] := hq 67 _ rfl
 have E68 : q 68=q 27*fac [q 24,q 27,q 30] := hq 68 _ rfl
 have E69 : q 69=q 30*fac [q 24,q 27,q 30] := hq 69 _ rfl
 have E70 : q 70=q 60*q 69 := hq 70 _ rfl
 have E71 : q 71=q 61*q 68 := hq 71 _ rfl
 have E72 : q 72=q 70-q 71 := hq 72 _ rfl
 have E73 : q 73=q 61*q 67 := hq 73 _ rfl
 have E74 : q 74=q 59*q 69 := hq 74 _ rfl
 have E75 : q 75=q 73-q 74 := hq 75 _ rfl
 have E76 : q 76=q 59*q 68 := hq 76 _ rfl
 have E77 : q 77=q 60*q 67 := hq 77 _ rfl
 have E78 : q 78=q 76-q 77 := hq 78 _ rfl
 have E84 : q 84=q 72*fac [q 72,q 75,q 78] := hq 84 _ rfl
 have E85 : q 85=q 75*fac [q 72,q 75,q 78] := hq 85 _ rfl
 have E86 : q 86=q 78*fac [q 72,q 75,q 78] := hq 86 _ rfl
 have E87 : q 87=q 3*fac [q 3,q 4,q 5] := hq 87 _ rfl
 have E88 : q 88=q 4*fac [q 3,q 4,q 5] := hq 88 _ rfl
 have E89 : q 89=q 5*fac [q 3,q 4,q 5] := hq 89 _ rfl
 have E95 : q 95=q 17*fac [q 17,q 18,q 19] := hq 95 _ rfl
 have E96 : q 96=q 18*fac [q 17,q 18,q 19] := hq 96 _ rfl
 have E97 : q 97=q 19*fac [q 17,q 18,q 19] := hq 97 _ rfl
 have E98 : q 98=q 88*q 97 := hq 98 _ rfl
 have E99 : q 99=q 89*q 96 := hq 99 _ rfl
 have E100 : q 100=q 98-q 99 := hq 100 _ rfl
 have E101 : q 101=q 89*q 95 := hq 101 _ rfl
 have E102 : q 102=q 87*q 97 := hq 102 _ rfl
 have E103 : q 103=q 101-q 102 := hq 103 _ rfl
 have E104 : q 104=q 87*q 96 := hq 104 _ rfl
 have E105 : q 105=q 88*q 95 := hq 105 _ rfl
 have E106 : q 106=q 104-q 105 := hq 106 _ rfl
 have E112 : q 112=q 100*fac [q 100,q 103,q 106] := hq 112 _ rfl
 have E113 : q 113=q 103*fac [q 100,q 103,q 106] := hq 113 _ rfl
 have E114 : q 114=q 106*fac [q 100,q 103,q 106] := hq 114 _ rfl
 have E120 : q 120=q 112*fac [q 112,q 113,q 114] := hq 120 _ rfl
 have E121 : q 121=q 113*fac [q 112,q 113,q 114] := hq 121 _ rfl
 have E122 : q 122=q 114*fac [q 112,q 113,q 114] := hq 122 _ rfl
 have E128 : q 128=q 84*fac [q 84,q 85,q 86] := hq 128 _ rfl
 have E129 : q 129=q 85*fac [q 84,q 85,q 86] := hq 129 _ rfl
 have E130 : q 130=q 86*fac [q 84,q 85,q 86] := hq 130 _ rfl
 have E131 : q 131=q 121*q 130 := hq 131 _ rfl
 have E132 : q 132=q 122*q 129 := hq 132 _ rfl
 have E133 : q 133=q 131-q 132 := hq 133 _ rfl
 have E134 : q 134=q 122*q 128 := hq 134 _ rfl
 have E135 : q 135=q 120*q 130 := hq 135 _ rfl
 have E136 : q 136=q 134-q 135 := hq 136 _ rfl
 have E137 : q 137=q 120*q 129 := hq 137 _ rfl
 have E138 : q 138=q 121*q 128 := hq 138 _ rfl
 have E139 : q 139=q 137-q 138 := hq 139 _ rfl
 have E145 : q 145=q 133*fac [q 133,q 136,q 139] := hq 145 _ rfl
 have E146 : q 146=q 136*fac [q 133,q 136,q 139] := hq 146 _ rfl
 have E147 : q 147=q 139*fac [q 133,q 136,q 139] := hq 147 _ rfl
 have E158 : q 158=q 38*fac [q 38,q 41,q 44] := hq 158 _ rfl
 have E159 : q 159=q 41*fac [q 38,q 41,q 44] := hq 159 _ rfl
 have E160 : q 160=q 44*fac [q 38,q 41,q 44] := hq 160 _ rfl
 have E161 : q 161=q 68*q 160 := hq 161 _ rfl
 have E162 : q 162=q 69*q 159 := hq 162 _ rfl
 have E163 : q 163=q 161-q 162 := hq 163 _ rfl
 have E164 : q 164=q 69*q 158 := hq 164 _ rfl
 have E165 : q 165=q 67*q 160 := hq 165 _ rfl
 have E166 : q 166=q 164-q 165 := hq 166 _ rfl
 have E167 : q 167=q 67*q 159 := hq 167 _ rfl
 have E168 : q 168=q 68*q 158 := hq 168 _ rfl
 have E169 : q 169=q 167-q 168 := hq 169 _ rfl
 have E175 : q 175=q 163*fac [q 163,q 166,q 169] := hq 175 _ rfl
 have E176 : q 176=q 166*fac [q 163,q 166,q 169] := hq 176 _ rfl
 have E177 : q 177=q 169*fac [q 163,q 166,q 169] := hq 177 _ rfl
 have E178 : q 178=q 31*fac [q 31,q 32,q 33] := hq 178 _ rfl
 have E179 : q 179=q 32*fac [q 31,q 32,q 33] := hq 179 _ rfl
 have E180 : q 180=q 33*fac [q 31,q 32,q 33] := hq 180 _ rfl
 have E181 : q 181=q 96*q 180 := hq 181 _ rfl
 have E182 : q 182=q 97*q 179 := hq 182 _ rfl
 have E183 : q 183=q 181-q 182 := hq 183 _ rfl
 have E184 : q 184=q 97*q 178 := hq 184 _ rfl
 have E185 : q 185=q 95*q 180 := hq 185 _ rfl
 have E186 : q 186=q 184-q 185 := hq 186 _ rfl
 have E187 : q 187=q 95*q 179 := hq 187 _ rfl
 have E188 : q 188=q 96*q 178 := hq 188 _ rfl
 have E189 : q 189=q 187-q 188 := hq 189 _ rfl
 have E195 : q 195=q 183*fac [q 183,q 186,q 189] := hq 195 _ rfl
 have E196 : q 196=q 186*fac [q 183,q 186,q 189] := hq 196 _ rfl
 have E197 : q 197=q 189*fac [q 183,q 186,q 189] := hq 197 _ rfl
 have E203 : q 203=q 195*fac [q 195,q 196,q 197] := hq 203 _ rfl
 have E204 : q 204=q 196*fac [q 195,q 196,q 197] := hq 204 _ rfl
 have E205 : q 205=q 197*fac [q 195,q 196,q 197] := hq 205 _ rfl
 have E211 : q 211=q 175*fac [q 175,q 176,q 177] := hq 211 _ rfl
 have E212 : q 212=q 176*fac [q 175,q 176,q 177] := hq 212 _ rfl
 have E213 : q 213=q 177*fac [q 175,q 176,q 177] := hq 213 _ rfl
 have E214 : q 214=q 204*q 213 := hq 214 _ rfl
 have E215 : q 215=q 205*q 212 := hq 215 _ rfl
 have E216 : q 216=q 214-q 215 := hq 216 _ rfl
 have E217 : q 217=q 205*q 211 := hq 217 _ rfl
 have E218 : q 218=q 203*q 213 := hq 218 _ rfl
 have E219 : q 219=q 217-q 218 := hq 219 _ rfl
 have E220 : q 220=q 203*q 212 := hq 220 _ rfl
 have E221 : q 221=q 204*q 211 := hq 221 _ rfl
 have E222 : q 222=q 220-q 221 := hq 222 _ rfl
 have E228 : q 228=q 216*fac [q 216,q 219,q 222] := hq 228 _ rfl
 have E229 : q 229=q 219*fac [q 216,q 219,q 222] := hq 229 _ rfl
 have E230 : q 230=q 222*fac [q 216,q 219,q 222] := hq 230 _ rfl
 have E231 : q 231=q 179*q 89 := hq 231 _ rfl
 have E232 : q 232=q 180*q 88 := hq 232 _ rfl
 have E233 : q 233=q 231-q 232 := hq 233 _ rfl
 have E234 : q 234=q 180*q 87 := hq 234 _ rfl
 have E235 : q 235=q 178*q 89 := hq 235 _ rfl
 have E236 : q 236=q 234-q 235 := hq 236 _ rfl
 have E237 : q 237=q 178*q 88 := hq 237 _ rfl
 have E238 : q 238=q 179*q 87 := hq 238 _ rfl
 have E239 : q 239=q 237-q 238 := hq 239 _ rfl
 have E245 : q 245=q 159*q 61 := hq 245 _ rfl
 have E246 : q 246=q 160*q 60 := hq 246 _ rfl
 have E247 : q 247=q 245-q 246 := hq 247 _ rfl
 have E248 : q 248=q 160*q 59 := hq 248 _ rfl
 have E249 : q 249=q 158*q 61 := hq 249 _ rfl
 have E250 : q 250=q 248-q 249 := hq 250 _ rfl
 have E251 : q 251=q 158*q 60 := hq 251 _ rfl
 have E252 : q 252=q 159*q 59 := hq 252 _ rfl
 have E253 : q 253=q 251-q 252 := hq 253 _ rfl
 have E259 : q 259=q 247*fac [q 247,q 250,q 253] := hq 259 _ rfl
 have E260 : q 260=q 250*fac [q 247,q 250,q 253] := hq 260 _ rfl
 have E261 : q 261=q 253*fac [q 247,q 250,q 253] := hq 261 _ rfl
 have E262 : q 262=q 233*fac [q 233,q 236,q 239] := hq 262 _ rfl
 have E263 : q 263=q 236*fac [q 233,q 236,q 239] := hq 263 _ rfl
 have E264 : q 264=q 239*fac [q 233,q 236,q 239] := hq 264 _ rfl
 have E270 : q 270=q 262*fac [q 262,q 263,q 264] := hq 270 _ rfl
 have E271 : q 271=q 263*fac [q 262,q 263,q 264] := hq 271 _ rfl
 have E272 : q 272=q 264*fac [q 262,q 263,q 264] := hq 272 _ rfl
 have E278 : q 278=q 259*fac [q 259,q 260,q 261] := hq 278 _ rfl
 have E279 : q 279=q 260*fac [q 259,q 260,q 261] := hq 279 _ rfl
 have E280 : q 280=q 261*fac [q 259,q 260,q 261] := hq 280 _ rfl
 have E281 : q 281=q 271*q 280 := hq 281 _ rfl
 have E282 : q 282=q 272*q 279 := hq 282 _ rfl
 have E283 : q 283=q 281-q 282 := hq 283 _ rfl
 have E284 : q 284=q 272*q 278 := hq 284 _ rfl
 have E285 : q 285=q 270*q 280 := hq 285 _ rfl
 have E286 : q 286=q 284-q 285 := hq 286 _ rfl
 have E287 : q 287=q 270*q 279 := hq 287 _ rfl
 have E288 : q 288=q 271*q 278 := hq 288 _ rfl
 have E289 : q 289=q 287-q 288 := hq 289 _ rfl
 have E295 : q 295=q 283*fac [q 283,q 286,q 289] := hq 295 _ rfl
 have E296 : q 296=q 286*fac [q 283,q 286,q 289] := hq 296 _ rfl
 have E297 : q 297=q 289*fac [q 283,q 286,q 289] := hq 297 _ rfl
 have E298 : q 298=q 18*q 33 := hq 298 _ rfl
 have E299 : q 299=q 19*q 32 := hq 299 _ rfl
 have E300 : q 300=q 298-q 299 := hq 300 _ rfl
 have E302 : q 302=q 17*q 33 := hq 302 _ rfl
 have E303 : q 303=q 19*q 31 := hq 303 _ rfl
 have E304 : q 304=q 302-q 303 := hq 304 _ rfl
 have E307 : q 307=q 17*q 32 := hq 307 _ rfl
 have E308 : q 308=q 18*q 31 := hq 308 _ rfl
 have E309 : q 309=q 307-q 308 := hq 309 _ rfl
 have E328 : q 328=q 4*q 19 := hq 328 _ rfl
 have E329 : q 329=q 5*q 18 := hq 329 _ rfl
 have E330 : q 330=q 328-q 329 := hq 330 _ rfl
 have E331 : q 331=q 0*q 330 := hq 331 _ rfl
 have E332 : q 332=q 3*q 19 := hq 332 _ rfl
 have E333 : q 333=q 5*q 17 := hq 333 _ rfl
 have E334 : q 334=q 332-q 333 := hq 334 _ rfl
 have E335 : q 335=q 1*q 334 := hq 335 _ rfl
 have E336 : q 336=-q 335 := hq 336 _ rfl
 have E337 : q 337=q 3*q 18 := hq 337 _ rfl
 have E338 : q 338=q 4*q 17 := hq 338 _ rfl
 have E339 : q 339=q 337-q 338 := hq 339 _ rfl
 have E340 : q 340=q 2*q 339 := hq 340 _ rfl
 have E341 : q 341=q 331+q 336 := hq 341 _ rfl
 have E342 : q 342=q 341+q 340 := hq 342 _ rfl
 have E343 : q 343=q 0*q 300 := hq 343 _ rfl
 have E344 : q 344=q 1*q 304 := hq 344 _ rfl
 have E345 : q 345=-q 344 := hq 345 _ rfl
 have E346 : q 346=q 2*q 309 := hq 346 _ rfl
 have E347 : q 347=q 343+q 345 := hq 347 _ rfl
 have E348 : q 348=q 347+q 346 := hq 348 _ rfl
 have E349 : q 349=q 32*q 5 := hq 349 _ rfl
 have E350 : q 350=q 33*q 4 := hq 350 _ rfl
 have E351 : q 351=q 349-q 350 := hq 351 _ rfl
 have E352 : q 352=q 0*q 351 := hq 352 _ rfl
 have E353 : q 353=q 31*q 5 := hq 353 _ rfl
 have E354 : q 354=q 33*q 3 := hq 354 _ rfl
 have E355 : q 355=q 353-q 354 := hq 355 _ rfl
 have E356 : q 356=q 1*q 355 := hq 356 _ rfl
 have E357 : q 357=-q 356 := hq 357 _ rfl
 have E358 : q 358=q 31*q 4 := hq 358 _ rfl
 have E359 : q 359=q 32*q 3 := hq 359 _ rfl
 have E360 : q 360=q 358-q 359 := hq 360 _ rfl
 have E361 : q 361=q 2*q 360 := hq 361 _ rfl
 have E362 : q 362=q 352+q 357 := hq 362 _ rfl
 have E363 : q 363=q 362+q 361 := hq 363 _ rfl
 have E364 : q 364=q 229*q 297 := hq 364 _ rfl
 have E365 : q 365=q 230*q 296 := hq 365 _ rfl
 have E366 : q 366=q 364-q 365 := hq 366 _ rfl
 have E367 : q 367=q 145*q 366 := hq 367 _ rfl
 have E368 : q 368=q 228*q 297 := hq 368 _ rfl
 have E369 : q 369=q 230*q 295 := hq 369 _ rfl
 have E370 : q 370=q 368-q 369 := hq 370 _ rfl
 have E371 : q 371=q 146*q 370 := hq 371 _ rfl
 have E372 : q 372=-q 371 := hq 372 _ rfl
 have E373 : q 373=q 228*q 296 := hq 373 _ rfl
 have E374 : q 374=q 229*q 295 := hq 374 _ rfl
 have E375 : q 375=q 373-q 374 := hq 375 _ rfl
 have E376 : q 376=q 147*q 375 := hq 376 _ rfl
 have E377 : q 377=q 367+q 372 := hq 377 _ rfl
 have E378 : q 378=q 377+q 376 := hq 378 _ rfl
 have Q49 : q 49 = 0 ↔ ((q 3 = 0 ∧ q 4 = 0) ∧ q 5 = 0) := (sq_next (sq_next (sq_first (hq 45 _ rfl)) (hq 46 _ rfl) (hq 47 _ rfl)) (hq 48 _ rfl) (hq 49 _ rfl)).2
 have Q54 : q 54 = 0 ↔ ((q 10 = 0 ∧ q 13 = 0) ∧ q 16 = 0) := (sq_next (sq_next (sq_first (hq 50 _ rfl)) (hq 51 _ rfl) (hq 52 _ rfl)) (hq 53 _ rfl) (hq 54 _ rfl)).2
 have Q58 : q 58 = 0 ↔ ((q 55 = 0 ∧ q 55 = 0) ∧ q 55 = 0) := (sq_next (sq_next (sq_first (hq 56 _ rfl)) (hq 56 _ rfl) (hq 57 _ rfl)) (hq 56 _ rfl) (hq 58 _ rfl)).2
 have Q66 : q 66 = 0 ↔ ((q 24 = 0 ∧ q 27 = 0) ∧ q 30 = 0) := (sq_next (sq_next (sq_first (hq 62 _ rfl)) (hq 63 _ rfl) (hq 64 _ rfl)) (hq 65 _ rfl) (hq 66 _ rfl)).2
 have Q83 : q 83 = 0 ↔ ((q 72 = 0 ∧ q 75 = 0) ∧ q 78 = 0) := (sq_next (sq_next (sq_first (hq 79 _ rfl)) (hq 80 _ rfl) (hq 81 _ rfl)) (hq 82 _ rfl) (hq 83 _ rfl)).2
 have Q94 : q 94 = 0 ↔ ((q 17 = 0 ∧ q 18 = 0) ∧ q 19 = 0) := (sq_next (sq_next (sq_first (hq 90 _ rfl)) (hq 91 _ rfl) (hq 92 _ rfl)) (hq 93 _ rfl) (hq 94 _ rfl)).2
 have Q111 : q 111 = 0 ↔ ((q 100 = 0 ∧ q 103 = 0) ∧ q 106 = 0) := (sq_next (sq_next (sq_first (hq 107 _ rfl)) (hq 108 _ rfl) (hq 109 _ rfl)) (hq 110 _ rfl) (hq 111 _ rfl)).2
 have Q119 : q 119 = 0 ↔ ((q 112 = 0 ∧ q 113 = 0) ∧ q 114 = 0) := (sq_next (sq_next (sq_first (hq 115 _ rfl)) (hq 116 _ rfl) (hq 117 _ rfl)) (hq 118 _ rfl) (hq 119 _ rfl)).2
 have Q127 : q 127 = 0 ↔ ((q 84 = 0 ∧ q 85 = 0) ∧ q 86 = 0) := (sq_next (sq_next (sq_first (hq 123 _ rfl)) (hq 124 _ rfl) (hq 125 _ rfl)) (hq 126 _ rfl) (hq 127 _ rfl)).2
 have Q144 : q 144 = 0 ↔ ((q 133 = 0 ∧ q 136 = 0) ∧ q 139 = 0) := (sq_next (sq_next (sq_first (hq 140 _ rfl)) (hq 141 _ rfl) (hq 142 _ rfl)) (hq 143 _ rfl) (hq 144 _ rfl)).2
 have Q152 : q 152 = 0 ↔ ((q 31 = 0 ∧ q 32 = 0) ∧ q 33 = 0) := (sq_next (sq_next (sq_first (hq 148 _ rfl)) (hq 149 _ rfl) (hq 150 _ rfl)) (hq 151 _ rfl) (hq 152 _ rfl)).2
 have Q157 : q 157 = 0 ↔ ((q 38 = 0 ∧ q 41 = 0) ∧ q 44 = 0) := (sq_next (sq_next (sq_first (hq 153 _ rfl)) (hq 154 _ rfl) (hq 155 _ rfl)) (hq 156 _ rfl) (hq 157 _ rfl)).2
 have Q174 : q 174 = 0 ↔ ((q 163 = 0 ∧ q 166 = 0) ∧ q 169 = 0) := (sq_next (sq_next (sq_first (hq 170 _ rfl)) (hq 171 _ rfl) (hq 172 _ rfl)) (hq 173 _ rfl) (hq 174 _ rfl)).2
 have Q194 : q 194 = 0 ↔ ((q 183 = 0 ∧ q 186 = 0) ∧ q 189 = 0) := (sq_next (sq_next (sq_first (hq 190 _ rfl)) (hq 191 _ rfl) (hq 192 _ rfl)) (hq 193 _ rfl) (hq 194 _ rfl)).2
 have Q202 : q 202 = 0 ↔ ((q 195 = 0 ∧ q 196 = 0) ∧ q 197 = 0) := (sq_next (sq_next (sq_first (hq 198 _ rfl)) (hq 199 _ rfl) (hq 200 _ rfl)) (hq 201 _ rfl) (hq 202 _ rfl)).2
 have Q210 : q 210 = 0 ↔ ((q 175 = 0 ∧ q 176 = 0) ∧ q 177 = 0) := (sq_next (sq_next (sq_first (hq 206 _ rfl)) (hq 207 _ rfl) (hq 208 _ rfl)) (hq 209 _ rfl) (hq 210 _ rfl)).2
 have Q227 : q 227 = 0 ↔ ((q 216 = 0 ∧ q 219 = 0) ∧ q 222 = 0) := (sq_next (sq_next (sq_first (hq 223 _ rfl)) (hq 224 _ rfl) (hq 225 _ rfl)) (hq 226 _ rfl) (hq 227 _ rfl)).2
 have Q244 : q 244 = 0 ↔ ((q 233 = 0 ∧ q 236 = 0) ∧ q 239 = 0) := (sq_next (sq_next (sq_first (hq 240 _ rfl)) (hq 241 _ rfl) (hq 242 _ rfl)) (hq 243 _ rfl) (hq 244 _ rfl)).2
 have Q258 : q 258 = 0 ↔ ((q 247 = 0 ∧ q 250 = 0) ∧ q 253 = 0) := (sq_next (sq_next (sq_first (hq 254 _ rfl)) (hq 255 _ rfl) (hq 256 _ rfl)) (hq 257 _ rfl) (hq 258 _ rfl)).2
 have Q269 : q 269 = 0 ↔ ((q 262 = 0 ∧ q 263 = 0) ∧ q 264 = 0) := (sq_next (sq_next (sq_first (hq 265 _ rfl)) (hq 266 _ rfl) (hq 267 _ rfl)) (hq 268 _ rfl) (hq 269 _ rfl)).2
 have Q277 : q 277 = 0 ↔ ((q 259 = 0 ∧ q 260 = 0) ∧ q 261 = 0) := (sq_next (sq_next (sq_first (hq 273 _ rfl)) (hq 274 _ rfl) (hq 275 _ rfl)) (hq 276 _ rfl) (hq 277 _ rfl)).2
 have Q294 : q 294 = 0 ↔ ((q 283 = 0 ∧ q 286 = 0) ∧ q 289 = 0) := (sq_next (sq_next (sq_first (hq 290 _ rfl)) (hq 291 _ rfl) (hq 292 _ rfl)) (hq 293 _ rfl) (hq 294 _ rfl)).2
 by_cases b49 : q 49 = 0
 ·
  by_cases b54 : q 54 = 0
  ·
   have b58 : q 58 = 0 := pD_f1 E55 Q58
   exact pD_leaf pD_r0 hσ hq h0 (pD_An (hT b49) (pD_An (hT b54) (pD_An (hT b58) trivial))) ⟨tab, mx⟩ hA
  ·
   by_cases b66 : q 66 = 0
   ·
    have b58 : q 58 = 0 := pD_f1 E55 Q58
    exact pD_leaf pD_r1 hσ hq h0 (pD_An (hT b49) (pD_An (hF b54) (pD_An (hT b66) (pD_An (hT b58) trivial)))) ⟨tab, mx⟩ hA
   ·
    by_cases b83 : q 83 = 0
    ·
     have b58 : q 58 = 0 := pD_f1 E55 Q58
     exact pD_leaf pD_r2 hσ hq h0 (pD_An (hT b49) (pD_An (hF b54) (pD_An (hF b66) (pD_An (hT b83) (pD_An (hT b58) trivial))))) ⟨tab, mx⟩ hA
    ·
     have b58 : q 58 = 0 := pD_f1 E55 Q58
     exact pD_leaf pD_r3 hσ hq h0 (pD_An (hT b49) (pD_An (hF b54) (pD_An (hF b66) (pD_An (hF b83) (pD_An (hT b58) trivial))))) ⟨tab, mx⟩ hA
 ·
  by_cases b94 : q 94 = 0
  ·
   by_cases b54 : q 54 = 0
   ·
    have b58 : q 58 = 0 := pD_f1 E55 Q58
    exact pD_leaf pD_r4 hσ hq h0 (pD_An (hF b49) (pD_An (hT b94) (pD_An (hT b54) (pD_An (hT b58) trivial)))) ⟨tab, mx⟩ hA
   ·
    by_cases b66 : q 66 = 0
    ·
     have b58 : q 58 = 0 := pD_f1 E55 Q58
     exact pD_leaf pD_r5 hσ hq h0 (pD_An (hF b49) (pD_An (hT b94) (pD_An (hF b54) (pD_An (hT b66) (pD_An (hT b58) trivial))))) ⟨tab, mx⟩ hA
    ·
     by_cases b83 : q 83 = 0
     ·
      have b58 : q 58 = 0 := pD_f1 E55 Q58
      exact pD_leaf pD_r6 hσ hq h0 (pD_An (hF b49) (pD_An (hT b94) (pD_An (hF b54) (pD_An (hF b66) (pD_An (hT b83) (pD_An (hT b58) trivial)))))) ⟨tab, mx⟩ hA
     ·
      have b58 : q 58 = 0 := pD_f1 E55 Q58
      exact pD_leaf pD_r7 hσ hq h0 (pD_An (hF b49) (pD_An (hT b94) (pD_An (hF b54) (pD_An (hF b66) (pD_An (hF b83) (pD_An (hT b58) trivial)))))) ⟨tab, mx⟩ hA
  ·
   by_cases b111 : q 111 = 0
   ·
    by_cases b54 : q 54 = 0
    ·
     have b58 : q 58 = 0 := pD_f1 E55 Q58
     exact pD_leaf pD_r8 hσ hq h0 (pD_An (hF b49) (pD_An (hF b94) (pD_An (hT b111) (pD_An (hT b54) (pD_An (hT b58) trivial))))) ⟨tab, mx⟩ hA
    ·
     by_cases b66 : q 66 = 0
     ·
      have b58 : q 58 = 0 := pD_f1 E55 Q58
      exact pD_leaf pD_r9 hσ hq h0 (pD_An (hF b49) (pD_An (hF b94) (pD_An (hT b111) (pD_An (hF b54) (pD_An (hT b66) (pD_An (hT b58) trivial)))))) ⟨tab, mx⟩ hA
     ·
      by_cases b83 : q 83 = 0
      ·
       have b58 : q 58 = 0 := pD_f1 E55 Q58
       exact pD_leaf pD_r10 hσ hq h0 (pD_An (hF b49) (pD_An (hF b94) (pD_An (hT b111) (pD_An (hF b54) (pD_An (hF b66) (pD_An (hT b83) (pD_An (hT b58) trivial))))))) ⟨tab, mx⟩ hA
      ·
       have b58 : q 58 = 0 := pD_f1 E55 Q58
       exact pD_leaf pD_r11 hσ hq h0 (pD_An (hF b49) (pD_An (hF b94) (pD_An (hT b111) (pD_An (hF b54) (pD_An (hF b66) (pD_An (hF b83) (pD_An (hT b58) trivial))))))) ⟨tab, mx⟩ hA
   ·
    by_cases b54 : q 54 = 0
    ·
     have b119 : ¬ (q 119 = 0) := pD_f2 Q49 E87 E88 E89 Q94 E95 E96 E97 E98 E99 E100 E101 E102 E103 E104 E105 E106 Q111 E112 E113 E114 Q119 b49 b94 b111
     have b58 : q 58 = 0 := pD_f1 E55 Q58
     exact pD_leaf pD_r12 hσ hq h0 (pD_An (hF b49) (pD_An (hF b94) (pD_An (hF b111) (pD_An (hT b54) (pD_An (hF b119) (pD_An (hT b58) trivial)))))) ⟨tab, mx⟩ hA
    ·
     by_cases b66 : q 66 = 0
     ·
      have b119 : ¬ (q 119 = 0) := pD_f2 Q49 E87 E88 E89 Q94 E95 E96 E97 E98 E99 E100 E101 E102 E103 E104 E105 E106 Q111 E112 E113 E114 Q119 b49 b94 b111
      have b58 : q 58 = 0 := pD_f1 E55 Q58
      exact pD_leaf pD_r13 hσ hq h0 (pD_An (hF b49) (pD_An (hF b94) (pD_An (hF b111) (pD_An (hF b54) (pD_An (hT b66) (pD_An (hF b119) (pD_An (hT b58) trivial))))))) ⟨tab, mx⟩ hA
     ·
      by_cases b83 : q 83 = 0
      ·
       have b119 : ¬ (q 119 = 0) := pD_f2 Q49 E87 E88 E89 Q94 E95 E96 E97 E98 E99 E100 E101 E102 E103 E104 E105 E106 Q111 E112 E113 E114 Q119 b49 b94 b111
       have b58 : q 58 = 0 := pD_f1 E55 Q58
       exact pD_leaf pD_r14 hσ hq h0 (pD_An (hF b49) (pD_An (hF b94) (pD_An (hF b111) (pD_An (hF b54) (pD_An (hF b66) (pD_An (hT b83) (pD_An (hF b119) (pD_An (hT b58) trivial)))))))) ⟨tab, mx⟩ hA
      ·
       have b119 : ¬ (q 119 = 0) := pD_f2 Q49 E87 E88 E89 Q94 E95 E96 E97 E98 E99 E100 E101 E102 E103 E104 E105 E106 Q111 E112 E113 E114 Q119 b49 b94 b111
       have b127 : ¬ (q 127 = 0) := pD_f3 E7 E9 E10 E11 E12 E13 E14 E15 E16 E21 E23 E24 E25 E26 E27 E28 E29 E30 Q54 E59 E60 E61 Q66 E67 E68 E69 E70 E71 E72 E73 E74 E75 E76 E77 E78 Q83 E84 E85 E86 Q127 b54 b66 b83
       by_cases b144 : q 144 = 0
       ·
        exact pD_leaf pD_r15 hσ hq h0 (pD_An (hF b49) (pD_An (hF b94) (pD_An (hF b111) (pD_An (hF b54) (pD_An (hF b66) (pD_An (hF b83) (pD_An (hF b119) (pD_An (hF b127) (pD_An (hT b144) trivial))))))))) ⟨tab, mx⟩ hA
       ·
        by_cases b152 : q 152 = 0
        ·
         by_cases b157 : q 157 = 0
         ·
          have b58 : q 58 = 0 := pD_f1 E55 Q58
          exact pD_leaf pD_r16 hσ hq h0 (pD_An (hF b49) (pD_An (hF b94) (pD_An (hF b111) (pD_An (hF b54) (pD_An (hF b66) (pD_An (hF b83) (pD_An (hF b119) (pD_An (hF b127) (pD_An (hF b144) (pD_An (hT b152) (pD_An (hT b157) (pD_An (hT b58) trivial)))))))))))) ⟨tab, mx⟩ hA
         ·
          by_cases b174 : q 174 = 0
          ·
           have b58 : q 58 = 0 := pD_f1 E55 Q58
           exact pD_leaf pD_r17 hσ hq h0 (pD_An (hF b49) (pD_An (hF b94) (pD_An (hF b111) (pD_An (hF b54) (pD_An (hF b66) (pD_An (hF b83) (pD_An (hF b119) (pD_An (hF b127) (pD_An (hF b144) (pD_An (hT b152) (pD_An (hF b157) (pD_An (hT b174) (pD_An (hT b58) trivial))))))))))))) ⟨tab, mx⟩ hA
          ·
           have b58 : q 58 = 0 := pD_f1 E55 Q58
           exact pD_leaf pD_r18 hσ hq h0 (pD_An (hF b49) (pD_An (hF b94) (pD_An (hF b111) (pD_An (hF b54) (pD_An (hF b66) (pD_An (hF b83) (pD_An (hF b119) (pD_An (hF b127) (pD_An (hF b144) (pD_An (hT b152) (pD_An (hF b157) (pD_An (hF b174) (pD_An (hT b58) trivial))))))))))))) ⟨tab, mx⟩ hA
        ·
         by_cases b194 : q 194 = 0
         ·
          by_cases b157 : q 157 = 0
          ·
           have b58 : q 58 = 0 := pD_f1 E55 Q58
           exact pD_leaf pD_r19 hσ hq h0 (pD_An (hF b49) (pD_An (hF b94) (pD_An (hF b111) (pD_An (hF b54) (pD_An (hF b66) (pD_An (hF b83) (pD_An (hF b119) (pD_An (hF b127) (pD_An (hF b144) (pD_An (hF b152) (pD_An (hT b194) (pD_An (hT b157) (pD_An (hT b58) trivial))))))))))))) ⟨tab, mx⟩ hA
          ·
           by_cases b174 : q 174 = 0
           ·
            have b58 : q 58 = 0 := pD_f1 E55 Q58
            exact pD_leaf pD_r20 hσ hq h0 (pD_An (hF b49) (pD_An (hF b94) (pD_An (hF b111) (pD_An (hF b54) (pD_An (hF b66) (pD_An (hF b83) (pD_An (hF b119) (pD_An (hF b127) (pD_An (hF b144) (pD_An (hF b152) (pD_An (hT b194) (pD_An (hF b157) (pD_An (hT b174) (pD_An (hT b58) trivial)))))))))))))) ⟨tab, mx⟩ hA
           ·
            have b58 : q 58 = 0 := pD_f1 E55 Q58
            exact pD_leaf pD_r21 hσ hq h0 (pD_An (hF b49) (pD_An (hF b94) (pD_An (hF b111) (pD_An (hF b54) (pD_An (hF b66) (pD_An (hF b83) (pD_An (hF b119) (pD_An (hF b127) (pD_An (hF b144) (pD_An (hF b152) (pD_An (hT b194) (pD_An (hF b157) (pD_An (hF b174) (pD_An (hT b58) trivial)))))))))))))) ⟨tab, mx⟩ hA
         ·
          by_cases b157 : q 157 = 0
          ·
           have b202 : ¬ (q 202 = 0) := pD_f4 Q94 E95 E96 E97 Q152 E178 E179 E180 E181 E182 E183 E184 E185 E186 E187 E188 E189 Q194 E195 E196 E197 Q202 b94 b152 b194
           have b58 : q 58 = 0 := pD_f1 E55 Q58
           exact pD_leaf pD_r22 hσ hq h0 (pD_An (hF b49) (pD_An (hF b94) (pD_An (hF b111) (pD_An (hF b54) (pD_An (hF b66) (pD_An (hF b83) (pD_An (hF b119) (pD_An (hF b127) (pD_An (hF b144) (pD_An (hF b152) (pD_An (hF b194) (pD_An (hT b157) (pD_An (hF b202) (pD_An (hT b58) trivial)))))))))))))) ⟨tab, mx⟩ hA
          ·
           by_cases b174 : q 174 = 0
           ·
            have b202 : ¬ (q 202 = 0) := pD_f4 Q94 E95 E96 E97 Q152 E178 E179 E180 E181 E182 E183 E184 E185 E186 E187 E188 E189 Q194 E195 E196 E197 Q202 b94 b152 b194
            have b58 : q 58 = 0 := pD_f1 E55 Q58
            exact pD_leaf pD_r23 hσ hq h0 (pD_An (hF b49) (pD_An (hF b94) (pD_An (hF b111) (pD_An (hF b54) (pD_An (hF b66) (pD_An (hF b83) (pD_An (hF b119) (pD_An (hF b127) (pD_An (hF b144) (pD_An (hF b152) (pD_An (hF b194) (pD_An (hF b157) (pD_An (hT b174) (pD_An (hF b202) (pD_An (hT b58) trivial))))))))))))))) ⟨tab, mx⟩ hA
           ·
            have b202 : ¬ (q 202 = 0) := pD_f4 Q94 E95 E96 E97 Q152 E178 E179 E180 E181 E182 E183 E184 E185 E186 E187 E188 E189 Q194 E195 E196 E197 Q202 b94 b152 b194
            have b210 : ¬ (q 210 = 0) := pD_f5 E21 E23 E24 E25 E26 E27 E28 E29 E30 E35 E37 E38 E39 E40 E41 E42 E43 E44 Q66 E67 E68 E69 Q157 E158 E159 E160 E161 E162 E163 E164 E165 E166 E167 E168 E169 Q174 E175 E176 E177 Q210 b66 b157 b174
            by_cases b227 : q 227 = 0
            ·
             exact pD_leaf pD_r24 hσ hq h0 (pD_An (hF b49) (pD_An (hF b94) (pD_An (hF b111) (pD_An (hF b54) (pD_An (hF b66) (pD_An (hF b83) (pD_An (hF b119) (pD_An (hF b127) (pD_An (hF b144) (pD_An (hF b152) (pD_An (hF b194) (pD_An (hF b157) (pD_An (hF b174) (pD_An (hF b202) (pD_An (hF b210) (pD_An (hT b227) trivial)))))))))))))))) ⟨tab, mx⟩ hA
            ·
             by_cases b244 : q 244 = 0
             ·
              by_cases b258 : q 258 = 0
              ·
               have b58 : q 58 = 0 := pD_f1 E55 Q58
               exact pD_leaf pD_r25 hσ hq h0 (pD_An (hF b49) (pD_An (hF b94) (pD_An (hF b111) (pD_An (hF b54) (pD_An (hF b66) (pD_An (hF b83) (pD_An (hF b119) (pD_An (hF b127) (pD_An (hF b144) (pD_An (hF b152) (pD_An (hF b194) (pD_An (hF b157) (pD_An (hF b174) (pD_An (hF b202) (pD_An (hF b210) (pD_An (hF b227) (pD_An (hT b244) (pD_An (hT b258) (pD_An (hT b58) trivial))))))))))))))))))) ⟨tab, mx⟩ hA
              ·
               have b58 : q 58 = 0 := pD_f1 E55 Q58
               exact pD_leaf pD_r26 hσ hq h0 (pD_An (hF b49) (pD_An (hF b94) (pD_An (hF b111) (pD_An (hF b54) (pD_An (hF b66) (pD_An (hF b83) (pD_An (hF b119) (pD_An (hF b127) (pD_An (hF b144) (pD_An (hF b152) (pD_An (hF b194) (pD_An (hF b157) (pD_An (hF b174) (pD_An (hF b202) (pD_An (hF b210) (pD_An (hF b227) (pD_An (hT b244) (pD_An (hF b258) (pD_An (hT b58) trivial))))))))))))))))))) ⟨tab, mx⟩ hA
             ·
              by_cases b258 : q 258 = 0
              ·
               have b269 : ¬ (q 269 = 0) := pD_f6 Q49 E87 E88 E89 Q152 E178 E179 E180 E231 E232 E233 E234 E235 E236 E237 E238 E239 Q244 E262 E263 E264 Q269 b49 b152 b244
               have b58 : q 58 = 0 := pD_f1 E55 Q58
               exact pD_leaf pD_r27 hσ hq h0 (pD_An (hF b49) (pD_An (hF b94) (pD_An (hF b111) (pD_An (hF b54) (pD_An (hF b66) (pD_An (hF b83) (pD_An (hF b119) (pD_An (hF b127) (pD_An (hF b144) (pD_An (hF b152) (pD_An (hF b194) (pD_An (hF b157) (pD_An (hF b174) (pD_An (hF b202) (pD_An (hF b210) (pD_An (hF b227) (pD_An (hF b244) (pD_An (hT b258) (pD_An (hF b269) (pD_An (hT b58) trivial)))))))))))))))))))) ⟨tab, mx⟩ hA
              ·
               have b269 : ¬ (q 269 = 0) := pD_f6 Q49 E87 E88 E89 Q152 E178 E179 E180 E231 E232 E233 E234 E235 E236 E237 E238 E239 Q244 E262 E263 E264 Q269 b49 b152 b244
               have b277 : ¬ (q 277 = 0) := pD_f7 E7 E9 E10 E11 E12 E13 E14 E15 E16 E35 E37 E38 E39 E40 E41 E42 E43 E44 Q54 E59 E60 E61 Q157 E158 E159 E160 E245 E246 E247 E248 E249 E250 E251 E252 E253 Q258 E259 E260 E261 Q277 b54 b157 b258
               by_cases b294 : q 294 = 0
               ·
                exact pD_leaf pD_r28 hσ hq h0 (pD_An (hF b49) (pD_An (hF b94) (pD_An (hF b111) (pD_An (hF b54) (pD_An (hF b66) (pD_An (hF b83) (pD_An (hF b119) (pD_An (hF b127) (pD_An (hF b144) (pD_An (hF b152) (pD_An (hF b194) (pD_An (hF b157) (pD_An (hF b174) (pD_An (hF b202) (pD_An (hF b210) (pD_An (hF b227) (pD_An (hF b244) (pD_An (hF b258) (pD_An (hF b269) (pD_An (hF b277) (pD_An (hT b294) trivial))))))))))))))))))))) ⟨tab, mx⟩ hA
               ·
                by_cases b312 : q 312 = 0
                ·
                 exact pD_leaf pD_r29 hσ hq h0 (pD_An (hF b49) (pD_An (hF b94) (pD_An (hF b111) (pD_An (hF b54) (pD_An (hF b66) (pD_An (hF b83) (pD_An (hF b119) (pD_An (hF b127) (pD_An (hF b144) (pD_An (hF b152) (pD_An (hF b194) (pD_An (hF b157) (pD_An (hF b174) (pD_An (hF b202) (pD_An (hF b210) (pD_An (hF b227) (pD_An (hF b244) (pD_An (hF b258) (pD_An (hF b269) (pD_An (hF b277) (pD_An (hF b294) (pD_An (hT b312) trivial)))))))))))))))))))))) ⟨tab, mx⟩ hA
                ·
                 by_cases b327 : q 327 = 0
                 ·
                  exact pD_leaf pD_r30 hσ hq h0 (pD_An (hF b49) (pD_An (hF b94) (pD_An (hF b111) (pD_An (hF b54) (pD_An (hF b66) (pD_An (hF b83) (pD_An (hF b119) (pD_An (hF b127) (pD_An (hF b144) (pD_An (hF b152) (pD_An (hF b194) (pD_An (hF b157) (pD_An (hF b174) (pD_An (hF b202) (pD_An (hF b210) (pD_An (hF b227) (pD_An (hF b244) (pD_An (hF b258) (pD_An (hF b269) (pD_An (hF b277) (pD_An (hF b294) (pD_An (hF b312) (pD_An (hT b327) trivial))))))))))))))))))))))) ⟨tab, mx⟩ hA
                 ·
                  have b342 : ¬ (q 342 = 0) := pD_f8 E7 E9 E10 E11 E12 E13 E14 E15 E16 E21 E23 E24 E25 E26 E27 E28 E29 E30 Q49 Q54 E59 E60 E61 Q66 E67 E68 E69 E70 E71 E72 E73 E74 E75 E76 E77 E78 Q83 E84 E85 E86 E87 E88 E89 Q94 E95 E96 E97 E98 E99 E100 E101 E102 E103 E104 E105 E106 Q111 E112 E113 E114 E120 E121 E122 E128 E129 E130 E131 E132 E133 E134 E135 E136 E137 E138 E139 Q144 E328 E329 E330 E331 E332 E333 E334 E335 E336 E337 E338 E339 E340 E341 E342 b49 b94 b111 b54 b66 b83 b144
                  have b348 : ¬ (q 348 = 0) := pD_f9 E21 E23 E24 E25 E26 E27 E28 E29 E30 E35 E37 E38 E39 E40 E41 E42 E43 E44 Q66 E67 E68 E69 Q94 E95 E96 E97 Q152 Q157 E158 E159 E160 E161 E162 E163 E164 E165 E166 E167 E168 E169 Q174 E175 E176 E177 E178 E179 E180 E181 E182 E183 E184 E185 E186 E187 E188 E189 Q194 E195 E196 E197 E203 E204 E205 E211 E212 E213 E214 E215 E216 E217 E218 E219 E220 E221 E222 Q227 E298 E299 E300 E302 E303 E304 E307 E308 E309 E343 E344 E345 E346 E347 E348 b94 b66 b152 b194 b157 b174 b227
                  have b363 : ¬ (q 363 = 0) := pD_f10 E7 E9 E10 E11 E12 E13 E14 E15 E16 E35 E37 E38 E39 E40 E41 E42 E43 E44 Q49 Q54 E59 E60 E61 E87 E88 E89 Q152 Q157 E158 E159 E160 E178 E179 E180 E231 E232 E233 E234 E235 E236 E237 E238 E239 Q244 E245 E246 E247 E248 E249 E250 E251 E252 E253 Q258 E259 E260 E261 E262 E263 E264 E270 E271 E272 E278 E279 E280 E281 E282 E283 E284 E285 E286 E287 E288 E289 Q294 E349 E350 E351 E352 E353 E354 E355 E356 E357 E358 E359 E360 E361 E362 E363 b49 b54 b152 b157 b244 b258 b294
                  have b378 : q 378 = 0 := pD_f11 E7 E9 E10 E11 E12 E13 E14 E15 E16 E21 E23 E24 E25 E26 E27 E28 E29 E30 E35 E37 E38 E39 E40 E41 E42 E43 E44 Q49 Q54 E59 E60 E61 Q66 E67 E68 E69 E70 E71 E72 E73 E74 E75 E76 E77 E78 Q83 E84 E85 E86 E87 E88 E89 Q94 E95 E96 E97 E98 E99 E100 E101 E102 E103 E104 E105 E106 Q111 E112 E113 E114 E120 E121 E122 E128 E129 E130 E131 E132 E133 E134 E135 E136 E137 E138 E139 Q144 E145 E146 E147 Q152 Q157 E158 E159 E160 E161 E162 E163 E164 E165 E166 E167 E168 E169 Q174 E175 E176 E177 E178 E179 E180 E181 E182 E183 E184 E185 E186 E187 E188 E189 Q194 E195 E196 E197 E203 E204 E205 E211 E212 E213 E214 E215 E216 E217 E218 E219 E220 E221 E222 Q227 E228 E229 E230 E231 E232 E233 E234 E235 E236 E237 E238 E239 Q244 E245 E246 E247 E248 E249 E250 E251 E252 E253 Q258 E259 E260 E261 E262 E263 E264 E270 E271 E272 E278 E279 E280 E281 E282 E283 E284 E285 E286 E287 E288 E289 Q294 E295 E296 E297 E364 E365 E366 E367 E368 E369 E370 E371 E372 E373 E374 E375 E376 E377 E378 b49 b94 b111 b54 b66 b83 b144 b152 b194 b157 b174 b227 b244 b258 b294
                  exact pD_leaf pD_r31 hσ hq h0 (pD_An (hF b49) (pD_An (hF b94) (pD_An (hF b111) (pD_An (hF b54) (pD_An (hF b66) (pD_An (hF b83) (pD_An (hF b119) (pD_An (hF b127) (pD_An (hF b144) (pD_An (hF b152) (pD_An (hF b194) (pD_An (hF b157) (pD_An (hF b174) (pD_An (hF b202) (pD_An (hF b210) (pD_An (hF b227) (pD_An (hF b244) (pD_An (hF b258) (pD_An (hF b269) (pD_An (hF b277) (pD_An (hF b294) (pD_An (hF b312) (pD_An (hF b327) (pD_An (hF b342) (pD_An (hF b348) (pD_An (hF b363) (pD_An (hT b378) trivial))))))))))))))))))))))))))) ⟨tab, mx⟩ hA
end Go.Proofs.YtkcikcnimkofkaaGreatDoor
