/- Part 13 of the walks and of the mathematics under them: VP VPC CFprojected MPP. -/
import Derived.Test.YtioacnhbiinjbaaGreatDoorA2
import Derived.Test.YtioacnhbiinjbaaGreatDoorA12
set_option maxHeartbeats 16000000
set_option maxRecDepth 100000
/- VP -/
namespace Cx
open Go Go.RowKit
abbrev Hs := List (Nat × Nat × Nat × Nat)
def Sx.plus (S : Sx) (X : Hs) : Sx := { S with H := X ++ S.H }
abbrev Ask := Nat × Nat × Nat × Nat
def askZ (a : Nat) : Ask := (0, a, 0, a)
def askOk (S : Sx) : Ask → Bool
 | (k, a, b, d) => (Nat.beq k 0 && (Nat.beq b 0 && Nat.beq d a)) || (Nat.beq k 3 && (match S.N[d]? with
  | some (op, ar) => Nat.beq op 3 && beqL ar [a, b]
  | none => false))
def sqF (S : Sx) : Nat → List Nat → Option Nat
 | s, [] => some s
 | s, a :: l => (S.nd 4 [a, a]).bind fun b => (S.nd 2 [s, b]).bind fun t => sqF S t l
def sqN (S : Sx) : List Nat → Option Nat
 | [] => none
 | a :: l => (S.nd 4 [a, a]).bind fun s => sqF S s l
def acrossB (S : Sx) (a b : Nat) : List Nat → List Nat → Option (List Ask)
 | c :: l, d :: m => (S.nd 4 [a, d]).bind fun x => (S.nd 4 [c, b]).bind fun y => (S.nd 3 [x, y]).bind fun z => (acrossB S a b l m).map fun r => (3, x, y, z) :: r
 | _, _ => some []
def alikeB (S : Sx) : List Nat → List Nat → List Nat → List Nat → Option (List Ask)
 | pl, pm, a :: l, b :: m => (acrossB S a b pl pm).bind fun r => (alikeB S (pl ++ [a]) (pm ++ [b]) l m).map fun t => r ++ t
 | _, _, _, _ => some []
def asks (S : Sx) (h : List HB) (code : Nat) (args : List AV) : Option (List Ask) :=
 match code with
 | 60 => arg1 (fun x => (asA x).bind fun cs => (qRow S cs).map fun l => l.map askZ) args
 | 61 => arg1 (fun x => (rowB h 1 x).bind fun p => (mapO (acX 0) p.2).map fun l => l.map askZ) args
 | 62 => arg2 (fun x y => (rowB h 1 x).bind fun p => (mapO (acX 0) p.2).bind fun l => (rowB h 1 y).bind fun p' => (mapO (acX 0) p'.2).bind fun m => alikeB S [] [] l m) args
 | 63 => arg1 (fun x => (asA x).bind fun cs => (mapO acTold cs).bind fun l => (plainOf S l).map fun xs => xs.map askZ) args
 | _ => none
def splits : List Ask → Hs → List Hs
 | [], _ => []
 | (k, a, b, _) :: l, X => ((k, a, b, 0) :: X) :: splits l ((k, a, b, 1) :: X)
def allZ : List Ask → Hs → Hs
 | [], X => X
 | (k, a, b, _) :: l, X => allZ l ((k, a, b, 1) :: X)
def bodyC (S : Sx) (call : CallF) : CallF := fun f args h nx => S.P.funcs[f]?.bind fun fn => fn.body.bind fun c => ifO (Nat.ble args.length fn.ntmps) ((runB S call fn.ntmps c { tm := numb1 0 args, h := h, nx := nx }).bind fun r =>
   ifO (Nat.beq r.1 1) ((mapO (resB S.P r.2) fn.results.toList).map fun xs => (tupB xs, r.2.h, r.2.nx)))
abbrev CRes := Option (AV × List HB × Nat)
def agree (h : List HB) (b : Bool) (hi : Nat) : CRes → Bool
 | some (v, h', nx') => (match asB v with
  | some c => b == c
  | none => false) && (Nat.ble nx' hi && h.all fun x => h'.any fun y => Nat.beq y.1 x.1 && acsW x.2 y.2)
 | none => false
def topN : Nat → List CRes → Nat
 | m, [] => m
 | m, some p :: rs => topN (bif Nat.ble m p.2.2 then p.2.2 else m) rs
 | m, none :: rs => topN m rs
def joinC (h : List HB) (nx : Nat) (rs : List CRes) : CRes :=
 match rs with
 | some p :: _ => (asB p.1).bind fun b => ifO (rs.all (agree h b (topN nx rs))) (some (kB b, h, topN nx rs))
 | _ => none
def callC (S : Sx) (cs : List (FuncId × Nat)) : Nat → Hs → CallF
 | 0, _, _, _, _, _ => none
 | n + 1, X, f, args, h, nx => match prGet f cs with
  | none => bodyC (S.plus X) (callC S cs n X) f args h nx
  | some c => (asks (S.plus X) h c args).bind fun l => ifO (l.all (askOk S)) ((sqN S (l.map (·.2.2.2))).bind fun s => ((S.plus X).kn 0 s 0).bind fun r =>
    bif Nat.beq 1 r then bodyC (S.plus (allZ l X)) (callC S cs n (allZ l X)) f args h nx
    else joinC h nx ((splits l X).map fun X' => bodyC (S.plus X') (callC S cs n X') f args h nx))
section
variable {S : Sx} {E : Ev S.nb} {w0 : World}
theorem bodyC_ok {call : CallF} (hm : S.P.follows .mixedOrders = true) (N : Knows S E) (hP : PrimOk S E w0) (hC : CallOk S E w0 call) : CallOk S E w0 (bodyC S call) := fun f args h nx p hp γ w vs hi hA hb hlt hf => by
 unfold bodyC at hp
 simp only [Option.bind_eq_some_iff, ifO_some, Option.map_eq_some_iff, Nat.ble_eq, Nat.beq_eq] at hp
 obtain ⟨fn, h1, c, h2, h3, ⟨e, s'⟩, h4, h5, xs, h6, rfl⟩ := hp
 dsimp only at h5 h6
 subst h5
 obtain ⟨_, _, r⟩ := runB_ok hm N hP hC c _ _ _ h4
 refine calls_of_wp h1 h2 (r γ _ w _ ⟨hi, fun t v q => ?_, hb, hlt, ?_, rfl⟩ hf fun a' w' γ' hef hs => ?_)
 ·obtain ⟨_, q2⟩ := numb1_get q
  rw [Nat.sub_zero] at q2
  obtain ⟨u, hu, hv⟩ := hA.get q2
  have hlt : t < vs.length := (List.getElem?_eq_some_iff.1 hu).1
  have : (vs.toArray ++ Array.replicate (fn.ntmps - vs.toArray.size) undef).getD t undef = u := by
   rw [Array.getD_eq_getD_getElem?, Array.getElem?_append_left (by simpa using hlt)]
   simp [hu]
  show avOn _ v ((vs.toArray ++ Array.replicate (fn.ntmps - vs.toArray.size) undef).getD t undef)
  rw [this]
  exact hv
 ·have := hA.len
  simp
  omega
 ·obtain ⟨v, hv, hx⟩ := results_run hs h6
  exact ⟨hs.df, v, hv, v, γ', rfl, hef, hx, hs.bx⟩
theorem asB_kB {v : AV} {b : Bool} (h : asB v = some b) : v = kB b := by
 unfold asB at h
 rw [Option.bind_eq_some_iff] at h
 obtain ⟨c, h1, h2⟩ := h
 unfold asC at h1
 split at h1
 ·cases h1
  unfold acB at h2
  split at h2
  ·cases h2
   rfl
  ·cases h2
 ·cases h1
theorem agree_some {h : List HB} {b : Bool} {hi : Nat} {r : CRes} (hr : agree h b hi r = true) : ∃ h' nx', r = some (kB b, h', nx') ∧ nx' ≤ hi ∧ ∀ x ∈ h, x ∈ h' := by
 unfold agree at hr
 split at hr
 ·rename_i v h' nx'
  rw [Bool.and_eq_true, Bool.and_eq_true, Nat.ble_eq, List.all_eq_true] at hr
  obtain ⟨h1, h2, h3⟩ := hr
  refine ⟨h', nx', ?_, h2, fun x hx => ?_⟩
  ·split at h1
   ·rename_i c hc
    rw [asB_kB hc, show c = b from (by simpa using h1 : b = c).symm]
   ·cases h1
  ·have := h3 x hx
   rw [List.any_eq_true] at this
   obtain ⟨y, hy, e⟩ := this
   rw [Bool.and_eq_true, Nat.beq_eq] at e
   have : x = y := Prod.ext e.1.symm (acsW_eq e.2)
   rw [this]
   exact hy
 ·cases hr
variable {T : Hs → Prop} {z : Nat → Prop}
def AskTrue (S : Sx) (T : Hs → Prop) (z : Nat → Prop) : Prop := ∀ X, T X → ∀ a, askOk S a = true → (z a.2.2.2 → T ((a.1, a.2.1, a.2.2.1, 1) :: X)) ∧ (¬ z a.2.2.2 → T ((a.1, a.2.1, a.2.2.1, 0) :: X))
theorem allZ_true (hk : AskTrue S T z) : ∀ {l : List Ask} {X : Hs}, T X → (∀ a ∈ l, askOk S a = true) → (∀ a ∈ l, z a.2.2.2) → T (allZ l X)
 | [], _, h, _, _ => h
 | (k, a, b, d) :: l, X, h, ho, hz => allZ_true (l := l) hk ((hk X h (k, a, b, d) (ho _ List.mem_cons_self)).1 (hz _ List.mem_cons_self)) (fun a ha => ho a (List.mem_cons_of_mem _ ha)) (fun a ha => hz a (List.mem_cons_of_mem _ ha))
theorem splits_true (hk : AskTrue S T z) : ∀ {l : List Ask} {X : Hs}, T X → (∀ a ∈ l, askOk S a = true) → (∃ a ∈ l, ¬ z a.2.2.2) → ∃ X' ∈ splits l X, T X'
 | [], _, _, _, ⟨_, h, _⟩ => by cases h
 | (k, a, b, d) :: l, X, h, ho, hz => by
  by_cases e : z d
  ·obtain ⟨X', h1, h2⟩ := splits_true (l := l) hk ((hk X h (k, a, b, d) (ho _ List.mem_cons_self)).1 e) (fun a ha => ho a (List.mem_cons_of_mem _ ha)) (by
    obtain ⟨c, hc, hn⟩ := hz
    rcases List.mem_cons.1 hc with rfl | hc
    ·exact (hn e).elim
    ·exact ⟨c, hc, hn⟩)
   exact ⟨X', List.mem_cons_of_mem _ h1, h2⟩
  ·exact ⟨_, List.mem_cons_self, (hk X h (k, a, b, d) (ho _ List.mem_cons_self)).2 e⟩
theorem callC_ok {cs : List (FuncId × Nat)} (hm : S.P.follows .mixedOrders = true) (hN : ∀ X, T X → Knows (S.plus X) E) (hP : ∀ X, T X → PrimOk (S.plus X) E w0) (hk : AskTrue S T z)
  (hs : ∀ X, T X → ∀ l s r, sqN S l = some s → (S.plus X).kn 0 s 0 = some r → (Nat.beq 1 r = true → ∀ d ∈ l, z d) ∧ (Nat.beq 1 r = false → ∃ d ∈ l, ¬ z d)) : ∀ n X, T X → CallOk S E w0 (callC S cs n X)
 | 0, _, _ => fun _ _ _ _ _ h => by cases h
 | n + 1, X, hX => fun f args h nx p hp => by
  have body : ∀ Y, T Y → CallOk S E w0 (bodyC (S.plus Y) (callC S cs n Y)) := fun Y hY => bodyC_ok (S := S.plus Y) hm (hN Y hY) (hP Y hY) (callC_ok hm hN hP hk hs n Y hY)
  unfold callC at hp
  split at hp
  ·exact body X hX f args h nx p hp
  ·simp only [Option.bind_eq_some_iff, ifO_some, List.all_eq_true] at hp
   obtain ⟨l, _, hl, s, h1, r, h2, h3⟩ := hp
   obtain ⟨a1, a0⟩ := hs X hX _ s r h1 h2
   cases e : Nat.beq 1 r with
   | true =>
    rw [e] at h3
    exact body _ (allZ_true hk hX hl fun a ha => a1 e _ (List.mem_map_of_mem ha)) f args h nx p h3
   | false =>
    rw [e] at h3
    obtain ⟨d, hd, hz⟩ := a0 e
    obtain ⟨a, ha, rfl⟩ := List.mem_map.1 hd
    obtain ⟨X', m1, m2⟩ := splits_true hk hX hl ⟨a, ha, hz⟩
    replace h3 : joinC h nx ((splits l X).map fun X' => bodyC (S.plus X') (callC S cs n X') f args h nx) = some p := h3
    unfold joinC at h3
    split at h3
    ·rename_i p0 rs hrs
     rw [Option.bind_eq_some_iff] at h3
     obtain ⟨b, hb, h4⟩ := h3
     rw [ifO_some, List.all_eq_true] at h4
     obtain ⟨h5, h6⟩ := h4
     cases h6
     obtain ⟨h', nx', q1, q2, q3⟩ := agree_some (h5 _ (List.mem_map_of_mem m1))
     intro γ w vs hi hA hb hlt hf
     refine (body X' m2 f args h nx _ q1 γ w vs hi hA hb hlt fun b g1 g2 => hf b g1 (Nat.lt_of_lt_of_le g2 q2)).mono ?_
     rintro _ w' ⟨r', γ', rfl, hef, hv, hx⟩
     exact ⟨r', γ', rfl, hef.wide (Nat.le_refl _) q2, hv, fun x hh => hx x (q3 x hh)⟩
    ·cases h3
end
end Cx
/- VPC -/
namespace Go.Proofs.YtioacnhbiinjbaaGreatDoor
open Cx Go Go.RowKit
section
variable {N : List Nd} {H : List (Nat × Nat × Nat × Nat)} {K : List (FuncId × List AC)} {L C : List (List Nat × Nat)} {Z : List Nat} {q : Nat → Rat} {σ : Nat → ByteArray} {w0 : World} {cl : List FuncId} {cs pr : List (FuncId × Nat)}
theorem kn_cons {k a b k' a' b' r' : Nat} {r : Nat} (h : knFrom k a b ((k', a', b', r') :: H) = some r) : (k = k' ∧ a = a' ∧ b = b' ∧ r = r') ∨ knFrom k a b H = some r := by
 unfold knFrom at h
 cases e : (Nat.beq k k' && (Nat.beq a a' && Nat.beq b b')) with
 | true =>
  rw [e] at h
  simp only [Bool.and_eq_true, Nat.beq_eq] at e
  exact Or.inl ⟨e.1, e.2.1, e.2.2, (Option.some.inj h).symm⟩
 | false =>
  rw [e] at h
  exact Or.inr h
theorem Hy.add0 (Y : Hy N H L C Z q σ) {a r : Nat} (h : Nat.beq 1 r = true ↔ q a = 0) : Hy N ((0, a, 0, r) :: H) L C Z q σ where
 nat := Y.nat
 qs := Y.qs
 zs := Y.zs
 par := Y.par
 lit := Y.lit
 k0 := fun a' r' g => by
  rcases kn_cons g with ⟨_, e1, _, e2⟩ | g
  ·rw [e1, e2]
   exact h
  ·exact Y.k0 a' r' g
 k1 := fun a' r' g => by
  rcases kn_cons g with ⟨e, _⟩ | g
  ·cases e
  ·exact Y.k1 a' r' g
 k2 := fun a' r' g => by
  rcases kn_cons g with ⟨e, _⟩ | g
  ·cases e
  ·exact Y.k2 a' r' g
 k4 := fun l a' b' r' g1 g => by
  rcases kn_cons g with ⟨e, _⟩ | g
  ·cases e
  ·exact Y.k4 l a' b' r' g1 g
 k3 := fun a' b' r' g => by
  rcases kn_cons g with ⟨e, _⟩ | g
  ·cases e
  ·exact Y.k3 a' b' r' g
 k6 := fun a' b' r' g => by
  rcases kn_cons g with ⟨e, _⟩ | g
  ·cases e
  ·exact Y.k6 a' b' r' g
 k5 := fun a' r' g => by
  rcases kn_cons g with ⟨e, _⟩ | g
  ·cases e
  ·exact Y.k5 a' r' g
theorem Hy.add3 (Y : Hy N H L C Z q σ) {a b r : Nat} (h : Nat.beq 1 r = true ↔ q a = q b) : Hy N ((3, a, b, r) :: H) L C Z q σ where
 nat := Y.nat
 qs := Y.qs
 zs := Y.zs
 par := Y.par
 lit := Y.lit
 k0 := fun a' r' g => by
  rcases kn_cons g with ⟨e, _⟩ | g
  ·cases e
  ·exact Y.k0 a' r' g
 k1 := fun a' r' g => by
  rcases kn_cons g with ⟨e, _⟩ | g
  ·cases e
  ·exact Y.k1 a' r' g
 k2 := fun a' r' g => by
  rcases kn_cons g with ⟨e, _⟩ | g
  ·cases e
  ·exact Y.k2 a' r' g
 k4 := fun l a' b' r' g1 g => by
  rcases kn_cons g with ⟨e, _⟩ | g
  ·cases e
  ·exact Y.k4 l a' b' r' g1 g
 k3 := fun a' b' r' g => by
  rcases kn_cons g with ⟨_, e1, e2, e3⟩ | g
  ·rw [e1, e2, e3]
   exact h
  ·exact Y.k3 a' b' r' g
 k6 := fun a' b' r' g => by
  rcases kn_cons g with ⟨e, _⟩ | g
  ·cases e
  ·exact Y.k6 a' b' r' g
 k5 := fun a' r' g => by
  rcases kn_cons g with ⟨e, _⟩ | g
  ·cases e
  ·exact Y.k5 a' r' g
theorem ask_true : AskTrue (sx Tryz.prog N H K L C Z pr) (fun X => Hy N (X ++ H) L C Z q σ) (fun d => q d = 0) := fun X Y a ha => by
 obtain ⟨k, a, b, d⟩ := a
 have t1 : Nat.beq 1 1 = true := rfl
 have t0 : Nat.beq 1 0 ≠ true := fun h => by cases h
 unfold askOk at ha
 rw [Bool.or_eq_true] at ha
 rcases ha with ha | ha
 ·simp only [Bool.and_eq_true, Nat.beq_eq] at ha
  obtain ⟨rfl, rfl, rfl⟩ := ha
  exact ⟨fun h => Hy.add0 Y ⟨fun _ => h, fun _ => t1⟩, fun h => Hy.add0 Y ⟨fun g => (t0 g).elim, fun g => (h g).elim⟩⟩
 ·rw [Bool.and_eq_true, Nat.beq_eq] at ha
  obtain ⟨rfl, hb⟩ := ha
  split at hb
  ·rename_i op ar hn
   rw [Bool.and_eq_true, Nat.beq_eq] at hb
   obtain ⟨rfl, hb⟩ := hb
   have e := beqL_eq hb
   subst e
   have hv : q d = q a - q b := Y.nat d _ hn
   have h2 : q d = 0 ↔ q a = q b := by
    rw [hv]
    constructor <;> intro h <;> grind
   exact ⟨fun h => Hy.add3 Y ⟨fun _ => h2.1 h, fun _ => t1⟩, fun h => Hy.add3 Y ⟨fun g => (t0 g).elim, fun g => (h (h2.2 g)).elim⟩⟩
  ·cases hb
theorem sq_nn (y : Rat) : 0 ≤ y * y := by
 by_cases h : y = 0
 ·rw [h, Rat.zero_mul]
  exact Rat.le_refl
 ·exact Rat.le_of_lt (sq1_pos h)
theorem sq_sum {x y : Rat} (hx : 0 ≤ x) : x + y * y = 0 ↔ x = 0 ∧ y = 0 := by
 constructor
 ·intro h
  have h2 := sq_nn y
  have h3 : x = 0 := by grind
  refine ⟨h3, ?_⟩
  have : y * y = 0 := by grind
  rcases Rat.mul_eq_zero.1 this with g | g <;> exact g
 ·rintro ⟨rfl, rfl⟩
  grind
theorem sqF_val {H' : List (Nat × Nat × Nat × Nat)} (Y : Hy N H' L C Z q σ) : ∀ {l : List Nat} {s t : Nat}, sqF (sx Tryz.prog N H K L C Z pr) s l = some t → 0 ≤ q s → 0 ≤ q t ∧ (q t = 0 ↔ q s = 0 ∧ ∀ d ∈ l, q d = 0)
 | [], s, t, h, hs => by
  cases h
  exact ⟨hs, fun e => ⟨e, fun d hd => by cases hd⟩, fun e => e.1⟩
 | a :: l, s, t, h, hs => by
  unfold sqF at h
  simp only [Option.bind_eq_some_iff] at h
  obtain ⟨b, h1, c, h2, h3⟩ := h
  have e1 : q b = q a * q a := Hy.nd (H := H') (K := K) (pr := pr) Y h1
  have e2 : q c = q s + q b := Hy.nd (H := H') (K := K) (pr := pr) Y h2
  have n := sq_nn (q a)
  obtain ⟨g1, g2⟩ := sqF_val Y h3 (by grind)
  refine ⟨g1, g2.trans ?_⟩
  have e3 := sq_sum (y := q a) hs
  rw [e2, e1, e3]
  constructor
  ·rintro ⟨⟨x, y⟩, z⟩
   refine ⟨x, fun d hd => ?_⟩
   rcases List.mem_cons.1 hd with rfl | hd
   ·exact y
   ·exact z d hd
  ·rintro ⟨x, y⟩
   exact ⟨⟨x, y a List.mem_cons_self⟩, fun d hd => y d (List.mem_cons_of_mem _ hd)⟩
theorem sqN_val {H' : List (Nat × Nat × Nat × Nat)} (Y : Hy N H' L C Z q σ) {l : List Nat} {s : Nat} (h : sqN (sx Tryz.prog N H K L C Z pr) l = some s) : q s = 0 ↔ ∀ d ∈ l, q d = 0 := by
 unfold sqN at h
 split at h
 ·cases h
 ·rename_i a l
  rw [Option.bind_eq_some_iff] at h
  obtain ⟨b, h1, h2⟩ := h
  have e1 : q b = q a * q a := Hy.nd (H := H') (K := K) (pr := pr) Y h1
  have n := sq_nn (q a)
  obtain ⟨_, g⟩ := sqF_val Y h2 (by grind)
  rw [g, e1]
  constructor
  ·rintro ⟨x, y⟩ d hd
   rcases List.mem_cons.1 hd with rfl | hd
   ·rcases Rat.mul_eq_zero.1 x with x | x <;> exact x
   ·exact y d hd
  ·intro y
   refine ⟨?_, fun d hd => y d (List.mem_cons_of_mem _ hd)⟩
   rw [y a List.mem_cons_self, Rat.zero_mul]
theorem run_cases {f : FuncId} {args : List AV} {vs : List Value} {k : Nat} {p : List HB × Nat} {b : Bool} (Y : Hy N H L C Z q σ) (hm : (Tryz.prog).follows .mixedOrders = true) {w : World} (hP : ∀ H', Hy N H' L C Z q σ → PrimOk (sx Tryz.prog N H' K L C Z pr) (evS q σ) w) (hr : callC (sx Tryz.prog N H K L C Z pr) cs k [] f args [] 0 = some (kB b, p))
  (hA : A2 (avOn (cOn (evS q σ) K (fun _ => none) w)) args vs) : Calls Tryz.prog f vs.toArray w fun e w' => Below w.heap.size w w' ∧ e = .returned (.bool b) := by
 refine (callC_ok (S := sx Tryz.prog N H K L C Z pr) (E := evS q σ) (w0 := w) (T := fun X => Hy N (X ++ H) L C Z q σ) (z := fun d => q d = 0) hm (fun X hX => knows hX) (fun X hX => hP _ hX) ask_true ?_ k [] Y f args [] 0 (kB b, p) hr (fun _ => none) w vs ⟨Below.refl _ _, (fun _ _ h => by cases h)⟩ hA (fun x hx => by cases hx) (fun x hx => by cases hx) (fun _ _ _ => rfl)).mono ?_
 ·intro X hX l s r h1 h2
  have e := hX.k0 s r h2
  have g := sqN_val hX h1
  refine ⟨fun h => g.1 (e.1 h), fun h => ?_⟩
  have hn : ¬ ∀ d ∈ l, q d = 0 := fun q' => by
   rw [e.2 (g.2 q')] at h
   cases h
  simpa using hn
 ·rintro _ w' ⟨r, γ', rfl, hef, hv, _⟩
  exact ⟨hef.wi.bel, by rw [show r = .bool b from (asC_on (v := kB b) (c := .inl (.bool b)) rfl hv).1]⟩
theorem run_toldC {f : FuncId} {args : List AV} {vs : List Value} {k : Nat} {p : List HB × Nat} {b : Bool} (Y : Hy N H L C Z q σ) (hc : ∀ f ∈ cl, Closed f) (hm : (Tryz.prog).follows .mixedOrders = true) (hr : callC (sx Tryz.prog N H K L C Z (prC cl)) cs k [] f args [] 0 = some (kB b, p)) {w : World} (hp : PreS w)
  (hA : A2 (avOn (cOn (evS q σ) K (fun _ => none) w)) args vs) : Calls Tryz.prog f vs.toArray w fun e w' => Below w.heap.size w w' ∧ e = .returned (.bool b) := run_cases Y hm (fun _ Y' => primOk Y' hp hc) hr hA
theorem run_toldC' {f : FuncId} {args : List AV} {vs : List Value} (k : Nat) (Y : Hy N H L C Z q σ) (hc : ∀ f ∈ cl, Closed f) (hm : (Tryz.prog).follows .mixedOrders = true) (hr : (callC (sx Tryz.prog N H K L C Z (prC cl)) cs k [] f args [] 0).map (·.1) = some (kB true)) {w : World} (hp : PreS w)
  (hA : A2 (avOn (cOn (evS q σ) K (fun _ => none) w)) args vs) : Calls Tryz.prog f vs.toArray w fun e w' => Below w.heap.size w w' ∧ e = .returned (.bool true) := by
 rw [Option.map_eq_some_iff] at hr
 obtain ⟨⟨v, p⟩, h1, h2⟩ := hr
 dsimp only at h2
 subst h2
 exact run_toldC Y hc hm h1 hp hA
theorem dot_ne {a b c x y z : Rat} (h1 : ¬ ((a = 0 ∧ b = 0) ∧ c = 0)) (h2 : ¬ ((x = 0 ∧ y = 0) ∧ z = 0)) (p : b * z - c * y = 0) (q : c * x - a * z = 0) (r : a * y - b * x = 0) : a * x + b * y + c * z ≠ 0 := fun d => by
 have e : (a * a + b * b + c * c) * (x * x + y * y + z * z) = 0 := by
  have : (a * a + b * b + c * c) * (x * x + y * y + z * z) = (b * z - c * y) * (b * z - c * y) + (c * x - a * z) * (c * x - a * z) + (a * y - b * x) * (a * y - b * x) + (a * x + b * y + c * z) * (a * x + b * y + c * z) := by grind
  rw [this, p, q, r, d]
  decide +kernel
 have k : ∀ {a b c : Rat}, a * a + b * b + c * c = 0 → (a = 0 ∧ b = 0) ∧ c = 0 := fun {a b c} h => by
  have n1 := sq_nn a
  have n2 := sq_nn b
  have h3 := (sq_sum (x := a * a + b * b) (y := c) (by grind)).1 h
  have h4 := (sq_sum (x := a * a) (y := b) n1).1 h3.1
  exact ⟨⟨(Rat.mul_eq_zero.1 h4.1).elim id id, h4.2⟩, h3.2⟩
 exact (Rat.mul_eq_zero.1 e).elim (fun h => h1 (k h)) (fun h => h2 (k h))
theorem trip_fac {x y z g a b c : Rat} (h : ¬ ((x = 0 ∧ y = 0) ∧ z = 0)) (hg : g ≠ 0) (ha : a = x * g) (hb : b = y * g) (hc : c = z * g) : ¬ ((a = 0 ∧ b = 0) ∧ c = 0) := by
 rintro ⟨⟨h1, h2⟩, h3⟩
 rw [ha] at h1
 rw [hb] at h2
 rw [hc] at h3
 exact h ⟨⟨(Rat.mul_eq_zero.1 h1).resolve_right hg, (Rat.mul_eq_zero.1 h2).resolve_right hg⟩, (Rat.mul_eq_zero.1 h3).resolve_right hg⟩
theorem harm_sig {a1 a2 a3 b1 b2 b3 c1 c2 c3 J1 J2 J3 X1 X2 X3 B1 B2 B3 s : Rat} (j1 : J1 = a2 * b3 - a3 * b2) (j2 : J2 = a3 * b1 - a1 * b3) (j3 : J3 = a1 * b2 - a2 * b1) (x1 : X1 = c2 * b3 - c3 * b2) (x2 : X2 = c3 * b1 - c1 * b3) (x3 : X3 = c1 * b2 - c2 * b1) (y1 : B1 = b2 * c3 - b3 * c2) (y2 : B2 = b3 * c1 - b1 * c3) (y3 : B3 = b1 * c2 - b2 * c1) (hJ : ¬ ((J1 = 0 ∧ J2 = 0) ∧ J3 = 0)) (hB : ¬ ((B1 = 0 ∧ B2 = 0) ∧ B3 = 0)) (hd : 0 = 0 + c1 * J1 + c2 * J2 + c3 * J3) (hs : s = 0 + X1 * J1 + X2 * J2 + X3 * J3) : s ≠ 0 := by
 have hX : ¬ ((X1 = 0 ∧ X2 = 0) ∧ X3 = 0) := by
  rintro ⟨⟨h1, h2⟩, h3⟩
  exact hB ⟨⟨by grind, by grind⟩, by grind⟩
 have e := dot_ne hX hJ (by subst j1 j2 j3 x1 x2 x3; grind) (by subst j1 j2 j3 x1 x2 x3; grind) (by subst j1 j2 j3 x1 x2 x3; grind)
 rw [hs, Rat.zero_add]
 exact e
theorem comb_ne {a1 a2 a3 b1 b2 b3 J1 J2 J3 D1 D2 D3 s t : Rat} (j1 : J1 = a2 * b3 - a3 * b2) (j2 : J2 = a3 * b1 - a1 * b3) (j3 : J3 = a1 * b2 - a2 * b1) (hJ : ¬ ((J1 = 0 ∧ J2 = 0) ∧ J3 = 0)) (hs : s ≠ 0) (d1 : D1 = a1 * s + b1 * t) (d2 : D2 = a2 * s + b2 * t) (d3 : D3 = a3 * s + b3 * t) : ¬ ((D1 = 0 ∧ D2 = 0) ∧ D3 = 0) := by
 rintro ⟨⟨h1, h2⟩, h3⟩
 rw [h1] at d1
 rw [h2] at d2
 rw [h3] at d3
 refine hJ ⟨⟨?_, ?_⟩, ?_⟩
 ·exact (Rat.mul_eq_zero.1 (show s * J1 = 0 by rw [j1]; grind)).resolve_left hs
 ·exact (Rat.mul_eq_zero.1 (show s * J2 = 0 by rw [j2]; grind)).resolve_left hs
 ·exact (Rat.mul_eq_zero.1 (show s * J3 = 0 by rw [j3]; grind)).resolve_left hs
theorem cross_nz {a1 a2 a3 b1 b2 b3 g h p1 p2 p3 r1 r2 r3 J1 J2 J3 : Rat} (q1 : p1 = a1 * g) (q2 : p2 = a2 * g) (q3 : p3 = a3 * g) (s1 : r1 = b1 * h) (s2 : r2 = b2 * h) (s3 : r3 = b3 * h) (j1 : J1 = p2 * r3 - p3 * r2) (j2 : J2 = p3 * r1 - p1 * r3) (j3 : J3 = p1 * r2 - p2 * r1) (hJ : ¬ ((J1 = 0 ∧ J2 = 0) ∧ J3 = 0)) : ¬ ((a1 * b2 - a2 * b1 = 0 ∧ a2 * b3 - a3 * b2 = 0) ∧ a3 * b1 - a1 * b3 = 0) := by
 rintro ⟨⟨h1, h2⟩, h3⟩
 subst q1 q2 q3 s1 s2 s3
 have k1 : J1 = g * h * (a2 * b3 - a3 * b2) := by rw [j1]; grind
 have k2 : J2 = g * h * (a3 * b1 - a1 * b3) := by rw [j2]; grind
 have k3 : J3 = g * h * (a1 * b2 - a2 * b1) := by rw [j3]; grind
 exact hJ ⟨⟨by rw [k1, h2, Rat.mul_zero], by rw [k2, h3, Rat.mul_zero]⟩, by rw [k3, h1, Rat.mul_zero]⟩
theorem det_zero {A1 A2 A3 B1 B2 B3 C1 C2 C3 a1 a2 a3 b1 b2 b3 c1 c2 c3 g h k J1 J2 J3 : Rat} (q1 : a1 = A1 * g) (q2 : a2 = A2 * g) (q3 : a3 = A3 * g) (r1 : b1 = B1 * h) (r2 : b2 = B2 * h) (r3 : b3 = B3 * h) (s1 : c1 = C1 * k) (s2 : c2 = C2 * k) (s3 : c3 = C3 * k) (j1 : J1 = a2 * b3 - a3 * b2) (j2 : J2 = a3 * b1 - a1 * b3) (j3 : J3 = a1 * b2 - a2 * b1) (hg : g ≠ 0) (hh : h ≠ 0) (hk : k ≠ 0) (hd : 0 = 0 + c1 * J1 + c2 * J2 + c3 * J3) : C1 * (A2 * B3 - A3 * B2) + C2 * (A3 * B1 - A1 * B3) + C3 * (A1 * B2 - A2 * B1) = 0 := by
 subst q1 q2 q3 r1 r2 r3 s1 s2 s3
 have e : (g * (h * k)) * (C1 * (A2 * B3 - A3 * B2) + C2 * (A3 * B1 - A1 * B3) + C3 * (A1 * B2 - A2 * B1)) = 0 := by
  rw [j1, j2, j3] at hd
  grind
 exact (Rat.mul_eq_zero.1 e).resolve_left (mul_ne hg (mul_ne hh hk))
theorem share_s {A1 A2 A3 B1 B2 B3 C1 C2 C3 a1 a2 a3 b1 b2 b3 c1 c2 c3 g h k J1 J2 J3 X1 X2 X3 s : Rat} (_q1 : a1 = A1 * g) (_q2 : a2 = A2 * g) (_q3 : a3 = A3 * g) (r1 : b1 = B1 * h) (r2 : b2 = B2 * h) (r3 : b3 = B3 * h) (s1 : c1 = C1 * k) (s2 : c2 = C2 * k) (s3 : c3 = C3 * k) (j1 : J1 = a2 * b3 - a3 * b2) (j2 : J2 = a3 * b1 - a1 * b3) (j3 : J3 = a1 * b2 - a2 * b1) (hC : C1 * (A2 * B3 - A3 * B2) + C2 * (A3 * B1 - A1 * B3) + C3 * (A1 * B2 - A2 * B1) = 0) (x1 : X1 = c2 * b3 - c3 * b2) (x2 : X2 = c3 * b1 - c1 * b3) (x3 : X3 = c1 * b2 - c2 * b1) (hs : s = 0 + X1 * J1 + X2 * J2 + X3 * J3) : s * (A1 * B2 - A2 * B1) = (C1 * B2 - C2 * B1) * (h * k * ((A2 * B3 - A3 * B2) * J1 + (A3 * B1 - A1 * B3) * J2 + (A1 * B2 - A2 * B1) * J3)) ∧ s * (A2 * B3 - A3 * B2) = (C2 * B3 - C3 * B2) * (h * k * ((A2 * B3 - A3 * B2) * J1 + (A3 * B1 - A1 * B3) * J2 + (A1 * B2 - A2 * B1) * J3)) ∧ s * (A3 * B1 - A1 * B3) = (C3 * B1 - C1 * B3) * (h * k * ((A2 * B3 - A3 * B2) * J1 + (A3 * B1 - A1 * B3) * J2 + (A1 * B2 - A2 * B1) * J3)) := by
 subst r1 r2 r3 s1 s2 s3
 clear j1 j2 j3
 refine ⟨?_, ?_, ?_⟩ <;> rw [hs, x1, x2, x3] <;> grind
theorem share_t {A1 A2 A3 B1 B2 B3 C1 C2 C3 a1 a2 a3 b1 b2 b3 c1 c2 c3 g h k J1 J2 J3 Y1 Y2 Y3 t : Rat} (q1 : a1 = A1 * g) (q2 : a2 = A2 * g) (q3 : a3 = A3 * g) (_r1 : b1 = B1 * h) (_r2 : b2 = B2 * h) (_r3 : b3 = B3 * h) (s1 : c1 = C1 * k) (s2 : c2 = C2 * k) (s3 : c3 = C3 * k) (j1 : J1 = a2 * b3 - a3 * b2) (j2 : J2 = a3 * b1 - a1 * b3) (j3 : J3 = a1 * b2 - a2 * b1) (hC : C1 * (A2 * B3 - A3 * B2) + C2 * (A3 * B1 - A1 * B3) + C3 * (A1 * B2 - A2 * B1) = 0) (y1 : Y1 = a2 * c3 - a3 * c2) (y2 : Y2 = a3 * c1 - a1 * c3) (y3 : Y3 = a1 * c2 - a2 * c1) (ht : t = 0 + Y1 * J1 + Y2 * J2 + Y3 * J3) : t * (A1 * B2 - A2 * B1) = (A1 * C2 - A2 * C1) * (g * k * ((A2 * B3 - A3 * B2) * J1 + (A3 * B1 - A1 * B3) * J2 + (A1 * B2 - A2 * B1) * J3)) ∧ t * (A2 * B3 - A3 * B2) = (A2 * C3 - A3 * C2) * (g * k * ((A2 * B3 - A3 * B2) * J1 + (A3 * B1 - A1 * B3) * J2 + (A1 * B2 - A2 * B1) * J3)) ∧ t * (A3 * B1 - A1 * B3) = (A3 * C1 - A1 * C3) * (g * k * ((A2 * B3 - A3 * B2) * J1 + (A3 * B1 - A1 * B3) * J2 + (A1 * B2 - A2 * B1) * J3)) := by
 subst q1 q2 q3 s1 s2 s3
 clear j1 j2 j3
 refine ⟨?_, ?_, ?_⟩ <;> rw [ht, y1, y2, y3] <;> grind
theorem harm_tau {a1 a2 a3 b1 b2 b3 c1 c2 c3 J1 J2 J3 Y1 Y2 Y3 t : Rat} (j1 : J1 = a2 * b3 - a3 * b2) (j2 : J2 = a3 * b1 - a1 * b3) (j3 : J3 = a1 * b2 - a2 * b1) (y1 : Y1 = a2 * c3 - a3 * c2) (y2 : Y2 = a3 * c1 - a1 * c3) (y3 : Y3 = a1 * c2 - a2 * c1) (hJ : ¬ ((J1 = 0 ∧ J2 = 0) ∧ J3 = 0)) (hY : ¬ ((Y1 = 0 ∧ Y2 = 0) ∧ Y3 = 0)) (hd : 0 = 0 + c1 * J1 + c2 * J2 + c3 * J3) (ht : t = 0 + Y1 * J1 + Y2 * J2 + Y3 * J3) : t ≠ 0 := by
 have e := dot_ne hY hJ (by subst j1 j2 j3 y1 y2 y3; grind) (by subst j1 j2 j3 y1 y2 y3; grind) (by subst j1 j2 j3 y1 y2 y3; grind)
 rw [ht, Rat.zero_add]
 exact e
theorem ratio_main {x y z w d S T U V s t u v g h k l M : Rat} (hd : d ≠ 0) (hx : x ≠ 0) (hw : w ≠ 0) (h1 : x * d = S * (h * k * M)) (h2 : y * d = T * (g * k * M)) (h3 : z * d = U * (h * l * M)) (h4 : w * d = V * (g * l * M)) (es : s = S / d) (et : t = T / d) (eu : u = U / d) (ev : v = V / d) : y / x * (z / w) = t * u / (s * v) := by
 have n1 : S * (h * k * M) ≠ 0 := by rw [← h1]; exact mul_ne hx hd
 have n4 : V * (g * l * M) ≠ 0 := by rw [← h4]; exact mul_ne hw hd
 have nS : S ≠ 0 := fun e => n1 (by rw [e, Rat.zero_mul])
 have nV : V ≠ 0 := fun e => n4 (by rw [e, Rat.zero_mul])
 have nP : (h * k * M) * (g * l * M) ≠ 0 := mul_ne (fun e => n1 (by rw [e, Rat.mul_zero])) (fun e => n4 (by rw [e, Rat.mul_zero]))
 have ns : s ≠ 0 := fun e => nS (by rw [← Rat.div_mul_cancel (b := d) (a := S) hd, ← es, e, Rat.zero_mul])
 have nv : v ≠ 0 := fun e => nV (by rw [← Rat.div_mul_cancel (b := d) (a := V) hd, ← ev, e, Rat.zero_mul])
 have s1 : s * d = S := by rw [es]; exact Rat.div_mul_cancel hd
 have t1 : t * d = T := by rw [et]; exact Rat.div_mul_cancel hd
 have u1 : u * d = U := by rw [eu]; exact Rat.div_mul_cancel hd
 have v1 : v * d = V := by rw [ev]; exact Rat.div_mul_cancel hd
 obtain ⟨p, hp⟩ : ∃ p, p = y / x := ⟨_, rfl⟩
 obtain ⟨r, hr⟩ : ∃ r, r = z / w := ⟨_, rfl⟩
 obtain ⟨f, hf⟩ : ∃ f, f = t * u / (s * v) := ⟨_, rfl⟩
 have p1 : p * x = y := by rw [hp]; exact Rat.div_mul_cancel hx
 have r1 : r * w = z := by rw [hr]; exact Rat.div_mul_cancel hw
 have f1 : f * (s * v) = t * u := by rw [hf]; exact Rat.div_mul_cancel (mul_ne ns nv)
 rw [← hp, ← hr, ← hf]
 clear hp hr hf es et eu ev
 have k1 : (p * r) * (S * V) * ((h * k * M) * (g * l * M)) = (T * U) * ((h * k * M) * (g * l * M)) := by
  have a1 : (p * r) * (S * V) * ((h * k * M) * (g * l * M)) = (p * r) * ((x * d) * (w * d)) := by rw [h1, h4]; grind
  have a2 : (T * U) * ((h * k * M) * (g * l * M)) = (y * d) * (z * d) := by rw [h2, h3]; grind
  rw [a1, a2, ← p1, ← r1]
  grind
 have k2 : (p * r) * (S * V) = T * U := by
  have : ((p * r) * (S * V) - T * U) * ((h * k * M) * (g * l * M)) = 0 := by grind
  have := (Rat.mul_eq_zero.1 this).resolve_right nP
  grind
 have k3 : f * (S * V) = T * U := by
  rw [← s1, ← v1, ← t1, ← u1]
  have : f * (s * d * (v * d)) = (f * (s * v)) * (d * d) := by grind
  rw [this, f1]
  grind
 have : (p * r - f) * (S * V) = 0 := by grind
 have := (Rat.mul_eq_zero.1 this).resolve_right (mul_ne nS nV)
 grind
theorem sq_first {u x : Rat} (h : u = x * x) : 0 ≤ u ∧ (u = 0 ↔ x = 0) := by
 rw [h]
 exact ⟨sq_nn x, fun e => (Rat.mul_eq_zero.1 e).elim id id, fun e => by rw [e, Rat.zero_mul]⟩
theorem sq_next {p : Prop} {s x v t : Rat} (h : 0 ≤ s ∧ (s = 0 ↔ p)) (hv : v = x * x) (ht : t = s + v) : 0 ≤ t ∧ (t = 0 ↔ (p ∧ x = 0)) := by
 have n := sq_nn x
 refine ⟨by have := h.1; grind, ?_⟩
 rw [ht, hv, sq_sum h.1, h.2]
end
end Go.Proofs.YtioacnhbiinjbaaGreatDoor
/- CFprojected -/
namespace Go.Proofs.YtioacnhbiinjbaaGreatDoor
open Go.RowKit Cx
theorem closed_projected : Closed 75 :=
 closed_told (N := [(0, [0, 1, 1]), (0, [0, 0, 1]), (8, [0, 0, 1, 1]), (8, [1, 0, 1, 1]), (8, [2, 0, 1, 1]), (8, [0, 1, 0, 0]), (8, [1, 1, 0, 0]), (8, [2, 1, 0, 0]), (4, [3, 7]), (4, [4, 6]), (3, [8, 9]), (4, [4, 5]), (4, [2, 7]), (3, [11, 12]), (4, [2, 6]), (4, [3, 5]), (3, [14, 15]), (8, [0, 10, 13, 16]), (8, [1, 10, 13, 16]), (8, [2, 10, 13, 16]), (8, [0, 1, 0, 1]), (8, [1, 1, 0, 1]), (8, [2, 1, 0, 1]), (4, [3, 22]), (4, [4, 21]), (3, [23, 24]), (4, [4, 20]), (4, [2, 22]), (3, [26, 27]), (4, [2, 21]), (4, [3, 20]), (3, [29, 30]), (8, [0, 0, 0, 1]), (8, [1, 0, 0, 1]), (8, [2, 0, 0, 1]), (4, [3, 34]), (4, [4, 33]), (3, [35, 36]), (4, [4, 32]), (4, [2, 34]), (3, [38, 39]), (4, [2, 33]), (4, [3, 32]), (3, [41, 42]), (4, [21, 34]), (4, [22, 33]), (3, [44, 45]), (4, [22, 32]), (4, [20, 34]), (3, [47, 48]), (4, [20, 33]), (4, [21, 32]), (3, [50, 51]), (4, [32, 25]), (2, [1, 53]), (4, [33, 28]), (2, [54, 55]), (4, [34, 31]), (2, [56, 57]), (4, [33, 22]), (4, [34, 21]), (3, [59, 60]), (4, [34, 20]), (4, [32, 22]), (3, [62, 63]), (4, [32, 21]), (4, [33, 20]), (3, [65, 66]), (4, [61, 25]), (2, [1, 68]), (4, [64, 28]), (2, [69, 70]), (4, [67, 31]), (2, [71, 72]), (4, [37, 25]), (2, [1, 74]), (4, [40, 28]), (2, [75, 76]), (4, [43, 31]), (2, [77, 78]), (4, [2, 73]), (4, [3, 73]), (4, [4, 73]), (5, [79]), (4, [20, 83]), (4, [21, 83]), (4, [22, 83]), (2, [80, 84]), (2, [81, 85]), (2, [82, 86]), (8, [0, 87, 88, 89]), (8, [1, 87, 88, 89]), (8, [2, 87, 88, 89]), (0, [0, 2, 1]), (8, [0, 0, 93, 1]), (8, [1, 0, 93, 1]), (8, [2, 0, 93, 1]), (4, [3, 96]), (4, [4, 95]), (3, [97, 98]), (4, [4, 94]), (4, [2, 96]), (3, [100, 101]), (4, [2, 95]), (4, [3, 94]), (3, [103, 104]), (4, [21, 96]), (4, [22, 95]), (3, [106, 107]), (4, [22, 94]), (4, [20, 96]), (3, [109, 110]), (4, [20, 95]), (4, [21, 94]), (3, [112, 113]), (4, [33, 96]), (4, [34, 95]), (3, [115, 116]), (4, [34, 94]), (4, [32, 96]), (3, [118, 119]), (4, [32, 95]), (4, [33, 94]), (3, [121, 122]), (4, [94, 25]), (2, [1, 124]), (4, [95, 28]), (2, [125, 126]), (4, [96, 31]), (2, [127, 128]), (4, [95, 22]), (4, [96, 21]), (3, [130, 131]), (4, [96, 20]), (4, [94, 22]), (3, [133, 134]), (4, [94, 21]), (4, [95, 20]), (3, [136, 137]), (4, [132, 25]), (2, [1, 139]), (4, [135, 28]), (2, [140, 141]), (4, [138, 31]), (2, [142, 143]), (4, [99, 25]), (2, [1, 145]), (4, [102, 28]), (2, [146, 147]), (4, [105, 31]), (2, [148, 149]), (6, [79, 73]), (6, [144, 150]), (4, [151, 152]), (0, [1, 1, 1]), (0, [0, 1, 2])]) (H := [(0, 0, 0, 0), (0, 1, 0, 1), (0, 10, 0, 1), (0, 13, 0, 0), (0, 25, 0, 1), (0, 28, 0, 1), (0, 31, 0, 0), (0, 37, 0, 1), (0, 40, 0, 1), (0, 43, 0, 0), (0, 46, 0, 1), (0, 49, 0, 1), (0, 52, 0, 0), (0, 58, 0, 1), (0, 99, 0, 1), (0, 102, 0, 1), (0, 105, 0, 0), (0, 108, 0, 1), (0, 111, 0, 1), (0, 114, 0, 0), (0, 117, 0, 1), (0, 120, 0, 1), (0, 123, 0, 0), (0, 129, 0, 1), (4, 17, 1, 1), (4, 18, 0, 1), (4, 19, 154, 1), (4, 90, 0, 1), (4, 91, 154, 1), (4, 92, 1, 1), (4, 153, 155, 1)]) (K := []) (L := [([49], 0), ([48], 1), ([50], 93), ([45, 49], 154), ([49, 47, 50], 155)]) (C := [([48], 1), ([49], 0), ([45, 49], 154), ([49, 47, 50], 155)]) (Z := [2, 2, 9, 9, 9, 9, 9, 9, 18, 18, 37, 18, 18, 37, 18, 18, 37, 149, 149, 149, 9, 9, 9, 18, 18, 37, 18, 18, 37, 18, 18, 37, 9, 9, 9, 18, 18, 37, 18, 18, 37, 18, 18, 37, 18, 18, 37, 18, 18, 37, 18, 18, 37, 46, 49, 46, 96, 46, 143, 18, 18, 37, 18, 18, 37, 18, 18, 37, 74, 77, 74, 152, 74, 227, 74, 77, 74, 152, 74, 227, 236, 236, 236, 227, 236, 236, 236, 473, 473, 473, 1893, 1893, 1893, 3, 13, 13, 13, 22, 22, 45, 22, 22, 45, 22, 22, 45, 22, 22, 45, 22, 22, 45, 22, 22, 45, 22, 22, 45, 22, 22, 45, 22, 22, 45, 50, 53, 50, 104, 50, 155, 22, 22, 45, 22, 22, 45, 22, 22, 45, 82, 85, 82, 168, 82, 251, 82, 85, 82, 168, 82, 251, 454, 502, 956, 2, 3]) (cl := []) 6 (fun _ h => by cases h) (by kernel_rfl) (by kernel_rfl) (by kernel_rfl) (by kernel_rfl) (by kernel_rfl) (by kernel_rfl) (by kernel_rfl)
end Go.Proofs.YtioacnhbiinjbaaGreatDoor
/- MPP -/
namespace Go.Proofs.YtioacnhbiinjbaaGreatDoor
open Go.RowKit Cx
def projectPlain_N : List Nd := [(1, [0]), (1, [1]), (1, [2]), (4, [0, 0]), (4, [1, 1]), (2, [3, 4]), (4, [2, 2]), (2, [5, 6]), (8, [0, 0, 1, 2]), (8, [1, 0, 1, 2]), (8, [2, 0, 1, 2]), (8, [0, 8, 9, 10]), (8, [1, 8, 9, 10]), (8, [2, 8, 9, 10]), (1, [3]), (1, [4]), (1, [5]), (4, [14, 14]), (4, [15, 15]), (2, [17, 18]), (4, [16, 16]), (2, [19, 20]), (4, [8, 8]), (4, [9, 9]), (2, [22, 23]), (4, [10, 10]), (2, [24, 25]), (4, [11, 11]), (4, [12, 12]), (2, [27, 28]), (4, [13, 13]), (2, [29, 30]), (4, [1, 11]), (4, [0, 12]), (3, [32, 33]), (4, [2, 11]), (4, [0, 13]), (3, [35, 36]), (4, [2, 12]), (4, [1, 13]), (3, [38, 39]), (4, [34, 34]), (4, [37, 37]), (2, [41, 42]), (4, [40, 40]), (2, [43, 44]), (8, [0, 14, 15, 16]), (8, [1, 14, 15, 16]), (8, [2, 14, 15, 16]), (4, [9, 48]), (4, [10, 47]), (3, [49, 50]), (4, [10, 46]), (4, [8, 48]), (3, [52, 53]), (4, [8, 47]), (4, [9, 46]), (3, [55, 56]), (4, [51, 51]), (4, [54, 54]), (2, [58, 59]), (4, [57, 57]), (2, [60, 61]), (4, [8, 46]), (0, [0, 0, 1]), (2, [64, 63]), (4, [9, 47]), (2, [65, 66]), (4, [10, 48]), (2, [67, 68]), (4, [0, 14]), (4, [1, 15]), (4, [2, 16]), (2, [70, 71]), (2, [73, 72]), (4, [1, 14]), (4, [0, 15]), (3, [75, 76]), (4, [2, 14]), (4, [0, 16]), (3, [78, 79]), (4, [2, 15]), (4, [1, 16]), (3, [81, 82]), (4, [77, 77]), (4, [80, 80]), (2, [84, 85]), (4, [83, 83]), (2, [86, 87]), (8, [0, 51, 54, 57]), (8, [1, 51, 54, 57]), (8, [2, 51, 54, 57]), (4, [89, 89]), (4, [90, 90]), (2, [92, 93]), (4, [91, 91]), (2, [94, 95]), (4, [89, 0]), (4, [90, 1]), (4, [91, 2]), (2, [97, 98]), (2, [100, 99]), (4, [89, 14]), (4, [90, 15]), (4, [91, 16]), (2, [102, 103]), (2, [105, 104])]
def projectPlain_L : List (List Nat × Nat) := []
def projectPlain_C : List (List Nat × Nat) := []
def projectPlain_Z : List Nat := [4194309, 4194309, 4194309, 8388618, 8388618, 16777237, 8388618, 25165856, 16777237, 16777237, 16777237, 67108949, 67108949, 67108949, 4194309, 4194309, 4194309, 8388618, 8388618, 16777237, 8388618, 25165856, 33554474, 33554474, 67108949, 33554474, 100663424, 134217898, 134217898, 268435797, 134217898, 402653696, 71303258, 71303258, 142606517, 71303258, 71303258, 142606517, 71303258, 71303258, 142606517, 285213034, 285213034, 570426069, 285213034, 855639104, 16777237, 16777237, 16777237, 33554474, 33554474, 67108949, 33554474, 33554474, 67108949, 33554474, 33554474, 67108949, 134217898, 134217898, 268435797, 134217898, 402653696, 33554474, 2, 33554477, 33554474, 67108952, 33554474, 100663427, 8388618, 8388618, 8388618, 16777237, 25165856, 8388618, 8388618, 16777237, 8388618, 8388618, 16777237, 8388618, 8388618, 16777237, 33554474, 33554474, 67108949, 33554474, 100663424, 268435797, 268435797, 268435797, 536871594, 536871594, 1073743189, 536871594, 1610614784, 272630106, 272630106, 272630106, 545260213, 817890320, 272630106, 272630106, 272630106, 545260213, 817890320]
theorem projectPlain_wf : wfB 0 projectPlain_N = true := by kernel_rfl
theorem projectPlain_sz : szB projectPlain_Z projectPlain_N projectPlain_Z = true := by kernel_rfl
theorem projectPlain_lt : litB projectPlain_N projectPlain_L = true := by kernel_rfl
theorem projectPlain_cn : canB projectPlain_N projectPlain_C = true := by kernel_rfl
theorem projectPlain_c64 : cst 0 0 1 = (0 : Rat) := by decide +kernel
theorem projectPlain_f0 {z0 z1 z2 z7 z8 z9 z10 z14 z15 z16 z21 z26 : Rat} : (z7 = 0 ↔ ((z0 = 0 ∧ z1 = 0) ∧ z2 = 0)) → z8 = z0 * fac [z0, z1, z2] → z9 = z1 * fac [z0, z1, z2] → z10 = z2 * fac [z0, z1, z2] → (z21 = 0 ↔ ((z14 = 0 ∧ z15 = 0) ∧ z16 = 0)) → (z26 = 0 ↔ ((z8 = 0 ∧ z9 = 0) ∧ z10 = 0)) → (¬ (z7 = 0)) → (z21 = 0) → ¬ (z26 = 0) := by
 intro e7 e8 e9 e10 e21 e26 u0 u1
 rw [e7] at u0
 obtain ⟨⟨ua1_14, ua1_15⟩, ua1_16⟩ := e21.1 u1
 rw [e26]
 clear u1 e7 e21 e26
 have k0_0 : fac [z0, z1, z2] = 0 → z0 = 0 := fac_zero (by simp)
 have k0_1 : fac [z0, z1, z2] = 0 → z1 = 0 := fac_zero (by simp)
 have k0_2 : fac [z0, z1, z2] = 0 → z2 = 0 := fac_zero (by simp)
 generalize fac [z0, z1, z2] = g0 at *
 have nx0 := u0
 have iw0 : g0 ≠ 0 := fun hg => nx0 ⟨⟨(k0_0 hg), (k0_1 hg)⟩, (k0_2 hg)⟩
 obtain ⟨iv0, ih0⟩ : ∃ i, g0 * i = 1 := ⟨g0⁻¹, Rat.mul_inv_cancel _ iw0⟩
 clear k0_0 k0_1 k0_2
 exact trip_fac nx0 iw0 e8 e9 e10
theorem projectPlain_f1 {z0 z1 z2 z7 z8 z9 z10 z11 z12 z13 z14 z15 z16 z21 z31 : Rat} : (z7 = 0 ↔ ((z0 = 0 ∧ z1 = 0) ∧ z2 = 0)) → z8 = z0 * fac [z0, z1, z2] → z9 = z1 * fac [z0, z1, z2] → z10 = z2 * fac [z0, z1, z2] → z11 = z8 * fac [z8, z9, z10] → z12 = z9 * fac [z8, z9, z10] → z13 = z10 * fac [z8, z9, z10] → (z21 = 0 ↔ ((z14 = 0 ∧ z15 = 0) ∧ z16 = 0)) → (z31 = 0 ↔ ((z11 = 0 ∧ z12 = 0) ∧ z13 = 0)) → (¬ (z7 = 0)) → (z21 = 0) → ¬ (z31 = 0) := by
 intro e7 e8 e9 e10 e11 e12 e13 e21 e31 u0 u1
 rw [e7] at u0
 obtain ⟨⟨ua1_14, ua1_15⟩, ua1_16⟩ := e21.1 u1
 rw [e31]
 clear u1 e7 e21 e31
 have k0_0 : fac [z0, z1, z2] = 0 → z0 = 0 := fac_zero (by simp)
 have k0_1 : fac [z0, z1, z2] = 0 → z1 = 0 := fac_zero (by simp)
 have k0_2 : fac [z0, z1, z2] = 0 → z2 = 0 := fac_zero (by simp)
 generalize fac [z0, z1, z2] = g0 at *
 have k1_8 : fac [z8, z9, z10] = 0 → z8 = 0 := fac_zero (by simp)
 have k1_9 : fac [z8, z9, z10] = 0 → z9 = 0 := fac_zero (by simp)
 have k1_10 : fac [z8, z9, z10] = 0 → z10 = 0 := fac_zero (by simp)
 generalize fac [z8, z9, z10] = g1 at *
 have nx0 := u0
 have iw0 : g0 ≠ 0 := fun hg => nx0 ⟨⟨(k0_0 hg), (k0_1 hg)⟩, (k0_2 hg)⟩
 obtain ⟨iv0, ih0⟩ : ∃ i, g0 * i = 1 := ⟨g0⁻¹, Rat.mul_inv_cancel _ iw0⟩
 have nx1 : ¬ ((z8 = 0 ∧ z9 = 0) ∧ z10 = 0) := by
  rintro ⟨⟨hx8, hx9⟩, hx10⟩
  first | grind | (subst_vars; grind)
 have iw1 : g1 ≠ 0 := fun hg => nx1 ⟨⟨(k1_8 hg), (k1_9 hg)⟩, (k1_10 hg)⟩
 obtain ⟨iv1, ih1⟩ : ∃ i, g1 * i = 1 := ⟨g1⁻¹, Rat.mul_inv_cancel _ iw1⟩
 clear k0_0 k0_1 k0_2 k1_8 k1_9 k1_10
 exact trip_fac nx1 iw1 e11 e12 e13
theorem projectPlain_f2 {z0 z1 z2 z7 z8 z9 z10 z11 z12 z13 z32 z33 z34 z35 z36 z37 z38 z39 z40 z45 : Rat} : (z7 = 0 ↔ ((z0 = 0 ∧ z1 = 0) ∧ z2 = 0)) → z8 = z0 * fac [z0, z1, z2] → z9 = z1 * fac [z0, z1, z2] → z10 = z2 * fac [z0, z1, z2] → z11 = z8 * fac [z8, z9, z10] → z12 = z9 * fac [z8, z9, z10] → z13 = z10 * fac [z8, z9, z10] → z32 = z1 * z11 → z33 = z0 * z12 → z34 = z32 - z33 → z35 = z2 * z11 → z36 = z0 * z13 → z37 = z35 - z36 → z38 = z2 * z12 → z39 = z1 * z13 → z40 = z38 - z39 → (z45 = 0 ↔ ((z34 = 0 ∧ z37 = 0) ∧ z40 = 0)) → (¬ (z7 = 0)) → z45 = 0 := by
 intro e7 e8 e9 e10 e11 e12 e13 e32 e33 e34 e35 e36 e37 e38 e39 e40 e45 u0
 rw [e7] at u0
 rw [e45]
 clear  e7 e45
 have k0_0 : fac [z0, z1, z2] = 0 → z0 = 0 := fac_zero (by simp)
 have k0_1 : fac [z0, z1, z2] = 0 → z1 = 0 := fac_zero (by simp)
 have k0_2 : fac [z0, z1, z2] = 0 → z2 = 0 := fac_zero (by simp)
 generalize fac [z0, z1, z2] = g0 at *
 have k1_8 : fac [z8, z9, z10] = 0 → z8 = 0 := fac_zero (by simp)
 have k1_9 : fac [z8, z9, z10] = 0 → z9 = 0 := fac_zero (by simp)
 have k1_10 : fac [z8, z9, z10] = 0 → z10 = 0 := fac_zero (by simp)
 generalize fac [z8, z9, z10] = g1 at *
 have nx0 := u0
 have iw0 : g0 ≠ 0 := fun hg => nx0 ⟨⟨(k0_0 hg), (k0_1 hg)⟩, (k0_2 hg)⟩
 obtain ⟨iv0, ih0⟩ : ∃ i, g0 * i = 1 := ⟨g0⁻¹, Rat.mul_inv_cancel _ iw0⟩
 have nx1 : ¬ ((z8 = 0 ∧ z9 = 0) ∧ z10 = 0) := by
  rintro ⟨⟨hx8, hx9⟩, hx10⟩
  first | grind | (subst_vars; grind)
 have iw1 : g1 ≠ 0 := fun hg => nx1 ⟨⟨(k1_8 hg), (k1_9 hg)⟩, (k1_10 hg)⟩
 obtain ⟨iv1, ih1⟩ : ∃ i, g1 * i = 1 := ⟨g1⁻¹, Rat.mul_inv_cancel _ iw1⟩
 clear k0_0 k0_1 k0_2 k1_8 k1_9 k1_10
 refine ⟨⟨?_, ?_⟩, ?_⟩ <;> (subst_vars; grind)
theorem projectPlain_f3 {z0 z1 z2 z7 z8 z9 z10 z14 z15 z16 z21 z46 z47 z48 z49 z50 z51 z52 z53 z54 z55 z56 z57 z62 z63 z64 z65 z66 z67 z68 z69 : Rat} : (z7 = 0 ↔ ((z0 = 0 ∧ z1 = 0) ∧ z2 = 0)) → z8 = z0 * fac [z0, z1, z2] → z9 = z1 * fac [z0, z1, z2] → z10 = z2 * fac [z0, z1, z2] → (z21 = 0 ↔ ((z14 = 0 ∧ z15 = 0) ∧ z16 = 0)) → z46 = z14 * fac [z14, z15, z16] → z47 = z15 * fac [z14, z15, z16] → z48 = z16 * fac [z14, z15, z16] → z49 = z9 * z48 → z50 = z10 * z47 → z51 = z49 - z50 → z52 = z10 * z46 → z53 = z8 * z48 → z54 = z52 - z53 → z55 = z8 * z47 → z56 = z9 * z46 → z57 = z55 - z56 → (z62 = 0 ↔ ((z51 = 0 ∧ z54 = 0) ∧ z57 = 0)) → z63 = z8 * z46 → z64 = 0 → z65 = z64 + z63 → z66 = z9 * z47 → z67 = z65 + z66 → z68 = z10 * z48 → z69 = z67 + z68 → (¬ (z7 = 0)) → (¬ (z21 = 0)) → (z62 = 0) → ¬ (z69 = 0) := by
 intro e7 e8 e9 e10 e21 e46 e47 e48 e49 e50 e51 e52 e53 e54 e55 e56 e57 e62 e63 e64 e65 e66 e67 e68 e69 u0 u1 u2
 rw [e7] at u0
 rw [e21] at u1
 obtain ⟨⟨ua2_51, ua2_54⟩, ua2_57⟩ := e62.1 u2
 clear u2 e7 e21 e62
 have k0_0 : fac [z0, z1, z2] = 0 → z0 = 0 := fac_zero (by simp)
 have k0_1 : fac [z0, z1, z2] = 0 → z1 = 0 := fac_zero (by simp)
 have k0_2 : fac [z0, z1, z2] = 0 → z2 = 0 := fac_zero (by simp)
 generalize fac [z0, z1, z2] = g0 at *
 have k1_14 : fac [z14, z15, z16] = 0 → z14 = 0 := fac_zero (by simp)
 have k1_15 : fac [z14, z15, z16] = 0 → z15 = 0 := fac_zero (by simp)
 have k1_16 : fac [z14, z15, z16] = 0 → z16 = 0 := fac_zero (by simp)
 generalize fac [z14, z15, z16] = g1 at *
 have nx0 := u0
 have iw0 : g0 ≠ 0 := fun hg => nx0 ⟨⟨(k0_0 hg), (k0_1 hg)⟩, (k0_2 hg)⟩
 obtain ⟨iv0, ih0⟩ : ∃ i, g0 * i = 1 := ⟨g0⁻¹, Rat.mul_inv_cancel _ iw0⟩
 have nx1 := u1
 have iw1 : g1 ≠ 0 := fun hg => nx1 ⟨⟨(k1_14 hg), (k1_15 hg)⟩, (k1_16 hg)⟩
 obtain ⟨iv1, ih1⟩ : ∃ i, g1 * i = 1 := ⟨g1⁻¹, Rat.mul_inv_cancel _ iw1⟩
 clear k0_0 k0_1 k0_2 k1_14 k1_15 k1_16
 have dn := dot_ne u0 u1 (by subst_vars; grind) (by subst_vars; grind) (by subst_vars; grind)
 subst_vars; grind
theorem projectPlain_f4 {z0 z1 z2 z7 z8 z9 z10 z14 z15 z16 z21 z26 z46 z47 z48 z49 z50 z51 z52 z53 z54 z55 z56 z57 z62 : Rat} : (z7 = 0 ↔ ((z0 = 0 ∧ z1 = 0) ∧ z2 = 0)) → z8 = z0 * fac [z0, z1, z2] → z9 = z1 * fac [z0, z1, z2] → z10 = z2 * fac [z0, z1, z2] → (z21 = 0 ↔ ((z14 = 0 ∧ z15 = 0) ∧ z16 = 0)) → (z26 = 0 ↔ ((z8 = 0 ∧ z9 = 0) ∧ z10 = 0)) → z46 = z14 * fac [z14, z15, z16] → z47 = z15 * fac [z14, z15, z16] → z48 = z16 * fac [z14, z15, z16] → z49 = z9 * z48 → z50 = z10 * z47 → z51 = z49 - z50 → z52 = z10 * z46 → z53 = z8 * z48 → z54 = z52 - z53 → z55 = z8 * z47 → z56 = z9 * z46 → z57 = z55 - z56 → (z62 = 0 ↔ ((z51 = 0 ∧ z54 = 0) ∧ z57 = 0)) → (¬ (z7 = 0)) → (¬ (z21 = 0)) → (z62 = 0) → ¬ (z26 = 0) := by
 intro e7 e8 e9 e10 e21 e26 e46 e47 e48 e49 e50 e51 e52 e53 e54 e55 e56 e57 e62 u0 u1 u2
 rw [e7] at u0
 rw [e21] at u1
 obtain ⟨⟨ua2_51, ua2_54⟩, ua2_57⟩ := e62.1 u2
 rw [e26]
 clear u2 e7 e21 e26 e62
 have k0_0 : fac [z0, z1, z2] = 0 → z0 = 0 := fac_zero (by simp)
 have k0_1 : fac [z0, z1, z2] = 0 → z1 = 0 := fac_zero (by simp)
 have k0_2 : fac [z0, z1, z2] = 0 → z2 = 0 := fac_zero (by simp)
 generalize fac [z0, z1, z2] = g0 at *
 have k1_14 : fac [z14, z15, z16] = 0 → z14 = 0 := fac_zero (by simp)
 have k1_15 : fac [z14, z15, z16] = 0 → z15 = 0 := fac_zero (by simp)
 have k1_16 : fac [z14, z15, z16] = 0 → z16 = 0 := fac_zero (by simp)
 generalize fac [z14, z15, z16] = g1 at *
 have nx0 := u0
 have iw0 : g0 ≠ 0 := fun hg => nx0 ⟨⟨(k0_0 hg), (k0_1 hg)⟩, (k0_2 hg)⟩
 obtain ⟨iv0, ih0⟩ : ∃ i, g0 * i = 1 := ⟨g0⁻¹, Rat.mul_inv_cancel _ iw0⟩
 have nx1 := u1
 have iw1 : g1 ≠ 0 := fun hg => nx1 ⟨⟨(k1_14 hg), (k1_15 hg)⟩, (k1_16 hg)⟩
 obtain ⟨iv1, ih1⟩ : ∃ i, g1 * i = 1 := ⟨g1⁻¹, Rat.mul_inv_cancel _ iw1⟩
 clear k0_0 k0_1 k0_2 k1_14 k1_15 k1_16
 exact trip_fac nx0 iw0 e8 e9 e10
theorem projectPlain_f5 {z0 z1 z2 z7 z8 z9 z10 z11 z12 z13 z14 z15 z16 z21 z31 z46 z47 z48 z49 z50 z51 z52 z53 z54 z55 z56 z57 z62 : Rat} : (z7 = 0 ↔ ((z0 = 0 ∧ z1 = 0) ∧ z2 = 0)) → z8 = z0 * fac [z0, z1, z2] → z9 = z1 * fac [z0, z1, z2] → z10 = z2 * fac [z0, z1, z2] → z11 = z8 * fac [z8, z9, z10] → z12 = z9 * fac [z8, z9, z10] → z13 = z10 * fac [z8, z9, z10] → (z21 = 0 ↔ ((z14 = 0 ∧ z15 = 0) ∧ z16 = 0)) → (z31 = 0 ↔ ((z11 = 0 ∧ z12 = 0) ∧ z13 = 0)) → z46 = z14 * fac [z14, z15, z16] → z47 = z15 * fac [z14, z15, z16] → z48 = z16 * fac [z14, z15, z16] → z49 = z9 * z48 → z50 = z10 * z47 → z51 = z49 - z50 → z52 = z10 * z46 → z53 = z8 * z48 → z54 = z52 - z53 → z55 = z8 * z47 → z56 = z9 * z46 → z57 = z55 - z56 → (z62 = 0 ↔ ((z51 = 0 ∧ z54 = 0) ∧ z57 = 0)) → (¬ (z7 = 0)) → (¬ (z21 = 0)) → (z62 = 0) → ¬ (z31 = 0) := by
 intro e7 e8 e9 e10 e11 e12 e13 e21 e31 e46 e47 e48 e49 e50 e51 e52 e53 e54 e55 e56 e57 e62 u0 u1 u2
 rw [e7] at u0
 rw [e21] at u1
 obtain ⟨⟨ua2_51, ua2_54⟩, ua2_57⟩ := e62.1 u2
 rw [e31]
 clear u2 e7 e21 e31 e62
 have k0_0 : fac [z0, z1, z2] = 0 → z0 = 0 := fac_zero (by simp)
 have k0_1 : fac [z0, z1, z2] = 0 → z1 = 0 := fac_zero (by simp)
 have k0_2 : fac [z0, z1, z2] = 0 → z2 = 0 := fac_zero (by simp)
 generalize fac [z0, z1, z2] = g0 at *
 have k1_8 : fac [z8, z9, z10] = 0 → z8 = 0 := fac_zero (by simp)
 have k1_9 : fac [z8, z9, z10] = 0 → z9 = 0 := fac_zero (by simp)
 have k1_10 : fac [z8, z9, z10] = 0 → z10 = 0 := fac_zero (by simp)
 generalize fac [z8, z9, z10] = g1 at *
 have k2_14 : fac [z14, z15, z16] = 0 → z14 = 0 := fac_zero (by simp)
 have k2_15 : fac [z14, z15, z16] = 0 → z15 = 0 := fac_zero (by simp)
 have k2_16 : fac [z14, z15, z16] = 0 → z16 = 0 := fac_zero (by simp)
 generalize fac [z14, z15, z16] = g2 at *
 have nx0 := u0
 have iw0 : g0 ≠ 0 := fun hg => nx0 ⟨⟨(k0_0 hg), (k0_1 hg)⟩, (k0_2 hg)⟩
 obtain ⟨iv0, ih0⟩ : ∃ i, g0 * i = 1 := ⟨g0⁻¹, Rat.mul_inv_cancel _ iw0⟩
 have nx1 : ¬ ((z8 = 0 ∧ z9 = 0) ∧ z10 = 0) := by
  rintro ⟨⟨hx8, hx9⟩, hx10⟩
  first | grind | (subst_vars; grind)
 have iw1 : g1 ≠ 0 := fun hg => nx1 ⟨⟨(k1_8 hg), (k1_9 hg)⟩, (k1_10 hg)⟩
 obtain ⟨iv1, ih1⟩ : ∃ i, g1 * i = 1 := ⟨g1⁻¹, Rat.mul_inv_cancel _ iw1⟩
 have nx2 := u1
 have iw2 : g2 ≠ 0 := fun hg => nx2 ⟨⟨(k2_14 hg), (k2_15 hg)⟩, (k2_16 hg)⟩
 obtain ⟨iv2, ih2⟩ : ∃ i, g2 * i = 1 := ⟨g2⁻¹, Rat.mul_inv_cancel _ iw2⟩
 clear k0_0 k0_1 k0_2 k1_8 k1_9 k1_10 k2_14 k2_15 k2_16
 exact trip_fac nx1 iw1 e11 e12 e13
theorem projectPlain_f6 {z0 z1 z2 z7 z8 z9 z10 z14 z15 z16 z21 z46 z47 z48 z49 z50 z51 z52 z53 z54 z55 z56 z57 z62 z70 z71 z72 z73 z74 : Rat} : (z7 = 0 ↔ ((z0 = 0 ∧ z1 = 0) ∧ z2 = 0)) → z8 = z0 * fac [z0, z1, z2] → z9 = z1 * fac [z0, z1, z2] → z10 = z2 * fac [z0, z1, z2] → (z21 = 0 ↔ ((z14 = 0 ∧ z15 = 0) ∧ z16 = 0)) → z46 = z14 * fac [z14, z15, z16] → z47 = z15 * fac [z14, z15, z16] → z48 = z16 * fac [z14, z15, z16] → z49 = z9 * z48 → z50 = z10 * z47 → z51 = z49 - z50 → z52 = z10 * z46 → z53 = z8 * z48 → z54 = z52 - z53 → z55 = z8 * z47 → z56 = z9 * z46 → z57 = z55 - z56 → (z62 = 0 ↔ ((z51 = 0 ∧ z54 = 0) ∧ z57 = 0)) → z70 = z0 * z14 → z71 = z1 * z15 → z72 = z2 * z16 → z73 = z70 + z71 → z74 = z73 + z72 → (¬ (z7 = 0)) → (¬ (z21 = 0)) → (z62 = 0) → ¬ (z74 = 0) := by
 intro e7 e8 e9 e10 e21 e46 e47 e48 e49 e50 e51 e52 e53 e54 e55 e56 e57 e62 e70 e71 e72 e73 e74 u0 u1 u2
 rw [e7] at u0
 rw [e21] at u1
 obtain ⟨⟨ua2_51, ua2_54⟩, ua2_57⟩ := e62.1 u2
 clear u2 e7 e21 e62
 have k0_0 : fac [z0, z1, z2] = 0 → z0 = 0 := fac_zero (by simp)
 have k0_1 : fac [z0, z1, z2] = 0 → z1 = 0 := fac_zero (by simp)
 have k0_2 : fac [z0, z1, z2] = 0 → z2 = 0 := fac_zero (by simp)
 generalize fac [z0, z1, z2] = g0 at *
 have k1_14 : fac [z14, z15, z16] = 0 → z14 = 0 := fac_zero (by simp)
 have k1_15 : fac [z14, z15, z16] = 0 → z15 = 0 := fac_zero (by simp)
 have k1_16 : fac [z14, z15, z16] = 0 → z16 = 0 := fac_zero (by simp)
 generalize fac [z14, z15, z16] = g1 at *
 have nx0 := u0
 have iw0 : g0 ≠ 0 := fun hg => nx0 ⟨⟨(k0_0 hg), (k0_1 hg)⟩, (k0_2 hg)⟩
 obtain ⟨iv0, ih0⟩ : ∃ i, g0 * i = 1 := ⟨g0⁻¹, Rat.mul_inv_cancel _ iw0⟩
 have nx1 := u1
 have iw1 : g1 ≠ 0 := fun hg => nx1 ⟨⟨(k1_14 hg), (k1_15 hg)⟩, (k1_16 hg)⟩
 obtain ⟨iv1, ih1⟩ : ∃ i, g1 * i = 1 := ⟨g1⁻¹, Rat.mul_inv_cancel _ iw1⟩
 clear k0_0 k0_1 k0_2 k1_14 k1_15 k1_16
 have dn := dot_ne u0 u1 (by subst_vars; grind) (by subst_vars; grind) (by subst_vars; grind)
 subst_vars; grind
theorem projectPlain_f7 {z0 z1 z2 z8 z9 z10 z14 z15 z16 z46 z47 z48 z49 z50 z51 z52 z53 z54 z55 z56 z57 z62 z75 z76 z77 z78 z79 z80 z81 z82 z83 z88 : Rat} : z8 = z0 * fac [z0, z1, z2] → z9 = z1 * fac [z0, z1, z2] → z10 = z2 * fac [z0, z1, z2] → z46 = z14 * fac [z14, z15, z16] → z47 = z15 * fac [z14, z15, z16] → z48 = z16 * fac [z14, z15, z16] → z49 = z9 * z48 → z50 = z10 * z47 → z51 = z49 - z50 → z52 = z10 * z46 → z53 = z8 * z48 → z54 = z52 - z53 → z55 = z8 * z47 → z56 = z9 * z46 → z57 = z55 - z56 → (z62 = 0 ↔ ((z51 = 0 ∧ z54 = 0) ∧ z57 = 0)) → z75 = z1 * z14 → z76 = z0 * z15 → z77 = z75 - z76 → z78 = z2 * z14 → z79 = z0 * z16 → z80 = z78 - z79 → z81 = z2 * z15 → z82 = z1 * z16 → z83 = z81 - z82 → (z88 = 0 ↔ ((z77 = 0 ∧ z80 = 0) ∧ z83 = 0)) → (z62 = 0) → z88 = 0 := by
 intro e8 e9 e10 e46 e47 e48 e49 e50 e51 e52 e53 e54 e55 e56 e57 e62 e75 e76 e77 e78 e79 e80 e81 e82 e83 e88 u2
 obtain ⟨⟨ua2_51, ua2_54⟩, ua2_57⟩ := e62.1 u2
 rw [e88]
 clear u2 e62 e88
 have k0_0 : fac [z0, z1, z2] = 0 → z0 = 0 := fac_zero (by simp)
 have k0_1 : fac [z0, z1, z2] = 0 → z1 = 0 := fac_zero (by simp)
 have k0_2 : fac [z0, z1, z2] = 0 → z2 = 0 := fac_zero (by simp)
 generalize fac [z0, z1, z2] = g0 at *
 have k1_14 : fac [z14, z15, z16] = 0 → z14 = 0 := fac_zero (by simp)
 have k1_15 : fac [z14, z15, z16] = 0 → z15 = 0 := fac_zero (by simp)
 have k1_16 : fac [z14, z15, z16] = 0 → z16 = 0 := fac_zero (by simp)
 generalize fac [z14, z15, z16] = g1 at *
 rcases Classical.em (g0 = 0) with iw0 | iw0
 ·have ic0_0 := k0_0 iw0
  have ic0_1 := k0_1 iw0
  have ic0_2 := k0_2 iw0
  refine ⟨⟨?_, ?_⟩, ?_⟩ <;> (subst_vars; grind)
 obtain ⟨iv0, ih0⟩ : ∃ i, g0 * i = 1 := ⟨g0⁻¹, Rat.mul_inv_cancel _ iw0⟩
 rcases Classical.em (g1 = 0) with iw1 | iw1
 ·have ic1_14 := k1_14 iw1
  have ic1_15 := k1_15 iw1
  have ic1_16 := k1_16 iw1
  refine ⟨⟨?_, ?_⟩, ?_⟩ <;> (subst_vars; grind)
 obtain ⟨iv1, ih1⟩ : ∃ i, g1 * i = 1 := ⟨g1⁻¹, Rat.mul_inv_cancel _ iw1⟩
 clear k0_0 k0_1 k0_2 k1_14 k1_15 k1_16
 refine ⟨⟨?_, ?_⟩, ?_⟩ <;> (subst_vars; grind)
theorem projectPlain_f8 {z0 z1 z2 z7 z8 z9 z10 z14 z15 z16 z21 z26 z46 z47 z48 z49 z50 z51 z52 z53 z54 z55 z56 z57 z62 : Rat} : (z7 = 0 ↔ ((z0 = 0 ∧ z1 = 0) ∧ z2 = 0)) → z8 = z0 * fac [z0, z1, z2] → z9 = z1 * fac [z0, z1, z2] → z10 = z2 * fac [z0, z1, z2] → (z21 = 0 ↔ ((z14 = 0 ∧ z15 = 0) ∧ z16 = 0)) → (z26 = 0 ↔ ((z8 = 0 ∧ z9 = 0) ∧ z10 = 0)) → z46 = z14 * fac [z14, z15, z16] → z47 = z15 * fac [z14, z15, z16] → z48 = z16 * fac [z14, z15, z16] → z49 = z9 * z48 → z50 = z10 * z47 → z51 = z49 - z50 → z52 = z10 * z46 → z53 = z8 * z48 → z54 = z52 - z53 → z55 = z8 * z47 → z56 = z9 * z46 → z57 = z55 - z56 → (z62 = 0 ↔ ((z51 = 0 ∧ z54 = 0) ∧ z57 = 0)) → (¬ (z7 = 0)) → (¬ (z21 = 0)) → (¬ (z62 = 0)) → ¬ (z26 = 0) := by
 intro e7 e8 e9 e10 e21 e26 e46 e47 e48 e49 e50 e51 e52 e53 e54 e55 e56 e57 e62 u0 u1 u2
 rw [e7] at u0
 rw [e21] at u1
 rw [e62] at u2
 rw [e26]
 clear  e7 e21 e26 e62
 have k0_0 : fac [z0, z1, z2] = 0 → z0 = 0 := fac_zero (by simp)
 have k0_1 : fac [z0, z1, z2] = 0 → z1 = 0 := fac_zero (by simp)
 have k0_2 : fac [z0, z1, z2] = 0 → z2 = 0 := fac_zero (by simp)
 generalize fac [z0, z1, z2] = g0 at *
 have k1_14 : fac [z14, z15, z16] = 0 → z14 = 0 := fac_zero (by simp)
 have k1_15 : fac [z14, z15, z16] = 0 → z15 = 0 := fac_zero (by simp)
 have k1_16 : fac [z14, z15, z16] = 0 → z16 = 0 := fac_zero (by simp)
 generalize fac [z14, z15, z16] = g1 at *
 have nx0 := u0
 have iw0 : g0 ≠ 0 := fun hg => nx0 ⟨⟨(k0_0 hg), (k0_1 hg)⟩, (k0_2 hg)⟩
 obtain ⟨iv0, ih0⟩ : ∃ i, g0 * i = 1 := ⟨g0⁻¹, Rat.mul_inv_cancel _ iw0⟩
 have nx1 := u1
 have iw1 : g1 ≠ 0 := fun hg => nx1 ⟨⟨(k1_14 hg), (k1_15 hg)⟩, (k1_16 hg)⟩
 obtain ⟨iv1, ih1⟩ : ∃ i, g1 * i = 1 := ⟨g1⁻¹, Rat.mul_inv_cancel _ iw1⟩
 clear k0_0 k0_1 k0_2 k1_14 k1_15 k1_16
 exact trip_fac nx0 iw0 e8 e9 e10
theorem projectPlain_f9 {z0 z1 z2 z7 z8 z9 z10 z11 z12 z13 z14 z15 z16 z21 z31 z46 z47 z48 z49 z50 z51 z52 z53 z54 z55 z56 z57 z62 : Rat} : (z7 = 0 ↔ ((z0 = 0 ∧ z1 = 0) ∧ z2 = 0)) → z8 = z0 * fac [z0, z1, z2] → z9 = z1 * fac [z0, z1, z2] → z10 = z2 * fac [z0, z1, z2] → z11 = z8 * fac [z8, z9, z10] → z12 = z9 * fac [z8, z9, z10] → z13 = z10 * fac [z8, z9, z10] → (z21 = 0 ↔ ((z14 = 0 ∧ z15 = 0) ∧ z16 = 0)) → (z31 = 0 ↔ ((z11 = 0 ∧ z12 = 0) ∧ z13 = 0)) → z46 = z14 * fac [z14, z15, z16] → z47 = z15 * fac [z14, z15, z16] → z48 = z16 * fac [z14, z15, z16] → z49 = z9 * z48 → z50 = z10 * z47 → z51 = z49 - z50 → z52 = z10 * z46 → z53 = z8 * z48 → z54 = z52 - z53 → z55 = z8 * z47 → z56 = z9 * z46 → z57 = z55 - z56 → (z62 = 0 ↔ ((z51 = 0 ∧ z54 = 0) ∧ z57 = 0)) → (¬ (z7 = 0)) → (¬ (z21 = 0)) → (¬ (z62 = 0)) → ¬ (z31 = 0) := by
 intro e7 e8 e9 e10 e11 e12 e13 e21 e31 e46 e47 e48 e49 e50 e51 e52 e53 e54 e55 e56 e57 e62 u0 u1 u2
 rw [e7] at u0
 rw [e21] at u1
 rw [e62] at u2
 rw [e31]
 clear  e7 e21 e31 e62
 have k0_0 : fac [z0, z1, z2] = 0 → z0 = 0 := fac_zero (by simp)
 have k0_1 : fac [z0, z1, z2] = 0 → z1 = 0 := fac_zero (by simp)
 have k0_2 : fac [z0, z1, z2] = 0 → z2 = 0 := fac_zero (by simp)
 generalize fac [z0, z1, z2] = g0 at *
 have k1_8 : fac [z8, z9, z10] = 0 → z8 = 0 := fac_zero (by simp)
 have k1_9 : fac [z8, z9, z10] = 0 → z9 = 0 := fac_zero (by simp)
 have k1_10 : fac [z8, z9, z10] = 0 → z10 = 0 := fac_zero (by simp)
 generalize fac [z8, z9, z10] = g1 at *
 have k2_14 : fac [z14, z15, z16] = 0 → z14 = 0 := fac_zero (by simp)
 have k2_15 : fac [z14, z15, z16] = 0 → z15 = 0 := fac_zero (by simp)
 have k2_16 : fac [z14, z15, z16] = 0 → z16 = 0 := fac_zero (by simp)
 generalize fac [z14, z15, z16] = g2 at *
 have nx0 := u0
 have iw0 : g0 ≠ 0 := fun hg => nx0 ⟨⟨(k0_0 hg), (k0_1 hg)⟩, (k0_2 hg)⟩
 obtain ⟨iv0, ih0⟩ : ∃ i, g0 * i = 1 := ⟨g0⁻¹, Rat.mul_inv_cancel _ iw0⟩
 have nx1 : ¬ ((z8 = 0 ∧ z9 = 0) ∧ z10 = 0) := by
  rintro ⟨⟨hx8, hx9⟩, hx10⟩
  first | grind | (subst_vars; grind)
 have iw1 : g1 ≠ 0 := fun hg => nx1 ⟨⟨(k1_8 hg), (k1_9 hg)⟩, (k1_10 hg)⟩
 obtain ⟨iv1, ih1⟩ : ∃ i, g1 * i = 1 := ⟨g1⁻¹, Rat.mul_inv_cancel _ iw1⟩
 have nx2 := u1
 have iw2 : g2 ≠ 0 := fun hg => nx2 ⟨⟨(k2_14 hg), (k2_15 hg)⟩, (k2_16 hg)⟩
 obtain ⟨iv2, ih2⟩ : ∃ i, g2 * i = 1 := ⟨g2⁻¹, Rat.mul_inv_cancel _ iw2⟩
 clear k0_0 k0_1 k0_2 k1_8 k1_9 k1_10 k2_14 k2_15 k2_16
 exact trip_fac nx1 iw1 e11 e12 e13
theorem projectPlain_f10 {z0 z1 z2 z8 z9 z10 z14 z15 z16 z46 z47 z48 z63 z64 z65 z66 z67 z68 z69 z70 z71 z72 z73 z74 : Rat} : z8 = z0 * fac [z0, z1, z2] → z9 = z1 * fac [z0, z1, z2] → z10 = z2 * fac [z0, z1, z2] → z46 = z14 * fac [z14, z15, z16] → z47 = z15 * fac [z14, z15, z16] → z48 = z16 * fac [z14, z15, z16] → z63 = z8 * z46 → z64 = 0 → z65 = z64 + z63 → z66 = z9 * z47 → z67 = z65 + z66 → z68 = z10 * z48 → z69 = z67 + z68 → z70 = z0 * z14 → z71 = z1 * z15 → z72 = z2 * z16 → z73 = z70 + z71 → z74 = z73 + z72 → (z69 = 0) → z74 = 0 := by
 intro e8 e9 e10 e46 e47 e48 e63 e64 e65 e66 e67 e68 e69 e70 e71 e72 e73 e74 u3
 rw [u3] at e69
 have k0_0 : fac [z0, z1, z2] = 0 → z0 = 0 := fac_zero (by simp)
 have k0_1 : fac [z0, z1, z2] = 0 → z1 = 0 := fac_zero (by simp)
 have k0_2 : fac [z0, z1, z2] = 0 → z2 = 0 := fac_zero (by simp)
 generalize fac [z0, z1, z2] = g0 at *
 have k1_14 : fac [z14, z15, z16] = 0 → z14 = 0 := fac_zero (by simp)
 have k1_15 : fac [z14, z15, z16] = 0 → z15 = 0 := fac_zero (by simp)
 have k1_16 : fac [z14, z15, z16] = 0 → z16 = 0 := fac_zero (by simp)
 generalize fac [z14, z15, z16] = g1 at *
 rcases Classical.em (g0 = 0) with iw0 | iw0
 ·have ic0_0 := k0_0 iw0
  have ic0_1 := k0_1 iw0
  have ic0_2 := k0_2 iw0
  subst_vars; grind
 obtain ⟨iv0, ih0⟩ : ∃ i, g0 * i = 1 := ⟨g0⁻¹, Rat.mul_inv_cancel _ iw0⟩
 rcases Classical.em (g1 = 0) with iw1 | iw1
 ·have ic1_14 := k1_14 iw1
  have ic1_15 := k1_15 iw1
  have ic1_16 := k1_16 iw1
  subst_vars; grind
 obtain ⟨iv1, ih1⟩ : ∃ i, g1 * i = 1 := ⟨g1⁻¹, Rat.mul_inv_cancel _ iw1⟩
 clear k0_0 k0_1 k0_2 k1_14 k1_15 k1_16
 subst_vars; grind
theorem projectPlain_f11 {z0 z1 z2 z7 z8 z9 z10 z14 z15 z16 z21 z46 z47 z48 z49 z50 z51 z52 z53 z54 z55 z56 z57 z62 z75 z76 z77 z78 z79 z80 z81 z82 z83 z88 : Rat} : (z7 = 0 ↔ ((z0 = 0 ∧ z1 = 0) ∧ z2 = 0)) → z8 = z0 * fac [z0, z1, z2] → z9 = z1 * fac [z0, z1, z2] → z10 = z2 * fac [z0, z1, z2] → (z21 = 0 ↔ ((z14 = 0 ∧ z15 = 0) ∧ z16 = 0)) → z46 = z14 * fac [z14, z15, z16] → z47 = z15 * fac [z14, z15, z16] → z48 = z16 * fac [z14, z15, z16] → z49 = z9 * z48 → z50 = z10 * z47 → z51 = z49 - z50 → z52 = z10 * z46 → z53 = z8 * z48 → z54 = z52 - z53 → z55 = z8 * z47 → z56 = z9 * z46 → z57 = z55 - z56 → (z62 = 0 ↔ ((z51 = 0 ∧ z54 = 0) ∧ z57 = 0)) → z75 = z1 * z14 → z76 = z0 * z15 → z77 = z75 - z76 → z78 = z2 * z14 → z79 = z0 * z16 → z80 = z78 - z79 → z81 = z2 * z15 → z82 = z1 * z16 → z83 = z81 - z82 → (z88 = 0 ↔ ((z77 = 0 ∧ z80 = 0) ∧ z83 = 0)) → (¬ (z7 = 0)) → (¬ (z21 = 0)) → (¬ (z62 = 0)) → ¬ (z88 = 0) := by
 intro e7 e8 e9 e10 e21 e46 e47 e48 e49 e50 e51 e52 e53 e54 e55 e56 e57 e62 e75 e76 e77 e78 e79 e80 e81 e82 e83 e88 u0 u1 u2
 rw [e7] at u0
 rw [e21] at u1
 rw [e62] at u2
 rw [e88]
 clear  e7 e21 e62 e88
 have k0_0 : fac [z0, z1, z2] = 0 → z0 = 0 := fac_zero (by simp)
 have k0_1 : fac [z0, z1, z2] = 0 → z1 = 0 := fac_zero (by simp)
 have k0_2 : fac [z0, z1, z2] = 0 → z2 = 0 := fac_zero (by simp)
 generalize fac [z0, z1, z2] = g0 at *
 have k1_14 : fac [z14, z15, z16] = 0 → z14 = 0 := fac_zero (by simp)
 have k1_15 : fac [z14, z15, z16] = 0 → z15 = 0 := fac_zero (by simp)
 have k1_16 : fac [z14, z15, z16] = 0 → z16 = 0 := fac_zero (by simp)
 generalize fac [z14, z15, z16] = g1 at *
 have nx0 := u0
 have iw0 : g0 ≠ 0 := fun hg => nx0 ⟨⟨(k0_0 hg), (k0_1 hg)⟩, (k0_2 hg)⟩
 obtain ⟨iv0, ih0⟩ : ∃ i, g0 * i = 1 := ⟨g0⁻¹, Rat.mul_inv_cancel _ iw0⟩
 have nx1 := u1
 have iw1 : g1 ≠ 0 := fun hg => nx1 ⟨⟨(k1_14 hg), (k1_15 hg)⟩, (k1_16 hg)⟩
 obtain ⟨iv1, ih1⟩ : ∃ i, g1 * i = 1 := ⟨g1⁻¹, Rat.mul_inv_cancel _ iw1⟩
 clear k0_0 k0_1 k0_2 k1_14 k1_15 k1_16
 rintro ⟨⟨ub77, ub80⟩, ub83⟩
 subst_vars; grind
theorem projectPlain_f12 {z0 z1 z2 z7 z8 z9 z10 z14 z15 z16 z21 z46 z47 z48 z49 z50 z51 z52 z53 z54 z55 z56 z57 z62 z89 z90 z91 z96 : Rat} : (z7 = 0 ↔ ((z0 = 0 ∧ z1 = 0) ∧ z2 = 0)) → z8 = z0 * fac [z0, z1, z2] → z9 = z1 * fac [z0, z1, z2] → z10 = z2 * fac [z0, z1, z2] → (z21 = 0 ↔ ((z14 = 0 ∧ z15 = 0) ∧ z16 = 0)) → z46 = z14 * fac [z14, z15, z16] → z47 = z15 * fac [z14, z15, z16] → z48 = z16 * fac [z14, z15, z16] → z49 = z9 * z48 → z50 = z10 * z47 → z51 = z49 - z50 → z52 = z10 * z46 → z53 = z8 * z48 → z54 = z52 - z53 → z55 = z8 * z47 → z56 = z9 * z46 → z57 = z55 - z56 → (z62 = 0 ↔ ((z51 = 0 ∧ z54 = 0) ∧ z57 = 0)) → z89 = z51 * fac [z51, z54, z57] → z90 = z54 * fac [z51, z54, z57] → z91 = z57 * fac [z51, z54, z57] → (z96 = 0 ↔ ((z89 = 0 ∧ z90 = 0) ∧ z91 = 0)) → (¬ (z7 = 0)) → (¬ (z21 = 0)) → (¬ (z62 = 0)) → ¬ (z96 = 0) := by
 intro e7 e8 e9 e10 e21 e46 e47 e48 e49 e50 e51 e52 e53 e54 e55 e56 e57 e62 e89 e90 e91 e96 u0 u1 u2
 rw [e7] at u0
 rw [e21] at u1
 rw [e62] at u2
 rw [e96]
 clear  e7 e21 e62 e96
 have k0_0 : fac [z0, z1, z2] = 0 → z0 = 0 := fac_zero (by simp)
 have k0_1 : fac [z0, z1, z2] = 0 → z1 = 0 := fac_zero (by simp)
 have k0_2 : fac [z0, z1, z2] = 0 → z2 = 0 := fac_zero (by simp)
 generalize fac [z0, z1, z2] = g0 at *
 have k1_14 : fac [z14, z15, z16] = 0 → z14 = 0 := fac_zero (by simp)
 have k1_15 : fac [z14, z15, z16] = 0 → z15 = 0 := fac_zero (by simp)
 have k1_16 : fac [z14, z15, z16] = 0 → z16 = 0 := fac_zero (by simp)
 generalize fac [z14, z15, z16] = g1 at *
 have k2_51 : fac [z51, z54, z57] = 0 → z51 = 0 := fac_zero (by simp)
 have k2_54 : fac [z51, z54, z57] = 0 → z54 = 0 := fac_zero (by simp)
 have k2_57 : fac [z51, z54, z57] = 0 → z57 = 0 := fac_zero (by simp)
 generalize fac [z51, z54, z57] = g2 at *
 have nx0 := u0
 have iw0 : g0 ≠ 0 := fun hg => nx0 ⟨⟨(k0_0 hg), (k0_1 hg)⟩, (k0_2 hg)⟩
 obtain ⟨iv0, ih0⟩ : ∃ i, g0 * i = 1 := ⟨g0⁻¹, Rat.mul_inv_cancel _ iw0⟩
 have nx1 := u1
 have iw1 : g1 ≠ 0 := fun hg => nx1 ⟨⟨(k1_14 hg), (k1_15 hg)⟩, (k1_16 hg)⟩
 obtain ⟨iv1, ih1⟩ : ∃ i, g1 * i = 1 := ⟨g1⁻¹, Rat.mul_inv_cancel _ iw1⟩
 have nx2 := u2
 have iw2 : g2 ≠ 0 := fun hg => nx2 ⟨⟨(k2_51 hg), (k2_54 hg)⟩, (k2_57 hg)⟩
 obtain ⟨iv2, ih2⟩ : ∃ i, g2 * i = 1 := ⟨g2⁻¹, Rat.mul_inv_cancel _ iw2⟩
 clear k0_0 k0_1 k0_2 k1_14 k1_15 k1_16 k2_51 k2_54 k2_57
 exact trip_fac nx2 iw2 e89 e90 e91
theorem projectPlain_f13 {z0 z1 z2 z7 z8 z9 z10 z14 z15 z16 z21 z46 z47 z48 z49 z50 z51 z52 z53 z54 z55 z56 z57 z62 z89 z90 z91 z97 z98 z99 z100 z101 : Rat} : (z7 = 0 ↔ ((z0 = 0 ∧ z1 = 0) ∧ z2 = 0)) → z8 = z0 * fac [z0, z1, z2] → z9 = z1 * fac [z0, z1, z2] → z10 = z2 * fac [z0, z1, z2] → (z21 = 0 ↔ ((z14 = 0 ∧ z15 = 0) ∧ z16 = 0)) → z46 = z14 * fac [z14, z15, z16] → z47 = z15 * fac [z14, z15, z16] → z48 = z16 * fac [z14, z15, z16] → z49 = z9 * z48 → z50 = z10 * z47 → z51 = z49 - z50 → z52 = z10 * z46 → z53 = z8 * z48 → z54 = z52 - z53 → z55 = z8 * z47 → z56 = z9 * z46 → z57 = z55 - z56 → (z62 = 0 ↔ ((z51 = 0 ∧ z54 = 0) ∧ z57 = 0)) → z89 = z51 * fac [z51, z54, z57] → z90 = z54 * fac [z51, z54, z57] → z91 = z57 * fac [z51, z54, z57] → z97 = z89 * z0 → z98 = z90 * z1 → z99 = z91 * z2 → z100 = z97 + z98 → z101 = z100 + z99 → (¬ (z7 = 0)) → (¬ (z21 = 0)) → (¬ (z62 = 0)) → z101 = 0 := by
 intro e7 e8 e9 e10 e21 e46 e47 e48 e49 e50 e51 e52 e53 e54 e55 e56 e57 e62 e89 e90 e91 e97 e98 e99 e100 e101 u0 u1 u2
 rw [e7] at u0
 rw [e21] at u1
 rw [e62] at u2
 clear  e7 e21 e62
 have k0_0 : fac [z0, z1, z2] = 0 → z0 = 0 := fac_zero (by simp)
 have k0_1 : fac [z0, z1, z2] = 0 → z1 = 0 := fac_zero (by simp)
 have k0_2 : fac [z0, z1, z2] = 0 → z2 = 0 := fac_zero (by simp)
 generalize fac [z0, z1, z2] = g0 at *
 have k1_14 : fac [z14, z15, z16] = 0 → z14 = 0 := fac_zero (by simp)
 have k1_15 : fac [z14, z15, z16] = 0 → z15 = 0 := fac_zero (by simp)
 have k1_16 : fac [z14, z15, z16] = 0 → z16 = 0 := fac_zero (by simp)
 generalize fac [z14, z15, z16] = g1 at *
 have k2_51 : fac [z51, z54, z57] = 0 → z51 = 0 := fac_zero (by simp)
 have k2_54 : fac [z51, z54, z57] = 0 → z54 = 0 := fac_zero (by simp)
 have k2_57 : fac [z51, z54, z57] = 0 → z57 = 0 := fac_zero (by simp)
 generalize fac [z51, z54, z57] = g2 at *
 have nx0 := u0
 have iw0 : g0 ≠ 0 := fun hg => nx0 ⟨⟨(k0_0 hg), (k0_1 hg)⟩, (k0_2 hg)⟩
 obtain ⟨iv0, ih0⟩ : ∃ i, g0 * i = 1 := ⟨g0⁻¹, Rat.mul_inv_cancel _ iw0⟩
 have nx1 := u1
 have iw1 : g1 ≠ 0 := fun hg => nx1 ⟨⟨(k1_14 hg), (k1_15 hg)⟩, (k1_16 hg)⟩
 obtain ⟨iv1, ih1⟩ : ∃ i, g1 * i = 1 := ⟨g1⁻¹, Rat.mul_inv_cancel _ iw1⟩
 have nx2 := u2
 have iw2 : g2 ≠ 0 := fun hg => nx2 ⟨⟨(k2_51 hg), (k2_54 hg)⟩, (k2_57 hg)⟩
 obtain ⟨iv2, ih2⟩ : ∃ i, g2 * i = 1 := ⟨g2⁻¹, Rat.mul_inv_cancel _ iw2⟩
 clear k0_0 k0_1 k0_2 k1_14 k1_15 k1_16 k2_51 k2_54 k2_57
 subst_vars; grind
theorem projectPlain_f14 {z0 z1 z2 z7 z8 z9 z10 z14 z15 z16 z21 z46 z47 z48 z49 z50 z51 z52 z53 z54 z55 z56 z57 z62 z89 z90 z91 z102 z103 z104 z105 z106 : Rat} : (z7 = 0 ↔ ((z0 = 0 ∧ z1 = 0) ∧ z2 = 0)) → z8 = z0 * fac [z0, z1, z2] → z9 = z1 * fac [z0, z1, z2] → z10 = z2 * fac [z0, z1, z2] → (z21 = 0 ↔ ((z14 = 0 ∧ z15 = 0) ∧ z16 = 0)) → z46 = z14 * fac [z14, z15, z16] → z47 = z15 * fac [z14, z15, z16] → z48 = z16 * fac [z14, z15, z16] → z49 = z9 * z48 → z50 = z10 * z47 → z51 = z49 - z50 → z52 = z10 * z46 → z53 = z8 * z48 → z54 = z52 - z53 → z55 = z8 * z47 → z56 = z9 * z46 → z57 = z55 - z56 → (z62 = 0 ↔ ((z51 = 0 ∧ z54 = 0) ∧ z57 = 0)) → z89 = z51 * fac [z51, z54, z57] → z90 = z54 * fac [z51, z54, z57] → z91 = z57 * fac [z51, z54, z57] → z102 = z89 * z14 → z103 = z90 * z15 → z104 = z91 * z16 → z105 = z102 + z103 → z106 = z105 + z104 → (¬ (z7 = 0)) → (¬ (z21 = 0)) → (¬ (z62 = 0)) → z106 = 0 := by
 intro e7 e8 e9 e10 e21 e46 e47 e48 e49 e50 e51 e52 e53 e54 e55 e56 e57 e62 e89 e90 e91 e102 e103 e104 e105 e106 u0 u1 u2
 rw [e7] at u0
 rw [e21] at u1
 rw [e62] at u2
 clear  e7 e21 e62
 have k0_0 : fac [z0, z1, z2] = 0 → z0 = 0 := fac_zero (by simp)
 have k0_1 : fac [z0, z1, z2] = 0 → z1 = 0 := fac_zero (by simp)
 have k0_2 : fac [z0, z1, z2] = 0 → z2 = 0 := fac_zero (by simp)
 generalize fac [z0, z1, z2] = g0 at *
 have k1_14 : fac [z14, z15, z16] = 0 → z14 = 0 := fac_zero (by simp)
 have k1_15 : fac [z14, z15, z16] = 0 → z15 = 0 := fac_zero (by simp)
 have k1_16 : fac [z14, z15, z16] = 0 → z16 = 0 := fac_zero (by simp)
 generalize fac [z14, z15, z16] = g1 at *
 have k2_51 : fac [z51, z54, z57] = 0 → z51 = 0 := fac_zero (by simp)
 have k2_54 : fac [z51, z54, z57] = 0 → z54 = 0 := fac_zero (by simp)
 have k2_57 : fac [z51, z54, z57] = 0 → z57 = 0 := fac_zero (by simp)
 generalize fac [z51, z54, z57] = g2 at *
 have nx0 := u0
 have iw0 : g0 ≠ 0 := fun hg => nx0 ⟨⟨(k0_0 hg), (k0_1 hg)⟩, (k0_2 hg)⟩
 obtain ⟨iv0, ih0⟩ : ∃ i, g0 * i = 1 := ⟨g0⁻¹, Rat.mul_inv_cancel _ iw0⟩
 have nx1 := u1
 have iw1 : g1 ≠ 0 := fun hg => nx1 ⟨⟨(k1_14 hg), (k1_15 hg)⟩, (k1_16 hg)⟩
 obtain ⟨iv1, ih1⟩ : ∃ i, g1 * i = 1 := ⟨g1⁻¹, Rat.mul_inv_cancel _ iw1⟩
 have nx2 := u2
 have iw2 : g2 ≠ 0 := fun hg => nx2 ⟨⟨(k2_51 hg), (k2_54 hg)⟩, (k2_57 hg)⟩
 obtain ⟨iv2, ih2⟩ : ∃ i, g2 * i = 1 := ⟨g2⁻¹, Rat.mul_inv_cancel _ iw2⟩
 clear k0_0 k0_1 k0_2 k1_14 k1_15 k1_16 k2_51 k2_54 k2_57
 subst_vars; grind
theorem projectPlain_f15 {z0 z1 z2 z7 z8 z9 z10 z14 z15 z16 z21 z46 z47 z48 z49 z50 z51 z52 z53 z54 z55 z56 z57 z62 z63 z64 z65 z66 z67 z68 z69 z70 z71 z72 z73 z74 : Rat} : (z7 = 0 ↔ ((z0 = 0 ∧ z1 = 0) ∧ z2 = 0)) → z8 = z0 * fac [z0, z1, z2] → z9 = z1 * fac [z0, z1, z2] → z10 = z2 * fac [z0, z1, z2] → (z21 = 0 ↔ ((z14 = 0 ∧ z15 = 0) ∧ z16 = 0)) → z46 = z14 * fac [z14, z15, z16] → z47 = z15 * fac [z14, z15, z16] → z48 = z16 * fac [z14, z15, z16] → z49 = z9 * z48 → z50 = z10 * z47 → z51 = z49 - z50 → z52 = z10 * z46 → z53 = z8 * z48 → z54 = z52 - z53 → z55 = z8 * z47 → z56 = z9 * z46 → z57 = z55 - z56 → (z62 = 0 ↔ ((z51 = 0 ∧ z54 = 0) ∧ z57 = 0)) → z63 = z8 * z46 → z64 = 0 → z65 = z64 + z63 → z66 = z9 * z47 → z67 = z65 + z66 → z68 = z10 * z48 → z69 = z67 + z68 → z70 = z0 * z14 → z71 = z1 * z15 → z72 = z2 * z16 → z73 = z70 + z71 → z74 = z73 + z72 → (¬ (z7 = 0)) → (¬ (z21 = 0)) → (¬ (z62 = 0)) → (¬ (z69 = 0)) → ¬ (z74 = 0) := by
 intro e7 e8 e9 e10 e21 e46 e47 e48 e49 e50 e51 e52 e53 e54 e55 e56 e57 e62 e63 e64 e65 e66 e67 e68 e69 e70 e71 e72 e73 e74 u0 u1 u2 u3
 rw [e7] at u0
 rw [e21] at u1
 rw [e62] at u2
 clear  e7 e21 e62
 have k0_0 : fac [z0, z1, z2] = 0 → z0 = 0 := fac_zero (by simp)
 have k0_1 : fac [z0, z1, z2] = 0 → z1 = 0 := fac_zero (by simp)
 have k0_2 : fac [z0, z1, z2] = 0 → z2 = 0 := fac_zero (by simp)
 generalize fac [z0, z1, z2] = g0 at *
 have k1_14 : fac [z14, z15, z16] = 0 → z14 = 0 := fac_zero (by simp)
 have k1_15 : fac [z14, z15, z16] = 0 → z15 = 0 := fac_zero (by simp)
 have k1_16 : fac [z14, z15, z16] = 0 → z16 = 0 := fac_zero (by simp)
 generalize fac [z14, z15, z16] = g1 at *
 have nx0 := u0
 have iw0 : g0 ≠ 0 := fun hg => nx0 ⟨⟨(k0_0 hg), (k0_1 hg)⟩, (k0_2 hg)⟩
 obtain ⟨iv0, ih0⟩ : ∃ i, g0 * i = 1 := ⟨g0⁻¹, Rat.mul_inv_cancel _ iw0⟩
 have nx1 := u1
 have iw1 : g1 ≠ 0 := fun hg => nx1 ⟨⟨(k1_14 hg), (k1_15 hg)⟩, (k1_16 hg)⟩
 obtain ⟨iv1, ih1⟩ : ∃ i, g1 * i = 1 := ⟨g1⁻¹, Rat.mul_inv_cancel _ iw1⟩
 clear k0_0 k0_1 k0_2 k1_14 k1_15 k1_16
 subst_vars; grind
theorem projectPlain_r0 : (callC (sx Tryz.prog projectPlain_N [(0, 7, 0, 1)] [(277, [])] projectPlain_L projectPlain_C projectPlain_Z (prC [75])) [(179, 60), (154, 61), (25, 62), (78, 63), (97, 63)] 7 [] 9 [(false, [(true, [.inr (2, 0, 0, 0, 0), .inr (2, 1, 0, 0, 0), .inr (2, 2, 0, 0, 0)])]), (false, [(true, [.inr (2, 3, 0, 0, 0), .inr (2, 4, 0, 0, 0), .inr (2, 5, 0, 0, 0)])])] [] 0).map (·.1) = some (kB true) := by kernel_rfl
theorem projectPlain_r1 : (callC (sx Tryz.prog projectPlain_N [(0, 7, 0, 0), (0, 21, 0, 1), (0, 26, 0, 0), (0, 31, 0, 0), (0, 45, 0, 1)] [(277, [])] projectPlain_L projectPlain_C projectPlain_Z (prC [75])) [(179, 60), (154, 61), (25, 62), (78, 63), (97, 63)] 8 [] 9 [(false, [(true, [.inr (2, 0, 0, 0, 0), .inr (2, 1, 0, 0, 0), .inr (2, 2, 0, 0, 0)])]), (false, [(true, [.inr (2, 3, 0, 0, 0), .inr (2, 4, 0, 0, 0), .inr (2, 5, 0, 0, 0)])])] [] 0).map (·.1) = some (kB true) := by kernel_rfl
theorem projectPlain_r2 : (callC (sx Tryz.prog projectPlain_N [(0, 7, 0, 0), (0, 21, 0, 0), (0, 62, 0, 1), (0, 69, 0, 0), (0, 26, 0, 0), (0, 31, 0, 0), (0, 45, 0, 1), (0, 74, 0, 0), (0, 88, 0, 1)] [(277, [])] projectPlain_L projectPlain_C projectPlain_Z (prC [75])) [(179, 60), (154, 61), (25, 62), (78, 63), (97, 63)] 8 [] 9 [(false, [(true, [.inr (2, 0, 0, 0, 0), .inr (2, 1, 0, 0, 0), .inr (2, 2, 0, 0, 0)])]), (false, [(true, [.inr (2, 3, 0, 0, 0), .inr (2, 4, 0, 0, 0), .inr (2, 5, 0, 0, 0)])])] [] 0).map (·.1) = some (kB true) := by kernel_rfl
theorem projectPlain_r3 : (callC (sx Tryz.prog projectPlain_N [(0, 7, 0, 0), (0, 21, 0, 0), (0, 62, 0, 0), (0, 69, 0, 1), (0, 26, 0, 0), (0, 31, 0, 0), (0, 45, 0, 1), (0, 74, 0, 1), (0, 88, 0, 0), (0, 96, 0, 0), (0, 101, 0, 1), (0, 106, 0, 1)] [(277, [])] projectPlain_L projectPlain_C projectPlain_Z (prC [75])) [(179, 60), (154, 61), (25, 62), (78, 63), (97, 63)] 8 [] 9 [(false, [(true, [.inr (2, 0, 0, 0, 0), .inr (2, 1, 0, 0, 0), .inr (2, 2, 0, 0, 0)])]), (false, [(true, [.inr (2, 3, 0, 0, 0), .inr (2, 4, 0, 0, 0), .inr (2, 5, 0, 0, 0)])])] [] 0).map (·.1) = some (kB true) := by kernel_rfl
theorem projectPlain_r4 : (callC (sx Tryz.prog projectPlain_N [(0, 7, 0, 0), (0, 21, 0, 0), (0, 62, 0, 0), (0, 69, 0, 0), (0, 26, 0, 0), (0, 31, 0, 0), (0, 45, 0, 1), (0, 74, 0, 0), (0, 88, 0, 0), (0, 96, 0, 0), (0, 101, 0, 1), (0, 106, 0, 1)] [(277, [])] projectPlain_L projectPlain_C projectPlain_Z (prC [75])) [(179, 60), (154, 61), (25, 62), (78, 63), (97, 63)] 8 [] 9 [(false, [(true, [.inr (2, 0, 0, 0, 0), .inr (2, 1, 0, 0, 0), .inr (2, 2, 0, 0, 0)])]), (false, [(true, [.inr (2, 3, 0, 0, 0), .inr (2, 4, 0, 0, 0), .inr (2, 5, 0, 0, 0)])])] [] 0).map (·.1) = some (kB true) := by kernel_rfl
theorem projectPlain_walk {w : World} {sa sb sc ta tb tc : ByteArray} (ssa : sa.size ≤ 1048576) (ssb : sb.size ≤ 1048576) (ssc : sc.size ≤ 1048576) (sta : ta.size ≤ 1048576) (stb : tb.size ≤ 1048576) (stc : tc.size ≤ 1048576) (tab : Tab w) (mx : MaxL w) :
  Calls Tryz.prog 9 #[.agg #[.string sa, .string sb, .string sc], .agg #[.string ta, .string tb, .string tc]] w fun e w' => Below w.heap.size w w' ∧ e = .returned (.bool true) := by
 have hσ : ∀ j, (sgOf [sa, sb, sc, ta, tb, tc] j).size ≤ 1048576 := sgOf_size (by simp [ssa, ssb, ssc, sta, stb, stc])
 have hcl : ∀ f ∈ ([75] : List FuncId), Closed f := by simp [closed_projected]
 obtain ⟨q, hq, h0⟩ := nodes_exist (sgOf [sa, sb, sc, ta, tb, tc]) projectPlain_N projectPlain_wf
 have hA : ∀ K, A2 (avOn (cOn (evS q (sgOf [sa, sb, sc, ta, tb, tc])) K (fun _ => none) w)) [(false, [(true, [.inr (2, 0, 0, 0, 0), .inr (2, 1, 0, 0, 0), .inr (2, 2, 0, 0, 0)])]), (false, [(true, [.inr (2, 3, 0, 0, 0), .inr (2, 4, 0, 0, 0), .inr (2, 5, 0, 0, 0)])])] [.agg #[.string sa, .string sb, .string sc], .agg #[.string ta, .string tb, .string tc]] := fun K => ⟨⟨⟨[.string sa, .string sb, .string sc], rfl, rfl, rfl, rfl, trivial⟩, trivial⟩, ⟨⟨[.string ta, .string tb, .string tc], rfl, rfl, rfl, rfl, trivial⟩, trivial⟩, trivial⟩
 have E8 : q 8 = q 0 * fac [q 0, q 1, q 2] := hq 8 _ rfl
 have E9 : q 9 = q 1 * fac [q 0, q 1, q 2] := hq 9 _ rfl
 have E10 : q 10 = q 2 * fac [q 0, q 1, q 2] := hq 10 _ rfl
 have E11 : q 11 = q 8 * fac [q 8, q 9, q 10] := hq 11 _ rfl
 have E12 : q 12 = q 9 * fac [q 8, q 9, q 10] := hq 12 _ rfl
 have E13 : q 13 = q 10 * fac [q 8, q 9, q 10] := hq 13 _ rfl
 have E32 : q 32 = q 1 * q 11 := hq 32 _ rfl
 have E33 : q 33 = q 0 * q 12 := hq 33 _ rfl
 have E34 : q 34 = q 32 - q 33 := hq 34 _ rfl
 have E35 : q 35 = q 2 * q 11 := hq 35 _ rfl
 have E36 : q 36 = q 0 * q 13 := hq 36 _ rfl
 have E37 : q 37 = q 35 - q 36 := hq 37 _ rfl
 have E38 : q 38 = q 2 * q 12 := hq 38 _ rfl
 have E39 : q 39 = q 1 * q 13 := hq 39 _ rfl
 have E40 : q 40 = q 38 - q 39 := hq 40 _ rfl
 have E46 : q 46 = q 14 * fac [q 14, q 15, q 16] := hq 46 _ rfl
 have E47 : q 47 = q 15 * fac [q 14, q 15, q 16] := hq 47 _ rfl
 have E48 : q 48 = q 16 * fac [q 14, q 15, q 16] := hq 48 _ rfl
 have E49 : q 49 = q 9 * q 48 := hq 49 _ rfl
 have E50 : q 50 = q 10 * q 47 := hq 50 _ rfl
 have E51 : q 51 = q 49 - q 50 := hq 51 _ rfl
 have E52 : q 52 = q 10 * q 46 := hq 52 _ rfl
 have E53 : q 53 = q 8 * q 48 := hq 53 _ rfl
 have E54 : q 54 = q 52 - q 53 := hq 54 _ rfl
 have E55 : q 55 = q 8 * q 47 := hq 55 _ rfl
 have E56 : q 56 = q 9 * q 46 := hq 56 _ rfl
 have E57 : q 57 = q 55 - q 56 := hq 57 _ rfl
 have E63 : q 63 = q 8 * q 46 := hq 63 _ rfl
 have E64 : q 64 = 0 := (hq 64 _ rfl).trans projectPlain_c64
 have E65 : q 65 = q 64 + q 63 := hq 65 _ rfl
 have E66 : q 66 = q 9 * q 47 := hq 66 _ rfl
 have E67 : q 67 = q 65 + q 66 := hq 67 _ rfl
 have E68 : q 68 = q 10 * q 48 := hq 68 _ rfl
 have E69 : q 69 = q 67 + q 68 := hq 69 _ rfl
 have E70 : q 70 = q 0 * q 14 := hq 70 _ rfl
 have E71 : q 71 = q 1 * q 15 := hq 71 _ rfl
 have E72 : q 72 = q 2 * q 16 := hq 72 _ rfl
 have E73 : q 73 = q 70 + q 71 := hq 73 _ rfl
 have E74 : q 74 = q 73 + q 72 := hq 74 _ rfl
 have E75 : q 75 = q 1 * q 14 := hq 75 _ rfl
 have E76 : q 76 = q 0 * q 15 := hq 76 _ rfl
 have E77 : q 77 = q 75 - q 76 := hq 77 _ rfl
 have E78 : q 78 = q 2 * q 14 := hq 78 _ rfl
 have E79 : q 79 = q 0 * q 16 := hq 79 _ rfl
 have E80 : q 80 = q 78 - q 79 := hq 80 _ rfl
 have E81 : q 81 = q 2 * q 15 := hq 81 _ rfl
 have E82 : q 82 = q 1 * q 16 := hq 82 _ rfl
 have E83 : q 83 = q 81 - q 82 := hq 83 _ rfl
 have E89 : q 89 = q 51 * fac [q 51, q 54, q 57] := hq 89 _ rfl
 have E90 : q 90 = q 54 * fac [q 51, q 54, q 57] := hq 90 _ rfl
 have E91 : q 91 = q 57 * fac [q 51, q 54, q 57] := hq 91 _ rfl
 have E97 : q 97 = q 89 * q 0 := hq 97 _ rfl
 have E98 : q 98 = q 90 * q 1 := hq 98 _ rfl
 have E99 : q 99 = q 91 * q 2 := hq 99 _ rfl
 have E100 : q 100 = q 97 + q 98 := hq 100 _ rfl
 have E101 : q 101 = q 100 + q 99 := hq 101 _ rfl
 have E102 : q 102 = q 89 * q 14 := hq 102 _ rfl
 have E103 : q 103 = q 90 * q 15 := hq 103 _ rfl
 have E104 : q 104 = q 91 * q 16 := hq 104 _ rfl
 have E105 : q 105 = q 102 + q 103 := hq 105 _ rfl
 have E106 : q 106 = q 105 + q 104 := hq 106 _ rfl
 have Q7 : q 7 = 0 ↔ ((q 0 = 0 ∧ q 1 = 0) ∧ q 2 = 0) := (sq_next (sq_next (sq_first (hq 3 _ rfl)) (hq 4 _ rfl) (hq 5 _ rfl)) (hq 6 _ rfl) (hq 7 _ rfl)).2
 have Q21 : q 21 = 0 ↔ ((q 14 = 0 ∧ q 15 = 0) ∧ q 16 = 0) := (sq_next (sq_next (sq_first (hq 17 _ rfl)) (hq 18 _ rfl) (hq 19 _ rfl)) (hq 20 _ rfl) (hq 21 _ rfl)).2
 have Q26 : q 26 = 0 ↔ ((q 8 = 0 ∧ q 9 = 0) ∧ q 10 = 0) := (sq_next (sq_next (sq_first (hq 22 _ rfl)) (hq 23 _ rfl) (hq 24 _ rfl)) (hq 25 _ rfl) (hq 26 _ rfl)).2
 have Q31 : q 31 = 0 ↔ ((q 11 = 0 ∧ q 12 = 0) ∧ q 13 = 0) := (sq_next (sq_next (sq_first (hq 27 _ rfl)) (hq 28 _ rfl) (hq 29 _ rfl)) (hq 30 _ rfl) (hq 31 _ rfl)).2
 have Q45 : q 45 = 0 ↔ ((q 34 = 0 ∧ q 37 = 0) ∧ q 40 = 0) := (sq_next (sq_next (sq_first (hq 41 _ rfl)) (hq 42 _ rfl) (hq 43 _ rfl)) (hq 44 _ rfl) (hq 45 _ rfl)).2
 have Q62 : q 62 = 0 ↔ ((q 51 = 0 ∧ q 54 = 0) ∧ q 57 = 0) := (sq_next (sq_next (sq_first (hq 58 _ rfl)) (hq 59 _ rfl) (hq 60 _ rfl)) (hq 61 _ rfl) (hq 62 _ rfl)).2
 have Q88 : q 88 = 0 ↔ ((q 77 = 0 ∧ q 80 = 0) ∧ q 83 = 0) := (sq_next (sq_next (sq_first (hq 84 _ rfl)) (hq 85 _ rfl) (hq 86 _ rfl)) (hq 87 _ rfl) (hq 88 _ rfl)).2
 have Q96 : q 96 = 0 ↔ ((q 89 = 0 ∧ q 90 = 0) ∧ q 91 = 0) := (sq_next (sq_next (sq_first (hq 92 _ rfl)) (hq 93 _ rfl) (hq 94 _ rfl)) (hq 95 _ rfl) (hq 96 _ rfl)).2
 by_cases a_0_7_0 : q 7 = 0
 ·
  exact run_toldC' 7 (hy_of (H := [(0, 7, 0, 1)]) hσ projectPlain_wf projectPlain_sz projectPlain_lt projectPlain_cn hq h0 (And.intro (hT a_0_7_0) trivial)) hcl (by kernel_rfl) projectPlain_r0 ⟨tab, mx⟩ (hA _)
 ·
  by_cases a_0_21_0 : q 21 = 0
  ·
   have a_0_26_0 : ¬ (q 26 = 0) := projectPlain_f0 Q7 E8 E9 E10 Q21 Q26 a_0_7_0 a_0_21_0
   have a_0_31_0 : ¬ (q 31 = 0) := projectPlain_f1 Q7 E8 E9 E10 E11 E12 E13 Q21 Q31 a_0_7_0 a_0_21_0
   have a_0_45_0 : q 45 = 0 := projectPlain_f2 Q7 E8 E9 E10 E11 E12 E13 E32 E33 E34 E35 E36 E37 E38 E39 E40 Q45 a_0_7_0
   exact run_toldC' 8 (hy_of (H := [(0, 7, 0, 0), (0, 21, 0, 1), (0, 26, 0, 0), (0, 31, 0, 0), (0, 45, 0, 1)]) hσ projectPlain_wf projectPlain_sz projectPlain_lt projectPlain_cn hq h0 (And.intro (hF a_0_7_0) (And.intro (hT a_0_21_0) (And.intro (hF a_0_26_0) (And.intro (hF a_0_31_0) (And.intro (hT a_0_45_0) trivial)))))) hcl (by kernel_rfl) projectPlain_r1 ⟨tab, mx⟩ (hA _)
  ·
   by_cases a_0_62_0 : q 62 = 0
   ·
    have a_0_69_0 : ¬ (q 69 = 0) := projectPlain_f3 Q7 E8 E9 E10 Q21 E46 E47 E48 E49 E50 E51 E52 E53 E54 E55 E56 E57 Q62 E63 E64 E65 E66 E67 E68 E69 a_0_7_0 a_0_21_0 a_0_62_0
    have a_0_26_0 : ¬ (q 26 = 0) := projectPlain_f4 Q7 E8 E9 E10 Q21 Q26 E46 E47 E48 E49 E50 E51 E52 E53 E54 E55 E56 E57 Q62 a_0_7_0 a_0_21_0 a_0_62_0
    have a_0_31_0 : ¬ (q 31 = 0) := projectPlain_f5 Q7 E8 E9 E10 E11 E12 E13 Q21 Q31 E46 E47 E48 E49 E50 E51 E52 E53 E54 E55 E56 E57 Q62 a_0_7_0 a_0_21_0 a_0_62_0
    have a_0_45_0 : q 45 = 0 := projectPlain_f2 Q7 E8 E9 E10 E11 E12 E13 E32 E33 E34 E35 E36 E37 E38 E39 E40 Q45 a_0_7_0
    have a_0_74_0 : ¬ (q 74 = 0) := projectPlain_f6 Q7 E8 E9 E10 Q21 E46 E47 E48 E49 E50 E51 E52 E53 E54 E55 E56 E57 Q62 E70 E71 E72 E73 E74 a_0_7_0 a_0_21_0 a_0_62_0
    have a_0_88_0 : q 88 = 0 := projectPlain_f7 E8 E9 E10 E46 E47 E48 E49 E50 E51 E52 E53 E54 E55 E56 E57 Q62 E75 E76 E77 E78 E79 E80 E81 E82 E83 Q88 a_0_62_0
    exact run_toldC' 8 (hy_of (H := [(0, 7, 0, 0), (0, 21, 0, 0), (0, 62, 0, 1), (0, 69, 0, 0), (0, 26, 0, 0), (0, 31, 0, 0), (0, 45, 0, 1), (0, 74, 0, 0), (0, 88, 0, 1)]) hσ projectPlain_wf projectPlain_sz projectPlain_lt projectPlain_cn hq h0 (And.intro (hF a_0_7_0) (And.intro (hF a_0_21_0) (And.intro (hT a_0_62_0) (And.intro (hF a_0_69_0) (And.intro (hF a_0_26_0) (And.intro (hF a_0_31_0) (And.intro (hT a_0_45_0) (And.intro (hF a_0_74_0) (And.intro (hT a_0_88_0) trivial)))))))))) hcl (by kernel_rfl) projectPlain_r2 ⟨tab, mx⟩ (hA _)
   ·
    by_cases a_0_69_0 : q 69 = 0
    ·
     have a_0_26_0 : ¬ (q 26 = 0) := projectPlain_f8 Q7 E8 E9 E10 Q21 Q26 E46 E47 E48 E49 E50 E51 E52 E53 E54 E55 E56 E57 Q62 a_0_7_0 a_0_21_0 a_0_62_0
     have a_0_31_0 : ¬ (q 31 = 0) := projectPlain_f9 Q7 E8 E9 E10 E11 E12 E13 Q21 Q31 E46 E47 E48 E49 E50 E51 E52 E53 E54 E55 E56 E57 Q62 a_0_7_0 a_0_21_0 a_0_62_0
     have a_0_45_0 : q 45 = 0 := projectPlain_f2 Q7 E8 E9 E10 E11 E12 E13 E32 E33 E34 E35 E36 E37 E38 E39 E40 Q45 a_0_7_0
     have a_0_74_0 : q 74 = 0 := projectPlain_f10 E8 E9 E10 E46 E47 E48 E63 E64 E65 E66 E67 E68 E69 E70 E71 E72 E73 E74 a_0_69_0
     have a_0_88_0 : ¬ (q 88 = 0) := projectPlain_f11 Q7 E8 E9 E10 Q21 E46 E47 E48 E49 E50 E51 E52 E53 E54 E55 E56 E57 Q62 E75 E76 E77 E78 E79 E80 E81 E82 E83 Q88 a_0_7_0 a_0_21_0 a_0_62_0
     have a_0_96_0 : ¬ (q 96 = 0) := projectPlain_f12 Q7 E8 E9 E10 Q21 E46 E47 E48 E49 E50 E51 E52 E53 E54 E55 E56 E57 Q62 E89 E90 E91 Q96 a_0_7_0 a_0_21_0 a_0_62_0
     have a_0_101_0 : q 101 = 0 := projectPlain_f13 Q7 E8 E9 E10 Q21 E46 E47 E48 E49 E50 E51 E52 E53 E54 E55 E56 E57 Q62 E89 E90 E91 E97 E98 E99 E100 E101 a_0_7_0 a_0_21_0 a_0_62_0
     have a_0_106_0 : q 106 = 0 := projectPlain_f14 Q7 E8 E9 E10 Q21 E46 E47 E48 E49 E50 E51 E52 E53 E54 E55 E56 E57 Q62 E89 E90 E91 E102 E103 E104 E105 E106 a_0_7_0 a_0_21_0 a_0_62_0
     exact run_toldC' 8 (hy_of (H := [(0, 7, 0, 0), (0, 21, 0, 0), (0, 62, 0, 0), (0, 69, 0, 1), (0, 26, 0, 0), (0, 31, 0, 0), (0, 45, 0, 1), (0, 74, 0, 1), (0, 88, 0, 0), (0, 96, 0, 0), (0, 101, 0, 1), (0, 106, 0, 1)]) hσ projectPlain_wf projectPlain_sz projectPlain_lt projectPlain_cn hq h0 (And.intro (hF a_0_7_0) (And.intro (hF a_0_21_0) (And.intro (hF a_0_62_0) (And.intro (hT a_0_69_0) (And.intro (hF a_0_26_0) (And.intro (hF a_0_31_0) (And.intro (hT a_0_45_0) (And.intro (hT a_0_74_0) (And.intro (hF a_0_88_0) (And.intro (hF a_0_96_0) (And.intro (hT a_0_101_0) (And.intro (hT a_0_106_0) trivial))))))))))))) hcl (by kernel_rfl) projectPlain_r3 ⟨tab, mx⟩ (hA _)
    ·
     have a_0_26_0 : ¬ (q 26 = 0) := projectPlain_f8 Q7 E8 E9 E10 Q21 Q26 E46 E47 E48 E49 E50 E51 E52 E53 E54 E55 E56 E57 Q62 a_0_7_0 a_0_21_0 a_0_62_0
     have a_0_31_0 : ¬ (q 31 = 0) := projectPlain_f9 Q7 E8 E9 E10 E11 E12 E13 Q21 Q31 E46 E47 E48 E49 E50 E51 E52 E53 E54 E55 E56 E57 Q62 a_0_7_0 a_0_21_0 a_0_62_0
     have a_0_45_0 : q 45 = 0 := projectPlain_f2 Q7 E8 E9 E10 E11 E12 E13 E32 E33 E34 E35 E36 E37 E38 E39 E40 Q45 a_0_7_0
     have a_0_74_0 : ¬ (q 74 = 0) := projectPlain_f15 Q7 E8 E9 E10 Q21 E46 E47 E48 E49 E50 E51 E52 E53 E54 E55 E56 E57 Q62 E63 E64 E65 E66 E67 E68 E69 E70 E71 E72 E73 E74 a_0_7_0 a_0_21_0 a_0_62_0 a_0_69_0
     have a_0_88_0 : ¬ (q 88 = 0) := projectPlain_f11 Q7 E8 E9 E10 Q21 E46 E47 E48 E49 E50 E51 E52 E53 E54 E55 E56 E57 Q62 E75 E76 E77 E78 E79 E80 E81 E82 E83 Q88 a_0_7_0 a_0_21_0 a_0_62_0
     have a_0_96_0 : ¬ (q 96 = 0) := projectPlain_f12 Q7 E8 E9 E10 Q21 E46 E47 E48 E49 E50 E51 E52 E53 E54 E55 E56 E57 Q62 E89 E90 E91 Q96 a_0_7_0 a_0_21_0 a_0_62_0
     have a_0_101_0 : q 101 = 0 := projectPlain_f13 Q7 E8 E9 E10 Q21 E46 E47 E48 E49 E50 E51 E52 E53 E54 E55 E56 E57 Q62 E89 E90 E91 E97 E98 E99 E100 E101 a_0_7_0 a_0_21_0 a_0_62_0
     have a_0_106_0 : q 106 = 0 := projectPlain_f14 Q7 E8 E9 E10 Q21 E46 E47 E48 E49 E50 E51 E52 E53 E54 E55 E56 E57 Q62 E89 E90 E91 E102 E103 E104 E105 E106 a_0_7_0 a_0_21_0 a_0_62_0
     exact run_toldC' 8 (hy_of (H := [(0, 7, 0, 0), (0, 21, 0, 0), (0, 62, 0, 0), (0, 69, 0, 0), (0, 26, 0, 0), (0, 31, 0, 0), (0, 45, 0, 1), (0, 74, 0, 0), (0, 88, 0, 0), (0, 96, 0, 0), (0, 101, 0, 1), (0, 106, 0, 1)]) hσ projectPlain_wf projectPlain_sz projectPlain_lt projectPlain_cn hq h0 (And.intro (hF a_0_7_0) (And.intro (hF a_0_21_0) (And.intro (hF a_0_62_0) (And.intro (hF a_0_69_0) (And.intro (hF a_0_26_0) (And.intro (hF a_0_31_0) (And.intro (hT a_0_45_0) (And.intro (hF a_0_74_0) (And.intro (hF a_0_88_0) (And.intro (hF a_0_96_0) (And.intro (hT a_0_101_0) (And.intro (hT a_0_106_0) trivial))))))))))))) hcl (by kernel_rfl) projectPlain_r4 ⟨tab, mx⟩ (hA _)
end Go.Proofs.YtioacnhbiinjbaaGreatDoor
