/- Part 13 of the walks and of the mathematics under them: VP VPC CFprojected MPH. -/
import Derived.Test.YtioacnhbiinjbaaGreatDoorA2
import Derived.Test.YtioacnhbiinjbaaGreatDoorA12
set_option maxHeartbeats 16000000
set_option maxRecDepth 100000
/- VP -/
namespace Cx
open Go Go.RowKit
abbrev Hs := List (Nat × Nat × Nat × Nat)
def Sx.plus (S : Sx) (X : Hs) : Sx := { S with H := X ++ S.H }
abbrev Ask := Nat × Nat × Nat × Nat
def askZ (a : Nat) : Ask := (0, a, 0, a)
def askOk (S : Sx) : Ask → Bool
 | (k, a, b, d) => (Nat.beq k 0 && (Nat.beq b 0 && Nat.beq d a)) || (Nat.beq k 3 && (match S.N[d]? with
  | some (op, ar) => Nat.beq op 3 && beqL ar [a, b]
  | none => false))
def sqF (S : Sx) : Nat → List Nat → Option Nat
 | s, [] => some s
 | s, a :: l => (S.nd 4 [a, a]).bind fun b => (S.nd 2 [s, b]).bind fun t => sqF S t l
def sqN (S : Sx) : List Nat → Option Nat
 | [] => none
 | a :: l => (S.nd 4 [a, a]).bind fun s => sqF S s l
def acrossB (S : Sx) (a b : Nat) : List Nat → List Nat → Option (List Ask)
 | c :: l, d :: m => (S.nd 4 [a, d]).bind fun x => (S.nd 4 [c, b]).bind fun y => (S.nd 3 [x, y]).bind fun z => (acrossB S a b l m).map fun r => (3, x, y, z) :: r
 | _, _ => some []
def alikeB (S : Sx) : List Nat → List Nat → List Nat → List Nat → Option (List Ask)
 | pl, pm, a :: l, b :: m => (acrossB S a b pl pm).bind fun r => (alikeB S (pl ++ [a]) (pm ++ [b]) l m).map fun t => r ++ t
 | _, _, _, _ => some []
def asks (S : Sx) (h : List HB) (code : Nat) (args : List AV) : Option (List Ask) :=
 match code with
 | 60 => arg1 (fun x => (asA x).bind fun cs => (qRow S cs).map fun l => l.map askZ) args
 | 61 => arg1 (fun x => (rowB h 1 x).bind fun p => (mapO (acX 0) p.2).map fun l => l.map askZ) args
 | 62 => arg2 (fun x y => (rowB h 1 x).bind fun p => (mapO (acX 0) p.2).bind fun l => (rowB h 1 y).bind fun p' => (mapO (acX 0) p'.2).bind fun m => alikeB S [] [] l m) args
 | 63 => arg1 (fun x => (asA x).bind fun cs => (mapO acTold cs).bind fun l => (plainOf S l).map fun xs => xs.map askZ) args
 | _ => none
def splits : List Ask → Hs → List Hs
 | [], _ => []
 | (k, a, b, _) :: l, X => ((k, a, b, 0) :: X) :: splits l ((k, a, b, 1) :: X)
def allZ : List Ask → Hs → Hs
 | [], X => X
 | (k, a, b, _) :: l, X => allZ l ((k, a, b, 1) :: X)
def bodyC (S : Sx) (call : CallF) : CallF := fun f args h nx => S.P.funcs[f]?.bind fun fn => fn.body.bind fun c => ifO (Nat.ble args.length fn.ntmps) ((runB S call fn.ntmps c { tm := numb1 0 args, h := h, nx := nx }).bind fun r =>
   ifO (Nat.beq r.1 1) ((mapO (resB S.P r.2) fn.results.toList).map fun xs => (tupB xs, r.2.h, r.2.nx)))
abbrev CRes := Option (AV × List HB × Nat)
def agree (h : List HB) (b : Bool) (hi : Nat) : CRes → Bool
 | some (v, h', nx') => (match asB v with
  | some c => b == c
  | none => false) && (Nat.ble nx' hi && h.all fun x => h'.any fun y => Nat.beq y.1 x.1 && acsW x.2 y.2)
 | none => false
def topN : Nat → List CRes → Nat
 | m, [] => m
 | m, some p :: rs => topN (bif Nat.ble m p.2.2 then p.2.2 else m) rs
 | m, none :: rs => topN m rs
def joinC (h : List HB) (nx : Nat) (rs : List CRes) : CRes :=
 match rs with
 | some p :: _ => (asB p.1).bind fun b => ifO (rs.all (agree h b (topN nx rs))) (some (kB b, h, topN nx rs))
 | _ => none
def callC (S : Sx) (cs : List (FuncId × Nat)) : Nat → Hs → CallF
 | 0, _, _, _, _, _ => none
 | n + 1, X, f, args, h, nx => match prGet f cs with
  | none => bodyC (S.plus X) (callC S cs n X) f args h nx
  | some c => (asks (S.plus X) h c args).bind fun l => ifO (l.all (askOk S)) ((sqN S (l.map (·.2.2.2))).bind fun s => ((S.plus X).kn 0 s 0).bind fun r =>
    bif Nat.beq 1 r then bodyC (S.plus (allZ l X)) (callC S cs n (allZ l X)) f args h nx
    else joinC h nx ((splits l X).map fun X' => bodyC (S.plus X') (callC S cs n X') f args h nx))
section
variable {S : Sx} {E : Ev S.nb} {w0 : World}
theorem bodyC_ok {call : CallF} (hm : S.P.follows .mixedOrders = true) (N : Knows S E) (hP : PrimOk S E w0) (hC : CallOk S E w0 call) : CallOk S E w0 (bodyC S call) := fun f args h nx p hp γ w vs hi hA hb hlt hf => by
 unfold bodyC at hp
 simp only [Option.bind_eq_some_iff, ifO_some, Option.map_eq_some_iff, Nat.ble_eq, Nat.beq_eq] at hp
 obtain ⟨fn, h1, c, h2, h3, ⟨e, s'⟩, h4, h5, xs, h6, rfl⟩ := hp
 dsimp only at h5 h6
 subst h5
 obtain ⟨_, _, r⟩ := runB_ok hm N hP hC c _ _ _ h4
 refine calls_of_wp h1 h2 (r γ _ w _ ⟨hi, fun t v q => ?_, hb, hlt, ?_, rfl⟩ hf fun a' w' γ' hef hs => ?_)
 ·obtain ⟨_, q2⟩ := numb1_get q
  rw [Nat.sub_zero] at q2
  obtain ⟨u, hu, hv⟩ := hA.get q2
  have hlt : t < vs.length := (List.getElem?_eq_some_iff.1 hu).1
  have : (vs.toArray ++ Array.replicate (fn.ntmps - vs.toArray.size) undef).getD t undef = u := by
   rw [Array.getD_eq_getD_getElem?, Array.getElem?_append_left (by simpa using hlt)]
   simp [hu]
  show avOn _ v ((vs.toArray ++ Array.replicate (fn.ntmps - vs.toArray.size) undef).getD t undef)
  rw [this]
  exact hv
 ·have := hA.len
  simp
  omega
 ·obtain ⟨v, hv, hx⟩ := results_run hs h6
  exact ⟨hs.df, v, hv, v, γ', rfl, hef, hx, hs.bx⟩
theorem asB_kB {v : AV} {b : Bool} (h : asB v = some b) : v = kB b := by
 unfold asB at h
 rw [Option.bind_eq_some_iff] at h
 obtain ⟨c, h1, h2⟩ := h
 unfold asC at h1
 split at h1
 ·cases h1
  unfold acB at h2
  split at h2
  ·cases h2
   rfl
  ·cases h2
 ·cases h1
theorem agree_some {h : List HB} {b : Bool} {hi : Nat} {r : CRes} (hr : agree h b hi r = true) : ∃ h' nx', r = some (kB b, h', nx') ∧ nx' ≤ hi ∧ ∀ x ∈ h, x ∈ h' := by
 unfold agree at hr
 split at hr
 ·rename_i v h' nx'
  rw [Bool.and_eq_true, Bool.and_eq_true, Nat.ble_eq, List.all_eq_true] at hr
  obtain ⟨h1, h2, h3⟩ := hr
  refine ⟨h', nx', ?_, h2, fun x hx => ?_⟩
  ·split at h1
   ·rename_i c hc
    rw [asB_kB hc, show c = b from (by simpa using h1 : b = c).symm]
   ·cases h1
  ·have := h3 x hx
   rw [List.any_eq_true] at this
   obtain ⟨y, hy, e⟩ := this
   rw [Bool.and_eq_true, Nat.beq_eq] at e
   have : x = y := Prod.ext e.1.symm (acsW_eq e.2)
   rw [this]
   exact hy
 ·cases hr
variable {T : Hs → Prop} {z : Nat → Prop}
def AskTrue (S : Sx) (T : Hs → Prop) (z : Nat → Prop) : Prop := ∀ X, T X → ∀ a, askOk S a = true → (z a.2.2.2 → T ((a.1, a.2.1, a.2.2.1, 1) :: X)) ∧ (¬ z a.2.2.2 → T ((a.1, a.2.1, a.2.2.1, 0) :: X))
theorem allZ_true (hk : AskTrue S T z) : ∀ {l : List Ask} {X : Hs}, T X → (∀ a ∈ l, askOk S a = true) → (∀ a ∈ l, z a.2.2.2) → T (allZ l X)
 | [], _, h, _, _ => h
 | (k, a, b, d) :: l, X, h, ho, hz => allZ_true (l := l) hk ((hk X h (k, a, b, d) (ho _ List.mem_cons_self)).1 (hz _ List.mem_cons_self)) (fun a ha => ho a (List.mem_cons_of_mem _ ha)) (fun a ha => hz a (List.mem_cons_of_mem _ ha))
theorem splits_true (hk : AskTrue S T z) : ∀ {l : List Ask} {X : Hs}, T X → (∀ a ∈ l, askOk S a = true) → (∃ a ∈ l, ¬ z a.2.2.2) → ∃ X' ∈ splits l X, T X'
 | [], _, _, _, ⟨_, h, _⟩ => by cases h
 | (k, a, b, d) :: l, X, h, ho, hz => by
  by_cases e : z d
  ·obtain ⟨X', h1, h2⟩ := splits_true (l := l) hk ((hk X h (k, a, b, d) (ho _ List.mem_cons_self)).1 e) (fun a ha => ho a (List.mem_cons_of_mem _ ha)) (by
    obtain ⟨c, hc, hn⟩ := hz
    rcases List.mem_cons.1 hc with rfl | hc
    ·exact (hn e).elim
    ·exact ⟨c, hc, hn⟩)
   exact ⟨X', List.mem_cons_of_mem _ h1, h2⟩
  ·exact ⟨_, List.mem_cons_self, (hk X h (k, a, b, d) (ho _ List.mem_cons_self)).2 e⟩
theorem callC_ok {cs : List (FuncId × Nat)} (hm : S.P.follows .mixedOrders = true) (hN : ∀ X, T X → Knows (S.plus X) E) (hP : ∀ X, T X → PrimOk (S.plus X) E w0) (hk : AskTrue S T z)
  (hs : ∀ X, T X → ∀ l s r, sqN S l = some s → (S.plus X).kn 0 s 0 = some r → (Nat.beq 1 r = true → ∀ d ∈ l, z d) ∧ (Nat.beq 1 r = false → ∃ d ∈ l, ¬ z d)) : ∀ n X, T X → CallOk S E w0 (callC S cs n X)
 | 0, _, _ => fun _ _ _ _ _ h => by cases h
 | n + 1, X, hX => fun f args h nx p hp => by
  have body : ∀ Y, T Y → CallOk S E w0 (bodyC (S.plus Y) (callC S cs n Y)) := fun Y hY => bodyC_ok (S := S.plus Y) hm (hN Y hY) (hP Y hY) (callC_ok hm hN hP hk hs n Y hY)
  unfold callC at hp
  split at hp
  ·exact body X hX f args h nx p hp
  ·simp only [Option.bind_eq_some_iff, ifO_some, List.all_eq_true] at hp
   obtain ⟨l, _, hl, s, h1, r, h2, h3⟩ := hp
   obtain ⟨a1, a0⟩ := hs X hX _ s r h1 h2
   cases e : Nat.beq 1 r with
   | true =>
    rw [e] at h3
    exact body _ (allZ_true hk hX hl fun a ha => a1 e _ (List.mem_map_of_mem ha)) f args h nx p h3
   | false =>
    rw [e] at h3
    obtain ⟨d, hd, hz⟩ := a0 e
    obtain ⟨a, ha, rfl⟩ := List.mem_map.1 hd
    obtain ⟨X', m1, m2⟩ := splits_true hk hX hl ⟨a, ha, hz⟩
    replace h3 : joinC h nx ((splits l X).map fun X' => bodyC (S.plus X') (callC S cs n X') f args h nx) = some p := h3
    unfold joinC at h3
    split at h3
    ·rename_i p0 rs hrs
     rw [Option.bind_eq_some_iff] at h3
     obtain ⟨b, hb, h4⟩ := h3
     rw [ifO_some, List.all_eq_true] at h4
     obtain ⟨h5, h6⟩ := h4
     cases h6
     obtain ⟨h', nx', q1, q2, q3⟩ := agree_some (h5 _ (List.mem_map_of_mem m1))
     intro γ w vs hi hA hb hlt hf
     refine (body X' m2 f args h nx _ q1 γ w vs hi hA hb hlt fun b g1 g2 => hf b g1 (Nat.lt_of_lt_of_le g2 q2)).mono ?_
     rintro _ w' ⟨r', γ', rfl, hef, hv, hx⟩
     exact ⟨r', γ', rfl, hef.wide (Nat.le_refl _) q2, hv, fun x hh => hx x (q3 x hh)⟩
    ·cases h3
end
end Cx
/- VPC -/
namespace Go.Proofs.YtioacnhbiinjbaaGreatDoor
open Cx Go Go.RowKit
section
variable {N : List Nd} {H : List (Nat × Nat × Nat × Nat)} {K : List (FuncId × List AC)} {L C : List (List Nat × Nat)} {Z : List Nat} {q : Nat → Rat} {σ : Nat → ByteArray} {w0 : World} {cl : List FuncId} {cs pr : List (FuncId × Nat)}
theorem kn_cons {k a b k' a' b' r' : Nat} {r : Nat} (h : knFrom k a b ((k', a', b', r') :: H) = some r) : (k = k' ∧ a = a' ∧ b = b' ∧ r = r') ∨ knFrom k a b H = some r := by
 unfold knFrom at h
 cases e : (Nat.beq k k' && (Nat.beq a a' && Nat.beq b b')) with
 | true =>
  rw [e] at h
  simp only [Bool.and_eq_true, Nat.beq_eq] at e
  exact Or.inl ⟨e.1, e.2.1, e.2.2, (Option.some.inj h).symm⟩
 | false =>
  rw [e] at h
  exact Or.inr h
theorem Hy.add0 (Y : Hy N H L C Z q σ) {a r : Nat} (h : Nat.beq 1 r = true ↔ q a = 0) : Hy N ((0, a, 0, r) :: H) L C Z q σ where
 nat := Y.nat
 qs := Y.qs
 zs := Y.zs
 par := Y.par
 lit := Y.lit
 k0 := fun a' r' g => by
  rcases kn_cons g with ⟨_, e1, _, e2⟩ | g
  ·rw [e1, e2]
   exact h
  ·exact Y.k0 a' r' g
 k1 := fun a' r' g => by
  rcases kn_cons g with ⟨e, _⟩ | g
  ·cases e
  ·exact Y.k1 a' r' g
 k2 := fun a' r' g => by
  rcases kn_cons g with ⟨e, _⟩ | g
  ·cases e
  ·exact Y.k2 a' r' g
 k4 := fun l a' b' r' g1 g => by
  rcases kn_cons g with ⟨e, _⟩ | g
  ·cases e
  ·exact Y.k4 l a' b' r' g1 g
 k3 := fun a' b' r' g => by
  rcases kn_cons g with ⟨e, _⟩ | g
  ·cases e
  ·exact Y.k3 a' b' r' g
 k6 := fun a' b' r' g => by
  rcases kn_cons g with ⟨e, _⟩ | g
  ·cases e
  ·exact Y.k6 a' b' r' g
 k5 := fun a' r' g => by
  rcases kn_cons g with ⟨e, _⟩ | g
  ·cases e
  ·exact Y.k5 a' r' g
theorem Hy.add3 (Y : Hy N H L C Z q σ) {a b r : Nat} (h : Nat.beq 1 r = true ↔ q a = q b) : Hy N ((3, a, b, r) :: H) L C Z q σ where
 nat := Y.nat
 qs := Y.qs
 zs := Y.zs
 par := Y.par
 lit := Y.lit
 k0 := fun a' r' g => by
  rcases kn_cons g with ⟨e, _⟩ | g
  ·cases e
  ·exact Y.k0 a' r' g
 k1 := fun a' r' g => by
  rcases kn_cons g with ⟨e, _⟩ | g
  ·cases e
  ·exact Y.k1 a' r' g
 k2 := fun a' r' g => by
  rcases kn_cons g with ⟨e, _⟩ | g
  ·cases e
  ·exact Y.k2 a' r' g
 k4 := fun l a' b' r' g1 g => by
  rcases kn_cons g with ⟨e, _⟩ | g
  ·cases e
  ·exact Y.k4 l a' b' r' g1 g
 k3 := fun a' b' r' g => by
  rcases kn_cons g with ⟨_, e1, e2, e3⟩ | g
  ·rw [e1, e2, e3]
   exact h
  ·exact Y.k3 a' b' r' g
 k6 := fun a' b' r' g => by
  rcases kn_cons g with ⟨e, _⟩ | g
  ·cases e
  ·exact Y.k6 a' b' r' g
 k5 := fun a' r' g => by
  rcases kn_cons g with ⟨e, _⟩ | g
  ·cases e
  ·exact Y.k5 a' r' g
theorem ask_true : AskTrue (sx Tryz.prog N H K L C Z pr) (fun X => Hy N (X ++ H) L C Z q σ) (fun d => q d = 0) := fun X Y a ha => by
 obtain ⟨k, a, b, d⟩ := a
 have t1 : Nat.beq 1 1 = true := rfl
 have t0 : Nat.beq 1 0 ≠ true := fun h => by cases h
 unfold askOk at ha
 rw [Bool.or_eq_true] at ha
 rcases ha with ha | ha
 ·simp only [Bool.and_eq_true, Nat.beq_eq] at ha
  obtain ⟨rfl, rfl, rfl⟩ := ha
  exact ⟨fun h => Hy.add0 Y ⟨fun _ => h, fun _ => t1⟩, fun h => Hy.add0 Y ⟨fun g => (t0 g).elim, fun g => (h g).elim⟩⟩
 ·rw [Bool.and_eq_true, Nat.beq_eq] at ha
  obtain ⟨rfl, hb⟩ := ha
  split at hb
  ·rename_i op ar hn
   rw [Bool.and_eq_true, Nat.beq_eq] at hb
   obtain ⟨rfl, hb⟩ := hb
   have e := beqL_eq hb
   subst e
   have hv : q d = q a - q b := Y.nat d _ hn
   have h2 : q d = 0 ↔ q a = q b := by
    rw [hv]
    constructor <;> intro h <;> grind
   exact ⟨fun h => Hy.add3 Y ⟨fun _ => h2.1 h, fun _ => t1⟩, fun h => Hy.add3 Y ⟨fun g => (t0 g).elim, fun g => (h (h2.2 g)).elim⟩⟩
  ·cases hb
theorem sq_nn (y : Rat) : 0 ≤ y * y := by
 by_cases h : y = 0
 ·rw [h, Rat.zero_mul]
  exact Rat.le_refl
 ·exact Rat.le_of_lt (sq1_pos h)
theorem sq_sum {x y : Rat} (hx : 0 ≤ x) : x + y * y = 0 ↔ x = 0 ∧ y = 0 := by
 constructor
 ·intro h
  have h2 := sq_nn y
  have h3 : x = 0 := by grind
  refine ⟨h3, ?_⟩
  have : y * y = 0 := by grind
  rcases Rat.mul_eq_zero.1 this with g | g <;> exact g
 ·rintro ⟨rfl, rfl⟩
  grind
theorem sqF_val {H' : List (Nat × Nat × Nat × Nat)} (Y : Hy N H' L C Z q σ) : ∀ {l : List Nat} {s t : Nat}, sqF (sx Tryz.prog N H K L C Z pr) s l = some t → 0 ≤ q s → 0 ≤ q t ∧ (q t = 0 ↔ q s = 0 ∧ ∀ d ∈ l, q d = 0)
 | [], s, t, h, hs => by
  cases h
  exact ⟨hs, fun e => ⟨e, fun d hd => by cases hd⟩, fun e => e.1⟩
 | a :: l, s, t, h, hs => by
  unfold sqF at h
  simp only [Option.bind_eq_some_iff] at h
  obtain ⟨b, h1, c, h2, h3⟩ := h
  have e1 : q b = q a * q a := Hy.nd (H := H') (K := K) (pr := pr) Y h1
  have e2 : q c = q s + q b := Hy.nd (H := H') (K := K) (pr := pr) Y h2
  have n := sq_nn (q a)
  obtain ⟨g1, g2⟩ := sqF_val Y h3 (by grind)
  refine ⟨g1, g2.trans ?_⟩
  have e3 := sq_sum (y := q a) hs
  rw [e2, e1, e3]
  constructor
  ·rintro ⟨⟨x, y⟩, z⟩
   refine ⟨x, fun d hd => ?_⟩
   rcases List.mem_cons.1 hd with rfl | hd
   ·exact y
   ·exact z d hd
  ·rintro ⟨x, y⟩
   exact ⟨⟨x, y a List.mem_cons_self⟩, fun d hd => y d (List.mem_cons_of_mem _ hd)⟩
theorem sqN_val {H' : List (Nat × Nat × Nat × Nat)} (Y : Hy N H' L C Z q σ) {l : List Nat} {s : Nat} (h : sqN (sx Tryz.prog N H K L C Z pr) l = some s) : q s = 0 ↔ ∀ d ∈ l, q d = 0 := by
 unfold sqN at h
 split at h
 ·cases h
 ·rename_i a l
  rw [Option.bind_eq_some_iff] at h
  obtain ⟨b, h1, h2⟩ := h
  have e1 : q b = q a * q a := Hy.nd (H := H') (K := K) (pr := pr) Y h1
  have n := sq_nn (q a)
  obtain ⟨_, g⟩ := sqF_val Y h2 (by grind)
  rw [g, e1]
  constructor
  ·rintro ⟨x, y⟩ d hd
   rcases List.mem_cons.1 hd with rfl | hd
   ·rcases Rat.mul_eq_zero.1 x with x | x <;> exact x
   ·exact y d hd
  ·intro y
   refine ⟨?_, fun d hd => y d (List.mem_cons_of_mem _ hd)⟩
   rw [y a List.mem_cons_self, Rat.zero_mul]
theorem run_cases {f : FuncId} {args : List AV} {vs : List Value} {k : Nat} {p : List HB × Nat} {b : Bool} (Y : Hy N H L C Z q σ) (hm : (Tryz.prog).follows .mixedOrders = true) {w : World} (hP : ∀ H', Hy N H' L C Z q σ → PrimOk (sx Tryz.prog N H' K L C Z pr) (evS q σ) w) (hr : callC (sx Tryz.prog N H K L C Z pr) cs k [] f args [] 0 = some (kB b, p))
  (hA : A2 (avOn (cOn (evS q σ) K (fun _ => none) w)) args vs) : Calls Tryz.prog f vs.toArray w fun e w' => Below w.heap.size w w' ∧ e = .returned (.bool b) := by
 refine (callC_ok (S := sx Tryz.prog N H K L C Z pr) (E := evS q σ) (w0 := w) (T := fun X => Hy N (X ++ H) L C Z q σ) (z := fun d => q d = 0) hm (fun X hX => knows hX) (fun X hX => hP _ hX) ask_true ?_ k [] Y f args [] 0 (kB b, p) hr (fun _ => none) w vs ⟨Below.refl _ _, (fun _ _ h => by cases h)⟩ hA (fun x hx => by cases hx) (fun x hx => by cases hx) (fun _ _ _ => rfl)).mono ?_
 ·intro X hX l s r h1 h2
  have e := hX.k0 s r h2
  have g := sqN_val hX h1
  refine ⟨fun h => g.1 (e.1 h), fun h => ?_⟩
  have hn : ¬ ∀ d ∈ l, q d = 0 := fun q' => by
   rw [e.2 (g.2 q')] at h
   cases h
  simpa using hn
 ·rintro _ w' ⟨r, γ', rfl, hef, hv, _⟩
  exact ⟨hef.wi.bel, by rw [show r = .bool b from (asC_on (v := kB b) (c := .inl (.bool b)) rfl hv).1]⟩
theorem run_toldC {f : FuncId} {args : List AV} {vs : List Value} {k : Nat} {p : List HB × Nat} {b : Bool} (Y : Hy N H L C Z q σ) (hc : ∀ f ∈ cl, Closed f) (hm : (Tryz.prog).follows .mixedOrders = true) (hr : callC (sx Tryz.prog N H K L C Z (prC cl)) cs k [] f args [] 0 = some (kB b, p)) {w : World} (hp : PreS w)
  (hA : A2 (avOn (cOn (evS q σ) K (fun _ => none) w)) args vs) : Calls Tryz.prog f vs.toArray w fun e w' => Below w.heap.size w w' ∧ e = .returned (.bool b) := run_cases Y hm (fun _ Y' => primOk Y' hp hc) hr hA
theorem run_toldC' {f : FuncId} {args : List AV} {vs : List Value} (k : Nat) (Y : Hy N H L C Z q σ) (hc : ∀ f ∈ cl, Closed f) (hm : (Tryz.prog).follows .mixedOrders = true) (hr : (callC (sx Tryz.prog N H K L C Z (prC cl)) cs k [] f args [] 0).map (·.1) = some (kB true)) {w : World} (hp : PreS w)
  (hA : A2 (avOn (cOn (evS q σ) K (fun _ => none) w)) args vs) : Calls Tryz.prog f vs.toArray w fun e w' => Below w.heap.size w w' ∧ e = .returned (.bool true) := by
 rw [Option.map_eq_some_iff] at hr
 obtain ⟨⟨v, p⟩, h1, h2⟩ := hr
 dsimp only at h2
 subst h2
 exact run_toldC Y hc hm h1 hp hA
theorem dot_ne {a b c x y z : Rat} (h1 : ¬ ((a = 0 ∧ b = 0) ∧ c = 0)) (h2 : ¬ ((x = 0 ∧ y = 0) ∧ z = 0)) (p : b * z - c * y = 0) (q : c * x - a * z = 0) (r : a * y - b * x = 0) : a * x + b * y + c * z ≠ 0 := fun d => by
 have e : (a * a + b * b + c * c) * (x * x + y * y + z * z) = 0 := by
  have : (a * a + b * b + c * c) * (x * x + y * y + z * z) = (b * z - c * y) * (b * z - c * y) + (c * x - a * z) * (c * x - a * z) + (a * y - b * x) * (a * y - b * x) + (a * x + b * y + c * z) * (a * x + b * y + c * z) := by grind
  rw [this, p, q, r, d]
  decide +kernel
 have k : ∀ {a b c : Rat}, a * a + b * b + c * c = 0 → (a = 0 ∧ b = 0) ∧ c = 0 := fun {a b c} h => by
  have n1 := sq_nn a
  have n2 := sq_nn b
  have h3 := (sq_sum (x := a * a + b * b) (y := c) (by grind)).1 h
  have h4 := (sq_sum (x := a * a) (y := b) n1).1 h3.1
  exact ⟨⟨(Rat.mul_eq_zero.1 h4.1).elim id id, h4.2⟩, h3.2⟩
 exact (Rat.mul_eq_zero.1 e).elim (fun h => h1 (k h)) (fun h => h2 (k h))
theorem trip_fac {x y z g a b c : Rat} (h : ¬ ((x = 0 ∧ y = 0) ∧ z = 0)) (hg : g ≠ 0) (ha : a = x * g) (hb : b = y * g) (hc : c = z * g) : ¬ ((a = 0 ∧ b = 0) ∧ c = 0) := by
 rintro ⟨⟨h1, h2⟩, h3⟩
 rw [ha] at h1
 rw [hb] at h2
 rw [hc] at h3
 exact h ⟨⟨(Rat.mul_eq_zero.1 h1).resolve_right hg, (Rat.mul_eq_zero.1 h2).resolve_right hg⟩, (Rat.mul_eq_zero.1 h3).resolve_right hg⟩
theorem harm_sig {a1 a2 a3 b1 b2 b3 c1 c2 c3 J1 J2 J3 X1 X2 X3 B1 B2 B3 s : Rat} (j1 : J1 = a2 * b3 - a3 * b2) (j2 : J2 = a3 * b1 - a1 * b3) (j3 : J3 = a1 * b2 - a2 * b1) (x1 : X1 = c2 * b3 - c3 * b2) (x2 : X2 = c3 * b1 - c1 * b3) (x3 : X3 = c1 * b2 - c2 * b1) (y1 : B1 = b2 * c3 - b3 * c2) (y2 : B2 = b3 * c1 - b1 * c3) (y3 : B3 = b1 * c2 - b2 * c1) (hJ : ¬ ((J1 = 0 ∧ J2 = 0) ∧ J3 = 0)) (hB : ¬ ((B1 = 0 ∧ B2 = 0) ∧ B3 = 0)) (hd : 0 = 0 + c1 * J1 + c2 * J2 + c3 * J3) (hs : s = 0 + X1 * J1 + X2 * J2 + X3 * J3) : s ≠ 0 := by
 have hX : ¬ ((X1 = 0 ∧ X2 = 0) ∧ X3 = 0) := by
  rintro ⟨⟨h1, h2⟩, h3⟩
  exact hB ⟨⟨by grind, by grind⟩, by grind⟩
 have e := dot_ne hX hJ (by subst j1 j2 j3 x1 x2 x3; grind) (by subst j1 j2 j3 x1 x2 x3; grind) (by subst j1 j2 j3 x1 x2 x3; grind)
 rw [hs, Rat.zero_add]
 exact e
theorem comb_ne {a1 a2 a3 b1 b2 b3 J1 J2 J3 D1 D2 D3 s t : Rat} (j1 : J1 = a2 * b3 - a3 * b2) (j2 : J2 = a3 * b1 - a1 * b3) (j3 : J3 = a1 * b2 - a2 * b1) (hJ : ¬ ((J1 = 0 ∧ J2 = 0) ∧ J3 = 0)) (hs : s ≠ 0) (d1 : D1 = a1 * s + b1 * t) (d2 : D2 = a2 * s + b2 * t) (d3 : D3 = a3 * s + b3 * t) : ¬ ((D1 = 0 ∧ D2 = 0) ∧ D3 = 0) := by
 rintro ⟨⟨h1, h2⟩, h3⟩
 rw [h1] at d1
 rw [h2] at d2
 rw [h3] at d3
 refine hJ ⟨⟨?_, ?_⟩, ?_⟩
 ·exact (Rat.mul_eq_zero.1 (show s * J1 = 0 by rw [j1]; grind)).resolve_left hs
 ·exact (Rat.mul_eq_zero.1 (show s * J2 = 0 by rw [j2]; grind)).resolve_left hs
 ·exact (Rat.mul_eq_zero.1 (show s * J3 = 0 by rw [j3]; grind)).resolve_left hs
theorem cross_nz {a1 a2 a3 b1 b2 b3 g h p1 p2 p3 r1 r2 r3 J1 J2 J3 : Rat} (q1 : p1 = a1 * g) (q2 : p2 = a2 * g) (q3 : p3 = a3 * g) (s1 : r1 = b1 * h) (s2 : r2 = b2 * h) (s3 : r3 = b3 * h) (j1 : J1 = p2 * r3 - p3 * r2) (j2 : J2 = p3 * r1 - p1 * r3) (j3 : J3 = p1 * r2 - p2 * r1) (hJ : ¬ ((J1 = 0 ∧ J2 = 0) ∧ J3 = 0)) : ¬ ((a1 * b2 - a2 * b1 = 0 ∧ a2 * b3 - a3 * b2 = 0) ∧ a3 * b1 - a1 * b3 = 0) := by
 rintro ⟨⟨h1, h2⟩, h3⟩
 subst q1 q2 q3 s1 s2 s3
 have k1 : J1 = g * h * (a2 * b3 - a3 * b2) := by rw [j1]; grind
 have k2 : J2 = g * h * (a3 * b1 - a1 * b3) := by rw [j2]; grind
 have k3 : J3 = g * h * (a1 * b2 - a2 * b1) := by rw [j3]; grind
 exact hJ ⟨⟨by rw [k1, h2, Rat.mul_zero], by rw [k2, h3, Rat.mul_zero]⟩, by rw [k3, h1, Rat.mul_zero]⟩
theorem det_zero {A1 A2 A3 B1 B2 B3 C1 C2 C3 a1 a2 a3 b1 b2 b3 c1 c2 c3 g h k J1 J2 J3 : Rat} (q1 : a1 = A1 * g) (q2 : a2 = A2 * g) (q3 : a3 = A3 * g) (r1 : b1 = B1 * h) (r2 : b2 = B2 * h) (r3 : b3 = B3 * h) (s1 : c1 = C1 * k) (s2 : c2 = C2 * k) (s3 : c3 = C3 * k) (j1 : J1 = a2 * b3 - a3 * b2) (j2 : J2 = a3 * b1 - a1 * b3) (j3 : J3 = a1 * b2 - a2 * b1) (hg : g ≠ 0) (hh : h ≠ 0) (hk : k ≠ 0) (hd : 0 = 0 + c1 * J1 + c2 * J2 + c3 * J3) : C1 * (A2 * B3 - A3 * B2) + C2 * (A3 * B1 - A1 * B3) + C3 * (A1 * B2 - A2 * B1) = 0 := by
 subst q1 q2 q3 r1 r2 r3 s1 s2 s3
 have e : (g * (h * k)) * (C1 * (A2 * B3 - A3 * B2) + C2 * (A3 * B1 - A1 * B3) + C3 * (A1 * B2 - A2 * B1)) = 0 := by
  rw [j1, j2, j3] at hd
  grind
 exact (Rat.mul_eq_zero.1 e).resolve_left (mul_ne hg (mul_ne hh hk))
theorem share_s {A1 A2 A3 B1 B2 B3 C1 C2 C3 a1 a2 a3 b1 b2 b3 c1 c2 c3 g h k J1 J2 J3 X1 X2 X3 s : Rat} (_q1 : a1 = A1 * g) (_q2 : a2 = A2 * g) (_q3 : a3 = A3 * g) (r1 : b1 = B1 * h) (r2 : b2 = B2 * h) (r3 : b3 = B3 * h) (s1 : c1 = C1 * k) (s2 : c2 = C2 * k) (s3 : c3 = C3 * k) (j1 : J1 = a2 * b3 - a3 * b2) (j2 : J2 = a3 * b1 - a1 * b3) (j3 : J3 = a1 * b2 - a2 * b1) (hC : C1 * (A2 * B3 - A3 * B2) + C2 * (A3 * B1 - A1 * B3) + C3 * (A1 * B2 - A2 * B1) = 0) (x1 : X1 = c2 * b3 - c3 * b2) (x2 : X2 = c3 * b1 - c1 * b3) (x3 : X3 = c1 * b2 - c2 * b1) (hs : s = 0 + X1 * J1 + X2 * J2 + X3 * J3) : s * (A1 * B2 - A2 * B1) = (C1 * B2 - C2 * B1) * (h * k * ((A2 * B3 - A3 * B2) * J1 + (A3 * B1 - A1 * B3) * J2 + (A1 * B2 - A2 * B1) * J3)) ∧ s * (A2 * B3 - A3 * B2) = (C2 * B3 - C3 * B2) * (h * k * ((A2 * B3 - A3 * B2) * J1 + (A3 * B1 - A1 * B3) * J2 + (A1 * B2 - A2 * B1) * J3)) ∧ s * (A3 * B1 - A1 * B3) = (C3 * B1 - C1 * B3) * (h * k * ((A2 * B3 - A3 * B2) * J1 + (A3 * B1 - A1 * B3) * J2 + (A1 * B2 - A2 * B1) * J3)) := by
 subst r1 r2 r3 s1 s2 s3
 clear j1 j2 j3
 refine ⟨?_, ?_, ?_⟩ <;> rw [hs, x1, x2, x3] <;> grind
theorem share_t {A1 A2 A3 B1 B2 B3 C1 C2 C3 a1 a2 a3 b1 b2 b3 c1 c2 c3 g h k J1 J2 J3 Y1 Y2 Y3 t : Rat} (q1 : a1 = A1 * g) (q2 : a2 = A2 * g) (q3 : a3 = A3 * g) (_r1 : b1 = B1 * h) (_r2 : b2 = B2 * h) (_r3 : b3 = B3 * h) (s1 : c1 = C1 * k) (s2 : c2 = C2 * k) (s3 : c3 = C3 * k) (j1 : J1 = a2 * b3 - a3 * b2) (j2 : J2 = a3 * b1 - a1 * b3) (j3 : J3 = a1 * b2 - a2 * b1) (hC : C1 * (A2 * B3 - A3 * B2) + C2 * (A3 * B1 - A1 * B3) + C3 * (A1 * B2 - A2 * B1) = 0) (y1 : Y1 = a2 * c3 - a3 * c2) (y2 : Y2 = a3 * c1 - a1 * c3) (y3 : Y3 = a1 * c2 - a2 * c1) (ht : t = 0 + Y1 * J1 + Y2 * J2 + Y3 * J3) : t * (A1 * B2 - A2 * B1) = (A1 * C2 - A2 * C1) * (g * k * ((A2 * B3 - A3 * B2) * J1 + (A3 * B1 - A1 * B3) * J2 + (A1 * B2 - A2 * B1) * J3)) ∧ t * (A2 * B3 - A3 * B2) = (A2 * C3 - A3 * C2) * (g * k * ((A2 * B3 - A3 * B2) * J1 + (A3 * B1 - A1 * B3) * J2 + (A1 * B2 - A2 * B1) * J3)) ∧ t * (A3 * B1 - A1 * B3) = (A3 * C1 - A1 * C3) * (g * k * ((A2 * B3 - A3 * B2) * J1 + (A3 * B1 - A1 * B3) * J2 + (A1 * B2 - A2 * B1) * J3)) := by
 subst q1 q2 q3 s1 s2 s3
 clear j1 j2 j3
 refine ⟨?_, ?_, ?_⟩ <;> rw [ht, y1, y2, y3] <;> grind
theorem harm_tau {a1 a2 a3 b1 b2 b3 c1 c2 c3 J1 J2 J3 Y1 Y2 Y3 t : Rat} (j1 : J1 = a2 * b3 - a3 * b2) (j2 : J2 = a3 * b1 - a1 * b3) (j3 : J3 = a1 * b2 - a2 * b1) (y1 : Y1 = a2 * c3 - a3 * c2) (y2 : Y2 = a3 * c1 - a1 * c3) (y3 : Y3 = a1 * c2 - a2 * c1) (hJ : ¬ ((J1 = 0 ∧ J2 = 0) ∧ J3 = 0)) (hY : ¬ ((Y1 = 0 ∧ Y2 = 0) ∧ Y3 = 0)) (hd : 0 = 0 + c1 * J1 + c2 * J2 + c3 * J3) (ht : t = 0 + Y1 * J1 + Y2 * J2 + Y3 * J3) : t ≠ 0 := by
 have e := dot_ne hY hJ (by subst j1 j2 j3 y1 y2 y3; grind) (by subst j1 j2 j3 y1 y2 y3; grind) (by subst j1 j2 j3 y1 y2 y3; grind)
 rw [ht, Rat.zero_add]
 exact e
theorem ratio_main {x y z w d S T U V s t u v g h k l M : Rat} (hd : d ≠ 0) (hx : x ≠ 0) (hw : w ≠ 0) (h1 : x * d = S * (h * k * M)) (h2 : y * d = T * (g * k * M)) (h3 : z * d = U * (h * l * M)) (h4 : w * d = V * (g * l * M)) (es : s = S / d) (et : t = T / d) (eu : u = U / d) (ev : v = V / d) : y / x * (z / w) = t * u / (s * v) := by
 have n1 : S * (h * k * M) ≠ 0 := by rw [← h1]; exact mul_ne hx hd
 have n4 : V * (g * l * M) ≠ 0 := by rw [← h4]; exact mul_ne hw hd
 have nS : S ≠ 0 := fun e => n1 (by rw [e, Rat.zero_mul])
 have nV : V ≠ 0 := fun e => n4 (by rw [e, Rat.zero_mul])
 have nP : (h * k * M) * (g * l * M) ≠ 0 := mul_ne (fun e => n1 (by rw [e, Rat.mul_zero])) (fun e => n4 (by rw [e, Rat.mul_zero]))
 have ns : s ≠ 0 := fun e => nS (by rw [← Rat.div_mul_cancel (b := d) (a := S) hd, ← es, e, Rat.zero_mul])
 have nv : v ≠ 0 := fun e => nV (by rw [← Rat.div_mul_cancel (b := d) (a := V) hd, ← ev, e, Rat.zero_mul])
 have s1 : s * d = S := by rw [es]; exact Rat.div_mul_cancel hd
 have t1 : t * d = T := by rw [et]; exact Rat.div_mul_cancel hd
 have u1 : u * d = U := by rw [eu]; exact Rat.div_mul_cancel hd
 have v1 : v * d = V := by rw [ev]; exact Rat.div_mul_cancel hd
 obtain ⟨p, hp⟩ : ∃ p, p = y / x := ⟨_, rfl⟩
 obtain ⟨r, hr⟩ : ∃ r, r = z / w := ⟨_, rfl⟩
 obtain ⟨f, hf⟩ : ∃ f, f = t * u / (s * v) := ⟨_, rfl⟩
 have p1 : p * x = y := by rw [hp]; exact Rat.div_mul_cancel hx
 have r1 : r * w = z := by rw [hr]; exact Rat.div_mul_cancel hw
 have f1 : f * (s * v) = t * u := by rw [hf]; exact Rat.div_mul_cancel (mul_ne ns nv)
 rw [← hp, ← hr, ← hf]
 clear hp hr hf es et eu ev
 have k1 : (p * r) * (S * V) * ((h * k * M) * (g * l * M)) = (T * U) * ((h * k * M) * (g * l * M)) := by
  have a1 : (p * r) * (S * V) * ((h * k * M) * (g * l * M)) = (p * r) * ((x * d) * (w * d)) := by rw [h1, h4]; grind
  have a2 : (T * U) * ((h * k * M) * (g * l * M)) = (y * d) * (z * d) := by rw [h2, h3]; grind
  rw [a1, a2, ← p1, ← r1]
  grind
 have k2 : (p * r) * (S * V) = T * U := by
  have : ((p * r) * (S * V) - T * U) * ((h * k * M) * (g * l * M)) = 0 := by grind
  have := (Rat.mul_eq_zero.1 this).resolve_right nP
  grind
 have k3 : f * (S * V) = T * U := by
  rw [← s1, ← v1, ← t1, ← u1]
  have : f * (s * d * (v * d)) = (f * (s * v)) * (d * d) := by grind
  rw [this, f1]
  grind
 have : (p * r - f) * (S * V) = 0 := by grind
 have := (Rat.mul_eq_zero.1 this).resolve_right (mul_ne nS nV)
 grind
theorem sq_first {u x : Rat} (h : u = x * x) : 0 ≤ u ∧ (u = 0 ↔ x = 0) := by
 rw [h]
 exact ⟨sq_nn x, fun e => (Rat.mul_eq_zero.1 e).elim id id, fun e => by rw [e, Rat.zero_mul]⟩
theorem sq_next {p : Prop} {s x v t : Rat} (h : 0 ≤ s ∧ (s = 0 ↔ p)) (hv : v = x * x) (ht : t = s + v) : 0 ≤ t ∧ (t = 0 ↔ (p ∧ x = 0)) := by
 have n := sq_nn x
 refine ⟨by have := h.1; grind, ?_⟩
 rw [ht, hv, sq_sum h.1, h.2]
end
end Go.Proofs.YtioacnhbiinjbaaGreatDoor
/- CFprojected -/
namespace Go.Proofs.YtioacnhbiinjbaaGreatDoor
open Go.RowKit Cx
theorem closed_projected : Closed 75 :=
 closed_told (N := [(0, [0, 1, 1]), (0, [0, 0, 1]), (8, [0, 0, 1, 1]), (8, [1, 0, 1, 1]), (8, [2, 0, 1, 1]), (8, [0, 1, 0, 0]), (8, [1, 1, 0, 0]), (8, [2, 1, 0, 0]), (4, [3, 7]), (4, [4, 6]), (3, [8, 9]), (4, [4, 5]), (4, [2, 7]), (3, [11, 12]), (4, [2, 6]), (4, [3, 5]), (3, [14, 15]), (8, [0, 10, 13, 16]), (8, [1, 10, 13, 16]), (8, [2, 10, 13, 16]), (8, [0, 1, 0, 1]), (8, [1, 1, 0, 1]), (8, [2, 1, 0, 1]), (4, [3, 22]), (4, [4, 21]), (3, [23, 24]), (4, [4, 20]), (4, [2, 22]), (3, [26, 27]), (4, [2, 21]), (4, [3, 20]), (3, [29, 30]), (8, [0, 0, 0, 1]), (8, [1, 0, 0, 1]), (8, [2, 0, 0, 1]), (4, [3, 34]), (4, [4, 33]), (3, [35, 36]), (4, [4, 32]), (4, [2, 34]), (3, [38, 39]), (4, [2, 33]), (4, [3, 32]), (3, [41, 42]), (4, [21, 34]), (4, [22, 33]), (3, [44, 45]), (4, [22, 32]), (4, [20, 34]), (3, [47, 48]), (4, [20, 33]), (4, [21, 32]), (3, [50, 51]), (4, [32, 25]), (2, [1, 53]), (4, [33, 28]), (2, [54, 55]), (4, [34, 31]), (2, [56, 57]), (4, [33, 22]), (4, [34, 21]), (3, [59, 60]), (4, [34, 20]), (4, [32, 22]), (3, [62, 63]), (4, [32, 21]), (4, [33, 20]), (3, [65, 66]), (4, [61, 25]), (2, [1, 68]), (4, [64, 28]), (2, [69, 70]), (4, [67, 31]), (2, [71, 72]), (4, [37, 25]), (2, [1, 74]), (4, [40, 28]), (2, [75, 76]), (4, [43, 31]), (2, [77, 78]), (4, [2, 73]), (4, [3, 73]), (4, [4, 73]), (5, [79]), (4, [20, 83]), (4, [21, 83]), (4, [22, 83]), (2, [80, 84]), (2, [81, 85]), (2, [82, 86]), (8, [0, 87, 88, 89]), (8, [1, 87, 88, 89]), (8, [2, 87, 88, 89]), (0, [0, 2, 1]), (8, [0, 0, 93, 1]), (8, [1, 0, 93, 1]), (8, [2, 0, 93, 1]), (4, [3, 96]), (4, [4, 95]), (3, [97, 98]), (4, [4, 94]), (4, [2, 96]), (3, [100, 101]), (4, [2, 95]), (4, [3, 94]), (3, [103, 104]), (4, [21, 96]), (4, [22, 95]), (3, [106, 107]), (4, [22, 94]), (4, [20, 96]), (3, [109, 110]), (4, [20, 95]), (4, [21, 94]), (3, [112, 113]), (4, [33, 96]), (4, [34, 95]), (3, [115, 116]), (4, [34, 94]), (4, [32, 96]), (3, [118, 119]), (4, [32, 95]), (4, [33, 94]), (3, [121, 122]), (4, [94, 25]), (2, [1, 124]), (4, [95, 28]), (2, [125, 126]), (4, [96, 31]), (2, [127, 128]), (4, [95, 22]), (4, [96, 21]), (3, [130, 131]), (4, [96, 20]), (4, [94, 22]), (3, [133, 134]), (4, [94, 21]), (4, [95, 20]), (3, [136, 137]), (4, [132, 25]), (2, [1, 139]), (4, [135, 28]), (2, [140, 141]), (4, [138, 31]), (2, [142, 143]), (4, [99, 25]), (2, [1, 145]), (4, [102, 28]), (2, [146, 147]), (4, [105, 31]), (2, [148, 149]), (6, [79, 73]), (6, [144, 150]), (4, [151, 152]), (0, [1, 1, 1]), (0, [0, 1, 2])]) (H := [(0, 0, 0, 0), (0, 1, 0, 1), (0, 10, 0, 1), (0, 13, 0, 0), (0, 25, 0, 1), (0, 28, 0, 1), (0, 31, 0, 0), (0, 37, 0, 1), (0, 40, 0, 1), (0, 43, 0, 0), (0, 46, 0, 1), (0, 49, 0, 1), (0, 52, 0, 0), (0, 58, 0, 1), (0, 99, 0, 1), (0, 102, 0, 1), (0, 105, 0, 0), (0, 108, 0, 1), (0, 111, 0, 1), (0, 114, 0, 0), (0, 117, 0, 1), (0, 120, 0, 1), (0, 123, 0, 0), (0, 129, 0, 1), (4, 17, 1, 1), (4, 18, 0, 1), (4, 19, 154, 1), (4, 90, 0, 1), (4, 91, 154, 1), (4, 92, 1, 1), (4, 153, 155, 1)]) (K := []) (L := [([49], 0), ([48], 1), ([50], 93), ([45, 49], 154), ([49, 47, 50], 155)]) (C := [([48], 1), ([49], 0), ([45, 49], 154), ([49, 47, 50], 155)]) (Z := [2, 2, 9, 9, 9, 9, 9, 9, 18, 18, 37, 18, 18, 37, 18, 18, 37, 149, 149, 149, 9, 9, 9, 18, 18, 37, 18, 18, 37, 18, 18, 37, 9, 9, 9, 18, 18, 37, 18, 18, 37, 18, 18, 37, 18, 18, 37, 18, 18, 37, 18, 18, 37, 46, 49, 46, 96, 46, 143, 18, 18, 37, 18, 18, 37, 18, 18, 37, 74, 77, 74, 152, 74, 227, 74, 77, 74, 152, 74, 227, 236, 236, 236, 227, 236, 236, 236, 473, 473, 473, 1893, 1893, 1893, 3, 13, 13, 13, 22, 22, 45, 22, 22, 45, 22, 22, 45, 22, 22, 45, 22, 22, 45, 22, 22, 45, 22, 22, 45, 22, 22, 45, 22, 22, 45, 50, 53, 50, 104, 50, 155, 22, 22, 45, 22, 22, 45, 22, 22, 45, 82, 85, 82, 168, 82, 251, 82, 85, 82, 168, 82, 251, 454, 502, 956, 2, 3]) (cl := []) 6 (fun _ h => by cases h) (by kernel_rfl) (by kernel_rfl) (by kernel_rfl) (by kernel_rfl) (by kernel_rfl) (by kernel_rfl) (by kernel_rfl)
end Go.Proofs.YtioacnhbiinjbaaGreatDoor
/- MPH -/
namespace Go.Proofs.YtioacnhbiinjbaaGreatDoor
open Go.RowKit Cx
def projectHarmonic_N : List Nd := [(1, [0]), (1, [1]), (1, [2]), (4, [0, 0]), (4, [1, 1]), (2, [3, 4]), (4, [2, 2]), (2, [5, 6]), (8, [0, 0, 1, 2]), (8, [1, 0, 1, 2]), (8, [2, 0, 1, 2]), (1, [3]), (1, [4]), (1, [5]), (4, [11, 11]), (4, [12, 12]), (2, [14, 15]), (4, [13, 13]), (2, [16, 17]), (8, [0, 11, 12, 13]), (8, [1, 11, 12, 13]), (8, [2, 11, 12, 13]), (4, [9, 21]), (4, [10, 20]), (3, [22, 23]), (4, [10, 19]), (4, [8, 21]), (3, [25, 26]), (4, [8, 20]), (4, [9, 19]), (3, [28, 29]), (4, [24, 24]), (4, [27, 27]), (2, [31, 32]), (4, [30, 30]), (2, [33, 34]), (4, [1, 11]), (4, [0, 12]), (3, [36, 37]), (4, [2, 11]), (4, [0, 13]), (3, [39, 40]), (4, [2, 12]), (4, [1, 13]), (3, [42, 43]), (4, [38, 38]), (4, [41, 41]), (2, [45, 46]), (4, [44, 44]), (2, [47, 48]), (1, [6]), (1, [7]), (1, [8]), (4, [50, 50]), (4, [51, 51]), (2, [53, 54]), (4, [52, 52]), (2, [55, 56]), (8, [0, 50, 51, 52]), (8, [1, 50, 51, 52]), (8, [2, 50, 51, 52]), (4, [9, 60]), (4, [10, 59]), (3, [61, 62]), (4, [10, 58]), (4, [8, 60]), (3, [64, 65]), (4, [8, 59]), (4, [9, 58]), (3, [67, 68]), (4, [63, 63]), (4, [66, 66]), (2, [70, 71]), (4, [69, 69]), (2, [72, 73]), (4, [1, 50]), (4, [0, 51]), (3, [75, 76]), (4, [2, 50]), (4, [0, 52]), (3, [78, 79]), (4, [2, 51]), (4, [1, 52]), (3, [81, 82]), (4, [77, 77]), (4, [80, 80]), (2, [84, 85]), (4, [83, 83]), (2, [86, 87]), (4, [20, 60]), (4, [21, 59]), (3, [89, 90]), (4, [21, 58]), (4, [19, 60]), (3, [92, 93]), (4, [19, 59]), (4, [20, 58]), (3, [95, 96]), (4, [91, 91]), (4, [94, 94]), (2, [98, 99]), (4, [97, 97]), (2, [100, 101]), (4, [12, 50]), (4, [11, 51]), (3, [103, 104]), (4, [13, 50]), (4, [11, 52]), (3, [106, 107]), (4, [13, 51]), (4, [12, 52]), (3, [109, 110]), (4, [105, 105]), (4, [108, 108]), (2, [112, 113]), (4, [111, 111]), (2, [114, 115]), (4, [58, 24]), (0, [0, 0, 1]), (2, [118, 117]), (4, [59, 27]), (2, [119, 120]), (4, [60, 30]), (2, [121, 122]), (4, [59, 21]), (4, [60, 20]), (3, [124, 125]), (4, [60, 19]), (4, [58, 21]), (3, [127, 128]), (4, [58, 20]), (4, [59, 19]), (3, [130, 131]), (4, [126, 24]), (2, [118, 133]), (4, [129, 27]), (2, [134, 135]), (4, [132, 30]), (2, [136, 137]), (4, [63, 24]), (2, [118, 139]), (4, [66, 27]), (2, [140, 141]), (4, [69, 30]), (2, [142, 143]), (4, [8, 138]), (4, [9, 138]), (4, [10, 138]), (5, [144]), (4, [19, 148]), (4, [20, 148]), (4, [21, 148]), (2, [145, 149]), (2, [146, 150]), (2, [147, 151]), (8, [0, 152, 153, 154]), (8, [1, 152, 153, 154]), (8, [2, 152, 153, 154]), (3, [110, 109]), (4, [0, 158]), (3, [107, 106]), (4, [1, 160]), (5, [161]), (3, [104, 103]), (4, [2, 163]), (2, [159, 162]), (2, [165, 164]), (3, [37, 36]), (3, [43, 42]), (4, [52, 11]), (4, [50, 13]), (3, [169, 170]), (6, [171, 41]), (6, [80, 41]), (4, [12, 157]), (4, [13, 156]), (3, [174, 175]), (4, [0, 176]), (4, [11, 157]), (4, [13, 155]), (3, [178, 179]), (4, [1, 180]), (5, [181]), (4, [11, 156]), (4, [12, 155]), (3, [183, 184]), (4, [2, 185]), (2, [177, 182]), (2, [187, 186]), (4, [157, 11]), (4, [155, 13]), (3, [189, 190]), (6, [191, 41]), (4, [2, 155]), (4, [0, 157]), (3, [193, 194]), (6, [195, 41]), (4, [152, 152]), (4, [153, 153]), (2, [197, 198]), (4, [154, 154]), (2, [199, 200]), (4, [155, 155]), (4, [156, 156]), (2, [202, 203]), (4, [157, 157]), (2, [204, 205]), (4, [173, 192]), (4, [172, 196]), (2, [207, 208]), (4, [51, 13]), (4, [52, 12]), (3, [210, 211]), (6, [212, 168]), (3, [82, 81]), (6, [214, 168]), (4, [156, 13]), (4, [157, 12]), (3, [216, 217]), (6, [218, 168]), (4, [1, 157]), (4, [2, 156]), (3, [220, 221]), (6, [222, 168]), (4, [215, 219]), (4, [213, 223]), (2, [224, 225]), (4, [50, 12]), (4, [51, 11]), (3, [227, 228]), (6, [229, 167]), (3, [76, 75]), (6, [231, 167]), (4, [155, 12]), (4, [156, 11]), (3, [233, 234]), (6, [235, 167]), (4, [0, 156]), (4, [1, 155]), (3, [237, 238]), (6, [239, 167]), (4, [232, 236]), (4, [230, 240]), (2, [241, 242])]
def projectHarmonic_L : List (List Nat × Nat) := []
def projectHarmonic_C : List (List Nat × Nat) := []
def projectHarmonic_Z : List Nat := [4194309, 4194309, 4194309, 8388618, 8388618, 16777237, 8388618, 25165856, 16777237, 16777237, 16777237, 4194309, 4194309, 4194309, 8388618, 8388618, 16777237, 8388618, 25165856, 16777237, 16777237, 16777237, 33554474, 33554474, 67108949, 33554474, 33554474, 67108949, 33554474, 33554474, 67108949, 134217898, 134217898, 268435797, 134217898, 402653696, 8388618, 8388618, 16777237, 8388618, 8388618, 16777237, 8388618, 8388618, 16777237, 33554474, 33554474, 67108949, 33554474, 100663424, 4194309, 4194309, 4194309, 8388618, 8388618, 16777237, 8388618, 25165856, 16777237, 16777237, 16777237, 33554474, 33554474, 67108949, 33554474, 33554474, 67108949, 33554474, 33554474, 67108949, 134217898, 134217898, 268435797, 134217898, 402653696, 8388618, 8388618, 16777237, 8388618, 8388618, 16777237, 8388618, 8388618, 16777237, 33554474, 33554474, 67108949, 33554474, 100663424, 33554474, 33554474, 67108949, 33554474, 33554474, 67108949, 33554474, 33554474, 67108949, 134217898, 134217898, 268435797, 134217898, 402653696, 8388618, 8388618, 16777237, 8388618, 8388618, 16777237, 8388618, 8388618, 16777237, 33554474, 33554474, 67108949, 33554474, 100663424, 83886186, 2, 83886189, 83886186, 167772376, 83886186, 251658563, 33554474, 33554474, 67108949, 33554474, 33554474, 67108949, 33554474, 33554474, 67108949, 134217898, 134217901, 134217898, 268435800, 134217898, 402653699, 134217898, 134217901, 134217898, 268435800, 134217898, 402653699, 419430936, 419430936, 419430936, 402653699, 419430936, 419430936, 419430936, 838861873, 838861873, 838861873, 3355447493, 3355447493, 3355447493, 16777237, 20971546, 16777237, 20971546, 20971546, 16777237, 20971546, 41943093, 62914640, 16777237, 16777237, 8388618, 8388618, 16777237, 33554474, 33554474, 3359641802, 3359641802, 6719283605, 6723477914, 3359641802, 3359641802, 6719283605, 6723477914, 6723477914, 3359641802, 3359641802, 6719283605, 6723477914, 13446955829, 20170433744, 3359641802, 3359641802, 6719283605, 6736060842, 3359641802, 3359641802, 6719283605, 6736060842, 1677723746, 1677723746, 3355447493, 1677723746, 5033171240, 6710894986, 6710894986, 13421789973, 6710894986, 20132684960, 6769615316, 6769615316, 13539230633, 8388618, 8388618, 16777237, 33554474, 16777237, 33554474, 3359641802, 3359641802, 6719283605, 6736060842, 3359641802, 3359641802, 6719283605, 6736060842, 6769615316, 6769615316, 13539230633, 8388618, 8388618, 16777237, 33554474, 16777237, 33554474, 3359641802, 3359641802, 6719283605, 6736060842, 3359641802, 3359641802, 6719283605, 6736060842, 6769615316, 6769615316, 13539230633]
theorem projectHarmonic_wf : wfB 0 projectHarmonic_N = true := by kernel_rfl
theorem projectHarmonic_sz : szB projectHarmonic_Z projectHarmonic_N projectHarmonic_Z = true := by kernel_rfl
theorem projectHarmonic_lt : litB projectHarmonic_N projectHarmonic_L = true := by kernel_rfl
theorem projectHarmonic_cn : canB projectHarmonic_N projectHarmonic_C = true := by kernel_rfl
theorem projectHarmonic_c118 : cst 0 0 1 = (0 : Rat) := by decide +kernel
theorem projectHarmonic_f0 {z0 z1 z2 z7 z8 z9 z10 z11 z12 z13 z18 z19 z20 z21 z22 z23 z24 z25 z26 z27 z28 z29 z30 z35 z36 z37 z38 z39 z40 z41 z42 z43 z44 z49 : Rat} : (z7 = 0 ↔ ((z0 = 0 ∧ z1 = 0) ∧ z2 = 0)) → z8 = z0 * fac [z0, z1, z2] → z9 = z1 * fac [z0, z1, z2] → z10 = z2 * fac [z0, z1, z2] → (z18 = 0 ↔ ((z11 = 0 ∧ z12 = 0) ∧ z13 = 0)) → z19 = z11 * fac [z11, z12, z13] → z20 = z12 * fac [z11, z12, z13] → z21 = z13 * fac [z11, z12, z13] → z22 = z9 * z21 → z23 = z10 * z20 → z24 = z22 - z23 → z25 = z10 * z19 → z26 = z8 * z21 → z27 = z25 - z26 → z28 = z8 * z20 → z29 = z9 * z19 → z30 = z28 - z29 → (z35 = 0 ↔ ((z24 = 0 ∧ z27 = 0) ∧ z30 = 0)) → z36 = z1 * z11 → z37 = z0 * z12 → z38 = z36 - z37 → z39 = z2 * z11 → z40 = z0 * z13 → z41 = z39 - z40 → z42 = z2 * z12 → z43 = z1 * z13 → z44 = z42 - z43 → (z49 = 0 ↔ ((z38 = 0 ∧ z41 = 0) ∧ z44 = 0)) → (¬ (z7 = 0)) → (¬ (z18 = 0)) → (z35 = 0) → z49 = 0 := by
 intro e7 e8 e9 e10 e18 e19 e20 e21 e22 e23 e24 e25 e26 e27 e28 e29 e30 e35 e36 e37 e38 e39 e40 e41 e42 e43 e44 e49 u0 u1 u2
 rw [e7] at u0
 rw [e18] at u1
 obtain ⟨⟨ua2_24, ua2_27⟩, ua2_30⟩ := e35.1 u2
 rw [e49]
 clear u2 e7 e18 e35 e49
 have k0_0 : fac [z0, z1, z2] = 0 → z0 = 0 := fac_zero (by simp)
 have k0_1 : fac [z0, z1, z2] = 0 → z1 = 0 := fac_zero (by simp)
 have k0_2 : fac [z0, z1, z2] = 0 → z2 = 0 := fac_zero (by simp)
 generalize fac [z0, z1, z2] = g0 at *
 have k1_11 : fac [z11, z12, z13] = 0 → z11 = 0 := fac_zero (by simp)
 have k1_12 : fac [z11, z12, z13] = 0 → z12 = 0 := fac_zero (by simp)
 have k1_13 : fac [z11, z12, z13] = 0 → z13 = 0 := fac_zero (by simp)
 generalize fac [z11, z12, z13] = g1 at *
 have nx0 := u0
 have iw0 : g0 ≠ 0 := fun hg => nx0 ⟨⟨(k0_0 hg), (k0_1 hg)⟩, (k0_2 hg)⟩
 obtain ⟨iv0, ih0⟩ : ∃ i, g0 * i = 1 := ⟨g0⁻¹, Rat.mul_inv_cancel _ iw0⟩
 have nx1 := u1
 have iw1 : g1 ≠ 0 := fun hg => nx1 ⟨⟨(k1_11 hg), (k1_12 hg)⟩, (k1_13 hg)⟩
 obtain ⟨iv1, ih1⟩ : ∃ i, g1 * i = 1 := ⟨g1⁻¹, Rat.mul_inv_cancel _ iw1⟩
 clear k0_0 k0_1 k0_2 k1_11 k1_12 k1_13
 refine ⟨⟨?_, ?_⟩, ?_⟩ <;> (subst_vars; grind)
theorem projectHarmonic_f1 {z0 z1 z2 z7 z8 z9 z10 z11 z12 z13 z18 z19 z20 z21 z22 z23 z24 z25 z26 z27 z28 z29 z30 z35 z36 z37 z38 z39 z40 z41 z42 z43 z44 z49 : Rat} : (z7 = 0 ↔ ((z0 = 0 ∧ z1 = 0) ∧ z2 = 0)) → z8 = z0 * fac [z0, z1, z2] → z9 = z1 * fac [z0, z1, z2] → z10 = z2 * fac [z0, z1, z2] → (z18 = 0 ↔ ((z11 = 0 ∧ z12 = 0) ∧ z13 = 0)) → z19 = z11 * fac [z11, z12, z13] → z20 = z12 * fac [z11, z12, z13] → z21 = z13 * fac [z11, z12, z13] → z22 = z9 * z21 → z23 = z10 * z20 → z24 = z22 - z23 → z25 = z10 * z19 → z26 = z8 * z21 → z27 = z25 - z26 → z28 = z8 * z20 → z29 = z9 * z19 → z30 = z28 - z29 → (z35 = 0 ↔ ((z24 = 0 ∧ z27 = 0) ∧ z30 = 0)) → z36 = z1 * z11 → z37 = z0 * z12 → z38 = z36 - z37 → z39 = z2 * z11 → z40 = z0 * z13 → z41 = z39 - z40 → z42 = z2 * z12 → z43 = z1 * z13 → z44 = z42 - z43 → (z49 = 0 ↔ ((z38 = 0 ∧ z41 = 0) ∧ z44 = 0)) → (¬ (z7 = 0)) → (¬ (z18 = 0)) → (¬ (z35 = 0)) → ¬ (z49 = 0) := by
 intro e7 e8 e9 e10 e18 e19 e20 e21 e22 e23 e24 e25 e26 e27 e28 e29 e30 e35 e36 e37 e38 e39 e40 e41 e42 e43 e44 e49 u0 u1 u2
 rw [e7] at u0
 rw [e18] at u1
 rw [e35] at u2
 rw [e49]
 clear  e7 e18 e35 e49
 have k0_0 : fac [z0, z1, z2] = 0 → z0 = 0 := fac_zero (by simp)
 have k0_1 : fac [z0, z1, z2] = 0 → z1 = 0 := fac_zero (by simp)
 have k0_2 : fac [z0, z1, z2] = 0 → z2 = 0 := fac_zero (by simp)
 generalize fac [z0, z1, z2] = g0 at *
 have k1_11 : fac [z11, z12, z13] = 0 → z11 = 0 := fac_zero (by simp)
 have k1_12 : fac [z11, z12, z13] = 0 → z12 = 0 := fac_zero (by simp)
 have k1_13 : fac [z11, z12, z13] = 0 → z13 = 0 := fac_zero (by simp)
 generalize fac [z11, z12, z13] = g1 at *
 have nx0 := u0
 have iw0 : g0 ≠ 0 := fun hg => nx0 ⟨⟨(k0_0 hg), (k0_1 hg)⟩, (k0_2 hg)⟩
 obtain ⟨iv0, ih0⟩ : ∃ i, g0 * i = 1 := ⟨g0⁻¹, Rat.mul_inv_cancel _ iw0⟩
 have nx1 := u1
 have iw1 : g1 ≠ 0 := fun hg => nx1 ⟨⟨(k1_11 hg), (k1_12 hg)⟩, (k1_13 hg)⟩
 obtain ⟨iv1, ih1⟩ : ∃ i, g1 * i = 1 := ⟨g1⁻¹, Rat.mul_inv_cancel _ iw1⟩
 clear k0_0 k0_1 k0_2 k1_11 k1_12 k1_13
 rintro ⟨⟨ub38, ub41⟩, ub44⟩
 subst_vars; grind
theorem projectHarmonic_f2 {z0 z1 z2 z7 z8 z9 z10 z50 z51 z52 z57 z58 z59 z60 z61 z62 z63 z64 z65 z66 z67 z68 z69 z74 z75 z76 z77 z78 z79 z80 z81 z82 z83 z88 : Rat} : (z7 = 0 ↔ ((z0 = 0 ∧ z1 = 0) ∧ z2 = 0)) → z8 = z0 * fac [z0, z1, z2] → z9 = z1 * fac [z0, z1, z2] → z10 = z2 * fac [z0, z1, z2] → (z57 = 0 ↔ ((z50 = 0 ∧ z51 = 0) ∧ z52 = 0)) → z58 = z50 * fac [z50, z51, z52] → z59 = z51 * fac [z50, z51, z52] → z60 = z52 * fac [z50, z51, z52] → z61 = z9 * z60 → z62 = z10 * z59 → z63 = z61 - z62 → z64 = z10 * z58 → z65 = z8 * z60 → z66 = z64 - z65 → z67 = z8 * z59 → z68 = z9 * z58 → z69 = z67 - z68 → (z74 = 0 ↔ ((z63 = 0 ∧ z66 = 0) ∧ z69 = 0)) → z75 = z1 * z50 → z76 = z0 * z51 → z77 = z75 - z76 → z78 = z2 * z50 → z79 = z0 * z52 → z80 = z78 - z79 → z81 = z2 * z51 → z82 = z1 * z52 → z83 = z81 - z82 → (z88 = 0 ↔ ((z77 = 0 ∧ z80 = 0) ∧ z83 = 0)) → (¬ (z7 = 0)) → (¬ (z57 = 0)) → (z74 = 0) → z88 = 0 := by
 intro e7 e8 e9 e10 e57 e58 e59 e60 e61 e62 e63 e64 e65 e66 e67 e68 e69 e74 e75 e76 e77 e78 e79 e80 e81 e82 e83 e88 u0 u3 u4
 rw [e7] at u0
 rw [e57] at u3
 obtain ⟨⟨ua4_63, ua4_66⟩, ua4_69⟩ := e74.1 u4
 rw [e88]
 clear u4 e7 e57 e74 e88
 have k0_0 : fac [z0, z1, z2] = 0 → z0 = 0 := fac_zero (by simp)
 have k0_1 : fac [z0, z1, z2] = 0 → z1 = 0 := fac_zero (by simp)
 have k0_2 : fac [z0, z1, z2] = 0 → z2 = 0 := fac_zero (by simp)
 generalize fac [z0, z1, z2] = g0 at *
 have k1_50 : fac [z50, z51, z52] = 0 → z50 = 0 := fac_zero (by simp)
 have k1_51 : fac [z50, z51, z52] = 0 → z51 = 0 := fac_zero (by simp)
 have k1_52 : fac [z50, z51, z52] = 0 → z52 = 0 := fac_zero (by simp)
 generalize fac [z50, z51, z52] = g1 at *
 have nx0 := u0
 have iw0 : g0 ≠ 0 := fun hg => nx0 ⟨⟨(k0_0 hg), (k0_1 hg)⟩, (k0_2 hg)⟩
 obtain ⟨iv0, ih0⟩ : ∃ i, g0 * i = 1 := ⟨g0⁻¹, Rat.mul_inv_cancel _ iw0⟩
 have nx1 := u3
 have iw1 : g1 ≠ 0 := fun hg => nx1 ⟨⟨(k1_50 hg), (k1_51 hg)⟩, (k1_52 hg)⟩
 obtain ⟨iv1, ih1⟩ : ∃ i, g1 * i = 1 := ⟨g1⁻¹, Rat.mul_inv_cancel _ iw1⟩
 clear k0_0 k0_1 k0_2 k1_50 k1_51 k1_52
 refine ⟨⟨?_, ?_⟩, ?_⟩ <;> (subst_vars; grind)
theorem projectHarmonic_f3 {z0 z1 z2 z7 z8 z9 z10 z50 z51 z52 z57 z58 z59 z60 z61 z62 z63 z64 z65 z66 z67 z68 z69 z74 z75 z76 z77 z78 z79 z80 z81 z82 z83 z88 : Rat} : (z7 = 0 ↔ ((z0 = 0 ∧ z1 = 0) ∧ z2 = 0)) → z8 = z0 * fac [z0, z1, z2] → z9 = z1 * fac [z0, z1, z2] → z10 = z2 * fac [z0, z1, z2] → (z57 = 0 ↔ ((z50 = 0 ∧ z51 = 0) ∧ z52 = 0)) → z58 = z50 * fac [z50, z51, z52] → z59 = z51 * fac [z50, z51, z52] → z60 = z52 * fac [z50, z51, z52] → z61 = z9 * z60 → z62 = z10 * z59 → z63 = z61 - z62 → z64 = z10 * z58 → z65 = z8 * z60 → z66 = z64 - z65 → z67 = z8 * z59 → z68 = z9 * z58 → z69 = z67 - z68 → (z74 = 0 ↔ ((z63 = 0 ∧ z66 = 0) ∧ z69 = 0)) → z75 = z1 * z50 → z76 = z0 * z51 → z77 = z75 - z76 → z78 = z2 * z50 → z79 = z0 * z52 → z80 = z78 - z79 → z81 = z2 * z51 → z82 = z1 * z52 → z83 = z81 - z82 → (z88 = 0 ↔ ((z77 = 0 ∧ z80 = 0) ∧ z83 = 0)) → (¬ (z7 = 0)) → (¬ (z57 = 0)) → (¬ (z74 = 0)) → ¬ (z88 = 0) := by
 intro e7 e8 e9 e10 e57 e58 e59 e60 e61 e62 e63 e64 e65 e66 e67 e68 e69 e74 e75 e76 e77 e78 e79 e80 e81 e82 e83 e88 u0 u3 u4
 rw [e7] at u0
 rw [e57] at u3
 rw [e74] at u4
 rw [e88]
 clear  e7 e57 e74 e88
 have k0_0 : fac [z0, z1, z2] = 0 → z0 = 0 := fac_zero (by simp)
 have k0_1 : fac [z0, z1, z2] = 0 → z1 = 0 := fac_zero (by simp)
 have k0_2 : fac [z0, z1, z2] = 0 → z2 = 0 := fac_zero (by simp)
 generalize fac [z0, z1, z2] = g0 at *
 have k1_50 : fac [z50, z51, z52] = 0 → z50 = 0 := fac_zero (by simp)
 have k1_51 : fac [z50, z51, z52] = 0 → z51 = 0 := fac_zero (by simp)
 have k1_52 : fac [z50, z51, z52] = 0 → z52 = 0 := fac_zero (by simp)
 generalize fac [z50, z51, z52] = g1 at *
 have nx0 := u0
 have iw0 : g0 ≠ 0 := fun hg => nx0 ⟨⟨(k0_0 hg), (k0_1 hg)⟩, (k0_2 hg)⟩
 obtain ⟨iv0, ih0⟩ : ∃ i, g0 * i = 1 := ⟨g0⁻¹, Rat.mul_inv_cancel _ iw0⟩
 have nx1 := u3
 have iw1 : g1 ≠ 0 := fun hg => nx1 ⟨⟨(k1_50 hg), (k1_51 hg)⟩, (k1_52 hg)⟩
 obtain ⟨iv1, ih1⟩ : ∃ i, g1 * i = 1 := ⟨g1⁻¹, Rat.mul_inv_cancel _ iw1⟩
 clear k0_0 k0_1 k0_2 k1_50 k1_51 k1_52
 rintro ⟨⟨ub77, ub80⟩, ub83⟩
 subst_vars; grind
theorem projectHarmonic_f4 {z11 z12 z13 z18 z19 z20 z21 z50 z51 z52 z57 z58 z59 z60 z89 z90 z91 z92 z93 z94 z95 z96 z97 z102 z103 z104 z105 z106 z107 z108 z109 z110 z111 z116 : Rat} : (z18 = 0 ↔ ((z11 = 0 ∧ z12 = 0) ∧ z13 = 0)) → z19 = z11 * fac [z11, z12, z13] → z20 = z12 * fac [z11, z12, z13] → z21 = z13 * fac [z11, z12, z13] → (z57 = 0 ↔ ((z50 = 0 ∧ z51 = 0) ∧ z52 = 0)) → z58 = z50 * fac [z50, z51, z52] → z59 = z51 * fac [z50, z51, z52] → z60 = z52 * fac [z50, z51, z52] → z89 = z20 * z60 → z90 = z21 * z59 → z91 = z89 - z90 → z92 = z21 * z58 → z93 = z19 * z60 → z94 = z92 - z93 → z95 = z19 * z59 → z96 = z20 * z58 → z97 = z95 - z96 → (z102 = 0 ↔ ((z91 = 0 ∧ z94 = 0) ∧ z97 = 0)) → z103 = z12 * z50 → z104 = z11 * z51 → z105 = z103 - z104 → z106 = z13 * z50 → z107 = z11 * z52 → z108 = z106 - z107 → z109 = z13 * z51 → z110 = z12 * z52 → z111 = z109 - z110 → (z116 = 0 ↔ ((z105 = 0 ∧ z108 = 0) ∧ z111 = 0)) → (¬ (z18 = 0)) → (¬ (z57 = 0)) → (z102 = 0) → z116 = 0 := by
 intro e18 e19 e20 e21 e57 e58 e59 e60 e89 e90 e91 e92 e93 e94 e95 e96 e97 e102 e103 e104 e105 e106 e107 e108 e109 e110 e111 e116 u1 u3 u5
 rw [e18] at u1
 rw [e57] at u3
 obtain ⟨⟨ua5_91, ua5_94⟩, ua5_97⟩ := e102.1 u5
 rw [e116]
 clear u5 e18 e57 e102 e116
 have k0_11 : fac [z11, z12, z13] = 0 → z11 = 0 := fac_zero (by simp)
 have k0_12 : fac [z11, z12, z13] = 0 → z12 = 0 := fac_zero (by simp)
 have k0_13 : fac [z11, z12, z13] = 0 → z13 = 0 := fac_zero (by simp)
 generalize fac [z11, z12, z13] = g0 at *
 have k1_50 : fac [z50, z51, z52] = 0 → z50 = 0 := fac_zero (by simp)
 have k1_51 : fac [z50, z51, z52] = 0 → z51 = 0 := fac_zero (by simp)
 have k1_52 : fac [z50, z51, z52] = 0 → z52 = 0 := fac_zero (by simp)
 generalize fac [z50, z51, z52] = g1 at *
 have nx0 := u1
 have iw0 : g0 ≠ 0 := fun hg => nx0 ⟨⟨(k0_11 hg), (k0_12 hg)⟩, (k0_13 hg)⟩
 obtain ⟨iv0, ih0⟩ : ∃ i, g0 * i = 1 := ⟨g0⁻¹, Rat.mul_inv_cancel _ iw0⟩
 have nx1 := u3
 have iw1 : g1 ≠ 0 := fun hg => nx1 ⟨⟨(k1_50 hg), (k1_51 hg)⟩, (k1_52 hg)⟩
 obtain ⟨iv1, ih1⟩ : ∃ i, g1 * i = 1 := ⟨g1⁻¹, Rat.mul_inv_cancel _ iw1⟩
 clear k0_11 k0_12 k0_13 k1_50 k1_51 k1_52
 refine ⟨⟨?_, ?_⟩, ?_⟩ <;> (subst_vars; grind)
theorem projectHarmonic_f5 {z11 z12 z13 z18 z19 z20 z21 z50 z51 z52 z57 z58 z59 z60 z89 z90 z91 z92 z93 z94 z95 z96 z97 z102 z103 z104 z105 z106 z107 z108 z109 z110 z111 z116 : Rat} : (z18 = 0 ↔ ((z11 = 0 ∧ z12 = 0) ∧ z13 = 0)) → z19 = z11 * fac [z11, z12, z13] → z20 = z12 * fac [z11, z12, z13] → z21 = z13 * fac [z11, z12, z13] → (z57 = 0 ↔ ((z50 = 0 ∧ z51 = 0) ∧ z52 = 0)) → z58 = z50 * fac [z50, z51, z52] → z59 = z51 * fac [z50, z51, z52] → z60 = z52 * fac [z50, z51, z52] → z89 = z20 * z60 → z90 = z21 * z59 → z91 = z89 - z90 → z92 = z21 * z58 → z93 = z19 * z60 → z94 = z92 - z93 → z95 = z19 * z59 → z96 = z20 * z58 → z97 = z95 - z96 → (z102 = 0 ↔ ((z91 = 0 ∧ z94 = 0) ∧ z97 = 0)) → z103 = z12 * z50 → z104 = z11 * z51 → z105 = z103 - z104 → z106 = z13 * z50 → z107 = z11 * z52 → z108 = z106 - z107 → z109 = z13 * z51 → z110 = z12 * z52 → z111 = z109 - z110 → (z116 = 0 ↔ ((z105 = 0 ∧ z108 = 0) ∧ z111 = 0)) → (¬ (z18 = 0)) → (¬ (z57 = 0)) → (¬ (z102 = 0)) → ¬ (z116 = 0) := by
 intro e18 e19 e20 e21 e57 e58 e59 e60 e89 e90 e91 e92 e93 e94 e95 e96 e97 e102 e103 e104 e105 e106 e107 e108 e109 e110 e111 e116 u1 u3 u5
 rw [e18] at u1
 rw [e57] at u3
 rw [e102] at u5
 rw [e116]
 clear  e18 e57 e102 e116
 have k0_11 : fac [z11, z12, z13] = 0 → z11 = 0 := fac_zero (by simp)
 have k0_12 : fac [z11, z12, z13] = 0 → z12 = 0 := fac_zero (by simp)
 have k0_13 : fac [z11, z12, z13] = 0 → z13 = 0 := fac_zero (by simp)
 generalize fac [z11, z12, z13] = g0 at *
 have k1_50 : fac [z50, z51, z52] = 0 → z50 = 0 := fac_zero (by simp)
 have k1_51 : fac [z50, z51, z52] = 0 → z51 = 0 := fac_zero (by simp)
 have k1_52 : fac [z50, z51, z52] = 0 → z52 = 0 := fac_zero (by simp)
 generalize fac [z50, z51, z52] = g1 at *
 have nx0 := u1
 have iw0 : g0 ≠ 0 := fun hg => nx0 ⟨⟨(k0_11 hg), (k0_12 hg)⟩, (k0_13 hg)⟩
 obtain ⟨iv0, ih0⟩ : ∃ i, g0 * i = 1 := ⟨g0⁻¹, Rat.mul_inv_cancel _ iw0⟩
 have nx1 := u3
 have iw1 : g1 ≠ 0 := fun hg => nx1 ⟨⟨(k1_50 hg), (k1_51 hg)⟩, (k1_52 hg)⟩
 obtain ⟨iv1, ih1⟩ : ∃ i, g1 * i = 1 := ⟨g1⁻¹, Rat.mul_inv_cancel _ iw1⟩
 clear k0_11 k0_12 k0_13 k1_50 k1_51 k1_52
 rintro ⟨⟨ub105, ub108⟩, ub111⟩
 subst_vars; grind
theorem projectHarmonic_f6 {z0 z1 z2 z7 z8 z9 z10 z11 z12 z13 z18 z19 z20 z21 z22 z23 z24 z25 z26 z27 z28 z29 z30 z50 z51 z52 z57 z58 z59 z60 z103 z104 z106 z107 z109 z110 z117 z118 z119 z120 z121 z122 z123 z158 z159 z160 z161 z162 z163 z164 z165 z166 : Rat} : (z7 = 0 ↔ ((z0 = 0 ∧ z1 = 0) ∧ z2 = 0)) → z8 = z0 * fac [z0, z1, z2] → z9 = z1 * fac [z0, z1, z2] → z10 = z2 * fac [z0, z1, z2] → (z18 = 0 ↔ ((z11 = 0 ∧ z12 = 0) ∧ z13 = 0)) → z19 = z11 * fac [z11, z12, z13] → z20 = z12 * fac [z11, z12, z13] → z21 = z13 * fac [z11, z12, z13] → z22 = z9 * z21 → z23 = z10 * z20 → z24 = z22 - z23 → z25 = z10 * z19 → z26 = z8 * z21 → z27 = z25 - z26 → z28 = z8 * z20 → z29 = z9 * z19 → z30 = z28 - z29 → (z57 = 0 ↔ ((z50 = 0 ∧ z51 = 0) ∧ z52 = 0)) → z58 = z50 * fac [z50, z51, z52] → z59 = z51 * fac [z50, z51, z52] → z60 = z52 * fac [z50, z51, z52] → z103 = z12 * z50 → z104 = z11 * z51 → z106 = z13 * z50 → z107 = z11 * z52 → z109 = z13 * z51 → z110 = z12 * z52 → z117 = z58 * z24 → z118 = 0 → z119 = z118 + z117 → z120 = z59 * z27 → z121 = z119 + z120 → z122 = z60 * z30 → z123 = z121 + z122 → z158 = z110 - z109 → z159 = z0 * z158 → z160 = z107 - z106 → z161 = z1 * z160 → z162 = -z161 → z163 = z104 - z103 → z164 = z2 * z163 → z165 = z159 + z162 → z166 = z165 + z164 → (¬ (z7 = 0)) → (¬ (z18 = 0)) → (¬ (z57 = 0)) → (z123 = 0) → z166 = 0 := by
 intro e7 e8 e9 e10 e18 e19 e20 e21 e22 e23 e24 e25 e26 e27 e28 e29 e30 e57 e58 e59 e60 e103 e104 e106 e107 e109 e110 e117 e118 e119 e120 e121 e122 e123 e158 e159 e160 e161 e162 e163 e164 e165 e166 u0 u1 u3 u6
 rw [e7] at u0
 rw [e18] at u1
 rw [e57] at u3
 clear  e7 e18 e57
 rw [u6] at e123
 have k0_0 : fac [z0, z1, z2] = 0 → z0 = 0 := fac_zero (by simp)
 have k0_1 : fac [z0, z1, z2] = 0 → z1 = 0 := fac_zero (by simp)
 have k0_2 : fac [z0, z1, z2] = 0 → z2 = 0 := fac_zero (by simp)
 generalize fac [z0, z1, z2] = g0 at *
 have k1_11 : fac [z11, z12, z13] = 0 → z11 = 0 := fac_zero (by simp)
 have k1_12 : fac [z11, z12, z13] = 0 → z12 = 0 := fac_zero (by simp)
 have k1_13 : fac [z11, z12, z13] = 0 → z13 = 0 := fac_zero (by simp)
 generalize fac [z11, z12, z13] = g1 at *
 have k2_50 : fac [z50, z51, z52] = 0 → z50 = 0 := fac_zero (by simp)
 have k2_51 : fac [z50, z51, z52] = 0 → z51 = 0 := fac_zero (by simp)
 have k2_52 : fac [z50, z51, z52] = 0 → z52 = 0 := fac_zero (by simp)
 generalize fac [z50, z51, z52] = g2 at *
 have nx0 := u0
 have iw0 : g0 ≠ 0 := fun hg => nx0 ⟨⟨(k0_0 hg), (k0_1 hg)⟩, (k0_2 hg)⟩
 obtain ⟨iv0, ih0⟩ : ∃ i, g0 * i = 1 := ⟨g0⁻¹, Rat.mul_inv_cancel _ iw0⟩
 have nx1 := u1
 have iw1 : g1 ≠ 0 := fun hg => nx1 ⟨⟨(k1_11 hg), (k1_12 hg)⟩, (k1_13 hg)⟩
 obtain ⟨iv1, ih1⟩ : ∃ i, g1 * i = 1 := ⟨g1⁻¹, Rat.mul_inv_cancel _ iw1⟩
 have nx2 := u3
 have iw2 : g2 ≠ 0 := fun hg => nx2 ⟨⟨(k2_50 hg), (k2_51 hg)⟩, (k2_52 hg)⟩
 obtain ⟨iv2, ih2⟩ : ∃ i, g2 * i = 1 := ⟨g2⁻¹, Rat.mul_inv_cancel _ iw2⟩
 clear k0_0 k0_1 k0_2 k1_11 k1_12 k1_13 k2_50 k2_51 k2_52
 subst_vars; grind
theorem projectHarmonic_f7 {z0 z1 z2 z7 z8 z9 z10 z11 z12 z13 z18 z19 z20 z21 z22 z23 z24 z25 z26 z27 z28 z29 z30 z35 z36 z37 z39 z40 z41 z42 z43 z50 z51 z52 z57 z58 z59 z60 z89 z90 z91 z92 z93 z94 z95 z96 z97 z102 z117 z118 z119 z120 z121 z122 z123 z167 z168 : Rat} : (z7 = 0 ↔ ((z0 = 0 ∧ z1 = 0) ∧ z2 = 0)) → z8 = z0 * fac [z0, z1, z2] → z9 = z1 * fac [z0, z1, z2] → z10 = z2 * fac [z0, z1, z2] → (z18 = 0 ↔ ((z11 = 0 ∧ z12 = 0) ∧ z13 = 0)) → z19 = z11 * fac [z11, z12, z13] → z20 = z12 * fac [z11, z12, z13] → z21 = z13 * fac [z11, z12, z13] → z22 = z9 * z21 → z23 = z10 * z20 → z24 = z22 - z23 → z25 = z10 * z19 → z26 = z8 * z21 → z27 = z25 - z26 → z28 = z8 * z20 → z29 = z9 * z19 → z30 = z28 - z29 → (z35 = 0 ↔ ((z24 = 0 ∧ z27 = 0) ∧ z30 = 0)) → z36 = z1 * z11 → z37 = z0 * z12 → z39 = z2 * z11 → z40 = z0 * z13 → z41 = z39 - z40 → z42 = z2 * z12 → z43 = z1 * z13 → (z57 = 0 ↔ ((z50 = 0 ∧ z51 = 0) ∧ z52 = 0)) → z58 = z50 * fac [z50, z51, z52] → z59 = z51 * fac [z50, z51, z52] → z60 = z52 * fac [z50, z51, z52] → z89 = z20 * z60 → z90 = z21 * z59 → z91 = z89 - z90 → z92 = z21 * z58 → z93 = z19 * z60 → z94 = z92 - z93 → z95 = z19 * z59 → z96 = z20 * z58 → z97 = z95 - z96 → (z102 = 0 ↔ ((z91 = 0 ∧ z94 = 0) ∧ z97 = 0)) → z117 = z58 * z24 → z118 = 0 → z119 = z118 + z117 → z120 = z59 * z27 → z121 = z119 + z120 → z122 = z60 * z30 → z123 = z121 + z122 → z167 = z37 - z36 → z168 = z43 - z42 → (¬ (z7 = 0)) → (¬ (z18 = 0)) → (¬ (z35 = 0)) → (¬ (z57 = 0)) → (¬ (z102 = 0)) → (z123 = 0) → (z167 = 0) → (z168 = 0) → ¬ (z41 = 0) := by
 intro e7 e8 e9 e10 e18 e19 e20 e21 e22 e23 e24 e25 e26 e27 e28 e29 e30 e35 e36 e37 e39 e40 e41 e42 e43 e57 e58 e59 e60 e89 e90 e91 e92 e93 e94 e95 e96 e97 e102 e117 e118 e119 e120 e121 e122 e123 e167 e168 u0 u1 u2 u3 u5 u6 u7 u8
 rw [e7] at u0
 rw [e18] at u1
 rw [e35] at u2
 rw [e57] at u3
 rw [e102] at u5
 clear  e7 e18 e35 e57 e102
 rw [u6] at e123
 rw [u7] at e167
 rw [u8] at e168
 have k0_0 : fac [z0, z1, z2] = 0 → z0 = 0 := fac_zero (by simp)
 have k0_1 : fac [z0, z1, z2] = 0 → z1 = 0 := fac_zero (by simp)
 have k0_2 : fac [z0, z1, z2] = 0 → z2 = 0 := fac_zero (by simp)
 generalize fac [z0, z1, z2] = g0 at *
 have k1_11 : fac [z11, z12, z13] = 0 → z11 = 0 := fac_zero (by simp)
 have k1_12 : fac [z11, z12, z13] = 0 → z12 = 0 := fac_zero (by simp)
 have k1_13 : fac [z11, z12, z13] = 0 → z13 = 0 := fac_zero (by simp)
 generalize fac [z11, z12, z13] = g1 at *
 have k2_50 : fac [z50, z51, z52] = 0 → z50 = 0 := fac_zero (by simp)
 have k2_51 : fac [z50, z51, z52] = 0 → z51 = 0 := fac_zero (by simp)
 have k2_52 : fac [z50, z51, z52] = 0 → z52 = 0 := fac_zero (by simp)
 generalize fac [z50, z51, z52] = g2 at *
 have nx0 := u0
 have iw0 : g0 ≠ 0 := fun hg => nx0 ⟨⟨(k0_0 hg), (k0_1 hg)⟩, (k0_2 hg)⟩
 obtain ⟨iv0, ih0⟩ : ∃ i, g0 * i = 1 := ⟨g0⁻¹, Rat.mul_inv_cancel _ iw0⟩
 have nx1 := u1
 have iw1 : g1 ≠ 0 := fun hg => nx1 ⟨⟨(k1_11 hg), (k1_12 hg)⟩, (k1_13 hg)⟩
 obtain ⟨iv1, ih1⟩ : ∃ i, g1 * i = 1 := ⟨g1⁻¹, Rat.mul_inv_cancel _ iw1⟩
 have nx2 := u3
 have iw2 : g2 ≠ 0 := fun hg => nx2 ⟨⟨(k2_50 hg), (k2_51 hg)⟩, (k2_52 hg)⟩
 obtain ⟨iv2, ih2⟩ : ∃ i, g2 * i = 1 := ⟨g2⁻¹, Rat.mul_inv_cancel _ iw2⟩
 clear k0_0 k0_1 k0_2 k1_11 k1_12 k1_13 k2_50 k2_51 k2_52
 have n41 : z41 ≠ 0 := by
  intro hh
  have cz := cross_nz e8 e9 e10 e19 e20 e21 (by rw [e24, e22, e23]) (by rw [e27, e25, e26]) (by rw [e30, e28, e29]) u2
  grind
 subst_vars; grind
theorem projectHarmonic_f8 {z0 z1 z2 z7 z8 z9 z10 z11 z12 z13 z18 z19 z20 z21 z22 z23 z24 z25 z26 z27 z28 z29 z30 z35 z50 z51 z52 z57 z58 z59 z60 z61 z62 z63 z64 z65 z66 z67 z68 z69 z89 z90 z91 z92 z93 z94 z95 z96 z97 z102 z117 z118 z119 z120 z121 z122 z123 z124 z125 z126 z127 z128 z129 z130 z131 z132 z133 z134 z135 z136 z137 z138 z139 z140 z141 z142 z143 z144 z145 z146 z147 z148 z149 z150 z151 z152 z153 z154 z155 z156 z157 z174 z175 z176 z177 z178 z179 z180 z181 z182 z183 z184 z185 z186 z187 z188 : Rat} : (z7 = 0 ↔ ((z0 = 0 ∧ z1 = 0) ∧ z2 = 0)) → z8 = z0 * fac [z0, z1, z2] → z9 = z1 * fac [z0, z1, z2] → z10 = z2 * fac [z0, z1, z2] → (z18 = 0 ↔ ((z11 = 0 ∧ z12 = 0) ∧ z13 = 0)) → z19 = z11 * fac [z11, z12, z13] → z20 = z12 * fac [z11, z12, z13] → z21 = z13 * fac [z11, z12, z13] → z22 = z9 * z21 → z23 = z10 * z20 → z24 = z22 - z23 → z25 = z10 * z19 → z26 = z8 * z21 → z27 = z25 - z26 → z28 = z8 * z20 → z29 = z9 * z19 → z30 = z28 - z29 → (z35 = 0 ↔ ((z24 = 0 ∧ z27 = 0) ∧ z30 = 0)) → (z57 = 0 ↔ ((z50 = 0 ∧ z51 = 0) ∧ z52 = 0)) → z58 = z50 * fac [z50, z51, z52] → z59 = z51 * fac [z50, z51, z52] → z60 = z52 * fac [z50, z51, z52] → z61 = z9 * z60 → z62 = z10 * z59 → z63 = z61 - z62 → z64 = z10 * z58 → z65 = z8 * z60 → z66 = z64 - z65 → z67 = z8 * z59 → z68 = z9 * z58 → z69 = z67 - z68 → z89 = z20 * z60 → z90 = z21 * z59 → z91 = z89 - z90 → z92 = z21 * z58 → z93 = z19 * z60 → z94 = z92 - z93 → z95 = z19 * z59 → z96 = z20 * z58 → z97 = z95 - z96 → (z102 = 0 ↔ ((z91 = 0 ∧ z94 = 0) ∧ z97 = 0)) → z117 = z58 * z24 → z118 = 0 → z119 = z118 + z117 → z120 = z59 * z27 → z121 = z119 + z120 → z122 = z60 * z30 → z123 = z121 + z122 → z124 = z59 * z21 → z125 = z60 * z20 → z126 = z124 - z125 → z127 = z60 * z19 → z128 = z58 * z21 → z129 = z127 - z128 → z130 = z58 * z20 → z131 = z59 * z19 → z132 = z130 - z131 → z133 = z126 * z24 → z134 = z118 + z133 → z135 = z129 * z27 → z136 = z134 + z135 → z137 = z132 * z30 → z138 = z136 + z137 → z139 = z63 * z24 → z140 = z118 + z139 → z141 = z66 * z27 → z142 = z140 + z141 → z143 = z69 * z30 → z144 = z142 + z143 → z145 = z8 * z138 → z146 = z9 * z138 → z147 = z10 * z138 → z148 = -z144 → z149 = z19 * z148 → z150 = z20 * z148 → z151 = z21 * z148 → z152 = z145 + z149 → z153 = z146 + z150 → z154 = z147 + z151 → z155 = z152 * fac [z152, z153, z154] → z156 = z153 * fac [z152, z153, z154] → z157 = z154 * fac [z152, z153, z154] → z174 = z12 * z157 → z175 = z13 * z156 → z176 = z174 - z175 → z177 = z0 * z176 → z178 = z11 * z157 → z179 = z13 * z155 → z180 = z178 - z179 → z181 = z1 * z180 → z182 = -z181 → z183 = z11 * z156 → z184 = z12 * z155 → z185 = z183 - z184 → z186 = z2 * z185 → z187 = z177 + z182 → z188 = z187 + z186 → (¬ (z7 = 0)) → (¬ (z18 = 0)) → (¬ (z35 = 0)) → (¬ (z57 = 0)) → (¬ (z102 = 0)) → (z123 = 0) → z188 = 0 := by
 intro e7 e8 e9 e10 e18 e19 e20 e21 e22 e23 e24 e25 e26 e27 e28 e29 e30 e35 e57 e58 e59 e60 e61 e62 e63 e64 e65 e66 e67 e68 e69 e89 e90 e91 e92 e93 e94 e95 e96 e97 e102 e117 e118 e119 e120 e121 e122 e123 e124 e125 e126 e127 e128 e129 e130 e131 e132 e133 e134 e135 e136 e137 e138 e139 e140 e141 e142 e143 e144 e145 e146 e147 e148 e149 e150 e151 e152 e153 e154 e155 e156 e157 e174 e175 e176 e177 e178 e179 e180 e181 e182 e183 e184 e185 e186 e187 e188 u0 u1 u2 u3 u5 u6
 rw [e7] at u0
 rw [e18] at u1
 rw [e35] at u2
 rw [e57] at u3
 rw [e102] at u5
 clear  e7 e18 e35 e57 e102
 rw [u6] at e123
 have k0_0 : fac [z0, z1, z2] = 0 → z0 = 0 := fac_zero (by simp)
 have k0_1 : fac [z0, z1, z2] = 0 → z1 = 0 := fac_zero (by simp)
 have k0_2 : fac [z0, z1, z2] = 0 → z2 = 0 := fac_zero (by simp)
 generalize fac [z0, z1, z2] = g0 at *
 have k1_11 : fac [z11, z12, z13] = 0 → z11 = 0 := fac_zero (by simp)
 have k1_12 : fac [z11, z12, z13] = 0 → z12 = 0 := fac_zero (by simp)
 have k1_13 : fac [z11, z12, z13] = 0 → z13 = 0 := fac_zero (by simp)
 generalize fac [z11, z12, z13] = g1 at *
 have k2_50 : fac [z50, z51, z52] = 0 → z50 = 0 := fac_zero (by simp)
 have k2_51 : fac [z50, z51, z52] = 0 → z51 = 0 := fac_zero (by simp)
 have k2_52 : fac [z50, z51, z52] = 0 → z52 = 0 := fac_zero (by simp)
 generalize fac [z50, z51, z52] = g2 at *
 have k3_152 : fac [z152, z153, z154] = 0 → z152 = 0 := fac_zero (by simp)
 have k3_153 : fac [z152, z153, z154] = 0 → z153 = 0 := fac_zero (by simp)
 have k3_154 : fac [z152, z153, z154] = 0 → z154 = 0 := fac_zero (by simp)
 generalize fac [z152, z153, z154] = g3 at *
 have nx0 := u0
 have iw0 : g0 ≠ 0 := fun hg => nx0 ⟨⟨(k0_0 hg), (k0_1 hg)⟩, (k0_2 hg)⟩
 obtain ⟨iv0, ih0⟩ : ∃ i, g0 * i = 1 := ⟨g0⁻¹, Rat.mul_inv_cancel _ iw0⟩
 have nx1 := u1
 have iw1 : g1 ≠ 0 := fun hg => nx1 ⟨⟨(k1_11 hg), (k1_12 hg)⟩, (k1_13 hg)⟩
 obtain ⟨iv1, ih1⟩ : ∃ i, g1 * i = 1 := ⟨g1⁻¹, Rat.mul_inv_cancel _ iw1⟩
 have nx2 := u3
 have iw2 : g2 ≠ 0 := fun hg => nx2 ⟨⟨(k2_50 hg), (k2_51 hg)⟩, (k2_52 hg)⟩
 obtain ⟨iv2, ih2⟩ : ∃ i, g2 * i = 1 := ⟨g2⁻¹, Rat.mul_inv_cancel _ iw2⟩
 have nx3 : ¬ ((z152 = 0 ∧ z153 = 0) ∧ z154 = 0) := comb_ne (a1 := z8) (a2 := z9) (a3 := z10) (b1 := z19) (b2 := z20) (b3 := z21) (s := z138) (t := z148) (by rw [e24, e22, e23]) (by rw [e27, e25, e26]) (by rw [e30, e28, e29]) u2 (harm_sig (a1 := z8) (a2 := z9) (a3 := z10) (b1 := z19) (b2 := z20) (b3 := z21) (c1 := z58) (c2 := z59) (c3 := z60) (X1 := z126) (X2 := z129) (X3 := z132) (B1 := z91) (B2 := z94) (B3 := z97) (s := z138) (by rw [e24, e22, e23]) (by rw [e27, e25, e26]) (by rw [e30, e28, e29]) (by rw [e126, e124, e125]) (by rw [e129, e127, e128]) (by rw [e132, e130, e131]) (by rw [e91, e89, e90]) (by rw [e94, e92, e93]) (by rw [e97, e95, e96]) u2 u5 (by have hh := e123; (first | rw [u6] at hh | skip); rw [e121, e119, e118, e117, e120, e122] at hh; exact hh) (by rw [e138, e136, e134, e118, e133, e135, e137])) (by rw [e152, e145, e149]) (by rw [e153, e146, e150]) (by rw [e154, e147, e151])
 have iw3 : g3 ≠ 0 := fun hg => nx3 ⟨⟨(k3_152 hg), (k3_153 hg)⟩, (k3_154 hg)⟩
 obtain ⟨iv3, ih3⟩ : ∃ i, g3 * i = 1 := ⟨g3⁻¹, Rat.mul_inv_cancel _ iw3⟩
 clear k0_0 k0_1 k0_2 k1_11 k1_12 k1_13 k2_50 k2_51 k2_52 k3_152 k3_153 k3_154
 subst_vars; grind
theorem projectHarmonic_f9 {z0 z1 z2 z7 z8 z9 z10 z11 z12 z13 z18 z19 z20 z21 z22 z23 z24 z25 z26 z27 z28 z29 z30 z35 z50 z51 z52 z57 z58 z59 z60 z61 z62 z63 z64 z65 z66 z67 z68 z69 z89 z90 z91 z92 z93 z94 z95 z96 z97 z102 z117 z118 z119 z120 z121 z122 z123 z124 z125 z126 z127 z128 z129 z130 z131 z132 z133 z134 z135 z136 z137 z138 z139 z140 z141 z142 z143 z144 z145 z146 z147 z148 z149 z150 z151 z152 z153 z154 z201 : Rat} : (z7 = 0 ↔ ((z0 = 0 ∧ z1 = 0) ∧ z2 = 0)) → z8 = z0 * fac [z0, z1, z2] → z9 = z1 * fac [z0, z1, z2] → z10 = z2 * fac [z0, z1, z2] → (z18 = 0 ↔ ((z11 = 0 ∧ z12 = 0) ∧ z13 = 0)) → z19 = z11 * fac [z11, z12, z13] → z20 = z12 * fac [z11, z12, z13] → z21 = z13 * fac [z11, z12, z13] → z22 = z9 * z21 → z23 = z10 * z20 → z24 = z22 - z23 → z25 = z10 * z19 → z26 = z8 * z21 → z27 = z25 - z26 → z28 = z8 * z20 → z29 = z9 * z19 → z30 = z28 - z29 → (z35 = 0 ↔ ((z24 = 0 ∧ z27 = 0) ∧ z30 = 0)) → (z57 = 0 ↔ ((z50 = 0 ∧ z51 = 0) ∧ z52 = 0)) → z58 = z50 * fac [z50, z51, z52] → z59 = z51 * fac [z50, z51, z52] → z60 = z52 * fac [z50, z51, z52] → z61 = z9 * z60 → z62 = z10 * z59 → z63 = z61 - z62 → z64 = z10 * z58 → z65 = z8 * z60 → z66 = z64 - z65 → z67 = z8 * z59 → z68 = z9 * z58 → z69 = z67 - z68 → z89 = z20 * z60 → z90 = z21 * z59 → z91 = z89 - z90 → z92 = z21 * z58 → z93 = z19 * z60 → z94 = z92 - z93 → z95 = z19 * z59 → z96 = z20 * z58 → z97 = z95 - z96 → (z102 = 0 ↔ ((z91 = 0 ∧ z94 = 0) ∧ z97 = 0)) → z117 = z58 * z24 → z118 = 0 → z119 = z118 + z117 → z120 = z59 * z27 → z121 = z119 + z120 → z122 = z60 * z30 → z123 = z121 + z122 → z124 = z59 * z21 → z125 = z60 * z20 → z126 = z124 - z125 → z127 = z60 * z19 → z128 = z58 * z21 → z129 = z127 - z128 → z130 = z58 * z20 → z131 = z59 * z19 → z132 = z130 - z131 → z133 = z126 * z24 → z134 = z118 + z133 → z135 = z129 * z27 → z136 = z134 + z135 → z137 = z132 * z30 → z138 = z136 + z137 → z139 = z63 * z24 → z140 = z118 + z139 → z141 = z66 * z27 → z142 = z140 + z141 → z143 = z69 * z30 → z144 = z142 + z143 → z145 = z8 * z138 → z146 = z9 * z138 → z147 = z10 * z138 → z148 = -z144 → z149 = z19 * z148 → z150 = z20 * z148 → z151 = z21 * z148 → z152 = z145 + z149 → z153 = z146 + z150 → z154 = z147 + z151 → (z201 = 0 ↔ ((z152 = 0 ∧ z153 = 0) ∧ z154 = 0)) → (¬ (z7 = 0)) → (¬ (z18 = 0)) → (¬ (z35 = 0)) → (¬ (z57 = 0)) → (¬ (z102 = 0)) → (z123 = 0) → ¬ (z201 = 0) := by
 intro e7 e8 e9 e10 e18 e19 e20 e21 e22 e23 e24 e25 e26 e27 e28 e29 e30 e35 e57 e58 e59 e60 e61 e62 e63 e64 e65 e66 e67 e68 e69 e89 e90 e91 e92 e93 e94 e95 e96 e97 e102 e117 e118 e119 e120 e121 e122 e123 e124 e125 e126 e127 e128 e129 e130 e131 e132 e133 e134 e135 e136 e137 e138 e139 e140 e141 e142 e143 e144 e145 e146 e147 e148 e149 e150 e151 e152 e153 e154 e201 u0 u1 u2 u3 u5 u6
 rw [e7] at u0
 rw [e18] at u1
 rw [e35] at u2
 rw [e57] at u3
 rw [e102] at u5
 rw [e201]
 clear  e7 e18 e35 e57 e102 e201
 rw [u6] at e123
 have k0_0 : fac [z0, z1, z2] = 0 → z0 = 0 := fac_zero (by simp)
 have k0_1 : fac [z0, z1, z2] = 0 → z1 = 0 := fac_zero (by simp)
 have k0_2 : fac [z0, z1, z2] = 0 → z2 = 0 := fac_zero (by simp)
 generalize fac [z0, z1, z2] = g0 at *
 have k1_11 : fac [z11, z12, z13] = 0 → z11 = 0 := fac_zero (by simp)
 have k1_12 : fac [z11, z12, z13] = 0 → z12 = 0 := fac_zero (by simp)
 have k1_13 : fac [z11, z12, z13] = 0 → z13 = 0 := fac_zero (by simp)
 generalize fac [z11, z12, z13] = g1 at *
 have k2_50 : fac [z50, z51, z52] = 0 → z50 = 0 := fac_zero (by simp)
 have k2_51 : fac [z50, z51, z52] = 0 → z51 = 0 := fac_zero (by simp)
 have k2_52 : fac [z50, z51, z52] = 0 → z52 = 0 := fac_zero (by simp)
 generalize fac [z50, z51, z52] = g2 at *
 have nx0 := u0
 have iw0 : g0 ≠ 0 := fun hg => nx0 ⟨⟨(k0_0 hg), (k0_1 hg)⟩, (k0_2 hg)⟩
 obtain ⟨iv0, ih0⟩ : ∃ i, g0 * i = 1 := ⟨g0⁻¹, Rat.mul_inv_cancel _ iw0⟩
 have nx1 := u1
 have iw1 : g1 ≠ 0 := fun hg => nx1 ⟨⟨(k1_11 hg), (k1_12 hg)⟩, (k1_13 hg)⟩
 obtain ⟨iv1, ih1⟩ : ∃ i, g1 * i = 1 := ⟨g1⁻¹, Rat.mul_inv_cancel _ iw1⟩
 have nx2 := u3
 have iw2 : g2 ≠ 0 := fun hg => nx2 ⟨⟨(k2_50 hg), (k2_51 hg)⟩, (k2_52 hg)⟩
 obtain ⟨iv2, ih2⟩ : ∃ i, g2 * i = 1 := ⟨g2⁻¹, Rat.mul_inv_cancel _ iw2⟩
 clear k0_0 k0_1 k0_2 k1_11 k1_12 k1_13 k2_50 k2_51 k2_52
 exact comb_ne (a1 := z8) (a2 := z9) (a3 := z10) (b1 := z19) (b2 := z20) (b3 := z21) (s := z138) (t := z148) (by rw [e24, e22, e23]) (by rw [e27, e25, e26]) (by rw [e30, e28, e29]) u2 (harm_sig (a1 := z8) (a2 := z9) (a3 := z10) (b1 := z19) (b2 := z20) (b3 := z21) (c1 := z58) (c2 := z59) (c3 := z60) (X1 := z126) (X2 := z129) (X3 := z132) (B1 := z91) (B2 := z94) (B3 := z97) (s := z138) (by rw [e24, e22, e23]) (by rw [e27, e25, e26]) (by rw [e30, e28, e29]) (by rw [e126, e124, e125]) (by rw [e129, e127, e128]) (by rw [e132, e130, e131]) (by rw [e91, e89, e90]) (by rw [e94, e92, e93]) (by rw [e97, e95, e96]) u2 u5 (by have hh := e123; (first | rw [u6] at hh | skip); rw [e121, e119, e118, e117, e120, e122] at hh; exact hh) (by rw [e138, e136, e134, e118, e133, e135, e137])) (by rw [e152, e145, e149]) (by rw [e153, e146, e150]) (by rw [e154, e147, e151])
theorem projectHarmonic_f10 {z0 z1 z2 z7 z8 z9 z10 z11 z12 z13 z18 z19 z20 z21 z22 z23 z24 z25 z26 z27 z28 z29 z30 z35 z50 z51 z52 z57 z58 z59 z60 z61 z62 z63 z64 z65 z66 z67 z68 z69 z89 z90 z91 z92 z93 z94 z95 z96 z97 z102 z117 z118 z119 z120 z121 z122 z123 z124 z125 z126 z127 z128 z129 z130 z131 z132 z133 z134 z135 z136 z137 z138 z139 z140 z141 z142 z143 z144 z145 z146 z147 z148 z149 z150 z151 z152 z153 z154 z155 z156 z157 z206 : Rat} : (z7 = 0 ↔ ((z0 = 0 ∧ z1 = 0) ∧ z2 = 0)) → z8 = z0 * fac [z0, z1, z2] → z9 = z1 * fac [z0, z1, z2] → z10 = z2 * fac [z0, z1, z2] → (z18 = 0 ↔ ((z11 = 0 ∧ z12 = 0) ∧ z13 = 0)) → z19 = z11 * fac [z11, z12, z13] → z20 = z12 * fac [z11, z12, z13] → z21 = z13 * fac [z11, z12, z13] → z22 = z9 * z21 → z23 = z10 * z20 → z24 = z22 - z23 → z25 = z10 * z19 → z26 = z8 * z21 → z27 = z25 - z26 → z28 = z8 * z20 → z29 = z9 * z19 → z30 = z28 - z29 → (z35 = 0 ↔ ((z24 = 0 ∧ z27 = 0) ∧ z30 = 0)) → (z57 = 0 ↔ ((z50 = 0 ∧ z51 = 0) ∧ z52 = 0)) → z58 = z50 * fac [z50, z51, z52] → z59 = z51 * fac [z50, z51, z52] → z60 = z52 * fac [z50, z51, z52] → z61 = z9 * z60 → z62 = z10 * z59 → z63 = z61 - z62 → z64 = z10 * z58 → z65 = z8 * z60 → z66 = z64 - z65 → z67 = z8 * z59 → z68 = z9 * z58 → z69 = z67 - z68 → z89 = z20 * z60 → z90 = z21 * z59 → z91 = z89 - z90 → z92 = z21 * z58 → z93 = z19 * z60 → z94 = z92 - z93 → z95 = z19 * z59 → z96 = z20 * z58 → z97 = z95 - z96 → (z102 = 0 ↔ ((z91 = 0 ∧ z94 = 0) ∧ z97 = 0)) → z117 = z58 * z24 → z118 = 0 → z119 = z118 + z117 → z120 = z59 * z27 → z121 = z119 + z120 → z122 = z60 * z30 → z123 = z121 + z122 → z124 = z59 * z21 → z125 = z60 * z20 → z126 = z124 - z125 → z127 = z60 * z19 → z128 = z58 * z21 → z129 = z127 - z128 → z130 = z58 * z20 → z131 = z59 * z19 → z132 = z130 - z131 → z133 = z126 * z24 → z134 = z118 + z133 → z135 = z129 * z27 → z136 = z134 + z135 → z137 = z132 * z30 → z138 = z136 + z137 → z139 = z63 * z24 → z140 = z118 + z139 → z141 = z66 * z27 → z142 = z140 + z141 → z143 = z69 * z30 → z144 = z142 + z143 → z145 = z8 * z138 → z146 = z9 * z138 → z147 = z10 * z138 → z148 = -z144 → z149 = z19 * z148 → z150 = z20 * z148 → z151 = z21 * z148 → z152 = z145 + z149 → z153 = z146 + z150 → z154 = z147 + z151 → z155 = z152 * fac [z152, z153, z154] → z156 = z153 * fac [z152, z153, z154] → z157 = z154 * fac [z152, z153, z154] → (z206 = 0 ↔ ((z155 = 0 ∧ z156 = 0) ∧ z157 = 0)) → (¬ (z7 = 0)) → (¬ (z18 = 0)) → (¬ (z35 = 0)) → (¬ (z57 = 0)) → (¬ (z102 = 0)) → (z123 = 0) → ¬ (z206 = 0) := by
 intro e7 e8 e9 e10 e18 e19 e20 e21 e22 e23 e24 e25 e26 e27 e28 e29 e30 e35 e57 e58 e59 e60 e61 e62 e63 e64 e65 e66 e67 e68 e69 e89 e90 e91 e92 e93 e94 e95 e96 e97 e102 e117 e118 e119 e120 e121 e122 e123 e124 e125 e126 e127 e128 e129 e130 e131 e132 e133 e134 e135 e136 e137 e138 e139 e140 e141 e142 e143 e144 e145 e146 e147 e148 e149 e150 e151 e152 e153 e154 e155 e156 e157 e206 u0 u1 u2 u3 u5 u6
 rw [e7] at u0
 rw [e18] at u1
 rw [e35] at u2
 rw [e57] at u3
 rw [e102] at u5
 rw [e206]
 clear  e7 e18 e35 e57 e102 e206
 rw [u6] at e123
 have k0_0 : fac [z0, z1, z2] = 0 → z0 = 0 := fac_zero (by simp)
 have k0_1 : fac [z0, z1, z2] = 0 → z1 = 0 := fac_zero (by simp)
 have k0_2 : fac [z0, z1, z2] = 0 → z2 = 0 := fac_zero (by simp)
 generalize fac [z0, z1, z2] = g0 at *
 have k1_11 : fac [z11, z12, z13] = 0 → z11 = 0 := fac_zero (by simp)
 have k1_12 : fac [z11, z12, z13] = 0 → z12 = 0 := fac_zero (by simp)
 have k1_13 : fac [z11, z12, z13] = 0 → z13 = 0 := fac_zero (by simp)
 generalize fac [z11, z12, z13] = g1 at *
 have k2_50 : fac [z50, z51, z52] = 0 → z50 = 0 := fac_zero (by simp)
 have k2_51 : fac [z50, z51, z52] = 0 → z51 = 0 := fac_zero (by simp)
 have k2_52 : fac [z50, z51, z52] = 0 → z52 = 0 := fac_zero (by simp)
 generalize fac [z50, z51, z52] = g2 at *
 have k3_152 : fac [z152, z153, z154] = 0 → z152 = 0 := fac_zero (by simp)
 have k3_153 : fac [z152, z153, z154] = 0 → z153 = 0 := fac_zero (by simp)
 have k3_154 : fac [z152, z153, z154] = 0 → z154 = 0 := fac_zero (by simp)
 generalize fac [z152, z153, z154] = g3 at *
 have nx0 := u0
 have iw0 : g0 ≠ 0 := fun hg => nx0 ⟨⟨(k0_0 hg), (k0_1 hg)⟩, (k0_2 hg)⟩
 obtain ⟨iv0, ih0⟩ : ∃ i, g0 * i = 1 := ⟨g0⁻¹, Rat.mul_inv_cancel _ iw0⟩
 have nx1 := u1
 have iw1 : g1 ≠ 0 := fun hg => nx1 ⟨⟨(k1_11 hg), (k1_12 hg)⟩, (k1_13 hg)⟩
 obtain ⟨iv1, ih1⟩ : ∃ i, g1 * i = 1 := ⟨g1⁻¹, Rat.mul_inv_cancel _ iw1⟩
 have nx2 := u3
 have iw2 : g2 ≠ 0 := fun hg => nx2 ⟨⟨(k2_50 hg), (k2_51 hg)⟩, (k2_52 hg)⟩
 obtain ⟨iv2, ih2⟩ : ∃ i, g2 * i = 1 := ⟨g2⁻¹, Rat.mul_inv_cancel _ iw2⟩
 have nx3 : ¬ ((z152 = 0 ∧ z153 = 0) ∧ z154 = 0) := comb_ne (a1 := z8) (a2 := z9) (a3 := z10) (b1 := z19) (b2 := z20) (b3 := z21) (s := z138) (t := z148) (by rw [e24, e22, e23]) (by rw [e27, e25, e26]) (by rw [e30, e28, e29]) u2 (harm_sig (a1 := z8) (a2 := z9) (a3 := z10) (b1 := z19) (b2 := z20) (b3 := z21) (c1 := z58) (c2 := z59) (c3 := z60) (X1 := z126) (X2 := z129) (X3 := z132) (B1 := z91) (B2 := z94) (B3 := z97) (s := z138) (by rw [e24, e22, e23]) (by rw [e27, e25, e26]) (by rw [e30, e28, e29]) (by rw [e126, e124, e125]) (by rw [e129, e127, e128]) (by rw [e132, e130, e131]) (by rw [e91, e89, e90]) (by rw [e94, e92, e93]) (by rw [e97, e95, e96]) u2 u5 (by have hh := e123; (first | rw [u6] at hh | skip); rw [e121, e119, e118, e117, e120, e122] at hh; exact hh) (by rw [e138, e136, e134, e118, e133, e135, e137])) (by rw [e152, e145, e149]) (by rw [e153, e146, e150]) (by rw [e154, e147, e151])
 have iw3 : g3 ≠ 0 := fun hg => nx3 ⟨⟨(k3_152 hg), (k3_153 hg)⟩, (k3_154 hg)⟩
 obtain ⟨iv3, ih3⟩ : ∃ i, g3 * i = 1 := ⟨g3⁻¹, Rat.mul_inv_cancel _ iw3⟩
 clear k0_0 k0_1 k0_2 k1_11 k1_12 k1_13 k2_50 k2_51 k2_52 k3_152 k3_153 k3_154
 exact trip_fac nx3 iw3 e155 e156 e157
theorem projectHarmonic_f11 {z0 z1 z2 z7 z8 z9 z10 z11 z12 z13 z18 z19 z20 z21 z22 z23 z24 z25 z26 z27 z28 z29 z30 z35 z36 z37 z39 z40 z41 z42 z43 z50 z51 z52 z57 z58 z59 z60 z61 z62 z63 z64 z65 z66 z67 z68 z69 z74 z78 z79 z80 z89 z90 z91 z92 z93 z94 z95 z96 z97 z102 z117 z118 z119 z120 z121 z122 z123 z124 z125 z126 z127 z128 z129 z130 z131 z132 z133 z134 z135 z136 z137 z138 z139 z140 z141 z142 z143 z144 z145 z146 z147 z148 z149 z150 z151 z152 z153 z154 z155 z157 z167 z168 z169 z170 z171 z172 z173 z189 z190 z191 z192 z193 z194 z195 z196 z207 z208 z209 : Rat} : (z7 = 0 ↔ ((z0 = 0 ∧ z1 = 0) ∧ z2 = 0)) → z8 = z0 * fac [z0, z1, z2] → z9 = z1 * fac [z0, z1, z2] → z10 = z2 * fac [z0, z1, z2] → (z18 = 0 ↔ ((z11 = 0 ∧ z12 = 0) ∧ z13 = 0)) → z19 = z11 * fac [z11, z12, z13] → z20 = z12 * fac [z11, z12, z13] → z21 = z13 * fac [z11, z12, z13] → z22 = z9 * z21 → z23 = z10 * z20 → z24 = z22 - z23 → z25 = z10 * z19 → z26 = z8 * z21 → z27 = z25 - z26 → z28 = z8 * z20 → z29 = z9 * z19 → z30 = z28 - z29 → (z35 = 0 ↔ ((z24 = 0 ∧ z27 = 0) ∧ z30 = 0)) → z36 = z1 * z11 → z37 = z0 * z12 → z39 = z2 * z11 → z40 = z0 * z13 → z41 = z39 - z40 → z42 = z2 * z12 → z43 = z1 * z13 → (z57 = 0 ↔ ((z50 = 0 ∧ z51 = 0) ∧ z52 = 0)) → z58 = z50 * fac [z50, z51, z52] → z59 = z51 * fac [z50, z51, z52] → z60 = z52 * fac [z50, z51, z52] → z61 = z9 * z60 → z62 = z10 * z59 → z63 = z61 - z62 → z64 = z10 * z58 → z65 = z8 * z60 → z66 = z64 - z65 → z67 = z8 * z59 → z68 = z9 * z58 → z69 = z67 - z68 → (z74 = 0 ↔ ((z63 = 0 ∧ z66 = 0) ∧ z69 = 0)) → z78 = z2 * z50 → z79 = z0 * z52 → z80 = z78 - z79 → z89 = z20 * z60 → z90 = z21 * z59 → z91 = z89 - z90 → z92 = z21 * z58 → z93 = z19 * z60 → z94 = z92 - z93 → z95 = z19 * z59 → z96 = z20 * z58 → z97 = z95 - z96 → (z102 = 0 ↔ ((z91 = 0 ∧ z94 = 0) ∧ z97 = 0)) → z117 = z58 * z24 → z118 = 0 → z119 = z118 + z117 → z120 = z59 * z27 → z121 = z119 + z120 → z122 = z60 * z30 → z123 = z121 + z122 → z124 = z59 * z21 → z125 = z60 * z20 → z126 = z124 - z125 → z127 = z60 * z19 → z128 = z58 * z21 → z129 = z127 - z128 → z130 = z58 * z20 → z131 = z59 * z19 → z132 = z130 - z131 → z133 = z126 * z24 → z134 = z118 + z133 → z135 = z129 * z27 → z136 = z134 + z135 → z137 = z132 * z30 → z138 = z136 + z137 → z139 = z63 * z24 → z140 = z118 + z139 → z141 = z66 * z27 → z142 = z140 + z141 → z143 = z69 * z30 → z144 = z142 + z143 → z145 = z8 * z138 → z146 = z9 * z138 → z147 = z10 * z138 → z148 = -z144 → z149 = z19 * z148 → z150 = z20 * z148 → z151 = z21 * z148 → z152 = z145 + z149 → z153 = z146 + z150 → z154 = z147 + z151 → z155 = z152 * fac [z152, z153, z154] → z157 = z154 * fac [z152, z153, z154] → z167 = z37 - z36 → z168 = z43 - z42 → z169 = z52 * z11 → z170 = z50 * z13 → z171 = z169 - z170 → z172 = z171 / z41 → z173 = z80 / z41 → z189 = z157 * z11 → z190 = z155 * z13 → z191 = z189 - z190 → z192 = z191 / z41 → z193 = z2 * z155 → z194 = z0 * z157 → z195 = z193 - z194 → z196 = z195 / z41 → z207 = z173 * z192 → z208 = z172 * z196 → z209 = z207 + z208 → (¬ (z7 = 0)) → (¬ (z18 = 0)) → (¬ (z35 = 0)) → (¬ (z57 = 0)) → (¬ (z74 = 0)) → (¬ (z102 = 0)) → (z123 = 0) → (z167 = 0) → (z168 = 0) → z209 = 0 := by
 intro e7 e8 e9 e10 e18 e19 e20 e21 e22 e23 e24 e25 e26 e27 e28 e29 e30 e35 e36 e37 e39 e40 e41 e42 e43 e57 e58 e59 e60 e61 e62 e63 e64 e65 e66 e67 e68 e69 e74 e78 e79 e80 e89 e90 e91 e92 e93 e94 e95 e96 e97 e102 e117 e118 e119 e120 e121 e122 e123 e124 e125 e126 e127 e128 e129 e130 e131 e132 e133 e134 e135 e136 e137 e138 e139 e140 e141 e142 e143 e144 e145 e146 e147 e148 e149 e150 e151 e152 e153 e154 e155 e157 e167 e168 e169 e170 e171 e172 e173 e189 e190 e191 e192 e193 e194 e195 e196 e207 e208 e209 u0 u1 u2 u3 u4 u5 u6 u7 u8
 rw [e7] at u0
 rw [e18] at u1
 rw [e35] at u2
 rw [e57] at u3
 rw [e74] at u4
 rw [e102] at u5
 clear  e7 e18 e35 e57 e74 e102
 have k0_0 : fac [z0, z1, z2] = 0 → z0 = 0 := fac_zero (by simp)
 have k0_1 : fac [z0, z1, z2] = 0 → z1 = 0 := fac_zero (by simp)
 have k0_2 : fac [z0, z1, z2] = 0 → z2 = 0 := fac_zero (by simp)
 generalize fac [z0, z1, z2] = g0 at *
 have k1_11 : fac [z11, z12, z13] = 0 → z11 = 0 := fac_zero (by simp)
 have k1_12 : fac [z11, z12, z13] = 0 → z12 = 0 := fac_zero (by simp)
 have k1_13 : fac [z11, z12, z13] = 0 → z13 = 0 := fac_zero (by simp)
 generalize fac [z11, z12, z13] = g1 at *
 have k2_50 : fac [z50, z51, z52] = 0 → z50 = 0 := fac_zero (by simp)
 have k2_51 : fac [z50, z51, z52] = 0 → z51 = 0 := fac_zero (by simp)
 have k2_52 : fac [z50, z51, z52] = 0 → z52 = 0 := fac_zero (by simp)
 generalize fac [z50, z51, z52] = g2 at *
 have k3_152 : fac [z152, z153, z154] = 0 → z152 = 0 := fac_zero (by simp)
 have k3_153 : fac [z152, z153, z154] = 0 → z153 = 0 := fac_zero (by simp)
 have k3_154 : fac [z152, z153, z154] = 0 → z154 = 0 := fac_zero (by simp)
 generalize fac [z152, z153, z154] = g3 at *
 have nx0 := u0
 have iw0 : g0 ≠ 0 := fun hg => nx0 ⟨⟨(k0_0 hg), (k0_1 hg)⟩, (k0_2 hg)⟩
 obtain ⟨iv0, ih0⟩ : ∃ i, g0 * i = 1 := ⟨g0⁻¹, Rat.mul_inv_cancel _ iw0⟩
 have nx1 := u1
 have iw1 : g1 ≠ 0 := fun hg => nx1 ⟨⟨(k1_11 hg), (k1_12 hg)⟩, (k1_13 hg)⟩
 obtain ⟨iv1, ih1⟩ : ∃ i, g1 * i = 1 := ⟨g1⁻¹, Rat.mul_inv_cancel _ iw1⟩
 have nx2 := u3
 have iw2 : g2 ≠ 0 := fun hg => nx2 ⟨⟨(k2_50 hg), (k2_51 hg)⟩, (k2_52 hg)⟩
 obtain ⟨iv2, ih2⟩ : ∃ i, g2 * i = 1 := ⟨g2⁻¹, Rat.mul_inv_cancel _ iw2⟩
 have nx3 : ¬ ((z152 = 0 ∧ z153 = 0) ∧ z154 = 0) := comb_ne (a1 := z8) (a2 := z9) (a3 := z10) (b1 := z19) (b2 := z20) (b3 := z21) (s := z138) (t := z148) (by rw [e24, e22, e23]) (by rw [e27, e25, e26]) (by rw [e30, e28, e29]) u2 (harm_sig (a1 := z8) (a2 := z9) (a3 := z10) (b1 := z19) (b2 := z20) (b3 := z21) (c1 := z58) (c2 := z59) (c3 := z60) (X1 := z126) (X2 := z129) (X3 := z132) (B1 := z91) (B2 := z94) (B3 := z97) (s := z138) (by rw [e24, e22, e23]) (by rw [e27, e25, e26]) (by rw [e30, e28, e29]) (by rw [e126, e124, e125]) (by rw [e129, e127, e128]) (by rw [e132, e130, e131]) (by rw [e91, e89, e90]) (by rw [e94, e92, e93]) (by rw [e97, e95, e96]) u2 u5 (by have hh := e123; (first | rw [u6] at hh | skip); rw [e121, e119, e118, e117, e120, e122] at hh; exact hh) (by rw [e138, e136, e134, e118, e133, e135, e137])) (by rw [e152, e145, e149]) (by rw [e153, e146, e150]) (by rw [e154, e147, e151])
 have iw3 : g3 ≠ 0 := fun hg => nx3 ⟨⟨(k3_152 hg), (k3_153 hg)⟩, (k3_154 hg)⟩
 obtain ⟨iv3, ih3⟩ : ∃ i, g3 * i = 1 := ⟨g3⁻¹, Rat.mul_inv_cancel _ iw3⟩
 clear k0_0 k0_1 k0_2 k1_11 k1_12 k1_13 k2_50 k2_51 k2_52 k3_152 k3_153 k3_154
 have n41 : z41 ≠ 0 := by
  intro hh
  have cz := cross_nz e8 e9 e10 e19 e20 e21 (by rw [e24, e22, e23]) (by rw [e27, e25, e26]) (by rw [e30, e28, e29]) u2
  grind
 have w41 : z41 ≠ 0 := n41
 have h172 : z172 * z41 = z171 := by rw [e172]; exact Rat.div_mul_cancel n41
 obtain ⟨m172, hm172⟩ : ∃ m, m = z171 := ⟨_, rfl⟩
 have d172 : z172 * z41 = m172 := by
  have q : z172 * z41 = z172 * z41 := by grind
  rw [q, h172, hm172]
 clear h172 e172
 have h173 : z173 * z41 = z80 := by rw [e173]; exact Rat.div_mul_cancel n41
 obtain ⟨m173, hm173⟩ : ∃ m, m = z80 := ⟨_, rfl⟩
 have d173 : z173 * z41 = m173 := by
  have q : z173 * z41 = z173 * z41 := by grind
  rw [q, h173, hm173]
 clear h173 e173
 have h192 : z192 * z41 = z191 := by rw [e192]; exact Rat.div_mul_cancel n41
 obtain ⟨m192, hm192⟩ : ∃ m, m = z191 := ⟨_, rfl⟩
 have d192 : z192 * z41 = m192 := by
  have q : z192 * z41 = z192 * z41 := by grind
  rw [q, h192, hm192]
 clear h192 e192
 have h196 : z196 * z41 = z195 := by rw [e196]; exact Rat.div_mul_cancel n41
 obtain ⟨m196, hm196⟩ : ∃ m, m = z195 := ⟨_, rfl⟩
 have d196 : z196 * z41 = m196 := by
  have q : z196 * z41 = z196 * z41 := by grind
  rw [q, h196, hm196]
 clear h196 e196
 obtain ⟨m207, hm207⟩ : ∃ m, m = m173 * m192 := ⟨_, rfl⟩
 have d207 : z207 * (z41 * z41) = m207 := by
  have q : z207 * (z41 * z41) = (z173 * z41) * (z192 * z41) := by rw [e207]; grind
  rw [q, d173, d192, hm207]
 clear e207
 obtain ⟨m208, hm208⟩ : ∃ m, m = m172 * m196 := ⟨_, rfl⟩
 have d208 : z208 * (z41 * z41) = m208 := by
  have q : z208 * (z41 * z41) = (z172 * z41) * (z196 * z41) := by rw [e208]; grind
  rw [q, d172, d196, hm208]
 clear e208
 obtain ⟨m209, hm209⟩ : ∃ m, m = m207 * 1 + m208 * 1 := ⟨_, rfl⟩
 have d209 : z209 * (z41 * z41) = m209 := by
  have q : z209 * (z41 * z41) = (z207 * (z41 * z41)) * 1 + (z208 * (z41 * z41)) * 1 := by rw [e209]; grind
  rw [q, d207, d208, hm209]
 clear e209
 have hpoly : m209 = 0 := by
  clear d172 d173 d192 d196 d207 d208 d209
  subst_vars; grind
 have hgoal : z209 = 0 := (Rat.mul_eq_zero.1 (d209.trans hpoly)).resolve_right (mul_ne w41 w41)
 exact hgoal
theorem projectHarmonic_f12 {z0 z1 z2 z7 z8 z9 z10 z11 z12 z13 z18 z19 z20 z21 z22 z23 z24 z25 z26 z27 z28 z29 z30 z35 z36 z37 z42 z43 z50 z51 z52 z57 z58 z59 z60 z61 z62 z63 z64 z65 z66 z67 z68 z69 z74 z81 z82 z89 z90 z91 z92 z93 z94 z95 z96 z97 z102 z117 z118 z119 z120 z121 z122 z123 z124 z125 z126 z127 z128 z129 z130 z131 z132 z133 z134 z135 z136 z137 z138 z139 z140 z141 z142 z143 z144 z145 z146 z147 z148 z149 z150 z151 z152 z153 z154 z156 z157 z167 z168 z210 z211 z212 z213 z214 z215 z216 z217 z218 z219 z220 z221 z222 z223 z224 z225 z226 : Rat} : (z7 = 0 ↔ ((z0 = 0 ∧ z1 = 0) ∧ z2 = 0)) → z8 = z0 * fac [z0, z1, z2] → z9 = z1 * fac [z0, z1, z2] → z10 = z2 * fac [z0, z1, z2] → (z18 = 0 ↔ ((z11 = 0 ∧ z12 = 0) ∧ z13 = 0)) → z19 = z11 * fac [z11, z12, z13] → z20 = z12 * fac [z11, z12, z13] → z21 = z13 * fac [z11, z12, z13] → z22 = z9 * z21 → z23 = z10 * z20 → z24 = z22 - z23 → z25 = z10 * z19 → z26 = z8 * z21 → z27 = z25 - z26 → z28 = z8 * z20 → z29 = z9 * z19 → z30 = z28 - z29 → (z35 = 0 ↔ ((z24 = 0 ∧ z27 = 0) ∧ z30 = 0)) → z36 = z1 * z11 → z37 = z0 * z12 → z42 = z2 * z12 → z43 = z1 * z13 → (z57 = 0 ↔ ((z50 = 0 ∧ z51 = 0) ∧ z52 = 0)) → z58 = z50 * fac [z50, z51, z52] → z59 = z51 * fac [z50, z51, z52] → z60 = z52 * fac [z50, z51, z52] → z61 = z9 * z60 → z62 = z10 * z59 → z63 = z61 - z62 → z64 = z10 * z58 → z65 = z8 * z60 → z66 = z64 - z65 → z67 = z8 * z59 → z68 = z9 * z58 → z69 = z67 - z68 → (z74 = 0 ↔ ((z63 = 0 ∧ z66 = 0) ∧ z69 = 0)) → z81 = z2 * z51 → z82 = z1 * z52 → z89 = z20 * z60 → z90 = z21 * z59 → z91 = z89 - z90 → z92 = z21 * z58 → z93 = z19 * z60 → z94 = z92 - z93 → z95 = z19 * z59 → z96 = z20 * z58 → z97 = z95 - z96 → (z102 = 0 ↔ ((z91 = 0 ∧ z94 = 0) ∧ z97 = 0)) → z117 = z58 * z24 → z118 = 0 → z119 = z118 + z117 → z120 = z59 * z27 → z121 = z119 + z120 → z122 = z60 * z30 → z123 = z121 + z122 → z124 = z59 * z21 → z125 = z60 * z20 → z126 = z124 - z125 → z127 = z60 * z19 → z128 = z58 * z21 → z129 = z127 - z128 → z130 = z58 * z20 → z131 = z59 * z19 → z132 = z130 - z131 → z133 = z126 * z24 → z134 = z118 + z133 → z135 = z129 * z27 → z136 = z134 + z135 → z137 = z132 * z30 → z138 = z136 + z137 → z139 = z63 * z24 → z140 = z118 + z139 → z141 = z66 * z27 → z142 = z140 + z141 → z143 = z69 * z30 → z144 = z142 + z143 → z145 = z8 * z138 → z146 = z9 * z138 → z147 = z10 * z138 → z148 = -z144 → z149 = z19 * z148 → z150 = z20 * z148 → z151 = z21 * z148 → z152 = z145 + z149 → z153 = z146 + z150 → z154 = z147 + z151 → z156 = z153 * fac [z152, z153, z154] → z157 = z154 * fac [z152, z153, z154] → z167 = z37 - z36 → z168 = z43 - z42 → z210 = z51 * z13 → z211 = z52 * z12 → z212 = z210 - z211 → z213 = z212 / z168 → z214 = z82 - z81 → z215 = z214 / z168 → z216 = z156 * z13 → z217 = z157 * z12 → z218 = z216 - z217 → z219 = z218 / z168 → z220 = z1 * z157 → z221 = z2 * z156 → z222 = z220 - z221 → z223 = z222 / z168 → z224 = z215 * z219 → z225 = z213 * z223 → z226 = z224 + z225 → (¬ (z7 = 0)) → (¬ (z18 = 0)) → (¬ (z35 = 0)) → (¬ (z57 = 0)) → (¬ (z74 = 0)) → (¬ (z102 = 0)) → (z123 = 0) → (z167 = 0) → (¬ (z168 = 0)) → z226 = 0 := by
 intro e7 e8 e9 e10 e18 e19 e20 e21 e22 e23 e24 e25 e26 e27 e28 e29 e30 e35 e36 e37 e42 e43 e57 e58 e59 e60 e61 e62 e63 e64 e65 e66 e67 e68 e69 e74 e81 e82 e89 e90 e91 e92 e93 e94 e95 e96 e97 e102 e117 e118 e119 e120 e121 e122 e123 e124 e125 e126 e127 e128 e129 e130 e131 e132 e133 e134 e135 e136 e137 e138 e139 e140 e141 e142 e143 e144 e145 e146 e147 e148 e149 e150 e151 e152 e153 e154 e156 e157 e167 e168 e210 e211 e212 e213 e214 e215 e216 e217 e218 e219 e220 e221 e222 e223 e224 e225 e226 u0 u1 u2 u3 u4 u5 u6 u7 u8
 rw [e7] at u0
 rw [e18] at u1
 rw [e35] at u2
 rw [e57] at u3
 rw [e74] at u4
 rw [e102] at u5
 clear  e7 e18 e35 e57 e74 e102
 have k0_0 : fac [z0, z1, z2] = 0 → z0 = 0 := fac_zero (by simp)
 have k0_1 : fac [z0, z1, z2] = 0 → z1 = 0 := fac_zero (by simp)
 have k0_2 : fac [z0, z1, z2] = 0 → z2 = 0 := fac_zero (by simp)
 generalize fac [z0, z1, z2] = g0 at *
 have k1_11 : fac [z11, z12, z13] = 0 → z11 = 0 := fac_zero (by simp)
 have k1_12 : fac [z11, z12, z13] = 0 → z12 = 0 := fac_zero (by simp)
 have k1_13 : fac [z11, z12, z13] = 0 → z13 = 0 := fac_zero (by simp)
 generalize fac [z11, z12, z13] = g1 at *
 have k2_50 : fac [z50, z51, z52] = 0 → z50 = 0 := fac_zero (by simp)
 have k2_51 : fac [z50, z51, z52] = 0 → z51 = 0 := fac_zero (by simp)
 have k2_52 : fac [z50, z51, z52] = 0 → z52 = 0 := fac_zero (by simp)
 generalize fac [z50, z51, z52] = g2 at *
 have k3_152 : fac [z152, z153, z154] = 0 → z152 = 0 := fac_zero (by simp)
 have k3_153 : fac [z152, z153, z154] = 0 → z153 = 0 := fac_zero (by simp)
 have k3_154 : fac [z152, z153, z154] = 0 → z154 = 0 := fac_zero (by simp)
 generalize fac [z152, z153, z154] = g3 at *
 have nx0 := u0
 have iw0 : g0 ≠ 0 := fun hg => nx0 ⟨⟨(k0_0 hg), (k0_1 hg)⟩, (k0_2 hg)⟩
 obtain ⟨iv0, ih0⟩ : ∃ i, g0 * i = 1 := ⟨g0⁻¹, Rat.mul_inv_cancel _ iw0⟩
 have nx1 := u1
 have iw1 : g1 ≠ 0 := fun hg => nx1 ⟨⟨(k1_11 hg), (k1_12 hg)⟩, (k1_13 hg)⟩
 obtain ⟨iv1, ih1⟩ : ∃ i, g1 * i = 1 := ⟨g1⁻¹, Rat.mul_inv_cancel _ iw1⟩
 have nx2 := u3
 have iw2 : g2 ≠ 0 := fun hg => nx2 ⟨⟨(k2_50 hg), (k2_51 hg)⟩, (k2_52 hg)⟩
 obtain ⟨iv2, ih2⟩ : ∃ i, g2 * i = 1 := ⟨g2⁻¹, Rat.mul_inv_cancel _ iw2⟩
 have nx3 : ¬ ((z152 = 0 ∧ z153 = 0) ∧ z154 = 0) := comb_ne (a1 := z8) (a2 := z9) (a3 := z10) (b1 := z19) (b2 := z20) (b3 := z21) (s := z138) (t := z148) (by rw [e24, e22, e23]) (by rw [e27, e25, e26]) (by rw [e30, e28, e29]) u2 (harm_sig (a1 := z8) (a2 := z9) (a3 := z10) (b1 := z19) (b2 := z20) (b3 := z21) (c1 := z58) (c2 := z59) (c3 := z60) (X1 := z126) (X2 := z129) (X3 := z132) (B1 := z91) (B2 := z94) (B3 := z97) (s := z138) (by rw [e24, e22, e23]) (by rw [e27, e25, e26]) (by rw [e30, e28, e29]) (by rw [e126, e124, e125]) (by rw [e129, e127, e128]) (by rw [e132, e130, e131]) (by rw [e91, e89, e90]) (by rw [e94, e92, e93]) (by rw [e97, e95, e96]) u2 u5 (by have hh := e123; (first | rw [u6] at hh | skip); rw [e121, e119, e118, e117, e120, e122] at hh; exact hh) (by rw [e138, e136, e134, e118, e133, e135, e137])) (by rw [e152, e145, e149]) (by rw [e153, e146, e150]) (by rw [e154, e147, e151])
 have iw3 : g3 ≠ 0 := fun hg => nx3 ⟨⟨(k3_152 hg), (k3_153 hg)⟩, (k3_154 hg)⟩
 obtain ⟨iv3, ih3⟩ : ∃ i, g3 * i = 1 := ⟨g3⁻¹, Rat.mul_inv_cancel _ iw3⟩
 clear k0_0 k0_1 k0_2 k1_11 k1_12 k1_13 k2_50 k2_51 k2_52 k3_152 k3_153 k3_154
 have w168 : z168 ≠ 0 := by first | assumption | grind
 have n168 : z168 ≠ 0 := w168
 have h213 : z213 * z168 = z212 := by rw [e213]; exact Rat.div_mul_cancel n168
 obtain ⟨m213, hm213⟩ : ∃ m, m = z212 := ⟨_, rfl⟩
 have d213 : z213 * z168 = m213 := by
  have q : z213 * z168 = z213 * z168 := by grind
  rw [q, h213, hm213]
 clear h213 e213
 have h215 : z215 * z168 = z214 := by rw [e215]; exact Rat.div_mul_cancel n168
 obtain ⟨m215, hm215⟩ : ∃ m, m = z214 := ⟨_, rfl⟩
 have d215 : z215 * z168 = m215 := by
  have q : z215 * z168 = z215 * z168 := by grind
  rw [q, h215, hm215]
 clear h215 e215
 have h219 : z219 * z168 = z218 := by rw [e219]; exact Rat.div_mul_cancel n168
 obtain ⟨m219, hm219⟩ : ∃ m, m = z218 := ⟨_, rfl⟩
 have d219 : z219 * z168 = m219 := by
  have q : z219 * z168 = z219 * z168 := by grind
  rw [q, h219, hm219]
 clear h219 e219
 have h223 : z223 * z168 = z222 := by rw [e223]; exact Rat.div_mul_cancel n168
 obtain ⟨m223, hm223⟩ : ∃ m, m = z222 := ⟨_, rfl⟩
 have d223 : z223 * z168 = m223 := by
  have q : z223 * z168 = z223 * z168 := by grind
  rw [q, h223, hm223]
 clear h223 e223
 obtain ⟨m224, hm224⟩ : ∃ m, m = m215 * m219 := ⟨_, rfl⟩
 have d224 : z224 * (z168 * z168) = m224 := by
  have q : z224 * (z168 * z168) = (z215 * z168) * (z219 * z168) := by rw [e224]; grind
  rw [q, d215, d219, hm224]
 clear e224
 obtain ⟨m225, hm225⟩ : ∃ m, m = m213 * m223 := ⟨_, rfl⟩
 have d225 : z225 * (z168 * z168) = m225 := by
  have q : z225 * (z168 * z168) = (z213 * z168) * (z223 * z168) := by rw [e225]; grind
  rw [q, d213, d223, hm225]
 clear e225
 obtain ⟨m226, hm226⟩ : ∃ m, m = m224 * 1 + m225 * 1 := ⟨_, rfl⟩
 have d226 : z226 * (z168 * z168) = m226 := by
  have q : z226 * (z168 * z168) = (z224 * (z168 * z168)) * 1 + (z225 * (z168 * z168)) * 1 := by rw [e226]; grind
  rw [q, d224, d225, hm226]
 clear e226
 have hpoly : m226 = 0 := by
  clear d213 d215 d219 d223 d224 d225 d226
  subst_vars; grind
 have hgoal : z226 = 0 := (Rat.mul_eq_zero.1 (d226.trans hpoly)).resolve_right (mul_ne w168 w168)
 exact hgoal
theorem projectHarmonic_f13 {z0 z1 z2 z7 z8 z9 z10 z11 z12 z13 z18 z19 z20 z21 z22 z23 z24 z25 z26 z27 z28 z29 z30 z35 z36 z37 z50 z51 z52 z57 z58 z59 z60 z61 z62 z63 z64 z65 z66 z67 z68 z69 z74 z75 z76 z89 z90 z91 z92 z93 z94 z95 z96 z97 z102 z117 z118 z119 z120 z121 z122 z123 z124 z125 z126 z127 z128 z129 z130 z131 z132 z133 z134 z135 z136 z137 z138 z139 z140 z141 z142 z143 z144 z145 z146 z147 z148 z149 z150 z151 z152 z153 z154 z155 z156 z167 z227 z228 z229 z230 z231 z232 z233 z234 z235 z236 z237 z238 z239 z240 z241 z242 z243 : Rat} : (z7 = 0 ↔ ((z0 = 0 ∧ z1 = 0) ∧ z2 = 0)) → z8 = z0 * fac [z0, z1, z2] → z9 = z1 * fac [z0, z1, z2] → z10 = z2 * fac [z0, z1, z2] → (z18 = 0 ↔ ((z11 = 0 ∧ z12 = 0) ∧ z13 = 0)) → z19 = z11 * fac [z11, z12, z13] → z20 = z12 * fac [z11, z12, z13] → z21 = z13 * fac [z11, z12, z13] → z22 = z9 * z21 → z23 = z10 * z20 → z24 = z22 - z23 → z25 = z10 * z19 → z26 = z8 * z21 → z27 = z25 - z26 → z28 = z8 * z20 → z29 = z9 * z19 → z30 = z28 - z29 → (z35 = 0 ↔ ((z24 = 0 ∧ z27 = 0) ∧ z30 = 0)) → z36 = z1 * z11 → z37 = z0 * z12 → (z57 = 0 ↔ ((z50 = 0 ∧ z51 = 0) ∧ z52 = 0)) → z58 = z50 * fac [z50, z51, z52] → z59 = z51 * fac [z50, z51, z52] → z60 = z52 * fac [z50, z51, z52] → z61 = z9 * z60 → z62 = z10 * z59 → z63 = z61 - z62 → z64 = z10 * z58 → z65 = z8 * z60 → z66 = z64 - z65 → z67 = z8 * z59 → z68 = z9 * z58 → z69 = z67 - z68 → (z74 = 0 ↔ ((z63 = 0 ∧ z66 = 0) ∧ z69 = 0)) → z75 = z1 * z50 → z76 = z0 * z51 → z89 = z20 * z60 → z90 = z21 * z59 → z91 = z89 - z90 → z92 = z21 * z58 → z93 = z19 * z60 → z94 = z92 - z93 → z95 = z19 * z59 → z96 = z20 * z58 → z97 = z95 - z96 → (z102 = 0 ↔ ((z91 = 0 ∧ z94 = 0) ∧ z97 = 0)) → z117 = z58 * z24 → z118 = 0 → z119 = z118 + z117 → z120 = z59 * z27 → z121 = z119 + z120 → z122 = z60 * z30 → z123 = z121 + z122 → z124 = z59 * z21 → z125 = z60 * z20 → z126 = z124 - z125 → z127 = z60 * z19 → z128 = z58 * z21 → z129 = z127 - z128 → z130 = z58 * z20 → z131 = z59 * z19 → z132 = z130 - z131 → z133 = z126 * z24 → z134 = z118 + z133 → z135 = z129 * z27 → z136 = z134 + z135 → z137 = z132 * z30 → z138 = z136 + z137 → z139 = z63 * z24 → z140 = z118 + z139 → z141 = z66 * z27 → z142 = z140 + z141 → z143 = z69 * z30 → z144 = z142 + z143 → z145 = z8 * z138 → z146 = z9 * z138 → z147 = z10 * z138 → z148 = -z144 → z149 = z19 * z148 → z150 = z20 * z148 → z151 = z21 * z148 → z152 = z145 + z149 → z153 = z146 + z150 → z154 = z147 + z151 → z155 = z152 * fac [z152, z153, z154] → z156 = z153 * fac [z152, z153, z154] → z167 = z37 - z36 → z227 = z50 * z12 → z228 = z51 * z11 → z229 = z227 - z228 → z230 = z229 / z167 → z231 = z76 - z75 → z232 = z231 / z167 → z233 = z155 * z12 → z234 = z156 * z11 → z235 = z233 - z234 → z236 = z235 / z167 → z237 = z0 * z156 → z238 = z1 * z155 → z239 = z237 - z238 → z240 = z239 / z167 → z241 = z232 * z236 → z242 = z230 * z240 → z243 = z241 + z242 → (¬ (z7 = 0)) → (¬ (z18 = 0)) → (¬ (z35 = 0)) → (¬ (z57 = 0)) → (¬ (z74 = 0)) → (¬ (z102 = 0)) → (z123 = 0) → (¬ (z167 = 0)) → z243 = 0 := by
 intro e7 e8 e9 e10 e18 e19 e20 e21 e22 e23 e24 e25 e26 e27 e28 e29 e30 e35 e36 e37 e57 e58 e59 e60 e61 e62 e63 e64 e65 e66 e67 e68 e69 e74 e75 e76 e89 e90 e91 e92 e93 e94 e95 e96 e97 e102 e117 e118 e119 e120 e121 e122 e123 e124 e125 e126 e127 e128 e129 e130 e131 e132 e133 e134 e135 e136 e137 e138 e139 e140 e141 e142 e143 e144 e145 e146 e147 e148 e149 e150 e151 e152 e153 e154 e155 e156 e167 e227 e228 e229 e230 e231 e232 e233 e234 e235 e236 e237 e238 e239 e240 e241 e242 e243 u0 u1 u2 u3 u4 u5 u6 u7
 rw [e7] at u0
 rw [e18] at u1
 rw [e35] at u2
 rw [e57] at u3
 rw [e74] at u4
 rw [e102] at u5
 clear  e7 e18 e35 e57 e74 e102
 have k0_0 : fac [z0, z1, z2] = 0 → z0 = 0 := fac_zero (by simp)
 have k0_1 : fac [z0, z1, z2] = 0 → z1 = 0 := fac_zero (by simp)
 have k0_2 : fac [z0, z1, z2] = 0 → z2 = 0 := fac_zero (by simp)
 generalize fac [z0, z1, z2] = g0 at *
 have k1_11 : fac [z11, z12, z13] = 0 → z11 = 0 := fac_zero (by simp)
 have k1_12 : fac [z11, z12, z13] = 0 → z12 = 0 := fac_zero (by simp)
 have k1_13 : fac [z11, z12, z13] = 0 → z13 = 0 := fac_zero (by simp)
 generalize fac [z11, z12, z13] = g1 at *
 have k2_50 : fac [z50, z51, z52] = 0 → z50 = 0 := fac_zero (by simp)
 have k2_51 : fac [z50, z51, z52] = 0 → z51 = 0 := fac_zero (by simp)
 have k2_52 : fac [z50, z51, z52] = 0 → z52 = 0 := fac_zero (by simp)
 generalize fac [z50, z51, z52] = g2 at *
 have k3_152 : fac [z152, z153, z154] = 0 → z152 = 0 := fac_zero (by simp)
 have k3_153 : fac [z152, z153, z154] = 0 → z153 = 0 := fac_zero (by simp)
 have k3_154 : fac [z152, z153, z154] = 0 → z154 = 0 := fac_zero (by simp)
 generalize fac [z152, z153, z154] = g3 at *
 have nx0 := u0
 have iw0 : g0 ≠ 0 := fun hg => nx0 ⟨⟨(k0_0 hg), (k0_1 hg)⟩, (k0_2 hg)⟩
 obtain ⟨iv0, ih0⟩ : ∃ i, g0 * i = 1 := ⟨g0⁻¹, Rat.mul_inv_cancel _ iw0⟩
 have nx1 := u1
 have iw1 : g1 ≠ 0 := fun hg => nx1 ⟨⟨(k1_11 hg), (k1_12 hg)⟩, (k1_13 hg)⟩
 obtain ⟨iv1, ih1⟩ : ∃ i, g1 * i = 1 := ⟨g1⁻¹, Rat.mul_inv_cancel _ iw1⟩
 have nx2 := u3
 have iw2 : g2 ≠ 0 := fun hg => nx2 ⟨⟨(k2_50 hg), (k2_51 hg)⟩, (k2_52 hg)⟩
 obtain ⟨iv2, ih2⟩ : ∃ i, g2 * i = 1 := ⟨g2⁻¹, Rat.mul_inv_cancel _ iw2⟩
 have nx3 : ¬ ((z152 = 0 ∧ z153 = 0) ∧ z154 = 0) := comb_ne (a1 := z8) (a2 := z9) (a3 := z10) (b1 := z19) (b2 := z20) (b3 := z21) (s := z138) (t := z148) (by rw [e24, e22, e23]) (by rw [e27, e25, e26]) (by rw [e30, e28, e29]) u2 (harm_sig (a1 := z8) (a2 := z9) (a3 := z10) (b1 := z19) (b2 := z20) (b3 := z21) (c1 := z58) (c2 := z59) (c3 := z60) (X1 := z126) (X2 := z129) (X3 := z132) (B1 := z91) (B2 := z94) (B3 := z97) (s := z138) (by rw [e24, e22, e23]) (by rw [e27, e25, e26]) (by rw [e30, e28, e29]) (by rw [e126, e124, e125]) (by rw [e129, e127, e128]) (by rw [e132, e130, e131]) (by rw [e91, e89, e90]) (by rw [e94, e92, e93]) (by rw [e97, e95, e96]) u2 u5 (by have hh := e123; (first | rw [u6] at hh | skip); rw [e121, e119, e118, e117, e120, e122] at hh; exact hh) (by rw [e138, e136, e134, e118, e133, e135, e137])) (by rw [e152, e145, e149]) (by rw [e153, e146, e150]) (by rw [e154, e147, e151])
 have iw3 : g3 ≠ 0 := fun hg => nx3 ⟨⟨(k3_152 hg), (k3_153 hg)⟩, (k3_154 hg)⟩
 obtain ⟨iv3, ih3⟩ : ∃ i, g3 * i = 1 := ⟨g3⁻¹, Rat.mul_inv_cancel _ iw3⟩
 clear k0_0 k0_1 k0_2 k1_11 k1_12 k1_13 k2_50 k2_51 k2_52 k3_152 k3_153 k3_154
 have w167 : z167 ≠ 0 := by first | assumption | grind
 have n167 : z167 ≠ 0 := w167
 have h230 : z230 * z167 = z229 := by rw [e230]; exact Rat.div_mul_cancel n167
 obtain ⟨m230, hm230⟩ : ∃ m, m = z229 := ⟨_, rfl⟩
 have d230 : z230 * z167 = m230 := by
  have q : z230 * z167 = z230 * z167 := by grind
  rw [q, h230, hm230]
 clear h230 e230
 have h232 : z232 * z167 = z231 := by rw [e232]; exact Rat.div_mul_cancel n167
 obtain ⟨m232, hm232⟩ : ∃ m, m = z231 := ⟨_, rfl⟩
 have d232 : z232 * z167 = m232 := by
  have q : z232 * z167 = z232 * z167 := by grind
  rw [q, h232, hm232]
 clear h232 e232
 have h236 : z236 * z167 = z235 := by rw [e236]; exact Rat.div_mul_cancel n167
 obtain ⟨m236, hm236⟩ : ∃ m, m = z235 := ⟨_, rfl⟩
 have d236 : z236 * z167 = m236 := by
  have q : z236 * z167 = z236 * z167 := by grind
  rw [q, h236, hm236]
 clear h236 e236
 have h240 : z240 * z167 = z239 := by rw [e240]; exact Rat.div_mul_cancel n167
 obtain ⟨m240, hm240⟩ : ∃ m, m = z239 := ⟨_, rfl⟩
 have d240 : z240 * z167 = m240 := by
  have q : z240 * z167 = z240 * z167 := by grind
  rw [q, h240, hm240]
 clear h240 e240
 obtain ⟨m241, hm241⟩ : ∃ m, m = m232 * m236 := ⟨_, rfl⟩
 have d241 : z241 * (z167 * z167) = m241 := by
  have q : z241 * (z167 * z167) = (z232 * z167) * (z236 * z167) := by rw [e241]; grind
  rw [q, d232, d236, hm241]
 clear e241
 obtain ⟨m242, hm242⟩ : ∃ m, m = m230 * m240 := ⟨_, rfl⟩
 have d242 : z242 * (z167 * z167) = m242 := by
  have q : z242 * (z167 * z167) = (z230 * z167) * (z240 * z167) := by rw [e242]; grind
  rw [q, d230, d240, hm242]
 clear e242
 obtain ⟨m243, hm243⟩ : ∃ m, m = m241 * 1 + m242 * 1 := ⟨_, rfl⟩
 have d243 : z243 * (z167 * z167) = m243 := by
  have q : z243 * (z167 * z167) = (z241 * (z167 * z167)) * 1 + (z242 * (z167 * z167)) * 1 := by rw [e243]; grind
  rw [q, d241, d242, hm243]
 clear e243
 have hpoly : m243 = 0 := by
  clear d230 d232 d236 d240 d241 d242 d243
  subst_vars; grind
 have hgoal : z243 = 0 := (Rat.mul_eq_zero.1 (d243.trans hpoly)).resolve_right (mul_ne w167 w167)
 exact hgoal
theorem projectHarmonic_f14 {z0 z1 z2 z7 z8 z9 z10 z11 z12 z13 z18 z19 z20 z21 z22 z23 z24 z25 z26 z27 z28 z29 z30 z50 z51 z52 z57 z58 z59 z60 z103 z104 z106 z107 z109 z110 z117 z118 z119 z120 z121 z122 z123 z158 z159 z160 z161 z162 z163 z164 z165 z166 : Rat} : (z7 = 0 ↔ ((z0 = 0 ∧ z1 = 0) ∧ z2 = 0)) → z8 = z0 * fac [z0, z1, z2] → z9 = z1 * fac [z0, z1, z2] → z10 = z2 * fac [z0, z1, z2] → (z18 = 0 ↔ ((z11 = 0 ∧ z12 = 0) ∧ z13 = 0)) → z19 = z11 * fac [z11, z12, z13] → z20 = z12 * fac [z11, z12, z13] → z21 = z13 * fac [z11, z12, z13] → z22 = z9 * z21 → z23 = z10 * z20 → z24 = z22 - z23 → z25 = z10 * z19 → z26 = z8 * z21 → z27 = z25 - z26 → z28 = z8 * z20 → z29 = z9 * z19 → z30 = z28 - z29 → (z57 = 0 ↔ ((z50 = 0 ∧ z51 = 0) ∧ z52 = 0)) → z58 = z50 * fac [z50, z51, z52] → z59 = z51 * fac [z50, z51, z52] → z60 = z52 * fac [z50, z51, z52] → z103 = z12 * z50 → z104 = z11 * z51 → z106 = z13 * z50 → z107 = z11 * z52 → z109 = z13 * z51 → z110 = z12 * z52 → z117 = z58 * z24 → z118 = 0 → z119 = z118 + z117 → z120 = z59 * z27 → z121 = z119 + z120 → z122 = z60 * z30 → z123 = z121 + z122 → z158 = z110 - z109 → z159 = z0 * z158 → z160 = z107 - z106 → z161 = z1 * z160 → z162 = -z161 → z163 = z104 - z103 → z164 = z2 * z163 → z165 = z159 + z162 → z166 = z165 + z164 → (¬ (z7 = 0)) → (¬ (z18 = 0)) → (¬ (z57 = 0)) → (¬ (z123 = 0)) → ¬ (z166 = 0) := by
 intro e7 e8 e9 e10 e18 e19 e20 e21 e22 e23 e24 e25 e26 e27 e28 e29 e30 e57 e58 e59 e60 e103 e104 e106 e107 e109 e110 e117 e118 e119 e120 e121 e122 e123 e158 e159 e160 e161 e162 e163 e164 e165 e166 u0 u1 u3 u6
 rw [e7] at u0
 rw [e18] at u1
 rw [e57] at u3
 clear  e7 e18 e57
 have k0_0 : fac [z0, z1, z2] = 0 → z0 = 0 := fac_zero (by simp)
 have k0_1 : fac [z0, z1, z2] = 0 → z1 = 0 := fac_zero (by simp)
 have k0_2 : fac [z0, z1, z2] = 0 → z2 = 0 := fac_zero (by simp)
 generalize fac [z0, z1, z2] = g0 at *
 have k1_11 : fac [z11, z12, z13] = 0 → z11 = 0 := fac_zero (by simp)
 have k1_12 : fac [z11, z12, z13] = 0 → z12 = 0 := fac_zero (by simp)
 have k1_13 : fac [z11, z12, z13] = 0 → z13 = 0 := fac_zero (by simp)
 generalize fac [z11, z12, z13] = g1 at *
 have k2_50 : fac [z50, z51, z52] = 0 → z50 = 0 := fac_zero (by simp)
 have k2_51 : fac [z50, z51, z52] = 0 → z51 = 0 := fac_zero (by simp)
 have k2_52 : fac [z50, z51, z52] = 0 → z52 = 0 := fac_zero (by simp)
 generalize fac [z50, z51, z52] = g2 at *
 have nx0 := u0
 have iw0 : g0 ≠ 0 := fun hg => nx0 ⟨⟨(k0_0 hg), (k0_1 hg)⟩, (k0_2 hg)⟩
 obtain ⟨iv0, ih0⟩ : ∃ i, g0 * i = 1 := ⟨g0⁻¹, Rat.mul_inv_cancel _ iw0⟩
 have nx1 := u1
 have iw1 : g1 ≠ 0 := fun hg => nx1 ⟨⟨(k1_11 hg), (k1_12 hg)⟩, (k1_13 hg)⟩
 obtain ⟨iv1, ih1⟩ : ∃ i, g1 * i = 1 := ⟨g1⁻¹, Rat.mul_inv_cancel _ iw1⟩
 have nx2 := u3
 have iw2 : g2 ≠ 0 := fun hg => nx2 ⟨⟨(k2_50 hg), (k2_51 hg)⟩, (k2_52 hg)⟩
 obtain ⟨iv2, ih2⟩ : ∃ i, g2 * i = 1 := ⟨g2⁻¹, Rat.mul_inv_cancel _ iw2⟩
 clear k0_0 k0_1 k0_2 k1_11 k1_12 k1_13 k2_50 k2_51 k2_52
 subst_vars; grind
theorem projectHarmonic_r0 : (callC (sx Tryz.prog projectHarmonic_N [(0, 7, 0, 1)] [(277, [])] projectHarmonic_L projectHarmonic_C projectHarmonic_Z (prC [75])) [(179, 60), (154, 61), (25, 62), (78, 63), (97, 63)] 8 [] 10 [(false, [(true, [.inr (2, 0, 0, 0, 0), .inr (2, 1, 0, 0, 0), .inr (2, 2, 0, 0, 0)])]), (false, [(true, [.inr (2, 3, 0, 0, 0), .inr (2, 4, 0, 0, 0), .inr (2, 5, 0, 0, 0)])]), (false, [(true, [.inr (2, 6, 0, 0, 0), .inr (2, 7, 0, 0, 0), .inr (2, 8, 0, 0, 0)])])] [] 0).map (·.1) = some (kB true) := by kernel_rfl
theorem projectHarmonic_r1 : (callC (sx Tryz.prog projectHarmonic_N [(0, 7, 0, 0), (0, 18, 0, 1)] [(277, [])] projectHarmonic_L projectHarmonic_C projectHarmonic_Z (prC [75])) [(179, 60), (154, 61), (25, 62), (78, 63), (97, 63)] 8 [] 10 [(false, [(true, [.inr (2, 0, 0, 0, 0), .inr (2, 1, 0, 0, 0), .inr (2, 2, 0, 0, 0)])]), (false, [(true, [.inr (2, 3, 0, 0, 0), .inr (2, 4, 0, 0, 0), .inr (2, 5, 0, 0, 0)])]), (false, [(true, [.inr (2, 6, 0, 0, 0), .inr (2, 7, 0, 0, 0), .inr (2, 8, 0, 0, 0)])])] [] 0).map (·.1) = some (kB true) := by kernel_rfl
theorem projectHarmonic_r2 : (callC (sx Tryz.prog projectHarmonic_N [(0, 7, 0, 0), (0, 18, 0, 0), (0, 35, 0, 1), (0, 49, 0, 1)] [(277, [])] projectHarmonic_L projectHarmonic_C projectHarmonic_Z (prC [75])) [(179, 60), (154, 61), (25, 62), (78, 63), (97, 63)] 8 [] 10 [(false, [(true, [.inr (2, 0, 0, 0, 0), .inr (2, 1, 0, 0, 0), .inr (2, 2, 0, 0, 0)])]), (false, [(true, [.inr (2, 3, 0, 0, 0), .inr (2, 4, 0, 0, 0), .inr (2, 5, 0, 0, 0)])]), (false, [(true, [.inr (2, 6, 0, 0, 0), .inr (2, 7, 0, 0, 0), .inr (2, 8, 0, 0, 0)])])] [] 0).map (·.1) = some (kB true) := by kernel_rfl
theorem projectHarmonic_r3 : (callC (sx Tryz.prog projectHarmonic_N [(0, 7, 0, 0), (0, 18, 0, 0), (0, 35, 0, 0), (0, 57, 0, 1), (0, 49, 0, 0)] [(277, [])] projectHarmonic_L projectHarmonic_C projectHarmonic_Z (prC [75])) [(179, 60), (154, 61), (25, 62), (78, 63), (97, 63)] 8 [] 10 [(false, [(true, [.inr (2, 0, 0, 0, 0), .inr (2, 1, 0, 0, 0), .inr (2, 2, 0, 0, 0)])]), (false, [(true, [.inr (2, 3, 0, 0, 0), .inr (2, 4, 0, 0, 0), .inr (2, 5, 0, 0, 0)])]), (false, [(true, [.inr (2, 6, 0, 0, 0), .inr (2, 7, 0, 0, 0), .inr (2, 8, 0, 0, 0)])])] [] 0).map (·.1) = some (kB true) := by kernel_rfl
theorem projectHarmonic_r4 : (callC (sx Tryz.prog projectHarmonic_N [(0, 7, 0, 0), (0, 18, 0, 0), (0, 35, 0, 0), (0, 57, 0, 0), (0, 74, 0, 1), (0, 49, 0, 0), (0, 88, 0, 1)] [(277, [])] projectHarmonic_L projectHarmonic_C projectHarmonic_Z (prC [75])) [(179, 60), (154, 61), (25, 62), (78, 63), (97, 63)] 8 [] 10 [(false, [(true, [.inr (2, 0, 0, 0, 0), .inr (2, 1, 0, 0, 0), .inr (2, 2, 0, 0, 0)])]), (false, [(true, [.inr (2, 3, 0, 0, 0), .inr (2, 4, 0, 0, 0), .inr (2, 5, 0, 0, 0)])]), (false, [(true, [.inr (2, 6, 0, 0, 0), .inr (2, 7, 0, 0, 0), .inr (2, 8, 0, 0, 0)])])] [] 0).map (·.1) = some (kB true) := by kernel_rfl
theorem projectHarmonic_r5 : (callC (sx Tryz.prog projectHarmonic_N [(0, 7, 0, 0), (0, 18, 0, 0), (0, 35, 0, 0), (0, 57, 0, 0), (0, 74, 0, 0), (0, 102, 0, 1), (0, 49, 0, 0), (0, 88, 0, 0), (0, 116, 0, 1)] [(277, [])] projectHarmonic_L projectHarmonic_C projectHarmonic_Z (prC [75])) [(179, 60), (154, 61), (25, 62), (78, 63), (97, 63)] 8 [] 10 [(false, [(true, [.inr (2, 0, 0, 0, 0), .inr (2, 1, 0, 0, 0), .inr (2, 2, 0, 0, 0)])]), (false, [(true, [.inr (2, 3, 0, 0, 0), .inr (2, 4, 0, 0, 0), .inr (2, 5, 0, 0, 0)])]), (false, [(true, [.inr (2, 6, 0, 0, 0), .inr (2, 7, 0, 0, 0), .inr (2, 8, 0, 0, 0)])])] [] 0).map (·.1) = some (kB true) := by kernel_rfl
theorem projectHarmonic_r6 : (callC (sx Tryz.prog projectHarmonic_N [(0, 7, 0, 0), (0, 18, 0, 0), (0, 35, 0, 0), (0, 57, 0, 0), (0, 74, 0, 0), (0, 102, 0, 0), (0, 123, 0, 1), (0, 49, 0, 0), (0, 88, 0, 0), (0, 116, 0, 0), (0, 166, 0, 1), (0, 167, 0, 1), (0, 168, 0, 1), (0, 41, 0, 0), (0, 188, 0, 1), (0, 201, 0, 0), (0, 206, 0, 0), (0, 209, 0, 1)] [(277, [])] projectHarmonic_L projectHarmonic_C projectHarmonic_Z (prC [75])) [(179, 60), (154, 61), (25, 62), (78, 63), (97, 63)] 8 [] 10 [(false, [(true, [.inr (2, 0, 0, 0, 0), .inr (2, 1, 0, 0, 0), .inr (2, 2, 0, 0, 0)])]), (false, [(true, [.inr (2, 3, 0, 0, 0), .inr (2, 4, 0, 0, 0), .inr (2, 5, 0, 0, 0)])]), (false, [(true, [.inr (2, 6, 0, 0, 0), .inr (2, 7, 0, 0, 0), .inr (2, 8, 0, 0, 0)])])] [] 0).map (·.1) = some (kB true) := by kernel_rfl
theorem projectHarmonic_r7 : (callC (sx Tryz.prog projectHarmonic_N [(0, 7, 0, 0), (0, 18, 0, 0), (0, 35, 0, 0), (0, 57, 0, 0), (0, 74, 0, 0), (0, 102, 0, 0), (0, 123, 0, 1), (0, 49, 0, 0), (0, 88, 0, 0), (0, 116, 0, 0), (0, 166, 0, 1), (0, 167, 0, 1), (0, 168, 0, 0), (0, 188, 0, 1), (0, 201, 0, 0), (0, 206, 0, 0), (0, 226, 0, 1)] [(277, [])] projectHarmonic_L projectHarmonic_C projectHarmonic_Z (prC [75])) [(179, 60), (154, 61), (25, 62), (78, 63), (97, 63)] 8 [] 10 [(false, [(true, [.inr (2, 0, 0, 0, 0), .inr (2, 1, 0, 0, 0), .inr (2, 2, 0, 0, 0)])]), (false, [(true, [.inr (2, 3, 0, 0, 0), .inr (2, 4, 0, 0, 0), .inr (2, 5, 0, 0, 0)])]), (false, [(true, [.inr (2, 6, 0, 0, 0), .inr (2, 7, 0, 0, 0), .inr (2, 8, 0, 0, 0)])])] [] 0).map (·.1) = some (kB true) := by kernel_rfl
theorem projectHarmonic_r8 : (callC (sx Tryz.prog projectHarmonic_N [(0, 7, 0, 0), (0, 18, 0, 0), (0, 35, 0, 0), (0, 57, 0, 0), (0, 74, 0, 0), (0, 102, 0, 0), (0, 123, 0, 1), (0, 49, 0, 0), (0, 88, 0, 0), (0, 116, 0, 0), (0, 166, 0, 1), (0, 167, 0, 0), (0, 188, 0, 1), (0, 201, 0, 0), (0, 206, 0, 0), (0, 243, 0, 1)] [(277, [])] projectHarmonic_L projectHarmonic_C projectHarmonic_Z (prC [75])) [(179, 60), (154, 61), (25, 62), (78, 63), (97, 63)] 8 [] 10 [(false, [(true, [.inr (2, 0, 0, 0, 0), .inr (2, 1, 0, 0, 0), .inr (2, 2, 0, 0, 0)])]), (false, [(true, [.inr (2, 3, 0, 0, 0), .inr (2, 4, 0, 0, 0), .inr (2, 5, 0, 0, 0)])]), (false, [(true, [.inr (2, 6, 0, 0, 0), .inr (2, 7, 0, 0, 0), .inr (2, 8, 0, 0, 0)])])] [] 0).map (·.1) = some (kB true) := by kernel_rfl
theorem projectHarmonic_r9 : (callC (sx Tryz.prog projectHarmonic_N [(0, 7, 0, 0), (0, 18, 0, 0), (0, 35, 0, 0), (0, 57, 0, 0), (0, 74, 0, 0), (0, 102, 0, 0), (0, 123, 0, 0), (0, 49, 0, 0), (0, 88, 0, 0), (0, 116, 0, 0), (0, 166, 0, 0)] [(277, [])] projectHarmonic_L projectHarmonic_C projectHarmonic_Z (prC [75])) [(179, 60), (154, 61), (25, 62), (78, 63), (97, 63)] 8 [] 10 [(false, [(true, [.inr (2, 0, 0, 0, 0), .inr (2, 1, 0, 0, 0), .inr (2, 2, 0, 0, 0)])]), (false, [(true, [.inr (2, 3, 0, 0, 0), .inr (2, 4, 0, 0, 0), .inr (2, 5, 0, 0, 0)])]), (false, [(true, [.inr (2, 6, 0, 0, 0), .inr (2, 7, 0, 0, 0), .inr (2, 8, 0, 0, 0)])])] [] 0).map (·.1) = some (kB true) := by kernel_rfl
theorem projectHarmonic_walk {w : World} {sa sb sc ta tb tc ua ub uc : ByteArray} (ssa : sa.size ≤ 1048576) (ssb : sb.size ≤ 1048576) (ssc : sc.size ≤ 1048576) (sta : ta.size ≤ 1048576) (stb : tb.size ≤ 1048576) (stc : tc.size ≤ 1048576) (sua : ua.size ≤ 1048576) (sub : ub.size ≤ 1048576) (suc : uc.size ≤ 1048576) (tab : Tab w) (mx : MaxL w) :
  Calls Tryz.prog 10 #[.agg #[.string sa, .string sb, .string sc], .agg #[.string ta, .string tb, .string tc], .agg #[.string ua, .string ub, .string uc]] w fun e w' => Below w.heap.size w w' ∧ e = .returned (.bool true) := by
 have hσ : ∀ j, (sgOf [sa, sb, sc, ta, tb, tc, ua, ub, uc] j).size ≤ 1048576 := sgOf_size (by simp [ssa, ssb, ssc, sta, stb, stc, sua, sub, suc])
 have hcl : ∀ f ∈ ([75] : List FuncId), Closed f := by simp [closed_projected]
 obtain ⟨q, hq, h0⟩ := nodes_exist (sgOf [sa, sb, sc, ta, tb, tc, ua, ub, uc]) projectHarmonic_N projectHarmonic_wf
 have hA : ∀ K, A2 (avOn (cOn (evS q (sgOf [sa, sb, sc, ta, tb, tc, ua, ub, uc])) K (fun _ => none) w)) [(false, [(true, [.inr (2, 0, 0, 0, 0), .inr (2, 1, 0, 0, 0), .inr (2, 2, 0, 0, 0)])]), (false, [(true, [.inr (2, 3, 0, 0, 0), .inr (2, 4, 0, 0, 0), .inr (2, 5, 0, 0, 0)])]), (false, [(true, [.inr (2, 6, 0, 0, 0), .inr (2, 7, 0, 0, 0), .inr (2, 8, 0, 0, 0)])])] [.agg #[.string sa, .string sb, .string sc], .agg #[.string ta, .string tb, .string tc], .agg #[.string ua, .string ub, .string uc]] := fun K => ⟨⟨⟨[.string sa, .string sb, .string sc], rfl, rfl, rfl, rfl, trivial⟩, trivial⟩, ⟨⟨[.string ta, .string tb, .string tc], rfl, rfl, rfl, rfl, trivial⟩, trivial⟩, ⟨⟨[.string ua, .string ub, .string uc], rfl, rfl, rfl, rfl, trivial⟩, trivial⟩, trivial⟩
 have E8 : q 8 = q 0 * fac [q 0, q 1, q 2] := hq 8 _ rfl
 have E9 : q 9 = q 1 * fac [q 0, q 1, q 2] := hq 9 _ rfl
 have E10 : q 10 = q 2 * fac [q 0, q 1, q 2] := hq 10 _ rfl
 have E19 : q 19 = q 11 * fac [q 11, q 12, q 13] := hq 19 _ rfl
 have E20 : q 20 = q 12 * fac [q 11, q 12, q 13] := hq 20 _ rfl
 have E21 : q 21 = q 13 * fac [q 11, q 12, q 13] := hq 21 _ rfl
 have E22 : q 22 = q 9 * q 21 := hq 22 _ rfl
 have E23 : q 23 = q 10 * q 20 := hq 23 _ rfl
 have E24 : q 24 = q 22 - q 23 := hq 24 _ rfl
 have E25 : q 25 = q 10 * q 19 := hq 25 _ rfl
 have E26 : q 26 = q 8 * q 21 := hq 26 _ rfl
 have E27 : q 27 = q 25 - q 26 := hq 27 _ rfl
 have E28 : q 28 = q 8 * q 20 := hq 28 _ rfl
 have E29 : q 29 = q 9 * q 19 := hq 29 _ rfl
 have E30 : q 30 = q 28 - q 29 := hq 30 _ rfl
 have E36 : q 36 = q 1 * q 11 := hq 36 _ rfl
 have E37 : q 37 = q 0 * q 12 := hq 37 _ rfl
 have E38 : q 38 = q 36 - q 37 := hq 38 _ rfl
 have E39 : q 39 = q 2 * q 11 := hq 39 _ rfl
 have E40 : q 40 = q 0 * q 13 := hq 40 _ rfl
 have E41 : q 41 = q 39 - q 40 := hq 41 _ rfl
 have E42 : q 42 = q 2 * q 12 := hq 42 _ rfl
 have E43 : q 43 = q 1 * q 13 := hq 43 _ rfl
 have E44 : q 44 = q 42 - q 43 := hq 44 _ rfl
 have E58 : q 58 = q 50 * fac [q 50, q 51, q 52] := hq 58 _ rfl
 have E59 : q 59 = q 51 * fac [q 50, q 51, q 52] := hq 59 _ rfl
 have E60 : q 60 = q 52 * fac [q 50, q 51, q 52] := hq 60 _ rfl
 have E61 : q 61 = q 9 * q 60 := hq 61 _ rfl
 have E62 : q 62 = q 10 * q 59 := hq 62 _ rfl
 have E63 : q 63 = q 61 - q 62 := hq 63 _ rfl
 have E64 : q 64 = q 10 * q 58 := hq 64 _ rfl
 have E65 : q 65 = q 8 * q 60 := hq 65 _ rfl
 have E66 : q 66 = q 64 - q 65 := hq 66 _ rfl
 have E67 : q 67 = q 8 * q 59 := hq 67 _ rfl
 have E68 : q 68 = q 9 * q 58 := hq 68 _ rfl
 have E69 : q 69 = q 67 - q 68 := hq 69 _ rfl
 have E75 : q 75 = q 1 * q 50 := hq 75 _ rfl
 have E76 : q 76 = q 0 * q 51 := hq 76 _ rfl
 have E77 : q 77 = q 75 - q 76 := hq 77 _ rfl
 have E78 : q 78 = q 2 * q 50 := hq 78 _ rfl
 have E79 : q 79 = q 0 * q 52 := hq 79 _ rfl
 have E80 : q 80 = q 78 - q 79 := hq 80 _ rfl
 have E81 : q 81 = q 2 * q 51 := hq 81 _ rfl
 have E82 : q 82 = q 1 * q 52 := hq 82 _ rfl
 have E83 : q 83 = q 81 - q 82 := hq 83 _ rfl
 have E89 : q 89 = q 20 * q 60 := hq 89 _ rfl
 have E90 : q 90 = q 21 * q 59 := hq 90 _ rfl
 have E91 : q 91 = q 89 - q 90 := hq 91 _ rfl
 have E92 : q 92 = q 21 * q 58 := hq 92 _ rfl
 have E93 : q 93 = q 19 * q 60 := hq 93 _ rfl
 have E94 : q 94 = q 92 - q 93 := hq 94 _ rfl
 have E95 : q 95 = q 19 * q 59 := hq 95 _ rfl
 have E96 : q 96 = q 20 * q 58 := hq 96 _ rfl
 have E97 : q 97 = q 95 - q 96 := hq 97 _ rfl
 have E103 : q 103 = q 12 * q 50 := hq 103 _ rfl
 have E104 : q 104 = q 11 * q 51 := hq 104 _ rfl
 have E105 : q 105 = q 103 - q 104 := hq 105 _ rfl
 have E106 : q 106 = q 13 * q 50 := hq 106 _ rfl
 have E107 : q 107 = q 11 * q 52 := hq 107 _ rfl
 have E108 : q 108 = q 106 - q 107 := hq 108 _ rfl
 have E109 : q 109 = q 13 * q 51 := hq 109 _ rfl
 have E110 : q 110 = q 12 * q 52 := hq 110 _ rfl
 have E111 : q 111 = q 109 - q 110 := hq 111 _ rfl
 have E117 : q 117 = q 58 * q 24 := hq 117 _ rfl
 have E118 : q 118 = 0 := (hq 118 _ rfl).trans projectHarmonic_c118
 have E119 : q 119 = q 118 + q 117 := hq 119 _ rfl
 have E120 : q 120 = q 59 * q 27 := hq 120 _ rfl
 have E121 : q 121 = q 119 + q 120 := hq 121 _ rfl
 have E122 : q 122 = q 60 * q 30 := hq 122 _ rfl
 have E123 : q 123 = q 121 + q 122 := hq 123 _ rfl
 have E124 : q 124 = q 59 * q 21 := hq 124 _ rfl
 have E125 : q 125 = q 60 * q 20 := hq 125 _ rfl
 have E126 : q 126 = q 124 - q 125 := hq 126 _ rfl
 have E127 : q 127 = q 60 * q 19 := hq 127 _ rfl
 have E128 : q 128 = q 58 * q 21 := hq 128 _ rfl
 have E129 : q 129 = q 127 - q 128 := hq 129 _ rfl
 have E130 : q 130 = q 58 * q 20 := hq 130 _ rfl
 have E131 : q 131 = q 59 * q 19 := hq 131 _ rfl
 have E132 : q 132 = q 130 - q 131 := hq 132 _ rfl
 have E133 : q 133 = q 126 * q 24 := hq 133 _ rfl
 have E134 : q 134 = q 118 + q 133 := hq 134 _ rfl
 have E135 : q 135 = q 129 * q 27 := hq 135 _ rfl
 have E136 : q 136 = q 134 + q 135 := hq 136 _ rfl
 have E137 : q 137 = q 132 * q 30 := hq 137 _ rfl
 have E138 : q 138 = q 136 + q 137 := hq 138 _ rfl
 have E139 : q 139 = q 63 * q 24 := hq 139 _ rfl
 have E140 : q 140 = q 118 + q 139 := hq 140 _ rfl
 have E141 : q 141 = q 66 * q 27 := hq 141 _ rfl
 have E142 : q 142 = q 140 + q 141 := hq 142 _ rfl
 have E143 : q 143 = q 69 * q 30 := hq 143 _ rfl
 have E144 : q 144 = q 142 + q 143 := hq 144 _ rfl
 have E145 : q 145 = q 8 * q 138 := hq 145 _ rfl
 have E146 : q 146 = q 9 * q 138 := hq 146 _ rfl
 have E147 : q 147 = q 10 * q 138 := hq 147 _ rfl
 have E148 : q 148 = -q 144 := hq 148 _ rfl
 have E149 : q 149 = q 19 * q 148 := hq 149 _ rfl
 have E150 : q 150 = q 20 * q 148 := hq 150 _ rfl
 have E151 : q 151 = q 21 * q 148 := hq 151 _ rfl
 have E152 : q 152 = q 145 + q 149 := hq 152 _ rfl
 have E153 : q 153 = q 146 + q 150 := hq 153 _ rfl
 have E154 : q 154 = q 147 + q 151 := hq 154 _ rfl
 have E155 : q 155 = q 152 * fac [q 152, q 153, q 154] := hq 155 _ rfl
 have E156 : q 156 = q 153 * fac [q 152, q 153, q 154] := hq 156 _ rfl
 have E157 : q 157 = q 154 * fac [q 152, q 153, q 154] := hq 157 _ rfl
 have E158 : q 158 = q 110 - q 109 := hq 158 _ rfl
 have E159 : q 159 = q 0 * q 158 := hq 159 _ rfl
 have E160 : q 160 = q 107 - q 106 := hq 160 _ rfl
 have E161 : q 161 = q 1 * q 160 := hq 161 _ rfl
 have E162 : q 162 = -q 161 := hq 162 _ rfl
 have E163 : q 163 = q 104 - q 103 := hq 163 _ rfl
 have E164 : q 164 = q 2 * q 163 := hq 164 _ rfl
 have E165 : q 165 = q 159 + q 162 := hq 165 _ rfl
 have E166 : q 166 = q 165 + q 164 := hq 166 _ rfl
 have E167 : q 167 = q 37 - q 36 := hq 167 _ rfl
 have E168 : q 168 = q 43 - q 42 := hq 168 _ rfl
 have E169 : q 169 = q 52 * q 11 := hq 169 _ rfl
 have E170 : q 170 = q 50 * q 13 := hq 170 _ rfl
 have E171 : q 171 = q 169 - q 170 := hq 171 _ rfl
 have E172 : q 172 = q 171 / q 41 := hq 172 _ rfl
 have E173 : q 173 = q 80 / q 41 := hq 173 _ rfl
 have E174 : q 174 = q 12 * q 157 := hq 174 _ rfl
 have E175 : q 175 = q 13 * q 156 := hq 175 _ rfl
 have E176 : q 176 = q 174 - q 175 := hq 176 _ rfl
 have E177 : q 177 = q 0 * q 176 := hq 177 _ rfl
 have E178 : q 178 = q 11 * q 157 := hq 178 _ rfl
 have E179 : q 179 = q 13 * q 155 := hq 179 _ rfl
 have E180 : q 180 = q 178 - q 179 := hq 180 _ rfl
 have E181 : q 181 = q 1 * q 180 := hq 181 _ rfl
 have E182 : q 182 = -q 181 := hq 182 _ rfl
 have E183 : q 183 = q 11 * q 156 := hq 183 _ rfl
 have E184 : q 184 = q 12 * q 155 := hq 184 _ rfl
 have E185 : q 185 = q 183 - q 184 := hq 185 _ rfl
 have E186 : q 186 = q 2 * q 185 := hq 186 _ rfl
 have E187 : q 187 = q 177 + q 182 := hq 187 _ rfl
 have E188 : q 188 = q 187 + q 186 := hq 188 _ rfl
 have E189 : q 189 = q 157 * q 11 := hq 189 _ rfl
 have E190 : q 190 = q 155 * q 13 := hq 190 _ rfl
 have E191 : q 191 = q 189 - q 190 := hq 191 _ rfl
 have E192 : q 192 = q 191 / q 41 := hq 192 _ rfl
 have E193 : q 193 = q 2 * q 155 := hq 193 _ rfl
 have E194 : q 194 = q 0 * q 157 := hq 194 _ rfl
 have E195 : q 195 = q 193 - q 194 := hq 195 _ rfl
 have E196 : q 196 = q 195 / q 41 := hq 196 _ rfl
 have E207 : q 207 = q 173 * q 192 := hq 207 _ rfl
 have E208 : q 208 = q 172 * q 196 := hq 208 _ rfl
 have E209 : q 209 = q 207 + q 208 := hq 209 _ rfl
 have E210 : q 210 = q 51 * q 13 := hq 210 _ rfl
 have E211 : q 211 = q 52 * q 12 := hq 211 _ rfl
 have E212 : q 212 = q 210 - q 211 := hq 212 _ rfl
 have E213 : q 213 = q 212 / q 168 := hq 213 _ rfl
 have E214 : q 214 = q 82 - q 81 := hq 214 _ rfl
 have E215 : q 215 = q 214 / q 168 := hq 215 _ rfl
 have E216 : q 216 = q 156 * q 13 := hq 216 _ rfl
 have E217 : q 217 = q 157 * q 12 := hq 217 _ rfl
 have E218 : q 218 = q 216 - q 217 := hq 218 _ rfl
 have E219 : q 219 = q 218 / q 168 := hq 219 _ rfl
 have E220 : q 220 = q 1 * q 157 := hq 220 _ rfl
 have E221 : q 221 = q 2 * q 156 := hq 221 _ rfl
 have E222 : q 222 = q 220 - q 221 := hq 222 _ rfl
 have E223 : q 223 = q 222 / q 168 := hq 223 _ rfl
 have E224 : q 224 = q 215 * q 219 := hq 224 _ rfl
 have E225 : q 225 = q 213 * q 223 := hq 225 _ rfl
 have E226 : q 226 = q 224 + q 225 := hq 226 _ rfl
 have E227 : q 227 = q 50 * q 12 := hq 227 _ rfl
 have E228 : q 228 = q 51 * q 11 := hq 228 _ rfl
 have E229 : q 229 = q 227 - q 228 := hq 229 _ rfl
 have E230 : q 230 = q 229 / q 167 := hq 230 _ rfl
 have E231 : q 231 = q 76 - q 75 := hq 231 _ rfl
 have E232 : q 232 = q 231 / q 167 := hq 232 _ rfl
 have E233 : q 233 = q 155 * q 12 := hq 233 _ rfl
 have E234 : q 234 = q 156 * q 11 := hq 234 _ rfl
 have E235 : q 235 = q 233 - q 234 := hq 235 _ rfl
 have E236 : q 236 = q 235 / q 167 := hq 236 _ rfl
 have E237 : q 237 = q 0 * q 156 := hq 237 _ rfl
 have E238 : q 238 = q 1 * q 155 := hq 238 _ rfl
 have E239 : q 239 = q 237 - q 238 := hq 239 _ rfl
 have E240 : q 240 = q 239 / q 167 := hq 240 _ rfl
 have E241 : q 241 = q 232 * q 236 := hq 241 _ rfl
 have E242 : q 242 = q 230 * q 240 := hq 242 _ rfl
 have E243 : q 243 = q 241 + q 242 := hq 243 _ rfl
 have Q7 : q 7 = 0 ↔ ((q 0 = 0 ∧ q 1 = 0) ∧ q 2 = 0) := (sq_next (sq_next (sq_first (hq 3 _ rfl)) (hq 4 _ rfl) (hq 5 _ rfl)) (hq 6 _ rfl) (hq 7 _ rfl)).2
 have Q18 : q 18 = 0 ↔ ((q 11 = 0 ∧ q 12 = 0) ∧ q 13 = 0) := (sq_next (sq_next (sq_first (hq 14 _ rfl)) (hq 15 _ rfl) (hq 16 _ rfl)) (hq 17 _ rfl) (hq 18 _ rfl)).2
 have Q35 : q 35 = 0 ↔ ((q 24 = 0 ∧ q 27 = 0) ∧ q 30 = 0) := (sq_next (sq_next (sq_first (hq 31 _ rfl)) (hq 32 _ rfl) (hq 33 _ rfl)) (hq 34 _ rfl) (hq 35 _ rfl)).2
 have Q49 : q 49 = 0 ↔ ((q 38 = 0 ∧ q 41 = 0) ∧ q 44 = 0) := (sq_next (sq_next (sq_first (hq 45 _ rfl)) (hq 46 _ rfl) (hq 47 _ rfl)) (hq 48 _ rfl) (hq 49 _ rfl)).2
 have Q57 : q 57 = 0 ↔ ((q 50 = 0 ∧ q 51 = 0) ∧ q 52 = 0) := (sq_next (sq_next (sq_first (hq 53 _ rfl)) (hq 54 _ rfl) (hq 55 _ rfl)) (hq 56 _ rfl) (hq 57 _ rfl)).2
 have Q74 : q 74 = 0 ↔ ((q 63 = 0 ∧ q 66 = 0) ∧ q 69 = 0) := (sq_next (sq_next (sq_first (hq 70 _ rfl)) (hq 71 _ rfl) (hq 72 _ rfl)) (hq 73 _ rfl) (hq 74 _ rfl)).2
 have Q88 : q 88 = 0 ↔ ((q 77 = 0 ∧ q 80 = 0) ∧ q 83 = 0) := (sq_next (sq_next (sq_first (hq 84 _ rfl)) (hq 85 _ rfl) (hq 86 _ rfl)) (hq 87 _ rfl) (hq 88 _ rfl)).2
 have Q102 : q 102 = 0 ↔ ((q 91 = 0 ∧ q 94 = 0) ∧ q 97 = 0) := (sq_next (sq_next (sq_first (hq 98 _ rfl)) (hq 99 _ rfl) (hq 100 _ rfl)) (hq 101 _ rfl) (hq 102 _ rfl)).2
 have Q116 : q 116 = 0 ↔ ((q 105 = 0 ∧ q 108 = 0) ∧ q 111 = 0) := (sq_next (sq_next (sq_first (hq 112 _ rfl)) (hq 113 _ rfl) (hq 114 _ rfl)) (hq 115 _ rfl) (hq 116 _ rfl)).2
 have Q201 : q 201 = 0 ↔ ((q 152 = 0 ∧ q 153 = 0) ∧ q 154 = 0) := (sq_next (sq_next (sq_first (hq 197 _ rfl)) (hq 198 _ rfl) (hq 199 _ rfl)) (hq 200 _ rfl) (hq 201 _ rfl)).2
 have Q206 : q 206 = 0 ↔ ((q 155 = 0 ∧ q 156 = 0) ∧ q 157 = 0) := (sq_next (sq_next (sq_first (hq 202 _ rfl)) (hq 203 _ rfl) (hq 204 _ rfl)) (hq 205 _ rfl) (hq 206 _ rfl)).2
 by_cases a_0_7_0 : q 7 = 0
 ·
  exact run_toldC' 8 (hy_of (H := [(0, 7, 0, 1)]) hσ projectHarmonic_wf projectHarmonic_sz projectHarmonic_lt projectHarmonic_cn hq h0 (And.intro (hT a_0_7_0) trivial)) hcl (by kernel_rfl) projectHarmonic_r0 ⟨tab, mx⟩ (hA _)
 ·
  by_cases a_0_18_0 : q 18 = 0
  ·
   exact run_toldC' 8 (hy_of (H := [(0, 7, 0, 0), (0, 18, 0, 1)]) hσ projectHarmonic_wf projectHarmonic_sz projectHarmonic_lt projectHarmonic_cn hq h0 (And.intro (hF a_0_7_0) (And.intro (hT a_0_18_0) trivial))) hcl (by kernel_rfl) projectHarmonic_r1 ⟨tab, mx⟩ (hA _)
  ·
   by_cases a_0_35_0 : q 35 = 0
   ·
    have a_0_49_0 : q 49 = 0 := projectHarmonic_f0 Q7 E8 E9 E10 Q18 E19 E20 E21 E22 E23 E24 E25 E26 E27 E28 E29 E30 Q35 E36 E37 E38 E39 E40 E41 E42 E43 E44 Q49 a_0_7_0 a_0_18_0 a_0_35_0
    exact run_toldC' 8 (hy_of (H := [(0, 7, 0, 0), (0, 18, 0, 0), (0, 35, 0, 1), (0, 49, 0, 1)]) hσ projectHarmonic_wf projectHarmonic_sz projectHarmonic_lt projectHarmonic_cn hq h0 (And.intro (hF a_0_7_0) (And.intro (hF a_0_18_0) (And.intro (hT a_0_35_0) (And.intro (hT a_0_49_0) trivial))))) hcl (by kernel_rfl) projectHarmonic_r2 ⟨tab, mx⟩ (hA _)
   ·
    by_cases a_0_57_0 : q 57 = 0
    ·
     have a_0_49_0 : ¬ (q 49 = 0) := projectHarmonic_f1 Q7 E8 E9 E10 Q18 E19 E20 E21 E22 E23 E24 E25 E26 E27 E28 E29 E30 Q35 E36 E37 E38 E39 E40 E41 E42 E43 E44 Q49 a_0_7_0 a_0_18_0 a_0_35_0
     exact run_toldC' 8 (hy_of (H := [(0, 7, 0, 0), (0, 18, 0, 0), (0, 35, 0, 0), (0, 57, 0, 1), (0, 49, 0, 0)]) hσ projectHarmonic_wf projectHarmonic_sz projectHarmonic_lt projectHarmonic_cn hq h0 (And.intro (hF a_0_7_0) (And.intro (hF a_0_18_0) (And.intro (hF a_0_35_0) (And.intro (hT a_0_57_0) (And.intro (hF a_0_49_0) trivial)))))) hcl (by kernel_rfl) projectHarmonic_r3 ⟨tab, mx⟩ (hA _)
    ·
     by_cases a_0_74_0 : q 74 = 0
     ·
      have a_0_49_0 : ¬ (q 49 = 0) := projectHarmonic_f1 Q7 E8 E9 E10 Q18 E19 E20 E21 E22 E23 E24 E25 E26 E27 E28 E29 E30 Q35 E36 E37 E38 E39 E40 E41 E42 E43 E44 Q49 a_0_7_0 a_0_18_0 a_0_35_0
      have a_0_88_0 : q 88 = 0 := projectHarmonic_f2 Q7 E8 E9 E10 Q57 E58 E59 E60 E61 E62 E63 E64 E65 E66 E67 E68 E69 Q74 E75 E76 E77 E78 E79 E80 E81 E82 E83 Q88 a_0_7_0 a_0_57_0 a_0_74_0
      exact run_toldC' 8 (hy_of (H := [(0, 7, 0, 0), (0, 18, 0, 0), (0, 35, 0, 0), (0, 57, 0, 0), (0, 74, 0, 1), (0, 49, 0, 0), (0, 88, 0, 1)]) hσ projectHarmonic_wf projectHarmonic_sz projectHarmonic_lt projectHarmonic_cn hq h0 (And.intro (hF a_0_7_0) (And.intro (hF a_0_18_0) (And.intro (hF a_0_35_0) (And.intro (hF a_0_57_0) (And.intro (hT a_0_74_0) (And.intro (hF a_0_49_0) (And.intro (hT a_0_88_0) trivial)))))))) hcl (by kernel_rfl) projectHarmonic_r4 ⟨tab, mx⟩ (hA _)
     ·
      by_cases a_0_102_0 : q 102 = 0
      ·
       have a_0_49_0 : ¬ (q 49 = 0) := projectHarmonic_f1 Q7 E8 E9 E10 Q18 E19 E20 E21 E22 E23 E24 E25 E26 E27 E28 E29 E30 Q35 E36 E37 E38 E39 E40 E41 E42 E43 E44 Q49 a_0_7_0 a_0_18_0 a_0_35_0
       have a_0_88_0 : ¬ (q 88 = 0) := projectHarmonic_f3 Q7 E8 E9 E10 Q57 E58 E59 E60 E61 E62 E63 E64 E65 E66 E67 E68 E69 Q74 E75 E76 E77 E78 E79 E80 E81 E82 E83 Q88 a_0_7_0 a_0_57_0 a_0_74_0
       have a_0_116_0 : q 116 = 0 := projectHarmonic_f4 Q18 E19 E20 E21 Q57 E58 E59 E60 E89 E90 E91 E92 E93 E94 E95 E96 E97 Q102 E103 E104 E105 E106 E107 E108 E109 E110 E111 Q116 a_0_18_0 a_0_57_0 a_0_102_0
       exact run_toldC' 8 (hy_of (H := [(0, 7, 0, 0), (0, 18, 0, 0), (0, 35, 0, 0), (0, 57, 0, 0), (0, 74, 0, 0), (0, 102, 0, 1), (0, 49, 0, 0), (0, 88, 0, 0), (0, 116, 0, 1)]) hσ projectHarmonic_wf projectHarmonic_sz projectHarmonic_lt projectHarmonic_cn hq h0 (And.intro (hF a_0_7_0) (And.intro (hF a_0_18_0) (And.intro (hF a_0_35_0) (And.intro (hF a_0_57_0) (And.intro (hF a_0_74_0) (And.intro (hT a_0_102_0) (And.intro (hF a_0_49_0) (And.intro (hF a_0_88_0) (And.intro (hT a_0_116_0) trivial)))))))))) hcl (by kernel_rfl) projectHarmonic_r5 ⟨tab, mx⟩ (hA _)
      ·
       by_cases a_0_123_0 : q 123 = 0
       ·
        have a_0_49_0 : ¬ (q 49 = 0) := projectHarmonic_f1 Q7 E8 E9 E10 Q18 E19 E20 E21 E22 E23 E24 E25 E26 E27 E28 E29 E30 Q35 E36 E37 E38 E39 E40 E41 E42 E43 E44 Q49 a_0_7_0 a_0_18_0 a_0_35_0
        have a_0_88_0 : ¬ (q 88 = 0) := projectHarmonic_f3 Q7 E8 E9 E10 Q57 E58 E59 E60 E61 E62 E63 E64 E65 E66 E67 E68 E69 Q74 E75 E76 E77 E78 E79 E80 E81 E82 E83 Q88 a_0_7_0 a_0_57_0 a_0_74_0
        have a_0_116_0 : ¬ (q 116 = 0) := projectHarmonic_f5 Q18 E19 E20 E21 Q57 E58 E59 E60 E89 E90 E91 E92 E93 E94 E95 E96 E97 Q102 E103 E104 E105 E106 E107 E108 E109 E110 E111 Q116 a_0_18_0 a_0_57_0 a_0_102_0
        have a_0_166_0 : q 166 = 0 := projectHarmonic_f6 Q7 E8 E9 E10 Q18 E19 E20 E21 E22 E23 E24 E25 E26 E27 E28 E29 E30 Q57 E58 E59 E60 E103 E104 E106 E107 E109 E110 E117 E118 E119 E120 E121 E122 E123 E158 E159 E160 E161 E162 E163 E164 E165 E166 a_0_7_0 a_0_18_0 a_0_57_0 a_0_123_0
        by_cases a_0_167_0 : q 167 = 0
        ·
         by_cases a_0_168_0 : q 168 = 0
         ·
          have a_0_41_0 : ¬ (q 41 = 0) := projectHarmonic_f7 Q7 E8 E9 E10 Q18 E19 E20 E21 E22 E23 E24 E25 E26 E27 E28 E29 E30 Q35 E36 E37 E39 E40 E41 E42 E43 Q57 E58 E59 E60 E89 E90 E91 E92 E93 E94 E95 E96 E97 Q102 E117 E118 E119 E120 E121 E122 E123 E167 E168 a_0_7_0 a_0_18_0 a_0_35_0 a_0_57_0 a_0_102_0 a_0_123_0 a_0_167_0 a_0_168_0
          have a_0_188_0 : q 188 = 0 := projectHarmonic_f8 Q7 E8 E9 E10 Q18 E19 E20 E21 E22 E23 E24 E25 E26 E27 E28 E29 E30 Q35 Q57 E58 E59 E60 E61 E62 E63 E64 E65 E66 E67 E68 E69 E89 E90 E91 E92 E93 E94 E95 E96 E97 Q102 E117 E118 E119 E120 E121 E122 E123 E124 E125 E126 E127 E128 E129 E130 E131 E132 E133 E134 E135 E136 E137 E138 E139 E140 E141 E142 E143 E144 E145 E146 E147 E148 E149 E150 E151 E152 E153 E154 E155 E156 E157 E174 E175 E176 E177 E178 E179 E180 E181 E182 E183 E184 E185 E186 E187 E188 a_0_7_0 a_0_18_0 a_0_35_0 a_0_57_0 a_0_102_0 a_0_123_0
          have a_0_201_0 : ¬ (q 201 = 0) := projectHarmonic_f9 Q7 E8 E9 E10 Q18 E19 E20 E21 E22 E23 E24 E25 E26 E27 E28 E29 E30 Q35 Q57 E58 E59 E60 E61 E62 E63 E64 E65 E66 E67 E68 E69 E89 E90 E91 E92 E93 E94 E95 E96 E97 Q102 E117 E118 E119 E120 E121 E122 E123 E124 E125 E126 E127 E128 E129 E130 E131 E132 E133 E134 E135 E136 E137 E138 E139 E140 E141 E142 E143 E144 E145 E146 E147 E148 E149 E150 E151 E152 E153 E154 Q201 a_0_7_0 a_0_18_0 a_0_35_0 a_0_57_0 a_0_102_0 a_0_123_0
          have a_0_206_0 : ¬ (q 206 = 0) := projectHarmonic_f10 Q7 E8 E9 E10 Q18 E19 E20 E21 E22 E23 E24 E25 E26 E27 E28 E29 E30 Q35 Q57 E58 E59 E60 E61 E62 E63 E64 E65 E66 E67 E68 E69 E89 E90 E91 E92 E93 E94 E95 E96 E97 Q102 E117 E118 E119 E120 E121 E122 E123 E124 E125 E126 E127 E128 E129 E130 E131 E132 E133 E134 E135 E136 E137 E138 E139 E140 E141 E142 E143 E144 E145 E146 E147 E148 E149 E150 E151 E152 E153 E154 E155 E156 E157 Q206 a_0_7_0 a_0_18_0 a_0_35_0 a_0_57_0 a_0_102_0 a_0_123_0
          have a_0_209_0 : q 209 = 0 := projectHarmonic_f11 Q7 E8 E9 E10 Q18 E19 E20 E21 E22 E23 E24 E25 E26 E27 E28 E29 E30 Q35 E36 E37 E39 E40 E41 E42 E43 Q57 E58 E59 E60 E61 E62 E63 E64 E65 E66 E67 E68 E69 Q74 E78 E79 E80 E89 E90 E91 E92 E93 E94 E95 E96 E97 Q102 E117 E118 E119 E120 E121 E122 E123 E124 E125 E126 E127 E128 E129 E130 E131 E132 E133 E134 E135 E136 E137 E138 E139 E140 E141 E142 E143 E144 E145 E146 E147 E148 E149 E150 E151 E152 E153 E154 E155 E157 E167 E168 E169 E170 E171 E172 E173 E189 E190 E191 E192 E193 E194 E195 E196 E207 E208 E209 a_0_7_0 a_0_18_0 a_0_35_0 a_0_57_0 a_0_74_0 a_0_102_0 a_0_123_0 a_0_167_0 a_0_168_0
          exact run_toldC' 8 (hy_of (H := [(0, 7, 0, 0), (0, 18, 0, 0), (0, 35, 0, 0), (0, 57, 0, 0), (0, 74, 0, 0), (0, 102, 0, 0), (0, 123, 0, 1), (0, 49, 0, 0), (0, 88, 0, 0), (0, 116, 0, 0), (0, 166, 0, 1), (0, 167, 0, 1), (0, 168, 0, 1), (0, 41, 0, 0), (0, 188, 0, 1), (0, 201, 0, 0), (0, 206, 0, 0), (0, 209, 0, 1)]) hσ projectHarmonic_wf projectHarmonic_sz projectHarmonic_lt projectHarmonic_cn hq h0 (And.intro (hF a_0_7_0) (And.intro (hF a_0_18_0) (And.intro (hF a_0_35_0) (And.intro (hF a_0_57_0) (And.intro (hF a_0_74_0) (And.intro (hF a_0_102_0) (And.intro (hT a_0_123_0) (And.intro (hF a_0_49_0) (And.intro (hF a_0_88_0) (And.intro (hF a_0_116_0) (And.intro (hT a_0_166_0) (And.intro (hT a_0_167_0) (And.intro (hT a_0_168_0) (And.intro (hF a_0_41_0) (And.intro (hT a_0_188_0) (And.intro (hF a_0_201_0) (And.intro (hF a_0_206_0) (And.intro (hT a_0_209_0) trivial))))))))))))))))))) hcl (by kernel_rfl) projectHarmonic_r6 ⟨tab, mx⟩ (hA _)
         ·
          have a_0_188_0 : q 188 = 0 := projectHarmonic_f8 Q7 E8 E9 E10 Q18 E19 E20 E21 E22 E23 E24 E25 E26 E27 E28 E29 E30 Q35 Q57 E58 E59 E60 E61 E62 E63 E64 E65 E66 E67 E68 E69 E89 E90 E91 E92 E93 E94 E95 E96 E97 Q102 E117 E118 E119 E120 E121 E122 E123 E124 E125 E126 E127 E128 E129 E130 E131 E132 E133 E134 E135 E136 E137 E138 E139 E140 E141 E142 E143 E144 E145 E146 E147 E148 E149 E150 E151 E152 E153 E154 E155 E156 E157 E174 E175 E176 E177 E178 E179 E180 E181 E182 E183 E184 E185 E186 E187 E188 a_0_7_0 a_0_18_0 a_0_35_0 a_0_57_0 a_0_102_0 a_0_123_0
          have a_0_201_0 : ¬ (q 201 = 0) := projectHarmonic_f9 Q7 E8 E9 E10 Q18 E19 E20 E21 E22 E23 E24 E25 E26 E27 E28 E29 E30 Q35 Q57 E58 E59 E60 E61 E62 E63 E64 E65 E66 E67 E68 E69 E89 E90 E91 E92 E93 E94 E95 E96 E97 Q102 E117 E118 E119 E120 E121 E122 E123 E124 E125 E126 E127 E128 E129 E130 E131 E132 E133 E134 E135 E136 E137 E138 E139 E140 E141 E142 E143 E144 E145 E146 E147 E148 E149 E150 E151 E152 E153 E154 Q201 a_0_7_0 a_0_18_0 a_0_35_0 a_0_57_0 a_0_102_0 a_0_123_0
          have a_0_206_0 : ¬ (q 206 = 0) := projectHarmonic_f10 Q7 E8 E9 E10 Q18 E19 E20 E21 E22 E23 E24 E25 E26 E27 E28 E29 E30 Q35 Q57 E58 E59 E60 E61 E62 E63 E64 E65 E66 E67 E68 E69 E89 E90 E91 E92 E93 E94 E95 E96 E97 Q102 E117 E118 E119 E120 E121 E122 E123 E124 E125 E126 E127 E128 E129 E130 E131 E132 E133 E134 E135 E136 E137 E138 E139 E140 E141 E142 E143 E144 E145 E146 E147 E148 E149 E150 E151 E152 E153 E154 E155 E156 E157 Q206 a_0_7_0 a_0_18_0 a_0_35_0 a_0_57_0 a_0_102_0 a_0_123_0
          have a_0_226_0 : q 226 = 0 := projectHarmonic_f12 Q7 E8 E9 E10 Q18 E19 E20 E21 E22 E23 E24 E25 E26 E27 E28 E29 E30 Q35 E36 E37 E42 E43 Q57 E58 E59 E60 E61 E62 E63 E64 E65 E66 E67 E68 E69 Q74 E81 E82 E89 E90 E91 E92 E93 E94 E95 E96 E97 Q102 E117 E118 E119 E120 E121 E122 E123 E124 E125 E126 E127 E128 E129 E130 E131 E132 E133 E134 E135 E136 E137 E138 E139 E140 E141 E142 E143 E144 E145 E146 E147 E148 E149 E150 E151 E152 E153 E154 E156 E157 E167 E168 E210 E211 E212 E213 E214 E215 E216 E217 E218 E219 E220 E221 E222 E223 E224 E225 E226 a_0_7_0 a_0_18_0 a_0_35_0 a_0_57_0 a_0_74_0 a_0_102_0 a_0_123_0 a_0_167_0 a_0_168_0
          exact run_toldC' 8 (hy_of (H := [(0, 7, 0, 0), (0, 18, 0, 0), (0, 35, 0, 0), (0, 57, 0, 0), (0, 74, 0, 0), (0, 102, 0, 0), (0, 123, 0, 1), (0, 49, 0, 0), (0, 88, 0, 0), (0, 116, 0, 0), (0, 166, 0, 1), (0, 167, 0, 1), (0, 168, 0, 0), (0, 188, 0, 1), (0, 201, 0, 0), (0, 206, 0, 0), (0, 226, 0, 1)]) hσ projectHarmonic_wf projectHarmonic_sz projectHarmonic_lt projectHarmonic_cn hq h0 (And.intro (hF a_0_7_0) (And.intro (hF a_0_18_0) (And.intro (hF a_0_35_0) (And.intro (hF a_0_57_0) (And.intro (hF a_0_74_0) (And.intro (hF a_0_102_0) (And.intro (hT a_0_123_0) (And.intro (hF a_0_49_0) (And.intro (hF a_0_88_0) (And.intro (hF a_0_116_0) (And.intro (hT a_0_166_0) (And.intro (hT a_0_167_0) (And.intro (hF a_0_168_0) (And.intro (hT a_0_188_0) (And.intro (hF a_0_201_0) (And.intro (hF a_0_206_0) (And.intro (hT a_0_226_0) trivial)))))))))))))))))) hcl (by kernel_rfl) projectHarmonic_r7 ⟨tab, mx⟩ (hA _)
        ·
         have a_0_188_0 : q 188 = 0 := projectHarmonic_f8 Q7 E8 E9 E10 Q18 E19 E20 E21 E22 E23 E24 E25 E26 E27 E28 E29 E30 Q35 Q57 E58 E59 E60 E61 E62 E63 E64 E65 E66 E67 E68 E69 E89 E90 E91 E92 E93 E94 E95 E96 E97 Q102 E117 E118 E119 E120 E121 E122 E123 E124 E125 E126 E127 E128 E129 E130 E131 E132 E133 E134 E135 E136 E137 E138 E139 E140 E141 E142 E143 E144 E145 E146 E147 E148 E149 E150 E151 E152 E153 E154 E155 E156 E157 E174 E175 E176 E177 E178 E179 E180 E181 E182 E183 E184 E185 E186 E187 E188 a_0_7_0 a_0_18_0 a_0_35_0 a_0_57_0 a_0_102_0 a_0_123_0
         have a_0_201_0 : ¬ (q 201 = 0) := projectHarmonic_f9 Q7 E8 E9 E10 Q18 E19 E20 E21 E22 E23 E24 E25 E26 E27 E28 E29 E30 Q35 Q57 E58 E59 E60 E61 E62 E63 E64 E65 E66 E67 E68 E69 E89 E90 E91 E92 E93 E94 E95 E96 E97 Q102 E117 E118 E119 E120 E121 E122 E123 E124 E125 E126 E127 E128 E129 E130 E131 E132 E133 E134 E135 E136 E137 E138 E139 E140 E141 E142 E143 E144 E145 E146 E147 E148 E149 E150 E151 E152 E153 E154 Q201 a_0_7_0 a_0_18_0 a_0_35_0 a_0_57_0 a_0_102_0 a_0_123_0
         have a_0_206_0 : ¬ (q 206 = 0) := projectHarmonic_f10 Q7 E8 E9 E10 Q18 E19 E20 E21 E22 E23 E24 E25 E26 E27 E28 E29 E30 Q35 Q57 E58 E59 E60 E61 E62 E63 E64 E65 E66 E67 E68 E69 E89 E90 E91 E92 E93 E94 E95 E96 E97 Q102 E117 E118 E119 E120 E121 E122 E123 E124 E125 E126 E127 E128 E129 E130 E131 E132 E133 E134 E135 E136 E137 E138 E139 E140 E141 E142 E143 E144 E145 E146 E147 E148 E149 E150 E151 E152 E153 E154 E155 E156 E157 Q206 a_0_7_0 a_0_18_0 a_0_35_0 a_0_57_0 a_0_102_0 a_0_123_0
         have a_0_243_0 : q 243 = 0 := projectHarmonic_f13 Q7 E8 E9 E10 Q18 E19 E20 E21 E22 E23 E24 E25 E26 E27 E28 E29 E30 Q35 E36 E37 Q57 E58 E59 E60 E61 E62 E63 E64 E65 E66 E67 E68 E69 Q74 E75 E76 E89 E90 E91 E92 E93 E94 E95 E96 E97 Q102 E117 E118 E119 E120 E121 E122 E123 E124 E125 E126 E127 E128 E129 E130 E131 E132 E133 E134 E135 E136 E137 E138 E139 E140 E141 E142 E143 E144 E145 E146 E147 E148 E149 E150 E151 E152 E153 E154 E155 E156 E167 E227 E228 E229 E230 E231 E232 E233 E234 E235 E236 E237 E238 E239 E240 E241 E242 E243 a_0_7_0 a_0_18_0 a_0_35_0 a_0_57_0 a_0_74_0 a_0_102_0 a_0_123_0 a_0_167_0
         exact run_toldC' 8 (hy_of (H := [(0, 7, 0, 0), (0, 18, 0, 0), (0, 35, 0, 0), (0, 57, 0, 0), (0, 74, 0, 0), (0, 102, 0, 0), (0, 123, 0, 1), (0, 49, 0, 0), (0, 88, 0, 0), (0, 116, 0, 0), (0, 166, 0, 1), (0, 167, 0, 0), (0, 188, 0, 1), (0, 201, 0, 0), (0, 206, 0, 0), (0, 243, 0, 1)]) hσ projectHarmonic_wf projectHarmonic_sz projectHarmonic_lt projectHarmonic_cn hq h0 (And.intro (hF a_0_7_0) (And.intro (hF a_0_18_0) (And.intro (hF a_0_35_0) (And.intro (hF a_0_57_0) (And.intro (hF a_0_74_0) (And.intro (hF a_0_102_0) (And.intro (hT a_0_123_0) (And.intro (hF a_0_49_0) (And.intro (hF a_0_88_0) (And.intro (hF a_0_116_0) (And.intro (hT a_0_166_0) (And.intro (hF a_0_167_0) (And.intro (hT a_0_188_0) (And.intro (hF a_0_201_0) (And.intro (hF a_0_206_0) (And.intro (hT a_0_243_0) trivial))))))))))))))))) hcl (by kernel_rfl) projectHarmonic_r8 ⟨tab, mx⟩ (hA _)
       ·
        have a_0_49_0 : ¬ (q 49 = 0) := projectHarmonic_f1 Q7 E8 E9 E10 Q18 E19 E20 E21 E22 E23 E24 E25 E26 E27 E28 E29 E30 Q35 E36 E37 E38 E39 E40 E41 E42 E43 E44 Q49 a_0_7_0 a_0_18_0 a_0_35_0
        have a_0_88_0 : ¬ (q 88 = 0) := projectHarmonic_f3 Q7 E8 E9 E10 Q57 E58 E59 E60 E61 E62 E63 E64 E65 E66 E67 E68 E69 Q74 E75 E76 E77 E78 E79 E80 E81 E82 E83 Q88 a_0_7_0 a_0_57_0 a_0_74_0
        have a_0_116_0 : ¬ (q 116 = 0) := projectHarmonic_f5 Q18 E19 E20 E21 Q57 E58 E59 E60 E89 E90 E91 E92 E93 E94 E95 E96 E97 Q102 E103 E104 E105 E106 E107 E108 E109 E110 E111 Q116 a_0_18_0 a_0_57_0 a_0_102_0
        have a_0_166_0 : ¬ (q 166 = 0) := projectHarmonic_f14 Q7 E8 E9 E10 Q18 E19 E20 E21 E22 E23 E24 E25 E26 E27 E28 E29 E30 Q57 E58 E59 E60 E103 E104 E106 E107 E109 E110 E117 E118 E119 E120 E121 E122 E123 E158 E159 E160 E161 E162 E163 E164 E165 E166 a_0_7_0 a_0_18_0 a_0_57_0 a_0_123_0
        exact run_toldC' 8 (hy_of (H := [(0, 7, 0, 0), (0, 18, 0, 0), (0, 35, 0, 0), (0, 57, 0, 0), (0, 74, 0, 0), (0, 102, 0, 0), (0, 123, 0, 0), (0, 49, 0, 0), (0, 88, 0, 0), (0, 116, 0, 0), (0, 166, 0, 0)]) hσ projectHarmonic_wf projectHarmonic_sz projectHarmonic_lt projectHarmonic_cn hq h0 (And.intro (hF a_0_7_0) (And.intro (hF a_0_18_0) (And.intro (hF a_0_35_0) (And.intro (hF a_0_57_0) (And.intro (hF a_0_74_0) (And.intro (hF a_0_102_0) (And.intro (hF a_0_123_0) (And.intro (hF a_0_49_0) (And.intro (hF a_0_88_0) (And.intro (hF a_0_116_0) (And.intro (hF a_0_166_0) trivial)))))))))))) hcl (by kernel_rfl) projectHarmonic_r9 ⟨tab, mx⟩ (hA _)
end Go.Proofs.YtioacnhbiinjbaaGreatDoor
