/- Part 13 of the walks and of the mathematics under them: VP VPC CFprojected MPR. -/
import Derived.Test.YtioacnhbiinjbaaGreatDoorA2
import Derived.Test.YtioacnhbiinjbaaGreatDoorA12
set_option maxHeartbeats 16000000
set_option maxRecDepth 100000
/- VP -/
namespace Cx
open Go Go.RowKit
abbrev Hs := List (Nat × Nat × Nat × Nat)
def Sx.plus (S : Sx) (X : Hs) : Sx := { S with H := X ++ S.H }
abbrev Ask := Nat × Nat × Nat × Nat
def askZ (a : Nat) : Ask := (0, a, 0, a)
def askOk (S : Sx) : Ask → Bool
 | (k, a, b, d) => (Nat.beq k 0 && (Nat.beq b 0 && Nat.beq d a)) || (Nat.beq k 3 && (match S.N[d]? with
  | some (op, ar) => Nat.beq op 3 && beqL ar [a, b]
  | none => false))
def sqF (S : Sx) : Nat → List Nat → Option Nat
 | s, [] => some s
 | s, a :: l => (S.nd 4 [a, a]).bind fun b => (S.nd 2 [s, b]).bind fun t => sqF S t l
def sqN (S : Sx) : List Nat → Option Nat
 | [] => none
 | a :: l => (S.nd 4 [a, a]).bind fun s => sqF S s l
def acrossB (S : Sx) (a b : Nat) : List Nat → List Nat → Option (List Ask)
 | c :: l, d :: m => (S.nd 4 [a, d]).bind fun x => (S.nd 4 [c, b]).bind fun y => (S.nd 3 [x, y]).bind fun z => (acrossB S a b l m).map fun r => (3, x, y, z) :: r
 | _, _ => some []
def alikeB (S : Sx) : List Nat → List Nat → List Nat → List Nat → Option (List Ask)
 | pl, pm, a :: l, b :: m => (acrossB S a b pl pm).bind fun r => (alikeB S (pl ++ [a]) (pm ++ [b]) l m).map fun t => r ++ t
 | _, _, _, _ => some []
def asks (S : Sx) (h : List HB) (code : Nat) (args : List AV) : Option (List Ask) :=
 match code with
 | 60 => arg1 (fun x => (asA x).bind fun cs => (qRow S cs).map fun l => l.map askZ) args
 | 61 => arg1 (fun x => (rowB h 1 x).bind fun p => (mapO (acX 0) p.2).map fun l => l.map askZ) args
 | 62 => arg2 (fun x y => (rowB h 1 x).bind fun p => (mapO (acX 0) p.2).bind fun l => (rowB h 1 y).bind fun p' => (mapO (acX 0) p'.2).bind fun m => alikeB S [] [] l m) args
 | 63 => arg1 (fun x => (asA x).bind fun cs => (mapO acTold cs).bind fun l => (plainOf S l).map fun xs => xs.map askZ) args
 | _ => none
def splits : List Ask → Hs → List Hs
 | [], _ => []
 | (k, a, b, _) :: l, X => ((k, a, b, 0) :: X) :: splits l ((k, a, b, 1) :: X)
def allZ : List Ask → Hs → Hs
 | [], X => X
 | (k, a, b, _) :: l, X => allZ l ((k, a, b, 1) :: X)
def bodyC (S : Sx) (call : CallF) : CallF := fun f args h nx => S.P.funcs[f]?.bind fun fn => fn.body.bind fun c => ifO (Nat.ble args.length fn.ntmps) ((runB S call fn.ntmps c { tm := numb1 0 args, h := h, nx := nx }).bind fun r =>
   ifO (Nat.beq r.1 1) ((mapO (resB S.P r.2) fn.results.toList).map fun xs => (tupB xs, r.2.h, r.2.nx)))
abbrev CRes := Option (AV × List HB × Nat)
def agree (h : List HB) (b : Bool) (hi : Nat) : CRes → Bool
 | some (v, h', nx') => (match asB v with
  | some c => b == c
  | none => false) && (Nat.ble nx' hi && h.all fun x => h'.any fun y => Nat.beq y.1 x.1 && acsW x.2 y.2)
 | none => false
def topN : Nat → List CRes → Nat
 | m, [] => m
 | m, some p :: rs => topN (bif Nat.ble m p.2.2 then p.2.2 else m) rs
 | m, none :: rs => topN m rs
def joinC (h : List HB) (nx : Nat) (rs : List CRes) : CRes :=
 match rs with
 | some p :: _ => (asB p.1).bind fun b => ifO (rs.all (agree h b (topN nx rs))) (some (kB b, h, topN nx rs))
 | _ => none
def callC (S : Sx) (cs : List (FuncId × Nat)) : Nat → Hs → CallF
 | 0, _, _, _, _, _ => none
 | n + 1, X, f, args, h, nx => match prGet f cs with
  | none => bodyC (S.plus X) (callC S cs n X) f args h nx
  | some c => (asks (S.plus X) h c args).bind fun l => ifO (l.all (askOk S)) ((sqN S (l.map (·.2.2.2))).bind fun s => ((S.plus X).kn 0 s 0).bind fun r =>
    bif Nat.beq 1 r then bodyC (S.plus (allZ l X)) (callC S cs n (allZ l X)) f args h nx
    else joinC h nx ((splits l X).map fun X' => bodyC (S.plus X') (callC S cs n X') f args h nx))
section
variable {S : Sx} {E : Ev S.nb} {w0 : World}
theorem bodyC_ok {call : CallF} (hm : S.P.follows .mixedOrders = true) (N : Knows S E) (hP : PrimOk S E w0) (hC : CallOk S E w0 call) : CallOk S E w0 (bodyC S call) := fun f args h nx p hp γ w vs hi hA hb hlt hf => by
 unfold bodyC at hp
 simp only [Option.bind_eq_some_iff, ifO_some, Option.map_eq_some_iff, Nat.ble_eq, Nat.beq_eq] at hp
 obtain ⟨fn, h1, c, h2, h3, ⟨e, s'⟩, h4, h5, xs, h6, rfl⟩ := hp
 dsimp only at h5 h6
 subst h5
 obtain ⟨_, _, r⟩ := runB_ok hm N hP hC c _ _ _ h4
 refine calls_of_wp h1 h2 (r γ _ w _ ⟨hi, fun t v q => ?_, hb, hlt, ?_, rfl⟩ hf fun a' w' γ' hef hs => ?_)
 ·obtain ⟨_, q2⟩ := numb1_get q
  rw [Nat.sub_zero] at q2
  obtain ⟨u, hu, hv⟩ := hA.get q2
  have hlt : t < vs.length := (List.getElem?_eq_some_iff.1 hu).1
  have : (vs.toArray ++ Array.replicate (fn.ntmps - vs.toArray.size) undef).getD t undef = u := by
   rw [Array.getD_eq_getD_getElem?, Array.getElem?_append_left (by simpa using hlt)]
   simp [hu]
  show avOn _ v ((vs.toArray ++ Array.replicate (fn.ntmps - vs.toArray.size) undef).getD t undef)
  rw [this]
  exact hv
 ·have := hA.len
  simp
  omega
 ·obtain ⟨v, hv, hx⟩ := results_run hs h6
  exact ⟨hs.df, v, hv, v, γ', rfl, hef, hx, hs.bx⟩
theorem asB_kB {v : AV} {b : Bool} (h : asB v = some b) : v = kB b := by
 unfold asB at h
 rw [Option.bind_eq_some_iff] at h
 obtain ⟨c, h1, h2⟩ := h
 unfold asC at h1
 split at h1
 ·cases h1
  unfold acB at h2
  split at h2
  ·cases h2
   rfl
  ·cases h2
 ·cases h1
theorem agree_some {h : List HB} {b : Bool} {hi : Nat} {r : CRes} (hr : agree h b hi r = true) : ∃ h' nx', r = some (kB b, h', nx') ∧ nx' ≤ hi ∧ ∀ x ∈ h, x ∈ h' := by
 unfold agree at hr
 split at hr
 ·rename_i v h' nx'
  rw [Bool.and_eq_true, Bool.and_eq_true, Nat.ble_eq, List.all_eq_true] at hr
  obtain ⟨h1, h2, h3⟩ := hr
  refine ⟨h', nx', ?_, h2, fun x hx => ?_⟩
  ·split at h1
   ·rename_i c hc
    rw [asB_kB hc, show c = b from (by simpa using h1 : b = c).symm]
   ·cases h1
  ·have := h3 x hx
   rw [List.any_eq_true] at this
   obtain ⟨y, hy, e⟩ := this
   rw [Bool.and_eq_true, Nat.beq_eq] at e
   have : x = y := Prod.ext e.1.symm (acsW_eq e.2)
   rw [this]
   exact hy
 ·cases hr
variable {T : Hs → Prop} {z : Nat → Prop}
def AskTrue (S : Sx) (T : Hs → Prop) (z : Nat → Prop) : Prop := ∀ X, T X → ∀ a, askOk S a = true → (z a.2.2.2 → T ((a.1, a.2.1, a.2.2.1, 1) :: X)) ∧ (¬ z a.2.2.2 → T ((a.1, a.2.1, a.2.2.1, 0) :: X))
theorem allZ_true (hk : AskTrue S T z) : ∀ {l : List Ask} {X : Hs}, T X → (∀ a ∈ l, askOk S a = true) → (∀ a ∈ l, z a.2.2.2) → T (allZ l X)
 | [], _, h, _, _ => h
 | (k, a, b, d) :: l, X, h, ho, hz => allZ_true (l := l) hk ((hk X h (k, a, b, d) (ho _ List.mem_cons_self)).1 (hz _ List.mem_cons_self)) (fun a ha => ho a (List.mem_cons_of_mem _ ha)) (fun a ha => hz a (List.mem_cons_of_mem _ ha))
theorem splits_true (hk : AskTrue S T z) : ∀ {l : List Ask} {X : Hs}, T X → (∀ a ∈ l, askOk S a = true) → (∃ a ∈ l, ¬ z a.2.2.2) → ∃ X' ∈ splits l X, T X'
 | [], _, _, _, ⟨_, h, _⟩ => by cases h
 | (k, a, b, d) :: l, X, h, ho, hz => by
  by_cases e : z d
  ·obtain ⟨X', h1, h2⟩ := splits_true (l := l) hk ((hk X h (k, a, b, d) (ho _ List.mem_cons_self)).1 e) (fun a ha => ho a (List.mem_cons_of_mem _ ha)) (by
    obtain ⟨c, hc, hn⟩ := hz
    rcases List.mem_cons.1 hc with rfl | hc
    ·exact (hn e).elim
    ·exact ⟨c, hc, hn⟩)
   exact ⟨X', List.mem_cons_of_mem _ h1, h2⟩
  ·exact ⟨_, List.mem_cons_self, (hk X h (k, a, b, d) (ho _ List.mem_cons_self)).2 e⟩
theorem callC_ok {cs : List (FuncId × Nat)} (hm : S.P.follows .mixedOrders = true) (hN : ∀ X, T X → Knows (S.plus X) E) (hP : ∀ X, T X → PrimOk (S.plus X) E w0) (hk : AskTrue S T z)
  (hs : ∀ X, T X → ∀ l s r, sqN S l = some s → (S.plus X).kn 0 s 0 = some r → (Nat.beq 1 r = true → ∀ d ∈ l, z d) ∧ (Nat.beq 1 r = false → ∃ d ∈ l, ¬ z d)) : ∀ n X, T X → CallOk S E w0 (callC S cs n X)
 | 0, _, _ => fun _ _ _ _ _ h => by cases h
 | n + 1, X, hX => fun f args h nx p hp => by
  have body : ∀ Y, T Y → CallOk S E w0 (bodyC (S.plus Y) (callC S cs n Y)) := fun Y hY => bodyC_ok (S := S.plus Y) hm (hN Y hY) (hP Y hY) (callC_ok hm hN hP hk hs n Y hY)
  unfold callC at hp
  split at hp
  ·exact body X hX f args h nx p hp
  ·simp only [Option.bind_eq_some_iff, ifO_some, List.all_eq_true] at hp
   obtain ⟨l, _, hl, s, h1, r, h2, h3⟩ := hp
   obtain ⟨a1, a0⟩ := hs X hX _ s r h1 h2
   cases e : Nat.beq 1 r with
   | true =>
    rw [e] at h3
    exact body _ (allZ_true hk hX hl fun a ha => a1 e _ (List.mem_map_of_mem ha)) f args h nx p h3
   | false =>
    rw [e] at h3
    obtain ⟨d, hd, hz⟩ := a0 e
    obtain ⟨a, ha, rfl⟩ := List.mem_map.1 hd
    obtain ⟨X', m1, m2⟩ := splits_true hk hX hl ⟨a, ha, hz⟩
    replace h3 : joinC h nx ((splits l X).map fun X' => bodyC (S.plus X') (callC S cs n X') f args h nx) = some p := h3
    unfold joinC at h3
    split at h3
    ·rename_i p0 rs hrs
     rw [Option.bind_eq_some_iff] at h3
     obtain ⟨b, hb, h4⟩ := h3
     rw [ifO_some, List.all_eq_true] at h4
     obtain ⟨h5, h6⟩ := h4
     cases h6
     obtain ⟨h', nx', q1, q2, q3⟩ := agree_some (h5 _ (List.mem_map_of_mem m1))
     intro γ w vs hi hA hb hlt hf
     refine (body X' m2 f args h nx _ q1 γ w vs hi hA hb hlt fun b g1 g2 => hf b g1 (Nat.lt_of_lt_of_le g2 q2)).mono ?_
     rintro _ w' ⟨r', γ', rfl, hef, hv, hx⟩
     exact ⟨r', γ', rfl, hef.wide (Nat.le_refl _) q2, hv, fun x hh => hx x (q3 x hh)⟩
    ·cases h3
end
end Cx
/- VPC -/
namespace Go.Proofs.YtioacnhbiinjbaaGreatDoor
open Cx Go Go.RowKit
section
variable {N : List Nd} {H : List (Nat × Nat × Nat × Nat)} {K : List (FuncId × List AC)} {L C : List (List Nat × Nat)} {Z : List Nat} {q : Nat → Rat} {σ : Nat → ByteArray} {w0 : World} {cl : List FuncId} {cs pr : List (FuncId × Nat)}
theorem kn_cons {k a b k' a' b' r' : Nat} {r : Nat} (h : knFrom k a b ((k', a', b', r') :: H) = some r) : (k = k' ∧ a = a' ∧ b = b' ∧ r = r') ∨ knFrom k a b H = some r := by
 unfold knFrom at h
 cases e : (Nat.beq k k' && (Nat.beq a a' && Nat.beq b b')) with
 | true =>
  rw [e] at h
  simp only [Bool.and_eq_true, Nat.beq_eq] at e
  exact Or.inl ⟨e.1, e.2.1, e.2.2, (Option.some.inj h).symm⟩
 | false =>
  rw [e] at h
  exact Or.inr h
theorem Hy.add0 (Y : Hy N H L C Z q σ) {a r : Nat} (h : Nat.beq 1 r = true ↔ q a = 0) : Hy N ((0, a, 0, r) :: H) L C Z q σ where
 nat := Y.nat
 qs := Y.qs
 zs := Y.zs
 par := Y.par
 lit := Y.lit
 k0 := fun a' r' g => by
  rcases kn_cons g with ⟨_, e1, _, e2⟩ | g
  ·rw [e1, e2]
   exact h
  ·exact Y.k0 a' r' g
 k1 := fun a' r' g => by
  rcases kn_cons g with ⟨e, _⟩ | g
  ·cases e
  ·exact Y.k1 a' r' g
 k2 := fun a' r' g => by
  rcases kn_cons g with ⟨e, _⟩ | g
  ·cases e
  ·exact Y.k2 a' r' g
 k4 := fun l a' b' r' g1 g => by
  rcases kn_cons g with ⟨e, _⟩ | g
  ·cases e
  ·exact Y.k4 l a' b' r' g1 g
 k3 := fun a' b' r' g => by
  rcases kn_cons g with ⟨e, _⟩ | g
  ·cases e
  ·exact Y.k3 a' b' r' g
 k6 := fun a' b' r' g => by
  rcases kn_cons g with ⟨e, _⟩ | g
  ·cases e
  ·exact Y.k6 a' b' r' g
 k5 := fun a' r' g => by
  rcases kn_cons g with ⟨e, _⟩ | g
  ·cases e
  ·exact Y.k5 a' r' g
theorem Hy.add3 (Y : Hy N H L C Z q σ) {a b r : Nat} (h : Nat.beq 1 r = true ↔ q a = q b) : Hy N ((3, a, b, r) :: H) L C Z q σ where
 nat := Y.nat
 qs := Y.qs
 zs := Y.zs
 par := Y.par
 lit := Y.lit
 k0 := fun a' r' g => by
  rcases kn_cons g with ⟨e, _⟩ | g
  ·cases e
  ·exact Y.k0 a' r' g
 k1 := fun a' r' g => by
  rcases kn_cons g with ⟨e, _⟩ | g
  ·cases e
  ·exact Y.k1 a' r' g
 k2 := fun a' r' g => by
  rcases kn_cons g with ⟨e, _⟩ | g
  ·cases e
  ·exact Y.k2 a' r' g
 k4 := fun l a' b' r' g1 g => by
  rcases kn_cons g with ⟨e, _⟩ | g
  ·cases e
  ·exact Y.k4 l a' b' r' g1 g
 k3 := fun a' b' r' g => by
  rcases kn_cons g with ⟨_, e1, e2, e3⟩ | g
  ·rw [e1, e2, e3]
   exact h
  ·exact Y.k3 a' b' r' g
 k6 := fun a' b' r' g => by
  rcases kn_cons g with ⟨e, _⟩ | g
  ·cases e
  ·exact Y.k6 a' b' r' g
 k5 := fun a' r' g => by
  rcases kn_cons g with ⟨e, _⟩ | g
  ·cases e
  ·exact Y.k5 a' r' g
theorem ask_true : AskTrue (sx Tryz.prog N H K L C Z pr) (fun X => Hy N (X ++ H) L C Z q σ) (fun d => q d = 0) := fun X Y a ha => by
 obtain ⟨k, a, b, d⟩ := a
 have t1 : Nat.beq 1 1 = true := rfl
 have t0 : Nat.beq 1 0 ≠ true := fun h => by cases h
 unfold askOk at ha
 rw [Bool.or_eq_true] at ha
 rcases ha with ha | ha
 ·simp only [Bool.and_eq_true, Nat.beq_eq] at ha
  obtain ⟨rfl, rfl, rfl⟩ := ha
  exact ⟨fun h => Hy.add0 Y ⟨fun _ => h, fun _ => t1⟩, fun h => Hy.add0 Y ⟨fun g => (t0 g).elim, fun g => (h g).elim⟩⟩
 ·rw [Bool.and_eq_true, Nat.beq_eq] at ha
  obtain ⟨rfl, hb⟩ := ha
  split at hb
  ·rename_i op ar hn
   rw [Bool.and_eq_true, Nat.beq_eq] at hb
   obtain ⟨rfl, hb⟩ := hb
   have e := beqL_eq hb
   subst e
   have hv : q d = q a - q b := Y.nat d _ hn
   have h2 : q d = 0 ↔ q a = q b := by
    rw [hv]
    constructor <;> intro h <;> grind
   exact ⟨fun h => Hy.add3 Y ⟨fun _ => h2.1 h, fun _ => t1⟩, fun h => Hy.add3 Y ⟨fun g => (t0 g).elim, fun g => (h (h2.2 g)).elim⟩⟩
  ·cases hb
theorem sq_nn (y : Rat) : 0 ≤ y * y := by
 by_cases h : y = 0
 ·rw [h, Rat.zero_mul]
  exact Rat.le_refl
 ·exact Rat.le_of_lt (sq1_pos h)
theorem sq_sum {x y : Rat} (hx : 0 ≤ x) : x + y * y = 0 ↔ x = 0 ∧ y = 0 := by
 constructor
 ·intro h
  have h2 := sq_nn y
  have h3 : x = 0 := by grind
  refine ⟨h3, ?_⟩
  have : y * y = 0 := by grind
  rcases Rat.mul_eq_zero.1 this with g | g <;> exact g
 ·rintro ⟨rfl, rfl⟩
  grind
theorem sqF_val {H' : List (Nat × Nat × Nat × Nat)} (Y : Hy N H' L C Z q σ) : ∀ {l : List Nat} {s t : Nat}, sqF (sx Tryz.prog N H K L C Z pr) s l = some t → 0 ≤ q s → 0 ≤ q t ∧ (q t = 0 ↔ q s = 0 ∧ ∀ d ∈ l, q d = 0)
 | [], s, t, h, hs => by
  cases h
  exact ⟨hs, fun e => ⟨e, fun d hd => by cases hd⟩, fun e => e.1⟩
 | a :: l, s, t, h, hs => by
  unfold sqF at h
  simp only [Option.bind_eq_some_iff] at h
  obtain ⟨b, h1, c, h2, h3⟩ := h
  have e1 : q b = q a * q a := Hy.nd (H := H') (K := K) (pr := pr) Y h1
  have e2 : q c = q s + q b := Hy.nd (H := H') (K := K) (pr := pr) Y h2
  have n := sq_nn (q a)
  obtain ⟨g1, g2⟩ := sqF_val Y h3 (by grind)
  refine ⟨g1, g2.trans ?_⟩
  have e3 := sq_sum (y := q a) hs
  rw [e2, e1, e3]
  constructor
  ·rintro ⟨⟨x, y⟩, z⟩
   refine ⟨x, fun d hd => ?_⟩
   rcases List.mem_cons.1 hd with rfl | hd
   ·exact y
   ·exact z d hd
  ·rintro ⟨x, y⟩
   exact ⟨⟨x, y a List.mem_cons_self⟩, fun d hd => y d (List.mem_cons_of_mem _ hd)⟩
theorem sqN_val {H' : List (Nat × Nat × Nat × Nat)} (Y : Hy N H' L C Z q σ) {l : List Nat} {s : Nat} (h : sqN (sx Tryz.prog N H K L C Z pr) l = some s) : q s = 0 ↔ ∀ d ∈ l, q d = 0 := by
 unfold sqN at h
 split at h
 ·cases h
 ·rename_i a l
  rw [Option.bind_eq_some_iff] at h
  obtain ⟨b, h1, h2⟩ := h
  have e1 : q b = q a * q a := Hy.nd (H := H') (K := K) (pr := pr) Y h1
  have n := sq_nn (q a)
  obtain ⟨_, g⟩ := sqF_val Y h2 (by grind)
  rw [g, e1]
  constructor
  ·rintro ⟨x, y⟩ d hd
   rcases List.mem_cons.1 hd with rfl | hd
   ·rcases Rat.mul_eq_zero.1 x with x | x <;> exact x
   ·exact y d hd
  ·intro y
   refine ⟨?_, fun d hd => y d (List.mem_cons_of_mem _ hd)⟩
   rw [y a List.mem_cons_self, Rat.zero_mul]
theorem run_cases {f : FuncId} {args : List AV} {vs : List Value} {k : Nat} {p : List HB × Nat} {b : Bool} (Y : Hy N H L C Z q σ) (hm : (Tryz.prog).follows .mixedOrders = true) {w : World} (hP : ∀ H', Hy N H' L C Z q σ → PrimOk (sx Tryz.prog N H' K L C Z pr) (evS q σ) w) (hr : callC (sx Tryz.prog N H K L C Z pr) cs k [] f args [] 0 = some (kB b, p))
  (hA : A2 (avOn (cOn (evS q σ) K (fun _ => none) w)) args vs) : Calls Tryz.prog f vs.toArray w fun e w' => Below w.heap.size w w' ∧ e = .returned (.bool b) := by
 refine (callC_ok (S := sx Tryz.prog N H K L C Z pr) (E := evS q σ) (w0 := w) (T := fun X => Hy N (X ++ H) L C Z q σ) (z := fun d => q d = 0) hm (fun X hX => knows hX) (fun X hX => hP _ hX) ask_true ?_ k [] Y f args [] 0 (kB b, p) hr (fun _ => none) w vs ⟨Below.refl _ _, (fun _ _ h => by cases h)⟩ hA (fun x hx => by cases hx) (fun x hx => by cases hx) (fun _ _ _ => rfl)).mono ?_
 ·intro X hX l s r h1 h2
  have e := hX.k0 s r h2
  have g := sqN_val hX h1
  refine ⟨fun h => g.1 (e.1 h), fun h => ?_⟩
  have hn : ¬ ∀ d ∈ l, q d = 0 := fun q' => by
   rw [e.2 (g.2 q')] at h
   cases h
  simpa using hn
 ·rintro _ w' ⟨r, γ', rfl, hef, hv, _⟩
  exact ⟨hef.wi.bel, by rw [show r = .bool b from (asC_on (v := kB b) (c := .inl (.bool b)) rfl hv).1]⟩
theorem run_toldC {f : FuncId} {args : List AV} {vs : List Value} {k : Nat} {p : List HB × Nat} {b : Bool} (Y : Hy N H L C Z q σ) (hc : ∀ f ∈ cl, Closed f) (hm : (Tryz.prog).follows .mixedOrders = true) (hr : callC (sx Tryz.prog N H K L C Z (prC cl)) cs k [] f args [] 0 = some (kB b, p)) {w : World} (hp : PreS w)
  (hA : A2 (avOn (cOn (evS q σ) K (fun _ => none) w)) args vs) : Calls Tryz.prog f vs.toArray w fun e w' => Below w.heap.size w w' ∧ e = .returned (.bool b) := run_cases Y hm (fun _ Y' => primOk Y' hp hc) hr hA
theorem run_toldC' {f : FuncId} {args : List AV} {vs : List Value} (k : Nat) (Y : Hy N H L C Z q σ) (hc : ∀ f ∈ cl, Closed f) (hm : (Tryz.prog).follows .mixedOrders = true) (hr : (callC (sx Tryz.prog N H K L C Z (prC cl)) cs k [] f args [] 0).map (·.1) = some (kB true)) {w : World} (hp : PreS w)
  (hA : A2 (avOn (cOn (evS q σ) K (fun _ => none) w)) args vs) : Calls Tryz.prog f vs.toArray w fun e w' => Below w.heap.size w w' ∧ e = .returned (.bool true) := by
 rw [Option.map_eq_some_iff] at hr
 obtain ⟨⟨v, p⟩, h1, h2⟩ := hr
 dsimp only at h2
 subst h2
 exact run_toldC Y hc hm h1 hp hA
theorem dot_ne {a b c x y z : Rat} (h1 : ¬ ((a = 0 ∧ b = 0) ∧ c = 0)) (h2 : ¬ ((x = 0 ∧ y = 0) ∧ z = 0)) (p : b * z - c * y = 0) (q : c * x - a * z = 0) (r : a * y - b * x = 0) : a * x + b * y + c * z ≠ 0 := fun d => by
 have e : (a * a + b * b + c * c) * (x * x + y * y + z * z) = 0 := by
  have : (a * a + b * b + c * c) * (x * x + y * y + z * z) = (b * z - c * y) * (b * z - c * y) + (c * x - a * z) * (c * x - a * z) + (a * y - b * x) * (a * y - b * x) + (a * x + b * y + c * z) * (a * x + b * y + c * z) := by grind
  rw [this, p, q, r, d]
  decide +kernel
 have k : ∀ {a b c : Rat}, a * a + b * b + c * c = 0 → (a = 0 ∧ b = 0) ∧ c = 0 := fun {a b c} h => by
  have n1 := sq_nn a
  have n2 := sq_nn b
  have h3 := (sq_sum (x := a * a + b * b) (y := c) (by grind)).1 h
  have h4 := (sq_sum (x := a * a) (y := b) n1).1 h3.1
  exact ⟨⟨(Rat.mul_eq_zero.1 h4.1).elim id id, h4.2⟩, h3.2⟩
 exact (Rat.mul_eq_zero.1 e).elim (fun h => h1 (k h)) (fun h => h2 (k h))
theorem trip_fac {x y z g a b c : Rat} (h : ¬ ((x = 0 ∧ y = 0) ∧ z = 0)) (hg : g ≠ 0) (ha : a = x * g) (hb : b = y * g) (hc : c = z * g) : ¬ ((a = 0 ∧ b = 0) ∧ c = 0) := by
 rintro ⟨⟨h1, h2⟩, h3⟩
 rw [ha] at h1
 rw [hb] at h2
 rw [hc] at h3
 exact h ⟨⟨(Rat.mul_eq_zero.1 h1).resolve_right hg, (Rat.mul_eq_zero.1 h2).resolve_right hg⟩, (Rat.mul_eq_zero.1 h3).resolve_right hg⟩
theorem harm_sig {a1 a2 a3 b1 b2 b3 c1 c2 c3 J1 J2 J3 X1 X2 X3 B1 B2 B3 s : Rat} (j1 : J1 = a2 * b3 - a3 * b2) (j2 : J2 = a3 * b1 - a1 * b3) (j3 : J3 = a1 * b2 - a2 * b1) (x1 : X1 = c2 * b3 - c3 * b2) (x2 : X2 = c3 * b1 - c1 * b3) (x3 : X3 = c1 * b2 - c2 * b1) (y1 : B1 = b2 * c3 - b3 * c2) (y2 : B2 = b3 * c1 - b1 * c3) (y3 : B3 = b1 * c2 - b2 * c1) (hJ : ¬ ((J1 = 0 ∧ J2 = 0) ∧ J3 = 0)) (hB : ¬ ((B1 = 0 ∧ B2 = 0) ∧ B3 = 0)) (hd : 0 = 0 + c1 * J1 + c2 * J2 + c3 * J3) (hs : s = 0 + X1 * J1 + X2 * J2 + X3 * J3) : s ≠ 0 := by
 have hX : ¬ ((X1 = 0 ∧ X2 = 0) ∧ X3 = 0) := by
  rintro ⟨⟨h1, h2⟩, h3⟩
  exact hB ⟨⟨by grind, by grind⟩, by grind⟩
 have e := dot_ne hX hJ (by subst j1 j2 j3 x1 x2 x3; grind) (by subst j1 j2 j3 x1 x2 x3; grind) (by subst j1 j2 j3 x1 x2 x3; grind)
 rw [hs, Rat.zero_add]
 exact e
theorem comb_ne {a1 a2 a3 b1 b2 b3 J1 J2 J3 D1 D2 D3 s t : Rat} (j1 : J1 = a2 * b3 - a3 * b2) (j2 : J2 = a3 * b1 - a1 * b3) (j3 : J3 = a1 * b2 - a2 * b1) (hJ : ¬ ((J1 = 0 ∧ J2 = 0) ∧ J3 = 0)) (hs : s ≠ 0) (d1 : D1 = a1 * s + b1 * t) (d2 : D2 = a2 * s + b2 * t) (d3 : D3 = a3 * s + b3 * t) : ¬ ((D1 = 0 ∧ D2 = 0) ∧ D3 = 0) := by
 rintro ⟨⟨h1, h2⟩, h3⟩
 rw [h1] at d1
 rw [h2] at d2
 rw [h3] at d3
 refine hJ ⟨⟨?_, ?_⟩, ?_⟩
 ·exact (Rat.mul_eq_zero.1 (show s * J1 = 0 by rw [j1]; grind)).resolve_left hs
 ·exact (Rat.mul_eq_zero.1 (show s * J2 = 0 by rw [j2]; grind)).resolve_left hs
 ·exact (Rat.mul_eq_zero.1 (show s * J3 = 0 by rw [j3]; grind)).resolve_left hs
theorem cross_nz {a1 a2 a3 b1 b2 b3 g h p1 p2 p3 r1 r2 r3 J1 J2 J3 : Rat} (q1 : p1 = a1 * g) (q2 : p2 = a2 * g) (q3 : p3 = a3 * g) (s1 : r1 = b1 * h) (s2 : r2 = b2 * h) (s3 : r3 = b3 * h) (j1 : J1 = p2 * r3 - p3 * r2) (j2 : J2 = p3 * r1 - p1 * r3) (j3 : J3 = p1 * r2 - p2 * r1) (hJ : ¬ ((J1 = 0 ∧ J2 = 0) ∧ J3 = 0)) : ¬ ((a1 * b2 - a2 * b1 = 0 ∧ a2 * b3 - a3 * b2 = 0) ∧ a3 * b1 - a1 * b3 = 0) := by
 rintro ⟨⟨h1, h2⟩, h3⟩
 subst q1 q2 q3 s1 s2 s3
 have k1 : J1 = g * h * (a2 * b3 - a3 * b2) := by rw [j1]; grind
 have k2 : J2 = g * h * (a3 * b1 - a1 * b3) := by rw [j2]; grind
 have k3 : J3 = g * h * (a1 * b2 - a2 * b1) := by rw [j3]; grind
 exact hJ ⟨⟨by rw [k1, h2, Rat.mul_zero], by rw [k2, h3, Rat.mul_zero]⟩, by rw [k3, h1, Rat.mul_zero]⟩
theorem det_zero {A1 A2 A3 B1 B2 B3 C1 C2 C3 a1 a2 a3 b1 b2 b3 c1 c2 c3 g h k J1 J2 J3 : Rat} (q1 : a1 = A1 * g) (q2 : a2 = A2 * g) (q3 : a3 = A3 * g) (r1 : b1 = B1 * h) (r2 : b2 = B2 * h) (r3 : b3 = B3 * h) (s1 : c1 = C1 * k) (s2 : c2 = C2 * k) (s3 : c3 = C3 * k) (j1 : J1 = a2 * b3 - a3 * b2) (j2 : J2 = a3 * b1 - a1 * b3) (j3 : J3 = a1 * b2 - a2 * b1) (hg : g ≠ 0) (hh : h ≠ 0) (hk : k ≠ 0) (hd : 0 = 0 + c1 * J1 + c2 * J2 + c3 * J3) : C1 * (A2 * B3 - A3 * B2) + C2 * (A3 * B1 - A1 * B3) + C3 * (A1 * B2 - A2 * B1) = 0 := by
 subst q1 q2 q3 r1 r2 r3 s1 s2 s3
 have e : (g * (h * k)) * (C1 * (A2 * B3 - A3 * B2) + C2 * (A3 * B1 - A1 * B3) + C3 * (A1 * B2 - A2 * B1)) = 0 := by
  rw [j1, j2, j3] at hd
  grind
 exact (Rat.mul_eq_zero.1 e).resolve_left (mul_ne hg (mul_ne hh hk))
theorem share_s {A1 A2 A3 B1 B2 B3 C1 C2 C3 a1 a2 a3 b1 b2 b3 c1 c2 c3 g h k J1 J2 J3 X1 X2 X3 s : Rat} (_q1 : a1 = A1 * g) (_q2 : a2 = A2 * g) (_q3 : a3 = A3 * g) (r1 : b1 = B1 * h) (r2 : b2 = B2 * h) (r3 : b3 = B3 * h) (s1 : c1 = C1 * k) (s2 : c2 = C2 * k) (s3 : c3 = C3 * k) (j1 : J1 = a2 * b3 - a3 * b2) (j2 : J2 = a3 * b1 - a1 * b3) (j3 : J3 = a1 * b2 - a2 * b1) (hC : C1 * (A2 * B3 - A3 * B2) + C2 * (A3 * B1 - A1 * B3) + C3 * (A1 * B2 - A2 * B1) = 0) (x1 : X1 = c2 * b3 - c3 * b2) (x2 : X2 = c3 * b1 - c1 * b3) (x3 : X3 = c1 * b2 - c2 * b1) (hs : s = 0 + X1 * J1 + X2 * J2 + X3 * J3) : s * (A1 * B2 - A2 * B1) = (C1 * B2 - C2 * B1) * (h * k * ((A2 * B3 - A3 * B2) * J1 + (A3 * B1 - A1 * B3) * J2 + (A1 * B2 - A2 * B1) * J3)) ∧ s * (A2 * B3 - A3 * B2) = (C2 * B3 - C3 * B2) * (h * k * ((A2 * B3 - A3 * B2) * J1 + (A3 * B1 - A1 * B3) * J2 + (A1 * B2 - A2 * B1) * J3)) ∧ s * (A3 * B1 - A1 * B3) = (C3 * B1 - C1 * B3) * (h * k * ((A2 * B3 - A3 * B2) * J1 + (A3 * B1 - A1 * B3) * J2 + (A1 * B2 - A2 * B1) * J3)) := by
 subst r1 r2 r3 s1 s2 s3
 clear j1 j2 j3
 refine ⟨?_, ?_, ?_⟩ <;> rw [hs, x1, x2, x3] <;> grind
theorem share_t {A1 A2 A3 B1 B2 B3 C1 C2 C3 a1 a2 a3 b1 b2 b3 c1 c2 c3 g h k J1 J2 J3 Y1 Y2 Y3 t : Rat} (q1 : a1 = A1 * g) (q2 : a2 = A2 * g) (q3 : a3 = A3 * g) (_r1 : b1 = B1 * h) (_r2 : b2 = B2 * h) (_r3 : b3 = B3 * h) (s1 : c1 = C1 * k) (s2 : c2 = C2 * k) (s3 : c3 = C3 * k) (j1 : J1 = a2 * b3 - a3 * b2) (j2 : J2 = a3 * b1 - a1 * b3) (j3 : J3 = a1 * b2 - a2 * b1) (hC : C1 * (A2 * B3 - A3 * B2) + C2 * (A3 * B1 - A1 * B3) + C3 * (A1 * B2 - A2 * B1) = 0) (y1 : Y1 = a2 * c3 - a3 * c2) (y2 : Y2 = a3 * c1 - a1 * c3) (y3 : Y3 = a1 * c2 - a2 * c1) (ht : t = 0 + Y1 * J1 + Y2 * J2 + Y3 * J3) : t * (A1 * B2 - A2 * B1) = (A1 * C2 - A2 * C1) * (g * k * ((A2 * B3 - A3 * B2) * J1 + (A3 * B1 - A1 * B3) * J2 + (A1 * B2 - A2 * B1) * J3)) ∧ t * (A2 * B3 - A3 * B2) = (A2 * C3 - A3 * C2) * (g * k * ((A2 * B3 - A3 * B2) * J1 + (A3 * B1 - A1 * B3) * J2 + (A1 * B2 - A2 * B1) * J3)) ∧ t * (A3 * B1 - A1 * B3) = (A3 * C1 - A1 * C3) * (g * k * ((A2 * B3 - A3 * B2) * J1 + (A3 * B1 - A1 * B3) * J2 + (A1 * B2 - A2 * B1) * J3)) := by
 subst q1 q2 q3 s1 s2 s3
 clear j1 j2 j3
 refine ⟨?_, ?_, ?_⟩ <;> rw [ht, y1, y2, y3] <;> grind
theorem harm_tau {a1 a2 a3 b1 b2 b3 c1 c2 c3 J1 J2 J3 Y1 Y2 Y3 t : Rat} (j1 : J1 = a2 * b3 - a3 * b2) (j2 : J2 = a3 * b1 - a1 * b3) (j3 : J3 = a1 * b2 - a2 * b1) (y1 : Y1 = a2 * c3 - a3 * c2) (y2 : Y2 = a3 * c1 - a1 * c3) (y3 : Y3 = a1 * c2 - a2 * c1) (hJ : ¬ ((J1 = 0 ∧ J2 = 0) ∧ J3 = 0)) (hY : ¬ ((Y1 = 0 ∧ Y2 = 0) ∧ Y3 = 0)) (hd : 0 = 0 + c1 * J1 + c2 * J2 + c3 * J3) (ht : t = 0 + Y1 * J1 + Y2 * J2 + Y3 * J3) : t ≠ 0 := by
 have e := dot_ne hY hJ (by subst j1 j2 j3 y1 y2 y3; grind) (by subst j1 j2 j3 y1 y2 y3; grind) (by subst j1 j2 j3 y1 y2 y3; grind)
 rw [ht, Rat.zero_add]
 exact e
theorem ratio_main {x y z w d S T U V s t u v g h k l M : Rat} (hd : d ≠ 0) (hx : x ≠ 0) (hw : w ≠ 0) (h1 : x * d = S * (h * k * M)) (h2 : y * d = T * (g * k * M)) (h3 : z * d = U * (h * l * M)) (h4 : w * d = V * (g * l * M)) (es : s = S / d) (et : t = T / d) (eu : u = U / d) (ev : v = V / d) : y / x * (z / w) = t * u / (s * v) := by
 have n1 : S * (h * k * M) ≠ 0 := by rw [← h1]; exact mul_ne hx hd
 have n4 : V * (g * l * M) ≠ 0 := by rw [← h4]; exact mul_ne hw hd
 have nS : S ≠ 0 := fun e => n1 (by rw [e, Rat.zero_mul])
 have nV : V ≠ 0 := fun e => n4 (by rw [e, Rat.zero_mul])
 have nP : (h * k * M) * (g * l * M) ≠ 0 := mul_ne (fun e => n1 (by rw [e, Rat.mul_zero])) (fun e => n4 (by rw [e, Rat.mul_zero]))
 have ns : s ≠ 0 := fun e => nS (by rw [← Rat.div_mul_cancel (b := d) (a := S) hd, ← es, e, Rat.zero_mul])
 have nv : v ≠ 0 := fun e => nV (by rw [← Rat.div_mul_cancel (b := d) (a := V) hd, ← ev, e, Rat.zero_mul])
 have s1 : s * d = S := by rw [es]; exact Rat.div_mul_cancel hd
 have t1 : t * d = T := by rw [et]; exact Rat.div_mul_cancel hd
 have u1 : u * d = U := by rw [eu]; exact Rat.div_mul_cancel hd
 have v1 : v * d = V := by rw [ev]; exact Rat.div_mul_cancel hd
 obtain ⟨p, hp⟩ : ∃ p, p = y / x := ⟨_, rfl⟩
 obtain ⟨r, hr⟩ : ∃ r, r = z / w := ⟨_, rfl⟩
 obtain ⟨f, hf⟩ : ∃ f, f = t * u / (s * v) := ⟨_, rfl⟩
 have p1 : p * x = y := by rw [hp]; exact Rat.div_mul_cancel hx
 have r1 : r * w = z := by rw [hr]; exact Rat.div_mul_cancel hw
 have f1 : f * (s * v) = t * u := by rw [hf]; exact Rat.div_mul_cancel (mul_ne ns nv)
 rw [← hp, ← hr, ← hf]
 clear hp hr hf es et eu ev
 have k1 : (p * r) * (S * V) * ((h * k * M) * (g * l * M)) = (T * U) * ((h * k * M) * (g * l * M)) := by
  have a1 : (p * r) * (S * V) * ((h * k * M) * (g * l * M)) = (p * r) * ((x * d) * (w * d)) := by rw [h1, h4]; grind
  have a2 : (T * U) * ((h * k * M) * (g * l * M)) = (y * d) * (z * d) := by rw [h2, h3]; grind
  rw [a1, a2, ← p1, ← r1]
  grind
 have k2 : (p * r) * (S * V) = T * U := by
  have : ((p * r) * (S * V) - T * U) * ((h * k * M) * (g * l * M)) = 0 := by grind
  have := (Rat.mul_eq_zero.1 this).resolve_right nP
  grind
 have k3 : f * (S * V) = T * U := by
  rw [← s1, ← v1, ← t1, ← u1]
  have : f * (s * d * (v * d)) = (f * (s * v)) * (d * d) := by grind
  rw [this, f1]
  grind
 have : (p * r - f) * (S * V) = 0 := by grind
 have := (Rat.mul_eq_zero.1 this).resolve_right (mul_ne nS nV)
 grind
theorem sq_first {u x : Rat} (h : u = x * x) : 0 ≤ u ∧ (u = 0 ↔ x = 0) := by
 rw [h]
 exact ⟨sq_nn x, fun e => (Rat.mul_eq_zero.1 e).elim id id, fun e => by rw [e, Rat.zero_mul]⟩
theorem sq_next {p : Prop} {s x v t : Rat} (h : 0 ≤ s ∧ (s = 0 ↔ p)) (hv : v = x * x) (ht : t = s + v) : 0 ≤ t ∧ (t = 0 ↔ (p ∧ x = 0)) := by
 have n := sq_nn x
 refine ⟨by have := h.1; grind, ?_⟩
 rw [ht, hv, sq_sum h.1, h.2]
end
end Go.Proofs.YtioacnhbiinjbaaGreatDoor
/- CFprojected -/
namespace Go.Proofs.YtioacnhbiinjbaaGreatDoor
open Go.RowKit Cx
theorem closed_projected : Closed 75 :=
 closed_told (N := [(0, [0, 1, 1]), (0, [0, 0, 1]), (8, [0, 0, 1, 1]), (8, [1, 0, 1, 1]), (8, [2, 0, 1, 1]), (8, [0, 1, 0, 0]), (8, [1, 1, 0, 0]), (8, [2, 1, 0, 0]), (4, [3, 7]), (4, [4, 6]), (3, [8, 9]), (4, [4, 5]), (4, [2, 7]), (3, [11, 12]), (4, [2, 6]), (4, [3, 5]), (3, [14, 15]), (8, [0, 10, 13, 16]), (8, [1, 10, 13, 16]), (8, [2, 10, 13, 16]), (8, [0, 1, 0, 1]), (8, [1, 1, 0, 1]), (8, [2, 1, 0, 1]), (4, [3, 22]), (4, [4, 21]), (3, [23, 24]), (4, [4, 20]), (4, [2, 22]), (3, [26, 27]), (4, [2, 21]), (4, [3, 20]), (3, [29, 30]), (8, [0, 0, 0, 1]), (8, [1, 0, 0, 1]), (8, [2, 0, 0, 1]), (4, [3, 34]), (4, [4, 33]), (3, [35, 36]), (4, [4, 32]), (4, [2, 34]), (3, [38, 39]), (4, [2, 33]), (4, [3, 32]), (3, [41, 42]), (4, [21, 34]), (4, [22, 33]), (3, [44, 45]), (4, [22, 32]), (4, [20, 34]), (3, [47, 48]), (4, [20, 33]), (4, [21, 32]), (3, [50, 51]), (4, [32, 25]), (2, [1, 53]), (4, [33, 28]), (2, [54, 55]), (4, [34, 31]), (2, [56, 57]), (4, [33, 22]), (4, [34, 21]), (3, [59, 60]), (4, [34, 20]), (4, [32, 22]), (3, [62, 63]), (4, [32, 21]), (4, [33, 20]), (3, [65, 66]), (4, [61, 25]), (2, [1, 68]), (4, [64, 28]), (2, [69, 70]), (4, [67, 31]), (2, [71, 72]), (4, [37, 25]), (2, [1, 74]), (4, [40, 28]), (2, [75, 76]), (4, [43, 31]), (2, [77, 78]), (4, [2, 73]), (4, [3, 73]), (4, [4, 73]), (5, [79]), (4, [20, 83]), (4, [21, 83]), (4, [22, 83]), (2, [80, 84]), (2, [81, 85]), (2, [82, 86]), (8, [0, 87, 88, 89]), (8, [1, 87, 88, 89]), (8, [2, 87, 88, 89]), (0, [0, 2, 1]), (8, [0, 0, 93, 1]), (8, [1, 0, 93, 1]), (8, [2, 0, 93, 1]), (4, [3, 96]), (4, [4, 95]), (3, [97, 98]), (4, [4, 94]), (4, [2, 96]), (3, [100, 101]), (4, [2, 95]), (4, [3, 94]), (3, [103, 104]), (4, [21, 96]), (4, [22, 95]), (3, [106, 107]), (4, [22, 94]), (4, [20, 96]), (3, [109, 110]), (4, [20, 95]), (4, [21, 94]), (3, [112, 113]), (4, [33, 96]), (4, [34, 95]), (3, [115, 116]), (4, [34, 94]), (4, [32, 96]), (3, [118, 119]), (4, [32, 95]), (4, [33, 94]), (3, [121, 122]), (4, [94, 25]), (2, [1, 124]), (4, [95, 28]), (2, [125, 126]), (4, [96, 31]), (2, [127, 128]), (4, [95, 22]), (4, [96, 21]), (3, [130, 131]), (4, [96, 20]), (4, [94, 22]), (3, [133, 134]), (4, [94, 21]), (4, [95, 20]), (3, [136, 137]), (4, [132, 25]), (2, [1, 139]), (4, [135, 28]), (2, [140, 141]), (4, [138, 31]), (2, [142, 143]), (4, [99, 25]), (2, [1, 145]), (4, [102, 28]), (2, [146, 147]), (4, [105, 31]), (2, [148, 149]), (6, [79, 73]), (6, [144, 150]), (4, [151, 152]), (0, [1, 1, 1]), (0, [0, 1, 2])]) (H := [(0, 0, 0, 0), (0, 1, 0, 1), (0, 10, 0, 1), (0, 13, 0, 0), (0, 25, 0, 1), (0, 28, 0, 1), (0, 31, 0, 0), (0, 37, 0, 1), (0, 40, 0, 1), (0, 43, 0, 0), (0, 46, 0, 1), (0, 49, 0, 1), (0, 52, 0, 0), (0, 58, 0, 1), (0, 99, 0, 1), (0, 102, 0, 1), (0, 105, 0, 0), (0, 108, 0, 1), (0, 111, 0, 1), (0, 114, 0, 0), (0, 117, 0, 1), (0, 120, 0, 1), (0, 123, 0, 0), (0, 129, 0, 1), (4, 17, 1, 1), (4, 18, 0, 1), (4, 19, 154, 1), (4, 90, 0, 1), (4, 91, 154, 1), (4, 92, 1, 1), (4, 153, 155, 1)]) (K := []) (L := [([49], 0), ([48], 1), ([50], 93), ([45, 49], 154), ([49, 47, 50], 155)]) (C := [([48], 1), ([49], 0), ([45, 49], 154), ([49, 47, 50], 155)]) (Z := [2, 2, 9, 9, 9, 9, 9, 9, 18, 18, 37, 18, 18, 37, 18, 18, 37, 149, 149, 149, 9, 9, 9, 18, 18, 37, 18, 18, 37, 18, 18, 37, 9, 9, 9, 18, 18, 37, 18, 18, 37, 18, 18, 37, 18, 18, 37, 18, 18, 37, 18, 18, 37, 46, 49, 46, 96, 46, 143, 18, 18, 37, 18, 18, 37, 18, 18, 37, 74, 77, 74, 152, 74, 227, 74, 77, 74, 152, 74, 227, 236, 236, 236, 227, 236, 236, 236, 473, 473, 473, 1893, 1893, 1893, 3, 13, 13, 13, 22, 22, 45, 22, 22, 45, 22, 22, 45, 22, 22, 45, 22, 22, 45, 22, 22, 45, 22, 22, 45, 22, 22, 45, 22, 22, 45, 50, 53, 50, 104, 50, 155, 22, 22, 45, 22, 22, 45, 22, 22, 45, 82, 85, 82, 168, 82, 251, 82, 85, 82, 168, 82, 251, 454, 502, 956, 2, 3]) (cl := []) 6 (fun _ h => by cases h) (by kernel_rfl) (by kernel_rfl) (by kernel_rfl) (by kernel_rfl) (by kernel_rfl) (by kernel_rfl) (by kernel_rfl)
end Go.Proofs.YtioacnhbiinjbaaGreatDoor
/- MPR -/
namespace Go.Proofs.YtioacnhbiinjbaaGreatDoor
open Go.RowKit Cx
def projectRatio_N : List Nd := [(1, [0]), (1, [1]), (1, [2]), (4, [0, 0]), (4, [1, 1]), (2, [3, 4]), (4, [2, 2]), (2, [5, 6]), (8, [0, 0, 1, 2]), (8, [1, 0, 1, 2]), (8, [2, 0, 1, 2]), (1, [3]), (1, [4]), (1, [5]), (4, [11, 11]), (4, [12, 12]), (2, [14, 15]), (4, [13, 13]), (2, [16, 17]), (8, [0, 11, 12, 13]), (8, [1, 11, 12, 13]), (8, [2, 11, 12, 13]), (4, [9, 21]), (4, [10, 20]), (3, [22, 23]), (4, [10, 19]), (4, [8, 21]), (3, [25, 26]), (4, [8, 20]), (4, [9, 19]), (3, [28, 29]), (4, [24, 24]), (4, [27, 27]), (2, [31, 32]), (4, [30, 30]), (2, [33, 34]), (4, [1, 11]), (4, [0, 12]), (3, [36, 37]), (4, [2, 11]), (4, [0, 13]), (3, [39, 40]), (4, [2, 12]), (4, [1, 13]), (3, [42, 43]), (4, [38, 38]), (4, [41, 41]), (2, [45, 46]), (4, [44, 44]), (2, [47, 48]), (1, [6]), (1, [7]), (1, [8]), (4, [50, 50]), (4, [51, 51]), (2, [53, 54]), (4, [52, 52]), (2, [55, 56]), (8, [0, 50, 51, 52]), (8, [1, 50, 51, 52]), (8, [2, 50, 51, 52]), (4, [9, 60]), (4, [10, 59]), (3, [61, 62]), (4, [10, 58]), (4, [8, 60]), (3, [64, 65]), (4, [8, 59]), (4, [9, 58]), (3, [67, 68]), (4, [63, 63]), (4, [66, 66]), (2, [70, 71]), (4, [69, 69]), (2, [72, 73]), (4, [1, 50]), (4, [0, 51]), (3, [75, 76]), (4, [2, 50]), (4, [0, 52]), (3, [78, 79]), (4, [2, 51]), (4, [1, 52]), (3, [81, 82]), (4, [77, 77]), (4, [80, 80]), (2, [84, 85]), (4, [83, 83]), (2, [86, 87]), (4, [20, 60]), (4, [21, 59]), (3, [89, 90]), (4, [21, 58]), (4, [19, 60]), (3, [92, 93]), (4, [19, 59]), (4, [20, 58]), (3, [95, 96]), (4, [91, 91]), (4, [94, 94]), (2, [98, 99]), (4, [97, 97]), (2, [100, 101]), (4, [12, 50]), (4, [11, 51]), (3, [103, 104]), (4, [13, 50]), (4, [11, 52]), (3, [106, 107]), (4, [13, 51]), (4, [12, 52]), (3, [109, 110]), (4, [105, 105]), (4, [108, 108]), (2, [112, 113]), (4, [111, 111]), (2, [114, 115]), (1, [9]), (1, [10]), (1, [11]), (4, [117, 117]), (4, [118, 118]), (2, [120, 121]), (4, [119, 119]), (2, [122, 123]), (8, [0, 117, 118, 119]), (8, [1, 117, 118, 119]), (8, [2, 117, 118, 119]), (4, [9, 127]), (4, [10, 126]), (3, [128, 129]), (4, [10, 125]), (4, [8, 127]), (3, [131, 132]), (4, [8, 126]), (4, [9, 125]), (3, [134, 135]), (4, [130, 130]), (4, [133, 133]), (2, [137, 138]), (4, [136, 136]), (2, [139, 140]), (4, [1, 117]), (4, [0, 118]), (3, [142, 143]), (4, [2, 117]), (4, [0, 119]), (3, [145, 146]), (4, [2, 118]), (4, [1, 119]), (3, [148, 149]), (4, [144, 144]), (4, [147, 147]), (2, [151, 152]), (4, [150, 150]), (2, [153, 154]), (4, [20, 127]), (4, [21, 126]), (3, [156, 157]), (4, [21, 125]), (4, [19, 127]), (3, [159, 160]), (4, [19, 126]), (4, [20, 125]), (3, [162, 163]), (4, [158, 158]), (4, [161, 161]), (2, [165, 166]), (4, [164, 164]), (2, [167, 168]), (4, [12, 117]), (4, [11, 118]), (3, [170, 171]), (4, [13, 117]), (4, [11, 119]), (3, [173, 174]), (4, [13, 118]), (4, [12, 119]), (3, [176, 177]), (4, [172, 172]), (4, [175, 175]), (2, [179, 180]), (4, [178, 178]), (2, [181, 182]), (4, [59, 127]), (4, [60, 126]), (3, [184, 185]), (4, [60, 125]), (4, [58, 127]), (3, [187, 188]), (4, [58, 126]), (4, [59, 125]), (3, [190, 191]), (4, [186, 186]), (4, [189, 189]), (2, [193, 194]), (4, [192, 192]), (2, [195, 196]), (4, [51, 117]), (4, [50, 118]), (3, [198, 199]), (4, [52, 117]), (4, [50, 119]), (3, [201, 202]), (4, [52, 118]), (4, [51, 119]), (3, [204, 205]), (4, [200, 200]), (4, [203, 203]), (2, [207, 208]), (4, [206, 206]), (2, [209, 210]), (4, [58, 24]), (0, [0, 0, 1]), (2, [213, 212]), (4, [59, 27]), (2, [214, 215]), (4, [60, 30]), (2, [216, 217]), (4, [125, 24]), (2, [213, 219]), (4, [126, 27]), (2, [220, 221]), (4, [127, 30]), (2, [222, 223]), (4, [59, 21]), (4, [60, 20]), (3, [225, 226]), (4, [60, 19]), (4, [58, 21]), (3, [228, 229]), (4, [58, 20]), (4, [59, 19]), (3, [231, 232]), (4, [227, 24]), (2, [213, 234]), (4, [230, 27]), (2, [235, 236]), (4, [233, 30]), (2, [237, 238]), (4, [63, 24]), (2, [213, 240]), (4, [66, 27]), (2, [241, 242]), (4, [69, 30]), (2, [243, 244]), (4, [126, 21]), (4, [127, 20]), (3, [246, 247]), (4, [127, 19]), (4, [125, 21]), (3, [249, 250]), (4, [125, 20]), (4, [126, 19]), (3, [252, 253]), (4, [248, 24]), (2, [213, 255]), (4, [251, 27]), (2, [256, 257]), (4, [254, 30]), (2, [258, 259]), (4, [130, 24]), (2, [213, 261]), (4, [133, 27]), (2, [262, 263]), (4, [136, 30]), (2, [264, 265]), (6, [245, 239]), (6, [260, 266]), (4, [267, 268]), (3, [110, 109]), (4, [0, 270]), (3, [107, 106]), (4, [1, 272]), (5, [273]), (3, [104, 103]), (4, [2, 275]), (2, [271, 274]), (2, [277, 276]), (3, [37, 36]), (3, [43, 42]), (4, [52, 11]), (4, [50, 13]), (3, [281, 282]), (6, [283, 41]), (6, [80, 41]), (3, [177, 176]), (4, [0, 286]), (3, [174, 173]), (4, [1, 288]), (5, [289]), (3, [171, 170]), (4, [2, 291]), (2, [287, 290]), (2, [293, 292]), (4, [119, 11]), (4, [117, 13]), (3, [295, 296]), (6, [297, 41]), (6, [147, 41]), (4, [285, 298]), (4, [284, 299]), (6, [300, 301]), (4, [51, 13]), (4, [52, 12]), (3, [303, 304]), (6, [305, 280]), (3, [82, 81]), (6, [307, 280]), (4, [118, 13]), (4, [119, 12]), (3, [309, 310]), (6, [311, 280]), (3, [149, 148]), (6, [313, 280]), (4, [308, 312]), (4, [306, 314]), (6, [315, 316]), (4, [50, 12]), (4, [51, 11]), (3, [318, 319]), (6, [320, 279]), (3, [76, 75]), (6, [322, 279]), (4, [117, 12]), (4, [118, 11]), (3, [324, 325]), (6, [326, 279]), (3, [143, 142]), (6, [328, 279]), (4, [323, 327]), (4, [321, 329]), (6, [330, 331])]
def projectRatio_L : List (List Nat × Nat) := []
def projectRatio_C : List (List Nat × Nat) := []
def projectRatio_Z : List Nat := [4194309, 4194309, 4194309, 8388618, 8388618, 16777237, 8388618, 25165856, 16777237, 16777237, 16777237, 4194309, 4194309, 4194309, 8388618, 8388618, 16777237, 8388618, 25165856, 16777237, 16777237, 16777237, 33554474, 33554474, 67108949, 33554474, 33554474, 67108949, 33554474, 33554474, 67108949, 134217898, 134217898, 268435797, 134217898, 402653696, 8388618, 8388618, 16777237, 8388618, 8388618, 16777237, 8388618, 8388618, 16777237, 33554474, 33554474, 67108949, 33554474, 100663424, 4194309, 4194309, 4194309, 8388618, 8388618, 16777237, 8388618, 25165856, 16777237, 16777237, 16777237, 33554474, 33554474, 67108949, 33554474, 33554474, 67108949, 33554474, 33554474, 67108949, 134217898, 134217898, 268435797, 134217898, 402653696, 8388618, 8388618, 16777237, 8388618, 8388618, 16777237, 8388618, 8388618, 16777237, 33554474, 33554474, 67108949, 33554474, 100663424, 33554474, 33554474, 67108949, 33554474, 33554474, 67108949, 33554474, 33554474, 67108949, 134217898, 134217898, 268435797, 134217898, 402653696, 8388618, 8388618, 16777237, 8388618, 8388618, 16777237, 8388618, 8388618, 16777237, 33554474, 33554474, 67108949, 33554474, 100663424, 4194309, 4194309, 4194309, 8388618, 8388618, 16777237, 8388618, 25165856, 16777237, 16777237, 16777237, 33554474, 33554474, 67108949, 33554474, 33554474, 67108949, 33554474, 33554474, 67108949, 134217898, 134217898, 268435797, 134217898, 402653696, 8388618, 8388618, 16777237, 8388618, 8388618, 16777237, 8388618, 8388618, 16777237, 33554474, 33554474, 67108949, 33554474, 100663424, 33554474, 33554474, 67108949, 33554474, 33554474, 67108949, 33554474, 33554474, 67108949, 134217898, 134217898, 268435797, 134217898, 402653696, 8388618, 8388618, 16777237, 8388618, 8388618, 16777237, 8388618, 8388618, 16777237, 33554474, 33554474, 67108949, 33554474, 100663424, 33554474, 33554474, 67108949, 33554474, 33554474, 67108949, 33554474, 33554474, 67108949, 134217898, 134217898, 268435797, 134217898, 402653696, 8388618, 8388618, 16777237, 8388618, 8388618, 16777237, 8388618, 8388618, 16777237, 33554474, 33554474, 67108949, 33554474, 100663424, 83886186, 2, 83886189, 83886186, 167772376, 83886186, 251658563, 83886186, 83886189, 83886186, 167772376, 83886186, 251658563, 33554474, 33554474, 67108949, 33554474, 33554474, 67108949, 33554474, 33554474, 67108949, 134217898, 134217901, 134217898, 268435800, 134217898, 402653699, 134217898, 134217901, 134217898, 268435800, 134217898, 402653699, 33554474, 33554474, 67108949, 33554474, 33554474, 67108949, 33554474, 33554474, 67108949, 134217898, 134217901, 134217898, 268435800, 134217898, 402653699, 134217898, 134217901, 134217898, 268435800, 134217898, 402653699, 805307398, 805307398, 1610614796, 16777237, 20971546, 16777237, 20971546, 20971546, 16777237, 20971546, 41943093, 62914640, 16777237, 16777237, 8388618, 8388618, 16777237, 33554474, 33554474, 16777237, 20971546, 16777237, 20971546, 20971546, 16777237, 20971546, 41943093, 62914640, 8388618, 8388618, 16777237, 33554474, 33554474, 67108948, 67108948, 134217896, 8388618, 8388618, 16777237, 33554474, 16777237, 33554474, 8388618, 8388618, 16777237, 33554474, 16777237, 33554474, 67108948, 67108948, 134217896, 8388618, 8388618, 16777237, 33554474, 16777237, 33554474, 8388618, 8388618, 16777237, 33554474, 16777237, 33554474, 67108948, 67108948, 134217896]
theorem projectRatio_wf : wfB 0 projectRatio_N = true := by kernel_rfl
theorem projectRatio_sz : szB projectRatio_Z projectRatio_N projectRatio_Z = true := by kernel_rfl
theorem projectRatio_lt : litB projectRatio_N projectRatio_L = true := by kernel_rfl
theorem projectRatio_cn : canB projectRatio_N projectRatio_C = true := by kernel_rfl
theorem projectRatio_c213 : cst 0 0 1 = (0 : Rat) := by decide +kernel
theorem fac3_ne {x y z : Rat} (h : ¬ ((x = 0 ∧ y = 0) ∧ z = 0)) : fac [x, y, z] ≠ 0 := fun e => h ⟨⟨fac_zero (by simp) e, fac_zero (by simp) e⟩, fac_zero (by simp) e⟩
theorem inv_ex {g : Rat} (h : g ≠ 0) : ∃ i, g * i = 1 := ⟨g⁻¹, Rat.mul_inv_cancel _ h⟩
theorem projectRatio_f0 {z0 z1 z2 z7 z8 z9 z10 z11 z12 z13 z18 z19 z20 z21 z22 z23 z24 z25 z26 z27 z28 z29 z30 z35 z36 z37 z38 z39 z40 z41 z42 z43 z44 z49 : Rat} : (z7 = 0 ↔ ((z0 = 0 ∧ z1 = 0) ∧ z2 = 0)) → z8 = z0 * fac [z0, z1, z2] → z9 = z1 * fac [z0, z1, z2] → z10 = z2 * fac [z0, z1, z2] → (z18 = 0 ↔ ((z11 = 0 ∧ z12 = 0) ∧ z13 = 0)) → z19 = z11 * fac [z11, z12, z13] → z20 = z12 * fac [z11, z12, z13] → z21 = z13 * fac [z11, z12, z13] → z22 = z9 * z21 → z23 = z10 * z20 → z24 = z22 - z23 → z25 = z10 * z19 → z26 = z8 * z21 → z27 = z25 - z26 → z28 = z8 * z20 → z29 = z9 * z19 → z30 = z28 - z29 → (z35 = 0 ↔ ((z24 = 0 ∧ z27 = 0) ∧ z30 = 0)) → z36 = z1 * z11 → z37 = z0 * z12 → z38 = z36 - z37 → z39 = z2 * z11 → z40 = z0 * z13 → z41 = z39 - z40 → z42 = z2 * z12 → z43 = z1 * z13 → z44 = z42 - z43 → (z49 = 0 ↔ ((z38 = 0 ∧ z41 = 0) ∧ z44 = 0)) → (¬ (z7 = 0)) → (¬ (z18 = 0)) → (z35 = 0) → z49 = 0 := by
 intro e7 e8 e9 e10 e18 e19 e20 e21 e22 e23 e24 e25 e26 e27 e28 e29 e30 e35 e36 e37 e38 e39 e40 e41 e42 e43 e44 e49 u0 u1 u2
 rw [e7] at u0
 rw [e18] at u1
 obtain ⟨⟨ua2_24, ua2_27⟩, ua2_30⟩ := e35.1 u2
 rw [e49]
 clear u2 e7 e18 e35 e49
 have iw0 := fac3_ne u0
 generalize fac [z0, z1, z2] = g0 at *
 have iw1 := fac3_ne u1
 generalize fac [z11, z12, z13] = g1 at *
 obtain ⟨iv0, ih0⟩ := inv_ex iw0
 obtain ⟨iv1, ih1⟩ := inv_ex iw1
 refine ⟨⟨?_, ?_⟩, ?_⟩ <;> (subst_vars; grind)
theorem projectRatio_f1 {z0 z1 z2 z7 z8 z9 z10 z11 z12 z13 z18 z19 z20 z21 z22 z23 z24 z25 z26 z27 z28 z29 z30 z35 z36 z37 z38 z39 z40 z41 z42 z43 z44 z49 : Rat} : (z7 = 0 ↔ ((z0 = 0 ∧ z1 = 0) ∧ z2 = 0)) → z8 = z0 * fac [z0, z1, z2] → z9 = z1 * fac [z0, z1, z2] → z10 = z2 * fac [z0, z1, z2] → (z18 = 0 ↔ ((z11 = 0 ∧ z12 = 0) ∧ z13 = 0)) → z19 = z11 * fac [z11, z12, z13] → z20 = z12 * fac [z11, z12, z13] → z21 = z13 * fac [z11, z12, z13] → z22 = z9 * z21 → z23 = z10 * z20 → z24 = z22 - z23 → z25 = z10 * z19 → z26 = z8 * z21 → z27 = z25 - z26 → z28 = z8 * z20 → z29 = z9 * z19 → z30 = z28 - z29 → (z35 = 0 ↔ ((z24 = 0 ∧ z27 = 0) ∧ z30 = 0)) → z36 = z1 * z11 → z37 = z0 * z12 → z38 = z36 - z37 → z39 = z2 * z11 → z40 = z0 * z13 → z41 = z39 - z40 → z42 = z2 * z12 → z43 = z1 * z13 → z44 = z42 - z43 → (z49 = 0 ↔ ((z38 = 0 ∧ z41 = 0) ∧ z44 = 0)) → (¬ (z7 = 0)) → (¬ (z18 = 0)) → (¬ (z35 = 0)) → ¬ (z49 = 0) := by
 intro e7 e8 e9 e10 e18 e19 e20 e21 e22 e23 e24 e25 e26 e27 e28 e29 e30 e35 e36 e37 e38 e39 e40 e41 e42 e43 e44 e49 u0 u1 u2
 rw [e7] at u0
 rw [e18] at u1
 rw [e35] at u2
 rw [e49]
 clear  e7 e18 e35 e49
 have iw0 := fac3_ne u0
 generalize fac [z0, z1, z2] = g0 at *
 have iw1 := fac3_ne u1
 generalize fac [z11, z12, z13] = g1 at *
 obtain ⟨iv0, ih0⟩ := inv_ex iw0
 obtain ⟨iv1, ih1⟩ := inv_ex iw1
 rintro ⟨⟨ub38, ub41⟩, ub44⟩
 subst_vars; grind
theorem projectRatio_f2 {z0 z1 z2 z7 z8 z9 z10 z50 z51 z52 z57 z58 z59 z60 z61 z62 z63 z64 z65 z66 z67 z68 z69 z74 z75 z76 z77 z78 z79 z80 z81 z82 z83 z88 : Rat} : (z7 = 0 ↔ ((z0 = 0 ∧ z1 = 0) ∧ z2 = 0)) → z8 = z0 * fac [z0, z1, z2] → z9 = z1 * fac [z0, z1, z2] → z10 = z2 * fac [z0, z1, z2] → (z57 = 0 ↔ ((z50 = 0 ∧ z51 = 0) ∧ z52 = 0)) → z58 = z50 * fac [z50, z51, z52] → z59 = z51 * fac [z50, z51, z52] → z60 = z52 * fac [z50, z51, z52] → z61 = z9 * z60 → z62 = z10 * z59 → z63 = z61 - z62 → z64 = z10 * z58 → z65 = z8 * z60 → z66 = z64 - z65 → z67 = z8 * z59 → z68 = z9 * z58 → z69 = z67 - z68 → (z74 = 0 ↔ ((z63 = 0 ∧ z66 = 0) ∧ z69 = 0)) → z75 = z1 * z50 → z76 = z0 * z51 → z77 = z75 - z76 → z78 = z2 * z50 → z79 = z0 * z52 → z80 = z78 - z79 → z81 = z2 * z51 → z82 = z1 * z52 → z83 = z81 - z82 → (z88 = 0 ↔ ((z77 = 0 ∧ z80 = 0) ∧ z83 = 0)) → (¬ (z7 = 0)) → (¬ (z57 = 0)) → (z74 = 0) → z88 = 0 := by
 intro e7 e8 e9 e10 e57 e58 e59 e60 e61 e62 e63 e64 e65 e66 e67 e68 e69 e74 e75 e76 e77 e78 e79 e80 e81 e82 e83 e88 u0 u3 u4
 rw [e7] at u0
 rw [e57] at u3
 obtain ⟨⟨ua4_63, ua4_66⟩, ua4_69⟩ := e74.1 u4
 rw [e88]
 clear u4 e7 e57 e74 e88
 have iw0 := fac3_ne u0
 generalize fac [z0, z1, z2] = g0 at *
 have iw1 := fac3_ne u3
 generalize fac [z50, z51, z52] = g1 at *
 obtain ⟨iv0, ih0⟩ := inv_ex iw0
 obtain ⟨iv1, ih1⟩ := inv_ex iw1
 refine ⟨⟨?_, ?_⟩, ?_⟩ <;> (subst_vars; grind)
theorem projectRatio_f3 {z0 z1 z2 z7 z8 z9 z10 z50 z51 z52 z57 z58 z59 z60 z61 z62 z63 z64 z65 z66 z67 z68 z69 z74 z75 z76 z77 z78 z79 z80 z81 z82 z83 z88 : Rat} : (z7 = 0 ↔ ((z0 = 0 ∧ z1 = 0) ∧ z2 = 0)) → z8 = z0 * fac [z0, z1, z2] → z9 = z1 * fac [z0, z1, z2] → z10 = z2 * fac [z0, z1, z2] → (z57 = 0 ↔ ((z50 = 0 ∧ z51 = 0) ∧ z52 = 0)) → z58 = z50 * fac [z50, z51, z52] → z59 = z51 * fac [z50, z51, z52] → z60 = z52 * fac [z50, z51, z52] → z61 = z9 * z60 → z62 = z10 * z59 → z63 = z61 - z62 → z64 = z10 * z58 → z65 = z8 * z60 → z66 = z64 - z65 → z67 = z8 * z59 → z68 = z9 * z58 → z69 = z67 - z68 → (z74 = 0 ↔ ((z63 = 0 ∧ z66 = 0) ∧ z69 = 0)) → z75 = z1 * z50 → z76 = z0 * z51 → z77 = z75 - z76 → z78 = z2 * z50 → z79 = z0 * z52 → z80 = z78 - z79 → z81 = z2 * z51 → z82 = z1 * z52 → z83 = z81 - z82 → (z88 = 0 ↔ ((z77 = 0 ∧ z80 = 0) ∧ z83 = 0)) → (¬ (z7 = 0)) → (¬ (z57 = 0)) → (¬ (z74 = 0)) → ¬ (z88 = 0) := by
 intro e7 e8 e9 e10 e57 e58 e59 e60 e61 e62 e63 e64 e65 e66 e67 e68 e69 e74 e75 e76 e77 e78 e79 e80 e81 e82 e83 e88 u0 u3 u4
 rw [e7] at u0
 rw [e57] at u3
 rw [e74] at u4
 rw [e88]
 clear  e7 e57 e74 e88
 have iw0 := fac3_ne u0
 generalize fac [z0, z1, z2] = g0 at *
 have iw1 := fac3_ne u3
 generalize fac [z50, z51, z52] = g1 at *
 obtain ⟨iv0, ih0⟩ := inv_ex iw0
 obtain ⟨iv1, ih1⟩ := inv_ex iw1
 rintro ⟨⟨ub77, ub80⟩, ub83⟩
 subst_vars; grind
theorem projectRatio_f4 {z11 z12 z13 z18 z19 z20 z21 z50 z51 z52 z57 z58 z59 z60 z89 z90 z91 z92 z93 z94 z95 z96 z97 z102 z103 z104 z105 z106 z107 z108 z109 z110 z111 z116 : Rat} : (z18 = 0 ↔ ((z11 = 0 ∧ z12 = 0) ∧ z13 = 0)) → z19 = z11 * fac [z11, z12, z13] → z20 = z12 * fac [z11, z12, z13] → z21 = z13 * fac [z11, z12, z13] → (z57 = 0 ↔ ((z50 = 0 ∧ z51 = 0) ∧ z52 = 0)) → z58 = z50 * fac [z50, z51, z52] → z59 = z51 * fac [z50, z51, z52] → z60 = z52 * fac [z50, z51, z52] → z89 = z20 * z60 → z90 = z21 * z59 → z91 = z89 - z90 → z92 = z21 * z58 → z93 = z19 * z60 → z94 = z92 - z93 → z95 = z19 * z59 → z96 = z20 * z58 → z97 = z95 - z96 → (z102 = 0 ↔ ((z91 = 0 ∧ z94 = 0) ∧ z97 = 0)) → z103 = z12 * z50 → z104 = z11 * z51 → z105 = z103 - z104 → z106 = z13 * z50 → z107 = z11 * z52 → z108 = z106 - z107 → z109 = z13 * z51 → z110 = z12 * z52 → z111 = z109 - z110 → (z116 = 0 ↔ ((z105 = 0 ∧ z108 = 0) ∧ z111 = 0)) → (¬ (z18 = 0)) → (¬ (z57 = 0)) → (z102 = 0) → z116 = 0 := by
 intro e18 e19 e20 e21 e57 e58 e59 e60 e89 e90 e91 e92 e93 e94 e95 e96 e97 e102 e103 e104 e105 e106 e107 e108 e109 e110 e111 e116 u1 u3 u5
 rw [e18] at u1
 rw [e57] at u3
 obtain ⟨⟨ua5_91, ua5_94⟩, ua5_97⟩ := e102.1 u5
 rw [e116]
 clear u5 e18 e57 e102 e116
 have iw0 := fac3_ne u1
 generalize fac [z11, z12, z13] = g0 at *
 have iw1 := fac3_ne u3
 generalize fac [z50, z51, z52] = g1 at *
 obtain ⟨iv0, ih0⟩ := inv_ex iw0
 obtain ⟨iv1, ih1⟩ := inv_ex iw1
 refine ⟨⟨?_, ?_⟩, ?_⟩ <;> (subst_vars; grind)
theorem projectRatio_f5 {z11 z12 z13 z18 z19 z20 z21 z50 z51 z52 z57 z58 z59 z60 z89 z90 z91 z92 z93 z94 z95 z96 z97 z102 z103 z104 z105 z106 z107 z108 z109 z110 z111 z116 : Rat} : (z18 = 0 ↔ ((z11 = 0 ∧ z12 = 0) ∧ z13 = 0)) → z19 = z11 * fac [z11, z12, z13] → z20 = z12 * fac [z11, z12, z13] → z21 = z13 * fac [z11, z12, z13] → (z57 = 0 ↔ ((z50 = 0 ∧ z51 = 0) ∧ z52 = 0)) → z58 = z50 * fac [z50, z51, z52] → z59 = z51 * fac [z50, z51, z52] → z60 = z52 * fac [z50, z51, z52] → z89 = z20 * z60 → z90 = z21 * z59 → z91 = z89 - z90 → z92 = z21 * z58 → z93 = z19 * z60 → z94 = z92 - z93 → z95 = z19 * z59 → z96 = z20 * z58 → z97 = z95 - z96 → (z102 = 0 ↔ ((z91 = 0 ∧ z94 = 0) ∧ z97 = 0)) → z103 = z12 * z50 → z104 = z11 * z51 → z105 = z103 - z104 → z106 = z13 * z50 → z107 = z11 * z52 → z108 = z106 - z107 → z109 = z13 * z51 → z110 = z12 * z52 → z111 = z109 - z110 → (z116 = 0 ↔ ((z105 = 0 ∧ z108 = 0) ∧ z111 = 0)) → (¬ (z18 = 0)) → (¬ (z57 = 0)) → (¬ (z102 = 0)) → ¬ (z116 = 0) := by
 intro e18 e19 e20 e21 e57 e58 e59 e60 e89 e90 e91 e92 e93 e94 e95 e96 e97 e102 e103 e104 e105 e106 e107 e108 e109 e110 e111 e116 u1 u3 u5
 rw [e18] at u1
 rw [e57] at u3
 rw [e102] at u5
 rw [e116]
 clear  e18 e57 e102 e116
 have iw0 := fac3_ne u1
 generalize fac [z11, z12, z13] = g0 at *
 have iw1 := fac3_ne u3
 generalize fac [z50, z51, z52] = g1 at *
 obtain ⟨iv0, ih0⟩ := inv_ex iw0
 obtain ⟨iv1, ih1⟩ := inv_ex iw1
 rintro ⟨⟨ub105, ub108⟩, ub111⟩
 subst_vars; grind
theorem projectRatio_f6 {z0 z1 z2 z7 z8 z9 z10 z117 z118 z119 z124 z125 z126 z127 z128 z129 z130 z131 z132 z133 z134 z135 z136 z141 z142 z143 z144 z145 z146 z147 z148 z149 z150 z155 : Rat} : (z7 = 0 ↔ ((z0 = 0 ∧ z1 = 0) ∧ z2 = 0)) → z8 = z0 * fac [z0, z1, z2] → z9 = z1 * fac [z0, z1, z2] → z10 = z2 * fac [z0, z1, z2] → (z124 = 0 ↔ ((z117 = 0 ∧ z118 = 0) ∧ z119 = 0)) → z125 = z117 * fac [z117, z118, z119] → z126 = z118 * fac [z117, z118, z119] → z127 = z119 * fac [z117, z118, z119] → z128 = z9 * z127 → z129 = z10 * z126 → z130 = z128 - z129 → z131 = z10 * z125 → z132 = z8 * z127 → z133 = z131 - z132 → z134 = z8 * z126 → z135 = z9 * z125 → z136 = z134 - z135 → (z141 = 0 ↔ ((z130 = 0 ∧ z133 = 0) ∧ z136 = 0)) → z142 = z1 * z117 → z143 = z0 * z118 → z144 = z142 - z143 → z145 = z2 * z117 → z146 = z0 * z119 → z147 = z145 - z146 → z148 = z2 * z118 → z149 = z1 * z119 → z150 = z148 - z149 → (z155 = 0 ↔ ((z144 = 0 ∧ z147 = 0) ∧ z150 = 0)) → (¬ (z7 = 0)) → (¬ (z124 = 0)) → (z141 = 0) → z155 = 0 := by
 intro e7 e8 e9 e10 e124 e125 e126 e127 e128 e129 e130 e131 e132 e133 e134 e135 e136 e141 e142 e143 e144 e145 e146 e147 e148 e149 e150 e155 u0 u6 u7
 rw [e7] at u0
 rw [e124] at u6
 obtain ⟨⟨ua7_130, ua7_133⟩, ua7_136⟩ := e141.1 u7
 rw [e155]
 clear u7 e7 e124 e141 e155
 have iw0 := fac3_ne u0
 generalize fac [z0, z1, z2] = g0 at *
 have iw1 := fac3_ne u6
 generalize fac [z117, z118, z119] = g1 at *
 obtain ⟨iv0, ih0⟩ := inv_ex iw0
 obtain ⟨iv1, ih1⟩ := inv_ex iw1
 refine ⟨⟨?_, ?_⟩, ?_⟩ <;> (subst_vars; grind)
theorem projectRatio_f7 {z0 z1 z2 z7 z8 z9 z10 z117 z118 z119 z124 z125 z126 z127 z128 z129 z130 z131 z132 z133 z134 z135 z136 z141 z142 z143 z144 z145 z146 z147 z148 z149 z150 z155 : Rat} : (z7 = 0 ↔ ((z0 = 0 ∧ z1 = 0) ∧ z2 = 0)) → z8 = z0 * fac [z0, z1, z2] → z9 = z1 * fac [z0, z1, z2] → z10 = z2 * fac [z0, z1, z2] → (z124 = 0 ↔ ((z117 = 0 ∧ z118 = 0) ∧ z119 = 0)) → z125 = z117 * fac [z117, z118, z119] → z126 = z118 * fac [z117, z118, z119] → z127 = z119 * fac [z117, z118, z119] → z128 = z9 * z127 → z129 = z10 * z126 → z130 = z128 - z129 → z131 = z10 * z125 → z132 = z8 * z127 → z133 = z131 - z132 → z134 = z8 * z126 → z135 = z9 * z125 → z136 = z134 - z135 → (z141 = 0 ↔ ((z130 = 0 ∧ z133 = 0) ∧ z136 = 0)) → z142 = z1 * z117 → z143 = z0 * z118 → z144 = z142 - z143 → z145 = z2 * z117 → z146 = z0 * z119 → z147 = z145 - z146 → z148 = z2 * z118 → z149 = z1 * z119 → z150 = z148 - z149 → (z155 = 0 ↔ ((z144 = 0 ∧ z147 = 0) ∧ z150 = 0)) → (¬ (z7 = 0)) → (¬ (z124 = 0)) → (¬ (z141 = 0)) → ¬ (z155 = 0) := by
 intro e7 e8 e9 e10 e124 e125 e126 e127 e128 e129 e130 e131 e132 e133 e134 e135 e136 e141 e142 e143 e144 e145 e146 e147 e148 e149 e150 e155 u0 u6 u7
 rw [e7] at u0
 rw [e124] at u6
 rw [e141] at u7
 rw [e155]
 clear  e7 e124 e141 e155
 have iw0 := fac3_ne u0
 generalize fac [z0, z1, z2] = g0 at *
 have iw1 := fac3_ne u6
 generalize fac [z117, z118, z119] = g1 at *
 obtain ⟨iv0, ih0⟩ := inv_ex iw0
 obtain ⟨iv1, ih1⟩ := inv_ex iw1
 rintro ⟨⟨ub144, ub147⟩, ub150⟩
 subst_vars; grind
theorem projectRatio_f8 {z11 z12 z13 z18 z19 z20 z21 z117 z118 z119 z124 z125 z126 z127 z156 z157 z158 z159 z160 z161 z162 z163 z164 z169 z170 z171 z172 z173 z174 z175 z176 z177 z178 z183 : Rat} : (z18 = 0 ↔ ((z11 = 0 ∧ z12 = 0) ∧ z13 = 0)) → z19 = z11 * fac [z11, z12, z13] → z20 = z12 * fac [z11, z12, z13] → z21 = z13 * fac [z11, z12, z13] → (z124 = 0 ↔ ((z117 = 0 ∧ z118 = 0) ∧ z119 = 0)) → z125 = z117 * fac [z117, z118, z119] → z126 = z118 * fac [z117, z118, z119] → z127 = z119 * fac [z117, z118, z119] → z156 = z20 * z127 → z157 = z21 * z126 → z158 = z156 - z157 → z159 = z21 * z125 → z160 = z19 * z127 → z161 = z159 - z160 → z162 = z19 * z126 → z163 = z20 * z125 → z164 = z162 - z163 → (z169 = 0 ↔ ((z158 = 0 ∧ z161 = 0) ∧ z164 = 0)) → z170 = z12 * z117 → z171 = z11 * z118 → z172 = z170 - z171 → z173 = z13 * z117 → z174 = z11 * z119 → z175 = z173 - z174 → z176 = z13 * z118 → z177 = z12 * z119 → z178 = z176 - z177 → (z183 = 0 ↔ ((z172 = 0 ∧ z175 = 0) ∧ z178 = 0)) → (¬ (z18 = 0)) → (¬ (z124 = 0)) → (z169 = 0) → z183 = 0 := by
 intro e18 e19 e20 e21 e124 e125 e126 e127 e156 e157 e158 e159 e160 e161 e162 e163 e164 e169 e170 e171 e172 e173 e174 e175 e176 e177 e178 e183 u1 u6 u8
 rw [e18] at u1
 rw [e124] at u6
 obtain ⟨⟨ua8_158, ua8_161⟩, ua8_164⟩ := e169.1 u8
 rw [e183]
 clear u8 e18 e124 e169 e183
 have iw0 := fac3_ne u1
 generalize fac [z11, z12, z13] = g0 at *
 have iw1 := fac3_ne u6
 generalize fac [z117, z118, z119] = g1 at *
 obtain ⟨iv0, ih0⟩ := inv_ex iw0
 obtain ⟨iv1, ih1⟩ := inv_ex iw1
 refine ⟨⟨?_, ?_⟩, ?_⟩ <;> (subst_vars; grind)
theorem projectRatio_f9 {z11 z12 z13 z18 z19 z20 z21 z117 z118 z119 z124 z125 z126 z127 z156 z157 z158 z159 z160 z161 z162 z163 z164 z169 z170 z171 z172 z173 z174 z175 z176 z177 z178 z183 : Rat} : (z18 = 0 ↔ ((z11 = 0 ∧ z12 = 0) ∧ z13 = 0)) → z19 = z11 * fac [z11, z12, z13] → z20 = z12 * fac [z11, z12, z13] → z21 = z13 * fac [z11, z12, z13] → (z124 = 0 ↔ ((z117 = 0 ∧ z118 = 0) ∧ z119 = 0)) → z125 = z117 * fac [z117, z118, z119] → z126 = z118 * fac [z117, z118, z119] → z127 = z119 * fac [z117, z118, z119] → z156 = z20 * z127 → z157 = z21 * z126 → z158 = z156 - z157 → z159 = z21 * z125 → z160 = z19 * z127 → z161 = z159 - z160 → z162 = z19 * z126 → z163 = z20 * z125 → z164 = z162 - z163 → (z169 = 0 ↔ ((z158 = 0 ∧ z161 = 0) ∧ z164 = 0)) → z170 = z12 * z117 → z171 = z11 * z118 → z172 = z170 - z171 → z173 = z13 * z117 → z174 = z11 * z119 → z175 = z173 - z174 → z176 = z13 * z118 → z177 = z12 * z119 → z178 = z176 - z177 → (z183 = 0 ↔ ((z172 = 0 ∧ z175 = 0) ∧ z178 = 0)) → (¬ (z18 = 0)) → (¬ (z124 = 0)) → (¬ (z169 = 0)) → ¬ (z183 = 0) := by
 intro e18 e19 e20 e21 e124 e125 e126 e127 e156 e157 e158 e159 e160 e161 e162 e163 e164 e169 e170 e171 e172 e173 e174 e175 e176 e177 e178 e183 u1 u6 u8
 rw [e18] at u1
 rw [e124] at u6
 rw [e169] at u8
 rw [e183]
 clear  e18 e124 e169 e183
 have iw0 := fac3_ne u1
 generalize fac [z11, z12, z13] = g0 at *
 have iw1 := fac3_ne u6
 generalize fac [z117, z118, z119] = g1 at *
 obtain ⟨iv0, ih0⟩ := inv_ex iw0
 obtain ⟨iv1, ih1⟩ := inv_ex iw1
 rintro ⟨⟨ub172, ub175⟩, ub178⟩
 subst_vars; grind
theorem projectRatio_f10 {z50 z51 z52 z57 z58 z59 z60 z117 z118 z119 z124 z125 z126 z127 z184 z185 z186 z187 z188 z189 z190 z191 z192 z197 z198 z199 z200 z201 z202 z203 z204 z205 z206 z211 : Rat} : (z57 = 0 ↔ ((z50 = 0 ∧ z51 = 0) ∧ z52 = 0)) → z58 = z50 * fac [z50, z51, z52] → z59 = z51 * fac [z50, z51, z52] → z60 = z52 * fac [z50, z51, z52] → (z124 = 0 ↔ ((z117 = 0 ∧ z118 = 0) ∧ z119 = 0)) → z125 = z117 * fac [z117, z118, z119] → z126 = z118 * fac [z117, z118, z119] → z127 = z119 * fac [z117, z118, z119] → z184 = z59 * z127 → z185 = z60 * z126 → z186 = z184 - z185 → z187 = z60 * z125 → z188 = z58 * z127 → z189 = z187 - z188 → z190 = z58 * z126 → z191 = z59 * z125 → z192 = z190 - z191 → (z197 = 0 ↔ ((z186 = 0 ∧ z189 = 0) ∧ z192 = 0)) → z198 = z51 * z117 → z199 = z50 * z118 → z200 = z198 - z199 → z201 = z52 * z117 → z202 = z50 * z119 → z203 = z201 - z202 → z204 = z52 * z118 → z205 = z51 * z119 → z206 = z204 - z205 → (z211 = 0 ↔ ((z200 = 0 ∧ z203 = 0) ∧ z206 = 0)) → (¬ (z57 = 0)) → (¬ (z124 = 0)) → (z197 = 0) → z211 = 0 := by
 intro e57 e58 e59 e60 e124 e125 e126 e127 e184 e185 e186 e187 e188 e189 e190 e191 e192 e197 e198 e199 e200 e201 e202 e203 e204 e205 e206 e211 u3 u6 u9
 rw [e57] at u3
 rw [e124] at u6
 obtain ⟨⟨ua9_186, ua9_189⟩, ua9_192⟩ := e197.1 u9
 rw [e211]
 clear u9 e57 e124 e197 e211
 have iw0 := fac3_ne u3
 generalize fac [z50, z51, z52] = g0 at *
 have iw1 := fac3_ne u6
 generalize fac [z117, z118, z119] = g1 at *
 obtain ⟨iv0, ih0⟩ := inv_ex iw0
 obtain ⟨iv1, ih1⟩ := inv_ex iw1
 refine ⟨⟨?_, ?_⟩, ?_⟩ <;> (subst_vars; grind)
theorem projectRatio_f11 {z50 z51 z52 z57 z58 z59 z60 z117 z118 z119 z124 z125 z126 z127 z184 z185 z186 z187 z188 z189 z190 z191 z192 z197 z198 z199 z200 z201 z202 z203 z204 z205 z206 z211 : Rat} : (z57 = 0 ↔ ((z50 = 0 ∧ z51 = 0) ∧ z52 = 0)) → z58 = z50 * fac [z50, z51, z52] → z59 = z51 * fac [z50, z51, z52] → z60 = z52 * fac [z50, z51, z52] → (z124 = 0 ↔ ((z117 = 0 ∧ z118 = 0) ∧ z119 = 0)) → z125 = z117 * fac [z117, z118, z119] → z126 = z118 * fac [z117, z118, z119] → z127 = z119 * fac [z117, z118, z119] → z184 = z59 * z127 → z185 = z60 * z126 → z186 = z184 - z185 → z187 = z60 * z125 → z188 = z58 * z127 → z189 = z187 - z188 → z190 = z58 * z126 → z191 = z59 * z125 → z192 = z190 - z191 → (z197 = 0 ↔ ((z186 = 0 ∧ z189 = 0) ∧ z192 = 0)) → z198 = z51 * z117 → z199 = z50 * z118 → z200 = z198 - z199 → z201 = z52 * z117 → z202 = z50 * z119 → z203 = z201 - z202 → z204 = z52 * z118 → z205 = z51 * z119 → z206 = z204 - z205 → (z211 = 0 ↔ ((z200 = 0 ∧ z203 = 0) ∧ z206 = 0)) → (¬ (z57 = 0)) → (¬ (z124 = 0)) → (¬ (z197 = 0)) → ¬ (z211 = 0) := by
 intro e57 e58 e59 e60 e124 e125 e126 e127 e184 e185 e186 e187 e188 e189 e190 e191 e192 e197 e198 e199 e200 e201 e202 e203 e204 e205 e206 e211 u3 u6 u9
 rw [e57] at u3
 rw [e124] at u6
 rw [e197] at u9
 rw [e211]
 clear  e57 e124 e197 e211
 have iw0 := fac3_ne u3
 generalize fac [z50, z51, z52] = g0 at *
 have iw1 := fac3_ne u6
 generalize fac [z117, z118, z119] = g1 at *
 obtain ⟨iv0, ih0⟩ := inv_ex iw0
 obtain ⟨iv1, ih1⟩ := inv_ex iw1
 rintro ⟨⟨ub200, ub203⟩, ub206⟩
 subst_vars; grind
theorem projectRatio_f12 {z0 z1 z2 z7 z8 z9 z10 z11 z12 z13 z18 z19 z20 z21 z22 z23 z24 z25 z26 z27 z28 z29 z30 z50 z51 z52 z57 z58 z59 z60 z103 z104 z106 z107 z109 z110 z212 z213 z214 z215 z216 z217 z218 z270 z271 z272 z273 z274 z275 z276 z277 z278 : Rat} : (z7 = 0 ↔ ((z0 = 0 ∧ z1 = 0) ∧ z2 = 0)) → z8 = z0 * fac [z0, z1, z2] → z9 = z1 * fac [z0, z1, z2] → z10 = z2 * fac [z0, z1, z2] → (z18 = 0 ↔ ((z11 = 0 ∧ z12 = 0) ∧ z13 = 0)) → z19 = z11 * fac [z11, z12, z13] → z20 = z12 * fac [z11, z12, z13] → z21 = z13 * fac [z11, z12, z13] → z22 = z9 * z21 → z23 = z10 * z20 → z24 = z22 - z23 → z25 = z10 * z19 → z26 = z8 * z21 → z27 = z25 - z26 → z28 = z8 * z20 → z29 = z9 * z19 → z30 = z28 - z29 → (z57 = 0 ↔ ((z50 = 0 ∧ z51 = 0) ∧ z52 = 0)) → z58 = z50 * fac [z50, z51, z52] → z59 = z51 * fac [z50, z51, z52] → z60 = z52 * fac [z50, z51, z52] → z103 = z12 * z50 → z104 = z11 * z51 → z106 = z13 * z50 → z107 = z11 * z52 → z109 = z13 * z51 → z110 = z12 * z52 → z212 = z58 * z24 → z213 = 0 → z214 = z213 + z212 → z215 = z59 * z27 → z216 = z214 + z215 → z217 = z60 * z30 → z218 = z216 + z217 → z270 = z110 - z109 → z271 = z0 * z270 → z272 = z107 - z106 → z273 = z1 * z272 → z274 = -z273 → z275 = z104 - z103 → z276 = z2 * z275 → z277 = z271 + z274 → z278 = z277 + z276 → (¬ (z7 = 0)) → (¬ (z18 = 0)) → (¬ (z57 = 0)) → (z218 = 0) → z278 = 0 := by
 intro e7 e8 e9 e10 e18 e19 e20 e21 e22 e23 e24 e25 e26 e27 e28 e29 e30 e57 e58 e59 e60 e103 e104 e106 e107 e109 e110 e212 e213 e214 e215 e216 e217 e218 e270 e271 e272 e273 e274 e275 e276 e277 e278 u0 u1 u3 u10
 rw [e7] at u0
 rw [e18] at u1
 rw [e57] at u3
 clear  e7 e18 e57
 rw [u10] at e218
 have iw0 := fac3_ne u0
 generalize fac [z0, z1, z2] = g0 at *
 have iw1 := fac3_ne u1
 generalize fac [z11, z12, z13] = g1 at *
 have iw2 := fac3_ne u3
 generalize fac [z50, z51, z52] = g2 at *
 obtain ⟨iv0, ih0⟩ := inv_ex iw0
 obtain ⟨iv1, ih1⟩ := inv_ex iw1
 obtain ⟨iv2, ih2⟩ := inv_ex iw2
 subst_vars; grind
theorem projectRatio_f13 {z0 z1 z2 z7 z8 z9 z10 z11 z12 z13 z18 z19 z20 z21 z22 z23 z24 z25 z26 z27 z28 z29 z30 z35 z36 z37 z39 z40 z41 z42 z43 z279 z280 : Rat} : (z7 = 0 ↔ ((z0 = 0 ∧ z1 = 0) ∧ z2 = 0)) → z8 = z0 * fac [z0, z1, z2] → z9 = z1 * fac [z0, z1, z2] → z10 = z2 * fac [z0, z1, z2] → (z18 = 0 ↔ ((z11 = 0 ∧ z12 = 0) ∧ z13 = 0)) → z19 = z11 * fac [z11, z12, z13] → z20 = z12 * fac [z11, z12, z13] → z21 = z13 * fac [z11, z12, z13] → z22 = z9 * z21 → z23 = z10 * z20 → z24 = z22 - z23 → z25 = z10 * z19 → z26 = z8 * z21 → z27 = z25 - z26 → z28 = z8 * z20 → z29 = z9 * z19 → z30 = z28 - z29 → (z35 = 0 ↔ ((z24 = 0 ∧ z27 = 0) ∧ z30 = 0)) → z36 = z1 * z11 → z37 = z0 * z12 → z39 = z2 * z11 → z40 = z0 * z13 → z41 = z39 - z40 → z42 = z2 * z12 → z43 = z1 * z13 → z279 = z37 - z36 → z280 = z43 - z42 → (¬ (z7 = 0)) → (¬ (z18 = 0)) → (¬ (z35 = 0)) → (z279 = 0) → (z280 = 0) → ¬ (z41 = 0) := by
 intro e7 e8 e9 e10 e18 e19 e20 e21 e22 e23 e24 e25 e26 e27 e28 e29 e30 e35 e36 e37 e39 e40 e41 e42 e43 e279 e280 u0 u1 u2 u12 u13
 rw [e7] at u0
 rw [e18] at u1
 rw [e35] at u2
 clear  e7 e18 e35
 rw [u12] at e279
 rw [u13] at e280
 have iw0 := fac3_ne u0
 generalize fac [z0, z1, z2] = g0 at *
 have iw1 := fac3_ne u1
 generalize fac [z11, z12, z13] = g1 at *
 obtain ⟨iv0, ih0⟩ := inv_ex iw0
 obtain ⟨iv1, ih1⟩ := inv_ex iw1
 subst_vars; grind
theorem projectRatio_f14 {z0 z1 z2 z7 z8 z9 z10 z11 z12 z13 z18 z19 z20 z21 z22 z23 z24 z25 z26 z27 z28 z29 z30 z117 z118 z119 z124 z125 z126 z127 z170 z171 z173 z174 z176 z177 z213 z219 z220 z221 z222 z223 z224 z286 z287 z288 z289 z290 z291 z292 z293 z294 : Rat} : (z7 = 0 ↔ ((z0 = 0 ∧ z1 = 0) ∧ z2 = 0)) → z8 = z0 * fac [z0, z1, z2] → z9 = z1 * fac [z0, z1, z2] → z10 = z2 * fac [z0, z1, z2] → (z18 = 0 ↔ ((z11 = 0 ∧ z12 = 0) ∧ z13 = 0)) → z19 = z11 * fac [z11, z12, z13] → z20 = z12 * fac [z11, z12, z13] → z21 = z13 * fac [z11, z12, z13] → z22 = z9 * z21 → z23 = z10 * z20 → z24 = z22 - z23 → z25 = z10 * z19 → z26 = z8 * z21 → z27 = z25 - z26 → z28 = z8 * z20 → z29 = z9 * z19 → z30 = z28 - z29 → (z124 = 0 ↔ ((z117 = 0 ∧ z118 = 0) ∧ z119 = 0)) → z125 = z117 * fac [z117, z118, z119] → z126 = z118 * fac [z117, z118, z119] → z127 = z119 * fac [z117, z118, z119] → z170 = z12 * z117 → z171 = z11 * z118 → z173 = z13 * z117 → z174 = z11 * z119 → z176 = z13 * z118 → z177 = z12 * z119 → z213 = 0 → z219 = z125 * z24 → z220 = z213 + z219 → z221 = z126 * z27 → z222 = z220 + z221 → z223 = z127 * z30 → z224 = z222 + z223 → z286 = z177 - z176 → z287 = z0 * z286 → z288 = z174 - z173 → z289 = z1 * z288 → z290 = -z289 → z291 = z171 - z170 → z292 = z2 * z291 → z293 = z287 + z290 → z294 = z293 + z292 → (¬ (z7 = 0)) → (¬ (z18 = 0)) → (¬ (z124 = 0)) → (z224 = 0) → z294 = 0 := by
 intro e7 e8 e9 e10 e18 e19 e20 e21 e22 e23 e24 e25 e26 e27 e28 e29 e30 e124 e125 e126 e127 e170 e171 e173 e174 e176 e177 e213 e219 e220 e221 e222 e223 e224 e286 e287 e288 e289 e290 e291 e292 e293 e294 u0 u1 u6 u11
 rw [e7] at u0
 rw [e18] at u1
 rw [e124] at u6
 clear  e7 e18 e124
 rw [u11] at e224
 have iw0 := fac3_ne u0
 generalize fac [z0, z1, z2] = g0 at *
 have iw1 := fac3_ne u1
 generalize fac [z11, z12, z13] = g1 at *
 have iw2 := fac3_ne u6
 generalize fac [z117, z118, z119] = g2 at *
 obtain ⟨iv0, ih0⟩ := inv_ex iw0
 obtain ⟨iv1, ih1⟩ := inv_ex iw1
 obtain ⟨iv2, ih2⟩ := inv_ex iw2
 subst_vars; grind
theorem projectRatio_f15 {z0 z1 z2 z7 z8 z9 z10 z11 z12 z13 z18 z19 z20 z21 z22 z23 z24 z25 z26 z27 z28 z29 z30 z35 z36 z37 z39 z40 z41 z42 z43 z50 z51 z52 z57 z58 z59 z60 z61 z62 z63 z64 z65 z66 z67 z68 z69 z74 z78 z79 z80 z89 z90 z91 z92 z93 z94 z95 z96 z97 z102 z117 z118 z119 z124 z125 z126 z127 z128 z129 z130 z131 z132 z133 z134 z135 z136 z141 z145 z146 z147 z156 z157 z158 z159 z160 z161 z162 z163 z164 z169 z184 z185 z186 z187 z188 z189 z190 z191 z192 z197 z212 z213 z214 z215 z216 z217 z218 z219 z220 z221 z222 z223 z224 z225 z226 z227 z228 z229 z230 z231 z232 z233 z234 z235 z236 z237 z238 z239 z240 z241 z242 z243 z244 z245 z246 z247 z248 z249 z250 z251 z252 z253 z254 z255 z256 z257 z258 z259 z260 z261 z262 z263 z264 z265 z266 z267 z268 z269 z279 z280 z281 z282 z283 z284 z285 z295 z296 z297 z298 z299 z300 z301 z302 : Rat} : (z7 = 0 ↔ ((z0 = 0 ∧ z1 = 0) ∧ z2 = 0)) → z8 = z0 * fac [z0, z1, z2] → z9 = z1 * fac [z0, z1, z2] → z10 = z2 * fac [z0, z1, z2] → (z18 = 0 ↔ ((z11 = 0 ∧ z12 = 0) ∧ z13 = 0)) → z19 = z11 * fac [z11, z12, z13] → z20 = z12 * fac [z11, z12, z13] → z21 = z13 * fac [z11, z12, z13] → z22 = z9 * z21 → z23 = z10 * z20 → z24 = z22 - z23 → z25 = z10 * z19 → z26 = z8 * z21 → z27 = z25 - z26 → z28 = z8 * z20 → z29 = z9 * z19 → z30 = z28 - z29 → (z35 = 0 ↔ ((z24 = 0 ∧ z27 = 0) ∧ z30 = 0)) → z36 = z1 * z11 → z37 = z0 * z12 → z39 = z2 * z11 → z40 = z0 * z13 → z41 = z39 - z40 → z42 = z2 * z12 → z43 = z1 * z13 → (z57 = 0 ↔ ((z50 = 0 ∧ z51 = 0) ∧ z52 = 0)) → z58 = z50 * fac [z50, z51, z52] → z59 = z51 * fac [z50, z51, z52] → z60 = z52 * fac [z50, z51, z52] → z61 = z9 * z60 → z62 = z10 * z59 → z63 = z61 - z62 → z64 = z10 * z58 → z65 = z8 * z60 → z66 = z64 - z65 → z67 = z8 * z59 → z68 = z9 * z58 → z69 = z67 - z68 → (z74 = 0 ↔ ((z63 = 0 ∧ z66 = 0) ∧ z69 = 0)) → z78 = z2 * z50 → z79 = z0 * z52 → z80 = z78 - z79 → z89 = z20 * z60 → z90 = z21 * z59 → z91 = z89 - z90 → z92 = z21 * z58 → z93 = z19 * z60 → z94 = z92 - z93 → z95 = z19 * z59 → z96 = z20 * z58 → z97 = z95 - z96 → (z102 = 0 ↔ ((z91 = 0 ∧ z94 = 0) ∧ z97 = 0)) → (z124 = 0 ↔ ((z117 = 0 ∧ z118 = 0) ∧ z119 = 0)) → z125 = z117 * fac [z117, z118, z119] → z126 = z118 * fac [z117, z118, z119] → z127 = z119 * fac [z117, z118, z119] → z128 = z9 * z127 → z129 = z10 * z126 → z130 = z128 - z129 → z131 = z10 * z125 → z132 = z8 * z127 → z133 = z131 - z132 → z134 = z8 * z126 → z135 = z9 * z125 → z136 = z134 - z135 → (z141 = 0 ↔ ((z130 = 0 ∧ z133 = 0) ∧ z136 = 0)) → z145 = z2 * z117 → z146 = z0 * z119 → z147 = z145 - z146 → z156 = z20 * z127 → z157 = z21 * z126 → z158 = z156 - z157 → z159 = z21 * z125 → z160 = z19 * z127 → z161 = z159 - z160 → z162 = z19 * z126 → z163 = z20 * z125 → z164 = z162 - z163 → (z169 = 0 ↔ ((z158 = 0 ∧ z161 = 0) ∧ z164 = 0)) → z184 = z59 * z127 → z185 = z60 * z126 → z186 = z184 - z185 → z187 = z60 * z125 → z188 = z58 * z127 → z189 = z187 - z188 → z190 = z58 * z126 → z191 = z59 * z125 → z192 = z190 - z191 → (z197 = 0 ↔ ((z186 = 0 ∧ z189 = 0) ∧ z192 = 0)) → z212 = z58 * z24 → z213 = 0 → z214 = z213 + z212 → z215 = z59 * z27 → z216 = z214 + z215 → z217 = z60 * z30 → z218 = z216 + z217 → z219 = z125 * z24 → z220 = z213 + z219 → z221 = z126 * z27 → z222 = z220 + z221 → z223 = z127 * z30 → z224 = z222 + z223 → z225 = z59 * z21 → z226 = z60 * z20 → z227 = z225 - z226 → z228 = z60 * z19 → z229 = z58 * z21 → z230 = z228 - z229 → z231 = z58 * z20 → z232 = z59 * z19 → z233 = z231 - z232 → z234 = z227 * z24 → z235 = z213 + z234 → z236 = z230 * z27 → z237 = z235 + z236 → z238 = z233 * z30 → z239 = z237 + z238 → z240 = z63 * z24 → z241 = z213 + z240 → z242 = z66 * z27 → z243 = z241 + z242 → z244 = z69 * z30 → z245 = z243 + z244 → z246 = z126 * z21 → z247 = z127 * z20 → z248 = z246 - z247 → z249 = z127 * z19 → z250 = z125 * z21 → z251 = z249 - z250 → z252 = z125 * z20 → z253 = z126 * z19 → z254 = z252 - z253 → z255 = z248 * z24 → z256 = z213 + z255 → z257 = z251 * z27 → z258 = z256 + z257 → z259 = z254 * z30 → z260 = z258 + z259 → z261 = z130 * z24 → z262 = z213 + z261 → z263 = z133 * z27 → z264 = z262 + z263 → z265 = z136 * z30 → z266 = z264 + z265 → z267 = z245 / z239 → z268 = z260 / z266 → z269 = z267 * z268 → z279 = z37 - z36 → z280 = z43 - z42 → z281 = z52 * z11 → z282 = z50 * z13 → z283 = z281 - z282 → z284 = z283 / z41 → z285 = z80 / z41 → z295 = z119 * z11 → z296 = z117 * z13 → z297 = z295 - z296 → z298 = z297 / z41 → z299 = z147 / z41 → z300 = z285 * z298 → z301 = z284 * z299 → z302 = z300 / z301 → (¬ (z7 = 0)) → (¬ (z18 = 0)) → (¬ (z35 = 0)) → (¬ (z57 = 0)) → (¬ (z74 = 0)) → (¬ (z102 = 0)) → (¬ (z124 = 0)) → (¬ (z141 = 0)) → (¬ (z169 = 0)) → (¬ (z197 = 0)) → (z218 = 0) → (z224 = 0) → (z279 = 0) → (z280 = 0) → z269 = z302 := by
 intro e7 e8 e9 e10 e18 e19 e20 e21 e22 e23 e24 e25 e26 e27 e28 e29 e30 e35 e36 e37 e39 e40 e41 e42 e43 e57 e58 e59 e60 e61 e62 e63 e64 e65 e66 e67 e68 e69 e74 e78 e79 e80 e89 e90 e91 e92 e93 e94 e95 e96 e97 e102 e124 e125 e126 e127 e128 e129 e130 e131 e132 e133 e134 e135 e136 e141 e145 e146 e147 e156 e157 e158 e159 e160 e161 e162 e163 e164 e169 e184 e185 e186 e187 e188 e189 e190 e191 e192 e197 e212 e213 e214 e215 e216 e217 e218 e219 e220 e221 e222 e223 e224 e225 e226 e227 e228 e229 e230 e231 e232 e233 e234 e235 e236 e237 e238 e239 e240 e241 e242 e243 e244 e245 e246 e247 e248 e249 e250 e251 e252 e253 e254 e255 e256 e257 e258 e259 e260 e261 e262 e263 e264 e265 e266 e267 e268 e269 e279 e280 e281 e282 e283 e284 e285 e295 e296 e297 e298 e299 e300 e301 e302 u0 u1 u2 u3 u4 u5 u6 u7 u8 u9 u10 u11 u12 u13
 rw [e7] at u0
 rw [e18] at u1
 rw [e35] at u2
 rw [e57] at u3
 rw [e74] at u4
 rw [e102] at u5
 rw [e124] at u6
 rw [e141] at u7
 rw [e169] at u8
 rw [e197] at u9
 clear  e7 e18 e35 e57 e74 e102 e124 e141 e169 e197
 have iw0 := fac3_ne u0
 generalize fac [z0, z1, z2] = g0 at *
 have iw1 := fac3_ne u1
 generalize fac [z11, z12, z13] = g1 at *
 have iw2 := fac3_ne u3
 generalize fac [z50, z51, z52] = g2 at *
 have iw3 := fac3_ne u6
 generalize fac [z117, z118, z119] = g3 at *
 obtain ⟨iv0, ih0⟩ := inv_ex iw0
 obtain ⟨iv1, ih1⟩ := inv_ex iw1
 obtain ⟨iv2, ih2⟩ := inv_ex iw2
 obtain ⟨iv3, ih3⟩ := inv_ex iw3
 have dne : z41 ≠ 0 := by
  intro hh
  have cz := cross_nz e8 e9 e10 e19 e20 e21 (by rw [e24, e22, e23]) (by rw [e27, e25, e26]) (by rw [e30, e28, e29]) u2
  clear ih0 ih1 ih2 ih3
  exact cz ⟨⟨by rw [← e36, ← e37, ← e279]; exact u12, by rw [← e42, ← e43, ← e280]; exact u13⟩, by rw [← e39, ← e40, ← e41]; exact hh⟩
 have hC := det_zero (J1 := z24) (J2 := z27) (J3 := z30) e8 e9 e10 e19 e20 e21 e58 e59 e60 (by rw [e24, e22, e23]) (by rw [e27, e25, e26]) (by rw [e30, e28, e29]) iw0 iw1 iw2 (by have hh := e218; rw [u10, e216, e214, e213, e212, e215, e217] at hh; exact hh)
 have hD := det_zero (J1 := z24) (J2 := z27) (J3 := z30) e8 e9 e10 e19 e20 e21 e125 e126 e127 (by rw [e24, e22, e23]) (by rw [e27, e25, e26]) (by rw [e30, e28, e29]) iw0 iw1 iw3 (by have hh := e224; rw [u11, e222, e220, e213, e219, e221, e223] at hh; exact hh)
 have nx : z239 ≠ 0 := harm_sig (a1 := z8) (a2 := z9) (a3 := z10) (b1 := z19) (b2 := z20) (b3 := z21) (c1 := z58) (c2 := z59) (c3 := z60) (X1 := z227) (X2 := z230) (X3 := z233) (B1 := z91) (B2 := z94) (B3 := z97) (by rw [e24, e22, e23]) (by rw [e27, e25, e26]) (by rw [e30, e28, e29]) (by rw [e227, e225, e226]) (by rw [e230, e228, e229]) (by rw [e233, e231, e232]) (by rw [e91, e89, e90]) (by rw [e94, e92, e93]) (by rw [e97, e95, e96]) u2 u5 (by have hh := e218; rw [u10, e216, e214, e213, e212, e215, e217] at hh; exact hh) (by rw [e239, e237, e235, e213, e234, e236, e238])
 have nw : z266 ≠ 0 := harm_tau (a1 := z8) (a2 := z9) (a3 := z10) (b1 := z19) (b2 := z20) (b3 := z21) (c1 := z125) (c2 := z126) (c3 := z127) (Y1 := z130) (Y2 := z133) (Y3 := z136) (by rw [e24, e22, e23]) (by rw [e27, e25, e26]) (by rw [e30, e28, e29]) (by rw [e130, e128, e129]) (by rw [e133, e131, e132]) (by rw [e136, e134, e135]) u2 u7 (by have hh := e224; rw [u11, e222, e220, e213, e219, e221, e223] at hh; exact hh) (by rw [e266, e264, e262, e213, e261, e263, e265])
 have h1 := (share_s (J1 := z24) (J2 := z27) (J3 := z30) (X1 := z227) (X2 := z230) (X3 := z233) (s := z239) e8 e9 e10 e19 e20 e21 e58 e59 e60 (by rw [e24, e22, e23]) (by rw [e27, e25, e26]) (by rw [e30, e28, e29]) hC (by rw [e227, e225, e226]) (by rw [e230, e228, e229]) (by rw [e233, e231, e232]) (by rw [e239, e237, e235, e213, e234, e236, e238])).2.2
 have h2 := (share_t (J1 := z24) (J2 := z27) (J3 := z30) (Y1 := z63) (Y2 := z66) (Y3 := z69) (t := z245) e8 e9 e10 e19 e20 e21 e58 e59 e60 (by rw [e24, e22, e23]) (by rw [e27, e25, e26]) (by rw [e30, e28, e29]) hC (by rw [e63, e61, e62]) (by rw [e66, e64, e65]) (by rw [e69, e67, e68]) (by rw [e245, e243, e241, e213, e240, e242, e244])).2.2
 have h3 := (share_s (J1 := z24) (J2 := z27) (J3 := z30) (X1 := z248) (X2 := z251) (X3 := z254) (s := z260) e8 e9 e10 e19 e20 e21 e125 e126 e127 (by rw [e24, e22, e23]) (by rw [e27, e25, e26]) (by rw [e30, e28, e29]) hD (by rw [e248, e246, e247]) (by rw [e251, e249, e250]) (by rw [e254, e252, e253]) (by rw [e260, e258, e256, e213, e255, e257, e259])).2.2
 have h4 := (share_t (J1 := z24) (J2 := z27) (J3 := z30) (Y1 := z130) (Y2 := z133) (Y3 := z136) (t := z266) e8 e9 e10 e19 e20 e21 e125 e126 e127 (by rw [e24, e22, e23]) (by rw [e27, e25, e26]) (by rw [e30, e28, e29]) hD (by rw [e130, e128, e129]) (by rw [e133, e131, e132]) (by rw [e136, e134, e135]) (by rw [e266, e264, e262, e213, e261, e263, e265])).2.2
 rw [← e281, ← e282, ← e283, ← e39, ← e40, ← e41] at h1
 rw [← e78, ← e79, ← e80, ← e39, ← e40, ← e41] at h2
 rw [← e295, ← e296, ← e297, ← e39, ← e40, ← e41] at h3
 rw [← e145, ← e146, ← e147, ← e39, ← e40, ← e41] at h4
 rw [e269, e267, e268, e302, e300, e301]
 exact ratio_main dne nx nw h1 h2 h3 h4 e284 e285 e298 e299
theorem projectRatio_f16 {z0 z1 z2 z7 z8 z9 z10 z11 z12 z13 z18 z19 z20 z21 z22 z23 z24 z25 z26 z27 z28 z29 z30 z35 z36 z37 z42 z43 z50 z51 z52 z57 z58 z59 z60 z61 z62 z63 z64 z65 z66 z67 z68 z69 z74 z81 z82 z89 z90 z91 z92 z93 z94 z95 z96 z97 z102 z117 z118 z119 z124 z125 z126 z127 z128 z129 z130 z131 z132 z133 z134 z135 z136 z141 z148 z149 z156 z157 z158 z159 z160 z161 z162 z163 z164 z169 z184 z185 z186 z187 z188 z189 z190 z191 z192 z197 z212 z213 z214 z215 z216 z217 z218 z219 z220 z221 z222 z223 z224 z225 z226 z227 z228 z229 z230 z231 z232 z233 z234 z235 z236 z237 z238 z239 z240 z241 z242 z243 z244 z245 z246 z247 z248 z249 z250 z251 z252 z253 z254 z255 z256 z257 z258 z259 z260 z261 z262 z263 z264 z265 z266 z267 z268 z269 z279 z280 z303 z304 z305 z306 z307 z308 z309 z310 z311 z312 z313 z314 z315 z316 z317 : Rat} : (z7 = 0 ↔ ((z0 = 0 ∧ z1 = 0) ∧ z2 = 0)) → z8 = z0 * fac [z0, z1, z2] → z9 = z1 * fac [z0, z1, z2] → z10 = z2 * fac [z0, z1, z2] → (z18 = 0 ↔ ((z11 = 0 ∧ z12 = 0) ∧ z13 = 0)) → z19 = z11 * fac [z11, z12, z13] → z20 = z12 * fac [z11, z12, z13] → z21 = z13 * fac [z11, z12, z13] → z22 = z9 * z21 → z23 = z10 * z20 → z24 = z22 - z23 → z25 = z10 * z19 → z26 = z8 * z21 → z27 = z25 - z26 → z28 = z8 * z20 → z29 = z9 * z19 → z30 = z28 - z29 → (z35 = 0 ↔ ((z24 = 0 ∧ z27 = 0) ∧ z30 = 0)) → z36 = z1 * z11 → z37 = z0 * z12 → z42 = z2 * z12 → z43 = z1 * z13 → (z57 = 0 ↔ ((z50 = 0 ∧ z51 = 0) ∧ z52 = 0)) → z58 = z50 * fac [z50, z51, z52] → z59 = z51 * fac [z50, z51, z52] → z60 = z52 * fac [z50, z51, z52] → z61 = z9 * z60 → z62 = z10 * z59 → z63 = z61 - z62 → z64 = z10 * z58 → z65 = z8 * z60 → z66 = z64 - z65 → z67 = z8 * z59 → z68 = z9 * z58 → z69 = z67 - z68 → (z74 = 0 ↔ ((z63 = 0 ∧ z66 = 0) ∧ z69 = 0)) → z81 = z2 * z51 → z82 = z1 * z52 → z89 = z20 * z60 → z90 = z21 * z59 → z91 = z89 - z90 → z92 = z21 * z58 → z93 = z19 * z60 → z94 = z92 - z93 → z95 = z19 * z59 → z96 = z20 * z58 → z97 = z95 - z96 → (z102 = 0 ↔ ((z91 = 0 ∧ z94 = 0) ∧ z97 = 0)) → (z124 = 0 ↔ ((z117 = 0 ∧ z118 = 0) ∧ z119 = 0)) → z125 = z117 * fac [z117, z118, z119] → z126 = z118 * fac [z117, z118, z119] → z127 = z119 * fac [z117, z118, z119] → z128 = z9 * z127 → z129 = z10 * z126 → z130 = z128 - z129 → z131 = z10 * z125 → z132 = z8 * z127 → z133 = z131 - z132 → z134 = z8 * z126 → z135 = z9 * z125 → z136 = z134 - z135 → (z141 = 0 ↔ ((z130 = 0 ∧ z133 = 0) ∧ z136 = 0)) → z148 = z2 * z118 → z149 = z1 * z119 → z156 = z20 * z127 → z157 = z21 * z126 → z158 = z156 - z157 → z159 = z21 * z125 → z160 = z19 * z127 → z161 = z159 - z160 → z162 = z19 * z126 → z163 = z20 * z125 → z164 = z162 - z163 → (z169 = 0 ↔ ((z158 = 0 ∧ z161 = 0) ∧ z164 = 0)) → z184 = z59 * z127 → z185 = z60 * z126 → z186 = z184 - z185 → z187 = z60 * z125 → z188 = z58 * z127 → z189 = z187 - z188 → z190 = z58 * z126 → z191 = z59 * z125 → z192 = z190 - z191 → (z197 = 0 ↔ ((z186 = 0 ∧ z189 = 0) ∧ z192 = 0)) → z212 = z58 * z24 → z213 = 0 → z214 = z213 + z212 → z215 = z59 * z27 → z216 = z214 + z215 → z217 = z60 * z30 → z218 = z216 + z217 → z219 = z125 * z24 → z220 = z213 + z219 → z221 = z126 * z27 → z222 = z220 + z221 → z223 = z127 * z30 → z224 = z222 + z223 → z225 = z59 * z21 → z226 = z60 * z20 → z227 = z225 - z226 → z228 = z60 * z19 → z229 = z58 * z21 → z230 = z228 - z229 → z231 = z58 * z20 → z232 = z59 * z19 → z233 = z231 - z232 → z234 = z227 * z24 → z235 = z213 + z234 → z236 = z230 * z27 → z237 = z235 + z236 → z238 = z233 * z30 → z239 = z237 + z238 → z240 = z63 * z24 → z241 = z213 + z240 → z242 = z66 * z27 → z243 = z241 + z242 → z244 = z69 * z30 → z245 = z243 + z244 → z246 = z126 * z21 → z247 = z127 * z20 → z248 = z246 - z247 → z249 = z127 * z19 → z250 = z125 * z21 → z251 = z249 - z250 → z252 = z125 * z20 → z253 = z126 * z19 → z254 = z252 - z253 → z255 = z248 * z24 → z256 = z213 + z255 → z257 = z251 * z27 → z258 = z256 + z257 → z259 = z254 * z30 → z260 = z258 + z259 → z261 = z130 * z24 → z262 = z213 + z261 → z263 = z133 * z27 → z264 = z262 + z263 → z265 = z136 * z30 → z266 = z264 + z265 → z267 = z245 / z239 → z268 = z260 / z266 → z269 = z267 * z268 → z279 = z37 - z36 → z280 = z43 - z42 → z303 = z51 * z13 → z304 = z52 * z12 → z305 = z303 - z304 → z306 = z305 / z280 → z307 = z82 - z81 → z308 = z307 / z280 → z309 = z118 * z13 → z310 = z119 * z12 → z311 = z309 - z310 → z312 = z311 / z280 → z313 = z149 - z148 → z314 = z313 / z280 → z315 = z308 * z312 → z316 = z306 * z314 → z317 = z315 / z316 → (¬ (z7 = 0)) → (¬ (z18 = 0)) → (¬ (z35 = 0)) → (¬ (z57 = 0)) → (¬ (z74 = 0)) → (¬ (z102 = 0)) → (¬ (z124 = 0)) → (¬ (z141 = 0)) → (¬ (z169 = 0)) → (¬ (z197 = 0)) → (z218 = 0) → (z224 = 0) → (z279 = 0) → (¬ (z280 = 0)) → z269 = z317 := by
 intro e7 e8 e9 e10 e18 e19 e20 e21 e22 e23 e24 e25 e26 e27 e28 e29 e30 e35 e36 e37 e42 e43 e57 e58 e59 e60 e61 e62 e63 e64 e65 e66 e67 e68 e69 e74 e81 e82 e89 e90 e91 e92 e93 e94 e95 e96 e97 e102 e124 e125 e126 e127 e128 e129 e130 e131 e132 e133 e134 e135 e136 e141 e148 e149 e156 e157 e158 e159 e160 e161 e162 e163 e164 e169 e184 e185 e186 e187 e188 e189 e190 e191 e192 e197 e212 e213 e214 e215 e216 e217 e218 e219 e220 e221 e222 e223 e224 e225 e226 e227 e228 e229 e230 e231 e232 e233 e234 e235 e236 e237 e238 e239 e240 e241 e242 e243 e244 e245 e246 e247 e248 e249 e250 e251 e252 e253 e254 e255 e256 e257 e258 e259 e260 e261 e262 e263 e264 e265 e266 e267 e268 e269 e279 e280 e303 e304 e305 e306 e307 e308 e309 e310 e311 e312 e313 e314 e315 e316 e317 u0 u1 u2 u3 u4 u5 u6 u7 u8 u9 u10 u11 u12 u13
 rw [e7] at u0
 rw [e18] at u1
 rw [e35] at u2
 rw [e57] at u3
 rw [e74] at u4
 rw [e102] at u5
 rw [e124] at u6
 rw [e141] at u7
 rw [e169] at u8
 rw [e197] at u9
 clear  e7 e18 e35 e57 e74 e102 e124 e141 e169 e197
 have iw0 := fac3_ne u0
 generalize fac [z0, z1, z2] = g0 at *
 have iw1 := fac3_ne u1
 generalize fac [z11, z12, z13] = g1 at *
 have iw2 := fac3_ne u3
 generalize fac [z50, z51, z52] = g2 at *
 have iw3 := fac3_ne u6
 generalize fac [z117, z118, z119] = g3 at *
 obtain ⟨iv0, ih0⟩ := inv_ex iw0
 obtain ⟨iv1, ih1⟩ := inv_ex iw1
 obtain ⟨iv2, ih2⟩ := inv_ex iw2
 obtain ⟨iv3, ih3⟩ := inv_ex iw3
 have dne : z280 ≠ 0 := u13
 have hC := det_zero (J1 := z24) (J2 := z27) (J3 := z30) e8 e9 e10 e19 e20 e21 e58 e59 e60 (by rw [e24, e22, e23]) (by rw [e27, e25, e26]) (by rw [e30, e28, e29]) iw0 iw1 iw2 (by have hh := e218; rw [u10, e216, e214, e213, e212, e215, e217] at hh; exact hh)
 have hD := det_zero (J1 := z24) (J2 := z27) (J3 := z30) e8 e9 e10 e19 e20 e21 e125 e126 e127 (by rw [e24, e22, e23]) (by rw [e27, e25, e26]) (by rw [e30, e28, e29]) iw0 iw1 iw3 (by have hh := e224; rw [u11, e222, e220, e213, e219, e221, e223] at hh; exact hh)
 have nx : z239 ≠ 0 := harm_sig (a1 := z8) (a2 := z9) (a3 := z10) (b1 := z19) (b2 := z20) (b3 := z21) (c1 := z58) (c2 := z59) (c3 := z60) (X1 := z227) (X2 := z230) (X3 := z233) (B1 := z91) (B2 := z94) (B3 := z97) (by rw [e24, e22, e23]) (by rw [e27, e25, e26]) (by rw [e30, e28, e29]) (by rw [e227, e225, e226]) (by rw [e230, e228, e229]) (by rw [e233, e231, e232]) (by rw [e91, e89, e90]) (by rw [e94, e92, e93]) (by rw [e97, e95, e96]) u2 u5 (by have hh := e218; rw [u10, e216, e214, e213, e212, e215, e217] at hh; exact hh) (by rw [e239, e237, e235, e213, e234, e236, e238])
 have nw : z266 ≠ 0 := harm_tau (a1 := z8) (a2 := z9) (a3 := z10) (b1 := z19) (b2 := z20) (b3 := z21) (c1 := z125) (c2 := z126) (c3 := z127) (Y1 := z130) (Y2 := z133) (Y3 := z136) (by rw [e24, e22, e23]) (by rw [e27, e25, e26]) (by rw [e30, e28, e29]) (by rw [e130, e128, e129]) (by rw [e133, e131, e132]) (by rw [e136, e134, e135]) u2 u7 (by have hh := e224; rw [u11, e222, e220, e213, e219, e221, e223] at hh; exact hh) (by rw [e266, e264, e262, e213, e261, e263, e265])
 have h1 := (share_s (J1 := z24) (J2 := z27) (J3 := z30) (X1 := z227) (X2 := z230) (X3 := z233) (s := z239) e8 e9 e10 e19 e20 e21 e58 e59 e60 (by rw [e24, e22, e23]) (by rw [e27, e25, e26]) (by rw [e30, e28, e29]) hC (by rw [e227, e225, e226]) (by rw [e230, e228, e229]) (by rw [e233, e231, e232]) (by rw [e239, e237, e235, e213, e234, e236, e238])).2.1
 have h2 := (share_t (J1 := z24) (J2 := z27) (J3 := z30) (Y1 := z63) (Y2 := z66) (Y3 := z69) (t := z245) e8 e9 e10 e19 e20 e21 e58 e59 e60 (by rw [e24, e22, e23]) (by rw [e27, e25, e26]) (by rw [e30, e28, e29]) hC (by rw [e63, e61, e62]) (by rw [e66, e64, e65]) (by rw [e69, e67, e68]) (by rw [e245, e243, e241, e213, e240, e242, e244])).2.1
 have h3 := (share_s (J1 := z24) (J2 := z27) (J3 := z30) (X1 := z248) (X2 := z251) (X3 := z254) (s := z260) e8 e9 e10 e19 e20 e21 e125 e126 e127 (by rw [e24, e22, e23]) (by rw [e27, e25, e26]) (by rw [e30, e28, e29]) hD (by rw [e248, e246, e247]) (by rw [e251, e249, e250]) (by rw [e254, e252, e253]) (by rw [e260, e258, e256, e213, e255, e257, e259])).2.1
 have h4 := (share_t (J1 := z24) (J2 := z27) (J3 := z30) (Y1 := z130) (Y2 := z133) (Y3 := z136) (t := z266) e8 e9 e10 e19 e20 e21 e125 e126 e127 (by rw [e24, e22, e23]) (by rw [e27, e25, e26]) (by rw [e30, e28, e29]) hD (by rw [e130, e128, e129]) (by rw [e133, e131, e132]) (by rw [e136, e134, e135]) (by rw [e266, e264, e262, e213, e261, e263, e265])).2.1
 rw [← e303, ← e304, ← e305, ← e43, ← e42, ← e280] at h1
 rw [← e82, ← e81, ← e307, ← e43, ← e42, ← e280] at h2
 rw [← e309, ← e310, ← e311, ← e43, ← e42, ← e280] at h3
 rw [← e149, ← e148, ← e313, ← e43, ← e42, ← e280] at h4
 rw [e269, e267, e268, e317, e315, e316]
 exact ratio_main dne nx nw h1 h2 h3 h4 e306 e308 e312 e314
theorem projectRatio_f17 {z0 z1 z2 z7 z8 z9 z10 z11 z12 z13 z18 z19 z20 z21 z22 z23 z24 z25 z26 z27 z28 z29 z30 z35 z36 z37 z50 z51 z52 z57 z58 z59 z60 z61 z62 z63 z64 z65 z66 z67 z68 z69 z74 z75 z76 z89 z90 z91 z92 z93 z94 z95 z96 z97 z102 z117 z118 z119 z124 z125 z126 z127 z128 z129 z130 z131 z132 z133 z134 z135 z136 z141 z142 z143 z156 z157 z158 z159 z160 z161 z162 z163 z164 z169 z184 z185 z186 z187 z188 z189 z190 z191 z192 z197 z212 z213 z214 z215 z216 z217 z218 z219 z220 z221 z222 z223 z224 z225 z226 z227 z228 z229 z230 z231 z232 z233 z234 z235 z236 z237 z238 z239 z240 z241 z242 z243 z244 z245 z246 z247 z248 z249 z250 z251 z252 z253 z254 z255 z256 z257 z258 z259 z260 z261 z262 z263 z264 z265 z266 z267 z268 z269 z279 z318 z319 z320 z321 z322 z323 z324 z325 z326 z327 z328 z329 z330 z331 z332 : Rat} : (z7 = 0 ↔ ((z0 = 0 ∧ z1 = 0) ∧ z2 = 0)) → z8 = z0 * fac [z0, z1, z2] → z9 = z1 * fac [z0, z1, z2] → z10 = z2 * fac [z0, z1, z2] → (z18 = 0 ↔ ((z11 = 0 ∧ z12 = 0) ∧ z13 = 0)) → z19 = z11 * fac [z11, z12, z13] → z20 = z12 * fac [z11, z12, z13] → z21 = z13 * fac [z11, z12, z13] → z22 = z9 * z21 → z23 = z10 * z20 → z24 = z22 - z23 → z25 = z10 * z19 → z26 = z8 * z21 → z27 = z25 - z26 → z28 = z8 * z20 → z29 = z9 * z19 → z30 = z28 - z29 → (z35 = 0 ↔ ((z24 = 0 ∧ z27 = 0) ∧ z30 = 0)) → z36 = z1 * z11 → z37 = z0 * z12 → (z57 = 0 ↔ ((z50 = 0 ∧ z51 = 0) ∧ z52 = 0)) → z58 = z50 * fac [z50, z51, z52] → z59 = z51 * fac [z50, z51, z52] → z60 = z52 * fac [z50, z51, z52] → z61 = z9 * z60 → z62 = z10 * z59 → z63 = z61 - z62 → z64 = z10 * z58 → z65 = z8 * z60 → z66 = z64 - z65 → z67 = z8 * z59 → z68 = z9 * z58 → z69 = z67 - z68 → (z74 = 0 ↔ ((z63 = 0 ∧ z66 = 0) ∧ z69 = 0)) → z75 = z1 * z50 → z76 = z0 * z51 → z89 = z20 * z60 → z90 = z21 * z59 → z91 = z89 - z90 → z92 = z21 * z58 → z93 = z19 * z60 → z94 = z92 - z93 → z95 = z19 * z59 → z96 = z20 * z58 → z97 = z95 - z96 → (z102 = 0 ↔ ((z91 = 0 ∧ z94 = 0) ∧ z97 = 0)) → (z124 = 0 ↔ ((z117 = 0 ∧ z118 = 0) ∧ z119 = 0)) → z125 = z117 * fac [z117, z118, z119] → z126 = z118 * fac [z117, z118, z119] → z127 = z119 * fac [z117, z118, z119] → z128 = z9 * z127 → z129 = z10 * z126 → z130 = z128 - z129 → z131 = z10 * z125 → z132 = z8 * z127 → z133 = z131 - z132 → z134 = z8 * z126 → z135 = z9 * z125 → z136 = z134 - z135 → (z141 = 0 ↔ ((z130 = 0 ∧ z133 = 0) ∧ z136 = 0)) → z142 = z1 * z117 → z143 = z0 * z118 → z156 = z20 * z127 → z157 = z21 * z126 → z158 = z156 - z157 → z159 = z21 * z125 → z160 = z19 * z127 → z161 = z159 - z160 → z162 = z19 * z126 → z163 = z20 * z125 → z164 = z162 - z163 → (z169 = 0 ↔ ((z158 = 0 ∧ z161 = 0) ∧ z164 = 0)) → z184 = z59 * z127 → z185 = z60 * z126 → z186 = z184 - z185 → z187 = z60 * z125 → z188 = z58 * z127 → z189 = z187 - z188 → z190 = z58 * z126 → z191 = z59 * z125 → z192 = z190 - z191 → (z197 = 0 ↔ ((z186 = 0 ∧ z189 = 0) ∧ z192 = 0)) → z212 = z58 * z24 → z213 = 0 → z214 = z213 + z212 → z215 = z59 * z27 → z216 = z214 + z215 → z217 = z60 * z30 → z218 = z216 + z217 → z219 = z125 * z24 → z220 = z213 + z219 → z221 = z126 * z27 → z222 = z220 + z221 → z223 = z127 * z30 → z224 = z222 + z223 → z225 = z59 * z21 → z226 = z60 * z20 → z227 = z225 - z226 → z228 = z60 * z19 → z229 = z58 * z21 → z230 = z228 - z229 → z231 = z58 * z20 → z232 = z59 * z19 → z233 = z231 - z232 → z234 = z227 * z24 → z235 = z213 + z234 → z236 = z230 * z27 → z237 = z235 + z236 → z238 = z233 * z30 → z239 = z237 + z238 → z240 = z63 * z24 → z241 = z213 + z240 → z242 = z66 * z27 → z243 = z241 + z242 → z244 = z69 * z30 → z245 = z243 + z244 → z246 = z126 * z21 → z247 = z127 * z20 → z248 = z246 - z247 → z249 = z127 * z19 → z250 = z125 * z21 → z251 = z249 - z250 → z252 = z125 * z20 → z253 = z126 * z19 → z254 = z252 - z253 → z255 = z248 * z24 → z256 = z213 + z255 → z257 = z251 * z27 → z258 = z256 + z257 → z259 = z254 * z30 → z260 = z258 + z259 → z261 = z130 * z24 → z262 = z213 + z261 → z263 = z133 * z27 → z264 = z262 + z263 → z265 = z136 * z30 → z266 = z264 + z265 → z267 = z245 / z239 → z268 = z260 / z266 → z269 = z267 * z268 → z279 = z37 - z36 → z318 = z50 * z12 → z319 = z51 * z11 → z320 = z318 - z319 → z321 = z320 / z279 → z322 = z76 - z75 → z323 = z322 / z279 → z324 = z117 * z12 → z325 = z118 * z11 → z326 = z324 - z325 → z327 = z326 / z279 → z328 = z143 - z142 → z329 = z328 / z279 → z330 = z323 * z327 → z331 = z321 * z329 → z332 = z330 / z331 → (¬ (z7 = 0)) → (¬ (z18 = 0)) → (¬ (z35 = 0)) → (¬ (z57 = 0)) → (¬ (z74 = 0)) → (¬ (z102 = 0)) → (¬ (z124 = 0)) → (¬ (z141 = 0)) → (¬ (z169 = 0)) → (¬ (z197 = 0)) → (z218 = 0) → (z224 = 0) → (¬ (z279 = 0)) → z269 = z332 := by
 intro e7 e8 e9 e10 e18 e19 e20 e21 e22 e23 e24 e25 e26 e27 e28 e29 e30 e35 e36 e37 e57 e58 e59 e60 e61 e62 e63 e64 e65 e66 e67 e68 e69 e74 e75 e76 e89 e90 e91 e92 e93 e94 e95 e96 e97 e102 e124 e125 e126 e127 e128 e129 e130 e131 e132 e133 e134 e135 e136 e141 e142 e143 e156 e157 e158 e159 e160 e161 e162 e163 e164 e169 e184 e185 e186 e187 e188 e189 e190 e191 e192 e197 e212 e213 e214 e215 e216 e217 e218 e219 e220 e221 e222 e223 e224 e225 e226 e227 e228 e229 e230 e231 e232 e233 e234 e235 e236 e237 e238 e239 e240 e241 e242 e243 e244 e245 e246 e247 e248 e249 e250 e251 e252 e253 e254 e255 e256 e257 e258 e259 e260 e261 e262 e263 e264 e265 e266 e267 e268 e269 e279 e318 e319 e320 e321 e322 e323 e324 e325 e326 e327 e328 e329 e330 e331 e332 u0 u1 u2 u3 u4 u5 u6 u7 u8 u9 u10 u11 u12
 rw [e7] at u0
 rw [e18] at u1
 rw [e35] at u2
 rw [e57] at u3
 rw [e74] at u4
 rw [e102] at u5
 rw [e124] at u6
 rw [e141] at u7
 rw [e169] at u8
 rw [e197] at u9
 clear  e7 e18 e35 e57 e74 e102 e124 e141 e169 e197
 have iw0 := fac3_ne u0
 generalize fac [z0, z1, z2] = g0 at *
 have iw1 := fac3_ne u1
 generalize fac [z11, z12, z13] = g1 at *
 have iw2 := fac3_ne u3
 generalize fac [z50, z51, z52] = g2 at *
 have iw3 := fac3_ne u6
 generalize fac [z117, z118, z119] = g3 at *
 obtain ⟨iv0, ih0⟩ := inv_ex iw0
 obtain ⟨iv1, ih1⟩ := inv_ex iw1
 obtain ⟨iv2, ih2⟩ := inv_ex iw2
 obtain ⟨iv3, ih3⟩ := inv_ex iw3
 have dne : z279 ≠ 0 := u12
 have hC := det_zero (J1 := z24) (J2 := z27) (J3 := z30) e8 e9 e10 e19 e20 e21 e58 e59 e60 (by rw [e24, e22, e23]) (by rw [e27, e25, e26]) (by rw [e30, e28, e29]) iw0 iw1 iw2 (by have hh := e218; rw [u10, e216, e214, e213, e212, e215, e217] at hh; exact hh)
 have hD := det_zero (J1 := z24) (J2 := z27) (J3 := z30) e8 e9 e10 e19 e20 e21 e125 e126 e127 (by rw [e24, e22, e23]) (by rw [e27, e25, e26]) (by rw [e30, e28, e29]) iw0 iw1 iw3 (by have hh := e224; rw [u11, e222, e220, e213, e219, e221, e223] at hh; exact hh)
 have nx : z239 ≠ 0 := harm_sig (a1 := z8) (a2 := z9) (a3 := z10) (b1 := z19) (b2 := z20) (b3 := z21) (c1 := z58) (c2 := z59) (c3 := z60) (X1 := z227) (X2 := z230) (X3 := z233) (B1 := z91) (B2 := z94) (B3 := z97) (by rw [e24, e22, e23]) (by rw [e27, e25, e26]) (by rw [e30, e28, e29]) (by rw [e227, e225, e226]) (by rw [e230, e228, e229]) (by rw [e233, e231, e232]) (by rw [e91, e89, e90]) (by rw [e94, e92, e93]) (by rw [e97, e95, e96]) u2 u5 (by have hh := e218; rw [u10, e216, e214, e213, e212, e215, e217] at hh; exact hh) (by rw [e239, e237, e235, e213, e234, e236, e238])
 have nw : z266 ≠ 0 := harm_tau (a1 := z8) (a2 := z9) (a3 := z10) (b1 := z19) (b2 := z20) (b3 := z21) (c1 := z125) (c2 := z126) (c3 := z127) (Y1 := z130) (Y2 := z133) (Y3 := z136) (by rw [e24, e22, e23]) (by rw [e27, e25, e26]) (by rw [e30, e28, e29]) (by rw [e130, e128, e129]) (by rw [e133, e131, e132]) (by rw [e136, e134, e135]) u2 u7 (by have hh := e224; rw [u11, e222, e220, e213, e219, e221, e223] at hh; exact hh) (by rw [e266, e264, e262, e213, e261, e263, e265])
 have h1 := (share_s (J1 := z24) (J2 := z27) (J3 := z30) (X1 := z227) (X2 := z230) (X3 := z233) (s := z239) e8 e9 e10 e19 e20 e21 e58 e59 e60 (by rw [e24, e22, e23]) (by rw [e27, e25, e26]) (by rw [e30, e28, e29]) hC (by rw [e227, e225, e226]) (by rw [e230, e228, e229]) (by rw [e233, e231, e232]) (by rw [e239, e237, e235, e213, e234, e236, e238])).1
 have h2 := (share_t (J1 := z24) (J2 := z27) (J3 := z30) (Y1 := z63) (Y2 := z66) (Y3 := z69) (t := z245) e8 e9 e10 e19 e20 e21 e58 e59 e60 (by rw [e24, e22, e23]) (by rw [e27, e25, e26]) (by rw [e30, e28, e29]) hC (by rw [e63, e61, e62]) (by rw [e66, e64, e65]) (by rw [e69, e67, e68]) (by rw [e245, e243, e241, e213, e240, e242, e244])).1
 have h3 := (share_s (J1 := z24) (J2 := z27) (J3 := z30) (X1 := z248) (X2 := z251) (X3 := z254) (s := z260) e8 e9 e10 e19 e20 e21 e125 e126 e127 (by rw [e24, e22, e23]) (by rw [e27, e25, e26]) (by rw [e30, e28, e29]) hD (by rw [e248, e246, e247]) (by rw [e251, e249, e250]) (by rw [e254, e252, e253]) (by rw [e260, e258, e256, e213, e255, e257, e259])).1
 have h4 := (share_t (J1 := z24) (J2 := z27) (J3 := z30) (Y1 := z130) (Y2 := z133) (Y3 := z136) (t := z266) e8 e9 e10 e19 e20 e21 e125 e126 e127 (by rw [e24, e22, e23]) (by rw [e27, e25, e26]) (by rw [e30, e28, e29]) hD (by rw [e130, e128, e129]) (by rw [e133, e131, e132]) (by rw [e136, e134, e135]) (by rw [e266, e264, e262, e213, e261, e263, e265])).1
 rw [← e318, ← e319, ← e320, ← e37, ← e36, ← e279] at h1
 rw [← e76, ← e75, ← e322, ← e37, ← e36, ← e279] at h2
 rw [← e324, ← e325, ← e326, ← e37, ← e36, ← e279] at h3
 rw [← e143, ← e142, ← e328, ← e37, ← e36, ← e279] at h4
 rw [e269, e267, e268, e332, e330, e331]
 exact ratio_main dne nx nw h1 h2 h3 h4 e321 e323 e327 e329
theorem projectRatio_f18 {z0 z1 z2 z7 z8 z9 z10 z11 z12 z13 z18 z19 z20 z21 z22 z23 z24 z25 z26 z27 z28 z29 z30 z117 z118 z119 z124 z125 z126 z127 z170 z171 z173 z174 z176 z177 z213 z219 z220 z221 z222 z223 z224 z286 z287 z288 z289 z290 z291 z292 z293 z294 : Rat} : (z7 = 0 ↔ ((z0 = 0 ∧ z1 = 0) ∧ z2 = 0)) → z8 = z0 * fac [z0, z1, z2] → z9 = z1 * fac [z0, z1, z2] → z10 = z2 * fac [z0, z1, z2] → (z18 = 0 ↔ ((z11 = 0 ∧ z12 = 0) ∧ z13 = 0)) → z19 = z11 * fac [z11, z12, z13] → z20 = z12 * fac [z11, z12, z13] → z21 = z13 * fac [z11, z12, z13] → z22 = z9 * z21 → z23 = z10 * z20 → z24 = z22 - z23 → z25 = z10 * z19 → z26 = z8 * z21 → z27 = z25 - z26 → z28 = z8 * z20 → z29 = z9 * z19 → z30 = z28 - z29 → (z124 = 0 ↔ ((z117 = 0 ∧ z118 = 0) ∧ z119 = 0)) → z125 = z117 * fac [z117, z118, z119] → z126 = z118 * fac [z117, z118, z119] → z127 = z119 * fac [z117, z118, z119] → z170 = z12 * z117 → z171 = z11 * z118 → z173 = z13 * z117 → z174 = z11 * z119 → z176 = z13 * z118 → z177 = z12 * z119 → z213 = 0 → z219 = z125 * z24 → z220 = z213 + z219 → z221 = z126 * z27 → z222 = z220 + z221 → z223 = z127 * z30 → z224 = z222 + z223 → z286 = z177 - z176 → z287 = z0 * z286 → z288 = z174 - z173 → z289 = z1 * z288 → z290 = -z289 → z291 = z171 - z170 → z292 = z2 * z291 → z293 = z287 + z290 → z294 = z293 + z292 → (¬ (z7 = 0)) → (¬ (z18 = 0)) → (¬ (z124 = 0)) → (¬ (z224 = 0)) → ¬ (z294 = 0) := by
 intro e7 e8 e9 e10 e18 e19 e20 e21 e22 e23 e24 e25 e26 e27 e28 e29 e30 e124 e125 e126 e127 e170 e171 e173 e174 e176 e177 e213 e219 e220 e221 e222 e223 e224 e286 e287 e288 e289 e290 e291 e292 e293 e294 u0 u1 u6 u11
 rw [e7] at u0
 rw [e18] at u1
 rw [e124] at u6
 clear  e7 e18 e124
 have iw0 := fac3_ne u0
 generalize fac [z0, z1, z2] = g0 at *
 have iw1 := fac3_ne u1
 generalize fac [z11, z12, z13] = g1 at *
 have iw2 := fac3_ne u6
 generalize fac [z117, z118, z119] = g2 at *
 obtain ⟨iv0, ih0⟩ := inv_ex iw0
 obtain ⟨iv1, ih1⟩ := inv_ex iw1
 obtain ⟨iv2, ih2⟩ := inv_ex iw2
 subst_vars; grind
theorem projectRatio_f19 {z0 z1 z2 z7 z8 z9 z10 z11 z12 z13 z18 z19 z20 z21 z22 z23 z24 z25 z26 z27 z28 z29 z30 z50 z51 z52 z57 z58 z59 z60 z103 z104 z106 z107 z109 z110 z212 z213 z214 z215 z216 z217 z218 z270 z271 z272 z273 z274 z275 z276 z277 z278 : Rat} : (z7 = 0 ↔ ((z0 = 0 ∧ z1 = 0) ∧ z2 = 0)) → z8 = z0 * fac [z0, z1, z2] → z9 = z1 * fac [z0, z1, z2] → z10 = z2 * fac [z0, z1, z2] → (z18 = 0 ↔ ((z11 = 0 ∧ z12 = 0) ∧ z13 = 0)) → z19 = z11 * fac [z11, z12, z13] → z20 = z12 * fac [z11, z12, z13] → z21 = z13 * fac [z11, z12, z13] → z22 = z9 * z21 → z23 = z10 * z20 → z24 = z22 - z23 → z25 = z10 * z19 → z26 = z8 * z21 → z27 = z25 - z26 → z28 = z8 * z20 → z29 = z9 * z19 → z30 = z28 - z29 → (z57 = 0 ↔ ((z50 = 0 ∧ z51 = 0) ∧ z52 = 0)) → z58 = z50 * fac [z50, z51, z52] → z59 = z51 * fac [z50, z51, z52] → z60 = z52 * fac [z50, z51, z52] → z103 = z12 * z50 → z104 = z11 * z51 → z106 = z13 * z50 → z107 = z11 * z52 → z109 = z13 * z51 → z110 = z12 * z52 → z212 = z58 * z24 → z213 = 0 → z214 = z213 + z212 → z215 = z59 * z27 → z216 = z214 + z215 → z217 = z60 * z30 → z218 = z216 + z217 → z270 = z110 - z109 → z271 = z0 * z270 → z272 = z107 - z106 → z273 = z1 * z272 → z274 = -z273 → z275 = z104 - z103 → z276 = z2 * z275 → z277 = z271 + z274 → z278 = z277 + z276 → (¬ (z7 = 0)) → (¬ (z18 = 0)) → (¬ (z57 = 0)) → (¬ (z218 = 0)) → ¬ (z278 = 0) := by
 intro e7 e8 e9 e10 e18 e19 e20 e21 e22 e23 e24 e25 e26 e27 e28 e29 e30 e57 e58 e59 e60 e103 e104 e106 e107 e109 e110 e212 e213 e214 e215 e216 e217 e218 e270 e271 e272 e273 e274 e275 e276 e277 e278 u0 u1 u3 u10
 rw [e7] at u0
 rw [e18] at u1
 rw [e57] at u3
 clear  e7 e18 e57
 have iw0 := fac3_ne u0
 generalize fac [z0, z1, z2] = g0 at *
 have iw1 := fac3_ne u1
 generalize fac [z11, z12, z13] = g1 at *
 have iw2 := fac3_ne u3
 generalize fac [z50, z51, z52] = g2 at *
 obtain ⟨iv0, ih0⟩ := inv_ex iw0
 obtain ⟨iv1, ih1⟩ := inv_ex iw1
 obtain ⟨iv2, ih2⟩ := inv_ex iw2
 subst_vars; grind
theorem projectRatio_r0 : (callC (sx Tryz.prog projectRatio_N [(0, 7, 0, 1)] [(277, [])] projectRatio_L projectRatio_C projectRatio_Z (prC [75])) [(179, 60), (154, 61), (25, 62), (78, 63), (97, 63)] 8 [] 11 [(false, [(true, [.inr (2, 0, 0, 0, 0), .inr (2, 1, 0, 0, 0), .inr (2, 2, 0, 0, 0)])]), (false, [(true, [.inr (2, 3, 0, 0, 0), .inr (2, 4, 0, 0, 0), .inr (2, 5, 0, 0, 0)])]), (false, [(true, [.inr (2, 6, 0, 0, 0), .inr (2, 7, 0, 0, 0), .inr (2, 8, 0, 0, 0)])]), (false, [(true, [.inr (2, 9, 0, 0, 0), .inr (2, 10, 0, 0, 0), .inr (2, 11, 0, 0, 0)])])] [] 0).map (·.1) = some (kB true) := by kernel_rfl
theorem projectRatio_r1 : (callC (sx Tryz.prog projectRatio_N [(0, 7, 0, 0), (0, 18, 0, 1)] [(277, [])] projectRatio_L projectRatio_C projectRatio_Z (prC [75])) [(179, 60), (154, 61), (25, 62), (78, 63), (97, 63)] 8 [] 11 [(false, [(true, [.inr (2, 0, 0, 0, 0), .inr (2, 1, 0, 0, 0), .inr (2, 2, 0, 0, 0)])]), (false, [(true, [.inr (2, 3, 0, 0, 0), .inr (2, 4, 0, 0, 0), .inr (2, 5, 0, 0, 0)])]), (false, [(true, [.inr (2, 6, 0, 0, 0), .inr (2, 7, 0, 0, 0), .inr (2, 8, 0, 0, 0)])]), (false, [(true, [.inr (2, 9, 0, 0, 0), .inr (2, 10, 0, 0, 0), .inr (2, 11, 0, 0, 0)])])] [] 0).map (·.1) = some (kB true) := by kernel_rfl
theorem projectRatio_r2 : (callC (sx Tryz.prog projectRatio_N [(0, 7, 0, 0), (0, 18, 0, 0), (0, 35, 0, 1), (0, 49, 0, 1)] [(277, [])] projectRatio_L projectRatio_C projectRatio_Z (prC [75])) [(179, 60), (154, 61), (25, 62), (78, 63), (97, 63)] 8 [] 11 [(false, [(true, [.inr (2, 0, 0, 0, 0), .inr (2, 1, 0, 0, 0), .inr (2, 2, 0, 0, 0)])]), (false, [(true, [.inr (2, 3, 0, 0, 0), .inr (2, 4, 0, 0, 0), .inr (2, 5, 0, 0, 0)])]), (false, [(true, [.inr (2, 6, 0, 0, 0), .inr (2, 7, 0, 0, 0), .inr (2, 8, 0, 0, 0)])]), (false, [(true, [.inr (2, 9, 0, 0, 0), .inr (2, 10, 0, 0, 0), .inr (2, 11, 0, 0, 0)])])] [] 0).map (·.1) = some (kB true) := by kernel_rfl
theorem projectRatio_r3 : (callC (sx Tryz.prog projectRatio_N [(0, 7, 0, 0), (0, 18, 0, 0), (0, 35, 0, 0), (0, 57, 0, 1), (0, 49, 0, 0)] [(277, [])] projectRatio_L projectRatio_C projectRatio_Z (prC [75])) [(179, 60), (154, 61), (25, 62), (78, 63), (97, 63)] 8 [] 11 [(false, [(true, [.inr (2, 0, 0, 0, 0), .inr (2, 1, 0, 0, 0), .inr (2, 2, 0, 0, 0)])]), (false, [(true, [.inr (2, 3, 0, 0, 0), .inr (2, 4, 0, 0, 0), .inr (2, 5, 0, 0, 0)])]), (false, [(true, [.inr (2, 6, 0, 0, 0), .inr (2, 7, 0, 0, 0), .inr (2, 8, 0, 0, 0)])]), (false, [(true, [.inr (2, 9, 0, 0, 0), .inr (2, 10, 0, 0, 0), .inr (2, 11, 0, 0, 0)])])] [] 0).map (·.1) = some (kB true) := by kernel_rfl
theorem projectRatio_r4 : (callC (sx Tryz.prog projectRatio_N [(0, 7, 0, 0), (0, 18, 0, 0), (0, 35, 0, 0), (0, 57, 0, 0), (0, 74, 0, 1), (0, 49, 0, 0), (0, 88, 0, 1)] [(277, [])] projectRatio_L projectRatio_C projectRatio_Z (prC [75])) [(179, 60), (154, 61), (25, 62), (78, 63), (97, 63)] 8 [] 11 [(false, [(true, [.inr (2, 0, 0, 0, 0), .inr (2, 1, 0, 0, 0), .inr (2, 2, 0, 0, 0)])]), (false, [(true, [.inr (2, 3, 0, 0, 0), .inr (2, 4, 0, 0, 0), .inr (2, 5, 0, 0, 0)])]), (false, [(true, [.inr (2, 6, 0, 0, 0), .inr (2, 7, 0, 0, 0), .inr (2, 8, 0, 0, 0)])]), (false, [(true, [.inr (2, 9, 0, 0, 0), .inr (2, 10, 0, 0, 0), .inr (2, 11, 0, 0, 0)])])] [] 0).map (·.1) = some (kB true) := by kernel_rfl
theorem projectRatio_r5 : (callC (sx Tryz.prog projectRatio_N [(0, 7, 0, 0), (0, 18, 0, 0), (0, 35, 0, 0), (0, 57, 0, 0), (0, 74, 0, 0), (0, 102, 0, 1), (0, 49, 0, 0), (0, 88, 0, 0), (0, 116, 0, 1)] [(277, [])] projectRatio_L projectRatio_C projectRatio_Z (prC [75])) [(179, 60), (154, 61), (25, 62), (78, 63), (97, 63)] 8 [] 11 [(false, [(true, [.inr (2, 0, 0, 0, 0), .inr (2, 1, 0, 0, 0), .inr (2, 2, 0, 0, 0)])]), (false, [(true, [.inr (2, 3, 0, 0, 0), .inr (2, 4, 0, 0, 0), .inr (2, 5, 0, 0, 0)])]), (false, [(true, [.inr (2, 6, 0, 0, 0), .inr (2, 7, 0, 0, 0), .inr (2, 8, 0, 0, 0)])]), (false, [(true, [.inr (2, 9, 0, 0, 0), .inr (2, 10, 0, 0, 0), .inr (2, 11, 0, 0, 0)])])] [] 0).map (·.1) = some (kB true) := by kernel_rfl
theorem projectRatio_r6 : (callC (sx Tryz.prog projectRatio_N [(0, 7, 0, 0), (0, 18, 0, 0), (0, 35, 0, 0), (0, 57, 0, 0), (0, 74, 0, 0), (0, 102, 0, 0), (0, 124, 0, 1), (0, 49, 0, 0), (0, 88, 0, 0), (0, 116, 0, 0)] [(277, [])] projectRatio_L projectRatio_C projectRatio_Z (prC [75])) [(179, 60), (154, 61), (25, 62), (78, 63), (97, 63)] 8 [] 11 [(false, [(true, [.inr (2, 0, 0, 0, 0), .inr (2, 1, 0, 0, 0), .inr (2, 2, 0, 0, 0)])]), (false, [(true, [.inr (2, 3, 0, 0, 0), .inr (2, 4, 0, 0, 0), .inr (2, 5, 0, 0, 0)])]), (false, [(true, [.inr (2, 6, 0, 0, 0), .inr (2, 7, 0, 0, 0), .inr (2, 8, 0, 0, 0)])]), (false, [(true, [.inr (2, 9, 0, 0, 0), .inr (2, 10, 0, 0, 0), .inr (2, 11, 0, 0, 0)])])] [] 0).map (·.1) = some (kB true) := by kernel_rfl
theorem projectRatio_r7 : (callC (sx Tryz.prog projectRatio_N [(0, 7, 0, 0), (0, 18, 0, 0), (0, 35, 0, 0), (0, 57, 0, 0), (0, 74, 0, 0), (0, 102, 0, 0), (0, 124, 0, 0), (0, 141, 0, 1), (0, 49, 0, 0), (0, 88, 0, 0), (0, 116, 0, 0), (0, 155, 0, 1)] [(277, [])] projectRatio_L projectRatio_C projectRatio_Z (prC [75])) [(179, 60), (154, 61), (25, 62), (78, 63), (97, 63)] 8 [] 11 [(false, [(true, [.inr (2, 0, 0, 0, 0), .inr (2, 1, 0, 0, 0), .inr (2, 2, 0, 0, 0)])]), (false, [(true, [.inr (2, 3, 0, 0, 0), .inr (2, 4, 0, 0, 0), .inr (2, 5, 0, 0, 0)])]), (false, [(true, [.inr (2, 6, 0, 0, 0), .inr (2, 7, 0, 0, 0), .inr (2, 8, 0, 0, 0)])]), (false, [(true, [.inr (2, 9, 0, 0, 0), .inr (2, 10, 0, 0, 0), .inr (2, 11, 0, 0, 0)])])] [] 0).map (·.1) = some (kB true) := by kernel_rfl
theorem projectRatio_r8 : (callC (sx Tryz.prog projectRatio_N [(0, 7, 0, 0), (0, 18, 0, 0), (0, 35, 0, 0), (0, 57, 0, 0), (0, 74, 0, 0), (0, 102, 0, 0), (0, 124, 0, 0), (0, 141, 0, 0), (0, 169, 0, 1), (0, 49, 0, 0), (0, 88, 0, 0), (0, 116, 0, 0), (0, 155, 0, 0), (0, 183, 0, 1)] [(277, [])] projectRatio_L projectRatio_C projectRatio_Z (prC [75])) [(179, 60), (154, 61), (25, 62), (78, 63), (97, 63)] 8 [] 11 [(false, [(true, [.inr (2, 0, 0, 0, 0), .inr (2, 1, 0, 0, 0), .inr (2, 2, 0, 0, 0)])]), (false, [(true, [.inr (2, 3, 0, 0, 0), .inr (2, 4, 0, 0, 0), .inr (2, 5, 0, 0, 0)])]), (false, [(true, [.inr (2, 6, 0, 0, 0), .inr (2, 7, 0, 0, 0), .inr (2, 8, 0, 0, 0)])]), (false, [(true, [.inr (2, 9, 0, 0, 0), .inr (2, 10, 0, 0, 0), .inr (2, 11, 0, 0, 0)])])] [] 0).map (·.1) = some (kB true) := by kernel_rfl
theorem projectRatio_r9 : (callC (sx Tryz.prog projectRatio_N [(0, 7, 0, 0), (0, 18, 0, 0), (0, 35, 0, 0), (0, 57, 0, 0), (0, 74, 0, 0), (0, 102, 0, 0), (0, 124, 0, 0), (0, 141, 0, 0), (0, 169, 0, 0), (0, 197, 0, 1), (0, 49, 0, 0), (0, 88, 0, 0), (0, 116, 0, 0), (0, 155, 0, 0), (0, 183, 0, 0), (0, 211, 0, 1)] [(277, [])] projectRatio_L projectRatio_C projectRatio_Z (prC [75])) [(179, 60), (154, 61), (25, 62), (78, 63), (97, 63)] 8 [] 11 [(false, [(true, [.inr (2, 0, 0, 0, 0), .inr (2, 1, 0, 0, 0), .inr (2, 2, 0, 0, 0)])]), (false, [(true, [.inr (2, 3, 0, 0, 0), .inr (2, 4, 0, 0, 0), .inr (2, 5, 0, 0, 0)])]), (false, [(true, [.inr (2, 6, 0, 0, 0), .inr (2, 7, 0, 0, 0), .inr (2, 8, 0, 0, 0)])]), (false, [(true, [.inr (2, 9, 0, 0, 0), .inr (2, 10, 0, 0, 0), .inr (2, 11, 0, 0, 0)])])] [] 0).map (·.1) = some (kB true) := by kernel_rfl
theorem projectRatio_r10 : (callC (sx Tryz.prog projectRatio_N [(0, 7, 0, 0), (0, 18, 0, 0), (0, 35, 0, 0), (0, 57, 0, 0), (0, 74, 0, 0), (0, 102, 0, 0), (0, 124, 0, 0), (0, 141, 0, 0), (0, 169, 0, 0), (0, 197, 0, 0), (0, 218, 0, 1), (0, 224, 0, 1), (0, 49, 0, 0), (0, 88, 0, 0), (0, 116, 0, 0), (0, 155, 0, 0), (0, 183, 0, 0), (0, 211, 0, 0), (0, 278, 0, 1), (0, 279, 0, 1), (0, 280, 0, 1), (0, 41, 0, 0), (0, 294, 0, 1), (3, 269, 302, 1)] [(277, [])] projectRatio_L projectRatio_C projectRatio_Z (prC [75])) [(179, 60), (154, 61), (25, 62), (78, 63), (97, 63)] 8 [] 11 [(false, [(true, [.inr (2, 0, 0, 0, 0), .inr (2, 1, 0, 0, 0), .inr (2, 2, 0, 0, 0)])]), (false, [(true, [.inr (2, 3, 0, 0, 0), .inr (2, 4, 0, 0, 0), .inr (2, 5, 0, 0, 0)])]), (false, [(true, [.inr (2, 6, 0, 0, 0), .inr (2, 7, 0, 0, 0), .inr (2, 8, 0, 0, 0)])]), (false, [(true, [.inr (2, 9, 0, 0, 0), .inr (2, 10, 0, 0, 0), .inr (2, 11, 0, 0, 0)])])] [] 0).map (·.1) = some (kB true) := by kernel_rfl
theorem projectRatio_r11 : (callC (sx Tryz.prog projectRatio_N [(0, 7, 0, 0), (0, 18, 0, 0), (0, 35, 0, 0), (0, 57, 0, 0), (0, 74, 0, 0), (0, 102, 0, 0), (0, 124, 0, 0), (0, 141, 0, 0), (0, 169, 0, 0), (0, 197, 0, 0), (0, 218, 0, 1), (0, 224, 0, 1), (0, 49, 0, 0), (0, 88, 0, 0), (0, 116, 0, 0), (0, 155, 0, 0), (0, 183, 0, 0), (0, 211, 0, 0), (0, 278, 0, 1), (0, 279, 0, 1), (0, 280, 0, 0), (0, 294, 0, 1), (3, 269, 317, 1)] [(277, [])] projectRatio_L projectRatio_C projectRatio_Z (prC [75])) [(179, 60), (154, 61), (25, 62), (78, 63), (97, 63)] 8 [] 11 [(false, [(true, [.inr (2, 0, 0, 0, 0), .inr (2, 1, 0, 0, 0), .inr (2, 2, 0, 0, 0)])]), (false, [(true, [.inr (2, 3, 0, 0, 0), .inr (2, 4, 0, 0, 0), .inr (2, 5, 0, 0, 0)])]), (false, [(true, [.inr (2, 6, 0, 0, 0), .inr (2, 7, 0, 0, 0), .inr (2, 8, 0, 0, 0)])]), (false, [(true, [.inr (2, 9, 0, 0, 0), .inr (2, 10, 0, 0, 0), .inr (2, 11, 0, 0, 0)])])] [] 0).map (·.1) = some (kB true) := by kernel_rfl
theorem projectRatio_r12 : (callC (sx Tryz.prog projectRatio_N [(0, 7, 0, 0), (0, 18, 0, 0), (0, 35, 0, 0), (0, 57, 0, 0), (0, 74, 0, 0), (0, 102, 0, 0), (0, 124, 0, 0), (0, 141, 0, 0), (0, 169, 0, 0), (0, 197, 0, 0), (0, 218, 0, 1), (0, 224, 0, 1), (0, 49, 0, 0), (0, 88, 0, 0), (0, 116, 0, 0), (0, 155, 0, 0), (0, 183, 0, 0), (0, 211, 0, 0), (0, 278, 0, 1), (0, 279, 0, 0), (0, 294, 0, 1), (3, 269, 332, 1)] [(277, [])] projectRatio_L projectRatio_C projectRatio_Z (prC [75])) [(179, 60), (154, 61), (25, 62), (78, 63), (97, 63)] 8 [] 11 [(false, [(true, [.inr (2, 0, 0, 0, 0), .inr (2, 1, 0, 0, 0), .inr (2, 2, 0, 0, 0)])]), (false, [(true, [.inr (2, 3, 0, 0, 0), .inr (2, 4, 0, 0, 0), .inr (2, 5, 0, 0, 0)])]), (false, [(true, [.inr (2, 6, 0, 0, 0), .inr (2, 7, 0, 0, 0), .inr (2, 8, 0, 0, 0)])]), (false, [(true, [.inr (2, 9, 0, 0, 0), .inr (2, 10, 0, 0, 0), .inr (2, 11, 0, 0, 0)])])] [] 0).map (·.1) = some (kB true) := by kernel_rfl
theorem projectRatio_r13 : (callC (sx Tryz.prog projectRatio_N [(0, 7, 0, 0), (0, 18, 0, 0), (0, 35, 0, 0), (0, 57, 0, 0), (0, 74, 0, 0), (0, 102, 0, 0), (0, 124, 0, 0), (0, 141, 0, 0), (0, 169, 0, 0), (0, 197, 0, 0), (0, 218, 0, 1), (0, 224, 0, 0), (0, 49, 0, 0), (0, 88, 0, 0), (0, 116, 0, 0), (0, 155, 0, 0), (0, 183, 0, 0), (0, 211, 0, 0), (0, 278, 0, 1), (0, 279, 0, 1), (0, 280, 0, 1), (0, 41, 0, 0), (0, 294, 0, 0)] [(277, [])] projectRatio_L projectRatio_C projectRatio_Z (prC [75])) [(179, 60), (154, 61), (25, 62), (78, 63), (97, 63)] 8 [] 11 [(false, [(true, [.inr (2, 0, 0, 0, 0), .inr (2, 1, 0, 0, 0), .inr (2, 2, 0, 0, 0)])]), (false, [(true, [.inr (2, 3, 0, 0, 0), .inr (2, 4, 0, 0, 0), .inr (2, 5, 0, 0, 0)])]), (false, [(true, [.inr (2, 6, 0, 0, 0), .inr (2, 7, 0, 0, 0), .inr (2, 8, 0, 0, 0)])]), (false, [(true, [.inr (2, 9, 0, 0, 0), .inr (2, 10, 0, 0, 0), .inr (2, 11, 0, 0, 0)])])] [] 0).map (·.1) = some (kB true) := by kernel_rfl
theorem projectRatio_r14 : (callC (sx Tryz.prog projectRatio_N [(0, 7, 0, 0), (0, 18, 0, 0), (0, 35, 0, 0), (0, 57, 0, 0), (0, 74, 0, 0), (0, 102, 0, 0), (0, 124, 0, 0), (0, 141, 0, 0), (0, 169, 0, 0), (0, 197, 0, 0), (0, 218, 0, 1), (0, 224, 0, 0), (0, 49, 0, 0), (0, 88, 0, 0), (0, 116, 0, 0), (0, 155, 0, 0), (0, 183, 0, 0), (0, 211, 0, 0), (0, 278, 0, 1), (0, 279, 0, 1), (0, 280, 0, 0), (0, 294, 0, 0)] [(277, [])] projectRatio_L projectRatio_C projectRatio_Z (prC [75])) [(179, 60), (154, 61), (25, 62), (78, 63), (97, 63)] 8 [] 11 [(false, [(true, [.inr (2, 0, 0, 0, 0), .inr (2, 1, 0, 0, 0), .inr (2, 2, 0, 0, 0)])]), (false, [(true, [.inr (2, 3, 0, 0, 0), .inr (2, 4, 0, 0, 0), .inr (2, 5, 0, 0, 0)])]), (false, [(true, [.inr (2, 6, 0, 0, 0), .inr (2, 7, 0, 0, 0), .inr (2, 8, 0, 0, 0)])]), (false, [(true, [.inr (2, 9, 0, 0, 0), .inr (2, 10, 0, 0, 0), .inr (2, 11, 0, 0, 0)])])] [] 0).map (·.1) = some (kB true) := by kernel_rfl
theorem projectRatio_r15 : (callC (sx Tryz.prog projectRatio_N [(0, 7, 0, 0), (0, 18, 0, 0), (0, 35, 0, 0), (0, 57, 0, 0), (0, 74, 0, 0), (0, 102, 0, 0), (0, 124, 0, 0), (0, 141, 0, 0), (0, 169, 0, 0), (0, 197, 0, 0), (0, 218, 0, 1), (0, 224, 0, 0), (0, 49, 0, 0), (0, 88, 0, 0), (0, 116, 0, 0), (0, 155, 0, 0), (0, 183, 0, 0), (0, 211, 0, 0), (0, 278, 0, 1), (0, 279, 0, 0), (0, 294, 0, 0)] [(277, [])] projectRatio_L projectRatio_C projectRatio_Z (prC [75])) [(179, 60), (154, 61), (25, 62), (78, 63), (97, 63)] 8 [] 11 [(false, [(true, [.inr (2, 0, 0, 0, 0), .inr (2, 1, 0, 0, 0), .inr (2, 2, 0, 0, 0)])]), (false, [(true, [.inr (2, 3, 0, 0, 0), .inr (2, 4, 0, 0, 0), .inr (2, 5, 0, 0, 0)])]), (false, [(true, [.inr (2, 6, 0, 0, 0), .inr (2, 7, 0, 0, 0), .inr (2, 8, 0, 0, 0)])]), (false, [(true, [.inr (2, 9, 0, 0, 0), .inr (2, 10, 0, 0, 0), .inr (2, 11, 0, 0, 0)])])] [] 0).map (·.1) = some (kB true) := by kernel_rfl
theorem projectRatio_r16 : (callC (sx Tryz.prog projectRatio_N [(0, 7, 0, 0), (0, 18, 0, 0), (0, 35, 0, 0), (0, 57, 0, 0), (0, 74, 0, 0), (0, 102, 0, 0), (0, 124, 0, 0), (0, 141, 0, 0), (0, 169, 0, 0), (0, 197, 0, 0), (0, 218, 0, 0), (0, 49, 0, 0), (0, 88, 0, 0), (0, 116, 0, 0), (0, 155, 0, 0), (0, 183, 0, 0), (0, 211, 0, 0), (0, 278, 0, 0), (0, 294, 0, 1), (0, 279, 0, 1), (0, 280, 0, 1), (0, 41, 0, 0)] [(277, [])] projectRatio_L projectRatio_C projectRatio_Z (prC [75])) [(179, 60), (154, 61), (25, 62), (78, 63), (97, 63)] 8 [] 11 [(false, [(true, [.inr (2, 0, 0, 0, 0), .inr (2, 1, 0, 0, 0), .inr (2, 2, 0, 0, 0)])]), (false, [(true, [.inr (2, 3, 0, 0, 0), .inr (2, 4, 0, 0, 0), .inr (2, 5, 0, 0, 0)])]), (false, [(true, [.inr (2, 6, 0, 0, 0), .inr (2, 7, 0, 0, 0), .inr (2, 8, 0, 0, 0)])]), (false, [(true, [.inr (2, 9, 0, 0, 0), .inr (2, 10, 0, 0, 0), .inr (2, 11, 0, 0, 0)])])] [] 0).map (·.1) = some (kB true) := by kernel_rfl
theorem projectRatio_r17 : (callC (sx Tryz.prog projectRatio_N [(0, 7, 0, 0), (0, 18, 0, 0), (0, 35, 0, 0), (0, 57, 0, 0), (0, 74, 0, 0), (0, 102, 0, 0), (0, 124, 0, 0), (0, 141, 0, 0), (0, 169, 0, 0), (0, 197, 0, 0), (0, 218, 0, 0), (0, 49, 0, 0), (0, 88, 0, 0), (0, 116, 0, 0), (0, 155, 0, 0), (0, 183, 0, 0), (0, 211, 0, 0), (0, 278, 0, 0), (0, 294, 0, 1), (0, 279, 0, 1), (0, 280, 0, 0)] [(277, [])] projectRatio_L projectRatio_C projectRatio_Z (prC [75])) [(179, 60), (154, 61), (25, 62), (78, 63), (97, 63)] 8 [] 11 [(false, [(true, [.inr (2, 0, 0, 0, 0), .inr (2, 1, 0, 0, 0), .inr (2, 2, 0, 0, 0)])]), (false, [(true, [.inr (2, 3, 0, 0, 0), .inr (2, 4, 0, 0, 0), .inr (2, 5, 0, 0, 0)])]), (false, [(true, [.inr (2, 6, 0, 0, 0), .inr (2, 7, 0, 0, 0), .inr (2, 8, 0, 0, 0)])]), (false, [(true, [.inr (2, 9, 0, 0, 0), .inr (2, 10, 0, 0, 0), .inr (2, 11, 0, 0, 0)])])] [] 0).map (·.1) = some (kB true) := by kernel_rfl
theorem projectRatio_r18 : (callC (sx Tryz.prog projectRatio_N [(0, 7, 0, 0), (0, 18, 0, 0), (0, 35, 0, 0), (0, 57, 0, 0), (0, 74, 0, 0), (0, 102, 0, 0), (0, 124, 0, 0), (0, 141, 0, 0), (0, 169, 0, 0), (0, 197, 0, 0), (0, 218, 0, 0), (0, 49, 0, 0), (0, 88, 0, 0), (0, 116, 0, 0), (0, 155, 0, 0), (0, 183, 0, 0), (0, 211, 0, 0), (0, 278, 0, 0), (0, 294, 0, 1), (0, 279, 0, 0)] [(277, [])] projectRatio_L projectRatio_C projectRatio_Z (prC [75])) [(179, 60), (154, 61), (25, 62), (78, 63), (97, 63)] 8 [] 11 [(false, [(true, [.inr (2, 0, 0, 0, 0), .inr (2, 1, 0, 0, 0), .inr (2, 2, 0, 0, 0)])]), (false, [(true, [.inr (2, 3, 0, 0, 0), .inr (2, 4, 0, 0, 0), .inr (2, 5, 0, 0, 0)])]), (false, [(true, [.inr (2, 6, 0, 0, 0), .inr (2, 7, 0, 0, 0), .inr (2, 8, 0, 0, 0)])]), (false, [(true, [.inr (2, 9, 0, 0, 0), .inr (2, 10, 0, 0, 0), .inr (2, 11, 0, 0, 0)])])] [] 0).map (·.1) = some (kB true) := by kernel_rfl
theorem projectRatio_r19 : (callC (sx Tryz.prog projectRatio_N [(0, 7, 0, 0), (0, 18, 0, 0), (0, 35, 0, 0), (0, 57, 0, 0), (0, 74, 0, 0), (0, 102, 0, 0), (0, 124, 0, 0), (0, 141, 0, 0), (0, 169, 0, 0), (0, 197, 0, 0), (0, 218, 0, 0), (0, 49, 0, 0), (0, 88, 0, 0), (0, 116, 0, 0), (0, 155, 0, 0), (0, 183, 0, 0), (0, 211, 0, 0), (0, 278, 0, 0), (0, 294, 0, 0)] [(277, [])] projectRatio_L projectRatio_C projectRatio_Z (prC [75])) [(179, 60), (154, 61), (25, 62), (78, 63), (97, 63)] 8 [] 11 [(false, [(true, [.inr (2, 0, 0, 0, 0), .inr (2, 1, 0, 0, 0), .inr (2, 2, 0, 0, 0)])]), (false, [(true, [.inr (2, 3, 0, 0, 0), .inr (2, 4, 0, 0, 0), .inr (2, 5, 0, 0, 0)])]), (false, [(true, [.inr (2, 6, 0, 0, 0), .inr (2, 7, 0, 0, 0), .inr (2, 8, 0, 0, 0)])]), (false, [(true, [.inr (2, 9, 0, 0, 0), .inr (2, 10, 0, 0, 0), .inr (2, 11, 0, 0, 0)])])] [] 0).map (·.1) = some (kB true) := by kernel_rfl
theorem projectRatio_An {a b : Prop} (x : a) (y : b) : a ∧ b := ⟨x, y⟩
theorem projectRatio_leaf {H : List (Nat × Nat × Nat × Nat)} {K : List (FuncId × List AC)} {k : Nat} {q : Nat → Rat} {σ : Nat → ByteArray} {args : List AV} {vs : List Value} {w : World} (hr : (callC (sx Tryz.prog projectRatio_N H K projectRatio_L projectRatio_C projectRatio_Z (prC [75])) [(179, 60), (154, 61), (25, 62), (78, 63), (97, 63)] k [] 11 args [] 0).map (·.1) = some (kB true)) (hσ : ∀ j, (σ j).size ≤ 1048576) (hq : ∀ (a : Nat) nd, projectRatio_N[a]? = some nd → q a = valN σ q nd) (h0 : ∀ a, projectRatio_N.length ≤ a → q a = 0) (hH : hAll q H) (hp : PreS w) (hA : ∀ K, A2 (avOn (cOn (evS q σ) K (fun _ => none) w)) args vs) : Calls Tryz.prog 11 vs.toArray w fun e w' => Below w.heap.size w w' ∧ e = .returned (.bool true) :=
 run_toldC' k (hy_of hσ projectRatio_wf projectRatio_sz projectRatio_lt projectRatio_cn hq h0 hH) (by simp [closed_projected]) (by kernel_rfl) hr hp (hA K)
theorem projectRatio_walk {w : World} {sa sb sc ta tb tc ua ub uc va vb vc : ByteArray} (ssa : sa.size ≤ 1048576) (ssb : sb.size ≤ 1048576) (ssc : sc.size ≤ 1048576) (sta : ta.size ≤ 1048576) (stb : tb.size ≤ 1048576) (stc : tc.size ≤ 1048576) (sua : ua.size ≤ 1048576) (sub : ub.size ≤ 1048576) (suc : uc.size ≤ 1048576) (sva : va.size ≤ 1048576) (svb : vb.size ≤ 1048576) (svc : vc.size ≤ 1048576) (tab : Tab w) (mx : MaxL w) :
  Calls Tryz.prog 11 #[.agg #[.string sa, .string sb, .string sc], .agg #[.string ta, .string tb, .string tc], .agg #[.string ua, .string ub, .string uc], .agg #[.string va, .string vb, .string vc]] w fun e w' => Below w.heap.size w w' ∧ e = .returned (.bool true) := by
 have hσ : ∀ j, (sgOf [sa, sb, sc, ta, tb, tc, ua, ub, uc, va, vb, vc] j).size ≤ 1048576 := sgOf_size (by simp [ssa, ssb, ssc, sta, stb, stc, sua, sub, suc, sva, svb, svc])
 obtain ⟨q, hq, h0⟩ := nodes_exist (sgOf [sa, sb, sc, ta, tb, tc, ua, ub, uc, va, vb, vc]) projectRatio_N projectRatio_wf
 have hA : ∀ K, A2 (avOn (cOn (evS q (sgOf [sa, sb, sc, ta, tb, tc, ua, ub, uc, va, vb, vc])) K (fun _ => none) w)) [(false, [(true, [.inr (2, 0, 0, 0, 0), .inr (2, 1, 0, 0, 0), .inr (2, 2, 0, 0, 0)])]), (false, [(true, [.inr (2, 3, 0, 0, 0), .inr (2, 4, 0, 0, 0), .inr (2, 5, 0, 0, 0)])]), (false, [(true, [.inr (2, 6, 0, 0, 0), .inr (2, 7, 0, 0, 0), .inr (2, 8, 0, 0, 0)])]), (false, [(true, [.inr (2, 9, 0, 0, 0), .inr (2, 10, 0, 0, 0), .inr (2, 11, 0, 0, 0)])])] [.agg #[.string sa, .string sb, .string sc], .agg #[.string ta, .string tb, .string tc], .agg #[.string ua, .string ub, .string uc], .agg #[.string va, .string vb, .string vc]] := fun K => ⟨⟨⟨[.string sa, .string sb, .string sc], rfl, rfl, rfl, rfl, trivial⟩, trivial⟩, ⟨⟨[.string ta, .string tb, .string tc], rfl, rfl, rfl, rfl, trivial⟩, trivial⟩, ⟨⟨[.string ua, .string ub, .string uc], rfl, rfl, rfl, rfl, trivial⟩, trivial⟩, ⟨⟨[.string va, .string vb, .string vc], rfl, rfl, rfl, rfl, trivial⟩, trivial⟩, trivial⟩
 have E8 : q 8 = q 0 * fac [q 0, q 1, q 2] := hq 8 _ rfl
 have E9 : q 9 = q 1 * fac [q 0, q 1, q 2] := hq 9 _ rfl
 have E10 : q 10 = q 2 * fac [q 0, q 1, q 2] := hq 10 _ rfl
 have E19 : q 19 = q 11 * fac [q 11, q 12, q 13] := hq 19 _ rfl
 have E20 : q 20 = q 12 * fac [q 11, q 12, q 13] := hq 20 _ rfl
 have E21 : q 21 = q 13 * fac [q 11, q 12, q 13] := hq 21 _ rfl
 have E22 : q 22 = q 9 * q 21 := hq 22 _ rfl
 have E23 : q 23 = q 10 * q 20 := hq 23 _ rfl
 have E24 : q 24 = q 22 - q 23 := hq 24 _ rfl
 have E25 : q 25 = q 10 * q 19 := hq 25 _ rfl
 have E26 : q 26 = q 8 * q 21 := hq 26 _ rfl
 have E27 : q 27 = q 25 - q 26 := hq 27 _ rfl
 have E28 : q 28 = q 8 * q 20 := hq 28 _ rfl
 have E29 : q 29 = q 9 * q 19 := hq 29 _ rfl
 have E30 : q 30 = q 28 - q 29 := hq 30 _ rfl
 have E36 : q 36 = q 1 * q 11 := hq 36 _ rfl
 have E37 : q 37 = q 0 * q 12 := hq 37 _ rfl
 have E38 : q 38 = q 36 - q 37 := hq 38 _ rfl
 have E39 : q 39 = q 2 * q 11 := hq 39 _ rfl
 have E40 : q 40 = q 0 * q 13 := hq 40 _ rfl
 have E41 : q 41 = q 39 - q 40 := hq 41 _ rfl
 have E42 : q 42 = q 2 * q 12 := hq 42 _ rfl
 have E43 : q 43 = q 1 * q 13 := hq 43 _ rfl
 have E44 : q 44 = q 42 - q 43 := hq 44 _ rfl
 have E58 : q 58 = q 50 * fac [q 50, q 51, q 52] := hq 58 _ rfl
 have E59 : q 59 = q 51 * fac [q 50, q 51, q 52] := hq 59 _ rfl
 have E60 : q 60 = q 52 * fac [q 50, q 51, q 52] := hq 60 _ rfl
 have E61 : q 61 = q 9 * q 60 := hq 61 _ rfl
 have E62 : q 62 = q 10 * q 59 := hq 62 _ rfl
 have E63 : q 63 = q 61 - q 62 := hq 63 _ rfl
 have E64 : q 64 = q 10 * q 58 := hq 64 _ rfl
 have E65 : q 65 = q 8 * q 60 := hq 65 _ rfl
 have E66 : q 66 = q 64 - q 65 := hq 66 _ rfl
 have E67 : q 67 = q 8 * q 59 := hq 67 _ rfl
 have E68 : q 68 = q 9 * q 58 := hq 68 _ rfl
 have E69 : q 69 = q 67 - q 68 := hq 69 _ rfl
 have E75 : q 75 = q 1 * q 50 := hq 75 _ rfl
 have E76 : q 76 = q 0 * q 51 := hq 76 _ rfl
 have E77 : q 77 = q 75 - q 76 := hq 77 _ rfl
 have E78 : q 78 = q 2 * q 50 := hq 78 _ rfl
 have E79 : q 79 = q 0 * q 52 := hq 79 _ rfl
 have E80 : q 80 = q 78 - q 79 := hq 80 _ rfl
 have E81 : q 81 = q 2 * q 51 := hq 81 _ rfl
 have E82 : q 82 = q 1 * q 52 := hq 82 _ rfl
 have E83 : q 83 = q 81 - q 82 := hq 83 _ rfl
 have E89 : q 89 = q 20 * q 60 := hq 89 _ rfl
 have E90 : q 90 = q 21 * q 59 := hq 90 _ rfl
 have E91 : q 91 = q 89 - q 90 := hq 91 _ rfl
 have E92 : q 92 = q 21 * q 58 := hq 92 _ rfl
 have E93 : q 93 = q 19 * q 60 := hq 93 _ rfl
 have E94 : q 94 = q 92 - q 93 := hq 94 _ rfl
 have E95 : q 95 = q 19 * q 59 := hq 95 _ rfl
 have E96 : q 96 = q 20 * q 58 := hq 96 _ rfl
 have E97 : q 97 = q 95 - q 96 := hq 97 _ rfl
 have E103 : q 103 = q 12 * q 50 := hq 103 _ rfl
 have E104 : q 104 = q 11 * q 51 := hq 104 _ rfl
 have E105 : q 105 = q 103 - q 104 := hq 105 _ rfl
 have E106 : q 106 = q 13 * q 50 := hq 106 _ rfl
 have E107 : q 107 = q 11 * q 52 := hq 107 _ rfl
 have E108 : q 108 = q 106 - q 107 := hq 108 _ rfl
 have E109 : q 109 = q 13 * q 51 := hq 109 _ rfl
 have E110 : q 110 = q 12 * q 52 := hq 110 _ rfl
 have E111 : q 111 = q 109 - q 110 := hq 111 _ rfl
 have E125 : q 125 = q 117 * fac [q 117, q 118, q 119] := hq 125 _ rfl
 have E126 : q 126 = q 118 * fac [q 117, q 118, q 119] := hq 126 _ rfl
 have E127 : q 127 = q 119 * fac [q 117, q 118, q 119] := hq 127 _ rfl
 have E128 : q 128 = q 9 * q 127 := hq 128 _ rfl
 have E129 : q 129 = q 10 * q 126 := hq 129 _ rfl
 have E130 : q 130 = q 128 - q 129 := hq 130 _ rfl
 have E131 : q 131 = q 10 * q 125 := hq 131 _ rfl
 have E132 : q 132 = q 8 * q 127 := hq 132 _ rfl
 have E133 : q 133 = q 131 - q 132 := hq 133 _ rfl
 have E134 : q 134 = q 8 * q 126 := hq 134 _ rfl
 have E135 : q 135 = q 9 * q 125 := hq 135 _ rfl
 have E136 : q 136 = q 134 - q 135 := hq 136 _ rfl
 have E142 : q 142 = q 1 * q 117 := hq 142 _ rfl
 have E143 : q 143 = q 0 * q 118 := hq 143 _ rfl
 have E144 : q 144 = q 142 - q 143 := hq 144 _ rfl
 have E145 : q 145 = q 2 * q 117 := hq 145 _ rfl
 have E146 : q 146 = q 0 * q 119 := hq 146 _ rfl
 have E147 : q 147 = q 145 - q 146 := hq 147 _ rfl
 have E148 : q 148 = q 2 * q 118 := hq 148 _ rfl
 have E149 : q 149 = q 1 * q 119 := hq 149 _ rfl
 have E150 : q 150 = q 148 - q 149 := hq 150 _ rfl
 have E156 : q 156 = q 20 * q 127 := hq 156 _ rfl
 have E157 : q 157 = q 21 * q 126 := hq 157 _ rfl
 have E158 : q 158 = q 156 - q 157 := hq 158 _ rfl
 have E159 : q 159 = q 21 * q 125 := hq 159 _ rfl
 have E160 : q 160 = q 19 * q 127 := hq 160 _ rfl
 have E161 : q 161 = q 159 - q 160 := hq 161 _ rfl
 have E162 : q 162 = q 19 * q 126 := hq 162 _ rfl
 have E163 : q 163 = q 20 * q 125 := hq 163 _ rfl
 have E164 : q 164 = q 162 - q 163 := hq 164 _ rfl
 have E170 : q 170 = q 12 * q 117 := hq 170 _ rfl
 have E171 : q 171 = q 11 * q 118 := hq 171 _ rfl
 have E172 : q 172 = q 170 - q 171 := hq 172 _ rfl
 have E173 : q 173 = q 13 * q 117 := hq 173 _ rfl
 have E174 : q 174 = q 11 * q 119 := hq 174 _ rfl
 have E175 : q 175 = q 173 - q 174 := hq 175 _ rfl
 have E176 : q 176 = q 13 * q 118 := hq 176 _ rfl
 have E177 : q 177 = q 12 * q 119 := hq 177 _ rfl
 have E178 : q 178 = q 176 - q 177 := hq 178 _ rfl
 have E184 : q 184 = q 59 * q 127 := hq 184 _ rfl
 have E185 : q 185 = q 60 * q 126 := hq 185 _ rfl
 have E186 : q 186 = q 184 - q 185 := hq 186 _ rfl
 have E187 : q 187 = q 60 * q 125 := hq 187 _ rfl
 have E188 : q 188 = q 58 * q 127 := hq 188 _ rfl
 have E189 : q 189 = q 187 - q 188 := hq 189 _ rfl
 have E190 : q 190 = q 58 * q 126 := hq 190 _ rfl
 have E191 : q 191 = q 59 * q 125 := hq 191 _ rfl
 have E192 : q 192 = q 190 - q 191 := hq 192 _ rfl
 have E198 : q 198 = q 51 * q 117 := hq 198 _ rfl
 have E199 : q 199 = q 50 * q 118 := hq 199 _ rfl
 have E200 : q 200 = q 198 - q 199 := hq 200 _ rfl
 have E201 : q 201 = q 52 * q 117 := hq 201 _ rfl
 have E202 : q 202 = q 50 * q 119 := hq 202 _ rfl
 have E203 : q 203 = q 201 - q 202 := hq 203 _ rfl
 have E204 : q 204 = q 52 * q 118 := hq 204 _ rfl
 have E205 : q 205 = q 51 * q 119 := hq 205 _ rfl
 have E206 : q 206 = q 204 - q 205 := hq 206 _ rfl
 have E212 : q 212 = q 58 * q 24 := hq 212 _ rfl
 have E213 : q 213 = 0 := (hq 213 _ rfl).trans projectRatio_c213
 have E214 : q 214 = q 213 + q 212 := hq 214 _ rfl
 have E215 : q 215 = q 59 * q 27 := hq 215 _ rfl
 have E216 : q 216 = q 214 + q 215 := hq 216 _ rfl
 have E217 : q 217 = q 60 * q 30 := hq 217 _ rfl
 have E218 : q 218 = q 216 + q 217 := hq 218 _ rfl
 have E219 : q 219 = q 125 * q 24 := hq 219 _ rfl
 have E220 : q 220 = q 213 + q 219 := hq 220 _ rfl
 have E221 : q 221 = q 126 * q 27 := hq 221 _ rfl
 have E222 : q 222 = q 220 + q 221 := hq 222 _ rfl
 have E223 : q 223 = q 127 * q 30 := hq 223 _ rfl
 have E224 : q 224 = q 222 + q 223 := hq 224 _ rfl
 have E225 : q 225 = q 59 * q 21 := hq 225 _ rfl
 have E226 : q 226 = q 60 * q 20 := hq 226 _ rfl
 have E227 : q 227 = q 225 - q 226 := hq 227 _ rfl
 have E228 : q 228 = q 60 * q 19 := hq 228 _ rfl
 have E229 : q 229 = q 58 * q 21 := hq 229 _ rfl
 have E230 : q 230 = q 228 - q 229 := hq 230 _ rfl
 have E231 : q 231 = q 58 * q 20 := hq 231 _ rfl
 have E232 : q 232 = q 59 * q 19 := hq 232 _ rfl
 have E233 : q 233 = q 231 - q 232 := hq 233 _ rfl
 have E234 : q 234 = q 227 * q 24 := hq 234 _ rfl
 have E235 : q 235 = q 213 + q 234 := hq 235 _ rfl
 have E236 : q 236 = q 230 * q 27 := hq 236 _ rfl
 have E237 : q 237 = q 235 + q 236 := hq 237 _ rfl
 have E238 : q 238 = q 233 * q 30 := hq 238 _ rfl
 have E239 : q 239 = q 237 + q 238 := hq 239 _ rfl
 have E240 : q 240 = q 63 * q 24 := hq 240 _ rfl
 have E241 : q 241 = q 213 + q 240 := hq 241 _ rfl
 have E242 : q 242 = q 66 * q 27 := hq 242 _ rfl
 have E243 : q 243 = q 241 + q 242 := hq 243 _ rfl
 have E244 : q 244 = q 69 * q 30 := hq 244 _ rfl
 have E245 : q 245 = q 243 + q 244 := hq 245 _ rfl
 have E246 : q 246 = q 126 * q 21 := hq 246 _ rfl
 have E247 : q 247 = q 127 * q 20 := hq 247 _ rfl
 have E248 : q 248 = q 246 - q 247 := hq 248 _ rfl
 have E249 : q 249 = q 127 * q 19 := hq 249 _ rfl
 have E250 : q 250 = q 125 * q 21 := hq 250 _ rfl
 have E251 : q 251 = q 249 - q 250 := hq 251 _ rfl
 have E252 : q 252 = q 125 * q 20 := hq 252 _ rfl
 have E253 : q 253 = q 126 * q 19 := hq 253 _ rfl
 have E254 : q 254 = q 252 - q 253 := hq 254 _ rfl
 have E255 : q 255 = q 248 * q 24 := hq 255 _ rfl
 have E256 : q 256 = q 213 + q 255 := hq 256 _ rfl
 have E257 : q 257 = q 251 * q 27 := hq 257 _ rfl
 have E258 : q 258 = q 256 + q 257 := hq 258 _ rfl
 have E259 : q 259 = q 254 * q 30 := hq 259 _ rfl
 have E260 : q 260 = q 258 + q 259 := hq 260 _ rfl
 have E261 : q 261 = q 130 * q 24 := hq 261 _ rfl
 have E262 : q 262 = q 213 + q 261 := hq 262 _ rfl
 have E263 : q 263 = q 133 * q 27 := hq 263 _ rfl
 have E264 : q 264 = q 262 + q 263 := hq 264 _ rfl
 have E265 : q 265 = q 136 * q 30 := hq 265 _ rfl
 have E266 : q 266 = q 264 + q 265 := hq 266 _ rfl
 have E267 : q 267 = q 245 / q 239 := hq 267 _ rfl
 have E268 : q 268 = q 260 / q 266 := hq 268 _ rfl
 have E269 : q 269 = q 267 * q 268 := hq 269 _ rfl
 have E270 : q 270 = q 110 - q 109 := hq 270 _ rfl
 have E271 : q 271 = q 0 * q 270 := hq 271 _ rfl
 have E272 : q 272 = q 107 - q 106 := hq 272 _ rfl
 have E273 : q 273 = q 1 * q 272 := hq 273 _ rfl
 have E274 : q 274 = -q 273 := hq 274 _ rfl
 have E275 : q 275 = q 104 - q 103 := hq 275 _ rfl
 have E276 : q 276 = q 2 * q 275 := hq 276 _ rfl
 have E277 : q 277 = q 271 + q 274 := hq 277 _ rfl
 have E278 : q 278 = q 277 + q 276 := hq 278 _ rfl
 have E279 : q 279 = q 37 - q 36 := hq 279 _ rfl
 have E280 : q 280 = q 43 - q 42 := hq 280 _ rfl
 have E281 : q 281 = q 52 * q 11 := hq 281 _ rfl
 have E282 : q 282 = q 50 * q 13 := hq 282 _ rfl
 have E283 : q 283 = q 281 - q 282 := hq 283 _ rfl
 have E284 : q 284 = q 283 / q 41 := hq 284 _ rfl
 have E285 : q 285 = q 80 / q 41 := hq 285 _ rfl
 have E286 : q 286 = q 177 - q 176 := hq 286 _ rfl
 have E287 : q 287 = q 0 * q 286 := hq 287 _ rfl
 have E288 : q 288 = q 174 - q 173 := hq 288 _ rfl
 have E289 : q 289 = q 1 * q 288 := hq 289 _ rfl
 have E290 : q 290 = -q 289 := hq 290 _ rfl
 have E291 : q 291 = q 171 - q 170 := hq 291 _ rfl
 have E292 : q 292 = q 2 * q 291 := hq 292 _ rfl
 have E293 : q 293 = q 287 + q 290 := hq 293 _ rfl
 have E294 : q 294 = q 293 + q 292 := hq 294 _ rfl
 have E295 : q 295 = q 119 * q 11 := hq 295 _ rfl
 have E296 : q 296 = q 117 * q 13 := hq 296 _ rfl
 have E297 : q 297 = q 295 - q 296 := hq 297 _ rfl
 have E298 : q 298 = q 297 / q 41 := hq 298 _ rfl
 have E299 : q 299 = q 147 / q 41 := hq 299 _ rfl
 have E300 : q 300 = q 285 * q 298 := hq 300 _ rfl
 have E301 : q 301 = q 284 * q 299 := hq 301 _ rfl
 have E302 : q 302 = q 300 / q 301 := hq 302 _ rfl
 have E303 : q 303 = q 51 * q 13 := hq 303 _ rfl
 have E304 : q 304 = q 52 * q 12 := hq 304 _ rfl
 have E305 : q 305 = q 303 - q 304 := hq 305 _ rfl
 have E306 : q 306 = q 305 / q 280 := hq 306 _ rfl
 have E307 : q 307 = q 82 - q 81 := hq 307 _ rfl
 have E308 : q 308 = q 307 / q 280 := hq 308 _ rfl
 have E309 : q 309 = q 118 * q 13 := hq 309 _ rfl
 have E310 : q 310 = q 119 * q 12 := hq 310 _ rfl
 have E311 : q 311 = q 309 - q 310 := hq 311 _ rfl
 have E312 : q 312 = q 311 / q 280 := hq 312 _ rfl
 have E313 : q 313 = q 149 - q 148 := hq 313 _ rfl
 have E314 : q 314 = q 313 / q 280 := hq 314 _ rfl
 have E315 : q 315 = q 308 * q 312 := hq 315 _ rfl
 have E316 : q 316 = q 306 * q 314 := hq 316 _ rfl
 have E317 : q 317 = q 315 / q 316 := hq 317 _ rfl
 have E318 : q 318 = q 50 * q 12 := hq 318 _ rfl
 have E319 : q 319 = q 51 * q 11 := hq 319 _ rfl
 have E320 : q 320 = q 318 - q 319 := hq 320 _ rfl
 have E321 : q 321 = q 320 / q 279 := hq 321 _ rfl
 have E322 : q 322 = q 76 - q 75 := hq 322 _ rfl
 have E323 : q 323 = q 322 / q 279 := hq 323 _ rfl
 have E324 : q 324 = q 117 * q 12 := hq 324 _ rfl
 have E325 : q 325 = q 118 * q 11 := hq 325 _ rfl
 have E326 : q 326 = q 324 - q 325 := hq 326 _ rfl
 have E327 : q 327 = q 326 / q 279 := hq 327 _ rfl
 have E328 : q 328 = q 143 - q 142 := hq 328 _ rfl
 have E329 : q 329 = q 328 / q 279 := hq 329 _ rfl
 have E330 : q 330 = q 323 * q 327 := hq 330 _ rfl
 have E331 : q 331 = q 321 * q 329 := hq 331 _ rfl
 have E332 : q 332 = q 330 / q 331 := hq 332 _ rfl
 have Q7 : q 7 = 0 ↔ ((q 0 = 0 ∧ q 1 = 0) ∧ q 2 = 0) := (sq_next (sq_next (sq_first (hq 3 _ rfl)) (hq 4 _ rfl) (hq 5 _ rfl)) (hq 6 _ rfl) (hq 7 _ rfl)).2
 have Q18 : q 18 = 0 ↔ ((q 11 = 0 ∧ q 12 = 0) ∧ q 13 = 0) := (sq_next (sq_next (sq_first (hq 14 _ rfl)) (hq 15 _ rfl) (hq 16 _ rfl)) (hq 17 _ rfl) (hq 18 _ rfl)).2
 have Q35 : q 35 = 0 ↔ ((q 24 = 0 ∧ q 27 = 0) ∧ q 30 = 0) := (sq_next (sq_next (sq_first (hq 31 _ rfl)) (hq 32 _ rfl) (hq 33 _ rfl)) (hq 34 _ rfl) (hq 35 _ rfl)).2
 have Q49 : q 49 = 0 ↔ ((q 38 = 0 ∧ q 41 = 0) ∧ q 44 = 0) := (sq_next (sq_next (sq_first (hq 45 _ rfl)) (hq 46 _ rfl) (hq 47 _ rfl)) (hq 48 _ rfl) (hq 49 _ rfl)).2
 have Q57 : q 57 = 0 ↔ ((q 50 = 0 ∧ q 51 = 0) ∧ q 52 = 0) := (sq_next (sq_next (sq_first (hq 53 _ rfl)) (hq 54 _ rfl) (hq 55 _ rfl)) (hq 56 _ rfl) (hq 57 _ rfl)).2
 have Q74 : q 74 = 0 ↔ ((q 63 = 0 ∧ q 66 = 0) ∧ q 69 = 0) := (sq_next (sq_next (sq_first (hq 70 _ rfl)) (hq 71 _ rfl) (hq 72 _ rfl)) (hq 73 _ rfl) (hq 74 _ rfl)).2
 have Q88 : q 88 = 0 ↔ ((q 77 = 0 ∧ q 80 = 0) ∧ q 83 = 0) := (sq_next (sq_next (sq_first (hq 84 _ rfl)) (hq 85 _ rfl) (hq 86 _ rfl)) (hq 87 _ rfl) (hq 88 _ rfl)).2
 have Q102 : q 102 = 0 ↔ ((q 91 = 0 ∧ q 94 = 0) ∧ q 97 = 0) := (sq_next (sq_next (sq_first (hq 98 _ rfl)) (hq 99 _ rfl) (hq 100 _ rfl)) (hq 101 _ rfl) (hq 102 _ rfl)).2
 have Q116 : q 116 = 0 ↔ ((q 105 = 0 ∧ q 108 = 0) ∧ q 111 = 0) := (sq_next (sq_next (sq_first (hq 112 _ rfl)) (hq 113 _ rfl) (hq 114 _ rfl)) (hq 115 _ rfl) (hq 116 _ rfl)).2
 have Q124 : q 124 = 0 ↔ ((q 117 = 0 ∧ q 118 = 0) ∧ q 119 = 0) := (sq_next (sq_next (sq_first (hq 120 _ rfl)) (hq 121 _ rfl) (hq 122 _ rfl)) (hq 123 _ rfl) (hq 124 _ rfl)).2
 have Q141 : q 141 = 0 ↔ ((q 130 = 0 ∧ q 133 = 0) ∧ q 136 = 0) := (sq_next (sq_next (sq_first (hq 137 _ rfl)) (hq 138 _ rfl) (hq 139 _ rfl)) (hq 140 _ rfl) (hq 141 _ rfl)).2
 have Q155 : q 155 = 0 ↔ ((q 144 = 0 ∧ q 147 = 0) ∧ q 150 = 0) := (sq_next (sq_next (sq_first (hq 151 _ rfl)) (hq 152 _ rfl) (hq 153 _ rfl)) (hq 154 _ rfl) (hq 155 _ rfl)).2
 have Q169 : q 169 = 0 ↔ ((q 158 = 0 ∧ q 161 = 0) ∧ q 164 = 0) := (sq_next (sq_next (sq_first (hq 165 _ rfl)) (hq 166 _ rfl) (hq 167 _ rfl)) (hq 168 _ rfl) (hq 169 _ rfl)).2
 have Q183 : q 183 = 0 ↔ ((q 172 = 0 ∧ q 175 = 0) ∧ q 178 = 0) := (sq_next (sq_next (sq_first (hq 179 _ rfl)) (hq 180 _ rfl) (hq 181 _ rfl)) (hq 182 _ rfl) (hq 183 _ rfl)).2
 have Q197 : q 197 = 0 ↔ ((q 186 = 0 ∧ q 189 = 0) ∧ q 192 = 0) := (sq_next (sq_next (sq_first (hq 193 _ rfl)) (hq 194 _ rfl) (hq 195 _ rfl)) (hq 196 _ rfl) (hq 197 _ rfl)).2
 have Q211 : q 211 = 0 ↔ ((q 200 = 0 ∧ q 203 = 0) ∧ q 206 = 0) := (sq_next (sq_next (sq_first (hq 207 _ rfl)) (hq 208 _ rfl) (hq 209 _ rfl)) (hq 210 _ rfl) (hq 211 _ rfl)).2
 by_cases b7 : q 7 = 0
 ·
  exact projectRatio_leaf projectRatio_r0 hσ hq h0 (projectRatio_An (hT b7) trivial) ⟨tab, mx⟩ hA
 ·
  by_cases b18 : q 18 = 0
  ·
   exact projectRatio_leaf projectRatio_r1 hσ hq h0 (projectRatio_An (hF b7) (projectRatio_An (hT b18) trivial)) ⟨tab, mx⟩ hA
  ·
   by_cases b35 : q 35 = 0
   ·
    have b49 : q 49 = 0 := projectRatio_f0 Q7 E8 E9 E10 Q18 E19 E20 E21 E22 E23 E24 E25 E26 E27 E28 E29 E30 Q35 E36 E37 E38 E39 E40 E41 E42 E43 E44 Q49 b7 b18 b35
    exact projectRatio_leaf projectRatio_r2 hσ hq h0 (projectRatio_An (hF b7) (projectRatio_An (hF b18) (projectRatio_An (hT b35) (projectRatio_An (hT b49) trivial)))) ⟨tab, mx⟩ hA
   ·
    by_cases b57 : q 57 = 0
    ·
     have b49 : ¬ (q 49 = 0) := projectRatio_f1 Q7 E8 E9 E10 Q18 E19 E20 E21 E22 E23 E24 E25 E26 E27 E28 E29 E30 Q35 E36 E37 E38 E39 E40 E41 E42 E43 E44 Q49 b7 b18 b35
     exact projectRatio_leaf projectRatio_r3 hσ hq h0 (projectRatio_An (hF b7) (projectRatio_An (hF b18) (projectRatio_An (hF b35) (projectRatio_An (hT b57) (projectRatio_An (hF b49) trivial))))) ⟨tab, mx⟩ hA
    ·
     by_cases b74 : q 74 = 0
     ·
      have b49 : ¬ (q 49 = 0) := projectRatio_f1 Q7 E8 E9 E10 Q18 E19 E20 E21 E22 E23 E24 E25 E26 E27 E28 E29 E30 Q35 E36 E37 E38 E39 E40 E41 E42 E43 E44 Q49 b7 b18 b35
      have b88 : q 88 = 0 := projectRatio_f2 Q7 E8 E9 E10 Q57 E58 E59 E60 E61 E62 E63 E64 E65 E66 E67 E68 E69 Q74 E75 E76 E77 E78 E79 E80 E81 E82 E83 Q88 b7 b57 b74
      exact projectRatio_leaf projectRatio_r4 hσ hq h0 (projectRatio_An (hF b7) (projectRatio_An (hF b18) (projectRatio_An (hF b35) (projectRatio_An (hF b57) (projectRatio_An (hT b74) (projectRatio_An (hF b49) (projectRatio_An (hT b88) trivial))))))) ⟨tab, mx⟩ hA
     ·
      by_cases b102 : q 102 = 0
      ·
       have b49 : ¬ (q 49 = 0) := projectRatio_f1 Q7 E8 E9 E10 Q18 E19 E20 E21 E22 E23 E24 E25 E26 E27 E28 E29 E30 Q35 E36 E37 E38 E39 E40 E41 E42 E43 E44 Q49 b7 b18 b35
       have b88 : ¬ (q 88 = 0) := projectRatio_f3 Q7 E8 E9 E10 Q57 E58 E59 E60 E61 E62 E63 E64 E65 E66 E67 E68 E69 Q74 E75 E76 E77 E78 E79 E80 E81 E82 E83 Q88 b7 b57 b74
       have b116 : q 116 = 0 := projectRatio_f4 Q18 E19 E20 E21 Q57 E58 E59 E60 E89 E90 E91 E92 E93 E94 E95 E96 E97 Q102 E103 E104 E105 E106 E107 E108 E109 E110 E111 Q116 b18 b57 b102
       exact projectRatio_leaf projectRatio_r5 hσ hq h0 (projectRatio_An (hF b7) (projectRatio_An (hF b18) (projectRatio_An (hF b35) (projectRatio_An (hF b57) (projectRatio_An (hF b74) (projectRatio_An (hT b102) (projectRatio_An (hF b49) (projectRatio_An (hF b88) (projectRatio_An (hT b116) trivial))))))))) ⟨tab, mx⟩ hA
      ·
       by_cases b124 : q 124 = 0
       ·
        have b49 : ¬ (q 49 = 0) := projectRatio_f1 Q7 E8 E9 E10 Q18 E19 E20 E21 E22 E23 E24 E25 E26 E27 E28 E29 E30 Q35 E36 E37 E38 E39 E40 E41 E42 E43 E44 Q49 b7 b18 b35
        have b88 : ¬ (q 88 = 0) := projectRatio_f3 Q7 E8 E9 E10 Q57 E58 E59 E60 E61 E62 E63 E64 E65 E66 E67 E68 E69 Q74 E75 E76 E77 E78 E79 E80 E81 E82 E83 Q88 b7 b57 b74
        have b116 : ¬ (q 116 = 0) := projectRatio_f5 Q18 E19 E20 E21 Q57 E58 E59 E60 E89 E90 E91 E92 E93 E94 E95 E96 E97 Q102 E103 E104 E105 E106 E107 E108 E109 E110 E111 Q116 b18 b57 b102
        exact projectRatio_leaf projectRatio_r6 hσ hq h0 (projectRatio_An (hF b7) (projectRatio_An (hF b18) (projectRatio_An (hF b35) (projectRatio_An (hF b57) (projectRatio_An (hF b74) (projectRatio_An (hF b102) (projectRatio_An (hT b124) (projectRatio_An (hF b49) (projectRatio_An (hF b88) (projectRatio_An (hF b116) trivial)))))))))) ⟨tab, mx⟩ hA
       ·
        by_cases b141 : q 141 = 0
        ·
         have b49 : ¬ (q 49 = 0) := projectRatio_f1 Q7 E8 E9 E10 Q18 E19 E20 E21 E22 E23 E24 E25 E26 E27 E28 E29 E30 Q35 E36 E37 E38 E39 E40 E41 E42 E43 E44 Q49 b7 b18 b35
         have b88 : ¬ (q 88 = 0) := projectRatio_f3 Q7 E8 E9 E10 Q57 E58 E59 E60 E61 E62 E63 E64 E65 E66 E67 E68 E69 Q74 E75 E76 E77 E78 E79 E80 E81 E82 E83 Q88 b7 b57 b74
         have b116 : ¬ (q 116 = 0) := projectRatio_f5 Q18 E19 E20 E21 Q57 E58 E59 E60 E89 E90 E91 E92 E93 E94 E95 E96 E97 Q102 E103 E104 E105 E106 E107 E108 E109 E110 E111 Q116 b18 b57 b102
         have b155 : q 155 = 0 := projectRatio_f6 Q7 E8 E9 E10 Q124 E125 E126 E127 E128 E129 E130 E131 E132 E133 E134 E135 E136 Q141 E142 E143 E144 E145 E146 E147 E148 E149 E150 Q155 b7 b124 b141
         exact projectRatio_leaf projectRatio_r7 hσ hq h0 (projectRatio_An (hF b7) (projectRatio_An (hF b18) (projectRatio_An (hF b35) (projectRatio_An (hF b57) (projectRatio_An (hF b74) (projectRatio_An (hF b102) (projectRatio_An (hF b124) (projectRatio_An (hT b141) (projectRatio_An (hF b49) (projectRatio_An (hF b88) (projectRatio_An (hF b116) (projectRatio_An (hT b155) trivial)))))))))))) ⟨tab, mx⟩ hA
        ·
         by_cases b169 : q 169 = 0
         ·
          have b49 : ¬ (q 49 = 0) := projectRatio_f1 Q7 E8 E9 E10 Q18 E19 E20 E21 E22 E23 E24 E25 E26 E27 E28 E29 E30 Q35 E36 E37 E38 E39 E40 E41 E42 E43 E44 Q49 b7 b18 b35
          have b88 : ¬ (q 88 = 0) := projectRatio_f3 Q7 E8 E9 E10 Q57 E58 E59 E60 E61 E62 E63 E64 E65 E66 E67 E68 E69 Q74 E75 E76 E77 E78 E79 E80 E81 E82 E83 Q88 b7 b57 b74
          have b116 : ¬ (q 116 = 0) := projectRatio_f5 Q18 E19 E20 E21 Q57 E58 E59 E60 E89 E90 E91 E92 E93 E94 E95 E96 E97 Q102 E103 E104 E105 E106 E107 E108 E109 E110 E111 Q116 b18 b57 b102
          have b155 : ¬ (q 155 = 0) := projectRatio_f7 Q7 E8 E9 E10 Q124 E125 E126 E127 E128 E129 E130 E131 E132 E133 E134 E135 E136 Q141 E142 E143 E144 E145 E146 E147 E148 E149 E150 Q155 b7 b124 b141
          have b183 : q 183 = 0 := projectRatio_f8 Q18 E19 E20 E21 Q124 E125 E126 E127 E156 E157 E158 E159 E160 E161 E162 E163 E164 Q169 E170 E171 E172 E173 E174 E175 E176 E177 E178 Q183 b18 b124 b169
          exact projectRatio_leaf projectRatio_r8 hσ hq h0 (projectRatio_An (hF b7) (projectRatio_An (hF b18) (projectRatio_An (hF b35) (projectRatio_An (hF b57) (projectRatio_An (hF b74) (projectRatio_An (hF b102) (projectRatio_An (hF b124) (projectRatio_An (hF b141) (projectRatio_An (hT b169) (projectRatio_An (hF b49) (projectRatio_An (hF b88) (projectRatio_An (hF b116) (projectRatio_An (hF b155) (projectRatio_An (hT b183) trivial)))))))))))))) ⟨tab, mx⟩ hA
         ·
          by_cases b197 : q 197 = 0
          ·
           have b49 : ¬ (q 49 = 0) := projectRatio_f1 Q7 E8 E9 E10 Q18 E19 E20 E21 E22 E23 E24 E25 E26 E27 E28 E29 E30 Q35 E36 E37 E38 E39 E40 E41 E42 E43 E44 Q49 b7 b18 b35
           have b88 : ¬ (q 88 = 0) := projectRatio_f3 Q7 E8 E9 E10 Q57 E58 E59 E60 E61 E62 E63 E64 E65 E66 E67 E68 E69 Q74 E75 E76 E77 E78 E79 E80 E81 E82 E83 Q88 b7 b57 b74
           have b116 : ¬ (q 116 = 0) := projectRatio_f5 Q18 E19 E20 E21 Q57 E58 E59 E60 E89 E90 E91 E92 E93 E94 E95 E96 E97 Q102 E103 E104 E105 E106 E107 E108 E109 E110 E111 Q116 b18 b57 b102
           have b155 : ¬ (q 155 = 0) := projectRatio_f7 Q7 E8 E9 E10 Q124 E125 E126 E127 E128 E129 E130 E131 E132 E133 E134 E135 E136 Q141 E142 E143 E144 E145 E146 E147 E148 E149 E150 Q155 b7 b124 b141
           have b183 : ¬ (q 183 = 0) := projectRatio_f9 Q18 E19 E20 E21 Q124 E125 E126 E127 E156 E157 E158 E159 E160 E161 E162 E163 E164 Q169 E170 E171 E172 E173 E174 E175 E176 E177 E178 Q183 b18 b124 b169
           have b211 : q 211 = 0 := projectRatio_f10 Q57 E58 E59 E60 Q124 E125 E126 E127 E184 E185 E186 E187 E188 E189 E190 E191 E192 Q197 E198 E199 E200 E201 E202 E203 E204 E205 E206 Q211 b57 b124 b197
           exact projectRatio_leaf projectRatio_r9 hσ hq h0 (projectRatio_An (hF b7) (projectRatio_An (hF b18) (projectRatio_An (hF b35) (projectRatio_An (hF b57) (projectRatio_An (hF b74) (projectRatio_An (hF b102) (projectRatio_An (hF b124) (projectRatio_An (hF b141) (projectRatio_An (hF b169) (projectRatio_An (hT b197) (projectRatio_An (hF b49) (projectRatio_An (hF b88) (projectRatio_An (hF b116) (projectRatio_An (hF b155) (projectRatio_An (hF b183) (projectRatio_An (hT b211) trivial)))))))))))))))) ⟨tab, mx⟩ hA
          ·
           by_cases b218 : q 218 = 0
           ·
            by_cases b224 : q 224 = 0
            ·
             have b49 : ¬ (q 49 = 0) := projectRatio_f1 Q7 E8 E9 E10 Q18 E19 E20 E21 E22 E23 E24 E25 E26 E27 E28 E29 E30 Q35 E36 E37 E38 E39 E40 E41 E42 E43 E44 Q49 b7 b18 b35
             have b88 : ¬ (q 88 = 0) := projectRatio_f3 Q7 E8 E9 E10 Q57 E58 E59 E60 E61 E62 E63 E64 E65 E66 E67 E68 E69 Q74 E75 E76 E77 E78 E79 E80 E81 E82 E83 Q88 b7 b57 b74
             have b116 : ¬ (q 116 = 0) := projectRatio_f5 Q18 E19 E20 E21 Q57 E58 E59 E60 E89 E90 E91 E92 E93 E94 E95 E96 E97 Q102 E103 E104 E105 E106 E107 E108 E109 E110 E111 Q116 b18 b57 b102
             have b155 : ¬ (q 155 = 0) := projectRatio_f7 Q7 E8 E9 E10 Q124 E125 E126 E127 E128 E129 E130 E131 E132 E133 E134 E135 E136 Q141 E142 E143 E144 E145 E146 E147 E148 E149 E150 Q155 b7 b124 b141
             have b183 : ¬ (q 183 = 0) := projectRatio_f9 Q18 E19 E20 E21 Q124 E125 E126 E127 E156 E157 E158 E159 E160 E161 E162 E163 E164 Q169 E170 E171 E172 E173 E174 E175 E176 E177 E178 Q183 b18 b124 b169
             have b211 : ¬ (q 211 = 0) := projectRatio_f11 Q57 E58 E59 E60 Q124 E125 E126 E127 E184 E185 E186 E187 E188 E189 E190 E191 E192 Q197 E198 E199 E200 E201 E202 E203 E204 E205 E206 Q211 b57 b124 b197
             have b278 : q 278 = 0 := projectRatio_f12 Q7 E8 E9 E10 Q18 E19 E20 E21 E22 E23 E24 E25 E26 E27 E28 E29 E30 Q57 E58 E59 E60 E103 E104 E106 E107 E109 E110 E212 E213 E214 E215 E216 E217 E218 E270 E271 E272 E273 E274 E275 E276 E277 E278 b7 b18 b57 b218
             by_cases b279 : q 279 = 0
             ·
              by_cases b280 : q 280 = 0
              ·
               have b41 : ¬ (q 41 = 0) := projectRatio_f13 Q7 E8 E9 E10 Q18 E19 E20 E21 E22 E23 E24 E25 E26 E27 E28 E29 E30 Q35 E36 E37 E39 E40 E41 E42 E43 E279 E280 b7 b18 b35 b279 b280
               have b294 : q 294 = 0 := projectRatio_f14 Q7 E8 E9 E10 Q18 E19 E20 E21 E22 E23 E24 E25 E26 E27 E28 E29 E30 Q124 E125 E126 E127 E170 E171 E173 E174 E176 E177 E213 E219 E220 E221 E222 E223 E224 E286 E287 E288 E289 E290 E291 E292 E293 E294 b7 b18 b124 b224
               have a_3_269_302 : q 269 = q 302 := projectRatio_f15 Q7 E8 E9 E10 Q18 E19 E20 E21 E22 E23 E24 E25 E26 E27 E28 E29 E30 Q35 E36 E37 E39 E40 E41 E42 E43 Q57 E58 E59 E60 E61 E62 E63 E64 E65 E66 E67 E68 E69 Q74 E78 E79 E80 E89 E90 E91 E92 E93 E94 E95 E96 E97 Q102 Q124 E125 E126 E127 E128 E129 E130 E131 E132 E133 E134 E135 E136 Q141 E145 E146 E147 E156 E157 E158 E159 E160 E161 E162 E163 E164 Q169 E184 E185 E186 E187 E188 E189 E190 E191 E192 Q197 E212 E213 E214 E215 E216 E217 E218 E219 E220 E221 E222 E223 E224 E225 E226 E227 E228 E229 E230 E231 E232 E233 E234 E235 E236 E237 E238 E239 E240 E241 E242 E243 E244 E245 E246 E247 E248 E249 E250 E251 E252 E253 E254 E255 E256 E257 E258 E259 E260 E261 E262 E263 E264 E265 E266 E267 E268 E269 E279 E280 E281 E282 E283 E284 E285 E295 E296 E297 E298 E299 E300 E301 E302 b7 b18 b35 b57 b74 b102 b124 b141 b169 b197 b218 b224 b279 b280
               exact projectRatio_leaf projectRatio_r10 hσ hq h0 (projectRatio_An (hF b7) (projectRatio_An (hF b18) (projectRatio_An (hF b35) (projectRatio_An (hF b57) (projectRatio_An (hF b74) (projectRatio_An (hF b102) (projectRatio_An (hF b124) (projectRatio_An (hF b141) (projectRatio_An (hF b169) (projectRatio_An (hF b197) (projectRatio_An (hT b218) (projectRatio_An (hT b224) (projectRatio_An (hF b49) (projectRatio_An (hF b88) (projectRatio_An (hF b116) (projectRatio_An (hF b155) (projectRatio_An (hF b183) (projectRatio_An (hF b211) (projectRatio_An (hT b278) (projectRatio_An (hT b279) (projectRatio_An (hT b280) (projectRatio_An (hF b41) (projectRatio_An (hT b294) (projectRatio_An (hT a_3_269_302) trivial)))))))))))))))))))))))) ⟨tab, mx⟩ hA
              ·
               have b294 : q 294 = 0 := projectRatio_f14 Q7 E8 E9 E10 Q18 E19 E20 E21 E22 E23 E24 E25 E26 E27 E28 E29 E30 Q124 E125 E126 E127 E170 E171 E173 E174 E176 E177 E213 E219 E220 E221 E222 E223 E224 E286 E287 E288 E289 E290 E291 E292 E293 E294 b7 b18 b124 b224
               have a_3_269_317 : q 269 = q 317 := projectRatio_f16 Q7 E8 E9 E10 Q18 E19 E20 E21 E22 E23 E24 E25 E26 E27 E28 E29 E30 Q35 E36 E37 E42 E43 Q57 E58 E59 E60 E61 E62 E63 E64 E65 E66 E67 E68 E69 Q74 E81 E82 E89 E90 E91 E92 E93 E94 E95 E96 E97 Q102 Q124 E125 E126 E127 E128 E129 E130 E131 E132 E133 E134 E135 E136 Q141 E148 E149 E156 E157 E158 E159 E160 E161 E162 E163 E164 Q169 E184 E185 E186 E187 E188 E189 E190 E191 E192 Q197 E212 E213 E214 E215 E216 E217 E218 E219 E220 E221 E222 E223 E224 E225 E226 E227 E228 E229 E230 E231 E232 E233 E234 E235 E236 E237 E238 E239 E240 E241 E242 E243 E244 E245 E246 E247 E248 E249 E250 E251 E252 E253 E254 E255 E256 E257 E258 E259 E260 E261 E262 E263 E264 E265 E266 E267 E268 E269 E279 E280 E303 E304 E305 E306 E307 E308 E309 E310 E311 E312 E313 E314 E315 E316 E317 b7 b18 b35 b57 b74 b102 b124 b141 b169 b197 b218 b224 b279 b280
               exact projectRatio_leaf projectRatio_r11 hσ hq h0 (projectRatio_An (hF b7) (projectRatio_An (hF b18) (projectRatio_An (hF b35) (projectRatio_An (hF b57) (projectRatio_An (hF b74) (projectRatio_An (hF b102) (projectRatio_An (hF b124) (projectRatio_An (hF b141) (projectRatio_An (hF b169) (projectRatio_An (hF b197) (projectRatio_An (hT b218) (projectRatio_An (hT b224) (projectRatio_An (hF b49) (projectRatio_An (hF b88) (projectRatio_An (hF b116) (projectRatio_An (hF b155) (projectRatio_An (hF b183) (projectRatio_An (hF b211) (projectRatio_An (hT b278) (projectRatio_An (hT b279) (projectRatio_An (hF b280) (projectRatio_An (hT b294) (projectRatio_An (hT a_3_269_317) trivial))))))))))))))))))))))) ⟨tab, mx⟩ hA
             ·
              have b294 : q 294 = 0 := projectRatio_f14 Q7 E8 E9 E10 Q18 E19 E20 E21 E22 E23 E24 E25 E26 E27 E28 E29 E30 Q124 E125 E126 E127 E170 E171 E173 E174 E176 E177 E213 E219 E220 E221 E222 E223 E224 E286 E287 E288 E289 E290 E291 E292 E293 E294 b7 b18 b124 b224
              have a_3_269_332 : q 269 = q 332 := projectRatio_f17 Q7 E8 E9 E10 Q18 E19 E20 E21 E22 E23 E24 E25 E26 E27 E28 E29 E30 Q35 E36 E37 Q57 E58 E59 E60 E61 E62 E63 E64 E65 E66 E67 E68 E69 Q74 E75 E76 E89 E90 E91 E92 E93 E94 E95 E96 E97 Q102 Q124 E125 E126 E127 E128 E129 E130 E131 E132 E133 E134 E135 E136 Q141 E142 E143 E156 E157 E158 E159 E160 E161 E162 E163 E164 Q169 E184 E185 E186 E187 E188 E189 E190 E191 E192 Q197 E212 E213 E214 E215 E216 E217 E218 E219 E220 E221 E222 E223 E224 E225 E226 E227 E228 E229 E230 E231 E232 E233 E234 E235 E236 E237 E238 E239 E240 E241 E242 E243 E244 E245 E246 E247 E248 E249 E250 E251 E252 E253 E254 E255 E256 E257 E258 E259 E260 E261 E262 E263 E264 E265 E266 E267 E268 E269 E279 E318 E319 E320 E321 E322 E323 E324 E325 E326 E327 E328 E329 E330 E331 E332 b7 b18 b35 b57 b74 b102 b124 b141 b169 b197 b218 b224 b279
              exact projectRatio_leaf projectRatio_r12 hσ hq h0 (projectRatio_An (hF b7) (projectRatio_An (hF b18) (projectRatio_An (hF b35) (projectRatio_An (hF b57) (projectRatio_An (hF b74) (projectRatio_An (hF b102) (projectRatio_An (hF b124) (projectRatio_An (hF b141) (projectRatio_An (hF b169) (projectRatio_An (hF b197) (projectRatio_An (hT b218) (projectRatio_An (hT b224) (projectRatio_An (hF b49) (projectRatio_An (hF b88) (projectRatio_An (hF b116) (projectRatio_An (hF b155) (projectRatio_An (hF b183) (projectRatio_An (hF b211) (projectRatio_An (hT b278) (projectRatio_An (hF b279) (projectRatio_An (hT b294) (projectRatio_An (hT a_3_269_332) trivial)))))))))))))))))))))) ⟨tab, mx⟩ hA
            ·
             have b49 : ¬ (q 49 = 0) := projectRatio_f1 Q7 E8 E9 E10 Q18 E19 E20 E21 E22 E23 E24 E25 E26 E27 E28 E29 E30 Q35 E36 E37 E38 E39 E40 E41 E42 E43 E44 Q49 b7 b18 b35
             have b88 : ¬ (q 88 = 0) := projectRatio_f3 Q7 E8 E9 E10 Q57 E58 E59 E60 E61 E62 E63 E64 E65 E66 E67 E68 E69 Q74 E75 E76 E77 E78 E79 E80 E81 E82 E83 Q88 b7 b57 b74
             have b116 : ¬ (q 116 = 0) := projectRatio_f5 Q18 E19 E20 E21 Q57 E58 E59 E60 E89 E90 E91 E92 E93 E94 E95 E96 E97 Q102 E103 E104 E105 E106 E107 E108 E109 E110 E111 Q116 b18 b57 b102
             have b155 : ¬ (q 155 = 0) := projectRatio_f7 Q7 E8 E9 E10 Q124 E125 E126 E127 E128 E129 E130 E131 E132 E133 E134 E135 E136 Q141 E142 E143 E144 E145 E146 E147 E148 E149 E150 Q155 b7 b124 b141
             have b183 : ¬ (q 183 = 0) := projectRatio_f9 Q18 E19 E20 E21 Q124 E125 E126 E127 E156 E157 E158 E159 E160 E161 E162 E163 E164 Q169 E170 E171 E172 E173 E174 E175 E176 E177 E178 Q183 b18 b124 b169
             have b211 : ¬ (q 211 = 0) := projectRatio_f11 Q57 E58 E59 E60 Q124 E125 E126 E127 E184 E185 E186 E187 E188 E189 E190 E191 E192 Q197 E198 E199 E200 E201 E202 E203 E204 E205 E206 Q211 b57 b124 b197
             have b278 : q 278 = 0 := projectRatio_f12 Q7 E8 E9 E10 Q18 E19 E20 E21 E22 E23 E24 E25 E26 E27 E28 E29 E30 Q57 E58 E59 E60 E103 E104 E106 E107 E109 E110 E212 E213 E214 E215 E216 E217 E218 E270 E271 E272 E273 E274 E275 E276 E277 E278 b7 b18 b57 b218
             by_cases b279 : q 279 = 0
             ·
              by_cases b280 : q 280 = 0
              ·
               have b41 : ¬ (q 41 = 0) := projectRatio_f13 Q7 E8 E9 E10 Q18 E19 E20 E21 E22 E23 E24 E25 E26 E27 E28 E29 E30 Q35 E36 E37 E39 E40 E41 E42 E43 E279 E280 b7 b18 b35 b279 b280
               have b294 : ¬ (q 294 = 0) := projectRatio_f18 Q7 E8 E9 E10 Q18 E19 E20 E21 E22 E23 E24 E25 E26 E27 E28 E29 E30 Q124 E125 E126 E127 E170 E171 E173 E174 E176 E177 E213 E219 E220 E221 E222 E223 E224 E286 E287 E288 E289 E290 E291 E292 E293 E294 b7 b18 b124 b224
               exact projectRatio_leaf projectRatio_r13 hσ hq h0 (projectRatio_An (hF b7) (projectRatio_An (hF b18) (projectRatio_An (hF b35) (projectRatio_An (hF b57) (projectRatio_An (hF b74) (projectRatio_An (hF b102) (projectRatio_An (hF b124) (projectRatio_An (hF b141) (projectRatio_An (hF b169) (projectRatio_An (hF b197) (projectRatio_An (hT b218) (projectRatio_An (hF b224) (projectRatio_An (hF b49) (projectRatio_An (hF b88) (projectRatio_An (hF b116) (projectRatio_An (hF b155) (projectRatio_An (hF b183) (projectRatio_An (hF b211) (projectRatio_An (hT b278) (projectRatio_An (hT b279) (projectRatio_An (hT b280) (projectRatio_An (hF b41) (projectRatio_An (hF b294) trivial))))))))))))))))))))))) ⟨tab, mx⟩ hA
              ·
               have b294 : ¬ (q 294 = 0) := projectRatio_f18 Q7 E8 E9 E10 Q18 E19 E20 E21 E22 E23 E24 E25 E26 E27 E28 E29 E30 Q124 E125 E126 E127 E170 E171 E173 E174 E176 E177 E213 E219 E220 E221 E222 E223 E224 E286 E287 E288 E289 E290 E291 E292 E293 E294 b7 b18 b124 b224
               exact projectRatio_leaf projectRatio_r14 hσ hq h0 (projectRatio_An (hF b7) (projectRatio_An (hF b18) (projectRatio_An (hF b35) (projectRatio_An (hF b57) (projectRatio_An (hF b74) (projectRatio_An (hF b102) (projectRatio_An (hF b124) (projectRatio_An (hF b141) (projectRatio_An (hF b169) (projectRatio_An (hF b197) (projectRatio_An (hT b218) (projectRatio_An (hF b224) (projectRatio_An (hF b49) (projectRatio_An (hF b88) (projectRatio_An (hF b116) (projectRatio_An (hF b155) (projectRatio_An (hF b183) (projectRatio_An (hF b211) (projectRatio_An (hT b278) (projectRatio_An (hT b279) (projectRatio_An (hF b280) (projectRatio_An (hF b294) trivial)))))))))))))))))))))) ⟨tab, mx⟩ hA
             ·
              have b294 : ¬ (q 294 = 0) := projectRatio_f18 Q7 E8 E9 E10 Q18 E19 E20 E21 E22 E23 E24 E25 E26 E27 E28 E29 E30 Q124 E125 E126 E127 E170 E171 E173 E174 E176 E177 E213 E219 E220 E221 E222 E223 E224 E286 E287 E288 E289 E290 E291 E292 E293 E294 b7 b18 b124 b224
              exact projectRatio_leaf projectRatio_r15 hσ hq h0 (projectRatio_An (hF b7) (projectRatio_An (hF b18) (projectRatio_An (hF b35) (projectRatio_An (hF b57) (projectRatio_An (hF b74) (projectRatio_An (hF b102) (projectRatio_An (hF b124) (projectRatio_An (hF b141) (projectRatio_An (hF b169) (projectRatio_An (hF b197) (projectRatio_An (hT b218) (projectRatio_An (hF b224) (projectRatio_An (hF b49) (projectRatio_An (hF b88) (projectRatio_An (hF b116) (projectRatio_An (hF b155) (projectRatio_An (hF b183) (projectRatio_An (hF b211) (projectRatio_An (hT b278) (projectRatio_An (hF b279) (projectRatio_An (hF b294) trivial))))))))))))))))))))) ⟨tab, mx⟩ hA
           ·
            have b49 : ¬ (q 49 = 0) := projectRatio_f1 Q7 E8 E9 E10 Q18 E19 E20 E21 E22 E23 E24 E25 E26 E27 E28 E29 E30 Q35 E36 E37 E38 E39 E40 E41 E42 E43 E44 Q49 b7 b18 b35
            have b88 : ¬ (q 88 = 0) := projectRatio_f3 Q7 E8 E9 E10 Q57 E58 E59 E60 E61 E62 E63 E64 E65 E66 E67 E68 E69 Q74 E75 E76 E77 E78 E79 E80 E81 E82 E83 Q88 b7 b57 b74
            have b116 : ¬ (q 116 = 0) := projectRatio_f5 Q18 E19 E20 E21 Q57 E58 E59 E60 E89 E90 E91 E92 E93 E94 E95 E96 E97 Q102 E103 E104 E105 E106 E107 E108 E109 E110 E111 Q116 b18 b57 b102
            have b155 : ¬ (q 155 = 0) := projectRatio_f7 Q7 E8 E9 E10 Q124 E125 E126 E127 E128 E129 E130 E131 E132 E133 E134 E135 E136 Q141 E142 E143 E144 E145 E146 E147 E148 E149 E150 Q155 b7 b124 b141
            have b183 : ¬ (q 183 = 0) := projectRatio_f9 Q18 E19 E20 E21 Q124 E125 E126 E127 E156 E157 E158 E159 E160 E161 E162 E163 E164 Q169 E170 E171 E172 E173 E174 E175 E176 E177 E178 Q183 b18 b124 b169
            have b211 : ¬ (q 211 = 0) := projectRatio_f11 Q57 E58 E59 E60 Q124 E125 E126 E127 E184 E185 E186 E187 E188 E189 E190 E191 E192 Q197 E198 E199 E200 E201 E202 E203 E204 E205 E206 Q211 b57 b124 b197
            have b278 : ¬ (q 278 = 0) := projectRatio_f19 Q7 E8 E9 E10 Q18 E19 E20 E21 E22 E23 E24 E25 E26 E27 E28 E29 E30 Q57 E58 E59 E60 E103 E104 E106 E107 E109 E110 E212 E213 E214 E215 E216 E217 E218 E270 E271 E272 E273 E274 E275 E276 E277 E278 b7 b18 b57 b218
            by_cases b294 : q 294 = 0
            ·
             by_cases b279 : q 279 = 0
             ·
              by_cases b280 : q 280 = 0
              ·
               have b41 : ¬ (q 41 = 0) := projectRatio_f13 Q7 E8 E9 E10 Q18 E19 E20 E21 E22 E23 E24 E25 E26 E27 E28 E29 E30 Q35 E36 E37 E39 E40 E41 E42 E43 E279 E280 b7 b18 b35 b279 b280
               exact projectRatio_leaf projectRatio_r16 hσ hq h0 (projectRatio_An (hF b7) (projectRatio_An (hF b18) (projectRatio_An (hF b35) (projectRatio_An (hF b57) (projectRatio_An (hF b74) (projectRatio_An (hF b102) (projectRatio_An (hF b124) (projectRatio_An (hF b141) (projectRatio_An (hF b169) (projectRatio_An (hF b197) (projectRatio_An (hF b218) (projectRatio_An (hF b49) (projectRatio_An (hF b88) (projectRatio_An (hF b116) (projectRatio_An (hF b155) (projectRatio_An (hF b183) (projectRatio_An (hF b211) (projectRatio_An (hF b278) (projectRatio_An (hT b294) (projectRatio_An (hT b279) (projectRatio_An (hT b280) (projectRatio_An (hF b41) trivial)))))))))))))))))))))) ⟨tab, mx⟩ hA
              ·
               exact projectRatio_leaf projectRatio_r17 hσ hq h0 (projectRatio_An (hF b7) (projectRatio_An (hF b18) (projectRatio_An (hF b35) (projectRatio_An (hF b57) (projectRatio_An (hF b74) (projectRatio_An (hF b102) (projectRatio_An (hF b124) (projectRatio_An (hF b141) (projectRatio_An (hF b169) (projectRatio_An (hF b197) (projectRatio_An (hF b218) (projectRatio_An (hF b49) (projectRatio_An (hF b88) (projectRatio_An (hF b116) (projectRatio_An (hF b155) (projectRatio_An (hF b183) (projectRatio_An (hF b211) (projectRatio_An (hF b278) (projectRatio_An (hT b294) (projectRatio_An (hT b279) (projectRatio_An (hF b280) trivial))))))))))))))))))))) ⟨tab, mx⟩ hA
             ·
              exact projectRatio_leaf projectRatio_r18 hσ hq h0 (projectRatio_An (hF b7) (projectRatio_An (hF b18) (projectRatio_An (hF b35) (projectRatio_An (hF b57) (projectRatio_An (hF b74) (projectRatio_An (hF b102) (projectRatio_An (hF b124) (projectRatio_An (hF b141) (projectRatio_An (hF b169) (projectRatio_An (hF b197) (projectRatio_An (hF b218) (projectRatio_An (hF b49) (projectRatio_An (hF b88) (projectRatio_An (hF b116) (projectRatio_An (hF b155) (projectRatio_An (hF b183) (projectRatio_An (hF b211) (projectRatio_An (hF b278) (projectRatio_An (hT b294) (projectRatio_An (hF b279) trivial)))))))))))))))))))) ⟨tab, mx⟩ hA
            ·
             exact projectRatio_leaf projectRatio_r19 hσ hq h0 (projectRatio_An (hF b7) (projectRatio_An (hF b18) (projectRatio_An (hF b35) (projectRatio_An (hF b57) (projectRatio_An (hF b74) (projectRatio_An (hF b102) (projectRatio_An (hF b124) (projectRatio_An (hF b141) (projectRatio_An (hF b169) (projectRatio_An (hF b197) (projectRatio_An (hF b218) (projectRatio_An (hF b49) (projectRatio_An (hF b88) (projectRatio_An (hF b116) (projectRatio_An (hF b155) (projectRatio_An (hF b183) (projectRatio_An (hF b211) (projectRatio_An (hF b278) (projectRatio_An (hF b294) trivial))))))))))))))))))) ⟨tab, mx⟩ hA
end Go.Proofs.YtioacnhbiinjbaaGreatDoor
