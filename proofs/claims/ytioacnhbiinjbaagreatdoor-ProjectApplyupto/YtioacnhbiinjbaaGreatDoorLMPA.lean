/- Part 13 of the walks and of the mathematics under them: VP VPC CFprojected MPA. -/
import Derived.Test.YtioacnhbiinjbaaGreatDoorA2
import Derived.Test.YtioacnhbiinjbaaGreatDoorA12
set_option maxHeartbeats 16000000
set_option maxRecDepth 100000
/- VP -/
namespace Cx
open Go Go.RowKit
abbrev Hs := List (Nat × Nat × Nat × Nat)
def Sx.plus (S : Sx) (X : Hs) : Sx := { S with H := X ++ S.H }
abbrev Ask := Nat × Nat × Nat × Nat
def askZ (a : Nat) : Ask := (0, a, 0, a)
def askOk (S : Sx) : Ask → Bool
 | (k, a, b, d) => (Nat.beq k 0 && (Nat.beq b 0 && Nat.beq d a)) || (Nat.beq k 3 && (match S.N[d]? with
  | some (op, ar) => Nat.beq op 3 && beqL ar [a, b]
  | none => false))
def sqF (S : Sx) : Nat → List Nat → Option Nat
 | s, [] => some s
 | s, a :: l => (S.nd 4 [a, a]).bind fun b => (S.nd 2 [s, b]).bind fun t => sqF S t l
def sqN (S : Sx) : List Nat → Option Nat
 | [] => none
 | a :: l => (S.nd 4 [a, a]).bind fun s => sqF S s l
def acrossB (S : Sx) (a b : Nat) : List Nat → List Nat → Option (List Ask)
 | c :: l, d :: m => (S.nd 4 [a, d]).bind fun x => (S.nd 4 [c, b]).bind fun y => (S.nd 3 [x, y]).bind fun z => (acrossB S a b l m).map fun r => (3, x, y, z) :: r
 | _, _ => some []
def alikeB (S : Sx) : List Nat → List Nat → List Nat → List Nat → Option (List Ask)
 | pl, pm, a :: l, b :: m => (acrossB S a b pl pm).bind fun r => (alikeB S (pl ++ [a]) (pm ++ [b]) l m).map fun t => r ++ t
 | _, _, _, _ => some []
def asks (S : Sx) (h : List HB) (code : Nat) (args : List AV) : Option (List Ask) :=
 match code with
 | 60 => arg1 (fun x => (asA x).bind fun cs => (qRow S cs).map fun l => l.map askZ) args
 | 61 => arg1 (fun x => (rowB h 1 x).bind fun p => (mapO (acX 0) p.2).map fun l => l.map askZ) args
 | 62 => arg2 (fun x y => (rowB h 1 x).bind fun p => (mapO (acX 0) p.2).bind fun l => (rowB h 1 y).bind fun p' => (mapO (acX 0) p'.2).bind fun m => alikeB S [] [] l m) args
 | 63 => arg1 (fun x => (asA x).bind fun cs => (mapO acTold cs).bind fun l => (plainOf S l).map fun xs => xs.map askZ) args
 | _ => none
def splits : List Ask → Hs → List Hs
 | [], _ => []
 | (k, a, b, _) :: l, X => ((k, a, b, 0) :: X) :: splits l ((k, a, b, 1) :: X)
def allZ : List Ask → Hs → Hs
 | [], X => X
 | (k, a, b, _) :: l, X => allZ l ((k, a, b, 1) :: X)
def bodyC (S : Sx) (call : CallF) : CallF := fun f args h nx => S.P.funcs[f]?.bind fun fn => fn.body.bind fun c => ifO (Nat.ble args.length fn.ntmps) ((runB S call fn.ntmps c { tm := numb1 0 args, h := h, nx := nx }).bind fun r =>
   ifO (Nat.beq r.1 1) ((mapO (resB S.P r.2) fn.results.toList).map fun xs => (tupB xs, r.2.h, r.2.nx)))
abbrev CRes := Option (AV × List HB × Nat)
def agree (h : List HB) (b : Bool) (hi : Nat) : CRes → Bool
 | some (v, h', nx') => (match asB v with
  | some c => b == c
  | none => false) && (Nat.ble nx' hi && h.all fun x => h'.any fun y => Nat.beq y.1 x.1 && acsW x.2 y.2)
 | none => false
def topN : Nat → List CRes → Nat
 | m, [] => m
 | m, some p :: rs => topN (bif Nat.ble m p.2.2 then p.2.2 else m) rs
 | m, none :: rs => topN m rs
def joinC (h : List HB) (nx : Nat) (rs : List CRes) : CRes :=
 match rs with
 | some p :: _ => (asB p.1).bind fun b => ifO (rs.all (agree h b (topN nx rs))) (some (kB b, h, topN nx rs))
 | _ => none
def callC (S : Sx) (cs : List (FuncId × Nat)) : Nat → Hs → CallF
 | 0, _, _, _, _, _ => none
 | n + 1, X, f, args, h, nx => match prGet f cs with
  | none => bodyC (S.plus X) (callC S cs n X) f args h nx
  | some c => (asks (S.plus X) h c args).bind fun l => ifO (l.all (askOk S)) ((sqN S (l.map (·.2.2.2))).bind fun s => ((S.plus X).kn 0 s 0).bind fun r =>
    bif Nat.beq 1 r then bodyC (S.plus (allZ l X)) (callC S cs n (allZ l X)) f args h nx
    else joinC h nx ((splits l X).map fun X' => bodyC (S.plus X') (callC S cs n X') f args h nx))
section
variable {S : Sx} {E : Ev S.nb} {w0 : World}
theorem bodyC_ok {call : CallF} (hm : S.P.follows .mixedOrders = true) (N : Knows S E) (hP : PrimOk S E w0) (hC : CallOk S E w0 call) : CallOk S E w0 (bodyC S call) := fun f args h nx p hp γ w vs hi hA hb hlt hf => by
 unfold bodyC at hp
 simp only [Option.bind_eq_some_iff, ifO_some, Option.map_eq_some_iff, Nat.ble_eq, Nat.beq_eq] at hp
 obtain ⟨fn, h1, c, h2, h3, ⟨e, s'⟩, h4, h5, xs, h6, rfl⟩ := hp
 dsimp only at h5 h6
 subst h5
 obtain ⟨_, _, r⟩ := runB_ok hm N hP hC c _ _ _ h4
 refine calls_of_wp h1 h2 (r γ _ w _ ⟨hi, fun t v q => ?_, hb, hlt, ?_, rfl⟩ hf fun a' w' γ' hef hs => ?_)
 ·obtain ⟨_, q2⟩ := numb1_get q
  rw [Nat.sub_zero] at q2
  obtain ⟨u, hu, hv⟩ := hA.get q2
  have hlt : t < vs.length := (List.getElem?_eq_some_iff.1 hu).1
  have : (vs.toArray ++ Array.replicate (fn.ntmps - vs.toArray.size) undef).getD t undef = u := by
   rw [Array.getD_eq_getD_getElem?, Array.getElem?_append_left (by simpa using hlt)]
   simp [hu]
  show avOn _ v ((vs.toArray ++ Array.replicate (fn.ntmps - vs.toArray.size) undef).getD t undef)
  rw [this]
  exact hv
 ·have := hA.len
  simp
  omega
 ·obtain ⟨v, hv, hx⟩ := results_run hs h6
  exact ⟨hs.df, v, hv, v, γ', rfl, hef, hx, hs.bx⟩
theorem asB_kB {v : AV} {b : Bool} (h : asB v = some b) : v = kB b := by
 unfold asB at h
 rw [Option.bind_eq_some_iff] at h
 obtain ⟨c, h1, h2⟩ := h
 unfold asC at h1
 split at h1
 ·cases h1
  unfold acB at h2
  split at h2
  ·cases h2
   rfl
  ·cases h2
 ·cases h1
theorem agree_some {h : List HB} {b : Bool} {hi : Nat} {r : CRes} (hr : agree h b hi r = true) : ∃ h' nx', r = some (kB b, h', nx') ∧ nx' ≤ hi ∧ ∀ x ∈ h, x ∈ h' := by
 unfold agree at hr
 split at hr
 ·rename_i v h' nx'
  rw [Bool.and_eq_true, Bool.and_eq_true, Nat.ble_eq, List.all_eq_true] at hr
  obtain ⟨h1, h2, h3⟩ := hr
  refine ⟨h', nx', ?_, h2, fun x hx => ?_⟩
  ·split at h1
   ·rename_i c hc
    rw [asB_kB hc, show c = b from (by simpa using h1 : b = c).symm]
   ·cases h1
  ·have := h3 x hx
   rw [List.any_eq_true] at this
   obtain ⟨y, hy, e⟩ := this
   rw [Bool.and_eq_true, Nat.beq_eq] at e
   have : x = y := Prod.ext e.1.symm (acsW_eq e.2)
   rw [this]
   exact hy
 ·cases hr
variable {T : Hs → Prop} {z : Nat → Prop}
def AskTrue (S : Sx) (T : Hs → Prop) (z : Nat → Prop) : Prop := ∀ X, T X → ∀ a, askOk S a = true → (z a.2.2.2 → T ((a.1, a.2.1, a.2.2.1, 1) :: X)) ∧ (¬ z a.2.2.2 → T ((a.1, a.2.1, a.2.2.1, 0) :: X))
theorem allZ_true (hk : AskTrue S T z) : ∀ {l : List Ask} {X : Hs}, T X → (∀ a ∈ l, askOk S a = true) → (∀ a ∈ l, z a.2.2.2) → T (allZ l X)
 | [], _, h, _, _ => h
 | (k, a, b, d) :: l, X, h, ho, hz => allZ_true (l := l) hk ((hk X h (k, a, b, d) (ho _ List.mem_cons_self)).1 (hz _ List.mem_cons_self)) (fun a ha => ho a (List.mem_cons_of_mem _ ha)) (fun a ha => hz a (List.mem_cons_of_mem _ ha))
theorem splits_true (hk : AskTrue S T z) : ∀ {l : List Ask} {X : Hs}, T X → (∀ a ∈ l, askOk S a = true) → (∃ a ∈ l, ¬ z a.2.2.2) → ∃ X' ∈ splits l X, T X'
 | [], _, _, _, ⟨_, h, _⟩ => by cases h
 | (k, a, b, d) :: l, X, h, ho, hz => by
  by_cases e : z d
  ·obtain ⟨X', h1, h2⟩ := splits_true (l := l) hk ((hk X h (k, a, b, d) (ho _ List.mem_cons_self)).1 e) (fun a ha => ho a (List.mem_cons_of_mem _ ha)) (by
    obtain ⟨c, hc, hn⟩ := hz
    rcases List.mem_cons.1 hc with rfl | hc
    ·exact (hn e).elim
    ·exact ⟨c, hc, hn⟩)
   exact ⟨X', List.mem_cons_of_mem _ h1, h2⟩
  ·exact ⟨_, List.mem_cons_self, (hk X h (k, a, b, d) (ho _ List.mem_cons_self)).2 e⟩
theorem callC_ok {cs : List (FuncId × Nat)} (hm : S.P.follows .mixedOrders = true) (hN : ∀ X, T X → Knows (S.plus X) E) (hP : ∀ X, T X → PrimOk (S.plus X) E w0) (hk : AskTrue S T z)
  (hs : ∀ X, T X → ∀ l s r, sqN S l = some s → (S.plus X).kn 0 s 0 = some r → (Nat.beq 1 r = true → ∀ d ∈ l, z d) ∧ (Nat.beq 1 r = false → ∃ d ∈ l, ¬ z d)) : ∀ n X, T X → CallOk S E w0 (callC S cs n X)
 | 0, _, _ => fun _ _ _ _ _ h => by cases h
 | n + 1, X, hX => fun f args h nx p hp => by
  have body : ∀ Y, T Y → CallOk S E w0 (bodyC (S.plus Y) (callC S cs n Y)) := fun Y hY => bodyC_ok (S := S.plus Y) hm (hN Y hY) (hP Y hY) (callC_ok hm hN hP hk hs n Y hY)
  unfold callC at hp
  split at hp
  ·exact body X hX f args h nx p hp
  ·simp only [Option.bind_eq_some_iff, ifO_some, List.all_eq_true] at hp
   obtain ⟨l, _, hl, s, h1, r, h2, h3⟩ := hp
   obtain ⟨a1, a0⟩ := hs X hX _ s r h1 h2
   cases e : Nat.beq 1 r with
   | true =>
    rw [e] at h3
    exact body _ (allZ_true hk hX hl fun a ha => a1 e _ (List.mem_map_of_mem ha)) f args h nx p h3
   | false =>
    rw [e] at h3
    obtain ⟨d, hd, hz⟩ := a0 e
    obtain ⟨a, ha, rfl⟩ := List.mem_map.1 hd
    obtain ⟨X', m1, m2⟩ := splits_true hk hX hl ⟨a, ha, hz⟩
    replace h3 : joinC h nx ((splits l X).map fun X' => bodyC (S.plus X') (callC S cs n X') f args h nx) = some p := h3
    unfold joinC at h3
    split at h3
    ·rename_i p0 rs hrs
     rw [Option.bind_eq_some_iff] at h3
     obtain ⟨b, hb, h4⟩ := h3
     rw [ifO_some, List.all_eq_true] at h4
     obtain ⟨h5, h6⟩ := h4
     cases h6
     obtain ⟨h', nx', q1, q2, q3⟩ := agree_some (h5 _ (List.mem_map_of_mem m1))
     intro γ w vs hi hA hb hlt hf
     refine (body X' m2 f args h nx _ q1 γ w vs hi hA hb hlt fun b g1 g2 => hf b g1 (Nat.lt_of_lt_of_le g2 q2)).mono ?_
     rintro _ w' ⟨r', γ', rfl, hef, hv, hx⟩
     exact ⟨r', γ', rfl, hef.wide (Nat.le_refl _) q2, hv, fun x hh => hx x (q3 x hh)⟩
    ·cases h3
end
end Cx
/- VPC -/
namespace Go.Proofs.YtioacnhbiinjbaaGreatDoor
open Cx Go Go.RowKit
section
variable {N : List Nd} {H : List (Nat × Nat × Nat × Nat)} {K : List (FuncId × List AC)} {L C : List (List Nat × Nat)} {Z : List Nat} {q : Nat → Rat} {σ : Nat → ByteArray} {w0 : World} {cl : List FuncId} {cs pr : List (FuncId × Nat)}
theorem kn_cons {k a b k' a' b' r' : Nat} {r : Nat} (h : knFrom k a b ((k', a', b', r') :: H) = some r) : (k = k' ∧ a = a' ∧ b = b' ∧ r = r') ∨ knFrom k a b H = some r := by
 unfold knFrom at h
 cases e : (Nat.beq k k' && (Nat.beq a a' && Nat.beq b b')) with
 | true =>
  rw [e] at h
  simp only [Bool.and_eq_true, Nat.beq_eq] at e
  exact Or.inl ⟨e.1, e.2.1, e.2.2, (Option.some.inj h).symm⟩
 | false =>
  rw [e] at h
  exact Or.inr h
theorem Hy.add0 (Y : Hy N H L C Z q σ) {a r : Nat} (h : Nat.beq 1 r = true ↔ q a = 0) : Hy N ((0, a, 0, r) :: H) L C Z q σ where
 nat := Y.nat
 qs := Y.qs
 zs := Y.zs
 par := Y.par
 lit := Y.lit
 k0 := fun a' r' g => by
  rcases kn_cons g with ⟨_, e1, _, e2⟩ | g
  ·rw [e1, e2]
   exact h
  ·exact Y.k0 a' r' g
 k1 := fun a' r' g => by
  rcases kn_cons g with ⟨e, _⟩ | g
  ·cases e
  ·exact Y.k1 a' r' g
 k2 := fun a' r' g => by
  rcases kn_cons g with ⟨e, _⟩ | g
  ·cases e
  ·exact Y.k2 a' r' g
 k4 := fun l a' b' r' g1 g => by
  rcases kn_cons g with ⟨e, _⟩ | g
  ·cases e
  ·exact Y.k4 l a' b' r' g1 g
 k3 := fun a' b' r' g => by
  rcases kn_cons g with ⟨e, _⟩ | g
  ·cases e
  ·exact Y.k3 a' b' r' g
 k6 := fun a' b' r' g => by
  rcases kn_cons g with ⟨e, _⟩ | g
  ·cases e
  ·exact Y.k6 a' b' r' g
 k5 := fun a' r' g => by
  rcases kn_cons g with ⟨e, _⟩ | g
  ·cases e
  ·exact Y.k5 a' r' g
theorem Hy.add3 (Y : Hy N H L C Z q σ) {a b r : Nat} (h : Nat.beq 1 r = true ↔ q a = q b) : Hy N ((3, a, b, r) :: H) L C Z q σ where
 nat := Y.nat
 qs := Y.qs
 zs := Y.zs
 par := Y.par
 lit := Y.lit
 k0 := fun a' r' g => by
  rcases kn_cons g with ⟨e, _⟩ | g
  ·cases e
  ·exact Y.k0 a' r' g
 k1 := fun a' r' g => by
  rcases kn_cons g with ⟨e, _⟩ | g
  ·cases e
  ·exact Y.k1 a' r' g
 k2 := fun a' r' g => by
  rcases kn_cons g with ⟨e, _⟩ | g
  ·cases e
  ·exact Y.k2 a' r' g
 k4 := fun l a' b' r' g1 g => by
  rcases kn_cons g with ⟨e, _⟩ | g
  ·cases e
  ·exact Y.k4 l a' b' r' g1 g
 k3 := fun a' b' r' g => by
  rcases kn_cons g with ⟨_, e1, e2, e3⟩ | g
  ·rw [e1, e2, e3]
   exact h
  ·exact Y.k3 a' b' r' g
 k6 := fun a' b' r' g => by
  rcases kn_cons g with ⟨e, _⟩ | g
  ·cases e
  ·exact Y.k6 a' b' r' g
 k5 := fun a' r' g => by
  rcases kn_cons g with ⟨e, _⟩ | g
  ·cases e
  ·exact Y.k5 a' r' g
theorem ask_true : AskTrue (sx Tryz.prog N H K L C Z pr) (fun X => Hy N (X ++ H) L C Z q σ) (fun d => q d = 0) := fun X Y a ha => by
 obtain ⟨k, a, b, d⟩ := a
 have t1 : Nat.beq 1 1 = true := rfl
 have t0 : Nat.beq 1 0 ≠ true := fun h => by cases h
 unfold askOk at ha
 rw [Bool.or_eq_true] at ha
 rcases ha with ha | ha
 ·simp only [Bool.and_eq_true, Nat.beq_eq] at ha
  obtain ⟨rfl, rfl, rfl⟩ := ha
  exact ⟨fun h => Hy.add0 Y ⟨fun _ => h, fun _ => t1⟩, fun h => Hy.add0 Y ⟨fun g => (t0 g).elim, fun g => (h g).elim⟩⟩
 ·rw [Bool.and_eq_true, Nat.beq_eq] at ha
  obtain ⟨rfl, hb⟩ := ha
  split at hb
  ·rename_i op ar hn
   rw [Bool.and_eq_true, Nat.beq_eq] at hb
   obtain ⟨rfl, hb⟩ := hb
   have e := beqL_eq hb
   subst e
   have hv : q d = q a - q b := Y.nat d _ hn
   have h2 : q d = 0 ↔ q a = q b := by
    rw [hv]
    constructor <;> intro h <;> grind
   exact ⟨fun h => Hy.add3 Y ⟨fun _ => h2.1 h, fun _ => t1⟩, fun h => Hy.add3 Y ⟨fun g => (t0 g).elim, fun g => (h (h2.2 g)).elim⟩⟩
  ·cases hb
theorem sq_nn (y : Rat) : 0 ≤ y * y := by
 by_cases h : y = 0
 ·rw [h, Rat.zero_mul]
  exact Rat.le_refl
 ·exact Rat.le_of_lt (sq1_pos h)
theorem sq_sum {x y : Rat} (hx : 0 ≤ x) : x + y * y = 0 ↔ x = 0 ∧ y = 0 := by
 constructor
 ·intro h
  have h2 := sq_nn y
  have h3 : x = 0 := by grind
  refine ⟨h3, ?_⟩
  have : y * y = 0 := by grind
  rcases Rat.mul_eq_zero.1 this with g | g <;> exact g
 ·rintro ⟨rfl, rfl⟩
  grind
theorem sqF_val {H' : List (Nat × Nat × Nat × Nat)} (Y : Hy N H' L C Z q σ) : ∀ {l : List Nat} {s t : Nat}, sqF (sx Tryz.prog N H K L C Z pr) s l = some t → 0 ≤ q s → 0 ≤ q t ∧ (q t = 0 ↔ q s = 0 ∧ ∀ d ∈ l, q d = 0)
 | [], s, t, h, hs => by
  cases h
  exact ⟨hs, fun e => ⟨e, fun d hd => by cases hd⟩, fun e => e.1⟩
 | a :: l, s, t, h, hs => by
  unfold sqF at h
  simp only [Option.bind_eq_some_iff] at h
  obtain ⟨b, h1, c, h2, h3⟩ := h
  have e1 : q b = q a * q a := Hy.nd (H := H') (K := K) (pr := pr) Y h1
  have e2 : q c = q s + q b := Hy.nd (H := H') (K := K) (pr := pr) Y h2
  have n := sq_nn (q a)
  obtain ⟨g1, g2⟩ := sqF_val Y h3 (by grind)
  refine ⟨g1, g2.trans ?_⟩
  have e3 := sq_sum (y := q a) hs
  rw [e2, e1, e3]
  constructor
  ·rintro ⟨⟨x, y⟩, z⟩
   refine ⟨x, fun d hd => ?_⟩
   rcases List.mem_cons.1 hd with rfl | hd
   ·exact y
   ·exact z d hd
  ·rintro ⟨x, y⟩
   exact ⟨⟨x, y a List.mem_cons_self⟩, fun d hd => y d (List.mem_cons_of_mem _ hd)⟩
theorem sqN_val {H' : List (Nat × Nat × Nat × Nat)} (Y : Hy N H' L C Z q σ) {l : List Nat} {s : Nat} (h : sqN (sx Tryz.prog N H K L C Z pr) l = some s) : q s = 0 ↔ ∀ d ∈ l, q d = 0 := by
 unfold sqN at h
 split at h
 ·cases h
 ·rename_i a l
  rw [Option.bind_eq_some_iff] at h
  obtain ⟨b, h1, h2⟩ := h
  have e1 : q b = q a * q a := Hy.nd (H := H') (K := K) (pr := pr) Y h1
  have n := sq_nn (q a)
  obtain ⟨_, g⟩ := sqF_val Y h2 (by grind)
  rw [g, e1]
  constructor
  ·rintro ⟨x, y⟩ d hd
   rcases List.mem_cons.1 hd with rfl | hd
   ·rcases Rat.mul_eq_zero.1 x with x | x <;> exact x
   ·exact y d hd
  ·intro y
   refine ⟨?_, fun d hd => y d (List.mem_cons_of_mem _ hd)⟩
   rw [y a List.mem_cons_self, Rat.zero_mul]
theorem run_cases {f : FuncId} {args : List AV} {vs : List Value} {k : Nat} {p : List HB × Nat} {b : Bool} (Y : Hy N H L C Z q σ) (hm : (Tryz.prog).follows .mixedOrders = true) {w : World} (hP : ∀ H', Hy N H' L C Z q σ → PrimOk (sx Tryz.prog N H' K L C Z pr) (evS q σ) w) (hr : callC (sx Tryz.prog N H K L C Z pr) cs k [] f args [] 0 = some (kB b, p))
  (hA : A2 (avOn (cOn (evS q σ) K (fun _ => none) w)) args vs) : Calls Tryz.prog f vs.toArray w fun e w' => Below w.heap.size w w' ∧ e = .returned (.bool b) := by
 refine (callC_ok (S := sx Tryz.prog N H K L C Z pr) (E := evS q σ) (w0 := w) (T := fun X => Hy N (X ++ H) L C Z q σ) (z := fun d => q d = 0) hm (fun X hX => knows hX) (fun X hX => hP _ hX) ask_true ?_ k [] Y f args [] 0 (kB b, p) hr (fun _ => none) w vs ⟨Below.refl _ _, (fun _ _ h => by cases h)⟩ hA (fun x hx => by cases hx) (fun x hx => by cases hx) (fun _ _ _ => rfl)).mono ?_
 ·intro X hX l s r h1 h2
  have e := hX.k0 s r h2
  have g := sqN_val hX h1
  refine ⟨fun h => g.1 (e.1 h), fun h => ?_⟩
  have hn : ¬ ∀ d ∈ l, q d = 0 := fun q' => by
   rw [e.2 (g.2 q')] at h
   cases h
  simpa using hn
 ·rintro _ w' ⟨r, γ', rfl, hef, hv, _⟩
  exact ⟨hef.wi.bel, by rw [show r = .bool b from (asC_on (v := kB b) (c := .inl (.bool b)) rfl hv).1]⟩
theorem run_toldC {f : FuncId} {args : List AV} {vs : List Value} {k : Nat} {p : List HB × Nat} {b : Bool} (Y : Hy N H L C Z q σ) (hc : ∀ f ∈ cl, Closed f) (hm : (Tryz.prog).follows .mixedOrders = true) (hr : callC (sx Tryz.prog N H K L C Z (prC cl)) cs k [] f args [] 0 = some (kB b, p)) {w : World} (hp : PreS w)
  (hA : A2 (avOn (cOn (evS q σ) K (fun _ => none) w)) args vs) : Calls Tryz.prog f vs.toArray w fun e w' => Below w.heap.size w w' ∧ e = .returned (.bool b) := run_cases Y hm (fun _ Y' => primOk Y' hp hc) hr hA
theorem run_toldC' {f : FuncId} {args : List AV} {vs : List Value} (k : Nat) (Y : Hy N H L C Z q σ) (hc : ∀ f ∈ cl, Closed f) (hm : (Tryz.prog).follows .mixedOrders = true) (hr : (callC (sx Tryz.prog N H K L C Z (prC cl)) cs k [] f args [] 0).map (·.1) = some (kB true)) {w : World} (hp : PreS w)
  (hA : A2 (avOn (cOn (evS q σ) K (fun _ => none) w)) args vs) : Calls Tryz.prog f vs.toArray w fun e w' => Below w.heap.size w w' ∧ e = .returned (.bool true) := by
 rw [Option.map_eq_some_iff] at hr
 obtain ⟨⟨v, p⟩, h1, h2⟩ := hr
 dsimp only at h2
 subst h2
 exact run_toldC Y hc hm h1 hp hA
theorem dot_ne {a b c x y z : Rat} (h1 : ¬ ((a = 0 ∧ b = 0) ∧ c = 0)) (h2 : ¬ ((x = 0 ∧ y = 0) ∧ z = 0)) (p : b * z - c * y = 0) (q : c * x - a * z = 0) (r : a * y - b * x = 0) : a * x + b * y + c * z ≠ 0 := fun d => by
 have e : (a * a + b * b + c * c) * (x * x + y * y + z * z) = 0 := by
  have : (a * a + b * b + c * c) * (x * x + y * y + z * z) = (b * z - c * y) * (b * z - c * y) + (c * x - a * z) * (c * x - a * z) + (a * y - b * x) * (a * y - b * x) + (a * x + b * y + c * z) * (a * x + b * y + c * z) := by grind
  rw [this, p, q, r, d]
  decide +kernel
 have k : ∀ {a b c : Rat}, a * a + b * b + c * c = 0 → (a = 0 ∧ b = 0) ∧ c = 0 := fun {a b c} h => by
  have n1 := sq_nn a
  have n2 := sq_nn b
  have h3 := (sq_sum (x := a * a + b * b) (y := c) (by grind)).1 h
  have h4 := (sq_sum (x := a * a) (y := b) n1).1 h3.1
  exact ⟨⟨(Rat.mul_eq_zero.1 h4.1).elim id id, h4.2⟩, h3.2⟩
 exact (Rat.mul_eq_zero.1 e).elim (fun h => h1 (k h)) (fun h => h2 (k h))
theorem trip_fac {x y z g a b c : Rat} (h : ¬ ((x = 0 ∧ y = 0) ∧ z = 0)) (hg : g ≠ 0) (ha : a = x * g) (hb : b = y * g) (hc : c = z * g) : ¬ ((a = 0 ∧ b = 0) ∧ c = 0) := by
 rintro ⟨⟨h1, h2⟩, h3⟩
 rw [ha] at h1
 rw [hb] at h2
 rw [hc] at h3
 exact h ⟨⟨(Rat.mul_eq_zero.1 h1).resolve_right hg, (Rat.mul_eq_zero.1 h2).resolve_right hg⟩, (Rat.mul_eq_zero.1 h3).resolve_right hg⟩
theorem harm_sig {a1 a2 a3 b1 b2 b3 c1 c2 c3 J1 J2 J3 X1 X2 X3 B1 B2 B3 s : Rat} (j1 : J1 = a2 * b3 - a3 * b2) (j2 : J2 = a3 * b1 - a1 * b3) (j3 : J3 = a1 * b2 - a2 * b1) (x1 : X1 = c2 * b3 - c3 * b2) (x2 : X2 = c3 * b1 - c1 * b3) (x3 : X3 = c1 * b2 - c2 * b1) (y1 : B1 = b2 * c3 - b3 * c2) (y2 : B2 = b3 * c1 - b1 * c3) (y3 : B3 = b1 * c2 - b2 * c1) (hJ : ¬ ((J1 = 0 ∧ J2 = 0) ∧ J3 = 0)) (hB : ¬ ((B1 = 0 ∧ B2 = 0) ∧ B3 = 0)) (hd : 0 = 0 + c1 * J1 + c2 * J2 + c3 * J3) (hs : s = 0 + X1 * J1 + X2 * J2 + X3 * J3) : s ≠ 0 := by
 have hX : ¬ ((X1 = 0 ∧ X2 = 0) ∧ X3 = 0) := by
  rintro ⟨⟨h1, h2⟩, h3⟩
  exact hB ⟨⟨by grind, by grind⟩, by grind⟩
 have e := dot_ne hX hJ (by subst j1 j2 j3 x1 x2 x3; grind) (by subst j1 j2 j3 x1 x2 x3; grind) (by subst j1 j2 j3 x1 x2 x3; grind)
 rw [hs, Rat.zero_add]
 exact e
theorem comb_ne {a1 a2 a3 b1 b2 b3 J1 J2 J3 D1 D2 D3 s t : Rat} (j1 : J1 = a2 * b3 - a3 * b2) (j2 : J2 = a3 * b1 - a1 * b3) (j3 : J3 = a1 * b2 - a2 * b1) (hJ : ¬ ((J1 = 0 ∧ J2 = 0) ∧ J3 = 0)) (hs : s ≠ 0) (d1 : D1 = a1 * s + b1 * t) (d2 : D2 = a2 * s + b2 * t) (d3 : D3 = a3 * s + b3 * t) : ¬ ((D1 = 0 ∧ D2 = 0) ∧ D3 = 0) := by
 rintro ⟨⟨h1, h2⟩, h3⟩
 rw [h1] at d1
 rw [h2] at d2
 rw [h3] at d3
 refine hJ ⟨⟨?_, ?_⟩, ?_⟩
 ·exact (Rat.mul_eq_zero.1 (show s * J1 = 0 by rw [j1]; grind)).resolve_left hs
 ·exact (Rat.mul_eq_zero.1 (show s * J2 = 0 by rw [j2]; grind)).resolve_left hs
 ·exact (Rat.mul_eq_zero.1 (show s * J3 = 0 by rw [j3]; grind)).resolve_left hs
theorem cross_nz {a1 a2 a3 b1 b2 b3 g h p1 p2 p3 r1 r2 r3 J1 J2 J3 : Rat} (q1 : p1 = a1 * g) (q2 : p2 = a2 * g) (q3 : p3 = a3 * g) (s1 : r1 = b1 * h) (s2 : r2 = b2 * h) (s3 : r3 = b3 * h) (j1 : J1 = p2 * r3 - p3 * r2) (j2 : J2 = p3 * r1 - p1 * r3) (j3 : J3 = p1 * r2 - p2 * r1) (hJ : ¬ ((J1 = 0 ∧ J2 = 0) ∧ J3 = 0)) : ¬ ((a1 * b2 - a2 * b1 = 0 ∧ a2 * b3 - a3 * b2 = 0) ∧ a3 * b1 - a1 * b3 = 0) := by
 rintro ⟨⟨h1, h2⟩, h3⟩
 subst q1 q2 q3 s1 s2 s3
 have k1 : J1 = g * h * (a2 * b3 - a3 * b2) := by rw [j1]; grind
 have k2 : J2 = g * h * (a3 * b1 - a1 * b3) := by rw [j2]; grind
 have k3 : J3 = g * h * (a1 * b2 - a2 * b1) := by rw [j3]; grind
 exact hJ ⟨⟨by rw [k1, h2, Rat.mul_zero], by rw [k2, h3, Rat.mul_zero]⟩, by rw [k3, h1, Rat.mul_zero]⟩
theorem det_zero {A1 A2 A3 B1 B2 B3 C1 C2 C3 a1 a2 a3 b1 b2 b3 c1 c2 c3 g h k J1 J2 J3 : Rat} (q1 : a1 = A1 * g) (q2 : a2 = A2 * g) (q3 : a3 = A3 * g) (r1 : b1 = B1 * h) (r2 : b2 = B2 * h) (r3 : b3 = B3 * h) (s1 : c1 = C1 * k) (s2 : c2 = C2 * k) (s3 : c3 = C3 * k) (j1 : J1 = a2 * b3 - a3 * b2) (j2 : J2 = a3 * b1 - a1 * b3) (j3 : J3 = a1 * b2 - a2 * b1) (hg : g ≠ 0) (hh : h ≠ 0) (hk : k ≠ 0) (hd : 0 = 0 + c1 * J1 + c2 * J2 + c3 * J3) : C1 * (A2 * B3 - A3 * B2) + C2 * (A3 * B1 - A1 * B3) + C3 * (A1 * B2 - A2 * B1) = 0 := by
 subst q1 q2 q3 r1 r2 r3 s1 s2 s3
 have e : (g * (h * k)) * (C1 * (A2 * B3 - A3 * B2) + C2 * (A3 * B1 - A1 * B3) + C3 * (A1 * B2 - A2 * B1)) = 0 := by
  rw [j1, j2, j3] at hd
  grind
 exact (Rat.mul_eq_zero.1 e).resolve_left (mul_ne hg (mul_ne hh hk))
theorem share_s {A1 A2 A3 B1 B2 B3 C1 C2 C3 a1 a2 a3 b1 b2 b3 c1 c2 c3 g h k J1 J2 J3 X1 X2 X3 s : Rat} (_q1 : a1 = A1 * g) (_q2 : a2 = A2 * g) (_q3 : a3 = A3 * g) (r1 : b1 = B1 * h) (r2 : b2 = B2 * h) (r3 : b3 = B3 * h) (s1 : c1 = C1 * k) (s2 : c2 = C2 * k) (s3 : c3 = C3 * k) (j1 : J1 = a2 * b3 - a3 * b2) (j2 : J2 = a3 * b1 - a1 * b3) (j3 : J3 = a1 * b2 - a2 * b1) (hC : C1 * (A2 * B3 - A3 * B2) + C2 * (A3 * B1 - A1 * B3) + C3 * (A1 * B2 - A2 * B1) = 0) (x1 : X1 = c2 * b3 - c3 * b2) (x2 : X2 = c3 * b1 - c1 * b3) (x3 : X3 = c1 * b2 - c2 * b1) (hs : s = 0 + X1 * J1 + X2 * J2 + X3 * J3) : s * (A1 * B2 - A2 * B1) = (C1 * B2 - C2 * B1) * (h * k * ((A2 * B3 - A3 * B2) * J1 + (A3 * B1 - A1 * B3) * J2 + (A1 * B2 - A2 * B1) * J3)) ∧ s * (A2 * B3 - A3 * B2) = (C2 * B3 - C3 * B2) * (h * k * ((A2 * B3 - A3 * B2) * J1 + (A3 * B1 - A1 * B3) * J2 + (A1 * B2 - A2 * B1) * J3)) ∧ s * (A3 * B1 - A1 * B3) = (C3 * B1 - C1 * B3) * (h * k * ((A2 * B3 - A3 * B2) * J1 + (A3 * B1 - A1 * B3) * J2 + (A1 * B2 - A2 * B1) * J3)) := by
 subst r1 r2 r3 s1 s2 s3
 clear j1 j2 j3
 refine ⟨?_, ?_, ?_⟩ <;> rw [hs, x1, x2, x3] <;> grind
theorem share_t {A1 A2 A3 B1 B2 B3 C1 C2 C3 a1 a2 a3 b1 b2 b3 c1 c2 c3 g h k J1 J2 J3 Y1 Y2 Y3 t : Rat} (q1 : a1 = A1 * g) (q2 : a2 = A2 * g) (q3 : a3 = A3 * g) (_r1 : b1 = B1 * h) (_r2 : b2 = B2 * h) (_r3 : b3 = B3 * h) (s1 : c1 = C1 * k) (s2 : c2 = C2 * k) (s3 : c3 = C3 * k) (j1 : J1 = a2 * b3 - a3 * b2) (j2 : J2 = a3 * b1 - a1 * b3) (j3 : J3 = a1 * b2 - a2 * b1) (hC : C1 * (A2 * B3 - A3 * B2) + C2 * (A3 * B1 - A1 * B3) + C3 * (A1 * B2 - A2 * B1) = 0) (y1 : Y1 = a2 * c3 - a3 * c2) (y2 : Y2 = a3 * c1 - a1 * c3) (y3 : Y3 = a1 * c2 - a2 * c1) (ht : t = 0 + Y1 * J1 + Y2 * J2 + Y3 * J3) : t * (A1 * B2 - A2 * B1) = (A1 * C2 - A2 * C1) * (g * k * ((A2 * B3 - A3 * B2) * J1 + (A3 * B1 - A1 * B3) * J2 + (A1 * B2 - A2 * B1) * J3)) ∧ t * (A2 * B3 - A3 * B2) = (A2 * C3 - A3 * C2) * (g * k * ((A2 * B3 - A3 * B2) * J1 + (A3 * B1 - A1 * B3) * J2 + (A1 * B2 - A2 * B1) * J3)) ∧ t * (A3 * B1 - A1 * B3) = (A3 * C1 - A1 * C3) * (g * k * ((A2 * B3 - A3 * B2) * J1 + (A3 * B1 - A1 * B3) * J2 + (A1 * B2 - A2 * B1) * J3)) := by
 subst q1 q2 q3 s1 s2 s3
 clear j1 j2 j3
 refine ⟨?_, ?_, ?_⟩ <;> rw [ht, y1, y2, y3] <;> grind
theorem harm_tau {a1 a2 a3 b1 b2 b3 c1 c2 c3 J1 J2 J3 Y1 Y2 Y3 t : Rat} (j1 : J1 = a2 * b3 - a3 * b2) (j2 : J2 = a3 * b1 - a1 * b3) (j3 : J3 = a1 * b2 - a2 * b1) (y1 : Y1 = a2 * c3 - a3 * c2) (y2 : Y2 = a3 * c1 - a1 * c3) (y3 : Y3 = a1 * c2 - a2 * c1) (hJ : ¬ ((J1 = 0 ∧ J2 = 0) ∧ J3 = 0)) (hY : ¬ ((Y1 = 0 ∧ Y2 = 0) ∧ Y3 = 0)) (hd : 0 = 0 + c1 * J1 + c2 * J2 + c3 * J3) (ht : t = 0 + Y1 * J1 + Y2 * J2 + Y3 * J3) : t ≠ 0 := by
 have e := dot_ne hY hJ (by subst j1 j2 j3 y1 y2 y3; grind) (by subst j1 j2 j3 y1 y2 y3; grind) (by subst j1 j2 j3 y1 y2 y3; grind)
 rw [ht, Rat.zero_add]
 exact e
theorem ratio_main {x y z w d S T U V s t u v g h k l M : Rat} (hd : d ≠ 0) (hx : x ≠ 0) (hw : w ≠ 0) (h1 : x * d = S * (h * k * M)) (h2 : y * d = T * (g * k * M)) (h3 : z * d = U * (h * l * M)) (h4 : w * d = V * (g * l * M)) (es : s = S / d) (et : t = T / d) (eu : u = U / d) (ev : v = V / d) : y / x * (z / w) = t * u / (s * v) := by
 have n1 : S * (h * k * M) ≠ 0 := by rw [← h1]; exact mul_ne hx hd
 have n4 : V * (g * l * M) ≠ 0 := by rw [← h4]; exact mul_ne hw hd
 have nS : S ≠ 0 := fun e => n1 (by rw [e, Rat.zero_mul])
 have nV : V ≠ 0 := fun e => n4 (by rw [e, Rat.zero_mul])
 have nP : (h * k * M) * (g * l * M) ≠ 0 := mul_ne (fun e => n1 (by rw [e, Rat.mul_zero])) (fun e => n4 (by rw [e, Rat.mul_zero]))
 have ns : s ≠ 0 := fun e => nS (by rw [← Rat.div_mul_cancel (b := d) (a := S) hd, ← es, e, Rat.zero_mul])
 have nv : v ≠ 0 := fun e => nV (by rw [← Rat.div_mul_cancel (b := d) (a := V) hd, ← ev, e, Rat.zero_mul])
 have s1 : s * d = S := by rw [es]; exact Rat.div_mul_cancel hd
 have t1 : t * d = T := by rw [et]; exact Rat.div_mul_cancel hd
 have u1 : u * d = U := by rw [eu]; exact Rat.div_mul_cancel hd
 have v1 : v * d = V := by rw [ev]; exact Rat.div_mul_cancel hd
 obtain ⟨p, hp⟩ : ∃ p, p = y / x := ⟨_, rfl⟩
 obtain ⟨r, hr⟩ : ∃ r, r = z / w := ⟨_, rfl⟩
 obtain ⟨f, hf⟩ : ∃ f, f = t * u / (s * v) := ⟨_, rfl⟩
 have p1 : p * x = y := by rw [hp]; exact Rat.div_mul_cancel hx
 have r1 : r * w = z := by rw [hr]; exact Rat.div_mul_cancel hw
 have f1 : f * (s * v) = t * u := by rw [hf]; exact Rat.div_mul_cancel (mul_ne ns nv)
 rw [← hp, ← hr, ← hf]
 clear hp hr hf es et eu ev
 have k1 : (p * r) * (S * V) * ((h * k * M) * (g * l * M)) = (T * U) * ((h * k * M) * (g * l * M)) := by
  have a1 : (p * r) * (S * V) * ((h * k * M) * (g * l * M)) = (p * r) * ((x * d) * (w * d)) := by rw [h1, h4]; grind
  have a2 : (T * U) * ((h * k * M) * (g * l * M)) = (y * d) * (z * d) := by rw [h2, h3]; grind
  rw [a1, a2, ← p1, ← r1]
  grind
 have k2 : (p * r) * (S * V) = T * U := by
  have : ((p * r) * (S * V) - T * U) * ((h * k * M) * (g * l * M)) = 0 := by grind
  have := (Rat.mul_eq_zero.1 this).resolve_right nP
  grind
 have k3 : f * (S * V) = T * U := by
  rw [← s1, ← v1, ← t1, ← u1]
  have : f * (s * d * (v * d)) = (f * (s * v)) * (d * d) := by grind
  rw [this, f1]
  grind
 have : (p * r - f) * (S * V) = 0 := by grind
 have := (Rat.mul_eq_zero.1 this).resolve_right (mul_ne nS nV)
 grind
theorem sq_first {u x : Rat} (h : u = x * x) : 0 ≤ u ∧ (u = 0 ↔ x = 0) := by
 rw [h]
 exact ⟨sq_nn x, fun e => (Rat.mul_eq_zero.1 e).elim id id, fun e => by rw [e, Rat.zero_mul]⟩
theorem sq_next {p : Prop} {s x v t : Rat} (h : 0 ≤ s ∧ (s = 0 ↔ p)) (hv : v = x * x) (ht : t = s + v) : 0 ≤ t ∧ (t = 0 ↔ (p ∧ x = 0)) := by
 have n := sq_nn x
 refine ⟨by have := h.1; grind, ?_⟩
 rw [ht, hv, sq_sum h.1, h.2]
end
end Go.Proofs.YtioacnhbiinjbaaGreatDoor
/- CFprojected -/
namespace Go.Proofs.YtioacnhbiinjbaaGreatDoor
open Go.RowKit Cx
theorem closed_projected : Closed 75 :=
 closed_told (N := [(0, [0, 1, 1]), (0, [0, 0, 1]), (8, [0, 0, 1, 1]), (8, [1, 0, 1, 1]), (8, [2, 0, 1, 1]), (8, [0, 1, 0, 0]), (8, [1, 1, 0, 0]), (8, [2, 1, 0, 0]), (4, [3, 7]), (4, [4, 6]), (3, [8, 9]), (4, [4, 5]), (4, [2, 7]), (3, [11, 12]), (4, [2, 6]), (4, [3, 5]), (3, [14, 15]), (8, [0, 10, 13, 16]), (8, [1, 10, 13, 16]), (8, [2, 10, 13, 16]), (8, [0, 1, 0, 1]), (8, [1, 1, 0, 1]), (8, [2, 1, 0, 1]), (4, [3, 22]), (4, [4, 21]), (3, [23, 24]), (4, [4, 20]), (4, [2, 22]), (3, [26, 27]), (4, [2, 21]), (4, [3, 20]), (3, [29, 30]), (8, [0, 0, 0, 1]), (8, [1, 0, 0, 1]), (8, [2, 0, 0, 1]), (4, [3, 34]), (4, [4, 33]), (3, [35, 36]), (4, [4, 32]), (4, [2, 34]), (3, [38, 39]), (4, [2, 33]), (4, [3, 32]), (3, [41, 42]), (4, [21, 34]), (4, [22, 33]), (3, [44, 45]), (4, [22, 32]), (4, [20, 34]), (3, [47, 48]), (4, [20, 33]), (4, [21, 32]), (3, [50, 51]), (4, [32, 25]), (2, [1, 53]), (4, [33, 28]), (2, [54, 55]), (4, [34, 31]), (2, [56, 57]), (4, [33, 22]), (4, [34, 21]), (3, [59, 60]), (4, [34, 20]), (4, [32, 22]), (3, [62, 63]), (4, [32, 21]), (4, [33, 20]), (3, [65, 66]), (4, [61, 25]), (2, [1, 68]), (4, [64, 28]), (2, [69, 70]), (4, [67, 31]), (2, [71, 72]), (4, [37, 25]), (2, [1, 74]), (4, [40, 28]), (2, [75, 76]), (4, [43, 31]), (2, [77, 78]), (4, [2, 73]), (4, [3, 73]), (4, [4, 73]), (5, [79]), (4, [20, 83]), (4, [21, 83]), (4, [22, 83]), (2, [80, 84]), (2, [81, 85]), (2, [82, 86]), (8, [0, 87, 88, 89]), (8, [1, 87, 88, 89]), (8, [2, 87, 88, 89]), (0, [0, 2, 1]), (8, [0, 0, 93, 1]), (8, [1, 0, 93, 1]), (8, [2, 0, 93, 1]), (4, [3, 96]), (4, [4, 95]), (3, [97, 98]), (4, [4, 94]), (4, [2, 96]), (3, [100, 101]), (4, [2, 95]), (4, [3, 94]), (3, [103, 104]), (4, [21, 96]), (4, [22, 95]), (3, [106, 107]), (4, [22, 94]), (4, [20, 96]), (3, [109, 110]), (4, [20, 95]), (4, [21, 94]), (3, [112, 113]), (4, [33, 96]), (4, [34, 95]), (3, [115, 116]), (4, [34, 94]), (4, [32, 96]), (3, [118, 119]), (4, [32, 95]), (4, [33, 94]), (3, [121, 122]), (4, [94, 25]), (2, [1, 124]), (4, [95, 28]), (2, [125, 126]), (4, [96, 31]), (2, [127, 128]), (4, [95, 22]), (4, [96, 21]), (3, [130, 131]), (4, [96, 20]), (4, [94, 22]), (3, [133, 134]), (4, [94, 21]), (4, [95, 20]), (3, [136, 137]), (4, [132, 25]), (2, [1, 139]), (4, [135, 28]), (2, [140, 141]), (4, [138, 31]), (2, [142, 143]), (4, [99, 25]), (2, [1, 145]), (4, [102, 28]), (2, [146, 147]), (4, [105, 31]), (2, [148, 149]), (6, [79, 73]), (6, [144, 150]), (4, [151, 152]), (0, [1, 1, 1]), (0, [0, 1, 2])]) (H := [(0, 0, 0, 0), (0, 1, 0, 1), (0, 10, 0, 1), (0, 13, 0, 0), (0, 25, 0, 1), (0, 28, 0, 1), (0, 31, 0, 0), (0, 37, 0, 1), (0, 40, 0, 1), (0, 43, 0, 0), (0, 46, 0, 1), (0, 49, 0, 1), (0, 52, 0, 0), (0, 58, 0, 1), (0, 99, 0, 1), (0, 102, 0, 1), (0, 105, 0, 0), (0, 108, 0, 1), (0, 111, 0, 1), (0, 114, 0, 0), (0, 117, 0, 1), (0, 120, 0, 1), (0, 123, 0, 0), (0, 129, 0, 1), (4, 17, 1, 1), (4, 18, 0, 1), (4, 19, 154, 1), (4, 90, 0, 1), (4, 91, 154, 1), (4, 92, 1, 1), (4, 153, 155, 1)]) (K := []) (L := [([49], 0), ([48], 1), ([50], 93), ([45, 49], 154), ([49, 47, 50], 155)]) (C := [([48], 1), ([49], 0), ([45, 49], 154), ([49, 47, 50], 155)]) (Z := [2, 2, 9, 9, 9, 9, 9, 9, 18, 18, 37, 18, 18, 37, 18, 18, 37, 149, 149, 149, 9, 9, 9, 18, 18, 37, 18, 18, 37, 18, 18, 37, 9, 9, 9, 18, 18, 37, 18, 18, 37, 18, 18, 37, 18, 18, 37, 18, 18, 37, 18, 18, 37, 46, 49, 46, 96, 46, 143, 18, 18, 37, 18, 18, 37, 18, 18, 37, 74, 77, 74, 152, 74, 227, 74, 77, 74, 152, 74, 227, 236, 236, 236, 227, 236, 236, 236, 473, 473, 473, 1893, 1893, 1893, 3, 13, 13, 13, 22, 22, 45, 22, 22, 45, 22, 22, 45, 22, 22, 45, 22, 22, 45, 22, 22, 45, 22, 22, 45, 22, 22, 45, 22, 22, 45, 50, 53, 50, 104, 50, 155, 22, 22, 45, 22, 22, 45, 22, 22, 45, 82, 85, 82, 168, 82, 251, 82, 85, 82, 168, 82, 251, 454, 502, 956, 2, 3]) (cl := []) 6 (fun _ h => by cases h) (by kernel_rfl) (by kernel_rfl) (by kernel_rfl) (by kernel_rfl) (by kernel_rfl) (by kernel_rfl) (by kernel_rfl)
end Go.Proofs.YtioacnhbiinjbaaGreatDoor
/- MPA -/
namespace Go.Proofs.YtioacnhbiinjbaaGreatDoor
open Go.RowKit Cx
def projectApply_N : List Nd := [(1, [0]), (1, [1]), (1, [2]), (1, [3]), (1, [4]), (1, [5]), (1, [6]), (1, [7]), (1, [8]), (8, [0, 0, 1, 2, 3, 4, 5, 6, 7, 8]), (8, [1, 0, 1, 2, 3, 4, 5, 6, 7, 8]), (8, [2, 0, 1, 2, 3, 4, 5, 6, 7, 8]), (8, [3, 0, 1, 2, 3, 4, 5, 6, 7, 8]), (8, [4, 0, 1, 2, 3, 4, 5, 6, 7, 8]), (8, [5, 0, 1, 2, 3, 4, 5, 6, 7, 8]), (8, [6, 0, 1, 2, 3, 4, 5, 6, 7, 8]), (8, [7, 0, 1, 2, 3, 4, 5, 6, 7, 8]), (8, [8, 0, 1, 2, 3, 4, 5, 6, 7, 8]), (4, [13, 17]), (4, [14, 16]), (3, [18, 19]), (4, [14, 15]), (4, [12, 17]), (3, [21, 22]), (4, [12, 16]), (4, [13, 15]), (3, [24, 25]), (4, [9, 20]), (0, [0, 0, 1]), (2, [28, 27]), (4, [10, 23]), (2, [29, 30]), (4, [11, 26]), (2, [31, 32]), (4, [4, 8]), (4, [5, 7]), (3, [34, 35]), (4, [0, 36]), (4, [3, 8]), (4, [5, 6]), (3, [38, 39]), (4, [1, 40]), (5, [41]), (4, [3, 7]), (4, [4, 6]), (3, [43, 44]), (4, [2, 45]), (2, [37, 42]), (2, [47, 46]), (1, [9]), (1, [10]), (1, [11]), (4, [49, 49]), (4, [50, 50]), (2, [52, 53]), (4, [51, 51]), (2, [54, 55]), (1, [12]), (1, [13]), (1, [14]), (4, [57, 57]), (4, [58, 58]), (2, [60, 61]), (4, [59, 59]), (2, [62, 63]), (8, [0, 57, 58, 59]), (8, [1, 57, 58, 59]), (8, [2, 57, 58, 59]), (4, [16, 11]), (4, [17, 10]), (3, [68, 69]), (4, [17, 9]), (4, [15, 11]), (3, [71, 72]), (4, [15, 10]), (4, [16, 9]), (3, [74, 75]), (4, [10, 14]), (4, [11, 13]), (3, [77, 78]), (4, [11, 12]), (4, [9, 14]), (3, [80, 81]), (4, [9, 13]), (4, [10, 12]), (3, [83, 84]), (4, [20, 65]), (2, [28, 86]), (4, [23, 66]), (2, [87, 88]), (4, [26, 67]), (2, [89, 90]), (4, [70, 65]), (2, [28, 92]), (4, [73, 66]), (2, [93, 94]), (4, [76, 67]), (2, [95, 96]), (4, [79, 65]), (2, [28, 98]), (4, [82, 66]), (2, [99, 100]), (4, [85, 67]), (2, [101, 102]), (8, [0, 91, 97, 103]), (8, [1, 91, 97, 103]), (8, [2, 91, 97, 103]), (5, [58]), (5, [59]), (5, [57]), (4, [0, 28]), (4, [1, 59]), (4, [2, 107]), (2, [110, 111]), (2, [113, 112]), (4, [3, 28]), (4, [4, 59]), (4, [5, 107]), (2, [115, 116]), (2, [118, 117]), (4, [6, 28]), (4, [7, 59]), (4, [8, 107]), (2, [120, 121]), (2, [123, 122]), (4, [104, 114]), (4, [105, 119]), (4, [106, 124]), (2, [125, 126]), (2, [128, 127]), (4, [0, 108]), (4, [1, 28]), (4, [2, 57]), (2, [130, 131]), (2, [133, 132]), (4, [3, 108]), (4, [4, 28]), (4, [5, 57]), (2, [135, 136]), (2, [138, 137]), (4, [6, 108]), (4, [7, 28]), (4, [8, 57]), (2, [140, 141]), (2, [143, 142]), (4, [104, 134]), (4, [105, 139]), (4, [106, 144]), (2, [145, 146]), (2, [148, 147]), (4, [0, 58]), (4, [1, 109]), (4, [2, 28]), (2, [150, 151]), (2, [153, 152]), (4, [3, 58]), (4, [4, 109]), (4, [5, 28]), (2, [155, 156]), (2, [158, 157]), (4, [6, 58]), (4, [7, 109]), (4, [8, 28]), (2, [160, 161]), (2, [163, 162]), (4, [104, 154]), (4, [105, 159]), (4, [106, 164]), (2, [165, 166]), (2, [168, 167]), (4, [91, 91]), (4, [97, 97]), (2, [170, 171]), (4, [103, 103]), (2, [172, 173]), (4, [104, 104]), (4, [105, 105]), (2, [175, 176]), (4, [106, 106]), (2, [177, 178]), (8, [0, 49, 50, 51]), (8, [1, 49, 50, 51]), (8, [2, 49, 50, 51]), (4, [9, 180]), (2, [28, 183]), (4, [10, 181]), (2, [184, 185]), (4, [11, 182]), (2, [186, 187]), (4, [12, 180]), (2, [28, 189]), (4, [13, 181]), (2, [190, 191]), (4, [14, 182]), (2, [192, 193]), (4, [15, 180]), (2, [28, 195]), (4, [16, 181]), (2, [196, 197]), (4, [17, 182]), (2, [198, 199]), (8, [0, 188, 194, 200]), (8, [1, 188, 194, 200]), (8, [2, 188, 194, 200]), (4, [188, 188]), (4, [194, 194]), (2, [204, 205]), (4, [200, 200]), (2, [206, 207]), (4, [201, 201]), (4, [202, 202]), (2, [209, 210]), (4, [203, 203]), (2, [211, 212]), (4, [0, 49]), (4, [1, 50]), (4, [2, 51]), (2, [214, 215]), (2, [217, 216]), (4, [3, 49]), (4, [4, 50]), (4, [5, 51]), (2, [219, 220]), (2, [222, 221]), (4, [6, 49]), (4, [7, 50]), (4, [8, 51]), (2, [224, 225]), (2, [227, 226]), (4, [223, 201]), (4, [218, 202]), (3, [229, 230]), (4, [228, 201]), (4, [218, 203]), (3, [232, 233]), (4, [228, 202]), (4, [223, 203]), (3, [235, 236]), (4, [231, 231]), (4, [234, 234]), (2, [238, 239]), (4, [237, 237]), (2, [240, 241])]
def projectApply_L : List (List Nat × Nat) := []
def projectApply_C : List (List Nat × Nat) := []
def projectApply_Z : List Nat := [4194309, 4194309, 4194309, 4194309, 4194309, 4194309, 4194309, 4194309, 4194309, 41943091, 41943091, 41943091, 41943091, 41943091, 41943091, 41943091, 41943091, 41943091, 83886182, 83886182, 167772365, 83886182, 83886182, 167772365, 83886182, 83886182, 167772365, 209715456, 2, 209715459, 209715456, 419430916, 209715456, 629146373, 8388618, 8388618, 16777237, 20971546, 8388618, 8388618, 16777237, 20971546, 20971546, 8388618, 8388618, 16777237, 20971546, 41943093, 62914640, 4194309, 4194309, 4194309, 8388618, 8388618, 16777237, 8388618, 25165856, 4194309, 4194309, 4194309, 8388618, 8388618, 16777237, 8388618, 25165856, 16777237, 16777237, 16777237, 83886182, 83886182, 167772365, 83886182, 83886182, 167772365, 83886182, 83886182, 167772365, 83886182, 83886182, 167772365, 83886182, 83886182, 167772365, 83886182, 83886182, 167772365, 184549602, 184549605, 184549602, 369099208, 184549602, 553648811, 184549602, 184549605, 184549602, 369099208, 184549602, 553648811, 184549602, 184549605, 184549602, 369099208, 184549602, 553648811, 2214595245, 2214595245, 2214595245, 4194309, 4194309, 4194309, 4194311, 8388618, 8388618, 12582930, 20971549, 4194311, 8388618, 8388618, 12582930, 20971549, 4194311, 8388618, 8388618, 12582930, 20971549, 2235566794, 2235566794, 2235566794, 4471133589, 6706700384, 8388618, 4194311, 8388618, 12582930, 20971549, 8388618, 4194311, 8388618, 12582930, 20971549, 8388618, 4194311, 8388618, 12582930, 20971549, 2235566794, 2235566794, 2235566794, 4471133589, 6706700384, 8388618, 8388618, 4194311, 16777237, 20971549, 8388618, 8388618, 4194311, 16777237, 20971549, 8388618, 8388618, 4194311, 16777237, 20971549, 2235566794, 2235566794, 2235566794, 4471133589, 6706700384, 1107297622, 1107297622, 2214595245, 1107297622, 3321892868, 4429190490, 4429190490, 8858380981, 4429190490, 13287571472, 16777237, 16777237, 16777237, 58720328, 58720331, 58720328, 117440660, 58720328, 176160989, 58720328, 58720331, 58720328, 117440660, 58720328, 176160989, 58720328, 58720331, 58720328, 117440660, 58720328, 176160989, 704643957, 704643957, 704643957, 352321978, 352321978, 704643957, 352321978, 1056965936, 1409287914, 1409287914, 2818575829, 1409287914, 4227863744, 8388618, 8388618, 8388618, 16777237, 25165856, 8388618, 8388618, 8388618, 16777237, 25165856, 8388618, 8388618, 8388618, 16777237, 25165856, 729809813, 729809813, 1459619627, 729809813, 729809813, 1459619627, 729809813, 729809813, 1459619627, 2919239254, 2919239254, 5838478509, 2919239254, 8757717764]
theorem projectApply_wf : wfB 0 projectApply_N = true := by kernel_rfl
theorem projectApply_sz : szB projectApply_Z projectApply_N projectApply_Z = true := by kernel_rfl
theorem projectApply_lt : litB projectApply_N projectApply_L = true := by kernel_rfl
theorem projectApply_cn : canB projectApply_N projectApply_C = true := by kernel_rfl
theorem projectApply_c28 : cst 0 0 1 = (0 : Rat) := by decide +kernel
theorem projectApply_f0 {z0 z1 z2 z3 z4 z5 z6 z7 z8 z9 z10 z11 z12 z13 z14 z15 z16 z17 z18 z19 z20 z21 z22 z23 z24 z25 z26 z27 z28 z29 z30 z31 z32 z33 z34 z35 z36 z37 z38 z39 z40 z41 z42 z43 z44 z45 z46 z47 z48 : Rat} : z9 = z0 * fac [z0, z1, z2, z3, z4, z5, z6, z7, z8] → z10 = z1 * fac [z0, z1, z2, z3, z4, z5, z6, z7, z8] → z11 = z2 * fac [z0, z1, z2, z3, z4, z5, z6, z7, z8] → z12 = z3 * fac [z0, z1, z2, z3, z4, z5, z6, z7, z8] → z13 = z4 * fac [z0, z1, z2, z3, z4, z5, z6, z7, z8] → z14 = z5 * fac [z0, z1, z2, z3, z4, z5, z6, z7, z8] → z15 = z6 * fac [z0, z1, z2, z3, z4, z5, z6, z7, z8] → z16 = z7 * fac [z0, z1, z2, z3, z4, z5, z6, z7, z8] → z17 = z8 * fac [z0, z1, z2, z3, z4, z5, z6, z7, z8] → z18 = z13 * z17 → z19 = z14 * z16 → z20 = z18 - z19 → z21 = z14 * z15 → z22 = z12 * z17 → z23 = z21 - z22 → z24 = z12 * z16 → z25 = z13 * z15 → z26 = z24 - z25 → z27 = z9 * z20 → z28 = 0 → z29 = z28 + z27 → z30 = z10 * z23 → z31 = z29 + z30 → z32 = z11 * z26 → z33 = z31 + z32 → z34 = z4 * z8 → z35 = z5 * z7 → z36 = z34 - z35 → z37 = z0 * z36 → z38 = z3 * z8 → z39 = z5 * z6 → z40 = z38 - z39 → z41 = z1 * z40 → z42 = -z41 → z43 = z3 * z7 → z44 = z4 * z6 → z45 = z43 - z44 → z46 = z2 * z45 → z47 = z37 + z42 → z48 = z47 + z46 → (z33 = 0) → z48 = 0 := by
 intro e9 e10 e11 e12 e13 e14 e15 e16 e17 e18 e19 e20 e21 e22 e23 e24 e25 e26 e27 e28 e29 e30 e31 e32 e33 e34 e35 e36 e37 e38 e39 e40 e41 e42 e43 e44 e45 e46 e47 e48 u0
 rw [u0] at e33
 have k0_0 : fac [z0, z1, z2, z3, z4, z5, z6, z7, z8] = 0 → z0 = 0 := fac_zero (by simp)
 have k0_1 : fac [z0, z1, z2, z3, z4, z5, z6, z7, z8] = 0 → z1 = 0 := fac_zero (by simp)
 have k0_2 : fac [z0, z1, z2, z3, z4, z5, z6, z7, z8] = 0 → z2 = 0 := fac_zero (by simp)
 have k0_3 : fac [z0, z1, z2, z3, z4, z5, z6, z7, z8] = 0 → z3 = 0 := fac_zero (by simp)
 have k0_4 : fac [z0, z1, z2, z3, z4, z5, z6, z7, z8] = 0 → z4 = 0 := fac_zero (by simp)
 have k0_5 : fac [z0, z1, z2, z3, z4, z5, z6, z7, z8] = 0 → z5 = 0 := fac_zero (by simp)
 have k0_6 : fac [z0, z1, z2, z3, z4, z5, z6, z7, z8] = 0 → z6 = 0 := fac_zero (by simp)
 have k0_7 : fac [z0, z1, z2, z3, z4, z5, z6, z7, z8] = 0 → z7 = 0 := fac_zero (by simp)
 have k0_8 : fac [z0, z1, z2, z3, z4, z5, z6, z7, z8] = 0 → z8 = 0 := fac_zero (by simp)
 generalize fac [z0, z1, z2, z3, z4, z5, z6, z7, z8] = g0 at *
 rcases Classical.em (g0 = 0) with iw0 | iw0
 ·have ic0_0 := k0_0 iw0
  have ic0_1 := k0_1 iw0
  have ic0_2 := k0_2 iw0
  have ic0_3 := k0_3 iw0
  have ic0_4 := k0_4 iw0
  have ic0_5 := k0_5 iw0
  have ic0_6 := k0_6 iw0
  have ic0_7 := k0_7 iw0
  have ic0_8 := k0_8 iw0
  subst_vars; grind
 obtain ⟨iv0, ih0⟩ : ∃ i, g0 * i = 1 := ⟨g0⁻¹, Rat.mul_inv_cancel _ iw0⟩
 clear k0_0 k0_1 k0_2 k0_3 k0_4 k0_5 k0_6 k0_7 k0_8
 subst_vars; grind
theorem projectApply_f1 {z0 z1 z2 z3 z4 z5 z6 z7 z8 z9 z10 z11 z12 z13 z14 z15 z16 z17 z18 z19 z20 z21 z22 z23 z24 z25 z26 z27 z28 z29 z30 z31 z32 z33 z34 z35 z36 z37 z38 z39 z40 z41 z42 z43 z44 z45 z46 z47 z48 : Rat} : z9 = z0 * fac [z0, z1, z2, z3, z4, z5, z6, z7, z8] → z10 = z1 * fac [z0, z1, z2, z3, z4, z5, z6, z7, z8] → z11 = z2 * fac [z0, z1, z2, z3, z4, z5, z6, z7, z8] → z12 = z3 * fac [z0, z1, z2, z3, z4, z5, z6, z7, z8] → z13 = z4 * fac [z0, z1, z2, z3, z4, z5, z6, z7, z8] → z14 = z5 * fac [z0, z1, z2, z3, z4, z5, z6, z7, z8] → z15 = z6 * fac [z0, z1, z2, z3, z4, z5, z6, z7, z8] → z16 = z7 * fac [z0, z1, z2, z3, z4, z5, z6, z7, z8] → z17 = z8 * fac [z0, z1, z2, z3, z4, z5, z6, z7, z8] → z18 = z13 * z17 → z19 = z14 * z16 → z20 = z18 - z19 → z21 = z14 * z15 → z22 = z12 * z17 → z23 = z21 - z22 → z24 = z12 * z16 → z25 = z13 * z15 → z26 = z24 - z25 → z27 = z9 * z20 → z28 = 0 → z29 = z28 + z27 → z30 = z10 * z23 → z31 = z29 + z30 → z32 = z11 * z26 → z33 = z31 + z32 → z34 = z4 * z8 → z35 = z5 * z7 → z36 = z34 - z35 → z37 = z0 * z36 → z38 = z3 * z8 → z39 = z5 * z6 → z40 = z38 - z39 → z41 = z1 * z40 → z42 = -z41 → z43 = z3 * z7 → z44 = z4 * z6 → z45 = z43 - z44 → z46 = z2 * z45 → z47 = z37 + z42 → z48 = z47 + z46 → (¬ (z33 = 0)) → ¬ (z48 = 0) := by
 intro e9 e10 e11 e12 e13 e14 e15 e16 e17 e18 e19 e20 e21 e22 e23 e24 e25 e26 e27 e28 e29 e30 e31 e32 e33 e34 e35 e36 e37 e38 e39 e40 e41 e42 e43 e44 e45 e46 e47 e48 u0
 have k0_0 : fac [z0, z1, z2, z3, z4, z5, z6, z7, z8] = 0 → z0 = 0 := fac_zero (by simp)
 have k0_1 : fac [z0, z1, z2, z3, z4, z5, z6, z7, z8] = 0 → z1 = 0 := fac_zero (by simp)
 have k0_2 : fac [z0, z1, z2, z3, z4, z5, z6, z7, z8] = 0 → z2 = 0 := fac_zero (by simp)
 have k0_3 : fac [z0, z1, z2, z3, z4, z5, z6, z7, z8] = 0 → z3 = 0 := fac_zero (by simp)
 have k0_4 : fac [z0, z1, z2, z3, z4, z5, z6, z7, z8] = 0 → z4 = 0 := fac_zero (by simp)
 have k0_5 : fac [z0, z1, z2, z3, z4, z5, z6, z7, z8] = 0 → z5 = 0 := fac_zero (by simp)
 have k0_6 : fac [z0, z1, z2, z3, z4, z5, z6, z7, z8] = 0 → z6 = 0 := fac_zero (by simp)
 have k0_7 : fac [z0, z1, z2, z3, z4, z5, z6, z7, z8] = 0 → z7 = 0 := fac_zero (by simp)
 have k0_8 : fac [z0, z1, z2, z3, z4, z5, z6, z7, z8] = 0 → z8 = 0 := fac_zero (by simp)
 generalize fac [z0, z1, z2, z3, z4, z5, z6, z7, z8] = g0 at *
 have nx0 : ¬ ((((((((z0 = 0 ∧ z1 = 0) ∧ z2 = 0) ∧ z3 = 0) ∧ z4 = 0) ∧ z5 = 0) ∧ z6 = 0) ∧ z7 = 0) ∧ z8 = 0) := by
  rintro ⟨⟨⟨⟨⟨⟨⟨⟨hx0, hx1⟩, hx2⟩, hx3⟩, hx4⟩, hx5⟩, hx6⟩, hx7⟩, hx8⟩
  first | grind | (subst_vars; grind)
 have iw0 : g0 ≠ 0 := fun hg => nx0 ⟨⟨⟨⟨⟨⟨⟨⟨(k0_0 hg), (k0_1 hg)⟩, (k0_2 hg)⟩, (k0_3 hg)⟩, (k0_4 hg)⟩, (k0_5 hg)⟩, (k0_6 hg)⟩, (k0_7 hg)⟩, (k0_8 hg)⟩
 obtain ⟨iv0, ih0⟩ : ∃ i, g0 * i = 1 := ⟨g0⁻¹, Rat.mul_inv_cancel _ iw0⟩
 clear k0_0 k0_1 k0_2 k0_3 k0_4 k0_5 k0_6 k0_7 k0_8
 subst_vars; grind
theorem projectApply_f2 {z0 z1 z2 z3 z4 z5 z6 z7 z8 z9 z10 z11 z12 z13 z14 z15 z16 z17 z18 z19 z20 z21 z22 z23 z24 z25 z26 z28 z57 z58 z59 z64 z65 z66 z67 z68 z69 z70 z71 z72 z73 z74 z75 z76 z77 z78 z79 z80 z81 z82 z83 z84 z85 z86 z87 z88 z89 z90 z91 z92 z93 z94 z95 z96 z97 z98 z99 z100 z101 z102 z103 z104 z105 z106 z107 z110 z111 z112 z113 z114 z115 z116 z117 z118 z119 z120 z121 z122 z123 z124 z125 z126 z127 z128 z129 : Rat} : z9 = z0 * fac [z0, z1, z2, z3, z4, z5, z6, z7, z8] → z10 = z1 * fac [z0, z1, z2, z3, z4, z5, z6, z7, z8] → z11 = z2 * fac [z0, z1, z2, z3, z4, z5, z6, z7, z8] → z12 = z3 * fac [z0, z1, z2, z3, z4, z5, z6, z7, z8] → z13 = z4 * fac [z0, z1, z2, z3, z4, z5, z6, z7, z8] → z14 = z5 * fac [z0, z1, z2, z3, z4, z5, z6, z7, z8] → z15 = z6 * fac [z0, z1, z2, z3, z4, z5, z6, z7, z8] → z16 = z7 * fac [z0, z1, z2, z3, z4, z5, z6, z7, z8] → z17 = z8 * fac [z0, z1, z2, z3, z4, z5, z6, z7, z8] → z18 = z13 * z17 → z19 = z14 * z16 → z20 = z18 - z19 → z21 = z14 * z15 → z22 = z12 * z17 → z23 = z21 - z22 → z24 = z12 * z16 → z25 = z13 * z15 → z26 = z24 - z25 → z28 = 0 → (z64 = 0 ↔ ((z57 = 0 ∧ z58 = 0) ∧ z59 = 0)) → z65 = z57 * fac [z57, z58, z59] → z66 = z58 * fac [z57, z58, z59] → z67 = z59 * fac [z57, z58, z59] → z68 = z16 * z11 → z69 = z17 * z10 → z70 = z68 - z69 → z71 = z17 * z9 → z72 = z15 * z11 → z73 = z71 - z72 → z74 = z15 * z10 → z75 = z16 * z9 → z76 = z74 - z75 → z77 = z10 * z14 → z78 = z11 * z13 → z79 = z77 - z78 → z80 = z11 * z12 → z81 = z9 * z14 → z82 = z80 - z81 → z83 = z9 * z13 → z84 = z10 * z12 → z85 = z83 - z84 → z86 = z20 * z65 → z87 = z28 + z86 → z88 = z23 * z66 → z89 = z87 + z88 → z90 = z26 * z67 → z91 = z89 + z90 → z92 = z70 * z65 → z93 = z28 + z92 → z94 = z73 * z66 → z95 = z93 + z94 → z96 = z76 * z67 → z97 = z95 + z96 → z98 = z79 * z65 → z99 = z28 + z98 → z100 = z82 * z66 → z101 = z99 + z100 → z102 = z85 * z67 → z103 = z101 + z102 → z104 = z91 * fac [z91, z97, z103] → z105 = z97 * fac [z91, z97, z103] → z106 = z103 * fac [z91, z97, z103] → z107 = -z58 → z110 = z0 * z28 → z111 = z1 * z59 → z112 = z2 * z107 → z113 = z110 + z111 → z114 = z113 + z112 → z115 = z3 * z28 → z116 = z4 * z59 → z117 = z5 * z107 → z118 = z115 + z116 → z119 = z118 + z117 → z120 = z6 * z28 → z121 = z7 * z59 → z122 = z8 * z107 → z123 = z120 + z121 → z124 = z123 + z122 → z125 = z104 * z114 → z126 = z105 * z119 → z127 = z106 * z124 → z128 = z125 + z126 → z129 = z128 + z127 → (¬ (z64 = 0)) → z129 = 0 := by
 intro e9 e10 e11 e12 e13 e14 e15 e16 e17 e18 e19 e20 e21 e22 e23 e24 e25 e26 e28 e64 e65 e66 e67 e68 e69 e70 e71 e72 e73 e74 e75 e76 e77 e78 e79 e80 e81 e82 e83 e84 e85 e86 e87 e88 e89 e90 e91 e92 e93 e94 e95 e96 e97 e98 e99 e100 e101 e102 e103 e104 e105 e106 e107 e110 e111 e112 e113 e114 e115 e116 e117 e118 e119 e120 e121 e122 e123 e124 e125 e126 e127 e128 e129 u2
 rw [e64] at u2
 clear  e64
 have k0_0 : fac [z0, z1, z2, z3, z4, z5, z6, z7, z8] = 0 → z0 = 0 := fac_zero (by simp)
 have k0_1 : fac [z0, z1, z2, z3, z4, z5, z6, z7, z8] = 0 → z1 = 0 := fac_zero (by simp)
 have k0_2 : fac [z0, z1, z2, z3, z4, z5, z6, z7, z8] = 0 → z2 = 0 := fac_zero (by simp)
 have k0_3 : fac [z0, z1, z2, z3, z4, z5, z6, z7, z8] = 0 → z3 = 0 := fac_zero (by simp)
 have k0_4 : fac [z0, z1, z2, z3, z4, z5, z6, z7, z8] = 0 → z4 = 0 := fac_zero (by simp)
 have k0_5 : fac [z0, z1, z2, z3, z4, z5, z6, z7, z8] = 0 → z5 = 0 := fac_zero (by simp)
 have k0_6 : fac [z0, z1, z2, z3, z4, z5, z6, z7, z8] = 0 → z6 = 0 := fac_zero (by simp)
 have k0_7 : fac [z0, z1, z2, z3, z4, z5, z6, z7, z8] = 0 → z7 = 0 := fac_zero (by simp)
 have k0_8 : fac [z0, z1, z2, z3, z4, z5, z6, z7, z8] = 0 → z8 = 0 := fac_zero (by simp)
 generalize fac [z0, z1, z2, z3, z4, z5, z6, z7, z8] = g0 at *
 have k1_57 : fac [z57, z58, z59] = 0 → z57 = 0 := fac_zero (by simp)
 have k1_58 : fac [z57, z58, z59] = 0 → z58 = 0 := fac_zero (by simp)
 have k1_59 : fac [z57, z58, z59] = 0 → z59 = 0 := fac_zero (by simp)
 generalize fac [z57, z58, z59] = g1 at *
 have k2_91 : fac [z91, z97, z103] = 0 → z91 = 0 := fac_zero (by simp)
 have k2_97 : fac [z91, z97, z103] = 0 → z97 = 0 := fac_zero (by simp)
 have k2_103 : fac [z91, z97, z103] = 0 → z103 = 0 := fac_zero (by simp)
 generalize fac [z91, z97, z103] = g2 at *
 have nx1 := u2
 have iw1 : g1 ≠ 0 := fun hg => nx1 ⟨⟨(k1_57 hg), (k1_58 hg)⟩, (k1_59 hg)⟩
 obtain ⟨iv1, ih1⟩ : ∃ i, g1 * i = 1 := ⟨g1⁻¹, Rat.mul_inv_cancel _ iw1⟩
 rcases Classical.em (g0 = 0) with iw0 | iw0
 ·have ic0_0 := k0_0 iw0
  have ic0_1 := k0_1 iw0
  have ic0_2 := k0_2 iw0
  have ic0_3 := k0_3 iw0
  have ic0_4 := k0_4 iw0
  have ic0_5 := k0_5 iw0
  have ic0_6 := k0_6 iw0
  have ic0_7 := k0_7 iw0
  have ic0_8 := k0_8 iw0
  subst_vars; grind
 obtain ⟨iv0, ih0⟩ : ∃ i, g0 * i = 1 := ⟨g0⁻¹, Rat.mul_inv_cancel _ iw0⟩
 rcases Classical.em (g2 = 0) with iw2 | iw2
 ·have ic2_91 := k2_91 iw2
  have ic2_97 := k2_97 iw2
  have ic2_103 := k2_103 iw2
  subst_vars; grind
 obtain ⟨iv2, ih2⟩ : ∃ i, g2 * i = 1 := ⟨g2⁻¹, Rat.mul_inv_cancel _ iw2⟩
 clear k0_0 k0_1 k0_2 k0_3 k0_4 k0_5 k0_6 k0_7 k0_8 k1_57 k1_58 k1_59 k2_91 k2_97 k2_103
 subst_vars; grind
theorem projectApply_f3 {z0 z1 z2 z3 z4 z5 z6 z7 z8 z9 z10 z11 z12 z13 z14 z15 z16 z17 z18 z19 z20 z21 z22 z23 z24 z25 z26 z28 z57 z58 z59 z64 z65 z66 z67 z68 z69 z70 z71 z72 z73 z74 z75 z76 z77 z78 z79 z80 z81 z82 z83 z84 z85 z86 z87 z88 z89 z90 z91 z92 z93 z94 z95 z96 z97 z98 z99 z100 z101 z102 z103 z104 z105 z106 z108 z130 z131 z132 z133 z134 z135 z136 z137 z138 z139 z140 z141 z142 z143 z144 z145 z146 z147 z148 z149 : Rat} : z9 = z0 * fac [z0, z1, z2, z3, z4, z5, z6, z7, z8] → z10 = z1 * fac [z0, z1, z2, z3, z4, z5, z6, z7, z8] → z11 = z2 * fac [z0, z1, z2, z3, z4, z5, z6, z7, z8] → z12 = z3 * fac [z0, z1, z2, z3, z4, z5, z6, z7, z8] → z13 = z4 * fac [z0, z1, z2, z3, z4, z5, z6, z7, z8] → z14 = z5 * fac [z0, z1, z2, z3, z4, z5, z6, z7, z8] → z15 = z6 * fac [z0, z1, z2, z3, z4, z5, z6, z7, z8] → z16 = z7 * fac [z0, z1, z2, z3, z4, z5, z6, z7, z8] → z17 = z8 * fac [z0, z1, z2, z3, z4, z5, z6, z7, z8] → z18 = z13 * z17 → z19 = z14 * z16 → z20 = z18 - z19 → z21 = z14 * z15 → z22 = z12 * z17 → z23 = z21 - z22 → z24 = z12 * z16 → z25 = z13 * z15 → z26 = z24 - z25 → z28 = 0 → (z64 = 0 ↔ ((z57 = 0 ∧ z58 = 0) ∧ z59 = 0)) → z65 = z57 * fac [z57, z58, z59] → z66 = z58 * fac [z57, z58, z59] → z67 = z59 * fac [z57, z58, z59] → z68 = z16 * z11 → z69 = z17 * z10 → z70 = z68 - z69 → z71 = z17 * z9 → z72 = z15 * z11 → z73 = z71 - z72 → z74 = z15 * z10 → z75 = z16 * z9 → z76 = z74 - z75 → z77 = z10 * z14 → z78 = z11 * z13 → z79 = z77 - z78 → z80 = z11 * z12 → z81 = z9 * z14 → z82 = z80 - z81 → z83 = z9 * z13 → z84 = z10 * z12 → z85 = z83 - z84 → z86 = z20 * z65 → z87 = z28 + z86 → z88 = z23 * z66 → z89 = z87 + z88 → z90 = z26 * z67 → z91 = z89 + z90 → z92 = z70 * z65 → z93 = z28 + z92 → z94 = z73 * z66 → z95 = z93 + z94 → z96 = z76 * z67 → z97 = z95 + z96 → z98 = z79 * z65 → z99 = z28 + z98 → z100 = z82 * z66 → z101 = z99 + z100 → z102 = z85 * z67 → z103 = z101 + z102 → z104 = z91 * fac [z91, z97, z103] → z105 = z97 * fac [z91, z97, z103] → z106 = z103 * fac [z91, z97, z103] → z108 = -z59 → z130 = z0 * z108 → z131 = z1 * z28 → z132 = z2 * z57 → z133 = z130 + z131 → z134 = z133 + z132 → z135 = z3 * z108 → z136 = z4 * z28 → z137 = z5 * z57 → z138 = z135 + z136 → z139 = z138 + z137 → z140 = z6 * z108 → z141 = z7 * z28 → z142 = z8 * z57 → z143 = z140 + z141 → z144 = z143 + z142 → z145 = z104 * z134 → z146 = z105 * z139 → z147 = z106 * z144 → z148 = z145 + z146 → z149 = z148 + z147 → (¬ (z64 = 0)) → z149 = 0 := by
 intro e9 e10 e11 e12 e13 e14 e15 e16 e17 e18 e19 e20 e21 e22 e23 e24 e25 e26 e28 e64 e65 e66 e67 e68 e69 e70 e71 e72 e73 e74 e75 e76 e77 e78 e79 e80 e81 e82 e83 e84 e85 e86 e87 e88 e89 e90 e91 e92 e93 e94 e95 e96 e97 e98 e99 e100 e101 e102 e103 e104 e105 e106 e108 e130 e131 e132 e133 e134 e135 e136 e137 e138 e139 e140 e141 e142 e143 e144 e145 e146 e147 e148 e149 u2
 rw [e64] at u2
 clear  e64
 have k0_0 : fac [z0, z1, z2, z3, z4, z5, z6, z7, z8] = 0 → z0 = 0 := fac_zero (by simp)
 have k0_1 : fac [z0, z1, z2, z3, z4, z5, z6, z7, z8] = 0 → z1 = 0 := fac_zero (by simp)
 have k0_2 : fac [z0, z1, z2, z3, z4, z5, z6, z7, z8] = 0 → z2 = 0 := fac_zero (by simp)
 have k0_3 : fac [z0, z1, z2, z3, z4, z5, z6, z7, z8] = 0 → z3 = 0 := fac_zero (by simp)
 have k0_4 : fac [z0, z1, z2, z3, z4, z5, z6, z7, z8] = 0 → z4 = 0 := fac_zero (by simp)
 have k0_5 : fac [z0, z1, z2, z3, z4, z5, z6, z7, z8] = 0 → z5 = 0 := fac_zero (by simp)
 have k0_6 : fac [z0, z1, z2, z3, z4, z5, z6, z7, z8] = 0 → z6 = 0 := fac_zero (by simp)
 have k0_7 : fac [z0, z1, z2, z3, z4, z5, z6, z7, z8] = 0 → z7 = 0 := fac_zero (by simp)
 have k0_8 : fac [z0, z1, z2, z3, z4, z5, z6, z7, z8] = 0 → z8 = 0 := fac_zero (by simp)
 generalize fac [z0, z1, z2, z3, z4, z5, z6, z7, z8] = g0 at *
 have k1_57 : fac [z57, z58, z59] = 0 → z57 = 0 := fac_zero (by simp)
 have k1_58 : fac [z57, z58, z59] = 0 → z58 = 0 := fac_zero (by simp)
 have k1_59 : fac [z57, z58, z59] = 0 → z59 = 0 := fac_zero (by simp)
 generalize fac [z57, z58, z59] = g1 at *
 have k2_91 : fac [z91, z97, z103] = 0 → z91 = 0 := fac_zero (by simp)
 have k2_97 : fac [z91, z97, z103] = 0 → z97 = 0 := fac_zero (by simp)
 have k2_103 : fac [z91, z97, z103] = 0 → z103 = 0 := fac_zero (by simp)
 generalize fac [z91, z97, z103] = g2 at *
 have nx1 := u2
 have iw1 : g1 ≠ 0 := fun hg => nx1 ⟨⟨(k1_57 hg), (k1_58 hg)⟩, (k1_59 hg)⟩
 obtain ⟨iv1, ih1⟩ : ∃ i, g1 * i = 1 := ⟨g1⁻¹, Rat.mul_inv_cancel _ iw1⟩
 rcases Classical.em (g0 = 0) with iw0 | iw0
 ·have ic0_0 := k0_0 iw0
  have ic0_1 := k0_1 iw0
  have ic0_2 := k0_2 iw0
  have ic0_3 := k0_3 iw0
  have ic0_4 := k0_4 iw0
  have ic0_5 := k0_5 iw0
  have ic0_6 := k0_6 iw0
  have ic0_7 := k0_7 iw0
  have ic0_8 := k0_8 iw0
  subst_vars; grind
 obtain ⟨iv0, ih0⟩ : ∃ i, g0 * i = 1 := ⟨g0⁻¹, Rat.mul_inv_cancel _ iw0⟩
 rcases Classical.em (g2 = 0) with iw2 | iw2
 ·have ic2_91 := k2_91 iw2
  have ic2_97 := k2_97 iw2
  have ic2_103 := k2_103 iw2
  subst_vars; grind
 obtain ⟨iv2, ih2⟩ : ∃ i, g2 * i = 1 := ⟨g2⁻¹, Rat.mul_inv_cancel _ iw2⟩
 clear k0_0 k0_1 k0_2 k0_3 k0_4 k0_5 k0_6 k0_7 k0_8 k1_57 k1_58 k1_59 k2_91 k2_97 k2_103
 subst_vars; grind
theorem projectApply_f4 {z0 z1 z2 z3 z4 z5 z6 z7 z8 z9 z10 z11 z12 z13 z14 z15 z16 z17 z18 z19 z20 z21 z22 z23 z24 z25 z26 z28 z57 z58 z59 z64 z65 z66 z67 z68 z69 z70 z71 z72 z73 z74 z75 z76 z77 z78 z79 z80 z81 z82 z83 z84 z85 z86 z87 z88 z89 z90 z91 z92 z93 z94 z95 z96 z97 z98 z99 z100 z101 z102 z103 z104 z105 z106 z109 z150 z151 z152 z153 z154 z155 z156 z157 z158 z159 z160 z161 z162 z163 z164 z165 z166 z167 z168 z169 : Rat} : z9 = z0 * fac [z0, z1, z2, z3, z4, z5, z6, z7, z8] → z10 = z1 * fac [z0, z1, z2, z3, z4, z5, z6, z7, z8] → z11 = z2 * fac [z0, z1, z2, z3, z4, z5, z6, z7, z8] → z12 = z3 * fac [z0, z1, z2, z3, z4, z5, z6, z7, z8] → z13 = z4 * fac [z0, z1, z2, z3, z4, z5, z6, z7, z8] → z14 = z5 * fac [z0, z1, z2, z3, z4, z5, z6, z7, z8] → z15 = z6 * fac [z0, z1, z2, z3, z4, z5, z6, z7, z8] → z16 = z7 * fac [z0, z1, z2, z3, z4, z5, z6, z7, z8] → z17 = z8 * fac [z0, z1, z2, z3, z4, z5, z6, z7, z8] → z18 = z13 * z17 → z19 = z14 * z16 → z20 = z18 - z19 → z21 = z14 * z15 → z22 = z12 * z17 → z23 = z21 - z22 → z24 = z12 * z16 → z25 = z13 * z15 → z26 = z24 - z25 → z28 = 0 → (z64 = 0 ↔ ((z57 = 0 ∧ z58 = 0) ∧ z59 = 0)) → z65 = z57 * fac [z57, z58, z59] → z66 = z58 * fac [z57, z58, z59] → z67 = z59 * fac [z57, z58, z59] → z68 = z16 * z11 → z69 = z17 * z10 → z70 = z68 - z69 → z71 = z17 * z9 → z72 = z15 * z11 → z73 = z71 - z72 → z74 = z15 * z10 → z75 = z16 * z9 → z76 = z74 - z75 → z77 = z10 * z14 → z78 = z11 * z13 → z79 = z77 - z78 → z80 = z11 * z12 → z81 = z9 * z14 → z82 = z80 - z81 → z83 = z9 * z13 → z84 = z10 * z12 → z85 = z83 - z84 → z86 = z20 * z65 → z87 = z28 + z86 → z88 = z23 * z66 → z89 = z87 + z88 → z90 = z26 * z67 → z91 = z89 + z90 → z92 = z70 * z65 → z93 = z28 + z92 → z94 = z73 * z66 → z95 = z93 + z94 → z96 = z76 * z67 → z97 = z95 + z96 → z98 = z79 * z65 → z99 = z28 + z98 → z100 = z82 * z66 → z101 = z99 + z100 → z102 = z85 * z67 → z103 = z101 + z102 → z104 = z91 * fac [z91, z97, z103] → z105 = z97 * fac [z91, z97, z103] → z106 = z103 * fac [z91, z97, z103] → z109 = -z57 → z150 = z0 * z58 → z151 = z1 * z109 → z152 = z2 * z28 → z153 = z150 + z151 → z154 = z153 + z152 → z155 = z3 * z58 → z156 = z4 * z109 → z157 = z5 * z28 → z158 = z155 + z156 → z159 = z158 + z157 → z160 = z6 * z58 → z161 = z7 * z109 → z162 = z8 * z28 → z163 = z160 + z161 → z164 = z163 + z162 → z165 = z104 * z154 → z166 = z105 * z159 → z167 = z106 * z164 → z168 = z165 + z166 → z169 = z168 + z167 → (¬ (z64 = 0)) → z169 = 0 := by
 intro e9 e10 e11 e12 e13 e14 e15 e16 e17 e18 e19 e20 e21 e22 e23 e24 e25 e26 e28 e64 e65 e66 e67 e68 e69 e70 e71 e72 e73 e74 e75 e76 e77 e78 e79 e80 e81 e82 e83 e84 e85 e86 e87 e88 e89 e90 e91 e92 e93 e94 e95 e96 e97 e98 e99 e100 e101 e102 e103 e104 e105 e106 e109 e150 e151 e152 e153 e154 e155 e156 e157 e158 e159 e160 e161 e162 e163 e164 e165 e166 e167 e168 e169 u2
 rw [e64] at u2
 clear  e64
 have k0_0 : fac [z0, z1, z2, z3, z4, z5, z6, z7, z8] = 0 → z0 = 0 := fac_zero (by simp)
 have k0_1 : fac [z0, z1, z2, z3, z4, z5, z6, z7, z8] = 0 → z1 = 0 := fac_zero (by simp)
 have k0_2 : fac [z0, z1, z2, z3, z4, z5, z6, z7, z8] = 0 → z2 = 0 := fac_zero (by simp)
 have k0_3 : fac [z0, z1, z2, z3, z4, z5, z6, z7, z8] = 0 → z3 = 0 := fac_zero (by simp)
 have k0_4 : fac [z0, z1, z2, z3, z4, z5, z6, z7, z8] = 0 → z4 = 0 := fac_zero (by simp)
 have k0_5 : fac [z0, z1, z2, z3, z4, z5, z6, z7, z8] = 0 → z5 = 0 := fac_zero (by simp)
 have k0_6 : fac [z0, z1, z2, z3, z4, z5, z6, z7, z8] = 0 → z6 = 0 := fac_zero (by simp)
 have k0_7 : fac [z0, z1, z2, z3, z4, z5, z6, z7, z8] = 0 → z7 = 0 := fac_zero (by simp)
 have k0_8 : fac [z0, z1, z2, z3, z4, z5, z6, z7, z8] = 0 → z8 = 0 := fac_zero (by simp)
 generalize fac [z0, z1, z2, z3, z4, z5, z6, z7, z8] = g0 at *
 have k1_57 : fac [z57, z58, z59] = 0 → z57 = 0 := fac_zero (by simp)
 have k1_58 : fac [z57, z58, z59] = 0 → z58 = 0 := fac_zero (by simp)
 have k1_59 : fac [z57, z58, z59] = 0 → z59 = 0 := fac_zero (by simp)
 generalize fac [z57, z58, z59] = g1 at *
 have k2_91 : fac [z91, z97, z103] = 0 → z91 = 0 := fac_zero (by simp)
 have k2_97 : fac [z91, z97, z103] = 0 → z97 = 0 := fac_zero (by simp)
 have k2_103 : fac [z91, z97, z103] = 0 → z103 = 0 := fac_zero (by simp)
 generalize fac [z91, z97, z103] = g2 at *
 have nx1 := u2
 have iw1 : g1 ≠ 0 := fun hg => nx1 ⟨⟨(k1_57 hg), (k1_58 hg)⟩, (k1_59 hg)⟩
 obtain ⟨iv1, ih1⟩ : ∃ i, g1 * i = 1 := ⟨g1⁻¹, Rat.mul_inv_cancel _ iw1⟩
 rcases Classical.em (g0 = 0) with iw0 | iw0
 ·have ic0_0 := k0_0 iw0
  have ic0_1 := k0_1 iw0
  have ic0_2 := k0_2 iw0
  have ic0_3 := k0_3 iw0
  have ic0_4 := k0_4 iw0
  have ic0_5 := k0_5 iw0
  have ic0_6 := k0_6 iw0
  have ic0_7 := k0_7 iw0
  have ic0_8 := k0_8 iw0
  subst_vars; grind
 obtain ⟨iv0, ih0⟩ : ∃ i, g0 * i = 1 := ⟨g0⁻¹, Rat.mul_inv_cancel _ iw0⟩
 rcases Classical.em (g2 = 0) with iw2 | iw2
 ·have ic2_91 := k2_91 iw2
  have ic2_97 := k2_97 iw2
  have ic2_103 := k2_103 iw2
  subst_vars; grind
 obtain ⟨iv2, ih2⟩ : ∃ i, g2 * i = 1 := ⟨g2⁻¹, Rat.mul_inv_cancel _ iw2⟩
 clear k0_0 k0_1 k0_2 k0_3 k0_4 k0_5 k0_6 k0_7 k0_8 k1_57 k1_58 k1_59 k2_91 k2_97 k2_103
 subst_vars; grind
theorem projectApply_f5 {z0 z1 z2 z3 z4 z5 z6 z7 z8 z9 z10 z11 z12 z13 z14 z15 z16 z17 z18 z19 z20 z21 z22 z23 z24 z25 z26 z27 z28 z29 z30 z31 z32 z33 z57 z58 z59 z64 z65 z66 z67 z68 z69 z70 z71 z72 z73 z74 z75 z76 z77 z78 z79 z80 z81 z82 z83 z84 z85 z86 z87 z88 z89 z90 z91 z92 z93 z94 z95 z96 z97 z98 z99 z100 z101 z102 z103 z174 : Rat} : z9 = z0 * fac [z0, z1, z2, z3, z4, z5, z6, z7, z8] → z10 = z1 * fac [z0, z1, z2, z3, z4, z5, z6, z7, z8] → z11 = z2 * fac [z0, z1, z2, z3, z4, z5, z6, z7, z8] → z12 = z3 * fac [z0, z1, z2, z3, z4, z5, z6, z7, z8] → z13 = z4 * fac [z0, z1, z2, z3, z4, z5, z6, z7, z8] → z14 = z5 * fac [z0, z1, z2, z3, z4, z5, z6, z7, z8] → z15 = z6 * fac [z0, z1, z2, z3, z4, z5, z6, z7, z8] → z16 = z7 * fac [z0, z1, z2, z3, z4, z5, z6, z7, z8] → z17 = z8 * fac [z0, z1, z2, z3, z4, z5, z6, z7, z8] → z18 = z13 * z17 → z19 = z14 * z16 → z20 = z18 - z19 → z21 = z14 * z15 → z22 = z12 * z17 → z23 = z21 - z22 → z24 = z12 * z16 → z25 = z13 * z15 → z26 = z24 - z25 → z27 = z9 * z20 → z28 = 0 → z29 = z28 + z27 → z30 = z10 * z23 → z31 = z29 + z30 → z32 = z11 * z26 → z33 = z31 + z32 → (z64 = 0 ↔ ((z57 = 0 ∧ z58 = 0) ∧ z59 = 0)) → z65 = z57 * fac [z57, z58, z59] → z66 = z58 * fac [z57, z58, z59] → z67 = z59 * fac [z57, z58, z59] → z68 = z16 * z11 → z69 = z17 * z10 → z70 = z68 - z69 → z71 = z17 * z9 → z72 = z15 * z11 → z73 = z71 - z72 → z74 = z15 * z10 → z75 = z16 * z9 → z76 = z74 - z75 → z77 = z10 * z14 → z78 = z11 * z13 → z79 = z77 - z78 → z80 = z11 * z12 → z81 = z9 * z14 → z82 = z80 - z81 → z83 = z9 * z13 → z84 = z10 * z12 → z85 = z83 - z84 → z86 = z20 * z65 → z87 = z28 + z86 → z88 = z23 * z66 → z89 = z87 + z88 → z90 = z26 * z67 → z91 = z89 + z90 → z92 = z70 * z65 → z93 = z28 + z92 → z94 = z73 * z66 → z95 = z93 + z94 → z96 = z76 * z67 → z97 = z95 + z96 → z98 = z79 * z65 → z99 = z28 + z98 → z100 = z82 * z66 → z101 = z99 + z100 → z102 = z85 * z67 → z103 = z101 + z102 → (z174 = 0 ↔ ((z91 = 0 ∧ z97 = 0) ∧ z103 = 0)) → (¬ (z33 = 0)) → (¬ (z64 = 0)) → ¬ (z174 = 0) := by
 intro e9 e10 e11 e12 e13 e14 e15 e16 e17 e18 e19 e20 e21 e22 e23 e24 e25 e26 e27 e28 e29 e30 e31 e32 e33 e64 e65 e66 e67 e68 e69 e70 e71 e72 e73 e74 e75 e76 e77 e78 e79 e80 e81 e82 e83 e84 e85 e86 e87 e88 e89 e90 e91 e92 e93 e94 e95 e96 e97 e98 e99 e100 e101 e102 e103 e174 u0 u2
 rw [e64] at u2
 rw [e174]
 clear  e64 e174
 have k0_0 : fac [z0, z1, z2, z3, z4, z5, z6, z7, z8] = 0 → z0 = 0 := fac_zero (by simp)
 have k0_1 : fac [z0, z1, z2, z3, z4, z5, z6, z7, z8] = 0 → z1 = 0 := fac_zero (by simp)
 have k0_2 : fac [z0, z1, z2, z3, z4, z5, z6, z7, z8] = 0 → z2 = 0 := fac_zero (by simp)
 have k0_3 : fac [z0, z1, z2, z3, z4, z5, z6, z7, z8] = 0 → z3 = 0 := fac_zero (by simp)
 have k0_4 : fac [z0, z1, z2, z3, z4, z5, z6, z7, z8] = 0 → z4 = 0 := fac_zero (by simp)
 have k0_5 : fac [z0, z1, z2, z3, z4, z5, z6, z7, z8] = 0 → z5 = 0 := fac_zero (by simp)
 have k0_6 : fac [z0, z1, z2, z3, z4, z5, z6, z7, z8] = 0 → z6 = 0 := fac_zero (by simp)
 have k0_7 : fac [z0, z1, z2, z3, z4, z5, z6, z7, z8] = 0 → z7 = 0 := fac_zero (by simp)
 have k0_8 : fac [z0, z1, z2, z3, z4, z5, z6, z7, z8] = 0 → z8 = 0 := fac_zero (by simp)
 generalize fac [z0, z1, z2, z3, z4, z5, z6, z7, z8] = g0 at *
 have k1_57 : fac [z57, z58, z59] = 0 → z57 = 0 := fac_zero (by simp)
 have k1_58 : fac [z57, z58, z59] = 0 → z58 = 0 := fac_zero (by simp)
 have k1_59 : fac [z57, z58, z59] = 0 → z59 = 0 := fac_zero (by simp)
 generalize fac [z57, z58, z59] = g1 at *
 have nx0 : ¬ ((((((((z0 = 0 ∧ z1 = 0) ∧ z2 = 0) ∧ z3 = 0) ∧ z4 = 0) ∧ z5 = 0) ∧ z6 = 0) ∧ z7 = 0) ∧ z8 = 0) := by
  rintro ⟨⟨⟨⟨⟨⟨⟨⟨hx0, hx1⟩, hx2⟩, hx3⟩, hx4⟩, hx5⟩, hx6⟩, hx7⟩, hx8⟩
  first | grind | (subst_vars; grind)
 have iw0 : g0 ≠ 0 := fun hg => nx0 ⟨⟨⟨⟨⟨⟨⟨⟨(k0_0 hg), (k0_1 hg)⟩, (k0_2 hg)⟩, (k0_3 hg)⟩, (k0_4 hg)⟩, (k0_5 hg)⟩, (k0_6 hg)⟩, (k0_7 hg)⟩, (k0_8 hg)⟩
 obtain ⟨iv0, ih0⟩ : ∃ i, g0 * i = 1 := ⟨g0⁻¹, Rat.mul_inv_cancel _ iw0⟩
 have nx1 := u2
 have iw1 : g1 ≠ 0 := fun hg => nx1 ⟨⟨(k1_57 hg), (k1_58 hg)⟩, (k1_59 hg)⟩
 obtain ⟨iv1, ih1⟩ : ∃ i, g1 * i = 1 := ⟨g1⁻¹, Rat.mul_inv_cancel _ iw1⟩
 clear k0_0 k0_1 k0_2 k0_3 k0_4 k0_5 k0_6 k0_7 k0_8 k1_57 k1_58 k1_59
 rintro ⟨⟨ub91, ub97⟩, ub103⟩
 subst_vars; grind
theorem projectApply_f6 {z0 z1 z2 z3 z4 z5 z6 z7 z8 z9 z10 z11 z12 z13 z14 z15 z16 z17 z18 z19 z20 z21 z22 z23 z24 z25 z26 z27 z28 z29 z30 z31 z32 z33 z57 z58 z59 z64 z65 z66 z67 z68 z69 z70 z71 z72 z73 z74 z75 z76 z77 z78 z79 z80 z81 z82 z83 z84 z85 z86 z87 z88 z89 z90 z91 z92 z93 z94 z95 z96 z97 z98 z99 z100 z101 z102 z103 z104 z105 z106 z179 : Rat} : z9 = z0 * fac [z0, z1, z2, z3, z4, z5, z6, z7, z8] → z10 = z1 * fac [z0, z1, z2, z3, z4, z5, z6, z7, z8] → z11 = z2 * fac [z0, z1, z2, z3, z4, z5, z6, z7, z8] → z12 = z3 * fac [z0, z1, z2, z3, z4, z5, z6, z7, z8] → z13 = z4 * fac [z0, z1, z2, z3, z4, z5, z6, z7, z8] → z14 = z5 * fac [z0, z1, z2, z3, z4, z5, z6, z7, z8] → z15 = z6 * fac [z0, z1, z2, z3, z4, z5, z6, z7, z8] → z16 = z7 * fac [z0, z1, z2, z3, z4, z5, z6, z7, z8] → z17 = z8 * fac [z0, z1, z2, z3, z4, z5, z6, z7, z8] → z18 = z13 * z17 → z19 = z14 * z16 → z20 = z18 - z19 → z21 = z14 * z15 → z22 = z12 * z17 → z23 = z21 - z22 → z24 = z12 * z16 → z25 = z13 * z15 → z26 = z24 - z25 → z27 = z9 * z20 → z28 = 0 → z29 = z28 + z27 → z30 = z10 * z23 → z31 = z29 + z30 → z32 = z11 * z26 → z33 = z31 + z32 → (z64 = 0 ↔ ((z57 = 0 ∧ z58 = 0) ∧ z59 = 0)) → z65 = z57 * fac [z57, z58, z59] → z66 = z58 * fac [z57, z58, z59] → z67 = z59 * fac [z57, z58, z59] → z68 = z16 * z11 → z69 = z17 * z10 → z70 = z68 - z69 → z71 = z17 * z9 → z72 = z15 * z11 → z73 = z71 - z72 → z74 = z15 * z10 → z75 = z16 * z9 → z76 = z74 - z75 → z77 = z10 * z14 → z78 = z11 * z13 → z79 = z77 - z78 → z80 = z11 * z12 → z81 = z9 * z14 → z82 = z80 - z81 → z83 = z9 * z13 → z84 = z10 * z12 → z85 = z83 - z84 → z86 = z20 * z65 → z87 = z28 + z86 → z88 = z23 * z66 → z89 = z87 + z88 → z90 = z26 * z67 → z91 = z89 + z90 → z92 = z70 * z65 → z93 = z28 + z92 → z94 = z73 * z66 → z95 = z93 + z94 → z96 = z76 * z67 → z97 = z95 + z96 → z98 = z79 * z65 → z99 = z28 + z98 → z100 = z82 * z66 → z101 = z99 + z100 → z102 = z85 * z67 → z103 = z101 + z102 → z104 = z91 * fac [z91, z97, z103] → z105 = z97 * fac [z91, z97, z103] → z106 = z103 * fac [z91, z97, z103] → (z179 = 0 ↔ ((z104 = 0 ∧ z105 = 0) ∧ z106 = 0)) → (¬ (z33 = 0)) → (¬ (z64 = 0)) → ¬ (z179 = 0) := by
 intro e9 e10 e11 e12 e13 e14 e15 e16 e17 e18 e19 e20 e21 e22 e23 e24 e25 e26 e27 e28 e29 e30 e31 e32 e33 e64 e65 e66 e67 e68 e69 e70 e71 e72 e73 e74 e75 e76 e77 e78 e79 e80 e81 e82 e83 e84 e85 e86 e87 e88 e89 e90 e91 e92 e93 e94 e95 e96 e97 e98 e99 e100 e101 e102 e103 e104 e105 e106 e179 u0 u2
 rw [e64] at u2
 rw [e179]
 clear  e64 e179
 have k0_0 : fac [z0, z1, z2, z3, z4, z5, z6, z7, z8] = 0 → z0 = 0 := fac_zero (by simp)
 have k0_1 : fac [z0, z1, z2, z3, z4, z5, z6, z7, z8] = 0 → z1 = 0 := fac_zero (by simp)
 have k0_2 : fac [z0, z1, z2, z3, z4, z5, z6, z7, z8] = 0 → z2 = 0 := fac_zero (by simp)
 have k0_3 : fac [z0, z1, z2, z3, z4, z5, z6, z7, z8] = 0 → z3 = 0 := fac_zero (by simp)
 have k0_4 : fac [z0, z1, z2, z3, z4, z5, z6, z7, z8] = 0 → z4 = 0 := fac_zero (by simp)
 have k0_5 : fac [z0, z1, z2, z3, z4, z5, z6, z7, z8] = 0 → z5 = 0 := fac_zero (by simp)
 have k0_6 : fac [z0, z1, z2, z3, z4, z5, z6, z7, z8] = 0 → z6 = 0 := fac_zero (by simp)
 have k0_7 : fac [z0, z1, z2, z3, z4, z5, z6, z7, z8] = 0 → z7 = 0 := fac_zero (by simp)
 have k0_8 : fac [z0, z1, z2, z3, z4, z5, z6, z7, z8] = 0 → z8 = 0 := fac_zero (by simp)
 generalize fac [z0, z1, z2, z3, z4, z5, z6, z7, z8] = g0 at *
 have k1_57 : fac [z57, z58, z59] = 0 → z57 = 0 := fac_zero (by simp)
 have k1_58 : fac [z57, z58, z59] = 0 → z58 = 0 := fac_zero (by simp)
 have k1_59 : fac [z57, z58, z59] = 0 → z59 = 0 := fac_zero (by simp)
 generalize fac [z57, z58, z59] = g1 at *
 have k2_91 : fac [z91, z97, z103] = 0 → z91 = 0 := fac_zero (by simp)
 have k2_97 : fac [z91, z97, z103] = 0 → z97 = 0 := fac_zero (by simp)
 have k2_103 : fac [z91, z97, z103] = 0 → z103 = 0 := fac_zero (by simp)
 generalize fac [z91, z97, z103] = g2 at *
 have nx0 : ¬ ((((((((z0 = 0 ∧ z1 = 0) ∧ z2 = 0) ∧ z3 = 0) ∧ z4 = 0) ∧ z5 = 0) ∧ z6 = 0) ∧ z7 = 0) ∧ z8 = 0) := by
  rintro ⟨⟨⟨⟨⟨⟨⟨⟨hx0, hx1⟩, hx2⟩, hx3⟩, hx4⟩, hx5⟩, hx6⟩, hx7⟩, hx8⟩
  first | grind | (subst_vars; grind)
 have iw0 : g0 ≠ 0 := fun hg => nx0 ⟨⟨⟨⟨⟨⟨⟨⟨(k0_0 hg), (k0_1 hg)⟩, (k0_2 hg)⟩, (k0_3 hg)⟩, (k0_4 hg)⟩, (k0_5 hg)⟩, (k0_6 hg)⟩, (k0_7 hg)⟩, (k0_8 hg)⟩
 obtain ⟨iv0, ih0⟩ : ∃ i, g0 * i = 1 := ⟨g0⁻¹, Rat.mul_inv_cancel _ iw0⟩
 have nx1 := u2
 have iw1 : g1 ≠ 0 := fun hg => nx1 ⟨⟨(k1_57 hg), (k1_58 hg)⟩, (k1_59 hg)⟩
 obtain ⟨iv1, ih1⟩ : ∃ i, g1 * i = 1 := ⟨g1⁻¹, Rat.mul_inv_cancel _ iw1⟩
 have nx2 : ¬ ((z91 = 0 ∧ z97 = 0) ∧ z103 = 0) := by
  rintro ⟨⟨hx91, hx97⟩, hx103⟩
  first | grind | (subst_vars; grind)
 have iw2 : g2 ≠ 0 := fun hg => nx2 ⟨⟨(k2_91 hg), (k2_97 hg)⟩, (k2_103 hg)⟩
 obtain ⟨iv2, ih2⟩ : ∃ i, g2 * i = 1 := ⟨g2⁻¹, Rat.mul_inv_cancel _ iw2⟩
 clear k0_0 k0_1 k0_2 k0_3 k0_4 k0_5 k0_6 k0_7 k0_8 k1_57 k1_58 k1_59 k2_91 k2_97 k2_103
 exact trip_fac nx2 iw2 e104 e105 e106
theorem projectApply_f7 {z0 z1 z2 z3 z4 z5 z6 z7 z8 z9 z10 z11 z12 z13 z14 z15 z16 z17 z18 z19 z20 z21 z22 z23 z24 z25 z26 z27 z28 z29 z30 z31 z32 z33 z49 z50 z51 z56 z180 z181 z182 z183 z184 z185 z186 z187 z188 z189 z190 z191 z192 z193 z194 z195 z196 z197 z198 z199 z200 z208 : Rat} : z9 = z0 * fac [z0, z1, z2, z3, z4, z5, z6, z7, z8] → z10 = z1 * fac [z0, z1, z2, z3, z4, z5, z6, z7, z8] → z11 = z2 * fac [z0, z1, z2, z3, z4, z5, z6, z7, z8] → z12 = z3 * fac [z0, z1, z2, z3, z4, z5, z6, z7, z8] → z13 = z4 * fac [z0, z1, z2, z3, z4, z5, z6, z7, z8] → z14 = z5 * fac [z0, z1, z2, z3, z4, z5, z6, z7, z8] → z15 = z6 * fac [z0, z1, z2, z3, z4, z5, z6, z7, z8] → z16 = z7 * fac [z0, z1, z2, z3, z4, z5, z6, z7, z8] → z17 = z8 * fac [z0, z1, z2, z3, z4, z5, z6, z7, z8] → z18 = z13 * z17 → z19 = z14 * z16 → z20 = z18 - z19 → z21 = z14 * z15 → z22 = z12 * z17 → z23 = z21 - z22 → z24 = z12 * z16 → z25 = z13 * z15 → z26 = z24 - z25 → z27 = z9 * z20 → z28 = 0 → z29 = z28 + z27 → z30 = z10 * z23 → z31 = z29 + z30 → z32 = z11 * z26 → z33 = z31 + z32 → (z56 = 0 ↔ ((z49 = 0 ∧ z50 = 0) ∧ z51 = 0)) → z180 = z49 * fac [z49, z50, z51] → z181 = z50 * fac [z49, z50, z51] → z182 = z51 * fac [z49, z50, z51] → z183 = z9 * z180 → z184 = z28 + z183 → z185 = z10 * z181 → z186 = z184 + z185 → z187 = z11 * z182 → z188 = z186 + z187 → z189 = z12 * z180 → z190 = z28 + z189 → z191 = z13 * z181 → z192 = z190 + z191 → z193 = z14 * z182 → z194 = z192 + z193 → z195 = z15 * z180 → z196 = z28 + z195 → z197 = z16 * z181 → z198 = z196 + z197 → z199 = z17 * z182 → z200 = z198 + z199 → (z208 = 0 ↔ ((z188 = 0 ∧ z194 = 0) ∧ z200 = 0)) → (¬ (z33 = 0)) → (¬ (z56 = 0)) → ¬ (z208 = 0) := by
 intro e9 e10 e11 e12 e13 e14 e15 e16 e17 e18 e19 e20 e21 e22 e23 e24 e25 e26 e27 e28 e29 e30 e31 e32 e33 e56 e180 e181 e182 e183 e184 e185 e186 e187 e188 e189 e190 e191 e192 e193 e194 e195 e196 e197 e198 e199 e200 e208 u0 u1
 rw [e56] at u1
 rw [e208]
 clear  e56 e208
 have k0_0 : fac [z0, z1, z2, z3, z4, z5, z6, z7, z8] = 0 → z0 = 0 := fac_zero (by simp)
 have k0_1 : fac [z0, z1, z2, z3, z4, z5, z6, z7, z8] = 0 → z1 = 0 := fac_zero (by simp)
 have k0_2 : fac [z0, z1, z2, z3, z4, z5, z6, z7, z8] = 0 → z2 = 0 := fac_zero (by simp)
 have k0_3 : fac [z0, z1, z2, z3, z4, z5, z6, z7, z8] = 0 → z3 = 0 := fac_zero (by simp)
 have k0_4 : fac [z0, z1, z2, z3, z4, z5, z6, z7, z8] = 0 → z4 = 0 := fac_zero (by simp)
 have k0_5 : fac [z0, z1, z2, z3, z4, z5, z6, z7, z8] = 0 → z5 = 0 := fac_zero (by simp)
 have k0_6 : fac [z0, z1, z2, z3, z4, z5, z6, z7, z8] = 0 → z6 = 0 := fac_zero (by simp)
 have k0_7 : fac [z0, z1, z2, z3, z4, z5, z6, z7, z8] = 0 → z7 = 0 := fac_zero (by simp)
 have k0_8 : fac [z0, z1, z2, z3, z4, z5, z6, z7, z8] = 0 → z8 = 0 := fac_zero (by simp)
 generalize fac [z0, z1, z2, z3, z4, z5, z6, z7, z8] = g0 at *
 have k1_49 : fac [z49, z50, z51] = 0 → z49 = 0 := fac_zero (by simp)
 have k1_50 : fac [z49, z50, z51] = 0 → z50 = 0 := fac_zero (by simp)
 have k1_51 : fac [z49, z50, z51] = 0 → z51 = 0 := fac_zero (by simp)
 generalize fac [z49, z50, z51] = g1 at *
 have nx0 : ¬ ((((((((z0 = 0 ∧ z1 = 0) ∧ z2 = 0) ∧ z3 = 0) ∧ z4 = 0) ∧ z5 = 0) ∧ z6 = 0) ∧ z7 = 0) ∧ z8 = 0) := by
  rintro ⟨⟨⟨⟨⟨⟨⟨⟨hx0, hx1⟩, hx2⟩, hx3⟩, hx4⟩, hx5⟩, hx6⟩, hx7⟩, hx8⟩
  first | grind | (subst_vars; grind)
 have iw0 : g0 ≠ 0 := fun hg => nx0 ⟨⟨⟨⟨⟨⟨⟨⟨(k0_0 hg), (k0_1 hg)⟩, (k0_2 hg)⟩, (k0_3 hg)⟩, (k0_4 hg)⟩, (k0_5 hg)⟩, (k0_6 hg)⟩, (k0_7 hg)⟩, (k0_8 hg)⟩
 obtain ⟨iv0, ih0⟩ : ∃ i, g0 * i = 1 := ⟨g0⁻¹, Rat.mul_inv_cancel _ iw0⟩
 have nx1 := u1
 have iw1 : g1 ≠ 0 := fun hg => nx1 ⟨⟨(k1_49 hg), (k1_50 hg)⟩, (k1_51 hg)⟩
 obtain ⟨iv1, ih1⟩ : ∃ i, g1 * i = 1 := ⟨g1⁻¹, Rat.mul_inv_cancel _ iw1⟩
 clear k0_0 k0_1 k0_2 k0_3 k0_4 k0_5 k0_6 k0_7 k0_8 k1_49 k1_50 k1_51
 rintro ⟨⟨ub188, ub194⟩, ub200⟩
 subst_vars; grind
theorem projectApply_f8 {z0 z1 z2 z3 z4 z5 z6 z7 z8 z9 z10 z11 z12 z13 z14 z15 z16 z17 z18 z19 z20 z21 z22 z23 z24 z25 z26 z27 z28 z29 z30 z31 z32 z33 z49 z50 z51 z56 z180 z181 z182 z183 z184 z185 z186 z187 z188 z189 z190 z191 z192 z193 z194 z195 z196 z197 z198 z199 z200 z201 z202 z203 z213 : Rat} : z9 = z0 * fac [z0, z1, z2, z3, z4, z5, z6, z7, z8] → z10 = z1 * fac [z0, z1, z2, z3, z4, z5, z6, z7, z8] → z11 = z2 * fac [z0, z1, z2, z3, z4, z5, z6, z7, z8] → z12 = z3 * fac [z0, z1, z2, z3, z4, z5, z6, z7, z8] → z13 = z4 * fac [z0, z1, z2, z3, z4, z5, z6, z7, z8] → z14 = z5 * fac [z0, z1, z2, z3, z4, z5, z6, z7, z8] → z15 = z6 * fac [z0, z1, z2, z3, z4, z5, z6, z7, z8] → z16 = z7 * fac [z0, z1, z2, z3, z4, z5, z6, z7, z8] → z17 = z8 * fac [z0, z1, z2, z3, z4, z5, z6, z7, z8] → z18 = z13 * z17 → z19 = z14 * z16 → z20 = z18 - z19 → z21 = z14 * z15 → z22 = z12 * z17 → z23 = z21 - z22 → z24 = z12 * z16 → z25 = z13 * z15 → z26 = z24 - z25 → z27 = z9 * z20 → z28 = 0 → z29 = z28 + z27 → z30 = z10 * z23 → z31 = z29 + z30 → z32 = z11 * z26 → z33 = z31 + z32 → (z56 = 0 ↔ ((z49 = 0 ∧ z50 = 0) ∧ z51 = 0)) → z180 = z49 * fac [z49, z50, z51] → z181 = z50 * fac [z49, z50, z51] → z182 = z51 * fac [z49, z50, z51] → z183 = z9 * z180 → z184 = z28 + z183 → z185 = z10 * z181 → z186 = z184 + z185 → z187 = z11 * z182 → z188 = z186 + z187 → z189 = z12 * z180 → z190 = z28 + z189 → z191 = z13 * z181 → z192 = z190 + z191 → z193 = z14 * z182 → z194 = z192 + z193 → z195 = z15 * z180 → z196 = z28 + z195 → z197 = z16 * z181 → z198 = z196 + z197 → z199 = z17 * z182 → z200 = z198 + z199 → z201 = z188 * fac [z188, z194, z200] → z202 = z194 * fac [z188, z194, z200] → z203 = z200 * fac [z188, z194, z200] → (z213 = 0 ↔ ((z201 = 0 ∧ z202 = 0) ∧ z203 = 0)) → (¬ (z33 = 0)) → (¬ (z56 = 0)) → ¬ (z213 = 0) := by
 intro e9 e10 e11 e12 e13 e14 e15 e16 e17 e18 e19 e20 e21 e22 e23 e24 e25 e26 e27 e28 e29 e30 e31 e32 e33 e56 e180 e181 e182 e183 e184 e185 e186 e187 e188 e189 e190 e191 e192 e193 e194 e195 e196 e197 e198 e199 e200 e201 e202 e203 e213 u0 u1
 rw [e56] at u1
 rw [e213]
 clear  e56 e213
 have k0_0 : fac [z0, z1, z2, z3, z4, z5, z6, z7, z8] = 0 → z0 = 0 := fac_zero (by simp)
 have k0_1 : fac [z0, z1, z2, z3, z4, z5, z6, z7, z8] = 0 → z1 = 0 := fac_zero (by simp)
 have k0_2 : fac [z0, z1, z2, z3, z4, z5, z6, z7, z8] = 0 → z2 = 0 := fac_zero (by simp)
 have k0_3 : fac [z0, z1, z2, z3, z4, z5, z6, z7, z8] = 0 → z3 = 0 := fac_zero (by simp)
 have k0_4 : fac [z0, z1, z2, z3, z4, z5, z6, z7, z8] = 0 → z4 = 0 := fac_zero (by simp)
 have k0_5 : fac [z0, z1, z2, z3, z4, z5, z6, z7, z8] = 0 → z5 = 0 := fac_zero (by simp)
 have k0_6 : fac [z0, z1, z2, z3, z4, z5, z6, z7, z8] = 0 → z6 = 0 := fac_zero (by simp)
 have k0_7 : fac [z0, z1, z2, z3, z4, z5, z6, z7, z8] = 0 → z7 = 0 := fac_zero (by simp)
 have k0_8 : fac [z0, z1, z2, z3, z4, z5, z6, z7, z8] = 0 → z8 = 0 := fac_zero (by simp)
 generalize fac [z0, z1, z2, z3, z4, z5, z6, z7, z8] = g0 at *
 have k1_49 : fac [z49, z50, z51] = 0 → z49 = 0 := fac_zero (by simp)
 have k1_50 : fac [z49, z50, z51] = 0 → z50 = 0 := fac_zero (by simp)
 have k1_51 : fac [z49, z50, z51] = 0 → z51 = 0 := fac_zero (by simp)
 generalize fac [z49, z50, z51] = g1 at *
 have k2_188 : fac [z188, z194, z200] = 0 → z188 = 0 := fac_zero (by simp)
 have k2_194 : fac [z188, z194, z200] = 0 → z194 = 0 := fac_zero (by simp)
 have k2_200 : fac [z188, z194, z200] = 0 → z200 = 0 := fac_zero (by simp)
 generalize fac [z188, z194, z200] = g2 at *
 have nx0 : ¬ ((((((((z0 = 0 ∧ z1 = 0) ∧ z2 = 0) ∧ z3 = 0) ∧ z4 = 0) ∧ z5 = 0) ∧ z6 = 0) ∧ z7 = 0) ∧ z8 = 0) := by
  rintro ⟨⟨⟨⟨⟨⟨⟨⟨hx0, hx1⟩, hx2⟩, hx3⟩, hx4⟩, hx5⟩, hx6⟩, hx7⟩, hx8⟩
  first | grind | (subst_vars; grind)
 have iw0 : g0 ≠ 0 := fun hg => nx0 ⟨⟨⟨⟨⟨⟨⟨⟨(k0_0 hg), (k0_1 hg)⟩, (k0_2 hg)⟩, (k0_3 hg)⟩, (k0_4 hg)⟩, (k0_5 hg)⟩, (k0_6 hg)⟩, (k0_7 hg)⟩, (k0_8 hg)⟩
 obtain ⟨iv0, ih0⟩ : ∃ i, g0 * i = 1 := ⟨g0⁻¹, Rat.mul_inv_cancel _ iw0⟩
 have nx1 := u1
 have iw1 : g1 ≠ 0 := fun hg => nx1 ⟨⟨(k1_49 hg), (k1_50 hg)⟩, (k1_51 hg)⟩
 obtain ⟨iv1, ih1⟩ : ∃ i, g1 * i = 1 := ⟨g1⁻¹, Rat.mul_inv_cancel _ iw1⟩
 have nx2 : ¬ ((z188 = 0 ∧ z194 = 0) ∧ z200 = 0) := by
  rintro ⟨⟨hx188, hx194⟩, hx200⟩
  first | grind | (subst_vars; grind)
 have iw2 : g2 ≠ 0 := fun hg => nx2 ⟨⟨(k2_188 hg), (k2_194 hg)⟩, (k2_200 hg)⟩
 obtain ⟨iv2, ih2⟩ : ∃ i, g2 * i = 1 := ⟨g2⁻¹, Rat.mul_inv_cancel _ iw2⟩
 clear k0_0 k0_1 k0_2 k0_3 k0_4 k0_5 k0_6 k0_7 k0_8 k1_49 k1_50 k1_51 k2_188 k2_194 k2_200
 exact trip_fac nx2 iw2 e201 e202 e203
theorem projectApply_f9 {z0 z1 z2 z3 z4 z5 z6 z7 z8 z9 z10 z11 z12 z13 z14 z15 z16 z17 z28 z49 z50 z51 z56 z180 z181 z182 z183 z184 z185 z186 z187 z188 z189 z190 z191 z192 z193 z194 z195 z196 z197 z198 z199 z200 z201 z202 z203 z214 z215 z216 z217 z218 z219 z220 z221 z222 z223 z224 z225 z226 z227 z228 z229 z230 z231 z232 z233 z234 z235 z236 z237 z242 : Rat} : z9 = z0 * fac [z0, z1, z2, z3, z4, z5, z6, z7, z8] → z10 = z1 * fac [z0, z1, z2, z3, z4, z5, z6, z7, z8] → z11 = z2 * fac [z0, z1, z2, z3, z4, z5, z6, z7, z8] → z12 = z3 * fac [z0, z1, z2, z3, z4, z5, z6, z7, z8] → z13 = z4 * fac [z0, z1, z2, z3, z4, z5, z6, z7, z8] → z14 = z5 * fac [z0, z1, z2, z3, z4, z5, z6, z7, z8] → z15 = z6 * fac [z0, z1, z2, z3, z4, z5, z6, z7, z8] → z16 = z7 * fac [z0, z1, z2, z3, z4, z5, z6, z7, z8] → z17 = z8 * fac [z0, z1, z2, z3, z4, z5, z6, z7, z8] → z28 = 0 → (z56 = 0 ↔ ((z49 = 0 ∧ z50 = 0) ∧ z51 = 0)) → z180 = z49 * fac [z49, z50, z51] → z181 = z50 * fac [z49, z50, z51] → z182 = z51 * fac [z49, z50, z51] → z183 = z9 * z180 → z184 = z28 + z183 → z185 = z10 * z181 → z186 = z184 + z185 → z187 = z11 * z182 → z188 = z186 + z187 → z189 = z12 * z180 → z190 = z28 + z189 → z191 = z13 * z181 → z192 = z190 + z191 → z193 = z14 * z182 → z194 = z192 + z193 → z195 = z15 * z180 → z196 = z28 + z195 → z197 = z16 * z181 → z198 = z196 + z197 → z199 = z17 * z182 → z200 = z198 + z199 → z201 = z188 * fac [z188, z194, z200] → z202 = z194 * fac [z188, z194, z200] → z203 = z200 * fac [z188, z194, z200] → z214 = z0 * z49 → z215 = z1 * z50 → z216 = z2 * z51 → z217 = z214 + z215 → z218 = z217 + z216 → z219 = z3 * z49 → z220 = z4 * z50 → z221 = z5 * z51 → z222 = z219 + z220 → z223 = z222 + z221 → z224 = z6 * z49 → z225 = z7 * z50 → z226 = z8 * z51 → z227 = z224 + z225 → z228 = z227 + z226 → z229 = z223 * z201 → z230 = z218 * z202 → z231 = z229 - z230 → z232 = z228 * z201 → z233 = z218 * z203 → z234 = z232 - z233 → z235 = z228 * z202 → z236 = z223 * z203 → z237 = z235 - z236 → (z242 = 0 ↔ ((z231 = 0 ∧ z234 = 0) ∧ z237 = 0)) → (¬ (z56 = 0)) → z242 = 0 := by
 intro e9 e10 e11 e12 e13 e14 e15 e16 e17 e28 e56 e180 e181 e182 e183 e184 e185 e186 e187 e188 e189 e190 e191 e192 e193 e194 e195 e196 e197 e198 e199 e200 e201 e202 e203 e214 e215 e216 e217 e218 e219 e220 e221 e222 e223 e224 e225 e226 e227 e228 e229 e230 e231 e232 e233 e234 e235 e236 e237 e242 u1
 rw [e56] at u1
 rw [e242]
 clear  e56 e242
 have k0_0 : fac [z0, z1, z2, z3, z4, z5, z6, z7, z8] = 0 → z0 = 0 := fac_zero (by simp)
 have k0_1 : fac [z0, z1, z2, z3, z4, z5, z6, z7, z8] = 0 → z1 = 0 := fac_zero (by simp)
 have k0_2 : fac [z0, z1, z2, z3, z4, z5, z6, z7, z8] = 0 → z2 = 0 := fac_zero (by simp)
 have k0_3 : fac [z0, z1, z2, z3, z4, z5, z6, z7, z8] = 0 → z3 = 0 := fac_zero (by simp)
 have k0_4 : fac [z0, z1, z2, z3, z4, z5, z6, z7, z8] = 0 → z4 = 0 := fac_zero (by simp)
 have k0_5 : fac [z0, z1, z2, z3, z4, z5, z6, z7, z8] = 0 → z5 = 0 := fac_zero (by simp)
 have k0_6 : fac [z0, z1, z2, z3, z4, z5, z6, z7, z8] = 0 → z6 = 0 := fac_zero (by simp)
 have k0_7 : fac [z0, z1, z2, z3, z4, z5, z6, z7, z8] = 0 → z7 = 0 := fac_zero (by simp)
 have k0_8 : fac [z0, z1, z2, z3, z4, z5, z6, z7, z8] = 0 → z8 = 0 := fac_zero (by simp)
 generalize fac [z0, z1, z2, z3, z4, z5, z6, z7, z8] = g0 at *
 have k1_49 : fac [z49, z50, z51] = 0 → z49 = 0 := fac_zero (by simp)
 have k1_50 : fac [z49, z50, z51] = 0 → z50 = 0 := fac_zero (by simp)
 have k1_51 : fac [z49, z50, z51] = 0 → z51 = 0 := fac_zero (by simp)
 generalize fac [z49, z50, z51] = g1 at *
 have k2_188 : fac [z188, z194, z200] = 0 → z188 = 0 := fac_zero (by simp)
 have k2_194 : fac [z188, z194, z200] = 0 → z194 = 0 := fac_zero (by simp)
 have k2_200 : fac [z188, z194, z200] = 0 → z200 = 0 := fac_zero (by simp)
 generalize fac [z188, z194, z200] = g2 at *
 have nx1 := u1
 have iw1 : g1 ≠ 0 := fun hg => nx1 ⟨⟨(k1_49 hg), (k1_50 hg)⟩, (k1_51 hg)⟩
 obtain ⟨iv1, ih1⟩ : ∃ i, g1 * i = 1 := ⟨g1⁻¹, Rat.mul_inv_cancel _ iw1⟩
 rcases Classical.em (g0 = 0) with iw0 | iw0
 ·have ic0_0 := k0_0 iw0
  have ic0_1 := k0_1 iw0
  have ic0_2 := k0_2 iw0
  have ic0_3 := k0_3 iw0
  have ic0_4 := k0_4 iw0
  have ic0_5 := k0_5 iw0
  have ic0_6 := k0_6 iw0
  have ic0_7 := k0_7 iw0
  have ic0_8 := k0_8 iw0
  refine ⟨⟨?_, ?_⟩, ?_⟩ <;> (subst_vars; grind)
 obtain ⟨iv0, ih0⟩ : ∃ i, g0 * i = 1 := ⟨g0⁻¹, Rat.mul_inv_cancel _ iw0⟩
 rcases Classical.em (g2 = 0) with iw2 | iw2
 ·have ic2_188 := k2_188 iw2
  have ic2_194 := k2_194 iw2
  have ic2_200 := k2_200 iw2
  refine ⟨⟨?_, ?_⟩, ?_⟩ <;> (subst_vars; grind)
 obtain ⟨iv2, ih2⟩ : ∃ i, g2 * i = 1 := ⟨g2⁻¹, Rat.mul_inv_cancel _ iw2⟩
 clear k0_0 k0_1 k0_2 k0_3 k0_4 k0_5 k0_6 k0_7 k0_8 k1_49 k1_50 k1_51 k2_188 k2_194 k2_200
 refine ⟨⟨?_, ?_⟩, ?_⟩ <;> (subst_vars; grind)
theorem projectApply_r0 : (callC (sx Tryz.prog projectApply_N [(0, 33, 0, 1), (0, 48, 0, 1)] [] projectApply_L projectApply_C projectApply_Z (prC [75])) [(179, 60), (154, 61), (25, 62), (78, 63), (97, 63)] 7 [] 12 [(false, [(true, [.inr (2, 0, 0, 0, 0), .inr (2, 1, 0, 0, 0), .inr (2, 2, 0, 0, 0), .inr (2, 3, 0, 0, 0), .inr (2, 4, 0, 0, 0), .inr (2, 5, 0, 0, 0), .inr (2, 6, 0, 0, 0), .inr (2, 7, 0, 0, 0), .inr (2, 8, 0, 0, 0)])]), (false, [(true, [.inr (2, 9, 0, 0, 0), .inr (2, 10, 0, 0, 0), .inr (2, 11, 0, 0, 0)])]), (false, [(true, [.inr (2, 12, 0, 0, 0), .inr (2, 13, 0, 0, 0), .inr (2, 14, 0, 0, 0)])])] [] 0).map (·.1) = some (kB true) := by kernel_rfl
theorem projectApply_r1 : (callC (sx Tryz.prog projectApply_N [(0, 33, 0, 0), (0, 56, 0, 1), (0, 64, 0, 1), (0, 48, 0, 0)] [(277, [])] projectApply_L projectApply_C projectApply_Z (prC [75])) [(179, 60), (154, 61), (25, 62), (78, 63), (97, 63)] 7 [] 12 [(false, [(true, [.inr (2, 0, 0, 0, 0), .inr (2, 1, 0, 0, 0), .inr (2, 2, 0, 0, 0), .inr (2, 3, 0, 0, 0), .inr (2, 4, 0, 0, 0), .inr (2, 5, 0, 0, 0), .inr (2, 6, 0, 0, 0), .inr (2, 7, 0, 0, 0), .inr (2, 8, 0, 0, 0)])]), (false, [(true, [.inr (2, 9, 0, 0, 0), .inr (2, 10, 0, 0, 0), .inr (2, 11, 0, 0, 0)])]), (false, [(true, [.inr (2, 12, 0, 0, 0), .inr (2, 13, 0, 0, 0), .inr (2, 14, 0, 0, 0)])])] [] 0).map (·.1) = some (kB true) := by kernel_rfl
theorem projectApply_r2 : (callC (sx Tryz.prog projectApply_N [(0, 33, 0, 0), (0, 56, 0, 1), (0, 64, 0, 0), (0, 48, 0, 0), (0, 129, 0, 1), (0, 149, 0, 1), (0, 169, 0, 1), (0, 174, 0, 0), (0, 179, 0, 0)] [(277, [])] projectApply_L projectApply_C projectApply_Z (prC [75])) [(179, 60), (154, 61), (25, 62), (78, 63), (97, 63)] 8 [] 12 [(false, [(true, [.inr (2, 0, 0, 0, 0), .inr (2, 1, 0, 0, 0), .inr (2, 2, 0, 0, 0), .inr (2, 3, 0, 0, 0), .inr (2, 4, 0, 0, 0), .inr (2, 5, 0, 0, 0), .inr (2, 6, 0, 0, 0), .inr (2, 7, 0, 0, 0), .inr (2, 8, 0, 0, 0)])]), (false, [(true, [.inr (2, 9, 0, 0, 0), .inr (2, 10, 0, 0, 0), .inr (2, 11, 0, 0, 0)])]), (false, [(true, [.inr (2, 12, 0, 0, 0), .inr (2, 13, 0, 0, 0), .inr (2, 14, 0, 0, 0)])])] [] 0).map (·.1) = some (kB true) := by kernel_rfl
theorem projectApply_r3 : (callC (sx Tryz.prog projectApply_N [(0, 33, 0, 0), (0, 56, 0, 0), (0, 64, 0, 1), (0, 48, 0, 0), (0, 208, 0, 0), (0, 213, 0, 0), (0, 242, 0, 1)] [(277, [])] projectApply_L projectApply_C projectApply_Z (prC [75])) [(179, 60), (154, 61), (25, 62), (78, 63), (97, 63)] 8 [] 12 [(false, [(true, [.inr (2, 0, 0, 0, 0), .inr (2, 1, 0, 0, 0), .inr (2, 2, 0, 0, 0), .inr (2, 3, 0, 0, 0), .inr (2, 4, 0, 0, 0), .inr (2, 5, 0, 0, 0), .inr (2, 6, 0, 0, 0), .inr (2, 7, 0, 0, 0), .inr (2, 8, 0, 0, 0)])]), (false, [(true, [.inr (2, 9, 0, 0, 0), .inr (2, 10, 0, 0, 0), .inr (2, 11, 0, 0, 0)])]), (false, [(true, [.inr (2, 12, 0, 0, 0), .inr (2, 13, 0, 0, 0), .inr (2, 14, 0, 0, 0)])])] [] 0).map (·.1) = some (kB true) := by kernel_rfl
theorem projectApply_r4 : (callC (sx Tryz.prog projectApply_N [(0, 33, 0, 0), (0, 56, 0, 0), (0, 64, 0, 0), (0, 48, 0, 0), (0, 208, 0, 0), (0, 213, 0, 0), (0, 242, 0, 1), (0, 129, 0, 1), (0, 149, 0, 1), (0, 169, 0, 1), (0, 174, 0, 0), (0, 179, 0, 0)] [(277, [])] projectApply_L projectApply_C projectApply_Z (prC [75])) [(179, 60), (154, 61), (25, 62), (78, 63), (97, 63)] 8 [] 12 [(false, [(true, [.inr (2, 0, 0, 0, 0), .inr (2, 1, 0, 0, 0), .inr (2, 2, 0, 0, 0), .inr (2, 3, 0, 0, 0), .inr (2, 4, 0, 0, 0), .inr (2, 5, 0, 0, 0), .inr (2, 6, 0, 0, 0), .inr (2, 7, 0, 0, 0), .inr (2, 8, 0, 0, 0)])]), (false, [(true, [.inr (2, 9, 0, 0, 0), .inr (2, 10, 0, 0, 0), .inr (2, 11, 0, 0, 0)])]), (false, [(true, [.inr (2, 12, 0, 0, 0), .inr (2, 13, 0, 0, 0), .inr (2, 14, 0, 0, 0)])])] [] 0).map (·.1) = some (kB true) := by kernel_rfl
theorem projectApply_walk {w : World} {ka kb kc kd ke kf kg kh ki sa sb sc ta tb tc : ByteArray} (ska : ka.size ≤ 1048576) (skb : kb.size ≤ 1048576) (skc : kc.size ≤ 1048576) (skd : kd.size ≤ 1048576) (ske : ke.size ≤ 1048576) (skf : kf.size ≤ 1048576) (skg : kg.size ≤ 1048576) (skh : kh.size ≤ 1048576) (ski : ki.size ≤ 1048576) (ssa : sa.size ≤ 1048576) (ssb : sb.size ≤ 1048576) (ssc : sc.size ≤ 1048576) (sta : ta.size ≤ 1048576) (stb : tb.size ≤ 1048576) (stc : tc.size ≤ 1048576) (tab : Tab w) (mx : MaxL w) :
  Calls Tryz.prog 12 #[.agg #[.string ka, .string kb, .string kc, .string kd, .string ke, .string kf, .string kg, .string kh, .string ki], .agg #[.string sa, .string sb, .string sc], .agg #[.string ta, .string tb, .string tc]] w fun e w' => Below w.heap.size w w' ∧ e = .returned (.bool true) := by
 have hσ : ∀ j, (sgOf [ka, kb, kc, kd, ke, kf, kg, kh, ki, sa, sb, sc, ta, tb, tc] j).size ≤ 1048576 := sgOf_size (by simp [ska, skb, skc, skd, ske, skf, skg, skh, ski, ssa, ssb, ssc, sta, stb, stc])
 have hcl : ∀ f ∈ ([75] : List FuncId), Closed f := by simp [closed_projected]
 obtain ⟨q, hq, h0⟩ := nodes_exist (sgOf [ka, kb, kc, kd, ke, kf, kg, kh, ki, sa, sb, sc, ta, tb, tc]) projectApply_N projectApply_wf
 have hA : ∀ K, A2 (avOn (cOn (evS q (sgOf [ka, kb, kc, kd, ke, kf, kg, kh, ki, sa, sb, sc, ta, tb, tc])) K (fun _ => none) w)) [(false, [(true, [.inr (2, 0, 0, 0, 0), .inr (2, 1, 0, 0, 0), .inr (2, 2, 0, 0, 0), .inr (2, 3, 0, 0, 0), .inr (2, 4, 0, 0, 0), .inr (2, 5, 0, 0, 0), .inr (2, 6, 0, 0, 0), .inr (2, 7, 0, 0, 0), .inr (2, 8, 0, 0, 0)])]), (false, [(true, [.inr (2, 9, 0, 0, 0), .inr (2, 10, 0, 0, 0), .inr (2, 11, 0, 0, 0)])]), (false, [(true, [.inr (2, 12, 0, 0, 0), .inr (2, 13, 0, 0, 0), .inr (2, 14, 0, 0, 0)])])] [.agg #[.string ka, .string kb, .string kc, .string kd, .string ke, .string kf, .string kg, .string kh, .string ki], .agg #[.string sa, .string sb, .string sc], .agg #[.string ta, .string tb, .string tc]] := fun K => ⟨⟨⟨[.string ka, .string kb, .string kc, .string kd, .string ke, .string kf, .string kg, .string kh, .string ki], rfl, rfl, rfl, rfl, rfl, rfl, rfl, rfl, rfl, rfl, trivial⟩, trivial⟩, ⟨⟨[.string sa, .string sb, .string sc], rfl, rfl, rfl, rfl, trivial⟩, trivial⟩, ⟨⟨[.string ta, .string tb, .string tc], rfl, rfl, rfl, rfl, trivial⟩, trivial⟩, trivial⟩
 have E9 : q 9 = q 0 * fac [q 0, q 1, q 2, q 3, q 4, q 5, q 6, q 7, q 8] := hq 9 _ rfl
 have E10 : q 10 = q 1 * fac [q 0, q 1, q 2, q 3, q 4, q 5, q 6, q 7, q 8] := hq 10 _ rfl
 have E11 : q 11 = q 2 * fac [q 0, q 1, q 2, q 3, q 4, q 5, q 6, q 7, q 8] := hq 11 _ rfl
 have E12 : q 12 = q 3 * fac [q 0, q 1, q 2, q 3, q 4, q 5, q 6, q 7, q 8] := hq 12 _ rfl
 have E13 : q 13 = q 4 * fac [q 0, q 1, q 2, q 3, q 4, q 5, q 6, q 7, q 8] := hq 13 _ rfl
 have E14 : q 14 = q 5 * fac [q 0, q 1, q 2, q 3, q 4, q 5, q 6, q 7, q 8] := hq 14 _ rfl
 have E15 : q 15 = q 6 * fac [q 0, q 1, q 2, q 3, q 4, q 5, q 6, q 7, q 8] := hq 15 _ rfl
 have E16 : q 16 = q 7 * fac [q 0, q 1, q 2, q 3, q 4, q 5, q 6, q 7, q 8] := hq 16 _ rfl
 have E17 : q 17 = q 8 * fac [q 0, q 1, q 2, q 3, q 4, q 5, q 6, q 7, q 8] := hq 17 _ rfl
 have E18 : q 18 = q 13 * q 17 := hq 18 _ rfl
 have E19 : q 19 = q 14 * q 16 := hq 19 _ rfl
 have E20 : q 20 = q 18 - q 19 := hq 20 _ rfl
 have E21 : q 21 = q 14 * q 15 := hq 21 _ rfl
 have E22 : q 22 = q 12 * q 17 := hq 22 _ rfl
 have E23 : q 23 = q 21 - q 22 := hq 23 _ rfl
 have E24 : q 24 = q 12 * q 16 := hq 24 _ rfl
 have E25 : q 25 = q 13 * q 15 := hq 25 _ rfl
 have E26 : q 26 = q 24 - q 25 := hq 26 _ rfl
 have E27 : q 27 = q 9 * q 20 := hq 27 _ rfl
 have E28 : q 28 = 0 := (hq 28 _ rfl).trans projectApply_c28
 have E29 : q 29 = q 28 + q 27 := hq 29 _ rfl
 have E30 : q 30 = q 10 * q 23 := hq 30 _ rfl
 have E31 : q 31 = q 29 + q 30 := hq 31 _ rfl
 have E32 : q 32 = q 11 * q 26 := hq 32 _ rfl
 have E33 : q 33 = q 31 + q 32 := hq 33 _ rfl
 have E34 : q 34 = q 4 * q 8 := hq 34 _ rfl
 have E35 : q 35 = q 5 * q 7 := hq 35 _ rfl
 have E36 : q 36 = q 34 - q 35 := hq 36 _ rfl
 have E37 : q 37 = q 0 * q 36 := hq 37 _ rfl
 have E38 : q 38 = q 3 * q 8 := hq 38 _ rfl
 have E39 : q 39 = q 5 * q 6 := hq 39 _ rfl
 have E40 : q 40 = q 38 - q 39 := hq 40 _ rfl
 have E41 : q 41 = q 1 * q 40 := hq 41 _ rfl
 have E42 : q 42 = -q 41 := hq 42 _ rfl
 have E43 : q 43 = q 3 * q 7 := hq 43 _ rfl
 have E44 : q 44 = q 4 * q 6 := hq 44 _ rfl
 have E45 : q 45 = q 43 - q 44 := hq 45 _ rfl
 have E46 : q 46 = q 2 * q 45 := hq 46 _ rfl
 have E47 : q 47 = q 37 + q 42 := hq 47 _ rfl
 have E48 : q 48 = q 47 + q 46 := hq 48 _ rfl
 have E65 : q 65 = q 57 * fac [q 57, q 58, q 59] := hq 65 _ rfl
 have E66 : q 66 = q 58 * fac [q 57, q 58, q 59] := hq 66 _ rfl
 have E67 : q 67 = q 59 * fac [q 57, q 58, q 59] := hq 67 _ rfl
 have E68 : q 68 = q 16 * q 11 := hq 68 _ rfl
 have E69 : q 69 = q 17 * q 10 := hq 69 _ rfl
 have E70 : q 70 = q 68 - q 69 := hq 70 _ rfl
 have E71 : q 71 = q 17 * q 9 := hq 71 _ rfl
 have E72 : q 72 = q 15 * q 11 := hq 72 _ rfl
 have E73 : q 73 = q 71 - q 72 := hq 73 _ rfl
 have E74 : q 74 = q 15 * q 10 := hq 74 _ rfl
 have E75 : q 75 = q 16 * q 9 := hq 75 _ rfl
 have E76 : q 76 = q 74 - q 75 := hq 76 _ rfl
 have E77 : q 77 = q 10 * q 14 := hq 77 _ rfl
 have E78 : q 78 = q 11 * q 13 := hq 78 _ rfl
 have E79 : q 79 = q 77 - q 78 := hq 79 _ rfl
 have E80 : q 80 = q 11 * q 12 := hq 80 _ rfl
 have E81 : q 81 = q 9 * q 14 := hq 81 _ rfl
 have E82 : q 82 = q 80 - q 81 := hq 82 _ rfl
 have E83 : q 83 = q 9 * q 13 := hq 83 _ rfl
 have E84 : q 84 = q 10 * q 12 := hq 84 _ rfl
 have E85 : q 85 = q 83 - q 84 := hq 85 _ rfl
 have E86 : q 86 = q 20 * q 65 := hq 86 _ rfl
 have E87 : q 87 = q 28 + q 86 := hq 87 _ rfl
 have E88 : q 88 = q 23 * q 66 := hq 88 _ rfl
 have E89 : q 89 = q 87 + q 88 := hq 89 _ rfl
 have E90 : q 90 = q 26 * q 67 := hq 90 _ rfl
 have E91 : q 91 = q 89 + q 90 := hq 91 _ rfl
 have E92 : q 92 = q 70 * q 65 := hq 92 _ rfl
 have E93 : q 93 = q 28 + q 92 := hq 93 _ rfl
 have E94 : q 94 = q 73 * q 66 := hq 94 _ rfl
 have E95 : q 95 = q 93 + q 94 := hq 95 _ rfl
 have E96 : q 96 = q 76 * q 67 := hq 96 _ rfl
 have E97 : q 97 = q 95 + q 96 := hq 97 _ rfl
 have E98 : q 98 = q 79 * q 65 := hq 98 _ rfl
 have E99 : q 99 = q 28 + q 98 := hq 99 _ rfl
 have E100 : q 100 = q 82 * q 66 := hq 100 _ rfl
 have E101 : q 101 = q 99 + q 100 := hq 101 _ rfl
 have E102 : q 102 = q 85 * q 67 := hq 102 _ rfl
 have E103 : q 103 = q 101 + q 102 := hq 103 _ rfl
 have E104 : q 104 = q 91 * fac [q 91, q 97, q 103] := hq 104 _ rfl
 have E105 : q 105 = q 97 * fac [q 91, q 97, q 103] := hq 105 _ rfl
 have E106 : q 106 = q 103 * fac [q 91, q 97, q 103] := hq 106 _ rfl
 have E107 : q 107 = -q 58 := hq 107 _ rfl
 have E108 : q 108 = -q 59 := hq 108 _ rfl
 have E109 : q 109 = -q 57 := hq 109 _ rfl
 have E110 : q 110 = q 0 * q 28 := hq 110 _ rfl
 have E111 : q 111 = q 1 * q 59 := hq 111 _ rfl
 have E112 : q 112 = q 2 * q 107 := hq 112 _ rfl
 have E113 : q 113 = q 110 + q 111 := hq 113 _ rfl
 have E114 : q 114 = q 113 + q 112 := hq 114 _ rfl
 have E115 : q 115 = q 3 * q 28 := hq 115 _ rfl
 have E116 : q 116 = q 4 * q 59 := hq 116 _ rfl
 have E117 : q 117 = q 5 * q 107 := hq 117 _ rfl
 have E118 : q 118 = q 115 + q 116 := hq 118 _ rfl
 have E119 : q 119 = q 118 + q 117 := hq 119 _ rfl
 have E120 : q 120 = q 6 * q 28 := hq 120 _ rfl
 have E121 : q 121 = q 7 * q 59 := hq 121 _ rfl
 have E122 : q 122 = q 8 * q 107 := hq 122 _ rfl
 have E123 : q 123 = q 120 + q 121 := hq 123 _ rfl
 have E124 : q 124 = q 123 + q 122 := hq 124 _ rfl
 have E125 : q 125 = q 104 * q 114 := hq 125 _ rfl
 have E126 : q 126 = q 105 * q 119 := hq 126 _ rfl
 have E127 : q 127 = q 106 * q 124 := hq 127 _ rfl
 have E128 : q 128 = q 125 + q 126 := hq 128 _ rfl
 have E129 : q 129 = q 128 + q 127 := hq 129 _ rfl
 have E130 : q 130 = q 0 * q 108 := hq 130 _ rfl
 have E131 : q 131 = q 1 * q 28 := hq 131 _ rfl
 have E132 : q 132 = q 2 * q 57 := hq 132 _ rfl
 have E133 : q 133 = q 130 + q 131 := hq 133 _ rfl
 have E134 : q 134 = q 133 + q 132 := hq 134 _ rfl
 have E135 : q 135 = q 3 * q 108 := hq 135 _ rfl
 have E136 : q 136 = q 4 * q 28 := hq 136 _ rfl
 have E137 : q 137 = q 5 * q 57 := hq 137 _ rfl
 have E138 : q 138 = q 135 + q 136 := hq 138 _ rfl
 have E139 : q 139 = q 138 + q 137 := hq 139 _ rfl
 have E140 : q 140 = q 6 * q 108 := hq 140 _ rfl
 have E141 : q 141 = q 7 * q 28 := hq 141 _ rfl
 have E142 : q 142 = q 8 * q 57 := hq 142 _ rfl
 have E143 : q 143 = q 140 + q 141 := hq 143 _ rfl
 have E144 : q 144 = q 143 + q 142 := hq 144 _ rfl
 have E145 : q 145 = q 104 * q 134 := hq 145 _ rfl
 have E146 : q 146 = q 105 * q 139 := hq 146 _ rfl
 have E147 : q 147 = q 106 * q 144 := hq 147 _ rfl
 have E148 : q 148 = q 145 + q 146 := hq 148 _ rfl
 have E149 : q 149 = q 148 + q 147 := hq 149 _ rfl
 have E150 : q 150 = q 0 * q 58 := hq 150 _ rfl
 have E151 : q 151 = q 1 * q 109 := hq 151 _ rfl
 have E152 : q 152 = q 2 * q 28 := hq 152 _ rfl
 have E153 : q 153 = q 150 + q 151 := hq 153 _ rfl
 have E154 : q 154 = q 153 + q 152 := hq 154 _ rfl
 have E155 : q 155 = q 3 * q 58 := hq 155 _ rfl
 have E156 : q 156 = q 4 * q 109 := hq 156 _ rfl
 have E157 : q 157 = q 5 * q 28 := hq 157 _ rfl
 have E158 : q 158 = q 155 + q 156 := hq 158 _ rfl
 have E159 : q 159 = q 158 + q 157 := hq 159 _ rfl
 have E160 : q 160 = q 6 * q 58 := hq 160 _ rfl
 have E161 : q 161 = q 7 * q 109 := hq 161 _ rfl
 have E162 : q 162 = q 8 * q 28 := hq 162 _ rfl
 have E163 : q 163 = q 160 + q 161 := hq 163 _ rfl
 have E164 : q 164 = q 163 + q 162 := hq 164 _ rfl
 have E165 : q 165 = q 104 * q 154 := hq 165 _ rfl
 have E166 : q 166 = q 105 * q 159 := hq 166 _ rfl
 have E167 : q 167 = q 106 * q 164 := hq 167 _ rfl
 have E168 : q 168 = q 165 + q 166 := hq 168 _ rfl
 have E169 : q 169 = q 168 + q 167 := hq 169 _ rfl
 have E180 : q 180 = q 49 * fac [q 49, q 50, q 51] := hq 180 _ rfl
 have E181 : q 181 = q 50 * fac [q 49, q 50, q 51] := hq 181 _ rfl
 have E182 : q 182 = q 51 * fac [q 49, q 50, q 51] := hq 182 _ rfl
 have E183 : q 183 = q 9 * q 180 := hq 183 _ rfl
 have E184 : q 184 = q 28 + q 183 := hq 184 _ rfl
 have E185 : q 185 = q 10 * q 181 := hq 185 _ rfl
 have E186 : q 186 = q 184 + q 185 := hq 186 _ rfl
 have E187 : q 187 = q 11 * q 182 := hq 187 _ rfl
 have E188 : q 188 = q 186 + q 187 := hq 188 _ rfl
 have E189 : q 189 = q 12 * q 180 := hq 189 _ rfl
 have E190 : q 190 = q 28 + q 189 := hq 190 _ rfl
 have E191 : q 191 = q 13 * q 181 := hq 191 _ rfl
 have E192 : q 192 = q 190 + q 191 := hq 192 _ rfl
 have E193 : q 193 = q 14 * q 182 := hq 193 _ rfl
 have E194 : q 194 = q 192 + q 193 := hq 194 _ rfl
 have E195 : q 195 = q 15 * q 180 := hq 195 _ rfl
 have E196 : q 196 = q 28 + q 195 := hq 196 _ rfl
 have E197 : q 197 = q 16 * q 181 := hq 197 _ rfl
 have E198 : q 198 = q 196 + q 197 := hq 198 _ rfl
 have E199 : q 199 = q 17 * q 182 := hq 199 _ rfl
 have E200 : q 200 = q 198 + q 199 := hq 200 _ rfl
 have E201 : q 201 = q 188 * fac [q 188, q 194, q 200] := hq 201 _ rfl
 have E202 : q 202 = q 194 * fac [q 188, q 194, q 200] := hq 202 _ rfl
 have E203 : q 203 = q 200 * fac [q 188, q 194, q 200] := hq 203 _ rfl
 have E214 : q 214 = q 0 * q 49 := hq 214 _ rfl
 have E215 : q 215 = q 1 * q 50 := hq 215 _ rfl
 have E216 : q 216 = q 2 * q 51 := hq 216 _ rfl
 have E217 : q 217 = q 214 + q 215 := hq 217 _ rfl
 have E218 : q 218 = q 217 + q 216 := hq 218 _ rfl
 have E219 : q 219 = q 3 * q 49 := hq 219 _ rfl
 have E220 : q 220 = q 4 * q 50 := hq 220 _ rfl
 have E221 : q 221 = q 5 * q 51 := hq 221 _ rfl
 have E222 : q 222 = q 219 + q 220 := hq 222 _ rfl
 have E223 : q 223 = q 222 + q 221 := hq 223 _ rfl
 have E224 : q 224 = q 6 * q 49 := hq 224 _ rfl
 have E225 : q 225 = q 7 * q 50 := hq 225 _ rfl
 have E226 : q 226 = q 8 * q 51 := hq 226 _ rfl
 have E227 : q 227 = q 224 + q 225 := hq 227 _ rfl
 have E228 : q 228 = q 227 + q 226 := hq 228 _ rfl
 have E229 : q 229 = q 223 * q 201 := hq 229 _ rfl
 have E230 : q 230 = q 218 * q 202 := hq 230 _ rfl
 have E231 : q 231 = q 229 - q 230 := hq 231 _ rfl
 have E232 : q 232 = q 228 * q 201 := hq 232 _ rfl
 have E233 : q 233 = q 218 * q 203 := hq 233 _ rfl
 have E234 : q 234 = q 232 - q 233 := hq 234 _ rfl
 have E235 : q 235 = q 228 * q 202 := hq 235 _ rfl
 have E236 : q 236 = q 223 * q 203 := hq 236 _ rfl
 have E237 : q 237 = q 235 - q 236 := hq 237 _ rfl
 have Q56 : q 56 = 0 ↔ ((q 49 = 0 ∧ q 50 = 0) ∧ q 51 = 0) := (sq_next (sq_next (sq_first (hq 52 _ rfl)) (hq 53 _ rfl) (hq 54 _ rfl)) (hq 55 _ rfl) (hq 56 _ rfl)).2
 have Q64 : q 64 = 0 ↔ ((q 57 = 0 ∧ q 58 = 0) ∧ q 59 = 0) := (sq_next (sq_next (sq_first (hq 60 _ rfl)) (hq 61 _ rfl) (hq 62 _ rfl)) (hq 63 _ rfl) (hq 64 _ rfl)).2
 have Q174 : q 174 = 0 ↔ ((q 91 = 0 ∧ q 97 = 0) ∧ q 103 = 0) := (sq_next (sq_next (sq_first (hq 170 _ rfl)) (hq 171 _ rfl) (hq 172 _ rfl)) (hq 173 _ rfl) (hq 174 _ rfl)).2
 have Q179 : q 179 = 0 ↔ ((q 104 = 0 ∧ q 105 = 0) ∧ q 106 = 0) := (sq_next (sq_next (sq_first (hq 175 _ rfl)) (hq 176 _ rfl) (hq 177 _ rfl)) (hq 178 _ rfl) (hq 179 _ rfl)).2
 have Q208 : q 208 = 0 ↔ ((q 188 = 0 ∧ q 194 = 0) ∧ q 200 = 0) := (sq_next (sq_next (sq_first (hq 204 _ rfl)) (hq 205 _ rfl) (hq 206 _ rfl)) (hq 207 _ rfl) (hq 208 _ rfl)).2
 have Q213 : q 213 = 0 ↔ ((q 201 = 0 ∧ q 202 = 0) ∧ q 203 = 0) := (sq_next (sq_next (sq_first (hq 209 _ rfl)) (hq 210 _ rfl) (hq 211 _ rfl)) (hq 212 _ rfl) (hq 213 _ rfl)).2
 have Q242 : q 242 = 0 ↔ ((q 231 = 0 ∧ q 234 = 0) ∧ q 237 = 0) := (sq_next (sq_next (sq_first (hq 238 _ rfl)) (hq 239 _ rfl) (hq 240 _ rfl)) (hq 241 _ rfl) (hq 242 _ rfl)).2
 by_cases a_0_33_0 : q 33 = 0
 ·
  have a_0_48_0 : q 48 = 0 := projectApply_f0 E9 E10 E11 E12 E13 E14 E15 E16 E17 E18 E19 E20 E21 E22 E23 E24 E25 E26 E27 E28 E29 E30 E31 E32 E33 E34 E35 E36 E37 E38 E39 E40 E41 E42 E43 E44 E45 E46 E47 E48 a_0_33_0
  exact run_toldC' 7 (hy_of (H := [(0, 33, 0, 1), (0, 48, 0, 1)]) hσ projectApply_wf projectApply_sz projectApply_lt projectApply_cn hq h0 (And.intro (hT a_0_33_0) (And.intro (hT a_0_48_0) trivial))) hcl (by kernel_rfl) projectApply_r0 ⟨tab, mx⟩ (hA _)
 ·
  by_cases a_0_56_0 : q 56 = 0
  ·
   by_cases a_0_64_0 : q 64 = 0
   ·
    have a_0_48_0 : ¬ (q 48 = 0) := projectApply_f1 E9 E10 E11 E12 E13 E14 E15 E16 E17 E18 E19 E20 E21 E22 E23 E24 E25 E26 E27 E28 E29 E30 E31 E32 E33 E34 E35 E36 E37 E38 E39 E40 E41 E42 E43 E44 E45 E46 E47 E48 a_0_33_0
    exact run_toldC' 7 (hy_of (H := [(0, 33, 0, 0), (0, 56, 0, 1), (0, 64, 0, 1), (0, 48, 0, 0)]) hσ projectApply_wf projectApply_sz projectApply_lt projectApply_cn hq h0 (And.intro (hF a_0_33_0) (And.intro (hT a_0_56_0) (And.intro (hT a_0_64_0) (And.intro (hF a_0_48_0) trivial))))) hcl (by kernel_rfl) projectApply_r1 ⟨tab, mx⟩ (hA _)
   ·
    have a_0_48_0 : ¬ (q 48 = 0) := projectApply_f1 E9 E10 E11 E12 E13 E14 E15 E16 E17 E18 E19 E20 E21 E22 E23 E24 E25 E26 E27 E28 E29 E30 E31 E32 E33 E34 E35 E36 E37 E38 E39 E40 E41 E42 E43 E44 E45 E46 E47 E48 a_0_33_0
    have a_0_129_0 : q 129 = 0 := projectApply_f2 E9 E10 E11 E12 E13 E14 E15 E16 E17 E18 E19 E20 E21 E22 E23 E24 E25 E26 E28 Q64 E65 E66 E67 E68 E69 E70 E71 E72 E73 E74 E75 E76 E77 E78 E79 E80 E81 E82 E83 E84 E85 E86 E87 E88 E89 E90 E91 E92 E93 E94 E95 E96 E97 E98 E99 E100 E101 E102 E103 E104 E105 E106 E107 E110 E111 E112 E113 E114 E115 E116 E117 E118 E119 E120 E121 E122 E123 E124 E125 E126 E127 E128 E129 a_0_64_0
    have a_0_149_0 : q 149 = 0 := projectApply_f3 E9 E10 E11 E12 E13 E14 E15 E16 E17 E18 E19 E20 E21 E22 E23 E24 E25 E26 E28 Q64 E65 E66 E67 E68 E69 E70 E71 E72 E73 E74 E75 E76 E77 E78 E79 E80 E81 E82 E83 E84 E85 E86 E87 E88 E89 E90 E91 E92 E93 E94 E95 E96 E97 E98 E99 E100 E101 E102 E103 E104 E105 E106 E108 E130 E131 E132 E133 E134 E135 E136 E137 E138 E139 E140 E141 E142 E143 E144 E145 E146 E147 E148 E149 a_0_64_0
    have a_0_169_0 : q 169 = 0 := projectApply_f4 E9 E10 E11 E12 E13 E14 E15 E16 E17 E18 E19 E20 E21 E22 E23 E24 E25 E26 E28 Q64 E65 E66 E67 E68 E69 E70 E71 E72 E73 E74 E75 E76 E77 E78 E79 E80 E81 E82 E83 E84 E85 E86 E87 E88 E89 E90 E91 E92 E93 E94 E95 E96 E97 E98 E99 E100 E101 E102 E103 E104 E105 E106 E109 E150 E151 E152 E153 E154 E155 E156 E157 E158 E159 E160 E161 E162 E163 E164 E165 E166 E167 E168 E169 a_0_64_0
    have a_0_174_0 : ¬ (q 174 = 0) := projectApply_f5 E9 E10 E11 E12 E13 E14 E15 E16 E17 E18 E19 E20 E21 E22 E23 E24 E25 E26 E27 E28 E29 E30 E31 E32 E33 Q64 E65 E66 E67 E68 E69 E70 E71 E72 E73 E74 E75 E76 E77 E78 E79 E80 E81 E82 E83 E84 E85 E86 E87 E88 E89 E90 E91 E92 E93 E94 E95 E96 E97 E98 E99 E100 E101 E102 E103 Q174 a_0_33_0 a_0_64_0
    have a_0_179_0 : ¬ (q 179 = 0) := projectApply_f6 E9 E10 E11 E12 E13 E14 E15 E16 E17 E18 E19 E20 E21 E22 E23 E24 E25 E26 E27 E28 E29 E30 E31 E32 E33 Q64 E65 E66 E67 E68 E69 E70 E71 E72 E73 E74 E75 E76 E77 E78 E79 E80 E81 E82 E83 E84 E85 E86 E87 E88 E89 E90 E91 E92 E93 E94 E95 E96 E97 E98 E99 E100 E101 E102 E103 E104 E105 E106 Q179 a_0_33_0 a_0_64_0
    exact run_toldC' 8 (hy_of (H := [(0, 33, 0, 0), (0, 56, 0, 1), (0, 64, 0, 0), (0, 48, 0, 0), (0, 129, 0, 1), (0, 149, 0, 1), (0, 169, 0, 1), (0, 174, 0, 0), (0, 179, 0, 0)]) hσ projectApply_wf projectApply_sz projectApply_lt projectApply_cn hq h0 (And.intro (hF a_0_33_0) (And.intro (hT a_0_56_0) (And.intro (hF a_0_64_0) (And.intro (hF a_0_48_0) (And.intro (hT a_0_129_0) (And.intro (hT a_0_149_0) (And.intro (hT a_0_169_0) (And.intro (hF a_0_174_0) (And.intro (hF a_0_179_0) trivial)))))))))) hcl (by kernel_rfl) projectApply_r2 ⟨tab, mx⟩ (hA _)
  ·
   by_cases a_0_64_0 : q 64 = 0
   ·
    have a_0_48_0 : ¬ (q 48 = 0) := projectApply_f1 E9 E10 E11 E12 E13 E14 E15 E16 E17 E18 E19 E20 E21 E22 E23 E24 E25 E26 E27 E28 E29 E30 E31 E32 E33 E34 E35 E36 E37 E38 E39 E40 E41 E42 E43 E44 E45 E46 E47 E48 a_0_33_0
    have a_0_208_0 : ¬ (q 208 = 0) := projectApply_f7 E9 E10 E11 E12 E13 E14 E15 E16 E17 E18 E19 E20 E21 E22 E23 E24 E25 E26 E27 E28 E29 E30 E31 E32 E33 Q56 E180 E181 E182 E183 E184 E185 E186 E187 E188 E189 E190 E191 E192 E193 E194 E195 E196 E197 E198 E199 E200 Q208 a_0_33_0 a_0_56_0
    have a_0_213_0 : ¬ (q 213 = 0) := projectApply_f8 E9 E10 E11 E12 E13 E14 E15 E16 E17 E18 E19 E20 E21 E22 E23 E24 E25 E26 E27 E28 E29 E30 E31 E32 E33 Q56 E180 E181 E182 E183 E184 E185 E186 E187 E188 E189 E190 E191 E192 E193 E194 E195 E196 E197 E198 E199 E200 E201 E202 E203 Q213 a_0_33_0 a_0_56_0
    have a_0_242_0 : q 242 = 0 := projectApply_f9 E9 E10 E11 E12 E13 E14 E15 E16 E17 E28 Q56 E180 E181 E182 E183 E184 E185 E186 E187 E188 E189 E190 E191 E192 E193 E194 E195 E196 E197 E198 E199 E200 E201 E202 E203 E214 E215 E216 E217 E218 E219 E220 E221 E222 E223 E224 E225 E226 E227 E228 E229 E230 E231 E232 E233 E234 E235 E236 E237 Q242 a_0_56_0
    exact run_toldC' 8 (hy_of (H := [(0, 33, 0, 0), (0, 56, 0, 0), (0, 64, 0, 1), (0, 48, 0, 0), (0, 208, 0, 0), (0, 213, 0, 0), (0, 242, 0, 1)]) hσ projectApply_wf projectApply_sz projectApply_lt projectApply_cn hq h0 (And.intro (hF a_0_33_0) (And.intro (hF a_0_56_0) (And.intro (hT a_0_64_0) (And.intro (hF a_0_48_0) (And.intro (hF a_0_208_0) (And.intro (hF a_0_213_0) (And.intro (hT a_0_242_0) trivial)))))))) hcl (by kernel_rfl) projectApply_r3 ⟨tab, mx⟩ (hA _)
   ·
    have a_0_48_0 : ¬ (q 48 = 0) := projectApply_f1 E9 E10 E11 E12 E13 E14 E15 E16 E17 E18 E19 E20 E21 E22 E23 E24 E25 E26 E27 E28 E29 E30 E31 E32 E33 E34 E35 E36 E37 E38 E39 E40 E41 E42 E43 E44 E45 E46 E47 E48 a_0_33_0
    have a_0_208_0 : ¬ (q 208 = 0) := projectApply_f7 E9 E10 E11 E12 E13 E14 E15 E16 E17 E18 E19 E20 E21 E22 E23 E24 E25 E26 E27 E28 E29 E30 E31 E32 E33 Q56 E180 E181 E182 E183 E184 E185 E186 E187 E188 E189 E190 E191 E192 E193 E194 E195 E196 E197 E198 E199 E200 Q208 a_0_33_0 a_0_56_0
    have a_0_213_0 : ¬ (q 213 = 0) := projectApply_f8 E9 E10 E11 E12 E13 E14 E15 E16 E17 E18 E19 E20 E21 E22 E23 E24 E25 E26 E27 E28 E29 E30 E31 E32 E33 Q56 E180 E181 E182 E183 E184 E185 E186 E187 E188 E189 E190 E191 E192 E193 E194 E195 E196 E197 E198 E199 E200 E201 E202 E203 Q213 a_0_33_0 a_0_56_0
    have a_0_242_0 : q 242 = 0 := projectApply_f9 E9 E10 E11 E12 E13 E14 E15 E16 E17 E28 Q56 E180 E181 E182 E183 E184 E185 E186 E187 E188 E189 E190 E191 E192 E193 E194 E195 E196 E197 E198 E199 E200 E201 E202 E203 E214 E215 E216 E217 E218 E219 E220 E221 E222 E223 E224 E225 E226 E227 E228 E229 E230 E231 E232 E233 E234 E235 E236 E237 Q242 a_0_56_0
    have a_0_129_0 : q 129 = 0 := projectApply_f2 E9 E10 E11 E12 E13 E14 E15 E16 E17 E18 E19 E20 E21 E22 E23 E24 E25 E26 E28 Q64 E65 E66 E67 E68 E69 E70 E71 E72 E73 E74 E75 E76 E77 E78 E79 E80 E81 E82 E83 E84 E85 E86 E87 E88 E89 E90 E91 E92 E93 E94 E95 E96 E97 E98 E99 E100 E101 E102 E103 E104 E105 E106 E107 E110 E111 E112 E113 E114 E115 E116 E117 E118 E119 E120 E121 E122 E123 E124 E125 E126 E127 E128 E129 a_0_64_0
    have a_0_149_0 : q 149 = 0 := projectApply_f3 E9 E10 E11 E12 E13 E14 E15 E16 E17 E18 E19 E20 E21 E22 E23 E24 E25 E26 E28 Q64 E65 E66 E67 E68 E69 E70 E71 E72 E73 E74 E75 E76 E77 E78 E79 E80 E81 E82 E83 E84 E85 E86 E87 E88 E89 E90 E91 E92 E93 E94 E95 E96 E97 E98 E99 E100 E101 E102 E103 E104 E105 E106 E108 E130 E131 E132 E133 E134 E135 E136 E137 E138 E139 E140 E141 E142 E143 E144 E145 E146 E147 E148 E149 a_0_64_0
    have a_0_169_0 : q 169 = 0 := projectApply_f4 E9 E10 E11 E12 E13 E14 E15 E16 E17 E18 E19 E20 E21 E22 E23 E24 E25 E26 E28 Q64 E65 E66 E67 E68 E69 E70 E71 E72 E73 E74 E75 E76 E77 E78 E79 E80 E81 E82 E83 E84 E85 E86 E87 E88 E89 E90 E91 E92 E93 E94 E95 E96 E97 E98 E99 E100 E101 E102 E103 E104 E105 E106 E109 E150 E151 E152 E153 E154 E155 E156 E157 E158 E159 E160 E161 E162 E163 E164 E165 E166 E167 E168 E169 a_0_64_0
    have a_0_174_0 : ¬ (q 174 = 0) := projectApply_f5 E9 E10 E11 E12 E13 E14 E15 E16 E17 E18 E19 E20 E21 E22 E23 E24 E25 E26 E27 E28 E29 E30 E31 E32 E33 Q64 E65 E66 E67 E68 E69 E70 E71 E72 E73 E74 E75 E76 E77 E78 E79 E80 E81 E82 E83 E84 E85 E86 E87 E88 E89 E90 E91 E92 E93 E94 E95 E96 E97 E98 E99 E100 E101 E102 E103 Q174 a_0_33_0 a_0_64_0
    have a_0_179_0 : ¬ (q 179 = 0) := projectApply_f6 E9 E10 E11 E12 E13 E14 E15 E16 E17 E18 E19 E20 E21 E22 E23 E24 E25 E26 E27 E28 E29 E30 E31 E32 E33 Q64 E65 E66 E67 E68 E69 E70 E71 E72 E73 E74 E75 E76 E77 E78 E79 E80 E81 E82 E83 E84 E85 E86 E87 E88 E89 E90 E91 E92 E93 E94 E95 E96 E97 E98 E99 E100 E101 E102 E103 E104 E105 E106 Q179 a_0_33_0 a_0_64_0
    exact run_toldC' 8 (hy_of (H := [(0, 33, 0, 0), (0, 56, 0, 0), (0, 64, 0, 0), (0, 48, 0, 0), (0, 208, 0, 0), (0, 213, 0, 0), (0, 242, 0, 1), (0, 129, 0, 1), (0, 149, 0, 1), (0, 169, 0, 1), (0, 174, 0, 0), (0, 179, 0, 0)]) hσ projectApply_wf projectApply_sz projectApply_lt projectApply_cn hq h0 (And.intro (hF a_0_33_0) (And.intro (hF a_0_56_0) (And.intro (hF a_0_64_0) (And.intro (hF a_0_48_0) (And.intro (hF a_0_208_0) (And.intro (hF a_0_213_0) (And.intro (hT a_0_242_0) (And.intro (hT a_0_129_0) (And.intro (hT a_0_149_0) (And.intro (hT a_0_169_0) (And.intro (hF a_0_174_0) (And.intro (hF a_0_179_0) trivial))))))))))))) hcl (by kernel_rfl) projectApply_r4 ⟨tab, mx⟩ (hA _)
end Go.Proofs.YtioacnhbiinjbaaGreatDoor
