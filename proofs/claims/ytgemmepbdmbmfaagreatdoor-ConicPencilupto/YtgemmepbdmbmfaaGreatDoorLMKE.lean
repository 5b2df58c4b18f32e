/- Part 13 of the walks and of the mathematics under them: VP VPC VY VSZ CFconed VPD VPE VPF MKE. -/
import Derived.Test.YtgemmepbdmbmfaaGreatDoorA2
import Derived.Test.YtgemmepbdmbmfaaGreatDoorA12
set_option maxHeartbeats 16000000
set_option maxRecDepth 100000
/- VP -/
namespace Cx
open Go Go.RowKit
abbrev Hs := List (Nat × Nat × Nat × Nat)
def Sx.plus (S : Sx) (X : Hs) : Sx := { S with H := X ++ S.H }
abbrev Ask := Nat × Nat × Nat × Nat
def askZ (a : Nat) : Ask := (0,a,0,a)
def askOk (S : Sx) : Ask→Bool
 | (k,a,b,d) => (Nat.beq k 0 && (Nat.beq b 0 && Nat.beq d a)) || (Nat.beq k 3 && (match S.N[d]? with
  | some (op,ar) => Nat.beq op 3 && beqL ar [a,b]
  | none => false))
def sqF (S : Sx) : Nat→List Nat→Option Nat
 | s,[] => some s
 | s,a :: l => (S.nd 4 [a,a]).bind fun b => (S.nd 2 [s,b]).bind fun t => sqF S t l
def sqN (S : Sx) : List Nat→Option Nat
 | [] => none
 | a :: l => (S.nd 4 [a,a]).bind fun s => sqF S s l
def acrossB (S : Sx) (a b : Nat) : List Nat→List Nat→Option (List Ask)
 | c :: l,d :: m => (S.nd 4 [a,d]).bind fun x => (S.nd 4 [c,b]).bind fun y => (S.nd 3 [x,y]).bind fun z => (acrossB S a b l m).map fun r => (3,x,y,z) :: r
 | _,_ => some []
def alikeB (S : Sx) : List Nat→List Nat→List Nat→List Nat→Option (List Ask)
 | pl,pm,a :: l,b :: m => (acrossB S a b pl pm).bind fun r => (alikeB S (pl ++ [a]) (pm ++ [b]) l m).map fun t => r ++ t
 | _,_,_,_ => some []
def sameA (S : Sx) : List Nat→List Nat→Option (List Ask)
 | a :: l,b :: m => (S.nd 3 [a,b]).bind fun d => (sameA S l m).map fun r => (3,a,b,d) :: r
 | _,_ => some []
def asks (S : Sx) (h : List HB) (code : Nat) (args : List AV) : Option (List Ask) :=
 match code with
 | 60 => arg1 (fun x => (asA x).bind fun cs => (qRow S cs).map fun l => l.map askZ) args
 | 61 => arg1 (fun x => (rowB h 1 x).bind fun p => (mapO (acX 0) p.2).map fun l => l.map askZ) args
 | 62 => arg2 (fun x y => (rowB h 1 x).bind fun p => (mapO (acX 0) p.2).bind fun l => (rowB h 1 y).bind fun p' => (mapO (acX 0) p'.2).bind fun m => alikeB S [] [] l m) args
 | 63 => arg1 (fun x => (asA x).bind fun cs => (mapO acTold cs).bind fun l => (plainOf S l).map fun xs => xs.map askZ) args
 | 65 => arg1 (fun x => (asA x).bind fun cs => (mapO (acX 0) cs).map fun l => l.map askZ) args
 | 66 => arg2 (fun x y => (asA x).bind fun cs => (asA y).bind fun ds => (mapO (acX 0) cs).bind fun l => (mapO (acX 0) ds).bind fun m => sameA S l m) args
 | 64 => arg1 (fun x => (asA x).bind fun cs => (qRow S cs).map fun l => (l.take 5).map askZ) args
 | _ => none
def splits : List Ask→Hs→List Hs
 | [],_ => []
 | (k,a,b,_) :: l,X => ((k,a,b,0) :: X) :: splits l ((k,a,b,1) :: X)
def allZ : List Ask→Hs→Hs
 | [],X => X
 | (k,a,b,_) :: l,X => allZ l ((k,a,b,1) :: X)
def bodyC (S : Sx) (call : CallF) : CallF := fun f args h nx => S.P.funcs[f]?.bind fun fn => fn.body.bind fun c => ifO (Nat.ble args.length fn.ntmps) ((runB S call fn.ntmps c { tm := numb1 0 args,h := h,nx := nx }).bind fun r =>
   ifO (Nat.ble r.1 1) ((mapO (resB S.P r.2) fn.results.toList).map fun xs => (tupB xs,r.2.h,r.2.nx)))
abbrev CRes := Option (AV × List HB × Nat)
def agree (h : List HB) (b : Bool) (hi : Nat) : CRes→Bool
 | some (v,h',nx') => (match asB v with
  | some c => b == c
  | none => false) && (Nat.ble nx' hi && h.all fun x => h'.any fun y => Nat.beq y.1 x.1 && acsW x.2 y.2)
 | none => false
def topN : Nat→List CRes→Nat
 | m,[] => m
 | m,some p :: rs => topN (bif Nat.ble m p.2.2 then p.2.2 else m) rs
 | m,none :: rs => topN m rs
def joinC (h : List HB) (nx : Nat) (rs : List CRes) : CRes :=
 match rs with
 | some p :: _ => (asB p.1).bind fun b => ifO (rs.all (agree h b (topN nx rs))) (some (kB b,h,topN nx rs))
 | _ => none
def callC (S : Sx) (cs : List (FuncId × Nat)) : Nat→Hs→CallF
 | 0,_,_,_,_,_ => none
 | n+1,X,f,args,h,nx => match prGet f cs with
  | none => bodyC (S.plus X) (callC S cs n X) f args h nx
  | some c => (asks (S.plus X) h c args).bind fun l => ifO (l.all (askOk S)) ((sqN S (l.map (·.2.2.2))).bind fun s => ((S.plus X).kn 0 s 0).bind fun r =>
    bif Nat.beq 1 r then bodyC (S.plus (allZ l X)) (callC S cs n (allZ l X)) f args h nx
    else joinC h nx ((splits l X).map fun X' => bodyC (S.plus X') (callC S cs n X') f args h nx))
section
variable {S : Sx} {E : Ev S.nb} {w0 : World}
theorem bodyC_ok {call : CallF} (hm : S.P.follows .mixedOrders=true) (N : Knows S E) (hP : PrimOk S E w0) (hC : CallOk S E w0 call) : CallOk S E w0 (bodyC S call) := fun f args h nx p hp γ w vs hi hA hb hlt hf => by
 unfold bodyC at hp
 simp only [Option.bind_eq_some_iff,ifO_some,Option.map_eq_some_iff,Nat.ble_eq] at hp
 obtain ⟨fn,h1,c,h2,h3,⟨e,s'⟩,h4,h5,xs,h6,rfl⟩ := hp
 dsimp only at h5 h6
 rcases (show e=0 ∨ e=1 by omega) with rfl | rfl
 all_goals
  obtain ⟨_,_,r⟩ := runB_ok hm N hP hC c _ _ _ h4
  refine calls_of_wp h1 h2 (r γ _ w _ ⟨hi,fun t v q => ?_,hb,hlt,?_,rfl⟩ hf fun a' w' γ' hef hs => ?_)
  ·obtain ⟨_,q2⟩ := numb1_get q
   rw [Nat.sub_zero] at q2
   obtain ⟨u,hu,hv⟩ := hA.get q2
   have hlt : t < vs.length := (List.getElem?_eq_some_iff.1 hu).1
   have : (vs.toArray ++ Array.replicate (fn.ntmps - vs.toArray.size) undef).getD t undef=u := by
    rw [Array.getD_eq_getD_getElem?,Array.getElem?_append_left (by simpa using hlt)]
    simp [hu]
   show avOn _ v ((vs.toArray ++ Array.replicate (fn.ntmps - vs.toArray.size) undef).getD t undef)
   rw [this]
   exact hv
  ·have := hA.len
   simp
   omega
  ·obtain ⟨v,hv,hx⟩ := results_run hs h6
   exact ⟨hs.df,v,hv,v,γ',rfl,hef,hx,hs.bx⟩
theorem asB_kB {v : AV} {b : Bool} (h : asB v=some b) : v=kB b := by
 unfold asB at h
 rw [Option.bind_eq_some_iff] at h
 obtain ⟨c,h1,h2⟩ := h
 unfold asC at h1
 split at h1
 ·cases h1
  unfold acB at h2
  split at h2
  ·cases h2
   rfl
  ·cases h2
 ·cases h1
theorem agree_some {h : List HB} {b : Bool} {hi : Nat} {r : CRes} (hr : agree h b hi r=true) : ∃ h' nx',r=some (kB b,h',nx')∧nx'≤hi∧∀ x ∈ h,x ∈ h' := by
 unfold agree at hr
 split at hr
 ·rename_i v h' nx'
  rw [Bool.and_eq_true,Bool.and_eq_true,Nat.ble_eq,List.all_eq_true] at hr
  obtain ⟨h1,h2,h3⟩ := hr
  refine ⟨h',nx',?_,h2,fun x hx => ?_⟩
  ·split at h1
   ·rename_i c hc
    rw [asB_kB hc,show c=b from (by simpa using h1 : b=c).symm]
   ·cases h1
  ·have := h3 x hx
   rw [List.any_eq_true] at this
   obtain ⟨y,hy,e⟩ := this
   rw [Bool.and_eq_true,Nat.beq_eq] at e
   have : x=y := Prod.ext e.1.symm (acsW_eq e.2)
   rw [this]
   exact hy
 ·cases hr
variable {T : Hs→Prop} {z : Nat→Prop}
def AskTrue (S : Sx) (T : Hs→Prop) (z : Nat→Prop) : Prop := ∀ X,T X→∀ a,askOk S a=true→(z a.2.2.2→T ((a.1,a.2.1,a.2.2.1,1) :: X))∧(¬ z a.2.2.2→T ((a.1,a.2.1,a.2.2.1,0) :: X))
theorem allZ_true (hk : AskTrue S T z) : ∀ {l : List Ask} {X : Hs},T X→(∀ a ∈ l,askOk S a=true)→(∀ a ∈ l,z a.2.2.2)→T (allZ l X)
 | [],_,h,_,_ => h
 | (k,a,b,d) :: l,X,h,ho,hz => allZ_true (l := l) hk ((hk X h (k,a,b,d) (ho _ List.mem_cons_self)).1 (hz _ List.mem_cons_self)) (fun a ha => ho a (List.mem_cons_of_mem _ ha)) (fun a ha => hz a (List.mem_cons_of_mem _ ha))
theorem splits_true (hk : AskTrue S T z) : ∀ {l : List Ask} {X : Hs},T X→(∀ a ∈ l,askOk S a=true)→(∃ a ∈ l,¬ z a.2.2.2)→∃ X' ∈ splits l X,T X'
 | [],_,_,_,⟨_,h,_⟩ => by cases h
 | (k,a,b,d) :: l,X,h,ho,hz => by
  by_cases e : z d
  ·obtain ⟨X',h1,h2⟩ := splits_true (l := l) hk ((hk X h (k,a,b,d) (ho _ List.mem_cons_self)).1 e) (fun a ha => ho a (List.mem_cons_of_mem _ ha)) (by
    obtain ⟨c,hc,hn⟩ := hz
    rcases List.mem_cons.1 hc with rfl | hc
    ·exact (hn e).elim
    ·exact ⟨c,hc,hn⟩)
   exact ⟨X',List.mem_cons_of_mem _ h1,h2⟩
  ·exact ⟨_,List.mem_cons_self,(hk X h (k,a,b,d) (ho _ List.mem_cons_self)).2 e⟩
theorem callC_ok {cs : List (FuncId × Nat)} (hm : S.P.follows .mixedOrders=true) (hN : ∀ X,T X→Knows (S.plus X) E) (hP : ∀ X,T X→PrimOk (S.plus X) E w0) (hk : AskTrue S T z)
  (hs : ∀ X,T X→∀ l s r,sqN S l=some s→(S.plus X).kn 0 s 0=some r→(Nat.beq 1 r=true→∀ d ∈ l,z d)∧(Nat.beq 1 r=false→∃ d ∈ l,¬ z d)) : ∀ n X,T X→CallOk S E w0 (callC S cs n X)
 | 0,_,_ => fun _ _ _ _ _ h => by cases h
 | n+1,X,hX => fun f args h nx p hp => by
  have body : ∀ Y,T Y→CallOk S E w0 (bodyC (S.plus Y) (callC S cs n Y)) := fun Y hY => bodyC_ok (S := S.plus Y) hm (hN Y hY) (hP Y hY) (callC_ok hm hN hP hk hs n Y hY)
  unfold callC at hp
  split at hp
  ·exact body X hX f args h nx p hp
  ·simp only [Option.bind_eq_some_iff,ifO_some,List.all_eq_true] at hp
   obtain ⟨l,_,hl,s,h1,r,h2,h3⟩ := hp
   obtain ⟨a1,a0⟩ := hs X hX _ s r h1 h2
   cases e : Nat.beq 1 r with
   | true =>
    rw [e] at h3
    exact body _ (allZ_true hk hX hl fun a ha => a1 e _ (List.mem_map_of_mem ha)) f args h nx p h3
   | false =>
    rw [e] at h3
    obtain ⟨d,hd,hz⟩ := a0 e
    obtain ⟨a,ha,rfl⟩ := List.mem_map.1 hd
    obtain ⟨X',m1,m2⟩ := splits_true hk hX hl ⟨a,ha,hz⟩
    replace h3 : joinC h nx ((splits l X).map fun X' => bodyC (S.plus X') (callC S cs n X') f args h nx)=some p := h3
    unfold joinC at h3
    split at h3
    ·rename_i p0 rs hrs
     rw [Option.bind_eq_some_iff] at h3
     obtain ⟨b,hb,h4⟩ := h3
     rw [ifO_some,List.all_eq_true] at h4
     obtain ⟨h5,h6⟩ := h4
     cases h6
     obtain ⟨h',nx',q1,q2,q3⟩ := agree_some (h5 _ (List.mem_map_of_mem m1))
     intro γ w vs hi hA hb hlt hf
     refine (body X' m2 f args h nx _ q1 γ w vs hi hA hb hlt fun b g1 g2 => hf b g1 (Nat.lt_of_lt_of_le g2 q2)).mono ?_
     rintro _ w' ⟨r',γ',rfl,hef,hv,hx⟩
     exact ⟨r',γ',rfl,hef.wide (Nat.le_refl _) q2,hv,fun x hh => hx x (q3 x hh)⟩
    ·cases h3
end
end Cx
/- VPC -/
namespace Go.Proofs.YtgemmepbdmbmfaaGreatDoor
open Cx Go Go.RowKit
section
variable {N : List Nd} {H : List (Nat × Nat × Nat × Nat)} {K : List (FuncId × List AC)} {L C : List (List Nat × Nat)} {Z : List Nat} {q : Nat→Rat} {σ : Nat→ByteArray} {w0 : World} {cl : List FuncId} {cs pr : List (FuncId × Nat)}
theorem kn_cons {k a b k' a' b' r' : Nat} {r : Nat} (h : knFrom k a b ((k',a',b',r') :: H)=some r) : (k=k'∧a=a'∧b=b'∧r=r') ∨ knFrom k a b H=some r := by
 unfold knFrom at h
 cases e : (Nat.beq k k' && (Nat.beq a a' && Nat.beq b b')) with
 | true =>
  rw [e] at h
  simp only [Bool.and_eq_true,Nat.beq_eq] at e
  exact Or.inl ⟨e.1,e.2.1,e.2.2,(Option.some.inj h).symm⟩
 | false =>
  rw [e] at h
  exact Or.inr h
theorem Hy.add0 (Y : Hy N H L C Z q σ) {a r : Nat} (h : Nat.beq 1 r=true ↔ q a=0) : Hy N ((0,a,0,r) :: H) L C Z q σ where
 nat := Y.nat
 qs := Y.qs
 zs := Y.zs
 par := Y.par
 lit := Y.lit
 k0 := fun a' r' g => by
  rcases kn_cons g with ⟨_,e1,_,e2⟩ | g
  ·rw [e1,e2]
   exact h
  ·exact Y.k0 a' r' g
 k1 := fun a' r' g => by
  rcases kn_cons g with ⟨e,_⟩ | g
  ·cases e
  ·exact Y.k1 a' r' g
 k2 := fun a' r' g => by
  rcases kn_cons g with ⟨e,_⟩ | g
  ·cases e
  ·exact Y.k2 a' r' g
 k4 := fun l a' b' r' g1 g => by
  rcases kn_cons g with ⟨e,_⟩ | g
  ·cases e
  ·exact Y.k4 l a' b' r' g1 g
 k3 := fun a' b' r' g => by
  rcases kn_cons g with ⟨e,_⟩ | g
  ·cases e
  ·exact Y.k3 a' b' r' g
 k6 := fun a' b' r' g => by
  rcases kn_cons g with ⟨e,_⟩ | g
  ·cases e
  ·exact Y.k6 a' b' r' g
 k5 := fun a' r' g => by
  rcases kn_cons g with ⟨e,_⟩ | g
  ·cases e
  ·exact Y.k5 a' r' g
theorem Hy.add3 (Y : Hy N H L C Z q σ) {a b r : Nat} (h : Nat.beq 1 r=true ↔ q a=q b) : Hy N ((3,a,b,r) :: H) L C Z q σ where
 nat := Y.nat
 qs := Y.qs
 zs := Y.zs
 par := Y.par
 lit := Y.lit
 k0 := fun a' r' g => by
  rcases kn_cons g with ⟨e,_⟩ | g
  ·cases e
  ·exact Y.k0 a' r' g
 k1 := fun a' r' g => by
  rcases kn_cons g with ⟨e,_⟩ | g
  ·cases e
  ·exact Y.k1 a' r' g
 k2 := fun a' r' g => by
  rcases kn_cons g with ⟨e,_⟩ | g
  ·cases e
  ·exact Y.k2 a' r' g
 k4 := fun l a' b' r' g1 g => by
  rcases kn_cons g with ⟨e,_⟩ | g
  ·cases e
  ·exact Y.k4 l a' b' r' g1 g
 k3 := fun a' b' r' g => by
  rcases kn_cons g with ⟨_,e1,e2,e3⟩ | g
  ·rw [e1,e2,e3]
   exact h
  ·exact Y.k3 a' b' r' g
 k6 := fun a' b' r' g => by
  rcases kn_cons g with ⟨e,_⟩ | g
  ·cases e
  ·exact Y.k6 a' b' r' g
 k5 := fun a' r' g => by
  rcases kn_cons g with ⟨e,_⟩ | g
  ·cases e
  ·exact Y.k5 a' r' g
theorem ask_true : AskTrue (sx Tryz.prog N H K L C Z pr) (fun X => Hy N (X ++ H) L C Z q σ) (fun d => q d=0) := fun X Y a ha => by
 obtain ⟨k,a,b,d⟩ := a
 have t1 : Nat.beq 1 1=true := rfl
 have t0 : Nat.beq 1 0 ≠ true := fun h => by cases h
 unfold askOk at ha
 rw [Bool.or_eq_true] at ha
 rcases ha with ha | ha
 ·simp only [Bool.and_eq_true,Nat.beq_eq] at ha
  obtain ⟨rfl,rfl,rfl⟩ := ha
  exact ⟨fun h => Hy.add0 Y ⟨fun _ => h,fun _ => t1⟩,fun h => Hy.add0 Y ⟨fun g => (t0 g).elim,fun g => (h g).elim⟩⟩
 ·rw [Bool.and_eq_true,Nat.beq_eq] at ha
  obtain ⟨rfl,hb⟩ := ha
  split at hb
  ·rename_i op ar hn
   rw [Bool.and_eq_true,Nat.beq_eq] at hb
   obtain ⟨rfl,hb⟩ := hb
   have e := beqL_eq hb
   subst e
   have hv : q d=q a - q b := Y.nat d _ hn
   have h2 : q d=0 ↔ q a=q b := by
    rw [hv]
    constructor <;> intro h <;> grind
   exact ⟨fun h => Hy.add3 Y ⟨fun _ => h2.1 h,fun _ => t1⟩,fun h => Hy.add3 Y ⟨fun g => (t0 g).elim,fun g => (h (h2.2 g)).elim⟩⟩
  ·cases hb
theorem sq_nn (y : Rat) : 0≤y*y := by
 by_cases h : y=0
 ·rw [h,Rat.zero_mul]
  exact Rat.le_refl
 ·exact Rat.le_of_lt (sq1_pos h)
theorem sq_sum {x y : Rat} (hx : 0≤x) : x+y*y=0 ↔ x=0∧y=0 := by
 constructor
 ·intro h
  have h2 := sq_nn y
  have h3 : x=0 := by grind
  refine ⟨h3,?_⟩
  have : y*y=0 := by grind
  rcases Rat.mul_eq_zero.1 this with g | g <;> exact g
 ·rintro ⟨rfl,rfl⟩
  grind
theorem sqF_val {H' : List (Nat × Nat × Nat × Nat)} (Y : Hy N H' L C Z q σ) : ∀ {l : List Nat} {s t : Nat},sqF (sx Tryz.prog N H K L C Z pr) s l=some t→0≤q s→0≤q t∧(q t=0 ↔ q s=0∧∀ d ∈ l,q d=0)
 | [],s,t,h,hs => by
  cases h
  exact ⟨hs,fun e => ⟨e,fun d hd => by cases hd⟩,fun e => e.1⟩
 | a :: l,s,t,h,hs => by
  unfold sqF at h
  simp only [Option.bind_eq_some_iff] at h
  obtain ⟨b,h1,c,h2,h3⟩ := h
  have e1 : q b=q a*q a := Hy.nd (H := H') (K := K) (pr := pr) Y h1
  have e2 : q c=q s+q b := Hy.nd (H := H') (K := K) (pr := pr) Y h2
  have n := sq_nn (q a)
  obtain ⟨g1,g2⟩ := sqF_val Y h3 (by grind)
  refine ⟨g1,g2.trans ?_⟩
  have e3 := sq_sum (y := q a) hs
  rw [e2,e1,e3]
  constructor
  ·rintro ⟨⟨x,y⟩,z⟩
   refine ⟨x,fun d hd => ?_⟩
   rcases List.mem_cons.1 hd with rfl | hd
   ·exact y
   ·exact z d hd
  ·rintro ⟨x,y⟩
   exact ⟨⟨x,y a List.mem_cons_self⟩,fun d hd => y d (List.mem_cons_of_mem _ hd)⟩
theorem sqN_val {H' : List (Nat × Nat × Nat × Nat)} (Y : Hy N H' L C Z q σ) {l : List Nat} {s : Nat} (h : sqN (sx Tryz.prog N H K L C Z pr) l=some s) : q s=0 ↔ ∀ d ∈ l,q d=0 := by
 unfold sqN at h
 split at h
 ·cases h
 ·rename_i a l
  rw [Option.bind_eq_some_iff] at h
  obtain ⟨b,h1,h2⟩ := h
  have e1 : q b=q a*q a := Hy.nd (H := H') (K := K) (pr := pr) Y h1
  have n := sq_nn (q a)
  obtain ⟨_,g⟩ := sqF_val Y h2 (by grind)
  rw [g,e1]
  constructor
  ·rintro ⟨x,y⟩ d hd
   rcases List.mem_cons.1 hd with rfl | hd
   ·rcases Rat.mul_eq_zero.1 x with x | x <;> exact x
   ·exact y d hd
  ·intro y
   refine ⟨?_,fun d hd => y d (List.mem_cons_of_mem _ hd)⟩
   rw [y a List.mem_cons_self,Rat.zero_mul]
theorem run_cases {f : FuncId} {args : List AV} {vs : List Value} {k : Nat} {p : List HB × Nat} {b : Bool} (Y : Hy N H L C Z q σ) (hm : (Tryz.prog).follows .mixedOrders=true) {w : World} (hP : ∀ H',Hy N H' L C Z q σ→PrimOk (sx Tryz.prog N H' K L C Z pr) (evS q σ) w) (hr : callC (sx Tryz.prog N H K L C Z pr) cs k [] f args [] 0=some (kB b,p))
  (hA : A2 (avOn (cOn (evS q σ) K (fun _ => none) w)) args vs) : Calls Tryz.prog f vs.toArray w fun e w' => Below w.heap.size w w'∧e=.returned (.bool b) := by
 refine (callC_ok (S := sx Tryz.prog N H K L C Z pr) (E := evS q σ) (w0 := w) (T := fun X => Hy N (X ++ H) L C Z q σ) (z := fun d => q d=0) hm (fun X hX => knows hX) (fun X hX => hP _ hX) ask_true ?_ k [] Y f args [] 0 (kB b,p) hr (fun _ => none) w vs ⟨Below.refl _ _,(fun _ _ h => by cases h)⟩ hA (fun x hx => by cases hx) (fun x hx => by cases hx) (fun _ _ _ => rfl)).mono ?_
 ·intro X hX l s r h1 h2
  have e := hX.k0 s r h2
  have g := sqN_val hX h1
  refine ⟨fun h => g.1 (e.1 h),fun h => ?_⟩
  have hn : ¬ ∀ d ∈ l,q d=0 := fun q' => by
   rw [e.2 (g.2 q')] at h
   cases h
  simpa using hn
 ·rintro _ w' ⟨r,γ',rfl,hef,hv,_⟩
  exact ⟨hef.wi.bel,by rw [show r=.bool b from (asC_on (v := kB b) (c := .inl (.bool b)) rfl hv).1]⟩
theorem run_toldC {f : FuncId} {args : List AV} {vs : List Value} {k : Nat} {p : List HB × Nat} {b : Bool} (Y : Hy N H L C Z q σ) (hc : ∀ f ∈ cl,Closed f) (hm : (Tryz.prog).follows .mixedOrders=true) (hr : callC (sx Tryz.prog N H K L C Z (prC cl)) cs k [] f args [] 0=some (kB b,p)) {w : World} (hp : PreS w)
  (hA : A2 (avOn (cOn (evS q σ) K (fun _ => none) w)) args vs) : Calls Tryz.prog f vs.toArray w fun e w' => Below w.heap.size w w'∧e=.returned (.bool b) := run_cases Y hm (fun _ Y' => primOk Y' hp hc) hr hA
theorem run_toldC' {f : FuncId} {args : List AV} {vs : List Value} (k : Nat) (Y : Hy N H L C Z q σ) (hc : ∀ f ∈ cl,Closed f) (hm : (Tryz.prog).follows .mixedOrders=true) (hr : (callC (sx Tryz.prog N H K L C Z (prC cl)) cs k [] f args [] 0).map (·.1)=some (kB true)) {w : World} (hp : PreS w)
  (hA : A2 (avOn (cOn (evS q σ) K (fun _ => none) w)) args vs) : Calls Tryz.prog f vs.toArray w fun e w' => Below w.heap.size w w'∧e=.returned (.bool true) := by
 rw [Option.map_eq_some_iff] at hr
 obtain ⟨⟨v,p⟩,h1,h2⟩ := hr
 dsimp only at h2
 subst h2
 exact run_toldC Y hc hm h1 hp hA
theorem sq_first {u x : Rat} (h : u=x*x) : 0≤u∧(u=0 ↔ x=0) := by
 rw [h]
 exact ⟨sq_nn x,fun e => (Rat.mul_eq_zero.1 e).elim id id,fun e => by rw [e,Rat.zero_mul]⟩
theorem sq_next {p : Prop} {s x v t : Rat} (h : 0≤s∧(s=0 ↔ p)) (hv : v=x*x) (ht : t=s+v) : 0≤t∧(t=0 ↔ (p∧x=0)) := by
 have n := sq_nn x
 refine ⟨by have := h.1; grind,?_⟩
 rw [ht,hv,sq_sum h.1,h.2]
end
end Go.Proofs.YtgemmepbdmbmfaaGreatDoor
/- VY -/
namespace Go.Proofs.YtgemmepbdmbmfaaGreatDoor
open Go.RowKit Cx
theorem den_num (t : Rat) : t*(t.den : Rat)=((t.num : Int) : Rat) := by
 conv => lhs; lhs; rw [← Rat.mkRat_self t]
 have h0 : (t.den : Rat) ≠ 0 := fun h => t.den_nz (by exact_mod_cast h)
 rw [Rat.mkRat_eq_div,Rat.div_mul_cancel h0]
theorem whole {q : Rat} (h : q.den=1) : q=((q.num : Int) : Rat) := by
 have := den_num q
 rw [h] at this
 rw [← this]
 show q=q*((1 : Nat) : Rat)
 exact (Rat.mul_one q).symm
end Go.Proofs.YtgemmepbdmbmfaaGreatDoor
/- VSZ -/
namespace Go.Proofs.YtgemmepbdmbmfaaGreatDoor
open Go.RowKit Cx
def szW (Z : List Nat) (I : List Bool) (z : Nat) (b : Bool) (nd : Nd) : Bool := match nd.1,nd.2 with
 | 0,[_,n,d] => (Nat.blt n (2 ^ z) && (Nat.blt 0 d && Nat.blt d (2 ^ z))) && (!b || Nat.beq d 1)
 | 1,[_] => Nat.ble 3495259 z && !b
 | 2,[a,c] => (match Z[a]?,Z[c]?,I[a]?,I[c]? with
  | some x,some y,some true,some true => Nat.ble (Nat.max x y+1) z
  | some x,some y,_,_ => Nat.ble (x+y+1) z && !b
  | _,_,_,_ => false)
 | 3,[a,c] => (match Z[a]?,Z[c]?,I[a]?,I[c]? with
  | some x,some y,some true,some true => Nat.ble (Nat.max x y+1) z
  | some x,some y,_,_ => Nat.ble (x+y+1) z && !b
  | _,_,_,_ => false)
 | 4,[a,c] => (match Z[a]?,Z[c]?,I[a]?,I[c]? with
  | some x,some y,some true,some true => Nat.ble (x+y) z
  | some x,some y,_,_ => Nat.ble (x+y) z && !b
  | _,_,_,_ => false)
 | 5,[a] => (match Z[a]?,I[a]? with
  | some x,some true => Nat.ble x z
  | some x,_ => Nat.ble x z && !b
  | _,_ => false)
 | 6,[a,c] => (match Z[a]?,Z[c]? with
  | some x,some y => Nat.ble (x+y) z && !b
  | _,_ => false)
 | 8,i :: xs => (match getsO Z xs with
  | some zs => Nat.blt i xs.length && (Nat.ble ((xs.length+1)*maxL zs+1) z || (xs.all (fun a => match I[a]? with
   | some true => true
   | _ => false) && (match xs[i]? with
   | some a => (match Z[a]? with
    | some x => Nat.ble (x+1) z
    | none => false)
   | none => false)))
  | none => false)
 | _,_ => false
def szC (Z : List Nat) (I : List Bool) : List Nd→List Nat→List Bool→Bool
 | [],[],[] => true
 | nd :: ns,z :: zs,b :: bs => (szW Z I z b nd && Nat.ble z 1000000000000) && szC Z I ns zs bs
 | _,_,_ => false
theorem szC_get {Z : List Nat} {I : List Bool} : ∀ {ns : List Nd} {zs : List Nat} {bs : List Bool} {i z : Nat},szC Z I ns zs bs=true→zs[i]? = some z→∃ nd b,ns[i]? = some nd∧bs[i]? = some b∧szW Z I z b nd=true∧z≤1000000000000
 | [],[],[],_,_,_,h => by simp at h
 | [],[],_ :: _,_,_,h,_ => by cases h
 | [],_ :: _,_,_,_,h,_ => by cases h
 | _ :: _,[],_,_,_,h,_ => by cases h
 | _ :: _,_ :: _,[],_,_,h,_ => by cases h
 | nd :: ns,z' :: zs,b :: bs,0,z,h,e => by
  have : z'=z := by simpa using e
  subst this
  unfold szC at h
  simp only [Bool.and_eq_true,Nat.ble_eq] at h
  exact ⟨nd,b,rfl,rfl,h.1.1,h.1.2⟩
 | nd :: ns,z' :: zs,b :: bs,i+1,z,h,e => by
  unfold szC at h
  rw [Bool.and_eq_true] at h
  obtain ⟨nd2,b2,g1,g2,g3⟩ := szC_get (ns := ns) (zs := zs) (bs := bs) h.2 (show zs[i]? = some z by simpa using e)
  exact ⟨nd2,b2,by simpa using g1,by simpa using g2,g3⟩
theorem szC_len {Z : List Nat} {I : List Bool} : ∀ {ns : List Nd} {zs : List Nat} {bs : List Bool},szC Z I ns zs bs=true→ns.length=zs.length
 | [],[],[],_ => rfl
 | [],[],_ :: _,h => by cases h
 | [],_ :: _,_,h => by cases h
 | _ :: _,[],_,h => by cases h
 | _ :: _,_ :: _,[],h => by cases h
 | _ :: _,_ :: _,_ :: _,h => by
  unfold szC at h
  rw [Bool.and_eq_true] at h
  exact congrArg (· + 1) (szC_len h.2)
structure QW (z : Nat) (x : Rat) : Prop where
 qs : QS z x
 wh : x.den=1
theorem QW.of {z : Nat} {n : Int} (h : n.natAbs < 2 ^ z) (hz : 0 < z) : QW z ((n : Int) : Rat) :=
 ⟨⟨by simpa using h,by
  show ((n : Int) : Rat).den < 2 ^ z
  rw [Rat.den_intCast]
  exact Nat.one_lt_two_pow (by omega)⟩,Rat.den_intCast n⟩
theorem QW.mono {k l : Nat} {x : Rat} (h : QW k x) (hk : k≤l) : QW l x := ⟨h.qs.mono hk,h.wh⟩
theorem two_max {a b x y : Nat} (h1 : a < 2 ^ x) (h2 : b < 2 ^ y) : a+b < 2 ^ (Nat.max x y+1) := by
 have e1 : 2 ^ x≤2 ^ Nat.max x y := Nat.pow_le_pow_right (by decide) (Nat.le_max_left x y)
 have e2 : 2 ^ y≤2 ^ Nat.max x y := Nat.pow_le_pow_right (by decide) (Nat.le_max_right x y)
 rw [Nat.pow_succ]
 omega
theorem QW.add {x y : Nat} {a b : Rat} (h1 : QW x a) (h2 : QW y b) : QW (Nat.max x y+1) (a+b) := by
 rw [whole h1.wh,whole h2.wh,← Rat.intCast_add]
 refine QW.of ?_ (by omega)
 have := two_max h1.qs.num h2.qs.num
 omega
theorem QW.sub {x y : Nat} {a b : Rat} (h1 : QW x a) (h2 : QW y b) : QW (Nat.max x y+1) (a - b) := by
 rw [whole h1.wh,whole h2.wh,← Rat.intCast_sub]
 refine QW.of ?_ (by omega)
 have := two_max h1.qs.num h2.qs.num
 omega
theorem QW.mul {x y : Nat} {a b : Rat} (h1 : QW x a) (h2 : QW y b) : QW (x+y) (a*b) := by
 refine ⟨h1.qs.mul h2.qs,?_⟩
 rw [whole h1.wh,whole h2.wh,← Rat.intCast_mul]
 exact Rat.den_intCast _
theorem QW.neg {x : Nat} {a : Rat} (h1 : QW x a) : QW x (-a) := ⟨h1.qs.neg,h1.wh⟩
theorem lD_one : ∀ {qs : List Rat} {m : Nat},(∀ q ∈ qs,q.den=1)→qs.foldl (fun m q => m*(q.den / Nat.gcd m q.den)) m=m
 | [],_,_ => rfl
 | q :: qs,m,h => by
  rw [List.foldl_cons,h q List.mem_cons_self,Nat.gcd_one_right,Nat.div_self (by decide),Nat.mul_one]
  exact lD_one fun p hp => h p (List.mem_cons_of_mem _ hp)
theorem QW.fac {z : Nat} {qs : List Rat} {x : Rat} (hx : QS z x) (h : x ∈ qs) (hw : ∀ y ∈ qs,y.den=1) : QS (z+1) (x*fac qs) := by
 have hl : lD qs=1 := lD_one hw
 refine ⟨?_,?_⟩
 ·rw [fac_abs h,hl,hw x h,Nat.div_self (by decide),Nat.mul_one]
  exact Nat.lt_of_le_of_lt (Nat.div_le_self _ _) (Nat.lt_of_lt_of_le hx.num (Nat.pow_le_pow_right (by decide) (by omega)))
 ·rw [fac_den h]
  exact Nat.one_lt_two_pow (by omega)
theorem ten_three : ∀ n : Nat,10 ^ n≤2 ^ ((10*n+2) / 3)
 | 0 => by decide
 | 1 => by decide
 | 2 => by decide
 | n+3 => by
  have h := ten_three n
  have e : (10*(n+3)+2) / 3=(10*n+2) / 3+10 := by omega
  rw [e,Nat.pow_add,Nat.pow_add]
  exact Nat.mul_le_mul h (by decide)
theorem QS.rd3 (l : List UInt8) : QS ((10*l.length+2) / 3+5) (Cx.rd l) := by
 have key : ∀ {m : List UInt8},digs m=true→dv m < 2 ^ ((10*m.length+2) / 3) := fun {m} h => Nat.lt_of_lt_of_le (dv_lt (digs_all h)) (ten_three _)
 unfold Cx.rd
 split
 ·rename_i h
  rw [Bool.and_eq_true] at h
  have h1 := key h.1
  have h2 := key h.2
  have h3 := up_len (tailOf l)
  have h4 := low_len (tailOf l)
  have h5 := tail_len l
  apply QS.mkr
  ·rw [sg_abs]; exact Nat.lt_of_lt_of_le h1 (Nat.pow_le_pow_right (by decide) (by omega))
  ·exact Nat.lt_of_lt_of_le h2 (Nat.pow_le_pow_right (by decide) (by omega))
 ·exact QS.zero.mono (by omega)
section
variable {N : List Nd} {Z : List Nat} {I : List Bool} {q : Nat→Rat}
theorem sizes_okW {σ : Nat→ByteArray} (hσ : ∀ j,(σ j).size≤1048576) (hw : wfB 0 N=true) (hz : szC Z I N Z I=true) (hq : ∀ (a : Nat) nd,N[a]? = some nd→q a=valN σ q nd) (h0 : ∀ a,N.length≤a→q a=0) : (∀ (a : Nat) z,Z[a]? = some z→QS z (q a))∧∀ a,QS 1000000000000 (q a) := by
 have h2 : ∀ (a : Nat) z,Z[a]? = some z→QS z (q a)∧(I[a]? = some true→(q a).den=1) := by
  intro a
  induction a using Nat.strongRecOn with
  | ind a ih =>
   intro z hz'
   obtain ⟨nd,b,hn,hb,hs,_⟩ := szC_get hz hz'
   have hwf := wfB_get hw hn
   rw [Nat.zero_add] at hwf
   rw [hq a nd hn,hb]
   obtain ⟨op,xs⟩ := nd
   unfold szW at hs
   unfold valN
   unfold wfN at hwf
   dsimp only at hs hwf ⊢
   have W : ∀ {c x},c < a→Z[c]? = some x→I[c]? = some true→QW x (q c) := fun hc hx hi => ⟨(ih _ hc _ hx).1,(ih _ hc _ hx).2 hi⟩
   have no : ∀ {v : Rat},b=false→(some b=some true→v.den=1) := fun e h => by rw [e] at h; cases h
   split at hs
   ·rename_i s n d
    simp only [Bool.and_eq_true] at hs
    obtain ⟨⟨h1,h2,h3⟩,h4⟩ := hs
    refine ⟨QS.const (by simpa [Nat.blt_eq] using h1) (by simpa [Nat.blt_eq] using h2) (by simpa [Nat.blt_eq] using h3),fun e => ?_⟩
    rw [show b=true from Option.some.inj e] at h4
    have hd : d=1 := by simpa using h4
    subst hd
    show (if s=0 then mkRat (n : Int) 1 else mkRat (-(n : Int)) 1).den=1
    split
    ·rw [Rat.mkRat_one]
     exact Rat.den_intCast _
    ·rw [Rat.mkRat_one]
     exact Rat.den_intCast _
   ·rename_i j
    simp only [Bool.and_eq_true,Nat.ble_eq,Bool.not_eq_true'] at hs
    exact ⟨QS.mono (QS.rd3 _) (by have := hσ j; rw [str_len]; omega),no hs.2⟩
   ·simp only [List.all_cons,List.all_nil,Bool.and_true,Bool.and_eq_true] at hwf
    have l1 := (by simpa [Nat.blt_eq] using hwf.1 : _ < a)
    have l2 := (by simpa [Nat.blt_eq] using hwf.2 : _ < a)
    split at hs
    ·rename_i x y hx hy i1 i2
     rw [Nat.ble_eq] at hs
     have := ((W l1 hx i1).add (W l2 hy i2)).mono hs
     exact ⟨this.qs,fun _ => this.wh⟩
    ·rename_i x y hx hy _
     simp only [Bool.and_eq_true,Nat.ble_eq,Bool.not_eq_true'] at hs
     exact ⟨((ih _ l1 x hx).1.add (ih _ l2 y hy).1).mono hs.1,no hs.2⟩
    ·cases hs
   ·simp only [List.all_cons,List.all_nil,Bool.and_true,Bool.and_eq_true] at hwf
    have l1 := (by simpa [Nat.blt_eq] using hwf.1 : _ < a)
    have l2 := (by simpa [Nat.blt_eq] using hwf.2 : _ < a)
    split at hs
    ·rename_i x y hx hy i1 i2
     rw [Nat.ble_eq] at hs
     have := ((W l1 hx i1).sub (W l2 hy i2)).mono hs
     exact ⟨this.qs,fun _ => this.wh⟩
    ·rename_i x y hx hy _
     simp only [Bool.and_eq_true,Nat.ble_eq,Bool.not_eq_true'] at hs
     exact ⟨((ih _ l1 x hx).1.sub (ih _ l2 y hy).1).mono hs.1,no hs.2⟩
    ·cases hs
   ·simp only [List.all_cons,List.all_nil,Bool.and_true,Bool.and_eq_true] at hwf
    have l1 := (by simpa [Nat.blt_eq] using hwf.1 : _ < a)
    have l2 := (by simpa [Nat.blt_eq] using hwf.2 : _ < a)
    split at hs
    ·rename_i x y hx hy i1 i2
     rw [Nat.ble_eq] at hs
     have := ((W l1 hx i1).mul (W l2 hy i2)).mono hs
     exact ⟨this.qs,fun _ => this.wh⟩
    ·rename_i x y hx hy _
     simp only [Bool.and_eq_true,Nat.ble_eq,Bool.not_eq_true'] at hs
     exact ⟨((ih _ l1 x hx).1.mul (ih _ l2 y hy).1).mono hs.1,no hs.2⟩
    ·cases hs
   ·simp only [List.all_cons,List.all_nil,Bool.and_true] at hwf
    have l1 := (by simpa [Nat.blt_eq] using hwf : _ < a)
    split at hs
    ·rename_i x hx i1
     rw [Nat.ble_eq] at hs
     have := (W l1 hx i1).neg.mono hs
     exact ⟨this.qs,fun _ => this.wh⟩
    ·rename_i x hx _
     simp only [Bool.and_eq_true,Nat.ble_eq,Bool.not_eq_true'] at hs
     exact ⟨((ih _ l1 x hx).1.neg).mono hs.1,no hs.2⟩
    ·cases hs
   ·simp only [List.all_cons,List.all_nil,Bool.and_true,Bool.and_eq_true] at hwf
    split at hs
    ·rename_i x y hx hy
     simp only [Bool.and_eq_true,Nat.ble_eq,Bool.not_eq_true'] at hs
     exact ⟨((ih _ (by simpa [Nat.blt_eq] using hwf.1) x hx).1.div (ih _ (by simpa [Nat.blt_eq] using hwf.2) y hy).1).mono hs.1,no hs.2⟩
    ·cases hs
   ·rename_i i ys
    split at hs
    ·rename_i zs hzs
     rw [Bool.and_eq_true] at hs
     have hi : i < ys.length := by simpa [Nat.blt_eq] using hs.1
     have hwf' : ys.all (Nat.blt · a)=true := hwf
     rw [List.all_eq_true] at hwf'
     have hlt : ∀ c ∈ ys,c < a := fun c hc => by simpa [Nat.blt_eq] using hwf' c hc
     have hm : q ys[i] ∈ ys.map q := List.mem_map_of_mem (List.getElem_mem hi)
     have hg : (ys.map q).getD i 0=q ys[i] := by
      rw [List.getD_eq_getElem?_getD,List.getElem?_map,List.getElem?_eq_getElem hi]
      rfl
     show QS z ((ys.map q).getD i 0*fac (ys.map q))∧(some b=some true→((ys.map q).getD i 0*fac (ys.map q)).den=1)
     rw [hg]
     refine ⟨?_,fun _ => fac_den hm⟩
     rcases Bool.or_eq_true _ _ ▸ hs.2 with h3 | h3
     ·rw [Nat.ble_eq] at h3
      have hall : ∀ y ∈ ys.map q,QS (maxL zs) y := fun y hy => by
       obtain ⟨c,hc,rfl⟩ := List.mem_map.1 hy
       obtain ⟨z',hm',hz2⟩ := getsO_get hzs c hc
       exact (ih c (hlt c hc) z' hz2).1.mono (le_maxL z' hm')
      have := QS.facN hall (x := q ys[i]) hm
      rw [List.length_map] at this
      exact this.mono h3
     ·rw [Bool.and_eq_true,List.all_eq_true] at h3
      obtain ⟨h4,h5⟩ := h3
      have hwh : ∀ y ∈ ys.map q,y.den=1 := fun y hy => by
       obtain ⟨c,hc,rfl⟩ := List.mem_map.1 hy
       obtain ⟨z',_,hz2⟩ := getsO_get hzs c hc
       refine (ih c (hlt c hc) z' hz2).2 ?_
       have := h4 c hc
       split at this
       ·assumption
       ·cases this
      rw [List.getElem?_eq_getElem hi] at h5
      dsimp only at h5
      split at h5
      ·rename_i x hx
       rw [Nat.ble_eq] at h5
       exact (QW.fac (ih _ (hlt _ (List.getElem_mem hi)) x hx).1 hm hwh).mono h5
      ·cases h5
    ·cases hs
   ·cases hs
 refine ⟨fun a z h => (h2 a z h).1,fun a => ?_⟩
 have hl := szC_len hz
 by_cases ha : a < Z.length
 ·obtain ⟨nd,b,_,_,_,hle⟩ := szC_get hz (List.getElem?_eq_getElem ha)
  exact (h2 a _ (List.getElem?_eq_getElem ha)).1.mono hle
 ·rw [h0 a (by omega)]
  exact QS.zero.mono (by decide)
theorem hy_ofW {L C : List (List Nat × Nat)} {σ : Nat→ByteArray} {H : List (Nat × Nat × Nat × Nat)} (hσ : ∀ j,(σ j).size≤1048576) (hw : wfB 0 N=true) (hz : szC Z I N Z I=true) (hl : litB N L=true) (hcn : canB N C=true) (hq : ∀ (a : Nat) nd,N[a]? = some nd→q a=valN σ q nd) (h0 : ∀ a,N.length≤a→q a=0) (hH : hAll q H) : Hy N H L C Z q σ where
 nat := hq
 qs := (sizes_okW hσ hw hz hq h0).2
 zs := (sizes_okW hσ hw hz hq h0).1
 par := hσ
 lit := fun s b h => lit_rd hl hq h
 k0 := fun a r h => kn_at hH h
 k1 := fun a r h => kn_at hH h
 k2 := fun a r h => kn_at hH h
 k3 := fun a b r h => kn_at hH h
 k4 := fun l a b r h1 h2 => by
  have h3 : Nat.beq 1 r=true ↔ q a=q b := kn_at hH h2
  rw [h3,← can_tx hcn hq h1]
  exact ⟨fun e => by rw [e],fun e => tellS_inj (bytesN_inj e)⟩
 k6 := fun a b r h => kn_at hH h
 k5 := fun a r h => kn_at hH h
end
end Go.Proofs.YtgemmepbdmbmfaaGreatDoor
/- CFconed -/
namespace Go.Proofs.YtgemmepbdmbmfaaGreatDoor
open Go.RowKit Cx
theorem closed_coned : Closed 66 :=
 closed_told (N := [(0,[0,1,1]),(0,[0,0,1]),(0,[1,1,1]),(0,[0,3,5]),(0,[0,4,5]),(4,[1,0]),(4,[0,0]),(3,[5,6]),(4,[0,1]),(3,[8,6]),(4,[1,1]),(3,[6,10]),(4,[0,2]),(3,[5,12]),(4,[2,0]),(3,[8,14]),(4,[2,2]),(3,[16,10]),(4,[7,13]),(4,[7,15]),(4,[9,13]),(2,[19,20]),(4,[9,15]),(4,[7,17]),(4,[11,13]),(2,[23,24]),(4,[9,17]),(4,[11,15]),(2,[26,27]),(4,[11,17]),(3,[5,8]),(3,[12,6]),(4,[1,2]),(3,[8,32]),(3,[6,12]),(3,[8,5]),(3,[32,8]),(4,[30,34]),(4,[30,35]),(4,[31,34]),(2,[38,39]),(4,[31,35]),(4,[30,36]),(4,[33,34]),(2,[42,43]),(4,[31,36]),(4,[33,35]),(2,[45,46]),(4,[33,36]),(0,[0,2,1]),(4,[18,49]),(4,[22,49]),(4,[29,49]),(4,[50,3]),(2,[1,53]),(4,[21,4]),(2,[54,55]),(4,[25,0]),(2,[56,57]),(4,[21,3]),(2,[1,59]),(4,[51,4]),(2,[60,61]),(4,[28,0]),(2,[62,63]),(4,[25,3]),(2,[1,65]),(4,[28,4]),(2,[66,67]),(4,[52,0]),(2,[68,69]),(4,[3,58]),(2,[1,71]),(4,[4,64]),(2,[72,73]),(4,[0,70]),(2,[74,75]),(4,[37,49]),(4,[41,49]),(4,[48,49]),(4,[77,3]),(2,[1,80]),(4,[40,4]),(2,[81,82]),(4,[44,0]),(2,[83,84]),(4,[40,3]),(2,[1,86]),(4,[78,4]),(2,[87,88]),(4,[47,0]),(2,[89,90]),(4,[44,3]),(2,[1,92]),(4,[47,4]),(2,[93,94]),(4,[79,0]),(2,[95,96]),(4,[3,85]),(2,[1,98]),(4,[4,91]),(2,[99,100]),(4,[0,97]),(2,[101,102]),(4,[18,103]),(4,[37,76]),(3,[104,105]),(4,[21,103]),(4,[40,76]),(3,[107,108]),(4,[22,103]),(4,[41,76]),(3,[110,111]),(4,[25,103]),(4,[44,76]),(3,[113,114]),(4,[28,103]),(4,[47,76]),(3,[116,117]),(4,[29,103]),(4,[48,76]),(3,[119,120]),(8,[0,106,109,112,115,118,121]),(8,[1,106,109,112,115,118,121]),(8,[2,106,109,112,115,118,121]),(8,[3,106,109,112,115,118,121]),(8,[4,106,109,112,115,118,121]),(8,[5,106,109,112,115,118,121]),(4,[122,49]),(4,[124,49]),(4,[127,49]),(4,[123,126]),(4,[125,129]),(3,[131,132]),(4,[125,123]),(4,[128,126]),(3,[134,135]),(4,[128,129]),(4,[123,123]),(3,[137,138]),(4,[133,125]),(2,[1,140]),(4,[136,126]),(2,[141,142]),(4,[139,130]),(2,[143,144]),(2,[128,129]),(4,[145,146]),(4,[128,3]),(2,[1,148]),(4,[123,4]),(2,[149,150]),(4,[125,0]),(2,[151,152]),(4,[123,3]),(2,[1,154]),(4,[129,4]),(2,[155,156]),(4,[126,0]),(2,[157,158]),(4,[125,3]),(2,[1,160]),(4,[126,4]),(2,[161,162]),(4,[130,0]),(2,[163,164]),(4,[3,153]),(2,[1,166]),(4,[4,159]),(2,[167,168]),(4,[0,165]),(2,[169,170]),(4,[122,171]),(8,[0,153,159,165]),(8,[1,153,159,165]),(8,[2,153,159,165]),(0,[0,3,1]),(0,[0,4,1]),(0,[1,5,1])]) (H := [(0,106,0,0),(0,122,0,0),(0,145,0,0),(1,139,0,0),(0,139,0,0),(2,147,0,0),(0,172,0,1),(0,153,0,0),(4,122,0,1),(4,123,1,1),(4,124,0,1),(4,125,1,1),(4,126,1,1),(4,127,2,1),(4,173,176,1),(4,174,177,1),(4,175,178,1)]) (K := [(174,[.inr (3,7,0,0,0)]),(271,[.inr (3,43,0,0,0),.inr (3,44,0,0,0)]),(271,[.inr (3,59,0,0,0),.inr (3,60,0,0,0)])]) (L := [([49],0),([48],1),([45,49],2),([51,47,53],3),([52,47,53],4),([51],176),([52],177),([45,53],178)]) (C := [([49],0),([48],1),([45,49],2),([51],176),([52],177),([45,53],178)]) (Z := [2,2,2,4,4,4,4,9,4,9,4,9,4,9,4,9,4,9,18,18,18,37,18,18,18,37,18,18,37,18,9,9,4,9,9,9,9,18,18,18,37,18,18,18,37,18,18,37,18,3,21,21,21,25,28,41,70,39,110,41,44,25,70,39,110,41,44,41,86,23,110,114,117,114,232,112,345,21,21,21,25,28,41,70,39,110,41,44,25,70,39,110,41,44,41,86,23,110,114,117,114,232,112,345,363,363,727,382,382,765,363,363,727,382,382,765,382,382,765,363,363,727,5356,5356,5356,5356,5356,5356,5359,5359,5359,10712,10715,21428,10712,10715,21428,10718,10712,21431,26784,26787,26784,53572,26790,80363,10719,91082,5363,5366,5360,10727,5358,16086,5360,5363,5363,10727,5358,16086,5360,5363,5360,10724,5361,16086,16090,16093,16090,32184,16088,48273,53629,64345,64345,64345,3,4,4]) (cl := []) 8 (fun _ h => by cases h) (by kernel_rfl) (by kernel_rfl) (by kernel_rfl) (by kernel_rfl) (by kernel_rfl) (by kernel_rfl) (by kernel_rfl)
end Go.Proofs.YtgemmepbdmbmfaaGreatDoor
/- VPD -/
namespace Cx
open Go Go.RowKit
def a1sB : List A1→List A1→Bool
 | [],[] => true
 | (a,x) :: l,(b,y) :: m => (a == b && acsW x y) && a1sB l m
 | _,_ => false
theorem a1sB_eq : ∀ {l m : List A1},a1sB l m=true→l=m
 | [],[],_ => rfl
 | (a,x) :: l,(b,y) :: m,h => by
  unfold a1sB at h
  simp only [Bool.and_eq_true,beq_iff_eq] at h
  obtain ⟨⟨h1,h2⟩,h3⟩ := h
  rw [h1,acsW_eq h2,a1sB_eq h3]
 | [],_ :: _,h => by cases h
 | _ :: _,[],h => by cases h
def avsB : List AV→List AV→Bool
 | [],[] => true
 | (a,x) :: l,(b,y) :: m => (a == b && a1sB x y) && avsB l m
 | _,_ => false
theorem avsB_eq : ∀ {l m : List AV},avsB l m=true→l=m
 | [],[],_ => rfl
 | (a,x) :: l,(b,y) :: m,h => by
  unfold avsB at h
  simp only [Bool.and_eq_true,beq_iff_eq] at h
  obtain ⟨⟨h1,h2⟩,h3⟩ := h
  rw [h1,a1sB_eq h2,avsB_eq h3]
 | [],_ :: _,h => by cases h
 | _ :: _,[],h => by cases h
abbrev Memo := List (FuncId × List AV × AV)
def memoGet (f : FuncId) (args : List AV) : Memo→Option AV
 | [] => none
 | (g,bs,v) :: m => bif Nat.beq f g && avsB args bs then some v else memoGet f args m
theorem memoGet_mem {f : FuncId} {args : List AV} {v : AV} : ∀ {m : Memo},memoGet f args m=some v→(f,args,v) ∈ m
 | [],h => by cases h
 | (g,bs,u) :: m,h => by
  unfold memoGet at h
  cases e : (Nat.beq f g && avsB args bs) with
  | true =>
   rw [e] at h
   rw [Bool.and_eq_true,Nat.beq_eq] at e
   rw [e.1,avsB_eq e.2,show u=v from Option.some.inj h]
   exact List.mem_cons_self
  | false =>
   rw [e] at h
   exact List.mem_cons_of_mem _ (memoGet_mem h)
def bareC : AC→Bool
 | .inl _ => true
 | .inr (k,_) => Nat.ble k 2
def bareV (v : AV) : Bool := v.2.all fun x => x.2.all bareC
def callD (S : Sx) (cs : List (FuncId × Nat)) (M : Memo) : Nat→Hs→CallF
 | 0,_,_,_,_,_ => none
 | n+1,X,f,args,h,nx => match memoGet f args M with
  | some v => some (v,h,nx)
  | none => match prGet f cs with
   | none => bodyC (S.plus X) (callD S cs M n X) f args h nx
   | some c => (asks (S.plus X) h c args).bind fun l => ifO (l.all (askOk S)) ((sqN S (l.map (·.2.2.2))).bind fun s => ((S.plus X).kn 0 s 0).bind fun r =>
     bif Nat.beq 1 r then bodyC (S.plus (allZ l X)) (callD S cs M n (allZ l X)) f args h nx
     else joinC h nx ((splits l X).map fun X' => bodyC (S.plus X') (callD S cs M n X') f args h nx))
def MemoOk (S : Sx) (E : Ev S.nb) (w0 : World) (M : Memo) : Prop := ∀ f args v,(f,args,v) ∈ M→∀ (γ : Nat→Option Nat) (w : World) (vs : List Value),WI w0 γ w→A2 (avOn (cOn E S.K γ w)) args vs →
 Calls S.P f vs.toArray w fun e w' => ∃ r,e=.returned r∧(∀ wr nx,(∀ b ∈ wr,Live γ b)→Ef S.nb w0 wr nx nx γ w γ w')∧avOn (cOn E S.K γ w') v r
section
variable {S : Sx} {E : Ev S.nb} {w0 : World}
theorem bareC_on {K K' : List (FuncId × List AC)} {γ γ' : Nat→Option Nat} {w : World} {d : Nat} {c : AC} {v : Value} (hc : bareC c=true) (h : cellOn E K γ w d c v) : cellOn E K' γ' w d c v := by
 cases c with
 | inl u =>
  unfold cellOn at h ⊢
  exact h
 | inr t =>
  obtain ⟨k,a,b,n,c⟩ := t
  have hk : k≤2 := by
   unfold bareC at hc
   rw [Nat.ble_eq] at hc
   exact hc
  match k,hk with
  | 0,_ =>
   unfold cellOn at h ⊢
   exact h
  | 1,_ =>
   unfold cellOn at h ⊢
   exact h
  | 2,_ =>
   unfold cellOn at h ⊢
   exact h
theorem A2_imp {α : Type} {R R' : α→Value→Prop} {P : α→Prop} (h : ∀ a v,P a→R a v→R' a v) : ∀ {l : List α} {vs : List Value},(∀ a ∈ l,P a)→A2 R l vs→A2 R' l vs
 | [],[],_,_ => trivial
 | _ :: _,_ :: _,hp,q => ⟨h _ _ (hp _ List.mem_cons_self) q.1,A2_imp h (fun a ha => hp a (List.mem_cons_of_mem _ ha)) q.2⟩
 | [],_ :: _,_,q => q.elim
 | _ :: _,[],_,q => q.elim
theorem bareV_on {K K' : List (FuncId × List AC)} {γ γ' : Nat→Option Nat} {w : World} {x : AV} {v : Value} (hx : bareV x=true) (h : avOn (cOn E K γ w) x v) : avOn (cOn E K' γ' w) x v := by
 unfold bareV at hx
 rw [List.all_eq_true] at hx
 have one : ∀ (y : A1) u,(∀ c ∈ y.2,bareC c=true)→a1On (cOn E K γ w) y u→a1On (cOn E K' γ' w) y u := fun y u hy q => by
  obtain ⟨b,cs⟩ := y
  cases b with
  | true =>
   obtain ⟨us,e,q⟩ := q
   exact ⟨us,e,A2_imp (P := fun c => bareC c=true) (fun _ _ hc q => bareC_on hc q) hy q⟩
  | false => exact A2_imp (P := fun c => bareC c=true) (fun _ _ hc q => bareC_on hc q) hy q
 have all : ∀ y ∈ x.2,∀ c ∈ y.2,bareC c=true := fun y hy c hc => (List.all_eq_true.1 (hx y hy)) c hc
 obtain ⟨b,ys⟩ := x
 cases b with
 | true =>
  obtain ⟨us,e,q⟩ := h
  exact ⟨us,e,A2_imp (P := fun y : A1 => ∀ c ∈ y.2,bareC c=true) (fun y u hy q => one y u hy q) all q⟩
 | false => exact A2_imp (P := fun y : A1 => ∀ c ∈ y.2,bareC c=true) (fun y u hy q => one y u hy q) all h
variable {T : Hs→Prop} {z : Nat→Prop}
theorem callD_ok {cs : List (FuncId × Nat)} {M : Memo} (hm : S.P.follows .mixedOrders=true) (hM : MemoOk S E w0 M) (hN : ∀ X,T X→Knows (S.plus X) E) (hP : ∀ X,T X→PrimOk (S.plus X) E w0) (hk : AskTrue S T z)
  (hs : ∀ X,T X→∀ l s r,sqN S l=some s→(S.plus X).kn 0 s 0=some r→(Nat.beq 1 r=true→∀ d ∈ l,z d)∧(Nat.beq 1 r=false→∃ d ∈ l,¬ z d)) : ∀ n X,T X→CallOk S E w0 (callD S cs M n X)
 | 0,_,_ => fun _ _ _ _ _ h => by cases h
 | n+1,X,hX => fun f args h nx p hp => by
  have body : ∀ Y,T Y→CallOk S E w0 (bodyC (S.plus Y) (callD S cs M n Y)) := fun Y hY => bodyC_ok (S := S.plus Y) hm (hN Y hY) (hP Y hY) (callD_ok hm hM hN hP hk hs n Y hY)
  unfold callD at hp
  split at hp
  ·rename_i v hv
   cases hp
   intro γ w vs hi hA hb hlt hf
   refine (hM f args v (memoGet_mem hv) γ w vs hi hA).mono ?_
   rintro _ w' ⟨r,rfl,hef,hr⟩
   have live : ∀ b ∈ h.map (·.1),Live γ b := fun b hb' => by
    obtain ⟨x,hx,rfl⟩ := List.mem_map.1 hb'
    obtain ⟨_,_,_,_,hl,_⟩ := hb x hx
    exact hl
   exact ⟨r,γ,rfl,hef _ _ live,hr,fun x hx => (hef [] nx no_live).box hi (hb x hx) (by simp)⟩
  ·split at hp
   ·exact body X hX f args h nx p hp
   ·simp only [Option.bind_eq_some_iff,ifO_some,List.all_eq_true] at hp
    obtain ⟨l,_,hl,s,h1,r,h2,h3⟩ := hp
    obtain ⟨a1,a0⟩ := hs X hX _ s r h1 h2
    cases e : Nat.beq 1 r with
    | true =>
     rw [e] at h3
     exact body _ (allZ_true hk hX hl fun a ha => a1 e _ (List.mem_map_of_mem ha)) f args h nx p h3
    | false =>
     rw [e] at h3
     obtain ⟨d,hd,hz⟩ := a0 e
     obtain ⟨a,ha,rfl⟩ := List.mem_map.1 hd
     obtain ⟨X',m1,m2⟩ := splits_true hk hX hl ⟨a,ha,hz⟩
     replace h3 : joinC h nx ((splits l X).map fun X' => bodyC (S.plus X') (callD S cs M n X') f args h nx)=some p := h3
     unfold joinC at h3
     split at h3
     ·rename_i p0 rs hrs
      rw [Option.bind_eq_some_iff] at h3
      obtain ⟨b,hb,h4⟩ := h3
      rw [ifO_some,List.all_eq_true] at h4
      obtain ⟨h5,h6⟩ := h4
      cases h6
      obtain ⟨h',nx',q1,q2,q3⟩ := agree_some (h5 _ (List.mem_map_of_mem m1))
      intro γ w vs hi hA hb hlt hf
      refine (body X' m2 f args h nx _ q1 γ w vs hi hA hb hlt fun b g1 g2 => hf b g1 (Nat.lt_of_lt_of_le g2 q2)).mono ?_
      rintro _ w' ⟨r',γ',rfl,hef,hv,hx⟩
      exact ⟨r',γ',rfl,hef.wide (Nat.le_refl _) q2,hv,fun x hh => hx x (q3 x hh)⟩
     ·cases h3
theorem memo_run {K1 K2 : List (FuncId × List AC)} {H1 H2 : Hs} {M : Memo} {f : FuncId} {args : List AV} {v : AV} {p : List HB × Nat} {call : CallF} (hC : CallOk { S with H := H1,K := K1 } E w0 call) (hr : call f args [] 0=some (v,p)) (ha : args.all bareV=true) (hv : bareV v=true) (hM : MemoOk { S with H := H2,K := K2 } E w0 M) : MemoOk { S with H := H2,K := K2 } E w0 ((f,args,v) :: M) := fun g bs u hmem => by
 rcases List.mem_cons.1 hmem with e | hmem
 ·cases e
  intro γ w vs hi hA
  rw [List.all_eq_true] at ha
  refine (hC f args [] 0 (v,p) hr (fun _ => none) w vs ⟨hi.bel,(fun _ _ h => by cases h)⟩ (A2_imp (P := fun x => bareV x=true) (fun _ _ hx q => bareV_on hx q) ha hA) (fun x hx => by cases hx) (fun x hx => by cases hx) (fun _ _ _ => rfl)).mono ?_
  rintro _ w' ⟨r,γ',rfl,hef,hr,_⟩
  refine ⟨r,rfl,fun wr nx hl => ⟨leG.refl _,fun _ _ => rfl,fun _ _ h => Or.inl h,⟨hef.wi.bel,fun b G q => ⟨(hi.lo b G q).1,Nat.lt_of_lt_of_le (hi.lo b G q).2 hef.gr.size⟩⟩,hef.gr,fun G hG _ => hef.keep G hG (fun b hb => by cases hb),hl⟩,bareV_on hv hr⟩
 ·exact hM g bs u hmem
def memoOne (S : Sx) (cs : List (FuncId × Nat)) (k : Nat) : Memo→Bool
 | (f,args,v) :: M => (match callD S cs M k [] f args [] 0 with
  | some (u,_) => avsB [u] [v]
  | none => false) && (args.all bareV && bareV v)
 | [] => false
def memoChk (S : Sx) (cs : List (FuncId × Nat)) (k : Nat) : Nat→Memo→Bool
 | 0,_ => true
 | n+1,M => memoOne S cs k M && memoChk S cs k n M.tail
def qA (l : List Nat) : AV := (false,[(true,l.flatMap qCells)])
def tA (l : List Nat) : AV := (false,[(true,l.map fun a => .inr (1,a,0,0,0))])
theorem memo_nil : MemoOk S E w0 [] := fun _ _ _ h => by cases h
end
end Cx
/- VPE -/
namespace Go.Proofs.YtgemmepbdmbmfaaGreatDoor
open Cx Go Go.RowKit
section
variable {N : List Nd} {H : List (Nat × Nat × Nat × Nat)} {K : List (FuncId × List AC)} {L C : List (List Nat × Nat)} {Z : List Nat} {q : Nat→Rat} {σ : Nat→ByteArray} {cl : List FuncId} {cs pr : List (FuncId × Nat)} {M : Memo} {w : World}
theorem callD_told (Y : Hy N H L C Z q σ) (hc : ∀ f ∈ cl,Closed f) (hm : (Tryz.prog).follows .mixedOrders=true) (hp : PreS w) (hM : MemoOk (sx Tryz.prog N H K L C Z (prC cl)) (evS q σ) w M) (k : Nat) : CallOk (sx Tryz.prog N H K L C Z (prC cl)) (evS q σ) w (callD (sx Tryz.prog N H K L C Z (prC cl)) cs M k []) :=
 callD_ok (S := sx Tryz.prog N H K L C Z (prC cl)) (E := evS q σ) (w0 := w) (T := fun X => Hy N (X ++ H) L C Z q σ) (z := fun d => q d=0) hm hM (fun X hX => knows hX) (fun X hX => primOk hX hp hc) ask_true (fun X hX l s r h1 h2 => by
  have e := hX.k0 s r h2
  have g := sqN_val hX h1
  refine ⟨fun h => g.1 (e.1 h),fun h => ?_⟩
  have hn : ¬ ∀ d ∈ l,q d=0 := fun q' => by
   rw [e.2 (g.2 q')] at h
   cases h
  simpa using hn) k [] Y
def MemoAll (N : List Nd) (L C : List (List Nat × Nat)) (Z : List Nat) (q : Nat→Rat) (σ : Nat→ByteArray) (cl : List FuncId) (w : World) (M : Memo) : Prop := ∀ H K,MemoOk (sx Tryz.prog N H K L C Z (prC cl)) (evS q σ) w M
theorem memoAll_nil : MemoAll N L C Z q σ cl w [] := fun _ _ => memo_nil
theorem memoAll_cons {H1 : List (Nat × Nat × Nat × Nat)} (Y : Hy N H1 L C Z q σ) (hc : ∀ f ∈ cl,Closed f) (hm : (Tryz.prog).follows .mixedOrders=true) (hp : PreS w) {f : FuncId} {args : List AV} {v : AV} (k : Nat) (hr : memoOne (sx Tryz.prog N H1 [] L C Z (prC cl)) cs k ((f,args,v) :: M)=true) (hM : MemoAll N L C Z q σ cl w M) : MemoAll N L C Z q σ cl w ((f,args,v) :: M) := fun H K => by
 unfold memoOne at hr
 simp only [Bool.and_eq_true] at hr
 obtain ⟨h1,h2,h3⟩ := hr
 split at h1
 ·rename_i u p hu
  have e := avsB_eq h1
  cases e
  exact memo_run (S := sx Tryz.prog N H K L C Z (prC cl)) (K1 := []) (H1 := H1) (K2 := K) (H2 := H) (callD_told (K := []) (cs := cs) Y hc hm hp (hM H1 []) k) hu h2 h3 (hM H K)
 ·cases h1
theorem memoAll_drop {i : Nat} {H1 : List (Nat × Nat × Nat × Nat)} (Y : Hy N H1 L C Z q σ) (hc : ∀ f ∈ cl,Closed f) (hm : (Tryz.prog).follows .mixedOrders=true) (hp : PreS w) {k : Nat} (hr : memoOne (sx Tryz.prog N H1 [] L C Z (prC cl)) cs k (M.drop i)=true) (hM : MemoAll N L C Z q σ cl w (M.drop (i+1))) : MemoAll N L C Z q σ cl w (M.drop i) := by
 rw [← List.tail_drop] at hM
 generalize M.drop i=D at *
 match D with
 | [] => cases hr
 | (f,args,v) :: D => exact memoAll_cons Y hc hm hp k hr hM
theorem memoAll_chk {H1 : List (Nat × Nat × Nat × Nat)} (Y : Hy N H1 L C Z q σ) (hc : ∀ f ∈ cl,Closed f) (hm : (Tryz.prog).follows .mixedOrders=true) (hp : PreS w) {k : Nat} : ∀ (n : Nat) {M : Memo},memoChk (sx Tryz.prog N H1 [] L C Z (prC cl)) cs k n M=true→MemoAll N L C Z q σ cl w (M.drop n)→MemoAll N L C Z q σ cl w M
 | 0,_,_,h => h
 | n+1,M,hr,h => by
  unfold memoChk at hr
  rw [Bool.and_eq_true] at hr
  have h1 := memoAll_chk Y hc hm hp n hr.2 (by rw [List.drop_tail]; exact h)
  exact memoAll_drop (i := 0) Y hc hm hp hr.1 (by rw [Nat.zero_add,List.drop_one]; exact h1)
theorem run_toldD' {f : FuncId} {args : List AV} {vs : List Value} (k : Nat) (Y : Hy N H L C Z q σ) (hc : ∀ f ∈ cl,Closed f) (hm : (Tryz.prog).follows .mixedOrders=true) (hp : PreS w) (hM : MemoAll N L C Z q σ cl w M) (hr : (callD (sx Tryz.prog N H K L C Z (prC cl)) cs M k [] f args [] 0).map (·.1)=some (kB true))
  (hA : A2 (avOn (cOn (evS q σ) K (fun _ => none) w)) args vs) : Calls Tryz.prog f vs.toArray w fun e w' => Below w.heap.size w w'∧e=.returned (.bool true) := by
 rw [Option.map_eq_some_iff] at hr
 obtain ⟨⟨v,p⟩,h1,h2⟩ := hr
 dsimp only at h2
 subst h2
 refine (callD_told (cs := cs) Y hc hm hp (hM H K) k f args [] 0 (kB true,p) h1 (fun _ => none) w vs ⟨Below.refl _ _,(fun _ _ h => by cases h)⟩ hA (fun x hx => by cases hx) (fun x hx => by cases hx) (fun _ _ _ => rfl)).mono ?_
 rintro _ w' ⟨r,γ',rfl,hef,hv,_⟩
 exact ⟨hef.wi.bel,by rw [show r=.bool true from (asC_on (v := kB true) (c := .inl (.bool true)) rfl hv).1]⟩
end
end Go.Proofs.YtgemmepbdmbmfaaGreatDoor
/- VPF -/
namespace Cx
open Go Go.RowKit
def hbsIn (l m : List HB) : Bool := l.all fun x => m.any fun y => Nat.beq x.1 y.1 && acsW x.2 y.2
theorem hbsIn_mem {l m : List HB} (h : hbsIn l m=true) {x : HB} (hx : x ∈ l) : x ∈ m := by
 unfold hbsIn at h
 rw [List.all_eq_true] at h
 have := h x hx
 rw [List.any_eq_true] at this
 obtain ⟨y,hy,e⟩ := this
 rw [Bool.and_eq_true,Nat.beq_eq] at e
 rw [show x=y from Prod.ext e.1 (acsW_eq e.2)]
 exact hy
abbrev MemoX := List (FuncId × List AV × List HB × Nat × AV × List HB × Nat)
def mxGet (f : FuncId) (args : List AV) (h : List HB) (nx : Nat) : MemoX→CRes
 | [] => none
 | (g,bs,k,n,p) :: m => bif (Nat.beq f g && Nat.beq nx n) && (avsB args bs && hbsIn k h) then some p else mxGet f args h nx m
section
variable {S : Sx} {E : Ev S.nb} {w0 : World}
def CallAt (S : Sx) (E : Ev S.nb) (w0 : World) (f : FuncId) (args : List AV) (h : List HB) (nx : Nat) (p : AV × List HB × Nat) : Prop := ∀ (γ : Nat→Option Nat) (w : World) (vs : List Value),WI w0 γ w→A2 (avOn (cOn E S.K γ w)) args vs→(∀ x ∈ h,boxOn E S.K γ w x)→(∀ x ∈ h,x.1 < nx)→(∀ b,nx≤b→b < p.2.2→γ b=none) →
 Calls S.P f vs.toArray w fun e w' => ∃ r γ',e=.returned r∧Ef S.nb w0 (h.map (·.1)) nx p.2.2 γ w γ' w'∧avOn (cOn E S.K γ' w') p.1 r∧∀ x ∈ p.2.1,boxOn E S.K γ' w' x
def MemoXOk (S : Sx) (E : Ev S.nb) (w0 : World) (B : MemoX) : Prop := ∀ f args h nx p,(f,args,h,nx,p) ∈ B→CallAt S E w0 f args h nx p
theorem mxGet_ok : ∀ {B : MemoX} {f : FuncId} {args : List AV} {h : List HB} {nx : Nat} {p : AV × List HB × Nat},MemoXOk S E w0 B→mxGet f args h nx B=some p→CallAt S E w0 f args h nx p
 | [],_,_,_,_,_,_,h => by cases h
 | (g,bs,k,n,u) :: m,f,args,h,nx,p,hB,hg => by
  unfold mxGet at hg
  cases e : ((Nat.beq f g && Nat.beq nx n) && (avsB args bs && hbsIn k h)) with
  | true =>
   rw [e] at hg
   have hu : u=p := Option.some.inj hg
   simp only [Bool.and_eq_true,Nat.beq_eq] at e
   obtain ⟨⟨e1,e2⟩,e3,e4⟩ := e
   subst hu e1 e2
   have ea := avsB_eq e3
   subst ea
   have base := hB f args k nx u List.mem_cons_self
   intro γ w vs hi hA hb hlt hf
   refine (base γ w vs hi hA (fun x hx => hb x (hbsIn_mem e4 hx)) (fun x hx => hlt x (hbsIn_mem e4 hx)) hf).mono ?_
   rintro _ w' ⟨r,γ',rfl,hef,hr,hx⟩
   refine ⟨r,γ',rfl,hef.more (fun b hb' => ?_) (fun b hb' => ?_),hr,hx⟩
   ·obtain ⟨x,hx',rfl⟩ := List.mem_map.1 hb'
    exact List.mem_map.2 ⟨x,hbsIn_mem e4 hx',rfl⟩
   ·obtain ⟨x,hx',rfl⟩ := List.mem_map.1 hb'
    obtain ⟨_,_,_,_,hl,_⟩ := hb x hx'
    exact hl
  | false =>
   rw [e] at hg
   exact mxGet_ok (fun f' a' h' n' p' hm => hB f' a' h' n' p' (List.mem_cons_of_mem _ hm)) hg
def callE (S : Sx) (cs : List (FuncId × Nat)) (M : Memo) (B : MemoX) : Nat→Hs→CallF
 | 0,_,_,_,_,_ => none
 | n+1,X,f,args,h,nx => match memoGet f args M with
  | some v => some (v,h,nx)
  | none => match mxGet f args h nx B with
   | some p => some p
   | none => match prGet f cs with
    | none => bodyC (S.plus X) (callE S cs M B n X) f args h nx
    | some c => (asks (S.plus X) h c args).bind fun l => ifO (l.all (askOk S)) ((sqN S (l.map (·.2.2.2))).bind fun s => ((S.plus X).kn 0 s 0).bind fun r =>
      bif Nat.beq 1 r then bodyC (S.plus (allZ l X)) (callE S cs M B n (allZ l X)) f args h nx
      else joinC h nx ((splits l X).map fun X' => bodyC (S.plus X') (callE S cs M B n X') f args h nx))
variable {T : Hs→Prop} {z : Nat→Prop}
theorem callE_ok {cs : List (FuncId × Nat)} {M : Memo} {B : MemoX} (hm : S.P.follows .mixedOrders=true) (hM : MemoOk S E w0 M) (hB : MemoXOk S E w0 B) (hN : ∀ X,T X→Knows (S.plus X) E) (hP : ∀ X,T X→PrimOk (S.plus X) E w0) (hk : AskTrue S T z)
  (hs : ∀ X,T X→∀ l s r,sqN S l=some s→(S.plus X).kn 0 s 0=some r→(Nat.beq 1 r=true→∀ d ∈ l,z d)∧(Nat.beq 1 r=false→∃ d ∈ l,¬ z d)) : ∀ n X,T X→CallOk S E w0 (callE S cs M B n X)
 | 0,_,_ => fun _ _ _ _ _ h => by cases h
 | n+1,X,hX => fun f args h nx p hp => by
  have body : ∀ Y,T Y→CallOk S E w0 (bodyC (S.plus Y) (callE S cs M B n Y)) := fun Y hY => bodyC_ok (S := S.plus Y) hm (hN Y hY) (hP Y hY) (callE_ok hm hM hB hN hP hk hs n Y hY)
  unfold callE at hp
  split at hp
  ·rename_i v hv
   cases hp
   intro γ w vs hi hA hb hlt hf
   refine (hM f args v (memoGet_mem hv) γ w vs hi hA).mono ?_
   rintro _ w' ⟨r,rfl,hef,hr⟩
   have live : ∀ b ∈ h.map (·.1),Live γ b := fun b hb' => by
    obtain ⟨x,hx,rfl⟩ := List.mem_map.1 hb'
    obtain ⟨_,_,_,_,hl,_⟩ := hb x hx
    exact hl
   exact ⟨r,γ,rfl,hef _ _ live,hr,fun x hx => (hef [] nx no_live).box hi (hb x hx) (by simp)⟩
  ·split at hp
   ·rename_i u hu
    cases hp
    exact mxGet_ok hB hu
   ·split at hp
    ·exact body X hX f args h nx p hp
    ·simp only [Option.bind_eq_some_iff,ifO_some,List.all_eq_true] at hp
     obtain ⟨l,_,hl,s,h1,r,h2,h3⟩ := hp
     obtain ⟨a1,a0⟩ := hs X hX _ s r h1 h2
     cases e : Nat.beq 1 r with
     | true =>
      rw [e] at h3
      exact body _ (allZ_true hk hX hl fun a ha => a1 e _ (List.mem_map_of_mem ha)) f args h nx p h3
     | false =>
      rw [e] at h3
      obtain ⟨d,hd,hz⟩ := a0 e
      obtain ⟨a,ha,rfl⟩ := List.mem_map.1 hd
      obtain ⟨X',m1,m2⟩ := splits_true hk hX hl ⟨a,ha,hz⟩
      replace h3 : joinC h nx ((splits l X).map fun X' => bodyC (S.plus X') (callE S cs M B n X') f args h nx)=some p := h3
      unfold joinC at h3
      split at h3
      ·rename_i p0 rs hrs
       rw [Option.bind_eq_some_iff] at h3
       obtain ⟨b,hb,h4⟩ := h3
       rw [ifO_some,List.all_eq_true] at h4
       obtain ⟨h5,h6⟩ := h4
       cases h6
       obtain ⟨h',nx',q1,q2,q3⟩ := agree_some (h5 _ (List.mem_map_of_mem m1))
       intro γ w vs hi hA hb hlt hf
       refine (body X' m2 f args h nx _ q1 γ w vs hi hA hb hlt fun b g1 g2 => hf b g1 (Nat.lt_of_lt_of_le g2 q2)).mono ?_
       rintro _ w' ⟨r',γ',rfl,hef,hv,hx⟩
       exact ⟨r',γ',rfl,hef.wide (Nat.le_refl _) q2,hv,fun x hh => hx x (q3 x hh)⟩
      ·cases h3
def mxOne (S : Sx) (cs : List (FuncId × Nat)) (M : Memo) (k : Nat) : MemoX→Bool
 | (f,args,h,nx,v,h2,n2) :: B => (match callE S cs M B k [] f args h nx with
  | some (u,h3,n3) => avsB [u] [v] && (hbsIn h2 h3 && Nat.beq n3 n2)
  | none => false)
 | [] => false
end
end Cx
namespace Go.Proofs.YtgemmepbdmbmfaaGreatDoor
open Cx Go Go.RowKit
section
variable {N : List Nd} {H : List (Nat × Nat × Nat × Nat)} {K : List (FuncId × List AC)} {L C : List (List Nat × Nat)} {Z : List Nat} {q : Nat→Rat} {σ : Nat→ByteArray} {cl : List FuncId} {cs : List (FuncId × Nat)} {M : Memo} {B : MemoX} {w : World}
theorem callE_told (Y : Hy N H L C Z q σ) (hc : ∀ f ∈ cl,Closed f) (hm : (Tryz.prog).follows .mixedOrders=true) (hp : PreS w) (hM : MemoOk (sx Tryz.prog N H K L C Z (prC cl)) (evS q σ) w M) (hB : MemoXOk (sx Tryz.prog N H K L C Z (prC cl)) (evS q σ) w B) (k : Nat) : CallOk (sx Tryz.prog N H K L C Z (prC cl)) (evS q σ) w (callE (sx Tryz.prog N H K L C Z (prC cl)) cs M B k []) :=
 callE_ok (S := sx Tryz.prog N H K L C Z (prC cl)) (E := evS q σ) (w0 := w) (T := fun X => Hy N (X ++ H) L C Z q σ) (z := fun d => q d=0) hm hM hB (fun X hX => knows hX) (fun X hX => primOk hX hp hc) ask_true (fun X hX l s r h1 h2 => by
  have e := hX.k0 s r h2
  have g := sqN_val hX h1
  refine ⟨fun h => g.1 (e.1 h),fun h => ?_⟩
  have hn : ¬ ∀ d ∈ l,q d=0 := fun q' => by
   rw [e.2 (g.2 q')] at h
   cases h
  simpa using hn) k [] Y
theorem memoX_nil : MemoXOk (sx Tryz.prog N H K L C Z (prC cl)) (evS q σ) w [] := fun _ _ _ _ _ h => by cases h
theorem memoX_drop {i : Nat} (Y : Hy N H L C Z q σ) (hc : ∀ f ∈ cl,Closed f) (hm : (Tryz.prog).follows .mixedOrders=true) (hp : PreS w) (hM : MemoAll N L C Z q σ cl w M) {k : Nat} (hr : mxOne (sx Tryz.prog N H K L C Z (prC cl)) cs M k (B.drop i)=true) (hB : MemoXOk (sx Tryz.prog N H K L C Z (prC cl)) (evS q σ) w (B.drop (i+1))) : MemoXOk (sx Tryz.prog N H K L C Z (prC cl)) (evS q σ) w (B.drop i) := by
 rw [← List.tail_drop] at hB
 generalize B.drop i=D at *
 match D with
 | [] => cases hr
 | (f,args,h,nx,v,h2,n2) :: D =>
  unfold mxOne at hr
  dsimp only at hr
  split at hr
  ·rename_i u h3 n3 hu
   simp only [Bool.and_eq_true,Nat.beq_eq] at hr
   obtain ⟨g1,g2,g3⟩ := hr
   have e := avsB_eq g1
   cases e
   subst g3
   have base := callE_told (cs := cs) Y hc hm hp (hM H K) hB k f args h nx (v,h3,n3) hu
   intro f' a' h' n' p' hmem
   rcases List.mem_cons.1 hmem with e | hmem
   ·cases e
    intro γ w1 vs hi hA hb hlt hf
    refine (base γ w1 vs hi hA hb hlt hf).mono ?_
    rintro _ w' ⟨r,γ',rfl,hef,hv,hx⟩
    exact ⟨r,γ',rfl,hef,hv,fun x hh => hx x (hbsIn_mem g2 hh)⟩
   ·exact hB f' a' h' n' p' hmem
  ·cases hr
theorem run_toldE' {f : FuncId} {args : List AV} {vs : List Value} (k : Nat) (Y : Hy N H L C Z q σ) (hc : ∀ f ∈ cl,Closed f) (hm : (Tryz.prog).follows .mixedOrders=true) (hp : PreS w) (hM : MemoAll N L C Z q σ cl w M) (hB : MemoXOk (sx Tryz.prog N H K L C Z (prC cl)) (evS q σ) w B) (hr : (callE (sx Tryz.prog N H K L C Z (prC cl)) cs M B k [] f args [] 0).map (·.1)=some (kB true))
  (hA : A2 (avOn (cOn (evS q σ) K (fun _ => none) w)) args vs) : Calls Tryz.prog f vs.toArray w fun e w' => Below w.heap.size w w'∧e=.returned (.bool true) := by
 rw [Option.map_eq_some_iff] at hr
 obtain ⟨⟨v,p⟩,h1,h2⟩ := hr
 dsimp only at h2
 subst h2
 refine (callE_told (cs := cs) Y hc hm hp (hM H K) hB k f args [] 0 (kB true,p) h1 (fun _ => none) w vs ⟨Below.refl _ _,(fun _ _ h => by cases h)⟩ hA (fun x hx => by cases hx) (fun x hx => by cases hx) (fun _ _ _ => rfl)).mono ?_
 rintro _ w' ⟨r,γ',rfl,hef,hv,_⟩
 exact ⟨hef.wi.bel,by rw [show r=.bool true from (asC_on (v := kB true) (c := .inl (.bool true)) rfl hv).1]⟩
end
end Go.Proofs.YtgemmepbdmbmfaaGreatDoor
/- MKE -/
namespace Go.Proofs.YtgemmepbdmbmfaaGreatDoor
open Go.RowKit Cx
def kE_N : List Nd := [(1,[0]),(1,[1]),(1,[2]),(1,[3]),(1,[4]),(1,[5]),(4,[0,0]),(4,[1,1]),(2,[6,7]),(4,[2,2]),(2,[8,9]),(4,[3,3]),(2,[10,11]),(4,[4,4]),(2,[12,13]),(1,[6]),(1,[7]),(1,[8]),(1,[9]),(1,[10]),(1,[11]),(4,[15,15]),(4,[16,16]),(2,[21,22]),(4,[17,17]),(2,[23,24]),(4,[18,18]),(2,[25,26]),(4,[19,19]),(2,[27,28]),(1,[12]),(1,[13]),(0,[0,1,1]),(0,[0,2,1]),(4,[0,33]),(4,[2,33]),(4,[5,33]),(4,[34,30]),(0,[0,0,1]),(2,[38,37]),(4,[1,31]),(2,[39,40]),(4,[3,32]),(2,[41,42]),(4,[1,30]),(2,[38,44]),(4,[35,31]),(2,[45,46]),(4,[4,32]),(2,[47,48]),(4,[3,30]),(2,[38,50]),(4,[4,31]),(2,[51,52]),(4,[36,32]),(2,[53,54]),(4,[30,43]),(2,[38,56]),(4,[31,49]),(2,[57,58]),(4,[32,55]),(2,[59,60]),(4,[15,33]),(4,[17,33]),(4,[20,33]),(4,[62,30]),(2,[38,65]),(4,[16,31]),(2,[66,67]),(4,[18,32]),(2,[68,69]),(4,[16,30]),(2,[38,71]),(4,[63,31]),(2,[72,73]),(4,[19,32]),(2,[74,75]),(4,[18,30]),(2,[38,77]),(4,[19,31]),(2,[78,79]),(4,[64,32]),(2,[80,81]),(4,[30,70]),(2,[38,83]),(4,[31,76]),(2,[84,85]),(4,[32,82]),(2,[86,87]),(4,[0,88]),(4,[15,61]),(3,[89,90]),(4,[1,88]),(4,[16,61]),(3,[92,93]),(4,[2,88]),(4,[17,61]),(3,[95,96]),(4,[3,88]),(4,[18,61]),(3,[98,99]),(4,[4,88]),(4,[19,61]),(3,[101,102]),(4,[5,88]),(4,[20,61]),(3,[104,105]),(4,[91,91]),(4,[94,94]),(2,[107,108]),(4,[97,97]),(2,[109,110]),(4,[100,100]),(2,[111,112]),(4,[103,103]),(2,[113,114]),(0,[0,1,2]),(4,[0,30]),(4,[117,30]),(4,[30,31]),(4,[31,30]),(2,[119,120]),(4,[1,116]),(4,[122,121]),(4,[2,31]),(4,[124,31]),(2,[30,30]),(4,[3,116]),(4,[127,126]),(2,[31,31]),(4,[4,116]),(4,[130,129]),(2,[118,123]),(2,[132,125]),(2,[133,128]),(2,[134,131]),(2,[135,5]),(4,[15,30]),(4,[137,30]),(4,[16,116]),(4,[139,121]),(4,[17,31]),(4,[141,31]),(4,[18,116]),(4,[143,126]),(4,[19,116]),(4,[145,129]),(2,[138,140]),(2,[147,142]),(2,[148,144]),(2,[149,146]),(2,[150,20]),(4,[1,15]),(4,[0,16]),(3,[152,153]),(4,[2,15]),(4,[0,17]),(3,[155,156]),(4,[2,16]),(4,[1,17]),(3,[158,159]),(4,[3,15]),(4,[0,18]),(3,[161,162]),(4,[3,16]),(4,[1,18]),(3,[164,165]),(4,[3,17]),(4,[2,18]),(3,[167,168]),(4,[4,15]),(4,[0,19]),(3,[170,171]),(4,[4,16]),(4,[1,19]),(3,[173,174]),(4,[4,17]),(4,[2,19]),(3,[176,177]),(4,[4,18]),(4,[3,19]),(3,[179,180]),(4,[5,15]),(4,[0,20]),(3,[182,183]),(4,[5,16]),(4,[1,20]),(3,[185,186]),(4,[5,17]),(4,[2,20]),(3,[188,189]),(4,[5,18]),(4,[3,20]),(3,[191,192]),(4,[5,19]),(4,[4,20]),(3,[194,195]),(4,[154,154]),(4,[157,157]),(2,[197,198]),(4,[160,160]),(2,[199,200]),(4,[163,163]),(2,[201,202]),(4,[166,166]),(2,[203,204]),(4,[169,169]),(2,[205,206]),(4,[172,172]),(2,[207,208]),(4,[175,175]),(2,[209,210]),(4,[178,178]),(2,[211,212]),(4,[181,181]),(2,[213,214]),(4,[184,184]),(2,[215,216]),(4,[187,187]),(2,[217,218]),(4,[190,190]),(2,[219,220]),(4,[193,193]),(2,[221,222]),(4,[196,196]),(2,[223,224]),(8,[0,91,94,97,100,103,106]),(8,[1,91,94,97,100,103,106]),(8,[2,91,94,97,100,103,106]),(8,[3,91,94,97,100,103,106]),(8,[4,91,94,97,100,103,106]),(8,[5,91,94,97,100,103,106]),(4,[151,0]),(4,[136,15]),(3,[232,233]),(4,[151,1]),(4,[136,16]),(3,[235,236]),(4,[151,2]),(4,[136,17]),(3,[238,239]),(4,[151,3]),(4,[136,18]),(3,[241,242]),(4,[151,4]),(4,[136,19]),(3,[244,245]),(4,[151,5]),(4,[136,20]),(3,[247,248]),(4,[234,234]),(4,[237,237]),(2,[250,251]),(4,[240,240]),(2,[252,253]),(4,[243,243]),(2,[254,255]),(4,[246,246]),(2,[256,257]),(4,[106,106]),(2,[115,259]),(4,[226,226]),(4,[227,227]),(2,[261,262]),(4,[228,228]),(2,[263,264]),(4,[229,229]),(2,[265,266]),(4,[230,230]),(2,[267,268]),(4,[237,226]),(4,[234,227]),(3,[270,271]),(4,[240,226]),(4,[234,228]),(3,[273,274]),(4,[240,227]),(4,[237,228]),(3,[276,277]),(4,[243,226]),(4,[234,229]),(3,[279,280]),(4,[243,227]),(4,[237,229]),(3,[282,283]),(4,[243,228]),(4,[240,229]),(3,[285,286]),(4,[246,226]),(4,[234,230]),(3,[288,289]),(4,[246,227]),(4,[237,230]),(3,[291,292]),(4,[246,228]),(4,[240,230]),(3,[294,295]),(4,[246,229]),(4,[243,230]),(3,[297,298]),(4,[249,226]),(4,[234,231]),(3,[300,301]),(4,[249,227]),(4,[237,231]),(3,[303,304]),(4,[249,228]),(4,[240,231]),(3,[306,307]),(4,[249,229]),(4,[243,231]),(3,[309,310]),(4,[249,230]),(4,[246,231]),(3,[312,313]),(4,[272,272]),(4,[275,275]),(2,[315,316]),(4,[278,278]),(2,[317,318]),(4,[281,281]),(2,[319,320]),(4,[284,284]),(2,[321,322]),(4,[287,287]),(2,[323,324]),(4,[290,290]),(2,[325,326]),(4,[293,293]),(2,[327,328]),(4,[296,296]),(2,[329,330]),(4,[299,299]),(2,[331,332]),(4,[302,302]),(2,[333,334]),(4,[305,305]),(2,[335,336]),(4,[308,308]),(2,[337,338]),(4,[311,311]),(2,[339,340]),(4,[314,314]),(2,[341,342])]
def kE_L : List (List Nat × Nat) := []
def kE_C : List (List Nat × Nat) := []
def kE_Z : List Nat := [3495259,3495259,3495259,3495259,3495259,3495259,6990518,6990518,13981037,6990518,20971556,6990518,27962075,6990518,34952594,3495259,3495259,3495259,3495259,3495259,3495259,6990518,6990518,13981037,6990518,20971556,6990518,27962075,6990518,34952594,3495259,3495259,2,3,3495262,3495262,3495262,6990521,2,6990524,6990518,13981043,3495261,17476305,6990518,6990521,6990521,13981043,3495261,17476305,6990518,6990521,6990518,13981040,3495264,17476305,20971564,20971567,20971564,41943132,17476307,59419440,3495262,3495262,3495262,6990521,6990524,6990518,13981043,3495261,17476305,6990518,6990521,6990521,13981043,3495261,17476305,6990518,6990521,6990518,13981040,3495264,17476305,20971564,20971567,20971564,41943132,17476307,59419440,62914699,62914699,125829399,62914699,62914699,125829399,62914699,62914699,125829399,62914699,62914699,125829399,62914699,62914699,125829399,62914699,62914699,125829399,251658798,251658798,503317597,251658798,754976396,251658798,1006635195,251658798,1258293994,3,6990518,10485777,6990518,6990518,13981037,3495262,17476299,6990518,10485777,6990519,3495262,10485781,6990519,3495262,10485781,27962077,38447855,48933637,59419419,62914679,6990518,10485777,3495262,17476299,6990518,10485777,3495262,10485781,3495262,10485781,27962077,38447855,48933637,59419419,62914679,6990518,6990518,13981037,6990518,6990518,13981037,6990518,6990518,13981037,6990518,6990518,13981037,6990518,6990518,13981037,6990518,6990518,13981037,6990518,6990518,13981037,6990518,6990518,13981037,6990518,6990518,13981037,6990518,6990518,13981037,6990518,6990518,13981037,6990518,6990518,13981037,6990518,6990518,13981037,6990518,6990518,13981037,6990518,6990518,13981037,27962074,27962074,55924149,27962074,83886224,27962074,111848299,27962074,139810374,27962074,167772449,27962074,195734524,27962074,223696599,27962074,251658674,27962074,279620749,27962074,307582824,27962074,335544899,27962074,363506974,27962074,391469049,27962074,419431124,880805794,880805794,880805794,880805794,880805794,880805794,66409938,66409938,132819877,66409938,66409938,132819877,66409938,66409938,132819877,66409938,66409938,132819877,66409938,66409938,132819877,66409938,66409938,132819877,265639754,265639754,531279509,265639754,796919264,265639754,1062559019,265639754,1328198774,251658798,1509952793,1761611588,1761611588,1761611589,1761611588,1761611590,1761611588,1761611591,1761611588,1761611592,1013625671,1013625671,2027251343,1013625671,1013625671,2027251343,1013625671,1013625671,2027251343,1013625671,1013625671,2027251343,1013625671,1013625671,2027251343,1013625671,1013625671,2027251343,1013625671,1013625671,2027251343,1013625671,1013625671,2027251343,1013625671,1013625671,2027251343,1013625671,1013625671,2027251343,1013625671,1013625671,2027251343,1013625671,1013625671,2027251343,1013625671,1013625671,2027251343,1013625671,1013625671,2027251343,1013625671,1013625671,2027251343,4054502686,4054502686,8109005373,4054502686,12163508060,4054502686,16218010747,4054502686,20272513434,4054502686,24327016121,4054502686,28381518808,4054502686,32436021495,4054502686,36490524182,4054502686,40545026869,4054502686,44599529556,4054502686,48654032243,4054502686,52708534930,4054502686,56763037617,4054502686,60817540304]
def kE_I : List Bool := [false,false,false,false,false,false,false,false,false,false,false,false,false,false,false,false,false,false,false,false,false,false,false,false,false,false,false,false,false,false,false,false,true,true,false,false,false,false,true,false,false,false,false,false,false,false,false,false,false,false,false,false,false,false,false,false,false,false,false,false,false,false,false,false,false,false,false,false,false,false,false,false,false,false,false,false,false,false,false,false,false,false,false,false,false,false,false,false,false,false,false,false,false,false,false,false,false,false,false,false,false,false,false,false,false,false,false,false,false,false,false,false,false,false,false,false,false,false,false,false,false,false,false,false,false,false,false,false,false,false,false,false,false,false,false,false,false,false,false,false,false,false,false,false,false,false,false,false,false,false,false,false,false,false,false,false,false,false,false,false,false,false,false,false,false,false,false,false,false,false,false,false,false,false,false,false,false,false,false,false,false,false,false,false,false,false,false,false,false,false,false,false,false,false,false,false,false,false,false,false,false,false,false,false,false,false,false,false,false,false,false,false,false,false,false,false,false,false,false,false,false,false,false,false,false,false,true,true,true,true,true,true,false,false,false,false,false,false,false,false,false,false,false,false,false,false,false,false,false,false,false,false,false,false,false,false,false,false,false,false,false,true,true,true,true,true,true,true,true,true,false,false,false,false,false,false,false,false,false,false,false,false,false,false,false,false,false,false,false,false,false,false,false,false,false,false,false,false,false,false,false,false,false,false,false,false,false,false,false,false,false,false,false,false,false,false,false,false,false,false,false,false,false,false,false,false,false,false,false,false,false,false,false,false,false,false,false,false,false,false,false,false,false,false]
theorem kE_wf : wfB 0 kE_N=true := by kernel_rfl
theorem kE_sz : szC kE_Z kE_I kE_N kE_Z kE_I=true := by kernel_rfl
theorem kE_lt : litB kE_N kE_L=true := by kernel_rfl
theorem kE_cn : canB kE_N kE_C=true := by kernel_rfl
theorem kE_c32 : cst 0 1 1=(1 : Rat) := by decide +kernel
theorem kE_c33 : cst 0 2 1=(2 : Rat) := by decide +kernel
theorem kE_c38 : cst 0 0 1=(0 : Rat) := by decide +kernel
theorem kE_c116 : cst 0 1 2=((1 / 2) : Rat) := by decide +kernel
theorem kE_f0 {z0 z1 z2 z3 z4 z5 z15 z16 z17 z18 z19 z20 z30 z31 z32 z33 z34 z35 z36 z37 z38 z39 z40 z41 z42 z43 z44 z45 z46 z47 z48 z49 z50 z51 z52 z53 z54 z55 z56 z57 z58 z59 z60 z61 z62 z63 z64 z65 z66 z67 z68 z69 z70 z71 z72 z73 z74 z75 z76 z77 z78 z79 z80 z81 z82 z83 z84 z85 z86 z87 z88 z89 z90 z91 z92 z93 z94 z95 z96 z97 z98 z99 z100 z101 z102 z103 z115 z116 z117 z118 z119 z120 z121 z122 z123 z124 z125 z126 z127 z128 z129 z130 z131 z132 z133 z134 z135 z136 z152 z153 z154 z155 z156 z157 z158 z159 z160 z161 z162 z163 z164 z165 z166 z167 z168 z169 z170 z171 z172 z173 z174 z175 z176 z177 z178 z179 z180 z181 z182 z183 z184 z185 z186 z187 z188 z189 z190 z191 z192 z193 z194 z195 z196 z225 : Rat} : z32=1→z33=2→z34=z0*z33→z35=z2*z33→z36=z5*z33→z37=z34*z30→z38=0→z39=z38+z37→z40=z1*z31→z41=z39+z40→z42=z3*z32→z43=z41+z42→z44=z1*z30→z45=z38+z44→z46=z35*z31→z47=z45+z46→z48=z4*z32→z49=z47+z48→z50=z3*z30→z51=z38+z50→z52=z4*z31→z53=z51+z52→z54=z36*z32→z55=z53+z54→z56=z30*z43→z57=z38+z56→z58=z31*z49→z59=z57+z58→z60=z32*z55→z61=z59+z60→z62=z15*z33→z63=z17*z33→z64=z20*z33→z65=z62*z30→z66=z38+z65→z67=z16*z31→z68=z66+z67→z69=z18*z32→z70=z68+z69→z71=z16*z30→z72=z38+z71→z73=z63*z31→z74=z72+z73→z75=z19*z32→z76=z74+z75→z77=z18*z30→z78=z38+z77→z79=z19*z31→z80=z78+z79→z81=z64*z32→z82=z80+z81→z83=z30*z70→z84=z38+z83→z85=z31*z76→z86=z84+z85→z87=z32*z82→z88=z86+z87→z89=z0*z88→z90=z15*z61→z91=z89-z90→z92=z1*z88→z93=z16*z61→z94=z92-z93→z95=z2*z88→z96=z17*z61→z97=z95-z96→z98=z3*z88→z99=z18*z61→z100=z98-z99→z101=z4*z88→z102=z19*z61→z103=z101-z102→(z115=0↔((((z91=0∧z94=0)∧z97=0)∧z100=0)∧z103=0))→z116=(1/2)→z117=z0*z30→z118=z117*z30→z119=z30*z31→z120=z31*z30→z121=z119+z120→z122=z1*z116→z123=z122*z121→z124=z2*z31→z125=z124*z31→z126=z30+z30→z127=z3*z116→z128=z127*z126→z129=z31+z31→z130=z4*z116→z131=z130*z129→z132=z118+z123→z133=z132+z125→z134=z133+z128→z135=z134+z131→z136=z135+z5→z152=z1*z15→z153=z0*z16→z154=z152-z153→z155=z2*z15→z156=z0*z17→z157=z155-z156→z158=z2*z16→z159=z1*z17→z160=z158-z159→z161=z3*z15→z162=z0*z18→z163=z161-z162→z164=z3*z16→z165=z1*z18→z166=z164-z165→z167=z3*z17→z168=z2*z18→z169=z167-z168→z170=z4*z15→z171=z0*z19→z172=z170-z171→z173=z4*z16→z174=z1*z19→z175=z173-z174→z176=z4*z17→z177=z2*z19→z178=z176-z177→z179=z4*z18→z180=z3*z19→z181=z179-z180→z182=z5*z15→z183=z0*z20→z184=z182-z183→z185=z5*z16→z186=z1*z20→z187=z185-z186→z188=z5*z17→z189=z2*z20→z190=z188-z189→z191=z5*z18→z192=z3*z20→z193=z191-z192→z194=z5*z19→z195=z4*z20→z196=z194-z195→(z225=0↔((((((((((((((z154=0∧z157=0)∧z160=0)∧z163=0)∧z166=0)∧z169=0)∧z172=0)∧z175=0)∧z178=0)∧z181=0)∧z184=0)∧z187=0)∧z190=0)∧z193=0)∧z196=0))→(z115=0)→(¬ (z225=0))→z136=0 := by
 intro e32 e33 e34 e35 e36 e37 e38 e39 e40 e41 e42 e43 e44 e45 e46 e47 e48 e49 e50 e51 e52 e53 e54 e55 e56 e57 e58 e59 e60 e61 e62 e63 e64 e65 e66 e67 e68 e69 e70 e71 e72 e73 e74 e75 e76 e77 e78 e79 e80 e81 e82 e83 e84 e85 e86 e87 e88 e89 e90 e91 e92 e93 e94 e95 e96 e97 e98 e99 e100 e101 e102 e103 e115 e116 e117 e118 e119 e120 e121 e122 e123 e124 e125 e126 e127 e128 e129 e130 e131 e132 e133 e134 e135 e136 e152 e153 e154 e155 e156 e157 e158 e159 e160 e161 e162 e163 e164 e165 e166 e167 e168 e169 e170 e171 e172 e173 e174 e175 e176 e177 e178 e179 e180 e181 e182 e183 e184 e185 e186 e187 e188 e189 e190 e191 e192 e193 e194 e195 e196 e225 u2 u3
 obtain ⟨⟨⟨⟨ua2_91,ua2_94⟩,ua2_97⟩,ua2_100⟩,ua2_103⟩ := e115.1 u2
 rw [e225] at u3
 clear u2 e115 e225
 subst_vars; grind
theorem kE_f1 {z0 z1 z2 z3 z4 z5 z15 z16 z17 z18 z19 z20 z30 z31 z32 z33 z34 z35 z36 z37 z38 z39 z40 z41 z42 z43 z44 z45 z46 z47 z48 z49 z50 z51 z52 z53 z54 z55 z56 z57 z58 z59 z60 z61 z62 z63 z64 z65 z66 z67 z68 z69 z70 z71 z72 z73 z74 z75 z76 z77 z78 z79 z80 z81 z82 z83 z84 z85 z86 z87 z88 z89 z90 z91 z92 z93 z94 z95 z96 z97 z98 z99 z100 z101 z102 z103 z115 z116 z119 z120 z121 z126 z129 z137 z138 z139 z140 z141 z142 z143 z144 z145 z146 z147 z148 z149 z150 z151 z152 z153 z154 z155 z156 z157 z158 z159 z160 z161 z162 z163 z164 z165 z166 z167 z168 z169 z170 z171 z172 z173 z174 z175 z176 z177 z178 z179 z180 z181 z182 z183 z184 z185 z186 z187 z188 z189 z190 z191 z192 z193 z194 z195 z196 z225 : Rat} : z32=1→z33=2→z34=z0*z33→z35=z2*z33→z36=z5*z33→z37=z34*z30→z38=0→z39=z38+z37→z40=z1*z31→z41=z39+z40→z42=z3*z32→z43=z41+z42→z44=z1*z30→z45=z38+z44→z46=z35*z31→z47=z45+z46→z48=z4*z32→z49=z47+z48→z50=z3*z30→z51=z38+z50→z52=z4*z31→z53=z51+z52→z54=z36*z32→z55=z53+z54→z56=z30*z43→z57=z38+z56→z58=z31*z49→z59=z57+z58→z60=z32*z55→z61=z59+z60→z62=z15*z33→z63=z17*z33→z64=z20*z33→z65=z62*z30→z66=z38+z65→z67=z16*z31→z68=z66+z67→z69=z18*z32→z70=z68+z69→z71=z16*z30→z72=z38+z71→z73=z63*z31→z74=z72+z73→z75=z19*z32→z76=z74+z75→z77=z18*z30→z78=z38+z77→z79=z19*z31→z80=z78+z79→z81=z64*z32→z82=z80+z81→z83=z30*z70→z84=z38+z83→z85=z31*z76→z86=z84+z85→z87=z32*z82→z88=z86+z87→z89=z0*z88→z90=z15*z61→z91=z89-z90→z92=z1*z88→z93=z16*z61→z94=z92-z93→z95=z2*z88→z96=z17*z61→z97=z95-z96→z98=z3*z88→z99=z18*z61→z100=z98-z99→z101=z4*z88→z102=z19*z61→z103=z101-z102→(z115=0↔((((z91=0∧z94=0)∧z97=0)∧z100=0)∧z103=0))→z116=(1/2)→z119=z30*z31→z120=z31*z30→z121=z119+z120→z126=z30+z30→z129=z31+z31→z137=z15*z30→z138=z137*z30→z139=z16*z116→z140=z139*z121→z141=z17*z31→z142=z141*z31→z143=z18*z116→z144=z143*z126→z145=z19*z116→z146=z145*z129→z147=z138+z140→z148=z147+z142→z149=z148+z144→z150=z149+z146→z151=z150+z20→z152=z1*z15→z153=z0*z16→z154=z152-z153→z155=z2*z15→z156=z0*z17→z157=z155-z156→z158=z2*z16→z159=z1*z17→z160=z158-z159→z161=z3*z15→z162=z0*z18→z163=z161-z162→z164=z3*z16→z165=z1*z18→z166=z164-z165→z167=z3*z17→z168=z2*z18→z169=z167-z168→z170=z4*z15→z171=z0*z19→z172=z170-z171→z173=z4*z16→z174=z1*z19→z175=z173-z174→z176=z4*z17→z177=z2*z19→z178=z176-z177→z179=z4*z18→z180=z3*z19→z181=z179-z180→z182=z5*z15→z183=z0*z20→z184=z182-z183→z185=z5*z16→z186=z1*z20→z187=z185-z186→z188=z5*z17→z189=z2*z20→z190=z188-z189→z191=z5*z18→z192=z3*z20→z193=z191-z192→z194=z5*z19→z195=z4*z20→z196=z194-z195→(z225=0↔((((((((((((((z154=0∧z157=0)∧z160=0)∧z163=0)∧z166=0)∧z169=0)∧z172=0)∧z175=0)∧z178=0)∧z181=0)∧z184=0)∧z187=0)∧z190=0)∧z193=0)∧z196=0))→(z115=0)→(¬ (z225=0))→z151=0 := by
 intro e32 e33 e34 e35 e36 e37 e38 e39 e40 e41 e42 e43 e44 e45 e46 e47 e48 e49 e50 e51 e52 e53 e54 e55 e56 e57 e58 e59 e60 e61 e62 e63 e64 e65 e66 e67 e68 e69 e70 e71 e72 e73 e74 e75 e76 e77 e78 e79 e80 e81 e82 e83 e84 e85 e86 e87 e88 e89 e90 e91 e92 e93 e94 e95 e96 e97 e98 e99 e100 e101 e102 e103 e115 e116 e119 e120 e121 e126 e129 e137 e138 e139 e140 e141 e142 e143 e144 e145 e146 e147 e148 e149 e150 e151 e152 e153 e154 e155 e156 e157 e158 e159 e160 e161 e162 e163 e164 e165 e166 e167 e168 e169 e170 e171 e172 e173 e174 e175 e176 e177 e178 e179 e180 e181 e182 e183 e184 e185 e186 e187 e188 e189 e190 e191 e192 e193 e194 e195 e196 e225 u2 u3
 obtain ⟨⟨⟨⟨ua2_91,ua2_94⟩,ua2_97⟩,ua2_100⟩,ua2_103⟩ := e115.1 u2
 rw [e225] at u3
 clear u2 e115 e225
 subst_vars; grind
theorem kE_f2 {z0 z1 z2 z3 z4 z5 z15 z16 z17 z18 z19 z20 z30 z31 z32 z33 z34 z35 z36 z37 z38 z39 z40 z41 z42 z43 z44 z45 z46 z47 z48 z49 z50 z51 z52 z53 z54 z55 z56 z57 z58 z59 z60 z61 z62 z63 z64 z65 z66 z67 z68 z69 z70 z71 z72 z73 z74 z75 z76 z77 z78 z79 z80 z81 z82 z83 z84 z85 z86 z87 z88 z89 z90 z91 z92 z93 z94 z95 z96 z97 z98 z99 z100 z101 z102 z103 z115 z152 z153 z154 z155 z156 z157 z158 z159 z160 z161 z162 z163 z164 z165 z166 z167 z168 z169 z170 z171 z172 z173 z174 z175 z176 z177 z178 z179 z180 z181 z182 z183 z184 z185 z186 z187 z188 z189 z190 z191 z192 z193 z194 z195 z196 z225 : Rat} : z32=1→z33=2→z34=z0*z33→z35=z2*z33→z36=z5*z33→z37=z34*z30→z38=0→z39=z38+z37→z40=z1*z31→z41=z39+z40→z42=z3*z32→z43=z41+z42→z44=z1*z30→z45=z38+z44→z46=z35*z31→z47=z45+z46→z48=z4*z32→z49=z47+z48→z50=z3*z30→z51=z38+z50→z52=z4*z31→z53=z51+z52→z54=z36*z32→z55=z53+z54→z56=z30*z43→z57=z38+z56→z58=z31*z49→z59=z57+z58→z60=z32*z55→z61=z59+z60→z62=z15*z33→z63=z17*z33→z64=z20*z33→z65=z62*z30→z66=z38+z65→z67=z16*z31→z68=z66+z67→z69=z18*z32→z70=z68+z69→z71=z16*z30→z72=z38+z71→z73=z63*z31→z74=z72+z73→z75=z19*z32→z76=z74+z75→z77=z18*z30→z78=z38+z77→z79=z19*z31→z80=z78+z79→z81=z64*z32→z82=z80+z81→z83=z30*z70→z84=z38+z83→z85=z31*z76→z86=z84+z85→z87=z32*z82→z88=z86+z87→z89=z0*z88→z90=z15*z61→z91=z89-z90→z92=z1*z88→z93=z16*z61→z94=z92-z93→z95=z2*z88→z96=z17*z61→z97=z95-z96→z98=z3*z88→z99=z18*z61→z100=z98-z99→z101=z4*z88→z102=z19*z61→z103=z101-z102→(z115=0↔((((z91=0∧z94=0)∧z97=0)∧z100=0)∧z103=0))→z152=z1*z15→z153=z0*z16→z154=z152-z153→z155=z2*z15→z156=z0*z17→z157=z155-z156→z158=z2*z16→z159=z1*z17→z160=z158-z159→z161=z3*z15→z162=z0*z18→z163=z161-z162→z164=z3*z16→z165=z1*z18→z166=z164-z165→z167=z3*z17→z168=z2*z18→z169=z167-z168→z170=z4*z15→z171=z0*z19→z172=z170-z171→z173=z4*z16→z174=z1*z19→z175=z173-z174→z176=z4*z17→z177=z2*z19→z178=z176-z177→z179=z4*z18→z180=z3*z19→z181=z179-z180→z182=z5*z15→z183=z0*z20→z184=z182-z183→z185=z5*z16→z186=z1*z20→z187=z185-z186→z188=z5*z17→z189=z2*z20→z190=z188-z189→z191=z5*z18→z192=z3*z20→z193=z191-z192→z194=z5*z19→z195=z4*z20→z196=z194-z195→(z225=0↔((((((((((((((z154=0∧z157=0)∧z160=0)∧z163=0)∧z166=0)∧z169=0)∧z172=0)∧z175=0)∧z178=0)∧z181=0)∧z184=0)∧z187=0)∧z190=0)∧z193=0)∧z196=0))→(¬ (z115=0))→¬ (z225=0) := by
 intro e32 e33 e34 e35 e36 e37 e38 e39 e40 e41 e42 e43 e44 e45 e46 e47 e48 e49 e50 e51 e52 e53 e54 e55 e56 e57 e58 e59 e60 e61 e62 e63 e64 e65 e66 e67 e68 e69 e70 e71 e72 e73 e74 e75 e76 e77 e78 e79 e80 e81 e82 e83 e84 e85 e86 e87 e88 e89 e90 e91 e92 e93 e94 e95 e96 e97 e98 e99 e100 e101 e102 e103 e115 e152 e153 e154 e155 e156 e157 e158 e159 e160 e161 e162 e163 e164 e165 e166 e167 e168 e169 e170 e171 e172 e173 e174 e175 e176 e177 e178 e179 e180 e181 e182 e183 e184 e185 e186 e187 e188 e189 e190 e191 e192 e193 e194 e195 e196 e225 u2
 rw [e115] at u2
 rw [e225]
 clear  e115 e225
 rintro ⟨⟨⟨⟨⟨⟨⟨⟨⟨⟨⟨⟨⟨⟨ub154,ub157⟩,ub160⟩,ub163⟩,ub166⟩,ub169⟩,ub172⟩,ub175⟩,ub178⟩,ub181⟩,ub184⟩,ub187⟩,ub190⟩,ub193⟩,ub196⟩
 subst_vars; grind
theorem kE_f3 {z0 z1 z2 z3 z4 z5 z15 z16 z17 z18 z19 z20 z30 z31 z32 z33 z34 z35 z36 z37 z38 z39 z40 z41 z42 z43 z44 z45 z46 z47 z48 z49 z50 z51 z52 z53 z54 z55 z56 z57 z58 z59 z60 z61 z62 z63 z64 z65 z66 z67 z68 z69 z70 z71 z72 z73 z74 z75 z76 z77 z78 z79 z80 z81 z82 z83 z84 z85 z86 z87 z88 z89 z90 z91 z92 z93 z94 z95 z96 z97 z98 z99 z100 z101 z102 z103 z115 z116 z117 z118 z119 z120 z121 z122 z123 z124 z125 z126 z127 z128 z129 z130 z131 z132 z133 z134 z135 z136 z137 z138 z139 z140 z141 z142 z143 z144 z145 z146 z147 z148 z149 z150 z151 : Rat} : z32=1→z33=2→z34=z0*z33→z35=z2*z33→z36=z5*z33→z37=z34*z30→z38=0→z39=z38+z37→z40=z1*z31→z41=z39+z40→z42=z3*z32→z43=z41+z42→z44=z1*z30→z45=z38+z44→z46=z35*z31→z47=z45+z46→z48=z4*z32→z49=z47+z48→z50=z3*z30→z51=z38+z50→z52=z4*z31→z53=z51+z52→z54=z36*z32→z55=z53+z54→z56=z30*z43→z57=z38+z56→z58=z31*z49→z59=z57+z58→z60=z32*z55→z61=z59+z60→z62=z15*z33→z63=z17*z33→z64=z20*z33→z65=z62*z30→z66=z38+z65→z67=z16*z31→z68=z66+z67→z69=z18*z32→z70=z68+z69→z71=z16*z30→z72=z38+z71→z73=z63*z31→z74=z72+z73→z75=z19*z32→z76=z74+z75→z77=z18*z30→z78=z38+z77→z79=z19*z31→z80=z78+z79→z81=z64*z32→z82=z80+z81→z83=z30*z70→z84=z38+z83→z85=z31*z76→z86=z84+z85→z87=z32*z82→z88=z86+z87→z89=z0*z88→z90=z15*z61→z91=z89-z90→z92=z1*z88→z93=z16*z61→z94=z92-z93→z95=z2*z88→z96=z17*z61→z97=z95-z96→z98=z3*z88→z99=z18*z61→z100=z98-z99→z101=z4*z88→z102=z19*z61→z103=z101-z102→(z115=0↔((((z91=0∧z94=0)∧z97=0)∧z100=0)∧z103=0))→z116=(1/2)→z117=z0*z30→z118=z117*z30→z119=z30*z31→z120=z31*z30→z121=z119+z120→z122=z1*z116→z123=z122*z121→z124=z2*z31→z125=z124*z31→z126=z30+z30→z127=z3*z116→z128=z127*z126→z129=z31+z31→z130=z4*z116→z131=z130*z129→z132=z118+z123→z133=z132+z125→z134=z133+z128→z135=z134+z131→z136=z135+z5→z137=z15*z30→z138=z137*z30→z139=z16*z116→z140=z139*z121→z141=z17*z31→z142=z141*z31→z143=z18*z116→z144=z143*z126→z145=z19*z116→z146=z145*z129→z147=z138+z140→z148=z147+z142→z149=z148+z144→z150=z149+z146→z151=z150+z20→(¬ (z115=0))→(z136=0)→¬ (z151=0) := by
 intro e32 e33 e34 e35 e36 e37 e38 e39 e40 e41 e42 e43 e44 e45 e46 e47 e48 e49 e50 e51 e52 e53 e54 e55 e56 e57 e58 e59 e60 e61 e62 e63 e64 e65 e66 e67 e68 e69 e70 e71 e72 e73 e74 e75 e76 e77 e78 e79 e80 e81 e82 e83 e84 e85 e86 e87 e88 e89 e90 e91 e92 e93 e94 e95 e96 e97 e98 e99 e100 e101 e102 e103 e115 e116 e117 e118 e119 e120 e121 e122 e123 e124 e125 e126 e127 e128 e129 e130 e131 e132 e133 e134 e135 e136 e137 e138 e139 e140 e141 e142 e143 e144 e145 e146 e147 e148 e149 e150 e151 u2 u3
 rw [e115] at u2
 clear  e115
 rw [u3] at e136
 subst_vars; grind
theorem kE_f4 {z0 z1 z2 z3 z4 z5 z15 z16 z17 z18 z19 z20 z30 z31 z32 z33 z34 z35 z36 z37 z38 z39 z40 z41 z42 z43 z44 z45 z46 z47 z48 z49 z50 z51 z52 z53 z54 z55 z56 z57 z58 z59 z60 z61 z62 z63 z64 z65 z66 z67 z68 z69 z70 z71 z72 z73 z74 z75 z76 z77 z78 z79 z80 z81 z82 z83 z84 z85 z86 z87 z88 z89 z90 z91 z92 z93 z94 z95 z96 z97 z98 z99 z100 z101 z102 z103 z115 z116 z117 z118 z119 z120 z121 z122 z123 z124 z125 z126 z127 z128 z129 z130 z131 z132 z133 z134 z135 z136 z137 z138 z139 z140 z141 z142 z143 z144 z145 z146 z147 z148 z149 z150 z151 z232 z233 z234 z235 z236 z237 z238 z239 z240 z241 z242 z243 z244 z245 z246 z258 : Rat} : z32=1→z33=2→z34=z0*z33→z35=z2*z33→z36=z5*z33→z37=z34*z30→z38=0→z39=z38+z37→z40=z1*z31→z41=z39+z40→z42=z3*z32→z43=z41+z42→z44=z1*z30→z45=z38+z44→z46=z35*z31→z47=z45+z46→z48=z4*z32→z49=z47+z48→z50=z3*z30→z51=z38+z50→z52=z4*z31→z53=z51+z52→z54=z36*z32→z55=z53+z54→z56=z30*z43→z57=z38+z56→z58=z31*z49→z59=z57+z58→z60=z32*z55→z61=z59+z60→z62=z15*z33→z63=z17*z33→z64=z20*z33→z65=z62*z30→z66=z38+z65→z67=z16*z31→z68=z66+z67→z69=z18*z32→z70=z68+z69→z71=z16*z30→z72=z38+z71→z73=z63*z31→z74=z72+z73→z75=z19*z32→z76=z74+z75→z77=z18*z30→z78=z38+z77→z79=z19*z31→z80=z78+z79→z81=z64*z32→z82=z80+z81→z83=z30*z70→z84=z38+z83→z85=z31*z76→z86=z84+z85→z87=z32*z82→z88=z86+z87→z89=z0*z88→z90=z15*z61→z91=z89-z90→z92=z1*z88→z93=z16*z61→z94=z92-z93→z95=z2*z88→z96=z17*z61→z97=z95-z96→z98=z3*z88→z99=z18*z61→z100=z98-z99→z101=z4*z88→z102=z19*z61→z103=z101-z102→(z115=0↔((((z91=0∧z94=0)∧z97=0)∧z100=0)∧z103=0))→z116=(1/2)→z117=z0*z30→z118=z117*z30→z119=z30*z31→z120=z31*z30→z121=z119+z120→z122=z1*z116→z123=z122*z121→z124=z2*z31→z125=z124*z31→z126=z30+z30→z127=z3*z116→z128=z127*z126→z129=z31+z31→z130=z4*z116→z131=z130*z129→z132=z118+z123→z133=z132+z125→z134=z133+z128→z135=z134+z131→z136=z135+z5→z137=z15*z30→z138=z137*z30→z139=z16*z116→z140=z139*z121→z141=z17*z31→z142=z141*z31→z143=z18*z116→z144=z143*z126→z145=z19*z116→z146=z145*z129→z147=z138+z140→z148=z147+z142→z149=z148+z144→z150=z149+z146→z151=z150+z20→z232=z151*z0→z233=z136*z15→z234=z232-z233→z235=z151*z1→z236=z136*z16→z237=z235-z236→z238=z151*z2→z239=z136*z17→z240=z238-z239→z241=z151*z3→z242=z136*z18→z243=z241-z242→z244=z151*z4→z245=z136*z19→z246=z244-z245→(z258=0↔((((z234=0∧z237=0)∧z240=0)∧z243=0)∧z246=0))→(¬ (z115=0))→¬ (z258=0) := by
 intro e32 e33 e34 e35 e36 e37 e38 e39 e40 e41 e42 e43 e44 e45 e46 e47 e48 e49 e50 e51 e52 e53 e54 e55 e56 e57 e58 e59 e60 e61 e62 e63 e64 e65 e66 e67 e68 e69 e70 e71 e72 e73 e74 e75 e76 e77 e78 e79 e80 e81 e82 e83 e84 e85 e86 e87 e88 e89 e90 e91 e92 e93 e94 e95 e96 e97 e98 e99 e100 e101 e102 e103 e115 e116 e117 e118 e119 e120 e121 e122 e123 e124 e125 e126 e127 e128 e129 e130 e131 e132 e133 e134 e135 e136 e137 e138 e139 e140 e141 e142 e143 e144 e145 e146 e147 e148 e149 e150 e151 e232 e233 e234 e235 e236 e237 e238 e239 e240 e241 e242 e243 e244 e245 e246 e258 u2
 rw [e115] at u2
 rw [e258]
 clear  e115 e258
 rintro ⟨⟨⟨⟨ub234,ub237⟩,ub240⟩,ub243⟩,ub246⟩
 subst_vars; grind
theorem kE_f5 {z0 z1 z2 z3 z4 z5 z15 z16 z17 z18 z19 z20 z30 z31 z32 z33 z34 z35 z36 z37 z38 z39 z40 z41 z42 z43 z44 z45 z46 z47 z48 z49 z50 z51 z52 z53 z54 z55 z56 z57 z58 z59 z60 z61 z62 z63 z64 z65 z66 z67 z68 z69 z70 z71 z72 z73 z74 z75 z76 z77 z78 z79 z80 z81 z82 z83 z84 z85 z86 z87 z88 z89 z90 z91 z92 z93 z94 z95 z96 z97 z98 z99 z100 z101 z102 z103 z104 z105 z106 z115 z260 : Rat} : z32=1→z33=2→z34=z0*z33→z35=z2*z33→z36=z5*z33→z37=z34*z30→z38=0→z39=z38+z37→z40=z1*z31→z41=z39+z40→z42=z3*z32→z43=z41+z42→z44=z1*z30→z45=z38+z44→z46=z35*z31→z47=z45+z46→z48=z4*z32→z49=z47+z48→z50=z3*z30→z51=z38+z50→z52=z4*z31→z53=z51+z52→z54=z36*z32→z55=z53+z54→z56=z30*z43→z57=z38+z56→z58=z31*z49→z59=z57+z58→z60=z32*z55→z61=z59+z60→z62=z15*z33→z63=z17*z33→z64=z20*z33→z65=z62*z30→z66=z38+z65→z67=z16*z31→z68=z66+z67→z69=z18*z32→z70=z68+z69→z71=z16*z30→z72=z38+z71→z73=z63*z31→z74=z72+z73→z75=z19*z32→z76=z74+z75→z77=z18*z30→z78=z38+z77→z79=z19*z31→z80=z78+z79→z81=z64*z32→z82=z80+z81→z83=z30*z70→z84=z38+z83→z85=z31*z76→z86=z84+z85→z87=z32*z82→z88=z86+z87→z89=z0*z88→z90=z15*z61→z91=z89-z90→z92=z1*z88→z93=z16*z61→z94=z92-z93→z95=z2*z88→z96=z17*z61→z97=z95-z96→z98=z3*z88→z99=z18*z61→z100=z98-z99→z101=z4*z88→z102=z19*z61→z103=z101-z102→z104=z5*z88→z105=z20*z61→z106=z104-z105→(z115=0↔((((z91=0∧z94=0)∧z97=0)∧z100=0)∧z103=0))→(z260=0↔(((((z91=0∧z94=0)∧z97=0)∧z100=0)∧z103=0)∧z106=0))→(¬ (z115=0))→¬ (z260=0) := by
 intro e32 e33 e34 e35 e36 e37 e38 e39 e40 e41 e42 e43 e44 e45 e46 e47 e48 e49 e50 e51 e52 e53 e54 e55 e56 e57 e58 e59 e60 e61 e62 e63 e64 e65 e66 e67 e68 e69 e70 e71 e72 e73 e74 e75 e76 e77 e78 e79 e80 e81 e82 e83 e84 e85 e86 e87 e88 e89 e90 e91 e92 e93 e94 e95 e96 e97 e98 e99 e100 e101 e102 e103 e104 e105 e106 e115 e260 u2
 rw [e115] at u2
 rw [e260]
 clear  e115 e260
 rintro ⟨⟨⟨⟨⟨ub91,ub94⟩,ub97⟩,ub100⟩,ub103⟩,ub106⟩
 subst_vars; grind
theorem kE_f6 {z0 z1 z2 z3 z4 z5 z15 z16 z17 z18 z19 z20 z30 z31 z32 z33 z34 z35 z36 z37 z38 z39 z40 z41 z42 z43 z44 z45 z46 z47 z48 z49 z50 z51 z52 z53 z54 z55 z56 z57 z58 z59 z60 z61 z62 z63 z64 z65 z66 z67 z68 z69 z70 z71 z72 z73 z74 z75 z76 z77 z78 z79 z80 z81 z82 z83 z84 z85 z86 z87 z88 z89 z90 z91 z92 z93 z94 z95 z96 z97 z98 z99 z100 z101 z102 z103 z104 z105 z106 z115 z226 z227 z228 z229 z230 z269 : Rat} : z32=1→z33=2→z34=z0*z33→z35=z2*z33→z36=z5*z33→z37=z34*z30→z38=0→z39=z38+z37→z40=z1*z31→z41=z39+z40→z42=z3*z32→z43=z41+z42→z44=z1*z30→z45=z38+z44→z46=z35*z31→z47=z45+z46→z48=z4*z32→z49=z47+z48→z50=z3*z30→z51=z38+z50→z52=z4*z31→z53=z51+z52→z54=z36*z32→z55=z53+z54→z56=z30*z43→z57=z38+z56→z58=z31*z49→z59=z57+z58→z60=z32*z55→z61=z59+z60→z62=z15*z33→z63=z17*z33→z64=z20*z33→z65=z62*z30→z66=z38+z65→z67=z16*z31→z68=z66+z67→z69=z18*z32→z70=z68+z69→z71=z16*z30→z72=z38+z71→z73=z63*z31→z74=z72+z73→z75=z19*z32→z76=z74+z75→z77=z18*z30→z78=z38+z77→z79=z19*z31→z80=z78+z79→z81=z64*z32→z82=z80+z81→z83=z30*z70→z84=z38+z83→z85=z31*z76→z86=z84+z85→z87=z32*z82→z88=z86+z87→z89=z0*z88→z90=z15*z61→z91=z89-z90→z92=z1*z88→z93=z16*z61→z94=z92-z93→z95=z2*z88→z96=z17*z61→z97=z95-z96→z98=z3*z88→z99=z18*z61→z100=z98-z99→z101=z4*z88→z102=z19*z61→z103=z101-z102→z104=z5*z88→z105=z20*z61→z106=z104-z105→(z115=0↔((((z91=0∧z94=0)∧z97=0)∧z100=0)∧z103=0))→z226=z91*fac [z91,z94,z97,z100,z103,z106]→z227=z94*fac [z91,z94,z97,z100,z103,z106]→z228=z97*fac [z91,z94,z97,z100,z103,z106]→z229=z100*fac [z91,z94,z97,z100,z103,z106]→z230=z103*fac [z91,z94,z97,z100,z103,z106]→(z269=0↔((((z226=0∧z227=0)∧z228=0)∧z229=0)∧z230=0))→(¬ (z115=0))→¬ (z269=0) := by
 intro e32 e33 e34 e35 e36 e37 e38 e39 e40 e41 e42 e43 e44 e45 e46 e47 e48 e49 e50 e51 e52 e53 e54 e55 e56 e57 e58 e59 e60 e61 e62 e63 e64 e65 e66 e67 e68 e69 e70 e71 e72 e73 e74 e75 e76 e77 e78 e79 e80 e81 e82 e83 e84 e85 e86 e87 e88 e89 e90 e91 e92 e93 e94 e95 e96 e97 e98 e99 e100 e101 e102 e103 e104 e105 e106 e115 e226 e227 e228 e229 e230 e269 u2
 rw [e115] at u2
 rw [e269]
 clear  e115 e269
 have k0_91 : fac [z91,z94,z97,z100,z103,z106]=0→z91=0 := fac_zero (by simp)
 have k0_94 : fac [z91,z94,z97,z100,z103,z106]=0→z94=0 := fac_zero (by simp)
 have k0_97 : fac [z91,z94,z97,z100,z103,z106]=0→z97=0 := fac_zero (by simp)
 have k0_100 : fac [z91,z94,z97,z100,z103,z106]=0→z100=0 := fac_zero (by simp)
 have k0_103 : fac [z91,z94,z97,z100,z103,z106]=0→z103=0 := fac_zero (by simp)
 have k0_106 : fac [z91,z94,z97,z100,z103,z106]=0→z106=0 := fac_zero (by simp)
 generalize fac [z91,z94,z97,z100,z103,z106]=g0 at *
 have nx0 : ¬ (((((z91=0∧z94=0)∧z97=0)∧z100=0)∧z103=0)∧z106=0) := by
  rintro ⟨⟨⟨⟨⟨hx91,hx94⟩,hx97⟩,hx100⟩,hx103⟩,hx106⟩
  first | grind | (subst_vars; grind)
 have iw0 : g0 ≠ 0 := fun hg => nx0 ⟨⟨⟨⟨⟨(k0_91 hg),(k0_94 hg)⟩,(k0_97 hg)⟩,(k0_100 hg)⟩,(k0_103 hg)⟩,(k0_106 hg)⟩
 obtain ⟨iv0,ih0⟩ : ∃ i,g0*i=1 := ⟨g0⁻¹,Rat.mul_inv_cancel _ iw0⟩
 clear k0_91 k0_94 k0_97 k0_100 k0_103 k0_106
 rintro ⟨⟨⟨⟨ub226,ub227⟩,ub228⟩,ub229⟩,ub230⟩
 subst_vars; grind
theorem kE_f7 {z0 z1 z2 z3 z4 z5 z15 z16 z17 z18 z19 z20 z30 z31 z32 z33 z34 z35 z36 z37 z38 z39 z40 z41 z42 z43 z44 z45 z46 z47 z48 z49 z50 z51 z52 z53 z54 z55 z56 z57 z58 z59 z60 z61 z62 z63 z64 z65 z66 z67 z68 z69 z70 z71 z72 z73 z74 z75 z76 z77 z78 z79 z80 z81 z82 z83 z84 z85 z86 z87 z88 z89 z90 z91 z92 z93 z94 z95 z96 z97 z98 z99 z100 z101 z102 z103 z104 z105 z106 z116 z117 z118 z119 z120 z121 z122 z123 z124 z125 z126 z127 z128 z129 z130 z131 z132 z133 z134 z135 z136 z137 z138 z139 z140 z141 z142 z143 z144 z145 z146 z147 z148 z149 z150 z151 z226 z227 z228 z229 z230 z231 z232 z233 z234 z235 z236 z237 z238 z239 z240 z241 z242 z243 z244 z245 z246 z247 z248 z249 z270 z271 z272 z273 z274 z275 z276 z277 z278 z279 z280 z281 z282 z283 z284 z285 z286 z287 z288 z289 z290 z291 z292 z293 z294 z295 z296 z297 z298 z299 z300 z301 z302 z303 z304 z305 z306 z307 z308 z309 z310 z311 z312 z313 z314 z343 : Rat} : z32=1→z33=2→z34=z0*z33→z35=z2*z33→z36=z5*z33→z37=z34*z30→z38=0→z39=z38+z37→z40=z1*z31→z41=z39+z40→z42=z3*z32→z43=z41+z42→z44=z1*z30→z45=z38+z44→z46=z35*z31→z47=z45+z46→z48=z4*z32→z49=z47+z48→z50=z3*z30→z51=z38+z50→z52=z4*z31→z53=z51+z52→z54=z36*z32→z55=z53+z54→z56=z30*z43→z57=z38+z56→z58=z31*z49→z59=z57+z58→z60=z32*z55→z61=z59+z60→z62=z15*z33→z63=z17*z33→z64=z20*z33→z65=z62*z30→z66=z38+z65→z67=z16*z31→z68=z66+z67→z69=z18*z32→z70=z68+z69→z71=z16*z30→z72=z38+z71→z73=z63*z31→z74=z72+z73→z75=z19*z32→z76=z74+z75→z77=z18*z30→z78=z38+z77→z79=z19*z31→z80=z78+z79→z81=z64*z32→z82=z80+z81→z83=z30*z70→z84=z38+z83→z85=z31*z76→z86=z84+z85→z87=z32*z82→z88=z86+z87→z89=z0*z88→z90=z15*z61→z91=z89-z90→z92=z1*z88→z93=z16*z61→z94=z92-z93→z95=z2*z88→z96=z17*z61→z97=z95-z96→z98=z3*z88→z99=z18*z61→z100=z98-z99→z101=z4*z88→z102=z19*z61→z103=z101-z102→z104=z5*z88→z105=z20*z61→z106=z104-z105→z116=(1/2)→z117=z0*z30→z118=z117*z30→z119=z30*z31→z120=z31*z30→z121=z119+z120→z122=z1*z116→z123=z122*z121→z124=z2*z31→z125=z124*z31→z126=z30+z30→z127=z3*z116→z128=z127*z126→z129=z31+z31→z130=z4*z116→z131=z130*z129→z132=z118+z123→z133=z132+z125→z134=z133+z128→z135=z134+z131→z136=z135+z5→z137=z15*z30→z138=z137*z30→z139=z16*z116→z140=z139*z121→z141=z17*z31→z142=z141*z31→z143=z18*z116→z144=z143*z126→z145=z19*z116→z146=z145*z129→z147=z138+z140→z148=z147+z142→z149=z148+z144→z150=z149+z146→z151=z150+z20→z226=z91*fac [z91,z94,z97,z100,z103,z106]→z227=z94*fac [z91,z94,z97,z100,z103,z106]→z228=z97*fac [z91,z94,z97,z100,z103,z106]→z229=z100*fac [z91,z94,z97,z100,z103,z106]→z230=z103*fac [z91,z94,z97,z100,z103,z106]→z231=z106*fac [z91,z94,z97,z100,z103,z106]→z232=z151*z0→z233=z136*z15→z234=z232-z233→z235=z151*z1→z236=z136*z16→z237=z235-z236→z238=z151*z2→z239=z136*z17→z240=z238-z239→z241=z151*z3→z242=z136*z18→z243=z241-z242→z244=z151*z4→z245=z136*z19→z246=z244-z245→z247=z151*z5→z248=z136*z20→z249=z247-z248→z270=z237*z226→z271=z234*z227→z272=z270-z271→z273=z240*z226→z274=z234*z228→z275=z273-z274→z276=z240*z227→z277=z237*z228→z278=z276-z277→z279=z243*z226→z280=z234*z229→z281=z279-z280→z282=z243*z227→z283=z237*z229→z284=z282-z283→z285=z243*z228→z286=z240*z229→z287=z285-z286→z288=z246*z226→z289=z234*z230→z290=z288-z289→z291=z246*z227→z292=z237*z230→z293=z291-z292→z294=z246*z228→z295=z240*z230→z296=z294-z295→z297=z246*z229→z298=z243*z230→z299=z297-z298→z300=z249*z226→z301=z234*z231→z302=z300-z301→z303=z249*z227→z304=z237*z231→z305=z303-z304→z306=z249*z228→z307=z240*z231→z308=z306-z307→z309=z249*z229→z310=z243*z231→z311=z309-z310→z312=z249*z230→z313=z246*z231→z314=z312-z313→(z343=0↔((((((((((((((z272=0∧z275=0)∧z278=0)∧z281=0)∧z284=0)∧z287=0)∧z290=0)∧z293=0)∧z296=0)∧z299=0)∧z302=0)∧z305=0)∧z308=0)∧z311=0)∧z314=0))→z343=0 := by
 intro e32 e33 e34 e35 e36 e37 e38 e39 e40 e41 e42 e43 e44 e45 e46 e47 e48 e49 e50 e51 e52 e53 e54 e55 e56 e57 e58 e59 e60 e61 e62 e63 e64 e65 e66 e67 e68 e69 e70 e71 e72 e73 e74 e75 e76 e77 e78 e79 e80 e81 e82 e83 e84 e85 e86 e87 e88 e89 e90 e91 e92 e93 e94 e95 e96 e97 e98 e99 e100 e101 e102 e103 e104 e105 e106 e116 e117 e118 e119 e120 e121 e122 e123 e124 e125 e126 e127 e128 e129 e130 e131 e132 e133 e134 e135 e136 e137 e138 e139 e140 e141 e142 e143 e144 e145 e146 e147 e148 e149 e150 e151 e226 e227 e228 e229 e230 e231 e232 e233 e234 e235 e236 e237 e238 e239 e240 e241 e242 e243 e244 e245 e246 e247 e248 e249 e270 e271 e272 e273 e274 e275 e276 e277 e278 e279 e280 e281 e282 e283 e284 e285 e286 e287 e288 e289 e290 e291 e292 e293 e294 e295 e296 e297 e298 e299 e300 e301 e302 e303 e304 e305 e306 e307 e308 e309 e310 e311 e312 e313 e314 e343
 rw [e343]
 generalize fac [z91,z94,z97,z100,z103,z106]=g at *
 have h0 : z88=2*z151 := by
  rw [e151,e150,e149,e148,e147,e146,e145,e144,e143,e142,e141,e140,e139,e138,e137,e129,e126,e121,e120,e119,e116,e88,e87,e86,e85,e84,e83,e82,e81,e80,e79,e78,e77,e76,e75,e74,e73,e72,e71,e70,e69,e68,e67,e66,e65,e64,e63,e62,e38,e33,e32]
  grind
 have h1 : z61=2*z136 := by
  rw [e136,e135,e134,e133,e132,e131,e130,e129,e128,e127,e126,e125,e124,e123,e122,e121,e120,e119,e118,e117,e116,e61,e60,e59,e58,e57,e56,e55,e54,e53,e52,e51,e50,e49,e48,e47,e46,e45,e44,e43,e42,e41,e40,e39,e38,e37,e36,e35,e34,e33,e32]
  grind
 have w0 : z91=2*z234 := by
  rw [e91,e89,e90,e234,e232,e233,h0,h1]
  grind
 have w1 : z94=2*z237 := by
  rw [e94,e92,e93,e237,e235,e236,h0,h1]
  grind
 have w2 : z97=2*z240 := by
  rw [e97,e95,e96,e240,e238,e239,h0,h1]
  grind
 have w3 : z100=2*z243 := by
  rw [e100,e98,e99,e243,e241,e242,h0,h1]
  grind
 have w4 : z103=2*z246 := by
  rw [e103,e101,e102,e246,e244,e245,h0,h1]
  grind
 have w5 : z106=2*z249 := by
  rw [e106,e104,e105,e249,e247,e248,h0,h1]
  grind
 have d10 : z272=0 := by
  rw [e272,e270,e271,e226,e227,w0,w1]
  grind
 have d20 : z275=0 := by
  rw [e275,e273,e274,e226,e228,w0,w2]
  grind
 have d21 : z278=0 := by
  rw [e278,e276,e277,e227,e228,w1,w2]
  grind
 have d30 : z281=0 := by
  rw [e281,e279,e280,e226,e229,w0,w3]
  grind
 have d31 : z284=0 := by
  rw [e284,e282,e283,e227,e229,w1,w3]
  grind
 have d32 : z287=0 := by
  rw [e287,e285,e286,e228,e229,w2,w3]
  grind
 have d40 : z290=0 := by
  rw [e290,e288,e289,e226,e230,w0,w4]
  grind
 have d41 : z293=0 := by
  rw [e293,e291,e292,e227,e230,w1,w4]
  grind
 have d42 : z296=0 := by
  rw [e296,e294,e295,e228,e230,w2,w4]
  grind
 have d43 : z299=0 := by
  rw [e299,e297,e298,e229,e230,w3,w4]
  grind
 have d50 : z302=0 := by
  rw [e302,e300,e301,e226,e231,w0,w5]
  grind
 have d51 : z305=0 := by
  rw [e305,e303,e304,e227,e231,w1,w5]
  grind
 have d52 : z308=0 := by
  rw [e308,e306,e307,e228,e231,w2,w5]
  grind
 have d53 : z311=0 := by
  rw [e311,e309,e310,e229,e231,w3,w5]
  grind
 have d54 : z314=0 := by
  rw [e314,e312,e313,e230,e231,w4,w5]
  grind
 exact ⟨⟨⟨⟨⟨⟨⟨⟨⟨⟨⟨⟨⟨⟨d10,d20⟩,d21⟩,d30⟩,d31⟩,d32⟩,d40⟩,d41⟩,d42⟩,d43⟩,d50⟩,d51⟩,d52⟩,d53⟩,d54⟩
def kE_cs : List (FuncId × Nat) := [(124,60),(52,61),(53,62),(36,63),(102,63),(272,64)]
def kE_G : Memo := [(273,[qA [91,94,97,100,103,106]],tA [226,227,228,229,230,231]),(177,[qA [0,1,2,3,4,5],qA [15,16,17,18,19,20],qA [30,31,32]],qA [91,94,97,100,103,106])]
theorem kE_g0 : memoChk (sx Tryz.prog kE_N [] [] kE_L kE_C kE_Z (prC [66])) kE_cs 8 2 (kE_G.drop 0)=true := by kernel_rfl
theorem kE_memoG {q : Nat→Rat} {σ : Nat→ByteArray} {w : World} (hσ : ∀ j,(σ j).size≤1048576) (hq : ∀ (a : Nat) nd,kE_N[a]? = some nd→q a=valN σ q nd) (h0 : ∀ a,kE_N.length≤a→q a=0) (hp : PreS w) : MemoAll kE_N kE_L kE_C kE_Z q σ [66] w kE_G := by
 have Y : Hy kE_N [] kE_L kE_C kE_Z q σ := hy_ofW hσ kE_wf kE_sz kE_lt kE_cn hq h0 trivial
 have hc : ∀ f ∈ ([66] : List FuncId),Closed f := by simp [closed_coned]
 have hm : (Tryz.prog).follows .mixedOrders=true := by kernel_rfl
 exact (memoAll_chk (M := kE_G.drop 0) Y hc hm hp 2 kE_g0 memoAll_nil)
def kE_H0 : List (Nat × Nat × Nat × Nat) := [(0,14,0,1)]
def kE_H1 : List (Nat × Nat × Nat × Nat) := [(0,14,0,0),(0,29,0,1)]
def kE_H2 : List (Nat × Nat × Nat × Nat) := [(0,14,0,0),(0,29,0,0),(0,115,0,1),(0,225,0,1)]
def kE_H3 : List (Nat × Nat × Nat × Nat) := [(0,14,0,0),(0,29,0,0),(0,115,0,1),(0,225,0,0),(0,136,0,1),(0,151,0,1)]
def kE_H4 : List (Nat × Nat × Nat × Nat) := [(0,14,0,0),(0,29,0,0),(0,115,0,0),(0,225,0,0),(0,136,0,1),(0,151,0,0),(0,258,0,0),(0,260,0,0),(0,269,0,0),(0,343,0,1)]
def kE_H5 : List (Nat × Nat × Nat × Nat) := [(0,14,0,0),(0,29,0,0),(0,115,0,0),(0,225,0,0),(0,136,0,0),(0,258,0,0),(0,260,0,0),(0,269,0,0),(0,343,0,1)]
def kE_K3 : List (FuncId × List AC) := [(153,[])]
def kE_B3 : MemoX := [(53,[(false,[(false,[.inr (6,73,0,6,1)])]),(false,[(false,[.inr (6,85,0,6,1)])])],[(73,[.inr (0,0,0,0,0),.inr (0,0,1,0,0),.inr (0,0,2,0,0),.inr (0,0,3,0,0),.inr (0,0,4,0,0),.inr (0,0,5,0,0)]),(85,[.inr (0,0,15,0,0),.inr (0,0,16,0,0),.inr (0,0,17,0,0),.inr (0,0,18,0,0),.inr (0,0,19,0,0),.inr (0,0,20,0,0)])],146,(false,[(false,[.inl (.bool false)])]),[(73,[.inr (0,0,0,0,0),.inr (0,0,1,0,0),.inr (0,0,2,0,0),.inr (0,0,3,0,0),.inr (0,0,4,0,0),.inr (0,0,5,0,0)]),(85,[.inr (0,0,15,0,0),.inr (0,0,16,0,0),.inr (0,0,17,0,0),.inr (0,0,18,0,0),.inr (0,0,19,0,0),.inr (0,0,20,0,0)])],176)]
theorem kE_x3_0 : mxOne (sx Tryz.prog kE_N kE_H3 kE_K3 kE_L kE_C kE_Z (prC [66])) kE_cs kE_G 4 (kE_B3.drop 0)=true := by kernel_rfl
theorem kE_mx3 {q : Nat→Rat} {σ : Nat→ByteArray} {w : World} (hσ : ∀ j,(σ j).size≤1048576) (hq : ∀ (a : Nat) nd,kE_N[a]? = some nd→q a=valN σ q nd) (h0 : ∀ a,kE_N.length≤a→q a=0) (hH : hAll q kE_H3) (hp : PreS w) (hM : MemoAll kE_N kE_L kE_C kE_Z q σ [66] w kE_G) : MemoXOk (sx Tryz.prog kE_N kE_H3 kE_K3 kE_L kE_C kE_Z (prC [66])) (evS q σ) w kE_B3 := by
 have Y : Hy kE_N kE_H3 kE_L kE_C kE_Z q σ := hy_ofW hσ kE_wf kE_sz kE_lt kE_cn hq h0 hH
 have hc : ∀ f ∈ ([66] : List FuncId),Closed f := by simp [closed_coned]
 have hm : (Tryz.prog).follows .mixedOrders=true := by kernel_rfl
 exact (memoX_drop (B := kE_B3) Y hc hm hp hM kE_x3_0 memoX_nil)
def kE_K4 : List (FuncId × List AC) := [(153,[])]
def kE_B4 : MemoX := [(53,[(false,[(false,[.inr (6,73,0,6,1)])]),(false,[(false,[.inr (6,85,0,6,1)])])],[(73,[.inr (0,0,0,0,0),.inr (0,0,1,0,0),.inr (0,0,2,0,0),.inr (0,0,3,0,0),.inr (0,0,4,0,0),.inr (0,0,5,0,0)]),(85,[.inr (0,0,15,0,0),.inr (0,0,16,0,0),.inr (0,0,17,0,0),.inr (0,0,18,0,0),.inr (0,0,19,0,0),.inr (0,0,20,0,0)])],146,(false,[(false,[.inl (.bool false)])]),[(73,[.inr (0,0,0,0,0),.inr (0,0,1,0,0),.inr (0,0,2,0,0),.inr (0,0,3,0,0),.inr (0,0,4,0,0),.inr (0,0,5,0,0)]),(85,[.inr (0,0,15,0,0),.inr (0,0,16,0,0),.inr (0,0,17,0,0),.inr (0,0,18,0,0),.inr (0,0,19,0,0),.inr (0,0,20,0,0)])],176)]
theorem kE_x4_0 : mxOne (sx Tryz.prog kE_N kE_H4 kE_K4 kE_L kE_C kE_Z (prC [66])) kE_cs kE_G 4 (kE_B4.drop 0)=true := by kernel_rfl
theorem kE_mx4 {q : Nat→Rat} {σ : Nat→ByteArray} {w : World} (hσ : ∀ j,(σ j).size≤1048576) (hq : ∀ (a : Nat) nd,kE_N[a]? = some nd→q a=valN σ q nd) (h0 : ∀ a,kE_N.length≤a→q a=0) (hH : hAll q kE_H4) (hp : PreS w) (hM : MemoAll kE_N kE_L kE_C kE_Z q σ [66] w kE_G) : MemoXOk (sx Tryz.prog kE_N kE_H4 kE_K4 kE_L kE_C kE_Z (prC [66])) (evS q σ) w kE_B4 := by
 have Y : Hy kE_N kE_H4 kE_L kE_C kE_Z q σ := hy_ofW hσ kE_wf kE_sz kE_lt kE_cn hq h0 hH
 have hc : ∀ f ∈ ([66] : List FuncId),Closed f := by simp [closed_coned]
 have hm : (Tryz.prog).follows .mixedOrders=true := by kernel_rfl
 exact (memoX_drop (B := kE_B4) Y hc hm hp hM kE_x4_0 memoX_nil)
def kE_K5 : List (FuncId × List AC) := [(153,[])]
def kE_B5 : MemoX := [(53,[(false,[(false,[.inr (6,73,0,6,1)])]),(false,[(false,[.inr (6,85,0,6,1)])])],[(73,[.inr (0,0,0,0,0),.inr (0,0,1,0,0),.inr (0,0,2,0,0),.inr (0,0,3,0,0),.inr (0,0,4,0,0),.inr (0,0,5,0,0)]),(85,[.inr (0,0,15,0,0),.inr (0,0,16,0,0),.inr (0,0,17,0,0),.inr (0,0,18,0,0),.inr (0,0,19,0,0),.inr (0,0,20,0,0)])],146,(false,[(false,[.inl (.bool false)])]),[(73,[.inr (0,0,0,0,0),.inr (0,0,1,0,0),.inr (0,0,2,0,0),.inr (0,0,3,0,0),.inr (0,0,4,0,0),.inr (0,0,5,0,0)]),(85,[.inr (0,0,15,0,0),.inr (0,0,16,0,0),.inr (0,0,17,0,0),.inr (0,0,18,0,0),.inr (0,0,19,0,0),.inr (0,0,20,0,0)])],176)]
theorem kE_x5_0 : mxOne (sx Tryz.prog kE_N kE_H5 kE_K5 kE_L kE_C kE_Z (prC [66])) kE_cs kE_G 4 (kE_B5.drop 0)=true := by kernel_rfl
theorem kE_mx5 {q : Nat→Rat} {σ : Nat→ByteArray} {w : World} (hσ : ∀ j,(σ j).size≤1048576) (hq : ∀ (a : Nat) nd,kE_N[a]? = some nd→q a=valN σ q nd) (h0 : ∀ a,kE_N.length≤a→q a=0) (hH : hAll q kE_H5) (hp : PreS w) (hM : MemoAll kE_N kE_L kE_C kE_Z q σ [66] w kE_G) : MemoXOk (sx Tryz.prog kE_N kE_H5 kE_K5 kE_L kE_C kE_Z (prC [66])) (evS q σ) w kE_B5 := by
 have Y : Hy kE_N kE_H5 kE_L kE_C kE_Z q σ := hy_ofW hσ kE_wf kE_sz kE_lt kE_cn hq h0 hH
 have hc : ∀ f ∈ ([66] : List FuncId),Closed f := by simp [closed_coned]
 have hm : (Tryz.prog).follows .mixedOrders=true := by kernel_rfl
 exact (memoX_drop (B := kE_B5) Y hc hm hp hM kE_x5_0 memoX_nil)
theorem kE_r0 : (callD (sx Tryz.prog kE_N kE_H0 [(153,[])] kE_L kE_C kE_Z (prC [66])) kE_cs kE_G 7 [] 17 [(false,[(true,[.inr (2,0,0,0,0),.inr (2,1,0,0,0),.inr (2,2,0,0,0),.inr (2,3,0,0,0),.inr (2,4,0,0,0),.inr (2,5,0,0,0)])]),(false,[(true,[.inr (2,6,0,0,0),.inr (2,7,0,0,0),.inr (2,8,0,0,0),.inr (2,9,0,0,0),.inr (2,10,0,0,0),.inr (2,11,0,0,0)])]),(false,[(true,[.inr (2,12,0,0,0),.inr (2,13,0,0,0)])])] [] 0).map (·.1)=some (kB true) := by kernel_rfl
theorem kE_r1 : (callD (sx Tryz.prog kE_N kE_H1 [(153,[])] kE_L kE_C kE_Z (prC [66])) kE_cs kE_G 7 [] 17 [(false,[(true,[.inr (2,0,0,0,0),.inr (2,1,0,0,0),.inr (2,2,0,0,0),.inr (2,3,0,0,0),.inr (2,4,0,0,0),.inr (2,5,0,0,0)])]),(false,[(true,[.inr (2,6,0,0,0),.inr (2,7,0,0,0),.inr (2,8,0,0,0),.inr (2,9,0,0,0),.inr (2,10,0,0,0),.inr (2,11,0,0,0)])]),(false,[(true,[.inr (2,12,0,0,0),.inr (2,13,0,0,0)])])] [] 0).map (·.1)=some (kB true) := by kernel_rfl
theorem kE_r2 : (callD (sx Tryz.prog kE_N kE_H2 [(153,[])] kE_L kE_C kE_Z (prC [66])) kE_cs kE_G 7 [] 17 [(false,[(true,[.inr (2,0,0,0,0),.inr (2,1,0,0,0),.inr (2,2,0,0,0),.inr (2,3,0,0,0),.inr (2,4,0,0,0),.inr (2,5,0,0,0)])]),(false,[(true,[.inr (2,6,0,0,0),.inr (2,7,0,0,0),.inr (2,8,0,0,0),.inr (2,9,0,0,0),.inr (2,10,0,0,0),.inr (2,11,0,0,0)])]),(false,[(true,[.inr (2,12,0,0,0),.inr (2,13,0,0,0)])])] [] 0).map (·.1)=some (kB true) := by kernel_rfl
theorem kE_r3 : (callE (sx Tryz.prog kE_N kE_H3 kE_K3 kE_L kE_C kE_Z (prC [66])) kE_cs kE_G kE_B3 7 [] 17 [(false,[(true,[.inr (2,0,0,0,0),.inr (2,1,0,0,0),.inr (2,2,0,0,0),.inr (2,3,0,0,0),.inr (2,4,0,0,0),.inr (2,5,0,0,0)])]),(false,[(true,[.inr (2,6,0,0,0),.inr (2,7,0,0,0),.inr (2,8,0,0,0),.inr (2,9,0,0,0),.inr (2,10,0,0,0),.inr (2,11,0,0,0)])]),(false,[(true,[.inr (2,12,0,0,0),.inr (2,13,0,0,0)])])] [] 0).map (·.1)=some (kB true) := by kernel_rfl
theorem kE_r4 : (callE (sx Tryz.prog kE_N kE_H4 kE_K4 kE_L kE_C kE_Z (prC [66])) kE_cs kE_G kE_B4 8 [] 17 [(false,[(true,[.inr (2,0,0,0,0),.inr (2,1,0,0,0),.inr (2,2,0,0,0),.inr (2,3,0,0,0),.inr (2,4,0,0,0),.inr (2,5,0,0,0)])]),(false,[(true,[.inr (2,6,0,0,0),.inr (2,7,0,0,0),.inr (2,8,0,0,0),.inr (2,9,0,0,0),.inr (2,10,0,0,0),.inr (2,11,0,0,0)])]),(false,[(true,[.inr (2,12,0,0,0),.inr (2,13,0,0,0)])])] [] 0).map (·.1)=some (kB true) := by kernel_rfl
theorem kE_r5 : (callE (sx Tryz.prog kE_N kE_H5 kE_K5 kE_L kE_C kE_Z (prC [66])) kE_cs kE_G kE_B5 8 [] 17 [(false,[(true,[.inr (2,0,0,0,0),.inr (2,1,0,0,0),.inr (2,2,0,0,0),.inr (2,3,0,0,0),.inr (2,4,0,0,0),.inr (2,5,0,0,0)])]),(false,[(true,[.inr (2,6,0,0,0),.inr (2,7,0,0,0),.inr (2,8,0,0,0),.inr (2,9,0,0,0),.inr (2,10,0,0,0),.inr (2,11,0,0,0)])]),(false,[(true,[.inr (2,12,0,0,0),.inr (2,13,0,0,0)])])] [] 0).map (·.1)=some (kB true) := by kernel_rfl
theorem kE_An {a b : Prop} (x : a) (y : b) : a∧b := ⟨x,y⟩
theorem kE_leaf {M : Memo} {H : List (Nat × Nat × Nat × Nat)} {K : List (FuncId × List AC)} {k : Nat} {q : Nat→Rat} {σ : Nat→ByteArray} {args : List AV} {vs : List Value} {w : World} (hr : (callD (sx Tryz.prog kE_N H K kE_L kE_C kE_Z (prC [66])) kE_cs M k [] 17 args [] 0).map (·.1)=some (kB true)) (hσ : ∀ j,(σ j).size≤1048576) (hq : ∀ (a : Nat) nd,kE_N[a]? = some nd→q a=valN σ q nd) (h0 : ∀ a,kE_N.length≤a→q a=0) (hH : hAll q H) (hp : PreS w) (hM : MemoAll kE_N kE_L kE_C kE_Z q σ [66] w M) (hA : ∀ K,A2 (avOn (cOn (evS q σ) K (fun _ => none) w)) args vs) : Calls Tryz.prog 17 vs.toArray w fun e w' => Below w.heap.size w w'∧e=.returned (.bool true) :=
 run_toldD' k (hy_ofW hσ kE_wf kE_sz kE_lt kE_cn hq h0 hH) (by simp [closed_coned]) (by kernel_rfl) hp hM hr (hA K)
theorem kE_leafE {M : Memo} {B : MemoX} {H : List (Nat × Nat × Nat × Nat)} {K : List (FuncId × List AC)} {k : Nat} {q : Nat→Rat} {σ : Nat→ByteArray} {args : List AV} {vs : List Value} {w : World} (hr : (callE (sx Tryz.prog kE_N H K kE_L kE_C kE_Z (prC [66])) kE_cs M B k [] 17 args [] 0).map (·.1)=some (kB true)) (hσ : ∀ j,(σ j).size≤1048576) (hq : ∀ (a : Nat) nd,kE_N[a]? = some nd→q a=valN σ q nd) (h0 : ∀ a,kE_N.length≤a→q a=0) (hH : hAll q H) (hp : PreS w) (hM : MemoAll kE_N kE_L kE_C kE_Z q σ [66] w M) (hB : MemoXOk (sx Tryz.prog kE_N H K kE_L kE_C kE_Z (prC [66])) (evS q σ) w B) (hA : ∀ K,A2 (avOn (cOn (evS q σ) K (fun _ => none) w)) args vs) : Calls Tryz.prog 17 vs.toArray w fun e w' => Below w.heap.size w w'∧e=.returned (.bool true) :=
 run_toldE' k (hy_ofW hσ kE_wf kE_sz kE_lt kE_cn hq h0 hH) (by simp [closed_coned]) (by kernel_rfl) hp hM hB hr (hA K)
theorem kE_leafC {H : List (Nat × Nat × Nat × Nat)} {K : List (FuncId × List AC)} {k : Nat} {q : Nat→Rat} {σ : Nat→ByteArray} {args : List AV} {vs : List Value} {w : World} (hr : (callC (sx Tryz.prog kE_N H K kE_L kE_C kE_Z (prC [66])) kE_cs k [] 17 args [] 0).map (·.1)=some (kB true)) (hσ : ∀ j,(σ j).size≤1048576) (hq : ∀ (a : Nat) nd,kE_N[a]? = some nd→q a=valN σ q nd) (h0 : ∀ a,kE_N.length≤a→q a=0) (hH : hAll q H) (hp : PreS w) (hA : ∀ K,A2 (avOn (cOn (evS q σ) K (fun _ => none) w)) args vs) : Calls Tryz.prog 17 vs.toArray w fun e w' => Below w.heap.size w w'∧e=.returned (.bool true) :=
 run_toldC' k (hy_ofW hσ kE_wf kE_sz kE_lt kE_cn hq h0 hH) (by simp [closed_coned]) (by kernel_rfl) hr hp (hA K)
theorem kE_walk {w : World} {ka kb kc kd ke kf na nb nc nd ne nf ux uz : ByteArray} (ska : ka.size≤1048576) (skb : kb.size≤1048576) (skc : kc.size≤1048576) (skd : kd.size≤1048576) (ske : ke.size≤1048576) (skf : kf.size≤1048576) (sna : na.size≤1048576) (snb : nb.size≤1048576) (snc : nc.size≤1048576) (snd : nd.size≤1048576) (sne : ne.size≤1048576) (snf : nf.size≤1048576) (sux : ux.size≤1048576) (suz : uz.size≤1048576) (tab : Tab w) (mx : MaxL w) :
  Calls Tryz.prog 17 #[.agg #[.string ka,.string kb,.string kc,.string kd,.string ke,.string kf],.agg #[.string na,.string nb,.string nc,.string nd,.string ne,.string nf],.agg #[.string ux,.string uz]] w fun e w' => Below w.heap.size w w'∧e=.returned (.bool true) := by
 have hσ : ∀ j,(sgOf [ka,kb,kc,kd,ke,kf,na,nb,nc,nd,ne,nf,ux,uz] j).size≤1048576 := sgOf_size (by simp [ska,skb,skc,skd,ske,skf,sna,snb,snc,snd,sne,snf,sux,suz])
 obtain ⟨q,hq,h0⟩ := nodes_exist (sgOf [ka,kb,kc,kd,ke,kf,na,nb,nc,nd,ne,nf,ux,uz]) kE_N kE_wf
 have hA : ∀ K,A2 (avOn (cOn (evS q (sgOf [ka,kb,kc,kd,ke,kf,na,nb,nc,nd,ne,nf,ux,uz])) K (fun _ => none) w)) [(false,[(true,[.inr (2,0,0,0,0),.inr (2,1,0,0,0),.inr (2,2,0,0,0),.inr (2,3,0,0,0),.inr (2,4,0,0,0),.inr (2,5,0,0,0)])]),(false,[(true,[.inr (2,6,0,0,0),.inr (2,7,0,0,0),.inr (2,8,0,0,0),.inr (2,9,0,0,0),.inr (2,10,0,0,0),.inr (2,11,0,0,0)])]),(false,[(true,[.inr (2,12,0,0,0),.inr (2,13,0,0,0)])])] [.agg #[.string ka,.string kb,.string kc,.string kd,.string ke,.string kf],.agg #[.string na,.string nb,.string nc,.string nd,.string ne,.string nf],.agg #[.string ux,.string uz]] := fun K => ⟨⟨⟨[.string ka,.string kb,.string kc,.string kd,.string ke,.string kf],rfl,rfl,rfl,rfl,rfl,rfl,rfl,trivial⟩,trivial⟩,⟨⟨[.string na,.string nb,.string nc,.string nd,.string ne,.string nf],rfl,rfl,rfl,rfl,rfl,rfl,rfl,trivial⟩,trivial⟩,⟨⟨[.string ux,.string uz],rfl,rfl,rfl,trivial⟩,trivial⟩,trivial⟩
 have E32 : q 32=1 := (hq 32 _ rfl).trans kE_c32
 have E33 : q 33=2 := (hq 33 _ rfl).trans kE_c33
 have E34 : q 34=q 0*q 33 := hq 34 _ rfl
 have E35 : q 35=q 2*q 33 := hq 35 _ rfl
 have E36 : q 36=q 5*q 33 := hq 36 _ rfl
 have E37 : q 37=q 34*q 30 := hq 37 _ rfl
 have E38 : q 38=0 := (hq 38 _ rfl).trans kE_c38
 have E39 : q 39=q 38+q 37 := hq 39 _ rfl
 have E40 : q 40=q 1*q 31 := hq 40 _ rfl
 have E41 : q 41=q 39+q 40 := hq 41 _ rfl
 have E42 : q 42=q 3*q 32 := hq 42 _ rfl
 have E43 : q 43=q 41+q 42 := hq 43 _ rfl
 have E44 : q 44=q 1*q 30 := hq 44 _ rfl
 have E45 : q 45=q 38+q 44 := hq 45 _ rfl
 have E46 : q 46=q 35*q 31 := hq 46 _ rfl
 have E47 : q 47=q 45+q 46 := hq 47 _ rfl
 have E48 : q 48=q 4*q 32 := hq 48 _ rfl
 have E49 : q 49=q 47+q 48 := hq 49 _ rfl
 have E50 : q 50=q 3*q 30 := hq 50 _ rfl
 have E51 : q 51=q 38+q 50 := hq 51 _ rfl
 have E52 : q 52=q 4*q 31 := hq 52 _ rfl
 have E53 : q 53=q 51+q 52 := hq 53 _ rfl
 have E54 : q 54=q 36*q 32 := hq 54 _ rfl
 have E55 : q 55=q 53+q 54 := hq 55 _ rfl
 have E56 : q 56=q 30*q 43 := hq 56 _ rfl
 have E57 : q 57=q 38+q 56 := hq 57 _ rfl
 have E58 : q 58=q 31*q 49 := hq 58 _ rfl
 have E59 : q 59=q 57+q 58 := hq 59 _ rfl
 have E60 : q 60=q 32*q 55 := hq 60 _ rfl
 have E61 : q 61=q 59+q 60 := hq 61 _ rfl
 have E62 : q 62=q 15*q 33 := hq 62 _ rfl
 have E63 : q 63=q 17*q 33 := hq 63 _ rfl
 have E64 : q 64=q 20*q 33 := hq 64 _ rfl
 have E65 : q 65=q 62*q 30 := hq 65 _ rfl
 have E66 : q 66=q 38+q 65 := hq 66 _ rfl
 have E67 : q 67=q 16*q 31 := hq 67 _ rfl
 have E68 : q 68=q 66+q 67 := hq 68 _ rfl
 have E69 : q 69=q 18*q 32 := hq 69 _ rfl
 have E70 : q 70=q 68+q 69 := hq 70 _ rfl
 have E71 : q 71=q 16*q 30 := hq 71 _ rfl
 have E72 : q 72=q 38+q 71 := hq 72 _ rfl
 have E73 : q 73=q 63*q 31 := hq 73 _ rfl
 have E74 : q 74=q 72+q 73 := hq 74 _ rfl
 have E75 : q 75=q 19*q 32 := hq 75 _ rfl
 have E76 : q 76=q 74+q 75 := hq 76 _ rfl
 have E77 : q 77=q 18*q 30 := hq 77 _ rfl
 have E78 : q 78=q 38+q 77 := hq 78 _ rfl
 have E79 : q 79=q 19*q 31 := hq 79 _ rfl
 have E80 : q 80=q 78+q 79 := hq 80 _ rfl
 have E81 : q 81=q 64*q 32 := hq 81 _ rfl
 have E82 : q 82=q 80+q 81 := hq 82 _ rfl
 have E83 : q 83=q 30*q 70 := hq 83 _ rfl
 have E84 : q 84=q 38+q 83 := hq 84 _ rfl
 have E85 : q 85=q 31*q 76 := hq 85 _ rfl
 have E86 : q 86=q 84+q 85 := hq 86 _ rfl
 have E87 : q 87=q 32*q 82 := hq 87 _ rfl
 have E88 : q 88=q 86+q 87 := hq 88 _ rfl
 have E89 : q 89=q 0*q 88 := hq 89 _ rfl
 have E90 : q 90=q 15*q 61 := hq 90 _ rfl
 have E91 : q 91=q 89-q 90 := hq 91 _ rfl
 have E92 : q 92=q 1*q 88 := hq 92 _ rfl
 have E93 : q 93=q 16*q 61 := hq 93 _ rfl
 have E94 : q 94=q 92-q 93 := hq 94 _ rfl
 have E95 : q 95=q 2*q 88 := hq 95 _ rfl
 have E96 : q 96=q 17*q 61 := hq 96 _ rfl
 have E97 : q 97=q 95-q 96 := hq 97 _ rfl
 have E98 : q 98=q 3*q 88 := hq 98 _ rfl
 have E99 : q 99=q 18*q 61 := hq 99 _ rfl
 have E100 : q 100=q 98-q 99 := hq 100 _ rfl
 have E101 : q 101=q 4*q 88 := hq 101 _ rfl
 have E102 : q 102=q 19*q 61 := hq 102 _ rfl
 have E103 : q 103=q 101-q 102 := hq 103 _ rfl
 have E104 : q 104=q 5*q 88 := hq 104 _ rfl
 have E105 : q 105=q 20*q 61 := hq 105 _ rfl
 have E106 : q 106=q 104-q 105 := hq 106 _ rfl
 have E116 : q 116=(1/2) := (hq 116 _ rfl).trans kE_c116
 have E117 : q 117=q 0*q 30 := hq 117 _ rfl
 have E118 : q 118=q 117*q 30 := hq 118 _ rfl
 have E119 : q 119=q 30*q 31 := hq 119 _ rfl
 have E120 : q 120=q 31*q 30 := hq 120 _ rfl
 have E121 : q 121=q 119+q 120 := hq 121 _ rfl
 have E122 : q 122=q 1*q 116 := hq 122 _ rfl
 have E123 : q 123=q 122*q 121 := hq 123 _ rfl
 have E124 : q 124=q 2*q 31 := hq 124 _ rfl
 have E125 : q 125=q 124*q 31 := hq 125 _ rfl
 have E126 : q 126=q 30+q 30 := hq 126 _ rfl
 have E127 : q 127=q 3*q 116 := hq 127 _ rfl
 have E128 : q 128=q 127*q 126 := hq 128 _ rfl
 have E129 : q 129=q 31+q 31 := hq 129 _ rfl
 have E130 : q 130=q 4*q 116 := hq 130 _ rfl
 have E131 : q 131=q 130*q 129 := hq 131 _ rfl
 have E132 : q 132=q 118+q 123 := hq 132 _ rfl
 have E133 : q 133=q 132+q 125 := hq 133 _ rfl
 have E134 : q 134=q 133+q 128 := hq 134 _ rfl
 have E135 : q 135=q 134+q 131 := hq 135 _ rfl
 have E136 : q 136=q 135+q 5 := hq 136 _ rfl
 have E137 : q 137=q 15*q 30 := hq 137 _ rfl
 have E138 : q 138=q 137*q 30 := hq 138 _ rfl
 have E139 : q 139=q 16*q 116 := hq 139 _ rfl
 have E140 : q 140=q 139*q 121 := hq 140 _ rfl
 have E141 : q 141=q 17*q 31 := hq 141 _ rfl
 have E142 : q 142=q 141*q 31 := hq 142 _ rfl
 have E143 : q 143=q 18*q 116 := hq 143 _ rfl
 have E144 : q 144=q 143*q 126 := hq 144 _ rfl
 have E145 : q 145=q 19*q 116 := hq 145 _ rfl
 have E146 : q 146=q 145*q 129 := hq 146 _ rfl
 have E147 : q 147=q 138+q 140 := hq 147 _ rfl
 have E148 : q 148=q 147+q 142 := hq 148 _ rfl
 have E149 : q 149=q 148+q 144 := hq 149 _ rfl
 have E150 : q 150=q 149+q 146 := hq 150 _ rfl
 have E151 : q 151=q 150+q 20 := hq 151 _ rfl
 have E152 : q 152=q 1*q 15 := hq 152 _ rfl
 have E153 : q 153=q 0*q 16 := hq 153 _ rfl
 have E154 : q 154=q 152-q 153 := hq 154 _ rfl
 have E155 : q 155=q 2*q 15 := hq 155 _ rfl
 have E156 : q 156=q 0*q 17 := hq 156 _ rfl
 have E157 : q 157=q 155-q 156 := hq 157 _ rfl
 have E158 : q 158=q 2*q 16 := hq 158 _ rfl
 have E159 : q 159=q 1*q 17 := hq 159 _ rfl
 have E160 : q 160=q 158-q 159 := hq 160 _ rfl
 have E161 : q 161=q 3*q 15 := hq 161 _ rfl
 have E162 : q 162=q 0*q 18 := hq 162 _ rfl
 have E163 : q 163=q 161-q 162 := hq 163 _ rfl
 have E164 : q 164=q 3*q 16 := hq 164 _ rfl
 have E165 : q 165=q 1*q 18 := hq 165 _ rfl
 have E166 : q 166=q 164-q 165 := hq 166 _ rfl
 have E167 : q 167=q 3*q 17 := hq 167 _ rfl
 have E168 : q 168=q 2*q 18 := hq 168 _ rfl
 have E169 : q 169=q 167-q 168 := hq 169 _ rfl
 have E170 : q 170=q 4*q 15 := hq 170 _ rfl
 have E171 : q 171=q 0*q 19 := hq 171 _ rfl
 have E172 : q 172=q 170-q 171 := hq 172 _ rfl
 have E173 : q 173=q 4*q 16 := hq 173 _ rfl
 have E174 : q 174=q 1*q 19 := hq 174 _ rfl
 have E175 : q 175=q 173-q 174 := hq 175 _ rfl
 have E176 : q 176=q 4*q 17 := hq 176 _ rfl
 have E177 : q 177=q 2*q 19 := hq 177 _ rfl
 have E178 : q 178=q 176-q 177 := hq 178 _ rfl
 have E179 : q 179=q 4*q 18 := hq 179 _ rfl
 have E180 : q 180=q 3*q 19 := hq 180 _ rfl
 have E181 : q 181=q 179-q 180 := hq 181 _ rfl
 have E182 : q 182=q 5*q 15 := hq 182 _ rfl
 have E183 : q 183=q 0*q 20 := hq 183 _ rfl
 have E184 : q 184=q 182-q 183 := hq 184 _ rfl
 have E185 : q 185=q 5*q 16 := hq 185 _ rfl
 have E186 : q 186=q 1*q 20 := hq 186 _ rfl
 have E187 : q 187=q 185-q 186 := hq 187 _ rfl
 have E188 : q 188=q 5*q 17 := hq 188 _ rfl
 have E189 : q 189=q 2*q 20 := hq 189 _ rfl
 have E190 : q 190=q 188-q 189 := hq 190 _ rfl
 have E191 : q 191=q 5*q 18 := hq 191 _ rfl
 have E192 : q 192=q 3*q 20 := hq 192 _ rfl
 have E193 : q 193=q 191-q 192 := hq 193 _ rfl
 have E194 : q 194=q 5*q 19 := hq 194 _ rfl
 have E195 : q 195=q 4*q 20 := hq 195 _ rfl
 have E196 : q 196=q 194-q 195 := hq 196 _ rfl
 have E226 : q 226=q 91*fac [q 91,q 94,q 97,q 100,q 103,q 106] := hq 226 _ rfl
 have E227 : q 227=q 94*fac [q 91,q 94,q 97,q 100,q 103,q 106] := hq 227 _ rfl
 have E228 : q 228=q 97*fac [q 91,q 94,q 97,q 100,q 103,q 106] := hq 228 _ rfl
 have E229 : q 229=q 100*fac [q 91,q 94,q 97,q 100,q 103,q 106] := hq 229 _ rfl
 have E230 : q 230=q 103*fac [q 91,q 94,q 97,q 100,q 103,q 106] := hq 230 _ rfl
 have E231 : q 231=q 106*fac [q 91,q 94,q 97,q 100,q 103,q 106] := hq 231 _ rfl
 have E232 : q 232=q 151*q 0 := hq 232 _ rfl
 have E233 : q 233=q 136*q 15 := hq 233 _ rfl
 have E234 : q 234=q 232-q 233 := hq 234 _ rfl
 have E235 : q 235=q 151*q 1 := hq 235 _ rfl
 have E236 : q 236=q 136*q 16 := hq 236 _ rfl
 have E237 : q 237=q 235-q 236 := hq 237 _ rfl
 have E238 : q 238=q 151*q 2 := hq 238 _ rfl
 have E239 : q 239=q 136*q 17 := hq 239 _ rfl
 have E240 : q 240=q 238-q 239 := hq 240 _ rfl
 have E241 : q 241=q 151*q 3 := hq 241 _ rfl
 have E242 : q 242=q 136*q 18 := hq 242 _ rfl
 have E243 : q 243=q 241-q 242 := hq 243 _ rfl
 have E244 : q 244=q 151*q 4 := hq 244 _ rfl
 have E245 : q 245=q 136*q 19 := hq 245 _ rfl
 have E246 : q 246=q 244-q 245 := hq 246 _ rfl
 have E247 : q 247=q 151*q 5 := hq 247 _ rfl
 have E248 : q 248=q 136*q 20 := hq 248 _ rfl
 have E249 : q 249=q 247-q 248 := hq 249 _ rfl
 have E270 : q 270=q 237*q 226 := hq 270 _ rfl
 have E271 : q 271=q 234*q 227 := hq 271 _ rfl
 have E272 : q 272=q 270-q 271 := hq 272 _ rfl
 have E273 : q 273=q 240*q 226 := hq 273 _ rfl
 have E274 : q 274=q 234*q 228 := hq 274 _ rfl
 have E275 : q 275=q 273-q 274 := hq 275 _ rfl
 have E276 : q 276=q 240*q 227 := hq 276 _ rfl
 have E277 : q 277=q 237*q 228 := hq 277 _ rfl
 have E278 : q 278=q 276-q 277 := hq 278 _ rfl
 have E279 : q 279=q 243*q 226 := hq 279 _ rfl
 have E280 : q 280=q 234*q 229 := hq 280 _ rfl
 have E281 : q 281=q 279-q 280 := hq 281 _ rfl
 have E282 : q 282=q 243*q 227 := hq 282 _ rfl
 have E283 : q 283=q 237*q 229 := hq 283 _ rfl
 have E284 : q 284=q 282-q 283 := hq 284 _ rfl
 have E285 : q 285=q 243*q 228 := hq 285 _ rfl
 have E286 : q 286=q 240*q 229 := hq 286 _ rfl
 have E287 : q 287=q 285-q 286 := hq 287 _ rfl
 have E288 : q 288=q 246*q 226 := hq 288 _ rfl
 have E289 : q 289=q 234*q 230 := hq 289 _ rfl
 have E290 : q 290=q 288-q 289 := hq 290 _ rfl
 have E291 : q 291=q 246*q 227 := hq 291 _ rfl
 have E292 : q 292=q 237*q 230 := hq 292 _ rfl
 have E293 : q 293=q 291-q 292 := hq 293 _ rfl
 have E294 : q 294=q 246*q 228 := hq 294 _ rfl
 have E295 : q 295=q 240*q 230 := hq 295 _ rfl
 have E296 : q 296=q 294-q 295 := hq 296 _ rfl
 have E297 : q 297=q 246*q 229 := hq 297 _ rfl
 have E298 : q 298=q 243*q 230 := hq 298 _ rfl
 have E299 : q 299=q 297-q 298 := hq 299 _ rfl
 have E300 : q 300=q 249*q 226 := hq 300 _ rfl
 have E301 : q 301=q 234*q 231 := hq 301 _ rfl
 have E302 : q 302=q 300-q 301 := hq 302 _ rfl
 have E303 : q 303=q 249*q 227 := hq 303 _ rfl
 have E304 : q 304=q 237*q 231 := hq 304 _ rfl
 have E305 : q 305=q 303-q 304 := hq 305 _ rfl
 have E306 : q 306=q 249*q 228 := hq 306 _ rfl
 have E307 : q 307=q 240*q 231 := hq 307 _ rfl
 have E308 : q 308=q 306-q 307 := hq 308 _ rfl
 have E309 : q 309=q 249*q 229 := hq 309 _ rfl
 have E310 : q 310=q 243*q 231 := hq 310 _ rfl
 have E311 : q 311=q 309-q 310 := hq 311 _ rfl
 have E312 : q 312=q 249*q 230 := hq 312 _ rfl
 have E313 : q 313=q 246*q 231 := hq 313 _ rfl
 have E314 : q 314=q 312-q 313 := hq 314 _ rfl
 have Q115 : q 115=0 ↔ ((((q 91=0∧q 94=0)∧q 97=0)∧q 100=0)∧q 103=0) := (sq_next (sq_next (sq_next (sq_next (sq_first (hq 107 _ rfl)) (hq 108 _ rfl) (hq 109 _ rfl)) (hq 110 _ rfl) (hq 111 _ rfl)) (hq 112 _ rfl) (hq 113 _ rfl)) (hq 114 _ rfl) (hq 115 _ rfl)).2
 have Q225 : q 225=0 ↔ ((((((((((((((q 154=0∧q 157=0)∧q 160=0)∧q 163=0)∧q 166=0)∧q 169=0)∧q 172=0)∧q 175=0)∧q 178=0)∧q 181=0)∧q 184=0)∧q 187=0)∧q 190=0)∧q 193=0)∧q 196=0) := (sq_next (sq_next (sq_next (sq_next (sq_next (sq_next (sq_next (sq_next (sq_next (sq_next (sq_next (sq_next (sq_next (sq_next (sq_first (hq 197 _ rfl)) (hq 198 _ rfl) (hq 199 _ rfl)) (hq 200 _ rfl) (hq 201 _ rfl)) (hq 202 _ rfl) (hq 203 _ rfl)) (hq 204 _ rfl) (hq 205 _ rfl)) (hq 206 _ rfl) (hq 207 _ rfl)) (hq 208 _ rfl) (hq 209 _ rfl)) (hq 210 _ rfl) (hq 211 _ rfl)) (hq 212 _ rfl) (hq 213 _ rfl)) (hq 214 _ rfl) (hq 215 _ rfl)) (hq 216 _ rfl) (hq 217 _ rfl)) (hq 218 _ rfl) (hq 219 _ rfl)) (hq 220 _ rfl) (hq 221 _ rfl)) (hq 222 _ rfl) (hq 223 _ rfl)) (hq 224 _ rfl) (hq 225 _ rfl)).2
 have Q258 : q 258=0 ↔ ((((q 234=0∧q 237=0)∧q 240=0)∧q 243=0)∧q 246=0) := (sq_next (sq_next (sq_next (sq_next (sq_first (hq 250 _ rfl)) (hq 251 _ rfl) (hq 252 _ rfl)) (hq 253 _ rfl) (hq 254 _ rfl)) (hq 255 _ rfl) (hq 256 _ rfl)) (hq 257 _ rfl) (hq 258 _ rfl)).2
 have Q260 : q 260=0 ↔ (((((q 91=0∧q 94=0)∧q 97=0)∧q 100=0)∧q 103=0)∧q 106=0) := (sq_next (sq_next (sq_next (sq_next (sq_next (sq_first (hq 107 _ rfl)) (hq 108 _ rfl) (hq 109 _ rfl)) (hq 110 _ rfl) (hq 111 _ rfl)) (hq 112 _ rfl) (hq 113 _ rfl)) (hq 114 _ rfl) (hq 115 _ rfl)) (hq 259 _ rfl) (hq 260 _ rfl)).2
 have Q269 : q 269=0 ↔ ((((q 226=0∧q 227=0)∧q 228=0)∧q 229=0)∧q 230=0) := (sq_next (sq_next (sq_next (sq_next (sq_first (hq 261 _ rfl)) (hq 262 _ rfl) (hq 263 _ rfl)) (hq 264 _ rfl) (hq 265 _ rfl)) (hq 266 _ rfl) (hq 267 _ rfl)) (hq 268 _ rfl) (hq 269 _ rfl)).2
 have Q343 : q 343=0 ↔ ((((((((((((((q 272=0∧q 275=0)∧q 278=0)∧q 281=0)∧q 284=0)∧q 287=0)∧q 290=0)∧q 293=0)∧q 296=0)∧q 299=0)∧q 302=0)∧q 305=0)∧q 308=0)∧q 311=0)∧q 314=0) := (sq_next (sq_next (sq_next (sq_next (sq_next (sq_next (sq_next (sq_next (sq_next (sq_next (sq_next (sq_next (sq_next (sq_next (sq_first (hq 315 _ rfl)) (hq 316 _ rfl) (hq 317 _ rfl)) (hq 318 _ rfl) (hq 319 _ rfl)) (hq 320 _ rfl) (hq 321 _ rfl)) (hq 322 _ rfl) (hq 323 _ rfl)) (hq 324 _ rfl) (hq 325 _ rfl)) (hq 326 _ rfl) (hq 327 _ rfl)) (hq 328 _ rfl) (hq 329 _ rfl)) (hq 330 _ rfl) (hq 331 _ rfl)) (hq 332 _ rfl) (hq 333 _ rfl)) (hq 334 _ rfl) (hq 335 _ rfl)) (hq 336 _ rfl) (hq 337 _ rfl)) (hq 338 _ rfl) (hq 339 _ rfl)) (hq 340 _ rfl) (hq 341 _ rfl)) (hq 342 _ rfl) (hq 343 _ rfl)).2
 by_cases b14 : q 14=0
 ·
  have hH : hAll q kE_H0 := (kE_An (hT b14) trivial)
  exact kE_leaf kE_r0 hσ hq h0 hH ⟨tab,mx⟩ (kE_memoG hσ hq h0 ⟨tab,mx⟩) hA
 ·
  by_cases b29 : q 29=0
  ·
   have hH : hAll q kE_H1 := (kE_An (hF b14) (kE_An (hT b29) trivial))
   exact kE_leaf kE_r1 hσ hq h0 hH ⟨tab,mx⟩ (kE_memoG hσ hq h0 ⟨tab,mx⟩) hA
  ·
   by_cases b115 : q 115=0
   ·
    by_cases b225 : q 225=0
    ·
     have hH : hAll q kE_H2 := (kE_An (hF b14) (kE_An (hF b29) (kE_An (hT b115) (kE_An (hT b225) trivial))))
     exact kE_leaf kE_r2 hσ hq h0 hH ⟨tab,mx⟩ (kE_memoG hσ hq h0 ⟨tab,mx⟩) hA
    ·
     have b136 : q 136=0 := kE_f0 E32 E33 E34 E35 E36 E37 E38 E39 E40 E41 E42 E43 E44 E45 E46 E47 E48 E49 E50 E51 E52 E53 E54 E55 E56 E57 E58 E59 E60 E61 E62 E63 E64 E65 E66 E67 E68 E69 E70 E71 E72 E73 E74 E75 E76 E77 E78 E79 E80 E81 E82 E83 E84 E85 E86 E87 E88 E89 E90 E91 E92 E93 E94 E95 E96 E97 E98 E99 E100 E101 E102 E103 Q115 E116 E117 E118 E119 E120 E121 E122 E123 E124 E125 E126 E127 E128 E129 E130 E131 E132 E133 E134 E135 E136 E152 E153 E154 E155 E156 E157 E158 E159 E160 E161 E162 E163 E164 E165 E166 E167 E168 E169 E170 E171 E172 E173 E174 E175 E176 E177 E178 E179 E180 E181 E182 E183 E184 E185 E186 E187 E188 E189 E190 E191 E192 E193 E194 E195 E196 Q225 b115 b225
     have b151 : q 151=0 := kE_f1 E32 E33 E34 E35 E36 E37 E38 E39 E40 E41 E42 E43 E44 E45 E46 E47 E48 E49 E50 E51 E52 E53 E54 E55 E56 E57 E58 E59 E60 E61 E62 E63 E64 E65 E66 E67 E68 E69 E70 E71 E72 E73 E74 E75 E76 E77 E78 E79 E80 E81 E82 E83 E84 E85 E86 E87 E88 E89 E90 E91 E92 E93 E94 E95 E96 E97 E98 E99 E100 E101 E102 E103 Q115 E116 E119 E120 E121 E126 E129 E137 E138 E139 E140 E141 E142 E143 E144 E145 E146 E147 E148 E149 E150 E151 E152 E153 E154 E155 E156 E157 E158 E159 E160 E161 E162 E163 E164 E165 E166 E167 E168 E169 E170 E171 E172 E173 E174 E175 E176 E177 E178 E179 E180 E181 E182 E183 E184 E185 E186 E187 E188 E189 E190 E191 E192 E193 E194 E195 E196 Q225 b115 b225
     have hH : hAll q kE_H3 := (kE_An (hF b14) (kE_An (hF b29) (kE_An (hT b115) (kE_An (hF b225) (kE_An (hT b136) (kE_An (hT b151) trivial))))))
     have hM := kE_memoG hσ hq h0 (w := w) ⟨tab,mx⟩
     exact kE_leafE kE_r3 hσ hq h0 hH ⟨tab,mx⟩ hM (kE_mx3 hσ hq h0 hH ⟨tab,mx⟩ hM) hA
   ·
    have b225 : ¬ (q 225=0) := kE_f2 E32 E33 E34 E35 E36 E37 E38 E39 E40 E41 E42 E43 E44 E45 E46 E47 E48 E49 E50 E51 E52 E53 E54 E55 E56 E57 E58 E59 E60 E61 E62 E63 E64 E65 E66 E67 E68 E69 E70 E71 E72 E73 E74 E75 E76 E77 E78 E79 E80 E81 E82 E83 E84 E85 E86 E87 E88 E89 E90 E91 E92 E93 E94 E95 E96 E97 E98 E99 E100 E101 E102 E103 Q115 E152 E153 E154 E155 E156 E157 E158 E159 E160 E161 E162 E163 E164 E165 E166 E167 E168 E169 E170 E171 E172 E173 E174 E175 E176 E177 E178 E179 E180 E181 E182 E183 E184 E185 E186 E187 E188 E189 E190 E191 E192 E193 E194 E195 E196 Q225 b115
    by_cases b136 : q 136=0
    ·
     have b151 : ¬ (q 151=0) := kE_f3 E32 E33 E34 E35 E36 E37 E38 E39 E40 E41 E42 E43 E44 E45 E46 E47 E48 E49 E50 E51 E52 E53 E54 E55 E56 E57 E58 E59 E60 E61 E62 E63 E64 E65 E66 E67 E68 E69 E70 E71 E72 E73 E74 E75 E76 E77 E78 E79 E80 E81 E82 E83 E84 E85 E86 E87 E88 E89 E90 E91 E92 E93 E94 E95 E96 E97 E98 E99 E100 E101 E102 E103 Q115 E116 E117 E118 E119 E120 E121 E122 E123 E124 E125 E126 E127 E128 E129 E130 E131 E132 E133 E134 E135 E136 E137 E138 E139 E140 E141 E142 E143 E144 E145 E146 E147 E148 E149 E150 E151 b115 b136
     have b258 : ¬ (q 258=0) := kE_f4 E32 E33 E34 E35 E36 E37 E38 E39 E40 E41 E42 E43 E44 E45 E46 E47 E48 E49 E50 E51 E52 E53 E54 E55 E56 E57 E58 E59 E60 E61 E62 E63 E64 E65 E66 E67 E68 E69 E70 E71 E72 E73 E74 E75 E76 E77 E78 E79 E80 E81 E82 E83 E84 E85 E86 E87 E88 E89 E90 E91 E92 E93 E94 E95 E96 E97 E98 E99 E100 E101 E102 E103 Q115 E116 E117 E118 E119 E120 E121 E122 E123 E124 E125 E126 E127 E128 E129 E130 E131 E132 E133 E134 E135 E136 E137 E138 E139 E140 E141 E142 E143 E144 E145 E146 E147 E148 E149 E150 E151 E232 E233 E234 E235 E236 E237 E238 E239 E240 E241 E242 E243 E244 E245 E246 Q258 b115
     have b260 : ¬ (q 260=0) := kE_f5 E32 E33 E34 E35 E36 E37 E38 E39 E40 E41 E42 E43 E44 E45 E46 E47 E48 E49 E50 E51 E52 E53 E54 E55 E56 E57 E58 E59 E60 E61 E62 E63 E64 E65 E66 E67 E68 E69 E70 E71 E72 E73 E74 E75 E76 E77 E78 E79 E80 E81 E82 E83 E84 E85 E86 E87 E88 E89 E90 E91 E92 E93 E94 E95 E96 E97 E98 E99 E100 E101 E102 E103 E104 E105 E106 Q115 Q260 b115
     have b269 : ¬ (q 269=0) := kE_f6 E32 E33 E34 E35 E36 E37 E38 E39 E40 E41 E42 E43 E44 E45 E46 E47 E48 E49 E50 E51 E52 E53 E54 E55 E56 E57 E58 E59 E60 E61 E62 E63 E64 E65 E66 E67 E68 E69 E70 E71 E72 E73 E74 E75 E76 E77 E78 E79 E80 E81 E82 E83 E84 E85 E86 E87 E88 E89 E90 E91 E92 E93 E94 E95 E96 E97 E98 E99 E100 E101 E102 E103 E104 E105 E106 Q115 E226 E227 E228 E229 E230 Q269 b115
     have b343 : q 343=0 := kE_f7 E32 E33 E34 E35 E36 E37 E38 E39 E40 E41 E42 E43 E44 E45 E46 E47 E48 E49 E50 E51 E52 E53 E54 E55 E56 E57 E58 E59 E60 E61 E62 E63 E64 E65 E66 E67 E68 E69 E70 E71 E72 E73 E74 E75 E76 E77 E78 E79 E80 E81 E82 E83 E84 E85 E86 E87 E88 E89 E90 E91 E92 E93 E94 E95 E96 E97 E98 E99 E100 E101 E102 E103 E104 E105 E106 E116 E117 E118 E119 E120 E121 E122 E123 E124 E125 E126 E127 E128 E129 E130 E131 E132 E133 E134 E135 E136 E137 E138 E139 E140 E141 E142 E143 E144 E145 E146 E147 E148 E149 E150 E151 E226 E227 E228 E229 E230 E231 E232 E233 E234 E235 E236 E237 E238 E239 E240 E241 E242 E243 E244 E245 E246 E247 E248 E249 E270 E271 E272 E273 E274 E275 E276 E277 E278 E279 E280 E281 E282 E283 E284 E285 E286 E287 E288 E289 E290 E291 E292 E293 E294 E295 E296 E297 E298 E299 E300 E301 E302 E303 E304 E305 E306 E307 E308 E309 E310 E311 E312 E313 E314 Q343
     have hH : hAll q kE_H4 := (kE_An (hF b14) (kE_An (hF b29) (kE_An (hF b115) (kE_An (hF b225) (kE_An (hT b136) (kE_An (hF b151) (kE_An (hF b258) (kE_An (hF b260) (kE_An (hF b269) (kE_An (hT b343) trivial))))))))))
     have hM := kE_memoG hσ hq h0 (w := w) ⟨tab,mx⟩
     exact kE_leafE kE_r4 hσ hq h0 hH ⟨tab,mx⟩ hM (kE_mx4 hσ hq h0 hH ⟨tab,mx⟩ hM) hA
    ·
     have b258 : ¬ (q 258=0) := kE_f4 E32 E33 E34 E35 E36 E37 E38 E39 E40 E41 E42 E43 E44 E45 E46 E47 E48 E49 E50 E51 E52 E53 E54 E55 E56 E57 E58 E59 E60 E61 E62 E63 E64 E65 E66 E67 E68 E69 E70 E71 E72 E73 E74 E75 E76 E77 E78 E79 E80 E81 E82 E83 E84 E85 E86 E87 E88 E89 E90 E91 E92 E93 E94 E95 E96 E97 E98 E99 E100 E101 E102 E103 Q115 E116 E117 E118 E119 E120 E121 E122 E123 E124 E125 E126 E127 E128 E129 E130 E131 E132 E133 E134 E135 E136 E137 E138 E139 E140 E141 E142 E143 E144 E145 E146 E147 E148 E149 E150 E151 E232 E233 E234 E235 E236 E237 E238 E239 E240 E241 E242 E243 E244 E245 E246 Q258 b115
     have b260 : ¬ (q 260=0) := kE_f5 E32 E33 E34 E35 E36 E37 E38 E39 E40 E41 E42 E43 E44 E45 E46 E47 E48 E49 E50 E51 E52 E53 E54 E55 E56 E57 E58 E59 E60 E61 E62 E63 E64 E65 E66 E67 E68 E69 E70 E71 E72 E73 E74 E75 E76 E77 E78 E79 E80 E81 E82 E83 E84 E85 E86 E87 E88 E89 E90 E91 E92 E93 E94 E95 E96 E97 E98 E99 E100 E101 E102 E103 E104 E105 E106 Q115 Q260 b115
     have b269 : ¬ (q 269=0) := kE_f6 E32 E33 E34 E35 E36 E37 E38 E39 E40 E41 E42 E43 E44 E45 E46 E47 E48 E49 E50 E51 E52 E53 E54 E55 E56 E57 E58 E59 E60 E61 E62 E63 E64 E65 E66 E67 E68 E69 E70 E71 E72 E73 E74 E75 E76 E77 E78 E79 E80 E81 E82 E83 E84 E85 E86 E87 E88 E89 E90 E91 E92 E93 E94 E95 E96 E97 E98 E99 E100 E101 E102 E103 E104 E105 E106 Q115 E226 E227 E228 E229 E230 Q269 b115
     have b343 : q 343=0 := kE_f7 E32 E33 E34 E35 E36 E37 E38 E39 E40 E41 E42 E43 E44 E45 E46 E47 E48 E49 E50 E51 E52 E53 E54 E55 E56 E57 E58 E59 E60 E61 E62 E63 E64 E65 E66 E67 E68 E69 E70 E71 E72 E73 E74 E75 E76 E77 E78 E79 E80 E81 E82 E83 E84 E85 E86 E87 E88 E89 E90 E91 E92 E93 E94 E95 E96 E97 E98 E99 E100 E101 E102 E103 E104 E105 E106 E116 E117 E118 E119 E120 E121 E122 E123 E124 E125 E126 E127 E128 E129 E130 E131 E132 E133 E134 E135 E136 E137 E138 E139 E140 E141 E142 E143 E144 E145 E146 E147 E148 E149 E150 E151 E226 E227 E228 E229 E230 E231 E232 E233 E234 E235 E236 E237 E238 E239 E240 E241 E242 E243 E244 E245 E246 E247 E248 E249 E270 E271 E272 E273 E274 E275 E276 E277 E278 E279 E280 E281 E282 E283 E284 E285 E286 E287 E288 E289 E290 E291 E292 E293 E294 E295 E296 E297 E298 E299 E300 E301 E302 E303 E304 E305 E306 E307 E308 E309 E310 E311 E312 E313 E314 Q343
     have hH : hAll q kE_H5 := (kE_An (hF b14) (kE_An (hF b29) (kE_An (hF b115) (kE_An (hF b225) (kE_An (hF b136) (kE_An (hF b258) (kE_An (hF b260) (kE_An (hF b269) (kE_An (hT b343) trivial)))))))))
     have hM := kE_memoG hσ hq h0 (w := w) ⟨tab,mx⟩
     exact kE_leafE kE_r5 hσ hq h0 hH ⟨tab,mx⟩ hM (kE_mx5 hσ hq h0 hH ⟨tab,mx⟩ hM) hA
end Go.Proofs.YtgemmepbdmbmfaaGreatDoor
