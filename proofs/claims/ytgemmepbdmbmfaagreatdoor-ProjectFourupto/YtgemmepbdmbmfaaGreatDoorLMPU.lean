/- Part 13 of the walks and of the mathematics under them: VP VPC VY VSZ VPD VPE CFprojected MPU. -/
import Derived.Test.YtgemmepbdmbmfaaGreatDoorA2
import Derived.Test.YtgemmepbdmbmfaaGreatDoorA12
set_option maxHeartbeats 16000000
set_option maxRecDepth 100000
/- VP -/
namespace Cx
open Go Go.RowKit
abbrev Hs := List (Nat × Nat × Nat × Nat)
def Sx.plus (S : Sx) (X : Hs) : Sx := { S with H := X ++ S.H }
abbrev Ask := Nat × Nat × Nat × Nat
def askZ (a : Nat) : Ask := (0,a,0,a)
def askOk (S : Sx) : Ask→Bool
 | (k,a,b,d) => (Nat.beq k 0 && (Nat.beq b 0 && Nat.beq d a)) || (Nat.beq k 3 && (match S.N[d]? with
  | some (op,ar) => Nat.beq op 3 && beqL ar [a,b]
  | none => false))
def sqF (S : Sx) : Nat→List Nat→Option Nat
 | s,[] => some s
 | s,a :: l => (S.nd 4 [a,a]).bind fun b => (S.nd 2 [s,b]).bind fun t => sqF S t l
def sqN (S : Sx) : List Nat→Option Nat
 | [] => none
 | a :: l => (S.nd 4 [a,a]).bind fun s => sqF S s l
def acrossB (S : Sx) (a b : Nat) : List Nat→List Nat→Option (List Ask)
 | c :: l,d :: m => (S.nd 4 [a,d]).bind fun x => (S.nd 4 [c,b]).bind fun y => (S.nd 3 [x,y]).bind fun z => (acrossB S a b l m).map fun r => (3,x,y,z) :: r
 | _,_ => some []
def alikeB (S : Sx) : List Nat→List Nat→List Nat→List Nat→Option (List Ask)
 | pl,pm,a :: l,b :: m => (acrossB S a b pl pm).bind fun r => (alikeB S (pl ++ [a]) (pm ++ [b]) l m).map fun t => r ++ t
 | _,_,_,_ => some []
def sameA (S : Sx) : List Nat→List Nat→Option (List Ask)
 | a :: l,b :: m => (S.nd 3 [a,b]).bind fun d => (sameA S l m).map fun r => (3,a,b,d) :: r
 | _,_ => some []
def asks (S : Sx) (h : List HB) (code : Nat) (args : List AV) : Option (List Ask) :=
 match code with
 | 60 => arg1 (fun x => (asA x).bind fun cs => (qRow S cs).map fun l => l.map askZ) args
 | 61 => arg1 (fun x => (rowB h 1 x).bind fun p => (mapO (acX 0) p.2).map fun l => l.map askZ) args
 | 62 => arg2 (fun x y => (rowB h 1 x).bind fun p => (mapO (acX 0) p.2).bind fun l => (rowB h 1 y).bind fun p' => (mapO (acX 0) p'.2).bind fun m => alikeB S [] [] l m) args
 | 63 => arg1 (fun x => (asA x).bind fun cs => (mapO acTold cs).bind fun l => (plainOf S l).map fun xs => xs.map askZ) args
 | 65 => arg1 (fun x => (asA x).bind fun cs => (mapO (acX 0) cs).map fun l => l.map askZ) args
 | 66 => arg2 (fun x y => (asA x).bind fun cs => (asA y).bind fun ds => (mapO (acX 0) cs).bind fun l => (mapO (acX 0) ds).bind fun m => sameA S l m) args
 | 64 => arg1 (fun x => (asA x).bind fun cs => (qRow S cs).map fun l => (l.take 5).map askZ) args
 | _ => none
def splits : List Ask→Hs→List Hs
 | [],_ => []
 | (k,a,b,_) :: l,X => ((k,a,b,0) :: X) :: splits l ((k,a,b,1) :: X)
def allZ : List Ask→Hs→Hs
 | [],X => X
 | (k,a,b,_) :: l,X => allZ l ((k,a,b,1) :: X)
def bodyC (S : Sx) (call : CallF) : CallF := fun f args h nx => S.P.funcs[f]?.bind fun fn => fn.body.bind fun c => ifO (Nat.ble args.length fn.ntmps) ((runB S call fn.ntmps c { tm := numb1 0 args,h := h,nx := nx }).bind fun r =>
   ifO (Nat.ble r.1 1) ((mapO (resB S.P r.2) fn.results.toList).map fun xs => (tupB xs,r.2.h,r.2.nx)))
abbrev CRes := Option (AV × List HB × Nat)
def agree (h : List HB) (b : Bool) (hi : Nat) : CRes→Bool
 | some (v,h',nx') => (match asB v with
  | some c => b == c
  | none => false) && (Nat.ble nx' hi && h.all fun x => h'.any fun y => Nat.beq y.1 x.1 && acsW x.2 y.2)
 | none => false
def topN : Nat→List CRes→Nat
 | m,[] => m
 | m,some p :: rs => topN (bif Nat.ble m p.2.2 then p.2.2 else m) rs
 | m,none :: rs => topN m rs
def joinC (h : List HB) (nx : Nat) (rs : List CRes) : CRes :=
 match rs with
 | some p :: _ => (asB p.1).bind fun b => ifO (rs.all (agree h b (topN nx rs))) (some (kB b,h,topN nx rs))
 | _ => none
def callC (S : Sx) (cs : List (FuncId × Nat)) : Nat→Hs→CallF
 | 0,_,_,_,_,_ => none
 | n+1,X,f,args,h,nx => match prGet f cs with
  | none => bodyC (S.plus X) (callC S cs n X) f args h nx
  | some c => (asks (S.plus X) h c args).bind fun l => ifO (l.all (askOk S)) ((sqN S (l.map (·.2.2.2))).bind fun s => ((S.plus X).kn 0 s 0).bind fun r =>
    bif Nat.beq 1 r then bodyC (S.plus (allZ l X)) (callC S cs n (allZ l X)) f args h nx
    else joinC h nx ((splits l X).map fun X' => bodyC (S.plus X') (callC S cs n X') f args h nx))
section
variable {S : Sx} {E : Ev S.nb} {w0 : World}
theorem bodyC_ok {call : CallF} (hm : S.P.follows .mixedOrders=true) (N : Knows S E) (hP : PrimOk S E w0) (hC : CallOk S E w0 call) : CallOk S E w0 (bodyC S call) := fun f args h nx p hp γ w vs hi hA hb hlt hf => by
 unfold bodyC at hp
 simp only [Option.bind_eq_some_iff,ifO_some,Option.map_eq_some_iff,Nat.ble_eq] at hp
 obtain ⟨fn,h1,c,h2,h3,⟨e,s'⟩,h4,h5,xs,h6,rfl⟩ := hp
 dsimp only at h5 h6
 rcases (show e=0 ∨ e=1 by omega) with rfl | rfl
 all_goals
  obtain ⟨_,_,r⟩ := runB_ok hm N hP hC c _ _ _ h4
  refine calls_of_wp h1 h2 (r γ _ w _ ⟨hi,fun t v q => ?_,hb,hlt,?_,rfl⟩ hf fun a' w' γ' hef hs => ?_)
  ·obtain ⟨_,q2⟩ := numb1_get q
   rw [Nat.sub_zero] at q2
   obtain ⟨u,hu,hv⟩ := hA.get q2
   have hlt : t < vs.length := (List.getElem?_eq_some_iff.1 hu).1
   have : (vs.toArray ++ Array.replicate (fn.ntmps - vs.toArray.size) undef).getD t undef=u := by
    rw [Array.getD_eq_getD_getElem?,Array.getElem?_append_left (by simpa using hlt)]
    simp [hu]
   show avOn _ v ((vs.toArray ++ Array.replicate (fn.ntmps - vs.toArray.size) undef).getD t undef)
   rw [this]
   exact hv
  ·have := hA.len
   simp
   omega
  ·obtain ⟨v,hv,hx⟩ := results_run hs h6
   exact ⟨hs.df,v,hv,v,γ',rfl,hef,hx,hs.bx⟩
theorem asB_kB {v : AV} {b : Bool} (h : asB v=some b) : v=kB b := by
 unfold asB at h
 rw [Option.bind_eq_some_iff] at h
 obtain ⟨c,h1,h2⟩ := h
 unfold asC at h1
 split at h1
 ·cases h1
  unfold acB at h2
  split at h2
  ·cases h2
   rfl
  ·cases h2
 ·cases h1
theorem agree_some {h : List HB} {b : Bool} {hi : Nat} {r : CRes} (hr : agree h b hi r=true) : ∃ h' nx',r=some (kB b,h',nx')∧nx'≤hi∧∀ x ∈ h,x ∈ h' := by
 unfold agree at hr
 split at hr
 ·rename_i v h' nx'
  rw [Bool.and_eq_true,Bool.and_eq_true,Nat.ble_eq,List.all_eq_true] at hr
  obtain ⟨h1,h2,h3⟩ := hr
  refine ⟨h',nx',?_,h2,fun x hx => ?_⟩
  ·split at h1
   ·rename_i c hc
    rw [asB_kB hc,show c=b from (by simpa using h1 : b=c).symm]
   ·cases h1
  ·have := h3 x hx
   rw [List.any_eq_true] at this
   obtain ⟨y,hy,e⟩ := this
   rw [Bool.and_eq_true,Nat.beq_eq] at e
   have : x=y := Prod.ext e.1.symm (acsW_eq e.2)
   rw [this]
   exact hy
 ·cases hr
variable {T : Hs→Prop} {z : Nat→Prop}
def AskTrue (S : Sx) (T : Hs→Prop) (z : Nat→Prop) : Prop := ∀ X,T X→∀ a,askOk S a=true→(z a.2.2.2→T ((a.1,a.2.1,a.2.2.1,1) :: X))∧(¬ z a.2.2.2→T ((a.1,a.2.1,a.2.2.1,0) :: X))
theorem allZ_true (hk : AskTrue S T z) : ∀ {l : List Ask} {X : Hs},T X→(∀ a ∈ l,askOk S a=true)→(∀ a ∈ l,z a.2.2.2)→T (allZ l X)
 | [],_,h,_,_ => h
 | (k,a,b,d) :: l,X,h,ho,hz => allZ_true (l := l) hk ((hk X h (k,a,b,d) (ho _ List.mem_cons_self)).1 (hz _ List.mem_cons_self)) (fun a ha => ho a (List.mem_cons_of_mem _ ha)) (fun a ha => hz a (List.mem_cons_of_mem _ ha))
theorem splits_true (hk : AskTrue S T z) : ∀ {l : List Ask} {X : Hs},T X→(∀ a ∈ l,askOk S a=true)→(∃ a ∈ l,¬ z a.2.2.2)→∃ X' ∈ splits l X,T X'
 | [],_,_,_,⟨_,h,_⟩ => by cases h
 | (k,a,b,d) :: l,X,h,ho,hz => by
  by_cases e : z d
  ·obtain ⟨X',h1,h2⟩ := splits_true (l := l) hk ((hk X h (k,a,b,d) (ho _ List.mem_cons_self)).1 e) (fun a ha => ho a (List.mem_cons_of_mem _ ha)) (by
    obtain ⟨c,hc,hn⟩ := hz
    rcases List.mem_cons.1 hc with rfl | hc
    ·exact (hn e).elim
    ·exact ⟨c,hc,hn⟩)
   exact ⟨X',List.mem_cons_of_mem _ h1,h2⟩
  ·exact ⟨_,List.mem_cons_self,(hk X h (k,a,b,d) (ho _ List.mem_cons_self)).2 e⟩
theorem callC_ok {cs : List (FuncId × Nat)} (hm : S.P.follows .mixedOrders=true) (hN : ∀ X,T X→Knows (S.plus X) E) (hP : ∀ X,T X→PrimOk (S.plus X) E w0) (hk : AskTrue S T z)
  (hs : ∀ X,T X→∀ l s r,sqN S l=some s→(S.plus X).kn 0 s 0=some r→(Nat.beq 1 r=true→∀ d ∈ l,z d)∧(Nat.beq 1 r=false→∃ d ∈ l,¬ z d)) : ∀ n X,T X→CallOk S E w0 (callC S cs n X)
 | 0,_,_ => fun _ _ _ _ _ h => by cases h
 | n+1,X,hX => fun f args h nx p hp => by
  have body : ∀ Y,T Y→CallOk S E w0 (bodyC (S.plus Y) (callC S cs n Y)) := fun Y hY => bodyC_ok (S := S.plus Y) hm (hN Y hY) (hP Y hY) (callC_ok hm hN hP hk hs n Y hY)
  unfold callC at hp
  split at hp
  ·exact body X hX f args h nx p hp
  ·simp only [Option.bind_eq_some_iff,ifO_some,List.all_eq_true] at hp
   obtain ⟨l,_,hl,s,h1,r,h2,h3⟩ := hp
   obtain ⟨a1,a0⟩ := hs X hX _ s r h1 h2
   cases e : Nat.beq 1 r with
   | true =>
    rw [e] at h3
    exact body _ (allZ_true hk hX hl fun a ha => a1 e _ (List.mem_map_of_mem ha)) f args h nx p h3
   | false =>
    rw [e] at h3
    obtain ⟨d,hd,hz⟩ := a0 e
    obtain ⟨a,ha,rfl⟩ := List.mem_map.1 hd
    obtain ⟨X',m1,m2⟩ := splits_true hk hX hl ⟨a,ha,hz⟩
    replace h3 : joinC h nx ((splits l X).map fun X' => bodyC (S.plus X') (callC S cs n X') f args h nx)=some p := h3
    unfold joinC at h3
    split at h3
    ·rename_i p0 rs hrs
     rw [Option.bind_eq_some_iff] at h3
     obtain ⟨b,hb,h4⟩ := h3
     rw [ifO_some,List.all_eq_true] at h4
     obtain ⟨h5,h6⟩ := h4
     cases h6
     obtain ⟨h',nx',q1,q2,q3⟩ := agree_some (h5 _ (List.mem_map_of_mem m1))
     intro γ w vs hi hA hb hlt hf
     refine (body X' m2 f args h nx _ q1 γ w vs hi hA hb hlt fun b g1 g2 => hf b g1 (Nat.lt_of_lt_of_le g2 q2)).mono ?_
     rintro _ w' ⟨r',γ',rfl,hef,hv,hx⟩
     exact ⟨r',γ',rfl,hef.wide (Nat.le_refl _) q2,hv,fun x hh => hx x (q3 x hh)⟩
    ·cases h3
end
end Cx
/- VPC -/
namespace Go.Proofs.YtgemmepbdmbmfaaGreatDoor
open Cx Go Go.RowKit
section
variable {N : List Nd} {H : List (Nat × Nat × Nat × Nat)} {K : List (FuncId × List AC)} {L C : List (List Nat × Nat)} {Z : List Nat} {q : Nat→Rat} {σ : Nat→ByteArray} {w0 : World} {cl : List FuncId} {cs pr : List (FuncId × Nat)}
theorem kn_cons {k a b k' a' b' r' : Nat} {r : Nat} (h : knFrom k a b ((k',a',b',r') :: H)=some r) : (k=k'∧a=a'∧b=b'∧r=r') ∨ knFrom k a b H=some r := by
 unfold knFrom at h
 cases e : (Nat.beq k k' && (Nat.beq a a' && Nat.beq b b')) with
 | true =>
  rw [e] at h
  simp only [Bool.and_eq_true,Nat.beq_eq] at e
  exact Or.inl ⟨e.1,e.2.1,e.2.2,(Option.some.inj h).symm⟩
 | false =>
  rw [e] at h
  exact Or.inr h
theorem Hy.add0 (Y : Hy N H L C Z q σ) {a r : Nat} (h : Nat.beq 1 r=true ↔ q a=0) : Hy N ((0,a,0,r) :: H) L C Z q σ where
 nat := Y.nat
 qs := Y.qs
 zs := Y.zs
 par := Y.par
 lit := Y.lit
 k0 := fun a' r' g => by
  rcases kn_cons g with ⟨_,e1,_,e2⟩ | g
  ·rw [e1,e2]
   exact h
  ·exact Y.k0 a' r' g
 k1 := fun a' r' g => by
  rcases kn_cons g with ⟨e,_⟩ | g
  ·cases e
  ·exact Y.k1 a' r' g
 k2 := fun a' r' g => by
  rcases kn_cons g with ⟨e,_⟩ | g
  ·cases e
  ·exact Y.k2 a' r' g
 k4 := fun l a' b' r' g1 g => by
  rcases kn_cons g with ⟨e,_⟩ | g
  ·cases e
  ·exact Y.k4 l a' b' r' g1 g
 k3 := fun a' b' r' g => by
  rcases kn_cons g with ⟨e,_⟩ | g
  ·cases e
  ·exact Y.k3 a' b' r' g
 k6 := fun a' b' r' g => by
  rcases kn_cons g with ⟨e,_⟩ | g
  ·cases e
  ·exact Y.k6 a' b' r' g
 k5 := fun a' r' g => by
  rcases kn_cons g with ⟨e,_⟩ | g
  ·cases e
  ·exact Y.k5 a' r' g
theorem Hy.add3 (Y : Hy N H L C Z q σ) {a b r : Nat} (h : Nat.beq 1 r=true ↔ q a=q b) : Hy N ((3,a,b,r) :: H) L C Z q σ where
 nat := Y.nat
 qs := Y.qs
 zs := Y.zs
 par := Y.par
 lit := Y.lit
 k0 := fun a' r' g => by
  rcases kn_cons g with ⟨e,_⟩ | g
  ·cases e
  ·exact Y.k0 a' r' g
 k1 := fun a' r' g => by
  rcases kn_cons g with ⟨e,_⟩ | g
  ·cases e
  ·exact Y.k1 a' r' g
 k2 := fun a' r' g => by
  rcases kn_cons g with ⟨e,_⟩ | g
  ·cases e
  ·exact Y.k2 a' r' g
 k4 := fun l a' b' r' g1 g => by
  rcases kn_cons g with ⟨e,_⟩ | g
  ·cases e
  ·exact Y.k4 l a' b' r' g1 g
 k3 := fun a' b' r' g => by
  rcases kn_cons g with ⟨_,e1,e2,e3⟩ | g
  ·rw [e1,e2,e3]
   exact h
  ·exact Y.k3 a' b' r' g
 k6 := fun a' b' r' g => by
  rcases kn_cons g with ⟨e,_⟩ | g
  ·cases e
  ·exact Y.k6 a' b' r' g
 k5 := fun a' r' g => by
  rcases kn_cons g with ⟨e,_⟩ | g
  ·cases e
  ·exact Y.k5 a' r' g
theorem ask_true : AskTrue (sx Tryz.prog N H K L C Z pr) (fun X => Hy N (X ++ H) L C Z q σ) (fun d => q d=0) := fun X Y a ha => by
 obtain ⟨k,a,b,d⟩ := a
 have t1 : Nat.beq 1 1=true := rfl
 have t0 : Nat.beq 1 0 ≠ true := fun h => by cases h
 unfold askOk at ha
 rw [Bool.or_eq_true] at ha
 rcases ha with ha | ha
 ·simp only [Bool.and_eq_true,Nat.beq_eq] at ha
  obtain ⟨rfl,rfl,rfl⟩ := ha
  exact ⟨fun h => Hy.add0 Y ⟨fun _ => h,fun _ => t1⟩,fun h => Hy.add0 Y ⟨fun g => (t0 g).elim,fun g => (h g).elim⟩⟩
 ·rw [Bool.and_eq_true,Nat.beq_eq] at ha
  obtain ⟨rfl,hb⟩ := ha
  split at hb
  ·rename_i op ar hn
   rw [Bool.and_eq_true,Nat.beq_eq] at hb
   obtain ⟨rfl,hb⟩ := hb
   have e := beqL_eq hb
   subst e
   have hv : q d=q a - q b := Y.nat d _ hn
   have h2 : q d=0 ↔ q a=q b := by
    rw [hv]
    constructor <;> intro h <;> grind
   exact ⟨fun h => Hy.add3 Y ⟨fun _ => h2.1 h,fun _ => t1⟩,fun h => Hy.add3 Y ⟨fun g => (t0 g).elim,fun g => (h (h2.2 g)).elim⟩⟩
  ·cases hb
theorem sq_nn (y : Rat) : 0≤y*y := by
 by_cases h : y=0
 ·rw [h,Rat.zero_mul]
  exact Rat.le_refl
 ·exact Rat.le_of_lt (sq1_pos h)
theorem sq_sum {x y : Rat} (hx : 0≤x) : x+y*y=0 ↔ x=0∧y=0 := by
 constructor
 ·intro h
  have h2 := sq_nn y
  have h3 : x=0 := by grind
  refine ⟨h3,?_⟩
  have : y*y=0 := by grind
  rcases Rat.mul_eq_zero.1 this with g | g <;> exact g
 ·rintro ⟨rfl,rfl⟩
  grind
theorem sqF_val {H' : List (Nat × Nat × Nat × Nat)} (Y : Hy N H' L C Z q σ) : ∀ {l : List Nat} {s t : Nat},sqF (sx Tryz.prog N H K L C Z pr) s l=some t→0≤q s→0≤q t∧(q t=0 ↔ q s=0∧∀ d ∈ l,q d=0)
 | [],s,t,h,hs => by
  cases h
  exact ⟨hs,fun e => ⟨e,fun d hd => by cases hd⟩,fun e => e.1⟩
 | a :: l,s,t,h,hs => by
  unfold sqF at h
  simp only [Option.bind_eq_some_iff] at h
  obtain ⟨b,h1,c,h2,h3⟩ := h
  have e1 : q b=q a*q a := Hy.nd (H := H') (K := K) (pr := pr) Y h1
  have e2 : q c=q s+q b := Hy.nd (H := H') (K := K) (pr := pr) Y h2
  have n := sq_nn (q a)
  obtain ⟨g1,g2⟩ := sqF_val Y h3 (by grind)
  refine ⟨g1,g2.trans ?_⟩
  have e3 := sq_sum (y := q a) hs
  rw [e2,e1,e3]
  constructor
  ·rintro ⟨⟨x,y⟩,z⟩
   refine ⟨x,fun d hd => ?_⟩
   rcases List.mem_cons.1 hd with rfl | hd
   ·exact y
   ·exact z d hd
  ·rintro ⟨x,y⟩
   exact ⟨⟨x,y a List.mem_cons_self⟩,fun d hd => y d (List.mem_cons_of_mem _ hd)⟩
theorem sqN_val {H' : List (Nat × Nat × Nat × Nat)} (Y : Hy N H' L C Z q σ) {l : List Nat} {s : Nat} (h : sqN (sx Tryz.prog N H K L C Z pr) l=some s) : q s=0 ↔ ∀ d ∈ l,q d=0 := by
 unfold sqN at h
 split at h
 ·cases h
 ·rename_i a l
  rw [Option.bind_eq_some_iff] at h
  obtain ⟨b,h1,h2⟩ := h
  have e1 : q b=q a*q a := Hy.nd (H := H') (K := K) (pr := pr) Y h1
  have n := sq_nn (q a)
  obtain ⟨_,g⟩ := sqF_val Y h2 (by grind)
  rw [g,e1]
  constructor
  ·rintro ⟨x,y⟩ d hd
   rcases List.mem_cons.1 hd with rfl | hd
   ·rcases Rat.mul_eq_zero.1 x with x | x <;> exact x
   ·exact y d hd
  ·intro y
   refine ⟨?_,fun d hd => y d (List.mem_cons_of_mem _ hd)⟩
   rw [y a List.mem_cons_self,Rat.zero_mul]
theorem run_cases {f : FuncId} {args : List AV} {vs : List Value} {k : Nat} {p : List HB × Nat} {b : Bool} (Y : Hy N H L C Z q σ) (hm : (Tryz.prog).follows .mixedOrders=true) {w : World} (hP : ∀ H',Hy N H' L C Z q σ→PrimOk (sx Tryz.prog N H' K L C Z pr) (evS q σ) w) (hr : callC (sx Tryz.prog N H K L C Z pr) cs k [] f args [] 0=some (kB b,p))
  (hA : A2 (avOn (cOn (evS q σ) K (fun _ => none) w)) args vs) : Calls Tryz.prog f vs.toArray w fun e w' => Below w.heap.size w w'∧e=.returned (.bool b) := by
 refine (callC_ok (S := sx Tryz.prog N H K L C Z pr) (E := evS q σ) (w0 := w) (T := fun X => Hy N (X ++ H) L C Z q σ) (z := fun d => q d=0) hm (fun X hX => knows hX) (fun X hX => hP _ hX) ask_true ?_ k [] Y f args [] 0 (kB b,p) hr (fun _ => none) w vs ⟨Below.refl _ _,(fun _ _ h => by cases h)⟩ hA (fun x hx => by cases hx) (fun x hx => by cases hx) (fun _ _ _ => rfl)).mono ?_
 ·intro X hX l s r h1 h2
  have e := hX.k0 s r h2
  have g := sqN_val hX h1
  refine ⟨fun h => g.1 (e.1 h),fun h => ?_⟩
  have hn : ¬ ∀ d ∈ l,q d=0 := fun q' => by
   rw [e.2 (g.2 q')] at h
   cases h
  simpa using hn
 ·rintro _ w' ⟨r,γ',rfl,hef,hv,_⟩
  exact ⟨hef.wi.bel,by rw [show r=.bool b from (asC_on (v := kB b) (c := .inl (.bool b)) rfl hv).1]⟩
theorem run_toldC {f : FuncId} {args : List AV} {vs : List Value} {k : Nat} {p : List HB × Nat} {b : Bool} (Y : Hy N H L C Z q σ) (hc : ∀ f ∈ cl,Closed f) (hm : (Tryz.prog).follows .mixedOrders=true) (hr : callC (sx Tryz.prog N H K L C Z (prC cl)) cs k [] f args [] 0=some (kB b,p)) {w : World} (hp : PreS w)
  (hA : A2 (avOn (cOn (evS q σ) K (fun _ => none) w)) args vs) : Calls Tryz.prog f vs.toArray w fun e w' => Below w.heap.size w w'∧e=.returned (.bool b) := run_cases Y hm (fun _ Y' => primOk Y' hp hc) hr hA
theorem run_toldC' {f : FuncId} {args : List AV} {vs : List Value} (k : Nat) (Y : Hy N H L C Z q σ) (hc : ∀ f ∈ cl,Closed f) (hm : (Tryz.prog).follows .mixedOrders=true) (hr : (callC (sx Tryz.prog N H K L C Z (prC cl)) cs k [] f args [] 0).map (·.1)=some (kB true)) {w : World} (hp : PreS w)
  (hA : A2 (avOn (cOn (evS q σ) K (fun _ => none) w)) args vs) : Calls Tryz.prog f vs.toArray w fun e w' => Below w.heap.size w w'∧e=.returned (.bool true) := by
 rw [Option.map_eq_some_iff] at hr
 obtain ⟨⟨v,p⟩,h1,h2⟩ := hr
 dsimp only at h2
 subst h2
 exact run_toldC Y hc hm h1 hp hA
end
end Go.Proofs.YtgemmepbdmbmfaaGreatDoor
/- VY -/
namespace Go.Proofs.YtgemmepbdmbmfaaGreatDoor
open Go.RowKit Cx
theorem den_num (t : Rat) : t*(t.den : Rat)=((t.num : Int) : Rat) := by
 conv => lhs; lhs; rw [← Rat.mkRat_self t]
 have h0 : (t.den : Rat) ≠ 0 := fun h => t.den_nz (by exact_mod_cast h)
 rw [Rat.mkRat_eq_div,Rat.div_mul_cancel h0]
theorem whole {q : Rat} (h : q.den=1) : q=((q.num : Int) : Rat) := by
 have := den_num q
 rw [h] at this
 rw [← this]
 show q=q*((1 : Nat) : Rat)
 exact (Rat.mul_one q).symm
theorem plain_uniq {us : List Rat} {t : Rat} (hU : PlainOk us) (hV : PlainOk (us.map fun u => t*u)) : t=1 := by
 have hb := den_num t
 have key : ∀ u ∈ us,(t*u).num*(t.den : Int)=t.num*u.num := fun u hu => by
  have e1 := whole (hU.den u hu)
  have e2 := whole (hV.den (t*u) (List.mem_map_of_mem (f := fun u => t*u) hu))
  have e3 : (((t*u).num*(t.den : Int) : Int) : Rat)=((t.num*u.num : Int) : Rat) := by
   rw [Rat.intCast_mul,Rat.intCast_mul,← e2,← e1,← hb]
   show t*u*((t.den : Int) : Rat)=t*(t.den : Rat)*u
   have : (((t.den : Nat) : Int) : Rat)=(t.den : Rat) := rfl
   rw [this]
   grind
  exact_mod_cast e3
 have h1 : t.den=1 := by
  have : t.den ∣ gN us := gN_great fun u hu => by
   have hd : (t.den : Int) ∣ t.num*u.num := ⟨(t*u).num,by rw [← key u hu,Int.mul_comm]⟩
   have hd' : t.den ∣ t.num.natAbs*u.num.natAbs := by
    have := Int.natAbs_dvd_natAbs.2 hd
    rwa [Int.natAbs_natCast,Int.natAbs_mul] at this
   exact Nat.Coprime.dvd_of_dvd_mul_left t.reduced.symm hd'
  rw [hU.gcd] at this
  exact Nat.dvd_one.1 this
 have ht := whole h1
 have h2 : t.num.natAbs=1 := by
  have : t.num.natAbs ∣ gN (us.map fun u => t*u) := gN_great fun v hv => by
   obtain ⟨u,hu,rfl⟩ := List.mem_map.1 hv
   have := key u hu
   rw [h1] at this
   refine ⟨u.num.natAbs,?_⟩
   rw [← Int.natAbs_mul,← this]
   simp
  rw [hV.gcd] at this
  exact Nat.dvd_one.1 this
 -- the first that is not 0
 have hne : ∃ (j : Nat) (hj : j < us.length),us[j] ≠ 0∧∀ (i : Nat) (hi : i < us.length),i < j→us[i]=0 := by
  apply Classical.byContradiction
  intro hn
  have all0 : ∀ (n j : Nat) (hj : j < us.length),j < n→us[j]=0 := by
   intro n
   induction n with
   | zero => intro j _ h; omega
   | succ n ih =>
    intro j hj hjn
    apply Classical.byContradiction
    intro h
    exact hn ⟨j,hj,h,fun i hi hij => ih i hi (by omega)⟩
  have h0 : (0 : Nat) ∣ gN us := gN_great fun u hu => by
   obtain ⟨j,hj,rfl⟩ := List.getElem_of_mem hu
   rw [all0 us.length j hj hj]
   decide
  rw [hU.gcd] at h0
  exact absurd (Nat.zero_dvd.1 h0) (by decide)
 obtain ⟨j,hj,hj1,hj2⟩ := hne
 have p1 := hU.sgn j hj hj2 hj1
 have ht0 : t ≠ 0 := fun e => by rw [e] at h2; exact absurd h2 (by decide)
 have p2 := hV.sgn j (by simpa using hj) (fun i hi hij => by
  rw [List.getElem_map,hj2 i (by simpa using hi) hij,Rat.mul_zero]) (by
  rw [List.getElem_map]
  exact fun e => (Rat.mul_eq_zero.1 e).elim ht0 hj1)
 rw [List.getElem_map] at p2
 have hk := key us[j] (List.getElem_mem hj)
 rw [h1] at hk
 have hk' : (t*us[j]).num=t.num*us[j].num := by simpa using hk
 rw [hk'] at p2
 have ht1 : t.num=1 := by
  rcases Int.natAbs_eq t.num with e | e
  ·rw [h2] at e
   exact e
  ·rw [h2] at e
   rw [e] at p2
   omega
 rw [ht,ht1]
 rfl
theorem fac_scale {qs : List Rat} {q0 r : Rat} (h0 : q0 ∈ qs) (hz : q0 ≠ 0) (hr : r ≠ 0) : r*fac (qs.map fun q => r*q)=fac qs := by
 have hf := fac_ne h0 hz
 have hU := plain_fac h0 hz
 have hV := plain_fac (qs := qs.map fun q => r*q) (List.mem_map_of_mem (f := fun q => r*q) h0) (fun e => (Rat.mul_eq_zero.1 e).elim hr hz)
 have he : (qs.map fun q => r*q).map (fun q => q*fac (qs.map fun q => r*q))=(qs.map (fun q => q*fac qs)).map fun u => (r*fac (qs.map fun q => r*q) / fac qs)*u := by
  rw [List.map_map,List.map_map]
  apply List.map_congr_left
  intro q _
  show r*q*fac (qs.map fun q => r*q)=r*fac (qs.map fun q => r*q) / fac qs*(q*fac qs)
  generalize fac (qs.map fun q => r*q)=g
  generalize fac qs=f at *
  have : f*f⁻¹=1 := Rat.mul_inv_cancel f hf
  rw [Rat.div_def]
  grind
 rw [he] at hV
 have := plain_uniq hU hV
 generalize fac (qs.map fun q => r*q)=g at *
 generalize fac qs=f at *
 have h2 : r*g / f*f=r*g := Rat.div_mul_cancel hf
 rw [this] at h2
 grind
end Go.Proofs.YtgemmepbdmbmfaaGreatDoor
/- VSZ -/
namespace Go.Proofs.YtgemmepbdmbmfaaGreatDoor
open Go.RowKit Cx
def szW (Z : List Nat) (I : List Bool) (z : Nat) (b : Bool) (nd : Nd) : Bool := match nd.1,nd.2 with
 | 0,[_,n,d] => (Nat.blt n (2 ^ z) && (Nat.blt 0 d && Nat.blt d (2 ^ z))) && (!b || Nat.beq d 1)
 | 1,[_] => Nat.ble 3495259 z && !b
 | 2,[a,c] => (match Z[a]?,Z[c]?,I[a]?,I[c]? with
  | some x,some y,some true,some true => Nat.ble (Nat.max x y+1) z
  | some x,some y,_,_ => Nat.ble (x+y+1) z && !b
  | _,_,_,_ => false)
 | 3,[a,c] => (match Z[a]?,Z[c]?,I[a]?,I[c]? with
  | some x,some y,some true,some true => Nat.ble (Nat.max x y+1) z
  | some x,some y,_,_ => Nat.ble (x+y+1) z && !b
  | _,_,_,_ => false)
 | 4,[a,c] => (match Z[a]?,Z[c]?,I[a]?,I[c]? with
  | some x,some y,some true,some true => Nat.ble (x+y) z
  | some x,some y,_,_ => Nat.ble (x+y) z && !b
  | _,_,_,_ => false)
 | 5,[a] => (match Z[a]?,I[a]? with
  | some x,some true => Nat.ble x z
  | some x,_ => Nat.ble x z && !b
  | _,_ => false)
 | 6,[a,c] => (match Z[a]?,Z[c]? with
  | some x,some y => Nat.ble (x+y) z && !b
  | _,_ => false)
 | 8,i :: xs => (match getsO Z xs with
  | some zs => Nat.blt i xs.length && (Nat.ble ((xs.length+1)*maxL zs+1) z || (xs.all (fun a => match I[a]? with
   | some true => true
   | _ => false) && (match xs[i]? with
   | some a => (match Z[a]? with
    | some x => Nat.ble (x+1) z
    | none => false)
   | none => false)))
  | none => false)
 | _,_ => false
def szC (Z : List Nat) (I : List Bool) : List Nd→List Nat→List Bool→Bool
 | [],[],[] => true
 | nd :: ns,z :: zs,b :: bs => (szW Z I z b nd && Nat.ble z 1000000000000) && szC Z I ns zs bs
 | _,_,_ => false
theorem szC_get {Z : List Nat} {I : List Bool} : ∀ {ns : List Nd} {zs : List Nat} {bs : List Bool} {i z : Nat},szC Z I ns zs bs=true→zs[i]? = some z→∃ nd b,ns[i]? = some nd∧bs[i]? = some b∧szW Z I z b nd=true∧z≤1000000000000
 | [],[],[],_,_,_,h => by simp at h
 | [],[],_ :: _,_,_,h,_ => by cases h
 | [],_ :: _,_,_,_,h,_ => by cases h
 | _ :: _,[],_,_,_,h,_ => by cases h
 | _ :: _,_ :: _,[],_,_,h,_ => by cases h
 | nd :: ns,z' :: zs,b :: bs,0,z,h,e => by
  have : z'=z := by simpa using e
  subst this
  unfold szC at h
  simp only [Bool.and_eq_true,Nat.ble_eq] at h
  exact ⟨nd,b,rfl,rfl,h.1.1,h.1.2⟩
 | nd :: ns,z' :: zs,b :: bs,i+1,z,h,e => by
  unfold szC at h
  rw [Bool.and_eq_true] at h
  obtain ⟨nd2,b2,g1,g2,g3⟩ := szC_get (ns := ns) (zs := zs) (bs := bs) h.2 (show zs[i]? = some z by simpa using e)
  exact ⟨nd2,b2,by simpa using g1,by simpa using g2,g3⟩
theorem szC_len {Z : List Nat} {I : List Bool} : ∀ {ns : List Nd} {zs : List Nat} {bs : List Bool},szC Z I ns zs bs=true→ns.length=zs.length
 | [],[],[],_ => rfl
 | [],[],_ :: _,h => by cases h
 | [],_ :: _,_,h => by cases h
 | _ :: _,[],_,h => by cases h
 | _ :: _,_ :: _,[],h => by cases h
 | _ :: _,_ :: _,_ :: _,h => by
  unfold szC at h
  rw [Bool.and_eq_true] at h
  exact congrArg (· + 1) (szC_len h.2)
structure QW (z : Nat) (x : Rat) : Prop where
 qs : QS z x
 wh : x.den=1
theorem QW.of {z : Nat} {n : Int} (h : n.natAbs < 2 ^ z) (hz : 0 < z) : QW z ((n : Int) : Rat) :=
 ⟨⟨by simpa using h,by
  show ((n : Int) : Rat).den < 2 ^ z
  rw [Rat.den_intCast]
  exact Nat.one_lt_two_pow (by omega)⟩,Rat.den_intCast n⟩
theorem QW.mono {k l : Nat} {x : Rat} (h : QW k x) (hk : k≤l) : QW l x := ⟨h.qs.mono hk,h.wh⟩
theorem two_max {a b x y : Nat} (h1 : a < 2 ^ x) (h2 : b < 2 ^ y) : a+b < 2 ^ (Nat.max x y+1) := by
 have e1 : 2 ^ x≤2 ^ Nat.max x y := Nat.pow_le_pow_right (by decide) (Nat.le_max_left x y)
 have e2 : 2 ^ y≤2 ^ Nat.max x y := Nat.pow_le_pow_right (by decide) (Nat.le_max_right x y)
 rw [Nat.pow_succ]
 omega
theorem QW.add {x y : Nat} {a b : Rat} (h1 : QW x a) (h2 : QW y b) : QW (Nat.max x y+1) (a+b) := by
 rw [whole h1.wh,whole h2.wh,← Rat.intCast_add]
 refine QW.of ?_ (by omega)
 have := two_max h1.qs.num h2.qs.num
 omega
theorem QW.sub {x y : Nat} {a b : Rat} (h1 : QW x a) (h2 : QW y b) : QW (Nat.max x y+1) (a - b) := by
 rw [whole h1.wh,whole h2.wh,← Rat.intCast_sub]
 refine QW.of ?_ (by omega)
 have := two_max h1.qs.num h2.qs.num
 omega
theorem QW.mul {x y : Nat} {a b : Rat} (h1 : QW x a) (h2 : QW y b) : QW (x+y) (a*b) := by
 refine ⟨h1.qs.mul h2.qs,?_⟩
 rw [whole h1.wh,whole h2.wh,← Rat.intCast_mul]
 exact Rat.den_intCast _
theorem QW.neg {x : Nat} {a : Rat} (h1 : QW x a) : QW x (-a) := ⟨h1.qs.neg,h1.wh⟩
theorem lD_one : ∀ {qs : List Rat} {m : Nat},(∀ q ∈ qs,q.den=1)→qs.foldl (fun m q => m*(q.den / Nat.gcd m q.den)) m=m
 | [],_,_ => rfl
 | q :: qs,m,h => by
  rw [List.foldl_cons,h q List.mem_cons_self,Nat.gcd_one_right,Nat.div_self (by decide),Nat.mul_one]
  exact lD_one fun p hp => h p (List.mem_cons_of_mem _ hp)
theorem QW.fac {z : Nat} {qs : List Rat} {x : Rat} (hx : QS z x) (h : x ∈ qs) (hw : ∀ y ∈ qs,y.den=1) : QS (z+1) (x*fac qs) := by
 have hl : lD qs=1 := lD_one hw
 refine ⟨?_,?_⟩
 ·rw [fac_abs h,hl,hw x h,Nat.div_self (by decide),Nat.mul_one]
  exact Nat.lt_of_le_of_lt (Nat.div_le_self _ _) (Nat.lt_of_lt_of_le hx.num (Nat.pow_le_pow_right (by decide) (by omega)))
 ·rw [fac_den h]
  exact Nat.one_lt_two_pow (by omega)
theorem ten_three : ∀ n : Nat,10 ^ n≤2 ^ ((10*n+2) / 3)
 | 0 => by decide
 | 1 => by decide
 | 2 => by decide
 | n+3 => by
  have h := ten_three n
  have e : (10*(n+3)+2) / 3=(10*n+2) / 3+10 := by omega
  rw [e,Nat.pow_add,Nat.pow_add]
  exact Nat.mul_le_mul h (by decide)
theorem QS.rd3 (l : List UInt8) : QS ((10*l.length+2) / 3+5) (Cx.rd l) := by
 have key : ∀ {m : List UInt8},digs m=true→dv m < 2 ^ ((10*m.length+2) / 3) := fun {m} h => Nat.lt_of_lt_of_le (dv_lt (digs_all h)) (ten_three _)
 unfold Cx.rd
 split
 ·rename_i h
  rw [Bool.and_eq_true] at h
  have h1 := key h.1
  have h2 := key h.2
  have h3 := up_len (tailOf l)
  have h4 := low_len (tailOf l)
  have h5 := tail_len l
  apply QS.mkr
  ·rw [sg_abs]; exact Nat.lt_of_lt_of_le h1 (Nat.pow_le_pow_right (by decide) (by omega))
  ·exact Nat.lt_of_lt_of_le h2 (Nat.pow_le_pow_right (by decide) (by omega))
 ·exact QS.zero.mono (by omega)
section
variable {N : List Nd} {Z : List Nat} {I : List Bool} {q : Nat→Rat}
theorem sizes_okW {σ : Nat→ByteArray} (hσ : ∀ j,(σ j).size≤1048576) (hw : wfB 0 N=true) (hz : szC Z I N Z I=true) (hq : ∀ (a : Nat) nd,N[a]? = some nd→q a=valN σ q nd) (h0 : ∀ a,N.length≤a→q a=0) : (∀ (a : Nat) z,Z[a]? = some z→QS z (q a))∧∀ a,QS 1000000000000 (q a) := by
 have h2 : ∀ (a : Nat) z,Z[a]? = some z→QS z (q a)∧(I[a]? = some true→(q a).den=1) := by
  intro a
  induction a using Nat.strongRecOn with
  | ind a ih =>
   intro z hz'
   obtain ⟨nd,b,hn,hb,hs,_⟩ := szC_get hz hz'
   have hwf := wfB_get hw hn
   rw [Nat.zero_add] at hwf
   rw [hq a nd hn,hb]
   obtain ⟨op,xs⟩ := nd
   unfold szW at hs
   unfold valN
   unfold wfN at hwf
   dsimp only at hs hwf ⊢
   have W : ∀ {c x},c < a→Z[c]? = some x→I[c]? = some true→QW x (q c) := fun hc hx hi => ⟨(ih _ hc _ hx).1,(ih _ hc _ hx).2 hi⟩
   have no : ∀ {v : Rat},b=false→(some b=some true→v.den=1) := fun e h => by rw [e] at h; cases h
   split at hs
   ·rename_i s n d
    simp only [Bool.and_eq_true] at hs
    obtain ⟨⟨h1,h2,h3⟩,h4⟩ := hs
    refine ⟨QS.const (by simpa [Nat.blt_eq] using h1) (by simpa [Nat.blt_eq] using h2) (by simpa [Nat.blt_eq] using h3),fun e => ?_⟩
    rw [show b=true from Option.some.inj e] at h4
    have hd : d=1 := by simpa using h4
    subst hd
    show (if s=0 then mkRat (n : Int) 1 else mkRat (-(n : Int)) 1).den=1
    split
    ·rw [Rat.mkRat_one]
     exact Rat.den_intCast _
    ·rw [Rat.mkRat_one]
     exact Rat.den_intCast _
   ·rename_i j
    simp only [Bool.and_eq_true,Nat.ble_eq,Bool.not_eq_true'] at hs
    exact ⟨QS.mono (QS.rd3 _) (by have := hσ j; rw [str_len]; omega),no hs.2⟩
   ·simp only [List.all_cons,List.all_nil,Bool.and_true,Bool.and_eq_true] at hwf
    have l1 := (by simpa [Nat.blt_eq] using hwf.1 : _ < a)
    have l2 := (by simpa [Nat.blt_eq] using hwf.2 : _ < a)
    split at hs
    ·rename_i x y hx hy i1 i2
     rw [Nat.ble_eq] at hs
     have := ((W l1 hx i1).add (W l2 hy i2)).mono hs
     exact ⟨this.qs,fun _ => this.wh⟩
    ·rename_i x y hx hy _
     simp only [Bool.and_eq_true,Nat.ble_eq,Bool.not_eq_true'] at hs
     exact ⟨((ih _ l1 x hx).1.add (ih _ l2 y hy).1).mono hs.1,no hs.2⟩
    ·cases hs
   ·simp only [List.all_cons,List.all_nil,Bool.and_true,Bool.and_eq_true] at hwf
    have l1 := (by simpa [Nat.blt_eq] using hwf.1 : _ < a)
    have l2 := (by simpa [Nat.blt_eq] using hwf.2 : _ < a)
    split at hs
    ·rename_i x y hx hy i1 i2
     rw [Nat.ble_eq] at hs
     have := ((W l1 hx i1).sub (W l2 hy i2)).mono hs
     exact ⟨this.qs,fun _ => this.wh⟩
    ·rename_i x y hx hy _
     simp only [Bool.and_eq_true,Nat.ble_eq,Bool.not_eq_true'] at hs
     exact ⟨((ih _ l1 x hx).1.sub (ih _ l2 y hy).1).mono hs.1,no hs.2⟩
    ·cases hs
   ·simp only [List.all_cons,List.all_nil,Bool.and_true,Bool.and_eq_true] at hwf
    have l1 := (by simpa [Nat.blt_eq] using hwf.1 : _ < a)
    have l2 := (by simpa [Nat.blt_eq] using hwf.2 : _ < a)
    split at hs
    ·rename_i x y hx hy i1 i2
     rw [Nat.ble_eq] at hs
     have := ((W l1 hx i1).mul (W l2 hy i2)).mono hs
     exact ⟨this.qs,fun _ => this.wh⟩
    ·rename_i x y hx hy _
     simp only [Bool.and_eq_true,Nat.ble_eq,Bool.not_eq_true'] at hs
     exact ⟨((ih _ l1 x hx).1.mul (ih _ l2 y hy).1).mono hs.1,no hs.2⟩
    ·cases hs
   ·simp only [List.all_cons,List.all_nil,Bool.and_true] at hwf
    have l1 := (by simpa [Nat.blt_eq] using hwf : _ < a)
    split at hs
    ·rename_i x hx i1
     rw [Nat.ble_eq] at hs
     have := (W l1 hx i1).neg.mono hs
     exact ⟨this.qs,fun _ => this.wh⟩
    ·rename_i x hx _
     simp only [Bool.and_eq_true,Nat.ble_eq,Bool.not_eq_true'] at hs
     exact ⟨((ih _ l1 x hx).1.neg).mono hs.1,no hs.2⟩
    ·cases hs
   ·simp only [List.all_cons,List.all_nil,Bool.and_true,Bool.and_eq_true] at hwf
    split at hs
    ·rename_i x y hx hy
     simp only [Bool.and_eq_true,Nat.ble_eq,Bool.not_eq_true'] at hs
     exact ⟨((ih _ (by simpa [Nat.blt_eq] using hwf.1) x hx).1.div (ih _ (by simpa [Nat.blt_eq] using hwf.2) y hy).1).mono hs.1,no hs.2⟩
    ·cases hs
   ·rename_i i ys
    split at hs
    ·rename_i zs hzs
     rw [Bool.and_eq_true] at hs
     have hi : i < ys.length := by simpa [Nat.blt_eq] using hs.1
     have hwf' : ys.all (Nat.blt · a)=true := hwf
     rw [List.all_eq_true] at hwf'
     have hlt : ∀ c ∈ ys,c < a := fun c hc => by simpa [Nat.blt_eq] using hwf' c hc
     have hm : q ys[i] ∈ ys.map q := List.mem_map_of_mem (List.getElem_mem hi)
     have hg : (ys.map q).getD i 0=q ys[i] := by
      rw [List.getD_eq_getElem?_getD,List.getElem?_map,List.getElem?_eq_getElem hi]
      rfl
     show QS z ((ys.map q).getD i 0*fac (ys.map q))∧(some b=some true→((ys.map q).getD i 0*fac (ys.map q)).den=1)
     rw [hg]
     refine ⟨?_,fun _ => fac_den hm⟩
     rcases Bool.or_eq_true _ _ ▸ hs.2 with h3 | h3
     ·rw [Nat.ble_eq] at h3
      have hall : ∀ y ∈ ys.map q,QS (maxL zs) y := fun y hy => by
       obtain ⟨c,hc,rfl⟩ := List.mem_map.1 hy
       obtain ⟨z',hm',hz2⟩ := getsO_get hzs c hc
       exact (ih c (hlt c hc) z' hz2).1.mono (le_maxL z' hm')
      have := QS.facN hall (x := q ys[i]) hm
      rw [List.length_map] at this
      exact this.mono h3
     ·rw [Bool.and_eq_true,List.all_eq_true] at h3
      obtain ⟨h4,h5⟩ := h3
      have hwh : ∀ y ∈ ys.map q,y.den=1 := fun y hy => by
       obtain ⟨c,hc,rfl⟩ := List.mem_map.1 hy
       obtain ⟨z',_,hz2⟩ := getsO_get hzs c hc
       refine (ih c (hlt c hc) z' hz2).2 ?_
       have := h4 c hc
       split at this
       ·assumption
       ·cases this
      rw [List.getElem?_eq_getElem hi] at h5
      dsimp only at h5
      split at h5
      ·rename_i x hx
       rw [Nat.ble_eq] at h5
       exact (QW.fac (ih _ (hlt _ (List.getElem_mem hi)) x hx).1 hm hwh).mono h5
      ·cases h5
    ·cases hs
   ·cases hs
 refine ⟨fun a z h => (h2 a z h).1,fun a => ?_⟩
 have hl := szC_len hz
 by_cases ha : a < Z.length
 ·obtain ⟨nd,b,_,_,_,hle⟩ := szC_get hz (List.getElem?_eq_getElem ha)
  exact (h2 a _ (List.getElem?_eq_getElem ha)).1.mono hle
 ·rw [h0 a (by omega)]
  exact QS.zero.mono (by decide)
theorem hy_ofW {L C : List (List Nat × Nat)} {σ : Nat→ByteArray} {H : List (Nat × Nat × Nat × Nat)} (hσ : ∀ j,(σ j).size≤1048576) (hw : wfB 0 N=true) (hz : szC Z I N Z I=true) (hl : litB N L=true) (hcn : canB N C=true) (hq : ∀ (a : Nat) nd,N[a]? = some nd→q a=valN σ q nd) (h0 : ∀ a,N.length≤a→q a=0) (hH : hAll q H) : Hy N H L C Z q σ where
 nat := hq
 qs := (sizes_okW hσ hw hz hq h0).2
 zs := (sizes_okW hσ hw hz hq h0).1
 par := hσ
 lit := fun s b h => lit_rd hl hq h
 k0 := fun a r h => kn_at hH h
 k1 := fun a r h => kn_at hH h
 k2 := fun a r h => kn_at hH h
 k3 := fun a b r h => kn_at hH h
 k4 := fun l a b r h1 h2 => by
  have h3 : Nat.beq 1 r=true ↔ q a=q b := kn_at hH h2
  rw [h3,← can_tx hcn hq h1]
  exact ⟨fun e => by rw [e],fun e => tellS_inj (bytesN_inj e)⟩
 k6 := fun a b r h => kn_at hH h
 k5 := fun a r h => kn_at hH h
end
end Go.Proofs.YtgemmepbdmbmfaaGreatDoor
/- VPD -/
namespace Cx
open Go Go.RowKit
def a1sB : List A1→List A1→Bool
 | [],[] => true
 | (a,x) :: l,(b,y) :: m => (a == b && acsW x y) && a1sB l m
 | _,_ => false
theorem a1sB_eq : ∀ {l m : List A1},a1sB l m=true→l=m
 | [],[],_ => rfl
 | (a,x) :: l,(b,y) :: m,h => by
  unfold a1sB at h
  simp only [Bool.and_eq_true,beq_iff_eq] at h
  obtain ⟨⟨h1,h2⟩,h3⟩ := h
  rw [h1,acsW_eq h2,a1sB_eq h3]
 | [],_ :: _,h => by cases h
 | _ :: _,[],h => by cases h
def avsB : List AV→List AV→Bool
 | [],[] => true
 | (a,x) :: l,(b,y) :: m => (a == b && a1sB x y) && avsB l m
 | _,_ => false
theorem avsB_eq : ∀ {l m : List AV},avsB l m=true→l=m
 | [],[],_ => rfl
 | (a,x) :: l,(b,y) :: m,h => by
  unfold avsB at h
  simp only [Bool.and_eq_true,beq_iff_eq] at h
  obtain ⟨⟨h1,h2⟩,h3⟩ := h
  rw [h1,a1sB_eq h2,avsB_eq h3]
 | [],_ :: _,h => by cases h
 | _ :: _,[],h => by cases h
abbrev Memo := List (FuncId × List AV × AV)
def memoGet (f : FuncId) (args : List AV) : Memo→Option AV
 | [] => none
 | (g,bs,v) :: m => bif Nat.beq f g && avsB args bs then some v else memoGet f args m
theorem memoGet_mem {f : FuncId} {args : List AV} {v : AV} : ∀ {m : Memo},memoGet f args m=some v→(f,args,v) ∈ m
 | [],h => by cases h
 | (g,bs,u) :: m,h => by
  unfold memoGet at h
  cases e : (Nat.beq f g && avsB args bs) with
  | true =>
   rw [e] at h
   rw [Bool.and_eq_true,Nat.beq_eq] at e
   rw [e.1,avsB_eq e.2,show u=v from Option.some.inj h]
   exact List.mem_cons_self
  | false =>
   rw [e] at h
   exact List.mem_cons_of_mem _ (memoGet_mem h)
def bareC : AC→Bool
 | .inl _ => true
 | .inr (k,_) => Nat.ble k 2
def bareV (v : AV) : Bool := v.2.all fun x => x.2.all bareC
def callD (S : Sx) (cs : List (FuncId × Nat)) (M : Memo) : Nat→Hs→CallF
 | 0,_,_,_,_,_ => none
 | n+1,X,f,args,h,nx => match memoGet f args M with
  | some v => some (v,h,nx)
  | none => match prGet f cs with
   | none => bodyC (S.plus X) (callD S cs M n X) f args h nx
   | some c => (asks (S.plus X) h c args).bind fun l => ifO (l.all (askOk S)) ((sqN S (l.map (·.2.2.2))).bind fun s => ((S.plus X).kn 0 s 0).bind fun r =>
     bif Nat.beq 1 r then bodyC (S.plus (allZ l X)) (callD S cs M n (allZ l X)) f args h nx
     else joinC h nx ((splits l X).map fun X' => bodyC (S.plus X') (callD S cs M n X') f args h nx))
def MemoOk (S : Sx) (E : Ev S.nb) (w0 : World) (M : Memo) : Prop := ∀ f args v,(f,args,v) ∈ M→∀ (γ : Nat→Option Nat) (w : World) (vs : List Value),WI w0 γ w→A2 (avOn (cOn E S.K γ w)) args vs →
 Calls S.P f vs.toArray w fun e w' => ∃ r,e=.returned r∧(∀ wr nx,(∀ b ∈ wr,Live γ b)→Ef S.nb w0 wr nx nx γ w γ w')∧avOn (cOn E S.K γ w') v r
section
variable {S : Sx} {E : Ev S.nb} {w0 : World}
theorem bareC_on {K K' : List (FuncId × List AC)} {γ γ' : Nat→Option Nat} {w : World} {d : Nat} {c : AC} {v : Value} (hc : bareC c=true) (h : cellOn E K γ w d c v) : cellOn E K' γ' w d c v := by
 cases c with
 | inl u =>
  unfold cellOn at h ⊢
  exact h
 | inr t =>
  obtain ⟨k,a,b,n,c⟩ := t
  have hk : k≤2 := by
   unfold bareC at hc
   rw [Nat.ble_eq] at hc
   exact hc
  match k,hk with
  | 0,_ =>
   unfold cellOn at h ⊢
   exact h
  | 1,_ =>
   unfold cellOn at h ⊢
   exact h
  | 2,_ =>
   unfold cellOn at h ⊢
   exact h
theorem A2_imp {α : Type} {R R' : α→Value→Prop} {P : α→Prop} (h : ∀ a v,P a→R a v→R' a v) : ∀ {l : List α} {vs : List Value},(∀ a ∈ l,P a)→A2 R l vs→A2 R' l vs
 | [],[],_,_ => trivial
 | _ :: _,_ :: _,hp,q => ⟨h _ _ (hp _ List.mem_cons_self) q.1,A2_imp h (fun a ha => hp a (List.mem_cons_of_mem _ ha)) q.2⟩
 | [],_ :: _,_,q => q.elim
 | _ :: _,[],_,q => q.elim
theorem bareV_on {K K' : List (FuncId × List AC)} {γ γ' : Nat→Option Nat} {w : World} {x : AV} {v : Value} (hx : bareV x=true) (h : avOn (cOn E K γ w) x v) : avOn (cOn E K' γ' w) x v := by
 unfold bareV at hx
 rw [List.all_eq_true] at hx
 have one : ∀ (y : A1) u,(∀ c ∈ y.2,bareC c=true)→a1On (cOn E K γ w) y u→a1On (cOn E K' γ' w) y u := fun y u hy q => by
  obtain ⟨b,cs⟩ := y
  cases b with
  | true =>
   obtain ⟨us,e,q⟩ := q
   exact ⟨us,e,A2_imp (P := fun c => bareC c=true) (fun _ _ hc q => bareC_on hc q) hy q⟩
  | false => exact A2_imp (P := fun c => bareC c=true) (fun _ _ hc q => bareC_on hc q) hy q
 have all : ∀ y ∈ x.2,∀ c ∈ y.2,bareC c=true := fun y hy c hc => (List.all_eq_true.1 (hx y hy)) c hc
 obtain ⟨b,ys⟩ := x
 cases b with
 | true =>
  obtain ⟨us,e,q⟩ := h
  exact ⟨us,e,A2_imp (P := fun y : A1 => ∀ c ∈ y.2,bareC c=true) (fun y u hy q => one y u hy q) all q⟩
 | false => exact A2_imp (P := fun y : A1 => ∀ c ∈ y.2,bareC c=true) (fun y u hy q => one y u hy q) all h
variable {T : Hs→Prop} {z : Nat→Prop}
theorem callD_ok {cs : List (FuncId × Nat)} {M : Memo} (hm : S.P.follows .mixedOrders=true) (hM : MemoOk S E w0 M) (hN : ∀ X,T X→Knows (S.plus X) E) (hP : ∀ X,T X→PrimOk (S.plus X) E w0) (hk : AskTrue S T z)
  (hs : ∀ X,T X→∀ l s r,sqN S l=some s→(S.plus X).kn 0 s 0=some r→(Nat.beq 1 r=true→∀ d ∈ l,z d)∧(Nat.beq 1 r=false→∃ d ∈ l,¬ z d)) : ∀ n X,T X→CallOk S E w0 (callD S cs M n X)
 | 0,_,_ => fun _ _ _ _ _ h => by cases h
 | n+1,X,hX => fun f args h nx p hp => by
  have body : ∀ Y,T Y→CallOk S E w0 (bodyC (S.plus Y) (callD S cs M n Y)) := fun Y hY => bodyC_ok (S := S.plus Y) hm (hN Y hY) (hP Y hY) (callD_ok hm hM hN hP hk hs n Y hY)
  unfold callD at hp
  split at hp
  ·rename_i v hv
   cases hp
   intro γ w vs hi hA hb hlt hf
   refine (hM f args v (memoGet_mem hv) γ w vs hi hA).mono ?_
   rintro _ w' ⟨r,rfl,hef,hr⟩
   have live : ∀ b ∈ h.map (·.1),Live γ b := fun b hb' => by
    obtain ⟨x,hx,rfl⟩ := List.mem_map.1 hb'
    obtain ⟨_,_,_,_,hl,_⟩ := hb x hx
    exact hl
   exact ⟨r,γ,rfl,hef _ _ live,hr,fun x hx => (hef [] nx no_live).box hi (hb x hx) (by simp)⟩
  ·split at hp
   ·exact body X hX f args h nx p hp
   ·simp only [Option.bind_eq_some_iff,ifO_some,List.all_eq_true] at hp
    obtain ⟨l,_,hl,s,h1,r,h2,h3⟩ := hp
    obtain ⟨a1,a0⟩ := hs X hX _ s r h1 h2
    cases e : Nat.beq 1 r with
    | true =>
     rw [e] at h3
     exact body _ (allZ_true hk hX hl fun a ha => a1 e _ (List.mem_map_of_mem ha)) f args h nx p h3
    | false =>
     rw [e] at h3
     obtain ⟨d,hd,hz⟩ := a0 e
     obtain ⟨a,ha,rfl⟩ := List.mem_map.1 hd
     obtain ⟨X',m1,m2⟩ := splits_true hk hX hl ⟨a,ha,hz⟩
     replace h3 : joinC h nx ((splits l X).map fun X' => bodyC (S.plus X') (callD S cs M n X') f args h nx)=some p := h3
     unfold joinC at h3
     split at h3
     ·rename_i p0 rs hrs
      rw [Option.bind_eq_some_iff] at h3
      obtain ⟨b,hb,h4⟩ := h3
      rw [ifO_some,List.all_eq_true] at h4
      obtain ⟨h5,h6⟩ := h4
      cases h6
      obtain ⟨h',nx',q1,q2,q3⟩ := agree_some (h5 _ (List.mem_map_of_mem m1))
      intro γ w vs hi hA hb hlt hf
      refine (body X' m2 f args h nx _ q1 γ w vs hi hA hb hlt fun b g1 g2 => hf b g1 (Nat.lt_of_lt_of_le g2 q2)).mono ?_
      rintro _ w' ⟨r',γ',rfl,hef,hv,hx⟩
      exact ⟨r',γ',rfl,hef.wide (Nat.le_refl _) q2,hv,fun x hh => hx x (q3 x hh)⟩
     ·cases h3
theorem memo_run {K1 K2 : List (FuncId × List AC)} {H1 H2 : Hs} {M : Memo} {f : FuncId} {args : List AV} {v : AV} {p : List HB × Nat} {call : CallF} (hC : CallOk { S with H := H1,K := K1 } E w0 call) (hr : call f args [] 0=some (v,p)) (ha : args.all bareV=true) (hv : bareV v=true) (hM : MemoOk { S with H := H2,K := K2 } E w0 M) : MemoOk { S with H := H2,K := K2 } E w0 ((f,args,v) :: M) := fun g bs u hmem => by
 rcases List.mem_cons.1 hmem with e | hmem
 ·cases e
  intro γ w vs hi hA
  rw [List.all_eq_true] at ha
  refine (hC f args [] 0 (v,p) hr (fun _ => none) w vs ⟨hi.bel,(fun _ _ h => by cases h)⟩ (A2_imp (P := fun x => bareV x=true) (fun _ _ hx q => bareV_on hx q) ha hA) (fun x hx => by cases hx) (fun x hx => by cases hx) (fun _ _ _ => rfl)).mono ?_
  rintro _ w' ⟨r,γ',rfl,hef,hr,_⟩
  refine ⟨r,rfl,fun wr nx hl => ⟨leG.refl _,fun _ _ => rfl,fun _ _ h => Or.inl h,⟨hef.wi.bel,fun b G q => ⟨(hi.lo b G q).1,Nat.lt_of_lt_of_le (hi.lo b G q).2 hef.gr.size⟩⟩,hef.gr,fun G hG _ => hef.keep G hG (fun b hb => by cases hb),hl⟩,bareV_on hv hr⟩
 ·exact hM g bs u hmem
def memoOne (S : Sx) (cs : List (FuncId × Nat)) (k : Nat) : Memo→Bool
 | (f,args,v) :: M => (match callD S cs M k [] f args [] 0 with
  | some (u,_) => avsB [u] [v]
  | none => false) && (args.all bareV && bareV v)
 | [] => false
def memoChk (S : Sx) (cs : List (FuncId × Nat)) (k : Nat) : Nat→Memo→Bool
 | 0,_ => true
 | n+1,M => memoOne S cs k M && memoChk S cs k n M.tail
def qA (l : List Nat) : AV := (false,[(true,l.flatMap qCells)])
def rC (a : Nat) : AC := .inr (0,0,a,0,0)
def rA (l : List Nat) : AV := (false,[(true,l.map rC)])
def tA (l : List Nat) : AV := (false,[(true,l.map fun a => .inr (1,a,0,0,0))])
theorem memo_nil : MemoOk S E w0 [] := fun _ _ _ h => by cases h
end
end Cx
/- VPE -/
namespace Go.Proofs.YtgemmepbdmbmfaaGreatDoor
open Cx Go Go.RowKit
section
variable {N : List Nd} {H : List (Nat × Nat × Nat × Nat)} {K : List (FuncId × List AC)} {L C : List (List Nat × Nat)} {Z : List Nat} {q : Nat→Rat} {σ : Nat→ByteArray} {cl : List FuncId} {cs pr : List (FuncId × Nat)} {M : Memo} {w : World}
theorem callD_told (Y : Hy N H L C Z q σ) (hc : ∀ f ∈ cl,Closed f) (hm : (Tryz.prog).follows .mixedOrders=true) (hp : PreS w) (hM : MemoOk (sx Tryz.prog N H K L C Z (prC cl)) (evS q σ) w M) (k : Nat) : CallOk (sx Tryz.prog N H K L C Z (prC cl)) (evS q σ) w (callD (sx Tryz.prog N H K L C Z (prC cl)) cs M k []) :=
 callD_ok (S := sx Tryz.prog N H K L C Z (prC cl)) (E := evS q σ) (w0 := w) (T := fun X => Hy N (X ++ H) L C Z q σ) (z := fun d => q d=0) hm hM (fun X hX => knows hX) (fun X hX => primOk hX hp hc) ask_true (fun X hX l s r h1 h2 => by
  have e := hX.k0 s r h2
  have g := sqN_val hX h1
  refine ⟨fun h => g.1 (e.1 h),fun h => ?_⟩
  have hn : ¬ ∀ d ∈ l,q d=0 := fun q' => by
   rw [e.2 (g.2 q')] at h
   cases h
  simpa using hn) k [] Y
def MemoAll (N : List Nd) (L C : List (List Nat × Nat)) (Z : List Nat) (q : Nat→Rat) (σ : Nat→ByteArray) (cl : List FuncId) (w : World) (M : Memo) : Prop := ∀ H K,MemoOk (sx Tryz.prog N H K L C Z (prC cl)) (evS q σ) w M
theorem memoAll_nil : MemoAll N L C Z q σ cl w [] := fun _ _ => memo_nil
theorem memoAll_cons {H1 : List (Nat × Nat × Nat × Nat)} (Y : Hy N H1 L C Z q σ) (hc : ∀ f ∈ cl,Closed f) (hm : (Tryz.prog).follows .mixedOrders=true) (hp : PreS w) {f : FuncId} {args : List AV} {v : AV} (k : Nat) (hr : memoOne (sx Tryz.prog N H1 [] L C Z (prC cl)) cs k ((f,args,v) :: M)=true) (hM : MemoAll N L C Z q σ cl w M) : MemoAll N L C Z q σ cl w ((f,args,v) :: M) := fun H K => by
 unfold memoOne at hr
 simp only [Bool.and_eq_true] at hr
 obtain ⟨h1,h2,h3⟩ := hr
 split at h1
 ·rename_i u p hu
  have e := avsB_eq h1
  cases e
  exact memo_run (S := sx Tryz.prog N H K L C Z (prC cl)) (K1 := []) (H1 := H1) (K2 := K) (H2 := H) (callD_told (K := []) (cs := cs) Y hc hm hp (hM H1 []) k) hu h2 h3 (hM H K)
 ·cases h1
theorem memoAll_drop {i : Nat} {H1 : List (Nat × Nat × Nat × Nat)} (Y : Hy N H1 L C Z q σ) (hc : ∀ f ∈ cl,Closed f) (hm : (Tryz.prog).follows .mixedOrders=true) (hp : PreS w) {k : Nat} (hr : memoOne (sx Tryz.prog N H1 [] L C Z (prC cl)) cs k (M.drop i)=true) (hM : MemoAll N L C Z q σ cl w (M.drop (i+1))) : MemoAll N L C Z q σ cl w (M.drop i) := by
 rw [← List.tail_drop] at hM
 generalize M.drop i=D at *
 match D with
 | [] => cases hr
 | (f,args,v) :: D => exact memoAll_cons Y hc hm hp k hr hM
theorem memoAll_chk {H1 : List (Nat × Nat × Nat × Nat)} (Y : Hy N H1 L C Z q σ) (hc : ∀ f ∈ cl,Closed f) (hm : (Tryz.prog).follows .mixedOrders=true) (hp : PreS w) {k : Nat} : ∀ (n : Nat) {M : Memo},memoChk (sx Tryz.prog N H1 [] L C Z (prC cl)) cs k n M=true→MemoAll N L C Z q σ cl w (M.drop n)→MemoAll N L C Z q σ cl w M
 | 0,_,_,h => h
 | n+1,M,hr,h => by
  unfold memoChk at hr
  rw [Bool.and_eq_true] at hr
  have h1 := memoAll_chk Y hc hm hp n hr.2 (by rw [List.drop_tail]; exact h)
  exact memoAll_drop (i := 0) Y hc hm hp hr.1 (by rw [Nat.zero_add,List.drop_one]; exact h1)
theorem run_toldD' {f : FuncId} {args : List AV} {vs : List Value} (k : Nat) (Y : Hy N H L C Z q σ) (hc : ∀ f ∈ cl,Closed f) (hm : (Tryz.prog).follows .mixedOrders=true) (hp : PreS w) (hM : MemoAll N L C Z q σ cl w M) (hr : (callD (sx Tryz.prog N H K L C Z (prC cl)) cs M k [] f args [] 0).map (·.1)=some (kB true))
  (hA : A2 (avOn (cOn (evS q σ) K (fun _ => none) w)) args vs) : Calls Tryz.prog f vs.toArray w fun e w' => Below w.heap.size w w'∧e=.returned (.bool true) := by
 rw [Option.map_eq_some_iff] at hr
 obtain ⟨⟨v,p⟩,h1,h2⟩ := hr
 dsimp only at h2
 subst h2
 refine (callD_told (cs := cs) Y hc hm hp (hM H K) k f args [] 0 (kB true,p) h1 (fun _ => none) w vs ⟨Below.refl _ _,(fun _ _ h => by cases h)⟩ hA (fun x hx => by cases hx) (fun x hx => by cases hx) (fun _ _ _ => rfl)).mono ?_
 rintro _ w' ⟨r,γ',rfl,hef,hv,_⟩
 exact ⟨hef.wi.bel,by rw [show r=.bool true from (asC_on (v := kB true) (c := .inl (.bool true)) rfl hv).1]⟩
end
end Go.Proofs.YtgemmepbdmbmfaaGreatDoor
/- CFprojected -/
namespace Go.Proofs.YtgemmepbdmbmfaaGreatDoor
open Go.RowKit Cx
theorem closed_projected : Closed 22 :=
 closed_told (N := [(0,[0,1,1]),(0,[0,0,1]),(8,[0,0,1,1]),(8,[1,0,1,1]),(8,[2,0,1,1]),(8,[0,1,0,0]),(8,[1,1,0,0]),(8,[2,1,0,0]),(4,[3,7]),(4,[4,6]),(3,[8,9]),(4,[4,5]),(4,[2,7]),(3,[11,12]),(4,[2,6]),(4,[3,5]),(3,[14,15]),(8,[0,10,13,16]),(8,[1,10,13,16]),(8,[2,10,13,16]),(8,[0,1,0,1]),(8,[1,1,0,1]),(8,[2,1,0,1]),(4,[3,22]),(4,[4,21]),(3,[23,24]),(4,[4,20]),(4,[2,22]),(3,[26,27]),(4,[2,21]),(4,[3,20]),(3,[29,30]),(8,[0,0,0,1]),(8,[1,0,0,1]),(8,[2,0,0,1]),(4,[3,34]),(4,[4,33]),(3,[35,36]),(4,[4,32]),(4,[2,34]),(3,[38,39]),(4,[2,33]),(4,[3,32]),(3,[41,42]),(4,[21,34]),(4,[22,33]),(3,[44,45]),(4,[22,32]),(4,[20,34]),(3,[47,48]),(4,[20,33]),(4,[21,32]),(3,[50,51]),(4,[32,25]),(2,[1,53]),(4,[33,28]),(2,[54,55]),(4,[34,31]),(2,[56,57]),(4,[33,22]),(4,[34,21]),(3,[59,60]),(4,[34,20]),(4,[32,22]),(3,[62,63]),(4,[32,21]),(4,[33,20]),(3,[65,66]),(4,[61,25]),(2,[1,68]),(4,[64,28]),(2,[69,70]),(4,[67,31]),(2,[71,72]),(4,[37,25]),(2,[1,74]),(4,[40,28]),(2,[75,76]),(4,[43,31]),(2,[77,78]),(4,[2,73]),(4,[3,73]),(4,[4,73]),(5,[79]),(4,[20,83]),(4,[21,83]),(4,[22,83]),(2,[80,84]),(2,[81,85]),(2,[82,86]),(8,[0,87,88,89]),(8,[1,87,88,89]),(8,[2,87,88,89]),(0,[0,2,1]),(8,[0,0,93,1]),(8,[1,0,93,1]),(8,[2,0,93,1]),(4,[3,96]),(4,[4,95]),(3,[97,98]),(4,[4,94]),(4,[2,96]),(3,[100,101]),(4,[2,95]),(4,[3,94]),(3,[103,104]),(4,[21,96]),(4,[22,95]),(3,[106,107]),(4,[22,94]),(4,[20,96]),(3,[109,110]),(4,[20,95]),(4,[21,94]),(3,[112,113]),(4,[33,96]),(4,[34,95]),(3,[115,116]),(4,[34,94]),(4,[32,96]),(3,[118,119]),(4,[32,95]),(4,[33,94]),(3,[121,122]),(4,[94,25]),(2,[1,124]),(4,[95,28]),(2,[125,126]),(4,[96,31]),(2,[127,128]),(4,[95,22]),(4,[96,21]),(3,[130,131]),(4,[96,20]),(4,[94,22]),(3,[133,134]),(4,[94,21]),(4,[95,20]),(3,[136,137]),(4,[132,25]),(2,[1,139]),(4,[135,28]),(2,[140,141]),(4,[138,31]),(2,[142,143]),(4,[99,25]),(2,[1,145]),(4,[102,28]),(2,[146,147]),(4,[105,31]),(2,[148,149]),(6,[79,73]),(6,[144,150]),(4,[151,152]),(0,[1,1,1]),(0,[0,1,2])]) (H := [(0,0,0,0),(0,1,0,1),(0,10,0,1),(0,13,0,0),(0,25,0,1),(0,28,0,1),(0,31,0,0),(0,37,0,1),(0,40,0,1),(0,43,0,0),(0,46,0,1),(0,49,0,1),(0,52,0,0),(0,58,0,1),(0,99,0,1),(0,102,0,1),(0,105,0,0),(0,108,0,1),(0,111,0,1),(0,114,0,0),(0,117,0,1),(0,120,0,1),(0,123,0,0),(0,129,0,1),(4,17,1,1),(4,18,0,1),(4,19,154,1),(4,90,0,1),(4,91,154,1),(4,92,1,1),(4,153,155,1)]) (K := []) (L := [([49],0),([48],1),([50],93),([45,49],154),([49,47,50],155)]) (C := [([48],1),([49],0),([45,49],154),([49,47,50],155)]) (Z := [2,2,9,9,9,9,9,9,18,18,37,18,18,37,18,18,37,149,149,149,9,9,9,18,18,37,18,18,37,18,18,37,9,9,9,18,18,37,18,18,37,18,18,37,18,18,37,18,18,37,18,18,37,46,49,46,96,46,143,18,18,37,18,18,37,18,18,37,74,77,74,152,74,227,74,77,74,152,74,227,236,236,236,227,236,236,236,473,473,473,1893,1893,1893,3,13,13,13,22,22,45,22,22,45,22,22,45,22,22,45,22,22,45,22,22,45,22,22,45,22,22,45,22,22,45,50,53,50,104,50,155,22,22,45,22,22,45,22,22,45,82,85,82,168,82,251,82,85,82,168,82,251,454,502,956,2,3]) (cl := []) 6 (fun _ h => by cases h) (by kernel_rfl) (by kernel_rfl) (by kernel_rfl) (by kernel_rfl) (by kernel_rfl) (by kernel_rfl) (by kernel_rfl)
end Go.Proofs.YtgemmepbdmbmfaaGreatDoor
/- MPU -/
namespace Go.Proofs.YtgemmepbdmbmfaaGreatDoor
open Go.RowKit Cx
def pU_N : List Nd := [(1,[0]),(1,[1]),(1,[2]),(4,[0,0]),(4,[1,1]),(2,[3,4]),(4,[2,2]),(2,[5,6]),(1,[3]),(1,[4]),(1,[5]),(1,[6]),(1,[7]),(1,[8]),(1,[9]),(1,[10]),(1,[11]),(4,[12,16]),(4,[13,15]),(3,[17,18]),(4,[8,19]),(4,[11,16]),(4,[13,14]),(3,[21,22]),(4,[9,23]),(5,[24]),(4,[11,15]),(4,[12,14]),(3,[26,27]),(4,[10,28]),(2,[20,25]),(2,[30,29]),(4,[15,2]),(4,[16,1]),(3,[32,33]),(4,[11,34]),(4,[14,2]),(4,[16,0]),(3,[36,37]),(4,[12,38]),(5,[39]),(4,[14,1]),(4,[15,0]),(3,[41,42]),(4,[13,43]),(2,[35,40]),(2,[45,44]),(8,[0,0,1,2]),(8,[1,0,1,2]),(8,[2,0,1,2]),(4,[8,8]),(4,[9,9]),(2,[50,51]),(4,[10,10]),(2,[52,53]),(8,[0,8,9,10]),(8,[1,8,9,10]),(8,[2,8,9,10]),(4,[11,11]),(4,[12,12]),(2,[58,59]),(4,[13,13]),(2,[60,61]),(8,[0,11,12,13]),(8,[1,11,12,13]),(8,[2,11,12,13]),(4,[14,14]),(4,[15,15]),(2,[66,67]),(4,[16,16]),(2,[68,69]),(8,[0,14,15,16]),(8,[1,14,15,16]),(8,[2,14,15,16]),(4,[56,65]),(4,[57,64]),(3,[74,75]),(4,[57,63]),(4,[55,65]),(3,[77,78]),(4,[55,64]),(4,[56,63]),(3,[80,81]),(4,[47,76]),(0,[0,0,1]),(2,[84,83]),(4,[48,79]),(2,[85,86]),(4,[49,82]),(2,[87,88]),(4,[1,10]),(4,[2,9]),(3,[90,91]),(4,[14,92]),(4,[0,10]),(4,[2,8]),(3,[94,95]),(4,[15,96]),(5,[97]),(4,[0,9]),(4,[1,8]),(3,[99,100]),(4,[16,101]),(2,[93,98]),(2,[103,102]),(4,[9,13]),(4,[10,12]),(3,[105,106]),(4,[0,107]),(4,[8,13]),(4,[10,11]),(3,[109,110]),(4,[1,111]),(5,[112]),(4,[8,12]),(4,[9,11]),(3,[114,115]),(4,[2,116]),(2,[108,113]),(2,[118,117]),(4,[64,49]),(4,[65,48]),(3,[120,121]),(4,[65,47]),(4,[63,49]),(3,[123,124]),(4,[63,48]),(4,[64,47]),(3,[126,127]),(4,[48,57]),(4,[49,56]),(3,[129,130]),(4,[49,55]),(4,[47,57]),(3,[132,133]),(4,[47,56]),(4,[48,55]),(3,[135,136]),(4,[76,71]),(2,[84,138]),(4,[79,72]),(2,[139,140]),(4,[82,73]),(2,[141,142]),(4,[122,71]),(2,[84,144]),(4,[125,72]),(2,[145,146]),(4,[128,73]),(2,[147,148]),(4,[131,71]),(2,[84,150]),(4,[134,72]),(2,[151,152]),(4,[137,73]),(2,[153,154]),(4,[47,143]),(4,[48,143]),(4,[49,143]),(4,[55,149]),(4,[56,149]),(4,[57,149]),(4,[63,155]),(4,[64,155]),(4,[65,155]),(1,[12]),(1,[13]),(1,[14]),(4,[165,165]),(4,[166,166]),(2,[168,169]),(4,[167,167]),(2,[170,171]),(1,[15]),(1,[16]),(1,[17]),(1,[18]),(1,[19]),(1,[20]),(1,[21]),(1,[22]),(1,[23]),(4,[177,181]),(4,[178,180]),(3,[182,183]),(4,[173,184]),(4,[176,181]),(4,[178,179]),(3,[186,187]),(4,[174,188]),(5,[189]),(4,[176,180]),(4,[177,179]),(3,[191,192]),(4,[175,193]),(2,[185,190]),(2,[195,194]),(4,[180,167]),(4,[181,166]),(3,[197,198]),(4,[176,199]),(4,[179,167]),(4,[181,165]),(3,[201,202]),(4,[177,203]),(5,[204]),(4,[179,166]),(4,[180,165]),(3,[206,207]),(4,[178,208]),(2,[200,205]),(2,[210,209]),(8,[0,165,166,167]),(8,[1,165,166,167]),(8,[2,165,166,167]),(4,[173,173]),(4,[174,174]),(2,[215,216]),(4,[175,175]),(2,[217,218]),(8,[0,173,174,175]),(8,[1,173,174,175]),(8,[2,173,174,175]),(4,[176,176]),(4,[177,177]),(2,[223,224]),(4,[178,178]),(2,[225,226]),(8,[0,176,177,178]),(8,[1,176,177,178]),(8,[2,176,177,178]),(4,[179,179]),(4,[180,180]),(2,[231,232]),(4,[181,181]),(2,[233,234]),(8,[0,179,180,181]),(8,[1,179,180,181]),(8,[2,179,180,181]),(4,[221,230]),(4,[222,229]),(3,[239,240]),(4,[222,228]),(4,[220,230]),(3,[242,243]),(4,[220,229]),(4,[221,228]),(3,[245,246]),(4,[212,241]),(2,[84,248]),(4,[213,244]),(2,[249,250]),(4,[214,247]),(2,[251,252]),(4,[166,175]),(4,[167,174]),(3,[254,255]),(4,[179,256]),(4,[165,175]),(4,[167,173]),(3,[258,259]),(4,[180,260]),(5,[261]),(4,[165,174]),(4,[166,173]),(3,[263,264]),(4,[181,265]),(2,[257,262]),(2,[267,266]),(4,[174,178]),(4,[175,177]),(3,[269,270]),(4,[165,271]),(4,[173,178]),(4,[175,176]),(3,[273,274]),(4,[166,275]),(5,[276]),(4,[173,177]),(4,[174,176]),(3,[278,279]),(4,[167,280]),(2,[272,277]),(2,[282,281]),(4,[229,214]),(4,[230,213]),(3,[284,285]),(4,[230,212]),(4,[228,214]),(3,[287,288]),(4,[228,213]),(4,[229,212]),(3,[290,291]),(4,[213,222]),(4,[214,221]),(3,[293,294]),(4,[214,220]),(4,[212,222]),(3,[296,297]),(4,[212,221]),(4,[213,220]),(3,[299,300]),(4,[241,236]),(2,[84,302]),(4,[244,237]),(2,[303,304]),(4,[247,238]),(2,[305,306]),(4,[286,236]),(2,[84,308]),(4,[289,237]),(2,[309,310]),(4,[292,238]),(2,[311,312]),(4,[295,236]),(2,[84,314]),(4,[298,237]),(2,[315,316]),(4,[301,238]),(2,[317,318]),(4,[212,307]),(4,[213,307]),(4,[214,307]),(4,[220,313]),(4,[221,313]),(4,[222,313]),(4,[228,319]),(4,[229,319]),(4,[230,319]),(4,[160,164]),(4,[163,161]),(3,[329,330]),(4,[163,158]),(4,[157,164]),(3,[332,333]),(4,[157,161]),(4,[160,158]),(3,[335,336]),(4,[161,162]),(4,[164,159]),(3,[338,339]),(4,[164,156]),(4,[158,162]),(3,[341,342]),(4,[158,159]),(4,[161,156]),(3,[344,345]),(4,[159,163]),(4,[162,160]),(3,[347,348]),(4,[162,157]),(4,[156,163]),(3,[350,351]),(4,[156,160]),(4,[159,157]),(3,[353,354]),(4,[331,320]),(2,[84,356]),(4,[334,323]),(2,[357,358]),(4,[337,326]),(2,[359,360]),(4,[340,320]),(2,[84,362]),(4,[343,323]),(2,[363,364]),(4,[346,326]),(2,[365,366]),(4,[349,320]),(2,[84,368]),(4,[352,323]),(2,[369,370]),(4,[355,326]),(2,[371,372]),(4,[331,321]),(2,[84,374]),(4,[334,324]),(2,[375,376]),(4,[337,327]),(2,[377,378]),(4,[340,321]),(2,[84,380]),(4,[343,324]),(2,[381,382]),(4,[346,327]),(2,[383,384]),(4,[349,321]),(2,[84,386]),(4,[352,324]),(2,[387,388]),(4,[355,327]),(2,[389,390]),(4,[331,322]),(2,[84,392]),(4,[334,325]),(2,[393,394]),(4,[337,328]),(2,[395,396]),(4,[340,322]),(2,[84,398]),(4,[343,325]),(2,[399,400]),(4,[346,328]),(2,[401,402]),(4,[349,322]),(2,[84,404]),(4,[352,325]),(2,[405,406]),(4,[355,328]),(2,[407,408]),(8,[0,361,367,373,379,385,391,397,403,409]),(8,[1,361,367,373,379,385,391,397,403,409]),(8,[2,361,367,373,379,385,391,397,403,409]),(8,[3,361,367,373,379,385,391,397,403,409]),(8,[4,361,367,373,379,385,391,397,403,409]),(8,[5,361,367,373,379,385,391,397,403,409]),(8,[6,361,367,373,379,385,391,397,403,409]),(8,[7,361,367,373,379,385,391,397,403,409]),(8,[8,361,367,373,379,385,391,397,403,409]),(4,[410,0]),(4,[411,1]),(4,[412,2]),(2,[419,420]),(2,[422,421]),(4,[413,0]),(4,[414,1]),(4,[415,2]),(2,[424,425]),(2,[427,426]),(4,[416,0]),(4,[417,1]),(4,[418,2]),(2,[429,430]),(2,[432,431]),(4,[428,165]),(4,[423,166]),(3,[434,435]),(4,[433,165]),(4,[423,167]),(3,[437,438]),(4,[433,166]),(4,[428,167]),(3,[440,441]),(4,[436,436]),(4,[439,439]),(2,[443,444]),(4,[442,442]),(2,[445,446]),(4,[410,8]),(4,[411,9]),(4,[412,10]),(2,[448,449]),(2,[451,450]),(4,[413,8]),(4,[414,9]),(4,[415,10]),(2,[453,454]),(2,[456,455]),(4,[416,8]),(4,[417,9]),(4,[418,10]),(2,[458,459]),(2,[461,460]),(4,[457,173]),(4,[452,174]),(3,[463,464]),(4,[462,173]),(4,[452,175]),(3,[466,467]),(4,[462,174]),(4,[457,175]),(3,[469,470]),(4,[465,465]),(4,[468,468]),(2,[472,473]),(4,[471,471]),(2,[474,475]),(4,[410,11]),(4,[411,12]),(4,[412,13]),(2,[477,478]),(2,[480,479]),(4,[413,11]),(4,[414,12]),(4,[415,13]),(2,[482,483]),(2,[485,484]),(4,[416,11]),(4,[417,12]),(4,[418,13]),(2,[487,488]),(2,[490,489]),(4,[486,176]),(4,[481,177]),(3,[492,493]),(4,[491,176]),(4,[481,178]),(3,[495,496]),(4,[491,177]),(4,[486,178]),(3,[498,499]),(4,[494,494]),(4,[497,497]),(2,[501,502]),(4,[500,500]),(2,[503,504]),(4,[410,14]),(4,[411,15]),(4,[412,16]),(2,[506,507]),(2,[509,508]),(4,[413,14]),(4,[414,15]),(4,[415,16]),(2,[511,512]),(2,[514,513]),(4,[416,14]),(4,[417,15]),(4,[418,16]),(2,[516,517]),(2,[519,518]),(4,[515,179]),(4,[510,180]),(3,[521,522]),(4,[520,179]),(4,[510,181]),(3,[524,525]),(4,[520,180]),(4,[515,181]),(3,[527,528]),(4,[523,523]),(4,[526,526]),(2,[530,531]),(4,[529,529]),(2,[532,533]),(4,[361,361]),(4,[367,367]),(2,[535,536]),(4,[373,373]),(2,[537,538]),(4,[379,379]),(2,[539,540]),(4,[385,385]),(2,[541,542]),(4,[391,391]),(2,[543,544]),(4,[397,397]),(2,[545,546]),(4,[403,403]),(2,[547,548]),(4,[409,409]),(2,[549,550]),(4,[414,418]),(4,[415,417]),(3,[552,553]),(4,[410,554]),(4,[413,418]),(4,[415,416]),(3,[556,557]),(4,[411,558]),(5,[559]),(4,[413,417]),(4,[414,416]),(3,[561,562]),(4,[412,563]),(2,[555,560]),(2,[565,564])]
def pU_L : List (List Nat × Nat) := []
def pU_C : List (List Nat × Nat) := []
def pU_Z : List Nat := [3495259,3495259,3495259,6990518,6990518,13981037,6990518,20971556,3495259,3495259,3495259,3495259,3495259,3495259,3495259,3495259,3495259,6990518,6990518,13981037,17476296,6990518,6990518,13981037,17476296,17476296,6990518,6990518,13981037,17476296,34952593,52428890,6990518,6990518,13981037,17476296,6990518,6990518,13981037,17476296,17476296,6990518,6990518,13981037,17476296,34952593,52428890,13981037,13981037,13981037,6990518,6990518,13981037,6990518,20971556,13981037,13981037,13981037,6990518,6990518,13981037,6990518,20971556,13981037,13981037,13981037,6990518,6990518,13981037,6990518,20971556,13981037,13981037,13981037,27962074,27962074,27962075,27962074,27962074,27962075,27962074,27962074,27962075,41943112,2,41943113,41943112,41943114,41943112,41943115,6990518,6990518,13981037,17476296,6990518,6990518,13981037,17476296,17476296,6990518,6990518,13981037,17476296,34952593,52428890,6990518,6990518,13981037,17476296,6990518,6990518,13981037,17476296,17476296,6990518,6990518,13981037,17476296,34952593,52428890,27962074,27962074,27962075,27962074,27962074,27962075,27962074,27962074,27962075,27962074,27962074,27962075,27962074,27962074,27962075,27962074,27962074,27962075,41943112,41943113,41943112,41943114,41943112,41943115,41943112,41943113,41943112,41943114,41943112,41943115,41943112,41943113,41943112,41943114,41943112,41943115,55924152,55924152,55924152,55924152,55924152,55924152,55924152,55924152,55924152,3495259,3495259,3495259,6990518,6990518,13981037,6990518,20971556,3495259,3495259,3495259,3495259,3495259,3495259,3495259,3495259,3495259,6990518,6990518,13981037,17476296,6990518,6990518,13981037,17476296,17476296,6990518,6990518,13981037,17476296,34952593,52428890,6990518,6990518,13981037,17476296,6990518,6990518,13981037,17476296,17476296,6990518,6990518,13981037,17476296,34952593,52428890,13981037,13981037,13981037,6990518,6990518,13981037,6990518,20971556,13981037,13981037,13981037,6990518,6990518,13981037,6990518,20971556,13981037,13981037,13981037,6990518,6990518,13981037,6990518,20971556,13981037,13981037,13981037,27962074,27962074,27962075,27962074,27962074,27962075,27962074,27962074,27962075,41943112,41943113,41943112,41943114,41943112,41943115,6990518,6990518,13981037,17476296,6990518,6990518,13981037,17476296,17476296,6990518,6990518,13981037,17476296,34952593,52428890,6990518,6990518,13981037,17476296,6990518,6990518,13981037,17476296,17476296,6990518,6990518,13981037,17476296,34952593,52428890,27962074,27962074,27962075,27962074,27962074,27962075,27962074,27962074,27962075,27962074,27962074,27962075,27962074,27962074,27962075,27962074,27962074,27962075,41943112,41943113,41943112,41943114,41943112,41943115,41943112,41943113,41943112,41943114,41943112,41943115,41943112,41943113,41943112,41943114,41943112,41943115,55924152,55924152,55924152,55924152,55924152,55924152,55924152,55924152,55924152,111848304,111848304,111848305,111848304,111848304,111848305,111848304,111848304,111848305,111848304,111848304,111848305,111848304,111848304,111848305,111848304,111848304,111848305,111848304,111848304,111848305,111848304,111848304,111848305,111848304,111848304,111848305,167772457,167772458,167772457,167772459,167772457,167772460,167772457,167772458,167772457,167772459,167772457,167772460,167772457,167772458,167772457,167772459,167772457,167772460,167772457,167772458,167772457,167772459,167772457,167772460,167772457,167772458,167772457,167772459,167772457,167772460,167772457,167772458,167772457,167772459,167772457,167772460,167772457,167772458,167772457,167772459,167772457,167772460,167772457,167772458,167772457,167772459,167772457,167772460,167772457,167772458,167772457,167772459,167772457,167772460,167772461,167772461,167772461,167772461,167772461,167772461,167772461,167772461,167772461,171267720,171267720,171267720,342535441,513803162,171267720,171267720,171267720,342535441,513803162,171267720,171267720,171267720,342535441,513803162,517298421,517298421,1034596843,517298421,517298421,1034596843,517298421,517298421,1034596843,2069193686,2069193686,4138387373,2069193686,6207581060,171267720,171267720,171267720,342535441,513803162,171267720,171267720,171267720,342535441,513803162,171267720,171267720,171267720,342535441,513803162,517298421,517298421,1034596843,517298421,517298421,1034596843,517298421,517298421,1034596843,2069193686,2069193686,4138387373,2069193686,6207581060,171267720,171267720,171267720,342535441,513803162,171267720,171267720,171267720,342535441,513803162,171267720,171267720,171267720,342535441,513803162,517298421,517298421,1034596843,517298421,517298421,1034596843,517298421,517298421,1034596843,2069193686,2069193686,4138387373,2069193686,6207581060,171267720,171267720,171267720,342535441,513803162,171267720,171267720,171267720,342535441,513803162,171267720,171267720,171267720,342535441,513803162,517298421,517298421,1034596843,517298421,517298421,1034596843,517298421,517298421,1034596843,2069193686,2069193686,4138387373,2069193686,6207581060,335544920,335544920,335544921,335544920,335544922,335544920,335544923,335544920,335544924,335544920,335544925,335544920,335544926,335544920,335544927,335544920,335544928,335544922,335544922,335544923,503317384,335544922,335544922,335544923,503317384,503317384,335544922,335544922,335544923,503317384,503317385,503317386]
abbrev pU_Q (q : Nat→Rat) (σ : Nat→ByteArray) : Prop := ∀ (a : Nat) nd,pU_N[a]? = some nd→q a=valN σ q nd
variable {q : Nat→Rat} {σ : Nat→ByteArray}
def pU_I : List Bool := [false,false,false,false,false,false,false,false,false,false,false,false,false,false,false,false,false,false,false,false,false,false,false,false,false,false,false,false,false,false,false,false,false,false,false,false,false,false,false,false,false,false,false,false,false,false,false,true,true,true,false,false,false,false,false,true,true,true,false,false,false,false,false,true,true,true,false,false,false,false,false,true,true,true,true,true,true,true,true,true,true,true,true,true,true,true,true,true,true,true,false,false,false,false,false,false,false,false,false,false,false,false,false,false,false,false,false,false,false,false,false,false,false,false,false,false,false,false,false,false,true,true,true,true,true,true,true,true,true,true,true,true,true,true,true,true,true,true,true,true,true,true,true,true,true,true,true,true,true,true,true,true,true,true,true,true,true,true,true,true,true,true,true,true,true,false,false,false,false,false,false,false,false,false,false,false,false,false,false,false,false,false,false,false,false,false,false,false,false,false,false,false,false,false,false,false,false,false,false,false,false,false,false,false,false,false,false,false,false,false,false,false,true,true,true,false,false,false,false,false,true,true,true,false,false,false,false,false,true,true,true,false,false,false,false,false,true,true,true,true,true,true,true,true,true,true,true,true,true,true,true,true,true,true,false,false,false,false,false,false,false,false,false,false,false,false,false,false,false,false,false,false,false,false,false,false,false,false,false,false,false,false,false,false,true,true,true,true,true,true,true,true,true,true,true,true,true,true,true,true,true,true,true,true,true,true,true,true,true,true,true,true,true,true,true,true,true,true,true,true,true,true,true,true,true,true,true,true,true,true,true,true,true,true,true,true,true,true,true,true,true,true,true,true,true,true,true,true,true,true,true,true,true,true,true,true,true,true,true,true,true,true,true,true,true,true,true,true,true,true,true,true,true,true,true,true,true,true,true,true,true,true,true,true,true,true,true,true,true,true,true,true,true,true,true,true,true,true,true,true,true,true,true,true,true,true,true,true,true,true,true,true,true,true,true,true,true,true,true,false,false,false,false,false,false,false,false,false,false,false,false,false,false,false,false,false,false,false,false,false,false,false,false,false,false,false,false,false,false,false,false,false,false,false,false,false,false,false,false,false,false,false,false,false,false,false,false,false,false,false,false,false,false,false,false,false,false,false,false,false,false,false,false,false,false,false,false,false,false,false,false,false,false,false,false,false,false,false,false,false,false,false,false,false,false,false,false,false,false,false,false,false,false,false,false,false,false,false,false,false,false,false,false,false,false,false,false,false,false,false,false,false,false,false,false,true,true,true,true,true,true,true,true,true,true,true,true,true,true,true,true,true,true,true,true,true,true,true,true,true,true,true,true,true,true,true,true]
theorem pU_wf : wfB 0 pU_N=true := by kernel_rfl
theorem pU_sz : szC pU_Z pU_I pU_N pU_Z pU_I=true := by kernel_rfl
theorem pU_lt : litB pU_N pU_L=true := by kernel_rfl
theorem pU_cn : canB pU_N pU_C=true := by kernel_rfl
theorem pU_c84 : cst 0 0 1=(0 : Rat) := by decide +kernel
structure V3 where
 x : Rat
 y : Rat
 z : Rat
def V3.cr (u v : V3) : V3 := ⟨u.y*v.z - u.z*v.y,u.z*v.x - u.x*v.z,u.x*v.y - u.y*v.x⟩
def V3.dt (u v : V3) : Rat := u.x*v.x+u.y*v.y+u.z*v.z
def V3.sm (u : V3) (k : Rat) : V3 := ⟨u.x*k,u.y*k,u.z*k⟩
def V3.ad (u v : V3) : V3 := ⟨u.x+v.x,u.y+v.y,u.z+v.z⟩
def V3.no : V3 := ⟨0,0,0⟩
def V3.mv (a b c u : V3) : V3 := ⟨a.dt u,b.dt u,c.dt u⟩
def V3.dm (a b c : V3) : Rat := a.dt (b.cr c)
def V3.Pr (u v : V3) : Prop := ∃ g,g ≠ 0∧u=v.sm g
theorem V3.ext' {u v : V3} (h : u.x=v.x∧u.y=v.y∧u.z=v.z) : u=v := by
 cases u; cases v; cases h.1; cases h.2.1; cases h.2.2; rfl
theorem V3.no_iff {a b c : Rat} : (⟨a,b,c⟩ : V3)=.no ↔ (a=0∧b=0∧c=0) :=
 ⟨fun h => ⟨congrArg V3.x h,congrArg V3.y h,congrArg V3.z h⟩,fun h => V3.ext' h⟩
theorem V3.mk_cr {a b c d e f x y z m1 m2 m3 m4 m5 m6 : Rat} (hx : x=m1 - m2) (hy : y=m3 - m4) (hz : z=m5 - m6) (h1 : m1=b*f) (h2 : m2=c*e) (h3 : m3=c*d) (h4 : m4=a*f) (h5 : m5=a*e) (h6 : m6=b*d) : (⟨x,y,z⟩ : V3)=V3.cr ⟨a,b,c⟩ ⟨d,e,f⟩ := by
 subst_vars; rfl
theorem V3.mk_dt {a b c d e f n p q r s t o : Rat} (ho : o=0) (hn : n=p+q) (hp : p=r+s) (hr : r=o+t) (ht : t=a*d) (hs : s=b*e) (hq : q=c*f) : n=V3.dt ⟨a,b,c⟩ ⟨d,e,f⟩ := by
 subst_vars; simp only [V3.dt]; grind
theorem V3.mk_mv {x y z : Rat} {a b c u : V3} (h1 : x=a.dt u) (h2 : y=b.dt u) (h3 : z=c.dt u) : (⟨x,y,z⟩ : V3)=V3.mv a b c u := by
 subst_vars; rfl
theorem V3.mk_su {a b c d e f k n x y z m1 m2 m3 m4 m5 m6 : Rat} (hx : x=m1+m2) (hy : y=m3+m4) (hz : z=m5+m6) (h1 : m1=k*a) (h2 : m2=n*d) (h3 : m3=k*b) (h4 : m4=n*e) (h5 : m5=k*c) (h6 : m6=n*f) : (⟨x,y,z⟩ : V3)=(V3.sm ⟨a,b,c⟩ k).ad (V3.sm ⟨d,e,f⟩ n) := by
 subst_vars; apply V3.ext'; simp only [V3.sm,V3.ad]; refine ⟨?_,?_,?_⟩ <;> grind
theorem V3.mk_pf {a b c x y z : Rat} (hn : (⟨a,b,c⟩ : V3) ≠ .no) (hx : x=a*fac [a,b,c]) (hy : y=b*fac [a,b,c]) (hz : z=c*fac [a,b,c]) : V3.Pr ⟨x,y,z⟩ ⟨a,b,c⟩ :=
 ⟨fac [a,b,c],fun h => hn (V3.no_iff.2 ⟨fac_zero (by simp) h,fac_zero (by simp) h,fac_zero (by simp) h⟩),by subst_vars; rfl⟩
theorem V3.sq3 {x y z m1 m2 m3 s t : Rat} (h1 : m1=x*x) (h2 : m2=y*y) (hs : s=m1+m2) (h3 : m3=z*z) (ht : t=s+m3) : t=0 ↔ (⟨x,y,z⟩ : V3)=.no := by
 rw [V3.no_iff]
 have a1 := sq_facts x
 have a2 := sq_facts y
 have a3 := sq_facts z
 subst_vars
 constructor
 ·intro h
  refine ⟨a1.2.1 ?_,a2.2.1 ?_,a3.2.1 ?_⟩ <;> grind
 ·rintro ⟨h1,h2,h3⟩
  rw [h1,h2,h3]; grind
theorem V3.Pr.rfl' (u : V3) : V3.Pr u u := ⟨1,by decide,by apply V3.ext'; simp only [V3.sm]; refine ⟨?_,?_,?_⟩ <;> grind⟩
theorem V3.sm_sm (u : V3) (k n : Rat) : (u.sm k).sm n=u.sm (k*n) := by
 apply V3.ext'; simp only [V3.sm]; refine ⟨?_,?_,?_⟩ <;> grind
theorem V3.Pr.trans {u v w : V3} (h : V3.Pr u v) (k : V3.Pr v w) : V3.Pr u w := by
 obtain ⟨g,hg,e⟩ := h
 obtain ⟨h,hh,f⟩ := k
 exact ⟨h*g,mul_ne hh hg,by rw [e,f,V3.sm_sm]⟩
theorem V3.no_sm (k : Rat) : V3.no.sm k=.no := by
 apply V3.ext'; simp only [V3.sm,V3.no]; refine ⟨?_,?_,?_⟩ <;> grind
theorem V3.sm_ne {u : V3} {g : Rat} (hg : g ≠ 0) (h : u ≠ .no) : u.sm g ≠ .no := by
 intro e
 have e1 := congrArg V3.x e
 have e2 := congrArg V3.y e
 have e3 := congrArg V3.z e
 simp only [V3.sm,V3.no] at e1 e2 e3
 exact h (V3.ext' ⟨(Rat.mul_eq_zero.1 e1).resolve_right hg,(Rat.mul_eq_zero.1 e2).resolve_right hg,(Rat.mul_eq_zero.1 e3).resolve_right hg⟩)
theorem V3.Pr.no_iff {u v : V3} (h : V3.Pr u v) : u=.no ↔ v=.no := by
 obtain ⟨g,hg,e⟩ := h
 constructor
 ·intro k
  refine Classical.byContradiction fun q => V3.sm_ne hg q (e.symm.trans k)
 ·intro k
  rw [e,k,V3.no_sm]
theorem V3.Pr.mv {u v : V3} (a b c : V3) (h : V3.Pr u v) : V3.Pr (V3.mv a b c u) (V3.mv a b c v) := by
 obtain ⟨g,hg,e⟩ := h
 refine ⟨g,hg,?_⟩
 rw [e]; apply V3.ext'; simp only [V3.mv,V3.sm,V3.dt]; refine ⟨?_,?_,?_⟩ <;> grind
theorem V3.Pr.cr {u v s t : V3} (h : V3.Pr u v) (k : V3.Pr s t) : V3.Pr (u.cr s) (v.cr t) := by
 obtain ⟨g,hg,e⟩ := h
 obtain ⟨l,hl,f⟩ := k
 refine ⟨g*l,mul_ne hg hl,?_⟩
 rw [e,f]; apply V3.ext'; simp only [V3.cr,V3.sm]; refine ⟨?_,?_,?_⟩ <;> grind
theorem V3.Pr.dt {u v s t : V3} (h : V3.Pr u v) (k : V3.Pr s t) : u.dt s=0 ↔ v.dt t=0 := by
 obtain ⟨g,hg,e⟩ := h
 obtain ⟨l,hl,f⟩ := k
 have q : u.dt s=v.dt t*(g*l) := by rw [e,f]; simp only [V3.dt,V3.sm]; grind
 rw [q]
 exact ⟨fun h => (Rat.mul_eq_zero.1 h).resolve_right (mul_ne hg hl),fun h => by rw [h,Rat.zero_mul]⟩
theorem V3.mv_ne {a b c u : V3} (hd : V3.dm a b c ≠ 0) : V3.mv a b c u=.no ↔ u=.no := by
 constructor
 ·intro h
  have q : u.sm (V3.dm a b c)=(((b.cr c).sm (V3.mv a b c u).x).ad ((c.cr a).sm (V3.mv a b c u).y)).ad ((a.cr b).sm (V3.mv a b c u).z) := by
   apply V3.ext'; simp only [V3.mv,V3.sm,V3.dt,V3.cr,V3.ad,V3.dm]; refine ⟨?_,?_,?_⟩ <;> grind
  refine Classical.byContradiction fun k => V3.sm_ne hd k ?_
  rw [q,h]; apply V3.ext'; simp only [V3.sm,V3.ad,V3.no]; refine ⟨?_,?_,?_⟩ <;> grind
 ·intro h
  rw [h]; apply V3.ext'; simp only [V3.mv,V3.dt,V3.no]; refine ⟨?_,?_,?_⟩ <;> grind
theorem V3.cr_mv (a b c u v : V3) : (V3.mv a b c u).cr (V3.mv a b c v)=V3.mv (b.cr c) (c.cr a) (a.cr b) (u.cr v) := by
 apply V3.ext'; simp only [V3.mv,V3.dt,V3.cr]; refine ⟨?_,?_,?_⟩ <;> grind
theorem V3.dm_cf (a b c : V3) : V3.dm (b.cr c) (c.cr a) (a.cr b)=V3.dm a b c*V3.dm a b c := by
 simp only [V3.dm,V3.dt,V3.cr]; grind
theorem V3.cf_ne {a b c : V3} (hd : V3.dm a b c ≠ 0) : V3.dm (b.cr c) (c.cr a) (a.cr b) ≠ 0 := by
 rw [V3.dm_cf]; exact mul_ne hd hd
theorem V3.mv_dt (a b c u l : V3) : (V3.mv a b c u).dt (V3.mv (b.cr c) (c.cr a) (a.cr b) l)=V3.dm a b c*u.dt l := by
 simp only [V3.mv,V3.dm,V3.dt,V3.cr]; grind
theorem V3.mv_su (a b c u v : V3) (k n : Rat) : V3.mv a b c ((u.sm k).ad (v.sm n))=((V3.mv a b c u).sm k).ad ((V3.mv a b c v).sm n) := by
 apply V3.ext'; simp only [V3.mv,V3.dt,V3.sm,V3.ad]; refine ⟨?_,?_,?_⟩ <;> grind
theorem pk_cr {a b c u v s t : V3} (hd : V3.dm a b c ≠ 0) (h : V3.Pr s (V3.mv a b c u)) (k : V3.Pr t (V3.mv a b c v)) : u.cr v=.no ↔ s.cr t=.no := by
 rw [(h.cr k).no_iff,V3.cr_mv,V3.mv_ne (V3.cf_ne hd)]
theorem pk_on {a b A B C : V3} {k n : Rat} (h : V3.Pr A a) (j : V3.Pr B b) (l : V3.Pr C ((a.sm k).ad (b.sm n))) : C.dt (A.cr B)=0 := by
 rw [l.dt (h.cr j)]; simp only [V3.dt,V3.cr,V3.sm,V3.ad]; grind
theorem pk_k {a b B C : V3} {k n : Rat} (hb : V3.Pr B b) (hc : V3.Pr C ((a.sm k).ad (b.sm n))) (h : B.cr C ≠ .no) : k ≠ 0 := by
 intro e
 apply h
 rw [(hb.cr hc).no_iff,e]; apply V3.ext'; simp only [V3.cr,V3.sm,V3.ad,V3.no]; refine ⟨?_,?_,?_⟩ <;> grind
theorem pk_n {a b A D : V3} {k n : Rat} (ha : V3.Pr A a) (hc : V3.Pr D ((a.sm k).ad (b.sm n))) (h : A.cr D ≠ .no) : n ≠ 0 := by
 intro e
 apply h
 rw [(ha.cr hc).no_iff,e]; apply V3.ext'; simp only [V3.cr,V3.sm,V3.ad,V3.no]; refine ⟨?_,?_,?_⟩ <;> grind
theorem pk_im {a b r s t S C : V3} {k n : Rat} (h : V3.Pr S (V3.mv r s t C)) (j : V3.Pr C ((a.sm k).ad (b.sm n))) : V3.Pr S (((V3.mv r s t a).sm k).ad ((V3.mv r s t b).sm n)) := by
 have q := h.trans (V3.Pr.mv r s t j)
 rw [V3.mv_su] at q
 exact q
theorem pk_ra {a b A B C D : V3} {k n l m : Rat} (ha : V3.Pr A a) (hb : V3.Pr B b) (hc : V3.Pr C ((a.sm k).ad (b.sm n))) (hd : V3.Pr D ((a.sm l).ad (b.sm m))) (hx : A.cr B ≠ .no) (hk : k ≠ 0) (hm : m ≠ 0) : ((A.cr C).dt (A.cr B) / (C.cr B).dt (A.cr B))*((D.cr B).dt (A.cr B) / (A.cr D).dt (A.cr B))=n*l / (k*m) := by
 obtain ⟨α,hα,ea⟩ := ha
 obtain ⟨β,hβ,eb⟩ := hb
 obtain ⟨γ,hγ,ec⟩ := hc
 obtain ⟨δ,hδ,ed⟩ := hd
 have hs : (A.cr B).dt (A.cr B) ≠ 0 := by
  intro h
  apply hx
  have q := V3.sq3 (x := (A.cr B).x) (y := (A.cr B).y) (z := (A.cr B).z) rfl rfl rfl rfl rfl
  exact q.1 h
 have w1 : (A.cr C).dt (A.cr B)*β=n*γ*(A.cr B).dt (A.cr B) := by
  rw [ea,eb,ec]; simp only [V3.dt,V3.cr,V3.sm,V3.ad]; grind
 have w2 : (C.cr B).dt (A.cr B)*α=k*γ*(A.cr B).dt (A.cr B) := by
  rw [ea,eb,ec]; simp only [V3.dt,V3.cr,V3.sm,V3.ad]; grind
 have w3 : (D.cr B).dt (A.cr B)*α=l*δ*(A.cr B).dt (A.cr B) := by
  rw [ea,eb,ed]; simp only [V3.dt,V3.cr,V3.sm,V3.ad]; grind
 have w4 : (A.cr D).dt (A.cr B)*β=m*δ*(A.cr B).dt (A.cr B) := by
  rw [ea,eb,ed]; simp only [V3.dt,V3.cr,V3.sm,V3.ad]; grind
 generalize (A.cr B).dt (A.cr B)=S at *
 generalize (A.cr C).dt (A.cr B)=T at *
 generalize (C.cr B).dt (A.cr B)=U at *
 generalize (D.cr B).dt (A.cr B)=V at *
 generalize (A.cr D).dt (A.cr B)=W at *
 clear ea eb ec ed hx
 have hU : U ≠ 0 := by
  intro h; rw [h,Rat.zero_mul] at w2
  exact mul_ne (mul_ne hk hγ) hs w2.symm
 have hW : W ≠ 0 := by
  intro h; rw [h,Rat.zero_mul] at w4
  exact mul_ne (mul_ne hm hδ) hs w4.symm
 have hkm := mul_ne hk hm
 have q : (T / U*(V / W) - n*l / (k*m))*(U*W*(k*m))=0 := by
  have r : (T / U*(V / W) - n*l / (k*m))*(U*W*(k*m))=(T / U*U)*(V / W*W)*(k*m) - (n*l / (k*m)*(k*m))*(U*W) := by clear w1 w2 w3 w4; grind
  rw [r,Rat.div_mul_cancel hU,Rat.div_mul_cancel hW,Rat.div_mul_cancel hkm]
  have r2 : (T*V*(k*m) - n*l*(U*W))*(α*β)=0 := by
   have r3 : (T*V*(k*m) - n*l*(U*W))*(α*β)=(T*β)*(V*α)*(k*m) - n*l*((U*α)*(W*β)) := by clear w1 w2 w3 w4 r; grind
   rw [r3,w1,w2,w3,w4]; clear w1 w2 w3 w4 r r3; grind
  exact (Rat.mul_eq_zero.1 r2).resolve_right (mul_ne hα hβ)
 have q2 := (Rat.mul_eq_zero.1 q).resolve_right (mul_ne (mul_ne hU hW) hkm)
 clear q w1 w2 w3 w4; grind
theorem pk_li {a b c A L S M : V3} (hd : V3.dm a b c ≠ 0) (h : V3.Pr S (V3.mv a b c A)) (k : V3.Pr M (V3.mv (b.cr c) (c.cr a) (a.cr b) L)) : A.dt L=0 ↔ S.dt M=0 := by
 rw [h.dt k,V3.mv_dt]
 exact ⟨fun e => by rw [e,Rat.mul_zero],fun e => (Rat.mul_eq_zero.1 e).resolve_left hd⟩
theorem neg_ne {a : Rat} (h : a ≠ 0) : -a ≠ 0 := by
 intro q
 apply h
 grind
def V3.sb (u v : V3) : V3 := ⟨u.x - v.x,u.y - v.y,u.z - v.z⟩
theorem V3.cr_cr (a b c d : V3) : (a.cr b).cr (c.cr d)=(c.sm (V3.dm a b d)).sb (d.sm (V3.dm a b c)) := by
 apply V3.ext'; simp only [V3.cr,V3.sm,V3.sb,V3.dm,V3.dt]; refine ⟨?_,?_,?_⟩ <;> grind
theorem V3.cramer (a b c d : V3) : d.sm (V3.dm a b c)=((a.sm (V3.dm b c d)).ad (b.sm (V3.dm c a d))).ad (c.sm (V3.dm a b d)) := by
 apply V3.ext'; simp only [V3.cr,V3.sm,V3.ad,V3.dm,V3.dt]; refine ⟨?_,?_,?_⟩ <;> grind
theorem st_x {a b c d : V3} {D α β γ : Rat} (hD : V3.dm a b c=D) (hα : V3.dm b c d=α) (hβ : V3.dm c a d=β) (hγ : V3.dm a b d=γ) : (a.cr b).cr (c.cr d)=((a.sm α).ad (b.sm β)).sm (-1) := by
 have h := V3.cramer a b c d
 rw [hD,hα,hβ,hγ] at h
 rw [V3.cr_cr,hD,hγ,h]
 apply V3.ext'; simp only [V3.sm,V3.ad,V3.sb]; refine ⟨?_,?_,?_⟩ <;> grind
theorem V3.dm_sw (a b c : V3) : V3.dm a c b=-V3.dm a b c := by
 simp only [V3.dm,V3.dt,V3.cr]; grind
theorem st_y {a b c d : V3} {D α β γ : Rat} (hD : V3.dm a b c=D) (hα : V3.dm b c d=α) (hβ : V3.dm c a d=β) (hγ : V3.dm a b d=γ) : (a.cr c).cr (b.cr d)=(a.sm α).ad (c.sm γ) := by
 have h := V3.cramer a b c d
 rw [hD,hα,hβ,hγ] at h
 have k1 : V3.dm a c d=-β := by rw [← hβ]; simp only [V3.dm,V3.dt,V3.cr]; grind
 rw [V3.cr_cr,V3.dm_sw a b c,hD,k1]
 have k2 : d.sm (-D)=(d.sm D).sm (-1) := by apply V3.ext'; simp only [V3.sm]; refine ⟨?_,?_,?_⟩ <;> grind
 rw [k2,h]
 apply V3.ext'; simp only [V3.sm,V3.ad,V3.sb]; refine ⟨?_,?_,?_⟩ <;> grind
theorem V3.cr_sm (u v : V3) (k : Rat) : u.cr (v.sm k)=(u.cr v).sm k := by
 apply V3.ext'; simp only [V3.cr,V3.sm]; refine ⟨?_,?_,?_⟩ <;> grind
theorem V3.sm_c {u v : V3} {k : Rat} (hk : k ≠ 0) (h : u.sm k=v.sm k) : u=v := by
 have e1 := congrArg V3.x h
 have e2 := congrArg V3.y h
 have e3 := congrArg V3.z h
 simp only [V3.sm] at e1 e2 e3
 have f : ∀ {a b : Rat},a*k=b*k→a=b := by
  intro a b h
  have q : (a - b)*k=0 := by grind
  have := (Rat.mul_eq_zero.1 q).resolve_right hk
  grind
 exact V3.ext' ⟨f e1,f e2,f e3⟩
theorem st_xy {a b c : V3} {α β γ : Rat} : ((a.sm α).ad (b.sm β)).cr ((a.sm α).ad (c.sm γ))=(((a.cr c).sm (α*γ)).ad ((b.cr a).sm (β*α))).ad ((b.cr c).sm (β*γ)) := by
 apply V3.ext'; simp only [V3.cr,V3.sm,V3.ad]; refine ⟨?_,?_,?_⟩ <;> grind
theorem st_u {a b c d X Y : V3} {D α β γ : Rat} (hD : V3.dm a b c=D) (hd : d.sm D=((a.sm α).ad (b.sm β)).ad (c.sm γ)) (h0 : D ≠ 0) (hX : X=(a.sm α).ad (b.sm β)) (hY : Y=(a.sm α).ad (c.sm γ)) : (X.cr Y).cr (a.cr d)=(X.ad Y).sm (-(β*γ)) := by
 refine V3.sm_c h0 ?_
 rw [← V3.cr_sm,← V3.cr_sm,hd,← hD,hX,hY]
 clear hd hD h0 hX hY
 apply V3.ext'; simp only [V3.cr,V3.sm,V3.ad,V3.dm,V3.dt]; refine ⟨?_,?_,?_⟩ <;> grind
theorem st_v {a b c X Y : V3} {D α β γ : Rat} (hD : V3.dm a b c=D) (hX : X=(a.sm α).ad (b.sm β)) (hY : Y=(a.sm α).ad (c.sm γ)) : (X.cr Y).cr (b.cr c)=(X.sb Y).sm (-(α*D)) := by
 rw [← hD,hX,hY]
 clear hD hX hY
 apply V3.ext'; simp only [V3.cr,V3.sm,V3.ad,V3.sb,V3.dm,V3.dt]; refine ⟨?_,?_,?_⟩ <;> grind
theorem st_ne {a b c X Y : V3} {D α β γ : Rat} (hD : V3.dm a b c=D) (h0 : D ≠ 0) (hα : α ≠ 0) (hβ : β ≠ 0) (hX : X=(a.sm α).ad (b.sm β)) (hY : Y=(a.sm α).ad (c.sm γ)) : X.cr Y ≠ .no := by
 intro h
 have k : c.dt (X.cr Y)=-(α*β*D) := by rw [← hD,hX,hY]; clear h hD h0 hα hβ hX hY; simp only [V3.cr,V3.sm,V3.ad,V3.dm,V3.dt]; grind
 rw [h] at k
 have z : c.dt V3.no=0 := by simp only [V3.dt,V3.no]; grind
 rw [z] at k
 have := mul_ne (mul_ne hα hβ) h0
 grind
theorem st_h {X Y x y u : V3} (hx : V3.Pr x X) (hy : V3.Pr y Y) (hu : V3.Pr u (X.ad Y)) (hn : X.cr Y ≠ .no) : V3.Pr ((x.sm ((u.cr y).dt (x.cr y))).ad (y.sm (-((x.cr u).dt (x.cr y))))) (X.sb Y) := by
 obtain ⟨ξ,h1,ex⟩ := hx
 obtain ⟨η,h2,ey⟩ := hy
 obtain ⟨g,h3,eu⟩ := hu
 have hs : (X.cr Y).dt (X.cr Y) ≠ 0 := by
  intro h
  apply hn
  exact (V3.sq3 (x := (X.cr Y).x) (y := (X.cr Y).y) (z := (X.cr Y).z) rfl rfl rfl rfl rfl).1 h
 refine ⟨g*ξ*η*(ξ*η)*(X.cr Y).dt (X.cr Y),mul_ne (mul_ne (mul_ne (mul_ne h3 h1) h2) (mul_ne h1 h2)) hs,?_⟩
 have c1 : u.cr y=(X.cr Y).sm (g*η) := by rw [eu,ey]; apply V3.ext'; simp only [V3.cr,V3.sm,V3.ad]; refine ⟨?_,?_,?_⟩ <;> grind
 have c2 : x.cr y=(X.cr Y).sm (ξ*η) := by rw [ex,ey]; apply V3.ext'; simp only [V3.cr,V3.sm]; refine ⟨?_,?_,?_⟩ <;> grind
 have c3 : x.cr u=(X.cr Y).sm (ξ*g) := by rw [ex,eu]; apply V3.ext'; simp only [V3.cr,V3.sm,V3.ad]; refine ⟨?_,?_,?_⟩ <;> grind
 rw [c1,c2,c3,ex,ey]
 generalize X.cr Y=Z
 apply V3.ext'; simp only [V3.sm,V3.ad,V3.sb,V3.dt]; refine ⟨?_,?_,?_⟩ <;> grind
theorem st_cu {X Y x u : V3} (hx : V3.Pr x X) (hu : V3.Pr u (X.ad Y)) : V3.Pr (x.cr u) (X.cr Y) := by
 have h := hx.cr hu
 have q : X.cr (X.ad Y)=X.cr Y := by apply V3.ext'; simp only [V3.cr,V3.ad]; refine ⟨?_,?_,?_⟩ <;> grind
 rw [q] at h; exact h
theorem st_cv {X Y y u : V3} (hy : V3.Pr y Y) (hu : V3.Pr u (X.ad Y)) : V3.Pr (y.cr u) (X.cr Y) := by
 have h := hy.cr hu
 obtain ⟨g,hg,e⟩ := h
 refine ⟨-g,by intro q; apply hg; grind,?_⟩
 rw [e]; apply V3.ext'; simp only [V3.cr,V3.ad,V3.sm]; refine ⟨?_,?_,?_⟩ <;> grind
theorem st_on {X Y x y u : V3} (hx : V3.Pr x X) (hy : V3.Pr y Y) (hu : V3.Pr u (X.ad Y)) : u.dt (x.cr y)=0 := by
 rw [hu.dt (hx.cr hy)]; simp only [V3.dt,V3.cr,V3.ad]; grind
theorem V3.dm_cy (a b c : V3) : (a.cr b).dt c=V3.dm a b c := by
 simp only [V3.dm,V3.dt,V3.cr]; grind
theorem V3.dm_no {a b c : V3} (h : V3.dm a b c ≠ 0) : a.cr b ≠ .no∧b.cr c ≠ .no∧a.cr c ≠ .no := by
 refine ⟨fun e => h ?_,fun e => h ?_,fun e => h ?_⟩
 ·rw [← V3.dm_cy,e]; simp only [V3.dt,V3.no]; grind
 ·unfold V3.dm; rw [e]; simp only [V3.dt,V3.no]; grind
 ·have q : V3.dm a b c=-(b.dt (a.cr c)) := by simp only [V3.dm,V3.dt,V3.cr]; grind
  rw [q,e]; simp only [V3.dt,V3.no]; grind
theorem V3.Pr.un {u v : V3} {k : Rat} (hk : k ≠ 0) (h : V3.Pr u (v.sm k)) : V3.Pr u v := by
 obtain ⟨g,hg,e⟩ := h
 exact ⟨k*g,mul_ne hk hg,by rw [e,V3.sm_sm]⟩
theorem V3.Pr.sym {u v : V3} (h : V3.Pr u v) : V3.Pr v u := by
 obtain ⟨g,hg,e⟩ := h
 refine ⟨g⁻¹,fun q => ?_,?_⟩
 ·have := Rat.mul_inv_cancel _ hg; rw [q,Rat.mul_zero] at this; exact absurd this (by decide)
 ·rw [e,V3.sm_sm,Rat.mul_inv_cancel _ hg]; apply V3.ext'; simp only [V3.sm]; refine ⟨?_,?_,?_⟩ <;> grind
theorem V3.cr_no {u v : V3} (h : u.cr v ≠ .no) : u ≠ .no∧v ≠ .no := by
 refine ⟨fun e => h ?_,fun e => h ?_⟩ <;> (rw [e]; apply V3.ext'; simp only [V3.cr,V3.no]; refine ⟨?_,?_,?_⟩ <;> grind)
theorem st_ad {X Y : V3} (h : X.cr Y ≠ .no) : X.ad Y ≠ .no∧X.sb Y ≠ .no := by
 refine ⟨fun e => h ?_,fun e => h ?_⟩
 ·have q : X.cr Y=X.cr (X.ad Y) := by apply V3.ext'; simp only [V3.cr,V3.ad]; refine ⟨?_,?_,?_⟩ <;> grind
  rw [q,e]; apply V3.ext'; simp only [V3.cr,V3.no]; refine ⟨?_,?_,?_⟩ <;> grind
 ·have q : X.cr Y=(X.sb Y).cr X := by apply V3.ext'; simp only [V3.cr,V3.sb]; refine ⟨?_,?_,?_⟩ <;> grind
  rw [q,e]; apply V3.ext'; simp only [V3.cr,V3.no]; refine ⟨?_,?_,?_⟩ <;> grind
theorem V3.pf_eq {a b c x y z : Rat} (h : V3.Pr ⟨a,b,c⟩ ⟨x,y,z⟩) (hn : (⟨x,y,z⟩ : V3) ≠ .no) : a*fac [a,b,c]=x*fac [x,y,z]∧b*fac [a,b,c]=y*fac [x,y,z]∧c*fac [a,b,c]=z*fac [x,y,z] := by
 obtain ⟨g,hg,e⟩ := h
 have e1 : a=g*x := (congrArg V3.x e).trans (Rat.mul_comm _ _)
 have e2 : b=g*y := (congrArg V3.y e).trans (Rat.mul_comm _ _)
 have e3 : c=g*z := (congrArg V3.z e).trans (Rat.mul_comm _ _)
 have hs : g*fac [g*x,g*y,g*z]=fac [x,y,z] := by
  by_cases hx : x=0
  ·by_cases hy : y=0
   ·by_cases hz : z=0
    ·exact absurd (V3.no_iff.2 ⟨hx,hy,hz⟩) hn
    ·exact fac_scale (qs := [x,y,z]) (q0 := z) (by simp) hz hg
   ·exact fac_scale (qs := [x,y,z]) (q0 := y) (by simp) hy hg
  ·exact fac_scale (qs := [x,y,z]) (q0 := x) (by simp) hx hg
 rw [e1,e2,e3,← hs]
 refine ⟨?_,?_,?_⟩ <;> grind
theorem V3.mk_sn {a b c d e f s t t' x y z m1 m2 m3 m4 m5 m6 : Rat} (hx : x=m1+m2) (hy : y=m3+m4) (hz : z=m5+m6) (h1 : m1=a*s) (h2 : m2=d*t') (h3 : m3=b*s) (h4 : m4=e*t') (h5 : m5=c*s) (h6 : m6=f*t') (ht : t'=-t) : (⟨x,y,z⟩ : V3)=(V3.sm ⟨a,b,c⟩ s).ad (V3.sm ⟨d,e,f⟩ (-t)) := by
 subst_vars; rfl
theorem V3.Pr.of {u v : V3} (h : u=v) : V3.Pr u v := by rw [h]; exact V3.Pr.rfl' v
theorem fac9_y {a b c d e f g h i : Rat} (z : fac [a,b,c,d,e,f,g,h,i]=0) : (((((((a=0∧b=0)∧c=0)∧d=0)∧e=0)∧f=0)∧g=0)∧h=0)∧i=0 :=
 ⟨⟨⟨⟨⟨⟨⟨⟨fac_zero (by simp) z,fac_zero (by simp) z⟩,fac_zero (by simp) z⟩,fac_zero (by simp) z⟩,fac_zero (by simp) z⟩,fac_zero (by simp) z⟩,fac_zero (by simp) z⟩,fac_zero (by simp) z⟩,fac_zero (by simp) z⟩
theorem V3.mk_det {a b c d e f g h i x p1 p2 p3 p4 n m1 m2 m3 k1 k2 k3 k4 k5 k6 : Rat} (hx : x=p4+p3) (h4 : p4=p1+n) (hn : n=-p2) (h1 : p1=a*m1) (h2 : p2=b*m2) (h3 : p3=c*m3) (e1 : m1=k1 - k2) (e2 : m2=k3 - k4) (e3 : m3=k5 - k6) (f1 : k1=e*i) (f2 : k2=f*h) (f3 : k3=d*i) (f4 : k4=f*g) (f5 : k5=d*h) (f6 : k6=e*g) : x=V3.dm ⟨a,b,c⟩ ⟨d,e,f⟩ ⟨g,h,i⟩ := by
 subst_vars; simp only [V3.dm,V3.dt,V3.cr]; grind
theorem V3.mk_d3 {a b c d e f n p q s t : Rat} (hn : n=p+q) (hp : p=s+t) (hs : s=a*d) (ht : t=b*e) (hq : q=c*f) : n=V3.dt ⟨a,b,c⟩ ⟨d,e,f⟩ := by
 subst_vars; rfl
theorem V3.Pr.dm {a b c A B C : V3} (h : V3.Pr A a) (j : V3.Pr B b) (l : V3.Pr C c) : V3.dm A B C=0 ↔ V3.dm a b c=0 := h.dt (j.cr l)
theorem V3.dm_rot (a b c : V3) : V3.dm b c a=V3.dm a b c := by
 simp only [V3.dm,V3.dt,V3.cr]; grind
theorem V3.dm_n1 (b c : V3) : V3.dm .no b c=0 := by
 simp only [V3.dm,V3.dt,V3.no]; grind
theorem V3.dm_n2 (b c : V3) : V3.dm b .no c=0 := by
 simp only [V3.dm,V3.dt,V3.cr,V3.no]; grind
theorem V3.dm_n3 (b c : V3) : V3.dm b c .no=0 := by
 simp only [V3.dm,V3.dt,V3.cr,V3.no]; grind
theorem V3.dm_mv (a b c u v w : V3) : V3.dm (V3.mv a b c u) (V3.mv a b c v) (V3.mv a b c w)=V3.dm a b c*V3.dm u v w := by
 unfold V3.dm; rw [V3.cr_mv,V3.mv_dt]; rfl
theorem V3.dm_tr (a b c : V3) : V3.dm ⟨a.x,b.x,c.x⟩ ⟨a.y,b.y,c.y⟩ ⟨a.z,b.z,c.z⟩=V3.dm a b c := by
 simp only [V3.dm,V3.dt,V3.cr]; grind
theorem V3.dm_sm (a b c : V3) (k l m : Rat) : V3.dm (a.sm k) (b.sm l) (c.sm m)=k*l*m*V3.dm a b c := by
 simp only [V3.dm,V3.dt,V3.cr,V3.sm]; grind
def V3.rw3 (F0 F1 F2 k : V3) : V3 := V3.mv (V3.cr ⟨F0.y,F1.y,F2.y⟩ ⟨F0.z,F1.z,F2.z⟩) (V3.cr ⟨F0.z,F1.z,F2.z⟩ ⟨F0.x,F1.x,F2.x⟩) (V3.cr ⟨F0.x,F1.x,F2.x⟩ ⟨F0.y,F1.y,F2.y⟩) k
theorem pf_dm (F0 F1 F2 G0 G1 G2 : V3) : V3.dm (V3.rw3 F0 F1 F2 ⟨G0.x,G1.x,G2.x⟩) (V3.rw3 F0 F1 F2 ⟨G0.y,G1.y,G2.y⟩) (V3.rw3 F0 F1 F2 ⟨G0.z,G1.z,G2.z⟩)=V3.dm F0 F1 F2*V3.dm F0 F1 F2*V3.dm G0 G1 G2 := by
 unfold V3.rw3
 rw [V3.dm_mv,V3.dm_cf,V3.dm_tr,V3.dm_tr]
theorem pf_mv (F0 F1 F2 G0 G1 G2 u : V3) (g : Rat) : V3.mv ((V3.rw3 F0 F1 F2 ⟨G0.x,G1.x,G2.x⟩).sm g) ((V3.rw3 F0 F1 F2 ⟨G0.y,G1.y,G2.y⟩).sm g) ((V3.rw3 F0 F1 F2 ⟨G0.z,G1.z,G2.z⟩).sm g) u=(((G0.sm ((F1.cr F2).dt u)).ad (G1.sm ((F2.cr F0).dt u))).ad (G2.sm ((F0.cr F1).dt u))).sm g := by
 apply V3.ext'; simp only [V3.mv,V3.rw3,V3.dt,V3.cr,V3.sm,V3.ad]; refine ⟨?_,?_,?_⟩ <;> grind
theorem pf_z1 (u v : V3) (k : Rat) : (u.cr (v.sm k)).dt v=0∧((v.sm k).cr u).dt v=0 := by
 simp only [V3.cr,V3.sm,V3.dt]; constructor <;> grind
theorem V3.sm_0 (u : V3) : u.sm 0=.no := by
 apply V3.ext'; simp only [V3.sm,V3.no]; refine ⟨?_,?_,?_⟩ <;> grind
theorem V3.ad_n (u : V3) : u.ad .no=u∧V3.ad .no u=u := by
 constructor <;> (apply V3.ext'; simp only [V3.ad,V3.no]; refine ⟨?_,?_,?_⟩ <;> grind)
theorem pf_i0 {A0 F0 F1 F2 G0 G1 G2 : V3} {w : Rat} (h : F0=A0.sm w) (g : Rat) : (((G0.sm ((F1.cr F2).dt A0)).ad (G1.sm ((F2.cr F0).dt A0))).ad (G2.sm ((F0.cr F1).dt A0))).sm g=G0.sm ((F1.cr F2).dt A0*g) := by
 rw [h,(pf_z1 F2 A0 w).1,(pf_z1 F1 A0 w).2,V3.sm_0,V3.sm_0,(V3.ad_n _).1,(V3.ad_n _).1,V3.sm_sm]
theorem pf_i1 {A0 F0 F1 F2 G0 G1 G2 : V3} {w : Rat} (h : F1=A0.sm w) (g : Rat) : (((G0.sm ((F1.cr F2).dt A0)).ad (G1.sm ((F2.cr F0).dt A0))).ad (G2.sm ((F0.cr F1).dt A0))).sm g=G1.sm ((F2.cr F0).dt A0*g) := by
 rw [h,(pf_z1 F0 A0 w).1,(pf_z1 F2 A0 w).2,V3.sm_0,V3.sm_0,(V3.ad_n _).2,(V3.ad_n _).1,V3.sm_sm]
theorem pf_i2 {A0 F0 F1 F2 G0 G1 G2 : V3} {w : Rat} (h : F2=A0.sm w) (g : Rat) : (((G0.sm ((F1.cr F2).dt A0)).ad (G1.sm ((F2.cr F0).dt A0))).ad (G2.sm ((F0.cr F1).dt A0))).sm g=G2.sm ((F0.cr F1).dt A0*g) := by
 rw [h,(pf_z1 F1 A0 w).1,(pf_z1 F0 A0 w).2,V3.sm_0,V3.sm_0,(V3.ad_n _).1,(V3.ad_n _).2,V3.sm_sm]
theorem pf_i3 {A0 A1 A2 A3 B0 B1 B2 B3 F0 F1 F2 G0 G1 G2 : V3} (h0 : F0=A0.sm (V3.dm A1 A2 A3)) (h1 : F1=A1.sm (V3.dm A2 A0 A3)) (h2 : F2=A2.sm (V3.dm A0 A1 A3)) (k0 : G0=B0.sm (V3.dm B1 B2 B3)) (k1 : G1=B1.sm (V3.dm B2 B0 B3)) (k2 : G2=B2.sm (V3.dm B0 B1 B3)) (g : Rat) : (((G0.sm ((F1.cr F2).dt A3)).ad (G1.sm ((F2.cr F0).dt A3))).ad (G2.sm ((F0.cr F1).dt A3))).sm g=B3.sm (V3.dm B0 B1 B2*(V3.dm A1 A2 A3*V3.dm A2 A0 A3*V3.dm A0 A1 A3)*g) := by
 have e : ∀ u v : V3,∀ k l : Rat,((u.sm k).cr (v.sm l)).dt A3=k*l*V3.dm u v A3 := by
  intro u v k l; simp only [V3.cr,V3.sm,V3.dm,V3.dt]; grind
 have c := V3.cramer B0 B1 B2 B3
 have c2 : B3.sm (V3.dm B0 B1 B2*(V3.dm A1 A2 A3*V3.dm A2 A0 A3*V3.dm A0 A1 A3)*g)=(B3.sm (V3.dm B0 B1 B2)).sm ((V3.dm A1 A2 A3*V3.dm A2 A0 A3*V3.dm A0 A1 A3)*g) := by rw [V3.sm_sm,Rat.mul_assoc]
 rw [h0,h1,h2,e,e,e,c2,c,← k0,← k1,← k2]
 generalize V3.dm A1 A2 A3=p
 generalize V3.dm A2 A0 A3=r
 generalize V3.dm A0 A1 A3=s
 apply V3.ext'; simp only [V3.sm,V3.ad]; refine ⟨?_,?_,?_⟩ <;> grind
theorem pf_al {u b B A a : V3} {k : Rat} {r0 r1 r2 : V3} (hb : V3.Pr B b) (ha : V3.Pr A a) (h : V3.mv r0 r1 r2 A=B.sm k) (hu : u=V3.mv r0 r1 r2 a) : u.cr b=.no := by
 obtain ⟨m,hm,e⟩ := hb
 obtain ⟨n,hn,f⟩ := ha
 have q : (V3.mv r0 r1 r2 a).sm n=b.sm (m*k) := by
  rw [← V3.sm_sm,← e,← h,f]; apply V3.ext'; simp only [V3.mv,V3.sm,V3.dt]; refine ⟨?_,?_,?_⟩ <;> grind
 have q2 : (u.cr b).sm n=V3.no := by
  have q3 : (u.cr b).sm n=(u.sm n).cr b := by apply V3.ext'; simp only [V3.cr,V3.sm]; refine ⟨?_,?_,?_⟩ <;> grind
  rw [q3,hu,q]; apply V3.ext'; simp only [V3.cr,V3.sm,V3.no]; refine ⟨?_,?_,?_⟩ <;> grind
 refine Classical.byContradiction fun z => V3.sm_ne hn z q2
theorem pf_sh {a b c d e f x y z m1 m2 m3 m4 m5 m6 : Rat} (h : V3.cr ⟨a,b,c⟩ ⟨d,e,f⟩=.no) (hx : x=m1 - m2) (hy : y=m3 - m4) (hz : z=m5 - m6) (h1 : m1=b*d) (h2 : m2=a*e) (h3 : m3=c*d) (h4 : m4=a*f) (h5 : m5=c*e) (h6 : m6=b*f) : (⟨x,y,z⟩ : V3)=.no := by
 have e1 := congrArg V3.x h
 have e2 := congrArg V3.y h
 have e3 := congrArg V3.z h
 simp only [V3.cr,V3.no] at e1 e2 e3
 subst_vars
 apply V3.ext'; simp only [V3.no]; refine ⟨?_,?_,?_⟩ <;> grind
theorem V3.dm3_ne {r0 r1 r2 : V3} (h : V3.dm r0 r1 r2 ≠ 0) : ¬ (r0=.no) := fun e => h (by rw [e,V3.dm_n1])
theorem pf_s9 {a b c d e f g h i n1 n2 n3 n4 n5 n6 n7 n8 n9 t2 t3 t4 t5 t6 t7 t8 t9 : Rat} (h1 : n1=a*a) (h2 : n2=b*b) (k2 : t2=n1+n2) (h3 : n3=c*c) (k3 : t3=t2+n3) (h4 : n4=d*d) (k4 : t4=t3+n4) (h5 : n5=e*e) (k5 : t5=t4+n5) (h6 : n6=f*f) (k6 : t6=t5+n6) (h7 : n7=g*g) (k7 : t7=t6+n7) (h8 : n8=h*h) (k8 : t8=t7+n8) (h9 : n9=i*i) (k9 : t9=t8+n9) (z : t9=0) : (⟨a,b,c⟩ : V3)=.no := by
 have s1 := (sq_facts a).1
 have s2 := (sq_facts b).1
 have s3 := (sq_facts c).1
 have s4 := (sq_facts d).1
 have s5 := (sq_facts e).1
 have s6 := (sq_facts f).1
 have s7 := (sq_facts g).1
 have s8 := (sq_facts h).1
 have s9 := (sq_facts i).1
 rw [← h1] at s1
 rw [← h2] at s2
 rw [← h3] at s3
 rw [← h4] at s4
 rw [← h5] at s5
 rw [← h6] at s6
 rw [← h7] at s7
 rw [← h8] at s8
 rw [← h9] at s9
 have a1 : n1=0 := by clear h1 h2 h3 h4 h5 h6 h7 h8 h9; grind
 have a2 : n2=0 := by clear h1 h2 h3 h4 h5 h6 h7 h8 h9; grind
 have a3 : n3=0 := by clear h1 h2 h3 h4 h5 h6 h7 h8 h9; grind
 exact V3.no_iff.2 ⟨(sq_facts a).2.1 (h1.symm.trans a1),(sq_facts b).2.1 (h2.symm.trans a2),(sq_facts c).2.1 (h3.symm.trans a3)⟩
theorem V3.mk_sm {a b c k x y z : Rat} (hx : x=a*k) (hy : y=b*k) (hz : z=c*k) : (⟨x,y,z⟩ : V3)=V3.sm ⟨a,b,c⟩ k := by
 subst_vars; rfl
theorem pU_Z46x0 (H : pU_Q q σ) : (q 7=0)→(q 46=0) := by
 have e3:q 3=q 0*q 0:=H 3 _ rfl;have e4:q 4=q 1*q 1:=H 4 _ rfl;have e5:q 5=q 3+q 4:=H 5 _ rfl;have e6:q 6=q 2*q 2:=H 6 _ rfl;have e7:q 7=q 5+q 6:=H 7 _ rfl;have e32:q 32=q 15*q 2:=H 32 _ rfl;have e33:q 33=q 16*q 1:=H 33 _ rfl;have e34:q 34=q 32-q 33:=H 34 _ rfl;have e35:q 35=q 11*q 34:=H 35 _ rfl;have e36:q 36=q 14*q 2:=H 36 _ rfl;have e37:q 37=q 16*q 0:=H 37 _ rfl;have e38:q 38=q 36-q 37:=H 38 _ rfl;have e39:q 39=q 12*q 38:=H 39 _ rfl;have e40:q 40=-q 39:=H 40 _ rfl;have e41:q 41=q 14*q 1:=H 41 _ rfl;have e42:q 42=q 15*q 0:=H 42 _ rfl;have e43:q 43=q 41-q 42:=H 43 _ rfl;have e44:q 44=q 13*q 43:=H 44 _ rfl;have e45:q 45=q 35+q 40:=H 45 _ rfl;have e46:q 46=q 45+q 44:=H 46 _ rfl
 intro u
 have h := (V3.sq3 e3 e4 e5 e6 e7).1 u
 have k := (V3.mk_det e46 e45 e40 e35 e39 e44 e34 e38 e43 e32 e33 e36 e37 e41 e42)
 rw [h] at k
 exact k.trans (V3.dm_n3 _ _)
theorem pU_Z31x1 (H : pU_Q q σ) : (q 54=0)→(q 31=0) := by
 have e17:q 17=q 12*q 16:=H 17 _ rfl;have e18:q 18=q 13*q 15:=H 18 _ rfl;have e19:q 19=q 17-q 18:=H 19 _ rfl;have e20:q 20=q 8*q 19:=H 20 _ rfl;have e21:q 21=q 11*q 16:=H 21 _ rfl;have e22:q 22=q 13*q 14:=H 22 _ rfl;have e23:q 23=q 21-q 22:=H 23 _ rfl;have e24:q 24=q 9*q 23:=H 24 _ rfl;have e25:q 25=-q 24:=H 25 _ rfl;have e26:q 26=q 11*q 15:=H 26 _ rfl;have e27:q 27=q 12*q 14:=H 27 _ rfl;have e28:q 28=q 26-q 27:=H 28 _ rfl;have e29:q 29=q 10*q 28:=H 29 _ rfl;have e30:q 30=q 20+q 25:=H 30 _ rfl;have e31:q 31=q 30+q 29:=H 31 _ rfl;have e50:q 50=q 8*q 8:=H 50 _ rfl;have e51:q 51=q 9*q 9:=H 51 _ rfl;have e52:q 52=q 50+q 51:=H 52 _ rfl;have e53:q 53=q 10*q 10:=H 53 _ rfl;have e54:q 54=q 52+q 53:=H 54 _ rfl
 intro u
 have h := (V3.sq3 e50 e51 e52 e53 e54).1 u
 have k := (V3.mk_det e31 e30 e25 e20 e24 e29 e19 e23 e28 e17 e18 e21 e22 e26 e27)
 rw [h] at k
 exact k.trans (V3.dm_n1 _ _)
theorem pU_Z31x2 (H : pU_Q q σ) : (q 62=0)→(q 31=0) := by
 have e17:q 17=q 12*q 16:=H 17 _ rfl;have e18:q 18=q 13*q 15:=H 18 _ rfl;have e19:q 19=q 17-q 18:=H 19 _ rfl;have e20:q 20=q 8*q 19:=H 20 _ rfl;have e21:q 21=q 11*q 16:=H 21 _ rfl;have e22:q 22=q 13*q 14:=H 22 _ rfl;have e23:q 23=q 21-q 22:=H 23 _ rfl;have e24:q 24=q 9*q 23:=H 24 _ rfl;have e25:q 25=-q 24:=H 25 _ rfl;have e26:q 26=q 11*q 15:=H 26 _ rfl;have e27:q 27=q 12*q 14:=H 27 _ rfl;have e28:q 28=q 26-q 27:=H 28 _ rfl;have e29:q 29=q 10*q 28:=H 29 _ rfl;have e30:q 30=q 20+q 25:=H 30 _ rfl;have e31:q 31=q 30+q 29:=H 31 _ rfl;have e58:q 58=q 11*q 11:=H 58 _ rfl;have e59:q 59=q 12*q 12:=H 59 _ rfl;have e60:q 60=q 58+q 59:=H 60 _ rfl;have e61:q 61=q 13*q 13:=H 61 _ rfl;have e62:q 62=q 60+q 61:=H 62 _ rfl
 intro u
 have h := (V3.sq3 e58 e59 e60 e61 e62).1 u
 have k := (V3.mk_det e31 e30 e25 e20 e24 e29 e19 e23 e28 e17 e18 e21 e22 e26 e27)
 rw [h] at k
 exact k.trans (V3.dm_n2 _ _)
theorem pU_Z31x3 (H : pU_Q q σ) : (q 70=0)→(q 31=0) := by
 have e17:q 17=q 12*q 16:=H 17 _ rfl;have e18:q 18=q 13*q 15:=H 18 _ rfl;have e19:q 19=q 17-q 18:=H 19 _ rfl;have e20:q 20=q 8*q 19:=H 20 _ rfl;have e21:q 21=q 11*q 16:=H 21 _ rfl;have e22:q 22=q 13*q 14:=H 22 _ rfl;have e23:q 23=q 21-q 22:=H 23 _ rfl;have e24:q 24=q 9*q 23:=H 24 _ rfl;have e25:q 25=-q 24:=H 25 _ rfl;have e26:q 26=q 11*q 15:=H 26 _ rfl;have e27:q 27=q 12*q 14:=H 27 _ rfl;have e28:q 28=q 26-q 27:=H 28 _ rfl;have e29:q 29=q 10*q 28:=H 29 _ rfl;have e30:q 30=q 20+q 25:=H 30 _ rfl;have e31:q 31=q 30+q 29:=H 31 _ rfl;have e66:q 66=q 14*q 14:=H 66 _ rfl;have e67:q 67=q 15*q 15:=H 67 _ rfl;have e68:q 68=q 66+q 67:=H 68 _ rfl;have e69:q 69=q 16*q 16:=H 69 _ rfl;have e70:q 70=q 68+q 69:=H 70 _ rfl
 intro u
 have h := (V3.sq3 e66 e67 e68 e69 e70).1 u
 have k := (V3.mk_det e31 e30 e25 e20 e24 e29 e19 e23 e28 e17 e18 e21 e22 e26 e27)
 rw [h] at k
 exact k.trans (V3.dm_n3 _ _)
theorem pU_I119 (H : pU_Q q σ) : (¬ (q 7=0))→(¬ (q 54=0))→(¬ (q 62=0))→((¬ (q 89=0)→¬ (q 119=0))∧(q 89=0→q 119=0)) := by
 have e3:q 3=q 0*q 0:=H 3 _ rfl;have e4:q 4=q 1*q 1:=H 4 _ rfl;have e5:q 5=q 3+q 4:=H 5 _ rfl;have e6:q 6=q 2*q 2:=H 6 _ rfl;have e7:q 7=q 5+q 6:=H 7 _ rfl;have e47:q 47=q 0*fac [q 0,q 1,q 2]:=H 47 _ rfl;have e48:q 48=q 1*fac [q 0,q 1,q 2]:=H 48 _ rfl;have e49:q 49=q 2*fac [q 0,q 1,q 2]:=H 49 _ rfl;have e50:q 50=q 8*q 8:=H 50 _ rfl;have e51:q 51=q 9*q 9:=H 51 _ rfl;have e52:q 52=q 50+q 51:=H 52 _ rfl;have e53:q 53=q 10*q 10:=H 53 _ rfl;have e54:q 54=q 52+q 53:=H 54 _ rfl;have e55:q 55=q 8*fac [q 8,q 9,q 10]:=H 55 _ rfl;have e56:q 56=q 9*fac [q 8,q 9,q 10]:=H 56 _ rfl;have e57:q 57=q 10*fac [q 8,q 9,q 10]:=H 57 _ rfl;have e58:q 58=q 11*q 11:=H 58 _ rfl;have e59:q 59=q 12*q 12:=H 59 _ rfl;have e60:q 60=q 58+q 59:=H 60 _ rfl;have e61:q 61=q 13*q 13:=H 61 _ rfl;have e62:q 62=q 60+q 61:=H 62 _ rfl;have e63:q 63=q 11*fac [q 11,q 12,q 13]:=H 63 _ rfl;have e64:q 64=q 12*fac [q 11,q 12,q 13]:=H 64 _ rfl;have e65:q 65=q 13*fac [q 11,q 12,q 13]:=H 65 _ rfl;have e74:q 74=q 56*q 65:=H 74 _ rfl;have e75:q 75=q 57*q 64:=H 75 _ rfl;have e76:q 76=q 74-q 75:=H 76 _ rfl;have e77:q 77=q 57*q 63:=H 77 _ rfl;have e78:q 78=q 55*q 65:=H 78 _ rfl;have e79:q 79=q 77-q 78:=H 79 _ rfl;have e80:q 80=q 55*q 64:=H 80 _ rfl;have e81:q 81=q 56*q 63:=H 81 _ rfl;have e82:q 82=q 80-q 81:=H 82 _ rfl;have e83:q 83=q 47*q 76:=H 83 _ rfl;have e84:q 84=0:=(H 84 _ rfl).trans pU_c84;have e85:q 85=q 84+q 83:=H 85 _ rfl;have e86:q 86=q 48*q 79:=H 86 _ rfl;have e87:q 87=q 85+q 86:=H 87 _ rfl;have e88:q 88=q 49*q 82:=H 88 _ rfl;have e89:q 89=q 87+q 88:=H 89 _ rfl;have e105:q 105=q 9*q 13:=H 105 _ rfl;have e106:q 106=q 10*q 12:=H 106 _ rfl;have e107:q 107=q 105-q 106:=H 107 _ rfl;have e108:q 108=q 0*q 107:=H 108 _ rfl;have e109:q 109=q 8*q 13:=H 109 _ rfl;have e110:q 110=q 10*q 11:=H 110 _ rfl;have e111:q 111=q 109-q 110:=H 111 _ rfl;have e112:q 112=q 1*q 111:=H 112 _ rfl;have e113:q 113=-q 112:=H 113 _ rfl;have e114:q 114=q 8*q 12:=H 114 _ rfl;have e115:q 115=q 9*q 11:=H 115 _ rfl;have e116:q 116=q 114-q 115:=H 116 _ rfl;have e117:q 117=q 2*q 116:=H 117 _ rfl;have e118:q 118=q 108+q 113:=H 118 _ rfl;have e119:q 119=q 118+q 117:=H 119 _ rfl
 intro u0 u1 u2
 have p0 := V3.mk_pf (fun h => u0 ((V3.sq3 e3 e4 e5 e6 e7).2 h)) e47 e48 e49
 have p1 := V3.mk_pf (fun h => u1 ((V3.sq3 e50 e51 e52 e53 e54).2 h)) e55 e56 e57
 have p2 := V3.mk_pf (fun h => u2 ((V3.sq3 e58 e59 e60 e61 e62).2 h)) e63 e64 e65
 have h := V3.Pr.dm p0 p1 p2
 rw [← (show (q 89)=V3.dm (⟨q 47,q 48,q 49⟩ : V3) (⟨q 55,q 56,q 57⟩ : V3) (⟨q 63,q 64,q 65⟩ : V3) from (V3.mk_dt e84 e89 e87 e85 e83 e86 e88).trans (congrArg _ (V3.mk_cr e76 e79 e82 e74 e75 e77 e78 e80 e81)))] at h
 have k : q 119=V3.dm (⟨q 0,q 1,q 2⟩ : V3) (⟨q 8,q 9,q 10⟩ : V3) (⟨q 11,q 12,q 13⟩ : V3) := (V3.mk_det e119 e118 e113 e108 e112 e117 e107 e111 e116 e105 e106 e109 e110 e114 e115)
 have h2 : q 89=0 ↔ q 119=0 := by rw [h,k]
 exact ⟨fun a b => a (h2.2 b),h2.1⟩
theorem pU_I31 (H : pU_Q q σ) : (¬ (q 54=0))→(¬ (q 62=0))→(¬ (q 70=0))→((¬ (q 143=0)→¬ (q 31=0))∧(q 143=0→q 31=0)) := by
 have e17:q 17=q 12*q 16:=H 17 _ rfl;have e18:q 18=q 13*q 15:=H 18 _ rfl;have e19:q 19=q 17-q 18:=H 19 _ rfl;have e20:q 20=q 8*q 19:=H 20 _ rfl;have e21:q 21=q 11*q 16:=H 21 _ rfl;have e22:q 22=q 13*q 14:=H 22 _ rfl;have e23:q 23=q 21-q 22:=H 23 _ rfl;have e24:q 24=q 9*q 23:=H 24 _ rfl;have e25:q 25=-q 24:=H 25 _ rfl;have e26:q 26=q 11*q 15:=H 26 _ rfl;have e27:q 27=q 12*q 14:=H 27 _ rfl;have e28:q 28=q 26-q 27:=H 28 _ rfl;have e29:q 29=q 10*q 28:=H 29 _ rfl;have e30:q 30=q 20+q 25:=H 30 _ rfl;have e31:q 31=q 30+q 29:=H 31 _ rfl;have e50:q 50=q 8*q 8:=H 50 _ rfl;have e51:q 51=q 9*q 9:=H 51 _ rfl;have e52:q 52=q 50+q 51:=H 52 _ rfl;have e53:q 53=q 10*q 10:=H 53 _ rfl;have e54:q 54=q 52+q 53:=H 54 _ rfl;have e55:q 55=q 8*fac [q 8,q 9,q 10]:=H 55 _ rfl;have e56:q 56=q 9*fac [q 8,q 9,q 10]:=H 56 _ rfl;have e57:q 57=q 10*fac [q 8,q 9,q 10]:=H 57 _ rfl;have e58:q 58=q 11*q 11:=H 58 _ rfl;have e59:q 59=q 12*q 12:=H 59 _ rfl;have e60:q 60=q 58+q 59:=H 60 _ rfl;have e61:q 61=q 13*q 13:=H 61 _ rfl;have e62:q 62=q 60+q 61:=H 62 _ rfl;have e63:q 63=q 11*fac [q 11,q 12,q 13]:=H 63 _ rfl;have e64:q 64=q 12*fac [q 11,q 12,q 13]:=H 64 _ rfl;have e65:q 65=q 13*fac [q 11,q 12,q 13]:=H 65 _ rfl;have e66:q 66=q 14*q 14:=H 66 _ rfl;have e67:q 67=q 15*q 15:=H 67 _ rfl;have e68:q 68=q 66+q 67:=H 68 _ rfl;have e69:q 69=q 16*q 16:=H 69 _ rfl;have e70:q 70=q 68+q 69:=H 70 _ rfl;have e71:q 71=q 14*fac [q 14,q 15,q 16]:=H 71 _ rfl;have e72:q 72=q 15*fac [q 14,q 15,q 16]:=H 72 _ rfl;have e73:q 73=q 16*fac [q 14,q 15,q 16]:=H 73 _ rfl;have e74:q 74=q 56*q 65:=H 74 _ rfl;have e75:q 75=q 57*q 64:=H 75 _ rfl;have e76:q 76=q 74-q 75:=H 76 _ rfl;have e77:q 77=q 57*q 63:=H 77 _ rfl;have e78:q 78=q 55*q 65:=H 78 _ rfl;have e79:q 79=q 77-q 78:=H 79 _ rfl;have e80:q 80=q 55*q 64:=H 80 _ rfl;have e81:q 81=q 56*q 63:=H 81 _ rfl;have e82:q 82=q 80-q 81:=H 82 _ rfl;have e84:q 84=0:=(H 84 _ rfl).trans pU_c84;have e138:q 138=q 76*q 71:=H 138 _ rfl;have e139:q 139=q 84+q 138:=H 139 _ rfl;have e140:q 140=q 79*q 72:=H 140 _ rfl;have e141:q 141=q 139+q 140:=H 141 _ rfl;have e142:q 142=q 82*q 73:=H 142 _ rfl;have e143:q 143=q 141+q 142:=H 143 _ rfl
 intro u1 u2 u3
 have p1 := V3.mk_pf (fun h => u1 ((V3.sq3 e50 e51 e52 e53 e54).2 h)) e55 e56 e57
 have p2 := V3.mk_pf (fun h => u2 ((V3.sq3 e58 e59 e60 e61 e62).2 h)) e63 e64 e65
 have p3 := V3.mk_pf (fun h => u3 ((V3.sq3 e66 e67 e68 e69 e70).2 h)) e71 e72 e73
 have h := V3.Pr.dm p1 p2 p3
 rw [← ((V3.mk_dt e84 e143 e141 e139 e138 e140 e142).trans ((congrArg (fun v => V3.dt v _) (V3.mk_cr e76 e79 e82 e74 e75 e77 e78 e80 e81)).trans (V3.dm_cy _ _ _)))] at h
 have k : q 31=V3.dm (⟨q 8,q 9,q 10⟩ : V3) (⟨q 11,q 12,q 13⟩ : V3) (⟨q 14,q 15,q 16⟩ : V3) := (V3.mk_det e31 e30 e25 e20 e24 e29 e19 e23 e28 e17 e18 e21 e22 e26 e27)
 have h2 : q 143=0 ↔ q 31=0 := by rw [h,k]
 exact ⟨fun a b => a (h2.2 b),h2.1⟩
theorem pU_I46 (H : pU_Q q σ) : (¬ (q 62=0))→(¬ (q 7=0))→(¬ (q 70=0))→((¬ (q 149=0)→¬ (q 46=0))∧(q 149=0→q 46=0)) := by
 have e3:q 3=q 0*q 0:=H 3 _ rfl;have e4:q 4=q 1*q 1:=H 4 _ rfl;have e5:q 5=q 3+q 4:=H 5 _ rfl;have e6:q 6=q 2*q 2:=H 6 _ rfl;have e7:q 7=q 5+q 6:=H 7 _ rfl;have e32:q 32=q 15*q 2:=H 32 _ rfl;have e33:q 33=q 16*q 1:=H 33 _ rfl;have e34:q 34=q 32-q 33:=H 34 _ rfl;have e35:q 35=q 11*q 34:=H 35 _ rfl;have e36:q 36=q 14*q 2:=H 36 _ rfl;have e37:q 37=q 16*q 0:=H 37 _ rfl;have e38:q 38=q 36-q 37:=H 38 _ rfl;have e39:q 39=q 12*q 38:=H 39 _ rfl;have e40:q 40=-q 39:=H 40 _ rfl;have e41:q 41=q 14*q 1:=H 41 _ rfl;have e42:q 42=q 15*q 0:=H 42 _ rfl;have e43:q 43=q 41-q 42:=H 43 _ rfl;have e44:q 44=q 13*q 43:=H 44 _ rfl;have e45:q 45=q 35+q 40:=H 45 _ rfl;have e46:q 46=q 45+q 44:=H 46 _ rfl;have e47:q 47=q 0*fac [q 0,q 1,q 2]:=H 47 _ rfl;have e48:q 48=q 1*fac [q 0,q 1,q 2]:=H 48 _ rfl;have e49:q 49=q 2*fac [q 0,q 1,q 2]:=H 49 _ rfl;have e58:q 58=q 11*q 11:=H 58 _ rfl;have e59:q 59=q 12*q 12:=H 59 _ rfl;have e60:q 60=q 58+q 59:=H 60 _ rfl;have e61:q 61=q 13*q 13:=H 61 _ rfl;have e62:q 62=q 60+q 61:=H 62 _ rfl;have e63:q 63=q 11*fac [q 11,q 12,q 13]:=H 63 _ rfl;have e64:q 64=q 12*fac [q 11,q 12,q 13]:=H 64 _ rfl;have e65:q 65=q 13*fac [q 11,q 12,q 13]:=H 65 _ rfl;have e66:q 66=q 14*q 14:=H 66 _ rfl;have e67:q 67=q 15*q 15:=H 67 _ rfl;have e68:q 68=q 66+q 67:=H 68 _ rfl;have e69:q 69=q 16*q 16:=H 69 _ rfl;have e70:q 70=q 68+q 69:=H 70 _ rfl;have e71:q 71=q 14*fac [q 14,q 15,q 16]:=H 71 _ rfl;have e72:q 72=q 15*fac [q 14,q 15,q 16]:=H 72 _ rfl;have e73:q 73=q 16*fac [q 14,q 15,q 16]:=H 73 _ rfl;have e84:q 84=0:=(H 84 _ rfl).trans pU_c84;have e120:q 120=q 64*q 49:=H 120 _ rfl;have e121:q 121=q 65*q 48:=H 121 _ rfl;have e122:q 122=q 120-q 121:=H 122 _ rfl;have e123:q 123=q 65*q 47:=H 123 _ rfl;have e124:q 124=q 63*q 49:=H 124 _ rfl;have e125:q 125=q 123-q 124:=H 125 _ rfl;have e126:q 126=q 63*q 48:=H 126 _ rfl;have e127:q 127=q 64*q 47:=H 127 _ rfl;have e128:q 128=q 126-q 127:=H 128 _ rfl;have e144:q 144=q 122*q 71:=H 144 _ rfl;have e145:q 145=q 84+q 144:=H 145 _ rfl;have e146:q 146=q 125*q 72:=H 146 _ rfl;have e147:q 147=q 145+q 146:=H 147 _ rfl;have e148:q 148=q 128*q 73:=H 148 _ rfl;have e149:q 149=q 147+q 148:=H 149 _ rfl
 intro u2 u0 u3
 have p2 := V3.mk_pf (fun h => u2 ((V3.sq3 e58 e59 e60 e61 e62).2 h)) e63 e64 e65
 have p0 := V3.mk_pf (fun h => u0 ((V3.sq3 e3 e4 e5 e6 e7).2 h)) e47 e48 e49
 have p3 := V3.mk_pf (fun h => u3 ((V3.sq3 e66 e67 e68 e69 e70).2 h)) e71 e72 e73
 have h := V3.Pr.dm p2 p0 p3
 rw [← ((V3.mk_dt e84 e149 e147 e145 e144 e146 e148).trans ((congrArg (fun v => V3.dt v _) (V3.mk_cr e122 e125 e128 e120 e121 e123 e124 e126 e127)).trans (V3.dm_cy _ _ _)))] at h
 have k : q 46=-V3.dm (⟨q 11,q 12,q 13⟩ : V3) (⟨q 0,q 1,q 2⟩ : V3) (⟨q 14,q 15,q 16⟩ : V3) := (V3.mk_det e46 e45 e40 e35 e39 e44 e34 e38 e43 e32 e33 e36 e37 e41 e42).trans (show V3.dm (⟨q 11,q 12,q 13⟩ : V3) (⟨q 14,q 15,q 16⟩ : V3) (⟨q 0,q 1,q 2⟩ : V3)=-V3.dm (⟨q 11,q 12,q 13⟩ : V3) (⟨q 0,q 1,q 2⟩ : V3) (⟨q 14,q 15,q 16⟩ : V3) from V3.dm_sw _ _ _)
 have h2 : q 149=0 ↔ q 46=0 := by
  rw [h,k]
  exact ⟨fun e => by rw [e]; rfl,fun e => by grind⟩
 exact ⟨fun a b => a (h2.2 b),h2.1⟩
theorem pU_I104 (H : pU_Q q σ) : (¬ (q 7=0))→(¬ (q 54=0))→(¬ (q 70=0))→((¬ (q 155=0)→¬ (q 104=0))∧(q 155=0→q 104=0)) := by
 have e3:q 3=q 0*q 0:=H 3 _ rfl;have e4:q 4=q 1*q 1:=H 4 _ rfl;have e5:q 5=q 3+q 4:=H 5 _ rfl;have e6:q 6=q 2*q 2:=H 6 _ rfl;have e7:q 7=q 5+q 6:=H 7 _ rfl;have e47:q 47=q 0*fac [q 0,q 1,q 2]:=H 47 _ rfl;have e48:q 48=q 1*fac [q 0,q 1,q 2]:=H 48 _ rfl;have e49:q 49=q 2*fac [q 0,q 1,q 2]:=H 49 _ rfl;have e50:q 50=q 8*q 8:=H 50 _ rfl;have e51:q 51=q 9*q 9:=H 51 _ rfl;have e52:q 52=q 50+q 51:=H 52 _ rfl;have e53:q 53=q 10*q 10:=H 53 _ rfl;have e54:q 54=q 52+q 53:=H 54 _ rfl;have e55:q 55=q 8*fac [q 8,q 9,q 10]:=H 55 _ rfl;have e56:q 56=q 9*fac [q 8,q 9,q 10]:=H 56 _ rfl;have e57:q 57=q 10*fac [q 8,q 9,q 10]:=H 57 _ rfl;have e66:q 66=q 14*q 14:=H 66 _ rfl;have e67:q 67=q 15*q 15:=H 67 _ rfl;have e68:q 68=q 66+q 67:=H 68 _ rfl;have e69:q 69=q 16*q 16:=H 69 _ rfl;have e70:q 70=q 68+q 69:=H 70 _ rfl;have e71:q 71=q 14*fac [q 14,q 15,q 16]:=H 71 _ rfl;have e72:q 72=q 15*fac [q 14,q 15,q 16]:=H 72 _ rfl;have e73:q 73=q 16*fac [q 14,q 15,q 16]:=H 73 _ rfl;have e84:q 84=0:=(H 84 _ rfl).trans pU_c84;have e90:q 90=q 1*q 10:=H 90 _ rfl;have e91:q 91=q 2*q 9:=H 91 _ rfl;have e92:q 92=q 90-q 91:=H 92 _ rfl;have e93:q 93=q 14*q 92:=H 93 _ rfl;have e94:q 94=q 0*q 10:=H 94 _ rfl;have e95:q 95=q 2*q 8:=H 95 _ rfl;have e96:q 96=q 94-q 95:=H 96 _ rfl;have e97:q 97=q 15*q 96:=H 97 _ rfl;have e98:q 98=-q 97:=H 98 _ rfl;have e99:q 99=q 0*q 9:=H 99 _ rfl;have e100:q 100=q 1*q 8:=H 100 _ rfl;have e101:q 101=q 99-q 100:=H 101 _ rfl;have e102:q 102=q 16*q 101:=H 102 _ rfl;have e103:q 103=q 93+q 98:=H 103 _ rfl;have e104:q 104=q 103+q 102:=H 104 _ rfl;have e129:q 129=q 48*q 57:=H 129 _ rfl;have e130:q 130=q 49*q 56:=H 130 _ rfl;have e131:q 131=q 129-q 130:=H 131 _ rfl;have e132:q 132=q 49*q 55:=H 132 _ rfl;have e133:q 133=q 47*q 57:=H 133 _ rfl;have e134:q 134=q 132-q 133:=H 134 _ rfl;have e135:q 135=q 47*q 56:=H 135 _ rfl;have e136:q 136=q 48*q 55:=H 136 _ rfl;have e137:q 137=q 135-q 136:=H 137 _ rfl;have e150:q 150=q 131*q 71:=H 150 _ rfl;have e151:q 151=q 84+q 150:=H 151 _ rfl;have e152:q 152=q 134*q 72:=H 152 _ rfl;have e153:q 153=q 151+q 152:=H 153 _ rfl;have e154:q 154=q 137*q 73:=H 154 _ rfl;have e155:q 155=q 153+q 154:=H 155 _ rfl
 intro u0 u1 u3
 have p0 := V3.mk_pf (fun h => u0 ((V3.sq3 e3 e4 e5 e6 e7).2 h)) e47 e48 e49
 have p1 := V3.mk_pf (fun h => u1 ((V3.sq3 e50 e51 e52 e53 e54).2 h)) e55 e56 e57
 have p3 := V3.mk_pf (fun h => u3 ((V3.sq3 e66 e67 e68 e69 e70).2 h)) e71 e72 e73
 have h := V3.Pr.dm p0 p1 p3
 rw [← ((V3.mk_dt e84 e155 e153 e151 e150 e152 e154).trans ((congrArg (fun v => V3.dt v _) (V3.mk_cr e131 e134 e137 e129 e130 e132 e133 e135 e136)).trans (V3.dm_cy _ _ _)))] at h
 have k : q 104=V3.dm (⟨q 0,q 1,q 2⟩ : V3) (⟨q 8,q 9,q 10⟩ : V3) (⟨q 14,q 15,q 16⟩ : V3) := (V3.mk_det e104 e103 e98 e93 e97 e102 e92 e96 e101 e90 e91 e94 e95 e99 e100).trans (show V3.dm (⟨q 14,q 15,q 16⟩ : V3) (⟨q 0,q 1,q 2⟩ : V3) (⟨q 8,q 9,q 10⟩ : V3)=V3.dm (⟨q 0,q 1,q 2⟩ : V3) (⟨q 8,q 9,q 10⟩ : V3) (⟨q 14,q 15,q 16⟩ : V3) from (V3.dm_rot _ _ _).symm)
 have h2 : q 155=0 ↔ q 104=0 := by rw [h,k]
 exact ⟨fun a b => a (h2.2 b),h2.1⟩
theorem pU_Z211x0 (H : pU_Q q σ) : (q 172=0)→(q 211=0) := by
 have e168:q 168=q 165*q 165:=H 168 _ rfl;have e169:q 169=q 166*q 166:=H 169 _ rfl;have e170:q 170=q 168+q 169:=H 170 _ rfl;have e171:q 171=q 167*q 167:=H 171 _ rfl;have e172:q 172=q 170+q 171:=H 172 _ rfl;have e197:q 197=q 180*q 167:=H 197 _ rfl;have e198:q 198=q 181*q 166:=H 198 _ rfl;have e199:q 199=q 197-q 198:=H 199 _ rfl;have e200:q 200=q 176*q 199:=H 200 _ rfl;have e201:q 201=q 179*q 167:=H 201 _ rfl;have e202:q 202=q 181*q 165:=H 202 _ rfl;have e203:q 203=q 201-q 202:=H 203 _ rfl;have e204:q 204=q 177*q 203:=H 204 _ rfl;have e205:q 205=-q 204:=H 205 _ rfl;have e206:q 206=q 179*q 166:=H 206 _ rfl;have e207:q 207=q 180*q 165:=H 207 _ rfl;have e208:q 208=q 206-q 207:=H 208 _ rfl;have e209:q 209=q 178*q 208:=H 209 _ rfl;have e210:q 210=q 200+q 205:=H 210 _ rfl;have e211:q 211=q 210+q 209:=H 211 _ rfl
 intro u
 have h := (V3.sq3 e168 e169 e170 e171 e172).1 u
 have k := (V3.mk_det e211 e210 e205 e200 e204 e209 e199 e203 e208 e197 e198 e201 e202 e206 e207)
 rw [h] at k
 exact k.trans (V3.dm_n3 _ _)
theorem pU_Z196x1 (H : pU_Q q σ) : (q 219=0)→(q 196=0) := by
 have e182:q 182=q 177*q 181:=H 182 _ rfl;have e183:q 183=q 178*q 180:=H 183 _ rfl;have e184:q 184=q 182-q 183:=H 184 _ rfl;have e185:q 185=q 173*q 184:=H 185 _ rfl;have e186:q 186=q 176*q 181:=H 186 _ rfl;have e187:q 187=q 178*q 179:=H 187 _ rfl;have e188:q 188=q 186-q 187:=H 188 _ rfl;have e189:q 189=q 174*q 188:=H 189 _ rfl;have e190:q 190=-q 189:=H 190 _ rfl;have e191:q 191=q 176*q 180:=H 191 _ rfl;have e192:q 192=q 177*q 179:=H 192 _ rfl;have e193:q 193=q 191-q 192:=H 193 _ rfl;have e194:q 194=q 175*q 193:=H 194 _ rfl;have e195:q 195=q 185+q 190:=H 195 _ rfl;have e196:q 196=q 195+q 194:=H 196 _ rfl;have e215:q 215=q 173*q 173:=H 215 _ rfl;have e216:q 216=q 174*q 174:=H 216 _ rfl;have e217:q 217=q 215+q 216:=H 217 _ rfl;have e218:q 218=q 175*q 175:=H 218 _ rfl;have e219:q 219=q 217+q 218:=H 219 _ rfl
 intro u
 have h := (V3.sq3 e215 e216 e217 e218 e219).1 u
 have k := (V3.mk_det e196 e195 e190 e185 e189 e194 e184 e188 e193 e182 e183 e186 e187 e191 e192)
 rw [h] at k
 exact k.trans (V3.dm_n1 _ _)
theorem pU_Z196x2 (H : pU_Q q σ) : (q 227=0)→(q 196=0) := by
 have e182:q 182=q 177*q 181:=H 182 _ rfl;have e183:q 183=q 178*q 180:=H 183 _ rfl;have e184:q 184=q 182-q 183:=H 184 _ rfl;have e185:q 185=q 173*q 184:=H 185 _ rfl;have e186:q 186=q 176*q 181:=H 186 _ rfl;have e187:q 187=q 178*q 179:=H 187 _ rfl;have e188:q 188=q 186-q 187:=H 188 _ rfl;have e189:q 189=q 174*q 188:=H 189 _ rfl;have e190:q 190=-q 189:=H 190 _ rfl;have e191:q 191=q 176*q 180:=H 191 _ rfl;have e192:q 192=q 177*q 179:=H 192 _ rfl;have e193:q 193=q 191-q 192:=H 193 _ rfl;have e194:q 194=q 175*q 193:=H 194 _ rfl;have e195:q 195=q 185+q 190:=H 195 _ rfl;have e196:q 196=q 195+q 194:=H 196 _ rfl;have e223:q 223=q 176*q 176:=H 223 _ rfl;have e224:q 224=q 177*q 177:=H 224 _ rfl;have e225:q 225=q 223+q 224:=H 225 _ rfl;have e226:q 226=q 178*q 178:=H 226 _ rfl;have e227:q 227=q 225+q 226:=H 227 _ rfl
 intro u
 have h := (V3.sq3 e223 e224 e225 e226 e227).1 u
 have k := (V3.mk_det e196 e195 e190 e185 e189 e194 e184 e188 e193 e182 e183 e186 e187 e191 e192)
 rw [h] at k
 exact k.trans (V3.dm_n2 _ _)
theorem pU_Z196x3 (H : pU_Q q σ) : (q 235=0)→(q 196=0) := by
 have e182:q 182=q 177*q 181:=H 182 _ rfl;have e183:q 183=q 178*q 180:=H 183 _ rfl;have e184:q 184=q 182-q 183:=H 184 _ rfl;have e185:q 185=q 173*q 184:=H 185 _ rfl;have e186:q 186=q 176*q 181:=H 186 _ rfl;have e187:q 187=q 178*q 179:=H 187 _ rfl;have e188:q 188=q 186-q 187:=H 188 _ rfl;have e189:q 189=q 174*q 188:=H 189 _ rfl;have e190:q 190=-q 189:=H 190 _ rfl;have e191:q 191=q 176*q 180:=H 191 _ rfl;have e192:q 192=q 177*q 179:=H 192 _ rfl;have e193:q 193=q 191-q 192:=H 193 _ rfl;have e194:q 194=q 175*q 193:=H 194 _ rfl;have e195:q 195=q 185+q 190:=H 195 _ rfl;have e196:q 196=q 195+q 194:=H 196 _ rfl;have e231:q 231=q 179*q 179:=H 231 _ rfl;have e232:q 232=q 180*q 180:=H 232 _ rfl;have e233:q 233=q 231+q 232:=H 233 _ rfl;have e234:q 234=q 181*q 181:=H 234 _ rfl;have e235:q 235=q 233+q 234:=H 235 _ rfl
 intro u
 have h := (V3.sq3 e231 e232 e233 e234 e235).1 u
 have k := (V3.mk_det e196 e195 e190 e185 e189 e194 e184 e188 e193 e182 e183 e186 e187 e191 e192)
 rw [h] at k
 exact k.trans (V3.dm_n3 _ _)
theorem pU_I283 (H : pU_Q q σ) : (¬ (q 172=0))→(¬ (q 219=0))→(¬ (q 227=0))→((¬ (q 253=0)→¬ (q 283=0))∧(q 253=0→q 283=0)) := by
 have e84:q 84=0:=(H 84 _ rfl).trans pU_c84;have e168:q 168=q 165*q 165:=H 168 _ rfl;have e169:q 169=q 166*q 166:=H 169 _ rfl;have e170:q 170=q 168+q 169:=H 170 _ rfl;have e171:q 171=q 167*q 167:=H 171 _ rfl;have e172:q 172=q 170+q 171:=H 172 _ rfl;have e212:q 212=q 165*fac [q 165,q 166,q 167]:=H 212 _ rfl;have e213:q 213=q 166*fac [q 165,q 166,q 167]:=H 213 _ rfl;have e214:q 214=q 167*fac [q 165,q 166,q 167]:=H 214 _ rfl;have e215:q 215=q 173*q 173:=H 215 _ rfl;have e216:q 216=q 174*q 174:=H 216 _ rfl;have e217:q 217=q 215+q 216:=H 217 _ rfl;have e218:q 218=q 175*q 175:=H 218 _ rfl;have e219:q 219=q 217+q 218:=H 219 _ rfl;have e220:q 220=q 173*fac [q 173,q 174,q 175]:=H 220 _ rfl;have e221:q 221=q 174*fac [q 173,q 174,q 175]:=H 221 _ rfl;have e222:q 222=q 175*fac [q 173,q 174,q 175]:=H 222 _ rfl;have e223:q 223=q 176*q 176:=H 223 _ rfl;have e224:q 224=q 177*q 177:=H 224 _ rfl;have e225:q 225=q 223+q 224:=H 225 _ rfl;have e226:q 226=q 178*q 178:=H 226 _ rfl;have e227:q 227=q 225+q 226:=H 227 _ rfl;have e228:q 228=q 176*fac [q 176,q 177,q 178]:=H 228 _ rfl;have e229:q 229=q 177*fac [q 176,q 177,q 178]:=H 229 _ rfl;have e230:q 230=q 178*fac [q 176,q 177,q 178]:=H 230 _ rfl;have e239:q 239=q 221*q 230:=H 239 _ rfl;have e240:q 240=q 222*q 229:=H 240 _ rfl;have e241:q 241=q 239-q 240:=H 241 _ rfl;have e242:q 242=q 222*q 228:=H 242 _ rfl;have e243:q 243=q 220*q 230:=H 243 _ rfl;have e244:q 244=q 242-q 243:=H 244 _ rfl;have e245:q 245=q 220*q 229:=H 245 _ rfl;have e246:q 246=q 221*q 228:=H 246 _ rfl;have e247:q 247=q 245-q 246:=H 247 _ rfl;have e248:q 248=q 212*q 241:=H 248 _ rfl;have e249:q 249=q 84+q 248:=H 249 _ rfl;have e250:q 250=q 213*q 244:=H 250 _ rfl;have e251:q 251=q 249+q 250:=H 251 _ rfl;have e252:q 252=q 214*q 247:=H 252 _ rfl;have e253:q 253=q 251+q 252:=H 253 _ rfl;have e269:q 269=q 174*q 178:=H 269 _ rfl;have e270:q 270=q 175*q 177:=H 270 _ rfl;have e271:q 271=q 269-q 270:=H 271 _ rfl;have e272:q 272=q 165*q 271:=H 272 _ rfl;have e273:q 273=q 173*q 178:=H 273 _ rfl;have e274:q 274=q 175*q 176:=H 274 _ rfl;have e275:q 275=q 273-q 274:=H 275 _ rfl;have e276:q 276=q 166*q 275:=H 276 _ rfl;have e277:q 277=-q 276:=H 277 _ rfl;have e278:q 278=q 173*q 177:=H 278 _ rfl;have e279:q 279=q 174*q 176:=H 279 _ rfl;have e280:q 280=q 278-q 279:=H 280 _ rfl;have e281:q 281=q 167*q 280:=H 281 _ rfl;have e282:q 282=q 272+q 277:=H 282 _ rfl;have e283:q 283=q 282+q 281:=H 283 _ rfl
 intro u0 u1 u2
 have p0 := V3.mk_pf (fun h => u0 ((V3.sq3 e168 e169 e170 e171 e172).2 h)) e212 e213 e214
 have p1 := V3.mk_pf (fun h => u1 ((V3.sq3 e215 e216 e217 e218 e219).2 h)) e220 e221 e222
 have p2 := V3.mk_pf (fun h => u2 ((V3.sq3 e223 e224 e225 e226 e227).2 h)) e228 e229 e230
 have h := V3.Pr.dm p0 p1 p2
 rw [← (show (q 253)=V3.dm (⟨q 212,q 213,q 214⟩ : V3) (⟨q 220,q 221,q 222⟩ : V3) (⟨q 228,q 229,q 230⟩ : V3) from (V3.mk_dt e84 e253 e251 e249 e248 e250 e252).trans (congrArg _ (V3.mk_cr e241 e244 e247 e239 e240 e242 e243 e245 e246)))] at h
 have k : q 283=V3.dm (⟨q 165,q 166,q 167⟩ : V3) (⟨q 173,q 174,q 175⟩ : V3) (⟨q 176,q 177,q 178⟩ : V3) := (V3.mk_det e283 e282 e277 e272 e276 e281 e271 e275 e280 e269 e270 e273 e274 e278 e279)
 have h2 : q 253=0 ↔ q 283=0 := by rw [h,k]
 exact ⟨fun a b => a (h2.2 b),h2.1⟩
theorem pU_I196 (H : pU_Q q σ) : (¬ (q 219=0))→(¬ (q 227=0))→(¬ (q 235=0))→((¬ (q 307=0)→¬ (q 196=0))∧(q 307=0→q 196=0)) := by
 have e84:q 84=0:=(H 84 _ rfl).trans pU_c84;have e182:q 182=q 177*q 181:=H 182 _ rfl;have e183:q 183=q 178*q 180:=H 183 _ rfl;have e184:q 184=q 182-q 183:=H 184 _ rfl;have e185:q 185=q 173*q 184:=H 185 _ rfl;have e186:q 186=q 176*q 181:=H 186 _ rfl;have e187:q 187=q 178*q 179:=H 187 _ rfl;have e188:q 188=q 186-q 187:=H 188 _ rfl;have e189:q 189=q 174*q 188:=H 189 _ rfl;have e190:q 190=-q 189:=H 190 _ rfl;have e191:q 191=q 176*q 180:=H 191 _ rfl;have e192:q 192=q 177*q 179:=H 192 _ rfl;have e193:q 193=q 191-q 192:=H 193 _ rfl;have e194:q 194=q 175*q 193:=H 194 _ rfl;have e195:q 195=q 185+q 190:=H 195 _ rfl;have e196:q 196=q 195+q 194:=H 196 _ rfl;have e215:q 215=q 173*q 173:=H 215 _ rfl;have e216:q 216=q 174*q 174:=H 216 _ rfl;have e217:q 217=q 215+q 216:=H 217 _ rfl;have e218:q 218=q 175*q 175:=H 218 _ rfl;have e219:q 219=q 217+q 218:=H 219 _ rfl;have e220:q 220=q 173*fac [q 173,q 174,q 175]:=H 220 _ rfl;have e221:q 221=q 174*fac [q 173,q 174,q 175]:=H 221 _ rfl;have e222:q 222=q 175*fac [q 173,q 174,q 175]:=H 222 _ rfl;have e223:q 223=q 176*q 176:=H 223 _ rfl;have e224:q 224=q 177*q 177:=H 224 _ rfl;have e225:q 225=q 223+q 224:=H 225 _ rfl;have e226:q 226=q 178*q 178:=H 226 _ rfl;have e227:q 227=q 225+q 226:=H 227 _ rfl;have e228:q 228=q 176*fac [q 176,q 177,q 178]:=H 228 _ rfl;have e229:q 229=q 177*fac [q 176,q 177,q 178]:=H 229 _ rfl;have e230:q 230=q 178*fac [q 176,q 177,q 178]:=H 230 _ rfl;have e231:q 231=q 179*q 179:=H 231 _ rfl;have e232:q 232=q 180*q 180:=H 232 _ rfl;have e233:q 233=q 231+q 232:=H 233 _ rfl;have e234:q 234=q 181*q 181:=H 234 _ rfl;have e235:q 235=q 233+q 234:=H 235 _ rfl;have e236:q 236=q 179*fac [q 179,q 180,q 181]:=H 236 _ rfl;have e237:q 237=q 180*fac [q 179,q 180,q 181]:=H 237 _ rfl;have e238:q 238=q 181*fac [q 179,q 180,q 181]:=H 238 _ rfl;have e239:q 239=q 221*q 230:=H 239 _ rfl;have e240:q 240=q 222*q 229:=H 240 _ rfl;have e241:q 241=q 239-q 240:=H 241 _ rfl;have e242:q 242=q 222*q 228:=H 242 _ rfl;have e243:q 243=q 220*q 230:=H 243 _ rfl;have e244:q 244=q 242-q 243:=H 244 _ rfl;have e245:q 245=q 220*q 229:=H 245 _ rfl;have e246:q 246=q 221*q 228:=H 246 _ rfl;have e247:q 247=q 245-q 246:=H 247 _ rfl;have e302:q 302=q 241*q 236:=H 302 _ rfl;have e303:q 303=q 84+q 302:=H 303 _ rfl;have e304:q 304=q 244*q 237:=H 304 _ rfl;have e305:q 305=q 303+q 304:=H 305 _ rfl;have e306:q 306=q 247*q 238:=H 306 _ rfl;have e307:q 307=q 305+q 306:=H 307 _ rfl
 intro u1 u2 u3
 have p1 := V3.mk_pf (fun h => u1 ((V3.sq3 e215 e216 e217 e218 e219).2 h)) e220 e221 e222
 have p2 := V3.mk_pf (fun h => u2 ((V3.sq3 e223 e224 e225 e226 e227).2 h)) e228 e229 e230
 have p3 := V3.mk_pf (fun h => u3 ((V3.sq3 e231 e232 e233 e234 e235).2 h)) e236 e237 e238
 have h := V3.Pr.dm p1 p2 p3
 rw [← ((V3.mk_dt e84 e307 e305 e303 e302 e304 e306).trans ((congrArg (fun v => V3.dt v _) (V3.mk_cr e241 e244 e247 e239 e240 e242 e243 e245 e246)).trans (V3.dm_cy _ _ _)))] at h
 have k : q 196=V3.dm (⟨q 173,q 174,q 175⟩ : V3) (⟨q 176,q 177,q 178⟩ : V3) (⟨q 179,q 180,q 181⟩ : V3) := (V3.mk_det e196 e195 e190 e185 e189 e194 e184 e188 e193 e182 e183 e186 e187 e191 e192)
 have h2 : q 307=0 ↔ q 196=0 := by rw [h,k]
 exact ⟨fun a b => a (h2.2 b),h2.1⟩
theorem pU_I211 (H : pU_Q q σ) : (¬ (q 227=0))→(¬ (q 172=0))→(¬ (q 235=0))→((¬ (q 313=0)→¬ (q 211=0))∧(q 313=0→q 211=0)) := by
 have e84:q 84=0:=(H 84 _ rfl).trans pU_c84;have e168:q 168=q 165*q 165:=H 168 _ rfl;have e169:q 169=q 166*q 166:=H 169 _ rfl;have e170:q 170=q 168+q 169:=H 170 _ rfl;have e171:q 171=q 167*q 167:=H 171 _ rfl;have e172:q 172=q 170+q 171:=H 172 _ rfl;have e197:q 197=q 180*q 167:=H 197 _ rfl;have e198:q 198=q 181*q 166:=H 198 _ rfl;have e199:q 199=q 197-q 198:=H 199 _ rfl;have e200:q 200=q 176*q 199:=H 200 _ rfl;have e201:q 201=q 179*q 167:=H 201 _ rfl;have e202:q 202=q 181*q 165:=H 202 _ rfl;have e203:q 203=q 201-q 202:=H 203 _ rfl;have e204:q 204=q 177*q 203:=H 204 _ rfl;have e205:q 205=-q 204:=H 205 _ rfl;have e206:q 206=q 179*q 166:=H 206 _ rfl;have e207:q 207=q 180*q 165:=H 207 _ rfl;have e208:q 208=q 206-q 207:=H 208 _ rfl;have e209:q 209=q 178*q 208:=H 209 _ rfl;have e210:q 210=q 200+q 205:=H 210 _ rfl;have e211:q 211=q 210+q 209:=H 211 _ rfl;have e212:q 212=q 165*fac [q 165,q 166,q 167]:=H 212 _ rfl;have e213:q 213=q 166*fac [q 165,q 166,q 167]:=H 213 _ rfl;have e214:q 214=q 167*fac [q 165,q 166,q 167]:=H 214 _ rfl;have e223:q 223=q 176*q 176:=H 223 _ rfl;have e224:q 224=q 177*q 177:=H 224 _ rfl;have e225:q 225=q 223+q 224:=H 225 _ rfl;have e226:q 226=q 178*q 178:=H 226 _ rfl;have e227:q 227=q 225+q 226:=H 227 _ rfl;have e228:q 228=q 176*fac [q 176,q 177,q 178]:=H 228 _ rfl;have e229:q 229=q 177*fac [q 176,q 177,q 178]:=H 229 _ rfl;have e230:q 230=q 178*fac [q 176,q 177,q 178]:=H 230 _ rfl;have e231:q 231=q 179*q 179:=H 231 _ rfl;have e232:q 232=q 180*q 180:=H 232 _ rfl;have e233:q 233=q 231+q 232:=H 233 _ rfl;have e234:q 234=q 181*q 181:=H 234 _ rfl;have e235:q 235=q 233+q 234:=H 235 _ rfl;have e236:q 236=q 179*fac [q 179,q 180,q 181]:=H 236 _ rfl;have e237:q 237=q 180*fac [q 179,q 180,q 181]:=H 237 _ rfl;have e238:q 238=q 181*fac [q 179,q 180,q 181]:=H 238 _ rfl;have e284:q 284=q 229*q 214:=H 284 _ rfl;have e285:q 285=q 230*q 213:=H 285 _ rfl;have e286:q 286=q 284-q 285:=H 286 _ rfl;have e287:q 287=q 230*q 212:=H 287 _ rfl;have e288:q 288=q 228*q 214:=H 288 _ rfl;have e289:q 289=q 287-q 288:=H 289 _ rfl;have e290:q 290=q 228*q 213:=H 290 _ rfl;have e291:q 291=q 229*q 212:=H 291 _ rfl;have e292:q 292=q 290-q 291:=H 292 _ rfl;have e308:q 308=q 286*q 236:=H 308 _ rfl;have e309:q 309=q 84+q 308:=H 309 _ rfl;have e310:q 310=q 289*q 237:=H 310 _ rfl;have e311:q 311=q 309+q 310:=H 311 _ rfl;have e312:q 312=q 292*q 238:=H 312 _ rfl;have e313:q 313=q 311+q 312:=H 313 _ rfl
 intro u2 u0 u3
 have p2 := V3.mk_pf (fun h => u2 ((V3.sq3 e223 e224 e225 e226 e227).2 h)) e228 e229 e230
 have p0 := V3.mk_pf (fun h => u0 ((V3.sq3 e168 e169 e170 e171 e172).2 h)) e212 e213 e214
 have p3 := V3.mk_pf (fun h => u3 ((V3.sq3 e231 e232 e233 e234 e235).2 h)) e236 e237 e238
 have h := V3.Pr.dm p2 p0 p3
 rw [← ((V3.mk_dt e84 e313 e311 e309 e308 e310 e312).trans ((congrArg (fun v => V3.dt v _) (V3.mk_cr e286 e289 e292 e284 e285 e287 e288 e290 e291)).trans (V3.dm_cy _ _ _)))] at h
 have k : q 211=-V3.dm (⟨q 176,q 177,q 178⟩ : V3) (⟨q 165,q 166,q 167⟩ : V3) (⟨q 179,q 180,q 181⟩ : V3) := (V3.mk_det e211 e210 e205 e200 e204 e209 e199 e203 e208 e197 e198 e201 e202 e206 e207).trans (show V3.dm (⟨q 176,q 177,q 178⟩ : V3) (⟨q 179,q 180,q 181⟩ : V3) (⟨q 165,q 166,q 167⟩ : V3)=-V3.dm (⟨q 176,q 177,q 178⟩ : V3) (⟨q 165,q 166,q 167⟩ : V3) (⟨q 179,q 180,q 181⟩ : V3) from V3.dm_sw _ _ _)
 have h2 : q 313=0 ↔ q 211=0 := by
  rw [h,k]
  exact ⟨fun e => by rw [e]; rfl,fun e => by grind⟩
 exact ⟨fun a b => a (h2.2 b),h2.1⟩
theorem pU_I268 (H : pU_Q q σ) : (¬ (q 172=0))→(¬ (q 219=0))→(¬ (q 235=0))→((¬ (q 319=0)→¬ (q 268=0))∧(q 319=0→q 268=0)) := by
 have e84:q 84=0:=(H 84 _ rfl).trans pU_c84;have e168:q 168=q 165*q 165:=H 168 _ rfl;have e169:q 169=q 166*q 166:=H 169 _ rfl;have e170:q 170=q 168+q 169:=H 170 _ rfl;have e171:q 171=q 167*q 167:=H 171 _ rfl;have e172:q 172=q 170+q 171:=H 172 _ rfl;have e212:q 212=q 165*fac [q 165,q 166,q 167]:=H 212 _ rfl;have e213:q 213=q 166*fac [q 165,q 166,q 167]:=H 213 _ rfl;have e214:q 214=q 167*fac [q 165,q 166,q 167]:=H 214 _ rfl;have e215:q 215=q 173*q 173:=H 215 _ rfl;have e216:q 216=q 174*q 174:=H 216 _ rfl;have e217:q 217=q 215+q 216:=H 217 _ rfl;have e218:q 218=q 175*q 175:=H 218 _ rfl;have e219:q 219=q 217+q 218:=H 219 _ rfl;have e220:q 220=q 173*fac [q 173,q 174,q 175]:=H 220 _ rfl;have e221:q 221=q 174*fac [q 173,q 174,q 175]:=H 221 _ rfl;have e222:q 222=q 175*fac [q 173,q 174,q 175]:=H 222 _ rfl;have e231:q 231=q 179*q 179:=H 231 _ rfl;have e232:q 232=q 180*q 180:=H 232 _ rfl;have e233:q 233=q 231+q 232:=H 233 _ rfl;have e234:q 234=q 181*q 181:=H 234 _ rfl;have e235:q 235=q 233+q 234:=H 235 _ rfl;have e236:q 236=q 179*fac [q 179,q 180,q 181]:=H 236 _ rfl;have e237:q 237=q 180*fac [q 179,q 180,q 181]:=H 237 _ rfl;have e238:q 238=q 181*fac [q 179,q 180,q 181]:=H 238 _ rfl;have e254:q 254=q 166*q 175:=H 254 _ rfl;have e255:q 255=q 167*q 174:=H 255 _ rfl;have e256:q 256=q 254-q 255:=H 256 _ rfl;have e257:q 257=q 179*q 256:=H 257 _ rfl;have e258:q 258=q 165*q 175:=H 258 _ rfl;have e259:q 259=q 167*q 173:=H 259 _ rfl;have e260:q 260=q 258-q 259:=H 260 _ rfl;have e261:q 261=q 180*q 260:=H 261 _ rfl;have e262:q 262=-q 261:=H 262 _ rfl;have e263:q 263=q 165*q 174:=H 263 _ rfl;have e264:q 264=q 166*q 173:=H 264 _ rfl;have e265:q 265=q 263-q 264:=H 265 _ rfl;have e266:q 266=q 181*q 265:=H 266 _ rfl;have e267:q 267=q 257+q 262:=H 267 _ rfl;have e268:q 268=q 267+q 266:=H 268 _ rfl;have e293:q 293=q 213*q 222:=H 293 _ rfl;have e294:q 294=q 214*q 221:=H 294 _ rfl;have e295:q 295=q 293-q 294:=H 295 _ rfl;have e296:q 296=q 214*q 220:=H 296 _ rfl;have e297:q 297=q 212*q 222:=H 297 _ rfl;have e298:q 298=q 296-q 297:=H 298 _ rfl;have e299:q 299=q 212*q 221:=H 299 _ rfl;have e300:q 300=q 213*q 220:=H 300 _ rfl;have e301:q 301=q 299-q 300:=H 301 _ rfl;have e314:q 314=q 295*q 236:=H 314 _ rfl;have e315:q 315=q 84+q 314:=H 315 _ rfl;have e316:q 316=q 298*q 237:=H 316 _ rfl;have e317:q 317=q 315+q 316:=H 317 _ rfl;have e318:q 318=q 301*q 238:=H 318 _ rfl;have e319:q 319=q 317+q 318:=H 319 _ rfl
 intro u0 u1 u3
 have p0 := V3.mk_pf (fun h => u0 ((V3.sq3 e168 e169 e170 e171 e172).2 h)) e212 e213 e214
 have p1 := V3.mk_pf (fun h => u1 ((V3.sq3 e215 e216 e217 e218 e219).2 h)) e220 e221 e222
 have p3 := V3.mk_pf (fun h => u3 ((V3.sq3 e231 e232 e233 e234 e235).2 h)) e236 e237 e238
 have h := V3.Pr.dm p0 p1 p3
 rw [← ((V3.mk_dt e84 e319 e317 e315 e314 e316 e318).trans ((congrArg (fun v => V3.dt v _) (V3.mk_cr e295 e298 e301 e293 e294 e296 e297 e299 e300)).trans (V3.dm_cy _ _ _)))] at h
 have k : q 268=V3.dm (⟨q 165,q 166,q 167⟩ : V3) (⟨q 173,q 174,q 175⟩ : V3) (⟨q 179,q 180,q 181⟩ : V3) := (V3.mk_det e268 e267 e262 e257 e261 e266 e256 e260 e265 e254 e255 e258 e259 e263 e264).trans (show V3.dm (⟨q 179,q 180,q 181⟩ : V3) (⟨q 165,q 166,q 167⟩ : V3) (⟨q 173,q 174,q 175⟩ : V3)=V3.dm (⟨q 165,q 166,q 167⟩ : V3) (⟨q 173,q 174,q 175⟩ : V3) (⟨q 179,q 180,q 181⟩ : V3) from (V3.dm_rot _ _ _).symm)
 have h2 : q 319=0 ↔ q 268=0 := by rw [h,k]
 exact ⟨fun a b => a (h2.2 b),h2.1⟩
theorem pU_M (H : pU_Q q σ) : (¬ (q 7=0))→(¬ (q 54=0))→(¬ (q 62=0))→(¬ (q 70=0))→(¬ (q 89=0))→(¬ (q 143=0))→(¬ (q 149=0))→(¬ (q 155=0))→(¬ (q 172=0))→(¬ (q 219=0))→(¬ (q 227=0))→(¬ (q 235=0))→(¬ (q 253=0))→(¬ (q 307=0))→(¬ (q 313=0))→(¬ (q 319=0))→((q 447=0)∧(q 476=0)∧(q 505=0)∧(q 534=0)∧(¬ (q 551=0))∧(¬ (q 566=0))) := by
 have e3:q 3=q 0*q 0:=H 3 _ rfl;have e4:q 4=q 1*q 1:=H 4 _ rfl;have e5:q 5=q 3+q 4:=H 5 _ rfl;have e6:q 6=q 2*q 2:=H 6 _ rfl;have e7:q 7=q 5+q 6:=H 7 _ rfl;have e47:q 47=q 0*fac [q 0,q 1,q 2]:=H 47 _ rfl;have e48:q 48=q 1*fac [q 0,q 1,q 2]:=H 48 _ rfl;have e49:q 49=q 2*fac [q 0,q 1,q 2]:=H 49 _ rfl;have e50:q 50=q 8*q 8:=H 50 _ rfl;have e51:q 51=q 9*q 9:=H 51 _ rfl;have e52:q 52=q 50+q 51:=H 52 _ rfl;have e53:q 53=q 10*q 10:=H 53 _ rfl;have e54:q 54=q 52+q 53:=H 54 _ rfl;have e55:q 55=q 8*fac [q 8,q 9,q 10]:=H 55 _ rfl;have e56:q 56=q 9*fac [q 8,q 9,q 10]:=H 56 _ rfl;have e57:q 57=q 10*fac [q 8,q 9,q 10]:=H 57 _ rfl;have e58:q 58=q 11*q 11:=H 58 _ rfl;have e59:q 59=q 12*q 12:=H 59 _ rfl;have e60:q 60=q 58+q 59:=H 60 _ rfl;have e61:q 61=q 13*q 13:=H 61 _ rfl;have e62:q 62=q 60+q 61:=H 62 _ rfl;have e63:q 63=q 11*fac [q 11,q 12,q 13]:=H 63 _ rfl;have e64:q 64=q 12*fac [q 11,q 12,q 13]:=H 64 _ rfl;have e65:q 65=q 13*fac [q 11,q 12,q 13]:=H 65 _ rfl;have e66:q 66=q 14*q 14:=H 66 _ rfl;have e67:q 67=q 15*q 15:=H 67 _ rfl;have e68:q 68=q 66+q 67:=H 68 _ rfl;have e69:q 69=q 16*q 16:=H 69 _ rfl;have e70:q 70=q 68+q 69:=H 70 _ rfl;have e71:q 71=q 14*fac [q 14,q 15,q 16]:=H 71 _ rfl;have e72:q 72=q 15*fac [q 14,q 15,q 16]:=H 72 _ rfl;have e73:q 73=q 16*fac [q 14,q 15,q 16]:=H 73 _ rfl;have e74:q 74=q 56*q 65:=H 74 _ rfl;have e75:q 75=q 57*q 64:=H 75 _ rfl;have e76:q 76=q 74-q 75:=H 76 _ rfl;have e77:q 77=q 57*q 63:=H 77 _ rfl;have e78:q 78=q 55*q 65:=H 78 _ rfl;have e79:q 79=q 77-q 78:=H 79 _ rfl;have e80:q 80=q 55*q 64:=H 80 _ rfl;have e81:q 81=q 56*q 63:=H 81 _ rfl;have e82:q 82=q 80-q 81:=H 82 _ rfl;have e83:q 83=q 47*q 76:=H 83 _ rfl;have e84:q 84=0:=(H 84 _ rfl).trans pU_c84;have e85:q 85=q 84+q 83:=H 85 _ rfl;have e86:q 86=q 48*q 79:=H 86 _ rfl;have e87:q 87=q 85+q 86:=H 87 _ rfl;have e88:q 88=q 49*q 82:=H 88 _ rfl;have e89:q 89=q 87+q 88:=H 89 _ rfl;have e120:q 120=q 64*q 49:=H 120 _ rfl;have e121:q 121=q 65*q 48:=H 121 _ rfl;have e122:q 122=q 120-q 121:=H 122 _ rfl;have e123:q 123=q 65*q 47:=H 123 _ rfl;have e124:q 124=q 63*q 49:=H 124 _ rfl;have e125:q 125=q 123-q 124:=H 125 _ rfl;have e126:q 126=q 63*q 48:=H 126 _ rfl;have e127:q 127=q 64*q 47:=H 127 _ rfl;have e128:q 128=q 126-q 127:=H 128 _ rfl;have e129:q 129=q 48*q 57:=H 129 _ rfl;have e130:q 130=q 49*q 56:=H 130 _ rfl;have e131:q 131=q 129-q 130:=H 131 _ rfl;have e132:q 132=q 49*q 55:=H 132 _ rfl;have e133:q 133=q 47*q 57:=H 133 _ rfl;have e134:q 134=q 132-q 133:=H 134 _ rfl;have e135:q 135=q 47*q 56:=H 135 _ rfl;have e136:q 136=q 48*q 55:=H 136 _ rfl;have e137:q 137=q 135-q 136:=H 137 _ rfl;have e138:q 138=q 76*q 71:=H 138 _ rfl;have e139:q 139=q 84+q 138:=H 139 _ rfl;have e140:q 140=q 79*q 72:=H 140 _ rfl;have e141:q 141=q 139+q 140:=H 141 _ rfl;have e142:q 142=q 82*q 73:=H 142 _ rfl;have e143:q 143=q 141+q 142:=H 143 _ rfl;have e144:q 144=q 122*q 71:=H 144 _ rfl;have e145:q 145=q 84+q 144:=H 145 _ rfl;have e146:q 146=q 125*q 72:=H 146 _ rfl;have e147:q 147=q 145+q 146:=H 147 _ rfl;have e148:q 148=q 128*q 73:=H 148 _ rfl;have e149:q 149=q 147+q 148:=H 149 _ rfl;have e150:q 150=q 131*q 71:=H 150 _ rfl;have e151:q 151=q 84+q 150:=H 151 _ rfl;have e152:q 152=q 134*q 72:=H 152 _ rfl;have e153:q 153=q 151+q 152:=H 153 _ rfl;have e154:q 154=q 137*q 73:=H 154 _ rfl;have e155:q 155=q 153+q 154:=H 155 _ rfl;have e156:q 156=q 47*q 143:=H 156 _ rfl;have e157:q 157=q 48*q 143:=H 157 _ rfl;have e158:q 158=q 49*q 143:=H 158 _ rfl;have e159:q 159=q 55*q 149:=H 159 _ rfl;have e160:q 160=q 56*q 149:=H 160 _ rfl;have e161:q 161=q 57*q 149:=H 161 _ rfl;have e162:q 162=q 63*q 155:=H 162 _ rfl;have e163:q 163=q 64*q 155:=H 163 _ rfl;have e164:q 164=q 65*q 155:=H 164 _ rfl;have e168:q 168=q 165*q 165:=H 168 _ rfl;have e169:q 169=q 166*q 166:=H 169 _ rfl;have e170:q 170=q 168+q 169:=H 170 _ rfl;have e171:q 171=q 167*q 167:=H 171 _ rfl;have e172:q 172=q 170+q 171:=H 172 _ rfl;have e212:q 212=q 165*fac [q 165,q 166,q 167]:=H 212 _ rfl;have e213:q 213=q 166*fac [q 165,q 166,q 167]:=H 213 _ rfl;have e214:q 214=q 167*fac [q 165,q 166,q 167]:=H 214 _ rfl;have e215:q 215=q 173*q 173:=H 215 _ rfl;have e216:q 216=q 174*q 174:=H 216 _ rfl;have e217:q 217=q 215+q 216:=H 217 _ rfl;have e218:q 218=q 175*q 175:=H 218 _ rfl;have e219:q 219=q 217+q 218:=H 219 _ rfl;have e220:q 220=q 173*fac [q 173,q 174,q 175]:=H 220 _ rfl;have e221:q 221=q 174*fac [q 173,q 174,q 175]:=H 221 _ rfl;have e222:q 222=q 175*fac [q 173,q 174,q 175]:=H 222 _ rfl;have e223:q 223=q 176*q 176:=H 223 _ rfl;have e224:q 224=q 177*q 177:=H 224 _ rfl;have e225:q 225=q 223+q 224:=H 225 _ rfl;have e226:q 226=q 178*q 178:=H 226 _ rfl;have e227:q 227=q 225+q 226:=H 227 _ rfl;have e228:q 228=q 176*fac [q 176,q 177,q 178]:=H 228 _ rfl;have e229:q 229=q 177*fac [q 176,q 177,q 178]:=H 229 _ rfl;have e230:q 230=q 178*fac [q 176,q 177,q 178]:=H 230 _ rfl;have e231:q 231=q 179*q 179:=H 231 _ rfl;have e232:q 232=q 180*q 180:=H 232 _ rfl;have e233:q 233=q 231+q 232:=H 233 _ rfl;have e234:q 234=q 181*q 181:=H 234 _ rfl;have e235:q 235=q 233+q 234:=H 235 _ rfl;have e236:q 236=q 179*fac [q 179,q 180,q 181]:=H 236 _ rfl;have e237:q 237=q 180*fac [q 179,q 180,q 181]:=H 237 _ rfl;have e238:q 238=q 181*fac [q 179,q 180,q 181]:=H 238 _ rfl;have e239:q 239=q 221*q 230:=H 239 _ rfl;have e240:q 240=q 222*q 229:=H 240 _ rfl;have e241:q 241=q 239-q 240:=H 241 _ rfl;have e242:q 242=q 222*q 228:=H 242 _ rfl;have e243:q 243=q 220*q 230:=H 243 _ rfl;have e244:q 244=q 242-q 243:=H 244 _ rfl;have e245:q 245=q 220*q 229:=H 245 _ rfl;have e246:q 246=q 221*q 228:=H 246 _ rfl;have e247:q 247=q 245-q 246:=H 247 _ rfl;have e248:q 248=q 212*q 241:=H 248 _ rfl;have e249:q 249=q 84+q 248:=H 249 _ rfl;have e250:q 250=q 213*q 244:=H 250 _ rfl;have e251:q 251=q 249+q 250:=H 251 _ rfl;have e252:q 252=q 214*q 247:=H 252 _ rfl;have e253:q 253=q 251+q 252:=H 253 _ rfl;have e284:q 284=q 229*q 214:=H 284 _ rfl;have e285:q 285=q 230*q 213:=H 285 _ rfl;have e286:q 286=q 284-q 285:=H 286 _ rfl;have e287:q 287=q 230*q 212:=H 287 _ rfl;have e288:q 288=q 228*q 214:=H 288 _ rfl;have e289:q 289=q 287-q 288:=H 289 _ rfl;have e290:q 290=q 228*q 213:=H 290 _ rfl;have e291:q 291=q 229*q 212:=H 291 _ rfl;have e292:q 292=q 290-q 291:=H 292 _ rfl;have e293:q 293=q 213*q 222:=H 293 _ rfl;have e294:q 294=q 214*q 221:=H 294 _ rfl;have e295:q 295=q 293-q 294:=H 295 _ rfl;have e296:q 296=q 214*q 220:=H 296 _ rfl;have e297:q 297=q 212*q 222:=H 297 _ rfl;have e298:q 298=q 296-q 297:=H 298 _ rfl;have e299:q 299=q 212*q 221:=H 299 _ rfl;have e300:q 300=q 213*q 220:=H 300 _ rfl;have e301:q 301=q 299-q 300:=H 301 _ rfl;have e302:q 302=q 241*q 236:=H 302 _ rfl;have e303:q 303=q 84+q 302:=H 303 _ rfl;have e304:q 304=q 244*q 237:=H 304 _ rfl;have e305:q 305=q 303+q 304:=H 305 _ rfl;have e306:q 306=q 247*q 238:=H 306 _ rfl;have e307:q 307=q 305+q 306:=H 307 _ rfl;have e308:q 308=q 286*q 236:=H 308 _ rfl;have e309:q 309=q 84+q 308:=H 309 _ rfl;have e310:q 310=q 289*q 237:=H 310 _ rfl;have e311:q 311=q 309+q 310:=H 311 _ rfl;have e312:q 312=q 292*q 238:=H 312 _ rfl;have e313:q 313=q 311+q 312:=H 313 _ rfl;have e314:q 314=q 295*q 236:=H 314 _ rfl;have e315:q 315=q 84+q 314:=H 315 _ rfl;have e316:q 316=q 298*q 237:=H 316 _ rfl;have e317:q 317=q 315+q 316:=H 317 _ rfl;have e318:q 318=q 301*q 238:=H 318 _ rfl;have e319:q 319=q 317+q 318:=H 319 _ rfl;have e320:q 320=q 212*q 307:=H 320 _ rfl;have e321:q 321=q 213*q 307:=H 321 _ rfl;have e322:q 322=q 214*q 307:=H 322 _ rfl;have e323:q 323=q 220*q 313:=H 323 _ rfl;have e324:q 324=q 221*q 313:=H 324 _ rfl;have e325:q 325=q 222*q 313:=H 325 _ rfl;have e326:q 326=q 228*q 319:=H 326 _ rfl;have e327:q 327=q 229*q 319:=H 327 _ rfl;have e328:q 328=q 230*q 319:=H 328 _ rfl;have e329:q 329=q 160*q 164:=H 329 _ rfl;have e330:q 330=q 163*q 161:=H 330 _ rfl;have e331:q 331=q 329-q 330:=H 331 _ rfl;have e332:q 332=q 163*q 158:=H 332 _ rfl;have e333:q 333=q 157*q 164:=H 333 _ rfl;have e334:q 334=q 332-q 333:=H 334 _ rfl;have e335:q 335=q 157*q 161:=H 335 _ rfl;have e336:q 336=q 160*q 158:=H 336 _ rfl;have e337:q 337=q 335-q 336:=H 337 _ rfl;have e338:q 338=q 161*q 162:=H 338 _ rfl;have e339:q 339=q 164*q 159:=H 339 _ rfl;have e340:q 340=q 338-q 339:=H 340 _ rfl;have e341:q 341=q 164*q 156:=H 341 _ rfl;have e342:q 342=q 158*q 162:=H 342 _ rfl;have e343:q 343=q 341-q 342:=H 343 _ rfl;have e344:q 344=q 158*q 159:=H 344 _ rfl;have e345:q 345=q 161*q 156:=H 345 _ rfl;have e346:q 346=q 344-q 345:=H 346 _ rfl;have e347:q 347=q 159*q 163:=H 347 _ rfl;have e348:q 348=q 162*q 160:=H 348 _ rfl;have e349:q 349=q 347-q 348:=H 349 _ rfl;have e350:q 350=q 162*q 157:=H 350 _ rfl;have e351:q 351=q 156*q 163:=H 351 _ rfl;have e352:q 352=q 350-q 351:=H 352 _ rfl;have e353:q 353=q 156*q 160:=H 353 _ rfl;have e354:q 354=q 159*q 157:=H 354 _ rfl;have e355:q 355=q 353-q 354:=H 355 _ rfl;have e356:q 356=q 331*q 320:=H 356 _ rfl;have e357:q 357=q 84+q 356:=H 357 _ rfl;have e358:q 358=q 334*q 323:=H 358 _ rfl;have e359:q 359=q 357+q 358:=H 359 _ rfl;have e360:q 360=q 337*q 326:=H 360 _ rfl;have e361:q 361=q 359+q 360:=H 361 _ rfl;have e362:q 362=q 340*q 320:=H 362 _ rfl;have e363:q 363=q 84+q 362:=H 363 _ rfl;have e364:q 364=q 343*q 323:=H 364 _ rfl;have e365:q 365=q 363+q 364:=H 365 _ rfl;have e366:q 366=q 346*q 326:=H 366 _ rfl;have e367:q 367=q 365+q 366:=H 367 _ rfl;have e368:q 368=q 349*q 320:=H 368 _ rfl;have e369:q 369=q 84+q 368:=H 369 _ rfl;have e370:q 370=q 352*q 323:=H 370 _ rfl;have e371:q 371=q 369+q 370:=H 371 _ rfl;have e372:q 372=q 355*q 326:=H 372 _ rfl;have e373:q 373=q 371+q 372:=H 373 _ rfl;have e374:q 374=q 331*q 321:=H 374 _ rfl;have e375:q 375=q 84+q 374:=H 375 _ rfl;have e376:q 376=q 334*q 324:=H 376 _ rfl;have e377:q 377=q 375+q 376:=H 377 _ rfl;have e378:q 378=q 337*q 327:=H 378 _ rfl;have e379:q 379=q 377+q 378:=H 379 _ rfl;have e380:q 380=q 340*q 321:=H 380 _ rfl;have e381:q 381=q 84+q 380:=H 381 _ rfl;have e382:q 382=q 343*q 324:=H 382 _ rfl;have e383:q 383=q 381+q 382:=H 383 _ rfl;have e384:q 384=q 346*q 327:=H 384 _ rfl;have e385:q 385=q 383+q 384:=H 385 _ rfl;have e386:q 386=q 349*q 321:=H 386 _ rfl;have e387:q 387=q 84+q 386:=H 387 _ rfl;have e388:q 388=q 352*q 324:=H 388 _ rfl;have e389:q 389=q 387+q 388:=H 389 _ rfl;have e390:q 390=q 355*q 327:=H 390 _ rfl;have e391:q 391=q 389+q 390:=H 391 _ rfl;have e392:q 392=q 331*q 322:=H 392 _ rfl;have e393:q 393=q 84+q 392:=H 393 _ rfl;have e394:q 394=q 334*q 325:=H 394 _ rfl;have e395:q 395=q 393+q 394:=H 395 _ rfl;have e396:q 396=q 337*q 328:=H 396 _ rfl;have e397:q 397=q 395+q 396:=H 397 _ rfl;have e398:q 398=q 340*q 322:=H 398 _ rfl;have e399:q 399=q 84+q 398:=H 399 _ rfl;have e400:q 400=q 343*q 325:=H 400 _ rfl;have e401:q 401=q 399+q 400:=H 401 _ rfl;have e402:q 402=q 346*q 328:=H 402 _ rfl;have e403:q 403=q 401+q 402:=H 403 _ rfl;have e404:q 404=q 349*q 322:=H 404 _ rfl;have e405:q 405=q 84+q 404:=H 405 _ rfl;have e406:q 406=q 352*q 325:=H 406 _ rfl;have e407:q 407=q 405+q 406:=H 407 _ rfl;have e408:q 408=q 355*q 328:=H 408 _ rfl;have e409:q 409=q 407+q 408:=H 409 _ rfl;have e410:q 410=q 361*fac [q 361,q 367,q 373,q 379,q 385,q 391,q 397,q 403,q 409]:=H 410 _ rfl;have e411:q 411=q 367*fac [q 361,q 367,q 373,q 379,q 385,q 391,q 397,q 403,q 409]:=H 411 _ rfl;have e412:q 412=q 373*fac [q 361,q 367,q 373,q 379,q 385,q 391,q 397,q 403,q 409]:=H 412 _ rfl;have e413:q 413=q 379*fac [q 361,q 367,q 373,q 379,q 385,q 391,q 397,q 403,q 409]:=H 413 _ rfl;have e414:q 414=q 385*fac [q 361,q 367,q 373,q 379,q 385,q 391,q 397,q 403,q 409]:=H 414 _ rfl;have e415:q 415=q 391*fac [q 361,q 367,q 373,q 379,q 385,q 391,q 397,q 403,q 409]:=H 415 _ rfl;have e416:q 416=q 397*fac [q 361,q 367,q 373,q 379,q 385,q 391,q 397,q 403,q 409]:=H 416 _ rfl;have e417:q 417=q 403*fac [q 361,q 367,q 373,q 379,q 385,q 391,q 397,q 403,q 409]:=H 417 _ rfl;have e418:q 418=q 409*fac [q 361,q 367,q 373,q 379,q 385,q 391,q 397,q 403,q 409]:=H 418 _ rfl;have e419:q 419=q 410*q 0:=H 419 _ rfl;have e420:q 420=q 411*q 1:=H 420 _ rfl;have e421:q 421=q 412*q 2:=H 421 _ rfl;have e422:q 422=q 419+q 420:=H 422 _ rfl;have e423:q 423=q 422+q 421:=H 423 _ rfl;have e424:q 424=q 413*q 0:=H 424 _ rfl;have e425:q 425=q 414*q 1:=H 425 _ rfl;have e426:q 426=q 415*q 2:=H 426 _ rfl;have e427:q 427=q 424+q 425:=H 427 _ rfl;have e428:q 428=q 427+q 426:=H 428 _ rfl;have e429:q 429=q 416*q 0:=H 429 _ rfl;have e430:q 430=q 417*q 1:=H 430 _ rfl;have e431:q 431=q 418*q 2:=H 431 _ rfl;have e432:q 432=q 429+q 430:=H 432 _ rfl;have e433:q 433=q 432+q 431:=H 433 _ rfl;have e434:q 434=q 428*q 165:=H 434 _ rfl;have e435:q 435=q 423*q 166:=H 435 _ rfl;have e436:q 436=q 434-q 435:=H 436 _ rfl;have e437:q 437=q 433*q 165:=H 437 _ rfl;have e438:q 438=q 423*q 167:=H 438 _ rfl;have e439:q 439=q 437-q 438:=H 439 _ rfl;have e440:q 440=q 433*q 166:=H 440 _ rfl;have e441:q 441=q 428*q 167:=H 441 _ rfl;have e442:q 442=q 440-q 441:=H 442 _ rfl;have e443:q 443=q 436*q 436:=H 443 _ rfl;have e444:q 444=q 439*q 439:=H 444 _ rfl;have e445:q 445=q 443+q 444:=H 445 _ rfl;have e446:q 446=q 442*q 442:=H 446 _ rfl;have e447:q 447=q 445+q 446:=H 447 _ rfl;have e448:q 448=q 410*q 8:=H 448 _ rfl;have e449:q 449=q 411*q 9:=H 449 _ rfl;have e450:q 450=q 412*q 10:=H 450 _ rfl;have e451:q 451=q 448+q 449:=H 451 _ rfl;have e452:q 452=q 451+q 450:=H 452 _ rfl;have e453:q 453=q 413*q 8:=H 453 _ rfl;have e454:q 454=q 414*q 9:=H 454 _ rfl;have e455:q 455=q 415*q 10:=H 455 _ rfl;have e456:q 456=q 453+q 454:=H 456 _ rfl;have e457:q 457=q 456+q 455:=H 457 _ rfl;have e458:q 458=q 416*q 8:=H 458 _ rfl;have e459:q 459=q 417*q 9:=H 459 _ rfl;have e460:q 460=q 418*q 10:=H 460 _ rfl;have e461:q 461=q 458+q 459:=H 461 _ rfl;have e462:q 462=q 461+q 460:=H 462 _ rfl;have e463:q 463=q 457*q 173:=H 463 _ rfl;have e464:q 464=q 452*q 174:=H 464 _ rfl;have e465:q 465=q 463-q 464:=H 465 _ rfl;have e466:q 466=q 462*q 173:=H 466 _ rfl;have e467:q 467=q 452*q 175:=H 467 _ rfl;have e468:q 468=q 466-q 467:=H 468 _ rfl;have e469:q 469=q 462*q 174:=H 469 _ rfl;have e470:q 470=q 457*q 175:=H 470 _ rfl;have e471:q 471=q 469-q 470:=H 471 _ rfl;have e472:q 472=q 465*q 465:=H 472 _ rfl;have e473:q 473=q 468*q 468:=H 473 _ rfl;have e474:q 474=q 472+q 473:=H 474 _ rfl;have e475:q 475=q 471*q 471:=H 475 _ rfl;have e476:q 476=q 474+q 475:=H 476 _ rfl;have e477:q 477=q 410*q 11:=H 477 _ rfl;have e478:q 478=q 411*q 12:=H 478 _ rfl;have e479:q 479=q 412*q 13:=H 479 _ rfl;have e480:q 480=q 477+q 478:=H 480 _ rfl;have e481:q 481=q 480+q 479:=H 481 _ rfl;have e482:q 482=q 413*q 11:=H 482 _ rfl;have e483:q 483=q 414*q 12:=H 483 _ rfl;have e484:q 484=q 415*q 13:=H 484 _ rfl;have e485:q 485=q 482+q 483:=H 485 _ rfl;have e486:q 486=q 485+q 484:=H 486 _ rfl;have e487:q 487=q 416*q 11:=H 487 _ rfl;have e488:q 488=q 417*q 12:=H 488 _ rfl;have e489:q 489=q 418*q 13:=H 489 _ rfl;have e490:q 490=q 487+q 488:=H 490 _ rfl;have e491:q 491=q 490+q 489:=H 491 _ rfl;have e492:q 492=q 486*q 176:=H 492 _ rfl;have e493:q 493=q 481*q 177:=H 493 _ rfl;have e494:q 494=q 492-q 493:=H 494 _ rfl;have e495:q 495=q 491*q 176:=H 495 _ rfl;have e496:q 496=q 481*q 178:=H 496 _ rfl;have e497:q 497=q 495-q 496:=H 497 _ rfl;have e498:q 498=q 491*q 177:=H 498 _ rfl;have e499:q 499=q 486*q 178:=H 499 _ rfl;have e500:q 500=q 498-q 499:=H 500 _ rfl;have e501:q 501=q 494*q 494:=H 501 _ rfl;have e502:q 502=q 497*q 497:=H 502 _ rfl;have e503:q 503=q 501+q 502:=H 503 _ rfl;have e504:q 504=q 500*q 500:=H 504 _ rfl;have e505:q 505=q 503+q 504:=H 505 _ rfl;have e506:q 506=q 410*q 14:=H 506 _ rfl;have e507:q 507=q 411*q 15:=H 507 _ rfl;have e508:q 508=q 412*q 16:=H 508 _ rfl;have e509:q 509=q 506+q 507:=H 509 _ rfl;have e510:q 510=q 509+q 508:=H 510 _ rfl;have e511:q 511=q 413*q 14:=H 511 _ rfl;have e512:q 512=q 414*q 15:=H 512 _ rfl;have e513:q 513=q 415*q 16:=H 513 _ rfl;have e514:q 514=q 511+q 512:=H 514 _ rfl;have e515:q 515=q 514+q 513:=H 515 _ rfl;have e516:q 516=q 416*q 14:=H 516 _ rfl;have e517:q 517=q 417*q 15:=H 517 _ rfl;have e518:q 518=q 418*q 16:=H 518 _ rfl;have e519:q 519=q 516+q 517:=H 519 _ rfl;have e520:q 520=q 519+q 518:=H 520 _ rfl;have e521:q 521=q 515*q 179:=H 521 _ rfl;have e522:q 522=q 510*q 180:=H 522 _ rfl;have e523:q 523=q 521-q 522:=H 523 _ rfl;have e524:q 524=q 520*q 179:=H 524 _ rfl;have e525:q 525=q 510*q 181:=H 525 _ rfl;have e526:q 526=q 524-q 525:=H 526 _ rfl;have e527:q 527=q 520*q 180:=H 527 _ rfl;have e528:q 528=q 515*q 181:=H 528 _ rfl;have e529:q 529=q 527-q 528:=H 529 _ rfl;have e530:q 530=q 523*q 523:=H 530 _ rfl;have e531:q 531=q 526*q 526:=H 531 _ rfl;have e532:q 532=q 530+q 531:=H 532 _ rfl;have e533:q 533=q 529*q 529:=H 533 _ rfl;have e534:q 534=q 532+q 533:=H 534 _ rfl;have e535:q 535=q 361*q 361:=H 535 _ rfl;have e536:q 536=q 367*q 367:=H 536 _ rfl;have e537:q 537=q 535+q 536:=H 537 _ rfl;have e538:q 538=q 373*q 373:=H 538 _ rfl;have e539:q 539=q 537+q 538:=H 539 _ rfl;have e540:q 540=q 379*q 379:=H 540 _ rfl;have e541:q 541=q 539+q 540:=H 541 _ rfl;have e542:q 542=q 385*q 385:=H 542 _ rfl;have e543:q 543=q 541+q 542:=H 543 _ rfl;have e544:q 544=q 391*q 391:=H 544 _ rfl;have e545:q 545=q 543+q 544:=H 545 _ rfl;have e546:q 546=q 397*q 397:=H 546 _ rfl;have e547:q 547=q 545+q 546:=H 547 _ rfl;have e548:q 548=q 403*q 403:=H 548 _ rfl;have e549:q 549=q 547+q 548:=H 549 _ rfl;have e550:q 550=q 409*q 409:=H 550 _ rfl;have e551:q 551=q 549+q 550:=H 551 _ rfl;have e552:q 552=q 414*q 418:=H 552 _ rfl;have e553:q 553=q 415*q 417:=H 553 _ rfl;have e554:q 554=q 552-q 553:=H 554 _ rfl;have e555:q 555=q 410*q 554:=H 555 _ rfl;have e556:q 556=q 413*q 418:=H 556 _ rfl;have e557:q 557=q 415*q 416:=H 557 _ rfl;have e558:q 558=q 556-q 557:=H 558 _ rfl;have e559:q 559=q 411*q 558:=H 559 _ rfl;have e560:q 560=-q 559:=H 560 _ rfl;have e561:q 561=q 413*q 417:=H 561 _ rfl;have e562:q 562=q 414*q 416:=H 562 _ rfl;have e563:q 563=q 561-q 562:=H 563 _ rfl;have e564:q 564=q 412*q 563:=H 564 _ rfl;have e565:q 565=q 555+q 560:=H 565 _ rfl;have e566:q 566=q 565+q 564:=H 566 _ rfl
 intro u0 u1 u2 u3 u4 u5 u6 u7 u8 u9 u10 u11 u12 u13 u14 u15
 have a0 := V3.mk_pf (fun h => u0 ((V3.sq3 e3 e4 e5 e6 e7).2 h)) e47 e48 e49
 have a1 := V3.mk_pf (fun h => u1 ((V3.sq3 e50 e51 e52 e53 e54).2 h)) e55 e56 e57
 have a2 := V3.mk_pf (fun h => u2 ((V3.sq3 e58 e59 e60 e61 e62).2 h)) e63 e64 e65
 have a3 := V3.mk_pf (fun h => u3 ((V3.sq3 e66 e67 e68 e69 e70).2 h)) e71 e72 e73
 have aw0 : q 143=V3.dm (⟨q 55,q 56,q 57⟩ : V3) (⟨q 63,q 64,q 65⟩ : V3) (⟨q 71,q 72,q 73⟩ : V3) := ((V3.mk_dt e84 e143 e141 e139 e138 e140 e142).trans ((congrArg (fun v => V3.dt v _) (V3.mk_cr e76 e79 e82 e74 e75 e77 e78 e80 e81)).trans (V3.dm_cy _ _ _)))
 have an0 : V3.dm (⟨q 55,q 56,q 57⟩ : V3) (⟨q 63,q 64,q 65⟩ : V3) (⟨q 71,q 72,q 73⟩ : V3) ≠ 0 := fun h => u5 (aw0.trans h)
 have aw1 : q 149=V3.dm (⟨q 63,q 64,q 65⟩ : V3) (⟨q 47,q 48,q 49⟩ : V3) (⟨q 71,q 72,q 73⟩ : V3) := ((V3.mk_dt e84 e149 e147 e145 e144 e146 e148).trans ((congrArg (fun v => V3.dt v _) (V3.mk_cr e122 e125 e128 e120 e121 e123 e124 e126 e127)).trans (V3.dm_cy _ _ _)))
 have an1 : V3.dm (⟨q 63,q 64,q 65⟩ : V3) (⟨q 47,q 48,q 49⟩ : V3) (⟨q 71,q 72,q 73⟩ : V3) ≠ 0 := fun h => u6 (aw1.trans h)
 have aw2 : q 155=V3.dm (⟨q 47,q 48,q 49⟩ : V3) (⟨q 55,q 56,q 57⟩ : V3) (⟨q 71,q 72,q 73⟩ : V3) := ((V3.mk_dt e84 e155 e153 e151 e150 e152 e154).trans ((congrArg (fun v => V3.dt v _) (V3.mk_cr e131 e134 e137 e129 e130 e132 e133 e135 e136)).trans (V3.dm_cy _ _ _)))
 have an2 : V3.dm (⟨q 47,q 48,q 49⟩ : V3) (⟨q 55,q 56,q 57⟩ : V3) (⟨q 71,q 72,q 73⟩ : V3) ≠ 0 := fun h => u7 (aw2.trans h)
 have aw3 : q 89=V3.dm (⟨q 47,q 48,q 49⟩ : V3) (⟨q 55,q 56,q 57⟩ : V3) (⟨q 63,q 64,q 65⟩ : V3) := (show (q 89)=V3.dm (⟨q 47,q 48,q 49⟩ : V3) (⟨q 55,q 56,q 57⟩ : V3) (⟨q 63,q 64,q 65⟩ : V3) from (V3.mk_dt e84 e89 e87 e85 e83 e86 e88).trans (congrArg _ (V3.mk_cr e76 e79 e82 e74 e75 e77 e78 e80 e81)))
 have an3 : V3.dm (⟨q 47,q 48,q 49⟩ : V3) (⟨q 55,q 56,q 57⟩ : V3) (⟨q 63,q 64,q 65⟩ : V3) ≠ 0 := fun h => u4 (aw3.trans h)
 have af0 := (V3.mk_sm e156 e157 e158).trans (congrArg (V3.sm _) aw0)
 have af1 := (V3.mk_sm e159 e160 e161).trans (congrArg (V3.sm _) aw1)
 have af2 := (V3.mk_sm e162 e163 e164).trans (congrArg (V3.sm _) aw2)
 have ad : V3.dm (⟨q 156,q 157,q 158⟩ : V3) (⟨q 159,q 160,q 161⟩ : V3) (⟨q 162,q 163,q 164⟩ : V3) ≠ 0 := by
  rw [af0,af1,af2,V3.dm_sm]
  exact mul_ne (mul_ne (mul_ne an0 an1) an2) an3
 have b0 := V3.mk_pf (fun h => u8 ((V3.sq3 e168 e169 e170 e171 e172).2 h)) e212 e213 e214
 have b1 := V3.mk_pf (fun h => u9 ((V3.sq3 e215 e216 e217 e218 e219).2 h)) e220 e221 e222
 have b2 := V3.mk_pf (fun h => u10 ((V3.sq3 e223 e224 e225 e226 e227).2 h)) e228 e229 e230
 have b3 := V3.mk_pf (fun h => u11 ((V3.sq3 e231 e232 e233 e234 e235).2 h)) e236 e237 e238
 have bw0 : q 307=V3.dm (⟨q 220,q 221,q 222⟩ : V3) (⟨q 228,q 229,q 230⟩ : V3) (⟨q 236,q 237,q 238⟩ : V3) := ((V3.mk_dt e84 e307 e305 e303 e302 e304 e306).trans ((congrArg (fun v => V3.dt v _) (V3.mk_cr e241 e244 e247 e239 e240 e242 e243 e245 e246)).trans (V3.dm_cy _ _ _)))
 have bn0 : V3.dm (⟨q 220,q 221,q 222⟩ : V3) (⟨q 228,q 229,q 230⟩ : V3) (⟨q 236,q 237,q 238⟩ : V3) ≠ 0 := fun h => u13 (bw0.trans h)
 have bw1 : q 313=V3.dm (⟨q 228,q 229,q 230⟩ : V3) (⟨q 212,q 213,q 214⟩ : V3) (⟨q 236,q 237,q 238⟩ : V3) := ((V3.mk_dt e84 e313 e311 e309 e308 e310 e312).trans ((congrArg (fun v => V3.dt v _) (V3.mk_cr e286 e289 e292 e284 e285 e287 e288 e290 e291)).trans (V3.dm_cy _ _ _)))
 have bn1 : V3.dm (⟨q 228,q 229,q 230⟩ : V3) (⟨q 212,q 213,q 214⟩ : V3) (⟨q 236,q 237,q 238⟩ : V3) ≠ 0 := fun h => u14 (bw1.trans h)
 have bw2 : q 319=V3.dm (⟨q 212,q 213,q 214⟩ : V3) (⟨q 220,q 221,q 222⟩ : V3) (⟨q 236,q 237,q 238⟩ : V3) := ((V3.mk_dt e84 e319 e317 e315 e314 e316 e318).trans ((congrArg (fun v => V3.dt v _) (V3.mk_cr e295 e298 e301 e293 e294 e296 e297 e299 e300)).trans (V3.dm_cy _ _ _)))
 have bn2 : V3.dm (⟨q 212,q 213,q 214⟩ : V3) (⟨q 220,q 221,q 222⟩ : V3) (⟨q 236,q 237,q 238⟩ : V3) ≠ 0 := fun h => u15 (bw2.trans h)
 have bw3 : q 253=V3.dm (⟨q 212,q 213,q 214⟩ : V3) (⟨q 220,q 221,q 222⟩ : V3) (⟨q 228,q 229,q 230⟩ : V3) := (show (q 253)=V3.dm (⟨q 212,q 213,q 214⟩ : V3) (⟨q 220,q 221,q 222⟩ : V3) (⟨q 228,q 229,q 230⟩ : V3) from (V3.mk_dt e84 e253 e251 e249 e248 e250 e252).trans (congrArg _ (V3.mk_cr e241 e244 e247 e239 e240 e242 e243 e245 e246)))
 have bn3 : V3.dm (⟨q 212,q 213,q 214⟩ : V3) (⟨q 220,q 221,q 222⟩ : V3) (⟨q 228,q 229,q 230⟩ : V3) ≠ 0 := fun h => u12 (bw3.trans h)
 have bf0 := (V3.mk_sm e320 e321 e322).trans (congrArg (V3.sm _) bw0)
 have bf1 := (V3.mk_sm e323 e324 e325).trans (congrArg (V3.sm _) bw1)
 have bf2 := (V3.mk_sm e326 e327 e328).trans (congrArg (V3.sm _) bw2)
 have bd : V3.dm (⟨q 320,q 321,q 322⟩ : V3) (⟨q 323,q 324,q 325⟩ : V3) (⟨q 326,q 327,q 328⟩ : V3) ≠ 0 := by
  rw [bf0,bf1,bf2,V3.dm_sm]
  exact mul_ne (mul_ne (mul_ne bn0 bn1) bn2) bn3
 have r0 : (⟨q 361,q 367,q 373⟩ : V3)=V3.rw3 (⟨q 156,q 157,q 158⟩ : V3) (⟨q 159,q 160,q 161⟩ : V3) (⟨q 162,q 163,q 164⟩ : V3) ⟨(⟨q 320,q 321,q 322⟩ : V3).x,(⟨q 323,q 324,q 325⟩ : V3).x,(⟨q 326,q 327,q 328⟩ : V3).x⟩ := (V3.mk_mv (V3.mk_dt e84 e361 e359 e357 e356 e358 e360) (V3.mk_dt e84 e367 e365 e363 e362 e364 e366) (V3.mk_dt e84 e373 e371 e369 e368 e370 e372)).trans (by rw [V3.mk_cr e331 e334 e337 e329 e330 e332 e333 e335 e336,V3.mk_cr e340 e343 e346 e338 e339 e341 e342 e344 e345,V3.mk_cr e349 e352 e355 e347 e348 e350 e351 e353 e354]; rfl)
 have r1 : (⟨q 379,q 385,q 391⟩ : V3)=V3.rw3 (⟨q 156,q 157,q 158⟩ : V3) (⟨q 159,q 160,q 161⟩ : V3) (⟨q 162,q 163,q 164⟩ : V3) ⟨(⟨q 320,q 321,q 322⟩ : V3).y,(⟨q 323,q 324,q 325⟩ : V3).y,(⟨q 326,q 327,q 328⟩ : V3).y⟩ := (V3.mk_mv (V3.mk_dt e84 e379 e377 e375 e374 e376 e378) (V3.mk_dt e84 e385 e383 e381 e380 e382 e384) (V3.mk_dt e84 e391 e389 e387 e386 e388 e390)).trans (by rw [V3.mk_cr e331 e334 e337 e329 e330 e332 e333 e335 e336,V3.mk_cr e340 e343 e346 e338 e339 e341 e342 e344 e345,V3.mk_cr e349 e352 e355 e347 e348 e350 e351 e353 e354]; rfl)
 have r2 : (⟨q 397,q 403,q 409⟩ : V3)=V3.rw3 (⟨q 156,q 157,q 158⟩ : V3) (⟨q 159,q 160,q 161⟩ : V3) (⟨q 162,q 163,q 164⟩ : V3) ⟨(⟨q 320,q 321,q 322⟩ : V3).z,(⟨q 323,q 324,q 325⟩ : V3).z,(⟨q 326,q 327,q 328⟩ : V3).z⟩ := (V3.mk_mv (V3.mk_dt e84 e397 e395 e393 e392 e394 e396) (V3.mk_dt e84 e403 e401 e399 e398 e400 e402) (V3.mk_dt e84 e409 e407 e405 e404 e406 e408)).trans (by rw [V3.mk_cr e331 e334 e337 e329 e330 e332 e333 e335 e336,V3.mk_cr e340 e343 e346 e338 e339 e341 e342 e344 e345,V3.mk_cr e349 e352 e355 e347 e348 e350 e351 e353 e354]; rfl)
 have dR : V3.dm (⟨q 361,q 367,q 373⟩ : V3) (⟨q 379,q 385,q 391⟩ : V3) (⟨q 397,q 403,q 409⟩ : V3) ≠ 0 := by
  rw [r0,r1,r2,pf_dm]
  exact mul_ne (mul_ne ad ad) bd
 have hg : fac [q 361,q 367,q 373,q 379,q 385,q 391,q 397,q 403,q 409] ≠ 0 := fun h => V3.dm3_ne dR (V3.no_iff.2 ⟨(fac9_y h).1.1.1.1.1.1.1.1,(fac9_y h).1.1.1.1.1.1.1.2,(fac9_y h).1.1.1.1.1.1.2⟩)
 have h0 := V3.mk_sm e410 e411 e412
 have h1 := V3.mk_sm e413 e414 e415
 have h2 := V3.mk_sm e416 e417 e418
 have m0 := (show V3.mv (⟨q 410,q 411,q 412⟩ : V3) (⟨q 413,q 414,q 415⟩ : V3) (⟨q 416,q 417,q 418⟩ : V3) (⟨q 47,q 48,q 49⟩ : V3)=V3.sm (⟨q 212,q 213,q 214⟩ : V3) _ from by rw [h0,h1,h2,r0,r1,r2,pf_mv,pf_i0 af0,bf0,V3.sm_sm])
 have l0 := pf_al b0 a0 m0 (V3.mk_mv (V3.mk_d3 e423 e422 e419 e420 e421) (V3.mk_d3 e428 e427 e424 e425 e426) (V3.mk_d3 e433 e432 e429 e430 e431))
 have m1 := (show V3.mv (⟨q 410,q 411,q 412⟩ : V3) (⟨q 413,q 414,q 415⟩ : V3) (⟨q 416,q 417,q 418⟩ : V3) (⟨q 55,q 56,q 57⟩ : V3)=V3.sm (⟨q 220,q 221,q 222⟩ : V3) _ from by rw [h0,h1,h2,r0,r1,r2,pf_mv,pf_i1 af1,bf1,V3.sm_sm])
 have l1 := pf_al b1 a1 m1 (V3.mk_mv (V3.mk_d3 e452 e451 e448 e449 e450) (V3.mk_d3 e457 e456 e453 e454 e455) (V3.mk_d3 e462 e461 e458 e459 e460))
 have m2 := (show V3.mv (⟨q 410,q 411,q 412⟩ : V3) (⟨q 413,q 414,q 415⟩ : V3) (⟨q 416,q 417,q 418⟩ : V3) (⟨q 63,q 64,q 65⟩ : V3)=V3.sm (⟨q 228,q 229,q 230⟩ : V3) _ from by rw [h0,h1,h2,r0,r1,r2,pf_mv,pf_i2 af2,bf2,V3.sm_sm])
 have l2 := pf_al b2 a2 m2 (V3.mk_mv (V3.mk_d3 e481 e480 e477 e478 e479) (V3.mk_d3 e486 e485 e482 e483 e484) (V3.mk_d3 e491 e490 e487 e488 e489))
 have m3 := (show V3.mv (⟨q 410,q 411,q 412⟩ : V3) (⟨q 413,q 414,q 415⟩ : V3) (⟨q 416,q 417,q 418⟩ : V3) (⟨q 71,q 72,q 73⟩ : V3)=V3.sm (⟨q 236,q 237,q 238⟩ : V3) _ from by rw [h0,h1,h2,r0,r1,r2,pf_mv,pf_i3 af0 af1 af2 bf0 bf1 bf2])
 have l3 := pf_al b3 a3 m3 (V3.mk_mv (V3.mk_d3 e510 e509 e506 e507 e508) (V3.mk_d3 e515 e514 e511 e512 e513) (V3.mk_d3 e520 e519 e516 e517 e518))
 have hw : ¬ (q 566=0) := by
  rw [V3.mk_det e566 e565 e560 e555 e559 e564 e554 e558 e563 e552 e553 e556 e557 e561 e562,h0,h1,h2,V3.dm_sm]
  exact mul_ne (mul_ne (mul_ne hg hg) hg) dR
 exact ⟨((V3.sq3 e443 e444 e445 e446 e447).2 (pf_sh l0 e436 e439 e442 e434 e435 e437 e438 e440 e441)),((V3.sq3 e472 e473 e474 e475 e476).2 (pf_sh l1 e465 e468 e471 e463 e464 e466 e467 e469 e470)),((V3.sq3 e501 e502 e503 e504 e505).2 (pf_sh l2 e494 e497 e500 e492 e493 e495 e496 e498 e499)),((V3.sq3 e530 e531 e532 e533 e534).2 (pf_sh l3 e523 e526 e529 e521 e522 e524 e525 e527 e528)),(fun h => V3.dm3_ne dR (pf_s9 e535 e536 e537 e538 e539 e540 e541 e542 e543 e544 e545 e546 e547 e548 e549 e550 e551 h)),hw⟩
def pU_cs : List (FuncId × Nat) := [(124,60),(52,61),(53,62),(36,63),(102,63),(272,64)]
def pU_G : Memo := [(31,[rA [410,411,412,413,414,415,416,417,418]],r1 566),(35,[tA [410,411,412,413,414,415,416,417,418]],rA [410,411,412,413,414,415,416,417,418]),(125,[qA [220,221,222],qA [313]],qA [323,324,325]),(125,[qA [212,213,214],qA [307]],qA [320,321,322]),(31,[rA [165,166,167,173,174,175,176,177,178]],r1 283),(31,[rA [179,180,181,165,166,167,173,174,175]],r1 268),(123,[qA [220,221,222],qA [228,229,230]],qA [241,244,247]),(31,[rA [176,177,178,179,180,181,165,166,167]],r1 211),(31,[rA [173,174,175,176,177,178,179,180,181]],r1 196),(220,[qA [156,157,158,159,160,161,162,163,164]],qA [156,159,162,157,160,163,158,161,164]),(125,[qA [63,64,65],qA [155]],qA [162,163,164]),(125,[qA [55,56,57],qA [149]],qA [159,160,161]),(125,[qA [47,48,49],qA [143]],qA [156,157,158]),(31,[rA [0,1,2,8,9,10,11,12,13]],r1 119),(31,[rA [14,15,16,0,1,2,8,9,10]],r1 104),(123,[qA [55,56,57],qA [63,64,65]],qA [76,79,82]),(31,[rA [11,12,13,14,15,16,0,1,2]],r1 46),(31,[rA [8,9,10,11,12,13,14,15,16]],r1 31)]
theorem pU_g0 : memoChk (sx Tryz.prog pU_N [] [] pU_L pU_C pU_Z (prC [22])) pU_cs 4 18 (pU_G.drop 0)=true := by kernel_rfl
theorem pU_memoG {q : Nat→Rat} {σ : Nat→ByteArray} {w : World} (hσ : ∀ j,(σ j).size≤1048576) (hq : ∀ (a : Nat) nd,pU_N[a]? = some nd→q a=valN σ q nd) (h0 : ∀ a,pU_N.length≤a→q a=0) (hp : PreS w) : MemoAll pU_N pU_L pU_C pU_Z q σ [22] w pU_G := by
 have Y : Hy pU_N [] pU_L pU_C pU_Z q σ := hy_ofW hσ pU_wf pU_sz pU_lt pU_cn hq h0 trivial
 have hc : ∀ f ∈ ([22] : List FuncId),Closed f := by simp [closed_projected]
 have hm : (Tryz.prog).follows .mixedOrders=true := by kernel_rfl
 exact (memoAll_chk (M := pU_G.drop 0) Y hc hm hp 18 pU_g0 memoAll_nil)
def pU_H0 : List (Nat × Nat × Nat × Nat) := [(0,7,0,1),(0,31,0,1)]
def pU_H1 : List (Nat × Nat × Nat × Nat) := [(0,7,0,1),(0,31,0,0),(0,46,0,1)]
def pU_H2 : List (Nat × Nat × Nat × Nat) := [(0,7,0,0),(0,54,0,1),(0,31,0,1)]
def pU_H3 : List (Nat × Nat × Nat × Nat) := [(0,7,0,0),(0,54,0,0),(0,62,0,1),(0,31,0,1)]
def pU_H4 : List (Nat × Nat × Nat × Nat) := [(0,7,0,0),(0,54,0,0),(0,62,0,0),(0,70,0,1),(0,31,0,1)]
def pU_H5 : List (Nat × Nat × Nat × Nat) := [(0,7,0,0),(0,54,0,0),(0,62,0,0),(0,70,0,0),(0,89,0,1),(0,31,0,1)]
def pU_H6 : List (Nat × Nat × Nat × Nat) := [(0,7,0,0),(0,54,0,0),(0,62,0,0),(0,70,0,0),(0,89,0,1),(0,31,0,0),(0,46,0,1)]
def pU_H7 : List (Nat × Nat × Nat × Nat) := [(0,7,0,0),(0,54,0,0),(0,62,0,0),(0,70,0,0),(0,89,0,1),(0,31,0,0),(0,46,0,0),(0,104,0,1)]
def pU_H8 : List (Nat × Nat × Nat × Nat) := [(0,7,0,0),(0,54,0,0),(0,62,0,0),(0,70,0,0),(0,89,0,1),(0,31,0,0),(0,46,0,0),(0,104,0,0),(0,119,0,1)]
def pU_H9 : List (Nat × Nat × Nat × Nat) := [(0,7,0,0),(0,54,0,0),(0,62,0,0),(0,70,0,0),(0,89,0,0),(0,143,0,1),(0,31,0,1)]
def pU_H10 : List (Nat × Nat × Nat × Nat) := [(0,7,0,0),(0,54,0,0),(0,62,0,0),(0,70,0,0),(0,89,0,0),(0,143,0,0),(0,149,0,1),(0,31,0,0),(0,46,0,1)]
def pU_H11 : List (Nat × Nat × Nat × Nat) := [(0,7,0,0),(0,54,0,0),(0,62,0,0),(0,70,0,0),(0,89,0,0),(0,143,0,0),(0,149,0,0),(0,155,0,1),(0,31,0,0),(0,46,0,0),(0,104,0,1)]
def pU_H12 : List (Nat × Nat × Nat × Nat) := [(0,7,0,0),(0,54,0,0),(0,62,0,0),(0,70,0,0),(0,89,0,0),(0,143,0,0),(0,149,0,0),(0,155,0,0),(0,172,0,1),(0,31,0,0),(0,46,0,0),(0,104,0,0),(0,119,0,0),(0,196,0,1)]
def pU_H13 : List (Nat × Nat × Nat × Nat) := [(0,7,0,0),(0,54,0,0),(0,62,0,0),(0,70,0,0),(0,89,0,0),(0,143,0,0),(0,149,0,0),(0,155,0,0),(0,172,0,1),(0,31,0,0),(0,46,0,0),(0,104,0,0),(0,119,0,0),(0,196,0,0),(0,211,0,1)]
def pU_H14 : List (Nat × Nat × Nat × Nat) := [(0,7,0,0),(0,54,0,0),(0,62,0,0),(0,70,0,0),(0,89,0,0),(0,143,0,0),(0,149,0,0),(0,155,0,0),(0,172,0,0),(0,219,0,1),(0,31,0,0),(0,46,0,0),(0,104,0,0),(0,119,0,0),(0,196,0,1)]
def pU_H15 : List (Nat × Nat × Nat × Nat) := [(0,7,0,0),(0,54,0,0),(0,62,0,0),(0,70,0,0),(0,89,0,0),(0,143,0,0),(0,149,0,0),(0,155,0,0),(0,172,0,0),(0,219,0,0),(0,227,0,1),(0,31,0,0),(0,46,0,0),(0,104,0,0),(0,119,0,0),(0,196,0,1)]
def pU_H16 : List (Nat × Nat × Nat × Nat) := [(0,7,0,0),(0,54,0,0),(0,62,0,0),(0,70,0,0),(0,89,0,0),(0,143,0,0),(0,149,0,0),(0,155,0,0),(0,172,0,0),(0,219,0,0),(0,227,0,0),(0,235,0,1),(0,31,0,0),(0,46,0,0),(0,104,0,0),(0,119,0,0),(0,196,0,1)]
def pU_H17 : List (Nat × Nat × Nat × Nat) := [(0,7,0,0),(0,54,0,0),(0,62,0,0),(0,70,0,0),(0,89,0,0),(0,143,0,0),(0,149,0,0),(0,155,0,0),(0,172,0,0),(0,219,0,0),(0,227,0,0),(0,235,0,0),(0,253,0,1),(0,31,0,0),(0,46,0,0),(0,104,0,0),(0,119,0,0),(0,196,0,1)]
def pU_H18 : List (Nat × Nat × Nat × Nat) := [(0,7,0,0),(0,54,0,0),(0,62,0,0),(0,70,0,0),(0,89,0,0),(0,143,0,0),(0,149,0,0),(0,155,0,0),(0,172,0,0),(0,219,0,0),(0,227,0,0),(0,235,0,0),(0,253,0,1),(0,31,0,0),(0,46,0,0),(0,104,0,0),(0,119,0,0),(0,196,0,0),(0,211,0,1)]
def pU_H19 : List (Nat × Nat × Nat × Nat) := [(0,7,0,0),(0,54,0,0),(0,62,0,0),(0,70,0,0),(0,89,0,0),(0,143,0,0),(0,149,0,0),(0,155,0,0),(0,172,0,0),(0,219,0,0),(0,227,0,0),(0,235,0,0),(0,253,0,1),(0,31,0,0),(0,46,0,0),(0,104,0,0),(0,119,0,0),(0,196,0,0),(0,211,0,0),(0,268,0,1)]
def pU_H20 : List (Nat × Nat × Nat × Nat) := [(0,7,0,0),(0,54,0,0),(0,62,0,0),(0,70,0,0),(0,89,0,0),(0,143,0,0),(0,149,0,0),(0,155,0,0),(0,172,0,0),(0,219,0,0),(0,227,0,0),(0,235,0,0),(0,253,0,1),(0,31,0,0),(0,46,0,0),(0,104,0,0),(0,119,0,0),(0,196,0,0),(0,211,0,0),(0,268,0,0),(0,283,0,1)]
def pU_H21 : List (Nat × Nat × Nat × Nat) := [(0,7,0,0),(0,54,0,0),(0,62,0,0),(0,70,0,0),(0,89,0,0),(0,143,0,0),(0,149,0,0),(0,155,0,0),(0,172,0,0),(0,219,0,0),(0,227,0,0),(0,235,0,0),(0,253,0,0),(0,307,0,1),(0,31,0,0),(0,46,0,0),(0,104,0,0),(0,119,0,0),(0,196,0,1)]
def pU_H22 : List (Nat × Nat × Nat × Nat) := [(0,7,0,0),(0,54,0,0),(0,62,0,0),(0,70,0,0),(0,89,0,0),(0,143,0,0),(0,149,0,0),(0,155,0,0),(0,172,0,0),(0,219,0,0),(0,227,0,0),(0,235,0,0),(0,253,0,0),(0,307,0,0),(0,313,0,1),(0,31,0,0),(0,46,0,0),(0,104,0,0),(0,119,0,0),(0,196,0,0),(0,211,0,1)]
def pU_H23 : List (Nat × Nat × Nat × Nat) := [(0,7,0,0),(0,54,0,0),(0,62,0,0),(0,70,0,0),(0,89,0,0),(0,143,0,0),(0,149,0,0),(0,155,0,0),(0,172,0,0),(0,219,0,0),(0,227,0,0),(0,235,0,0),(0,253,0,0),(0,307,0,0),(0,313,0,0),(0,319,0,1),(0,31,0,0),(0,46,0,0),(0,104,0,0),(0,119,0,0),(0,196,0,0),(0,211,0,0),(0,268,0,1)]
def pU_H24 : List (Nat × Nat × Nat × Nat) := [(0,7,0,0),(0,54,0,0),(0,62,0,0),(0,70,0,0),(0,89,0,0),(0,143,0,0),(0,149,0,0),(0,155,0,0),(0,172,0,0),(0,219,0,0),(0,227,0,0),(0,235,0,0),(0,253,0,0),(0,307,0,0),(0,313,0,0),(0,319,0,0),(0,31,0,0),(0,46,0,0),(0,104,0,0),(0,119,0,0),(0,196,0,0),(0,211,0,0),(0,268,0,0),(0,283,0,0),(0,447,0,1),(0,476,0,1),(0,505,0,1),(0,534,0,1),(0,551,0,0),(0,566,0,0)]
theorem pU_r0 : (callD (sx Tryz.prog pU_N pU_H0 [] pU_L pU_C pU_Z (prC [22])) pU_cs pU_G 6 [] 5 [(false,[(true,[.inr (2,0,0,0,0),.inr (2,1,0,0,0),.inr (2,2,0,0,0),.inr (2,3,0,0,0),.inr (2,4,0,0,0),.inr (2,5,0,0,0),.inr (2,6,0,0,0),.inr (2,7,0,0,0),.inr (2,8,0,0,0),.inr (2,9,0,0,0),.inr (2,10,0,0,0),.inr (2,11,0,0,0)])]),(false,[(true,[.inr (2,12,0,0,0),.inr (2,13,0,0,0),.inr (2,14,0,0,0),.inr (2,15,0,0,0),.inr (2,16,0,0,0),.inr (2,17,0,0,0),.inr (2,18,0,0,0),.inr (2,19,0,0,0),.inr (2,20,0,0,0),.inr (2,21,0,0,0),.inr (2,22,0,0,0),.inr (2,23,0,0,0)])])] [] 0).map (·.1)=some (kB true) := by kernel_rfl
theorem pU_r1 : (callD (sx Tryz.prog pU_N pU_H1 [] pU_L pU_C pU_Z (prC [22])) pU_cs pU_G 6 [] 5 [(false,[(true,[.inr (2,0,0,0,0),.inr (2,1,0,0,0),.inr (2,2,0,0,0),.inr (2,3,0,0,0),.inr (2,4,0,0,0),.inr (2,5,0,0,0),.inr (2,6,0,0,0),.inr (2,7,0,0,0),.inr (2,8,0,0,0),.inr (2,9,0,0,0),.inr (2,10,0,0,0),.inr (2,11,0,0,0)])]),(false,[(true,[.inr (2,12,0,0,0),.inr (2,13,0,0,0),.inr (2,14,0,0,0),.inr (2,15,0,0,0),.inr (2,16,0,0,0),.inr (2,17,0,0,0),.inr (2,18,0,0,0),.inr (2,19,0,0,0),.inr (2,20,0,0,0),.inr (2,21,0,0,0),.inr (2,22,0,0,0),.inr (2,23,0,0,0)])])] [] 0).map (·.1)=some (kB true) := by kernel_rfl
theorem pU_r2 : (callD (sx Tryz.prog pU_N pU_H2 [] pU_L pU_C pU_Z (prC [22])) pU_cs pU_G 6 [] 5 [(false,[(true,[.inr (2,0,0,0,0),.inr (2,1,0,0,0),.inr (2,2,0,0,0),.inr (2,3,0,0,0),.inr (2,4,0,0,0),.inr (2,5,0,0,0),.inr (2,6,0,0,0),.inr (2,7,0,0,0),.inr (2,8,0,0,0),.inr (2,9,0,0,0),.inr (2,10,0,0,0),.inr (2,11,0,0,0)])]),(false,[(true,[.inr (2,12,0,0,0),.inr (2,13,0,0,0),.inr (2,14,0,0,0),.inr (2,15,0,0,0),.inr (2,16,0,0,0),.inr (2,17,0,0,0),.inr (2,18,0,0,0),.inr (2,19,0,0,0),.inr (2,20,0,0,0),.inr (2,21,0,0,0),.inr (2,22,0,0,0),.inr (2,23,0,0,0)])])] [] 0).map (·.1)=some (kB true) := by kernel_rfl
theorem pU_r3 : (callD (sx Tryz.prog pU_N pU_H3 [] pU_L pU_C pU_Z (prC [22])) pU_cs pU_G 6 [] 5 [(false,[(true,[.inr (2,0,0,0,0),.inr (2,1,0,0,0),.inr (2,2,0,0,0),.inr (2,3,0,0,0),.inr (2,4,0,0,0),.inr (2,5,0,0,0),.inr (2,6,0,0,0),.inr (2,7,0,0,0),.inr (2,8,0,0,0),.inr (2,9,0,0,0),.inr (2,10,0,0,0),.inr (2,11,0,0,0)])]),(false,[(true,[.inr (2,12,0,0,0),.inr (2,13,0,0,0),.inr (2,14,0,0,0),.inr (2,15,0,0,0),.inr (2,16,0,0,0),.inr (2,17,0,0,0),.inr (2,18,0,0,0),.inr (2,19,0,0,0),.inr (2,20,0,0,0),.inr (2,21,0,0,0),.inr (2,22,0,0,0),.inr (2,23,0,0,0)])])] [] 0).map (·.1)=some (kB true) := by kernel_rfl
theorem pU_r4 : (callD (sx Tryz.prog pU_N pU_H4 [] pU_L pU_C pU_Z (prC [22])) pU_cs pU_G 6 [] 5 [(false,[(true,[.inr (2,0,0,0,0),.inr (2,1,0,0,0),.inr (2,2,0,0,0),.inr (2,3,0,0,0),.inr (2,4,0,0,0),.inr (2,5,0,0,0),.inr (2,6,0,0,0),.inr (2,7,0,0,0),.inr (2,8,0,0,0),.inr (2,9,0,0,0),.inr (2,10,0,0,0),.inr (2,11,0,0,0)])]),(false,[(true,[.inr (2,12,0,0,0),.inr (2,13,0,0,0),.inr (2,14,0,0,0),.inr (2,15,0,0,0),.inr (2,16,0,0,0),.inr (2,17,0,0,0),.inr (2,18,0,0,0),.inr (2,19,0,0,0),.inr (2,20,0,0,0),.inr (2,21,0,0,0),.inr (2,22,0,0,0),.inr (2,23,0,0,0)])])] [] 0).map (·.1)=some (kB true) := by kernel_rfl
theorem pU_r5 : (callD (sx Tryz.prog pU_N pU_H5 [] pU_L pU_C pU_Z (prC [22])) pU_cs pU_G 6 [] 5 [(false,[(true,[.inr (2,0,0,0,0),.inr (2,1,0,0,0),.inr (2,2,0,0,0),.inr (2,3,0,0,0),.inr (2,4,0,0,0),.inr (2,5,0,0,0),.inr (2,6,0,0,0),.inr (2,7,0,0,0),.inr (2,8,0,0,0),.inr (2,9,0,0,0),.inr (2,10,0,0,0),.inr (2,11,0,0,0)])]),(false,[(true,[.inr (2,12,0,0,0),.inr (2,13,0,0,0),.inr (2,14,0,0,0),.inr (2,15,0,0,0),.inr (2,16,0,0,0),.inr (2,17,0,0,0),.inr (2,18,0,0,0),.inr (2,19,0,0,0),.inr (2,20,0,0,0),.inr (2,21,0,0,0),.inr (2,22,0,0,0),.inr (2,23,0,0,0)])])] [] 0).map (·.1)=some (kB true) := by kernel_rfl
theorem pU_r6 : (callD (sx Tryz.prog pU_N pU_H6 [] pU_L pU_C pU_Z (prC [22])) pU_cs pU_G 6 [] 5 [(false,[(true,[.inr (2,0,0,0,0),.inr (2,1,0,0,0),.inr (2,2,0,0,0),.inr (2,3,0,0,0),.inr (2,4,0,0,0),.inr (2,5,0,0,0),.inr (2,6,0,0,0),.inr (2,7,0,0,0),.inr (2,8,0,0,0),.inr (2,9,0,0,0),.inr (2,10,0,0,0),.inr (2,11,0,0,0)])]),(false,[(true,[.inr (2,12,0,0,0),.inr (2,13,0,0,0),.inr (2,14,0,0,0),.inr (2,15,0,0,0),.inr (2,16,0,0,0),.inr (2,17,0,0,0),.inr (2,18,0,0,0),.inr (2,19,0,0,0),.inr (2,20,0,0,0),.inr (2,21,0,0,0),.inr (2,22,0,0,0),.inr (2,23,0,0,0)])])] [] 0).map (·.1)=some (kB true) := by kernel_rfl
theorem pU_r7 : (callD (sx Tryz.prog pU_N pU_H7 [] pU_L pU_C pU_Z (prC [22])) pU_cs pU_G 6 [] 5 [(false,[(true,[.inr (2,0,0,0,0),.inr (2,1,0,0,0),.inr (2,2,0,0,0),.inr (2,3,0,0,0),.inr (2,4,0,0,0),.inr (2,5,0,0,0),.inr (2,6,0,0,0),.inr (2,7,0,0,0),.inr (2,8,0,0,0),.inr (2,9,0,0,0),.inr (2,10,0,0,0),.inr (2,11,0,0,0)])]),(false,[(true,[.inr (2,12,0,0,0),.inr (2,13,0,0,0),.inr (2,14,0,0,0),.inr (2,15,0,0,0),.inr (2,16,0,0,0),.inr (2,17,0,0,0),.inr (2,18,0,0,0),.inr (2,19,0,0,0),.inr (2,20,0,0,0),.inr (2,21,0,0,0),.inr (2,22,0,0,0),.inr (2,23,0,0,0)])])] [] 0).map (·.1)=some (kB true) := by kernel_rfl
theorem pU_r8 : (callD (sx Tryz.prog pU_N pU_H8 [] pU_L pU_C pU_Z (prC [22])) pU_cs pU_G 6 [] 5 [(false,[(true,[.inr (2,0,0,0,0),.inr (2,1,0,0,0),.inr (2,2,0,0,0),.inr (2,3,0,0,0),.inr (2,4,0,0,0),.inr (2,5,0,0,0),.inr (2,6,0,0,0),.inr (2,7,0,0,0),.inr (2,8,0,0,0),.inr (2,9,0,0,0),.inr (2,10,0,0,0),.inr (2,11,0,0,0)])]),(false,[(true,[.inr (2,12,0,0,0),.inr (2,13,0,0,0),.inr (2,14,0,0,0),.inr (2,15,0,0,0),.inr (2,16,0,0,0),.inr (2,17,0,0,0),.inr (2,18,0,0,0),.inr (2,19,0,0,0),.inr (2,20,0,0,0),.inr (2,21,0,0,0),.inr (2,22,0,0,0),.inr (2,23,0,0,0)])])] [] 0).map (·.1)=some (kB true) := by kernel_rfl
theorem pU_r9 : (callD (sx Tryz.prog pU_N pU_H9 [] pU_L pU_C pU_Z (prC [22])) pU_cs pU_G 6 [] 5 [(false,[(true,[.inr (2,0,0,0,0),.inr (2,1,0,0,0),.inr (2,2,0,0,0),.inr (2,3,0,0,0),.inr (2,4,0,0,0),.inr (2,5,0,0,0),.inr (2,6,0,0,0),.inr (2,7,0,0,0),.inr (2,8,0,0,0),.inr (2,9,0,0,0),.inr (2,10,0,0,0),.inr (2,11,0,0,0)])]),(false,[(true,[.inr (2,12,0,0,0),.inr (2,13,0,0,0),.inr (2,14,0,0,0),.inr (2,15,0,0,0),.inr (2,16,0,0,0),.inr (2,17,0,0,0),.inr (2,18,0,0,0),.inr (2,19,0,0,0),.inr (2,20,0,0,0),.inr (2,21,0,0,0),.inr (2,22,0,0,0),.inr (2,23,0,0,0)])])] [] 0).map (·.1)=some (kB true) := by kernel_rfl
theorem pU_r10 : (callD (sx Tryz.prog pU_N pU_H10 [] pU_L pU_C pU_Z (prC [22])) pU_cs pU_G 6 [] 5 [(false,[(true,[.inr (2,0,0,0,0),.inr (2,1,0,0,0),.inr (2,2,0,0,0),.inr (2,3,0,0,0),.inr (2,4,0,0,0),.inr (2,5,0,0,0),.inr (2,6,0,0,0),.inr (2,7,0,0,0),.inr (2,8,0,0,0),.inr (2,9,0,0,0),.inr (2,10,0,0,0),.inr (2,11,0,0,0)])]),(false,[(true,[.inr (2,12,0,0,0),.inr (2,13,0,0,0),.inr (2,14,0,0,0),.inr (2,15,0,0,0),.inr (2,16,0,0,0),.inr (2,17,0,0,0),.inr (2,18,0,0,0),.inr (2,19,0,0,0),.inr (2,20,0,0,0),.inr (2,21,0,0,0),.inr (2,22,0,0,0),.inr (2,23,0,0,0)])])] [] 0).map (·.1)=some (kB true) := by kernel_rfl
theorem pU_r11 : (callD (sx Tryz.prog pU_N pU_H11 [] pU_L pU_C pU_Z (prC [22])) pU_cs pU_G 6 [] 5 [(false,[(true,[.inr (2,0,0,0,0),.inr (2,1,0,0,0),.inr (2,2,0,0,0),.inr (2,3,0,0,0),.inr (2,4,0,0,0),.inr (2,5,0,0,0),.inr (2,6,0,0,0),.inr (2,7,0,0,0),.inr (2,8,0,0,0),.inr (2,9,0,0,0),.inr (2,10,0,0,0),.inr (2,11,0,0,0)])]),(false,[(true,[.inr (2,12,0,0,0),.inr (2,13,0,0,0),.inr (2,14,0,0,0),.inr (2,15,0,0,0),.inr (2,16,0,0,0),.inr (2,17,0,0,0),.inr (2,18,0,0,0),.inr (2,19,0,0,0),.inr (2,20,0,0,0),.inr (2,21,0,0,0),.inr (2,22,0,0,0),.inr (2,23,0,0,0)])])] [] 0).map (·.1)=some (kB true) := by kernel_rfl
theorem pU_r12 : (callD (sx Tryz.prog pU_N pU_H12 [] pU_L pU_C pU_Z (prC [22])) pU_cs pU_G 6 [] 5 [(false,[(true,[.inr (2,0,0,0,0),.inr (2,1,0,0,0),.inr (2,2,0,0,0),.inr (2,3,0,0,0),.inr (2,4,0,0,0),.inr (2,5,0,0,0),.inr (2,6,0,0,0),.inr (2,7,0,0,0),.inr (2,8,0,0,0),.inr (2,9,0,0,0),.inr (2,10,0,0,0),.inr (2,11,0,0,0)])]),(false,[(true,[.inr (2,12,0,0,0),.inr (2,13,0,0,0),.inr (2,14,0,0,0),.inr (2,15,0,0,0),.inr (2,16,0,0,0),.inr (2,17,0,0,0),.inr (2,18,0,0,0),.inr (2,19,0,0,0),.inr (2,20,0,0,0),.inr (2,21,0,0,0),.inr (2,22,0,0,0),.inr (2,23,0,0,0)])])] [] 0).map (·.1)=some (kB true) := by kernel_rfl
theorem pU_r13 : (callD (sx Tryz.prog pU_N pU_H13 [] pU_L pU_C pU_Z (prC [22])) pU_cs pU_G 6 [] 5 [(false,[(true,[.inr (2,0,0,0,0),.inr (2,1,0,0,0),.inr (2,2,0,0,0),.inr (2,3,0,0,0),.inr (2,4,0,0,0),.inr (2,5,0,0,0),.inr (2,6,0,0,0),.inr (2,7,0,0,0),.inr (2,8,0,0,0),.inr (2,9,0,0,0),.inr (2,10,0,0,0),.inr (2,11,0,0,0)])]),(false,[(true,[.inr (2,12,0,0,0),.inr (2,13,0,0,0),.inr (2,14,0,0,0),.inr (2,15,0,0,0),.inr (2,16,0,0,0),.inr (2,17,0,0,0),.inr (2,18,0,0,0),.inr (2,19,0,0,0),.inr (2,20,0,0,0),.inr (2,21,0,0,0),.inr (2,22,0,0,0),.inr (2,23,0,0,0)])])] [] 0).map (·.1)=some (kB true) := by kernel_rfl
theorem pU_r14 : (callD (sx Tryz.prog pU_N pU_H14 [] pU_L pU_C pU_Z (prC [22])) pU_cs pU_G 6 [] 5 [(false,[(true,[.inr (2,0,0,0,0),.inr (2,1,0,0,0),.inr (2,2,0,0,0),.inr (2,3,0,0,0),.inr (2,4,0,0,0),.inr (2,5,0,0,0),.inr (2,6,0,0,0),.inr (2,7,0,0,0),.inr (2,8,0,0,0),.inr (2,9,0,0,0),.inr (2,10,0,0,0),.inr (2,11,0,0,0)])]),(false,[(true,[.inr (2,12,0,0,0),.inr (2,13,0,0,0),.inr (2,14,0,0,0),.inr (2,15,0,0,0),.inr (2,16,0,0,0),.inr (2,17,0,0,0),.inr (2,18,0,0,0),.inr (2,19,0,0,0),.inr (2,20,0,0,0),.inr (2,21,0,0,0),.inr (2,22,0,0,0),.inr (2,23,0,0,0)])])] [] 0).map (·.1)=some (kB true) := by kernel_rfl
theorem pU_r15 : (callD (sx Tryz.prog pU_N pU_H15 [] pU_L pU_C pU_Z (prC [22])) pU_cs pU_G 6 [] 5 [(false,[(true,[.inr (2,0,0,0,0),.inr (2,1,0,0,0),.inr (2,2,0,0,0),.inr (2,3,0,0,0),.inr (2,4,0,0,0),.inr (2,5,0,0,0),.inr (2,6,0,0,0),.inr (2,7,0,0,0),.inr (2,8,0,0,0),.inr (2,9,0,0,0),.inr (2,10,0,0,0),.inr (2,11,0,0,0)])]),(false,[(true,[.inr (2,12,0,0,0),.inr (2,13,0,0,0),.inr (2,14,0,0,0),.inr (2,15,0,0,0),.inr (2,16,0,0,0),.inr (2,17,0,0,0),.inr (2,18,0,0,0),.inr (2,19,0,0,0),.inr (2,20,0,0,0),.inr (2,21,0,0,0),.inr (2,22,0,0,0),.inr (2,23,0,0,0)])])] [] 0).map (·.1)=some (kB true) := by kernel_rfl
theorem pU_r16 : (callD (sx Tryz.prog pU_N pU_H16 [] pU_L pU_C pU_Z (prC [22])) pU_cs pU_G 6 [] 5 [(false,[(true,[.inr (2,0,0,0,0),.inr (2,1,0,0,0),.inr (2,2,0,0,0),.inr (2,3,0,0,0),.inr (2,4,0,0,0),.inr (2,5,0,0,0),.inr (2,6,0,0,0),.inr (2,7,0,0,0),.inr (2,8,0,0,0),.inr (2,9,0,0,0),.inr (2,10,0,0,0),.inr (2,11,0,0,0)])]),(false,[(true,[.inr (2,12,0,0,0),.inr (2,13,0,0,0),.inr (2,14,0,0,0),.inr (2,15,0,0,0),.inr (2,16,0,0,0),.inr (2,17,0,0,0),.inr (2,18,0,0,0),.inr (2,19,0,0,0),.inr (2,20,0,0,0),.inr (2,21,0,0,0),.inr (2,22,0,0,0),.inr (2,23,0,0,0)])])] [] 0).map (·.1)=some (kB true) := by kernel_rfl
theorem pU_r17 : (callD (sx Tryz.prog pU_N pU_H17 [] pU_L pU_C pU_Z (prC [22])) pU_cs pU_G 6 [] 5 [(false,[(true,[.inr (2,0,0,0,0),.inr (2,1,0,0,0),.inr (2,2,0,0,0),.inr (2,3,0,0,0),.inr (2,4,0,0,0),.inr (2,5,0,0,0),.inr (2,6,0,0,0),.inr (2,7,0,0,0),.inr (2,8,0,0,0),.inr (2,9,0,0,0),.inr (2,10,0,0,0),.inr (2,11,0,0,0)])]),(false,[(true,[.inr (2,12,0,0,0),.inr (2,13,0,0,0),.inr (2,14,0,0,0),.inr (2,15,0,0,0),.inr (2,16,0,0,0),.inr (2,17,0,0,0),.inr (2,18,0,0,0),.inr (2,19,0,0,0),.inr (2,20,0,0,0),.inr (2,21,0,0,0),.inr (2,22,0,0,0),.inr (2,23,0,0,0)])])] [] 0).map (·.1)=some (kB true) := by kernel_rfl
theorem pU_r18 : (callD (sx Tryz.prog pU_N pU_H18 [] pU_L pU_C pU_Z (prC [22])) pU_cs pU_G 6 [] 5 [(false,[(true,[.inr (2,0,0,0,0),.inr (2,1,0,0,0),.inr (2,2,0,0,0),.inr (2,3,0,0,0),.inr (2,4,0,0,0),.inr (2,5,0,0,0),.inr (2,6,0,0,0),.inr (2,7,0,0,0),.inr (2,8,0,0,0),.inr (2,9,0,0,0),.inr (2,10,0,0,0),.inr (2,11,0,0,0)])]),(false,[(true,[.inr (2,12,0,0,0),.inr (2,13,0,0,0),.inr (2,14,0,0,0),.inr (2,15,0,0,0),.inr (2,16,0,0,0),.inr (2,17,0,0,0),.inr (2,18,0,0,0),.inr (2,19,0,0,0),.inr (2,20,0,0,0),.inr (2,21,0,0,0),.inr (2,22,0,0,0),.inr (2,23,0,0,0)])])] [] 0).map (·.1)=some (kB true) := by kernel_rfl
theorem pU_r19 : (callD (sx Tryz.prog pU_N pU_H19 [] pU_L pU_C pU_Z (prC [22])) pU_cs pU_G 6 [] 5 [(false,[(true,[.inr (2,0,0,0,0),.inr (2,1,0,0,0),.inr (2,2,0,0,0),.inr (2,3,0,0,0),.inr (2,4,0,0,0),.inr (2,5,0,0,0),.inr (2,6,0,0,0),.inr (2,7,0,0,0),.inr (2,8,0,0,0),.inr (2,9,0,0,0),.inr (2,10,0,0,0),.inr (2,11,0,0,0)])]),(false,[(true,[.inr (2,12,0,0,0),.inr (2,13,0,0,0),.inr (2,14,0,0,0),.inr (2,15,0,0,0),.inr (2,16,0,0,0),.inr (2,17,0,0,0),.inr (2,18,0,0,0),.inr (2,19,0,0,0),.inr (2,20,0,0,0),.inr (2,21,0,0,0),.inr (2,22,0,0,0),.inr (2,23,0,0,0)])])] [] 0).map (·.1)=some (kB true) := by kernel_rfl
theorem pU_r20 : (callD (sx Tryz.prog pU_N pU_H20 [] pU_L pU_C pU_Z (prC [22])) pU_cs pU_G 6 [] 5 [(false,[(true,[.inr (2,0,0,0,0),.inr (2,1,0,0,0),.inr (2,2,0,0,0),.inr (2,3,0,0,0),.inr (2,4,0,0,0),.inr (2,5,0,0,0),.inr (2,6,0,0,0),.inr (2,7,0,0,0),.inr (2,8,0,0,0),.inr (2,9,0,0,0),.inr (2,10,0,0,0),.inr (2,11,0,0,0)])]),(false,[(true,[.inr (2,12,0,0,0),.inr (2,13,0,0,0),.inr (2,14,0,0,0),.inr (2,15,0,0,0),.inr (2,16,0,0,0),.inr (2,17,0,0,0),.inr (2,18,0,0,0),.inr (2,19,0,0,0),.inr (2,20,0,0,0),.inr (2,21,0,0,0),.inr (2,22,0,0,0),.inr (2,23,0,0,0)])])] [] 0).map (·.1)=some (kB true) := by kernel_rfl
theorem pU_r21 : (callD (sx Tryz.prog pU_N pU_H21 [] pU_L pU_C pU_Z (prC [22])) pU_cs pU_G 6 [] 5 [(false,[(true,[.inr (2,0,0,0,0),.inr (2,1,0,0,0),.inr (2,2,0,0,0),.inr (2,3,0,0,0),.inr (2,4,0,0,0),.inr (2,5,0,0,0),.inr (2,6,0,0,0),.inr (2,7,0,0,0),.inr (2,8,0,0,0),.inr (2,9,0,0,0),.inr (2,10,0,0,0),.inr (2,11,0,0,0)])]),(false,[(true,[.inr (2,12,0,0,0),.inr (2,13,0,0,0),.inr (2,14,0,0,0),.inr (2,15,0,0,0),.inr (2,16,0,0,0),.inr (2,17,0,0,0),.inr (2,18,0,0,0),.inr (2,19,0,0,0),.inr (2,20,0,0,0),.inr (2,21,0,0,0),.inr (2,22,0,0,0),.inr (2,23,0,0,0)])])] [] 0).map (·.1)=some (kB true) := by kernel_rfl
theorem pU_r22 : (callD (sx Tryz.prog pU_N pU_H22 [] pU_L pU_C pU_Z (prC [22])) pU_cs pU_G 6 [] 5 [(false,[(true,[.inr (2,0,0,0,0),.inr (2,1,0,0,0),.inr (2,2,0,0,0),.inr (2,3,0,0,0),.inr (2,4,0,0,0),.inr (2,5,0,0,0),.inr (2,6,0,0,0),.inr (2,7,0,0,0),.inr (2,8,0,0,0),.inr (2,9,0,0,0),.inr (2,10,0,0,0),.inr (2,11,0,0,0)])]),(false,[(true,[.inr (2,12,0,0,0),.inr (2,13,0,0,0),.inr (2,14,0,0,0),.inr (2,15,0,0,0),.inr (2,16,0,0,0),.inr (2,17,0,0,0),.inr (2,18,0,0,0),.inr (2,19,0,0,0),.inr (2,20,0,0,0),.inr (2,21,0,0,0),.inr (2,22,0,0,0),.inr (2,23,0,0,0)])])] [] 0).map (·.1)=some (kB true) := by kernel_rfl
theorem pU_r23 : (callD (sx Tryz.prog pU_N pU_H23 [] pU_L pU_C pU_Z (prC [22])) pU_cs pU_G 6 [] 5 [(false,[(true,[.inr (2,0,0,0,0),.inr (2,1,0,0,0),.inr (2,2,0,0,0),.inr (2,3,0,0,0),.inr (2,4,0,0,0),.inr (2,5,0,0,0),.inr (2,6,0,0,0),.inr (2,7,0,0,0),.inr (2,8,0,0,0),.inr (2,9,0,0,0),.inr (2,10,0,0,0),.inr (2,11,0,0,0)])]),(false,[(true,[.inr (2,12,0,0,0),.inr (2,13,0,0,0),.inr (2,14,0,0,0),.inr (2,15,0,0,0),.inr (2,16,0,0,0),.inr (2,17,0,0,0),.inr (2,18,0,0,0),.inr (2,19,0,0,0),.inr (2,20,0,0,0),.inr (2,21,0,0,0),.inr (2,22,0,0,0),.inr (2,23,0,0,0)])])] [] 0).map (·.1)=some (kB true) := by kernel_rfl
theorem pU_r24 : (callD (sx Tryz.prog pU_N pU_H24 [] pU_L pU_C pU_Z (prC [22])) pU_cs pU_G 6 [] 5 [(false,[(true,[.inr (2,0,0,0,0),.inr (2,1,0,0,0),.inr (2,2,0,0,0),.inr (2,3,0,0,0),.inr (2,4,0,0,0),.inr (2,5,0,0,0),.inr (2,6,0,0,0),.inr (2,7,0,0,0),.inr (2,8,0,0,0),.inr (2,9,0,0,0),.inr (2,10,0,0,0),.inr (2,11,0,0,0)])]),(false,[(true,[.inr (2,12,0,0,0),.inr (2,13,0,0,0),.inr (2,14,0,0,0),.inr (2,15,0,0,0),.inr (2,16,0,0,0),.inr (2,17,0,0,0),.inr (2,18,0,0,0),.inr (2,19,0,0,0),.inr (2,20,0,0,0),.inr (2,21,0,0,0),.inr (2,22,0,0,0),.inr (2,23,0,0,0)])])] [] 0).map (·.1)=some (kB true) := by kernel_rfl
theorem pU_An {a b : Prop} (x : a) (y : b) : a∧b := ⟨x,y⟩
theorem pU_leaf {M : Memo} {H : List (Nat × Nat × Nat × Nat)} {K : List (FuncId × List AC)} {k : Nat} {q : Nat→Rat} {σ : Nat→ByteArray} {args : List AV} {vs : List Value} {w : World} (hr : (callD (sx Tryz.prog pU_N H K pU_L pU_C pU_Z (prC [22])) pU_cs M k [] 5 args [] 0).map (·.1)=some (kB true)) (hσ : ∀ j,(σ j).size≤1048576) (hq : ∀ (a : Nat) nd,pU_N[a]? = some nd→q a=valN σ q nd) (h0 : ∀ a,pU_N.length≤a→q a=0) (hH : hAll q H) (hp : PreS w) (hM : MemoAll pU_N pU_L pU_C pU_Z q σ [22] w M) (hA : ∀ K,A2 (avOn (cOn (evS q σ) K (fun _ => none) w)) args vs) : Calls Tryz.prog 5 vs.toArray w fun e w' => Below w.heap.size w w'∧e=.returned (.bool true) :=
 run_toldD' k (hy_ofW hσ pU_wf pU_sz pU_lt pU_cn hq h0 hH) (by simp [closed_projected]) (by kernel_rfl) hp hM hr (hA K)
theorem pU_leafC {H : List (Nat × Nat × Nat × Nat)} {K : List (FuncId × List AC)} {k : Nat} {q : Nat→Rat} {σ : Nat→ByteArray} {args : List AV} {vs : List Value} {w : World} (hr : (callC (sx Tryz.prog pU_N H K pU_L pU_C pU_Z (prC [22])) pU_cs k [] 5 args [] 0).map (·.1)=some (kB true)) (hσ : ∀ j,(σ j).size≤1048576) (hq : ∀ (a : Nat) nd,pU_N[a]? = some nd→q a=valN σ q nd) (h0 : ∀ a,pU_N.length≤a→q a=0) (hH : hAll q H) (hp : PreS w) (hA : ∀ K,A2 (avOn (cOn (evS q σ) K (fun _ => none) w)) args vs) : Calls Tryz.prog 5 vs.toArray w fun e w' => Below w.heap.size w w'∧e=.returned (.bool true) :=
 run_toldC' k (hy_ofW hσ pU_wf pU_sz pU_lt pU_cn hq h0 hH) (by simp [closed_projected]) (by kernel_rfl) hr hp (hA K)
theorem pU_walk {w : World} {pau pav paw pbu pbv pbw pcu pcv pcw pdu pdv pdw nau nav naw nbu nbv nbw ncu ncv ncw ndu ndv ndw : ByteArray} (spau : pau.size≤1048576) (spav : pav.size≤1048576) (spaw : paw.size≤1048576) (spbu : pbu.size≤1048576) (spbv : pbv.size≤1048576) (spbw : pbw.size≤1048576) (spcu : pcu.size≤1048576) (spcv : pcv.size≤1048576) (spcw : pcw.size≤1048576) (spdu : pdu.size≤1048576) (spdv : pdv.size≤1048576) (spdw : pdw.size≤1048576) (snau : nau.size≤1048576) (snav : nav.size≤1048576) (snaw : naw.size≤1048576) (snbu : nbu.size≤1048576) (snbv : nbv.size≤1048576) (snbw : nbw.size≤1048576) (sncu : ncu.size≤1048576) (sncv : ncv.size≤1048576) (sncw : ncw.size≤1048576) (sndu : ndu.size≤1048576) (sndv : ndv.size≤1048576) (sndw : ndw.size≤1048576) (tab : Tab w) (mx : MaxL w) :
  Calls Tryz.prog 5 #[.agg #[.string pau,.string pav,.string paw,.string pbu,.string pbv,.string pbw,.string pcu,.string pcv,.string pcw,.string pdu,.string pdv,.string pdw],.agg #[.string nau,.string nav,.string naw,.string nbu,.string nbv,.string nbw,.string ncu,.string ncv,.string ncw,.string ndu,.string ndv,.string ndw]] w fun e w' => Below w.heap.size w w'∧e=.returned (.bool true) := by
 have hσ : ∀ j,(sgOf [pau,pav,paw,pbu,pbv,pbw,pcu,pcv,pcw,pdu,pdv,pdw,nau,nav,naw,nbu,nbv,nbw,ncu,ncv,ncw,ndu,ndv,ndw] j).size≤1048576 := sgOf_size (by simp [spau,spav,spaw,spbu,spbv,spbw,spcu,spcv,spcw,spdu,spdv,spdw,snau,snav,snaw,snbu,snbv,snbw,sncu,sncv,sncw,sndu,sndv,sndw])
 obtain ⟨q,hq,h0⟩ := nodes_exist (sgOf [pau,pav,paw,pbu,pbv,pbw,pcu,pcv,pcw,pdu,pdv,pdw,nau,nav,naw,nbu,nbv,nbw,ncu,ncv,ncw,ndu,ndv,ndw]) pU_N pU_wf
 have hA : ∀ K,A2 (avOn (cOn (evS q (sgOf [pau,pav,paw,pbu,pbv,pbw,pcu,pcv,pcw,pdu,pdv,pdw,nau,nav,naw,nbu,nbv,nbw,ncu,ncv,ncw,ndu,ndv,ndw])) K (fun _ => none) w)) [(false,[(true,[.inr (2,0,0,0,0),.inr (2,1,0,0,0),.inr (2,2,0,0,0),.inr (2,3,0,0,0),.inr (2,4,0,0,0),.inr (2,5,0,0,0),.inr (2,6,0,0,0),.inr (2,7,0,0,0),.inr (2,8,0,0,0),.inr (2,9,0,0,0),.inr (2,10,0,0,0),.inr (2,11,0,0,0)])]),(false,[(true,[.inr (2,12,0,0,0),.inr (2,13,0,0,0),.inr (2,14,0,0,0),.inr (2,15,0,0,0),.inr (2,16,0,0,0),.inr (2,17,0,0,0),.inr (2,18,0,0,0),.inr (2,19,0,0,0),.inr (2,20,0,0,0),.inr (2,21,0,0,0),.inr (2,22,0,0,0),.inr (2,23,0,0,0)])])] [.agg #[.string pau,.string pav,.string paw,.string pbu,.string pbv,.string pbw,.string pcu,.string pcv,.string pcw,.string pdu,.string pdv,.string pdw],.agg #[.string nau,.string nav,.string naw,.string nbu,.string nbv,.string nbw,.string ncu,.string ncv,.string ncw,.string ndu,.string ndv,.string ndw]] := fun K => ⟨⟨⟨[.string pau,.string pav,.string paw,.string pbu,.string pbv,.string pbw,.string pcu,.string pcv,.string pcw,.string pdu,.string pdv,.string pdw],rfl,rfl,rfl,rfl,rfl,rfl,rfl,rfl,rfl,rfl,rfl,rfl,rfl,trivial⟩,trivial⟩,⟨⟨[.string nau,.string nav,.string naw,.string nbu,.string nbv,.string nbw,.string ncu,.string ncv,.string ncw,.string ndu,.string ndv,.string ndw],rfl,rfl,rfl,rfl,rfl,rfl,rfl,rfl,rfl,rfl,rfl,rfl,rfl,trivial⟩,trivial⟩,trivial⟩
 by_cases b7 : q 7=0
 ·
  by_cases b31 : q 31=0
  ·
   have hH : hAll q pU_H0 := (pU_An (hT b7) (pU_An (hT b31) trivial))
   exact pU_leaf pU_r0 hσ hq h0 hH ⟨tab,mx⟩ (pU_memoG hσ hq h0 ⟨tab,mx⟩) hA
  ·
   have gZ46x0 := pU_Z46x0 hq b7
   have b46 : q 46=0 := gZ46x0
   have hH : hAll q pU_H1 := (pU_An (hT b7) (pU_An (hF b31) (pU_An (hT b46) trivial)))
   exact pU_leaf pU_r1 hσ hq h0 hH ⟨tab,mx⟩ (pU_memoG hσ hq h0 ⟨tab,mx⟩) hA
 ·
  by_cases b54 : q 54=0
  ·
   have gZ31x1 := pU_Z31x1 hq b54
   have b31 : q 31=0 := gZ31x1
   have hH : hAll q pU_H2 := (pU_An (hF b7) (pU_An (hT b54) (pU_An (hT b31) trivial)))
   exact pU_leaf pU_r2 hσ hq h0 hH ⟨tab,mx⟩ (pU_memoG hσ hq h0 ⟨tab,mx⟩) hA
  ·
   by_cases b62 : q 62=0
   ·
    have gZ31x2 := pU_Z31x2 hq b62
    have b31 : q 31=0 := gZ31x2
    have hH : hAll q pU_H3 := (pU_An (hF b7) (pU_An (hF b54) (pU_An (hT b62) (pU_An (hT b31) trivial))))
    exact pU_leaf pU_r3 hσ hq h0 hH ⟨tab,mx⟩ (pU_memoG hσ hq h0 ⟨tab,mx⟩) hA
   ·
    by_cases b70 : q 70=0
    ·
     have gZ31x3 := pU_Z31x3 hq b70
     have b31 : q 31=0 := gZ31x3
     have hH : hAll q pU_H4 := (pU_An (hF b7) (pU_An (hF b54) (pU_An (hF b62) (pU_An (hT b70) (pU_An (hT b31) trivial)))))
     exact pU_leaf pU_r4 hσ hq h0 hH ⟨tab,mx⟩ (pU_memoG hσ hq h0 ⟨tab,mx⟩) hA
    ·
     by_cases b89 : q 89=0
     ·
      by_cases b31 : q 31=0
      ·
       have hH : hAll q pU_H5 := (pU_An (hF b7) (pU_An (hF b54) (pU_An (hF b62) (pU_An (hF b70) (pU_An (hT b89) (pU_An (hT b31) trivial))))))
       exact pU_leaf pU_r5 hσ hq h0 hH ⟨tab,mx⟩ (pU_memoG hσ hq h0 ⟨tab,mx⟩) hA
      ·
       by_cases b46 : q 46=0
       ·
        have hH : hAll q pU_H6 := (pU_An (hF b7) (pU_An (hF b54) (pU_An (hF b62) (pU_An (hF b70) (pU_An (hT b89) (pU_An (hF b31) (pU_An (hT b46) trivial)))))))
        exact pU_leaf pU_r6 hσ hq h0 hH ⟨tab,mx⟩ (pU_memoG hσ hq h0 ⟨tab,mx⟩) hA
       ·
        by_cases b104 : q 104=0
        ·
         have hH : hAll q pU_H7 := (pU_An (hF b7) (pU_An (hF b54) (pU_An (hF b62) (pU_An (hF b70) (pU_An (hT b89) (pU_An (hF b31) (pU_An (hF b46) (pU_An (hT b104) trivial))))))))
         exact pU_leaf pU_r7 hσ hq h0 hH ⟨tab,mx⟩ (pU_memoG hσ hq h0 ⟨tab,mx⟩) hA
        ·
         have gI119 := pU_I119 hq b7 b54 b62
         have b119 : q 119=0 := gI119.2 b89
         have hH : hAll q pU_H8 := (pU_An (hF b7) (pU_An (hF b54) (pU_An (hF b62) (pU_An (hF b70) (pU_An (hT b89) (pU_An (hF b31) (pU_An (hF b46) (pU_An (hF b104) (pU_An (hT b119) trivial)))))))))
         exact pU_leaf pU_r8 hσ hq h0 hH ⟨tab,mx⟩ (pU_memoG hσ hq h0 ⟨tab,mx⟩) hA
     ·
      by_cases b143 : q 143=0
      ·
       have gI31 := pU_I31 hq b54 b62 b70
       have b31 : q 31=0 := gI31.2 b143
       have hH : hAll q pU_H9 := (pU_An (hF b7) (pU_An (hF b54) (pU_An (hF b62) (pU_An (hF b70) (pU_An (hF b89) (pU_An (hT b143) (pU_An (hT b31) trivial)))))))
       exact pU_leaf pU_r9 hσ hq h0 hH ⟨tab,mx⟩ (pU_memoG hσ hq h0 ⟨tab,mx⟩) hA
      ·
       by_cases b149 : q 149=0
       ·
        have gI31 := pU_I31 hq b54 b62 b70
        have b31 : ¬ (q 31=0) := gI31.1 b143
        have gI46 := pU_I46 hq b62 b7 b70
        have b46 : q 46=0 := gI46.2 b149
        have hH : hAll q pU_H10 := (pU_An (hF b7) (pU_An (hF b54) (pU_An (hF b62) (pU_An (hF b70) (pU_An (hF b89) (pU_An (hF b143) (pU_An (hT b149) (pU_An (hF b31) (pU_An (hT b46) trivial)))))))))
        exact pU_leaf pU_r10 hσ hq h0 hH ⟨tab,mx⟩ (pU_memoG hσ hq h0 ⟨tab,mx⟩) hA
       ·
        by_cases b155 : q 155=0
        ·
         have gI31 := pU_I31 hq b54 b62 b70
         have b31 : ¬ (q 31=0) := gI31.1 b143
         have gI46 := pU_I46 hq b62 b7 b70
         have b46 : ¬ (q 46=0) := gI46.1 b149
         have gI104 := pU_I104 hq b7 b54 b70
         have b104 : q 104=0 := gI104.2 b155
         have hH : hAll q pU_H11 := (pU_An (hF b7) (pU_An (hF b54) (pU_An (hF b62) (pU_An (hF b70) (pU_An (hF b89) (pU_An (hF b143) (pU_An (hF b149) (pU_An (hT b155) (pU_An (hF b31) (pU_An (hF b46) (pU_An (hT b104) trivial)))))))))))
         exact pU_leaf pU_r11 hσ hq h0 hH ⟨tab,mx⟩ (pU_memoG hσ hq h0 ⟨tab,mx⟩) hA
        ·
         by_cases b172 : q 172=0
         ·
          have gI31 := pU_I31 hq b54 b62 b70
          have b31 : ¬ (q 31=0) := gI31.1 b143
          have gI46 := pU_I46 hq b62 b7 b70
          have b46 : ¬ (q 46=0) := gI46.1 b149
          have gI104 := pU_I104 hq b7 b54 b70
          have b104 : ¬ (q 104=0) := gI104.1 b155
          have gI119 := pU_I119 hq b7 b54 b62
          have b119 : ¬ (q 119=0) := gI119.1 b89
          by_cases b196 : q 196=0
          ·
           have hH : hAll q pU_H12 := (pU_An (hF b7) (pU_An (hF b54) (pU_An (hF b62) (pU_An (hF b70) (pU_An (hF b89) (pU_An (hF b143) (pU_An (hF b149) (pU_An (hF b155) (pU_An (hT b172) (pU_An (hF b31) (pU_An (hF b46) (pU_An (hF b104) (pU_An (hF b119) (pU_An (hT b196) trivial))))))))))))))
           exact pU_leaf pU_r12 hσ hq h0 hH ⟨tab,mx⟩ (pU_memoG hσ hq h0 ⟨tab,mx⟩) hA
          ·
           have gZ211x0 := pU_Z211x0 hq b172
           have b211 : q 211=0 := gZ211x0
           have hH : hAll q pU_H13 := (pU_An (hF b7) (pU_An (hF b54) (pU_An (hF b62) (pU_An (hF b70) (pU_An (hF b89) (pU_An (hF b143) (pU_An (hF b149) (pU_An (hF b155) (pU_An (hT b172) (pU_An (hF b31) (pU_An (hF b46) (pU_An (hF b104) (pU_An (hF b119) (pU_An (hF b196) (pU_An (hT b211) trivial)))))))))))))))
           exact pU_leaf pU_r13 hσ hq h0 hH ⟨tab,mx⟩ (pU_memoG hσ hq h0 ⟨tab,mx⟩) hA
         ·
          by_cases b219 : q 219=0
          ·
           have gI31 := pU_I31 hq b54 b62 b70
           have b31 : ¬ (q 31=0) := gI31.1 b143
           have gI46 := pU_I46 hq b62 b7 b70
           have b46 : ¬ (q 46=0) := gI46.1 b149
           have gI104 := pU_I104 hq b7 b54 b70
           have b104 : ¬ (q 104=0) := gI104.1 b155
           have gI119 := pU_I119 hq b7 b54 b62
           have b119 : ¬ (q 119=0) := gI119.1 b89
           have gZ196x1 := pU_Z196x1 hq b219
           have b196 : q 196=0 := gZ196x1
           have hH : hAll q pU_H14 := (pU_An (hF b7) (pU_An (hF b54) (pU_An (hF b62) (pU_An (hF b70) (pU_An (hF b89) (pU_An (hF b143) (pU_An (hF b149) (pU_An (hF b155) (pU_An (hF b172) (pU_An (hT b219) (pU_An (hF b31) (pU_An (hF b46) (pU_An (hF b104) (pU_An (hF b119) (pU_An (hT b196) trivial)))))))))))))))
           exact pU_leaf pU_r14 hσ hq h0 hH ⟨tab,mx⟩ (pU_memoG hσ hq h0 ⟨tab,mx⟩) hA
          ·
           by_cases b227 : q 227=0
           ·
            have gI31 := pU_I31 hq b54 b62 b70
            have b31 : ¬ (q 31=0) := gI31.1 b143
            have gI46 := pU_I46 hq b62 b7 b70
            have b46 : ¬ (q 46=0) := gI46.1 b149
            have gI104 := pU_I104 hq b7 b54 b70
            have b104 : ¬ (q 104=0) := gI104.1 b155
            have gI119 := pU_I119 hq b7 b54 b62
            have b119 : ¬ (q 119=0) := gI119.1 b89
            have gZ196x2 := pU_Z196x2 hq b227
            have b196 : q 196=0 := gZ196x2
            have hH : hAll q pU_H15 := (pU_An (hF b7) (pU_An (hF b54) (pU_An (hF b62) (pU_An (hF b70) (pU_An (hF b89) (pU_An (hF b143) (pU_An (hF b149) (pU_An (hF b155) (pU_An (hF b172) (pU_An (hF b219) (pU_An (hT b227) (pU_An (hF b31) (pU_An (hF b46) (pU_An (hF b104) (pU_An (hF b119) (pU_An (hT b196) trivial))))))))))))))))
            exact pU_leaf pU_r15 hσ hq h0 hH ⟨tab,mx⟩ (pU_memoG hσ hq h0 ⟨tab,mx⟩) hA
           ·
            by_cases b235 : q 235=0
            ·
             have gI31 := pU_I31 hq b54 b62 b70
             have b31 : ¬ (q 31=0) := gI31.1 b143
             have gI46 := pU_I46 hq b62 b7 b70
             have b46 : ¬ (q 46=0) := gI46.1 b149
             have gI104 := pU_I104 hq b7 b54 b70
             have b104 : ¬ (q 104=0) := gI104.1 b155
             have gI119 := pU_I119 hq b7 b54 b62
             have b119 : ¬ (q 119=0) := gI119.1 b89
             have gZ196x3 := pU_Z196x3 hq b235
             have b196 : q 196=0 := gZ196x3
             have hH : hAll q pU_H16 := (pU_An (hF b7) (pU_An (hF b54) (pU_An (hF b62) (pU_An (hF b70) (pU_An (hF b89) (pU_An (hF b143) (pU_An (hF b149) (pU_An (hF b155) (pU_An (hF b172) (pU_An (hF b219) (pU_An (hF b227) (pU_An (hT b235) (pU_An (hF b31) (pU_An (hF b46) (pU_An (hF b104) (pU_An (hF b119) (pU_An (hT b196) trivial)))))))))))))))))
             exact pU_leaf pU_r16 hσ hq h0 hH ⟨tab,mx⟩ (pU_memoG hσ hq h0 ⟨tab,mx⟩) hA
            ·
             by_cases b253 : q 253=0
             ·
              have gI31 := pU_I31 hq b54 b62 b70
              have b31 : ¬ (q 31=0) := gI31.1 b143
              have gI46 := pU_I46 hq b62 b7 b70
              have b46 : ¬ (q 46=0) := gI46.1 b149
              have gI104 := pU_I104 hq b7 b54 b70
              have b104 : ¬ (q 104=0) := gI104.1 b155
              have gI119 := pU_I119 hq b7 b54 b62
              have b119 : ¬ (q 119=0) := gI119.1 b89
              by_cases b196 : q 196=0
              ·
               have hH : hAll q pU_H17 := (pU_An (hF b7) (pU_An (hF b54) (pU_An (hF b62) (pU_An (hF b70) (pU_An (hF b89) (pU_An (hF b143) (pU_An (hF b149) (pU_An (hF b155) (pU_An (hF b172) (pU_An (hF b219) (pU_An (hF b227) (pU_An (hF b235) (pU_An (hT b253) (pU_An (hF b31) (pU_An (hF b46) (pU_An (hF b104) (pU_An (hF b119) (pU_An (hT b196) trivial))))))))))))))))))
               exact pU_leaf pU_r17 hσ hq h0 hH ⟨tab,mx⟩ (pU_memoG hσ hq h0 ⟨tab,mx⟩) hA
              ·
               by_cases b211 : q 211=0
               ·
                have hH : hAll q pU_H18 := (pU_An (hF b7) (pU_An (hF b54) (pU_An (hF b62) (pU_An (hF b70) (pU_An (hF b89) (pU_An (hF b143) (pU_An (hF b149) (pU_An (hF b155) (pU_An (hF b172) (pU_An (hF b219) (pU_An (hF b227) (pU_An (hF b235) (pU_An (hT b253) (pU_An (hF b31) (pU_An (hF b46) (pU_An (hF b104) (pU_An (hF b119) (pU_An (hF b196) (pU_An (hT b211) trivial)))))))))))))))))))
                exact pU_leaf pU_r18 hσ hq h0 hH ⟨tab,mx⟩ (pU_memoG hσ hq h0 ⟨tab,mx⟩) hA
               ·
                by_cases b268 : q 268=0
                ·
                 have hH : hAll q pU_H19 := (pU_An (hF b7) (pU_An (hF b54) (pU_An (hF b62) (pU_An (hF b70) (pU_An (hF b89) (pU_An (hF b143) (pU_An (hF b149) (pU_An (hF b155) (pU_An (hF b172) (pU_An (hF b219) (pU_An (hF b227) (pU_An (hF b235) (pU_An (hT b253) (pU_An (hF b31) (pU_An (hF b46) (pU_An (hF b104) (pU_An (hF b119) (pU_An (hF b196) (pU_An (hF b211) (pU_An (hT b268) trivial))))))))))))))))))))
                 exact pU_leaf pU_r19 hσ hq h0 hH ⟨tab,mx⟩ (pU_memoG hσ hq h0 ⟨tab,mx⟩) hA
                ·
                 have gI283 := pU_I283 hq b172 b219 b227
                 have b283 : q 283=0 := gI283.2 b253
                 have hH : hAll q pU_H20 := (pU_An (hF b7) (pU_An (hF b54) (pU_An (hF b62) (pU_An (hF b70) (pU_An (hF b89) (pU_An (hF b143) (pU_An (hF b149) (pU_An (hF b155) (pU_An (hF b172) (pU_An (hF b219) (pU_An (hF b227) (pU_An (hF b235) (pU_An (hT b253) (pU_An (hF b31) (pU_An (hF b46) (pU_An (hF b104) (pU_An (hF b119) (pU_An (hF b196) (pU_An (hF b211) (pU_An (hF b268) (pU_An (hT b283) trivial)))))))))))))))))))))
                 exact pU_leaf pU_r20 hσ hq h0 hH ⟨tab,mx⟩ (pU_memoG hσ hq h0 ⟨tab,mx⟩) hA
             ·
              by_cases b307 : q 307=0
              ·
               have gI31 := pU_I31 hq b54 b62 b70
               have b31 : ¬ (q 31=0) := gI31.1 b143
               have gI46 := pU_I46 hq b62 b7 b70
               have b46 : ¬ (q 46=0) := gI46.1 b149
               have gI104 := pU_I104 hq b7 b54 b70
               have b104 : ¬ (q 104=0) := gI104.1 b155
               have gI119 := pU_I119 hq b7 b54 b62
               have b119 : ¬ (q 119=0) := gI119.1 b89
               have gI196 := pU_I196 hq b219 b227 b235
               have b196 : q 196=0 := gI196.2 b307
               have hH : hAll q pU_H21 := (pU_An (hF b7) (pU_An (hF b54) (pU_An (hF b62) (pU_An (hF b70) (pU_An (hF b89) (pU_An (hF b143) (pU_An (hF b149) (pU_An (hF b155) (pU_An (hF b172) (pU_An (hF b219) (pU_An (hF b227) (pU_An (hF b235) (pU_An (hF b253) (pU_An (hT b307) (pU_An (hF b31) (pU_An (hF b46) (pU_An (hF b104) (pU_An (hF b119) (pU_An (hT b196) trivial)))))))))))))))))))
               exact pU_leaf pU_r21 hσ hq h0 hH ⟨tab,mx⟩ (pU_memoG hσ hq h0 ⟨tab,mx⟩) hA
              ·
               by_cases b313 : q 313=0
               ·
                have gI31 := pU_I31 hq b54 b62 b70
                have b31 : ¬ (q 31=0) := gI31.1 b143
                have gI46 := pU_I46 hq b62 b7 b70
                have b46 : ¬ (q 46=0) := gI46.1 b149
                have gI104 := pU_I104 hq b7 b54 b70
                have b104 : ¬ (q 104=0) := gI104.1 b155
                have gI119 := pU_I119 hq b7 b54 b62
                have b119 : ¬ (q 119=0) := gI119.1 b89
                have gI196 := pU_I196 hq b219 b227 b235
                have b196 : ¬ (q 196=0) := gI196.1 b307
                have gI211 := pU_I211 hq b227 b172 b235
                have b211 : q 211=0 := gI211.2 b313
                have hH : hAll q pU_H22 := (pU_An (hF b7) (pU_An (hF b54) (pU_An (hF b62) (pU_An (hF b70) (pU_An (hF b89) (pU_An (hF b143) (pU_An (hF b149) (pU_An (hF b155) (pU_An (hF b172) (pU_An (hF b219) (pU_An (hF b227) (pU_An (hF b235) (pU_An (hF b253) (pU_An (hF b307) (pU_An (hT b313) (pU_An (hF b31) (pU_An (hF b46) (pU_An (hF b104) (pU_An (hF b119) (pU_An (hF b196) (pU_An (hT b211) trivial)))))))))))))))))))))
                exact pU_leaf pU_r22 hσ hq h0 hH ⟨tab,mx⟩ (pU_memoG hσ hq h0 ⟨tab,mx⟩) hA
               ·
                by_cases b319 : q 319=0
                ·
                 have gI31 := pU_I31 hq b54 b62 b70
                 have b31 : ¬ (q 31=0) := gI31.1 b143
                 have gI46 := pU_I46 hq b62 b7 b70
                 have b46 : ¬ (q 46=0) := gI46.1 b149
                 have gI104 := pU_I104 hq b7 b54 b70
                 have b104 : ¬ (q 104=0) := gI104.1 b155
                 have gI119 := pU_I119 hq b7 b54 b62
                 have b119 : ¬ (q 119=0) := gI119.1 b89
                 have gI196 := pU_I196 hq b219 b227 b235
                 have b196 : ¬ (q 196=0) := gI196.1 b307
                 have gI211 := pU_I211 hq b227 b172 b235
                 have b211 : ¬ (q 211=0) := gI211.1 b313
                 have gI268 := pU_I268 hq b172 b219 b235
                 have b268 : q 268=0 := gI268.2 b319
                 have hH : hAll q pU_H23 := (pU_An (hF b7) (pU_An (hF b54) (pU_An (hF b62) (pU_An (hF b70) (pU_An (hF b89) (pU_An (hF b143) (pU_An (hF b149) (pU_An (hF b155) (pU_An (hF b172) (pU_An (hF b219) (pU_An (hF b227) (pU_An (hF b235) (pU_An (hF b253) (pU_An (hF b307) (pU_An (hF b313) (pU_An (hT b319) (pU_An (hF b31) (pU_An (hF b46) (pU_An (hF b104) (pU_An (hF b119) (pU_An (hF b196) (pU_An (hF b211) (pU_An (hT b268) trivial)))))))))))))))))))))))
                 exact pU_leaf pU_r23 hσ hq h0 hH ⟨tab,mx⟩ (pU_memoG hσ hq h0 ⟨tab,mx⟩) hA
                ·
                 have gI31 := pU_I31 hq b54 b62 b70
                 have b31 : ¬ (q 31=0) := gI31.1 b143
                 have gI46 := pU_I46 hq b62 b7 b70
                 have b46 : ¬ (q 46=0) := gI46.1 b149
                 have gI104 := pU_I104 hq b7 b54 b70
                 have b104 : ¬ (q 104=0) := gI104.1 b155
                 have gI119 := pU_I119 hq b7 b54 b62
                 have b119 : ¬ (q 119=0) := gI119.1 b89
                 have gI196 := pU_I196 hq b219 b227 b235
                 have b196 : ¬ (q 196=0) := gI196.1 b307
                 have gI211 := pU_I211 hq b227 b172 b235
                 have b211 : ¬ (q 211=0) := gI211.1 b313
                 have gI268 := pU_I268 hq b172 b219 b235
                 have b268 : ¬ (q 268=0) := gI268.1 b319
                 have gI283 := pU_I283 hq b172 b219 b227
                 have b283 : ¬ (q 283=0) := gI283.1 b253
                 have gM := pU_M hq b7 b54 b62 b70 b89 b143 b149 b155 b172 b219 b227 b235 b253 b307 b313 b319
                 have b447 : q 447=0 := gM.1
                 have b476 : q 476=0 := gM.2.1
                 have b505 : q 505=0 := gM.2.2.1
                 have b534 : q 534=0 := gM.2.2.2.1
                 have b551 : ¬ (q 551=0) := gM.2.2.2.2.1
                 have b566 : ¬ (q 566=0) := gM.2.2.2.2.2
                 have hH : hAll q pU_H24 := (pU_An (hF b7) (pU_An (hF b54) (pU_An (hF b62) (pU_An (hF b70) (pU_An (hF b89) (pU_An (hF b143) (pU_An (hF b149) (pU_An (hF b155) (pU_An (hF b172) (pU_An (hF b219) (pU_An (hF b227) (pU_An (hF b235) (pU_An (hF b253) (pU_An (hF b307) (pU_An (hF b313) (pU_An (hF b319) (pU_An (hF b31) (pU_An (hF b46) (pU_An (hF b104) (pU_An (hF b119) (pU_An (hF b196) (pU_An (hF b211) (pU_An (hF b268) (pU_An (hF b283) (pU_An (hT b447) (pU_An (hT b476) (pU_An (hT b505) (pU_An (hT b534) (pU_An (hF b551) (pU_An (hF b566) trivial))))))))))))))))))))))))))))))
                 exact pU_leaf pU_r24 hσ hq h0 hH ⟨tab,mx⟩ (pU_memoG hσ hq h0 ⟨tab,mx⟩) hA
end Go.Proofs.YtgemmepbdmbmfaaGreatDoor
