/- Part 13 of the walks and of the mathematics under them: VP VPC VY VSZ VSA CFcornered MGT. -/
import Derived.Test.YtibifijaanjekaaGreatDoorA2
import Derived.Test.YtibifijaanjekaaGreatDoorA12
set_option maxHeartbeats 16000000
set_option maxRecDepth 100000
/- VP -/
namespace Cx
open Go Go.RowKit
abbrev Hs := List (Nat × Nat × Nat × Nat)
def Sx.plus (S : Sx) (X : Hs) : Sx := { S with H := X ++ S.H }
abbrev Ask := Nat × Nat × Nat × Nat
def askZ (a : Nat) : Ask := (0,a,0,a)
def askOk (S : Sx) : Ask→Bool
 | (k,a,b,d) => (Nat.beq k 0 && (Nat.beq b 0 && Nat.beq d a)) || (Nat.beq k 3 && (match S.N[d]? with
  | some (op,ar) => Nat.beq op 3 && beqL ar [a,b]
  | none => false))
def acrossB (S : Sx) (a b : Nat) : List Nat→List Nat→Option (List Ask)
 | c :: l,d :: m => (S.nd 4 [a,d]).bind fun x => (S.nd 4 [c,b]).bind fun y => (S.nd 3 [x,y]).bind fun z => (acrossB S a b l m).map fun r => (3,x,y,z) :: r
 | _,_ => some []
def alikeB (S : Sx) : List Nat→List Nat→List Nat→List Nat→Option (List Ask)
 | pl,pm,a :: l,b :: m => (acrossB S a b pl pm).bind fun r => (alikeB S (pl ++ [a]) (pm ++ [b]) l m).map fun t => r ++ t
 | _,_,_,_ => some []
def sameA (S : Sx) : List Nat→List Nat→Option (List Ask)
 | a :: l,b :: m => (S.nd 3 [a,b]).bind fun d => (sameA S l m).map fun r => (3,a,b,d) :: r
 | _,_ => some []
def asks (S : Sx) (h : List HB) (code : Nat) (args : List AV) : Option (List Ask) :=
 match code with
 | 60 => arg1 (fun x => (asA x).bind fun cs => (qRow S cs).map fun l => l.map askZ) args
 | 61 => arg1 (fun x => (rowB h 1 x).bind fun p => (mapO (acX 0) p.2).map fun l => l.map askZ) args
 | 62 => arg2 (fun x y => (rowB h 1 x).bind fun p => (mapO (acX 0) p.2).bind fun l => (rowB h 1 y).bind fun p' => (mapO (acX 0) p'.2).bind fun m => alikeB S [] [] l m) args
 | 63 => arg1 (fun x => (asA x).bind fun cs => (mapO acTold cs).bind fun l => (plainOf S l).map fun xs => xs.map askZ) args
 | 67 => arg1 (fun x => (asA x).bind fun cs => (mapO (txNode S) (cs.take 3)).map fun l => l.map askZ) args
 | 65 => arg1 (fun x => (asA x).bind fun cs => (mapO (acX 0) cs).map fun l => l.map askZ) args
 | 66 => arg2 (fun x y => (asA x).bind fun cs => (asA y).bind fun ds => (mapO (acX 0) cs).bind fun l => (mapO (acX 0) ds).bind fun m => sameA S l m) args
 | 64 => arg1 (fun x => (asA x).bind fun cs => (qRow S cs).map fun l => (l.take 5).map askZ) args
 | _ => none
def splits : List Ask→Hs→List Hs
 | [],_ => []
 | (k,a,b,_) :: l,X => ((k,a,b,0) :: X) :: splits l ((k,a,b,1) :: X)
def allZ : List Ask→Hs→Hs
 | [],X => X
 | (k,a,b,_) :: l,X => allZ l ((k,a,b,1) :: X)
def bodyC (S : Sx) (call : CallF) : CallF := fun f args h nx => S.P.funcs[f]?.bind fun fn => fn.body.bind fun c => ifO (Nat.ble args.length fn.ntmps) ((runB S call fn.ntmps c { tm := numb1 0 args,h := h,nx := nx }).bind fun r =>
   ifO (Nat.ble r.1 1) ((mapO (resB S.P r.2) fn.results.toList).map fun xs => (tupB xs,r.2.h,r.2.nx)))
abbrev CRes := Option (AV × List HB × Nat)
def agree (h : List HB) (b : Bool) (hi : Nat) : CRes→Bool
 | some (v,h',nx') => (match asB v with
  | some c => b == c
  | none => false) && (Nat.ble nx' hi && h.all fun x => h'.any fun y => Nat.beq y.1 x.1 && acsW x.2 y.2)
 | none => false
def topN : Nat→List CRes→Nat
 | m,[] => m
 | m,some p :: rs => topN (bif Nat.ble m p.2.2 then p.2.2 else m) rs
 | m,none :: rs => topN m rs
def joinC (h : List HB) (nx : Nat) (rs : List CRes) : CRes :=
 match rs with
 | some p :: _ => (asB p.1).bind fun b => ifO (rs.all (agree h b (topN nx rs))) (some (kB b,h,topN nx rs))
 | _ => none
def askIt (S : Sx) (X : Hs) (h : List HB) (c : Nat) (args : List AV) : Option (List Ask × Nat) :=
 (asks (S.plus X) h c args).bind fun l => ifO (l.all (askOk S)) ((sqN S (l.map (·.2.2.2))).bind fun s => ((S.plus X).kn 0 s 0).map fun r => (l,r))
theorem askIt_some {S : Sx} {X : Hs} {h : List HB} {c : Nat} {args : List AV} {l : List Ask} {r : Nat} (e : askIt S X h c args=some (l,r)) : (∀ a ∈ l,askOk S a=true)∧∃ s,sqN S (l.map (·.2.2.2))=some s∧(S.plus X).kn 0 s 0=some r := by
 unfold askIt at e
 simp only [Option.bind_eq_some_iff,ifO_some,Option.map_eq_some_iff,List.all_eq_true,Prod.mk.injEq] at e
 obtain ⟨l',_,h1,s,h2,r',h3,rfl,rfl⟩ := e
 exact ⟨h1,s,h2,h3⟩
def callC (S : Sx) (cs : List (FuncId × Nat)) : Nat→Hs→CallF
 | 0,_,_,_,_,_ => none
 | n+1,X,f,args,h,nx => match prGet f cs with
  | none => bodyC (S.plus X) (callC S cs n X) f args h nx
  | some c => match askIt S X h c args with
   | none => bodyC (S.plus X) (callC S cs n X) f args h nx
   | some (l,r) => bif Nat.beq 1 r then bodyC (S.plus (allZ l X)) (callC S cs n (allZ l X)) f args h nx
    else joinC h nx ((splits l X).map fun X' => bodyC (S.plus X') (callC S cs n X') f args h nx)
section
variable {S : Sx} {E : Ev S.nb} {w0 : World}
theorem bodyC_ok {call : CallF} (hm : S.P.follows .mixedOrders=true) (N : Knows S E) (hP : PrimOk S E w0) (hC : CallOk S E w0 call) : CallOk S E w0 (bodyC S call) := fun f args h nx p hp γ w vs hi hA hb hlt hf => by
 unfold bodyC at hp
 simp only [Option.bind_eq_some_iff,ifO_some,Option.map_eq_some_iff,Nat.ble_eq] at hp
 obtain ⟨fn,h1,c,h2,h3,⟨e,s'⟩,h4,h5,xs,h6,rfl⟩ := hp
 dsimp only at h5 h6
 rcases (show e=0 ∨ e=1 by omega) with rfl | rfl
 all_goals
  obtain ⟨_,_,r⟩ := runB_ok hm N hP hC c _ _ _ h4
  refine calls_of_wp h1 h2 (r γ _ w _ ⟨hi,fun t v q => ?_,hb,hlt,?_,rfl⟩ hf fun a' w' γ' hef hs => ?_)
  ·obtain ⟨_,q2⟩ := numb1_get q
   rw [Nat.sub_zero] at q2
   obtain ⟨u,hu,hv⟩ := hA.get q2
   have hlt : t < vs.length := (List.getElem?_eq_some_iff.1 hu).1
   have : (vs.toArray ++ Array.replicate (fn.ntmps - vs.toArray.size) undef).getD t undef=u := by
    rw [Array.getD_eq_getD_getElem?,Array.getElem?_append_left (by simpa using hlt)]
    simp [hu]
   show avOn _ v ((vs.toArray ++ Array.replicate (fn.ntmps - vs.toArray.size) undef).getD t undef)
   rw [this]
   exact hv
  ·have := hA.len
   simp
   omega
  ·obtain ⟨v,hv,hx⟩ := results_run hs h6
   exact ⟨hs.df,v,hv,v,γ',rfl,hef,hx,hs.bx⟩
theorem asB_kB {v : AV} {b : Bool} (h : asB v=some b) : v=kB b := by
 unfold asB at h
 rw [Option.bind_eq_some_iff] at h
 obtain ⟨c,h1,h2⟩ := h
 unfold asC at h1
 split at h1
 ·cases h1
  unfold acB at h2
  split at h2
  ·cases h2
   rfl
  ·cases h2
 ·cases h1
theorem agree_some {h : List HB} {b : Bool} {hi : Nat} {r : CRes} (hr : agree h b hi r=true) : ∃ h' nx',r=some (kB b,h',nx')∧nx'≤hi∧∀ x ∈ h,x ∈ h' := by
 unfold agree at hr
 split at hr
 ·rename_i v h' nx'
  rw [Bool.and_eq_true,Bool.and_eq_true,Nat.ble_eq,List.all_eq_true] at hr
  obtain ⟨h1,h2,h3⟩ := hr
  refine ⟨h',nx',?_,h2,fun x hx => ?_⟩
  ·split at h1
   ·rename_i c hc
    rw [asB_kB hc,show c=b from (by simpa using h1 : b=c).symm]
   ·cases h1
  ·have := h3 x hx
   rw [List.any_eq_true] at this
   obtain ⟨y,hy,e⟩ := this
   rw [Bool.and_eq_true,Nat.beq_eq] at e
   have : x=y := Prod.ext e.1.symm (acsW_eq e.2)
   rw [this]
   exact hy
 ·cases hr
variable {T : Hs→Prop} {z : Nat→Prop}
def AskTrue (S : Sx) (T : Hs→Prop) (z : Nat→Prop) : Prop := ∀ X,T X→∀ a,askOk S a=true→(z a.2.2.2→T ((a.1,a.2.1,a.2.2.1,1) :: X))∧(¬ z a.2.2.2→T ((a.1,a.2.1,a.2.2.1,0) :: X))
theorem allZ_true (hk : AskTrue S T z) : ∀ {l : List Ask} {X : Hs},T X→(∀ a ∈ l,askOk S a=true)→(∀ a ∈ l,z a.2.2.2)→T (allZ l X)
 | [],_,h,_,_ => h
 | (k,a,b,d) :: l,X,h,ho,hz => allZ_true (l := l) hk ((hk X h (k,a,b,d) (ho _ List.mem_cons_self)).1 (hz _ List.mem_cons_self)) (fun a ha => ho a (List.mem_cons_of_mem _ ha)) (fun a ha => hz a (List.mem_cons_of_mem _ ha))
theorem splits_true (hk : AskTrue S T z) : ∀ {l : List Ask} {X : Hs},T X→(∀ a ∈ l,askOk S a=true)→(∃ a ∈ l,¬ z a.2.2.2)→∃ X' ∈ splits l X,T X'
 | [],_,_,_,⟨_,h,_⟩ => by cases h
 | (k,a,b,d) :: l,X,h,ho,hz => by
  by_cases e : z d
  ·obtain ⟨X',h1,h2⟩ := splits_true (l := l) hk ((hk X h (k,a,b,d) (ho _ List.mem_cons_self)).1 e) (fun a ha => ho a (List.mem_cons_of_mem _ ha)) (by
    obtain ⟨c,hc,hn⟩ := hz
    rcases List.mem_cons.1 hc with rfl | hc
    ·exact (hn e).elim
    ·exact ⟨c,hc,hn⟩)
   exact ⟨X',List.mem_cons_of_mem _ h1,h2⟩
  ·exact ⟨_,List.mem_cons_self,(hk X h (k,a,b,d) (ho _ List.mem_cons_self)).2 e⟩
theorem callC_ok {cs : List (FuncId × Nat)} (hm : S.P.follows .mixedOrders=true) (hN : ∀ X,T X→Knows (S.plus X) E) (hP : ∀ X,T X→PrimOk (S.plus X) E w0) (hk : AskTrue S T z)
  (hs : ∀ X,T X→∀ l s r,sqN S l=some s→(S.plus X).kn 0 s 0=some r→(Nat.beq 1 r=true→∀ d ∈ l,z d)∧(Nat.beq 1 r=false→∃ d ∈ l,¬ z d)) : ∀ n X,T X→CallOk S E w0 (callC S cs n X)
 | 0,_,_ => fun _ _ _ _ _ h => by cases h
 | n+1,X,hX => fun f args h nx p hp => by
  have body : ∀ Y,T Y→CallOk S E w0 (bodyC (S.plus Y) (callC S cs n Y)) := fun Y hY => bodyC_ok (S := S.plus Y) hm (hN Y hY) (hP Y hY) (callC_ok hm hN hP hk hs n Y hY)
  unfold callC at hp
  split at hp
  ·exact body X hX f args h nx p hp
  ·split at hp
   ·exact body X hX f args h nx p hp
   rename_i l r hk'
   obtain ⟨hl,s,h1,h2⟩ := askIt_some hk'
   have h3 := hp
   obtain ⟨a1,a0⟩ := hs X hX _ s r h1 h2
   cases e : Nat.beq 1 r with
   | true =>
    rw [e] at h3
    exact body _ (allZ_true hk hX hl fun a ha => a1 e _ (List.mem_map_of_mem ha)) f args h nx p h3
   | false =>
    rw [e] at h3
    obtain ⟨d,hd,hz⟩ := a0 e
    obtain ⟨a,ha,rfl⟩ := List.mem_map.1 hd
    obtain ⟨X',m1,m2⟩ := splits_true hk hX hl ⟨a,ha,hz⟩
    replace h3 : joinC h nx ((splits l X).map fun X' => bodyC (S.plus X') (callC S cs n X') f args h nx)=some p := h3
    unfold joinC at h3
    split at h3
    ·rename_i p0 rs hrs
     rw [Option.bind_eq_some_iff] at h3
     obtain ⟨b,hb,h4⟩ := h3
     rw [ifO_some,List.all_eq_true] at h4
     obtain ⟨h5,h6⟩ := h4
     cases h6
     obtain ⟨h',nx',q1,q2,q3⟩ := agree_some (h5 _ (List.mem_map_of_mem m1))
     intro γ w vs hi hA hb hlt hf
     refine (body X' m2 f args h nx _ q1 γ w vs hi hA hb hlt fun b g1 g2 => hf b g1 (Nat.lt_of_lt_of_le g2 q2)).mono ?_
     rintro _ w' ⟨r',γ',rfl,hef,hv,hx⟩
     exact ⟨r',γ',rfl,hef.wide (Nat.le_refl _) q2,hv,fun x hh => hx x (q3 x hh)⟩
    ·cases h3
end
end Cx
/- VPC -/
namespace Go.Proofs.YtibifijaanjekaaGreatDoor
open Cx Go Go.RowKit
section
variable {N : List Nd} {H : List (Nat × Nat × Nat × Nat)} {K : List (FuncId × List AC)} {L C : List (List Nat × Nat)} {Z : List Nat} {q : Nat→Rat} {σ : Nat→ByteArray} {w0 : World} {cl : List FuncId} {cs pr : List (FuncId × Nat)}
theorem kn_cons {k a b k' a' b' r' : Nat} {r : Nat} (h : knFrom k a b ((k',a',b',r') :: H)=some r) : (k=k'∧a=a'∧b=b'∧r=r') ∨ knFrom k a b H=some r := by
 unfold knFrom at h
 cases e : (Nat.beq k k' && (Nat.beq a a' && Nat.beq b b')) with
 | true =>
  rw [e] at h
  simp only [Bool.and_eq_true,Nat.beq_eq] at e
  exact Or.inl ⟨e.1,e.2.1,e.2.2,(Option.some.inj h).symm⟩
 | false =>
  rw [e] at h
  exact Or.inr h
theorem Hy.add0 (Y : Hy N H L C Z q σ) {a r : Nat} (h : Nat.beq 1 r=true ↔ q a=0) : Hy N ((0,a,0,r) :: H) L C Z q σ where
 nat := Y.nat
 qs := Y.qs
 zs := Y.zs
 par := Y.par
 lit := Y.lit
 k0 := fun a' r' g => by
  rcases kn_cons g with ⟨_,e1,_,e2⟩ | g
  ·rw [e1,e2]
   exact h
  ·exact Y.k0 a' r' g
 k1 := fun a' r' g => by
  rcases kn_cons g with ⟨e,_⟩ | g
  ·cases e
  ·exact Y.k1 a' r' g
 k2 := fun a' r' g => by
  rcases kn_cons g with ⟨e,_⟩ | g
  ·cases e
  ·exact Y.k2 a' r' g
 k4 := fun l a' b' r' g1 g => by
  rcases kn_cons g with ⟨e,_⟩ | g
  ·cases e
  ·exact Y.k4 l a' b' r' g1 g
 k3 := fun a' b' r' g => by
  rcases kn_cons g with ⟨e,_⟩ | g
  ·cases e
  ·exact Y.k3 a' b' r' g
 k6 := fun a' b' r' g => by
  rcases kn_cons g with ⟨e,_⟩ | g
  ·cases e
  ·exact Y.k6 a' b' r' g
 k5 := fun a' r' g => by
  rcases kn_cons g with ⟨e,_⟩ | g
  ·cases e
  ·exact Y.k5 a' r' g
theorem Hy.add3 (Y : Hy N H L C Z q σ) {a b r : Nat} (h : Nat.beq 1 r=true ↔ q a=q b) : Hy N ((3,a,b,r) :: H) L C Z q σ where
 nat := Y.nat
 qs := Y.qs
 zs := Y.zs
 par := Y.par
 lit := Y.lit
 k0 := fun a' r' g => by
  rcases kn_cons g with ⟨e,_⟩ | g
  ·cases e
  ·exact Y.k0 a' r' g
 k1 := fun a' r' g => by
  rcases kn_cons g with ⟨e,_⟩ | g
  ·cases e
  ·exact Y.k1 a' r' g
 k2 := fun a' r' g => by
  rcases kn_cons g with ⟨e,_⟩ | g
  ·cases e
  ·exact Y.k2 a' r' g
 k4 := fun l a' b' r' g1 g => by
  rcases kn_cons g with ⟨e,_⟩ | g
  ·cases e
  ·exact Y.k4 l a' b' r' g1 g
 k3 := fun a' b' r' g => by
  rcases kn_cons g with ⟨_,e1,e2,e3⟩ | g
  ·rw [e1,e2,e3]
   exact h
  ·exact Y.k3 a' b' r' g
 k6 := fun a' b' r' g => by
  rcases kn_cons g with ⟨e,_⟩ | g
  ·cases e
  ·exact Y.k6 a' b' r' g
 k5 := fun a' r' g => by
  rcases kn_cons g with ⟨e,_⟩ | g
  ·cases e
  ·exact Y.k5 a' r' g
theorem ask_true : AskTrue (sx Tryz.prog N H K L C Z pr) (fun X => Hy N (X ++ H) L C Z q σ) (fun d => q d=0) := fun X Y a ha => by
 obtain ⟨k,a,b,d⟩ := a
 have t1 : Nat.beq 1 1=true := rfl
 have t0 : Nat.beq 1 0 ≠ true := fun h => by cases h
 unfold askOk at ha
 rw [Bool.or_eq_true] at ha
 rcases ha with ha | ha
 ·simp only [Bool.and_eq_true,Nat.beq_eq] at ha
  obtain ⟨rfl,rfl,rfl⟩ := ha
  exact ⟨fun h => Hy.add0 Y ⟨fun _ => h,fun _ => t1⟩,fun h => Hy.add0 Y ⟨fun g => (t0 g).elim,fun g => (h g).elim⟩⟩
 ·rw [Bool.and_eq_true,Nat.beq_eq] at ha
  obtain ⟨rfl,hb⟩ := ha
  split at hb
  ·rename_i op ar hn
   rw [Bool.and_eq_true,Nat.beq_eq] at hb
   obtain ⟨rfl,hb⟩ := hb
   have e := beqL_eq hb
   subst e
   have hv : q d=q a - q b := Y.nat d _ hn
   have h2 : q d=0 ↔ q a=q b := by
    rw [hv]
    constructor <;> intro h <;> grind
   exact ⟨fun h => Hy.add3 Y ⟨fun _ => h2.1 h,fun _ => t1⟩,fun h => Hy.add3 Y ⟨fun g => (t0 g).elim,fun g => (h (h2.2 g)).elim⟩⟩
  ·cases hb
theorem sq_nn (y : Rat) : 0≤y*y := by
 by_cases h : y=0
 ·rw [h,Rat.zero_mul]
  exact Rat.le_refl
 ·exact Rat.le_of_lt (sq1_pos h)
theorem sq_sum {x y : Rat} (hx : 0≤x) : x+y*y=0 ↔ x=0∧y=0 := by
 constructor
 ·intro h
  have h2 := sq_nn y
  have h3 : x=0 := by grind
  refine ⟨h3,?_⟩
  have : y*y=0 := by grind
  rcases Rat.mul_eq_zero.1 this with g | g <;> exact g
 ·rintro ⟨rfl,rfl⟩
  grind
theorem sqF_val {H' : List (Nat × Nat × Nat × Nat)} (Y : Hy N H' L C Z q σ) : ∀ {l : List Nat} {s t : Nat},sqF (sx Tryz.prog N H K L C Z pr) s l=some t→0≤q s→0≤q t∧(q t=0 ↔ q s=0∧∀ d ∈ l,q d=0)
 | [],s,t,h,hs => by
  cases h
  exact ⟨hs,fun e => ⟨e,fun d hd => by cases hd⟩,fun e => e.1⟩
 | a :: l,s,t,h,hs => by
  unfold sqF at h
  simp only [Option.bind_eq_some_iff] at h
  obtain ⟨b,h1,c,h2,h3⟩ := h
  have e1 : q b=q a*q a := Hy.nd (H := H') (K := K) (pr := pr) Y h1
  have e2 : q c=q s+q b := Hy.nd (H := H') (K := K) (pr := pr) Y h2
  have n := sq_nn (q a)
  obtain ⟨g1,g2⟩ := sqF_val Y h3 (by grind)
  refine ⟨g1,g2.trans ?_⟩
  have e3 := sq_sum (y := q a) hs
  rw [e2,e1,e3]
  constructor
  ·rintro ⟨⟨x,y⟩,z⟩
   refine ⟨x,fun d hd => ?_⟩
   rcases List.mem_cons.1 hd with rfl | hd
   ·exact y
   ·exact z d hd
  ·rintro ⟨x,y⟩
   exact ⟨⟨x,y a List.mem_cons_self⟩,fun d hd => y d (List.mem_cons_of_mem _ hd)⟩
theorem sqN_val {H' : List (Nat × Nat × Nat × Nat)} (Y : Hy N H' L C Z q σ) {l : List Nat} {s : Nat} (h : sqN (sx Tryz.prog N H K L C Z pr) l=some s) : q s=0 ↔ ∀ d ∈ l,q d=0 := by
 unfold sqN at h
 split at h
 ·cases h
 ·rename_i a l
  rw [Option.bind_eq_some_iff] at h
  obtain ⟨b,h1,h2⟩ := h
  have e1 : q b=q a*q a := Hy.nd (H := H') (K := K) (pr := pr) Y h1
  have n := sq_nn (q a)
  obtain ⟨_,g⟩ := sqF_val Y h2 (by grind)
  rw [g,e1]
  constructor
  ·rintro ⟨x,y⟩ d hd
   rcases List.mem_cons.1 hd with rfl | hd
   ·rcases Rat.mul_eq_zero.1 x with x | x <;> exact x
   ·exact y d hd
  ·intro y
   refine ⟨?_,fun d hd => y d (List.mem_cons_of_mem _ hd)⟩
   rw [y a List.mem_cons_self,Rat.zero_mul]
theorem run_cases {f : FuncId} {args : List AV} {vs : List Value} {k : Nat} {p : List HB × Nat} {b : Bool} (Y : Hy N H L C Z q σ) (hm : (Tryz.prog).follows .mixedOrders=true) {w : World} (hP : ∀ H',Hy N H' L C Z q σ→PrimOk (sx Tryz.prog N H' K L C Z pr) (evS q σ) w) (hr : callC (sx Tryz.prog N H K L C Z pr) cs k [] f args [] 0=some (kB b,p))
  (hA : A2 (avOn (cOn (evS q σ) K (fun _ => none) w)) args vs) : Calls Tryz.prog f vs.toArray w fun e w' => Below w.heap.size w w'∧e=.returned (.bool b) := by
 refine (callC_ok (S := sx Tryz.prog N H K L C Z pr) (E := evS q σ) (w0 := w) (T := fun X => Hy N (X ++ H) L C Z q σ) (z := fun d => q d=0) hm (fun X hX => knows hX) (fun X hX => hP _ hX) ask_true ?_ k [] Y f args [] 0 (kB b,p) hr (fun _ => none) w vs ⟨Below.refl _ _,(fun _ _ h => by cases h)⟩ hA (fun x hx => by cases hx) (fun x hx => by cases hx) (fun _ _ _ => rfl)).mono ?_
 ·intro X hX l s r h1 h2
  have e := hX.k0 s r h2
  have g := sqN_val hX h1
  refine ⟨fun h => g.1 (e.1 h),fun h => ?_⟩
  have hn : ¬ ∀ d ∈ l,q d=0 := fun q' => by
   rw [e.2 (g.2 q')] at h
   cases h
  simpa using hn
 ·rintro _ w' ⟨r,γ',rfl,hef,hv,_⟩
  exact ⟨hef.wi.bel,by rw [show r=.bool b from (asC_on (v := kB b) (c := .inl (.bool b)) rfl hv).1]⟩
theorem run_toldC {f : FuncId} {args : List AV} {vs : List Value} {k : Nat} {p : List HB × Nat} {b : Bool} (Y : Hy N H L C Z q σ) (hc : ∀ f ∈ cl,Closed f) (hm : (Tryz.prog).follows .mixedOrders=true) (hr : callC (sx Tryz.prog N H K L C Z (prC cl)) cs k [] f args [] 0=some (kB b,p)) {w : World} (hp : PreS w)
  (hA : A2 (avOn (cOn (evS q σ) K (fun _ => none) w)) args vs) : Calls Tryz.prog f vs.toArray w fun e w' => Below w.heap.size w w'∧e=.returned (.bool b) := run_cases Y hm (fun _ Y' => primOk Y' hp hc) hr hA
theorem run_toldC' {f : FuncId} {args : List AV} {vs : List Value} (k : Nat) (Y : Hy N H L C Z q σ) (hc : ∀ f ∈ cl,Closed f) (hm : (Tryz.prog).follows .mixedOrders=true) (hr : (callC (sx Tryz.prog N H K L C Z (prC cl)) cs k [] f args [] 0).map (·.1)=some (kB true)) {w : World} (hp : PreS w)
  (hA : A2 (avOn (cOn (evS q σ) K (fun _ => none) w)) args vs) : Calls Tryz.prog f vs.toArray w fun e w' => Below w.heap.size w w'∧e=.returned (.bool true) := by
 rw [Option.map_eq_some_iff] at hr
 obtain ⟨⟨v,p⟩,h1,h2⟩ := hr
 dsimp only at h2
 subst h2
 exact run_toldC Y hc hm h1 hp hA
theorem sq_first {u x : Rat} (h : u=x*x) : 0≤u∧(u=0 ↔ x=0) := by
 rw [h]
 exact ⟨sq_nn x,fun e => (Rat.mul_eq_zero.1 e).elim id id,fun e => by rw [e,Rat.zero_mul]⟩
theorem sq_next {p : Prop} {s x v t : Rat} (h : 0≤s∧(s=0 ↔ p)) (hv : v=x*x) (ht : t=s+v) : 0≤t∧(t=0 ↔ (p∧x=0)) := by
 have n := sq_nn x
 refine ⟨by have := h.1; grind,?_⟩
 rw [ht,hv,sq_sum h.1,h.2]
end
end Go.Proofs.YtibifijaanjekaaGreatDoor
/- VY -/
namespace Go.Proofs.YtibifijaanjekaaGreatDoor
open Go.RowKit Cx
theorem den_num (t : Rat) : t*(t.den : Rat)=((t.num : Int) : Rat) := by
 conv => lhs; lhs; rw [← Rat.mkRat_self t]
 have h0 : (t.den : Rat) ≠ 0 := fun h => t.den_nz (by exact_mod_cast h)
 rw [Rat.mkRat_eq_div,Rat.div_mul_cancel h0]
theorem whole {q : Rat} (h : q.den=1) : q=((q.num : Int) : Rat) := by
 have := den_num q
 rw [h] at this
 rw [← this]
 show q=q*((1 : Nat) : Rat)
 exact (Rat.mul_one q).symm
end Go.Proofs.YtibifijaanjekaaGreatDoor
/- VSZ -/
namespace Go.Proofs.YtibifijaanjekaaGreatDoor
open Go.RowKit Cx
structure QW (z : Nat) (x : Rat) : Prop where
 qs : QS z x
 wh : x.den=1
theorem QW.of {z : Nat} {n : Int} (h : n.natAbs < 2 ^ z) (hz : 0 < z) : QW z ((n : Int) : Rat) :=
 ⟨⟨by simpa using h,by
  show ((n : Int) : Rat).den < 2 ^ z
  rw [Rat.den_intCast]
  exact Nat.one_lt_two_pow (by omega)⟩,Rat.den_intCast n⟩
theorem QW.mono {k l : Nat} {x : Rat} (h : QW k x) (hk : k≤l) : QW l x := ⟨h.qs.mono hk,h.wh⟩
theorem two_max {a b x y : Nat} (h1 : a < 2 ^ x) (h2 : b < 2 ^ y) : a+b < 2 ^ (Nat.max x y+1) := by
 have e1 : 2 ^ x≤2 ^ Nat.max x y := Nat.pow_le_pow_right (by decide) (Nat.le_max_left x y)
 have e2 : 2 ^ y≤2 ^ Nat.max x y := Nat.pow_le_pow_right (by decide) (Nat.le_max_right x y)
 rw [Nat.pow_succ]
 omega
theorem QW.add {x y : Nat} {a b : Rat} (h1 : QW x a) (h2 : QW y b) : QW (Nat.max x y+1) (a+b) := by
 rw [whole h1.wh,whole h2.wh,← Rat.intCast_add]
 refine QW.of ?_ (by omega)
 have := two_max h1.qs.num h2.qs.num
 omega
theorem QW.sub {x y : Nat} {a b : Rat} (h1 : QW x a) (h2 : QW y b) : QW (Nat.max x y+1) (a - b) := by
 rw [whole h1.wh,whole h2.wh,← Rat.intCast_sub]
 refine QW.of ?_ (by omega)
 have := two_max h1.qs.num h2.qs.num
 omega
theorem QW.mul {x y : Nat} {a b : Rat} (h1 : QW x a) (h2 : QW y b) : QW (x+y) (a*b) := by
 refine ⟨h1.qs.mul h2.qs,?_⟩
 rw [whole h1.wh,whole h2.wh,← Rat.intCast_mul]
 exact Rat.den_intCast _
theorem QW.neg {x : Nat} {a : Rat} (h1 : QW x a) : QW x (-a) := ⟨h1.qs.neg,h1.wh⟩
theorem ten_three : ∀ n : Nat,10 ^ n≤2 ^ ((10*n+2) / 3)
 | 0 => by decide
 | 1 => by decide
 | 2 => by decide
 | n+3 => by
  have h := ten_three n
  have e : (10*(n+3)+2) / 3=(10*n+2) / 3+10 := by omega
  rw [e,Nat.pow_add,Nat.pow_add]
  exact Nat.mul_le_mul h (by decide)
theorem QS.rd3 (l : List UInt8) : QS ((10*l.length+2) / 3+5) (Cx.rd l) := by
 have key : ∀ {m : List UInt8},digs m=true→dv m < 2 ^ ((10*m.length+2) / 3) := fun {m} h => Nat.lt_of_lt_of_le (dv_lt (digs_all h)) (ten_three _)
 unfold Cx.rd
 split
 ·rename_i h
  rw [Bool.and_eq_true] at h
  have h1 := key h.1
  have h2 := key h.2
  have h3 := up_len (tailOf l)
  have h4 := low_len (tailOf l)
  have h5 := tail_len l
  apply QS.mkr
  ·rw [sg_abs]; exact Nat.lt_of_lt_of_le h1 (Nat.pow_le_pow_right (by decide) (by omega))
  ·exact Nat.lt_of_lt_of_le h2 (Nat.pow_le_pow_right (by decide) (by omega))
 ·exact QS.zero.mono (by omega)
section
variable {N : List Nd} {Z : List Nat} {I : List Bool} {q : Nat→Rat}
end
end Go.Proofs.YtibifijaanjekaaGreatDoor
/- VSA -/
namespace Go.Proofs.YtibifijaanjekaaGreatDoor
open Go.RowKit Cx
def inB : Nat := 3495259
abbrev Atm := Nat × Nat
def remA (x : Atm) : List Atm→Option (List Atm)
 | [] => none
 | y :: l => bif Nat.beq x.1 y.1 && Nat.beq x.2 y.2 then some l else (remA x l).map (y :: ·)
def subA : List Atm→List Atm→Option (List Atm)
 | l,[] => some l
 | l,x :: r => (remA x l).bind fun l' => subA l' r
def leftA : List Atm→List Atm→List Atm
 | _,[] => []
 | U,x :: D => match remA x U with
  | some U' => leftA U' D
  | none => x :: leftA U D
def uniA (E : List (Nat × List Atm)) : List Nat→List Atm→List Atm
 | [],U => U
 | a :: l,U => uniA E l (match E[a]? with
  | some p => U ++ leftA U p.2
  | none => U)
def bitA (E : List (Nat × List Atm)) (x : Atm) : Nat := match x.1 with
 | 0 => inB
 | 1 => (match E[x.2]? with
  | some p => p.1
  | none => 1)
 | _ => Nat.log2 x.2+1
def bitL (E : List (Nat × List Atm)) : List Atm→Nat
 | [] => 1
 | x :: l => bitA E x+bitL E l
def noneA (l : Option (List Atm)) : Bool := match l with
 | some [] => true
 | _ => false
def saN (E : List (Nat × List Atm)) (k z : Nat) (D : List Atm) (nd : Nd) : Bool := (Nat.blt 0 z && D.all fun x => !Nat.beq x.1 1 || Nat.blt x.2 k) && match nd.1,nd.2 with
 | 0,[_,n,d] => (Nat.blt n (2 ^ z) && Nat.blt 0 d) && noneA (subA D (bif Nat.beq d 1 then [] else [(2,d)]))
 | 1,[j] => Nat.ble inB z && noneA (subA D [(0,j)])
 | 2,[a,b] => (match E[a]?,E[b]? with
  | some p,some r => (match subA D p.2,subA D r.2 with
   | some c,some e => Nat.ble (Nat.max (p.1+bitL E c) (r.1+bitL E e)+1) z
   | _,_ => false)
  | _,_ => false)
 | 3,[a,b] => (match E[a]?,E[b]? with
  | some p,some r => (match subA D p.2,subA D r.2 with
   | some c,some e => Nat.ble (Nat.max (p.1+bitL E c) (r.1+bitL E e)+1) z
   | _,_ => false)
  | _,_ => false)
 | 4,[a,b] => (match E[a]?,E[b]? with
  | some p,some r => (match subA D p.2 with
   | some c => noneA (subA c r.2) && Nat.ble (p.1+r.1) z
   | _ => false)
  | _,_ => false)
 | 5,[a] => (match E[a]? with
  | some p => noneA (subA D p.2) && Nat.ble p.1 z
  | _ => false)
 | 6,[a,b] => (match E[a]?,E[b]?,remA (1,b) D with
  | some p,some r,some D' => (match subA p.2 D' with
   | some c => (match subA r.2 c with
    | some e => Nat.ble (p.1+bitL E e) z
    | none => false)
   | none => false)
  | _,_,_ => false)
 | 7,_ => Nat.beq D.length 0
 | 8,i :: xs => Nat.beq D.length 0 && (xs.all (fun a => match E[a]? with
   | some p => (subA (uniA E xs []) p.2).isSome
   | none => false) && (match xs[i]? with
   | some a => (match E[a]? with
    | some p => (match subA (uniA E xs []) p.2 with
     | some e => Nat.ble (p.1+bitL E e) z
     | none => false)
    | none => false)
   | none => false))
 | _,_ => false
def saB (E : List (Nat × List Atm)) : Nat→List Nd→List (Nat × List Atm)→List Nat→Bool
 | _,[],[],[] => true
 | k,nd :: ns,p :: ps,z :: zs => (saN E k p.1 p.2 nd && (Nat.ble p.1 z && (Nat.ble (bitL E p.2) z && Nat.ble z 1000000000000))) && saB E (k+1) ns ps zs
 | _,_,_,_ => false
theorem saB_get {E : List (Nat × List Atm)} : ∀ {ns : List Nd} {ps : List (Nat × List Atm)} {zs : List Nat} {k i : Nat} {nd : Nd},saB E k ns ps zs=true→ns[i]? = some nd→∃ p z,ps[i]? = some p∧zs[i]? = some z∧saN E (k+i) p.1 p.2 nd=true∧p.1≤z∧bitL E p.2≤z∧z≤1000000000000
 | [],_,_,_,_,_,_,h => by simp at h
 | _ :: _,[],_,_,_,_,h,_ => by cases h
 | _ :: _,_ :: _,[],_,_,_,h,_ => by cases h
 | nd' :: ns,p :: ps,z :: zs,k,0,nd,h,e => by
  have : nd'=nd := by simpa using e
  subst this
  unfold saB at h
  simp only [Bool.and_eq_true,Nat.ble_eq] at h
  exact ⟨p,z,rfl,rfl,h.1.1,h.1.2.1,h.1.2.2.1,h.1.2.2.2⟩
 | nd' :: ns,p :: ps,z :: zs,k,i+1,nd,h,e => by
  unfold saB at h
  rw [Bool.and_eq_true] at h
  obtain ⟨p',z',g1,g2,g3,g4⟩ := saB_get (k := k+1) (i := i) h.2 (by simpa using e)
  exact ⟨p',z',by simpa using g1,by simpa using g2,by rw [show k+(i+1)=k+1+i by omega]; exact g3,g4⟩
theorem saB_len {E : List (Nat × List Atm)} : ∀ {ns : List Nd} {ps : List (Nat × List Atm)} {zs : List Nat} {k : Nat},saB E k ns ps zs=true→ns.length=ps.length∧ns.length=zs.length
 | [],[],[],_,_ => ⟨rfl,rfl⟩
 | [],[],_ :: _,_,h => by cases h
 | [],_ :: _,_,_,h => by cases h
 | _ :: _,[],_,_,h => by cases h
 | _ :: _,_ :: _,[],_,h => by cases h
 | _ :: _,_ :: _,_ :: _,k,h => by
  unfold saB at h
  rw [Bool.and_eq_true] at h
  have := saB_len h.2
  exact ⟨congrArg (· + 1) this.1,congrArg (· + 1) this.2⟩
def valA (dn : Nat→Nat) (M : Nat→Rat) (x : Atm) : Rat := match x.1 with
 | 0 => ((dn x.2 : Nat) : Rat)
 | 1 => if M x.2=0 then 1 else M x.2
 | _ => if x.2=0 then 1 else ((x.2 : Nat) : Rat)
def proA (dn : Nat→Nat) (M : Nat→Rat) : List Atm→Rat
 | [] => 1
 | x :: l => valA dn M x*proA dn M l
theorem remA_pro {dn : Nat→Nat} {M : Nat→Rat} {x : Atm} : ∀ {l c : List Atm},remA x l=some c→proA dn M l=valA dn M x*proA dn M c
 | [],_,h => by cases h
 | y :: l,c,h => by
  unfold remA at h
  cases e : (Nat.beq x.1 y.1 && Nat.beq x.2 y.2) with
  | true =>
   rw [e] at h
   cases h
   rw [Bool.and_eq_true,Nat.beq_eq,Nat.beq_eq] at e
   have : x=y := Prod.ext e.1 e.2
   rw [this]
   rfl
  | false =>
   rw [e] at h
   simp only [cond_false,Option.map_eq_some_iff] at h
   obtain ⟨c',h1,rfl⟩ := h
   show valA dn M y*proA dn M l=valA dn M x*(valA dn M y*proA dn M c')
   rw [remA_pro h1]
   grind
theorem subA_pro {dn : Nat→Nat} {M : Nat→Rat} : ∀ {r l c : List Atm},subA l r=some c→proA dn M l=proA dn M r*proA dn M c
 | [],l,c,h => by
  have : l=c := by simpa [subA] using h
  rw [this]
  exact (Rat.one_mul _).symm
 | x :: r,l,c,h => by
  unfold subA at h
  rw [Option.bind_eq_some_iff] at h
  obtain ⟨l',h1,h2⟩ := h
  rw [remA_pro h1,subA_pro h2]
  exact (Rat.mul_assoc _ _ _).symm
theorem noneA_some {l : Option (List Atm)} (h : noneA l=true) : l=some [] := by
 unfold noneA at h
 split at h
 ·rfl
 ·cases h
theorem QW.one {z : Nat} (h : 0 < z) : QW z 1 := ⟨⟨by
  show (1 : Int).natAbs < 2 ^ z
  exact Nat.one_lt_two_pow (by omega),by
  show 1 < 2 ^ z
  exact Nat.one_lt_two_pow (by omega)⟩,rfl⟩
theorem QW.zero {z : Nat} (h : 0 < z) : QW z 0 := ⟨⟨by
  show (0 : Int).natAbs < 2 ^ z
  exact Nat.two_pow_pos z,by
  show 1 < 2 ^ z
  exact Nat.one_lt_two_pow (by omega)⟩,rfl⟩
theorem QW.nat {z n : Nat} (h : n < 2 ^ z) (hz : 0 < z) : QW z ((n : Nat) : Rat) := by
 have : ((n : Nat) : Rat)=(((n : Nat) : Int) : Rat) := (Rat.intCast_natCast n).symm
 rw [this]
 exact QW.of (by simpa using h) hz
section
variable {E : List (Nat × List Atm)} {dn : Nat→Nat} {M : Nat→Rat} {k : Nat}
def BelA (E : List (Nat × List Atm)) (dn : Nat→Nat) (M : Nat→Rat) (q : Nat→Rat) (k : Nat) : Prop := ∀ a,a < k→∃ p,E[a]? = some p∧QW p.1 (M a)∧0 < p.1∧(∀ x ∈ p.2,x.1=1→x.2 < a)∧q a*proA dn M p.2=M a
theorem valA_ok {q : Nat→Rat} (hdn : ∀ j,0 < dn j∧dn j < 2 ^ inB) (hM : BelA E dn M q k) {x : Atm} (hx : x.1=1→x.2 < k) : QW (bitA E x) (valA dn M x)∧valA dn M x ≠ 0 := by
 obtain ⟨i,j⟩ := x
 match i with
 | 0 =>
  show QW inB ((dn j : Nat) : Rat)∧((dn j : Nat) : Rat) ≠ 0
  refine ⟨QW.nat (hdn j).2 (by unfold inB; omega),fun h => ?_⟩
  have := (hdn j).1
  have h2 : dn j=0 := by exact_mod_cast h
  omega
 | 1 =>
  obtain ⟨p,h1,h2,h3,_⟩ := hM j (hx rfl)
  show QW (match E[j]? with
   | some p => p.1
   | none => 1) (if M j=0 then 1 else M j)∧(if M j=0 then 1 else M j) ≠ 0
  rw [h1]
  by_cases h : M j=0
  ·rw [if_pos h]
   exact ⟨QW.one h3,by decide⟩
  ·rw [if_neg h]
   exact ⟨h2,h⟩
 | i+2 =>
  show QW (Nat.log2 j+1) (if j=0 then 1 else ((j : Nat) : Rat))∧(if j=0 then 1 else ((j : Nat) : Rat)) ≠ 0
  by_cases h : j=0
  ·rw [if_pos h]
   exact ⟨QW.one (by omega),by decide⟩
  ·rw [if_neg h]
   refine ⟨QW.nat Nat.lt_log2_self (by omega),fun h2 => h ?_⟩
   exact_mod_cast h2
theorem proA_ok {q : Nat→Rat} (hdn : ∀ j,0 < dn j∧dn j < 2 ^ inB) (hM : BelA E dn M q k) : ∀ {l : List Atm},(∀ x ∈ l,x.1=1→x.2 < k)→QW (bitL E l) (proA dn M l)∧proA dn M l ≠ 0
 | [],_ => ⟨QW.one (show 0 < 1 by decide),by show (1 : Rat) ≠ 0; decide⟩
 | x :: l,h => by
  have h1 := valA_ok hdn hM (h x List.mem_cons_self)
  have h2 := proA_ok hdn hM (l := l) fun y hy => h y (List.mem_cons_of_mem _ hy)
  exact ⟨h1.1.mul h2.1,mul_ne h1.2 h2.2⟩
theorem proA_congr {M' : Nat→Rat} : ∀ {l : List Atm},(∀ x ∈ l,x.1=1→M x.2=M' x.2)→proA dn M l=proA dn M' l
 | [],_ => rfl
 | x :: l,h => by
  show valA dn M x*proA dn M l=valA dn M' x*proA dn M' l
  rw [proA_congr (l := l) fun y hy => h y (List.mem_cons_of_mem _ hy)]
  have e : valA dn M x=valA dn M' x := by
   obtain ⟨i,j⟩ := x
   match i with
   | 0 => rfl
   | 1 =>
    have := h (1,j) List.mem_cons_self rfl
    show (if M j=0 then 1 else M j)=(if M' j=0 then 1 else M' j)
    rw [this]
   | i+2 => rfl
  rw [e]
theorem remA_mem {x y : Atm} : ∀ {l c : List Atm},remA x l=some c→y ∈ c→y ∈ l
 | [],_,h,_ => by cases h
 | z :: l,c,h,hy => by
  unfold remA at h
  cases e : (Nat.beq x.1 z.1 && Nat.beq x.2 z.2) with
  | true => rw [e] at h; cases h; exact List.mem_cons_of_mem _ hy
  | false =>
   rw [e] at h
   simp only [cond_false,Option.map_eq_some_iff] at h
   obtain ⟨c',h1,rfl⟩ := h
   rcases List.mem_cons.1 hy with rfl | hy
   ·exact List.mem_cons_self
   ·exact List.mem_cons_of_mem _ (remA_mem h1 hy)
theorem subA_mem {y : Atm} : ∀ {r l c : List Atm},subA l r=some c→y ∈ c→y ∈ l
 | [],l,c,h,hy => by
  have : l=c := by simpa [subA] using h
  rw [this]; exact hy
 | x :: r,l,c,h,hy => by
  unfold subA at h
  rw [Option.bind_eq_some_iff] at h
  obtain ⟨l',h1,h2⟩ := h
  exact remA_mem h1 (subA_mem h2 hy)
theorem nat_ne {n : Nat} (h : n ≠ 0) : ((n : Nat) : Rat) ≠ 0 := fun e => h (by exact_mod_cast e)
theorem mul_low (x : Rat) : x*((x.den : Nat) : Rat)=((x.num : Int) : Rat) := by
 have e : x=((x.num : Int) : Rat) / ((x.den : Nat) : Rat) := by
  have := Rat.mkRat_self x
  rw [Rat.mkRat_eq_div] at this
  exact this.symm
 conv => lhs; lhs; rw [e]
 exact Rat.div_mul_cancel (nat_ne x.den_nz)
theorem lD_dvd_of {qs : List Rat} {m M : Nat} (hm : m ∣ M) (h : ∀ q ∈ qs,q.den ∣ M) : qs.foldl (fun m q => m*(q.den / Nat.gcd m q.den)) m ∣ M := by
 induction qs generalizing m with
 | nil => exact hm
 | cons q qs ih =>
  rw [List.foldl_cons]
  refine ih ?_ fun p hp => h p (List.mem_cons_of_mem _ hp)
  have e : m*(q.den / Nat.gcd m q.den)=Nat.lcm m q.den := by
   unfold Nat.lcm
   exact (Nat.mul_div_assoc _ (Nat.gcd_dvd_right _ _)).symm
  rw [e]
  exact Nat.lcm_dvd hm (h q List.mem_cons_self)
theorem den_dvd {x : Rat} {m : Int} (h : (x*((m : Int) : Rat)).den=1) : x.den ∣ m.natAbs := by
 have e := whole h
 generalize (x*((m : Int) : Rat)).num=n at e
 have h1 : x*((x.den : Nat) : Rat)=((x.num : Int) : Rat) := mul_low x
 have h2 : ((x.num : Int) : Rat)*((m : Int) : Rat)=((n : Int) : Rat)*(((x.den : Nat) : Int) : Rat) := by
  rw [← h1,← e,Rat.intCast_natCast]
  grind
 have h3 : x.num*m=n*(x.den : Int) := by exact_mod_cast h2
 have h4 : (x.den : Int) ∣ x.num*m := ⟨n,by rw [h3,Int.mul_comm]⟩
 have h5 : x.den ∣ x.num.natAbs*m.natAbs := by
  have := Int.natAbs_dvd_natAbs.2 h4
  rwa [Int.natAbs_mul,Int.natAbs_natCast] at this
 exact (Nat.Coprime.symm x.reduced).dvd_of_dvd_mul_left h5
theorem fac_whole {qs : List Rat} {x : Rat} {z : Nat} {m : Int} (hx : x ∈ qs) (hm : m ≠ 0) (hall : ∀ y ∈ qs,(y*((m : Int) : Rat)).den=1) (hz : QW z (x*((m : Int) : Rat))) : QW z (x*fac qs) := by
 have hl : lD qs ∣ m.natAbs := lD_dvd_of (Nat.one_dvd _) fun y hy => den_dvd (hall y hy)
 have hd := fac_den hx
 have hpos : 0 < m.natAbs := Int.natAbs_pos.2 hm
 have hle : lD qs≤m.natAbs := Nat.le_of_dvd hpos hl
 have hn : (x*fac qs).num.natAbs≤(x*((m : Int) : Rat)).num.natAbs := by
  rw [fac_abs hx]
  have e := whole hz.wh
  generalize (x*((m : Int) : Rat)).num=n at e
  have h1 : x*((x.den : Nat) : Rat)=((x.num : Int) : Rat) := mul_low x
  have h2 : ((x.num : Int) : Rat)*((m : Int) : Rat)=((n : Int) : Rat)*(((x.den : Nat) : Int) : Rat) := by
   rw [← h1,← e,Rat.intCast_natCast]
   grind
  have h3 : x.num*m=n*(x.den : Int) := by exact_mod_cast h2
  have h4 : x.num.natAbs*m.natAbs=n.natAbs*x.den := by
   have := congrArg Int.natAbs h3
   rwa [Int.natAbs_mul,Int.natAbs_mul,Int.natAbs_natCast] at this
  obtain ⟨c,hc⟩ := den_dvd (x := x) (m := m) (hall x hx)
  have h5 : n.natAbs=x.num.natAbs*c := by
   rw [hc] at h4
   refine Nat.eq_of_mul_eq_mul_right x.den_pos ?_
   rw [← h4]
   rw [Nat.mul_assoc,Nat.mul_comm c]
  show x.num.natAbs / gN qs*(lD qs / x.den)≤n.natAbs
  rw [h5]
  refine Nat.mul_le_mul (Nat.div_le_self _ _) ?_
  have : lD qs / x.den≤m.natAbs / x.den := Nat.div_le_div_right hle
  rw [hc,Nat.mul_div_cancel_left _ x.den_pos] at this
  exact this
 refine ⟨⟨Nat.lt_of_le_of_lt hn hz.qs.num,?_⟩,hd⟩
 rw [hd]
 have := hz.qs.den
 rw [hz.wh] at this
 exact this
theorem leftA_mem {y : Atm} : ∀ {D U : List Atm},y ∈ leftA U D→y ∈ D
 | [],_,h => by cases h
 | x :: D,U,h => by
  unfold leftA at h
  split at h
  ·exact List.mem_cons_of_mem _ (leftA_mem h)
  ·rcases List.mem_cons.1 h with rfl | h
   ·exact List.mem_cons_self
   ·exact List.mem_cons_of_mem _ (leftA_mem h)
theorem uniA_low {q : Nat→Rat} (hM : BelA E dn M q k) : ∀ {l : List Nat} {U : List Atm},(∀ c ∈ l,c < k)→(∀ x ∈ U,x.1=1→x.2 < k)→∀ x ∈ uniA E l U,x.1=1→x.2 < k
 | [],_,_,hU => hU
 | a :: l,U,hl,hU => by
  unfold uniA
  refine uniA_low hM (fun c hc => hl c (List.mem_cons_of_mem _ hc)) ?_
  have ha := hl a List.mem_cons_self
  obtain ⟨p,h1,_,_,h4,_⟩ := hM a ha
  rw [h1]
  intro x hx h
  rcases List.mem_append.1 hx with hx | hx
  ·exact hU x hx h
  ·exact Nat.lt_trans (h4 x (leftA_mem hx) h) ha
theorem node_ok {q : Nat→Rat} {σ : Nat→ByteArray} (hσ : ∀ j,(σ j).size≤1048576) (hdn : ∀ j,dn j=(Cx.rd (σ j).data.toList).den) (hM : BelA E dn M q k) {z : Nat} {D : List Atm} {nd : Nd} (hwf : wfN k nd=true) (hs : saN E k z D nd=true) : QW z (valN σ q nd*proA dn M D)∧0 < z∧∀ x ∈ D,x.1=1→x.2 < k := by
 have hdn' : ∀ j,0 < dn j∧dn j < 2 ^ inB := fun j => by
  rw [hdn j]
  refine ⟨Rat.den_pos _,Nat.lt_of_lt_of_le (QS.rd3 _).den (Nat.pow_le_pow_right (by decide) ?_)⟩
  have := hσ j
  rw [str_len]
  unfold inB
  omega
 obtain ⟨op,xs⟩ := nd
 unfold saN at hs
 rw [Bool.and_eq_true,Bool.and_eq_true] at hs
 obtain ⟨⟨hz0,hD⟩,hs⟩ := hs
 have hz : 0 < z := by simpa [Nat.blt_eq] using hz0
 have hD' : ∀ x ∈ D,x.1=1→x.2 < k := fun x hx h1 => by
  rw [List.all_eq_true] at hD
  have := hD x hx
  rw [h1] at this
  simpa [Nat.blt_eq] using this
 refine ⟨?_,hz,hD'⟩
 have hlow : ∀ {a : Nat} {p : Nat × List Atm},a < k→E[a]? = some p→QW p.1 (M a)∧(∀ x ∈ p.2,x.1=1→x.2 < k)∧q a*proA dn M p.2=M a := fun {a p} ha hp => by
  obtain ⟨p',h1,h2,_,h4,h5⟩ := hM a ha
  rw [hp] at h1
  cases h1
  exact ⟨h2,fun x hx h => Nat.lt_trans (h4 x hx h) ha,h5⟩
 have hpr : ∀ {l : List Atm},(∀ x ∈ l,x.1=1→x.2 < k)→QW (bitL E l) (proA dn M l)∧proA dn M l ≠ 0 := fun h => proA_ok hdn' hM h
 unfold wfN at hwf
 unfold valN
 dsimp only at hs hwf ⊢
 split at hs
 ·rename_i s n d
  simp only [Bool.and_eq_true] at hs
  obtain ⟨⟨h1,h2⟩,h3⟩ := hs
  have h1' : n < 2 ^ z := by simpa [Nat.blt_eq] using h1
  have h2' : d ≠ 0 := by
   have : 0 < d := by simpa [Nat.blt_eq] using h2
   omega
  have hp : proA dn M D=((d : Nat) : Rat) := by
   have := subA_pro (dn := dn) (M := M) (noneA_some h3)
   rw [this]
   cases e : Nat.beq d 1 with
   | true =>
    rw [Nat.beq_eq] at e
    rw [e]
    show (1 : Rat)*1=((1 : Nat) : Rat)
    rw [Rat.mul_one]
    exact_mod_cast rfl
   | false =>
    show (if d=0 then (1 : Rat) else ((d : Nat) : Rat))*1*1=_
    rw [if_neg h2',Rat.mul_one,Rat.mul_one]
  show QW z ((if s=0 then mkRat (n : Int) d else mkRat (-(n : Int)) d)*proA dn M D)
  rw [hp]
  have key : ∀ m : Int,m.natAbs < 2 ^ z→QW z (mkRat m d*((d : Nat) : Rat)) := fun m hm => by
   rw [Rat.mkRat_eq_div,Rat.div_mul_cancel (nat_ne h2')]
   exact QW.of hm hz
  by_cases hs0 : s=0
  ·rw [if_pos hs0]
   exact key _ (by simpa using h1')
  ·rw [if_neg hs0]
   exact key _ (by simpa using h1')
 ·rename_i j
  simp only [Bool.and_eq_true,Nat.ble_eq] at hs
  have hp : proA dn M D=(((Cx.rd (σ j).data.toList).den : Nat) : Rat) := by
   rw [subA_pro (dn := dn) (M := M) (noneA_some hs.2)]
   show ((dn j : Nat) : Rat)*1*1=_
   rw [Rat.mul_one,Rat.mul_one,hdn j]
  show QW z (Cx.rd (σ j).data.toList*proA dn M D)
  rw [hp,mul_low]
  refine QW.of (Nat.lt_of_lt_of_le (QS.rd3 _).num (Nat.pow_le_pow_right (by decide) ?_)) hz
  have := hσ j
  have := hs.1
  unfold inB at this
  rw [str_len]
  omega
 ·simp only [List.all_cons,List.all_nil,Bool.and_true,Bool.and_eq_true] at hwf
  rename_i a b
  have l1 : a < k := by simpa [Nat.blt_eq] using hwf.1
  have l2 : b < k := by simpa [Nat.blt_eq] using hwf.2
  split at hs
  ·rename_i p r hp hr
   split at hs
   ·rename_i c e hc he
    rw [Nat.ble_eq] at hs
    obtain ⟨a1,a2,a3⟩ := hlow l1 hp
    obtain ⟨b1,b2,b3⟩ := hlow l2 hr
    have hc' := hpr (l := c) fun x hx => hD' x (subA_mem hc hx)
    have he' := hpr (l := e) fun x hx => hD' x (subA_mem he hx)
    have e1 : (q a+q b)*proA dn M D=M a*proA dn M c+M b*proA dn M e := by
     rw [Rat.add_mul]
     congr 1
     ·rw [subA_pro hc,← Rat.mul_assoc,a3]
     ·rw [subA_pro he,← Rat.mul_assoc,b3]
    show QW z ((q a+q b)*proA dn M D)
    rw [e1]
    exact ((a1.mul hc'.1).add (b1.mul he'.1)).mono hs
   ·cases hs
  ·cases hs
 ·simp only [List.all_cons,List.all_nil,Bool.and_true,Bool.and_eq_true] at hwf
  rename_i a b
  have l1 : a < k := by simpa [Nat.blt_eq] using hwf.1
  have l2 : b < k := by simpa [Nat.blt_eq] using hwf.2
  split at hs
  ·rename_i p r hp hr
   split at hs
   ·rename_i c e hc he
    rw [Nat.ble_eq] at hs
    obtain ⟨a1,a2,a3⟩ := hlow l1 hp
    obtain ⟨b1,b2,b3⟩ := hlow l2 hr
    have hc' := hpr (l := c) fun x hx => hD' x (subA_mem hc hx)
    have he' := hpr (l := e) fun x hx => hD' x (subA_mem he hx)
    have e1 : (q a - q b)*proA dn M D=M a*proA dn M c - M b*proA dn M e := by
     rw [show (q a - q b)*proA dn M D=q a*proA dn M D - q b*proA dn M D by grind]
     congr 1
     ·rw [subA_pro hc,← Rat.mul_assoc,a3]
     ·rw [subA_pro he,← Rat.mul_assoc,b3]
    show QW z ((q a - q b)*proA dn M D)
    rw [e1]
    exact ((a1.mul hc'.1).sub (b1.mul he'.1)).mono hs
   ·cases hs
  ·cases hs
 ·simp only [List.all_cons,List.all_nil,Bool.and_true,Bool.and_eq_true] at hwf
  rename_i a b
  have l1 : a < k := by simpa [Nat.blt_eq] using hwf.1
  have l2 : b < k := by simpa [Nat.blt_eq] using hwf.2
  split at hs
  ·rename_i p r hp hr
   split at hs
   ·rename_i c hc
    rw [Bool.and_eq_true,Nat.ble_eq] at hs
    obtain ⟨a1,a2,a3⟩ := hlow l1 hp
    obtain ⟨b1,b2,b3⟩ := hlow l2 hr
    have e1 : q a*q b*proA dn M D=M a*M b := by
     rw [subA_pro hc,subA_pro (noneA_some hs.1),← a3,← b3]
     show q a*q b*(proA dn M p.2*(proA dn M r.2*1))=_
     grind
    show QW z (q a*q b*proA dn M D)
    rw [e1]
    exact (a1.mul b1).mono hs.2
   ·cases hs
  ·cases hs
 ·simp only [List.all_cons,List.all_nil,Bool.and_true] at hwf
  rename_i a
  have l1 : a < k := by simpa [Nat.blt_eq] using hwf
  split at hs
  ·rename_i p hp
   rw [Bool.and_eq_true,Nat.ble_eq] at hs
   obtain ⟨a1,a2,a3⟩ := hlow l1 hp
   have e1 : -q a*proA dn M D=-M a := by
    rw [subA_pro (noneA_some hs.1),← a3]
    show -q a*(proA dn M p.2*1)=_
    grind
   show QW z (-q a*proA dn M D)
   rw [e1]
   exact a1.neg.mono hs.2
  ·cases hs
 ·simp only [List.all_cons,List.all_nil,Bool.and_true,Bool.and_eq_true] at hwf
  rename_i a b
  have l1 : a < k := by simpa [Nat.blt_eq] using hwf.1
  have l2 : b < k := by simpa [Nat.blt_eq] using hwf.2
  split at hs
  ·rename_i p r D' hp hr hD1
   split at hs
   ·rename_i c hc
    split at hs
    ·rename_i e he
     rw [Nat.ble_eq] at hs
     obtain ⟨a1,a2,a3⟩ := hlow l1 hp
     obtain ⟨b1,b2,b3⟩ := hlow l2 hr
     have he' := hpr (l := e) fun x hx => b2 x (subA_mem he hx)
     by_cases h0 : M b=0
     ·have hb : q b=0 := by
       rw [h0] at b3
       exact (Rat.mul_eq_zero.1 b3).resolve_right (hpr b2).2
      show QW z (q a / q b*proA dn M D)
      rw [hb,Rat.div_def,Rat.inv_zero,Rat.mul_zero,Rat.zero_mul]
      exact QW.zero hz
     ·have hb : q b ≠ 0 := fun h => h0 (by rw [← b3,h,Rat.zero_mul])
      have e1 : q a / q b*proA dn M D=M a*proA dn M e := by
       have e2 : proA dn M D=M b*proA dn M D' := by
        rw [remA_pro hD1]
        show (if M b=0 then (1 : Rat) else M b)*_=_
        rw [if_neg h0]
       have e3 : q a / q b*q b=q a := Rat.div_mul_cancel hb
       rw [e2,← a3,← b3,subA_pro hc,subA_pro he]
       generalize q a / q b=t at e3
       rw [← e3]
       grind
      show QW z (q a / q b*proA dn M D)
      rw [e1]
      exact (a1.mul he'.1).mono hs
    ·cases hs
   ·cases hs
  ·cases hs
 ·have hD0 : D=[] := by
   rw [Nat.beq_eq] at hs
   exact List.length_eq_zero_iff.1 hs
  rw [hD0]
  have hv : valN σ q (7,xs)=0 ∨ valN σ q (7,xs)=1 := by
   unfold valN
   dsimp only
   split
   all_goals first | (split; exact Or.inl rfl; exact Or.inr rfl) | exact Or.inl rfl | (rename_i h; cases h)
  show QW z (valN σ q (7,xs)*1)
  rw [Rat.mul_one]
  rcases hv with h | h
  ·rw [h]
   exact QW.zero hz
  ·rw [h]
   exact QW.one hz
 ·rename_i i ys
  rw [Bool.and_eq_true,Bool.and_eq_true,List.all_eq_true] at hs
  obtain ⟨h1,h2,h3⟩ := hs
  have hD0 : D=[] := by
   rw [Nat.beq_eq] at h1
   exact List.length_eq_zero_iff.1 h1
  have hwf' : ys.all (Nat.blt · k)=true := hwf
  rw [List.all_eq_true] at hwf'
  have hlt : ∀ c ∈ ys,c < k := fun c hc => by simpa [Nat.blt_eq] using hwf' c hc
  split at h3
  ·rename_i a ha
   split at h3
   ·rename_i p hp
    split at h3
    ·rename_i e he
     rw [Nat.ble_eq] at h3
     obtain ⟨hi,ha'⟩ := List.getElem?_eq_some_iff.1 ha
     have hmem : a ∈ ys := List.mem_of_getElem? ha
     have hg : (ys.map q).getD i 0=q a := by
      rw [List.getD_eq_getElem?_getD,List.getElem?_map,ha]
      rfl
     show QW z ((ys.map q).getD i 0*fac (ys.map q)*proA dn M D)
     rw [hg,hD0]
     show QW z (q a*fac (ys.map q)*1)
     rw [Rat.mul_one]
     -- what makes all of them whole
     have hU : ∀ x ∈ uniA E ys [],x.1=1→x.2 < k := uniA_low hM hlt (fun x hx => by cases hx)
     have hUp := hpr hU
     have hw := whole hUp.1.wh
     generalize hm : (proA dn M (uniA E ys [])).num=m at hw
     have hm0 : m ≠ 0 := fun h => hUp.2 (by rw [hw,h]; rfl)
     have hall : ∀ y ∈ ys.map q,(y*((m : Int) : Rat)).den=1 := fun y hy => by
      obtain ⟨c,hc,rfl⟩ := List.mem_map.1 hy
      have h4 := h2 c hc
      split at h4
      ·rename_i r hr
       obtain ⟨c1,c2,c3⟩ := hlow (hlt c hc) hr
       cases hs2 : subA (uniA E ys []) r.2 with
       | none => rw [hs2] at h4; cases h4
       | some f =>
        have hf := hpr (l := f) fun x hx => hU x (subA_mem hs2 hx)
        rw [← hw,subA_pro hs2,← Rat.mul_assoc,c3]
        exact (c1.mul hf.1).wh
      ·cases h4
     obtain ⟨a1,a2,a3⟩ := hlow (hlt a hmem) hp
     have he' := hpr (l := e) fun x hx => hU x (subA_mem he hx)
     refine fac_whole (List.mem_map_of_mem hmem) hm0 hall ?_
     rw [← hw,subA_pro he,← Rat.mul_assoc,a3]
     exact (a1.mul he'.1).mono h3
    ·cases h3
   ·cases h3
  ·cases h3
 ·cases hs
end
theorem QS_over {x m p : Rat} {z y K : Nat} (hm : QW z m) (hp : QW y p) (h0 : p ≠ 0) (e : x*p=m) (hz : z≤K) (hy : y≤K) : QS K x := by
 have hw := whole hp.wh
 generalize p.num=P at hw
 have hP : P ≠ 0 := fun h => h0 (by rw [hw,h]; rfl)
 have hpos : 0 < P.natAbs := Int.natAbs_pos.2 hP
 have hd : x.den ∣ P.natAbs := den_dvd (x := x) (m := P) (by rw [← hw,e]; exact hm.wh)
 have hdle : x.den≤P.natAbs := Nat.le_of_dvd hpos hd
 have hPlt : P.natAbs < 2 ^ y := by
  have := hp.qs.num
  rw [hw,Rat.num_intCast] at this
  exact this
 have hmw := whole hm.wh
 have hmlt := hm.qs.num
 generalize m.num=n at hmw hmlt
 have h1 : x*((x.den : Nat) : Rat)=((x.num : Int) : Rat) := mul_low x
 have h2 : ((x.num : Int) : Rat)*((P : Int) : Rat)=((n : Int) : Rat)*(((x.den : Nat) : Int) : Rat) := by
  rw [← h1,← hw,← hmw,← e,Rat.intCast_natCast]
  grind
 have h3 : x.num*P=n*(x.den : Int) := by exact_mod_cast h2
 have h4 : x.num.natAbs*P.natAbs=n.natAbs*x.den := by
  have := congrArg Int.natAbs h3
  rwa [Int.natAbs_mul,Int.natAbs_mul,Int.natAbs_natCast] at this
 have h5 : x.num.natAbs≤n.natAbs := by
  refine Nat.le_of_mul_le_mul_right (c := P.natAbs) ?_ hpos
  rw [h4]
  exact Nat.mul_le_mul_left _ hdle
 exact ⟨Nat.lt_of_lt_of_le (Nat.lt_of_le_of_lt h5 hmlt) (Nat.pow_le_pow_right (by decide) hz),Nat.lt_of_lt_of_le (Nat.lt_of_le_of_lt hdle hPlt) (Nat.pow_le_pow_right (by decide) hy)⟩
section
variable {N : List Nd} {Z : List Nat} {E : List (Nat × List Atm)} {q : Nat→Rat}
theorem sizes_okA {σ : Nat→ByteArray} (hσ : ∀ j,(σ j).size≤1048576) (hw : wfB 0 N=true) (hz : saB E 0 N E Z=true) (hq : ∀ (a : Nat) nd,N[a]? = some nd→q a=valN σ q nd) (h0 : ∀ a,N.length≤a→q a=0) : (∀ (a : Nat) z,Z[a]? = some z→QS z (q a))∧∀ a,QS 1000000000000 (q a) := by
 have hl := saB_len hz
 have key : ∀ k,k≤N.length→∃ M,BelA E (fun j => (Cx.rd (σ j).data.toList).den) M q k := by
  intro k
  induction k with
  | zero => exact fun _ => ⟨fun _ => 0,fun a ha => by omega⟩
  | succ k ih =>
   intro hk
   obtain ⟨M,hM⟩ := ih (by omega)
   have hn : N[k]? = some N[k] := List.getElem?_eq_getElem (by omega)
   obtain ⟨p,z,h1,_,h3,_⟩ := saB_get hz hn
   rw [Nat.zero_add] at h3
   have hwf := wfB_get hw hn
   rw [Nat.zero_add] at hwf
   obtain ⟨g1,g2,g3⟩ := node_ok hσ (fun _ => rfl) hM hwf h3
   rw [← hq k _ hn] at g1
   refine ⟨fun x => if x=k then q k*proA (fun j => (Cx.rd (σ j).data.toList).den) M p.2 else M x,fun a ha => ?_⟩
   have same : ∀ {l : List Atm},(∀ x ∈ l,x.1=1→x.2 < k)→proA (fun j => (Cx.rd (σ j).data.toList).den) (fun x => if x=k then q k*proA (fun j => (Cx.rd (σ j).data.toList).den) M p.2 else M x) l=proA (fun j => (Cx.rd (σ j).data.toList).den) M l := fun hl => (proA_congr fun x hx h => by
    have := hl x hx h
    rw [if_neg (by omega)]).symm
   by_cases e : a=k
   ·subst e
    refine ⟨p,h1,?_,g2,g3,?_⟩
    ·show QW p.1 (if a=a then _ else _)
     rw [if_pos rfl]
     exact g1
    ·rw [same g3]
     show _=(if a=a then _ else _)
     rw [if_pos rfl]
   ·obtain ⟨p',f1,f2,f3,f4,f5⟩ := hM a (by omega)
    refine ⟨p',f1,?_,f3,f4,?_⟩
    ·show QW p'.1 (if a=k then _ else M a)
     rw [if_neg e]
     exact f2
    ·rw [same fun x hx h => by have := f4 x hx h; omega]
     show _=(if a=k then _ else M a)
     rw [if_neg e]
     exact f5
 obtain ⟨M,hM⟩ := key N.length (Nat.le_refl _)
 have hdn : ∀ j,0 < (Cx.rd (σ j).data.toList).den∧(Cx.rd (σ j).data.toList).den < 2 ^ inB := fun j => by
  refine ⟨Rat.den_pos _,Nat.lt_of_lt_of_le (QS.rd3 _).den (Nat.pow_le_pow_right (by decide) ?_)⟩
  have := hσ j
  rw [str_len]
  unfold inB
  omega
 have h2 : ∀ (a : Nat) z,Z[a]? = some z→QS z (q a)∧z≤1000000000000 := by
  intro a z ha
  have hlt : a < N.length := by
   have := (List.getElem?_eq_some_iff.1 ha).1
   omega
  have hn : N[a]? = some N[a] := List.getElem?_eq_getElem hlt
  obtain ⟨p,z',h1,h2,_,h4,h5,h6⟩ := saB_get hz hn
  rw [ha] at h2
  cases h2
  obtain ⟨p',f1,f2,f3,f4,f5⟩ := hM a hlt
  rw [h1] at f1
  cases f1
  have hp := proA_ok hdn hM (l := p.2) fun x hx h => Nat.lt_trans (f4 x hx h) hlt
  exact ⟨QS_over f2 hp.1 hp.2 f5 h4 h5,h6⟩
 refine ⟨fun a z h => (h2 a z h).1,fun a => ?_⟩
 by_cases ha : a < Z.length
 ·have := h2 a _ (List.getElem?_eq_getElem ha)
  exact this.1.mono this.2
 ·rw [h0 a (by omega)]
  exact QS.zero.mono (by decide)
theorem hy_ofA {L C : List (List Nat × Nat)} {σ : Nat→ByteArray} {H : List (Nat × Nat × Nat × Nat)} (hσ : ∀ j,(σ j).size≤1048576) (hw : wfB 0 N=true) (hz : saB E 0 N E Z=true) (hl : litB N L=true) (hcn : canB N C=true) (hq : ∀ (a : Nat) nd,N[a]? = some nd→q a=valN σ q nd) (h0 : ∀ a,N.length≤a→q a=0) (hH : hAll q H) : Hy N H L C Z q σ where
 nat := hq
 qs := (sizes_okA hσ hw hz hq h0).2
 zs := (sizes_okA hσ hw hz hq h0).1
 par := hσ
 lit := fun s b h => lit_rd hl hq h
 k0 := fun a r h => kn_at hH h
 k1 := fun a r h => kn_at hH h
 k2 := fun a r h => kn_at hH h
 k3 := fun a b r h => kn_at hH h
 k4 := fun l a b r h1 h2 => by
  have h3 : Nat.beq 1 r=true ↔ q a=q b := kn_at hH h2
  rw [h3,← can_tx hcn hq h1]
  exact ⟨fun e => by rw [e],fun e => tellS_inj (bytesN_inj e)⟩
 k6 := fun a b r h => kn_at hH h
 k5 := fun a r h => kn_at hH h
end
end Go.Proofs.YtibifijaanjekaaGreatDoor
/- CFcornered -/
namespace Go.Proofs.YtibifijaanjekaaGreatDoor
open Go.RowKit Cx
theorem closed_cornered : Closed 7 :=
 closed_told (N := [(0,[0,0,1]),(0,[0,4,1]),(0,[0,3,1]),(3,[1,0]),(3,[0,0]),(3,[2,0]),(4,[3,5]),(4,[4,4]),(3,[6,7]),(3,[0,1]),(4,[9,9]),(4,[5,5]),(2,[10,11]),(3,[0,2]),(4,[13,13]),(2,[7,14]),(4,[3,3]),(2,[16,7]),(5,[12]),(2,[15,17]),(2,[19,18]),(4,[12,20]),(5,[15]),(2,[17,12]),(2,[23,22]),(4,[15,24]),(5,[17]),(2,[12,15]),(2,[27,26]),(4,[17,28]),(2,[21,25]),(2,[30,29]),(4,[0,21]),(2,[0,32]),(4,[1,25]),(4,[0,25]),(2,[33,34]),(2,[33,35]),(4,[0,29]),(4,[2,29]),(2,[36,38]),(2,[37,39]),(6,[40,31]),(6,[41,31]),(2,[12,17]),(2,[44,22]),(4,[28,45]),(2,[15,12]),(2,[47,26]),(4,[20,48]),(2,[17,15]),(2,[50,18]),(4,[24,51]),(2,[46,49]),(2,[53,52]),(4,[0,46]),(2,[0,55]),(4,[1,49]),(4,[0,49]),(2,[56,57]),(2,[56,58]),(4,[0,52]),(4,[2,52]),(2,[59,61]),(2,[60,62]),(6,[63,54]),(6,[64,54]),(0,[0,2,1]),(0,[0,3,2]),(0,[0,25,1]),(0,[0,9,1]),(0,[0,16,1])]) (H := [(0,8,0,0),(0,31,0,0),(0,54,0,0),(4,42,67,1),(4,43,68,1),(4,65,0,1),(4,66,0,1),(4,12,69,1),(4,15,70,1),(4,17,71,1)]) (K := [(44,[]),(127,[]),(129,[]),(136,[]),(78,[])]) (L := [([48],0),([52],1),([51],2),([50],67),([51,47,50],68),([50,53],69),([57],70),([49,54],71)]) (C := [([50],67),([51,47,50],68),([48],0),([50,53],69),([57],70),([49,54],71)]) (Z := [2,4,3,7,5,6,13,10,24,7,14,12,27,6,12,23,14,25,27,49,77,104,23,53,77,100,25,51,77,102,205,308,106,109,104,102,214,212,104,105,319,318,627,626,53,77,154,51,77,154,49,77,154,309,464,156,159,158,156,318,316,156,157,475,474,939,938,3,3,6,5,6]) (cl := []) 8 (fun _ h => by cases h) (by kernel_rfl) (by kernel_rfl) (by kernel_rfl) (by kernel_rfl) (by kernel_rfl) (by kernel_rfl) (by kernel_rfl)
end Go.Proofs.YtibifijaanjekaaGreatDoor
/- MGT -/
namespace Go.Proofs.YtibifijaanjekaaGreatDoor
open Go.RowKit Cx
def gT_N : List Nd := [(1,[6]),(1,[0]),(1,[1]),(1,[2]),(1,[3]),(1,[4]),(1,[5]),(3,[3,1]),(3,[4,2]),(3,[5,1]),(3,[6,2]),(4,[7,10]),(4,[8,9]),(3,[11,12]),(0,[0,1,1]),(3,[0,14]),(3,[5,3]),(3,[6,4]),(4,[16,16]),(4,[17,17]),(2,[18,19]),(3,[1,5]),(3,[2,6]),(4,[21,21]),(4,[22,22]),(2,[23,24]),(4,[7,7]),(4,[8,8]),(2,[26,27]),(2,[14,14]),(2,[29,14]),(4,[1,14]),(4,[2,14]),(0,[0,0,1]),(2,[33,31]),(2,[33,32]),(4,[3,14]),(4,[4,14]),(2,[34,36]),(2,[35,37]),(4,[5,14]),(4,[6,14]),(2,[38,40]),(2,[39,41]),(6,[42,30]),(6,[43,30]),(0,[0,5,1]),(3,[0,46]),(4,[3,3]),(4,[4,4]),(2,[48,49]),(4,[1,1]),(4,[2,2]),(2,[51,52]),(3,[50,53]),(0,[0,2,1]),(6,[54,55]),(4,[5,5]),(4,[6,6]),(2,[57,58]),(3,[59,53]),(6,[60,55]),(4,[56,10]),(4,[61,8]),(3,[62,63]),(6,[64,13]),(4,[7,61]),(4,[9,56]),(3,[66,67]),(6,[68,13]),(2,[1,3]),(2,[2,4]),(2,[70,5]),(2,[71,6]),(0,[0,3,1]),(4,[44,74]),(4,[45,74]),(3,[75,72]),(3,[76,73]),(4,[77,77]),(4,[78,78]),(2,[79,80]),(3,[0,55]),(5,[20]),(2,[25,28]),(2,[84,83]),(4,[20,85]),(5,[25]),(2,[28,20]),(2,[88,87]),(4,[25,89]),(5,[28]),(2,[20,25]),(2,[92,91]),(4,[28,93]),(2,[86,90]),(2,[95,94]),(4,[1,86]),(4,[2,86]),(2,[33,97]),(2,[33,98]),(4,[3,90]),(4,[4,90]),(2,[99,101]),(2,[100,102]),(4,[5,94]),(4,[6,94]),(2,[103,105]),(2,[104,106]),(6,[107,96]),(6,[108,96]),(3,[109,1]),(3,[110,2]),(4,[111,111]),(4,[112,112]),(2,[113,114]),(3,[109,3]),(3,[110,4]),(4,[116,116]),(4,[117,117]),(2,[118,119]),(3,[109,5]),(3,[110,6]),(4,[121,121]),(4,[122,122]),(2,[123,124]),(3,[0,74]),(2,[20,28]),(2,[127,87]),(4,[93,128]),(2,[25,20]),(2,[130,91]),(4,[85,131]),(2,[28,25]),(2,[133,83]),(4,[89,134]),(2,[129,132]),(2,[136,135]),(4,[1,129]),(4,[2,129]),(2,[33,138]),(2,[33,139]),(4,[3,132]),(4,[4,132]),(2,[140,142]),(2,[141,143]),(4,[5,135]),(4,[6,135]),(2,[144,146]),(2,[145,147]),(6,[148,137]),(6,[149,137]),(3,[150,1]),(3,[151,2]),(4,[152,16]),(4,[153,17]),(2,[154,155]),(3,[150,3]),(3,[151,4]),(4,[157,21]),(4,[158,22]),(2,[159,160]),(0,[0,4,1]),(3,[0,162]),(2,[86,129]),(2,[90,132]),(2,[94,135]),(2,[164,165]),(2,[167,166]),(4,[1,164]),(4,[2,164]),(2,[33,169]),(2,[33,170]),(4,[3,165]),(4,[4,165]),(2,[171,173]),(2,[172,174]),(4,[5,166]),(4,[6,166]),(2,[175,177]),(2,[176,178]),(6,[179,168]),(6,[180,168]),(4,[181,55]),(4,[182,55]),(3,[72,65]),(3,[73,69]),(3,[183,185]),(3,[184,186]),(4,[187,187]),(4,[188,188]),(2,[189,190]),(2,[92,28]),(4,[1,20]),(4,[2,20]),(2,[33,193]),(2,[33,194]),(4,[3,25]),(4,[4,25]),(2,[195,197]),(2,[196,198]),(4,[5,28]),(4,[6,28]),(2,[199,201]),(2,[200,202]),(6,[203,192]),(6,[204,192]),(3,[3,5]),(3,[4,6]),(4,[207,207]),(4,[208,208]),(2,[209,210]),(4,[9,9]),(4,[10,10]),(2,[212,213]),(3,[1,3]),(3,[2,4]),(4,[215,215]),(4,[216,216]),(2,[217,218]),(4,[1,211]),(4,[2,211]),(4,[3,214]),(4,[4,214]),(2,[220,222]),(2,[221,223]),(4,[5,219]),(4,[6,219]),(2,[224,226]),(2,[225,227]),(2,[211,214]),(2,[230,219]),(4,[205,231]),(4,[206,231]),(3,[232,228]),(3,[233,229]),(4,[234,234]),(4,[235,235]),(2,[236,237])]
def gT_L : List (List Nat × Nat) := []
def gT_C : List (List Nat × Nat) := []
def gT_Z : List Nat := [3495260,3495260,3495260,3495260,3495260,3495260,3495260,6990520,6990520,6990520,6990520,13981040,13981040,20971560,1,3495262,6990520,6990520,13981040,13981040,27962078,6990520,6990520,13981040,13981040,27962078,13981040,13981040,27962078,3,5,3495260,3495260,1,3495262,3495262,3495260,3495260,6990523,6990523,3495260,3495260,10485784,10485784,10485785,10485785,3,3495264,6990519,6990519,13981038,6990519,6990519,13981038,27962076,2,27962077,6990519,6990519,13981038,27962076,27962077,34952597,34952597,45438376,45438377,34952597,34952597,45438376,45438377,6990520,6990520,10485781,10485781,2,10485787,10485787,10485789,10485789,20971578,20971578,41943134,3495263,27962078,41943116,41943118,69905196,27962078,41943116,41943118,69905196,27962078,41943116,41943118,69905196,83886234,83886236,73400455,73400455,73400457,73400457,73400455,73400455,83886236,83886236,73400455,73400455,83886238,83886238,83886239,83886239,87381500,87381500,174763000,174763000,181753520,87381500,87381500,174763000,174763000,181753520,87381500,87381500,174763000,174763000,181753520,3495263,41943116,41943118,83886236,41943116,41943118,83886236,41943116,41943118,83886236,83886238,83886240,87381495,87381495,87381497,87381497,87381495,87381495,90876758,90876758,87381495,87381495,94372019,94372019,94372020,94372020,94372022,94372022,101362542,101362542,118838839,94372022,94372022,101362542,101362542,118838839,3,3495264,83886238,83886238,83886238,83886240,83886242,87381497,87381497,87381499,87381499,87381497,87381497,90876760,90876760,87381497,87381497,94372021,94372021,94372022,94372022,94372024,94372024,45438381,45438381,129324625,129324625,258649250,258649250,265639770,41943118,31457337,31457337,31457339,31457339,31457337,31457337,41943118,41943118,31457337,31457337,41943120,41943120,41943121,41943121,6990520,6990520,13981040,13981040,27962078,13981040,13981040,27962078,6990520,6990520,13981040,13981040,27962078,31457337,31457337,31457337,31457337,41943116,41943116,31457337,31457337,41943118,41943118,41943116,41943118,83886239,83886239,83886241,83886241,167772482,167772482,167772484]
def gT_D0 : List Atm := [(0,0),(0,2)]
def gT_D1 : List Atm := [(0,1),(0,3)]
def gT_D2 : List Atm := [(0,0),(0,4)]
def gT_D3 : List Atm := [(0,1),(0,5)]
def gT_D4 : List Atm := [(0,2),(0,4)]
def gT_D5 : List Atm := [(0,3),(0,5)]
def gT_D6 : List Atm := [(0,2),(0,2),(0,4),(0,4)]
def gT_D7 : List Atm := [(0,3),(0,3),(0,5),(0,5)]
def gT_D8 : List Atm := [(0,2),(0,2),(0,3),(0,3),(0,4),(0,4),(0,5),(0,5)]
def gT_D9 : List Atm := [(0,0),(0,0),(0,4),(0,4)]
def gT_D10 : List Atm := [(0,1),(0,1),(0,5),(0,5)]
def gT_D11 : List Atm := [(0,0),(0,0),(0,1),(0,1),(0,4),(0,4),(0,5),(0,5)]
def gT_D12 : List Atm := [(0,0),(0,0),(0,2),(0,2)]
def gT_D13 : List Atm := [(0,1),(0,1),(0,3),(0,3)]
def gT_D14 : List Atm := [(0,0),(0,0),(0,1),(0,1),(0,2),(0,2),(0,3),(0,3)]
def gT_D15 : List Atm := [(0,0),(0,2),(0,4)]
def gT_D16 : List Atm := [(0,1),(0,3),(0,5)]
def gT_D17 : List Atm := [(0,0),(0,2),(0,4),(1,30)]
def gT_D18 : List Atm := [(0,1),(0,3),(0,5),(1,30)]
def gT_D19 : List Atm := [(0,0),(0,1),(0,1),(0,2),(0,3),(0,4),(0,5),(1,13),(1,55)]
def gT_D20 : List Atm := [(0,0),(0,0),(0,1),(0,2),(0,3),(0,4),(0,5),(1,13),(1,55)]
def gT_D21 : List Atm := [(0,0),(0,0),(0,1),(0,1),(0,2),(0,2),(0,3),(0,3),(0,4),(0,4),(0,5),(0,5)]
def gT_D22 : List Atm := [(0,0),(0,0),(0,0),(0,0),(0,1),(0,1),(0,1),(0,1),(0,2),(0,2),(0,2),(0,2),(0,3),(0,3),(0,3),(0,3),(0,4),(0,4),(0,4),(0,4),(0,5),(0,5),(0,5),(0,5)]
def gT_D23 : List Atm := [(0,0),(0,0),(0,0),(0,1),(0,1),(0,2),(0,2),(0,2),(0,2),(0,3),(0,3),(0,3),(0,3),(0,4),(0,4),(0,4),(0,4),(0,5),(0,5),(0,5),(0,5)]
def gT_D24 : List Atm := [(0,0),(0,0),(0,1),(0,1),(0,1),(0,2),(0,2),(0,2),(0,2),(0,3),(0,3),(0,3),(0,3),(0,4),(0,4),(0,4),(0,4),(0,5),(0,5),(0,5),(0,5)]
def gT_D25 : List Atm := [(0,0),(0,0),(0,0),(0,0),(0,0),(0,1),(0,1),(0,1),(0,1),(0,2),(0,2),(0,2),(0,2),(0,3),(0,3),(0,3),(0,3),(0,4),(0,4),(0,4),(0,4),(0,5),(0,5),(0,5),(0,5)]
def gT_D26 : List Atm := [(0,0),(0,0),(0,0),(0,0),(0,1),(0,1),(0,1),(0,1),(0,1),(0,2),(0,2),(0,2),(0,2),(0,3),(0,3),(0,3),(0,3),(0,4),(0,4),(0,4),(0,4),(0,5),(0,5),(0,5),(0,5)]
def gT_D27 : List Atm := [(0,0),(0,0),(0,0),(0,0),(0,1),(0,1),(0,1),(0,1),(0,2),(0,2),(0,2),(0,2),(0,2),(0,3),(0,3),(0,3),(0,3),(0,4),(0,4),(0,4),(0,4),(0,5),(0,5),(0,5),(0,5)]
def gT_D28 : List Atm := [(0,0),(0,0),(0,0),(0,0),(0,1),(0,1),(0,1),(0,1),(0,2),(0,2),(0,2),(0,2),(0,3),(0,3),(0,3),(0,3),(0,3),(0,4),(0,4),(0,4),(0,4),(0,5),(0,5),(0,5),(0,5)]
def gT_D29 : List Atm := [(0,0),(0,0),(0,0),(0,0),(0,0),(0,1),(0,1),(0,1),(0,1),(0,2),(0,2),(0,2),(0,2),(0,2),(0,3),(0,3),(0,3),(0,3),(0,4),(0,4),(0,4),(0,4),(0,5),(0,5),(0,5),(0,5)]
def gT_D30 : List Atm := [(0,0),(0,0),(0,0),(0,0),(0,1),(0,1),(0,1),(0,1),(0,1),(0,2),(0,2),(0,2),(0,2),(0,3),(0,3),(0,3),(0,3),(0,3),(0,4),(0,4),(0,4),(0,4),(0,5),(0,5),(0,5),(0,5)]
def gT_D31 : List Atm := [(0,0),(0,0),(0,0),(0,0),(0,1),(0,1),(0,1),(0,1),(0,2),(0,2),(0,2),(0,2),(0,3),(0,3),(0,3),(0,3),(0,4),(0,4),(0,4),(0,4),(0,4),(0,5),(0,5),(0,5),(0,5)]
def gT_D32 : List Atm := [(0,0),(0,0),(0,0),(0,0),(0,1),(0,1),(0,1),(0,1),(0,2),(0,2),(0,2),(0,2),(0,3),(0,3),(0,3),(0,3),(0,4),(0,4),(0,4),(0,4),(0,5),(0,5),(0,5),(0,5),(0,5)]
def gT_D33 : List Atm := [(0,0),(0,0),(0,0),(0,0),(0,0),(0,1),(0,1),(0,1),(0,1),(0,2),(0,2),(0,2),(0,2),(0,2),(0,3),(0,3),(0,3),(0,3),(0,4),(0,4),(0,4),(0,4),(0,4),(0,5),(0,5),(0,5),(0,5)]
def gT_D34 : List Atm := [(0,0),(0,0),(0,0),(0,0),(0,1),(0,1),(0,1),(0,1),(0,1),(0,2),(0,2),(0,2),(0,2),(0,3),(0,3),(0,3),(0,3),(0,3),(0,4),(0,4),(0,4),(0,4),(0,5),(0,5),(0,5),(0,5),(0,5)]
def gT_D35 : List Atm := [(0,0),(0,2),(0,4),(1,137)]
def gT_D36 : List Atm := [(0,1),(0,3),(0,5),(1,137)]
def gT_D37 : List Atm := [(0,0),(0,2),(0,4),(1,168)]
def gT_D38 : List Atm := [(0,1),(0,3),(0,5),(1,168)]
def gT_D39 : List Atm := [(0,0),(0,2),(0,2),(0,3),(0,3),(0,4),(0,4),(0,5),(0,5)]
def gT_D40 : List Atm := [(0,1),(0,2),(0,2),(0,3),(0,3),(0,4),(0,4),(0,5),(0,5)]
def gT_D41 : List Atm := [(0,0),(0,0),(0,1),(0,1),(0,2),(0,4),(0,4),(0,5),(0,5)]
def gT_D42 : List Atm := [(0,0),(0,0),(0,1),(0,1),(0,3),(0,4),(0,4),(0,5),(0,5)]
def gT_D43 : List Atm := [(0,0),(0,0),(0,1),(0,1),(0,2),(0,2),(0,3),(0,3),(0,4)]
def gT_D44 : List Atm := [(0,0),(0,0),(0,1),(0,1),(0,2),(0,2),(0,3),(0,3),(0,5)]
def gT_D45 : List Atm := [(0,0),(0,0),(0,1),(0,1),(0,2),(0,2),(0,3),(0,3),(0,4),(0,4),(0,5),(0,5),(1,192)]
def gT_D46 : List Atm := [(0,0),(0,0),(0,0),(0,0),(0,1),(0,1),(0,1),(0,1),(0,2),(0,2),(0,2),(0,2),(0,3),(0,3),(0,3),(0,3),(0,4),(0,4),(0,4),(0,4),(0,5),(0,5),(0,5),(0,5),(1,192),(1,192)]
def gT_E : List (Nat × List Atm) := [(3495259,[(0,6)]),(3495259,[(0,0)]),(3495259,[(0,1)]),(3495259,[(0,2)]),(3495259,[(0,3)]),(3495259,[(0,4)]),(3495259,[(0,5)]),(6990520,gT_D0),(6990520,gT_D1),(6990520,gT_D2),(6990520,gT_D3),(13981040,[(0,0),(0,1),(0,2),(0,5)]),(13981040,[(0,0),(0,1),(0,3),(0,4)]),(20971560,[(0,0),(0,1),(0,2),(0,3),(0,4),(0,5)]),(1,[]),(3495262,[(0,6)]),(6990520,gT_D4),(6990520,gT_D5),(13981040,gT_D6),(13981040,gT_D7),(27962078,gT_D8),(6990520,gT_D2),(6990520,gT_D3),(13981040,gT_D9),(13981040,gT_D10),(27962078,gT_D11),(13981040,gT_D12),(13981040,gT_D13),(27962078,gT_D14),(3,[]),(5,[]),(3495260,[(0,0)]),(3495260,[(0,1)]),(1,[]),(3495262,[(0,0)]),(3495262,[(0,1)]),(3495260,[(0,2)]),(3495260,[(0,3)]),(6990523,gT_D0),(6990523,gT_D1),(3495260,[(0,4)]),(3495260,[(0,5)]),(10485784,gT_D15),(10485784,gT_D16),(10485785,gT_D17),(10485785,gT_D18),(3,[]),(3495264,[(0,6)]),(6990518,[(0,2),(0,2)]),(6990518,[(0,3),(0,3)]),(13981038,[(0,2),(0,2),(0,3),(0,3)]),(6990518,[(0,0),(0,0)]),(6990518,[(0,1),(0,1)]),(13981038,[(0,0),(0,0),(0,1),(0,1)]),(27962076,gT_D14),(2,[]),(27962077,[(0,0),(0,0),(0,1),(0,1),(0,2),(0,2),(0,3),(0,3),(1,55)]),(6990518,[(0,4),(0,4)]),(6990518,[(0,5),(0,5)]),(13981038,[(0,4),(0,4),(0,5),(0,5)]),(27962076,gT_D11),(27962077,[(0,0),(0,0),(0,1),(0,1),(0,4),(0,4),(0,5),(0,5),(1,55)]),(34952597,[(0,0),(0,0),(0,1),(0,1),(0,1),(0,2),(0,2),(0,3),(0,3),(0,5),(1,55)]),(34952597,[(0,0),(0,0),(0,1),(0,1),(0,1),(0,3),(0,4),(0,4),(0,5),(0,5),(1,55)]),(45438376,[(0,0),(0,0),(0,1),(0,1),(0,1),(0,2),(0,2),(0,3),(0,3),(0,4),(0,4),(0,5),(0,5),(1,55)]),(45438377,gT_D19),(34952597,[(0,0),(0,0),(0,0),(0,1),(0,1),(0,2),(0,4),(0,4),(0,5),(0,5),(1,55)]),(34952597,[(0,0),(0,0),(0,0),(0,1),(0,1),(0,2),(0,2),(0,3),(0,3),(0,4),(1,55)]),(45438376,[(0,0),(0,0),(0,0),(0,1),(0,1),(0,2),(0,2),(0,3),(0,3),(0,4),(0,4),(0,5),(0,5),(1,55)]),(45438377,gT_D20),(6990520,gT_D0),(6990520,gT_D1),(10485781,gT_D15),(10485781,gT_D16),(2,[]),(10485787,gT_D17),(10485787,gT_D18),(10485789,gT_D17),(10485789,gT_D18),(20971578,[(0,0),(0,0),(0,2),(0,2),(0,4),(0,4),(1,30),(1,30)]),(20971578,[(0,1),(0,1),(0,3),(0,3),(0,5),(0,5),(1,30),(1,30)]),(41943134,[(0,0),(0,0),(0,1),(0,1),(0,2),(0,2),(0,3),(0,3),(0,4),(0,4),(0,5),(0,5),(1,30),(1,30)]),(3495263,[(0,6)]),(27962078,gT_D8),(41943116,gT_D21),(41943118,gT_D21),(69905196,[(0,0),(0,0),(0,1),(0,1),(0,2),(0,2),(0,2),(0,2),(0,3),(0,3),(0,3),(0,3),(0,4),(0,4),(0,4),(0,4),(0,5),(0,5),(0,5),(0,5)]),(27962078,gT_D11),(41943116,gT_D21),(41943118,gT_D21),(69905196,[(0,0),(0,0),(0,0),(0,0),(0,1),(0,1),(0,1),(0,1),(0,2),(0,2),(0,3),(0,3),(0,4),(0,4),(0,4),(0,4),(0,5),(0,5),(0,5),(0,5)]),(27962078,gT_D14),(41943116,gT_D21),(41943118,gT_D21),(69905196,[(0,0),(0,0),(0,0),(0,0),(0,1),(0,1),(0,1),(0,1),(0,2),(0,2),(0,2),(0,2),(0,3),(0,3),(0,3),(0,3),(0,4),(0,4),(0,5),(0,5)]),(83886234,gT_D22),(83886236,gT_D22),(73400455,gT_D23),(73400455,gT_D24),(73400457,gT_D23),(73400457,gT_D24),(73400455,[(0,0),(0,0),(0,0),(0,0),(0,1),(0,1),(0,1),(0,1),(0,2),(0,2),(0,2),(0,3),(0,3),(0,4),(0,4),(0,4),(0,4),(0,5),(0,5),(0,5),(0,5)]),(73400455,[(0,0),(0,0),(0,0),(0,0),(0,1),(0,1),(0,1),(0,1),(0,2),(0,2),(0,3),(0,3),(0,3),(0,4),(0,4),(0,4),(0,4),(0,5),(0,5),(0,5),(0,5)]),(83886236,gT_D22),(83886236,gT_D22),(73400455,[(0,0),(0,0),(0,0),(0,0),(0,1),(0,1),(0,1),(0,1),(0,2),(0,2),(0,2),(0,2),(0,3),(0,3),(0,3),(0,3),(0,4),(0,4),(0,4),(0,5),(0,5)]),(73400455,[(0,0),(0,0),(0,0),(0,0),(0,1),(0,1),(0,1),(0,1),(0,2),(0,2),(0,2),(0,2),(0,3),(0,3),(0,3),(0,3),(0,4),(0,4),(0,5),(0,5),(0,5)]),(83886238,gT_D22),(83886238,gT_D22),(83886239,[(1,96)]),(83886239,[(1,96)]),(87381500,[(0,0),(1,96)]),(87381500,[(0,1),(1,96)]),(174763000,[(0,0),(0,0),(1,96),(1,96)]),(174763000,[(0,1),(0,1),(1,96),(1,96)]),(181753520,[(0,0),(0,0),(0,1),(0,1),(1,96),(1,96)]),(87381500,[(0,2),(1,96)]),(87381500,[(0,3),(1,96)]),(174763000,[(0,2),(0,2),(1,96),(1,96)]),(174763000,[(0,3),(0,3),(1,96),(1,96)]),(181753520,[(0,2),(0,2),(0,3),(0,3),(1,96),(1,96)]),(87381500,[(0,4),(1,96)]),(87381500,[(0,5),(1,96)]),(174763000,[(0,4),(0,4),(1,96),(1,96)]),(174763000,[(0,5),(0,5),(1,96),(1,96)]),(181753520,[(0,4),(0,4),(0,5),(0,5),(1,96),(1,96)]),(3495263,[(0,6)]),(41943116,gT_D21),(41943118,gT_D21),(83886236,gT_D22),(41943116,gT_D21),(41943118,gT_D21),(83886236,gT_D22),(41943116,gT_D21),(41943118,gT_D21),(83886236,gT_D22),(83886238,gT_D22),(83886240,gT_D22),(87381495,gT_D25),(87381495,gT_D26),(87381497,gT_D25),(87381497,gT_D26),(87381495,gT_D27),(87381495,gT_D28),(90876758,gT_D29),(90876758,gT_D30),(87381495,gT_D31),(87381495,gT_D32),(94372019,gT_D33),(94372019,gT_D34),(94372020,gT_D35),(94372020,gT_D36),(94372022,gT_D35),(94372022,gT_D36),(101362542,[(0,0),(0,2),(0,2),(0,4),(0,4),(1,137)]),(101362542,[(0,1),(0,3),(0,3),(0,5),(0,5),(1,137)]),(118838839,[(0,0),(0,1),(0,2),(0,2),(0,3),(0,3),(0,4),(0,4),(0,5),(0,5),(1,137)]),(94372022,gT_D35),(94372022,gT_D36),(101362542,[(0,0),(0,0),(0,2),(0,4),(0,4),(1,137)]),(101362542,[(0,1),(0,1),(0,3),(0,5),(0,5),(1,137)]),(118838839,[(0,0),(0,0),(0,1),(0,1),(0,2),(0,3),(0,4),(0,4),(0,5),(0,5),(1,137)]),(3,[]),(3495264,[(0,6)]),(83886238,gT_D22),(83886238,gT_D22),(83886238,gT_D22),(83886240,gT_D22),(83886242,gT_D22),(87381497,gT_D25),(87381497,gT_D26),(87381499,gT_D25),(87381499,gT_D26),(87381497,gT_D27),(87381497,gT_D28),(90876760,gT_D29),(90876760,gT_D30),(87381497,gT_D31),(87381497,gT_D32),(94372021,gT_D33),(94372021,gT_D34),(94372022,gT_D37),(94372022,gT_D38),(94372024,gT_D37),(94372024,gT_D38),(45438381,gT_D19),(45438381,gT_D20),(129324625,[(0,0),(0,1),(0,1),(0,2),(0,3),(0,4),(0,5),(1,13),(1,55),(1,168)]),(129324625,[(0,0),(0,0),(0,1),(0,2),(0,3),(0,4),(0,5),(1,13),(1,55),(1,168)]),(258649250,[(0,0),(0,0),(0,1),(0,1),(0,1),(0,1),(0,2),(0,2),(0,3),(0,3),(0,4),(0,4),(0,5),(0,5),(1,13),(1,13),(1,55),(1,55),(1,168),(1,168)]),(258649250,[(0,0),(0,0),(0,0),(0,0),(0,1),(0,1),(0,2),(0,2),(0,3),(0,3),(0,4),(0,4),(0,5),(0,5),(1,13),(1,13),(1,55),(1,55),(1,168),(1,168)]),(265639770,[(0,0),(0,0),(0,0),(0,0),(0,1),(0,1),(0,1),(0,1),(0,2),(0,2),(0,3),(0,3),(0,4),(0,4),(0,5),(0,5),(1,13),(1,13),(1,55),(1,55),(1,168),(1,168)]),(41943118,gT_D21),(31457337,gT_D39),(31457337,gT_D40),(31457339,gT_D39),(31457339,gT_D40),(31457337,gT_D41),(31457337,gT_D42),(41943118,gT_D21),(41943118,gT_D21),(31457337,gT_D43),(31457337,gT_D44),(41943120,gT_D21),(41943120,gT_D21),(41943121,[(1,192)]),(41943121,[(1,192)]),(6990520,gT_D4),(6990520,gT_D5),(13981040,gT_D6),(13981040,gT_D7),(27962078,gT_D8),(13981040,gT_D9),(13981040,gT_D10),(27962078,gT_D11),(6990520,gT_D0),(6990520,gT_D1),(13981040,gT_D12),(13981040,gT_D13),(27962078,gT_D14),(31457337,gT_D39),(31457337,gT_D40),(31457337,gT_D41),(31457337,gT_D42),(41943116,gT_D21),(41943116,gT_D21),(31457337,gT_D43),(31457337,gT_D44),(41943118,gT_D21),(41943118,gT_D21),(41943116,gT_D21),(41943118,gT_D21),(83886239,gT_D45),(83886239,gT_D45),(83886241,gT_D45),(83886241,gT_D45),(167772482,gT_D46),(167772482,gT_D46),(167772484,gT_D46)]
abbrev gT_Q (q : Nat→Rat) (σ : Nat→ByteArray) : Prop := ∀ (a : Nat) nd,gT_N[a]? = some nd→q a=valN σ q nd
variable {q : Nat→Rat} {σ : Nat→ByteArray}
theorem gT_wf : wfB 0 gT_N=true := by kernel_rfl
theorem gT_sz : saB gT_E 0 gT_N gT_E gT_Z=true := by kernel_rfl
theorem gT_lt : litB gT_N gT_L=true := by kernel_rfl
theorem gT_cn : canB gT_N gT_C=true := by kernel_rfl
theorem gT_c14 : cst 0 1 1=(1 : Rat) := by decide +kernel
theorem gT_c33 : cst 0 0 1=(0 : Rat) := by decide +kernel
theorem gT_c46 : cst 0 5 1=(5 : Rat) := by decide +kernel
theorem gT_c55 : cst 0 2 1=(2 : Rat) := by decide +kernel
theorem gT_c74 : cst 0 3 1=(3 : Rat) := by decide +kernel
theorem gT_c162 : cst 0 4 1=(4 : Rat) := by decide +kernel
def gT_A : List AV := [(false,[(true,[.inr (2,0,0,0,0),.inr (2,1,0,0,0),.inr (2,2,0,0,0),.inr (2,3,0,0,0),.inr (2,4,0,0,0),.inr (2,5,0,0,0)])]),(false,[(false,[.inr (0,6,0,0,0)])])]
theorem gt_ne {d1 d2 e1 e2 f1 f2 T : Rat} (hT : ¬ (T=0)) (eT : T=d1*e2 - d2*e1) : f1*f1+f2*f2+(e1*e1+e2*e2)+(d1*d1+d2*d2) ≠ 0 := fun h => by
 have a := sq_facts d1
 have b := sq_facts d2
 have c := sq_facts e1
 have d := sq_facts e2
 have e := sq_facts f1
 have f := sq_facts f2
 have x : d1=0 := a.2.1 (by grind)
 have y : d2=0 := b.2.1 (by grind)
 exact hT (by rw [eT,x,y]; grind)
theorem gt_int {n : Int} {a x1 x2 x3 x4 x5 : Rat} (h : a=((n : Int) : Rat)) (e1 : x1=a - 1) (e2 : x2=a - 2) (e3 : x3=a - 3) (e4 : x4=a - 4) (e5 : x5=a - 5) (h1 : ¬ (x1=0)) (h2 : ¬ (x2=0)) (h3 : ¬ (x3=0)) (h4 : ¬ (x4=0)) (h5 : ¬ (x5=0)) (h0 : ¬ (x1 < 0)) : 0 < x5 := by
 have c : ∀ k : Int,((n : Int) : Rat)=((k : Int) : Rat)→n=k := fun k h => Rat.intCast_inj.1 h
 have n1 : n ≠ 1 := fun k => h1 (by rw [e1,h,k]; decide +kernel)
 have n2 : n ≠ 2 := fun k => h2 (by rw [e2,h,k]; decide +kernel)
 have n3 : n ≠ 3 := fun k => h3 (by rw [e3,h,k]; decide +kernel)
 have n4 : n ≠ 4 := fun k => h4 (by rw [e4,h,k]; decide +kernel)
 have n5 : n ≠ 5 := fun k => h5 (by rw [e5,h,k]; decide +kernel)
 have n0 : ¬ n < 1 := fun k => h0 (by
  have q : ((n : Int) : Rat) < ((1 : Int) : Rat) := Rat.intCast_lt_intCast.2 k
  have r : ((1 : Int) : Rat)=1 := by decide +kernel
  rw [r] at q
  rw [e1,h]; grind)
 have q : ((5 : Int) : Rat) < ((n : Int) : Rat) := Rat.intCast_lt_intCast.2 (by omega)
 have r : ((5 : Int) : Rat)=5 := by decide +kernel
 rw [r] at q
 rw [e5,h]; grind
theorem gT_P192 (H : gT_Q q σ) : (¬ (q 13=0))→(¬ (q 192=0)) := by
 have e7:q 7=q 3-q 1:=H 7 _ rfl;have e8:q 8=q 4-q 2:=H 8 _ rfl;have e9:q 9=q 5-q 1:=H 9 _ rfl;have e10:q 10=q 6-q 2:=H 10 _ rfl;have e11:q 11=q 7*q 10:=H 11 _ rfl;have e12:q 12=q 8*q 9:=H 12 _ rfl;have e13:q 13=q 11-q 12:=H 13 _ rfl;have e16:q 16=q 5-q 3:=H 16 _ rfl;have e17:q 17=q 6-q 4:=H 17 _ rfl;have e18:q 18=q 16*q 16:=H 18 _ rfl;have e19:q 19=q 17*q 17:=H 19 _ rfl;have e20:q 20=q 18+q 19:=H 20 _ rfl;have e21:q 21=q 1-q 5:=H 21 _ rfl;have e22:q 22=q 2-q 6:=H 22 _ rfl;have e23:q 23=q 21*q 21:=H 23 _ rfl;have e24:q 24=q 22*q 22:=H 24 _ rfl;have e25:q 25=q 23+q 24:=H 25 _ rfl;have e26:q 26=q 7*q 7:=H 26 _ rfl;have e27:q 27=q 8*q 8:=H 27 _ rfl;have e28:q 28=q 26+q 27:=H 28 _ rfl;have e92:q 92=q 20+q 25:=H 92 _ rfl;have e192:q 192=q 92+q 28:=H 192 _ rfl
 clear H
 intro u0
 have h := gt_ne (f1 := q 5 - q 3) (f2 := q 6 - q 4) u0 (show (q 13)=q 7*q 10 - q 8*q 9 by rw [e13,e11,e12])
 refine fun k => h ?_
 rw [← k]; rw [e192,e92,e28,e27,e26,e25,e24,e23,e22,e21,e20,e19,e18,e17,e16,e8,e7]; rw [e9,e10]; clear h k u0; grind
theorem gT_P231 (H : gT_Q q σ) : (¬ (q 13=0))→(¬ (q 231=0)) := by
 have e7:q 7=q 3-q 1:=H 7 _ rfl;have e8:q 8=q 4-q 2:=H 8 _ rfl;have e9:q 9=q 5-q 1:=H 9 _ rfl;have e10:q 10=q 6-q 2:=H 10 _ rfl;have e11:q 11=q 7*q 10:=H 11 _ rfl;have e12:q 12=q 8*q 9:=H 12 _ rfl;have e13:q 13=q 11-q 12:=H 13 _ rfl;have e207:q 207=q 3-q 5:=H 207 _ rfl;have e208:q 208=q 4-q 6:=H 208 _ rfl;have e209:q 209=q 207*q 207:=H 209 _ rfl;have e210:q 210=q 208*q 208:=H 210 _ rfl;have e211:q 211=q 209+q 210:=H 211 _ rfl;have e212:q 212=q 9*q 9:=H 212 _ rfl;have e213:q 213=q 10*q 10:=H 213 _ rfl;have e214:q 214=q 212+q 213:=H 214 _ rfl;have e215:q 215=q 1-q 3:=H 215 _ rfl;have e216:q 216=q 2-q 4:=H 216 _ rfl;have e217:q 217=q 215*q 215:=H 217 _ rfl;have e218:q 218=q 216*q 216:=H 218 _ rfl;have e219:q 219=q 217+q 218:=H 219 _ rfl;have e230:q 230=q 211+q 214:=H 230 _ rfl;have e231:q 231=q 230+q 219:=H 231 _ rfl
 clear H
 intro u0
 have h := gt_ne (f1 := q 5 - q 3) (f2 := q 6 - q 4) u0 (show (q 13)=q 7*q 10 - q 8*q 9 by rw [e13,e11,e12])
 refine fun k => h ?_
 rw [← k]; rw [e231,e230,e219,e218,e217,e216,e215,e214,e213,e212,e211,e210,e209,e208,e207,e10,e9]; rw [e7,e8]; clear h k u0; grind
theorem gT_f1 {z14 z29 z30 : Rat} : z14=1→z29=z14+z14→z30=z29+z14→¬ (z30=0) := by
 intro e14 e29 e30
 subst_vars; grind
theorem gT_f2 {z0 z14 z15 : Rat} : z14=1→z15=z0-z14→(z15=0)→¬ (z15 < 0) := by
 intro e14 e15 u1
 rw [u1] at e15
 subst_vars; grind
theorem gT_f3 {z0 z14 z15 z46 z47 : Rat} : z14=1→z15=z0-z14→z46=5→z47=z0-z46→(z15=0)→¬ (0 < z47) := by
 intro e14 e15 e46 e47 u1
 rw [u1] at e15
 subst_vars; grind
theorem gT_f4 {z1 z3 z5 z14 z29 z30 z31 z33 z34 z36 z38 z40 z42 z44 z70 z72 z74 z75 z77 : Rat} : z14=1→z29=z14+z14→z30=z29+z14→z31=z1*z14→z33=0→z34=z33+z31→z36=z3*z14→z38=z34+z36→z40=z5*z14→z42=z38+z40→z44=z42/z30→z70=z1+z3→z72=z70+z5→z74=3→z75=z44*z74→z77=z75-z72→z77=0 := by
 intro e14 e29 e30 e31 e33 e34 e36 e38 e40 e42 e44 e70 e72 e74 e75 e77
 have w30 : z30 ≠ 0 := by first | assumption | grind
 have n30 : z30 ≠ 0 := w30
 have h44 : z44*z30=z42 := by rw [e44]; exact Rat.div_mul_cancel n30
 obtain ⟨m44,hm44⟩ : ∃ m,m=z42 := ⟨_,rfl⟩
 have d44 : z44*z30=m44 := by
  have q : z44*z30=z44*z30 := by grind
  rw [q,h44,hm44]
 clear h44 e44
 obtain ⟨m75,hm75⟩ : ∃ m,m=m44*z74 := ⟨_,rfl⟩
 have d75 : z75*z30=m75 := by
  have q : z75*z30=(z44*z30)*z74 := by rw [e75]; grind
  rw [q,d44,hm75]
 clear e75
 obtain ⟨m77,hm77⟩ : ∃ m,m=m75*1 - z72*z30 := ⟨_,rfl⟩
 have d77 : z77*z30=m77 := by
  have q : z77*z30=(z75*z30)*1 - z72*z30 := by rw [e77]; grind
  rw [q,d75,hm77]
 clear e77
 have hpoly : m77=0 := by
  clear d44 d75 d77
  subst_vars; grind
 have hgoal : z77=0 := (Rat.mul_eq_zero.1 (d77.trans hpoly)).resolve_right w30
 exact hgoal
theorem gT_f5 {z2 z4 z6 z14 z29 z30 z32 z33 z35 z37 z39 z41 z43 z45 z71 z73 z74 z76 z78 : Rat} : z14=1→z29=z14+z14→z30=z29+z14→z32=z2*z14→z33=0→z35=z33+z32→z37=z4*z14→z39=z35+z37→z41=z6*z14→z43=z39+z41→z45=z43/z30→z71=z2+z4→z73=z71+z6→z74=3→z76=z45*z74→z78=z76-z73→z78=0 := by
 intro e14 e29 e30 e32 e33 e35 e37 e39 e41 e43 e45 e71 e73 e74 e76 e78
 have w30 : z30 ≠ 0 := by first | assumption | grind
 have n30 : z30 ≠ 0 := w30
 have h45 : z45*z30=z43 := by rw [e45]; exact Rat.div_mul_cancel n30
 obtain ⟨m45,hm45⟩ : ∃ m,m=z43 := ⟨_,rfl⟩
 have d45 : z45*z30=m45 := by
  have q : z45*z30=z45*z30 := by grind
  rw [q,h45,hm45]
 clear h45 e45
 obtain ⟨m76,hm76⟩ : ∃ m,m=m45*z74 := ⟨_,rfl⟩
 have d76 : z76*z30=m76 := by
  have q : z76*z30=(z45*z30)*z74 := by rw [e76]; grind
  rw [q,d45,hm76]
 clear e76
 obtain ⟨m78,hm78⟩ : ∃ m,m=m76*1 - z73*z30 := ⟨_,rfl⟩
 have d78 : z78*z30=m78 := by
  have q : z78*z30=(z76*z30)*1 - z73*z30 := by rw [e78]; grind
  rw [q,d76,hm78]
 clear e78
 have hpoly : m78=0 := by
  clear d45 d76 d78
  subst_vars; grind
 have hgoal : z78=0 := (Rat.mul_eq_zero.1 (d78.trans hpoly)).resolve_right w30
 exact hgoal
theorem gT_f6 {z1 z2 z3 z4 z5 z6 z7 z8 z9 z10 z11 z12 z13 z16 z17 z18 z19 z20 z21 z22 z23 z24 z25 z26 z27 z28 z83 z84 z85 z86 z87 z88 z89 z90 z91 z92 z93 z94 z95 z96 : Rat} : z7=z3-z1→z8=z4-z2→z9=z5-z1→z10=z6-z2→z11=z7*z10→z12=z8*z9→z13=z11-z12→z16=z5-z3→z17=z6-z4→z18=z16*z16→z19=z17*z17→z20=z18+z19→z21=z1-z5→z22=z2-z6→z23=z21*z21→z24=z22*z22→z25=z23+z24→z26=z7*z7→z27=z8*z8→z28=z26+z27→z83=-z20→z84=z25+z28→z85=z84+z83→z86=z20*z85→z87=-z25→z88=z28+z20→z89=z88+z87→z90=z25*z89→z91=-z28→z92=z20+z25→z93=z92+z91→z94=z28*z93→z95=z86+z90→z96=z95+z94→(¬ (z13=0))→¬ (z96=0) := by
 intro e7 e8 e9 e10 e11 e12 e13 e16 e17 e18 e19 e20 e21 e22 e23 e24 e25 e26 e27 e28 e83 e84 e85 e86 e87 e88 e89 e90 e91 e92 e93 e94 e95 e96 u0
 subst_vars; grind
theorem gT_f7 {z0 z14 z15 z55 z82 : Rat} : z14=1→z15=z0-z14→z55=2→z82=z0-z55→(z82=0)→¬ (z15 < 0) := by
 intro e14 e15 e55 e82 u2
 rw [u2] at e82
 subst_vars; grind
theorem gT_f8 {z0 z46 z47 z55 z82 : Rat} : z46=5→z47=z0-z46→z55=2→z82=z0-z55→(z82=0)→¬ (0 < z47) := by
 intro e46 e47 e55 e82 u2
 rw [u2] at e82
 subst_vars; grind
theorem gT_f9 {z1 z2 z3 z4 z5 z6 z7 z8 z9 z10 z11 z12 z13 z16 z17 z18 z19 z20 z21 z22 z23 z24 z25 z26 z27 z28 z33 z83 z84 z85 z86 z87 z88 z89 z90 z91 z92 z93 z94 z95 z96 z97 z98 z99 z100 z101 z102 z103 z104 z105 z106 z107 z108 z109 z110 z111 z112 z113 z114 z115 z116 z117 z118 z119 z120 : Rat} : z7=z3-z1→z8=z4-z2→z9=z5-z1→z10=z6-z2→z11=z7*z10→z12=z8*z9→z13=z11-z12→z16=z5-z3→z17=z6-z4→z18=z16*z16→z19=z17*z17→z20=z18+z19→z21=z1-z5→z22=z2-z6→z23=z21*z21→z24=z22*z22→z25=z23+z24→z26=z7*z7→z27=z8*z8→z28=z26+z27→z33=0→z83=-z20→z84=z25+z28→z85=z84+z83→z86=z20*z85→z87=-z25→z88=z28+z20→z89=z88+z87→z90=z25*z89→z91=-z28→z92=z20+z25→z93=z92+z91→z94=z28*z93→z95=z86+z90→z96=z95+z94→z97=z1*z86→z98=z2*z86→z99=z33+z97→z100=z33+z98→z101=z3*z90→z102=z4*z90→z103=z99+z101→z104=z100+z102→z105=z5*z94→z106=z6*z94→z107=z103+z105→z108=z104+z106→z109=z107/z96→z110=z108/z96→z111=z109-z1→z112=z110-z2→z113=z111*z111→z114=z112*z112→z115=z113+z114→z116=z109-z3→z117=z110-z4→z118=z116*z116→z119=z117*z117→z120=z118+z119→(¬ (z13=0))→z115=z120 := by
 intro e7 e8 e9 e10 e11 e12 e13 e16 e17 e18 e19 e20 e21 e22 e23 e24 e25 e26 e27 e28 e33 e83 e84 e85 e86 e87 e88 e89 e90 e91 e92 e93 e94 e95 e96 e97 e98 e99 e100 e101 e102 e103 e104 e105 e106 e107 e108 e109 e110 e111 e112 e113 e114 e115 e116 e117 e118 e119 e120 u0
 have f96 : z96=(z13*(z13*4)) := by
  have c3 : z3=z7+z1 := by rw [e7]; grind
  clear e7
  subst c3
  have c5 : z5=z9+z1 := by rw [e9]; grind
  clear e9
  subst c5
  have c4 : z4=z8+z2 := by rw [e8]; grind
  clear e8
  subst c4
  have c6 : z6=z10+z2 := by rw [e10]; grind
  clear e10
  subst c6
  subst_vars; grind
 have w13 : z13 ≠ 0 := by first | assumption | grind
 have n96 : z96 ≠ 0 := by rw [f96]; exact (mul_ne w13 (mul_ne w13 (by decide)))
 have h109 : z109*z96=z107 := by rw [e109]; exact Rat.div_mul_cancel n96
 rw [f96] at h109
 obtain ⟨m109,hm109⟩ : ∃ m,m=z107 := ⟨_,rfl⟩
 have d109 : z109*(z13*(z13*4))=m109 := by
  have q : z109*(z13*(z13*4))=z109*(z13*(z13*4)) := by grind
  rw [q,h109,hm109]
 clear h109 e109
 have h110 : z110*z96=z108 := by rw [e110]; exact Rat.div_mul_cancel n96
 rw [f96] at h110
 obtain ⟨m110,hm110⟩ : ∃ m,m=z108 := ⟨_,rfl⟩
 have d110 : z110*(z13*(z13*4))=m110 := by
  have q : z110*(z13*(z13*4))=z110*(z13*(z13*4)) := by grind
  rw [q,h110,hm110]
 clear h110 e110
 obtain ⟨m111,hm111⟩ : ∃ m,m=m109*1 - z1*(z13*(z13*4)) := ⟨_,rfl⟩
 have d111 : z111*(z13*(z13*4))=m111 := by
  have q : z111*(z13*(z13*4))=(z109*(z13*(z13*4)))*1 - z1*(z13*(z13*4)) := by rw [e111]; grind
  rw [q,d109,hm111]
 clear e111
 obtain ⟨m112,hm112⟩ : ∃ m,m=m110*1 - z2*(z13*(z13*4)) := ⟨_,rfl⟩
 have d112 : z112*(z13*(z13*4))=m112 := by
  have q : z112*(z13*(z13*4))=(z110*(z13*(z13*4)))*1 - z2*(z13*(z13*4)) := by rw [e112]; grind
  rw [q,d110,hm112]
 clear e112
 obtain ⟨m113,hm113⟩ : ∃ m,m=m111*m111 := ⟨_,rfl⟩
 have d113 : z113*(z13*(z13*(z13*(z13*(4*4)))))=m113 := by
  have q : z113*(z13*(z13*(z13*(z13*(4*4)))))=(z111*(z13*(z13*4)))*(z111*(z13*(z13*4))) := by rw [e113]; grind
  rw [q,d111,hm113]
 clear e113
 obtain ⟨m114,hm114⟩ : ∃ m,m=m112*m112 := ⟨_,rfl⟩
 have d114 : z114*(z13*(z13*(z13*(z13*(4*4)))))=m114 := by
  have q : z114*(z13*(z13*(z13*(z13*(4*4)))))=(z112*(z13*(z13*4)))*(z112*(z13*(z13*4))) := by rw [e114]; grind
  rw [q,d112,hm114]
 clear e114
 obtain ⟨m115,hm115⟩ : ∃ m,m=m113*1+m114*1 := ⟨_,rfl⟩
 have d115 : z115*(z13*(z13*(z13*(z13*(4*4)))))=m115 := by
  have q : z115*(z13*(z13*(z13*(z13*(4*4)))))=(z113*(z13*(z13*(z13*(z13*(4*4))))))*1+(z114*(z13*(z13*(z13*(z13*(4*4))))))*1 := by rw [e115]; grind
  rw [q,d113,d114,hm115]
 clear e115
 obtain ⟨m116,hm116⟩ : ∃ m,m=m109*1 - z3*(z13*(z13*4)) := ⟨_,rfl⟩
 have d116 : z116*(z13*(z13*4))=m116 := by
  have q : z116*(z13*(z13*4))=(z109*(z13*(z13*4)))*1 - z3*(z13*(z13*4)) := by rw [e116]; grind
  rw [q,d109,hm116]
 clear e116
 obtain ⟨m117,hm117⟩ : ∃ m,m=m110*1 - z4*(z13*(z13*4)) := ⟨_,rfl⟩
 have d117 : z117*(z13*(z13*4))=m117 := by
  have q : z117*(z13*(z13*4))=(z110*(z13*(z13*4)))*1 - z4*(z13*(z13*4)) := by rw [e117]; grind
  rw [q,d110,hm117]
 clear e117
 obtain ⟨m118,hm118⟩ : ∃ m,m=m116*m116 := ⟨_,rfl⟩
 have d118 : z118*(z13*(z13*(z13*(z13*(4*4)))))=m118 := by
  have q : z118*(z13*(z13*(z13*(z13*(4*4)))))=(z116*(z13*(z13*4)))*(z116*(z13*(z13*4))) := by rw [e118]; grind
  rw [q,d116,hm118]
 clear e118
 obtain ⟨m119,hm119⟩ : ∃ m,m=m117*m117 := ⟨_,rfl⟩
 have d119 : z119*(z13*(z13*(z13*(z13*(4*4)))))=m119 := by
  have q : z119*(z13*(z13*(z13*(z13*(4*4)))))=(z117*(z13*(z13*4)))*(z117*(z13*(z13*4))) := by rw [e119]; grind
  rw [q,d117,hm119]
 clear e119
 obtain ⟨m120,hm120⟩ : ∃ m,m=m118*1+m119*1 := ⟨_,rfl⟩
 have d120 : z120*(z13*(z13*(z13*(z13*(4*4)))))=m120 := by
  have q : z120*(z13*(z13*(z13*(z13*(4*4)))))=(z118*(z13*(z13*(z13*(z13*(4*4))))))*1+(z119*(z13*(z13*(z13*(z13*(4*4))))))*1 := by rw [e120]; grind
  rw [q,d118,d119,hm120]
 clear e120
 have hpoly : (m115*1 - m120*1)=0 := by
  clear d109 d110 d111 d112 d113 d114 d115 d116 d117 d118 d119 d120
  have c3 : z3=z7+z1 := by rw [e7]; grind
  clear e7
  subst c3
  have c5 : z5=z9+z1 := by rw [e9]; grind
  clear e9
  subst c5
  have c4 : z4=z8+z2 := by rw [e8]; grind
  clear e8
  subst c4
  have c6 : z6=z10+z2 := by rw [e10]; grind
  clear e10
  subst c6
  subst_vars; grind
 have hz : (z115 - z120)*(z13*(z13*(z13*(z13*(4*4)))))=0 := by
  have q : (z115 - z120)*(z13*(z13*(z13*(z13*(4*4)))))=(z115*(z13*(z13*(z13*(z13*(4*4))))))*1 - (z120*(z13*(z13*(z13*(z13*(4*4))))))*1 := by grind
  rw [q,d115,d120,hpoly]
 have hgoal : z115=z120 := by
  have := (Rat.mul_eq_zero.1 hz).resolve_right (mul_ne w13 (mul_ne w13 (mul_ne w13 (mul_ne w13 (mul_ne (by decide) (by decide))))))
  grind
 exact hgoal
theorem gT_f10 {z1 z2 z3 z4 z5 z6 z7 z8 z9 z10 z11 z12 z13 z16 z17 z18 z19 z20 z21 z22 z23 z24 z25 z26 z27 z28 z33 z83 z84 z85 z86 z87 z88 z89 z90 z91 z92 z93 z94 z95 z96 z97 z98 z99 z100 z101 z102 z103 z104 z105 z106 z107 z108 z109 z110 z116 z117 z118 z119 z120 z121 z122 z123 z124 z125 : Rat} : z7=z3-z1→z8=z4-z2→z9=z5-z1→z10=z6-z2→z11=z7*z10→z12=z8*z9→z13=z11-z12→z16=z5-z3→z17=z6-z4→z18=z16*z16→z19=z17*z17→z20=z18+z19→z21=z1-z5→z22=z2-z6→z23=z21*z21→z24=z22*z22→z25=z23+z24→z26=z7*z7→z27=z8*z8→z28=z26+z27→z33=0→z83=-z20→z84=z25+z28→z85=z84+z83→z86=z20*z85→z87=-z25→z88=z28+z20→z89=z88+z87→z90=z25*z89→z91=-z28→z92=z20+z25→z93=z92+z91→z94=z28*z93→z95=z86+z90→z96=z95+z94→z97=z1*z86→z98=z2*z86→z99=z33+z97→z100=z33+z98→z101=z3*z90→z102=z4*z90→z103=z99+z101→z104=z100+z102→z105=z5*z94→z106=z6*z94→z107=z103+z105→z108=z104+z106→z109=z107/z96→z110=z108/z96→z116=z109-z3→z117=z110-z4→z118=z116*z116→z119=z117*z117→z120=z118+z119→z121=z109-z5→z122=z110-z6→z123=z121*z121→z124=z122*z122→z125=z123+z124→(¬ (z13=0))→z120=z125 := by
 intro e7 e8 e9 e10 e11 e12 e13 e16 e17 e18 e19 e20 e21 e22 e23 e24 e25 e26 e27 e28 e33 e83 e84 e85 e86 e87 e88 e89 e90 e91 e92 e93 e94 e95 e96 e97 e98 e99 e100 e101 e102 e103 e104 e105 e106 e107 e108 e109 e110 e116 e117 e118 e119 e120 e121 e122 e123 e124 e125 u0
 have f96 : z96=(z13*(z13*4)) := by
  have c3 : z3=z7+z1 := by rw [e7]; grind
  clear e7
  subst c3
  have c5 : z5=z9+z1 := by rw [e9]; grind
  clear e9
  subst c5
  have c4 : z4=z8+z2 := by rw [e8]; grind
  clear e8
  subst c4
  have c6 : z6=z10+z2 := by rw [e10]; grind
  clear e10
  subst c6
  subst_vars; grind
 have w13 : z13 ≠ 0 := by first | assumption | grind
 have n96 : z96 ≠ 0 := by rw [f96]; exact (mul_ne w13 (mul_ne w13 (by decide)))
 have h109 : z109*z96=z107 := by rw [e109]; exact Rat.div_mul_cancel n96
 rw [f96] at h109
 obtain ⟨m109,hm109⟩ : ∃ m,m=z107 := ⟨_,rfl⟩
 have d109 : z109*(z13*(z13*4))=m109 := by
  have q : z109*(z13*(z13*4))=z109*(z13*(z13*4)) := by grind
  rw [q,h109,hm109]
 clear h109 e109
 have h110 : z110*z96=z108 := by rw [e110]; exact Rat.div_mul_cancel n96
 rw [f96] at h110
 obtain ⟨m110,hm110⟩ : ∃ m,m=z108 := ⟨_,rfl⟩
 have d110 : z110*(z13*(z13*4))=m110 := by
  have q : z110*(z13*(z13*4))=z110*(z13*(z13*4)) := by grind
  rw [q,h110,hm110]
 clear h110 e110
 obtain ⟨m116,hm116⟩ : ∃ m,m=m109*1 - z3*(z13*(z13*4)) := ⟨_,rfl⟩
 have d116 : z116*(z13*(z13*4))=m116 := by
  have q : z116*(z13*(z13*4))=(z109*(z13*(z13*4)))*1 - z3*(z13*(z13*4)) := by rw [e116]; grind
  rw [q,d109,hm116]
 clear e116
 obtain ⟨m117,hm117⟩ : ∃ m,m=m110*1 - z4*(z13*(z13*4)) := ⟨_,rfl⟩
 have d117 : z117*(z13*(z13*4))=m117 := by
  have q : z117*(z13*(z13*4))=(z110*(z13*(z13*4)))*1 - z4*(z13*(z13*4)) := by rw [e117]; grind
  rw [q,d110,hm117]
 clear e117
 obtain ⟨m118,hm118⟩ : ∃ m,m=m116*m116 := ⟨_,rfl⟩
 have d118 : z118*(z13*(z13*(z13*(z13*(4*4)))))=m118 := by
  have q : z118*(z13*(z13*(z13*(z13*(4*4)))))=(z116*(z13*(z13*4)))*(z116*(z13*(z13*4))) := by rw [e118]; grind
  rw [q,d116,hm118]
 clear e118
 obtain ⟨m119,hm119⟩ : ∃ m,m=m117*m117 := ⟨_,rfl⟩
 have d119 : z119*(z13*(z13*(z13*(z13*(4*4)))))=m119 := by
  have q : z119*(z13*(z13*(z13*(z13*(4*4)))))=(z117*(z13*(z13*4)))*(z117*(z13*(z13*4))) := by rw [e119]; grind
  rw [q,d117,hm119]
 clear e119
 obtain ⟨m120,hm120⟩ : ∃ m,m=m118*1+m119*1 := ⟨_,rfl⟩
 have d120 : z120*(z13*(z13*(z13*(z13*(4*4)))))=m120 := by
  have q : z120*(z13*(z13*(z13*(z13*(4*4)))))=(z118*(z13*(z13*(z13*(z13*(4*4))))))*1+(z119*(z13*(z13*(z13*(z13*(4*4))))))*1 := by rw [e120]; grind
  rw [q,d118,d119,hm120]
 clear e120
 obtain ⟨m121,hm121⟩ : ∃ m,m=m109*1 - z5*(z13*(z13*4)) := ⟨_,rfl⟩
 have d121 : z121*(z13*(z13*4))=m121 := by
  have q : z121*(z13*(z13*4))=(z109*(z13*(z13*4)))*1 - z5*(z13*(z13*4)) := by rw [e121]; grind
  rw [q,d109,hm121]
 clear e121
 obtain ⟨m122,hm122⟩ : ∃ m,m=m110*1 - z6*(z13*(z13*4)) := ⟨_,rfl⟩
 have d122 : z122*(z13*(z13*4))=m122 := by
  have q : z122*(z13*(z13*4))=(z110*(z13*(z13*4)))*1 - z6*(z13*(z13*4)) := by rw [e122]; grind
  rw [q,d110,hm122]
 clear e122
 obtain ⟨m123,hm123⟩ : ∃ m,m=m121*m121 := ⟨_,rfl⟩
 have d123 : z123*(z13*(z13*(z13*(z13*(4*4)))))=m123 := by
  have q : z123*(z13*(z13*(z13*(z13*(4*4)))))=(z121*(z13*(z13*4)))*(z121*(z13*(z13*4))) := by rw [e123]; grind
  rw [q,d121,hm123]
 clear e123
 obtain ⟨m124,hm124⟩ : ∃ m,m=m122*m122 := ⟨_,rfl⟩
 have d124 : z124*(z13*(z13*(z13*(z13*(4*4)))))=m124 := by
  have q : z124*(z13*(z13*(z13*(z13*(4*4)))))=(z122*(z13*(z13*4)))*(z122*(z13*(z13*4))) := by rw [e124]; grind
  rw [q,d122,hm124]
 clear e124
 obtain ⟨m125,hm125⟩ : ∃ m,m=m123*1+m124*1 := ⟨_,rfl⟩
 have d125 : z125*(z13*(z13*(z13*(z13*(4*4)))))=m125 := by
  have q : z125*(z13*(z13*(z13*(z13*(4*4)))))=(z123*(z13*(z13*(z13*(z13*(4*4))))))*1+(z124*(z13*(z13*(z13*(z13*(4*4))))))*1 := by rw [e125]; grind
  rw [q,d123,d124,hm125]
 clear e125
 have hpoly : (m120*1 - m125*1)=0 := by
  clear d109 d110 d116 d117 d118 d119 d120 d121 d122 d123 d124 d125
  have c3 : z3=z7+z1 := by rw [e7]; grind
  clear e7
  subst c3
  have c5 : z5=z9+z1 := by rw [e9]; grind
  clear e9
  subst c5
  have c4 : z4=z8+z2 := by rw [e8]; grind
  clear e8
  subst c4
  have c6 : z6=z10+z2 := by rw [e10]; grind
  clear e10
  subst c6
  subst_vars; grind
 have hz : (z120 - z125)*(z13*(z13*(z13*(z13*(4*4)))))=0 := by
  have q : (z120 - z125)*(z13*(z13*(z13*(z13*(4*4)))))=(z120*(z13*(z13*(z13*(z13*(4*4))))))*1 - (z125*(z13*(z13*(z13*(z13*(4*4))))))*1 := by grind
  rw [q,d120,d125,hpoly]
 have hgoal : z120=z125 := by
  have := (Rat.mul_eq_zero.1 hz).resolve_right (mul_ne w13 (mul_ne w13 (mul_ne w13 (mul_ne w13 (mul_ne (by decide) (by decide))))))
  grind
 exact hgoal
theorem gT_f11 {z1 z2 z3 z4 z5 z6 z7 z8 z9 z10 z11 z12 z13 z16 z17 z18 z19 z20 z21 z22 z23 z24 z25 z26 z27 z28 z83 z84 z85 z87 z88 z89 z91 z92 z93 z127 z128 z129 z130 z131 z132 z133 z134 z135 z136 z137 : Rat} : z7=z3-z1→z8=z4-z2→z9=z5-z1→z10=z6-z2→z11=z7*z10→z12=z8*z9→z13=z11-z12→z16=z5-z3→z17=z6-z4→z18=z16*z16→z19=z17*z17→z20=z18+z19→z21=z1-z5→z22=z2-z6→z23=z21*z21→z24=z22*z22→z25=z23+z24→z26=z7*z7→z27=z8*z8→z28=z26+z27→z83=-z20→z84=z25+z28→z85=z84+z83→z87=-z25→z88=z28+z20→z89=z88+z87→z91=-z28→z92=z20+z25→z93=z92+z91→z127=z20+z28→z128=z127+z87→z129=z93*z128→z130=z25+z20→z131=z130+z91→z132=z85*z131→z133=z28+z25→z134=z133+z83→z135=z89*z134→z136=z129+z132→z137=z136+z135→(¬ (z13=0))→¬ (z137=0) := by
 intro e7 e8 e9 e10 e11 e12 e13 e16 e17 e18 e19 e20 e21 e22 e23 e24 e25 e26 e27 e28 e83 e84 e85 e87 e88 e89 e91 e92 e93 e127 e128 e129 e130 e131 e132 e133 e134 e135 e136 e137 u0
 subst_vars; grind
theorem gT_f12 {z0 z14 z15 z74 z126 : Rat} : z14=1→z15=z0-z14→z74=3→z126=z0-z74→(z126=0)→¬ (z15 < 0) := by
 intro e14 e15 e74 e126 u3
 rw [u3] at e126
 subst_vars; grind
theorem gT_f13 {z0 z46 z47 z74 z126 : Rat} : z46=5→z47=z0-z46→z74=3→z126=z0-z74→(z126=0)→¬ (0 < z47) := by
 intro e46 e47 e74 e126 u3
 rw [u3] at e126
 subst_vars; grind
theorem gT_f14 {z1 z2 z3 z4 z5 z6 z7 z8 z9 z10 z11 z12 z13 z16 z17 z18 z19 z20 z21 z22 z23 z24 z25 z26 z27 z28 z33 z83 z84 z85 z87 z88 z89 z91 z92 z93 z127 z128 z129 z130 z131 z132 z133 z134 z135 z136 z137 z138 z139 z140 z141 z142 z143 z144 z145 z146 z147 z148 z149 z150 z151 z152 z153 z154 z155 z156 : Rat} : z7=z3-z1→z8=z4-z2→z9=z5-z1→z10=z6-z2→z11=z7*z10→z12=z8*z9→z13=z11-z12→z16=z5-z3→z17=z6-z4→z18=z16*z16→z19=z17*z17→z20=z18+z19→z21=z1-z5→z22=z2-z6→z23=z21*z21→z24=z22*z22→z25=z23+z24→z26=z7*z7→z27=z8*z8→z28=z26+z27→z33=0→z83=-z20→z84=z25+z28→z85=z84+z83→z87=-z25→z88=z28+z20→z89=z88+z87→z91=-z28→z92=z20+z25→z93=z92+z91→z127=z20+z28→z128=z127+z87→z129=z93*z128→z130=z25+z20→z131=z130+z91→z132=z85*z131→z133=z28+z25→z134=z133+z83→z135=z89*z134→z136=z129+z132→z137=z136+z135→z138=z1*z129→z139=z2*z129→z140=z33+z138→z141=z33+z139→z142=z3*z132→z143=z4*z132→z144=z140+z142→z145=z141+z143→z146=z5*z135→z147=z6*z135→z148=z144+z146→z149=z145+z147→z150=z148/z137→z151=z149/z137→z152=z150-z1→z153=z151-z2→z154=z152*z16→z155=z153*z17→z156=z154+z155→(¬ (z13=0))→z156=0 := by
 intro e7 e8 e9 e10 e11 e12 e13 e16 e17 e18 e19 e20 e21 e22 e23 e24 e25 e26 e27 e28 e33 e83 e84 e85 e87 e88 e89 e91 e92 e93 e127 e128 e129 e130 e131 e132 e133 e134 e135 e136 e137 e138 e139 e140 e141 e142 e143 e144 e145 e146 e147 e148 e149 e150 e151 e152 e153 e154 e155 e156 u0
 have f137 : z137=(z13*(z13*4)) := by
  have c3 : z3=z7+z1 := by rw [e7]; grind
  clear e7
  subst c3
  have c5 : z5=z9+z1 := by rw [e9]; grind
  clear e9
  subst c5
  have c4 : z4=z8+z2 := by rw [e8]; grind
  clear e8
  subst c4
  have c6 : z6=z10+z2 := by rw [e10]; grind
  clear e10
  subst c6
  subst_vars; grind
 have w13 : z13 ≠ 0 := by first | assumption | grind
 have n137 : z137 ≠ 0 := by rw [f137]; exact (mul_ne w13 (mul_ne w13 (by decide)))
 have h150 : z150*z137=z148 := by rw [e150]; exact Rat.div_mul_cancel n137
 rw [f137] at h150
 obtain ⟨m150,hm150⟩ : ∃ m,m=z148 := ⟨_,rfl⟩
 have d150 : z150*(z13*(z13*4))=m150 := by
  have q : z150*(z13*(z13*4))=z150*(z13*(z13*4)) := by grind
  rw [q,h150,hm150]
 clear h150 e150
 have h151 : z151*z137=z149 := by rw [e151]; exact Rat.div_mul_cancel n137
 rw [f137] at h151
 obtain ⟨m151,hm151⟩ : ∃ m,m=z149 := ⟨_,rfl⟩
 have d151 : z151*(z13*(z13*4))=m151 := by
  have q : z151*(z13*(z13*4))=z151*(z13*(z13*4)) := by grind
  rw [q,h151,hm151]
 clear h151 e151
 obtain ⟨m152,hm152⟩ : ∃ m,m=m150*1 - z1*(z13*(z13*4)) := ⟨_,rfl⟩
 have d152 : z152*(z13*(z13*4))=m152 := by
  have q : z152*(z13*(z13*4))=(z150*(z13*(z13*4)))*1 - z1*(z13*(z13*4)) := by rw [e152]; grind
  rw [q,d150,hm152]
 clear e152
 obtain ⟨m153,hm153⟩ : ∃ m,m=m151*1 - z2*(z13*(z13*4)) := ⟨_,rfl⟩
 have d153 : z153*(z13*(z13*4))=m153 := by
  have q : z153*(z13*(z13*4))=(z151*(z13*(z13*4)))*1 - z2*(z13*(z13*4)) := by rw [e153]; grind
  rw [q,d151,hm153]
 clear e153
 obtain ⟨m154,hm154⟩ : ∃ m,m=m152*z16 := ⟨_,rfl⟩
 have d154 : z154*(z13*(z13*4))=m154 := by
  have q : z154*(z13*(z13*4))=(z152*(z13*(z13*4)))*z16 := by rw [e154]; grind
  rw [q,d152,hm154]
 clear e154
 obtain ⟨m155,hm155⟩ : ∃ m,m=m153*z17 := ⟨_,rfl⟩
 have d155 : z155*(z13*(z13*4))=m155 := by
  have q : z155*(z13*(z13*4))=(z153*(z13*(z13*4)))*z17 := by rw [e155]; grind
  rw [q,d153,hm155]
 clear e155
 obtain ⟨m156,hm156⟩ : ∃ m,m=m154*1+m155*1 := ⟨_,rfl⟩
 have d156 : z156*(z13*(z13*4))=m156 := by
  have q : z156*(z13*(z13*4))=(z154*(z13*(z13*4)))*1+(z155*(z13*(z13*4)))*1 := by rw [e156]; grind
  rw [q,d154,d155,hm156]
 clear e156
 have hpoly : m156=0 := by
  clear d150 d151 d152 d153 d154 d155 d156
  have c3 : z3=z7+z1 := by rw [e7]; grind
  clear e7
  subst c3
  have c5 : z5=z9+z1 := by rw [e9]; grind
  clear e9
  subst c5
  have c4 : z4=z8+z2 := by rw [e8]; grind
  clear e8
  subst c4
  have c6 : z6=z10+z2 := by rw [e10]; grind
  clear e10
  subst c6
  subst_vars; grind
 have hgoal : z156=0 := (Rat.mul_eq_zero.1 (d156.trans hpoly)).resolve_right (mul_ne w13 (mul_ne w13 (by decide)))
 exact hgoal
theorem gT_f15 {z1 z2 z3 z4 z5 z6 z7 z8 z9 z10 z11 z12 z13 z16 z17 z18 z19 z20 z21 z22 z23 z24 z25 z26 z27 z28 z33 z83 z84 z85 z87 z88 z89 z91 z92 z93 z127 z128 z129 z130 z131 z132 z133 z134 z135 z136 z137 z138 z139 z140 z141 z142 z143 z144 z145 z146 z147 z148 z149 z150 z151 z157 z158 z159 z160 z161 : Rat} : z7=z3-z1→z8=z4-z2→z9=z5-z1→z10=z6-z2→z11=z7*z10→z12=z8*z9→z13=z11-z12→z16=z5-z3→z17=z6-z4→z18=z16*z16→z19=z17*z17→z20=z18+z19→z21=z1-z5→z22=z2-z6→z23=z21*z21→z24=z22*z22→z25=z23+z24→z26=z7*z7→z27=z8*z8→z28=z26+z27→z33=0→z83=-z20→z84=z25+z28→z85=z84+z83→z87=-z25→z88=z28+z20→z89=z88+z87→z91=-z28→z92=z20+z25→z93=z92+z91→z127=z20+z28→z128=z127+z87→z129=z93*z128→z130=z25+z20→z131=z130+z91→z132=z85*z131→z133=z28+z25→z134=z133+z83→z135=z89*z134→z136=z129+z132→z137=z136+z135→z138=z1*z129→z139=z2*z129→z140=z33+z138→z141=z33+z139→z142=z3*z132→z143=z4*z132→z144=z140+z142→z145=z141+z143→z146=z5*z135→z147=z6*z135→z148=z144+z146→z149=z145+z147→z150=z148/z137→z151=z149/z137→z157=z150-z3→z158=z151-z4→z159=z157*z21→z160=z158*z22→z161=z159+z160→(¬ (z13=0))→z161=0 := by
 intro e7 e8 e9 e10 e11 e12 e13 e16 e17 e18 e19 e20 e21 e22 e23 e24 e25 e26 e27 e28 e33 e83 e84 e85 e87 e88 e89 e91 e92 e93 e127 e128 e129 e130 e131 e132 e133 e134 e135 e136 e137 e138 e139 e140 e141 e142 e143 e144 e145 e146 e147 e148 e149 e150 e151 e157 e158 e159 e160 e161 u0
 have f137 : z137=(z13*(z13*4)) := by
  have c3 : z3=z7+z1 := by rw [e7]; grind
  clear e7
  subst c3
  have c5 : z5=z9+z1 := by rw [e9]; grind
  clear e9
  subst c5
  have c4 : z4=z8+z2 := by rw [e8]; grind
  clear e8
  subst c4
  have c6 : z6=z10+z2 := by rw [e10]; grind
  clear e10
  subst c6
  subst_vars; grind
 have w13 : z13 ≠ 0 := by first | assumption | grind
 have n137 : z137 ≠ 0 := by rw [f137]; exact (mul_ne w13 (mul_ne w13 (by decide)))
 have h150 : z150*z137=z148 := by rw [e150]; exact Rat.div_mul_cancel n137
 rw [f137] at h150
 obtain ⟨m150,hm150⟩ : ∃ m,m=z148 := ⟨_,rfl⟩
 have d150 : z150*(z13*(z13*4))=m150 := by
  have q : z150*(z13*(z13*4))=z150*(z13*(z13*4)) := by grind
  rw [q,h150,hm150]
 clear h150 e150
 have h151 : z151*z137=z149 := by rw [e151]; exact Rat.div_mul_cancel n137
 rw [f137] at h151
 obtain ⟨m151,hm151⟩ : ∃ m,m=z149 := ⟨_,rfl⟩
 have d151 : z151*(z13*(z13*4))=m151 := by
  have q : z151*(z13*(z13*4))=z151*(z13*(z13*4)) := by grind
  rw [q,h151,hm151]
 clear h151 e151
 obtain ⟨m157,hm157⟩ : ∃ m,m=m150*1 - z3*(z13*(z13*4)) := ⟨_,rfl⟩
 have d157 : z157*(z13*(z13*4))=m157 := by
  have q : z157*(z13*(z13*4))=(z150*(z13*(z13*4)))*1 - z3*(z13*(z13*4)) := by rw [e157]; grind
  rw [q,d150,hm157]
 clear e157
 obtain ⟨m158,hm158⟩ : ∃ m,m=m151*1 - z4*(z13*(z13*4)) := ⟨_,rfl⟩
 have d158 : z158*(z13*(z13*4))=m158 := by
  have q : z158*(z13*(z13*4))=(z151*(z13*(z13*4)))*1 - z4*(z13*(z13*4)) := by rw [e158]; grind
  rw [q,d151,hm158]
 clear e158
 obtain ⟨m159,hm159⟩ : ∃ m,m=m157*z21 := ⟨_,rfl⟩
 have d159 : z159*(z13*(z13*4))=m159 := by
  have q : z159*(z13*(z13*4))=(z157*(z13*(z13*4)))*z21 := by rw [e159]; grind
  rw [q,d157,hm159]
 clear e159
 obtain ⟨m160,hm160⟩ : ∃ m,m=m158*z22 := ⟨_,rfl⟩
 have d160 : z160*(z13*(z13*4))=m160 := by
  have q : z160*(z13*(z13*4))=(z158*(z13*(z13*4)))*z22 := by rw [e160]; grind
  rw [q,d158,hm160]
 clear e160
 obtain ⟨m161,hm161⟩ : ∃ m,m=m159*1+m160*1 := ⟨_,rfl⟩
 have d161 : z161*(z13*(z13*4))=m161 := by
  have q : z161*(z13*(z13*4))=(z159*(z13*(z13*4)))*1+(z160*(z13*(z13*4)))*1 := by rw [e161]; grind
  rw [q,d159,d160,hm161]
 clear e161
 have hpoly : m161=0 := by
  clear d150 d151 d157 d158 d159 d160 d161
  have c3 : z3=z7+z1 := by rw [e7]; grind
  clear e7
  subst c3
  have c5 : z5=z9+z1 := by rw [e9]; grind
  clear e9
  subst c5
  have c4 : z4=z8+z2 := by rw [e8]; grind
  clear e8
  subst c4
  have c6 : z6=z10+z2 := by rw [e10]; grind
  clear e10
  subst c6
  subst_vars; grind
 have hgoal : z161=0 := (Rat.mul_eq_zero.1 (d161.trans hpoly)).resolve_right (mul_ne w13 (mul_ne w13 (by decide)))
 exact hgoal
theorem gT_f16 {z1 z2 z3 z4 z5 z6 z7 z8 z9 z10 z11 z12 z13 z16 z17 z18 z19 z20 z21 z22 z23 z24 z25 z26 z27 z28 z83 z84 z85 z86 z87 z88 z89 z90 z91 z92 z93 z94 z127 z128 z129 z130 z131 z132 z133 z134 z135 z164 z165 z166 z167 z168 : Rat} : z7=z3-z1→z8=z4-z2→z9=z5-z1→z10=z6-z2→z11=z7*z10→z12=z8*z9→z13=z11-z12→z16=z5-z3→z17=z6-z4→z18=z16*z16→z19=z17*z17→z20=z18+z19→z21=z1-z5→z22=z2-z6→z23=z21*z21→z24=z22*z22→z25=z23+z24→z26=z7*z7→z27=z8*z8→z28=z26+z27→z83=-z20→z84=z25+z28→z85=z84+z83→z86=z20*z85→z87=-z25→z88=z28+z20→z89=z88+z87→z90=z25*z89→z91=-z28→z92=z20+z25→z93=z92+z91→z94=z28*z93→z127=z20+z28→z128=z127+z87→z129=z93*z128→z130=z25+z20→z131=z130+z91→z132=z85*z131→z133=z28+z25→z134=z133+z83→z135=z89*z134→z164=z86+z129→z165=z90+z132→z166=z94+z135→z167=z164+z165→z168=z167+z166→(¬ (z13=0))→¬ (z168=0) := by
 intro e7 e8 e9 e10 e11 e12 e13 e16 e17 e18 e19 e20 e21 e22 e23 e24 e25 e26 e27 e28 e83 e84 e85 e86 e87 e88 e89 e90 e91 e92 e93 e94 e127 e128 e129 e130 e131 e132 e133 e134 e135 e164 e165 e166 e167 e168 u0
 subst_vars; grind
theorem gT_f17 {z0 z14 z15 z162 z163 : Rat} : z14=1→z15=z0-z14→z162=4→z163=z0-z162→(z163=0)→¬ (z15 < 0) := by
 intro e14 e15 e162 e163 u4
 rw [u4] at e163
 subst_vars; grind
theorem gT_f18 {z0 z46 z47 z162 z163 : Rat} : z46=5→z47=z0-z46→z162=4→z163=z0-z162→(z163=0)→¬ (0 < z47) := by
 intro e46 e47 e162 e163 u4
 rw [u4] at e163
 subst_vars; grind
theorem gT_f19 {z1 z2 z3 z4 z5 z6 z7 z8 z9 z10 z11 z12 z13 z16 z17 z18 z19 z20 z21 z22 z23 z24 z25 z26 z27 z28 z33 z48 z49 z50 z51 z52 z53 z54 z55 z56 z57 z58 z59 z60 z61 z62 z63 z64 z65 z70 z72 z83 z84 z85 z86 z87 z88 z89 z90 z91 z92 z93 z94 z127 z128 z129 z130 z131 z132 z133 z134 z135 z164 z165 z166 z167 z168 z169 z171 z173 z175 z177 z179 z181 z183 z185 z187 : Rat} : z7=z3-z1→z8=z4-z2→z9=z5-z1→z10=z6-z2→z11=z7*z10→z12=z8*z9→z13=z11-z12→z16=z5-z3→z17=z6-z4→z18=z16*z16→z19=z17*z17→z20=z18+z19→z21=z1-z5→z22=z2-z6→z23=z21*z21→z24=z22*z22→z25=z23+z24→z26=z7*z7→z27=z8*z8→z28=z26+z27→z33=0→z48=z3*z3→z49=z4*z4→z50=z48+z49→z51=z1*z1→z52=z2*z2→z53=z51+z52→z54=z50-z53→z55=2→z56=z54/z55→z57=z5*z5→z58=z6*z6→z59=z57+z58→z60=z59-z53→z61=z60/z55→z62=z56*z10→z63=z61*z8→z64=z62-z63→z65=z64/z13→z70=z1+z3→z72=z70+z5→z83=-z20→z84=z25+z28→z85=z84+z83→z86=z20*z85→z87=-z25→z88=z28+z20→z89=z88+z87→z90=z25*z89→z91=-z28→z92=z20+z25→z93=z92+z91→z94=z28*z93→z127=z20+z28→z128=z127+z87→z129=z93*z128→z130=z25+z20→z131=z130+z91→z132=z85*z131→z133=z28+z25→z134=z133+z83→z135=z89*z134→z164=z86+z129→z165=z90+z132→z166=z94+z135→z167=z164+z165→z168=z167+z166→z169=z1*z164→z171=z33+z169→z173=z3*z165→z175=z171+z173→z177=z5*z166→z179=z175+z177→z181=z179/z168→z183=z181*z55→z185=z72-z65→z187=z183-z185→(¬ (z13=0))→z187=0 := by
 intro e7 e8 e9 e10 e11 e12 e13 e16 e17 e18 e19 e20 e21 e22 e23 e24 e25 e26 e27 e28 e33 e48 e49 e50 e51 e52 e53 e54 e55 e56 e57 e58 e59 e60 e61 e62 e63 e64 e65 e70 e72 e83 e84 e85 e86 e87 e88 e89 e90 e91 e92 e93 e94 e127 e128 e129 e130 e131 e132 e133 e134 e135 e164 e165 e166 e167 e168 e169 e171 e173 e175 e177 e179 e181 e183 e185 e187 u0
 have f168 : z168=(z13*(z13*8)) := by
  have c3 : z3=z7+z1 := by rw [e7]; grind
  clear e7
  subst c3
  have c5 : z5=z9+z1 := by rw [e9]; grind
  clear e9
  subst c5
  have c4 : z4=z8+z2 := by rw [e8]; grind
  clear e8
  subst c4
  have c6 : z6=z10+z2 := by rw [e10]; grind
  clear e10
  subst c6
  subst_vars; grind
 have w13 : z13 ≠ 0 := by first | assumption | grind
 have w55 : z55 ≠ 0 := by rw [e55]; decide
 have n13 : z13 ≠ 0 := w13
 have n168 : z168 ≠ 0 := by rw [f168]; exact (mul_ne w13 (mul_ne w13 (by decide)))
 have h56 : z56*z55=z54 := by rw [e56]; exact Rat.div_mul_cancel (by rw [e55]; decide)
 obtain ⟨m56,hm56⟩ : ∃ m,m=z54 := ⟨_,rfl⟩
 have d56 : z56*z55=m56 := by
  have q : z56*z55=z56*z55 := by grind
  rw [q,h56,hm56]
 clear h56 e56
 have h61 : z61*z55=z60 := by rw [e61]; exact Rat.div_mul_cancel (by rw [e55]; decide)
 obtain ⟨m61,hm61⟩ : ∃ m,m=z60 := ⟨_,rfl⟩
 have d61 : z61*z55=m61 := by
  have q : z61*z55=z61*z55 := by grind
  rw [q,h61,hm61]
 clear h61 e61
 obtain ⟨m62,hm62⟩ : ∃ m,m=m56*z10 := ⟨_,rfl⟩
 have d62 : z62*z55=m62 := by
  have q : z62*z55=(z56*z55)*z10 := by rw [e62]; grind
  rw [q,d56,hm62]
 clear e62
 obtain ⟨m63,hm63⟩ : ∃ m,m=m61*z8 := ⟨_,rfl⟩
 have d63 : z63*z55=m63 := by
  have q : z63*z55=(z61*z55)*z8 := by rw [e63]; grind
  rw [q,d61,hm63]
 clear e63
 obtain ⟨m64,hm64⟩ : ∃ m,m=m62*1 - m63*1 := ⟨_,rfl⟩
 have d64 : z64*z55=m64 := by
  have q : z64*z55=(z62*z55)*1 - (z63*z55)*1 := by rw [e64]; grind
  rw [q,d62,d63,hm64]
 clear e64
 have h65 : z65*z13=z64 := by rw [e65]; exact Rat.div_mul_cancel n13
 obtain ⟨m65,hm65⟩ : ∃ m,m=m64 := ⟨_,rfl⟩
 have d65 : z65*(z13*z55)=m65 := by
  have q : z65*(z13*z55)=(z65*z13)*z55 := by grind
  rw [q,h65,d64,hm65]
 clear h65 e65
 have h181 : z181*z168=z179 := by rw [e181]; exact Rat.div_mul_cancel n168
 rw [f168] at h181
 obtain ⟨m181,hm181⟩ : ∃ m,m=z179 := ⟨_,rfl⟩
 have d181 : z181*(z13*(z13*8))=m181 := by
  have q : z181*(z13*(z13*8))=z181*(z13*(z13*8)) := by grind
  rw [q,h181,hm181]
 clear h181 e181
 obtain ⟨m183,hm183⟩ : ∃ m,m=m181*z55 := ⟨_,rfl⟩
 have d183 : z183*(z13*(z13*8))=m183 := by
  have q : z183*(z13*(z13*8))=(z181*(z13*(z13*8)))*z55 := by rw [e183]; grind
  rw [q,d181,hm183]
 clear e183
 obtain ⟨m185,hm185⟩ : ∃ m,m=z72*(z13*z55) - m65*1 := ⟨_,rfl⟩
 have d185 : z185*(z13*z55)=m185 := by
  have q : z185*(z13*z55)=z72*(z13*z55) - (z65*(z13*z55))*1 := by rw [e185]; grind
  rw [q,d65,hm185]
 clear e185
 obtain ⟨m187,hm187⟩ : ∃ m,m=m183*z55 - m185*(z13*8) := ⟨_,rfl⟩
 have d187 : z187*(z13*(z13*(z55*8)))=m187 := by
  have q : z187*(z13*(z13*(z55*8)))=(z183*(z13*(z13*8)))*z55 - (z185*(z13*z55))*(z13*8) := by rw [e187]; grind
  rw [q,d183,d185,hm187]
 clear e187
 have hpoly : m187=0 := by
  clear d56 d61 d62 d63 d64 d65 d181 d183 d185 d187
  have c3 : z3=z7+z1 := by rw [e7]; grind
  clear e7
  subst c3
  have c5 : z5=z9+z1 := by rw [e9]; grind
  clear e9
  subst c5
  have c4 : z4=z8+z2 := by rw [e8]; grind
  clear e8
  subst c4
  have c6 : z6=z10+z2 := by rw [e10]; grind
  clear e10
  subst c6
  subst_vars; grind
 have hgoal : z187=0 := (Rat.mul_eq_zero.1 (d187.trans hpoly)).resolve_right (mul_ne w13 (mul_ne w13 (mul_ne w55 (by decide))))
 exact hgoal
theorem gT_f20 {z1 z2 z3 z4 z5 z6 z7 z8 z9 z10 z11 z12 z13 z16 z17 z18 z19 z20 z21 z22 z23 z24 z25 z26 z27 z28 z33 z48 z49 z50 z51 z52 z53 z54 z55 z56 z57 z58 z59 z60 z61 z66 z67 z68 z69 z71 z73 z83 z84 z85 z86 z87 z88 z89 z90 z91 z92 z93 z94 z127 z128 z129 z130 z131 z132 z133 z134 z135 z164 z165 z166 z167 z168 z170 z172 z174 z176 z178 z180 z182 z184 z186 z188 : Rat} : z7=z3-z1→z8=z4-z2→z9=z5-z1→z10=z6-z2→z11=z7*z10→z12=z8*z9→z13=z11-z12→z16=z5-z3→z17=z6-z4→z18=z16*z16→z19=z17*z17→z20=z18+z19→z21=z1-z5→z22=z2-z6→z23=z21*z21→z24=z22*z22→z25=z23+z24→z26=z7*z7→z27=z8*z8→z28=z26+z27→z33=0→z48=z3*z3→z49=z4*z4→z50=z48+z49→z51=z1*z1→z52=z2*z2→z53=z51+z52→z54=z50-z53→z55=2→z56=z54/z55→z57=z5*z5→z58=z6*z6→z59=z57+z58→z60=z59-z53→z61=z60/z55→z66=z7*z61→z67=z9*z56→z68=z66-z67→z69=z68/z13→z71=z2+z4→z73=z71+z6→z83=-z20→z84=z25+z28→z85=z84+z83→z86=z20*z85→z87=-z25→z88=z28+z20→z89=z88+z87→z90=z25*z89→z91=-z28→z92=z20+z25→z93=z92+z91→z94=z28*z93→z127=z20+z28→z128=z127+z87→z129=z93*z128→z130=z25+z20→z131=z130+z91→z132=z85*z131→z133=z28+z25→z134=z133+z83→z135=z89*z134→z164=z86+z129→z165=z90+z132→z166=z94+z135→z167=z164+z165→z168=z167+z166→z170=z2*z164→z172=z33+z170→z174=z4*z165→z176=z172+z174→z178=z6*z166→z180=z176+z178→z182=z180/z168→z184=z182*z55→z186=z73-z69→z188=z184-z186→(¬ (z13=0))→z188=0 := by
 intro e7 e8 e9 e10 e11 e12 e13 e16 e17 e18 e19 e20 e21 e22 e23 e24 e25 e26 e27 e28 e33 e48 e49 e50 e51 e52 e53 e54 e55 e56 e57 e58 e59 e60 e61 e66 e67 e68 e69 e71 e73 e83 e84 e85 e86 e87 e88 e89 e90 e91 e92 e93 e94 e127 e128 e129 e130 e131 e132 e133 e134 e135 e164 e165 e166 e167 e168 e170 e172 e174 e176 e178 e180 e182 e184 e186 e188 u0
 have f168 : z168=(z13*(z13*8)) := by
  have c3 : z3=z7+z1 := by rw [e7]; grind
  clear e7
  subst c3
  have c5 : z5=z9+z1 := by rw [e9]; grind
  clear e9
  subst c5
  have c4 : z4=z8+z2 := by rw [e8]; grind
  clear e8
  subst c4
  have c6 : z6=z10+z2 := by rw [e10]; grind
  clear e10
  subst c6
  subst_vars; grind
 have w13 : z13 ≠ 0 := by first | assumption | grind
 have w55 : z55 ≠ 0 := by rw [e55]; decide
 have n13 : z13 ≠ 0 := w13
 have n168 : z168 ≠ 0 := by rw [f168]; exact (mul_ne w13 (mul_ne w13 (by decide)))
 have h56 : z56*z55=z54 := by rw [e56]; exact Rat.div_mul_cancel (by rw [e55]; decide)
 obtain ⟨m56,hm56⟩ : ∃ m,m=z54 := ⟨_,rfl⟩
 have d56 : z56*z55=m56 := by
  have q : z56*z55=z56*z55 := by grind
  rw [q,h56,hm56]
 clear h56 e56
 have h61 : z61*z55=z60 := by rw [e61]; exact Rat.div_mul_cancel (by rw [e55]; decide)
 obtain ⟨m61,hm61⟩ : ∃ m,m=z60 := ⟨_,rfl⟩
 have d61 : z61*z55=m61 := by
  have q : z61*z55=z61*z55 := by grind
  rw [q,h61,hm61]
 clear h61 e61
 obtain ⟨m66,hm66⟩ : ∃ m,m=z7*m61 := ⟨_,rfl⟩
 have d66 : z66*z55=m66 := by
  have q : z66*z55=z7*(z61*z55) := by rw [e66]; grind
  rw [q,d61,hm66]
 clear e66
 obtain ⟨m67,hm67⟩ : ∃ m,m=z9*m56 := ⟨_,rfl⟩
 have d67 : z67*z55=m67 := by
  have q : z67*z55=z9*(z56*z55) := by rw [e67]; grind
  rw [q,d56,hm67]
 clear e67
 obtain ⟨m68,hm68⟩ : ∃ m,m=m66*1 - m67*1 := ⟨_,rfl⟩
 have d68 : z68*z55=m68 := by
  have q : z68*z55=(z66*z55)*1 - (z67*z55)*1 := by rw [e68]; grind
  rw [q,d66,d67,hm68]
 clear e68
 have h69 : z69*z13=z68 := by rw [e69]; exact Rat.div_mul_cancel n13
 obtain ⟨m69,hm69⟩ : ∃ m,m=m68 := ⟨_,rfl⟩
 have d69 : z69*(z13*z55)=m69 := by
  have q : z69*(z13*z55)=(z69*z13)*z55 := by grind
  rw [q,h69,d68,hm69]
 clear h69 e69
 have h182 : z182*z168=z180 := by rw [e182]; exact Rat.div_mul_cancel n168
 rw [f168] at h182
 obtain ⟨m182,hm182⟩ : ∃ m,m=z180 := ⟨_,rfl⟩
 have d182 : z182*(z13*(z13*8))=m182 := by
  have q : z182*(z13*(z13*8))=z182*(z13*(z13*8)) := by grind
  rw [q,h182,hm182]
 clear h182 e182
 obtain ⟨m184,hm184⟩ : ∃ m,m=m182*z55 := ⟨_,rfl⟩
 have d184 : z184*(z13*(z13*8))=m184 := by
  have q : z184*(z13*(z13*8))=(z182*(z13*(z13*8)))*z55 := by rw [e184]; grind
  rw [q,d182,hm184]
 clear e184
 obtain ⟨m186,hm186⟩ : ∃ m,m=z73*(z13*z55) - m69*1 := ⟨_,rfl⟩
 have d186 : z186*(z13*z55)=m186 := by
  have q : z186*(z13*z55)=z73*(z13*z55) - (z69*(z13*z55))*1 := by rw [e186]; grind
  rw [q,d69,hm186]
 clear e186
 obtain ⟨m188,hm188⟩ : ∃ m,m=m184*z55 - m186*(z13*8) := ⟨_,rfl⟩
 have d188 : z188*(z13*(z13*(z55*8)))=m188 := by
  have q : z188*(z13*(z13*(z55*8)))=(z184*(z13*(z13*8)))*z55 - (z186*(z13*z55))*(z13*8) := by rw [e188]; grind
  rw [q,d184,d186,hm188]
 clear e188
 have hpoly : m188=0 := by
  clear d56 d61 d66 d67 d68 d69 d182 d184 d186 d188
  have c3 : z3=z7+z1 := by rw [e7]; grind
  clear e7
  subst c3
  have c5 : z5=z9+z1 := by rw [e9]; grind
  clear e9
  subst c5
  have c4 : z4=z8+z2 := by rw [e8]; grind
  clear e8
  subst c4
  have c6 : z6=z10+z2 := by rw [e10]; grind
  clear e10
  subst c6
  subst_vars; grind
 have hgoal : z188=0 := (Rat.mul_eq_zero.1 (d188.trans hpoly)).resolve_right (mul_ne w13 (mul_ne w13 (mul_ne w55 (by decide))))
 exact hgoal
theorem gT_f21 {z0 z14 z15 z46 z47 : Rat} : z14=1→z15=z0-z14→z46=5→z47=z0-z46→(z47=0)→¬ (z15 < 0) := by
 intro e14 e15 e46 e47 u5
 rw [u5] at e47
 subst_vars; grind
theorem gT_f22 {z0 z46 z47 : Rat} : z46=5→z47=z0-z46→(z47=0)→¬ (0 < z47) := by
 intro e46 e47 u5
 rw [u5] at e47
 subst_vars; grind
theorem gT_f23 {z1 z2 z3 z4 z5 z6 z7 z8 z9 z10 z16 z17 z18 z19 z20 z21 z22 z23 z24 z25 z26 z27 z28 z33 z92 z192 z193 z195 z197 z199 z201 z203 z205 z207 z208 z209 z210 z211 z212 z213 z214 z215 z216 z217 z218 z219 z220 z222 z224 z226 z228 z230 z231 z232 z234 : Rat} : z7=z3-z1→z8=z4-z2→z9=z5-z1→z10=z6-z2→z16=z5-z3→z17=z6-z4→z18=z16*z16→z19=z17*z17→z20=z18+z19→z21=z1-z5→z22=z2-z6→z23=z21*z21→z24=z22*z22→z25=z23+z24→z26=z7*z7→z27=z8*z8→z28=z26+z27→z33=0→z92=z20+z25→z192=z92+z28→z193=z1*z20→z195=z33+z193→z197=z3*z25→z199=z195+z197→z201=z5*z28→z203=z199+z201→z205=z203/z192→z207=z3-z5→z208=z4-z6→z209=z207*z207→z210=z208*z208→z211=z209+z210→z212=z9*z9→z213=z10*z10→z214=z212+z213→z215=z1-z3→z216=z2-z4→z217=z215*z215→z218=z216*z216→z219=z217+z218→z220=z1*z211→z222=z3*z214→z224=z220+z222→z226=z5*z219→z228=z224+z226→z230=z211+z214→z231=z230+z219→z232=z205*z231→z234=z232-z228→(¬ (z192=0))→z234=0 := by
 intro e7 e8 e9 e10 e16 e17 e18 e19 e20 e21 e22 e23 e24 e25 e26 e27 e28 e33 e92 e192 e193 e195 e197 e199 e201 e203 e205 e207 e208 e209 e210 e211 e212 e213 e214 e215 e216 e217 e218 e219 e220 e222 e224 e226 e228 e230 e231 e232 e234 F0
 have n192 : z192 ≠ 0 := F0
 have w192 : z192 ≠ 0 := n192
 have h205 : z205*z192=z203 := by rw [e205]; exact Rat.div_mul_cancel n192
 obtain ⟨m205,hm205⟩ : ∃ m,m=z203 := ⟨_,rfl⟩
 have d205 : z205*z192=m205 := by
  have q : z205*z192=z205*z192 := by grind
  rw [q,h205,hm205]
 clear h205 e205
 obtain ⟨m232,hm232⟩ : ∃ m,m=m205*z231 := ⟨_,rfl⟩
 have d232 : z232*z192=m232 := by
  have q : z232*z192=(z205*z192)*z231 := by rw [e232]; grind
  rw [q,d205,hm232]
 clear e232
 obtain ⟨m234,hm234⟩ : ∃ m,m=m232*1 - z228*z192 := ⟨_,rfl⟩
 have d234 : z234*z192=m234 := by
  have q : z234*z192=(z232*z192)*1 - z228*z192 := by rw [e234]; grind
  rw [q,d232,hm234]
 clear e234
 have hpoly : m234=0 := by
  clear d205 d232 d234
  have c3 : z3=z7+z1 := by rw [e7]; grind
  clear e7
  subst c3
  have c5 : z5=z9+z1 := by rw [e9]; grind
  clear e9
  subst c5
  have c4 : z4=z8+z2 := by rw [e8]; grind
  clear e8
  subst c4
  have c6 : z6=z10+z2 := by rw [e10]; grind
  clear e10
  subst c6
  subst_vars; grind
 have hgoal : z234=0 := (Rat.mul_eq_zero.1 (d234.trans hpoly)).resolve_right w192
 exact hgoal
theorem gT_f24 {z1 z2 z3 z4 z5 z6 z7 z8 z9 z10 z16 z17 z18 z19 z20 z21 z22 z23 z24 z25 z26 z27 z28 z33 z92 z192 z194 z196 z198 z200 z202 z204 z206 z207 z208 z209 z210 z211 z212 z213 z214 z215 z216 z217 z218 z219 z221 z223 z225 z227 z229 z230 z231 z233 z235 : Rat} : z7=z3-z1→z8=z4-z2→z9=z5-z1→z10=z6-z2→z16=z5-z3→z17=z6-z4→z18=z16*z16→z19=z17*z17→z20=z18+z19→z21=z1-z5→z22=z2-z6→z23=z21*z21→z24=z22*z22→z25=z23+z24→z26=z7*z7→z27=z8*z8→z28=z26+z27→z33=0→z92=z20+z25→z192=z92+z28→z194=z2*z20→z196=z33+z194→z198=z4*z25→z200=z196+z198→z202=z6*z28→z204=z200+z202→z206=z204/z192→z207=z3-z5→z208=z4-z6→z209=z207*z207→z210=z208*z208→z211=z209+z210→z212=z9*z9→z213=z10*z10→z214=z212+z213→z215=z1-z3→z216=z2-z4→z217=z215*z215→z218=z216*z216→z219=z217+z218→z221=z2*z211→z223=z4*z214→z225=z221+z223→z227=z6*z219→z229=z225+z227→z230=z211+z214→z231=z230+z219→z233=z206*z231→z235=z233-z229→(¬ (z192=0))→z235=0 := by
 intro e7 e8 e9 e10 e16 e17 e18 e19 e20 e21 e22 e23 e24 e25 e26 e27 e28 e33 e92 e192 e194 e196 e198 e200 e202 e204 e206 e207 e208 e209 e210 e211 e212 e213 e214 e215 e216 e217 e218 e219 e221 e223 e225 e227 e229 e230 e231 e233 e235 F0
 have n192 : z192 ≠ 0 := F0
 have w192 : z192 ≠ 0 := n192
 have h206 : z206*z192=z204 := by rw [e206]; exact Rat.div_mul_cancel n192
 obtain ⟨m206,hm206⟩ : ∃ m,m=z204 := ⟨_,rfl⟩
 have d206 : z206*z192=m206 := by
  have q : z206*z192=z206*z192 := by grind
  rw [q,h206,hm206]
 clear h206 e206
 obtain ⟨m233,hm233⟩ : ∃ m,m=m206*z231 := ⟨_,rfl⟩
 have d233 : z233*z192=m233 := by
  have q : z233*z192=(z206*z192)*z231 := by rw [e233]; grind
  rw [q,d206,hm233]
 clear e233
 obtain ⟨m235,hm235⟩ : ∃ m,m=m233*1 - z229*z192 := ⟨_,rfl⟩
 have d235 : z235*z192=m235 := by
  have q : z235*z192=(z233*z192)*1 - z229*z192 := by rw [e235]; grind
  rw [q,d233,hm235]
 clear e235
 have hpoly : m235=0 := by
  clear d206 d233 d235
  have c3 : z3=z7+z1 := by rw [e7]; grind
  clear e7
  subst c3
  have c5 : z5=z9+z1 := by rw [e9]; grind
  clear e9
  subst c5
  have c4 : z4=z8+z2 := by rw [e8]; grind
  clear e8
  subst c4
  have c6 : z6=z10+z2 := by rw [e10]; grind
  clear e10
  subst c6
  subst_vars; grind
 have hgoal : z235=0 := (Rat.mul_eq_zero.1 (d235.trans hpoly)).resolve_right w192
 exact hgoal
theorem gT_r0 : (callC (sx Tryz.prog gT_N [(0,13,0,1)] [(44,[])] gT_L gT_C gT_Z (prC [7])) [(15,66),(55,60)] 7 [] 3 gT_A [] 0).map (·.1)=some (kB true) := by kernel_rfl
theorem gT_r1 : (callC (sx Tryz.prog gT_N [(0,13,0,0),(0,15,0,1),(0,30,0,0),(1,15,0,0),(2,47,0,0),(0,81,0,1)] [(44,[]),(127,[]),(129,[]),(130,[]),(136,[])] gT_L gT_C gT_Z (prC [7])) [(15,66),(55,60)] 8 [] 3 gT_A [] 0).map (·.1)=some (kB true) := by kernel_rfl
theorem gT_r2 : (callC (sx Tryz.prog gT_N [(0,13,0,0),(0,15,0,0),(0,82,0,1),(0,96,0,0),(1,15,0,0),(2,47,0,0),(3,115,120,1),(3,120,125,1)] [(44,[]),(127,[]),(129,[]),(136,[])] gT_L gT_C gT_Z (prC [7])) [(15,66),(55,60)] 8 [] 3 gT_A [] 0).map (·.1)=some (kB true) := by kernel_rfl
theorem gT_r3 : (callC (sx Tryz.prog gT_N [(0,13,0,0),(0,15,0,0),(0,82,0,0),(0,126,0,1),(0,137,0,0),(1,15,0,0),(2,47,0,0),(0,156,0,1),(0,161,0,1)] [(44,[]),(127,[]),(129,[]),(136,[])] gT_L gT_C gT_Z (prC [7])) [(15,66),(55,60)] 8 [] 3 gT_A [] 0).map (·.1)=some (kB true) := by kernel_rfl
theorem gT_r4 : (callC (sx Tryz.prog gT_N [(0,13,0,0),(0,15,0,0),(0,82,0,0),(0,126,0,0),(0,163,0,1),(0,168,0,0),(1,15,0,0),(2,47,0,0),(0,191,0,1)] [(44,[]),(127,[]),(129,[]),(132,[.inr (3,32,0,0,0),.inr (3,33,0,0,0)]),(136,[])] gT_L gT_C gT_Z (prC [7])) [(15,66),(55,60)] 8 [] 3 gT_A [] 0).map (·.1)=some (kB true) := by kernel_rfl
theorem gT_r5 : (callC (sx Tryz.prog gT_N [(0,13,0,0),(0,15,0,0),(0,82,0,0),(0,126,0,0),(0,163,0,0),(0,47,0,1),(0,192,0,0),(1,15,0,0),(2,47,0,0),(0,238,0,1)] [(44,[]),(127,[]),(129,[]),(133,[]),(136,[])] gT_L gT_C gT_Z (prC [7])) [(15,66),(55,60)] 8 [] 3 gT_A [] 0).map (·.1)=some (kB true) := by kernel_rfl
theorem gT_r6 : (callC (sx Tryz.prog gT_N [(0,13,0,0),(0,15,0,0),(0,82,0,0),(0,126,0,0),(0,163,0,0),(0,47,0,0),(1,15,0,1)] [(44,[]),(127,[]),(129,[])] gT_L gT_C gT_Z (prC [7])) [(15,66),(55,60)] 7 [] 3 gT_A [] 0).map (·.1)=some (kB true) := by kernel_rfl
theorem gT_r7 : (callC (sx Tryz.prog gT_N [(0,13,0,0),(0,15,0,0),(0,82,0,0),(0,126,0,0),(0,163,0,0),(0,47,0,0),(1,15,0,0),(2,47,0,1)] [(44,[]),(127,[]),(129,[])] gT_L gT_C gT_Z (prC [7])) [(15,66),(55,60)] 7 [] 3 gT_A [] 0).map (·.1)=some (kB true) := by kernel_rfl
theorem gT_An {a b : Prop} (x : a) (y : b) : a∧b := ⟨x,y⟩
theorem gT_leaf {H : List (Nat × Nat × Nat × Nat)} {K : List (FuncId × List AC)} {k : Nat} {q : Nat→Rat} {σ : Nat→ByteArray} {args : List AV} {vs : List Value} {w : World} (hr : (callC (sx Tryz.prog gT_N H K gT_L gT_C gT_Z (prC [7])) [(15,66),(55,60)] k [] 3 args [] 0).map (·.1)=some (kB true)) (hσ : ∀ j,(σ j).size≤1048576) (hq : ∀ (a : Nat) nd,gT_N[a]? = some nd→q a=valN σ q nd) (h0 : ∀ a,gT_N.length≤a→q a=0) (hH : hAll q H) (hp : PreS w) (hA : ∀ K,A2 (avOn (cOn (evS q σ) K (fun _ => none) w)) args vs) : Calls Tryz.prog 3 vs.toArray w fun e w' => Below w.heap.size w w'∧e=.returned (.bool true) :=
 run_toldC' k (hy_ofA hσ gT_wf gT_sz gT_lt gT_cn hq h0 hH) (by simp [closed_cornered]) (by kernel_rfl) hr hp (hA K)
theorem gT_walk {w : World} {tax taz tbx tbz tcx tcz : ByteArray} {k : Int} (sk : (tellS ((k : Int) : Rat)).size≤1048576) (stax : tax.size≤1048576) (staz : taz.size≤1048576) (stbx : tbx.size≤1048576) (stbz : tbz.size≤1048576) (stcx : tcx.size≤1048576) (stcz : tcz.size≤1048576) (tab : Tab w) (mx : MaxL w) :
  Calls Tryz.prog 3 #[.agg #[.string tax,.string taz,.string tbx,.string tbz,.string tcx,.string tcz],.int .i64 k] w fun e w' => Below w.heap.size w w'∧e=.returned (.bool true) := by
 have hσ : ∀ j,(sgOf [tax,taz,tbx,tbz,tcx,tcz,(tellS ((k : Int) : Rat))] j).size≤1048576 := sgOf_size (by simp [stax,staz,stbx,stbz,stcx,stcz,sk])
 obtain ⟨q,hq,h0⟩ := nodes_exist (sgOf [tax,taz,tbx,tbz,tcx,tcz,(tellS ((k : Int) : Rat))]) gT_N gT_wf
 have ik : q 0=((k : Int) : Rat) := (hq 0 _ rfl).trans (rd_tx _)
 have hA : ∀ K,A2 (avOn (cOn (evS q (sgOf [tax,taz,tbx,tbz,tcx,tcz,(tellS ((k : Int) : Rat))])) K (fun _ => none) w)) [(false,[(true,[.inr (2,0,0,0,0),.inr (2,1,0,0,0),.inr (2,2,0,0,0),.inr (2,3,0,0,0),.inr (2,4,0,0,0),.inr (2,5,0,0,0)])]),(false,[(false,[.inr (0,6,0,0,0)])])] [.agg #[.string tax,.string taz,.string tbx,.string tbz,.string tcx,.string tcz],.int .i64 k] := fun K => ⟨⟨⟨[.string tax,.string taz,.string tbx,.string tbz,.string tcx,.string tcz],rfl,rfl,rfl,rfl,rfl,rfl,rfl,trivial⟩,trivial⟩,⟨⟨⟨k,rfl,((hq 0 _ rfl).trans (rd_tx _)).symm⟩,trivial⟩,trivial⟩,trivial⟩
 have E7 : q 7=q 3 - q 1 := hq 7 _ rfl
 have E8 : q 8=q 4 - q 2 := hq 8 _ rfl
 have E9 : q 9=q 5 - q 1 := hq 9 _ rfl
 have E10 : q 10=q 6 - q 2 := hq 10 _ rfl
 have E11 : q 11=q 7*q 10 := hq 11 _ rfl
 have E12 : q 12=q 8*q 9 := hq 12 _ rfl
 have E13 : q 13=q 11 - q 12 := hq 13 _ rfl
 have E14 : q 14=1 := (hq 14 _ rfl).trans gT_c14
 have E15 : q 15=q 0 - q 14 := hq 15 _ rfl
 have E16 : q 16=q 5 - q 3 := hq 16 _ rfl
 have E17 : q 17=q 6 - q 4 := hq 17 _ rfl
 have E18 : q 18=q 16*q 16 := hq 18 _ rfl
 have E19 : q 19=q 17*q 17 := hq 19 _ rfl
 have E20 : q 20=q 18+q 19 := hq 20 _ rfl
 have E21 : q 21=q 1 - q 5 := hq 21 _ rfl
 have E22 : q 22=q 2 - q 6 := hq 22 _ rfl
 have E23 : q 23=q 21*q 21 := hq 23 _ rfl
 have E24 : q 24=q 22*q 22 := hq 24 _ rfl
 have E25 : q 25=q 23+q 24 := hq 25 _ rfl
 have E26 : q 26=q 7*q 7 := hq 26 _ rfl
 have E27 : q 27=q 8*q 8 := hq 27 _ rfl
 have E28 : q 28=q 26+q 27 := hq 28 _ rfl
 have E29 : q 29=q 14+q 14 := hq 29 _ rfl
 have E30 : q 30=q 29+q 14 := hq 30 _ rfl
 have E31 : q 31=q 1*q 14 := hq 31 _ rfl
 have E32 : q 32=q 2*q 14 := hq 32 _ rfl
 have E33 : q 33=0 := (hq 33 _ rfl).trans gT_c33
 have E34 : q 34=q 33+q 31 := hq 34 _ rfl
 have E35 : q 35=q 33+q 32 := hq 35 _ rfl
 have E36 : q 36=q 3*q 14 := hq 36 _ rfl
 have E37 : q 37=q 4*q 14 := hq 37 _ rfl
 have E38 : q 38=q 34+q 36 := hq 38 _ rfl
 have E39 : q 39=q 35+q 37 := hq 39 _ rfl
 have E40 : q 40=q 5*q 14 := hq 40 _ rfl
 have E41 : q 41=q 6*q 14 := hq 41 _ rfl
 have E42 : q 42=q 38+q 40 := hq 42 _ rfl
 have E43 : q 43=q 39+q 41 := hq 43 _ rfl
 have E44 : q 44=q 42 / q 30 := hq 44 _ rfl
 have E45 : q 45=q 43 / q 30 := hq 45 _ rfl
 have E46 : q 46=5 := (hq 46 _ rfl).trans gT_c46
 have E47 : q 47=q 0 - q 46 := hq 47 _ rfl
 have E48 : q 48=q 3*q 3 := hq 48 _ rfl
 have E49 : q 49=q 4*q 4 := hq 49 _ rfl
 have E50 : q 50=q 48+q 49 := hq 50 _ rfl
 have E51 : q 51=q 1*q 1 := hq 51 _ rfl
 have E52 : q 52=q 2*q 2 := hq 52 _ rfl
 have E53 : q 53=q 51+q 52 := hq 53 _ rfl
 have E54 : q 54=q 50 - q 53 := hq 54 _ rfl
 have E55 : q 55=2 := (hq 55 _ rfl).trans gT_c55
 have E56 : q 56=q 54 / q 55 := hq 56 _ rfl
 have E57 : q 57=q 5*q 5 := hq 57 _ rfl
 have E58 : q 58=q 6*q 6 := hq 58 _ rfl
 have E59 : q 59=q 57+q 58 := hq 59 _ rfl
 have E60 : q 60=q 59 - q 53 := hq 60 _ rfl
 have E61 : q 61=q 60 / q 55 := hq 61 _ rfl
 have E62 : q 62=q 56*q 10 := hq 62 _ rfl
 have E63 : q 63=q 61*q 8 := hq 63 _ rfl
 have E64 : q 64=q 62 - q 63 := hq 64 _ rfl
 have E65 : q 65=q 64 / q 13 := hq 65 _ rfl
 have E66 : q 66=q 7*q 61 := hq 66 _ rfl
 have E67 : q 67=q 9*q 56 := hq 67 _ rfl
 have E68 : q 68=q 66 - q 67 := hq 68 _ rfl
 have E69 : q 69=q 68 / q 13 := hq 69 _ rfl
 have E70 : q 70=q 1+q 3 := hq 70 _ rfl
 have E71 : q 71=q 2+q 4 := hq 71 _ rfl
 have E72 : q 72=q 70+q 5 := hq 72 _ rfl
 have E73 : q 73=q 71+q 6 := hq 73 _ rfl
 have E74 : q 74=3 := (hq 74 _ rfl).trans gT_c74
 have E75 : q 75=q 44*q 74 := hq 75 _ rfl
 have E76 : q 76=q 45*q 74 := hq 76 _ rfl
 have E77 : q 77=q 75 - q 72 := hq 77 _ rfl
 have E78 : q 78=q 76 - q 73 := hq 78 _ rfl
 have E82 : q 82=q 0 - q 55 := hq 82 _ rfl
 have E83 : q 83=-q 20 := hq 83 _ rfl
 have E84 : q 84=q 25+q 28 := hq 84 _ rfl
 have E85 : q 85=q 84+q 83 := hq 85 _ rfl
 have E86 : q 86=q 20*q 85 := hq 86 _ rfl
 have E87 : q 87=-q 25 := hq 87 _ rfl
 have E88 : q 88=q 28+q 20 := hq 88 _ rfl
 have E89 : q 89=q 88+q 87 := hq 89 _ rfl
 have E90 : q 90=q 25*q 89 := hq 90 _ rfl
 have E91 : q 91=-q 28 := hq 91 _ rfl
 have E92 : q 92=q 20+q 25 := hq 92 _ rfl
 have E93 : q 93=q 92+q 91 := hq 93 _ rfl
 have E94 : q 94=q 28*q 93 := hq 94 _ rfl
 have E95 : q 95=q 86+q 90 := hq 95 _ rfl
 have E96 : q 96=q 95+q 94 := hq 96 _ rfl
 have E97 : q 97=q 1*q 86 := hq 97 _ rfl
 have E98 : q 98=q 2*q 86 := hq 98 _ rfl
 have E99 : q 99=q 33+q 97 := hq 99 _ rfl
 have E100 : q 100=q 33+q 98 := hq 100 _ rfl
 have E101 : q 101=q 3*q 90 := hq 101 _ rfl
 have E102 : q 102=q 4*q 90 := hq 102 _ rfl
 have E103 : q 103=q 99+q 101 := hq 103 _ rfl
 have E104 : q 104=q 100+q 102 := hq 104 _ rfl
 have E105 : q 105=q 5*q 94 := hq 105 _ rfl
 have E106 : q 106=q 6*q 94 := hq 106 _ rfl
 have E107 : q 107=q 103+q 105 := hq 107 _ rfl
 have E108 : q 108=q 104+q 106 := hq 108 _ rfl
 have E109 : q 109=q 107 / q 96 := hq 109 _ rfl
 have E110 : q 110=q 108 / q 96 := hq 110 _ rfl
 have E111 : q 111=q 109 - q 1 := hq 111 _ rfl
 have E112 : q 112=q 110 - q 2 := hq 112 _ rfl
 have E113 : q 113=q 111*q 111 := hq 113 _ rfl
 have E114 : q 114=q 112*q 112 := hq 114 _ rfl
 have E115 : q 115=q 113+q 114 := hq 115 _ rfl
 have E116 : q 116=q 109 - q 3 := hq 116 _ rfl
 have E117 : q 117=q 110 - q 4 := hq 117 _ rfl
 have E118 : q 118=q 116*q 116 := hq 118 _ rfl
 have E119 : q 119=q 117*q 117 := hq 119 _ rfl
 have E120 : q 120=q 118+q 119 := hq 120 _ rfl
 have E121 : q 121=q 109 - q 5 := hq 121 _ rfl
 have E122 : q 122=q 110 - q 6 := hq 122 _ rfl
 have E123 : q 123=q 121*q 121 := hq 123 _ rfl
 have E124 : q 124=q 122*q 122 := hq 124 _ rfl
 have E125 : q 125=q 123+q 124 := hq 125 _ rfl
 have E126 : q 126=q 0 - q 74 := hq 126 _ rfl
 have E127 : q 127=q 20+q 28 := hq 127 _ rfl
 have E128 : q 128=q 127+q 87 := hq 128 _ rfl
 have E129 : q 129=q 93*q 128 := hq 129 _ rfl
 have E130 : q 130=q 25+q 20 := hq 130 _ rfl
 have E131 : q 131=q 130+q 91 := hq 131 _ rfl
 have E132 : q 132=q 85*q 131 := hq 132 _ rfl
 have E133 : q 133=q 28+q 25 := hq 133 _ rfl
 have E134 : q 134=q 133+q 83 := hq 134 _ rfl
 have E135 : q 135=q 89*q 134 := hq 135 _ rfl
 have E136 : q 136=q 129+q 132 := hq 136 _ rfl
 have E137 : q 137=q 136+q 135 := hq 137 _ rfl
 have E138 : q 138=q 1*q 129 := hq 138 _ rfl
 have E139 : q 139=q 2*q 129 := hq 139 _ rfl
 have E140 : q 140=q 33+q 138 := hq 140 _ rfl
 have E141 : q 141=q 33+q 139 := hq 141 _ rfl
 have E142 : q 142=q 3*q 132 := hq 142 _ rfl
 have E143 : q 143=q 4*q 132 := hq 143 _ rfl
 have E144 : q 144=q 140+q 142 := hq 144 _ rfl
 have E145 : q 145=q 141+q 143 := hq 145 _ rfl
 have E146 : q 146=q 5*q 135 := hq 146 _ rfl
 have E147 : q 147=q 6*q 135 := hq 147 _ rfl
 have E148 : q 148=q 144+q 146 := hq 148 _ rfl
 have E149 : q 149=q 145+q 147 := hq 149 _ rfl
 have E150 : q 150=q 148 / q 137 := hq 150 _ rfl
 have E151 : q 151=q 149 / q 137 := hq 151 _ rfl
 have E152 : q 152=q 150 - q 1 := hq 152 _ rfl
 have E153 : q 153=q 151 - q 2 := hq 153 _ rfl
 have E154 : q 154=q 152*q 16 := hq 154 _ rfl
 have E155 : q 155=q 153*q 17 := hq 155 _ rfl
 have E156 : q 156=q 154+q 155 := hq 156 _ rfl
 have E157 : q 157=q 150 - q 3 := hq 157 _ rfl
 have E158 : q 158=q 151 - q 4 := hq 158 _ rfl
 have E159 : q 159=q 157*q 21 := hq 159 _ rfl
 have E160 : q 160=q 158*q 22 := hq 160 _ rfl
 have E161 : q 161=q 159+q 160 := hq 161 _ rfl
 have E162 : q 162=4 := (hq 162 _ rfl).trans gT_c162
 have E163 : q 163=q 0 - q 162 := hq 163 _ rfl
 have E164 : q 164=q 86+q 129 := hq 164 _ rfl
 have E165 : q 165=q 90+q 132 := hq 165 _ rfl
 have E166 : q 166=q 94+q 135 := hq 166 _ rfl
 have E167 : q 167=q 164+q 165 := hq 167 _ rfl
 have E168 : q 168=q 167+q 166 := hq 168 _ rfl
 have E169 : q 169=q 1*q 164 := hq 169 _ rfl
 have E170 : q 170=q 2*q 164 := hq 170 _ rfl
 have E171 : q 171=q 33+q 169 := hq 171 _ rfl
 have E172 : q 172=q 33+q 170 := hq 172 _ rfl
 have E173 : q 173=q 3*q 165 := hq 173 _ rfl
 have E174 : q 174=q 4*q 165 := hq 174 _ rfl
 have E175 : q 175=q 171+q 173 := hq 175 _ rfl
 have E176 : q 176=q 172+q 174 := hq 176 _ rfl
 have E177 : q 177=q 5*q 166 := hq 177 _ rfl
 have E178 : q 178=q 6*q 166 := hq 178 _ rfl
 have E179 : q 179=q 175+q 177 := hq 179 _ rfl
 have E180 : q 180=q 176+q 178 := hq 180 _ rfl
 have E181 : q 181=q 179 / q 168 := hq 181 _ rfl
 have E182 : q 182=q 180 / q 168 := hq 182 _ rfl
 have E183 : q 183=q 181*q 55 := hq 183 _ rfl
 have E184 : q 184=q 182*q 55 := hq 184 _ rfl
 have E185 : q 185=q 72 - q 65 := hq 185 _ rfl
 have E186 : q 186=q 73 - q 69 := hq 186 _ rfl
 have E187 : q 187=q 183 - q 185 := hq 187 _ rfl
 have E188 : q 188=q 184 - q 186 := hq 188 _ rfl
 have E192 : q 192=q 92+q 28 := hq 192 _ rfl
 have E193 : q 193=q 1*q 20 := hq 193 _ rfl
 have E194 : q 194=q 2*q 20 := hq 194 _ rfl
 have E195 : q 195=q 33+q 193 := hq 195 _ rfl
 have E196 : q 196=q 33+q 194 := hq 196 _ rfl
 have E197 : q 197=q 3*q 25 := hq 197 _ rfl
 have E198 : q 198=q 4*q 25 := hq 198 _ rfl
 have E199 : q 199=q 195+q 197 := hq 199 _ rfl
 have E200 : q 200=q 196+q 198 := hq 200 _ rfl
 have E201 : q 201=q 5*q 28 := hq 201 _ rfl
 have E202 : q 202=q 6*q 28 := hq 202 _ rfl
 have E203 : q 203=q 199+q 201 := hq 203 _ rfl
 have E204 : q 204=q 200+q 202 := hq 204 _ rfl
 have E205 : q 205=q 203 / q 192 := hq 205 _ rfl
 have E206 : q 206=q 204 / q 192 := hq 206 _ rfl
 have E207 : q 207=q 3 - q 5 := hq 207 _ rfl
 have E208 : q 208=q 4 - q 6 := hq 208 _ rfl
 have E209 : q 209=q 207*q 207 := hq 209 _ rfl
 have E210 : q 210=q 208*q 208 := hq 210 _ rfl
 have E211 : q 211=q 209+q 210 := hq 211 _ rfl
 have E212 : q 212=q 9*q 9 := hq 212 _ rfl
 have E213 : q 213=q 10*q 10 := hq 213 _ rfl
 have E214 : q 214=q 212+q 213 := hq 214 _ rfl
 have E215 : q 215=q 1 - q 3 := hq 215 _ rfl
 have E216 : q 216=q 2 - q 4 := hq 216 _ rfl
 have E217 : q 217=q 215*q 215 := hq 217 _ rfl
 have E218 : q 218=q 216*q 216 := hq 218 _ rfl
 have E219 : q 219=q 217+q 218 := hq 219 _ rfl
 have E220 : q 220=q 1*q 211 := hq 220 _ rfl
 have E221 : q 221=q 2*q 211 := hq 221 _ rfl
 have E222 : q 222=q 3*q 214 := hq 222 _ rfl
 have E223 : q 223=q 4*q 214 := hq 223 _ rfl
 have E224 : q 224=q 220+q 222 := hq 224 _ rfl
 have E225 : q 225=q 221+q 223 := hq 225 _ rfl
 have E226 : q 226=q 5*q 219 := hq 226 _ rfl
 have E227 : q 227=q 6*q 219 := hq 227 _ rfl
 have E228 : q 228=q 224+q 226 := hq 228 _ rfl
 have E229 : q 229=q 225+q 227 := hq 229 _ rfl
 have E230 : q 230=q 211+q 214 := hq 230 _ rfl
 have E231 : q 231=q 230+q 219 := hq 231 _ rfl
 have E232 : q 232=q 205*q 231 := hq 232 _ rfl
 have E233 : q 233=q 206*q 231 := hq 233 _ rfl
 have E234 : q 234=q 232 - q 228 := hq 234 _ rfl
 have E235 : q 235=q 233 - q 229 := hq 235 _ rfl
 have Q81 : q 81=0 ↔ (q 77=0∧q 78=0) := (sq_next (sq_first (hq 79 _ rfl)) (hq 80 _ rfl) (hq 81 _ rfl)).2
 have Q191 : q 191=0 ↔ (q 187=0∧q 188=0) := (sq_next (sq_first (hq 189 _ rfl)) (hq 190 _ rfl) (hq 191 _ rfl)).2
 have Q238 : q 238=0 ↔ (q 234=0∧q 235=0) := (sq_next (sq_first (hq 236 _ rfl)) (hq 237 _ rfl) (hq 238 _ rfl)).2
 by_cases b13 : q 13=0
 ·
  exact gT_leaf gT_r0 hσ hq h0 (gT_An (hT b13) trivial) ⟨tab,mx⟩ hA
 ·
  by_cases b15 : q 15=0
  ·
   have b30 : ¬ (q 30=0) := gT_f1 E14 E29 E30
   have a_1_15_0 : ¬ (q 15 < 0) := gT_f2 E14 E15 b15
   have a_2_47_0 : ¬ (0 < q 47) := gT_f3 E14 E15 E46 E47 b15
   have b81 : q 81=0 := Q81.2 ⟨gT_f4 E14 E29 E30 E31 E33 E34 E36 E38 E40 E42 E44 E70 E72 E74 E75 E77,gT_f5 E14 E29 E30 E32 E33 E35 E37 E39 E41 E43 E45 E71 E73 E74 E76 E78⟩
   exact gT_leaf gT_r1 hσ hq h0 (gT_An (hF b13) (gT_An (hT b15) (gT_An (hF b30) (gT_An (hF a_1_15_0) (gT_An (hF a_2_47_0) (gT_An (hT b81) trivial)))))) ⟨tab,mx⟩ hA
  ·
   by_cases b82 : q 82=0
   ·
    have b96 : ¬ (q 96=0) := gT_f6 E7 E8 E9 E10 E11 E12 E13 E16 E17 E18 E19 E20 E21 E22 E23 E24 E25 E26 E27 E28 E83 E84 E85 E86 E87 E88 E89 E90 E91 E92 E93 E94 E95 E96 b13
    have a_1_15_0 : ¬ (q 15 < 0) := gT_f7 E14 E15 E55 E82 b82
    have a_2_47_0 : ¬ (0 < q 47) := gT_f8 E46 E47 E55 E82 b82
    have a_3_115_120 : q 115=q 120 := gT_f9 E7 E8 E9 E10 E11 E12 E13 E16 E17 E18 E19 E20 E21 E22 E23 E24 E25 E26 E27 E28 E33 E83 E84 E85 E86 E87 E88 E89 E90 E91 E92 E93 E94 E95 E96 E97 E98 E99 E100 E101 E102 E103 E104 E105 E106 E107 E108 E109 E110 E111 E112 E113 E114 E115 E116 E117 E118 E119 E120 b13
    have a_3_120_125 : q 120=q 125 := gT_f10 E7 E8 E9 E10 E11 E12 E13 E16 E17 E18 E19 E20 E21 E22 E23 E24 E25 E26 E27 E28 E33 E83 E84 E85 E86 E87 E88 E89 E90 E91 E92 E93 E94 E95 E96 E97 E98 E99 E100 E101 E102 E103 E104 E105 E106 E107 E108 E109 E110 E116 E117 E118 E119 E120 E121 E122 E123 E124 E125 b13
    exact gT_leaf gT_r2 hσ hq h0 (gT_An (hF b13) (gT_An (hF b15) (gT_An (hT b82) (gT_An (hF b96) (gT_An (hF a_1_15_0) (gT_An (hF a_2_47_0) (gT_An (hT a_3_115_120) (gT_An (hT a_3_120_125) trivial)))))))) ⟨tab,mx⟩ hA
   ·
    by_cases b126 : q 126=0
    ·
     have b137 : ¬ (q 137=0) := gT_f11 E7 E8 E9 E10 E11 E12 E13 E16 E17 E18 E19 E20 E21 E22 E23 E24 E25 E26 E27 E28 E83 E84 E85 E87 E88 E89 E91 E92 E93 E127 E128 E129 E130 E131 E132 E133 E134 E135 E136 E137 b13
     have a_1_15_0 : ¬ (q 15 < 0) := gT_f12 E14 E15 E74 E126 b126
     have a_2_47_0 : ¬ (0 < q 47) := gT_f13 E46 E47 E74 E126 b126
     have b156 : q 156=0 := gT_f14 E7 E8 E9 E10 E11 E12 E13 E16 E17 E18 E19 E20 E21 E22 E23 E24 E25 E26 E27 E28 E33 E83 E84 E85 E87 E88 E89 E91 E92 E93 E127 E128 E129 E130 E131 E132 E133 E134 E135 E136 E137 E138 E139 E140 E141 E142 E143 E144 E145 E146 E147 E148 E149 E150 E151 E152 E153 E154 E155 E156 b13
     have b161 : q 161=0 := gT_f15 E7 E8 E9 E10 E11 E12 E13 E16 E17 E18 E19 E20 E21 E22 E23 E24 E25 E26 E27 E28 E33 E83 E84 E85 E87 E88 E89 E91 E92 E93 E127 E128 E129 E130 E131 E132 E133 E134 E135 E136 E137 E138 E139 E140 E141 E142 E143 E144 E145 E146 E147 E148 E149 E150 E151 E157 E158 E159 E160 E161 b13
     exact gT_leaf gT_r3 hσ hq h0 (gT_An (hF b13) (gT_An (hF b15) (gT_An (hF b82) (gT_An (hT b126) (gT_An (hF b137) (gT_An (hF a_1_15_0) (gT_An (hF a_2_47_0) (gT_An (hT b156) (gT_An (hT b161) trivial))))))))) ⟨tab,mx⟩ hA
    ·
     by_cases b163 : q 163=0
     ·
      have b168 : ¬ (q 168=0) := gT_f16 E7 E8 E9 E10 E11 E12 E13 E16 E17 E18 E19 E20 E21 E22 E23 E24 E25 E26 E27 E28 E83 E84 E85 E86 E87 E88 E89 E90 E91 E92 E93 E94 E127 E128 E129 E130 E131 E132 E133 E134 E135 E164 E165 E166 E167 E168 b13
      have a_1_15_0 : ¬ (q 15 < 0) := gT_f17 E14 E15 E162 E163 b163
      have a_2_47_0 : ¬ (0 < q 47) := gT_f18 E46 E47 E162 E163 b163
      have b191 : q 191=0 := Q191.2 ⟨gT_f19 E7 E8 E9 E10 E11 E12 E13 E16 E17 E18 E19 E20 E21 E22 E23 E24 E25 E26 E27 E28 E33 E48 E49 E50 E51 E52 E53 E54 E55 E56 E57 E58 E59 E60 E61 E62 E63 E64 E65 E70 E72 E83 E84 E85 E86 E87 E88 E89 E90 E91 E92 E93 E94 E127 E128 E129 E130 E131 E132 E133 E134 E135 E164 E165 E166 E167 E168 E169 E171 E173 E175 E177 E179 E181 E183 E185 E187 b13,gT_f20 E7 E8 E9 E10 E11 E12 E13 E16 E17 E18 E19 E20 E21 E22 E23 E24 E25 E26 E27 E28 E33 E48 E49 E50 E51 E52 E53 E54 E55 E56 E57 E58 E59 E60 E61 E66 E67 E68 E69 E71 E73 E83 E84 E85 E86 E87 E88 E89 E90 E91 E92 E93 E94 E127 E128 E129 E130 E131 E132 E133 E134 E135 E164 E165 E166 E167 E168 E170 E172 E174 E176 E178 E180 E182 E184 E186 E188 b13⟩
      exact gT_leaf gT_r4 hσ hq h0 (gT_An (hF b13) (gT_An (hF b15) (gT_An (hF b82) (gT_An (hF b126) (gT_An (hT b163) (gT_An (hF b168) (gT_An (hF a_1_15_0) (gT_An (hF a_2_47_0) (gT_An (hT b191) trivial))))))))) ⟨tab,mx⟩ hA
     ·
      by_cases b47 : q 47=0
      ·
       have gP192 := gT_P192 hq b13
       have b192 : ¬ (q 192=0) := gP192
       have a_1_15_0 : ¬ (q 15 < 0) := gT_f21 E14 E15 E46 E47 b47
       have a_2_47_0 : ¬ (0 < q 47) := gT_f22 E46 E47 b47
       have b238 : q 238=0 := Q238.2 ⟨gT_f23 E7 E8 E9 E10 E16 E17 E18 E19 E20 E21 E22 E23 E24 E25 E26 E27 E28 E33 E92 E192 E193 E195 E197 E199 E201 E203 E205 E207 E208 E209 E210 E211 E212 E213 E214 E215 E216 E217 E218 E219 E220 E222 E224 E226 E228 E230 E231 E232 E234 (b192),gT_f24 E7 E8 E9 E10 E16 E17 E18 E19 E20 E21 E22 E23 E24 E25 E26 E27 E28 E33 E92 E192 E194 E196 E198 E200 E202 E204 E206 E207 E208 E209 E210 E211 E212 E213 E214 E215 E216 E217 E218 E219 E221 E223 E225 E227 E229 E230 E231 E233 E235 (b192)⟩
       exact gT_leaf gT_r5 hσ hq h0 (gT_An (hF b13) (gT_An (hF b15) (gT_An (hF b82) (gT_An (hF b126) (gT_An (hF b163) (gT_An (hT b47) (gT_An (hF b192) (gT_An (hF a_1_15_0) (gT_An (hF a_2_47_0) (gT_An (hT b238) trivial)))))))))) ⟨tab,mx⟩ hA
      ·
       by_cases a_1_15_0 : q 15 < 0
       ·
        exact gT_leaf gT_r6 hσ hq h0 (gT_An (hF b13) (gT_An (hF b15) (gT_An (hF b82) (gT_An (hF b126) (gT_An (hF b163) (gT_An (hF b47) (gT_An (hT a_1_15_0) trivial))))))) ⟨tab,mx⟩ hA
       ·
        have gI := gt_int ik ((show q 15=q 0 - q 14 from hq 15 _ rfl).trans (by rw [show q 14=1 from (hq 14 _ rfl).trans gT_c14])) ((show q 82=q 0 - q 55 from hq 82 _ rfl).trans (by rw [show q 55=2 from (hq 55 _ rfl).trans gT_c55])) ((show q 126=q 0 - q 74 from hq 126 _ rfl).trans (by rw [show q 74=3 from (hq 74 _ rfl).trans gT_c74])) ((show q 163=q 0 - q 162 from hq 163 _ rfl).trans (by rw [show q 162=4 from (hq 162 _ rfl).trans gT_c162])) ((show q 47=q 0 - q 46 from hq 47 _ rfl).trans (by rw [show q 46=5 from (hq 46 _ rfl).trans gT_c46])) b15 b82 b126 b163 b47 a_1_15_0
        have a_2_47_0 : 0 < q 47 := gI
        exact gT_leaf gT_r7 hσ hq h0 (gT_An (hF b13) (gT_An (hF b15) (gT_An (hF b82) (gT_An (hF b126) (gT_An (hF b163) (gT_An (hF b47) (gT_An (hF a_1_15_0) (gT_An (hT a_2_47_0) trivial)))))))) ⟨tab,mx⟩ hA
end Go.Proofs.YtibifijaanjekaaGreatDoor
