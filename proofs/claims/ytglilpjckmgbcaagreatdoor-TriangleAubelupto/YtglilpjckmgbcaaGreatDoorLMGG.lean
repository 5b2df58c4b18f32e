/- Part 13 of the walks and of the mathematics under them: VP VPC VY VSZ VSA CFcornered MGG. -/
import Derived.Test.YtglilpjckmgbcaaGreatDoorA2
import Derived.Test.YtglilpjckmgbcaaGreatDoorA12
set_option maxHeartbeats 16000000
set_option maxRecDepth 100000
/- VP -/
namespace Cx
open Go Go.RowKit
abbrev Hs := List (Nat × Nat × Nat × Nat)
def Sx.plus (S : Sx) (X : Hs) : Sx := { S with H := X ++ S.H }
abbrev Ask := Nat × Nat × Nat × Nat
def askZ (a : Nat) : Ask := (0,a,0,a)
def askOk (S : Sx) : Ask→Bool
 | (k,a,b,d) => (Nat.beq k 0 && (Nat.beq b 0 && Nat.beq d a)) || (Nat.beq k 3 && (match S.N[d]? with
  | some (op,ar) => Nat.beq op 3 && beqL ar [a,b]
  | none => false))
def acrossB (S : Sx) (a b : Nat) : List Nat→List Nat→Option (List Ask)
 | c :: l,d :: m => (S.nd 4 [a,d]).bind fun x => (S.nd 4 [c,b]).bind fun y => (S.nd 3 [x,y]).bind fun z => (acrossB S a b l m).map fun r => (3,x,y,z) :: r
 | _,_ => some []
def alikeB (S : Sx) : List Nat→List Nat→List Nat→List Nat→Option (List Ask)
 | pl,pm,a :: l,b :: m => (acrossB S a b pl pm).bind fun r => (alikeB S (pl ++ [a]) (pm ++ [b]) l m).map fun t => r ++ t
 | _,_,_,_ => some []
def sameA (S : Sx) : List Nat→List Nat→Option (List Ask)
 | a :: l,b :: m => (S.nd 3 [a,b]).bind fun d => (sameA S l m).map fun r => (3,a,b,d) :: r
 | _,_ => some []
def asks (S : Sx) (h : List HB) (code : Nat) (args : List AV) : Option (List Ask) :=
 match code with
 | 60 => arg1 (fun x => (asA x).bind fun cs => (qRow S cs).map fun l => l.map askZ) args
 | 61 => arg1 (fun x => (rowB h 1 x).bind fun p => (mapO (acX 0) p.2).map fun l => l.map askZ) args
 | 62 => arg2 (fun x y => (rowB h 1 x).bind fun p => (mapO (acX 0) p.2).bind fun l => (rowB h 1 y).bind fun p' => (mapO (acX 0) p'.2).bind fun m => alikeB S [] [] l m) args
 | 63 => arg1 (fun x => (asA x).bind fun cs => (mapO acTold cs).bind fun l => (plainOf S l).map fun xs => xs.map askZ) args
 | 67 => arg1 (fun x => (asA x).bind fun cs => (mapO (txNode S) (cs.take 3)).map fun l => l.map askZ) args
 | 65 => arg1 (fun x => (asA x).bind fun cs => (mapO (acX 0) cs).map fun l => l.map askZ) args
 | 66 => arg2 (fun x y => (asA x).bind fun cs => (asA y).bind fun ds => (mapO (acX 0) cs).bind fun l => (mapO (acX 0) ds).bind fun m => sameA S l m) args
 | 64 => arg1 (fun x => (asA x).bind fun cs => (qRow S cs).map fun l => (l.take 5).map askZ) args
 | _ => none
def splits : List Ask→Hs→List Hs
 | [],_ => []
 | (k,a,b,_) :: l,X => ((k,a,b,0) :: X) :: splits l ((k,a,b,1) :: X)
def allZ : List Ask→Hs→Hs
 | [],X => X
 | (k,a,b,_) :: l,X => allZ l ((k,a,b,1) :: X)
def bodyC (S : Sx) (call : CallF) : CallF := fun f args h nx => S.P.funcs[f]?.bind fun fn => fn.body.bind fun c => ifO (Nat.ble args.length fn.ntmps) ((runB S call fn.ntmps c { tm := numb1 0 args,h := h,nx := nx }).bind fun r =>
   ifO (Nat.ble r.1 1) ((mapO (resB S.P r.2) fn.results.toList).map fun xs => (tupB xs,r.2.h,r.2.nx)))
abbrev CRes := Option (AV × List HB × Nat)
def agree (h : List HB) (b : Bool) (hi : Nat) : CRes→Bool
 | some (v,h',nx') => (match asB v with
  | some c => b == c
  | none => false) && (Nat.ble nx' hi && h.all fun x => h'.any fun y => Nat.beq y.1 x.1 && acsW x.2 y.2)
 | none => false
def topN : Nat→List CRes→Nat
 | m,[] => m
 | m,some p :: rs => topN (bif Nat.ble m p.2.2 then p.2.2 else m) rs
 | m,none :: rs => topN m rs
def joinC (h : List HB) (nx : Nat) (rs : List CRes) : CRes :=
 match rs with
 | some p :: _ => (asB p.1).bind fun b => ifO (rs.all (agree h b (topN nx rs))) (some (kB b,h,topN nx rs))
 | _ => none
def askIt (S : Sx) (X : Hs) (h : List HB) (c : Nat) (args : List AV) : Option (List Ask × Nat) :=
 (asks (S.plus X) h c args).bind fun l => ifO (l.all (askOk S)) ((sqN S (l.map (·.2.2.2))).bind fun s => ((S.plus X).kn 0 s 0).map fun r => (l,r))
theorem askIt_some {S : Sx} {X : Hs} {h : List HB} {c : Nat} {args : List AV} {l : List Ask} {r : Nat} (e : askIt S X h c args=some (l,r)) : (∀ a ∈ l,askOk S a=true)∧∃ s,sqN S (l.map (·.2.2.2))=some s∧(S.plus X).kn 0 s 0=some r := by
 unfold askIt at e
 simp only [Option.bind_eq_some_iff,ifO_some,Option.map_eq_some_iff,List.all_eq_true,Prod.mk.injEq] at e
 obtain ⟨l',_,h1,s,h2,r',h3,rfl,rfl⟩ := e
 exact ⟨h1,s,h2,h3⟩
def callC (S : Sx) (cs : List (FuncId × Nat)) : Nat→Hs→CallF
 | 0,_,_,_,_,_ => none
 | n+1,X,f,args,h,nx => match prGet f cs with
  | none => bodyC (S.plus X) (callC S cs n X) f args h nx
  | some c => match askIt S X h c args with
   | none => bodyC (S.plus X) (callC S cs n X) f args h nx
   | some (l,r) => bif Nat.beq 1 r then bodyC (S.plus (allZ l X)) (callC S cs n (allZ l X)) f args h nx
    else joinC h nx ((splits l X).map fun X' => bodyC (S.plus X') (callC S cs n X') f args h nx)
section
variable {S : Sx} {E : Ev S.nb} {w0 : World}
theorem bodyC_ok {call : CallF} (hm : S.P.follows .mixedOrders=true) (N : Knows S E) (hP : PrimOk S E w0) (hC : CallOk S E w0 call) : CallOk S E w0 (bodyC S call) := fun f args h nx p hp γ w vs hi hA hb hlt hf => by
 unfold bodyC at hp
 simp only [Option.bind_eq_some_iff,ifO_some,Option.map_eq_some_iff,Nat.ble_eq] at hp
 obtain ⟨fn,h1,c,h2,h3,⟨e,s'⟩,h4,h5,xs,h6,rfl⟩ := hp
 dsimp only at h5 h6
 rcases (show e=0 ∨ e=1 by omega) with rfl | rfl
 all_goals
  obtain ⟨_,_,r⟩ := runB_ok hm N hP hC c _ _ _ h4
  refine calls_of_wp h1 h2 (r γ _ w _ ⟨hi,fun t v q => ?_,hb,hlt,?_,rfl⟩ hf fun a' w' γ' hef hs => ?_)
  ·obtain ⟨_,q2⟩ := numb1_get q
   rw [Nat.sub_zero] at q2
   obtain ⟨u,hu,hv⟩ := hA.get q2
   have hlt : t < vs.length := (List.getElem?_eq_some_iff.1 hu).1
   have : (vs.toArray ++ Array.replicate (fn.ntmps - vs.toArray.size) undef).getD t undef=u := by
    rw [Array.getD_eq_getD_getElem?,Array.getElem?_append_left (by simpa using hlt)]
    simp [hu]
   show avOn _ v ((vs.toArray ++ Array.replicate (fn.ntmps - vs.toArray.size) undef).getD t undef)
   rw [this]
   exact hv
  ·have := hA.len
   simp
   omega
  ·obtain ⟨v,hv,hx⟩ := results_run hs h6
   exact ⟨hs.df,v,hv,v,γ',rfl,hef,hx,hs.bx⟩
theorem asB_kB {v : AV} {b : Bool} (h : asB v=some b) : v=kB b := by
 unfold asB at h
 rw [Option.bind_eq_some_iff] at h
 obtain ⟨c,h1,h2⟩ := h
 unfold asC at h1
 split at h1
 ·cases h1
  unfold acB at h2
  split at h2
  ·cases h2
   rfl
  ·cases h2
 ·cases h1
theorem agree_some {h : List HB} {b : Bool} {hi : Nat} {r : CRes} (hr : agree h b hi r=true) : ∃ h' nx',r=some (kB b,h',nx')∧nx'≤hi∧∀ x ∈ h,x ∈ h' := by
 unfold agree at hr
 split at hr
 ·rename_i v h' nx'
  rw [Bool.and_eq_true,Bool.and_eq_true,Nat.ble_eq,List.all_eq_true] at hr
  obtain ⟨h1,h2,h3⟩ := hr
  refine ⟨h',nx',?_,h2,fun x hx => ?_⟩
  ·split at h1
   ·rename_i c hc
    rw [asB_kB hc,show c=b from (by simpa using h1 : b=c).symm]
   ·cases h1
  ·have := h3 x hx
   rw [List.any_eq_true] at this
   obtain ⟨y,hy,e⟩ := this
   rw [Bool.and_eq_true,Nat.beq_eq] at e
   have : x=y := Prod.ext e.1.symm (acsW_eq e.2)
   rw [this]
   exact hy
 ·cases hr
variable {T : Hs→Prop} {z : Nat→Prop}
def AskTrue (S : Sx) (T : Hs→Prop) (z : Nat→Prop) : Prop := ∀ X,T X→∀ a,askOk S a=true→(z a.2.2.2→T ((a.1,a.2.1,a.2.2.1,1) :: X))∧(¬ z a.2.2.2→T ((a.1,a.2.1,a.2.2.1,0) :: X))
theorem allZ_true (hk : AskTrue S T z) : ∀ {l : List Ask} {X : Hs},T X→(∀ a ∈ l,askOk S a=true)→(∀ a ∈ l,z a.2.2.2)→T (allZ l X)
 | [],_,h,_,_ => h
 | (k,a,b,d) :: l,X,h,ho,hz => allZ_true (l := l) hk ((hk X h (k,a,b,d) (ho _ List.mem_cons_self)).1 (hz _ List.mem_cons_self)) (fun a ha => ho a (List.mem_cons_of_mem _ ha)) (fun a ha => hz a (List.mem_cons_of_mem _ ha))
theorem splits_true (hk : AskTrue S T z) : ∀ {l : List Ask} {X : Hs},T X→(∀ a ∈ l,askOk S a=true)→(∃ a ∈ l,¬ z a.2.2.2)→∃ X' ∈ splits l X,T X'
 | [],_,_,_,⟨_,h,_⟩ => by cases h
 | (k,a,b,d) :: l,X,h,ho,hz => by
  by_cases e : z d
  ·obtain ⟨X',h1,h2⟩ := splits_true (l := l) hk ((hk X h (k,a,b,d) (ho _ List.mem_cons_self)).1 e) (fun a ha => ho a (List.mem_cons_of_mem _ ha)) (by
    obtain ⟨c,hc,hn⟩ := hz
    rcases List.mem_cons.1 hc with rfl | hc
    ·exact (hn e).elim
    ·exact ⟨c,hc,hn⟩)
   exact ⟨X',List.mem_cons_of_mem _ h1,h2⟩
  ·exact ⟨_,List.mem_cons_self,(hk X h (k,a,b,d) (ho _ List.mem_cons_self)).2 e⟩
theorem callC_ok {cs : List (FuncId × Nat)} (hm : S.P.follows .mixedOrders=true) (hN : ∀ X,T X→Knows (S.plus X) E) (hP : ∀ X,T X→PrimOk (S.plus X) E w0) (hk : AskTrue S T z)
  (hs : ∀ X,T X→∀ l s r,sqN S l=some s→(S.plus X).kn 0 s 0=some r→(Nat.beq 1 r=true→∀ d ∈ l,z d)∧(Nat.beq 1 r=false→∃ d ∈ l,¬ z d)) : ∀ n X,T X→CallOk S E w0 (callC S cs n X)
 | 0,_,_ => fun _ _ _ _ _ h => by cases h
 | n+1,X,hX => fun f args h nx p hp => by
  have body : ∀ Y,T Y→CallOk S E w0 (bodyC (S.plus Y) (callC S cs n Y)) := fun Y hY => bodyC_ok (S := S.plus Y) hm (hN Y hY) (hP Y hY) (callC_ok hm hN hP hk hs n Y hY)
  unfold callC at hp
  split at hp
  ·exact body X hX f args h nx p hp
  ·split at hp
   ·exact body X hX f args h nx p hp
   rename_i l r hk'
   obtain ⟨hl,s,h1,h2⟩ := askIt_some hk'
   have h3 := hp
   obtain ⟨a1,a0⟩ := hs X hX _ s r h1 h2
   cases e : Nat.beq 1 r with
   | true =>
    rw [e] at h3
    exact body _ (allZ_true hk hX hl fun a ha => a1 e _ (List.mem_map_of_mem ha)) f args h nx p h3
   | false =>
    rw [e] at h3
    obtain ⟨d,hd,hz⟩ := a0 e
    obtain ⟨a,ha,rfl⟩ := List.mem_map.1 hd
    obtain ⟨X',m1,m2⟩ := splits_true hk hX hl ⟨a,ha,hz⟩
    replace h3 : joinC h nx ((splits l X).map fun X' => bodyC (S.plus X') (callC S cs n X') f args h nx)=some p := h3
    unfold joinC at h3
    split at h3
    ·rename_i p0 rs hrs
     rw [Option.bind_eq_some_iff] at h3
     obtain ⟨b,hb,h4⟩ := h3
     rw [ifO_some,List.all_eq_true] at h4
     obtain ⟨h5,h6⟩ := h4
     cases h6
     obtain ⟨h',nx',q1,q2,q3⟩ := agree_some (h5 _ (List.mem_map_of_mem m1))
     intro γ w vs hi hA hb hlt hf
     refine (body X' m2 f args h nx _ q1 γ w vs hi hA hb hlt fun b g1 g2 => hf b g1 (Nat.lt_of_lt_of_le g2 q2)).mono ?_
     rintro _ w' ⟨r',γ',rfl,hef,hv,hx⟩
     exact ⟨r',γ',rfl,hef.wide (Nat.le_refl _) q2,hv,fun x hh => hx x (q3 x hh)⟩
    ·cases h3
end
end Cx
/- VPC -/
namespace Go.Proofs.YtglilpjckmgbcaaGreatDoor
open Cx Go Go.RowKit
section
variable {N : List Nd} {H : List (Nat × Nat × Nat × Nat)} {K : List (FuncId × List AC)} {L C : List (List Nat × Nat)} {Z : List Nat} {q : Nat→Rat} {σ : Nat→ByteArray} {w0 : World} {cl : List FuncId} {cs pr : List (FuncId × Nat)}
theorem kn_cons {k a b k' a' b' r' : Nat} {r : Nat} (h : knFrom k a b ((k',a',b',r') :: H)=some r) : (k=k'∧a=a'∧b=b'∧r=r') ∨ knFrom k a b H=some r := by
 unfold knFrom at h
 cases e : (Nat.beq k k' && (Nat.beq a a' && Nat.beq b b')) with
 | true =>
  rw [e] at h
  simp only [Bool.and_eq_true,Nat.beq_eq] at e
  exact Or.inl ⟨e.1,e.2.1,e.2.2,(Option.some.inj h).symm⟩
 | false =>
  rw [e] at h
  exact Or.inr h
theorem Hy.add0 (Y : Hy N H L C Z q σ) {a r : Nat} (h : Nat.beq 1 r=true ↔ q a=0) : Hy N ((0,a,0,r) :: H) L C Z q σ where
 nat := Y.nat
 qs := Y.qs
 zs := Y.zs
 par := Y.par
 lit := Y.lit
 k0 := fun a' r' g => by
  rcases kn_cons g with ⟨_,e1,_,e2⟩ | g
  ·rw [e1,e2]
   exact h
  ·exact Y.k0 a' r' g
 k1 := fun a' r' g => by
  rcases kn_cons g with ⟨e,_⟩ | g
  ·cases e
  ·exact Y.k1 a' r' g
 k2 := fun a' r' g => by
  rcases kn_cons g with ⟨e,_⟩ | g
  ·cases e
  ·exact Y.k2 a' r' g
 k4 := fun l a' b' r' g1 g => by
  rcases kn_cons g with ⟨e,_⟩ | g
  ·cases e
  ·exact Y.k4 l a' b' r' g1 g
 k3 := fun a' b' r' g => by
  rcases kn_cons g with ⟨e,_⟩ | g
  ·cases e
  ·exact Y.k3 a' b' r' g
 k6 := fun a' b' r' g => by
  rcases kn_cons g with ⟨e,_⟩ | g
  ·cases e
  ·exact Y.k6 a' b' r' g
 k5 := fun a' r' g => by
  rcases kn_cons g with ⟨e,_⟩ | g
  ·cases e
  ·exact Y.k5 a' r' g
theorem Hy.add3 (Y : Hy N H L C Z q σ) {a b r : Nat} (h : Nat.beq 1 r=true ↔ q a=q b) : Hy N ((3,a,b,r) :: H) L C Z q σ where
 nat := Y.nat
 qs := Y.qs
 zs := Y.zs
 par := Y.par
 lit := Y.lit
 k0 := fun a' r' g => by
  rcases kn_cons g with ⟨e,_⟩ | g
  ·cases e
  ·exact Y.k0 a' r' g
 k1 := fun a' r' g => by
  rcases kn_cons g with ⟨e,_⟩ | g
  ·cases e
  ·exact Y.k1 a' r' g
 k2 := fun a' r' g => by
  rcases kn_cons g with ⟨e,_⟩ | g
  ·cases e
  ·exact Y.k2 a' r' g
 k4 := fun l a' b' r' g1 g => by
  rcases kn_cons g with ⟨e,_⟩ | g
  ·cases e
  ·exact Y.k4 l a' b' r' g1 g
 k3 := fun a' b' r' g => by
  rcases kn_cons g with ⟨_,e1,e2,e3⟩ | g
  ·rw [e1,e2,e3]
   exact h
  ·exact Y.k3 a' b' r' g
 k6 := fun a' b' r' g => by
  rcases kn_cons g with ⟨e,_⟩ | g
  ·cases e
  ·exact Y.k6 a' b' r' g
 k5 := fun a' r' g => by
  rcases kn_cons g with ⟨e,_⟩ | g
  ·cases e
  ·exact Y.k5 a' r' g
theorem ask_true : AskTrue (sx Tryz.prog N H K L C Z pr) (fun X => Hy N (X ++ H) L C Z q σ) (fun d => q d=0) := fun X Y a ha => by
 obtain ⟨k,a,b,d⟩ := a
 have t1 : Nat.beq 1 1=true := rfl
 have t0 : Nat.beq 1 0 ≠ true := fun h => by cases h
 unfold askOk at ha
 rw [Bool.or_eq_true] at ha
 rcases ha with ha | ha
 ·simp only [Bool.and_eq_true,Nat.beq_eq] at ha
  obtain ⟨rfl,rfl,rfl⟩ := ha
  exact ⟨fun h => Hy.add0 Y ⟨fun _ => h,fun _ => t1⟩,fun h => Hy.add0 Y ⟨fun g => (t0 g).elim,fun g => (h g).elim⟩⟩
 ·rw [Bool.and_eq_true,Nat.beq_eq] at ha
  obtain ⟨rfl,hb⟩ := ha
  split at hb
  ·rename_i op ar hn
   rw [Bool.and_eq_true,Nat.beq_eq] at hb
   obtain ⟨rfl,hb⟩ := hb
   have e := beqL_eq hb
   subst e
   have hv : q d=q a - q b := Y.nat d _ hn
   have h2 : q d=0 ↔ q a=q b := by
    rw [hv]
    constructor <;> intro h <;> grind
   exact ⟨fun h => Hy.add3 Y ⟨fun _ => h2.1 h,fun _ => t1⟩,fun h => Hy.add3 Y ⟨fun g => (t0 g).elim,fun g => (h (h2.2 g)).elim⟩⟩
  ·cases hb
theorem sq_nn (y : Rat) : 0≤y*y := by
 by_cases h : y=0
 ·rw [h,Rat.zero_mul]
  exact Rat.le_refl
 ·exact Rat.le_of_lt (sq1_pos h)
theorem sq_sum {x y : Rat} (hx : 0≤x) : x+y*y=0 ↔ x=0∧y=0 := by
 constructor
 ·intro h
  have h2 := sq_nn y
  have h3 : x=0 := by grind
  refine ⟨h3,?_⟩
  have : y*y=0 := by grind
  rcases Rat.mul_eq_zero.1 this with g | g <;> exact g
 ·rintro ⟨rfl,rfl⟩
  grind
theorem sqF_val {H' : List (Nat × Nat × Nat × Nat)} (Y : Hy N H' L C Z q σ) : ∀ {l : List Nat} {s t : Nat},sqF (sx Tryz.prog N H K L C Z pr) s l=some t→0≤q s→0≤q t∧(q t=0 ↔ q s=0∧∀ d ∈ l,q d=0)
 | [],s,t,h,hs => by
  cases h
  exact ⟨hs,fun e => ⟨e,fun d hd => by cases hd⟩,fun e => e.1⟩
 | a :: l,s,t,h,hs => by
  unfold sqF at h
  simp only [Option.bind_eq_some_iff] at h
  obtain ⟨b,h1,c,h2,h3⟩ := h
  have e1 : q b=q a*q a := Hy.nd (H := H') (K := K) (pr := pr) Y h1
  have e2 : q c=q s+q b := Hy.nd (H := H') (K := K) (pr := pr) Y h2
  have n := sq_nn (q a)
  obtain ⟨g1,g2⟩ := sqF_val Y h3 (by grind)
  refine ⟨g1,g2.trans ?_⟩
  have e3 := sq_sum (y := q a) hs
  rw [e2,e1,e3]
  constructor
  ·rintro ⟨⟨x,y⟩,z⟩
   refine ⟨x,fun d hd => ?_⟩
   rcases List.mem_cons.1 hd with rfl | hd
   ·exact y
   ·exact z d hd
  ·rintro ⟨x,y⟩
   exact ⟨⟨x,y a List.mem_cons_self⟩,fun d hd => y d (List.mem_cons_of_mem _ hd)⟩
theorem sqN_val {H' : List (Nat × Nat × Nat × Nat)} (Y : Hy N H' L C Z q σ) {l : List Nat} {s : Nat} (h : sqN (sx Tryz.prog N H K L C Z pr) l=some s) : q s=0 ↔ ∀ d ∈ l,q d=0 := by
 unfold sqN at h
 split at h
 ·cases h
 ·rename_i a l
  rw [Option.bind_eq_some_iff] at h
  obtain ⟨b,h1,h2⟩ := h
  have e1 : q b=q a*q a := Hy.nd (H := H') (K := K) (pr := pr) Y h1
  have n := sq_nn (q a)
  obtain ⟨_,g⟩ := sqF_val Y h2 (by grind)
  rw [g,e1]
  constructor
  ·rintro ⟨x,y⟩ d hd
   rcases List.mem_cons.1 hd with rfl | hd
   ·rcases Rat.mul_eq_zero.1 x with x | x <;> exact x
   ·exact y d hd
  ·intro y
   refine ⟨?_,fun d hd => y d (List.mem_cons_of_mem _ hd)⟩
   rw [y a List.mem_cons_self,Rat.zero_mul]
theorem run_cases {f : FuncId} {args : List AV} {vs : List Value} {k : Nat} {p : List HB × Nat} {b : Bool} (Y : Hy N H L C Z q σ) (hm : (Tryz.prog).follows .mixedOrders=true) {w : World} (hP : ∀ H',Hy N H' L C Z q σ→PrimOk (sx Tryz.prog N H' K L C Z pr) (evS q σ) w) (hr : callC (sx Tryz.prog N H K L C Z pr) cs k [] f args [] 0=some (kB b,p))
  (hA : A2 (avOn (cOn (evS q σ) K (fun _ => none) w)) args vs) : Calls Tryz.prog f vs.toArray w fun e w' => Below w.heap.size w w'∧e=.returned (.bool b) := by
 refine (callC_ok (S := sx Tryz.prog N H K L C Z pr) (E := evS q σ) (w0 := w) (T := fun X => Hy N (X ++ H) L C Z q σ) (z := fun d => q d=0) hm (fun X hX => knows hX) (fun X hX => hP _ hX) ask_true ?_ k [] Y f args [] 0 (kB b,p) hr (fun _ => none) w vs ⟨Below.refl _ _,(fun _ _ h => by cases h)⟩ hA (fun x hx => by cases hx) (fun x hx => by cases hx) (fun _ _ _ => rfl)).mono ?_
 ·intro X hX l s r h1 h2
  have e := hX.k0 s r h2
  have g := sqN_val hX h1
  refine ⟨fun h => g.1 (e.1 h),fun h => ?_⟩
  have hn : ¬ ∀ d ∈ l,q d=0 := fun q' => by
   rw [e.2 (g.2 q')] at h
   cases h
  simpa using hn
 ·rintro _ w' ⟨r,γ',rfl,hef,hv,_⟩
  exact ⟨hef.wi.bel,by rw [show r=.bool b from (asC_on (v := kB b) (c := .inl (.bool b)) rfl hv).1]⟩
theorem run_toldC {f : FuncId} {args : List AV} {vs : List Value} {k : Nat} {p : List HB × Nat} {b : Bool} (Y : Hy N H L C Z q σ) (hc : ∀ f ∈ cl,Closed f) (hm : (Tryz.prog).follows .mixedOrders=true) (hr : callC (sx Tryz.prog N H K L C Z (prC cl)) cs k [] f args [] 0=some (kB b,p)) {w : World} (hp : PreS w)
  (hA : A2 (avOn (cOn (evS q σ) K (fun _ => none) w)) args vs) : Calls Tryz.prog f vs.toArray w fun e w' => Below w.heap.size w w'∧e=.returned (.bool b) := run_cases Y hm (fun _ Y' => primOk Y' hp hc) hr hA
theorem run_toldC' {f : FuncId} {args : List AV} {vs : List Value} (k : Nat) (Y : Hy N H L C Z q σ) (hc : ∀ f ∈ cl,Closed f) (hm : (Tryz.prog).follows .mixedOrders=true) (hr : (callC (sx Tryz.prog N H K L C Z (prC cl)) cs k [] f args [] 0).map (·.1)=some (kB true)) {w : World} (hp : PreS w)
  (hA : A2 (avOn (cOn (evS q σ) K (fun _ => none) w)) args vs) : Calls Tryz.prog f vs.toArray w fun e w' => Below w.heap.size w w'∧e=.returned (.bool true) := by
 rw [Option.map_eq_some_iff] at hr
 obtain ⟨⟨v,p⟩,h1,h2⟩ := hr
 dsimp only at h2
 subst h2
 exact run_toldC Y hc hm h1 hp hA
end
end Go.Proofs.YtglilpjckmgbcaaGreatDoor
/- VY -/
namespace Go.Proofs.YtglilpjckmgbcaaGreatDoor
open Go.RowKit Cx
theorem den_num (t : Rat) : t*(t.den : Rat)=((t.num : Int) : Rat) := by
 conv => lhs; lhs; rw [← Rat.mkRat_self t]
 have h0 : (t.den : Rat) ≠ 0 := fun h => t.den_nz (by exact_mod_cast h)
 rw [Rat.mkRat_eq_div,Rat.div_mul_cancel h0]
theorem whole {q : Rat} (h : q.den=1) : q=((q.num : Int) : Rat) := by
 have := den_num q
 rw [h] at this
 rw [← this]
 show q=q*((1 : Nat) : Rat)
 exact (Rat.mul_one q).symm
end Go.Proofs.YtglilpjckmgbcaaGreatDoor
/- VSZ -/
namespace Go.Proofs.YtglilpjckmgbcaaGreatDoor
open Go.RowKit Cx
structure QW (z : Nat) (x : Rat) : Prop where
 qs : QS z x
 wh : x.den=1
theorem QW.of {z : Nat} {n : Int} (h : n.natAbs < 2 ^ z) (hz : 0 < z) : QW z ((n : Int) : Rat) :=
 ⟨⟨by simpa using h,by
  show ((n : Int) : Rat).den < 2 ^ z
  rw [Rat.den_intCast]
  exact Nat.one_lt_two_pow (by omega)⟩,Rat.den_intCast n⟩
theorem QW.mono {k l : Nat} {x : Rat} (h : QW k x) (hk : k≤l) : QW l x := ⟨h.qs.mono hk,h.wh⟩
theorem two_max {a b x y : Nat} (h1 : a < 2 ^ x) (h2 : b < 2 ^ y) : a+b < 2 ^ (Nat.max x y+1) := by
 have e1 : 2 ^ x≤2 ^ Nat.max x y := Nat.pow_le_pow_right (by decide) (Nat.le_max_left x y)
 have e2 : 2 ^ y≤2 ^ Nat.max x y := Nat.pow_le_pow_right (by decide) (Nat.le_max_right x y)
 rw [Nat.pow_succ]
 omega
theorem QW.add {x y : Nat} {a b : Rat} (h1 : QW x a) (h2 : QW y b) : QW (Nat.max x y+1) (a+b) := by
 rw [whole h1.wh,whole h2.wh,← Rat.intCast_add]
 refine QW.of ?_ (by omega)
 have := two_max h1.qs.num h2.qs.num
 omega
theorem QW.sub {x y : Nat} {a b : Rat} (h1 : QW x a) (h2 : QW y b) : QW (Nat.max x y+1) (a - b) := by
 rw [whole h1.wh,whole h2.wh,← Rat.intCast_sub]
 refine QW.of ?_ (by omega)
 have := two_max h1.qs.num h2.qs.num
 omega
theorem QW.mul {x y : Nat} {a b : Rat} (h1 : QW x a) (h2 : QW y b) : QW (x+y) (a*b) := by
 refine ⟨h1.qs.mul h2.qs,?_⟩
 rw [whole h1.wh,whole h2.wh,← Rat.intCast_mul]
 exact Rat.den_intCast _
theorem QW.neg {x : Nat} {a : Rat} (h1 : QW x a) : QW x (-a) := ⟨h1.qs.neg,h1.wh⟩
theorem ten_three : ∀ n : Nat,10 ^ n≤2 ^ ((10*n+2) / 3)
 | 0 => by decide
 | 1 => by decide
 | 2 => by decide
 | n+3 => by
  have h := ten_three n
  have e : (10*(n+3)+2) / 3=(10*n+2) / 3+10 := by omega
  rw [e,Nat.pow_add,Nat.pow_add]
  exact Nat.mul_le_mul h (by decide)
theorem QS.rd3 (l : List UInt8) : QS ((10*l.length+2) / 3+5) (Cx.rd l) := by
 have key : ∀ {m : List UInt8},digs m=true→dv m < 2 ^ ((10*m.length+2) / 3) := fun {m} h => Nat.lt_of_lt_of_le (dv_lt (digs_all h)) (ten_three _)
 unfold Cx.rd
 split
 ·rename_i h
  rw [Bool.and_eq_true] at h
  have h1 := key h.1
  have h2 := key h.2
  have h3 := up_len (tailOf l)
  have h4 := low_len (tailOf l)
  have h5 := tail_len l
  apply QS.mkr
  ·rw [sg_abs]; exact Nat.lt_of_lt_of_le h1 (Nat.pow_le_pow_right (by decide) (by omega))
  ·exact Nat.lt_of_lt_of_le h2 (Nat.pow_le_pow_right (by decide) (by omega))
 ·exact QS.zero.mono (by omega)
section
variable {N : List Nd} {Z : List Nat} {I : List Bool} {q : Nat→Rat}
end
end Go.Proofs.YtglilpjckmgbcaaGreatDoor
/- VSA -/
namespace Go.Proofs.YtglilpjckmgbcaaGreatDoor
open Go.RowKit Cx
def inB : Nat := 3495259
abbrev Atm := Nat × Nat
def remA (x : Atm) : List Atm→Option (List Atm)
 | [] => none
 | y :: l => bif Nat.beq x.1 y.1 && Nat.beq x.2 y.2 then some l else (remA x l).map (y :: ·)
def subA : List Atm→List Atm→Option (List Atm)
 | l,[] => some l
 | l,x :: r => (remA x l).bind fun l' => subA l' r
def leftA : List Atm→List Atm→List Atm
 | _,[] => []
 | U,x :: D => match remA x U with
  | some U' => leftA U' D
  | none => x :: leftA U D
def uniA (E : List (Nat × List Atm)) : List Nat→List Atm→List Atm
 | [],U => U
 | a :: l,U => uniA E l (match E[a]? with
  | some p => U ++ leftA U p.2
  | none => U)
def bitA (E : List (Nat × List Atm)) (x : Atm) : Nat := match x.1 with
 | 0 => inB
 | 1 => (match E[x.2]? with
  | some p => p.1
  | none => 1)
 | _ => Nat.log2 x.2+1
def bitL (E : List (Nat × List Atm)) : List Atm→Nat
 | [] => 1
 | x :: l => bitA E x+bitL E l
def noneA (l : Option (List Atm)) : Bool := match l with
 | some [] => true
 | _ => false
def saN (E : List (Nat × List Atm)) (k z : Nat) (D : List Atm) (nd : Nd) : Bool := (Nat.blt 0 z && D.all fun x => !Nat.beq x.1 1 || Nat.blt x.2 k) && match nd.1,nd.2 with
 | 0,[_,n,d] => (Nat.blt n (2 ^ z) && Nat.blt 0 d) && noneA (subA D (bif Nat.beq d 1 then [] else [(2,d)]))
 | 1,[j] => Nat.ble inB z && noneA (subA D [(0,j)])
 | 2,[a,b] => (match E[a]?,E[b]? with
  | some p,some r => (match subA D p.2,subA D r.2 with
   | some c,some e => Nat.ble (Nat.max (p.1+bitL E c) (r.1+bitL E e)+1) z
   | _,_ => false)
  | _,_ => false)
 | 3,[a,b] => (match E[a]?,E[b]? with
  | some p,some r => (match subA D p.2,subA D r.2 with
   | some c,some e => Nat.ble (Nat.max (p.1+bitL E c) (r.1+bitL E e)+1) z
   | _,_ => false)
  | _,_ => false)
 | 4,[a,b] => (match E[a]?,E[b]? with
  | some p,some r => (match subA D p.2 with
   | some c => noneA (subA c r.2) && Nat.ble (p.1+r.1) z
   | _ => false)
  | _,_ => false)
 | 5,[a] => (match E[a]? with
  | some p => noneA (subA D p.2) && Nat.ble p.1 z
  | _ => false)
 | 6,[a,b] => (match E[a]?,E[b]?,remA (1,b) D with
  | some p,some r,some D' => (match subA p.2 D' with
   | some c => (match subA r.2 c with
    | some e => Nat.ble (p.1+bitL E e) z
    | none => false)
   | none => false)
  | _,_,_ => false)
 | 7,_ => Nat.beq D.length 0
 | 8,i :: xs => Nat.beq D.length 0 && (xs.all (fun a => match E[a]? with
   | some p => (subA (uniA E xs []) p.2).isSome
   | none => false) && (match xs[i]? with
   | some a => (match E[a]? with
    | some p => (match subA (uniA E xs []) p.2 with
     | some e => Nat.ble (p.1+bitL E e) z
     | none => false)
    | none => false)
   | none => false))
 | _,_ => false
def saB (E : List (Nat × List Atm)) : Nat→List Nd→List (Nat × List Atm)→List Nat→Bool
 | _,[],[],[] => true
 | k,nd :: ns,p :: ps,z :: zs => (saN E k p.1 p.2 nd && (Nat.ble p.1 z && (Nat.ble (bitL E p.2) z && Nat.ble z 1000000000000))) && saB E (k+1) ns ps zs
 | _,_,_,_ => false
theorem saB_get {E : List (Nat × List Atm)} : ∀ {ns : List Nd} {ps : List (Nat × List Atm)} {zs : List Nat} {k i : Nat} {nd : Nd},saB E k ns ps zs=true→ns[i]? = some nd→∃ p z,ps[i]? = some p∧zs[i]? = some z∧saN E (k+i) p.1 p.2 nd=true∧p.1≤z∧bitL E p.2≤z∧z≤1000000000000
 | [],_,_,_,_,_,_,h => by simp at h
 | _ :: _,[],_,_,_,_,h,_ => by cases h
 | _ :: _,_ :: _,[],_,_,_,h,_ => by cases h
 | nd' :: ns,p :: ps,z :: zs,k,0,nd,h,e => by
  have : nd'=nd := by simpa using e
  subst this
  unfold saB at h
  simp only [Bool.and_eq_true,Nat.ble_eq] at h
  exact ⟨p,z,rfl,rfl,h.1.1,h.1.2.1,h.1.2.2.1,h.1.2.2.2⟩
 | nd' :: ns,p :: ps,z :: zs,k,i+1,nd,h,e => by
  unfold saB at h
  rw [Bool.and_eq_true] at h
  obtain ⟨p',z',g1,g2,g3,g4⟩ := saB_get (k := k+1) (i := i) h.2 (by simpa using e)
  exact ⟨p',z',by simpa using g1,by simpa using g2,by rw [show k+(i+1)=k+1+i by omega]; exact g3,g4⟩
theorem saB_len {E : List (Nat × List Atm)} : ∀ {ns : List Nd} {ps : List (Nat × List Atm)} {zs : List Nat} {k : Nat},saB E k ns ps zs=true→ns.length=ps.length∧ns.length=zs.length
 | [],[],[],_,_ => ⟨rfl,rfl⟩
 | [],[],_ :: _,_,h => by cases h
 | [],_ :: _,_,_,h => by cases h
 | _ :: _,[],_,_,h => by cases h
 | _ :: _,_ :: _,[],_,h => by cases h
 | _ :: _,_ :: _,_ :: _,k,h => by
  unfold saB at h
  rw [Bool.and_eq_true] at h
  have := saB_len h.2
  exact ⟨congrArg (· + 1) this.1,congrArg (· + 1) this.2⟩
def valA (dn : Nat→Nat) (M : Nat→Rat) (x : Atm) : Rat := match x.1 with
 | 0 => ((dn x.2 : Nat) : Rat)
 | 1 => if M x.2=0 then 1 else M x.2
 | _ => if x.2=0 then 1 else ((x.2 : Nat) : Rat)
def proA (dn : Nat→Nat) (M : Nat→Rat) : List Atm→Rat
 | [] => 1
 | x :: l => valA dn M x*proA dn M l
theorem remA_pro {dn : Nat→Nat} {M : Nat→Rat} {x : Atm} : ∀ {l c : List Atm},remA x l=some c→proA dn M l=valA dn M x*proA dn M c
 | [],_,h => by cases h
 | y :: l,c,h => by
  unfold remA at h
  cases e : (Nat.beq x.1 y.1 && Nat.beq x.2 y.2) with
  | true =>
   rw [e] at h
   cases h
   rw [Bool.and_eq_true,Nat.beq_eq,Nat.beq_eq] at e
   have : x=y := Prod.ext e.1 e.2
   rw [this]
   rfl
  | false =>
   rw [e] at h
   simp only [cond_false,Option.map_eq_some_iff] at h
   obtain ⟨c',h1,rfl⟩ := h
   show valA dn M y*proA dn M l=valA dn M x*(valA dn M y*proA dn M c')
   rw [remA_pro h1]
   grind
theorem subA_pro {dn : Nat→Nat} {M : Nat→Rat} : ∀ {r l c : List Atm},subA l r=some c→proA dn M l=proA dn M r*proA dn M c
 | [],l,c,h => by
  have : l=c := by simpa [subA] using h
  rw [this]
  exact (Rat.one_mul _).symm
 | x :: r,l,c,h => by
  unfold subA at h
  rw [Option.bind_eq_some_iff] at h
  obtain ⟨l',h1,h2⟩ := h
  rw [remA_pro h1,subA_pro h2]
  exact (Rat.mul_assoc _ _ _).symm
theorem noneA_some {l : Option (List Atm)} (h : noneA l=true) : l=some [] := by
 unfold noneA at h
 split at h
 ·rfl
 ·cases h
theorem QW.one {z : Nat} (h : 0 < z) : QW z 1 := ⟨⟨by
  show (1 : Int).natAbs < 2 ^ z
  exact Nat.one_lt_two_pow (by omega),by
  show 1 < 2 ^ z
  exact Nat.one_lt_two_pow (by omega)⟩,rfl⟩
theorem QW.zero {z : Nat} (h : 0 < z) : QW z 0 := ⟨⟨by
  show (0 : Int).natAbs < 2 ^ z
  exact Nat.two_pow_pos z,by
  show 1 < 2 ^ z
  exact Nat.one_lt_two_pow (by omega)⟩,rfl⟩
theorem QW.nat {z n : Nat} (h : n < 2 ^ z) (hz : 0 < z) : QW z ((n : Nat) : Rat) := by
 have : ((n : Nat) : Rat)=(((n : Nat) : Int) : Rat) := (Rat.intCast_natCast n).symm
 rw [this]
 exact QW.of (by simpa using h) hz
section
variable {E : List (Nat × List Atm)} {dn : Nat→Nat} {M : Nat→Rat} {k : Nat}
def BelA (E : List (Nat × List Atm)) (dn : Nat→Nat) (M : Nat→Rat) (q : Nat→Rat) (k : Nat) : Prop := ∀ a,a < k→∃ p,E[a]? = some p∧QW p.1 (M a)∧0 < p.1∧(∀ x ∈ p.2,x.1=1→x.2 < a)∧q a*proA dn M p.2=M a
theorem valA_ok {q : Nat→Rat} (hdn : ∀ j,0 < dn j∧dn j < 2 ^ inB) (hM : BelA E dn M q k) {x : Atm} (hx : x.1=1→x.2 < k) : QW (bitA E x) (valA dn M x)∧valA dn M x ≠ 0 := by
 obtain ⟨i,j⟩ := x
 match i with
 | 0 =>
  show QW inB ((dn j : Nat) : Rat)∧((dn j : Nat) : Rat) ≠ 0
  refine ⟨QW.nat (hdn j).2 (by unfold inB; omega),fun h => ?_⟩
  have := (hdn j).1
  have h2 : dn j=0 := by exact_mod_cast h
  omega
 | 1 =>
  obtain ⟨p,h1,h2,h3,_⟩ := hM j (hx rfl)
  show QW (match E[j]? with
   | some p => p.1
   | none => 1) (if M j=0 then 1 else M j)∧(if M j=0 then 1 else M j) ≠ 0
  rw [h1]
  by_cases h : M j=0
  ·rw [if_pos h]
   exact ⟨QW.one h3,by decide⟩
  ·rw [if_neg h]
   exact ⟨h2,h⟩
 | i+2 =>
  show QW (Nat.log2 j+1) (if j=0 then 1 else ((j : Nat) : Rat))∧(if j=0 then 1 else ((j : Nat) : Rat)) ≠ 0
  by_cases h : j=0
  ·rw [if_pos h]
   exact ⟨QW.one (by omega),by decide⟩
  ·rw [if_neg h]
   refine ⟨QW.nat Nat.lt_log2_self (by omega),fun h2 => h ?_⟩
   exact_mod_cast h2
theorem proA_ok {q : Nat→Rat} (hdn : ∀ j,0 < dn j∧dn j < 2 ^ inB) (hM : BelA E dn M q k) : ∀ {l : List Atm},(∀ x ∈ l,x.1=1→x.2 < k)→QW (bitL E l) (proA dn M l)∧proA dn M l ≠ 0
 | [],_ => ⟨QW.one (show 0 < 1 by decide),by show (1 : Rat) ≠ 0; decide⟩
 | x :: l,h => by
  have h1 := valA_ok hdn hM (h x List.mem_cons_self)
  have h2 := proA_ok hdn hM (l := l) fun y hy => h y (List.mem_cons_of_mem _ hy)
  exact ⟨h1.1.mul h2.1,mul_ne h1.2 h2.2⟩
theorem proA_congr {M' : Nat→Rat} : ∀ {l : List Atm},(∀ x ∈ l,x.1=1→M x.2=M' x.2)→proA dn M l=proA dn M' l
 | [],_ => rfl
 | x :: l,h => by
  show valA dn M x*proA dn M l=valA dn M' x*proA dn M' l
  rw [proA_congr (l := l) fun y hy => h y (List.mem_cons_of_mem _ hy)]
  have e : valA dn M x=valA dn M' x := by
   obtain ⟨i,j⟩ := x
   match i with
   | 0 => rfl
   | 1 =>
    have := h (1,j) List.mem_cons_self rfl
    show (if M j=0 then 1 else M j)=(if M' j=0 then 1 else M' j)
    rw [this]
   | i+2 => rfl
  rw [e]
theorem remA_mem {x y : Atm} : ∀ {l c : List Atm},remA x l=some c→y ∈ c→y ∈ l
 | [],_,h,_ => by cases h
 | z :: l,c,h,hy => by
  unfold remA at h
  cases e : (Nat.beq x.1 z.1 && Nat.beq x.2 z.2) with
  | true => rw [e] at h; cases h; exact List.mem_cons_of_mem _ hy
  | false =>
   rw [e] at h
   simp only [cond_false,Option.map_eq_some_iff] at h
   obtain ⟨c',h1,rfl⟩ := h
   rcases List.mem_cons.1 hy with rfl | hy
   ·exact List.mem_cons_self
   ·exact List.mem_cons_of_mem _ (remA_mem h1 hy)
theorem subA_mem {y : Atm} : ∀ {r l c : List Atm},subA l r=some c→y ∈ c→y ∈ l
 | [],l,c,h,hy => by
  have : l=c := by simpa [subA] using h
  rw [this]; exact hy
 | x :: r,l,c,h,hy => by
  unfold subA at h
  rw [Option.bind_eq_some_iff] at h
  obtain ⟨l',h1,h2⟩ := h
  exact remA_mem h1 (subA_mem h2 hy)
theorem nat_ne {n : Nat} (h : n ≠ 0) : ((n : Nat) : Rat) ≠ 0 := fun e => h (by exact_mod_cast e)
theorem mul_low (x : Rat) : x*((x.den : Nat) : Rat)=((x.num : Int) : Rat) := by
 have e : x=((x.num : Int) : Rat) / ((x.den : Nat) : Rat) := by
  have := Rat.mkRat_self x
  rw [Rat.mkRat_eq_div] at this
  exact this.symm
 conv => lhs; lhs; rw [e]
 exact Rat.div_mul_cancel (nat_ne x.den_nz)
theorem lD_dvd_of {qs : List Rat} {m M : Nat} (hm : m ∣ M) (h : ∀ q ∈ qs,q.den ∣ M) : qs.foldl (fun m q => m*(q.den / Nat.gcd m q.den)) m ∣ M := by
 induction qs generalizing m with
 | nil => exact hm
 | cons q qs ih =>
  rw [List.foldl_cons]
  refine ih ?_ fun p hp => h p (List.mem_cons_of_mem _ hp)
  have e : m*(q.den / Nat.gcd m q.den)=Nat.lcm m q.den := by
   unfold Nat.lcm
   exact (Nat.mul_div_assoc _ (Nat.gcd_dvd_right _ _)).symm
  rw [e]
  exact Nat.lcm_dvd hm (h q List.mem_cons_self)
theorem den_dvd {x : Rat} {m : Int} (h : (x*((m : Int) : Rat)).den=1) : x.den ∣ m.natAbs := by
 have e := whole h
 generalize (x*((m : Int) : Rat)).num=n at e
 have h1 : x*((x.den : Nat) : Rat)=((x.num : Int) : Rat) := mul_low x
 have h2 : ((x.num : Int) : Rat)*((m : Int) : Rat)=((n : Int) : Rat)*(((x.den : Nat) : Int) : Rat) := by
  rw [← h1,← e,Rat.intCast_natCast]
  grind
 have h3 : x.num*m=n*(x.den : Int) := by exact_mod_cast h2
 have h4 : (x.den : Int) ∣ x.num*m := ⟨n,by rw [h3,Int.mul_comm]⟩
 have h5 : x.den ∣ x.num.natAbs*m.natAbs := by
  have := Int.natAbs_dvd_natAbs.2 h4
  rwa [Int.natAbs_mul,Int.natAbs_natCast] at this
 exact (Nat.Coprime.symm x.reduced).dvd_of_dvd_mul_left h5
theorem fac_whole {qs : List Rat} {x : Rat} {z : Nat} {m : Int} (hx : x ∈ qs) (hm : m ≠ 0) (hall : ∀ y ∈ qs,(y*((m : Int) : Rat)).den=1) (hz : QW z (x*((m : Int) : Rat))) : QW z (x*fac qs) := by
 have hl : lD qs ∣ m.natAbs := lD_dvd_of (Nat.one_dvd _) fun y hy => den_dvd (hall y hy)
 have hd := fac_den hx
 have hpos : 0 < m.natAbs := Int.natAbs_pos.2 hm
 have hle : lD qs≤m.natAbs := Nat.le_of_dvd hpos hl
 have hn : (x*fac qs).num.natAbs≤(x*((m : Int) : Rat)).num.natAbs := by
  rw [fac_abs hx]
  have e := whole hz.wh
  generalize (x*((m : Int) : Rat)).num=n at e
  have h1 : x*((x.den : Nat) : Rat)=((x.num : Int) : Rat) := mul_low x
  have h2 : ((x.num : Int) : Rat)*((m : Int) : Rat)=((n : Int) : Rat)*(((x.den : Nat) : Int) : Rat) := by
   rw [← h1,← e,Rat.intCast_natCast]
   grind
  have h3 : x.num*m=n*(x.den : Int) := by exact_mod_cast h2
  have h4 : x.num.natAbs*m.natAbs=n.natAbs*x.den := by
   have := congrArg Int.natAbs h3
   rwa [Int.natAbs_mul,Int.natAbs_mul,Int.natAbs_natCast] at this
  obtain ⟨c,hc⟩ := den_dvd (x := x) (m := m) (hall x hx)
  have h5 : n.natAbs=x.num.natAbs*c := by
   rw [hc] at h4
   refine Nat.eq_of_mul_eq_mul_right x.den_pos ?_
   rw [← h4]
   rw [Nat.mul_assoc,Nat.mul_comm c]
  show x.num.natAbs / gN qs*(lD qs / x.den)≤n.natAbs
  rw [h5]
  refine Nat.mul_le_mul (Nat.div_le_self _ _) ?_
  have : lD qs / x.den≤m.natAbs / x.den := Nat.div_le_div_right hle
  rw [hc,Nat.mul_div_cancel_left _ x.den_pos] at this
  exact this
 refine ⟨⟨Nat.lt_of_le_of_lt hn hz.qs.num,?_⟩,hd⟩
 rw [hd]
 have := hz.qs.den
 rw [hz.wh] at this
 exact this
theorem leftA_mem {y : Atm} : ∀ {D U : List Atm},y ∈ leftA U D→y ∈ D
 | [],_,h => by cases h
 | x :: D,U,h => by
  unfold leftA at h
  split at h
  ·exact List.mem_cons_of_mem _ (leftA_mem h)
  ·rcases List.mem_cons.1 h with rfl | h
   ·exact List.mem_cons_self
   ·exact List.mem_cons_of_mem _ (leftA_mem h)
theorem uniA_low {q : Nat→Rat} (hM : BelA E dn M q k) : ∀ {l : List Nat} {U : List Atm},(∀ c ∈ l,c < k)→(∀ x ∈ U,x.1=1→x.2 < k)→∀ x ∈ uniA E l U,x.1=1→x.2 < k
 | [],_,_,hU => hU
 | a :: l,U,hl,hU => by
  unfold uniA
  refine uniA_low hM (fun c hc => hl c (List.mem_cons_of_mem _ hc)) ?_
  have ha := hl a List.mem_cons_self
  obtain ⟨p,h1,_,_,h4,_⟩ := hM a ha
  rw [h1]
  intro x hx h
  rcases List.mem_append.1 hx with hx | hx
  ·exact hU x hx h
  ·exact Nat.lt_trans (h4 x (leftA_mem hx) h) ha
theorem node_ok {q : Nat→Rat} {σ : Nat→ByteArray} (hσ : ∀ j,(σ j).size≤1048576) (hdn : ∀ j,dn j=(Cx.rd (σ j).data.toList).den) (hM : BelA E dn M q k) {z : Nat} {D : List Atm} {nd : Nd} (hwf : wfN k nd=true) (hs : saN E k z D nd=true) : QW z (valN σ q nd*proA dn M D)∧0 < z∧∀ x ∈ D,x.1=1→x.2 < k := by
 have hdn' : ∀ j,0 < dn j∧dn j < 2 ^ inB := fun j => by
  rw [hdn j]
  refine ⟨Rat.den_pos _,Nat.lt_of_lt_of_le (QS.rd3 _).den (Nat.pow_le_pow_right (by decide) ?_)⟩
  have := hσ j
  rw [str_len]
  unfold inB
  omega
 obtain ⟨op,xs⟩ := nd
 unfold saN at hs
 rw [Bool.and_eq_true,Bool.and_eq_true] at hs
 obtain ⟨⟨hz0,hD⟩,hs⟩ := hs
 have hz : 0 < z := by simpa [Nat.blt_eq] using hz0
 have hD' : ∀ x ∈ D,x.1=1→x.2 < k := fun x hx h1 => by
  rw [List.all_eq_true] at hD
  have := hD x hx
  rw [h1] at this
  simpa [Nat.blt_eq] using this
 refine ⟨?_,hz,hD'⟩
 have hlow : ∀ {a : Nat} {p : Nat × List Atm},a < k→E[a]? = some p→QW p.1 (M a)∧(∀ x ∈ p.2,x.1=1→x.2 < k)∧q a*proA dn M p.2=M a := fun {a p} ha hp => by
  obtain ⟨p',h1,h2,_,h4,h5⟩ := hM a ha
  rw [hp] at h1
  cases h1
  exact ⟨h2,fun x hx h => Nat.lt_trans (h4 x hx h) ha,h5⟩
 have hpr : ∀ {l : List Atm},(∀ x ∈ l,x.1=1→x.2 < k)→QW (bitL E l) (proA dn M l)∧proA dn M l ≠ 0 := fun h => proA_ok hdn' hM h
 unfold wfN at hwf
 unfold valN
 dsimp only at hs hwf ⊢
 split at hs
 ·rename_i s n d
  simp only [Bool.and_eq_true] at hs
  obtain ⟨⟨h1,h2⟩,h3⟩ := hs
  have h1' : n < 2 ^ z := by simpa [Nat.blt_eq] using h1
  have h2' : d ≠ 0 := by
   have : 0 < d := by simpa [Nat.blt_eq] using h2
   omega
  have hp : proA dn M D=((d : Nat) : Rat) := by
   have := subA_pro (dn := dn) (M := M) (noneA_some h3)
   rw [this]
   cases e : Nat.beq d 1 with
   | true =>
    rw [Nat.beq_eq] at e
    rw [e]
    show (1 : Rat)*1=((1 : Nat) : Rat)
    rw [Rat.mul_one]
    exact_mod_cast rfl
   | false =>
    show (if d=0 then (1 : Rat) else ((d : Nat) : Rat))*1*1=_
    rw [if_neg h2',Rat.mul_one,Rat.mul_one]
  show QW z ((if s=0 then mkRat (n : Int) d else mkRat (-(n : Int)) d)*proA dn M D)
  rw [hp]
  have key : ∀ m : Int,m.natAbs < 2 ^ z→QW z (mkRat m d*((d : Nat) : Rat)) := fun m hm => by
   rw [Rat.mkRat_eq_div,Rat.div_mul_cancel (nat_ne h2')]
   exact QW.of hm hz
  by_cases hs0 : s=0
  ·rw [if_pos hs0]
   exact key _ (by simpa using h1')
  ·rw [if_neg hs0]
   exact key _ (by simpa using h1')
 ·rename_i j
  simp only [Bool.and_eq_true,Nat.ble_eq] at hs
  have hp : proA dn M D=(((Cx.rd (σ j).data.toList).den : Nat) : Rat) := by
   rw [subA_pro (dn := dn) (M := M) (noneA_some hs.2)]
   show ((dn j : Nat) : Rat)*1*1=_
   rw [Rat.mul_one,Rat.mul_one,hdn j]
  show QW z (Cx.rd (σ j).data.toList*proA dn M D)
  rw [hp,mul_low]
  refine QW.of (Nat.lt_of_lt_of_le (QS.rd3 _).num (Nat.pow_le_pow_right (by decide) ?_)) hz
  have := hσ j
  have := hs.1
  unfold inB at this
  rw [str_len]
  omega
 ·simp only [List.all_cons,List.all_nil,Bool.and_true,Bool.and_eq_true] at hwf
  rename_i a b
  have l1 : a < k := by simpa [Nat.blt_eq] using hwf.1
  have l2 : b < k := by simpa [Nat.blt_eq] using hwf.2
  split at hs
  ·rename_i p r hp hr
   split at hs
   ·rename_i c e hc he
    rw [Nat.ble_eq] at hs
    obtain ⟨a1,a2,a3⟩ := hlow l1 hp
    obtain ⟨b1,b2,b3⟩ := hlow l2 hr
    have hc' := hpr (l := c) fun x hx => hD' x (subA_mem hc hx)
    have he' := hpr (l := e) fun x hx => hD' x (subA_mem he hx)
    have e1 : (q a+q b)*proA dn M D=M a*proA dn M c+M b*proA dn M e := by
     rw [Rat.add_mul]
     congr 1
     ·rw [subA_pro hc,← Rat.mul_assoc,a3]
     ·rw [subA_pro he,← Rat.mul_assoc,b3]
    show QW z ((q a+q b)*proA dn M D)
    rw [e1]
    exact ((a1.mul hc'.1).add (b1.mul he'.1)).mono hs
   ·cases hs
  ·cases hs
 ·simp only [List.all_cons,List.all_nil,Bool.and_true,Bool.and_eq_true] at hwf
  rename_i a b
  have l1 : a < k := by simpa [Nat.blt_eq] using hwf.1
  have l2 : b < k := by simpa [Nat.blt_eq] using hwf.2
  split at hs
  ·rename_i p r hp hr
   split at hs
   ·rename_i c e hc he
    rw [Nat.ble_eq] at hs
    obtain ⟨a1,a2,a3⟩ := hlow l1 hp
    obtain ⟨b1,b2,b3⟩ := hlow l2 hr
    have hc' := hpr (l := c) fun x hx => hD' x (subA_mem hc hx)
    have he' := hpr (l := e) fun x hx => hD' x (subA_mem he hx)
    have e1 : (q a - q b)*proA dn M D=M a*proA dn M c - M b*proA dn M e := by
     rw [show (q a - q b)*proA dn M D=q a*proA dn M D - q b*proA dn M D by grind]
     congr 1
     ·rw [subA_pro hc,← Rat.mul_assoc,a3]
     ·rw [subA_pro he,← Rat.mul_assoc,b3]
    show QW z ((q a - q b)*proA dn M D)
    rw [e1]
    exact ((a1.mul hc'.1).sub (b1.mul he'.1)).mono hs
   ·cases hs
  ·cases hs
 ·simp only [List.all_cons,List.all_nil,Bool.and_true,Bool.and_eq_true] at hwf
  rename_i a b
  have l1 : a < k := by simpa [Nat.blt_eq] using hwf.1
  have l2 : b < k := by simpa [Nat.blt_eq] using hwf.2
  split at hs
  ·rename_i p r hp hr
   split at hs
   ·rename_i c hc
    rw [Bool.and_eq_true,Nat.ble_eq] at hs
    obtain ⟨a1,a2,a3⟩ := hlow l1 hp
    obtain ⟨b1,b2,b3⟩ := hlow l2 hr
    have e1 : q a*q b*proA dn M D=M a*M b := by
     rw [subA_pro hc,subA_pro (noneA_some hs.1),← a3,← b3]
     show q a*q b*(proA dn M p.2*(proA dn M r.2*1))=_
     grind
    show QW z (q a*q b*proA dn M D)
    rw [e1]
    exact (a1.mul b1).mono hs.2
   ·cases hs
  ·cases hs
 ·simp only [List.all_cons,List.all_nil,Bool.and_true] at hwf
  rename_i a
  have l1 : a < k := by simpa [Nat.blt_eq] using hwf
  split at hs
  ·rename_i p hp
   rw [Bool.and_eq_true,Nat.ble_eq] at hs
   obtain ⟨a1,a2,a3⟩ := hlow l1 hp
   have e1 : -q a*proA dn M D=-M a := by
    rw [subA_pro (noneA_some hs.1),← a3]
    show -q a*(proA dn M p.2*1)=_
    grind
   show QW z (-q a*proA dn M D)
   rw [e1]
   exact a1.neg.mono hs.2
  ·cases hs
 ·simp only [List.all_cons,List.all_nil,Bool.and_true,Bool.and_eq_true] at hwf
  rename_i a b
  have l1 : a < k := by simpa [Nat.blt_eq] using hwf.1
  have l2 : b < k := by simpa [Nat.blt_eq] using hwf.2
  split at hs
  ·rename_i p r D' hp hr hD1
   split at hs
   ·rename_i c hc
    split at hs
    ·rename_i e he
     rw [Nat.ble_eq] at hs
     obtain ⟨a1,a2,a3⟩ := hlow l1 hp
     obtain ⟨b1,b2,b3⟩ := hlow l2 hr
     have he' := hpr (l := e) fun x hx => b2 x (subA_mem he hx)
     by_cases h0 : M b=0
     ·have hb : q b=0 := by
       rw [h0] at b3
       exact (Rat.mul_eq_zero.1 b3).resolve_right (hpr b2).2
      show QW z (q a / q b*proA dn M D)
      rw [hb,Rat.div_def,Rat.inv_zero,Rat.mul_zero,Rat.zero_mul]
      exact QW.zero hz
     ·have hb : q b ≠ 0 := fun h => h0 (by rw [← b3,h,Rat.zero_mul])
      have e1 : q a / q b*proA dn M D=M a*proA dn M e := by
       have e2 : proA dn M D=M b*proA dn M D' := by
        rw [remA_pro hD1]
        show (if M b=0 then (1 : Rat) else M b)*_=_
        rw [if_neg h0]
       have e3 : q a / q b*q b=q a := Rat.div_mul_cancel hb
       rw [e2,← a3,← b3,subA_pro hc,subA_pro he]
       generalize q a / q b=t at e3
       rw [← e3]
       grind
      show QW z (q a / q b*proA dn M D)
      rw [e1]
      exact (a1.mul he'.1).mono hs
    ·cases hs
   ·cases hs
  ·cases hs
 ·have hD0 : D=[] := by
   rw [Nat.beq_eq] at hs
   exact List.length_eq_zero_iff.1 hs
  rw [hD0]
  have hv : valN σ q (7,xs)=0 ∨ valN σ q (7,xs)=1 := by
   unfold valN
   dsimp only
   split
   all_goals first | (split; exact Or.inl rfl; exact Or.inr rfl) | exact Or.inl rfl | (rename_i h; cases h)
  show QW z (valN σ q (7,xs)*1)
  rw [Rat.mul_one]
  rcases hv with h | h
  ·rw [h]
   exact QW.zero hz
  ·rw [h]
   exact QW.one hz
 ·rename_i i ys
  rw [Bool.and_eq_true,Bool.and_eq_true,List.all_eq_true] at hs
  obtain ⟨h1,h2,h3⟩ := hs
  have hD0 : D=[] := by
   rw [Nat.beq_eq] at h1
   exact List.length_eq_zero_iff.1 h1
  have hwf' : ys.all (Nat.blt · k)=true := hwf
  rw [List.all_eq_true] at hwf'
  have hlt : ∀ c ∈ ys,c < k := fun c hc => by simpa [Nat.blt_eq] using hwf' c hc
  split at h3
  ·rename_i a ha
   split at h3
   ·rename_i p hp
    split at h3
    ·rename_i e he
     rw [Nat.ble_eq] at h3
     obtain ⟨hi,ha'⟩ := List.getElem?_eq_some_iff.1 ha
     have hmem : a ∈ ys := List.mem_of_getElem? ha
     have hg : (ys.map q).getD i 0=q a := by
      rw [List.getD_eq_getElem?_getD,List.getElem?_map,ha]
      rfl
     show QW z ((ys.map q).getD i 0*fac (ys.map q)*proA dn M D)
     rw [hg,hD0]
     show QW z (q a*fac (ys.map q)*1)
     rw [Rat.mul_one]
     -- what makes all of them whole
     have hU : ∀ x ∈ uniA E ys [],x.1=1→x.2 < k := uniA_low hM hlt (fun x hx => by cases hx)
     have hUp := hpr hU
     have hw := whole hUp.1.wh
     generalize hm : (proA dn M (uniA E ys [])).num=m at hw
     have hm0 : m ≠ 0 := fun h => hUp.2 (by rw [hw,h]; rfl)
     have hall : ∀ y ∈ ys.map q,(y*((m : Int) : Rat)).den=1 := fun y hy => by
      obtain ⟨c,hc,rfl⟩ := List.mem_map.1 hy
      have h4 := h2 c hc
      split at h4
      ·rename_i r hr
       obtain ⟨c1,c2,c3⟩ := hlow (hlt c hc) hr
       cases hs2 : subA (uniA E ys []) r.2 with
       | none => rw [hs2] at h4; cases h4
       | some f =>
        have hf := hpr (l := f) fun x hx => hU x (subA_mem hs2 hx)
        rw [← hw,subA_pro hs2,← Rat.mul_assoc,c3]
        exact (c1.mul hf.1).wh
      ·cases h4
     obtain ⟨a1,a2,a3⟩ := hlow (hlt a hmem) hp
     have he' := hpr (l := e) fun x hx => hU x (subA_mem he hx)
     refine fac_whole (List.mem_map_of_mem hmem) hm0 hall ?_
     rw [← hw,subA_pro he,← Rat.mul_assoc,a3]
     exact (a1.mul he'.1).mono h3
    ·cases h3
   ·cases h3
  ·cases h3
 ·cases hs
end
theorem QS_over {x m p : Rat} {z y K : Nat} (hm : QW z m) (hp : QW y p) (h0 : p ≠ 0) (e : x*p=m) (hz : z≤K) (hy : y≤K) : QS K x := by
 have hw := whole hp.wh
 generalize p.num=P at hw
 have hP : P ≠ 0 := fun h => h0 (by rw [hw,h]; rfl)
 have hpos : 0 < P.natAbs := Int.natAbs_pos.2 hP
 have hd : x.den ∣ P.natAbs := den_dvd (x := x) (m := P) (by rw [← hw,e]; exact hm.wh)
 have hdle : x.den≤P.natAbs := Nat.le_of_dvd hpos hd
 have hPlt : P.natAbs < 2 ^ y := by
  have := hp.qs.num
  rw [hw,Rat.num_intCast] at this
  exact this
 have hmw := whole hm.wh
 have hmlt := hm.qs.num
 generalize m.num=n at hmw hmlt
 have h1 : x*((x.den : Nat) : Rat)=((x.num : Int) : Rat) := mul_low x
 have h2 : ((x.num : Int) : Rat)*((P : Int) : Rat)=((n : Int) : Rat)*(((x.den : Nat) : Int) : Rat) := by
  rw [← h1,← hw,← hmw,← e,Rat.intCast_natCast]
  grind
 have h3 : x.num*P=n*(x.den : Int) := by exact_mod_cast h2
 have h4 : x.num.natAbs*P.natAbs=n.natAbs*x.den := by
  have := congrArg Int.natAbs h3
  rwa [Int.natAbs_mul,Int.natAbs_mul,Int.natAbs_natCast] at this
 have h5 : x.num.natAbs≤n.natAbs := by
  refine Nat.le_of_mul_le_mul_right (c := P.natAbs) ?_ hpos
  rw [h4]
  exact Nat.mul_le_mul_left _ hdle
 exact ⟨Nat.lt_of_lt_of_le (Nat.lt_of_le_of_lt h5 hmlt) (Nat.pow_le_pow_right (by decide) hz),Nat.lt_of_lt_of_le (Nat.lt_of_le_of_lt hdle hPlt) (Nat.pow_le_pow_right (by decide) hy)⟩
section
variable {N : List Nd} {Z : List Nat} {E : List (Nat × List Atm)} {q : Nat→Rat}
theorem sizes_okA {σ : Nat→ByteArray} (hσ : ∀ j,(σ j).size≤1048576) (hw : wfB 0 N=true) (hz : saB E 0 N E Z=true) (hq : ∀ (a : Nat) nd,N[a]? = some nd→q a=valN σ q nd) (h0 : ∀ a,N.length≤a→q a=0) : (∀ (a : Nat) z,Z[a]? = some z→QS z (q a))∧∀ a,QS 1000000000000 (q a) := by
 have hl := saB_len hz
 have key : ∀ k,k≤N.length→∃ M,BelA E (fun j => (Cx.rd (σ j).data.toList).den) M q k := by
  intro k
  induction k with
  | zero => exact fun _ => ⟨fun _ => 0,fun a ha => by omega⟩
  | succ k ih =>
   intro hk
   obtain ⟨M,hM⟩ := ih (by omega)
   have hn : N[k]? = some N[k] := List.getElem?_eq_getElem (by omega)
   obtain ⟨p,z,h1,_,h3,_⟩ := saB_get hz hn
   rw [Nat.zero_add] at h3
   have hwf := wfB_get hw hn
   rw [Nat.zero_add] at hwf
   obtain ⟨g1,g2,g3⟩ := node_ok hσ (fun _ => rfl) hM hwf h3
   rw [← hq k _ hn] at g1
   refine ⟨fun x => if x=k then q k*proA (fun j => (Cx.rd (σ j).data.toList).den) M p.2 else M x,fun a ha => ?_⟩
   have same : ∀ {l : List Atm},(∀ x ∈ l,x.1=1→x.2 < k)→proA (fun j => (Cx.rd (σ j).data.toList).den) (fun x => if x=k then q k*proA (fun j => (Cx.rd (σ j).data.toList).den) M p.2 else M x) l=proA (fun j => (Cx.rd (σ j).data.toList).den) M l := fun hl => (proA_congr fun x hx h => by
    have := hl x hx h
    rw [if_neg (by omega)]).symm
   by_cases e : a=k
   ·subst e
    refine ⟨p,h1,?_,g2,g3,?_⟩
    ·show QW p.1 (if a=a then _ else _)
     rw [if_pos rfl]
     exact g1
    ·rw [same g3]
     show _=(if a=a then _ else _)
     rw [if_pos rfl]
   ·obtain ⟨p',f1,f2,f3,f4,f5⟩ := hM a (by omega)
    refine ⟨p',f1,?_,f3,f4,?_⟩
    ·show QW p'.1 (if a=k then _ else M a)
     rw [if_neg e]
     exact f2
    ·rw [same fun x hx h => by have := f4 x hx h; omega]
     show _=(if a=k then _ else M a)
     rw [if_neg e]
     exact f5
 obtain ⟨M,hM⟩ := key N.length (Nat.le_refl _)
 have hdn : ∀ j,0 < (Cx.rd (σ j).data.toList).den∧(Cx.rd (σ j).data.toList).den < 2 ^ inB := fun j => by
  refine ⟨Rat.den_pos _,Nat.lt_of_lt_of_le (QS.rd3 _).den (Nat.pow_le_pow_right (by decide) ?_)⟩
  have := hσ j
  rw [str_len]
  unfold inB
  omega
 have h2 : ∀ (a : Nat) z,Z[a]? = some z→QS z (q a)∧z≤1000000000000 := by
  intro a z ha
  have hlt : a < N.length := by
   have := (List.getElem?_eq_some_iff.1 ha).1
   omega
  have hn : N[a]? = some N[a] := List.getElem?_eq_getElem hlt
  obtain ⟨p,z',h1,h2,_,h4,h5,h6⟩ := saB_get hz hn
  rw [ha] at h2
  cases h2
  obtain ⟨p',f1,f2,f3,f4,f5⟩ := hM a hlt
  rw [h1] at f1
  cases f1
  have hp := proA_ok hdn hM (l := p.2) fun x hx h => Nat.lt_trans (f4 x hx h) hlt
  exact ⟨QS_over f2 hp.1 hp.2 f5 h4 h5,h6⟩
 refine ⟨fun a z h => (h2 a z h).1,fun a => ?_⟩
 by_cases ha : a < Z.length
 ·have := h2 a _ (List.getElem?_eq_getElem ha)
  exact this.1.mono this.2
 ·rw [h0 a (by omega)]
  exact QS.zero.mono (by decide)
theorem hy_ofA {L C : List (List Nat × Nat)} {σ : Nat→ByteArray} {H : List (Nat × Nat × Nat × Nat)} (hσ : ∀ j,(σ j).size≤1048576) (hw : wfB 0 N=true) (hz : saB E 0 N E Z=true) (hl : litB N L=true) (hcn : canB N C=true) (hq : ∀ (a : Nat) nd,N[a]? = some nd→q a=valN σ q nd) (h0 : ∀ a,N.length≤a→q a=0) (hH : hAll q H) : Hy N H L C Z q σ where
 nat := hq
 qs := (sizes_okA hσ hw hz hq h0).2
 zs := (sizes_okA hσ hw hz hq h0).1
 par := hσ
 lit := fun s b h => lit_rd hl hq h
 k0 := fun a r h => kn_at hH h
 k1 := fun a r h => kn_at hH h
 k2 := fun a r h => kn_at hH h
 k3 := fun a b r h => kn_at hH h
 k4 := fun l a b r h1 h2 => by
  have h3 : Nat.beq 1 r=true ↔ q a=q b := kn_at hH h2
  rw [h3,← can_tx hcn hq h1]
  exact ⟨fun e => by rw [e],fun e => tellS_inj (bytesN_inj e)⟩
 k6 := fun a b r h => kn_at hH h
 k5 := fun a r h => kn_at hH h
end
end Go.Proofs.YtglilpjckmgbcaaGreatDoor
/- CFcornered -/
namespace Go.Proofs.YtglilpjckmgbcaaGreatDoor
open Go.RowKit Cx
theorem closed_cornered : Closed 8 :=
 closed_told (N := [(0,[0,0,1]),(0,[0,4,1]),(0,[0,3,1]),(3,[1,0]),(3,[0,0]),(3,[2,0]),(4,[3,5]),(4,[4,4]),(3,[6,7]),(3,[0,1]),(4,[9,9]),(4,[5,5]),(2,[10,11]),(3,[0,2]),(4,[13,13]),(2,[7,14]),(4,[3,3]),(2,[16,7]),(5,[12]),(2,[15,17]),(2,[19,18]),(4,[12,20]),(5,[15]),(2,[17,12]),(2,[23,22]),(4,[15,24]),(5,[17]),(2,[12,15]),(2,[27,26]),(4,[17,28]),(2,[21,25]),(2,[30,29]),(4,[0,21]),(2,[0,32]),(4,[1,25]),(4,[0,25]),(2,[33,34]),(2,[33,35]),(4,[0,29]),(4,[2,29]),(2,[36,38]),(2,[37,39]),(6,[40,31]),(6,[41,31]),(2,[12,17]),(2,[44,22]),(4,[28,45]),(2,[15,12]),(2,[47,26]),(4,[20,48]),(2,[17,15]),(2,[50,18]),(4,[24,51]),(2,[46,49]),(2,[53,52]),(4,[0,46]),(2,[0,55]),(4,[1,49]),(4,[0,49]),(2,[56,57]),(2,[56,58]),(4,[0,52]),(4,[2,52]),(2,[59,61]),(2,[60,62]),(6,[63,54]),(6,[64,54]),(0,[0,2,1]),(0,[0,3,2]),(0,[0,25,1]),(0,[0,9,1]),(0,[0,16,1])]) (H := [(0,8,0,0),(0,31,0,0),(0,54,0,0),(4,42,67,1),(4,43,68,1),(4,65,0,1),(4,66,0,1),(4,12,69,1),(4,15,70,1),(4,17,71,1)]) (K := [(45,[]),(204,[]),(205,[]),(158,[]),(66,[])]) (L := [([48],0),([52],1),([51],2),([50],67),([51,47,50],68),([50,53],69),([57],70),([49,54],71)]) (C := [([50],67),([51,47,50],68),([48],0),([50,53],69),([57],70),([49,54],71)]) (Z := [2,4,3,7,5,6,13,10,24,7,14,12,27,6,12,23,14,25,27,49,77,104,23,53,77,100,25,51,77,102,205,308,106,109,104,102,214,212,104,105,319,318,627,626,53,77,154,51,77,154,49,77,154,309,464,156,159,158,156,318,316,156,157,475,474,939,938,3,3,6,5,6]) (cl := []) 8 (fun _ h => by cases h) (by kernel_rfl) (by kernel_rfl) (by kernel_rfl) (by kernel_rfl) (by kernel_rfl) (by kernel_rfl) (by kernel_rfl)
end Go.Proofs.YtglilpjckmgbcaaGreatDoor
/- MGG -/
namespace Go.Proofs.YtglilpjckmgbcaaGreatDoor
open Go.RowKit Cx
def gA_N : List Nd := [(1,[0]),(1,[1]),(1,[2]),(1,[3]),(1,[4]),(1,[5]),(3,[2,0]),(3,[3,1]),(3,[4,0]),(3,[5,1]),(4,[6,9]),(4,[7,8]),(3,[10,11]),(1,[6]),(1,[7]),(3,[2,13]),(3,[3,14]),(3,[4,13]),(3,[5,14]),(4,[15,18]),(4,[16,17]),(3,[19,20]),(6,[21,12]),(3,[0,13]),(3,[1,14]),(4,[17,24]),(4,[18,23]),(3,[25,26]),(6,[27,12]),(4,[23,16]),(4,[24,15]),(3,[29,30]),(6,[31,12]),(0,[0,0,1]),(2,[33,28]),(2,[34,32]),(4,[0,33]),(4,[1,33]),(2,[33,36]),(2,[33,37]),(4,[2,28]),(4,[3,28]),(2,[38,40]),(2,[39,41]),(4,[4,32]),(4,[5,32]),(2,[42,44]),(2,[43,45]),(6,[46,35]),(6,[47,35]),(2,[22,33]),(2,[50,32]),(4,[0,22]),(4,[1,22]),(2,[33,52]),(2,[33,53]),(4,[2,33]),(4,[3,33]),(2,[54,56]),(2,[55,57]),(2,[58,44]),(2,[59,45]),(6,[60,51]),(6,[61,51]),(2,[22,28]),(2,[64,33]),(2,[54,40]),(2,[55,41]),(4,[4,33]),(4,[5,33]),(2,[66,68]),(2,[67,69]),(6,[70,65]),(6,[71,65]),(7,[48,49,0,1]),(3,[0,48]),(3,[1,49]),(3,[13,48]),(3,[14,49]),(4,[75,75]),(4,[76,76]),(2,[79,80]),(4,[75,78]),(4,[76,77]),(3,[82,83]),(4,[77,75]),(4,[78,76]),(2,[85,86]),(6,[87,81]),(2,[33,88]),(7,[62,63,2,3]),(3,[2,62]),(3,[3,63]),(3,[13,62]),(3,[14,63]),(4,[91,91]),(4,[92,92]),(2,[95,96]),(4,[91,94]),(4,[92,93]),(3,[98,99]),(4,[93,91]),(4,[94,92]),(2,[101,102]),(6,[103,97]),(2,[89,104]),(7,[72,73,4,5]),(3,[4,72]),(3,[5,73]),(3,[13,72]),(3,[14,73]),(4,[107,107]),(4,[108,108]),(2,[111,112]),(4,[107,110]),(4,[108,109]),(3,[114,115]),(4,[109,107]),(4,[110,108]),(2,[117,118]),(6,[119,113]),(2,[105,120]),(0,[0,1,1])]
def gA_L : List (List Nat × Nat) := []
def gA_C : List (List Nat × Nat) := []
def gA_Z : List Nat := [3495260,3495260,3495260,3495260,3495260,3495260,6990520,6990520,6990520,6990520,13981040,13981040,20971560,3495260,3495260,6990520,6990520,6990520,6990520,13981040,13981040,20971560,27962079,6990520,6990520,13981040,13981040,20971560,27962079,13981040,13981040,20971560,27962079,1,27962081,27962083,3495260,3495260,3495262,3495262,31457338,31457338,34952601,34952601,31457338,31457338,38447862,38447862,38447863,38447863,27962081,27962083,31457338,31457338,31457340,31457340,3495260,3495260,34952601,34952601,38447862,38447862,38447863,38447863,27962081,27962083,34952601,34952601,3495260,3495260,38447862,38447862,38447863,38447863,1,38447865,38447865,41943124,41943124,76895730,76895730,97867286,80390989,80390989,83886250,80390989,80390989,104857804,104857805,104857807,1,38447865,38447865,41943124,41943124,76895730,76895730,97867286,80390989,80390989,83886250,80390989,80390989,104857804,104857805,202725095,1,38447865,38447865,41943124,41943124,76895730,76895730,97867286,80390989,80390989,83886250,80390989,80390989,104857804,104857805,300592383,1]
def gA_D0 : List Atm := [(0,6),(0,7),(1,12)]
def gA_D1 : List Atm := [(0,0),(0,2),(0,6),(0,7),(1,12)]
def gA_D2 : List Atm := [(0,1),(0,3),(0,6),(0,7),(1,12)]
def gA_D3 : List Atm := [(0,0),(0,2),(0,4),(0,6),(0,7),(1,12)]
def gA_D4 : List Atm := [(0,1),(0,3),(0,5),(0,6),(0,7),(1,12)]
def gA_D5 : List Atm := [(0,0),(0,2),(0,4),(1,35)]
def gA_D6 : List Atm := [(0,1),(0,3),(0,5),(1,35)]
def gA_D7 : List Atm := [(0,0),(0,6),(0,7),(1,12)]
def gA_D8 : List Atm := [(0,1),(0,6),(0,7),(1,12)]
def gA_D9 : List Atm := [(0,0),(0,2),(0,4),(1,51)]
def gA_D10 : List Atm := [(0,1),(0,3),(0,5),(1,51)]
def gA_D11 : List Atm := [(0,0),(0,2),(0,4),(1,65)]
def gA_D12 : List Atm := [(0,1),(0,3),(0,5),(1,65)]
def gA_D13 : List Atm := [(0,6),(0,7),(1,81)]
def gA_E : List (Nat × List Atm) := [(3495259,[(0,0)]),(3495259,[(0,1)]),(3495259,[(0,2)]),(3495259,[(0,3)]),(3495259,[(0,4)]),(3495259,[(0,5)]),(6990520,[(0,0),(0,2)]),(6990520,[(0,1),(0,3)]),(6990520,[(0,0),(0,4)]),(6990520,[(0,1),(0,5)]),(13981040,[(0,0),(0,1),(0,2),(0,5)]),(13981040,[(0,0),(0,1),(0,3),(0,4)]),(20971560,[(0,0),(0,1),(0,2),(0,3),(0,4),(0,5)]),(3495259,[(0,6)]),(3495259,[(0,7)]),(6990520,[(0,2),(0,6)]),(6990520,[(0,3),(0,7)]),(6990520,[(0,4),(0,6)]),(6990520,[(0,5),(0,7)]),(13981040,[(0,2),(0,5),(0,6),(0,7)]),(13981040,[(0,3),(0,4),(0,6),(0,7)]),(20971560,[(0,2),(0,3),(0,4),(0,5),(0,6),(0,7)]),(27962079,gA_D0),(6990520,[(0,0),(0,6)]),(6990520,[(0,1),(0,7)]),(13981040,[(0,1),(0,4),(0,6),(0,7)]),(13981040,[(0,0),(0,5),(0,6),(0,7)]),(20971560,[(0,0),(0,1),(0,4),(0,5),(0,6),(0,7)]),(27962079,gA_D0),(13981040,[(0,0),(0,3),(0,6),(0,7)]),(13981040,[(0,1),(0,2),(0,6),(0,7)]),(20971560,[(0,0),(0,1),(0,2),(0,3),(0,6),(0,7)]),(27962079,gA_D0),(1,[]),(27962081,gA_D0),(27962083,gA_D0),(3495260,[(0,0)]),(3495260,[(0,1)]),(3495262,[(0,0)]),(3495262,[(0,1)]),(31457338,[(0,2),(0,6),(0,7),(1,12)]),(31457338,[(0,3),(0,6),(0,7),(1,12)]),(34952601,gA_D1),(34952601,gA_D2),(31457338,[(0,4),(0,6),(0,7),(1,12)]),(31457338,[(0,5),(0,6),(0,7),(1,12)]),(38447862,gA_D3),(38447862,gA_D4),(38447863,gA_D5),(38447863,gA_D6),(27962081,gA_D0),(27962083,gA_D0),(31457338,gA_D7),(31457338,gA_D8),(31457340,gA_D7),(31457340,gA_D8),(3495260,[(0,2)]),(3495260,[(0,3)]),(34952601,gA_D1),(34952601,gA_D2),(38447862,gA_D3),(38447862,gA_D4),(38447863,gA_D9),(38447863,gA_D10),(27962081,gA_D0),(27962083,gA_D0),(34952601,gA_D1),(34952601,gA_D2),(3495260,[(0,4)]),(3495260,[(0,5)]),(38447862,gA_D3),(38447862,gA_D4),(38447863,gA_D11),(38447863,gA_D12),(1,[]),(38447865,gA_D5),(38447865,gA_D6),(41943124,[(0,0),(0,2),(0,4),(0,6),(1,35)]),(41943124,[(0,1),(0,3),(0,5),(0,7),(1,35)]),(76895730,[(0,0),(0,0),(0,2),(0,2),(0,4),(0,4),(1,35),(1,35)]),(76895730,[(0,1),(0,1),(0,3),(0,3),(0,5),(0,5),(1,35),(1,35)]),(97867286,[(0,0),(0,0),(0,1),(0,1),(0,2),(0,2),(0,3),(0,3),(0,4),(0,4),(0,5),(0,5),(1,35),(1,35)]),(80390989,[(0,0),(0,1),(0,2),(0,3),(0,4),(0,5),(0,7),(1,35),(1,35)]),(80390989,[(0,0),(0,1),(0,2),(0,3),(0,4),(0,5),(0,6),(1,35),(1,35)]),(83886250,[(0,0),(0,1),(0,2),(0,3),(0,4),(0,5),(0,6),(0,7),(1,35),(1,35)]),(80390989,[(0,0),(0,0),(0,2),(0,2),(0,4),(0,4),(0,6),(1,35),(1,35)]),(80390989,[(0,1),(0,1),(0,3),(0,3),(0,5),(0,5),(0,7),(1,35),(1,35)]),(104857804,[(0,0),(0,0),(0,1),(0,1),(0,2),(0,2),(0,3),(0,3),(0,4),(0,4),(0,5),(0,5),(0,6),(0,7),(1,35),(1,35)]),(104857805,gA_D13),(104857807,gA_D13),(1,[]),(38447865,gA_D9),(38447865,gA_D10),(41943124,[(0,0),(0,2),(0,4),(0,6),(1,51)]),(41943124,[(0,1),(0,3),(0,5),(0,7),(1,51)]),(76895730,[(0,0),(0,0),(0,2),(0,2),(0,4),(0,4),(1,51),(1,51)]),(76895730,[(0,1),(0,1),(0,3),(0,3),(0,5),(0,5),(1,51),(1,51)]),(97867286,[(0,0),(0,0),(0,1),(0,1),(0,2),(0,2),(0,3),(0,3),(0,4),(0,4),(0,5),(0,5),(1,51),(1,51)]),(80390989,[(0,0),(0,1),(0,2),(0,3),(0,4),(0,5),(0,7),(1,51),(1,51)]),(80390989,[(0,0),(0,1),(0,2),(0,3),(0,4),(0,5),(0,6),(1,51),(1,51)]),(83886250,[(0,0),(0,1),(0,2),(0,3),(0,4),(0,5),(0,6),(0,7),(1,51),(1,51)]),(80390989,[(0,0),(0,0),(0,2),(0,2),(0,4),(0,4),(0,6),(1,51),(1,51)]),(80390989,[(0,1),(0,1),(0,3),(0,3),(0,5),(0,5),(0,7),(1,51),(1,51)]),(104857804,[(0,0),(0,0),(0,1),(0,1),(0,2),(0,2),(0,3),(0,3),(0,4),(0,4),(0,5),(0,5),(0,6),(0,7),(1,51),(1,51)]),(104857805,[(0,6),(0,7),(1,97)]),(202725095,[(0,6),(0,7),(1,81),(1,97)]),(1,[]),(38447865,gA_D11),(38447865,gA_D12),(41943124,[(0,0),(0,2),(0,4),(0,6),(1,65)]),(41943124,[(0,1),(0,3),(0,5),(0,7),(1,65)]),(76895730,[(0,0),(0,0),(0,2),(0,2),(0,4),(0,4),(1,65),(1,65)]),(76895730,[(0,1),(0,1),(0,3),(0,3),(0,5),(0,5),(1,65),(1,65)]),(97867286,[(0,0),(0,0),(0,1),(0,1),(0,2),(0,2),(0,3),(0,3),(0,4),(0,4),(0,5),(0,5),(1,65),(1,65)]),(80390989,[(0,0),(0,1),(0,2),(0,3),(0,4),(0,5),(0,7),(1,65),(1,65)]),(80390989,[(0,0),(0,1),(0,2),(0,3),(0,4),(0,5),(0,6),(1,65),(1,65)]),(83886250,[(0,0),(0,1),(0,2),(0,3),(0,4),(0,5),(0,6),(0,7),(1,65),(1,65)]),(80390989,[(0,0),(0,0),(0,2),(0,2),(0,4),(0,4),(0,6),(1,65),(1,65)]),(80390989,[(0,1),(0,1),(0,3),(0,3),(0,5),(0,5),(0,7),(1,65),(1,65)]),(104857804,[(0,0),(0,0),(0,1),(0,1),(0,2),(0,2),(0,3),(0,3),(0,4),(0,4),(0,5),(0,5),(0,6),(0,7),(1,65),(1,65)]),(104857805,[(0,6),(0,7),(1,113)]),(300592383,[(0,6),(0,7),(1,81),(1,97),(1,113)]),(1,[])]
abbrev gA_Q (q : Nat→Rat) (σ : Nat→ByteArray) : Prop := ∀ (a : Nat) nd,gA_N[a]? = some nd→q a=valN σ q nd
variable {q : Nat→Rat} {σ : Nat→ByteArray}
theorem gA_wf : wfB 0 gA_N=true := by kernel_rfl
theorem gA_sz : saB gA_E 0 gA_N gA_E gA_Z=true := by kernel_rfl
theorem gA_lt : litB gA_N gA_L=true := by kernel_rfl
theorem gA_cn : canB gA_N gA_C=true := by kernel_rfl
theorem gA_c33 : cst 0 0 1=(0 : Rat) := by decide +kernel
theorem gA_c122 : cst 0 1 1=(1 : Rat) := by decide +kernel
def gA_A : List AV := [(false,[(true,[.inr (2,0,0,0,0),.inr (2,1,0,0,0),.inr (2,2,0,0,0),.inr (2,3,0,0,0),.inr (2,4,0,0,0),.inr (2,5,0,0,0)])]),(false,[(true,[.inr (2,6,0,0,0),.inr (2,7,0,0,0)])])]
theorem cv_sq {x y : Rat} (h : x*x+y*y=0) : x=0∧y=0 := by
 have a1 := sq_facts x
 have a2 := sq_facts y
 refine ⟨a1.2.1 ?_,a2.2.1 ?_⟩ <;> grind
theorem cv_ne {d1 d2 e1 e2 k a b : Rat} (hT : d1*e2 - d2*e1 ≠ 0) (ha : a=d1+(e1 - d1)*k) (hb : b=d2+(e2 - d2)*k) : ¬ (a*a+b*b=0) := fun h => by
 obtain ⟨x,y⟩ := cv_sq h
 have p1 : (1 - k)*(d1*e2 - d2*e1)=0 := by
  have : (1 - k)*(d1*e2 - d2*e1)=a*e2 - b*e1 := by rw [ha,hb]; clear h x y hT; grind
  rw [this,x,y]; grind
 have p2 : k*(d1*e2 - d2*e1)=0 := by
  have : k*(d1*e2 - d2*e1)=d1*b - d2*a := by rw [ha,hb]; clear h x y hT p1; grind
  rw [this,x,y]; grind
 have q1 := (Rat.mul_eq_zero.1 p1).resolve_right hT
 have q2 := (Rat.mul_eq_zero.1 p2).resolve_right hT
 grind
theorem cv_det {A0 B0 C0 A1 B1 C1 A2 B2 C2 x1 x2 D0 D1 D2 : Rat} (h0 : D0=C0+A0*x1+B0*x2) (h1 : D1=C1+A1*x1+B1*x2) (h2 : D2=C2+A2*x1+B2*x2) : A0*(B1*C2 - C1*B2) - B0*(A1*C2 - C1*A2)+C0*(A1*B2 - B1*A2)=A0*(B1*D2 - D1*B2) - B0*(A1*D2 - D1*A2)+D0*(A1*B2 - B1*A2) := by
 rw [h0,h1,h2]; clear h0 h1 h2; grind
theorem cv_key (d1 d2 e1 e2 k0 k1 k2 : Rat) : -(d2+(e2 - d2)*k0)*((e1 - d1 - e1*k1)*-(-(d2*k2 - e2)*e1+(d1*k2 - e1)*e2) - -(-(e2 - d2 - e2*k1)*d1+(e1 - d1 - e1*k1)*d2)*(d1*k2 - e1)) - (d1+(e1 - d1)*k0)*(-(e2 - d2 - e2*k1)*-(-(d2*k2 - e2)*e1+(d1*k2 - e1)*e2) - -(-(e2 - d2 - e2*k1)*d1+(e1 - d1 - e1*k1)*d2)*-(d2*k2 - e2))+0*(-(e2 - d2 - e2*k1)*(d1*k2 - e1) - (e1 - d1 - e1*k1)*-(d2*k2 - e2))=((d1*e2 - d2*e1)*(d1*e2 - d2*e1))*((1 - k0)*(1 - k1)*(1 - k2) - k0*k1*k2) := by grind
theorem cv_fin {F R z T u v : Rat} (hF : F ≠ 0) (hT : T ≠ 0) (hz : z=F*R) (hR : R=(T*T)*(v - u)) : (u=v→z=0)∧(¬ (u=v)→¬ (z=0)) := by
 refine ⟨fun h => by rw [hz,hR,h]; grind,fun h h0 => h ?_⟩
 rw [hz,hR] at h0
 have := (Rat.mul_eq_zero.1 ((Rat.mul_eq_zero.1 h0).resolve_left hF)).resolve_left (mul_ne hT hT)
 grind
theorem cn_det {a1 a2 b1 b2 c0 c1 c2 T : Rat} (hT : T=a1*b2 - a2*b1) : a1*(b2*c2 - c1*-(a2+b2)) - a2*(b1*c2 - c1*-(a1+b1))+c0*(b1*-(a2+b2) - b2*-(a1+b1))=T*(c0+c1+c2) := by
 rw [hT]; clear hT; grind
theorem cn_fin {F z T l r s : Rat} (hF : F ≠ 0) (hT : T ≠ 0) (hz : z=F*(T*s)) (hs : l - r=-2*s) : (z=0→l=r)∧(¬ (z=0)→¬ (l=r)) := by
 refine ⟨fun h => ?_,fun h e => h ?_⟩
 ·rw [hz] at h
  have := (Rat.mul_eq_zero.1 ((Rat.mul_eq_zero.1 h).resolve_left hF)).resolve_left hT
  rw [this] at hs
  grind
 ·have : s=0 := by rw [e] at hs; grind
  rw [hz,this]; grind
theorem au_one {x1 x2 y1 y2 z1 z2 p1 p2 w0 w1 w2 s r1 r2 T a b c e : Rat} (hT : T ≠ 0) (eT : T=(y1 - x1)*(z2 - x2) - (y2 - x2)*(z1 - x1)) (hs : s ≠ 0) (es : s=w1+w2) (hw : w0+w1+w2=1) (hp1 : p1=w0*x1+w1*y1+w2*z1) (hp2 : p2=w0*x2+w1*y2+w2*z2) (hr1 : r1=(w1*y1+w2*z1) / s) (hr2 : r2=(w1*y2+w2*z2) / s) (ha : a=x1 - r1) (hb : b=x2 - r2) (hc : c=p1 - r1) (he : e=p2 - r2) :
  ¬ (a*a+b*b=0)∧a*e - b*c=0∧(c*a+e*b) / (a*a+b*b)=w0∧(r1=x1→r2=x2→False) := by
 have q1 : r1*s=w1*y1+w2*z1 := by rw [hr1]; exact Rat.div_mul_cancel hs
 have q2 : r2*s=w1*y2+w2*z2 := by rw [hr2]; exact Rat.div_mul_cancel hs
 clear hr1 hr2
 have c1 : c=w0*a := by
  have : w1*y1+w2*z1=r1*(1 - w0) := by rw [← q1,es]; rw [← hw]; grind
  rw [hc,hp1,ha]
  have h2 : w0*x1+w1*y1+w2*z1=w0*x1+(w1*y1+w2*z1) := by grind
  rw [h2,this]; grind
 have e1 : e=w0*b := by
  have : w1*y2+w2*z2=r2*(1 - w0) := by rw [← q2,es]; rw [← hw]; grind
  rw [he,hp2,hb]
  have h2 : w0*x2+w1*y2+w2*z2=w0*x2+(w1*y2+w2*z2) := by grind
  rw [h2,this]; grind
 have hne : r1=x1→r2=x2→False := fun u v => by
  rw [u] at q1; rw [v] at q2
  have m1 : w1*(y1 - x1)+w2*(z1 - x1)=0 := by rw [es] at q1; grind
  have m2 : w1*(y2 - x2)+w2*(z2 - x2)=0 := by rw [es] at q2; grind
  have n1 : w1*T=0 := by
   have : w1*T=(w1*(y1 - x1)+w2*(z1 - x1))*(z2 - x2) - (w1*(y2 - x2)+w2*(z2 - x2))*(z1 - x1) := by rw [eT]; clear m1 m2 q1 q2 c1 e1 hc he hp1 hp2 hw es; grind
   rw [this,m1,m2]; grind
  have n2 : w2*T=0 := by
   have : w2*T=(w1*(y2 - x2)+w2*(z2 - x2))*(y1 - x1) - (w1*(y1 - x1)+w2*(z1 - x1))*(y2 - x2) := by rw [eT]; clear m1 m2 q1 q2 c1 e1 hc he hp1 hp2 hw es n1; grind
   rw [this,m1,m2]; grind
  have o1 := (Rat.mul_eq_zero.1 n1).resolve_right hT
  have o2 := (Rat.mul_eq_zero.1 n2).resolve_right hT
  exact hs (by rw [es,o1,o2]; grind)
 have hn : ¬ (a*a+b*b=0) := fun h => by
  obtain ⟨u,v⟩ := cv_sq h
  exact hne (by rw [ha] at u; grind) (by rw [hb] at v; grind)
 refine ⟨hn,?_,?_,hne⟩
 ·rw [c1,e1]; clear hn hne; grind
 ·rw [c1,e1]
  have : w0*a*a+w0*b*b=w0*(a*a+b*b) := by grind
  rw [this]
  exact Rat.mul_div_cancel hn
theorem au_w {x1 x2 y1 y2 z1 z2 p1 p2 T w0 w1 w2 : Rat} (hT : T ≠ 0) (eT : T=(y1 - x1)*(z2 - x2) - (y2 - x2)*(z1 - x1)) (h0 : w0=((y1 - p1)*(z2 - p2) - (y2 - p2)*(z1 - p1)) / T) (h1 : w1=((z1 - p1)*(x2 - p2) - (z2 - p2)*(x1 - p1)) / T) (h2 : w2=((x1 - p1)*(y2 - p2) - (x2 - p2)*(y1 - p1)) / T) : w0+w1+w2=1∧p1=w0*x1+w1*y1+w2*z1∧p2=w0*x2+w1*y2+w2*z2 := by
 have q0 : w0*T=(y1 - p1)*(z2 - p2) - (y2 - p2)*(z1 - p1) := by rw [h0]; exact Rat.div_mul_cancel hT
 have q1 : w1*T=(z1 - p1)*(x2 - p2) - (z2 - p2)*(x1 - p1) := by rw [h1]; exact Rat.div_mul_cancel hT
 have q2 : w2*T=(x1 - p1)*(y2 - p2) - (x2 - p2)*(y1 - p1) := by rw [h2]; exact Rat.div_mul_cancel hT
 clear h0 h1 h2
 have can : ∀ {u v : Rat},u*T=v*T→u=v := fun {u v} h => by
  have : (u - v)*T=0 := by grind
  have := (Rat.mul_eq_zero.1 this).resolve_right hT
  grind
 refine ⟨can ?_,can ?_,can ?_⟩
 ·have : (w0+w1+w2)*T=w0*T+w1*T+w2*T := by grind
  rw [this,q0,q1,q2,eT]; clear q0 q1 q2 can this eT hT; grind
 ·have : (w0*x1+w1*y1+w2*z1)*T=(w0*T)*x1+(w1*T)*y1+(w2*T)*z1 := by grind
  rw [this,q0,q1,q2,eT]; clear q0 q1 q2 can this eT hT; grind
 ·have : (w0*x2+w1*y2+w2*z2)*T=(w0*T)*x2+(w1*T)*y2+(w2*T)*z2 := by grind
  rw [this,q0,q1,q2,eT]; clear q0 q1 q2 can this eT hT; grind
theorem gA_R0z {z0 z1 z2 z3 z4 z5 z6 z7 z8 z9 z10 z11 z12 z13 z14 z15 z16 z17 z18 z19 z20 z21 z22 z23 z24 z25 z26 z27 z28 z29 z30 z31 z32 z33 z34 z35 z36 z37 z38 z39 z40 z41 z42 z43 z44 z45 z46 z47 z48 z49 z75 z76 z77 z78 z79 z80 z81 z82 z83 z84 z85 z86 z87 z88 : Rat} : z6=z2-z0→z7=z3-z1→z8=z4-z0→z9=z5-z1→z10=z6*z9→z11=z7*z8→z12=z10-z11→z15=z2-z13→z16=z3-z14→z17=z4-z13→z18=z5-z14→z19=z15*z18→z20=z16*z17→z21=z19-z20→z22=z21/z12→z23=z0-z13→z24=z1-z14→z25=z17*z24→z26=z18*z23→z27=z25-z26→z28=z27/z12→z29=z23*z16→z30=z24*z15→z31=z29-z30→z32=z31/z12→z33=0→z34=z33+z28→z35=z34+z32→z36=z0*z33→z37=z1*z33→z38=z33+z36→z39=z33+z37→z40=z2*z28→z41=z3*z28→z42=z38+z40→z43=z39+z41→z44=z4*z32→z45=z5*z32→z46=z42+z44→z47=z43+z45→z48=z46/z35→z49=z47/z35→z75=z0-z48→z76=z1-z49→z77=z13-z48→z78=z14-z49→z79=z75*z75→z80=z76*z76→z81=z79+z80→z82=z75*z78→z83=z76*z77→z84=z82-z83→z85=z77*z75→z86=z78*z76→z87=z85+z86→z88=z87/z81→(¬ (z12=0))→(¬ (z35=0))→(¬ (z81=0)∧z84=0∧z88=z22∧(z48=z0→z49=z1→False)∧z22+z28+z32=1) := by
 intro e6 e7 e8 e9 e10 e11 e12 e15 e16 e17 e18 e19 e20 e21 e22 e23 e24 e25 e26 e27 e28 e29 e30 e31 e32 e33 e34 e35 e36 e37 e38 e39 e40 e41 e42 e43 e44 e45 e46 e47 e48 e49 e75 e76 e77 e78 e79 e80 e81 e82 e83 e84 e85 e86 e87 e88
 intro u0 us
 have ⟨hw,hp1,hp2⟩ := au_w u0 (show z12=(z2 - z0)*(z5 - z1) - (z3 - z1)*(z4 - z0) by rw [e12,e11,e10,e9,e8,e7,e6]) (show z22=((z2 - z13)*(z5 - z14) - (z3 - z14)*(z4 - z13)) / z12 by rw [e22,e21,e20,e19,e18,e17,e16,e15]) (show z28=((z4 - z13)*(z1 - z14) - (z5 - z14)*(z0 - z13)) / z12 by rw [e28,e27,e26,e25,e24,e23,e18,e17]) (show z32=((z0 - z13)*(z3 - z14) - (z1 - z14)*(z2 - z13)) / z12 by rw [e32,e31,e30,e29,e24,e23,e16,e15])
 have ⟨h1,h2,h3,h4⟩ := au_one u0 (show z12=(z2 - z0)*(z5 - z1) - (z3 - z1)*(z4 - z0) by rw [e12,e11,e10,e9,e8,e7,e6]) us (show z35=z28+z32 by rw [e35,e34,e33]; clear u0 us hw hp1 hp2; grind) (show z22+z28+z32=1 by rw [← hw] <;> grind) hp1 hp2 (show z48=(z28*z2+z32*z4) / z35 by rw [e48]; congr 1; rw [e46,e44,e42,e40,e38,e36,e33]; clear u0 us hw hp1 hp2; grind) (show z49=(z28*z3+z32*z5) / z35 by rw [e49]; congr 1; rw [e47,e45,e43,e41,e39,e37,e33]; clear u0 us hw hp1 hp2; grind) e75 e76 e77 e78
 refine ⟨fun h => h1 (by rw [e81,e79,e80] at h; exact h),by rw [e84,e82,e83]; exact h2,by rw [e88,e87,e85,e86,e81,e79,e80]; exact h3,h4,hw⟩
theorem gA_R0 (H : gA_Q q σ) : (¬ (q 12=0))→(¬ (q 35=0))→(¬ (q 81=0)∧q 84=0∧q 88=q 22∧(q 48=q 0→q 49=q 1→False)∧q 22+q 28+q 32=1) := by
 have e6:q 6=q 2-q 0:=H 6 _ rfl;have e7:q 7=q 3-q 1:=H 7 _ rfl;have e8:q 8=q 4-q 0:=H 8 _ rfl;have e9:q 9=q 5-q 1:=H 9 _ rfl;have e10:q 10=q 6*q 9:=H 10 _ rfl;have e11:q 11=q 7*q 8:=H 11 _ rfl;have e12:q 12=q 10-q 11:=H 12 _ rfl;have e15:q 15=q 2-q 13:=H 15 _ rfl;have e16:q 16=q 3-q 14:=H 16 _ rfl;have e17:q 17=q 4-q 13:=H 17 _ rfl;have e18:q 18=q 5-q 14:=H 18 _ rfl;have e19:q 19=q 15*q 18:=H 19 _ rfl;have e20:q 20=q 16*q 17:=H 20 _ rfl;have e21:q 21=q 19-q 20:=H 21 _ rfl;have e22:q 22=q 21/q 12:=H 22 _ rfl;have e23:q 23=q 0-q 13:=H 23 _ rfl;have e24:q 24=q 1-q 14:=H 24 _ rfl;have e25:q 25=q 17*q 24:=H 25 _ rfl;have e26:q 26=q 18*q 23:=H 26 _ rfl;have e27:q 27=q 25-q 26:=H 27 _ rfl;have e28:q 28=q 27/q 12:=H 28 _ rfl;have e29:q 29=q 23*q 16:=H 29 _ rfl;have e30:q 30=q 24*q 15:=H 30 _ rfl;have e31:q 31=q 29-q 30:=H 31 _ rfl;have e32:q 32=q 31/q 12:=H 32 _ rfl;have e33:q 33=0:=(H 33 _ rfl).trans gA_c33;have e34:q 34=q 33+q 28:=H 34 _ rfl;have e35:q 35=q 34+q 32:=H 35 _ rfl;have e36:q 36=q 0*q 33:=H 36 _ rfl;have e37:q 37=q 1*q 33:=H 37 _ rfl;have e38:q 38=q 33+q 36:=H 38 _ rfl;have e39:q 39=q 33+q 37:=H 39 _ rfl;have e40:q 40=q 2*q 28:=H 40 _ rfl;have e41:q 41=q 3*q 28:=H 41 _ rfl;have e42:q 42=q 38+q 40:=H 42 _ rfl;have e43:q 43=q 39+q 41:=H 43 _ rfl;have e44:q 44=q 4*q 32:=H 44 _ rfl;have e45:q 45=q 5*q 32:=H 45 _ rfl;have e46:q 46=q 42+q 44:=H 46 _ rfl;have e47:q 47=q 43+q 45:=H 47 _ rfl;have e48:q 48=q 46/q 35:=H 48 _ rfl;have e49:q 49=q 47/q 35:=H 49 _ rfl;have e75:q 75=q 0-q 48:=H 75 _ rfl;have e76:q 76=q 1-q 49:=H 76 _ rfl;have e77:q 77=q 13-q 48:=H 77 _ rfl;have e78:q 78=q 14-q 49:=H 78 _ rfl;have e79:q 79=q 75*q 75:=H 79 _ rfl;have e80:q 80=q 76*q 76:=H 80 _ rfl;have e81:q 81=q 79+q 80:=H 81 _ rfl;have e82:q 82=q 75*q 78:=H 82 _ rfl;have e83:q 83=q 76*q 77:=H 83 _ rfl;have e84:q 84=q 82-q 83:=H 84 _ rfl;have e85:q 85=q 77*q 75:=H 85 _ rfl;have e86:q 86=q 78*q 76:=H 86 _ rfl;have e87:q 87=q 85+q 86:=H 87 _ rfl;have e88:q 88=q 87/q 81:=H 88 _ rfl
 exact gA_R0z e6 e7 e8 e9 e10 e11 e12 e15 e16 e17 e18 e19 e20 e21 e22 e23 e24 e25 e26 e27 e28 e29 e30 e31 e32 e33 e34 e35 e36 e37 e38 e39 e40 e41 e42 e43 e44 e45 e46 e47 e48 e49 e75 e76 e77 e78 e79 e80 e81 e82 e83 e84 e85 e86 e87 e88
theorem gA_R1z {z0 z1 z2 z3 z4 z5 z6 z7 z8 z9 z10 z11 z12 z13 z14 z15 z16 z17 z18 z19 z20 z21 z22 z23 z24 z25 z26 z27 z28 z29 z30 z31 z32 z33 z44 z45 z50 z51 z52 z53 z54 z55 z56 z57 z58 z59 z60 z61 z62 z63 z91 z92 z93 z94 z95 z96 z97 z98 z99 z100 z101 z102 z103 z104 : Rat} : z6=z2-z0→z7=z3-z1→z8=z4-z0→z9=z5-z1→z10=z6*z9→z11=z7*z8→z12=z10-z11→z15=z2-z13→z16=z3-z14→z17=z4-z13→z18=z5-z14→z19=z15*z18→z20=z16*z17→z21=z19-z20→z22=z21/z12→z23=z0-z13→z24=z1-z14→z25=z17*z24→z26=z18*z23→z27=z25-z26→z28=z27/z12→z29=z23*z16→z30=z24*z15→z31=z29-z30→z32=z31/z12→z33=0→z44=z4*z32→z45=z5*z32→z50=z22+z33→z51=z50+z32→z52=z0*z22→z53=z1*z22→z54=z33+z52→z55=z33+z53→z56=z2*z33→z57=z3*z33→z58=z54+z56→z59=z55+z57→z60=z58+z44→z61=z59+z45→z62=z60/z51→z63=z61/z51→z91=z2-z62→z92=z3-z63→z93=z13-z62→z94=z14-z63→z95=z91*z91→z96=z92*z92→z97=z95+z96→z98=z91*z94→z99=z92*z93→z100=z98-z99→z101=z93*z91→z102=z94*z92→z103=z101+z102→z104=z103/z97→(¬ (z12=0))→(¬ (z51=0))→(¬ (z97=0)∧z100=0∧z104=z28∧(z62=z2→z63=z3→False)∧z22+z28+z32=1) := by
 intro e6 e7 e8 e9 e10 e11 e12 e15 e16 e17 e18 e19 e20 e21 e22 e23 e24 e25 e26 e27 e28 e29 e30 e31 e32 e33 e44 e45 e50 e51 e52 e53 e54 e55 e56 e57 e58 e59 e60 e61 e62 e63 e91 e92 e93 e94 e95 e96 e97 e98 e99 e100 e101 e102 e103 e104
 intro u0 us
 have ⟨hw,hp1,hp2⟩ := au_w u0 (show z12=(z2 - z0)*(z5 - z1) - (z3 - z1)*(z4 - z0) by rw [e12,e11,e10,e9,e8,e7,e6]) (show z22=((z2 - z13)*(z5 - z14) - (z3 - z14)*(z4 - z13)) / z12 by rw [e22,e21,e20,e19,e18,e17,e16,e15]) (show z28=((z4 - z13)*(z1 - z14) - (z5 - z14)*(z0 - z13)) / z12 by rw [e28,e27,e26,e25,e24,e23,e18,e17]) (show z32=((z0 - z13)*(z3 - z14) - (z1 - z14)*(z2 - z13)) / z12 by rw [e32,e31,e30,e29,e24,e23,e16,e15])
 have ⟨h1,h2,h3,h4⟩ := au_one u0 (show z12=(z4 - z2)*(z1 - z3) - (z5 - z3)*(z0 - z2) by rw [e12,e11,e10,e9,e8,e7,e6]; clear u0 us hw hp1 hp2; grind) us (show z51=z32+z22 by rw [e51,e50,e33]; clear u0 us hw hp1 hp2; grind) (show z28+z32+z22=1 by rw [← hw] <;> grind) (show z13=z28*z2+z32*z4+z22*z0 by rw [hp1]; grind) (show z14=z28*z3+z32*z5+z22*z1 by rw [hp2]; grind) (show z62=(z32*z4+z22*z0) / z51 by rw [e62]; congr 1; rw [e60,e58,e56,e54,e52,e44,e33]; clear u0 us hw hp1 hp2; grind) (show z63=(z32*z5+z22*z1) / z51 by rw [e63]; congr 1; rw [e61,e59,e57,e55,e53,e45,e33]; clear u0 us hw hp1 hp2; grind) e91 e92 e93 e94
 refine ⟨fun h => h1 (by rw [e97,e95,e96] at h; exact h),by rw [e100,e98,e99]; exact h2,by rw [e104,e103,e101,e102,e97,e95,e96]; exact h3,h4,hw⟩
theorem gA_R1 (H : gA_Q q σ) : (¬ (q 12=0))→(¬ (q 51=0))→(¬ (q 97=0)∧q 100=0∧q 104=q 28∧(q 62=q 2→q 63=q 3→False)∧q 22+q 28+q 32=1) := by
 have e6:q 6=q 2-q 0:=H 6 _ rfl;have e7:q 7=q 3-q 1:=H 7 _ rfl;have e8:q 8=q 4-q 0:=H 8 _ rfl;have e9:q 9=q 5-q 1:=H 9 _ rfl;have e10:q 10=q 6*q 9:=H 10 _ rfl;have e11:q 11=q 7*q 8:=H 11 _ rfl;have e12:q 12=q 10-q 11:=H 12 _ rfl;have e15:q 15=q 2-q 13:=H 15 _ rfl;have e16:q 16=q 3-q 14:=H 16 _ rfl;have e17:q 17=q 4-q 13:=H 17 _ rfl;have e18:q 18=q 5-q 14:=H 18 _ rfl;have e19:q 19=q 15*q 18:=H 19 _ rfl;have e20:q 20=q 16*q 17:=H 20 _ rfl;have e21:q 21=q 19-q 20:=H 21 _ rfl;have e22:q 22=q 21/q 12:=H 22 _ rfl;have e23:q 23=q 0-q 13:=H 23 _ rfl;have e24:q 24=q 1-q 14:=H 24 _ rfl;have e25:q 25=q 17*q 24:=H 25 _ rfl;have e26:q 26=q 18*q 23:=H 26 _ rfl;have e27:q 27=q 25-q 26:=H 27 _ rfl;have e28:q 28=q 27/q 12:=H 28 _ rfl;have e29:q 29=q 23*q 16:=H 29 _ rfl;have e30:q 30=q 24*q 15:=H 30 _ rfl;have e31:q 31=q 29-q 30:=H 31 _ rfl;have e32:q 32=q 31/q 12:=H 32 _ rfl;have e33:q 33=0:=(H 33 _ rfl).trans gA_c33;have e44:q 44=q 4*q 32:=H 44 _ rfl;have e45:q 45=q 5*q 32:=H 45 _ rfl;have e50:q 50=q 22+q 33:=H 50 _ rfl;have e51:q 51=q 50+q 32:=H 51 _ rfl;have e52:q 52=q 0*q 22:=H 52 _ rfl;have e53:q 53=q 1*q 22:=H 53 _ rfl;have e54:q 54=q 33+q 52:=H 54 _ rfl;have e55:q 55=q 33+q 53:=H 55 _ rfl;have e56:q 56=q 2*q 33:=H 56 _ rfl;have e57:q 57=q 3*q 33:=H 57 _ rfl;have e58:q 58=q 54+q 56:=H 58 _ rfl;have e59:q 59=q 55+q 57:=H 59 _ rfl;have e60:q 60=q 58+q 44:=H 60 _ rfl;have e61:q 61=q 59+q 45:=H 61 _ rfl;have e62:q 62=q 60/q 51:=H 62 _ rfl;have e63:q 63=q 61/q 51:=H 63 _ rfl;have e91:q 91=q 2-q 62:=H 91 _ rfl;have e92:q 92=q 3-q 63:=H 92 _ rfl;have e93:q 93=q 13-q 62:=H 93 _ rfl;have e94:q 94=q 14-q 63:=H 94 _ rfl;have e95:q 95=q 91*q 91:=H 95 _ rfl;have e96:q 96=q 92*q 92:=H 96 _ rfl;have e97:q 97=q 95+q 96:=H 97 _ rfl;have e98:q 98=q 91*q 94:=H 98 _ rfl;have e99:q 99=q 92*q 93:=H 99 _ rfl;have e100:q 100=q 98-q 99:=H 100 _ rfl;have e101:q 101=q 93*q 91:=H 101 _ rfl;have e102:q 102=q 94*q 92:=H 102 _ rfl;have e103:q 103=q 101+q 102:=H 103 _ rfl;have e104:q 104=q 103/q 97:=H 104 _ rfl
 exact gA_R1z e6 e7 e8 e9 e10 e11 e12 e15 e16 e17 e18 e19 e20 e21 e22 e23 e24 e25 e26 e27 e28 e29 e30 e31 e32 e33 e44 e45 e50 e51 e52 e53 e54 e55 e56 e57 e58 e59 e60 e61 e62 e63 e91 e92 e93 e94 e95 e96 e97 e98 e99 e100 e101 e102 e103 e104
theorem gA_R2z {z0 z1 z2 z3 z4 z5 z6 z7 z8 z9 z10 z11 z12 z13 z14 z15 z16 z17 z18 z19 z20 z21 z22 z23 z24 z25 z26 z27 z28 z29 z30 z31 z32 z33 z40 z41 z52 z53 z54 z55 z64 z65 z66 z67 z68 z69 z70 z71 z72 z73 z107 z108 z109 z110 z111 z112 z113 z114 z115 z116 z117 z118 z119 z120 : Rat} : z6=z2-z0→z7=z3-z1→z8=z4-z0→z9=z5-z1→z10=z6*z9→z11=z7*z8→z12=z10-z11→z15=z2-z13→z16=z3-z14→z17=z4-z13→z18=z5-z14→z19=z15*z18→z20=z16*z17→z21=z19-z20→z22=z21/z12→z23=z0-z13→z24=z1-z14→z25=z17*z24→z26=z18*z23→z27=z25-z26→z28=z27/z12→z29=z23*z16→z30=z24*z15→z31=z29-z30→z32=z31/z12→z33=0→z40=z2*z28→z41=z3*z28→z52=z0*z22→z53=z1*z22→z54=z33+z52→z55=z33+z53→z64=z22+z28→z65=z64+z33→z66=z54+z40→z67=z55+z41→z68=z4*z33→z69=z5*z33→z70=z66+z68→z71=z67+z69→z72=z70/z65→z73=z71/z65→z107=z4-z72→z108=z5-z73→z109=z13-z72→z110=z14-z73→z111=z107*z107→z112=z108*z108→z113=z111+z112→z114=z107*z110→z115=z108*z109→z116=z114-z115→z117=z109*z107→z118=z110*z108→z119=z117+z118→z120=z119/z113→(¬ (z12=0))→(¬ (z65=0))→(¬ (z113=0)∧z116=0∧z120=z32∧(z72=z4→z73=z5→False)∧z22+z28+z32=1) := by
 intro e6 e7 e8 e9 e10 e11 e12 e15 e16 e17 e18 e19 e20 e21 e22 e23 e24 e25 e26 e27 e28 e29 e30 e31 e32 e33 e40 e41 e52 e53 e54 e55 e64 e65 e66 e67 e68 e69 e70 e71 e72 e73 e107 e108 e109 e110 e111 e112 e113 e114 e115 e116 e117 e118 e119 e120
 intro u0 us
 have ⟨hw,hp1,hp2⟩ := au_w u0 (show z12=(z2 - z0)*(z5 - z1) - (z3 - z1)*(z4 - z0) by rw [e12,e11,e10,e9,e8,e7,e6]) (show z22=((z2 - z13)*(z5 - z14) - (z3 - z14)*(z4 - z13)) / z12 by rw [e22,e21,e20,e19,e18,e17,e16,e15]) (show z28=((z4 - z13)*(z1 - z14) - (z5 - z14)*(z0 - z13)) / z12 by rw [e28,e27,e26,e25,e24,e23,e18,e17]) (show z32=((z0 - z13)*(z3 - z14) - (z1 - z14)*(z2 - z13)) / z12 by rw [e32,e31,e30,e29,e24,e23,e16,e15])
 have ⟨h1,h2,h3,h4⟩ := au_one u0 (show z12=(z0 - z4)*(z3 - z5) - (z1 - z5)*(z2 - z4) by rw [e12,e11,e10,e9,e8,e7,e6]; clear u0 us hw hp1 hp2; grind) us (show z65=z22+z28 by rw [e65,e64,e33]; clear u0 us hw hp1 hp2; grind) (show z32+z22+z28=1 by rw [← hw] <;> grind) (show z13=z32*z4+z22*z0+z28*z2 by rw [hp1]; grind) (show z14=z32*z5+z22*z1+z28*z3 by rw [hp2]; grind) (show z72=(z22*z0+z28*z2) / z65 by rw [e72]; congr 1; rw [e70,e68,e66,e54,e52,e40,e33]; clear u0 us hw hp1 hp2; grind) (show z73=(z22*z1+z28*z3) / z65 by rw [e73]; congr 1; rw [e71,e69,e67,e55,e53,e41,e33]; clear u0 us hw hp1 hp2; grind) e107 e108 e109 e110
 refine ⟨fun h => h1 (by rw [e113,e111,e112] at h; exact h),by rw [e116,e114,e115]; exact h2,by rw [e120,e119,e117,e118,e113,e111,e112]; exact h3,h4,hw⟩
theorem gA_R2 (H : gA_Q q σ) : (¬ (q 12=0))→(¬ (q 65=0))→(¬ (q 113=0)∧q 116=0∧q 120=q 32∧(q 72=q 4→q 73=q 5→False)∧q 22+q 28+q 32=1) := by
 have e6:q 6=q 2-q 0:=H 6 _ rfl;have e7:q 7=q 3-q 1:=H 7 _ rfl;have e8:q 8=q 4-q 0:=H 8 _ rfl;have e9:q 9=q 5-q 1:=H 9 _ rfl;have e10:q 10=q 6*q 9:=H 10 _ rfl;have e11:q 11=q 7*q 8:=H 11 _ rfl;have e12:q 12=q 10-q 11:=H 12 _ rfl;have e15:q 15=q 2-q 13:=H 15 _ rfl;have e16:q 16=q 3-q 14:=H 16 _ rfl;have e17:q 17=q 4-q 13:=H 17 _ rfl;have e18:q 18=q 5-q 14:=H 18 _ rfl;have e19:q 19=q 15*q 18:=H 19 _ rfl;have e20:q 20=q 16*q 17:=H 20 _ rfl;have e21:q 21=q 19-q 20:=H 21 _ rfl;have e22:q 22=q 21/q 12:=H 22 _ rfl;have e23:q 23=q 0-q 13:=H 23 _ rfl;have e24:q 24=q 1-q 14:=H 24 _ rfl;have e25:q 25=q 17*q 24:=H 25 _ rfl;have e26:q 26=q 18*q 23:=H 26 _ rfl;have e27:q 27=q 25-q 26:=H 27 _ rfl;have e28:q 28=q 27/q 12:=H 28 _ rfl;have e29:q 29=q 23*q 16:=H 29 _ rfl;have e30:q 30=q 24*q 15:=H 30 _ rfl;have e31:q 31=q 29-q 30:=H 31 _ rfl;have e32:q 32=q 31/q 12:=H 32 _ rfl;have e33:q 33=0:=(H 33 _ rfl).trans gA_c33;have e40:q 40=q 2*q 28:=H 40 _ rfl;have e41:q 41=q 3*q 28:=H 41 _ rfl;have e52:q 52=q 0*q 22:=H 52 _ rfl;have e53:q 53=q 1*q 22:=H 53 _ rfl;have e54:q 54=q 33+q 52:=H 54 _ rfl;have e55:q 55=q 33+q 53:=H 55 _ rfl;have e64:q 64=q 22+q 28:=H 64 _ rfl;have e65:q 65=q 64+q 33:=H 65 _ rfl;have e66:q 66=q 54+q 40:=H 66 _ rfl;have e67:q 67=q 55+q 41:=H 67 _ rfl;have e68:q 68=q 4*q 33:=H 68 _ rfl;have e69:q 69=q 5*q 33:=H 69 _ rfl;have e70:q 70=q 66+q 68:=H 70 _ rfl;have e71:q 71=q 67+q 69:=H 71 _ rfl;have e72:q 72=q 70/q 65:=H 72 _ rfl;have e73:q 73=q 71/q 65:=H 73 _ rfl;have e107:q 107=q 4-q 72:=H 107 _ rfl;have e108:q 108=q 5-q 73:=H 108 _ rfl;have e109:q 109=q 13-q 72:=H 109 _ rfl;have e110:q 110=q 14-q 73:=H 110 _ rfl;have e111:q 111=q 107*q 107:=H 111 _ rfl;have e112:q 112=q 108*q 108:=H 112 _ rfl;have e113:q 113=q 111+q 112:=H 113 _ rfl;have e114:q 114=q 107*q 110:=H 114 _ rfl;have e115:q 115=q 108*q 109:=H 115 _ rfl;have e116:q 116=q 114-q 115:=H 116 _ rfl;have e117:q 117=q 109*q 107:=H 117 _ rfl;have e118:q 118=q 110*q 108:=H 118 _ rfl;have e119:q 119=q 117+q 118:=H 119 _ rfl;have e120:q 120=q 119/q 113:=H 120 _ rfl
 exact gA_R2z e6 e7 e8 e9 e10 e11 e12 e15 e16 e17 e18 e19 e20 e21 e22 e23 e24 e25 e26 e27 e28 e29 e30 e31 e32 e33 e40 e41 e52 e53 e54 e55 e64 e65 e66 e67 e68 e69 e70 e71 e72 e73 e107 e108 e109 e110 e111 e112 e113 e114 e115 e116 e117 e118 e119 e120
theorem gA_Es (H : gA_Q q σ) : (q 88=q 22)→(q 104=q 28)→(q 120=q 32)→(q 22+q 28+q 32=1)→(q 121=q 122) := by
 have e33:q 33=0:=(H 33 _ rfl).trans gA_c33;have e89:q 89=q 33+q 88:=H 89 _ rfl;have e105:q 105=q 89+q 104:=H 105 _ rfl;have e121:q 121=q 105+q 120:=H 121 _ rfl;have e122:q 122=1:=(H 122 _ rfl).trans gA_c122
 clear H
 intro h0 h1 h2 hw
 rw [e121,e105,e89,e33]; rw [e122,h0,h1,h2,← hw]; grind
theorem gA_r0 : (callC (sx Tryz.prog gA_N [(0,12,0,1)] [] gA_L gA_C gA_Z (prC [8])) [(82,61),(31,62),(30,63),(136,64),(61,60)] 5 [] 5 gA_A [] 0).map (·.1)=some (kB true) := by kernel_rfl
theorem gA_r1 : (callC (sx Tryz.prog gA_N [(0,12,0,0),(0,35,0,1)] [(45,[]),(110,[.inr (3,58,0,0,0),.inr (3,75,0,0,0)])] gA_L gA_C gA_Z (prC [8])) [(82,61),(31,62),(30,63),(136,64),(61,60)] 8 [] 5 gA_A [] 0).map (·.1)=some (kB true) := by kernel_rfl
theorem gA_r2 : (callC (sx Tryz.prog gA_N [(0,12,0,0),(0,35,0,0),(0,51,0,1)] [(45,[]),(110,[.inr (3,58,0,0,0),.inr (3,75,0,0,0)])] gA_L gA_C gA_Z (prC [8])) [(82,61),(31,62),(30,63),(136,64),(61,60)] 8 [] 5 gA_A [] 0).map (·.1)=some (kB true) := by kernel_rfl
theorem gA_r3 : (callC (sx Tryz.prog gA_N [(0,12,0,0),(0,35,0,0),(0,51,0,0),(0,65,0,1)] [(45,[]),(110,[.inr (3,58,0,0,0),.inr (3,75,0,0,0)])] gA_L gA_C gA_Z (prC [8])) [(82,61),(31,62),(30,63),(136,64),(61,60)] 8 [] 5 gA_A [] 0).map (·.1)=some (kB true) := by kernel_rfl
theorem gA_r4 : (callC (sx Tryz.prog gA_N [(0,12,0,0),(0,35,0,0),(0,51,0,0),(0,65,0,0),(0,74,0,0),(0,81,0,0),(0,84,0,1),(0,90,0,0),(0,97,0,0),(0,100,0,1),(0,106,0,0),(0,113,0,0),(0,116,0,1),(3,121,122,1)] [(45,[]),(110,[.inr (3,58,0,0,0),.inr (3,75,0,0,0)]),(59,[])] gA_L gA_C gA_Z (prC [8])) [(82,61),(31,62),(30,63),(136,64),(61,60)] 8 [] 5 gA_A [] 0).map (·.1)=some (kB true) := by kernel_rfl
theorem gA_An {a b : Prop} (x : a) (y : b) : a∧b := ⟨x,y⟩
theorem gA_leaf {H : List (Nat × Nat × Nat × Nat)} {K : List (FuncId × List AC)} {k : Nat} {q : Nat→Rat} {σ : Nat→ByteArray} {args : List AV} {vs : List Value} {w : World} (hr : (callC (sx Tryz.prog gA_N H K gA_L gA_C gA_Z (prC [8])) [(82,61),(31,62),(30,63),(136,64),(61,60)] k [] 5 args [] 0).map (·.1)=some (kB true)) (hσ : ∀ j,(σ j).size≤1048576) (hq : ∀ (a : Nat) nd,gA_N[a]? = some nd→q a=valN σ q nd) (h0 : ∀ a,gA_N.length≤a→q a=0) (hH : hAll q H) (hp : PreS w) (hA : ∀ K,A2 (avOn (cOn (evS q σ) K (fun _ => none) w)) args vs) : Calls Tryz.prog 5 vs.toArray w fun e w' => Below w.heap.size w w'∧e=.returned (.bool true) :=
 run_toldC' k (hy_ofA hσ gA_wf gA_sz gA_lt gA_cn hq h0 hH) (by simp [closed_cornered]) (by kernel_rfl) hr hp (hA K)
theorem gA_walk {w : World} {tax taz tbx tbz tcx tcz vx vz : ByteArray} (stax : tax.size≤1048576) (staz : taz.size≤1048576) (stbx : tbx.size≤1048576) (stbz : tbz.size≤1048576) (stcx : tcx.size≤1048576) (stcz : tcz.size≤1048576) (svx : vx.size≤1048576) (svz : vz.size≤1048576) (tab : Tab w) (mx : MaxL w) :
  Calls Tryz.prog 5 #[.agg #[.string tax,.string taz,.string tbx,.string tbz,.string tcx,.string tcz],.agg #[.string vx,.string vz]] w fun e w' => Below w.heap.size w w'∧e=.returned (.bool true) := by
 have hσ : ∀ j,(sgOf [tax,taz,tbx,tbz,tcx,tcz,vx,vz] j).size≤1048576 := sgOf_size (by simp [stax,staz,stbx,stbz,stcx,stcz,svx,svz])
 obtain ⟨q,hq,h0⟩ := nodes_exist (sgOf [tax,taz,tbx,tbz,tcx,tcz,vx,vz]) gA_N gA_wf
 have hA : ∀ K,A2 (avOn (cOn (evS q (sgOf [tax,taz,tbx,tbz,tcx,tcz,vx,vz])) K (fun _ => none) w)) [(false,[(true,[.inr (2,0,0,0,0),.inr (2,1,0,0,0),.inr (2,2,0,0,0),.inr (2,3,0,0,0),.inr (2,4,0,0,0),.inr (2,5,0,0,0)])]),(false,[(true,[.inr (2,6,0,0,0),.inr (2,7,0,0,0)])])] [.agg #[.string tax,.string taz,.string tbx,.string tbz,.string tcx,.string tcz],.agg #[.string vx,.string vz]] := fun K => ⟨⟨⟨[.string tax,.string taz,.string tbx,.string tbz,.string tcx,.string tcz],rfl,rfl,rfl,rfl,rfl,rfl,rfl,trivial⟩,trivial⟩,⟨⟨[.string vx,.string vz],rfl,rfl,rfl,trivial⟩,trivial⟩,trivial⟩
 by_cases b12 : q 12=0
 ·
  exact gA_leaf gA_r0 hσ hq h0 (gA_An (hT b12) trivial) ⟨tab,mx⟩ hA
 ·
  by_cases b35 : q 35=0
  ·
   exact gA_leaf gA_r1 hσ hq h0 (gA_An (hF b12) (gA_An (hT b35) trivial)) ⟨tab,mx⟩ hA
  ·
   by_cases b51 : q 51=0
   ·
    exact gA_leaf gA_r2 hσ hq h0 (gA_An (hF b12) (gA_An (hF b35) (gA_An (hT b51) trivial))) ⟨tab,mx⟩ hA
   ·
    by_cases b65 : q 65=0
    ·
     exact gA_leaf gA_r3 hσ hq h0 (gA_An (hF b12) (gA_An (hF b35) (gA_An (hF b51) (gA_An (hT b65) trivial)))) ⟨tab,mx⟩ hA
    ·
     have gN0 := par_ne (hq 74 _ rfl) (hq 0 _ rfl) (hq 1 _ rfl) (gA_R0 hq b12 b35).2.2.2.1
     have b74 : ¬ (q 74=0) := gN0
     have gR0 := gA_R0 hq b12 b35
     have b81 : ¬ (q 81=0) := gR0.1
     have b84 : q 84=0 := gR0.2.1
     have gN1 := par_ne (hq 90 _ rfl) (hq 2 _ rfl) (hq 3 _ rfl) (gA_R1 hq b12 b51).2.2.2.1
     have b90 : ¬ (q 90=0) := gN1
     have gR1 := gA_R1 hq b12 b51
     have b97 : ¬ (q 97=0) := gR1.1
     have b100 : q 100=0 := gR1.2.1
     have gN2 := par_ne (hq 106 _ rfl) (hq 4 _ rfl) (hq 5 _ rfl) (gA_R2 hq b12 b65).2.2.2.1
     have b106 : ¬ (q 106=0) := gN2
     have gR2 := gA_R2 hq b12 b65
     have b113 : ¬ (q 113=0) := gR2.1
     have b116 : q 116=0 := gR2.2.1
     have gEs := gA_Es hq gR0.2.2.1 gR1.2.2.1 gR2.2.2.1 gR0.2.2.2.2
     have a_3_121_122 : q 121=q 122 := gEs
     exact gA_leaf gA_r4 hσ hq h0 (gA_An (hF b12) (gA_An (hF b35) (gA_An (hF b51) (gA_An (hF b65) (gA_An (hF b74) (gA_An (hF b81) (gA_An (hT b84) (gA_An (hF b90) (gA_An (hF b97) (gA_An (hT b100) (gA_An (hF b106) (gA_An (hF b113) (gA_An (hT b116) (gA_An (hT a_3_121_122) trivial)))))))))))))) ⟨tab,mx⟩ hA
end Go.Proofs.YtglilpjckmgbcaaGreatDoor
