/- Part 13 of the walks and of the mathematics under them: VP VPC VPD VPE VY VSZ VSA CFconed MKF. -/
import Derived.Test.YtjfodeihndjpjaaGreatDoorA2
import Derived.Test.YtjfodeihndjpjaaGreatDoorA12
set_option maxHeartbeats 16000000
set_option maxRecDepth 100000
/- VP -/
namespace Cx
open Go Go.RowKit
abbrev Hs := List (Nat × Nat × Nat × Nat)
def Sx.plus (S : Sx) (X : Hs) : Sx := { S with H := X ++ S.H }
abbrev Ask := Nat × Nat × Nat × Nat
def askZ (a : Nat) : Ask := (0,a,0,a)
def askOk (S : Sx) : Ask→Bool
 | (k,a,b,d) => (Nat.beq k 0 && (Nat.beq b 0 && Nat.beq d a)) || (Nat.beq k 3 && (match S.N[d]? with
  | some (op,ar) => Nat.beq op 3 && beqL ar [a,b]
  | none => false))
def acrossB (S : Sx) (a b : Nat) : List Nat→List Nat→Option (List Ask)
 | c :: l,d :: m => (S.nd 4 [a,d]).bind fun x => (S.nd 4 [c,b]).bind fun y => (S.nd 3 [x,y]).bind fun z => (acrossB S a b l m).map fun r => (3,x,y,z) :: r
 | _,_ => some []
def alikeB (S : Sx) : List Nat→List Nat→List Nat→List Nat→Option (List Ask)
 | pl,pm,a :: l,b :: m => (acrossB S a b pl pm).bind fun r => (alikeB S (pl ++ [a]) (pm ++ [b]) l m).map fun t => r ++ t
 | _,_,_,_ => some []
def sameA (S : Sx) : List Nat→List Nat→Option (List Ask)
 | a :: l,b :: m => (S.nd 3 [a,b]).bind fun d => (sameA S l m).map fun r => (3,a,b,d) :: r
 | _,_ => some []
def asks (S : Sx) (h : List HB) (code : Nat) (args : List AV) : Option (List Ask) :=
 match code with
 | 60 => arg1 (fun x => (asA x).bind fun cs => (qRow S cs).map fun l => l.map askZ) args
 | 61 => arg1 (fun x => (rowB h 1 x).bind fun p => (mapO (acX 0) p.2).map fun l => l.map askZ) args
 | 62 => arg2 (fun x y => (rowB h 1 x).bind fun p => (mapO (acX 0) p.2).bind fun l => (rowB h 1 y).bind fun p' => (mapO (acX 0) p'.2).bind fun m => alikeB S [] [] l m) args
 | 63 => arg1 (fun x => (asA x).bind fun cs => (mapO acTold cs).bind fun l => (plainOf S l).map fun xs => xs.map askZ) args
 | 67 => arg1 (fun x => (asA x).bind fun cs => (mapO (txNode S) (cs.take 3)).map fun l => l.map askZ) args
 | 65 => arg1 (fun x => (asA x).bind fun cs => (mapO (acX 0) cs).map fun l => l.map askZ) args
 | 66 => arg2 (fun x y => (asA x).bind fun cs => (asA y).bind fun ds => (mapO (acX 0) cs).bind fun l => (mapO (acX 0) ds).bind fun m => sameA S l m) args
 | 64 => arg1 (fun x => (asA x).bind fun cs => (qRow S cs).map fun l => (l.take 5).map askZ) args
 | _ => none
def splits : List Ask→Hs→List Hs
 | [],_ => []
 | (k,a,b,_) :: l,X => ((k,a,b,0) :: X) :: splits l ((k,a,b,1) :: X)
def allZ : List Ask→Hs→Hs
 | [],X => X
 | (k,a,b,_) :: l,X => allZ l ((k,a,b,1) :: X)
def bodyC (S : Sx) (call : CallF) : CallF := fun f args h nx => S.P.funcs[f]?.bind fun fn => fn.body.bind fun c => ifO (Nat.ble args.length fn.ntmps) ((runB S call fn.ntmps c { tm := numb1 0 args,h := h,nx := nx }).bind fun r =>
   ifO (Nat.ble r.1 1) ((mapO (resB S.P r.2) fn.results.toList).map fun xs => (tupB xs,r.2.h,r.2.nx)))
abbrev CRes := Option (AV × List HB × Nat)
def agree (h : List HB) (b : Bool) (hi : Nat) : CRes→Bool
 | some (v,h',nx') => (match asB v with
  | some c => b == c
  | none => false) && (Nat.ble nx' hi && h.all fun x => h'.any fun y => Nat.beq y.1 x.1 && acsW x.2 y.2)
 | none => false
def topN : Nat→List CRes→Nat
 | m,[] => m
 | m,some p :: rs => topN (bif Nat.ble m p.2.2 then p.2.2 else m) rs
 | m,none :: rs => topN m rs
def joinC (h : List HB) (nx : Nat) (rs : List CRes) : CRes :=
 match rs with
 | some p :: _ => (asB p.1).bind fun b => ifO (rs.all (agree h b (topN nx rs))) (some (kB b,h,topN nx rs))
 | _ => none
def askIt (S : Sx) (X : Hs) (h : List HB) (c : Nat) (args : List AV) : Option (List Ask × Nat) :=
 (asks (S.plus X) h c args).bind fun l => ifO (l.all (askOk S)) ((sqN S (l.map (·.2.2.2))).bind fun s => ((S.plus X).kn 0 s 0).map fun r => (l,r))
theorem askIt_some {S : Sx} {X : Hs} {h : List HB} {c : Nat} {args : List AV} {l : List Ask} {r : Nat} (e : askIt S X h c args=some (l,r)) : (∀ a ∈ l,askOk S a=true)∧∃ s,sqN S (l.map (·.2.2.2))=some s∧(S.plus X).kn 0 s 0=some r := by
 unfold askIt at e
 simp only [Option.bind_eq_some_iff,ifO_some,Option.map_eq_some_iff,List.all_eq_true,Prod.mk.injEq] at e
 obtain ⟨l',_,h1,s,h2,r',h3,rfl,rfl⟩ := e
 exact ⟨h1,s,h2,h3⟩
def callC (S : Sx) (cs : List (FuncId × Nat)) : Nat→Hs→CallF
 | 0,_,_,_,_,_ => none
 | n+1,X,f,args,h,nx => match prGet f cs with
  | none => bodyC (S.plus X) (callC S cs n X) f args h nx
  | some c => match askIt S X h c args with
   | none => bodyC (S.plus X) (callC S cs n X) f args h nx
   | some (l,r) => bif Nat.beq 1 r then bodyC (S.plus (allZ l X)) (callC S cs n (allZ l X)) f args h nx
    else joinC h nx ((splits l X).map fun X' => bodyC (S.plus X') (callC S cs n X') f args h nx)
section
variable {S : Sx} {E : Ev S.nb} {w0 : World}
theorem bodyC_ok {call : CallF} (hm : S.P.follows .mixedOrders=true) (N : Knows S E) (hP : PrimOk S E w0) (hC : CallOk S E w0 call) : CallOk S E w0 (bodyC S call) := fun f args h nx p hp γ w vs hi hA hb hlt hf => by
 unfold bodyC at hp
 simp only [Option.bind_eq_some_iff,ifO_some,Option.map_eq_some_iff,Nat.ble_eq] at hp
 obtain ⟨fn,h1,c,h2,h3,⟨e,s'⟩,h4,h5,xs,h6,rfl⟩ := hp
 dsimp only at h5 h6
 rcases (show e=0 ∨ e=1 by omega) with rfl | rfl
 all_goals
  obtain ⟨_,_,r⟩ := runB_ok hm N hP hC c _ _ _ h4
  refine calls_of_wp h1 h2 (r γ _ w _ ⟨hi,fun t v q => ?_,hb,hlt,?_,rfl⟩ hf fun a' w' γ' hef hs => ?_)
  ·obtain ⟨_,q2⟩ := numb1_get q
   rw [Nat.sub_zero] at q2
   obtain ⟨u,hu,hv⟩ := hA.get q2
   have hlt : t < vs.length := (List.getElem?_eq_some_iff.1 hu).1
   have : (vs.toArray ++ Array.replicate (fn.ntmps - vs.toArray.size) undef).getD t undef=u := by
    rw [Array.getD_eq_getD_getElem?,Array.getElem?_append_left (by simpa using hlt)]
    simp [hu]
   show avOn _ v ((vs.toArray ++ Array.replicate (fn.ntmps - vs.toArray.size) undef).getD t undef)
   rw [this]
   exact hv
  ·have := hA.len
   simp
   omega
  ·obtain ⟨v,hv,hx⟩ := results_run hs h6
   exact ⟨hs.df,v,hv,v,γ',rfl,hef,hx,hs.bx⟩
theorem asB_kB {v : AV} {b : Bool} (h : asB v=some b) : v=kB b := by
 unfold asB at h
 rw [Option.bind_eq_some_iff] at h
 obtain ⟨c,h1,h2⟩ := h
 unfold asC at h1
 split at h1
 ·cases h1
  unfold acB at h2
  split at h2
  ·cases h2
   rfl
  ·cases h2
 ·cases h1
theorem agree_some {h : List HB} {b : Bool} {hi : Nat} {r : CRes} (hr : agree h b hi r=true) : ∃ h' nx',r=some (kB b,h',nx')∧nx'≤hi∧∀ x ∈ h,x ∈ h' := by
 unfold agree at hr
 split at hr
 ·rename_i v h' nx'
  rw [Bool.and_eq_true,Bool.and_eq_true,Nat.ble_eq,List.all_eq_true] at hr
  obtain ⟨h1,h2,h3⟩ := hr
  refine ⟨h',nx',?_,h2,fun x hx => ?_⟩
  ·split at h1
   ·rename_i c hc
    rw [asB_kB hc,show c=b from (by simpa using h1 : b=c).symm]
   ·cases h1
  ·have := h3 x hx
   rw [List.any_eq_true] at this
   obtain ⟨y,hy,e⟩ := this
   rw [Bool.and_eq_true,Nat.beq_eq] at e
   have : x=y := Prod.ext e.1.symm (acsW_eq e.2)
   rw [this]
   exact hy
 ·cases hr
variable {T : Hs→Prop} {z : Nat→Prop}
def AskTrue (S : Sx) (T : Hs→Prop) (z : Nat→Prop) : Prop := ∀ X,T X→∀ a,askOk S a=true→(z a.2.2.2→T ((a.1,a.2.1,a.2.2.1,1) :: X))∧(¬ z a.2.2.2→T ((a.1,a.2.1,a.2.2.1,0) :: X))
theorem allZ_true (hk : AskTrue S T z) : ∀ {l : List Ask} {X : Hs},T X→(∀ a ∈ l,askOk S a=true)→(∀ a ∈ l,z a.2.2.2)→T (allZ l X)
 | [],_,h,_,_ => h
 | (k,a,b,d) :: l,X,h,ho,hz => allZ_true (l := l) hk ((hk X h (k,a,b,d) (ho _ List.mem_cons_self)).1 (hz _ List.mem_cons_self)) (fun a ha => ho a (List.mem_cons_of_mem _ ha)) (fun a ha => hz a (List.mem_cons_of_mem _ ha))
theorem splits_true (hk : AskTrue S T z) : ∀ {l : List Ask} {X : Hs},T X→(∀ a ∈ l,askOk S a=true)→(∃ a ∈ l,¬ z a.2.2.2)→∃ X' ∈ splits l X,T X'
 | [],_,_,_,⟨_,h,_⟩ => by cases h
 | (k,a,b,d) :: l,X,h,ho,hz => by
  by_cases e : z d
  ·obtain ⟨X',h1,h2⟩ := splits_true (l := l) hk ((hk X h (k,a,b,d) (ho _ List.mem_cons_self)).1 e) (fun a ha => ho a (List.mem_cons_of_mem _ ha)) (by
    obtain ⟨c,hc,hn⟩ := hz
    rcases List.mem_cons.1 hc with rfl | hc
    ·exact (hn e).elim
    ·exact ⟨c,hc,hn⟩)
   exact ⟨X',List.mem_cons_of_mem _ h1,h2⟩
  ·exact ⟨_,List.mem_cons_self,(hk X h (k,a,b,d) (ho _ List.mem_cons_self)).2 e⟩
theorem callC_ok {cs : List (FuncId × Nat)} (hm : S.P.follows .mixedOrders=true) (hN : ∀ X,T X→Knows (S.plus X) E) (hP : ∀ X,T X→PrimOk (S.plus X) E w0) (hk : AskTrue S T z)
  (hs : ∀ X,T X→∀ l s r,sqN S l=some s→(S.plus X).kn 0 s 0=some r→(Nat.beq 1 r=true→∀ d ∈ l,z d)∧(Nat.beq 1 r=false→∃ d ∈ l,¬ z d)) : ∀ n X,T X→CallOk S E w0 (callC S cs n X)
 | 0,_,_ => fun _ _ _ _ _ h => by cases h
 | n+1,X,hX => fun f args h nx p hp => by
  have body : ∀ Y,T Y→CallOk S E w0 (bodyC (S.plus Y) (callC S cs n Y)) := fun Y hY => bodyC_ok (S := S.plus Y) hm (hN Y hY) (hP Y hY) (callC_ok hm hN hP hk hs n Y hY)
  unfold callC at hp
  split at hp
  ·exact body X hX f args h nx p hp
  ·split at hp
   ·exact body X hX f args h nx p hp
   rename_i l r hk'
   obtain ⟨hl,s,h1,h2⟩ := askIt_some hk'
   have h3 := hp
   obtain ⟨a1,a0⟩ := hs X hX _ s r h1 h2
   cases e : Nat.beq 1 r with
   | true =>
    rw [e] at h3
    exact body _ (allZ_true hk hX hl fun a ha => a1 e _ (List.mem_map_of_mem ha)) f args h nx p h3
   | false =>
    rw [e] at h3
    obtain ⟨d,hd,hz⟩ := a0 e
    obtain ⟨a,ha,rfl⟩ := List.mem_map.1 hd
    obtain ⟨X',m1,m2⟩ := splits_true hk hX hl ⟨a,ha,hz⟩
    replace h3 : joinC h nx ((splits l X).map fun X' => bodyC (S.plus X') (callC S cs n X') f args h nx)=some p := h3
    unfold joinC at h3
    split at h3
    ·rename_i p0 rs hrs
     rw [Option.bind_eq_some_iff] at h3
     obtain ⟨b,hb,h4⟩ := h3
     rw [ifO_some,List.all_eq_true] at h4
     obtain ⟨h5,h6⟩ := h4
     cases h6
     obtain ⟨h',nx',q1,q2,q3⟩ := agree_some (h5 _ (List.mem_map_of_mem m1))
     intro γ w vs hi hA hb hlt hf
     refine (body X' m2 f args h nx _ q1 γ w vs hi hA hb hlt fun b g1 g2 => hf b g1 (Nat.lt_of_lt_of_le g2 q2)).mono ?_
     rintro _ w' ⟨r',γ',rfl,hef,hv,hx⟩
     exact ⟨r',γ',rfl,hef.wide (Nat.le_refl _) q2,hv,fun x hh => hx x (q3 x hh)⟩
    ·cases h3
end
end Cx
/- VPC -/
namespace Go.Proofs.YtjfodeihndjpjaaGreatDoor
open Cx Go Go.RowKit
section
variable {N : List Nd} {H : List (Nat × Nat × Nat × Nat)} {K : List (FuncId × List AC)} {L C : List (List Nat × Nat)} {Z : List Nat} {q : Nat→Rat} {σ : Nat→ByteArray} {w0 : World} {cl : List FuncId} {cs pr : List (FuncId × Nat)}
theorem kn_cons {k a b k' a' b' r' : Nat} {r : Nat} (h : knFrom k a b ((k',a',b',r') :: H)=some r) : (k=k'∧a=a'∧b=b'∧r=r') ∨ knFrom k a b H=some r := by
 unfold knFrom at h
 cases e : (Nat.beq k k' && (Nat.beq a a' && Nat.beq b b')) with
 | true =>
  rw [e] at h
  simp only [Bool.and_eq_true,Nat.beq_eq] at e
  exact Or.inl ⟨e.1,e.2.1,e.2.2,(Option.some.inj h).symm⟩
 | false =>
  rw [e] at h
  exact Or.inr h
theorem Hy.add0 (Y : Hy N H L C Z q σ) {a r : Nat} (h : Nat.beq 1 r=true ↔ q a=0) : Hy N ((0,a,0,r) :: H) L C Z q σ where
 nat := Y.nat
 qs := Y.qs
 zs := Y.zs
 par := Y.par
 lit := Y.lit
 k0 := fun a' r' g => by
  rcases kn_cons g with ⟨_,e1,_,e2⟩ | g
  ·rw [e1,e2]
   exact h
  ·exact Y.k0 a' r' g
 k1 := fun a' r' g => by
  rcases kn_cons g with ⟨e,_⟩ | g
  ·cases e
  ·exact Y.k1 a' r' g
 k2 := fun a' r' g => by
  rcases kn_cons g with ⟨e,_⟩ | g
  ·cases e
  ·exact Y.k2 a' r' g
 k4 := fun l a' b' r' g1 g => by
  rcases kn_cons g with ⟨e,_⟩ | g
  ·cases e
  ·exact Y.k4 l a' b' r' g1 g
 k3 := fun a' b' r' g => by
  rcases kn_cons g with ⟨e,_⟩ | g
  ·cases e
  ·exact Y.k3 a' b' r' g
 k6 := fun a' b' r' g => by
  rcases kn_cons g with ⟨e,_⟩ | g
  ·cases e
  ·exact Y.k6 a' b' r' g
 k5 := fun a' r' g => by
  rcases kn_cons g with ⟨e,_⟩ | g
  ·cases e
  ·exact Y.k5 a' r' g
theorem Hy.add3 (Y : Hy N H L C Z q σ) {a b r : Nat} (h : Nat.beq 1 r=true ↔ q a=q b) : Hy N ((3,a,b,r) :: H) L C Z q σ where
 nat := Y.nat
 qs := Y.qs
 zs := Y.zs
 par := Y.par
 lit := Y.lit
 k0 := fun a' r' g => by
  rcases kn_cons g with ⟨e,_⟩ | g
  ·cases e
  ·exact Y.k0 a' r' g
 k1 := fun a' r' g => by
  rcases kn_cons g with ⟨e,_⟩ | g
  ·cases e
  ·exact Y.k1 a' r' g
 k2 := fun a' r' g => by
  rcases kn_cons g with ⟨e,_⟩ | g
  ·cases e
  ·exact Y.k2 a' r' g
 k4 := fun l a' b' r' g1 g => by
  rcases kn_cons g with ⟨e,_⟩ | g
  ·cases e
  ·exact Y.k4 l a' b' r' g1 g
 k3 := fun a' b' r' g => by
  rcases kn_cons g with ⟨_,e1,e2,e3⟩ | g
  ·rw [e1,e2,e3]
   exact h
  ·exact Y.k3 a' b' r' g
 k6 := fun a' b' r' g => by
  rcases kn_cons g with ⟨e,_⟩ | g
  ·cases e
  ·exact Y.k6 a' b' r' g
 k5 := fun a' r' g => by
  rcases kn_cons g with ⟨e,_⟩ | g
  ·cases e
  ·exact Y.k5 a' r' g
theorem ask_true : AskTrue (sx Tryz.prog N H K L C Z pr) (fun X => Hy N (X ++ H) L C Z q σ) (fun d => q d=0) := fun X Y a ha => by
 obtain ⟨k,a,b,d⟩ := a
 have t1 : Nat.beq 1 1=true := rfl
 have t0 : Nat.beq 1 0 ≠ true := fun h => by cases h
 unfold askOk at ha
 rw [Bool.or_eq_true] at ha
 rcases ha with ha | ha
 ·simp only [Bool.and_eq_true,Nat.beq_eq] at ha
  obtain ⟨rfl,rfl,rfl⟩ := ha
  exact ⟨fun h => Hy.add0 Y ⟨fun _ => h,fun _ => t1⟩,fun h => Hy.add0 Y ⟨fun g => (t0 g).elim,fun g => (h g).elim⟩⟩
 ·rw [Bool.and_eq_true,Nat.beq_eq] at ha
  obtain ⟨rfl,hb⟩ := ha
  split at hb
  ·rename_i op ar hn
   rw [Bool.and_eq_true,Nat.beq_eq] at hb
   obtain ⟨rfl,hb⟩ := hb
   have e := beqL_eq hb
   subst e
   have hv : q d=q a - q b := Y.nat d _ hn
   have h2 : q d=0 ↔ q a=q b := by
    rw [hv]
    constructor <;> intro h <;> grind
   exact ⟨fun h => Hy.add3 Y ⟨fun _ => h2.1 h,fun _ => t1⟩,fun h => Hy.add3 Y ⟨fun g => (t0 g).elim,fun g => (h (h2.2 g)).elim⟩⟩
  ·cases hb
theorem sq_nn (y : Rat) : 0≤y*y := by
 by_cases h : y=0
 ·rw [h,Rat.zero_mul]
  exact Rat.le_refl
 ·exact Rat.le_of_lt (sq1_pos h)
theorem sq_sum {x y : Rat} (hx : 0≤x) : x+y*y=0 ↔ x=0∧y=0 := by
 constructor
 ·intro h
  have h2 := sq_nn y
  have h3 : x=0 := by grind
  refine ⟨h3,?_⟩
  have : y*y=0 := by grind
  rcases Rat.mul_eq_zero.1 this with g | g <;> exact g
 ·rintro ⟨rfl,rfl⟩
  grind
theorem sqF_val {H' : List (Nat × Nat × Nat × Nat)} (Y : Hy N H' L C Z q σ) : ∀ {l : List Nat} {s t : Nat},sqF (sx Tryz.prog N H K L C Z pr) s l=some t→0≤q s→0≤q t∧(q t=0 ↔ q s=0∧∀ d ∈ l,q d=0)
 | [],s,t,h,hs => by
  cases h
  exact ⟨hs,fun e => ⟨e,fun d hd => by cases hd⟩,fun e => e.1⟩
 | a :: l,s,t,h,hs => by
  unfold sqF at h
  simp only [Option.bind_eq_some_iff] at h
  obtain ⟨b,h1,c,h2,h3⟩ := h
  have e1 : q b=q a*q a := Hy.nd (H := H') (K := K) (pr := pr) Y h1
  have e2 : q c=q s+q b := Hy.nd (H := H') (K := K) (pr := pr) Y h2
  have n := sq_nn (q a)
  obtain ⟨g1,g2⟩ := sqF_val Y h3 (by grind)
  refine ⟨g1,g2.trans ?_⟩
  have e3 := sq_sum (y := q a) hs
  rw [e2,e1,e3]
  constructor
  ·rintro ⟨⟨x,y⟩,z⟩
   refine ⟨x,fun d hd => ?_⟩
   rcases List.mem_cons.1 hd with rfl | hd
   ·exact y
   ·exact z d hd
  ·rintro ⟨x,y⟩
   exact ⟨⟨x,y a List.mem_cons_self⟩,fun d hd => y d (List.mem_cons_of_mem _ hd)⟩
theorem sqN_val {H' : List (Nat × Nat × Nat × Nat)} (Y : Hy N H' L C Z q σ) {l : List Nat} {s : Nat} (h : sqN (sx Tryz.prog N H K L C Z pr) l=some s) : q s=0 ↔ ∀ d ∈ l,q d=0 := by
 unfold sqN at h
 split at h
 ·cases h
 ·rename_i a l
  rw [Option.bind_eq_some_iff] at h
  obtain ⟨b,h1,h2⟩ := h
  have e1 : q b=q a*q a := Hy.nd (H := H') (K := K) (pr := pr) Y h1
  have n := sq_nn (q a)
  obtain ⟨_,g⟩ := sqF_val Y h2 (by grind)
  rw [g,e1]
  constructor
  ·rintro ⟨x,y⟩ d hd
   rcases List.mem_cons.1 hd with rfl | hd
   ·rcases Rat.mul_eq_zero.1 x with x | x <;> exact x
   ·exact y d hd
  ·intro y
   refine ⟨?_,fun d hd => y d (List.mem_cons_of_mem _ hd)⟩
   rw [y a List.mem_cons_self,Rat.zero_mul]
theorem run_cases {f : FuncId} {args : List AV} {vs : List Value} {k : Nat} {p : List HB × Nat} {b : Bool} (Y : Hy N H L C Z q σ) (hm : (Tryz.prog).follows .mixedOrders=true) {w : World} (hP : ∀ H',Hy N H' L C Z q σ→PrimOk (sx Tryz.prog N H' K L C Z pr) (evS q σ) w) (hr : callC (sx Tryz.prog N H K L C Z pr) cs k [] f args [] 0=some (kB b,p))
  (hA : A2 (avOn (cOn (evS q σ) K (fun _ => none) w)) args vs) : Calls Tryz.prog f vs.toArray w fun e w' => Below w.heap.size w w'∧e=.returned (.bool b) := by
 refine (callC_ok (S := sx Tryz.prog N H K L C Z pr) (E := evS q σ) (w0 := w) (T := fun X => Hy N (X ++ H) L C Z q σ) (z := fun d => q d=0) hm (fun X hX => knows hX) (fun X hX => hP _ hX) ask_true ?_ k [] Y f args [] 0 (kB b,p) hr (fun _ => none) w vs ⟨Below.refl _ _,(fun _ _ h => by cases h)⟩ hA (fun x hx => by cases hx) (fun x hx => by cases hx) (fun _ _ _ => rfl)).mono ?_
 ·intro X hX l s r h1 h2
  have e := hX.k0 s r h2
  have g := sqN_val hX h1
  refine ⟨fun h => g.1 (e.1 h),fun h => ?_⟩
  have hn : ¬ ∀ d ∈ l,q d=0 := fun q' => by
   rw [e.2 (g.2 q')] at h
   cases h
  simpa using hn
 ·rintro _ w' ⟨r,γ',rfl,hef,hv,_⟩
  exact ⟨hef.wi.bel,by rw [show r=.bool b from (asC_on (v := kB b) (c := .inl (.bool b)) rfl hv).1]⟩
theorem run_toldC {f : FuncId} {args : List AV} {vs : List Value} {k : Nat} {p : List HB × Nat} {b : Bool} (Y : Hy N H L C Z q σ) (hc : ∀ f ∈ cl,Closed f) (hm : (Tryz.prog).follows .mixedOrders=true) (hr : callC (sx Tryz.prog N H K L C Z (prC cl)) cs k [] f args [] 0=some (kB b,p)) {w : World} (hp : PreS w)
  (hA : A2 (avOn (cOn (evS q σ) K (fun _ => none) w)) args vs) : Calls Tryz.prog f vs.toArray w fun e w' => Below w.heap.size w w'∧e=.returned (.bool b) := run_cases Y hm (fun _ Y' => primOk Y' hp hc) hr hA
theorem run_toldC' {f : FuncId} {args : List AV} {vs : List Value} (k : Nat) (Y : Hy N H L C Z q σ) (hc : ∀ f ∈ cl,Closed f) (hm : (Tryz.prog).follows .mixedOrders=true) (hr : (callC (sx Tryz.prog N H K L C Z (prC cl)) cs k [] f args [] 0).map (·.1)=some (kB true)) {w : World} (hp : PreS w)
  (hA : A2 (avOn (cOn (evS q σ) K (fun _ => none) w)) args vs) : Calls Tryz.prog f vs.toArray w fun e w' => Below w.heap.size w w'∧e=.returned (.bool true) := by
 rw [Option.map_eq_some_iff] at hr
 obtain ⟨⟨v,p⟩,h1,h2⟩ := hr
 dsimp only at h2
 subst h2
 exact run_toldC Y hc hm h1 hp hA
theorem sq_first {u x : Rat} (h : u=x*x) : 0≤u∧(u=0 ↔ x=0) := by
 rw [h]
 exact ⟨sq_nn x,fun e => (Rat.mul_eq_zero.1 e).elim id id,fun e => by rw [e,Rat.zero_mul]⟩
theorem sq_next {p : Prop} {s x v t : Rat} (h : 0≤s∧(s=0 ↔ p)) (hv : v=x*x) (ht : t=s+v) : 0≤t∧(t=0 ↔ (p∧x=0)) := by
 have n := sq_nn x
 refine ⟨by have := h.1; grind,?_⟩
 rw [ht,hv,sq_sum h.1,h.2]
end
end Go.Proofs.YtjfodeihndjpjaaGreatDoor
/- VPD -/
namespace Cx
open Go Go.RowKit
def a1sB : List A1→List A1→Bool
 | [],[] => true
 | (a,x) :: l,(b,y) :: m => (a == b && acsW x y) && a1sB l m
 | _,_ => false
theorem a1sB_eq : ∀ {l m : List A1},a1sB l m=true→l=m
 | [],[],_ => rfl
 | (a,x) :: l,(b,y) :: m,h => by
  unfold a1sB at h
  simp only [Bool.and_eq_true,beq_iff_eq] at h
  obtain ⟨⟨h1,h2⟩,h3⟩ := h
  rw [h1,acsW_eq h2,a1sB_eq h3]
 | [],_ :: _,h => by cases h
 | _ :: _,[],h => by cases h
def avsB : List AV→List AV→Bool
 | [],[] => true
 | (a,x) :: l,(b,y) :: m => (a == b && a1sB x y) && avsB l m
 | _,_ => false
theorem avsB_eq : ∀ {l m : List AV},avsB l m=true→l=m
 | [],[],_ => rfl
 | (a,x) :: l,(b,y) :: m,h => by
  unfold avsB at h
  simp only [Bool.and_eq_true,beq_iff_eq] at h
  obtain ⟨⟨h1,h2⟩,h3⟩ := h
  rw [h1,a1sB_eq h2,avsB_eq h3]
 | [],_ :: _,h => by cases h
 | _ :: _,[],h => by cases h
abbrev Memo := List (FuncId × List AV × AV)
def memoGet (f : FuncId) (args : List AV) : Memo→Option AV
 | [] => none
 | (g,bs,v) :: m => bif Nat.beq f g && avsB args bs then some v else memoGet f args m
theorem memoGet_mem {f : FuncId} {args : List AV} {v : AV} : ∀ {m : Memo},memoGet f args m=some v→(f,args,v) ∈ m
 | [],h => by cases h
 | (g,bs,u) :: m,h => by
  unfold memoGet at h
  cases e : (Nat.beq f g && avsB args bs) with
  | true =>
   rw [e] at h
   rw [Bool.and_eq_true,Nat.beq_eq] at e
   rw [e.1,avsB_eq e.2,show u=v from Option.some.inj h]
   exact List.mem_cons_self
  | false =>
   rw [e] at h
   exact List.mem_cons_of_mem _ (memoGet_mem h)
def bareC : AC→Bool
 | .inl _ => true
 | .inr (k,_) => Nat.ble k 2
def bareV (v : AV) : Bool := v.2.all fun x => x.2.all bareC
def callD (S : Sx) (cs : List (FuncId × Nat)) (M : Memo) : Nat→Hs→CallF
 | 0,_,_,_,_,_ => none
 | n+1,X,f,args,h,nx => match memoGet f args M with
  | some v => some (v,h,nx)
  | none => match prGet f cs with
   | none => bodyC (S.plus X) (callD S cs M n X) f args h nx
   | some c => match askIt S X h c args with
    | none => bodyC (S.plus X) (callD S cs M n X) f args h nx
    | some (l,r) => bif Nat.beq 1 r then bodyC (S.plus (allZ l X)) (callD S cs M n (allZ l X)) f args h nx
     else joinC h nx ((splits l X).map fun X' => bodyC (S.plus X') (callD S cs M n X') f args h nx)
def MemoOk (S : Sx) (E : Ev S.nb) (w0 : World) (M : Memo) : Prop := ∀ f args v,(f,args,v) ∈ M→∀ (γ : Nat→Option Nat) (w : World) (vs : List Value),WI w0 γ w→A2 (avOn (cOn E S.K γ w)) args vs →
 Calls S.P f vs.toArray w fun e w' => ∃ r,e=.returned r∧(∀ wr nx,(∀ b ∈ wr,Live γ b)→Ef S.nb w0 wr nx nx γ w γ w')∧avOn (cOn E S.K γ w') v r
section
variable {S : Sx} {E : Ev S.nb} {w0 : World}
theorem bareC_on {K K' : List (FuncId × List AC)} {γ γ' : Nat→Option Nat} {w : World} {d : Nat} {c : AC} {v : Value} (hc : bareC c=true) (h : cellOn E K γ w d c v) : cellOn E K' γ' w d c v := by
 cases c with
 | inl u =>
  unfold cellOn at h ⊢
  exact h
 | inr t =>
  obtain ⟨k,a,b,n,c⟩ := t
  have hk : k≤2 := by
   unfold bareC at hc
   rw [Nat.ble_eq] at hc
   exact hc
  match k,hk with
  | 0,_ =>
   unfold cellOn at h ⊢
   exact h
  | 1,_ =>
   unfold cellOn at h ⊢
   exact h
  | 2,_ =>
   unfold cellOn at h ⊢
   exact h
theorem A2_imp {α : Type} {R R' : α→Value→Prop} {P : α→Prop} (h : ∀ a v,P a→R a v→R' a v) : ∀ {l : List α} {vs : List Value},(∀ a ∈ l,P a)→A2 R l vs→A2 R' l vs
 | [],[],_,_ => trivial
 | _ :: _,_ :: _,hp,q => ⟨h _ _ (hp _ List.mem_cons_self) q.1,A2_imp h (fun a ha => hp a (List.mem_cons_of_mem _ ha)) q.2⟩
 | [],_ :: _,_,q => q.elim
 | _ :: _,[],_,q => q.elim
theorem bareV_on {K K' : List (FuncId × List AC)} {γ γ' : Nat→Option Nat} {w : World} {x : AV} {v : Value} (hx : bareV x=true) (h : avOn (cOn E K γ w) x v) : avOn (cOn E K' γ' w) x v := by
 unfold bareV at hx
 rw [List.all_eq_true] at hx
 have one : ∀ (y : A1) u,(∀ c ∈ y.2,bareC c=true)→a1On (cOn E K γ w) y u→a1On (cOn E K' γ' w) y u := fun y u hy q => by
  obtain ⟨b,cs⟩ := y
  cases b with
  | true =>
   obtain ⟨us,e,q⟩ := q
   exact ⟨us,e,A2_imp (P := fun c => bareC c=true) (fun _ _ hc q => bareC_on hc q) hy q⟩
  | false => exact A2_imp (P := fun c => bareC c=true) (fun _ _ hc q => bareC_on hc q) hy q
 have all : ∀ y ∈ x.2,∀ c ∈ y.2,bareC c=true := fun y hy c hc => (List.all_eq_true.1 (hx y hy)) c hc
 obtain ⟨b,ys⟩ := x
 cases b with
 | true =>
  obtain ⟨us,e,q⟩ := h
  exact ⟨us,e,A2_imp (P := fun y : A1 => ∀ c ∈ y.2,bareC c=true) (fun y u hy q => one y u hy q) all q⟩
 | false => exact A2_imp (P := fun y : A1 => ∀ c ∈ y.2,bareC c=true) (fun y u hy q => one y u hy q) all h
variable {T : Hs→Prop} {z : Nat→Prop}
theorem callD_ok {cs : List (FuncId × Nat)} {M : Memo} (hm : S.P.follows .mixedOrders=true) (hM : MemoOk S E w0 M) (hN : ∀ X,T X→Knows (S.plus X) E) (hP : ∀ X,T X→PrimOk (S.plus X) E w0) (hk : AskTrue S T z)
  (hs : ∀ X,T X→∀ l s r,sqN S l=some s→(S.plus X).kn 0 s 0=some r→(Nat.beq 1 r=true→∀ d ∈ l,z d)∧(Nat.beq 1 r=false→∃ d ∈ l,¬ z d)) : ∀ n X,T X→CallOk S E w0 (callD S cs M n X)
 | 0,_,_ => fun _ _ _ _ _ h => by cases h
 | n+1,X,hX => fun f args h nx p hp => by
  have body : ∀ Y,T Y→CallOk S E w0 (bodyC (S.plus Y) (callD S cs M n Y)) := fun Y hY => bodyC_ok (S := S.plus Y) hm (hN Y hY) (hP Y hY) (callD_ok hm hM hN hP hk hs n Y hY)
  unfold callD at hp
  split at hp
  ·rename_i v hv
   cases hp
   intro γ w vs hi hA hb hlt hf
   refine (hM f args v (memoGet_mem hv) γ w vs hi hA).mono ?_
   rintro _ w' ⟨r,rfl,hef,hr⟩
   have live : ∀ b ∈ h.map (·.1),Live γ b := fun b hb' => by
    obtain ⟨x,hx,rfl⟩ := List.mem_map.1 hb'
    obtain ⟨_,_,_,_,hl,_⟩ := hb x hx
    exact hl
   exact ⟨r,γ,rfl,hef _ _ live,hr,fun x hx => (hef [] nx no_live).box hi (hb x hx) (by simp)⟩
  ·split at hp
   ·exact body X hX f args h nx p hp
   ·split at hp
    ·exact body X hX f args h nx p hp
    rename_i l r hk'
    obtain ⟨hl,s,h1,h2⟩ := askIt_some hk'
    have h3 := hp
    obtain ⟨a1,a0⟩ := hs X hX _ s r h1 h2
    cases e : Nat.beq 1 r with
    | true =>
     rw [e] at h3
     exact body _ (allZ_true hk hX hl fun a ha => a1 e _ (List.mem_map_of_mem ha)) f args h nx p h3
    | false =>
     rw [e] at h3
     obtain ⟨d,hd,hz⟩ := a0 e
     obtain ⟨a,ha,rfl⟩ := List.mem_map.1 hd
     obtain ⟨X',m1,m2⟩ := splits_true hk hX hl ⟨a,ha,hz⟩
     replace h3 : joinC h nx ((splits l X).map fun X' => bodyC (S.plus X') (callD S cs M n X') f args h nx)=some p := h3
     unfold joinC at h3
     split at h3
     ·rename_i p0 rs hrs
      rw [Option.bind_eq_some_iff] at h3
      obtain ⟨b,hb,h4⟩ := h3
      rw [ifO_some,List.all_eq_true] at h4
      obtain ⟨h5,h6⟩ := h4
      cases h6
      obtain ⟨h',nx',q1,q2,q3⟩ := agree_some (h5 _ (List.mem_map_of_mem m1))
      intro γ w vs hi hA hb hlt hf
      refine (body X' m2 f args h nx _ q1 γ w vs hi hA hb hlt fun b g1 g2 => hf b g1 (Nat.lt_of_lt_of_le g2 q2)).mono ?_
      rintro _ w' ⟨r',γ',rfl,hef,hv,hx⟩
      exact ⟨r',γ',rfl,hef.wide (Nat.le_refl _) q2,hv,fun x hh => hx x (q3 x hh)⟩
     ·cases h3
theorem memo_run {K1 K2 : List (FuncId × List AC)} {H1 H2 : Hs} {M : Memo} {f : FuncId} {args : List AV} {v : AV} {p : List HB × Nat} {call : CallF} (hC : CallOk { S with H := H1,K := K1 } E w0 call) (hr : call f args [] 0=some (v,p)) (ha : args.all bareV=true) (hv : bareV v=true) (hM : MemoOk { S with H := H2,K := K2 } E w0 M) : MemoOk { S with H := H2,K := K2 } E w0 ((f,args,v) :: M) := fun g bs u hmem => by
 rcases List.mem_cons.1 hmem with e | hmem
 ·cases e
  intro γ w vs hi hA
  rw [List.all_eq_true] at ha
  refine (hC f args [] 0 (v,p) hr (fun _ => none) w vs ⟨hi.bel,(fun _ _ h => by cases h)⟩ (A2_imp (P := fun x => bareV x=true) (fun _ _ hx q => bareV_on hx q) ha hA) (fun x hx => by cases hx) (fun x hx => by cases hx) (fun _ _ _ => rfl)).mono ?_
  rintro _ w' ⟨r,γ',rfl,hef,hr,_⟩
  refine ⟨r,rfl,fun wr nx hl => ⟨leG.refl _,fun _ _ => rfl,fun _ _ h => Or.inl h,⟨hef.wi.bel,fun b G q => ⟨(hi.lo b G q).1,Nat.lt_of_lt_of_le (hi.lo b G q).2 hef.gr.size⟩⟩,hef.gr,fun G hG _ => hef.keep G hG (fun b hb => by cases hb),hl⟩,bareV_on hv hr⟩
 ·exact hM g bs u hmem
def memoOne (S : Sx) (cs : List (FuncId × Nat)) (k : Nat) : Memo→Bool
 | (f,args,v) :: M => (match callD S cs M k [] f args [] 0 with
  | some (u,_) => avsB [u] [v]
  | none => false) && (args.all bareV && bareV v)
 | [] => false
def memoChk (S : Sx) (cs : List (FuncId × Nat)) (k : Nat) : Nat→Memo→Bool
 | 0,_ => true
 | n+1,M => memoOne S cs k M && memoChk S cs k n M.tail
def qA (l : List Nat) : AV := (false,[(true,l.flatMap qCells)])
def tA (l : List Nat) : AV := (false,[(true,l.map fun a => .inr (1,a,0,0,0))])
theorem memo_nil : MemoOk S E w0 [] := fun _ _ _ h => by cases h
end
end Cx
/- VPE -/
namespace Go.Proofs.YtjfodeihndjpjaaGreatDoor
open Cx Go Go.RowKit
section
variable {N : List Nd} {H : List (Nat × Nat × Nat × Nat)} {K : List (FuncId × List AC)} {L C : List (List Nat × Nat)} {Z : List Nat} {q : Nat→Rat} {σ : Nat→ByteArray} {cl : List FuncId} {cs pr : List (FuncId × Nat)} {M : Memo} {w : World}
theorem callD_told (Y : Hy N H L C Z q σ) (hc : ∀ f ∈ cl,Closed f) (hm : (Tryz.prog).follows .mixedOrders=true) (hp : PreS w) (hM : MemoOk (sx Tryz.prog N H K L C Z (prC cl)) (evS q σ) w M) (k : Nat) : CallOk (sx Tryz.prog N H K L C Z (prC cl)) (evS q σ) w (callD (sx Tryz.prog N H K L C Z (prC cl)) cs M k []) :=
 callD_ok (S := sx Tryz.prog N H K L C Z (prC cl)) (E := evS q σ) (w0 := w) (T := fun X => Hy N (X ++ H) L C Z q σ) (z := fun d => q d=0) hm hM (fun X hX => knows hX) (fun X hX => primOk hX hp hc) ask_true (fun X hX l s r h1 h2 => by
  have e := hX.k0 s r h2
  have g := sqN_val hX h1
  refine ⟨fun h => g.1 (e.1 h),fun h => ?_⟩
  have hn : ¬ ∀ d ∈ l,q d=0 := fun q' => by
   rw [e.2 (g.2 q')] at h
   cases h
  simpa using hn) k [] Y
def MemoAll (N : List Nd) (L C : List (List Nat × Nat)) (Z : List Nat) (q : Nat→Rat) (σ : Nat→ByteArray) (cl : List FuncId) (w : World) (M : Memo) : Prop := ∀ H K,MemoOk (sx Tryz.prog N H K L C Z (prC cl)) (evS q σ) w M
theorem memoAll_nil : MemoAll N L C Z q σ cl w [] := fun _ _ => memo_nil
theorem memoAll_cons {H1 : List (Nat × Nat × Nat × Nat)} (Y : Hy N H1 L C Z q σ) (hc : ∀ f ∈ cl,Closed f) (hm : (Tryz.prog).follows .mixedOrders=true) (hp : PreS w) {f : FuncId} {args : List AV} {v : AV} (k : Nat) (hr : memoOne (sx Tryz.prog N H1 [] L C Z (prC cl)) cs k ((f,args,v) :: M)=true) (hM : MemoAll N L C Z q σ cl w M) : MemoAll N L C Z q σ cl w ((f,args,v) :: M) := fun H K => by
 unfold memoOne at hr
 simp only [Bool.and_eq_true] at hr
 obtain ⟨h1,h2,h3⟩ := hr
 split at h1
 ·rename_i u p hu
  have e := avsB_eq h1
  cases e
  exact memo_run (S := sx Tryz.prog N H K L C Z (prC cl)) (K1 := []) (H1 := H1) (K2 := K) (H2 := H) (callD_told (K := []) (cs := cs) Y hc hm hp (hM H1 []) k) hu h2 h3 (hM H K)
 ·cases h1
theorem memoAll_drop {i : Nat} {H1 : List (Nat × Nat × Nat × Nat)} (Y : Hy N H1 L C Z q σ) (hc : ∀ f ∈ cl,Closed f) (hm : (Tryz.prog).follows .mixedOrders=true) (hp : PreS w) {k : Nat} (hr : memoOne (sx Tryz.prog N H1 [] L C Z (prC cl)) cs k (M.drop i)=true) (hM : MemoAll N L C Z q σ cl w (M.drop (i+1))) : MemoAll N L C Z q σ cl w (M.drop i) := by
 rw [← List.tail_drop] at hM
 generalize M.drop i=D at *
 match D with
 | [] => cases hr
 | (f,args,v) :: D => exact memoAll_cons Y hc hm hp k hr hM
theorem memoAll_chk {H1 : List (Nat × Nat × Nat × Nat)} (Y : Hy N H1 L C Z q σ) (hc : ∀ f ∈ cl,Closed f) (hm : (Tryz.prog).follows .mixedOrders=true) (hp : PreS w) {k : Nat} : ∀ (n : Nat) {M : Memo},memoChk (sx Tryz.prog N H1 [] L C Z (prC cl)) cs k n M=true→MemoAll N L C Z q σ cl w (M.drop n)→MemoAll N L C Z q σ cl w M
 | 0,_,_,h => h
 | n+1,M,hr,h => by
  unfold memoChk at hr
  rw [Bool.and_eq_true] at hr
  have h1 := memoAll_chk Y hc hm hp n hr.2 (by rw [List.drop_tail]; exact h)
  exact memoAll_drop (i := 0) Y hc hm hp hr.1 (by rw [Nat.zero_add,List.drop_one]; exact h1)
theorem run_toldD' {f : FuncId} {args : List AV} {vs : List Value} (k : Nat) (Y : Hy N H L C Z q σ) (hc : ∀ f ∈ cl,Closed f) (hm : (Tryz.prog).follows .mixedOrders=true) (hp : PreS w) (hM : MemoAll N L C Z q σ cl w M) (hr : (callD (sx Tryz.prog N H K L C Z (prC cl)) cs M k [] f args [] 0).map (·.1)=some (kB true))
  (hA : A2 (avOn (cOn (evS q σ) K (fun _ => none) w)) args vs) : Calls Tryz.prog f vs.toArray w fun e w' => Below w.heap.size w w'∧e=.returned (.bool true) := by
 rw [Option.map_eq_some_iff] at hr
 obtain ⟨⟨v,p⟩,h1,h2⟩ := hr
 dsimp only at h2
 subst h2
 refine (callD_told (cs := cs) Y hc hm hp (hM H K) k f args [] 0 (kB true,p) h1 (fun _ => none) w vs ⟨Below.refl _ _,(fun _ _ h => by cases h)⟩ hA (fun x hx => by cases hx) (fun x hx => by cases hx) (fun _ _ _ => rfl)).mono ?_
 rintro _ w' ⟨r,γ',rfl,hef,hv,_⟩
 exact ⟨hef.wi.bel,by rw [show r=.bool true from (asC_on (v := kB true) (c := .inl (.bool true)) rfl hv).1]⟩
end
end Go.Proofs.YtjfodeihndjpjaaGreatDoor
/- VY -/
namespace Go.Proofs.YtjfodeihndjpjaaGreatDoor
open Go.RowKit Cx
theorem den_num (t : Rat) : t*(t.den : Rat)=((t.num : Int) : Rat) := by
 conv => lhs; lhs; rw [← Rat.mkRat_self t]
 have h0 : (t.den : Rat) ≠ 0 := fun h => t.den_nz (by exact_mod_cast h)
 rw [Rat.mkRat_eq_div,Rat.div_mul_cancel h0]
theorem whole {q : Rat} (h : q.den=1) : q=((q.num : Int) : Rat) := by
 have := den_num q
 rw [h] at this
 rw [← this]
 show q=q*((1 : Nat) : Rat)
 exact (Rat.mul_one q).symm
theorem plain_uniq {us : List Rat} {t : Rat} (hU : PlainOk us) (hV : PlainOk (us.map fun u => t*u)) : t=1 := by
 have hb := den_num t
 have key : ∀ u ∈ us,(t*u).num*(t.den : Int)=t.num*u.num := fun u hu => by
  have e1 := whole (hU.den u hu)
  have e2 := whole (hV.den (t*u) (List.mem_map_of_mem (f := fun u => t*u) hu))
  have e3 : (((t*u).num*(t.den : Int) : Int) : Rat)=((t.num*u.num : Int) : Rat) := by
   rw [Rat.intCast_mul,Rat.intCast_mul,← e2,← e1,← hb]
   show t*u*((t.den : Int) : Rat)=t*(t.den : Rat)*u
   have : (((t.den : Nat) : Int) : Rat)=(t.den : Rat) := rfl
   rw [this]
   grind
  exact_mod_cast e3
 have h1 : t.den=1 := by
  have : t.den ∣ gN us := gN_great fun u hu => by
   have hd : (t.den : Int) ∣ t.num*u.num := ⟨(t*u).num,by rw [← key u hu,Int.mul_comm]⟩
   have hd' : t.den ∣ t.num.natAbs*u.num.natAbs := by
    have := Int.natAbs_dvd_natAbs.2 hd
    rwa [Int.natAbs_natCast,Int.natAbs_mul] at this
   exact Nat.Coprime.dvd_of_dvd_mul_left t.reduced.symm hd'
  rw [hU.gcd] at this
  exact Nat.dvd_one.1 this
 have ht := whole h1
 have h2 : t.num.natAbs=1 := by
  have : t.num.natAbs ∣ gN (us.map fun u => t*u) := gN_great fun v hv => by
   obtain ⟨u,hu,rfl⟩ := List.mem_map.1 hv
   have := key u hu
   rw [h1] at this
   refine ⟨u.num.natAbs,?_⟩
   rw [← Int.natAbs_mul,← this]
   simp
  rw [hV.gcd] at this
  exact Nat.dvd_one.1 this
 -- the first that is not 0
 have hne : ∃ (j : Nat) (hj : j < us.length),us[j] ≠ 0∧∀ (i : Nat) (hi : i < us.length),i < j→us[i]=0 := by
  apply Classical.byContradiction
  intro hn
  have all0 : ∀ (n j : Nat) (hj : j < us.length),j < n→us[j]=0 := by
   intro n
   induction n with
   | zero => intro j _ h; omega
   | succ n ih =>
    intro j hj hjn
    apply Classical.byContradiction
    intro h
    exact hn ⟨j,hj,h,fun i hi hij => ih i hi (by omega)⟩
  have h0 : (0 : Nat) ∣ gN us := gN_great fun u hu => by
   obtain ⟨j,hj,rfl⟩ := List.getElem_of_mem hu
   rw [all0 us.length j hj hj]
   decide
  rw [hU.gcd] at h0
  exact absurd (Nat.zero_dvd.1 h0) (by decide)
 obtain ⟨j,hj,hj1,hj2⟩ := hne
 have p1 := hU.sgn j hj hj2 hj1
 have ht0 : t ≠ 0 := fun e => by rw [e] at h2; exact absurd h2 (by decide)
 have p2 := hV.sgn j (by simpa using hj) (fun i hi hij => by
  rw [List.getElem_map,hj2 i (by simpa using hi) hij,Rat.mul_zero]) (by
  rw [List.getElem_map]
  exact fun e => (Rat.mul_eq_zero.1 e).elim ht0 hj1)
 rw [List.getElem_map] at p2
 have hk := key us[j] (List.getElem_mem hj)
 rw [h1] at hk
 have hk' : (t*us[j]).num=t.num*us[j].num := by simpa using hk
 rw [hk'] at p2
 have ht1 : t.num=1 := by
  rcases Int.natAbs_eq t.num with e | e
  ·rw [h2] at e
   exact e
  ·rw [h2] at e
   rw [e] at p2
   omega
 rw [ht,ht1]
 rfl
theorem fac_scale {qs : List Rat} {q0 r : Rat} (h0 : q0 ∈ qs) (hz : q0 ≠ 0) (hr : r ≠ 0) : r*fac (qs.map fun q => r*q)=fac qs := by
 have hf := fac_ne h0 hz
 have hU := plain_fac h0 hz
 have hV := plain_fac (qs := qs.map fun q => r*q) (List.mem_map_of_mem (f := fun q => r*q) h0) (fun e => (Rat.mul_eq_zero.1 e).elim hr hz)
 have he : (qs.map fun q => r*q).map (fun q => q*fac (qs.map fun q => r*q))=(qs.map (fun q => q*fac qs)).map fun u => (r*fac (qs.map fun q => r*q) / fac qs)*u := by
  rw [List.map_map,List.map_map]
  apply List.map_congr_left
  intro q _
  show r*q*fac (qs.map fun q => r*q)=r*fac (qs.map fun q => r*q) / fac qs*(q*fac qs)
  generalize fac (qs.map fun q => r*q)=g
  generalize fac qs=f at *
  have : f*f⁻¹=1 := Rat.mul_inv_cancel f hf
  rw [Rat.div_def]
  grind
 rw [he] at hV
 have := plain_uniq hU hV
 generalize fac (qs.map fun q => r*q)=g at *
 generalize fac qs=f at *
 have h2 : r*g / f*f=r*g := Rat.div_mul_cancel hf
 rw [this] at h2
 grind
end Go.Proofs.YtjfodeihndjpjaaGreatDoor
/- VSZ -/
namespace Go.Proofs.YtjfodeihndjpjaaGreatDoor
open Go.RowKit Cx
structure QW (z : Nat) (x : Rat) : Prop where
 qs : QS z x
 wh : x.den=1
theorem QW.of {z : Nat} {n : Int} (h : n.natAbs < 2 ^ z) (hz : 0 < z) : QW z ((n : Int) : Rat) :=
 ⟨⟨by simpa using h,by
  show ((n : Int) : Rat).den < 2 ^ z
  rw [Rat.den_intCast]
  exact Nat.one_lt_two_pow (by omega)⟩,Rat.den_intCast n⟩
theorem QW.mono {k l : Nat} {x : Rat} (h : QW k x) (hk : k≤l) : QW l x := ⟨h.qs.mono hk,h.wh⟩
theorem two_max {a b x y : Nat} (h1 : a < 2 ^ x) (h2 : b < 2 ^ y) : a+b < 2 ^ (Nat.max x y+1) := by
 have e1 : 2 ^ x≤2 ^ Nat.max x y := Nat.pow_le_pow_right (by decide) (Nat.le_max_left x y)
 have e2 : 2 ^ y≤2 ^ Nat.max x y := Nat.pow_le_pow_right (by decide) (Nat.le_max_right x y)
 rw [Nat.pow_succ]
 omega
theorem QW.add {x y : Nat} {a b : Rat} (h1 : QW x a) (h2 : QW y b) : QW (Nat.max x y+1) (a+b) := by
 rw [whole h1.wh,whole h2.wh,← Rat.intCast_add]
 refine QW.of ?_ (by omega)
 have := two_max h1.qs.num h2.qs.num
 omega
theorem QW.sub {x y : Nat} {a b : Rat} (h1 : QW x a) (h2 : QW y b) : QW (Nat.max x y+1) (a - b) := by
 rw [whole h1.wh,whole h2.wh,← Rat.intCast_sub]
 refine QW.of ?_ (by omega)
 have := two_max h1.qs.num h2.qs.num
 omega
theorem QW.mul {x y : Nat} {a b : Rat} (h1 : QW x a) (h2 : QW y b) : QW (x+y) (a*b) := by
 refine ⟨h1.qs.mul h2.qs,?_⟩
 rw [whole h1.wh,whole h2.wh,← Rat.intCast_mul]
 exact Rat.den_intCast _
theorem QW.neg {x : Nat} {a : Rat} (h1 : QW x a) : QW x (-a) := ⟨h1.qs.neg,h1.wh⟩
theorem ten_three : ∀ n : Nat,10 ^ n≤2 ^ ((10*n+2) / 3)
 | 0 => by decide
 | 1 => by decide
 | 2 => by decide
 | n+3 => by
  have h := ten_three n
  have e : (10*(n+3)+2) / 3=(10*n+2) / 3+10 := by omega
  rw [e,Nat.pow_add,Nat.pow_add]
  exact Nat.mul_le_mul h (by decide)
theorem QS.rd3 (l : List UInt8) : QS ((10*l.length+2) / 3+5) (Cx.rd l) := by
 have key : ∀ {m : List UInt8},digs m=true→dv m < 2 ^ ((10*m.length+2) / 3) := fun {m} h => Nat.lt_of_lt_of_le (dv_lt (digs_all h)) (ten_three _)
 unfold Cx.rd
 split
 ·rename_i h
  rw [Bool.and_eq_true] at h
  have h1 := key h.1
  have h2 := key h.2
  have h3 := up_len (tailOf l)
  have h4 := low_len (tailOf l)
  have h5 := tail_len l
  apply QS.mkr
  ·rw [sg_abs]; exact Nat.lt_of_lt_of_le h1 (Nat.pow_le_pow_right (by decide) (by omega))
  ·exact Nat.lt_of_lt_of_le h2 (Nat.pow_le_pow_right (by decide) (by omega))
 ·exact QS.zero.mono (by omega)
section
variable {N : List Nd} {Z : List Nat} {I : List Bool} {q : Nat→Rat}
end
end Go.Proofs.YtjfodeihndjpjaaGreatDoor
/- VSA -/
namespace Go.Proofs.YtjfodeihndjpjaaGreatDoor
open Go.RowKit Cx
def inB : Nat := 3495259
abbrev Atm := Nat × Nat
def remA (x : Atm) : List Atm→Option (List Atm)
 | [] => none
 | y :: l => bif Nat.beq x.1 y.1 && Nat.beq x.2 y.2 then some l else (remA x l).map (y :: ·)
def subA : List Atm→List Atm→Option (List Atm)
 | l,[] => some l
 | l,x :: r => (remA x l).bind fun l' => subA l' r
def leftA : List Atm→List Atm→List Atm
 | _,[] => []
 | U,x :: D => match remA x U with
  | some U' => leftA U' D
  | none => x :: leftA U D
def uniA (E : List (Nat × List Atm)) : List Nat→List Atm→List Atm
 | [],U => U
 | a :: l,U => uniA E l (match E[a]? with
  | some p => U ++ leftA U p.2
  | none => U)
def bitA (E : List (Nat × List Atm)) (x : Atm) : Nat := match x.1 with
 | 0 => inB
 | 1 => (match E[x.2]? with
  | some p => p.1
  | none => 1)
 | _ => Nat.log2 x.2+1
def bitL (E : List (Nat × List Atm)) : List Atm→Nat
 | [] => 1
 | x :: l => bitA E x+bitL E l
def noneA (l : Option (List Atm)) : Bool := match l with
 | some [] => true
 | _ => false
def saN (E : List (Nat × List Atm)) (k z : Nat) (D : List Atm) (nd : Nd) : Bool := (Nat.blt 0 z && D.all fun x => !Nat.beq x.1 1 || Nat.blt x.2 k) && match nd.1,nd.2 with
 | 0,[_,n,d] => (Nat.blt n (2 ^ z) && Nat.blt 0 d) && noneA (subA D (bif Nat.beq d 1 then [] else [(2,d)]))
 | 1,[j] => Nat.ble inB z && noneA (subA D [(0,j)])
 | 2,[a,b] => (match E[a]?,E[b]? with
  | some p,some r => (match subA D p.2,subA D r.2 with
   | some c,some e => Nat.ble (Nat.max (p.1+bitL E c) (r.1+bitL E e)+1) z
   | _,_ => false)
  | _,_ => false)
 | 3,[a,b] => (match E[a]?,E[b]? with
  | some p,some r => (match subA D p.2,subA D r.2 with
   | some c,some e => Nat.ble (Nat.max (p.1+bitL E c) (r.1+bitL E e)+1) z
   | _,_ => false)
  | _,_ => false)
 | 4,[a,b] => (match E[a]?,E[b]? with
  | some p,some r => (match subA D p.2 with
   | some c => noneA (subA c r.2) && Nat.ble (p.1+r.1) z
   | _ => false)
  | _,_ => false)
 | 5,[a] => (match E[a]? with
  | some p => noneA (subA D p.2) && Nat.ble p.1 z
  | _ => false)
 | 6,[a,b] => (match E[a]?,E[b]?,remA (1,b) D with
  | some p,some r,some D' => (match subA p.2 D' with
   | some c => (match subA r.2 c with
    | some e => Nat.ble (p.1+bitL E e) z
    | none => false)
   | none => false)
  | _,_,_ => false)
 | 7,_ => Nat.beq D.length 0
 | 8,i :: xs => Nat.beq D.length 0 && (xs.all (fun a => match E[a]? with
   | some p => (subA (uniA E xs []) p.2).isSome
   | none => false) && (match xs[i]? with
   | some a => (match E[a]? with
    | some p => (match subA (uniA E xs []) p.2 with
     | some e => Nat.ble (p.1+bitL E e) z
     | none => false)
    | none => false)
   | none => false))
 | _,_ => false
def saB (E : List (Nat × List Atm)) : Nat→List Nd→List (Nat × List Atm)→List Nat→Bool
 | _,[],[],[] => true
 | k,nd :: ns,p :: ps,z :: zs => (saN E k p.1 p.2 nd && (Nat.ble p.1 z && (Nat.ble (bitL E p.2) z && Nat.ble z 1000000000000))) && saB E (k+1) ns ps zs
 | _,_,_,_ => false
theorem saB_get {E : List (Nat × List Atm)} : ∀ {ns : List Nd} {ps : List (Nat × List Atm)} {zs : List Nat} {k i : Nat} {nd : Nd},saB E k ns ps zs=true→ns[i]? = some nd→∃ p z,ps[i]? = some p∧zs[i]? = some z∧saN E (k+i) p.1 p.2 nd=true∧p.1≤z∧bitL E p.2≤z∧z≤1000000000000
 | [],_,_,_,_,_,_,h => by simp at h
 | _ :: _,[],_,_,_,_,h,_ => by cases h
 | _ :: _,_ :: _,[],_,_,_,h,_ => by cases h
 | nd' :: ns,p :: ps,z :: zs,k,0,nd,h,e => by
  have : nd'=nd := by simpa using e
  subst this
  unfold saB at h
  simp only [Bool.and_eq_true,Nat.ble_eq] at h
  exact ⟨p,z,rfl,rfl,h.1.1,h.1.2.1,h.1.2.2.1,h.1.2.2.2⟩
 | nd' :: ns,p :: ps,z :: zs,k,i+1,nd,h,e => by
  unfold saB at h
  rw [Bool.and_eq_true] at h
  obtain ⟨p',z',g1,g2,g3,g4⟩ := saB_get (k := k+1) (i := i) h.2 (by simpa using e)
  exact ⟨p',z',by simpa using g1,by simpa using g2,by rw [show k+(i+1)=k+1+i by omega]; exact g3,g4⟩
theorem saB_len {E : List (Nat × List Atm)} : ∀ {ns : List Nd} {ps : List (Nat × List Atm)} {zs : List Nat} {k : Nat},saB E k ns ps zs=true→ns.length=ps.length∧ns.length=zs.length
 | [],[],[],_,_ => ⟨rfl,rfl⟩
 | [],[],_ :: _,_,h => by cases h
 | [],_ :: _,_,_,h => by cases h
 | _ :: _,[],_,_,h => by cases h
 | _ :: _,_ :: _,[],_,h => by cases h
 | _ :: _,_ :: _,_ :: _,k,h => by
  unfold saB at h
  rw [Bool.and_eq_true] at h
  have := saB_len h.2
  exact ⟨congrArg (· + 1) this.1,congrArg (· + 1) this.2⟩
def valA (dn : Nat→Nat) (M : Nat→Rat) (x : Atm) : Rat := match x.1 with
 | 0 => ((dn x.2 : Nat) : Rat)
 | 1 => if M x.2=0 then 1 else M x.2
 | _ => if x.2=0 then 1 else ((x.2 : Nat) : Rat)
def proA (dn : Nat→Nat) (M : Nat→Rat) : List Atm→Rat
 | [] => 1
 | x :: l => valA dn M x*proA dn M l
theorem remA_pro {dn : Nat→Nat} {M : Nat→Rat} {x : Atm} : ∀ {l c : List Atm},remA x l=some c→proA dn M l=valA dn M x*proA dn M c
 | [],_,h => by cases h
 | y :: l,c,h => by
  unfold remA at h
  cases e : (Nat.beq x.1 y.1 && Nat.beq x.2 y.2) with
  | true =>
   rw [e] at h
   cases h
   rw [Bool.and_eq_true,Nat.beq_eq,Nat.beq_eq] at e
   have : x=y := Prod.ext e.1 e.2
   rw [this]
   rfl
  | false =>
   rw [e] at h
   simp only [cond_false,Option.map_eq_some_iff] at h
   obtain ⟨c',h1,rfl⟩ := h
   show valA dn M y*proA dn M l=valA dn M x*(valA dn M y*proA dn M c')
   rw [remA_pro h1]
   grind
theorem subA_pro {dn : Nat→Nat} {M : Nat→Rat} : ∀ {r l c : List Atm},subA l r=some c→proA dn M l=proA dn M r*proA dn M c
 | [],l,c,h => by
  have : l=c := by simpa [subA] using h
  rw [this]
  exact (Rat.one_mul _).symm
 | x :: r,l,c,h => by
  unfold subA at h
  rw [Option.bind_eq_some_iff] at h
  obtain ⟨l',h1,h2⟩ := h
  rw [remA_pro h1,subA_pro h2]
  exact (Rat.mul_assoc _ _ _).symm
theorem noneA_some {l : Option (List Atm)} (h : noneA l=true) : l=some [] := by
 unfold noneA at h
 split at h
 ·rfl
 ·cases h
theorem QW.one {z : Nat} (h : 0 < z) : QW z 1 := ⟨⟨by
  show (1 : Int).natAbs < 2 ^ z
  exact Nat.one_lt_two_pow (by omega),by
  show 1 < 2 ^ z
  exact Nat.one_lt_two_pow (by omega)⟩,rfl⟩
theorem QW.zero {z : Nat} (h : 0 < z) : QW z 0 := ⟨⟨by
  show (0 : Int).natAbs < 2 ^ z
  exact Nat.two_pow_pos z,by
  show 1 < 2 ^ z
  exact Nat.one_lt_two_pow (by omega)⟩,rfl⟩
theorem QW.nat {z n : Nat} (h : n < 2 ^ z) (hz : 0 < z) : QW z ((n : Nat) : Rat) := by
 have : ((n : Nat) : Rat)=(((n : Nat) : Int) : Rat) := (Rat.intCast_natCast n).symm
 rw [this]
 exact QW.of (by simpa using h) hz
section
variable {E : List (Nat × List Atm)} {dn : Nat→Nat} {M : Nat→Rat} {k : Nat}
def BelA (E : List (Nat × List Atm)) (dn : Nat→Nat) (M : Nat→Rat) (q : Nat→Rat) (k : Nat) : Prop := ∀ a,a < k→∃ p,E[a]? = some p∧QW p.1 (M a)∧0 < p.1∧(∀ x ∈ p.2,x.1=1→x.2 < a)∧q a*proA dn M p.2=M a
theorem valA_ok {q : Nat→Rat} (hdn : ∀ j,0 < dn j∧dn j < 2 ^ inB) (hM : BelA E dn M q k) {x : Atm} (hx : x.1=1→x.2 < k) : QW (bitA E x) (valA dn M x)∧valA dn M x ≠ 0 := by
 obtain ⟨i,j⟩ := x
 match i with
 | 0 =>
  show QW inB ((dn j : Nat) : Rat)∧((dn j : Nat) : Rat) ≠ 0
  refine ⟨QW.nat (hdn j).2 (by unfold inB; omega),fun h => ?_⟩
  have := (hdn j).1
  have h2 : dn j=0 := by exact_mod_cast h
  omega
 | 1 =>
  obtain ⟨p,h1,h2,h3,_⟩ := hM j (hx rfl)
  show QW (match E[j]? with
   | some p => p.1
   | none => 1) (if M j=0 then 1 else M j)∧(if M j=0 then 1 else M j) ≠ 0
  rw [h1]
  by_cases h : M j=0
  ·rw [if_pos h]
   exact ⟨QW.one h3,by decide⟩
  ·rw [if_neg h]
   exact ⟨h2,h⟩
 | i+2 =>
  show QW (Nat.log2 j+1) (if j=0 then 1 else ((j : Nat) : Rat))∧(if j=0 then 1 else ((j : Nat) : Rat)) ≠ 0
  by_cases h : j=0
  ·rw [if_pos h]
   exact ⟨QW.one (by omega),by decide⟩
  ·rw [if_neg h]
   refine ⟨QW.nat Nat.lt_log2_self (by omega),fun h2 => h ?_⟩
   exact_mod_cast h2
theorem proA_ok {q : Nat→Rat} (hdn : ∀ j,0 < dn j∧dn j < 2 ^ inB) (hM : BelA E dn M q k) : ∀ {l : List Atm},(∀ x ∈ l,x.1=1→x.2 < k)→QW (bitL E l) (proA dn M l)∧proA dn M l ≠ 0
 | [],_ => ⟨QW.one (show 0 < 1 by decide),by show (1 : Rat) ≠ 0; decide⟩
 | x :: l,h => by
  have h1 := valA_ok hdn hM (h x List.mem_cons_self)
  have h2 := proA_ok hdn hM (l := l) fun y hy => h y (List.mem_cons_of_mem _ hy)
  exact ⟨h1.1.mul h2.1,mul_ne h1.2 h2.2⟩
theorem proA_congr {M' : Nat→Rat} : ∀ {l : List Atm},(∀ x ∈ l,x.1=1→M x.2=M' x.2)→proA dn M l=proA dn M' l
 | [],_ => rfl
 | x :: l,h => by
  show valA dn M x*proA dn M l=valA dn M' x*proA dn M' l
  rw [proA_congr (l := l) fun y hy => h y (List.mem_cons_of_mem _ hy)]
  have e : valA dn M x=valA dn M' x := by
   obtain ⟨i,j⟩ := x
   match i with
   | 0 => rfl
   | 1 =>
    have := h (1,j) List.mem_cons_self rfl
    show (if M j=0 then 1 else M j)=(if M' j=0 then 1 else M' j)
    rw [this]
   | i+2 => rfl
  rw [e]
theorem remA_mem {x y : Atm} : ∀ {l c : List Atm},remA x l=some c→y ∈ c→y ∈ l
 | [],_,h,_ => by cases h
 | z :: l,c,h,hy => by
  unfold remA at h
  cases e : (Nat.beq x.1 z.1 && Nat.beq x.2 z.2) with
  | true => rw [e] at h; cases h; exact List.mem_cons_of_mem _ hy
  | false =>
   rw [e] at h
   simp only [cond_false,Option.map_eq_some_iff] at h
   obtain ⟨c',h1,rfl⟩ := h
   rcases List.mem_cons.1 hy with rfl | hy
   ·exact List.mem_cons_self
   ·exact List.mem_cons_of_mem _ (remA_mem h1 hy)
theorem subA_mem {y : Atm} : ∀ {r l c : List Atm},subA l r=some c→y ∈ c→y ∈ l
 | [],l,c,h,hy => by
  have : l=c := by simpa [subA] using h
  rw [this]; exact hy
 | x :: r,l,c,h,hy => by
  unfold subA at h
  rw [Option.bind_eq_some_iff] at h
  obtain ⟨l',h1,h2⟩ := h
  exact remA_mem h1 (subA_mem h2 hy)
theorem nat_ne {n : Nat} (h : n ≠ 0) : ((n : Nat) : Rat) ≠ 0 := fun e => h (by exact_mod_cast e)
theorem mul_low (x : Rat) : x*((x.den : Nat) : Rat)=((x.num : Int) : Rat) := by
 have e : x=((x.num : Int) : Rat) / ((x.den : Nat) : Rat) := by
  have := Rat.mkRat_self x
  rw [Rat.mkRat_eq_div] at this
  exact this.symm
 conv => lhs; lhs; rw [e]
 exact Rat.div_mul_cancel (nat_ne x.den_nz)
theorem lD_dvd_of {qs : List Rat} {m M : Nat} (hm : m ∣ M) (h : ∀ q ∈ qs,q.den ∣ M) : qs.foldl (fun m q => m*(q.den / Nat.gcd m q.den)) m ∣ M := by
 induction qs generalizing m with
 | nil => exact hm
 | cons q qs ih =>
  rw [List.foldl_cons]
  refine ih ?_ fun p hp => h p (List.mem_cons_of_mem _ hp)
  have e : m*(q.den / Nat.gcd m q.den)=Nat.lcm m q.den := by
   unfold Nat.lcm
   exact (Nat.mul_div_assoc _ (Nat.gcd_dvd_right _ _)).symm
  rw [e]
  exact Nat.lcm_dvd hm (h q List.mem_cons_self)
theorem den_dvd {x : Rat} {m : Int} (h : (x*((m : Int) : Rat)).den=1) : x.den ∣ m.natAbs := by
 have e := whole h
 generalize (x*((m : Int) : Rat)).num=n at e
 have h1 : x*((x.den : Nat) : Rat)=((x.num : Int) : Rat) := mul_low x
 have h2 : ((x.num : Int) : Rat)*((m : Int) : Rat)=((n : Int) : Rat)*(((x.den : Nat) : Int) : Rat) := by
  rw [← h1,← e,Rat.intCast_natCast]
  grind
 have h3 : x.num*m=n*(x.den : Int) := by exact_mod_cast h2
 have h4 : (x.den : Int) ∣ x.num*m := ⟨n,by rw [h3,Int.mul_comm]⟩
 have h5 : x.den ∣ x.num.natAbs*m.natAbs := by
  have := Int.natAbs_dvd_natAbs.2 h4
  rwa [Int.natAbs_mul,Int.natAbs_natCast] at this
 exact (Nat.Coprime.symm x.reduced).dvd_of_dvd_mul_left h5
theorem fac_whole {qs : List Rat} {x : Rat} {z : Nat} {m : Int} (hx : x ∈ qs) (hm : m ≠ 0) (hall : ∀ y ∈ qs,(y*((m : Int) : Rat)).den=1) (hz : QW z (x*((m : Int) : Rat))) : QW z (x*fac qs) := by
 have hl : lD qs ∣ m.natAbs := lD_dvd_of (Nat.one_dvd _) fun y hy => den_dvd (hall y hy)
 have hd := fac_den hx
 have hpos : 0 < m.natAbs := Int.natAbs_pos.2 hm
 have hle : lD qs≤m.natAbs := Nat.le_of_dvd hpos hl
 have hn : (x*fac qs).num.natAbs≤(x*((m : Int) : Rat)).num.natAbs := by
  rw [fac_abs hx]
  have e := whole hz.wh
  generalize (x*((m : Int) : Rat)).num=n at e
  have h1 : x*((x.den : Nat) : Rat)=((x.num : Int) : Rat) := mul_low x
  have h2 : ((x.num : Int) : Rat)*((m : Int) : Rat)=((n : Int) : Rat)*(((x.den : Nat) : Int) : Rat) := by
   rw [← h1,← e,Rat.intCast_natCast]
   grind
  have h3 : x.num*m=n*(x.den : Int) := by exact_mod_cast h2
  have h4 : x.num.natAbs*m.natAbs=n.natAbs*x.den := by
   have := congrArg Int.natAbs h3
   rwa [Int.natAbs_mul,Int.natAbs_mul,Int.natAbs_natCast] at this
  obtain ⟨c,hc⟩ := den_dvd (x := x) (m := m) (hall x hx)
  have h5 : n.natAbs=x.num.natAbs*c := by
   rw [hc] at h4
   refine Nat.eq_of_mul_eq_mul_right x.den_pos ?_
   rw [← h4]
   rw [Nat.mul_assoc,Nat.mul_comm c]
  show x.num.natAbs / gN qs*(lD qs / x.den)≤n.natAbs
  rw [h5]
  refine Nat.mul_le_mul (Nat.div_le_self _ _) ?_
  have : lD qs / x.den≤m.natAbs / x.den := Nat.div_le_div_right hle
  rw [hc,Nat.mul_div_cancel_left _ x.den_pos] at this
  exact this
 refine ⟨⟨Nat.lt_of_le_of_lt hn hz.qs.num,?_⟩,hd⟩
 rw [hd]
 have := hz.qs.den
 rw [hz.wh] at this
 exact this
theorem leftA_mem {y : Atm} : ∀ {D U : List Atm},y ∈ leftA U D→y ∈ D
 | [],_,h => by cases h
 | x :: D,U,h => by
  unfold leftA at h
  split at h
  ·exact List.mem_cons_of_mem _ (leftA_mem h)
  ·rcases List.mem_cons.1 h with rfl | h
   ·exact List.mem_cons_self
   ·exact List.mem_cons_of_mem _ (leftA_mem h)
theorem uniA_low {q : Nat→Rat} (hM : BelA E dn M q k) : ∀ {l : List Nat} {U : List Atm},(∀ c ∈ l,c < k)→(∀ x ∈ U,x.1=1→x.2 < k)→∀ x ∈ uniA E l U,x.1=1→x.2 < k
 | [],_,_,hU => hU
 | a :: l,U,hl,hU => by
  unfold uniA
  refine uniA_low hM (fun c hc => hl c (List.mem_cons_of_mem _ hc)) ?_
  have ha := hl a List.mem_cons_self
  obtain ⟨p,h1,_,_,h4,_⟩ := hM a ha
  rw [h1]
  intro x hx h
  rcases List.mem_append.1 hx with hx | hx
  ·exact hU x hx h
  ·exact Nat.lt_trans (h4 x (leftA_mem hx) h) ha
theorem node_ok {q : Nat→Rat} {σ : Nat→ByteArray} (hσ : ∀ j,(σ j).size≤1048576) (hdn : ∀ j,dn j=(Cx.rd (σ j).data.toList).den) (hM : BelA E dn M q k) {z : Nat} {D : List Atm} {nd : Nd} (hwf : wfN k nd=true) (hs : saN E k z D nd=true) : QW z (valN σ q nd*proA dn M D)∧0 < z∧∀ x ∈ D,x.1=1→x.2 < k := by
 have hdn' : ∀ j,0 < dn j∧dn j < 2 ^ inB := fun j => by
  rw [hdn j]
  refine ⟨Rat.den_pos _,Nat.lt_of_lt_of_le (QS.rd3 _).den (Nat.pow_le_pow_right (by decide) ?_)⟩
  have := hσ j
  rw [str_len]
  unfold inB
  omega
 obtain ⟨op,xs⟩ := nd
 unfold saN at hs
 rw [Bool.and_eq_true,Bool.and_eq_true] at hs
 obtain ⟨⟨hz0,hD⟩,hs⟩ := hs
 have hz : 0 < z := by simpa [Nat.blt_eq] using hz0
 have hD' : ∀ x ∈ D,x.1=1→x.2 < k := fun x hx h1 => by
  rw [List.all_eq_true] at hD
  have := hD x hx
  rw [h1] at this
  simpa [Nat.blt_eq] using this
 refine ⟨?_,hz,hD'⟩
 have hlow : ∀ {a : Nat} {p : Nat × List Atm},a < k→E[a]? = some p→QW p.1 (M a)∧(∀ x ∈ p.2,x.1=1→x.2 < k)∧q a*proA dn M p.2=M a := fun {a p} ha hp => by
  obtain ⟨p',h1,h2,_,h4,h5⟩ := hM a ha
  rw [hp] at h1
  cases h1
  exact ⟨h2,fun x hx h => Nat.lt_trans (h4 x hx h) ha,h5⟩
 have hpr : ∀ {l : List Atm},(∀ x ∈ l,x.1=1→x.2 < k)→QW (bitL E l) (proA dn M l)∧proA dn M l ≠ 0 := fun h => proA_ok hdn' hM h
 unfold wfN at hwf
 unfold valN
 dsimp only at hs hwf ⊢
 split at hs
 ·rename_i s n d
  simp only [Bool.and_eq_true] at hs
  obtain ⟨⟨h1,h2⟩,h3⟩ := hs
  have h1' : n < 2 ^ z := by simpa [Nat.blt_eq] using h1
  have h2' : d ≠ 0 := by
   have : 0 < d := by simpa [Nat.blt_eq] using h2
   omega
  have hp : proA dn M D=((d : Nat) : Rat) := by
   have := subA_pro (dn := dn) (M := M) (noneA_some h3)
   rw [this]
   cases e : Nat.beq d 1 with
   | true =>
    rw [Nat.beq_eq] at e
    rw [e]
    show (1 : Rat)*1=((1 : Nat) : Rat)
    rw [Rat.mul_one]
    exact_mod_cast rfl
   | false =>
    show (if d=0 then (1 : Rat) else ((d : Nat) : Rat))*1*1=_
    rw [if_neg h2',Rat.mul_one,Rat.mul_one]
  show QW z ((if s=0 then mkRat (n : Int) d else mkRat (-(n : Int)) d)*proA dn M D)
  rw [hp]
  have key : ∀ m : Int,m.natAbs < 2 ^ z→QW z (mkRat m d*((d : Nat) : Rat)) := fun m hm => by
   rw [Rat.mkRat_eq_div,Rat.div_mul_cancel (nat_ne h2')]
   exact QW.of hm hz
  by_cases hs0 : s=0
  ·rw [if_pos hs0]
   exact key _ (by simpa using h1')
  ·rw [if_neg hs0]
   exact key _ (by simpa using h1')
 ·rename_i j
  simp only [Bool.and_eq_true,Nat.ble_eq] at hs
  have hp : proA dn M D=(((Cx.rd (σ j).data.toList).den : Nat) : Rat) := by
   rw [subA_pro (dn := dn) (M := M) (noneA_some hs.2)]
   show ((dn j : Nat) : Rat)*1*1=_
   rw [Rat.mul_one,Rat.mul_one,hdn j]
  show QW z (Cx.rd (σ j).data.toList*proA dn M D)
  rw [hp,mul_low]
  refine QW.of (Nat.lt_of_lt_of_le (QS.rd3 _).num (Nat.pow_le_pow_right (by decide) ?_)) hz
  have := hσ j
  have := hs.1
  unfold inB at this
  rw [str_len]
  omega
 ·simp only [List.all_cons,List.all_nil,Bool.and_true,Bool.and_eq_true] at hwf
  rename_i a b
  have l1 : a < k := by simpa [Nat.blt_eq] using hwf.1
  have l2 : b < k := by simpa [Nat.blt_eq] using hwf.2
  split at hs
  ·rename_i p r hp hr
   split at hs
   ·rename_i c e hc he
    rw [Nat.ble_eq] at hs
    obtain ⟨a1,a2,a3⟩ := hlow l1 hp
    obtain ⟨b1,b2,b3⟩ := hlow l2 hr
    have hc' := hpr (l := c) fun x hx => hD' x (subA_mem hc hx)
    have he' := hpr (l := e) fun x hx => hD' x (subA_mem he hx)
    have e1 : (q a+q b)*proA dn M D=M a*proA dn M c+M b*proA dn M e := by
     rw [Rat.add_mul]
     congr 1
     ·rw [subA_pro hc,← Rat.mul_assoc,a3]
     ·rw [subA_pro he,← Rat.mul_assoc,b3]
    show QW z ((q a+q b)*proA dn M D)
    rw [e1]
    exact ((a1.mul hc'.1).add (b1.mul he'.1)).mono hs
   ·cases hs
  ·cases hs
 ·simp only [List.all_cons,List.all_nil,Bool.and_true,Bool.and_eq_true] at hwf
  rename_i a b
  have l1 : a < k := by simpa [Nat.blt_eq] using hwf.1
  have l2 : b < k := by simpa [Nat.blt_eq] using hwf.2
  split at hs
  ·rename_i p r hp hr
   split at hs
   ·rename_i c e hc he
    rw [Nat.ble_eq] at hs
    obtain ⟨a1,a2,a3⟩ := hlow l1 hp
    obtain ⟨b1,b2,b3⟩ := hlow l2 hr
    have hc' := hpr (l := c) fun x hx => hD' x (subA_mem hc hx)
    have he' := hpr (l := e) fun x hx => hD' x (subA_mem he hx)
    have e1 : (q a - q b)*proA dn M D=M a*proA dn M c - M b*proA dn M e := by
     rw [show (q a - q b)*proA dn M D=q a*proA dn M D - q b*proA dn M D by grind]
     congr 1
     ·rw [subA_pro hc,← Rat.mul_assoc,a3]
     ·rw [subA_pro he,← Rat.mul_assoc,b3]
    show QW z ((q a - q b)*proA dn M D)
    rw [e1]
    exact ((a1.mul hc'.1).sub (b1.mul he'.1)).mono hs
   ·cases hs
  ·cases hs
 ·simp only [List.all_cons,List.all_nil,Bool.and_true,Bool.and_eq_true] at hwf
  rename_i a b
  have l1 : a < k := by simpa [Nat.blt_eq] using hwf.1
  have l2 : b < k := by simpa [Nat.blt_eq] using hwf.2
  split at hs
  ·rename_i p r hp hr
   split at hs
   ·rename_i c hc
    rw [Bool.and_eq_true,Nat.ble_eq] at hs
    obtain ⟨a1,a2,a3⟩ := hlow l1 hp
    obtain ⟨b1,b2,b3⟩ := hlow l2 hr
    have e1 : q a*q b*proA dn M D=M a*M b := by
     rw [subA_pro hc,subA_pro (noneA_some hs.1),← a3,← b3]
     show q a*q b*(proA dn M p.2*(proA dn M r.2*1))=_
     grind
    show QW z (q a*q b*proA dn M D)
    rw [e1]
    exact (a1.mul b1).mono hs.2
   ·cases hs
  ·cases hs
 ·simp only [List.all_cons,List.all_nil,Bool.and_true] at hwf
  rename_i a
  have l1 : a < k := by simpa [Nat.blt_eq] using hwf
  split at hs
  ·rename_i p hp
   rw [Bool.and_eq_true,Nat.ble_eq] at hs
   obtain ⟨a1,a2,a3⟩ := hlow l1 hp
   have e1 : -q a*proA dn M D=-M a := by
    rw [subA_pro (noneA_some hs.1),← a3]
    show -q a*(proA dn M p.2*1)=_
    grind
   show QW z (-q a*proA dn M D)
   rw [e1]
   exact a1.neg.mono hs.2
  ·cases hs
 ·simp only [List.all_cons,List.all_nil,Bool.and_true,Bool.and_eq_true] at hwf
  rename_i a b
  have l1 : a < k := by simpa [Nat.blt_eq] using hwf.1
  have l2 : b < k := by simpa [Nat.blt_eq] using hwf.2
  split at hs
  ·rename_i p r D' hp hr hD1
   split at hs
   ·rename_i c hc
    split at hs
    ·rename_i e he
     rw [Nat.ble_eq] at hs
     obtain ⟨a1,a2,a3⟩ := hlow l1 hp
     obtain ⟨b1,b2,b3⟩ := hlow l2 hr
     have he' := hpr (l := e) fun x hx => b2 x (subA_mem he hx)
     by_cases h0 : M b=0
     ·have hb : q b=0 := by
       rw [h0] at b3
       exact (Rat.mul_eq_zero.1 b3).resolve_right (hpr b2).2
      show QW z (q a / q b*proA dn M D)
      rw [hb,Rat.div_def,Rat.inv_zero,Rat.mul_zero,Rat.zero_mul]
      exact QW.zero hz
     ·have hb : q b ≠ 0 := fun h => h0 (by rw [← b3,h,Rat.zero_mul])
      have e1 : q a / q b*proA dn M D=M a*proA dn M e := by
       have e2 : proA dn M D=M b*proA dn M D' := by
        rw [remA_pro hD1]
        show (if M b=0 then (1 : Rat) else M b)*_=_
        rw [if_neg h0]
       have e3 : q a / q b*q b=q a := Rat.div_mul_cancel hb
       rw [e2,← a3,← b3,subA_pro hc,subA_pro he]
       generalize q a / q b=t at e3
       rw [← e3]
       grind
      show QW z (q a / q b*proA dn M D)
      rw [e1]
      exact (a1.mul he'.1).mono hs
    ·cases hs
   ·cases hs
  ·cases hs
 ·have hD0 : D=[] := by
   rw [Nat.beq_eq] at hs
   exact List.length_eq_zero_iff.1 hs
  rw [hD0]
  have hv : valN σ q (7,xs)=0 ∨ valN σ q (7,xs)=1 := by
   unfold valN
   dsimp only
   split
   all_goals first | (split; exact Or.inl rfl; exact Or.inr rfl) | exact Or.inl rfl | (rename_i h; cases h)
  show QW z (valN σ q (7,xs)*1)
  rw [Rat.mul_one]
  rcases hv with h | h
  ·rw [h]
   exact QW.zero hz
  ·rw [h]
   exact QW.one hz
 ·rename_i i ys
  rw [Bool.and_eq_true,Bool.and_eq_true,List.all_eq_true] at hs
  obtain ⟨h1,h2,h3⟩ := hs
  have hD0 : D=[] := by
   rw [Nat.beq_eq] at h1
   exact List.length_eq_zero_iff.1 h1
  have hwf' : ys.all (Nat.blt · k)=true := hwf
  rw [List.all_eq_true] at hwf'
  have hlt : ∀ c ∈ ys,c < k := fun c hc => by simpa [Nat.blt_eq] using hwf' c hc
  split at h3
  ·rename_i a ha
   split at h3
   ·rename_i p hp
    split at h3
    ·rename_i e he
     rw [Nat.ble_eq] at h3
     obtain ⟨hi,ha'⟩ := List.getElem?_eq_some_iff.1 ha
     have hmem : a ∈ ys := List.mem_of_getElem? ha
     have hg : (ys.map q).getD i 0=q a := by
      rw [List.getD_eq_getElem?_getD,List.getElem?_map,ha]
      rfl
     show QW z ((ys.map q).getD i 0*fac (ys.map q)*proA dn M D)
     rw [hg,hD0]
     show QW z (q a*fac (ys.map q)*1)
     rw [Rat.mul_one]
     -- what makes all of them whole
     have hU : ∀ x ∈ uniA E ys [],x.1=1→x.2 < k := uniA_low hM hlt (fun x hx => by cases hx)
     have hUp := hpr hU
     have hw := whole hUp.1.wh
     generalize hm : (proA dn M (uniA E ys [])).num=m at hw
     have hm0 : m ≠ 0 := fun h => hUp.2 (by rw [hw,h]; rfl)
     have hall : ∀ y ∈ ys.map q,(y*((m : Int) : Rat)).den=1 := fun y hy => by
      obtain ⟨c,hc,rfl⟩ := List.mem_map.1 hy
      have h4 := h2 c hc
      split at h4
      ·rename_i r hr
       obtain ⟨c1,c2,c3⟩ := hlow (hlt c hc) hr
       cases hs2 : subA (uniA E ys []) r.2 with
       | none => rw [hs2] at h4; cases h4
       | some f =>
        have hf := hpr (l := f) fun x hx => hU x (subA_mem hs2 hx)
        rw [← hw,subA_pro hs2,← Rat.mul_assoc,c3]
        exact (c1.mul hf.1).wh
      ·cases h4
     obtain ⟨a1,a2,a3⟩ := hlow (hlt a hmem) hp
     have he' := hpr (l := e) fun x hx => hU x (subA_mem he hx)
     refine fac_whole (List.mem_map_of_mem hmem) hm0 hall ?_
     rw [← hw,subA_pro he,← Rat.mul_assoc,a3]
     exact (a1.mul he'.1).mono h3
    ·cases h3
   ·cases h3
  ·cases h3
 ·cases hs
end
theorem QS_over {x m p : Rat} {z y K : Nat} (hm : QW z m) (hp : QW y p) (h0 : p ≠ 0) (e : x*p=m) (hz : z≤K) (hy : y≤K) : QS K x := by
 have hw := whole hp.wh
 generalize p.num=P at hw
 have hP : P ≠ 0 := fun h => h0 (by rw [hw,h]; rfl)
 have hpos : 0 < P.natAbs := Int.natAbs_pos.2 hP
 have hd : x.den ∣ P.natAbs := den_dvd (x := x) (m := P) (by rw [← hw,e]; exact hm.wh)
 have hdle : x.den≤P.natAbs := Nat.le_of_dvd hpos hd
 have hPlt : P.natAbs < 2 ^ y := by
  have := hp.qs.num
  rw [hw,Rat.num_intCast] at this
  exact this
 have hmw := whole hm.wh
 have hmlt := hm.qs.num
 generalize m.num=n at hmw hmlt
 have h1 : x*((x.den : Nat) : Rat)=((x.num : Int) : Rat) := mul_low x
 have h2 : ((x.num : Int) : Rat)*((P : Int) : Rat)=((n : Int) : Rat)*(((x.den : Nat) : Int) : Rat) := by
  rw [← h1,← hw,← hmw,← e,Rat.intCast_natCast]
  grind
 have h3 : x.num*P=n*(x.den : Int) := by exact_mod_cast h2
 have h4 : x.num.natAbs*P.natAbs=n.natAbs*x.den := by
  have := congrArg Int.natAbs h3
  rwa [Int.natAbs_mul,Int.natAbs_mul,Int.natAbs_natCast] at this
 have h5 : x.num.natAbs≤n.natAbs := by
  refine Nat.le_of_mul_le_mul_right (c := P.natAbs) ?_ hpos
  rw [h4]
  exact Nat.mul_le_mul_left _ hdle
 exact ⟨Nat.lt_of_lt_of_le (Nat.lt_of_le_of_lt h5 hmlt) (Nat.pow_le_pow_right (by decide) hz),Nat.lt_of_lt_of_le (Nat.lt_of_le_of_lt hdle hPlt) (Nat.pow_le_pow_right (by decide) hy)⟩
section
variable {N : List Nd} {Z : List Nat} {E : List (Nat × List Atm)} {q : Nat→Rat}
theorem sizes_okA {σ : Nat→ByteArray} (hσ : ∀ j,(σ j).size≤1048576) (hw : wfB 0 N=true) (hz : saB E 0 N E Z=true) (hq : ∀ (a : Nat) nd,N[a]? = some nd→q a=valN σ q nd) (h0 : ∀ a,N.length≤a→q a=0) : (∀ (a : Nat) z,Z[a]? = some z→QS z (q a))∧∀ a,QS 1000000000000 (q a) := by
 have hl := saB_len hz
 have key : ∀ k,k≤N.length→∃ M,BelA E (fun j => (Cx.rd (σ j).data.toList).den) M q k := by
  intro k
  induction k with
  | zero => exact fun _ => ⟨fun _ => 0,fun a ha => by omega⟩
  | succ k ih =>
   intro hk
   obtain ⟨M,hM⟩ := ih (by omega)
   have hn : N[k]? = some N[k] := List.getElem?_eq_getElem (by omega)
   obtain ⟨p,z,h1,_,h3,_⟩ := saB_get hz hn
   rw [Nat.zero_add] at h3
   have hwf := wfB_get hw hn
   rw [Nat.zero_add] at hwf
   obtain ⟨g1,g2,g3⟩ := node_ok hσ (fun _ => rfl) hM hwf h3
   rw [← hq k _ hn] at g1
   refine ⟨fun x => if x=k then q k*proA (fun j => (Cx.rd (σ j).data.toList).den) M p.2 else M x,fun a ha => ?_⟩
   have same : ∀ {l : List Atm},(∀ x ∈ l,x.1=1→x.2 < k)→proA (fun j => (Cx.rd (σ j).data.toList).den) (fun x => if x=k then q k*proA (fun j => (Cx.rd (σ j).data.toList).den) M p.2 else M x) l=proA (fun j => (Cx.rd (σ j).data.toList).den) M l := fun hl => (proA_congr fun x hx h => by
    have := hl x hx h
    rw [if_neg (by omega)]).symm
   by_cases e : a=k
   ·subst e
    refine ⟨p,h1,?_,g2,g3,?_⟩
    ·show QW p.1 (if a=a then _ else _)
     rw [if_pos rfl]
     exact g1
    ·rw [same g3]
     show _=(if a=a then _ else _)
     rw [if_pos rfl]
   ·obtain ⟨p',f1,f2,f3,f4,f5⟩ := hM a (by omega)
    refine ⟨p',f1,?_,f3,f4,?_⟩
    ·show QW p'.1 (if a=k then _ else M a)
     rw [if_neg e]
     exact f2
    ·rw [same fun x hx h => by have := f4 x hx h; omega]
     show _=(if a=k then _ else M a)
     rw [if_neg e]
     exact f5
 obtain ⟨M,hM⟩ := key N.length (Nat.le_refl _)
 have hdn : ∀ j,0 < (Cx.rd (σ j).data.toList).den∧(Cx.rd (σ j).data.toList).den < 2 ^ inB := fun j => by
  refine ⟨Rat.den_pos _,Nat.lt_of_lt_of_le (QS.rd3 _).den (Nat.pow_le_pow_right (by decide) ?_)⟩
  have := hσ j
  rw [str_len]
  unfold inB
  omega
 have h2 : ∀ (a : Nat) z,Z[a]? = some z→QS z (q a)∧z≤1000000000000 := by
  intro a z ha
  have hlt : a < N.length := by
   have := (List.getElem?_eq_some_iff.1 ha).1
   omega
  have hn : N[a]? = some N[a] := List.getElem?_eq_getElem hlt
  obtain ⟨p,z',h1,h2,_,h4,h5,h6⟩ := saB_get hz hn
  rw [ha] at h2
  cases h2
  obtain ⟨p',f1,f2,f3,f4,f5⟩ := hM a hlt
  rw [h1] at f1
  cases f1
  have hp := proA_ok hdn hM (l := p.2) fun x hx h => Nat.lt_trans (f4 x hx h) hlt
  exact ⟨QS_over f2 hp.1 hp.2 f5 h4 h5,h6⟩
 refine ⟨fun a z h => (h2 a z h).1,fun a => ?_⟩
 by_cases ha : a < Z.length
 ·have := h2 a _ (List.getElem?_eq_getElem ha)
  exact this.1.mono this.2
 ·rw [h0 a (by omega)]
  exact QS.zero.mono (by decide)
theorem hy_ofA {L C : List (List Nat × Nat)} {σ : Nat→ByteArray} {H : List (Nat × Nat × Nat × Nat)} (hσ : ∀ j,(σ j).size≤1048576) (hw : wfB 0 N=true) (hz : saB E 0 N E Z=true) (hl : litB N L=true) (hcn : canB N C=true) (hq : ∀ (a : Nat) nd,N[a]? = some nd→q a=valN σ q nd) (h0 : ∀ a,N.length≤a→q a=0) (hH : hAll q H) : Hy N H L C Z q σ where
 nat := hq
 qs := (sizes_okA hσ hw hz hq h0).2
 zs := (sizes_okA hσ hw hz hq h0).1
 par := hσ
 lit := fun s b h => lit_rd hl hq h
 k0 := fun a r h => kn_at hH h
 k1 := fun a r h => kn_at hH h
 k2 := fun a r h => kn_at hH h
 k3 := fun a b r h => kn_at hH h
 k4 := fun l a b r h1 h2 => by
  have h3 : Nat.beq 1 r=true ↔ q a=q b := kn_at hH h2
  rw [h3,← can_tx hcn hq h1]
  exact ⟨fun e => by rw [e],fun e => tellS_inj (bytesN_inj e)⟩
 k6 := fun a b r h => kn_at hH h
 k5 := fun a r h => kn_at hH h
end
end Go.Proofs.YtjfodeihndjpjaaGreatDoor
/- CFconed -/
namespace Go.Proofs.YtjfodeihndjpjaaGreatDoor
open Go.RowKit Cx
theorem closed_coned : Closed 31 :=
 closed_told (N := [(0,[0,1,1]),(0,[0,0,1]),(0,[1,1,1]),(0,[0,3,5]),(0,[0,4,5]),(4,[1,0]),(4,[0,0]),(3,[5,6]),(4,[0,1]),(3,[8,6]),(4,[1,1]),(3,[6,10]),(4,[0,2]),(3,[5,12]),(4,[2,0]),(3,[8,14]),(4,[2,2]),(3,[16,10]),(4,[7,13]),(4,[7,15]),(4,[9,13]),(2,[19,20]),(4,[9,15]),(4,[7,17]),(4,[11,13]),(2,[23,24]),(4,[9,17]),(4,[11,15]),(2,[26,27]),(4,[11,17]),(3,[5,8]),(3,[12,6]),(4,[1,2]),(3,[8,32]),(3,[6,12]),(3,[8,5]),(3,[32,8]),(4,[30,34]),(4,[30,35]),(4,[31,34]),(2,[38,39]),(4,[31,35]),(4,[30,36]),(4,[33,34]),(2,[42,43]),(4,[31,36]),(4,[33,35]),(2,[45,46]),(4,[33,36]),(0,[0,2,1]),(4,[18,49]),(4,[22,49]),(4,[29,49]),(4,[50,3]),(2,[1,53]),(4,[21,4]),(2,[54,55]),(4,[25,0]),(2,[56,57]),(4,[21,3]),(2,[1,59]),(4,[51,4]),(2,[60,61]),(4,[28,0]),(2,[62,63]),(4,[25,3]),(2,[1,65]),(4,[28,4]),(2,[66,67]),(4,[52,0]),(2,[68,69]),(4,[3,58]),(2,[1,71]),(4,[4,64]),(2,[72,73]),(4,[0,70]),(2,[74,75]),(4,[37,49]),(4,[41,49]),(4,[48,49]),(4,[77,3]),(2,[1,80]),(4,[40,4]),(2,[81,82]),(4,[44,0]),(2,[83,84]),(4,[40,3]),(2,[1,86]),(4,[78,4]),(2,[87,88]),(4,[47,0]),(2,[89,90]),(4,[44,3]),(2,[1,92]),(4,[47,4]),(2,[93,94]),(4,[79,0]),(2,[95,96]),(4,[3,85]),(2,[1,98]),(4,[4,91]),(2,[99,100]),(4,[0,97]),(2,[101,102]),(4,[18,103]),(4,[37,76]),(3,[104,105]),(4,[21,103]),(4,[40,76]),(3,[107,108]),(4,[22,103]),(4,[41,76]),(3,[110,111]),(4,[25,103]),(4,[44,76]),(3,[113,114]),(4,[28,103]),(4,[47,76]),(3,[116,117]),(4,[29,103]),(4,[48,76]),(3,[119,120]),(8,[0,106,109,112,115,118,121]),(8,[1,106,109,112,115,118,121]),(8,[2,106,109,112,115,118,121]),(8,[3,106,109,112,115,118,121]),(8,[4,106,109,112,115,118,121]),(8,[5,106,109,112,115,118,121]),(4,[122,49]),(4,[124,49]),(4,[127,49]),(4,[123,126]),(4,[125,129]),(3,[131,132]),(4,[125,123]),(4,[128,126]),(3,[134,135]),(4,[128,129]),(4,[123,123]),(3,[137,138]),(4,[133,125]),(2,[1,140]),(4,[136,126]),(2,[141,142]),(4,[139,130]),(2,[143,144]),(2,[128,129]),(4,[145,146]),(4,[128,3]),(2,[1,148]),(4,[123,4]),(2,[149,150]),(4,[125,0]),(2,[151,152]),(4,[123,3]),(2,[1,154]),(4,[129,4]),(2,[155,156]),(4,[126,0]),(2,[157,158]),(4,[125,3]),(2,[1,160]),(4,[126,4]),(2,[161,162]),(4,[130,0]),(2,[163,164]),(4,[3,153]),(2,[1,166]),(4,[4,159]),(2,[167,168]),(4,[0,165]),(2,[169,170]),(4,[122,171]),(8,[0,153,159,165]),(8,[1,153,159,165]),(8,[2,153,159,165]),(0,[0,3,1]),(0,[0,4,1]),(0,[1,5,1])]) (H := [(0,106,0,0),(0,122,0,0),(0,145,0,0),(1,139,0,0),(0,139,0,0),(2,147,0,0),(0,172,0,1),(0,153,0,0),(4,122,0,1),(4,123,1,1),(4,124,0,1),(4,125,1,1),(4,126,1,1),(4,127,2,1),(4,173,176,1),(4,174,177,1),(4,175,178,1)]) (K := [(93,[.inr (3,7,0,0,0)]),(173,[.inr (3,43,0,0,0),.inr (3,44,0,0,0)]),(173,[.inr (3,59,0,0,0),.inr (3,60,0,0,0)])]) (L := [([49],0),([48],1),([45,49],2),([51,47,53],3),([52,47,53],4),([51],176),([52],177),([45,53],178)]) (C := [([49],0),([48],1),([45,49],2),([51],176),([52],177),([45,53],178)]) (Z := [2,2,2,4,4,4,4,9,4,9,4,9,4,9,4,9,4,9,18,18,18,37,18,18,18,37,18,18,37,18,9,9,4,9,9,9,9,18,18,18,37,18,18,18,37,18,18,37,18,3,21,21,21,25,28,41,70,39,110,41,44,25,70,39,110,41,44,41,86,23,110,114,117,114,232,112,345,21,21,21,25,28,41,70,39,110,41,44,25,70,39,110,41,44,41,86,23,110,114,117,114,232,112,345,363,363,727,382,382,765,363,363,727,382,382,765,382,382,765,363,363,727,5356,5356,5356,5356,5356,5356,5359,5359,5359,10712,10715,21428,10712,10715,21428,10718,10712,21431,26784,26787,26784,53572,26790,80363,10719,91082,5363,5366,5360,10727,5358,16086,5360,5363,5363,10727,5358,16086,5360,5363,5360,10724,5361,16086,16090,16093,16090,32184,16088,48273,53629,64345,64345,64345,3,4,4]) (cl := []) 8 (fun _ h => by cases h) (by kernel_rfl) (by kernel_rfl) (by kernel_rfl) (by kernel_rfl) (by kernel_rfl) (by kernel_rfl) (by kernel_rfl)
end Go.Proofs.YtjfodeihndjpjaaGreatDoor
/- MKF -/
namespace Go.Proofs.YtjfodeihndjpjaaGreatDoor
open Go.RowKit Cx
def kF_N : List Nd := [(1,[0]),(1,[1]),(1,[2]),(1,[3]),(3,[2,0]),(3,[3,1]),(5,[5]),(4,[6,6]),(4,[4,4]),(2,[7,8]),(1,[4]),(1,[5]),(1,[6]),(1,[7]),(3,[12,10]),(3,[13,11]),(5,[15]),(4,[16,16]),(4,[14,14]),(2,[17,18]),(0,[0,0,1]),(4,[20,20]),(2,[21,21]),(3,[10,0]),(3,[11,1]),(5,[24]),(4,[25,25]),(4,[23,23]),(2,[26,27]),(3,[12,2]),(3,[13,3]),(5,[30]),(4,[31,31]),(4,[29,29]),(2,[32,33]),(4,[25,0]),(4,[23,1]),(2,[35,36]),(5,[37]),(8,[0,25,23,38]),(8,[1,25,23,38]),(8,[2,25,23,38]),(4,[31,2]),(4,[29,3]),(2,[42,43]),(5,[44]),(8,[0,31,29,45]),(8,[1,31,29,45]),(8,[2,31,29,45]),(4,[39,46]),(4,[39,47]),(4,[40,46]),(2,[50,51]),(4,[40,47]),(4,[39,48]),(4,[41,46]),(2,[54,55]),(4,[40,48]),(4,[41,47]),(2,[57,58]),(4,[41,48]),(4,[16,10]),(4,[14,11]),(2,[61,62]),(5,[63]),(8,[0,16,14,64]),(8,[1,16,14,64]),(8,[2,16,14,64]),(4,[20,65]),(4,[20,66]),(2,[69,68]),(4,[20,67]),(2,[71,68]),(2,[71,69]),(4,[20,46]),(4,[20,47]),(2,[75,74]),(4,[20,48]),(2,[77,74]),(2,[77,75]),(4,[39,20]),(4,[40,20]),(2,[80,81]),(4,[41,20]),(2,[80,83]),(2,[81,83]),(4,[6,0]),(4,[4,1]),(2,[86,87]),(5,[88]),(8,[0,6,4,89]),(8,[1,6,4,89]),(8,[2,6,4,89]),(4,[90,20]),(4,[91,20]),(2,[93,94]),(4,[92,20]),(2,[93,96]),(2,[94,96]),(4,[90,65]),(4,[90,66]),(4,[91,65]),(2,[100,101]),(4,[91,66]),(4,[90,67]),(4,[92,65]),(2,[104,105]),(4,[91,67]),(4,[92,66]),(2,[107,108]),(4,[92,67]),(4,[99,99]),(4,[102,102]),(2,[111,112]),(4,[103,103]),(2,[113,114]),(4,[106,106]),(2,[115,116]),(4,[109,109]),(2,[117,118]),(4,[49,49]),(4,[52,52]),(2,[120,121]),(4,[53,53]),(2,[122,123]),(4,[56,56]),(2,[124,125]),(4,[59,59]),(2,[126,127]),(1,[8]),(1,[9]),(0,[0,1,1]),(0,[0,2,1]),(4,[99,132]),(4,[103,132]),(4,[110,132]),(4,[133,129]),(2,[20,136]),(4,[102,130]),(2,[137,138]),(4,[106,131]),(2,[139,140]),(4,[102,129]),(2,[20,142]),(4,[134,130]),(2,[143,144]),(4,[109,131]),(2,[145,146]),(4,[106,129]),(2,[20,148]),(4,[109,130]),(2,[149,150]),(4,[135,131]),(2,[151,152]),(4,[129,141]),(2,[20,154]),(4,[130,147]),(2,[155,156]),(4,[131,153]),(2,[157,158]),(4,[49,132]),(4,[53,132]),(4,[60,132]),(4,[160,129]),(2,[20,163]),(4,[52,130]),(2,[164,165]),(4,[56,131]),(2,[166,167]),(4,[52,129]),(2,[20,169]),(4,[161,130]),(2,[170,171]),(4,[59,131]),(2,[172,173]),(4,[56,129]),(2,[20,175]),(4,[59,130]),(2,[176,177]),(4,[162,131]),(2,[178,179]),(4,[129,168]),(2,[20,181]),(4,[130,174]),(2,[182,183]),(4,[131,180]),(2,[184,185]),(4,[99,186]),(4,[49,159]),(3,[187,188]),(4,[102,186]),(4,[52,159]),(3,[190,191]),(4,[103,186]),(4,[53,159]),(3,[193,194]),(4,[106,186]),(4,[56,159]),(3,[196,197]),(4,[109,186]),(4,[59,159]),(3,[199,200]),(4,[110,186]),(4,[60,159]),(3,[202,203]),(4,[189,189]),(4,[192,192]),(2,[205,206]),(4,[195,195]),(2,[207,208]),(4,[198,198]),(2,[209,210]),(4,[201,201]),(2,[211,212]),(4,[1,131]),(4,[131,3]),(3,[214,215]),(4,[131,2]),(4,[0,131]),(3,[217,218]),(4,[0,3]),(4,[1,2]),(3,[220,221]),(4,[11,131]),(4,[131,13]),(3,[223,224]),(4,[131,12]),(4,[10,131]),(3,[226,227]),(4,[10,13]),(4,[11,12]),(3,[229,230]),(4,[216,225]),(4,[216,228]),(4,[219,225]),(2,[233,234]),(4,[219,228]),(4,[216,231]),(4,[222,225]),(2,[237,238]),(4,[219,231]),(4,[222,228]),(2,[240,241]),(4,[222,231]),(4,[131,11]),(3,[214,244]),(4,[131,10]),(3,[246,218]),(4,[0,11]),(4,[1,10]),(3,[248,249]),(4,[3,131]),(3,[251,224]),(4,[2,131]),(3,[226,253]),(4,[2,13]),(4,[3,12]),(3,[255,256]),(4,[245,252]),(4,[245,254]),(4,[247,252]),(2,[259,260]),(4,[247,254]),(4,[245,257]),(4,[250,252]),(2,[263,264]),(4,[247,257]),(4,[250,254]),(2,[266,267]),(4,[250,257]),(4,[232,132]),(4,[236,132]),(4,[243,132]),(4,[270,129]),(2,[20,273]),(4,[235,130]),(2,[274,275]),(4,[239,131]),(2,[276,277]),(4,[235,129]),(2,[20,279]),(4,[271,130]),(2,[280,281]),(4,[242,131]),(2,[282,283]),(4,[239,129]),(2,[20,285]),(4,[242,130]),(2,[286,287]),(4,[272,131]),(2,[288,289]),(4,[129,278]),(2,[20,291]),(4,[130,284]),(2,[292,293]),(4,[131,290]),(2,[294,295]),(4,[258,132]),(4,[262,132]),(4,[269,132]),(4,[297,129]),(2,[20,300]),(4,[261,130]),(2,[301,302]),(4,[265,131]),(2,[303,304]),(4,[261,129]),(2,[20,306]),(4,[298,130]),(2,[307,308]),(4,[268,131]),(2,[309,310]),(4,[265,129]),(2,[20,312]),(4,[268,130]),(2,[313,314]),(4,[299,131]),(2,[315,316]),(4,[129,305]),(2,[20,318]),(4,[130,311]),(2,[319,320]),(4,[131,317]),(2,[321,322]),(4,[232,323]),(4,[258,296]),(3,[324,325]),(4,[235,323]),(4,[261,296]),(3,[327,328]),(4,[236,323]),(4,[262,296]),(3,[330,331]),(4,[239,323]),(4,[265,296]),(3,[333,334]),(4,[242,323]),(4,[268,296]),(3,[336,337]),(4,[243,323]),(4,[269,296]),(3,[339,340]),(4,[326,326]),(4,[329,329]),(2,[342,343]),(4,[332,332]),(2,[344,345]),(4,[335,335]),(2,[346,347]),(4,[338,338]),(2,[348,349]),(8,[0,189,192,195,198,201,204]),(8,[1,189,192,195,198,201,204]),(8,[2,189,192,195,198,201,204]),(8,[3,189,192,195,198,201,204]),(8,[4,189,192,195,198,201,204]),(8,[5,189,192,195,198,201,204]),(8,[0,326,329,332,335,338,341]),(8,[1,326,329,332,335,338,341]),(8,[2,326,329,332,335,338,341]),(8,[3,326,329,332,335,338,341]),(8,[4,326,329,332,335,338,341]),(8,[5,326,329,332,335,338,341])]
def kF_L : List (List Nat × Nat) := [([],20)]
def kF_C : List (List Nat × Nat) := []
def kF_Z : List Nat := [3495260,3495260,3495260,3495260,6990520,6990520,6990520,13981040,13981040,27962078,3495260,3495260,3495260,3495260,6990520,6990520,6990520,13981040,13981040,27962078,1,2,4,6990520,6990520,6990520,13981040,13981040,27962078,6990520,6990520,6990520,13981040,13981040,27962078,10485779,10485779,13981040,13981040,13981039,13981039,13981041,10485779,10485779,13981040,13981040,13981039,13981039,13981041,27962078,27962078,27962078,27962080,27962078,27962080,27962080,27962082,27962080,27962080,27962082,27962082,10485779,10485779,13981040,13981040,13981039,13981039,13981041,13981040,13981040,13981042,13981042,13981044,13981044,13981040,13981040,13981042,13981042,13981044,13981044,13981040,13981040,13981042,13981042,13981044,13981044,10485779,10485779,13981040,13981040,13981039,13981039,13981041,13981040,13981040,13981042,13981042,13981044,13981044,27962078,27962078,27962078,27962080,27962078,27962080,27962080,27962082,27962080,27962080,27962082,27962082,55924156,55924160,55924162,55924156,55924164,55924164,55924166,55924164,55924168,55924156,55924160,55924162,55924156,55924164,55924164,55924166,55924164,55924168,3495260,3495260,1,2,27962080,27962080,27962084,31457339,31457341,31457339,34952602,27962083,34952604,31457339,31457341,31457339,34952602,27962083,34952604,31457341,31457343,31457341,34952604,27962085,34952606,38447863,38447865,38447863,41943126,34952607,41943128,27962080,27962080,27962084,31457339,31457341,31457339,34952602,27962083,34952604,31457339,31457341,31457339,34952602,27962083,34952604,31457341,31457343,31457341,34952604,27962085,34952606,38447863,38447865,38447863,41943126,34952607,41943128,69905206,69905206,69905208,69905208,69905208,69905210,69905206,69905206,69905208,69905210,69905210,69905212,69905210,69905210,69905212,69905210,69905210,69905212,139810416,139810420,139810422,139810416,139810424,139810424,139810426,139810424,139810428,3495260,3495260,6990521,3495260,3495260,6990521,6990519,6990519,13981038,3495260,3495260,6990521,3495260,3495260,6990521,6990519,6990519,13981038,13981042,13981042,13981042,27962080,13981042,20971559,20971559,27962079,20971559,20971559,27962079,27962076,3495260,6990521,3495260,6990521,6990519,6990519,13981038,3495260,6990521,3495260,6990521,6990519,6990519,13981038,13981042,13981042,13981042,27962080,13981042,20971559,20971559,27962079,20971559,20971559,27962079,27962076,13981044,13981044,27962078,17476303,17476305,31457339,34952602,27962080,34952604,31457339,31457341,17476303,34952602,27962080,34952604,31457338,31457340,31457338,34952601,27962079,34952603,38447863,38447865,38447863,41943126,34952604,41943128,13981044,13981044,27962078,17476303,17476305,31457339,34952602,27962080,34952604,31457339,31457341,17476303,34952602,27962080,34952604,31457338,31457340,31457338,34952601,27962079,34952603,38447863,38447865,38447863,41943126,34952604,41943128,55924170,55924170,55924172,69905208,69905208,69905210,55924170,55924170,55924172,69905207,69905207,69905209,69905207,69905207,69905209,69905204,69905204,69905206,111848344,139810420,139810422,111848344,139810424,139810418,139810426,139810418,139810428,69905209,69905211,69905209,69905213,69905213,69905213,69905209,69905211,69905209,69905210,69905210,69905207]
def kF_D0 : List Atm := [(0,0),(0,2)]
def kF_D1 : List Atm := [(0,1),(0,3)]
def kF_D2 : List Atm := [(0,4),(0,6)]
def kF_D3 : List Atm := [(0,5),(0,7)]
def kF_D4 : List Atm := [(0,0),(0,4)]
def kF_D5 : List Atm := [(0,1),(0,5)]
def kF_D6 : List Atm := [(0,2),(0,6)]
def kF_D7 : List Atm := [(0,3),(0,7)]
def kF_D8 : List Atm := [(0,0),(0,1),(0,4),(0,5)]
def kF_D9 : List Atm := [(0,2),(0,3),(0,6),(0,7)]
def kF_D10 : List Atm := [(0,4),(0,5),(0,6),(0,7)]
def kF_D11 : List Atm := [(0,0),(0,1),(0,2),(0,3)]
def kF_D12 : List Atm := [(0,8),(0,9)]
def kF_D13 : List Atm := [(0,8),(0,8),(0,9)]
def kF_D14 : List Atm := [(0,8),(0,9),(0,9)]
def kF_D15 : List Atm := [(0,8),(0,8),(0,9),(0,9)]
def kF_D16 : List Atm := [(0,8),(0,8),(0,8),(0,8),(0,9),(0,9),(0,9),(0,9)]
def kF_D17 : List Atm := [(0,1),(0,3),(0,5),(0,7)]
def kF_D18 : List Atm := [(0,0),(0,1),(0,2),(0,3),(0,4),(0,5),(0,6),(0,7)]
def kF_D19 : List Atm := [(0,0),(0,2),(0,4),(0,6)]
def kF_D20 : List Atm := [(0,1),(0,3),(0,5),(0,7),(0,8)]
def kF_D21 : List Atm := [(0,0),(0,1),(0,2),(0,3),(0,4),(0,5),(0,6),(0,7),(0,9)]
def kF_D22 : List Atm := [(0,0),(0,1),(0,2),(0,3),(0,4),(0,5),(0,6),(0,7),(0,8),(0,9)]
def kF_D23 : List Atm := [(0,0),(0,1),(0,2),(0,3),(0,4),(0,5),(0,6),(0,7),(0,8)]
def kF_D24 : List Atm := [(0,0),(0,2),(0,4),(0,6),(0,9)]
def kF_D25 : List Atm := [(0,0),(0,1),(0,2),(0,3),(0,4),(0,5),(0,6),(0,7),(0,8),(0,8),(0,9)]
def kF_D26 : List Atm := [(0,0),(0,1),(0,2),(0,3),(0,4),(0,5),(0,6),(0,7),(0,8),(0,9),(0,9)]
def kF_D27 : List Atm := [(0,0),(0,1),(0,2),(0,3),(0,4),(0,5),(0,6),(0,7),(0,8),(0,8),(0,9),(0,9)]
def kF_D28 : List Atm := [(0,0),(0,1),(0,1),(0,2),(0,3),(0,3),(0,4),(0,5),(0,5),(0,6),(0,7),(0,7),(0,8),(0,8),(0,9),(0,9)]
def kF_D29 : List Atm := [(0,0),(0,0),(0,1),(0,1),(0,2),(0,2),(0,3),(0,3),(0,4),(0,4),(0,5),(0,5),(0,6),(0,6),(0,7),(0,7),(0,8),(0,8),(0,9),(0,9)]
def kF_D30 : List Atm := [(0,0),(0,0),(0,1),(0,2),(0,2),(0,3),(0,4),(0,4),(0,5),(0,6),(0,6),(0,7),(0,8),(0,8),(0,9),(0,9)]
def kF_D31 : List Atm := [(0,0),(0,0),(0,0),(0,0),(0,1),(0,1),(0,1),(0,1),(0,2),(0,2),(0,2),(0,2),(0,3),(0,3),(0,3),(0,3),(0,4),(0,4),(0,4),(0,4),(0,5),(0,5),(0,5),(0,5),(0,6),(0,6),(0,6),(0,6),(0,7),(0,7),(0,7),(0,7),(0,8),(0,8),(0,8),(0,8),(0,9),(0,9),(0,9),(0,9)]
def kF_E : List (Nat × List Atm) := [(3495259,[(0,0)]),(3495259,[(0,1)]),(3495259,[(0,2)]),(3495259,[(0,3)]),(6990520,kF_D0),(6990520,kF_D1),(6990520,kF_D1),(13981040,[(0,1),(0,1),(0,3),(0,3)]),(13981040,[(0,0),(0,0),(0,2),(0,2)]),(27962078,[(0,0),(0,0),(0,1),(0,1),(0,2),(0,2),(0,3),(0,3)]),(3495259,[(0,4)]),(3495259,[(0,5)]),(3495259,[(0,6)]),(3495259,[(0,7)]),(6990520,kF_D2),(6990520,kF_D3),(6990520,kF_D3),(13981040,[(0,5),(0,5),(0,7),(0,7)]),(13981040,[(0,4),(0,4),(0,6),(0,6)]),(27962078,[(0,4),(0,4),(0,5),(0,5),(0,6),(0,6),(0,7),(0,7)]),(1,[]),(2,[]),(4,[]),(6990520,kF_D4),(6990520,kF_D5),(6990520,kF_D5),(13981040,[(0,1),(0,1),(0,5),(0,5)]),(13981040,[(0,0),(0,0),(0,4),(0,4)]),(27962078,[(0,0),(0,0),(0,1),(0,1),(0,4),(0,4),(0,5),(0,5)]),(6990520,kF_D6),(6990520,kF_D7),(6990520,kF_D7),(13981040,[(0,3),(0,3),(0,7),(0,7)]),(13981040,[(0,2),(0,2),(0,6),(0,6)]),(27962078,[(0,2),(0,2),(0,3),(0,3),(0,6),(0,6),(0,7),(0,7)]),(10485779,[(0,0),(0,1),(0,5)]),(10485779,[(0,0),(0,1),(0,4)]),(13981040,kF_D8),(13981040,kF_D8),(13981039,[]),(13981039,[]),(13981041,[]),(10485779,[(0,2),(0,3),(0,7)]),(10485779,[(0,2),(0,3),(0,6)]),(13981040,kF_D9),(13981040,kF_D9),(13981039,[]),(13981039,[]),(13981041,[]),(27962078,[]),(27962078,[]),(27962078,[]),(27962080,[]),(27962078,[]),(27962080,[]),(27962080,[]),(27962082,[]),(27962080,[]),(27962080,[]),(27962082,[]),(27962082,[]),(10485779,[(0,4),(0,5),(0,7)]),(10485779,[(0,4),(0,5),(0,6)]),(13981040,kF_D10),(13981040,kF_D10),(13981039,[]),(13981039,[]),(13981041,[]),(13981040,[]),(13981040,[]),(13981042,[]),(13981042,[]),(13981044,[]),(13981044,[]),(13981040,[]),(13981040,[]),(13981042,[]),(13981042,[]),(13981044,[]),(13981044,[]),(13981040,[]),(13981040,[]),(13981042,[]),(13981042,[]),(13981044,[]),(13981044,[]),(10485779,[(0,0),(0,1),(0,3)]),(10485779,[(0,0),(0,1),(0,2)]),(13981040,kF_D11),(13981040,kF_D11),(13981039,[]),(13981039,[]),(13981041,[]),(13981040,[]),(13981040,[]),(13981042,[]),(13981042,[]),(13981044,[]),(13981044,[]),(27962078,[]),(27962078,[]),(27962078,[]),(27962080,[]),(27962078,[]),(27962080,[]),(27962080,[]),(27962082,[]),(27962080,[]),(27962080,[]),(27962082,[]),(27962082,[]),(55924156,[]),(55924160,[]),(55924162,[]),(55924156,[]),(55924164,[]),(55924164,[]),(55924166,[]),(55924164,[]),(55924168,[]),(55924156,[]),(55924160,[]),(55924162,[]),(55924156,[]),(55924164,[]),(55924164,[]),(55924166,[]),(55924164,[]),(55924168,[]),(3495259,[(0,8)]),(3495259,[(0,9)]),(1,[]),(2,[]),(27962080,[]),(27962080,[]),(27962084,[]),(31457339,[(0,8)]),(31457341,[(0,8)]),(31457339,[(0,9)]),(34952602,kF_D12),(27962083,[]),(34952604,kF_D12),(31457339,[(0,8)]),(31457341,[(0,8)]),(31457339,[(0,9)]),(34952602,kF_D12),(27962083,[]),(34952604,kF_D12),(31457341,[(0,8)]),(31457343,[(0,8)]),(31457341,[(0,9)]),(34952604,kF_D12),(27962085,[]),(34952606,kF_D12),(38447863,kF_D13),(38447865,kF_D13),(38447863,kF_D14),(41943126,kF_D15),(34952607,kF_D12),(41943128,kF_D15),(27962080,[]),(27962080,[]),(27962084,[]),(31457339,[(0,8)]),(31457341,[(0,8)]),(31457339,[(0,9)]),(34952602,kF_D12),(27962083,[]),(34952604,kF_D12),(31457339,[(0,8)]),(31457341,[(0,8)]),(31457339,[(0,9)]),(34952602,kF_D12),(27962083,[]),(34952604,kF_D12),(31457341,[(0,8)]),(31457343,[(0,8)]),(31457341,[(0,9)]),(34952604,kF_D12),(27962085,[]),(34952606,kF_D12),(38447863,kF_D13),(38447865,kF_D13),(38447863,kF_D14),(41943126,kF_D15),(34952607,kF_D12),(41943128,kF_D15),(69905206,kF_D15),(69905206,kF_D15),(69905208,kF_D15),(69905208,kF_D15),(69905208,kF_D15),(69905210,kF_D15),(69905206,kF_D15),(69905206,kF_D15),(69905208,kF_D15),(69905210,kF_D15),(69905210,kF_D15),(69905212,kF_D15),(69905210,kF_D15),(69905210,kF_D15),(69905212,kF_D15),(69905210,kF_D15),(69905210,kF_D15),(69905212,kF_D15),(139810416,kF_D16),(139810420,kF_D16),(139810422,kF_D16),(139810416,kF_D16),(139810424,kF_D16),(139810424,kF_D16),(139810426,kF_D16),(139810424,kF_D16),(139810428,kF_D16),(3495260,[(0,1)]),(3495260,[(0,3)]),(6990521,kF_D1),(3495260,[(0,2)]),(3495260,[(0,0)]),(6990521,kF_D0),(6990518,[(0,0),(0,3)]),(6990518,[(0,1),(0,2)]),(13981038,kF_D11),(3495260,[(0,5)]),(3495260,[(0,7)]),(6990521,kF_D3),(3495260,[(0,6)]),(3495260,[(0,4)]),(6990521,kF_D2),(6990518,[(0,4),(0,7)]),(6990518,[(0,5),(0,6)]),(13981038,kF_D10),(13981042,kF_D17),(13981042,[(0,1),(0,3),(0,4),(0,6)]),(13981042,[(0,0),(0,2),(0,5),(0,7)]),(27962080,kF_D18),(13981042,kF_D19),(20971559,[(0,1),(0,3),(0,4),(0,5),(0,6),(0,7)]),(20971559,[(0,0),(0,1),(0,2),(0,3),(0,5),(0,7)]),(27962079,kF_D18),(20971559,[(0,0),(0,2),(0,4),(0,5),(0,6),(0,7)]),(20971559,[(0,0),(0,1),(0,2),(0,3),(0,4),(0,6)]),(27962079,kF_D18),(27962076,kF_D18),(3495260,[(0,5)]),(6990521,kF_D5),(3495260,[(0,4)]),(6990521,kF_D4),(6990518,[(0,0),(0,5)]),(6990518,[(0,1),(0,4)]),(13981038,kF_D8),(3495260,[(0,3)]),(6990521,kF_D7),(3495260,[(0,2)]),(6990521,kF_D6),(6990518,[(0,2),(0,7)]),(6990518,[(0,3),(0,6)]),(13981038,kF_D9),(13981042,kF_D17),(13981042,[(0,1),(0,2),(0,5),(0,6)]),(13981042,[(0,0),(0,3),(0,4),(0,7)]),(27962080,kF_D18),(13981042,kF_D19),(20971559,[(0,1),(0,2),(0,3),(0,5),(0,6),(0,7)]),(20971559,[(0,0),(0,1),(0,3),(0,4),(0,5),(0,7)]),(27962079,kF_D18),(20971559,[(0,0),(0,2),(0,3),(0,4),(0,6),(0,7)]),(20971559,[(0,0),(0,1),(0,2),(0,4),(0,5),(0,6)]),(27962079,kF_D18),(27962076,kF_D18),(13981044,kF_D17),(13981044,kF_D19),(27962078,kF_D18),(17476303,kF_D20),(17476305,kF_D20),(31457339,kF_D21),(34952602,kF_D22),(27962080,kF_D18),(34952604,kF_D22),(31457339,kF_D23),(31457341,kF_D23),(17476303,kF_D24),(34952602,kF_D22),(27962080,kF_D18),(34952604,kF_D22),(31457338,kF_D23),(31457340,kF_D23),(31457338,kF_D21),(34952601,kF_D22),(27962079,kF_D18),(34952603,kF_D22),(38447863,kF_D25),(38447865,kF_D25),(38447863,kF_D26),(41943126,kF_D27),(34952604,kF_D22),(41943128,kF_D27),(13981044,kF_D17),(13981044,kF_D19),(27962078,kF_D18),(17476303,kF_D20),(17476305,kF_D20),(31457339,kF_D21),(34952602,kF_D22),(27962080,kF_D18),(34952604,kF_D22),(31457339,kF_D23),(31457341,kF_D23),(17476303,kF_D24),(34952602,kF_D22),(27962080,kF_D18),(34952604,kF_D22),(31457338,kF_D23),(31457340,kF_D23),(31457338,kF_D21),(34952601,kF_D22),(27962079,kF_D18),(34952603,kF_D22),(38447863,kF_D25),(38447865,kF_D25),(38447863,kF_D26),(41943126,kF_D27),(34952604,kF_D22),(41943128,kF_D27),(55924170,kF_D28),(55924170,kF_D28),(55924172,kF_D28),(69905208,kF_D29),(69905208,kF_D29),(69905210,kF_D29),(55924170,kF_D30),(55924170,kF_D30),(55924172,kF_D30),(69905207,kF_D29),(69905207,kF_D29),(69905209,kF_D29),(69905207,kF_D29),(69905207,kF_D29),(69905209,kF_D29),(69905204,kF_D29),(69905204,kF_D29),(69905206,kF_D29),(111848344,[(0,0),(0,0),(0,1),(0,1),(0,1),(0,1),(0,2),(0,2),(0,3),(0,3),(0,3),(0,3),(0,4),(0,4),(0,5),(0,5),(0,5),(0,5),(0,6),(0,6),(0,7),(0,7),(0,7),(0,7),(0,8),(0,8),(0,8),(0,8),(0,9),(0,9),(0,9),(0,9)]),(139810420,kF_D31),(139810422,kF_D31),(111848344,[(0,0),(0,0),(0,0),(0,0),(0,1),(0,1),(0,2),(0,2),(0,2),(0,2),(0,3),(0,3),(0,4),(0,4),(0,4),(0,4),(0,5),(0,5),(0,6),(0,6),(0,6),(0,6),(0,7),(0,7),(0,8),(0,8),(0,8),(0,8),(0,9),(0,9),(0,9),(0,9)]),(139810424,kF_D31),(139810418,kF_D31),(139810426,kF_D31),(139810418,kF_D31),(139810428,kF_D31),(69905209,[]),(69905211,[]),(69905209,[]),(69905213,[]),(69905213,[]),(69905213,[]),(69905209,[]),(69905211,[]),(69905209,[]),(69905210,[]),(69905210,[]),(69905207,[])]
abbrev kF_Q (q : Nat→Rat) (σ : Nat→ByteArray) : Prop := ∀ (a : Nat) nd,kF_N[a]? = some nd→q a=valN σ q nd
variable {q : Nat→Rat} {σ : Nat→ByteArray}
theorem kF_wf : wfB 0 kF_N=true := by kernel_rfl
theorem kF_sz : saB kF_E 0 kF_N kF_E kF_Z=true := by kernel_rfl
theorem kF_lt : litB kF_N kF_L=true := by kernel_rfl
theorem kF_cn : canB kF_N kF_C=true := by kernel_rfl
theorem kF_c20 : cst 0 0 1=(0 : Rat) := by decide +kernel
theorem kF_c131 : cst 0 1 1=(1 : Rat) := by decide +kernel
theorem kF_c132 : cst 0 2 1=(2 : Rat) := by decide +kernel
def kF_A : List AV := [(false,[(true,[.inr (2,0,0,0,0),.inr (2,1,0,0,0),.inr (2,2,0,0,0),.inr (2,3,0,0,0),.inr (2,4,0,0,0),.inr (2,5,0,0,0),.inr (2,6,0,0,0),.inr (2,7,0,0,0)])]),(false,[(true,[.inr (2,8,0,0,0),.inr (2,9,0,0,0)])])]
theorem sq2 {x y m1 m2 s : Rat} (h1 : m1=x*x) (h2 : m2=y*y) (hs : s=m1+m2) : s=0 ↔ (x=0∧y=0) := by
 have a1 := sq_facts x
 have a2 := sq_facts y
 subst_vars
 constructor
 ·intro h
  refine ⟨a1.2.1 ?_,a2.2.1 ?_⟩ <;> grind
 ·rintro ⟨h1,h2⟩
  rw [h1,h2]; grind
theorem sq5 {a b c d e m1 m2 m3 m4 m5 s t u v : Rat} (h1 : m1=a*a) (h2 : m2=b*b) (hs : s=m1+m2) (h3 : m3=c*c) (ht : t=s+m3) (h4 : m4=d*d) (hu : u=t+m4) (h5 : m5=e*e) (hv : v=u+m5) : v=0 ↔ (a=0∧b=0∧c=0∧d=0∧e=0) := by
 have a1 := sq_facts a
 have a2 := sq_facts b
 have a3 := sq_facts c
 have a4 := sq_facts d
 have a5 := sq_facts e
 subst_vars
 constructor
 ·intro h
  refine ⟨a1.2.1 ?_,a2.2.1 ?_,a3.2.1 ?_,a4.2.1 ?_,a5.2.1 ?_⟩ <;> grind
 ·rintro ⟨h1,h2,h3,h4,h5⟩
  rw [h1,h2,h3,h4,h5]; grind
theorem kf_nf {A B a b : Rat} (h1 : ¬ (A=0∧B=0)) (h2 : ¬ (a=0∧b=0)) : ¬ (A*a=0∧A*b+B*a=0∧B*b=0) := by
 rintro ⟨x,y,z⟩
 rcases Rat.mul_eq_zero.1 x with hA | ha
 ·have hB : B ≠ 0 := fun h => h1 ⟨hA,h⟩
  have hb := (Rat.mul_eq_zero.1 z).resolve_left hB
  rw [hA,hb] at y
  have y' : B*a=0 := by grind
  exact h2 ⟨(Rat.mul_eq_zero.1 y').resolve_left hB,hb⟩
 ·have hb : b ≠ 0 := fun h => h2 ⟨ha,h⟩
  have hB := (Rat.mul_eq_zero.1 z).resolve_right hb
  rw [ha,hB] at y
  have y' : A*b=0 := by grind
  exact h1 ⟨(Rat.mul_eq_zero.1 y').resolve_right hb,hB⟩
theorem kf_z {P F T : Rat} (hF : F ≠ 0) (h : P=F*T) : P=0 ↔ T=0 := by
 rw [h]
 exact ⟨fun q => (Rat.mul_eq_zero.1 q).resolve_left hF,fun q => by rw [q,Rat.mul_zero]⟩
theorem kf_eq {F P0 P1 P2 P3 P4 P5 T0 T1 T2 T3 T4 T5 : Rat} (hF : F ≠ 0) (h0 : P0=F*T0) (h1 : P1=F*T1) (h2 : P2=F*T2) (h3 : P3=F*T3) (h4 : P4=F*T4) (h5 : P5=F*T5) (hn : ¬ (T0=0∧T1=0∧T2=0∧T3=0∧T4=0)) : P0*fac [P0,P1,P2,P3,P4,P5]=T0*fac [T0,T1,T2,T3,T4,T5]∧P1*fac [P0,P1,P2,P3,P4,P5]=T1*fac [T0,T1,T2,T3,T4,T5]∧P2*fac [P0,P1,P2,P3,P4,P5]=T2*fac [T0,T1,T2,T3,T4,T5]∧P3*fac [P0,P1,P2,P3,P4,P5]=T3*fac [T0,T1,T2,T3,T4,T5]∧P4*fac [P0,P1,P2,P3,P4,P5]=T4*fac [T0,T1,T2,T3,T4,T5]∧P5*fac [P0,P1,P2,P3,P4,P5]=T5*fac [T0,T1,T2,T3,T4,T5] := by
 have hx : ∃ q0 ∈ [T0,T1,T2,T3,T4,T5],q0 ≠ 0 := by
  refine Classical.byContradiction fun h => hn ?_
  have g : ∀ x ∈ [T0,T1,T2,T3,T4,T5],x=0 := fun x hx => Classical.byContradiction fun e => h ⟨x,hx,e⟩
  exact ⟨g _ (by simp),g _ (by simp),g _ (by simp),g _ (by simp),g _ (by simp)⟩
 obtain ⟨q0,m0,z0⟩ := hx
 have k := fac_scale m0 z0 hF
 simp only [List.map] at k
 rw [← h0,← h1,← h2,← h3,← h4,← h5] at k
 have g : ∀ {P T : Rat},P=F*T→P*fac [P0,P1,P2,P3,P4,P5]=T*fac [T0,T1,T2,T3,T4,T5] := by
  intro P T h
  rw [← k,h]
  generalize fac [P0,P1,P2,P3,P4,P5]=f
  grind
 exact ⟨g h0,g h1,g h2,g h3,g h4,g h5⟩
theorem kF_AA (H : kF_Q q σ) : (¬ (q 9=0))→(¬ (q 19=0))→(¬ (q 119=0)) := by
 have e4:q 4=q 2-q 0:=H 4 _ rfl;have e6:q 6=-q 5:=H 6 _ rfl;have e7:q 7=q 6*q 6:=H 7 _ rfl;have e8:q 8=q 4*q 4:=H 8 _ rfl;have e9:q 9=q 7+q 8:=H 9 _ rfl;have e14:q 14=q 12-q 10:=H 14 _ rfl;have e16:q 16=-q 15:=H 16 _ rfl;have e17:q 17=q 16*q 16:=H 17 _ rfl;have e18:q 18=q 14*q 14:=H 18 _ rfl;have e19:q 19=q 17+q 18:=H 19 _ rfl;have e65:q 65=q 16*fac [q 16,q 14,q 64]:=H 65 _ rfl;have e66:q 66=q 14*fac [q 16,q 14,q 64]:=H 66 _ rfl;have e67:q 67=q 64*fac [q 16,q 14,q 64]:=H 67 _ rfl;have e90:q 90=q 6*fac [q 6,q 4,q 89]:=H 90 _ rfl;have e91:q 91=q 4*fac [q 6,q 4,q 89]:=H 91 _ rfl;have e92:q 92=q 89*fac [q 6,q 4,q 89]:=H 92 _ rfl;have e99:q 99=q 90*q 65:=H 99 _ rfl;have e100:q 100=q 90*q 66:=H 100 _ rfl;have e101:q 101=q 91*q 65:=H 101 _ rfl;have e102:q 102=q 100+q 101:=H 102 _ rfl;have e103:q 103=q 91*q 66:=H 103 _ rfl;have e111:q 111=q 99*q 99:=H 111 _ rfl;have e112:q 112=q 102*q 102:=H 112 _ rfl;have e113:q 113=q 111+q 112:=H 113 _ rfl;have e114:q 114=q 103*q 103:=H 114 _ rfl;have e115:q 115=q 113+q 114:=H 115 _ rfl;have e116:q 116=q 106*q 106:=H 116 _ rfl;have e117:q 117=q 115+q 116:=H 117 _ rfl;have e118:q 118=q 109*q 109:=H 118 _ rfl;have e119:q 119=q 117+q 118:=H 119 _ rfl
 clear H
 intro u0 u1
 have n1 : ¬ (q 6=0∧q 4=0) := fun h => u0 ((sq2 e7 e8 e9).2 h)
 obtain ⟨f1,g1⟩ : ∃ f,f=fac [q 6,q 4,q 89] := ⟨_,rfl⟩
 have k1 : f1 ≠ 0 := fun h => n1 ⟨fac_zero (by simp) (g1.symm.trans h),fac_zero (by simp) (g1.symm.trans h)⟩
 rw [← g1] at e90 e91 e92
 have n2 : ¬ (q 16=0∧q 14=0) := fun h => u1 ((sq2 e17 e18 e19).2 h)
 obtain ⟨f2,g2⟩ : ∃ f,f=fac [q 16,q 14,q 64] := ⟨_,rfl⟩
 have k2 : f2 ≠ 0 := fun h => n2 ⟨fac_zero (by simp) (g2.symm.trans h),fac_zero (by simp) (g2.symm.trans h)⟩
 rw [← g2] at e65 e66 e67
 have p1 : ¬ (q 90=0∧q 91=0) := by
  rw [e90,e91]; rintro ⟨h1,h2⟩; exact n1 ⟨(Rat.mul_eq_zero.1 h1).resolve_right k1,(Rat.mul_eq_zero.1 h2).resolve_right k1⟩
 have p2 : ¬ (q 65=0∧q 66=0) := by
  rw [e65,e66]; rintro ⟨h1,h2⟩; exact n2 ⟨(Rat.mul_eq_zero.1 h1).resolve_right k2,(Rat.mul_eq_zero.1 h2).resolve_right k2⟩
 intro h
 have ⟨x,y,v,_,_⟩ := (sq5 e111 e112 e113 e114 e115 e116 e117 e118 e119).1 h
 exact kf_nf p1 p2 ⟨e99.symm.trans x,by rw [← e100,← e101,← e102]; exact y,e103.symm.trans v⟩
theorem kF_BB (H : kF_Q q σ) : (¬ (q 28=0))→(¬ (q 34=0))→(¬ (q 128=0)) := by
 have e23:q 23=q 10-q 0:=H 23 _ rfl;have e25:q 25=-q 24:=H 25 _ rfl;have e26:q 26=q 25*q 25:=H 26 _ rfl;have e27:q 27=q 23*q 23:=H 27 _ rfl;have e28:q 28=q 26+q 27:=H 28 _ rfl;have e29:q 29=q 12-q 2:=H 29 _ rfl;have e31:q 31=-q 30:=H 31 _ rfl;have e32:q 32=q 31*q 31:=H 32 _ rfl;have e33:q 33=q 29*q 29:=H 33 _ rfl;have e34:q 34=q 32+q 33:=H 34 _ rfl;have e39:q 39=q 25*fac [q 25,q 23,q 38]:=H 39 _ rfl;have e40:q 40=q 23*fac [q 25,q 23,q 38]:=H 40 _ rfl;have e41:q 41=q 38*fac [q 25,q 23,q 38]:=H 41 _ rfl;have e46:q 46=q 31*fac [q 31,q 29,q 45]:=H 46 _ rfl;have e47:q 47=q 29*fac [q 31,q 29,q 45]:=H 47 _ rfl;have e48:q 48=q 45*fac [q 31,q 29,q 45]:=H 48 _ rfl;have e49:q 49=q 39*q 46:=H 49 _ rfl;have e50:q 50=q 39*q 47:=H 50 _ rfl;have e51:q 51=q 40*q 46:=H 51 _ rfl;have e52:q 52=q 50+q 51:=H 52 _ rfl;have e53:q 53=q 40*q 47:=H 53 _ rfl;have e120:q 120=q 49*q 49:=H 120 _ rfl;have e121:q 121=q 52*q 52:=H 121 _ rfl;have e122:q 122=q 120+q 121:=H 122 _ rfl;have e123:q 123=q 53*q 53:=H 123 _ rfl;have e124:q 124=q 122+q 123:=H 124 _ rfl;have e125:q 125=q 56*q 56:=H 125 _ rfl;have e126:q 126=q 124+q 125:=H 126 _ rfl;have e127:q 127=q 59*q 59:=H 127 _ rfl;have e128:q 128=q 126+q 127:=H 128 _ rfl
 clear H
 intro u0 u1
 have n1 : ¬ (q 25=0∧q 23=0) := fun h => u0 ((sq2 e26 e27 e28).2 h)
 obtain ⟨f1,g1⟩ : ∃ f,f=fac [q 25,q 23,q 38] := ⟨_,rfl⟩
 have k1 : f1 ≠ 0 := fun h => n1 ⟨fac_zero (by simp) (g1.symm.trans h),fac_zero (by simp) (g1.symm.trans h)⟩
 rw [← g1] at e39 e40 e41
 have n2 : ¬ (q 31=0∧q 29=0) := fun h => u1 ((sq2 e32 e33 e34).2 h)
 obtain ⟨f2,g2⟩ : ∃ f,f=fac [q 31,q 29,q 45] := ⟨_,rfl⟩
 have k2 : f2 ≠ 0 := fun h => n2 ⟨fac_zero (by simp) (g2.symm.trans h),fac_zero (by simp) (g2.symm.trans h)⟩
 rw [← g2] at e46 e47 e48
 have p1 : ¬ (q 39=0∧q 40=0) := by
  rw [e39,e40]; rintro ⟨h1,h2⟩; exact n1 ⟨(Rat.mul_eq_zero.1 h1).resolve_right k1,(Rat.mul_eq_zero.1 h2).resolve_right k1⟩
 have p2 : ¬ (q 46=0∧q 47=0) := by
  rw [e46,e47]; rintro ⟨h1,h2⟩; exact n2 ⟨(Rat.mul_eq_zero.1 h1).resolve_right k2,(Rat.mul_eq_zero.1 h2).resolve_right k2⟩
 intro h
 have ⟨x,y,v,_,_⟩ := (sq5 e120 e121 e122 e123 e124 e125 e126 e127 e128).1 h
 exact kf_nf p1 p2 ⟨e49.symm.trans x,by rw [← e50,← e51,← e52]; exact y,e53.symm.trans v⟩
theorem kF_Sz {z0 z1 z2 z3 z4 z5 z6 z7 z8 z9 z10 z11 z12 z13 z14 z15 z16 z17 z18 z19 z20 z23 z24 z25 z26 z27 z28 z29 z30 z31 z32 z33 z34 z35 z36 z37 z38 z39 z40 z41 z42 z43 z44 z45 z46 z47 z48 z49 z50 z51 z52 z53 z54 z55 z56 z57 z58 z59 z60 z61 z62 z63 z64 z65 z66 z67 z86 z87 z88 z89 z90 z91 z92 z99 z100 z101 z102 z103 z104 z105 z106 z107 z108 z109 z110 z129 z130 z131 z132 z133 z134 z135 z136 z137 z138 z139 z140 z141 z142 z143 z144 z145 z146 z147 z148 z149 z150 z151 z152 z153 z154 z155 z156 z157 z158 z159 z160 z161 z162 z163 z164 z165 z166 z167 z168 z169 z170 z171 z172 z173 z174 z175 z176 z177 z178 z179 z180 z181 z182 z183 z184 z185 z186 z187 z188 z189 z190 z191 z192 z193 z194 z195 z196 z197 z198 z199 z200 z201 z202 z203 z204 z205 z206 z207 z208 z209 z210 z211 z212 z213 z214 z215 z216 z217 z218 z219 z220 z221 z222 z223 z224 z225 z226 z227 z228 z229 z230 z231 z232 z233 z234 z235 z236 z237 z238 z239 z240 z241 z242 z243 z244 z245 z246 z247 z248 z249 z250 z251 z252 z253 z254 z255 z256 z257 z258 z259 z260 z261 z262 z263 z264 z265 z266 z267 z268 z269 z270 z271 z272 z273 z274 z275 z276 z277 z278 z279 z280 z281 z282 z283 z284 z285 z286 z287 z288 z289 z290 z291 z292 z293 z294 z295 z296 z297 z298 z299 z300 z301 z302 z303 z304 z305 z306 z307 z308 z309 z310 z311 z312 z313 z314 z315 z316 z317 z318 z319 z320 z321 z322 z323 z324 z325 z326 z327 z328 z329 z330 z331 z332 z333 z334 z335 z336 z337 z338 z339 z340 z341 z342 z343 z344 z345 z346 z347 z348 z349 z350 z351 z352 z353 z354 z355 z356 z357 z358 z359 z360 z361 z362 : Rat} : z4=z2-z0→z5=z3-z1→z6=-z5→z7=z6*z6→z8=z4*z4→z9=z7+z8→z14=z12-z10→z15=z13-z11→z16=-z15→z17=z16*z16→z18=z14*z14→z19=z17+z18→z20=0→z23=z10-z0→z24=z11-z1→z25=-z24→z26=z25*z25→z27=z23*z23→z28=z26+z27→z29=z12-z2→z30=z13-z3→z31=-z30→z32=z31*z31→z33=z29*z29→z34=z32+z33→z35=z25*z0→z36=z23*z1→z37=z35+z36→z38=-z37→z39=z25*fac [z25,z23,z38]→z40=z23*fac [z25,z23,z38]→z41=z38*fac [z25,z23,z38]→z42=z31*z2→z43=z29*z3→z44=z42+z43→z45=-z44→z46=z31*fac [z31,z29,z45]→z47=z29*fac [z31,z29,z45]→z48=z45*fac [z31,z29,z45]→z49=z39*z46→z50=z39*z47→z51=z40*z46→z52=z50+z51→z53=z40*z47→z54=z39*z48→z55=z41*z46→z56=z54+z55→z57=z40*z48→z58=z41*z47→z59=z57+z58→z60=z41*z48→z61=z16*z10→z62=z14*z11→z63=z61+z62→z64=-z63→z65=z16*fac [z16,z14,z64]→z66=z14*fac [z16,z14,z64]→z67=z64*fac [z16,z14,z64]→z86=z6*z0→z87=z4*z1→z88=z86+z87→z89=-z88→z90=z6*fac [z6,z4,z89]→z91=z4*fac [z6,z4,z89]→z92=z89*fac [z6,z4,z89]→z99=z90*z65→z100=z90*z66→z101=z91*z65→z102=z100+z101→z103=z91*z66→z104=z90*z67→z105=z92*z65→z106=z104+z105→z107=z91*z67→z108=z92*z66→z109=z107+z108→z110=z92*z67→z131=1→z132=2→z133=z99*z132→z134=z103*z132→z135=z110*z132→z136=z133*z129→z137=z20+z136→z138=z102*z130→z139=z137+z138→z140=z106*z131→z141=z139+z140→z142=z102*z129→z143=z20+z142→z144=z134*z130→z145=z143+z144→z146=z109*z131→z147=z145+z146→z148=z106*z129→z149=z20+z148→z150=z109*z130→z151=z149+z150→z152=z135*z131→z153=z151+z152→z154=z129*z141→z155=z20+z154→z156=z130*z147→z157=z155+z156→z158=z131*z153→z159=z157+z158→z160=z49*z132→z161=z53*z132→z162=z60*z132→z163=z160*z129→z164=z20+z163→z165=z52*z130→z166=z164+z165→z167=z56*z131→z168=z166+z167→z169=z52*z129→z170=z20+z169→z171=z161*z130→z172=z170+z171→z173=z59*z131→z174=z172+z173→z175=z56*z129→z176=z20+z175→z177=z59*z130→z178=z176+z177→z179=z162*z131→z180=z178+z179→z181=z129*z168→z182=z20+z181→z183=z130*z174→z184=z182+z183→z185=z131*z180→z186=z184+z185→z187=z99*z186→z188=z49*z159→z189=z187-z188→z190=z102*z186→z191=z52*z159→z192=z190-z191→z193=z103*z186→z194=z53*z159→z195=z193-z194→z196=z106*z186→z197=z56*z159→z198=z196-z197→z199=z109*z186→z200=z59*z159→z201=z199-z200→z202=z110*z186→z203=z60*z159→z204=z202-z203→z205=z189*z189→z206=z192*z192→z207=z205+z206→z208=z195*z195→z209=z207+z208→z210=z198*z198→z211=z209+z210→z212=z201*z201→z213=z211+z212→z214=z1*z131→z215=z131*z3→z216=z214-z215→z217=z131*z2→z218=z0*z131→z219=z217-z218→z220=z0*z3→z221=z1*z2→z222=z220-z221→z223=z11*z131→z224=z131*z13→z225=z223-z224→z226=z131*z12→z227=z10*z131→z228=z226-z227→z229=z10*z13→z230=z11*z12→z231=z229-z230→z232=z216*z225→z233=z216*z228→z234=z219*z225→z235=z233+z234→z236=z219*z228→z237=z216*z231→z238=z222*z225→z239=z237+z238→z240=z219*z231→z241=z222*z228→z242=z240+z241→z243=z222*z231→z244=z131*z11→z245=z214-z244→z246=z131*z10→z247=z246-z218→z248=z0*z11→z249=z1*z10→z250=z248-z249→z251=z3*z131→z252=z251-z224→z253=z2*z131→z254=z226-z253→z255=z2*z13→z256=z3*z12→z257=z255-z256→z258=z245*z252→z259=z245*z254→z260=z247*z252→z261=z259+z260→z262=z247*z254→z263=z245*z257→z264=z250*z252→z265=z263+z264→z266=z247*z257→z267=z250*z254→z268=z266+z267→z269=z250*z257→z270=z232*z132→z271=z236*z132→z272=z243*z132→z273=z270*z129→z274=z20+z273→z275=z235*z130→z276=z274+z275→z277=z239*z131→z278=z276+z277→z279=z235*z129→z280=z20+z279→z281=z271*z130→z282=z280+z281→z283=z242*z131→z284=z282+z283→z285=z239*z129→z286=z20+z285→z287=z242*z130→z288=z286+z287→z289=z272*z131→z290=z288+z289→z291=z129*z278→z292=z20+z291→z293=z130*z284→z294=z292+z293→z295=z131*z290→z296=z294+z295→z297=z258*z132→z298=z262*z132→z299=z269*z132→z300=z297*z129→z301=z20+z300→z302=z261*z130→z303=z301+z302→z304=z265*z131→z305=z303+z304→z306=z261*z129→z307=z20+z306→z308=z298*z130→z309=z307+z308→z310=z268*z131→z311=z309+z310→z312=z265*z129→z313=z20+z312→z314=z268*z130→z315=z313+z314→z316=z299*z131→z317=z315+z316→z318=z129*z305→z319=z20+z318→z320=z130*z311→z321=z319+z320→z322=z131*z317→z323=z321+z322→z324=z232*z323→z325=z258*z296→z326=z324-z325→z327=z235*z323→z328=z261*z296→z329=z327-z328→z330=z236*z323→z331=z262*z296→z332=z330-z331→z333=z239*z323→z334=z265*z296→z335=z333-z334→z336=z242*z323→z337=z268*z296→z338=z336-z337→z339=z243*z323→z340=z269*z296→z341=z339-z340→z342=z326*z326→z343=z329*z329→z344=z342+z343→z345=z332*z332→z346=z344+z345→z347=z335*z335→z348=z346+z347→z349=z338*z338→z350=z348+z349→z351=z189*fac [z189,z192,z195,z198,z201,z204]→z352=z192*fac [z189,z192,z195,z198,z201,z204]→z353=z195*fac [z189,z192,z195,z198,z201,z204]→z354=z198*fac [z189,z192,z195,z198,z201,z204]→z355=z201*fac [z189,z192,z195,z198,z201,z204]→z356=z204*fac [z189,z192,z195,z198,z201,z204]→z357=z326*fac [z326,z329,z332,z335,z338,z341]→z358=z329*fac [z326,z329,z332,z335,z338,z341]→z359=z332*fac [z326,z329,z332,z335,z338,z341]→z360=z335*fac [z326,z329,z332,z335,z338,z341]→z361=z338*fac [z326,z329,z332,z335,z338,z341]→z362=z341*fac [z326,z329,z332,z335,z338,z341]→(¬ (z9=0))→(¬ (z19=0))→(¬ (z28=0))→(¬ (z34=0))→((z213=0→z350=0)∧(¬ (z213=0)→¬ (z350=0))∧(¬ (z350=0)→(z351=z357∧z352=z358∧z353=z359∧z354=z360∧z355=z361∧z356=z362))) := by
 intro e4 e5 e6 e7 e8 e9 e14 e15 e16 e17 e18 e19 e20 e23 e24 e25 e26 e27 e28 e29 e30 e31 e32 e33 e34 e35 e36 e37 e38 e39 e40 e41 e42 e43 e44 e45 e46 e47 e48 e49 e50 e51 e52 e53 e54 e55 e56 e57 e58 e59 e60 e61 e62 e63 e64 e65 e66 e67 e86 e87 e88 e89 e90 e91 e92 e99 e100 e101 e102 e103 e104 e105 e106 e107 e108 e109 e110 e131 e132 e133 e134 e135 e136 e137 e138 e139 e140 e141 e142 e143 e144 e145 e146 e147 e148 e149 e150 e151 e152 e153 e154 e155 e156 e157 e158 e159 e160 e161 e162 e163 e164 e165 e166 e167 e168 e169 e170 e171 e172 e173 e174 e175 e176 e177 e178 e179 e180 e181 e182 e183 e184 e185 e186 e187 e188 e189 e190 e191 e192 e193 e194 e195 e196 e197 e198 e199 e200 e201 e202 e203 e204 e205 e206 e207 e208 e209 e210 e211 e212 e213 e214 e215 e216 e217 e218 e219 e220 e221 e222 e223 e224 e225 e226 e227 e228 e229 e230 e231 e232 e233 e234 e235 e236 e237 e238 e239 e240 e241 e242 e243 e244 e245 e246 e247 e248 e249 e250 e251 e252 e253 e254 e255 e256 e257 e258 e259 e260 e261 e262 e263 e264 e265 e266 e267 e268 e269 e270 e271 e272 e273 e274 e275 e276 e277 e278 e279 e280 e281 e282 e283 e284 e285 e286 e287 e288 e289 e290 e291 e292 e293 e294 e295 e296 e297 e298 e299 e300 e301 e302 e303 e304 e305 e306 e307 e308 e309 e310 e311 e312 e313 e314 e315 e316 e317 e318 e319 e320 e321 e322 e323 e324 e325 e326 e327 e328 e329 e330 e331 e332 e333 e334 e335 e336 e337 e338 e339 e340 e341 e342 e343 e344 e345 e346 e347 e348 e349 e350 e351 e352 e353 e354 e355 e356 e357 e358 e359 e360 e361 e362
 intro u0 u1 u2 u3
 have n1 : ¬ (z6=0∧z4=0) := fun h => u0 ((sq2 e7 e8 e9).2 h)
 obtain ⟨f1,g1⟩ : ∃ f,f=fac [z6,z4,z89] := ⟨_,rfl⟩
 have k1 : f1 ≠ 0 := fun h => n1 ⟨fac_zero (by simp) (g1.symm.trans h),fac_zero (by simp) (g1.symm.trans h)⟩
 rw [← g1] at e90 e91 e92
 have r00 : z6=z216 := by
  rw [e216,e215,e214,e131,e6,e5]
  grind
 rw [r00] at e90
 have r01 : z4=z219 := by
  rw [e219,e218,e217,e131,e4]
  grind
 rw [r01] at e91
 have r02 : z89=z222 := by
  rw [e222,e221,e220,e89,e88,e87,e86,e6,e5,e4]
  grind
 rw [r02] at e92
 have n2 : ¬ (z16=0∧z14=0) := fun h => u1 ((sq2 e17 e18 e19).2 h)
 obtain ⟨f2,g2⟩ : ∃ f,f=fac [z16,z14,z64] := ⟨_,rfl⟩
 have k2 : f2 ≠ 0 := fun h => n2 ⟨fac_zero (by simp) (g2.symm.trans h),fac_zero (by simp) (g2.symm.trans h)⟩
 rw [← g2] at e65 e66 e67
 have r10 : z16=z225 := by
  rw [e225,e224,e223,e131,e16,e15]
  grind
 rw [r10] at e65
 have r11 : z14=z228 := by
  rw [e228,e227,e226,e131,e14]
  grind
 rw [r11] at e66
 have r12 : z64=z231 := by
  rw [e231,e230,e229,e64,e63,e62,e61,e16,e15,e14]
  grind
 rw [r12] at e67
 have n3 : ¬ (z25=0∧z23=0) := fun h => u2 ((sq2 e26 e27 e28).2 h)
 obtain ⟨f3,g3⟩ : ∃ f,f=fac [z25,z23,z38] := ⟨_,rfl⟩
 have k3 : f3 ≠ 0 := fun h => n3 ⟨fac_zero (by simp) (g3.symm.trans h),fac_zero (by simp) (g3.symm.trans h)⟩
 rw [← g3] at e39 e40 e41
 have r20 : z25=z245 := by
  rw [e245,e244,e214,e131,e25,e24]
  grind
 rw [r20] at e39
 have r21 : z23=z247 := by
  rw [e247,e246,e218,e131,e23]
  grind
 rw [r21] at e40
 have r22 : z38=z250 := by
  rw [e250,e249,e248,e38,e37,e36,e35,e25,e24,e23]
  grind
 rw [r22] at e41
 have n4 : ¬ (z31=0∧z29=0) := fun h => u3 ((sq2 e32 e33 e34).2 h)
 obtain ⟨f4,g4⟩ : ∃ f,f=fac [z31,z29,z45] := ⟨_,rfl⟩
 have k4 : f4 ≠ 0 := fun h => n4 ⟨fac_zero (by simp) (g4.symm.trans h),fac_zero (by simp) (g4.symm.trans h)⟩
 rw [← g4] at e46 e47 e48
 have r30 : z31=z252 := by
  rw [e252,e251,e224,e131,e31,e30]
  grind
 rw [r30] at e46
 have r31 : z29=z254 := by
  rw [e254,e253,e226,e131,e29]
  grind
 rw [r31] at e47
 have r32 : z45=z257 := by
  rw [e257,e256,e255,e45,e44,e43,e42,e31,e30,e29]
  grind
 rw [r32] at e48
 have a0 : z99=f1*f2*z232 := by
  rw [e232,e99,e90,e65]
  grind
 have a1 : z102=f1*f2*z235 := by
  rw [e235,e234,e233,e102,e101,e100,e90,e91,e65,e66]
  grind
 have a2 : z103=f1*f2*z236 := by
  rw [e236,e103,e91,e66]
  grind
 have a3 : z106=f1*f2*z239 := by
  rw [e239,e238,e237,e106,e105,e104,e90,e92,e65,e67]
  grind
 have a4 : z109=f1*f2*z242 := by
  rw [e242,e241,e240,e109,e108,e107,e91,e92,e66,e67]
  grind
 have a5 : z110=f1*f2*z243 := by
  rw [e243,e110,e92,e67]
  grind
 have b0 : z49=f3*f4*z258 := by
  rw [e258,e49,e39,e46]
  grind
 have b1 : z52=f3*f4*z261 := by
  rw [e261,e260,e259,e52,e51,e50,e39,e40,e46,e47]
  grind
 have b2 : z53=f3*f4*z262 := by
  rw [e262,e53,e40,e47]
  grind
 have b3 : z56=f3*f4*z265 := by
  rw [e265,e264,e263,e56,e55,e54,e39,e41,e46,e48]
  grind
 have b4 : z59=f3*f4*z268 := by
  rw [e268,e267,e266,e59,e58,e57,e40,e41,e47,e48]
  grind
 have b5 : z60=f3*f4*z269 := by
  rw [e269,e60,e41,e48]
  grind
 have oA : z159=f1*f2*z296 := by
  rw [e296,e295,e294,e293,e292,e291,e290,e289,e288,e287,e286,e285,e284,e283,e282,e281,e280,e279,e278,e277,e276,e275,e274,e273,e272,e271,e270,e159,e158,e157,e156,e155,e154,e153,e152,e151,e150,e149,e148,e147,e146,e145,e144,e143,e142,e141,e140,e139,e138,e137,e136,e135,e134,e133,e132,e131,e20,a0,a1,a2,a3,a4,a5]
  grind
 have oB : z186=f3*f4*z323 := by
  rw [e323,e322,e321,e320,e319,e318,e317,e316,e315,e314,e313,e312,e311,e310,e309,e308,e307,e306,e305,e304,e303,e302,e301,e300,e299,e298,e297,e186,e185,e184,e183,e182,e181,e180,e179,e178,e177,e176,e175,e174,e173,e172,e171,e170,e169,e168,e167,e166,e165,e164,e163,e162,e161,e160,e132,e131,e20,b0,b1,b2,b3,b4,b5]
  grind
 have hF : f1*f2*(f3*f4) ≠ 0 := mul_ne (mul_ne k1 k2) (mul_ne k3 k4)
 have h0 : z189=f1*f2*(f3*f4)*z326 := by
  rw [e189,e187,e188,e326,e324,e325,a0,b0,oA,oB]
  grind
 have h1 : z192=f1*f2*(f3*f4)*z329 := by
  rw [e192,e190,e191,e329,e327,e328,a1,b1,oA,oB]
  grind
 have h2 : z195=f1*f2*(f3*f4)*z332 := by
  rw [e195,e193,e194,e332,e330,e331,a2,b2,oA,oB]
  grind
 have h3 : z198=f1*f2*(f3*f4)*z335 := by
  rw [e198,e196,e197,e335,e333,e334,a3,b3,oA,oB]
  grind
 have h4 : z201=f1*f2*(f3*f4)*z338 := by
  rw [e201,e199,e200,e338,e336,e337,a4,b4,oA,oB]
  grind
 have h5 : z204=f1*f2*(f3*f4)*z341 := by
  rw [e204,e202,e203,e341,e339,e340,a5,b5,oA,oB]
  grind
 have hz : z213=0 ↔ z350=0 := by
  rw [sq5 e205 e206 e207 e208 e209 e210 e211 e212 e213,sq5 e342 e343 e344 e345 e346 e347 e348 e349 e350,kf_z hF h0,kf_z hF h1,kf_z hF h2,kf_z hF h3,kf_z hF h4]
 refine ⟨hz.1,fun a b => a (hz.2 b),fun hn => ?_⟩
 have ⟨q0,q1,q2,q3,q4,q5⟩ := kf_eq hF h0 h1 h2 h3 h4 h5 (fun h => hn ((sq5 e342 e343 e344 e345 e346 e347 e348 e349 e350).2 h))
 exact ⟨(e351.trans q0).trans e357.symm,(e352.trans q1).trans e358.symm,(e353.trans q2).trans e359.symm,(e354.trans q3).trans e360.symm,(e355.trans q4).trans e361.symm,(e356.trans q5).trans e362.symm⟩
theorem kF_S (H : kF_Q q σ) : (¬ (q 9=0))→(¬ (q 19=0))→(¬ (q 28=0))→(¬ (q 34=0))→((q 213=0→q 350=0)∧(¬ (q 213=0)→¬ (q 350=0))∧(¬ (q 350=0)→(q 351=q 357∧q 352=q 358∧q 353=q 359∧q 354=q 360∧q 355=q 361∧q 356=q 362))) := by
 have e4:q 4=q 2-q 0:=H 4 _ rfl;have e5:q 5=q 3-q 1:=H 5 _ rfl;have e6:q 6=-q 5:=H 6 _ rfl;have e7:q 7=q 6*q 6:=H 7 _ rfl;have e8:q 8=q 4*q 4:=H 8 _ rfl;have e9:q 9=q 7+q 8:=H 9 _ rfl;have e14:q 14=q 12-q 10:=H 14 _ rfl;have e15:q 15=q 13-q 11:=H 15 _ rfl;have e16:q 16=-q 15:=H 16 _ rfl;have e17:q 17=q 16*q 16:=H 17 _ rfl;have e18:q 18=q 14*q 14:=H 18 _ rfl;have e19:q 19=q 17+q 18:=H 19 _ rfl;have e20:q 20=0:=(H 20 _ rfl).trans kF_c20;have e23:q 23=q 10-q 0:=H 23 _ rfl;have e24:q 24=q 11-q 1:=H 24 _ rfl;have e25:q 25=-q 24:=H 25 _ rfl;have e26:q 26=q 25*q 25:=H 26 _ rfl;have e27:q 27=q 23*q 23:=H 27 _ rfl;have e28:q 28=q 26+q 27:=H 28 _ rfl;have e29:q 29=q 12-q 2:=H 29 _ rfl;have e30:q 30=q 13-q 3:=H 30 _ rfl;have e31:q 31=-q 30:=H 31 _ rfl;have e32:q 32=q 31*q 31:=H 32 _ rfl;have e33:q 33=q 29*q 29:=H 33 _ rfl;have e34:q 34=q 32+q 33:=H 34 _ rfl;have e35:q 35=q 25*q 0:=H 35 _ rfl;have e36:q 36=q 23*q 1:=H 36 _ rfl;have e37:q 37=q 35+q 36:=H 37 _ rfl;have e38:q 38=-q 37:=H 38 _ rfl;have e39:q 39=q 25*fac [q 25,q 23,q 38]:=H 39 _ rfl;have e40:q 40=q 23*fac [q 25,q 23,q 38]:=H 40 _ rfl;have e41:q 41=q 38*fac [q 25,q 23,q 38]:=H 41 _ rfl;have e42:q 42=q 31*q 2:=H 42 _ rfl;have e43:q 43=q 29*q 3:=H 43 _ rfl;have e44:q 44=q 42+q 43:=H 44 _ rfl;have e45:q 45=-q 44:=H 45 _ rfl;have e46:q 46=q 31*fac [q 31,q 29,q 45]:=H 46 _ rfl;have e47:q 47=q 29*fac [q 31,q 29,q 45]:=H 47 _ rfl;have e48:q 48=q 45*fac [q 31,q 29,q 45]:=H 48 _ rfl;have e49:q 49=q 39*q 46:=H 49 _ rfl;have e50:q 50=q 39*q 47:=H 50 _ rfl;have e51:q 51=q 40*q 46:=H 51 _ rfl;have e52:q 52=q 50+q 51:=H 52 _ rfl;have e53:q 53=q 40*q 47:=H 53 _ rfl;have e54:q 54=q 39*q 48:=H 54 _ rfl;have e55:q 55=q 41*q 46:=H 55 _ rfl;have e56:q 56=q 54+q 55:=H 56 _ rfl;have e57:q 57=q 40*q 48:=H 57 _ rfl;have e58:q 58=q 41*q 47:=H 58 _ rfl;have e59:q 59=q 57+q 58:=H 59 _ rfl;have e60:q 60=q 41*q 48:=H 60 _ rfl;have e61:q 61=q 16*q 10:=H 61 _ rfl;have e62:q 62=q 14*q 11:=H 62 _ rfl;have e63:q 63=q 61+q 62:=H 63 _ rfl;have e64:q 64=-q 63:=H 64 _ rfl;have e65:q 65=q 16*fac [q 16,q 14,q 64]:=H 65 _ rfl;have e66:q 66=q 14*fac [q 16,q 14,q 64]:=H 66 _ rfl;have e67:q 67=q 64*fac [q 16,q 14,q 64]:=H 67 _ rfl;have e86:q 86=q 6*q 0:=H 86 _ rfl;have e87:q 87=q 4*q 1:=H 87 _ rfl;have e88:q 88=q 86+q 87:=H 88 _ rfl;have e89:q 89=-q 88:=H 89 _ rfl;have e90:q 90=q 6*fac [q 6,q 4,q 89]:=H 90 _ rfl;have e91:q 91=q 4*fac [q 6,q 4,q 89]:=H 91 _ rfl;have e92:q 92=q 89*fac [q 6,q 4,q 89]:=H 92 _ rfl;have e99:q 99=q 90*q 65:=H 99 _ rfl;have e100:q 100=q 90*q 66:=H 100 _ rfl;have e101:q 101=q 91*q 65:=H 101 _ rfl;have e102:q 102=q 100+q 101:=H 102 _ rfl;have e103:q 103=q 91*q 66:=H 103 _ rfl;have e104:q 104=q 90*q 67:=H 104 _ rfl;have e105:q 105=q 92*q 65:=H 105 _ rfl;have e106:q 106=q 104+q 105:=H 106 _ rfl;have e107:q 107=q 91*q 67:=H 107 _ rfl;have e108:q 108=q 92*q 66:=H 108 _ rfl;have e109:q 109=q 107+q 108:=H 109 _ rfl;have e110:q 110=q 92*q 67:=H 110 _ rfl;have e131:q 131=1:=(H 131 _ rfl).trans kF_c131;have e132:q 132=2:=(H 132 _ rfl).trans kF_c132;have e133:q 133=q 99*q 132:=H 133 _ rfl;have e134:q 134=q 103*q 132:=H 134 _ rfl;have e135:q 135=q 110*q 132:=H 135 _ rfl;have e136:q 136=q 133*q 129:=H 136 _ rfl;have e137:q 137=q 20+q 136:=H 137 _ rfl;have e138:q 138=q 102*q 130:=H 138 _ rfl;have e139:q 139=q 137+q 138:=H 139 _ rfl;have e140:q 140=q 106*q 131:=H 140 _ rfl;have e141:q 141=q 139+q 140:=H 141 _ rfl;have e142:q 142=q 102*q 129:=H 142 _ rfl;have e143:q 143=q 20+q 142:=H 143 _ rfl;have e144:q 144=q 134*q 130:=H 144 _ rfl;have e145:q 145=q 143+q 144:=H 145 _ rfl;have e146:q 146=q 109*q 131:=H 146 _ rfl;have e147:q 147=q 145+q 146:=H 147 _ rfl;have e148:q 148=q 106*q 129:=H 148 _ rfl;have e149:q 149=q 20+q 148:=H 149 _ rfl;have e150:q 150=q 109*q 130:=H 150 _ rfl;have e151:q 151=q 149+q 150:=H 151 _ rfl;have e152:q 152=q 135*q 131:=H 152 _ rfl;have e153:q 153=q 151+q 152:=H 153 _ rfl;have e154:q 154=q 129*q 141:=H 154 _ rfl;have e155:q 155=q 20+q 154:=H 155 _ rfl;have e156:q 156=q 130*q 147:=H 156 _ rfl;have e157:q 157=q 155+q 156:=H 157 _ rfl;have e158:q 158=q 131*q 153:=H 158 _ rfl;have e159:q 159=q 157+q 158:=H 159 _ rfl;have e160:q 160=q 49*q 132:=H 160 _ rfl;have e161:q 161=q 53*q 132:=H 161 _ rfl;have e162:q 162=q 60*q 132:=H 162 _ rfl;have e163:q 163=q 160*q 129:=H 163 _ rfl;have e164:q 164=q 20+q 163:=H 164 _ rfl;have e165:q 165=q 52*q 130:=H 165 _ rfl;have e166:q 166=q 164+q 165:=H 166 _ rfl;have e167:q 167=q 56*q 131:=H 167 _ rfl;have e168:q 168=q 166+q 167:=H 168 _ rfl;have e169:q 169=q 52*q 129:=H 169 _ rfl;have e170:q 170=q 20+q 169:=H 170 _ rfl;have e171:q 171=q 161*q 130:=H 171 _ rfl;have e172:q 172=q 170+q 171:=H 172 _ rfl;have e173:q 173=q 59*q 131:=H 173 _ rfl;have e174:q 174=q 172+q 173:=H 174 _ rfl;have e175:q 175=q 56*q 129:=H 175 _ rfl;have e176:q 176=q 20+q 175:=H 176 _ rfl;have e177:q 177=q 59*q 130:=H 177 _ rfl;have e178:q 178=q 176+q 177:=H 178 _ rfl;have e179:q 179=q 162*q 131:=H 179 _ rfl;have e180:q 180=q 178+q 179:=H 180 _ rfl;have e181:q 181=q 129*q 168:=H 181 _ rfl;have e182:q 182=q 20+q 181:=H 182 _ rfl;have e183:q 183=q 130*q 174:=H 183 _ rfl;have e184:q 184=q 182+q 183:=H 184 _ rfl;have e185:q 185=q 131*q 180:=H 185 _ rfl;have e186:q 186=q 184+q 185:=H 186 _ rfl;have e187:q 187=q 99*q 186:=H 187 _ rfl;have e188:q 188=q 49*q 159:=H 188 _ rfl;have e189:q 189=q 187-q 188:=H 189 _ rfl;have e190:q 190=q 102*q 186:=H 190 _ rfl;have e191:q 191=q 52*q 159:=H 191 _ rfl;have e192:q 192=q 190-q 191:=H 192 _ rfl;have e193:q 193=q 103*q 186:=H 193 _ rfl;have e194:q 194=q 53*q 159:=H 194 _ rfl;have e195:q 195=q 193-q 194:=H 195 _ rfl;have e196:q 196=q 106*q 186:=H 196 _ rfl;have e197:q 197=q 56*q 159:=H 197 _ rfl;have e198:q 198=q 196-q 197:=H 198 _ rfl;have e199:q 199=q 109*q 186:=H 199 _ rfl;have e200:q 200=q 59*q 159:=H 200 _ rfl;have e201:q 201=q 199-q 200:=H 201 _ rfl;have e202:q 202=q 110*q 186:=H 202 _ rfl;have e203:q 203=q 60*q 159:=H 203 _ rfl;have e204:q 204=q 202-q 203:=H 204 _ rfl;have e205:q 205=q 189*q 189:=H 205 _ rfl;have e206:q 206=q 192*q 192:=H 206 _ rfl;have e207:q 207=q 205+q 206:=H 207 _ rfl;have e208:q 208=q 195*q 195:=H 208 _ rfl;have e209:q 209=q 207+q 208:=H 209 _ rfl;have e210:q 210=q 198*q 198:=H 210 _ rfl;have e211:q 211=q 209+q 210:=H 211 _ rfl;have e212:q 212=q 201*q 201:=H 212 _ rfl;have e213:q 213=q 211+q 212:=H 213 _ rfl;have e214:q 214=q 1*q 131:=H 214 _ rfl;have e215:q 215=q 131*q 3:=H 215 _ rfl;have e216:q 216=q 214-q 215:=H 216 _ rfl;have e217:q 217=q 131*q 2:=H 217 _ rfl;have e218:q 218=q 0*q 131:=H 218 _ rfl;have e219:q 219=q 217-q 218:=H 219 _ rfl;have e220:q 220=q 0*q 3:=H 220 _ rfl;have e221:q 221=q 1*q 2:=H 221 _ rfl;have e222:q 222=q 220-q 221:=H 222 _ rfl;have e223:q 223=q 11*q 131:=H 223 _ rfl;have e224:q 224=q 131*q 13:=H 224 _ rfl;have e225:q 225=q 223-q 224:=H 225 _ rfl;have e226:q 226=q 131*q 12:=H 226 _ rfl;have e227:q 227=q 10*q 131:=H 227 _ rfl;have e228:q 228=q 226-q 227:=H 228 _ rfl;have e229:q 229=q 10*q 13:=H 229 _ rfl;have e230:q 230=q 11*q 12:=H 230 _ rfl;have e231:q 231=q 229-q 230:=H 231 _ rfl;have e232:q 232=q 216*q 225:=H 232 _ rfl;have e233:q 233=q 216*q 228:=H 233 _ rfl;have e234:q 234=q 219*q 225:=H 234 _ rfl;have e235:q 235=q 233+q 234:=H 235 _ rfl;have e236:q 236=q 219*q 228:=H 236 _ rfl;have e237:q 237=q 216*q 231:=H 237 _ rfl;have e238:q 238=q 222*q 225:=H 238 _ rfl;have e239:q 239=q 237+q 238:=H 239 _ rfl;have e240:q 240=q 219*q 231:=H 240 _ rfl;have e241:q 241=q 222*q 228:=H 241 _ rfl;have e242:q 242=q 240+q 241:=H 242 _ rfl;have e243:q 243=q 222*q 231:=H 243 _ rfl;have e244:q 244=q 131*q 11:=H 244 _ rfl;have e245:q 245=q 214-q 244:=H 245 _ rfl;have e246:q 246=q 131*q 10:=H 246 _ rfl;have e247:q 247=q 246-q 218:=H 247 _ rfl;have e248:q 248=q 0*q 11:=H 248 _ rfl;have e249:q 249=q 1*q 10:=H 249 _ rfl;have e250:q 250=q 248-q 249:=H 250 _ rfl;have e251:q 251=q 3*q 131:=H 251 _ rfl;have e252:q 252=q 251-q 224:=H 252 _ rfl;have e253:q 253=q 2*q 131:=H 253 _ rfl;have e254:q 254=q 226-q 253:=H 254 _ rfl;have e255:q 255=q 2*q 13:=H 255 _ rfl;have e256:q 256=q 3*q 12:=H 256 _ rfl;have e257:q 257=q 255-q 256:=H 257 _ rfl;have e258:q 258=q 245*q 252:=H 258 _ rfl;have e259:q 259=q 245*q 254:=H 259 _ rfl;have e260:q 260=q 247*q 252:=H 260 _ rfl;have e261:q 261=q 259+q 260:=H 261 _ rfl;have e262:q 262=q 247*q 254:=H 262 _ rfl;have e263:q 263=q 245*q 257:=H 263 _ rfl;have e264:q 264=q 250*q 252:=H 264 _ rfl;have e265:q 265=q 263+q 264:=H 265 _ rfl;have e266:q 266=q 247*q 257:=H 266 _ rfl;have e267:q 267=q 250*q 254:=H 267 _ rfl;have e268:q 268=q 266+q 267:=H 268 _ rfl;have e269:q 269=q 250*q 257:=H 269 _ rfl;have e270:q 270=q 232*q 132:=H 270 _ rfl;have e271:q 271=q 236*q 132:=H 271 _ rfl;have e272:q 272=q 243*q 132:=H 272 _ rfl;have e273:q 273=q 270*q 129:=H 273 _ rfl;have e274:q 274=q 20+q 273:=H 274 _ rfl;have e275:q 275=q 235*q 130:=H 275 _ rfl;have e276:q 276=q 274+q 275:=H 276 _ rfl;have e277:q 277=q 239*q 131:=H 277 _ rfl;have e278:q 278=q 276+q 277:=H 278 _ rfl;have e279:q 279=q 235*q 129:=H 279 _ rfl;have e280:q 280=q 20+q 279:=H 280 _ rfl;have e281:q 281=q 271*q 130:=H 281 _ rfl;have e282:q 282=q 280+q 281:=H 282 _ rfl;have e283:q 283=q 242*q 131:=H 283 _ rfl;have e284:q 284=q 282+q 283:=H 284 _ rfl;have e285:q 285=q 239*q 129:=H 285 _ rfl;have e286:q 286=q 20+q 285:=H 286 _ rfl;have e287:q 287=q 242*q 130:=H 287 _ rfl;have e288:q 288=q 286+q 287:=H 288 _ rfl;have e289:q 289=q 272*q 131:=H 289 _ rfl;have e290:q 290=q 288+q 289:=H 290 _ rfl;have e291:q 291=q 129*q 278:=H 291 _ rfl;have e292:q 292=q 20+q 291:=H 292 _ rfl;have e293:q 293=q 130*q 284:=H 293 _ rfl;have e294:q 294=q 292+q 293:=H 294 _ rfl;have e295:q 295=q 131*q 290:=H 295 _ rfl;have e296:q 296=q 294+q 295:=H 296 _ rfl;have e297:q 297=q 258*q 132:=H 297 _ rfl;have e298:q 298=q 262*q 132:=H 298 _ rfl;have e299:q 299=q 269*q 132:=H 299 _ rfl;have e300:q 300=q 297*q 129:=H 300 _ rfl;have e301:q 301=q 20+q 300:=H 301 _ rfl;have e302:q 302=q 261*q 130:=H 302 _ rfl;have e303:q 303=q 301+q 302:=H 303 _ rfl;have e304:q 304=q 265*q 131:=H 304 _ rfl;have e305:q 305=q 303+q 304:=H 305 _ rfl;have e306:q 306=q 261*q 129:=H 306 _ rfl;have e307:q 307=q 20+q 306:=H 307 _ rfl;have e308:q 308=q 298*q 130:=H 308 _ rfl;have e309:q 309=q 307+q 308:=H 309 _ rfl;have e310:q 310=q 268*q 131:=H 310 _ rfl;have e311:q 311=q 309+q 310:=H 311 _ rfl;have e312:q 312=q 265*q 129:=H 312 _ rfl;have e313:q 313=q 20+q 312:=H 313 _ rfl;have e314:q 314=q 268*q 130:=H 314 _ rfl;have e315:q 315=q 313+q 314:=H 315 _ rfl;have e316:q 316=q 299*q 131:=H 316 _ rfl;have e317:q 317=q 315+q 316:=H 317 _ rfl;have e318:q 318=q 129*q 305:=H 318 _ rfl;have e319:q 319=q 20+q 318:=H 319 _ rfl;have e320:q 320=q 130*q 311:=H 320 _ rfl;have e321:q 321=q 319+q 320:=H 321 _ rfl;have e322:q 322=q 131*q 317:=H 322 _ rfl;have e323:q 323=q 321+q 322:=H 323 _ rfl;have e324:q 324=q 232*q 323:=H 324 _ rfl;have e325:q 325=q 258*q 296:=H 325 _ rfl;have e326:q 326=q 324-q 325:=H 326 _ rfl;have e327:q 327=q 235*q 323:=H 327 _ rfl;have e328:q 328=q 261*q 296:=H 328 _ rfl;have e329:q 329=q 327-q 328:=H 329 _ rfl;have e330:q 330=q 236*q 323:=H 330 _ rfl;have e331:q 331=q 262*q 296:=H 331 _ rfl;have e332:q 332=q 330-q 331:=H 332 _ rfl;have e333:q 333=q 239*q 323:=H 333 _ rfl;have e334:q 334=q 265*q 296:=H 334 _ rfl;have e335:q 335=q 333-q 334:=H 335 _ rfl;have e336:q 336=q 242*q 323:=H 336 _ rfl;have e337:q 337=q 268*q 296:=H 337 _ rfl;have e338:q 338=q 336-q 337:=H 338 _ rfl;have e339:q 339=q 243*q 323:=H 339 _ rfl;have e340:q 340=q 269*q 296:=H 340 _ rfl;have e341:q 341=q 339-q 340:=H 341 _ rfl;have e342:q 342=q 326*q 326:=H 342 _ rfl;have e343:q 343=q 329*q 329:=H 343 _ rfl;have e344:q 344=q 342+q 343:=H 344 _ rfl;have e345:q 345=q 332*q 332:=H 345 _ rfl;have e346:q 346=q 344+q 345:=H 346 _ rfl;have e347:q 347=q 335*q 335:=H 347 _ rfl;have e348:q 348=q 346+q 347:=H 348 _ rfl;have e349:q 349=q 338*q 338:=H 349 _ rfl;have e350:q 350=q 348+q 349:=H 350 _ rfl;have e351:q 351=q 189*fac [q 189,q 192,q 195,q 198,q 201,q 204]:=H 351 _ rfl;have e352:q 352=q 192*fac [q 189,q 192,q 195,q 198,q 201,q 204]:=H 352 _ rfl;have e353:q 353=q 195*fac [q 189,q 192,q 195,q 198,q 201,q 204]:=H 353 _ rfl;have e354:q 354=q 198*fac [q 189,q 192,q 195,q 198,q 201,q 204]:=H 354 _ rfl;have e355:q 355=q 201*fac [q 189,q 192,q 195,q 198,q 201,q 204]:=H 355 _ rfl;have e356:q 356=q 204*fac [q 189,q 192,q 195,q 198,q 201,q 204]:=H 356 _ rfl;have e357:q 357=q 326*fac [q 326,q 329,q 332,q 335,q 338,q 341]:=H 357 _ rfl;have e358:q 358=q 329*fac [q 326,q 329,q 332,q 335,q 338,q 341]:=H 358 _ rfl;have e359:q 359=q 332*fac [q 326,q 329,q 332,q 335,q 338,q 341]:=H 359 _ rfl;have e360:q 360=q 335*fac [q 326,q 329,q 332,q 335,q 338,q 341]:=H 360 _ rfl;have e361:q 361=q 338*fac [q 326,q 329,q 332,q 335,q 338,q 341]:=H 361 _ rfl;have e362:q 362=q 341*fac [q 326,q 329,q 332,q 335,q 338,q 341]:=H 362 _ rfl
 exact kF_Sz e4 e5 e6 e7 e8 e9 e14 e15 e16 e17 e18 e19 e20 e23 e24 e25 e26 e27 e28 e29 e30 e31 e32 e33 e34 e35 e36 e37 e38 e39 e40 e41 e42 e43 e44 e45 e46 e47 e48 e49 e50 e51 e52 e53 e54 e55 e56 e57 e58 e59 e60 e61 e62 e63 e64 e65 e66 e67 e86 e87 e88 e89 e90 e91 e92 e99 e100 e101 e102 e103 e104 e105 e106 e107 e108 e109 e110 e131 e132 e133 e134 e135 e136 e137 e138 e139 e140 e141 e142 e143 e144 e145 e146 e147 e148 e149 e150 e151 e152 e153 e154 e155 e156 e157 e158 e159 e160 e161 e162 e163 e164 e165 e166 e167 e168 e169 e170 e171 e172 e173 e174 e175 e176 e177 e178 e179 e180 e181 e182 e183 e184 e185 e186 e187 e188 e189 e190 e191 e192 e193 e194 e195 e196 e197 e198 e199 e200 e201 e202 e203 e204 e205 e206 e207 e208 e209 e210 e211 e212 e213 e214 e215 e216 e217 e218 e219 e220 e221 e222 e223 e224 e225 e226 e227 e228 e229 e230 e231 e232 e233 e234 e235 e236 e237 e238 e239 e240 e241 e242 e243 e244 e245 e246 e247 e248 e249 e250 e251 e252 e253 e254 e255 e256 e257 e258 e259 e260 e261 e262 e263 e264 e265 e266 e267 e268 e269 e270 e271 e272 e273 e274 e275 e276 e277 e278 e279 e280 e281 e282 e283 e284 e285 e286 e287 e288 e289 e290 e291 e292 e293 e294 e295 e296 e297 e298 e299 e300 e301 e302 e303 e304 e305 e306 e307 e308 e309 e310 e311 e312 e313 e314 e315 e316 e317 e318 e319 e320 e321 e322 e323 e324 e325 e326 e327 e328 e329 e330 e331 e332 e333 e334 e335 e336 e337 e338 e339 e340 e341 e342 e343 e344 e345 e346 e347 e348 e349 e350 e351 e352 e353 e354 e355 e356 e357 e358 e359 e360 e361 e362
theorem kF_f1 {z0 z1 z2 z3 z4 z5 z6 z9 z10 z11 z12 z13 z14 z15 z16 z19 z23 z24 z25 z28 z29 z30 z31 z34 : Rat} : z4=z2-z0→z5=z3-z1→z6=-z5→(z9=0↔(z6=0∧z4=0))→z14=z12-z10→z15=z13-z11→z16=-z15→(z19=0↔(z16=0∧z14=0))→z23=z10-z0→z24=z11-z1→z25=-z24→(z28=0↔(z25=0∧z23=0))→z29=z12-z2→z30=z13-z3→z31=-z30→(z34=0↔(z31=0∧z29=0))→(z9=0)→(z19=0)→(z28=0)→z34=0 := by
 intro e4 e5 e6 e9 e14 e15 e16 e19 e23 e24 e25 e28 e29 e30 e31 e34 u0 u1 u2
 obtain ⟨ua0_6,ua0_4⟩ := e9.1 u0
 obtain ⟨ua1_16,ua1_14⟩ := e19.1 u1
 obtain ⟨ua2_25,ua2_23⟩ := e28.1 u2
 rw [e34]
 clear u0 u1 u2 e9 e19 e28 e34
 refine ⟨?_,?_⟩ <;> (subst_vars; grind)
theorem kF_f2 {z0 z1 z2 z3 z4 z5 z6 z9 z10 z11 z12 z13 z14 z15 z16 z19 z23 z24 z25 z28 z29 z30 z31 z34 : Rat} : z4=z2-z0→z5=z3-z1→z6=-z5→(z9=0↔(z6=0∧z4=0))→z14=z12-z10→z15=z13-z11→z16=-z15→(z19=0↔(z16=0∧z14=0))→z23=z10-z0→z24=z11-z1→z25=-z24→(z28=0↔(z25=0∧z23=0))→z29=z12-z2→z30=z13-z3→z31=-z30→(z34=0↔(z31=0∧z29=0))→(z9=0)→(z19=0)→(¬ (z28=0))→¬ (z34=0) := by
 intro e4 e5 e6 e9 e14 e15 e16 e19 e23 e24 e25 e28 e29 e30 e31 e34 u0 u1 u2
 obtain ⟨ua0_6,ua0_4⟩ := e9.1 u0
 obtain ⟨ua1_16,ua1_14⟩ := e19.1 u1
 rw [e28] at u2
 rw [e34]
 clear u0 u1 e9 e19 e28 e34
 have hp := sq_pos (x := z31) (y := z29) (by grind)
 rintro ⟨ub31,ub29⟩
 subst_vars; grind
theorem kF_f3 {z0 z1 z2 z3 z4 z5 z6 z9 z10 z11 z12 z13 z14 z15 z16 z19 z23 z24 z25 z28 z29 z30 z31 z34 : Rat} : z4=z2-z0→z5=z3-z1→z6=-z5→(z9=0↔(z6=0∧z4=0))→z14=z12-z10→z15=z13-z11→z16=-z15→(z19=0↔(z16=0∧z14=0))→z23=z10-z0→z24=z11-z1→z25=-z24→(z28=0↔(z25=0∧z23=0))→z29=z12-z2→z30=z13-z3→z31=-z30→(z34=0↔(z31=0∧z29=0))→(z9=0)→(¬ (z19=0))→(z28=0)→¬ (z34=0) := by
 intro e4 e5 e6 e9 e14 e15 e16 e19 e23 e24 e25 e28 e29 e30 e31 e34 u0 u1 u2
 obtain ⟨ua0_6,ua0_4⟩ := e9.1 u0
 rw [e19] at u1
 obtain ⟨ua2_25,ua2_23⟩ := e28.1 u2
 rw [e34]
 clear u0 u2 e9 e19 e28 e34
 have hp := sq_pos (x := z31) (y := z29) (by grind)
 rintro ⟨ub31,ub29⟩
 subst_vars; grind
theorem kF_f4 {z0 z1 z2 z3 z4 z5 z6 z9 z10 z11 z12 z13 z14 z15 z16 z19 z23 z24 z25 z28 z29 z30 z31 z34 : Rat} : z4=z2-z0→z5=z3-z1→z6=-z5→(z9=0↔(z6=0∧z4=0))→z14=z12-z10→z15=z13-z11→z16=-z15→(z19=0↔(z16=0∧z14=0))→z23=z10-z0→z24=z11-z1→z25=-z24→(z28=0↔(z25=0∧z23=0))→z29=z12-z2→z30=z13-z3→z31=-z30→(z34=0↔(z31=0∧z29=0))→(¬ (z9=0))→(z19=0)→(z28=0)→¬ (z34=0) := by
 intro e4 e5 e6 e9 e14 e15 e16 e19 e23 e24 e25 e28 e29 e30 e31 e34 u0 u1 u2
 rw [e9] at u0
 obtain ⟨ua1_16,ua1_14⟩ := e19.1 u1
 obtain ⟨ua2_25,ua2_23⟩ := e28.1 u2
 rw [e34]
 clear u1 u2 e9 e19 e28 e34
 have hp := sq_pos (x := z31) (y := z29) (by grind)
 rintro ⟨ub31,ub29⟩
 subst_vars; grind
def kF_cs : List (FuncId × Nat) := [(178,60),(22,61),(23,62),(170,64),(35,66),(74,60)]
def kF_G : Memo := [(91,[qA [232,235,236,239,242,243],qA [258,261,262,265,268,269],qA [129,130,131]],qA [326,329,332,335,338,341]),(94,[qA [2,3,131],qA [12,13,131]],qA [252,254,257]),(94,[qA [0,1,131],qA [10,11,131]],qA [245,247,250]),(94,[qA [10,11,131],qA [12,13,131]],qA [225,228,231]),(94,[qA [0,1,131],qA [2,3,131]],qA [216,219,222]),(91,[qA [99,102,103,106,109,110],qA [49,52,53,56,59,60],qA [129,130,131]],qA [189,192,195,198,201,204]),(164,[qA [6,4,89]],tA [90,91,92]),(163,[qA [0,1],qA [6,4]],qA [6,4,89]),(164,[qA [16,14,64]],tA [65,66,67]),(163,[qA [10,11],qA [16,14]],qA [16,14,64]),(164,[qA [31,29,45]],tA [46,47,48]),(163,[qA [2,3],qA [31,29]],qA [31,29,45]),(164,[qA [25,23,38]],tA [39,40,41]),(163,[qA [0,1],qA [25,23]],qA [25,23,38])]
theorem kF_g0 : memoChk (sx Tryz.prog kF_N [] [] kF_L kF_C kF_Z (prC [31])) kF_cs 8 6 (kF_G.drop 0)=true := by kernel_rfl
theorem kF_g1 : memoChk (sx Tryz.prog kF_N [] [] kF_L kF_C kF_Z (prC [31])) kF_cs 8 8 (kF_G.drop 6)=true := by kernel_rfl
theorem kF_memoG {q : Nat→Rat} {σ : Nat→ByteArray} {w : World} (hσ : ∀ j,(σ j).size≤1048576) (hq : ∀ (a : Nat) nd,kF_N[a]? = some nd→q a=valN σ q nd) (h0 : ∀ a,kF_N.length≤a→q a=0) (hp : PreS w) : MemoAll kF_N kF_L kF_C kF_Z q σ [31] w kF_G := by
 have Y : Hy kF_N [] kF_L kF_C kF_Z q σ := hy_ofA hσ kF_wf kF_sz kF_lt kF_cn hq h0 trivial
 have hc : ∀ f ∈ ([31] : List FuncId),Closed f := by simp [closed_coned]
 have hm : (Tryz.prog).follows .mixedOrders=true := by kernel_rfl
 exact (memoAll_chk (M := kF_G.drop 0) Y hc hm hp 6 kF_g0 (memoAll_chk (M := kF_G.drop 6) Y hc hm hp 8 kF_g1 memoAll_nil))
def kF_H0 : List (Nat × Nat × Nat × Nat) := [(0,9,0,1),(0,19,0,1),(0,28,0,1),(0,34,0,1)]
def kF_H1 : List (Nat × Nat × Nat × Nat) := [(0,9,0,1),(0,19,0,1),(0,28,0,0),(0,34,0,0)]
def kF_H2 : List (Nat × Nat × Nat × Nat) := [(0,9,0,1),(0,19,0,0),(0,28,0,1),(0,34,0,0)]
def kF_H3 : List (Nat × Nat × Nat × Nat) := [(0,9,0,1),(0,19,0,0),(0,28,0,0),(0,34,0,1)]
def kF_H4 : List (Nat × Nat × Nat × Nat) := [(0,9,0,1),(0,19,0,0),(0,28,0,0),(0,34,0,0)]
def kF_H5 : List (Nat × Nat × Nat × Nat) := [(0,9,0,0),(0,19,0,1),(0,28,0,1),(0,34,0,0)]
def kF_H6 : List (Nat × Nat × Nat × Nat) := [(0,9,0,0),(0,19,0,1),(0,28,0,0),(0,34,0,1)]
def kF_H7 : List (Nat × Nat × Nat × Nat) := [(0,9,0,0),(0,19,0,1),(0,28,0,0),(0,34,0,0)]
def kF_H8 : List (Nat × Nat × Nat × Nat) := [(0,9,0,0),(0,19,0,0),(0,28,0,1),(0,34,0,1)]
def kF_H9 : List (Nat × Nat × Nat × Nat) := [(0,9,0,0),(0,19,0,0),(0,28,0,1),(0,34,0,0)]
def kF_H10 : List (Nat × Nat × Nat × Nat) := [(0,9,0,0),(0,19,0,0),(0,28,0,0),(0,34,0,1)]
def kF_H11 : List (Nat × Nat × Nat × Nat) := [(0,9,0,0),(0,19,0,0),(0,28,0,0),(0,34,0,0),(0,119,0,0),(0,128,0,0),(0,213,0,1),(0,350,0,1)]
def kF_H12 : List (Nat × Nat × Nat × Nat) := [(0,9,0,0),(0,19,0,0),(0,28,0,0),(0,34,0,0),(0,119,0,0),(0,128,0,0),(0,213,0,0),(0,350,0,0),(3,351,357,1),(3,352,358,1),(3,353,359,1),(3,354,360,1),(3,355,361,1),(3,356,362,1)]
theorem kF_r0 : (callD (sx Tryz.prog kF_N kF_H0 [(26,[.inr (3,0,0,0,0)])] kF_L kF_C kF_Z (prC [31])) kF_cs kF_G 6 [] 4 kF_A [] 0).map (·.1)=some (kB true) := by kernel_rfl
theorem kF_r1 : (callD (sx Tryz.prog kF_N kF_H1 [(26,[.inr (3,0,0,0,0)])] kF_L kF_C kF_Z (prC [31])) kF_cs kF_G 6 [] 4 kF_A [] 0).map (·.1)=some (kB true) := by kernel_rfl
theorem kF_r2 : (callD (sx Tryz.prog kF_N kF_H2 [(26,[.inr (3,0,0,0,0)])] kF_L kF_C kF_Z (prC [31])) kF_cs kF_G 6 [] 4 kF_A [] 0).map (·.1)=some (kB true) := by kernel_rfl
theorem kF_r3 : (callD (sx Tryz.prog kF_N kF_H3 [(26,[.inr (3,0,0,0,0)])] kF_L kF_C kF_Z (prC [31])) kF_cs kF_G 6 [] 4 kF_A [] 0).map (·.1)=some (kB true) := by kernel_rfl
theorem kF_r4 : (callD (sx Tryz.prog kF_N kF_H4 [(26,[.inr (3,0,0,0,0)])] kF_L kF_C kF_Z (prC [31])) kF_cs kF_G 6 [] 4 kF_A [] 0).map (·.1)=some (kB true) := by kernel_rfl
theorem kF_r5 : (callD (sx Tryz.prog kF_N kF_H5 [(26,[.inr (3,0,0,0,0)])] kF_L kF_C kF_Z (prC [31])) kF_cs kF_G 6 [] 4 kF_A [] 0).map (·.1)=some (kB true) := by kernel_rfl
theorem kF_r6 : (callD (sx Tryz.prog kF_N kF_H6 [(26,[.inr (3,0,0,0,0)])] kF_L kF_C kF_Z (prC [31])) kF_cs kF_G 6 [] 4 kF_A [] 0).map (·.1)=some (kB true) := by kernel_rfl
theorem kF_r7 : (callD (sx Tryz.prog kF_N kF_H7 [(26,[.inr (3,0,0,0,0)])] kF_L kF_C kF_Z (prC [31])) kF_cs kF_G 6 [] 4 kF_A [] 0).map (·.1)=some (kB true) := by kernel_rfl
theorem kF_r8 : (callD (sx Tryz.prog kF_N kF_H8 [(26,[.inr (3,0,0,0,0)])] kF_L kF_C kF_Z (prC [31])) kF_cs kF_G 6 [] 4 kF_A [] 0).map (·.1)=some (kB true) := by kernel_rfl
theorem kF_r9 : (callD (sx Tryz.prog kF_N kF_H9 [(26,[.inr (3,0,0,0,0)])] kF_L kF_C kF_Z (prC [31])) kF_cs kF_G 6 [] 4 kF_A [] 0).map (·.1)=some (kB true) := by kernel_rfl
theorem kF_r10 : (callD (sx Tryz.prog kF_N kF_H10 [(26,[.inr (3,0,0,0,0)])] kF_L kF_C kF_Z (prC [31])) kF_cs kF_G 6 [] 4 kF_A [] 0).map (·.1)=some (kB true) := by kernel_rfl
theorem kF_r11 : (callD (sx Tryz.prog kF_N kF_H11 [(26,[.inr (3,0,0,0,0)]),(93,[.inr (3,181,0,0,0)]),(173,[.inr (3,209,0,0,0),.inr (3,210,0,0,0)]),(173,[.inr (3,217,0,0,0),.inr (3,218,0,0,0)])] kF_L kF_C kF_Z (prC [31])) kF_cs kF_G 6 [] 4 kF_A [] 0).map (·.1)=some (kB true) := by kernel_rfl
theorem kF_r12 : (callD (sx Tryz.prog kF_N kF_H12 [(26,[.inr (3,0,0,0,0)]),(93,[.inr (3,191,0,0,0)]),(173,[.inr (3,219,0,0,0),.inr (3,220,0,0,0)]),(173,[.inr (3,227,0,0,0),.inr (3,228,0,0,0)])] kF_L kF_C kF_Z (prC [31])) kF_cs kF_G 6 [] 4 kF_A [] 0).map (·.1)=some (kB true) := by kernel_rfl
theorem kF_An {a b : Prop} (x : a) (y : b) : a∧b := ⟨x,y⟩
theorem kF_leaf {M : Memo} {H : List (Nat × Nat × Nat × Nat)} {K : List (FuncId × List AC)} {k : Nat} {q : Nat→Rat} {σ : Nat→ByteArray} {args : List AV} {vs : List Value} {w : World} (hr : (callD (sx Tryz.prog kF_N H K kF_L kF_C kF_Z (prC [31])) kF_cs M k [] 4 args [] 0).map (·.1)=some (kB true)) (hσ : ∀ j,(σ j).size≤1048576) (hq : ∀ (a : Nat) nd,kF_N[a]? = some nd→q a=valN σ q nd) (h0 : ∀ a,kF_N.length≤a→q a=0) (hH : hAll q H) (hp : PreS w) (hM : MemoAll kF_N kF_L kF_C kF_Z q σ [31] w M) (hA : ∀ K,A2 (avOn (cOn (evS q σ) K (fun _ => none) w)) args vs) : Calls Tryz.prog 4 vs.toArray w fun e w' => Below w.heap.size w w'∧e=.returned (.bool true) :=
 run_toldD' k (hy_ofA hσ kF_wf kF_sz kF_lt kF_cn hq h0 hH) (by simp [closed_coned]) (by kernel_rfl) hp hM hr (hA K)
theorem kF_leafC {H : List (Nat × Nat × Nat × Nat)} {K : List (FuncId × List AC)} {k : Nat} {q : Nat→Rat} {σ : Nat→ByteArray} {args : List AV} {vs : List Value} {w : World} (hr : (callC (sx Tryz.prog kF_N H K kF_L kF_C kF_Z (prC [31])) kF_cs k [] 4 args [] 0).map (·.1)=some (kB true)) (hσ : ∀ j,(σ j).size≤1048576) (hq : ∀ (a : Nat) nd,kF_N[a]? = some nd→q a=valN σ q nd) (h0 : ∀ a,kF_N.length≤a→q a=0) (hH : hAll q H) (hp : PreS w) (hA : ∀ K,A2 (avOn (cOn (evS q σ) K (fun _ => none) w)) args vs) : Calls Tryz.prog 4 vs.toArray w fun e w' => Below w.heap.size w w'∧e=.returned (.bool true) :=
 run_toldC' k (hy_ofA hσ kF_wf kF_sz kF_lt kF_cn hq h0 hH) (by simp [closed_coned]) (by kernel_rfl) hr hp (hA K)
theorem kF_walk {w : World} {lax laz lbx lbz lcx lcz ldx ldz ux uz : ByteArray}  (slax : lax.size≤1048576) (slaz : laz.size≤1048576) (slbx : lbx.size≤1048576) (slbz : lbz.size≤1048576) (slcx : lcx.size≤1048576) (slcz : lcz.size≤1048576) (sldx : ldx.size≤1048576) (sldz : ldz.size≤1048576) (sux : ux.size≤1048576) (suz : uz.size≤1048576) (tab : Tab w) (mx : MaxL w) :
  Calls Tryz.prog 4 #[.agg #[.string lax,.string laz,.string lbx,.string lbz,.string lcx,.string lcz,.string ldx,.string ldz],.agg #[.string ux,.string uz]] w fun e w' => Below w.heap.size w w'∧e=.returned (.bool true) := by
 have hσ : ∀ j,(sgOf [lax,laz,lbx,lbz,lcx,lcz,ldx,ldz,ux,uz] j).size≤1048576 := sgOf_size (by simp [slax,slaz,slbx,slbz,slcx,slcz,sldx,sldz,sux,suz])
 obtain ⟨q,hq,h0⟩ := nodes_exist (sgOf [lax,laz,lbx,lbz,lcx,lcz,ldx,ldz,ux,uz]) kF_N kF_wf
 have hA : ∀ K,A2 (avOn (cOn (evS q (sgOf [lax,laz,lbx,lbz,lcx,lcz,ldx,ldz,ux,uz])) K (fun _ => none) w)) [(false,[(true,[.inr (2,0,0,0,0),.inr (2,1,0,0,0),.inr (2,2,0,0,0),.inr (2,3,0,0,0),.inr (2,4,0,0,0),.inr (2,5,0,0,0),.inr (2,6,0,0,0),.inr (2,7,0,0,0)])]),(false,[(true,[.inr (2,8,0,0,0),.inr (2,9,0,0,0)])])] [.agg #[.string lax,.string laz,.string lbx,.string lbz,.string lcx,.string lcz,.string ldx,.string ldz],.agg #[.string ux,.string uz]] := fun K => ⟨⟨⟨[.string lax,.string laz,.string lbx,.string lbz,.string lcx,.string lcz,.string ldx,.string ldz],rfl,rfl,rfl,rfl,rfl,rfl,rfl,rfl,rfl,trivial⟩,trivial⟩,⟨⟨[.string ux,.string uz],rfl,rfl,rfl,trivial⟩,trivial⟩,trivial⟩
 have E4 : q 4=q 2-q 0 := hq 4 _ rfl
 have E5 : q 5=q 3-q 1 := hq 5 _ rfl
 have E6 : q 6=-q 5 := hq 6 _ rfl
 have E14 : q 14=q 12-q 10 := hq 14 _ rfl
 have E15 : q 15=q 13-q 11 := hq 15 _ rfl
 have E16 : q 16=-q 15 := hq 16 _ rfl
 have E23 : q 23=q 10-q 0 := hq 23 _ rfl
 have E24 : q 24=q 11-q 1 := hq 24 _ rfl
 have E25 : q 25=-q 24 := hq 25 _ rfl
 have E29 : q 29=q 12-q 2 := hq 29 _ rfl
 have E30 : q 30=q 13-q 3 := hq 30 _ rfl
 have E31 : q 31=-q 30 := hq 31 _ rfl
 have Q9 : q 9=0 ↔ (q 6=0∧q 4=0) := (sq_next (sq_first (hq 7 _ rfl)) (hq 8 _ rfl) (hq 9 _ rfl)).2
 have Q19 : q 19=0 ↔ (q 16=0∧q 14=0) := (sq_next (sq_first (hq 17 _ rfl)) (hq 18 _ rfl) (hq 19 _ rfl)).2
 have Q28 : q 28=0 ↔ (q 25=0∧q 23=0) := (sq_next (sq_first (hq 26 _ rfl)) (hq 27 _ rfl) (hq 28 _ rfl)).2
 have Q34 : q 34=0 ↔ (q 31=0∧q 29=0) := (sq_next (sq_first (hq 32 _ rfl)) (hq 33 _ rfl) (hq 34 _ rfl)).2
 by_cases b9 : q 9=0
 ·
  by_cases b19 : q 19=0
  ·
   by_cases b28 : q 28=0
   ·
    have b34 : q 34=0 := kF_f1 E4 E5 E6 Q9 E14 E15 E16 Q19 E23 E24 E25 Q28 E29 E30 E31 Q34 b9 b19 b28
    have hH : hAll q kF_H0 := (kF_An (hT b9) (kF_An (hT b19) (kF_An (hT b28) (kF_An (hT b34) trivial))))
    exact kF_leaf kF_r0 hσ hq h0 hH ⟨tab,mx⟩ (kF_memoG hσ hq h0 ⟨tab,mx⟩) hA
   ·
    have b34 : ¬ (q 34=0) := kF_f2 E4 E5 E6 Q9 E14 E15 E16 Q19 E23 E24 E25 Q28 E29 E30 E31 Q34 b9 b19 b28
    have hH : hAll q kF_H1 := (kF_An (hT b9) (kF_An (hT b19) (kF_An (hF b28) (kF_An (hF b34) trivial))))
    exact kF_leaf kF_r1 hσ hq h0 hH ⟨tab,mx⟩ (kF_memoG hσ hq h0 ⟨tab,mx⟩) hA
  ·
   by_cases b28 : q 28=0
   ·
    have b34 : ¬ (q 34=0) := kF_f3 E4 E5 E6 Q9 E14 E15 E16 Q19 E23 E24 E25 Q28 E29 E30 E31 Q34 b9 b19 b28
    have hH : hAll q kF_H2 := (kF_An (hT b9) (kF_An (hF b19) (kF_An (hT b28) (kF_An (hF b34) trivial))))
    exact kF_leaf kF_r2 hσ hq h0 hH ⟨tab,mx⟩ (kF_memoG hσ hq h0 ⟨tab,mx⟩) hA
   ·
    by_cases b34 : q 34=0
    ·
     have hH : hAll q kF_H3 := (kF_An (hT b9) (kF_An (hF b19) (kF_An (hF b28) (kF_An (hT b34) trivial))))
     exact kF_leaf kF_r3 hσ hq h0 hH ⟨tab,mx⟩ (kF_memoG hσ hq h0 ⟨tab,mx⟩) hA
    ·
     have hH : hAll q kF_H4 := (kF_An (hT b9) (kF_An (hF b19) (kF_An (hF b28) (kF_An (hF b34) trivial))))
     exact kF_leaf kF_r4 hσ hq h0 hH ⟨tab,mx⟩ (kF_memoG hσ hq h0 ⟨tab,mx⟩) hA
 ·
  by_cases b19 : q 19=0
  ·
   by_cases b28 : q 28=0
   ·
    have b34 : ¬ (q 34=0) := kF_f4 E4 E5 E6 Q9 E14 E15 E16 Q19 E23 E24 E25 Q28 E29 E30 E31 Q34 b9 b19 b28
    have hH : hAll q kF_H5 := (kF_An (hF b9) (kF_An (hT b19) (kF_An (hT b28) (kF_An (hF b34) trivial))))
    exact kF_leaf kF_r5 hσ hq h0 hH ⟨tab,mx⟩ (kF_memoG hσ hq h0 ⟨tab,mx⟩) hA
   ·
    by_cases b34 : q 34=0
    ·
     have hH : hAll q kF_H6 := (kF_An (hF b9) (kF_An (hT b19) (kF_An (hF b28) (kF_An (hT b34) trivial))))
     exact kF_leaf kF_r6 hσ hq h0 hH ⟨tab,mx⟩ (kF_memoG hσ hq h0 ⟨tab,mx⟩) hA
    ·
     have hH : hAll q kF_H7 := (kF_An (hF b9) (kF_An (hT b19) (kF_An (hF b28) (kF_An (hF b34) trivial))))
     exact kF_leaf kF_r7 hσ hq h0 hH ⟨tab,mx⟩ (kF_memoG hσ hq h0 ⟨tab,mx⟩) hA
  ·
   by_cases b28 : q 28=0
   ·
    by_cases b34 : q 34=0
    ·
     have hH : hAll q kF_H8 := (kF_An (hF b9) (kF_An (hF b19) (kF_An (hT b28) (kF_An (hT b34) trivial))))
     exact kF_leaf kF_r8 hσ hq h0 hH ⟨tab,mx⟩ (kF_memoG hσ hq h0 ⟨tab,mx⟩) hA
    ·
     have hH : hAll q kF_H9 := (kF_An (hF b9) (kF_An (hF b19) (kF_An (hT b28) (kF_An (hF b34) trivial))))
     exact kF_leaf kF_r9 hσ hq h0 hH ⟨tab,mx⟩ (kF_memoG hσ hq h0 ⟨tab,mx⟩) hA
   ·
    by_cases b34 : q 34=0
    ·
     have hH : hAll q kF_H10 := (kF_An (hF b9) (kF_An (hF b19) (kF_An (hF b28) (kF_An (hT b34) trivial))))
     exact kF_leaf kF_r10 hσ hq h0 hH ⟨tab,mx⟩ (kF_memoG hσ hq h0 ⟨tab,mx⟩) hA
    ·
     have gA := kF_AA hq b9 b19
     have b119 : ¬ (q 119=0) := gA
     have gB := kF_BB hq b28 b34
     have b128 : ¬ (q 128=0) := gB
     by_cases b213 : q 213=0
     ·
      have gS := kF_S hq b9 b19 b28 b34
      have b350 : q 350=0 := gS.1 b213
      have hH : hAll q kF_H11 := (kF_An (hF b9) (kF_An (hF b19) (kF_An (hF b28) (kF_An (hF b34) (kF_An (hF b119) (kF_An (hF b128) (kF_An (hT b213) (kF_An (hT b350) trivial))))))))
      exact kF_leaf kF_r11 hσ hq h0 hH ⟨tab,mx⟩ (kF_memoG hσ hq h0 ⟨tab,mx⟩) hA
     ·
      have gS := kF_S hq b9 b19 b28 b34
      have b350 : ¬ (q 350=0) := gS.2.1 b213
      have gE := (kF_S hq b9 b19 b28 b34).2.2 b350
      have a_3_351_357 : q 351=q 357 := gE.1
      have a_3_352_358 : q 352=q 358 := gE.2.1
      have a_3_353_359 : q 353=q 359 := gE.2.2.1
      have a_3_354_360 : q 354=q 360 := gE.2.2.2.1
      have a_3_355_361 : q 355=q 361 := gE.2.2.2.2.1
      have a_3_356_362 : q 356=q 362 := gE.2.2.2.2.2
      have hH : hAll q kF_H12 := (kF_An (hF b9) (kF_An (hF b19) (kF_An (hF b28) (kF_An (hF b34) (kF_An (hF b119) (kF_An (hF b128) (kF_An (hF b213) (kF_An (hF b350) (kF_An (hT a_3_351_357) (kF_An (hT a_3_352_358) (kF_An (hT a_3_353_359) (kF_An (hT a_3_354_360) (kF_An (hT a_3_355_361) (kF_An (hT a_3_356_362) trivial))))))))))))))
      exact kF_leaf kF_r12 hσ hq h0 hH ⟨tab,mx⟩ (kF_memoG hσ hq h0 ⟨tab,mx⟩) hA
end Go.Proofs.YtjfodeihndjpjaaGreatDoor
