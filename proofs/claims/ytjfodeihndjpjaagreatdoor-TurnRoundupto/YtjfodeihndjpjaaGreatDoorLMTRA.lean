/- Part 13 of the walks and of the mathematics under them: VP VPC VPD VPE VY VSZ CFturned MTR. -/
import Derived.Test.YtjfodeihndjpjaaGreatDoorA2
import Derived.Test.YtjfodeihndjpjaaGreatDoorA12
set_option maxHeartbeats 16000000
set_option maxRecDepth 100000
/- VP -/
namespace Cx
open Go Go.RowKit
abbrev Hs := List (Nat × Nat × Nat × Nat)
def Sx.plus (S : Sx) (X : Hs) : Sx := { S with H := X ++ S.H }
abbrev Ask := Nat × Nat × Nat × Nat
def askZ (a : Nat) : Ask := (0,a,0,a)
def askOk (S : Sx) : Ask→Bool
 | (k,a,b,d) => (Nat.beq k 0 && (Nat.beq b 0 && Nat.beq d a)) || (Nat.beq k 3 && (match S.N[d]? with
  | some (op,ar) => Nat.beq op 3 && beqL ar [a,b]
  | none => false))
def acrossB (S : Sx) (a b : Nat) : List Nat→List Nat→Option (List Ask)
 | c :: l,d :: m => (S.nd 4 [a,d]).bind fun x => (S.nd 4 [c,b]).bind fun y => (S.nd 3 [x,y]).bind fun z => (acrossB S a b l m).map fun r => (3,x,y,z) :: r
 | _,_ => some []
def alikeB (S : Sx) : List Nat→List Nat→List Nat→List Nat→Option (List Ask)
 | pl,pm,a :: l,b :: m => (acrossB S a b pl pm).bind fun r => (alikeB S (pl ++ [a]) (pm ++ [b]) l m).map fun t => r ++ t
 | _,_,_,_ => some []
def sameA (S : Sx) : List Nat→List Nat→Option (List Ask)
 | a :: l,b :: m => (S.nd 3 [a,b]).bind fun d => (sameA S l m).map fun r => (3,a,b,d) :: r
 | _,_ => some []
def asks (S : Sx) (h : List HB) (code : Nat) (args : List AV) : Option (List Ask) :=
 match code with
 | 60 => arg1 (fun x => (asA x).bind fun cs => (qRow S cs).map fun l => l.map askZ) args
 | 61 => arg1 (fun x => (rowB h 1 x).bind fun p => (mapO (acX 0) p.2).map fun l => l.map askZ) args
 | 62 => arg2 (fun x y => (rowB h 1 x).bind fun p => (mapO (acX 0) p.2).bind fun l => (rowB h 1 y).bind fun p' => (mapO (acX 0) p'.2).bind fun m => alikeB S [] [] l m) args
 | 63 => arg1 (fun x => (asA x).bind fun cs => (mapO acTold cs).bind fun l => (plainOf S l).map fun xs => xs.map askZ) args
 | 67 => arg1 (fun x => (asA x).bind fun cs => (mapO (txNode S) (cs.take 3)).map fun l => l.map askZ) args
 | 65 => arg1 (fun x => (asA x).bind fun cs => (mapO (acX 0) cs).map fun l => l.map askZ) args
 | 66 => arg2 (fun x y => (asA x).bind fun cs => (asA y).bind fun ds => (mapO (acX 0) cs).bind fun l => (mapO (acX 0) ds).bind fun m => sameA S l m) args
 | 64 => arg1 (fun x => (asA x).bind fun cs => (qRow S cs).map fun l => (l.take 5).map askZ) args
 | _ => none
def splits : List Ask→Hs→List Hs
 | [],_ => []
 | (k,a,b,_) :: l,X => ((k,a,b,0) :: X) :: splits l ((k,a,b,1) :: X)
def allZ : List Ask→Hs→Hs
 | [],X => X
 | (k,a,b,_) :: l,X => allZ l ((k,a,b,1) :: X)
def bodyC (S : Sx) (call : CallF) : CallF := fun f args h nx => S.P.funcs[f]?.bind fun fn => fn.body.bind fun c => ifO (Nat.ble args.length fn.ntmps) ((runB S call fn.ntmps c { tm := numb1 0 args,h := h,nx := nx }).bind fun r =>
   ifO (Nat.ble r.1 1) ((mapO (resB S.P r.2) fn.results.toList).map fun xs => (tupB xs,r.2.h,r.2.nx)))
abbrev CRes := Option (AV × List HB × Nat)
def agree (h : List HB) (b : Bool) (hi : Nat) : CRes→Bool
 | some (v,h',nx') => (match asB v with
  | some c => b == c
  | none => false) && (Nat.ble nx' hi && h.all fun x => h'.any fun y => Nat.beq y.1 x.1 && acsW x.2 y.2)
 | none => false
def topN : Nat→List CRes→Nat
 | m,[] => m
 | m,some p :: rs => topN (bif Nat.ble m p.2.2 then p.2.2 else m) rs
 | m,none :: rs => topN m rs
def joinC (h : List HB) (nx : Nat) (rs : List CRes) : CRes :=
 match rs with
 | some p :: _ => (asB p.1).bind fun b => ifO (rs.all (agree h b (topN nx rs))) (some (kB b,h,topN nx rs))
 | _ => none
def askIt (S : Sx) (X : Hs) (h : List HB) (c : Nat) (args : List AV) : Option (List Ask × Nat) :=
 (asks (S.plus X) h c args).bind fun l => ifO (l.all (askOk S)) ((sqN S (l.map (·.2.2.2))).bind fun s => ((S.plus X).kn 0 s 0).map fun r => (l,r))
theorem askIt_some {S : Sx} {X : Hs} {h : List HB} {c : Nat} {args : List AV} {l : List Ask} {r : Nat} (e : askIt S X h c args=some (l,r)) : (∀ a ∈ l,askOk S a=true)∧∃ s,sqN S (l.map (·.2.2.2))=some s∧(S.plus X).kn 0 s 0=some r := by
 unfold askIt at e
 simp only [Option.bind_eq_some_iff,ifO_some,Option.map_eq_some_iff,List.all_eq_true,Prod.mk.injEq] at e
 obtain ⟨l',_,h1,s,h2,r',h3,rfl,rfl⟩ := e
 exact ⟨h1,s,h2,h3⟩
def callC (S : Sx) (cs : List (FuncId × Nat)) : Nat→Hs→CallF
 | 0,_,_,_,_,_ => none
 | n+1,X,f,args,h,nx => match prGet f cs with
  | none => bodyC (S.plus X) (callC S cs n X) f args h nx
  | some c => match askIt S X h c args with
   | none => bodyC (S.plus X) (callC S cs n X) f args h nx
   | some (l,r) => bif Nat.beq 1 r then bodyC (S.plus (allZ l X)) (callC S cs n (allZ l X)) f args h nx
    else joinC h nx ((splits l X).map fun X' => bodyC (S.plus X') (callC S cs n X') f args h nx)
section
variable {S : Sx} {E : Ev S.nb} {w0 : World}
theorem bodyC_ok {call : CallF} (hm : S.P.follows .mixedOrders=true) (N : Knows S E) (hP : PrimOk S E w0) (hC : CallOk S E w0 call) : CallOk S E w0 (bodyC S call) := fun f args h nx p hp γ w vs hi hA hb hlt hf => by
 unfold bodyC at hp
 simp only [Option.bind_eq_some_iff,ifO_some,Option.map_eq_some_iff,Nat.ble_eq] at hp
 obtain ⟨fn,h1,c,h2,h3,⟨e,s'⟩,h4,h5,xs,h6,rfl⟩ := hp
 dsimp only at h5 h6
 rcases (show e=0 ∨ e=1 by omega) with rfl | rfl
 all_goals
  obtain ⟨_,_,r⟩ := runB_ok hm N hP hC c _ _ _ h4
  refine calls_of_wp h1 h2 (r γ _ w _ ⟨hi,fun t v q => ?_,hb,hlt,?_,rfl⟩ hf fun a' w' γ' hef hs => ?_)
  ·obtain ⟨_,q2⟩ := numb1_get q
   rw [Nat.sub_zero] at q2
   obtain ⟨u,hu,hv⟩ := hA.get q2
   have hlt : t < vs.length := (List.getElem?_eq_some_iff.1 hu).1
   have : (vs.toArray ++ Array.replicate (fn.ntmps - vs.toArray.size) undef).getD t undef=u := by
    rw [Array.getD_eq_getD_getElem?,Array.getElem?_append_left (by simpa using hlt)]
    simp [hu]
   show avOn _ v ((vs.toArray ++ Array.replicate (fn.ntmps - vs.toArray.size) undef).getD t undef)
   rw [this]
   exact hv
  ·have := hA.len
   simp
   omega
  ·obtain ⟨v,hv,hx⟩ := results_run hs h6
   exact ⟨hs.df,v,hv,v,γ',rfl,hef,hx,hs.bx⟩
theorem asB_kB {v : AV} {b : Bool} (h : asB v=some b) : v=kB b := by
 unfold asB at h
 rw [Option.bind_eq_some_iff] at h
 obtain ⟨c,h1,h2⟩ := h
 unfold asC at h1
 split at h1
 ·cases h1
  unfold acB at h2
  split at h2
  ·cases h2
   rfl
  ·cases h2
 ·cases h1
theorem agree_some {h : List HB} {b : Bool} {hi : Nat} {r : CRes} (hr : agree h b hi r=true) : ∃ h' nx',r=some (kB b,h',nx')∧nx'≤hi∧∀ x ∈ h,x ∈ h' := by
 unfold agree at hr
 split at hr
 ·rename_i v h' nx'
  rw [Bool.and_eq_true,Bool.and_eq_true,Nat.ble_eq,List.all_eq_true] at hr
  obtain ⟨h1,h2,h3⟩ := hr
  refine ⟨h',nx',?_,h2,fun x hx => ?_⟩
  ·split at h1
   ·rename_i c hc
    rw [asB_kB hc,show c=b from (by simpa using h1 : b=c).symm]
   ·cases h1
  ·have := h3 x hx
   rw [List.any_eq_true] at this
   obtain ⟨y,hy,e⟩ := this
   rw [Bool.and_eq_true,Nat.beq_eq] at e
   have : x=y := Prod.ext e.1.symm (acsW_eq e.2)
   rw [this]
   exact hy
 ·cases hr
variable {T : Hs→Prop} {z : Nat→Prop}
def AskTrue (S : Sx) (T : Hs→Prop) (z : Nat→Prop) : Prop := ∀ X,T X→∀ a,askOk S a=true→(z a.2.2.2→T ((a.1,a.2.1,a.2.2.1,1) :: X))∧(¬ z a.2.2.2→T ((a.1,a.2.1,a.2.2.1,0) :: X))
theorem allZ_true (hk : AskTrue S T z) : ∀ {l : List Ask} {X : Hs},T X→(∀ a ∈ l,askOk S a=true)→(∀ a ∈ l,z a.2.2.2)→T (allZ l X)
 | [],_,h,_,_ => h
 | (k,a,b,d) :: l,X,h,ho,hz => allZ_true (l := l) hk ((hk X h (k,a,b,d) (ho _ List.mem_cons_self)).1 (hz _ List.mem_cons_self)) (fun a ha => ho a (List.mem_cons_of_mem _ ha)) (fun a ha => hz a (List.mem_cons_of_mem _ ha))
theorem splits_true (hk : AskTrue S T z) : ∀ {l : List Ask} {X : Hs},T X→(∀ a ∈ l,askOk S a=true)→(∃ a ∈ l,¬ z a.2.2.2)→∃ X' ∈ splits l X,T X'
 | [],_,_,_,⟨_,h,_⟩ => by cases h
 | (k,a,b,d) :: l,X,h,ho,hz => by
  by_cases e : z d
  ·obtain ⟨X',h1,h2⟩ := splits_true (l := l) hk ((hk X h (k,a,b,d) (ho _ List.mem_cons_self)).1 e) (fun a ha => ho a (List.mem_cons_of_mem _ ha)) (by
    obtain ⟨c,hc,hn⟩ := hz
    rcases List.mem_cons.1 hc with rfl | hc
    ·exact (hn e).elim
    ·exact ⟨c,hc,hn⟩)
   exact ⟨X',List.mem_cons_of_mem _ h1,h2⟩
  ·exact ⟨_,List.mem_cons_self,(hk X h (k,a,b,d) (ho _ List.mem_cons_self)).2 e⟩
theorem callC_ok {cs : List (FuncId × Nat)} (hm : S.P.follows .mixedOrders=true) (hN : ∀ X,T X→Knows (S.plus X) E) (hP : ∀ X,T X→PrimOk (S.plus X) E w0) (hk : AskTrue S T z)
  (hs : ∀ X,T X→∀ l s r,sqN S l=some s→(S.plus X).kn 0 s 0=some r→(Nat.beq 1 r=true→∀ d ∈ l,z d)∧(Nat.beq 1 r=false→∃ d ∈ l,¬ z d)) : ∀ n X,T X→CallOk S E w0 (callC S cs n X)
 | 0,_,_ => fun _ _ _ _ _ h => by cases h
 | n+1,X,hX => fun f args h nx p hp => by
  have body : ∀ Y,T Y→CallOk S E w0 (bodyC (S.plus Y) (callC S cs n Y)) := fun Y hY => bodyC_ok (S := S.plus Y) hm (hN Y hY) (hP Y hY) (callC_ok hm hN hP hk hs n Y hY)
  unfold callC at hp
  split at hp
  ·exact body X hX f args h nx p hp
  ·split at hp
   ·exact body X hX f args h nx p hp
   rename_i l r hk'
   obtain ⟨hl,s,h1,h2⟩ := askIt_some hk'
   have h3 := hp
   obtain ⟨a1,a0⟩ := hs X hX _ s r h1 h2
   cases e : Nat.beq 1 r with
   | true =>
    rw [e] at h3
    exact body _ (allZ_true hk hX hl fun a ha => a1 e _ (List.mem_map_of_mem ha)) f args h nx p h3
   | false =>
    rw [e] at h3
    obtain ⟨d,hd,hz⟩ := a0 e
    obtain ⟨a,ha,rfl⟩ := List.mem_map.1 hd
    obtain ⟨X',m1,m2⟩ := splits_true hk hX hl ⟨a,ha,hz⟩
    replace h3 : joinC h nx ((splits l X).map fun X' => bodyC (S.plus X') (callC S cs n X') f args h nx)=some p := h3
    unfold joinC at h3
    split at h3
    ·rename_i p0 rs hrs
     rw [Option.bind_eq_some_iff] at h3
     obtain ⟨b,hb,h4⟩ := h3
     rw [ifO_some,List.all_eq_true] at h4
     obtain ⟨h5,h6⟩ := h4
     cases h6
     obtain ⟨h',nx',q1,q2,q3⟩ := agree_some (h5 _ (List.mem_map_of_mem m1))
     intro γ w vs hi hA hb hlt hf
     refine (body X' m2 f args h nx _ q1 γ w vs hi hA hb hlt fun b g1 g2 => hf b g1 (Nat.lt_of_lt_of_le g2 q2)).mono ?_
     rintro _ w' ⟨r',γ',rfl,hef,hv,hx⟩
     exact ⟨r',γ',rfl,hef.wide (Nat.le_refl _) q2,hv,fun x hh => hx x (q3 x hh)⟩
    ·cases h3
end
end Cx
/- VPC -/
namespace Go.Proofs.YtjfodeihndjpjaaGreatDoor
open Cx Go Go.RowKit
section
variable {N : List Nd} {H : List (Nat × Nat × Nat × Nat)} {K : List (FuncId × List AC)} {L C : List (List Nat × Nat)} {Z : List Nat} {q : Nat→Rat} {σ : Nat→ByteArray} {w0 : World} {cl : List FuncId} {cs pr : List (FuncId × Nat)}
theorem kn_cons {k a b k' a' b' r' : Nat} {r : Nat} (h : knFrom k a b ((k',a',b',r') :: H)=some r) : (k=k'∧a=a'∧b=b'∧r=r') ∨ knFrom k a b H=some r := by
 unfold knFrom at h
 cases e : (Nat.beq k k' && (Nat.beq a a' && Nat.beq b b')) with
 | true =>
  rw [e] at h
  simp only [Bool.and_eq_true,Nat.beq_eq] at e
  exact Or.inl ⟨e.1,e.2.1,e.2.2,(Option.some.inj h).symm⟩
 | false =>
  rw [e] at h
  exact Or.inr h
theorem Hy.add0 (Y : Hy N H L C Z q σ) {a r : Nat} (h : Nat.beq 1 r=true ↔ q a=0) : Hy N ((0,a,0,r) :: H) L C Z q σ where
 nat := Y.nat
 qs := Y.qs
 zs := Y.zs
 par := Y.par
 lit := Y.lit
 k0 := fun a' r' g => by
  rcases kn_cons g with ⟨_,e1,_,e2⟩ | g
  ·rw [e1,e2]
   exact h
  ·exact Y.k0 a' r' g
 k1 := fun a' r' g => by
  rcases kn_cons g with ⟨e,_⟩ | g
  ·cases e
  ·exact Y.k1 a' r' g
 k2 := fun a' r' g => by
  rcases kn_cons g with ⟨e,_⟩ | g
  ·cases e
  ·exact Y.k2 a' r' g
 k4 := fun l a' b' r' g1 g => by
  rcases kn_cons g with ⟨e,_⟩ | g
  ·cases e
  ·exact Y.k4 l a' b' r' g1 g
 k3 := fun a' b' r' g => by
  rcases kn_cons g with ⟨e,_⟩ | g
  ·cases e
  ·exact Y.k3 a' b' r' g
 k6 := fun a' b' r' g => by
  rcases kn_cons g with ⟨e,_⟩ | g
  ·cases e
  ·exact Y.k6 a' b' r' g
 k5 := fun a' r' g => by
  rcases kn_cons g with ⟨e,_⟩ | g
  ·cases e
  ·exact Y.k5 a' r' g
theorem Hy.add3 (Y : Hy N H L C Z q σ) {a b r : Nat} (h : Nat.beq 1 r=true ↔ q a=q b) : Hy N ((3,a,b,r) :: H) L C Z q σ where
 nat := Y.nat
 qs := Y.qs
 zs := Y.zs
 par := Y.par
 lit := Y.lit
 k0 := fun a' r' g => by
  rcases kn_cons g with ⟨e,_⟩ | g
  ·cases e
  ·exact Y.k0 a' r' g
 k1 := fun a' r' g => by
  rcases kn_cons g with ⟨e,_⟩ | g
  ·cases e
  ·exact Y.k1 a' r' g
 k2 := fun a' r' g => by
  rcases kn_cons g with ⟨e,_⟩ | g
  ·cases e
  ·exact Y.k2 a' r' g
 k4 := fun l a' b' r' g1 g => by
  rcases kn_cons g with ⟨e,_⟩ | g
  ·cases e
  ·exact Y.k4 l a' b' r' g1 g
 k3 := fun a' b' r' g => by
  rcases kn_cons g with ⟨_,e1,e2,e3⟩ | g
  ·rw [e1,e2,e3]
   exact h
  ·exact Y.k3 a' b' r' g
 k6 := fun a' b' r' g => by
  rcases kn_cons g with ⟨e,_⟩ | g
  ·cases e
  ·exact Y.k6 a' b' r' g
 k5 := fun a' r' g => by
  rcases kn_cons g with ⟨e,_⟩ | g
  ·cases e
  ·exact Y.k5 a' r' g
theorem ask_true : AskTrue (sx Tryz.prog N H K L C Z pr) (fun X => Hy N (X ++ H) L C Z q σ) (fun d => q d=0) := fun X Y a ha => by
 obtain ⟨k,a,b,d⟩ := a
 have t1 : Nat.beq 1 1=true := rfl
 have t0 : Nat.beq 1 0 ≠ true := fun h => by cases h
 unfold askOk at ha
 rw [Bool.or_eq_true] at ha
 rcases ha with ha | ha
 ·simp only [Bool.and_eq_true,Nat.beq_eq] at ha
  obtain ⟨rfl,rfl,rfl⟩ := ha
  exact ⟨fun h => Hy.add0 Y ⟨fun _ => h,fun _ => t1⟩,fun h => Hy.add0 Y ⟨fun g => (t0 g).elim,fun g => (h g).elim⟩⟩
 ·rw [Bool.and_eq_true,Nat.beq_eq] at ha
  obtain ⟨rfl,hb⟩ := ha
  split at hb
  ·rename_i op ar hn
   rw [Bool.and_eq_true,Nat.beq_eq] at hb
   obtain ⟨rfl,hb⟩ := hb
   have e := beqL_eq hb
   subst e
   have hv : q d=q a - q b := Y.nat d _ hn
   have h2 : q d=0 ↔ q a=q b := by
    rw [hv]
    constructor <;> intro h <;> grind
   exact ⟨fun h => Hy.add3 Y ⟨fun _ => h2.1 h,fun _ => t1⟩,fun h => Hy.add3 Y ⟨fun g => (t0 g).elim,fun g => (h (h2.2 g)).elim⟩⟩
  ·cases hb
theorem sq_nn (y : Rat) : 0≤y*y := by
 by_cases h : y=0
 ·rw [h,Rat.zero_mul]
  exact Rat.le_refl
 ·exact Rat.le_of_lt (sq1_pos h)
theorem sq_sum {x y : Rat} (hx : 0≤x) : x+y*y=0 ↔ x=0∧y=0 := by
 constructor
 ·intro h
  have h2 := sq_nn y
  have h3 : x=0 := by grind
  refine ⟨h3,?_⟩
  have : y*y=0 := by grind
  rcases Rat.mul_eq_zero.1 this with g | g <;> exact g
 ·rintro ⟨rfl,rfl⟩
  grind
theorem sqF_val {H' : List (Nat × Nat × Nat × Nat)} (Y : Hy N H' L C Z q σ) : ∀ {l : List Nat} {s t : Nat},sqF (sx Tryz.prog N H K L C Z pr) s l=some t→0≤q s→0≤q t∧(q t=0 ↔ q s=0∧∀ d ∈ l,q d=0)
 | [],s,t,h,hs => by
  cases h
  exact ⟨hs,fun e => ⟨e,fun d hd => by cases hd⟩,fun e => e.1⟩
 | a :: l,s,t,h,hs => by
  unfold sqF at h
  simp only [Option.bind_eq_some_iff] at h
  obtain ⟨b,h1,c,h2,h3⟩ := h
  have e1 : q b=q a*q a := Hy.nd (H := H') (K := K) (pr := pr) Y h1
  have e2 : q c=q s+q b := Hy.nd (H := H') (K := K) (pr := pr) Y h2
  have n := sq_nn (q a)
  obtain ⟨g1,g2⟩ := sqF_val Y h3 (by grind)
  refine ⟨g1,g2.trans ?_⟩
  have e3 := sq_sum (y := q a) hs
  rw [e2,e1,e3]
  constructor
  ·rintro ⟨⟨x,y⟩,z⟩
   refine ⟨x,fun d hd => ?_⟩
   rcases List.mem_cons.1 hd with rfl | hd
   ·exact y
   ·exact z d hd
  ·rintro ⟨x,y⟩
   exact ⟨⟨x,y a List.mem_cons_self⟩,fun d hd => y d (List.mem_cons_of_mem _ hd)⟩
theorem sqN_val {H' : List (Nat × Nat × Nat × Nat)} (Y : Hy N H' L C Z q σ) {l : List Nat} {s : Nat} (h : sqN (sx Tryz.prog N H K L C Z pr) l=some s) : q s=0 ↔ ∀ d ∈ l,q d=0 := by
 unfold sqN at h
 split at h
 ·cases h
 ·rename_i a l
  rw [Option.bind_eq_some_iff] at h
  obtain ⟨b,h1,h2⟩ := h
  have e1 : q b=q a*q a := Hy.nd (H := H') (K := K) (pr := pr) Y h1
  have n := sq_nn (q a)
  obtain ⟨_,g⟩ := sqF_val Y h2 (by grind)
  rw [g,e1]
  constructor
  ·rintro ⟨x,y⟩ d hd
   rcases List.mem_cons.1 hd with rfl | hd
   ·rcases Rat.mul_eq_zero.1 x with x | x <;> exact x
   ·exact y d hd
  ·intro y
   refine ⟨?_,fun d hd => y d (List.mem_cons_of_mem _ hd)⟩
   rw [y a List.mem_cons_self,Rat.zero_mul]
theorem run_cases {f : FuncId} {args : List AV} {vs : List Value} {k : Nat} {p : List HB × Nat} {b : Bool} (Y : Hy N H L C Z q σ) (hm : (Tryz.prog).follows .mixedOrders=true) {w : World} (hP : ∀ H',Hy N H' L C Z q σ→PrimOk (sx Tryz.prog N H' K L C Z pr) (evS q σ) w) (hr : callC (sx Tryz.prog N H K L C Z pr) cs k [] f args [] 0=some (kB b,p))
  (hA : A2 (avOn (cOn (evS q σ) K (fun _ => none) w)) args vs) : Calls Tryz.prog f vs.toArray w fun e w' => Below w.heap.size w w'∧e=.returned (.bool b) := by
 refine (callC_ok (S := sx Tryz.prog N H K L C Z pr) (E := evS q σ) (w0 := w) (T := fun X => Hy N (X ++ H) L C Z q σ) (z := fun d => q d=0) hm (fun X hX => knows hX) (fun X hX => hP _ hX) ask_true ?_ k [] Y f args [] 0 (kB b,p) hr (fun _ => none) w vs ⟨Below.refl _ _,(fun _ _ h => by cases h)⟩ hA (fun x hx => by cases hx) (fun x hx => by cases hx) (fun _ _ _ => rfl)).mono ?_
 ·intro X hX l s r h1 h2
  have e := hX.k0 s r h2
  have g := sqN_val hX h1
  refine ⟨fun h => g.1 (e.1 h),fun h => ?_⟩
  have hn : ¬ ∀ d ∈ l,q d=0 := fun q' => by
   rw [e.2 (g.2 q')] at h
   cases h
  simpa using hn
 ·rintro _ w' ⟨r,γ',rfl,hef,hv,_⟩
  exact ⟨hef.wi.bel,by rw [show r=.bool b from (asC_on (v := kB b) (c := .inl (.bool b)) rfl hv).1]⟩
theorem run_toldC {f : FuncId} {args : List AV} {vs : List Value} {k : Nat} {p : List HB × Nat} {b : Bool} (Y : Hy N H L C Z q σ) (hc : ∀ f ∈ cl,Closed f) (hm : (Tryz.prog).follows .mixedOrders=true) (hr : callC (sx Tryz.prog N H K L C Z (prC cl)) cs k [] f args [] 0=some (kB b,p)) {w : World} (hp : PreS w)
  (hA : A2 (avOn (cOn (evS q σ) K (fun _ => none) w)) args vs) : Calls Tryz.prog f vs.toArray w fun e w' => Below w.heap.size w w'∧e=.returned (.bool b) := run_cases Y hm (fun _ Y' => primOk Y' hp hc) hr hA
theorem run_toldC' {f : FuncId} {args : List AV} {vs : List Value} (k : Nat) (Y : Hy N H L C Z q σ) (hc : ∀ f ∈ cl,Closed f) (hm : (Tryz.prog).follows .mixedOrders=true) (hr : (callC (sx Tryz.prog N H K L C Z (prC cl)) cs k [] f args [] 0).map (·.1)=some (kB true)) {w : World} (hp : PreS w)
  (hA : A2 (avOn (cOn (evS q σ) K (fun _ => none) w)) args vs) : Calls Tryz.prog f vs.toArray w fun e w' => Below w.heap.size w w'∧e=.returned (.bool true) := by
 rw [Option.map_eq_some_iff] at hr
 obtain ⟨⟨v,p⟩,h1,h2⟩ := hr
 dsimp only at h2
 subst h2
 exact run_toldC Y hc hm h1 hp hA
theorem sq_first {u x : Rat} (h : u=x*x) : 0≤u∧(u=0 ↔ x=0) := by
 rw [h]
 exact ⟨sq_nn x,fun e => (Rat.mul_eq_zero.1 e).elim id id,fun e => by rw [e,Rat.zero_mul]⟩
theorem sq_next {p : Prop} {s x v t : Rat} (h : 0≤s∧(s=0 ↔ p)) (hv : v=x*x) (ht : t=s+v) : 0≤t∧(t=0 ↔ (p∧x=0)) := by
 have n := sq_nn x
 refine ⟨by have := h.1; grind,?_⟩
 rw [ht,hv,sq_sum h.1,h.2]
end
end Go.Proofs.YtjfodeihndjpjaaGreatDoor
/- VPD -/
namespace Cx
open Go Go.RowKit
def a1sB : List A1→List A1→Bool
 | [],[] => true
 | (a,x) :: l,(b,y) :: m => (a == b && acsW x y) && a1sB l m
 | _,_ => false
theorem a1sB_eq : ∀ {l m : List A1},a1sB l m=true→l=m
 | [],[],_ => rfl
 | (a,x) :: l,(b,y) :: m,h => by
  unfold a1sB at h
  simp only [Bool.and_eq_true,beq_iff_eq] at h
  obtain ⟨⟨h1,h2⟩,h3⟩ := h
  rw [h1,acsW_eq h2,a1sB_eq h3]
 | [],_ :: _,h => by cases h
 | _ :: _,[],h => by cases h
def avsB : List AV→List AV→Bool
 | [],[] => true
 | (a,x) :: l,(b,y) :: m => (a == b && a1sB x y) && avsB l m
 | _,_ => false
theorem avsB_eq : ∀ {l m : List AV},avsB l m=true→l=m
 | [],[],_ => rfl
 | (a,x) :: l,(b,y) :: m,h => by
  unfold avsB at h
  simp only [Bool.and_eq_true,beq_iff_eq] at h
  obtain ⟨⟨h1,h2⟩,h3⟩ := h
  rw [h1,a1sB_eq h2,avsB_eq h3]
 | [],_ :: _,h => by cases h
 | _ :: _,[],h => by cases h
abbrev Memo := List (FuncId × List AV × AV)
def memoGet (f : FuncId) (args : List AV) : Memo→Option AV
 | [] => none
 | (g,bs,v) :: m => bif Nat.beq f g && avsB args bs then some v else memoGet f args m
theorem memoGet_mem {f : FuncId} {args : List AV} {v : AV} : ∀ {m : Memo},memoGet f args m=some v→(f,args,v) ∈ m
 | [],h => by cases h
 | (g,bs,u) :: m,h => by
  unfold memoGet at h
  cases e : (Nat.beq f g && avsB args bs) with
  | true =>
   rw [e] at h
   rw [Bool.and_eq_true,Nat.beq_eq] at e
   rw [e.1,avsB_eq e.2,show u=v from Option.some.inj h]
   exact List.mem_cons_self
  | false =>
   rw [e] at h
   exact List.mem_cons_of_mem _ (memoGet_mem h)
def bareC : AC→Bool
 | .inl _ => true
 | .inr (k,_) => Nat.ble k 2
def bareV (v : AV) : Bool := v.2.all fun x => x.2.all bareC
def callD (S : Sx) (cs : List (FuncId × Nat)) (M : Memo) : Nat→Hs→CallF
 | 0,_,_,_,_,_ => none
 | n+1,X,f,args,h,nx => match memoGet f args M with
  | some v => some (v,h,nx)
  | none => match prGet f cs with
   | none => bodyC (S.plus X) (callD S cs M n X) f args h nx
   | some c => match askIt S X h c args with
    | none => bodyC (S.plus X) (callD S cs M n X) f args h nx
    | some (l,r) => bif Nat.beq 1 r then bodyC (S.plus (allZ l X)) (callD S cs M n (allZ l X)) f args h nx
     else joinC h nx ((splits l X).map fun X' => bodyC (S.plus X') (callD S cs M n X') f args h nx)
def MemoOk (S : Sx) (E : Ev S.nb) (w0 : World) (M : Memo) : Prop := ∀ f args v,(f,args,v) ∈ M→∀ (γ : Nat→Option Nat) (w : World) (vs : List Value),WI w0 γ w→A2 (avOn (cOn E S.K γ w)) args vs →
 Calls S.P f vs.toArray w fun e w' => ∃ r,e=.returned r∧(∀ wr nx,(∀ b ∈ wr,Live γ b)→Ef S.nb w0 wr nx nx γ w γ w')∧avOn (cOn E S.K γ w') v r
section
variable {S : Sx} {E : Ev S.nb} {w0 : World}
theorem bareC_on {K K' : List (FuncId × List AC)} {γ γ' : Nat→Option Nat} {w : World} {d : Nat} {c : AC} {v : Value} (hc : bareC c=true) (h : cellOn E K γ w d c v) : cellOn E K' γ' w d c v := by
 cases c with
 | inl u =>
  unfold cellOn at h ⊢
  exact h
 | inr t =>
  obtain ⟨k,a,b,n,c⟩ := t
  have hk : k≤2 := by
   unfold bareC at hc
   rw [Nat.ble_eq] at hc
   exact hc
  match k,hk with
  | 0,_ =>
   unfold cellOn at h ⊢
   exact h
  | 1,_ =>
   unfold cellOn at h ⊢
   exact h
  | 2,_ =>
   unfold cellOn at h ⊢
   exact h
theorem A2_imp {α : Type} {R R' : α→Value→Prop} {P : α→Prop} (h : ∀ a v,P a→R a v→R' a v) : ∀ {l : List α} {vs : List Value},(∀ a ∈ l,P a)→A2 R l vs→A2 R' l vs
 | [],[],_,_ => trivial
 | _ :: _,_ :: _,hp,q => ⟨h _ _ (hp _ List.mem_cons_self) q.1,A2_imp h (fun a ha => hp a (List.mem_cons_of_mem _ ha)) q.2⟩
 | [],_ :: _,_,q => q.elim
 | _ :: _,[],_,q => q.elim
theorem bareV_on {K K' : List (FuncId × List AC)} {γ γ' : Nat→Option Nat} {w : World} {x : AV} {v : Value} (hx : bareV x=true) (h : avOn (cOn E K γ w) x v) : avOn (cOn E K' γ' w) x v := by
 unfold bareV at hx
 rw [List.all_eq_true] at hx
 have one : ∀ (y : A1) u,(∀ c ∈ y.2,bareC c=true)→a1On (cOn E K γ w) y u→a1On (cOn E K' γ' w) y u := fun y u hy q => by
  obtain ⟨b,cs⟩ := y
  cases b with
  | true =>
   obtain ⟨us,e,q⟩ := q
   exact ⟨us,e,A2_imp (P := fun c => bareC c=true) (fun _ _ hc q => bareC_on hc q) hy q⟩
  | false => exact A2_imp (P := fun c => bareC c=true) (fun _ _ hc q => bareC_on hc q) hy q
 have all : ∀ y ∈ x.2,∀ c ∈ y.2,bareC c=true := fun y hy c hc => (List.all_eq_true.1 (hx y hy)) c hc
 obtain ⟨b,ys⟩ := x
 cases b with
 | true =>
  obtain ⟨us,e,q⟩ := h
  exact ⟨us,e,A2_imp (P := fun y : A1 => ∀ c ∈ y.2,bareC c=true) (fun y u hy q => one y u hy q) all q⟩
 | false => exact A2_imp (P := fun y : A1 => ∀ c ∈ y.2,bareC c=true) (fun y u hy q => one y u hy q) all h
variable {T : Hs→Prop} {z : Nat→Prop}
theorem callD_ok {cs : List (FuncId × Nat)} {M : Memo} (hm : S.P.follows .mixedOrders=true) (hM : MemoOk S E w0 M) (hN : ∀ X,T X→Knows (S.plus X) E) (hP : ∀ X,T X→PrimOk (S.plus X) E w0) (hk : AskTrue S T z)
  (hs : ∀ X,T X→∀ l s r,sqN S l=some s→(S.plus X).kn 0 s 0=some r→(Nat.beq 1 r=true→∀ d ∈ l,z d)∧(Nat.beq 1 r=false→∃ d ∈ l,¬ z d)) : ∀ n X,T X→CallOk S E w0 (callD S cs M n X)
 | 0,_,_ => fun _ _ _ _ _ h => by cases h
 | n+1,X,hX => fun f args h nx p hp => by
  have body : ∀ Y,T Y→CallOk S E w0 (bodyC (S.plus Y) (callD S cs M n Y)) := fun Y hY => bodyC_ok (S := S.plus Y) hm (hN Y hY) (hP Y hY) (callD_ok hm hM hN hP hk hs n Y hY)
  unfold callD at hp
  split at hp
  ·rename_i v hv
   cases hp
   intro γ w vs hi hA hb hlt hf
   refine (hM f args v (memoGet_mem hv) γ w vs hi hA).mono ?_
   rintro _ w' ⟨r,rfl,hef,hr⟩
   have live : ∀ b ∈ h.map (·.1),Live γ b := fun b hb' => by
    obtain ⟨x,hx,rfl⟩ := List.mem_map.1 hb'
    obtain ⟨_,_,_,_,hl,_⟩ := hb x hx
    exact hl
   exact ⟨r,γ,rfl,hef _ _ live,hr,fun x hx => (hef [] nx no_live).box hi (hb x hx) (by simp)⟩
  ·split at hp
   ·exact body X hX f args h nx p hp
   ·split at hp
    ·exact body X hX f args h nx p hp
    rename_i l r hk'
    obtain ⟨hl,s,h1,h2⟩ := askIt_some hk'
    have h3 := hp
    obtain ⟨a1,a0⟩ := hs X hX _ s r h1 h2
    cases e : Nat.beq 1 r with
    | true =>
     rw [e] at h3
     exact body _ (allZ_true hk hX hl fun a ha => a1 e _ (List.mem_map_of_mem ha)) f args h nx p h3
    | false =>
     rw [e] at h3
     obtain ⟨d,hd,hz⟩ := a0 e
     obtain ⟨a,ha,rfl⟩ := List.mem_map.1 hd
     obtain ⟨X',m1,m2⟩ := splits_true hk hX hl ⟨a,ha,hz⟩
     replace h3 : joinC h nx ((splits l X).map fun X' => bodyC (S.plus X') (callD S cs M n X') f args h nx)=some p := h3
     unfold joinC at h3
     split at h3
     ·rename_i p0 rs hrs
      rw [Option.bind_eq_some_iff] at h3
      obtain ⟨b,hb,h4⟩ := h3
      rw [ifO_some,List.all_eq_true] at h4
      obtain ⟨h5,h6⟩ := h4
      cases h6
      obtain ⟨h',nx',q1,q2,q3⟩ := agree_some (h5 _ (List.mem_map_of_mem m1))
      intro γ w vs hi hA hb hlt hf
      refine (body X' m2 f args h nx _ q1 γ w vs hi hA hb hlt fun b g1 g2 => hf b g1 (Nat.lt_of_lt_of_le g2 q2)).mono ?_
      rintro _ w' ⟨r',γ',rfl,hef,hv,hx⟩
      exact ⟨r',γ',rfl,hef.wide (Nat.le_refl _) q2,hv,fun x hh => hx x (q3 x hh)⟩
     ·cases h3
theorem memo_run {K1 K2 : List (FuncId × List AC)} {H1 H2 : Hs} {M : Memo} {f : FuncId} {args : List AV} {v : AV} {p : List HB × Nat} {call : CallF} (hC : CallOk { S with H := H1,K := K1 } E w0 call) (hr : call f args [] 0=some (v,p)) (ha : args.all bareV=true) (hv : bareV v=true) (hM : MemoOk { S with H := H2,K := K2 } E w0 M) : MemoOk { S with H := H2,K := K2 } E w0 ((f,args,v) :: M) := fun g bs u hmem => by
 rcases List.mem_cons.1 hmem with e | hmem
 ·cases e
  intro γ w vs hi hA
  rw [List.all_eq_true] at ha
  refine (hC f args [] 0 (v,p) hr (fun _ => none) w vs ⟨hi.bel,(fun _ _ h => by cases h)⟩ (A2_imp (P := fun x => bareV x=true) (fun _ _ hx q => bareV_on hx q) ha hA) (fun x hx => by cases hx) (fun x hx => by cases hx) (fun _ _ _ => rfl)).mono ?_
  rintro _ w' ⟨r,γ',rfl,hef,hr,_⟩
  refine ⟨r,rfl,fun wr nx hl => ⟨leG.refl _,fun _ _ => rfl,fun _ _ h => Or.inl h,⟨hef.wi.bel,fun b G q => ⟨(hi.lo b G q).1,Nat.lt_of_lt_of_le (hi.lo b G q).2 hef.gr.size⟩⟩,hef.gr,fun G hG _ => hef.keep G hG (fun b hb => by cases hb),hl⟩,bareV_on hv hr⟩
 ·exact hM g bs u hmem
def memoOne (S : Sx) (cs : List (FuncId × Nat)) (k : Nat) : Memo→Bool
 | (f,args,v) :: M => (match callD S cs M k [] f args [] 0 with
  | some (u,_) => avsB [u] [v]
  | none => false) && (args.all bareV && bareV v)
 | [] => false
def memoChk (S : Sx) (cs : List (FuncId × Nat)) (k : Nat) : Nat→Memo→Bool
 | 0,_ => true
 | n+1,M => memoOne S cs k M && memoChk S cs k n M.tail
def qA (l : List Nat) : AV := (false,[(true,l.flatMap qCells)])
def rC (a : Nat) : AC := .inr (0,0,a,0,0)
def rA (l : List Nat) : AV := (false,[(true,l.map rC)])
def tA (l : List Nat) : AV := (false,[(true,l.map fun a => .inr (1,a,0,0,0))])
def pA (l : List Nat) : AV := (false,[(true,l.map fun a => .inr (2,a,0,0,0))])
theorem memo_nil : MemoOk S E w0 [] := fun _ _ _ h => by cases h
end
end Cx
/- VPE -/
namespace Go.Proofs.YtjfodeihndjpjaaGreatDoor
open Cx Go Go.RowKit
section
variable {N : List Nd} {H : List (Nat × Nat × Nat × Nat)} {K : List (FuncId × List AC)} {L C : List (List Nat × Nat)} {Z : List Nat} {q : Nat→Rat} {σ : Nat→ByteArray} {cl : List FuncId} {cs pr : List (FuncId × Nat)} {M : Memo} {w : World}
theorem callD_told (Y : Hy N H L C Z q σ) (hc : ∀ f ∈ cl,Closed f) (hm : (Tryz.prog).follows .mixedOrders=true) (hp : PreS w) (hM : MemoOk (sx Tryz.prog N H K L C Z (prC cl)) (evS q σ) w M) (k : Nat) : CallOk (sx Tryz.prog N H K L C Z (prC cl)) (evS q σ) w (callD (sx Tryz.prog N H K L C Z (prC cl)) cs M k []) :=
 callD_ok (S := sx Tryz.prog N H K L C Z (prC cl)) (E := evS q σ) (w0 := w) (T := fun X => Hy N (X ++ H) L C Z q σ) (z := fun d => q d=0) hm hM (fun X hX => knows hX) (fun X hX => primOk hX hp hc) ask_true (fun X hX l s r h1 h2 => by
  have e := hX.k0 s r h2
  have g := sqN_val hX h1
  refine ⟨fun h => g.1 (e.1 h),fun h => ?_⟩
  have hn : ¬ ∀ d ∈ l,q d=0 := fun q' => by
   rw [e.2 (g.2 q')] at h
   cases h
  simpa using hn) k [] Y
def MemoAll (N : List Nd) (L C : List (List Nat × Nat)) (Z : List Nat) (q : Nat→Rat) (σ : Nat→ByteArray) (cl : List FuncId) (w : World) (M : Memo) : Prop := ∀ H K,MemoOk (sx Tryz.prog N H K L C Z (prC cl)) (evS q σ) w M
theorem memoAll_nil : MemoAll N L C Z q σ cl w [] := fun _ _ => memo_nil
theorem memoAll_cons {H1 : List (Nat × Nat × Nat × Nat)} (Y : Hy N H1 L C Z q σ) (hc : ∀ f ∈ cl,Closed f) (hm : (Tryz.prog).follows .mixedOrders=true) (hp : PreS w) {f : FuncId} {args : List AV} {v : AV} (k : Nat) (hr : memoOne (sx Tryz.prog N H1 [] L C Z (prC cl)) cs k ((f,args,v) :: M)=true) (hM : MemoAll N L C Z q σ cl w M) : MemoAll N L C Z q σ cl w ((f,args,v) :: M) := fun H K => by
 unfold memoOne at hr
 simp only [Bool.and_eq_true] at hr
 obtain ⟨h1,h2,h3⟩ := hr
 split at h1
 ·rename_i u p hu
  have e := avsB_eq h1
  cases e
  exact memo_run (S := sx Tryz.prog N H K L C Z (prC cl)) (K1 := []) (H1 := H1) (K2 := K) (H2 := H) (callD_told (K := []) (cs := cs) Y hc hm hp (hM H1 []) k) hu h2 h3 (hM H K)
 ·cases h1
theorem memoAll_drop {i : Nat} {H1 : List (Nat × Nat × Nat × Nat)} (Y : Hy N H1 L C Z q σ) (hc : ∀ f ∈ cl,Closed f) (hm : (Tryz.prog).follows .mixedOrders=true) (hp : PreS w) {k : Nat} (hr : memoOne (sx Tryz.prog N H1 [] L C Z (prC cl)) cs k (M.drop i)=true) (hM : MemoAll N L C Z q σ cl w (M.drop (i+1))) : MemoAll N L C Z q σ cl w (M.drop i) := by
 rw [← List.tail_drop] at hM
 generalize M.drop i=D at *
 match D with
 | [] => cases hr
 | (f,args,v) :: D => exact memoAll_cons Y hc hm hp k hr hM
theorem memoAll_chk {H1 : List (Nat × Nat × Nat × Nat)} (Y : Hy N H1 L C Z q σ) (hc : ∀ f ∈ cl,Closed f) (hm : (Tryz.prog).follows .mixedOrders=true) (hp : PreS w) {k : Nat} : ∀ (n : Nat) {M : Memo},memoChk (sx Tryz.prog N H1 [] L C Z (prC cl)) cs k n M=true→MemoAll N L C Z q σ cl w (M.drop n)→MemoAll N L C Z q σ cl w M
 | 0,_,_,h => h
 | n+1,M,hr,h => by
  unfold memoChk at hr
  rw [Bool.and_eq_true] at hr
  have h1 := memoAll_chk Y hc hm hp n hr.2 (by rw [List.drop_tail]; exact h)
  exact memoAll_drop (i := 0) Y hc hm hp hr.1 (by rw [Nat.zero_add,List.drop_one]; exact h1)
theorem run_toldD' {f : FuncId} {args : List AV} {vs : List Value} (k : Nat) (Y : Hy N H L C Z q σ) (hc : ∀ f ∈ cl,Closed f) (hm : (Tryz.prog).follows .mixedOrders=true) (hp : PreS w) (hM : MemoAll N L C Z q σ cl w M) (hr : (callD (sx Tryz.prog N H K L C Z (prC cl)) cs M k [] f args [] 0).map (·.1)=some (kB true))
  (hA : A2 (avOn (cOn (evS q σ) K (fun _ => none) w)) args vs) : Calls Tryz.prog f vs.toArray w fun e w' => Below w.heap.size w w'∧e=.returned (.bool true) := by
 rw [Option.map_eq_some_iff] at hr
 obtain ⟨⟨v,p⟩,h1,h2⟩ := hr
 dsimp only at h2
 subst h2
 refine (callD_told (cs := cs) Y hc hm hp (hM H K) k f args [] 0 (kB true,p) h1 (fun _ => none) w vs ⟨Below.refl _ _,(fun _ _ h => by cases h)⟩ hA (fun x hx => by cases hx) (fun x hx => by cases hx) (fun _ _ _ => rfl)).mono ?_
 rintro _ w' ⟨r,γ',rfl,hef,hv,_⟩
 exact ⟨hef.wi.bel,by rw [show r=.bool true from (asC_on (v := kB true) (c := .inl (.bool true)) rfl hv).1]⟩
end
end Go.Proofs.YtjfodeihndjpjaaGreatDoor
/- VY -/
namespace Go.Proofs.YtjfodeihndjpjaaGreatDoor
open Go.RowKit Cx
theorem den_num (t : Rat) : t*(t.den : Rat)=((t.num : Int) : Rat) := by
 conv => lhs; lhs; rw [← Rat.mkRat_self t]
 have h0 : (t.den : Rat) ≠ 0 := fun h => t.den_nz (by exact_mod_cast h)
 rw [Rat.mkRat_eq_div,Rat.div_mul_cancel h0]
theorem whole {q : Rat} (h : q.den=1) : q=((q.num : Int) : Rat) := by
 have := den_num q
 rw [h] at this
 rw [← this]
 show q=q*((1 : Nat) : Rat)
 exact (Rat.mul_one q).symm
end Go.Proofs.YtjfodeihndjpjaaGreatDoor
/- VSZ -/
namespace Go.Proofs.YtjfodeihndjpjaaGreatDoor
open Go.RowKit Cx
def szW (Z : List Nat) (I : List Bool) (z : Nat) (b : Bool) (nd : Nd) : Bool := match nd.1,nd.2 with
 | 0,[_,n,d] => (Nat.blt n (2 ^ z) && (Nat.blt 0 d && Nat.blt d (2 ^ z))) && (!b || Nat.beq d 1)
 | 1,[_] => Nat.ble 3495259 z && !b
 | 2,[a,c] => (match Z[a]?,Z[c]?,I[a]?,I[c]? with
  | some x,some y,some true,some true => Nat.ble (Nat.max x y+1) z
  | some x,some y,_,_ => Nat.ble (x+y+1) z && !b
  | _,_,_,_ => false)
 | 3,[a,c] => (match Z[a]?,Z[c]?,I[a]?,I[c]? with
  | some x,some y,some true,some true => Nat.ble (Nat.max x y+1) z
  | some x,some y,_,_ => Nat.ble (x+y+1) z && !b
  | _,_,_,_ => false)
 | 4,[a,c] => (match Z[a]?,Z[c]?,I[a]?,I[c]? with
  | some x,some y,some true,some true => Nat.ble (x+y) z
  | some x,some y,_,_ => Nat.ble (x+y) z && !b
  | _,_,_,_ => false)
 | 5,[a] => (match Z[a]?,I[a]? with
  | some x,some true => Nat.ble x z
  | some x,_ => Nat.ble x z && !b
  | _,_ => false)
 | 6,[a,c] => (match Z[a]?,Z[c]? with
  | some x,some y => Nat.ble (x+y) z && !b
  | _,_ => false)
 | 8,i :: xs => (match getsO Z xs with
  | some zs => Nat.blt i xs.length && (Nat.ble ((xs.length+1)*maxL zs+1) z || (xs.all (fun a => match I[a]? with
   | some true => true
   | _ => false) && (match xs[i]? with
   | some a => (match Z[a]? with
    | some x => Nat.ble (x+1) z
    | none => false)
   | none => false)))
  | none => false)
 | _,_ => false
def szC (Z : List Nat) (I : List Bool) : List Nd→List Nat→List Bool→Bool
 | [],[],[] => true
 | nd :: ns,z :: zs,b :: bs => (szW Z I z b nd && Nat.ble z 1000000000000) && szC Z I ns zs bs
 | _,_,_ => false
theorem szC_get {Z : List Nat} {I : List Bool} : ∀ {ns : List Nd} {zs : List Nat} {bs : List Bool} {i z : Nat},szC Z I ns zs bs=true→zs[i]? = some z→∃ nd b,ns[i]? = some nd∧bs[i]? = some b∧szW Z I z b nd=true∧z≤1000000000000
 | [],[],[],_,_,_,h => by simp at h
 | [],[],_ :: _,_,_,h,_ => by cases h
 | [],_ :: _,_,_,_,h,_ => by cases h
 | _ :: _,[],_,_,_,h,_ => by cases h
 | _ :: _,_ :: _,[],_,_,h,_ => by cases h
 | nd :: ns,z' :: zs,b :: bs,0,z,h,e => by
  have : z'=z := by simpa using e
  subst this
  unfold szC at h
  simp only [Bool.and_eq_true,Nat.ble_eq] at h
  exact ⟨nd,b,rfl,rfl,h.1.1,h.1.2⟩
 | nd :: ns,z' :: zs,b :: bs,i+1,z,h,e => by
  unfold szC at h
  rw [Bool.and_eq_true] at h
  obtain ⟨nd2,b2,g1,g2,g3⟩ := szC_get (ns := ns) (zs := zs) (bs := bs) h.2 (show zs[i]? = some z by simpa using e)
  exact ⟨nd2,b2,by simpa using g1,by simpa using g2,g3⟩
theorem szC_len {Z : List Nat} {I : List Bool} : ∀ {ns : List Nd} {zs : List Nat} {bs : List Bool},szC Z I ns zs bs=true→ns.length=zs.length
 | [],[],[],_ => rfl
 | [],[],_ :: _,h => by cases h
 | [],_ :: _,_,h => by cases h
 | _ :: _,[],_,h => by cases h
 | _ :: _,_ :: _,[],h => by cases h
 | _ :: _,_ :: _,_ :: _,h => by
  unfold szC at h
  rw [Bool.and_eq_true] at h
  exact congrArg (· + 1) (szC_len h.2)
structure QW (z : Nat) (x : Rat) : Prop where
 qs : QS z x
 wh : x.den=1
theorem QW.of {z : Nat} {n : Int} (h : n.natAbs < 2 ^ z) (hz : 0 < z) : QW z ((n : Int) : Rat) :=
 ⟨⟨by simpa using h,by
  show ((n : Int) : Rat).den < 2 ^ z
  rw [Rat.den_intCast]
  exact Nat.one_lt_two_pow (by omega)⟩,Rat.den_intCast n⟩
theorem QW.mono {k l : Nat} {x : Rat} (h : QW k x) (hk : k≤l) : QW l x := ⟨h.qs.mono hk,h.wh⟩
theorem two_max {a b x y : Nat} (h1 : a < 2 ^ x) (h2 : b < 2 ^ y) : a+b < 2 ^ (Nat.max x y+1) := by
 have e1 : 2 ^ x≤2 ^ Nat.max x y := Nat.pow_le_pow_right (by decide) (Nat.le_max_left x y)
 have e2 : 2 ^ y≤2 ^ Nat.max x y := Nat.pow_le_pow_right (by decide) (Nat.le_max_right x y)
 rw [Nat.pow_succ]
 omega
theorem QW.add {x y : Nat} {a b : Rat} (h1 : QW x a) (h2 : QW y b) : QW (Nat.max x y+1) (a+b) := by
 rw [whole h1.wh,whole h2.wh,← Rat.intCast_add]
 refine QW.of ?_ (by omega)
 have := two_max h1.qs.num h2.qs.num
 omega
theorem QW.sub {x y : Nat} {a b : Rat} (h1 : QW x a) (h2 : QW y b) : QW (Nat.max x y+1) (a - b) := by
 rw [whole h1.wh,whole h2.wh,← Rat.intCast_sub]
 refine QW.of ?_ (by omega)
 have := two_max h1.qs.num h2.qs.num
 omega
theorem QW.mul {x y : Nat} {a b : Rat} (h1 : QW x a) (h2 : QW y b) : QW (x+y) (a*b) := by
 refine ⟨h1.qs.mul h2.qs,?_⟩
 rw [whole h1.wh,whole h2.wh,← Rat.intCast_mul]
 exact Rat.den_intCast _
theorem QW.neg {x : Nat} {a : Rat} (h1 : QW x a) : QW x (-a) := ⟨h1.qs.neg,h1.wh⟩
theorem lD_one : ∀ {qs : List Rat} {m : Nat},(∀ q ∈ qs,q.den=1)→qs.foldl (fun m q => m*(q.den / Nat.gcd m q.den)) m=m
 | [],_,_ => rfl
 | q :: qs,m,h => by
  rw [List.foldl_cons,h q List.mem_cons_self,Nat.gcd_one_right,Nat.div_self (by decide),Nat.mul_one]
  exact lD_one fun p hp => h p (List.mem_cons_of_mem _ hp)
theorem QW.fac {z : Nat} {qs : List Rat} {x : Rat} (hx : QS z x) (h : x ∈ qs) (hw : ∀ y ∈ qs,y.den=1) : QS (z+1) (x*fac qs) := by
 have hl : lD qs=1 := lD_one hw
 refine ⟨?_,?_⟩
 ·rw [fac_abs h,hl,hw x h,Nat.div_self (by decide),Nat.mul_one]
  exact Nat.lt_of_le_of_lt (Nat.div_le_self _ _) (Nat.lt_of_lt_of_le hx.num (Nat.pow_le_pow_right (by decide) (by omega)))
 ·rw [fac_den h]
  exact Nat.one_lt_two_pow (by omega)
theorem ten_three : ∀ n : Nat,10 ^ n≤2 ^ ((10*n+2) / 3)
 | 0 => by decide
 | 1 => by decide
 | 2 => by decide
 | n+3 => by
  have h := ten_three n
  have e : (10*(n+3)+2) / 3=(10*n+2) / 3+10 := by omega
  rw [e,Nat.pow_add,Nat.pow_add]
  exact Nat.mul_le_mul h (by decide)
theorem QS.rd3 (l : List UInt8) : QS ((10*l.length+2) / 3+5) (Cx.rd l) := by
 have key : ∀ {m : List UInt8},digs m=true→dv m < 2 ^ ((10*m.length+2) / 3) := fun {m} h => Nat.lt_of_lt_of_le (dv_lt (digs_all h)) (ten_three _)
 unfold Cx.rd
 split
 ·rename_i h
  rw [Bool.and_eq_true] at h
  have h1 := key h.1
  have h2 := key h.2
  have h3 := up_len (tailOf l)
  have h4 := low_len (tailOf l)
  have h5 := tail_len l
  apply QS.mkr
  ·rw [sg_abs]; exact Nat.lt_of_lt_of_le h1 (Nat.pow_le_pow_right (by decide) (by omega))
  ·exact Nat.lt_of_lt_of_le h2 (Nat.pow_le_pow_right (by decide) (by omega))
 ·exact QS.zero.mono (by omega)
section
variable {N : List Nd} {Z : List Nat} {I : List Bool} {q : Nat→Rat}
theorem sizes_okW {σ : Nat→ByteArray} (hσ : ∀ j,(σ j).size≤1048576) (hw : wfB 0 N=true) (hz : szC Z I N Z I=true) (hq : ∀ (a : Nat) nd,N[a]? = some nd→q a=valN σ q nd) (h0 : ∀ a,N.length≤a→q a=0) : (∀ (a : Nat) z,Z[a]? = some z→QS z (q a))∧∀ a,QS 1000000000000 (q a) := by
 have h2 : ∀ (a : Nat) z,Z[a]? = some z→QS z (q a)∧(I[a]? = some true→(q a).den=1) := by
  intro a
  induction a using Nat.strongRecOn with
  | ind a ih =>
   intro z hz'
   obtain ⟨nd,b,hn,hb,hs,_⟩ := szC_get hz hz'
   have hwf := wfB_get hw hn
   rw [Nat.zero_add] at hwf
   rw [hq a nd hn,hb]
   obtain ⟨op,xs⟩ := nd
   unfold szW at hs
   unfold valN
   unfold wfN at hwf
   dsimp only at hs hwf ⊢
   have W : ∀ {c x},c < a→Z[c]? = some x→I[c]? = some true→QW x (q c) := fun hc hx hi => ⟨(ih _ hc _ hx).1,(ih _ hc _ hx).2 hi⟩
   have no : ∀ {v : Rat},b=false→(some b=some true→v.den=1) := fun e h => by rw [e] at h; cases h
   split at hs
   ·rename_i s n d
    simp only [Bool.and_eq_true] at hs
    obtain ⟨⟨h1,h2,h3⟩,h4⟩ := hs
    refine ⟨QS.const (by simpa [Nat.blt_eq] using h1) (by simpa [Nat.blt_eq] using h2) (by simpa [Nat.blt_eq] using h3),fun e => ?_⟩
    rw [show b=true from Option.some.inj e] at h4
    have hd : d=1 := by simpa using h4
    subst hd
    show (if s=0 then mkRat (n : Int) 1 else mkRat (-(n : Int)) 1).den=1
    split
    ·rw [Rat.mkRat_one]
     exact Rat.den_intCast _
    ·rw [Rat.mkRat_one]
     exact Rat.den_intCast _
   ·rename_i j
    simp only [Bool.and_eq_true,Nat.ble_eq,Bool.not_eq_true'] at hs
    exact ⟨QS.mono (QS.rd3 _) (by have := hσ j; rw [str_len]; omega),no hs.2⟩
   ·simp only [List.all_cons,List.all_nil,Bool.and_true,Bool.and_eq_true] at hwf
    have l1 := (by simpa [Nat.blt_eq] using hwf.1 : _ < a)
    have l2 := (by simpa [Nat.blt_eq] using hwf.2 : _ < a)
    split at hs
    ·rename_i x y hx hy i1 i2
     rw [Nat.ble_eq] at hs
     have := ((W l1 hx i1).add (W l2 hy i2)).mono hs
     exact ⟨this.qs,fun _ => this.wh⟩
    ·rename_i x y hx hy _
     simp only [Bool.and_eq_true,Nat.ble_eq,Bool.not_eq_true'] at hs
     exact ⟨((ih _ l1 x hx).1.add (ih _ l2 y hy).1).mono hs.1,no hs.2⟩
    ·cases hs
   ·simp only [List.all_cons,List.all_nil,Bool.and_true,Bool.and_eq_true] at hwf
    have l1 := (by simpa [Nat.blt_eq] using hwf.1 : _ < a)
    have l2 := (by simpa [Nat.blt_eq] using hwf.2 : _ < a)
    split at hs
    ·rename_i x y hx hy i1 i2
     rw [Nat.ble_eq] at hs
     have := ((W l1 hx i1).sub (W l2 hy i2)).mono hs
     exact ⟨this.qs,fun _ => this.wh⟩
    ·rename_i x y hx hy _
     simp only [Bool.and_eq_true,Nat.ble_eq,Bool.not_eq_true'] at hs
     exact ⟨((ih _ l1 x hx).1.sub (ih _ l2 y hy).1).mono hs.1,no hs.2⟩
    ·cases hs
   ·simp only [List.all_cons,List.all_nil,Bool.and_true,Bool.and_eq_true] at hwf
    have l1 := (by simpa [Nat.blt_eq] using hwf.1 : _ < a)
    have l2 := (by simpa [Nat.blt_eq] using hwf.2 : _ < a)
    split at hs
    ·rename_i x y hx hy i1 i2
     rw [Nat.ble_eq] at hs
     have := ((W l1 hx i1).mul (W l2 hy i2)).mono hs
     exact ⟨this.qs,fun _ => this.wh⟩
    ·rename_i x y hx hy _
     simp only [Bool.and_eq_true,Nat.ble_eq,Bool.not_eq_true'] at hs
     exact ⟨((ih _ l1 x hx).1.mul (ih _ l2 y hy).1).mono hs.1,no hs.2⟩
    ·cases hs
   ·simp only [List.all_cons,List.all_nil,Bool.and_true] at hwf
    have l1 := (by simpa [Nat.blt_eq] using hwf : _ < a)
    split at hs
    ·rename_i x hx i1
     rw [Nat.ble_eq] at hs
     have := (W l1 hx i1).neg.mono hs
     exact ⟨this.qs,fun _ => this.wh⟩
    ·rename_i x hx _
     simp only [Bool.and_eq_true,Nat.ble_eq,Bool.not_eq_true'] at hs
     exact ⟨((ih _ l1 x hx).1.neg).mono hs.1,no hs.2⟩
    ·cases hs
   ·simp only [List.all_cons,List.all_nil,Bool.and_true,Bool.and_eq_true] at hwf
    split at hs
    ·rename_i x y hx hy
     simp only [Bool.and_eq_true,Nat.ble_eq,Bool.not_eq_true'] at hs
     exact ⟨((ih _ (by simpa [Nat.blt_eq] using hwf.1) x hx).1.div (ih _ (by simpa [Nat.blt_eq] using hwf.2) y hy).1).mono hs.1,no hs.2⟩
    ·cases hs
   ·rename_i i ys
    split at hs
    ·rename_i zs hzs
     rw [Bool.and_eq_true] at hs
     have hi : i < ys.length := by simpa [Nat.blt_eq] using hs.1
     have hwf' : ys.all (Nat.blt · a)=true := hwf
     rw [List.all_eq_true] at hwf'
     have hlt : ∀ c ∈ ys,c < a := fun c hc => by simpa [Nat.blt_eq] using hwf' c hc
     have hm : q ys[i] ∈ ys.map q := List.mem_map_of_mem (List.getElem_mem hi)
     have hg : (ys.map q).getD i 0=q ys[i] := by
      rw [List.getD_eq_getElem?_getD,List.getElem?_map,List.getElem?_eq_getElem hi]
      rfl
     show QS z ((ys.map q).getD i 0*fac (ys.map q))∧(some b=some true→((ys.map q).getD i 0*fac (ys.map q)).den=1)
     rw [hg]
     refine ⟨?_,fun _ => fac_den hm⟩
     rcases Bool.or_eq_true _ _ ▸ hs.2 with h3 | h3
     ·rw [Nat.ble_eq] at h3
      have hall : ∀ y ∈ ys.map q,QS (maxL zs) y := fun y hy => by
       obtain ⟨c,hc,rfl⟩ := List.mem_map.1 hy
       obtain ⟨z',hm',hz2⟩ := getsO_get hzs c hc
       exact (ih c (hlt c hc) z' hz2).1.mono (le_maxL z' hm')
      have := QS.facN hall (x := q ys[i]) hm
      rw [List.length_map] at this
      exact this.mono h3
     ·rw [Bool.and_eq_true,List.all_eq_true] at h3
      obtain ⟨h4,h5⟩ := h3
      have hwh : ∀ y ∈ ys.map q,y.den=1 := fun y hy => by
       obtain ⟨c,hc,rfl⟩ := List.mem_map.1 hy
       obtain ⟨z',_,hz2⟩ := getsO_get hzs c hc
       refine (ih c (hlt c hc) z' hz2).2 ?_
       have := h4 c hc
       split at this
       ·assumption
       ·cases this
      rw [List.getElem?_eq_getElem hi] at h5
      dsimp only at h5
      split at h5
      ·rename_i x hx
       rw [Nat.ble_eq] at h5
       exact (QW.fac (ih _ (hlt _ (List.getElem_mem hi)) x hx).1 hm hwh).mono h5
      ·cases h5
    ·cases hs
   ·cases hs
 refine ⟨fun a z h => (h2 a z h).1,fun a => ?_⟩
 have hl := szC_len hz
 by_cases ha : a < Z.length
 ·obtain ⟨nd,b,_,_,_,hle⟩ := szC_get hz (List.getElem?_eq_getElem ha)
  exact (h2 a _ (List.getElem?_eq_getElem ha)).1.mono hle
 ·rw [h0 a (by omega)]
  exact QS.zero.mono (by decide)
theorem hy_ofW {L C : List (List Nat × Nat)} {σ : Nat→ByteArray} {H : List (Nat × Nat × Nat × Nat)} (hσ : ∀ j,(σ j).size≤1048576) (hw : wfB 0 N=true) (hz : szC Z I N Z I=true) (hl : litB N L=true) (hcn : canB N C=true) (hq : ∀ (a : Nat) nd,N[a]? = some nd→q a=valN σ q nd) (h0 : ∀ a,N.length≤a→q a=0) (hH : hAll q H) : Hy N H L C Z q σ where
 nat := hq
 qs := (sizes_okW hσ hw hz hq h0).2
 zs := (sizes_okW hσ hw hz hq h0).1
 par := hσ
 lit := fun s b h => lit_rd hl hq h
 k0 := fun a r h => kn_at hH h
 k1 := fun a r h => kn_at hH h
 k2 := fun a r h => kn_at hH h
 k3 := fun a b r h => kn_at hH h
 k4 := fun l a b r h1 h2 => by
  have h3 : Nat.beq 1 r=true ↔ q a=q b := kn_at hH h2
  rw [h3,← can_tx hcn hq h1]
  exact ⟨fun e => by rw [e],fun e => tellS_inj (bytesN_inj e)⟩
 k6 := fun a b r h => kn_at hH h
 k5 := fun a r h => kn_at hH h
end
end Go.Proofs.YtjfodeihndjpjaaGreatDoor
/- CFturned -/
namespace Go.Proofs.YtjfodeihndjpjaaGreatDoor
open Go.RowKit Cx
theorem closed_turned : Closed 8 :=
 closed_told (N := [(0,[0,0,1]),(0,[0,1,1]),(0,[0,2,1]),(3,[2,0]),(3,[0,0]),(4,[3,3]),(4,[4,4]),(2,[5,6]),(6,[1,7]),(4,[3,8]),(4,[4,8]),(2,[0,9]),(2,[0,10]),(0,[1,2,1]),(4,[1,1]),(4,[0,0]),(2,[14,15]),(0,[0,4,1]),(4,[17,0]),(4,[18,13]),(3,[16,19]),(5,[0]),(2,[6,6]),(3,[22,1]),(5,[23]),(5,[21]),(5,[24]),(5,[1]),(4,[21,0]),(4,[25,0]),(4,[28,2]),(4,[29,2]),(4,[27,1]),(4,[21,25]),(2,[32,33]),(4,[27,21]),(4,[25,1]),(3,[35,36]),(2,[0,30]),(2,[0,31]),(2,[38,34]),(2,[39,37]),(5,[25]),(5,[42]),(4,[40,21]),(4,[41,43]),(2,[44,45]),(5,[41]),(4,[40,42]),(4,[47,21]),(3,[48,49]),(4,[21,1]),(4,[25,42]),(2,[51,52]),(4,[42,1]),(3,[33,54]),(4,[27,13]),(4,[21,13]),(4,[56,2]),(4,[57,2]),(2,[0,53]),(2,[0,55]),(2,[60,58]),(2,[61,59]),(4,[62,27]),(4,[63,42]),(2,[64,65]),(5,[63]),(4,[62,25]),(4,[67,27]),(3,[68,69]),(2,[46,66]),(2,[50,70]),(4,[26,0]),(4,[73,2]),(4,[0,1]),(4,[0,25]),(2,[75,76]),(4,[0,21]),(3,[78,51]),(2,[0,74]),(2,[80,77]),(2,[38,79]),(4,[81,21]),(4,[82,43]),(2,[83,84]),(5,[82]),(4,[81,42]),(4,[86,21]),(3,[87,88]),(4,[26,1]),(4,[21,42]),(2,[90,91]),(4,[26,25]),(3,[93,36]),(4,[0,13]),(4,[95,2]),(2,[0,92]),(2,[0,94]),(2,[97,96]),(2,[98,96]),(4,[99,27]),(4,[100,42]),(2,[101,102]),(5,[100]),(4,[99,25]),(4,[104,27]),(3,[105,106]),(2,[85,103]),(2,[89,107]),(4,[108,2]),(4,[109,2]),(4,[81,26]),(4,[82,42]),(2,[112,113]),(4,[81,25]),(4,[86,26]),(3,[115,116]),(4,[99,0]),(4,[100,25]),(2,[118,119]),(4,[99,21]),(4,[104,0]),(3,[121,122]),(2,[114,120]),(2,[117,123]),(8,[0,71,110,111,124]),(8,[1,71,110,111,124]),(8,[2,71,110,111,124]),(8,[3,71,110,111,124]),(3,[1,0]),(3,[0,1]),(4,[130,0]),(4,[131,21]),(2,[132,133]),(5,[131]),(4,[135,0]),(3,[132,136]),(5,[134]),(5,[137]),(4,[4,27]),(2,[132,140]),(5,[4]),(4,[130,1]),(4,[142,0]),(3,[143,144]),(5,[141]),(5,[145]),(5,[138]),(5,[139]),(5,[130]),(4,[146,130]),(4,[147,135]),(2,[151,152]),(5,[147]),(4,[146,131]),(4,[154,130]),(3,[155,156]),(4,[148,130]),(4,[149,142]),(2,[158,159]),(5,[149]),(4,[148,4]),(4,[161,130]),(3,[162,163]),(2,[153,160]),(2,[157,164]),(4,[146,138]),(4,[147,149]),(2,[167,168]),(4,[146,139]),(4,[154,138]),(3,[170,171]),(4,[148,146]),(4,[149,154]),(2,[173,174]),(4,[148,147]),(4,[161,146]),(3,[176,177]),(2,[169,175]),(2,[172,178]),(4,[150,130]),(4,[142,135]),(2,[181,182]),(5,[142]),(4,[150,131]),(4,[184,130]),(3,[185,186]),(4,[130,130]),(4,[131,142]),(2,[188,189]),(4,[130,4]),(4,[135,130]),(3,[191,192]),(2,[183,190]),(2,[187,193]),(4,[150,138]),(4,[142,149]),(2,[196,197]),(4,[150,139]),(4,[184,138]),(3,[199,200]),(4,[130,146]),(4,[131,154]),(2,[202,203]),(4,[130,147]),(4,[135,146]),(3,[205,206]),(2,[198,204]),(2,[201,207]),(5,[166]),(5,[210]),(4,[165,165]),(4,[166,211]),(2,[212,213]),(4,[165,210]),(4,[210,165]),(3,[215,216]),(4,[166,166]),(2,[212,218]),(6,[214,219]),(6,[217,219]),(4,[179,165]),(4,[180,211]),(2,[222,223]),(5,[180]),(4,[179,210]),(4,[225,165]),(3,[226,227]),(6,[224,219]),(6,[228,219]),(4,[194,165]),(4,[195,211]),(2,[231,232]),(5,[195]),(4,[194,210]),(4,[234,165]),(3,[235,236]),(6,[233,219]),(6,[237,219]),(4,[208,165]),(4,[209,211]),(2,[240,241]),(5,[209]),(4,[208,210]),(4,[243,165]),(3,[244,245]),(6,[242,219]),(6,[246,219]),(0,[0,1,2]),(0,[1,1,1])]) (H := [(2,1,0,1),(0,3,0,0),(2,20,0,1),(0,130,0,0),(0,4,0,1),(0,131,0,0),(0,165,0,0),(4,11,249,1),(4,12,0,1),(4,126,2,1),(4,127,250,1),(4,128,0,1),(4,129,0,1),(4,220,1,1),(4,221,0,1),(4,229,0,1),(4,230,0,1),(4,238,0,1),(4,239,0,1),(4,247,1,1),(4,248,0,1)]) (K := [(120,[.inr (3,76,0,0,0),.inr (3,86,0,0,0)]),(195,[.inr (3,560,0,0,0),.inr (3,561,0,0,0)]),(196,[.inr (3,691,0,0,0),.inr (3,693,0,0,0)])]) (L := [([48],0),([49],1),([50],2),([45,50],13),([49,47,50],249),([45,49],250)]) (C := [([49,47,50],249),([48],0),([50],2),([45,49],250),([49],1)]) (Z := [2,2,3,6,5,12,10,23,25,31,30,34,33,3,4,4,9,4,6,9,19,2,21,24,24,2,24,2,4,4,7,7,4,4,9,4,4,9,10,10,20,20,2,2,22,22,45,20,22,22,45,4,4,9,4,9,5,5,8,8,12,12,21,21,23,23,47,21,23,23,47,93,93,26,29,4,4,9,4,9,32,42,20,44,22,67,20,44,22,67,26,4,31,26,31,5,8,34,34,43,43,45,45,91,43,45,45,91,159,159,162,162,66,22,89,44,44,89,45,45,91,45,45,91,181,181,906,906,906,906,5,5,7,7,15,5,7,15,15,15,7,15,5,7,7,15,15,15,15,15,5,20,20,41,15,20,20,41,20,20,41,15,20,20,41,83,83,30,30,61,30,30,61,30,30,61,30,30,61,123,123,10,10,21,5,10,10,21,10,10,21,10,10,21,43,43,20,20,41,20,20,41,20,20,41,20,20,41,83,83,83,83,166,166,333,166,166,333,166,333,666,666,206,206,413,123,206,206,413,746,746,126,126,253,43,126,126,253,586,586,166,166,333,83,166,166,333,666,666,3,2]) (cl := []) 8 (fun _ h => by cases h) (by kernel_rfl) (by kernel_rfl) (by kernel_rfl) (by kernel_rfl) (by kernel_rfl) (by kernel_rfl) (by kernel_rfl)
end Go.Proofs.YtjfodeihndjpjaaGreatDoor
/- MTR -/
namespace Go.Proofs.YtjfodeihndjpjaaGreatDoor
open Go.RowKit Cx
def tR_N : List Nd := [(1,[0]),(1,[1]),(1,[2]),(1,[3]),(1,[4]),(1,[5]),(1,[6]),(4,[4,4]),(4,[5,5]),(2,[7,8]),(0,[0,4,1]),(4,[10,3]),(4,[11,6]),(3,[9,12]),(5,[5]),(0,[0,1,1]),(0,[0,0,1]),(3,[16,0]),(3,[16,1]),(4,[17,17]),(4,[18,18]),(2,[19,20]),(3,[21,2]),(5,[22]),(5,[1]),(5,[0]),(5,[24]),(5,[23]),(5,[16]),(5,[15]),(0,[0,2,1]),(4,[25,3]),(4,[26,3]),(4,[31,30]),(4,[32,30]),(5,[14]),(4,[29,4]),(4,[28,35]),(2,[36,37]),(5,[28]),(4,[29,14]),(4,[39,4]),(3,[40,41]),(2,[16,33]),(2,[16,34]),(2,[43,38]),(2,[44,42]),(5,[26]),(5,[47]),(4,[45,25]),(4,[46,48]),(2,[49,50]),(5,[46]),(4,[45,47]),(4,[52,25]),(3,[53,54]),(5,[35]),(4,[25,4]),(4,[26,56]),(2,[57,58]),(4,[25,35]),(4,[47,4]),(3,[60,61]),(4,[29,6]),(4,[28,6]),(4,[63,30]),(4,[64,30]),(2,[16,59]),(2,[16,62]),(2,[67,65]),(2,[68,66]),(5,[39]),(4,[69,29]),(4,[70,71]),(2,[72,73]),(5,[70]),(4,[69,39]),(4,[75,29]),(3,[76,77]),(2,[51,74]),(2,[55,78]),(4,[27,3]),(4,[28,3]),(4,[81,30]),(4,[82,30]),(4,[0,4]),(4,[1,35]),(2,[85,86]),(4,[0,14]),(4,[24,4]),(3,[88,89]),(2,[16,83]),(2,[16,84]),(2,[91,87]),(2,[92,90]),(4,[93,25]),(4,[94,48]),(2,[95,96]),(5,[94]),(4,[93,47]),(4,[98,25]),(3,[99,100]),(4,[27,4]),(4,[28,56]),(2,[102,103]),(4,[27,35]),(3,[105,41]),(4,[0,6]),(4,[1,6]),(4,[107,30]),(4,[108,30]),(2,[16,104]),(2,[16,106]),(2,[111,109]),(2,[112,110]),(4,[113,29]),(4,[114,71]),(2,[115,116]),(5,[114]),(4,[113,39]),(4,[118,29]),(3,[119,120]),(2,[97,117]),(2,[101,121]),(4,[122,30]),(4,[123,30]),(4,[93,27]),(4,[94,71]),(2,[126,127]),(4,[93,39]),(4,[98,27]),(3,[129,130]),(4,[113,0]),(4,[114,26]),(2,[132,133]),(4,[113,24]),(4,[118,0]),(3,[135,136]),(2,[128,134]),(2,[131,137]),(8,[0,79,124,125,138]),(8,[1,79,124,125,138]),(8,[2,79,124,125,138]),(8,[3,79,124,125,138]),(0,[1,1,1]),(2,[0,15]),(2,[1,16]),(4,[15,15]),(4,[16,16]),(2,[147,148]),(6,[2,149]),(4,[15,150]),(4,[16,150]),(2,[0,151]),(2,[1,152]),(4,[145,145]),(4,[146,146]),(2,[155,156]),(4,[140,157]),(4,[141,145]),(4,[142,146]),(2,[158,159]),(2,[161,160]),(2,[162,143]),(4,[153,153]),(4,[154,154]),(2,[164,165]),(4,[3,166]),(4,[4,153]),(4,[5,154]),(2,[167,168]),(2,[170,169]),(2,[171,6]),(4,[172,149]),(2,[0,16]),(2,[1,15]),(2,[148,147]),(6,[2,176]),(4,[16,177]),(4,[15,177]),(2,[0,178]),(2,[1,179]),(4,[174,174]),(4,[175,175]),(2,[182,183]),(4,[140,184]),(4,[141,174]),(4,[142,175]),(2,[185,186]),(2,[188,187]),(2,[189,143]),(4,[180,180]),(4,[181,181]),(2,[191,192]),(4,[3,193]),(4,[4,180]),(4,[5,181]),(2,[194,195]),(2,[197,196]),(2,[198,6]),(4,[199,176]),(2,[0,144]),(4,[144,144]),(2,[202,148]),(6,[2,203]),(4,[144,204]),(4,[16,204]),(2,[0,205]),(2,[1,206]),(4,[201,201]),(2,[209,156]),(4,[140,210]),(4,[141,201]),(2,[211,212]),(2,[213,160]),(2,[214,143]),(4,[207,207]),(4,[208,208]),(2,[216,217]),(4,[3,218]),(4,[4,207]),(4,[5,208]),(2,[219,220]),(2,[222,221]),(2,[223,6]),(4,[224,203]),(2,[1,30]),(4,[30,30]),(2,[148,227]),(6,[2,228]),(4,[16,229]),(4,[30,229]),(2,[0,230]),(2,[1,231]),(4,[226,226]),(2,[182,234]),(4,[140,235]),(4,[142,226]),(2,[236,186]),(2,[238,237]),(2,[239,143]),(4,[232,232]),(4,[233,233]),(2,[241,242]),(4,[3,243]),(4,[4,232]),(4,[5,233]),(2,[244,245]),(2,[247,246]),(2,[248,6]),(4,[249,228]),(2,[147,147]),(6,[2,251]),(4,[15,252]),(2,[0,253]),(2,[1,253]),(2,[155,183]),(4,[140,256]),(2,[257,159]),(2,[258,187]),(2,[259,143]),(4,[254,254]),(4,[255,255]),(2,[261,262]),(4,[3,263]),(4,[4,254]),(4,[5,255]),(2,[264,265]),(2,[267,266]),(2,[268,6]),(4,[269,251]),(4,[163,163]),(4,[190,190]),(2,[271,272]),(4,[215,215]),(2,[273,274]),(4,[240,240]),(2,[275,276]),(4,[260,260]),(2,[277,278]),(4,[190,173]),(4,[163,200]),(3,[280,281]),(4,[215,173]),(4,[163,225]),(3,[283,284]),(4,[215,200]),(4,[190,225]),(3,[286,287]),(4,[240,173]),(4,[163,250]),(3,[289,290]),(4,[240,200]),(4,[190,250]),(3,[292,293]),(4,[240,225]),(4,[215,250]),(3,[295,296]),(4,[260,173]),(4,[163,270]),(3,[298,299]),(4,[260,200]),(4,[190,270]),(3,[301,302]),(4,[260,225]),(4,[215,270]),(3,[304,305]),(4,[260,250]),(4,[240,270]),(3,[307,308]),(4,[282,282]),(4,[285,285]),(2,[310,311]),(4,[288,288]),(2,[312,313]),(4,[291,291]),(2,[314,315]),(4,[294,294]),(2,[316,317]),(4,[297,297]),(2,[318,319]),(4,[300,300]),(2,[320,321]),(4,[303,303]),(2,[322,323]),(4,[306,306]),(2,[324,325]),(4,[309,309]),(2,[326,327]),(1,[7]),(1,[8]),(3,[329,0]),(3,[330,1]),(4,[331,331]),(4,[332,332]),(2,[333,334]),(6,[2,335]),(4,[331,336]),(4,[332,336]),(2,[0,337]),(2,[1,338]),(4,[329,329]),(4,[330,330]),(2,[341,342]),(4,[3,343]),(4,[4,329]),(4,[5,330]),(2,[344,345]),(2,[347,346]),(2,[348,6]),(4,[339,339]),(4,[340,340]),(2,[350,351]),(4,[140,352]),(4,[141,339]),(4,[142,340]),(2,[353,354]),(2,[356,355]),(2,[357,143]),(4,[141,141]),(4,[142,142]),(2,[359,360]),(4,[10,140]),(4,[362,143]),(3,[361,363])]
def tR_L : List (List Nat × Nat) := []
def tR_C : List (List Nat × Nat) := []
def tR_Z : List Nat := [3495259,3495259,3495259,3495259,3495259,3495259,3495259,6990518,6990518,13981037,4,3495263,6990522,20971560,3495259,2,2,3495262,3495262,6990524,6990524,13981049,17476309,17476309,3495259,3495259,3495259,17476309,2,2,3,6990518,6990518,6990521,6990521,3495259,3495261,3495261,6990523,2,3495261,3495261,6990523,6990524,6990524,13981048,13981048,3495259,3495259,17476307,17476307,34952615,13981048,17476307,17476307,34952615,3495259,6990518,6990518,13981037,6990518,6990518,13981037,3495261,3495261,3495264,3495264,13981040,13981040,17476305,17476305,2,17476307,17476307,34952615,17476305,17476307,17476307,34952615,69905231,69905231,20971568,3495261,20971571,3495264,6990518,6990518,13981037,6990518,6990518,13981037,20971574,3495267,34952612,17476305,38447871,20971564,59419436,17476305,38447871,20971564,59419436,20971568,3495261,24466830,20971568,24466830,6990518,6990518,6990521,6990521,24466833,24466833,31457355,31457355,31457357,31457357,62914715,31457355,31457357,31457357,62914715,122334152,122334152,122334155,122334155,52428921,17476307,69905229,34952614,34952614,69905229,34952614,34952614,69905229,34952614,34952614,69905229,139810459,139810459,699052296,699052296,699052296,699052296,2,3495262,3495262,4,4,5,3495264,3495266,3495266,6990526,6990526,6990524,6990524,13981049,713033345,702547558,702547558,1415580904,2118128463,2817180760,13981052,13981052,27962105,31457364,10485785,10485785,41943150,52428936,55924196,55924201,3495262,3495262,5,3495264,3495266,3495266,6990526,6990526,6990524,6990524,13981049,713033345,702547558,702547558,1415580904,2118128463,2817180760,13981052,13981052,27962105,31457364,10485785,10485785,41943150,52428936,55924196,55924201,3495262,4,5,3495264,3495266,3495266,6990526,6990526,6990524,13981049,713033345,702547558,1415580904,2118128463,2817180760,13981052,13981052,27962105,31457364,10485785,10485785,41943150,52428936,55924196,55924201,3495263,6,7,3495266,3495268,3495269,6990528,6990529,6990526,13981051,713033347,702547559,1415580906,2118128466,2817180763,13981056,13981058,27962115,31457374,10485787,10485788,41943162,52428951,55924211,55924218,5,3495264,3495266,6990526,6990526,13981049,713033345,1415580904,2118128463,2817180760,13981052,13981052,27962105,31457364,10485785,10485785,41943150,52428936,55924196,55924201,5634361520,5634361520,11268723041,5634361520,16903084562,5634361526,22537446089,5634361520,28171807610,2873104961,2873104961,5746209923,2873104961,2873104961,5746209923,2873104961,2873104961,5746209923,2873104964,2873104978,5746209943,2873104964,2873104978,5746209943,2873104964,2873104978,5746209943,2873104961,2873104961,5746209923,2873104961,2873104961,5746209923,2873104961,2873104961,5746209923,2873104978,2873104964,5746209943,11492419846,11492419846,22984839693,11492419846,34477259540,11492419886,45969679427,11492419886,57462099314,11492419886,68954519201,11492419846,80446939048,11492419846,91939358895,11492419846,103431778742,11492419886,114924198629,3495259,3495259,6990519,6990519,13981038,13981038,27962077,31457336,38447855,38447855,41943115,41943115,6990518,6990518,13981037,17476296,6990518,6990518,24466815,31457334,34952594,83886230,83886230,167772461,866824757,740995411,740995411,1607820169,2348815581,3047867878,1398104592,1398104592,1398104593,699052300,1398104596,1398104597]
abbrev tR_Q (q : Nat→Rat) (σ : Nat→ByteArray) : Prop := ∀ (a : Nat) nd,tR_N[a]? = some nd→q a=valN σ q nd
variable {q : Nat→Rat} {σ : Nat→ByteArray}
def tR_I : List Bool := [false,false,false,false,false,false,false,false,false,false,true,false,false,false,false,true,true,false,false,false,false,false,false,false,false,false,false,false,true,true,true,false,false,false,false,false,false,false,false,true,false,false,false,false,false,false,false,false,false,false,false,false,false,false,false,false,false,false,false,false,false,false,false,false,false,false,false,false,false,false,false,true,false,false,false,false,false,false,false,false,false,false,false,false,false,false,false,false,false,false,false,false,false,false,false,false,false,false,false,false,false,false,false,false,false,false,false,false,false,false,false,false,false,false,false,false,false,false,false,false,false,false,false,false,false,false,false,false,false,false,false,false,false,false,false,false,false,false,false,false,true,true,true,true,true,false,false,true,true,true,false,false,false,false,false,false,false,false,false,false,false,false,false,false,false,false,false,false,false,false,false,false,false,false,false,false,true,false,false,false,false,false,false,false,false,false,false,false,false,false,false,false,false,false,false,false,false,false,false,false,false,false,true,true,false,false,false,false,false,false,false,false,false,false,false,false,false,false,false,false,false,false,false,false,false,false,false,true,true,false,false,false,false,false,false,false,false,false,false,false,false,false,false,false,false,false,false,false,false,false,false,true,false,false,false,false,false,false,false,false,false,false,false,false,false,false,false,false,false,false,false,false,false,false,false,false,false,false,false,false,false,false,false,false,false,false,false,false,false,false,false,false,false,false,false,false,false,false,false,false,false,false,false,false,false,false,false,false,false,false,false,false,false,false,false,false,false,false,false,false,false,false,false,false,false,false,false,false,false,false,false,false,false,false,false,false,false,false,false,false,false,false,false,false,false,false,false,false,false,false,false,false,false,false,false,false,false,false,false,true,true,true,true,true,true]
theorem tR_wf : wfB 0 tR_N=true := by kernel_rfl
theorem tR_sz : szC tR_Z tR_I tR_N tR_Z tR_I=true := by kernel_rfl
theorem tR_lt : litB tR_N tR_L=true := by kernel_rfl
theorem tR_cn : canB tR_N tR_C=true := by kernel_rfl
theorem tR_c10 : cst 0 4 1=(4 : Rat) := by decide +kernel
theorem tR_c15 : cst 0 1 1=(1 : Rat) := by decide +kernel
theorem tR_c16 : cst 0 0 1=(0 : Rat) := by decide +kernel
theorem tR_c30 : cst 0 2 1=(2 : Rat) := by decide +kernel
theorem tR_c144 : cst 1 1 1=((-1) : Rat) := by decide +kernel
def tR_A : List AV := [(false,[(true,[.inr (2,0,0,0,0),.inr (2,1,0,0,0),.inr (2,2,0,0,0)])]),(false,[(true,[.inr (2,3,0,0,0),.inr (2,4,0,0,0),.inr (2,5,0,0,0),.inr (2,6,0,0,0)])]),(false,[(true,[.inr (2,7,0,0,0),.inr (2,8,0,0,0)])])]
def Rd (a b r A B C D P0 P1 P2 P3 : Rat) : Prop := P0=2*(A*(a*a+b*b)+B*a+C*b+D)∧P1=2*(r*(B+2*A*a) - 2*(A*(a*a+b*b)+B*a+C*b+D)*a)∧P2=2*(r*(C+2*A*b) - 2*(A*(a*a+b*b)+B*a+C*b+D)*b)∧P3=2*((A*(a*a+b*b)+B*a+C*b+D)*(a*a+b*b) - r*((B+2*A*a)*a+(C+2*A*b)*b)+A*r*r)
theorem tr_sp {a b r A B C D P0 P1 P2 P3 : Rat} (h : Rd a b r A B C D P0 P1 P2 P3) : P1*P1+P2*P2 - 4*P0*P3=4*(r*r)*(B*B+C*C - 4*A*D) := by
 obtain ⟨h0,h1,h2,h3⟩ := h
 rw [h0,h1,h2,h3]; clear h0 h1 h2 h3; grind
theorem tr_at {a b r A B C D P0 P1 P2 P3 u v : Rat} (h : Rd a b r A B C D P0 P1 P2 P3) : P0*((a+u)*(a+u)+(b+v)*(b+v))+P1*(a+u)+P2*(b+v)+P3=2*((A*(a*a+b*b)+B*a+C*b+D)*(u*u+v*v)+r*((B+2*A*a)*u+(C+2*A*b)*v)+A*r*r) := by
 obtain ⟨h0,h1,h2,h3⟩ := h
 rw [h0,h1,h2,h3]; clear h0 h1 h2 h3; grind
theorem tr_g {a b r A B C D u v k n : Rat} (hk : k*n=r) (hn : n=u*u+v*v) : (A*((a+u*k)*(a+u*k)+(b+v*k)*(b+v*k))+B*(a+u*k)+C*(b+v*k)+D)*n=(A*(a*a+b*b)+B*a+C*b+D)*(u*u+v*v)+r*((B+2*A*a)*u+(C+2*A*b)*v)+A*r*r := by
 have q : (A*((a+u*k)*(a+u*k)+(b+v*k)*(b+v*k))+B*(a+u*k)+C*(b+v*k)+D)*n=(A*(a*a+b*b)+B*a+C*b+D)*n+(k*n)*((B+2*A*a)*u+(C+2*A*b)*v)+A*(k*n)*(k*(u*u+v*v)) := by clear hk hn; grind
 rw [q,← hn,hk]
theorem tr_ab {a b r A B C D P0 P1 P2 P3 f u v n k q1 q2 s1 s2 s3 t1 t2 t3 t4 t5 H0 H1 H2 H3 x w1 w2 y1 y2 c1 c2 c3 d1 d2 d3 d4 d5 d6 y n1 n2 : Rat} (h : Rd a b r A B C D P0 P1 P2 P3) (h0 : H0=P0*f) (h1 : H1=P1*f) (h2 : H2=P2*f) (h3 : H3=P3*f) (hn0 : n ≠ 0) (en1 : n1=u*u) (en2 : n2=v*v) (en : n=n1+n2) (ek : k=r / n) (eq1 : q1=a+u) (eq2 : q2=b+v) (es1 : s1=q1*q1) (es2 : s2=q2*q2) (es3 : s3=s1+s2) (et1 : t1=H0*s3) (et2 : t2=H1*q1) (et3 : t3=H2*q2) (et4 : t4=t1+t2) (et5 : t5=t4+t3) (ex : x=t5+H3) (ew1 : w1=u*k) (ew2 : w2=v*k) (ey1 : y1=a+w1) (ey2 : y2=b+w2) (ec1 : c1=y1*y1) (ec2 : c2=y2*y2) (ec3 : c3=c1+c2) (ed1 : d1=A*c3) (ed2 : d2=B*y1) (ed3 : d3=C*y2) (ed4 : d4=d1+d2) (ed5 : d5=d4+d3) (ed6 : d6=d5+D) (ey : y=d6*n) : x=2*f*y∧y=(A*(a*a+b*b)+B*a+C*b+D)*(u*u+v*v)+r*((B+2*A*a)*u+(C+2*A*b)*v)+A*r*r := by
 have hk : k*n=r := by rw [ek]; exact Rat.div_mul_cancel hn0
 have g := tr_g (a := a) (b := b) (A := A) (B := B) (C := C) (D := D) (u := u) (v := v) hk (by rw [en,en1,en2])
 have p := tr_at (u := u) (v := v) h
 have ey' : y=(A*(a*a+b*b)+B*a+C*b+D)*(u*u+v*v)+r*((B+2*A*a)*u+(C+2*A*b)*v)+A*r*r := by
  rw [ey,ed6,ed5,ed4,ed3,ed2,ed1,ec3,ec2,ec1,ey2,ey1,ew2,ew1,g]
 refine ⟨?_,ey'⟩
 have x' : x=(P0*((a+u)*(a+u)+(b+v)*(b+v))+P1*(a+u)+P2*(b+v)+P3)*f := by
  rw [ex,et5,et4,et3,et2,et1,es3,es2,es1,eq2,eq1,h0,h1,h2,h3]; clear g p ey' hk h; grind
 rw [x',p,ey']; clear g p ey' hk h x'; grind
theorem tr_f {a b r A B C D P0 P1 P2 P3 : Rat} (h : Rd a b r A B C D P0 P1 P2 P3) (hr : 0 < r) (hs : 0 < B*B+C*C - 4*A*D) : fac [P0,P1,P2,P3] ≠ 0 := by
 intro e
 have z0 : P0=0 := fac_zero (by simp) e
 have z1 : P1=0 := fac_zero (by simp) e
 have z2 : P2=0 := fac_zero (by simp) e
 have q := tr_sp h
 rw [z0,z1,z2] at q
 have w : 4*(r*r)*(B*B+C*C - 4*A*D)=0 := by rw [← q]; clear q; grind
 have rr : r ≠ 0 := fun e => absurd (e ▸ hr) (by decide)
 have ss : B*B+C*C - 4*A*D ≠ 0 := fun e => absurd (e ▸ hs) (by decide)
 exact mul_ne (mul_ne (by decide) (mul_ne rr rr)) ss w
theorem tr_pos {a b r A B C D P0 P1 P2 P3 f H0 H1 H2 H3 : Rat} (h : Rd a b r A B C D P0 P1 P2 P3) (hr : 0 < r) (hs : 0 < B*B+C*C - 4*A*D) (hf : f ≠ 0) (h0 : H0=P0*f) (h1 : H1=P1*f) (h2 : H2=P2*f) (h3 : H3=P3*f) : 0 < H1*H1+H2*H2 - 4*H0*H3 := by
 have q : H1*H1+H2*H2 - 4*H0*H3=(4*(r*r))*(f*f)*(B*B+C*C - 4*A*D) := by
  have w : H1*H1+H2*H2 - 4*H0*H3=(P1*P1+P2*P2 - 4*P0*P3)*(f*f) := by rw [h0,h1,h2,h3]; clear h h0 h1 h2 h3; grind
  rw [w,tr_sp h]; clear w h h0 h1 h2 h3; grind
 rw [q]
 have rr : r ≠ 0 := fun e => absurd (e ▸ hr) (by decide)
 exact Rat.mul_pos (Rat.mul_pos (Rat.mul_pos (by decide) (sq1_pos rr)) (sq1_pos hf)) hs
theorem tr_bc {A B C D : Rat} (hs : 0 < B*B+C*C - 4*A*D) (hA : A=0) (hB : B=0) : ¬ (C=0) := by
 intro e
 rw [hA,hB,e] at hs
 have w : (0 : Rat)*0+0*0 - 4*0*D=0 := by grind
 rw [w] at hs
 exact absurd hs (by decide)
theorem tr_line {a b r A B C D P0 P1 P2 P3 : Rat} (h : Rd a b r A B C D P0 P1 P2 P3) (hr : 0 < r) (hA : A=0) (h0 : P0=0) : (B=0→P1=0)∧(¬ (B=0)→¬ (P1=0)) := by
 obtain ⟨k0,k1,k2,k3⟩ := h
 have q : P1=2*r*B := by
  have w : P1=2*r*(B+2*A*a) - P0*(2*a) := by rw [k1,k0]; clear k0 k1 k2 k3; grind
  rw [w,h0,hA]; clear w k0 k1 k2 k3; grind
 have rr : r ≠ 0 := fun e => absurd (e ▸ hr) (by decide)
 refine ⟨fun e => by rw [q,e,Rat.mul_zero],fun e z => ?_⟩
 rw [q] at z
 exact mul_ne (mul_ne (by decide) rr) e z
theorem tr_two {H0 H1 H2 H3 : Rat} (hp : 0 < H1*H1+H2*H2 - 4*H0*H3) (e0 : H0=0) (e1 : H1=0) : ¬ (H2=0) := by
 intro e
 rw [e0,e1,e] at hp
 have : (0 : Rat)*0+0*0 - 4*0*H3=0 := by grind
 rw [this] at hp
 exact absurd hp (by decide)
theorem tr_some {a b r A B C D y1 y2 y3 y4 : Rat} (hr : 0 < r) (hs : 0 < B*B+C*C - 4*A*D) (h1 : y1=(A*(a*a+b*b)+B*a+C*b+D)*(1*1+0*0)+r*((B+2*A*a)*1+(C+2*A*b)*0)+A*r*r) (h2 : y2=(A*(a*a+b*b)+B*a+C*b+D)*(0*0+1*1)+r*((B+2*A*a)*0+(C+2*A*b)*1)+A*r*r) (h3 : y3=(A*(a*a+b*b)+B*a+C*b+D)*(-1*-1+0*0)+r*((B+2*A*a)*-1+(C+2*A*b)*0)+A*r*r) (h4 : y4=(A*(a*a+b*b)+B*a+C*b+D)*(0*0+2*2)+r*((B+2*A*a)*0+(C+2*A*b)*2)+A*r*r) : ¬ (y1=0∧y2=0∧y3=0∧y4=0) := by
 rintro ⟨z1,z2,z3,z4⟩
 rw [z1] at h1
 rw [z2] at h2
 rw [z3] at h3
 rw [z4] at h4
 generalize hd : A*(a*a+b*b)+B*a+C*b+D=d at *
 generalize hX : B+2*A*a=X at *
 generalize hY : C+2*A*b=Y at *
 have rr : r ≠ 0 := fun e => absurd (e ▸ hr) (by decide)
 have k1 : r*X=0 := by clear h2 h4 hd hX hY hs hr; grind
 have k2 : r*Y=0 := by clear h4 hd hX hY hs hr; grind
 have k3 : d=0 := by clear hd hX hY hs hr; grind
 have k4 : A*r*r=0 := by clear hd hX hY hs hr; grind
 have x0 : X=0 := (Rat.mul_eq_zero.1 k1).resolve_left rr
 have y0 : Y=0 := (Rat.mul_eq_zero.1 k2).resolve_left rr
 have a0 : A=0 := (Rat.mul_eq_zero.1 ((Rat.mul_eq_zero.1 k4).resolve_right rr)).resolve_right rr
 rw [a0] at hX hY
 have b0 : B=0 := by rw [x0] at hX; clear k1 k2 k3 k4 h1 h2 h3 h4 hY hd hs hr; grind
 have c0 : C=0 := by rw [y0] at hY; clear k1 k2 k3 k4 h1 h2 h3 h4 hX hd hs hr; grind
 rw [a0,b0,c0] at hs
 have w9 : (0 : Rat)*0+0*0 - 4*0*D=0 := by grind
 rw [w9] at hs
 exact absurd hs (by decide)
theorem tr_al {F x y s t m n d : Rat} (hx : x=F*y) (hs : s=F*t) (em : m=s*y) (en : n=x*t) (ed : d=m - n) : d=0 := by
 rw [ed,em,en,hx,hs]; grind
theorem tr_pt {a b r A B C D P0 P1 P2 P3 f p1 p2 u v n n1 n2 k w1 w2 q1 q2 s1 s2 s3 t1 t2 t3 t4 t5 H0 H1 H2 H3 x c1 c2 c3 d1 d2 d3 d4 d5 y : Rat} (h : Rd a b r A B C D P0 P1 P2 P3) (hr : 0 < r) (hf : f ≠ 0) (h0 : H0=P0*f) (h1 : H1=P1*f) (h2 : H2=P2*f) (h3 : H3=P3*f) (hv : ¬ (u=0∧v=0)) (eu : u=p1 - a) (ev : v=p2 - b) (en1 : n1=u*u) (en2 : n2=v*v) (en : n=n1+n2) (ek : k=r / n) (ew1 : w1=u*k) (ew2 : w2=v*k) (eq1 : q1=a+w1) (eq2 : q2=b+w2) (es1 : s1=q1*q1) (es2 : s2=q2*q2) (es3 : s3=s1+s2) (et1 : t1=H0*s3) (et2 : t2=H1*q1) (et3 : t3=H2*q2) (et4 : t4=t1+t2) (et5 : t5=t4+t3) (ex : x=t5+H3) (ec1 : c1=p1*p1) (ec2 : c2=p2*p2) (ec3 : c3=c1+c2) (ed1 : d1=A*c3) (ed2 : d2=B*p1) (ed3 : d3=C*p2) (ed4 : d4=d1+d2) (ed5 : d5=d4+d3) (ey : y=d5+D) : (y=0→x=0)∧(¬ (y=0)→¬ (x=0)) := by
 have np := sq_pos hv
 have en' : n=u*u+v*v := by rw [en,en1,en2]
 rw [← en'] at np
 have n0 : n ≠ 0 := fun e => absurd (e ▸ np) (by decide)
 have hk : k*n=r := by rw [ek]; exact Rat.div_mul_cancel n0
 have p := tr_at (u := u*k) (v := v*k) h
 have y' : y=(A*(a*a+b*b)+B*a+C*b+D)+((B+2*A*a)*u+(C+2*A*b)*v)+A*n := by
  have e1 : p1=a+u := by rw [eu]; clear h p; grind
  have e2 : p2=b+v := by rw [ev]; clear h p; grind
  rw [ey,ed5,ed4,ed3,ed2,ed1,ec3,ec2,ec1,e1,e2,en']; clear h p hk en1 en2 en ek eu ev; grind
 have x' : x=(P0*((a+u*k)*(a+u*k)+(b+v*k)*(b+v*k))+P1*(a+u*k)+P2*(b+v*k)+P3)*f := by
  rw [ex,et5,et4,et3,et2,et1,es3,es2,es1,eq2,eq1,ew2,ew1,h0,h1,h2,h3]; clear h p y' hk; grind
 have m : x*n=2*f*(r*r)*y := by
  rw [x',p]
  have w : 2*((A*(a*a+b*b)+B*a+C*b+D)*(u*k*(u*k)+v*k*(v*k))+r*((B+2*A*a)*(u*k)+(C+2*A*b)*(v*k))+A*r*r)*f*n=2*f*((A*(a*a+b*b)+B*a+C*b+D)*(k*n)*(k*(u*u+v*v))+r*(k*n)*((B+2*A*a)*u+(C+2*A*b)*v)+A*r*r*n) := by clear h p y' x' hk en'; grind
  rw [w,← en',hk,y']; clear w h p y' x' en'; grind
 have rr : r ≠ 0 := fun e => absurd (e ▸ hr) (by decide)
 have F : 2*f*(r*r) ≠ 0 := mul_ne (mul_ne (by decide) hf) (mul_ne rr rr)
 refine ⟨fun e => ?_,fun e z => ?_⟩
 ·rw [e,Rat.mul_zero] at m
  exact (Rat.mul_eq_zero.1 m).resolve_right n0
 ·rw [z,Rat.zero_mul] at m
  exact mul_ne F e m.symm
theorem tr_s5 {a b c d e m1 m2 m3 m4 m5 t2 t3 t4 t5 : Rat} (h1 : m1=a*a) (h2 : m2=b*b) (k2 : t2=m1+m2) (h3 : m3=c*c) (k3 : t3=t2+m3) (h4 : m4=d*d) (k4 : t4=t3+m4) (h5 : m5=e*e) (k5 : t5=t4+m5) (z : t5=0) : a=0∧b=0∧c=0∧d=0 := by
 have s1 := (sq_facts a).1
 have s2 := (sq_facts b).1
 have s3 := (sq_facts c).1
 have s4 := (sq_facts d).1
 have s5 := (sq_facts e).1
 rw [← h1] at s1
 rw [← h2] at s2
 rw [← h3] at s3
 rw [← h4] at s4
 rw [← h5] at s5
 have a1 : m1=0 := by clear h1 h2 h3 h4 h5; grind
 have a2 : m2=0 := by clear h1 h2 h3 h4 h5; grind
 have a3 : m3=0 := by clear h1 h2 h3 h4 h5; grind
 have a4 : m4=0 := by clear h1 h2 h3 h4 h5; grind
 exact ⟨(sq_facts a).2.1 (h1.symm.trans a1),(sq_facts b).2.1 (h2.symm.trans a2),(sq_facts c).2.1 (h3.symm.trans a3),(sq_facts d).2.1 (h4.symm.trans a4)⟩
theorem tr_no {f x y : Rat} (hf : f ≠ 0) (h : x=2*f*y) (e : x=0) : y=0 := by
 rw [e] at h
 exact (Rat.mul_eq_zero.1 h.symm).resolve_left (mul_ne (by decide) hf)
theorem tr_flat {A B C D : Rat} (hs : ¬ (0 < B*B+C*C - 4*A*D)) (hA : A=0) : B=0∧C=0 := by
 rw [hA] at hs
 have w : B*B+C*C - 4*0*D=B*B+C*C := by grind
 rw [w] at hs
 refine Classical.byContradiction fun q => hs (sq_pos q)
theorem tr_lv {a b r A B C D P0 P1 P2 P3 p1 p2 v c1 c2 c3 d1 d2 d3 d4 d5 y : Rat} (h : Rd a b r A B C D P0 P1 P2 P3) (hs : 0 < B*B+C*C - 4*A*D) (hA : A=0) (hB : B=0) (h0 : P0=0) (hv : ¬ (v=0)) (ev : v=p2 - b) (_ec1 : c1=p1*p1) (_ec2 : c2=p2*p2) (_ec3 : c3=c1+c2) (ed1 : d1=A*c3) (ed2 : d2=B*p1) (ed3 : d3=C*p2) (ed4 : d4=d1+d2) (ed5 : d5=d4+d3) (ey : y=d5+D) : ¬ (y=0) := by
 have hC := tr_bc hs hA hB
 obtain ⟨k0,_,_,_⟩ := h
 rw [h0,hA,hB] at k0
 have q : y=C*v := by
  have w : D=-(C*b) := by clear hs _ec1 _ec2 _ec3 ed1 ed2 ed3 ed4 ed5 ey ev; grind
  rw [ey,ed5,ed4,ed3,ed2,ed1,hA,hB,ev,w]; clear k0 w hs; grind
 rw [q]
 exact mul_ne hC hv
theorem tR_Tz {z0 z1 z2 z3 z4 z5 z6 z7 z8 z9 z10 z11 z12 z13 z14 z15 z16 z17 z18 z19 z20 z21 z22 z23 z24 z25 z26 z27 z28 z29 z30 z31 z32 z33 z34 z35 z36 z37 z38 z39 z40 z41 z42 z43 z44 z45 z46 z47 z48 z49 z50 z51 z56 z57 z58 z59 z60 z61 z62 z63 z64 z65 z66 z67 z68 z69 z70 z71 z72 z73 z74 z79 z81 z82 z83 z84 z85 z86 z87 z88 z89 z90 z91 z92 z93 z94 z95 z96 z97 z98 z99 z100 z101 z102 z103 z104 z105 z106 z107 z108 z109 z110 z111 z112 z113 z114 z115 z116 z117 z118 z119 z120 z121 z122 z123 z124 z125 z126 z127 z128 z132 z133 z134 z138 z140 z141 z142 z143 z144 z145 z146 z147 z148 z149 z150 z151 z152 z153 z154 z155 z156 z157 z158 z159 z160 z161 z162 z163 z164 z165 z166 z167 z168 z169 z170 z171 z172 z173 z174 z175 z176 z177 z178 z179 z180 z181 z182 z183 z184 z185 z186 z187 z188 z189 z190 z191 z192 z193 z194 z195 z196 z197 z198 z199 z200 z201 z202 z203 z204 z205 z206 z207 z208 z209 z210 z211 z212 z213 z214 z215 z216 z217 z218 z219 z220 z221 z222 z223 z224 z225 z226 z227 z228 z229 z230 z231 z232 z233 z234 z235 z236 z237 z238 z239 z240 z241 z242 z243 z244 z245 z246 z247 z248 z249 z250 z251 z252 z253 z254 z255 z256 z257 z258 z259 z260 z261 z262 z263 z264 z265 z266 z267 z268 z269 z270 z271 z272 z273 z274 z275 z276 z277 z278 z279 z280 z281 z282 z283 z284 z285 z286 z287 z288 z289 z290 z291 z292 z293 z294 z295 z296 z297 z298 z299 z300 z301 z302 z303 z304 z305 z306 z307 z308 z309 z329 z330 z331 z332 z333 z334 z335 z336 z337 z338 z339 z340 z341 z342 z343 z344 z345 z346 z347 z348 z349 z350 z351 z352 z353 z354 z355 z356 z357 z358 z359 z360 z361 z362 z363 z364 : Rat} : z7=z4*z4→z8=z5*z5→z9=z7+z8→z10=4→z11=z10*z3→z12=z11*z6→z13=z9-z12→z14=-z5→z15=1→z16=0→z17=z16-z0→z18=z16-z1→z19=z17*z17→z20=z18*z18→z21=z19+z20→z22=z21-z2→z23=-z22→z24=-z1→z25=-z0→z26=-z24→z27=-z23→z28=-z16→z29=-z15→z30=2→z31=z25*z3→z32=z26*z3→z33=z31*z30→z34=z32*z30→z35=-z14→z36=z29*z4→z37=z28*z35→z38=z36+z37→z39=-z28→z40=z29*z14→z41=z39*z4→z42=z40-z41→z43=z16+z33→z44=z16+z34→z45=z43+z38→z46=z44+z42→z47=-z26→z48=-z47→z49=z45*z25→z50=z46*z48→z51=z49+z50→z56=-z35→z57=z25*z4→z58=z26*z56→z59=z57+z58→z60=z25*z35→z61=z47*z4→z62=z60-z61→z63=z29*z6→z64=z28*z6→z65=z63*z30→z66=z64*z30→z67=z16+z59→z68=z16+z62→z69=z67+z65→z70=z68+z66→z71=-z39→z72=z69*z29→z73=z70*z71→z74=z72+z73→z79=z51+z74→z81=z27*z3→z82=z28*z3→z83=z81*z30→z84=z82*z30→z85=z0*z4→z86=z1*z35→z87=z85+z86→z88=z0*z14→z89=z24*z4→z90=z88-z89→z91=z16+z83→z92=z16+z84→z93=z91+z87→z94=z92+z90→z95=z93*z25→z96=z94*z48→z97=z95+z96→z98=-z94→z99=z93*z47→z100=z98*z25→z101=z99-z100→z102=z27*z4→z103=z28*z56→z104=z102+z103→z105=z27*z35→z106=z105-z41→z107=z0*z6→z108=z1*z6→z109=z107*z30→z110=z108*z30→z111=z16+z104→z112=z16+z106→z113=z111+z109→z114=z112+z110→z115=z113*z29→z116=z114*z71→z117=z115+z116→z118=-z114→z119=z113*z39→z120=z118*z29→z121=z119-z120→z122=z97+z117→z123=z101+z121→z124=z122*z30→z125=z123*z30→z126=z93*z27→z127=z94*z71→z128=z126+z127→z132=z113*z0→z133=z114*z26→z134=z132+z133→z138=z128+z134→z140=z79*fac [z79,z124,z125,z138]→z141=z124*fac [z79,z124,z125,z138]→z142=z125*fac [z79,z124,z125,z138]→z143=z138*fac [z79,z124,z125,z138]→z144=(-1)→z145=z0+z15→z146=z1+z16→z147=z15*z15→z148=z16*z16→z149=z147+z148→z150=z2/z149→z151=z15*z150→z152=z16*z150→z153=z0+z151→z154=z1+z152→z155=z145*z145→z156=z146*z146→z157=z155+z156→z158=z140*z157→z159=z141*z145→z160=z142*z146→z161=z158+z159→z162=z161+z160→z163=z162+z143→z164=z153*z153→z165=z154*z154→z166=z164+z165→z167=z3*z166→z168=z4*z153→z169=z5*z154→z170=z167+z168→z171=z170+z169→z172=z171+z6→z173=z172*z149→z174=z0+z16→z175=z1+z15→z176=z148+z147→z177=z2/z176→z178=z16*z177→z179=z15*z177→z180=z0+z178→z181=z1+z179→z182=z174*z174→z183=z175*z175→z184=z182+z183→z185=z140*z184→z186=z141*z174→z187=z142*z175→z188=z185+z186→z189=z188+z187→z190=z189+z143→z191=z180*z180→z192=z181*z181→z193=z191+z192→z194=z3*z193→z195=z4*z180→z196=z5*z181→z197=z194+z195→z198=z197+z196→z199=z198+z6→z200=z199*z176→z201=z0+z144→z202=z144*z144→z203=z202+z148→z204=z2/z203→z205=z144*z204→z206=z16*z204→z207=z0+z205→z208=z1+z206→z209=z201*z201→z210=z209+z156→z211=z140*z210→z212=z141*z201→z213=z211+z212→z214=z213+z160→z215=z214+z143→z216=z207*z207→z217=z208*z208→z218=z216+z217→z219=z3*z218→z220=z4*z207→z221=z5*z208→z222=z219+z220→z223=z222+z221→z224=z223+z6→z225=z224*z203→z226=z1+z30→z227=z30*z30→z228=z148+z227→z229=z2/z228→z230=z16*z229→z231=z30*z229→z232=z0+z230→z233=z1+z231→z234=z226*z226→z235=z182+z234→z236=z140*z235→z237=z142*z226→z238=z236+z186→z239=z238+z237→z240=z239+z143→z241=z232*z232→z242=z233*z233→z243=z241+z242→z244=z3*z243→z245=z4*z232→z246=z5*z233→z247=z244+z245→z248=z247+z246→z249=z248+z6→z250=z249*z228→z251=z147+z147→z252=z2/z251→z253=z15*z252→z254=z0+z253→z255=z1+z253→z256=z155+z183→z257=z140*z256→z258=z257+z159→z259=z258+z187→z260=z259+z143→z261=z254*z254→z262=z255*z255→z263=z261+z262→z264=z3*z263→z265=z4*z254→z266=z5*z255→z267=z264+z265→z268=z267+z266→z269=z268+z6→z270=z269*z251→z271=z163*z163→z272=z190*z190→z273=z271+z272→z274=z215*z215→z275=z273+z274→z276=z240*z240→z277=z275+z276→z278=z260*z260→z279=z277+z278→z280=z190*z173→z281=z163*z200→z282=z280-z281→z283=z215*z173→z284=z163*z225→z285=z283-z284→z286=z215*z200→z287=z190*z225→z288=z286-z287→z289=z240*z173→z290=z163*z250→z291=z289-z290→z292=z240*z200→z293=z190*z250→z294=z292-z293→z295=z240*z225→z296=z215*z250→z297=z295-z296→z298=z260*z173→z299=z163*z270→z300=z298-z299→z301=z260*z200→z302=z190*z270→z303=z301-z302→z304=z260*z225→z305=z215*z270→z306=z304-z305→z307=z260*z250→z308=z240*z270→z309=z307-z308→z331=z329-z0→z332=z330-z1→z333=z331*z331→z334=z332*z332→z335=z333+z334→z336=z2/z335→z337=z331*z336→z338=z332*z336→z339=z0+z337→z340=z1+z338→z341=z329*z329→z342=z330*z330→z343=z341+z342→z344=z3*z343→z345=z4*z329→z346=z5*z330→z347=z344+z345→z348=z347+z346→z349=z348+z6→z350=z339*z339→z351=z340*z340→z352=z350+z351→z353=z140*z352→z354=z141*z339→z355=z142*z340→z356=z353+z354→z357=z356+z355→z358=z357+z143→z359=z141*z141→z360=z142*z142→z361=z359+z360→z362=z10*z140→z363=z362*z143→z364=z361-z363→(0 < z2)→(0 < z13)→((z140=0→z79=0)∧(¬ (z140=0)→¬ (z79=0))∧(z141=0→z124=0)∧(¬ (z141=0)→¬ (z124=0))∧(z142=0→z125=0)∧(¬ (z142=0)→¬ (z125=0))∧(z3=0→z4=0→¬ (z5=0))∧(z3=0→z140=0→z4=0→z141=0)∧(z3=0→z140=0→¬ (z4=0)→¬ (z141=0))∧(z140=0→z141=0→¬ (z142=0))∧(0 < z364)∧(¬ (z279=0))∧(z282=0)∧(z285=0)∧(z288=0)∧(z291=0)∧(z294=0)∧(z297=0)∧(z300=0)∧(z303=0)∧(z306=0)∧(z309=0)∧(¬ (z331=0∧z332=0)→z349=0→z358=0)∧(¬ (z331=0∧z332=0)→¬ (z349=0)→¬ (z358=0))∧(z3=0→z4=0→z140=0→¬ (z332=0)→¬ (z349=0))) := by
 intro e7 e8 e9 e10 e11 e12 e13 e14 e15 e16 e17 e18 e19 e20 e21 e22 e23 e24 e25 e26 e27 e28 e29 e30 e31 e32 e33 e34 e35 e36 e37 e38 e39 e40 e41 e42 e43 e44 e45 e46 e47 e48 e49 e50 e51 e56 e57 e58 e59 e60 e61 e62 e63 e64 e65 e66 e67 e68 e69 e70 e71 e72 e73 e74 e79 e81 e82 e83 e84 e85 e86 e87 e88 e89 e90 e91 e92 e93 e94 e95 e96 e97 e98 e99 e100 e101 e102 e103 e104 e105 e106 e107 e108 e109 e110 e111 e112 e113 e114 e115 e116 e117 e118 e119 e120 e121 e122 e123 e124 e125 e126 e127 e128 e132 e133 e134 e138 e140 e141 e142 e143 e144 e145 e146 e147 e148 e149 e150 e151 e152 e153 e154 e155 e156 e157 e158 e159 e160 e161 e162 e163 e164 e165 e166 e167 e168 e169 e170 e171 e172 e173 e174 e175 e176 e177 e178 e179 e180 e181 e182 e183 e184 e185 e186 e187 e188 e189 e190 e191 e192 e193 e194 e195 e196 e197 e198 e199 e200 e201 e202 e203 e204 e205 e206 e207 e208 e209 e210 e211 e212 e213 e214 e215 e216 e217 e218 e219 e220 e221 e222 e223 e224 e225 e226 e227 e228 e229 e230 e231 e232 e233 e234 e235 e236 e237 e238 e239 e240 e241 e242 e243 e244 e245 e246 e247 e248 e249 e250 e251 e252 e253 e254 e255 e256 e257 e258 e259 e260 e261 e262 e263 e264 e265 e266 e267 e268 e269 e270 e271 e272 e273 e274 e275 e276 e277 e278 e279 e280 e281 e282 e283 e284 e285 e286 e287 e288 e289 e290 e291 e292 e293 e294 e295 e296 e297 e298 e299 e300 e301 e302 e303 e304 e305 e306 e307 e308 e309 e331 e332 e333 e334 e335 e336 e337 e338 e339 e340 e341 e342 e343 e344 e345 e346 e347 e348 e349 e350 e351 e352 e353 e354 e355 e356 e357 e358 e359 e360 e361 e362 e363 e364
 intro u0 u1
 have hs : 0 < z4*z4+z5*z5 - 4*z3*z6 := by rw [e13,e12,e11,e10,e9,e7,e8] at u1; exact u1
 have R0 : z79=2*(z3*(z0*z0+z1*z1)+z4*z0+z5*z1+z6) := by
  rw [e79,e74,e73,e72,e71,e70,e69,e68,e67,e66,e65,e64,e63,e62,e61,e60,e59,e58,e57,e56,e51,e50,e49,e48,e47,e46,e45,e44,e43,e42,e41,e40,e39,e38,e37,e36,e35,e34,e33,e32,e31,e30,e29,e28,e26,e25,e24,e16,e15,e14]
  clear hs u0 u1
  grind
 have R1 : z124=2*(z2*(z4+2*z3*z0) - 2*(z3*(z0*z0+z1*z1)+z4*z0+z5*z1+z6)*z0) := by
  rw [e124,e122,e117,e116,e115,e114,e113,e112,e111,e110,e109,e108,e107,e106,e105,e104,e103,e102,e97,e96,e95,e94,e93,e92,e91,e90,e89,e88,e87,e86,e85,e84,e83,e82,e81,e71,e56,e48,e47,e41,e39,e35,e30,e29,e28,e27,e26,e25,e24,e23,e22,e21,e20,e19,e18,e17,e16,e15,e14]
  clear hs u0 u1 R0
  grind
 have R2 : z125=2*(z2*(z5+2*z3*z1) - 2*(z3*(z0*z0+z1*z1)+z4*z0+z5*z1+z6)*z1) := by
  rw [e125,e123,e121,e120,e119,e118,e114,e113,e112,e111,e110,e109,e108,e107,e106,e105,e104,e103,e102,e101,e100,e99,e98,e94,e93,e92,e91,e90,e89,e88,e87,e86,e85,e84,e83,e82,e81,e56,e47,e41,e39,e35,e30,e29,e28,e27,e26,e25,e24,e23,e22,e21,e20,e19,e18,e17,e16,e15,e14]
  clear hs u0 u1 R0 R1
  grind
 have R3 : z138=2*((z3*(z0*z0+z1*z1)+z4*z0+z5*z1+z6)*(z0*z0+z1*z1) - z2*((z4+2*z3*z0)*z0+(z5+2*z3*z1)*z1)+z3*z2*z2) := by
  rw [e138,e134,e133,e132,e128,e127,e126,e114,e113,e112,e111,e110,e109,e108,e107,e106,e105,e104,e103,e102,e94,e93,e92,e91,e90,e89,e88,e87,e86,e85,e84,e83,e82,e81,e71,e56,e41,e39,e35,e30,e28,e27,e26,e24,e23,e22,e21,e20,e19,e18,e17,e16,e14]
  clear hs u0 u1 R0 R1 R2
  grind
 have hR : Rd z0 z1 z2 z3 z4 z5 z6 z79 z124 z125 z138 := ⟨R0,R1,R2,R3⟩
 clear R0 R1 R2 R3
 have hf := tr_f hR u0 hs
 have hp := tr_pos hR u0 hs hf e140 e141 e142 e143
 have n0 : z149 ≠ 0 := by rw [e149,e147,e148,e15,e16]; decide +kernel
 have b0 := tr_ab hR e140 e141 e142 e143 n0 e147 e148 e149 e150 e145 e146 e155 e156 e157 e158 e159 e160 e161 e162 e163 e151 e152 e153 e154 e164 e165 e166 e167 e168 e169 e170 e171 e172 e173
 have n1 : z176 ≠ 0 := by rw [e176,e148,e147,e16,e15]; decide +kernel
 have b1 := tr_ab hR e140 e141 e142 e143 n1 e148 e147 e176 e177 e174 e175 e182 e183 e184 e185 e186 e187 e188 e189 e190 e178 e179 e180 e181 e191 e192 e193 e194 e195 e196 e197 e198 e199 e200
 have n2 : z203 ≠ 0 := by rw [e203,e202,e148,e144,e16]; decide +kernel
 have b2 := tr_ab hR e140 e141 e142 e143 n2 e202 e148 e203 e204 e201 e146 e209 e156 e210 e211 e212 e160 e213 e214 e215 e205 e206 e207 e208 e216 e217 e218 e219 e220 e221 e222 e223 e224 e225
 have n3 : z228 ≠ 0 := by rw [e228,e148,e227,e16,e30]; decide +kernel
 have b3 := tr_ab hR e140 e141 e142 e143 n3 e148 e227 e228 e229 e174 e226 e182 e234 e235 e236 e186 e237 e238 e239 e240 e230 e231 e232 e233 e241 e242 e243 e244 e245 e246 e247 e248 e249 e250
 have n4 : z251 ≠ 0 := by rw [e251,e147,e15]; decide +kernel
 have b4 := tr_ab hR e140 e141 e142 e143 n4 e147 e147 e251 e252 e145 e175 e155 e183 e256 e257 e159 e187 e258 e259 e260 e253 e253 e254 e255 e261 e262 e263 e264 e265 e266 e267 e268 e269 e270
 have y0 := b0.2
 rw [e15,e16] at y0
 have y1 := b1.2
 rw [e16,e15] at y1
 have y2 := b2.2
 rw [e144,e16] at y2
 have y3 := b3.2
 rw [e16,e30] at y3
 have pt := fun hv => tr_pt hR u0 hf e140 e141 e142 e143 hv e331 e332 e333 e334 e335 e336 e337 e338 e339 e340 e350 e351 e352 e353 e354 e355 e356 e357 e358 e341 e342 e343 e344 e345 e346 e347 e348 e349
 exact ⟨(fun h => (Rat.mul_eq_zero.1 (e140.symm.trans h)).resolve_right hf),(fun h e => h (by rw [e140,e,Rat.zero_mul])),(fun h => (Rat.mul_eq_zero.1 (e141.symm.trans h)).resolve_right hf),(fun h e => h (by rw [e141,e,Rat.zero_mul])),(fun h => (Rat.mul_eq_zero.1 (e142.symm.trans h)).resolve_right hf),(fun h e => h (by rw [e142,e,Rat.zero_mul])),(fun h k => tr_bc hs h k),(fun h k l => by rw [e141,(tr_line hR u0 h ((Rat.mul_eq_zero.1 (e140.symm.trans k)).resolve_right hf)).1 l,Rat.zero_mul]),(fun h k l e => (tr_line hR u0 h ((Rat.mul_eq_zero.1 (e140.symm.trans k)).resolve_right hf)).2 l ((Rat.mul_eq_zero.1 (e141.symm.trans e)).resolve_right hf)),(fun h k => tr_two hp h k),(by rw [e364,e363,e362,e361,e359,e360,e10]; exact hp),(fun h => have s := tr_s5 e271 e272 e273 e274 e275 e276 e277 e278 e279 h; tr_some u0 hs y0 y1 y2 y3 ⟨tr_no hf b0.1 s.1,tr_no hf b1.1 s.2.1,tr_no hf b2.1 s.2.2.1,tr_no hf b3.1 s.2.2.2⟩),(tr_al b0.1 b1.1 e280 e281 e282),(tr_al b0.1 b2.1 e283 e284 e285),(tr_al b1.1 b2.1 e286 e287 e288),(tr_al b0.1 b3.1 e289 e290 e291),(tr_al b1.1 b3.1 e292 e293 e294),(tr_al b2.1 b3.1 e295 e296 e297),(tr_al b0.1 b4.1 e298 e299 e300),(tr_al b1.1 b4.1 e301 e302 e303),(tr_al b2.1 b4.1 e304 e305 e306),(tr_al b3.1 b4.1 e307 e308 e309),(fun hv => (pt hv).1),(fun hv => (pt hv).2),(fun h k l m => tr_lv hR hs h k ((Rat.mul_eq_zero.1 (e140.symm.trans l)).resolve_right hf) m e332 e341 e342 e343 e344 e345 e346 e347 e348 e349)⟩
theorem tR_T (H : tR_Q q σ) : (0 < q 2)→(0 < q 13)→((q 140=0→q 79=0)∧(¬ (q 140=0)→¬ (q 79=0))∧(q 141=0→q 124=0)∧(¬ (q 141=0)→¬ (q 124=0))∧(q 142=0→q 125=0)∧(¬ (q 142=0)→¬ (q 125=0))∧(q 3=0→q 4=0→¬ (q 5=0))∧(q 3=0→q 140=0→q 4=0→q 141=0)∧(q 3=0→q 140=0→¬ (q 4=0)→¬ (q 141=0))∧(q 140=0→q 141=0→¬ (q 142=0))∧(0 < q 364)∧(¬ (q 279=0))∧(q 282=0)∧(q 285=0)∧(q 288=0)∧(q 291=0)∧(q 294=0)∧(q 297=0)∧(q 300=0)∧(q 303=0)∧(q 306=0)∧(q 309=0)∧(¬ (q 331=0∧q 332=0)→q 349=0→q 358=0)∧(¬ (q 331=0∧q 332=0)→¬ (q 349=0)→¬ (q 358=0))∧(q 3=0→q 4=0→q 140=0→¬ (q 332=0)→¬ (q 349=0))) := by
 have e7:q 7=q 4*q 4:=H 7 _ rfl;have e8:q 8=q 5*q 5:=H 8 _ rfl;have e9:q 9=q 7+q 8:=H 9 _ rfl;have e10:q 10=4:=(H 10 _ rfl).trans tR_c10;have e11:q 11=q 10*q 3:=H 11 _ rfl;have e12:q 12=q 11*q 6:=H 12 _ rfl;have e13:q 13=q 9-q 12:=H 13 _ rfl;have e14:q 14=-q 5:=H 14 _ rfl;have e15:q 15=1:=(H 15 _ rfl).trans tR_c15;have e16:q 16=0:=(H 16 _ rfl).trans tR_c16;have e17:q 17=q 16-q 0:=H 17 _ rfl;have e18:q 18=q 16-q 1:=H 18 _ rfl;have e19:q 19=q 17*q 17:=H 19 _ rfl;have e20:q 20=q 18*q 18:=H 20 _ rfl;have e21:q 21=q 19+q 20:=H 21 _ rfl;have e22:q 22=q 21-q 2:=H 22 _ rfl;have e23:q 23=-q 22:=H 23 _ rfl;have e24:q 24=-q 1:=H 24 _ rfl;have e25:q 25=-q 0:=H 25 _ rfl;have e26:q 26=-q 24:=H 26 _ rfl;have e27:q 27=-q 23:=H 27 _ rfl;have e28:q 28=-q 16:=H 28 _ rfl;have e29:q 29=-q 15:=H 29 _ rfl;have e30:q 30=2:=(H 30 _ rfl).trans tR_c30;have e31:q 31=q 25*q 3:=H 31 _ rfl;have e32:q 32=q 26*q 3:=H 32 _ rfl;have e33:q 33=q 31*q 30:=H 33 _ rfl;have e34:q 34=q 32*q 30:=H 34 _ rfl;have e35:q 35=-q 14:=H 35 _ rfl;have e36:q 36=q 29*q 4:=H 36 _ rfl;have e37:q 37=q 28*q 35:=H 37 _ rfl;have e38:q 38=q 36+q 37:=H 38 _ rfl;have e39:q 39=-q 28:=H 39 _ rfl;have e40:q 40=q 29*q 14:=H 40 _ rfl;have e41:q 41=q 39*q 4:=H 41 _ rfl;have e42:q 42=q 40-q 41:=H 42 _ rfl;have e43:q 43=q 16+q 33:=H 43 _ rfl;have e44:q 44=q 16+q 34:=H 44 _ rfl;have e45:q 45=q 43+q 38:=H 45 _ rfl;have e46:q 46=q 44+q 42:=H 46 _ rfl;have e47:q 47=-q 26:=H 47 _ rfl;have e48:q 48=-q 47:=H 48 _ rfl;have e49:q 49=q 45*q 25:=H 49 _ rfl;have e50:q 50=q 46*q 48:=H 50 _ rfl;have e51:q 51=q 49+q 50:=H 51 _ rfl;have e56:q 56=-q 35:=H 56 _ rfl;have e57:q 57=q 25*q 4:=H 57 _ rfl;have e58:q 58=q 26*q 56:=H 58 _ rfl;have e59:q 59=q 57+q 58:=H 59 _ rfl;have e60:q 60=q 25*q 35:=H 60 _ rfl;have e61:q 61=q 47*q 4:=H 61 _ rfl;have e62:q 62=q 60-q 61:=H 62 _ rfl;have e63:q 63=q 29*q 6:=H 63 _ rfl;have e64:q 64=q 28*q 6:=H 64 _ rfl;have e65:q 65=q 63*q 30:=H 65 _ rfl;have e66:q 66=q 64*q 30:=H 66 _ rfl;have e67:q 67=q 16+q 59:=H 67 _ rfl;have e68:q 68=q 16+q 62:=H 68 _ rfl;have e69:q 69=q 67+q 65:=H 69 _ rfl;have e70:q 70=q 68+q 66:=H 70 _ rfl;have e71:q 71=-q 39:=H 71 _ rfl;have e72:q 72=q 69*q 29:=H 72 _ rfl;have e73:q 73=q 70*q 71:=H 73 _ rfl;have e74:q 74=q 72+q 73:=H 74 _ rfl;have e79:q 79=q 51+q 74:=H 79 _ rfl;have e81:q 81=q 27*q 3:=H 81 _ rfl;have e82:q 82=q 28*q 3:=H 82 _ rfl;have e83:q 83=q 81*q 30:=H 83 _ rfl;have e84:q 84=q 82*q 30:=H 84 _ rfl;have e85:q 85=q 0*q 4:=H 85 _ rfl;have e86:q 86=q 1*q 35:=H 86 _ rfl;have e87:q 87=q 85+q 86:=H 87 _ rfl;have e88:q 88=q 0*q 14:=H 88 _ rfl;have e89:q 89=q 24*q 4:=H 89 _ rfl;have e90:q 90=q 88-q 89:=H 90 _ rfl;have e91:q 91=q 16+q 83:=H 91 _ rfl;have e92:q 92=q 16+q 84:=H 92 _ rfl;have e93:q 93=q 91+q 87:=H 93 _ rfl;have e94:q 94=q 92+q 90:=H 94 _ rfl;have e95:q 95=q 93*q 25:=H 95 _ rfl;have e96:q 96=q 94*q 48:=H 96 _ rfl;have e97:q 97=q 95+q 96:=H 97 _ rfl;have e98:q 98=-q 94:=H 98 _ rfl;have e99:q 99=q 93*q 47:=H 99 _ rfl;have e100:q 100=q 98*q 25:=H 100 _ rfl;have e101:q 101=q 99-q 100:=H 101 _ rfl;have e102:q 102=q 27*q 4:=H 102 _ rfl;have e103:q 103=q 28*q 56:=H 103 _ rfl;have e104:q 104=q 102+q 103:=H 104 _ rfl;have e105:q 105=q 27*q 35:=H 105 _ rfl;have e106:q 106=q 105-q 41:=H 106 _ rfl;have e107:q 107=q 0*q 6:=H 107 _ rfl;have e108:q 108=q 1*q 6:=H 108 _ rfl;have e109:q 109=q 107*q 30:=H 109 _ rfl;have e110:q 110=q 108*q 30:=H 110 _ rfl;have e111:q 111=q 16+q 104:=H 111 _ rfl;have e112:q 112=q 16+q 106:=H 112 _ rfl;have e113:q 113=q 111+q 109:=H 113 _ rfl;have e114:q 114=q 112+q 110:=H 114 _ rfl;have e115:q 115=q 113*q 29:=H 115 _ rfl;have e116:q 116=q 114*q 71:=H 116 _ rfl;have e117:q 117=q 115+q 116:=H 117 _ rfl;have e118:q 118=-q 114:=H 118 _ rfl;have e119:q 119=q 113*q 39:=H 119 _ rfl;have e120:q 120=q 118*q 29:=H 120 _ rfl;have e121:q 121=q 119-q 120:=H 121 _ rfl;have e122:q 122=q 97+q 117:=H 122 _ rfl;have e123:q 123=q 101+q 121:=H 123 _ rfl;have e124:q 124=q 122*q 30:=H 124 _ rfl;have e125:q 125=q 123*q 30:=H 125 _ rfl;have e126:q 126=q 93*q 27:=H 126 _ rfl;have e127:q 127=q 94*q 71:=H 127 _ rfl;have e128:q 128=q 126+q 127:=H 128 _ rfl;have e132:q 132=q 113*q 0:=H 132 _ rfl;have e133:q 133=q 114*q 26:=H 133 _ rfl;have e134:q 134=q 132+q 133:=H 134 _ rfl;have e138:q 138=q 128+q 134:=H 138 _ rfl;have e140:q 140=q 79*fac [q 79,q 124,q 125,q 138]:=H 140 _ rfl;have e141:q 141=q 124*fac [q 79,q 124,q 125,q 138]:=H 141 _ rfl;have e142:q 142=q 125*fac [q 79,q 124,q 125,q 138]:=H 142 _ rfl;have e143:q 143=q 138*fac [q 79,q 124,q 125,q 138]:=H 143 _ rfl;have e144:q 144=(-1):=(H 144 _ rfl).trans tR_c144;have e145:q 145=q 0+q 15:=H 145 _ rfl;have e146:q 146=q 1+q 16:=H 146 _ rfl;have e147:q 147=q 15*q 15:=H 147 _ rfl;have e148:q 148=q 16*q 16:=H 148 _ rfl;have e149:q 149=q 147+q 148:=H 149 _ rfl;have e150:q 150=q 2/q 149:=H 150 _ rfl;have e151:q 151=q 15*q 150:=H 151 _ rfl;have e152:q 152=q 16*q 150:=H 152 _ rfl;have e153:q 153=q 0+q 151:=H 153 _ rfl;have e154:q 154=q 1+q 152:=H 154 _ rfl;have e155:q 155=q 145*q 145:=H 155 _ rfl;have e156:q 156=q 146*q 146:=H 156 _ rfl;have e157:q 157=q 155+q 156:=H 157 _ rfl;have e158:q 158=q 140*q 157:=H 158 _ rfl;have e159:q 159=q 141*q 145:=H 159 _ rfl;have e160:q 160=q 142*q 146:=H 160 _ rfl;have e161:q 161=q 158+q 159:=H 161 _ rfl;have e162:q 162=q 161+q 160:=H 162 _ rfl;have e163:q 163=q 162+q 143:=H 163 _ rfl;have e164:q 164=q 153*q 153:=H 164 _ rfl;have e165:q 165=q 154*q 154:=H 165 _ rfl;have e166:q 166=q 164+q 165:=H 166 _ rfl;have e167:q 167=q 3*q 166:=H 167 _ rfl;have e168:q 168=q 4*q 153:=H 168 _ rfl;have e169:q 169=q 5*q 154:=H 169 _ rfl;have e170:q 170=q 167+q 168:=H 170 _ rfl;have e171:q 171=q 170+q 169:=H 171 _ rfl;have e172:q 172=q 171+q 6:=H 172 _ rfl;have e173:q 173=q 172*q 149:=H 173 _ rfl;have e174:q 174=q 0+q 16:=H 174 _ rfl;have e175:q 175=q 1+q 15:=H 175 _ rfl;have e176:q 176=q 148+q 147:=H 176 _ rfl;have e177:q 177=q 2/q 176:=H 177 _ rfl;have e178:q 178=q 16*q 177:=H 178 _ rfl;have e179:q 179=q 15*q 177:=H 179 _ rfl;have e180:q 180=q 0+q 178:=H 180 _ rfl;have e181:q 181=q 1+q 179:=H 181 _ rfl;have e182:q 182=q 174*q 174:=H 182 _ rfl;have e183:q 183=q 175*q 175:=H 183 _ rfl;have e184:q 184=q 182+q 183:=H 184 _ rfl;have e185:q 185=q 140*q 184:=H 185 _ rfl;have e186:q 186=q 141*q 174:=H 186 _ rfl;have e187:q 187=q 142*q 175:=H 187 _ rfl;have e188:q 188=q 185+q 186:=H 188 _ rfl;have e189:q 189=q 188+q 187:=H 189 _ rfl;have e190:q 190=q 189+q 143:=H 190 _ rfl;have e191:q 191=q 180*q 180:=H 191 _ rfl;have e192:q 192=q 181*q 181:=H 192 _ rfl;have e193:q 193=q 191+q 192:=H 193 _ rfl;have e194:q 194=q 3*q 193:=H 194 _ rfl;have e195:q 195=q 4*q 180:=H 195 _ rfl;have e196:q 196=q 5*q 181:=H 196 _ rfl;have e197:q 197=q 194+q 195:=H 197 _ rfl;have e198:q 198=q 197+q 196:=H 198 _ rfl;have e199:q 199=q 198+q 6:=H 199 _ rfl;have e200:q 200=q 199*q 176:=H 200 _ rfl;have e201:q 201=q 0+q 144:=H 201 _ rfl;have e202:q 202=q 144*q 144:=H 202 _ rfl;have e203:q 203=q 202+q 148:=H 203 _ rfl;have e204:q 204=q 2/q 203:=H 204 _ rfl;have e205:q 205=q 144*q 204:=H 205 _ rfl;have e206:q 206=q 16*q 204:=H 206 _ rfl;have e207:q 207=q 0+q 205:=H 207 _ rfl;have e208:q 208=q 1+q 206:=H 208 _ rfl;have e209:q 209=q 201*q 201:=H 209 _ rfl;have e210:q 210=q 209+q 156:=H 210 _ rfl;have e211:q 211=q 140*q 210:=H 211 _ rfl;have e212:q 212=q 141*q 201:=H 212 _ rfl;have e213:q 213=q 211+q 212:=H 213 _ rfl;have e214:q 214=q 213+q 160:=H 214 _ rfl;have e215:q 215=q 214+q 143:=H 215 _ rfl;have e216:q 216=q 207*q 207:=H 216 _ rfl;have e217:q 217=q 208*q 208:=H 217 _ rfl;have e218:q 218=q 216+q 217:=H 218 _ rfl;have e219:q 219=q 3*q 218:=H 219 _ rfl;have e220:q 220=q 4*q 207:=H 220 _ rfl;have e221:q 221=q 5*q 208:=H 221 _ rfl;have e222:q 222=q 219+q 220:=H 222 _ rfl;have e223:q 223=q 222+q 221:=H 223 _ rfl;have e224:q 224=q 223+q 6:=H 224 _ rfl;have e225:q 225=q 224*q 203:=H 225 _ rfl;have e226:q 226=q 1+q 30:=H 226 _ rfl;have e227:q 227=q 30*q 30:=H 227 _ rfl;have e228:q 228=q 148+q 227:=H 228 _ rfl;have e229:q 229=q 2/q 228:=H 229 _ rfl;have e230:q 230=q 16*q 229:=H 230 _ rfl;have e231:q 231=q 30*q 229:=H 231 _ rfl;have e232:q 232=q 0+q 230:=H 232 _ rfl;have e233:q 233=q 1+q 231:=H 233 _ rfl;have e234:q 234=q 226*q 226:=H 234 _ rfl;have e235:q 235=q 182+q 234:=H 235 _ rfl;have e236:q 236=q 140*q 235:=H 236 _ rfl;have e237:q 237=q 142*q 226:=H 237 _ rfl;have e238:q 238=q 236+q 186:=H 238 _ rfl;have e239:q 239=q 238+q 237:=H 239 _ rfl;have e240:q 240=q 239+q 143:=H 240 _ rfl;have e241:q 241=q 232*q 232:=H 241 _ rfl;have e242:q 242=q 233*q 233:=H 242 _ rfl;have e243:q 243=q 241+q 242:=H 243 _ rfl;have e244:q 244=q 3*q 243:=H 244 _ rfl;have e245:q 245=q 4*q 232:=H 245 _ rfl;have e246:q 246=q 5*q 233:=H 246 _ rfl;have e247:q 247=q 244+q 245:=H 247 _ rfl;have e248:q 248=q 247+q 246:=H 248 _ rfl;have e249:q 249=q 248+q 6:=H 249 _ rfl;have e250:q 250=q 249*q 228:=H 250 _ rfl;have e251:q 251=q 147+q 147:=H 251 _ rfl;have e252:q 252=q 2/q 251:=H 252 _ rfl;have e253:q 253=q 15*q 252:=H 253 _ rfl;have e254:q 254=q 0+q 253:=H 254 _ rfl;have e255:q 255=q 1+q 253:=H 255 _ rfl;have e256:q 256=q 155+q 183:=H 256 _ rfl;have e257:q 257=q 140*q 256:=H 257 _ rfl;have e258:q 258=q 257+q 159:=H 258 _ rfl;have e259:q 259=q 258+q 187:=H 259 _ rfl;have e260:q 260=q 259+q 143:=H 260 _ rfl;have e261:q 261=q 254*q 254:=H 261 _ rfl;have e262:q 262=q 255*q 255:=H 262 _ rfl;have e263:q 263=q 261+q 262:=H 263 _ rfl;have e264:q 264=q 3*q 263:=H 264 _ rfl;have e265:q 265=q 4*q 254:=H 265 _ rfl;have e266:q 266=q 5*q 255:=H 266 _ rfl;have e267:q 267=q 264+q 265:=H 267 _ rfl;have e268:q 268=q 267+q 266:=H 268 _ rfl;have e269:q 269=q 268+q 6:=H 269 _ rfl;have e270:q 270=q 269*q 251:=H 270 _ rfl;have e271:q 271=q 163*q 163:=H 271 _ rfl;have e272:q 272=q 190*q 190:=H 272 _ rfl;have e273:q 273=q 271+q 272:=H 273 _ rfl;have e274:q 274=q 215*q 215:=H 274 _ rfl;have e275:q 275=q 273+q 274:=H 275 _ rfl;have e276:q 276=q 240*q 240:=H 276 _ rfl;have e277:q 277=q 275+q 276:=H 277 _ rfl;have e278:q 278=q 260*q 260:=H 278 _ rfl;have e279:q 279=q 277+q 278:=H 279 _ rfl;have e280:q 280=q 190*q 173:=H 280 _ rfl;have e281:q 281=q 163*q 200:=H 281 _ rfl;have e282:q 282=q 280-q 281:=H 282 _ rfl;have e283:q 283=q 215*q 173:=H 283 _ rfl;have e284:q 284=q 163*q 225:=H 284 _ rfl;have e285:q 285=q 283-q 284:=H 285 _ rfl;have e286:q 286=q 215*q 200:=H 286 _ rfl;have e287:q 287=q 190*q 225:=H 287 _ rfl;have e288:q 288=q 286-q 287:=H 288 _ rfl;have e289:q 289=q 240*q 173:=H 289 _ rfl;have e290:q 290=q 163*q 250:=H 290 _ rfl;have e291:q 291=q 289-q 290:=H 291 _ rfl;have e292:q 292=q 240*q 200:=H 292 _ rfl;have e293:q 293=q 190*q 250:=H 293 _ rfl;have e294:q 294=q 292-q 293:=H 294 _ rfl;have e295:q 295=q 240*q 225:=H 295 _ rfl;have e296:q 296=q 215*q 250:=H 296 _ rfl;have e297:q 297=q 295-q 296:=H 297 _ rfl;have e298:q 298=q 260*q 173:=H 298 _ rfl;have e299:q 299=q 163*q 270:=H 299 _ rfl;have e300:q 300=q 298-q 299:=H 300 _ rfl;have e301:q 301=q 260*q 200:=H 301 _ rfl;have e302:q 302=q 190*q 270:=H 302 _ rfl;have e303:q 303=q 301-q 302:=H 303 _ rfl;have e304:q 304=q 260*q 225:=H 304 _ rfl;have e305:q 305=q 215*q 270:=H 305 _ rfl;have e306:q 306=q 304-q 305:=H 306 _ rfl;have e307:q 307=q 260*q 250:=H 307 _ rfl;have e308:q 308=q 240*q 270:=H 308 _ rfl;have e309:q 309=q 307-q 308:=H 309 _ rfl;have e331:q 331=q 329-q 0:=H 331 _ rfl;have e332:q 332=q 330-q 1:=H 332 _ rfl;have e333:q 333=q 331*q 331:=H 333 _ rfl;have e334:q 334=q 332*q 332:=H 334 _ rfl;have e335:q 335=q 333+q 334:=H 335 _ rfl;have e336:q 336=q 2/q 335:=H 336 _ rfl;have e337:q 337=q 331*q 336:=H 337 _ rfl;have e338:q 338=q 332*q 336:=H 338 _ rfl;have e339:q 339=q 0+q 337:=H 339 _ rfl;have e340:q 340=q 1+q 338:=H 340 _ rfl;have e341:q 341=q 329*q 329:=H 341 _ rfl;have e342:q 342=q 330*q 330:=H 342 _ rfl;have e343:q 343=q 341+q 342:=H 343 _ rfl;have e344:q 344=q 3*q 343:=H 344 _ rfl;have e345:q 345=q 4*q 329:=H 345 _ rfl;have e346:q 346=q 5*q 330:=H 346 _ rfl;have e347:q 347=q 344+q 345:=H 347 _ rfl;have e348:q 348=q 347+q 346:=H 348 _ rfl;have e349:q 349=q 348+q 6:=H 349 _ rfl;have e350:q 350=q 339*q 339:=H 350 _ rfl;have e351:q 351=q 340*q 340:=H 351 _ rfl;have e352:q 352=q 350+q 351:=H 352 _ rfl;have e353:q 353=q 140*q 352:=H 353 _ rfl;have e354:q 354=q 141*q 339:=H 354 _ rfl;have e355:q 355=q 142*q 340:=H 355 _ rfl;have e356:q 356=q 353+q 354:=H 356 _ rfl;have e357:q 357=q 356+q 355:=H 357 _ rfl;have e358:q 358=q 357+q 143:=H 358 _ rfl;have e359:q 359=q 141*q 141:=H 359 _ rfl;have e360:q 360=q 142*q 142:=H 360 _ rfl;have e361:q 361=q 359+q 360:=H 361 _ rfl;have e362:q 362=q 10*q 140:=H 362 _ rfl;have e363:q 363=q 362*q 143:=H 363 _ rfl;have e364:q 364=q 361-q 363:=H 364 _ rfl
 exact tR_Tz e7 e8 e9 e10 e11 e12 e13 e14 e15 e16 e17 e18 e19 e20 e21 e22 e23 e24 e25 e26 e27 e28 e29 e30 e31 e32 e33 e34 e35 e36 e37 e38 e39 e40 e41 e42 e43 e44 e45 e46 e47 e48 e49 e50 e51 e56 e57 e58 e59 e60 e61 e62 e63 e64 e65 e66 e67 e68 e69 e70 e71 e72 e73 e74 e79 e81 e82 e83 e84 e85 e86 e87 e88 e89 e90 e91 e92 e93 e94 e95 e96 e97 e98 e99 e100 e101 e102 e103 e104 e105 e106 e107 e108 e109 e110 e111 e112 e113 e114 e115 e116 e117 e118 e119 e120 e121 e122 e123 e124 e125 e126 e127 e128 e132 e133 e134 e138 e140 e141 e142 e143 e144 e145 e146 e147 e148 e149 e150 e151 e152 e153 e154 e155 e156 e157 e158 e159 e160 e161 e162 e163 e164 e165 e166 e167 e168 e169 e170 e171 e172 e173 e174 e175 e176 e177 e178 e179 e180 e181 e182 e183 e184 e185 e186 e187 e188 e189 e190 e191 e192 e193 e194 e195 e196 e197 e198 e199 e200 e201 e202 e203 e204 e205 e206 e207 e208 e209 e210 e211 e212 e213 e214 e215 e216 e217 e218 e219 e220 e221 e222 e223 e224 e225 e226 e227 e228 e229 e230 e231 e232 e233 e234 e235 e236 e237 e238 e239 e240 e241 e242 e243 e244 e245 e246 e247 e248 e249 e250 e251 e252 e253 e254 e255 e256 e257 e258 e259 e260 e261 e262 e263 e264 e265 e266 e267 e268 e269 e270 e271 e272 e273 e274 e275 e276 e277 e278 e279 e280 e281 e282 e283 e284 e285 e286 e287 e288 e289 e290 e291 e292 e293 e294 e295 e296 e297 e298 e299 e300 e301 e302 e303 e304 e305 e306 e307 e308 e309 e331 e332 e333 e334 e335 e336 e337 e338 e339 e340 e341 e342 e343 e344 e345 e346 e347 e348 e349 e350 e351 e352 e353 e354 e355 e356 e357 e358 e359 e360 e361 e362 e363 e364
theorem tR_S (H : tR_Q q σ) : (¬ (0 < q 13))→(q 3=0)→((q 4=0)∧(q 5=0)) := by
 have e7:q 7=q 4*q 4:=H 7 _ rfl;have e8:q 8=q 5*q 5:=H 8 _ rfl;have e9:q 9=q 7+q 8:=H 9 _ rfl;have e10:q 10=4:=(H 10 _ rfl).trans tR_c10;have e11:q 11=q 10*q 3:=H 11 _ rfl;have e12:q 12=q 11*q 6:=H 12 _ rfl;have e13:q 13=q 9-q 12:=H 13 _ rfl
 clear H
 intro u1 h
 rw [e13,e12,e11,e10,e9,e7,e8] at u1
 exact tr_flat u1 h
def tR_cs : List (FuncId × Nat) := [(178,60),(22,61),(23,62),(170,64)]
def tR_G : Memo := [(20,[tA [140,141,142,143],rA [339,340]],r1 358),(20,[pA [3,4,5,6],rA [329,330]],r1 349),(20,[pA [3,4,5,6],rA [254,255]],r1 269),(20,[tA [140,141,142,143],rA [145,175]],r1 260),(20,[pA [3,4,5,6],rA [232,233]],r1 249),(20,[tA [140,141,142,143],rA [174,226]],r1 240),(20,[pA [3,4,5,6],rA [207,208]],r1 224),(20,[tA [140,141,142,143],rA [201,146]],r1 215),(20,[pA [3,4,5,6],rA [180,181]],r1 199),(20,[tA [140,141,142,143],rA [174,175]],r1 190),(20,[pA [3,4,5,6],rA [153,154]],r1 172),(20,[tA [140,141,142,143],rA [145,146]],r1 163),(51,[qA [79,124,125,138]],tA [140,141,142,143]),(50,[qA [0,1,2]],(false,[(true,[.inr (0,1,0,0,0),.inr (0,2,0,0,0),.inr (0,3,0,0,0),.inr (0,1,1,0,0),.inr (0,2,1,0,0),.inr (0,3,1,0,0),.inr (0,1,23,0,0),.inr (0,2,23,0,0),.inr (0,3,23,0,0),.inl (.bool false),.inl (.slice none 0 0),.inl (.slice none 0 0),.inr (0,1,15,0,0),.inr (0,2,15,0,0),.inr (0,3,15,0,0),.inl (.bool false),.inl (.slice none 0 0),.inl (.slice none 0 0),.inr (0,1,25,0,0),.inr (0,2,25,0,0),.inr (0,3,25,0,0),.inr (0,1,26,0,0),.inr (0,2,26,0,0),.inr (0,3,26,0,0)])]))]
theorem tR_g0 : memoChk (sx Tryz.prog tR_N [] [] tR_L tR_C tR_Z (prC [8])) tR_cs 6 14 (tR_G.drop 0)=true := by kernel_rfl
theorem tR_memoG {q : Nat→Rat} {σ : Nat→ByteArray} {w : World} (hσ : ∀ j,(σ j).size≤1048576) (hq : ∀ (a : Nat) nd,tR_N[a]? = some nd→q a=valN σ q nd) (h0 : ∀ a,tR_N.length≤a→q a=0) (hp : PreS w) : MemoAll tR_N tR_L tR_C tR_Z q σ [8] w tR_G := by
 have Y : Hy tR_N [] tR_L tR_C tR_Z q σ := hy_ofW hσ tR_wf tR_sz tR_lt tR_cn hq h0 trivial
 have hc : ∀ f ∈ ([8] : List FuncId),Closed f := by simp [closed_turned]
 have hm : (Tryz.prog).follows .mixedOrders=true := by kernel_rfl
 exact (memoAll_chk (M := tR_G.drop 0) Y hc hm hp 14 tR_g0 memoAll_nil)
def tR_H0 : List (Nat × Nat × Nat × Nat) := [(2,2,0,1),(2,13,0,1),(0,3,0,1),(0,4,0,1),(0,5,0,0),(0,140,0,1),(0,141,0,1),(0,142,0,0),(0,79,0,1),(0,124,0,1),(0,125,0,0),(0,279,0,0),(0,328,0,1),(0,331,0,1),(0,332,0,1)]
def tR_H1 : List (Nat × Nat × Nat × Nat) := [(2,2,0,1),(2,13,0,1),(0,3,0,1),(0,4,0,1),(0,5,0,0),(0,140,0,1),(0,141,0,1),(0,142,0,0),(0,79,0,1),(0,124,0,1),(0,125,0,0),(0,279,0,0),(0,328,0,1),(0,331,0,1),(0,332,0,0),(0,349,0,0),(0,358,0,0)]
def tR_H2 : List (Nat × Nat × Nat × Nat) := [(2,2,0,1),(2,13,0,1),(0,3,0,1),(0,4,0,1),(0,5,0,0),(0,140,0,1),(0,141,0,1),(0,142,0,0),(0,79,0,1),(0,124,0,1),(0,125,0,0),(0,279,0,0),(0,328,0,1),(0,331,0,0),(0,349,0,1),(0,358,0,1)]
def tR_H3 : List (Nat × Nat × Nat × Nat) := [(2,2,0,1),(2,13,0,1),(0,3,0,1),(0,4,0,1),(0,5,0,0),(0,140,0,1),(0,141,0,1),(0,142,0,0),(0,79,0,1),(0,124,0,1),(0,125,0,0),(0,279,0,0),(0,328,0,1),(0,331,0,0),(0,349,0,0),(0,358,0,0)]
def tR_H4 : List (Nat × Nat × Nat × Nat) := [(2,2,0,1),(2,13,0,1),(0,3,0,1),(0,4,0,1),(0,5,0,0),(0,140,0,0),(2,364,0,1),(0,79,0,0),(0,279,0,0),(0,328,0,1),(0,331,0,1),(0,332,0,1)]
def tR_H5 : List (Nat × Nat × Nat × Nat) := [(2,2,0,1),(2,13,0,1),(0,3,0,1),(0,4,0,1),(0,5,0,0),(0,140,0,0),(2,364,0,1),(0,79,0,0),(0,279,0,0),(0,328,0,1),(0,331,0,1),(0,332,0,0),(0,349,0,1),(0,358,0,1)]
def tR_H6 : List (Nat × Nat × Nat × Nat) := [(2,2,0,1),(2,13,0,1),(0,3,0,1),(0,4,0,1),(0,5,0,0),(0,140,0,0),(2,364,0,1),(0,79,0,0),(0,279,0,0),(0,328,0,1),(0,331,0,1),(0,332,0,0),(0,349,0,0),(0,358,0,0)]
def tR_H7 : List (Nat × Nat × Nat × Nat) := [(2,2,0,1),(2,13,0,1),(0,3,0,1),(0,4,0,1),(0,5,0,0),(0,140,0,0),(2,364,0,1),(0,79,0,0),(0,279,0,0),(0,328,0,1),(0,331,0,0),(0,349,0,1),(0,358,0,1)]
def tR_H8 : List (Nat × Nat × Nat × Nat) := [(2,2,0,1),(2,13,0,1),(0,3,0,1),(0,4,0,1),(0,5,0,0),(0,140,0,0),(2,364,0,1),(0,79,0,0),(0,279,0,0),(0,328,0,1),(0,331,0,0),(0,349,0,0),(0,358,0,0)]
def tR_H9 : List (Nat × Nat × Nat × Nat) := [(2,2,0,1),(2,13,0,1),(0,3,0,1),(0,4,0,0),(0,140,0,1),(0,141,0,0),(0,79,0,1),(0,124,0,0),(0,279,0,0),(0,328,0,1),(0,331,0,1),(0,332,0,1)]
def tR_H10 : List (Nat × Nat × Nat × Nat) := [(2,2,0,1),(2,13,0,1),(0,3,0,1),(0,4,0,0),(0,140,0,1),(0,141,0,0),(0,79,0,1),(0,124,0,0),(0,279,0,0),(0,328,0,1),(0,331,0,1),(0,332,0,0),(0,349,0,1),(0,358,0,1)]
def tR_H11 : List (Nat × Nat × Nat × Nat) := [(2,2,0,1),(2,13,0,1),(0,3,0,1),(0,4,0,0),(0,140,0,1),(0,141,0,0),(0,79,0,1),(0,124,0,0),(0,279,0,0),(0,328,0,1),(0,331,0,1),(0,332,0,0),(0,349,0,0),(0,358,0,0)]
def tR_H12 : List (Nat × Nat × Nat × Nat) := [(2,2,0,1),(2,13,0,1),(0,3,0,1),(0,4,0,0),(0,140,0,1),(0,141,0,0),(0,79,0,1),(0,124,0,0),(0,279,0,0),(0,328,0,1),(0,331,0,0),(0,349,0,1),(0,358,0,1)]
def tR_H13 : List (Nat × Nat × Nat × Nat) := [(2,2,0,1),(2,13,0,1),(0,3,0,1),(0,4,0,0),(0,140,0,1),(0,141,0,0),(0,79,0,1),(0,124,0,0),(0,279,0,0),(0,328,0,1),(0,331,0,0),(0,349,0,0),(0,358,0,0)]
def tR_H14 : List (Nat × Nat × Nat × Nat) := [(2,2,0,1),(2,13,0,1),(0,3,0,1),(0,4,0,0),(0,140,0,0),(2,364,0,1),(0,79,0,0),(0,279,0,0),(0,328,0,1),(0,331,0,1),(0,332,0,1)]
def tR_H15 : List (Nat × Nat × Nat × Nat) := [(2,2,0,1),(2,13,0,1),(0,3,0,1),(0,4,0,0),(0,140,0,0),(2,364,0,1),(0,79,0,0),(0,279,0,0),(0,328,0,1),(0,331,0,1),(0,332,0,0),(0,349,0,1),(0,358,0,1)]
def tR_H16 : List (Nat × Nat × Nat × Nat) := [(2,2,0,1),(2,13,0,1),(0,3,0,1),(0,4,0,0),(0,140,0,0),(2,364,0,1),(0,79,0,0),(0,279,0,0),(0,328,0,1),(0,331,0,1),(0,332,0,0),(0,349,0,0),(0,358,0,0)]
def tR_H17 : List (Nat × Nat × Nat × Nat) := [(2,2,0,1),(2,13,0,1),(0,3,0,1),(0,4,0,0),(0,140,0,0),(2,364,0,1),(0,79,0,0),(0,279,0,0),(0,328,0,1),(0,331,0,0),(0,349,0,1),(0,358,0,1)]
def tR_H18 : List (Nat × Nat × Nat × Nat) := [(2,2,0,1),(2,13,0,1),(0,3,0,1),(0,4,0,0),(0,140,0,0),(2,364,0,1),(0,79,0,0),(0,279,0,0),(0,328,0,1),(0,331,0,0),(0,349,0,0),(0,358,0,0)]
def tR_H19 : List (Nat × Nat × Nat × Nat) := [(2,2,0,1),(2,13,0,1),(0,3,0,0),(0,140,0,1),(0,141,0,1),(0,142,0,0),(0,79,0,1),(0,124,0,1),(0,125,0,0),(0,279,0,0),(0,328,0,1),(0,331,0,1),(0,332,0,1)]
def tR_H20 : List (Nat × Nat × Nat × Nat) := [(2,2,0,1),(2,13,0,1),(0,3,0,0),(0,140,0,1),(0,141,0,1),(0,142,0,0),(0,79,0,1),(0,124,0,1),(0,125,0,0),(0,279,0,0),(0,328,0,1),(0,331,0,1),(0,332,0,0),(0,349,0,1),(0,358,0,1)]
def tR_H21 : List (Nat × Nat × Nat × Nat) := [(2,2,0,1),(2,13,0,1),(0,3,0,0),(0,140,0,1),(0,141,0,1),(0,142,0,0),(0,79,0,1),(0,124,0,1),(0,125,0,0),(0,279,0,0),(0,328,0,1),(0,331,0,1),(0,332,0,0),(0,349,0,0),(0,358,0,0)]
def tR_H22 : List (Nat × Nat × Nat × Nat) := [(2,2,0,1),(2,13,0,1),(0,3,0,0),(0,140,0,1),(0,141,0,1),(0,142,0,0),(0,79,0,1),(0,124,0,1),(0,125,0,0),(0,279,0,0),(0,328,0,1),(0,331,0,0),(0,349,0,1),(0,358,0,1)]
def tR_H23 : List (Nat × Nat × Nat × Nat) := [(2,2,0,1),(2,13,0,1),(0,3,0,0),(0,140,0,1),(0,141,0,1),(0,142,0,0),(0,79,0,1),(0,124,0,1),(0,125,0,0),(0,279,0,0),(0,328,0,1),(0,331,0,0),(0,349,0,0),(0,358,0,0)]
def tR_H24 : List (Nat × Nat × Nat × Nat) := [(2,2,0,1),(2,13,0,1),(0,3,0,0),(0,140,0,1),(0,141,0,0),(0,79,0,1),(0,124,0,0),(0,279,0,0),(0,328,0,1),(0,331,0,1),(0,332,0,1)]
def tR_H25 : List (Nat × Nat × Nat × Nat) := [(2,2,0,1),(2,13,0,1),(0,3,0,0),(0,140,0,1),(0,141,0,0),(0,79,0,1),(0,124,0,0),(0,279,0,0),(0,328,0,1),(0,331,0,1),(0,332,0,0),(0,349,0,1),(0,358,0,1)]
def tR_H26 : List (Nat × Nat × Nat × Nat) := [(2,2,0,1),(2,13,0,1),(0,3,0,0),(0,140,0,1),(0,141,0,0),(0,79,0,1),(0,124,0,0),(0,279,0,0),(0,328,0,1),(0,331,0,1),(0,332,0,0),(0,349,0,0),(0,358,0,0)]
def tR_H27 : List (Nat × Nat × Nat × Nat) := [(2,2,0,1),(2,13,0,1),(0,3,0,0),(0,140,0,1),(0,141,0,0),(0,79,0,1),(0,124,0,0),(0,279,0,0),(0,328,0,1),(0,331,0,0),(0,349,0,1),(0,358,0,1)]
def tR_H28 : List (Nat × Nat × Nat × Nat) := [(2,2,0,1),(2,13,0,1),(0,3,0,0),(0,140,0,1),(0,141,0,0),(0,79,0,1),(0,124,0,0),(0,279,0,0),(0,328,0,1),(0,331,0,0),(0,349,0,0),(0,358,0,0)]
def tR_H29 : List (Nat × Nat × Nat × Nat) := [(2,2,0,1),(2,13,0,1),(0,3,0,0),(0,140,0,0),(2,364,0,1),(0,79,0,0),(0,279,0,0),(0,328,0,1),(0,331,0,1),(0,332,0,1)]
def tR_H30 : List (Nat × Nat × Nat × Nat) := [(2,2,0,1),(2,13,0,1),(0,3,0,0),(0,140,0,0),(2,364,0,1),(0,79,0,0),(0,279,0,0),(0,328,0,1),(0,331,0,1),(0,332,0,0),(0,349,0,1),(0,358,0,1)]
def tR_H31 : List (Nat × Nat × Nat × Nat) := [(2,2,0,1),(2,13,0,1),(0,3,0,0),(0,140,0,0),(2,364,0,1),(0,79,0,0),(0,279,0,0),(0,328,0,1),(0,331,0,1),(0,332,0,0),(0,349,0,0),(0,358,0,0)]
def tR_H32 : List (Nat × Nat × Nat × Nat) := [(2,2,0,1),(2,13,0,1),(0,3,0,0),(0,140,0,0),(2,364,0,1),(0,79,0,0),(0,279,0,0),(0,328,0,1),(0,331,0,0),(0,349,0,1),(0,358,0,1)]
def tR_H33 : List (Nat × Nat × Nat × Nat) := [(2,2,0,1),(2,13,0,1),(0,3,0,0),(0,140,0,0),(2,364,0,1),(0,79,0,0),(0,279,0,0),(0,328,0,1),(0,331,0,0),(0,349,0,0),(0,358,0,0)]
def tR_H34 : List (Nat × Nat × Nat × Nat) := [(2,2,0,1),(2,13,0,0),(0,3,0,1),(0,4,0,1),(0,5,0,1)]
def tR_H35 : List (Nat × Nat × Nat × Nat) := [(2,2,0,1),(2,13,0,0),(0,3,0,0)]
def tR_H36 : List (Nat × Nat × Nat × Nat) := [(2,2,0,0)]
end Go.Proofs.YtjfodeihndjpjaaGreatDoor
