/- Part 13 of the walks and of the mathematics under them: VP VPC VPD VPE VY VSZ VSA CFconed MKT. -/
import Derived.Test.YtjfodeihndjpjaaGreatDoorA2
import Derived.Test.YtjfodeihndjpjaaGreatDoorA12
set_option maxHeartbeats 16000000
set_option maxRecDepth 100000
/- VP -/
namespace Cx
open Go Go.RowKit
abbrev Hs := List (Nat × Nat × Nat × Nat)
def Sx.plus (S : Sx) (X : Hs) : Sx := { S with H := X ++ S.H }
abbrev Ask := Nat × Nat × Nat × Nat
def askZ (a : Nat) : Ask := (0,a,0,a)
def askOk (S : Sx) : Ask→Bool
 | (k,a,b,d) => (Nat.beq k 0 && (Nat.beq b 0 && Nat.beq d a)) || (Nat.beq k 3 && (match S.N[d]? with
  | some (op,ar) => Nat.beq op 3 && beqL ar [a,b]
  | none => false))
def acrossB (S : Sx) (a b : Nat) : List Nat→List Nat→Option (List Ask)
 | c :: l,d :: m => (S.nd 4 [a,d]).bind fun x => (S.nd 4 [c,b]).bind fun y => (S.nd 3 [x,y]).bind fun z => (acrossB S a b l m).map fun r => (3,x,y,z) :: r
 | _,_ => some []
def alikeB (S : Sx) : List Nat→List Nat→List Nat→List Nat→Option (List Ask)
 | pl,pm,a :: l,b :: m => (acrossB S a b pl pm).bind fun r => (alikeB S (pl ++ [a]) (pm ++ [b]) l m).map fun t => r ++ t
 | _,_,_,_ => some []
def sameA (S : Sx) : List Nat→List Nat→Option (List Ask)
 | a :: l,b :: m => (S.nd 3 [a,b]).bind fun d => (sameA S l m).map fun r => (3,a,b,d) :: r
 | _,_ => some []
def asks (S : Sx) (h : List HB) (code : Nat) (args : List AV) : Option (List Ask) :=
 match code with
 | 60 => arg1 (fun x => (asA x).bind fun cs => (qRow S cs).map fun l => l.map askZ) args
 | 61 => arg1 (fun x => (rowB h 1 x).bind fun p => (mapO (acX 0) p.2).map fun l => l.map askZ) args
 | 62 => arg2 (fun x y => (rowB h 1 x).bind fun p => (mapO (acX 0) p.2).bind fun l => (rowB h 1 y).bind fun p' => (mapO (acX 0) p'.2).bind fun m => alikeB S [] [] l m) args
 | 63 => arg1 (fun x => (asA x).bind fun cs => (mapO acTold cs).bind fun l => (plainOf S l).map fun xs => xs.map askZ) args
 | 67 => arg1 (fun x => (asA x).bind fun cs => (mapO (txNode S) (cs.take 3)).map fun l => l.map askZ) args
 | 65 => arg1 (fun x => (asA x).bind fun cs => (mapO (acX 0) cs).map fun l => l.map askZ) args
 | 66 => arg2 (fun x y => (asA x).bind fun cs => (asA y).bind fun ds => (mapO (acX 0) cs).bind fun l => (mapO (acX 0) ds).bind fun m => sameA S l m) args
 | 64 => arg1 (fun x => (asA x).bind fun cs => (qRow S cs).map fun l => (l.take 5).map askZ) args
 | _ => none
def splits : List Ask→Hs→List Hs
 | [],_ => []
 | (k,a,b,_) :: l,X => ((k,a,b,0) :: X) :: splits l ((k,a,b,1) :: X)
def allZ : List Ask→Hs→Hs
 | [],X => X
 | (k,a,b,_) :: l,X => allZ l ((k,a,b,1) :: X)
def bodyC (S : Sx) (call : CallF) : CallF := fun f args h nx => S.P.funcs[f]?.bind fun fn => fn.body.bind fun c => ifO (Nat.ble args.length fn.ntmps) ((runB S call fn.ntmps c { tm := numb1 0 args,h := h,nx := nx }).bind fun r =>
   ifO (Nat.ble r.1 1) ((mapO (resB S.P r.2) fn.results.toList).map fun xs => (tupB xs,r.2.h,r.2.nx)))
abbrev CRes := Option (AV × List HB × Nat)
def agree (h : List HB) (b : Bool) (hi : Nat) : CRes→Bool
 | some (v,h',nx') => (match asB v with
  | some c => b == c
  | none => false) && (Nat.ble nx' hi && h.all fun x => h'.any fun y => Nat.beq y.1 x.1 && acsW x.2 y.2)
 | none => false
def topN : Nat→List CRes→Nat
 | m,[] => m
 | m,some p :: rs => topN (bif Nat.ble m p.2.2 then p.2.2 else m) rs
 | m,none :: rs => topN m rs
def joinC (h : List HB) (nx : Nat) (rs : List CRes) : CRes :=
 match rs with
 | some p :: _ => (asB p.1).bind fun b => ifO (rs.all (agree h b (topN nx rs))) (some (kB b,h,topN nx rs))
 | _ => none
def askIt (S : Sx) (X : Hs) (h : List HB) (c : Nat) (args : List AV) : Option (List Ask × Nat) :=
 (asks (S.plus X) h c args).bind fun l => ifO (l.all (askOk S)) ((sqN S (l.map (·.2.2.2))).bind fun s => ((S.plus X).kn 0 s 0).map fun r => (l,r))
theorem askIt_some {S : Sx} {X : Hs} {h : List HB} {c : Nat} {args : List AV} {l : List Ask} {r : Nat} (e : askIt S X h c args=some (l,r)) : (∀ a ∈ l,askOk S a=true)∧∃ s,sqN S (l.map (·.2.2.2))=some s∧(S.plus X).kn 0 s 0=some r := by
 unfold askIt at e
 simp only [Option.bind_eq_some_iff,ifO_some,Option.map_eq_some_iff,List.all_eq_true,Prod.mk.injEq] at e
 obtain ⟨l',_,h1,s,h2,r',h3,rfl,rfl⟩ := e
 exact ⟨h1,s,h2,h3⟩
def callC (S : Sx) (cs : List (FuncId × Nat)) : Nat→Hs→CallF
 | 0,_,_,_,_,_ => none
 | n+1,X,f,args,h,nx => match prGet f cs with
  | none => bodyC (S.plus X) (callC S cs n X) f args h nx
  | some c => match askIt S X h c args with
   | none => bodyC (S.plus X) (callC S cs n X) f args h nx
   | some (l,r) => bif Nat.beq 1 r then bodyC (S.plus (allZ l X)) (callC S cs n (allZ l X)) f args h nx
    else joinC h nx ((splits l X).map fun X' => bodyC (S.plus X') (callC S cs n X') f args h nx)
section
variable {S : Sx} {E : Ev S.nb} {w0 : World}
theorem bodyC_ok {call : CallF} (hm : S.P.follows .mixedOrders=true) (N : Knows S E) (hP : PrimOk S E w0) (hC : CallOk S E w0 call) : CallOk S E w0 (bodyC S call) := fun f args h nx p hp γ w vs hi hA hb hlt hf => by
 unfold bodyC at hp
 simp only [Option.bind_eq_some_iff,ifO_some,Option.map_eq_some_iff,Nat.ble_eq] at hp
 obtain ⟨fn,h1,c,h2,h3,⟨e,s'⟩,h4,h5,xs,h6,rfl⟩ := hp
 dsimp only at h5 h6
 rcases (show e=0 ∨ e=1 by omega) with rfl | rfl
 all_goals
  obtain ⟨_,_,r⟩ := runB_ok hm N hP hC c _ _ _ h4
  refine calls_of_wp h1 h2 (r γ _ w _ ⟨hi,fun t v q => ?_,hb,hlt,?_,rfl⟩ hf fun a' w' γ' hef hs => ?_)
  ·obtain ⟨_,q2⟩ := numb1_get q
   rw [Nat.sub_zero] at q2
   obtain ⟨u,hu,hv⟩ := hA.get q2
   have hlt : t < vs.length := (List.getElem?_eq_some_iff.1 hu).1
   have : (vs.toArray ++ Array.replicate (fn.ntmps - vs.toArray.size) undef).getD t undef=u := by
    rw [Array.getD_eq_getD_getElem?,Array.getElem?_append_left (by simpa using hlt)]
    simp [hu]
   show avOn _ v ((vs.toArray ++ Array.replicate (fn.ntmps - vs.toArray.size) undef).getD t undef)
   rw [this]
   exact hv
  ·have := hA.len
   simp
   omega
  ·obtain ⟨v,hv,hx⟩ := results_run hs h6
   exact ⟨hs.df,v,hv,v,γ',rfl,hef,hx,hs.bx⟩
theorem asB_kB {v : AV} {b : Bool} (h : asB v=some b) : v=kB b := by
 unfold asB at h
 rw [Option.bind_eq_some_iff] at h
 obtain ⟨c,h1,h2⟩ := h
 unfold asC at h1
 split at h1
 ·cases h1
  unfold acB at h2
  split at h2
  ·cases h2
   rfl
  ·cases h2
 ·cases h1
theorem agree_some {h : List HB} {b : Bool} {hi : Nat} {r : CRes} (hr : agree h b hi r=true) : ∃ h' nx',r=some (kB b,h',nx')∧nx'≤hi∧∀ x ∈ h,x ∈ h' := by
 unfold agree at hr
 split at hr
 ·rename_i v h' nx'
  rw [Bool.and_eq_true,Bool.and_eq_true,Nat.ble_eq,List.all_eq_true] at hr
  obtain ⟨h1,h2,h3⟩ := hr
  refine ⟨h',nx',?_,h2,fun x hx => ?_⟩
  ·split at h1
   ·rename_i c hc
    rw [asB_kB hc,show c=b from (by simpa using h1 : b=c).symm]
   ·cases h1
  ·have := h3 x hx
   rw [List.any_eq_true] at this
   obtain ⟨y,hy,e⟩ := this
   rw [Bool.and_eq_true,Nat.beq_eq] at e
   have : x=y := Prod.ext e.1.symm (acsW_eq e.2)
   rw [this]
   exact hy
 ·cases hr
variable {T : Hs→Prop} {z : Nat→Prop}
def AskTrue (S : Sx) (T : Hs→Prop) (z : Nat→Prop) : Prop := ∀ X,T X→∀ a,askOk S a=true→(z a.2.2.2→T ((a.1,a.2.1,a.2.2.1,1) :: X))∧(¬ z a.2.2.2→T ((a.1,a.2.1,a.2.2.1,0) :: X))
theorem allZ_true (hk : AskTrue S T z) : ∀ {l : List Ask} {X : Hs},T X→(∀ a ∈ l,askOk S a=true)→(∀ a ∈ l,z a.2.2.2)→T (allZ l X)
 | [],_,h,_,_ => h
 | (k,a,b,d) :: l,X,h,ho,hz => allZ_true (l := l) hk ((hk X h (k,a,b,d) (ho _ List.mem_cons_self)).1 (hz _ List.mem_cons_self)) (fun a ha => ho a (List.mem_cons_of_mem _ ha)) (fun a ha => hz a (List.mem_cons_of_mem _ ha))
theorem splits_true (hk : AskTrue S T z) : ∀ {l : List Ask} {X : Hs},T X→(∀ a ∈ l,askOk S a=true)→(∃ a ∈ l,¬ z a.2.2.2)→∃ X' ∈ splits l X,T X'
 | [],_,_,_,⟨_,h,_⟩ => by cases h
 | (k,a,b,d) :: l,X,h,ho,hz => by
  by_cases e : z d
  ·obtain ⟨X',h1,h2⟩ := splits_true (l := l) hk ((hk X h (k,a,b,d) (ho _ List.mem_cons_self)).1 e) (fun a ha => ho a (List.mem_cons_of_mem _ ha)) (by
    obtain ⟨c,hc,hn⟩ := hz
    rcases List.mem_cons.1 hc with rfl | hc
    ·exact (hn e).elim
    ·exact ⟨c,hc,hn⟩)
   exact ⟨X',List.mem_cons_of_mem _ h1,h2⟩
  ·exact ⟨_,List.mem_cons_self,(hk X h (k,a,b,d) (ho _ List.mem_cons_self)).2 e⟩
theorem callC_ok {cs : List (FuncId × Nat)} (hm : S.P.follows .mixedOrders=true) (hN : ∀ X,T X→Knows (S.plus X) E) (hP : ∀ X,T X→PrimOk (S.plus X) E w0) (hk : AskTrue S T z)
  (hs : ∀ X,T X→∀ l s r,sqN S l=some s→(S.plus X).kn 0 s 0=some r→(Nat.beq 1 r=true→∀ d ∈ l,z d)∧(Nat.beq 1 r=false→∃ d ∈ l,¬ z d)) : ∀ n X,T X→CallOk S E w0 (callC S cs n X)
 | 0,_,_ => fun _ _ _ _ _ h => by cases h
 | n+1,X,hX => fun f args h nx p hp => by
  have body : ∀ Y,T Y→CallOk S E w0 (bodyC (S.plus Y) (callC S cs n Y)) := fun Y hY => bodyC_ok (S := S.plus Y) hm (hN Y hY) (hP Y hY) (callC_ok hm hN hP hk hs n Y hY)
  unfold callC at hp
  split at hp
  ·exact body X hX f args h nx p hp
  ·split at hp
   ·exact body X hX f args h nx p hp
   rename_i l r hk'
   obtain ⟨hl,s,h1,h2⟩ := askIt_some hk'
   have h3 := hp
   obtain ⟨a1,a0⟩ := hs X hX _ s r h1 h2
   cases e : Nat.beq 1 r with
   | true =>
    rw [e] at h3
    exact body _ (allZ_true hk hX hl fun a ha => a1 e _ (List.mem_map_of_mem ha)) f args h nx p h3
   | false =>
    rw [e] at h3
    obtain ⟨d,hd,hz⟩ := a0 e
    obtain ⟨a,ha,rfl⟩ := List.mem_map.1 hd
    obtain ⟨X',m1,m2⟩ := splits_true hk hX hl ⟨a,ha,hz⟩
    replace h3 : joinC h nx ((splits l X).map fun X' => bodyC (S.plus X') (callC S cs n X') f args h nx)=some p := h3
    unfold joinC at h3
    split at h3
    ·rename_i p0 rs hrs
     rw [Option.bind_eq_some_iff] at h3
     obtain ⟨b,hb,h4⟩ := h3
     rw [ifO_some,List.all_eq_true] at h4
     obtain ⟨h5,h6⟩ := h4
     cases h6
     obtain ⟨h',nx',q1,q2,q3⟩ := agree_some (h5 _ (List.mem_map_of_mem m1))
     intro γ w vs hi hA hb hlt hf
     refine (body X' m2 f args h nx _ q1 γ w vs hi hA hb hlt fun b g1 g2 => hf b g1 (Nat.lt_of_lt_of_le g2 q2)).mono ?_
     rintro _ w' ⟨r',γ',rfl,hef,hv,hx⟩
     exact ⟨r',γ',rfl,hef.wide (Nat.le_refl _) q2,hv,fun x hh => hx x (q3 x hh)⟩
    ·cases h3
end
end Cx
/- VPC -/
namespace Go.Proofs.YtjfodeihndjpjaaGreatDoor
open Cx Go Go.RowKit
section
variable {N : List Nd} {H : List (Nat × Nat × Nat × Nat)} {K : List (FuncId × List AC)} {L C : List (List Nat × Nat)} {Z : List Nat} {q : Nat→Rat} {σ : Nat→ByteArray} {w0 : World} {cl : List FuncId} {cs pr : List (FuncId × Nat)}
theorem kn_cons {k a b k' a' b' r' : Nat} {r : Nat} (h : knFrom k a b ((k',a',b',r') :: H)=some r) : (k=k'∧a=a'∧b=b'∧r=r') ∨ knFrom k a b H=some r := by
 unfold knFrom at h
 cases e : (Nat.beq k k' && (Nat.beq a a' && Nat.beq b b')) with
 | true =>
  rw [e] at h
  simp only [Bool.and_eq_true,Nat.beq_eq] at e
  exact Or.inl ⟨e.1,e.2.1,e.2.2,(Option.some.inj h).symm⟩
 | false =>
  rw [e] at h
  exact Or.inr h
theorem Hy.add0 (Y : Hy N H L C Z q σ) {a r : Nat} (h : Nat.beq 1 r=true ↔ q a=0) : Hy N ((0,a,0,r) :: H) L C Z q σ where
 nat := Y.nat
 qs := Y.qs
 zs := Y.zs
 par := Y.par
 lit := Y.lit
 k0 := fun a' r' g => by
  rcases kn_cons g with ⟨_,e1,_,e2⟩ | g
  ·rw [e1,e2]
   exact h
  ·exact Y.k0 a' r' g
 k1 := fun a' r' g => by
  rcases kn_cons g with ⟨e,_⟩ | g
  ·cases e
  ·exact Y.k1 a' r' g
 k2 := fun a' r' g => by
  rcases kn_cons g with ⟨e,_⟩ | g
  ·cases e
  ·exact Y.k2 a' r' g
 k4 := fun l a' b' r' g1 g => by
  rcases kn_cons g with ⟨e,_⟩ | g
  ·cases e
  ·exact Y.k4 l a' b' r' g1 g
 k3 := fun a' b' r' g => by
  rcases kn_cons g with ⟨e,_⟩ | g
  ·cases e
  ·exact Y.k3 a' b' r' g
 k6 := fun a' b' r' g => by
  rcases kn_cons g with ⟨e,_⟩ | g
  ·cases e
  ·exact Y.k6 a' b' r' g
 k5 := fun a' r' g => by
  rcases kn_cons g with ⟨e,_⟩ | g
  ·cases e
  ·exact Y.k5 a' r' g
theorem Hy.add3 (Y : Hy N H L C Z q σ) {a b r : Nat} (h : Nat.beq 1 r=true ↔ q a=q b) : Hy N ((3,a,b,r) :: H) L C Z q σ where
 nat := Y.nat
 qs := Y.qs
 zs := Y.zs
 par := Y.par
 lit := Y.lit
 k0 := fun a' r' g => by
  rcases kn_cons g with ⟨e,_⟩ | g
  ·cases e
  ·exact Y.k0 a' r' g
 k1 := fun a' r' g => by
  rcases kn_cons g with ⟨e,_⟩ | g
  ·cases e
  ·exact Y.k1 a' r' g
 k2 := fun a' r' g => by
  rcases kn_cons g with ⟨e,_⟩ | g
  ·cases e
  ·exact Y.k2 a' r' g
 k4 := fun l a' b' r' g1 g => by
  rcases kn_cons g with ⟨e,_⟩ | g
  ·cases e
  ·exact Y.k4 l a' b' r' g1 g
 k3 := fun a' b' r' g => by
  rcases kn_cons g with ⟨_,e1,e2,e3⟩ | g
  ·rw [e1,e2,e3]
   exact h
  ·exact Y.k3 a' b' r' g
 k6 := fun a' b' r' g => by
  rcases kn_cons g with ⟨e,_⟩ | g
  ·cases e
  ·exact Y.k6 a' b' r' g
 k5 := fun a' r' g => by
  rcases kn_cons g with ⟨e,_⟩ | g
  ·cases e
  ·exact Y.k5 a' r' g
theorem ask_true : AskTrue (sx Tryz.prog N H K L C Z pr) (fun X => Hy N (X ++ H) L C Z q σ) (fun d => q d=0) := fun X Y a ha => by
 obtain ⟨k,a,b,d⟩ := a
 have t1 : Nat.beq 1 1=true := rfl
 have t0 : Nat.beq 1 0 ≠ true := fun h => by cases h
 unfold askOk at ha
 rw [Bool.or_eq_true] at ha
 rcases ha with ha | ha
 ·simp only [Bool.and_eq_true,Nat.beq_eq] at ha
  obtain ⟨rfl,rfl,rfl⟩ := ha
  exact ⟨fun h => Hy.add0 Y ⟨fun _ => h,fun _ => t1⟩,fun h => Hy.add0 Y ⟨fun g => (t0 g).elim,fun g => (h g).elim⟩⟩
 ·rw [Bool.and_eq_true,Nat.beq_eq] at ha
  obtain ⟨rfl,hb⟩ := ha
  split at hb
  ·rename_i op ar hn
   rw [Bool.and_eq_true,Nat.beq_eq] at hb
   obtain ⟨rfl,hb⟩ := hb
   have e := beqL_eq hb
   subst e
   have hv : q d=q a - q b := Y.nat d _ hn
   have h2 : q d=0 ↔ q a=q b := by
    rw [hv]
    constructor <;> intro h <;> grind
   exact ⟨fun h => Hy.add3 Y ⟨fun _ => h2.1 h,fun _ => t1⟩,fun h => Hy.add3 Y ⟨fun g => (t0 g).elim,fun g => (h (h2.2 g)).elim⟩⟩
  ·cases hb
theorem sq_nn (y : Rat) : 0≤y*y := by
 by_cases h : y=0
 ·rw [h,Rat.zero_mul]
  exact Rat.le_refl
 ·exact Rat.le_of_lt (sq1_pos h)
theorem sq_sum {x y : Rat} (hx : 0≤x) : x+y*y=0 ↔ x=0∧y=0 := by
 constructor
 ·intro h
  have h2 := sq_nn y
  have h3 : x=0 := by grind
  refine ⟨h3,?_⟩
  have : y*y=0 := by grind
  rcases Rat.mul_eq_zero.1 this with g | g <;> exact g
 ·rintro ⟨rfl,rfl⟩
  grind
theorem sqF_val {H' : List (Nat × Nat × Nat × Nat)} (Y : Hy N H' L C Z q σ) : ∀ {l : List Nat} {s t : Nat},sqF (sx Tryz.prog N H K L C Z pr) s l=some t→0≤q s→0≤q t∧(q t=0 ↔ q s=0∧∀ d ∈ l,q d=0)
 | [],s,t,h,hs => by
  cases h
  exact ⟨hs,fun e => ⟨e,fun d hd => by cases hd⟩,fun e => e.1⟩
 | a :: l,s,t,h,hs => by
  unfold sqF at h
  simp only [Option.bind_eq_some_iff] at h
  obtain ⟨b,h1,c,h2,h3⟩ := h
  have e1 : q b=q a*q a := Hy.nd (H := H') (K := K) (pr := pr) Y h1
  have e2 : q c=q s+q b := Hy.nd (H := H') (K := K) (pr := pr) Y h2
  have n := sq_nn (q a)
  obtain ⟨g1,g2⟩ := sqF_val Y h3 (by grind)
  refine ⟨g1,g2.trans ?_⟩
  have e3 := sq_sum (y := q a) hs
  rw [e2,e1,e3]
  constructor
  ·rintro ⟨⟨x,y⟩,z⟩
   refine ⟨x,fun d hd => ?_⟩
   rcases List.mem_cons.1 hd with rfl | hd
   ·exact y
   ·exact z d hd
  ·rintro ⟨x,y⟩
   exact ⟨⟨x,y a List.mem_cons_self⟩,fun d hd => y d (List.mem_cons_of_mem _ hd)⟩
theorem sqN_val {H' : List (Nat × Nat × Nat × Nat)} (Y : Hy N H' L C Z q σ) {l : List Nat} {s : Nat} (h : sqN (sx Tryz.prog N H K L C Z pr) l=some s) : q s=0 ↔ ∀ d ∈ l,q d=0 := by
 unfold sqN at h
 split at h
 ·cases h
 ·rename_i a l
  rw [Option.bind_eq_some_iff] at h
  obtain ⟨b,h1,h2⟩ := h
  have e1 : q b=q a*q a := Hy.nd (H := H') (K := K) (pr := pr) Y h1
  have n := sq_nn (q a)
  obtain ⟨_,g⟩ := sqF_val Y h2 (by grind)
  rw [g,e1]
  constructor
  ·rintro ⟨x,y⟩ d hd
   rcases List.mem_cons.1 hd with rfl | hd
   ·rcases Rat.mul_eq_zero.1 x with x | x <;> exact x
   ·exact y d hd
  ·intro y
   refine ⟨?_,fun d hd => y d (List.mem_cons_of_mem _ hd)⟩
   rw [y a List.mem_cons_self,Rat.zero_mul]
theorem run_cases {f : FuncId} {args : List AV} {vs : List Value} {k : Nat} {p : List HB × Nat} {b : Bool} (Y : Hy N H L C Z q σ) (hm : (Tryz.prog).follows .mixedOrders=true) {w : World} (hP : ∀ H',Hy N H' L C Z q σ→PrimOk (sx Tryz.prog N H' K L C Z pr) (evS q σ) w) (hr : callC (sx Tryz.prog N H K L C Z pr) cs k [] f args [] 0=some (kB b,p))
  (hA : A2 (avOn (cOn (evS q σ) K (fun _ => none) w)) args vs) : Calls Tryz.prog f vs.toArray w fun e w' => Below w.heap.size w w'∧e=.returned (.bool b) := by
 refine (callC_ok (S := sx Tryz.prog N H K L C Z pr) (E := evS q σ) (w0 := w) (T := fun X => Hy N (X ++ H) L C Z q σ) (z := fun d => q d=0) hm (fun X hX => knows hX) (fun X hX => hP _ hX) ask_true ?_ k [] Y f args [] 0 (kB b,p) hr (fun _ => none) w vs ⟨Below.refl _ _,(fun _ _ h => by cases h)⟩ hA (fun x hx => by cases hx) (fun x hx => by cases hx) (fun _ _ _ => rfl)).mono ?_
 ·intro X hX l s r h1 h2
  have e := hX.k0 s r h2
  have g := sqN_val hX h1
  refine ⟨fun h => g.1 (e.1 h),fun h => ?_⟩
  have hn : ¬ ∀ d ∈ l,q d=0 := fun q' => by
   rw [e.2 (g.2 q')] at h
   cases h
  simpa using hn
 ·rintro _ w' ⟨r,γ',rfl,hef,hv,_⟩
  exact ⟨hef.wi.bel,by rw [show r=.bool b from (asC_on (v := kB b) (c := .inl (.bool b)) rfl hv).1]⟩
theorem run_toldC {f : FuncId} {args : List AV} {vs : List Value} {k : Nat} {p : List HB × Nat} {b : Bool} (Y : Hy N H L C Z q σ) (hc : ∀ f ∈ cl,Closed f) (hm : (Tryz.prog).follows .mixedOrders=true) (hr : callC (sx Tryz.prog N H K L C Z (prC cl)) cs k [] f args [] 0=some (kB b,p)) {w : World} (hp : PreS w)
  (hA : A2 (avOn (cOn (evS q σ) K (fun _ => none) w)) args vs) : Calls Tryz.prog f vs.toArray w fun e w' => Below w.heap.size w w'∧e=.returned (.bool b) := run_cases Y hm (fun _ Y' => primOk Y' hp hc) hr hA
theorem run_toldC' {f : FuncId} {args : List AV} {vs : List Value} (k : Nat) (Y : Hy N H L C Z q σ) (hc : ∀ f ∈ cl,Closed f) (hm : (Tryz.prog).follows .mixedOrders=true) (hr : (callC (sx Tryz.prog N H K L C Z (prC cl)) cs k [] f args [] 0).map (·.1)=some (kB true)) {w : World} (hp : PreS w)
  (hA : A2 (avOn (cOn (evS q σ) K (fun _ => none) w)) args vs) : Calls Tryz.prog f vs.toArray w fun e w' => Below w.heap.size w w'∧e=.returned (.bool true) := by
 rw [Option.map_eq_some_iff] at hr
 obtain ⟨⟨v,p⟩,h1,h2⟩ := hr
 dsimp only at h2
 subst h2
 exact run_toldC Y hc hm h1 hp hA
end
end Go.Proofs.YtjfodeihndjpjaaGreatDoor
/- VPD -/
namespace Cx
open Go Go.RowKit
def a1sB : List A1→List A1→Bool
 | [],[] => true
 | (a,x) :: l,(b,y) :: m => (a == b && acsW x y) && a1sB l m
 | _,_ => false
theorem a1sB_eq : ∀ {l m : List A1},a1sB l m=true→l=m
 | [],[],_ => rfl
 | (a,x) :: l,(b,y) :: m,h => by
  unfold a1sB at h
  simp only [Bool.and_eq_true,beq_iff_eq] at h
  obtain ⟨⟨h1,h2⟩,h3⟩ := h
  rw [h1,acsW_eq h2,a1sB_eq h3]
 | [],_ :: _,h => by cases h
 | _ :: _,[],h => by cases h
def avsB : List AV→List AV→Bool
 | [],[] => true
 | (a,x) :: l,(b,y) :: m => (a == b && a1sB x y) && avsB l m
 | _,_ => false
theorem avsB_eq : ∀ {l m : List AV},avsB l m=true→l=m
 | [],[],_ => rfl
 | (a,x) :: l,(b,y) :: m,h => by
  unfold avsB at h
  simp only [Bool.and_eq_true,beq_iff_eq] at h
  obtain ⟨⟨h1,h2⟩,h3⟩ := h
  rw [h1,a1sB_eq h2,avsB_eq h3]
 | [],_ :: _,h => by cases h
 | _ :: _,[],h => by cases h
abbrev Memo := List (FuncId × List AV × AV)
def memoGet (f : FuncId) (args : List AV) : Memo→Option AV
 | [] => none
 | (g,bs,v) :: m => bif Nat.beq f g && avsB args bs then some v else memoGet f args m
theorem memoGet_mem {f : FuncId} {args : List AV} {v : AV} : ∀ {m : Memo},memoGet f args m=some v→(f,args,v) ∈ m
 | [],h => by cases h
 | (g,bs,u) :: m,h => by
  unfold memoGet at h
  cases e : (Nat.beq f g && avsB args bs) with
  | true =>
   rw [e] at h
   rw [Bool.and_eq_true,Nat.beq_eq] at e
   rw [e.1,avsB_eq e.2,show u=v from Option.some.inj h]
   exact List.mem_cons_self
  | false =>
   rw [e] at h
   exact List.mem_cons_of_mem _ (memoGet_mem h)
def bareC : AC→Bool
 | .inl _ => true
 | .inr (k,_) => Nat.ble k 2
def bareV (v : AV) : Bool := v.2.all fun x => x.2.all bareC
def callD (S : Sx) (cs : List (FuncId × Nat)) (M : Memo) : Nat→Hs→CallF
 | 0,_,_,_,_,_ => none
 | n+1,X,f,args,h,nx => match memoGet f args M with
  | some v => some (v,h,nx)
  | none => match prGet f cs with
   | none => bodyC (S.plus X) (callD S cs M n X) f args h nx
   | some c => match askIt S X h c args with
    | none => bodyC (S.plus X) (callD S cs M n X) f args h nx
    | some (l,r) => bif Nat.beq 1 r then bodyC (S.plus (allZ l X)) (callD S cs M n (allZ l X)) f args h nx
     else joinC h nx ((splits l X).map fun X' => bodyC (S.plus X') (callD S cs M n X') f args h nx)
def MemoOk (S : Sx) (E : Ev S.nb) (w0 : World) (M : Memo) : Prop := ∀ f args v,(f,args,v) ∈ M→∀ (γ : Nat→Option Nat) (w : World) (vs : List Value),WI w0 γ w→A2 (avOn (cOn E S.K γ w)) args vs →
 Calls S.P f vs.toArray w fun e w' => ∃ r,e=.returned r∧(∀ wr nx,(∀ b ∈ wr,Live γ b)→Ef S.nb w0 wr nx nx γ w γ w')∧avOn (cOn E S.K γ w') v r
section
variable {S : Sx} {E : Ev S.nb} {w0 : World}
theorem bareC_on {K K' : List (FuncId × List AC)} {γ γ' : Nat→Option Nat} {w : World} {d : Nat} {c : AC} {v : Value} (hc : bareC c=true) (h : cellOn E K γ w d c v) : cellOn E K' γ' w d c v := by
 cases c with
 | inl u =>
  unfold cellOn at h ⊢
  exact h
 | inr t =>
  obtain ⟨k,a,b,n,c⟩ := t
  have hk : k≤2 := by
   unfold bareC at hc
   rw [Nat.ble_eq] at hc
   exact hc
  match k,hk with
  | 0,_ =>
   unfold cellOn at h ⊢
   exact h
  | 1,_ =>
   unfold cellOn at h ⊢
   exact h
  | 2,_ =>
   unfold cellOn at h ⊢
   exact h
theorem A2_imp {α : Type} {R R' : α→Value→Prop} {P : α→Prop} (h : ∀ a v,P a→R a v→R' a v) : ∀ {l : List α} {vs : List Value},(∀ a ∈ l,P a)→A2 R l vs→A2 R' l vs
 | [],[],_,_ => trivial
 | _ :: _,_ :: _,hp,q => ⟨h _ _ (hp _ List.mem_cons_self) q.1,A2_imp h (fun a ha => hp a (List.mem_cons_of_mem _ ha)) q.2⟩
 | [],_ :: _,_,q => q.elim
 | _ :: _,[],_,q => q.elim
theorem bareV_on {K K' : List (FuncId × List AC)} {γ γ' : Nat→Option Nat} {w : World} {x : AV} {v : Value} (hx : bareV x=true) (h : avOn (cOn E K γ w) x v) : avOn (cOn E K' γ' w) x v := by
 unfold bareV at hx
 rw [List.all_eq_true] at hx
 have one : ∀ (y : A1) u,(∀ c ∈ y.2,bareC c=true)→a1On (cOn E K γ w) y u→a1On (cOn E K' γ' w) y u := fun y u hy q => by
  obtain ⟨b,cs⟩ := y
  cases b with
  | true =>
   obtain ⟨us,e,q⟩ := q
   exact ⟨us,e,A2_imp (P := fun c => bareC c=true) (fun _ _ hc q => bareC_on hc q) hy q⟩
  | false => exact A2_imp (P := fun c => bareC c=true) (fun _ _ hc q => bareC_on hc q) hy q
 have all : ∀ y ∈ x.2,∀ c ∈ y.2,bareC c=true := fun y hy c hc => (List.all_eq_true.1 (hx y hy)) c hc
 obtain ⟨b,ys⟩ := x
 cases b with
 | true =>
  obtain ⟨us,e,q⟩ := h
  exact ⟨us,e,A2_imp (P := fun y : A1 => ∀ c ∈ y.2,bareC c=true) (fun y u hy q => one y u hy q) all q⟩
 | false => exact A2_imp (P := fun y : A1 => ∀ c ∈ y.2,bareC c=true) (fun y u hy q => one y u hy q) all h
variable {T : Hs→Prop} {z : Nat→Prop}
theorem callD_ok {cs : List (FuncId × Nat)} {M : Memo} (hm : S.P.follows .mixedOrders=true) (hM : MemoOk S E w0 M) (hN : ∀ X,T X→Knows (S.plus X) E) (hP : ∀ X,T X→PrimOk (S.plus X) E w0) (hk : AskTrue S T z)
  (hs : ∀ X,T X→∀ l s r,sqN S l=some s→(S.plus X).kn 0 s 0=some r→(Nat.beq 1 r=true→∀ d ∈ l,z d)∧(Nat.beq 1 r=false→∃ d ∈ l,¬ z d)) : ∀ n X,T X→CallOk S E w0 (callD S cs M n X)
 | 0,_,_ => fun _ _ _ _ _ h => by cases h
 | n+1,X,hX => fun f args h nx p hp => by
  have body : ∀ Y,T Y→CallOk S E w0 (bodyC (S.plus Y) (callD S cs M n Y)) := fun Y hY => bodyC_ok (S := S.plus Y) hm (hN Y hY) (hP Y hY) (callD_ok hm hM hN hP hk hs n Y hY)
  unfold callD at hp
  split at hp
  ·rename_i v hv
   cases hp
   intro γ w vs hi hA hb hlt hf
   refine (hM f args v (memoGet_mem hv) γ w vs hi hA).mono ?_
   rintro _ w' ⟨r,rfl,hef,hr⟩
   have live : ∀ b ∈ h.map (·.1),Live γ b := fun b hb' => by
    obtain ⟨x,hx,rfl⟩ := List.mem_map.1 hb'
    obtain ⟨_,_,_,_,hl,_⟩ := hb x hx
    exact hl
   exact ⟨r,γ,rfl,hef _ _ live,hr,fun x hx => (hef [] nx no_live).box hi (hb x hx) (by simp)⟩
  ·split at hp
   ·exact body X hX f args h nx p hp
   ·split at hp
    ·exact body X hX f args h nx p hp
    rename_i l r hk'
    obtain ⟨hl,s,h1,h2⟩ := askIt_some hk'
    have h3 := hp
    obtain ⟨a1,a0⟩ := hs X hX _ s r h1 h2
    cases e : Nat.beq 1 r with
    | true =>
     rw [e] at h3
     exact body _ (allZ_true hk hX hl fun a ha => a1 e _ (List.mem_map_of_mem ha)) f args h nx p h3
    | false =>
     rw [e] at h3
     obtain ⟨d,hd,hz⟩ := a0 e
     obtain ⟨a,ha,rfl⟩ := List.mem_map.1 hd
     obtain ⟨X',m1,m2⟩ := splits_true hk hX hl ⟨a,ha,hz⟩
     replace h3 : joinC h nx ((splits l X).map fun X' => bodyC (S.plus X') (callD S cs M n X') f args h nx)=some p := h3
     unfold joinC at h3
     split at h3
     ·rename_i p0 rs hrs
      rw [Option.bind_eq_some_iff] at h3
      obtain ⟨b,hb,h4⟩ := h3
      rw [ifO_some,List.all_eq_true] at h4
      obtain ⟨h5,h6⟩ := h4
      cases h6
      obtain ⟨h',nx',q1,q2,q3⟩ := agree_some (h5 _ (List.mem_map_of_mem m1))
      intro γ w vs hi hA hb hlt hf
      refine (body X' m2 f args h nx _ q1 γ w vs hi hA hb hlt fun b g1 g2 => hf b g1 (Nat.lt_of_lt_of_le g2 q2)).mono ?_
      rintro _ w' ⟨r',γ',rfl,hef,hv,hx⟩
      exact ⟨r',γ',rfl,hef.wide (Nat.le_refl _) q2,hv,fun x hh => hx x (q3 x hh)⟩
     ·cases h3
theorem memo_run {K1 K2 : List (FuncId × List AC)} {H1 H2 : Hs} {M : Memo} {f : FuncId} {args : List AV} {v : AV} {p : List HB × Nat} {call : CallF} (hC : CallOk { S with H := H1,K := K1 } E w0 call) (hr : call f args [] 0=some (v,p)) (ha : args.all bareV=true) (hv : bareV v=true) (hM : MemoOk { S with H := H2,K := K2 } E w0 M) : MemoOk { S with H := H2,K := K2 } E w0 ((f,args,v) :: M) := fun g bs u hmem => by
 rcases List.mem_cons.1 hmem with e | hmem
 ·cases e
  intro γ w vs hi hA
  rw [List.all_eq_true] at ha
  refine (hC f args [] 0 (v,p) hr (fun _ => none) w vs ⟨hi.bel,(fun _ _ h => by cases h)⟩ (A2_imp (P := fun x => bareV x=true) (fun _ _ hx q => bareV_on hx q) ha hA) (fun x hx => by cases hx) (fun x hx => by cases hx) (fun _ _ _ => rfl)).mono ?_
  rintro _ w' ⟨r,γ',rfl,hef,hr,_⟩
  refine ⟨r,rfl,fun wr nx hl => ⟨leG.refl _,fun _ _ => rfl,fun _ _ h => Or.inl h,⟨hef.wi.bel,fun b G q => ⟨(hi.lo b G q).1,Nat.lt_of_lt_of_le (hi.lo b G q).2 hef.gr.size⟩⟩,hef.gr,fun G hG _ => hef.keep G hG (fun b hb => by cases hb),hl⟩,bareV_on hv hr⟩
 ·exact hM g bs u hmem
def memoOne (S : Sx) (cs : List (FuncId × Nat)) (k : Nat) : Memo→Bool
 | (f,args,v) :: M => (match callD S cs M k [] f args [] 0 with
  | some (u,_) => avsB [u] [v]
  | none => false) && (args.all bareV && bareV v)
 | [] => false
def memoChk (S : Sx) (cs : List (FuncId × Nat)) (k : Nat) : Nat→Memo→Bool
 | 0,_ => true
 | n+1,M => memoOne S cs k M && memoChk S cs k n M.tail
def qA (l : List Nat) : AV := (false,[(true,l.flatMap qCells)])
def tA (l : List Nat) : AV := (false,[(true,l.map fun a => .inr (1,a,0,0,0))])
theorem memo_nil : MemoOk S E w0 [] := fun _ _ _ h => by cases h
end
end Cx
/- VPE -/
namespace Go.Proofs.YtjfodeihndjpjaaGreatDoor
open Cx Go Go.RowKit
section
variable {N : List Nd} {H : List (Nat × Nat × Nat × Nat)} {K : List (FuncId × List AC)} {L C : List (List Nat × Nat)} {Z : List Nat} {q : Nat→Rat} {σ : Nat→ByteArray} {cl : List FuncId} {cs pr : List (FuncId × Nat)} {M : Memo} {w : World}
theorem callD_told (Y : Hy N H L C Z q σ) (hc : ∀ f ∈ cl,Closed f) (hm : (Tryz.prog).follows .mixedOrders=true) (hp : PreS w) (hM : MemoOk (sx Tryz.prog N H K L C Z (prC cl)) (evS q σ) w M) (k : Nat) : CallOk (sx Tryz.prog N H K L C Z (prC cl)) (evS q σ) w (callD (sx Tryz.prog N H K L C Z (prC cl)) cs M k []) :=
 callD_ok (S := sx Tryz.prog N H K L C Z (prC cl)) (E := evS q σ) (w0 := w) (T := fun X => Hy N (X ++ H) L C Z q σ) (z := fun d => q d=0) hm hM (fun X hX => knows hX) (fun X hX => primOk hX hp hc) ask_true (fun X hX l s r h1 h2 => by
  have e := hX.k0 s r h2
  have g := sqN_val hX h1
  refine ⟨fun h => g.1 (e.1 h),fun h => ?_⟩
  have hn : ¬ ∀ d ∈ l,q d=0 := fun q' => by
   rw [e.2 (g.2 q')] at h
   cases h
  simpa using hn) k [] Y
def MemoAll (N : List Nd) (L C : List (List Nat × Nat)) (Z : List Nat) (q : Nat→Rat) (σ : Nat→ByteArray) (cl : List FuncId) (w : World) (M : Memo) : Prop := ∀ H K,MemoOk (sx Tryz.prog N H K L C Z (prC cl)) (evS q σ) w M
theorem memoAll_nil : MemoAll N L C Z q σ cl w [] := fun _ _ => memo_nil
theorem memoAll_cons {H1 : List (Nat × Nat × Nat × Nat)} (Y : Hy N H1 L C Z q σ) (hc : ∀ f ∈ cl,Closed f) (hm : (Tryz.prog).follows .mixedOrders=true) (hp : PreS w) {f : FuncId} {args : List AV} {v : AV} (k : Nat) (hr : memoOne (sx Tryz.prog N H1 [] L C Z (prC cl)) cs k ((f,args,v) :: M)=true) (hM : MemoAll N L C Z q σ cl w M) : MemoAll N L C Z q σ cl w ((f,args,v) :: M) := fun H K => by
 unfold memoOne at hr
 simp only [Bool.and_eq_true] at hr
 obtain ⟨h1,h2,h3⟩ := hr
 split at h1
 ·rename_i u p hu
  have e := avsB_eq h1
  cases e
  exact memo_run (S := sx Tryz.prog N H K L C Z (prC cl)) (K1 := []) (H1 := H1) (K2 := K) (H2 := H) (callD_told (K := []) (cs := cs) Y hc hm hp (hM H1 []) k) hu h2 h3 (hM H K)
 ·cases h1
theorem memoAll_drop {i : Nat} {H1 : List (Nat × Nat × Nat × Nat)} (Y : Hy N H1 L C Z q σ) (hc : ∀ f ∈ cl,Closed f) (hm : (Tryz.prog).follows .mixedOrders=true) (hp : PreS w) {k : Nat} (hr : memoOne (sx Tryz.prog N H1 [] L C Z (prC cl)) cs k (M.drop i)=true) (hM : MemoAll N L C Z q σ cl w (M.drop (i+1))) : MemoAll N L C Z q σ cl w (M.drop i) := by
 rw [← List.tail_drop] at hM
 generalize M.drop i=D at *
 match D with
 | [] => cases hr
 | (f,args,v) :: D => exact memoAll_cons Y hc hm hp k hr hM
theorem memoAll_chk {H1 : List (Nat × Nat × Nat × Nat)} (Y : Hy N H1 L C Z q σ) (hc : ∀ f ∈ cl,Closed f) (hm : (Tryz.prog).follows .mixedOrders=true) (hp : PreS w) {k : Nat} : ∀ (n : Nat) {M : Memo},memoChk (sx Tryz.prog N H1 [] L C Z (prC cl)) cs k n M=true→MemoAll N L C Z q σ cl w (M.drop n)→MemoAll N L C Z q σ cl w M
 | 0,_,_,h => h
 | n+1,M,hr,h => by
  unfold memoChk at hr
  rw [Bool.and_eq_true] at hr
  have h1 := memoAll_chk Y hc hm hp n hr.2 (by rw [List.drop_tail]; exact h)
  exact memoAll_drop (i := 0) Y hc hm hp hr.1 (by rw [Nat.zero_add,List.drop_one]; exact h1)
theorem run_toldD' {f : FuncId} {args : List AV} {vs : List Value} (k : Nat) (Y : Hy N H L C Z q σ) (hc : ∀ f ∈ cl,Closed f) (hm : (Tryz.prog).follows .mixedOrders=true) (hp : PreS w) (hM : MemoAll N L C Z q σ cl w M) (hr : (callD (sx Tryz.prog N H K L C Z (prC cl)) cs M k [] f args [] 0).map (·.1)=some (kB true))
  (hA : A2 (avOn (cOn (evS q σ) K (fun _ => none) w)) args vs) : Calls Tryz.prog f vs.toArray w fun e w' => Below w.heap.size w w'∧e=.returned (.bool true) := by
 rw [Option.map_eq_some_iff] at hr
 obtain ⟨⟨v,p⟩,h1,h2⟩ := hr
 dsimp only at h2
 subst h2
 refine (callD_told (cs := cs) Y hc hm hp (hM H K) k f args [] 0 (kB true,p) h1 (fun _ => none) w vs ⟨Below.refl _ _,(fun _ _ h => by cases h)⟩ hA (fun x hx => by cases hx) (fun x hx => by cases hx) (fun _ _ _ => rfl)).mono ?_
 rintro _ w' ⟨r,γ',rfl,hef,hv,_⟩
 exact ⟨hef.wi.bel,by rw [show r=.bool true from (asC_on (v := kB true) (c := .inl (.bool true)) rfl hv).1]⟩
end
end Go.Proofs.YtjfodeihndjpjaaGreatDoor
/- VY -/
namespace Go.Proofs.YtjfodeihndjpjaaGreatDoor
open Go.RowKit Cx
theorem den_num (t : Rat) : t*(t.den : Rat)=((t.num : Int) : Rat) := by
 conv => lhs; lhs; rw [← Rat.mkRat_self t]
 have h0 : (t.den : Rat) ≠ 0 := fun h => t.den_nz (by exact_mod_cast h)
 rw [Rat.mkRat_eq_div,Rat.div_mul_cancel h0]
theorem whole {q : Rat} (h : q.den=1) : q=((q.num : Int) : Rat) := by
 have := den_num q
 rw [h] at this
 rw [← this]
 show q=q*((1 : Nat) : Rat)
 exact (Rat.mul_one q).symm
end Go.Proofs.YtjfodeihndjpjaaGreatDoor
/- VSZ -/
namespace Go.Proofs.YtjfodeihndjpjaaGreatDoor
open Go.RowKit Cx
structure QW (z : Nat) (x : Rat) : Prop where
 qs : QS z x
 wh : x.den=1
theorem QW.of {z : Nat} {n : Int} (h : n.natAbs < 2 ^ z) (hz : 0 < z) : QW z ((n : Int) : Rat) :=
 ⟨⟨by simpa using h,by
  show ((n : Int) : Rat).den < 2 ^ z
  rw [Rat.den_intCast]
  exact Nat.one_lt_two_pow (by omega)⟩,Rat.den_intCast n⟩
theorem QW.mono {k l : Nat} {x : Rat} (h : QW k x) (hk : k≤l) : QW l x := ⟨h.qs.mono hk,h.wh⟩
theorem two_max {a b x y : Nat} (h1 : a < 2 ^ x) (h2 : b < 2 ^ y) : a+b < 2 ^ (Nat.max x y+1) := by
 have e1 : 2 ^ x≤2 ^ Nat.max x y := Nat.pow_le_pow_right (by decide) (Nat.le_max_left x y)
 have e2 : 2 ^ y≤2 ^ Nat.max x y := Nat.pow_le_pow_right (by decide) (Nat.le_max_right x y)
 rw [Nat.pow_succ]
 omega
theorem QW.add {x y : Nat} {a b : Rat} (h1 : QW x a) (h2 : QW y b) : QW (Nat.max x y+1) (a+b) := by
 rw [whole h1.wh,whole h2.wh,← Rat.intCast_add]
 refine QW.of ?_ (by omega)
 have := two_max h1.qs.num h2.qs.num
 omega
theorem QW.sub {x y : Nat} {a b : Rat} (h1 : QW x a) (h2 : QW y b) : QW (Nat.max x y+1) (a - b) := by
 rw [whole h1.wh,whole h2.wh,← Rat.intCast_sub]
 refine QW.of ?_ (by omega)
 have := two_max h1.qs.num h2.qs.num
 omega
theorem QW.mul {x y : Nat} {a b : Rat} (h1 : QW x a) (h2 : QW y b) : QW (x+y) (a*b) := by
 refine ⟨h1.qs.mul h2.qs,?_⟩
 rw [whole h1.wh,whole h2.wh,← Rat.intCast_mul]
 exact Rat.den_intCast _
theorem QW.neg {x : Nat} {a : Rat} (h1 : QW x a) : QW x (-a) := ⟨h1.qs.neg,h1.wh⟩
theorem ten_three : ∀ n : Nat,10 ^ n≤2 ^ ((10*n+2) / 3)
 | 0 => by decide
 | 1 => by decide
 | 2 => by decide
 | n+3 => by
  have h := ten_three n
  have e : (10*(n+3)+2) / 3=(10*n+2) / 3+10 := by omega
  rw [e,Nat.pow_add,Nat.pow_add]
  exact Nat.mul_le_mul h (by decide)
theorem QS.rd3 (l : List UInt8) : QS ((10*l.length+2) / 3+5) (Cx.rd l) := by
 have key : ∀ {m : List UInt8},digs m=true→dv m < 2 ^ ((10*m.length+2) / 3) := fun {m} h => Nat.lt_of_lt_of_le (dv_lt (digs_all h)) (ten_three _)
 unfold Cx.rd
 split
 ·rename_i h
  rw [Bool.and_eq_true] at h
  have h1 := key h.1
  have h2 := key h.2
  have h3 := up_len (tailOf l)
  have h4 := low_len (tailOf l)
  have h5 := tail_len l
  apply QS.mkr
  ·rw [sg_abs]; exact Nat.lt_of_lt_of_le h1 (Nat.pow_le_pow_right (by decide) (by omega))
  ·exact Nat.lt_of_lt_of_le h2 (Nat.pow_le_pow_right (by decide) (by omega))
 ·exact QS.zero.mono (by omega)
section
variable {N : List Nd} {Z : List Nat} {I : List Bool} {q : Nat→Rat}
end
end Go.Proofs.YtjfodeihndjpjaaGreatDoor
/- VSA -/
namespace Go.Proofs.YtjfodeihndjpjaaGreatDoor
open Go.RowKit Cx
def inB : Nat := 3495259
abbrev Atm := Nat × Nat
def remA (x : Atm) : List Atm→Option (List Atm)
 | [] => none
 | y :: l => bif Nat.beq x.1 y.1 && Nat.beq x.2 y.2 then some l else (remA x l).map (y :: ·)
def subA : List Atm→List Atm→Option (List Atm)
 | l,[] => some l
 | l,x :: r => (remA x l).bind fun l' => subA l' r
def leftA : List Atm→List Atm→List Atm
 | _,[] => []
 | U,x :: D => match remA x U with
  | some U' => leftA U' D
  | none => x :: leftA U D
def uniA (E : List (Nat × List Atm)) : List Nat→List Atm→List Atm
 | [],U => U
 | a :: l,U => uniA E l (match E[a]? with
  | some p => U ++ leftA U p.2
  | none => U)
def bitA (E : List (Nat × List Atm)) (x : Atm) : Nat := match x.1 with
 | 0 => inB
 | 1 => (match E[x.2]? with
  | some p => p.1
  | none => 1)
 | _ => Nat.log2 x.2+1
def bitL (E : List (Nat × List Atm)) : List Atm→Nat
 | [] => 1
 | x :: l => bitA E x+bitL E l
def noneA (l : Option (List Atm)) : Bool := match l with
 | some [] => true
 | _ => false
def saN (E : List (Nat × List Atm)) (k z : Nat) (D : List Atm) (nd : Nd) : Bool := (Nat.blt 0 z && D.all fun x => !Nat.beq x.1 1 || Nat.blt x.2 k) && match nd.1,nd.2 with
 | 0,[_,n,d] => (Nat.blt n (2 ^ z) && Nat.blt 0 d) && noneA (subA D (bif Nat.beq d 1 then [] else [(2,d)]))
 | 1,[j] => Nat.ble inB z && noneA (subA D [(0,j)])
 | 2,[a,b] => (match E[a]?,E[b]? with
  | some p,some r => (match subA D p.2,subA D r.2 with
   | some c,some e => Nat.ble (Nat.max (p.1+bitL E c) (r.1+bitL E e)+1) z
   | _,_ => false)
  | _,_ => false)
 | 3,[a,b] => (match E[a]?,E[b]? with
  | some p,some r => (match subA D p.2,subA D r.2 with
   | some c,some e => Nat.ble (Nat.max (p.1+bitL E c) (r.1+bitL E e)+1) z
   | _,_ => false)
  | _,_ => false)
 | 4,[a,b] => (match E[a]?,E[b]? with
  | some p,some r => (match subA D p.2 with
   | some c => noneA (subA c r.2) && Nat.ble (p.1+r.1) z
   | _ => false)
  | _,_ => false)
 | 5,[a] => (match E[a]? with
  | some p => noneA (subA D p.2) && Nat.ble p.1 z
  | _ => false)
 | 6,[a,b] => (match E[a]?,E[b]?,remA (1,b) D with
  | some p,some r,some D' => (match subA p.2 D' with
   | some c => (match subA r.2 c with
    | some e => Nat.ble (p.1+bitL E e) z
    | none => false)
   | none => false)
  | _,_,_ => false)
 | 7,_ => Nat.beq D.length 0
 | 8,i :: xs => Nat.beq D.length 0 && (xs.all (fun a => match E[a]? with
   | some p => (subA (uniA E xs []) p.2).isSome
   | none => false) && (match xs[i]? with
   | some a => (match E[a]? with
    | some p => (match subA (uniA E xs []) p.2 with
     | some e => Nat.ble (p.1+bitL E e) z
     | none => false)
    | none => false)
   | none => false))
 | _,_ => false
def saB (E : List (Nat × List Atm)) : Nat→List Nd→List (Nat × List Atm)→List Nat→Bool
 | _,[],[],[] => true
 | k,nd :: ns,p :: ps,z :: zs => (saN E k p.1 p.2 nd && (Nat.ble p.1 z && (Nat.ble (bitL E p.2) z && Nat.ble z 1000000000000))) && saB E (k+1) ns ps zs
 | _,_,_,_ => false
theorem saB_get {E : List (Nat × List Atm)} : ∀ {ns : List Nd} {ps : List (Nat × List Atm)} {zs : List Nat} {k i : Nat} {nd : Nd},saB E k ns ps zs=true→ns[i]? = some nd→∃ p z,ps[i]? = some p∧zs[i]? = some z∧saN E (k+i) p.1 p.2 nd=true∧p.1≤z∧bitL E p.2≤z∧z≤1000000000000
 | [],_,_,_,_,_,_,h => by simp at h
 | _ :: _,[],_,_,_,_,h,_ => by cases h
 | _ :: _,_ :: _,[],_,_,_,h,_ => by cases h
 | nd' :: ns,p :: ps,z :: zs,k,0,nd,h,e => by
  have : nd'=nd := by simpa using e
  subst this
  unfold saB at h
  simp only [Bool.and_eq_true,Nat.ble_eq] at h
  exact ⟨p,z,rfl,rfl,h.1.1,h.1.2.1,h.1.2.2.1,h.1.2.2.2⟩
 | nd' :: ns,p :: ps,z :: zs,k,i+1,nd,h,e => by
  unfold saB at h
  rw [Bool.and_eq_true] at h
  obtain ⟨p',z',g1,g2,g3,g4⟩ := saB_get (k := k+1) (i := i) h.2 (by simpa using e)
  exact ⟨p',z',by simpa using g1,by simpa using g2,by rw [show k+(i+1)=k+1+i by omega]; exact g3,g4⟩
theorem saB_len {E : List (Nat × List Atm)} : ∀ {ns : List Nd} {ps : List (Nat × List Atm)} {zs : List Nat} {k : Nat},saB E k ns ps zs=true→ns.length=ps.length∧ns.length=zs.length
 | [],[],[],_,_ => ⟨rfl,rfl⟩
 | [],[],_ :: _,_,h => by cases h
 | [],_ :: _,_,_,h => by cases h
 | _ :: _,[],_,_,h => by cases h
 | _ :: _,_ :: _,[],_,h => by cases h
 | _ :: _,_ :: _,_ :: _,k,h => by
  unfold saB at h
  rw [Bool.and_eq_true] at h
  have := saB_len h.2
  exact ⟨congrArg (· + 1) this.1,congrArg (· + 1) this.2⟩
def valA (dn : Nat→Nat) (M : Nat→Rat) (x : Atm) : Rat := match x.1 with
 | 0 => ((dn x.2 : Nat) : Rat)
 | 1 => if M x.2=0 then 1 else M x.2
 | _ => if x.2=0 then 1 else ((x.2 : Nat) : Rat)
def proA (dn : Nat→Nat) (M : Nat→Rat) : List Atm→Rat
 | [] => 1
 | x :: l => valA dn M x*proA dn M l
theorem remA_pro {dn : Nat→Nat} {M : Nat→Rat} {x : Atm} : ∀ {l c : List Atm},remA x l=some c→proA dn M l=valA dn M x*proA dn M c
 | [],_,h => by cases h
 | y :: l,c,h => by
  unfold remA at h
  cases e : (Nat.beq x.1 y.1 && Nat.beq x.2 y.2) with
  | true =>
   rw [e] at h
   cases h
   rw [Bool.and_eq_true,Nat.beq_eq,Nat.beq_eq] at e
   have : x=y := Prod.ext e.1 e.2
   rw [this]
   rfl
  | false =>
   rw [e] at h
   simp only [cond_false,Option.map_eq_some_iff] at h
   obtain ⟨c',h1,rfl⟩ := h
   show valA dn M y*proA dn M l=valA dn M x*(valA dn M y*proA dn M c')
   rw [remA_pro h1]
   grind
theorem subA_pro {dn : Nat→Nat} {M : Nat→Rat} : ∀ {r l c : List Atm},subA l r=some c→proA dn M l=proA dn M r*proA dn M c
 | [],l,c,h => by
  have : l=c := by simpa [subA] using h
  rw [this]
  exact (Rat.one_mul _).symm
 | x :: r,l,c,h => by
  unfold subA at h
  rw [Option.bind_eq_some_iff] at h
  obtain ⟨l',h1,h2⟩ := h
  rw [remA_pro h1,subA_pro h2]
  exact (Rat.mul_assoc _ _ _).symm
theorem noneA_some {l : Option (List Atm)} (h : noneA l=true) : l=some [] := by
 unfold noneA at h
 split at h
 ·rfl
 ·cases h
theorem QW.one {z : Nat} (h : 0 < z) : QW z 1 := ⟨⟨by
  show (1 : Int).natAbs < 2 ^ z
  exact Nat.one_lt_two_pow (by omega),by
  show 1 < 2 ^ z
  exact Nat.one_lt_two_pow (by omega)⟩,rfl⟩
theorem QW.zero {z : Nat} (h : 0 < z) : QW z 0 := ⟨⟨by
  show (0 : Int).natAbs < 2 ^ z
  exact Nat.two_pow_pos z,by
  show 1 < 2 ^ z
  exact Nat.one_lt_two_pow (by omega)⟩,rfl⟩
theorem QW.nat {z n : Nat} (h : n < 2 ^ z) (hz : 0 < z) : QW z ((n : Nat) : Rat) := by
 have : ((n : Nat) : Rat)=(((n : Nat) : Int) : Rat) := (Rat.intCast_natCast n).symm
 rw [this]
 exact QW.of (by simpa using h) hz
section
variable {E : List (Nat × List Atm)} {dn : Nat→Nat} {M : Nat→Rat} {k : Nat}
def BelA (E : List (Nat × List Atm)) (dn : Nat→Nat) (M : Nat→Rat) (q : Nat→Rat) (k : Nat) : Prop := ∀ a,a < k→∃ p,E[a]? = some p∧QW p.1 (M a)∧0 < p.1∧(∀ x ∈ p.2,x.1=1→x.2 < a)∧q a*proA dn M p.2=M a
theorem valA_ok {q : Nat→Rat} (hdn : ∀ j,0 < dn j∧dn j < 2 ^ inB) (hM : BelA E dn M q k) {x : Atm} (hx : x.1=1→x.2 < k) : QW (bitA E x) (valA dn M x)∧valA dn M x ≠ 0 := by
 obtain ⟨i,j⟩ := x
 match i with
 | 0 =>
  show QW inB ((dn j : Nat) : Rat)∧((dn j : Nat) : Rat) ≠ 0
  refine ⟨QW.nat (hdn j).2 (by unfold inB; omega),fun h => ?_⟩
  have := (hdn j).1
  have h2 : dn j=0 := by exact_mod_cast h
  omega
 | 1 =>
  obtain ⟨p,h1,h2,h3,_⟩ := hM j (hx rfl)
  show QW (match E[j]? with
   | some p => p.1
   | none => 1) (if M j=0 then 1 else M j)∧(if M j=0 then 1 else M j) ≠ 0
  rw [h1]
  by_cases h : M j=0
  ·rw [if_pos h]
   exact ⟨QW.one h3,by decide⟩
  ·rw [if_neg h]
   exact ⟨h2,h⟩
 | i+2 =>
  show QW (Nat.log2 j+1) (if j=0 then 1 else ((j : Nat) : Rat))∧(if j=0 then 1 else ((j : Nat) : Rat)) ≠ 0
  by_cases h : j=0
  ·rw [if_pos h]
   exact ⟨QW.one (by omega),by decide⟩
  ·rw [if_neg h]
   refine ⟨QW.nat Nat.lt_log2_self (by omega),fun h2 => h ?_⟩
   exact_mod_cast h2
theorem proA_ok {q : Nat→Rat} (hdn : ∀ j,0 < dn j∧dn j < 2 ^ inB) (hM : BelA E dn M q k) : ∀ {l : List Atm},(∀ x ∈ l,x.1=1→x.2 < k)→QW (bitL E l) (proA dn M l)∧proA dn M l ≠ 0
 | [],_ => ⟨QW.one (show 0 < 1 by decide),by show (1 : Rat) ≠ 0; decide⟩
 | x :: l,h => by
  have h1 := valA_ok hdn hM (h x List.mem_cons_self)
  have h2 := proA_ok hdn hM (l := l) fun y hy => h y (List.mem_cons_of_mem _ hy)
  exact ⟨h1.1.mul h2.1,mul_ne h1.2 h2.2⟩
theorem proA_congr {M' : Nat→Rat} : ∀ {l : List Atm},(∀ x ∈ l,x.1=1→M x.2=M' x.2)→proA dn M l=proA dn M' l
 | [],_ => rfl
 | x :: l,h => by
  show valA dn M x*proA dn M l=valA dn M' x*proA dn M' l
  rw [proA_congr (l := l) fun y hy => h y (List.mem_cons_of_mem _ hy)]
  have e : valA dn M x=valA dn M' x := by
   obtain ⟨i,j⟩ := x
   match i with
   | 0 => rfl
   | 1 =>
    have := h (1,j) List.mem_cons_self rfl
    show (if M j=0 then 1 else M j)=(if M' j=0 then 1 else M' j)
    rw [this]
   | i+2 => rfl
  rw [e]
theorem remA_mem {x y : Atm} : ∀ {l c : List Atm},remA x l=some c→y ∈ c→y ∈ l
 | [],_,h,_ => by cases h
 | z :: l,c,h,hy => by
  unfold remA at h
  cases e : (Nat.beq x.1 z.1 && Nat.beq x.2 z.2) with
  | true => rw [e] at h; cases h; exact List.mem_cons_of_mem _ hy
  | false =>
   rw [e] at h
   simp only [cond_false,Option.map_eq_some_iff] at h
   obtain ⟨c',h1,rfl⟩ := h
   rcases List.mem_cons.1 hy with rfl | hy
   ·exact List.mem_cons_self
   ·exact List.mem_cons_of_mem _ (remA_mem h1 hy)
theorem subA_mem {y : Atm} : ∀ {r l c : List Atm},subA l r=some c→y ∈ c→y ∈ l
 | [],l,c,h,hy => by
  have : l=c := by simpa [subA] using h
  rw [this]; exact hy
 | x :: r,l,c,h,hy => by
  unfold subA at h
  rw [Option.bind_eq_some_iff] at h
  obtain ⟨l',h1,h2⟩ := h
  exact remA_mem h1 (subA_mem h2 hy)
theorem nat_ne {n : Nat} (h : n ≠ 0) : ((n : Nat) : Rat) ≠ 0 := fun e => h (by exact_mod_cast e)
theorem mul_low (x : Rat) : x*((x.den : Nat) : Rat)=((x.num : Int) : Rat) := by
 have e : x=((x.num : Int) : Rat) / ((x.den : Nat) : Rat) := by
  have := Rat.mkRat_self x
  rw [Rat.mkRat_eq_div] at this
  exact this.symm
 conv => lhs; lhs; rw [e]
 exact Rat.div_mul_cancel (nat_ne x.den_nz)
theorem lD_dvd_of {qs : List Rat} {m M : Nat} (hm : m ∣ M) (h : ∀ q ∈ qs,q.den ∣ M) : qs.foldl (fun m q => m*(q.den / Nat.gcd m q.den)) m ∣ M := by
 induction qs generalizing m with
 | nil => exact hm
 | cons q qs ih =>
  rw [List.foldl_cons]
  refine ih ?_ fun p hp => h p (List.mem_cons_of_mem _ hp)
  have e : m*(q.den / Nat.gcd m q.den)=Nat.lcm m q.den := by
   unfold Nat.lcm
   exact (Nat.mul_div_assoc _ (Nat.gcd_dvd_right _ _)).symm
  rw [e]
  exact Nat.lcm_dvd hm (h q List.mem_cons_self)
theorem den_dvd {x : Rat} {m : Int} (h : (x*((m : Int) : Rat)).den=1) : x.den ∣ m.natAbs := by
 have e := whole h
 generalize (x*((m : Int) : Rat)).num=n at e
 have h1 : x*((x.den : Nat) : Rat)=((x.num : Int) : Rat) := mul_low x
 have h2 : ((x.num : Int) : Rat)*((m : Int) : Rat)=((n : Int) : Rat)*(((x.den : Nat) : Int) : Rat) := by
  rw [← h1,← e,Rat.intCast_natCast]
  grind
 have h3 : x.num*m=n*(x.den : Int) := by exact_mod_cast h2
 have h4 : (x.den : Int) ∣ x.num*m := ⟨n,by rw [h3,Int.mul_comm]⟩
 have h5 : x.den ∣ x.num.natAbs*m.natAbs := by
  have := Int.natAbs_dvd_natAbs.2 h4
  rwa [Int.natAbs_mul,Int.natAbs_natCast] at this
 exact (Nat.Coprime.symm x.reduced).dvd_of_dvd_mul_left h5
theorem fac_whole {qs : List Rat} {x : Rat} {z : Nat} {m : Int} (hx : x ∈ qs) (hm : m ≠ 0) (hall : ∀ y ∈ qs,(y*((m : Int) : Rat)).den=1) (hz : QW z (x*((m : Int) : Rat))) : QW z (x*fac qs) := by
 have hl : lD qs ∣ m.natAbs := lD_dvd_of (Nat.one_dvd _) fun y hy => den_dvd (hall y hy)
 have hd := fac_den hx
 have hpos : 0 < m.natAbs := Int.natAbs_pos.2 hm
 have hle : lD qs≤m.natAbs := Nat.le_of_dvd hpos hl
 have hn : (x*fac qs).num.natAbs≤(x*((m : Int) : Rat)).num.natAbs := by
  rw [fac_abs hx]
  have e := whole hz.wh
  generalize (x*((m : Int) : Rat)).num=n at e
  have h1 : x*((x.den : Nat) : Rat)=((x.num : Int) : Rat) := mul_low x
  have h2 : ((x.num : Int) : Rat)*((m : Int) : Rat)=((n : Int) : Rat)*(((x.den : Nat) : Int) : Rat) := by
   rw [← h1,← e,Rat.intCast_natCast]
   grind
  have h3 : x.num*m=n*(x.den : Int) := by exact_mod_cast h2
  have h4 : x.num.natAbs*m.natAbs=n.natAbs*x.den := by
   have := congrArg Int.natAbs h3
   rwa [Int.natAbs_mul,Int.natAbs_mul,Int.natAbs_natCast] at this
  obtain ⟨c,hc⟩ := den_dvd (x := x) (m := m) (hall x hx)
  have h5 : n.natAbs=x.num.natAbs*c := by
   rw [hc] at h4
   refine Nat.eq_of_mul_eq_mul_right x.den_pos ?_
   rw [← h4]
   rw [Nat.mul_assoc,Nat.mul_comm c]
  show x.num.natAbs / gN qs*(lD qs / x.den)≤n.natAbs
  rw [h5]
  refine Nat.mul_le_mul (Nat.div_le_self _ _) ?_
  have : lD qs / x.den≤m.natAbs / x.den := Nat.div_le_div_right hle
  rw [hc,Nat.mul_div_cancel_left _ x.den_pos] at this
  exact this
 refine ⟨⟨Nat.lt_of_le_of_lt hn hz.qs.num,?_⟩,hd⟩
 rw [hd]
 have := hz.qs.den
 rw [hz.wh] at this
 exact this
theorem leftA_mem {y : Atm} : ∀ {D U : List Atm},y ∈ leftA U D→y ∈ D
 | [],_,h => by cases h
 | x :: D,U,h => by
  unfold leftA at h
  split at h
  ·exact List.mem_cons_of_mem _ (leftA_mem h)
  ·rcases List.mem_cons.1 h with rfl | h
   ·exact List.mem_cons_self
   ·exact List.mem_cons_of_mem _ (leftA_mem h)
theorem uniA_low {q : Nat→Rat} (hM : BelA E dn M q k) : ∀ {l : List Nat} {U : List Atm},(∀ c ∈ l,c < k)→(∀ x ∈ U,x.1=1→x.2 < k)→∀ x ∈ uniA E l U,x.1=1→x.2 < k
 | [],_,_,hU => hU
 | a :: l,U,hl,hU => by
  unfold uniA
  refine uniA_low hM (fun c hc => hl c (List.mem_cons_of_mem _ hc)) ?_
  have ha := hl a List.mem_cons_self
  obtain ⟨p,h1,_,_,h4,_⟩ := hM a ha
  rw [h1]
  intro x hx h
  rcases List.mem_append.1 hx with hx | hx
  ·exact hU x hx h
  ·exact Nat.lt_trans (h4 x (leftA_mem hx) h) ha
theorem node_ok {q : Nat→Rat} {σ : Nat→ByteArray} (hσ : ∀ j,(σ j).size≤1048576) (hdn : ∀ j,dn j=(Cx.rd (σ j).data.toList).den) (hM : BelA E dn M q k) {z : Nat} {D : List Atm} {nd : Nd} (hwf : wfN k nd=true) (hs : saN E k z D nd=true) : QW z (valN σ q nd*proA dn M D)∧0 < z∧∀ x ∈ D,x.1=1→x.2 < k := by
 have hdn' : ∀ j,0 < dn j∧dn j < 2 ^ inB := fun j => by
  rw [hdn j]
  refine ⟨Rat.den_pos _,Nat.lt_of_lt_of_le (QS.rd3 _).den (Nat.pow_le_pow_right (by decide) ?_)⟩
  have := hσ j
  rw [str_len]
  unfold inB
  omega
 obtain ⟨op,xs⟩ := nd
 unfold saN at hs
 rw [Bool.and_eq_true,Bool.and_eq_true] at hs
 obtain ⟨⟨hz0,hD⟩,hs⟩ := hs
 have hz : 0 < z := by simpa [Nat.blt_eq] using hz0
 have hD' : ∀ x ∈ D,x.1=1→x.2 < k := fun x hx h1 => by
  rw [List.all_eq_true] at hD
  have := hD x hx
  rw [h1] at this
  simpa [Nat.blt_eq] using this
 refine ⟨?_,hz,hD'⟩
 have hlow : ∀ {a : Nat} {p : Nat × List Atm},a < k→E[a]? = some p→QW p.1 (M a)∧(∀ x ∈ p.2,x.1=1→x.2 < k)∧q a*proA dn M p.2=M a := fun {a p} ha hp => by
  obtain ⟨p',h1,h2,_,h4,h5⟩ := hM a ha
  rw [hp] at h1
  cases h1
  exact ⟨h2,fun x hx h => Nat.lt_trans (h4 x hx h) ha,h5⟩
 have hpr : ∀ {l : List Atm},(∀ x ∈ l,x.1=1→x.2 < k)→QW (bitL E l) (proA dn M l)∧proA dn M l ≠ 0 := fun h => proA_ok hdn' hM h
 unfold wfN at hwf
 unfold valN
 dsimp only at hs hwf ⊢
 split at hs
 ·rename_i s n d
  simp only [Bool.and_eq_true] at hs
  obtain ⟨⟨h1,h2⟩,h3⟩ := hs
  have h1' : n < 2 ^ z := by simpa [Nat.blt_eq] using h1
  have h2' : d ≠ 0 := by
   have : 0 < d := by simpa [Nat.blt_eq] using h2
   omega
  have hp : proA dn M D=((d : Nat) : Rat) := by
   have := subA_pro (dn := dn) (M := M) (noneA_some h3)
   rw [this]
   cases e : Nat.beq d 1 with
   | true =>
    rw [Nat.beq_eq] at e
    rw [e]
    show (1 : Rat)*1=((1 : Nat) : Rat)
    rw [Rat.mul_one]
    exact_mod_cast rfl
   | false =>
    show (if d=0 then (1 : Rat) else ((d : Nat) : Rat))*1*1=_
    rw [if_neg h2',Rat.mul_one,Rat.mul_one]
  show QW z ((if s=0 then mkRat (n : Int) d else mkRat (-(n : Int)) d)*proA dn M D)
  rw [hp]
  have key : ∀ m : Int,m.natAbs < 2 ^ z→QW z (mkRat m d*((d : Nat) : Rat)) := fun m hm => by
   rw [Rat.mkRat_eq_div,Rat.div_mul_cancel (nat_ne h2')]
   exact QW.of hm hz
  by_cases hs0 : s=0
  ·rw [if_pos hs0]
   exact key _ (by simpa using h1')
  ·rw [if_neg hs0]
   exact key _ (by simpa using h1')
 ·rename_i j
  simp only [Bool.and_eq_true,Nat.ble_eq] at hs
  have hp : proA dn M D=(((Cx.rd (σ j).data.toList).den : Nat) : Rat) := by
   rw [subA_pro (dn := dn) (M := M) (noneA_some hs.2)]
   show ((dn j : Nat) : Rat)*1*1=_
   rw [Rat.mul_one,Rat.mul_one,hdn j]
  show QW z (Cx.rd (σ j).data.toList*proA dn M D)
  rw [hp,mul_low]
  refine QW.of (Nat.lt_of_lt_of_le (QS.rd3 _).num (Nat.pow_le_pow_right (by decide) ?_)) hz
  have := hσ j
  have := hs.1
  unfold inB at this
  rw [str_len]
  omega
 ·simp only [List.all_cons,List.all_nil,Bool.and_true,Bool.and_eq_true] at hwf
  rename_i a b
  have l1 : a < k := by simpa [Nat.blt_eq] using hwf.1
  have l2 : b < k := by simpa [Nat.blt_eq] using hwf.2
  split at hs
  ·rename_i p r hp hr
   split at hs
   ·rename_i c e hc he
    rw [Nat.ble_eq] at hs
    obtain ⟨a1,a2,a3⟩ := hlow l1 hp
    obtain ⟨b1,b2,b3⟩ := hlow l2 hr
    have hc' := hpr (l := c) fun x hx => hD' x (subA_mem hc hx)
    have he' := hpr (l := e) fun x hx => hD' x (subA_mem he hx)
    have e1 : (q a+q b)*proA dn M D=M a*proA dn M c+M b*proA dn M e := by
     rw [Rat.add_mul]
     congr 1
     ·rw [subA_pro hc,← Rat.mul_assoc,a3]
     ·rw [subA_pro he,← Rat.mul_assoc,b3]
    show QW z ((q a+q b)*proA dn M D)
    rw [e1]
    exact ((a1.mul hc'.1).add (b1.mul he'.1)).mono hs
   ·cases hs
  ·cases hs
 ·simp only [List.all_cons,List.all_nil,Bool.and_true,Bool.and_eq_true] at hwf
  rename_i a b
  have l1 : a < k := by simpa [Nat.blt_eq] using hwf.1
  have l2 : b < k := by simpa [Nat.blt_eq] using hwf.2
  split at hs
  ·rename_i p r hp hr
   split at hs
   ·rename_i c e hc he
    rw [Nat.ble_eq] at hs
    obtain ⟨a1,a2,a3⟩ := hlow l1 hp
    obtain ⟨b1,b2,b3⟩ := hlow l2 hr
    have hc' := hpr (l := c) fun x hx => hD' x (subA_mem hc hx)
    have he' := hpr (l := e) fun x hx => hD' x (subA_mem he hx)
    have e1 : (q a - q b)*proA dn M D=M a*proA dn M c - M b*proA dn M e := by
     rw [show (q a - q b)*proA dn M D=q a*proA dn M D - q b*proA dn M D by grind]
     congr 1
     ·rw [subA_pro hc,← Rat.mul_assoc,a3]
     ·rw [subA_pro he,← Rat.mul_assoc,b3]
    show QW z ((q a - q b)*proA dn M D)
    rw [e1]
    exact ((a1.mul hc'.1).sub (b1.mul he'.1)).mono hs
   ·cases hs
  ·cases hs
 ·simp only [List.all_cons,List.all_nil,Bool.and_true,Bool.and_eq_true] at hwf
  rename_i a b
  have l1 : a < k := by simpa [Nat.blt_eq] using hwf.1
  have l2 : b < k := by simpa [Nat.blt_eq] using hwf.2
  split at hs
  ·rename_i p r hp hr
   split at hs
   ·rename_i c hc
    rw [Bool.and_eq_true,Nat.ble_eq] at hs
    obtain ⟨a1,a2,a3⟩ := hlow l1 hp
    obtain ⟨b1,b2,b3⟩ := hlow l2 hr
    have e1 : q a*q b*proA dn M D=M a*M b := by
     rw [subA_pro hc,subA_pro (noneA_some hs.1),← a3,← b3]
     show q a*q b*(proA dn M p.2*(proA dn M r.2*1))=_
     grind
    show QW z (q a*q b*proA dn M D)
    rw [e1]
    exact (a1.mul b1).mono hs.2
   ·cases hs
  ·cases hs
 ·simp only [List.all_cons,List.all_nil,Bool.and_true] at hwf
  rename_i a
  have l1 : a < k := by simpa [Nat.blt_eq] using hwf
  split at hs
  ·rename_i p hp
   rw [Bool.and_eq_true,Nat.ble_eq] at hs
   obtain ⟨a1,a2,a3⟩ := hlow l1 hp
   have e1 : -q a*proA dn M D=-M a := by
    rw [subA_pro (noneA_some hs.1),← a3]
    show -q a*(proA dn M p.2*1)=_
    grind
   show QW z (-q a*proA dn M D)
   rw [e1]
   exact a1.neg.mono hs.2
  ·cases hs
 ·simp only [List.all_cons,List.all_nil,Bool.and_true,Bool.and_eq_true] at hwf
  rename_i a b
  have l1 : a < k := by simpa [Nat.blt_eq] using hwf.1
  have l2 : b < k := by simpa [Nat.blt_eq] using hwf.2
  split at hs
  ·rename_i p r D' hp hr hD1
   split at hs
   ·rename_i c hc
    split at hs
    ·rename_i e he
     rw [Nat.ble_eq] at hs
     obtain ⟨a1,a2,a3⟩ := hlow l1 hp
     obtain ⟨b1,b2,b3⟩ := hlow l2 hr
     have he' := hpr (l := e) fun x hx => b2 x (subA_mem he hx)
     by_cases h0 : M b=0
     ·have hb : q b=0 := by
       rw [h0] at b3
       exact (Rat.mul_eq_zero.1 b3).resolve_right (hpr b2).2
      show QW z (q a / q b*proA dn M D)
      rw [hb,Rat.div_def,Rat.inv_zero,Rat.mul_zero,Rat.zero_mul]
      exact QW.zero hz
     ·have hb : q b ≠ 0 := fun h => h0 (by rw [← b3,h,Rat.zero_mul])
      have e1 : q a / q b*proA dn M D=M a*proA dn M e := by
       have e2 : proA dn M D=M b*proA dn M D' := by
        rw [remA_pro hD1]
        show (if M b=0 then (1 : Rat) else M b)*_=_
        rw [if_neg h0]
       have e3 : q a / q b*q b=q a := Rat.div_mul_cancel hb
       rw [e2,← a3,← b3,subA_pro hc,subA_pro he]
       generalize q a / q b=t at e3
       rw [← e3]
       grind
      show QW z (q a / q b*proA dn M D)
      rw [e1]
      exact (a1.mul he'.1).mono hs
    ·cases hs
   ·cases hs
  ·cases hs
 ·have hD0 : D=[] := by
   rw [Nat.beq_eq] at hs
   exact List.length_eq_zero_iff.1 hs
  rw [hD0]
  have hv : valN σ q (7,xs)=0 ∨ valN σ q (7,xs)=1 := by
   unfold valN
   dsimp only
   split
   all_goals first | (split; exact Or.inl rfl; exact Or.inr rfl) | exact Or.inl rfl | (rename_i h; cases h)
  show QW z (valN σ q (7,xs)*1)
  rw [Rat.mul_one]
  rcases hv with h | h
  ·rw [h]
   exact QW.zero hz
  ·rw [h]
   exact QW.one hz
 ·rename_i i ys
  rw [Bool.and_eq_true,Bool.and_eq_true,List.all_eq_true] at hs
  obtain ⟨h1,h2,h3⟩ := hs
  have hD0 : D=[] := by
   rw [Nat.beq_eq] at h1
   exact List.length_eq_zero_iff.1 h1
  have hwf' : ys.all (Nat.blt · k)=true := hwf
  rw [List.all_eq_true] at hwf'
  have hlt : ∀ c ∈ ys,c < k := fun c hc => by simpa [Nat.blt_eq] using hwf' c hc
  split at h3
  ·rename_i a ha
   split at h3
   ·rename_i p hp
    split at h3
    ·rename_i e he
     rw [Nat.ble_eq] at h3
     obtain ⟨hi,ha'⟩ := List.getElem?_eq_some_iff.1 ha
     have hmem : a ∈ ys := List.mem_of_getElem? ha
     have hg : (ys.map q).getD i 0=q a := by
      rw [List.getD_eq_getElem?_getD,List.getElem?_map,ha]
      rfl
     show QW z ((ys.map q).getD i 0*fac (ys.map q)*proA dn M D)
     rw [hg,hD0]
     show QW z (q a*fac (ys.map q)*1)
     rw [Rat.mul_one]
     -- what makes all of them whole
     have hU : ∀ x ∈ uniA E ys [],x.1=1→x.2 < k := uniA_low hM hlt (fun x hx => by cases hx)
     have hUp := hpr hU
     have hw := whole hUp.1.wh
     generalize hm : (proA dn M (uniA E ys [])).num=m at hw
     have hm0 : m ≠ 0 := fun h => hUp.2 (by rw [hw,h]; rfl)
     have hall : ∀ y ∈ ys.map q,(y*((m : Int) : Rat)).den=1 := fun y hy => by
      obtain ⟨c,hc,rfl⟩ := List.mem_map.1 hy
      have h4 := h2 c hc
      split at h4
      ·rename_i r hr
       obtain ⟨c1,c2,c3⟩ := hlow (hlt c hc) hr
       cases hs2 : subA (uniA E ys []) r.2 with
       | none => rw [hs2] at h4; cases h4
       | some f =>
        have hf := hpr (l := f) fun x hx => hU x (subA_mem hs2 hx)
        rw [← hw,subA_pro hs2,← Rat.mul_assoc,c3]
        exact (c1.mul hf.1).wh
      ·cases h4
     obtain ⟨a1,a2,a3⟩ := hlow (hlt a hmem) hp
     have he' := hpr (l := e) fun x hx => hU x (subA_mem he hx)
     refine fac_whole (List.mem_map_of_mem hmem) hm0 hall ?_
     rw [← hw,subA_pro he,← Rat.mul_assoc,a3]
     exact (a1.mul he'.1).mono h3
    ·cases h3
   ·cases h3
  ·cases h3
 ·cases hs
end
theorem QS_over {x m p : Rat} {z y K : Nat} (hm : QW z m) (hp : QW y p) (h0 : p ≠ 0) (e : x*p=m) (hz : z≤K) (hy : y≤K) : QS K x := by
 have hw := whole hp.wh
 generalize p.num=P at hw
 have hP : P ≠ 0 := fun h => h0 (by rw [hw,h]; rfl)
 have hpos : 0 < P.natAbs := Int.natAbs_pos.2 hP
 have hd : x.den ∣ P.natAbs := den_dvd (x := x) (m := P) (by rw [← hw,e]; exact hm.wh)
 have hdle : x.den≤P.natAbs := Nat.le_of_dvd hpos hd
 have hPlt : P.natAbs < 2 ^ y := by
  have := hp.qs.num
  rw [hw,Rat.num_intCast] at this
  exact this
 have hmw := whole hm.wh
 have hmlt := hm.qs.num
 generalize m.num=n at hmw hmlt
 have h1 : x*((x.den : Nat) : Rat)=((x.num : Int) : Rat) := mul_low x
 have h2 : ((x.num : Int) : Rat)*((P : Int) : Rat)=((n : Int) : Rat)*(((x.den : Nat) : Int) : Rat) := by
  rw [← h1,← hw,← hmw,← e,Rat.intCast_natCast]
  grind
 have h3 : x.num*P=n*(x.den : Int) := by exact_mod_cast h2
 have h4 : x.num.natAbs*P.natAbs=n.natAbs*x.den := by
  have := congrArg Int.natAbs h3
  rwa [Int.natAbs_mul,Int.natAbs_mul,Int.natAbs_natCast] at this
 have h5 : x.num.natAbs≤n.natAbs := by
  refine Nat.le_of_mul_le_mul_right (c := P.natAbs) ?_ hpos
  rw [h4]
  exact Nat.mul_le_mul_left _ hdle
 exact ⟨Nat.lt_of_lt_of_le (Nat.lt_of_le_of_lt h5 hmlt) (Nat.pow_le_pow_right (by decide) hz),Nat.lt_of_lt_of_le (Nat.lt_of_le_of_lt hdle hPlt) (Nat.pow_le_pow_right (by decide) hy)⟩
section
variable {N : List Nd} {Z : List Nat} {E : List (Nat × List Atm)} {q : Nat→Rat}
theorem sizes_okA {σ : Nat→ByteArray} (hσ : ∀ j,(σ j).size≤1048576) (hw : wfB 0 N=true) (hz : saB E 0 N E Z=true) (hq : ∀ (a : Nat) nd,N[a]? = some nd→q a=valN σ q nd) (h0 : ∀ a,N.length≤a→q a=0) : (∀ (a : Nat) z,Z[a]? = some z→QS z (q a))∧∀ a,QS 1000000000000 (q a) := by
 have hl := saB_len hz
 have key : ∀ k,k≤N.length→∃ M,BelA E (fun j => (Cx.rd (σ j).data.toList).den) M q k := by
  intro k
  induction k with
  | zero => exact fun _ => ⟨fun _ => 0,fun a ha => by omega⟩
  | succ k ih =>
   intro hk
   obtain ⟨M,hM⟩ := ih (by omega)
   have hn : N[k]? = some N[k] := List.getElem?_eq_getElem (by omega)
   obtain ⟨p,z,h1,_,h3,_⟩ := saB_get hz hn
   rw [Nat.zero_add] at h3
   have hwf := wfB_get hw hn
   rw [Nat.zero_add] at hwf
   obtain ⟨g1,g2,g3⟩ := node_ok hσ (fun _ => rfl) hM hwf h3
   rw [← hq k _ hn] at g1
   refine ⟨fun x => if x=k then q k*proA (fun j => (Cx.rd (σ j).data.toList).den) M p.2 else M x,fun a ha => ?_⟩
   have same : ∀ {l : List Atm},(∀ x ∈ l,x.1=1→x.2 < k)→proA (fun j => (Cx.rd (σ j).data.toList).den) (fun x => if x=k then q k*proA (fun j => (Cx.rd (σ j).data.toList).den) M p.2 else M x) l=proA (fun j => (Cx.rd (σ j).data.toList).den) M l := fun hl => (proA_congr fun x hx h => by
    have := hl x hx h
    rw [if_neg (by omega)]).symm
   by_cases e : a=k
   ·subst e
    refine ⟨p,h1,?_,g2,g3,?_⟩
    ·show QW p.1 (if a=a then _ else _)
     rw [if_pos rfl]
     exact g1
    ·rw [same g3]
     show _=(if a=a then _ else _)
     rw [if_pos rfl]
   ·obtain ⟨p',f1,f2,f3,f4,f5⟩ := hM a (by omega)
    refine ⟨p',f1,?_,f3,f4,?_⟩
    ·show QW p'.1 (if a=k then _ else M a)
     rw [if_neg e]
     exact f2
    ·rw [same fun x hx h => by have := f4 x hx h; omega]
     show _=(if a=k then _ else M a)
     rw [if_neg e]
     exact f5
 obtain ⟨M,hM⟩ := key N.length (Nat.le_refl _)
 have hdn : ∀ j,0 < (Cx.rd (σ j).data.toList).den∧(Cx.rd (σ j).data.toList).den < 2 ^ inB := fun j => by
  refine ⟨Rat.den_pos _,Nat.lt_of_lt_of_le (QS.rd3 _).den (Nat.pow_le_pow_right (by decide) ?_)⟩
  have := hσ j
  rw [str_len]
  unfold inB
  omega
 have h2 : ∀ (a : Nat) z,Z[a]? = some z→QS z (q a)∧z≤1000000000000 := by
  intro a z ha
  have hlt : a < N.length := by
   have := (List.getElem?_eq_some_iff.1 ha).1
   omega
  have hn : N[a]? = some N[a] := List.getElem?_eq_getElem hlt
  obtain ⟨p,z',h1,h2,_,h4,h5,h6⟩ := saB_get hz hn
  rw [ha] at h2
  cases h2
  obtain ⟨p',f1,f2,f3,f4,f5⟩ := hM a hlt
  rw [h1] at f1
  cases f1
  have hp := proA_ok hdn hM (l := p.2) fun x hx h => Nat.lt_trans (f4 x hx h) hlt
  exact ⟨QS_over f2 hp.1 hp.2 f5 h4 h5,h6⟩
 refine ⟨fun a z h => (h2 a z h).1,fun a => ?_⟩
 by_cases ha : a < Z.length
 ·have := h2 a _ (List.getElem?_eq_getElem ha)
  exact this.1.mono this.2
 ·rw [h0 a (by omega)]
  exact QS.zero.mono (by decide)
theorem hy_ofA {L C : List (List Nat × Nat)} {σ : Nat→ByteArray} {H : List (Nat × Nat × Nat × Nat)} (hσ : ∀ j,(σ j).size≤1048576) (hw : wfB 0 N=true) (hz : saB E 0 N E Z=true) (hl : litB N L=true) (hcn : canB N C=true) (hq : ∀ (a : Nat) nd,N[a]? = some nd→q a=valN σ q nd) (h0 : ∀ a,N.length≤a→q a=0) (hH : hAll q H) : Hy N H L C Z q σ where
 nat := hq
 qs := (sizes_okA hσ hw hz hq h0).2
 zs := (sizes_okA hσ hw hz hq h0).1
 par := hσ
 lit := fun s b h => lit_rd hl hq h
 k0 := fun a r h => kn_at hH h
 k1 := fun a r h => kn_at hH h
 k2 := fun a r h => kn_at hH h
 k3 := fun a b r h => kn_at hH h
 k4 := fun l a b r h1 h2 => by
  have h3 : Nat.beq 1 r=true ↔ q a=q b := kn_at hH h2
  rw [h3,← can_tx hcn hq h1]
  exact ⟨fun e => by rw [e],fun e => tellS_inj (bytesN_inj e)⟩
 k6 := fun a b r h => kn_at hH h
 k5 := fun a r h => kn_at hH h
end
end Go.Proofs.YtjfodeihndjpjaaGreatDoor
/- CFconed -/
namespace Go.Proofs.YtjfodeihndjpjaaGreatDoor
open Go.RowKit Cx
theorem closed_coned : Closed 31 :=
 closed_told (N := [(0,[0,1,1]),(0,[0,0,1]),(0,[1,1,1]),(0,[0,3,5]),(0,[0,4,5]),(4,[1,0]),(4,[0,0]),(3,[5,6]),(4,[0,1]),(3,[8,6]),(4,[1,1]),(3,[6,10]),(4,[0,2]),(3,[5,12]),(4,[2,0]),(3,[8,14]),(4,[2,2]),(3,[16,10]),(4,[7,13]),(4,[7,15]),(4,[9,13]),(2,[19,20]),(4,[9,15]),(4,[7,17]),(4,[11,13]),(2,[23,24]),(4,[9,17]),(4,[11,15]),(2,[26,27]),(4,[11,17]),(3,[5,8]),(3,[12,6]),(4,[1,2]),(3,[8,32]),(3,[6,12]),(3,[8,5]),(3,[32,8]),(4,[30,34]),(4,[30,35]),(4,[31,34]),(2,[38,39]),(4,[31,35]),(4,[30,36]),(4,[33,34]),(2,[42,43]),(4,[31,36]),(4,[33,35]),(2,[45,46]),(4,[33,36]),(0,[0,2,1]),(4,[18,49]),(4,[22,49]),(4,[29,49]),(4,[50,3]),(2,[1,53]),(4,[21,4]),(2,[54,55]),(4,[25,0]),(2,[56,57]),(4,[21,3]),(2,[1,59]),(4,[51,4]),(2,[60,61]),(4,[28,0]),(2,[62,63]),(4,[25,3]),(2,[1,65]),(4,[28,4]),(2,[66,67]),(4,[52,0]),(2,[68,69]),(4,[3,58]),(2,[1,71]),(4,[4,64]),(2,[72,73]),(4,[0,70]),(2,[74,75]),(4,[37,49]),(4,[41,49]),(4,[48,49]),(4,[77,3]),(2,[1,80]),(4,[40,4]),(2,[81,82]),(4,[44,0]),(2,[83,84]),(4,[40,3]),(2,[1,86]),(4,[78,4]),(2,[87,88]),(4,[47,0]),(2,[89,90]),(4,[44,3]),(2,[1,92]),(4,[47,4]),(2,[93,94]),(4,[79,0]),(2,[95,96]),(4,[3,85]),(2,[1,98]),(4,[4,91]),(2,[99,100]),(4,[0,97]),(2,[101,102]),(4,[18,103]),(4,[37,76]),(3,[104,105]),(4,[21,103]),(4,[40,76]),(3,[107,108]),(4,[22,103]),(4,[41,76]),(3,[110,111]),(4,[25,103]),(4,[44,76]),(3,[113,114]),(4,[28,103]),(4,[47,76]),(3,[116,117]),(4,[29,103]),(4,[48,76]),(3,[119,120]),(8,[0,106,109,112,115,118,121]),(8,[1,106,109,112,115,118,121]),(8,[2,106,109,112,115,118,121]),(8,[3,106,109,112,115,118,121]),(8,[4,106,109,112,115,118,121]),(8,[5,106,109,112,115,118,121]),(4,[122,49]),(4,[124,49]),(4,[127,49]),(4,[123,126]),(4,[125,129]),(3,[131,132]),(4,[125,123]),(4,[128,126]),(3,[134,135]),(4,[128,129]),(4,[123,123]),(3,[137,138]),(4,[133,125]),(2,[1,140]),(4,[136,126]),(2,[141,142]),(4,[139,130]),(2,[143,144]),(2,[128,129]),(4,[145,146]),(4,[128,3]),(2,[1,148]),(4,[123,4]),(2,[149,150]),(4,[125,0]),(2,[151,152]),(4,[123,3]),(2,[1,154]),(4,[129,4]),(2,[155,156]),(4,[126,0]),(2,[157,158]),(4,[125,3]),(2,[1,160]),(4,[126,4]),(2,[161,162]),(4,[130,0]),(2,[163,164]),(4,[3,153]),(2,[1,166]),(4,[4,159]),(2,[167,168]),(4,[0,165]),(2,[169,170]),(4,[122,171]),(8,[0,153,159,165]),(8,[1,153,159,165]),(8,[2,153,159,165]),(0,[0,3,1]),(0,[0,4,1]),(0,[1,5,1])]) (H := [(0,106,0,0),(0,122,0,0),(0,145,0,0),(1,139,0,0),(0,139,0,0),(2,147,0,0),(0,172,0,1),(0,153,0,0),(4,122,0,1),(4,123,1,1),(4,124,0,1),(4,125,1,1),(4,126,1,1),(4,127,2,1),(4,173,176,1),(4,174,177,1),(4,175,178,1)]) (K := [(93,[.inr (3,7,0,0,0)]),(173,[.inr (3,43,0,0,0),.inr (3,44,0,0,0)]),(173,[.inr (3,59,0,0,0),.inr (3,60,0,0,0)])]) (L := [([49],0),([48],1),([45,49],2),([51,47,53],3),([52,47,53],4),([51],176),([52],177),([45,53],178)]) (C := [([49],0),([48],1),([45,49],2),([51],176),([52],177),([45,53],178)]) (Z := [2,2,2,4,4,4,4,9,4,9,4,9,4,9,4,9,4,9,18,18,18,37,18,18,18,37,18,18,37,18,9,9,4,9,9,9,9,18,18,18,37,18,18,18,37,18,18,37,18,3,21,21,21,25,28,41,70,39,110,41,44,25,70,39,110,41,44,41,86,23,110,114,117,114,232,112,345,21,21,21,25,28,41,70,39,110,41,44,25,70,39,110,41,44,41,86,23,110,114,117,114,232,112,345,363,363,727,382,382,765,363,363,727,382,382,765,382,382,765,363,363,727,5356,5356,5356,5356,5356,5356,5359,5359,5359,10712,10715,21428,10712,10715,21428,10718,10712,21431,26784,26787,26784,53572,26790,80363,10719,91082,5363,5366,5360,10727,5358,16086,5360,5363,5363,10727,5358,16086,5360,5363,5360,10724,5361,16086,16090,16093,16090,32184,16088,48273,53629,64345,64345,64345,3,4,4]) (cl := []) 8 (fun _ h => by cases h) (by kernel_rfl) (by kernel_rfl) (by kernel_rfl) (by kernel_rfl) (by kernel_rfl) (by kernel_rfl) (by kernel_rfl)
end Go.Proofs.YtjfodeihndjpjaaGreatDoor
/- MKT -/
namespace Go.Proofs.YtjfodeihndjpjaaGreatDoor
open Go.RowKit Cx
def kT_N : List Nd := [(1,[4]),(1,[5]),(1,[6]),(1,[7]),(1,[0]),(1,[1]),(1,[2]),(1,[3]),(3,[4,6]),(3,[5,7]),(4,[8,8]),(4,[9,9]),(2,[10,11]),(4,[0,3]),(4,[1,2]),(3,[13,14]),(1,[8]),(4,[2,16]),(2,[17,3]),(4,[0,16]),(2,[19,1]),(6,[20,18]),(0,[0,1,1]),(2,[4,22]),(2,[5,16]),(3,[23,4]),(3,[24,5]),(5,[26]),(4,[27,27]),(4,[25,25]),(2,[28,29]),(4,[27,4]),(4,[25,5]),(2,[31,32]),(5,[33]),(8,[0,27,25,34]),(8,[1,27,25,34]),(8,[2,27,25,34]),(2,[6,22]),(2,[7,21]),(3,[38,6]),(3,[39,7]),(5,[41]),(4,[42,42]),(4,[40,40]),(2,[43,44]),(4,[42,6]),(4,[40,7]),(2,[46,47]),(5,[48]),(8,[0,42,40,49]),(8,[1,42,40,49]),(8,[2,42,40,49]),(4,[35,35]),(4,[36,36]),(2,[53,54]),(4,[50,50]),(4,[51,51]),(2,[56,57]),(4,[35,51]),(4,[36,50]),(3,[59,60]),(4,[50,37]),(4,[51,37]),(4,[35,52]),(4,[36,52]),(3,[62,64]),(3,[63,65]),(4,[66,66]),(4,[67,67]),(2,[68,69]),(5,[67]),(6,[71,61]),(6,[66,61]),(1,[9]),(4,[2,74]),(2,[75,3]),(4,[0,74]),(2,[77,1]),(6,[78,76]),(2,[5,74]),(3,[80,5]),(5,[81]),(4,[82,82]),(2,[83,29]),(4,[82,4]),(2,[85,32]),(5,[86]),(8,[0,82,25,87]),(8,[1,82,25,87]),(8,[2,82,25,87]),(2,[7,79]),(3,[91,7]),(5,[92]),(4,[93,93]),(2,[94,44]),(4,[93,6]),(2,[96,47]),(5,[97]),(8,[0,93,40,98]),(8,[1,93,40,98]),(8,[2,93,40,98]),(4,[88,88]),(4,[89,89]),(2,[102,103]),(4,[99,99]),(4,[100,100]),(2,[105,106]),(4,[88,100]),(4,[89,99]),(3,[108,109]),(4,[99,90]),(4,[100,90]),(4,[88,101]),(4,[89,101]),(3,[111,113]),(3,[112,114]),(4,[115,115]),(4,[116,116]),(2,[117,118]),(5,[116]),(6,[120,110]),(6,[115,110]),(1,[10]),(4,[2,123]),(2,[124,3]),(4,[0,123]),(2,[126,1]),(6,[127,125]),(2,[5,123]),(3,[129,5]),(5,[130]),(4,[131,131]),(2,[132,29]),(4,[131,4]),(2,[134,32]),(5,[135]),(8,[0,131,25,136]),(8,[1,131,25,136]),(8,[2,131,25,136]),(2,[7,128]),(3,[140,7]),(5,[141]),(4,[142,142]),(2,[143,44]),(4,[142,6]),(2,[145,47]),(5,[146]),(8,[0,142,40,147]),(8,[1,142,40,147]),(8,[2,142,40,147]),(4,[137,137]),(4,[138,138]),(2,[151,152]),(4,[148,148]),(4,[149,149]),(2,[154,155]),(4,[137,149]),(4,[138,148]),(3,[157,158]),(4,[148,139]),(4,[149,139]),(4,[137,150]),(4,[138,150]),(3,[160,162]),(3,[161,163]),(4,[164,164]),(4,[165,165]),(2,[166,167]),(5,[165]),(6,[169,159]),(6,[164,159]),(1,[11]),(4,[2,172]),(2,[173,3]),(4,[0,172]),(2,[175,1]),(6,[176,174]),(2,[5,172]),(3,[178,5]),(5,[179]),(4,[180,180]),(2,[181,29]),(4,[180,4]),(2,[183,32]),(5,[184]),(8,[0,180,25,185]),(8,[1,180,25,185]),(8,[2,180,25,185]),(2,[7,177]),(3,[189,7]),(5,[190]),(4,[191,191]),(2,[192,44]),(4,[191,6]),(2,[194,47]),(5,[195]),(8,[0,191,40,196]),(8,[1,191,40,196]),(8,[2,191,40,196]),(4,[186,186]),(4,[187,187]),(2,[200,201]),(4,[197,197]),(4,[198,198]),(2,[203,204]),(4,[186,198]),(4,[187,197]),(3,[206,207]),(4,[197,188]),(4,[198,188]),(4,[186,199]),(4,[187,199]),(3,[209,211]),(3,[210,212]),(4,[213,213]),(4,[214,214]),(2,[215,216]),(5,[214]),(6,[218,208]),(6,[213,208]),(4,[5,22]),(4,[22,7]),(3,[221,222]),(4,[22,6]),(4,[4,22]),(3,[224,225]),(4,[4,7]),(4,[5,6]),(3,[227,228]),(4,[73,22]),(4,[22,122]),(3,[230,231]),(4,[22,121]),(4,[72,22]),(3,[233,234]),(4,[72,122]),(4,[73,121]),(3,[236,237]),(4,[223,232]),(4,[223,235]),(4,[226,232]),(2,[240,241]),(4,[226,235]),(4,[223,238]),(4,[229,232]),(2,[244,245]),(4,[226,238]),(4,[229,235]),(2,[247,248]),(4,[229,238]),(4,[22,73]),(3,[221,251]),(4,[22,72]),(3,[253,225]),(4,[4,73]),(4,[5,72]),(3,[255,256]),(4,[7,22]),(3,[258,231]),(4,[6,22]),(3,[233,260]),(4,[6,122]),(4,[7,121]),(3,[262,263]),(4,[252,259]),(4,[252,261]),(4,[254,259]),(2,[266,267]),(4,[254,261]),(4,[252,264]),(4,[257,259]),(2,[270,271]),(4,[254,264]),(4,[257,261]),(2,[273,274]),(4,[257,264]),(0,[0,2,1]),(4,[239,277]),(4,[243,277]),(4,[250,277]),(4,[278,170]),(0,[0,0,1]),(2,[282,281]),(4,[242,171]),(2,[283,284]),(4,[246,22]),(2,[285,286]),(4,[242,170]),(2,[282,288]),(4,[279,171]),(2,[289,290]),(4,[249,22]),(2,[291,292]),(4,[246,170]),(2,[282,294]),(4,[249,171]),(2,[295,296]),(4,[280,22]),(2,[297,298]),(4,[170,287]),(2,[282,300]),(4,[171,293]),(2,[301,302]),(4,[22,299]),(2,[303,304]),(4,[265,277]),(4,[269,277]),(4,[276,277]),(4,[306,170]),(2,[282,309]),(4,[268,171]),(2,[310,311]),(4,[272,22]),(2,[312,313]),(4,[268,170]),(2,[282,315]),(4,[307,171]),(2,[316,317]),(4,[275,22]),(2,[318,319]),(4,[272,170]),(2,[282,321]),(4,[275,171]),(2,[322,323]),(4,[308,22]),(2,[324,325]),(4,[170,314]),(2,[282,327]),(4,[171,320]),(2,[328,329]),(4,[22,326]),(2,[330,331]),(4,[239,332]),(4,[265,305]),(3,[333,334]),(4,[242,332]),(4,[268,305]),(3,[336,337]),(4,[243,332]),(4,[269,305]),(3,[339,340]),(4,[246,332]),(4,[272,305]),(3,[342,343]),(4,[249,332]),(4,[275,305]),(3,[345,346]),(4,[250,332]),(4,[276,305]),(3,[348,349]),(4,[335,335]),(4,[338,338]),(2,[351,352]),(4,[341,341]),(2,[353,354]),(4,[344,344]),(2,[355,356]),(4,[347,347]),(2,[357,358]),(8,[0,335,338,341,344,347,350]),(8,[1,335,338,341,344,347,350]),(8,[2,335,338,341,344,347,350]),(8,[3,335,338,341,344,347,350]),(8,[4,335,338,341,344,347,350]),(8,[5,335,338,341,344,347,350]),(4,[360,360]),(4,[361,361]),(2,[366,367]),(4,[362,362]),(2,[368,369]),(4,[363,363]),(2,[370,371]),(4,[364,364]),(2,[372,373]),(4,[360,277]),(4,[362,277]),(4,[365,277]),(4,[375,219]),(2,[282,378]),(4,[361,220]),(2,[379,380]),(4,[363,22]),(2,[381,382]),(4,[361,219]),(2,[282,384]),(4,[376,220]),(2,[385,386]),(4,[364,22]),(2,[387,388]),(4,[363,219]),(2,[282,390]),(4,[364,220]),(2,[391,392]),(4,[377,22]),(2,[393,394]),(4,[219,383]),(2,[282,396]),(4,[220,389]),(2,[397,398]),(4,[22,395]),(2,[399,400]),(4,[362,401]),(4,[361,401]),(4,[360,401])]
def kT_L : List (List Nat × Nat) := []
def kT_C : List (List Nat × Nat) := []
def kT_Z : List Nat := [3495260,3495260,3495260,3495260,3495260,3495260,3495260,3495260,6990520,6990520,13981040,13981040,27962078,6990519,6990519,13981038,3495260,6990519,10485779,6990519,10485779,17476298,1,3495262,6990520,3495264,6990522,6990522,13981044,6990528,20971566,10485781,6990523,10485784,10485784,10485782,10485783,10485785,3495262,20971559,3495264,20971561,20971561,41943122,6990528,48933642,24466820,6990523,24466822,24466822,24466821,24466821,24466823,20971564,20971566,20971568,48933642,48933642,48933644,34952603,34952604,34952606,34952606,34952606,34952605,34952606,34952608,34952608,69905216,69905216,69905218,34952608,34952609,34952609,3495260,6990519,10485779,6990519,10485779,17476298,6990520,6990522,6990522,13981044,20971566,10485781,10485784,10485784,10485782,10485783,10485785,20971559,20971561,20971561,41943122,48933642,24466820,24466822,24466822,24466821,24466821,24466823,20971564,20971566,20971568,48933642,48933642,48933644,34952603,34952604,34952606,34952606,34952606,34952605,34952606,34952608,34952608,69905216,69905216,69905218,34952608,34952609,34952609,3495260,6990519,10485779,6990519,10485779,17476298,6990520,6990522,6990522,13981044,20971566,10485781,10485784,10485784,10485782,10485783,10485785,20971559,20971561,20971561,41943122,48933642,24466820,24466822,24466822,24466821,24466821,24466823,20971564,20971566,20971568,48933642,48933642,48933644,34952603,34952604,34952606,34952606,34952606,34952605,34952606,34952608,34952608,69905216,69905216,69905218,34952608,34952609,34952609,3495260,6990519,10485779,6990519,10485779,17476298,6990520,6990522,6990522,13981044,20971566,10485781,10485784,10485784,10485782,10485783,10485785,20971559,20971561,20971561,41943122,48933642,24466820,24466822,24466822,24466821,24466821,24466823,20971564,20971566,20971568,48933642,48933642,48933644,34952603,34952604,34952606,34952606,34952606,34952605,34952606,34952608,34952608,69905216,69905216,69905218,34952608,34952609,34952609,3495260,3495260,6990521,3495260,3495260,6990521,6990519,6990519,13981038,34952610,34952610,69905218,34952610,34952610,69905218,69905218,69905218,69905220,76895739,76895739,76895739,83886259,76895739,76895741,83886256,83886261,76895741,83886256,83886261,83886258,34952610,38447871,34952610,38447871,38447868,38447868,41943129,3495260,38447871,3495260,38447871,38447868,38447868,41943129,76895742,76895742,76895742,83886262,76895742,80391000,80391000,83886261,80391000,80391000,83886261,83886258,2,76895741,76895741,83886260,111848350,1,111848352,118838868,118838872,83886262,118838874,118838868,118838870,111848350,118838872,83886262,118838874,118838870,118838872,118838870,118838874,83886261,118838876,153791483,153791485,153791483,153791487,118838877,153791489,76895744,76895744,83886260,111848353,111848355,118838871,118838875,83886262,118838877,118838871,118838873,111848353,118838875,83886262,118838877,118838870,118838872,118838870,118838874,83886261,118838876,153791486,153791488,153791486,153791490,118838877,153791492,230687231,230687231,230687233,237677751,237677751,237677753,230687231,230687231,230687233,237677753,237677750,237677755,237677753,237677750,237677755,237677750,237677747,237677752,461374466,475355506,475355508,461374466,475355510,475355510,475355512,475355510,475355514,237677752,237677754,237677752,237677756,237677756,237677753,475355504,475355508,475355510,475355504,475355512,475355512,475355514,475355512,475355516,237677754,237677754,237677755,272630363,272630365,272630363,272630367,237677757,272630369,272630363,272630365,272630363,272630367,237677757,272630369,272630365,272630367,272630365,272630369,237677756,272630371,307582978,307582980,307582978,307582982,272630372,307582984,545260736,545260738,545260736]
def kT_D0 : List Atm := [(0,0),(0,2)]
def kT_D1 : List Atm := [(0,1),(0,3)]
def kT_D2 : List Atm := [(0,1),(0,8)]
def kT_D3 : List Atm := [(0,0),(0,1),(0,8)]
def kT_D4 : List Atm := [(0,3),(0,4),(0,5),(1,18)]
def kT_D5 : List Atm := [(0,2),(0,3),(0,4),(0,5),(1,18)]
def kT_D6 : List Atm := [(0,1),(0,9)]
def kT_D7 : List Atm := [(0,0),(0,1),(0,9)]
def kT_D8 : List Atm := [(0,3),(0,4),(0,5),(1,76)]
def kT_D9 : List Atm := [(0,2),(0,3),(0,4),(0,5),(1,76)]
def kT_D10 : List Atm := [(0,1),(0,10)]
def kT_D11 : List Atm := [(0,0),(0,1),(0,10)]
def kT_D12 : List Atm := [(0,3),(0,4),(0,5),(1,125)]
def kT_D13 : List Atm := [(0,2),(0,3),(0,4),(0,5),(1,125)]
def kT_D14 : List Atm := [(0,1),(0,11)]
def kT_D15 : List Atm := [(0,0),(0,1),(0,11)]
def kT_D16 : List Atm := [(0,3),(0,4),(0,5),(1,174)]
def kT_D17 : List Atm := [(0,2),(0,3),(0,4),(0,5),(1,174)]
def kT_D18 : List Atm := [(1,61),(1,110)]
def kT_D19 : List Atm := [(0,1),(0,3),(1,61),(1,110)]
def kT_D20 : List Atm := [(0,0),(0,2),(1,61),(1,110)]
def kT_D21 : List Atm := [(0,0),(0,1),(0,2),(0,3),(1,61),(1,110)]
def kT_D22 : List Atm := [(0,1),(1,61)]
def kT_D23 : List Atm := [(0,0),(1,61)]
def kT_D24 : List Atm := [(0,3),(1,110)]
def kT_D25 : List Atm := [(0,2),(1,110)]
def kT_D26 : List Atm := [(0,1),(0,3),(1,61),(1,110),(1,159)]
def kT_D27 : List Atm := [(0,0),(0,1),(0,2),(0,3),(1,61),(1,110),(1,159)]
def kT_D28 : List Atm := [(0,0),(0,2),(1,61),(1,110),(1,159)]
def kT_D29 : List Atm := [(0,0),(0,1),(0,2),(0,3),(1,61),(1,110),(1,159),(1,159)]
def kT_D30 : List Atm := [(0,0),(0,1),(0,1),(0,2),(0,3),(0,3),(1,61),(1,61),(1,110),(1,110),(1,159),(1,159)]
def kT_D31 : List Atm := [(0,0),(0,0),(0,1),(0,1),(0,2),(0,2),(0,3),(0,3),(1,61),(1,61),(1,110),(1,110),(1,159),(1,159)]
def kT_D32 : List Atm := [(0,0),(0,0),(0,1),(0,2),(0,2),(0,3),(1,61),(1,61),(1,110),(1,110),(1,159),(1,159)]
def kT_D33 : List Atm := [(0,0),(0,0),(0,0),(0,0),(0,1),(0,1),(0,1),(0,1),(0,2),(0,2),(0,2),(0,2),(0,3),(0,3),(0,3),(0,3),(1,61),(1,61),(1,61),(1,61),(1,110),(1,110),(1,110),(1,110),(1,159),(1,159),(1,159),(1,159)]
def kT_D34 : List Atm := [(1,208),(1,208)]
def kT_E : List (Nat × List Atm) := [(3495259,[(0,4)]),(3495259,[(0,5)]),(3495259,[(0,6)]),(3495259,[(0,7)]),(3495259,[(0,0)]),(3495259,[(0,1)]),(3495259,[(0,2)]),(3495259,[(0,3)]),(6990520,kT_D0),(6990520,kT_D1),(13981040,[(0,0),(0,0),(0,2),(0,2)]),(13981040,[(0,1),(0,1),(0,3),(0,3)]),(27962078,[(0,0),(0,0),(0,1),(0,1),(0,2),(0,2),(0,3),(0,3)]),(6990518,[(0,4),(0,7)]),(6990518,[(0,5),(0,6)]),(13981038,[(0,4),(0,5),(0,6),(0,7)]),(3495259,[(0,8)]),(6990518,[(0,6),(0,8)]),(10485779,[(0,6),(0,7),(0,8)]),(6990518,[(0,4),(0,8)]),(10485779,[(0,4),(0,5),(0,8)]),(17476298,[(0,4),(0,5),(1,18)]),(1,[]),(3495262,[(0,0)]),(6990520,kT_D2),(3495264,[(0,0)]),(6990522,kT_D2),(6990522,kT_D2),(13981044,[(0,1),(0,1),(0,8),(0,8)]),(6990528,[(0,0),(0,0)]),(20971566,[(0,0),(0,0),(0,1),(0,1),(0,8),(0,8)]),(10485781,kT_D3),(6990523,[(0,0),(0,1)]),(10485784,kT_D3),(10485784,kT_D3),(10485782,[]),(10485783,[]),(10485785,[]),(3495262,[(0,2)]),(20971559,kT_D4),(3495264,[(0,2)]),(20971561,kT_D4),(20971561,kT_D4),(41943122,[(0,3),(0,3),(0,4),(0,4),(0,5),(0,5),(1,18),(1,18)]),(6990528,[(0,2),(0,2)]),(48933642,[(0,2),(0,2),(0,3),(0,3),(0,4),(0,4),(0,5),(0,5),(1,18),(1,18)]),(24466820,kT_D5),(6990523,[(0,2),(0,3)]),(24466822,kT_D5),(24466822,kT_D5),(24466821,[]),(24466821,[]),(24466823,[]),(20971564,[]),(20971566,[]),(20971568,[]),(48933642,[]),(48933642,[]),(48933644,[]),(34952603,[]),(34952604,[]),(34952606,[]),(34952606,[]),(34952606,[]),(34952605,[]),(34952606,[]),(34952608,[]),(34952608,[]),(69905216,[]),(69905216,[]),(69905218,[]),(34952608,[]),(34952609,[(1,61)]),(34952609,[(1,61)]),(3495259,[(0,9)]),(6990518,[(0,6),(0,9)]),(10485779,[(0,6),(0,7),(0,9)]),(6990518,[(0,4),(0,9)]),(10485779,[(0,4),(0,5),(0,9)]),(17476298,[(0,4),(0,5),(1,76)]),(6990520,kT_D6),(6990522,kT_D6),(6990522,kT_D6),(13981044,[(0,1),(0,1),(0,9),(0,9)]),(20971566,[(0,0),(0,0),(0,1),(0,1),(0,9),(0,9)]),(10485781,kT_D7),(10485784,kT_D7),(10485784,kT_D7),(10485782,[]),(10485783,[]),(10485785,[]),(20971559,kT_D8),(20971561,kT_D8),(20971561,kT_D8),(41943122,[(0,3),(0,3),(0,4),(0,4),(0,5),(0,5),(1,76),(1,76)]),(48933642,[(0,2),(0,2),(0,3),(0,3),(0,4),(0,4),(0,5),(0,5),(1,76),(1,76)]),(24466820,kT_D9),(24466822,kT_D9),(24466822,kT_D9),(24466821,[]),(24466821,[]),(24466823,[]),(20971564,[]),(20971566,[]),(20971568,[]),(48933642,[]),(48933642,[]),(48933644,[]),(34952603,[]),(34952604,[]),(34952606,[]),(34952606,[]),(34952606,[]),(34952605,[]),(34952606,[]),(34952608,[]),(34952608,[]),(69905216,[]),(69905216,[]),(69905218,[]),(34952608,[]),(34952609,[(1,110)]),(34952609,[(1,110)]),(3495259,[(0,10)]),(6990518,[(0,6),(0,10)]),(10485779,[(0,6),(0,7),(0,10)]),(6990518,[(0,4),(0,10)]),(10485779,[(0,4),(0,5),(0,10)]),(17476298,[(0,4),(0,5),(1,125)]),(6990520,kT_D10),(6990522,kT_D10),(6990522,kT_D10),(13981044,[(0,1),(0,1),(0,10),(0,10)]),(20971566,[(0,0),(0,0),(0,1),(0,1),(0,10),(0,10)]),(10485781,kT_D11),(10485784,kT_D11),(10485784,kT_D11),(10485782,[]),(10485783,[]),(10485785,[]),(20971559,kT_D12),(20971561,kT_D12),(20971561,kT_D12),(41943122,[(0,3),(0,3),(0,4),(0,4),(0,5),(0,5),(1,125),(1,125)]),(48933642,[(0,2),(0,2),(0,3),(0,3),(0,4),(0,4),(0,5),(0,5),(1,125),(1,125)]),(24466820,kT_D13),(24466822,kT_D13),(24466822,kT_D13),(24466821,[]),(24466821,[]),(24466823,[]),(20971564,[]),(20971566,[]),(20971568,[]),(48933642,[]),(48933642,[]),(48933644,[]),(34952603,[]),(34952604,[]),(34952606,[]),(34952606,[]),(34952606,[]),(34952605,[]),(34952606,[]),(34952608,[]),(34952608,[]),(69905216,[]),(69905216,[]),(69905218,[]),(34952608,[]),(34952609,[(1,159)]),(34952609,[(1,159)]),(3495259,[(0,11)]),(6990518,[(0,6),(0,11)]),(10485779,[(0,6),(0,7),(0,11)]),(6990518,[(0,4),(0,11)]),(10485779,[(0,4),(0,5),(0,11)]),(17476298,[(0,4),(0,5),(1,174)]),(6990520,kT_D14),(6990522,kT_D14),(6990522,kT_D14),(13981044,[(0,1),(0,1),(0,11),(0,11)]),(20971566,[(0,0),(0,0),(0,1),(0,1),(0,11),(0,11)]),(10485781,kT_D15),(10485784,kT_D15),(10485784,kT_D15),(10485782,[]),(10485783,[]),(10485785,[]),(20971559,kT_D16),(20971561,kT_D16),(20971561,kT_D16),(41943122,[(0,3),(0,3),(0,4),(0,4),(0,5),(0,5),(1,174),(1,174)]),(48933642,[(0,2),(0,2),(0,3),(0,3),(0,4),(0,4),(0,5),(0,5),(1,174),(1,174)]),(24466820,kT_D17),(24466822,kT_D17),(24466822,kT_D17),(24466821,[]),(24466821,[]),(24466823,[]),(20971564,[]),(20971566,[]),(20971568,[]),(48933642,[]),(48933642,[]),(48933644,[]),(34952603,[]),(34952604,[]),(34952606,[]),(34952606,[]),(34952606,[]),(34952605,[]),(34952606,[]),(34952608,[]),(34952608,[]),(69905216,[]),(69905216,[]),(69905218,[]),(34952608,[]),(34952609,[(1,208)]),(34952609,[(1,208)]),(3495260,[(0,1)]),(3495260,[(0,3)]),(6990521,kT_D1),(3495260,[(0,2)]),(3495260,[(0,0)]),(6990521,kT_D0),(6990518,[(0,0),(0,3)]),(6990518,[(0,1),(0,2)]),(13981038,[(0,0),(0,1),(0,2),(0,3)]),(34952610,[(1,61)]),(34952610,[(1,110)]),(69905218,kT_D18),(34952610,[(1,110)]),(34952610,[(1,61)]),(69905218,kT_D18),(69905218,kT_D18),(69905218,kT_D18),(69905220,kT_D18),(76895739,kT_D19),(76895739,kT_D19),(76895739,kT_D20),(83886259,kT_D21),(76895739,kT_D20),(76895741,kT_D19),(83886256,kT_D21),(83886261,kT_D21),(76895741,kT_D20),(83886256,kT_D21),(83886261,kT_D21),(83886258,kT_D21),(34952610,[(1,61)]),(38447871,kT_D22),(34952610,[(1,61)]),(38447871,kT_D23),(38447868,kT_D23),(38447868,kT_D22),(41943129,[(0,0),(0,1),(1,61)]),(3495260,[(0,3)]),(38447871,kT_D24),(3495260,[(0,2)]),(38447871,kT_D25),(38447868,kT_D25),(38447868,kT_D24),(41943129,[(0,2),(0,3),(1,110)]),(76895742,kT_D19),(76895742,[(0,1),(0,2),(1,61),(1,110)]),(76895742,[(0,0),(0,3),(1,61),(1,110)]),(83886262,kT_D21),(76895742,kT_D20),(80391000,[(0,1),(0,2),(0,3),(1,61),(1,110)]),(80391000,[(0,0),(0,1),(0,3),(1,61),(1,110)]),(83886261,kT_D21),(80391000,[(0,0),(0,2),(0,3),(1,61),(1,110)]),(80391000,[(0,0),(0,1),(0,2),(1,61),(1,110)]),(83886261,kT_D21),(83886258,kT_D21),(2,[]),(76895741,kT_D19),(76895741,kT_D20),(83886260,kT_D21),(111848350,kT_D26),(1,[]),(111848352,kT_D26),(118838868,kT_D27),(118838872,kT_D27),(83886262,kT_D21),(118838874,kT_D27),(118838868,kT_D27),(118838870,kT_D27),(111848350,kT_D28),(118838872,kT_D27),(83886262,kT_D21),(118838874,kT_D27),(118838870,kT_D27),(118838872,kT_D27),(118838870,kT_D27),(118838874,kT_D27),(83886261,kT_D21),(118838876,kT_D27),(153791483,kT_D29),(153791485,kT_D29),(153791483,kT_D29),(153791487,kT_D29),(118838877,kT_D27),(153791489,kT_D29),(76895744,kT_D19),(76895744,kT_D20),(83886260,kT_D21),(111848353,kT_D26),(111848355,kT_D26),(118838871,kT_D27),(118838875,kT_D27),(83886262,kT_D21),(118838877,kT_D27),(118838871,kT_D27),(118838873,kT_D27),(111848353,kT_D28),(118838875,kT_D27),(83886262,kT_D21),(118838877,kT_D27),(118838870,kT_D27),(118838872,kT_D27),(118838870,kT_D27),(118838874,kT_D27),(83886261,kT_D21),(118838876,kT_D27),(153791486,kT_D29),(153791488,kT_D29),(153791486,kT_D29),(153791490,kT_D29),(118838877,kT_D27),(153791492,kT_D29),(230687231,kT_D30),(230687231,kT_D30),(230687233,kT_D30),(237677751,kT_D31),(237677751,kT_D31),(237677753,kT_D31),(230687231,kT_D32),(230687231,kT_D32),(230687233,kT_D32),(237677753,kT_D31),(237677750,kT_D31),(237677755,kT_D31),(237677753,kT_D31),(237677750,kT_D31),(237677755,kT_D31),(237677750,kT_D31),(237677747,kT_D31),(237677752,kT_D31),(461374466,[(0,0),(0,0),(0,1),(0,1),(0,1),(0,1),(0,2),(0,2),(0,3),(0,3),(0,3),(0,3),(1,61),(1,61),(1,61),(1,61),(1,110),(1,110),(1,110),(1,110),(1,159),(1,159),(1,159),(1,159)]),(475355506,kT_D33),(475355508,kT_D33),(461374466,[(0,0),(0,0),(0,0),(0,0),(0,1),(0,1),(0,2),(0,2),(0,2),(0,2),(0,3),(0,3),(1,61),(1,61),(1,61),(1,61),(1,110),(1,110),(1,110),(1,110),(1,159),(1,159),(1,159),(1,159)]),(475355510,kT_D33),(475355510,kT_D33),(475355512,kT_D33),(475355510,kT_D33),(475355514,kT_D33),(237677752,[]),(237677754,[]),(237677752,[]),(237677756,[]),(237677756,[]),(237677753,[]),(475355504,[]),(475355508,[]),(475355510,[]),(475355504,[]),(475355512,[]),(475355512,[]),(475355514,[]),(475355512,[]),(475355516,[]),(237677754,[]),(237677754,[]),(237677755,[]),(272630363,[(1,208)]),(272630365,[(1,208)]),(272630363,[(1,208)]),(272630367,[(1,208)]),(237677757,[]),(272630369,[(1,208)]),(272630363,[(1,208)]),(272630365,[(1,208)]),(272630363,[(1,208)]),(272630367,[(1,208)]),(237677757,[]),(272630369,[(1,208)]),(272630365,[(1,208)]),(272630367,[(1,208)]),(272630365,[(1,208)]),(272630369,[(1,208)]),(237677756,[]),(272630371,[(1,208)]),(307582978,kT_D34),(307582980,kT_D34),(307582978,kT_D34),(307582982,kT_D34),(272630372,[(1,208)]),(307582984,kT_D34),(545260736,kT_D34),(545260738,kT_D34),(545260736,kT_D34)]
abbrev kT_Q (q : Nat→Rat) (σ : Nat→ByteArray) : Prop := ∀ (a : Nat) nd,kT_N[a]? = some nd→q a=valN σ q nd
variable {q : Nat→Rat} {σ : Nat→ByteArray}
theorem kT_wf : wfB 0 kT_N=true := by kernel_rfl
theorem kT_sz : saB kT_E 0 kT_N kT_E kT_Z=true := by kernel_rfl
theorem kT_lt : litB kT_N kT_L=true := by kernel_rfl
theorem kT_cn : canB kT_N kT_C=true := by kernel_rfl
theorem kT_c22 : cst 0 1 1=(1 : Rat) := by decide +kernel
theorem kT_c277 : cst 0 2 1=(2 : Rat) := by decide +kernel
theorem kT_c282 : cst 0 0 1=(0 : Rat) := by decide +kernel
def kT_A : List AV := [(false,[(true,[.inr (2,0,0,0,0),.inr (2,1,0,0,0)])]),(false,[(true,[.inr (2,2,0,0,0),.inr (2,3,0,0,0)])]),(false,[(true,[.inr (2,4,0,0,0),.inr (2,5,0,0,0),.inr (2,6,0,0,0),.inr (2,7,0,0,0)])]),(false,[(true,[.inr (2,8,0,0,0),.inr (2,9,0,0,0),.inr (2,10,0,0,0),.inr (2,11,0,0,0)])])]
theorem sq2 {x y m1 m2 s : Rat} (h1 : m1=x*x) (h2 : m2=y*y) (hs : s=m1+m2) : s=0 ↔ (x=0∧y=0) := by
 have a1 := sq_facts x
 have a2 := sq_facts y
 subst_vars
 constructor
 ·intro h
  refine ⟨a1.2.1 ?_,a2.2.1 ?_⟩ <;> grind
 ·rintro ⟨h1,h2⟩
  rw [h1,h2]; grind
theorem sq5 {a b c d e m1 m2 m3 m4 m5 s t u v : Rat} (h1 : m1=a*a) (h2 : m2=b*b) (hs : s=m1+m2) (h3 : m3=c*c) (ht : t=s+m3) (h4 : m4=d*d) (hu : u=t+m4) (h5 : m5=e*e) (hv : v=u+m5) : v=0 ↔ (a=0∧b=0∧c=0∧d=0∧e=0) := by
 have a1 := sq_facts a
 have a2 := sq_facts b
 have a3 := sq_facts c
 have a4 := sq_facts d
 have a5 := sq_facts e
 subst_vars
 constructor
 ·intro h
  refine ⟨a1.2.1 ?_,a2.2.1 ?_,a3.2.1 ?_,a4.2.1 ?_,a5.2.1 ?_⟩ <;> grind
 ·rintro ⟨h1,h2,h3,h4,h5⟩
  rw [h1,h2,h3,h4,h5]; grind
def cv (a b c d e f x y : Rat) : Rat := a*x*x+b*x*y+c*y*y+d*x+e*y+f
def br (ax ay bx by' cx cy : Rat) : Rat := (bx - ax)*(cy - ay) - (by' - ay)*(cx - ax)
theorem ks_pt {T U w p ax ay bx b' fl fo l0 l1 l2 o0 o1 o2 tn X Y : Rat} (hw : w ≠ 0) (hU : U=p / w) (hl0 : l0=-T*fl) (hl1 : l1=fl) (hl2 : l2=(T*ax - ay)*fl) (ho0 : o0=-U*fo) (ho1 : o1=fo) (ho2 : o2=(U*bx - b')*fo) (ht : tn=l0*o1 - l1*o0) (h0 : tn ≠ 0) (hX : X=-(o1*l2 - l1*o2) / tn) (hY : Y=(o0*l2 - l0*o2) / tn) : Y - ay=T*(X - ax)∧(Y - b')*w=p*(X - bx)∧T*w - p ≠ 0 := by
 have hu : U*w=p := by rw [hU]; exact Rat.div_mul_cancel hw
 have eX : X*tn=-(o1*l2 - l1*o2) := by rw [hX]; exact Rat.div_mul_cancel h0
 have eY : Y*tn=o0*l2 - l0*o2 := by rw [hY]; exact Rat.div_mul_cancel h0
 clear hX hY hU
 subst hl0 hl1 hl2 ho0 ho1 ho2
 have e : tn=l1*o1*(U - T) := by rw [ht]; grind
 have hf : U - T ≠ 0 := fun q => h0 (by rw [e,q,Rat.mul_zero])
 have hl : l1*o1 ≠ 0 := fun q => h0 (by rw [e,q,Rat.zero_mul])
 have a1 : (Y - ay - T*(X - ax))*tn=0 := by
  have : (Y - ay - T*(X - ax))*tn=Y*tn - ay*tn - T*(X*tn)+T*ax*tn := by grind
  rw [this,eX,eY,e]; grind
 have a2 : (Y - b' - U*(X - bx))*tn=0 := by
  have : (Y - b' - U*(X - bx))*tn=Y*tn - b'*tn - U*(X*tn)+U*bx*tn := by grind
  rw [this,eX,eY,e]; grind
 have b1 := (Rat.mul_eq_zero.1 a1).resolve_right h0
 have b2 := (Rat.mul_eq_zero.1 a2).resolve_right h0
 refine ⟨by grind,?_,fun q => ?_⟩
 ·have : (Y - b')*w=U*w*(X - bx) := by
   have : Y - b'=U*(X - bx) := by grind
   rw [this]; grind
  rw [this,hu]
 ·rw [← hu] at q
  have : (U - T)*w=0 := by grind
  exact mul_ne hf hw this
theorem ks_van (A B C N0 N1 t s u : Rat) : (N1*t+N0)*(N1*s+N0)*(A*u*u+B*u+C)*(s - t)+(N1*s+N0)*(N1*u+N0)*(A*t*t+B*t+C)*(u - s)+(N1*u+N0)*(N1*t+N0)*(A*s*s+B*s+C)*(t - u)=(N0*N0*A - N0*N1*B+N1*N1*C)*((s - t)*(u - t)*(u - s)) := by
 grind
structure KSP (m0 m1 m2 m3 dx dy t x q : Rat) : Prop where
 hq : q=t*(m2*t+m3) - (m0*t+m1)
 ne : q ≠ 0
 hx : x*q=dy*(m2*t+m3) - dx*(m0*t+m1)
theorem ks_three {m0 m1 m2 m3 dx dy t x q s y r u z v : Rat} (P : KSP m0 m1 m2 m3 dx dy t x q) (Q : KSP m0 m1 m2 m3 dx dy s y r) (R : KSP m0 m1 m2 m3 dx dy u z v) : ((y - x)*(u*z - t*x) - (s*y - t*x)*(z - x))*(q*r*v)=((dy*m3 - dx*m1)*(dy*m3 - dx*m1)*m2 - (dy*m3 - dx*m1)*(dy*m2 - dx*m0)*(m3 - m0)+(dy*m2 - dx*m0)*(dy*m2 - dx*m0)*(-m1))*((s - t)*(u - t)*(u - s)) := by
 have e : ((y - x)*(u*z - t*x) - (s*y - t*x)*(z - x))*(q*r*v)=(x*q)*(y*r)*v*(s - t)+(y*r)*(z*v)*q*(u - s)+(z*v)*(x*q)*r*(t - u) := by grind
 rw [e,P.hx,Q.hx,R.hx,← ks_van m2 (m3 - m0) (-m1) (dy*m3 - dx*m1) (dy*m2 - dx*m0) t s u,P.hq,Q.hq,R.hq]
 have g1 : ∀ a : Rat,dy*(m2*a+m3) - dx*(m0*a+m1)=(dy*m2 - dx*m0)*a+(dy*m3 - dx*m1) := by intro a; grind
 have g2 : ∀ a : Rat,a*(m2*a+m3) - (m0*a+m1)=m2*a*a+(m3 - m0)*a+-m1 := by intro a; grind
 rw [g1,g1,g1,g2,g2,g2]
theorem ks_two {m0 m1 m2 m3 dx dy t x q s y r : Rat} (P : KSP m0 m1 m2 m3 dx dy t x q) (Q : KSP m0 m1 m2 m3 dx dy s y r) : ((x - dx)*(s*y - dy) - (t*x - dy)*(y - dx))*(q*r)=(dx*t - dy)*(dx*s - dy)*(m0*m3 - m1*m2)*(s - t) := by
 have a1 : (x - dx)*q=-((m2*t+m3)*(dx*t - dy)) := by
  have : (x - dx)*q=x*q - dx*q := by grind
  rw [this,P.hx,P.hq]; grind
 have a2 : (t*x - dy)*q=-((m0*t+m1)*(dx*t - dy)) := by
  have : (t*x - dy)*q=t*(x*q) - dy*q := by grind
  rw [this,P.hx,P.hq]; grind
 have b1 : (y - dx)*r=-((m2*s+m3)*(dx*s - dy)) := by
  have : (y - dx)*r=y*r - dx*r := by grind
  rw [this,Q.hx,Q.hq]; grind
 have b2 : (s*y - dy)*r=-((m0*s+m1)*(dx*s - dy)) := by
  have : (s*y - dy)*r=s*(y*r) - dy*r := by grind
  rw [this,Q.hx,Q.hq]; grind
 have e : ((x - dx)*(s*y - dy) - (t*x - dy)*(y - dx))*(q*r)=((x - dx)*q)*((s*y - dy)*r) - ((t*x - dy)*q)*((y - dx)*r) := by grind
 rw [e,a1,a2,b1,b2]; grind
theorem ks_K {m0 m1 m2 m3 dx dy t x q s y r u z v k l j : Rat} (P : KSP m0 m1 m2 m3 dx dy t x q) (Q : KSP m0 m1 m2 m3 dx dy s y r) (V : KSP m0 m1 m2 m3 dx dy u z v) (W : KSP m0 m1 m2 m3 dx dy k l j) :
  (dx*(k*l) - dy*l)*((y - x)*(k*l - t*x) - (s*y - t*x)*(l - x))*((x*(u*z) - t*x*z)*((y - dx)*(u*z - dy) - (s*y - dy)*(z - dx)))=(x*(k*l) - t*x*l)*((y - dx)*(k*l - dy) - (s*y - dy)*(l - dx))*((dx*(u*z) - dy*z)*((y - x)*(u*z - t*x) - (s*y - t*x)*(z - x))) := by
 have e1 := ks_three P Q W
 have e2 := ks_three P Q V
 have e3 := ks_two Q V
 have e4 := ks_two Q W
 have hn : q*r*j*(r*v) ≠ 0 := mul_ne (mul_ne (mul_ne P.ne Q.ne) W.ne) (mul_ne Q.ne V.ne)
 generalize (y - x)*(k*l - t*x) - (s*y - t*x)*(l - x)=A at *
 generalize (y - x)*(u*z - t*x) - (s*y - t*x)*(z - x)=B at *
 generalize (y - dx)*(u*z - dy) - (s*y - dy)*(z - dx)=C at *
 generalize (y - dx)*(k*l - dy) - (s*y - dy)*(l - dx)=D at *
 generalize (dy*m3 - dx*m1)*(dy*m3 - dx*m1)*m2 - (dy*m3 - dx*m1)*(dy*m2 - dx*m0)*(m3 - m0)+(dy*m2 - dx*m0)*(dy*m2 - dx*m0)*(-m1)=R at *
 generalize m0*m3 - m1*m2=M at *
 have h : (A*C*(u - t)*(dx*k - dy) - D*B*(k - t)*(dx*u - dy))*(q*r*j*(r*v))=0 := by
  have : (A*C*(u - t)*(dx*k - dy) - D*B*(k - t)*(dx*u - dy))*(q*r*j*(r*v))=(A*(q*r*j))*(C*(r*v))*(u - t)*(dx*k - dy) - (D*(r*j))*(B*(q*r*v))*(k - t)*(dx*u - dy) := by grind
  rw [this,e1,e2,e3,e4]; grind
 have h0 := (Rat.mul_eq_zero.1 h).resolve_right hn
 have h1 : (dx*(k*l) - dy*l)*A*((x*(u*z) - t*x*z)*C) - (x*(k*l) - t*x*l)*D*((dx*(u*z) - dy*z)*B)=x*z*l*(A*C*(u - t)*(dx*k - dy) - D*B*(k - t)*(dx*u - dy)) := by grind
 rw [h0,Rat.mul_zero] at h1
 grind
theorem ks_mk {m0 m1 m2 m3 ax ay bx b' T w p X Y : Rat} (hw : w=m2*T+m3) (hp : p=m0*T+m1) (h : Y - ay=T*(X - ax)∧(Y - b')*w=p*(X - bx)∧T*w - p ≠ 0) : KSP m0 m1 m2 m3 (bx - ax) (b' - ay) T (X - ax) (T*w - p) := by
 subst hw hp
 obtain ⟨h1,h2,h3⟩ := h
 refine ⟨rfl,h3,?_⟩
 have e : Y=ay+T*(X - ax) := by grind
 subst e
 grind
theorem ks_br {m0 m1 m2 m3 ax ay bx b' T0 w0 p0 X0 Y0 T1 w1 p1 X1 Y1 T2 w2 p2 X2 Y2 T3 w3 p3 X3 Y3 : Rat} (hw0 : w0=m2*T0+m3) (hp0 : p0=m0*T0+m1) (h0 : Y0 - ay=T0*(X0 - ax)∧(Y0 - b')*w0=p0*(X0 - bx)∧T0*w0 - p0 ≠ 0) (hw1 : w1=m2*T1+m3) (hp1 : p1=m0*T1+m1) (h1 : Y1 - ay=T1*(X1 - ax)∧(Y1 - b')*w1=p1*(X1 - bx)∧T1*w1 - p1 ≠ 0) (hw2 : w2=m2*T2+m3) (hp2 : p2=m0*T2+m1) (h2 : Y2 - ay=T2*(X2 - ax)∧(Y2 - b')*w2=p2*(X2 - bx)∧T2*w2 - p2 ≠ 0) (hw3 : w3=m2*T3+m3) (hp3 : p3=m0*T3+m1) (h3 : Y3 - ay=T3*(X3 - ax)∧(Y3 - b')*w3=p3*(X3 - bx)∧T3*w3 - p3 ≠ 0) : br ax ay bx b' X3 Y3*br X0 Y0 X1 Y1 X3 Y3*(br ax ay X0 Y0 X2 Y2*br bx b' X1 Y1 X2 Y2)=br ax ay X0 Y0 X3 Y3*br bx b' X1 Y1 X3 Y3*(br ax ay bx b' X2 Y2*br X0 Y0 X1 Y1 X2 Y2) := by
 have P0 := ks_mk hw0 hp0 h0
 have P1 := ks_mk hw1 hp1 h1
 have P2 := ks_mk hw2 hp2 h2
 have P3 := ks_mk hw3 hp3 h3
 have f : ∀ {T X Y : Rat},Y - ay=T*(X - ax)→Y=ay+T*(X - ax) := by intro T X Y h; grind
 have e0 := f h0.1
 have e1 := f h1.1
 have e2 := f h2.1
 have e3 := f h3.1
 clear h0 h1 h2 h3 f
 have c1 : br ax ay bx b' X3 Y3=(bx - ax)*(T3*(X3 - ax)) - (b' - ay)*(X3 - ax) := by clear P0 P1 P2 P3; rw [e3]; unfold br; grind
 have c2 : br X0 Y0 X1 Y1 X3 Y3=(X1 - ax - (X0 - ax))*(T3*(X3 - ax) - T0*(X0 - ax)) - (T1*(X1 - ax) - T0*(X0 - ax))*(X3 - ax - (X0 - ax)) := by clear P0 P1 P2 P3; rw [e0,e1,e3]; unfold br; grind
 have c3 : br ax ay X0 Y0 X2 Y2=(X0 - ax)*(T2*(X2 - ax)) - T0*(X0 - ax)*(X2 - ax) := by clear P0 P1 P2 P3; rw [e0,e2]; unfold br; grind
 have c4 : br bx b' X1 Y1 X2 Y2=(X1 - ax - (bx - ax))*(T2*(X2 - ax) - (b' - ay)) - (T1*(X1 - ax) - (b' - ay))*(X2 - ax - (bx - ax)) := by clear P0 P1 P2 P3; rw [e1,e2]; unfold br; grind
 have c5 : br ax ay X0 Y0 X3 Y3=(X0 - ax)*(T3*(X3 - ax)) - T0*(X0 - ax)*(X3 - ax) := by clear P0 P1 P2 P3; rw [e0,e3]; unfold br; grind
 have c6 : br bx b' X1 Y1 X3 Y3=(X1 - ax - (bx - ax))*(T3*(X3 - ax) - (b' - ay)) - (T1*(X1 - ax) - (b' - ay))*(X3 - ax - (bx - ax)) := by clear P0 P1 P2 P3; rw [e1,e3]; unfold br; grind
 have c7 : br ax ay bx b' X2 Y2=(bx - ax)*(T2*(X2 - ax)) - (b' - ay)*(X2 - ax) := by clear P0 P1 P2 P3; rw [e2]; unfold br; grind
 have c8 : br X0 Y0 X1 Y1 X2 Y2=(X1 - ax - (X0 - ax))*(T2*(X2 - ax) - T0*(X0 - ax)) - (T1*(X1 - ax) - T0*(X0 - ax))*(X2 - ax - (X0 - ax)) := by clear P0 P1 P2 P3; rw [e0,e1,e2]; unfold br; grind
 rw [c1,c2,c3,c4,c5,c6,c7,c8]
 exact ks_K P0 P1 P2 P3
theorem ks_on {m0 m1 m2 m3 ax ay bx b' T w p X Y : Rat} (hw : w=m2*T+m3) (hp : p=m0*T+m1) (h : Y - ay=T*(X - ax)∧(Y - b')*w=p*(X - bx)∧T*w - p ≠ 0) (hb : br ax ay bx b' X Y=0) : (X=ax∧Y=ay) ∨ (X=bx∧Y=b') := by
 have P := ks_mk hw hp h
 have e : Y=ay+T*(X - ax) := by have := h.1; grind
 have c : br ax ay bx b' X Y=(X - ax)*((bx - ax)*T - (b' - ay)) := by rw [e]; unfold br; grind
 rw [c] at hb
 rcases Rat.mul_eq_zero.1 hb with g | g
 ·left
  constructor
  ·grind
  ·rw [e,g]; grind
 ·right
  have a1 : (X - ax - (bx - ax))*(T*w - p)=0 := by
   have : (X - ax - (bx - ax))*(T*w - p)=(X - ax)*(T*w - p) - (bx - ax)*(T*w - p) := by grind
   rw [this,P.hx,hw,hp]
   have : (b' - ay)=(bx - ax)*T := by grind
   rw [this]; grind
  have a2 := (Rat.mul_eq_zero.1 a1).resolve_right P.ne
  have eX : X=bx := by grind
  refine ⟨eX,?_⟩
  rw [e,eX]
  grind
theorem ks_lin {c0 c1 c2 c3 c4 c5 ax ay bx b' X Y : Rat} (h0 : c0=0) (h1 : c1=0) (h2 : c2=0) (va : cv c0 c1 c2 c3 c4 c5 ax ay=0) (vb : cv c0 c1 c2 c3 c4 c5 bx b'=0) (vX : cv c0 c1 c2 c3 c4 c5 X Y=0) (hb : br ax ay bx b' X Y ≠ 0) : c3=0∧c4=0 := by
 subst h0 h1 h2
 unfold cv at va vb vX
 have e1 : c3*(bx - ax)+c4*(b' - ay)=0 := by grind
 have e2 : c3*(X - ax)+c4*(Y - ay)=0 := by grind
 clear va vb vX
 have k1 : c3*br ax ay bx b' X Y=0 := by unfold br; grind
 have k2 : c4*br ax ay bx b' X Y=0 := by unfold br; grind
 exact ⟨(Rat.mul_eq_zero.1 k1).resolve_right hb,(Rat.mul_eq_zero.1 k2).resolve_right hb⟩
theorem kT_l0 (H : kT_Q q σ) : (¬ (q 30=0)∧¬ (q 55=0)) := by
 have e22:q 22=1:=(H 22 _ rfl).trans kT_c22;have e23:q 23=q 4+q 22:=H 23 _ rfl;have e25:q 25=q 23-q 4:=H 25 _ rfl;have e27:q 27=-q 26:=H 27 _ rfl;have e28:q 28=q 27*q 27:=H 28 _ rfl;have e29:q 29=q 25*q 25:=H 29 _ rfl;have e30:q 30=q 28+q 29:=H 30 _ rfl;have e35:q 35=q 27*fac [q 27,q 25,q 34]:=H 35 _ rfl;have e36:q 36=q 25*fac [q 27,q 25,q 34]:=H 36 _ rfl;have e37:q 37=q 34*fac [q 27,q 25,q 34]:=H 37 _ rfl;have e53:q 53=q 35*q 35:=H 53 _ rfl;have e54:q 54=q 36*q 36:=H 54 _ rfl;have e55:q 55=q 53+q 54:=H 55 _ rfl
 clear H
 have hB : q 25=1 := by
  rw [e25,e23,e22]
  grind
 have n : ¬ (q 27=0∧q 25=0) := fun h => absurd (hB.symm.trans h.2) (by decide)
 have k : fac [q 27,q 25,q 34] ≠ 0 := fun h => n ⟨fac_zero (by simp) h,fac_zero (by simp) h⟩
 refine ⟨fun h => n ((sq2 e28 e29 e30).1 h),fun h => ?_⟩
 have ⟨h1,h2⟩ := (sq2 e53 e54 e55).1 h
 rw [e35] at h1
 rw [e36] at h2
 exact n ⟨(Rat.mul_eq_zero.1 h1).resolve_right k,(Rat.mul_eq_zero.1 h2).resolve_right k⟩
theorem kT_o0 (H : kT_Q q σ) : (¬ (q 45=0)∧¬ (q 58=0)) := by
 have e22:q 22=1:=(H 22 _ rfl).trans kT_c22;have e38:q 38=q 6+q 22:=H 38 _ rfl;have e40:q 40=q 38-q 6:=H 40 _ rfl;have e42:q 42=-q 41:=H 42 _ rfl;have e43:q 43=q 42*q 42:=H 43 _ rfl;have e44:q 44=q 40*q 40:=H 44 _ rfl;have e45:q 45=q 43+q 44:=H 45 _ rfl;have e50:q 50=q 42*fac [q 42,q 40,q 49]:=H 50 _ rfl;have e51:q 51=q 40*fac [q 42,q 40,q 49]:=H 51 _ rfl;have e52:q 52=q 49*fac [q 42,q 40,q 49]:=H 52 _ rfl;have e56:q 56=q 50*q 50:=H 56 _ rfl;have e57:q 57=q 51*q 51:=H 57 _ rfl;have e58:q 58=q 56+q 57:=H 58 _ rfl
 clear H
 have hB : q 40=1 := by
  rw [e40,e38,e22]
  grind
 have n : ¬ (q 42=0∧q 40=0) := fun h => absurd (hB.symm.trans h.2) (by decide)
 have k : fac [q 42,q 40,q 49] ≠ 0 := fun h => n ⟨fac_zero (by simp) h,fac_zero (by simp) h⟩
 refine ⟨fun h => n ((sq2 e43 e44 e45).1 h),fun h => ?_⟩
 have ⟨h1,h2⟩ := (sq2 e56 e57 e58).1 h
 rw [e50] at h1
 rw [e51] at h2
 exact n ⟨(Rat.mul_eq_zero.1 h1).resolve_right k,(Rat.mul_eq_zero.1 h2).resolve_right k⟩
theorem kT_P0z {z4 z5 z6 z7 z16 z18 z20 z21 z22 z23 z24 z25 z26 z27 z31 z32 z33 z34 z35 z36 z37 z38 z39 z40 z41 z42 z46 z47 z48 z49 z50 z51 z52 z59 z60 z61 z62 z63 z64 z65 z66 z67 z71 z72 z73 : Rat} : z21=z20/z18→z22=1→z23=z4+z22→z24=z5+z16→z25=z23-z4→z26=z24-z5→z27=-z26→z31=z27*z4→z32=z25*z5→z33=z31+z32→z34=-z33→z35=z27*fac [z27,z25,z34]→z36=z25*fac [z27,z25,z34]→z37=z34*fac [z27,z25,z34]→z38=z6+z22→z39=z7+z21→z40=z38-z6→z41=z39-z7→z42=-z41→z46=z42*z6→z47=z40*z7→z48=z46+z47→z49=-z48→z50=z42*fac [z42,z40,z49]→z51=z40*fac [z42,z40,z49]→z52=z49*fac [z42,z40,z49]→z59=z35*z51→z60=z36*z50→z61=z59-z60→z62=z50*z37→z63=z51*z37→z64=z35*z52→z65=z36*z52→z66=z62-z64→z67=z63-z65→z71=-z67→z72=z71/z61→z73=z66/z61→(¬ (z18=0))→(¬ (z61=0))→(z73-z5=z16*(z72-z4)∧(z73-z7)*z18=z20*(z72-z6)∧z16*z18-z20 ≠ 0) := by
 intro e21 e22 e23 e24 e25 e26 e27 e31 e32 e33 e34 e35 e36 e37 e38 e39 e40 e41 e42 e46 e47 e48 e49 e50 e51 e52 e59 e60 e61 e62 e63 e64 e65 e66 e67 e71 e72 e73
 intro u0 u1
 obtain ⟨lf,lg⟩ : ∃ f,f=fac [z27,z25,z34] := ⟨_,rfl⟩
 rw [← lg] at e35 e36 e37
 have l0 : z35=-z16*lf := by
  rw [e35,e27,e26,e24]
  grind
 have l1 : z36=lf := by
  rw [e36,e25,e23,e22]
  grind
 have l2 : z37=(z16*z4 - z5)*lf := by
  rw [e37,e34,e33,e32,e31,e27,e26,e25,e24,e23,e22]
  grind
 obtain ⟨of,og⟩ : ∃ f,f=fac [z42,z40,z49] := ⟨_,rfl⟩
 rw [← og] at e50 e51 e52
 have o0 : z50=-z21*of := by
  rw [e50,e42,e41,e39]
  grind
 have o1 : z51=of := by
  rw [e51,e40,e38,e22]
  grind
 have o2 : z52=(z21*z6 - z7)*of := by
  rw [e52,e49,e48,e47,e46,e42,e41,e40,e39,e38,e22]
  grind
 exact ks_pt u0 e21 l0 l1 l2 o0 o1 o2 (by rw [e61,e59,e60]) u1 (by rw [e72,e71,e67,e63,e65]) (by rw [e73,e66,e62,e64])
theorem kT_P0 (H : kT_Q q σ) : (¬ (q 18=0))→(¬ (q 61=0))→(q 73-q 5=q 16*(q 72-q 4)∧(q 73-q 7)*q 18=q 20*(q 72-q 6)∧q 16*q 18-q 20 ≠ 0) := by
 have e21:q 21=q 20/q 18:=H 21 _ rfl;have e22:q 22=1:=(H 22 _ rfl).trans kT_c22;have e23:q 23=q 4+q 22:=H 23 _ rfl;have e24:q 24=q 5+q 16:=H 24 _ rfl;have e25:q 25=q 23-q 4:=H 25 _ rfl;have e26:q 26=q 24-q 5:=H 26 _ rfl;have e27:q 27=-q 26:=H 27 _ rfl;have e31:q 31=q 27*q 4:=H 31 _ rfl;have e32:q 32=q 25*q 5:=H 32 _ rfl;have e33:q 33=q 31+q 32:=H 33 _ rfl;have e34:q 34=-q 33:=H 34 _ rfl;have e35:q 35=q 27*fac [q 27,q 25,q 34]:=H 35 _ rfl;have e36:q 36=q 25*fac [q 27,q 25,q 34]:=H 36 _ rfl;have e37:q 37=q 34*fac [q 27,q 25,q 34]:=H 37 _ rfl;have e38:q 38=q 6+q 22:=H 38 _ rfl;have e39:q 39=q 7+q 21:=H 39 _ rfl;have e40:q 40=q 38-q 6:=H 40 _ rfl;have e41:q 41=q 39-q 7:=H 41 _ rfl;have e42:q 42=-q 41:=H 42 _ rfl;have e46:q 46=q 42*q 6:=H 46 _ rfl;have e47:q 47=q 40*q 7:=H 47 _ rfl;have e48:q 48=q 46+q 47:=H 48 _ rfl;have e49:q 49=-q 48:=H 49 _ rfl;have e50:q 50=q 42*fac [q 42,q 40,q 49]:=H 50 _ rfl;have e51:q 51=q 40*fac [q 42,q 40,q 49]:=H 51 _ rfl;have e52:q 52=q 49*fac [q 42,q 40,q 49]:=H 52 _ rfl;have e59:q 59=q 35*q 51:=H 59 _ rfl;have e60:q 60=q 36*q 50:=H 60 _ rfl;have e61:q 61=q 59-q 60:=H 61 _ rfl;have e62:q 62=q 50*q 37:=H 62 _ rfl;have e63:q 63=q 51*q 37:=H 63 _ rfl;have e64:q 64=q 35*q 52:=H 64 _ rfl;have e65:q 65=q 36*q 52:=H 65 _ rfl;have e66:q 66=q 62-q 64:=H 66 _ rfl;have e67:q 67=q 63-q 65:=H 67 _ rfl;have e71:q 71=-q 67:=H 71 _ rfl;have e72:q 72=q 71/q 61:=H 72 _ rfl;have e73:q 73=q 66/q 61:=H 73 _ rfl
 exact kT_P0z e21 e22 e23 e24 e25 e26 e27 e31 e32 e33 e34 e35 e36 e37 e38 e39 e40 e41 e42 e46 e47 e48 e49 e50 e51 e52 e59 e60 e61 e62 e63 e64 e65 e66 e67 e71 e72 e73
theorem kT_l1 (H : kT_Q q σ) : (¬ (q 84=0)∧¬ (q 104=0)) := by
 have e22:q 22=1:=(H 22 _ rfl).trans kT_c22;have e23:q 23=q 4+q 22:=H 23 _ rfl;have e25:q 25=q 23-q 4:=H 25 _ rfl;have e29:q 29=q 25*q 25:=H 29 _ rfl;have e82:q 82=-q 81:=H 82 _ rfl;have e83:q 83=q 82*q 82:=H 83 _ rfl;have e84:q 84=q 83+q 29:=H 84 _ rfl;have e88:q 88=q 82*fac [q 82,q 25,q 87]:=H 88 _ rfl;have e89:q 89=q 25*fac [q 82,q 25,q 87]:=H 89 _ rfl;have e90:q 90=q 87*fac [q 82,q 25,q 87]:=H 90 _ rfl;have e102:q 102=q 88*q 88:=H 102 _ rfl;have e103:q 103=q 89*q 89:=H 103 _ rfl;have e104:q 104=q 102+q 103:=H 104 _ rfl
 clear H
 have hB : q 25=1 := by
  rw [e25,e23,e22]
  grind
 have n : ¬ (q 82=0∧q 25=0) := fun h => absurd (hB.symm.trans h.2) (by decide)
 have k : fac [q 82,q 25,q 87] ≠ 0 := fun h => n ⟨fac_zero (by simp) h,fac_zero (by simp) h⟩
 refine ⟨fun h => n ((sq2 e83 e29 e84).1 h),fun h => ?_⟩
 have ⟨h1,h2⟩ := (sq2 e102 e103 e104).1 h
 rw [e88] at h1
 rw [e89] at h2
 exact n ⟨(Rat.mul_eq_zero.1 h1).resolve_right k,(Rat.mul_eq_zero.1 h2).resolve_right k⟩
theorem kT_o1 (H : kT_Q q σ) : (¬ (q 95=0)∧¬ (q 107=0)) := by
 have e22:q 22=1:=(H 22 _ rfl).trans kT_c22;have e38:q 38=q 6+q 22:=H 38 _ rfl;have e40:q 40=q 38-q 6:=H 40 _ rfl;have e44:q 44=q 40*q 40:=H 44 _ rfl;have e93:q 93=-q 92:=H 93 _ rfl;have e94:q 94=q 93*q 93:=H 94 _ rfl;have e95:q 95=q 94+q 44:=H 95 _ rfl;have e99:q 99=q 93*fac [q 93,q 40,q 98]:=H 99 _ rfl;have e100:q 100=q 40*fac [q 93,q 40,q 98]:=H 100 _ rfl;have e101:q 101=q 98*fac [q 93,q 40,q 98]:=H 101 _ rfl;have e105:q 105=q 99*q 99:=H 105 _ rfl;have e106:q 106=q 100*q 100:=H 106 _ rfl;have e107:q 107=q 105+q 106:=H 107 _ rfl
 clear H
 have hB : q 40=1 := by
  rw [e40,e38,e22]
  grind
 have n : ¬ (q 93=0∧q 40=0) := fun h => absurd (hB.symm.trans h.2) (by decide)
 have k : fac [q 93,q 40,q 98] ≠ 0 := fun h => n ⟨fac_zero (by simp) h,fac_zero (by simp) h⟩
 refine ⟨fun h => n ((sq2 e94 e44 e95).1 h),fun h => ?_⟩
 have ⟨h1,h2⟩ := (sq2 e105 e106 e107).1 h
 rw [e99] at h1
 rw [e100] at h2
 exact n ⟨(Rat.mul_eq_zero.1 h1).resolve_right k,(Rat.mul_eq_zero.1 h2).resolve_right k⟩
theorem kT_P1z {z4 z5 z6 z7 z22 z23 z25 z32 z38 z40 z47 z74 z76 z78 z79 z80 z81 z82 z85 z86 z87 z88 z89 z90 z91 z92 z93 z96 z97 z98 z99 z100 z101 z108 z109 z110 z111 z112 z113 z114 z115 z116 z120 z121 z122 : Rat} : z22=1→z23=z4+z22→z25=z23-z4→z32=z25*z5→z38=z6+z22→z40=z38-z6→z47=z40*z7→z79=z78/z76→z80=z5+z74→z81=z80-z5→z82=-z81→z85=z82*z4→z86=z85+z32→z87=-z86→z88=z82*fac [z82,z25,z87]→z89=z25*fac [z82,z25,z87]→z90=z87*fac [z82,z25,z87]→z91=z7+z79→z92=z91-z7→z93=-z92→z96=z93*z6→z97=z96+z47→z98=-z97→z99=z93*fac [z93,z40,z98]→z100=z40*fac [z93,z40,z98]→z101=z98*fac [z93,z40,z98]→z108=z88*z100→z109=z89*z99→z110=z108-z109→z111=z99*z90→z112=z100*z90→z113=z88*z101→z114=z89*z101→z115=z111-z113→z116=z112-z114→z120=-z116→z121=z120/z110→z122=z115/z110→(¬ (z76=0))→(¬ (z110=0))→(z122-z5=z74*(z121-z4)∧(z122-z7)*z76=z78*(z121-z6)∧z74*z76-z78 ≠ 0) := by
 intro e22 e23 e25 e32 e38 e40 e47 e79 e80 e81 e82 e85 e86 e87 e88 e89 e90 e91 e92 e93 e96 e97 e98 e99 e100 e101 e108 e109 e110 e111 e112 e113 e114 e115 e116 e120 e121 e122
 intro u0 u1
 obtain ⟨lf,lg⟩ : ∃ f,f=fac [z82,z25,z87] := ⟨_,rfl⟩
 rw [← lg] at e88 e89 e90
 have l0 : z88=-z74*lf := by
  rw [e88,e82,e81,e80]
  grind
 have l1 : z89=lf := by
  rw [e89,e25,e23,e22]
  grind
 have l2 : z90=(z74*z4 - z5)*lf := by
  rw [e90,e87,e86,e85,e82,e81,e80,e32,e25,e23,e22]
  grind
 obtain ⟨of,og⟩ : ∃ f,f=fac [z93,z40,z98] := ⟨_,rfl⟩
 rw [← og] at e99 e100 e101
 have o0 : z99=-z79*of := by
  rw [e99,e93,e92,e91]
  grind
 have o1 : z100=of := by
  rw [e100,e40,e38,e22]
  grind
 have o2 : z101=(z79*z6 - z7)*of := by
  rw [e101,e98,e97,e96,e93,e92,e91,e47,e40,e38,e22]
  grind
 exact ks_pt u0 e79 l0 l1 l2 o0 o1 o2 (by rw [e110,e108,e109]) u1 (by rw [e121,e120,e116,e112,e114]) (by rw [e122,e115,e111,e113])
theorem kT_P1 (H : kT_Q q σ) : (¬ (q 76=0))→(¬ (q 110=0))→(q 122-q 5=q 74*(q 121-q 4)∧(q 122-q 7)*q 76=q 78*(q 121-q 6)∧q 74*q 76-q 78 ≠ 0) := by
 have e22:q 22=1:=(H 22 _ rfl).trans kT_c22;have e23:q 23=q 4+q 22:=H 23 _ rfl;have e25:q 25=q 23-q 4:=H 25 _ rfl;have e32:q 32=q 25*q 5:=H 32 _ rfl;have e38:q 38=q 6+q 22:=H 38 _ rfl;have e40:q 40=q 38-q 6:=H 40 _ rfl;have e47:q 47=q 40*q 7:=H 47 _ rfl;have e79:q 79=q 78/q 76:=H 79 _ rfl;have e80:q 80=q 5+q 74:=H 80 _ rfl;have e81:q 81=q 80-q 5:=H 81 _ rfl;have e82:q 82=-q 81:=H 82 _ rfl;have e85:q 85=q 82*q 4:=H 85 _ rfl;have e86:q 86=q 85+q 32:=H 86 _ rfl;have e87:q 87=-q 86:=H 87 _ rfl;have e88:q 88=q 82*fac [q 82,q 25,q 87]:=H 88 _ rfl;have e89:q 89=q 25*fac [q 82,q 25,q 87]:=H 89 _ rfl;have e90:q 90=q 87*fac [q 82,q 25,q 87]:=H 90 _ rfl;have e91:q 91=q 7+q 79:=H 91 _ rfl;have e92:q 92=q 91-q 7:=H 92 _ rfl;have e93:q 93=-q 92:=H 93 _ rfl;have e96:q 96=q 93*q 6:=H 96 _ rfl;have e97:q 97=q 96+q 47:=H 97 _ rfl;have e98:q 98=-q 97:=H 98 _ rfl;have e99:q 99=q 93*fac [q 93,q 40,q 98]:=H 99 _ rfl;have e100:q 100=q 40*fac [q 93,q 40,q 98]:=H 100 _ rfl;have e101:q 101=q 98*fac [q 93,q 40,q 98]:=H 101 _ rfl;have e108:q 108=q 88*q 100:=H 108 _ rfl;have e109:q 109=q 89*q 99:=H 109 _ rfl;have e110:q 110=q 108-q 109:=H 110 _ rfl;have e111:q 111=q 99*q 90:=H 111 _ rfl;have e112:q 112=q 100*q 90:=H 112 _ rfl;have e113:q 113=q 88*q 101:=H 113 _ rfl;have e114:q 114=q 89*q 101:=H 114 _ rfl;have e115:q 115=q 111-q 113:=H 115 _ rfl;have e116:q 116=q 112-q 114:=H 116 _ rfl;have e120:q 120=-q 116:=H 120 _ rfl;have e121:q 121=q 120/q 110:=H 121 _ rfl;have e122:q 122=q 115/q 110:=H 122 _ rfl
 exact kT_P1z e22 e23 e25 e32 e38 e40 e47 e79 e80 e81 e82 e85 e86 e87 e88 e89 e90 e91 e92 e93 e96 e97 e98 e99 e100 e101 e108 e109 e110 e111 e112 e113 e114 e115 e116 e120 e121 e122
theorem kT_l2 (H : kT_Q q σ) : (¬ (q 133=0)∧¬ (q 153=0)) := by
 have e22:q 22=1:=(H 22 _ rfl).trans kT_c22;have e23:q 23=q 4+q 22:=H 23 _ rfl;have e25:q 25=q 23-q 4:=H 25 _ rfl;have e29:q 29=q 25*q 25:=H 29 _ rfl;have e131:q 131=-q 130:=H 131 _ rfl;have e132:q 132=q 131*q 131:=H 132 _ rfl;have e133:q 133=q 132+q 29:=H 133 _ rfl;have e137:q 137=q 131*fac [q 131,q 25,q 136]:=H 137 _ rfl;have e138:q 138=q 25*fac [q 131,q 25,q 136]:=H 138 _ rfl;have e139:q 139=q 136*fac [q 131,q 25,q 136]:=H 139 _ rfl;have e151:q 151=q 137*q 137:=H 151 _ rfl;have e152:q 152=q 138*q 138:=H 152 _ rfl;have e153:q 153=q 151+q 152:=H 153 _ rfl
 clear H
 have hB : q 25=1 := by
  rw [e25,e23,e22]
  grind
 have n : ¬ (q 131=0∧q 25=0) := fun h => absurd (hB.symm.trans h.2) (by decide)
 have k : fac [q 131,q 25,q 136] ≠ 0 := fun h => n ⟨fac_zero (by simp) h,fac_zero (by simp) h⟩
 refine ⟨fun h => n ((sq2 e132 e29 e133).1 h),fun h => ?_⟩
 have ⟨h1,h2⟩ := (sq2 e151 e152 e153).1 h
 rw [e137] at h1
 rw [e138] at h2
 exact n ⟨(Rat.mul_eq_zero.1 h1).resolve_right k,(Rat.mul_eq_zero.1 h2).resolve_right k⟩
theorem kT_o2 (H : kT_Q q σ) : (¬ (q 144=0)∧¬ (q 156=0)) := by
 have e22:q 22=1:=(H 22 _ rfl).trans kT_c22;have e38:q 38=q 6+q 22:=H 38 _ rfl;have e40:q 40=q 38-q 6:=H 40 _ rfl;have e44:q 44=q 40*q 40:=H 44 _ rfl;have e142:q 142=-q 141:=H 142 _ rfl;have e143:q 143=q 142*q 142:=H 143 _ rfl;have e144:q 144=q 143+q 44:=H 144 _ rfl;have e148:q 148=q 142*fac [q 142,q 40,q 147]:=H 148 _ rfl;have e149:q 149=q 40*fac [q 142,q 40,q 147]:=H 149 _ rfl;have e150:q 150=q 147*fac [q 142,q 40,q 147]:=H 150 _ rfl;have e154:q 154=q 148*q 148:=H 154 _ rfl;have e155:q 155=q 149*q 149:=H 155 _ rfl;have e156:q 156=q 154+q 155:=H 156 _ rfl
 clear H
 have hB : q 40=1 := by
  rw [e40,e38,e22]
  grind
 have n : ¬ (q 142=0∧q 40=0) := fun h => absurd (hB.symm.trans h.2) (by decide)
 have k : fac [q 142,q 40,q 147] ≠ 0 := fun h => n ⟨fac_zero (by simp) h,fac_zero (by simp) h⟩
 refine ⟨fun h => n ((sq2 e143 e44 e144).1 h),fun h => ?_⟩
 have ⟨h1,h2⟩ := (sq2 e154 e155 e156).1 h
 rw [e148] at h1
 rw [e149] at h2
 exact n ⟨(Rat.mul_eq_zero.1 h1).resolve_right k,(Rat.mul_eq_zero.1 h2).resolve_right k⟩
theorem kT_P2z {z4 z5 z6 z7 z22 z23 z25 z32 z38 z40 z47 z123 z125 z127 z128 z129 z130 z131 z134 z135 z136 z137 z138 z139 z140 z141 z142 z145 z146 z147 z148 z149 z150 z157 z158 z159 z160 z161 z162 z163 z164 z165 z169 z170 z171 : Rat} : z22=1→z23=z4+z22→z25=z23-z4→z32=z25*z5→z38=z6+z22→z40=z38-z6→z47=z40*z7→z128=z127/z125→z129=z5+z123→z130=z129-z5→z131=-z130→z134=z131*z4→z135=z134+z32→z136=-z135→z137=z131*fac [z131,z25,z136]→z138=z25*fac [z131,z25,z136]→z139=z136*fac [z131,z25,z136]→z140=z7+z128→z141=z140-z7→z142=-z141→z145=z142*z6→z146=z145+z47→z147=-z146→z148=z142*fac [z142,z40,z147]→z149=z40*fac [z142,z40,z147]→z150=z147*fac [z142,z40,z147]→z157=z137*z149→z158=z138*z148→z159=z157-z158→z160=z148*z139→z161=z149*z139→z162=z137*z150→z163=z138*z150→z164=z160-z162→z165=z161-z163→z169=-z165→z170=z169/z159→z171=z164/z159→(¬ (z125=0))→(¬ (z159=0))→(z171-z5=z123*(z170-z4)∧(z171-z7)*z125=z127*(z170-z6)∧z123*z125-z127 ≠ 0) := by
 intro e22 e23 e25 e32 e38 e40 e47 e128 e129 e130 e131 e134 e135 e136 e137 e138 e139 e140 e141 e142 e145 e146 e147 e148 e149 e150 e157 e158 e159 e160 e161 e162 e163 e164 e165 e169 e170 e171
 intro u0 u1
 obtain ⟨lf,lg⟩ : ∃ f,f=fac [z131,z25,z136] := ⟨_,rfl⟩
 rw [← lg] at e137 e138 e139
 have l0 : z137=-z123*lf := by
  rw [e137,e131,e130,e129]
  grind
 have l1 : z138=lf := by
  rw [e138,e25,e23,e22]
  grind
 have l2 : z139=(z123*z4 - z5)*lf := by
  rw [e139,e136,e135,e134,e131,e130,e129,e32,e25,e23,e22]
  grind
 obtain ⟨of,og⟩ : ∃ f,f=fac [z142,z40,z147] := ⟨_,rfl⟩
 rw [← og] at e148 e149 e150
 have o0 : z148=-z128*of := by
  rw [e148,e142,e141,e140]
  grind
 have o1 : z149=of := by
  rw [e149,e40,e38,e22]
  grind
 have o2 : z150=(z128*z6 - z7)*of := by
  rw [e150,e147,e146,e145,e142,e141,e140,e47,e40,e38,e22]
  grind
 exact ks_pt u0 e128 l0 l1 l2 o0 o1 o2 (by rw [e159,e157,e158]) u1 (by rw [e170,e169,e165,e161,e163]) (by rw [e171,e164,e160,e162])
theorem kT_P2 (H : kT_Q q σ) : (¬ (q 125=0))→(¬ (q 159=0))→(q 171-q 5=q 123*(q 170-q 4)∧(q 171-q 7)*q 125=q 127*(q 170-q 6)∧q 123*q 125-q 127 ≠ 0) := by
 have e22:q 22=1:=(H 22 _ rfl).trans kT_c22;have e23:q 23=q 4+q 22:=H 23 _ rfl;have e25:q 25=q 23-q 4:=H 25 _ rfl;have e32:q 32=q 25*q 5:=H 32 _ rfl;have e38:q 38=q 6+q 22:=H 38 _ rfl;have e40:q 40=q 38-q 6:=H 40 _ rfl;have e47:q 47=q 40*q 7:=H 47 _ rfl;have e128:q 128=q 127/q 125:=H 128 _ rfl;have e129:q 129=q 5+q 123:=H 129 _ rfl;have e130:q 130=q 129-q 5:=H 130 _ rfl;have e131:q 131=-q 130:=H 131 _ rfl;have e134:q 134=q 131*q 4:=H 134 _ rfl;have e135:q 135=q 134+q 32:=H 135 _ rfl;have e136:q 136=-q 135:=H 136 _ rfl;have e137:q 137=q 131*fac [q 131,q 25,q 136]:=H 137 _ rfl;have e138:q 138=q 25*fac [q 131,q 25,q 136]:=H 138 _ rfl;have e139:q 139=q 136*fac [q 131,q 25,q 136]:=H 139 _ rfl;have e140:q 140=q 7+q 128:=H 140 _ rfl;have e141:q 141=q 140-q 7:=H 141 _ rfl;have e142:q 142=-q 141:=H 142 _ rfl;have e145:q 145=q 142*q 6:=H 145 _ rfl;have e146:q 146=q 145+q 47:=H 146 _ rfl;have e147:q 147=-q 146:=H 147 _ rfl;have e148:q 148=q 142*fac [q 142,q 40,q 147]:=H 148 _ rfl;have e149:q 149=q 40*fac [q 142,q 40,q 147]:=H 149 _ rfl;have e150:q 150=q 147*fac [q 142,q 40,q 147]:=H 150 _ rfl;have e157:q 157=q 137*q 149:=H 157 _ rfl;have e158:q 158=q 138*q 148:=H 158 _ rfl;have e159:q 159=q 157-q 158:=H 159 _ rfl;have e160:q 160=q 148*q 139:=H 160 _ rfl;have e161:q 161=q 149*q 139:=H 161 _ rfl;have e162:q 162=q 137*q 150:=H 162 _ rfl;have e163:q 163=q 138*q 150:=H 163 _ rfl;have e164:q 164=q 160-q 162:=H 164 _ rfl;have e165:q 165=q 161-q 163:=H 165 _ rfl;have e169:q 169=-q 165:=H 169 _ rfl;have e170:q 170=q 169/q 159:=H 170 _ rfl;have e171:q 171=q 164/q 159:=H 171 _ rfl
 exact kT_P2z e22 e23 e25 e32 e38 e40 e47 e128 e129 e130 e131 e134 e135 e136 e137 e138 e139 e140 e141 e142 e145 e146 e147 e148 e149 e150 e157 e158 e159 e160 e161 e162 e163 e164 e165 e169 e170 e171
theorem kT_l3 (H : kT_Q q σ) : (¬ (q 182=0)∧¬ (q 202=0)) := by
 have e22:q 22=1:=(H 22 _ rfl).trans kT_c22;have e23:q 23=q 4+q 22:=H 23 _ rfl;have e25:q 25=q 23-q 4:=H 25 _ rfl;have e29:q 29=q 25*q 25:=H 29 _ rfl;have e180:q 180=-q 179:=H 180 _ rfl;have e181:q 181=q 180*q 180:=H 181 _ rfl;have e182:q 182=q 181+q 29:=H 182 _ rfl;have e186:q 186=q 180*fac [q 180,q 25,q 185]:=H 186 _ rfl;have e187:q 187=q 25*fac [q 180,q 25,q 185]:=H 187 _ rfl;have e188:q 188=q 185*fac [q 180,q 25,q 185]:=H 188 _ rfl;have e200:q 200=q 186*q 186:=H 200 _ rfl;have e201:q 201=q 187*q 187:=H 201 _ rfl;have e202:q 202=q 200+q 201:=H 202 _ rfl
 clear H
 have hB : q 25=1 := by
  rw [e25,e23,e22]
  grind
 have n : ¬ (q 180=0∧q 25=0) := fun h => absurd (hB.symm.trans h.2) (by decide)
 have k : fac [q 180,q 25,q 185] ≠ 0 := fun h => n ⟨fac_zero (by simp) h,fac_zero (by simp) h⟩
 refine ⟨fun h => n ((sq2 e181 e29 e182).1 h),fun h => ?_⟩
 have ⟨h1,h2⟩ := (sq2 e200 e201 e202).1 h
 rw [e186] at h1
 rw [e187] at h2
 exact n ⟨(Rat.mul_eq_zero.1 h1).resolve_right k,(Rat.mul_eq_zero.1 h2).resolve_right k⟩
theorem kT_o3 (H : kT_Q q σ) : (¬ (q 193=0)∧¬ (q 205=0)) := by
 have e22:q 22=1:=(H 22 _ rfl).trans kT_c22;have e38:q 38=q 6+q 22:=H 38 _ rfl;have e40:q 40=q 38-q 6:=H 40 _ rfl;have e44:q 44=q 40*q 40:=H 44 _ rfl;have e191:q 191=-q 190:=H 191 _ rfl;have e192:q 192=q 191*q 191:=H 192 _ rfl;have e193:q 193=q 192+q 44:=H 193 _ rfl;have e197:q 197=q 191*fac [q 191,q 40,q 196]:=H 197 _ rfl;have e198:q 198=q 40*fac [q 191,q 40,q 196]:=H 198 _ rfl;have e199:q 199=q 196*fac [q 191,q 40,q 196]:=H 199 _ rfl;have e203:q 203=q 197*q 197:=H 203 _ rfl;have e204:q 204=q 198*q 198:=H 204 _ rfl;have e205:q 205=q 203+q 204:=H 205 _ rfl
 clear H
 have hB : q 40=1 := by
  rw [e40,e38,e22]
  grind
 have n : ¬ (q 191=0∧q 40=0) := fun h => absurd (hB.symm.trans h.2) (by decide)
 have k : fac [q 191,q 40,q 196] ≠ 0 := fun h => n ⟨fac_zero (by simp) h,fac_zero (by simp) h⟩
 refine ⟨fun h => n ((sq2 e192 e44 e193).1 h),fun h => ?_⟩
 have ⟨h1,h2⟩ := (sq2 e203 e204 e205).1 h
 rw [e197] at h1
 rw [e198] at h2
 exact n ⟨(Rat.mul_eq_zero.1 h1).resolve_right k,(Rat.mul_eq_zero.1 h2).resolve_right k⟩
theorem kT_P3z {z4 z5 z6 z7 z22 z23 z25 z32 z38 z40 z47 z172 z174 z176 z177 z178 z179 z180 z183 z184 z185 z186 z187 z188 z189 z190 z191 z194 z195 z196 z197 z198 z199 z206 z207 z208 z209 z210 z211 z212 z213 z214 z218 z219 z220 : Rat} : z22=1→z23=z4+z22→z25=z23-z4→z32=z25*z5→z38=z6+z22→z40=z38-z6→z47=z40*z7→z177=z176/z174→z178=z5+z172→z179=z178-z5→z180=-z179→z183=z180*z4→z184=z183+z32→z185=-z184→z186=z180*fac [z180,z25,z185]→z187=z25*fac [z180,z25,z185]→z188=z185*fac [z180,z25,z185]→z189=z7+z177→z190=z189-z7→z191=-z190→z194=z191*z6→z195=z194+z47→z196=-z195→z197=z191*fac [z191,z40,z196]→z198=z40*fac [z191,z40,z196]→z199=z196*fac [z191,z40,z196]→z206=z186*z198→z207=z187*z197→z208=z206-z207→z209=z197*z188→z210=z198*z188→z211=z186*z199→z212=z187*z199→z213=z209-z211→z214=z210-z212→z218=-z214→z219=z218/z208→z220=z213/z208→(¬ (z174=0))→(¬ (z208=0))→(z220-z5=z172*(z219-z4)∧(z220-z7)*z174=z176*(z219-z6)∧z172*z174-z176 ≠ 0) := by
 intro e22 e23 e25 e32 e38 e40 e47 e177 e178 e179 e180 e183 e184 e185 e186 e187 e188 e189 e190 e191 e194 e195 e196 e197 e198 e199 e206 e207 e208 e209 e210 e211 e212 e213 e214 e218 e219 e220
 intro u0 u1
 obtain ⟨lf,lg⟩ : ∃ f,f=fac [z180,z25,z185] := ⟨_,rfl⟩
 rw [← lg] at e186 e187 e188
 have l0 : z186=-z172*lf := by
  rw [e186,e180,e179,e178]
  grind
 have l1 : z187=lf := by
  rw [e187,e25,e23,e22]
  grind
 have l2 : z188=(z172*z4 - z5)*lf := by
  rw [e188,e185,e184,e183,e180,e179,e178,e32,e25,e23,e22]
  grind
 obtain ⟨of,og⟩ : ∃ f,f=fac [z191,z40,z196] := ⟨_,rfl⟩
 rw [← og] at e197 e198 e199
 have o0 : z197=-z177*of := by
  rw [e197,e191,e190,e189]
  grind
 have o1 : z198=of := by
  rw [e198,e40,e38,e22]
  grind
 have o2 : z199=(z177*z6 - z7)*of := by
  rw [e199,e196,e195,e194,e191,e190,e189,e47,e40,e38,e22]
  grind
 exact ks_pt u0 e177 l0 l1 l2 o0 o1 o2 (by rw [e208,e206,e207]) u1 (by rw [e219,e218,e214,e210,e212]) (by rw [e220,e213,e209,e211])
theorem kT_P3 (H : kT_Q q σ) : (¬ (q 174=0))→(¬ (q 208=0))→(q 220-q 5=q 172*(q 219-q 4)∧(q 220-q 7)*q 174=q 176*(q 219-q 6)∧q 172*q 174-q 176 ≠ 0) := by
 have e22:q 22=1:=(H 22 _ rfl).trans kT_c22;have e23:q 23=q 4+q 22:=H 23 _ rfl;have e25:q 25=q 23-q 4:=H 25 _ rfl;have e32:q 32=q 25*q 5:=H 32 _ rfl;have e38:q 38=q 6+q 22:=H 38 _ rfl;have e40:q 40=q 38-q 6:=H 40 _ rfl;have e47:q 47=q 40*q 7:=H 47 _ rfl;have e177:q 177=q 176/q 174:=H 177 _ rfl;have e178:q 178=q 5+q 172:=H 178 _ rfl;have e179:q 179=q 178-q 5:=H 179 _ rfl;have e180:q 180=-q 179:=H 180 _ rfl;have e183:q 183=q 180*q 4:=H 183 _ rfl;have e184:q 184=q 183+q 32:=H 184 _ rfl;have e185:q 185=-q 184:=H 185 _ rfl;have e186:q 186=q 180*fac [q 180,q 25,q 185]:=H 186 _ rfl;have e187:q 187=q 25*fac [q 180,q 25,q 185]:=H 187 _ rfl;have e188:q 188=q 185*fac [q 180,q 25,q 185]:=H 188 _ rfl;have e189:q 189=q 7+q 177:=H 189 _ rfl;have e190:q 190=q 189-q 7:=H 190 _ rfl;have e191:q 191=-q 190:=H 191 _ rfl;have e194:q 194=q 191*q 6:=H 194 _ rfl;have e195:q 195=q 194+q 47:=H 195 _ rfl;have e196:q 196=-q 195:=H 196 _ rfl;have e197:q 197=q 191*fac [q 191,q 40,q 196]:=H 197 _ rfl;have e198:q 198=q 40*fac [q 191,q 40,q 196]:=H 198 _ rfl;have e199:q 199=q 196*fac [q 191,q 40,q 196]:=H 199 _ rfl;have e206:q 206=q 186*q 198:=H 206 _ rfl;have e207:q 207=q 187*q 197:=H 207 _ rfl;have e208:q 208=q 206-q 207:=H 208 _ rfl;have e209:q 209=q 197*q 188:=H 209 _ rfl;have e210:q 210=q 198*q 188:=H 210 _ rfl;have e211:q 211=q 186*q 199:=H 211 _ rfl;have e212:q 212=q 187*q 199:=H 212 _ rfl;have e213:q 213=q 209-q 211:=H 213 _ rfl;have e214:q 214=q 210-q 212:=H 214 _ rfl;have e218:q 218=-q 214:=H 218 _ rfl;have e219:q 219=q 218/q 208:=H 219 _ rfl;have e220:q 220=q 213/q 208:=H 220 _ rfl
 exact kT_P3z e22 e23 e25 e32 e38 e40 e47 e177 e178 e179 e180 e183 e184 e185 e186 e187 e188 e189 e190 e191 e194 e195 e196 e197 e198 e199 e206 e207 e208 e209 e210 e211 e212 e213 e214 e218 e219 e220
theorem kT_F (H : kT_Q q σ) : (¬ (q 359=0))→(¬ (q 374=0)) := by
 have e351:q 351=q 335*q 335:=H 351 _ rfl;have e352:q 352=q 338*q 338:=H 352 _ rfl;have e353:q 353=q 351+q 352:=H 353 _ rfl;have e354:q 354=q 341*q 341:=H 354 _ rfl;have e355:q 355=q 353+q 354:=H 355 _ rfl;have e356:q 356=q 344*q 344:=H 356 _ rfl;have e357:q 357=q 355+q 356:=H 357 _ rfl;have e358:q 358=q 347*q 347:=H 358 _ rfl;have e359:q 359=q 357+q 358:=H 359 _ rfl;have e360:q 360=q 335*fac [q 335,q 338,q 341,q 344,q 347,q 350]:=H 360 _ rfl;have e361:q 361=q 338*fac [q 335,q 338,q 341,q 344,q 347,q 350]:=H 361 _ rfl;have e362:q 362=q 341*fac [q 335,q 338,q 341,q 344,q 347,q 350]:=H 362 _ rfl;have e363:q 363=q 344*fac [q 335,q 338,q 341,q 344,q 347,q 350]:=H 363 _ rfl;have e364:q 364=q 347*fac [q 335,q 338,q 341,q 344,q 347,q 350]:=H 364 _ rfl;have e365:q 365=q 350*fac [q 335,q 338,q 341,q 344,q 347,q 350]:=H 365 _ rfl;have e366:q 366=q 360*q 360:=H 366 _ rfl;have e367:q 367=q 361*q 361:=H 367 _ rfl;have e368:q 368=q 366+q 367:=H 368 _ rfl;have e369:q 369=q 362*q 362:=H 369 _ rfl;have e370:q 370=q 368+q 369:=H 370 _ rfl;have e371:q 371=q 363*q 363:=H 371 _ rfl;have e372:q 372=q 370+q 371:=H 372 _ rfl;have e373:q 373=q 364*q 364:=H 373 _ rfl;have e374:q 374=q 372+q 373:=H 374 _ rfl
 clear H
 intro u0
 have n : ¬ (q 335=0∧q 338=0∧q 341=0∧q 344=0∧q 347=0) := fun h => u0 ((sq5 e351 e352 e353 e354 e355 e356 e357 e358 e359).2 h)
 have k : fac [q 335,q 338,q 341,q 344,q 347,q 350] ≠ 0 := fun h => n ⟨fac_zero (by simp) h,fac_zero (by simp) h,fac_zero (by simp) h,fac_zero (by simp) h,fac_zero (by simp) h⟩
 intro h
 have ⟨h0,h1,h2,h3,h4⟩ := (sq5 e366 e367 e368 e369 e370 e371 e372 e373 e374).1 h
 rw [e360] at h0
 rw [e361] at h1
 rw [e362] at h2
 rw [e363] at h3
 rw [e364] at h4
 exact n ⟨(Rat.mul_eq_zero.1 h0).resolve_right k,(Rat.mul_eq_zero.1 h1).resolve_right k,(Rat.mul_eq_zero.1 h2).resolve_right k,(Rat.mul_eq_zero.1 h3).resolve_right k,(Rat.mul_eq_zero.1 h4).resolve_right k⟩
theorem kT_Kz {z0 z1 z2 z3 z4 z5 z6 z7 z16 z17 z18 z19 z20 z22 z72 z73 z74 z75 z76 z77 z78 z121 z122 z123 z124 z125 z126 z127 z170 z171 z172 z173 z174 z175 z176 z219 z220 z221 z222 z223 z224 z225 z226 z227 z228 z229 z230 z231 z232 z233 z234 z235 z236 z237 z238 z239 z240 z241 z242 z243 z244 z245 z246 z247 z248 z249 z250 z251 z252 z253 z254 z255 z256 z257 z258 z259 z260 z261 z262 z263 z264 z265 z266 z267 z268 z269 z270 z271 z272 z273 z274 z275 z276 z277 z278 z279 z280 z281 z282 z283 z284 z285 z286 z287 z288 z289 z290 z291 z292 z293 z294 z295 z296 z297 z298 z299 z300 z301 z302 z303 z304 z305 z306 z307 z308 z309 z310 z311 z312 z313 z314 z315 z316 z317 z318 z319 z320 z321 z322 z323 z324 z325 z326 z327 z328 z329 z330 z331 z332 z333 z334 z335 z336 z337 z338 z339 z340 z341 z342 z343 z344 z345 z346 z347 z348 z349 z350 z360 z361 z362 z363 z364 z365 z375 z376 z377 z378 z379 z380 z381 z382 z383 z384 z385 z386 z387 z388 z389 z390 z391 z392 z393 z394 z395 z396 z397 z398 z399 z400 z401 : Rat} : z17=z2*z16→z18=z17+z3→z19=z0*z16→z20=z19+z1→z22=1→z75=z2*z74→z76=z75+z3→z77=z0*z74→z78=z77+z1→z124=z2*z123→z125=z124+z3→z126=z0*z123→z127=z126+z1→z173=z2*z172→z174=z173+z3→z175=z0*z172→z176=z175+z1→z221=z5*z22→z222=z22*z7→z223=z221-z222→z224=z22*z6→z225=z4*z22→z226=z224-z225→z227=z4*z7→z228=z5*z6→z229=z227-z228→z230=z73*z22→z231=z22*z122→z232=z230-z231→z233=z22*z121→z234=z72*z22→z235=z233-z234→z236=z72*z122→z237=z73*z121→z238=z236-z237→z239=z223*z232→z240=z223*z235→z241=z226*z232→z242=z240+z241→z243=z226*z235→z244=z223*z238→z245=z229*z232→z246=z244+z245→z247=z226*z238→z248=z229*z235→z249=z247+z248→z250=z229*z238→z251=z22*z73→z252=z221-z251→z253=z22*z72→z254=z253-z225→z255=z4*z73→z256=z5*z72→z257=z255-z256→z258=z7*z22→z259=z258-z231→z260=z6*z22→z261=z233-z260→z262=z6*z122→z263=z7*z121→z264=z262-z263→z265=z252*z259→z266=z252*z261→z267=z254*z259→z268=z266+z267→z269=z254*z261→z270=z252*z264→z271=z257*z259→z272=z270+z271→z273=z254*z264→z274=z257*z261→z275=z273+z274→z276=z257*z264→z277=2→z278=z239*z277→z279=z243*z277→z280=z250*z277→z281=z278*z170→z282=0→z283=z282+z281→z284=z242*z171→z285=z283+z284→z286=z246*z22→z287=z285+z286→z288=z242*z170→z289=z282+z288→z290=z279*z171→z291=z289+z290→z292=z249*z22→z293=z291+z292→z294=z246*z170→z295=z282+z294→z296=z249*z171→z297=z295+z296→z298=z280*z22→z299=z297+z298→z300=z170*z287→z301=z282+z300→z302=z171*z293→z303=z301+z302→z304=z22*z299→z305=z303+z304→z306=z265*z277→z307=z269*z277→z308=z276*z277→z309=z306*z170→z310=z282+z309→z311=z268*z171→z312=z310+z311→z313=z272*z22→z314=z312+z313→z315=z268*z170→z316=z282+z315→z317=z307*z171→z318=z316+z317→z319=z275*z22→z320=z318+z319→z321=z272*z170→z322=z282+z321→z323=z275*z171→z324=z322+z323→z325=z308*z22→z326=z324+z325→z327=z170*z314→z328=z282+z327→z329=z171*z320→z330=z328+z329→z331=z22*z326→z332=z330+z331→z333=z239*z332→z334=z265*z305→z335=z333-z334→z336=z242*z332→z337=z268*z305→z338=z336-z337→z339=z243*z332→z340=z269*z305→z341=z339-z340→z342=z246*z332→z343=z272*z305→z344=z342-z343→z345=z249*z332→z346=z275*z305→z347=z345-z346→z348=z250*z332→z349=z276*z305→z350=z348-z349→z360=z335*fac [z335,z338,z341,z344,z347,z350]→z361=z338*fac [z335,z338,z341,z344,z347,z350]→z362=z341*fac [z335,z338,z341,z344,z347,z350]→z363=z344*fac [z335,z338,z341,z344,z347,z350]→z364=z347*fac [z335,z338,z341,z344,z347,z350]→z365=z350*fac [z335,z338,z341,z344,z347,z350]→z375=z360*z277→z376=z362*z277→z377=z365*z277→z378=z375*z219→z379=z282+z378→z380=z361*z220→z381=z379+z380→z382=z363*z22→z383=z381+z382→z384=z361*z219→z385=z282+z384→z386=z376*z220→z387=z385+z386→z388=z364*z22→z389=z387+z388→z390=z363*z219→z391=z282+z390→z392=z364*z220→z393=z391+z392→z394=z377*z22→z395=z393+z394→z396=z219*z383→z397=z282+z396→z398=z220*z389→z399=z397+z398→z400=z22*z395→z401=z399+z400→(z73-z5=z16*(z72-z4)∧(z73-z7)*z18=z20*(z72-z6)∧z16*z18-z20 ≠ 0)→(z122-z5=z74*(z121-z4)∧(z122-z7)*z76=z78*(z121-z6)∧z74*z76-z78 ≠ 0)→(z171-z5=z123*(z170-z4)∧(z171-z7)*z125=z127*(z170-z6)∧z123*z125-z127 ≠ 0)→(z220-z5=z172*(z219-z4)∧(z220-z7)*z174=z176*(z219-z6)∧z172*z174-z176 ≠ 0)→(z401=0) := by
 intro e17 e18 e19 e20 e22 e75 e76 e77 e78 e124 e125 e126 e127 e173 e174 e175 e176 e221 e222 e223 e224 e225 e226 e227 e228 e229 e230 e231 e232 e233 e234 e235 e236 e237 e238 e239 e240 e241 e242 e243 e244 e245 e246 e247 e248 e249 e250 e251 e252 e253 e254 e255 e256 e257 e258 e259 e260 e261 e262 e263 e264 e265 e266 e267 e268 e269 e270 e271 e272 e273 e274 e275 e276 e277 e278 e279 e280 e281 e282 e283 e284 e285 e286 e287 e288 e289 e290 e291 e292 e293 e294 e295 e296 e297 e298 e299 e300 e301 e302 e303 e304 e305 e306 e307 e308 e309 e310 e311 e312 e313 e314 e315 e316 e317 e318 e319 e320 e321 e322 e323 e324 e325 e326 e327 e328 e329 e330 e331 e332 e333 e334 e335 e336 e337 e338 e339 e340 e341 e342 e343 e344 e345 e346 e347 e348 e349 e350 e360 e361 e362 e363 e364 e365 e375 e376 e377 e378 e379 e380 e381 e382 e383 e384 e385 e386 e387 e388 e389 e390 e391 e392 e393 e394 e395 e396 e397 e398 e399 e400 e401
 intro u0 u1 u2 u3
 have f4 : cv z239 z242 z243 z246 z249 z250 z170 z171=br z4 z5 z6 z7 z170 z171*br z72 z73 z121 z122 z170 z171 := by
  unfold cv br
  rw [e250,e249,e248,e247,e246,e245,e244,e243,e242,e241,e240,e239,e238,e237,e236,e235,e234,e233,e232,e231,e230,e229,e228,e227,e226,e225,e224,e223,e222,e221,e22]
  grind
 have s4 : cv z265 z268 z269 z272 z275 z276 z170 z171=br z4 z5 z72 z73 z170 z171*br z6 z7 z121 z122 z170 z171 := by
  unfold cv br
  rw [e276,e275,e274,e273,e272,e271,e270,e269,e268,e267,e266,e265,e264,e263,e262,e261,e260,e259,e258,e257,e256,e255,e254,e253,e252,e251,e233,e231,e225,e221,e22]
  grind
 have f5 : cv z239 z242 z243 z246 z249 z250 z219 z220=br z4 z5 z6 z7 z219 z220*br z72 z73 z121 z122 z219 z220 := by
  unfold cv br
  rw [e250,e249,e248,e247,e246,e245,e244,e243,e242,e241,e240,e239,e238,e237,e236,e235,e234,e233,e232,e231,e230,e229,e228,e227,e226,e225,e224,e223,e222,e221,e22]
  grind
 have s5 : cv z265 z268 z269 z272 z275 z276 z219 z220=br z4 z5 z72 z73 z219 z220*br z6 z7 z121 z122 z219 z220 := by
  unfold cv br
  rw [e276,e275,e274,e273,e272,e271,e270,e269,e268,e267,e266,e265,e264,e263,e262,e261,e260,e259,e258,e257,e256,e255,e254,e253,e252,e251,e233,e231,e225,e221,e22]
  grind
 have of : z305=2*cv z239 z242 z243 z246 z249 z250 z170 z171 := by
  unfold cv
  rw [e305,e304,e303,e302,e301,e300,e299,e298,e297,e296,e295,e294,e293,e292,e291,e290,e289,e288,e287,e286,e285,e284,e283,e282,e281,e280,e279,e278,e277,e22]
  grind
 have os : z332=2*cv z265 z268 z269 z272 z275 z276 z170 z171 := by
  unfold cv
  rw [e332,e331,e330,e329,e328,e327,e326,e325,e324,e323,e322,e321,e320,e319,e318,e317,e316,e315,e314,e313,e312,e311,e310,e309,e308,e307,e306,e282,e277,e22]
  grind
 have t5 : cv z335 z338 z341 z344 z347 z350 z219 z220=cv z239 z242 z243 z246 z249 z250 z219 z220*z332 - cv z265 z268 z269 z272 z275 z276 z219 z220*z305 := by
  unfold cv
  rw [e335,e338,e341,e344,e347,e350,e333,e334,e336,e337,e339,e340,e342,e343,e345,e346,e348,e349]
  grind
 have K := ks_br (m0 := z0) (m1 := z1) (m2 := z2) (m3 := z3) (by rw [e18,e17]) (by rw [e20,e19]) u0 (by rw [e76,e75]) (by rw [e78,e77]) u1 (by rw [e125,e124]) (by rw [e127,e126]) u2 (by rw [e174,e173]) (by rw [e176,e175]) u3
 have v : cv z335 z338 z341 z344 z347 z350 z219 z220=0 := by
  rw [t5,os,of,f5,s5,f4,s4]
  generalize br z4 z5 z6 z7 z219 z220*br z72 z73 z121 z122 z219 z220=A at *
  generalize br z4 z5 z72 z73 z219 z220*br z6 z7 z121 z122 z219 z220=B at *
  grind
 have w : z401=2*fac [z335,z338,z341,z344,z347,z350]*cv z335 z338 z341 z344 z347 z350 z219 z220 := by
  generalize fac [z335,z338,z341,z344,z347,z350]=g at *
  unfold cv
  rw [e401,e400,e399,e398,e397,e396,e395,e394,e393,e392,e391,e390,e389,e388,e387,e386,e385,e384,e383,e382,e381,e380,e379,e378,e377,e376,e375,e282,e277,e22,e360,e361,e362,e363,e364,e365]
  grind
 rw [w,v,Rat.mul_zero]
theorem kT_K (H : kT_Q q σ) : (q 73-q 5=q 16*(q 72-q 4)∧(q 73-q 7)*q 18=q 20*(q 72-q 6)∧q 16*q 18-q 20 ≠ 0)→(q 122-q 5=q 74*(q 121-q 4)∧(q 122-q 7)*q 76=q 78*(q 121-q 6)∧q 74*q 76-q 78 ≠ 0)→(q 171-q 5=q 123*(q 170-q 4)∧(q 171-q 7)*q 125=q 127*(q 170-q 6)∧q 123*q 125-q 127 ≠ 0)→(q 220-q 5=q 172*(q 219-q 4)∧(q 220-q 7)*q 174=q 176*(q 219-q 6)∧q 172*q 174-q 176 ≠ 0)→(q 401=0) := by
 have e17:q 17=q 2*q 16:=H 17 _ rfl;have e18:q 18=q 17+q 3:=H 18 _ rfl;have e19:q 19=q 0*q 16:=H 19 _ rfl;have e20:q 20=q 19+q 1:=H 20 _ rfl;have e22:q 22=1:=(H 22 _ rfl).trans kT_c22;have e75:q 75=q 2*q 74:=H 75 _ rfl;have e76:q 76=q 75+q 3:=H 76 _ rfl;have e77:q 77=q 0*q 74:=H 77 _ rfl;have e78:q 78=q 77+q 1:=H 78 _ rfl;have e124:q 124=q 2*q 123:=H 124 _ rfl;have e125:q 125=q 124+q 3:=H 125 _ rfl;have e126:q 126=q 0*q 123:=H 126 _ rfl;have e127:q 127=q 126+q 1:=H 127 _ rfl;have e173:q 173=q 2*q 172:=H 173 _ rfl;have e174:q 174=q 173+q 3:=H 174 _ rfl;have e175:q 175=q 0*q 172:=H 175 _ rfl;have e176:q 176=q 175+q 1:=H 176 _ rfl;have e221:q 221=q 5*q 22:=H 221 _ rfl;have e222:q 222=q 22*q 7:=H 222 _ rfl;have e223:q 223=q 221-q 222:=H 223 _ rfl;have e224:q 224=q 22*q 6:=H 224 _ rfl;have e225:q 225=q 4*q 22:=H 225 _ rfl;have e226:q 226=q 224-q 225:=H 226 _ rfl;have e227:q 227=q 4*q 7:=H 227 _ rfl;have e228:q 228=q 5*q 6:=H 228 _ rfl;have e229:q 229=q 227-q 228:=H 229 _ rfl;have e230:q 230=q 73*q 22:=H 230 _ rfl;have e231:q 231=q 22*q 122:=H 231 _ rfl;have e232:q 232=q 230-q 231:=H 232 _ rfl;have e233:q 233=q 22*q 121:=H 233 _ rfl;have e234:q 234=q 72*q 22:=H 234 _ rfl;have e235:q 235=q 233-q 234:=H 235 _ rfl;have e236:q 236=q 72*q 122:=H 236 _ rfl;have e237:q 237=q 73*q 121:=H 237 _ rfl;have e238:q 238=q 236-q 237:=H 238 _ rfl;have e239:q 239=q 223*q 232:=H 239 _ rfl;have e240:q 240=q 223*q 235:=H 240 _ rfl;have e241:q 241=q 226*q 232:=H 241 _ rfl;have e242:q 242=q 240+q 241:=H 242 _ rfl;have e243:q 243=q 226*q 235:=H 243 _ rfl;have e244:q 244=q 223*q 238:=H 244 _ rfl;have e245:q 245=q 229*q 232:=H 245 _ rfl;have e246:q 246=q 244+q 245:=H 246 _ rfl;have e247:q 247=q 226*q 238:=H 247 _ rfl;have e248:q 248=q 229*q 235:=H 248 _ rfl;have e249:q 249=q 247+q 248:=H 249 _ rfl;have e250:q 250=q 229*q 238:=H 250 _ rfl;have e251:q 251=q 22*q 73:=H 251 _ rfl;have e252:q 252=q 221-q 251:=H 252 _ rfl;have e253:q 253=q 22*q 72:=H 253 _ rfl;have e254:q 254=q 253-q 225:=H 254 _ rfl;have e255:q 255=q 4*q 73:=H 255 _ rfl;have e256:q 256=q 5*q 72:=H 256 _ rfl;have e257:q 257=q 255-q 256:=H 257 _ rfl;have e258:q 258=q 7*q 22:=H 258 _ rfl;have e259:q 259=q 258-q 231:=H 259 _ rfl;have e260:q 260=q 6*q 22:=H 260 _ rfl;have e261:q 261=q 233-q 260:=H 261 _ rfl;have e262:q 262=q 6*q 122:=H 262 _ rfl;have e263:q 263=q 7*q 121:=H 263 _ rfl;have e264:q 264=q 262-q 263:=H 264 _ rfl;have e265:q 265=q 252*q 259:=H 265 _ rfl;have e266:q 266=q 252*q 261:=H 266 _ rfl;have e267:q 267=q 254*q 259:=H 267 _ rfl;have e268:q 268=q 266+q 267:=H 268 _ rfl;have e269:q 269=q 254*q 261:=H 269 _ rfl;have e270:q 270=q 252*q 264:=H 270 _ rfl;have e271:q 271=q 257*q 259:=H 271 _ rfl;have e272:q 272=q 270+q 271:=H 272 _ rfl;have e273:q 273=q 254*q 264:=H 273 _ rfl;have e274:q 274=q 257*q 261:=H 274 _ rfl;have e275:q 275=q 273+q 274:=H 275 _ rfl;have e276:q 276=q 257*q 264:=H 276 _ rfl;have e277:q 277=2:=(H 277 _ rfl).trans kT_c277;have e278:q 278=q 239*q 277:=H 278 _ rfl;have e279:q 279=q 243*q 277:=H 279 _ rfl;have e280:q 280=q 250*q 277:=H 280 _ rfl;have e281:q 281=q 278*q 170:=H 281 _ rfl;have e282:q 282=0:=(H 282 _ rfl).trans kT_c282;have e283:q 283=q 282+q 281:=H 283 _ rfl;have e284:q 284=q 242*q 171:=H 284 _ rfl;have e285:q 285=q 283+q 284:=H 285 _ rfl;have e286:q 286=q 246*q 22:=H 286 _ rfl;have e287:q 287=q 285+q 286:=H 287 _ rfl;have e288:q 288=q 242*q 170:=H 288 _ rfl;have e289:q 289=q 282+q 288:=H 289 _ rfl;have e290:q 290=q 279*q 171:=H 290 _ rfl;have e291:q 291=q 289+q 290:=H 291 _ rfl;have e292:q 292=q 249*q 22:=H 292 _ rfl;have e293:q 293=q 291+q 292:=H 293 _ rfl;have e294:q 294=q 246*q 170:=H 294 _ rfl;have e295:q 295=q 282+q 294:=H 295 _ rfl;have e296:q 296=q 249*q 171:=H 296 _ rfl;have e297:q 297=q 295+q 296:=H 297 _ rfl;have e298:q 298=q 280*q 22:=H 298 _ rfl;have e299:q 299=q 297+q 298:=H 299 _ rfl;have e300:q 300=q 170*q 287:=H 300 _ rfl;have e301:q 301=q 282+q 300:=H 301 _ rfl;have e302:q 302=q 171*q 293:=H 302 _ rfl;have e303:q 303=q 301+q 302:=H 303 _ rfl;have e304:q 304=q 22*q 299:=H 304 _ rfl;have e305:q 305=q 303+q 304:=H 305 _ rfl;have e306:q 306=q 265*q 277:=H 306 _ rfl;have e307:q 307=q 269*q 277:=H 307 _ rfl;have e308:q 308=q 276*q 277:=H 308 _ rfl;have e309:q 309=q 306*q 170:=H 309 _ rfl;have e310:q 310=q 282+q 309:=H 310 _ rfl;have e311:q 311=q 268*q 171:=H 311 _ rfl;have e312:q 312=q 310+q 311:=H 312 _ rfl;have e313:q 313=q 272*q 22:=H 313 _ rfl;have e314:q 314=q 312+q 313:=H 314 _ rfl;have e315:q 315=q 268*q 170:=H 315 _ rfl;have e316:q 316=q 282+q 315:=H 316 _ rfl;have e317:q 317=q 307*q 171:=H 317 _ rfl;have e318:q 318=q 316+q 317:=H 318 _ rfl;have e319:q 319=q 275*q 22:=H 319 _ rfl;have e320:q 320=q 318+q 319:=H 320 _ rfl;have e321:q 321=q 272*q 170:=H 321 _ rfl;have e322:q 322=q 282+q 321:=H 322 _ rfl;have e323:q 323=q 275*q 171:=H 323 _ rfl;have e324:q 324=q 322+q 323:=H 324 _ rfl;have e325:q 325=q 308*q 22:=H 325 _ rfl;have e326:q 326=q 324+q 325:=H 326 _ rfl;have e327:q 327=q 170*q 314:=H 327 _ rfl;have e328:q 328=q 282+q 327:=H 328 _ rfl;have e329:q 329=q 171*q 320:=H 329 _ rfl;have e330:q 330=q 328+q 329:=H 330 _ rfl;have e331:q 331=q 22*q 326:=H 331 _ rfl;have e332:q 332=q 330+q 331:=H 332 _ rfl;have e333:q 333=q 239*q 332:=H 333 _ rfl;have e334:q 334=q 265*q 305:=H 334 _ rfl;have e335:q 335=q 333-q 334:=H 335 _ rfl;have e336:q 336=q 242*q 332:=H 336 _ rfl;have e337:q 337=q 268*q 305:=H 337 _ rfl;have e338:q 338=q 336-q 337:=H 338 _ rfl;have e339:q 339=q 243*q 332:=H 339 _ rfl;have e340:q 340=q 269*q 305:=H 340 _ rfl;have e341:q 341=q 339-q 340:=H 341 _ rfl;have e342:q 342=q 246*q 332:=H 342 _ rfl;have e343:q 343=q 272*q 305:=H 343 _ rfl;have e344:q 344=q 342-q 343:=H 344 _ rfl;have e345:q 345=q 249*q 332:=H 345 _ rfl;have e346:q 346=q 275*q 305:=H 346 _ rfl;have e347:q 347=q 345-q 346:=H 347 _ rfl;have e348:q 348=q 250*q 332:=H 348 _ rfl;have e349:q 349=q 276*q 305:=H 349 _ rfl;have e350:q 350=q 348-q 349:=H 350 _ rfl;have e360:q 360=q 335*fac [q 335,q 338,q 341,q 344,q 347,q 350]:=H 360 _ rfl;have e361:q 361=q 338*fac [q 335,q 338,q 341,q 344,q 347,q 350]:=H 361 _ rfl;have e362:q 362=q 341*fac [q 335,q 338,q 341,q 344,q 347,q 350]:=H 362 _ rfl;have e363:q 363=q 344*fac [q 335,q 338,q 341,q 344,q 347,q 350]:=H 363 _ rfl;have e364:q 364=q 347*fac [q 335,q 338,q 341,q 344,q 347,q 350]:=H 364 _ rfl;have e365:q 365=q 350*fac [q 335,q 338,q 341,q 344,q 347,q 350]:=H 365 _ rfl;have e375:q 375=q 360*q 277:=H 375 _ rfl;have e376:q 376=q 362*q 277:=H 376 _ rfl;have e377:q 377=q 365*q 277:=H 377 _ rfl;have e378:q 378=q 375*q 219:=H 378 _ rfl;have e379:q 379=q 282+q 378:=H 379 _ rfl;have e380:q 380=q 361*q 220:=H 380 _ rfl;have e381:q 381=q 379+q 380:=H 381 _ rfl;have e382:q 382=q 363*q 22:=H 382 _ rfl;have e383:q 383=q 381+q 382:=H 383 _ rfl;have e384:q 384=q 361*q 219:=H 384 _ rfl;have e385:q 385=q 282+q 384:=H 385 _ rfl;have e386:q 386=q 376*q 220:=H 386 _ rfl;have e387:q 387=q 385+q 386:=H 387 _ rfl;have e388:q 388=q 364*q 22:=H 388 _ rfl;have e389:q 389=q 387+q 388:=H 389 _ rfl;have e390:q 390=q 363*q 219:=H 390 _ rfl;have e391:q 391=q 282+q 390:=H 391 _ rfl;have e392:q 392=q 364*q 220:=H 392 _ rfl;have e393:q 393=q 391+q 392:=H 393 _ rfl;have e394:q 394=q 377*q 22:=H 394 _ rfl;have e395:q 395=q 393+q 394:=H 395 _ rfl;have e396:q 396=q 219*q 383:=H 396 _ rfl;have e397:q 397=q 282+q 396:=H 397 _ rfl;have e398:q 398=q 220*q 389:=H 398 _ rfl;have e399:q 399=q 397+q 398:=H 399 _ rfl;have e400:q 400=q 22*q 395:=H 400 _ rfl;have e401:q 401=q 399+q 400:=H 401 _ rfl
 exact kT_Kz e17 e18 e19 e20 e22 e75 e76 e77 e78 e124 e125 e126 e127 e173 e174 e175 e176 e221 e222 e223 e224 e225 e226 e227 e228 e229 e230 e231 e232 e233 e234 e235 e236 e237 e238 e239 e240 e241 e242 e243 e244 e245 e246 e247 e248 e249 e250 e251 e252 e253 e254 e255 e256 e257 e258 e259 e260 e261 e262 e263 e264 e265 e266 e267 e268 e269 e270 e271 e272 e273 e274 e275 e276 e277 e278 e279 e280 e281 e282 e283 e284 e285 e286 e287 e288 e289 e290 e291 e292 e293 e294 e295 e296 e297 e298 e299 e300 e301 e302 e303 e304 e305 e306 e307 e308 e309 e310 e311 e312 e313 e314 e315 e316 e317 e318 e319 e320 e321 e322 e323 e324 e325 e326 e327 e328 e329 e330 e331 e332 e333 e334 e335 e336 e337 e338 e339 e340 e341 e342 e343 e344 e345 e346 e347 e348 e349 e350 e360 e361 e362 e363 e364 e365 e375 e376 e377 e378 e379 e380 e381 e382 e383 e384 e385 e386 e387 e388 e389 e390 e391 e392 e393 e394 e395 e396 e397 e398 e399 e400 e401
theorem kT_Z1z {z0 z1 z2 z3 z4 z5 z6 z7 z16 z17 z18 z19 z20 z22 z72 z73 z121 z122 z170 z171 z221 z222 z223 z224 z225 z226 z227 z228 z229 z230 z231 z232 z233 z234 z235 z236 z237 z238 z239 z240 z241 z242 z243 z244 z245 z246 z247 z248 z249 z250 z251 z252 z253 z254 z255 z256 z257 z258 z259 z260 z261 z262 z263 z264 z265 z266 z267 z268 z269 z270 z271 z272 z273 z274 z275 z276 z277 z278 z279 z280 z281 z282 z283 z284 z285 z286 z287 z288 z289 z290 z291 z292 z293 z294 z295 z296 z297 z298 z299 z300 z301 z302 z303 z304 z305 z306 z307 z308 z309 z310 z311 z312 z313 z314 z315 z316 z317 z318 z319 z320 z321 z322 z323 z324 z325 z326 z327 z328 z329 z330 z331 z332 z333 z334 z335 z336 z337 z338 z339 z340 z341 z342 z343 z344 z345 z346 z347 z348 z349 z350 z351 z352 z353 z354 z355 z356 z357 z358 z359 z360 z361 z362 z363 z364 z365 : Rat} : z17=z2*z16→z18=z17+z3→z19=z0*z16→z20=z19+z1→z22=1→z221=z5*z22→z222=z22*z7→z223=z221-z222→z224=z22*z6→z225=z4*z22→z226=z224-z225→z227=z4*z7→z228=z5*z6→z229=z227-z228→z230=z73*z22→z231=z22*z122→z232=z230-z231→z233=z22*z121→z234=z72*z22→z235=z233-z234→z236=z72*z122→z237=z73*z121→z238=z236-z237→z239=z223*z232→z240=z223*z235→z241=z226*z232→z242=z240+z241→z243=z226*z235→z244=z223*z238→z245=z229*z232→z246=z244+z245→z247=z226*z238→z248=z229*z235→z249=z247+z248→z250=z229*z238→z251=z22*z73→z252=z221-z251→z253=z22*z72→z254=z253-z225→z255=z4*z73→z256=z5*z72→z257=z255-z256→z258=z7*z22→z259=z258-z231→z260=z6*z22→z261=z233-z260→z262=z6*z122→z263=z7*z121→z264=z262-z263→z265=z252*z259→z266=z252*z261→z267=z254*z259→z268=z266+z267→z269=z254*z261→z270=z252*z264→z271=z257*z259→z272=z270+z271→z273=z254*z264→z274=z257*z261→z275=z273+z274→z276=z257*z264→z277=2→z278=z239*z277→z279=z243*z277→z280=z250*z277→z281=z278*z170→z282=0→z283=z282+z281→z284=z242*z171→z285=z283+z284→z286=z246*z22→z287=z285+z286→z288=z242*z170→z289=z282+z288→z290=z279*z171→z291=z289+z290→z292=z249*z22→z293=z291+z292→z294=z246*z170→z295=z282+z294→z296=z249*z171→z297=z295+z296→z298=z280*z22→z299=z297+z298→z300=z170*z287→z301=z282+z300→z302=z171*z293→z303=z301+z302→z304=z22*z299→z305=z303+z304→z306=z265*z277→z307=z269*z277→z308=z276*z277→z309=z306*z170→z310=z282+z309→z311=z268*z171→z312=z310+z311→z313=z272*z22→z314=z312+z313→z315=z268*z170→z316=z282+z315→z317=z307*z171→z318=z316+z317→z319=z275*z22→z320=z318+z319→z321=z272*z170→z322=z282+z321→z323=z275*z171→z324=z322+z323→z325=z308*z22→z326=z324+z325→z327=z170*z314→z328=z282+z327→z329=z171*z320→z330=z328+z329→z331=z22*z326→z332=z330+z331→z333=z239*z332→z334=z265*z305→z335=z333-z334→z336=z242*z332→z337=z268*z305→z338=z336-z337→z339=z243*z332→z340=z269*z305→z341=z339-z340→z342=z246*z332→z343=z272*z305→z344=z342-z343→z345=z249*z332→z346=z275*z305→z347=z345-z346→z348=z250*z332→z349=z276*z305→z350=z348-z349→z351=z335*z335→z352=z338*z338→z353=z351+z352→z354=z341*z341→z355=z353+z354→z356=z344*z344→z357=z355+z356→z358=z347*z347→z359=z357+z358→z360=z335*fac [z335,z338,z341,z344,z347,z350]→z361=z338*fac [z335,z338,z341,z344,z347,z350]→z362=z341*fac [z335,z338,z341,z344,z347,z350]→z363=z344*fac [z335,z338,z341,z344,z347,z350]→z364=z347*fac [z335,z338,z341,z344,z347,z350]→z365=z350*fac [z335,z338,z341,z344,z347,z350]→(¬ (z359=0))→(z73-z5=z16*(z72-z4)∧(z73-z7)*z18=z20*(z72-z6)∧z16*z18-z20 ≠ 0)→(z360=0)→(z361=0)→(¬ (z362=0)) := by
 intro e17 e18 e19 e20 e22 e221 e222 e223 e224 e225 e226 e227 e228 e229 e230 e231 e232 e233 e234 e235 e236 e237 e238 e239 e240 e241 e242 e243 e244 e245 e246 e247 e248 e249 e250 e251 e252 e253 e254 e255 e256 e257 e258 e259 e260 e261 e262 e263 e264 e265 e266 e267 e268 e269 e270 e271 e272 e273 e274 e275 e276 e277 e278 e279 e280 e281 e282 e283 e284 e285 e286 e287 e288 e289 e290 e291 e292 e293 e294 e295 e296 e297 e298 e299 e300 e301 e302 e303 e304 e305 e306 e307 e308 e309 e310 e311 e312 e313 e314 e315 e316 e317 e318 e319 e320 e321 e322 e323 e324 e325 e326 e327 e328 e329 e330 e331 e332 e333 e334 e335 e336 e337 e338 e339 e340 e341 e342 e343 e344 e345 e346 e347 e348 e349 e350 e351 e352 e353 e354 e355 e356 e357 e358 e359 e360 e361 e362 e363 e364 e365
 intro u0 u1 u2 u3
 have n : ¬ (z335=0∧z338=0∧z341=0∧z344=0∧z347=0) := fun h => u0 ((sq5 e351 e352 e353 e354 e355 e356 e357 e358 e359).2 h)
 have k : fac [z335,z338,z341,z344,z347,z350] ≠ 0 := fun h => n ⟨fac_zero (by simp) h,fac_zero (by simp) h,fac_zero (by simp) h,fac_zero (by simp) h,fac_zero (by simp) h⟩
 intro u4
 rw [e360] at u2
 rw [e361] at u3
 rw [e362] at u4
 have q0 := (Rat.mul_eq_zero.1 u2).resolve_right k
 have q1 := (Rat.mul_eq_zero.1 u3).resolve_right k
 have q2 := (Rat.mul_eq_zero.1 u4).resolve_right k
 clear k u2 u3 u4
 have f0 : cv z239 z242 z243 z246 z249 z250 z4 z5=br z4 z5 z6 z7 z4 z5*br z72 z73 z121 z122 z4 z5 := by
  unfold cv br
  rw [e250,e249,e248,e247,e246,e245,e244,e243,e242,e241,e240,e239,e238,e237,e236,e235,e234,e233,e232,e231,e230,e229,e228,e227,e226,e225,e224,e223,e222,e221,e22]
  grind
 have s0 : cv z265 z268 z269 z272 z275 z276 z4 z5=br z4 z5 z72 z73 z4 z5*br z6 z7 z121 z122 z4 z5 := by
  unfold cv br
  rw [e276,e275,e274,e273,e272,e271,e270,e269,e268,e267,e266,e265,e264,e263,e262,e261,e260,e259,e258,e257,e256,e255,e254,e253,e252,e251,e233,e231,e225,e221,e22]
  grind
 have f1 : cv z239 z242 z243 z246 z249 z250 z6 z7=br z4 z5 z6 z7 z6 z7*br z72 z73 z121 z122 z6 z7 := by
  unfold cv br
  rw [e250,e249,e248,e247,e246,e245,e244,e243,e242,e241,e240,e239,e238,e237,e236,e235,e234,e233,e232,e231,e230,e229,e228,e227,e226,e225,e224,e223,e222,e221,e22]
  grind
 have s1 : cv z265 z268 z269 z272 z275 z276 z6 z7=br z4 z5 z72 z73 z6 z7*br z6 z7 z121 z122 z6 z7 := by
  unfold cv br
  rw [e276,e275,e274,e273,e272,e271,e270,e269,e268,e267,e266,e265,e264,e263,e262,e261,e260,e259,e258,e257,e256,e255,e254,e253,e252,e251,e233,e231,e225,e221,e22]
  grind
 have f2 : cv z239 z242 z243 z246 z249 z250 z72 z73=br z4 z5 z6 z7 z72 z73*br z72 z73 z121 z122 z72 z73 := by
  unfold cv br
  rw [e250,e249,e248,e247,e246,e245,e244,e243,e242,e241,e240,e239,e238,e237,e236,e235,e234,e233,e232,e231,e230,e229,e228,e227,e226,e225,e224,e223,e222,e221,e22]
  grind
 have s2 : cv z265 z268 z269 z272 z275 z276 z72 z73=br z4 z5 z72 z73 z72 z73*br z6 z7 z121 z122 z72 z73 := by
  unfold cv br
  rw [e276,e275,e274,e273,e272,e271,e270,e269,e268,e267,e266,e265,e264,e263,e262,e261,e260,e259,e258,e257,e256,e255,e254,e253,e252,e251,e233,e231,e225,e221,e22]
  grind
 have of : z305=2*cv z239 z242 z243 z246 z249 z250 z170 z171 := by
  unfold cv
  rw [e305,e304,e303,e302,e301,e300,e299,e298,e297,e296,e295,e294,e293,e292,e291,e290,e289,e288,e287,e286,e285,e284,e283,e282,e281,e280,e279,e278,e277,e22]
  grind
 have os : z332=2*cv z265 z268 z269 z272 z275 z276 z170 z171 := by
  unfold cv
  rw [e332,e331,e330,e329,e328,e327,e326,e325,e324,e323,e322,e321,e320,e319,e318,e317,e316,e315,e314,e313,e312,e311,e310,e309,e308,e307,e306,e282,e277,e22]
  grind
 have t0 : cv z335 z338 z341 z344 z347 z350 z4 z5=cv z239 z242 z243 z246 z249 z250 z4 z5*z332 - cv z265 z268 z269 z272 z275 z276 z4 z5*z305 := by
  unfold cv
  rw [e335,e338,e341,e344,e347,e350,e333,e334,e336,e337,e339,e340,e342,e343,e345,e346,e348,e349]
  grind
 have t1 : cv z335 z338 z341 z344 z347 z350 z6 z7=cv z239 z242 z243 z246 z249 z250 z6 z7*z332 - cv z265 z268 z269 z272 z275 z276 z6 z7*z305 := by
  unfold cv
  rw [e335,e338,e341,e344,e347,e350,e333,e334,e336,e337,e339,e340,e342,e343,e345,e346,e348,e349]
  grind
 have t2 : cv z335 z338 z341 z344 z347 z350 z72 z73=cv z239 z242 z243 z246 z249 z250 z72 z73*z332 - cv z265 z268 z269 z272 z275 z276 z72 z73*z305 := by
  unfold cv
  rw [e335,e338,e341,e344,e347,e350,e333,e334,e336,e337,e339,e340,e342,e343,e345,e346,e348,e349]
  grind
 have v0 : cv z335 z338 z341 z344 z347 z350 z4 z5=0 := by
  rw [t0,f0,s0]
  clear n
  unfold br
  grind
 have v1 : cv z335 z338 z341 z344 z347 z350 z6 z7=0 := by
  rw [t1,f1,s1]
  clear n
  unfold br
  grind
 have v2 : cv z335 z338 z341 z344 z347 z350 z72 z73=0 := by
  rw [t2,f2,s2]
  clear n
  unfold br
  grind
 by_cases hb : br z4 z5 z6 z7 z72 z73=0
 ·rcases ks_on (m0 := z0) (m1 := z1) (m2 := z2) (m3 := z3) (by rw [e18,e17]) (by rw [e20,e19]) u1 hb with ⟨g1,g2⟩ | ⟨g1,g2⟩
  ·have y0 : z265=0 := by rw [e265,e259,e258,e252,e251,e231,e221,e22,g2]; grind
   have y1 : z268=0 := by rw [e268,e267,e266,e261,e260,e259,e258,e254,e253,e252,e251,e233,e231,e225,e221,e22,g1,g2]; grind
   have y2 : z269=0 := by rw [e269,e261,e260,e254,e253,e233,e225,e22,g1]; grind
   have y3 : z272=0 := by rw [e272,e271,e270,e264,e263,e262,e259,e258,e257,e256,e255,e252,e251,e231,e221,e22,g1,g2]; grind
   have y4 : z275=0 := by rw [e275,e274,e273,e264,e263,e262,e261,e260,e257,e256,e255,e254,e253,e233,e225,e22,g1,g2]; grind
   have y5 : z276=0 := by rw [e276,e264,e263,e262,e257,e256,e255,g1,g2]; grind
   have o0 : z332=0 := by rw [os]; unfold cv; rw [y0,y1,y2,y3,y4,y5]; grind
   exact n ⟨by rw [e335,e333,e334,o0,y0]; grind,by rw [e338,e336,e337,o0,y1]; grind,by rw [e341,e339,e340,o0,y2]; grind,by rw [e344,e342,e343,o0,y3]; grind,by rw [e347,e345,e346,o0,y4]; grind⟩
  ·have y0 : z265=z239 := by rw [e265,e259,e258,e252,e251,e239,e232,e231,e230,e223,e222,e221,e22,g2]; try grind
   have y1 : z268=z242 := by rw [e268,e267,e266,e261,e260,e259,e258,e254,e253,e252,e251,e242,e241,e240,e235,e234,e233,e232,e231,e230,e226,e225,e224,e223,e222,e221,e22,g1,g2]; try grind
   have y2 : z269=z243 := by rw [e269,e261,e260,e254,e253,e243,e235,e234,e233,e226,e225,e224,e22,g1]; try grind
   have y3 : z272=z246 := by rw [e272,e271,e270,e264,e263,e262,e259,e258,e257,e256,e255,e252,e251,e246,e245,e244,e238,e237,e236,e232,e231,e230,e229,e228,e227,e223,e222,e221,e22,g1,g2]; try grind
   have y4 : z275=z249 := by rw [e275,e274,e273,e264,e263,e262,e261,e260,e257,e256,e255,e254,e253,e249,e248,e247,e238,e237,e236,e235,e234,e233,e229,e228,e227,e226,e225,e224,e22,g1,g2]; try grind
   have y5 : z276=z250 := by rw [e276,e264,e263,e262,e257,e256,e255,e250,e238,e237,e236,e229,e228,e227,g1,g2]; try grind
   have o0 : z332=z305 := by rw [os,of]; unfold cv; rw [y0,y1,y2,y3,y4,y5]
   exact n ⟨by rw [e335,e333,e334,o0,y0]; grind,by rw [e338,e336,e337,o0,y1]; grind,by rw [e341,e339,e340,o0,y2]; grind,by rw [e344,e342,e343,o0,y3]; grind,by rw [e347,e345,e346,o0,y4]; grind⟩
 ·have ⟨w3,w4⟩ := ks_lin q0 q1 q2 v0 v1 v2 hb
  exact n ⟨q0,q1,q2,w3,w4⟩
theorem kT_Z1 (H : kT_Q q σ) : (¬ (q 359=0))→(q 73-q 5=q 16*(q 72-q 4)∧(q 73-q 7)*q 18=q 20*(q 72-q 6)∧q 16*q 18-q 20 ≠ 0)→(q 360=0)→(q 361=0)→(¬ (q 362=0)) := by
 have e17:q 17=q 2*q 16:=H 17 _ rfl;have e18:q 18=q 17+q 3:=H 18 _ rfl;have e19:q 19=q 0*q 16:=H 19 _ rfl;have e20:q 20=q 19+q 1:=H 20 _ rfl;have e22:q 22=1:=(H 22 _ rfl).trans kT_c22;have e221:q 221=q 5*q 22:=H 221 _ rfl;have e222:q 222=q 22*q 7:=H 222 _ rfl;have e223:q 223=q 221-q 222:=H 223 _ rfl;have e224:q 224=q 22*q 6:=H 224 _ rfl;have e225:q 225=q 4*q 22:=H 225 _ rfl;have e226:q 226=q 224-q 225:=H 226 _ rfl;have e227:q 227=q 4*q 7:=H 227 _ rfl;have e228:q 228=q 5*q 6:=H 228 _ rfl;have e229:q 229=q 227-q 228:=H 229 _ rfl;have e230:q 230=q 73*q 22:=H 230 _ rfl;have e231:q 231=q 22*q 122:=H 231 _ rfl;have e232:q 232=q 230-q 231:=H 232 _ rfl;have e233:q 233=q 22*q 121:=H 233 _ rfl;have e234:q 234=q 72*q 22:=H 234 _ rfl;have e235:q 235=q 233-q 234:=H 235 _ rfl;have e236:q 236=q 72*q 122:=H 236 _ rfl;have e237:q 237=q 73*q 121:=H 237 _ rfl;have e238:q 238=q 236-q 237:=H 238 _ rfl;have e239:q 239=q 223*q 232:=H 239 _ rfl;have e240:q 240=q 223*q 235:=H 240 _ rfl;have e241:q 241=q 226*q 232:=H 241 _ rfl;have e242:q 242=q 240+q 241:=H 242 _ rfl;have e243:q 243=q 226*q 235:=H 243 _ rfl;have e244:q 244=q 223*q 238:=H 244 _ rfl;have e245:q 245=q 229*q 232:=H 245 _ rfl;have e246:q 246=q 244+q 245:=H 246 _ rfl;have e247:q 247=q 226*q 238:=H 247 _ rfl;have e248:q 248=q 229*q 235:=H 248 _ rfl;have e249:q 249=q 247+q 248:=H 249 _ rfl;have e250:q 250=q 229*q 238:=H 250 _ rfl;have e251:q 251=q 22*q 73:=H 251 _ rfl;have e252:q 252=q 221-q 251:=H 252 _ rfl;have e253:q 253=q 22*q 72:=H 253 _ rfl;have e254:q 254=q 253-q 225:=H 254 _ rfl;have e255:q 255=q 4*q 73:=H 255 _ rfl;have e256:q 256=q 5*q 72:=H 256 _ rfl;have e257:q 257=q 255-q 256:=H 257 _ rfl;have e258:q 258=q 7*q 22:=H 258 _ rfl;have e259:q 259=q 258-q 231:=H 259 _ rfl;have e260:q 260=q 6*q 22:=H 260 _ rfl;have e261:q 261=q 233-q 260:=H 261 _ rfl;have e262:q 262=q 6*q 122:=H 262 _ rfl;have e263:q 263=q 7*q 121:=H 263 _ rfl;have e264:q 264=q 262-q 263:=H 264 _ rfl;have e265:q 265=q 252*q 259:=H 265 _ rfl;have e266:q 266=q 252*q 261:=H 266 _ rfl;have e267:q 267=q 254*q 259:=H 267 _ rfl;have e268:q 268=q 266+q 267:=H 268 _ rfl;have e269:q 269=q 254*q 261:=H 269 _ rfl;have e270:q 270=q 252*q 264:=H 270 _ rfl;have e271:q 271=q 257*q 259:=H 271 _ rfl;have e272:q 272=q 270+q 271:=H 272 _ rfl;have e273:q 273=q 254*q 264:=H 273 _ rfl;have e274:q 274=q 257*q 261:=H 274 _ rfl;have e275:q 275=q 273+q 274:=H 275 _ rfl;have e276:q 276=q 257*q 264:=H 276 _ rfl;have e277:q 277=2:=(H 277 _ rfl).trans kT_c277;have e278:q 278=q 239*q 277:=H 278 _ rfl;have e279:q 279=q 243*q 277:=H 279 _ rfl;have e280:q 280=q 250*q 277:=H 280 _ rfl;have e281:q 281=q 278*q 170:=H 281 _ rfl;have e282:q 282=0:=(H 282 _ rfl).trans kT_c282;have e283:q 283=q 282+q 281:=H 283 _ rfl;have e284:q 284=q 242*q 171:=H 284 _ rfl;have e285:q 285=q 283+q 284:=H 285 _ rfl;have e286:q 286=q 246*q 22:=H 286 _ rfl;have e287:q 287=q 285+q 286:=H 287 _ rfl;have e288:q 288=q 242*q 170:=H 288 _ rfl;have e289:q 289=q 282+q 288:=H 289 _ rfl;have e290:q 290=q 279*q 171:=H 290 _ rfl;have e291:q 291=q 289+q 290:=H 291 _ rfl;have e292:q 292=q 249*q 22:=H 292 _ rfl;have e293:q 293=q 291+q 292:=H 293 _ rfl;have e294:q 294=q 246*q 170:=H 294 _ rfl;have e295:q 295=q 282+q 294:=H 295 _ rfl;have e296:q 296=q 249*q 171:=H 296 _ rfl;have e297:q 297=q 295+q 296:=H 297 _ rfl;have e298:q 298=q 280*q 22:=H 298 _ rfl;have e299:q 299=q 297+q 298:=H 299 _ rfl;have e300:q 300=q 170*q 287:=H 300 _ rfl;have e301:q 301=q 282+q 300:=H 301 _ rfl;have e302:q 302=q 171*q 293:=H 302 _ rfl;have e303:q 303=q 301+q 302:=H 303 _ rfl;have e304:q 304=q 22*q 299:=H 304 _ rfl;have e305:q 305=q 303+q 304:=H 305 _ rfl;have e306:q 306=q 265*q 277:=H 306 _ rfl;have e307:q 307=q 269*q 277:=H 307 _ rfl;have e308:q 308=q 276*q 277:=H 308 _ rfl;have e309:q 309=q 306*q 170:=H 309 _ rfl;have e310:q 310=q 282+q 309:=H 310 _ rfl;have e311:q 311=q 268*q 171:=H 311 _ rfl;have e312:q 312=q 310+q 311:=H 312 _ rfl;have e313:q 313=q 272*q 22:=H 313 _ rfl;have e314:q 314=q 312+q 313:=H 314 _ rfl;have e315:q 315=q 268*q 170:=H 315 _ rfl;have e316:q 316=q 282+q 315:=H 316 _ rfl;have e317:q 317=q 307*q 171:=H 317 _ rfl;have e318:q 318=q 316+q 317:=H 318 _ rfl;have e319:q 319=q 275*q 22:=H 319 _ rfl;have e320:q 320=q 318+q 319:=H 320 _ rfl;have e321:q 321=q 272*q 170:=H 321 _ rfl;have e322:q 322=q 282+q 321:=H 322 _ rfl;have e323:q 323=q 275*q 171:=H 323 _ rfl;have e324:q 324=q 322+q 323:=H 324 _ rfl;have e325:q 325=q 308*q 22:=H 325 _ rfl;have e326:q 326=q 324+q 325:=H 326 _ rfl;have e327:q 327=q 170*q 314:=H 327 _ rfl;have e328:q 328=q 282+q 327:=H 328 _ rfl;have e329:q 329=q 171*q 320:=H 329 _ rfl;have e330:q 330=q 328+q 329:=H 330 _ rfl;have e331:q 331=q 22*q 326:=H 331 _ rfl;have e332:q 332=q 330+q 331:=H 332 _ rfl;have e333:q 333=q 239*q 332:=H 333 _ rfl;have e334:q 334=q 265*q 305:=H 334 _ rfl;have e335:q 335=q 333-q 334:=H 335 _ rfl;have e336:q 336=q 242*q 332:=H 336 _ rfl;have e337:q 337=q 268*q 305:=H 337 _ rfl;have e338:q 338=q 336-q 337:=H 338 _ rfl;have e339:q 339=q 243*q 332:=H 339 _ rfl;have e340:q 340=q 269*q 305:=H 340 _ rfl;have e341:q 341=q 339-q 340:=H 341 _ rfl;have e342:q 342=q 246*q 332:=H 342 _ rfl;have e343:q 343=q 272*q 305:=H 343 _ rfl;have e344:q 344=q 342-q 343:=H 344 _ rfl;have e345:q 345=q 249*q 332:=H 345 _ rfl;have e346:q 346=q 275*q 305:=H 346 _ rfl;have e347:q 347=q 345-q 346:=H 347 _ rfl;have e348:q 348=q 250*q 332:=H 348 _ rfl;have e349:q 349=q 276*q 305:=H 349 _ rfl;have e350:q 350=q 348-q 349:=H 350 _ rfl;have e351:q 351=q 335*q 335:=H 351 _ rfl;have e352:q 352=q 338*q 338:=H 352 _ rfl;have e353:q 353=q 351+q 352:=H 353 _ rfl;have e354:q 354=q 341*q 341:=H 354 _ rfl;have e355:q 355=q 353+q 354:=H 355 _ rfl;have e356:q 356=q 344*q 344:=H 356 _ rfl;have e357:q 357=q 355+q 356:=H 357 _ rfl;have e358:q 358=q 347*q 347:=H 358 _ rfl;have e359:q 359=q 357+q 358:=H 359 _ rfl;have e360:q 360=q 335*fac [q 335,q 338,q 341,q 344,q 347,q 350]:=H 360 _ rfl;have e361:q 361=q 338*fac [q 335,q 338,q 341,q 344,q 347,q 350]:=H 361 _ rfl;have e362:q 362=q 341*fac [q 335,q 338,q 341,q 344,q 347,q 350]:=H 362 _ rfl;have e363:q 363=q 344*fac [q 335,q 338,q 341,q 344,q 347,q 350]:=H 363 _ rfl;have e364:q 364=q 347*fac [q 335,q 338,q 341,q 344,q 347,q 350]:=H 364 _ rfl;have e365:q 365=q 350*fac [q 335,q 338,q 341,q 344,q 347,q 350]:=H 365 _ rfl
 exact kT_Z1z e17 e18 e19 e20 e22 e221 e222 e223 e224 e225 e226 e227 e228 e229 e230 e231 e232 e233 e234 e235 e236 e237 e238 e239 e240 e241 e242 e243 e244 e245 e246 e247 e248 e249 e250 e251 e252 e253 e254 e255 e256 e257 e258 e259 e260 e261 e262 e263 e264 e265 e266 e267 e268 e269 e270 e271 e272 e273 e274 e275 e276 e277 e278 e279 e280 e281 e282 e283 e284 e285 e286 e287 e288 e289 e290 e291 e292 e293 e294 e295 e296 e297 e298 e299 e300 e301 e302 e303 e304 e305 e306 e307 e308 e309 e310 e311 e312 e313 e314 e315 e316 e317 e318 e319 e320 e321 e322 e323 e324 e325 e326 e327 e328 e329 e330 e331 e332 e333 e334 e335 e336 e337 e338 e339 e340 e341 e342 e343 e344 e345 e346 e347 e348 e349 e350 e351 e352 e353 e354 e355 e356 e357 e358 e359 e360 e361 e362 e363 e364 e365
def kT_cs : List (FuncId × Nat) := [(178,60),(22,61),(23,62),(170,64),(35,66),(74,60)]
def kT_G : Memo := [(167,[qA [360,361,362,363,364,365]],qA [375,361,363,361,376,364,363,364,377]),(171,[qA [335,338,341,344,347,350]],tA [360,361,362,363,364,365]),(91,[qA [239,242,243,246,249,250],qA [265,268,269,272,275,276],qA [170,171,22]],qA [335,338,341,344,347,350]),(94,[qA [6,7,22],qA [121,122,22]],qA [259,261,264]),(94,[qA [4,5,22],qA [72,73,22]],qA [252,254,257]),(94,[qA [72,73,22],qA [121,122,22]],qA [232,235,238]),(94,[qA [4,5,22],qA [6,7,22]],qA [223,226,229]),(164,[qA [191,40,196]],tA [197,198,199]),(164,[qA [180,25,185]],tA [186,187,188]),(164,[qA [142,40,147]],tA [148,149,150]),(164,[qA [131,25,136]],tA [137,138,139]),(164,[qA [93,40,98]],tA [99,100,101]),(164,[qA [82,25,87]],tA [88,89,90]),(164,[qA [42,40,49]],tA [50,51,52]),(164,[qA [27,25,34]],tA [35,36,37])]
theorem kT_g0 : memoChk (sx Tryz.prog kT_N [] [] kT_L kT_C kT_Z (prC [31])) kT_cs 8 15 (kT_G.drop 0)=true := by kernel_rfl
theorem kT_memoG {q : Nat→Rat} {σ : Nat→ByteArray} {w : World} (hσ : ∀ j,(σ j).size≤1048576) (hq : ∀ (a : Nat) nd,kT_N[a]? = some nd→q a=valN σ q nd) (h0 : ∀ a,kT_N.length≤a→q a=0) (hp : PreS w) : MemoAll kT_N kT_L kT_C kT_Z q σ [31] w kT_G := by
 have Y : Hy kT_N [] kT_L kT_C kT_Z q σ := hy_ofA hσ kT_wf kT_sz kT_lt kT_cn hq h0 trivial
 have hc : ∀ f ∈ ([31] : List FuncId),Closed f := by simp [closed_coned]
 have hm : (Tryz.prog).follows .mixedOrders=true := by kernel_rfl
 exact (memoAll_chk (M := kT_G.drop 0) Y hc hm hp 15 kT_g0 memoAll_nil)
def kT_H0 : List (Nat × Nat × Nat × Nat) := [(0,12,0,1)]
def kT_H1 : List (Nat × Nat × Nat × Nat) := [(0,12,0,0),(0,15,0,1)]
def kT_H2 : List (Nat × Nat × Nat × Nat) := [(0,12,0,0),(0,15,0,0),(0,18,0,1)]
def kT_H3 : List (Nat × Nat × Nat × Nat) := [(0,12,0,0),(0,15,0,0),(0,18,0,0),(0,30,0,0),(0,45,0,0),(0,55,0,0),(0,58,0,0),(0,61,0,1),(0,70,0,1)]
def kT_H4 : List (Nat × Nat × Nat × Nat) := [(0,12,0,0),(0,15,0,0),(0,18,0,0),(0,30,0,0),(0,45,0,0),(0,55,0,0),(0,58,0,0),(0,61,0,1),(0,70,0,0)]
def kT_H5 : List (Nat × Nat × Nat × Nat) := [(0,12,0,0),(0,15,0,0),(0,18,0,0),(0,30,0,0),(0,45,0,0),(0,55,0,0),(0,58,0,0),(0,61,0,0),(0,76,0,1)]
def kT_H6 : List (Nat × Nat × Nat × Nat) := [(0,12,0,0),(0,15,0,0),(0,18,0,0),(0,30,0,0),(0,45,0,0),(0,55,0,0),(0,58,0,0),(0,61,0,0),(0,76,0,0),(0,84,0,0),(0,95,0,0),(0,104,0,0),(0,107,0,0),(0,110,0,1),(0,119,0,1)]
def kT_H7 : List (Nat × Nat × Nat × Nat) := [(0,12,0,0),(0,15,0,0),(0,18,0,0),(0,30,0,0),(0,45,0,0),(0,55,0,0),(0,58,0,0),(0,61,0,0),(0,76,0,0),(0,84,0,0),(0,95,0,0),(0,104,0,0),(0,107,0,0),(0,110,0,1),(0,119,0,0)]
def kT_H8 : List (Nat × Nat × Nat × Nat) := [(0,12,0,0),(0,15,0,0),(0,18,0,0),(0,30,0,0),(0,45,0,0),(0,55,0,0),(0,58,0,0),(0,61,0,0),(0,76,0,0),(0,84,0,0),(0,95,0,0),(0,104,0,0),(0,107,0,0),(0,110,0,0),(0,125,0,1)]
def kT_H9 : List (Nat × Nat × Nat × Nat) := [(0,12,0,0),(0,15,0,0),(0,18,0,0),(0,30,0,0),(0,45,0,0),(0,55,0,0),(0,58,0,0),(0,61,0,0),(0,76,0,0),(0,84,0,0),(0,95,0,0),(0,104,0,0),(0,107,0,0),(0,110,0,0),(0,125,0,0),(0,133,0,0),(0,144,0,0),(0,153,0,0),(0,156,0,0),(0,159,0,1),(0,168,0,1)]
def kT_H10 : List (Nat × Nat × Nat × Nat) := [(0,12,0,0),(0,15,0,0),(0,18,0,0),(0,30,0,0),(0,45,0,0),(0,55,0,0),(0,58,0,0),(0,61,0,0),(0,76,0,0),(0,84,0,0),(0,95,0,0),(0,104,0,0),(0,107,0,0),(0,110,0,0),(0,125,0,0),(0,133,0,0),(0,144,0,0),(0,153,0,0),(0,156,0,0),(0,159,0,1),(0,168,0,0)]
def kT_H11 : List (Nat × Nat × Nat × Nat) := [(0,12,0,0),(0,15,0,0),(0,18,0,0),(0,30,0,0),(0,45,0,0),(0,55,0,0),(0,58,0,0),(0,61,0,0),(0,76,0,0),(0,84,0,0),(0,95,0,0),(0,104,0,0),(0,107,0,0),(0,110,0,0),(0,125,0,0),(0,133,0,0),(0,144,0,0),(0,153,0,0),(0,156,0,0),(0,159,0,0),(0,174,0,1)]
def kT_H12 : List (Nat × Nat × Nat × Nat) := [(0,12,0,0),(0,15,0,0),(0,18,0,0),(0,30,0,0),(0,45,0,0),(0,55,0,0),(0,58,0,0),(0,61,0,0),(0,76,0,0),(0,84,0,0),(0,95,0,0),(0,104,0,0),(0,107,0,0),(0,110,0,0),(0,125,0,0),(0,133,0,0),(0,144,0,0),(0,153,0,0),(0,156,0,0),(0,159,0,0),(0,174,0,0),(0,182,0,0),(0,193,0,0),(0,202,0,0),(0,205,0,0),(0,208,0,1),(0,217,0,1)]
def kT_H13 : List (Nat × Nat × Nat × Nat) := [(0,12,0,0),(0,15,0,0),(0,18,0,0),(0,30,0,0),(0,45,0,0),(0,55,0,0),(0,58,0,0),(0,61,0,0),(0,76,0,0),(0,84,0,0),(0,95,0,0),(0,104,0,0),(0,107,0,0),(0,110,0,0),(0,125,0,0),(0,133,0,0),(0,144,0,0),(0,153,0,0),(0,156,0,0),(0,159,0,0),(0,174,0,0),(0,182,0,0),(0,193,0,0),(0,202,0,0),(0,205,0,0),(0,208,0,1),(0,217,0,0)]
def kT_H14 : List (Nat × Nat × Nat × Nat) := [(0,12,0,0),(0,15,0,0),(0,18,0,0),(0,30,0,0),(0,45,0,0),(0,55,0,0),(0,58,0,0),(0,61,0,0),(0,76,0,0),(0,84,0,0),(0,95,0,0),(0,104,0,0),(0,107,0,0),(0,110,0,0),(0,125,0,0),(0,133,0,0),(0,144,0,0),(0,153,0,0),(0,156,0,0),(0,159,0,0),(0,174,0,0),(0,182,0,0),(0,193,0,0),(0,202,0,0),(0,205,0,0),(0,208,0,0),(0,359,0,1)]
def kT_H15 : List (Nat × Nat × Nat × Nat) := [(0,12,0,0),(0,15,0,0),(0,18,0,0),(0,30,0,0),(0,45,0,0),(0,55,0,0),(0,58,0,0),(0,61,0,0),(0,76,0,0),(0,84,0,0),(0,95,0,0),(0,104,0,0),(0,107,0,0),(0,110,0,0),(0,125,0,0),(0,133,0,0),(0,144,0,0),(0,153,0,0),(0,156,0,0),(0,159,0,0),(0,174,0,0),(0,182,0,0),(0,193,0,0),(0,202,0,0),(0,205,0,0),(0,208,0,0),(0,359,0,0),(0,374,0,0),(0,360,0,1),(0,361,0,1),(0,362,0,0),(0,402,0,1)]
def kT_H16 : List (Nat × Nat × Nat × Nat) := [(0,12,0,0),(0,15,0,0),(0,18,0,0),(0,30,0,0),(0,45,0,0),(0,55,0,0),(0,58,0,0),(0,61,0,0),(0,76,0,0),(0,84,0,0),(0,95,0,0),(0,104,0,0),(0,107,0,0),(0,110,0,0),(0,125,0,0),(0,133,0,0),(0,144,0,0),(0,153,0,0),(0,156,0,0),(0,159,0,0),(0,174,0,0),(0,182,0,0),(0,193,0,0),(0,202,0,0),(0,205,0,0),(0,208,0,0),(0,359,0,0),(0,374,0,0),(0,360,0,1),(0,361,0,0),(0,403,0,1)]
def kT_H17 : List (Nat × Nat × Nat × Nat) := [(0,12,0,0),(0,15,0,0),(0,18,0,0),(0,30,0,0),(0,45,0,0),(0,55,0,0),(0,58,0,0),(0,61,0,0),(0,76,0,0),(0,84,0,0),(0,95,0,0),(0,104,0,0),(0,107,0,0),(0,110,0,0),(0,125,0,0),(0,133,0,0),(0,144,0,0),(0,153,0,0),(0,156,0,0),(0,159,0,0),(0,174,0,0),(0,182,0,0),(0,193,0,0),(0,202,0,0),(0,205,0,0),(0,208,0,0),(0,359,0,0),(0,374,0,0),(0,360,0,0),(0,404,0,1)]
theorem kT_r0 : (callD (sx Tryz.prog kT_N kT_H0 [] kT_L kT_C kT_Z (prC [31])) kT_cs kT_G 3 [] 5 kT_A [] 0).map (·.1)=some (kB true) := by kernel_rfl
theorem kT_r1 : (callD (sx Tryz.prog kT_N kT_H1 [] kT_L kT_C kT_Z (prC [31])) kT_cs kT_G 3 [] 5 kT_A [] 0).map (·.1)=some (kB true) := by kernel_rfl
theorem kT_r2 : (callD (sx Tryz.prog kT_N kT_H2 [] kT_L kT_C kT_Z (prC [31])) kT_cs kT_G 3 [] 5 kT_A [] 0).map (·.1)=some (kB true) := by kernel_rfl
theorem kT_r3 : (callD (sx Tryz.prog kT_N kT_H3 [] kT_L kT_C kT_Z (prC [31])) kT_cs kT_G 6 [] 5 kT_A [] 0).map (·.1)=some (kB true) := by kernel_rfl
theorem kT_r4 : (callD (sx Tryz.prog kT_N kT_H4 [] kT_L kT_C kT_Z (prC [31])) kT_cs kT_G 6 [] 5 kT_A [] 0).map (·.1)=some (kB true) := by kernel_rfl
theorem kT_r5 : (callD (sx Tryz.prog kT_N kT_H5 [] kT_L kT_C kT_Z (prC [31])) kT_cs kT_G 6 [] 5 kT_A [] 0).map (·.1)=some (kB true) := by kernel_rfl
theorem kT_r6 : (callD (sx Tryz.prog kT_N kT_H6 [] kT_L kT_C kT_Z (prC [31])) kT_cs kT_G 6 [] 5 kT_A [] 0).map (·.1)=some (kB true) := by kernel_rfl
theorem kT_r7 : (callD (sx Tryz.prog kT_N kT_H7 [] kT_L kT_C kT_Z (prC [31])) kT_cs kT_G 6 [] 5 kT_A [] 0).map (·.1)=some (kB true) := by kernel_rfl
theorem kT_r8 : (callD (sx Tryz.prog kT_N kT_H8 [] kT_L kT_C kT_Z (prC [31])) kT_cs kT_G 6 [] 5 kT_A [] 0).map (·.1)=some (kB true) := by kernel_rfl
theorem kT_r9 : (callD (sx Tryz.prog kT_N kT_H9 [] kT_L kT_C kT_Z (prC [31])) kT_cs kT_G 6 [] 5 kT_A [] 0).map (·.1)=some (kB true) := by kernel_rfl
theorem kT_r10 : (callD (sx Tryz.prog kT_N kT_H10 [] kT_L kT_C kT_Z (prC [31])) kT_cs kT_G 6 [] 5 kT_A [] 0).map (·.1)=some (kB true) := by kernel_rfl
theorem kT_r11 : (callD (sx Tryz.prog kT_N kT_H11 [] kT_L kT_C kT_Z (prC [31])) kT_cs kT_G 6 [] 5 kT_A [] 0).map (·.1)=some (kB true) := by kernel_rfl
theorem kT_r12 : (callD (sx Tryz.prog kT_N kT_H12 [] kT_L kT_C kT_Z (prC [31])) kT_cs kT_G 6 [] 5 kT_A [] 0).map (·.1)=some (kB true) := by kernel_rfl
theorem kT_r13 : (callD (sx Tryz.prog kT_N kT_H13 [] kT_L kT_C kT_Z (prC [31])) kT_cs kT_G 6 [] 5 kT_A [] 0).map (·.1)=some (kB true) := by kernel_rfl
theorem kT_r14 : (callD (sx Tryz.prog kT_N kT_H14 [(93,[.inr (3,503,0,0,0)]),(173,[.inr (3,531,0,0,0),.inr (3,532,0,0,0)]),(173,[.inr (3,539,0,0,0),.inr (3,540,0,0,0)])] kT_L kT_C kT_Z (prC [31])) kT_cs kT_G 6 [] 5 kT_A [] 0).map (·.1)=some (kB true) := by kernel_rfl
theorem kT_r15 : (callD (sx Tryz.prog kT_N kT_H15 [(93,[.inr (3,503,0,0,0)]),(173,[.inr (3,531,0,0,0),.inr (3,532,0,0,0)]),(173,[.inr (3,539,0,0,0),.inr (3,540,0,0,0)])] kT_L kT_C kT_Z (prC [31])) kT_cs kT_G 8 [] 5 kT_A [] 0).map (·.1)=some (kB true) := by kernel_rfl
theorem kT_r16 : (callD (sx Tryz.prog kT_N kT_H16 [(93,[.inr (3,503,0,0,0)]),(173,[.inr (3,531,0,0,0),.inr (3,532,0,0,0)]),(173,[.inr (3,539,0,0,0),.inr (3,540,0,0,0)])] kT_L kT_C kT_Z (prC [31])) kT_cs kT_G 8 [] 5 kT_A [] 0).map (·.1)=some (kB true) := by kernel_rfl
theorem kT_r17 : (callD (sx Tryz.prog kT_N kT_H17 [(93,[.inr (3,503,0,0,0)]),(173,[.inr (3,531,0,0,0),.inr (3,532,0,0,0)]),(173,[.inr (3,539,0,0,0),.inr (3,540,0,0,0)])] kT_L kT_C kT_Z (prC [31])) kT_cs kT_G 8 [] 5 kT_A [] 0).map (·.1)=some (kB true) := by kernel_rfl
theorem kT_An {a b : Prop} (x : a) (y : b) : a∧b := ⟨x,y⟩
theorem kT_leaf {M : Memo} {H : List (Nat × Nat × Nat × Nat)} {K : List (FuncId × List AC)} {k : Nat} {q : Nat→Rat} {σ : Nat→ByteArray} {args : List AV} {vs : List Value} {w : World} (hr : (callD (sx Tryz.prog kT_N H K kT_L kT_C kT_Z (prC [31])) kT_cs M k [] 5 args [] 0).map (·.1)=some (kB true)) (hσ : ∀ j,(σ j).size≤1048576) (hq : ∀ (a : Nat) nd,kT_N[a]? = some nd→q a=valN σ q nd) (h0 : ∀ a,kT_N.length≤a→q a=0) (hH : hAll q H) (hp : PreS w) (hM : MemoAll kT_N kT_L kT_C kT_Z q σ [31] w M) (hA : ∀ K,A2 (avOn (cOn (evS q σ) K (fun _ => none) w)) args vs) : Calls Tryz.prog 5 vs.toArray w fun e w' => Below w.heap.size w w'∧e=.returned (.bool true) :=
 run_toldD' k (hy_ofA hσ kT_wf kT_sz kT_lt kT_cn hq h0 hH) (by simp [closed_coned]) (by kernel_rfl) hp hM hr (hA K)
theorem kT_leafC {H : List (Nat × Nat × Nat × Nat)} {K : List (FuncId × List AC)} {k : Nat} {q : Nat→Rat} {σ : Nat→ByteArray} {args : List AV} {vs : List Value} {w : World} (hr : (callC (sx Tryz.prog kT_N H K kT_L kT_C kT_Z (prC [31])) kT_cs k [] 5 args [] 0).map (·.1)=some (kB true)) (hσ : ∀ j,(σ j).size≤1048576) (hq : ∀ (a : Nat) nd,kT_N[a]? = some nd→q a=valN σ q nd) (h0 : ∀ a,kT_N.length≤a→q a=0) (hH : hAll q H) (hp : PreS w) (hA : ∀ K,A2 (avOn (cOn (evS q σ) K (fun _ => none) w)) args vs) : Calls Tryz.prog 5 vs.toArray w fun e w' => Below w.heap.size w w'∧e=.returned (.bool true) :=
 run_toldC' k (hy_ofA hσ kT_wf kT_sz kT_lt kT_cn hq h0 hH) (by simp [closed_coned]) (by kernel_rfl) hr hp (hA K)
theorem kT_walk {w : World} {ax az bx bz ma mb mc md ta tb tc td : ByteArray}  (sax : ax.size≤1048576) (saz : az.size≤1048576) (sbx : bx.size≤1048576) (sbz : bz.size≤1048576) (sma : ma.size≤1048576) (smb : mb.size≤1048576) (smc : mc.size≤1048576) (smd : md.size≤1048576) (sta : ta.size≤1048576) (stb : tb.size≤1048576) (stc : tc.size≤1048576) (std : td.size≤1048576) (tab : Tab w) (mx : MaxL w) :
  Calls Tryz.prog 5 #[.agg #[.string ax,.string az],.agg #[.string bx,.string bz],.agg #[.string ma,.string mb,.string mc,.string md],.agg #[.string ta,.string tb,.string tc,.string td]] w fun e w' => Below w.heap.size w w'∧e=.returned (.bool true) := by
 have hσ : ∀ j,(sgOf [ax,az,bx,bz,ma,mb,mc,md,ta,tb,tc,td] j).size≤1048576 := sgOf_size (by simp [sax,saz,sbx,sbz,sma,smb,smc,smd,sta,stb,stc,std])
 obtain ⟨q,hq,h0⟩ := nodes_exist (sgOf [ax,az,bx,bz,ma,mb,mc,md,ta,tb,tc,td]) kT_N kT_wf
 have hA : ∀ K,A2 (avOn (cOn (evS q (sgOf [ax,az,bx,bz,ma,mb,mc,md,ta,tb,tc,td])) K (fun _ => none) w)) [(false,[(true,[.inr (2,0,0,0,0),.inr (2,1,0,0,0)])]),(false,[(true,[.inr (2,2,0,0,0),.inr (2,3,0,0,0)])]),(false,[(true,[.inr (2,4,0,0,0),.inr (2,5,0,0,0),.inr (2,6,0,0,0),.inr (2,7,0,0,0)])]),(false,[(true,[.inr (2,8,0,0,0),.inr (2,9,0,0,0),.inr (2,10,0,0,0),.inr (2,11,0,0,0)])])] [.agg #[.string ax,.string az],.agg #[.string bx,.string bz],.agg #[.string ma,.string mb,.string mc,.string md],.agg #[.string ta,.string tb,.string tc,.string td]] := fun K => ⟨⟨⟨[.string ax,.string az],rfl,rfl,rfl,trivial⟩,trivial⟩,⟨⟨[.string bx,.string bz],rfl,rfl,rfl,trivial⟩,trivial⟩,⟨⟨[.string ma,.string mb,.string mc,.string md],rfl,rfl,rfl,rfl,rfl,trivial⟩,trivial⟩,⟨⟨[.string ta,.string tb,.string tc,.string td],rfl,rfl,rfl,rfl,rfl,trivial⟩,trivial⟩,trivial⟩
 by_cases b12 : q 12=0
 ·
  have hH : hAll q kT_H0 := (kT_An (hT b12) trivial)
  exact kT_leaf kT_r0 hσ hq h0 hH ⟨tab,mx⟩ (kT_memoG hσ hq h0 ⟨tab,mx⟩) hA
 ·
  by_cases b15 : q 15=0
  ·
   have hH : hAll q kT_H1 := (kT_An (hF b12) (kT_An (hT b15) trivial))
   exact kT_leaf kT_r1 hσ hq h0 hH ⟨tab,mx⟩ (kT_memoG hσ hq h0 ⟨tab,mx⟩) hA
  ·
   by_cases b18 : q 18=0
   ·
    have hH : hAll q kT_H2 := (kT_An (hF b12) (kT_An (hF b15) (kT_An (hT b18) trivial)))
    exact kT_leaf kT_r2 hσ hq h0 hH ⟨tab,mx⟩ (kT_memoG hσ hq h0 ⟨tab,mx⟩) hA
   ·
    have gl0 := kT_l0 hq
    have b30 : ¬ (q 30=0) := gl0.1
    have go0 := kT_o0 hq
    have b45 : ¬ (q 45=0) := go0.1
    have b55 : ¬ (q 55=0) := gl0.2
    have b58 : ¬ (q 58=0) := go0.2
    by_cases b61 : q 61=0
    ·
     by_cases b70 : q 70=0
     ·
      have hH : hAll q kT_H3 := (kT_An (hF b12) (kT_An (hF b15) (kT_An (hF b18) (kT_An (hF b30) (kT_An (hF b45) (kT_An (hF b55) (kT_An (hF b58) (kT_An (hT b61) (kT_An (hT b70) trivial)))))))))
      exact kT_leaf kT_r3 hσ hq h0 hH ⟨tab,mx⟩ (kT_memoG hσ hq h0 ⟨tab,mx⟩) hA
     ·
      have hH : hAll q kT_H4 := (kT_An (hF b12) (kT_An (hF b15) (kT_An (hF b18) (kT_An (hF b30) (kT_An (hF b45) (kT_An (hF b55) (kT_An (hF b58) (kT_An (hT b61) (kT_An (hF b70) trivial)))))))))
      exact kT_leaf kT_r4 hσ hq h0 hH ⟨tab,mx⟩ (kT_memoG hσ hq h0 ⟨tab,mx⟩) hA
    ·
     by_cases b76 : q 76=0
     ·
      have hH : hAll q kT_H5 := (kT_An (hF b12) (kT_An (hF b15) (kT_An (hF b18) (kT_An (hF b30) (kT_An (hF b45) (kT_An (hF b55) (kT_An (hF b58) (kT_An (hF b61) (kT_An (hT b76) trivial)))))))))
      exact kT_leaf kT_r5 hσ hq h0 hH ⟨tab,mx⟩ (kT_memoG hσ hq h0 ⟨tab,mx⟩) hA
     ·
      have gl1 := kT_l1 hq
      have b84 : ¬ (q 84=0) := gl1.1
      have go1 := kT_o1 hq
      have b95 : ¬ (q 95=0) := go1.1
      have b104 : ¬ (q 104=0) := gl1.2
      have b107 : ¬ (q 107=0) := go1.2
      by_cases b110 : q 110=0
      ·
       by_cases b119 : q 119=0
       ·
        have hH : hAll q kT_H6 := (kT_An (hF b12) (kT_An (hF b15) (kT_An (hF b18) (kT_An (hF b30) (kT_An (hF b45) (kT_An (hF b55) (kT_An (hF b58) (kT_An (hF b61) (kT_An (hF b76) (kT_An (hF b84) (kT_An (hF b95) (kT_An (hF b104) (kT_An (hF b107) (kT_An (hT b110) (kT_An (hT b119) trivial)))))))))))))))
        exact kT_leaf kT_r6 hσ hq h0 hH ⟨tab,mx⟩ (kT_memoG hσ hq h0 ⟨tab,mx⟩) hA
       ·
        have hH : hAll q kT_H7 := (kT_An (hF b12) (kT_An (hF b15) (kT_An (hF b18) (kT_An (hF b30) (kT_An (hF b45) (kT_An (hF b55) (kT_An (hF b58) (kT_An (hF b61) (kT_An (hF b76) (kT_An (hF b84) (kT_An (hF b95) (kT_An (hF b104) (kT_An (hF b107) (kT_An (hT b110) (kT_An (hF b119) trivial)))))))))))))))
        exact kT_leaf kT_r7 hσ hq h0 hH ⟨tab,mx⟩ (kT_memoG hσ hq h0 ⟨tab,mx⟩) hA
      ·
       by_cases b125 : q 125=0
       ·
        have hH : hAll q kT_H8 := (kT_An (hF b12) (kT_An (hF b15) (kT_An (hF b18) (kT_An (hF b30) (kT_An (hF b45) (kT_An (hF b55) (kT_An (hF b58) (kT_An (hF b61) (kT_An (hF b76) (kT_An (hF b84) (kT_An (hF b95) (kT_An (hF b104) (kT_An (hF b107) (kT_An (hF b110) (kT_An (hT b125) trivial)))))))))))))))
        exact kT_leaf kT_r8 hσ hq h0 hH ⟨tab,mx⟩ (kT_memoG hσ hq h0 ⟨tab,mx⟩) hA
       ·
        have gl2 := kT_l2 hq
        have b133 : ¬ (q 133=0) := gl2.1
        have go2 := kT_o2 hq
        have b144 : ¬ (q 144=0) := go2.1
        have b153 : ¬ (q 153=0) := gl2.2
        have b156 : ¬ (q 156=0) := go2.2
        by_cases b159 : q 159=0
        ·
         by_cases b168 : q 168=0
         ·
          have hH : hAll q kT_H9 := (kT_An (hF b12) (kT_An (hF b15) (kT_An (hF b18) (kT_An (hF b30) (kT_An (hF b45) (kT_An (hF b55) (kT_An (hF b58) (kT_An (hF b61) (kT_An (hF b76) (kT_An (hF b84) (kT_An (hF b95) (kT_An (hF b104) (kT_An (hF b107) (kT_An (hF b110) (kT_An (hF b125) (kT_An (hF b133) (kT_An (hF b144) (kT_An (hF b153) (kT_An (hF b156) (kT_An (hT b159) (kT_An (hT b168) trivial)))))))))))))))))))))
          exact kT_leaf kT_r9 hσ hq h0 hH ⟨tab,mx⟩ (kT_memoG hσ hq h0 ⟨tab,mx⟩) hA
         ·
          have hH : hAll q kT_H10 := (kT_An (hF b12) (kT_An (hF b15) (kT_An (hF b18) (kT_An (hF b30) (kT_An (hF b45) (kT_An (hF b55) (kT_An (hF b58) (kT_An (hF b61) (kT_An (hF b76) (kT_An (hF b84) (kT_An (hF b95) (kT_An (hF b104) (kT_An (hF b107) (kT_An (hF b110) (kT_An (hF b125) (kT_An (hF b133) (kT_An (hF b144) (kT_An (hF b153) (kT_An (hF b156) (kT_An (hT b159) (kT_An (hF b168) trivial)))))))))))))))))))))
          exact kT_leaf kT_r10 hσ hq h0 hH ⟨tab,mx⟩ (kT_memoG hσ hq h0 ⟨tab,mx⟩) hA
        ·
         by_cases b174 : q 174=0
         ·
          have hH : hAll q kT_H11 := (kT_An (hF b12) (kT_An (hF b15) (kT_An (hF b18) (kT_An (hF b30) (kT_An (hF b45) (kT_An (hF b55) (kT_An (hF b58) (kT_An (hF b61) (kT_An (hF b76) (kT_An (hF b84) (kT_An (hF b95) (kT_An (hF b104) (kT_An (hF b107) (kT_An (hF b110) (kT_An (hF b125) (kT_An (hF b133) (kT_An (hF b144) (kT_An (hF b153) (kT_An (hF b156) (kT_An (hF b159) (kT_An (hT b174) trivial)))))))))))))))))))))
          exact kT_leaf kT_r11 hσ hq h0 hH ⟨tab,mx⟩ (kT_memoG hσ hq h0 ⟨tab,mx⟩) hA
         ·
          have gl3 := kT_l3 hq
          have b182 : ¬ (q 182=0) := gl3.1
          have go3 := kT_o3 hq
          have b193 : ¬ (q 193=0) := go3.1
          have b202 : ¬ (q 202=0) := gl3.2
          have b205 : ¬ (q 205=0) := go3.2
          by_cases b208 : q 208=0
          ·
           by_cases b217 : q 217=0
           ·
            have hH : hAll q kT_H12 := (kT_An (hF b12) (kT_An (hF b15) (kT_An (hF b18) (kT_An (hF b30) (kT_An (hF b45) (kT_An (hF b55) (kT_An (hF b58) (kT_An (hF b61) (kT_An (hF b76) (kT_An (hF b84) (kT_An (hF b95) (kT_An (hF b104) (kT_An (hF b107) (kT_An (hF b110) (kT_An (hF b125) (kT_An (hF b133) (kT_An (hF b144) (kT_An (hF b153) (kT_An (hF b156) (kT_An (hF b159) (kT_An (hF b174) (kT_An (hF b182) (kT_An (hF b193) (kT_An (hF b202) (kT_An (hF b205) (kT_An (hT b208) (kT_An (hT b217) trivial)))))))))))))))))))))))))))
            exact kT_leaf kT_r12 hσ hq h0 hH ⟨tab,mx⟩ (kT_memoG hσ hq h0 ⟨tab,mx⟩) hA
           ·
            have hH : hAll q kT_H13 := (kT_An (hF b12) (kT_An (hF b15) (kT_An (hF b18) (kT_An (hF b30) (kT_An (hF b45) (kT_An (hF b55) (kT_An (hF b58) (kT_An (hF b61) (kT_An (hF b76) (kT_An (hF b84) (kT_An (hF b95) (kT_An (hF b104) (kT_An (hF b107) (kT_An (hF b110) (kT_An (hF b125) (kT_An (hF b133) (kT_An (hF b144) (kT_An (hF b153) (kT_An (hF b156) (kT_An (hF b159) (kT_An (hF b174) (kT_An (hF b182) (kT_An (hF b193) (kT_An (hF b202) (kT_An (hF b205) (kT_An (hT b208) (kT_An (hF b217) trivial)))))))))))))))))))))))))))
            exact kT_leaf kT_r13 hσ hq h0 hH ⟨tab,mx⟩ (kT_memoG hσ hq h0 ⟨tab,mx⟩) hA
          ·
           by_cases b359 : q 359=0
           ·
            have hH : hAll q kT_H14 := (kT_An (hF b12) (kT_An (hF b15) (kT_An (hF b18) (kT_An (hF b30) (kT_An (hF b45) (kT_An (hF b55) (kT_An (hF b58) (kT_An (hF b61) (kT_An (hF b76) (kT_An (hF b84) (kT_An (hF b95) (kT_An (hF b104) (kT_An (hF b107) (kT_An (hF b110) (kT_An (hF b125) (kT_An (hF b133) (kT_An (hF b144) (kT_An (hF b153) (kT_An (hF b156) (kT_An (hF b159) (kT_An (hF b174) (kT_An (hF b182) (kT_An (hF b193) (kT_An (hF b202) (kT_An (hF b205) (kT_An (hF b208) (kT_An (hT b359) trivial)))))))))))))))))))))))))))
            exact kT_leaf kT_r14 hσ hq h0 hH ⟨tab,mx⟩ (kT_memoG hσ hq h0 ⟨tab,mx⟩) hA
           ·
            have gF := kT_F hq b359
            have b374 : ¬ (q 374=0) := gF
            by_cases b360 : q 360=0
            ·
             by_cases b361 : q 361=0
             ·
              have gZ1 := kT_Z1 hq b359 (kT_P0 hq b18 b61) b360 b361
              have b362 : ¬ (q 362=0) := gZ1
              have gM2 := ((hq 402 _ rfl).trans ((congrArg (q 362 * ·) (kT_K hq (kT_P0 hq b18 b61) (kT_P1 hq b76 b110) (kT_P2 hq b125 b159) (kT_P3 hq b174 b208))).trans (Rat.mul_zero _)))
              have b402 : q 402=0 := gM2
              have hH : hAll q kT_H15 := (kT_An (hF b12) (kT_An (hF b15) (kT_An (hF b18) (kT_An (hF b30) (kT_An (hF b45) (kT_An (hF b55) (kT_An (hF b58) (kT_An (hF b61) (kT_An (hF b76) (kT_An (hF b84) (kT_An (hF b95) (kT_An (hF b104) (kT_An (hF b107) (kT_An (hF b110) (kT_An (hF b125) (kT_An (hF b133) (kT_An (hF b144) (kT_An (hF b153) (kT_An (hF b156) (kT_An (hF b159) (kT_An (hF b174) (kT_An (hF b182) (kT_An (hF b193) (kT_An (hF b202) (kT_An (hF b205) (kT_An (hF b208) (kT_An (hF b359) (kT_An (hF b374) (kT_An (hT b360) (kT_An (hT b361) (kT_An (hF b362) (kT_An (hT b402) trivial))))))))))))))))))))))))))))))))
              exact kT_leaf kT_r15 hσ hq h0 hH ⟨tab,mx⟩ (kT_memoG hσ hq h0 ⟨tab,mx⟩) hA
             ·
              have gM1 := ((hq 403 _ rfl).trans ((congrArg (q 361 * ·) (kT_K hq (kT_P0 hq b18 b61) (kT_P1 hq b76 b110) (kT_P2 hq b125 b159) (kT_P3 hq b174 b208))).trans (Rat.mul_zero _)))
              have b403 : q 403=0 := gM1
              have hH : hAll q kT_H16 := (kT_An (hF b12) (kT_An (hF b15) (kT_An (hF b18) (kT_An (hF b30) (kT_An (hF b45) (kT_An (hF b55) (kT_An (hF b58) (kT_An (hF b61) (kT_An (hF b76) (kT_An (hF b84) (kT_An (hF b95) (kT_An (hF b104) (kT_An (hF b107) (kT_An (hF b110) (kT_An (hF b125) (kT_An (hF b133) (kT_An (hF b144) (kT_An (hF b153) (kT_An (hF b156) (kT_An (hF b159) (kT_An (hF b174) (kT_An (hF b182) (kT_An (hF b193) (kT_An (hF b202) (kT_An (hF b205) (kT_An (hF b208) (kT_An (hF b359) (kT_An (hF b374) (kT_An (hT b360) (kT_An (hF b361) (kT_An (hT b403) trivial)))))))))))))))))))))))))))))))
              exact kT_leaf kT_r16 hσ hq h0 hH ⟨tab,mx⟩ (kT_memoG hσ hq h0 ⟨tab,mx⟩) hA
            ·
             have gM0 := ((hq 404 _ rfl).trans ((congrArg (q 360 * ·) (kT_K hq (kT_P0 hq b18 b61) (kT_P1 hq b76 b110) (kT_P2 hq b125 b159) (kT_P3 hq b174 b208))).trans (Rat.mul_zero _)))
             have b404 : q 404=0 := gM0
             have hH : hAll q kT_H17 := (kT_An (hF b12) (kT_An (hF b15) (kT_An (hF b18) (kT_An (hF b30) (kT_An (hF b45) (kT_An (hF b55) (kT_An (hF b58) (kT_An (hF b61) (kT_An (hF b76) (kT_An (hF b84) (kT_An (hF b95) (kT_An (hF b104) (kT_An (hF b107) (kT_An (hF b110) (kT_An (hF b125) (kT_An (hF b133) (kT_An (hF b144) (kT_An (hF b153) (kT_An (hF b156) (kT_An (hF b159) (kT_An (hF b174) (kT_An (hF b182) (kT_An (hF b193) (kT_An (hF b202) (kT_An (hF b205) (kT_An (hF b208) (kT_An (hF b359) (kT_An (hF b374) (kT_An (hF b360) (kT_An (hT b404) trivial))))))))))))))))))))))))))))))
             exact kT_leaf kT_r17 hσ hq h0 hH ⟨tab,mx⟩ (kT_memoG hσ hq h0 ⟨tab,mx⟩) hA
end Go.Proofs.YtjfodeihndjpjaaGreatDoor
