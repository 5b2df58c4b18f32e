/- Part 13 of the walks and of the mathematics under them: VP VPC VPD VPE VY VSZ CFprojected MPK. -/
import Derived.Test.YtjfodeihndjpjaaGreatDoorA2
import Derived.Test.YtjfodeihndjpjaaGreatDoorA12
set_option maxHeartbeats 16000000
set_option maxRecDepth 100000
/- VP -/
namespace Cx
open Go Go.RowKit
abbrev Hs := List (Nat × Nat × Nat × Nat)
def Sx.plus (S : Sx) (X : Hs) : Sx := { S with H := X ++ S.H }
abbrev Ask := Nat × Nat × Nat × Nat
def askZ (a : Nat) : Ask := (0,a,0,a)
def askOk (S : Sx) : Ask→Bool
 | (k,a,b,d) => (Nat.beq k 0 && (Nat.beq b 0 && Nat.beq d a)) || (Nat.beq k 3 && (match S.N[d]? with
  | some (op,ar) => Nat.beq op 3 && beqL ar [a,b]
  | none => false))
def acrossB (S : Sx) (a b : Nat) : List Nat→List Nat→Option (List Ask)
 | c :: l,d :: m => (S.nd 4 [a,d]).bind fun x => (S.nd 4 [c,b]).bind fun y => (S.nd 3 [x,y]).bind fun z => (acrossB S a b l m).map fun r => (3,x,y,z) :: r
 | _,_ => some []
def alikeB (S : Sx) : List Nat→List Nat→List Nat→List Nat→Option (List Ask)
 | pl,pm,a :: l,b :: m => (acrossB S a b pl pm).bind fun r => (alikeB S (pl ++ [a]) (pm ++ [b]) l m).map fun t => r ++ t
 | _,_,_,_ => some []
def sameA (S : Sx) : List Nat→List Nat→Option (List Ask)
 | a :: l,b :: m => (S.nd 3 [a,b]).bind fun d => (sameA S l m).map fun r => (3,a,b,d) :: r
 | _,_ => some []
def asks (S : Sx) (h : List HB) (code : Nat) (args : List AV) : Option (List Ask) :=
 match code with
 | 60 => arg1 (fun x => (asA x).bind fun cs => (qRow S cs).map fun l => l.map askZ) args
 | 61 => arg1 (fun x => (rowB h 1 x).bind fun p => (mapO (acX 0) p.2).map fun l => l.map askZ) args
 | 62 => arg2 (fun x y => (rowB h 1 x).bind fun p => (mapO (acX 0) p.2).bind fun l => (rowB h 1 y).bind fun p' => (mapO (acX 0) p'.2).bind fun m => alikeB S [] [] l m) args
 | 63 => arg1 (fun x => (asA x).bind fun cs => (mapO acTold cs).bind fun l => (plainOf S l).map fun xs => xs.map askZ) args
 | 67 => arg1 (fun x => (asA x).bind fun cs => (mapO (txNode S) (cs.take 3)).map fun l => l.map askZ) args
 | 65 => arg1 (fun x => (asA x).bind fun cs => (mapO (acX 0) cs).map fun l => l.map askZ) args
 | 66 => arg2 (fun x y => (asA x).bind fun cs => (asA y).bind fun ds => (mapO (acX 0) cs).bind fun l => (mapO (acX 0) ds).bind fun m => sameA S l m) args
 | 64 => arg1 (fun x => (asA x).bind fun cs => (qRow S cs).map fun l => (l.take 5).map askZ) args
 | _ => none
def splits : List Ask→Hs→List Hs
 | [],_ => []
 | (k,a,b,_) :: l,X => ((k,a,b,0) :: X) :: splits l ((k,a,b,1) :: X)
def allZ : List Ask→Hs→Hs
 | [],X => X
 | (k,a,b,_) :: l,X => allZ l ((k,a,b,1) :: X)
def bodyC (S : Sx) (call : CallF) : CallF := fun f args h nx => S.P.funcs[f]?.bind fun fn => fn.body.bind fun c => ifO (Nat.ble args.length fn.ntmps) ((runB S call fn.ntmps c { tm := numb1 0 args,h := h,nx := nx }).bind fun r =>
   ifO (Nat.ble r.1 1) ((mapO (resB S.P r.2) fn.results.toList).map fun xs => (tupB xs,r.2.h,r.2.nx)))
abbrev CRes := Option (AV × List HB × Nat)
def agree (h : List HB) (b : Bool) (hi : Nat) : CRes→Bool
 | some (v,h',nx') => (match asB v with
  | some c => b == c
  | none => false) && (Nat.ble nx' hi && h.all fun x => h'.any fun y => Nat.beq y.1 x.1 && acsW x.2 y.2)
 | none => false
def topN : Nat→List CRes→Nat
 | m,[] => m
 | m,some p :: rs => topN (bif Nat.ble m p.2.2 then p.2.2 else m) rs
 | m,none :: rs => topN m rs
def joinC (h : List HB) (nx : Nat) (rs : List CRes) : CRes :=
 match rs with
 | some p :: _ => (asB p.1).bind fun b => ifO (rs.all (agree h b (topN nx rs))) (some (kB b,h,topN nx rs))
 | _ => none
def askIt (S : Sx) (X : Hs) (h : List HB) (c : Nat) (args : List AV) : Option (List Ask × Nat) :=
 (asks (S.plus X) h c args).bind fun l => ifO (l.all (askOk S)) ((sqN S (l.map (·.2.2.2))).bind fun s => ((S.plus X).kn 0 s 0).map fun r => (l,r))
theorem askIt_some {S : Sx} {X : Hs} {h : List HB} {c : Nat} {args : List AV} {l : List Ask} {r : Nat} (e : askIt S X h c args=some (l,r)) : (∀ a ∈ l,askOk S a=true)∧∃ s,sqN S (l.map (·.2.2.2))=some s∧(S.plus X).kn 0 s 0=some r := by
 unfold askIt at e
 simp only [Option.bind_eq_some_iff,ifO_some,Option.map_eq_some_iff,List.all_eq_true,Prod.mk.injEq] at e
 obtain ⟨l',_,h1,s,h2,r',h3,rfl,rfl⟩ := e
 exact ⟨h1,s,h2,h3⟩
def callC (S : Sx) (cs : List (FuncId × Nat)) : Nat→Hs→CallF
 | 0,_,_,_,_,_ => none
 | n+1,X,f,args,h,nx => match prGet f cs with
  | none => bodyC (S.plus X) (callC S cs n X) f args h nx
  | some c => match askIt S X h c args with
   | none => bodyC (S.plus X) (callC S cs n X) f args h nx
   | some (l,r) => bif Nat.beq 1 r then bodyC (S.plus (allZ l X)) (callC S cs n (allZ l X)) f args h nx
    else joinC h nx ((splits l X).map fun X' => bodyC (S.plus X') (callC S cs n X') f args h nx)
section
variable {S : Sx} {E : Ev S.nb} {w0 : World}
theorem bodyC_ok {call : CallF} (hm : S.P.follows .mixedOrders=true) (N : Knows S E) (hP : PrimOk S E w0) (hC : CallOk S E w0 call) : CallOk S E w0 (bodyC S call) := fun f args h nx p hp γ w vs hi hA hb hlt hf => by
 unfold bodyC at hp
 simp only [Option.bind_eq_some_iff,ifO_some,Option.map_eq_some_iff,Nat.ble_eq] at hp
 obtain ⟨fn,h1,c,h2,h3,⟨e,s'⟩,h4,h5,xs,h6,rfl⟩ := hp
 dsimp only at h5 h6
 rcases (show e=0 ∨ e=1 by omega) with rfl | rfl
 all_goals
  obtain ⟨_,_,r⟩ := runB_ok hm N hP hC c _ _ _ h4
  refine calls_of_wp h1 h2 (r γ _ w _ ⟨hi,fun t v q => ?_,hb,hlt,?_,rfl⟩ hf fun a' w' γ' hef hs => ?_)
  ·obtain ⟨_,q2⟩ := numb1_get q
   rw [Nat.sub_zero] at q2
   obtain ⟨u,hu,hv⟩ := hA.get q2
   have hlt : t < vs.length := (List.getElem?_eq_some_iff.1 hu).1
   have : (vs.toArray ++ Array.replicate (fn.ntmps - vs.toArray.size) undef).getD t undef=u := by
    rw [Array.getD_eq_getD_getElem?,Array.getElem?_append_left (by simpa using hlt)]
    simp [hu]
   show avOn _ v ((vs.toArray ++ Array.replicate (fn.ntmps - vs.toArray.size) undef).getD t undef)
   rw [this]
   exact hv
  ·have := hA.len
   simp
   omega
  ·obtain ⟨v,hv,hx⟩ := results_run hs h6
   exact ⟨hs.df,v,hv,v,γ',rfl,hef,hx,hs.bx⟩
theorem asB_kB {v : AV} {b : Bool} (h : asB v=some b) : v=kB b := by
 unfold asB at h
 rw [Option.bind_eq_some_iff] at h
 obtain ⟨c,h1,h2⟩ := h
 unfold asC at h1
 split at h1
 ·cases h1
  unfold acB at h2
  split at h2
  ·cases h2
   rfl
  ·cases h2
 ·cases h1
theorem agree_some {h : List HB} {b : Bool} {hi : Nat} {r : CRes} (hr : agree h b hi r=true) : ∃ h' nx',r=some (kB b,h',nx')∧nx'≤hi∧∀ x ∈ h,x ∈ h' := by
 unfold agree at hr
 split at hr
 ·rename_i v h' nx'
  rw [Bool.and_eq_true,Bool.and_eq_true,Nat.ble_eq,List.all_eq_true] at hr
  obtain ⟨h1,h2,h3⟩ := hr
  refine ⟨h',nx',?_,h2,fun x hx => ?_⟩
  ·split at h1
   ·rename_i c hc
    rw [asB_kB hc,show c=b from (by simpa using h1 : b=c).symm]
   ·cases h1
  ·have := h3 x hx
   rw [List.any_eq_true] at this
   obtain ⟨y,hy,e⟩ := this
   rw [Bool.and_eq_true,Nat.beq_eq] at e
   have : x=y := Prod.ext e.1.symm (acsW_eq e.2)
   rw [this]
   exact hy
 ·cases hr
variable {T : Hs→Prop} {z : Nat→Prop}
def AskTrue (S : Sx) (T : Hs→Prop) (z : Nat→Prop) : Prop := ∀ X,T X→∀ a,askOk S a=true→(z a.2.2.2→T ((a.1,a.2.1,a.2.2.1,1) :: X))∧(¬ z a.2.2.2→T ((a.1,a.2.1,a.2.2.1,0) :: X))
theorem allZ_true (hk : AskTrue S T z) : ∀ {l : List Ask} {X : Hs},T X→(∀ a ∈ l,askOk S a=true)→(∀ a ∈ l,z a.2.2.2)→T (allZ l X)
 | [],_,h,_,_ => h
 | (k,a,b,d) :: l,X,h,ho,hz => allZ_true (l := l) hk ((hk X h (k,a,b,d) (ho _ List.mem_cons_self)).1 (hz _ List.mem_cons_self)) (fun a ha => ho a (List.mem_cons_of_mem _ ha)) (fun a ha => hz a (List.mem_cons_of_mem _ ha))
theorem splits_true (hk : AskTrue S T z) : ∀ {l : List Ask} {X : Hs},T X→(∀ a ∈ l,askOk S a=true)→(∃ a ∈ l,¬ z a.2.2.2)→∃ X' ∈ splits l X,T X'
 | [],_,_,_,⟨_,h,_⟩ => by cases h
 | (k,a,b,d) :: l,X,h,ho,hz => by
  by_cases e : z d
  ·obtain ⟨X',h1,h2⟩ := splits_true (l := l) hk ((hk X h (k,a,b,d) (ho _ List.mem_cons_self)).1 e) (fun a ha => ho a (List.mem_cons_of_mem _ ha)) (by
    obtain ⟨c,hc,hn⟩ := hz
    rcases List.mem_cons.1 hc with rfl | hc
    ·exact (hn e).elim
    ·exact ⟨c,hc,hn⟩)
   exact ⟨X',List.mem_cons_of_mem _ h1,h2⟩
  ·exact ⟨_,List.mem_cons_self,(hk X h (k,a,b,d) (ho _ List.mem_cons_self)).2 e⟩
theorem callC_ok {cs : List (FuncId × Nat)} (hm : S.P.follows .mixedOrders=true) (hN : ∀ X,T X→Knows (S.plus X) E) (hP : ∀ X,T X→PrimOk (S.plus X) E w0) (hk : AskTrue S T z)
  (hs : ∀ X,T X→∀ l s r,sqN S l=some s→(S.plus X).kn 0 s 0=some r→(Nat.beq 1 r=true→∀ d ∈ l,z d)∧(Nat.beq 1 r=false→∃ d ∈ l,¬ z d)) : ∀ n X,T X→CallOk S E w0 (callC S cs n X)
 | 0,_,_ => fun _ _ _ _ _ h => by cases h
 | n+1,X,hX => fun f args h nx p hp => by
  have body : ∀ Y,T Y→CallOk S E w0 (bodyC (S.plus Y) (callC S cs n Y)) := fun Y hY => bodyC_ok (S := S.plus Y) hm (hN Y hY) (hP Y hY) (callC_ok hm hN hP hk hs n Y hY)
  unfold callC at hp
  split at hp
  ·exact body X hX f args h nx p hp
  ·split at hp
   ·exact body X hX f args h nx p hp
   rename_i l r hk'
   obtain ⟨hl,s,h1,h2⟩ := askIt_some hk'
   have h3 := hp
   obtain ⟨a1,a0⟩ := hs X hX _ s r h1 h2
   cases e : Nat.beq 1 r with
   | true =>
    rw [e] at h3
    exact body _ (allZ_true hk hX hl fun a ha => a1 e _ (List.mem_map_of_mem ha)) f args h nx p h3
   | false =>
    rw [e] at h3
    obtain ⟨d,hd,hz⟩ := a0 e
    obtain ⟨a,ha,rfl⟩ := List.mem_map.1 hd
    obtain ⟨X',m1,m2⟩ := splits_true hk hX hl ⟨a,ha,hz⟩
    replace h3 : joinC h nx ((splits l X).map fun X' => bodyC (S.plus X') (callC S cs n X') f args h nx)=some p := h3
    unfold joinC at h3
    split at h3
    ·rename_i p0 rs hrs
     rw [Option.bind_eq_some_iff] at h3
     obtain ⟨b,hb,h4⟩ := h3
     rw [ifO_some,List.all_eq_true] at h4
     obtain ⟨h5,h6⟩ := h4
     cases h6
     obtain ⟨h',nx',q1,q2,q3⟩ := agree_some (h5 _ (List.mem_map_of_mem m1))
     intro γ w vs hi hA hb hlt hf
     refine (body X' m2 f args h nx _ q1 γ w vs hi hA hb hlt fun b g1 g2 => hf b g1 (Nat.lt_of_lt_of_le g2 q2)).mono ?_
     rintro _ w' ⟨r',γ',rfl,hef,hv,hx⟩
     exact ⟨r',γ',rfl,hef.wide (Nat.le_refl _) q2,hv,fun x hh => hx x (q3 x hh)⟩
    ·cases h3
end
end Cx
/- VPC -/
namespace Go.Proofs.YtjfodeihndjpjaaGreatDoor
open Cx Go Go.RowKit
section
variable {N : List Nd} {H : List (Nat × Nat × Nat × Nat)} {K : List (FuncId × List AC)} {L C : List (List Nat × Nat)} {Z : List Nat} {q : Nat→Rat} {σ : Nat→ByteArray} {w0 : World} {cl : List FuncId} {cs pr : List (FuncId × Nat)}
theorem kn_cons {k a b k' a' b' r' : Nat} {r : Nat} (h : knFrom k a b ((k',a',b',r') :: H)=some r) : (k=k'∧a=a'∧b=b'∧r=r') ∨ knFrom k a b H=some r := by
 unfold knFrom at h
 cases e : (Nat.beq k k' && (Nat.beq a a' && Nat.beq b b')) with
 | true =>
  rw [e] at h
  simp only [Bool.and_eq_true,Nat.beq_eq] at e
  exact Or.inl ⟨e.1,e.2.1,e.2.2,(Option.some.inj h).symm⟩
 | false =>
  rw [e] at h
  exact Or.inr h
theorem Hy.add0 (Y : Hy N H L C Z q σ) {a r : Nat} (h : Nat.beq 1 r=true ↔ q a=0) : Hy N ((0,a,0,r) :: H) L C Z q σ where
 nat := Y.nat
 qs := Y.qs
 zs := Y.zs
 par := Y.par
 lit := Y.lit
 k0 := fun a' r' g => by
  rcases kn_cons g with ⟨_,e1,_,e2⟩ | g
  ·rw [e1,e2]
   exact h
  ·exact Y.k0 a' r' g
 k1 := fun a' r' g => by
  rcases kn_cons g with ⟨e,_⟩ | g
  ·cases e
  ·exact Y.k1 a' r' g
 k2 := fun a' r' g => by
  rcases kn_cons g with ⟨e,_⟩ | g
  ·cases e
  ·exact Y.k2 a' r' g
 k4 := fun l a' b' r' g1 g => by
  rcases kn_cons g with ⟨e,_⟩ | g
  ·cases e
  ·exact Y.k4 l a' b' r' g1 g
 k3 := fun a' b' r' g => by
  rcases kn_cons g with ⟨e,_⟩ | g
  ·cases e
  ·exact Y.k3 a' b' r' g
 k6 := fun a' b' r' g => by
  rcases kn_cons g with ⟨e,_⟩ | g
  ·cases e
  ·exact Y.k6 a' b' r' g
 k5 := fun a' r' g => by
  rcases kn_cons g with ⟨e,_⟩ | g
  ·cases e
  ·exact Y.k5 a' r' g
theorem Hy.add3 (Y : Hy N H L C Z q σ) {a b r : Nat} (h : Nat.beq 1 r=true ↔ q a=q b) : Hy N ((3,a,b,r) :: H) L C Z q σ where
 nat := Y.nat
 qs := Y.qs
 zs := Y.zs
 par := Y.par
 lit := Y.lit
 k0 := fun a' r' g => by
  rcases kn_cons g with ⟨e,_⟩ | g
  ·cases e
  ·exact Y.k0 a' r' g
 k1 := fun a' r' g => by
  rcases kn_cons g with ⟨e,_⟩ | g
  ·cases e
  ·exact Y.k1 a' r' g
 k2 := fun a' r' g => by
  rcases kn_cons g with ⟨e,_⟩ | g
  ·cases e
  ·exact Y.k2 a' r' g
 k4 := fun l a' b' r' g1 g => by
  rcases kn_cons g with ⟨e,_⟩ | g
  ·cases e
  ·exact Y.k4 l a' b' r' g1 g
 k3 := fun a' b' r' g => by
  rcases kn_cons g with ⟨_,e1,e2,e3⟩ | g
  ·rw [e1,e2,e3]
   exact h
  ·exact Y.k3 a' b' r' g
 k6 := fun a' b' r' g => by
  rcases kn_cons g with ⟨e,_⟩ | g
  ·cases e
  ·exact Y.k6 a' b' r' g
 k5 := fun a' r' g => by
  rcases kn_cons g with ⟨e,_⟩ | g
  ·cases e
  ·exact Y.k5 a' r' g
theorem ask_true : AskTrue (sx Tryz.prog N H K L C Z pr) (fun X => Hy N (X ++ H) L C Z q σ) (fun d => q d=0) := fun X Y a ha => by
 obtain ⟨k,a,b,d⟩ := a
 have t1 : Nat.beq 1 1=true := rfl
 have t0 : Nat.beq 1 0 ≠ true := fun h => by cases h
 unfold askOk at ha
 rw [Bool.or_eq_true] at ha
 rcases ha with ha | ha
 ·simp only [Bool.and_eq_true,Nat.beq_eq] at ha
  obtain ⟨rfl,rfl,rfl⟩ := ha
  exact ⟨fun h => Hy.add0 Y ⟨fun _ => h,fun _ => t1⟩,fun h => Hy.add0 Y ⟨fun g => (t0 g).elim,fun g => (h g).elim⟩⟩
 ·rw [Bool.and_eq_true,Nat.beq_eq] at ha
  obtain ⟨rfl,hb⟩ := ha
  split at hb
  ·rename_i op ar hn
   rw [Bool.and_eq_true,Nat.beq_eq] at hb
   obtain ⟨rfl,hb⟩ := hb
   have e := beqL_eq hb
   subst e
   have hv : q d=q a - q b := Y.nat d _ hn
   have h2 : q d=0 ↔ q a=q b := by
    rw [hv]
    constructor <;> intro h <;> grind
   exact ⟨fun h => Hy.add3 Y ⟨fun _ => h2.1 h,fun _ => t1⟩,fun h => Hy.add3 Y ⟨fun g => (t0 g).elim,fun g => (h (h2.2 g)).elim⟩⟩
  ·cases hb
theorem sq_nn (y : Rat) : 0≤y*y := by
 by_cases h : y=0
 ·rw [h,Rat.zero_mul]
  exact Rat.le_refl
 ·exact Rat.le_of_lt (sq1_pos h)
theorem sq_sum {x y : Rat} (hx : 0≤x) : x+y*y=0 ↔ x=0∧y=0 := by
 constructor
 ·intro h
  have h2 := sq_nn y
  have h3 : x=0 := by grind
  refine ⟨h3,?_⟩
  have : y*y=0 := by grind
  rcases Rat.mul_eq_zero.1 this with g | g <;> exact g
 ·rintro ⟨rfl,rfl⟩
  grind
theorem sqF_val {H' : List (Nat × Nat × Nat × Nat)} (Y : Hy N H' L C Z q σ) : ∀ {l : List Nat} {s t : Nat},sqF (sx Tryz.prog N H K L C Z pr) s l=some t→0≤q s→0≤q t∧(q t=0 ↔ q s=0∧∀ d ∈ l,q d=0)
 | [],s,t,h,hs => by
  cases h
  exact ⟨hs,fun e => ⟨e,fun d hd => by cases hd⟩,fun e => e.1⟩
 | a :: l,s,t,h,hs => by
  unfold sqF at h
  simp only [Option.bind_eq_some_iff] at h
  obtain ⟨b,h1,c,h2,h3⟩ := h
  have e1 : q b=q a*q a := Hy.nd (H := H') (K := K) (pr := pr) Y h1
  have e2 : q c=q s+q b := Hy.nd (H := H') (K := K) (pr := pr) Y h2
  have n := sq_nn (q a)
  obtain ⟨g1,g2⟩ := sqF_val Y h3 (by grind)
  refine ⟨g1,g2.trans ?_⟩
  have e3 := sq_sum (y := q a) hs
  rw [e2,e1,e3]
  constructor
  ·rintro ⟨⟨x,y⟩,z⟩
   refine ⟨x,fun d hd => ?_⟩
   rcases List.mem_cons.1 hd with rfl | hd
   ·exact y
   ·exact z d hd
  ·rintro ⟨x,y⟩
   exact ⟨⟨x,y a List.mem_cons_self⟩,fun d hd => y d (List.mem_cons_of_mem _ hd)⟩
theorem sqN_val {H' : List (Nat × Nat × Nat × Nat)} (Y : Hy N H' L C Z q σ) {l : List Nat} {s : Nat} (h : sqN (sx Tryz.prog N H K L C Z pr) l=some s) : q s=0 ↔ ∀ d ∈ l,q d=0 := by
 unfold sqN at h
 split at h
 ·cases h
 ·rename_i a l
  rw [Option.bind_eq_some_iff] at h
  obtain ⟨b,h1,h2⟩ := h
  have e1 : q b=q a*q a := Hy.nd (H := H') (K := K) (pr := pr) Y h1
  have n := sq_nn (q a)
  obtain ⟨_,g⟩ := sqF_val Y h2 (by grind)
  rw [g,e1]
  constructor
  ·rintro ⟨x,y⟩ d hd
   rcases List.mem_cons.1 hd with rfl | hd
   ·rcases Rat.mul_eq_zero.1 x with x | x <;> exact x
   ·exact y d hd
  ·intro y
   refine ⟨?_,fun d hd => y d (List.mem_cons_of_mem _ hd)⟩
   rw [y a List.mem_cons_self,Rat.zero_mul]
theorem run_cases {f : FuncId} {args : List AV} {vs : List Value} {k : Nat} {p : List HB × Nat} {b : Bool} (Y : Hy N H L C Z q σ) (hm : (Tryz.prog).follows .mixedOrders=true) {w : World} (hP : ∀ H',Hy N H' L C Z q σ→PrimOk (sx Tryz.prog N H' K L C Z pr) (evS q σ) w) (hr : callC (sx Tryz.prog N H K L C Z pr) cs k [] f args [] 0=some (kB b,p))
  (hA : A2 (avOn (cOn (evS q σ) K (fun _ => none) w)) args vs) : Calls Tryz.prog f vs.toArray w fun e w' => Below w.heap.size w w'∧e=.returned (.bool b) := by
 refine (callC_ok (S := sx Tryz.prog N H K L C Z pr) (E := evS q σ) (w0 := w) (T := fun X => Hy N (X ++ H) L C Z q σ) (z := fun d => q d=0) hm (fun X hX => knows hX) (fun X hX => hP _ hX) ask_true ?_ k [] Y f args [] 0 (kB b,p) hr (fun _ => none) w vs ⟨Below.refl _ _,(fun _ _ h => by cases h)⟩ hA (fun x hx => by cases hx) (fun x hx => by cases hx) (fun _ _ _ => rfl)).mono ?_
 ·intro X hX l s r h1 h2
  have e := hX.k0 s r h2
  have g := sqN_val hX h1
  refine ⟨fun h => g.1 (e.1 h),fun h => ?_⟩
  have hn : ¬ ∀ d ∈ l,q d=0 := fun q' => by
   rw [e.2 (g.2 q')] at h
   cases h
  simpa using hn
 ·rintro _ w' ⟨r,γ',rfl,hef,hv,_⟩
  exact ⟨hef.wi.bel,by rw [show r=.bool b from (asC_on (v := kB b) (c := .inl (.bool b)) rfl hv).1]⟩
theorem run_toldC {f : FuncId} {args : List AV} {vs : List Value} {k : Nat} {p : List HB × Nat} {b : Bool} (Y : Hy N H L C Z q σ) (hc : ∀ f ∈ cl,Closed f) (hm : (Tryz.prog).follows .mixedOrders=true) (hr : callC (sx Tryz.prog N H K L C Z (prC cl)) cs k [] f args [] 0=some (kB b,p)) {w : World} (hp : PreS w)
  (hA : A2 (avOn (cOn (evS q σ) K (fun _ => none) w)) args vs) : Calls Tryz.prog f vs.toArray w fun e w' => Below w.heap.size w w'∧e=.returned (.bool b) := run_cases Y hm (fun _ Y' => primOk Y' hp hc) hr hA
theorem run_toldC' {f : FuncId} {args : List AV} {vs : List Value} (k : Nat) (Y : Hy N H L C Z q σ) (hc : ∀ f ∈ cl,Closed f) (hm : (Tryz.prog).follows .mixedOrders=true) (hr : (callC (sx Tryz.prog N H K L C Z (prC cl)) cs k [] f args [] 0).map (·.1)=some (kB true)) {w : World} (hp : PreS w)
  (hA : A2 (avOn (cOn (evS q σ) K (fun _ => none) w)) args vs) : Calls Tryz.prog f vs.toArray w fun e w' => Below w.heap.size w w'∧e=.returned (.bool true) := by
 rw [Option.map_eq_some_iff] at hr
 obtain ⟨⟨v,p⟩,h1,h2⟩ := hr
 dsimp only at h2
 subst h2
 exact run_toldC Y hc hm h1 hp hA
end
end Go.Proofs.YtjfodeihndjpjaaGreatDoor
/- VPD -/
namespace Cx
open Go Go.RowKit
def a1sB : List A1→List A1→Bool
 | [],[] => true
 | (a,x) :: l,(b,y) :: m => (a == b && acsW x y) && a1sB l m
 | _,_ => false
theorem a1sB_eq : ∀ {l m : List A1},a1sB l m=true→l=m
 | [],[],_ => rfl
 | (a,x) :: l,(b,y) :: m,h => by
  unfold a1sB at h
  simp only [Bool.and_eq_true,beq_iff_eq] at h
  obtain ⟨⟨h1,h2⟩,h3⟩ := h
  rw [h1,acsW_eq h2,a1sB_eq h3]
 | [],_ :: _,h => by cases h
 | _ :: _,[],h => by cases h
def avsB : List AV→List AV→Bool
 | [],[] => true
 | (a,x) :: l,(b,y) :: m => (a == b && a1sB x y) && avsB l m
 | _,_ => false
theorem avsB_eq : ∀ {l m : List AV},avsB l m=true→l=m
 | [],[],_ => rfl
 | (a,x) :: l,(b,y) :: m,h => by
  unfold avsB at h
  simp only [Bool.and_eq_true,beq_iff_eq] at h
  obtain ⟨⟨h1,h2⟩,h3⟩ := h
  rw [h1,a1sB_eq h2,avsB_eq h3]
 | [],_ :: _,h => by cases h
 | _ :: _,[],h => by cases h
abbrev Memo := List (FuncId × List AV × AV)
def memoGet (f : FuncId) (args : List AV) : Memo→Option AV
 | [] => none
 | (g,bs,v) :: m => bif Nat.beq f g && avsB args bs then some v else memoGet f args m
theorem memoGet_mem {f : FuncId} {args : List AV} {v : AV} : ∀ {m : Memo},memoGet f args m=some v→(f,args,v) ∈ m
 | [],h => by cases h
 | (g,bs,u) :: m,h => by
  unfold memoGet at h
  cases e : (Nat.beq f g && avsB args bs) with
  | true =>
   rw [e] at h
   rw [Bool.and_eq_true,Nat.beq_eq] at e
   rw [e.1,avsB_eq e.2,show u=v from Option.some.inj h]
   exact List.mem_cons_self
  | false =>
   rw [e] at h
   exact List.mem_cons_of_mem _ (memoGet_mem h)
def bareC : AC→Bool
 | .inl _ => true
 | .inr (k,_) => Nat.ble k 2
def bareV (v : AV) : Bool := v.2.all fun x => x.2.all bareC
def callD (S : Sx) (cs : List (FuncId × Nat)) (M : Memo) : Nat→Hs→CallF
 | 0,_,_,_,_,_ => none
 | n+1,X,f,args,h,nx => match memoGet f args M with
  | some v => some (v,h,nx)
  | none => match prGet f cs with
   | none => bodyC (S.plus X) (callD S cs M n X) f args h nx
   | some c => match askIt S X h c args with
    | none => bodyC (S.plus X) (callD S cs M n X) f args h nx
    | some (l,r) => bif Nat.beq 1 r then bodyC (S.plus (allZ l X)) (callD S cs M n (allZ l X)) f args h nx
     else joinC h nx ((splits l X).map fun X' => bodyC (S.plus X') (callD S cs M n X') f args h nx)
def MemoOk (S : Sx) (E : Ev S.nb) (w0 : World) (M : Memo) : Prop := ∀ f args v,(f,args,v) ∈ M→∀ (γ : Nat→Option Nat) (w : World) (vs : List Value),WI w0 γ w→A2 (avOn (cOn E S.K γ w)) args vs →
 Calls S.P f vs.toArray w fun e w' => ∃ r,e=.returned r∧(∀ wr nx,(∀ b ∈ wr,Live γ b)→Ef S.nb w0 wr nx nx γ w γ w')∧avOn (cOn E S.K γ w') v r
section
variable {S : Sx} {E : Ev S.nb} {w0 : World}
theorem bareC_on {K K' : List (FuncId × List AC)} {γ γ' : Nat→Option Nat} {w : World} {d : Nat} {c : AC} {v : Value} (hc : bareC c=true) (h : cellOn E K γ w d c v) : cellOn E K' γ' w d c v := by
 cases c with
 | inl u =>
  unfold cellOn at h ⊢
  exact h
 | inr t =>
  obtain ⟨k,a,b,n,c⟩ := t
  have hk : k≤2 := by
   unfold bareC at hc
   rw [Nat.ble_eq] at hc
   exact hc
  match k,hk with
  | 0,_ =>
   unfold cellOn at h ⊢
   exact h
  | 1,_ =>
   unfold cellOn at h ⊢
   exact h
  | 2,_ =>
   unfold cellOn at h ⊢
   exact h
theorem A2_imp {α : Type} {R R' : α→Value→Prop} {P : α→Prop} (h : ∀ a v,P a→R a v→R' a v) : ∀ {l : List α} {vs : List Value},(∀ a ∈ l,P a)→A2 R l vs→A2 R' l vs
 | [],[],_,_ => trivial
 | _ :: _,_ :: _,hp,q => ⟨h _ _ (hp _ List.mem_cons_self) q.1,A2_imp h (fun a ha => hp a (List.mem_cons_of_mem _ ha)) q.2⟩
 | [],_ :: _,_,q => q.elim
 | _ :: _,[],_,q => q.elim
theorem bareV_on {K K' : List (FuncId × List AC)} {γ γ' : Nat→Option Nat} {w : World} {x : AV} {v : Value} (hx : bareV x=true) (h : avOn (cOn E K γ w) x v) : avOn (cOn E K' γ' w) x v := by
 unfold bareV at hx
 rw [List.all_eq_true] at hx
 have one : ∀ (y : A1) u,(∀ c ∈ y.2,bareC c=true)→a1On (cOn E K γ w) y u→a1On (cOn E K' γ' w) y u := fun y u hy q => by
  obtain ⟨b,cs⟩ := y
  cases b with
  | true =>
   obtain ⟨us,e,q⟩ := q
   exact ⟨us,e,A2_imp (P := fun c => bareC c=true) (fun _ _ hc q => bareC_on hc q) hy q⟩
  | false => exact A2_imp (P := fun c => bareC c=true) (fun _ _ hc q => bareC_on hc q) hy q
 have all : ∀ y ∈ x.2,∀ c ∈ y.2,bareC c=true := fun y hy c hc => (List.all_eq_true.1 (hx y hy)) c hc
 obtain ⟨b,ys⟩ := x
 cases b with
 | true =>
  obtain ⟨us,e,q⟩ := h
  exact ⟨us,e,A2_imp (P := fun y : A1 => ∀ c ∈ y.2,bareC c=true) (fun y u hy q => one y u hy q) all q⟩
 | false => exact A2_imp (P := fun y : A1 => ∀ c ∈ y.2,bareC c=true) (fun y u hy q => one y u hy q) all h
variable {T : Hs→Prop} {z : Nat→Prop}
theorem callD_ok {cs : List (FuncId × Nat)} {M : Memo} (hm : S.P.follows .mixedOrders=true) (hM : MemoOk S E w0 M) (hN : ∀ X,T X→Knows (S.plus X) E) (hP : ∀ X,T X→PrimOk (S.plus X) E w0) (hk : AskTrue S T z)
  (hs : ∀ X,T X→∀ l s r,sqN S l=some s→(S.plus X).kn 0 s 0=some r→(Nat.beq 1 r=true→∀ d ∈ l,z d)∧(Nat.beq 1 r=false→∃ d ∈ l,¬ z d)) : ∀ n X,T X→CallOk S E w0 (callD S cs M n X)
 | 0,_,_ => fun _ _ _ _ _ h => by cases h
 | n+1,X,hX => fun f args h nx p hp => by
  have body : ∀ Y,T Y→CallOk S E w0 (bodyC (S.plus Y) (callD S cs M n Y)) := fun Y hY => bodyC_ok (S := S.plus Y) hm (hN Y hY) (hP Y hY) (callD_ok hm hM hN hP hk hs n Y hY)
  unfold callD at hp
  split at hp
  ·rename_i v hv
   cases hp
   intro γ w vs hi hA hb hlt hf
   refine (hM f args v (memoGet_mem hv) γ w vs hi hA).mono ?_
   rintro _ w' ⟨r,rfl,hef,hr⟩
   have live : ∀ b ∈ h.map (·.1),Live γ b := fun b hb' => by
    obtain ⟨x,hx,rfl⟩ := List.mem_map.1 hb'
    obtain ⟨_,_,_,_,hl,_⟩ := hb x hx
    exact hl
   exact ⟨r,γ,rfl,hef _ _ live,hr,fun x hx => (hef [] nx no_live).box hi (hb x hx) (by simp)⟩
  ·split at hp
   ·exact body X hX f args h nx p hp
   ·split at hp
    ·exact body X hX f args h nx p hp
    rename_i l r hk'
    obtain ⟨hl,s,h1,h2⟩ := askIt_some hk'
    have h3 := hp
    obtain ⟨a1,a0⟩ := hs X hX _ s r h1 h2
    cases e : Nat.beq 1 r with
    | true =>
     rw [e] at h3
     exact body _ (allZ_true hk hX hl fun a ha => a1 e _ (List.mem_map_of_mem ha)) f args h nx p h3
    | false =>
     rw [e] at h3
     obtain ⟨d,hd,hz⟩ := a0 e
     obtain ⟨a,ha,rfl⟩ := List.mem_map.1 hd
     obtain ⟨X',m1,m2⟩ := splits_true hk hX hl ⟨a,ha,hz⟩
     replace h3 : joinC h nx ((splits l X).map fun X' => bodyC (S.plus X') (callD S cs M n X') f args h nx)=some p := h3
     unfold joinC at h3
     split at h3
     ·rename_i p0 rs hrs
      rw [Option.bind_eq_some_iff] at h3
      obtain ⟨b,hb,h4⟩ := h3
      rw [ifO_some,List.all_eq_true] at h4
      obtain ⟨h5,h6⟩ := h4
      cases h6
      obtain ⟨h',nx',q1,q2,q3⟩ := agree_some (h5 _ (List.mem_map_of_mem m1))
      intro γ w vs hi hA hb hlt hf
      refine (body X' m2 f args h nx _ q1 γ w vs hi hA hb hlt fun b g1 g2 => hf b g1 (Nat.lt_of_lt_of_le g2 q2)).mono ?_
      rintro _ w' ⟨r',γ',rfl,hef,hv,hx⟩
      exact ⟨r',γ',rfl,hef.wide (Nat.le_refl _) q2,hv,fun x hh => hx x (q3 x hh)⟩
     ·cases h3
theorem memo_run {K1 K2 : List (FuncId × List AC)} {H1 H2 : Hs} {M : Memo} {f : FuncId} {args : List AV} {v : AV} {p : List HB × Nat} {call : CallF} (hC : CallOk { S with H := H1,K := K1 } E w0 call) (hr : call f args [] 0=some (v,p)) (ha : args.all bareV=true) (hv : bareV v=true) (hM : MemoOk { S with H := H2,K := K2 } E w0 M) : MemoOk { S with H := H2,K := K2 } E w0 ((f,args,v) :: M) := fun g bs u hmem => by
 rcases List.mem_cons.1 hmem with e | hmem
 ·cases e
  intro γ w vs hi hA
  rw [List.all_eq_true] at ha
  refine (hC f args [] 0 (v,p) hr (fun _ => none) w vs ⟨hi.bel,(fun _ _ h => by cases h)⟩ (A2_imp (P := fun x => bareV x=true) (fun _ _ hx q => bareV_on hx q) ha hA) (fun x hx => by cases hx) (fun x hx => by cases hx) (fun _ _ _ => rfl)).mono ?_
  rintro _ w' ⟨r,γ',rfl,hef,hr,_⟩
  refine ⟨r,rfl,fun wr nx hl => ⟨leG.refl _,fun _ _ => rfl,fun _ _ h => Or.inl h,⟨hef.wi.bel,fun b G q => ⟨(hi.lo b G q).1,Nat.lt_of_lt_of_le (hi.lo b G q).2 hef.gr.size⟩⟩,hef.gr,fun G hG _ => hef.keep G hG (fun b hb => by cases hb),hl⟩,bareV_on hv hr⟩
 ·exact hM g bs u hmem
def memoOne (S : Sx) (cs : List (FuncId × Nat)) (k : Nat) : Memo→Bool
 | (f,args,v) :: M => (match callD S cs M k [] f args [] 0 with
  | some (u,_) => avsB [u] [v]
  | none => false) && (args.all bareV && bareV v)
 | [] => false
def memoChk (S : Sx) (cs : List (FuncId × Nat)) (k : Nat) : Nat→Memo→Bool
 | 0,_ => true
 | n+1,M => memoOne S cs k M && memoChk S cs k n M.tail
def qA (l : List Nat) : AV := (false,[(true,l.flatMap qCells)])
def tA (l : List Nat) : AV := (false,[(true,l.map fun a => .inr (1,a,0,0,0))])
def pA (l : List Nat) : AV := (false,[(true,l.map fun a => .inr (2,a,0,0,0))])
theorem memo_nil : MemoOk S E w0 [] := fun _ _ _ h => by cases h
end
end Cx
/- VPE -/
namespace Go.Proofs.YtjfodeihndjpjaaGreatDoor
open Cx Go Go.RowKit
section
variable {N : List Nd} {H : List (Nat × Nat × Nat × Nat)} {K : List (FuncId × List AC)} {L C : List (List Nat × Nat)} {Z : List Nat} {q : Nat→Rat} {σ : Nat→ByteArray} {cl : List FuncId} {cs pr : List (FuncId × Nat)} {M : Memo} {w : World}
theorem callD_told (Y : Hy N H L C Z q σ) (hc : ∀ f ∈ cl,Closed f) (hm : (Tryz.prog).follows .mixedOrders=true) (hp : PreS w) (hM : MemoOk (sx Tryz.prog N H K L C Z (prC cl)) (evS q σ) w M) (k : Nat) : CallOk (sx Tryz.prog N H K L C Z (prC cl)) (evS q σ) w (callD (sx Tryz.prog N H K L C Z (prC cl)) cs M k []) :=
 callD_ok (S := sx Tryz.prog N H K L C Z (prC cl)) (E := evS q σ) (w0 := w) (T := fun X => Hy N (X ++ H) L C Z q σ) (z := fun d => q d=0) hm hM (fun X hX => knows hX) (fun X hX => primOk hX hp hc) ask_true (fun X hX l s r h1 h2 => by
  have e := hX.k0 s r h2
  have g := sqN_val hX h1
  refine ⟨fun h => g.1 (e.1 h),fun h => ?_⟩
  have hn : ¬ ∀ d ∈ l,q d=0 := fun q' => by
   rw [e.2 (g.2 q')] at h
   cases h
  simpa using hn) k [] Y
def MemoAll (N : List Nd) (L C : List (List Nat × Nat)) (Z : List Nat) (q : Nat→Rat) (σ : Nat→ByteArray) (cl : List FuncId) (w : World) (M : Memo) : Prop := ∀ H K,MemoOk (sx Tryz.prog N H K L C Z (prC cl)) (evS q σ) w M
theorem memoAll_nil : MemoAll N L C Z q σ cl w [] := fun _ _ => memo_nil
theorem memoAll_cons {H1 : List (Nat × Nat × Nat × Nat)} (Y : Hy N H1 L C Z q σ) (hc : ∀ f ∈ cl,Closed f) (hm : (Tryz.prog).follows .mixedOrders=true) (hp : PreS w) {f : FuncId} {args : List AV} {v : AV} (k : Nat) (hr : memoOne (sx Tryz.prog N H1 [] L C Z (prC cl)) cs k ((f,args,v) :: M)=true) (hM : MemoAll N L C Z q σ cl w M) : MemoAll N L C Z q σ cl w ((f,args,v) :: M) := fun H K => by
 unfold memoOne at hr
 simp only [Bool.and_eq_true] at hr
 obtain ⟨h1,h2,h3⟩ := hr
 split at h1
 ·rename_i u p hu
  have e := avsB_eq h1
  cases e
  exact memo_run (S := sx Tryz.prog N H K L C Z (prC cl)) (K1 := []) (H1 := H1) (K2 := K) (H2 := H) (callD_told (K := []) (cs := cs) Y hc hm hp (hM H1 []) k) hu h2 h3 (hM H K)
 ·cases h1
theorem memoAll_drop {i : Nat} {H1 : List (Nat × Nat × Nat × Nat)} (Y : Hy N H1 L C Z q σ) (hc : ∀ f ∈ cl,Closed f) (hm : (Tryz.prog).follows .mixedOrders=true) (hp : PreS w) {k : Nat} (hr : memoOne (sx Tryz.prog N H1 [] L C Z (prC cl)) cs k (M.drop i)=true) (hM : MemoAll N L C Z q σ cl w (M.drop (i+1))) : MemoAll N L C Z q σ cl w (M.drop i) := by
 rw [← List.tail_drop] at hM
 generalize M.drop i=D at *
 match D with
 | [] => cases hr
 | (f,args,v) :: D => exact memoAll_cons Y hc hm hp k hr hM
theorem memoAll_chk {H1 : List (Nat × Nat × Nat × Nat)} (Y : Hy N H1 L C Z q σ) (hc : ∀ f ∈ cl,Closed f) (hm : (Tryz.prog).follows .mixedOrders=true) (hp : PreS w) {k : Nat} : ∀ (n : Nat) {M : Memo},memoChk (sx Tryz.prog N H1 [] L C Z (prC cl)) cs k n M=true→MemoAll N L C Z q σ cl w (M.drop n)→MemoAll N L C Z q σ cl w M
 | 0,_,_,h => h
 | n+1,M,hr,h => by
  unfold memoChk at hr
  rw [Bool.and_eq_true] at hr
  have h1 := memoAll_chk Y hc hm hp n hr.2 (by rw [List.drop_tail]; exact h)
  exact memoAll_drop (i := 0) Y hc hm hp hr.1 (by rw [Nat.zero_add,List.drop_one]; exact h1)
theorem run_toldD' {f : FuncId} {args : List AV} {vs : List Value} (k : Nat) (Y : Hy N H L C Z q σ) (hc : ∀ f ∈ cl,Closed f) (hm : (Tryz.prog).follows .mixedOrders=true) (hp : PreS w) (hM : MemoAll N L C Z q σ cl w M) (hr : (callD (sx Tryz.prog N H K L C Z (prC cl)) cs M k [] f args [] 0).map (·.1)=some (kB true))
  (hA : A2 (avOn (cOn (evS q σ) K (fun _ => none) w)) args vs) : Calls Tryz.prog f vs.toArray w fun e w' => Below w.heap.size w w'∧e=.returned (.bool true) := by
 rw [Option.map_eq_some_iff] at hr
 obtain ⟨⟨v,p⟩,h1,h2⟩ := hr
 dsimp only at h2
 subst h2
 refine (callD_told (cs := cs) Y hc hm hp (hM H K) k f args [] 0 (kB true,p) h1 (fun _ => none) w vs ⟨Below.refl _ _,(fun _ _ h => by cases h)⟩ hA (fun x hx => by cases hx) (fun x hx => by cases hx) (fun _ _ _ => rfl)).mono ?_
 rintro _ w' ⟨r,γ',rfl,hef,hv,_⟩
 exact ⟨hef.wi.bel,by rw [show r=.bool true from (asC_on (v := kB true) (c := .inl (.bool true)) rfl hv).1]⟩
end
end Go.Proofs.YtjfodeihndjpjaaGreatDoor
/- VY -/
namespace Go.Proofs.YtjfodeihndjpjaaGreatDoor
open Go.RowKit Cx
theorem den_num (t : Rat) : t*(t.den : Rat)=((t.num : Int) : Rat) := by
 conv => lhs; lhs; rw [← Rat.mkRat_self t]
 have h0 : (t.den : Rat) ≠ 0 := fun h => t.den_nz (by exact_mod_cast h)
 rw [Rat.mkRat_eq_div,Rat.div_mul_cancel h0]
theorem whole {q : Rat} (h : q.den=1) : q=((q.num : Int) : Rat) := by
 have := den_num q
 rw [h] at this
 rw [← this]
 show q=q*((1 : Nat) : Rat)
 exact (Rat.mul_one q).symm
end Go.Proofs.YtjfodeihndjpjaaGreatDoor
/- VSZ -/
namespace Go.Proofs.YtjfodeihndjpjaaGreatDoor
open Go.RowKit Cx
def szW (Z : List Nat) (I : List Bool) (z : Nat) (b : Bool) (nd : Nd) : Bool := match nd.1,nd.2 with
 | 0,[_,n,d] => (Nat.blt n (2 ^ z) && (Nat.blt 0 d && Nat.blt d (2 ^ z))) && (!b || Nat.beq d 1)
 | 1,[_] => Nat.ble 3495259 z && !b
 | 2,[a,c] => (match Z[a]?,Z[c]?,I[a]?,I[c]? with
  | some x,some y,some true,some true => Nat.ble (Nat.max x y+1) z
  | some x,some y,_,_ => Nat.ble (x+y+1) z && !b
  | _,_,_,_ => false)
 | 3,[a,c] => (match Z[a]?,Z[c]?,I[a]?,I[c]? with
  | some x,some y,some true,some true => Nat.ble (Nat.max x y+1) z
  | some x,some y,_,_ => Nat.ble (x+y+1) z && !b
  | _,_,_,_ => false)
 | 4,[a,c] => (match Z[a]?,Z[c]?,I[a]?,I[c]? with
  | some x,some y,some true,some true => Nat.ble (x+y) z
  | some x,some y,_,_ => Nat.ble (x+y) z && !b
  | _,_,_,_ => false)
 | 5,[a] => (match Z[a]?,I[a]? with
  | some x,some true => Nat.ble x z
  | some x,_ => Nat.ble x z && !b
  | _,_ => false)
 | 6,[a,c] => (match Z[a]?,Z[c]? with
  | some x,some y => Nat.ble (x+y) z && !b
  | _,_ => false)
 | 8,i :: xs => (match getsO Z xs with
  | some zs => Nat.blt i xs.length && (Nat.ble ((xs.length+1)*maxL zs+1) z || (xs.all (fun a => match I[a]? with
   | some true => true
   | _ => false) && (match xs[i]? with
   | some a => (match Z[a]? with
    | some x => Nat.ble (x+1) z
    | none => false)
   | none => false)))
  | none => false)
 | _,_ => false
def szC (Z : List Nat) (I : List Bool) : List Nd→List Nat→List Bool→Bool
 | [],[],[] => true
 | nd :: ns,z :: zs,b :: bs => (szW Z I z b nd && Nat.ble z 1000000000000) && szC Z I ns zs bs
 | _,_,_ => false
theorem szC_get {Z : List Nat} {I : List Bool} : ∀ {ns : List Nd} {zs : List Nat} {bs : List Bool} {i z : Nat},szC Z I ns zs bs=true→zs[i]? = some z→∃ nd b,ns[i]? = some nd∧bs[i]? = some b∧szW Z I z b nd=true∧z≤1000000000000
 | [],[],[],_,_,_,h => by simp at h
 | [],[],_ :: _,_,_,h,_ => by cases h
 | [],_ :: _,_,_,_,h,_ => by cases h
 | _ :: _,[],_,_,_,h,_ => by cases h
 | _ :: _,_ :: _,[],_,_,h,_ => by cases h
 | nd :: ns,z' :: zs,b :: bs,0,z,h,e => by
  have : z'=z := by simpa using e
  subst this
  unfold szC at h
  simp only [Bool.and_eq_true,Nat.ble_eq] at h
  exact ⟨nd,b,rfl,rfl,h.1.1,h.1.2⟩
 | nd :: ns,z' :: zs,b :: bs,i+1,z,h,e => by
  unfold szC at h
  rw [Bool.and_eq_true] at h
  obtain ⟨nd2,b2,g1,g2,g3⟩ := szC_get (ns := ns) (zs := zs) (bs := bs) h.2 (show zs[i]? = some z by simpa using e)
  exact ⟨nd2,b2,by simpa using g1,by simpa using g2,g3⟩
theorem szC_len {Z : List Nat} {I : List Bool} : ∀ {ns : List Nd} {zs : List Nat} {bs : List Bool},szC Z I ns zs bs=true→ns.length=zs.length
 | [],[],[],_ => rfl
 | [],[],_ :: _,h => by cases h
 | [],_ :: _,_,h => by cases h
 | _ :: _,[],_,h => by cases h
 | _ :: _,_ :: _,[],h => by cases h
 | _ :: _,_ :: _,_ :: _,h => by
  unfold szC at h
  rw [Bool.and_eq_true] at h
  exact congrArg (· + 1) (szC_len h.2)
structure QW (z : Nat) (x : Rat) : Prop where
 qs : QS z x
 wh : x.den=1
theorem QW.of {z : Nat} {n : Int} (h : n.natAbs < 2 ^ z) (hz : 0 < z) : QW z ((n : Int) : Rat) :=
 ⟨⟨by simpa using h,by
  show ((n : Int) : Rat).den < 2 ^ z
  rw [Rat.den_intCast]
  exact Nat.one_lt_two_pow (by omega)⟩,Rat.den_intCast n⟩
theorem QW.mono {k l : Nat} {x : Rat} (h : QW k x) (hk : k≤l) : QW l x := ⟨h.qs.mono hk,h.wh⟩
theorem two_max {a b x y : Nat} (h1 : a < 2 ^ x) (h2 : b < 2 ^ y) : a+b < 2 ^ (Nat.max x y+1) := by
 have e1 : 2 ^ x≤2 ^ Nat.max x y := Nat.pow_le_pow_right (by decide) (Nat.le_max_left x y)
 have e2 : 2 ^ y≤2 ^ Nat.max x y := Nat.pow_le_pow_right (by decide) (Nat.le_max_right x y)
 rw [Nat.pow_succ]
 omega
theorem QW.add {x y : Nat} {a b : Rat} (h1 : QW x a) (h2 : QW y b) : QW (Nat.max x y+1) (a+b) := by
 rw [whole h1.wh,whole h2.wh,← Rat.intCast_add]
 refine QW.of ?_ (by omega)
 have := two_max h1.qs.num h2.qs.num
 omega
theorem QW.sub {x y : Nat} {a b : Rat} (h1 : QW x a) (h2 : QW y b) : QW (Nat.max x y+1) (a - b) := by
 rw [whole h1.wh,whole h2.wh,← Rat.intCast_sub]
 refine QW.of ?_ (by omega)
 have := two_max h1.qs.num h2.qs.num
 omega
theorem QW.mul {x y : Nat} {a b : Rat} (h1 : QW x a) (h2 : QW y b) : QW (x+y) (a*b) := by
 refine ⟨h1.qs.mul h2.qs,?_⟩
 rw [whole h1.wh,whole h2.wh,← Rat.intCast_mul]
 exact Rat.den_intCast _
theorem QW.neg {x : Nat} {a : Rat} (h1 : QW x a) : QW x (-a) := ⟨h1.qs.neg,h1.wh⟩
theorem lD_one : ∀ {qs : List Rat} {m : Nat},(∀ q ∈ qs,q.den=1)→qs.foldl (fun m q => m*(q.den / Nat.gcd m q.den)) m=m
 | [],_,_ => rfl
 | q :: qs,m,h => by
  rw [List.foldl_cons,h q List.mem_cons_self,Nat.gcd_one_right,Nat.div_self (by decide),Nat.mul_one]
  exact lD_one fun p hp => h p (List.mem_cons_of_mem _ hp)
theorem QW.fac {z : Nat} {qs : List Rat} {x : Rat} (hx : QS z x) (h : x ∈ qs) (hw : ∀ y ∈ qs,y.den=1) : QS (z+1) (x*fac qs) := by
 have hl : lD qs=1 := lD_one hw
 refine ⟨?_,?_⟩
 ·rw [fac_abs h,hl,hw x h,Nat.div_self (by decide),Nat.mul_one]
  exact Nat.lt_of_le_of_lt (Nat.div_le_self _ _) (Nat.lt_of_lt_of_le hx.num (Nat.pow_le_pow_right (by decide) (by omega)))
 ·rw [fac_den h]
  exact Nat.one_lt_two_pow (by omega)
theorem ten_three : ∀ n : Nat,10 ^ n≤2 ^ ((10*n+2) / 3)
 | 0 => by decide
 | 1 => by decide
 | 2 => by decide
 | n+3 => by
  have h := ten_three n
  have e : (10*(n+3)+2) / 3=(10*n+2) / 3+10 := by omega
  rw [e,Nat.pow_add,Nat.pow_add]
  exact Nat.mul_le_mul h (by decide)
theorem QS.rd3 (l : List UInt8) : QS ((10*l.length+2) / 3+5) (Cx.rd l) := by
 have key : ∀ {m : List UInt8},digs m=true→dv m < 2 ^ ((10*m.length+2) / 3) := fun {m} h => Nat.lt_of_lt_of_le (dv_lt (digs_all h)) (ten_three _)
 unfold Cx.rd
 split
 ·rename_i h
  rw [Bool.and_eq_true] at h
  have h1 := key h.1
  have h2 := key h.2
  have h3 := up_len (tailOf l)
  have h4 := low_len (tailOf l)
  have h5 := tail_len l
  apply QS.mkr
  ·rw [sg_abs]; exact Nat.lt_of_lt_of_le h1 (Nat.pow_le_pow_right (by decide) (by omega))
  ·exact Nat.lt_of_lt_of_le h2 (Nat.pow_le_pow_right (by decide) (by omega))
 ·exact QS.zero.mono (by omega)
section
variable {N : List Nd} {Z : List Nat} {I : List Bool} {q : Nat→Rat}
theorem sizes_okW {σ : Nat→ByteArray} (hσ : ∀ j,(σ j).size≤1048576) (hw : wfB 0 N=true) (hz : szC Z I N Z I=true) (hq : ∀ (a : Nat) nd,N[a]? = some nd→q a=valN σ q nd) (h0 : ∀ a,N.length≤a→q a=0) : (∀ (a : Nat) z,Z[a]? = some z→QS z (q a))∧∀ a,QS 1000000000000 (q a) := by
 have h2 : ∀ (a : Nat) z,Z[a]? = some z→QS z (q a)∧(I[a]? = some true→(q a).den=1) := by
  intro a
  induction a using Nat.strongRecOn with
  | ind a ih =>
   intro z hz'
   obtain ⟨nd,b,hn,hb,hs,_⟩ := szC_get hz hz'
   have hwf := wfB_get hw hn
   rw [Nat.zero_add] at hwf
   rw [hq a nd hn,hb]
   obtain ⟨op,xs⟩ := nd
   unfold szW at hs
   unfold valN
   unfold wfN at hwf
   dsimp only at hs hwf ⊢
   have W : ∀ {c x},c < a→Z[c]? = some x→I[c]? = some true→QW x (q c) := fun hc hx hi => ⟨(ih _ hc _ hx).1,(ih _ hc _ hx).2 hi⟩
   have no : ∀ {v : Rat},b=false→(some b=some true→v.den=1) := fun e h => by rw [e] at h; cases h
   split at hs
   ·rename_i s n d
    simp only [Bool.and_eq_true] at hs
    obtain ⟨⟨h1,h2,h3⟩,h4⟩ := hs
    refine ⟨QS.const (by simpa [Nat.blt_eq] using h1) (by simpa [Nat.blt_eq] using h2) (by simpa [Nat.blt_eq] using h3),fun e => ?_⟩
    rw [show b=true from Option.some.inj e] at h4
    have hd : d=1 := by simpa using h4
    subst hd
    show (if s=0 then mkRat (n : Int) 1 else mkRat (-(n : Int)) 1).den=1
    split
    ·rw [Rat.mkRat_one]
     exact Rat.den_intCast _
    ·rw [Rat.mkRat_one]
     exact Rat.den_intCast _
   ·rename_i j
    simp only [Bool.and_eq_true,Nat.ble_eq,Bool.not_eq_true'] at hs
    exact ⟨QS.mono (QS.rd3 _) (by have := hσ j; rw [str_len]; omega),no hs.2⟩
   ·simp only [List.all_cons,List.all_nil,Bool.and_true,Bool.and_eq_true] at hwf
    have l1 := (by simpa [Nat.blt_eq] using hwf.1 : _ < a)
    have l2 := (by simpa [Nat.blt_eq] using hwf.2 : _ < a)
    split at hs
    ·rename_i x y hx hy i1 i2
     rw [Nat.ble_eq] at hs
     have := ((W l1 hx i1).add (W l2 hy i2)).mono hs
     exact ⟨this.qs,fun _ => this.wh⟩
    ·rename_i x y hx hy _
     simp only [Bool.and_eq_true,Nat.ble_eq,Bool.not_eq_true'] at hs
     exact ⟨((ih _ l1 x hx).1.add (ih _ l2 y hy).1).mono hs.1,no hs.2⟩
    ·cases hs
   ·simp only [List.all_cons,List.all_nil,Bool.and_true,Bool.and_eq_true] at hwf
    have l1 := (by simpa [Nat.blt_eq] using hwf.1 : _ < a)
    have l2 := (by simpa [Nat.blt_eq] using hwf.2 : _ < a)
    split at hs
    ·rename_i x y hx hy i1 i2
     rw [Nat.ble_eq] at hs
     have := ((W l1 hx i1).sub (W l2 hy i2)).mono hs
     exact ⟨this.qs,fun _ => this.wh⟩
    ·rename_i x y hx hy _
     simp only [Bool.and_eq_true,Nat.ble_eq,Bool.not_eq_true'] at hs
     exact ⟨((ih _ l1 x hx).1.sub (ih _ l2 y hy).1).mono hs.1,no hs.2⟩
    ·cases hs
   ·simp only [List.all_cons,List.all_nil,Bool.and_true,Bool.and_eq_true] at hwf
    have l1 := (by simpa [Nat.blt_eq] using hwf.1 : _ < a)
    have l2 := (by simpa [Nat.blt_eq] using hwf.2 : _ < a)
    split at hs
    ·rename_i x y hx hy i1 i2
     rw [Nat.ble_eq] at hs
     have := ((W l1 hx i1).mul (W l2 hy i2)).mono hs
     exact ⟨this.qs,fun _ => this.wh⟩
    ·rename_i x y hx hy _
     simp only [Bool.and_eq_true,Nat.ble_eq,Bool.not_eq_true'] at hs
     exact ⟨((ih _ l1 x hx).1.mul (ih _ l2 y hy).1).mono hs.1,no hs.2⟩
    ·cases hs
   ·simp only [List.all_cons,List.all_nil,Bool.and_true] at hwf
    have l1 := (by simpa [Nat.blt_eq] using hwf : _ < a)
    split at hs
    ·rename_i x hx i1
     rw [Nat.ble_eq] at hs
     have := (W l1 hx i1).neg.mono hs
     exact ⟨this.qs,fun _ => this.wh⟩
    ·rename_i x hx _
     simp only [Bool.and_eq_true,Nat.ble_eq,Bool.not_eq_true'] at hs
     exact ⟨((ih _ l1 x hx).1.neg).mono hs.1,no hs.2⟩
    ·cases hs
   ·simp only [List.all_cons,List.all_nil,Bool.and_true,Bool.and_eq_true] at hwf
    split at hs
    ·rename_i x y hx hy
     simp only [Bool.and_eq_true,Nat.ble_eq,Bool.not_eq_true'] at hs
     exact ⟨((ih _ (by simpa [Nat.blt_eq] using hwf.1) x hx).1.div (ih _ (by simpa [Nat.blt_eq] using hwf.2) y hy).1).mono hs.1,no hs.2⟩
    ·cases hs
   ·rename_i i ys
    split at hs
    ·rename_i zs hzs
     rw [Bool.and_eq_true] at hs
     have hi : i < ys.length := by simpa [Nat.blt_eq] using hs.1
     have hwf' : ys.all (Nat.blt · a)=true := hwf
     rw [List.all_eq_true] at hwf'
     have hlt : ∀ c ∈ ys,c < a := fun c hc => by simpa [Nat.blt_eq] using hwf' c hc
     have hm : q ys[i] ∈ ys.map q := List.mem_map_of_mem (List.getElem_mem hi)
     have hg : (ys.map q).getD i 0=q ys[i] := by
      rw [List.getD_eq_getElem?_getD,List.getElem?_map,List.getElem?_eq_getElem hi]
      rfl
     show QS z ((ys.map q).getD i 0*fac (ys.map q))∧(some b=some true→((ys.map q).getD i 0*fac (ys.map q)).den=1)
     rw [hg]
     refine ⟨?_,fun _ => fac_den hm⟩
     rcases Bool.or_eq_true _ _ ▸ hs.2 with h3 | h3
     ·rw [Nat.ble_eq] at h3
      have hall : ∀ y ∈ ys.map q,QS (maxL zs) y := fun y hy => by
       obtain ⟨c,hc,rfl⟩ := List.mem_map.1 hy
       obtain ⟨z',hm',hz2⟩ := getsO_get hzs c hc
       exact (ih c (hlt c hc) z' hz2).1.mono (le_maxL z' hm')
      have := QS.facN hall (x := q ys[i]) hm
      rw [List.length_map] at this
      exact this.mono h3
     ·rw [Bool.and_eq_true,List.all_eq_true] at h3
      obtain ⟨h4,h5⟩ := h3
      have hwh : ∀ y ∈ ys.map q,y.den=1 := fun y hy => by
       obtain ⟨c,hc,rfl⟩ := List.mem_map.1 hy
       obtain ⟨z',_,hz2⟩ := getsO_get hzs c hc
       refine (ih c (hlt c hc) z' hz2).2 ?_
       have := h4 c hc
       split at this
       ·assumption
       ·cases this
      rw [List.getElem?_eq_getElem hi] at h5
      dsimp only at h5
      split at h5
      ·rename_i x hx
       rw [Nat.ble_eq] at h5
       exact (QW.fac (ih _ (hlt _ (List.getElem_mem hi)) x hx).1 hm hwh).mono h5
      ·cases h5
    ·cases hs
   ·cases hs
 refine ⟨fun a z h => (h2 a z h).1,fun a => ?_⟩
 have hl := szC_len hz
 by_cases ha : a < Z.length
 ·obtain ⟨nd,b,_,_,_,hle⟩ := szC_get hz (List.getElem?_eq_getElem ha)
  exact (h2 a _ (List.getElem?_eq_getElem ha)).1.mono hle
 ·rw [h0 a (by omega)]
  exact QS.zero.mono (by decide)
theorem hy_ofW {L C : List (List Nat × Nat)} {σ : Nat→ByteArray} {H : List (Nat × Nat × Nat × Nat)} (hσ : ∀ j,(σ j).size≤1048576) (hw : wfB 0 N=true) (hz : szC Z I N Z I=true) (hl : litB N L=true) (hcn : canB N C=true) (hq : ∀ (a : Nat) nd,N[a]? = some nd→q a=valN σ q nd) (h0 : ∀ a,N.length≤a→q a=0) (hH : hAll q H) : Hy N H L C Z q σ where
 nat := hq
 qs := (sizes_okW hσ hw hz hq h0).2
 zs := (sizes_okW hσ hw hz hq h0).1
 par := hσ
 lit := fun s b h => lit_rd hl hq h
 k0 := fun a r h => kn_at hH h
 k1 := fun a r h => kn_at hH h
 k2 := fun a r h => kn_at hH h
 k3 := fun a b r h => kn_at hH h
 k4 := fun l a b r h1 h2 => by
  have h3 : Nat.beq 1 r=true ↔ q a=q b := kn_at hH h2
  rw [h3,← can_tx hcn hq h1]
  exact ⟨fun e => by rw [e],fun e => tellS_inj (bytesN_inj e)⟩
 k6 := fun a b r h => kn_at hH h
 k5 := fun a r h => kn_at hH h
end
end Go.Proofs.YtjfodeihndjpjaaGreatDoor
/- CFprojected -/
namespace Go.Proofs.YtjfodeihndjpjaaGreatDoor
open Go.RowKit Cx
theorem closed_projected : Closed 43 :=
 closed_told (N := [(0,[0,1,1]),(0,[0,0,1]),(8,[0,0,1,1]),(8,[1,0,1,1]),(8,[2,0,1,1]),(8,[0,1,0,0]),(8,[1,1,0,0]),(8,[2,1,0,0]),(4,[3,7]),(4,[4,6]),(3,[8,9]),(4,[4,5]),(4,[2,7]),(3,[11,12]),(4,[2,6]),(4,[3,5]),(3,[14,15]),(8,[0,10,13,16]),(8,[1,10,13,16]),(8,[2,10,13,16]),(8,[0,1,0,1]),(8,[1,1,0,1]),(8,[2,1,0,1]),(4,[3,22]),(4,[4,21]),(3,[23,24]),(4,[4,20]),(4,[2,22]),(3,[26,27]),(4,[2,21]),(4,[3,20]),(3,[29,30]),(8,[0,0,0,1]),(8,[1,0,0,1]),(8,[2,0,0,1]),(4,[3,34]),(4,[4,33]),(3,[35,36]),(4,[4,32]),(4,[2,34]),(3,[38,39]),(4,[2,33]),(4,[3,32]),(3,[41,42]),(4,[21,34]),(4,[22,33]),(3,[44,45]),(4,[22,32]),(4,[20,34]),(3,[47,48]),(4,[20,33]),(4,[21,32]),(3,[50,51]),(4,[32,25]),(2,[1,53]),(4,[33,28]),(2,[54,55]),(4,[34,31]),(2,[56,57]),(4,[33,22]),(4,[34,21]),(3,[59,60]),(4,[34,20]),(4,[32,22]),(3,[62,63]),(4,[32,21]),(4,[33,20]),(3,[65,66]),(4,[61,25]),(2,[1,68]),(4,[64,28]),(2,[69,70]),(4,[67,31]),(2,[71,72]),(4,[37,25]),(2,[1,74]),(4,[40,28]),(2,[75,76]),(4,[43,31]),(2,[77,78]),(4,[2,73]),(4,[3,73]),(4,[4,73]),(5,[79]),(4,[20,83]),(4,[21,83]),(4,[22,83]),(2,[80,84]),(2,[81,85]),(2,[82,86]),(8,[0,87,88,89]),(8,[1,87,88,89]),(8,[2,87,88,89]),(0,[0,2,1]),(8,[0,0,93,1]),(8,[1,0,93,1]),(8,[2,0,93,1]),(4,[3,96]),(4,[4,95]),(3,[97,98]),(4,[4,94]),(4,[2,96]),(3,[100,101]),(4,[2,95]),(4,[3,94]),(3,[103,104]),(4,[21,96]),(4,[22,95]),(3,[106,107]),(4,[22,94]),(4,[20,96]),(3,[109,110]),(4,[20,95]),(4,[21,94]),(3,[112,113]),(4,[33,96]),(4,[34,95]),(3,[115,116]),(4,[34,94]),(4,[32,96]),(3,[118,119]),(4,[32,95]),(4,[33,94]),(3,[121,122]),(4,[94,25]),(2,[1,124]),(4,[95,28]),(2,[125,126]),(4,[96,31]),(2,[127,128]),(4,[95,22]),(4,[96,21]),(3,[130,131]),(4,[96,20]),(4,[94,22]),(3,[133,134]),(4,[94,21]),(4,[95,20]),(3,[136,137]),(4,[132,25]),(2,[1,139]),(4,[135,28]),(2,[140,141]),(4,[138,31]),(2,[142,143]),(4,[99,25]),(2,[1,145]),(4,[102,28]),(2,[146,147]),(4,[105,31]),(2,[148,149]),(6,[79,73]),(6,[144,150]),(4,[151,152]),(0,[1,1,1]),(0,[0,1,2])]) (H := [(0,0,0,0),(0,1,0,1),(0,10,0,1),(0,13,0,0),(0,25,0,1),(0,28,0,1),(0,31,0,0),(0,37,0,1),(0,40,0,1),(0,43,0,0),(0,46,0,1),(0,49,0,1),(0,52,0,0),(0,58,0,1),(0,99,0,1),(0,102,0,1),(0,105,0,0),(0,108,0,1),(0,111,0,1),(0,114,0,0),(0,117,0,1),(0,120,0,1),(0,123,0,0),(0,129,0,1),(4,17,1,1),(4,18,0,1),(4,19,154,1),(4,90,0,1),(4,91,154,1),(4,92,1,1),(4,153,155,1)]) (K := []) (L := [([49],0),([48],1),([50],93),([45,49],154),([49,47,50],155)]) (C := [([48],1),([49],0),([45,49],154),([49,47,50],155)]) (Z := [2,2,9,9,9,9,9,9,18,18,37,18,18,37,18,18,37,149,149,149,9,9,9,18,18,37,18,18,37,18,18,37,9,9,9,18,18,37,18,18,37,18,18,37,18,18,37,18,18,37,18,18,37,46,49,46,96,46,143,18,18,37,18,18,37,18,18,37,74,77,74,152,74,227,74,77,74,152,74,227,236,236,236,227,236,236,236,473,473,473,1893,1893,1893,3,13,13,13,22,22,45,22,22,45,22,22,45,22,22,45,22,22,45,22,22,45,22,22,45,22,22,45,22,22,45,50,53,50,104,50,155,22,22,45,22,22,45,22,22,45,82,85,82,168,82,251,82,85,82,168,82,251,454,502,956,2,3]) (cl := []) 6 (fun _ h => by cases h) (by kernel_rfl) (by kernel_rfl) (by kernel_rfl) (by kernel_rfl) (by kernel_rfl) (by kernel_rfl) (by kernel_rfl)
end Go.Proofs.YtjfodeihndjpjaaGreatDoor
/- MPK -/
namespace Go.Proofs.YtjfodeihndjpjaaGreatDoor
open Go.RowKit Cx
def pK_N : List Nd := [(1,[9]),(1,[10]),(1,[11]),(1,[12]),(1,[13]),(1,[14]),(1,[15]),(4,[6,0]),(1,[16]),(4,[8,3]),(2,[7,9]),(4,[6,1]),(4,[8,4]),(2,[11,12]),(4,[6,2]),(4,[8,5]),(2,[14,15]),(1,[17]),(4,[17,0]),(1,[18]),(4,[19,3]),(2,[18,20]),(4,[17,1]),(4,[19,4]),(2,[22,23]),(4,[17,2]),(4,[19,5]),(2,[25,26]),(4,[0,0]),(4,[1,1]),(2,[28,29]),(4,[2,2]),(2,[30,31]),(1,[0]),(1,[1]),(1,[2]),(1,[3]),(1,[4]),(1,[5]),(1,[6]),(1,[7]),(1,[8]),(8,[0,33,34,35,36,37,38,39,40,41]),(8,[1,33,34,35,36,37,38,39,40,41]),(8,[2,33,34,35,36,37,38,39,40,41]),(8,[3,33,34,35,36,37,38,39,40,41]),(8,[4,33,34,35,36,37,38,39,40,41]),(8,[5,33,34,35,36,37,38,39,40,41]),(8,[6,33,34,35,36,37,38,39,40,41]),(8,[7,33,34,35,36,37,38,39,40,41]),(8,[8,33,34,35,36,37,38,39,40,41]),(4,[46,50]),(4,[47,49]),(3,[51,52]),(4,[47,48]),(4,[45,50]),(3,[54,55]),(4,[45,49]),(4,[46,48]),(3,[57,58]),(4,[42,53]),(0,[0,0,1]),(2,[61,60]),(4,[43,56]),(2,[62,63]),(4,[44,59]),(2,[64,65]),(8,[0,0,1,2]),(8,[1,0,1,2]),(8,[2,0,1,2]),(4,[3,3]),(4,[4,4]),(2,[70,71]),(4,[5,5]),(2,[72,73]),(4,[42,67]),(2,[61,75]),(4,[43,68]),(2,[76,77]),(4,[44,69]),(2,[78,79]),(4,[45,67]),(2,[61,81]),(4,[46,68]),(2,[82,83]),(4,[47,69]),(2,[84,85]),(4,[48,67]),(2,[61,87]),(4,[49,68]),(2,[88,89]),(4,[50,69]),(2,[90,91]),(8,[0,80,86,92]),(8,[1,80,86,92]),(8,[2,80,86,92]),(8,[0,3,4,5]),(8,[1,3,4,5]),(8,[2,3,4,5]),(4,[68,98]),(4,[69,97]),(3,[99,100]),(4,[69,96]),(4,[67,98]),(3,[102,103]),(4,[67,97]),(4,[68,96]),(3,[105,106]),(4,[101,101]),(4,[104,104]),(2,[108,109]),(4,[107,107]),(2,[110,111]),(4,[42,96]),(2,[61,113]),(4,[43,97]),(2,[114,115]),(4,[44,98]),(2,[116,117]),(4,[45,96]),(2,[61,119]),(4,[46,97]),(2,[120,121]),(4,[47,98]),(2,[122,123]),(4,[48,96]),(2,[61,125]),(4,[49,97]),(2,[126,127]),(4,[50,98]),(2,[128,129]),(8,[0,118,124,130]),(8,[1,118,124,130]),(8,[2,118,124,130]),(4,[10,10]),(4,[13,13]),(2,[134,135]),(4,[16,16]),(2,[136,137]),(8,[0,10,13,16]),(8,[1,10,13,16]),(8,[2,10,13,16]),(4,[42,139]),(2,[61,142]),(4,[43,140]),(2,[143,144]),(4,[44,141]),(2,[145,146]),(4,[45,139]),(2,[61,148]),(4,[46,140]),(2,[149,150]),(4,[47,141]),(2,[151,152]),(4,[48,139]),(2,[61,154]),(4,[49,140]),(2,[155,156]),(4,[50,141]),(2,[157,158]),(8,[0,147,153,159]),(8,[1,147,153,159]),(8,[2,147,153,159]),(4,[21,21]),(4,[24,24]),(2,[163,164]),(4,[27,27]),(2,[165,166]),(8,[0,21,24,27]),(8,[1,21,24,27]),(8,[2,21,24,27]),(4,[42,168]),(2,[61,171]),(4,[43,169]),(2,[172,173]),(4,[44,170]),(2,[174,175]),(4,[45,168]),(2,[61,177]),(4,[46,169]),(2,[178,179]),(4,[47,170]),(2,[180,181]),(4,[48,168]),(2,[61,183]),(4,[49,169]),(2,[184,185]),(4,[50,170]),(2,[186,187]),(8,[0,176,182,188]),(8,[1,176,182,188]),(8,[2,176,182,188]),(4,[93,93]),(4,[94,94]),(2,[192,193]),(4,[95,95]),(2,[194,195]),(8,[0,93,94,95]),(8,[1,93,94,95]),(8,[2,93,94,95]),(4,[131,131]),(4,[132,132]),(2,[200,201]),(4,[133,133]),(2,[202,203]),(8,[0,131,132,133]),(8,[1,131,132,133]),(8,[2,131,132,133]),(4,[198,207]),(4,[199,206]),(3,[208,209]),(4,[199,205]),(4,[197,207]),(3,[211,212]),(4,[197,206]),(4,[198,205]),(3,[214,215]),(4,[210,210]),(4,[213,213]),(2,[217,218]),(4,[216,216]),(2,[219,220]),(1,[19]),(1,[20]),(1,[21]),(4,[222,222]),(4,[223,223]),(2,[225,226]),(4,[224,224]),(2,[227,228]),(8,[0,222,223,224]),(8,[1,222,223,224]),(8,[2,222,223,224]),(4,[67,230]),(2,[61,233]),(4,[68,231]),(2,[234,235]),(4,[69,232]),(2,[236,237]),(4,[49,44]),(4,[50,43]),(3,[239,240]),(4,[50,42]),(4,[48,44]),(3,[242,243]),(4,[48,43]),(4,[49,42]),(3,[245,246]),(4,[43,47]),(4,[44,46]),(3,[248,249]),(4,[44,45]),(4,[42,47]),(3,[251,252]),(4,[42,46]),(4,[43,45]),(3,[254,255]),(4,[53,230]),(2,[61,257]),(4,[56,231]),(2,[258,259]),(4,[59,232]),(2,[260,261]),(4,[241,230]),(2,[61,263]),(4,[244,231]),(2,[264,265]),(4,[247,232]),(2,[266,267]),(4,[250,230]),(2,[61,269]),(4,[253,231]),(2,[270,271]),(4,[256,232]),(2,[272,273]),(8,[0,262,268,274]),(8,[1,262,268,274]),(8,[2,262,268,274]),(4,[275,275]),(4,[276,276]),(2,[278,279]),(4,[277,277]),(2,[280,281]),(8,[0,275,276,277]),(8,[1,275,276,277]),(8,[2,275,276,277]),(4,[197,283]),(2,[61,286]),(4,[198,284]),(2,[287,288]),(4,[199,285]),(2,[289,290]),(4,[68,141]),(4,[69,140]),(3,[292,293]),(4,[69,139]),(4,[67,141]),(3,[295,296]),(4,[67,140]),(4,[68,139]),(3,[298,299]),(4,[294,294]),(4,[297,297]),(2,[301,302]),(4,[300,300]),(2,[303,304]),(4,[160,160]),(4,[161,161]),(2,[306,307]),(4,[162,162]),(2,[308,309]),(8,[0,160,161,162]),(8,[1,160,161,162]),(8,[2,160,161,162]),(4,[198,313]),(4,[199,312]),(3,[314,315]),(4,[199,311]),(4,[197,313]),(3,[317,318]),(4,[197,312]),(4,[198,311]),(3,[320,321]),(4,[316,316]),(4,[319,319]),(2,[323,324]),(4,[322,322]),(2,[325,326]),(4,[97,141]),(4,[98,140]),(3,[328,329]),(4,[98,139]),(4,[96,141]),(3,[331,332]),(4,[96,140]),(4,[97,139]),(3,[334,335]),(4,[330,330]),(4,[333,333]),(2,[337,338]),(4,[336,336]),(2,[339,340]),(4,[206,313]),(4,[207,312]),(3,[342,343]),(4,[207,311]),(4,[205,313]),(3,[345,346]),(4,[205,312]),(4,[206,311]),(3,[348,349]),(4,[344,344]),(4,[347,347]),(2,[351,352]),(4,[350,350]),(2,[353,354]),(4,[68,170]),(4,[69,169]),(3,[356,357]),(4,[69,168]),(4,[67,170]),(3,[359,360]),(4,[67,169]),(4,[68,168]),(3,[362,363]),(4,[358,358]),(4,[361,361]),(2,[365,366]),(4,[364,364]),(2,[367,368]),(4,[189,189]),(4,[190,190]),(2,[370,371]),(4,[191,191]),(2,[372,373]),(8,[0,189,190,191]),(8,[1,189,190,191]),(8,[2,189,190,191]),(4,[198,377]),(4,[199,376]),(3,[378,379]),(4,[199,375]),(4,[197,377]),(3,[381,382]),(4,[197,376]),(4,[198,375]),(3,[384,385]),(4,[380,380]),(4,[383,383]),(2,[387,388]),(4,[386,386]),(2,[389,390]),(4,[97,170]),(4,[98,169]),(3,[392,393]),(4,[98,168]),(4,[96,170]),(3,[395,396]),(4,[96,169]),(4,[97,168]),(3,[398,399]),(4,[394,394]),(4,[397,397]),(2,[401,402]),(4,[400,400]),(2,[403,404]),(4,[206,377]),(4,[207,376]),(3,[406,407]),(4,[207,375]),(4,[205,377]),(3,[409,410]),(4,[205,376]),(4,[206,375]),(3,[412,413]),(4,[408,408]),(4,[411,411]),(2,[415,416]),(4,[414,414]),(2,[417,418]),(4,[140,170]),(4,[141,169]),(3,[420,421]),(4,[141,168]),(4,[139,170]),(3,[423,424]),(4,[139,169]),(4,[140,168]),(3,[426,427]),(4,[422,422]),(4,[425,425]),(2,[429,430]),(4,[428,428]),(2,[431,432]),(4,[312,377]),(4,[313,376]),(3,[434,435]),(4,[313,375]),(4,[311,377]),(3,[437,438]),(4,[311,376]),(4,[312,375]),(3,[440,441]),(4,[436,436]),(4,[439,439]),(2,[443,444]),(4,[442,442]),(2,[445,446]),(4,[139,101]),(2,[61,448]),(4,[140,104]),(2,[449,450]),(4,[141,107]),(2,[451,452]),(4,[168,101]),(2,[61,454]),(4,[169,104]),(2,[455,456]),(4,[170,107]),(2,[457,458]),(4,[140,98]),(4,[141,97]),(3,[460,461]),(4,[141,96]),(4,[139,98]),(3,[463,464]),(4,[139,97]),(4,[140,96]),(3,[466,467]),(4,[462,101]),(2,[61,469]),(4,[465,104]),(2,[470,471]),(4,[468,107]),(2,[472,473]),(4,[294,101]),(2,[61,475]),(4,[297,104]),(2,[476,477]),(4,[300,107]),(2,[478,479]),(4,[169,98]),(4,[170,97]),(3,[481,482]),(4,[170,96]),(4,[168,98]),(3,[484,485]),(4,[168,97]),(4,[169,96]),(3,[487,488]),(4,[483,101]),(2,[61,490]),(4,[486,104]),(2,[491,492]),(4,[489,107]),(2,[493,494]),(4,[358,101]),(2,[61,496]),(4,[361,104]),(2,[497,498]),(4,[364,107]),(2,[499,500]),(6,[480,474]),(6,[495,501]),(4,[502,503]),(4,[311,210]),(2,[61,505]),(4,[312,213]),(2,[506,507]),(4,[313,216]),(2,[508,509]),(4,[375,210]),(2,[61,511]),(4,[376,213]),(2,[512,513]),(4,[377,216]),(2,[514,515]),(4,[312,207]),(4,[313,206]),(3,[517,518]),(4,[313,205]),(4,[311,207]),(3,[520,521]),(4,[311,206]),(4,[312,205]),(3,[523,524]),(4,[519,210]),(2,[61,526]),(4,[522,213]),(2,[527,528]),(4,[525,216]),(2,[529,530]),(4,[316,210]),(2,[61,532]),(4,[319,213]),(2,[533,534]),(4,[322,216]),(2,[535,536]),(4,[376,207]),(4,[377,206]),(3,[538,539]),(4,[377,205]),(4,[375,207]),(3,[541,542]),(4,[375,206]),(4,[376,205]),(3,[544,545]),(4,[540,210]),(2,[61,547]),(4,[543,213]),(2,[548,549]),(4,[546,216]),(2,[550,551]),(4,[380,210]),(2,[61,553]),(4,[383,213]),(2,[554,555]),(4,[386,216]),(2,[556,557]),(6,[537,531]),(6,[552,558]),(4,[559,560])]
def pK_L : List (List Nat × Nat) := []
def pK_C : List (List Nat × Nat) := []
def pK_Z : List Nat := [3495259,3495259,3495259,3495259,3495259,3495259,3495259,6990518,3495259,6990518,13981037,6990518,6990518,13981037,6990518,6990518,13981037,3495259,6990518,3495259,6990518,13981037,6990518,6990518,13981037,6990518,6990518,13981037,6990518,6990518,13981037,6990518,20971556,3495259,3495259,3495259,3495259,3495259,3495259,3495259,3495259,3495259,34952591,34952591,34952591,34952591,34952591,34952591,34952591,34952591,34952591,69905182,69905182,69905183,69905182,69905182,69905183,69905182,69905182,69905183,104857774,2,104857775,104857774,104857776,104857774,104857777,13981037,13981037,13981037,6990518,6990518,13981037,6990518,20971556,48933628,48933629,48933628,48933630,48933628,48933631,48933628,48933629,48933628,48933630,48933628,48933631,48933628,48933629,48933628,48933630,48933628,48933631,48933632,48933632,48933632,13981037,13981037,13981037,27962074,27962074,27962075,27962074,27962074,27962075,27962074,27962074,27962075,55924150,55924150,55924151,55924150,55924152,48933628,48933629,48933628,48933630,48933628,48933631,48933628,48933629,48933628,48933630,48933628,48933631,48933628,48933629,48933628,48933630,48933628,48933631,48933632,48933632,48933632,27962074,27962074,55924149,27962074,83886224,55924149,55924149,55924149,90876740,90876741,90876740,90876742,90876740,90876743,90876740,90876741,90876740,90876742,90876740,90876743,90876740,90876741,90876740,90876742,90876740,90876743,90876744,90876744,90876744,27962074,27962074,55924149,27962074,83886224,55924149,55924149,55924149,90876740,90876741,90876740,90876742,90876740,90876743,90876740,90876741,90876740,90876742,90876740,90876743,90876740,90876741,90876740,90876742,90876740,90876743,90876744,90876744,90876744,97867264,97867264,97867265,97867264,97867266,48933633,48933633,48933633,97867264,97867264,97867265,97867264,97867266,48933633,48933633,48933633,97867266,97867266,97867267,97867266,97867266,97867267,97867266,97867266,97867267,195734534,195734534,195734535,195734534,195734536,3495259,3495259,3495259,6990518,6990518,13981037,6990518,20971556,13981037,13981037,13981037,27962074,27962075,27962074,27962076,27962074,27962077,69905182,69905182,69905183,69905182,69905182,69905183,69905182,69905182,69905183,69905182,69905182,69905183,69905182,69905182,69905183,69905182,69905182,69905183,83886220,83886221,83886220,83886222,83886220,83886223,83886220,83886221,83886220,83886222,83886220,83886223,83886220,83886221,83886220,83886222,83886220,83886223,83886224,83886224,83886224,167772448,167772448,167772449,167772448,167772450,83886225,83886225,83886225,132819858,132819859,132819858,132819860,132819858,132819861,69905186,69905186,69905187,69905186,69905186,69905187,69905186,69905186,69905187,139810374,139810374,139810375,139810374,139810376,181753488,181753488,181753489,181753488,181753490,90876745,90876745,90876745,139810378,139810378,139810379,139810378,139810378,139810379,139810378,139810378,139810379,279620758,279620758,279620759,279620758,279620760,69905186,69905186,69905187,69905186,69905186,69905187,69905186,69905186,69905187,139810374,139810374,139810375,139810374,139810376,139810378,139810378,139810379,139810378,139810378,139810379,139810378,139810378,139810379,279620758,279620758,279620759,279620758,279620760,69905186,69905186,69905187,69905186,69905186,69905187,69905186,69905186,69905187,139810374,139810374,139810375,139810374,139810376,181753488,181753488,181753489,181753488,181753490,90876745,90876745,90876745,139810378,139810378,139810379,139810378,139810378,139810379,139810378,139810378,139810379,279620758,279620758,279620759,279620758,279620760,69905186,69905186,69905187,69905186,69905186,69905187,69905186,69905186,69905187,139810374,139810374,139810375,139810374,139810376,139810378,139810378,139810379,139810378,139810378,139810379,139810378,139810378,139810379,279620758,279620758,279620759,279620758,279620760,111848298,111848298,111848299,111848298,111848298,111848299,111848298,111848298,111848299,223696598,223696598,223696599,223696598,223696600,181753490,181753490,181753491,181753490,181753490,181753491,181753490,181753490,181753491,363506982,363506982,363506983,363506982,363506984,83886224,83886225,83886224,83886226,83886224,83886227,83886224,83886225,83886224,83886226,83886224,83886227,69905186,69905186,69905187,69905186,69905186,69905187,69905186,69905186,69905187,97867262,97867263,97867262,97867264,97867262,97867265,97867262,97867263,97867262,97867264,97867262,97867265,69905186,69905186,69905187,69905186,69905186,69905187,69905186,69905186,69905187,97867262,97867263,97867262,97867264,97867262,97867265,97867262,97867263,97867262,97867264,97867262,97867265,195734530,195734530,391469060,188744012,188744013,188744012,188744014,188744012,188744015,188744012,188744013,188744012,188744014,188744012,188744015,139810378,139810378,139810379,139810378,139810378,139810379,139810378,139810378,139810379,237677646,237677647,237677646,237677648,237677646,237677649,237677646,237677647,237677646,237677648,237677646,237677649,139810378,139810378,139810379,139810378,139810378,139810379,139810378,139810378,139810379,237677646,237677647,237677646,237677648,237677646,237677649,237677646,237677647,237677646,237677648,237677646,237677649,475355298,475355298,950710596]
abbrev pK_Q (q : Nat→Rat) (σ : Nat→ByteArray) : Prop := ∀ (a : Nat) nd,pK_N[a]? = some nd→q a=valN σ q nd
variable {q : Nat→Rat} {σ : Nat→ByteArray}
def pK_I : List Bool := [false,false,false,false,false,false,false,false,false,false,false,false,false,false,false,false,false,false,false,false,false,false,false,false,false,false,false,false,false,false,false,false,false,false,false,false,false,false,false,false,false,false,true,true,true,true,true,true,true,true,true,true,true,true,true,true,true,true,true,true,true,true,true,true,true,true,true,true,true,true,false,false,false,false,false,true,true,true,true,true,true,true,true,true,true,true,true,true,true,true,true,true,true,true,true,true,true,true,true,true,true,true,true,true,true,true,true,true,true,true,true,true,true,true,true,true,true,true,true,true,true,true,true,true,true,true,true,true,true,true,true,true,true,true,false,false,false,false,false,true,true,true,true,true,true,true,true,true,true,true,true,true,true,true,true,true,true,true,true,true,true,true,true,false,false,false,false,false,true,true,true,true,true,true,true,true,true,true,true,true,true,true,true,true,true,true,true,true,true,true,true,true,true,true,true,true,true,true,true,true,true,true,true,true,true,true,true,true,true,true,true,true,true,true,true,true,true,true,true,true,true,true,false,false,false,false,false,false,false,false,true,true,true,true,true,true,true,true,true,true,true,true,true,true,true,true,true,true,true,true,true,true,true,true,true,true,true,true,true,true,true,true,true,true,true,true,true,true,true,true,true,true,true,true,true,true,true,true,true,true,true,true,true,true,true,true,true,true,true,true,true,true,true,true,true,true,true,true,true,true,true,true,true,true,true,true,true,true,true,true,true,true,true,true,true,true,true,true,true,true,true,true,true,true,true,true,true,true,true,true,true,true,true,true,true,true,true,true,true,true,true,true,true,true,true,true,true,true,true,true,true,true,true,true,true,true,true,true,true,true,true,true,true,true,true,true,true,true,true,true,true,true,true,true,true,true,true,true,true,true,true,true,true,true,true,true,true,true,true,true,true,true,true,true,true,true,true,true,true,true,true,true,true,true,true,true,true,true,true,true,true,true,true,true,true,true,true,true,true,true,true,true,true,true,true,true,true,true,true,true,true,true,true,true,true,true,true,true,true,true,true,true,true,true,true,true,true,true,true,true,true,true,true,true,true,true,true,true,true,true,true,true,true,true,true,true,true,true,true,true,true,true,true,true,true,true,true,true,true,true,true,true,true,true,true,true,true,true,true,true,true,true,true,true,true,true,true,true,true,true,true,true,false,false,false,true,true,true,true,true,true,true,true,true,true,true,true,true,true,true,true,true,true,true,true,true,true,true,true,true,true,true,true,true,true,true,true,true,true,true,true,true,true,true,true,true,true,true,true,true,true,true,true,true,true,true,true,true,true,false,false,false]
theorem pK_wf : wfB 0 pK_N=true := by kernel_rfl
theorem pK_sz : szC pK_Z pK_I pK_N pK_Z pK_I=true := by kernel_rfl
theorem pK_lt : litB pK_N pK_L=true := by kernel_rfl
theorem pK_cn : canB pK_N pK_C=true := by kernel_rfl
theorem pK_c61 : cst 0 0 1=(0 : Rat) := by decide +kernel
def pK_A : List AV := [(false,[(true,[.inr (2,0,0,0,0),.inr (2,1,0,0,0),.inr (2,2,0,0,0),.inr (2,3,0,0,0),.inr (2,4,0,0,0),.inr (2,5,0,0,0),.inr (2,6,0,0,0),.inr (2,7,0,0,0),.inr (2,8,0,0,0)])]),(false,[(true,[.inr (2,9,0,0,0),.inr (2,10,0,0,0),.inr (2,11,0,0,0)])]),(false,[(true,[.inr (2,12,0,0,0),.inr (2,13,0,0,0),.inr (2,14,0,0,0)])]),(false,[(true,[.inr (2,15,0,0,0),.inr (2,16,0,0,0)])]),(false,[(true,[.inr (2,17,0,0,0),.inr (2,18,0,0,0)])]),(false,[(true,[.inr (2,19,0,0,0),.inr (2,20,0,0,0),.inr (2,21,0,0,0)])])]
structure V3 where
 x : Rat
 y : Rat
 z : Rat
def V3.cr (u v : V3) : V3 := ⟨u.y*v.z - u.z*v.y,u.z*v.x - u.x*v.z,u.x*v.y - u.y*v.x⟩
def V3.dt (u v : V3) : Rat := u.x*v.x+u.y*v.y+u.z*v.z
def V3.sm (u : V3) (k : Rat) : V3 := ⟨u.x*k,u.y*k,u.z*k⟩
def V3.ad (u v : V3) : V3 := ⟨u.x+v.x,u.y+v.y,u.z+v.z⟩
def V3.no : V3 := ⟨0,0,0⟩
def V3.mv (a b c u : V3) : V3 := ⟨a.dt u,b.dt u,c.dt u⟩
def V3.dm (a b c : V3) : Rat := a.dt (b.cr c)
def V3.Pr (u v : V3) : Prop := ∃ g,g ≠ 0∧u=v.sm g
theorem V3.ext' {u v : V3} (h : u.x=v.x∧u.y=v.y∧u.z=v.z) : u=v := by
 cases u; cases v; cases h.1; cases h.2.1; cases h.2.2; rfl
theorem V3.no_iff {a b c : Rat} : (⟨a,b,c⟩ : V3)=.no ↔ (a=0∧b=0∧c=0) :=
 ⟨fun h => ⟨congrArg V3.x h,congrArg V3.y h,congrArg V3.z h⟩,fun h => V3.ext' h⟩
theorem V3.mk_cr {a b c d e f x y z m1 m2 m3 m4 m5 m6 : Rat} (hx : x=m1 - m2) (hy : y=m3 - m4) (hz : z=m5 - m6) (h1 : m1=b*f) (h2 : m2=c*e) (h3 : m3=c*d) (h4 : m4=a*f) (h5 : m5=a*e) (h6 : m6=b*d) : (⟨x,y,z⟩ : V3)=V3.cr ⟨a,b,c⟩ ⟨d,e,f⟩ := by
 subst_vars; rfl
theorem V3.mk_dt {a b c d e f n p q r s t o : Rat} (ho : o=0) (hn : n=p+q) (hp : p=r+s) (hr : r=o+t) (ht : t=a*d) (hs : s=b*e) (hq : q=c*f) : n=V3.dt ⟨a,b,c⟩ ⟨d,e,f⟩ := by
 subst_vars; simp only [V3.dt]; grind
theorem V3.mk_mv {x y z : Rat} {a b c u : V3} (h1 : x=a.dt u) (h2 : y=b.dt u) (h3 : z=c.dt u) : (⟨x,y,z⟩ : V3)=V3.mv a b c u := by
 subst_vars; rfl
theorem V3.mk_su {a b c d e f k n x y z m1 m2 m3 m4 m5 m6 : Rat} (hx : x=m1+m2) (hy : y=m3+m4) (hz : z=m5+m6) (h1 : m1=k*a) (h2 : m2=n*d) (h3 : m3=k*b) (h4 : m4=n*e) (h5 : m5=k*c) (h6 : m6=n*f) : (⟨x,y,z⟩ : V3)=(V3.sm ⟨a,b,c⟩ k).ad (V3.sm ⟨d,e,f⟩ n) := by
 subst_vars; apply V3.ext'; simp only [V3.sm,V3.ad]; refine ⟨?_,?_,?_⟩ <;> grind
theorem V3.mk_pf {a b c x y z : Rat} (hn : (⟨a,b,c⟩ : V3) ≠ .no) (hx : x=a*fac [a,b,c]) (hy : y=b*fac [a,b,c]) (hz : z=c*fac [a,b,c]) : V3.Pr ⟨x,y,z⟩ ⟨a,b,c⟩ :=
 ⟨fac [a,b,c],fun h => hn (V3.no_iff.2 ⟨fac_zero (by simp) h,fac_zero (by simp) h,fac_zero (by simp) h⟩),by subst_vars; rfl⟩
theorem V3.sq3 {x y z m1 m2 m3 s t : Rat} (h1 : m1=x*x) (h2 : m2=y*y) (hs : s=m1+m2) (h3 : m3=z*z) (ht : t=s+m3) : t=0 ↔ (⟨x,y,z⟩ : V3)=.no := by
 rw [V3.no_iff]
 have a1 := sq_facts x
 have a2 := sq_facts y
 have a3 := sq_facts z
 subst_vars
 constructor
 ·intro h
  refine ⟨a1.2.1 ?_,a2.2.1 ?_,a3.2.1 ?_⟩ <;> grind
 ·rintro ⟨h1,h2,h3⟩
  rw [h1,h2,h3]; grind
theorem V3.Pr.rfl' (u : V3) : V3.Pr u u := ⟨1,by decide,by apply V3.ext'; simp only [V3.sm]; refine ⟨?_,?_,?_⟩ <;> grind⟩
theorem V3.sm_sm (u : V3) (k n : Rat) : (u.sm k).sm n=u.sm (k*n) := by
 apply V3.ext'; simp only [V3.sm]; refine ⟨?_,?_,?_⟩ <;> grind
theorem V3.Pr.trans {u v w : V3} (h : V3.Pr u v) (k : V3.Pr v w) : V3.Pr u w := by
 obtain ⟨g,hg,e⟩ := h
 obtain ⟨h,hh,f⟩ := k
 exact ⟨h*g,mul_ne hh hg,by rw [e,f,V3.sm_sm]⟩
theorem V3.no_sm (k : Rat) : V3.no.sm k=.no := by
 apply V3.ext'; simp only [V3.sm,V3.no]; refine ⟨?_,?_,?_⟩ <;> grind
theorem V3.sm_ne {u : V3} {g : Rat} (hg : g ≠ 0) (h : u ≠ .no) : u.sm g ≠ .no := by
 intro e
 have e1 := congrArg V3.x e
 have e2 := congrArg V3.y e
 have e3 := congrArg V3.z e
 simp only [V3.sm,V3.no] at e1 e2 e3
 exact h (V3.ext' ⟨(Rat.mul_eq_zero.1 e1).resolve_right hg,(Rat.mul_eq_zero.1 e2).resolve_right hg,(Rat.mul_eq_zero.1 e3).resolve_right hg⟩)
theorem V3.Pr.no_iff {u v : V3} (h : V3.Pr u v) : u=.no ↔ v=.no := by
 obtain ⟨g,hg,e⟩ := h
 constructor
 ·intro k
  refine Classical.byContradiction fun q => V3.sm_ne hg q (e.symm.trans k)
 ·intro k
  rw [e,k,V3.no_sm]
theorem V3.Pr.mv {u v : V3} (a b c : V3) (h : V3.Pr u v) : V3.Pr (V3.mv a b c u) (V3.mv a b c v) := by
 obtain ⟨g,hg,e⟩ := h
 refine ⟨g,hg,?_⟩
 rw [e]; apply V3.ext'; simp only [V3.mv,V3.sm,V3.dt]; refine ⟨?_,?_,?_⟩ <;> grind
theorem V3.Pr.cr {u v s t : V3} (h : V3.Pr u v) (k : V3.Pr s t) : V3.Pr (u.cr s) (v.cr t) := by
 obtain ⟨g,hg,e⟩ := h
 obtain ⟨l,hl,f⟩ := k
 refine ⟨g*l,mul_ne hg hl,?_⟩
 rw [e,f]; apply V3.ext'; simp only [V3.cr,V3.sm]; refine ⟨?_,?_,?_⟩ <;> grind
theorem V3.Pr.dt {u v s t : V3} (h : V3.Pr u v) (k : V3.Pr s t) : u.dt s=0 ↔ v.dt t=0 := by
 obtain ⟨g,hg,e⟩ := h
 obtain ⟨l,hl,f⟩ := k
 have q : u.dt s=v.dt t*(g*l) := by rw [e,f]; simp only [V3.dt,V3.sm]; grind
 rw [q]
 exact ⟨fun h => (Rat.mul_eq_zero.1 h).resolve_right (mul_ne hg hl),fun h => by rw [h,Rat.zero_mul]⟩
theorem V3.mv_ne {a b c u : V3} (hd : V3.dm a b c ≠ 0) : V3.mv a b c u=.no ↔ u=.no := by
 constructor
 ·intro h
  have q : u.sm (V3.dm a b c)=(((b.cr c).sm (V3.mv a b c u).x).ad ((c.cr a).sm (V3.mv a b c u).y)).ad ((a.cr b).sm (V3.mv a b c u).z) := by
   apply V3.ext'; simp only [V3.mv,V3.sm,V3.dt,V3.cr,V3.ad,V3.dm]; refine ⟨?_,?_,?_⟩ <;> grind
  refine Classical.byContradiction fun k => V3.sm_ne hd k ?_
  rw [q,h]; apply V3.ext'; simp only [V3.sm,V3.ad,V3.no]; refine ⟨?_,?_,?_⟩ <;> grind
 ·intro h
  rw [h]; apply V3.ext'; simp only [V3.mv,V3.dt,V3.no]; refine ⟨?_,?_,?_⟩ <;> grind
theorem V3.cr_mv (a b c u v : V3) : (V3.mv a b c u).cr (V3.mv a b c v)=V3.mv (b.cr c) (c.cr a) (a.cr b) (u.cr v) := by
 apply V3.ext'; simp only [V3.mv,V3.dt,V3.cr]; refine ⟨?_,?_,?_⟩ <;> grind
theorem V3.dm_cf (a b c : V3) : V3.dm (b.cr c) (c.cr a) (a.cr b)=V3.dm a b c*V3.dm a b c := by
 simp only [V3.dm,V3.dt,V3.cr]; grind
theorem V3.cf_ne {a b c : V3} (hd : V3.dm a b c ≠ 0) : V3.dm (b.cr c) (c.cr a) (a.cr b) ≠ 0 := by
 rw [V3.dm_cf]; exact mul_ne hd hd
theorem V3.mv_dt (a b c u l : V3) : (V3.mv a b c u).dt (V3.mv (b.cr c) (c.cr a) (a.cr b) l)=V3.dm a b c*u.dt l := by
 simp only [V3.mv,V3.dm,V3.dt,V3.cr]; grind
theorem V3.mv_su (a b c u v : V3) (k n : Rat) : V3.mv a b c ((u.sm k).ad (v.sm n))=((V3.mv a b c u).sm k).ad ((V3.mv a b c v).sm n) := by
 apply V3.ext'; simp only [V3.mv,V3.dt,V3.sm,V3.ad]; refine ⟨?_,?_,?_⟩ <;> grind
theorem pk_cr {a b c u v s t : V3} (hd : V3.dm a b c ≠ 0) (h : V3.Pr s (V3.mv a b c u)) (k : V3.Pr t (V3.mv a b c v)) : u.cr v=.no ↔ s.cr t=.no := by
 rw [(h.cr k).no_iff,V3.cr_mv,V3.mv_ne (V3.cf_ne hd)]
theorem pk_on {a b A B C : V3} {k n : Rat} (h : V3.Pr A a) (j : V3.Pr B b) (l : V3.Pr C ((a.sm k).ad (b.sm n))) : C.dt (A.cr B)=0 := by
 rw [l.dt (h.cr j)]; simp only [V3.dt,V3.cr,V3.sm,V3.ad]; grind
theorem pk_k {a b B C : V3} {k n : Rat} (hb : V3.Pr B b) (hc : V3.Pr C ((a.sm k).ad (b.sm n))) (h : B.cr C ≠ .no) : k ≠ 0 := by
 intro e
 apply h
 rw [(hb.cr hc).no_iff,e]; apply V3.ext'; simp only [V3.cr,V3.sm,V3.ad,V3.no]; refine ⟨?_,?_,?_⟩ <;> grind
theorem pk_n {a b A D : V3} {k n : Rat} (ha : V3.Pr A a) (hc : V3.Pr D ((a.sm k).ad (b.sm n))) (h : A.cr D ≠ .no) : n ≠ 0 := by
 intro e
 apply h
 rw [(ha.cr hc).no_iff,e]; apply V3.ext'; simp only [V3.cr,V3.sm,V3.ad,V3.no]; refine ⟨?_,?_,?_⟩ <;> grind
theorem pk_im {a b r s t S C : V3} {k n : Rat} (h : V3.Pr S (V3.mv r s t C)) (j : V3.Pr C ((a.sm k).ad (b.sm n))) : V3.Pr S (((V3.mv r s t a).sm k).ad ((V3.mv r s t b).sm n)) := by
 have q := h.trans (V3.Pr.mv r s t j)
 rw [V3.mv_su] at q
 exact q
theorem pk_ra {a b A B C D : V3} {k n l m : Rat} (ha : V3.Pr A a) (hb : V3.Pr B b) (hc : V3.Pr C ((a.sm k).ad (b.sm n))) (hd : V3.Pr D ((a.sm l).ad (b.sm m))) (hx : A.cr B ≠ .no) (hk : k ≠ 0) (hm : m ≠ 0) : ((A.cr C).dt (A.cr B) / (C.cr B).dt (A.cr B))*((D.cr B).dt (A.cr B) / (A.cr D).dt (A.cr B))=n*l / (k*m) := by
 obtain ⟨α,hα,ea⟩ := ha
 obtain ⟨β,hβ,eb⟩ := hb
 obtain ⟨γ,hγ,ec⟩ := hc
 obtain ⟨δ,hδ,ed⟩ := hd
 have hs : (A.cr B).dt (A.cr B) ≠ 0 := by
  intro h
  apply hx
  have q := V3.sq3 (x := (A.cr B).x) (y := (A.cr B).y) (z := (A.cr B).z) rfl rfl rfl rfl rfl
  exact q.1 h
 have w1 : (A.cr C).dt (A.cr B)*β=n*γ*(A.cr B).dt (A.cr B) := by
  rw [ea,eb,ec]; simp only [V3.dt,V3.cr,V3.sm,V3.ad]; grind
 have w2 : (C.cr B).dt (A.cr B)*α=k*γ*(A.cr B).dt (A.cr B) := by
  rw [ea,eb,ec]; simp only [V3.dt,V3.cr,V3.sm,V3.ad]; grind
 have w3 : (D.cr B).dt (A.cr B)*α=l*δ*(A.cr B).dt (A.cr B) := by
  rw [ea,eb,ed]; simp only [V3.dt,V3.cr,V3.sm,V3.ad]; grind
 have w4 : (A.cr D).dt (A.cr B)*β=m*δ*(A.cr B).dt (A.cr B) := by
  rw [ea,eb,ed]; simp only [V3.dt,V3.cr,V3.sm,V3.ad]; grind
 generalize (A.cr B).dt (A.cr B)=S at *
 generalize (A.cr C).dt (A.cr B)=T at *
 generalize (C.cr B).dt (A.cr B)=U at *
 generalize (D.cr B).dt (A.cr B)=V at *
 generalize (A.cr D).dt (A.cr B)=W at *
 clear ea eb ec ed hx
 have hU : U ≠ 0 := by
  intro h; rw [h,Rat.zero_mul] at w2
  exact mul_ne (mul_ne hk hγ) hs w2.symm
 have hW : W ≠ 0 := by
  intro h; rw [h,Rat.zero_mul] at w4
  exact mul_ne (mul_ne hm hδ) hs w4.symm
 have hkm := mul_ne hk hm
 have q : (T / U*(V / W) - n*l / (k*m))*(U*W*(k*m))=0 := by
  have r : (T / U*(V / W) - n*l / (k*m))*(U*W*(k*m))=(T / U*U)*(V / W*W)*(k*m) - (n*l / (k*m)*(k*m))*(U*W) := by clear w1 w2 w3 w4; grind
  rw [r,Rat.div_mul_cancel hU,Rat.div_mul_cancel hW,Rat.div_mul_cancel hkm]
  have r2 : (T*V*(k*m) - n*l*(U*W))*(α*β)=0 := by
   have r3 : (T*V*(k*m) - n*l*(U*W))*(α*β)=(T*β)*(V*α)*(k*m) - n*l*((U*α)*(W*β)) := by clear w1 w2 w3 w4 r; grind
   rw [r3,w1,w2,w3,w4]; clear w1 w2 w3 w4 r r3; grind
  exact (Rat.mul_eq_zero.1 r2).resolve_right (mul_ne hα hβ)
 have q2 := (Rat.mul_eq_zero.1 q).resolve_right (mul_ne (mul_ne hU hW) hkm)
 clear q w1 w2 w3 w4; grind
theorem pk_li {a b c A L S M : V3} (hd : V3.dm a b c ≠ 0) (h : V3.Pr S (V3.mv a b c A)) (k : V3.Pr M (V3.mv (b.cr c) (c.cr a) (a.cr b) L)) : A.dt L=0 ↔ S.dt M=0 := by
 rw [h.dt k,V3.mv_dt]
 exact ⟨fun e => by rw [e,Rat.mul_zero],fun e => (Rat.mul_eq_zero.1 e).resolve_left hd⟩
theorem pK_Qa (H : pK_Q q σ) : ((⟨q 67,q 68,q 69⟩ : V3) ≠ .no)→(V3.dm (⟨q 42,q 43,q 44⟩ : V3) (⟨q 45,q 46,q 47⟩ : V3) (⟨q 48,q 49,q 50⟩ : V3) ≠ 0)→((V3.Pr (⟨q 197,q 198,q 199⟩ : V3) (V3.mv (⟨q 42,q 43,q 44⟩ : V3) (⟨q 45,q 46,q 47⟩ : V3) (⟨q 48,q 49,q 50⟩ : V3) (⟨q 67,q 68,q 69⟩ : V3)))∧¬ (q 196=0)) := by
 have e61:q 61=0:=(H 61 _ rfl).trans pK_c61;have e75:q 75=q 42*q 67:=H 75 _ rfl;have e76:q 76=q 61+q 75:=H 76 _ rfl;have e77:q 77=q 43*q 68:=H 77 _ rfl;have e78:q 78=q 76+q 77:=H 78 _ rfl;have e79:q 79=q 44*q 69:=H 79 _ rfl;have e80:q 80=q 78+q 79:=H 80 _ rfl;have e81:q 81=q 45*q 67:=H 81 _ rfl;have e82:q 82=q 61+q 81:=H 82 _ rfl;have e83:q 83=q 46*q 68:=H 83 _ rfl;have e84:q 84=q 82+q 83:=H 84 _ rfl;have e85:q 85=q 47*q 69:=H 85 _ rfl;have e86:q 86=q 84+q 85:=H 86 _ rfl;have e87:q 87=q 48*q 67:=H 87 _ rfl;have e88:q 88=q 61+q 87:=H 88 _ rfl;have e89:q 89=q 49*q 68:=H 89 _ rfl;have e90:q 90=q 88+q 89:=H 90 _ rfl;have e91:q 91=q 50*q 69:=H 91 _ rfl;have e92:q 92=q 90+q 91:=H 92 _ rfl;have e93:q 93=q 80*fac [q 80,q 86,q 92]:=H 93 _ rfl;have e94:q 94=q 86*fac [q 80,q 86,q 92]:=H 94 _ rfl;have e95:q 95=q 92*fac [q 80,q 86,q 92]:=H 95 _ rfl;have e192:q 192=q 93*q 93:=H 192 _ rfl;have e193:q 193=q 94*q 94:=H 193 _ rfl;have e194:q 194=q 192+q 193:=H 194 _ rfl;have e195:q 195=q 95*q 95:=H 195 _ rfl;have e196:q 196=q 194+q 195:=H 196 _ rfl;have e197:q 197=q 93*fac [q 93,q 94,q 95]:=H 197 _ rfl;have e198:q 198=q 94*fac [q 93,q 94,q 95]:=H 198 _ rfl;have e199:q 199=q 95*fac [q 93,q 94,q 95]:=H 199 _ rfl
 clear H
 intro nA hd
 have hm := V3.mk_mv (V3.mk_dt e61 e80 e78 e76 e75 e77 e79) (V3.mk_dt e61 e86 e84 e82 e81 e83 e85) (V3.mk_dt e61 e92 e90 e88 e87 e89 e91)
 have nm : (⟨q 80,q 86,q 92⟩ : V3) ≠ .no := fun h => nA ((V3.mv_ne hd).1 (hm.symm.trans h))
 have p1 := V3.mk_pf nm e93 e94 e95
 have n1 : (⟨q 93,q 94,q 95⟩ : V3) ≠ .no := fun h => nm (p1.no_iff.1 h)
 have p2 := (V3.mk_pf n1 e197 e198 e199).trans p1
 rw [hm] at p2
 exact ⟨p2,fun h => n1 ((V3.sq3 e192 e193 e194 e195 e196).1 h)⟩
theorem pK_Pa (H : pK_Q q σ) : (¬ (q 32=0))→((V3.Pr (⟨q 67,q 68,q 69⟩ : V3) (⟨q 0,q 1,q 2⟩ : V3))∧(⟨q 67,q 68,q 69⟩ : V3) ≠ .no) := by
 have e28:q 28=q 0*q 0:=H 28 _ rfl;have e29:q 29=q 1*q 1:=H 29 _ rfl;have e30:q 30=q 28+q 29:=H 30 _ rfl;have e31:q 31=q 2*q 2:=H 31 _ rfl;have e32:q 32=q 30+q 31:=H 32 _ rfl;have e67:q 67=q 0*fac [q 0,q 1,q 2]:=H 67 _ rfl;have e68:q 68=q 1*fac [q 0,q 1,q 2]:=H 68 _ rfl;have e69:q 69=q 2*fac [q 0,q 1,q 2]:=H 69 _ rfl
 clear H
 intro u
 have ne : (⟨q 0,q 1,q 2⟩ : V3) ≠ .no := fun h => u ((V3.sq3 e28 e29 e30 e31 e32).2 h)
 have p := V3.mk_pf ne e67 e68 e69
 refine ⟨?_,fun h => ne (p.no_iff.1 h)⟩
 exact p
theorem pK_T (H : pK_Q q σ) : (¬ (q 66=0))→(V3.dm (⟨q 42,q 43,q 44⟩ : V3) (⟨q 45,q 46,q 47⟩ : V3) (⟨q 48,q 49,q 50⟩ : V3) ≠ 0) := by
 have e51:q 51=q 46*q 50:=H 51 _ rfl;have e52:q 52=q 47*q 49:=H 52 _ rfl;have e53:q 53=q 51-q 52:=H 53 _ rfl;have e54:q 54=q 47*q 48:=H 54 _ rfl;have e55:q 55=q 45*q 50:=H 55 _ rfl;have e56:q 56=q 54-q 55:=H 56 _ rfl;have e57:q 57=q 45*q 49:=H 57 _ rfl;have e58:q 58=q 46*q 48:=H 58 _ rfl;have e59:q 59=q 57-q 58:=H 59 _ rfl;have e60:q 60=q 42*q 53:=H 60 _ rfl;have e61:q 61=0:=(H 61 _ rfl).trans pK_c61;have e62:q 62=q 61+q 60:=H 62 _ rfl;have e63:q 63=q 43*q 56:=H 63 _ rfl;have e64:q 64=q 62+q 63:=H 64 _ rfl;have e65:q 65=q 44*q 59:=H 65 _ rfl;have e66:q 66=q 64+q 65:=H 66 _ rfl
 clear H
 intro u
 exact fun h => u ((V3.mk_dt e61 e66 e64 e62 e60 e63 e65).trans ((congrArg _ (V3.mk_cr e53 e56 e59 e51 e52 e54 e55 e57 e58)).trans h))
theorem pK_Qb (H : pK_Q q σ) : ((⟨q 96,q 97,q 98⟩ : V3) ≠ .no)→(V3.dm (⟨q 42,q 43,q 44⟩ : V3) (⟨q 45,q 46,q 47⟩ : V3) (⟨q 48,q 49,q 50⟩ : V3) ≠ 0)→((V3.Pr (⟨q 205,q 206,q 207⟩ : V3) (V3.mv (⟨q 42,q 43,q 44⟩ : V3) (⟨q 45,q 46,q 47⟩ : V3) (⟨q 48,q 49,q 50⟩ : V3) (⟨q 96,q 97,q 98⟩ : V3)))∧¬ (q 204=0)) := by
 have e61:q 61=0:=(H 61 _ rfl).trans pK_c61;have e113:q 113=q 42*q 96:=H 113 _ rfl;have e114:q 114=q 61+q 113:=H 114 _ rfl;have e115:q 115=q 43*q 97:=H 115 _ rfl;have e116:q 116=q 114+q 115:=H 116 _ rfl;have e117:q 117=q 44*q 98:=H 117 _ rfl;have e118:q 118=q 116+q 117:=H 118 _ rfl;have e119:q 119=q 45*q 96:=H 119 _ rfl;have e120:q 120=q 61+q 119:=H 120 _ rfl;have e121:q 121=q 46*q 97:=H 121 _ rfl;have e122:q 122=q 120+q 121:=H 122 _ rfl;have e123:q 123=q 47*q 98:=H 123 _ rfl;have e124:q 124=q 122+q 123:=H 124 _ rfl;have e125:q 125=q 48*q 96:=H 125 _ rfl;have e126:q 126=q 61+q 125:=H 126 _ rfl;have e127:q 127=q 49*q 97:=H 127 _ rfl;have e128:q 128=q 126+q 127:=H 128 _ rfl;have e129:q 129=q 50*q 98:=H 129 _ rfl;have e130:q 130=q 128+q 129:=H 130 _ rfl;have e131:q 131=q 118*fac [q 118,q 124,q 130]:=H 131 _ rfl;have e132:q 132=q 124*fac [q 118,q 124,q 130]:=H 132 _ rfl;have e133:q 133=q 130*fac [q 118,q 124,q 130]:=H 133 _ rfl;have e200:q 200=q 131*q 131:=H 200 _ rfl;have e201:q 201=q 132*q 132:=H 201 _ rfl;have e202:q 202=q 200+q 201:=H 202 _ rfl;have e203:q 203=q 133*q 133:=H 203 _ rfl;have e204:q 204=q 202+q 203:=H 204 _ rfl;have e205:q 205=q 131*fac [q 131,q 132,q 133]:=H 205 _ rfl;have e206:q 206=q 132*fac [q 131,q 132,q 133]:=H 206 _ rfl;have e207:q 207=q 133*fac [q 131,q 132,q 133]:=H 207 _ rfl
 clear H
 intro nA hd
 have hm := V3.mk_mv (V3.mk_dt e61 e118 e116 e114 e113 e115 e117) (V3.mk_dt e61 e124 e122 e120 e119 e121 e123) (V3.mk_dt e61 e130 e128 e126 e125 e127 e129)
 have nm : (⟨q 118,q 124,q 130⟩ : V3) ≠ .no := fun h => nA ((V3.mv_ne hd).1 (hm.symm.trans h))
 have p1 := V3.mk_pf nm e131 e132 e133
 have n1 : (⟨q 131,q 132,q 133⟩ : V3) ≠ .no := fun h => nm (p1.no_iff.1 h)
 have p2 := (V3.mk_pf n1 e205 e206 e207).trans p1
 rw [hm] at p2
 exact ⟨p2,fun h => n1 ((V3.sq3 e200 e201 e202 e203 e204).1 h)⟩
theorem pK_Pb (H : pK_Q q σ) : (¬ (q 74=0))→((V3.Pr (⟨q 96,q 97,q 98⟩ : V3) (⟨q 3,q 4,q 5⟩ : V3))∧(⟨q 96,q 97,q 98⟩ : V3) ≠ .no) := by
 have e70:q 70=q 3*q 3:=H 70 _ rfl;have e71:q 71=q 4*q 4:=H 71 _ rfl;have e72:q 72=q 70+q 71:=H 72 _ rfl;have e73:q 73=q 5*q 5:=H 73 _ rfl;have e74:q 74=q 72+q 73:=H 74 _ rfl;have e96:q 96=q 3*fac [q 3,q 4,q 5]:=H 96 _ rfl;have e97:q 97=q 4*fac [q 3,q 4,q 5]:=H 97 _ rfl;have e98:q 98=q 5*fac [q 3,q 4,q 5]:=H 98 _ rfl
 clear H
 intro u
 have ne : (⟨q 3,q 4,q 5⟩ : V3) ≠ .no := fun h => u ((V3.sq3 e70 e71 e72 e73 e74).2 h)
 have p := V3.mk_pf ne e96 e97 e98
 refine ⟨?_,fun h => ne (p.no_iff.1 h)⟩
 exact p
theorem pK_Xab (H : pK_Q q σ) : (V3.dm (⟨q 42,q 43,q 44⟩ : V3) (⟨q 45,q 46,q 47⟩ : V3) (⟨q 48,q 49,q 50⟩ : V3) ≠ 0)→(V3.Pr (⟨q 197,q 198,q 199⟩ : V3) (V3.mv (⟨q 42,q 43,q 44⟩ : V3) (⟨q 45,q 46,q 47⟩ : V3) (⟨q 48,q 49,q 50⟩ : V3) (⟨q 67,q 68,q 69⟩ : V3)))→(V3.Pr (⟨q 205,q 206,q 207⟩ : V3) (V3.mv (⟨q 42,q 43,q 44⟩ : V3) (⟨q 45,q 46,q 47⟩ : V3) (⟨q 48,q 49,q 50⟩ : V3) (⟨q 96,q 97,q 98⟩ : V3)))→((¬ (q 112=0)→¬ (q 221=0))∧(q 112=0→q 221=0)) := by
 have e99:q 99=q 68*q 98:=H 99 _ rfl;have e100:q 100=q 69*q 97:=H 100 _ rfl;have e101:q 101=q 99-q 100:=H 101 _ rfl;have e102:q 102=q 69*q 96:=H 102 _ rfl;have e103:q 103=q 67*q 98:=H 103 _ rfl;have e104:q 104=q 102-q 103:=H 104 _ rfl;have e105:q 105=q 67*q 97:=H 105 _ rfl;have e106:q 106=q 68*q 96:=H 106 _ rfl;have e107:q 107=q 105-q 106:=H 107 _ rfl;have e108:q 108=q 101*q 101:=H 108 _ rfl;have e109:q 109=q 104*q 104:=H 109 _ rfl;have e110:q 110=q 108+q 109:=H 110 _ rfl;have e111:q 111=q 107*q 107:=H 111 _ rfl;have e112:q 112=q 110+q 111:=H 112 _ rfl;have e208:q 208=q 198*q 207:=H 208 _ rfl;have e209:q 209=q 199*q 206:=H 209 _ rfl;have e210:q 210=q 208-q 209:=H 210 _ rfl;have e211:q 211=q 199*q 205:=H 211 _ rfl;have e212:q 212=q 197*q 207:=H 212 _ rfl;have e213:q 213=q 211-q 212:=H 213 _ rfl;have e214:q 214=q 197*q 206:=H 214 _ rfl;have e215:q 215=q 198*q 205:=H 215 _ rfl;have e216:q 216=q 214-q 215:=H 216 _ rfl;have e217:q 217=q 210*q 210:=H 217 _ rfl;have e218:q 218=q 213*q 213:=H 218 _ rfl;have e219:q 219=q 217+q 218:=H 219 _ rfl;have e220:q 220=q 216*q 216:=H 220 _ rfl;have e221:q 221=q 219+q 220:=H 221 _ rfl
 clear H
 intro hd p1 p2
 have k1 : q 112=0 ↔ (⟨q 67,q 68,q 69⟩ : V3).cr (⟨q 96,q 97,q 98⟩ : V3)=.no := by rw [← (V3.mk_cr e101 e104 e107 e99 e100 e102 e103 e105 e106)]; exact (V3.sq3 e108 e109 e110 e111 e112)
 have k2 : q 221=0 ↔ (⟨q 197,q 198,q 199⟩ : V3).cr (⟨q 205,q 206,q 207⟩ : V3)=.no := by rw [← (V3.mk_cr e210 e213 e216 e208 e209 e211 e212 e214 e215)]; exact (V3.sq3 e217 e218 e219 e220 e221)
 have h := k1.trans ((pk_cr hd p1 p2).trans k2.symm)
 exact ⟨fun a b => a (h.2 b),h.1⟩
theorem pK_Ql (H : pK_Q q σ) : ((⟨q 230,q 231,q 232⟩ : V3) ≠ .no)→(V3.dm (⟨q 42,q 43,q 44⟩ : V3) (⟨q 45,q 46,q 47⟩ : V3) (⟨q 48,q 49,q 50⟩ : V3) ≠ 0)→((V3.Pr (⟨q 283,q 284,q 285⟩ : V3) (V3.mv ((⟨q 45,q 46,q 47⟩ : V3).cr (⟨q 48,q 49,q 50⟩ : V3)) ((⟨q 48,q 49,q 50⟩ : V3).cr (⟨q 42,q 43,q 44⟩ : V3)) ((⟨q 42,q 43,q 44⟩ : V3).cr (⟨q 45,q 46,q 47⟩ : V3)) (⟨q 230,q 231,q 232⟩ : V3)))∧¬ (q 282=0)) := by
 have e51:q 51=q 46*q 50:=H 51 _ rfl;have e52:q 52=q 47*q 49:=H 52 _ rfl;have e53:q 53=q 51-q 52:=H 53 _ rfl;have e54:q 54=q 47*q 48:=H 54 _ rfl;have e55:q 55=q 45*q 50:=H 55 _ rfl;have e56:q 56=q 54-q 55:=H 56 _ rfl;have e57:q 57=q 45*q 49:=H 57 _ rfl;have e58:q 58=q 46*q 48:=H 58 _ rfl;have e59:q 59=q 57-q 58:=H 59 _ rfl;have e61:q 61=0:=(H 61 _ rfl).trans pK_c61;have e239:q 239=q 49*q 44:=H 239 _ rfl;have e240:q 240=q 50*q 43:=H 240 _ rfl;have e241:q 241=q 239-q 240:=H 241 _ rfl;have e242:q 242=q 50*q 42:=H 242 _ rfl;have e243:q 243=q 48*q 44:=H 243 _ rfl;have e244:q 244=q 242-q 243:=H 244 _ rfl;have e245:q 245=q 48*q 43:=H 245 _ rfl;have e246:q 246=q 49*q 42:=H 246 _ rfl;have e247:q 247=q 245-q 246:=H 247 _ rfl;have e248:q 248=q 43*q 47:=H 248 _ rfl;have e249:q 249=q 44*q 46:=H 249 _ rfl;have e250:q 250=q 248-q 249:=H 250 _ rfl;have e251:q 251=q 44*q 45:=H 251 _ rfl;have e252:q 252=q 42*q 47:=H 252 _ rfl;have e253:q 253=q 251-q 252:=H 253 _ rfl;have e254:q 254=q 42*q 46:=H 254 _ rfl;have e255:q 255=q 43*q 45:=H 255 _ rfl;have e256:q 256=q 254-q 255:=H 256 _ rfl;have e257:q 257=q 53*q 230:=H 257 _ rfl;have e258:q 258=q 61+q 257:=H 258 _ rfl;have e259:q 259=q 56*q 231:=H 259 _ rfl;have e260:q 260=q 258+q 259:=H 260 _ rfl;have e261:q 261=q 59*q 232:=H 261 _ rfl;have e262:q 262=q 260+q 261:=H 262 _ rfl;have e263:q 263=q 241*q 230:=H 263 _ rfl;have e264:q 264=q 61+q 263:=H 264 _ rfl;have e265:q 265=q 244*q 231:=H 265 _ rfl;have e266:q 266=q 264+q 265:=H 266 _ rfl;have e267:q 267=q 247*q 232:=H 267 _ rfl;have e268:q 268=q 266+q 267:=H 268 _ rfl;have e269:q 269=q 250*q 230:=H 269 _ rfl;have e270:q 270=q 61+q 269:=H 270 _ rfl;have e271:q 271=q 253*q 231:=H 271 _ rfl;have e272:q 272=q 270+q 271:=H 272 _ rfl;have e273:q 273=q 256*q 232:=H 273 _ rfl;have e274:q 274=q 272+q 273:=H 274 _ rfl;have e275:q 275=q 262*fac [q 262,q 268,q 274]:=H 275 _ rfl;have e276:q 276=q 268*fac [q 262,q 268,q 274]:=H 276 _ rfl;have e277:q 277=q 274*fac [q 262,q 268,q 274]:=H 277 _ rfl;have e278:q 278=q 275*q 275:=H 278 _ rfl;have e279:q 279=q 276*q 276:=H 279 _ rfl;have e280:q 280=q 278+q 279:=H 280 _ rfl;have e281:q 281=q 277*q 277:=H 281 _ rfl;have e282:q 282=q 280+q 281:=H 282 _ rfl;have e283:q 283=q 275*fac [q 275,q 276,q 277]:=H 283 _ rfl;have e284:q 284=q 276*fac [q 275,q 276,q 277]:=H 284 _ rfl;have e285:q 285=q 277*fac [q 275,q 276,q 277]:=H 285 _ rfl
 clear H
 intro nA hd
 have hm : (⟨q 262,q 268,q 274⟩ : V3)=V3.mv ((⟨q 45,q 46,q 47⟩ : V3).cr (⟨q 48,q 49,q 50⟩ : V3)) ((⟨q 48,q 49,q 50⟩ : V3).cr (⟨q 42,q 43,q 44⟩ : V3)) ((⟨q 42,q 43,q 44⟩ : V3).cr (⟨q 45,q 46,q 47⟩ : V3)) (⟨q 230,q 231,q 232⟩ : V3) := by
  rw [← (V3.mk_cr e53 e56 e59 e51 e52 e54 e55 e57 e58),← (V3.mk_cr e241 e244 e247 e239 e240 e242 e243 e245 e246),← (V3.mk_cr e250 e253 e256 e248 e249 e251 e252 e254 e255)]
  exact V3.mk_mv (V3.mk_dt e61 e262 e260 e258 e257 e259 e261) (V3.mk_dt e61 e268 e266 e264 e263 e265 e267) (V3.mk_dt e61 e274 e272 e270 e269 e271 e273)
 have nm : (⟨q 262,q 268,q 274⟩ : V3) ≠ .no := fun h => nA ((V3.mv_ne (V3.cf_ne hd)).1 (hm.symm.trans h))
 have p1 := V3.mk_pf nm e275 e276 e277
 have n1 : (⟨q 275,q 276,q 277⟩ : V3) ≠ .no := fun h => nm (p1.no_iff.1 h)
 have p2 := (V3.mk_pf n1 e283 e284 e285).trans p1
 rw [hm] at p2
 exact ⟨p2,fun h => n1 ((V3.sq3 e278 e279 e280 e281 e282).1 h)⟩
theorem pK_Pl (H : pK_Q q σ) : (¬ (q 229=0))→((V3.Pr (⟨q 230,q 231,q 232⟩ : V3) (⟨q 222,q 223,q 224⟩ : V3))∧(⟨q 230,q 231,q 232⟩ : V3) ≠ .no) := by
 have e225:q 225=q 222*q 222:=H 225 _ rfl;have e226:q 226=q 223*q 223:=H 226 _ rfl;have e227:q 227=q 225+q 226:=H 227 _ rfl;have e228:q 228=q 224*q 224:=H 228 _ rfl;have e229:q 229=q 227+q 228:=H 229 _ rfl;have e230:q 230=q 222*fac [q 222,q 223,q 224]:=H 230 _ rfl;have e231:q 231=q 223*fac [q 222,q 223,q 224]:=H 231 _ rfl;have e232:q 232=q 224*fac [q 222,q 223,q 224]:=H 232 _ rfl
 clear H
 intro u
 have ne : (⟨q 222,q 223,q 224⟩ : V3) ≠ .no := fun h => u ((V3.sq3 e225 e226 e227 e228 e229).2 h)
 have p := V3.mk_pf ne e230 e231 e232
 refine ⟨?_,fun h => ne (p.no_iff.1 h)⟩
 exact p
theorem pK_O (H : pK_Q q σ) : (V3.dm (⟨q 42,q 43,q 44⟩ : V3) (⟨q 45,q 46,q 47⟩ : V3) (⟨q 48,q 49,q 50⟩ : V3) ≠ 0)→(V3.Pr (⟨q 197,q 198,q 199⟩ : V3) (V3.mv (⟨q 42,q 43,q 44⟩ : V3) (⟨q 45,q 46,q 47⟩ : V3) (⟨q 48,q 49,q 50⟩ : V3) (⟨q 67,q 68,q 69⟩ : V3)))→(V3.Pr (⟨q 283,q 284,q 285⟩ : V3) (V3.mv ((⟨q 45,q 46,q 47⟩ : V3).cr (⟨q 48,q 49,q 50⟩ : V3)) ((⟨q 48,q 49,q 50⟩ : V3).cr (⟨q 42,q 43,q 44⟩ : V3)) ((⟨q 42,q 43,q 44⟩ : V3).cr (⟨q 45,q 46,q 47⟩ : V3)) (⟨q 230,q 231,q 232⟩ : V3)))→((¬ (q 238=0)→¬ (q 291=0))∧(q 238=0→q 291=0)) := by
 have e61:q 61=0:=(H 61 _ rfl).trans pK_c61;have e233:q 233=q 67*q 230:=H 233 _ rfl;have e234:q 234=q 61+q 233:=H 234 _ rfl;have e235:q 235=q 68*q 231:=H 235 _ rfl;have e236:q 236=q 234+q 235:=H 236 _ rfl;have e237:q 237=q 69*q 232:=H 237 _ rfl;have e238:q 238=q 236+q 237:=H 238 _ rfl;have e286:q 286=q 197*q 283:=H 286 _ rfl;have e287:q 287=q 61+q 286:=H 287 _ rfl;have e288:q 288=q 198*q 284:=H 288 _ rfl;have e289:q 289=q 287+q 288:=H 289 _ rfl;have e290:q 290=q 199*q 285:=H 290 _ rfl;have e291:q 291=q 289+q 290:=H 291 _ rfl
 clear H
 intro hd p1 p2
 have h := pk_li hd p1 p2
 rw [← (V3.mk_dt e61 e238 e236 e234 e233 e235 e237),← (V3.mk_dt e61 e291 e289 e287 e286 e288 e290)] at h
 exact ⟨fun a b => a (h.2 b),h.1⟩
theorem pK_Qc (H : pK_Q q σ) : ((⟨q 139,q 140,q 141⟩ : V3) ≠ .no)→(V3.dm (⟨q 42,q 43,q 44⟩ : V3) (⟨q 45,q 46,q 47⟩ : V3) (⟨q 48,q 49,q 50⟩ : V3) ≠ 0)→((V3.Pr (⟨q 311,q 312,q 313⟩ : V3) (V3.mv (⟨q 42,q 43,q 44⟩ : V3) (⟨q 45,q 46,q 47⟩ : V3) (⟨q 48,q 49,q 50⟩ : V3) (⟨q 139,q 140,q 141⟩ : V3)))∧¬ (q 310=0)) := by
 have e61:q 61=0:=(H 61 _ rfl).trans pK_c61;have e142:q 142=q 42*q 139:=H 142 _ rfl;have e143:q 143=q 61+q 142:=H 143 _ rfl;have e144:q 144=q 43*q 140:=H 144 _ rfl;have e145:q 145=q 143+q 144:=H 145 _ rfl;have e146:q 146=q 44*q 141:=H 146 _ rfl;have e147:q 147=q 145+q 146:=H 147 _ rfl;have e148:q 148=q 45*q 139:=H 148 _ rfl;have e149:q 149=q 61+q 148:=H 149 _ rfl;have e150:q 150=q 46*q 140:=H 150 _ rfl;have e151:q 151=q 149+q 150:=H 151 _ rfl;have e152:q 152=q 47*q 141:=H 152 _ rfl;have e153:q 153=q 151+q 152:=H 153 _ rfl;have e154:q 154=q 48*q 139:=H 154 _ rfl;have e155:q 155=q 61+q 154:=H 155 _ rfl;have e156:q 156=q 49*q 140:=H 156 _ rfl;have e157:q 157=q 155+q 156:=H 157 _ rfl;have e158:q 158=q 50*q 141:=H 158 _ rfl;have e159:q 159=q 157+q 158:=H 159 _ rfl;have e160:q 160=q 147*fac [q 147,q 153,q 159]:=H 160 _ rfl;have e161:q 161=q 153*fac [q 147,q 153,q 159]:=H 161 _ rfl;have e162:q 162=q 159*fac [q 147,q 153,q 159]:=H 162 _ rfl;have e306:q 306=q 160*q 160:=H 306 _ rfl;have e307:q 307=q 161*q 161:=H 307 _ rfl;have e308:q 308=q 306+q 307:=H 308 _ rfl;have e309:q 309=q 162*q 162:=H 309 _ rfl;have e310:q 310=q 308+q 309:=H 310 _ rfl;have e311:q 311=q 160*fac [q 160,q 161,q 162]:=H 311 _ rfl;have e312:q 312=q 161*fac [q 160,q 161,q 162]:=H 312 _ rfl;have e313:q 313=q 162*fac [q 160,q 161,q 162]:=H 313 _ rfl
 clear H
 intro nA hd
 have hm := V3.mk_mv (V3.mk_dt e61 e147 e145 e143 e142 e144 e146) (V3.mk_dt e61 e153 e151 e149 e148 e150 e152) (V3.mk_dt e61 e159 e157 e155 e154 e156 e158)
 have nm : (⟨q 147,q 153,q 159⟩ : V3) ≠ .no := fun h => nA ((V3.mv_ne hd).1 (hm.symm.trans h))
 have p1 := V3.mk_pf nm e160 e161 e162
 have n1 : (⟨q 160,q 161,q 162⟩ : V3) ≠ .no := fun h => nm (p1.no_iff.1 h)
 have p2 := (V3.mk_pf n1 e311 e312 e313).trans p1
 rw [hm] at p2
 exact ⟨p2,fun h => n1 ((V3.sq3 e306 e307 e308 e309 e310).1 h)⟩
theorem pK_Pc (H : pK_Q q σ) : (¬ (q 138=0))→((V3.Pr (⟨q 139,q 140,q 141⟩ : V3) (((⟨q 0,q 1,q 2⟩ : V3).sm (q 6)).ad ((⟨q 3,q 4,q 5⟩ : V3).sm (q 8))))∧(⟨q 139,q 140,q 141⟩ : V3) ≠ .no) := by
 have e7:q 7=q 6*q 0:=H 7 _ rfl;have e9:q 9=q 8*q 3:=H 9 _ rfl;have e10:q 10=q 7+q 9:=H 10 _ rfl;have e11:q 11=q 6*q 1:=H 11 _ rfl;have e12:q 12=q 8*q 4:=H 12 _ rfl;have e13:q 13=q 11+q 12:=H 13 _ rfl;have e14:q 14=q 6*q 2:=H 14 _ rfl;have e15:q 15=q 8*q 5:=H 15 _ rfl;have e16:q 16=q 14+q 15:=H 16 _ rfl;have e134:q 134=q 10*q 10:=H 134 _ rfl;have e135:q 135=q 13*q 13:=H 135 _ rfl;have e136:q 136=q 134+q 135:=H 136 _ rfl;have e137:q 137=q 16*q 16:=H 137 _ rfl;have e138:q 138=q 136+q 137:=H 138 _ rfl;have e139:q 139=q 10*fac [q 10,q 13,q 16]:=H 139 _ rfl;have e140:q 140=q 13*fac [q 10,q 13,q 16]:=H 140 _ rfl;have e141:q 141=q 16*fac [q 10,q 13,q 16]:=H 141 _ rfl
 clear H
 intro u
 have ne : (⟨q 10,q 13,q 16⟩ : V3) ≠ .no := fun h => u ((V3.sq3 e134 e135 e136 e137 e138).2 h)
 have p := V3.mk_pf ne e139 e140 e141
 refine ⟨?_,fun h => ne (p.no_iff.1 h)⟩
 rw [← V3.mk_su e10 e13 e16 e7 e9 e11 e12 e14 e15]
 exact p
theorem pK_Xac (H : pK_Q q σ) : (V3.dm (⟨q 42,q 43,q 44⟩ : V3) (⟨q 45,q 46,q 47⟩ : V3) (⟨q 48,q 49,q 50⟩ : V3) ≠ 0)→(V3.Pr (⟨q 197,q 198,q 199⟩ : V3) (V3.mv (⟨q 42,q 43,q 44⟩ : V3) (⟨q 45,q 46,q 47⟩ : V3) (⟨q 48,q 49,q 50⟩ : V3) (⟨q 67,q 68,q 69⟩ : V3)))→(V3.Pr (⟨q 311,q 312,q 313⟩ : V3) (V3.mv (⟨q 42,q 43,q 44⟩ : V3) (⟨q 45,q 46,q 47⟩ : V3) (⟨q 48,q 49,q 50⟩ : V3) (⟨q 139,q 140,q 141⟩ : V3)))→((¬ (q 305=0)→¬ (q 327=0))∧(q 305=0→q 327=0)) := by
 have e292:q 292=q 68*q 141:=H 292 _ rfl;have e293:q 293=q 69*q 140:=H 293 _ rfl;have e294:q 294=q 292-q 293:=H 294 _ rfl;have e295:q 295=q 69*q 139:=H 295 _ rfl;have e296:q 296=q 67*q 141:=H 296 _ rfl;have e297:q 297=q 295-q 296:=H 297 _ rfl;have e298:q 298=q 67*q 140:=H 298 _ rfl;have e299:q 299=q 68*q 139:=H 299 _ rfl;have e300:q 300=q 298-q 299:=H 300 _ rfl;have e301:q 301=q 294*q 294:=H 301 _ rfl;have e302:q 302=q 297*q 297:=H 302 _ rfl;have e303:q 303=q 301+q 302:=H 303 _ rfl;have e304:q 304=q 300*q 300:=H 304 _ rfl;have e305:q 305=q 303+q 304:=H 305 _ rfl;have e314:q 314=q 198*q 313:=H 314 _ rfl;have e315:q 315=q 199*q 312:=H 315 _ rfl;have e316:q 316=q 314-q 315:=H 316 _ rfl;have e317:q 317=q 199*q 311:=H 317 _ rfl;have e318:q 318=q 197*q 313:=H 318 _ rfl;have e319:q 319=q 317-q 318:=H 319 _ rfl;have e320:q 320=q 197*q 312:=H 320 _ rfl;have e321:q 321=q 198*q 311:=H 321 _ rfl;have e322:q 322=q 320-q 321:=H 322 _ rfl;have e323:q 323=q 316*q 316:=H 323 _ rfl;have e324:q 324=q 319*q 319:=H 324 _ rfl;have e325:q 325=q 323+q 324:=H 325 _ rfl;have e326:q 326=q 322*q 322:=H 326 _ rfl;have e327:q 327=q 325+q 326:=H 327 _ rfl
 clear H
 intro hd p1 p2
 have k1 : q 305=0 ↔ (⟨q 67,q 68,q 69⟩ : V3).cr (⟨q 139,q 140,q 141⟩ : V3)=.no := by rw [← (V3.mk_cr e294 e297 e300 e292 e293 e295 e296 e298 e299)]; exact (V3.sq3 e301 e302 e303 e304 e305)
 have k2 : q 327=0 ↔ (⟨q 197,q 198,q 199⟩ : V3).cr (⟨q 311,q 312,q 313⟩ : V3)=.no := by rw [← (V3.mk_cr e316 e319 e322 e314 e315 e317 e318 e320 e321)]; exact (V3.sq3 e323 e324 e325 e326 e327)
 have h := k1.trans ((pk_cr hd p1 p2).trans k2.symm)
 exact ⟨fun a b => a (h.2 b),h.1⟩
theorem pK_Xbc (H : pK_Q q σ) : (V3.dm (⟨q 42,q 43,q 44⟩ : V3) (⟨q 45,q 46,q 47⟩ : V3) (⟨q 48,q 49,q 50⟩ : V3) ≠ 0)→(V3.Pr (⟨q 205,q 206,q 207⟩ : V3) (V3.mv (⟨q 42,q 43,q 44⟩ : V3) (⟨q 45,q 46,q 47⟩ : V3) (⟨q 48,q 49,q 50⟩ : V3) (⟨q 96,q 97,q 98⟩ : V3)))→(V3.Pr (⟨q 311,q 312,q 313⟩ : V3) (V3.mv (⟨q 42,q 43,q 44⟩ : V3) (⟨q 45,q 46,q 47⟩ : V3) (⟨q 48,q 49,q 50⟩ : V3) (⟨q 139,q 140,q 141⟩ : V3)))→((¬ (q 341=0)→¬ (q 355=0))∧(q 341=0→q 355=0)) := by
 have e328:q 328=q 97*q 141:=H 328 _ rfl;have e329:q 329=q 98*q 140:=H 329 _ rfl;have e330:q 330=q 328-q 329:=H 330 _ rfl;have e331:q 331=q 98*q 139:=H 331 _ rfl;have e332:q 332=q 96*q 141:=H 332 _ rfl;have e333:q 333=q 331-q 332:=H 333 _ rfl;have e334:q 334=q 96*q 140:=H 334 _ rfl;have e335:q 335=q 97*q 139:=H 335 _ rfl;have e336:q 336=q 334-q 335:=H 336 _ rfl;have e337:q 337=q 330*q 330:=H 337 _ rfl;have e338:q 338=q 333*q 333:=H 338 _ rfl;have e339:q 339=q 337+q 338:=H 339 _ rfl;have e340:q 340=q 336*q 336:=H 340 _ rfl;have e341:q 341=q 339+q 340:=H 341 _ rfl;have e342:q 342=q 206*q 313:=H 342 _ rfl;have e343:q 343=q 207*q 312:=H 343 _ rfl;have e344:q 344=q 342-q 343:=H 344 _ rfl;have e345:q 345=q 207*q 311:=H 345 _ rfl;have e346:q 346=q 205*q 313:=H 346 _ rfl;have e347:q 347=q 345-q 346:=H 347 _ rfl;have e348:q 348=q 205*q 312:=H 348 _ rfl;have e349:q 349=q 206*q 311:=H 349 _ rfl;have e350:q 350=q 348-q 349:=H 350 _ rfl;have e351:q 351=q 344*q 344:=H 351 _ rfl;have e352:q 352=q 347*q 347:=H 352 _ rfl;have e353:q 353=q 351+q 352:=H 353 _ rfl;have e354:q 354=q 350*q 350:=H 354 _ rfl;have e355:q 355=q 353+q 354:=H 355 _ rfl
 clear H
 intro hd p1 p2
 have k1 : q 341=0 ↔ (⟨q 96,q 97,q 98⟩ : V3).cr (⟨q 139,q 140,q 141⟩ : V3)=.no := by rw [← (V3.mk_cr e330 e333 e336 e328 e329 e331 e332 e334 e335)]; exact (V3.sq3 e337 e338 e339 e340 e341)
 have k2 : q 355=0 ↔ (⟨q 205,q 206,q 207⟩ : V3).cr (⟨q 311,q 312,q 313⟩ : V3)=.no := by rw [← (V3.mk_cr e344 e347 e350 e342 e343 e345 e346 e348 e349)]; exact (V3.sq3 e351 e352 e353 e354 e355)
 have h := k1.trans ((pk_cr hd p1 p2).trans k2.symm)
 exact ⟨fun a b => a (h.2 b),h.1⟩
theorem pK_Qd (H : pK_Q q σ) : ((⟨q 168,q 169,q 170⟩ : V3) ≠ .no)→(V3.dm (⟨q 42,q 43,q 44⟩ : V3) (⟨q 45,q 46,q 47⟩ : V3) (⟨q 48,q 49,q 50⟩ : V3) ≠ 0)→((V3.Pr (⟨q 375,q 376,q 377⟩ : V3) (V3.mv (⟨q 42,q 43,q 44⟩ : V3) (⟨q 45,q 46,q 47⟩ : V3) (⟨q 48,q 49,q 50⟩ : V3) (⟨q 168,q 169,q 170⟩ : V3)))∧¬ (q 374=0)) := by
 have e61:q 61=0:=(H 61 _ rfl).trans pK_c61;have e171:q 171=q 42*q 168:=H 171 _ rfl;have e172:q 172=q 61+q 171:=H 172 _ rfl;have e173:q 173=q 43*q 169:=H 173 _ rfl;have e174:q 174=q 172+q 173:=H 174 _ rfl;have e175:q 175=q 44*q 170:=H 175 _ rfl;have e176:q 176=q 174+q 175:=H 176 _ rfl;have e177:q 177=q 45*q 168:=H 177 _ rfl;have e178:q 178=q 61+q 177:=H 178 _ rfl;have e179:q 179=q 46*q 169:=H 179 _ rfl;have e180:q 180=q 178+q 179:=H 180 _ rfl;have e181:q 181=q 47*q 170:=H 181 _ rfl;have e182:q 182=q 180+q 181:=H 182 _ rfl;have e183:q 183=q 48*q 168:=H 183 _ rfl;have e184:q 184=q 61+q 183:=H 184 _ rfl;have e185:q 185=q 49*q 169:=H 185 _ rfl;have e186:q 186=q 184+q 185:=H 186 _ rfl;have e187:q 187=q 50*q 170:=H 187 _ rfl;have e188:q 188=q 186+q 187:=H 188 _ rfl;have e189:q 189=q 176*fac [q 176,q 182,q 188]:=H 189 _ rfl;have e190:q 190=q 182*fac [q 176,q 182,q 188]:=H 190 _ rfl;have e191:q 191=q 188*fac [q 176,q 182,q 188]:=H 191 _ rfl;have e370:q 370=q 189*q 189:=H 370 _ rfl;have e371:q 371=q 190*q 190:=H 371 _ rfl;have e372:q 372=q 370+q 371:=H 372 _ rfl;have e373:q 373=q 191*q 191:=H 373 _ rfl;have e374:q 374=q 372+q 373:=H 374 _ rfl;have e375:q 375=q 189*fac [q 189,q 190,q 191]:=H 375 _ rfl;have e376:q 376=q 190*fac [q 189,q 190,q 191]:=H 376 _ rfl;have e377:q 377=q 191*fac [q 189,q 190,q 191]:=H 377 _ rfl
 clear H
 intro nA hd
 have hm := V3.mk_mv (V3.mk_dt e61 e176 e174 e172 e171 e173 e175) (V3.mk_dt e61 e182 e180 e178 e177 e179 e181) (V3.mk_dt e61 e188 e186 e184 e183 e185 e187)
 have nm : (⟨q 176,q 182,q 188⟩ : V3) ≠ .no := fun h => nA ((V3.mv_ne hd).1 (hm.symm.trans h))
 have p1 := V3.mk_pf nm e189 e190 e191
 have n1 : (⟨q 189,q 190,q 191⟩ : V3) ≠ .no := fun h => nm (p1.no_iff.1 h)
 have p2 := (V3.mk_pf n1 e375 e376 e377).trans p1
 rw [hm] at p2
 exact ⟨p2,fun h => n1 ((V3.sq3 e370 e371 e372 e373 e374).1 h)⟩
theorem pK_Pd (H : pK_Q q σ) : (¬ (q 167=0))→((V3.Pr (⟨q 168,q 169,q 170⟩ : V3) (((⟨q 0,q 1,q 2⟩ : V3).sm (q 17)).ad ((⟨q 3,q 4,q 5⟩ : V3).sm (q 19))))∧(⟨q 168,q 169,q 170⟩ : V3) ≠ .no) := by
 have e18:q 18=q 17*q 0:=H 18 _ rfl;have e20:q 20=q 19*q 3:=H 20 _ rfl;have e21:q 21=q 18+q 20:=H 21 _ rfl;have e22:q 22=q 17*q 1:=H 22 _ rfl;have e23:q 23=q 19*q 4:=H 23 _ rfl;have e24:q 24=q 22+q 23:=H 24 _ rfl;have e25:q 25=q 17*q 2:=H 25 _ rfl;have e26:q 26=q 19*q 5:=H 26 _ rfl;have e27:q 27=q 25+q 26:=H 27 _ rfl;have e163:q 163=q 21*q 21:=H 163 _ rfl;have e164:q 164=q 24*q 24:=H 164 _ rfl;have e165:q 165=q 163+q 164:=H 165 _ rfl;have e166:q 166=q 27*q 27:=H 166 _ rfl;have e167:q 167=q 165+q 166:=H 167 _ rfl;have e168:q 168=q 21*fac [q 21,q 24,q 27]:=H 168 _ rfl;have e169:q 169=q 24*fac [q 21,q 24,q 27]:=H 169 _ rfl;have e170:q 170=q 27*fac [q 21,q 24,q 27]:=H 170 _ rfl
 clear H
 intro u
 have ne : (⟨q 21,q 24,q 27⟩ : V3) ≠ .no := fun h => u ((V3.sq3 e163 e164 e165 e166 e167).2 h)
 have p := V3.mk_pf ne e168 e169 e170
 refine ⟨?_,fun h => ne (p.no_iff.1 h)⟩
 rw [← V3.mk_su e21 e24 e27 e18 e20 e22 e23 e25 e26]
 exact p
theorem pK_Xad (H : pK_Q q σ) : (V3.dm (⟨q 42,q 43,q 44⟩ : V3) (⟨q 45,q 46,q 47⟩ : V3) (⟨q 48,q 49,q 50⟩ : V3) ≠ 0)→(V3.Pr (⟨q 197,q 198,q 199⟩ : V3) (V3.mv (⟨q 42,q 43,q 44⟩ : V3) (⟨q 45,q 46,q 47⟩ : V3) (⟨q 48,q 49,q 50⟩ : V3) (⟨q 67,q 68,q 69⟩ : V3)))→(V3.Pr (⟨q 375,q 376,q 377⟩ : V3) (V3.mv (⟨q 42,q 43,q 44⟩ : V3) (⟨q 45,q 46,q 47⟩ : V3) (⟨q 48,q 49,q 50⟩ : V3) (⟨q 168,q 169,q 170⟩ : V3)))→((¬ (q 369=0)→¬ (q 391=0))∧(q 369=0→q 391=0)) := by
 have e356:q 356=q 68*q 170:=H 356 _ rfl;have e357:q 357=q 69*q 169:=H 357 _ rfl;have e358:q 358=q 356-q 357:=H 358 _ rfl;have e359:q 359=q 69*q 168:=H 359 _ rfl;have e360:q 360=q 67*q 170:=H 360 _ rfl;have e361:q 361=q 359-q 360:=H 361 _ rfl;have e362:q 362=q 67*q 169:=H 362 _ rfl;have e363:q 363=q 68*q 168:=H 363 _ rfl;have e364:q 364=q 362-q 363:=H 364 _ rfl;have e365:q 365=q 358*q 358:=H 365 _ rfl;have e366:q 366=q 361*q 361:=H 366 _ rfl;have e367:q 367=q 365+q 366:=H 367 _ rfl;have e368:q 368=q 364*q 364:=H 368 _ rfl;have e369:q 369=q 367+q 368:=H 369 _ rfl;have e378:q 378=q 198*q 377:=H 378 _ rfl;have e379:q 379=q 199*q 376:=H 379 _ rfl;have e380:q 380=q 378-q 379:=H 380 _ rfl;have e381:q 381=q 199*q 375:=H 381 _ rfl;have e382:q 382=q 197*q 377:=H 382 _ rfl;have e383:q 383=q 381-q 382:=H 383 _ rfl;have e384:q 384=q 197*q 376:=H 384 _ rfl;have e385:q 385=q 198*q 375:=H 385 _ rfl;have e386:q 386=q 384-q 385:=H 386 _ rfl;have e387:q 387=q 380*q 380:=H 387 _ rfl;have e388:q 388=q 383*q 383:=H 388 _ rfl;have e389:q 389=q 387+q 388:=H 389 _ rfl;have e390:q 390=q 386*q 386:=H 390 _ rfl;have e391:q 391=q 389+q 390:=H 391 _ rfl
 clear H
 intro hd p1 p2
 have k1 : q 369=0 ↔ (⟨q 67,q 68,q 69⟩ : V3).cr (⟨q 168,q 169,q 170⟩ : V3)=.no := by rw [← (V3.mk_cr e358 e361 e364 e356 e357 e359 e360 e362 e363)]; exact (V3.sq3 e365 e366 e367 e368 e369)
 have k2 : q 391=0 ↔ (⟨q 197,q 198,q 199⟩ : V3).cr (⟨q 375,q 376,q 377⟩ : V3)=.no := by rw [← (V3.mk_cr e380 e383 e386 e378 e379 e381 e382 e384 e385)]; exact (V3.sq3 e387 e388 e389 e390 e391)
 have h := k1.trans ((pk_cr hd p1 p2).trans k2.symm)
 exact ⟨fun a b => a (h.2 b),h.1⟩
theorem pK_Xbd (H : pK_Q q σ) : (V3.dm (⟨q 42,q 43,q 44⟩ : V3) (⟨q 45,q 46,q 47⟩ : V3) (⟨q 48,q 49,q 50⟩ : V3) ≠ 0)→(V3.Pr (⟨q 205,q 206,q 207⟩ : V3) (V3.mv (⟨q 42,q 43,q 44⟩ : V3) (⟨q 45,q 46,q 47⟩ : V3) (⟨q 48,q 49,q 50⟩ : V3) (⟨q 96,q 97,q 98⟩ : V3)))→(V3.Pr (⟨q 375,q 376,q 377⟩ : V3) (V3.mv (⟨q 42,q 43,q 44⟩ : V3) (⟨q 45,q 46,q 47⟩ : V3) (⟨q 48,q 49,q 50⟩ : V3) (⟨q 168,q 169,q 170⟩ : V3)))→((¬ (q 405=0)→¬ (q 419=0))∧(q 405=0→q 419=0)) := by
 have e392:q 392=q 97*q 170:=H 392 _ rfl;have e393:q 393=q 98*q 169:=H 393 _ rfl;have e394:q 394=q 392-q 393:=H 394 _ rfl;have e395:q 395=q 98*q 168:=H 395 _ rfl;have e396:q 396=q 96*q 170:=H 396 _ rfl;have e397:q 397=q 395-q 396:=H 397 _ rfl;have e398:q 398=q 96*q 169:=H 398 _ rfl;have e399:q 399=q 97*q 168:=H 399 _ rfl;have e400:q 400=q 398-q 399:=H 400 _ rfl;have e401:q 401=q 394*q 394:=H 401 _ rfl;have e402:q 402=q 397*q 397:=H 402 _ rfl;have e403:q 403=q 401+q 402:=H 403 _ rfl;have e404:q 404=q 400*q 400:=H 404 _ rfl;have e405:q 405=q 403+q 404:=H 405 _ rfl;have e406:q 406=q 206*q 377:=H 406 _ rfl;have e407:q 407=q 207*q 376:=H 407 _ rfl;have e408:q 408=q 406-q 407:=H 408 _ rfl;have e409:q 409=q 207*q 375:=H 409 _ rfl;have e410:q 410=q 205*q 377:=H 410 _ rfl;have e411:q 411=q 409-q 410:=H 411 _ rfl;have e412:q 412=q 205*q 376:=H 412 _ rfl;have e413:q 413=q 206*q 375:=H 413 _ rfl;have e414:q 414=q 412-q 413:=H 414 _ rfl;have e415:q 415=q 408*q 408:=H 415 _ rfl;have e416:q 416=q 411*q 411:=H 416 _ rfl;have e417:q 417=q 415+q 416:=H 417 _ rfl;have e418:q 418=q 414*q 414:=H 418 _ rfl;have e419:q 419=q 417+q 418:=H 419 _ rfl
 clear H
 intro hd p1 p2
 have k1 : q 405=0 ↔ (⟨q 96,q 97,q 98⟩ : V3).cr (⟨q 168,q 169,q 170⟩ : V3)=.no := by rw [← (V3.mk_cr e394 e397 e400 e392 e393 e395 e396 e398 e399)]; exact (V3.sq3 e401 e402 e403 e404 e405)
 have k2 : q 419=0 ↔ (⟨q 205,q 206,q 207⟩ : V3).cr (⟨q 375,q 376,q 377⟩ : V3)=.no := by rw [← (V3.mk_cr e408 e411 e414 e406 e407 e409 e410 e412 e413)]; exact (V3.sq3 e415 e416 e417 e418 e419)
 have h := k1.trans ((pk_cr hd p1 p2).trans k2.symm)
 exact ⟨fun a b => a (h.2 b),h.1⟩
theorem pK_Xcd (H : pK_Q q σ) : (V3.dm (⟨q 42,q 43,q 44⟩ : V3) (⟨q 45,q 46,q 47⟩ : V3) (⟨q 48,q 49,q 50⟩ : V3) ≠ 0)→(V3.Pr (⟨q 311,q 312,q 313⟩ : V3) (V3.mv (⟨q 42,q 43,q 44⟩ : V3) (⟨q 45,q 46,q 47⟩ : V3) (⟨q 48,q 49,q 50⟩ : V3) (⟨q 139,q 140,q 141⟩ : V3)))→(V3.Pr (⟨q 375,q 376,q 377⟩ : V3) (V3.mv (⟨q 42,q 43,q 44⟩ : V3) (⟨q 45,q 46,q 47⟩ : V3) (⟨q 48,q 49,q 50⟩ : V3) (⟨q 168,q 169,q 170⟩ : V3)))→((¬ (q 433=0)→¬ (q 447=0))∧(q 433=0→q 447=0)) := by
 have e420:q 420=q 140*q 170:=H 420 _ rfl;have e421:q 421=q 141*q 169:=H 421 _ rfl;have e422:q 422=q 420-q 421:=H 422 _ rfl;have e423:q 423=q 141*q 168:=H 423 _ rfl;have e424:q 424=q 139*q 170:=H 424 _ rfl;have e425:q 425=q 423-q 424:=H 425 _ rfl;have e426:q 426=q 139*q 169:=H 426 _ rfl;have e427:q 427=q 140*q 168:=H 427 _ rfl;have e428:q 428=q 426-q 427:=H 428 _ rfl;have e429:q 429=q 422*q 422:=H 429 _ rfl;have e430:q 430=q 425*q 425:=H 430 _ rfl;have e431:q 431=q 429+q 430:=H 431 _ rfl;have e432:q 432=q 428*q 428:=H 432 _ rfl;have e433:q 433=q 431+q 432:=H 433 _ rfl;have e434:q 434=q 312*q 377:=H 434 _ rfl;have e435:q 435=q 313*q 376:=H 435 _ rfl;have e436:q 436=q 434-q 435:=H 436 _ rfl;have e437:q 437=q 313*q 375:=H 437 _ rfl;have e438:q 438=q 311*q 377:=H 438 _ rfl;have e439:q 439=q 437-q 438:=H 439 _ rfl;have e440:q 440=q 311*q 376:=H 440 _ rfl;have e441:q 441=q 312*q 375:=H 441 _ rfl;have e442:q 442=q 440-q 441:=H 442 _ rfl;have e443:q 443=q 436*q 436:=H 443 _ rfl;have e444:q 444=q 439*q 439:=H 444 _ rfl;have e445:q 445=q 443+q 444:=H 445 _ rfl;have e446:q 446=q 442*q 442:=H 446 _ rfl;have e447:q 447=q 445+q 446:=H 447 _ rfl
 clear H
 intro hd p1 p2
 have k1 : q 433=0 ↔ (⟨q 139,q 140,q 141⟩ : V3).cr (⟨q 168,q 169,q 170⟩ : V3)=.no := by rw [← (V3.mk_cr e422 e425 e428 e420 e421 e423 e424 e426 e427)]; exact (V3.sq3 e429 e430 e431 e432 e433)
 have k2 : q 447=0 ↔ (⟨q 311,q 312,q 313⟩ : V3).cr (⟨q 375,q 376,q 377⟩ : V3)=.no := by rw [← (V3.mk_cr e436 e439 e442 e434 e435 e437 e438 e440 e441)]; exact (V3.sq3 e443 e444 e445 e446 e447)
 have h := k1.trans ((pk_cr hd p1 p2).trans k2.symm)
 exact ⟨fun a b => a (h.2 b),h.1⟩
theorem pK_Dc (H : pK_Q q σ) : (V3.Pr (⟨q 67,q 68,q 69⟩ : V3) (⟨q 0,q 1,q 2⟩ : V3))→(V3.Pr (⟨q 96,q 97,q 98⟩ : V3) (⟨q 3,q 4,q 5⟩ : V3))→(V3.Pr (⟨q 139,q 140,q 141⟩ : V3) (((⟨q 0,q 1,q 2⟩ : V3).sm (q 6)).ad ((⟨q 3,q 4,q 5⟩ : V3).sm (q 8))))→(q 453=0) := by
 have e61:q 61=0:=(H 61 _ rfl).trans pK_c61;have e99:q 99=q 68*q 98:=H 99 _ rfl;have e100:q 100=q 69*q 97:=H 100 _ rfl;have e101:q 101=q 99-q 100:=H 101 _ rfl;have e102:q 102=q 69*q 96:=H 102 _ rfl;have e103:q 103=q 67*q 98:=H 103 _ rfl;have e104:q 104=q 102-q 103:=H 104 _ rfl;have e105:q 105=q 67*q 97:=H 105 _ rfl;have e106:q 106=q 68*q 96:=H 106 _ rfl;have e107:q 107=q 105-q 106:=H 107 _ rfl;have e448:q 448=q 139*q 101:=H 448 _ rfl;have e449:q 449=q 61+q 448:=H 449 _ rfl;have e450:q 450=q 140*q 104:=H 450 _ rfl;have e451:q 451=q 449+q 450:=H 451 _ rfl;have e452:q 452=q 141*q 107:=H 452 _ rfl;have e453:q 453=q 451+q 452:=H 453 _ rfl
 clear H
 intro a1 b1 c1
 exact (V3.mk_dt e61 e453 e451 e449 e448 e450 e452).trans ((congrArg _ (V3.mk_cr e101 e104 e107 e99 e100 e102 e103 e105 e106)).trans (pk_on a1 b1 c1))
theorem pK_Dd (H : pK_Q q σ) : (V3.Pr (⟨q 67,q 68,q 69⟩ : V3) (⟨q 0,q 1,q 2⟩ : V3))→(V3.Pr (⟨q 96,q 97,q 98⟩ : V3) (⟨q 3,q 4,q 5⟩ : V3))→(V3.Pr (⟨q 168,q 169,q 170⟩ : V3) (((⟨q 0,q 1,q 2⟩ : V3).sm (q 17)).ad ((⟨q 3,q 4,q 5⟩ : V3).sm (q 19))))→(q 459=0) := by
 have e61:q 61=0:=(H 61 _ rfl).trans pK_c61;have e99:q 99=q 68*q 98:=H 99 _ rfl;have e100:q 100=q 69*q 97:=H 100 _ rfl;have e101:q 101=q 99-q 100:=H 101 _ rfl;have e102:q 102=q 69*q 96:=H 102 _ rfl;have e103:q 103=q 67*q 98:=H 103 _ rfl;have e104:q 104=q 102-q 103:=H 104 _ rfl;have e105:q 105=q 67*q 97:=H 105 _ rfl;have e106:q 106=q 68*q 96:=H 106 _ rfl;have e107:q 107=q 105-q 106:=H 107 _ rfl;have e454:q 454=q 168*q 101:=H 454 _ rfl;have e455:q 455=q 61+q 454:=H 455 _ rfl;have e456:q 456=q 169*q 104:=H 456 _ rfl;have e457:q 457=q 455+q 456:=H 457 _ rfl;have e458:q 458=q 170*q 107:=H 458 _ rfl;have e459:q 459=q 457+q 458:=H 459 _ rfl
 clear H
 intro a1 b1 c1
 exact (V3.mk_dt e61 e459 e457 e455 e454 e456 e458).trans ((congrArg _ (V3.mk_cr e101 e104 e107 e99 e100 e102 e103 e105 e106)).trans (pk_on a1 b1 c1))
theorem pK_Ec (H : pK_Q q σ) : (V3.Pr (⟨q 67,q 68,q 69⟩ : V3) (⟨q 0,q 1,q 2⟩ : V3))→(V3.Pr (⟨q 96,q 97,q 98⟩ : V3) (⟨q 3,q 4,q 5⟩ : V3))→(V3.Pr (⟨q 139,q 140,q 141⟩ : V3) (((⟨q 0,q 1,q 2⟩ : V3).sm (q 6)).ad ((⟨q 3,q 4,q 5⟩ : V3).sm (q 8))))→(V3.Pr (⟨q 197,q 198,q 199⟩ : V3) (V3.mv (⟨q 42,q 43,q 44⟩ : V3) (⟨q 45,q 46,q 47⟩ : V3) (⟨q 48,q 49,q 50⟩ : V3) (⟨q 67,q 68,q 69⟩ : V3)))→(V3.Pr (⟨q 205,q 206,q 207⟩ : V3) (V3.mv (⟨q 42,q 43,q 44⟩ : V3) (⟨q 45,q 46,q 47⟩ : V3) (⟨q 48,q 49,q 50⟩ : V3) (⟨q 96,q 97,q 98⟩ : V3)))→(V3.Pr (⟨q 311,q 312,q 313⟩ : V3) (V3.mv (⟨q 42,q 43,q 44⟩ : V3) (⟨q 45,q 46,q 47⟩ : V3) (⟨q 48,q 49,q 50⟩ : V3) (⟨q 139,q 140,q 141⟩ : V3)))→(q 510=0) := by
 have e61:q 61=0:=(H 61 _ rfl).trans pK_c61;have e208:q 208=q 198*q 207:=H 208 _ rfl;have e209:q 209=q 199*q 206:=H 209 _ rfl;have e210:q 210=q 208-q 209:=H 210 _ rfl;have e211:q 211=q 199*q 205:=H 211 _ rfl;have e212:q 212=q 197*q 207:=H 212 _ rfl;have e213:q 213=q 211-q 212:=H 213 _ rfl;have e214:q 214=q 197*q 206:=H 214 _ rfl;have e215:q 215=q 198*q 205:=H 215 _ rfl;have e216:q 216=q 214-q 215:=H 216 _ rfl;have e505:q 505=q 311*q 210:=H 505 _ rfl;have e506:q 506=q 61+q 505:=H 506 _ rfl;have e507:q 507=q 312*q 213:=H 507 _ rfl;have e508:q 508=q 506+q 507:=H 508 _ rfl;have e509:q 509=q 313*q 216:=H 509 _ rfl;have e510:q 510=q 508+q 509:=H 510 _ rfl
 clear H
 intro a1 b1 c1 a2 b2 c2
 exact (V3.mk_dt e61 e510 e508 e506 e505 e507 e509).trans ((congrArg _ (V3.mk_cr e210 e213 e216 e208 e209 e211 e212 e214 e215)).trans (pk_on (a2.trans (V3.Pr.mv _ _ _ a1)) (b2.trans (V3.Pr.mv _ _ _ b1)) (pk_im c2 c1)))
theorem pK_Ed (H : pK_Q q σ) : (V3.Pr (⟨q 67,q 68,q 69⟩ : V3) (⟨q 0,q 1,q 2⟩ : V3))→(V3.Pr (⟨q 96,q 97,q 98⟩ : V3) (⟨q 3,q 4,q 5⟩ : V3))→(V3.Pr (⟨q 168,q 169,q 170⟩ : V3) (((⟨q 0,q 1,q 2⟩ : V3).sm (q 17)).ad ((⟨q 3,q 4,q 5⟩ : V3).sm (q 19))))→(V3.Pr (⟨q 197,q 198,q 199⟩ : V3) (V3.mv (⟨q 42,q 43,q 44⟩ : V3) (⟨q 45,q 46,q 47⟩ : V3) (⟨q 48,q 49,q 50⟩ : V3) (⟨q 67,q 68,q 69⟩ : V3)))→(V3.Pr (⟨q 205,q 206,q 207⟩ : V3) (V3.mv (⟨q 42,q 43,q 44⟩ : V3) (⟨q 45,q 46,q 47⟩ : V3) (⟨q 48,q 49,q 50⟩ : V3) (⟨q 96,q 97,q 98⟩ : V3)))→(V3.Pr (⟨q 375,q 376,q 377⟩ : V3) (V3.mv (⟨q 42,q 43,q 44⟩ : V3) (⟨q 45,q 46,q 47⟩ : V3) (⟨q 48,q 49,q 50⟩ : V3) (⟨q 168,q 169,q 170⟩ : V3)))→(q 516=0) := by
 have e61:q 61=0:=(H 61 _ rfl).trans pK_c61;have e208:q 208=q 198*q 207:=H 208 _ rfl;have e209:q 209=q 199*q 206:=H 209 _ rfl;have e210:q 210=q 208-q 209:=H 210 _ rfl;have e211:q 211=q 199*q 205:=H 211 _ rfl;have e212:q 212=q 197*q 207:=H 212 _ rfl;have e213:q 213=q 211-q 212:=H 213 _ rfl;have e214:q 214=q 197*q 206:=H 214 _ rfl;have e215:q 215=q 198*q 205:=H 215 _ rfl;have e216:q 216=q 214-q 215:=H 216 _ rfl;have e511:q 511=q 375*q 210:=H 511 _ rfl;have e512:q 512=q 61+q 511:=H 512 _ rfl;have e513:q 513=q 376*q 213:=H 513 _ rfl;have e514:q 514=q 512+q 513:=H 514 _ rfl;have e515:q 515=q 377*q 216:=H 515 _ rfl;have e516:q 516=q 514+q 515:=H 516 _ rfl
 clear H
 intro a1 b1 d1 a2 b2 d2
 exact (V3.mk_dt e61 e516 e514 e512 e511 e513 e515).trans ((congrArg _ (V3.mk_cr e210 e213 e216 e208 e209 e211 e212 e214 e215)).trans (pk_on (a2.trans (V3.Pr.mv _ _ _ a1)) (b2.trans (V3.Pr.mv _ _ _ b1)) (pk_im d2 d1)))
theorem pK_R (H : pK_Q q σ) : (V3.Pr (⟨q 67,q 68,q 69⟩ : V3) (⟨q 0,q 1,q 2⟩ : V3))→(V3.Pr (⟨q 96,q 97,q 98⟩ : V3) (⟨q 3,q 4,q 5⟩ : V3))→(V3.Pr (⟨q 139,q 140,q 141⟩ : V3) (((⟨q 0,q 1,q 2⟩ : V3).sm (q 6)).ad ((⟨q 3,q 4,q 5⟩ : V3).sm (q 8))))→(V3.Pr (⟨q 168,q 169,q 170⟩ : V3) (((⟨q 0,q 1,q 2⟩ : V3).sm (q 17)).ad ((⟨q 3,q 4,q 5⟩ : V3).sm (q 19))))→(V3.Pr (⟨q 197,q 198,q 199⟩ : V3) (V3.mv (⟨q 42,q 43,q 44⟩ : V3) (⟨q 45,q 46,q 47⟩ : V3) (⟨q 48,q 49,q 50⟩ : V3) (⟨q 67,q 68,q 69⟩ : V3)))→(V3.Pr (⟨q 205,q 206,q 207⟩ : V3) (V3.mv (⟨q 42,q 43,q 44⟩ : V3) (⟨q 45,q 46,q 47⟩ : V3) (⟨q 48,q 49,q 50⟩ : V3) (⟨q 96,q 97,q 98⟩ : V3)))→(V3.Pr (⟨q 311,q 312,q 313⟩ : V3) (V3.mv (⟨q 42,q 43,q 44⟩ : V3) (⟨q 45,q 46,q 47⟩ : V3) (⟨q 48,q 49,q 50⟩ : V3) (⟨q 139,q 140,q 141⟩ : V3)))→(V3.Pr (⟨q 375,q 376,q 377⟩ : V3) (V3.mv (⟨q 42,q 43,q 44⟩ : V3) (⟨q 45,q 46,q 47⟩ : V3) (⟨q 48,q 49,q 50⟩ : V3) (⟨q 168,q 169,q 170⟩ : V3)))→(¬ (q 112=0))→(¬ (q 221=0))→(¬ (q 341=0))→(¬ (q 369=0))→(q 504=q 561) := by
 have e61:q 61=0:=(H 61 _ rfl).trans pK_c61;have e99:q 99=q 68*q 98:=H 99 _ rfl;have e100:q 100=q 69*q 97:=H 100 _ rfl;have e101:q 101=q 99-q 100:=H 101 _ rfl;have e102:q 102=q 69*q 96:=H 102 _ rfl;have e103:q 103=q 67*q 98:=H 103 _ rfl;have e104:q 104=q 102-q 103:=H 104 _ rfl;have e105:q 105=q 67*q 97:=H 105 _ rfl;have e106:q 106=q 68*q 96:=H 106 _ rfl;have e107:q 107=q 105-q 106:=H 107 _ rfl;have e108:q 108=q 101*q 101:=H 108 _ rfl;have e109:q 109=q 104*q 104:=H 109 _ rfl;have e110:q 110=q 108+q 109:=H 110 _ rfl;have e111:q 111=q 107*q 107:=H 111 _ rfl;have e112:q 112=q 110+q 111:=H 112 _ rfl;have e208:q 208=q 198*q 207:=H 208 _ rfl;have e209:q 209=q 199*q 206:=H 209 _ rfl;have e210:q 210=q 208-q 209:=H 210 _ rfl;have e211:q 211=q 199*q 205:=H 211 _ rfl;have e212:q 212=q 197*q 207:=H 212 _ rfl;have e213:q 213=q 211-q 212:=H 213 _ rfl;have e214:q 214=q 197*q 206:=H 214 _ rfl;have e215:q 215=q 198*q 205:=H 215 _ rfl;have e216:q 216=q 214-q 215:=H 216 _ rfl;have e217:q 217=q 210*q 210:=H 217 _ rfl;have e218:q 218=q 213*q 213:=H 218 _ rfl;have e219:q 219=q 217+q 218:=H 219 _ rfl;have e220:q 220=q 216*q 216:=H 220 _ rfl;have e221:q 221=q 219+q 220:=H 221 _ rfl;have e292:q 292=q 68*q 141:=H 292 _ rfl;have e293:q 293=q 69*q 140:=H 293 _ rfl;have e294:q 294=q 292-q 293:=H 294 _ rfl;have e295:q 295=q 69*q 139:=H 295 _ rfl;have e296:q 296=q 67*q 141:=H 296 _ rfl;have e297:q 297=q 295-q 296:=H 297 _ rfl;have e298:q 298=q 67*q 140:=H 298 _ rfl;have e299:q 299=q 68*q 139:=H 299 _ rfl;have e300:q 300=q 298-q 299:=H 300 _ rfl;have e314:q 314=q 198*q 313:=H 314 _ rfl;have e315:q 315=q 199*q 312:=H 315 _ rfl;have e316:q 316=q 314-q 315:=H 316 _ rfl;have e317:q 317=q 199*q 311:=H 317 _ rfl;have e318:q 318=q 197*q 313:=H 318 _ rfl;have e319:q 319=q 317-q 318:=H 319 _ rfl;have e320:q 320=q 197*q 312:=H 320 _ rfl;have e321:q 321=q 198*q 311:=H 321 _ rfl;have e322:q 322=q 320-q 321:=H 322 _ rfl;have e328:q 328=q 97*q 141:=H 328 _ rfl;have e329:q 329=q 98*q 140:=H 329 _ rfl;have e330:q 330=q 328-q 329:=H 330 _ rfl;have e331:q 331=q 98*q 139:=H 331 _ rfl;have e332:q 332=q 96*q 141:=H 332 _ rfl;have e333:q 333=q 331-q 332:=H 333 _ rfl;have e334:q 334=q 96*q 140:=H 334 _ rfl;have e335:q 335=q 97*q 139:=H 335 _ rfl;have e336:q 336=q 334-q 335:=H 336 _ rfl;have e337:q 337=q 330*q 330:=H 337 _ rfl;have e338:q 338=q 333*q 333:=H 338 _ rfl;have e339:q 339=q 337+q 338:=H 339 _ rfl;have e340:q 340=q 336*q 336:=H 340 _ rfl;have e341:q 341=q 339+q 340:=H 341 _ rfl;have e356:q 356=q 68*q 170:=H 356 _ rfl;have e357:q 357=q 69*q 169:=H 357 _ rfl;have e358:q 358=q 356-q 357:=H 358 _ rfl;have e359:q 359=q 69*q 168:=H 359 _ rfl;have e360:q 360=q 67*q 170:=H 360 _ rfl;have e361:q 361=q 359-q 360:=H 361 _ rfl;have e362:q 362=q 67*q 169:=H 362 _ rfl;have e363:q 363=q 68*q 168:=H 363 _ rfl;have e364:q 364=q 362-q 363:=H 364 _ rfl;have e365:q 365=q 358*q 358:=H 365 _ rfl;have e366:q 366=q 361*q 361:=H 366 _ rfl;have e367:q 367=q 365+q 366:=H 367 _ rfl;have e368:q 368=q 364*q 364:=H 368 _ rfl;have e369:q 369=q 367+q 368:=H 369 _ rfl;have e378:q 378=q 198*q 377:=H 378 _ rfl;have e379:q 379=q 199*q 376:=H 379 _ rfl;have e380:q 380=q 378-q 379:=H 380 _ rfl;have e381:q 381=q 199*q 375:=H 381 _ rfl;have e382:q 382=q 197*q 377:=H 382 _ rfl;have e383:q 383=q 381-q 382:=H 383 _ rfl;have e384:q 384=q 197*q 376:=H 384 _ rfl;have e385:q 385=q 198*q 375:=H 385 _ rfl;have e386:q 386=q 384-q 385:=H 386 _ rfl;have e460:q 460=q 140*q 98:=H 460 _ rfl;have e461:q 461=q 141*q 97:=H 461 _ rfl;have e462:q 462=q 460-q 461:=H 462 _ rfl;have e463:q 463=q 141*q 96:=H 463 _ rfl;have e464:q 464=q 139*q 98:=H 464 _ rfl;have e465:q 465=q 463-q 464:=H 465 _ rfl;have e466:q 466=q 139*q 97:=H 466 _ rfl;have e467:q 467=q 140*q 96:=H 467 _ rfl;have e468:q 468=q 466-q 467:=H 468 _ rfl;have e469:q 469=q 462*q 101:=H 469 _ rfl;have e470:q 470=q 61+q 469:=H 470 _ rfl;have e471:q 471=q 465*q 104:=H 471 _ rfl;have e472:q 472=q 470+q 471:=H 472 _ rfl;have e473:q 473=q 468*q 107:=H 473 _ rfl;have e474:q 474=q 472+q 473:=H 474 _ rfl;have e475:q 475=q 294*q 101:=H 475 _ rfl;have e476:q 476=q 61+q 475:=H 476 _ rfl;have e477:q 477=q 297*q 104:=H 477 _ rfl;have e478:q 478=q 476+q 477:=H 478 _ rfl;have e479:q 479=q 300*q 107:=H 479 _ rfl;have e480:q 480=q 478+q 479:=H 480 _ rfl;have e481:q 481=q 169*q 98:=H 481 _ rfl;have e482:q 482=q 170*q 97:=H 482 _ rfl;have e483:q 483=q 481-q 482:=H 483 _ rfl;have e484:q 484=q 170*q 96:=H 484 _ rfl;have e485:q 485=q 168*q 98:=H 485 _ rfl;have e486:q 486=q 484-q 485:=H 486 _ rfl;have e487:q 487=q 168*q 97:=H 487 _ rfl;have e488:q 488=q 169*q 96:=H 488 _ rfl;have e489:q 489=q 487-q 488:=H 489 _ rfl;have e490:q 490=q 483*q 101:=H 490 _ rfl;have e491:q 491=q 61+q 490:=H 491 _ rfl;have e492:q 492=q 486*q 104:=H 492 _ rfl;have e493:q 493=q 491+q 492:=H 493 _ rfl;have e494:q 494=q 489*q 107:=H 494 _ rfl;have e495:q 495=q 493+q 494:=H 495 _ rfl;have e496:q 496=q 358*q 101:=H 496 _ rfl;have e497:q 497=q 61+q 496:=H 497 _ rfl;have e498:q 498=q 361*q 104:=H 498 _ rfl;have e499:q 499=q 497+q 498:=H 499 _ rfl;have e500:q 500=q 364*q 107:=H 500 _ rfl;have e501:q 501=q 499+q 500:=H 501 _ rfl;have e502:q 502=q 480/q 474:=H 502 _ rfl;have e503:q 503=q 495/q 501:=H 503 _ rfl;have e504:q 504=q 502*q 503:=H 504 _ rfl;have e517:q 517=q 312*q 207:=H 517 _ rfl;have e518:q 518=q 313*q 206:=H 518 _ rfl;have e519:q 519=q 517-q 518:=H 519 _ rfl;have e520:q 520=q 313*q 205:=H 520 _ rfl;have e521:q 521=q 311*q 207:=H 521 _ rfl;have e522:q 522=q 520-q 521:=H 522 _ rfl;have e523:q 523=q 311*q 206:=H 523 _ rfl;have e524:q 524=q 312*q 205:=H 524 _ rfl;have e525:q 525=q 523-q 524:=H 525 _ rfl;have e526:q 526=q 519*q 210:=H 526 _ rfl;have e527:q 527=q 61+q 526:=H 527 _ rfl;have e528:q 528=q 522*q 213:=H 528 _ rfl;have e529:q 529=q 527+q 528:=H 529 _ rfl;have e530:q 530=q 525*q 216:=H 530 _ rfl;have e531:q 531=q 529+q 530:=H 531 _ rfl;have e532:q 532=q 316*q 210:=H 532 _ rfl;have e533:q 533=q 61+q 532:=H 533 _ rfl;have e534:q 534=q 319*q 213:=H 534 _ rfl;have e535:q 535=q 533+q 534:=H 535 _ rfl;have e536:q 536=q 322*q 216:=H 536 _ rfl;have e537:q 537=q 535+q 536:=H 537 _ rfl;have e538:q 538=q 376*q 207:=H 538 _ rfl;have e539:q 539=q 377*q 206:=H 539 _ rfl;have e540:q 540=q 538-q 539:=H 540 _ rfl;have e541:q 541=q 377*q 205:=H 541 _ rfl;have e542:q 542=q 375*q 207:=H 542 _ rfl;have e543:q 543=q 541-q 542:=H 543 _ rfl;have e544:q 544=q 375*q 206:=H 544 _ rfl;have e545:q 545=q 376*q 205:=H 545 _ rfl;have e546:q 546=q 544-q 545:=H 546 _ rfl;have e547:q 547=q 540*q 210:=H 547 _ rfl;have e548:q 548=q 61+q 547:=H 548 _ rfl;have e549:q 549=q 543*q 213:=H 549 _ rfl;have e550:q 550=q 548+q 549:=H 550 _ rfl;have e551:q 551=q 546*q 216:=H 551 _ rfl;have e552:q 552=q 550+q 551:=H 552 _ rfl;have e553:q 553=q 380*q 210:=H 553 _ rfl;have e554:q 554=q 61+q 553:=H 554 _ rfl;have e555:q 555=q 383*q 213:=H 555 _ rfl;have e556:q 556=q 554+q 555:=H 556 _ rfl;have e557:q 557=q 386*q 216:=H 557 _ rfl;have e558:q 558=q 556+q 557:=H 558 _ rfl;have e559:q 559=q 537/q 531:=H 559 _ rfl;have e560:q 560=q 552/q 558:=H 560 _ rfl;have e561:q 561=q 559*q 560:=H 561 _ rfl
 clear H
 intro a1 b1 c1 d1 a2 b2 c2 d2 u1 u2 u3 u4
 have k0 := pk_k b1 c1 (show (⟨q 96,q 97,q 98⟩ : V3).cr (⟨q 139,q 140,q 141⟩ : V3) ≠ .no from fun h => u3 ((V3.sq3 e337 e338 e339 e340 e341).2 ((V3.mk_cr e330 e333 e336 e328 e329 e331 e332 e334 e335).trans h)))
 have k1 := pk_n a1 d1 (show (⟨q 67,q 68,q 69⟩ : V3).cr (⟨q 168,q 169,q 170⟩ : V3) ≠ .no from fun h => u4 ((V3.sq3 e365 e366 e367 e368 e369).2 ((V3.mk_cr e358 e361 e364 e356 e357 e359 e360 e362 e363).trans h)))
 have r1 := pk_ra a1 b1 c1 d1 (show (⟨q 67,q 68,q 69⟩ : V3).cr (⟨q 96,q 97,q 98⟩ : V3) ≠ .no from fun h => u1 ((V3.sq3 e108 e109 e110 e111 e112).2 ((V3.mk_cr e101 e104 e107 e99 e100 e102 e103 e105 e106).trans h))) k0 k1
 have r2 := pk_ra (a2.trans (V3.Pr.mv _ _ _ a1)) (b2.trans (V3.Pr.mv _ _ _ b1)) (pk_im c2 c1) (pk_im d2 d1) (show (⟨q 197,q 198,q 199⟩ : V3).cr (⟨q 205,q 206,q 207⟩ : V3) ≠ .no from fun h => u2 ((V3.sq3 e217 e218 e219 e220 e221).2 ((V3.mk_cr e210 e213 e216 e208 e209 e211 e212 e214 e215).trans h))) k0 k1
 have t1 : q 504=(((⟨q 67,q 68,q 69⟩ : V3).cr (⟨q 139,q 140,q 141⟩ : V3)).dt ((⟨q 67,q 68,q 69⟩ : V3).cr (⟨q 96,q 97,q 98⟩ : V3)) / ((⟨q 139,q 140,q 141⟩ : V3).cr (⟨q 96,q 97,q 98⟩ : V3)).dt ((⟨q 67,q 68,q 69⟩ : V3).cr (⟨q 96,q 97,q 98⟩ : V3)))*(((⟨q 168,q 169,q 170⟩ : V3).cr (⟨q 96,q 97,q 98⟩ : V3)).dt ((⟨q 67,q 68,q 69⟩ : V3).cr (⟨q 96,q 97,q 98⟩ : V3)) / ((⟨q 67,q 68,q 69⟩ : V3).cr (⟨q 168,q 169,q 170⟩ : V3)).dt ((⟨q 67,q 68,q 69⟩ : V3).cr (⟨q 96,q 97,q 98⟩ : V3))) := by rw [e504,e502,e503,V3.mk_dt e61 e480 e478 e476 e475 e477 e479,V3.mk_dt e61 e474 e472 e470 e469 e471 e473,V3.mk_dt e61 e495 e493 e491 e490 e492 e494,V3.mk_dt e61 e501 e499 e497 e496 e498 e500,V3.mk_cr e101 e104 e107 e99 e100 e102 e103 e105 e106,V3.mk_cr e294 e297 e300 e292 e293 e295 e296 e298 e299,V3.mk_cr e462 e465 e468 e460 e461 e463 e464 e466 e467,V3.mk_cr e483 e486 e489 e481 e482 e484 e485 e487 e488,V3.mk_cr e358 e361 e364 e356 e357 e359 e360 e362 e363]
 have t2 : q 561=(((⟨q 197,q 198,q 199⟩ : V3).cr (⟨q 311,q 312,q 313⟩ : V3)).dt ((⟨q 197,q 198,q 199⟩ : V3).cr (⟨q 205,q 206,q 207⟩ : V3)) / ((⟨q 311,q 312,q 313⟩ : V3).cr (⟨q 205,q 206,q 207⟩ : V3)).dt ((⟨q 197,q 198,q 199⟩ : V3).cr (⟨q 205,q 206,q 207⟩ : V3)))*(((⟨q 375,q 376,q 377⟩ : V3).cr (⟨q 205,q 206,q 207⟩ : V3)).dt ((⟨q 197,q 198,q 199⟩ : V3).cr (⟨q 205,q 206,q 207⟩ : V3)) / ((⟨q 197,q 198,q 199⟩ : V3).cr (⟨q 375,q 376,q 377⟩ : V3)).dt ((⟨q 197,q 198,q 199⟩ : V3).cr (⟨q 205,q 206,q 207⟩ : V3))) := by rw [e561,e559,e560,V3.mk_dt e61 e537 e535 e533 e532 e534 e536,V3.mk_dt e61 e531 e529 e527 e526 e528 e530,V3.mk_dt e61 e552 e550 e548 e547 e549 e551,V3.mk_dt e61 e558 e556 e554 e553 e555 e557,V3.mk_cr e210 e213 e216 e208 e209 e211 e212 e214 e215,V3.mk_cr e316 e319 e322 e314 e315 e317 e318 e320 e321,V3.mk_cr e519 e522 e525 e517 e518 e520 e521 e523 e524,V3.mk_cr e540 e543 e546 e538 e539 e541 e542 e544 e545,V3.mk_cr e380 e383 e386 e378 e379 e381 e382 e384 e385]
 exact (t1.trans r1).trans (t2.trans r2).symm
def pK_cs : List (FuncId × Nat) := [(178,60),(22,61),(23,62),(170,64)]
def pK_G : Memo := [(103,[qA [197,198,199],qA [205,206,207],qA [375,376,377]],qA [552,558]),(103,[qA [197,198,199],qA [205,206,207],qA [311,312,313]],qA [531,537]),(112,[qA [375,376,377],qA [210,213,216]],qA [516]),(112,[qA [311,312,313],qA [210,213,216]],qA [510]),(103,[qA [67,68,69],qA [96,97,98],qA [168,169,170]],qA [495,501]),(103,[qA [67,68,69],qA [96,97,98],qA [139,140,141]],qA [474,480]),(112,[qA [168,169,170],qA [101,104,107]],qA [459]),(112,[qA [139,140,141],qA [101,104,107]],qA [453]),(94,[qA [311,312,313],qA [375,376,377]],qA [436,439,442]),(94,[qA [139,140,141],qA [168,169,170]],qA [422,425,428]),(94,[qA [205,206,207],qA [375,376,377]],qA [408,411,414]),(94,[qA [96,97,98],qA [168,169,170]],qA [394,397,400]),(94,[qA [197,198,199],qA [375,376,377]],qA [380,383,386]),(94,[qA [67,68,69],qA [168,169,170]],qA [358,361,364]),(94,[qA [205,206,207],qA [311,312,313]],qA [344,347,350]),(94,[qA [96,97,98],qA [139,140,141]],qA [330,333,336]),(94,[qA [197,198,199],qA [311,312,313]],qA [316,319,322]),(94,[qA [67,68,69],qA [139,140,141]],qA [294,297,300]),(112,[qA [197,198,199],qA [283,284,285]],qA [291]),(107,[qA [262,268,274]],tA [275,276,277]),(112,[qA [67,68,69],qA [230,231,232]],qA [238]),(94,[qA [197,198,199],qA [205,206,207]],qA [210,213,216]),(107,[qA [176,182,188]],tA [189,190,191]),(107,[qA [147,153,159]],tA [160,161,162]),(107,[qA [118,124,130]],tA [131,132,133]),(94,[qA [67,68,69],qA [96,97,98]],qA [101,104,107]),(107,[qA [80,86,92]],tA [93,94,95]),(94,[qA [45,46,47],qA [48,49,50]],qA [53,56,59]),(40,[pA [9,10,11],pA [12,13,14],(false,[(false,[.inr (2,17,0,0,0)])]),(false,[(false,[.inr (2,18,0,0,0)])])],tA [21,24,27]),(40,[pA [9,10,11],pA [12,13,14],(false,[(false,[.inr (2,15,0,0,0)])]),(false,[(false,[.inr (2,16,0,0,0)])])],tA [10,13,16])]
theorem pK_g0 : memoChk (sx Tryz.prog pK_N [] [] pK_L pK_C pK_Z (prC [43])) pK_cs 5 12 (pK_G.drop 0)=true := by kernel_rfl
theorem pK_g1 : memoChk (sx Tryz.prog pK_N [] [] pK_L pK_C pK_Z (prC [43])) pK_cs 5 18 (pK_G.drop 12)=true := by kernel_rfl
theorem pK_memoG {q : Nat→Rat} {σ : Nat→ByteArray} {w : World} (hσ : ∀ j,(σ j).size≤1048576) (hq : ∀ (a : Nat) nd,pK_N[a]? = some nd→q a=valN σ q nd) (h0 : ∀ a,pK_N.length≤a→q a=0) (hp : PreS w) : MemoAll pK_N pK_L pK_C pK_Z q σ [43] w pK_G := by
 have Y : Hy pK_N [] pK_L pK_C pK_Z q σ := hy_ofW hσ pK_wf pK_sz pK_lt pK_cn hq h0 trivial
 have hc : ∀ f ∈ ([43] : List FuncId),Closed f := by simp [closed_projected]
 have hm : (Tryz.prog).follows .mixedOrders=true := by kernel_rfl
 exact (memoAll_chk (M := pK_G.drop 0) Y hc hm hp 12 pK_g0 (memoAll_chk (M := pK_G.drop 12) Y hc hm hp 18 pK_g1 memoAll_nil))
def pK_H0 : List (Nat × Nat × Nat × Nat) := [(0,32,0,1),(0,66,0,1)]
def pK_H1 : List (Nat × Nat × Nat × Nat) := [(0,32,0,1),(0,66,0,0)]
def pK_H2 : List (Nat × Nat × Nat × Nat) := [(0,32,0,0),(0,74,0,1),(0,66,0,1)]
def pK_H3 : List (Nat × Nat × Nat × Nat) := [(0,32,0,0),(0,74,0,1),(0,66,0,0)]
def pK_H4 : List (Nat × Nat × Nat × Nat) := [(0,32,0,0),(0,74,0,0),(0,112,0,1),(0,66,0,1)]
def pK_H5 : List (Nat × Nat × Nat × Nat) := [(0,32,0,0),(0,74,0,0),(0,112,0,1),(0,66,0,0),(0,138,0,1)]
def pK_H6 : List (Nat × Nat × Nat × Nat) := [(0,32,0,0),(0,74,0,0),(0,112,0,1),(0,66,0,0),(0,138,0,0),(0,167,0,1)]
def pK_H7 : List (Nat × Nat × Nat × Nat) := [(0,32,0,0),(0,74,0,0),(0,112,0,1),(0,66,0,0),(0,138,0,0),(0,167,0,0),(0,196,0,0),(0,204,0,0),(0,221,0,1),(0,229,0,1)]
def pK_H8 : List (Nat × Nat × Nat × Nat) := [(0,32,0,0),(0,74,0,0),(0,112,0,1),(0,66,0,0),(0,138,0,0),(0,167,0,0),(0,196,0,0),(0,204,0,0),(0,221,0,1),(0,229,0,0),(0,238,0,1),(0,282,0,0),(0,291,0,1)]
def pK_H9 : List (Nat × Nat × Nat × Nat) := [(0,32,0,0),(0,74,0,0),(0,112,0,1),(0,66,0,0),(0,138,0,0),(0,167,0,0),(0,196,0,0),(0,204,0,0),(0,221,0,1),(0,229,0,0),(0,238,0,0),(0,282,0,0),(0,291,0,0)]
def pK_H10 : List (Nat × Nat × Nat × Nat) := [(0,32,0,0),(0,74,0,0),(0,112,0,0),(0,138,0,1),(0,66,0,1)]
def pK_H11 : List (Nat × Nat × Nat × Nat) := [(0,32,0,0),(0,74,0,0),(0,112,0,0),(0,138,0,1),(0,66,0,0)]
def pK_H12 : List (Nat × Nat × Nat × Nat) := [(0,32,0,0),(0,74,0,0),(0,112,0,0),(0,138,0,0),(0,305,0,1),(0,66,0,1)]
def pK_H13 : List (Nat × Nat × Nat × Nat) := [(0,32,0,0),(0,74,0,0),(0,112,0,0),(0,138,0,0),(0,305,0,1),(0,66,0,0),(0,167,0,1)]
def pK_H14 : List (Nat × Nat × Nat × Nat) := [(0,32,0,0),(0,74,0,0),(0,112,0,0),(0,138,0,0),(0,305,0,1),(0,66,0,0),(0,167,0,0),(0,196,0,0),(0,204,0,0),(0,221,0,0),(0,310,0,0),(0,327,0,1),(0,229,0,1)]
def pK_H15 : List (Nat × Nat × Nat × Nat) := [(0,32,0,0),(0,74,0,0),(0,112,0,0),(0,138,0,0),(0,305,0,1),(0,66,0,0),(0,167,0,0),(0,196,0,0),(0,204,0,0),(0,221,0,0),(0,310,0,0),(0,327,0,1),(0,229,0,0),(0,238,0,1),(0,282,0,0),(0,291,0,1)]
def pK_H16 : List (Nat × Nat × Nat × Nat) := [(0,32,0,0),(0,74,0,0),(0,112,0,0),(0,138,0,0),(0,305,0,1),(0,66,0,0),(0,167,0,0),(0,196,0,0),(0,204,0,0),(0,221,0,0),(0,310,0,0),(0,327,0,1),(0,229,0,0),(0,238,0,0),(0,282,0,0),(0,291,0,0)]
def pK_H17 : List (Nat × Nat × Nat × Nat) := [(0,32,0,0),(0,74,0,0),(0,112,0,0),(0,138,0,0),(0,305,0,0),(0,341,0,1),(0,66,0,1)]
def pK_H18 : List (Nat × Nat × Nat × Nat) := [(0,32,0,0),(0,74,0,0),(0,112,0,0),(0,138,0,0),(0,305,0,0),(0,341,0,1),(0,66,0,0),(0,167,0,1)]
def pK_H19 : List (Nat × Nat × Nat × Nat) := [(0,32,0,0),(0,74,0,0),(0,112,0,0),(0,138,0,0),(0,305,0,0),(0,341,0,1),(0,66,0,0),(0,167,0,0),(0,196,0,0),(0,204,0,0),(0,221,0,0),(0,310,0,0),(0,327,0,0),(0,355,0,1),(0,229,0,1)]
def pK_H20 : List (Nat × Nat × Nat × Nat) := [(0,32,0,0),(0,74,0,0),(0,112,0,0),(0,138,0,0),(0,305,0,0),(0,341,0,1),(0,66,0,0),(0,167,0,0),(0,196,0,0),(0,204,0,0),(0,221,0,0),(0,310,0,0),(0,327,0,0),(0,355,0,1),(0,229,0,0),(0,238,0,1),(0,282,0,0),(0,291,0,1)]
def pK_H21 : List (Nat × Nat × Nat × Nat) := [(0,32,0,0),(0,74,0,0),(0,112,0,0),(0,138,0,0),(0,305,0,0),(0,341,0,1),(0,66,0,0),(0,167,0,0),(0,196,0,0),(0,204,0,0),(0,221,0,0),(0,310,0,0),(0,327,0,0),(0,355,0,1),(0,229,0,0),(0,238,0,0),(0,282,0,0),(0,291,0,0)]
def pK_H22 : List (Nat × Nat × Nat × Nat) := [(0,32,0,0),(0,74,0,0),(0,112,0,0),(0,138,0,0),(0,305,0,0),(0,341,0,0),(0,167,0,1),(0,66,0,1)]
def pK_H23 : List (Nat × Nat × Nat × Nat) := [(0,32,0,0),(0,74,0,0),(0,112,0,0),(0,138,0,0),(0,305,0,0),(0,341,0,0),(0,167,0,1),(0,66,0,0)]
def pK_H24 : List (Nat × Nat × Nat × Nat) := [(0,32,0,0),(0,74,0,0),(0,112,0,0),(0,138,0,0),(0,305,0,0),(0,341,0,0),(0,167,0,0),(0,369,0,1),(0,66,0,1)]
def pK_H25 : List (Nat × Nat × Nat × Nat) := [(0,32,0,0),(0,74,0,0),(0,112,0,0),(0,138,0,0),(0,305,0,0),(0,341,0,0),(0,167,0,0),(0,369,0,1),(0,66,0,0),(0,196,0,0),(0,204,0,0),(0,221,0,0),(0,310,0,0),(0,327,0,0),(0,355,0,0),(0,374,0,0),(0,391,0,1),(0,229,0,1)]
def pK_H26 : List (Nat × Nat × Nat × Nat) := [(0,32,0,0),(0,74,0,0),(0,112,0,0),(0,138,0,0),(0,305,0,0),(0,341,0,0),(0,167,0,0),(0,369,0,1),(0,66,0,0),(0,196,0,0),(0,204,0,0),(0,221,0,0),(0,310,0,0),(0,327,0,0),(0,355,0,0),(0,374,0,0),(0,391,0,1),(0,229,0,0),(0,238,0,1),(0,282,0,0),(0,291,0,1)]
def pK_M26 : Memo := [(41,[tA [93,94,95],tA [131,132,133],tA [160,161,162],tA [189,190,191]],(true,[(false,[.inl (.string ⟨#[]⟩)]),(false,[.inl (.int .i64 (10))])])),(41,[pA [9,10,11],pA [12,13,14],tA [10,13,16],tA [21,24,27]],(true,[(false,[.inl (.string ⟨#[]⟩)]),(false,[.inl (.int .i64 (10))])]))] ++ pK_G
theorem pK_m26_0 : memoOne (sx Tryz.prog pK_N pK_H26 [] pK_L pK_C pK_Z (prC [43])) pK_cs 7 (pK_M26.drop 0)=true := by kernel_rfl
theorem pK_m26_1 : memoOne (sx Tryz.prog pK_N pK_H26 [] pK_L pK_C pK_Z (prC [43])) pK_cs 7 (pK_M26.drop 1)=true := by kernel_rfl
theorem pK_memo26 {q : Nat→Rat} {σ : Nat→ByteArray} {w : World} (hσ : ∀ j,(σ j).size≤1048576) (hq : ∀ (a : Nat) nd,pK_N[a]? = some nd→q a=valN σ q nd) (h0 : ∀ a,pK_N.length≤a→q a=0) (hH : hAll q pK_H26) (hp : PreS w) : MemoAll pK_N pK_L pK_C pK_Z q σ [43] w pK_M26 := by
 have Y : Hy pK_N pK_H26 pK_L pK_C pK_Z q σ := hy_ofW hσ pK_wf pK_sz pK_lt pK_cn hq h0 hH
 have hc : ∀ f ∈ ([43] : List FuncId),Closed f := by simp [closed_projected]
 have hm : (Tryz.prog).follows .mixedOrders=true := by kernel_rfl
 exact (memoAll_drop Y hc hm hp pK_m26_0 (memoAll_drop Y hc hm hp pK_m26_1 (pK_memoG hσ hq h0 hp)))
def pK_H27 : List (Nat × Nat × Nat × Nat) := [(0,32,0,0),(0,74,0,0),(0,112,0,0),(0,138,0,0),(0,305,0,0),(0,341,0,0),(0,167,0,0),(0,369,0,1),(0,66,0,0),(0,196,0,0),(0,204,0,0),(0,221,0,0),(0,310,0,0),(0,327,0,0),(0,355,0,0),(0,374,0,0),(0,391,0,1),(0,229,0,0),(0,238,0,0),(0,282,0,0),(0,291,0,0)]
def pK_M27 : Memo := [(41,[tA [93,94,95],tA [131,132,133],tA [160,161,162],tA [189,190,191]],(true,[(false,[.inl (.string ⟨#[]⟩)]),(false,[.inl (.int .i64 (10))])])),(41,[pA [9,10,11],pA [12,13,14],tA [10,13,16],tA [21,24,27]],(true,[(false,[.inl (.string ⟨#[]⟩)]),(false,[.inl (.int .i64 (10))])]))] ++ pK_G
theorem pK_m27_0 : memoOne (sx Tryz.prog pK_N pK_H27 [] pK_L pK_C pK_Z (prC [43])) pK_cs 7 (pK_M27.drop 0)=true := by kernel_rfl
theorem pK_m27_1 : memoOne (sx Tryz.prog pK_N pK_H27 [] pK_L pK_C pK_Z (prC [43])) pK_cs 7 (pK_M27.drop 1)=true := by kernel_rfl
theorem pK_memo27 {q : Nat→Rat} {σ : Nat→ByteArray} {w : World} (hσ : ∀ j,(σ j).size≤1048576) (hq : ∀ (a : Nat) nd,pK_N[a]? = some nd→q a=valN σ q nd) (h0 : ∀ a,pK_N.length≤a→q a=0) (hH : hAll q pK_H27) (hp : PreS w) : MemoAll pK_N pK_L pK_C pK_Z q σ [43] w pK_M27 := by
 have Y : Hy pK_N pK_H27 pK_L pK_C pK_Z q σ := hy_ofW hσ pK_wf pK_sz pK_lt pK_cn hq h0 hH
 have hc : ∀ f ∈ ([43] : List FuncId),Closed f := by simp [closed_projected]
 have hm : (Tryz.prog).follows .mixedOrders=true := by kernel_rfl
 exact (memoAll_drop Y hc hm hp pK_m27_0 (memoAll_drop Y hc hm hp pK_m27_1 (pK_memoG hσ hq h0 hp)))
def pK_H28 : List (Nat × Nat × Nat × Nat) := [(0,32,0,0),(0,74,0,0),(0,112,0,0),(0,138,0,0),(0,305,0,0),(0,341,0,0),(0,167,0,0),(0,369,0,0),(0,405,0,1),(0,66,0,1)]
def pK_H29 : List (Nat × Nat × Nat × Nat) := [(0,32,0,0),(0,74,0,0),(0,112,0,0),(0,138,0,0),(0,305,0,0),(0,341,0,0),(0,167,0,0),(0,369,0,0),(0,405,0,1),(0,66,0,0),(0,196,0,0),(0,204,0,0),(0,221,0,0),(0,310,0,0),(0,327,0,0),(0,355,0,0),(0,374,0,0),(0,391,0,0),(0,419,0,1),(0,229,0,1)]
def pK_H30 : List (Nat × Nat × Nat × Nat) := [(0,32,0,0),(0,74,0,0),(0,112,0,0),(0,138,0,0),(0,305,0,0),(0,341,0,0),(0,167,0,0),(0,369,0,0),(0,405,0,1),(0,66,0,0),(0,196,0,0),(0,204,0,0),(0,221,0,0),(0,310,0,0),(0,327,0,0),(0,355,0,0),(0,374,0,0),(0,391,0,0),(0,419,0,1),(0,229,0,0),(0,238,0,1),(0,282,0,0),(0,291,0,1)]
def pK_M30 : Memo := [(41,[tA [93,94,95],tA [131,132,133],tA [160,161,162],tA [189,190,191]],(true,[(false,[.inl (.string ⟨#[]⟩)]),(false,[.inl (.int .i64 (10))])])),(41,[pA [9,10,11],pA [12,13,14],tA [10,13,16],tA [21,24,27]],(true,[(false,[.inl (.string ⟨#[]⟩)]),(false,[.inl (.int .i64 (10))])]))] ++ pK_G
theorem pK_m30_0 : memoOne (sx Tryz.prog pK_N pK_H30 [] pK_L pK_C pK_Z (prC [43])) pK_cs 7 (pK_M30.drop 0)=true := by kernel_rfl
theorem pK_m30_1 : memoOne (sx Tryz.prog pK_N pK_H30 [] pK_L pK_C pK_Z (prC [43])) pK_cs 7 (pK_M30.drop 1)=true := by kernel_rfl
theorem pK_memo30 {q : Nat→Rat} {σ : Nat→ByteArray} {w : World} (hσ : ∀ j,(σ j).size≤1048576) (hq : ∀ (a : Nat) nd,pK_N[a]? = some nd→q a=valN σ q nd) (h0 : ∀ a,pK_N.length≤a→q a=0) (hH : hAll q pK_H30) (hp : PreS w) : MemoAll pK_N pK_L pK_C pK_Z q σ [43] w pK_M30 := by
 have Y : Hy pK_N pK_H30 pK_L pK_C pK_Z q σ := hy_ofW hσ pK_wf pK_sz pK_lt pK_cn hq h0 hH
 have hc : ∀ f ∈ ([43] : List FuncId),Closed f := by simp [closed_projected]
 have hm : (Tryz.prog).follows .mixedOrders=true := by kernel_rfl
 exact (memoAll_drop Y hc hm hp pK_m30_0 (memoAll_drop Y hc hm hp pK_m30_1 (pK_memoG hσ hq h0 hp)))
def pK_H31 : List (Nat × Nat × Nat × Nat) := [(0,32,0,0),(0,74,0,0),(0,112,0,0),(0,138,0,0),(0,305,0,0),(0,341,0,0),(0,167,0,0),(0,369,0,0),(0,405,0,1),(0,66,0,0),(0,196,0,0),(0,204,0,0),(0,221,0,0),(0,310,0,0),(0,327,0,0),(0,355,0,0),(0,374,0,0),(0,391,0,0),(0,419,0,1),(0,229,0,0),(0,238,0,0),(0,282,0,0),(0,291,0,0)]
def pK_M31 : Memo := [(41,[tA [93,94,95],tA [131,132,133],tA [160,161,162],tA [189,190,191]],(true,[(false,[.inl (.string ⟨#[]⟩)]),(false,[.inl (.int .i64 (10))])])),(41,[pA [9,10,11],pA [12,13,14],tA [10,13,16],tA [21,24,27]],(true,[(false,[.inl (.string ⟨#[]⟩)]),(false,[.inl (.int .i64 (10))])]))] ++ pK_G
theorem pK_m31_0 : memoOne (sx Tryz.prog pK_N pK_H31 [] pK_L pK_C pK_Z (prC [43])) pK_cs 7 (pK_M31.drop 0)=true := by kernel_rfl
theorem pK_m31_1 : memoOne (sx Tryz.prog pK_N pK_H31 [] pK_L pK_C pK_Z (prC [43])) pK_cs 7 (pK_M31.drop 1)=true := by kernel_rfl
theorem pK_memo31 {q : Nat→Rat} {σ : Nat→ByteArray} {w : World} (hσ : ∀ j,(σ j).size≤1048576) (hq : ∀ (a : Nat) nd,pK_N[a]? = some nd→q a=valN σ q nd) (h0 : ∀ a,pK_N.length≤a→q a=0) (hH : hAll q pK_H31) (hp : PreS w) : MemoAll pK_N pK_L pK_C pK_Z q σ [43] w pK_M31 := by
 have Y : Hy pK_N pK_H31 pK_L pK_C pK_Z q σ := hy_ofW hσ pK_wf pK_sz pK_lt pK_cn hq h0 hH
 have hc : ∀ f ∈ ([43] : List FuncId),Closed f := by simp [closed_projected]
 have hm : (Tryz.prog).follows .mixedOrders=true := by kernel_rfl
 exact (memoAll_drop Y hc hm hp pK_m31_0 (memoAll_drop Y hc hm hp pK_m31_1 (pK_memoG hσ hq h0 hp)))
def pK_H32 : List (Nat × Nat × Nat × Nat) := [(0,32,0,0),(0,74,0,0),(0,112,0,0),(0,138,0,0),(0,305,0,0),(0,341,0,0),(0,167,0,0),(0,369,0,0),(0,405,0,0),(0,433,0,1),(0,66,0,1)]
def pK_H33 : List (Nat × Nat × Nat × Nat) := [(0,32,0,0),(0,74,0,0),(0,112,0,0),(0,138,0,0),(0,305,0,0),(0,341,0,0),(0,167,0,0),(0,369,0,0),(0,405,0,0),(0,433,0,1),(0,66,0,0),(0,196,0,0),(0,204,0,0),(0,221,0,0),(0,310,0,0),(0,327,0,0),(0,355,0,0),(0,374,0,0),(0,391,0,0),(0,419,0,0),(0,447,0,1),(0,229,0,1)]
def pK_H34 : List (Nat × Nat × Nat × Nat) := [(0,32,0,0),(0,74,0,0),(0,112,0,0),(0,138,0,0),(0,305,0,0),(0,341,0,0),(0,167,0,0),(0,369,0,0),(0,405,0,0),(0,433,0,1),(0,66,0,0),(0,196,0,0),(0,204,0,0),(0,221,0,0),(0,310,0,0),(0,327,0,0),(0,355,0,0),(0,374,0,0),(0,391,0,0),(0,419,0,0),(0,447,0,1),(0,229,0,0),(0,238,0,1),(0,282,0,0),(0,291,0,1)]
def pK_M34 : Memo := [(41,[tA [93,94,95],tA [131,132,133],tA [160,161,162],tA [189,190,191]],(true,[(false,[.inl (.string ⟨#[]⟩)]),(false,[.inl (.int .i64 (10))])])),(41,[pA [9,10,11],pA [12,13,14],tA [10,13,16],tA [21,24,27]],(true,[(false,[.inl (.string ⟨#[]⟩)]),(false,[.inl (.int .i64 (10))])]))] ++ pK_G
theorem pK_m34_0 : memoOne (sx Tryz.prog pK_N pK_H34 [] pK_L pK_C pK_Z (prC [43])) pK_cs 7 (pK_M34.drop 0)=true := by kernel_rfl
theorem pK_m34_1 : memoOne (sx Tryz.prog pK_N pK_H34 [] pK_L pK_C pK_Z (prC [43])) pK_cs 7 (pK_M34.drop 1)=true := by kernel_rfl
theorem pK_memo34 {q : Nat→Rat} {σ : Nat→ByteArray} {w : World} (hσ : ∀ j,(σ j).size≤1048576) (hq : ∀ (a : Nat) nd,pK_N[a]? = some nd→q a=valN σ q nd) (h0 : ∀ a,pK_N.length≤a→q a=0) (hH : hAll q pK_H34) (hp : PreS w) : MemoAll pK_N pK_L pK_C pK_Z q σ [43] w pK_M34 := by
 have Y : Hy pK_N pK_H34 pK_L pK_C pK_Z q σ := hy_ofW hσ pK_wf pK_sz pK_lt pK_cn hq h0 hH
 have hc : ∀ f ∈ ([43] : List FuncId),Closed f := by simp [closed_projected]
 have hm : (Tryz.prog).follows .mixedOrders=true := by kernel_rfl
 exact (memoAll_drop Y hc hm hp pK_m34_0 (memoAll_drop Y hc hm hp pK_m34_1 (pK_memoG hσ hq h0 hp)))
def pK_H35 : List (Nat × Nat × Nat × Nat) := [(0,32,0,0),(0,74,0,0),(0,112,0,0),(0,138,0,0),(0,305,0,0),(0,341,0,0),(0,167,0,0),(0,369,0,0),(0,405,0,0),(0,433,0,1),(0,66,0,0),(0,196,0,0),(0,204,0,0),(0,221,0,0),(0,310,0,0),(0,327,0,0),(0,355,0,0),(0,374,0,0),(0,391,0,0),(0,419,0,0),(0,447,0,1),(0,229,0,0),(0,238,0,0),(0,282,0,0),(0,291,0,0)]
def pK_M35 : Memo := [(41,[tA [93,94,95],tA [131,132,133],tA [160,161,162],tA [189,190,191]],(true,[(false,[.inl (.string ⟨#[]⟩)]),(false,[.inl (.int .i64 (10))])])),(41,[pA [9,10,11],pA [12,13,14],tA [10,13,16],tA [21,24,27]],(true,[(false,[.inl (.string ⟨#[]⟩)]),(false,[.inl (.int .i64 (10))])]))] ++ pK_G
theorem pK_m35_0 : memoOne (sx Tryz.prog pK_N pK_H35 [] pK_L pK_C pK_Z (prC [43])) pK_cs 7 (pK_M35.drop 0)=true := by kernel_rfl
theorem pK_m35_1 : memoOne (sx Tryz.prog pK_N pK_H35 [] pK_L pK_C pK_Z (prC [43])) pK_cs 7 (pK_M35.drop 1)=true := by kernel_rfl
theorem pK_memo35 {q : Nat→Rat} {σ : Nat→ByteArray} {w : World} (hσ : ∀ j,(σ j).size≤1048576) (hq : ∀ (a : Nat) nd,pK_N[a]? = some nd→q a=valN σ q nd) (h0 : ∀ a,pK_N.length≤a→q a=0) (hH : hAll q pK_H35) (hp : PreS w) : MemoAll pK_N pK_L pK_C pK_Z q σ [43] w pK_M35 := by
 have Y : Hy pK_N pK_H35 pK_L pK_C pK_Z q σ := hy_ofW hσ pK_wf pK_sz pK_lt pK_cn hq h0 hH
 have hc : ∀ f ∈ ([43] : List FuncId),Closed f := by simp [closed_projected]
 have hm : (Tryz.prog).follows .mixedOrders=true := by kernel_rfl
 exact (memoAll_drop Y hc hm hp pK_m35_0 (memoAll_drop Y hc hm hp pK_m35_1 (pK_memoG hσ hq h0 hp)))
def pK_H36 : List (Nat × Nat × Nat × Nat) := [(0,32,0,0),(0,74,0,0),(0,112,0,0),(0,138,0,0),(0,305,0,0),(0,341,0,0),(0,167,0,0),(0,369,0,0),(0,405,0,0),(0,433,0,0),(0,453,0,1),(0,459,0,1),(0,66,0,1)]
def pK_H37 : List (Nat × Nat × Nat × Nat) := [(0,32,0,0),(0,74,0,0),(0,112,0,0),(0,138,0,0),(0,305,0,0),(0,341,0,0),(0,167,0,0),(0,369,0,0),(0,405,0,0),(0,433,0,0),(0,453,0,1),(0,459,0,1),(0,66,0,0),(0,196,0,0),(0,204,0,0),(0,221,0,0),(0,310,0,0),(0,327,0,0),(0,355,0,0),(0,374,0,0),(0,391,0,0),(0,419,0,0),(0,447,0,0),(0,510,0,1),(0,516,0,1),(3,504,561,1),(0,229,0,1)]
def pK_M37 : Memo := [(41,[tA [93,94,95],tA [131,132,133],tA [160,161,162],tA [189,190,191]],(true,[(false,[.inr (1,561,0,0,0)]),(false,[.inl (.int .i64 (0))])])),(41,[pA [9,10,11],pA [12,13,14],tA [10,13,16],tA [21,24,27]],(true,[(false,[.inr (1,504,0,0,0)]),(false,[.inl (.int .i64 (0))])]))] ++ pK_G
theorem pK_m37_0 : memoOne (sx Tryz.prog pK_N pK_H37 [] pK_L pK_C pK_Z (prC [43])) pK_cs 7 (pK_M37.drop 0)=true := by kernel_rfl
theorem pK_m37_1 : memoOne (sx Tryz.prog pK_N pK_H37 [] pK_L pK_C pK_Z (prC [43])) pK_cs 7 (pK_M37.drop 1)=true := by kernel_rfl
theorem pK_memo37 {q : Nat→Rat} {σ : Nat→ByteArray} {w : World} (hσ : ∀ j,(σ j).size≤1048576) (hq : ∀ (a : Nat) nd,pK_N[a]? = some nd→q a=valN σ q nd) (h0 : ∀ a,pK_N.length≤a→q a=0) (hH : hAll q pK_H37) (hp : PreS w) : MemoAll pK_N pK_L pK_C pK_Z q σ [43] w pK_M37 := by
 have Y : Hy pK_N pK_H37 pK_L pK_C pK_Z q σ := hy_ofW hσ pK_wf pK_sz pK_lt pK_cn hq h0 hH
 have hc : ∀ f ∈ ([43] : List FuncId),Closed f := by simp [closed_projected]
 have hm : (Tryz.prog).follows .mixedOrders=true := by kernel_rfl
 exact (memoAll_drop Y hc hm hp pK_m37_0 (memoAll_drop Y hc hm hp pK_m37_1 (pK_memoG hσ hq h0 hp)))
def pK_H38 : List (Nat × Nat × Nat × Nat) := [(0,32,0,0),(0,74,0,0),(0,112,0,0),(0,138,0,0),(0,305,0,0),(0,341,0,0),(0,167,0,0),(0,369,0,0),(0,405,0,0),(0,433,0,0),(0,453,0,1),(0,459,0,1),(0,66,0,0),(0,196,0,0),(0,204,0,0),(0,221,0,0),(0,310,0,0),(0,327,0,0),(0,355,0,0),(0,374,0,0),(0,391,0,0),(0,419,0,0),(0,447,0,0),(0,510,0,1),(0,516,0,1),(3,504,561,1),(0,229,0,0),(0,238,0,1),(0,282,0,0),(0,291,0,1)]
def pK_M38 : Memo := [(41,[tA [93,94,95],tA [131,132,133],tA [160,161,162],tA [189,190,191]],(true,[(false,[.inr (1,561,0,0,0)]),(false,[.inl (.int .i64 (0))])])),(41,[pA [9,10,11],pA [12,13,14],tA [10,13,16],tA [21,24,27]],(true,[(false,[.inr (1,504,0,0,0)]),(false,[.inl (.int .i64 (0))])]))] ++ pK_G
theorem pK_m38_0 : memoOne (sx Tryz.prog pK_N pK_H38 [] pK_L pK_C pK_Z (prC [43])) pK_cs 7 (pK_M38.drop 0)=true := by kernel_rfl
theorem pK_m38_1 : memoOne (sx Tryz.prog pK_N pK_H38 [] pK_L pK_C pK_Z (prC [43])) pK_cs 7 (pK_M38.drop 1)=true := by kernel_rfl
theorem pK_memo38 {q : Nat→Rat} {σ : Nat→ByteArray} {w : World} (hσ : ∀ j,(σ j).size≤1048576) (hq : ∀ (a : Nat) nd,pK_N[a]? = some nd→q a=valN σ q nd) (h0 : ∀ a,pK_N.length≤a→q a=0) (hH : hAll q pK_H38) (hp : PreS w) : MemoAll pK_N pK_L pK_C pK_Z q σ [43] w pK_M38 := by
 have Y : Hy pK_N pK_H38 pK_L pK_C pK_Z q σ := hy_ofW hσ pK_wf pK_sz pK_lt pK_cn hq h0 hH
 have hc : ∀ f ∈ ([43] : List FuncId),Closed f := by simp [closed_projected]
 have hm : (Tryz.prog).follows .mixedOrders=true := by kernel_rfl
 exact (memoAll_drop Y hc hm hp pK_m38_0 (memoAll_drop Y hc hm hp pK_m38_1 (pK_memoG hσ hq h0 hp)))
def pK_H39 : List (Nat × Nat × Nat × Nat) := [(0,32,0,0),(0,74,0,0),(0,112,0,0),(0,138,0,0),(0,305,0,0),(0,341,0,0),(0,167,0,0),(0,369,0,0),(0,405,0,0),(0,433,0,0),(0,453,0,1),(0,459,0,1),(0,66,0,0),(0,196,0,0),(0,204,0,0),(0,221,0,0),(0,310,0,0),(0,327,0,0),(0,355,0,0),(0,374,0,0),(0,391,0,0),(0,419,0,0),(0,447,0,0),(0,510,0,1),(0,516,0,1),(3,504,561,1),(0,229,0,0),(0,238,0,0),(0,282,0,0),(0,291,0,0)]
def pK_M39 : Memo := [(41,[tA [93,94,95],tA [131,132,133],tA [160,161,162],tA [189,190,191]],(true,[(false,[.inr (1,561,0,0,0)]),(false,[.inl (.int .i64 (0))])])),(41,[pA [9,10,11],pA [12,13,14],tA [10,13,16],tA [21,24,27]],(true,[(false,[.inr (1,504,0,0,0)]),(false,[.inl (.int .i64 (0))])]))] ++ pK_G
theorem pK_m39_0 : memoOne (sx Tryz.prog pK_N pK_H39 [] pK_L pK_C pK_Z (prC [43])) pK_cs 7 (pK_M39.drop 0)=true := by kernel_rfl
theorem pK_m39_1 : memoOne (sx Tryz.prog pK_N pK_H39 [] pK_L pK_C pK_Z (prC [43])) pK_cs 7 (pK_M39.drop 1)=true := by kernel_rfl
theorem pK_memo39 {q : Nat→Rat} {σ : Nat→ByteArray} {w : World} (hσ : ∀ j,(σ j).size≤1048576) (hq : ∀ (a : Nat) nd,pK_N[a]? = some nd→q a=valN σ q nd) (h0 : ∀ a,pK_N.length≤a→q a=0) (hH : hAll q pK_H39) (hp : PreS w) : MemoAll pK_N pK_L pK_C pK_Z q σ [43] w pK_M39 := by
 have Y : Hy pK_N pK_H39 pK_L pK_C pK_Z q σ := hy_ofW hσ pK_wf pK_sz pK_lt pK_cn hq h0 hH
 have hc : ∀ f ∈ ([43] : List FuncId),Closed f := by simp [closed_projected]
 have hm : (Tryz.prog).follows .mixedOrders=true := by kernel_rfl
 exact (memoAll_drop Y hc hm hp pK_m39_0 (memoAll_drop Y hc hm hp pK_m39_1 (pK_memoG hσ hq h0 hp)))
end Go.Proofs.YtjfodeihndjpjaaGreatDoor
