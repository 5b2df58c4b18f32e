/- Part 13 of the walks and of the mathematics under them: VP VPC VY VSZ VPD VPE VPF CFconed MKL. -/
import Derived.Test.YtglilpjckmgbcaaGreatDoorA2
import Derived.Test.YtglilpjckmgbcaaGreatDoorA12
set_option maxHeartbeats 16000000
set_option maxRecDepth 100000
/- VP -/
namespace Cx
open Go Go.RowKit
abbrev Hs := List (Nat × Nat × Nat × Nat)
def Sx.plus (S : Sx) (X : Hs) : Sx := { S with H := X ++ S.H }
abbrev Ask := Nat × Nat × Nat × Nat
def askZ (a : Nat) : Ask := (0,a,0,a)
def askOk (S : Sx) : Ask→Bool
 | (k,a,b,d) => (Nat.beq k 0 && (Nat.beq b 0 && Nat.beq d a)) || (Nat.beq k 3 && (match S.N[d]? with
  | some (op,ar) => Nat.beq op 3 && beqL ar [a,b]
  | none => false))
def acrossB (S : Sx) (a b : Nat) : List Nat→List Nat→Option (List Ask)
 | c :: l,d :: m => (S.nd 4 [a,d]).bind fun x => (S.nd 4 [c,b]).bind fun y => (S.nd 3 [x,y]).bind fun z => (acrossB S a b l m).map fun r => (3,x,y,z) :: r
 | _,_ => some []
def alikeB (S : Sx) : List Nat→List Nat→List Nat→List Nat→Option (List Ask)
 | pl,pm,a :: l,b :: m => (acrossB S a b pl pm).bind fun r => (alikeB S (pl ++ [a]) (pm ++ [b]) l m).map fun t => r ++ t
 | _,_,_,_ => some []
def sameA (S : Sx) : List Nat→List Nat→Option (List Ask)
 | a :: l,b :: m => (S.nd 3 [a,b]).bind fun d => (sameA S l m).map fun r => (3,a,b,d) :: r
 | _,_ => some []
def asks (S : Sx) (h : List HB) (code : Nat) (args : List AV) : Option (List Ask) :=
 match code with
 | 60 => arg1 (fun x => (asA x).bind fun cs => (qRow S cs).map fun l => l.map askZ) args
 | 61 => arg1 (fun x => (rowB h 1 x).bind fun p => (mapO (acX 0) p.2).map fun l => l.map askZ) args
 | 62 => arg2 (fun x y => (rowB h 1 x).bind fun p => (mapO (acX 0) p.2).bind fun l => (rowB h 1 y).bind fun p' => (mapO (acX 0) p'.2).bind fun m => alikeB S [] [] l m) args
 | 63 => arg1 (fun x => (asA x).bind fun cs => (mapO acTold cs).bind fun l => (plainOf S l).map fun xs => xs.map askZ) args
 | 67 => arg1 (fun x => (asA x).bind fun cs => (mapO (txNode S) (cs.take 3)).map fun l => l.map askZ) args
 | 65 => arg1 (fun x => (asA x).bind fun cs => (mapO (acX 0) cs).map fun l => l.map askZ) args
 | 66 => arg2 (fun x y => (asA x).bind fun cs => (asA y).bind fun ds => (mapO (acX 0) cs).bind fun l => (mapO (acX 0) ds).bind fun m => sameA S l m) args
 | 64 => arg1 (fun x => (asA x).bind fun cs => (qRow S cs).map fun l => (l.take 5).map askZ) args
 | _ => none
def splits : List Ask→Hs→List Hs
 | [],_ => []
 | (k,a,b,_) :: l,X => ((k,a,b,0) :: X) :: splits l ((k,a,b,1) :: X)
def allZ : List Ask→Hs→Hs
 | [],X => X
 | (k,a,b,_) :: l,X => allZ l ((k,a,b,1) :: X)
def bodyC (S : Sx) (call : CallF) : CallF := fun f args h nx => S.P.funcs[f]?.bind fun fn => fn.body.bind fun c => ifO (Nat.ble args.length fn.ntmps) ((runB S call fn.ntmps c { tm := numb1 0 args,h := h,nx := nx }).bind fun r =>
   ifO (Nat.ble r.1 1) ((mapO (resB S.P r.2) fn.results.toList).map fun xs => (tupB xs,r.2.h,r.2.nx)))
abbrev CRes := Option (AV × List HB × Nat)
def agree (h : List HB) (b : Bool) (hi : Nat) : CRes→Bool
 | some (v,h',nx') => (match asB v with
  | some c => b == c
  | none => false) && (Nat.ble nx' hi && h.all fun x => h'.any fun y => Nat.beq y.1 x.1 && acsW x.2 y.2)
 | none => false
def topN : Nat→List CRes→Nat
 | m,[] => m
 | m,some p :: rs => topN (bif Nat.ble m p.2.2 then p.2.2 else m) rs
 | m,none :: rs => topN m rs
def joinC (h : List HB) (nx : Nat) (rs : List CRes) : CRes :=
 match rs with
 | some p :: _ => (asB p.1).bind fun b => ifO (rs.all (agree h b (topN nx rs))) (some (kB b,h,topN nx rs))
 | _ => none
def askIt (S : Sx) (X : Hs) (h : List HB) (c : Nat) (args : List AV) : Option (List Ask × Nat) :=
 (asks (S.plus X) h c args).bind fun l => ifO (l.all (askOk S)) ((sqN S (l.map (·.2.2.2))).bind fun s => ((S.plus X).kn 0 s 0).map fun r => (l,r))
theorem askIt_some {S : Sx} {X : Hs} {h : List HB} {c : Nat} {args : List AV} {l : List Ask} {r : Nat} (e : askIt S X h c args=some (l,r)) : (∀ a ∈ l,askOk S a=true)∧∃ s,sqN S (l.map (·.2.2.2))=some s∧(S.plus X).kn 0 s 0=some r := by
 unfold askIt at e
 simp only [Option.bind_eq_some_iff,ifO_some,Option.map_eq_some_iff,List.all_eq_true,Prod.mk.injEq] at e
 obtain ⟨l',_,h1,s,h2,r',h3,rfl,rfl⟩ := e
 exact ⟨h1,s,h2,h3⟩
def callC (S : Sx) (cs : List (FuncId × Nat)) : Nat→Hs→CallF
 | 0,_,_,_,_,_ => none
 | n+1,X,f,args,h,nx => match prGet f cs with
  | none => bodyC (S.plus X) (callC S cs n X) f args h nx
  | some c => match askIt S X h c args with
   | none => bodyC (S.plus X) (callC S cs n X) f args h nx
   | some (l,r) => bif Nat.beq 1 r then bodyC (S.plus (allZ l X)) (callC S cs n (allZ l X)) f args h nx
    else joinC h nx ((splits l X).map fun X' => bodyC (S.plus X') (callC S cs n X') f args h nx)
section
variable {S : Sx} {E : Ev S.nb} {w0 : World}
theorem bodyC_ok {call : CallF} (hm : S.P.follows .mixedOrders=true) (N : Knows S E) (hP : PrimOk S E w0) (hC : CallOk S E w0 call) : CallOk S E w0 (bodyC S call) := fun f args h nx p hp γ w vs hi hA hb hlt hf => by
 unfold bodyC at hp
 simp only [Option.bind_eq_some_iff,ifO_some,Option.map_eq_some_iff,Nat.ble_eq] at hp
 obtain ⟨fn,h1,c,h2,h3,⟨e,s'⟩,h4,h5,xs,h6,rfl⟩ := hp
 dsimp only at h5 h6
 rcases (show e=0 ∨ e=1 by omega) with rfl | rfl
 all_goals
  obtain ⟨_,_,r⟩ := runB_ok hm N hP hC c _ _ _ h4
  refine calls_of_wp h1 h2 (r γ _ w _ ⟨hi,fun t v q => ?_,hb,hlt,?_,rfl⟩ hf fun a' w' γ' hef hs => ?_)
  ·obtain ⟨_,q2⟩ := numb1_get q
   rw [Nat.sub_zero] at q2
   obtain ⟨u,hu,hv⟩ := hA.get q2
   have hlt : t < vs.length := (List.getElem?_eq_some_iff.1 hu).1
   have : (vs.toArray ++ Array.replicate (fn.ntmps - vs.toArray.size) undef).getD t undef=u := by
    rw [Array.getD_eq_getD_getElem?,Array.getElem?_append_left (by simpa using hlt)]
    simp [hu]
   show avOn _ v ((vs.toArray ++ Array.replicate (fn.ntmps - vs.toArray.size) undef).getD t undef)
   rw [this]
   exact hv
  ·have := hA.len
   simp
   omega
  ·obtain ⟨v,hv,hx⟩ := results_run hs h6
   exact ⟨hs.df,v,hv,v,γ',rfl,hef,hx,hs.bx⟩
theorem asB_kB {v : AV} {b : Bool} (h : asB v=some b) : v=kB b := by
 unfold asB at h
 rw [Option.bind_eq_some_iff] at h
 obtain ⟨c,h1,h2⟩ := h
 unfold asC at h1
 split at h1
 ·cases h1
  unfold acB at h2
  split at h2
  ·cases h2
   rfl
  ·cases h2
 ·cases h1
theorem agree_some {h : List HB} {b : Bool} {hi : Nat} {r : CRes} (hr : agree h b hi r=true) : ∃ h' nx',r=some (kB b,h',nx')∧nx'≤hi∧∀ x ∈ h,x ∈ h' := by
 unfold agree at hr
 split at hr
 ·rename_i v h' nx'
  rw [Bool.and_eq_true,Bool.and_eq_true,Nat.ble_eq,List.all_eq_true] at hr
  obtain ⟨h1,h2,h3⟩ := hr
  refine ⟨h',nx',?_,h2,fun x hx => ?_⟩
  ·split at h1
   ·rename_i c hc
    rw [asB_kB hc,show c=b from (by simpa using h1 : b=c).symm]
   ·cases h1
  ·have := h3 x hx
   rw [List.any_eq_true] at this
   obtain ⟨y,hy,e⟩ := this
   rw [Bool.and_eq_true,Nat.beq_eq] at e
   have : x=y := Prod.ext e.1.symm (acsW_eq e.2)
   rw [this]
   exact hy
 ·cases hr
variable {T : Hs→Prop} {z : Nat→Prop}
def AskTrue (S : Sx) (T : Hs→Prop) (z : Nat→Prop) : Prop := ∀ X,T X→∀ a,askOk S a=true→(z a.2.2.2→T ((a.1,a.2.1,a.2.2.1,1) :: X))∧(¬ z a.2.2.2→T ((a.1,a.2.1,a.2.2.1,0) :: X))
theorem allZ_true (hk : AskTrue S T z) : ∀ {l : List Ask} {X : Hs},T X→(∀ a ∈ l,askOk S a=true)→(∀ a ∈ l,z a.2.2.2)→T (allZ l X)
 | [],_,h,_,_ => h
 | (k,a,b,d) :: l,X,h,ho,hz => allZ_true (l := l) hk ((hk X h (k,a,b,d) (ho _ List.mem_cons_self)).1 (hz _ List.mem_cons_self)) (fun a ha => ho a (List.mem_cons_of_mem _ ha)) (fun a ha => hz a (List.mem_cons_of_mem _ ha))
theorem splits_true (hk : AskTrue S T z) : ∀ {l : List Ask} {X : Hs},T X→(∀ a ∈ l,askOk S a=true)→(∃ a ∈ l,¬ z a.2.2.2)→∃ X' ∈ splits l X,T X'
 | [],_,_,_,⟨_,h,_⟩ => by cases h
 | (k,a,b,d) :: l,X,h,ho,hz => by
  by_cases e : z d
  ·obtain ⟨X',h1,h2⟩ := splits_true (l := l) hk ((hk X h (k,a,b,d) (ho _ List.mem_cons_self)).1 e) (fun a ha => ho a (List.mem_cons_of_mem _ ha)) (by
    obtain ⟨c,hc,hn⟩ := hz
    rcases List.mem_cons.1 hc with rfl | hc
    ·exact (hn e).elim
    ·exact ⟨c,hc,hn⟩)
   exact ⟨X',List.mem_cons_of_mem _ h1,h2⟩
  ·exact ⟨_,List.mem_cons_self,(hk X h (k,a,b,d) (ho _ List.mem_cons_self)).2 e⟩
theorem callC_ok {cs : List (FuncId × Nat)} (hm : S.P.follows .mixedOrders=true) (hN : ∀ X,T X→Knows (S.plus X) E) (hP : ∀ X,T X→PrimOk (S.plus X) E w0) (hk : AskTrue S T z)
  (hs : ∀ X,T X→∀ l s r,sqN S l=some s→(S.plus X).kn 0 s 0=some r→(Nat.beq 1 r=true→∀ d ∈ l,z d)∧(Nat.beq 1 r=false→∃ d ∈ l,¬ z d)) : ∀ n X,T X→CallOk S E w0 (callC S cs n X)
 | 0,_,_ => fun _ _ _ _ _ h => by cases h
 | n+1,X,hX => fun f args h nx p hp => by
  have body : ∀ Y,T Y→CallOk S E w0 (bodyC (S.plus Y) (callC S cs n Y)) := fun Y hY => bodyC_ok (S := S.plus Y) hm (hN Y hY) (hP Y hY) (callC_ok hm hN hP hk hs n Y hY)
  unfold callC at hp
  split at hp
  ·exact body X hX f args h nx p hp
  ·split at hp
   ·exact body X hX f args h nx p hp
   rename_i l r hk'
   obtain ⟨hl,s,h1,h2⟩ := askIt_some hk'
   have h3 := hp
   obtain ⟨a1,a0⟩ := hs X hX _ s r h1 h2
   cases e : Nat.beq 1 r with
   | true =>
    rw [e] at h3
    exact body _ (allZ_true hk hX hl fun a ha => a1 e _ (List.mem_map_of_mem ha)) f args h nx p h3
   | false =>
    rw [e] at h3
    obtain ⟨d,hd,hz⟩ := a0 e
    obtain ⟨a,ha,rfl⟩ := List.mem_map.1 hd
    obtain ⟨X',m1,m2⟩ := splits_true hk hX hl ⟨a,ha,hz⟩
    replace h3 : joinC h nx ((splits l X).map fun X' => bodyC (S.plus X') (callC S cs n X') f args h nx)=some p := h3
    unfold joinC at h3
    split at h3
    ·rename_i p0 rs hrs
     rw [Option.bind_eq_some_iff] at h3
     obtain ⟨b,hb,h4⟩ := h3
     rw [ifO_some,List.all_eq_true] at h4
     obtain ⟨h5,h6⟩ := h4
     cases h6
     obtain ⟨h',nx',q1,q2,q3⟩ := agree_some (h5 _ (List.mem_map_of_mem m1))
     intro γ w vs hi hA hb hlt hf
     refine (body X' m2 f args h nx _ q1 γ w vs hi hA hb hlt fun b g1 g2 => hf b g1 (Nat.lt_of_lt_of_le g2 q2)).mono ?_
     rintro _ w' ⟨r',γ',rfl,hef,hv,hx⟩
     exact ⟨r',γ',rfl,hef.wide (Nat.le_refl _) q2,hv,fun x hh => hx x (q3 x hh)⟩
    ·cases h3
end
end Cx
/- VPC -/
namespace Go.Proofs.YtglilpjckmgbcaaGreatDoor
open Cx Go Go.RowKit
section
variable {N : List Nd} {H : List (Nat × Nat × Nat × Nat)} {K : List (FuncId × List AC)} {L C : List (List Nat × Nat)} {Z : List Nat} {q : Nat→Rat} {σ : Nat→ByteArray} {w0 : World} {cl : List FuncId} {cs pr : List (FuncId × Nat)}
theorem kn_cons {k a b k' a' b' r' : Nat} {r : Nat} (h : knFrom k a b ((k',a',b',r') :: H)=some r) : (k=k'∧a=a'∧b=b'∧r=r') ∨ knFrom k a b H=some r := by
 unfold knFrom at h
 cases e : (Nat.beq k k' && (Nat.beq a a' && Nat.beq b b')) with
 | true =>
  rw [e] at h
  simp only [Bool.and_eq_true,Nat.beq_eq] at e
  exact Or.inl ⟨e.1,e.2.1,e.2.2,(Option.some.inj h).symm⟩
 | false =>
  rw [e] at h
  exact Or.inr h
theorem Hy.add0 (Y : Hy N H L C Z q σ) {a r : Nat} (h : Nat.beq 1 r=true ↔ q a=0) : Hy N ((0,a,0,r) :: H) L C Z q σ where
 nat := Y.nat
 qs := Y.qs
 zs := Y.zs
 par := Y.par
 lit := Y.lit
 k0 := fun a' r' g => by
  rcases kn_cons g with ⟨_,e1,_,e2⟩ | g
  ·rw [e1,e2]
   exact h
  ·exact Y.k0 a' r' g
 k1 := fun a' r' g => by
  rcases kn_cons g with ⟨e,_⟩ | g
  ·cases e
  ·exact Y.k1 a' r' g
 k2 := fun a' r' g => by
  rcases kn_cons g with ⟨e,_⟩ | g
  ·cases e
  ·exact Y.k2 a' r' g
 k4 := fun l a' b' r' g1 g => by
  rcases kn_cons g with ⟨e,_⟩ | g
  ·cases e
  ·exact Y.k4 l a' b' r' g1 g
 k3 := fun a' b' r' g => by
  rcases kn_cons g with ⟨e,_⟩ | g
  ·cases e
  ·exact Y.k3 a' b' r' g
 k6 := fun a' b' r' g => by
  rcases kn_cons g with ⟨e,_⟩ | g
  ·cases e
  ·exact Y.k6 a' b' r' g
 k5 := fun a' r' g => by
  rcases kn_cons g with ⟨e,_⟩ | g
  ·cases e
  ·exact Y.k5 a' r' g
theorem Hy.add3 (Y : Hy N H L C Z q σ) {a b r : Nat} (h : Nat.beq 1 r=true ↔ q a=q b) : Hy N ((3,a,b,r) :: H) L C Z q σ where
 nat := Y.nat
 qs := Y.qs
 zs := Y.zs
 par := Y.par
 lit := Y.lit
 k0 := fun a' r' g => by
  rcases kn_cons g with ⟨e,_⟩ | g
  ·cases e
  ·exact Y.k0 a' r' g
 k1 := fun a' r' g => by
  rcases kn_cons g with ⟨e,_⟩ | g
  ·cases e
  ·exact Y.k1 a' r' g
 k2 := fun a' r' g => by
  rcases kn_cons g with ⟨e,_⟩ | g
  ·cases e
  ·exact Y.k2 a' r' g
 k4 := fun l a' b' r' g1 g => by
  rcases kn_cons g with ⟨e,_⟩ | g
  ·cases e
  ·exact Y.k4 l a' b' r' g1 g
 k3 := fun a' b' r' g => by
  rcases kn_cons g with ⟨_,e1,e2,e3⟩ | g
  ·rw [e1,e2,e3]
   exact h
  ·exact Y.k3 a' b' r' g
 k6 := fun a' b' r' g => by
  rcases kn_cons g with ⟨e,_⟩ | g
  ·cases e
  ·exact Y.k6 a' b' r' g
 k5 := fun a' r' g => by
  rcases kn_cons g with ⟨e,_⟩ | g
  ·cases e
  ·exact Y.k5 a' r' g
theorem ask_true : AskTrue (sx Tryz.prog N H K L C Z pr) (fun X => Hy N (X ++ H) L C Z q σ) (fun d => q d=0) := fun X Y a ha => by
 obtain ⟨k,a,b,d⟩ := a
 have t1 : Nat.beq 1 1=true := rfl
 have t0 : Nat.beq 1 0 ≠ true := fun h => by cases h
 unfold askOk at ha
 rw [Bool.or_eq_true] at ha
 rcases ha with ha | ha
 ·simp only [Bool.and_eq_true,Nat.beq_eq] at ha
  obtain ⟨rfl,rfl,rfl⟩ := ha
  exact ⟨fun h => Hy.add0 Y ⟨fun _ => h,fun _ => t1⟩,fun h => Hy.add0 Y ⟨fun g => (t0 g).elim,fun g => (h g).elim⟩⟩
 ·rw [Bool.and_eq_true,Nat.beq_eq] at ha
  obtain ⟨rfl,hb⟩ := ha
  split at hb
  ·rename_i op ar hn
   rw [Bool.and_eq_true,Nat.beq_eq] at hb
   obtain ⟨rfl,hb⟩ := hb
   have e := beqL_eq hb
   subst e
   have hv : q d=q a - q b := Y.nat d _ hn
   have h2 : q d=0 ↔ q a=q b := by
    rw [hv]
    constructor <;> intro h <;> grind
   exact ⟨fun h => Hy.add3 Y ⟨fun _ => h2.1 h,fun _ => t1⟩,fun h => Hy.add3 Y ⟨fun g => (t0 g).elim,fun g => (h (h2.2 g)).elim⟩⟩
  ·cases hb
theorem sq_nn (y : Rat) : 0≤y*y := by
 by_cases h : y=0
 ·rw [h,Rat.zero_mul]
  exact Rat.le_refl
 ·exact Rat.le_of_lt (sq1_pos h)
theorem sq_sum {x y : Rat} (hx : 0≤x) : x+y*y=0 ↔ x=0∧y=0 := by
 constructor
 ·intro h
  have h2 := sq_nn y
  have h3 : x=0 := by grind
  refine ⟨h3,?_⟩
  have : y*y=0 := by grind
  rcases Rat.mul_eq_zero.1 this with g | g <;> exact g
 ·rintro ⟨rfl,rfl⟩
  grind
theorem sqF_val {H' : List (Nat × Nat × Nat × Nat)} (Y : Hy N H' L C Z q σ) : ∀ {l : List Nat} {s t : Nat},sqF (sx Tryz.prog N H K L C Z pr) s l=some t→0≤q s→0≤q t∧(q t=0 ↔ q s=0∧∀ d ∈ l,q d=0)
 | [],s,t,h,hs => by
  cases h
  exact ⟨hs,fun e => ⟨e,fun d hd => by cases hd⟩,fun e => e.1⟩
 | a :: l,s,t,h,hs => by
  unfold sqF at h
  simp only [Option.bind_eq_some_iff] at h
  obtain ⟨b,h1,c,h2,h3⟩ := h
  have e1 : q b=q a*q a := Hy.nd (H := H') (K := K) (pr := pr) Y h1
  have e2 : q c=q s+q b := Hy.nd (H := H') (K := K) (pr := pr) Y h2
  have n := sq_nn (q a)
  obtain ⟨g1,g2⟩ := sqF_val Y h3 (by grind)
  refine ⟨g1,g2.trans ?_⟩
  have e3 := sq_sum (y := q a) hs
  rw [e2,e1,e3]
  constructor
  ·rintro ⟨⟨x,y⟩,z⟩
   refine ⟨x,fun d hd => ?_⟩
   rcases List.mem_cons.1 hd with rfl | hd
   ·exact y
   ·exact z d hd
  ·rintro ⟨x,y⟩
   exact ⟨⟨x,y a List.mem_cons_self⟩,fun d hd => y d (List.mem_cons_of_mem _ hd)⟩
theorem sqN_val {H' : List (Nat × Nat × Nat × Nat)} (Y : Hy N H' L C Z q σ) {l : List Nat} {s : Nat} (h : sqN (sx Tryz.prog N H K L C Z pr) l=some s) : q s=0 ↔ ∀ d ∈ l,q d=0 := by
 unfold sqN at h
 split at h
 ·cases h
 ·rename_i a l
  rw [Option.bind_eq_some_iff] at h
  obtain ⟨b,h1,h2⟩ := h
  have e1 : q b=q a*q a := Hy.nd (H := H') (K := K) (pr := pr) Y h1
  have n := sq_nn (q a)
  obtain ⟨_,g⟩ := sqF_val Y h2 (by grind)
  rw [g,e1]
  constructor
  ·rintro ⟨x,y⟩ d hd
   rcases List.mem_cons.1 hd with rfl | hd
   ·rcases Rat.mul_eq_zero.1 x with x | x <;> exact x
   ·exact y d hd
  ·intro y
   refine ⟨?_,fun d hd => y d (List.mem_cons_of_mem _ hd)⟩
   rw [y a List.mem_cons_self,Rat.zero_mul]
theorem run_cases {f : FuncId} {args : List AV} {vs : List Value} {k : Nat} {p : List HB × Nat} {b : Bool} (Y : Hy N H L C Z q σ) (hm : (Tryz.prog).follows .mixedOrders=true) {w : World} (hP : ∀ H',Hy N H' L C Z q σ→PrimOk (sx Tryz.prog N H' K L C Z pr) (evS q σ) w) (hr : callC (sx Tryz.prog N H K L C Z pr) cs k [] f args [] 0=some (kB b,p))
  (hA : A2 (avOn (cOn (evS q σ) K (fun _ => none) w)) args vs) : Calls Tryz.prog f vs.toArray w fun e w' => Below w.heap.size w w'∧e=.returned (.bool b) := by
 refine (callC_ok (S := sx Tryz.prog N H K L C Z pr) (E := evS q σ) (w0 := w) (T := fun X => Hy N (X ++ H) L C Z q σ) (z := fun d => q d=0) hm (fun X hX => knows hX) (fun X hX => hP _ hX) ask_true ?_ k [] Y f args [] 0 (kB b,p) hr (fun _ => none) w vs ⟨Below.refl _ _,(fun _ _ h => by cases h)⟩ hA (fun x hx => by cases hx) (fun x hx => by cases hx) (fun _ _ _ => rfl)).mono ?_
 ·intro X hX l s r h1 h2
  have e := hX.k0 s r h2
  have g := sqN_val hX h1
  refine ⟨fun h => g.1 (e.1 h),fun h => ?_⟩
  have hn : ¬ ∀ d ∈ l,q d=0 := fun q' => by
   rw [e.2 (g.2 q')] at h
   cases h
  simpa using hn
 ·rintro _ w' ⟨r,γ',rfl,hef,hv,_⟩
  exact ⟨hef.wi.bel,by rw [show r=.bool b from (asC_on (v := kB b) (c := .inl (.bool b)) rfl hv).1]⟩
theorem run_toldC {f : FuncId} {args : List AV} {vs : List Value} {k : Nat} {p : List HB × Nat} {b : Bool} (Y : Hy N H L C Z q σ) (hc : ∀ f ∈ cl,Closed f) (hm : (Tryz.prog).follows .mixedOrders=true) (hr : callC (sx Tryz.prog N H K L C Z (prC cl)) cs k [] f args [] 0=some (kB b,p)) {w : World} (hp : PreS w)
  (hA : A2 (avOn (cOn (evS q σ) K (fun _ => none) w)) args vs) : Calls Tryz.prog f vs.toArray w fun e w' => Below w.heap.size w w'∧e=.returned (.bool b) := run_cases Y hm (fun _ Y' => primOk Y' hp hc) hr hA
theorem run_toldC' {f : FuncId} {args : List AV} {vs : List Value} (k : Nat) (Y : Hy N H L C Z q σ) (hc : ∀ f ∈ cl,Closed f) (hm : (Tryz.prog).follows .mixedOrders=true) (hr : (callC (sx Tryz.prog N H K L C Z (prC cl)) cs k [] f args [] 0).map (·.1)=some (kB true)) {w : World} (hp : PreS w)
  (hA : A2 (avOn (cOn (evS q σ) K (fun _ => none) w)) args vs) : Calls Tryz.prog f vs.toArray w fun e w' => Below w.heap.size w w'∧e=.returned (.bool true) := by
 rw [Option.map_eq_some_iff] at hr
 obtain ⟨⟨v,p⟩,h1,h2⟩ := hr
 dsimp only at h2
 subst h2
 exact run_toldC Y hc hm h1 hp hA
theorem sq_first {u x : Rat} (h : u=x*x) : 0≤u∧(u=0 ↔ x=0) := by
 rw [h]
 exact ⟨sq_nn x,fun e => (Rat.mul_eq_zero.1 e).elim id id,fun e => by rw [e,Rat.zero_mul]⟩
theorem sq_next {p : Prop} {s x v t : Rat} (h : 0≤s∧(s=0 ↔ p)) (hv : v=x*x) (ht : t=s+v) : 0≤t∧(t=0 ↔ (p∧x=0)) := by
 have n := sq_nn x
 refine ⟨by have := h.1; grind,?_⟩
 rw [ht,hv,sq_sum h.1,h.2]
end
end Go.Proofs.YtglilpjckmgbcaaGreatDoor
/- VY -/
namespace Go.Proofs.YtglilpjckmgbcaaGreatDoor
open Go.RowKit Cx
theorem den_num (t : Rat) : t*(t.den : Rat)=((t.num : Int) : Rat) := by
 conv => lhs; lhs; rw [← Rat.mkRat_self t]
 have h0 : (t.den : Rat) ≠ 0 := fun h => t.den_nz (by exact_mod_cast h)
 rw [Rat.mkRat_eq_div,Rat.div_mul_cancel h0]
theorem whole {q : Rat} (h : q.den=1) : q=((q.num : Int) : Rat) := by
 have := den_num q
 rw [h] at this
 rw [← this]
 show q=q*((1 : Nat) : Rat)
 exact (Rat.mul_one q).symm
end Go.Proofs.YtglilpjckmgbcaaGreatDoor
/- VSZ -/
namespace Go.Proofs.YtglilpjckmgbcaaGreatDoor
open Go.RowKit Cx
def szW (Z : List Nat) (I : List Bool) (z : Nat) (b : Bool) (nd : Nd) : Bool := match nd.1,nd.2 with
 | 0,[_,n,d] => (Nat.blt n (2 ^ z) && (Nat.blt 0 d && Nat.blt d (2 ^ z))) && (!b || Nat.beq d 1)
 | 1,[_] => Nat.ble 3495259 z && !b
 | 2,[a,c] => (match Z[a]?,Z[c]?,I[a]?,I[c]? with
  | some x,some y,some true,some true => Nat.ble (Nat.max x y+1) z
  | some x,some y,_,_ => Nat.ble (x+y+1) z && !b
  | _,_,_,_ => false)
 | 3,[a,c] => (match Z[a]?,Z[c]?,I[a]?,I[c]? with
  | some x,some y,some true,some true => Nat.ble (Nat.max x y+1) z
  | some x,some y,_,_ => Nat.ble (x+y+1) z && !b
  | _,_,_,_ => false)
 | 4,[a,c] => (match Z[a]?,Z[c]?,I[a]?,I[c]? with
  | some x,some y,some true,some true => Nat.ble (x+y) z
  | some x,some y,_,_ => Nat.ble (x+y) z && !b
  | _,_,_,_ => false)
 | 5,[a] => (match Z[a]?,I[a]? with
  | some x,some true => Nat.ble x z
  | some x,_ => Nat.ble x z && !b
  | _,_ => false)
 | 6,[a,c] => (match Z[a]?,Z[c]? with
  | some x,some y => Nat.ble (x+y) z && !b
  | _,_ => false)
 | 8,i :: xs => (match getsO Z xs with
  | some zs => Nat.blt i xs.length && (Nat.ble ((xs.length+1)*maxL zs+1) z || (xs.all (fun a => match I[a]? with
   | some true => true
   | _ => false) && (match xs[i]? with
   | some a => (match Z[a]? with
    | some x => Nat.ble (x+1) z
    | none => false)
   | none => false)))
  | none => false)
 | _,_ => false
def szC (Z : List Nat) (I : List Bool) : List Nd→List Nat→List Bool→Bool
 | [],[],[] => true
 | nd :: ns,z :: zs,b :: bs => (szW Z I z b nd && Nat.ble z 1000000000000) && szC Z I ns zs bs
 | _,_,_ => false
theorem szC_get {Z : List Nat} {I : List Bool} : ∀ {ns : List Nd} {zs : List Nat} {bs : List Bool} {i z : Nat},szC Z I ns zs bs=true→zs[i]? = some z→∃ nd b,ns[i]? = some nd∧bs[i]? = some b∧szW Z I z b nd=true∧z≤1000000000000
 | [],[],[],_,_,_,h => by simp at h
 | [],[],_ :: _,_,_,h,_ => by cases h
 | [],_ :: _,_,_,_,h,_ => by cases h
 | _ :: _,[],_,_,_,h,_ => by cases h
 | _ :: _,_ :: _,[],_,_,h,_ => by cases h
 | nd :: ns,z' :: zs,b :: bs,0,z,h,e => by
  have : z'=z := by simpa using e
  subst this
  unfold szC at h
  simp only [Bool.and_eq_true,Nat.ble_eq] at h
  exact ⟨nd,b,rfl,rfl,h.1.1,h.1.2⟩
 | nd :: ns,z' :: zs,b :: bs,i+1,z,h,e => by
  unfold szC at h
  rw [Bool.and_eq_true] at h
  obtain ⟨nd2,b2,g1,g2,g3⟩ := szC_get (ns := ns) (zs := zs) (bs := bs) h.2 (show zs[i]? = some z by simpa using e)
  exact ⟨nd2,b2,by simpa using g1,by simpa using g2,g3⟩
theorem szC_len {Z : List Nat} {I : List Bool} : ∀ {ns : List Nd} {zs : List Nat} {bs : List Bool},szC Z I ns zs bs=true→ns.length=zs.length
 | [],[],[],_ => rfl
 | [],[],_ :: _,h => by cases h
 | [],_ :: _,_,h => by cases h
 | _ :: _,[],_,h => by cases h
 | _ :: _,_ :: _,[],h => by cases h
 | _ :: _,_ :: _,_ :: _,h => by
  unfold szC at h
  rw [Bool.and_eq_true] at h
  exact congrArg (· + 1) (szC_len h.2)
structure QW (z : Nat) (x : Rat) : Prop where
 qs : QS z x
 wh : x.den=1
theorem QW.of {z : Nat} {n : Int} (h : n.natAbs < 2 ^ z) (hz : 0 < z) : QW z ((n : Int) : Rat) :=
 ⟨⟨by simpa using h,by
  show ((n : Int) : Rat).den < 2 ^ z
  rw [Rat.den_intCast]
  exact Nat.one_lt_two_pow (by omega)⟩,Rat.den_intCast n⟩
theorem QW.mono {k l : Nat} {x : Rat} (h : QW k x) (hk : k≤l) : QW l x := ⟨h.qs.mono hk,h.wh⟩
theorem two_max {a b x y : Nat} (h1 : a < 2 ^ x) (h2 : b < 2 ^ y) : a+b < 2 ^ (Nat.max x y+1) := by
 have e1 : 2 ^ x≤2 ^ Nat.max x y := Nat.pow_le_pow_right (by decide) (Nat.le_max_left x y)
 have e2 : 2 ^ y≤2 ^ Nat.max x y := Nat.pow_le_pow_right (by decide) (Nat.le_max_right x y)
 rw [Nat.pow_succ]
 omega
theorem QW.add {x y : Nat} {a b : Rat} (h1 : QW x a) (h2 : QW y b) : QW (Nat.max x y+1) (a+b) := by
 rw [whole h1.wh,whole h2.wh,← Rat.intCast_add]
 refine QW.of ?_ (by omega)
 have := two_max h1.qs.num h2.qs.num
 omega
theorem QW.sub {x y : Nat} {a b : Rat} (h1 : QW x a) (h2 : QW y b) : QW (Nat.max x y+1) (a - b) := by
 rw [whole h1.wh,whole h2.wh,← Rat.intCast_sub]
 refine QW.of ?_ (by omega)
 have := two_max h1.qs.num h2.qs.num
 omega
theorem QW.mul {x y : Nat} {a b : Rat} (h1 : QW x a) (h2 : QW y b) : QW (x+y) (a*b) := by
 refine ⟨h1.qs.mul h2.qs,?_⟩
 rw [whole h1.wh,whole h2.wh,← Rat.intCast_mul]
 exact Rat.den_intCast _
theorem QW.neg {x : Nat} {a : Rat} (h1 : QW x a) : QW x (-a) := ⟨h1.qs.neg,h1.wh⟩
theorem lD_one : ∀ {qs : List Rat} {m : Nat},(∀ q ∈ qs,q.den=1)→qs.foldl (fun m q => m*(q.den / Nat.gcd m q.den)) m=m
 | [],_,_ => rfl
 | q :: qs,m,h => by
  rw [List.foldl_cons,h q List.mem_cons_self,Nat.gcd_one_right,Nat.div_self (by decide),Nat.mul_one]
  exact lD_one fun p hp => h p (List.mem_cons_of_mem _ hp)
theorem QW.fac {z : Nat} {qs : List Rat} {x : Rat} (hx : QS z x) (h : x ∈ qs) (hw : ∀ y ∈ qs,y.den=1) : QS (z+1) (x*fac qs) := by
 have hl : lD qs=1 := lD_one hw
 refine ⟨?_,?_⟩
 ·rw [fac_abs h,hl,hw x h,Nat.div_self (by decide),Nat.mul_one]
  exact Nat.lt_of_le_of_lt (Nat.div_le_self _ _) (Nat.lt_of_lt_of_le hx.num (Nat.pow_le_pow_right (by decide) (by omega)))
 ·rw [fac_den h]
  exact Nat.one_lt_two_pow (by omega)
theorem ten_three : ∀ n : Nat,10 ^ n≤2 ^ ((10*n+2) / 3)
 | 0 => by decide
 | 1 => by decide
 | 2 => by decide
 | n+3 => by
  have h := ten_three n
  have e : (10*(n+3)+2) / 3=(10*n+2) / 3+10 := by omega
  rw [e,Nat.pow_add,Nat.pow_add]
  exact Nat.mul_le_mul h (by decide)
theorem QS.rd3 (l : List UInt8) : QS ((10*l.length+2) / 3+5) (Cx.rd l) := by
 have key : ∀ {m : List UInt8},digs m=true→dv m < 2 ^ ((10*m.length+2) / 3) := fun {m} h => Nat.lt_of_lt_of_le (dv_lt (digs_all h)) (ten_three _)
 unfold Cx.rd
 split
 ·rename_i h
  rw [Bool.and_eq_true] at h
  have h1 := key h.1
  have h2 := key h.2
  have h3 := up_len (tailOf l)
  have h4 := low_len (tailOf l)
  have h5 := tail_len l
  apply QS.mkr
  ·rw [sg_abs]; exact Nat.lt_of_lt_of_le h1 (Nat.pow_le_pow_right (by decide) (by omega))
  ·exact Nat.lt_of_lt_of_le h2 (Nat.pow_le_pow_right (by decide) (by omega))
 ·exact QS.zero.mono (by omega)
section
variable {N : List Nd} {Z : List Nat} {I : List Bool} {q : Nat→Rat}
theorem sizes_okW {σ : Nat→ByteArray} (hσ : ∀ j,(σ j).size≤1048576) (hw : wfB 0 N=true) (hz : szC Z I N Z I=true) (hq : ∀ (a : Nat) nd,N[a]? = some nd→q a=valN σ q nd) (h0 : ∀ a,N.length≤a→q a=0) : (∀ (a : Nat) z,Z[a]? = some z→QS z (q a))∧∀ a,QS 1000000000000 (q a) := by
 have h2 : ∀ (a : Nat) z,Z[a]? = some z→QS z (q a)∧(I[a]? = some true→(q a).den=1) := by
  intro a
  induction a using Nat.strongRecOn with
  | ind a ih =>
   intro z hz'
   obtain ⟨nd,b,hn,hb,hs,_⟩ := szC_get hz hz'
   have hwf := wfB_get hw hn
   rw [Nat.zero_add] at hwf
   rw [hq a nd hn,hb]
   obtain ⟨op,xs⟩ := nd
   unfold szW at hs
   unfold valN
   unfold wfN at hwf
   dsimp only at hs hwf ⊢
   have W : ∀ {c x},c < a→Z[c]? = some x→I[c]? = some true→QW x (q c) := fun hc hx hi => ⟨(ih _ hc _ hx).1,(ih _ hc _ hx).2 hi⟩
   have no : ∀ {v : Rat},b=false→(some b=some true→v.den=1) := fun e h => by rw [e] at h; cases h
   split at hs
   ·rename_i s n d
    simp only [Bool.and_eq_true] at hs
    obtain ⟨⟨h1,h2,h3⟩,h4⟩ := hs
    refine ⟨QS.const (by simpa [Nat.blt_eq] using h1) (by simpa [Nat.blt_eq] using h2) (by simpa [Nat.blt_eq] using h3),fun e => ?_⟩
    rw [show b=true from Option.some.inj e] at h4
    have hd : d=1 := by simpa using h4
    subst hd
    show (if s=0 then mkRat (n : Int) 1 else mkRat (-(n : Int)) 1).den=1
    split
    ·rw [Rat.mkRat_one]
     exact Rat.den_intCast _
    ·rw [Rat.mkRat_one]
     exact Rat.den_intCast _
   ·rename_i j
    simp only [Bool.and_eq_true,Nat.ble_eq,Bool.not_eq_true'] at hs
    exact ⟨QS.mono (QS.rd3 _) (by have := hσ j; rw [str_len]; omega),no hs.2⟩
   ·simp only [List.all_cons,List.all_nil,Bool.and_true,Bool.and_eq_true] at hwf
    have l1 := (by simpa [Nat.blt_eq] using hwf.1 : _ < a)
    have l2 := (by simpa [Nat.blt_eq] using hwf.2 : _ < a)
    split at hs
    ·rename_i x y hx hy i1 i2
     rw [Nat.ble_eq] at hs
     have := ((W l1 hx i1).add (W l2 hy i2)).mono hs
     exact ⟨this.qs,fun _ => this.wh⟩
    ·rename_i x y hx hy _
     simp only [Bool.and_eq_true,Nat.ble_eq,Bool.not_eq_true'] at hs
     exact ⟨((ih _ l1 x hx).1.add (ih _ l2 y hy).1).mono hs.1,no hs.2⟩
    ·cases hs
   ·simp only [List.all_cons,List.all_nil,Bool.and_true,Bool.and_eq_true] at hwf
    have l1 := (by simpa [Nat.blt_eq] using hwf.1 : _ < a)
    have l2 := (by simpa [Nat.blt_eq] using hwf.2 : _ < a)
    split at hs
    ·rename_i x y hx hy i1 i2
     rw [Nat.ble_eq] at hs
     have := ((W l1 hx i1).sub (W l2 hy i2)).mono hs
     exact ⟨this.qs,fun _ => this.wh⟩
    ·rename_i x y hx hy _
     simp only [Bool.and_eq_true,Nat.ble_eq,Bool.not_eq_true'] at hs
     exact ⟨((ih _ l1 x hx).1.sub (ih _ l2 y hy).1).mono hs.1,no hs.2⟩
    ·cases hs
   ·simp only [List.all_cons,List.all_nil,Bool.and_true,Bool.and_eq_true] at hwf
    have l1 := (by simpa [Nat.blt_eq] using hwf.1 : _ < a)
    have l2 := (by simpa [Nat.blt_eq] using hwf.2 : _ < a)
    split at hs
    ·rename_i x y hx hy i1 i2
     rw [Nat.ble_eq] at hs
     have := ((W l1 hx i1).mul (W l2 hy i2)).mono hs
     exact ⟨this.qs,fun _ => this.wh⟩
    ·rename_i x y hx hy _
     simp only [Bool.and_eq_true,Nat.ble_eq,Bool.not_eq_true'] at hs
     exact ⟨((ih _ l1 x hx).1.mul (ih _ l2 y hy).1).mono hs.1,no hs.2⟩
    ·cases hs
   ·simp only [List.all_cons,List.all_nil,Bool.and_true] at hwf
    have l1 := (by simpa [Nat.blt_eq] using hwf : _ < a)
    split at hs
    ·rename_i x hx i1
     rw [Nat.ble_eq] at hs
     have := (W l1 hx i1).neg.mono hs
     exact ⟨this.qs,fun _ => this.wh⟩
    ·rename_i x hx _
     simp only [Bool.and_eq_true,Nat.ble_eq,Bool.not_eq_true'] at hs
     exact ⟨((ih _ l1 x hx).1.neg).mono hs.1,no hs.2⟩
    ·cases hs
   ·simp only [List.all_cons,List.all_nil,Bool.and_true,Bool.and_eq_true] at hwf
    split at hs
    ·rename_i x y hx hy
     simp only [Bool.and_eq_true,Nat.ble_eq,Bool.not_eq_true'] at hs
     exact ⟨((ih _ (by simpa [Nat.blt_eq] using hwf.1) x hx).1.div (ih _ (by simpa [Nat.blt_eq] using hwf.2) y hy).1).mono hs.1,no hs.2⟩
    ·cases hs
   ·rename_i i ys
    split at hs
    ·rename_i zs hzs
     rw [Bool.and_eq_true] at hs
     have hi : i < ys.length := by simpa [Nat.blt_eq] using hs.1
     have hwf' : ys.all (Nat.blt · a)=true := hwf
     rw [List.all_eq_true] at hwf'
     have hlt : ∀ c ∈ ys,c < a := fun c hc => by simpa [Nat.blt_eq] using hwf' c hc
     have hm : q ys[i] ∈ ys.map q := List.mem_map_of_mem (List.getElem_mem hi)
     have hg : (ys.map q).getD i 0=q ys[i] := by
      rw [List.getD_eq_getElem?_getD,List.getElem?_map,List.getElem?_eq_getElem hi]
      rfl
     show QS z ((ys.map q).getD i 0*fac (ys.map q))∧(some b=some true→((ys.map q).getD i 0*fac (ys.map q)).den=1)
     rw [hg]
     refine ⟨?_,fun _ => fac_den hm⟩
     rcases Bool.or_eq_true _ _ ▸ hs.2 with h3 | h3
     ·rw [Nat.ble_eq] at h3
      have hall : ∀ y ∈ ys.map q,QS (maxL zs) y := fun y hy => by
       obtain ⟨c,hc,rfl⟩ := List.mem_map.1 hy
       obtain ⟨z',hm',hz2⟩ := getsO_get hzs c hc
       exact (ih c (hlt c hc) z' hz2).1.mono (le_maxL z' hm')
      have := QS.facN hall (x := q ys[i]) hm
      rw [List.length_map] at this
      exact this.mono h3
     ·rw [Bool.and_eq_true,List.all_eq_true] at h3
      obtain ⟨h4,h5⟩ := h3
      have hwh : ∀ y ∈ ys.map q,y.den=1 := fun y hy => by
       obtain ⟨c,hc,rfl⟩ := List.mem_map.1 hy
       obtain ⟨z',_,hz2⟩ := getsO_get hzs c hc
       refine (ih c (hlt c hc) z' hz2).2 ?_
       have := h4 c hc
       split at this
       ·assumption
       ·cases this
      rw [List.getElem?_eq_getElem hi] at h5
      dsimp only at h5
      split at h5
      ·rename_i x hx
       rw [Nat.ble_eq] at h5
       exact (QW.fac (ih _ (hlt _ (List.getElem_mem hi)) x hx).1 hm hwh).mono h5
      ·cases h5
    ·cases hs
   ·cases hs
 refine ⟨fun a z h => (h2 a z h).1,fun a => ?_⟩
 have hl := szC_len hz
 by_cases ha : a < Z.length
 ·obtain ⟨nd,b,_,_,_,hle⟩ := szC_get hz (List.getElem?_eq_getElem ha)
  exact (h2 a _ (List.getElem?_eq_getElem ha)).1.mono hle
 ·rw [h0 a (by omega)]
  exact QS.zero.mono (by decide)
theorem hy_ofW {L C : List (List Nat × Nat)} {σ : Nat→ByteArray} {H : List (Nat × Nat × Nat × Nat)} (hσ : ∀ j,(σ j).size≤1048576) (hw : wfB 0 N=true) (hz : szC Z I N Z I=true) (hl : litB N L=true) (hcn : canB N C=true) (hq : ∀ (a : Nat) nd,N[a]? = some nd→q a=valN σ q nd) (h0 : ∀ a,N.length≤a→q a=0) (hH : hAll q H) : Hy N H L C Z q σ where
 nat := hq
 qs := (sizes_okW hσ hw hz hq h0).2
 zs := (sizes_okW hσ hw hz hq h0).1
 par := hσ
 lit := fun s b h => lit_rd hl hq h
 k0 := fun a r h => kn_at hH h
 k1 := fun a r h => kn_at hH h
 k2 := fun a r h => kn_at hH h
 k3 := fun a b r h => kn_at hH h
 k4 := fun l a b r h1 h2 => by
  have h3 : Nat.beq 1 r=true ↔ q a=q b := kn_at hH h2
  rw [h3,← can_tx hcn hq h1]
  exact ⟨fun e => by rw [e],fun e => tellS_inj (bytesN_inj e)⟩
 k6 := fun a b r h => kn_at hH h
 k5 := fun a r h => kn_at hH h
end
end Go.Proofs.YtglilpjckmgbcaaGreatDoor
/- VPD -/
namespace Cx
open Go Go.RowKit
def a1sB : List A1→List A1→Bool
 | [],[] => true
 | (a,x) :: l,(b,y) :: m => (a == b && acsW x y) && a1sB l m
 | _,_ => false
theorem a1sB_eq : ∀ {l m : List A1},a1sB l m=true→l=m
 | [],[],_ => rfl
 | (a,x) :: l,(b,y) :: m,h => by
  unfold a1sB at h
  simp only [Bool.and_eq_true,beq_iff_eq] at h
  obtain ⟨⟨h1,h2⟩,h3⟩ := h
  rw [h1,acsW_eq h2,a1sB_eq h3]
 | [],_ :: _,h => by cases h
 | _ :: _,[],h => by cases h
def avsB : List AV→List AV→Bool
 | [],[] => true
 | (a,x) :: l,(b,y) :: m => (a == b && a1sB x y) && avsB l m
 | _,_ => false
theorem avsB_eq : ∀ {l m : List AV},avsB l m=true→l=m
 | [],[],_ => rfl
 | (a,x) :: l,(b,y) :: m,h => by
  unfold avsB at h
  simp only [Bool.and_eq_true,beq_iff_eq] at h
  obtain ⟨⟨h1,h2⟩,h3⟩ := h
  rw [h1,a1sB_eq h2,avsB_eq h3]
 | [],_ :: _,h => by cases h
 | _ :: _,[],h => by cases h
abbrev Memo := List (FuncId × List AV × AV)
def memoGet (f : FuncId) (args : List AV) : Memo→Option AV
 | [] => none
 | (g,bs,v) :: m => bif Nat.beq f g && avsB args bs then some v else memoGet f args m
theorem memoGet_mem {f : FuncId} {args : List AV} {v : AV} : ∀ {m : Memo},memoGet f args m=some v→(f,args,v) ∈ m
 | [],h => by cases h
 | (g,bs,u) :: m,h => by
  unfold memoGet at h
  cases e : (Nat.beq f g && avsB args bs) with
  | true =>
   rw [e] at h
   rw [Bool.and_eq_true,Nat.beq_eq] at e
   rw [e.1,avsB_eq e.2,show u=v from Option.some.inj h]
   exact List.mem_cons_self
  | false =>
   rw [e] at h
   exact List.mem_cons_of_mem _ (memoGet_mem h)
def bareC : AC→Bool
 | .inl _ => true
 | .inr (k,_) => Nat.ble k 2
def bareV (v : AV) : Bool := v.2.all fun x => x.2.all bareC
def callD (S : Sx) (cs : List (FuncId × Nat)) (M : Memo) : Nat→Hs→CallF
 | 0,_,_,_,_,_ => none
 | n+1,X,f,args,h,nx => match memoGet f args M with
  | some v => some (v,h,nx)
  | none => match prGet f cs with
   | none => bodyC (S.plus X) (callD S cs M n X) f args h nx
   | some c => match askIt S X h c args with
    | none => bodyC (S.plus X) (callD S cs M n X) f args h nx
    | some (l,r) => bif Nat.beq 1 r then bodyC (S.plus (allZ l X)) (callD S cs M n (allZ l X)) f args h nx
     else joinC h nx ((splits l X).map fun X' => bodyC (S.plus X') (callD S cs M n X') f args h nx)
def MemoOk (S : Sx) (E : Ev S.nb) (w0 : World) (M : Memo) : Prop := ∀ f args v,(f,args,v) ∈ M→∀ (γ : Nat→Option Nat) (w : World) (vs : List Value),WI w0 γ w→A2 (avOn (cOn E S.K γ w)) args vs →
 Calls S.P f vs.toArray w fun e w' => ∃ r,e=.returned r∧(∀ wr nx,(∀ b ∈ wr,Live γ b)→Ef S.nb w0 wr nx nx γ w γ w')∧avOn (cOn E S.K γ w') v r
section
variable {S : Sx} {E : Ev S.nb} {w0 : World}
theorem bareC_on {K K' : List (FuncId × List AC)} {γ γ' : Nat→Option Nat} {w : World} {d : Nat} {c : AC} {v : Value} (hc : bareC c=true) (h : cellOn E K γ w d c v) : cellOn E K' γ' w d c v := by
 cases c with
 | inl u =>
  unfold cellOn at h ⊢
  exact h
 | inr t =>
  obtain ⟨k,a,b,n,c⟩ := t
  have hk : k≤2 := by
   unfold bareC at hc
   rw [Nat.ble_eq] at hc
   exact hc
  match k,hk with
  | 0,_ =>
   unfold cellOn at h ⊢
   exact h
  | 1,_ =>
   unfold cellOn at h ⊢
   exact h
  | 2,_ =>
   unfold cellOn at h ⊢
   exact h
theorem A2_imp {α : Type} {R R' : α→Value→Prop} {P : α→Prop} (h : ∀ a v,P a→R a v→R' a v) : ∀ {l : List α} {vs : List Value},(∀ a ∈ l,P a)→A2 R l vs→A2 R' l vs
 | [],[],_,_ => trivial
 | _ :: _,_ :: _,hp,q => ⟨h _ _ (hp _ List.mem_cons_self) q.1,A2_imp h (fun a ha => hp a (List.mem_cons_of_mem _ ha)) q.2⟩
 | [],_ :: _,_,q => q.elim
 | _ :: _,[],_,q => q.elim
theorem bareV_on {K K' : List (FuncId × List AC)} {γ γ' : Nat→Option Nat} {w : World} {x : AV} {v : Value} (hx : bareV x=true) (h : avOn (cOn E K γ w) x v) : avOn (cOn E K' γ' w) x v := by
 unfold bareV at hx
 rw [List.all_eq_true] at hx
 have one : ∀ (y : A1) u,(∀ c ∈ y.2,bareC c=true)→a1On (cOn E K γ w) y u→a1On (cOn E K' γ' w) y u := fun y u hy q => by
  obtain ⟨b,cs⟩ := y
  cases b with
  | true =>
   obtain ⟨us,e,q⟩ := q
   exact ⟨us,e,A2_imp (P := fun c => bareC c=true) (fun _ _ hc q => bareC_on hc q) hy q⟩
  | false => exact A2_imp (P := fun c => bareC c=true) (fun _ _ hc q => bareC_on hc q) hy q
 have all : ∀ y ∈ x.2,∀ c ∈ y.2,bareC c=true := fun y hy c hc => (List.all_eq_true.1 (hx y hy)) c hc
 obtain ⟨b,ys⟩ := x
 cases b with
 | true =>
  obtain ⟨us,e,q⟩ := h
  exact ⟨us,e,A2_imp (P := fun y : A1 => ∀ c ∈ y.2,bareC c=true) (fun y u hy q => one y u hy q) all q⟩
 | false => exact A2_imp (P := fun y : A1 => ∀ c ∈ y.2,bareC c=true) (fun y u hy q => one y u hy q) all h
variable {T : Hs→Prop} {z : Nat→Prop}
theorem callD_ok {cs : List (FuncId × Nat)} {M : Memo} (hm : S.P.follows .mixedOrders=true) (hM : MemoOk S E w0 M) (hN : ∀ X,T X→Knows (S.plus X) E) (hP : ∀ X,T X→PrimOk (S.plus X) E w0) (hk : AskTrue S T z)
  (hs : ∀ X,T X→∀ l s r,sqN S l=some s→(S.plus X).kn 0 s 0=some r→(Nat.beq 1 r=true→∀ d ∈ l,z d)∧(Nat.beq 1 r=false→∃ d ∈ l,¬ z d)) : ∀ n X,T X→CallOk S E w0 (callD S cs M n X)
 | 0,_,_ => fun _ _ _ _ _ h => by cases h
 | n+1,X,hX => fun f args h nx p hp => by
  have body : ∀ Y,T Y→CallOk S E w0 (bodyC (S.plus Y) (callD S cs M n Y)) := fun Y hY => bodyC_ok (S := S.plus Y) hm (hN Y hY) (hP Y hY) (callD_ok hm hM hN hP hk hs n Y hY)
  unfold callD at hp
  split at hp
  ·rename_i v hv
   cases hp
   intro γ w vs hi hA hb hlt hf
   refine (hM f args v (memoGet_mem hv) γ w vs hi hA).mono ?_
   rintro _ w' ⟨r,rfl,hef,hr⟩
   have live : ∀ b ∈ h.map (·.1),Live γ b := fun b hb' => by
    obtain ⟨x,hx,rfl⟩ := List.mem_map.1 hb'
    obtain ⟨_,_,_,_,hl,_⟩ := hb x hx
    exact hl
   exact ⟨r,γ,rfl,hef _ _ live,hr,fun x hx => (hef [] nx no_live).box hi (hb x hx) (by simp)⟩
  ·split at hp
   ·exact body X hX f args h nx p hp
   ·split at hp
    ·exact body X hX f args h nx p hp
    rename_i l r hk'
    obtain ⟨hl,s,h1,h2⟩ := askIt_some hk'
    have h3 := hp
    obtain ⟨a1,a0⟩ := hs X hX _ s r h1 h2
    cases e : Nat.beq 1 r with
    | true =>
     rw [e] at h3
     exact body _ (allZ_true hk hX hl fun a ha => a1 e _ (List.mem_map_of_mem ha)) f args h nx p h3
    | false =>
     rw [e] at h3
     obtain ⟨d,hd,hz⟩ := a0 e
     obtain ⟨a,ha,rfl⟩ := List.mem_map.1 hd
     obtain ⟨X',m1,m2⟩ := splits_true hk hX hl ⟨a,ha,hz⟩
     replace h3 : joinC h nx ((splits l X).map fun X' => bodyC (S.plus X') (callD S cs M n X') f args h nx)=some p := h3
     unfold joinC at h3
     split at h3
     ·rename_i p0 rs hrs
      rw [Option.bind_eq_some_iff] at h3
      obtain ⟨b,hb,h4⟩ := h3
      rw [ifO_some,List.all_eq_true] at h4
      obtain ⟨h5,h6⟩ := h4
      cases h6
      obtain ⟨h',nx',q1,q2,q3⟩ := agree_some (h5 _ (List.mem_map_of_mem m1))
      intro γ w vs hi hA hb hlt hf
      refine (body X' m2 f args h nx _ q1 γ w vs hi hA hb hlt fun b g1 g2 => hf b g1 (Nat.lt_of_lt_of_le g2 q2)).mono ?_
      rintro _ w' ⟨r',γ',rfl,hef,hv,hx⟩
      exact ⟨r',γ',rfl,hef.wide (Nat.le_refl _) q2,hv,fun x hh => hx x (q3 x hh)⟩
     ·cases h3
theorem memo_run {K1 K2 : List (FuncId × List AC)} {H1 H2 : Hs} {M : Memo} {f : FuncId} {args : List AV} {v : AV} {p : List HB × Nat} {call : CallF} (hC : CallOk { S with H := H1,K := K1 } E w0 call) (hr : call f args [] 0=some (v,p)) (ha : args.all bareV=true) (hv : bareV v=true) (hM : MemoOk { S with H := H2,K := K2 } E w0 M) : MemoOk { S with H := H2,K := K2 } E w0 ((f,args,v) :: M) := fun g bs u hmem => by
 rcases List.mem_cons.1 hmem with e | hmem
 ·cases e
  intro γ w vs hi hA
  rw [List.all_eq_true] at ha
  refine (hC f args [] 0 (v,p) hr (fun _ => none) w vs ⟨hi.bel,(fun _ _ h => by cases h)⟩ (A2_imp (P := fun x => bareV x=true) (fun _ _ hx q => bareV_on hx q) ha hA) (fun x hx => by cases hx) (fun x hx => by cases hx) (fun _ _ _ => rfl)).mono ?_
  rintro _ w' ⟨r,γ',rfl,hef,hr,_⟩
  refine ⟨r,rfl,fun wr nx hl => ⟨leG.refl _,fun _ _ => rfl,fun _ _ h => Or.inl h,⟨hef.wi.bel,fun b G q => ⟨(hi.lo b G q).1,Nat.lt_of_lt_of_le (hi.lo b G q).2 hef.gr.size⟩⟩,hef.gr,fun G hG _ => hef.keep G hG (fun b hb => by cases hb),hl⟩,bareV_on hv hr⟩
 ·exact hM g bs u hmem
def memoOne (S : Sx) (cs : List (FuncId × Nat)) (k : Nat) : Memo→Bool
 | (f,args,v) :: M => (match callD S cs M k [] f args [] 0 with
  | some (u,_) => avsB [u] [v]
  | none => false) && (args.all bareV && bareV v)
 | [] => false
def memoChk (S : Sx) (cs : List (FuncId × Nat)) (k : Nat) : Nat→Memo→Bool
 | 0,_ => true
 | n+1,M => memoOne S cs k M && memoChk S cs k n M.tail
def qA (l : List Nat) : AV := (false,[(true,l.flatMap qCells)])
def tA (l : List Nat) : AV := (false,[(true,l.map fun a => .inr (1,a,0,0,0))])
theorem memo_nil : MemoOk S E w0 [] := fun _ _ _ h => by cases h
end
end Cx
/- VPE -/
namespace Go.Proofs.YtglilpjckmgbcaaGreatDoor
open Cx Go Go.RowKit
section
variable {N : List Nd} {H : List (Nat × Nat × Nat × Nat)} {K : List (FuncId × List AC)} {L C : List (List Nat × Nat)} {Z : List Nat} {q : Nat→Rat} {σ : Nat→ByteArray} {cl : List FuncId} {cs pr : List (FuncId × Nat)} {M : Memo} {w : World}
theorem callD_told (Y : Hy N H L C Z q σ) (hc : ∀ f ∈ cl,Closed f) (hm : (Tryz.prog).follows .mixedOrders=true) (hp : PreS w) (hM : MemoOk (sx Tryz.prog N H K L C Z (prC cl)) (evS q σ) w M) (k : Nat) : CallOk (sx Tryz.prog N H K L C Z (prC cl)) (evS q σ) w (callD (sx Tryz.prog N H K L C Z (prC cl)) cs M k []) :=
 callD_ok (S := sx Tryz.prog N H K L C Z (prC cl)) (E := evS q σ) (w0 := w) (T := fun X => Hy N (X ++ H) L C Z q σ) (z := fun d => q d=0) hm hM (fun X hX => knows hX) (fun X hX => primOk hX hp hc) ask_true (fun X hX l s r h1 h2 => by
  have e := hX.k0 s r h2
  have g := sqN_val hX h1
  refine ⟨fun h => g.1 (e.1 h),fun h => ?_⟩
  have hn : ¬ ∀ d ∈ l,q d=0 := fun q' => by
   rw [e.2 (g.2 q')] at h
   cases h
  simpa using hn) k [] Y
def MemoAll (N : List Nd) (L C : List (List Nat × Nat)) (Z : List Nat) (q : Nat→Rat) (σ : Nat→ByteArray) (cl : List FuncId) (w : World) (M : Memo) : Prop := ∀ H K,MemoOk (sx Tryz.prog N H K L C Z (prC cl)) (evS q σ) w M
theorem memoAll_nil : MemoAll N L C Z q σ cl w [] := fun _ _ => memo_nil
theorem memoAll_cons {H1 : List (Nat × Nat × Nat × Nat)} (Y : Hy N H1 L C Z q σ) (hc : ∀ f ∈ cl,Closed f) (hm : (Tryz.prog).follows .mixedOrders=true) (hp : PreS w) {f : FuncId} {args : List AV} {v : AV} (k : Nat) (hr : memoOne (sx Tryz.prog N H1 [] L C Z (prC cl)) cs k ((f,args,v) :: M)=true) (hM : MemoAll N L C Z q σ cl w M) : MemoAll N L C Z q σ cl w ((f,args,v) :: M) := fun H K => by
 unfold memoOne at hr
 simp only [Bool.and_eq_true] at hr
 obtain ⟨h1,h2,h3⟩ := hr
 split at h1
 ·rename_i u p hu
  have e := avsB_eq h1
  cases e
  exact memo_run (S := sx Tryz.prog N H K L C Z (prC cl)) (K1 := []) (H1 := H1) (K2 := K) (H2 := H) (callD_told (K := []) (cs := cs) Y hc hm hp (hM H1 []) k) hu h2 h3 (hM H K)
 ·cases h1
theorem memoAll_drop {i : Nat} {H1 : List (Nat × Nat × Nat × Nat)} (Y : Hy N H1 L C Z q σ) (hc : ∀ f ∈ cl,Closed f) (hm : (Tryz.prog).follows .mixedOrders=true) (hp : PreS w) {k : Nat} (hr : memoOne (sx Tryz.prog N H1 [] L C Z (prC cl)) cs k (M.drop i)=true) (hM : MemoAll N L C Z q σ cl w (M.drop (i+1))) : MemoAll N L C Z q σ cl w (M.drop i) := by
 rw [← List.tail_drop] at hM
 generalize M.drop i=D at *
 match D with
 | [] => cases hr
 | (f,args,v) :: D => exact memoAll_cons Y hc hm hp k hr hM
theorem memoAll_chk {H1 : List (Nat × Nat × Nat × Nat)} (Y : Hy N H1 L C Z q σ) (hc : ∀ f ∈ cl,Closed f) (hm : (Tryz.prog).follows .mixedOrders=true) (hp : PreS w) {k : Nat} : ∀ (n : Nat) {M : Memo},memoChk (sx Tryz.prog N H1 [] L C Z (prC cl)) cs k n M=true→MemoAll N L C Z q σ cl w (M.drop n)→MemoAll N L C Z q σ cl w M
 | 0,_,_,h => h
 | n+1,M,hr,h => by
  unfold memoChk at hr
  rw [Bool.and_eq_true] at hr
  have h1 := memoAll_chk Y hc hm hp n hr.2 (by rw [List.drop_tail]; exact h)
  exact memoAll_drop (i := 0) Y hc hm hp hr.1 (by rw [Nat.zero_add,List.drop_one]; exact h1)
theorem run_toldD' {f : FuncId} {args : List AV} {vs : List Value} (k : Nat) (Y : Hy N H L C Z q σ) (hc : ∀ f ∈ cl,Closed f) (hm : (Tryz.prog).follows .mixedOrders=true) (hp : PreS w) (hM : MemoAll N L C Z q σ cl w M) (hr : (callD (sx Tryz.prog N H K L C Z (prC cl)) cs M k [] f args [] 0).map (·.1)=some (kB true))
  (hA : A2 (avOn (cOn (evS q σ) K (fun _ => none) w)) args vs) : Calls Tryz.prog f vs.toArray w fun e w' => Below w.heap.size w w'∧e=.returned (.bool true) := by
 rw [Option.map_eq_some_iff] at hr
 obtain ⟨⟨v,p⟩,h1,h2⟩ := hr
 dsimp only at h2
 subst h2
 refine (callD_told (cs := cs) Y hc hm hp (hM H K) k f args [] 0 (kB true,p) h1 (fun _ => none) w vs ⟨Below.refl _ _,(fun _ _ h => by cases h)⟩ hA (fun x hx => by cases hx) (fun x hx => by cases hx) (fun _ _ _ => rfl)).mono ?_
 rintro _ w' ⟨r,γ',rfl,hef,hv,_⟩
 exact ⟨hef.wi.bel,by rw [show r=.bool true from (asC_on (v := kB true) (c := .inl (.bool true)) rfl hv).1]⟩
end
end Go.Proofs.YtglilpjckmgbcaaGreatDoor
/- VPF -/
namespace Cx
open Go Go.RowKit
def hbsIn (l m : List HB) : Bool := l.all fun x => m.any fun y => Nat.beq x.1 y.1 && acsW x.2 y.2
theorem hbsIn_mem {l m : List HB} (h : hbsIn l m=true) {x : HB} (hx : x ∈ l) : x ∈ m := by
 unfold hbsIn at h
 rw [List.all_eq_true] at h
 have := h x hx
 rw [List.any_eq_true] at this
 obtain ⟨y,hy,e⟩ := this
 rw [Bool.and_eq_true,Nat.beq_eq] at e
 rw [show x=y from Prod.ext e.1 (acsW_eq e.2)]
 exact hy
abbrev MemoX := List (FuncId × List AV × List HB × Nat × AV × List HB × Nat)
def mxGet (f : FuncId) (args : List AV) (h : List HB) (nx : Nat) : MemoX→CRes
 | [] => none
 | (g,bs,k,n,p) :: m => bif (Nat.beq f g && Nat.beq nx n) && (avsB args bs && hbsIn k h) then some p else mxGet f args h nx m
section
variable {S : Sx} {E : Ev S.nb} {w0 : World}
def CallAt (S : Sx) (E : Ev S.nb) (w0 : World) (f : FuncId) (args : List AV) (h : List HB) (nx : Nat) (p : AV × List HB × Nat) : Prop := ∀ (γ : Nat→Option Nat) (w : World) (vs : List Value),WI w0 γ w→A2 (avOn (cOn E S.K γ w)) args vs→(∀ x ∈ h,boxOn E S.K γ w x)→(∀ x ∈ h,x.1 < nx)→(∀ b,nx≤b→b < p.2.2→γ b=none) →
 Calls S.P f vs.toArray w fun e w' => ∃ r γ',e=.returned r∧Ef S.nb w0 (h.map (·.1)) nx p.2.2 γ w γ' w'∧avOn (cOn E S.K γ' w') p.1 r∧∀ x ∈ p.2.1,boxOn E S.K γ' w' x
def MemoXOk (S : Sx) (E : Ev S.nb) (w0 : World) (B : MemoX) : Prop := ∀ f args h nx p,(f,args,h,nx,p) ∈ B→CallAt S E w0 f args h nx p
theorem mxGet_ok : ∀ {B : MemoX} {f : FuncId} {args : List AV} {h : List HB} {nx : Nat} {p : AV × List HB × Nat},MemoXOk S E w0 B→mxGet f args h nx B=some p→CallAt S E w0 f args h nx p
 | [],_,_,_,_,_,_,h => by cases h
 | (g,bs,k,n,u) :: m,f,args,h,nx,p,hB,hg => by
  unfold mxGet at hg
  cases e : ((Nat.beq f g && Nat.beq nx n) && (avsB args bs && hbsIn k h)) with
  | true =>
   rw [e] at hg
   have hu : u=p := Option.some.inj hg
   simp only [Bool.and_eq_true,Nat.beq_eq] at e
   obtain ⟨⟨e1,e2⟩,e3,e4⟩ := e
   subst hu e1 e2
   have ea := avsB_eq e3
   subst ea
   have base := hB f args k nx u List.mem_cons_self
   intro γ w vs hi hA hb hlt hf
   refine (base γ w vs hi hA (fun x hx => hb x (hbsIn_mem e4 hx)) (fun x hx => hlt x (hbsIn_mem e4 hx)) hf).mono ?_
   rintro _ w' ⟨r,γ',rfl,hef,hr,hx⟩
   refine ⟨r,γ',rfl,hef.more (fun b hb' => ?_) (fun b hb' => ?_),hr,hx⟩
   ·obtain ⟨x,hx',rfl⟩ := List.mem_map.1 hb'
    exact List.mem_map.2 ⟨x,hbsIn_mem e4 hx',rfl⟩
   ·obtain ⟨x,hx',rfl⟩ := List.mem_map.1 hb'
    obtain ⟨_,_,_,_,hl,_⟩ := hb x hx'
    exact hl
  | false =>
   rw [e] at hg
   exact mxGet_ok (fun f' a' h' n' p' hm => hB f' a' h' n' p' (List.mem_cons_of_mem _ hm)) hg
def callE (S : Sx) (cs : List (FuncId × Nat)) (M : Memo) (B : MemoX) : Nat→Hs→CallF
 | 0,_,_,_,_,_ => none
 | n+1,X,f,args,h,nx => match memoGet f args M with
  | some v => some (v,h,nx)
  | none => match mxGet f args h nx B with
   | some p => some p
   | none => match prGet f cs with
    | none => bodyC (S.plus X) (callE S cs M B n X) f args h nx
    | some c => match askIt S X h c args with
     | none => bodyC (S.plus X) (callE S cs M B n X) f args h nx
     | some (l,r) => bif Nat.beq 1 r then bodyC (S.plus (allZ l X)) (callE S cs M B n (allZ l X)) f args h nx
      else joinC h nx ((splits l X).map fun X' => bodyC (S.plus X') (callE S cs M B n X') f args h nx)
variable {T : Hs→Prop} {z : Nat→Prop}
theorem callE_ok {cs : List (FuncId × Nat)} {M : Memo} {B : MemoX} (hm : S.P.follows .mixedOrders=true) (hM : MemoOk S E w0 M) (hB : MemoXOk S E w0 B) (hN : ∀ X,T X→Knows (S.plus X) E) (hP : ∀ X,T X→PrimOk (S.plus X) E w0) (hk : AskTrue S T z)
  (hs : ∀ X,T X→∀ l s r,sqN S l=some s→(S.plus X).kn 0 s 0=some r→(Nat.beq 1 r=true→∀ d ∈ l,z d)∧(Nat.beq 1 r=false→∃ d ∈ l,¬ z d)) : ∀ n X,T X→CallOk S E w0 (callE S cs M B n X)
 | 0,_,_ => fun _ _ _ _ _ h => by cases h
 | n+1,X,hX => fun f args h nx p hp => by
  have body : ∀ Y,T Y→CallOk S E w0 (bodyC (S.plus Y) (callE S cs M B n Y)) := fun Y hY => bodyC_ok (S := S.plus Y) hm (hN Y hY) (hP Y hY) (callE_ok hm hM hB hN hP hk hs n Y hY)
  unfold callE at hp
  split at hp
  ·rename_i v hv
   cases hp
   intro γ w vs hi hA hb hlt hf
   refine (hM f args v (memoGet_mem hv) γ w vs hi hA).mono ?_
   rintro _ w' ⟨r,rfl,hef,hr⟩
   have live : ∀ b ∈ h.map (·.1),Live γ b := fun b hb' => by
    obtain ⟨x,hx,rfl⟩ := List.mem_map.1 hb'
    obtain ⟨_,_,_,_,hl,_⟩ := hb x hx
    exact hl
   exact ⟨r,γ,rfl,hef _ _ live,hr,fun x hx => (hef [] nx no_live).box hi (hb x hx) (by simp)⟩
  ·split at hp
   ·rename_i u hu
    cases hp
    exact mxGet_ok hB hu
   ·split at hp
    ·exact body X hX f args h nx p hp
    ·split at hp
     ·exact body X hX f args h nx p hp
     rename_i l r hk'
     obtain ⟨hl,s,h1,h2⟩ := askIt_some hk'
     have h3 := hp
     obtain ⟨a1,a0⟩ := hs X hX _ s r h1 h2
     cases e : Nat.beq 1 r with
     | true =>
      rw [e] at h3
      exact body _ (allZ_true hk hX hl fun a ha => a1 e _ (List.mem_map_of_mem ha)) f args h nx p h3
     | false =>
      rw [e] at h3
      obtain ⟨d,hd,hz⟩ := a0 e
      obtain ⟨a,ha,rfl⟩ := List.mem_map.1 hd
      obtain ⟨X',m1,m2⟩ := splits_true hk hX hl ⟨a,ha,hz⟩
      replace h3 : joinC h nx ((splits l X).map fun X' => bodyC (S.plus X') (callE S cs M B n X') f args h nx)=some p := h3
      unfold joinC at h3
      split at h3
      ·rename_i p0 rs hrs
       rw [Option.bind_eq_some_iff] at h3
       obtain ⟨b,hb,h4⟩ := h3
       rw [ifO_some,List.all_eq_true] at h4
       obtain ⟨h5,h6⟩ := h4
       cases h6
       obtain ⟨h',nx',q1,q2,q3⟩ := agree_some (h5 _ (List.mem_map_of_mem m1))
       intro γ w vs hi hA hb hlt hf
       refine (body X' m2 f args h nx _ q1 γ w vs hi hA hb hlt fun b g1 g2 => hf b g1 (Nat.lt_of_lt_of_le g2 q2)).mono ?_
       rintro _ w' ⟨r',γ',rfl,hef,hv,hx⟩
       exact ⟨r',γ',rfl,hef.wide (Nat.le_refl _) q2,hv,fun x hh => hx x (q3 x hh)⟩
      ·cases h3
end
end Cx
namespace Go.Proofs.YtglilpjckmgbcaaGreatDoor
open Cx Go Go.RowKit
section
variable {N : List Nd} {H : List (Nat × Nat × Nat × Nat)} {K : List (FuncId × List AC)} {L C : List (List Nat × Nat)} {Z : List Nat} {q : Nat→Rat} {σ : Nat→ByteArray} {cl : List FuncId} {cs : List (FuncId × Nat)} {M : Memo} {B : MemoX} {w : World}
theorem callE_told (Y : Hy N H L C Z q σ) (hc : ∀ f ∈ cl,Closed f) (hm : (Tryz.prog).follows .mixedOrders=true) (hp : PreS w) (hM : MemoOk (sx Tryz.prog N H K L C Z (prC cl)) (evS q σ) w M) (hB : MemoXOk (sx Tryz.prog N H K L C Z (prC cl)) (evS q σ) w B) (k : Nat) : CallOk (sx Tryz.prog N H K L C Z (prC cl)) (evS q σ) w (callE (sx Tryz.prog N H K L C Z (prC cl)) cs M B k []) :=
 callE_ok (S := sx Tryz.prog N H K L C Z (prC cl)) (E := evS q σ) (w0 := w) (T := fun X => Hy N (X ++ H) L C Z q σ) (z := fun d => q d=0) hm hM hB (fun X hX => knows hX) (fun X hX => primOk hX hp hc) ask_true (fun X hX l s r h1 h2 => by
  have e := hX.k0 s r h2
  have g := sqN_val hX h1
  refine ⟨fun h => g.1 (e.1 h),fun h => ?_⟩
  have hn : ¬ ∀ d ∈ l,q d=0 := fun q' => by
   rw [e.2 (g.2 q')] at h
   cases h
  simpa using hn) k [] Y
theorem run_toldE' {f : FuncId} {args : List AV} {vs : List Value} (k : Nat) (Y : Hy N H L C Z q σ) (hc : ∀ f ∈ cl,Closed f) (hm : (Tryz.prog).follows .mixedOrders=true) (hp : PreS w) (hM : MemoAll N L C Z q σ cl w M) (hB : MemoXOk (sx Tryz.prog N H K L C Z (prC cl)) (evS q σ) w B) (hr : (callE (sx Tryz.prog N H K L C Z (prC cl)) cs M B k [] f args [] 0).map (·.1)=some (kB true))
  (hA : A2 (avOn (cOn (evS q σ) K (fun _ => none) w)) args vs) : Calls Tryz.prog f vs.toArray w fun e w' => Below w.heap.size w w'∧e=.returned (.bool true) := by
 rw [Option.map_eq_some_iff] at hr
 obtain ⟨⟨v,p⟩,h1,h2⟩ := hr
 dsimp only at h2
 subst h2
 refine (callE_told (cs := cs) Y hc hm hp (hM H K) hB k f args [] 0 (kB true,p) h1 (fun _ => none) w vs ⟨Below.refl _ _,(fun _ _ h => by cases h)⟩ hA (fun x hx => by cases hx) (fun x hx => by cases hx) (fun _ _ _ => rfl)).mono ?_
 rintro _ w' ⟨r,γ',rfl,hef,hv,_⟩
 exact ⟨hef.wi.bel,by rw [show r=.bool true from (asC_on (v := kB true) (c := .inl (.bool true)) rfl hv).1]⟩
end
end Go.Proofs.YtglilpjckmgbcaaGreatDoor
/- CFconed -/
namespace Go.Proofs.YtglilpjckmgbcaaGreatDoor
open Go.RowKit Cx
theorem closed_coned : Closed 27 :=
 closed_told (N := [(0,[0,1,1]),(0,[0,0,1]),(0,[1,1,1]),(0,[0,3,5]),(0,[0,4,5]),(4,[1,0]),(4,[0,0]),(3,[5,6]),(4,[0,1]),(3,[8,6]),(4,[1,1]),(3,[6,10]),(4,[0,2]),(3,[5,12]),(4,[2,0]),(3,[8,14]),(4,[2,2]),(3,[16,10]),(4,[7,13]),(4,[7,15]),(4,[9,13]),(2,[19,20]),(4,[9,15]),(4,[7,17]),(4,[11,13]),(2,[23,24]),(4,[9,17]),(4,[11,15]),(2,[26,27]),(4,[11,17]),(3,[5,8]),(3,[12,6]),(4,[1,2]),(3,[8,32]),(3,[6,12]),(3,[8,5]),(3,[32,8]),(4,[30,34]),(4,[30,35]),(4,[31,34]),(2,[38,39]),(4,[31,35]),(4,[30,36]),(4,[33,34]),(2,[42,43]),(4,[31,36]),(4,[33,35]),(2,[45,46]),(4,[33,36]),(0,[0,2,1]),(4,[18,49]),(4,[22,49]),(4,[29,49]),(4,[50,3]),(2,[1,53]),(4,[21,4]),(2,[54,55]),(4,[25,0]),(2,[56,57]),(4,[21,3]),(2,[1,59]),(4,[51,4]),(2,[60,61]),(4,[28,0]),(2,[62,63]),(4,[25,3]),(2,[1,65]),(4,[28,4]),(2,[66,67]),(4,[52,0]),(2,[68,69]),(4,[3,58]),(2,[1,71]),(4,[4,64]),(2,[72,73]),(4,[0,70]),(2,[74,75]),(4,[37,49]),(4,[41,49]),(4,[48,49]),(4,[77,3]),(2,[1,80]),(4,[40,4]),(2,[81,82]),(4,[44,0]),(2,[83,84]),(4,[40,3]),(2,[1,86]),(4,[78,4]),(2,[87,88]),(4,[47,0]),(2,[89,90]),(4,[44,3]),(2,[1,92]),(4,[47,4]),(2,[93,94]),(4,[79,0]),(2,[95,96]),(4,[3,85]),(2,[1,98]),(4,[4,91]),(2,[99,100]),(4,[0,97]),(2,[101,102]),(4,[18,103]),(4,[37,76]),(3,[104,105]),(4,[21,103]),(4,[40,76]),(3,[107,108]),(4,[22,103]),(4,[41,76]),(3,[110,111]),(4,[25,103]),(4,[44,76]),(3,[113,114]),(4,[28,103]),(4,[47,76]),(3,[116,117]),(4,[29,103]),(4,[48,76]),(3,[119,120]),(8,[0,106,109,112,115,118,121]),(8,[1,106,109,112,115,118,121]),(8,[2,106,109,112,115,118,121]),(8,[3,106,109,112,115,118,121]),(8,[4,106,109,112,115,118,121]),(8,[5,106,109,112,115,118,121]),(4,[122,49]),(4,[124,49]),(4,[127,49]),(4,[123,126]),(4,[125,129]),(3,[131,132]),(4,[125,123]),(4,[128,126]),(3,[134,135]),(4,[128,129]),(4,[123,123]),(3,[137,138]),(4,[133,125]),(2,[1,140]),(4,[136,126]),(2,[141,142]),(4,[139,130]),(2,[143,144]),(2,[128,129]),(4,[145,146]),(4,[128,3]),(2,[1,148]),(4,[123,4]),(2,[149,150]),(4,[125,0]),(2,[151,152]),(4,[123,3]),(2,[1,154]),(4,[129,4]),(2,[155,156]),(4,[126,0]),(2,[157,158]),(4,[125,3]),(2,[1,160]),(4,[126,4]),(2,[161,162]),(4,[130,0]),(2,[163,164]),(4,[3,153]),(2,[1,166]),(4,[4,159]),(2,[167,168]),(4,[0,165]),(2,[169,170]),(4,[122,171]),(8,[0,153,159,165]),(8,[1,153,159,165]),(8,[2,153,159,165]),(0,[0,3,1]),(0,[0,4,1]),(0,[1,5,1])]) (H := [(0,106,0,0),(0,122,0,0),(0,145,0,0),(1,139,0,0),(0,139,0,0),(2,147,0,0),(0,172,0,1),(0,153,0,0),(4,122,0,1),(4,123,1,1),(4,124,0,1),(4,125,1,1),(4,126,1,1),(4,127,2,1),(4,173,176,1),(4,174,177,1),(4,175,178,1)]) (K := [(141,[.inr (3,7,0,0,0)]),(196,[.inr (3,43,0,0,0),.inr (3,44,0,0,0)]),(196,[.inr (3,59,0,0,0),.inr (3,60,0,0,0)])]) (L := [([49],0),([48],1),([45,49],2),([51,47,53],3),([52,47,53],4),([51],176),([52],177),([45,53],178)]) (C := [([49],0),([48],1),([45,49],2),([51],176),([52],177),([45,53],178)]) (Z := [2,2,2,4,4,4,4,9,4,9,4,9,4,9,4,9,4,9,18,18,18,37,18,18,18,37,18,18,37,18,9,9,4,9,9,9,9,18,18,18,37,18,18,18,37,18,18,37,18,3,21,21,21,25,28,41,70,39,110,41,44,25,70,39,110,41,44,41,86,23,110,114,117,114,232,112,345,21,21,21,25,28,41,70,39,110,41,44,25,70,39,110,41,44,41,86,23,110,114,117,114,232,112,345,363,363,727,382,382,765,363,363,727,382,382,765,382,382,765,363,363,727,5356,5356,5356,5356,5356,5356,5359,5359,5359,10712,10715,21428,10712,10715,21428,10718,10712,21431,26784,26787,26784,53572,26790,80363,10719,91082,5363,5366,5360,10727,5358,16086,5360,5363,5363,10727,5358,16086,5360,5363,5360,10724,5361,16086,16090,16093,16090,32184,16088,48273,53629,64345,64345,64345,3,4,4]) (cl := []) 8 (fun _ h => by cases h) (by kernel_rfl) (by kernel_rfl) (by kernel_rfl) (by kernel_rfl) (by kernel_rfl) (by kernel_rfl) (by kernel_rfl)
end Go.Proofs.YtglilpjckmgbcaaGreatDoor
/- MKL -/
namespace Go.Proofs.YtglilpjckmgbcaaGreatDoor
open Go.RowKit Cx
def kL_N : List Nd := [(1,[0]),(1,[1]),(1,[2]),(1,[3]),(1,[4]),(1,[5]),(4,[0,0]),(4,[1,1]),(2,[6,7]),(4,[2,2]),(2,[8,9]),(4,[3,3]),(2,[10,11]),(4,[4,4]),(2,[12,13]),(8,[0,0,1,2,3,4,5]),(8,[1,0,1,2,3,4,5]),(8,[2,0,1,2,3,4,5]),(8,[3,0,1,2,3,4,5]),(8,[4,0,1,2,3,4,5]),(8,[5,0,1,2,3,4,5]),(1,[6]),(1,[7]),(0,[0,1,1]),(0,[0,2,1]),(4,[0,24]),(4,[2,24]),(4,[5,24]),(4,[25,21]),(0,[0,0,1]),(2,[29,28]),(4,[1,22]),(2,[30,31]),(4,[3,23]),(2,[32,33]),(4,[1,21]),(2,[29,35]),(4,[26,22]),(2,[36,37]),(4,[4,23]),(2,[38,39]),(4,[3,21]),(2,[29,41]),(4,[4,22]),(2,[42,43]),(4,[27,23]),(2,[44,45]),(4,[21,34]),(2,[29,47]),(4,[22,40]),(2,[48,49]),(4,[23,46]),(2,[50,51]),(4,[4,52]),(4,[5,5]),(2,[14,54]),(4,[15,15]),(4,[16,16]),(2,[56,57]),(4,[17,17]),(2,[58,59]),(4,[18,18]),(2,[60,61]),(4,[19,19]),(2,[62,63]),(4,[1,15]),(4,[0,16]),(3,[65,66]),(4,[2,15]),(4,[0,17]),(3,[68,69]),(4,[2,16]),(4,[1,17]),(3,[71,72]),(4,[3,15]),(4,[0,18]),(3,[74,75]),(4,[3,16]),(4,[1,18]),(3,[77,78]),(4,[3,17]),(4,[2,18]),(3,[80,81]),(4,[4,15]),(4,[0,19]),(3,[83,84]),(4,[4,16]),(4,[1,19]),(3,[86,87]),(4,[4,17]),(4,[2,19]),(3,[89,90]),(4,[4,18]),(4,[3,19]),(3,[92,93]),(4,[5,15]),(4,[0,20]),(3,[95,96]),(4,[5,16]),(4,[1,20]),(3,[98,99]),(4,[5,17]),(4,[2,20]),(3,[101,102]),(4,[5,18]),(4,[3,20]),(3,[104,105]),(4,[5,19]),(4,[4,20]),(3,[107,108]),(4,[67,67]),(4,[70,70]),(2,[110,111]),(4,[73,73]),(2,[112,113]),(4,[76,76]),(2,[114,115]),(4,[79,79]),(2,[116,117]),(4,[82,82]),(2,[118,119]),(4,[85,85]),(2,[120,121]),(4,[88,88]),(2,[122,123]),(4,[91,91]),(2,[124,125]),(4,[94,94]),(2,[126,127]),(4,[97,97]),(2,[128,129]),(4,[100,100]),(2,[130,131]),(4,[103,103]),(2,[132,133]),(4,[106,106]),(2,[134,135]),(4,[109,109]),(2,[136,137]),(0,[0,1,2]),(4,[15,21]),(4,[140,21]),(4,[21,22]),(4,[22,21]),(2,[142,143]),(4,[16,139]),(4,[145,144]),(4,[17,22]),(4,[147,22]),(2,[21,21]),(4,[18,139]),(4,[150,149]),(2,[22,22]),(4,[19,139]),(4,[153,152]),(2,[141,146]),(2,[155,148]),(2,[156,151]),(2,[157,154]),(2,[158,20]),(4,[3,52]),(4,[2,52]),(4,[1,52]),(4,[0,52])]
def kL_L : List (List Nat × Nat) := []
def kL_C : List (List Nat × Nat) := []
def kL_Z : List Nat := [3495259,3495259,3495259,3495259,3495259,3495259,6990518,6990518,13981037,6990518,20971556,6990518,27962075,6990518,34952594,24466814,24466814,24466814,24466814,24466814,24466814,3495259,3495259,2,3,3495262,3495262,3495262,6990521,2,6990524,6990518,13981043,3495261,17476305,6990518,6990521,6990521,13981043,3495261,17476305,6990518,6990521,6990518,13981040,3495264,17476305,20971564,20971567,20971564,41943132,17476307,59419440,62914699,6990518,41943113,48933628,48933628,48933629,48933628,48933630,48933628,48933631,48933628,48933632,27962073,27962073,55924147,27962073,27962073,55924147,27962073,27962073,55924147,27962073,27962073,55924147,27962073,27962073,55924147,27962073,27962073,55924147,27962073,27962073,55924147,27962073,27962073,55924147,27962073,27962073,55924147,27962073,27962073,55924147,27962073,27962073,55924147,27962073,27962073,55924147,27962073,27962073,55924147,27962073,27962073,55924147,27962073,27962073,55924147,111848294,111848294,223696589,111848294,335544884,111848294,447393179,111848294,559241474,111848294,671089769,111848294,782938064,111848294,894786359,111848294,1006634654,111848294,1118482949,111848294,1230331244,111848294,1342179539,111848294,1454027834,111848294,1565876129,111848294,1677724424,3,27962073,31457332,6990518,6990518,13981037,24466817,38447854,27962073,31457332,6990519,24466817,31457336,6990519,24466817,31457336,69905187,101362520,132819857,164277194,188744009,62914699,62914699,62914699,62914699]
abbrev kL_Q (q : Nat→Rat) (σ : Nat→ByteArray) : Prop := ∀ (a : Nat) nd,kL_N[a]? = some nd→q a=valN σ q nd
variable {q : Nat→Rat} {σ : Nat→ByteArray}
def kL_I : List Bool := [false,false,false,false,false,false,false,false,false,false,false,false,false,false,false,true,true,true,true,true,true,false,false,true,true,false,false,false,false,true,false,false,false,false,false,false,false,false,false,false,false,false,false,false,false,false,false,false,false,false,false,false,false,false,false,false,true,true,true,true,true,true,true,true,true,false,false,false,false,false,false,false,false,false,false,false,false,false,false,false,false,false,false,false,false,false,false,false,false,false,false,false,false,false,false,false,false,false,false,false,false,false,false,false,false,false,false,false,false,false,false,false,false,false,false,false,false,false,false,false,false,false,false,false,false,false,false,false,false,false,false,false,false,false,false,false,false,false,false,false,false,false,false,false,false,false,false,false,false,false,false,false,false,false,false,false,false,false,false,false,false,false,false,false]
theorem kL_wf : wfB 0 kL_N=true := by kernel_rfl
theorem kL_sz : szC kL_Z kL_I kL_N kL_Z kL_I=true := by kernel_rfl
theorem kL_lt : litB kL_N kL_L=true := by kernel_rfl
theorem kL_cn : canB kL_N kL_C=true := by kernel_rfl
theorem kL_c23 : cst 0 1 1=(1 : Rat) := by decide +kernel
theorem kL_c24 : cst 0 2 1=(2 : Rat) := by decide +kernel
theorem kL_c29 : cst 0 0 1=(0 : Rat) := by decide +kernel
theorem kL_c139 : cst 0 1 2=((1 / 2) : Rat) := by decide +kernel
def kL_A : List AV := [(false,[(true,[.inr (2,0,0,0,0),.inr (2,1,0,0,0),.inr (2,2,0,0,0),.inr (2,3,0,0,0),.inr (2,4,0,0,0),.inr (2,5,0,0,0)])]),(false,[(true,[.inr (2,6,0,0,0),.inr (2,7,0,0,0)])])]
theorem kl_sg {F z x n y : Rat} (hl : 0 < z*F) (hn : n=z*x) (hy : y*2=F*x) : (n < 0→y < 0)∧(n=0→y=0)∧(0 < n→0 < y) := by
 have a := prod_sgn z F
 have b := prod_sgn z x
 have c := prod_sgn F x
 have d := Rat.mul_eq_zero (a := z) (b := x)
 rcases tri z with hz | hz | hz
 ·rcases tri F with hF | hF | hF
  ·rcases tri x with hx | hx | hx <;> grind
  ·rw [hF] at hl; grind
  ·grind
 ·rw [hz] at hl; grind
 ·rcases tri F with hF | hF | hF
  ·grind
  ·rw [hF] at hl; grind
  ·rcases tri x with hx | hx | hx <;> grind
theorem kL_T1z {z0 z1 z2 z3 z4 z5 z6 z7 z8 z9 z10 z11 z12 z13 z14 z15 z16 z17 z18 z19 z20 z21 z22 z23 z24 z25 z26 z27 z28 z29 z30 z31 z32 z33 z34 z35 z36 z37 z38 z39 z40 z41 z42 z43 z44 z45 z46 z47 z48 z49 z50 z51 z52 z54 z55 z56 z57 z58 z59 z60 z61 z62 z63 z64 z65 z66 z67 z68 z69 z70 z71 z72 z73 z74 z75 z76 z77 z78 z79 z80 z81 z82 z83 z84 z85 z86 z87 z88 z89 z90 z91 z92 z93 z94 z95 z96 z97 z98 z99 z100 z101 z102 z103 z104 z105 z106 z107 z108 z109 z110 z111 z112 z113 z114 z115 z116 z117 z118 z119 z120 z121 z122 z123 z124 z125 z126 z127 z128 z129 z130 z131 z132 z133 z134 z135 z136 z137 z138 z139 z140 z141 z142 z143 z144 z145 z146 z147 z148 z149 z150 z151 z152 z153 z154 z155 z156 z157 z158 z159 : Rat} : z6=z0*z0→z7=z1*z1→z8=z6+z7→z9=z2*z2→z10=z8+z9→z11=z3*z3→z12=z10+z11→z13=z4*z4→z14=z12+z13→z15=z0*fac [z0,z1,z2,z3,z4,z5]→z16=z1*fac [z0,z1,z2,z3,z4,z5]→z17=z2*fac [z0,z1,z2,z3,z4,z5]→z18=z3*fac [z0,z1,z2,z3,z4,z5]→z19=z4*fac [z0,z1,z2,z3,z4,z5]→z20=z5*fac [z0,z1,z2,z3,z4,z5]→z23=1→z24=2→z25=z0*z24→z26=z2*z24→z27=z5*z24→z28=z25*z21→z29=0→z30=z29+z28→z31=z1*z22→z32=z30+z31→z33=z3*z23→z34=z32+z33→z35=z1*z21→z36=z29+z35→z37=z26*z22→z38=z36+z37→z39=z4*z23→z40=z38+z39→z41=z3*z21→z42=z29+z41→z43=z4*z22→z44=z42+z43→z45=z27*z23→z46=z44+z45→z47=z21*z34→z48=z29+z47→z49=z22*z40→z50=z48+z49→z51=z23*z46→z52=z50+z51→z54=z5*z5→z55=z14+z54→z56=z15*z15→z57=z16*z16→z58=z56+z57→z59=z17*z17→z60=z58+z59→z61=z18*z18→z62=z60+z61→z63=z19*z19→z64=z62+z63→z65=z1*z15→z66=z0*z16→z67=z65-z66→z68=z2*z15→z69=z0*z17→z70=z68-z69→z71=z2*z16→z72=z1*z17→z73=z71-z72→z74=z3*z15→z75=z0*z18→z76=z74-z75→z77=z3*z16→z78=z1*z18→z79=z77-z78→z80=z3*z17→z81=z2*z18→z82=z80-z81→z83=z4*z15→z84=z0*z19→z85=z83-z84→z86=z4*z16→z87=z1*z19→z88=z86-z87→z89=z4*z17→z90=z2*z19→z91=z89-z90→z92=z4*z18→z93=z3*z19→z94=z92-z93→z95=z5*z15→z96=z0*z20→z97=z95-z96→z98=z5*z16→z99=z1*z20→z100=z98-z99→z101=z5*z17→z102=z2*z20→z103=z101-z102→z104=z5*z18→z105=z3*z20→z106=z104-z105→z107=z5*z19→z108=z4*z20→z109=z107-z108→z110=z67*z67→z111=z70*z70→z112=z110+z111→z113=z73*z73→z114=z112+z113→z115=z76*z76→z116=z114+z115→z117=z79*z79→z118=z116+z117→z119=z82*z82→z120=z118+z119→z121=z85*z85→z122=z120+z121→z123=z88*z88→z124=z122+z123→z125=z91*z91→z126=z124+z125→z127=z94*z94→z128=z126+z127→z129=z97*z97→z130=z128+z129→z131=z100*z100→z132=z130+z131→z133=z103*z103→z134=z132+z133→z135=z106*z106→z136=z134+z135→z137=z109*z109→z138=z136+z137→z139=(1/2)→z140=z15*z21→z141=z140*z21→z142=z21*z22→z143=z22*z21→z144=z142+z143→z145=z16*z139→z146=z145*z144→z147=z17*z22→z148=z147*z22→z149=z21+z21→z150=z18*z139→z151=z150*z149→z152=z22+z22→z153=z19*z139→z154=z153*z152→z155=z141+z146→z156=z155+z148→z157=z156+z151→z158=z157+z154→z159=z158+z20→(¬ (z14=0))→(¬ (z55=0)∧¬ (z64=0)∧z138=0∧∃ F,F=fac [z0,z1,z2,z3,z4,z5]∧z159*2=F*z52) := by
 intro e6 e7 e8 e9 e10 e11 e12 e13 e14 e15 e16 e17 e18 e19 e20 e23 e24 e25 e26 e27 e28 e29 e30 e31 e32 e33 e34 e35 e36 e37 e38 e39 e40 e41 e42 e43 e44 e45 e46 e47 e48 e49 e50 e51 e52 e54 e55 e56 e57 e58 e59 e60 e61 e62 e63 e64 e65 e66 e67 e68 e69 e70 e71 e72 e73 e74 e75 e76 e77 e78 e79 e80 e81 e82 e83 e84 e85 e86 e87 e88 e89 e90 e91 e92 e93 e94 e95 e96 e97 e98 e99 e100 e101 e102 e103 e104 e105 e106 e107 e108 e109 e110 e111 e112 e113 e114 e115 e116 e117 e118 e119 e120 e121 e122 e123 e124 e125 e126 e127 e128 e129 e130 e131 e132 e133 e134 e135 e136 e137 e138 e139 e140 e141 e142 e143 e144 e145 e146 e147 e148 e149 e150 e151 e152 e153 e154 e155 e156 e157 e158 e159
 intro u0
 have h14 := (sq_next (sq_next (sq_next (sq_next (sq_first e6) e7 e8) e9 e10) e11 e12) e13 e14).2
 have h55 := (sq_next (sq_next (sq_next (sq_next (sq_next (sq_first e6) e7 e8) e9 e10) e11 e12) e13 e14) e54 e55).2
 have h64 := (sq_next (sq_next (sq_next (sq_next (sq_first e56) e57 e58) e59 e60) e61 e62) e63 e64).2
 have hF : fac [z0,z1,z2,z3,z4,z5] ≠ 0 := fun h => u0 (h14.2 ⟨⟨⟨⟨fac_zero (by simp) h,fac_zero (by simp) h⟩,fac_zero (by simp) h⟩,fac_zero (by simp) h⟩,fac_zero (by simp) h⟩)
 obtain ⟨F,eF⟩ : ∃ F,F=fac [z0,z1,z2,z3,z4,z5] := ⟨_,rfl⟩
 rw [← eF] at hF e15 e16 e17 e18 e19 e20
 have a1 : ¬ (z55=0) := fun h => u0 (h14.2 (h55.1 h).1)
 have a2 : ¬ (z64=0) := fun h => by
  obtain ⟨⟨⟨⟨g0,g1⟩,g2⟩,g3⟩,g4⟩ := h64.1 h
  exact u0 (h14.2 ⟨⟨⟨⟨((Rat.mul_eq_zero.1 (e15.symm.trans g0)).resolve_right hF),((Rat.mul_eq_zero.1 (e16.symm.trans g1)).resolve_right hF)⟩,((Rat.mul_eq_zero.1 (e17.symm.trans g2)).resolve_right hF)⟩,((Rat.mul_eq_zero.1 (e18.symm.trans g3)).resolve_right hF)⟩,((Rat.mul_eq_zero.1 (e19.symm.trans g4)).resolve_right hF)⟩)
 have d10 : z67=0 := by rw [e67,e65,e66,e15,e16]; clear h14 h55 h64 hF a1 a2 u0; grind
 have d20 : z70=0 := by rw [e70,e68,e69,e15,e17]; clear h14 h55 h64 hF a1 a2 u0; grind
 have d21 : z73=0 := by rw [e73,e71,e72,e16,e17]; clear h14 h55 h64 hF a1 a2 u0; grind
 have d30 : z76=0 := by rw [e76,e74,e75,e15,e18]; clear h14 h55 h64 hF a1 a2 u0; grind
 have d31 : z79=0 := by rw [e79,e77,e78,e16,e18]; clear h14 h55 h64 hF a1 a2 u0; grind
 have d32 : z82=0 := by rw [e82,e80,e81,e17,e18]; clear h14 h55 h64 hF a1 a2 u0; grind
 have d40 : z85=0 := by rw [e85,e83,e84,e15,e19]; clear h14 h55 h64 hF a1 a2 u0; grind
 have d41 : z88=0 := by rw [e88,e86,e87,e16,e19]; clear h14 h55 h64 hF a1 a2 u0; grind
 have d42 : z91=0 := by rw [e91,e89,e90,e17,e19]; clear h14 h55 h64 hF a1 a2 u0; grind
 have d43 : z94=0 := by rw [e94,e92,e93,e18,e19]; clear h14 h55 h64 hF a1 a2 u0; grind
 have d50 : z97=0 := by rw [e97,e95,e96,e15,e20]; clear h14 h55 h64 hF a1 a2 u0; grind
 have d51 : z100=0 := by rw [e100,e98,e99,e16,e20]; clear h14 h55 h64 hF a1 a2 u0; grind
 have d52 : z103=0 := by rw [e103,e101,e102,e17,e20]; clear h14 h55 h64 hF a1 a2 u0; grind
 have d53 : z106=0 := by rw [e106,e104,e105,e18,e20]; clear h14 h55 h64 hF a1 a2 u0; grind
 have d54 : z109=0 := by rw [e109,e107,e108,e19,e20]; clear h14 h55 h64 hF a1 a2 u0; grind
 have a3 : z138=0 := (sq_next (sq_next (sq_next (sq_next (sq_next (sq_next (sq_next (sq_next (sq_next (sq_next (sq_next (sq_next (sq_next (sq_next (sq_first e110) e111 e112) e113 e114) e115 e116) e117 e118) e119 e120) e121 e122) e123 e124) e125 e126) e127 e128) e129 e130) e131 e132) e133 e134) e135 e136) e137 e138).2.2 ⟨⟨⟨⟨⟨⟨⟨⟨⟨⟨⟨⟨⟨⟨d10,d20⟩,d21⟩,d30⟩,d31⟩,d32⟩,d40⟩,d41⟩,d42⟩,d43⟩,d50⟩,d51⟩,d52⟩,d53⟩,d54⟩
 have a4 : z159*2=F*z52 := by
  rw [e159,e158,e157,e156,e155,e154,e153,e152,e151,e150,e149,e148,e147,e146,e145,e144,e143,e142,e141,e140,e139]; rw [e52,e51,e50,e49,e48,e47,e46,e45,e44,e43,e42,e41,e40,e39,e38,e37,e36,e35,e34,e33,e32,e31,e30,e29,e28,e27,e26,e25,e24,e23]; rw [e15,e16,e17,e18,e19,e20]
  clear h14 h55 h64 hF a1 a2 a3 u0 d10 d20 d21 d30 d31 d32 d40 d41 d42 d43 d50 d51 d52 d53 d54
  grind
 exact ⟨a1,a2,a3,F,eF,a4⟩
theorem kL_T1 (H : kL_Q q σ) : (¬ (q 14=0))→(¬ (q 55=0)∧¬ (q 64=0)∧q 138=0∧∃ F,F=fac [q 0,q 1,q 2,q 3,q 4,q 5]∧q 159*2=F*q 52) := by
 have e6:q 6=q 0*q 0:=H 6 _ rfl;have e7:q 7=q 1*q 1:=H 7 _ rfl;have e8:q 8=q 6+q 7:=H 8 _ rfl;have e9:q 9=q 2*q 2:=H 9 _ rfl;have e10:q 10=q 8+q 9:=H 10 _ rfl;have e11:q 11=q 3*q 3:=H 11 _ rfl;have e12:q 12=q 10+q 11:=H 12 _ rfl;have e13:q 13=q 4*q 4:=H 13 _ rfl;have e14:q 14=q 12+q 13:=H 14 _ rfl;have e15:q 15=q 0*fac [q 0,q 1,q 2,q 3,q 4,q 5]:=H 15 _ rfl;have e16:q 16=q 1*fac [q 0,q 1,q 2,q 3,q 4,q 5]:=H 16 _ rfl;have e17:q 17=q 2*fac [q 0,q 1,q 2,q 3,q 4,q 5]:=H 17 _ rfl;have e18:q 18=q 3*fac [q 0,q 1,q 2,q 3,q 4,q 5]:=H 18 _ rfl;have e19:q 19=q 4*fac [q 0,q 1,q 2,q 3,q 4,q 5]:=H 19 _ rfl;have e20:q 20=q 5*fac [q 0,q 1,q 2,q 3,q 4,q 5]:=H 20 _ rfl;have e23:q 23=1:=(H 23 _ rfl).trans kL_c23;have e24:q 24=2:=(H 24 _ rfl).trans kL_c24;have e25:q 25=q 0*q 24:=H 25 _ rfl;have e26:q 26=q 2*q 24:=H 26 _ rfl;have e27:q 27=q 5*q 24:=H 27 _ rfl;have e28:q 28=q 25*q 21:=H 28 _ rfl;have e29:q 29=0:=(H 29 _ rfl).trans kL_c29;have e30:q 30=q 29+q 28:=H 30 _ rfl;have e31:q 31=q 1*q 22:=H 31 _ rfl;have e32:q 32=q 30+q 31:=H 32 _ rfl;have e33:q 33=q 3*q 23:=H 33 _ rfl;have e34:q 34=q 32+q 33:=H 34 _ rfl;have e35:q 35=q 1*q 21:=H 35 _ rfl;have e36:q 36=q 29+q 35:=H 36 _ rfl;have e37:q 37=q 26*q 22:=H 37 _ rfl;have e38:q 38=q 36+q 37:=H 38 _ rfl;have e39:q 39=q 4*q 23:=H 39 _ rfl;have e40:q 40=q 38+q 39:=H 40 _ rfl;have e41:q 41=q 3*q 21:=H 41 _ rfl;have e42:q 42=q 29+q 41:=H 42 _ rfl;have e43:q 43=q 4*q 22:=H 43 _ rfl;have e44:q 44=q 42+q 43:=H 44 _ rfl;have e45:q 45=q 27*q 23:=H 45 _ rfl;have e46:q 46=q 44+q 45:=H 46 _ rfl;have e47:q 47=q 21*q 34:=H 47 _ rfl;have e48:q 48=q 29+q 47:=H 48 _ rfl;have e49:q 49=q 22*q 40:=H 49 _ rfl;have e50:q 50=q 48+q 49:=H 50 _ rfl;have e51:q 51=q 23*q 46:=H 51 _ rfl;have e52:q 52=q 50+q 51:=H 52 _ rfl;have e54:q 54=q 5*q 5:=H 54 _ rfl;have e55:q 55=q 14+q 54:=H 55 _ rfl;have e56:q 56=q 15*q 15:=H 56 _ rfl;have e57:q 57=q 16*q 16:=H 57 _ rfl;have e58:q 58=q 56+q 57:=H 58 _ rfl;have e59:q 59=q 17*q 17:=H 59 _ rfl;have e60:q 60=q 58+q 59:=H 60 _ rfl;have e61:q 61=q 18*q 18:=H 61 _ rfl;have e62:q 62=q 60+q 61:=H 62 _ rfl;have e63:q 63=q 19*q 19:=H 63 _ rfl;have e64:q 64=q 62+q 63:=H 64 _ rfl;have e65:q 65=q 1*q 15:=H 65 _ rfl;have e66:q 66=q 0*q 16:=H 66 _ rfl;have e67:q 67=q 65-q 66:=H 67 _ rfl;have e68:q 68=q 2*q 15:=H 68 _ rfl;have e69:q 69=q 0*q 17:=H 69 _ rfl;have e70:q 70=q 68-q 69:=H 70 _ rfl;have e71:q 71=q 2*q 16:=H 71 _ rfl;have e72:q 72=q 1*q 17:=H 72 _ rfl;have e73:q 73=q 71-q 72:=H 73 _ rfl;have e74:q 74=q 3*q 15:=H 74 _ rfl;have e75:q 75=q 0*q 18:=H 75 _ rfl;have e76:q 76=q 74-q 75:=H 76 _ rfl;have e77:q 77=q 3*q 16:=H 77 _ rfl;have e78:q 78=q 1*q 18:=H 78 _ rfl;have e79:q 79=q 77-q 78:=H 79 _ rfl;have e80:q 80=q 3*q 17:=H 80 _ rfl;have e81:q 81=q 2*q 18:=H 81 _ rfl;have e82:q 82=q 80-q 81:=H 82 _ rfl;have e83:q 83=q 4*q 15:=H 83 _ rfl;have e84:q 84=q 0*q 19:=H 84 _ rfl;have e85:q 85=q 83-q 84:=H 85 _ rfl;have e86:q 86=q 4*q 16:=H 86 _ rfl;have e87:q 87=q 1*q 19:=H 87 _ rfl;have e88:q 88=q 86-q 87:=H 88 _ rfl;have e89:q 89=q 4*q 17:=H 89 _ rfl;have e90:q 90=q 2*q 19:=H 90 _ rfl;have e91:q 91=q 89-q 90:=H 91 _ rfl;have e92:q 92=q 4*q 18:=H 92 _ rfl;have e93:q 93=q 3*q 19:=H 93 _ rfl;have e94:q 94=q 92-q 93:=H 94 _ rfl;have e95:q 95=q 5*q 15:=H 95 _ rfl;have e96:q 96=q 0*q 20:=H 96 _ rfl;have e97:q 97=q 95-q 96:=H 97 _ rfl;have e98:q 98=q 5*q 16:=H 98 _ rfl;have e99:q 99=q 1*q 20:=H 99 _ rfl;have e100:q 100=q 98-q 99:=H 100 _ rfl;have e101:q 101=q 5*q 17:=H 101 _ rfl;have e102:q 102=q 2*q 20:=H 102 _ rfl;have e103:q 103=q 101-q 102:=H 103 _ rfl;have e104:q 104=q 5*q 18:=H 104 _ rfl;have e105:q 105=q 3*q 20:=H 105 _ rfl;have e106:q 106=q 104-q 105:=H 106 _ rfl;have e107:q 107=q 5*q 19:=H 107 _ rfl;have e108:q 108=q 4*q 20:=H 108 _ rfl;have e109:q 109=q 107-q 108:=H 109 _ rfl;have e110:q 110=q 67*q 67:=H 110 _ rfl;have e111:q 111=q 70*q 70:=H 111 _ rfl;have e112:q 112=q 110+q 111:=H 112 _ rfl;have e113:q 113=q 73*q 73:=H 113 _ rfl;have e114:q 114=q 112+q 113:=H 114 _ rfl;have e115:q 115=q 76*q 76:=H 115 _ rfl;have e116:q 116=q 114+q 115:=H 116 _ rfl;have e117:q 117=q 79*q 79:=H 117 _ rfl;have e118:q 118=q 116+q 117:=H 118 _ rfl;have e119:q 119=q 82*q 82:=H 119 _ rfl;have e120:q 120=q 118+q 119:=H 120 _ rfl;have e121:q 121=q 85*q 85:=H 121 _ rfl;have e122:q 122=q 120+q 121:=H 122 _ rfl;have e123:q 123=q 88*q 88:=H 123 _ rfl;have e124:q 124=q 122+q 123:=H 124 _ rfl;have e125:q 125=q 91*q 91:=H 125 _ rfl;have e126:q 126=q 124+q 125:=H 126 _ rfl;have e127:q 127=q 94*q 94:=H 127 _ rfl;have e128:q 128=q 126+q 127:=H 128 _ rfl;have e129:q 129=q 97*q 97:=H 129 _ rfl;have e130:q 130=q 128+q 129:=H 130 _ rfl;have e131:q 131=q 100*q 100:=H 131 _ rfl;have e132:q 132=q 130+q 131:=H 132 _ rfl;have e133:q 133=q 103*q 103:=H 133 _ rfl;have e134:q 134=q 132+q 133:=H 134 _ rfl;have e135:q 135=q 106*q 106:=H 135 _ rfl;have e136:q 136=q 134+q 135:=H 136 _ rfl;have e137:q 137=q 109*q 109:=H 137 _ rfl;have e138:q 138=q 136+q 137:=H 138 _ rfl;have e139:q 139=(1/2):=(H 139 _ rfl).trans kL_c139;have e140:q 140=q 15*q 21:=H 140 _ rfl;have e141:q 141=q 140*q 21:=H 141 _ rfl;have e142:q 142=q 21*q 22:=H 142 _ rfl;have e143:q 143=q 22*q 21:=H 143 _ rfl;have e144:q 144=q 142+q 143:=H 144 _ rfl;have e145:q 145=q 16*q 139:=H 145 _ rfl;have e146:q 146=q 145*q 144:=H 146 _ rfl;have e147:q 147=q 17*q 22:=H 147 _ rfl;have e148:q 148=q 147*q 22:=H 148 _ rfl;have e149:q 149=q 21+q 21:=H 149 _ rfl;have e150:q 150=q 18*q 139:=H 150 _ rfl;have e151:q 151=q 150*q 149:=H 151 _ rfl;have e152:q 152=q 22+q 22:=H 152 _ rfl;have e153:q 153=q 19*q 139:=H 153 _ rfl;have e154:q 154=q 153*q 152:=H 154 _ rfl;have e155:q 155=q 141+q 146:=H 155 _ rfl;have e156:q 156=q 155+q 148:=H 156 _ rfl;have e157:q 157=q 156+q 151:=H 157 _ rfl;have e158:q 158=q 157+q 154:=H 158 _ rfl;have e159:q 159=q 158+q 20:=H 159 _ rfl
 exact kL_T1z e6 e7 e8 e9 e10 e11 e12 e13 e14 e15 e16 e17 e18 e19 e20 e23 e24 e25 e26 e27 e28 e29 e30 e31 e32 e33 e34 e35 e36 e37 e38 e39 e40 e41 e42 e43 e44 e45 e46 e47 e48 e49 e50 e51 e52 e54 e55 e56 e57 e58 e59 e60 e61 e62 e63 e64 e65 e66 e67 e68 e69 e70 e71 e72 e73 e74 e75 e76 e77 e78 e79 e80 e81 e82 e83 e84 e85 e86 e87 e88 e89 e90 e91 e92 e93 e94 e95 e96 e97 e98 e99 e100 e101 e102 e103 e104 e105 e106 e107 e108 e109 e110 e111 e112 e113 e114 e115 e116 e117 e118 e119 e120 e121 e122 e123 e124 e125 e126 e127 e128 e129 e130 e131 e132 e133 e134 e135 e136 e137 e138 e139 e140 e141 e142 e143 e144 e145 e146 e147 e148 e149 e150 e151 e152 e153 e154 e155 e156 e157 e158 e159
theorem kL_S0 (H : kL_Q q σ) : (∃ F,F=fac [q 0,q 1,q 2,q 3,q 4,q 5]∧q 159*2=F*q 52)→(¬ (q 0=0))→((q 163 < 0→q 159 < 0)∧(q 163=0→q 159=0)∧(0 < q 163→0 < q 159)) := by
 have e163:q 163=q 0*q 52:=H 163 _ rfl
 clear H
 intro hx h0
 obtain ⟨F,eF,a4⟩ := hx
 have hl := fac_lead0 (xs := [q 1,q 2,q 3,q 4,q 5]) h0
 rw [← eF] at hl
 exact kl_sg hl e163 a4
theorem kL_S1 (H : kL_Q q σ) : (∃ F,F=fac [q 0,q 1,q 2,q 3,q 4,q 5]∧q 159*2=F*q 52)→(q 0=0)→(¬ (q 1=0))→((q 162 < 0→q 159 < 0)∧(q 162=0→q 159=0)∧(0 < q 162→0 < q 159)) := by
 have e162:q 162=q 1*q 52:=H 162 _ rfl
 clear H
 intro hx h0 h1
 obtain ⟨F,eF,a4⟩ := hx
 have hl := fac_lead1 (xs := [q 2,q 3,q 4,q 5]) h0 h1
 rw [← eF] at hl
 exact kl_sg hl e162 a4
theorem kL_S2 (H : kL_Q q σ) : (∃ F,F=fac [q 0,q 1,q 2,q 3,q 4,q 5]∧q 159*2=F*q 52)→(q 0=0)→(q 1=0)→(¬ (q 2=0))→((q 161 < 0→q 159 < 0)∧(q 161=0→q 159=0)∧(0 < q 161→0 < q 159)) := by
 have e161:q 161=q 2*q 52:=H 161 _ rfl
 clear H
 intro hx h0 h1 h2
 obtain ⟨F,eF,a4⟩ := hx
 have hl := fac_lead2 (xs := [q 3,q 4,q 5]) h0 h1 h2
 rw [← eF] at hl
 exact kl_sg hl e161 a4
theorem kL_S3 (H : kL_Q q σ) : (∃ F,F=fac [q 0,q 1,q 2,q 3,q 4,q 5]∧q 159*2=F*q 52)→(q 0=0)→(q 1=0)→(q 2=0)→(¬ (q 3=0))→((q 160 < 0→q 159 < 0)∧(q 160=0→q 159=0)∧(0 < q 160→0 < q 159)) := by
 have e160:q 160=q 3*q 52:=H 160 _ rfl
 clear H
 intro hx h0 h1 h2 h3
 obtain ⟨F,eF,a4⟩ := hx
 have hl := fac_lead3 (xs := [q 4,q 5]) h0 h1 h2 h3
 rw [← eF] at hl
 exact kl_sg hl e160 a4
theorem kL_S4 (H : kL_Q q σ) : (∃ F,F=fac [q 0,q 1,q 2,q 3,q 4,q 5]∧q 159*2=F*q 52)→(q 0=0)→(q 1=0)→(q 2=0)→(q 3=0)→(¬ (q 4=0))→((q 53 < 0→q 159 < 0)∧(q 53=0→q 159=0)∧(0 < q 53→0 < q 159)) := by
 have e53:q 53=q 4*q 52:=H 53 _ rfl
 clear H
 intro hx h0 h1 h2 h3 h4
 obtain ⟨F,eF,a4⟩ := hx
 have hl := fac_lead4 (xs := [q 5]) h0 h1 h2 h3 h4
 rw [← eF] at hl
 exact kl_sg hl e53 a4
theorem kL_Z4 (H : kL_Q q σ) : (¬ (q 14=0))→(q 0=0)→(q 1=0)→(q 2=0)→(q 3=0)→(¬ (q 4=0)) := by
 have e6:q 6=q 0*q 0:=H 6 _ rfl;have e7:q 7=q 1*q 1:=H 7 _ rfl;have e8:q 8=q 6+q 7:=H 8 _ rfl;have e9:q 9=q 2*q 2:=H 9 _ rfl;have e10:q 10=q 8+q 9:=H 10 _ rfl;have e11:q 11=q 3*q 3:=H 11 _ rfl;have e12:q 12=q 10+q 11:=H 12 _ rfl;have e13:q 13=q 4*q 4:=H 13 _ rfl;have e14:q 14=q 12+q 13:=H 14 _ rfl
 clear H
 intro u0 h0 h1 h2 h3
 exact fun h => u0 ((sq_next (sq_next (sq_next (sq_next (sq_first e6) e7 e8) e9 e10) e11 e12) e13 e14).2.2 ⟨⟨⟨⟨h0,h1⟩,h2⟩,h3⟩,h⟩)
def kL_cs : List (FuncId × Nat) := [(82,61),(31,62),(30,63),(136,64),(61,60)]
def kL_G : Memo := [(138,[qA [0,1,2,3,4,5]],qA [25,1,3,1,26,4,3,4,27]),(76,[qA [0,1,2,3,4,5]],tA [15,16,17,18,19,20])]
theorem kL_g0 : memoChk (sx Tryz.prog kL_N [] [] kL_L kL_C kL_Z (prC [27])) kL_cs 4 2 (kL_G.drop 0)=true := by kernel_rfl
theorem kL_memoG {q : Nat→Rat} {σ : Nat→ByteArray} {w : World} (hσ : ∀ j,(σ j).size≤1048576) (hq : ∀ (a : Nat) nd,kL_N[a]? = some nd→q a=valN σ q nd) (h0 : ∀ a,kL_N.length≤a→q a=0) (hp : PreS w) : MemoAll kL_N kL_L kL_C kL_Z q σ [27] w kL_G := by
 have Y : Hy kL_N [] kL_L kL_C kL_Z q σ := hy_ofW hσ kL_wf kL_sz kL_lt kL_cn hq h0 trivial
 have hc : ∀ f ∈ ([27] : List FuncId),Closed f := by simp [closed_coned]
 have hm : (Tryz.prog).follows .mixedOrders=true := by kernel_rfl
 exact (memoAll_chk (M := kL_G.drop 0) Y hc hm hp 2 kL_g0 memoAll_nil)
def kL_H0 : List (Nat × Nat × Nat × Nat) := [(0,14,0,1)]
def kL_H1 : List (Nat × Nat × Nat × Nat) := [(0,14,0,0),(0,0,0,1),(0,1,0,1),(0,2,0,1),(0,3,0,1),(0,4,0,0),(5,53,0,0),(0,55,0,0),(0,64,0,0),(0,138,0,1),(5,159,0,0)]
def kL_H2 : List (Nat × Nat × Nat × Nat) := [(0,14,0,0),(0,0,0,1),(0,1,0,1),(0,2,0,1),(0,3,0,1),(0,4,0,0),(5,53,0,1),(0,55,0,0),(0,64,0,0),(0,138,0,1),(5,159,0,1)]
def kL_H3 : List (Nat × Nat × Nat × Nat) := [(0,14,0,0),(0,0,0,1),(0,1,0,1),(0,2,0,1),(0,3,0,1),(0,4,0,0),(5,53,0,2),(0,55,0,0),(0,64,0,0),(0,138,0,1),(5,159,0,2)]
def kL_H4 : List (Nat × Nat × Nat × Nat) := [(0,14,0,0),(0,0,0,1),(0,1,0,1),(0,2,0,1),(0,3,0,0),(5,160,0,0),(0,55,0,0),(0,64,0,0),(0,138,0,1),(5,159,0,0)]
def kL_H5 : List (Nat × Nat × Nat × Nat) := [(0,14,0,0),(0,0,0,1),(0,1,0,1),(0,2,0,1),(0,3,0,0),(5,160,0,1),(0,55,0,0),(0,64,0,0),(0,138,0,1),(5,159,0,1)]
def kL_H6 : List (Nat × Nat × Nat × Nat) := [(0,14,0,0),(0,0,0,1),(0,1,0,1),(0,2,0,1),(0,3,0,0),(5,160,0,2),(0,55,0,0),(0,64,0,0),(0,138,0,1),(5,159,0,2)]
def kL_H7 : List (Nat × Nat × Nat × Nat) := [(0,14,0,0),(0,0,0,1),(0,1,0,1),(0,2,0,0),(5,161,0,0),(0,55,0,0),(0,64,0,0),(0,138,0,1),(5,159,0,0)]
def kL_H8 : List (Nat × Nat × Nat × Nat) := [(0,14,0,0),(0,0,0,1),(0,1,0,1),(0,2,0,0),(5,161,0,1),(0,55,0,0),(0,64,0,0),(0,138,0,1),(5,159,0,1)]
def kL_H9 : List (Nat × Nat × Nat × Nat) := [(0,14,0,0),(0,0,0,1),(0,1,0,1),(0,2,0,0),(5,161,0,2),(0,55,0,0),(0,64,0,0),(0,138,0,1),(5,159,0,2)]
def kL_H10 : List (Nat × Nat × Nat × Nat) := [(0,14,0,0),(0,0,0,1),(0,1,0,0),(5,162,0,0),(0,55,0,0),(0,64,0,0),(0,138,0,1),(5,159,0,0)]
def kL_H11 : List (Nat × Nat × Nat × Nat) := [(0,14,0,0),(0,0,0,1),(0,1,0,0),(5,162,0,1),(0,55,0,0),(0,64,0,0),(0,138,0,1),(5,159,0,1)]
def kL_H12 : List (Nat × Nat × Nat × Nat) := [(0,14,0,0),(0,0,0,1),(0,1,0,0),(5,162,0,2),(0,55,0,0),(0,64,0,0),(0,138,0,1),(5,159,0,2)]
def kL_H13 : List (Nat × Nat × Nat × Nat) := [(0,14,0,0),(0,0,0,0),(5,163,0,0),(0,55,0,0),(0,64,0,0),(0,138,0,1),(5,159,0,0)]
def kL_H14 : List (Nat × Nat × Nat × Nat) := [(0,14,0,0),(0,0,0,0),(5,163,0,1),(0,55,0,0),(0,64,0,0),(0,138,0,1),(5,159,0,1)]
def kL_H15 : List (Nat × Nat × Nat × Nat) := [(0,14,0,0),(0,0,0,0),(5,163,0,2),(0,55,0,0),(0,64,0,0),(0,138,0,1),(5,159,0,2)]
theorem kL_r0 : (callD (sx Tryz.prog kL_N kL_H0 [(149,[])] kL_L kL_C kL_Z (prC [27])) kL_cs kL_G 7 [] 6 kL_A [] 0).map (·.1)=some (kB true) := by kernel_rfl
theorem kL_r1 : (callD (sx Tryz.prog kL_N kL_H1 [(149,[])] kL_L kL_C kL_Z (prC [27])) kL_cs kL_G 8 [] 6 kL_A [] 0).map (·.1)=some (kB true) := by kernel_rfl
theorem kL_r2 : (callD (sx Tryz.prog kL_N kL_H2 [(149,[])] kL_L kL_C kL_Z (prC [27])) kL_cs kL_G 8 [] 6 kL_A [] 0).map (·.1)=some (kB true) := by kernel_rfl
theorem kL_r3 : (callD (sx Tryz.prog kL_N kL_H3 [(149,[])] kL_L kL_C kL_Z (prC [27])) kL_cs kL_G 8 [] 6 kL_A [] 0).map (·.1)=some (kB true) := by kernel_rfl
theorem kL_r4 : (callD (sx Tryz.prog kL_N kL_H4 [(149,[])] kL_L kL_C kL_Z (prC [27])) kL_cs kL_G 8 [] 6 kL_A [] 0).map (·.1)=some (kB true) := by kernel_rfl
theorem kL_r5 : (callD (sx Tryz.prog kL_N kL_H5 [(149,[])] kL_L kL_C kL_Z (prC [27])) kL_cs kL_G 8 [] 6 kL_A [] 0).map (·.1)=some (kB true) := by kernel_rfl
theorem kL_r6 : (callD (sx Tryz.prog kL_N kL_H6 [(149,[])] kL_L kL_C kL_Z (prC [27])) kL_cs kL_G 8 [] 6 kL_A [] 0).map (·.1)=some (kB true) := by kernel_rfl
theorem kL_r7 : (callD (sx Tryz.prog kL_N kL_H7 [(149,[])] kL_L kL_C kL_Z (prC [27])) kL_cs kL_G 8 [] 6 kL_A [] 0).map (·.1)=some (kB true) := by kernel_rfl
theorem kL_r8 : (callD (sx Tryz.prog kL_N kL_H8 [(149,[])] kL_L kL_C kL_Z (prC [27])) kL_cs kL_G 8 [] 6 kL_A [] 0).map (·.1)=some (kB true) := by kernel_rfl
theorem kL_r9 : (callD (sx Tryz.prog kL_N kL_H9 [(149,[])] kL_L kL_C kL_Z (prC [27])) kL_cs kL_G 8 [] 6 kL_A [] 0).map (·.1)=some (kB true) := by kernel_rfl
theorem kL_r10 : (callD (sx Tryz.prog kL_N kL_H10 [(149,[])] kL_L kL_C kL_Z (prC [27])) kL_cs kL_G 8 [] 6 kL_A [] 0).map (·.1)=some (kB true) := by kernel_rfl
theorem kL_r11 : (callD (sx Tryz.prog kL_N kL_H11 [(149,[])] kL_L kL_C kL_Z (prC [27])) kL_cs kL_G 8 [] 6 kL_A [] 0).map (·.1)=some (kB true) := by kernel_rfl
theorem kL_r12 : (callD (sx Tryz.prog kL_N kL_H12 [(149,[])] kL_L kL_C kL_Z (prC [27])) kL_cs kL_G 8 [] 6 kL_A [] 0).map (·.1)=some (kB true) := by kernel_rfl
theorem kL_r13 : (callD (sx Tryz.prog kL_N kL_H13 [(149,[])] kL_L kL_C kL_Z (prC [27])) kL_cs kL_G 8 [] 6 kL_A [] 0).map (·.1)=some (kB true) := by kernel_rfl
theorem kL_r14 : (callD (sx Tryz.prog kL_N kL_H14 [(149,[])] kL_L kL_C kL_Z (prC [27])) kL_cs kL_G 8 [] 6 kL_A [] 0).map (·.1)=some (kB true) := by kernel_rfl
theorem kL_r15 : (callD (sx Tryz.prog kL_N kL_H15 [(149,[])] kL_L kL_C kL_Z (prC [27])) kL_cs kL_G 8 [] 6 kL_A [] 0).map (·.1)=some (kB true) := by kernel_rfl
theorem kL_An {a b : Prop} (x : a) (y : b) : a∧b := ⟨x,y⟩
theorem kL_leaf {M : Memo} {H : List (Nat × Nat × Nat × Nat)} {K : List (FuncId × List AC)} {k : Nat} {q : Nat→Rat} {σ : Nat→ByteArray} {args : List AV} {vs : List Value} {w : World} (hr : (callD (sx Tryz.prog kL_N H K kL_L kL_C kL_Z (prC [27])) kL_cs M k [] 6 args [] 0).map (·.1)=some (kB true)) (hσ : ∀ j,(σ j).size≤1048576) (hq : ∀ (a : Nat) nd,kL_N[a]? = some nd→q a=valN σ q nd) (h0 : ∀ a,kL_N.length≤a→q a=0) (hH : hAll q H) (hp : PreS w) (hM : MemoAll kL_N kL_L kL_C kL_Z q σ [27] w M) (hA : ∀ K,A2 (avOn (cOn (evS q σ) K (fun _ => none) w)) args vs) : Calls Tryz.prog 6 vs.toArray w fun e w' => Below w.heap.size w w'∧e=.returned (.bool true) :=
 run_toldD' k (hy_ofW hσ kL_wf kL_sz kL_lt kL_cn hq h0 hH) (by simp [closed_coned]) (by kernel_rfl) hp hM hr (hA K)
theorem kL_leafE {M : Memo} {B : MemoX} {H : List (Nat × Nat × Nat × Nat)} {K : List (FuncId × List AC)} {k : Nat} {q : Nat→Rat} {σ : Nat→ByteArray} {args : List AV} {vs : List Value} {w : World} (hr : (callE (sx Tryz.prog kL_N H K kL_L kL_C kL_Z (prC [27])) kL_cs M B k [] 6 args [] 0).map (·.1)=some (kB true)) (hσ : ∀ j,(σ j).size≤1048576) (hq : ∀ (a : Nat) nd,kL_N[a]? = some nd→q a=valN σ q nd) (h0 : ∀ a,kL_N.length≤a→q a=0) (hH : hAll q H) (hp : PreS w) (hM : MemoAll kL_N kL_L kL_C kL_Z q σ [27] w M) (hB : MemoXOk (sx Tryz.prog kL_N H K kL_L kL_C kL_Z (prC [27])) (evS q σ) w B) (hA : ∀ K,A2 (avOn (cOn (evS q σ) K (fun _ => none) w)) args vs) : Calls Tryz.prog 6 vs.toArray w fun e w' => Below w.heap.size w w'∧e=.returned (.bool true) :=
 run_toldE' k (hy_ofW hσ kL_wf kL_sz kL_lt kL_cn hq h0 hH) (by simp [closed_coned]) (by kernel_rfl) hp hM hB hr (hA K)
theorem kL_leafC {H : List (Nat × Nat × Nat × Nat)} {K : List (FuncId × List AC)} {k : Nat} {q : Nat→Rat} {σ : Nat→ByteArray} {args : List AV} {vs : List Value} {w : World} (hr : (callC (sx Tryz.prog kL_N H K kL_L kL_C kL_Z (prC [27])) kL_cs k [] 6 args [] 0).map (·.1)=some (kB true)) (hσ : ∀ j,(σ j).size≤1048576) (hq : ∀ (a : Nat) nd,kL_N[a]? = some nd→q a=valN σ q nd) (h0 : ∀ a,kL_N.length≤a→q a=0) (hH : hAll q H) (hp : PreS w) (hA : ∀ K,A2 (avOn (cOn (evS q σ) K (fun _ => none) w)) args vs) : Calls Tryz.prog 6 vs.toArray w fun e w' => Below w.heap.size w w'∧e=.returned (.bool true) :=
 run_toldC' k (hy_ofW hσ kL_wf kL_sz kL_lt kL_cn hq h0 hH) (by simp [closed_coned]) (by kernel_rfl) hr hp (hA K)
theorem kL_walk {w : World} {ka kb kc kd ke kf ux uz : ByteArray} (ska : ka.size≤1048576) (skb : kb.size≤1048576) (skc : kc.size≤1048576) (skd : kd.size≤1048576) (ske : ke.size≤1048576) (skf : kf.size≤1048576) (sux : ux.size≤1048576) (suz : uz.size≤1048576) (tab : Tab w) (mx : MaxL w) :
  Calls Tryz.prog 6 #[.agg #[.string ka,.string kb,.string kc,.string kd,.string ke,.string kf],.agg #[.string ux,.string uz]] w fun e w' => Below w.heap.size w w'∧e=.returned (.bool true) := by
 have hσ : ∀ j,(sgOf [ka,kb,kc,kd,ke,kf,ux,uz] j).size≤1048576 := sgOf_size (by simp [ska,skb,skc,skd,ske,skf,sux,suz])
 obtain ⟨q,hq,h0⟩ := nodes_exist (sgOf [ka,kb,kc,kd,ke,kf,ux,uz]) kL_N kL_wf
 have hA : ∀ K,A2 (avOn (cOn (evS q (sgOf [ka,kb,kc,kd,ke,kf,ux,uz])) K (fun _ => none) w)) [(false,[(true,[.inr (2,0,0,0,0),.inr (2,1,0,0,0),.inr (2,2,0,0,0),.inr (2,3,0,0,0),.inr (2,4,0,0,0),.inr (2,5,0,0,0)])]),(false,[(true,[.inr (2,6,0,0,0),.inr (2,7,0,0,0)])])] [.agg #[.string ka,.string kb,.string kc,.string kd,.string ke,.string kf],.agg #[.string ux,.string uz]] := fun K => ⟨⟨⟨[.string ka,.string kb,.string kc,.string kd,.string ke,.string kf],rfl,rfl,rfl,rfl,rfl,rfl,rfl,trivial⟩,trivial⟩,⟨⟨[.string ux,.string uz],rfl,rfl,rfl,trivial⟩,trivial⟩,trivial⟩
 by_cases b14 : q 14=0
 ·
  have hH : hAll q kL_H0 := (kL_An (hT b14) trivial)
  exact kL_leaf kL_r0 hσ hq h0 hH ⟨tab,mx⟩ (kL_memoG hσ hq h0 ⟨tab,mx⟩) hA
 ·
  by_cases b0 : q 0=0
  ·
   by_cases b1 : q 1=0
   ·
    by_cases b2 : q 2=0
    ·
     by_cases b3 : q 3=0
     ·
      have gZ4 := kL_Z4 hq b14 b0 b1 b2 b3
      have b4 : ¬ (q 4=0) := gZ4
      rcases tri (q 53) with a_5_53_0 | a_5_53_0 | a_5_53_0
      ·
       have gT1 := kL_T1 hq b14
       have b55 : ¬ (q 55=0) := gT1.1
       have b64 : ¬ (q 64=0) := gT1.2.1
       have b138 : q 138=0 := gT1.2.2.1
       have gS4 := kL_S4 hq gT1.2.2.2 b0 b1 b2 b3 b4
       have a_5_159_0 : q 159 < 0 := gS4.1 a_5_53_0
       have hH : hAll q kL_H1 := (kL_An (hF b14) (kL_An (hT b0) (kL_An (hT b1) (kL_An (hT b2) (kL_An (hT b3) (kL_An (hF b4) (kL_An (h50 a_5_53_0) (kL_An (hF b55) (kL_An (hF b64) (kL_An (hT b138) (kL_An (h50 a_5_159_0) trivial)))))))))))
       exact kL_leaf kL_r1 hσ hq h0 hH ⟨tab,mx⟩ (kL_memoG hσ hq h0 ⟨tab,mx⟩) hA
      ·
       have gT1 := kL_T1 hq b14
       have b55 : ¬ (q 55=0) := gT1.1
       have b64 : ¬ (q 64=0) := gT1.2.1
       have b138 : q 138=0 := gT1.2.2.1
       have gS4 := kL_S4 hq gT1.2.2.2 b0 b1 b2 b3 b4
       have a_5_159_0 : q 159=0 := gS4.2.1 a_5_53_0
       have hH : hAll q kL_H2 := (kL_An (hF b14) (kL_An (hT b0) (kL_An (hT b1) (kL_An (hT b2) (kL_An (hT b3) (kL_An (hF b4) (kL_An (h51 a_5_53_0) (kL_An (hF b55) (kL_An (hF b64) (kL_An (hT b138) (kL_An (h51 a_5_159_0) trivial)))))))))))
       exact kL_leaf kL_r2 hσ hq h0 hH ⟨tab,mx⟩ (kL_memoG hσ hq h0 ⟨tab,mx⟩) hA
      ·
       have gT1 := kL_T1 hq b14
       have b55 : ¬ (q 55=0) := gT1.1
       have b64 : ¬ (q 64=0) := gT1.2.1
       have b138 : q 138=0 := gT1.2.2.1
       have gS4 := kL_S4 hq gT1.2.2.2 b0 b1 b2 b3 b4
       have a_5_159_0 : 0 < q 159 := gS4.2.2 a_5_53_0
       have hH : hAll q kL_H3 := (kL_An (hF b14) (kL_An (hT b0) (kL_An (hT b1) (kL_An (hT b2) (kL_An (hT b3) (kL_An (hF b4) (kL_An (h52 a_5_53_0) (kL_An (hF b55) (kL_An (hF b64) (kL_An (hT b138) (kL_An (h52 a_5_159_0) trivial)))))))))))
       exact kL_leaf kL_r3 hσ hq h0 hH ⟨tab,mx⟩ (kL_memoG hσ hq h0 ⟨tab,mx⟩) hA
     ·
      rcases tri (q 160) with a_5_160_0 | a_5_160_0 | a_5_160_0
      ·
       have gT1 := kL_T1 hq b14
       have b55 : ¬ (q 55=0) := gT1.1
       have b64 : ¬ (q 64=0) := gT1.2.1
       have b138 : q 138=0 := gT1.2.2.1
       have gS3 := kL_S3 hq gT1.2.2.2 b0 b1 b2 b3
       have a_5_159_0 : q 159 < 0 := gS3.1 a_5_160_0
       have hH : hAll q kL_H4 := (kL_An (hF b14) (kL_An (hT b0) (kL_An (hT b1) (kL_An (hT b2) (kL_An (hF b3) (kL_An (h50 a_5_160_0) (kL_An (hF b55) (kL_An (hF b64) (kL_An (hT b138) (kL_An (h50 a_5_159_0) trivial))))))))))
       exact kL_leaf kL_r4 hσ hq h0 hH ⟨tab,mx⟩ (kL_memoG hσ hq h0 ⟨tab,mx⟩) hA
      ·
       have gT1 := kL_T1 hq b14
       have b55 : ¬ (q 55=0) := gT1.1
       have b64 : ¬ (q 64=0) := gT1.2.1
       have b138 : q 138=0 := gT1.2.2.1
       have gS3 := kL_S3 hq gT1.2.2.2 b0 b1 b2 b3
       have a_5_159_0 : q 159=0 := gS3.2.1 a_5_160_0
       have hH : hAll q kL_H5 := (kL_An (hF b14) (kL_An (hT b0) (kL_An (hT b1) (kL_An (hT b2) (kL_An (hF b3) (kL_An (h51 a_5_160_0) (kL_An (hF b55) (kL_An (hF b64) (kL_An (hT b138) (kL_An (h51 a_5_159_0) trivial))))))))))
       exact kL_leaf kL_r5 hσ hq h0 hH ⟨tab,mx⟩ (kL_memoG hσ hq h0 ⟨tab,mx⟩) hA
      ·
       have gT1 := kL_T1 hq b14
       have b55 : ¬ (q 55=0) := gT1.1
       have b64 : ¬ (q 64=0) := gT1.2.1
       have b138 : q 138=0 := gT1.2.2.1
       have gS3 := kL_S3 hq gT1.2.2.2 b0 b1 b2 b3
       have a_5_159_0 : 0 < q 159 := gS3.2.2 a_5_160_0
       have hH : hAll q kL_H6 := (kL_An (hF b14) (kL_An (hT b0) (kL_An (hT b1) (kL_An (hT b2) (kL_An (hF b3) (kL_An (h52 a_5_160_0) (kL_An (hF b55) (kL_An (hF b64) (kL_An (hT b138) (kL_An (h52 a_5_159_0) trivial))))))))))
       exact kL_leaf kL_r6 hσ hq h0 hH ⟨tab,mx⟩ (kL_memoG hσ hq h0 ⟨tab,mx⟩) hA
    ·
     rcases tri (q 161) with a_5_161_0 | a_5_161_0 | a_5_161_0
     ·
      have gT1 := kL_T1 hq b14
      have b55 : ¬ (q 55=0) := gT1.1
      have b64 : ¬ (q 64=0) := gT1.2.1
      have b138 : q 138=0 := gT1.2.2.1
      have gS2 := kL_S2 hq gT1.2.2.2 b0 b1 b2
      have a_5_159_0 : q 159 < 0 := gS2.1 a_5_161_0
      have hH : hAll q kL_H7 := (kL_An (hF b14) (kL_An (hT b0) (kL_An (hT b1) (kL_An (hF b2) (kL_An (h50 a_5_161_0) (kL_An (hF b55) (kL_An (hF b64) (kL_An (hT b138) (kL_An (h50 a_5_159_0) trivial)))))))))
      exact kL_leaf kL_r7 hσ hq h0 hH ⟨tab,mx⟩ (kL_memoG hσ hq h0 ⟨tab,mx⟩) hA
     ·
      have gT1 := kL_T1 hq b14
      have b55 : ¬ (q 55=0) := gT1.1
      have b64 : ¬ (q 64=0) := gT1.2.1
      have b138 : q 138=0 := gT1.2.2.1
      have gS2 := kL_S2 hq gT1.2.2.2 b0 b1 b2
      have a_5_159_0 : q 159=0 := gS2.2.1 a_5_161_0
      have hH : hAll q kL_H8 := (kL_An (hF b14) (kL_An (hT b0) (kL_An (hT b1) (kL_An (hF b2) (kL_An (h51 a_5_161_0) (kL_An (hF b55) (kL_An (hF b64) (kL_An (hT b138) (kL_An (h51 a_5_159_0) trivial)))))))))
      exact kL_leaf kL_r8 hσ hq h0 hH ⟨tab,mx⟩ (kL_memoG hσ hq h0 ⟨tab,mx⟩) hA
     ·
      have gT1 := kL_T1 hq b14
      have b55 : ¬ (q 55=0) := gT1.1
      have b64 : ¬ (q 64=0) := gT1.2.1
      have b138 : q 138=0 := gT1.2.2.1
      have gS2 := kL_S2 hq gT1.2.2.2 b0 b1 b2
      have a_5_159_0 : 0 < q 159 := gS2.2.2 a_5_161_0
      have hH : hAll q kL_H9 := (kL_An (hF b14) (kL_An (hT b0) (kL_An (hT b1) (kL_An (hF b2) (kL_An (h52 a_5_161_0) (kL_An (hF b55) (kL_An (hF b64) (kL_An (hT b138) (kL_An (h52 a_5_159_0) trivial)))))))))
      exact kL_leaf kL_r9 hσ hq h0 hH ⟨tab,mx⟩ (kL_memoG hσ hq h0 ⟨tab,mx⟩) hA
   ·
    rcases tri (q 162) with a_5_162_0 | a_5_162_0 | a_5_162_0
    ·
     have gT1 := kL_T1 hq b14
     have b55 : ¬ (q 55=0) := gT1.1
     have b64 : ¬ (q 64=0) := gT1.2.1
     have b138 : q 138=0 := gT1.2.2.1
     have gS1 := kL_S1 hq gT1.2.2.2 b0 b1
     have a_5_159_0 : q 159 < 0 := gS1.1 a_5_162_0
     have hH : hAll q kL_H10 := (kL_An (hF b14) (kL_An (hT b0) (kL_An (hF b1) (kL_An (h50 a_5_162_0) (kL_An (hF b55) (kL_An (hF b64) (kL_An (hT b138) (kL_An (h50 a_5_159_0) trivial))))))))
     exact kL_leaf kL_r10 hσ hq h0 hH ⟨tab,mx⟩ (kL_memoG hσ hq h0 ⟨tab,mx⟩) hA
    ·
     have gT1 := kL_T1 hq b14
     have b55 : ¬ (q 55=0) := gT1.1
     have b64 : ¬ (q 64=0) := gT1.2.1
     have b138 : q 138=0 := gT1.2.2.1
     have gS1 := kL_S1 hq gT1.2.2.2 b0 b1
     have a_5_159_0 : q 159=0 := gS1.2.1 a_5_162_0
     have hH : hAll q kL_H11 := (kL_An (hF b14) (kL_An (hT b0) (kL_An (hF b1) (kL_An (h51 a_5_162_0) (kL_An (hF b55) (kL_An (hF b64) (kL_An (hT b138) (kL_An (h51 a_5_159_0) trivial))))))))
     exact kL_leaf kL_r11 hσ hq h0 hH ⟨tab,mx⟩ (kL_memoG hσ hq h0 ⟨tab,mx⟩) hA
    ·
     have gT1 := kL_T1 hq b14
     have b55 : ¬ (q 55=0) := gT1.1
     have b64 : ¬ (q 64=0) := gT1.2.1
     have b138 : q 138=0 := gT1.2.2.1
     have gS1 := kL_S1 hq gT1.2.2.2 b0 b1
     have a_5_159_0 : 0 < q 159 := gS1.2.2 a_5_162_0
     have hH : hAll q kL_H12 := (kL_An (hF b14) (kL_An (hT b0) (kL_An (hF b1) (kL_An (h52 a_5_162_0) (kL_An (hF b55) (kL_An (hF b64) (kL_An (hT b138) (kL_An (h52 a_5_159_0) trivial))))))))
     exact kL_leaf kL_r12 hσ hq h0 hH ⟨tab,mx⟩ (kL_memoG hσ hq h0 ⟨tab,mx⟩) hA
  ·
   rcases tri (q 163) with a_5_163_0 | a_5_163_0 | a_5_163_0
   ·
    have gT1 := kL_T1 hq b14
    have b55 : ¬ (q 55=0) := gT1.1
    have b64 : ¬ (q 64=0) := gT1.2.1
    have b138 : q 138=0 := gT1.2.2.1
    have gS0 := kL_S0 hq gT1.2.2.2 b0
    have a_5_159_0 : q 159 < 0 := gS0.1 a_5_163_0
    have hH : hAll q kL_H13 := (kL_An (hF b14) (kL_An (hF b0) (kL_An (h50 a_5_163_0) (kL_An (hF b55) (kL_An (hF b64) (kL_An (hT b138) (kL_An (h50 a_5_159_0) trivial)))))))
    exact kL_leaf kL_r13 hσ hq h0 hH ⟨tab,mx⟩ (kL_memoG hσ hq h0 ⟨tab,mx⟩) hA
   ·
    have gT1 := kL_T1 hq b14
    have b55 : ¬ (q 55=0) := gT1.1
    have b64 : ¬ (q 64=0) := gT1.2.1
    have b138 : q 138=0 := gT1.2.2.1
    have gS0 := kL_S0 hq gT1.2.2.2 b0
    have a_5_159_0 : q 159=0 := gS0.2.1 a_5_163_0
    have hH : hAll q kL_H14 := (kL_An (hF b14) (kL_An (hF b0) (kL_An (h51 a_5_163_0) (kL_An (hF b55) (kL_An (hF b64) (kL_An (hT b138) (kL_An (h51 a_5_159_0) trivial)))))))
    exact kL_leaf kL_r14 hσ hq h0 hH ⟨tab,mx⟩ (kL_memoG hσ hq h0 ⟨tab,mx⟩) hA
   ·
    have gT1 := kL_T1 hq b14
    have b55 : ¬ (q 55=0) := gT1.1
    have b64 : ¬ (q 64=0) := gT1.2.1
    have b138 : q 138=0 := gT1.2.2.1
    have gS0 := kL_S0 hq gT1.2.2.2 b0
    have a_5_159_0 : 0 < q 159 := gS0.2.2 a_5_163_0
    have hH : hAll q kL_H15 := (kL_An (hF b14) (kL_An (hF b0) (kL_An (h52 a_5_163_0) (kL_An (hF b55) (kL_An (hF b64) (kL_An (hT b138) (kL_An (h52 a_5_159_0) trivial)))))))
    exact kL_leaf kL_r15 hσ hq h0 hH ⟨tab,mx⟩ (kL_memoG hσ hq h0 ⟨tab,mx⟩) hA
end Go.Proofs.YtglilpjckmgbcaaGreatDoor
