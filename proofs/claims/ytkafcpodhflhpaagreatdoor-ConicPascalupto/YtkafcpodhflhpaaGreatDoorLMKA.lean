/- Part 13 of the walks and of the mathematics under them: VP VPC VPD VPE VY VSZ VSA CFconed MKA. -/
import Derived.Test.YtkafcpodhflhpaaGreatDoorA2
import Derived.Test.YtkafcpodhflhpaaGreatDoorA12
set_option maxHeartbeats 16000000
set_option maxRecDepth 100000
/- VP -/
namespace Cx
open Go Go.RowKit
abbrev Hs := List (Nat × Nat × Nat × Nat)
def Sx.plus (S : Sx) (X : Hs) : Sx := { S with H := X ++ S.H }
abbrev Ask := Nat × Nat × Nat × Nat
def askZ (a : Nat) : Ask := (0,a,0,a)
def askOk (S : Sx) : Ask→Bool
 | (k,a,b,d) => (Nat.beq k 0 && (Nat.beq b 0 && Nat.beq d a)) || (Nat.beq k 3 && (match S.N[d]? with
  | some (op,ar) => Nat.beq op 3 && beqL ar [a,b]
  | none => false))
def acrossB (S : Sx) (a b : Nat) : List Nat→List Nat→Option (List Ask)
 | c :: l,d :: m => (S.nd 4 [a,d]).bind fun x => (S.nd 4 [c,b]).bind fun y => (S.nd 3 [x,y]).bind fun z => (acrossB S a b l m).map fun r => (3,x,y,z) :: r
 | _,_ => some []
def alikeB (S : Sx) : List Nat→List Nat→List Nat→List Nat→Option (List Ask)
 | pl,pm,a :: l,b :: m => (acrossB S a b pl pm).bind fun r => (alikeB S (pl ++ [a]) (pm ++ [b]) l m).map fun t => r ++ t
 | _,_,_,_ => some []
def sameA (S : Sx) : List Nat→List Nat→Option (List Ask)
 | a :: l,b :: m => (S.nd 3 [a,b]).bind fun d => (sameA S l m).map fun r => (3,a,b,d) :: r
 | _,_ => some []
def asks (S : Sx) (h : List HB) (code : Nat) (args : List AV) : Option (List Ask) :=
 match code with
 | 60 => arg1 (fun x => (asA x).bind fun cs => (qRow S cs).map fun l => l.map askZ) args
 | 61 => arg1 (fun x => (rowB h 1 x).bind fun p => (mapO (acX 0) p.2).map fun l => l.map askZ) args
 | 62 => arg2 (fun x y => (rowB h 1 x).bind fun p => (mapO (acX 0) p.2).bind fun l => (rowB h 1 y).bind fun p' => (mapO (acX 0) p'.2).bind fun m => alikeB S [] [] l m) args
 | 63 => arg1 (fun x => (asA x).bind fun cs => (mapO acTold cs).bind fun l => (plainOf S l).map fun xs => xs.map askZ) args
 | 67 => arg1 (fun x => (asA x).bind fun cs => (mapO (txNode S) (cs.take 3)).map fun l => l.map askZ) args
 | 65 => arg1 (fun x => (asA x).bind fun cs => (mapO (acX 0) cs).map fun l => l.map askZ) args
 | 66 => arg2 (fun x y => (asA x).bind fun cs => (asA y).bind fun ds => (mapO (acX 0) cs).bind fun l => (mapO (acX 0) ds).bind fun m => sameA S l m) args
 | 64 => arg1 (fun x => (asA x).bind fun cs => (qRow S cs).map fun l => (l.take 5).map askZ) args
 | 68 => arg2 (fun x _ => (asA x).bind fun cs => (qRow S cs).map fun l => (l.take 5).map askZ) args
 | _ => none
def splits : List Ask→Hs→List Hs
 | [],_ => []
 | (k,a,b,_) :: l,X => ((k,a,b,0) :: X) :: splits l ((k,a,b,1) :: X)
def allZ : List Ask→Hs→Hs
 | [],X => X
 | (k,a,b,_) :: l,X => allZ l ((k,a,b,1) :: X)
def bodyC (S : Sx) (call : CallF) : CallF := fun f args h nx => S.P.funcs[f]?.bind fun fn => fn.body.bind fun c => ifO (Nat.ble args.length fn.ntmps) ((runB S call fn.ntmps c { tm := numb1 0 args,h := h,nx := nx }).bind fun r =>
   ifO (Nat.ble r.1 1) ((mapO (resB S.P r.2) fn.results.toList).map fun xs => (tupB xs,r.2.h,r.2.nx)))
abbrev CRes := Option (AV × List HB × Nat)
def acZ : AC→Option Nat
 | .inr (k,j,a,x,y) => ifO (Nat.beq k 0 && (Nat.beq j 7 && (Nat.beq x 0 && Nat.beq y 0))) (some a)
 | _ => none
def weakV (S : Sx) (v : AV) : AV := match (asC v).bind (acX 4) with
 | some n => (match S.N[n]? with
  | some (_,[a,b]) => (match S.nd 4 [a,b],S.kn 0 a 0 with
   | some m,some r => bif Nat.beq m n && !Nat.beq 1 r then v1 (.inr (0,7,b,0,0)) else v
   | _,_ => v)
  | _ => v)
 | none => v
def weakR (S : Sx) (r : CRes) : CRes := r.map fun p => (weakV S p.1,p.2)
def ansK (v : AV) : Option (Bool ⊕ Nat) := match asB v with
 | some b => some (.inl b)
 | none => ((asC v).bind acZ).map .inr
def kAns : Bool ⊕ Nat→AV
 | .inl b => kB b
 | .inr a => v1 (.inr (0,7,a,0,0))
def sameK : Bool ⊕ Nat→Bool ⊕ Nat→Bool
 | .inl b,.inl c => b == c
 | .inr a,.inr b => Nat.beq a b
 | _,_ => false
def agree (h : List HB) (b : Bool ⊕ Nat) (hi : Nat) : CRes→Bool
 | some (v,h',nx') => (match ansK v with
  | some c => sameK b c
  | none => false) && (Nat.ble nx' hi && h.all fun x => h'.any fun y => Nat.beq y.1 x.1 && acsW x.2 y.2)
 | none => false
def topN : Nat→List CRes→Nat
 | m,[] => m
 | m,some p :: rs => topN (bif Nat.ble m p.2.2 then p.2.2 else m) rs
 | m,none :: rs => topN m rs
def joinC (h : List HB) (nx : Nat) (rs : List CRes) : CRes :=
 match rs with
 | some p :: _ => (ansK p.1).bind fun b => ifO (rs.all (agree h b (topN nx rs))) (some (kAns b,h,topN nx rs))
 | _ => none
def askIt (S : Sx) (X : Hs) (h : List HB) (c : Nat) (args : List AV) : Option (List Ask × Nat) :=
 (asks (S.plus X) h c args).bind fun l => ifO (l.all (askOk S)) ((sqN S (l.map (·.2.2.2))).bind fun s => ((S.plus X).kn 0 s 0).map fun r => (l,r))
theorem askIt_some {S : Sx} {X : Hs} {h : List HB} {c : Nat} {args : List AV} {l : List Ask} {r : Nat} (e : askIt S X h c args=some (l,r)) : (∀ a ∈ l,askOk S a=true)∧∃ s,sqN S (l.map (·.2.2.2))=some s∧(S.plus X).kn 0 s 0=some r := by
 unfold askIt at e
 simp only [Option.bind_eq_some_iff,ifO_some,Option.map_eq_some_iff,List.all_eq_true,Prod.mk.injEq] at e
 obtain ⟨l',_,h1,s,h2,r',h3,rfl,rfl⟩ := e
 exact ⟨h1,s,h2,h3⟩
def callC (S : Sx) (cs : List (FuncId × Nat)) : Nat→Hs→CallF
 | 0,_,_,_,_,_ => none
 | n+1,X,f,args,h,nx => match prGet f cs with
  | none => bodyC (S.plus X) (callC S cs n X) f args h nx
  | some c => match askIt S X h c args with
   | none => bodyC (S.plus X) (callC S cs n X) f args h nx
   | some (l,r) => bif Nat.beq 1 r then bodyC (S.plus (allZ l X)) (callC S cs n (allZ l X)) f args h nx
    else joinC h nx ((splits l X).map fun X' => weakR (S.plus X') (bodyC (S.plus X') (callC S cs n X') f args h nx))
section
variable {S : Sx} {E : Ev S.nb} {w0 : World}
theorem bodyC_ok {call : CallF} (hm : S.P.follows .mixedOrders=true) (N : Knows S E) (hP : PrimOk S E w0) (hC : CallOk S E w0 call) : CallOk S E w0 (bodyC S call) := fun f args h nx p hp γ w vs hi hA hb hlt hf => by
 unfold bodyC at hp
 simp only [Option.bind_eq_some_iff,ifO_some,Option.map_eq_some_iff,Nat.ble_eq] at hp
 obtain ⟨fn,h1,c,h2,h3,⟨e,s'⟩,h4,h5,xs,h6,rfl⟩ := hp
 dsimp only at h5 h6
 rcases (show e=0 ∨ e=1 by omega) with rfl | rfl
 all_goals
  obtain ⟨_,_,r⟩ := runB_ok hm N hP hC c _ _ _ h4
  refine calls_of_wp h1 h2 (r γ _ w _ ⟨hi,fun t v q => ?_,hb,hlt,?_,rfl⟩ hf fun a' w' γ' hef hs => ?_)
  ·obtain ⟨_,q2⟩ := numb1_get q
   rw [Nat.sub_zero] at q2
   obtain ⟨u,hu,hv⟩ := hA.get q2
   have hlt : t < vs.length := (List.getElem?_eq_some_iff.1 hu).1
   have : (vs.toArray ++ Array.replicate (fn.ntmps - vs.toArray.size) undef).getD t undef=u := by
    rw [Array.getD_eq_getD_getElem?,Array.getElem?_append_left (by simpa using hlt)]
    simp [hu]
   show avOn _ v ((vs.toArray ++ Array.replicate (fn.ntmps - vs.toArray.size) undef).getD t undef)
   rw [this]
   exact hv
  ·have := hA.len
   simp
   omega
  ·obtain ⟨v,hv,hx⟩ := results_run hs h6
   exact ⟨hs.df,v,hv,v,γ',rfl,hef,hx,hs.bx⟩
theorem asB_kB {v : AV} {b : Bool} (h : asB v=some b) : v=kB b := by
 unfold asB at h
 rw [Option.bind_eq_some_iff] at h
 obtain ⟨c,h1,h2⟩ := h
 unfold asC at h1
 split at h1
 ·cases h1
  unfold acB at h2
  split at h2
  ·cases h2
   rfl
  ·cases h2
 ·cases h1
theorem ansK_eq {v : AV} {k : Bool ⊕ Nat} (h : ansK v=some k) : v=kAns k := by
 unfold ansK at h
 split at h
 ·rename_i b hb
  cases h
  exact asB_kB hb
 ·rw [Option.map_eq_some_iff] at h
  obtain ⟨a,h,rfl⟩ := h
  rw [Option.bind_eq_some_iff] at h
  obtain ⟨c,h1,h2⟩ := h
  unfold asC at h1
  split at h1
  ·cases h1
   unfold acZ at h2
   split at h2
   ·rw [ifO_some,Bool.and_eq_true,Bool.and_eq_true,Bool.and_eq_true,Nat.beq_eq,Nat.beq_eq,Nat.beq_eq,Nat.beq_eq] at h2
    obtain ⟨⟨rfl,rfl,rfl,rfl⟩,h3⟩ := h2
    cases h3
    rfl
   ·cases h2
  ·cases h1
theorem sameK_eq {a b : Bool ⊕ Nat} (h : sameK a b=true) : a=b := by
 unfold sameK at h
 split at h
 ·rename_i x y
  have : x=y := by simpa using h
  rw [this]
 ·rw [Nat.beq_eq] at h
  rw [h]
 ·cases h
theorem sgnZ_zero (q : Rat) : sgnZ q=0 ↔ q=0 := by
 unfold sgnZ
 split
 ·rename_i hlt
  constructor
  ·intro q; cases q
  ·intro q; rw [q] at hlt; exact absurd hlt (by decide)
 ·split <;> simp_all
theorem weakV_on (N : Knows S E) {γ : Nat→Option Nat} {w : World} {v : AV} {r : Value} (h : avOn (cOn E S.K γ w) v r) : avOn (cOn E S.K γ w) (weakV S v) r := by
 unfold weakV
 split
 ·rename_i n hn
  rw [Option.bind_eq_some_iff] at hn
  obtain ⟨c,h1,h2⟩ := hn
  split
  ·split
   ·rename_i a b _ _ _ m r' hm hr
    cases e : (Nat.beq m n && !Nat.beq 1 r') with
    | true =>
     rw [Bool.and_eq_true,Nat.beq_eq,Bool.not_eq_true'] at e
     obtain ⟨rfl,e2⟩ := e
     have ez := (N.x4 _ _ _).1 (acX_on h2 (asC_on h1 h))
     refine v1_on ((N.x7 _ _ _).2 ⟨_,ez,?_⟩)
     have hz : ¬ E.q a=0 := fun q => by rw [(N.k0 a r' hr).2 q] at e2; cases e2
     rw [sgnZ_zero,N.k7 _ _ _ hm]
     constructor
     ·exact fun q => (Rat.mul_eq_zero.1 q).resolve_left hz
     ·intro q
      rw [q,Rat.mul_zero]
    | false => exact h
   ·exact h
  ·exact h
 ·exact h
theorem weak_ok {X : Hs} {call : CallF} (N : Knows (S.plus X) E) (hC : CallOk S E w0 call) : CallOk S E w0 (fun f args h nx => weakR (S.plus X) (call f args h nx)) := fun f args h nx p hp => by
 replace hp : weakR (S.plus X) (call f args h nx)=some p := hp
 unfold weakR at hp
 rw [Option.map_eq_some_iff] at hp
 obtain ⟨p0,hp0,rfl⟩ := hp
 intro γ w vs hi hA hb hlt hf
 refine (hC f args h nx p0 hp0 γ w vs hi hA hb hlt hf).mono ?_
 rintro _ w' ⟨r',γ',rfl,hef,hv,hx⟩
 exact ⟨r',γ',rfl,hef,weakV_on (S := S.plus X) N hv,hx⟩
theorem agree_some {h : List HB} {b : Bool ⊕ Nat} {hi : Nat} {r : CRes} (hr : agree h b hi r=true) : ∃ h' nx',r=some (kAns b,h',nx')∧nx'≤hi∧∀ x ∈ h,x ∈ h' := by
 unfold agree at hr
 split at hr
 ·rename_i v h' nx'
  rw [Bool.and_eq_true,Bool.and_eq_true,Nat.ble_eq,List.all_eq_true] at hr
  obtain ⟨h1,h2,h3⟩ := hr
  refine ⟨h',nx',?_,h2,fun x hx => ?_⟩
  ·split at h1
   ·rename_i c hc
    rw [ansK_eq hc,sameK_eq h1]
   ·cases h1
  ·have := h3 x hx
   rw [List.any_eq_true] at this
   obtain ⟨y,hy,e⟩ := this
   rw [Bool.and_eq_true,Nat.beq_eq] at e
   have : x=y := Prod.ext e.1.symm (acsW_eq e.2)
   rw [this]
   exact hy
 ·cases hr
variable {T : Hs→Prop} {z : Nat→Prop}
def AskTrue (S : Sx) (T : Hs→Prop) (z : Nat→Prop) : Prop := ∀ X,T X→∀ a,askOk S a=true→(z a.2.2.2→T ((a.1,a.2.1,a.2.2.1,1) :: X))∧(¬ z a.2.2.2→T ((a.1,a.2.1,a.2.2.1,0) :: X))
theorem allZ_true (hk : AskTrue S T z) : ∀ {l : List Ask} {X : Hs},T X→(∀ a ∈ l,askOk S a=true)→(∀ a ∈ l,z a.2.2.2)→T (allZ l X)
 | [],_,h,_,_ => h
 | (k,a,b,d) :: l,X,h,ho,hz => allZ_true (l := l) hk ((hk X h (k,a,b,d) (ho _ List.mem_cons_self)).1 (hz _ List.mem_cons_self)) (fun a ha => ho a (List.mem_cons_of_mem _ ha)) (fun a ha => hz a (List.mem_cons_of_mem _ ha))
theorem splits_true (hk : AskTrue S T z) : ∀ {l : List Ask} {X : Hs},T X→(∀ a ∈ l,askOk S a=true)→(∃ a ∈ l,¬ z a.2.2.2)→∃ X' ∈ splits l X,T X'
 | [],_,_,_,⟨_,h,_⟩ => by cases h
 | (k,a,b,d) :: l,X,h,ho,hz => by
  by_cases e : z d
  ·obtain ⟨X',h1,h2⟩ := splits_true (l := l) hk ((hk X h (k,a,b,d) (ho _ List.mem_cons_self)).1 e) (fun a ha => ho a (List.mem_cons_of_mem _ ha)) (by
    obtain ⟨c,hc,hn⟩ := hz
    rcases List.mem_cons.1 hc with rfl | hc
    ·exact (hn e).elim
    ·exact ⟨c,hc,hn⟩)
   exact ⟨X',List.mem_cons_of_mem _ h1,h2⟩
  ·exact ⟨_,List.mem_cons_self,(hk X h (k,a,b,d) (ho _ List.mem_cons_self)).2 e⟩
theorem callC_ok {cs : List (FuncId × Nat)} (hm : S.P.follows .mixedOrders=true) (hN : ∀ X,T X→Knows (S.plus X) E) (hP : ∀ X,T X→PrimOk (S.plus X) E w0) (hk : AskTrue S T z)
  (hs : ∀ X,T X→∀ l s r,sqN S l=some s→(S.plus X).kn 0 s 0=some r→(Nat.beq 1 r=true→∀ d ∈ l,z d)∧(Nat.beq 1 r=false→∃ d ∈ l,¬ z d)) : ∀ n X,T X→CallOk S E w0 (callC S cs n X)
 | 0,_,_ => fun _ _ _ _ _ h => by cases h
 | n+1,X,hX => fun f args h nx p hp => by
  have body : ∀ Y,T Y→CallOk S E w0 (bodyC (S.plus Y) (callC S cs n Y)) := fun Y hY => bodyC_ok (S := S.plus Y) hm (hN Y hY) (hP Y hY) (callC_ok hm hN hP hk hs n Y hY)
  unfold callC at hp
  split at hp
  ·exact body X hX f args h nx p hp
  ·split at hp
   ·exact body X hX f args h nx p hp
   rename_i l r hk'
   obtain ⟨hl,s,h1,h2⟩ := askIt_some hk'
   have h3 := hp
   obtain ⟨a1,a0⟩ := hs X hX _ s r h1 h2
   cases e : Nat.beq 1 r with
   | true =>
    rw [e] at h3
    exact body _ (allZ_true hk hX hl fun a ha => a1 e _ (List.mem_map_of_mem ha)) f args h nx p h3
   | false =>
    rw [e] at h3
    obtain ⟨d,hd,hz⟩ := a0 e
    obtain ⟨a,ha,rfl⟩ := List.mem_map.1 hd
    obtain ⟨X',m1,m2⟩ := splits_true hk hX hl ⟨a,ha,hz⟩
    replace h3 : joinC h nx ((splits l X).map fun X' => weakR (S.plus X') (bodyC (S.plus X') (callC S cs n X') f args h nx))=some p := h3
    unfold joinC at h3
    split at h3
    ·rename_i p0 rs hrs
     rw [Option.bind_eq_some_iff] at h3
     obtain ⟨b,hb,h4⟩ := h3
     rw [ifO_some,List.all_eq_true] at h4
     obtain ⟨h5,h6⟩ := h4
     cases h6
     obtain ⟨h',nx',q1,q2,q3⟩ := agree_some (h5 _ (List.mem_map_of_mem m1))
     intro γ w vs hi hA hb hlt hf
     refine (weak_ok (hN X' m2) (body X' m2) f args h nx _ q1 γ w vs hi hA hb hlt fun b g1 g2 => hf b g1 (Nat.lt_of_lt_of_le g2 q2)).mono ?_
     rintro _ w' ⟨r',γ',rfl,hef,hv,hx⟩
     exact ⟨r',γ',rfl,hef.wide (Nat.le_refl _) q2,hv,fun x hh => hx x (q3 x hh)⟩
    ·cases h3
end
end Cx
/- VPC -/
namespace Go.Proofs.YtkafcpodhflhpaaGreatDoor
open Cx Go Go.RowKit
section
variable {N : List Nd} {H : List (Nat × Nat × Nat × Nat)} {K : List (FuncId × List AC)} {L C : List (List Nat × Nat)} {Z : List Nat} {q : Nat→Rat} {σ : Nat→ByteArray} {w0 : World} {cl : List FuncId} {cs pr : List (FuncId × Nat)}
theorem kn_cons {k a b k' a' b' r' : Nat} {r : Nat} (h : knFrom k a b ((k',a',b',r') :: H)=some r) : (k=k'∧a=a'∧b=b'∧r=r') ∨ knFrom k a b H=some r := by
 unfold knFrom at h
 cases e : (Nat.beq k k' && (Nat.beq a a' && Nat.beq b b')) with
 | true =>
  rw [e] at h
  simp only [Bool.and_eq_true,Nat.beq_eq] at e
  exact Or.inl ⟨e.1,e.2.1,e.2.2,(Option.some.inj h).symm⟩
 | false =>
  rw [e] at h
  exact Or.inr h
theorem Hy.add0 (Y : Hy N H L C Z q σ) {a r : Nat} (h : Nat.beq 1 r=true ↔ q a=0) : Hy N ((0,a,0,r) :: H) L C Z q σ where
 nat := Y.nat
 qs := Y.qs
 zs := Y.zs
 par := Y.par
 lit := Y.lit
 k0 := fun a' r' g => by
  rcases kn_cons g with ⟨_,e1,_,e2⟩ | g
  ·rw [e1,e2]
   exact h
  ·exact Y.k0 a' r' g
 k1 := fun a' r' g => by
  rcases kn_cons g with ⟨e,_⟩ | g
  ·cases e
  ·exact Y.k1 a' r' g
 k2 := fun a' r' g => by
  rcases kn_cons g with ⟨e,_⟩ | g
  ·cases e
  ·exact Y.k2 a' r' g
 k4 := fun l a' b' r' g1 g => by
  rcases kn_cons g with ⟨e,_⟩ | g
  ·cases e
  ·exact Y.k4 l a' b' r' g1 g
 k3 := fun a' b' r' g => by
  rcases kn_cons g with ⟨e,_⟩ | g
  ·cases e
  ·exact Y.k3 a' b' r' g
 k6 := fun a' b' r' g => by
  rcases kn_cons g with ⟨e,_⟩ | g
  ·cases e
  ·exact Y.k6 a' b' r' g
 k5 := fun a' r' g => by
  rcases kn_cons g with ⟨e,_⟩ | g
  ·cases e
  ·exact Y.k5 a' r' g
theorem Hy.add3 (Y : Hy N H L C Z q σ) {a b r : Nat} (h : Nat.beq 1 r=true ↔ q a=q b) : Hy N ((3,a,b,r) :: H) L C Z q σ where
 nat := Y.nat
 qs := Y.qs
 zs := Y.zs
 par := Y.par
 lit := Y.lit
 k0 := fun a' r' g => by
  rcases kn_cons g with ⟨e,_⟩ | g
  ·cases e
  ·exact Y.k0 a' r' g
 k1 := fun a' r' g => by
  rcases kn_cons g with ⟨e,_⟩ | g
  ·cases e
  ·exact Y.k1 a' r' g
 k2 := fun a' r' g => by
  rcases kn_cons g with ⟨e,_⟩ | g
  ·cases e
  ·exact Y.k2 a' r' g
 k4 := fun l a' b' r' g1 g => by
  rcases kn_cons g with ⟨e,_⟩ | g
  ·cases e
  ·exact Y.k4 l a' b' r' g1 g
 k3 := fun a' b' r' g => by
  rcases kn_cons g with ⟨_,e1,e2,e3⟩ | g
  ·rw [e1,e2,e3]
   exact h
  ·exact Y.k3 a' b' r' g
 k6 := fun a' b' r' g => by
  rcases kn_cons g with ⟨e,_⟩ | g
  ·cases e
  ·exact Y.k6 a' b' r' g
 k5 := fun a' r' g => by
  rcases kn_cons g with ⟨e,_⟩ | g
  ·cases e
  ·exact Y.k5 a' r' g
theorem ask_true : AskTrue (sx Tryz.prog N H K L C Z pr) (fun X => Hy N (X ++ H) L C Z q σ) (fun d => q d=0) := fun X Y a ha => by
 obtain ⟨k,a,b,d⟩ := a
 have t1 : Nat.beq 1 1=true := rfl
 have t0 : Nat.beq 1 0 ≠ true := fun h => by cases h
 unfold askOk at ha
 rw [Bool.or_eq_true] at ha
 rcases ha with ha | ha
 ·simp only [Bool.and_eq_true,Nat.beq_eq] at ha
  obtain ⟨rfl,rfl,rfl⟩ := ha
  exact ⟨fun h => Hy.add0 Y ⟨fun _ => h,fun _ => t1⟩,fun h => Hy.add0 Y ⟨fun g => (t0 g).elim,fun g => (h g).elim⟩⟩
 ·rw [Bool.and_eq_true,Nat.beq_eq] at ha
  obtain ⟨rfl,hb⟩ := ha
  split at hb
  ·rename_i op ar hn
   rw [Bool.and_eq_true,Nat.beq_eq] at hb
   obtain ⟨rfl,hb⟩ := hb
   have e := beqL_eq hb
   subst e
   have hv : q d=q a - q b := Y.nat d _ hn
   have h2 : q d=0 ↔ q a=q b := by
    rw [hv]
    constructor <;> intro h <;> grind
   exact ⟨fun h => Hy.add3 Y ⟨fun _ => h2.1 h,fun _ => t1⟩,fun h => Hy.add3 Y ⟨fun g => (t0 g).elim,fun g => (h (h2.2 g)).elim⟩⟩
  ·cases hb
theorem sq_nn (y : Rat) : 0≤y*y := by
 by_cases h : y=0
 ·rw [h,Rat.zero_mul]
  exact Rat.le_refl
 ·exact Rat.le_of_lt (sq1_pos h)
theorem sq_sum {x y : Rat} (hx : 0≤x) : x+y*y=0 ↔ x=0∧y=0 := by
 constructor
 ·intro h
  have h2 := sq_nn y
  have h3 : x=0 := by grind
  refine ⟨h3,?_⟩
  have : y*y=0 := by grind
  rcases Rat.mul_eq_zero.1 this with g | g <;> exact g
 ·rintro ⟨rfl,rfl⟩
  grind
theorem sqF_val {H' : List (Nat × Nat × Nat × Nat)} (Y : Hy N H' L C Z q σ) : ∀ {l : List Nat} {s t : Nat},sqF (sx Tryz.prog N H K L C Z pr) s l=some t→0≤q s→0≤q t∧(q t=0 ↔ q s=0∧∀ d ∈ l,q d=0)
 | [],s,t,h,hs => by
  cases h
  exact ⟨hs,fun e => ⟨e,fun d hd => by cases hd⟩,fun e => e.1⟩
 | a :: l,s,t,h,hs => by
  unfold sqF at h
  simp only [Option.bind_eq_some_iff] at h
  obtain ⟨b,h1,c,h2,h3⟩ := h
  have e1 : q b=q a*q a := Hy.nd (H := H') (K := K) (pr := pr) Y h1
  have e2 : q c=q s+q b := Hy.nd (H := H') (K := K) (pr := pr) Y h2
  have n := sq_nn (q a)
  obtain ⟨g1,g2⟩ := sqF_val Y h3 (by grind)
  refine ⟨g1,g2.trans ?_⟩
  have e3 := sq_sum (y := q a) hs
  rw [e2,e1,e3]
  constructor
  ·rintro ⟨⟨x,y⟩,z⟩
   refine ⟨x,fun d hd => ?_⟩
   rcases List.mem_cons.1 hd with rfl | hd
   ·exact y
   ·exact z d hd
  ·rintro ⟨x,y⟩
   exact ⟨⟨x,y a List.mem_cons_self⟩,fun d hd => y d (List.mem_cons_of_mem _ hd)⟩
theorem sqN_val {H' : List (Nat × Nat × Nat × Nat)} (Y : Hy N H' L C Z q σ) {l : List Nat} {s : Nat} (h : sqN (sx Tryz.prog N H K L C Z pr) l=some s) : q s=0 ↔ ∀ d ∈ l,q d=0 := by
 unfold sqN at h
 split at h
 ·cases h
 ·rename_i a l
  rw [Option.bind_eq_some_iff] at h
  obtain ⟨b,h1,h2⟩ := h
  have e1 : q b=q a*q a := Hy.nd (H := H') (K := K) (pr := pr) Y h1
  have n := sq_nn (q a)
  obtain ⟨_,g⟩ := sqF_val Y h2 (by grind)
  rw [g,e1]
  constructor
  ·rintro ⟨x,y⟩ d hd
   rcases List.mem_cons.1 hd with rfl | hd
   ·rcases Rat.mul_eq_zero.1 x with x | x <;> exact x
   ·exact y d hd
  ·intro y
   refine ⟨?_,fun d hd => y d (List.mem_cons_of_mem _ hd)⟩
   rw [y a List.mem_cons_self,Rat.zero_mul]
theorem run_cases {f : FuncId} {args : List AV} {vs : List Value} {k : Nat} {p : List HB × Nat} {b : Bool} (Y : Hy N H L C Z q σ) (hm : (Tryz.prog).follows .mixedOrders=true) {w : World} (hP : ∀ H',Hy N H' L C Z q σ→PrimOk (sx Tryz.prog N H' K L C Z pr) (evS q σ) w) (hr : callC (sx Tryz.prog N H K L C Z pr) cs k [] f args [] 0=some (kB b,p))
  (hA : A2 (avOn (cOn (evS q σ) K (fun _ => none) w)) args vs) : Calls Tryz.prog f vs.toArray w fun e w' => Below w.heap.size w w'∧e=.returned (.bool b) := by
 refine (callC_ok (S := sx Tryz.prog N H K L C Z pr) (E := evS q σ) (w0 := w) (T := fun X => Hy N (X ++ H) L C Z q σ) (z := fun d => q d=0) hm (fun X hX => knows hX) (fun X hX => hP _ hX) ask_true ?_ k [] Y f args [] 0 (kB b,p) hr (fun _ => none) w vs ⟨Below.refl _ _,(fun _ _ h => by cases h)⟩ hA (fun x hx => by cases hx) (fun x hx => by cases hx) (fun _ _ _ => rfl)).mono ?_
 ·intro X hX l s r h1 h2
  have e := hX.k0 s r h2
  have g := sqN_val hX h1
  refine ⟨fun h => g.1 (e.1 h),fun h => ?_⟩
  have hn : ¬ ∀ d ∈ l,q d=0 := fun q' => by
   rw [e.2 (g.2 q')] at h
   cases h
  simpa using hn
 ·rintro _ w' ⟨r,γ',rfl,hef,hv,_⟩
  exact ⟨hef.wi.bel,by rw [show r=.bool b from (asC_on (v := kB b) (c := .inl (.bool b)) rfl hv).1]⟩
theorem run_toldC {f : FuncId} {args : List AV} {vs : List Value} {k : Nat} {p : List HB × Nat} {b : Bool} (Y : Hy N H L C Z q σ) (hc : ∀ f ∈ cl,Closed f) (hm : (Tryz.prog).follows .mixedOrders=true) (hr : callC (sx Tryz.prog N H K L C Z (prC cl)) cs k [] f args [] 0=some (kB b,p)) {w : World} (hp : PreS w)
  (hA : A2 (avOn (cOn (evS q σ) K (fun _ => none) w)) args vs) : Calls Tryz.prog f vs.toArray w fun e w' => Below w.heap.size w w'∧e=.returned (.bool b) := run_cases Y hm (fun _ Y' => primOk Y' hp hc) hr hA
theorem run_toldC' {f : FuncId} {args : List AV} {vs : List Value} (k : Nat) (Y : Hy N H L C Z q σ) (hc : ∀ f ∈ cl,Closed f) (hm : (Tryz.prog).follows .mixedOrders=true) (hr : (callC (sx Tryz.prog N H K L C Z (prC cl)) cs k [] f args [] 0).map (·.1)=some (kB true)) {w : World} (hp : PreS w)
  (hA : A2 (avOn (cOn (evS q σ) K (fun _ => none) w)) args vs) : Calls Tryz.prog f vs.toArray w fun e w' => Below w.heap.size w w'∧e=.returned (.bool true) := by
 rw [Option.map_eq_some_iff] at hr
 obtain ⟨⟨v,p⟩,h1,h2⟩ := hr
 dsimp only at h2
 subst h2
 exact run_toldC Y hc hm h1 hp hA
theorem sq_first {u x : Rat} (h : u=x*x) : 0≤u∧(u=0 ↔ x=0) := by
 rw [h]
 exact ⟨sq_nn x,fun e => (Rat.mul_eq_zero.1 e).elim id id,fun e => by rw [e,Rat.zero_mul]⟩
theorem sq_next {p : Prop} {s x v t : Rat} (h : 0≤s∧(s=0 ↔ p)) (hv : v=x*x) (ht : t=s+v) : 0≤t∧(t=0 ↔ (p∧x=0)) := by
 have n := sq_nn x
 refine ⟨by have := h.1; grind,?_⟩
 rw [ht,hv,sq_sum h.1,h.2]
end
end Go.Proofs.YtkafcpodhflhpaaGreatDoor
/- VPD -/
namespace Cx
open Go Go.RowKit
def a1sB : List A1→List A1→Bool
 | [],[] => true
 | (a,x) :: l,(b,y) :: m => (a == b && acsW x y) && a1sB l m
 | _,_ => false
theorem a1sB_eq : ∀ {l m : List A1},a1sB l m=true→l=m
 | [],[],_ => rfl
 | (a,x) :: l,(b,y) :: m,h => by
  unfold a1sB at h
  simp only [Bool.and_eq_true,beq_iff_eq] at h
  obtain ⟨⟨h1,h2⟩,h3⟩ := h
  rw [h1,acsW_eq h2,a1sB_eq h3]
 | [],_ :: _,h => by cases h
 | _ :: _,[],h => by cases h
def avsB : List AV→List AV→Bool
 | [],[] => true
 | (a,x) :: l,(b,y) :: m => (a == b && a1sB x y) && avsB l m
 | _,_ => false
theorem avsB_eq : ∀ {l m : List AV},avsB l m=true→l=m
 | [],[],_ => rfl
 | (a,x) :: l,(b,y) :: m,h => by
  unfold avsB at h
  simp only [Bool.and_eq_true,beq_iff_eq] at h
  obtain ⟨⟨h1,h2⟩,h3⟩ := h
  rw [h1,a1sB_eq h2,avsB_eq h3]
 | [],_ :: _,h => by cases h
 | _ :: _,[],h => by cases h
abbrev Memo := List (FuncId × List AV × AV)
def memoGet (f : FuncId) (args : List AV) : Memo→Option AV
 | [] => none
 | (g,bs,v) :: m => bif Nat.beq f g && avsB args bs then some v else memoGet f args m
theorem memoGet_mem {f : FuncId} {args : List AV} {v : AV} : ∀ {m : Memo},memoGet f args m=some v→(f,args,v) ∈ m
 | [],h => by cases h
 | (g,bs,u) :: m,h => by
  unfold memoGet at h
  cases e : (Nat.beq f g && avsB args bs) with
  | true =>
   rw [e] at h
   rw [Bool.and_eq_true,Nat.beq_eq] at e
   rw [e.1,avsB_eq e.2,show u=v from Option.some.inj h]
   exact List.mem_cons_self
  | false =>
   rw [e] at h
   exact List.mem_cons_of_mem _ (memoGet_mem h)
def bareC : AC→Bool
 | .inl _ => true
 | .inr (k,_) => Nat.ble k 2
def bareV (v : AV) : Bool := v.2.all fun x => x.2.all bareC
def callD (S : Sx) (cs : List (FuncId × Nat)) (M : Memo) : Nat→Hs→CallF
 | 0,_,_,_,_,_ => none
 | n+1,X,f,args,h,nx => match memoGet f args M with
  | some v => some (v,h,nx)
  | none => match prGet f cs with
   | none => bodyC (S.plus X) (callD S cs M n X) f args h nx
   | some c => match askIt S X h c args with
    | none => bodyC (S.plus X) (callD S cs M n X) f args h nx
    | some (l,r) => bif Nat.beq 1 r then bodyC (S.plus (allZ l X)) (callD S cs M n (allZ l X)) f args h nx
     else joinC h nx ((splits l X).map fun X' => weakR (S.plus X') (bodyC (S.plus X') (callD S cs M n X') f args h nx))
def MemoOk (S : Sx) (E : Ev S.nb) (w0 : World) (M : Memo) : Prop := ∀ f args v,(f,args,v) ∈ M→∀ (γ : Nat→Option Nat) (w : World) (vs : List Value),WI w0 γ w→A2 (avOn (cOn E S.K γ w)) args vs →
 Calls S.P f vs.toArray w fun e w' => ∃ r,e=.returned r∧(∀ wr nx,(∀ b ∈ wr,Live γ b)→Ef S.nb w0 wr nx nx γ w γ w')∧avOn (cOn E S.K γ w') v r
section
variable {S : Sx} {E : Ev S.nb} {w0 : World}
theorem bareC_on {K K' : List (FuncId × List AC)} {γ γ' : Nat→Option Nat} {w : World} {d : Nat} {c : AC} {v : Value} (hc : bareC c=true) (h : cellOn E K γ w d c v) : cellOn E K' γ' w d c v := by
 cases c with
 | inl u =>
  unfold cellOn at h ⊢
  exact h
 | inr t =>
  obtain ⟨k,a,b,n,c⟩ := t
  have hk : k≤2 := by
   unfold bareC at hc
   rw [Nat.ble_eq] at hc
   exact hc
  match k,hk with
  | 0,_ =>
   unfold cellOn at h ⊢
   exact h
  | 1,_ =>
   unfold cellOn at h ⊢
   exact h
  | 2,_ =>
   unfold cellOn at h ⊢
   exact h
theorem A2_imp {α : Type} {R R' : α→Value→Prop} {P : α→Prop} (h : ∀ a v,P a→R a v→R' a v) : ∀ {l : List α} {vs : List Value},(∀ a ∈ l,P a)→A2 R l vs→A2 R' l vs
 | [],[],_,_ => trivial
 | _ :: _,_ :: _,hp,q => ⟨h _ _ (hp _ List.mem_cons_self) q.1,A2_imp h (fun a ha => hp a (List.mem_cons_of_mem _ ha)) q.2⟩
 | [],_ :: _,_,q => q.elim
 | _ :: _,[],_,q => q.elim
theorem bareV_on {K K' : List (FuncId × List AC)} {γ γ' : Nat→Option Nat} {w : World} {x : AV} {v : Value} (hx : bareV x=true) (h : avOn (cOn E K γ w) x v) : avOn (cOn E K' γ' w) x v := by
 unfold bareV at hx
 rw [List.all_eq_true] at hx
 have one : ∀ (y : A1) u,(∀ c ∈ y.2,bareC c=true)→a1On (cOn E K γ w) y u→a1On (cOn E K' γ' w) y u := fun y u hy q => by
  obtain ⟨b,cs⟩ := y
  cases b with
  | true =>
   obtain ⟨us,e,q⟩ := q
   exact ⟨us,e,A2_imp (P := fun c => bareC c=true) (fun _ _ hc q => bareC_on hc q) hy q⟩
  | false => exact A2_imp (P := fun c => bareC c=true) (fun _ _ hc q => bareC_on hc q) hy q
 have all : ∀ y ∈ x.2,∀ c ∈ y.2,bareC c=true := fun y hy c hc => (List.all_eq_true.1 (hx y hy)) c hc
 obtain ⟨b,ys⟩ := x
 cases b with
 | true =>
  obtain ⟨us,e,q⟩ := h
  exact ⟨us,e,A2_imp (P := fun y : A1 => ∀ c ∈ y.2,bareC c=true) (fun y u hy q => one y u hy q) all q⟩
 | false => exact A2_imp (P := fun y : A1 => ∀ c ∈ y.2,bareC c=true) (fun y u hy q => one y u hy q) all h
variable {T : Hs→Prop} {z : Nat→Prop}
theorem callD_ok {cs : List (FuncId × Nat)} {M : Memo} (hm : S.P.follows .mixedOrders=true) (hM : MemoOk S E w0 M) (hN : ∀ X,T X→Knows (S.plus X) E) (hP : ∀ X,T X→PrimOk (S.plus X) E w0) (hk : AskTrue S T z)
  (hs : ∀ X,T X→∀ l s r,sqN S l=some s→(S.plus X).kn 0 s 0=some r→(Nat.beq 1 r=true→∀ d ∈ l,z d)∧(Nat.beq 1 r=false→∃ d ∈ l,¬ z d)) : ∀ n X,T X→CallOk S E w0 (callD S cs M n X)
 | 0,_,_ => fun _ _ _ _ _ h => by cases h
 | n+1,X,hX => fun f args h nx p hp => by
  have body : ∀ Y,T Y→CallOk S E w0 (bodyC (S.plus Y) (callD S cs M n Y)) := fun Y hY => bodyC_ok (S := S.plus Y) hm (hN Y hY) (hP Y hY) (callD_ok hm hM hN hP hk hs n Y hY)
  unfold callD at hp
  split at hp
  ·rename_i v hv
   cases hp
   intro γ w vs hi hA hb hlt hf
   refine (hM f args v (memoGet_mem hv) γ w vs hi hA).mono ?_
   rintro _ w' ⟨r,rfl,hef,hr⟩
   have live : ∀ b ∈ h.map (·.1),Live γ b := fun b hb' => by
    obtain ⟨x,hx,rfl⟩ := List.mem_map.1 hb'
    obtain ⟨_,_,_,_,hl,_⟩ := hb x hx
    exact hl
   exact ⟨r,γ,rfl,hef _ _ live,hr,fun x hx => (hef [] nx no_live).box hi (hb x hx) (by simp)⟩
  ·split at hp
   ·exact body X hX f args h nx p hp
   ·split at hp
    ·exact body X hX f args h nx p hp
    rename_i l r hk'
    obtain ⟨hl,s,h1,h2⟩ := askIt_some hk'
    have h3 := hp
    obtain ⟨a1,a0⟩ := hs X hX _ s r h1 h2
    cases e : Nat.beq 1 r with
    | true =>
     rw [e] at h3
     exact body _ (allZ_true hk hX hl fun a ha => a1 e _ (List.mem_map_of_mem ha)) f args h nx p h3
    | false =>
     rw [e] at h3
     obtain ⟨d,hd,hz⟩ := a0 e
     obtain ⟨a,ha,rfl⟩ := List.mem_map.1 hd
     obtain ⟨X',m1,m2⟩ := splits_true hk hX hl ⟨a,ha,hz⟩
     replace h3 : joinC h nx ((splits l X).map fun X' => weakR (S.plus X') (bodyC (S.plus X') (callD S cs M n X') f args h nx))=some p := h3
     unfold joinC at h3
     split at h3
     ·rename_i p0 rs hrs
      rw [Option.bind_eq_some_iff] at h3
      obtain ⟨b,hb,h4⟩ := h3
      rw [ifO_some,List.all_eq_true] at h4
      obtain ⟨h5,h6⟩ := h4
      cases h6
      obtain ⟨h',nx',q1,q2,q3⟩ := agree_some (h5 _ (List.mem_map_of_mem m1))
      intro γ w vs hi hA hb hlt hf
      refine (weak_ok (hN X' m2) (body X' m2) f args h nx _ q1 γ w vs hi hA hb hlt fun b g1 g2 => hf b g1 (Nat.lt_of_lt_of_le g2 q2)).mono ?_
      rintro _ w' ⟨r',γ',rfl,hef,hv,hx⟩
      exact ⟨r',γ',rfl,hef.wide (Nat.le_refl _) q2,hv,fun x hh => hx x (q3 x hh)⟩
     ·cases h3
theorem memo_run {K1 K2 : List (FuncId × List AC)} {H1 H2 : Hs} {M : Memo} {f : FuncId} {args : List AV} {v : AV} {p : List HB × Nat} {call : CallF} (hC : CallOk { S with H := H1,K := K1 } E w0 call) (hr : call f args [] 0=some (v,p)) (ha : args.all bareV=true) (hv : bareV v=true) (hM : MemoOk { S with H := H2,K := K2 } E w0 M) : MemoOk { S with H := H2,K := K2 } E w0 ((f,args,v) :: M) := fun g bs u hmem => by
 rcases List.mem_cons.1 hmem with e | hmem
 ·cases e
  intro γ w vs hi hA
  rw [List.all_eq_true] at ha
  refine (hC f args [] 0 (v,p) hr (fun _ => none) w vs ⟨hi.bel,(fun _ _ h => by cases h)⟩ (A2_imp (P := fun x => bareV x=true) (fun _ _ hx q => bareV_on hx q) ha hA) (fun x hx => by cases hx) (fun x hx => by cases hx) (fun _ _ _ => rfl)).mono ?_
  rintro _ w' ⟨r,γ',rfl,hef,hr,_⟩
  refine ⟨r,rfl,fun wr nx hl => ⟨leG.refl _,fun _ _ => rfl,fun _ _ h => Or.inl h,⟨hef.wi.bel,fun b G q => ⟨(hi.lo b G q).1,Nat.lt_of_lt_of_le (hi.lo b G q).2 hef.gr.size⟩⟩,hef.gr,fun G hG _ => hef.keep G hG (fun b hb => by cases hb),hl⟩,bareV_on hv hr⟩
 ·exact hM g bs u hmem
def memoOne (S : Sx) (cs : List (FuncId × Nat)) (k : Nat) : Memo→Bool
 | (f,args,v) :: M => (match callD S cs M k [] f args [] 0 with
  | some (u,_) => avsB [u] [v]
  | none => false) && (args.all bareV && bareV v)
 | [] => false
def memoChk (S : Sx) (cs : List (FuncId × Nat)) (k : Nat) : Nat→Memo→Bool
 | 0,_ => true
 | n+1,M => memoOne S cs k M && memoChk S cs k n M.tail
def qA (l : List Nat) : AV := (false,[(true,l.flatMap qCells)])
def tA (l : List Nat) : AV := (false,[(true,l.map fun a => .inr (1,a,0,0,0))])
theorem memo_nil : MemoOk S E w0 [] := fun _ _ _ h => by cases h
end
end Cx
/- VPE -/
namespace Go.Proofs.YtkafcpodhflhpaaGreatDoor
open Cx Go Go.RowKit
section
variable {N : List Nd} {H : List (Nat × Nat × Nat × Nat)} {K : List (FuncId × List AC)} {L C : List (List Nat × Nat)} {Z : List Nat} {q : Nat→Rat} {σ : Nat→ByteArray} {cl : List FuncId} {cs pr : List (FuncId × Nat)} {M : Memo} {w : World}
theorem callD_told (Y : Hy N H L C Z q σ) (hc : ∀ f ∈ cl,Closed f) (hm : (Tryz.prog).follows .mixedOrders=true) (hp : PreS w) (hM : MemoOk (sx Tryz.prog N H K L C Z (prC cl)) (evS q σ) w M) (k : Nat) : CallOk (sx Tryz.prog N H K L C Z (prC cl)) (evS q σ) w (callD (sx Tryz.prog N H K L C Z (prC cl)) cs M k []) :=
 callD_ok (S := sx Tryz.prog N H K L C Z (prC cl)) (E := evS q σ) (w0 := w) (T := fun X => Hy N (X ++ H) L C Z q σ) (z := fun d => q d=0) hm hM (fun X hX => knows hX) (fun X hX => primOk hX hp hc) ask_true (fun X hX l s r h1 h2 => by
  have e := hX.k0 s r h2
  have g := sqN_val hX h1
  refine ⟨fun h => g.1 (e.1 h),fun h => ?_⟩
  have hn : ¬ ∀ d ∈ l,q d=0 := fun q' => by
   rw [e.2 (g.2 q')] at h
   cases h
  simpa using hn) k [] Y
def MemoAll (N : List Nd) (L C : List (List Nat × Nat)) (Z : List Nat) (q : Nat→Rat) (σ : Nat→ByteArray) (cl : List FuncId) (w : World) (M : Memo) : Prop := ∀ H K,MemoOk (sx Tryz.prog N H K L C Z (prC cl)) (evS q σ) w M
theorem memoAll_nil : MemoAll N L C Z q σ cl w [] := fun _ _ => memo_nil
theorem memoAll_cons {H1 : List (Nat × Nat × Nat × Nat)} (Y : Hy N H1 L C Z q σ) (hc : ∀ f ∈ cl,Closed f) (hm : (Tryz.prog).follows .mixedOrders=true) (hp : PreS w) {f : FuncId} {args : List AV} {v : AV} (k : Nat) (hr : memoOne (sx Tryz.prog N H1 [] L C Z (prC cl)) cs k ((f,args,v) :: M)=true) (hM : MemoAll N L C Z q σ cl w M) : MemoAll N L C Z q σ cl w ((f,args,v) :: M) := fun H K => by
 unfold memoOne at hr
 simp only [Bool.and_eq_true] at hr
 obtain ⟨h1,h2,h3⟩ := hr
 split at h1
 ·rename_i u p hu
  have e := avsB_eq h1
  cases e
  exact memo_run (S := sx Tryz.prog N H K L C Z (prC cl)) (K1 := []) (H1 := H1) (K2 := K) (H2 := H) (callD_told (K := []) (cs := cs) Y hc hm hp (hM H1 []) k) hu h2 h3 (hM H K)
 ·cases h1
theorem memoAll_drop {i : Nat} {H1 : List (Nat × Nat × Nat × Nat)} (Y : Hy N H1 L C Z q σ) (hc : ∀ f ∈ cl,Closed f) (hm : (Tryz.prog).follows .mixedOrders=true) (hp : PreS w) {k : Nat} (hr : memoOne (sx Tryz.prog N H1 [] L C Z (prC cl)) cs k (M.drop i)=true) (hM : MemoAll N L C Z q σ cl w (M.drop (i+1))) : MemoAll N L C Z q σ cl w (M.drop i) := by
 rw [← List.tail_drop] at hM
 generalize M.drop i=D at *
 match D with
 | [] => cases hr
 | (f,args,v) :: D => exact memoAll_cons Y hc hm hp k hr hM
theorem memoAll_chk {H1 : List (Nat × Nat × Nat × Nat)} (Y : Hy N H1 L C Z q σ) (hc : ∀ f ∈ cl,Closed f) (hm : (Tryz.prog).follows .mixedOrders=true) (hp : PreS w) {k : Nat} : ∀ (n : Nat) {M : Memo},memoChk (sx Tryz.prog N H1 [] L C Z (prC cl)) cs k n M=true→MemoAll N L C Z q σ cl w (M.drop n)→MemoAll N L C Z q σ cl w M
 | 0,_,_,h => h
 | n+1,M,hr,h => by
  unfold memoChk at hr
  rw [Bool.and_eq_true] at hr
  have h1 := memoAll_chk Y hc hm hp n hr.2 (by rw [List.drop_tail]; exact h)
  exact memoAll_drop (i := 0) Y hc hm hp hr.1 (by rw [Nat.zero_add,List.drop_one]; exact h1)
theorem run_toldD' {f : FuncId} {args : List AV} {vs : List Value} (k : Nat) (Y : Hy N H L C Z q σ) (hc : ∀ f ∈ cl,Closed f) (hm : (Tryz.prog).follows .mixedOrders=true) (hp : PreS w) (hM : MemoAll N L C Z q σ cl w M) (hr : (callD (sx Tryz.prog N H K L C Z (prC cl)) cs M k [] f args [] 0).map (·.1)=some (kB true))
  (hA : A2 (avOn (cOn (evS q σ) K (fun _ => none) w)) args vs) : Calls Tryz.prog f vs.toArray w fun e w' => Below w.heap.size w w'∧e=.returned (.bool true) := by
 rw [Option.map_eq_some_iff] at hr
 obtain ⟨⟨v,p⟩,h1,h2⟩ := hr
 dsimp only at h2
 subst h2
 refine (callD_told (cs := cs) Y hc hm hp (hM H K) k f args [] 0 (kB true,p) h1 (fun _ => none) w vs ⟨Below.refl _ _,(fun _ _ h => by cases h)⟩ hA (fun x hx => by cases hx) (fun x hx => by cases hx) (fun _ _ _ => rfl)).mono ?_
 rintro _ w' ⟨r,γ',rfl,hef,hv,_⟩
 exact ⟨hef.wi.bel,by rw [show r=.bool true from (asC_on (v := kB true) (c := .inl (.bool true)) rfl hv).1]⟩
end
end Go.Proofs.YtkafcpodhflhpaaGreatDoor
/- VY -/
namespace Go.Proofs.YtkafcpodhflhpaaGreatDoor
open Go.RowKit Cx
theorem den_num (t : Rat) : t*(t.den : Rat)=((t.num : Int) : Rat) := by
 conv => lhs; lhs; rw [← Rat.mkRat_self t]
 have h0 : (t.den : Rat) ≠ 0 := fun h => t.den_nz (by exact_mod_cast h)
 rw [Rat.mkRat_eq_div,Rat.div_mul_cancel h0]
theorem whole {q : Rat} (h : q.den=1) : q=((q.num : Int) : Rat) := by
 have := den_num q
 rw [h] at this
 rw [← this]
 show q=q*((1 : Nat) : Rat)
 exact (Rat.mul_one q).symm
end Go.Proofs.YtkafcpodhflhpaaGreatDoor
/- VSZ -/
namespace Go.Proofs.YtkafcpodhflhpaaGreatDoor
open Go.RowKit Cx
structure QW (z : Nat) (x : Rat) : Prop where
 qs : QS z x
 wh : x.den=1
theorem QW.of {z : Nat} {n : Int} (h : n.natAbs < 2 ^ z) (hz : 0 < z) : QW z ((n : Int) : Rat) :=
 ⟨⟨by simpa using h,by
  show ((n : Int) : Rat).den < 2 ^ z
  rw [Rat.den_intCast]
  exact Nat.one_lt_two_pow (by omega)⟩,Rat.den_intCast n⟩
theorem QW.mono {k l : Nat} {x : Rat} (h : QW k x) (hk : k≤l) : QW l x := ⟨h.qs.mono hk,h.wh⟩
theorem two_max {a b x y : Nat} (h1 : a < 2 ^ x) (h2 : b < 2 ^ y) : a+b < 2 ^ (Nat.max x y+1) := by
 have e1 : 2 ^ x≤2 ^ Nat.max x y := Nat.pow_le_pow_right (by decide) (Nat.le_max_left x y)
 have e2 : 2 ^ y≤2 ^ Nat.max x y := Nat.pow_le_pow_right (by decide) (Nat.le_max_right x y)
 rw [Nat.pow_succ]
 omega
theorem QW.add {x y : Nat} {a b : Rat} (h1 : QW x a) (h2 : QW y b) : QW (Nat.max x y+1) (a+b) := by
 rw [whole h1.wh,whole h2.wh,← Rat.intCast_add]
 refine QW.of ?_ (by omega)
 have := two_max h1.qs.num h2.qs.num
 omega
theorem QW.sub {x y : Nat} {a b : Rat} (h1 : QW x a) (h2 : QW y b) : QW (Nat.max x y+1) (a - b) := by
 rw [whole h1.wh,whole h2.wh,← Rat.intCast_sub]
 refine QW.of ?_ (by omega)
 have := two_max h1.qs.num h2.qs.num
 omega
theorem QW.mul {x y : Nat} {a b : Rat} (h1 : QW x a) (h2 : QW y b) : QW (x+y) (a*b) := by
 refine ⟨h1.qs.mul h2.qs,?_⟩
 rw [whole h1.wh,whole h2.wh,← Rat.intCast_mul]
 exact Rat.den_intCast _
theorem QW.neg {x : Nat} {a : Rat} (h1 : QW x a) : QW x (-a) := ⟨h1.qs.neg,h1.wh⟩
theorem ten_three : ∀ n : Nat,10 ^ n≤2 ^ ((10*n+2) / 3)
 | 0 => by decide
 | 1 => by decide
 | 2 => by decide
 | n+3 => by
  have h := ten_three n
  have e : (10*(n+3)+2) / 3=(10*n+2) / 3+10 := by omega
  rw [e,Nat.pow_add,Nat.pow_add]
  exact Nat.mul_le_mul h (by decide)
theorem QS.rd3 (l : List UInt8) : QS ((10*l.length+2) / 3+5) (Cx.rd l) := by
 have key : ∀ {m : List UInt8},digs m=true→dv m < 2 ^ ((10*m.length+2) / 3) := fun {m} h => Nat.lt_of_lt_of_le (dv_lt (digs_all h)) (ten_three _)
 unfold Cx.rd
 split
 ·rename_i h
  rw [Bool.and_eq_true] at h
  have h1 := key h.1
  have h2 := key h.2
  have h3 := up_len (tailOf l)
  have h4 := low_len (tailOf l)
  have h5 := tail_len l
  apply QS.mkr
  ·rw [sg_abs]; exact Nat.lt_of_lt_of_le h1 (Nat.pow_le_pow_right (by decide) (by omega))
  ·exact Nat.lt_of_lt_of_le h2 (Nat.pow_le_pow_right (by decide) (by omega))
 ·exact QS.zero.mono (by omega)
section
variable {N : List Nd} {Z : List Nat} {I : List Bool} {q : Nat→Rat}
end
end Go.Proofs.YtkafcpodhflhpaaGreatDoor
/- VSA -/
namespace Go.Proofs.YtkafcpodhflhpaaGreatDoor
open Go.RowKit Cx
def inB : Nat := 3495259
abbrev Atm := Nat × Nat
def remA (x : Atm) : List Atm→Option (List Atm)
 | [] => none
 | y :: l => bif Nat.beq x.1 y.1 && Nat.beq x.2 y.2 then some l else (remA x l).map (y :: ·)
def subA : List Atm→List Atm→Option (List Atm)
 | l,[] => some l
 | l,x :: r => (remA x l).bind fun l' => subA l' r
def leftA : List Atm→List Atm→List Atm
 | _,[] => []
 | U,x :: D => match remA x U with
  | some U' => leftA U' D
  | none => x :: leftA U D
def uniA (E : List (Nat × List Atm)) : List Nat→List Atm→List Atm
 | [],U => U
 | a :: l,U => uniA E l (match E[a]? with
  | some p => U ++ leftA U p.2
  | none => U)
def bitA (E : List (Nat × List Atm)) (x : Atm) : Nat := match x.1 with
 | 0 => inB
 | 1 => (match E[x.2]? with
  | some p => p.1
  | none => 1)
 | _ => Nat.log2 x.2+1
def bitL (E : List (Nat × List Atm)) : List Atm→Nat
 | [] => 1
 | x :: l => bitA E x+bitL E l
def noneA (l : Option (List Atm)) : Bool := match l with
 | some [] => true
 | _ => false
def saN (E : List (Nat × List Atm)) (k z : Nat) (D : List Atm) (nd : Nd) : Bool := (Nat.blt 0 z && D.all fun x => !Nat.beq x.1 1 || Nat.blt x.2 k) && match nd.1,nd.2 with
 | 0,[_,n,d] => (Nat.blt n (2 ^ z) && Nat.blt 0 d) && noneA (subA D (bif Nat.beq d 1 then [] else [(2,d)]))
 | 1,[j] => Nat.ble inB z && noneA (subA D [(0,j)])
 | 2,[a,b] => (match E[a]?,E[b]? with
  | some p,some r => (match subA D p.2,subA D r.2 with
   | some c,some e => Nat.ble (Nat.max (p.1+bitL E c) (r.1+bitL E e)+1) z
   | _,_ => false)
  | _,_ => false)
 | 3,[a,b] => (match E[a]?,E[b]? with
  | some p,some r => (match subA D p.2,subA D r.2 with
   | some c,some e => Nat.ble (Nat.max (p.1+bitL E c) (r.1+bitL E e)+1) z
   | _,_ => false)
  | _,_ => false)
 | 4,[a,b] => (match E[a]?,E[b]? with
  | some p,some r => (match subA D p.2 with
   | some c => noneA (subA c r.2) && Nat.ble (p.1+r.1) z
   | _ => false)
  | _,_ => false)
 | 5,[a] => (match E[a]? with
  | some p => noneA (subA D p.2) && Nat.ble p.1 z
  | _ => false)
 | 6,[a,b] => (match E[a]?,E[b]?,remA (1,b) D with
  | some p,some r,some D' => (match subA p.2 D' with
   | some c => (match subA r.2 c with
    | some e => Nat.ble (p.1+bitL E e) z
    | none => false)
   | none => false)
  | _,_,_ => false)
 | 7,_ => Nat.beq D.length 0
 | 8,i :: xs => Nat.beq D.length 0 && (xs.all (fun a => match E[a]? with
   | some p => (subA (uniA E xs []) p.2).isSome
   | none => false) && (match xs[i]? with
   | some a => (match E[a]? with
    | some p => (match subA (uniA E xs []) p.2 with
     | some e => Nat.ble (p.1+bitL E e) z
     | none => false)
    | none => false)
   | none => false))
 | _,_ => false
def saB (E : List (Nat × List Atm)) : Nat→List Nd→List (Nat × List Atm)→List Nat→Bool
 | _,[],[],[] => true
 | k,nd :: ns,p :: ps,z :: zs => (saN E k p.1 p.2 nd && (Nat.ble p.1 z && (Nat.ble (bitL E p.2) z && Nat.ble z 1000000000000))) && saB E (k+1) ns ps zs
 | _,_,_,_ => false
theorem saB_get {E : List (Nat × List Atm)} : ∀ {ns : List Nd} {ps : List (Nat × List Atm)} {zs : List Nat} {k i : Nat} {nd : Nd},saB E k ns ps zs=true→ns[i]? = some nd→∃ p z,ps[i]? = some p∧zs[i]? = some z∧saN E (k+i) p.1 p.2 nd=true∧p.1≤z∧bitL E p.2≤z∧z≤1000000000000
 | [],_,_,_,_,_,_,h => by simp at h
 | _ :: _,[],_,_,_,_,h,_ => by cases h
 | _ :: _,_ :: _,[],_,_,_,h,_ => by cases h
 | nd' :: ns,p :: ps,z :: zs,k,0,nd,h,e => by
  have : nd'=nd := by simpa using e
  subst this
  unfold saB at h
  simp only [Bool.and_eq_true,Nat.ble_eq] at h
  exact ⟨p,z,rfl,rfl,h.1.1,h.1.2.1,h.1.2.2.1,h.1.2.2.2⟩
 | nd' :: ns,p :: ps,z :: zs,k,i+1,nd,h,e => by
  unfold saB at h
  rw [Bool.and_eq_true] at h
  obtain ⟨p',z',g1,g2,g3,g4⟩ := saB_get (k := k+1) (i := i) h.2 (by simpa using e)
  exact ⟨p',z',by simpa using g1,by simpa using g2,by rw [show k+(i+1)=k+1+i by omega]; exact g3,g4⟩
theorem saB_len {E : List (Nat × List Atm)} : ∀ {ns : List Nd} {ps : List (Nat × List Atm)} {zs : List Nat} {k : Nat},saB E k ns ps zs=true→ns.length=ps.length∧ns.length=zs.length
 | [],[],[],_,_ => ⟨rfl,rfl⟩
 | [],[],_ :: _,_,h => by cases h
 | [],_ :: _,_,_,h => by cases h
 | _ :: _,[],_,_,h => by cases h
 | _ :: _,_ :: _,[],_,h => by cases h
 | _ :: _,_ :: _,_ :: _,k,h => by
  unfold saB at h
  rw [Bool.and_eq_true] at h
  have := saB_len h.2
  exact ⟨congrArg (· + 1) this.1,congrArg (· + 1) this.2⟩
def valA (dn : Nat→Nat) (M : Nat→Rat) (x : Atm) : Rat := match x.1 with
 | 0 => ((dn x.2 : Nat) : Rat)
 | 1 => if M x.2=0 then 1 else M x.2
 | _ => if x.2=0 then 1 else ((x.2 : Nat) : Rat)
def proA (dn : Nat→Nat) (M : Nat→Rat) : List Atm→Rat
 | [] => 1
 | x :: l => valA dn M x*proA dn M l
theorem remA_pro {dn : Nat→Nat} {M : Nat→Rat} {x : Atm} : ∀ {l c : List Atm},remA x l=some c→proA dn M l=valA dn M x*proA dn M c
 | [],_,h => by cases h
 | y :: l,c,h => by
  unfold remA at h
  cases e : (Nat.beq x.1 y.1 && Nat.beq x.2 y.2) with
  | true =>
   rw [e] at h
   cases h
   rw [Bool.and_eq_true,Nat.beq_eq,Nat.beq_eq] at e
   have : x=y := Prod.ext e.1 e.2
   rw [this]
   rfl
  | false =>
   rw [e] at h
   simp only [cond_false,Option.map_eq_some_iff] at h
   obtain ⟨c',h1,rfl⟩ := h
   show valA dn M y*proA dn M l=valA dn M x*(valA dn M y*proA dn M c')
   rw [remA_pro h1]
   grind
theorem subA_pro {dn : Nat→Nat} {M : Nat→Rat} : ∀ {r l c : List Atm},subA l r=some c→proA dn M l=proA dn M r*proA dn M c
 | [],l,c,h => by
  have : l=c := by simpa [subA] using h
  rw [this]
  exact (Rat.one_mul _).symm
 | x :: r,l,c,h => by
  unfold subA at h
  rw [Option.bind_eq_some_iff] at h
  obtain ⟨l',h1,h2⟩ := h
  rw [remA_pro h1,subA_pro h2]
  exact (Rat.mul_assoc _ _ _).symm
theorem noneA_some {l : Option (List Atm)} (h : noneA l=true) : l=some [] := by
 unfold noneA at h
 split at h
 ·rfl
 ·cases h
theorem QW.one {z : Nat} (h : 0 < z) : QW z 1 := ⟨⟨by
  show (1 : Int).natAbs < 2 ^ z
  exact Nat.one_lt_two_pow (by omega),by
  show 1 < 2 ^ z
  exact Nat.one_lt_two_pow (by omega)⟩,rfl⟩
theorem QW.zero {z : Nat} (h : 0 < z) : QW z 0 := ⟨⟨by
  show (0 : Int).natAbs < 2 ^ z
  exact Nat.two_pow_pos z,by
  show 1 < 2 ^ z
  exact Nat.one_lt_two_pow (by omega)⟩,rfl⟩
theorem QW.nat {z n : Nat} (h : n < 2 ^ z) (hz : 0 < z) : QW z ((n : Nat) : Rat) := by
 have : ((n : Nat) : Rat)=(((n : Nat) : Int) : Rat) := (Rat.intCast_natCast n).symm
 rw [this]
 exact QW.of (by simpa using h) hz
section
variable {E : List (Nat × List Atm)} {dn : Nat→Nat} {M : Nat→Rat} {k : Nat}
def BelA (E : List (Nat × List Atm)) (dn : Nat→Nat) (M : Nat→Rat) (q : Nat→Rat) (k : Nat) : Prop := ∀ a,a < k→∃ p,E[a]? = some p∧QW p.1 (M a)∧0 < p.1∧(∀ x ∈ p.2,x.1=1→x.2 < a)∧q a*proA dn M p.2=M a
theorem valA_ok {q : Nat→Rat} (hdn : ∀ j,0 < dn j∧dn j < 2 ^ inB) (hM : BelA E dn M q k) {x : Atm} (hx : x.1=1→x.2 < k) : QW (bitA E x) (valA dn M x)∧valA dn M x ≠ 0 := by
 obtain ⟨i,j⟩ := x
 match i with
 | 0 =>
  show QW inB ((dn j : Nat) : Rat)∧((dn j : Nat) : Rat) ≠ 0
  refine ⟨QW.nat (hdn j).2 (by unfold inB; omega),fun h => ?_⟩
  have := (hdn j).1
  have h2 : dn j=0 := by exact_mod_cast h
  omega
 | 1 =>
  obtain ⟨p,h1,h2,h3,_⟩ := hM j (hx rfl)
  show QW (match E[j]? with
   | some p => p.1
   | none => 1) (if M j=0 then 1 else M j)∧(if M j=0 then 1 else M j) ≠ 0
  rw [h1]
  by_cases h : M j=0
  ·rw [if_pos h]
   exact ⟨QW.one h3,by decide⟩
  ·rw [if_neg h]
   exact ⟨h2,h⟩
 | i+2 =>
  show QW (Nat.log2 j+1) (if j=0 then 1 else ((j : Nat) : Rat))∧(if j=0 then 1 else ((j : Nat) : Rat)) ≠ 0
  by_cases h : j=0
  ·rw [if_pos h]
   exact ⟨QW.one (by omega),by decide⟩
  ·rw [if_neg h]
   refine ⟨QW.nat Nat.lt_log2_self (by omega),fun h2 => h ?_⟩
   exact_mod_cast h2
theorem proA_ok {q : Nat→Rat} (hdn : ∀ j,0 < dn j∧dn j < 2 ^ inB) (hM : BelA E dn M q k) : ∀ {l : List Atm},(∀ x ∈ l,x.1=1→x.2 < k)→QW (bitL E l) (proA dn M l)∧proA dn M l ≠ 0
 | [],_ => ⟨QW.one (show 0 < 1 by decide),by show (1 : Rat) ≠ 0; decide⟩
 | x :: l,h => by
  have h1 := valA_ok hdn hM (h x List.mem_cons_self)
  have h2 := proA_ok hdn hM (l := l) fun y hy => h y (List.mem_cons_of_mem _ hy)
  exact ⟨h1.1.mul h2.1,mul_ne h1.2 h2.2⟩
theorem proA_congr {M' : Nat→Rat} : ∀ {l : List Atm},(∀ x ∈ l,x.1=1→M x.2=M' x.2)→proA dn M l=proA dn M' l
 | [],_ => rfl
 | x :: l,h => by
  show valA dn M x*proA dn M l=valA dn M' x*proA dn M' l
  rw [proA_congr (l := l) fun y hy => h y (List.mem_cons_of_mem _ hy)]
  have e : valA dn M x=valA dn M' x := by
   obtain ⟨i,j⟩ := x
   match i with
   | 0 => rfl
   | 1 =>
    have := h (1,j) List.mem_cons_self rfl
    show (if M j=0 then 1 else M j)=(if M' j=0 then 1 else M' j)
    rw [this]
   | i+2 => rfl
  rw [e]
theorem remA_mem {x y : Atm} : ∀ {l c : List Atm},remA x l=some c→y ∈ c→y ∈ l
 | [],_,h,_ => by cases h
 | z :: l,c,h,hy => by
  unfold remA at h
  cases e : (Nat.beq x.1 z.1 && Nat.beq x.2 z.2) with
  | true => rw [e] at h; cases h; exact List.mem_cons_of_mem _ hy
  | false =>
   rw [e] at h
   simp only [cond_false,Option.map_eq_some_iff] at h
   obtain ⟨c',h1,rfl⟩ := h
   rcases List.mem_cons.1 hy with rfl | hy
   ·exact List.mem_cons_self
   ·exact List.mem_cons_of_mem _ (remA_mem h1 hy)
theorem subA_mem {y : Atm} : ∀ {r l c : List Atm},subA l r=some c→y ∈ c→y ∈ l
 | [],l,c,h,hy => by
  have : l=c := by simpa [subA] using h
  rw [this]; exact hy
 | x :: r,l,c,h,hy => by
  unfold subA at h
  rw [Option.bind_eq_some_iff] at h
  obtain ⟨l',h1,h2⟩ := h
  exact remA_mem h1 (subA_mem h2 hy)
theorem nat_ne {n : Nat} (h : n ≠ 0) : ((n : Nat) : Rat) ≠ 0 := fun e => h (by exact_mod_cast e)
theorem mul_low (x : Rat) : x*((x.den : Nat) : Rat)=((x.num : Int) : Rat) := by
 have e : x=((x.num : Int) : Rat) / ((x.den : Nat) : Rat) := by
  have := Rat.mkRat_self x
  rw [Rat.mkRat_eq_div] at this
  exact this.symm
 conv => lhs; lhs; rw [e]
 exact Rat.div_mul_cancel (nat_ne x.den_nz)
theorem lD_dvd_of {qs : List Rat} {m M : Nat} (hm : m ∣ M) (h : ∀ q ∈ qs,q.den ∣ M) : qs.foldl (fun m q => m*(q.den / Nat.gcd m q.den)) m ∣ M := by
 induction qs generalizing m with
 | nil => exact hm
 | cons q qs ih =>
  rw [List.foldl_cons]
  refine ih ?_ fun p hp => h p (List.mem_cons_of_mem _ hp)
  have e : m*(q.den / Nat.gcd m q.den)=Nat.lcm m q.den := by
   unfold Nat.lcm
   exact (Nat.mul_div_assoc _ (Nat.gcd_dvd_right _ _)).symm
  rw [e]
  exact Nat.lcm_dvd hm (h q List.mem_cons_self)
theorem den_dvd {x : Rat} {m : Int} (h : (x*((m : Int) : Rat)).den=1) : x.den ∣ m.natAbs := by
 have e := whole h
 generalize (x*((m : Int) : Rat)).num=n at e
 have h1 : x*((x.den : Nat) : Rat)=((x.num : Int) : Rat) := mul_low x
 have h2 : ((x.num : Int) : Rat)*((m : Int) : Rat)=((n : Int) : Rat)*(((x.den : Nat) : Int) : Rat) := by
  rw [← h1,← e,Rat.intCast_natCast]
  grind
 have h3 : x.num*m=n*(x.den : Int) := by exact_mod_cast h2
 have h4 : (x.den : Int) ∣ x.num*m := ⟨n,by rw [h3,Int.mul_comm]⟩
 have h5 : x.den ∣ x.num.natAbs*m.natAbs := by
  have := Int.natAbs_dvd_natAbs.2 h4
  rwa [Int.natAbs_mul,Int.natAbs_natCast] at this
 exact (Nat.Coprime.symm x.reduced).dvd_of_dvd_mul_left h5
theorem fac_whole {qs : List Rat} {x : Rat} {z : Nat} {m : Int} (hx : x ∈ qs) (hm : m ≠ 0) (hall : ∀ y ∈ qs,(y*((m : Int) : Rat)).den=1) (hz : QW z (x*((m : Int) : Rat))) : QW z (x*fac qs) := by
 have hl : lD qs ∣ m.natAbs := lD_dvd_of (Nat.one_dvd _) fun y hy => den_dvd (hall y hy)
 have hd := fac_den hx
 have hpos : 0 < m.natAbs := Int.natAbs_pos.2 hm
 have hle : lD qs≤m.natAbs := Nat.le_of_dvd hpos hl
 have hn : (x*fac qs).num.natAbs≤(x*((m : Int) : Rat)).num.natAbs := by
  rw [fac_abs hx]
  have e := whole hz.wh
  generalize (x*((m : Int) : Rat)).num=n at e
  have h1 : x*((x.den : Nat) : Rat)=((x.num : Int) : Rat) := mul_low x
  have h2 : ((x.num : Int) : Rat)*((m : Int) : Rat)=((n : Int) : Rat)*(((x.den : Nat) : Int) : Rat) := by
   rw [← h1,← e,Rat.intCast_natCast]
   grind
  have h3 : x.num*m=n*(x.den : Int) := by exact_mod_cast h2
  have h4 : x.num.natAbs*m.natAbs=n.natAbs*x.den := by
   have := congrArg Int.natAbs h3
   rwa [Int.natAbs_mul,Int.natAbs_mul,Int.natAbs_natCast] at this
  obtain ⟨c,hc⟩ := den_dvd (x := x) (m := m) (hall x hx)
  have h5 : n.natAbs=x.num.natAbs*c := by
   rw [hc] at h4
   refine Nat.eq_of_mul_eq_mul_right x.den_pos ?_
   rw [← h4]
   rw [Nat.mul_assoc,Nat.mul_comm c]
  show x.num.natAbs / gN qs*(lD qs / x.den)≤n.natAbs
  rw [h5]
  refine Nat.mul_le_mul (Nat.div_le_self _ _) ?_
  have : lD qs / x.den≤m.natAbs / x.den := Nat.div_le_div_right hle
  rw [hc,Nat.mul_div_cancel_left _ x.den_pos] at this
  exact this
 refine ⟨⟨Nat.lt_of_le_of_lt hn hz.qs.num,?_⟩,hd⟩
 rw [hd]
 have := hz.qs.den
 rw [hz.wh] at this
 exact this
theorem leftA_mem {y : Atm} : ∀ {D U : List Atm},y ∈ leftA U D→y ∈ D
 | [],_,h => by cases h
 | x :: D,U,h => by
  unfold leftA at h
  split at h
  ·exact List.mem_cons_of_mem _ (leftA_mem h)
  ·rcases List.mem_cons.1 h with rfl | h
   ·exact List.mem_cons_self
   ·exact List.mem_cons_of_mem _ (leftA_mem h)
theorem uniA_low {q : Nat→Rat} (hM : BelA E dn M q k) : ∀ {l : List Nat} {U : List Atm},(∀ c ∈ l,c < k)→(∀ x ∈ U,x.1=1→x.2 < k)→∀ x ∈ uniA E l U,x.1=1→x.2 < k
 | [],_,_,hU => hU
 | a :: l,U,hl,hU => by
  unfold uniA
  refine uniA_low hM (fun c hc => hl c (List.mem_cons_of_mem _ hc)) ?_
  have ha := hl a List.mem_cons_self
  obtain ⟨p,h1,_,_,h4,_⟩ := hM a ha
  rw [h1]
  intro x hx h
  rcases List.mem_append.1 hx with hx | hx
  ·exact hU x hx h
  ·exact Nat.lt_trans (h4 x (leftA_mem hx) h) ha
theorem node_ok {q : Nat→Rat} {σ : Nat→ByteArray} (hσ : ∀ j,(σ j).size≤1048576) (hdn : ∀ j,dn j=(Cx.rd (σ j).data.toList).den) (hM : BelA E dn M q k) {z : Nat} {D : List Atm} {nd : Nd} (hwf : wfN k nd=true) (hs : saN E k z D nd=true) : QW z (valN σ q nd*proA dn M D)∧0 < z∧∀ x ∈ D,x.1=1→x.2 < k := by
 have hdn' : ∀ j,0 < dn j∧dn j < 2 ^ inB := fun j => by
  rw [hdn j]
  refine ⟨Rat.den_pos _,Nat.lt_of_lt_of_le (QS.rd3 _).den (Nat.pow_le_pow_right (by decide) ?_)⟩
  have := hσ j
  rw [str_len]
  unfold inB
  omega
 obtain ⟨op,xs⟩ := nd
 unfold saN at hs
 rw [Bool.and_eq_true,Bool.and_eq_true] at hs
 obtain ⟨⟨hz0,hD⟩,hs⟩ := hs
 have hz : 0 < z := by simpa [Nat.blt_eq] using hz0
 have hD' : ∀ x ∈ D,x.1=1→x.2 < k := fun x hx h1 => by
  rw [List.all_eq_true] at hD
  have := hD x hx
  rw [h1] at this
  simpa [Nat.blt_eq] using this
 refine ⟨?_,hz,hD'⟩
 have hlow : ∀ {a : Nat} {p : Nat × List Atm},a < k→E[a]? = some p→QW p.1 (M a)∧(∀ x ∈ p.2,x.1=1→x.2 < k)∧q a*proA dn M p.2=M a := fun {a p} ha hp => by
  obtain ⟨p',h1,h2,_,h4,h5⟩ := hM a ha
  rw [hp] at h1
  cases h1
  exact ⟨h2,fun x hx h => Nat.lt_trans (h4 x hx h) ha,h5⟩
 have hpr : ∀ {l : List Atm},(∀ x ∈ l,x.1=1→x.2 < k)→QW (bitL E l) (proA dn M l)∧proA dn M l ≠ 0 := fun h => proA_ok hdn' hM h
 unfold wfN at hwf
 unfold valN
 dsimp only at hs hwf ⊢
 split at hs
 ·rename_i s n d
  simp only [Bool.and_eq_true] at hs
  obtain ⟨⟨h1,h2⟩,h3⟩ := hs
  have h1' : n < 2 ^ z := by simpa [Nat.blt_eq] using h1
  have h2' : d ≠ 0 := by
   have : 0 < d := by simpa [Nat.blt_eq] using h2
   omega
  have hp : proA dn M D=((d : Nat) : Rat) := by
   have := subA_pro (dn := dn) (M := M) (noneA_some h3)
   rw [this]
   cases e : Nat.beq d 1 with
   | true =>
    rw [Nat.beq_eq] at e
    rw [e]
    show (1 : Rat)*1=((1 : Nat) : Rat)
    rw [Rat.mul_one]
    exact_mod_cast rfl
   | false =>
    show (if d=0 then (1 : Rat) else ((d : Nat) : Rat))*1*1=_
    rw [if_neg h2',Rat.mul_one,Rat.mul_one]
  show QW z ((if s=0 then mkRat (n : Int) d else mkRat (-(n : Int)) d)*proA dn M D)
  rw [hp]
  have key : ∀ m : Int,m.natAbs < 2 ^ z→QW z (mkRat m d*((d : Nat) : Rat)) := fun m hm => by
   rw [Rat.mkRat_eq_div,Rat.div_mul_cancel (nat_ne h2')]
   exact QW.of hm hz
  by_cases hs0 : s=0
  ·rw [if_pos hs0]
   exact key _ (by simpa using h1')
  ·rw [if_neg hs0]
   exact key _ (by simpa using h1')
 ·rename_i j
  simp only [Bool.and_eq_true,Nat.ble_eq] at hs
  have hp : proA dn M D=(((Cx.rd (σ j).data.toList).den : Nat) : Rat) := by
   rw [subA_pro (dn := dn) (M := M) (noneA_some hs.2)]
   show ((dn j : Nat) : Rat)*1*1=_
   rw [Rat.mul_one,Rat.mul_one,hdn j]
  show QW z (Cx.rd (σ j).data.toList*proA dn M D)
  rw [hp,mul_low]
  refine QW.of (Nat.lt_of_lt_of_le (QS.rd3 _).num (Nat.pow_le_pow_right (by decide) ?_)) hz
  have := hσ j
  have := hs.1
  unfold inB at this
  rw [str_len]
  omega
 ·simp only [List.all_cons,List.all_nil,Bool.and_true,Bool.and_eq_true] at hwf
  rename_i a b
  have l1 : a < k := by simpa [Nat.blt_eq] using hwf.1
  have l2 : b < k := by simpa [Nat.blt_eq] using hwf.2
  split at hs
  ·rename_i p r hp hr
   split at hs
   ·rename_i c e hc he
    rw [Nat.ble_eq] at hs
    obtain ⟨a1,a2,a3⟩ := hlow l1 hp
    obtain ⟨b1,b2,b3⟩ := hlow l2 hr
    have hc' := hpr (l := c) fun x hx => hD' x (subA_mem hc hx)
    have he' := hpr (l := e) fun x hx => hD' x (subA_mem he hx)
    have e1 : (q a+q b)*proA dn M D=M a*proA dn M c+M b*proA dn M e := by
     rw [Rat.add_mul]
     congr 1
     ·rw [subA_pro hc,← Rat.mul_assoc,a3]
     ·rw [subA_pro he,← Rat.mul_assoc,b3]
    show QW z ((q a+q b)*proA dn M D)
    rw [e1]
    exact ((a1.mul hc'.1).add (b1.mul he'.1)).mono hs
   ·cases hs
  ·cases hs
 ·simp only [List.all_cons,List.all_nil,Bool.and_true,Bool.and_eq_true] at hwf
  rename_i a b
  have l1 : a < k := by simpa [Nat.blt_eq] using hwf.1
  have l2 : b < k := by simpa [Nat.blt_eq] using hwf.2
  split at hs
  ·rename_i p r hp hr
   split at hs
   ·rename_i c e hc he
    rw [Nat.ble_eq] at hs
    obtain ⟨a1,a2,a3⟩ := hlow l1 hp
    obtain ⟨b1,b2,b3⟩ := hlow l2 hr
    have hc' := hpr (l := c) fun x hx => hD' x (subA_mem hc hx)
    have he' := hpr (l := e) fun x hx => hD' x (subA_mem he hx)
    have e1 : (q a - q b)*proA dn M D=M a*proA dn M c - M b*proA dn M e := by
     rw [show (q a - q b)*proA dn M D=q a*proA dn M D - q b*proA dn M D by grind]
     congr 1
     ·rw [subA_pro hc,← Rat.mul_assoc,a3]
     ·rw [subA_pro he,← Rat.mul_assoc,b3]
    show QW z ((q a - q b)*proA dn M D)
    rw [e1]
    exact ((a1.mul hc'.1).sub (b1.mul he'.1)).mono hs
   ·cases hs
  ·cases hs
 ·simp only [List.all_cons,List.all_nil,Bool.and_true,Bool.and_eq_true] at hwf
  rename_i a b
  have l1 : a < k := by simpa [Nat.blt_eq] using hwf.1
  have l2 : b < k := by simpa [Nat.blt_eq] using hwf.2
  split at hs
  ·rename_i p r hp hr
   split at hs
   ·rename_i c hc
    rw [Bool.and_eq_true,Nat.ble_eq] at hs
    obtain ⟨a1,a2,a3⟩ := hlow l1 hp
    obtain ⟨b1,b2,b3⟩ := hlow l2 hr
    have e1 : q a*q b*proA dn M D=M a*M b := by
     rw [subA_pro hc,subA_pro (noneA_some hs.1),← a3,← b3]
     show q a*q b*(proA dn M p.2*(proA dn M r.2*1))=_
     grind
    show QW z (q a*q b*proA dn M D)
    rw [e1]
    exact (a1.mul b1).mono hs.2
   ·cases hs
  ·cases hs
 ·simp only [List.all_cons,List.all_nil,Bool.and_true] at hwf
  rename_i a
  have l1 : a < k := by simpa [Nat.blt_eq] using hwf
  split at hs
  ·rename_i p hp
   rw [Bool.and_eq_true,Nat.ble_eq] at hs
   obtain ⟨a1,a2,a3⟩ := hlow l1 hp
   have e1 : -q a*proA dn M D=-M a := by
    rw [subA_pro (noneA_some hs.1),← a3]
    show -q a*(proA dn M p.2*1)=_
    grind
   show QW z (-q a*proA dn M D)
   rw [e1]
   exact a1.neg.mono hs.2
  ·cases hs
 ·simp only [List.all_cons,List.all_nil,Bool.and_true,Bool.and_eq_true] at hwf
  rename_i a b
  have l1 : a < k := by simpa [Nat.blt_eq] using hwf.1
  have l2 : b < k := by simpa [Nat.blt_eq] using hwf.2
  split at hs
  ·rename_i p r D' hp hr hD1
   split at hs
   ·rename_i c hc
    split at hs
    ·rename_i e he
     rw [Nat.ble_eq] at hs
     obtain ⟨a1,a2,a3⟩ := hlow l1 hp
     obtain ⟨b1,b2,b3⟩ := hlow l2 hr
     have he' := hpr (l := e) fun x hx => b2 x (subA_mem he hx)
     by_cases h0 : M b=0
     ·have hb : q b=0 := by
       rw [h0] at b3
       exact (Rat.mul_eq_zero.1 b3).resolve_right (hpr b2).2
      show QW z (q a / q b*proA dn M D)
      rw [hb,Rat.div_def,Rat.inv_zero,Rat.mul_zero,Rat.zero_mul]
      exact QW.zero hz
     ·have hb : q b ≠ 0 := fun h => h0 (by rw [← b3,h,Rat.zero_mul])
      have e1 : q a / q b*proA dn M D=M a*proA dn M e := by
       have e2 : proA dn M D=M b*proA dn M D' := by
        rw [remA_pro hD1]
        show (if M b=0 then (1 : Rat) else M b)*_=_
        rw [if_neg h0]
       have e3 : q a / q b*q b=q a := Rat.div_mul_cancel hb
       rw [e2,← a3,← b3,subA_pro hc,subA_pro he]
       generalize q a / q b=t at e3
       rw [← e3]
       grind
      show QW z (q a / q b*proA dn M D)
      rw [e1]
      exact (a1.mul he'.1).mono hs
    ·cases hs
   ·cases hs
  ·cases hs
 ·have hD0 : D=[] := by
   rw [Nat.beq_eq] at hs
   exact List.length_eq_zero_iff.1 hs
  rw [hD0]
  have hv : valN σ q (7,xs)=0 ∨ valN σ q (7,xs)=1 := by
   unfold valN
   dsimp only
   split
   all_goals first | (split; exact Or.inl rfl; exact Or.inr rfl) | exact Or.inl rfl | (rename_i h; cases h)
  show QW z (valN σ q (7,xs)*1)
  rw [Rat.mul_one]
  rcases hv with h | h
  ·rw [h]
   exact QW.zero hz
  ·rw [h]
   exact QW.one hz
 ·rename_i i ys
  rw [Bool.and_eq_true,Bool.and_eq_true,List.all_eq_true] at hs
  obtain ⟨h1,h2,h3⟩ := hs
  have hD0 : D=[] := by
   rw [Nat.beq_eq] at h1
   exact List.length_eq_zero_iff.1 h1
  have hwf' : ys.all (Nat.blt · k)=true := hwf
  rw [List.all_eq_true] at hwf'
  have hlt : ∀ c ∈ ys,c < k := fun c hc => by simpa [Nat.blt_eq] using hwf' c hc
  split at h3
  ·rename_i a ha
   split at h3
   ·rename_i p hp
    split at h3
    ·rename_i e he
     rw [Nat.ble_eq] at h3
     obtain ⟨hi,ha'⟩ := List.getElem?_eq_some_iff.1 ha
     have hmem : a ∈ ys := List.mem_of_getElem? ha
     have hg : (ys.map q).getD i 0=q a := by
      rw [List.getD_eq_getElem?_getD,List.getElem?_map,ha]
      rfl
     show QW z ((ys.map q).getD i 0*fac (ys.map q)*proA dn M D)
     rw [hg,hD0]
     show QW z (q a*fac (ys.map q)*1)
     rw [Rat.mul_one]
     -- what makes all of them whole
     have hU : ∀ x ∈ uniA E ys [],x.1=1→x.2 < k := uniA_low hM hlt (fun x hx => by cases hx)
     have hUp := hpr hU
     have hw := whole hUp.1.wh
     generalize hm : (proA dn M (uniA E ys [])).num=m at hw
     have hm0 : m ≠ 0 := fun h => hUp.2 (by rw [hw,h]; rfl)
     have hall : ∀ y ∈ ys.map q,(y*((m : Int) : Rat)).den=1 := fun y hy => by
      obtain ⟨c,hc,rfl⟩ := List.mem_map.1 hy
      have h4 := h2 c hc
      split at h4
      ·rename_i r hr
       obtain ⟨c1,c2,c3⟩ := hlow (hlt c hc) hr
       cases hs2 : subA (uniA E ys []) r.2 with
       | none => rw [hs2] at h4; cases h4
       | some f =>
        have hf := hpr (l := f) fun x hx => hU x (subA_mem hs2 hx)
        rw [← hw,subA_pro hs2,← Rat.mul_assoc,c3]
        exact (c1.mul hf.1).wh
      ·cases h4
     obtain ⟨a1,a2,a3⟩ := hlow (hlt a hmem) hp
     have he' := hpr (l := e) fun x hx => hU x (subA_mem he hx)
     refine fac_whole (List.mem_map_of_mem hmem) hm0 hall ?_
     rw [← hw,subA_pro he,← Rat.mul_assoc,a3]
     exact (a1.mul he'.1).mono h3
    ·cases h3
   ·cases h3
  ·cases h3
 ·cases hs
end
theorem QS_over {x m p : Rat} {z y K : Nat} (hm : QW z m) (hp : QW y p) (h0 : p ≠ 0) (e : x*p=m) (hz : z≤K) (hy : y≤K) : QS K x := by
 have hw := whole hp.wh
 generalize p.num=P at hw
 have hP : P ≠ 0 := fun h => h0 (by rw [hw,h]; rfl)
 have hpos : 0 < P.natAbs := Int.natAbs_pos.2 hP
 have hd : x.den ∣ P.natAbs := den_dvd (x := x) (m := P) (by rw [← hw,e]; exact hm.wh)
 have hdle : x.den≤P.natAbs := Nat.le_of_dvd hpos hd
 have hPlt : P.natAbs < 2 ^ y := by
  have := hp.qs.num
  rw [hw,Rat.num_intCast] at this
  exact this
 have hmw := whole hm.wh
 have hmlt := hm.qs.num
 generalize m.num=n at hmw hmlt
 have h1 : x*((x.den : Nat) : Rat)=((x.num : Int) : Rat) := mul_low x
 have h2 : ((x.num : Int) : Rat)*((P : Int) : Rat)=((n : Int) : Rat)*(((x.den : Nat) : Int) : Rat) := by
  rw [← h1,← hw,← hmw,← e,Rat.intCast_natCast]
  grind
 have h3 : x.num*P=n*(x.den : Int) := by exact_mod_cast h2
 have h4 : x.num.natAbs*P.natAbs=n.natAbs*x.den := by
  have := congrArg Int.natAbs h3
  rwa [Int.natAbs_mul,Int.natAbs_mul,Int.natAbs_natCast] at this
 have h5 : x.num.natAbs≤n.natAbs := by
  refine Nat.le_of_mul_le_mul_right (c := P.natAbs) ?_ hpos
  rw [h4]
  exact Nat.mul_le_mul_left _ hdle
 exact ⟨Nat.lt_of_lt_of_le (Nat.lt_of_le_of_lt h5 hmlt) (Nat.pow_le_pow_right (by decide) hz),Nat.lt_of_lt_of_le (Nat.lt_of_le_of_lt hdle hPlt) (Nat.pow_le_pow_right (by decide) hy)⟩
section
variable {N : List Nd} {Z : List Nat} {E : List (Nat × List Atm)} {q : Nat→Rat}
theorem sizes_okA {σ : Nat→ByteArray} (hσ : ∀ j,(σ j).size≤1048576) (hw : wfB 0 N=true) (hz : saB E 0 N E Z=true) (hq : ∀ (a : Nat) nd,N[a]? = some nd→q a=valN σ q nd) (h0 : ∀ a,N.length≤a→q a=0) : (∀ (a : Nat) z,Z[a]? = some z→QS z (q a))∧∀ a,QS 1000000000000 (q a) := by
 have hl := saB_len hz
 have key : ∀ k,k≤N.length→∃ M,BelA E (fun j => (Cx.rd (σ j).data.toList).den) M q k := by
  intro k
  induction k with
  | zero => exact fun _ => ⟨fun _ => 0,fun a ha => by omega⟩
  | succ k ih =>
   intro hk
   obtain ⟨M,hM⟩ := ih (by omega)
   have hn : N[k]? = some N[k] := List.getElem?_eq_getElem (by omega)
   obtain ⟨p,z,h1,_,h3,_⟩ := saB_get hz hn
   rw [Nat.zero_add] at h3
   have hwf := wfB_get hw hn
   rw [Nat.zero_add] at hwf
   obtain ⟨g1,g2,g3⟩ := node_ok hσ (fun _ => rfl) hM hwf h3
   rw [← hq k _ hn] at g1
   refine ⟨fun x => if x=k then q k*proA (fun j => (Cx.rd (σ j).data.toList).den) M p.2 else M x,fun a ha => ?_⟩
   have same : ∀ {l : List Atm},(∀ x ∈ l,x.1=1→x.2 < k)→proA (fun j => (Cx.rd (σ j).data.toList).den) (fun x => if x=k then q k*proA (fun j => (Cx.rd (σ j).data.toList).den) M p.2 else M x) l=proA (fun j => (Cx.rd (σ j).data.toList).den) M l := fun hl => (proA_congr fun x hx h => by
    have := hl x hx h
    rw [if_neg (by omega)]).symm
   by_cases e : a=k
   ·subst e
    refine ⟨p,h1,?_,g2,g3,?_⟩
    ·show QW p.1 (if a=a then _ else _)
     rw [if_pos rfl]
     exact g1
    ·rw [same g3]
     show _=(if a=a then _ else _)
     rw [if_pos rfl]
   ·obtain ⟨p',f1,f2,f3,f4,f5⟩ := hM a (by omega)
    refine ⟨p',f1,?_,f3,f4,?_⟩
    ·show QW p'.1 (if a=k then _ else M a)
     rw [if_neg e]
     exact f2
    ·rw [same fun x hx h => by have := f4 x hx h; omega]
     show _=(if a=k then _ else M a)
     rw [if_neg e]
     exact f5
 obtain ⟨M,hM⟩ := key N.length (Nat.le_refl _)
 have hdn : ∀ j,0 < (Cx.rd (σ j).data.toList).den∧(Cx.rd (σ j).data.toList).den < 2 ^ inB := fun j => by
  refine ⟨Rat.den_pos _,Nat.lt_of_lt_of_le (QS.rd3 _).den (Nat.pow_le_pow_right (by decide) ?_)⟩
  have := hσ j
  rw [str_len]
  unfold inB
  omega
 have h2 : ∀ (a : Nat) z,Z[a]? = some z→QS z (q a)∧z≤1000000000000 := by
  intro a z ha
  have hlt : a < N.length := by
   have := (List.getElem?_eq_some_iff.1 ha).1
   omega
  have hn : N[a]? = some N[a] := List.getElem?_eq_getElem hlt
  obtain ⟨p,z',h1,h2,_,h4,h5,h6⟩ := saB_get hz hn
  rw [ha] at h2
  cases h2
  obtain ⟨p',f1,f2,f3,f4,f5⟩ := hM a hlt
  rw [h1] at f1
  cases f1
  have hp := proA_ok hdn hM (l := p.2) fun x hx h => Nat.lt_trans (f4 x hx h) hlt
  exact ⟨QS_over f2 hp.1 hp.2 f5 h4 h5,h6⟩
 refine ⟨fun a z h => (h2 a z h).1,fun a => ?_⟩
 by_cases ha : a < Z.length
 ·have := h2 a _ (List.getElem?_eq_getElem ha)
  exact this.1.mono this.2
 ·rw [h0 a (by omega)]
  exact QS.zero.mono (by decide)
theorem hy_ofA {L C : List (List Nat × Nat)} {σ : Nat→ByteArray} {H : List (Nat × Nat × Nat × Nat)} (hσ : ∀ j,(σ j).size≤1048576) (hw : wfB 0 N=true) (hz : saB E 0 N E Z=true) (hl : litB N L=true) (hcn : canB N C=true) (hq : ∀ (a : Nat) nd,N[a]? = some nd→q a=valN σ q nd) (h0 : ∀ a,N.length≤a→q a=0) (hH : hAll q H) : Hy N H L C Z q σ where
 nat := hq
 qs := (sizes_okA hσ hw hz hq h0).2
 zs := (sizes_okA hσ hw hz hq h0).1
 par := hσ
 lit := fun s b h => lit_rd hl hq h
 k0 := fun a r h => kn_at hH h
 k1 := fun a r h => kn_at hH h
 k2 := fun a r h => kn_at hH h
 k3 := fun a b r h => kn_at hH h
 k4 := fun l a b r h1 h2 => by
  have h3 : Nat.beq 1 r=true ↔ q a=q b := kn_at hH h2
  rw [h3,← can_tx hcn hq h1]
  exact ⟨fun e => by rw [e],fun e => tellS_inj (bytesN_inj e)⟩
 k6 := fun a b r h => kn_at hH h
 k5 := fun a r h => kn_at hH h
end
end Go.Proofs.YtkafcpodhflhpaaGreatDoor
/- CFconed -/
namespace Go.Proofs.YtkafcpodhflhpaaGreatDoor
open Go.RowKit Cx
theorem closed_coned : Closed 14 :=
 closed_told (N := [(0,[0,1,1]),(0,[0,0,1]),(0,[1,1,1]),(0,[0,3,5]),(0,[0,4,5]),(4,[1,0]),(4,[0,0]),(3,[5,6]),(4,[0,1]),(3,[8,6]),(4,[1,1]),(3,[6,10]),(4,[0,2]),(3,[5,12]),(4,[2,0]),(3,[8,14]),(4,[2,2]),(3,[16,10]),(4,[7,13]),(4,[7,15]),(4,[9,13]),(2,[19,20]),(4,[9,15]),(4,[7,17]),(4,[11,13]),(2,[23,24]),(4,[9,17]),(4,[11,15]),(2,[26,27]),(4,[11,17]),(3,[5,8]),(3,[12,6]),(4,[1,2]),(3,[8,32]),(3,[6,12]),(3,[8,5]),(3,[32,8]),(4,[30,34]),(4,[30,35]),(4,[31,34]),(2,[38,39]),(4,[31,35]),(4,[30,36]),(4,[33,34]),(2,[42,43]),(4,[31,36]),(4,[33,35]),(2,[45,46]),(4,[33,36]),(0,[0,2,1]),(4,[18,49]),(4,[22,49]),(4,[29,49]),(4,[50,3]),(2,[1,53]),(4,[21,4]),(2,[54,55]),(4,[25,0]),(2,[56,57]),(4,[21,3]),(2,[1,59]),(4,[51,4]),(2,[60,61]),(4,[28,0]),(2,[62,63]),(4,[25,3]),(2,[1,65]),(4,[28,4]),(2,[66,67]),(4,[52,0]),(2,[68,69]),(4,[3,58]),(2,[1,71]),(4,[4,64]),(2,[72,73]),(4,[0,70]),(2,[74,75]),(4,[37,49]),(4,[41,49]),(4,[48,49]),(4,[77,3]),(2,[1,80]),(4,[40,4]),(2,[81,82]),(4,[44,0]),(2,[83,84]),(4,[40,3]),(2,[1,86]),(4,[78,4]),(2,[87,88]),(4,[47,0]),(2,[89,90]),(4,[44,3]),(2,[1,92]),(4,[47,4]),(2,[93,94]),(4,[79,0]),(2,[95,96]),(4,[3,85]),(2,[1,98]),(4,[4,91]),(2,[99,100]),(4,[0,97]),(2,[101,102]),(4,[18,103]),(4,[37,76]),(3,[104,105]),(4,[21,103]),(4,[40,76]),(3,[107,108]),(4,[22,103]),(4,[41,76]),(3,[110,111]),(4,[25,103]),(4,[44,76]),(3,[113,114]),(4,[28,103]),(4,[47,76]),(3,[116,117]),(4,[29,103]),(4,[48,76]),(3,[119,120]),(8,[0,106,109,112,115,118,121]),(8,[1,106,109,112,115,118,121]),(8,[2,106,109,112,115,118,121]),(8,[3,106,109,112,115,118,121]),(8,[4,106,109,112,115,118,121]),(8,[5,106,109,112,115,118,121]),(4,[122,49]),(4,[124,49]),(4,[127,49]),(4,[123,126]),(4,[125,129]),(3,[131,132]),(4,[125,123]),(4,[128,126]),(3,[134,135]),(4,[128,129]),(4,[123,123]),(3,[137,138]),(4,[133,125]),(2,[1,140]),(4,[136,126]),(2,[141,142]),(4,[139,130]),(2,[143,144]),(2,[128,129]),(4,[145,146]),(4,[128,3]),(2,[1,148]),(4,[123,4]),(2,[149,150]),(4,[125,0]),(2,[151,152]),(4,[123,3]),(2,[1,154]),(4,[129,4]),(2,[155,156]),(4,[126,0]),(2,[157,158]),(4,[125,3]),(2,[1,160]),(4,[126,4]),(2,[161,162]),(4,[130,0]),(2,[163,164]),(4,[3,153]),(2,[1,166]),(4,[4,159]),(2,[167,168]),(4,[0,165]),(2,[169,170]),(4,[122,171]),(8,[0,153,159,165]),(8,[1,153,159,165]),(8,[2,153,159,165]),(0,[0,3,1]),(0,[0,4,1]),(0,[1,5,1])]) (H := [(0,106,0,0),(0,122,0,0),(0,145,0,0),(1,139,0,0),(0,139,0,0),(2,147,0,0),(0,172,0,1),(0,153,0,0),(4,122,0,1),(4,123,1,1),(4,124,0,1),(4,125,1,1),(4,126,1,1),(4,127,2,1),(4,173,176,1),(4,174,177,1),(4,175,178,1)]) (K := [(32,[.inr (3,7,0,0,0)]),(76,[.inr (3,43,0,0,0),.inr (3,44,0,0,0)]),(76,[.inr (3,59,0,0,0),.inr (3,60,0,0,0)])]) (L := [([49],0),([48],1),([45,49],2),([51,47,53],3),([52,47,53],4),([51],176),([52],177),([45,53],178)]) (C := [([49],0),([48],1),([45,49],2),([51],176),([52],177),([45,53],178)]) (Z := [2,2,2,4,4,4,4,9,4,9,4,9,4,9,4,9,4,9,18,18,18,37,18,18,18,37,18,18,37,18,9,9,4,9,9,9,9,18,18,18,37,18,18,18,37,18,18,37,18,3,21,21,21,25,28,41,70,39,110,41,44,25,70,39,110,41,44,41,86,23,110,114,117,114,232,112,345,21,21,21,25,28,41,70,39,110,41,44,25,70,39,110,41,44,41,86,23,110,114,117,114,232,112,345,363,363,727,382,382,765,363,363,727,382,382,765,382,382,765,363,363,727,5356,5356,5356,5356,5356,5356,5359,5359,5359,10712,10715,21428,10712,10715,21428,10718,10712,21431,26784,26787,26784,53572,26790,80363,10719,91082,5363,5366,5360,10727,5358,16086,5360,5363,5363,10727,5358,16086,5360,5363,5360,10724,5361,16086,16090,16093,16090,32184,16088,48273,53629,64345,64345,64345,3,4,4]) (cl := []) 8 (fun _ h => by cases h) (by kernel_rfl) (by kernel_rfl) (by kernel_rfl) (by kernel_rfl) (by kernel_rfl) (by kernel_rfl) (by kernel_rfl)
end Go.Proofs.YtkafcpodhflhpaaGreatDoor
/- MKA -/
namespace Go.Proofs.YtkafcpodhflhpaaGreatDoor
open Go.RowKit Cx
def kA_N : List Nd := [(1,[0]),(1,[1]),(1,[2]),(1,[3]),(1,[4]),(1,[5]),(4,[0,0]),(4,[1,1]),(2,[6,7]),(4,[2,2]),(2,[8,9]),(4,[3,3]),(2,[10,11]),(4,[4,4]),(2,[12,13]),(1,[8]),(1,[9]),(4,[15,15]),(4,[16,16]),(2,[17,18]),(1,[6]),(1,[7]),(0,[0,1,1]),(0,[0,2,1]),(4,[0,23]),(4,[2,23]),(4,[5,23]),(4,[24,20]),(0,[0,0,1]),(2,[28,27]),(4,[1,21]),(2,[29,30]),(4,[3,22]),(2,[31,32]),(4,[1,20]),(2,[28,34]),(4,[25,21]),(2,[35,36]),(4,[4,22]),(2,[37,38]),(4,[3,20]),(2,[28,40]),(4,[4,21]),(2,[41,42]),(4,[26,22]),(2,[43,44]),(4,[20,33]),(2,[28,46]),(4,[21,39]),(2,[47,48]),(4,[22,45]),(2,[49,50]),(4,[0,51]),(4,[1,51]),(4,[2,51]),(4,[3,51]),(4,[4,51]),(4,[24,15]),(2,[28,57]),(4,[1,16]),(2,[58,59]),(4,[3,28]),(2,[60,61]),(4,[1,15]),(2,[28,63]),(4,[25,16]),(2,[64,65]),(4,[4,28]),(2,[66,67]),(4,[3,15]),(2,[28,69]),(4,[4,16]),(2,[70,71]),(4,[26,28]),(2,[72,73]),(4,[20,62]),(2,[28,75]),(4,[21,68]),(2,[76,77]),(4,[22,74]),(2,[78,79]),(4,[15,62]),(2,[28,81]),(4,[16,68]),(2,[82,83]),(4,[28,74]),(2,[84,85]),(4,[23,80]),(6,[87,86]),(4,[15,88]),(4,[16,88]),(3,[20,89]),(3,[21,90]),(1,[10]),(1,[11]),(4,[93,93]),(4,[94,94]),(2,[95,96]),(4,[24,93]),(2,[28,98]),(4,[1,94]),(2,[99,100]),(2,[101,61]),(4,[1,93]),(2,[28,103]),(4,[25,94]),(2,[104,105]),(2,[106,67]),(4,[3,93]),(2,[28,108]),(4,[4,94]),(2,[109,110]),(2,[111,73]),(4,[20,102]),(2,[28,113]),(4,[21,107]),(2,[114,115]),(4,[22,112]),(2,[116,117]),(4,[93,102]),(2,[28,119]),(4,[94,107]),(2,[120,121]),(4,[28,112]),(2,[122,123]),(4,[23,118]),(6,[125,124]),(4,[93,126]),(4,[94,126]),(3,[20,127]),(3,[21,128]),(1,[12]),(1,[13]),(4,[131,131]),(4,[132,132]),(2,[133,134]),(4,[24,131]),(2,[28,136]),(4,[1,132]),(2,[137,138]),(2,[139,61]),(4,[1,131]),(2,[28,141]),(4,[25,132]),(2,[142,143]),(2,[144,67]),(4,[3,131]),(2,[28,146]),(4,[4,132]),(2,[147,148]),(2,[149,73]),(4,[20,140]),(2,[28,151]),(4,[21,145]),(2,[152,153]),(4,[22,150]),(2,[154,155]),(4,[131,140]),(2,[28,157]),(4,[132,145]),(2,[158,159]),(4,[28,150]),(2,[160,161]),(4,[23,156]),(6,[163,162]),(4,[131,164]),(4,[132,164]),(3,[20,165]),(3,[21,166]),(1,[14]),(1,[15]),(4,[169,169]),(4,[170,170]),(2,[171,172]),(4,[24,169]),(2,[28,174]),(4,[1,170]),(2,[175,176]),(2,[177,61]),(4,[1,169]),(2,[28,179]),(4,[25,170]),(2,[180,181]),(2,[182,67]),(4,[3,169]),(2,[28,184]),(4,[4,170]),(2,[185,186]),(2,[187,73]),(4,[20,178]),(2,[28,189]),(4,[21,183]),(2,[190,191]),(4,[22,188]),(2,[192,193]),(4,[169,178]),(2,[28,195]),(4,[170,183]),(2,[196,197]),(4,[28,188]),(2,[198,199]),(4,[23,194]),(6,[201,200]),(4,[169,202]),(4,[170,202]),(3,[20,203]),(3,[21,204]),(1,[16]),(1,[17]),(4,[207,207]),(4,[208,208]),(2,[209,210]),(4,[24,207]),(2,[28,212]),(4,[1,208]),(2,[213,214]),(2,[215,61]),(4,[1,207]),(2,[28,217]),(4,[25,208]),(2,[218,219]),(2,[220,67]),(4,[3,207]),(2,[28,222]),(4,[4,208]),(2,[223,224]),(2,[225,73]),(4,[20,216]),(2,[28,227]),(4,[21,221]),(2,[228,229]),(4,[22,226]),(2,[230,231]),(4,[207,216]),(2,[28,233]),(4,[208,221]),(2,[234,235]),(4,[28,226]),(2,[236,237]),(4,[23,232]),(6,[239,238]),(4,[207,240]),(4,[208,240]),(3,[20,241]),(3,[21,242]),(7,[91,92,6,7]),(7,[129,130,6,7]),(3,[129,91]),(3,[130,92]),(4,[247,247]),(4,[248,248]),(2,[249,250]),(7,[167,168,6,7]),(3,[167,91]),(3,[168,92]),(4,[253,253]),(4,[254,254]),(2,[255,256]),(3,[167,129]),(3,[168,130]),(4,[258,258]),(4,[259,259]),(2,[260,261]),(7,[205,206,6,7]),(3,[205,91]),(3,[206,92]),(4,[264,264]),(4,[265,265]),(2,[266,267]),(3,[205,129]),(3,[206,130]),(4,[269,269]),(4,[270,270]),(2,[271,272]),(3,[205,167]),(3,[206,168]),(4,[274,274]),(4,[275,275]),(2,[276,277]),(7,[243,244,6,7]),(3,[243,91]),(3,[244,92]),(4,[280,280]),(4,[281,281]),(2,[282,283]),(3,[243,129]),(3,[244,130]),(4,[285,285]),(4,[286,286]),(2,[287,288]),(3,[243,167]),(3,[244,168]),(4,[290,290]),(4,[291,291]),(2,[292,293]),(3,[243,205]),(3,[244,206]),(4,[295,295]),(4,[296,296]),(2,[297,298]),(3,[91,20]),(3,[92,21]),(5,[301]),(4,[302,302]),(4,[300,300]),(2,[303,304]),(5,[275]),(4,[306,306]),(2,[307,276]),(4,[306,167]),(4,[274,168]),(2,[309,310]),(5,[311]),(8,[0,306,274,312]),(8,[1,306,274,312]),(8,[2,306,274,312]),(4,[28,28]),(2,[316,316]),(4,[302,20]),(4,[300,21]),(2,[318,319]),(5,[320]),(8,[0,302,300,321]),(8,[1,302,300,321]),(8,[2,302,300,321]),(4,[322,322]),(4,[323,323]),(2,[325,326]),(4,[313,313]),(4,[314,314]),(2,[328,329]),(4,[322,314]),(4,[323,313]),(3,[331,332]),(4,[313,324]),(4,[314,324]),(4,[322,315]),(4,[323,315]),(3,[334,336]),(3,[335,337]),(4,[338,338]),(4,[339,339]),(2,[340,341]),(5,[339]),(6,[343,333]),(6,[338,333]),(5,[248]),(4,[346,346]),(2,[347,249]),(4,[346,91]),(4,[247,92]),(2,[349,350]),(5,[351]),(8,[0,346,247,352]),(8,[1,346,247,352]),(8,[2,346,247,352]),(5,[296]),(4,[356,356]),(2,[357,297]),(4,[356,205]),(4,[295,206]),(2,[359,360]),(5,[361]),(8,[0,356,295,362]),(8,[1,356,295,362]),(8,[2,356,295,362]),(4,[353,353]),(4,[354,354]),(2,[366,367]),(4,[363,363]),(4,[364,364]),(2,[369,370]),(4,[353,364]),(4,[354,363]),(3,[372,373]),(4,[363,355]),(4,[364,355]),(4,[353,365]),(4,[354,365]),(3,[375,377]),(3,[376,378]),(4,[379,379]),(4,[380,380]),(2,[381,382]),(5,[380]),(6,[384,374]),(6,[379,374]),(5,[259]),(4,[387,387]),(2,[388,260]),(4,[387,129]),(4,[258,130]),(2,[390,391]),(5,[392]),(8,[0,387,258,393]),(8,[1,387,258,393]),(8,[2,387,258,393]),(3,[20,243]),(3,[21,244]),(5,[398]),(4,[399,399]),(4,[397,397]),(2,[400,401]),(4,[394,394]),(4,[395,395]),(2,[403,404]),(4,[399,243]),(4,[397,244]),(2,[406,407]),(5,[408]),(8,[0,399,397,409]),(8,[1,399,397,409]),(8,[2,399,397,409]),(4,[410,410]),(4,[411,411]),(2,[413,414]),(4,[394,411]),(4,[395,410]),(3,[416,417]),(4,[410,396]),(4,[411,396]),(4,[394,412]),(4,[395,412]),(3,[419,421]),(3,[420,422]),(4,[423,423]),(4,[424,424]),(2,[425,426]),(5,[424]),(6,[428,418]),(6,[423,418]),(3,[385,344]),(3,[386,345]),(3,[429,344]),(3,[430,345]),(4,[431,434]),(4,[432,433]),(3,[435,436])]
def kA_L : List (List Nat × Nat) := [([],28)]
def kA_C : List (List Nat × Nat) := []
def kA_Z : List Nat := [3495260,3495260,3495260,3495260,3495260,3495260,6990519,6990519,13981038,6990519,20971558,6990519,27962078,6990519,34952598,3495260,3495260,6990519,6990519,13981038,3495260,3495260,1,2,3495261,3495261,3495261,6990520,1,6990522,6990519,13981042,3495260,17476303,6990519,6990521,6990520,13981041,3495260,17476302,6990519,6990521,6990519,13981041,3495262,17476302,20971562,20971564,20971561,31457343,17476303,34952604,38447863,38447863,38447863,38447863,38447863,6990520,6990522,6990519,13981042,3495260,17476303,6990519,6990521,6990520,13981041,3495260,17476302,6990519,6990521,6990519,13981041,3495262,17476302,20971562,20971564,20971561,31457343,17476303,34952604,20971562,20971564,20971561,31457343,17476303,34952604,34952606,41943125,45438384,45438384,45438386,45438386,3495260,3495260,6990519,6990519,13981038,6990520,6990522,6990519,13981042,17476303,6990519,6990521,6990520,13981041,17476302,6990519,6990521,6990519,13981041,17476302,20971562,20971564,20971561,31457343,17476303,34952604,20971562,20971564,20971561,31457343,17476303,34952604,34952606,41943125,45438384,45438384,45438386,45438386,3495260,3495260,6990519,6990519,13981038,6990520,6990522,6990519,13981042,17476303,6990519,6990521,6990520,13981041,17476302,6990519,6990521,6990519,13981041,17476302,20971562,20971564,20971561,31457343,17476303,34952604,20971562,20971564,20971561,31457343,17476303,34952604,34952606,41943125,45438384,45438384,45438386,45438386,3495260,3495260,6990519,6990519,13981038,6990520,6990522,6990519,13981042,17476303,6990519,6990521,6990520,13981041,17476302,6990519,6990521,6990519,13981041,17476302,20971562,20971564,20971561,31457343,17476303,34952604,20971562,20971564,20971561,31457343,17476303,34952604,34952606,41943125,45438384,45438384,45438386,45438386,3495260,3495260,6990519,6990519,13981038,6990520,6990522,6990519,13981042,17476303,6990519,6990521,6990520,13981041,17476302,6990519,6990521,6990519,13981041,17476302,20971562,20971564,20971561,31457343,17476303,34952604,20971562,20971564,20971561,31457343,17476303,34952604,34952606,41943125,45438384,45438384,45438386,45438386,1,1,83886251,83886251,167772502,167772502,181753540,1,83886251,83886251,167772502,167772502,181753540,83886251,83886251,167772502,167772502,181753540,1,83886251,83886251,167772502,167772502,181753540,83886251,83886251,167772502,167772502,181753540,83886251,83886251,167772502,167772502,181753540,1,83886251,83886251,167772502,167772502,181753540,83886251,83886251,167772502,167772502,181753540,83886251,83886251,167772502,167772502,181753540,83886251,83886251,167772502,167772502,181753540,45438388,45438388,45438388,90876776,90876776,97867296,83886251,167772502,181753540,129324637,129324637,132819898,132819898,132819892,132819892,132819899,2,4,48933647,48933647,55924167,55924167,55924166,55924166,55924168,111848332,111848332,111848334,265639784,265639784,265639786,188744058,188744058,188744060,188744060,188744060,188744065,188744065,188744067,188744067,377488134,377488134,377488136,188744067,188744068,188744068,83886251,167772502,181753540,129324637,129324637,132819898,132819898,132819892,132819892,132819899,83886251,167772502,181753540,129324637,129324637,132819898,132819898,132819892,132819892,132819899,265639784,265639784,265639786,265639784,265639784,265639786,265639784,265639784,265639786,265639791,265639791,265639791,265639791,265639793,265639793,531279586,531279586,531279588,265639793,265639794,265639794,83886251,167772502,181753540,129324637,129324637,132819898,132819898,132819892,132819892,132819899,45438388,45438388,45438388,90876776,90876776,97867296,265639784,265639784,265639786,90876774,90876774,90876776,90876776,90876770,90876770,90876777,181753540,181753540,181753542,223696662,223696662,223696664,223696669,223696669,223696669,223696669,223696671,223696671,447393342,447393342,447393344,223696671,223696672,223696672,454383856,454383856,412440734,412440734,866824590,866824590,866824592]
def kA_D0 : List Atm := [(0,0),(0,6)]
def kA_D1 : List Atm := [(0,1),(0,6)]
def kA_D2 : List Atm := [(0,3),(0,6)]
def kA_D3 : List Atm := [(0,3),(0,4),(0,5),(0,6),(0,7)]
def kA_D4 : List Atm := [(0,0),(0,1),(0,3),(0,6),(0,6),(0,7)]
def kA_D5 : List Atm := [(0,0),(0,8)]
def kA_D6 : List Atm := [(0,1),(0,8)]
def kA_D7 : List Atm := [(0,3),(0,8)]
def kA_D8 : List Atm := [(0,3),(0,4),(0,5),(0,8),(0,9)]
def kA_D9 : List Atm := [(0,0),(0,1),(0,3),(0,6),(0,8),(0,9)]
def kA_D10 : List Atm := [(0,0),(0,1),(0,2),(0,3),(0,4),(0,5),(0,6),(0,7),(0,8),(0,9)]
def kA_D11 : List Atm := [(0,0),(0,1),(0,3),(0,8),(0,8),(0,9)]
def kA_D12 : List Atm := [(0,6),(0,7),(0,8),(1,86)]
def kA_D13 : List Atm := [(0,6),(0,7),(0,9),(1,86)]
def kA_D14 : List Atm := [(0,0),(0,10)]
def kA_D15 : List Atm := [(0,1),(0,10)]
def kA_D16 : List Atm := [(0,3),(0,10)]
def kA_D17 : List Atm := [(0,3),(0,4),(0,5),(0,10),(0,11)]
def kA_D18 : List Atm := [(0,0),(0,1),(0,3),(0,6),(0,10),(0,11)]
def kA_D19 : List Atm := [(0,0),(0,1),(0,2),(0,3),(0,4),(0,5),(0,6),(0,7),(0,10),(0,11)]
def kA_D20 : List Atm := [(0,0),(0,1),(0,3),(0,10),(0,10),(0,11)]
def kA_D21 : List Atm := [(0,6),(0,7),(0,10),(1,124)]
def kA_D22 : List Atm := [(0,6),(0,7),(0,11),(1,124)]
def kA_D23 : List Atm := [(0,0),(0,12)]
def kA_D24 : List Atm := [(0,1),(0,12)]
def kA_D25 : List Atm := [(0,3),(0,12)]
def kA_D26 : List Atm := [(0,3),(0,4),(0,5),(0,12),(0,13)]
def kA_D27 : List Atm := [(0,0),(0,1),(0,3),(0,6),(0,12),(0,13)]
def kA_D28 : List Atm := [(0,0),(0,1),(0,2),(0,3),(0,4),(0,5),(0,6),(0,7),(0,12),(0,13)]
def kA_D29 : List Atm := [(0,0),(0,1),(0,3),(0,12),(0,12),(0,13)]
def kA_D30 : List Atm := [(0,6),(0,7),(0,12),(1,162)]
def kA_D31 : List Atm := [(0,6),(0,7),(0,13),(1,162)]
def kA_D32 : List Atm := [(0,0),(0,14)]
def kA_D33 : List Atm := [(0,1),(0,14)]
def kA_D34 : List Atm := [(0,3),(0,14)]
def kA_D35 : List Atm := [(0,3),(0,4),(0,5),(0,14),(0,15)]
def kA_D36 : List Atm := [(0,0),(0,1),(0,3),(0,6),(0,14),(0,15)]
def kA_D37 : List Atm := [(0,0),(0,1),(0,2),(0,3),(0,4),(0,5),(0,6),(0,7),(0,14),(0,15)]
def kA_D38 : List Atm := [(0,0),(0,1),(0,3),(0,14),(0,14),(0,15)]
def kA_D39 : List Atm := [(0,6),(0,7),(0,14),(1,200)]
def kA_D40 : List Atm := [(0,6),(0,7),(0,15),(1,200)]
def kA_D41 : List Atm := [(0,0),(0,16)]
def kA_D42 : List Atm := [(0,1),(0,16)]
def kA_D43 : List Atm := [(0,3),(0,16)]
def kA_D44 : List Atm := [(0,3),(0,4),(0,5),(0,16),(0,17)]
def kA_D45 : List Atm := [(0,0),(0,1),(0,3),(0,6),(0,16),(0,17)]
def kA_D46 : List Atm := [(0,0),(0,1),(0,2),(0,3),(0,4),(0,5),(0,6),(0,7),(0,16),(0,17)]
def kA_D47 : List Atm := [(0,0),(0,1),(0,3),(0,16),(0,16),(0,17)]
def kA_D48 : List Atm := [(0,6),(0,7),(0,16),(1,238)]
def kA_D49 : List Atm := [(0,6),(0,7),(0,17),(1,238)]
def kA_D50 : List Atm := [(0,6),(0,7),(0,9),(0,11),(1,86),(1,124)]
def kA_D51 : List Atm := [(0,6),(0,6),(0,7),(0,7),(0,9),(0,9),(0,11),(0,11),(1,86),(1,86),(1,124),(1,124)]
def kA_D52 : List Atm := [(0,6),(0,6),(0,7),(0,7),(0,8),(0,8),(0,9),(0,9),(0,10),(0,10),(0,11),(0,11),(1,86),(1,86),(1,124),(1,124)]
def kA_D53 : List Atm := [(0,6),(0,7),(0,11),(0,13),(1,124),(1,162)]
def kA_D54 : List Atm := [(0,6),(0,6),(0,7),(0,7),(0,11),(0,11),(0,13),(0,13),(1,124),(1,124),(1,162),(1,162)]
def kA_D55 : List Atm := [(0,6),(0,6),(0,7),(0,7),(0,10),(0,10),(0,11),(0,11),(0,12),(0,12),(0,13),(0,13),(1,124),(1,124),(1,162),(1,162)]
def kA_D56 : List Atm := [(0,6),(0,7),(0,13),(0,15),(1,162),(1,200)]
def kA_D57 : List Atm := [(0,6),(0,6),(0,7),(0,7),(0,13),(0,13),(0,15),(0,15),(1,162),(1,162),(1,200),(1,200)]
def kA_D58 : List Atm := [(0,6),(0,6),(0,7),(0,7),(0,12),(0,12),(0,13),(0,13),(0,14),(0,14),(0,15),(0,15),(1,162),(1,162),(1,200),(1,200)]
def kA_D59 : List Atm := [(0,6),(0,7),(0,15),(0,17),(1,200),(1,238)]
def kA_D60 : List Atm := [(0,6),(0,6),(0,7),(0,7),(0,15),(0,15),(0,17),(0,17),(1,200),(1,200),(1,238),(1,238)]
def kA_D61 : List Atm := [(0,6),(0,6),(0,7),(0,7),(0,14),(0,14),(0,15),(0,15),(0,16),(0,16),(0,17),(0,17),(1,200),(1,200),(1,238),(1,238)]
def kA_D62 : List Atm := [(0,6),(0,6),(0,7),(0,7),(0,12),(0,13),(0,14),(0,15),(1,162),(1,162),(1,200)]
def kA_D63 : List Atm := [(0,6),(0,6),(0,7),(0,7),(0,8),(0,9),(1,86)]
def kA_D64 : List Atm := [(0,6),(0,6),(0,7),(0,7),(0,8),(0,9),(0,10),(0,11),(1,86),(1,86),(1,124)]
def kA_D65 : List Atm := [(0,6),(0,6),(0,7),(0,7),(0,14),(0,15),(0,16),(0,17),(1,200),(1,200),(1,238)]
def kA_D66 : List Atm := [(0,6),(0,6),(0,7),(0,7),(0,10),(0,11),(0,12),(0,13),(1,124),(1,124),(1,162)]
def kA_D67 : List Atm := [(0,6),(0,6),(0,7),(0,7),(0,16),(0,17),(1,238),(1,238)]
def kA_D68 : List Atm := [(1,333),(1,374)]
def kA_D69 : List Atm := [(1,333),(1,418)]
def kA_D70 : List Atm := [(1,333),(1,333),(1,374),(1,418)]
def kA_E : List (Nat × List Atm) := [(3495259,[(0,0)]),(3495259,[(0,1)]),(3495259,[(0,2)]),(3495259,[(0,3)]),(3495259,[(0,4)]),(3495259,[(0,5)]),(6990518,[(0,0),(0,0)]),(6990518,[(0,1),(0,1)]),(13981038,[(0,0),(0,0),(0,1),(0,1)]),(6990518,[(0,2),(0,2)]),(20971558,[(0,0),(0,0),(0,1),(0,1),(0,2),(0,2)]),(6990518,[(0,3),(0,3)]),(27962078,[(0,0),(0,0),(0,1),(0,1),(0,2),(0,2),(0,3),(0,3)]),(6990518,[(0,4),(0,4)]),(34952598,[(0,0),(0,0),(0,1),(0,1),(0,2),(0,2),(0,3),(0,3),(0,4),(0,4)]),(3495259,[(0,8)]),(3495259,[(0,9)]),(6990518,[(0,8),(0,8)]),(6990518,[(0,9),(0,9)]),(13981038,[(0,8),(0,8),(0,9),(0,9)]),(3495259,[(0,6)]),(3495259,[(0,7)]),(1,[]),(2,[]),(3495261,[(0,0)]),(3495261,[(0,2)]),(3495261,[(0,5)]),(6990520,kA_D0),(1,[]),(6990522,kA_D0),(6990518,[(0,1),(0,7)]),(13981042,[(0,0),(0,1),(0,6),(0,7)]),(3495260,[(0,3)]),(17476303,[(0,0),(0,1),(0,3),(0,6),(0,7)]),(6990518,kA_D1),(6990521,kA_D1),(6990520,[(0,2),(0,7)]),(13981041,[(0,1),(0,2),(0,6),(0,7)]),(3495260,[(0,4)]),(17476302,[(0,1),(0,2),(0,4),(0,6),(0,7)]),(6990518,kA_D2),(6990521,kA_D2),(6990518,[(0,4),(0,7)]),(13981041,[(0,3),(0,4),(0,6),(0,7)]),(3495262,[(0,5)]),(17476302,kA_D3),(20971562,kA_D4),(20971564,kA_D4),(20971561,[(0,1),(0,2),(0,4),(0,6),(0,7),(0,7)]),(31457343,[(0,0),(0,1),(0,2),(0,3),(0,4),(0,6),(0,6),(0,7),(0,7)]),(17476303,kA_D3),(34952604,[(0,0),(0,1),(0,2),(0,3),(0,4),(0,5),(0,6),(0,6),(0,7),(0,7)]),(38447863,[(0,0),(0,0),(0,1),(0,2),(0,3),(0,4),(0,5),(0,6),(0,6),(0,7),(0,7)]),(38447863,[(0,0),(0,1),(0,1),(0,2),(0,3),(0,4),(0,5),(0,6),(0,6),(0,7),(0,7)]),(38447863,[(0,0),(0,1),(0,2),(0,2),(0,3),(0,4),(0,5),(0,6),(0,6),(0,7),(0,7)]),(38447863,[(0,0),(0,1),(0,2),(0,3),(0,3),(0,4),(0,5),(0,6),(0,6),(0,7),(0,7)]),(38447863,[(0,0),(0,1),(0,2),(0,3),(0,4),(0,4),(0,5),(0,6),(0,6),(0,7),(0,7)]),(6990520,kA_D5),(6990522,kA_D5),(6990518,[(0,1),(0,9)]),(13981042,[(0,0),(0,1),(0,8),(0,9)]),(3495260,[(0,3)]),(17476303,[(0,0),(0,1),(0,3),(0,8),(0,9)]),(6990518,kA_D6),(6990521,kA_D6),(6990520,[(0,2),(0,9)]),(13981041,[(0,1),(0,2),(0,8),(0,9)]),(3495260,[(0,4)]),(17476302,[(0,1),(0,2),(0,4),(0,8),(0,9)]),(6990518,kA_D7),(6990521,kA_D7),(6990518,[(0,4),(0,9)]),(13981041,[(0,3),(0,4),(0,8),(0,9)]),(3495262,[(0,5)]),(17476302,kA_D8),(20971562,kA_D9),(20971564,kA_D9),(20971561,[(0,1),(0,2),(0,4),(0,7),(0,8),(0,9)]),(31457343,[(0,0),(0,1),(0,2),(0,3),(0,4),(0,6),(0,7),(0,8),(0,9)]),(17476303,kA_D8),(34952604,kA_D10),(20971562,kA_D11),(20971564,kA_D11),(20971561,[(0,1),(0,2),(0,4),(0,8),(0,9),(0,9)]),(31457343,[(0,0),(0,1),(0,2),(0,3),(0,4),(0,8),(0,8),(0,9),(0,9)]),(17476303,kA_D8),(34952604,[(0,0),(0,1),(0,2),(0,3),(0,4),(0,5),(0,8),(0,8),(0,9),(0,9)]),(34952606,kA_D10),(41943125,[(0,6),(0,7),(1,86)]),(45438384,kA_D12),(45438384,kA_D13),(45438386,kA_D12),(45438386,kA_D13),(3495259,[(0,10)]),(3495259,[(0,11)]),(6990518,[(0,10),(0,10)]),(6990518,[(0,11),(0,11)]),(13981038,[(0,10),(0,10),(0,11),(0,11)]),(6990520,kA_D14),(6990522,kA_D14),(6990518,[(0,1),(0,11)]),(13981042,[(0,0),(0,1),(0,10),(0,11)]),(17476303,[(0,0),(0,1),(0,3),(0,10),(0,11)]),(6990518,kA_D15),(6990521,kA_D15),(6990520,[(0,2),(0,11)]),(13981041,[(0,1),(0,2),(0,10),(0,11)]),(17476302,[(0,1),(0,2),(0,4),(0,10),(0,11)]),(6990518,kA_D16),(6990521,kA_D16),(6990518,[(0,4),(0,11)]),(13981041,[(0,3),(0,4),(0,10),(0,11)]),(17476302,kA_D17),(20971562,kA_D18),(20971564,kA_D18),(20971561,[(0,1),(0,2),(0,4),(0,7),(0,10),(0,11)]),(31457343,[(0,0),(0,1),(0,2),(0,3),(0,4),(0,6),(0,7),(0,10),(0,11)]),(17476303,kA_D17),(34952604,kA_D19),(20971562,kA_D20),(20971564,kA_D20),(20971561,[(0,1),(0,2),(0,4),(0,10),(0,11),(0,11)]),(31457343,[(0,0),(0,1),(0,2),(0,3),(0,4),(0,10),(0,10),(0,11),(0,11)]),(17476303,kA_D17),(34952604,[(0,0),(0,1),(0,2),(0,3),(0,4),(0,5),(0,10),(0,10),(0,11),(0,11)]),(34952606,kA_D19),(41943125,[(0,6),(0,7),(1,124)]),(45438384,kA_D21),(45438384,kA_D22),(45438386,kA_D21),(45438386,kA_D22),(3495259,[(0,12)]),(3495259,[(0,13)]),(6990518,[(0,12),(0,12)]),(6990518,[(0,13),(0,13)]),(13981038,[(0,12),(0,12),(0,13),(0,13)]),(6990520,kA_D23),(6990522,kA_D23),(6990518,[(0,1),(0,13)]),(13981042,[(0,0),(0,1),(0,12),(0,13)]),(17476303,[(0,0),(0,1),(0,3),(0,12),(0,13)]),(6990518,kA_D24),(6990521,kA_D24),(6990520,[(0,2),(0,13)]),(13981041,[(0,1),(0,2),(0,12),(0,13)]),(17476302,[(0,1),(0,2),(0,4),(0,12),(0,13)]),(6990518,kA_D25),(6990521,kA_D25),(6990518,[(0,4),(0,13)]),(13981041,[(0,3),(0,4),(0,12),(0,13)]),(17476302,kA_D26),(20971562,kA_D27),(20971564,kA_D27),(20971561,[(0,1),(0,2),(0,4),(0,7),(0,12),(0,13)]),(31457343,[(0,0),(0,1),(0,2),(0,3),(0,4),(0,6),(0,7),(0,12),(0,13)]),(17476303,kA_D26),(34952604,kA_D28),(20971562,kA_D29),(20971564,kA_D29),(20971561,[(0,1),(0,2),(0,4),(0,12),(0,13),(0,13)]),(31457343,[(0,0),(0,1),(0,2),(0,3),(0,4),(0,12),(0,12),(0,13),(0,13)]),(17476303,kA_D26),(34952604,[(0,0),(0,1),(0,2),(0,3),(0,4),(0,5),(0,12),(0,12),(0,13),(0,13)]),(34952606,kA_D28),(41943125,[(0,6),(0,7),(1,162)]),(45438384,kA_D30),(45438384,kA_D31),(45438386,kA_D30),(45438386,kA_D31),(3495259,[(0,14)]),(3495259,[(0,15)]),(6990518,[(0,14),(0,14)]),(6990518,[(0,15),(0,15)]),(13981038,[(0,14),(0,14),(0,15),(0,15)]),(6990520,kA_D32),(6990522,kA_D32),(6990518,[(0,1),(0,15)]),(13981042,[(0,0),(0,1),(0,14),(0,15)]),(17476303,[(0,0),(0,1),(0,3),(0,14),(0,15)]),(6990518,kA_D33),(6990521,kA_D33),(6990520,[(0,2),(0,15)]),(13981041,[(0,1),(0,2),(0,14),(0,15)]),(17476302,[(0,1),(0,2),(0,4),(0,14),(0,15)]),(6990518,kA_D34),(6990521,kA_D34),(6990518,[(0,4),(0,15)]),(13981041,[(0,3),(0,4),(0,14),(0,15)]),(17476302,kA_D35),(20971562,kA_D36),(20971564,kA_D36),(20971561,[(0,1),(0,2),(0,4),(0,7),(0,14),(0,15)]),(31457343,[(0,0),(0,1),(0,2),(0,3),(0,4),(0,6),(0,7),(0,14),(0,15)]),(17476303,kA_D35),(34952604,kA_D37),(20971562,kA_D38),(20971564,kA_D38),(20971561,[(0,1),(0,2),(0,4),(0,14),(0,15),(0,15)]),(31457343,[(0,0),(0,1),(0,2),(0,3),(0,4),(0,14),(0,14),(0,15),(0,15)]),(17476303,kA_D35),(34952604,[(0,0),(0,1),(0,2),(0,3),(0,4),(0,5),(0,14),(0,14),(0,15),(0,15)]),(34952606,kA_D37),(41943125,[(0,6),(0,7),(1,200)]),(45438384,kA_D39),(45438384,kA_D40),(45438386,kA_D39),(45438386,kA_D40),(3495259,[(0,16)]),(3495259,[(0,17)]),(6990518,[(0,16),(0,16)]),(6990518,[(0,17),(0,17)]),(13981038,[(0,16),(0,16),(0,17),(0,17)]),(6990520,kA_D41),(6990522,kA_D41),(6990518,[(0,1),(0,17)]),(13981042,[(0,0),(0,1),(0,16),(0,17)]),(17476303,[(0,0),(0,1),(0,3),(0,16),(0,17)]),(6990518,kA_D42),(6990521,kA_D42),(6990520,[(0,2),(0,17)]),(13981041,[(0,1),(0,2),(0,16),(0,17)]),(17476302,[(0,1),(0,2),(0,4),(0,16),(0,17)]),(6990518,kA_D43),(6990521,kA_D43),(6990518,[(0,4),(0,17)]),(13981041,[(0,3),(0,4),(0,16),(0,17)]),(17476302,kA_D44),(20971562,kA_D45),(20971564,kA_D45),(20971561,[(0,1),(0,2),(0,4),(0,7),(0,16),(0,17)]),(31457343,[(0,0),(0,1),(0,2),(0,3),(0,4),(0,6),(0,7),(0,16),(0,17)]),(17476303,kA_D44),(34952604,kA_D46),(20971562,kA_D47),(20971564,kA_D47),(20971561,[(0,1),(0,2),(0,4),(0,16),(0,17),(0,17)]),(31457343,[(0,0),(0,1),(0,2),(0,3),(0,4),(0,16),(0,16),(0,17),(0,17)]),(17476303,kA_D44),(34952604,[(0,0),(0,1),(0,2),(0,3),(0,4),(0,5),(0,16),(0,16),(0,17),(0,17)]),(34952606,kA_D46),(41943125,[(0,6),(0,7),(1,238)]),(45438384,kA_D48),(45438384,kA_D49),(45438386,kA_D48),(45438386,kA_D49),(1,[]),(1,[]),(83886251,[(0,6),(0,7),(0,8),(0,10),(1,86),(1,124)]),(83886251,kA_D50),(167772502,[(0,6),(0,6),(0,7),(0,7),(0,8),(0,8),(0,10),(0,10),(1,86),(1,86),(1,124),(1,124)]),(167772502,kA_D51),(181753540,kA_D52),(1,[]),(83886251,[(0,6),(0,7),(0,8),(0,12),(1,86),(1,162)]),(83886251,[(0,6),(0,7),(0,9),(0,13),(1,86),(1,162)]),(167772502,[(0,6),(0,6),(0,7),(0,7),(0,8),(0,8),(0,12),(0,12),(1,86),(1,86),(1,162),(1,162)]),(167772502,[(0,6),(0,6),(0,7),(0,7),(0,9),(0,9),(0,13),(0,13),(1,86),(1,86),(1,162),(1,162)]),(181753540,[(0,6),(0,6),(0,7),(0,7),(0,8),(0,8),(0,9),(0,9),(0,12),(0,12),(0,13),(0,13),(1,86),(1,86),(1,162),(1,162)]),(83886251,[(0,6),(0,7),(0,10),(0,12),(1,124),(1,162)]),(83886251,kA_D53),(167772502,[(0,6),(0,6),(0,7),(0,7),(0,10),(0,10),(0,12),(0,12),(1,124),(1,124),(1,162),(1,162)]),(167772502,kA_D54),(181753540,kA_D55),(1,[]),(83886251,[(0,6),(0,7),(0,8),(0,14),(1,86),(1,200)]),(83886251,[(0,6),(0,7),(0,9),(0,15),(1,86),(1,200)]),(167772502,[(0,6),(0,6),(0,7),(0,7),(0,8),(0,8),(0,14),(0,14),(1,86),(1,86),(1,200),(1,200)]),(167772502,[(0,6),(0,6),(0,7),(0,7),(0,9),(0,9),(0,15),(0,15),(1,86),(1,86),(1,200),(1,200)]),(181753540,[(0,6),(0,6),(0,7),(0,7),(0,8),(0,8),(0,9),(0,9),(0,14),(0,14),(0,15),(0,15),(1,86),(1,86),(1,200),(1,200)]),(83886251,[(0,6),(0,7),(0,10),(0,14),(1,124),(1,200)]),(83886251,[(0,6),(0,7),(0,11),(0,15),(1,124),(1,200)]),(167772502,[(0,6),(0,6),(0,7),(0,7),(0,10),(0,10),(0,14),(0,14),(1,124),(1,124),(1,200),(1,200)]),(167772502,[(0,6),(0,6),(0,7),(0,7),(0,11),(0,11),(0,15),(0,15),(1,124),(1,124),(1,200),(1,200)]),(181753540,[(0,6),(0,6),(0,7),(0,7),(0,10),(0,10),(0,11),(0,11),(0,14),(0,14),(0,15),(0,15),(1,124),(1,124),(1,200),(1,200)]),(83886251,[(0,6),(0,7),(0,12),(0,14),(1,162),(1,200)]),(83886251,kA_D56),(167772502,[(0,6),(0,6),(0,7),(0,7),(0,12),(0,12),(0,14),(0,14),(1,162),(1,162),(1,200),(1,200)]),(167772502,kA_D57),(181753540,kA_D58),(1,[]),(83886251,[(0,6),(0,7),(0,8),(0,16),(1,86),(1,238)]),(83886251,[(0,6),(0,7),(0,9),(0,17),(1,86),(1,238)]),(167772502,[(0,6),(0,6),(0,7),(0,7),(0,8),(0,8),(0,16),(0,16),(1,86),(1,86),(1,238),(1,238)]),(167772502,[(0,6),(0,6),(0,7),(0,7),(0,9),(0,9),(0,17),(0,17),(1,86),(1,86),(1,238),(1,238)]),(181753540,[(0,6),(0,6),(0,7),(0,7),(0,8),(0,8),(0,9),(0,9),(0,16),(0,16),(0,17),(0,17),(1,86),(1,86),(1,238),(1,238)]),(83886251,[(0,6),(0,7),(0,10),(0,16),(1,124),(1,238)]),(83886251,[(0,6),(0,7),(0,11),(0,17),(1,124),(1,238)]),(167772502,[(0,6),(0,6),(0,7),(0,7),(0,10),(0,10),(0,16),(0,16),(1,124),(1,124),(1,238),(1,238)]),(167772502,[(0,6),(0,6),(0,7),(0,7),(0,11),(0,11),(0,17),(0,17),(1,124),(1,124),(1,238),(1,238)]),(181753540,[(0,6),(0,6),(0,7),(0,7),(0,10),(0,10),(0,11),(0,11),(0,16),(0,16),(0,17),(0,17),(1,124),(1,124),(1,238),(1,238)]),(83886251,[(0,6),(0,7),(0,12),(0,16),(1,162),(1,238)]),(83886251,[(0,6),(0,7),(0,13),(0,17),(1,162),(1,238)]),(167772502,[(0,6),(0,6),(0,7),(0,7),(0,12),(0,12),(0,16),(0,16),(1,162),(1,162),(1,238),(1,238)]),(167772502,[(0,6),(0,6),(0,7),(0,7),(0,13),(0,13),(0,17),(0,17),(1,162),(1,162),(1,238),(1,238)]),(181753540,[(0,6),(0,6),(0,7),(0,7),(0,12),(0,12),(0,13),(0,13),(0,16),(0,16),(0,17),(0,17),(1,162),(1,162),(1,238),(1,238)]),(83886251,[(0,6),(0,7),(0,14),(0,16),(1,200),(1,238)]),(83886251,kA_D59),(167772502,[(0,6),(0,6),(0,7),(0,7),(0,14),(0,14),(0,16),(0,16),(1,200),(1,200),(1,238),(1,238)]),(167772502,kA_D60),(181753540,kA_D61),(45438388,kA_D12),(45438388,kA_D13),(45438388,kA_D13),(90876776,[(0,6),(0,6),(0,7),(0,7),(0,9),(0,9),(1,86),(1,86)]),(90876776,[(0,6),(0,6),(0,7),(0,7),(0,8),(0,8),(1,86),(1,86)]),(97867296,[(0,6),(0,6),(0,7),(0,7),(0,8),(0,8),(0,9),(0,9),(1,86),(1,86)]),(83886251,kA_D56),(167772502,kA_D57),(181753540,kA_D58),(129324637,[(0,6),(0,6),(0,7),(0,7),(0,12),(0,13),(0,15),(1,162),(1,162),(1,200)]),(129324637,[(0,6),(0,6),(0,7),(0,7),(0,12),(0,13),(0,14),(1,162),(1,162),(1,200)]),(132819898,kA_D62),(132819898,kA_D62),(132819892,[]),(132819892,[]),(132819899,[]),(2,[]),(4,[]),(48933647,[(0,6),(0,6),(0,7),(0,9),(1,86)]),(48933647,[(0,6),(0,7),(0,7),(0,8),(1,86)]),(55924167,kA_D63),(55924167,kA_D63),(55924166,[]),(55924166,[]),(55924168,[]),(111848332,[]),(111848332,[]),(111848334,[]),(265639784,[]),(265639784,[]),(265639786,[]),(188744058,[]),(188744058,[]),(188744060,[]),(188744060,[]),(188744060,[]),(188744065,[]),(188744065,[]),(188744067,[]),(188744067,[]),(377488134,[]),(377488134,[]),(377488136,[]),(188744067,[]),(188744068,[(1,333)]),(188744068,[(1,333)]),(83886251,kA_D50),(167772502,kA_D51),(181753540,kA_D52),(129324637,[(0,6),(0,6),(0,7),(0,7),(0,8),(0,9),(0,11),(1,86),(1,86),(1,124)]),(129324637,[(0,6),(0,6),(0,7),(0,7),(0,8),(0,9),(0,10),(1,86),(1,86),(1,124)]),(132819898,kA_D64),(132819898,kA_D64),(132819892,[]),(132819892,[]),(132819899,[]),(83886251,kA_D59),(167772502,kA_D60),(181753540,kA_D61),(129324637,[(0,6),(0,6),(0,7),(0,7),(0,14),(0,15),(0,17),(1,200),(1,200),(1,238)]),(129324637,[(0,6),(0,6),(0,7),(0,7),(0,14),(0,15),(0,16),(1,200),(1,200),(1,238)]),(132819898,kA_D65),(132819898,kA_D65),(132819892,[]),(132819892,[]),(132819899,[]),(265639784,[]),(265639784,[]),(265639786,[]),(265639784,[]),(265639784,[]),(265639786,[]),(265639784,[]),(265639784,[]),(265639786,[]),(265639791,[]),(265639791,[]),(265639791,[]),(265639791,[]),(265639793,[]),(265639793,[]),(531279586,[]),(531279586,[]),(531279588,[]),(265639793,[]),(265639794,[(1,374)]),(265639794,[(1,374)]),(83886251,kA_D53),(167772502,kA_D54),(181753540,kA_D55),(129324637,[(0,6),(0,6),(0,7),(0,7),(0,10),(0,11),(0,13),(1,124),(1,124),(1,162)]),(129324637,[(0,6),(0,6),(0,7),(0,7),(0,10),(0,11),(0,12),(1,124),(1,124),(1,162)]),(132819898,kA_D66),(132819898,kA_D66),(132819892,[]),(132819892,[]),(132819899,[]),(45438388,kA_D48),(45438388,kA_D49),(45438388,kA_D49),(90876776,[(0,6),(0,6),(0,7),(0,7),(0,17),(0,17),(1,238),(1,238)]),(90876776,[(0,6),(0,6),(0,7),(0,7),(0,16),(0,16),(1,238),(1,238)]),(97867296,[(0,6),(0,6),(0,7),(0,7),(0,16),(0,16),(0,17),(0,17),(1,238),(1,238)]),(265639784,[]),(265639784,[]),(265639786,[]),(90876774,kA_D67),(90876774,kA_D67),(90876776,kA_D67),(90876776,kA_D67),(90876770,[]),(90876770,[]),(90876777,[]),(181753540,[]),(181753540,[]),(181753542,[]),(223696662,[]),(223696662,[]),(223696664,[]),(223696669,[]),(223696669,[]),(223696669,[]),(223696669,[]),(223696671,[]),(223696671,[]),(447393342,[]),(447393342,[]),(447393344,[]),(223696671,[]),(223696672,[(1,418)]),(223696672,[(1,418)]),(454383856,kA_D68),(454383856,kA_D68),(412440734,kA_D69),(412440734,kA_D69),(866824590,kA_D70),(866824590,kA_D70),(866824592,kA_D70)]
abbrev kA_Q (q : Nat→Rat) (σ : Nat→ByteArray) : Prop := ∀ (a : Nat) nd,kA_N[a]? = some nd→q a=valN σ q nd
variable {q : Nat→Rat} {σ : Nat→ByteArray}
theorem kA_wf : wfB 0 kA_N=true := by kernel_rfl
theorem kA_sz : saB kA_E 0 kA_N kA_E kA_Z=true := by kernel_rfl
theorem kA_lt : litB kA_N kA_L=true := by kernel_rfl
theorem kA_cn : canB kA_N kA_C=true := by kernel_rfl
theorem kA_c22 : cst 0 1 1=(1 : Rat) := by decide +kernel
theorem kA_c23 : cst 0 2 1=(2 : Rat) := by decide +kernel
theorem kA_c28 : cst 0 0 1=(0 : Rat) := by decide +kernel
def kA_A : List AV := [(false,[(true,[.inr (2,0,0,0,0),.inr (2,1,0,0,0),.inr (2,2,0,0,0),.inr (2,3,0,0,0),.inr (2,4,0,0,0),.inr (2,5,0,0,0)])]),(false,[(true,[.inr (2,6,0,0,0),.inr (2,7,0,0,0)])]),(false,[(true,[.inr (2,8,0,0,0),.inr (2,9,0,0,0),.inr (2,10,0,0,0),.inr (2,11,0,0,0),.inr (2,12,0,0,0),.inr (2,13,0,0,0),.inr (2,14,0,0,0),.inr (2,15,0,0,0),.inr (2,16,0,0,0),.inr (2,17,0,0,0)])])]
theorem sq2 {x y m1 m2 s : Rat} (h1 : m1=x*x) (h2 : m2=y*y) (hs : s=m1+m2) : s=0 ↔ (x=0∧y=0) := by
 have a1 := sq_facts x
 have a2 := sq_facts y
 subst_vars
 constructor
 ·intro h
  refine ⟨a1.2.1 ?_,a2.2.1 ?_⟩ <;> grind
 ·rintro ⟨h1,h2⟩
  rw [h1,h2]; grind
theorem mul_cancel {k x y : Rat} (h : k ≠ 0) (e : k*x=k*y) : x=y := by
 have : k*(x - y)=0 := by grind
 have := (Rat.mul_eq_zero.1 this).resolve_left h
 grind
def br (ax ay bx by' cx cy : Rat) : Rat := (bx - ax)*(cy - ay) - (by' - ay)*(cx - ax)
def bnd (a c e u v : Rat) : Rat := a*u*u+2*c*u*v+e*v*v
def Sec (al be a c e u v n : Rat) : Prop := bnd a c e u v ≠ 0∧n*bnd a c e u v=2*(al*u+be*v)
def Mt (x1 y1 x2 y2 x3 y3 x4 y4 X Y : Rat) : Prop := ∃ D,D ≠ 0∧D=br x1 y1 x2 y2 x4 y4 - br x1 y1 x2 y2 x3 y3∧X*D=br x1 y1 x2 y2 x4 y4*x3 - br x1 y1 x2 y2 x3 y3*x4∧Y*D=br x1 y1 x2 y2 x4 y4*y3 - br x1 y1 x2 y2 x3 y3*y4
theorem mt_mk {x1 y1 x2 y2 x3 y3 x4 y4 A B C f E F G g l0 l1 l2 o0 o1 o2 tn X Y : Rat} (hA : A=-(y2 - y1)) (hB : B=x2 - x1) (hC : C=-(A*x1+B*y1)) (hE : E=-(y4 - y3)) (hF : F=x4 - x3) (hG : G=-(E*x3+F*y3)) (h0 : l0=A*f) (h1 : l1=B*f) (h2 : l2=C*f) (k0 : o0=E*g) (k1 : o1=F*g) (k2 : o2=G*g) (ht : tn=l0*o1 - l1*o0) (hn : tn ≠ 0) (hX : X=-(o1*l2 - l1*o2) / tn) (hY : Y=(o0*l2 - l0*o2) / tn) : Mt x1 y1 x2 y2 x3 y3 x4 y4 X Y := by
 have eX : X*tn=-(o1*l2 - l1*o2) := by rw [hX]; exact Rat.div_mul_cancel hn
 have eY : Y*tn=o0*l2 - l0*o2 := by rw [hY]; exact Rat.div_mul_cancel hn
 clear hX hY
 subst h0 h1 h2 k0 k1 k2
 have e : tn=f*g*(A*F - B*E) := by rw [ht]; grind
 have hf : f*g ≠ 0 := fun q => hn (by rw [e,q,Rat.zero_mul])
 have hd : A*F - B*E ≠ 0 := fun q => hn (by rw [e,q,Rat.mul_zero])
 refine ⟨A*F - B*E,hd,by rw [hA,hB,hE,hF]; simp only [br]; grind,?_,?_⟩
 ·have : f*g*(X*(A*F - B*E))=f*g*(br x1 y1 x2 y2 x4 y4*x3 - br x1 y1 x2 y2 x3 y3*x4) := by
   have q : f*g*(X*(A*F - B*E))=X*tn := by rw [e]; grind
   rw [q,eX,hC,hG,hA,hB,hE,hF]; simp only [br]; grind
  exact mul_cancel hf this
 ·have : f*g*(Y*(A*F - B*E))=f*g*(br x1 y1 x2 y2 x4 y4*y3 - br x1 y1 x2 y2 x3 y3*y4) := by
   have q : f*g*(Y*(A*F - B*E))=Y*tn := by rw [e]; grind
   rw [q,eY,hC,hG,hA,hB,hE,hF]; simp only [br]; grind
  exact mul_cancel hf this
theorem pas_van (al be a c e u1 v1 u2 v2 u3 v3 : Rat) : (al*u1+be*v1)*(al*u2+be*v2)*bnd a c e u3 v3*(u1*v2 - u2*v1)+(al*u2+be*v2)*(al*u3+be*v3)*bnd a c e u1 v1*(u2*v3 - u3*v2) - (al*u1+be*v1)*(al*u3+be*v3)*bnd a c e u2 v2*(u1*v3 - u3*v1)=(a*be*be - 2*c*al*be+e*al*al)*((u1*v2 - u2*v1)*(u2*v3 - u3*v2)*(u1*v3 - u3*v1)) := by
 simp only [bnd]; grind
theorem pas_br {x z al be a c e u1 v1 n1 u2 v2 n2 u3 v3 n3 : Rat} (h1 : Sec al be a c e u1 v1 n1) (h2 : Sec al be a c e u2 v2 n2) (h3 : Sec al be a c e u3 v3 n3) : br (x - u1*n1) (z - v1*n1) (x - u2*n2) (z - v2*n2) (x - u3*n3) (z - v3*n3)*(bnd a c e u1 v1*bnd a c e u2 v2*bnd a c e u3 v3)=4*(a*be*be - 2*c*al*be+e*al*al)*((u1*v2 - u2*v1)*(u2*v3 - u3*v2)*(u1*v3 - u3*v1)) := by
 have p := pas_van al be a c e u1 v1 u2 v2 u3 v3
 obtain ⟨_,h1⟩ := h1
 obtain ⟨_,h2⟩ := h2
 obtain ⟨_,h3⟩ := h3
 generalize bnd a c e u1 v1=b1 at *
 generalize bnd a c e u2 v2=b2 at *
 generalize bnd a c e u3 v3=b3 at *
 have q : br (x - u1*n1) (z - v1*n1) (x - u2*n2) (z - v2*n2) (x - u3*n3) (z - v3*n3)*(b1*b2*b3)=(n1*b1)*(n2*b2)*b3*(u1*v2 - u2*v1)+(n2*b2)*(n3*b3)*b1*(u2*v3 - u3*v2) - (n1*b1)*(n3*b3)*b2*(u1*v3 - u3*v1) := by simp only [br]; grind
 rw [q,h1,h2,h3]
 have r : 4*(a*be*be - 2*c*al*be+e*al*al)*((u1*v2 - u2*v1)*(u2*v3 - u3*v2)*(u1*v3 - u3*v1))=4*((a*be*be - 2*c*al*be+e*al*al)*((u1*v2 - u2*v1)*(u2*v3 - u3*v2)*(u1*v3 - u3*v1))) := by grind
 rw [r,← p]; grind
theorem br_p (x z u1 v1 n1 u2 v2 n2 : Rat) : br x z (x - u1*n1) (z - v1*n1) (x - u2*n2) (z - v2*n2)=n1*n2*(u1*v2 - u2*v1) := by simp only [br]; grind
theorem br_q (x z u1 v1 n1 u2 v2 n2 : Rat) : br (x - u1*n1) (z - v1*n1) (x - u2*n2) (z - v2*n2) x z=n1*n2*(u1*v2 - u2*v1) := by simp only [br]; grind
theorem pas_sum {K g2 g3 g4 g5 g6 d23 d24 d25 d26 d34 d35 d36 d45 d46 d56 : Rat} (hG : g3*d56 - g5*d36+g6*d35=0) (hD : d24*d56 - d25*d46+d26*d45=0) : g2*g5*d25*(K*(d23*d36*d26))*(g3*g4*d34)*(K*(d45*d56*d46)) - g2*g5*d25*(K*(d23*d36*d26))*(K*(d34*d46*d36))*(g4*g5*d45)+g2*g5*d25*(K*(d23*d35*d25))*(K*(d34*d46*d36))*(g4*g6*d46) - g2*g4*d24*(K*(d23*d35*d25))*(K*(d34*d46*d36))*(g5*g6*d56)=0 := by
 have s : d26*d45*(g3*d56 - g5*d36) - g6*d35*(d24*d56 - d25*d46)=0 := by
  have e1 : g3*d56 - g5*d36=-(g6*d35) := by grind
  have e2 : d24*d56 - d25*d46=-(d26*d45) := by grind
  rw [e1,e2]; grind
 have e : g2*g5*d25*(K*(d23*d36*d26))*(g3*g4*d34)*(K*(d45*d56*d46)) - g2*g5*d25*(K*(d23*d36*d26))*(K*(d34*d46*d36))*(g4*g5*d45)+g2*g5*d25*(K*(d23*d35*d25))*(K*(d34*d46*d36))*(g4*g6*d46) - g2*g4*d24*(K*(d23*d35*d25))*(K*(d34*d46*d36))*(g5*g6*d56)=K*K*g2*g4*g5*d23*d34*d25*d36*d46*(d26*d45*(g3*d56 - g5*d36) - g6*d35*(d24*d56 - d25*d46)) := by
  clear s hG hD; grind
 rw [e,s,Rat.mul_zero]
theorem pas_det (x1 y1 x4 y4 x5 y5 x6 y6 a0 b0 a1 b1 a2 b2 : Rat) : (a0*x4 - b0*x5)*((a1*y5 - b1*y6)*(a2 - b2) - (a2*y6 - b2*y1)*(a1 - b1)) - (a0*y4 - b0*y5)*((a1*x5 - b1*x6)*(a2 - b2) - (a2*x6 - b2*x1)*(a1 - b1))+(a0 - b0)*((a1*x5 - b1*x6)*(a2*y6 - b2*y1) - (a2*x6 - b2*x1)*(a1*y5 - b1*y6))=a0*a1*a2*br x4 y4 x5 y5 x6 y6 - a0*a1*b2*br x4 y4 x5 y5 x1 y1+a0*b1*b2*br x4 y4 x6 y6 x1 y1 - b0*b1*b2*br x5 y5 x6 y6 x1 y1 := by
 simp only [br]; grind
theorem pas_turn {X0 Y0 X1 Y1 X2 Y2 D0 D1 D2 p0 q0 p1 q1 p2 q2 : Rat} (h0 : X0*D0=p0) (k0 : Y0*D0=q0) (h1 : X1*D1=p1) (k1 : Y1*D1=q1) (h2 : X2*D2=p2) (k2 : Y2*D2=q2) : ((X1 - X0)*(Y2 - Y0) - (Y1 - Y0)*(X2 - X0))*(D0*(D1*D2))=p0*(q1*D2 - q2*D1) - q0*(p1*D2 - p2*D1)+D0*(p1*q2 - p2*q1) := by
 rw [← h0,← h1,← h2,← k0,← k1,← k2]; grind
theorem pas_main {x z al be a c e u2 v2 n2 u3 v3 n3 u4 v4 n4 u5 v5 n5 u6 v6 n6 X0 Y0 X1 Y1 X2 Y2 : Rat} (h2 : Sec al be a c e u2 v2 n2) (h3 : Sec al be a c e u3 v3 n3) (h4 : Sec al be a c e u4 v4 n4) (h5 : Sec al be a c e u5 v5 n5) (h6 : Sec al be a c e u6 v6 n6)
  (m0 : Mt x z (x - u2*n2) (z - v2*n2) (x - u4*n4) (z - v4*n4) (x - u5*n5) (z - v5*n5) X0 Y0) (m1 : Mt (x - u2*n2) (z - v2*n2) (x - u3*n3) (z - v3*n3) (x - u5*n5) (z - v5*n5) (x - u6*n6) (z - v6*n6) X1 Y1) (m2 : Mt (x - u3*n3) (z - v3*n3) (x - u4*n4) (z - v4*n4) (x - u6*n6) (z - v6*n6) x z X2 Y2) : (X1 - X0)*(Y2 - Y0) - (Y1 - Y0)*(X2 - X0)=0 := by
 obtain ⟨D0,n0,d0,hX0,hY0⟩ := m0
 obtain ⟨D1,n1,d1,hX1,hY1⟩ := m1
 obtain ⟨D2,n2',d2,hX2,hY2⟩ := m2
 have t := pas_turn hX0 hY0 hX1 hY1 hX2 hY2
 have b236 := pas_br (x := x) (z := z) h2 h3 h6
 have b456 := pas_br (x := x) (z := z) h4 h5 h6
 have b346 := pas_br (x := x) (z := z) h3 h4 h6
 have b235 := pas_br (x := x) (z := z) h2 h3 h5
 have hne : D0*(D1*D2) ≠ 0 := mul_ne n0 (mul_ne n1 n2')
 subst d0 d1 d2
 rw [pas_det x z (x - u4*n4) (z - v4*n4) (x - u5*n5) (z - v5*n5) (x - u6*n6) (z - v6*n6)] at t
 generalize (X1 - X0)*(Y2 - Y0) - (Y1 - Y0)*(X2 - X0)=W at *
 clear hX0 hY0 hX1 hY1 hX2 hY2 n0 n1 n2'
 generalize (br x z (x - u2*n2) (z - v2*n2) (x - u5*n5) (z - v5*n5) - br x z (x - u2*n2) (z - v2*n2) (x - u4*n4) (z - v4*n4))*((br (x - u2*n2) (z - v2*n2) (x - u3*n3) (z - v3*n3) (x - u6*n6) (z - v6*n6) - br (x - u2*n2) (z - v2*n2) (x - u3*n3) (z - v3*n3) (x - u5*n5) (z - v5*n5))*(br (x - u3*n3) (z - v3*n3) (x - u4*n4) (z - v4*n4) x z - br (x - u3*n3) (z - v3*n3) (x - u4*n4) (z - v4*n4) (x - u6*n6) (z - v6*n6)))=DD at t hne
 rw [br_p x z u2 v2 n2 u5 v5 n5,br_p x z u2 v2 n2 u4 v4 n4,br_q x z u3 v3 n3 u4 v4 n4,br_q x z u4 v4 n4 u5 v5 n5,br_q x z u4 v4 n4 u6 v6 n6,br_q x z u5 v5 n5 u6 v6 n6] at t
 generalize br (x - u2*n2) (z - v2*n2) (x - u3*n3) (z - v3*n3) (x - u6*n6) (z - v6*n6)=A at *
 generalize br (x - u4*n4) (z - v4*n4) (x - u5*n5) (z - v5*n5) (x - u6*n6) (z - v6*n6)=B at *
 generalize br (x - u3*n3) (z - v3*n3) (x - u4*n4) (z - v4*n4) (x - u6*n6) (z - v6*n6)=C at *
 generalize br (x - u2*n2) (z - v2*n2) (x - u3*n3) (z - v3*n3) (x - u5*n5) (z - v5*n5)=D at *
 obtain ⟨k2,h2⟩ := h2
 obtain ⟨k3,h3⟩ := h3
 obtain ⟨k4,h4⟩ := h4
 obtain ⟨k5,h5⟩ := h5
 obtain ⟨k6,h6⟩ := h6
 generalize bnd a c e u2 v2=b2 at *
 generalize bnd a c e u3 v3=b3 at *
 generalize bnd a c e u4 v4=b4 at *
 generalize bnd a c e u5 v5=b5 at *
 generalize bnd a c e u6 v6=b6 at *
 have s := pas_sum (K := 4*(a*be*be - 2*c*al*be+e*al*al)) (g2 := 2*(al*u2+be*v2)) (g3 := 2*(al*u3+be*v3)) (g4 := 2*(al*u4+be*v4)) (g5 := 2*(al*u5+be*v5)) (g6 := 2*(al*u6+be*v6)) (d23 := u2*v3 - u3*v2) (d24 := u2*v4 - u4*v2) (d25 := u2*v5 - u5*v2) (d26 := u2*v6 - u6*v2) (d34 := u3*v4 - u4*v3) (d35 := u3*v5 - u5*v3) (d36 := u3*v6 - u6*v3) (d45 := u4*v5 - u5*v4) (d46 := u4*v6 - u6*v4) (d56 := u5*v6 - u6*v5) (by clear t b236 b456 b346 b235 h2 h3 h4 h5 h6; grind) (by clear t b236 b456 b346 b235 h2 h3 h4 h5 h6; grind)
 rw [← b236,← b456,← b346,← b235,← h2,← h3,← h4,← h5,← h6] at s
 have hb : b2*b3*b4*b5*b6 ≠ 0 := mul_ne (mul_ne (mul_ne (mul_ne k2 k3) k4) k5) k6
 have f : W*DD*(b2*b3*b4*b5*b6*(b2*b3*b4*b5*b6))=0 := by
  rw [t,← s]
  clear t s b236 b456 b346 b235 h2 h3 h4 h5 h6 hb hne k2 k3 k4 k5 k6
  generalize u2*v5 - u5*v2=d25
  generalize u3*v4 - u4*v3=d34
  generalize u4*v5 - u5*v4=d45
  generalize u4*v6 - u6*v4=d46
  generalize u2*v4 - u4*v2=d24
  generalize u5*v6 - u6*v5=d56
  grind
 exact (Rat.mul_eq_zero.1 ((Rat.mul_eq_zero.1 f).resolve_right (mul_ne hb hb))).resolve_right hne
theorem sec_par {al be a c e u1 v1 n1 u2 v2 n2 : Rat} (h1 : Sec al be a c e u1 v1 n1) (h2 : Sec al be a c e u2 v2 n2) (hd : u1*v2 - u2*v1=0) : u1*n1=u2*n2∧v1*n1=v2*n2 := by
 obtain ⟨k1,h1⟩ := h1
 obtain ⟨k2,h2⟩ := h2
 have p : (al*u1+be*v1)*u1*bnd a c e u2 v2=(al*u2+be*v2)*u2*bnd a c e u1 v1∧(al*u1+be*v1)*v1*bnd a c e u2 v2=(al*u2+be*v2)*v2*bnd a c e u1 v1 := by
  simp only [bnd]
  clear h1 h2 k1 k2
  constructor <;> grind
 generalize bnd a c e u1 v1=b1 at *
 generalize bnd a c e u2 v2=b2 at *
 refine ⟨mul_cancel (mul_ne k1 k2) ?_,mul_cancel (mul_ne k1 k2) ?_⟩
 ·have e1 : b1*b2*(u1*n1)=n1*b1*u1*b2 := by clear p h1 h2; grind
  have e2 : b1*b2*(u2*n2)=n2*b2*u2*b1 := by clear p h1 h2; grind
  rw [e1,e2,h1,h2]
  have := p.1
  clear p h1 h2; grind
 ·have e1 : b1*b2*(v1*n1)=n1*b1*v1*b2 := by clear p h1 h2; grind
  have e2 : b1*b2*(v2*n2)=n2*b2*v2*b1 := by clear p h1 h2; grind
  rw [e1,e2,h1,h2]
  have := p.2
  clear p h1 h2; grind
theorem sec_cross {al be a c e u1 v1 n1 u2 v2 n2 : Rat} (h1 : Sec al be a c e u1 v1 n1) (h2 : Sec al be a c e u2 v2 n2) (hp : (u1*n1)*(v2*n2) - (v1*n1)*(u2*n2)=0) (hn : ¬ (u1*n1=u2*n2∧v1*n1=v2*n2)) : n1=0 ∨ n2=0 := by
 have : n1*(n2*(u1*v2 - u2*v1))=0 := by rw [← hp]; grind
 rcases Rat.mul_eq_zero.1 this with h | h
 ·exact Or.inl h
 ·rcases Rat.mul_eq_zero.1 h with h | h
  ·exact Or.inr h
  ·exact absurd (sec_par h1 h2 h) hn
theorem pas_core {al be a c e x z u1 v1 n1 u2 v2 n2 u3 v3 n3 A B C E F G s : Rat} (h1 : Sec al be a c e u1 v1 n1) (h2 : Sec al be a c e u2 v2 n2) (h3 : Sec al be a c e u3 v3 n3)
  (hs : s ≠ 0) (hA : A=s*(v1*n1)) (hB : B=-(s*(u1*n1))) (hC : A*x+B*z+C=0) (q1 : ¬ (A=0∧B=0)) (hE : E=v3*n3 - v2*n2) (hF : F=u2*n2 - u3*n3) (hG : E*(x - u2*n2)+F*(z - v2*n2)+G=0)
  (n12 : ¬ (u1*n1=u2*n2∧v1*n1=v2*n2)) (n13 : ¬ (u1*n1=u3*n3∧v1*n1=v3*n3)) (n23 : ¬ (u2*n2=u3*n3∧v2*n2=v3*n3)) (r0 : A*F - B*E=0) (r1 : E*C - A*G=0) (r2 : F*C - B*G=0) : False := by
 have a1 : E*x+F*z+G=0 := by
  have p : A*(E*x+F*z+G)=0 := by
   have : A*(E*x+F*z+G)=E*(A*x+B*z+C)+z*(A*F - B*E) - (E*C - A*G) := by clear hA hB hE hF; grind
   rw [this,hC,r0,r1]; grind
  have p2 : B*(E*x+F*z+G)=0 := by
   have : B*(E*x+F*z+G)=F*(A*x+B*z+C) - x*(A*F - B*E) - (F*C - B*G) := by clear hA hB hE hF; grind
   rw [this,hC,r0,r2]; grind
  by_cases h : A=0
  ·exact (Rat.mul_eq_zero.1 p2).resolve_left fun k => q1 ⟨h,k⟩
  ·exact (Rat.mul_eq_zero.1 p).resolve_left h
 have q2 : ¬ (E=0∧F=0) := fun ⟨k1,k2⟩ => n23 ⟨by rw [hF] at k2; grind,by rw [hE] at k1; grind⟩
 have a2 : A*(x - u2*n2)+B*(z - v2*n2)+C=0 := by
  have p : E*(A*(x - u2*n2)+B*(z - v2*n2)+C)=0 := by
   have : E*(A*(x - u2*n2)+B*(z - v2*n2)+C)=A*(E*(x - u2*n2)+F*(z - v2*n2)+G) - (z - v2*n2)*(A*F - B*E)+(E*C - A*G) := by clear hA hB hE hF; grind
   rw [this,hG,r0,r1]; grind
  have p2 : F*(A*(x - u2*n2)+B*(z - v2*n2)+C)=0 := by
   have : F*(A*(x - u2*n2)+B*(z - v2*n2)+C)=B*(E*(x - u2*n2)+F*(z - v2*n2)+G)+(x - u2*n2)*(A*F - B*E)+(F*C - B*G) := by clear hA hB hE hF; grind
   rw [this,hG,r0,r2]; grind
  by_cases h : E=0
  ·exact (Rat.mul_eq_zero.1 p2).resolve_left fun k => q2 ⟨h,k⟩
  ·exact (Rat.mul_eq_zero.1 p).resolve_left h
 have c12 : (u1*n1)*(v2*n2) - (v1*n1)*(u2*n2)=0 := by
  have : s*((u1*n1)*(v2*n2) - (v1*n1)*(u2*n2))=0 := by
   have k : A*(u2*n2)+B*(v2*n2)=0 := by clear hA hB hE hF; grind
   rw [hA,hB] at k; grind
  exact (Rat.mul_eq_zero.1 this).resolve_left hs
 have c13 : (u1*n1)*(v3*n3) - (v1*n1)*(u3*n3)=0 := by
  have : s*((u1*n1)*(v3*n3) - (v1*n1)*(u3*n3))=0 := by
   have k : A*F - B*E=0 := r0
   rw [hA,hB,hE,hF] at k
   have : s*((u1*n1)*(v3*n3) - (v1*n1)*(u3*n3))=(s*(v1*n1)*(u2*n2 - u3*n3) - -(s*(u1*n1))*(v3*n3 - v2*n2))+s*((u1*n1)*(v2*n2) - (v1*n1)*(u2*n2)) := by grind
   rw [this,k,c12]; grind
  exact (Rat.mul_eq_zero.1 this).resolve_left hs
 have z1 : n1 ≠ 0 := fun h => q1 ⟨by rw [hA,h]; grind,by rw [hB,h]; grind⟩
 have z2 := (sec_cross h1 h2 c12 n12).resolve_left z1
 have z3 := (sec_cross h1 h3 c13 n13).resolve_left z1
 exact n23 ⟨by rw [z2,z3]; grind,by rw [z2,z3]; grind⟩
theorem cross_out {A B C E F G f g l0 l1 l2 o0 o1 o2 : Rat} (hf : f ≠ 0) (hg : g ≠ 0) (k0 : l0=A*f) (k1 : l1=B*f) (k2 : l2=C*f) (m0 : o0=E*g) (m1 : o1=F*g) (m2 : o2=G*g) (t0 : l0*o1 - l1*o0=0) (t1 : o0*l2 - l0*o2=0) (t2 : o1*l2 - l1*o2=0) : A*F - B*E=0∧E*C - A*G=0∧F*C - B*G=0 := by
 subst k0 k1 k2 m0 m1 m2
 have h := mul_ne hf hg
 refine ⟨(Rat.mul_eq_zero.1 (show f*g*(A*F - B*E)=0 by rw [← t0]; grind)).resolve_left h,(Rat.mul_eq_zero.1 (show f*g*(E*C - A*G)=0 by rw [← t1]; grind)).resolve_left h,(Rat.mul_eq_zero.1 (show f*g*(F*C - B*G)=0 by rw [← t2]; grind)).resolve_left h⟩
theorem fac3_out {a b c : Rat} (h : ¬ (a=0∧b=0)) : fac [a,b,c] ≠ 0 := fun e => h ⟨fac_zero (by simp) e,fac_zero (by simp) e⟩
theorem kA_S0z {z0 z1 z2 z3 z4 z5 z15 z16 z20 z21 z22 z23 z24 z25 z26 z28 z57 z58 z59 z60 z61 z62 z63 z64 z65 z66 z67 z68 z69 z70 z71 z72 z73 z74 z75 z76 z77 z78 z79 z80 z81 z82 z83 z84 z85 z86 z87 z88 : Rat} : z22=1→z23=2→z24=z0*z23→z25=z2*z23→z26=z5*z23→z28=0→z57=z24*z15→z58=z28+z57→z59=z1*z16→z60=z58+z59→z61=z3*z28→z62=z60+z61→z63=z1*z15→z64=z28+z63→z65=z25*z16→z66=z64+z65→z67=z4*z28→z68=z66+z67→z69=z3*z15→z70=z28+z69→z71=z4*z16→z72=z70+z71→z73=z26*z28→z74=z72+z73→z75=z20*z62→z76=z28+z75→z77=z21*z68→z78=z76+z77→z79=z22*z74→z80=z78+z79→z81=z15*z62→z82=z28+z81→z83=z16*z68→z84=z82+z83→z85=z28*z74→z86=z84+z85→z87=z23*z80→z88=z87/z86→(¬ (z86=0))→(Sec (2*z0*z20+z1*z21+z3) (z1*z20+2*z2*z21+z4) (2*z0) z1 (2*z2) z15 z16 z88) := by
 intro e22 e23 e24 e25 e26 e28 e57 e58 e59 e60 e61 e62 e63 e64 e65 e66 e67 e68 e69 e70 e71 e72 e73 e74 e75 e76 e77 e78 e79 e80 e81 e82 e83 e84 e85 e86 e87 e88
 intro u0
 have eb : z86=bnd (2*z0) z1 (2*z2) z15 z16 := by
  clear u0 e88; simp only [bnd]; subst e22 e23 e24 e25 e26 e28 e57 e58 e59 e60 e61 e62 e63 e64 e65 e66 e67 e68 e69 e70 e71 e72 e73 e74 e75 e76 e77 e78 e79 e80 e81 e82 e83 e84 e85 e86 e87; grind
 have eg : z87=2*((2*z0*z20+z1*z21+z3)*z15+(z1*z20+2*z2*z21+z4)*z16) := by
  clear u0 e88 eb; subst e22 e23 e24 e25 e26 e28 e57 e58 e59 e60 e61 e62 e63 e64 e65 e66 e67 e68 e69 e70 e71 e72 e73 e74 e75 e76 e77 e78 e79 e80 e81 e82 e83 e84 e85 e86 e87; grind
 have en : z88*z86=z87 := by rw [e88]; exact Rat.div_mul_cancel u0
 rw [eb] at u0 en
 rw [eg] at en
 exact ⟨u0,en⟩
theorem kA_S0 (H : kA_Q q σ) : (¬ (q 86=0))→(Sec (2*q 0*q 20+q 1*q 21+q 3) (q 1*q 20+2*q 2*q 21+q 4) (2*q 0) (q 1) (2*q 2) (q 15) (q 16) (q 88)) := by
 have e22:q 22=1:=(H 22 _ rfl).trans kA_c22;have e23:q 23=2:=(H 23 _ rfl).trans kA_c23;have e24:q 24=q 0*q 23:=H 24 _ rfl;have e25:q 25=q 2*q 23:=H 25 _ rfl;have e26:q 26=q 5*q 23:=H 26 _ rfl;have e28:q 28=0:=(H 28 _ rfl).trans kA_c28;have e57:q 57=q 24*q 15:=H 57 _ rfl;have e58:q 58=q 28+q 57:=H 58 _ rfl;have e59:q 59=q 1*q 16:=H 59 _ rfl;have e60:q 60=q 58+q 59:=H 60 _ rfl;have e61:q 61=q 3*q 28:=H 61 _ rfl;have e62:q 62=q 60+q 61:=H 62 _ rfl;have e63:q 63=q 1*q 15:=H 63 _ rfl;have e64:q 64=q 28+q 63:=H 64 _ rfl;have e65:q 65=q 25*q 16:=H 65 _ rfl;have e66:q 66=q 64+q 65:=H 66 _ rfl;have e67:q 67=q 4*q 28:=H 67 _ rfl;have e68:q 68=q 66+q 67:=H 68 _ rfl;have e69:q 69=q 3*q 15:=H 69 _ rfl;have e70:q 70=q 28+q 69:=H 70 _ rfl;have e71:q 71=q 4*q 16:=H 71 _ rfl;have e72:q 72=q 70+q 71:=H 72 _ rfl;have e73:q 73=q 26*q 28:=H 73 _ rfl;have e74:q 74=q 72+q 73:=H 74 _ rfl;have e75:q 75=q 20*q 62:=H 75 _ rfl;have e76:q 76=q 28+q 75:=H 76 _ rfl;have e77:q 77=q 21*q 68:=H 77 _ rfl;have e78:q 78=q 76+q 77:=H 78 _ rfl;have e79:q 79=q 22*q 74:=H 79 _ rfl;have e80:q 80=q 78+q 79:=H 80 _ rfl;have e81:q 81=q 15*q 62:=H 81 _ rfl;have e82:q 82=q 28+q 81:=H 82 _ rfl;have e83:q 83=q 16*q 68:=H 83 _ rfl;have e84:q 84=q 82+q 83:=H 84 _ rfl;have e85:q 85=q 28*q 74:=H 85 _ rfl;have e86:q 86=q 84+q 85:=H 86 _ rfl;have e87:q 87=q 23*q 80:=H 87 _ rfl;have e88:q 88=q 87/q 86:=H 88 _ rfl
 exact kA_S0z e22 e23 e24 e25 e26 e28 e57 e58 e59 e60 e61 e62 e63 e64 e65 e66 e67 e68 e69 e70 e71 e72 e73 e74 e75 e76 e77 e78 e79 e80 e81 e82 e83 e84 e85 e86 e87 e88
theorem kA_S1z {z0 z1 z2 z3 z4 z5 z20 z21 z22 z23 z24 z25 z26 z28 z61 z67 z73 z93 z94 z98 z99 z100 z101 z102 z103 z104 z105 z106 z107 z108 z109 z110 z111 z112 z113 z114 z115 z116 z117 z118 z119 z120 z121 z122 z123 z124 z125 z126 : Rat} : z22=1→z23=2→z24=z0*z23→z25=z2*z23→z26=z5*z23→z28=0→z61=z3*z28→z67=z4*z28→z73=z26*z28→z98=z24*z93→z99=z28+z98→z100=z1*z94→z101=z99+z100→z102=z101+z61→z103=z1*z93→z104=z28+z103→z105=z25*z94→z106=z104+z105→z107=z106+z67→z108=z3*z93→z109=z28+z108→z110=z4*z94→z111=z109+z110→z112=z111+z73→z113=z20*z102→z114=z28+z113→z115=z21*z107→z116=z114+z115→z117=z22*z112→z118=z116+z117→z119=z93*z102→z120=z28+z119→z121=z94*z107→z122=z120+z121→z123=z28*z112→z124=z122+z123→z125=z23*z118→z126=z125/z124→(¬ (z124=0))→(Sec (2*z0*z20+z1*z21+z3) (z1*z20+2*z2*z21+z4) (2*z0) z1 (2*z2) z93 z94 z126) := by
 intro e22 e23 e24 e25 e26 e28 e61 e67 e73 e98 e99 e100 e101 e102 e103 e104 e105 e106 e107 e108 e109 e110 e111 e112 e113 e114 e115 e116 e117 e118 e119 e120 e121 e122 e123 e124 e125 e126
 intro u0
 have eb : z124=bnd (2*z0) z1 (2*z2) z93 z94 := by
  clear u0 e126; simp only [bnd]; subst e22 e23 e24 e25 e26 e28 e61 e67 e73 e98 e99 e100 e101 e102 e103 e104 e105 e106 e107 e108 e109 e110 e111 e112 e113 e114 e115 e116 e117 e118 e119 e120 e121 e122 e123 e124 e125; grind
 have eg : z125=2*((2*z0*z20+z1*z21+z3)*z93+(z1*z20+2*z2*z21+z4)*z94) := by
  clear u0 e126 eb; subst e22 e23 e24 e25 e26 e28 e61 e67 e73 e98 e99 e100 e101 e102 e103 e104 e105 e106 e107 e108 e109 e110 e111 e112 e113 e114 e115 e116 e117 e118 e119 e120 e121 e122 e123 e124 e125; grind
 have en : z126*z124=z125 := by rw [e126]; exact Rat.div_mul_cancel u0
 rw [eb] at u0 en
 rw [eg] at en
 exact ⟨u0,en⟩
theorem kA_S1 (H : kA_Q q σ) : (¬ (q 124=0))→(Sec (2*q 0*q 20+q 1*q 21+q 3) (q 1*q 20+2*q 2*q 21+q 4) (2*q 0) (q 1) (2*q 2) (q 93) (q 94) (q 126)) := by
 have e22:q 22=1:=(H 22 _ rfl).trans kA_c22;have e23:q 23=2:=(H 23 _ rfl).trans kA_c23;have e24:q 24=q 0*q 23:=H 24 _ rfl;have e25:q 25=q 2*q 23:=H 25 _ rfl;have e26:q 26=q 5*q 23:=H 26 _ rfl;have e28:q 28=0:=(H 28 _ rfl).trans kA_c28;have e61:q 61=q 3*q 28:=H 61 _ rfl;have e67:q 67=q 4*q 28:=H 67 _ rfl;have e73:q 73=q 26*q 28:=H 73 _ rfl;have e98:q 98=q 24*q 93:=H 98 _ rfl;have e99:q 99=q 28+q 98:=H 99 _ rfl;have e100:q 100=q 1*q 94:=H 100 _ rfl;have e101:q 101=q 99+q 100:=H 101 _ rfl;have e102:q 102=q 101+q 61:=H 102 _ rfl;have e103:q 103=q 1*q 93:=H 103 _ rfl;have e104:q 104=q 28+q 103:=H 104 _ rfl;have e105:q 105=q 25*q 94:=H 105 _ rfl;have e106:q 106=q 104+q 105:=H 106 _ rfl;have e107:q 107=q 106+q 67:=H 107 _ rfl;have e108:q 108=q 3*q 93:=H 108 _ rfl;have e109:q 109=q 28+q 108:=H 109 _ rfl;have e110:q 110=q 4*q 94:=H 110 _ rfl;have e111:q 111=q 109+q 110:=H 111 _ rfl;have e112:q 112=q 111+q 73:=H 112 _ rfl;have e113:q 113=q 20*q 102:=H 113 _ rfl;have e114:q 114=q 28+q 113:=H 114 _ rfl;have e115:q 115=q 21*q 107:=H 115 _ rfl;have e116:q 116=q 114+q 115:=H 116 _ rfl;have e117:q 117=q 22*q 112:=H 117 _ rfl;have e118:q 118=q 116+q 117:=H 118 _ rfl;have e119:q 119=q 93*q 102:=H 119 _ rfl;have e120:q 120=q 28+q 119:=H 120 _ rfl;have e121:q 121=q 94*q 107:=H 121 _ rfl;have e122:q 122=q 120+q 121:=H 122 _ rfl;have e123:q 123=q 28*q 112:=H 123 _ rfl;have e124:q 124=q 122+q 123:=H 124 _ rfl;have e125:q 125=q 23*q 118:=H 125 _ rfl;have e126:q 126=q 125/q 124:=H 126 _ rfl
 exact kA_S1z e22 e23 e24 e25 e26 e28 e61 e67 e73 e98 e99 e100 e101 e102 e103 e104 e105 e106 e107 e108 e109 e110 e111 e112 e113 e114 e115 e116 e117 e118 e119 e120 e121 e122 e123 e124 e125 e126
theorem kA_S2z {z0 z1 z2 z3 z4 z5 z20 z21 z22 z23 z24 z25 z26 z28 z61 z67 z73 z131 z132 z136 z137 z138 z139 z140 z141 z142 z143 z144 z145 z146 z147 z148 z149 z150 z151 z152 z153 z154 z155 z156 z157 z158 z159 z160 z161 z162 z163 z164 : Rat} : z22=1→z23=2→z24=z0*z23→z25=z2*z23→z26=z5*z23→z28=0→z61=z3*z28→z67=z4*z28→z73=z26*z28→z136=z24*z131→z137=z28+z136→z138=z1*z132→z139=z137+z138→z140=z139+z61→z141=z1*z131→z142=z28+z141→z143=z25*z132→z144=z142+z143→z145=z144+z67→z146=z3*z131→z147=z28+z146→z148=z4*z132→z149=z147+z148→z150=z149+z73→z151=z20*z140→z152=z28+z151→z153=z21*z145→z154=z152+z153→z155=z22*z150→z156=z154+z155→z157=z131*z140→z158=z28+z157→z159=z132*z145→z160=z158+z159→z161=z28*z150→z162=z160+z161→z163=z23*z156→z164=z163/z162→(¬ (z162=0))→(Sec (2*z0*z20+z1*z21+z3) (z1*z20+2*z2*z21+z4) (2*z0) z1 (2*z2) z131 z132 z164) := by
 intro e22 e23 e24 e25 e26 e28 e61 e67 e73 e136 e137 e138 e139 e140 e141 e142 e143 e144 e145 e146 e147 e148 e149 e150 e151 e152 e153 e154 e155 e156 e157 e158 e159 e160 e161 e162 e163 e164
 intro u0
 have eb : z162=bnd (2*z0) z1 (2*z2) z131 z132 := by
  clear u0 e164; simp only [bnd]; subst e22 e23 e24 e25 e26 e28 e61 e67 e73 e136 e137 e138 e139 e140 e141 e142 e143 e144 e145 e146 e147 e148 e149 e150 e151 e152 e153 e154 e155 e156 e157 e158 e159 e160 e161 e162 e163; grind
 have eg : z163=2*((2*z0*z20+z1*z21+z3)*z131+(z1*z20+2*z2*z21+z4)*z132) := by
  clear u0 e164 eb; subst e22 e23 e24 e25 e26 e28 e61 e67 e73 e136 e137 e138 e139 e140 e141 e142 e143 e144 e145 e146 e147 e148 e149 e150 e151 e152 e153 e154 e155 e156 e157 e158 e159 e160 e161 e162 e163; grind
 have en : z164*z162=z163 := by rw [e164]; exact Rat.div_mul_cancel u0
 rw [eb] at u0 en
 rw [eg] at en
 exact ⟨u0,en⟩
theorem kA_S2 (H : kA_Q q σ) : (¬ (q 162=0))→(Sec (2*q 0*q 20+q 1*q 21+q 3) (q 1*q 20+2*q 2*q 21+q 4) (2*q 0) (q 1) (2*q 2) (q 131) (q 132) (q 164)) := by
 have e22:q 22=1:=(H 22 _ rfl).trans kA_c22;have e23:q 23=2:=(H 23 _ rfl).trans kA_c23;have e24:q 24=q 0*q 23:=H 24 _ rfl;have e25:q 25=q 2*q 23:=H 25 _ rfl;have e26:q 26=q 5*q 23:=H 26 _ rfl;have e28:q 28=0:=(H 28 _ rfl).trans kA_c28;have e61:q 61=q 3*q 28:=H 61 _ rfl;have e67:q 67=q 4*q 28:=H 67 _ rfl;have e73:q 73=q 26*q 28:=H 73 _ rfl;have e136:q 136=q 24*q 131:=H 136 _ rfl;have e137:q 137=q 28+q 136:=H 137 _ rfl;have e138:q 138=q 1*q 132:=H 138 _ rfl;have e139:q 139=q 137+q 138:=H 139 _ rfl;have e140:q 140=q 139+q 61:=H 140 _ rfl;have e141:q 141=q 1*q 131:=H 141 _ rfl;have e142:q 142=q 28+q 141:=H 142 _ rfl;have e143:q 143=q 25*q 132:=H 143 _ rfl;have e144:q 144=q 142+q 143:=H 144 _ rfl;have e145:q 145=q 144+q 67:=H 145 _ rfl;have e146:q 146=q 3*q 131:=H 146 _ rfl;have e147:q 147=q 28+q 146:=H 147 _ rfl;have e148:q 148=q 4*q 132:=H 148 _ rfl;have e149:q 149=q 147+q 148:=H 149 _ rfl;have e150:q 150=q 149+q 73:=H 150 _ rfl;have e151:q 151=q 20*q 140:=H 151 _ rfl;have e152:q 152=q 28+q 151:=H 152 _ rfl;have e153:q 153=q 21*q 145:=H 153 _ rfl;have e154:q 154=q 152+q 153:=H 154 _ rfl;have e155:q 155=q 22*q 150:=H 155 _ rfl;have e156:q 156=q 154+q 155:=H 156 _ rfl;have e157:q 157=q 131*q 140:=H 157 _ rfl;have e158:q 158=q 28+q 157:=H 158 _ rfl;have e159:q 159=q 132*q 145:=H 159 _ rfl;have e160:q 160=q 158+q 159:=H 160 _ rfl;have e161:q 161=q 28*q 150:=H 161 _ rfl;have e162:q 162=q 160+q 161:=H 162 _ rfl;have e163:q 163=q 23*q 156:=H 163 _ rfl;have e164:q 164=q 163/q 162:=H 164 _ rfl
 exact kA_S2z e22 e23 e24 e25 e26 e28 e61 e67 e73 e136 e137 e138 e139 e140 e141 e142 e143 e144 e145 e146 e147 e148 e149 e150 e151 e152 e153 e154 e155 e156 e157 e158 e159 e160 e161 e162 e163 e164
theorem kA_S3z {z0 z1 z2 z3 z4 z5 z20 z21 z22 z23 z24 z25 z26 z28 z61 z67 z73 z169 z170 z174 z175 z176 z177 z178 z179 z180 z181 z182 z183 z184 z185 z186 z187 z188 z189 z190 z191 z192 z193 z194 z195 z196 z197 z198 z199 z200 z201 z202 : Rat} : z22=1→z23=2→z24=z0*z23→z25=z2*z23→z26=z5*z23→z28=0→z61=z3*z28→z67=z4*z28→z73=z26*z28→z174=z24*z169→z175=z28+z174→z176=z1*z170→z177=z175+z176→z178=z177+z61→z179=z1*z169→z180=z28+z179→z181=z25*z170→z182=z180+z181→z183=z182+z67→z184=z3*z169→z185=z28+z184→z186=z4*z170→z187=z185+z186→z188=z187+z73→z189=z20*z178→z190=z28+z189→z191=z21*z183→z192=z190+z191→z193=z22*z188→z194=z192+z193→z195=z169*z178→z196=z28+z195→z197=z170*z183→z198=z196+z197→z199=z28*z188→z200=z198+z199→z201=z23*z194→z202=z201/z200→(¬ (z200=0))→(Sec (2*z0*z20+z1*z21+z3) (z1*z20+2*z2*z21+z4) (2*z0) z1 (2*z2) z169 z170 z202) := by
 intro e22 e23 e24 e25 e26 e28 e61 e67 e73 e174 e175 e176 e177 e178 e179 e180 e181 e182 e183 e184 e185 e186 e187 e188 e189 e190 e191 e192 e193 e194 e195 e196 e197 e198 e199 e200 e201 e202
 intro u0
 have eb : z200=bnd (2*z0) z1 (2*z2) z169 z170 := by
  clear u0 e202; simp only [bnd]; subst e22 e23 e24 e25 e26 e28 e61 e67 e73 e174 e175 e176 e177 e178 e179 e180 e181 e182 e183 e184 e185 e186 e187 e188 e189 e190 e191 e192 e193 e194 e195 e196 e197 e198 e199 e200 e201; grind
 have eg : z201=2*((2*z0*z20+z1*z21+z3)*z169+(z1*z20+2*z2*z21+z4)*z170) := by
  clear u0 e202 eb; subst e22 e23 e24 e25 e26 e28 e61 e67 e73 e174 e175 e176 e177 e178 e179 e180 e181 e182 e183 e184 e185 e186 e187 e188 e189 e190 e191 e192 e193 e194 e195 e196 e197 e198 e199 e200 e201; grind
 have en : z202*z200=z201 := by rw [e202]; exact Rat.div_mul_cancel u0
 rw [eb] at u0 en
 rw [eg] at en
 exact ⟨u0,en⟩
theorem kA_S3 (H : kA_Q q σ) : (¬ (q 200=0))→(Sec (2*q 0*q 20+q 1*q 21+q 3) (q 1*q 20+2*q 2*q 21+q 4) (2*q 0) (q 1) (2*q 2) (q 169) (q 170) (q 202)) := by
 have e22:q 22=1:=(H 22 _ rfl).trans kA_c22;have e23:q 23=2:=(H 23 _ rfl).trans kA_c23;have e24:q 24=q 0*q 23:=H 24 _ rfl;have e25:q 25=q 2*q 23:=H 25 _ rfl;have e26:q 26=q 5*q 23:=H 26 _ rfl;have e28:q 28=0:=(H 28 _ rfl).trans kA_c28;have e61:q 61=q 3*q 28:=H 61 _ rfl;have e67:q 67=q 4*q 28:=H 67 _ rfl;have e73:q 73=q 26*q 28:=H 73 _ rfl;have e174:q 174=q 24*q 169:=H 174 _ rfl;have e175:q 175=q 28+q 174:=H 175 _ rfl;have e176:q 176=q 1*q 170:=H 176 _ rfl;have e177:q 177=q 175+q 176:=H 177 _ rfl;have e178:q 178=q 177+q 61:=H 178 _ rfl;have e179:q 179=q 1*q 169:=H 179 _ rfl;have e180:q 180=q 28+q 179:=H 180 _ rfl;have e181:q 181=q 25*q 170:=H 181 _ rfl;have e182:q 182=q 180+q 181:=H 182 _ rfl;have e183:q 183=q 182+q 67:=H 183 _ rfl;have e184:q 184=q 3*q 169:=H 184 _ rfl;have e185:q 185=q 28+q 184:=H 185 _ rfl;have e186:q 186=q 4*q 170:=H 186 _ rfl;have e187:q 187=q 185+q 186:=H 187 _ rfl;have e188:q 188=q 187+q 73:=H 188 _ rfl;have e189:q 189=q 20*q 178:=H 189 _ rfl;have e190:q 190=q 28+q 189:=H 190 _ rfl;have e191:q 191=q 21*q 183:=H 191 _ rfl;have e192:q 192=q 190+q 191:=H 192 _ rfl;have e193:q 193=q 22*q 188:=H 193 _ rfl;have e194:q 194=q 192+q 193:=H 194 _ rfl;have e195:q 195=q 169*q 178:=H 195 _ rfl;have e196:q 196=q 28+q 195:=H 196 _ rfl;have e197:q 197=q 170*q 183:=H 197 _ rfl;have e198:q 198=q 196+q 197:=H 198 _ rfl;have e199:q 199=q 28*q 188:=H 199 _ rfl;have e200:q 200=q 198+q 199:=H 200 _ rfl;have e201:q 201=q 23*q 194:=H 201 _ rfl;have e202:q 202=q 201/q 200:=H 202 _ rfl
 exact kA_S3z e22 e23 e24 e25 e26 e28 e61 e67 e73 e174 e175 e176 e177 e178 e179 e180 e181 e182 e183 e184 e185 e186 e187 e188 e189 e190 e191 e192 e193 e194 e195 e196 e197 e198 e199 e200 e201 e202
theorem kA_S4z {z0 z1 z2 z3 z4 z5 z20 z21 z22 z23 z24 z25 z26 z28 z61 z67 z73 z207 z208 z212 z213 z214 z215 z216 z217 z218 z219 z220 z221 z222 z223 z224 z225 z226 z227 z228 z229 z230 z231 z232 z233 z234 z235 z236 z237 z238 z239 z240 : Rat} : z22=1→z23=2→z24=z0*z23→z25=z2*z23→z26=z5*z23→z28=0→z61=z3*z28→z67=z4*z28→z73=z26*z28→z212=z24*z207→z213=z28+z212→z214=z1*z208→z215=z213+z214→z216=z215+z61→z217=z1*z207→z218=z28+z217→z219=z25*z208→z220=z218+z219→z221=z220+z67→z222=z3*z207→z223=z28+z222→z224=z4*z208→z225=z223+z224→z226=z225+z73→z227=z20*z216→z228=z28+z227→z229=z21*z221→z230=z228+z229→z231=z22*z226→z232=z230+z231→z233=z207*z216→z234=z28+z233→z235=z208*z221→z236=z234+z235→z237=z28*z226→z238=z236+z237→z239=z23*z232→z240=z239/z238→(¬ (z238=0))→(Sec (2*z0*z20+z1*z21+z3) (z1*z20+2*z2*z21+z4) (2*z0) z1 (2*z2) z207 z208 z240) := by
 intro e22 e23 e24 e25 e26 e28 e61 e67 e73 e212 e213 e214 e215 e216 e217 e218 e219 e220 e221 e222 e223 e224 e225 e226 e227 e228 e229 e230 e231 e232 e233 e234 e235 e236 e237 e238 e239 e240
 intro u0
 have eb : z238=bnd (2*z0) z1 (2*z2) z207 z208 := by
  clear u0 e240; simp only [bnd]; subst e22 e23 e24 e25 e26 e28 e61 e67 e73 e212 e213 e214 e215 e216 e217 e218 e219 e220 e221 e222 e223 e224 e225 e226 e227 e228 e229 e230 e231 e232 e233 e234 e235 e236 e237 e238 e239; grind
 have eg : z239=2*((2*z0*z20+z1*z21+z3)*z207+(z1*z20+2*z2*z21+z4)*z208) := by
  clear u0 e240 eb; subst e22 e23 e24 e25 e26 e28 e61 e67 e73 e212 e213 e214 e215 e216 e217 e218 e219 e220 e221 e222 e223 e224 e225 e226 e227 e228 e229 e230 e231 e232 e233 e234 e235 e236 e237 e238 e239; grind
 have en : z240*z238=z239 := by rw [e240]; exact Rat.div_mul_cancel u0
 rw [eb] at u0 en
 rw [eg] at en
 exact ⟨u0,en⟩
theorem kA_S4 (H : kA_Q q σ) : (¬ (q 238=0))→(Sec (2*q 0*q 20+q 1*q 21+q 3) (q 1*q 20+2*q 2*q 21+q 4) (2*q 0) (q 1) (2*q 2) (q 207) (q 208) (q 240)) := by
 have e22:q 22=1:=(H 22 _ rfl).trans kA_c22;have e23:q 23=2:=(H 23 _ rfl).trans kA_c23;have e24:q 24=q 0*q 23:=H 24 _ rfl;have e25:q 25=q 2*q 23:=H 25 _ rfl;have e26:q 26=q 5*q 23:=H 26 _ rfl;have e28:q 28=0:=(H 28 _ rfl).trans kA_c28;have e61:q 61=q 3*q 28:=H 61 _ rfl;have e67:q 67=q 4*q 28:=H 67 _ rfl;have e73:q 73=q 26*q 28:=H 73 _ rfl;have e212:q 212=q 24*q 207:=H 212 _ rfl;have e213:q 213=q 28+q 212:=H 213 _ rfl;have e214:q 214=q 1*q 208:=H 214 _ rfl;have e215:q 215=q 213+q 214:=H 215 _ rfl;have e216:q 216=q 215+q 61:=H 216 _ rfl;have e217:q 217=q 1*q 207:=H 217 _ rfl;have e218:q 218=q 28+q 217:=H 218 _ rfl;have e219:q 219=q 25*q 208:=H 219 _ rfl;have e220:q 220=q 218+q 219:=H 220 _ rfl;have e221:q 221=q 220+q 67:=H 221 _ rfl;have e222:q 222=q 3*q 207:=H 222 _ rfl;have e223:q 223=q 28+q 222:=H 223 _ rfl;have e224:q 224=q 4*q 208:=H 224 _ rfl;have e225:q 225=q 223+q 224:=H 225 _ rfl;have e226:q 226=q 225+q 73:=H 226 _ rfl;have e227:q 227=q 20*q 216:=H 227 _ rfl;have e228:q 228=q 28+q 227:=H 228 _ rfl;have e229:q 229=q 21*q 221:=H 229 _ rfl;have e230:q 230=q 228+q 229:=H 230 _ rfl;have e231:q 231=q 22*q 226:=H 231 _ rfl;have e232:q 232=q 230+q 231:=H 232 _ rfl;have e233:q 233=q 207*q 216:=H 233 _ rfl;have e234:q 234=q 28+q 233:=H 234 _ rfl;have e235:q 235=q 208*q 221:=H 235 _ rfl;have e236:q 236=q 234+q 235:=H 236 _ rfl;have e237:q 237=q 28*q 226:=H 237 _ rfl;have e238:q 238=q 236+q 237:=H 238 _ rfl;have e239:q 239=q 23*q 232:=H 239 _ rfl;have e240:q 240=q 239/q 238:=H 240 _ rfl
 exact kA_S4z e22 e23 e24 e25 e26 e28 e61 e67 e73 e212 e213 e214 e215 e216 e217 e218 e219 e220 e221 e222 e223 e224 e225 e226 e227 e228 e229 e230 e231 e232 e233 e234 e235 e236 e237 e238 e239 e240
theorem kA_l0 (H : kA_Q q σ) : (¬ (q 305=0))→(¬ (q 327=0)) := by
 have e303:q 303=q 302*q 302:=H 303 _ rfl;have e304:q 304=q 300*q 300:=H 304 _ rfl;have e305:q 305=q 303+q 304:=H 305 _ rfl;have e322:q 322=q 302*fac [q 302,q 300,q 321]:=H 322 _ rfl;have e323:q 323=q 300*fac [q 302,q 300,q 321]:=H 323 _ rfl;have e325:q 325=q 322*q 322:=H 325 _ rfl;have e326:q 326=q 323*q 323:=H 326 _ rfl;have e327:q 327=q 325+q 326:=H 327 _ rfl
 clear H
 intro u0
 have n : ¬ (q 302=0∧q 300=0) := fun h => u0 ((sq2 e303 e304 e305).2 h)
 rw [sq2 e325 e326 e327,e322,e323]
 exact pair_fac n (fac_zero (by simp)) (fac_zero (by simp))
theorem kA_o0 (H : kA_Q q σ) : (¬ (q 308=0))→(¬ (q 330=0)) := by
 have e276:q 276=q 274*q 274:=H 276 _ rfl;have e307:q 307=q 306*q 306:=H 307 _ rfl;have e308:q 308=q 307+q 276:=H 308 _ rfl;have e313:q 313=q 306*fac [q 306,q 274,q 312]:=H 313 _ rfl;have e314:q 314=q 274*fac [q 306,q 274,q 312]:=H 314 _ rfl;have e328:q 328=q 313*q 313:=H 328 _ rfl;have e329:q 329=q 314*q 314:=H 329 _ rfl;have e330:q 330=q 328+q 329:=H 330 _ rfl
 clear H
 intro u0
 have n : ¬ (q 306=0∧q 274=0) := fun h => u0 ((sq2 e307 e276 e308).2 h)
 rw [sq2 e328 e329 e330,e313,e314]
 exact pair_fac n (fac_zero (by simp)) (fac_zero (by simp))
theorem kA_do0 (H : kA_Q q σ) : (¬ (q 278=0))→(¬ (q 308=0)) := by
 have e274:q 274=q 205-q 167:=H 274 _ rfl;have e275:q 275=q 206-q 168:=H 275 _ rfl;have e276:q 276=q 274*q 274:=H 276 _ rfl;have e277:q 277=q 275*q 275:=H 277 _ rfl;have e278:q 278=q 276+q 277:=H 278 _ rfl;have e306:q 306=-q 275:=H 306 _ rfl;have e307:q 307=q 306*q 306:=H 307 _ rfl;have e308:q 308=q 307+q 276:=H 308 _ rfl
 clear H
 intro u0
 have n := fun h => u0 ((sq2 e276 e277 e278).2 h)
 rw [sq2 e307 e276 e308]
 rintro ⟨h1,h2⟩
 exact n ⟨h2,by rw [e306] at h1; grind⟩
theorem kA_M0 (H : kA_Q q σ) : (¬ (q 333=0))→(Mt (q 20) (q 21) (q 20-q 15*q 88) (q 21-q 16*q 88) (q 20-q 131*q 164) (q 21-q 132*q 164) (q 20-q 169*q 202) (q 21-q 170*q 202) (q 344) (q 345)) := by
 have e89:q 89=q 15*q 88:=H 89 _ rfl;have e90:q 90=q 16*q 88:=H 90 _ rfl;have e91:q 91=q 20-q 89:=H 91 _ rfl;have e92:q 92=q 21-q 90:=H 92 _ rfl;have e165:q 165=q 131*q 164:=H 165 _ rfl;have e166:q 166=q 132*q 164:=H 166 _ rfl;have e167:q 167=q 20-q 165:=H 167 _ rfl;have e168:q 168=q 21-q 166:=H 168 _ rfl;have e203:q 203=q 169*q 202:=H 203 _ rfl;have e204:q 204=q 170*q 202:=H 204 _ rfl;have e205:q 205=q 20-q 203:=H 205 _ rfl;have e206:q 206=q 21-q 204:=H 206 _ rfl;have e274:q 274=q 205-q 167:=H 274 _ rfl;have e275:q 275=q 206-q 168:=H 275 _ rfl;have e300:q 300=q 91-q 20:=H 300 _ rfl;have e301:q 301=q 92-q 21:=H 301 _ rfl;have e302:q 302=-q 301:=H 302 _ rfl;have e306:q 306=-q 275:=H 306 _ rfl;have e309:q 309=q 306*q 167:=H 309 _ rfl;have e310:q 310=q 274*q 168:=H 310 _ rfl;have e311:q 311=q 309+q 310:=H 311 _ rfl;have e312:q 312=-q 311:=H 312 _ rfl;have e313:q 313=q 306*fac [q 306,q 274,q 312]:=H 313 _ rfl;have e314:q 314=q 274*fac [q 306,q 274,q 312]:=H 314 _ rfl;have e315:q 315=q 312*fac [q 306,q 274,q 312]:=H 315 _ rfl;have e318:q 318=q 302*q 20:=H 318 _ rfl;have e319:q 319=q 300*q 21:=H 319 _ rfl;have e320:q 320=q 318+q 319:=H 320 _ rfl;have e321:q 321=-q 320:=H 321 _ rfl;have e322:q 322=q 302*fac [q 302,q 300,q 321]:=H 322 _ rfl;have e323:q 323=q 300*fac [q 302,q 300,q 321]:=H 323 _ rfl;have e324:q 324=q 321*fac [q 302,q 300,q 321]:=H 324 _ rfl;have e331:q 331=q 322*q 314:=H 331 _ rfl;have e332:q 332=q 323*q 313:=H 332 _ rfl;have e333:q 333=q 331-q 332:=H 333 _ rfl;have e334:q 334=q 313*q 324:=H 334 _ rfl;have e335:q 335=q 314*q 324:=H 335 _ rfl;have e336:q 336=q 322*q 315:=H 336 _ rfl;have e337:q 337=q 323*q 315:=H 337 _ rfl;have e338:q 338=q 334-q 336:=H 338 _ rfl;have e339:q 339=q 335-q 337:=H 339 _ rfl;have e343:q 343=-q 339:=H 343 _ rfl;have e344:q 344=q 343/q 333:=H 344 _ rfl;have e345:q 345=q 338/q 333:=H 345 _ rfl
 clear H
 intro u0
 exact mt_mk (x1 := q 20) (y1 := q 21) (x2 := (q 20 - q 15*q 88)) (y2 := (q 21 - q 16*q 88)) (x3 := (q 20 - q 131*q 164)) (y3 := (q 21 - q 132*q 164)) (x4 := (q 20 - q 169*q 202)) (y4 := (q 21 - q 170*q 202)) (by rw [e302,e301,e92,e90]) (by rw [e300,e91,e89]) (by rw [e321,e320,e318,e319]) (by rw [e306,e275,e206,e204,e168,e166]) (by rw [e274,e205,e203,e167,e165]) (by rw [e312,e311,e309,e310,e167,e165,e168,e166]) e322 e323 e324 e313 e314 e315 (by rw [e333,e331,e332]) u0 (by rw [e344,e343,e339,e335,e337]) (by rw [e345,e338,e334,e336])
theorem kA_l1 (H : kA_Q q σ) : (¬ (q 348=0))→(¬ (q 368=0)) := by
 have e249:q 249=q 247*q 247:=H 249 _ rfl;have e347:q 347=q 346*q 346:=H 347 _ rfl;have e348:q 348=q 347+q 249:=H 348 _ rfl;have e353:q 353=q 346*fac [q 346,q 247,q 352]:=H 353 _ rfl;have e354:q 354=q 247*fac [q 346,q 247,q 352]:=H 354 _ rfl;have e366:q 366=q 353*q 353:=H 366 _ rfl;have e367:q 367=q 354*q 354:=H 367 _ rfl;have e368:q 368=q 366+q 367:=H 368 _ rfl
 clear H
 intro u0
 have n : ¬ (q 346=0∧q 247=0) := fun h => u0 ((sq2 e347 e249 e348).2 h)
 rw [sq2 e366 e367 e368,e353,e354]
 exact pair_fac n (fac_zero (by simp)) (fac_zero (by simp))
theorem kA_dl1 (H : kA_Q q σ) : (¬ (q 251=0))→(¬ (q 348=0)) := by
 have e247:q 247=q 129-q 91:=H 247 _ rfl;have e248:q 248=q 130-q 92:=H 248 _ rfl;have e249:q 249=q 247*q 247:=H 249 _ rfl;have e250:q 250=q 248*q 248:=H 250 _ rfl;have e251:q 251=q 249+q 250:=H 251 _ rfl;have e346:q 346=-q 248:=H 346 _ rfl;have e347:q 347=q 346*q 346:=H 347 _ rfl;have e348:q 348=q 347+q 249:=H 348 _ rfl
 clear H
 intro u0
 have n := fun h => u0 ((sq2 e249 e250 e251).2 h)
 rw [sq2 e347 e249 e348]
 rintro ⟨h1,h2⟩
 exact n ⟨h2,by rw [e346] at h1; grind⟩
theorem kA_o1 (H : kA_Q q σ) : (¬ (q 358=0))→(¬ (q 371=0)) := by
 have e297:q 297=q 295*q 295:=H 297 _ rfl;have e357:q 357=q 356*q 356:=H 357 _ rfl;have e358:q 358=q 357+q 297:=H 358 _ rfl;have e363:q 363=q 356*fac [q 356,q 295,q 362]:=H 363 _ rfl;have e364:q 364=q 295*fac [q 356,q 295,q 362]:=H 364 _ rfl;have e369:q 369=q 363*q 363:=H 369 _ rfl;have e370:q 370=q 364*q 364:=H 370 _ rfl;have e371:q 371=q 369+q 370:=H 371 _ rfl
 clear H
 intro u0
 have n : ¬ (q 356=0∧q 295=0) := fun h => u0 ((sq2 e357 e297 e358).2 h)
 rw [sq2 e369 e370 e371,e363,e364]
 exact pair_fac n (fac_zero (by simp)) (fac_zero (by simp))
theorem kA_do1 (H : kA_Q q σ) : (¬ (q 299=0))→(¬ (q 358=0)) := by
 have e295:q 295=q 243-q 205:=H 295 _ rfl;have e296:q 296=q 244-q 206:=H 296 _ rfl;have e297:q 297=q 295*q 295:=H 297 _ rfl;have e298:q 298=q 296*q 296:=H 298 _ rfl;have e299:q 299=q 297+q 298:=H 299 _ rfl;have e356:q 356=-q 296:=H 356 _ rfl;have e357:q 357=q 356*q 356:=H 357 _ rfl;have e358:q 358=q 357+q 297:=H 358 _ rfl
 clear H
 intro u0
 have n := fun h => u0 ((sq2 e297 e298 e299).2 h)
 rw [sq2 e357 e297 e358]
 rintro ⟨h1,h2⟩
 exact n ⟨h2,by rw [e356] at h1; grind⟩
theorem kA_M1 (H : kA_Q q σ) : (¬ (q 374=0))→(Mt (q 20-q 15*q 88) (q 21-q 16*q 88) (q 20-q 93*q 126) (q 21-q 94*q 126) (q 20-q 169*q 202) (q 21-q 170*q 202) (q 20-q 207*q 240) (q 21-q 208*q 240) (q 385) (q 386)) := by
 have e89:q 89=q 15*q 88:=H 89 _ rfl;have e90:q 90=q 16*q 88:=H 90 _ rfl;have e91:q 91=q 20-q 89:=H 91 _ rfl;have e92:q 92=q 21-q 90:=H 92 _ rfl;have e127:q 127=q 93*q 126:=H 127 _ rfl;have e128:q 128=q 94*q 126:=H 128 _ rfl;have e129:q 129=q 20-q 127:=H 129 _ rfl;have e130:q 130=q 21-q 128:=H 130 _ rfl;have e203:q 203=q 169*q 202:=H 203 _ rfl;have e204:q 204=q 170*q 202:=H 204 _ rfl;have e205:q 205=q 20-q 203:=H 205 _ rfl;have e206:q 206=q 21-q 204:=H 206 _ rfl;have e241:q 241=q 207*q 240:=H 241 _ rfl;have e242:q 242=q 208*q 240:=H 242 _ rfl;have e243:q 243=q 20-q 241:=H 243 _ rfl;have e244:q 244=q 21-q 242:=H 244 _ rfl;have e247:q 247=q 129-q 91:=H 247 _ rfl;have e248:q 248=q 130-q 92:=H 248 _ rfl;have e295:q 295=q 243-q 205:=H 295 _ rfl;have e296:q 296=q 244-q 206:=H 296 _ rfl;have e346:q 346=-q 248:=H 346 _ rfl;have e349:q 349=q 346*q 91:=H 349 _ rfl;have e350:q 350=q 247*q 92:=H 350 _ rfl;have e351:q 351=q 349+q 350:=H 351 _ rfl;have e352:q 352=-q 351:=H 352 _ rfl;have e353:q 353=q 346*fac [q 346,q 247,q 352]:=H 353 _ rfl;have e354:q 354=q 247*fac [q 346,q 247,q 352]:=H 354 _ rfl;have e355:q 355=q 352*fac [q 346,q 247,q 352]:=H 355 _ rfl;have e356:q 356=-q 296:=H 356 _ rfl;have e359:q 359=q 356*q 205:=H 359 _ rfl;have e360:q 360=q 295*q 206:=H 360 _ rfl;have e361:q 361=q 359+q 360:=H 361 _ rfl;have e362:q 362=-q 361:=H 362 _ rfl;have e363:q 363=q 356*fac [q 356,q 295,q 362]:=H 363 _ rfl;have e364:q 364=q 295*fac [q 356,q 295,q 362]:=H 364 _ rfl;have e365:q 365=q 362*fac [q 356,q 295,q 362]:=H 365 _ rfl;have e372:q 372=q 353*q 364:=H 372 _ rfl;have e373:q 373=q 354*q 363:=H 373 _ rfl;have e374:q 374=q 372-q 373:=H 374 _ rfl;have e375:q 375=q 363*q 355:=H 375 _ rfl;have e376:q 376=q 364*q 355:=H 376 _ rfl;have e377:q 377=q 353*q 365:=H 377 _ rfl;have e378:q 378=q 354*q 365:=H 378 _ rfl;have e379:q 379=q 375-q 377:=H 379 _ rfl;have e380:q 380=q 376-q 378:=H 380 _ rfl;have e384:q 384=-q 380:=H 384 _ rfl;have e385:q 385=q 384/q 374:=H 385 _ rfl;have e386:q 386=q 379/q 374:=H 386 _ rfl
 clear H
 intro u0
 exact mt_mk (x1 := (q 20 - q 15*q 88)) (y1 := (q 21 - q 16*q 88)) (x2 := (q 20 - q 93*q 126)) (y2 := (q 21 - q 94*q 126)) (x3 := (q 20 - q 169*q 202)) (y3 := (q 21 - q 170*q 202)) (x4 := (q 20 - q 207*q 240)) (y4 := (q 21 - q 208*q 240)) (by rw [e346,e248,e130,e128,e92,e90]) (by rw [e247,e129,e127,e91,e89]) (by rw [e352,e351,e349,e350,e91,e89,e92,e90]) (by rw [e356,e296,e244,e242,e206,e204]) (by rw [e295,e243,e241,e205,e203]) (by rw [e362,e361,e359,e360,e205,e203,e206,e204]) e353 e354 e355 e363 e364 e365 (by rw [e374,e372,e373]) u0 (by rw [e385,e384,e380,e376,e378]) (by rw [e386,e379,e375,e377])
theorem kA_l2 (H : kA_Q q σ) : (¬ (q 389=0))→(¬ (q 405=0)) := by
 have e260:q 260=q 258*q 258:=H 260 _ rfl;have e388:q 388=q 387*q 387:=H 388 _ rfl;have e389:q 389=q 388+q 260:=H 389 _ rfl;have e394:q 394=q 387*fac [q 387,q 258,q 393]:=H 394 _ rfl;have e395:q 395=q 258*fac [q 387,q 258,q 393]:=H 395 _ rfl;have e403:q 403=q 394*q 394:=H 403 _ rfl;have e404:q 404=q 395*q 395:=H 404 _ rfl;have e405:q 405=q 403+q 404:=H 405 _ rfl
 clear H
 intro u0
 have n : ¬ (q 387=0∧q 258=0) := fun h => u0 ((sq2 e388 e260 e389).2 h)
 rw [sq2 e403 e404 e405,e394,e395]
 exact pair_fac n (fac_zero (by simp)) (fac_zero (by simp))
theorem kA_dl2 (H : kA_Q q σ) : (¬ (q 262=0))→(¬ (q 389=0)) := by
 have e258:q 258=q 167-q 129:=H 258 _ rfl;have e259:q 259=q 168-q 130:=H 259 _ rfl;have e260:q 260=q 258*q 258:=H 260 _ rfl;have e261:q 261=q 259*q 259:=H 261 _ rfl;have e262:q 262=q 260+q 261:=H 262 _ rfl;have e387:q 387=-q 259:=H 387 _ rfl;have e388:q 388=q 387*q 387:=H 388 _ rfl;have e389:q 389=q 388+q 260:=H 389 _ rfl
 clear H
 intro u0
 have n := fun h => u0 ((sq2 e260 e261 e262).2 h)
 rw [sq2 e388 e260 e389]
 rintro ⟨h1,h2⟩
 exact n ⟨h2,by rw [e387] at h1; grind⟩
theorem kA_o2 (H : kA_Q q σ) : (¬ (q 402=0))→(¬ (q 415=0)) := by
 have e400:q 400=q 399*q 399:=H 400 _ rfl;have e401:q 401=q 397*q 397:=H 401 _ rfl;have e402:q 402=q 400+q 401:=H 402 _ rfl;have e410:q 410=q 399*fac [q 399,q 397,q 409]:=H 410 _ rfl;have e411:q 411=q 397*fac [q 399,q 397,q 409]:=H 411 _ rfl;have e413:q 413=q 410*q 410:=H 413 _ rfl;have e414:q 414=q 411*q 411:=H 414 _ rfl;have e415:q 415=q 413+q 414:=H 415 _ rfl
 clear H
 intro u0
 have n : ¬ (q 399=0∧q 397=0) := fun h => u0 ((sq2 e400 e401 e402).2 h)
 rw [sq2 e413 e414 e415,e410,e411]
 exact pair_fac n (fac_zero (by simp)) (fac_zero (by simp))
theorem kA_M2 (H : kA_Q q σ) : (¬ (q 418=0))→(Mt (q 20-q 93*q 126) (q 21-q 94*q 126) (q 20-q 131*q 164) (q 21-q 132*q 164) (q 20-q 207*q 240) (q 21-q 208*q 240) (q 20) (q 21) (q 429) (q 430)) := by
 have e127:q 127=q 93*q 126:=H 127 _ rfl;have e128:q 128=q 94*q 126:=H 128 _ rfl;have e129:q 129=q 20-q 127:=H 129 _ rfl;have e130:q 130=q 21-q 128:=H 130 _ rfl;have e165:q 165=q 131*q 164:=H 165 _ rfl;have e166:q 166=q 132*q 164:=H 166 _ rfl;have e167:q 167=q 20-q 165:=H 167 _ rfl;have e168:q 168=q 21-q 166:=H 168 _ rfl;have e241:q 241=q 207*q 240:=H 241 _ rfl;have e242:q 242=q 208*q 240:=H 242 _ rfl;have e243:q 243=q 20-q 241:=H 243 _ rfl;have e244:q 244=q 21-q 242:=H 244 _ rfl;have e258:q 258=q 167-q 129:=H 258 _ rfl;have e259:q 259=q 168-q 130:=H 259 _ rfl;have e387:q 387=-q 259:=H 387 _ rfl;have e390:q 390=q 387*q 129:=H 390 _ rfl;have e391:q 391=q 258*q 130:=H 391 _ rfl;have e392:q 392=q 390+q 391:=H 392 _ rfl;have e393:q 393=-q 392:=H 393 _ rfl;have e394:q 394=q 387*fac [q 387,q 258,q 393]:=H 394 _ rfl;have e395:q 395=q 258*fac [q 387,q 258,q 393]:=H 395 _ rfl;have e396:q 396=q 393*fac [q 387,q 258,q 393]:=H 396 _ rfl;have e397:q 397=q 20-q 243:=H 397 _ rfl;have e398:q 398=q 21-q 244:=H 398 _ rfl;have e399:q 399=-q 398:=H 399 _ rfl;have e406:q 406=q 399*q 243:=H 406 _ rfl;have e407:q 407=q 397*q 244:=H 407 _ rfl;have e408:q 408=q 406+q 407:=H 408 _ rfl;have e409:q 409=-q 408:=H 409 _ rfl;have e410:q 410=q 399*fac [q 399,q 397,q 409]:=H 410 _ rfl;have e411:q 411=q 397*fac [q 399,q 397,q 409]:=H 411 _ rfl;have e412:q 412=q 409*fac [q 399,q 397,q 409]:=H 412 _ rfl;have e416:q 416=q 394*q 411:=H 416 _ rfl;have e417:q 417=q 395*q 410:=H 417 _ rfl;have e418:q 418=q 416-q 417:=H 418 _ rfl;have e419:q 419=q 410*q 396:=H 419 _ rfl;have e420:q 420=q 411*q 396:=H 420 _ rfl;have e421:q 421=q 394*q 412:=H 421 _ rfl;have e422:q 422=q 395*q 412:=H 422 _ rfl;have e423:q 423=q 419-q 421:=H 423 _ rfl;have e424:q 424=q 420-q 422:=H 424 _ rfl;have e428:q 428=-q 424:=H 428 _ rfl;have e429:q 429=q 428/q 418:=H 429 _ rfl;have e430:q 430=q 423/q 418:=H 430 _ rfl
 clear H
 intro u0
 exact mt_mk (x1 := (q 20 - q 93*q 126)) (y1 := (q 21 - q 94*q 126)) (x2 := (q 20 - q 131*q 164)) (y2 := (q 21 - q 132*q 164)) (x3 := (q 20 - q 207*q 240)) (y3 := (q 21 - q 208*q 240)) (x4 := q 20) (y4 := q 21) (by rw [e387,e259,e168,e166,e130,e128]) (by rw [e258,e167,e165,e129,e127]) (by rw [e393,e392,e390,e391,e129,e127,e130,e128]) (by rw [e399,e398,e244,e242]) (by rw [e397,e243,e241]) (by rw [e409,e408,e406,e407,e243,e241,e244,e242]) e394 e395 e396 e410 e411 e412 (by rw [e418,e416,e417]) u0 (by rw [e429,e428,e424,e420,e422]) (by rw [e430,e423,e419,e421])
theorem kA_A0z {z0 z1 z2 z3 z4 z15 z16 z20 z21 z88 z89 z90 z91 z92 z131 z132 z164 z165 z166 z167 z168 z169 z170 z202 z203 z204 z205 z206 z253 z254 z255 z256 z257 z264 z265 z266 z267 z268 z274 z275 z276 z277 z278 z300 z301 z302 z303 z304 z305 z306 z309 z310 z311 z312 z313 z314 z315 z318 z319 z320 z321 z322 z323 z324 z331 z332 z333 z334 z335 z336 z337 z338 z339 z340 z341 z342 : Rat} : z89=z15*z88→z90=z16*z88→z91=z20-z89→z92=z21-z90→z165=z131*z164→z166=z132*z164→z167=z20-z165→z168=z21-z166→z203=z169*z202→z204=z170*z202→z205=z20-z203→z206=z21-z204→z253=z167-z91→z254=z168-z92→z255=z253*z253→z256=z254*z254→z257=z255+z256→z264=z205-z91→z265=z206-z92→z266=z264*z264→z267=z265*z265→z268=z266+z267→z274=z205-z167→z275=z206-z168→z276=z274*z274→z277=z275*z275→z278=z276+z277→z300=z91-z20→z301=z92-z21→z302=-z301→z303=z302*z302→z304=z300*z300→z305=z303+z304→z306=-z275→z309=z306*z167→z310=z274*z168→z311=z309+z310→z312=-z311→z313=z306*fac [z306,z274,z312]→z314=z274*fac [z306,z274,z312]→z315=z312*fac [z306,z274,z312]→z318=z302*z20→z319=z300*z21→z320=z318+z319→z321=-z320→z322=z302*fac [z302,z300,z321]→z323=z300*fac [z302,z300,z321]→z324=z321*fac [z302,z300,z321]→z331=z322*z314→z332=z323*z313→z333=z331-z332→z334=z313*z324→z335=z314*z324→z336=z322*z315→z337=z323*z315→z338=z334-z336→z339=z335-z337→z340=z338*z338→z341=z339*z339→z342=z340+z341→(Sec (2*z0*z20+z1*z21+z3) (z1*z20+2*z2*z21+z4) (2*z0) z1 (2*z2) z15 z16 z88)→(Sec (2*z0*z20+z1*z21+z3) (z1*z20+2*z2*z21+z4) (2*z0) z1 (2*z2) z131 z132 z164)→(Sec (2*z0*z20+z1*z21+z3) (z1*z20+2*z2*z21+z4) (2*z0) z1 (2*z2) z169 z170 z202)→(¬ (z305=0))→(¬ (z257=0))→(¬ (z268=0))→(¬ (z278=0))→(z333=0)→(¬ (z342=0)) := by
 intro e89 e90 e91 e92 e165 e166 e167 e168 e203 e204 e205 e206 e253 e254 e255 e256 e257 e264 e265 e266 e267 e268 e274 e275 e276 e277 e278 e300 e301 e302 e303 e304 e305 e306 e309 e310 e311 e312 e313 e314 e315 e318 e319 e320 e321 e322 e323 e324 e331 e332 e333 e334 e335 e336 e337 e338 e339 e340 e341 e342
 intro h1 h2 h3 v0 v1 v2 v3 t0
 have q1 : ¬ (z302=0∧z300=0) := fun h => v0 ((sq2 e303 e304 e305).2 h)
 have n12 : ¬ (z15*z88=z131*z164∧z16*z88=z132*z164) := (fun ⟨h1,h2⟩ => v1 ((sq2 e255 e256 e257).2 ⟨by rw [e253,e167,e91,e165,e89,h1]; grind,by rw [e254,e168,e92,e166,e90,h2]; grind⟩))
 have n13 : ¬ (z15*z88=z169*z202∧z16*z88=z170*z202) := (fun ⟨h1,h2⟩ => v2 ((sq2 e266 e267 e268).2 ⟨by rw [e264,e205,e91,e203,e89,h1]; grind,by rw [e265,e206,e92,e204,e90,h2]; grind⟩))
 have n23 : ¬ (z131*z164=z169*z202∧z132*z164=z170*z202) := (fun ⟨h1,h2⟩ => v3 ((sq2 e276 e277 e278).2 ⟨by rw [e274,e205,e167,e203,e165,h1]; grind,by rw [e275,e206,e168,e204,e166,h2]; grind⟩))
 have gA : z302=1*(z16*z88) := by rw [e302,e301,e92,e90]; grind
 have gB : z300=-(1*(z15*z88)) := by rw [e300,e91,e89]; grind
 have gC : z302*z20+z300*z21+z321=0 := by
  have k := (show z321=-(z302*z20+z300*z21) by rw [e321,e320,e318,e319])
  rw [k,gA,gB]; grind
 have gE : z306=z170*z202 - z132*z164 := by rw [e306,e275,e206,e204,e168,e166]; grind
 have gF : z274=z131*z164 - z169*z202 := by rw [e274,e205,e203,e167,e165]; grind
 have gG : z306*(z20 - z131*z164)+z274*(z21 - z132*z164)+z312=0 := by
  have k := (show z312=-(z306*(z20 - z131*z164)+z274*(z21 - z132*z164)) by rw [e312,e311,e309,e310,e167,e165,e168,e166])
  rw [k]; grind
 have q2 : ¬ (z306=0∧z274=0) := fun ⟨k1,k2⟩ => n23 ⟨by rw [gF] at k2; grind,by rw [gE] at k1; grind⟩
 rw [sq2 e340 e341 e342]
 rintro ⟨t1,t2⟩
 rw [e333,e331,e332] at t0
 rw [e338,e334,e336] at t1
 rw [e339,e335,e337] at t2
 have ⟨r0,r1,r2⟩ := cross_out (fac3_out q1) (fac3_out q2) e322 e323 e324 e313 e314 e315 t0 t1 t2
 exact pas_core h1 h2 h3 (by decide) gA gB gC q1 gE gF gG n12 n13 n23 r0 r1 r2
theorem kA_A0 (H : kA_Q q σ) : (Sec (2*q 0*q 20+q 1*q 21+q 3) (q 1*q 20+2*q 2*q 21+q 4) (2*q 0) (q 1) (2*q 2) (q 15) (q 16) (q 88))→(Sec (2*q 0*q 20+q 1*q 21+q 3) (q 1*q 20+2*q 2*q 21+q 4) (2*q 0) (q 1) (2*q 2) (q 131) (q 132) (q 164))→(Sec (2*q 0*q 20+q 1*q 21+q 3) (q 1*q 20+2*q 2*q 21+q 4) (2*q 0) (q 1) (2*q 2) (q 169) (q 170) (q 202))→(¬ (q 305=0))→(¬ (q 257=0))→(¬ (q 268=0))→(¬ (q 278=0))→(q 333=0)→(¬ (q 342=0)) := by
 have e89:q 89=q 15*q 88:=H 89 _ rfl;have e90:q 90=q 16*q 88:=H 90 _ rfl;have e91:q 91=q 20-q 89:=H 91 _ rfl;have e92:q 92=q 21-q 90:=H 92 _ rfl;have e165:q 165=q 131*q 164:=H 165 _ rfl;have e166:q 166=q 132*q 164:=H 166 _ rfl;have e167:q 167=q 20-q 165:=H 167 _ rfl;have e168:q 168=q 21-q 166:=H 168 _ rfl;have e203:q 203=q 169*q 202:=H 203 _ rfl;have e204:q 204=q 170*q 202:=H 204 _ rfl;have e205:q 205=q 20-q 203:=H 205 _ rfl;have e206:q 206=q 21-q 204:=H 206 _ rfl;have e253:q 253=q 167-q 91:=H 253 _ rfl;have e254:q 254=q 168-q 92:=H 254 _ rfl;have e255:q 255=q 253*q 253:=H 255 _ rfl;have e256:q 256=q 254*q 254:=H 256 _ rfl;have e257:q 257=q 255+q 256:=H 257 _ rfl;have e264:q 264=q 205-q 91:=H 264 _ rfl;have e265:q 265=q 206-q 92:=H 265 _ rfl;have e266:q 266=q 264*q 264:=H 266 _ rfl;have e267:q 267=q 265*q 265:=H 267 _ rfl;have e268:q 268=q 266+q 267:=H 268 _ rfl;have e274:q 274=q 205-q 167:=H 274 _ rfl;have e275:q 275=q 206-q 168:=H 275 _ rfl;have e276:q 276=q 274*q 274:=H 276 _ rfl;have e277:q 277=q 275*q 275:=H 277 _ rfl;have e278:q 278=q 276+q 277:=H 278 _ rfl;have e300:q 300=q 91-q 20:=H 300 _ rfl;have e301:q 301=q 92-q 21:=H 301 _ rfl;have e302:q 302=-q 301:=H 302 _ rfl;have e303:q 303=q 302*q 302:=H 303 _ rfl;have e304:q 304=q 300*q 300:=H 304 _ rfl;have e305:q 305=q 303+q 304:=H 305 _ rfl;have e306:q 306=-q 275:=H 306 _ rfl;have e309:q 309=q 306*q 167:=H 309 _ rfl;have e310:q 310=q 274*q 168:=H 310 _ rfl;have e311:q 311=q 309+q 310:=H 311 _ rfl;have e312:q 312=-q 311:=H 312 _ rfl;have e313:q 313=q 306*fac [q 306,q 274,q 312]:=H 313 _ rfl;have e314:q 314=q 274*fac [q 306,q 274,q 312]:=H 314 _ rfl;have e315:q 315=q 312*fac [q 306,q 274,q 312]:=H 315 _ rfl;have e318:q 318=q 302*q 20:=H 318 _ rfl;have e319:q 319=q 300*q 21:=H 319 _ rfl;have e320:q 320=q 318+q 319:=H 320 _ rfl;have e321:q 321=-q 320:=H 321 _ rfl;have e322:q 322=q 302*fac [q 302,q 300,q 321]:=H 322 _ rfl;have e323:q 323=q 300*fac [q 302,q 300,q 321]:=H 323 _ rfl;have e324:q 324=q 321*fac [q 302,q 300,q 321]:=H 324 _ rfl;have e331:q 331=q 322*q 314:=H 331 _ rfl;have e332:q 332=q 323*q 313:=H 332 _ rfl;have e333:q 333=q 331-q 332:=H 333 _ rfl;have e334:q 334=q 313*q 324:=H 334 _ rfl;have e335:q 335=q 314*q 324:=H 335 _ rfl;have e336:q 336=q 322*q 315:=H 336 _ rfl;have e337:q 337=q 323*q 315:=H 337 _ rfl;have e338:q 338=q 334-q 336:=H 338 _ rfl;have e339:q 339=q 335-q 337:=H 339 _ rfl;have e340:q 340=q 338*q 338:=H 340 _ rfl;have e341:q 341=q 339*q 339:=H 341 _ rfl;have e342:q 342=q 340+q 341:=H 342 _ rfl
 exact kA_A0z e89 e90 e91 e92 e165 e166 e167 e168 e203 e204 e205 e206 e253 e254 e255 e256 e257 e264 e265 e266 e267 e268 e274 e275 e276 e277 e278 e300 e301 e302 e303 e304 e305 e306 e309 e310 e311 e312 e313 e314 e315 e318 e319 e320 e321 e322 e323 e324 e331 e332 e333 e334 e335 e336 e337 e338 e339 e340 e341 e342
theorem kA_A2z {z0 z1 z2 z3 z4 z20 z21 z93 z94 z126 z127 z128 z129 z130 z131 z132 z164 z165 z166 z167 z168 z207 z208 z240 z241 z242 z243 z244 z258 z259 z260 z261 z262 z285 z286 z287 z288 z289 z290 z291 z292 z293 z294 z387 z390 z391 z392 z393 z394 z395 z396 z397 z398 z399 z400 z401 z402 z406 z407 z408 z409 z410 z411 z412 z416 z417 z418 z419 z420 z421 z422 z423 z424 z425 z426 z427 : Rat} : z127=z93*z126→z128=z94*z126→z129=z20-z127→z130=z21-z128→z165=z131*z164→z166=z132*z164→z167=z20-z165→z168=z21-z166→z241=z207*z240→z242=z208*z240→z243=z20-z241→z244=z21-z242→z258=z167-z129→z259=z168-z130→z260=z258*z258→z261=z259*z259→z262=z260+z261→z285=z243-z129→z286=z244-z130→z287=z285*z285→z288=z286*z286→z289=z287+z288→z290=z243-z167→z291=z244-z168→z292=z290*z290→z293=z291*z291→z294=z292+z293→z387=-z259→z390=z387*z129→z391=z258*z130→z392=z390+z391→z393=-z392→z394=z387*fac [z387,z258,z393]→z395=z258*fac [z387,z258,z393]→z396=z393*fac [z387,z258,z393]→z397=z20-z243→z398=z21-z244→z399=-z398→z400=z399*z399→z401=z397*z397→z402=z400+z401→z406=z399*z243→z407=z397*z244→z408=z406+z407→z409=-z408→z410=z399*fac [z399,z397,z409]→z411=z397*fac [z399,z397,z409]→z412=z409*fac [z399,z397,z409]→z416=z394*z411→z417=z395*z410→z418=z416-z417→z419=z410*z396→z420=z411*z396→z421=z394*z412→z422=z395*z412→z423=z419-z421→z424=z420-z422→z425=z423*z423→z426=z424*z424→z427=z425+z426→(Sec (2*z0*z20+z1*z21+z3) (z1*z20+2*z2*z21+z4) (2*z0) z1 (2*z2) z207 z208 z240)→(Sec (2*z0*z20+z1*z21+z3) (z1*z20+2*z2*z21+z4) (2*z0) z1 (2*z2) z93 z94 z126)→(Sec (2*z0*z20+z1*z21+z3) (z1*z20+2*z2*z21+z4) (2*z0) z1 (2*z2) z131 z132 z164)→(¬ (z402=0))→(¬ (z289=0))→(¬ (z294=0))→(¬ (z262=0))→(z418=0)→(¬ (z427=0)) := by
 intro e127 e128 e129 e130 e165 e166 e167 e168 e241 e242 e243 e244 e258 e259 e260 e261 e262 e285 e286 e287 e288 e289 e290 e291 e292 e293 e294 e387 e390 e391 e392 e393 e394 e395 e396 e397 e398 e399 e400 e401 e402 e406 e407 e408 e409 e410 e411 e412 e416 e417 e418 e419 e420 e421 e422 e423 e424 e425 e426 e427
 intro h1 h2 h3 v0 v1 v2 v3 t0
 have q1 : ¬ (z399=0∧z397=0) := fun h => v0 ((sq2 e400 e401 e402).2 h)
 have n12 : ¬ (z207*z240=z93*z126∧z208*z240=z94*z126) := (fun ⟨k1,k2⟩ => (show ¬ (z93*z126=z207*z240∧z94*z126=z208*z240) from fun ⟨h1,h2⟩ => v1 ((sq2 e287 e288 e289).2 ⟨by rw [e285,e243,e129,e241,e127,h1]; grind,by rw [e286,e244,e130,e242,e128,h2]; grind⟩)) ⟨k1.symm,k2.symm⟩)
 have n13 : ¬ (z207*z240=z131*z164∧z208*z240=z132*z164) := (fun ⟨k1,k2⟩ => (show ¬ (z131*z164=z207*z240∧z132*z164=z208*z240) from fun ⟨h1,h2⟩ => v2 ((sq2 e292 e293 e294).2 ⟨by rw [e290,e243,e167,e241,e165,h1]; grind,by rw [e291,e244,e168,e242,e166,h2]; grind⟩)) ⟨k1.symm,k2.symm⟩)
 have n23 : ¬ (z93*z126=z131*z164∧z94*z126=z132*z164) := (fun ⟨h1,h2⟩ => v3 ((sq2 e260 e261 e262).2 ⟨by rw [e258,e167,e129,e165,e127,h1]; grind,by rw [e259,e168,e130,e166,e128,h2]; grind⟩))
 have gA : z399=(-1)*(z208*z240) := by rw [e399,e398,e244,e242]; grind
 have gB : z397=-((-1)*(z207*z240)) := by rw [e397,e243,e241]; grind
 have gC : z399*z20+z397*z21+z409=0 := by
  have k := (show z409=-(z399*(z20 - z207*z240)+z397*(z21 - z208*z240)) by rw [e409,e408,e406,e407,e243,e241,e244,e242])
  rw [k,gA,gB]; grind
 have gE : z387=z132*z164 - z94*z126 := by rw [e387,e259,e168,e166,e130,e128]; grind
 have gF : z258=z93*z126 - z131*z164 := by rw [e258,e167,e165,e129,e127]; grind
 have gG : z387*(z20 - z93*z126)+z258*(z21 - z94*z126)+z393=0 := by
  have k := (show z393=-(z387*(z20 - z93*z126)+z258*(z21 - z94*z126)) by rw [e393,e392,e390,e391,e129,e127,e130,e128])
  rw [k]; grind
 have q2 : ¬ (z387=0∧z258=0) := fun ⟨k1,k2⟩ => n23 ⟨by rw [gF] at k2; grind,by rw [gE] at k1; grind⟩
 rw [sq2 e425 e426 e427]
 rintro ⟨t1,t2⟩
 rw [e418,e416,e417] at t0
 rw [e423,e419,e421] at t1
 rw [e424,e420,e422] at t2
 have ⟨r0,r1,r2⟩ := cross_out (fac3_out q2) (fac3_out q1) e394 e395 e396 e410 e411 e412 t0 t1 t2
 exact pas_core h1 h2 h3 (by decide) gA gB gC q1 gE gF gG n12 n13 n23 (by grind) (by grind) (by grind)
theorem kA_A2 (H : kA_Q q σ) : (Sec (2*q 0*q 20+q 1*q 21+q 3) (q 1*q 20+2*q 2*q 21+q 4) (2*q 0) (q 1) (2*q 2) (q 207) (q 208) (q 240))→(Sec (2*q 0*q 20+q 1*q 21+q 3) (q 1*q 20+2*q 2*q 21+q 4) (2*q 0) (q 1) (2*q 2) (q 93) (q 94) (q 126))→(Sec (2*q 0*q 20+q 1*q 21+q 3) (q 1*q 20+2*q 2*q 21+q 4) (2*q 0) (q 1) (2*q 2) (q 131) (q 132) (q 164))→(¬ (q 402=0))→(¬ (q 289=0))→(¬ (q 294=0))→(¬ (q 262=0))→(q 418=0)→(¬ (q 427=0)) := by
 have e127:q 127=q 93*q 126:=H 127 _ rfl;have e128:q 128=q 94*q 126:=H 128 _ rfl;have e129:q 129=q 20-q 127:=H 129 _ rfl;have e130:q 130=q 21-q 128:=H 130 _ rfl;have e165:q 165=q 131*q 164:=H 165 _ rfl;have e166:q 166=q 132*q 164:=H 166 _ rfl;have e167:q 167=q 20-q 165:=H 167 _ rfl;have e168:q 168=q 21-q 166:=H 168 _ rfl;have e241:q 241=q 207*q 240:=H 241 _ rfl;have e242:q 242=q 208*q 240:=H 242 _ rfl;have e243:q 243=q 20-q 241:=H 243 _ rfl;have e244:q 244=q 21-q 242:=H 244 _ rfl;have e258:q 258=q 167-q 129:=H 258 _ rfl;have e259:q 259=q 168-q 130:=H 259 _ rfl;have e260:q 260=q 258*q 258:=H 260 _ rfl;have e261:q 261=q 259*q 259:=H 261 _ rfl;have e262:q 262=q 260+q 261:=H 262 _ rfl;have e285:q 285=q 243-q 129:=H 285 _ rfl;have e286:q 286=q 244-q 130:=H 286 _ rfl;have e287:q 287=q 285*q 285:=H 287 _ rfl;have e288:q 288=q 286*q 286:=H 288 _ rfl;have e289:q 289=q 287+q 288:=H 289 _ rfl;have e290:q 290=q 243-q 167:=H 290 _ rfl;have e291:q 291=q 244-q 168:=H 291 _ rfl;have e292:q 292=q 290*q 290:=H 292 _ rfl;have e293:q 293=q 291*q 291:=H 293 _ rfl;have e294:q 294=q 292+q 293:=H 294 _ rfl;have e387:q 387=-q 259:=H 387 _ rfl;have e390:q 390=q 387*q 129:=H 390 _ rfl;have e391:q 391=q 258*q 130:=H 391 _ rfl;have e392:q 392=q 390+q 391:=H 392 _ rfl;have e393:q 393=-q 392:=H 393 _ rfl;have e394:q 394=q 387*fac [q 387,q 258,q 393]:=H 394 _ rfl;have e395:q 395=q 258*fac [q 387,q 258,q 393]:=H 395 _ rfl;have e396:q 396=q 393*fac [q 387,q 258,q 393]:=H 396 _ rfl;have e397:q 397=q 20-q 243:=H 397 _ rfl;have e398:q 398=q 21-q 244:=H 398 _ rfl;have e399:q 399=-q 398:=H 399 _ rfl;have e400:q 400=q 399*q 399:=H 400 _ rfl;have e401:q 401=q 397*q 397:=H 401 _ rfl;have e402:q 402=q 400+q 401:=H 402 _ rfl;have e406:q 406=q 399*q 243:=H 406 _ rfl;have e407:q 407=q 397*q 244:=H 407 _ rfl;have e408:q 408=q 406+q 407:=H 408 _ rfl;have e409:q 409=-q 408:=H 409 _ rfl;have e410:q 410=q 399*fac [q 399,q 397,q 409]:=H 410 _ rfl;have e411:q 411=q 397*fac [q 399,q 397,q 409]:=H 411 _ rfl;have e412:q 412=q 409*fac [q 399,q 397,q 409]:=H 412 _ rfl;have e416:q 416=q 394*q 411:=H 416 _ rfl;have e417:q 417=q 395*q 410:=H 417 _ rfl;have e418:q 418=q 416-q 417:=H 418 _ rfl;have e419:q 419=q 410*q 396:=H 419 _ rfl;have e420:q 420=q 411*q 396:=H 420 _ rfl;have e421:q 421=q 394*q 412:=H 421 _ rfl;have e422:q 422=q 395*q 412:=H 422 _ rfl;have e423:q 423=q 419-q 421:=H 423 _ rfl;have e424:q 424=q 420-q 422:=H 424 _ rfl;have e425:q 425=q 423*q 423:=H 425 _ rfl;have e426:q 426=q 424*q 424:=H 426 _ rfl;have e427:q 427=q 425+q 426:=H 427 _ rfl
 exact kA_A2z e127 e128 e129 e130 e165 e166 e167 e168 e241 e242 e243 e244 e258 e259 e260 e261 e262 e285 e286 e287 e288 e289 e290 e291 e292 e293 e294 e387 e390 e391 e392 e393 e394 e395 e396 e397 e398 e399 e400 e401 e402 e406 e407 e408 e409 e410 e411 e412 e416 e417 e418 e419 e420 e421 e422 e423 e424 e425 e426 e427
theorem kA_F (H : kA_Q q σ) : (Sec (2*q 0*q 20+q 1*q 21+q 3) (q 1*q 20+2*q 2*q 21+q 4) (2*q 0) (q 1) (2*q 2) (q 15) (q 16) (q 88))→(Sec (2*q 0*q 20+q 1*q 21+q 3) (q 1*q 20+2*q 2*q 21+q 4) (2*q 0) (q 1) (2*q 2) (q 93) (q 94) (q 126))→(Sec (2*q 0*q 20+q 1*q 21+q 3) (q 1*q 20+2*q 2*q 21+q 4) (2*q 0) (q 1) (2*q 2) (q 131) (q 132) (q 164))→(Sec (2*q 0*q 20+q 1*q 21+q 3) (q 1*q 20+2*q 2*q 21+q 4) (2*q 0) (q 1) (2*q 2) (q 169) (q 170) (q 202))→(Sec (2*q 0*q 20+q 1*q 21+q 3) (q 1*q 20+2*q 2*q 21+q 4) (2*q 0) (q 1) (2*q 2) (q 207) (q 208) (q 240))→(Mt (q 20) (q 21) (q 20-q 15*q 88) (q 21-q 16*q 88) (q 20-q 131*q 164) (q 21-q 132*q 164) (q 20-q 169*q 202) (q 21-q 170*q 202) (q 344) (q 345))→(Mt (q 20-q 15*q 88) (q 21-q 16*q 88) (q 20-q 93*q 126) (q 21-q 94*q 126) (q 20-q 169*q 202) (q 21-q 170*q 202) (q 20-q 207*q 240) (q 21-q 208*q 240) (q 385) (q 386))→(Mt (q 20-q 93*q 126) (q 21-q 94*q 126) (q 20-q 131*q 164) (q 21-q 132*q 164) (q 20-q 207*q 240) (q 21-q 208*q 240) (q 20) (q 21) (q 429) (q 430))→(q 437=0) := by
 have e431:q 431=q 385-q 344:=H 431 _ rfl;have e432:q 432=q 386-q 345:=H 432 _ rfl;have e433:q 433=q 429-q 344:=H 433 _ rfl;have e434:q 434=q 430-q 345:=H 434 _ rfl;have e435:q 435=q 431*q 434:=H 435 _ rfl;have e436:q 436=q 432*q 433:=H 436 _ rfl;have e437:q 437=q 435-q 436:=H 437 _ rfl
 clear H
 intro h0 h1 h2 h3 h4 m0 m1 m2
 rw [e437,e435,e436,e431,e432,e433,e434]
 exact pas_main h0 h1 h2 h3 h4 m0 m1 m2
theorem kA_f1 {z28 z317 : Rat} : z28=0→(z317=0↔(z28=0∧z28=0))→z317=0 := by
 intro e28 e317
 rw [e317]
 clear  e317
 refine ⟨?_,?_⟩ <;> (subst_vars; grind)
def kA_cs : List (FuncId × Nat) := [(93,61),(17,63),(78,64),(101,60),(58,68)]
def kA_G : Memo := [(103,[qA [399,397,409]],tA [410,411,412]),(102,[qA [243,244],qA [399,397]],qA [399,397,409]),(103,[qA [387,258,393]],tA [394,395,396]),(102,[qA [129,130],qA [387,258]],qA [387,258,393]),(103,[qA [356,295,362]],tA [363,364,365]),(102,[qA [205,206],qA [356,295]],qA [356,295,362]),(103,[qA [346,247,352]],tA [353,354,355]),(102,[qA [91,92],qA [346,247]],qA [346,247,352]),(103,[qA [302,300,321]],tA [322,323,324]),(102,[qA [20,21],qA [302,300]],qA [302,300,321]),(103,[qA [306,274,312]],tA [313,314,315]),(102,[qA [167,168],qA [306,274]],qA [306,274,312]),(63,[qA [24,1,3,1,25,4,3,4,26],(false,[(true,[.inr (0,1,207,0,0),.inr (0,2,207,0,0),.inr (0,3,207,0,0),.inr (0,1,208,0,0),.inr (0,2,208,0,0),.inr (0,3,208,0,0),.inl (.bool false),.inl (.slice none 0 0),.inl (.slice none 0 0)])]),(false,[(true,[.inr (0,1,207,0,0),.inr (0,2,207,0,0),.inr (0,3,207,0,0),.inr (0,1,208,0,0),.inr (0,2,208,0,0),.inr (0,3,208,0,0),.inl (.bool false),.inl (.slice none 0 0),.inl (.slice none 0 0)])])],qA [238]),(63,[qA [24,1,3,1,25,4,3,4,26],qA [20,21,22],(false,[(true,[.inr (0,1,207,0,0),.inr (0,2,207,0,0),.inr (0,3,207,0,0),.inr (0,1,208,0,0),.inr (0,2,208,0,0),.inr (0,3,208,0,0),.inl (.bool false),.inl (.slice none 0 0),.inl (.slice none 0 0)])])],qA [232]),(108,[qA [24,1,3,1,25,4,3,4,26],(false,[(true,[.inr (0,1,207,0,0),.inr (0,2,207,0,0),.inr (0,3,207,0,0),.inr (0,1,208,0,0),.inr (0,2,208,0,0),.inr (0,3,208,0,0),.inl (.bool false),.inl (.slice none 0 0),.inl (.slice none 0 0)])])],qA [216,221,226]),(63,[qA [24,1,3,1,25,4,3,4,26],(false,[(true,[.inr (0,1,169,0,0),.inr (0,2,169,0,0),.inr (0,3,169,0,0),.inr (0,1,170,0,0),.inr (0,2,170,0,0),.inr (0,3,170,0,0),.inl (.bool false),.inl (.slice none 0 0),.inl (.slice none 0 0)])]),(false,[(true,[.inr (0,1,169,0,0),.inr (0,2,169,0,0),.inr (0,3,169,0,0),.inr (0,1,170,0,0),.inr (0,2,170,0,0),.inr (0,3,170,0,0),.inl (.bool false),.inl (.slice none 0 0),.inl (.slice none 0 0)])])],qA [200]),(63,[qA [24,1,3,1,25,4,3,4,26],qA [20,21,22],(false,[(true,[.inr (0,1,169,0,0),.inr (0,2,169,0,0),.inr (0,3,169,0,0),.inr (0,1,170,0,0),.inr (0,2,170,0,0),.inr (0,3,170,0,0),.inl (.bool false),.inl (.slice none 0 0),.inl (.slice none 0 0)])])],qA [194]),(108,[qA [24,1,3,1,25,4,3,4,26],(false,[(true,[.inr (0,1,169,0,0),.inr (0,2,169,0,0),.inr (0,3,169,0,0),.inr (0,1,170,0,0),.inr (0,2,170,0,0),.inr (0,3,170,0,0),.inl (.bool false),.inl (.slice none 0 0),.inl (.slice none 0 0)])])],qA [178,183,188]),(63,[qA [24,1,3,1,25,4,3,4,26],(false,[(true,[.inr (0,1,131,0,0),.inr (0,2,131,0,0),.inr (0,3,131,0,0),.inr (0,1,132,0,0),.inr (0,2,132,0,0),.inr (0,3,132,0,0),.inl (.bool false),.inl (.slice none 0 0),.inl (.slice none 0 0)])]),(false,[(true,[.inr (0,1,131,0,0),.inr (0,2,131,0,0),.inr (0,3,131,0,0),.inr (0,1,132,0,0),.inr (0,2,132,0,0),.inr (0,3,132,0,0),.inl (.bool false),.inl (.slice none 0 0),.inl (.slice none 0 0)])])],qA [162]),(63,[qA [24,1,3,1,25,4,3,4,26],qA [20,21,22],(false,[(true,[.inr (0,1,131,0,0),.inr (0,2,131,0,0),.inr (0,3,131,0,0),.inr (0,1,132,0,0),.inr (0,2,132,0,0),.inr (0,3,132,0,0),.inl (.bool false),.inl (.slice none 0 0),.inl (.slice none 0 0)])])],qA [156]),(108,[qA [24,1,3,1,25,4,3,4,26],(false,[(true,[.inr (0,1,131,0,0),.inr (0,2,131,0,0),.inr (0,3,131,0,0),.inr (0,1,132,0,0),.inr (0,2,132,0,0),.inr (0,3,132,0,0),.inl (.bool false),.inl (.slice none 0 0),.inl (.slice none 0 0)])])],qA [140,145,150]),(63,[qA [24,1,3,1,25,4,3,4,26],(false,[(true,[.inr (0,1,93,0,0),.inr (0,2,93,0,0),.inr (0,3,93,0,0),.inr (0,1,94,0,0),.inr (0,2,94,0,0),.inr (0,3,94,0,0),.inl (.bool false),.inl (.slice none 0 0),.inl (.slice none 0 0)])]),(false,[(true,[.inr (0,1,93,0,0),.inr (0,2,93,0,0),.inr (0,3,93,0,0),.inr (0,1,94,0,0),.inr (0,2,94,0,0),.inr (0,3,94,0,0),.inl (.bool false),.inl (.slice none 0 0),.inl (.slice none 0 0)])])],qA [124]),(63,[qA [24,1,3,1,25,4,3,4,26],qA [20,21,22],(false,[(true,[.inr (0,1,93,0,0),.inr (0,2,93,0,0),.inr (0,3,93,0,0),.inr (0,1,94,0,0),.inr (0,2,94,0,0),.inr (0,3,94,0,0),.inl (.bool false),.inl (.slice none 0 0),.inl (.slice none 0 0)])])],qA [118]),(108,[qA [24,1,3,1,25,4,3,4,26],(false,[(true,[.inr (0,1,93,0,0),.inr (0,2,93,0,0),.inr (0,3,93,0,0),.inr (0,1,94,0,0),.inr (0,2,94,0,0),.inr (0,3,94,0,0),.inl (.bool false),.inl (.slice none 0 0),.inl (.slice none 0 0)])])],qA [102,107,112]),(63,[qA [24,1,3,1,25,4,3,4,26],(false,[(true,[.inr (0,1,15,0,0),.inr (0,2,15,0,0),.inr (0,3,15,0,0),.inr (0,1,16,0,0),.inr (0,2,16,0,0),.inr (0,3,16,0,0),.inl (.bool false),.inl (.slice none 0 0),.inl (.slice none 0 0)])]),(false,[(true,[.inr (0,1,15,0,0),.inr (0,2,15,0,0),.inr (0,3,15,0,0),.inr (0,1,16,0,0),.inr (0,2,16,0,0),.inr (0,3,16,0,0),.inl (.bool false),.inl (.slice none 0 0),.inl (.slice none 0 0)])])],qA [86]),(63,[qA [24,1,3,1,25,4,3,4,26],qA [20,21,22],(false,[(true,[.inr (0,1,15,0,0),.inr (0,2,15,0,0),.inr (0,3,15,0,0),.inr (0,1,16,0,0),.inr (0,2,16,0,0),.inr (0,3,16,0,0),.inl (.bool false),.inl (.slice none 0 0),.inl (.slice none 0 0)])])],qA [80]),(108,[qA [24,1,3,1,25,4,3,4,26],(false,[(true,[.inr (0,1,15,0,0),.inr (0,2,15,0,0),.inr (0,3,15,0,0),.inr (0,1,16,0,0),.inr (0,2,16,0,0),.inr (0,3,16,0,0),.inl (.bool false),.inl (.slice none 0 0),.inl (.slice none 0 0)])])],qA [62,68,74]),(63,[qA [24,1,3,1,25,4,3,4,26],qA [20,21,22],qA [20,21,22]],qA [51]),(56,[qA [0,1,2,3,4,5]],qA [24,1,3,1,25,4,3,4,26])]
theorem kA_g0 : memoChk (sx Tryz.prog kA_N [] [] kA_L kA_C kA_Z (prC [14])) kA_cs 7 24 (kA_G.drop 0)=true := by kernel_rfl
theorem kA_g1 : memoChk (sx Tryz.prog kA_N [] [] kA_L kA_C kA_Z (prC [14])) kA_cs 7 5 (kA_G.drop 24)=true := by kernel_rfl
theorem kA_memoG {q : Nat→Rat} {σ : Nat→ByteArray} {w : World} (hσ : ∀ j,(σ j).size≤1048576) (hq : ∀ (a : Nat) nd,kA_N[a]? = some nd→q a=valN σ q nd) (h0 : ∀ a,kA_N.length≤a→q a=0) (hp : PreS w) : MemoAll kA_N kA_L kA_C kA_Z q σ [14] w kA_G := by
 have Y : Hy kA_N [] kA_L kA_C kA_Z q σ := hy_ofA hσ kA_wf kA_sz kA_lt kA_cn hq h0 trivial
 have hc : ∀ f ∈ ([14] : List FuncId),Closed f := by simp [closed_coned]
 have hm : (Tryz.prog).follows .mixedOrders=true := by kernel_rfl
 exact (memoAll_chk (M := kA_G.drop 0) Y hc hm hp 24 kA_g0 (memoAll_chk (M := kA_G.drop 24) Y hc hm hp 5 kA_g1 memoAll_nil))
def kA_H0 : List (Nat × Nat × Nat × Nat) := [(0,14,0,1)]
def kA_H1 : List (Nat × Nat × Nat × Nat) := [(0,14,0,0),(0,19,0,1)]
def kA_H2 : List (Nat × Nat × Nat × Nat) := [(0,14,0,0),(0,19,0,0),(0,51,0,1),(0,86,0,1),(0,80,0,1)]
def kA_H3 : List (Nat × Nat × Nat × Nat) := [(0,14,0,0),(0,19,0,0),(0,51,0,1),(0,86,0,1),(0,80,0,0)]
def kA_H4 : List (Nat × Nat × Nat × Nat) := [(0,14,0,0),(0,19,0,0),(0,51,0,1),(0,86,0,0),(0,97,0,1)]
def kA_H5 : List (Nat × Nat × Nat × Nat) := [(0,14,0,0),(0,19,0,0),(0,51,0,1),(0,86,0,0),(0,97,0,0),(0,124,0,1),(0,118,0,1)]
def kA_H6 : List (Nat × Nat × Nat × Nat) := [(0,14,0,0),(0,19,0,0),(0,51,0,1),(0,86,0,0),(0,97,0,0),(0,124,0,1),(0,118,0,0)]
def kA_H7 : List (Nat × Nat × Nat × Nat) := [(0,14,0,0),(0,19,0,0),(0,51,0,1),(0,86,0,0),(0,97,0,0),(0,124,0,0),(0,135,0,1)]
def kA_H8 : List (Nat × Nat × Nat × Nat) := [(0,14,0,0),(0,19,0,0),(0,51,0,1),(0,86,0,0),(0,97,0,0),(0,124,0,0),(0,135,0,0),(0,162,0,1),(0,156,0,1)]
def kA_H9 : List (Nat × Nat × Nat × Nat) := [(0,14,0,0),(0,19,0,0),(0,51,0,1),(0,86,0,0),(0,97,0,0),(0,124,0,0),(0,135,0,0),(0,162,0,1),(0,156,0,0)]
def kA_H10 : List (Nat × Nat × Nat × Nat) := [(0,14,0,0),(0,19,0,0),(0,51,0,1),(0,86,0,0),(0,97,0,0),(0,124,0,0),(0,135,0,0),(0,162,0,0),(0,173,0,1)]
def kA_H11 : List (Nat × Nat × Nat × Nat) := [(0,14,0,0),(0,19,0,0),(0,51,0,1),(0,86,0,0),(0,97,0,0),(0,124,0,0),(0,135,0,0),(0,162,0,0),(0,173,0,0),(0,200,0,1),(0,194,0,1)]
def kA_H12 : List (Nat × Nat × Nat × Nat) := [(0,14,0,0),(0,19,0,0),(0,51,0,1),(0,86,0,0),(0,97,0,0),(0,124,0,0),(0,135,0,0),(0,162,0,0),(0,173,0,0),(0,200,0,1),(0,194,0,0)]
def kA_H13 : List (Nat × Nat × Nat × Nat) := [(0,14,0,0),(0,19,0,0),(0,51,0,1),(0,86,0,0),(0,97,0,0),(0,124,0,0),(0,135,0,0),(0,162,0,0),(0,173,0,0),(0,200,0,0),(0,211,0,1)]
def kA_H14 : List (Nat × Nat × Nat × Nat) := [(0,14,0,0),(0,19,0,0),(0,51,0,1),(0,86,0,0),(0,97,0,0),(0,124,0,0),(0,135,0,0),(0,162,0,0),(0,173,0,0),(0,200,0,0),(0,211,0,0),(0,238,0,1),(0,232,0,1)]
def kA_H15 : List (Nat × Nat × Nat × Nat) := [(0,14,0,0),(0,19,0,0),(0,51,0,1),(0,86,0,0),(0,97,0,0),(0,124,0,0),(0,135,0,0),(0,162,0,0),(0,173,0,0),(0,200,0,0),(0,211,0,0),(0,238,0,1),(0,232,0,0)]
def kA_H16 : List (Nat × Nat × Nat × Nat) := [(0,14,0,0),(0,19,0,0),(0,51,0,1),(0,86,0,0),(0,97,0,0),(0,124,0,0),(0,135,0,0),(0,162,0,0),(0,173,0,0),(0,200,0,0),(0,211,0,0),(0,238,0,0),(0,245,0,1)]
def kA_H17 : List (Nat × Nat × Nat × Nat) := [(0,14,0,0),(0,19,0,0),(0,51,0,1),(0,86,0,0),(0,97,0,0),(0,124,0,0),(0,135,0,0),(0,162,0,0),(0,173,0,0),(0,200,0,0),(0,211,0,0),(0,238,0,0),(0,245,0,0),(0,246,0,1)]
def kA_H18 : List (Nat × Nat × Nat × Nat) := [(0,14,0,0),(0,19,0,0),(0,51,0,1),(0,86,0,0),(0,97,0,0),(0,124,0,0),(0,135,0,0),(0,162,0,0),(0,173,0,0),(0,200,0,0),(0,211,0,0),(0,238,0,0),(0,245,0,0),(0,246,0,0),(0,251,0,1)]
def kA_H19 : List (Nat × Nat × Nat × Nat) := [(0,14,0,0),(0,19,0,0),(0,51,0,1),(0,86,0,0),(0,97,0,0),(0,124,0,0),(0,135,0,0),(0,162,0,0),(0,173,0,0),(0,200,0,0),(0,211,0,0),(0,238,0,0),(0,245,0,0),(0,246,0,0),(0,251,0,0),(0,252,0,1)]
def kA_H20 : List (Nat × Nat × Nat × Nat) := [(0,14,0,0),(0,19,0,0),(0,51,0,1),(0,86,0,0),(0,97,0,0),(0,124,0,0),(0,135,0,0),(0,162,0,0),(0,173,0,0),(0,200,0,0),(0,211,0,0),(0,238,0,0),(0,245,0,0),(0,246,0,0),(0,251,0,0),(0,252,0,0),(0,257,0,1)]
def kA_H21 : List (Nat × Nat × Nat × Nat) := [(0,14,0,0),(0,19,0,0),(0,51,0,1),(0,86,0,0),(0,97,0,0),(0,124,0,0),(0,135,0,0),(0,162,0,0),(0,173,0,0),(0,200,0,0),(0,211,0,0),(0,238,0,0),(0,245,0,0),(0,246,0,0),(0,251,0,0),(0,252,0,0),(0,257,0,0),(0,262,0,1)]
def kA_H22 : List (Nat × Nat × Nat × Nat) := [(0,14,0,0),(0,19,0,0),(0,51,0,1),(0,86,0,0),(0,97,0,0),(0,124,0,0),(0,135,0,0),(0,162,0,0),(0,173,0,0),(0,200,0,0),(0,211,0,0),(0,238,0,0),(0,245,0,0),(0,246,0,0),(0,251,0,0),(0,252,0,0),(0,257,0,0),(0,262,0,0),(0,263,0,1)]
def kA_H23 : List (Nat × Nat × Nat × Nat) := [(0,14,0,0),(0,19,0,0),(0,51,0,1),(0,86,0,0),(0,97,0,0),(0,124,0,0),(0,135,0,0),(0,162,0,0),(0,173,0,0),(0,200,0,0),(0,211,0,0),(0,238,0,0),(0,245,0,0),(0,246,0,0),(0,251,0,0),(0,252,0,0),(0,257,0,0),(0,262,0,0),(0,263,0,0),(0,268,0,1)]
def kA_H24 : List (Nat × Nat × Nat × Nat) := [(0,14,0,0),(0,19,0,0),(0,51,0,1),(0,86,0,0),(0,97,0,0),(0,124,0,0),(0,135,0,0),(0,162,0,0),(0,173,0,0),(0,200,0,0),(0,211,0,0),(0,238,0,0),(0,245,0,0),(0,246,0,0),(0,251,0,0),(0,252,0,0),(0,257,0,0),(0,262,0,0),(0,263,0,0),(0,268,0,0),(0,273,0,1)]
def kA_H25 : List (Nat × Nat × Nat × Nat) := [(0,14,0,0),(0,19,0,0),(0,51,0,1),(0,86,0,0),(0,97,0,0),(0,124,0,0),(0,135,0,0),(0,162,0,0),(0,173,0,0),(0,200,0,0),(0,211,0,0),(0,238,0,0),(0,245,0,0),(0,246,0,0),(0,251,0,0),(0,252,0,0),(0,257,0,0),(0,262,0,0),(0,263,0,0),(0,268,0,0),(0,273,0,0),(0,278,0,1)]
def kA_H26 : List (Nat × Nat × Nat × Nat) := [(0,14,0,0),(0,19,0,0),(0,51,0,1),(0,86,0,0),(0,97,0,0),(0,124,0,0),(0,135,0,0),(0,162,0,0),(0,173,0,0),(0,200,0,0),(0,211,0,0),(0,238,0,0),(0,245,0,0),(0,246,0,0),(0,251,0,0),(0,252,0,0),(0,257,0,0),(0,262,0,0),(0,263,0,0),(0,268,0,0),(0,273,0,0),(0,278,0,0),(0,279,0,1)]
def kA_H27 : List (Nat × Nat × Nat × Nat) := [(0,14,0,0),(0,19,0,0),(0,51,0,1),(0,86,0,0),(0,97,0,0),(0,124,0,0),(0,135,0,0),(0,162,0,0),(0,173,0,0),(0,200,0,0),(0,211,0,0),(0,238,0,0),(0,245,0,0),(0,246,0,0),(0,251,0,0),(0,252,0,0),(0,257,0,0),(0,262,0,0),(0,263,0,0),(0,268,0,0),(0,273,0,0),(0,278,0,0),(0,279,0,0),(0,284,0,1)]
def kA_H28 : List (Nat × Nat × Nat × Nat) := [(0,14,0,0),(0,19,0,0),(0,51,0,1),(0,86,0,0),(0,97,0,0),(0,124,0,0),(0,135,0,0),(0,162,0,0),(0,173,0,0),(0,200,0,0),(0,211,0,0),(0,238,0,0),(0,245,0,0),(0,246,0,0),(0,251,0,0),(0,252,0,0),(0,257,0,0),(0,262,0,0),(0,263,0,0),(0,268,0,0),(0,273,0,0),(0,278,0,0),(0,279,0,0),(0,284,0,0),(0,289,0,1)]
def kA_H29 : List (Nat × Nat × Nat × Nat) := [(0,14,0,0),(0,19,0,0),(0,51,0,1),(0,86,0,0),(0,97,0,0),(0,124,0,0),(0,135,0,0),(0,162,0,0),(0,173,0,0),(0,200,0,0),(0,211,0,0),(0,238,0,0),(0,245,0,0),(0,246,0,0),(0,251,0,0),(0,252,0,0),(0,257,0,0),(0,262,0,0),(0,263,0,0),(0,268,0,0),(0,273,0,0),(0,278,0,0),(0,279,0,0),(0,284,0,0),(0,289,0,0),(0,294,0,1)]
def kA_H30 : List (Nat × Nat × Nat × Nat) := [(0,14,0,0),(0,19,0,0),(0,51,0,1),(0,86,0,0),(0,97,0,0),(0,124,0,0),(0,135,0,0),(0,162,0,0),(0,173,0,0),(0,200,0,0),(0,211,0,0),(0,238,0,0),(0,245,0,0),(0,246,0,0),(0,251,0,0),(0,252,0,0),(0,257,0,0),(0,262,0,0),(0,263,0,0),(0,268,0,0),(0,273,0,0),(0,278,0,0),(0,279,0,0),(0,284,0,0),(0,289,0,0),(0,294,0,0),(0,299,0,1)]
def kA_H31 : List (Nat × Nat × Nat × Nat) := [(0,14,0,0),(0,19,0,0),(0,51,0,1),(0,86,0,0),(0,97,0,0),(0,124,0,0),(0,135,0,0),(0,162,0,0),(0,173,0,0),(0,200,0,0),(0,211,0,0),(0,238,0,0),(0,245,0,0),(0,246,0,0),(0,251,0,0),(0,252,0,0),(0,257,0,0),(0,262,0,0),(0,263,0,0),(0,268,0,0),(0,273,0,0),(0,278,0,0),(0,279,0,0),(0,284,0,0),(0,289,0,0),(0,294,0,0),(0,299,0,0),(0,305,0,1),(0,308,0,0),(0,317,0,1)]
def kA_H32 : List (Nat × Nat × Nat × Nat) := [(0,14,0,0),(0,19,0,0),(0,51,0,1),(0,86,0,0),(0,97,0,0),(0,124,0,0),(0,135,0,0),(0,162,0,0),(0,173,0,0),(0,200,0,0),(0,211,0,0),(0,238,0,0),(0,245,0,0),(0,246,0,0),(0,251,0,0),(0,252,0,0),(0,257,0,0),(0,262,0,0),(0,263,0,0),(0,268,0,0),(0,273,0,0),(0,278,0,0),(0,279,0,0),(0,284,0,0),(0,289,0,0),(0,294,0,0),(0,299,0,0),(0,305,0,0),(0,308,0,0),(0,327,0,0),(0,330,0,0),(0,333,0,1),(0,342,0,0)]
def kA_H33 : List (Nat × Nat × Nat × Nat) := [(0,14,0,0),(0,19,0,0),(0,51,0,1),(0,86,0,0),(0,97,0,0),(0,124,0,0),(0,135,0,0),(0,162,0,0),(0,173,0,0),(0,200,0,0),(0,211,0,0),(0,238,0,0),(0,245,0,0),(0,246,0,0),(0,251,0,0),(0,252,0,0),(0,257,0,0),(0,262,0,0),(0,263,0,0),(0,268,0,0),(0,273,0,0),(0,278,0,0),(0,279,0,0),(0,284,0,0),(0,289,0,0),(0,294,0,0),(0,299,0,0),(0,305,0,0),(0,308,0,0),(0,327,0,0),(0,330,0,0),(0,333,0,0),(0,348,0,0),(0,358,0,0),(0,368,0,0),(0,371,0,0),(0,374,0,1),(0,383,0,1)]
def kA_H34 : List (Nat × Nat × Nat × Nat) := [(0,14,0,0),(0,19,0,0),(0,51,0,1),(0,86,0,0),(0,97,0,0),(0,124,0,0),(0,135,0,0),(0,162,0,0),(0,173,0,0),(0,200,0,0),(0,211,0,0),(0,238,0,0),(0,245,0,0),(0,246,0,0),(0,251,0,0),(0,252,0,0),(0,257,0,0),(0,262,0,0),(0,263,0,0),(0,268,0,0),(0,273,0,0),(0,278,0,0),(0,279,0,0),(0,284,0,0),(0,289,0,0),(0,294,0,0),(0,299,0,0),(0,305,0,0),(0,308,0,0),(0,327,0,0),(0,330,0,0),(0,333,0,0),(0,348,0,0),(0,358,0,0),(0,368,0,0),(0,371,0,0),(0,374,0,1),(0,383,0,0)]
def kA_H35 : List (Nat × Nat × Nat × Nat) := [(0,14,0,0),(0,19,0,0),(0,51,0,1),(0,86,0,0),(0,97,0,0),(0,124,0,0),(0,135,0,0),(0,162,0,0),(0,173,0,0),(0,200,0,0),(0,211,0,0),(0,238,0,0),(0,245,0,0),(0,246,0,0),(0,251,0,0),(0,252,0,0),(0,257,0,0),(0,262,0,0),(0,263,0,0),(0,268,0,0),(0,273,0,0),(0,278,0,0),(0,279,0,0),(0,284,0,0),(0,289,0,0),(0,294,0,0),(0,299,0,0),(0,305,0,0),(0,308,0,0),(0,327,0,0),(0,330,0,0),(0,333,0,0),(0,348,0,0),(0,358,0,0),(0,368,0,0),(0,371,0,0),(0,374,0,0),(0,389,0,0),(0,402,0,1),(0,405,0,0),(0,317,0,1)]
def kA_H36 : List (Nat × Nat × Nat × Nat) := [(0,14,0,0),(0,19,0,0),(0,51,0,1),(0,86,0,0),(0,97,0,0),(0,124,0,0),(0,135,0,0),(0,162,0,0),(0,173,0,0),(0,200,0,0),(0,211,0,0),(0,238,0,0),(0,245,0,0),(0,246,0,0),(0,251,0,0),(0,252,0,0),(0,257,0,0),(0,262,0,0),(0,263,0,0),(0,268,0,0),(0,273,0,0),(0,278,0,0),(0,279,0,0),(0,284,0,0),(0,289,0,0),(0,294,0,0),(0,299,0,0),(0,305,0,0),(0,308,0,0),(0,327,0,0),(0,330,0,0),(0,333,0,0),(0,348,0,0),(0,358,0,0),(0,368,0,0),(0,371,0,0),(0,374,0,0),(0,389,0,0),(0,402,0,0),(0,405,0,0),(0,415,0,0),(0,418,0,1),(0,427,0,0)]
def kA_H37 : List (Nat × Nat × Nat × Nat) := [(0,14,0,0),(0,19,0,0),(0,51,0,1),(0,86,0,0),(0,97,0,0),(0,124,0,0),(0,135,0,0),(0,162,0,0),(0,173,0,0),(0,200,0,0),(0,211,0,0),(0,238,0,0),(0,245,0,0),(0,246,0,0),(0,251,0,0),(0,252,0,0),(0,257,0,0),(0,262,0,0),(0,263,0,0),(0,268,0,0),(0,273,0,0),(0,278,0,0),(0,279,0,0),(0,284,0,0),(0,289,0,0),(0,294,0,0),(0,299,0,0),(0,305,0,0),(0,308,0,0),(0,327,0,0),(0,330,0,0),(0,333,0,0),(0,348,0,0),(0,358,0,0),(0,368,0,0),(0,371,0,0),(0,374,0,0),(0,389,0,0),(0,402,0,0),(0,405,0,0),(0,415,0,0),(0,418,0,0),(0,437,0,1)]
def kA_H38 : List (Nat × Nat × Nat × Nat) := [(0,14,0,0),(0,19,0,0),(0,51,0,0)]
theorem kA_r0 : (callD (sx Tryz.prog kA_N kA_H0 [] kA_L kA_C kA_Z (prC [14])) kA_cs kA_G 7 [] 4 kA_A [] 0).map (·.1)=some (kB true) := by kernel_rfl
theorem kA_r1 : (callD (sx Tryz.prog kA_N kA_H1 [] kA_L kA_C kA_Z (prC [14])) kA_cs kA_G 7 [] 4 kA_A [] 0).map (·.1)=some (kB true) := by kernel_rfl
theorem kA_r2 : (callD (sx Tryz.prog kA_N kA_H2 [] kA_L kA_C kA_Z (prC [14])) kA_cs kA_G 7 [] 4 kA_A [] 0).map (·.1)=some (kB true) := by kernel_rfl
theorem kA_r3 : (callD (sx Tryz.prog kA_N kA_H3 [] kA_L kA_C kA_Z (prC [14])) kA_cs kA_G 7 [] 4 kA_A [] 0).map (·.1)=some (kB true) := by kernel_rfl
theorem kA_r4 : (callD (sx Tryz.prog kA_N kA_H4 [] kA_L kA_C kA_Z (prC [14])) kA_cs kA_G 7 [] 4 kA_A [] 0).map (·.1)=some (kB true) := by kernel_rfl
theorem kA_r5 : (callD (sx Tryz.prog kA_N kA_H5 [] kA_L kA_C kA_Z (prC [14])) kA_cs kA_G 7 [] 4 kA_A [] 0).map (·.1)=some (kB true) := by kernel_rfl
theorem kA_r6 : (callD (sx Tryz.prog kA_N kA_H6 [] kA_L kA_C kA_Z (prC [14])) kA_cs kA_G 7 [] 4 kA_A [] 0).map (·.1)=some (kB true) := by kernel_rfl
theorem kA_r7 : (callD (sx Tryz.prog kA_N kA_H7 [] kA_L kA_C kA_Z (prC [14])) kA_cs kA_G 7 [] 4 kA_A [] 0).map (·.1)=some (kB true) := by kernel_rfl
theorem kA_r8 : (callD (sx Tryz.prog kA_N kA_H8 [] kA_L kA_C kA_Z (prC [14])) kA_cs kA_G 7 [] 4 kA_A [] 0).map (·.1)=some (kB true) := by kernel_rfl
theorem kA_r9 : (callD (sx Tryz.prog kA_N kA_H9 [] kA_L kA_C kA_Z (prC [14])) kA_cs kA_G 7 [] 4 kA_A [] 0).map (·.1)=some (kB true) := by kernel_rfl
theorem kA_r10 : (callD (sx Tryz.prog kA_N kA_H10 [] kA_L kA_C kA_Z (prC [14])) kA_cs kA_G 7 [] 4 kA_A [] 0).map (·.1)=some (kB true) := by kernel_rfl
theorem kA_r11 : (callD (sx Tryz.prog kA_N kA_H11 [] kA_L kA_C kA_Z (prC [14])) kA_cs kA_G 7 [] 4 kA_A [] 0).map (·.1)=some (kB true) := by kernel_rfl
theorem kA_r12 : (callD (sx Tryz.prog kA_N kA_H12 [] kA_L kA_C kA_Z (prC [14])) kA_cs kA_G 7 [] 4 kA_A [] 0).map (·.1)=some (kB true) := by kernel_rfl
theorem kA_r13 : (callD (sx Tryz.prog kA_N kA_H13 [] kA_L kA_C kA_Z (prC [14])) kA_cs kA_G 7 [] 4 kA_A [] 0).map (·.1)=some (kB true) := by kernel_rfl
theorem kA_r14 : (callD (sx Tryz.prog kA_N kA_H14 [] kA_L kA_C kA_Z (prC [14])) kA_cs kA_G 7 [] 4 kA_A [] 0).map (·.1)=some (kB true) := by kernel_rfl
theorem kA_r15 : (callD (sx Tryz.prog kA_N kA_H15 [] kA_L kA_C kA_Z (prC [14])) kA_cs kA_G 7 [] 4 kA_A [] 0).map (·.1)=some (kB true) := by kernel_rfl
theorem kA_r16 : (callD (sx Tryz.prog kA_N kA_H16 [] kA_L kA_C kA_Z (prC [14])) kA_cs kA_G 7 [] 4 kA_A [] 0).map (·.1)=some (kB true) := by kernel_rfl
theorem kA_r17 : (callD (sx Tryz.prog kA_N kA_H17 [] kA_L kA_C kA_Z (prC [14])) kA_cs kA_G 7 [] 4 kA_A [] 0).map (·.1)=some (kB true) := by kernel_rfl
theorem kA_r18 : (callD (sx Tryz.prog kA_N kA_H18 [] kA_L kA_C kA_Z (prC [14])) kA_cs kA_G 7 [] 4 kA_A [] 0).map (·.1)=some (kB true) := by kernel_rfl
theorem kA_r19 : (callD (sx Tryz.prog kA_N kA_H19 [] kA_L kA_C kA_Z (prC [14])) kA_cs kA_G 7 [] 4 kA_A [] 0).map (·.1)=some (kB true) := by kernel_rfl
theorem kA_r20 : (callD (sx Tryz.prog kA_N kA_H20 [] kA_L kA_C kA_Z (prC [14])) kA_cs kA_G 7 [] 4 kA_A [] 0).map (·.1)=some (kB true) := by kernel_rfl
theorem kA_r21 : (callD (sx Tryz.prog kA_N kA_H21 [] kA_L kA_C kA_Z (prC [14])) kA_cs kA_G 7 [] 4 kA_A [] 0).map (·.1)=some (kB true) := by kernel_rfl
theorem kA_r22 : (callD (sx Tryz.prog kA_N kA_H22 [] kA_L kA_C kA_Z (prC [14])) kA_cs kA_G 7 [] 4 kA_A [] 0).map (·.1)=some (kB true) := by kernel_rfl
theorem kA_r23 : (callD (sx Tryz.prog kA_N kA_H23 [] kA_L kA_C kA_Z (prC [14])) kA_cs kA_G 7 [] 4 kA_A [] 0).map (·.1)=some (kB true) := by kernel_rfl
theorem kA_r24 : (callD (sx Tryz.prog kA_N kA_H24 [] kA_L kA_C kA_Z (prC [14])) kA_cs kA_G 7 [] 4 kA_A [] 0).map (·.1)=some (kB true) := by kernel_rfl
theorem kA_r25 : (callD (sx Tryz.prog kA_N kA_H25 [] kA_L kA_C kA_Z (prC [14])) kA_cs kA_G 7 [] 4 kA_A [] 0).map (·.1)=some (kB true) := by kernel_rfl
theorem kA_r26 : (callD (sx Tryz.prog kA_N kA_H26 [] kA_L kA_C kA_Z (prC [14])) kA_cs kA_G 7 [] 4 kA_A [] 0).map (·.1)=some (kB true) := by kernel_rfl
theorem kA_r27 : (callD (sx Tryz.prog kA_N kA_H27 [] kA_L kA_C kA_Z (prC [14])) kA_cs kA_G 7 [] 4 kA_A [] 0).map (·.1)=some (kB true) := by kernel_rfl
theorem kA_r28 : (callD (sx Tryz.prog kA_N kA_H28 [] kA_L kA_C kA_Z (prC [14])) kA_cs kA_G 7 [] 4 kA_A [] 0).map (·.1)=some (kB true) := by kernel_rfl
theorem kA_r29 : (callD (sx Tryz.prog kA_N kA_H29 [] kA_L kA_C kA_Z (prC [14])) kA_cs kA_G 7 [] 4 kA_A [] 0).map (·.1)=some (kB true) := by kernel_rfl
theorem kA_r30 : (callD (sx Tryz.prog kA_N kA_H30 [] kA_L kA_C kA_Z (prC [14])) kA_cs kA_G 7 [] 4 kA_A [] 0).map (·.1)=some (kB true) := by kernel_rfl
theorem kA_r31 : (callD (sx Tryz.prog kA_N kA_H31 [] kA_L kA_C kA_Z (prC [14])) kA_cs kA_G 7 [] 4 kA_A [] 0).map (·.1)=some (kB true) := by kernel_rfl
theorem kA_r32 : (callD (sx Tryz.prog kA_N kA_H32 [] kA_L kA_C kA_Z (prC [14])) kA_cs kA_G 7 [] 4 kA_A [] 0).map (·.1)=some (kB true) := by kernel_rfl
theorem kA_r33 : (callD (sx Tryz.prog kA_N kA_H33 [] kA_L kA_C kA_Z (prC [14])) kA_cs kA_G 7 [] 4 kA_A [] 0).map (·.1)=some (kB true) := by kernel_rfl
theorem kA_r34 : (callD (sx Tryz.prog kA_N kA_H34 [] kA_L kA_C kA_Z (prC [14])) kA_cs kA_G 7 [] 4 kA_A [] 0).map (·.1)=some (kB true) := by kernel_rfl
theorem kA_r35 : (callD (sx Tryz.prog kA_N kA_H35 [] kA_L kA_C kA_Z (prC [14])) kA_cs kA_G 7 [] 4 kA_A [] 0).map (·.1)=some (kB true) := by kernel_rfl
theorem kA_r36 : (callD (sx Tryz.prog kA_N kA_H36 [] kA_L kA_C kA_Z (prC [14])) kA_cs kA_G 7 [] 4 kA_A [] 0).map (·.1)=some (kB true) := by kernel_rfl
theorem kA_r37 : (callD (sx Tryz.prog kA_N kA_H37 [] kA_L kA_C kA_Z (prC [14])) kA_cs kA_G 7 [] 4 kA_A [] 0).map (·.1)=some (kB true) := by kernel_rfl
theorem kA_r38 : (callD (sx Tryz.prog kA_N kA_H38 [] kA_L kA_C kA_Z (prC [14])) kA_cs kA_G 7 [] 4 kA_A [] 0).map (·.1)=some (kB true) := by kernel_rfl
theorem kA_An {a b : Prop} (x : a) (y : b) : a∧b := ⟨x,y⟩
theorem kA_leaf {M : Memo} {H : List (Nat × Nat × Nat × Nat)} {K : List (FuncId × List AC)} {k : Nat} {q : Nat→Rat} {σ : Nat→ByteArray} {args : List AV} {vs : List Value} {w : World} (hr : (callD (sx Tryz.prog kA_N H K kA_L kA_C kA_Z (prC [14])) kA_cs M k [] 4 args [] 0).map (·.1)=some (kB true)) (hσ : ∀ j,(σ j).size≤1048576) (hq : ∀ (a : Nat) nd,kA_N[a]? = some nd→q a=valN σ q nd) (h0 : ∀ a,kA_N.length≤a→q a=0) (hH : hAll q H) (hp : PreS w) (hM : MemoAll kA_N kA_L kA_C kA_Z q σ [14] w M) (hA : ∀ K,A2 (avOn (cOn (evS q σ) K (fun _ => none) w)) args vs) : Calls Tryz.prog 4 vs.toArray w fun e w' => Below w.heap.size w w'∧e=.returned (.bool true) :=
 run_toldD' k (hy_ofA hσ kA_wf kA_sz kA_lt kA_cn hq h0 hH) (by simp [closed_coned]) (by kernel_rfl) hp hM hr (hA K)
theorem kA_leafC {H : List (Nat × Nat × Nat × Nat)} {K : List (FuncId × List AC)} {k : Nat} {q : Nat→Rat} {σ : Nat→ByteArray} {args : List AV} {vs : List Value} {w : World} (hr : (callC (sx Tryz.prog kA_N H K kA_L kA_C kA_Z (prC [14])) kA_cs k [] 4 args [] 0).map (·.1)=some (kB true)) (hσ : ∀ j,(σ j).size≤1048576) (hq : ∀ (a : Nat) nd,kA_N[a]? = some nd→q a=valN σ q nd) (h0 : ∀ a,kA_N.length≤a→q a=0) (hH : hAll q H) (hp : PreS w) (hA : ∀ K,A2 (avOn (cOn (evS q σ) K (fun _ => none) w)) args vs) : Calls Tryz.prog 4 vs.toArray w fun e w' => Below w.heap.size w w'∧e=.returned (.bool true) :=
 run_toldC' k (hy_ofA hσ kA_wf kA_sz kA_lt kA_cn hq h0 hH) (by simp [closed_coned]) (by kernel_rfl) hr hp (hA K)
theorem kA_walk {w : World} {ka kb kc kd ke kf ux uz vax vaz vbx vbz vcx vcz vdx vdz vex vez : ByteArray}  (ska : ka.size≤1048576) (skb : kb.size≤1048576) (skc : kc.size≤1048576) (skd : kd.size≤1048576) (ske : ke.size≤1048576) (skf : kf.size≤1048576) (sux : ux.size≤1048576) (suz : uz.size≤1048576) (svax : vax.size≤1048576) (svaz : vaz.size≤1048576) (svbx : vbx.size≤1048576) (svbz : vbz.size≤1048576) (svcx : vcx.size≤1048576) (svcz : vcz.size≤1048576) (svdx : vdx.size≤1048576) (svdz : vdz.size≤1048576) (svex : vex.size≤1048576) (svez : vez.size≤1048576) (tab : Tab w) (mx : MaxL w) :
  Calls Tryz.prog 4 #[.agg #[.string ka,.string kb,.string kc,.string kd,.string ke,.string kf],.agg #[.string ux,.string uz],.agg #[.string vax,.string vaz,.string vbx,.string vbz,.string vcx,.string vcz,.string vdx,.string vdz,.string vex,.string vez]] w fun e w' => Below w.heap.size w w'∧e=.returned (.bool true) := by
 have hσ : ∀ j,(sgOf [ka,kb,kc,kd,ke,kf,ux,uz,vax,vaz,vbx,vbz,vcx,vcz,vdx,vdz,vex,vez] j).size≤1048576 := sgOf_size (by simp [ska,skb,skc,skd,ske,skf,sux,suz,svax,svaz,svbx,svbz,svcx,svcz,svdx,svdz,svex,svez])
 obtain ⟨q,hq,h0⟩ := nodes_exist (sgOf [ka,kb,kc,kd,ke,kf,ux,uz,vax,vaz,vbx,vbz,vcx,vcz,vdx,vdz,vex,vez]) kA_N kA_wf
 have hA : ∀ K,A2 (avOn (cOn (evS q (sgOf [ka,kb,kc,kd,ke,kf,ux,uz,vax,vaz,vbx,vbz,vcx,vcz,vdx,vdz,vex,vez])) K (fun _ => none) w)) [(false,[(true,[.inr (2,0,0,0,0),.inr (2,1,0,0,0),.inr (2,2,0,0,0),.inr (2,3,0,0,0),.inr (2,4,0,0,0),.inr (2,5,0,0,0)])]),(false,[(true,[.inr (2,6,0,0,0),.inr (2,7,0,0,0)])]),(false,[(true,[.inr (2,8,0,0,0),.inr (2,9,0,0,0),.inr (2,10,0,0,0),.inr (2,11,0,0,0),.inr (2,12,0,0,0),.inr (2,13,0,0,0),.inr (2,14,0,0,0),.inr (2,15,0,0,0),.inr (2,16,0,0,0),.inr (2,17,0,0,0)])])] [.agg #[.string ka,.string kb,.string kc,.string kd,.string ke,.string kf],.agg #[.string ux,.string uz],.agg #[.string vax,.string vaz,.string vbx,.string vbz,.string vcx,.string vcz,.string vdx,.string vdz,.string vex,.string vez]] := fun K => ⟨⟨⟨[.string ka,.string kb,.string kc,.string kd,.string ke,.string kf],rfl,rfl,rfl,rfl,rfl,rfl,rfl,trivial⟩,trivial⟩,⟨⟨[.string ux,.string uz],rfl,rfl,rfl,trivial⟩,trivial⟩,⟨⟨[.string vax,.string vaz,.string vbx,.string vbz,.string vcx,.string vcz,.string vdx,.string vdz,.string vex,.string vez],rfl,rfl,rfl,rfl,rfl,rfl,rfl,rfl,rfl,rfl,rfl,trivial⟩,trivial⟩,trivial⟩
 have E28 : q 28=0 := (hq 28 _ rfl).trans kA_c28
 have Q317 : q 317=0 ↔ (q 28=0∧q 28=0) := (sq_next (sq_first (hq 316 _ rfl)) (hq 316 _ rfl) (hq 317 _ rfl)).2
 by_cases b14 : q 14=0
 ·
  have hH : hAll q kA_H0 := (kA_An (hT b14) trivial)
  exact kA_leaf kA_r0 hσ hq h0 hH ⟨tab,mx⟩ (kA_memoG hσ hq h0 ⟨tab,mx⟩) hA
 ·
  by_cases b19 : q 19=0
  ·
   have hH : hAll q kA_H1 := (kA_An (hF b14) (kA_An (hT b19) trivial))
   exact kA_leaf kA_r1 hσ hq h0 hH ⟨tab,mx⟩ (kA_memoG hσ hq h0 ⟨tab,mx⟩) hA
  ·
   by_cases b51 : q 51=0
   ·
    by_cases b86 : q 86=0
    ·
     by_cases b80 : q 80=0
     ·
      have hH : hAll q kA_H2 := (kA_An (hF b14) (kA_An (hF b19) (kA_An (hT b51) (kA_An (hT b86) (kA_An (hT b80) trivial)))))
      exact kA_leaf kA_r2 hσ hq h0 hH ⟨tab,mx⟩ (kA_memoG hσ hq h0 ⟨tab,mx⟩) hA
     ·
      have hH : hAll q kA_H3 := (kA_An (hF b14) (kA_An (hF b19) (kA_An (hT b51) (kA_An (hT b86) (kA_An (hF b80) trivial)))))
      exact kA_leaf kA_r3 hσ hq h0 hH ⟨tab,mx⟩ (kA_memoG hσ hq h0 ⟨tab,mx⟩) hA
    ·
     by_cases b97 : q 97=0
     ·
      have hH : hAll q kA_H4 := (kA_An (hF b14) (kA_An (hF b19) (kA_An (hT b51) (kA_An (hF b86) (kA_An (hT b97) trivial)))))
      exact kA_leaf kA_r4 hσ hq h0 hH ⟨tab,mx⟩ (kA_memoG hσ hq h0 ⟨tab,mx⟩) hA
     ·
      by_cases b124 : q 124=0
      ·
       by_cases b118 : q 118=0
       ·
        have hH : hAll q kA_H5 := (kA_An (hF b14) (kA_An (hF b19) (kA_An (hT b51) (kA_An (hF b86) (kA_An (hF b97) (kA_An (hT b124) (kA_An (hT b118) trivial)))))))
        exact kA_leaf kA_r5 hσ hq h0 hH ⟨tab,mx⟩ (kA_memoG hσ hq h0 ⟨tab,mx⟩) hA
       ·
        have hH : hAll q kA_H6 := (kA_An (hF b14) (kA_An (hF b19) (kA_An (hT b51) (kA_An (hF b86) (kA_An (hF b97) (kA_An (hT b124) (kA_An (hF b118) trivial)))))))
        exact kA_leaf kA_r6 hσ hq h0 hH ⟨tab,mx⟩ (kA_memoG hσ hq h0 ⟨tab,mx⟩) hA
      ·
       by_cases b135 : q 135=0
       ·
        have hH : hAll q kA_H7 := (kA_An (hF b14) (kA_An (hF b19) (kA_An (hT b51) (kA_An (hF b86) (kA_An (hF b97) (kA_An (hF b124) (kA_An (hT b135) trivial)))))))
        exact kA_leaf kA_r7 hσ hq h0 hH ⟨tab,mx⟩ (kA_memoG hσ hq h0 ⟨tab,mx⟩) hA
       ·
        by_cases b162 : q 162=0
        ·
         by_cases b156 : q 156=0
         ·
          have hH : hAll q kA_H8 := (kA_An (hF b14) (kA_An (hF b19) (kA_An (hT b51) (kA_An (hF b86) (kA_An (hF b97) (kA_An (hF b124) (kA_An (hF b135) (kA_An (hT b162) (kA_An (hT b156) trivial)))))))))
          exact kA_leaf kA_r8 hσ hq h0 hH ⟨tab,mx⟩ (kA_memoG hσ hq h0 ⟨tab,mx⟩) hA
         ·
          have hH : hAll q kA_H9 := (kA_An (hF b14) (kA_An (hF b19) (kA_An (hT b51) (kA_An (hF b86) (kA_An (hF b97) (kA_An (hF b124) (kA_An (hF b135) (kA_An (hT b162) (kA_An (hF b156) trivial)))))))))
          exact kA_leaf kA_r9 hσ hq h0 hH ⟨tab,mx⟩ (kA_memoG hσ hq h0 ⟨tab,mx⟩) hA
        ·
         by_cases b173 : q 173=0
         ·
          have hH : hAll q kA_H10 := (kA_An (hF b14) (kA_An (hF b19) (kA_An (hT b51) (kA_An (hF b86) (kA_An (hF b97) (kA_An (hF b124) (kA_An (hF b135) (kA_An (hF b162) (kA_An (hT b173) trivial)))))))))
          exact kA_leaf kA_r10 hσ hq h0 hH ⟨tab,mx⟩ (kA_memoG hσ hq h0 ⟨tab,mx⟩) hA
         ·
          by_cases b200 : q 200=0
          ·
           by_cases b194 : q 194=0
           ·
            have hH : hAll q kA_H11 := (kA_An (hF b14) (kA_An (hF b19) (kA_An (hT b51) (kA_An (hF b86) (kA_An (hF b97) (kA_An (hF b124) (kA_An (hF b135) (kA_An (hF b162) (kA_An (hF b173) (kA_An (hT b200) (kA_An (hT b194) trivial)))))))))))
            exact kA_leaf kA_r11 hσ hq h0 hH ⟨tab,mx⟩ (kA_memoG hσ hq h0 ⟨tab,mx⟩) hA
           ·
            have hH : hAll q kA_H12 := (kA_An (hF b14) (kA_An (hF b19) (kA_An (hT b51) (kA_An (hF b86) (kA_An (hF b97) (kA_An (hF b124) (kA_An (hF b135) (kA_An (hF b162) (kA_An (hF b173) (kA_An (hT b200) (kA_An (hF b194) trivial)))))))))))
            exact kA_leaf kA_r12 hσ hq h0 hH ⟨tab,mx⟩ (kA_memoG hσ hq h0 ⟨tab,mx⟩) hA
          ·
           by_cases b211 : q 211=0
           ·
            have hH : hAll q kA_H13 := (kA_An (hF b14) (kA_An (hF b19) (kA_An (hT b51) (kA_An (hF b86) (kA_An (hF b97) (kA_An (hF b124) (kA_An (hF b135) (kA_An (hF b162) (kA_An (hF b173) (kA_An (hF b200) (kA_An (hT b211) trivial)))))))))))
            exact kA_leaf kA_r13 hσ hq h0 hH ⟨tab,mx⟩ (kA_memoG hσ hq h0 ⟨tab,mx⟩) hA
           ·
            by_cases b238 : q 238=0
            ·
             by_cases b232 : q 232=0
             ·
              have hH : hAll q kA_H14 := (kA_An (hF b14) (kA_An (hF b19) (kA_An (hT b51) (kA_An (hF b86) (kA_An (hF b97) (kA_An (hF b124) (kA_An (hF b135) (kA_An (hF b162) (kA_An (hF b173) (kA_An (hF b200) (kA_An (hF b211) (kA_An (hT b238) (kA_An (hT b232) trivial)))))))))))))
              exact kA_leaf kA_r14 hσ hq h0 hH ⟨tab,mx⟩ (kA_memoG hσ hq h0 ⟨tab,mx⟩) hA
             ·
              have hH : hAll q kA_H15 := (kA_An (hF b14) (kA_An (hF b19) (kA_An (hT b51) (kA_An (hF b86) (kA_An (hF b97) (kA_An (hF b124) (kA_An (hF b135) (kA_An (hF b162) (kA_An (hF b173) (kA_An (hF b200) (kA_An (hF b211) (kA_An (hT b238) (kA_An (hF b232) trivial)))))))))))))
              exact kA_leaf kA_r15 hσ hq h0 hH ⟨tab,mx⟩ (kA_memoG hσ hq h0 ⟨tab,mx⟩) hA
            ·
             by_cases b245 : q 245=0
             ·
              have hH : hAll q kA_H16 := (kA_An (hF b14) (kA_An (hF b19) (kA_An (hT b51) (kA_An (hF b86) (kA_An (hF b97) (kA_An (hF b124) (kA_An (hF b135) (kA_An (hF b162) (kA_An (hF b173) (kA_An (hF b200) (kA_An (hF b211) (kA_An (hF b238) (kA_An (hT b245) trivial)))))))))))))
              exact kA_leaf kA_r16 hσ hq h0 hH ⟨tab,mx⟩ (kA_memoG hσ hq h0 ⟨tab,mx⟩) hA
             ·
              by_cases b246 : q 246=0
              ·
               have hH : hAll q kA_H17 := (kA_An (hF b14) (kA_An (hF b19) (kA_An (hT b51) (kA_An (hF b86) (kA_An (hF b97) (kA_An (hF b124) (kA_An (hF b135) (kA_An (hF b162) (kA_An (hF b173) (kA_An (hF b200) (kA_An (hF b211) (kA_An (hF b238) (kA_An (hF b245) (kA_An (hT b246) trivial))))))))))))))
               exact kA_leaf kA_r17 hσ hq h0 hH ⟨tab,mx⟩ (kA_memoG hσ hq h0 ⟨tab,mx⟩) hA
              ·
               by_cases b251 : q 251=0
               ·
                have hH : hAll q kA_H18 := (kA_An (hF b14) (kA_An (hF b19) (kA_An (hT b51) (kA_An (hF b86) (kA_An (hF b97) (kA_An (hF b124) (kA_An (hF b135) (kA_An (hF b162) (kA_An (hF b173) (kA_An (hF b200) (kA_An (hF b211) (kA_An (hF b238) (kA_An (hF b245) (kA_An (hF b246) (kA_An (hT b251) trivial)))))))))))))))
                exact kA_leaf kA_r18 hσ hq h0 hH ⟨tab,mx⟩ (kA_memoG hσ hq h0 ⟨tab,mx⟩) hA
               ·
                by_cases b252 : q 252=0
                ·
                 have hH : hAll q kA_H19 := (kA_An (hF b14) (kA_An (hF b19) (kA_An (hT b51) (kA_An (hF b86) (kA_An (hF b97) (kA_An (hF b124) (kA_An (hF b135) (kA_An (hF b162) (kA_An (hF b173) (kA_An (hF b200) (kA_An (hF b211) (kA_An (hF b238) (kA_An (hF b245) (kA_An (hF b246) (kA_An (hF b251) (kA_An (hT b252) trivial))))))))))))))))
                 exact kA_leaf kA_r19 hσ hq h0 hH ⟨tab,mx⟩ (kA_memoG hσ hq h0 ⟨tab,mx⟩) hA
                ·
                 by_cases b257 : q 257=0
                 ·
                  have hH : hAll q kA_H20 := (kA_An (hF b14) (kA_An (hF b19) (kA_An (hT b51) (kA_An (hF b86) (kA_An (hF b97) (kA_An (hF b124) (kA_An (hF b135) (kA_An (hF b162) (kA_An (hF b173) (kA_An (hF b200) (kA_An (hF b211) (kA_An (hF b238) (kA_An (hF b245) (kA_An (hF b246) (kA_An (hF b251) (kA_An (hF b252) (kA_An (hT b257) trivial)))))))))))))))))
                  exact kA_leaf kA_r20 hσ hq h0 hH ⟨tab,mx⟩ (kA_memoG hσ hq h0 ⟨tab,mx⟩) hA
                 ·
                  by_cases b262 : q 262=0
                  ·
                   have hH : hAll q kA_H21 := (kA_An (hF b14) (kA_An (hF b19) (kA_An (hT b51) (kA_An (hF b86) (kA_An (hF b97) (kA_An (hF b124) (kA_An (hF b135) (kA_An (hF b162) (kA_An (hF b173) (kA_An (hF b200) (kA_An (hF b211) (kA_An (hF b238) (kA_An (hF b245) (kA_An (hF b246) (kA_An (hF b251) (kA_An (hF b252) (kA_An (hF b257) (kA_An (hT b262) trivial))))))))))))))))))
                   exact kA_leaf kA_r21 hσ hq h0 hH ⟨tab,mx⟩ (kA_memoG hσ hq h0 ⟨tab,mx⟩) hA
                  ·
                   by_cases b263 : q 263=0
                   ·
                    have hH : hAll q kA_H22 := (kA_An (hF b14) (kA_An (hF b19) (kA_An (hT b51) (kA_An (hF b86) (kA_An (hF b97) (kA_An (hF b124) (kA_An (hF b135) (kA_An (hF b162) (kA_An (hF b173) (kA_An (hF b200) (kA_An (hF b211) (kA_An (hF b238) (kA_An (hF b245) (kA_An (hF b246) (kA_An (hF b251) (kA_An (hF b252) (kA_An (hF b257) (kA_An (hF b262) (kA_An (hT b263) trivial)))))))))))))))))))
                    exact kA_leaf kA_r22 hσ hq h0 hH ⟨tab,mx⟩ (kA_memoG hσ hq h0 ⟨tab,mx⟩) hA
                   ·
                    by_cases b268 : q 268=0
                    ·
                     have hH : hAll q kA_H23 := (kA_An (hF b14) (kA_An (hF b19) (kA_An (hT b51) (kA_An (hF b86) (kA_An (hF b97) (kA_An (hF b124) (kA_An (hF b135) (kA_An (hF b162) (kA_An (hF b173) (kA_An (hF b200) (kA_An (hF b211) (kA_An (hF b238) (kA_An (hF b245) (kA_An (hF b246) (kA_An (hF b251) (kA_An (hF b252) (kA_An (hF b257) (kA_An (hF b262) (kA_An (hF b263) (kA_An (hT b268) trivial))))))))))))))))))))
                     exact kA_leaf kA_r23 hσ hq h0 hH ⟨tab,mx⟩ (kA_memoG hσ hq h0 ⟨tab,mx⟩) hA
                    ·
                     by_cases b273 : q 273=0
                     ·
                      have hH : hAll q kA_H24 := (kA_An (hF b14) (kA_An (hF b19) (kA_An (hT b51) (kA_An (hF b86) (kA_An (hF b97) (kA_An (hF b124) (kA_An (hF b135) (kA_An (hF b162) (kA_An (hF b173) (kA_An (hF b200) (kA_An (hF b211) (kA_An (hF b238) (kA_An (hF b245) (kA_An (hF b246) (kA_An (hF b251) (kA_An (hF b252) (kA_An (hF b257) (kA_An (hF b262) (kA_An (hF b263) (kA_An (hF b268) (kA_An (hT b273) trivial)))))))))))))))))))))
                      exact kA_leaf kA_r24 hσ hq h0 hH ⟨tab,mx⟩ (kA_memoG hσ hq h0 ⟨tab,mx⟩) hA
                     ·
                      by_cases b278 : q 278=0
                      ·
                       have hH : hAll q kA_H25 := (kA_An (hF b14) (kA_An (hF b19) (kA_An (hT b51) (kA_An (hF b86) (kA_An (hF b97) (kA_An (hF b124) (kA_An (hF b135) (kA_An (hF b162) (kA_An (hF b173) (kA_An (hF b200) (kA_An (hF b211) (kA_An (hF b238) (kA_An (hF b245) (kA_An (hF b246) (kA_An (hF b251) (kA_An (hF b252) (kA_An (hF b257) (kA_An (hF b262) (kA_An (hF b263) (kA_An (hF b268) (kA_An (hF b273) (kA_An (hT b278) trivial))))))))))))))))))))))
                       exact kA_leaf kA_r25 hσ hq h0 hH ⟨tab,mx⟩ (kA_memoG hσ hq h0 ⟨tab,mx⟩) hA
                      ·
                       by_cases b279 : q 279=0
                       ·
                        have hH : hAll q kA_H26 := (kA_An (hF b14) (kA_An (hF b19) (kA_An (hT b51) (kA_An (hF b86) (kA_An (hF b97) (kA_An (hF b124) (kA_An (hF b135) (kA_An (hF b162) (kA_An (hF b173) (kA_An (hF b200) (kA_An (hF b211) (kA_An (hF b238) (kA_An (hF b245) (kA_An (hF b246) (kA_An (hF b251) (kA_An (hF b252) (kA_An (hF b257) (kA_An (hF b262) (kA_An (hF b263) (kA_An (hF b268) (kA_An (hF b273) (kA_An (hF b278) (kA_An (hT b279) trivial)))))))))))))))))))))))
                        exact kA_leaf kA_r26 hσ hq h0 hH ⟨tab,mx⟩ (kA_memoG hσ hq h0 ⟨tab,mx⟩) hA
                       ·
                        by_cases b284 : q 284=0
                        ·
                         have hH : hAll q kA_H27 := (kA_An (hF b14) (kA_An (hF b19) (kA_An (hT b51) (kA_An (hF b86) (kA_An (hF b97) (kA_An (hF b124) (kA_An (hF b135) (kA_An (hF b162) (kA_An (hF b173) (kA_An (hF b200) (kA_An (hF b211) (kA_An (hF b238) (kA_An (hF b245) (kA_An (hF b246) (kA_An (hF b251) (kA_An (hF b252) (kA_An (hF b257) (kA_An (hF b262) (kA_An (hF b263) (kA_An (hF b268) (kA_An (hF b273) (kA_An (hF b278) (kA_An (hF b279) (kA_An (hT b284) trivial))))))))))))))))))))))))
                         exact kA_leaf kA_r27 hσ hq h0 hH ⟨tab,mx⟩ (kA_memoG hσ hq h0 ⟨tab,mx⟩) hA
                        ·
                         by_cases b289 : q 289=0
                         ·
                          have hH : hAll q kA_H28 := (kA_An (hF b14) (kA_An (hF b19) (kA_An (hT b51) (kA_An (hF b86) (kA_An (hF b97) (kA_An (hF b124) (kA_An (hF b135) (kA_An (hF b162) (kA_An (hF b173) (kA_An (hF b200) (kA_An (hF b211) (kA_An (hF b238) (kA_An (hF b245) (kA_An (hF b246) (kA_An (hF b251) (kA_An (hF b252) (kA_An (hF b257) (kA_An (hF b262) (kA_An (hF b263) (kA_An (hF b268) (kA_An (hF b273) (kA_An (hF b278) (kA_An (hF b279) (kA_An (hF b284) (kA_An (hT b289) trivial)))))))))))))))))))))))))
                          exact kA_leaf kA_r28 hσ hq h0 hH ⟨tab,mx⟩ (kA_memoG hσ hq h0 ⟨tab,mx⟩) hA
                         ·
                          by_cases b294 : q 294=0
                          ·
                           have hH : hAll q kA_H29 := (kA_An (hF b14) (kA_An (hF b19) (kA_An (hT b51) (kA_An (hF b86) (kA_An (hF b97) (kA_An (hF b124) (kA_An (hF b135) (kA_An (hF b162) (kA_An (hF b173) (kA_An (hF b200) (kA_An (hF b211) (kA_An (hF b238) (kA_An (hF b245) (kA_An (hF b246) (kA_An (hF b251) (kA_An (hF b252) (kA_An (hF b257) (kA_An (hF b262) (kA_An (hF b263) (kA_An (hF b268) (kA_An (hF b273) (kA_An (hF b278) (kA_An (hF b279) (kA_An (hF b284) (kA_An (hF b289) (kA_An (hT b294) trivial))))))))))))))))))))))))))
                           exact kA_leaf kA_r29 hσ hq h0 hH ⟨tab,mx⟩ (kA_memoG hσ hq h0 ⟨tab,mx⟩) hA
                          ·
                           by_cases b299 : q 299=0
                           ·
                            have hH : hAll q kA_H30 := (kA_An (hF b14) (kA_An (hF b19) (kA_An (hT b51) (kA_An (hF b86) (kA_An (hF b97) (kA_An (hF b124) (kA_An (hF b135) (kA_An (hF b162) (kA_An (hF b173) (kA_An (hF b200) (kA_An (hF b211) (kA_An (hF b238) (kA_An (hF b245) (kA_An (hF b246) (kA_An (hF b251) (kA_An (hF b252) (kA_An (hF b257) (kA_An (hF b262) (kA_An (hF b263) (kA_An (hF b268) (kA_An (hF b273) (kA_An (hF b278) (kA_An (hF b279) (kA_An (hF b284) (kA_An (hF b289) (kA_An (hF b294) (kA_An (hT b299) trivial)))))))))))))))))))))))))))
                            exact kA_leaf kA_r30 hσ hq h0 hH ⟨tab,mx⟩ (kA_memoG hσ hq h0 ⟨tab,mx⟩) hA
                           ·
                            by_cases b305 : q 305=0
                            ·
                             have gdo0 := kA_do0 hq b278
                             have b308 : ¬ (q 308=0) := gdo0
                             have b317 : q 317=0 := kA_f1 E28 Q317
                             have hH : hAll q kA_H31 := (kA_An (hF b14) (kA_An (hF b19) (kA_An (hT b51) (kA_An (hF b86) (kA_An (hF b97) (kA_An (hF b124) (kA_An (hF b135) (kA_An (hF b162) (kA_An (hF b173) (kA_An (hF b200) (kA_An (hF b211) (kA_An (hF b238) (kA_An (hF b245) (kA_An (hF b246) (kA_An (hF b251) (kA_An (hF b252) (kA_An (hF b257) (kA_An (hF b262) (kA_An (hF b263) (kA_An (hF b268) (kA_An (hF b273) (kA_An (hF b278) (kA_An (hF b279) (kA_An (hF b284) (kA_An (hF b289) (kA_An (hF b294) (kA_An (hF b299) (kA_An (hT b305) (kA_An (hF b308) (kA_An (hT b317) trivial))))))))))))))))))))))))))))))
                             exact kA_leaf kA_r31 hσ hq h0 hH ⟨tab,mx⟩ (kA_memoG hσ hq h0 ⟨tab,mx⟩) hA
                            ·
                             have gdo0 := kA_do0 hq b278
                             have b308 : ¬ (q 308=0) := gdo0
                             have gl0 := kA_l0 hq b305
                             have b327 : ¬ (q 327=0) := gl0
                             have go0 := kA_o0 hq b308
                             have b330 : ¬ (q 330=0) := go0
                             by_cases b333 : q 333=0
                             ·
                              have gA0 := kA_A0 hq (kA_S0 hq b86) (kA_S2 hq b162) (kA_S3 hq b200) b305 b257 b268 b278 b333
                              have b342 : ¬ (q 342=0) := gA0
                              have hH : hAll q kA_H32 := (kA_An (hF b14) (kA_An (hF b19) (kA_An (hT b51) (kA_An (hF b86) (kA_An (hF b97) (kA_An (hF b124) (kA_An (hF b135) (kA_An (hF b162) (kA_An (hF b173) (kA_An (hF b200) (kA_An (hF b211) (kA_An (hF b238) (kA_An (hF b245) (kA_An (hF b246) (kA_An (hF b251) (kA_An (hF b252) (kA_An (hF b257) (kA_An (hF b262) (kA_An (hF b263) (kA_An (hF b268) (kA_An (hF b273) (kA_An (hF b278) (kA_An (hF b279) (kA_An (hF b284) (kA_An (hF b289) (kA_An (hF b294) (kA_An (hF b299) (kA_An (hF b305) (kA_An (hF b308) (kA_An (hF b327) (kA_An (hF b330) (kA_An (hT b333) (kA_An (hF b342) trivial)))))))))))))))))))))))))))))))))
                              exact kA_leaf kA_r32 hσ hq h0 hH ⟨tab,mx⟩ (kA_memoG hσ hq h0 ⟨tab,mx⟩) hA
                             ·
                              have gdl1 := kA_dl1 hq b251
                              have b348 : ¬ (q 348=0) := gdl1
                              have gdo1 := kA_do1 hq b299
                              have b358 : ¬ (q 358=0) := gdo1
                              have gl1 := kA_l1 hq b348
                              have b368 : ¬ (q 368=0) := gl1
                              have go1 := kA_o1 hq b358
                              have b371 : ¬ (q 371=0) := go1
                              by_cases b374 : q 374=0
                              ·
                               by_cases b383 : q 383=0
                               ·
                                have hH : hAll q kA_H33 := (kA_An (hF b14) (kA_An (hF b19) (kA_An (hT b51) (kA_An (hF b86) (kA_An (hF b97) (kA_An (hF b124) (kA_An (hF b135) (kA_An (hF b162) (kA_An (hF b173) (kA_An (hF b200) (kA_An (hF b211) (kA_An (hF b238) (kA_An (hF b245) (kA_An (hF b246) (kA_An (hF b251) (kA_An (hF b252) (kA_An (hF b257) (kA_An (hF b262) (kA_An (hF b263) (kA_An (hF b268) (kA_An (hF b273) (kA_An (hF b278) (kA_An (hF b279) (kA_An (hF b284) (kA_An (hF b289) (kA_An (hF b294) (kA_An (hF b299) (kA_An (hF b305) (kA_An (hF b308) (kA_An (hF b327) (kA_An (hF b330) (kA_An (hF b333) (kA_An (hF b348) (kA_An (hF b358) (kA_An (hF b368) (kA_An (hF b371) (kA_An (hT b374) (kA_An (hT b383) trivial))))))))))))))))))))))))))))))))))))))
                                exact kA_leaf kA_r33 hσ hq h0 hH ⟨tab,mx⟩ (kA_memoG hσ hq h0 ⟨tab,mx⟩) hA
                               ·
                                have hH : hAll q kA_H34 := (kA_An (hF b14) (kA_An (hF b19) (kA_An (hT b51) (kA_An (hF b86) (kA_An (hF b97) (kA_An (hF b124) (kA_An (hF b135) (kA_An (hF b162) (kA_An (hF b173) (kA_An (hF b200) (kA_An (hF b211) (kA_An (hF b238) (kA_An (hF b245) (kA_An (hF b246) (kA_An (hF b251) (kA_An (hF b252) (kA_An (hF b257) (kA_An (hF b262) (kA_An (hF b263) (kA_An (hF b268) (kA_An (hF b273) (kA_An (hF b278) (kA_An (hF b279) (kA_An (hF b284) (kA_An (hF b289) (kA_An (hF b294) (kA_An (hF b299) (kA_An (hF b305) (kA_An (hF b308) (kA_An (hF b327) (kA_An (hF b330) (kA_An (hF b333) (kA_An (hF b348) (kA_An (hF b358) (kA_An (hF b368) (kA_An (hF b371) (kA_An (hT b374) (kA_An (hF b383) trivial))))))))))))))))))))))))))))))))))))))
                                exact kA_leaf kA_r34 hσ hq h0 hH ⟨tab,mx⟩ (kA_memoG hσ hq h0 ⟨tab,mx⟩) hA
                              ·
                               have gdl2 := kA_dl2 hq b262
                               have b389 : ¬ (q 389=0) := gdl2
                               by_cases b402 : q 402=0
                               ·
                                have gl2 := kA_l2 hq b389
                                have b405 : ¬ (q 405=0) := gl2
                                have b317 : q 317=0 := kA_f1 E28 Q317
                                have hH : hAll q kA_H35 := (kA_An (hF b14) (kA_An (hF b19) (kA_An (hT b51) (kA_An (hF b86) (kA_An (hF b97) (kA_An (hF b124) (kA_An (hF b135) (kA_An (hF b162) (kA_An (hF b173) (kA_An (hF b200) (kA_An (hF b211) (kA_An (hF b238) (kA_An (hF b245) (kA_An (hF b246) (kA_An (hF b251) (kA_An (hF b252) (kA_An (hF b257) (kA_An (hF b262) (kA_An (hF b263) (kA_An (hF b268) (kA_An (hF b273) (kA_An (hF b278) (kA_An (hF b279) (kA_An (hF b284) (kA_An (hF b289) (kA_An (hF b294) (kA_An (hF b299) (kA_An (hF b305) (kA_An (hF b308) (kA_An (hF b327) (kA_An (hF b330) (kA_An (hF b333) (kA_An (hF b348) (kA_An (hF b358) (kA_An (hF b368) (kA_An (hF b371) (kA_An (hF b374) (kA_An (hF b389) (kA_An (hT b402) (kA_An (hF b405) (kA_An (hT b317) trivial)))))))))))))))))))))))))))))))))))))))))
                                exact kA_leaf kA_r35 hσ hq h0 hH ⟨tab,mx⟩ (kA_memoG hσ hq h0 ⟨tab,mx⟩) hA
                               ·
                                have gl2 := kA_l2 hq b389
                                have b405 : ¬ (q 405=0) := gl2
                                have go2 := kA_o2 hq b402
                                have b415 : ¬ (q 415=0) := go2
                                by_cases b418 : q 418=0
                                ·
                                 have gA2 := kA_A2 hq (kA_S4 hq b238) (kA_S1 hq b124) (kA_S2 hq b162) b402 b289 b294 b262 b418
                                 have b427 : ¬ (q 427=0) := gA2
                                 have hH : hAll q kA_H36 := (kA_An (hF b14) (kA_An (hF b19) (kA_An (hT b51) (kA_An (hF b86) (kA_An (hF b97) (kA_An (hF b124) (kA_An (hF b135) (kA_An (hF b162) (kA_An (hF b173) (kA_An (hF b200) (kA_An (hF b211) (kA_An (hF b238) (kA_An (hF b245) (kA_An (hF b246) (kA_An (hF b251) (kA_An (hF b252) (kA_An (hF b257) (kA_An (hF b262) (kA_An (hF b263) (kA_An (hF b268) (kA_An (hF b273) (kA_An (hF b278) (kA_An (hF b279) (kA_An (hF b284) (kA_An (hF b289) (kA_An (hF b294) (kA_An (hF b299) (kA_An (hF b305) (kA_An (hF b308) (kA_An (hF b327) (kA_An (hF b330) (kA_An (hF b333) (kA_An (hF b348) (kA_An (hF b358) (kA_An (hF b368) (kA_An (hF b371) (kA_An (hF b374) (kA_An (hF b389) (kA_An (hF b402) (kA_An (hF b405) (kA_An (hF b415) (kA_An (hT b418) (kA_An (hF b427) trivial)))))))))))))))))))))))))))))))))))))))))))
                                 exact kA_leaf kA_r36 hσ hq h0 hH ⟨tab,mx⟩ (kA_memoG hσ hq h0 ⟨tab,mx⟩) hA
                                ·
                                 have gF := kA_F hq (kA_S0 hq b86) (kA_S1 hq b124) (kA_S2 hq b162) (kA_S3 hq b200) (kA_S4 hq b238) (kA_M0 hq b333) (kA_M1 hq b374) (kA_M2 hq b418)
                                 have b437 : q 437=0 := gF
                                 have hH : hAll q kA_H37 := (kA_An (hF b14) (kA_An (hF b19) (kA_An (hT b51) (kA_An (hF b86) (kA_An (hF b97) (kA_An (hF b124) (kA_An (hF b135) (kA_An (hF b162) (kA_An (hF b173) (kA_An (hF b200) (kA_An (hF b211) (kA_An (hF b238) (kA_An (hF b245) (kA_An (hF b246) (kA_An (hF b251) (kA_An (hF b252) (kA_An (hF b257) (kA_An (hF b262) (kA_An (hF b263) (kA_An (hF b268) (kA_An (hF b273) (kA_An (hF b278) (kA_An (hF b279) (kA_An (hF b284) (kA_An (hF b289) (kA_An (hF b294) (kA_An (hF b299) (kA_An (hF b305) (kA_An (hF b308) (kA_An (hF b327) (kA_An (hF b330) (kA_An (hF b333) (kA_An (hF b348) (kA_An (hF b358) (kA_An (hF b368) (kA_An (hF b371) (kA_An (hF b374) (kA_An (hF b389) (kA_An (hF b402) (kA_An (hF b405) (kA_An (hF b415) (kA_An (hF b418) (kA_An (hT b437) trivial)))))))))))))))))))))))))))))))))))))))))))
                                 exact kA_leaf kA_r37 hσ hq h0 hH ⟨tab,mx⟩ (kA_memoG hσ hq h0 ⟨tab,mx⟩) hA
   ·
    have hH : hAll q kA_H38 := (kA_An (hF b14) (kA_An (hF b19) (kA_An (hF b51) trivial)))
    exact kA_leaf kA_r38 hσ hq h0 hH ⟨tab,mx⟩ (kA_memoG hσ hq h0 ⟨tab,mx⟩) hA
end Go.Proofs.YtkafcpodhflhpaaGreatDoor
