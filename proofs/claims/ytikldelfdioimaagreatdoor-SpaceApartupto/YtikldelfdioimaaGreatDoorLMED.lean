/- Part 13 of the walks and of the mathematics under them: VP VPC VY VSZ VSA CFspaced MED. -/
import Derived.Test.YtikldelfdioimaaGreatDoorA2
import Derived.Test.YtikldelfdioimaaGreatDoorA12
set_option maxHeartbeats 16000000
set_option maxRecDepth 100000
/- VP -/
namespace Cx
open Go Go.RowKit
abbrev Hs := List (Nat × Nat × Nat × Nat)
def Sx.plus (S : Sx) (X : Hs) : Sx := { S with H := X ++ S.H }
abbrev Ask := Nat × Nat × Nat × Nat
def askZ (a : Nat) : Ask := (0,a,0,a)
def askOk (S : Sx) : Ask→Bool
 | (k,a,b,d) => (Nat.beq k 0 && (Nat.beq b 0 && Nat.beq d a)) || (Nat.beq k 3 && (match S.N[d]? with
  | some (op,ar) => Nat.beq op 3 && beqL ar [a,b]
  | none => false))
def acrossB (S : Sx) (a b : Nat) : List Nat→List Nat→Option (List Ask)
 | c :: l,d :: m => (S.nd 4 [a,d]).bind fun x => (S.nd 4 [c,b]).bind fun y => (S.nd 3 [x,y]).bind fun z => (acrossB S a b l m).map fun r => (3,x,y,z) :: r
 | _,_ => some []
def alikeB (S : Sx) : List Nat→List Nat→List Nat→List Nat→Option (List Ask)
 | pl,pm,a :: l,b :: m => (acrossB S a b pl pm).bind fun r => (alikeB S (pl ++ [a]) (pm ++ [b]) l m).map fun t => r ++ t
 | _,_,_,_ => some []
def sameA (S : Sx) : List Nat→List Nat→Option (List Ask)
 | a :: l,b :: m => (S.nd 3 [a,b]).bind fun d => (sameA S l m).map fun r => (3,a,b,d) :: r
 | _,_ => some []
def asks (S : Sx) (h : List HB) (code : Nat) (args : List AV) : Option (List Ask) :=
 match code with
 | 60 => arg1 (fun x => (asA x).bind fun cs => (qRow S cs).map fun l => l.map askZ) args
 | 61 => arg1 (fun x => (rowB h 1 x).bind fun p => (mapO (acX 0) p.2).map fun l => l.map askZ) args
 | 62 => arg2 (fun x y => (rowB h 1 x).bind fun p => (mapO (acX 0) p.2).bind fun l => (rowB h 1 y).bind fun p' => (mapO (acX 0) p'.2).bind fun m => alikeB S [] [] l m) args
 | 63 => arg1 (fun x => (asA x).bind fun cs => (mapO acTold cs).bind fun l => (plainOf S l).map fun xs => xs.map askZ) args
 | 69 => arg1 (fun x => (asA x).bind fun cs => (mapO (txNode S) cs).map fun l => l.map askZ) args
 | 67 => arg1 (fun x => (asA x).bind fun cs => (mapO (txNode S) (cs.take 3)).map fun l => l.map askZ) args
 | 65 => arg1 (fun x => (asA x).bind fun cs => (mapO (acX 0) cs).map fun l => l.map askZ) args
 | 66 => arg2 (fun x y => (asA x).bind fun cs => (asA y).bind fun ds => (mapO (acX 0) cs).bind fun l => (mapO (acX 0) ds).bind fun m => sameA S l m) args
 | 64 => arg1 (fun x => (asA x).bind fun cs => (qRow S cs).map fun l => (l.take 5).map askZ) args
 | 68 => arg2 (fun x _ => (asA x).bind fun cs => (qRow S cs).map fun l => (l.take 5).map askZ) args
 | _ => none
def splits : List Ask→Hs→List Hs
 | [],_ => []
 | (k,a,b,_) :: l,X => ((k,a,b,0) :: X) :: splits l ((k,a,b,1) :: X)
def allZ : List Ask→Hs→Hs
 | [],X => X
 | (k,a,b,_) :: l,X => allZ l ((k,a,b,1) :: X)
def bodyC (S : Sx) (call : CallF) : CallF := fun f args h nx => S.P.funcs[f]?.bind fun fn => fn.body.bind fun c => ifO (Nat.ble args.length fn.ntmps) ((runB S call fn.ntmps c { tm := numb1 0 args,h := h,nx := nx }).bind fun r =>
   ifO (Nat.ble r.1 1) ((mapO (resB S.P r.2) fn.results.toList).map fun xs => (tupB xs,r.2.h,r.2.nx)))
abbrev CRes := Option (AV × List HB × Nat)
def acZ : AC→Option Nat
 | .inr (k,j,a,x,y) => ifO (Nat.beq k 0 && (Nat.beq j 7 && (Nat.beq x 0 && Nat.beq y 0))) (some a)
 | _ => none
def weakV (S : Sx) (v : AV) : AV := match (asC v).bind (acX 4) with
 | some n => (match S.N[n]? with
  | some (_,[a,b]) => (match S.nd 4 [a,b],S.kn 0 a 0 with
   | some m,some r => bif Nat.beq m n && !Nat.beq 1 r then v1 (.inr (0,7,b,0,0)) else v
   | _,_ => v)
  | _ => v)
 | none => v
def weakR (S : Sx) (r : CRes) : CRes := r.map fun p => (weakV S p.1,p.2)
def ansK (v : AV) : Option (Bool ⊕ Nat) := match asB v with
 | some b => some (.inl b)
 | none => ((asC v).bind acZ).map .inr
def kAns : Bool ⊕ Nat→AV
 | .inl b => kB b
 | .inr a => v1 (.inr (0,7,a,0,0))
def sameK : Bool ⊕ Nat→Bool ⊕ Nat→Bool
 | .inl b,.inl c => b == c
 | .inr a,.inr b => Nat.beq a b
 | _,_ => false
def agree (h : List HB) (b : Bool ⊕ Nat) (hi : Nat) : CRes→Bool
 | some (v,h',nx') => (match ansK v with
  | some c => sameK b c
  | none => false) && (Nat.ble nx' hi && h.all fun x => h'.any fun y => Nat.beq y.1 x.1 && acsW x.2 y.2)
 | none => false
def topN : Nat→List CRes→Nat
 | m,[] => m
 | m,some p :: rs => topN (bif Nat.ble m p.2.2 then p.2.2 else m) rs
 | m,none :: rs => topN m rs
def joinC (h : List HB) (nx : Nat) (rs : List CRes) : CRes :=
 match rs with
 | some p :: _ => (ansK p.1).bind fun b => ifO (rs.all (agree h b (topN nx rs))) (some (kAns b,h,topN nx rs))
 | _ => none
def askIt (S : Sx) (X : Hs) (h : List HB) (c : Nat) (args : List AV) : Option (List Ask × Nat) :=
 (asks (S.plus X) h c args).bind fun l => ifO (l.all (askOk S)) ((sqN S (l.map (·.2.2.2))).bind fun s => ((S.plus X).kn 0 s 0).map fun r => (l,r))
theorem askIt_some {S : Sx} {X : Hs} {h : List HB} {c : Nat} {args : List AV} {l : List Ask} {r : Nat} (e : askIt S X h c args=some (l,r)) : (∀ a ∈ l,askOk S a=true)∧∃ s,sqN S (l.map (·.2.2.2))=some s∧(S.plus X).kn 0 s 0=some r := by
 unfold askIt at e
 simp only [Option.bind_eq_some_iff,ifO_some,Option.map_eq_some_iff,List.all_eq_true,Prod.mk.injEq] at e
 obtain ⟨l',_,h1,s,h2,r',h3,rfl,rfl⟩ := e
 exact ⟨h1,s,h2,h3⟩
def callC (S : Sx) (cs : List (FuncId × Nat)) : Nat→Hs→CallF
 | 0,_,_,_,_,_ => none
 | n+1,X,f,args,h,nx => match prGet f cs with
  | none => bodyC (S.plus X) (callC S cs n X) f args h nx
  | some c => match askIt S X h c args with
   | none => bodyC (S.plus X) (callC S cs n X) f args h nx
   | some (l,r) => bif Nat.beq 1 r then bodyC (S.plus (allZ l X)) (callC S cs n (allZ l X)) f args h nx
    else joinC h nx ((splits l X).map fun X' => weakR (S.plus X') (bodyC (S.plus X') (callC S cs n X') f args h nx))
section
variable {S : Sx} {E : Ev S.nb} {w0 : World}
theorem bodyC_ok {call : CallF} (hm : S.P.follows .mixedOrders=true) (N : Knows S E) (hP : PrimOk S E w0) (hC : CallOk S E w0 call) : CallOk S E w0 (bodyC S call) := fun f args h nx p hp γ w vs hi hA hb hlt hf => by
 unfold bodyC at hp
 simp only [Option.bind_eq_some_iff,ifO_some,Option.map_eq_some_iff,Nat.ble_eq] at hp
 obtain ⟨fn,h1,c,h2,h3,⟨e,s'⟩,h4,h5,xs,h6,rfl⟩ := hp
 dsimp only at h5 h6
 rcases (show e=0 ∨ e=1 by omega) with rfl | rfl
 all_goals
  obtain ⟨_,_,r⟩ := runB_ok hm N hP hC c _ _ _ h4
  refine calls_of_wp h1 h2 (r γ _ w _ ⟨hi,fun t v q => ?_,hb,hlt,?_,rfl⟩ hf fun a' w' γ' hef hs => ?_)
  ·obtain ⟨_,q2⟩ := numb1_get q
   rw [Nat.sub_zero] at q2
   obtain ⟨u,hu,hv⟩ := hA.get q2
   have hlt : t < vs.length := (List.getElem?_eq_some_iff.1 hu).1
   have : (vs.toArray ++ Array.replicate (fn.ntmps - vs.toArray.size) undef).getD t undef=u := by
    rw [Array.getD_eq_getD_getElem?,Array.getElem?_append_left (by simpa using hlt)]
    simp [hu]
   show avOn _ v ((vs.toArray ++ Array.replicate (fn.ntmps - vs.toArray.size) undef).getD t undef)
   rw [this]
   exact hv
  ·have := hA.len
   simp
   omega
  ·obtain ⟨v,hv,hx⟩ := results_run hs h6
   exact ⟨hs.df,v,hv,v,γ',rfl,hef,hx,hs.bx⟩
theorem asB_kB {v : AV} {b : Bool} (h : asB v=some b) : v=kB b := by
 unfold asB at h
 rw [Option.bind_eq_some_iff] at h
 obtain ⟨c,h1,h2⟩ := h
 unfold asC at h1
 split at h1
 ·cases h1
  unfold acB at h2
  split at h2
  ·cases h2
   rfl
  ·cases h2
 ·cases h1
theorem ansK_eq {v : AV} {k : Bool ⊕ Nat} (h : ansK v=some k) : v=kAns k := by
 unfold ansK at h
 split at h
 ·rename_i b hb
  cases h
  exact asB_kB hb
 ·rw [Option.map_eq_some_iff] at h
  obtain ⟨a,h,rfl⟩ := h
  rw [Option.bind_eq_some_iff] at h
  obtain ⟨c,h1,h2⟩ := h
  unfold asC at h1
  split at h1
  ·cases h1
   unfold acZ at h2
   split at h2
   ·rw [ifO_some,Bool.and_eq_true,Bool.and_eq_true,Bool.and_eq_true,Nat.beq_eq,Nat.beq_eq,Nat.beq_eq,Nat.beq_eq] at h2
    obtain ⟨⟨rfl,rfl,rfl,rfl⟩,h3⟩ := h2
    cases h3
    rfl
   ·cases h2
  ·cases h1
theorem sameK_eq {a b : Bool ⊕ Nat} (h : sameK a b=true) : a=b := by
 unfold sameK at h
 split at h
 ·rename_i x y
  have : x=y := by simpa using h
  rw [this]
 ·rw [Nat.beq_eq] at h
  rw [h]
 ·cases h
theorem sgnZ_zero (q : Rat) : sgnZ q=0 ↔ q=0 := by
 unfold sgnZ
 split
 ·rename_i hlt
  constructor
  ·intro q; cases q
  ·intro q; rw [q] at hlt; exact absurd hlt (by decide)
 ·split <;> simp_all
theorem weakV_on (N : Knows S E) {γ : Nat→Option Nat} {w : World} {v : AV} {r : Value} (h : avOn (cOn E S.K γ w) v r) : avOn (cOn E S.K γ w) (weakV S v) r := by
 unfold weakV
 split
 ·rename_i n hn
  rw [Option.bind_eq_some_iff] at hn
  obtain ⟨c,h1,h2⟩ := hn
  split
  ·split
   ·rename_i a b _ _ _ m r' hm hr
    cases e : (Nat.beq m n && !Nat.beq 1 r') with
    | true =>
     rw [Bool.and_eq_true,Nat.beq_eq,Bool.not_eq_true'] at e
     obtain ⟨rfl,e2⟩ := e
     have ez := (N.x4 _ _ _).1 (acX_on h2 (asC_on h1 h))
     refine v1_on ((N.x7 _ _ _).2 ⟨_,ez,?_⟩)
     have hz : ¬ E.q a=0 := fun q => by rw [(N.k0 a r' hr).2 q] at e2; cases e2
     rw [sgnZ_zero,N.k7 _ _ _ hm]
     constructor
     ·exact fun q => (Rat.mul_eq_zero.1 q).resolve_left hz
     ·intro q
      rw [q,Rat.mul_zero]
    | false => exact h
   ·exact h
  ·exact h
 ·exact h
theorem weak_ok {X : Hs} {call : CallF} (N : Knows (S.plus X) E) (hC : CallOk S E w0 call) : CallOk S E w0 (fun f args h nx => weakR (S.plus X) (call f args h nx)) := fun f args h nx p hp => by
 replace hp : weakR (S.plus X) (call f args h nx)=some p := hp
 unfold weakR at hp
 rw [Option.map_eq_some_iff] at hp
 obtain ⟨p0,hp0,rfl⟩ := hp
 intro γ w vs hi hA hb hlt hf
 refine (hC f args h nx p0 hp0 γ w vs hi hA hb hlt hf).mono ?_
 rintro _ w' ⟨r',γ',rfl,hef,hv,hx⟩
 exact ⟨r',γ',rfl,hef,weakV_on (S := S.plus X) N hv,hx⟩
theorem agree_some {h : List HB} {b : Bool ⊕ Nat} {hi : Nat} {r : CRes} (hr : agree h b hi r=true) : ∃ h' nx',r=some (kAns b,h',nx')∧nx'≤hi∧∀ x ∈ h,x ∈ h' := by
 unfold agree at hr
 split at hr
 ·rename_i v h' nx'
  rw [Bool.and_eq_true,Bool.and_eq_true,Nat.ble_eq,List.all_eq_true] at hr
  obtain ⟨h1,h2,h3⟩ := hr
  refine ⟨h',nx',?_,h2,fun x hx => ?_⟩
  ·split at h1
   ·rename_i c hc
    rw [ansK_eq hc,sameK_eq h1]
   ·cases h1
  ·have := h3 x hx
   rw [List.any_eq_true] at this
   obtain ⟨y,hy,e⟩ := this
   rw [Bool.and_eq_true,Nat.beq_eq] at e
   have : x=y := Prod.ext e.1.symm (acsW_eq e.2)
   rw [this]
   exact hy
 ·cases hr
variable {T : Hs→Prop} {z : Nat→Prop}
def AskTrue (S : Sx) (T : Hs→Prop) (z : Nat→Prop) : Prop := ∀ X,T X→∀ a,askOk S a=true→(z a.2.2.2→T ((a.1,a.2.1,a.2.2.1,1) :: X))∧(¬ z a.2.2.2→T ((a.1,a.2.1,a.2.2.1,0) :: X))
theorem allZ_true (hk : AskTrue S T z) : ∀ {l : List Ask} {X : Hs},T X→(∀ a ∈ l,askOk S a=true)→(∀ a ∈ l,z a.2.2.2)→T (allZ l X)
 | [],_,h,_,_ => h
 | (k,a,b,d) :: l,X,h,ho,hz => allZ_true (l := l) hk ((hk X h (k,a,b,d) (ho _ List.mem_cons_self)).1 (hz _ List.mem_cons_self)) (fun a ha => ho a (List.mem_cons_of_mem _ ha)) (fun a ha => hz a (List.mem_cons_of_mem _ ha))
theorem splits_true (hk : AskTrue S T z) : ∀ {l : List Ask} {X : Hs},T X→(∀ a ∈ l,askOk S a=true)→(∃ a ∈ l,¬ z a.2.2.2)→∃ X' ∈ splits l X,T X'
 | [],_,_,_,⟨_,h,_⟩ => by cases h
 | (k,a,b,d) :: l,X,h,ho,hz => by
  by_cases e : z d
  ·obtain ⟨X',h1,h2⟩ := splits_true (l := l) hk ((hk X h (k,a,b,d) (ho _ List.mem_cons_self)).1 e) (fun a ha => ho a (List.mem_cons_of_mem _ ha)) (by
    obtain ⟨c,hc,hn⟩ := hz
    rcases List.mem_cons.1 hc with rfl | hc
    ·exact (hn e).elim
    ·exact ⟨c,hc,hn⟩)
   exact ⟨X',List.mem_cons_of_mem _ h1,h2⟩
  ·exact ⟨_,List.mem_cons_self,(hk X h (k,a,b,d) (ho _ List.mem_cons_self)).2 e⟩
theorem callC_ok {cs : List (FuncId × Nat)} (hm : S.P.follows .mixedOrders=true) (hN : ∀ X,T X→Knows (S.plus X) E) (hP : ∀ X,T X→PrimOk (S.plus X) E w0) (hk : AskTrue S T z)
  (hs : ∀ X,T X→∀ l s r,sqN S l=some s→(S.plus X).kn 0 s 0=some r→(Nat.beq 1 r=true→∀ d ∈ l,z d)∧(Nat.beq 1 r=false→∃ d ∈ l,¬ z d)) : ∀ n X,T X→CallOk S E w0 (callC S cs n X)
 | 0,_,_ => fun _ _ _ _ _ h => by cases h
 | n+1,X,hX => fun f args h nx p hp => by
  have body : ∀ Y,T Y→CallOk S E w0 (bodyC (S.plus Y) (callC S cs n Y)) := fun Y hY => bodyC_ok (S := S.plus Y) hm (hN Y hY) (hP Y hY) (callC_ok hm hN hP hk hs n Y hY)
  unfold callC at hp
  split at hp
  ·exact body X hX f args h nx p hp
  ·split at hp
   ·exact body X hX f args h nx p hp
   rename_i l r hk'
   obtain ⟨hl,s,h1,h2⟩ := askIt_some hk'
   have h3 := hp
   obtain ⟨a1,a0⟩ := hs X hX _ s r h1 h2
   cases e : Nat.beq 1 r with
   | true =>
    rw [e] at h3
    exact body _ (allZ_true hk hX hl fun a ha => a1 e _ (List.mem_map_of_mem ha)) f args h nx p h3
   | false =>
    rw [e] at h3
    obtain ⟨d,hd,hz⟩ := a0 e
    obtain ⟨a,ha,rfl⟩ := List.mem_map.1 hd
    obtain ⟨X',m1,m2⟩ := splits_true hk hX hl ⟨a,ha,hz⟩
    replace h3 : joinC h nx ((splits l X).map fun X' => weakR (S.plus X') (bodyC (S.plus X') (callC S cs n X') f args h nx))=some p := h3
    unfold joinC at h3
    split at h3
    ·rename_i p0 rs hrs
     rw [Option.bind_eq_some_iff] at h3
     obtain ⟨b,hb,h4⟩ := h3
     rw [ifO_some,List.all_eq_true] at h4
     obtain ⟨h5,h6⟩ := h4
     cases h6
     obtain ⟨h',nx',q1,q2,q3⟩ := agree_some (h5 _ (List.mem_map_of_mem m1))
     intro γ w vs hi hA hb hlt hf
     refine (weak_ok (hN X' m2) (body X' m2) f args h nx _ q1 γ w vs hi hA hb hlt fun b g1 g2 => hf b g1 (Nat.lt_of_lt_of_le g2 q2)).mono ?_
     rintro _ w' ⟨r',γ',rfl,hef,hv,hx⟩
     exact ⟨r',γ',rfl,hef.wide (Nat.le_refl _) q2,hv,fun x hh => hx x (q3 x hh)⟩
    ·cases h3
end
end Cx
/- VPC -/
namespace Go.Proofs.YtikldelfdioimaaGreatDoor
open Cx Go Go.RowKit
section
variable {N : List Nd} {H : List (Nat × Nat × Nat × Nat)} {K : List (FuncId × List AC)} {L C : List (List Nat × Nat)} {Z : List Nat} {q : Nat→Rat} {σ : Nat→ByteArray} {w0 : World} {cl : List FuncId} {cs pr : List (FuncId × Nat)}
theorem kn_cons {k a b k' a' b' r' : Nat} {r : Nat} (h : knFrom k a b ((k',a',b',r') :: H)=some r) : (k=k'∧a=a'∧b=b'∧r=r') ∨ knFrom k a b H=some r := by
 unfold knFrom at h
 cases e : (Nat.beq k k' && (Nat.beq a a' && Nat.beq b b')) with
 | true =>
  rw [e] at h
  simp only [Bool.and_eq_true,Nat.beq_eq] at e
  exact Or.inl ⟨e.1,e.2.1,e.2.2,(Option.some.inj h).symm⟩
 | false =>
  rw [e] at h
  exact Or.inr h
theorem Hy.add0 (Y : Hy N H L C Z q σ) {a r : Nat} (h : Nat.beq 1 r=true ↔ q a=0) : Hy N ((0,a,0,r) :: H) L C Z q σ where
 nat := Y.nat
 qs := Y.qs
 zs := Y.zs
 par := Y.par
 lit := Y.lit
 k0 := fun a' r' g => by
  rcases kn_cons g with ⟨_,e1,_,e2⟩ | g
  ·rw [e1,e2]
   exact h
  ·exact Y.k0 a' r' g
 k1 := fun a' r' g => by
  rcases kn_cons g with ⟨e,_⟩ | g
  ·cases e
  ·exact Y.k1 a' r' g
 k2 := fun a' r' g => by
  rcases kn_cons g with ⟨e,_⟩ | g
  ·cases e
  ·exact Y.k2 a' r' g
 k4 := fun l a' b' r' g1 g => by
  rcases kn_cons g with ⟨e,_⟩ | g
  ·cases e
  ·exact Y.k4 l a' b' r' g1 g
 k3 := fun a' b' r' g => by
  rcases kn_cons g with ⟨e,_⟩ | g
  ·cases e
  ·exact Y.k3 a' b' r' g
 k6 := fun a' b' r' g => by
  rcases kn_cons g with ⟨e,_⟩ | g
  ·cases e
  ·exact Y.k6 a' b' r' g
 k5 := fun a' r' g => by
  rcases kn_cons g with ⟨e,_⟩ | g
  ·cases e
  ·exact Y.k5 a' r' g
theorem Hy.add3 (Y : Hy N H L C Z q σ) {a b r : Nat} (h : Nat.beq 1 r=true ↔ q a=q b) : Hy N ((3,a,b,r) :: H) L C Z q σ where
 nat := Y.nat
 qs := Y.qs
 zs := Y.zs
 par := Y.par
 lit := Y.lit
 k0 := fun a' r' g => by
  rcases kn_cons g with ⟨e,_⟩ | g
  ·cases e
  ·exact Y.k0 a' r' g
 k1 := fun a' r' g => by
  rcases kn_cons g with ⟨e,_⟩ | g
  ·cases e
  ·exact Y.k1 a' r' g
 k2 := fun a' r' g => by
  rcases kn_cons g with ⟨e,_⟩ | g
  ·cases e
  ·exact Y.k2 a' r' g
 k4 := fun l a' b' r' g1 g => by
  rcases kn_cons g with ⟨e,_⟩ | g
  ·cases e
  ·exact Y.k4 l a' b' r' g1 g
 k3 := fun a' b' r' g => by
  rcases kn_cons g with ⟨_,e1,e2,e3⟩ | g
  ·rw [e1,e2,e3]
   exact h
  ·exact Y.k3 a' b' r' g
 k6 := fun a' b' r' g => by
  rcases kn_cons g with ⟨e,_⟩ | g
  ·cases e
  ·exact Y.k6 a' b' r' g
 k5 := fun a' r' g => by
  rcases kn_cons g with ⟨e,_⟩ | g
  ·cases e
  ·exact Y.k5 a' r' g
theorem ask_true : AskTrue (sx Tryz.prog N H K L C Z pr) (fun X => Hy N (X ++ H) L C Z q σ) (fun d => q d=0) := fun X Y a ha => by
 obtain ⟨k,a,b,d⟩ := a
 have t1 : Nat.beq 1 1=true := rfl
 have t0 : Nat.beq 1 0 ≠ true := fun h => by cases h
 unfold askOk at ha
 rw [Bool.or_eq_true] at ha
 rcases ha with ha | ha
 ·simp only [Bool.and_eq_true,Nat.beq_eq] at ha
  obtain ⟨rfl,rfl,rfl⟩ := ha
  exact ⟨fun h => Hy.add0 Y ⟨fun _ => h,fun _ => t1⟩,fun h => Hy.add0 Y ⟨fun g => (t0 g).elim,fun g => (h g).elim⟩⟩
 ·rw [Bool.and_eq_true,Nat.beq_eq] at ha
  obtain ⟨rfl,hb⟩ := ha
  split at hb
  ·rename_i op ar hn
   rw [Bool.and_eq_true,Nat.beq_eq] at hb
   obtain ⟨rfl,hb⟩ := hb
   have e := beqL_eq hb
   subst e
   have hv : q d=q a - q b := Y.nat d _ hn
   have h2 : q d=0 ↔ q a=q b := by
    rw [hv]
    constructor <;> intro h <;> grind
   exact ⟨fun h => Hy.add3 Y ⟨fun _ => h2.1 h,fun _ => t1⟩,fun h => Hy.add3 Y ⟨fun g => (t0 g).elim,fun g => (h (h2.2 g)).elim⟩⟩
  ·cases hb
theorem sq_nn (y : Rat) : 0≤y*y := by
 by_cases h : y=0
 ·rw [h,Rat.zero_mul]
  exact Rat.le_refl
 ·exact Rat.le_of_lt (sq1_pos h)
theorem sq_sum {x y : Rat} (hx : 0≤x) : x+y*y=0 ↔ x=0∧y=0 := by
 constructor
 ·intro h
  have h2 := sq_nn y
  have h3 : x=0 := by grind
  refine ⟨h3,?_⟩
  have : y*y=0 := by grind
  rcases Rat.mul_eq_zero.1 this with g | g <;> exact g
 ·rintro ⟨rfl,rfl⟩
  grind
theorem sqF_val {H' : List (Nat × Nat × Nat × Nat)} (Y : Hy N H' L C Z q σ) : ∀ {l : List Nat} {s t : Nat},sqF (sx Tryz.prog N H K L C Z pr) s l=some t→0≤q s→0≤q t∧(q t=0 ↔ q s=0∧∀ d ∈ l,q d=0)
 | [],s,t,h,hs => by
  cases h
  exact ⟨hs,fun e => ⟨e,fun d hd => by cases hd⟩,fun e => e.1⟩
 | a :: l,s,t,h,hs => by
  unfold sqF at h
  simp only [Option.bind_eq_some_iff] at h
  obtain ⟨b,h1,c,h2,h3⟩ := h
  have e1 : q b=q a*q a := Hy.nd (H := H') (K := K) (pr := pr) Y h1
  have e2 : q c=q s+q b := Hy.nd (H := H') (K := K) (pr := pr) Y h2
  have n := sq_nn (q a)
  obtain ⟨g1,g2⟩ := sqF_val Y h3 (by grind)
  refine ⟨g1,g2.trans ?_⟩
  have e3 := sq_sum (y := q a) hs
  rw [e2,e1,e3]
  constructor
  ·rintro ⟨⟨x,y⟩,z⟩
   refine ⟨x,fun d hd => ?_⟩
   rcases List.mem_cons.1 hd with rfl | hd
   ·exact y
   ·exact z d hd
  ·rintro ⟨x,y⟩
   exact ⟨⟨x,y a List.mem_cons_self⟩,fun d hd => y d (List.mem_cons_of_mem _ hd)⟩
theorem sqN_val {H' : List (Nat × Nat × Nat × Nat)} (Y : Hy N H' L C Z q σ) {l : List Nat} {s : Nat} (h : sqN (sx Tryz.prog N H K L C Z pr) l=some s) : q s=0 ↔ ∀ d ∈ l,q d=0 := by
 unfold sqN at h
 split at h
 ·cases h
 ·rename_i a l
  rw [Option.bind_eq_some_iff] at h
  obtain ⟨b,h1,h2⟩ := h
  have e1 : q b=q a*q a := Hy.nd (H := H') (K := K) (pr := pr) Y h1
  have n := sq_nn (q a)
  obtain ⟨_,g⟩ := sqF_val Y h2 (by grind)
  rw [g,e1]
  constructor
  ·rintro ⟨x,y⟩ d hd
   rcases List.mem_cons.1 hd with rfl | hd
   ·rcases Rat.mul_eq_zero.1 x with x | x <;> exact x
   ·exact y d hd
  ·intro y
   refine ⟨?_,fun d hd => y d (List.mem_cons_of_mem _ hd)⟩
   rw [y a List.mem_cons_self,Rat.zero_mul]
theorem run_cases {f : FuncId} {args : List AV} {vs : List Value} {k : Nat} {p : List HB × Nat} {b : Bool} (Y : Hy N H L C Z q σ) (hm : (Tryz.prog).follows .mixedOrders=true) {w : World} (hP : ∀ H',Hy N H' L C Z q σ→PrimOk (sx Tryz.prog N H' K L C Z pr) (evS q σ) w) (hr : callC (sx Tryz.prog N H K L C Z pr) cs k [] f args [] 0=some (kB b,p))
  (hA : A2 (avOn (cOn (evS q σ) K (fun _ => none) w)) args vs) : Calls Tryz.prog f vs.toArray w fun e w' => Below w.heap.size w w'∧e=.returned (.bool b) := by
 refine (callC_ok (S := sx Tryz.prog N H K L C Z pr) (E := evS q σ) (w0 := w) (T := fun X => Hy N (X ++ H) L C Z q σ) (z := fun d => q d=0) hm (fun X hX => knows hX) (fun X hX => hP _ hX) ask_true ?_ k [] Y f args [] 0 (kB b,p) hr (fun _ => none) w vs ⟨Below.refl _ _,(fun _ _ h => by cases h)⟩ hA (fun x hx => by cases hx) (fun x hx => by cases hx) (fun _ _ _ => rfl)).mono ?_
 ·intro X hX l s r h1 h2
  have e := hX.k0 s r h2
  have g := sqN_val hX h1
  refine ⟨fun h => g.1 (e.1 h),fun h => ?_⟩
  have hn : ¬ ∀ d ∈ l,q d=0 := fun q' => by
   rw [e.2 (g.2 q')] at h
   cases h
  simpa using hn
 ·rintro _ w' ⟨r,γ',rfl,hef,hv,_⟩
  exact ⟨hef.wi.bel,by rw [show r=.bool b from (asC_on (v := kB b) (c := .inl (.bool b)) rfl hv).1]⟩
theorem run_toldC {f : FuncId} {args : List AV} {vs : List Value} {k : Nat} {p : List HB × Nat} {b : Bool} (Y : Hy N H L C Z q σ) (hc : ∀ f ∈ cl,Closed f) (hm : (Tryz.prog).follows .mixedOrders=true) (hr : callC (sx Tryz.prog N H K L C Z (prC cl)) cs k [] f args [] 0=some (kB b,p)) {w : World} (hp : PreS w)
  (hA : A2 (avOn (cOn (evS q σ) K (fun _ => none) w)) args vs) : Calls Tryz.prog f vs.toArray w fun e w' => Below w.heap.size w w'∧e=.returned (.bool b) := run_cases Y hm (fun _ Y' => primOk Y' hp hc) hr hA
theorem run_toldC' {f : FuncId} {args : List AV} {vs : List Value} (k : Nat) (Y : Hy N H L C Z q σ) (hc : ∀ f ∈ cl,Closed f) (hm : (Tryz.prog).follows .mixedOrders=true) (hr : (callC (sx Tryz.prog N H K L C Z (prC cl)) cs k [] f args [] 0).map (·.1)=some (kB true)) {w : World} (hp : PreS w)
  (hA : A2 (avOn (cOn (evS q σ) K (fun _ => none) w)) args vs) : Calls Tryz.prog f vs.toArray w fun e w' => Below w.heap.size w w'∧e=.returned (.bool true) := by
 rw [Option.map_eq_some_iff] at hr
 obtain ⟨⟨v,p⟩,h1,h2⟩ := hr
 dsimp only at h2
 subst h2
 exact run_toldC Y hc hm h1 hp hA
end
end Go.Proofs.YtikldelfdioimaaGreatDoor
/- VY -/
namespace Go.Proofs.YtikldelfdioimaaGreatDoor
open Go.RowKit Cx
theorem den_num (t : Rat) : t*(t.den : Rat)=((t.num : Int) : Rat) := by
 conv => lhs; lhs; rw [← Rat.mkRat_self t]
 have h0 : (t.den : Rat) ≠ 0 := fun h => t.den_nz (by exact_mod_cast h)
 rw [Rat.mkRat_eq_div,Rat.div_mul_cancel h0]
theorem whole {q : Rat} (h : q.den=1) : q=((q.num : Int) : Rat) := by
 have := den_num q
 rw [h] at this
 rw [← this]
 show q=q*((1 : Nat) : Rat)
 exact (Rat.mul_one q).symm
end Go.Proofs.YtikldelfdioimaaGreatDoor
/- VSZ -/
namespace Go.Proofs.YtikldelfdioimaaGreatDoor
open Go.RowKit Cx
structure QW (z : Nat) (x : Rat) : Prop where
 qs : QS z x
 wh : x.den=1
theorem QW.of {z : Nat} {n : Int} (h : n.natAbs < 2 ^ z) (hz : 0 < z) : QW z ((n : Int) : Rat) :=
 ⟨⟨by simpa using h,by
  show ((n : Int) : Rat).den < 2 ^ z
  rw [Rat.den_intCast]
  exact Nat.one_lt_two_pow (by omega)⟩,Rat.den_intCast n⟩
theorem QW.mono {k l : Nat} {x : Rat} (h : QW k x) (hk : k≤l) : QW l x := ⟨h.qs.mono hk,h.wh⟩
theorem two_max {a b x y : Nat} (h1 : a < 2 ^ x) (h2 : b < 2 ^ y) : a+b < 2 ^ (Nat.max x y+1) := by
 have e1 : 2 ^ x≤2 ^ Nat.max x y := Nat.pow_le_pow_right (by decide) (Nat.le_max_left x y)
 have e2 : 2 ^ y≤2 ^ Nat.max x y := Nat.pow_le_pow_right (by decide) (Nat.le_max_right x y)
 rw [Nat.pow_succ]
 omega
theorem QW.add {x y : Nat} {a b : Rat} (h1 : QW x a) (h2 : QW y b) : QW (Nat.max x y+1) (a+b) := by
 rw [whole h1.wh,whole h2.wh,← Rat.intCast_add]
 refine QW.of ?_ (by omega)
 have := two_max h1.qs.num h2.qs.num
 omega
theorem QW.sub {x y : Nat} {a b : Rat} (h1 : QW x a) (h2 : QW y b) : QW (Nat.max x y+1) (a - b) := by
 rw [whole h1.wh,whole h2.wh,← Rat.intCast_sub]
 refine QW.of ?_ (by omega)
 have := two_max h1.qs.num h2.qs.num
 omega
theorem QW.mul {x y : Nat} {a b : Rat} (h1 : QW x a) (h2 : QW y b) : QW (x+y) (a*b) := by
 refine ⟨h1.qs.mul h2.qs,?_⟩
 rw [whole h1.wh,whole h2.wh,← Rat.intCast_mul]
 exact Rat.den_intCast _
theorem QW.neg {x : Nat} {a : Rat} (h1 : QW x a) : QW x (-a) := ⟨h1.qs.neg,h1.wh⟩
theorem ten_three : ∀ n : Nat,10 ^ n≤2 ^ ((10*n+2) / 3)
 | 0 => by decide
 | 1 => by decide
 | 2 => by decide
 | n+3 => by
  have h := ten_three n
  have e : (10*(n+3)+2) / 3=(10*n+2) / 3+10 := by omega
  rw [e,Nat.pow_add,Nat.pow_add]
  exact Nat.mul_le_mul h (by decide)
theorem QS.rd3 (l : List UInt8) : QS ((10*l.length+2) / 3+5) (Cx.rd l) := by
 have key : ∀ {m : List UInt8},digs m=true→dv m < 2 ^ ((10*m.length+2) / 3) := fun {m} h => Nat.lt_of_lt_of_le (dv_lt (digs_all h)) (ten_three _)
 unfold Cx.rd
 split
 ·rename_i h
  rw [Bool.and_eq_true] at h
  have h1 := key h.1
  have h2 := key h.2
  have h3 := up_len (tailOf l)
  have h4 := low_len (tailOf l)
  have h5 := tail_len l
  apply QS.mkr
  ·rw [sg_abs]; exact Nat.lt_of_lt_of_le h1 (Nat.pow_le_pow_right (by decide) (by omega))
  ·exact Nat.lt_of_lt_of_le h2 (Nat.pow_le_pow_right (by decide) (by omega))
 ·exact QS.zero.mono (by omega)
section
variable {N : List Nd} {Z : List Nat} {I : List Bool} {q : Nat→Rat}
end
end Go.Proofs.YtikldelfdioimaaGreatDoor
/- VSA -/
namespace Go.Proofs.YtikldelfdioimaaGreatDoor
open Go.RowKit Cx
def inB : Nat := 3495259
abbrev Atm := Nat × Nat
def remA (x : Atm) : List Atm→Option (List Atm)
 | [] => none
 | y :: l => bif Nat.beq x.1 y.1 && Nat.beq x.2 y.2 then some l else (remA x l).map (y :: ·)
def subA : List Atm→List Atm→Option (List Atm)
 | l,[] => some l
 | l,x :: r => (remA x l).bind fun l' => subA l' r
def leftA : List Atm→List Atm→List Atm
 | _,[] => []
 | U,x :: D => match remA x U with
  | some U' => leftA U' D
  | none => x :: leftA U D
def uniA (E : List (Nat × List Atm)) : List Nat→List Atm→List Atm
 | [],U => U
 | a :: l,U => uniA E l (match E[a]? with
  | some p => U ++ leftA U p.2
  | none => U)
def bitA (E : List (Nat × List Atm)) (x : Atm) : Nat := match x.1 with
 | 0 => inB
 | 1 => (match E[x.2]? with
  | some p => p.1
  | none => 1)
 | _ => Nat.log2 x.2+1
def bitL (E : List (Nat × List Atm)) : List Atm→Nat
 | [] => 1
 | x :: l => bitA E x+bitL E l
def noneA (l : Option (List Atm)) : Bool := match l with
 | some [] => true
 | _ => false
def saN (E : List (Nat × List Atm)) (k z : Nat) (D : List Atm) (nd : Nd) : Bool := (Nat.blt 0 z && D.all fun x => !Nat.beq x.1 1 || Nat.blt x.2 k) && match nd.1,nd.2 with
 | 0,[_,n,d] => (Nat.blt n (2 ^ z) && Nat.blt 0 d) && noneA (subA D (bif Nat.beq d 1 then [] else [(2,d)]))
 | 1,[j] => Nat.ble inB z && noneA (subA D [(0,j)])
 | 2,[a,b] => (match E[a]?,E[b]? with
  | some p,some r => (match subA D p.2,subA D r.2 with
   | some c,some e => Nat.ble (Nat.max (p.1+bitL E c) (r.1+bitL E e)+1) z
   | _,_ => false)
  | _,_ => false)
 | 3,[a,b] => (match E[a]?,E[b]? with
  | some p,some r => (match subA D p.2,subA D r.2 with
   | some c,some e => Nat.ble (Nat.max (p.1+bitL E c) (r.1+bitL E e)+1) z
   | _,_ => false)
  | _,_ => false)
 | 4,[a,b] => (match E[a]?,E[b]? with
  | some p,some r => (match subA D p.2 with
   | some c => noneA (subA c r.2) && Nat.ble (p.1+r.1) z
   | _ => false)
  | _,_ => false)
 | 5,[a] => (match E[a]? with
  | some p => noneA (subA D p.2) && Nat.ble p.1 z
  | _ => false)
 | 6,[a,b] => (match E[a]?,E[b]?,remA (1,b) D with
  | some p,some r,some D' => (match subA p.2 D' with
   | some c => (match subA r.2 c with
    | some e => Nat.ble (p.1+bitL E e) z
    | none => false)
   | none => false)
  | _,_,_ => false)
 | 7,_ => Nat.beq D.length 0
 | 8,i :: xs => Nat.beq D.length 0 && (xs.all (fun a => match E[a]? with
   | some p => (subA (uniA E xs []) p.2).isSome
   | none => false) && (match xs[i]? with
   | some a => (match E[a]? with
    | some p => (match subA (uniA E xs []) p.2 with
     | some e => Nat.ble (p.1+bitL E e) z
     | none => false)
    | none => false)
   | none => false))
 | _,_ => false
def saB (E : List (Nat × List Atm)) : Nat→List Nd→List (Nat × List Atm)→List Nat→Bool
 | _,[],[],[] => true
 | k,nd :: ns,p :: ps,z :: zs => (saN E k p.1 p.2 nd && (Nat.ble p.1 z && (Nat.ble (bitL E p.2) z && Nat.ble z 1000000000000))) && saB E (k+1) ns ps zs
 | _,_,_,_ => false
theorem saB_get {E : List (Nat × List Atm)} : ∀ {ns : List Nd} {ps : List (Nat × List Atm)} {zs : List Nat} {k i : Nat} {nd : Nd},saB E k ns ps zs=true→ns[i]? = some nd→∃ p z,ps[i]? = some p∧zs[i]? = some z∧saN E (k+i) p.1 p.2 nd=true∧p.1≤z∧bitL E p.2≤z∧z≤1000000000000
 | [],_,_,_,_,_,_,h => by simp at h
 | _ :: _,[],_,_,_,_,h,_ => by cases h
 | _ :: _,_ :: _,[],_,_,_,h,_ => by cases h
 | nd' :: ns,p :: ps,z :: zs,k,0,nd,h,e => by
  have : nd'=nd := by simpa using e
  subst this
  unfold saB at h
  simp only [Bool.and_eq_true,Nat.ble_eq] at h
  exact ⟨p,z,rfl,rfl,h.1.1,h.1.2.1,h.1.2.2.1,h.1.2.2.2⟩
 | nd' :: ns,p :: ps,z :: zs,k,i+1,nd,h,e => by
  unfold saB at h
  rw [Bool.and_eq_true] at h
  obtain ⟨p',z',g1,g2,g3,g4⟩ := saB_get (k := k+1) (i := i) h.2 (by simpa using e)
  exact ⟨p',z',by simpa using g1,by simpa using g2,by rw [show k+(i+1)=k+1+i by omega]; exact g3,g4⟩
theorem saB_len {E : List (Nat × List Atm)} : ∀ {ns : List Nd} {ps : List (Nat × List Atm)} {zs : List Nat} {k : Nat},saB E k ns ps zs=true→ns.length=ps.length∧ns.length=zs.length
 | [],[],[],_,_ => ⟨rfl,rfl⟩
 | [],[],_ :: _,_,h => by cases h
 | [],_ :: _,_,_,h => by cases h
 | _ :: _,[],_,_,h => by cases h
 | _ :: _,_ :: _,[],_,h => by cases h
 | _ :: _,_ :: _,_ :: _,k,h => by
  unfold saB at h
  rw [Bool.and_eq_true] at h
  have := saB_len h.2
  exact ⟨congrArg (· + 1) this.1,congrArg (· + 1) this.2⟩
def valA (dn : Nat→Nat) (M : Nat→Rat) (x : Atm) : Rat := match x.1 with
 | 0 => ((dn x.2 : Nat) : Rat)
 | 1 => if M x.2=0 then 1 else M x.2
 | _ => if x.2=0 then 1 else ((x.2 : Nat) : Rat)
def proA (dn : Nat→Nat) (M : Nat→Rat) : List Atm→Rat
 | [] => 1
 | x :: l => valA dn M x*proA dn M l
theorem remA_pro {dn : Nat→Nat} {M : Nat→Rat} {x : Atm} : ∀ {l c : List Atm},remA x l=some c→proA dn M l=valA dn M x*proA dn M c
 | [],_,h => by cases h
 | y :: l,c,h => by
  unfold remA at h
  cases e : (Nat.beq x.1 y.1 && Nat.beq x.2 y.2) with
  | true =>
   rw [e] at h
   cases h
   rw [Bool.and_eq_true,Nat.beq_eq,Nat.beq_eq] at e
   have : x=y := Prod.ext e.1 e.2
   rw [this]
   rfl
  | false =>
   rw [e] at h
   simp only [cond_false,Option.map_eq_some_iff] at h
   obtain ⟨c',h1,rfl⟩ := h
   show valA dn M y*proA dn M l=valA dn M x*(valA dn M y*proA dn M c')
   rw [remA_pro h1]
   grind
theorem subA_pro {dn : Nat→Nat} {M : Nat→Rat} : ∀ {r l c : List Atm},subA l r=some c→proA dn M l=proA dn M r*proA dn M c
 | [],l,c,h => by
  have : l=c := by simpa [subA] using h
  rw [this]
  exact (Rat.one_mul _).symm
 | x :: r,l,c,h => by
  unfold subA at h
  rw [Option.bind_eq_some_iff] at h
  obtain ⟨l',h1,h2⟩ := h
  rw [remA_pro h1,subA_pro h2]
  exact (Rat.mul_assoc _ _ _).symm
theorem noneA_some {l : Option (List Atm)} (h : noneA l=true) : l=some [] := by
 unfold noneA at h
 split at h
 ·rfl
 ·cases h
theorem QW.one {z : Nat} (h : 0 < z) : QW z 1 := ⟨⟨by
  show (1 : Int).natAbs < 2 ^ z
  exact Nat.one_lt_two_pow (by omega),by
  show 1 < 2 ^ z
  exact Nat.one_lt_two_pow (by omega)⟩,rfl⟩
theorem QW.zero {z : Nat} (h : 0 < z) : QW z 0 := ⟨⟨by
  show (0 : Int).natAbs < 2 ^ z
  exact Nat.two_pow_pos z,by
  show 1 < 2 ^ z
  exact Nat.one_lt_two_pow (by omega)⟩,rfl⟩
theorem QW.nat {z n : Nat} (h : n < 2 ^ z) (hz : 0 < z) : QW z ((n : Nat) : Rat) := by
 have : ((n : Nat) : Rat)=(((n : Nat) : Int) : Rat) := (Rat.intCast_natCast n).symm
 rw [this]
 exact QW.of (by simpa using h) hz
section
variable {E : List (Nat × List Atm)} {dn : Nat→Nat} {M : Nat→Rat} {k : Nat}
def BelA (E : List (Nat × List Atm)) (dn : Nat→Nat) (M : Nat→Rat) (q : Nat→Rat) (k : Nat) : Prop := ∀ a,a < k→∃ p,E[a]? = some p∧QW p.1 (M a)∧0 < p.1∧(∀ x ∈ p.2,x.1=1→x.2 < a)∧q a*proA dn M p.2=M a
theorem valA_ok {q : Nat→Rat} (hdn : ∀ j,0 < dn j∧dn j < 2 ^ inB) (hM : BelA E dn M q k) {x : Atm} (hx : x.1=1→x.2 < k) : QW (bitA E x) (valA dn M x)∧valA dn M x ≠ 0 := by
 obtain ⟨i,j⟩ := x
 match i with
 | 0 =>
  show QW inB ((dn j : Nat) : Rat)∧((dn j : Nat) : Rat) ≠ 0
  refine ⟨QW.nat (hdn j).2 (by unfold inB; omega),fun h => ?_⟩
  have := (hdn j).1
  have h2 : dn j=0 := by exact_mod_cast h
  omega
 | 1 =>
  obtain ⟨p,h1,h2,h3,_⟩ := hM j (hx rfl)
  show QW (match E[j]? with
   | some p => p.1
   | none => 1) (if M j=0 then 1 else M j)∧(if M j=0 then 1 else M j) ≠ 0
  rw [h1]
  by_cases h : M j=0
  ·rw [if_pos h]
   exact ⟨QW.one h3,by decide⟩
  ·rw [if_neg h]
   exact ⟨h2,h⟩
 | i+2 =>
  show QW (Nat.log2 j+1) (if j=0 then 1 else ((j : Nat) : Rat))∧(if j=0 then 1 else ((j : Nat) : Rat)) ≠ 0
  by_cases h : j=0
  ·rw [if_pos h]
   exact ⟨QW.one (by omega),by decide⟩
  ·rw [if_neg h]
   refine ⟨QW.nat Nat.lt_log2_self (by omega),fun h2 => h ?_⟩
   exact_mod_cast h2
theorem proA_ok {q : Nat→Rat} (hdn : ∀ j,0 < dn j∧dn j < 2 ^ inB) (hM : BelA E dn M q k) : ∀ {l : List Atm},(∀ x ∈ l,x.1=1→x.2 < k)→QW (bitL E l) (proA dn M l)∧proA dn M l ≠ 0
 | [],_ => ⟨QW.one (show 0 < 1 by decide),by show (1 : Rat) ≠ 0; decide⟩
 | x :: l,h => by
  have h1 := valA_ok hdn hM (h x List.mem_cons_self)
  have h2 := proA_ok hdn hM (l := l) fun y hy => h y (List.mem_cons_of_mem _ hy)
  exact ⟨h1.1.mul h2.1,mul_ne h1.2 h2.2⟩
theorem proA_congr {M' : Nat→Rat} : ∀ {l : List Atm},(∀ x ∈ l,x.1=1→M x.2=M' x.2)→proA dn M l=proA dn M' l
 | [],_ => rfl
 | x :: l,h => by
  show valA dn M x*proA dn M l=valA dn M' x*proA dn M' l
  rw [proA_congr (l := l) fun y hy => h y (List.mem_cons_of_mem _ hy)]
  have e : valA dn M x=valA dn M' x := by
   obtain ⟨i,j⟩ := x
   match i with
   | 0 => rfl
   | 1 =>
    have := h (1,j) List.mem_cons_self rfl
    show (if M j=0 then 1 else M j)=(if M' j=0 then 1 else M' j)
    rw [this]
   | i+2 => rfl
  rw [e]
theorem remA_mem {x y : Atm} : ∀ {l c : List Atm},remA x l=some c→y ∈ c→y ∈ l
 | [],_,h,_ => by cases h
 | z :: l,c,h,hy => by
  unfold remA at h
  cases e : (Nat.beq x.1 z.1 && Nat.beq x.2 z.2) with
  | true => rw [e] at h; cases h; exact List.mem_cons_of_mem _ hy
  | false =>
   rw [e] at h
   simp only [cond_false,Option.map_eq_some_iff] at h
   obtain ⟨c',h1,rfl⟩ := h
   rcases List.mem_cons.1 hy with rfl | hy
   ·exact List.mem_cons_self
   ·exact List.mem_cons_of_mem _ (remA_mem h1 hy)
theorem subA_mem {y : Atm} : ∀ {r l c : List Atm},subA l r=some c→y ∈ c→y ∈ l
 | [],l,c,h,hy => by
  have : l=c := by simpa [subA] using h
  rw [this]; exact hy
 | x :: r,l,c,h,hy => by
  unfold subA at h
  rw [Option.bind_eq_some_iff] at h
  obtain ⟨l',h1,h2⟩ := h
  exact remA_mem h1 (subA_mem h2 hy)
theorem nat_ne {n : Nat} (h : n ≠ 0) : ((n : Nat) : Rat) ≠ 0 := fun e => h (by exact_mod_cast e)
theorem mul_low (x : Rat) : x*((x.den : Nat) : Rat)=((x.num : Int) : Rat) := by
 have e : x=((x.num : Int) : Rat) / ((x.den : Nat) : Rat) := by
  have := Rat.mkRat_self x
  rw [Rat.mkRat_eq_div] at this
  exact this.symm
 conv => lhs; lhs; rw [e]
 exact Rat.div_mul_cancel (nat_ne x.den_nz)
theorem lD_dvd_of {qs : List Rat} {m M : Nat} (hm : m ∣ M) (h : ∀ q ∈ qs,q.den ∣ M) : qs.foldl (fun m q => m*(q.den / Nat.gcd m q.den)) m ∣ M := by
 induction qs generalizing m with
 | nil => exact hm
 | cons q qs ih =>
  rw [List.foldl_cons]
  refine ih ?_ fun p hp => h p (List.mem_cons_of_mem _ hp)
  have e : m*(q.den / Nat.gcd m q.den)=Nat.lcm m q.den := by
   unfold Nat.lcm
   exact (Nat.mul_div_assoc _ (Nat.gcd_dvd_right _ _)).symm
  rw [e]
  exact Nat.lcm_dvd hm (h q List.mem_cons_self)
theorem den_dvd {x : Rat} {m : Int} (h : (x*((m : Int) : Rat)).den=1) : x.den ∣ m.natAbs := by
 have e := whole h
 generalize (x*((m : Int) : Rat)).num=n at e
 have h1 : x*((x.den : Nat) : Rat)=((x.num : Int) : Rat) := mul_low x
 have h2 : ((x.num : Int) : Rat)*((m : Int) : Rat)=((n : Int) : Rat)*(((x.den : Nat) : Int) : Rat) := by
  rw [← h1,← e,Rat.intCast_natCast]
  grind
 have h3 : x.num*m=n*(x.den : Int) := by exact_mod_cast h2
 have h4 : (x.den : Int) ∣ x.num*m := ⟨n,by rw [h3,Int.mul_comm]⟩
 have h5 : x.den ∣ x.num.natAbs*m.natAbs := by
  have := Int.natAbs_dvd_natAbs.2 h4
  rwa [Int.natAbs_mul,Int.natAbs_natCast] at this
 exact (Nat.Coprime.symm x.reduced).dvd_of_dvd_mul_left h5
theorem fac_whole {qs : List Rat} {x : Rat} {z : Nat} {m : Int} (hx : x ∈ qs) (hm : m ≠ 0) (hall : ∀ y ∈ qs,(y*((m : Int) : Rat)).den=1) (hz : QW z (x*((m : Int) : Rat))) : QW z (x*fac qs) := by
 have hl : lD qs ∣ m.natAbs := lD_dvd_of (Nat.one_dvd _) fun y hy => den_dvd (hall y hy)
 have hd := fac_den hx
 have hpos : 0 < m.natAbs := Int.natAbs_pos.2 hm
 have hle : lD qs≤m.natAbs := Nat.le_of_dvd hpos hl
 have hn : (x*fac qs).num.natAbs≤(x*((m : Int) : Rat)).num.natAbs := by
  rw [fac_abs hx]
  have e := whole hz.wh
  generalize (x*((m : Int) : Rat)).num=n at e
  have h1 : x*((x.den : Nat) : Rat)=((x.num : Int) : Rat) := mul_low x
  have h2 : ((x.num : Int) : Rat)*((m : Int) : Rat)=((n : Int) : Rat)*(((x.den : Nat) : Int) : Rat) := by
   rw [← h1,← e,Rat.intCast_natCast]
   grind
  have h3 : x.num*m=n*(x.den : Int) := by exact_mod_cast h2
  have h4 : x.num.natAbs*m.natAbs=n.natAbs*x.den := by
   have := congrArg Int.natAbs h3
   rwa [Int.natAbs_mul,Int.natAbs_mul,Int.natAbs_natCast] at this
  obtain ⟨c,hc⟩ := den_dvd (x := x) (m := m) (hall x hx)
  have h5 : n.natAbs=x.num.natAbs*c := by
   rw [hc] at h4
   refine Nat.eq_of_mul_eq_mul_right x.den_pos ?_
   rw [← h4]
   rw [Nat.mul_assoc,Nat.mul_comm c]
  show x.num.natAbs / gN qs*(lD qs / x.den)≤n.natAbs
  rw [h5]
  refine Nat.mul_le_mul (Nat.div_le_self _ _) ?_
  have : lD qs / x.den≤m.natAbs / x.den := Nat.div_le_div_right hle
  rw [hc,Nat.mul_div_cancel_left _ x.den_pos] at this
  exact this
 refine ⟨⟨Nat.lt_of_le_of_lt hn hz.qs.num,?_⟩,hd⟩
 rw [hd]
 have := hz.qs.den
 rw [hz.wh] at this
 exact this
theorem leftA_mem {y : Atm} : ∀ {D U : List Atm},y ∈ leftA U D→y ∈ D
 | [],_,h => by cases h
 | x :: D,U,h => by
  unfold leftA at h
  split at h
  ·exact List.mem_cons_of_mem _ (leftA_mem h)
  ·rcases List.mem_cons.1 h with rfl | h
   ·exact List.mem_cons_self
   ·exact List.mem_cons_of_mem _ (leftA_mem h)
theorem uniA_low {q : Nat→Rat} (hM : BelA E dn M q k) : ∀ {l : List Nat} {U : List Atm},(∀ c ∈ l,c < k)→(∀ x ∈ U,x.1=1→x.2 < k)→∀ x ∈ uniA E l U,x.1=1→x.2 < k
 | [],_,_,hU => hU
 | a :: l,U,hl,hU => by
  unfold uniA
  refine uniA_low hM (fun c hc => hl c (List.mem_cons_of_mem _ hc)) ?_
  have ha := hl a List.mem_cons_self
  obtain ⟨p,h1,_,_,h4,_⟩ := hM a ha
  rw [h1]
  intro x hx h
  rcases List.mem_append.1 hx with hx | hx
  ·exact hU x hx h
  ·exact Nat.lt_trans (h4 x (leftA_mem hx) h) ha
theorem node_ok {q : Nat→Rat} {σ : Nat→ByteArray} (hσ : ∀ j,(σ j).size≤1048576) (hdn : ∀ j,dn j=(Cx.rd (σ j).data.toList).den) (hM : BelA E dn M q k) {z : Nat} {D : List Atm} {nd : Nd} (hwf : wfN k nd=true) (hs : saN E k z D nd=true) : QW z (valN σ q nd*proA dn M D)∧0 < z∧∀ x ∈ D,x.1=1→x.2 < k := by
 have hdn' : ∀ j,0 < dn j∧dn j < 2 ^ inB := fun j => by
  rw [hdn j]
  refine ⟨Rat.den_pos _,Nat.lt_of_lt_of_le (QS.rd3 _).den (Nat.pow_le_pow_right (by decide) ?_)⟩
  have := hσ j
  rw [str_len]
  unfold inB
  omega
 obtain ⟨op,xs⟩ := nd
 unfold saN at hs
 rw [Bool.and_eq_true,Bool.and_eq_true] at hs
 obtain ⟨⟨hz0,hD⟩,hs⟩ := hs
 have hz : 0 < z := by simpa [Nat.blt_eq] using hz0
 have hD' : ∀ x ∈ D,x.1=1→x.2 < k := fun x hx h1 => by
  rw [List.all_eq_true] at hD
  have := hD x hx
  rw [h1] at this
  simpa [Nat.blt_eq] using this
 refine ⟨?_,hz,hD'⟩
 have hlow : ∀ {a : Nat} {p : Nat × List Atm},a < k→E[a]? = some p→QW p.1 (M a)∧(∀ x ∈ p.2,x.1=1→x.2 < k)∧q a*proA dn M p.2=M a := fun {a p} ha hp => by
  obtain ⟨p',h1,h2,_,h4,h5⟩ := hM a ha
  rw [hp] at h1
  cases h1
  exact ⟨h2,fun x hx h => Nat.lt_trans (h4 x hx h) ha,h5⟩
 have hpr : ∀ {l : List Atm},(∀ x ∈ l,x.1=1→x.2 < k)→QW (bitL E l) (proA dn M l)∧proA dn M l ≠ 0 := fun h => proA_ok hdn' hM h
 unfold wfN at hwf
 unfold valN
 dsimp only at hs hwf ⊢
 split at hs
 ·rename_i s n d
  simp only [Bool.and_eq_true] at hs
  obtain ⟨⟨h1,h2⟩,h3⟩ := hs
  have h1' : n < 2 ^ z := by simpa [Nat.blt_eq] using h1
  have h2' : d ≠ 0 := by
   have : 0 < d := by simpa [Nat.blt_eq] using h2
   omega
  have hp : proA dn M D=((d : Nat) : Rat) := by
   have := subA_pro (dn := dn) (M := M) (noneA_some h3)
   rw [this]
   cases e : Nat.beq d 1 with
   | true =>
    rw [Nat.beq_eq] at e
    rw [e]
    show (1 : Rat)*1=((1 : Nat) : Rat)
    rw [Rat.mul_one]
    exact_mod_cast rfl
   | false =>
    show (if d=0 then (1 : Rat) else ((d : Nat) : Rat))*1*1=_
    rw [if_neg h2',Rat.mul_one,Rat.mul_one]
  show QW z ((if s=0 then mkRat (n : Int) d else mkRat (-(n : Int)) d)*proA dn M D)
  rw [hp]
  have key : ∀ m : Int,m.natAbs < 2 ^ z→QW z (mkRat m d*((d : Nat) : Rat)) := fun m hm => by
   rw [Rat.mkRat_eq_div,Rat.div_mul_cancel (nat_ne h2')]
   exact QW.of hm hz
  by_cases hs0 : s=0
  ·rw [if_pos hs0]
   exact key _ (by simpa using h1')
  ·rw [if_neg hs0]
   exact key _ (by simpa using h1')
 ·rename_i j
  simp only [Bool.and_eq_true,Nat.ble_eq] at hs
  have hp : proA dn M D=(((Cx.rd (σ j).data.toList).den : Nat) : Rat) := by
   rw [subA_pro (dn := dn) (M := M) (noneA_some hs.2)]
   show ((dn j : Nat) : Rat)*1*1=_
   rw [Rat.mul_one,Rat.mul_one,hdn j]
  show QW z (Cx.rd (σ j).data.toList*proA dn M D)
  rw [hp,mul_low]
  refine QW.of (Nat.lt_of_lt_of_le (QS.rd3 _).num (Nat.pow_le_pow_right (by decide) ?_)) hz
  have := hσ j
  have := hs.1
  unfold inB at this
  rw [str_len]
  omega
 ·simp only [List.all_cons,List.all_nil,Bool.and_true,Bool.and_eq_true] at hwf
  rename_i a b
  have l1 : a < k := by simpa [Nat.blt_eq] using hwf.1
  have l2 : b < k := by simpa [Nat.blt_eq] using hwf.2
  split at hs
  ·rename_i p r hp hr
   split at hs
   ·rename_i c e hc he
    rw [Nat.ble_eq] at hs
    obtain ⟨a1,a2,a3⟩ := hlow l1 hp
    obtain ⟨b1,b2,b3⟩ := hlow l2 hr
    have hc' := hpr (l := c) fun x hx => hD' x (subA_mem hc hx)
    have he' := hpr (l := e) fun x hx => hD' x (subA_mem he hx)
    have e1 : (q a+q b)*proA dn M D=M a*proA dn M c+M b*proA dn M e := by
     rw [Rat.add_mul]
     congr 1
     ·rw [subA_pro hc,← Rat.mul_assoc,a3]
     ·rw [subA_pro he,← Rat.mul_assoc,b3]
    show QW z ((q a+q b)*proA dn M D)
    rw [e1]
    exact ((a1.mul hc'.1).add (b1.mul he'.1)).mono hs
   ·cases hs
  ·cases hs
 ·simp only [List.all_cons,List.all_nil,Bool.and_true,Bool.and_eq_true] at hwf
  rename_i a b
  have l1 : a < k := by simpa [Nat.blt_eq] using hwf.1
  have l2 : b < k := by simpa [Nat.blt_eq] using hwf.2
  split at hs
  ·rename_i p r hp hr
   split at hs
   ·rename_i c e hc he
    rw [Nat.ble_eq] at hs
    obtain ⟨a1,a2,a3⟩ := hlow l1 hp
    obtain ⟨b1,b2,b3⟩ := hlow l2 hr
    have hc' := hpr (l := c) fun x hx => hD' x (subA_mem hc hx)
    have he' := hpr (l := e) fun x hx => hD' x (subA_mem he hx)
    have e1 : (q a - q b)*proA dn M D=M a*proA dn M c - M b*proA dn M e := by
     rw [show (q a - q b)*proA dn M D=q a*proA dn M D - q b*proA dn M D by grind]
     congr 1
     ·rw [subA_pro hc,← Rat.mul_assoc,a3]
     ·rw [subA_pro he,← Rat.mul_assoc,b3]
    show QW z ((q a - q b)*proA dn M D)
    rw [e1]
    exact ((a1.mul hc'.1).sub (b1.mul he'.1)).mono hs
   ·cases hs
  ·cases hs
 ·simp only [List.all_cons,List.all_nil,Bool.and_true,Bool.and_eq_true] at hwf
  rename_i a b
  have l1 : a < k := by simpa [Nat.blt_eq] using hwf.1
  have l2 : b < k := by simpa [Nat.blt_eq] using hwf.2
  split at hs
  ·rename_i p r hp hr
   split at hs
   ·rename_i c hc
    rw [Bool.and_eq_true,Nat.ble_eq] at hs
    obtain ⟨a1,a2,a3⟩ := hlow l1 hp
    obtain ⟨b1,b2,b3⟩ := hlow l2 hr
    have e1 : q a*q b*proA dn M D=M a*M b := by
     rw [subA_pro hc,subA_pro (noneA_some hs.1),← a3,← b3]
     show q a*q b*(proA dn M p.2*(proA dn M r.2*1))=_
     grind
    show QW z (q a*q b*proA dn M D)
    rw [e1]
    exact (a1.mul b1).mono hs.2
   ·cases hs
  ·cases hs
 ·simp only [List.all_cons,List.all_nil,Bool.and_true] at hwf
  rename_i a
  have l1 : a < k := by simpa [Nat.blt_eq] using hwf
  split at hs
  ·rename_i p hp
   rw [Bool.and_eq_true,Nat.ble_eq] at hs
   obtain ⟨a1,a2,a3⟩ := hlow l1 hp
   have e1 : -q a*proA dn M D=-M a := by
    rw [subA_pro (noneA_some hs.1),← a3]
    show -q a*(proA dn M p.2*1)=_
    grind
   show QW z (-q a*proA dn M D)
   rw [e1]
   exact a1.neg.mono hs.2
  ·cases hs
 ·simp only [List.all_cons,List.all_nil,Bool.and_true,Bool.and_eq_true] at hwf
  rename_i a b
  have l1 : a < k := by simpa [Nat.blt_eq] using hwf.1
  have l2 : b < k := by simpa [Nat.blt_eq] using hwf.2
  split at hs
  ·rename_i p r D' hp hr hD1
   split at hs
   ·rename_i c hc
    split at hs
    ·rename_i e he
     rw [Nat.ble_eq] at hs
     obtain ⟨a1,a2,a3⟩ := hlow l1 hp
     obtain ⟨b1,b2,b3⟩ := hlow l2 hr
     have he' := hpr (l := e) fun x hx => b2 x (subA_mem he hx)
     by_cases h0 : M b=0
     ·have hb : q b=0 := by
       rw [h0] at b3
       exact (Rat.mul_eq_zero.1 b3).resolve_right (hpr b2).2
      show QW z (q a / q b*proA dn M D)
      rw [hb,Rat.div_def,Rat.inv_zero,Rat.mul_zero,Rat.zero_mul]
      exact QW.zero hz
     ·have hb : q b ≠ 0 := fun h => h0 (by rw [← b3,h,Rat.zero_mul])
      have e1 : q a / q b*proA dn M D=M a*proA dn M e := by
       have e2 : proA dn M D=M b*proA dn M D' := by
        rw [remA_pro hD1]
        show (if M b=0 then (1 : Rat) else M b)*_=_
        rw [if_neg h0]
       have e3 : q a / q b*q b=q a := Rat.div_mul_cancel hb
       rw [e2,← a3,← b3,subA_pro hc,subA_pro he]
       generalize q a / q b=t at e3
       rw [← e3]
       grind
      show QW z (q a / q b*proA dn M D)
      rw [e1]
      exact (a1.mul he'.1).mono hs
    ·cases hs
   ·cases hs
  ·cases hs
 ·have hD0 : D=[] := by
   rw [Nat.beq_eq] at hs
   exact List.length_eq_zero_iff.1 hs
  rw [hD0]
  have hv : valN σ q (7,xs)=0 ∨ valN σ q (7,xs)=1 := by
   unfold valN
   dsimp only
   split
   all_goals first | (split; exact Or.inl rfl; exact Or.inr rfl) | exact Or.inl rfl | (rename_i h; cases h)
  show QW z (valN σ q (7,xs)*1)
  rw [Rat.mul_one]
  rcases hv with h | h
  ·rw [h]
   exact QW.zero hz
  ·rw [h]
   exact QW.one hz
 ·rename_i i ys
  rw [Bool.and_eq_true,Bool.and_eq_true,List.all_eq_true] at hs
  obtain ⟨h1,h2,h3⟩ := hs
  have hD0 : D=[] := by
   rw [Nat.beq_eq] at h1
   exact List.length_eq_zero_iff.1 h1
  have hwf' : ys.all (Nat.blt · k)=true := hwf
  rw [List.all_eq_true] at hwf'
  have hlt : ∀ c ∈ ys,c < k := fun c hc => by simpa [Nat.blt_eq] using hwf' c hc
  split at h3
  ·rename_i a ha
   split at h3
   ·rename_i p hp
    split at h3
    ·rename_i e he
     rw [Nat.ble_eq] at h3
     obtain ⟨hi,ha'⟩ := List.getElem?_eq_some_iff.1 ha
     have hmem : a ∈ ys := List.mem_of_getElem? ha
     have hg : (ys.map q).getD i 0=q a := by
      rw [List.getD_eq_getElem?_getD,List.getElem?_map,ha]
      rfl
     show QW z ((ys.map q).getD i 0*fac (ys.map q)*proA dn M D)
     rw [hg,hD0]
     show QW z (q a*fac (ys.map q)*1)
     rw [Rat.mul_one]
     -- what makes all of them whole
     have hU : ∀ x ∈ uniA E ys [],x.1=1→x.2 < k := uniA_low hM hlt (fun x hx => by cases hx)
     have hUp := hpr hU
     have hw := whole hUp.1.wh
     generalize hm : (proA dn M (uniA E ys [])).num=m at hw
     have hm0 : m ≠ 0 := fun h => hUp.2 (by rw [hw,h]; rfl)
     have hall : ∀ y ∈ ys.map q,(y*((m : Int) : Rat)).den=1 := fun y hy => by
      obtain ⟨c,hc,rfl⟩ := List.mem_map.1 hy
      have h4 := h2 c hc
      split at h4
      ·rename_i r hr
       obtain ⟨c1,c2,c3⟩ := hlow (hlt c hc) hr
       cases hs2 : subA (uniA E ys []) r.2 with
       | none => rw [hs2] at h4; cases h4
       | some f =>
        have hf := hpr (l := f) fun x hx => hU x (subA_mem hs2 hx)
        rw [← hw,subA_pro hs2,← Rat.mul_assoc,c3]
        exact (c1.mul hf.1).wh
      ·cases h4
     obtain ⟨a1,a2,a3⟩ := hlow (hlt a hmem) hp
     have he' := hpr (l := e) fun x hx => hU x (subA_mem he hx)
     refine fac_whole (List.mem_map_of_mem hmem) hm0 hall ?_
     rw [← hw,subA_pro he,← Rat.mul_assoc,a3]
     exact (a1.mul he'.1).mono h3
    ·cases h3
   ·cases h3
  ·cases h3
 ·cases hs
end
theorem QS_over {x m p : Rat} {z y K : Nat} (hm : QW z m) (hp : QW y p) (h0 : p ≠ 0) (e : x*p=m) (hz : z≤K) (hy : y≤K) : QS K x := by
 have hw := whole hp.wh
 generalize p.num=P at hw
 have hP : P ≠ 0 := fun h => h0 (by rw [hw,h]; rfl)
 have hpos : 0 < P.natAbs := Int.natAbs_pos.2 hP
 have hd : x.den ∣ P.natAbs := den_dvd (x := x) (m := P) (by rw [← hw,e]; exact hm.wh)
 have hdle : x.den≤P.natAbs := Nat.le_of_dvd hpos hd
 have hPlt : P.natAbs < 2 ^ y := by
  have := hp.qs.num
  rw [hw,Rat.num_intCast] at this
  exact this
 have hmw := whole hm.wh
 have hmlt := hm.qs.num
 generalize m.num=n at hmw hmlt
 have h1 : x*((x.den : Nat) : Rat)=((x.num : Int) : Rat) := mul_low x
 have h2 : ((x.num : Int) : Rat)*((P : Int) : Rat)=((n : Int) : Rat)*(((x.den : Nat) : Int) : Rat) := by
  rw [← h1,← hw,← hmw,← e,Rat.intCast_natCast]
  grind
 have h3 : x.num*P=n*(x.den : Int) := by exact_mod_cast h2
 have h4 : x.num.natAbs*P.natAbs=n.natAbs*x.den := by
  have := congrArg Int.natAbs h3
  rwa [Int.natAbs_mul,Int.natAbs_mul,Int.natAbs_natCast] at this
 have h5 : x.num.natAbs≤n.natAbs := by
  refine Nat.le_of_mul_le_mul_right (c := P.natAbs) ?_ hpos
  rw [h4]
  exact Nat.mul_le_mul_left _ hdle
 exact ⟨Nat.lt_of_lt_of_le (Nat.lt_of_le_of_lt h5 hmlt) (Nat.pow_le_pow_right (by decide) hz),Nat.lt_of_lt_of_le (Nat.lt_of_le_of_lt hdle hPlt) (Nat.pow_le_pow_right (by decide) hy)⟩
section
variable {N : List Nd} {Z : List Nat} {E : List (Nat × List Atm)} {q : Nat→Rat}
theorem sizes_okA {σ : Nat→ByteArray} (hσ : ∀ j,(σ j).size≤1048576) (hw : wfB 0 N=true) (hz : saB E 0 N E Z=true) (hq : ∀ (a : Nat) nd,N[a]? = some nd→q a=valN σ q nd) (h0 : ∀ a,N.length≤a→q a=0) : (∀ (a : Nat) z,Z[a]? = some z→QS z (q a))∧∀ a,QS 1000000000000 (q a) := by
 have hl := saB_len hz
 have key : ∀ k,k≤N.length→∃ M,BelA E (fun j => (Cx.rd (σ j).data.toList).den) M q k := by
  intro k
  induction k with
  | zero => exact fun _ => ⟨fun _ => 0,fun a ha => by omega⟩
  | succ k ih =>
   intro hk
   obtain ⟨M,hM⟩ := ih (by omega)
   have hn : N[k]? = some N[k] := List.getElem?_eq_getElem (by omega)
   obtain ⟨p,z,h1,_,h3,_⟩ := saB_get hz hn
   rw [Nat.zero_add] at h3
   have hwf := wfB_get hw hn
   rw [Nat.zero_add] at hwf
   obtain ⟨g1,g2,g3⟩ := node_ok hσ (fun _ => rfl) hM hwf h3
   rw [← hq k _ hn] at g1
   refine ⟨fun x => if x=k then q k*proA (fun j => (Cx.rd (σ j).data.toList).den) M p.2 else M x,fun a ha => ?_⟩
   have same : ∀ {l : List Atm},(∀ x ∈ l,x.1=1→x.2 < k)→proA (fun j => (Cx.rd (σ j).data.toList).den) (fun x => if x=k then q k*proA (fun j => (Cx.rd (σ j).data.toList).den) M p.2 else M x) l=proA (fun j => (Cx.rd (σ j).data.toList).den) M l := fun hl => (proA_congr fun x hx h => by
    have := hl x hx h
    rw [if_neg (by omega)]).symm
   by_cases e : a=k
   ·subst e
    refine ⟨p,h1,?_,g2,g3,?_⟩
    ·show QW p.1 (if a=a then _ else _)
     rw [if_pos rfl]
     exact g1
    ·rw [same g3]
     show _=(if a=a then _ else _)
     rw [if_pos rfl]
   ·obtain ⟨p',f1,f2,f3,f4,f5⟩ := hM a (by omega)
    refine ⟨p',f1,?_,f3,f4,?_⟩
    ·show QW p'.1 (if a=k then _ else M a)
     rw [if_neg e]
     exact f2
    ·rw [same fun x hx h => by have := f4 x hx h; omega]
     show _=(if a=k then _ else M a)
     rw [if_neg e]
     exact f5
 obtain ⟨M,hM⟩ := key N.length (Nat.le_refl _)
 have hdn : ∀ j,0 < (Cx.rd (σ j).data.toList).den∧(Cx.rd (σ j).data.toList).den < 2 ^ inB := fun j => by
  refine ⟨Rat.den_pos _,Nat.lt_of_lt_of_le (QS.rd3 _).den (Nat.pow_le_pow_right (by decide) ?_)⟩
  have := hσ j
  rw [str_len]
  unfold inB
  omega
 have h2 : ∀ (a : Nat) z,Z[a]? = some z→QS z (q a)∧z≤1000000000000 := by
  intro a z ha
  have hlt : a < N.length := by
   have := (List.getElem?_eq_some_iff.1 ha).1
   omega
  have hn : N[a]? = some N[a] := List.getElem?_eq_getElem hlt
  obtain ⟨p,z',h1,h2,_,h4,h5,h6⟩ := saB_get hz hn
  rw [ha] at h2
  cases h2
  obtain ⟨p',f1,f2,f3,f4,f5⟩ := hM a hlt
  rw [h1] at f1
  cases f1
  have hp := proA_ok hdn hM (l := p.2) fun x hx h => Nat.lt_trans (f4 x hx h) hlt
  exact ⟨QS_over f2 hp.1 hp.2 f5 h4 h5,h6⟩
 refine ⟨fun a z h => (h2 a z h).1,fun a => ?_⟩
 by_cases ha : a < Z.length
 ·have := h2 a _ (List.getElem?_eq_getElem ha)
  exact this.1.mono this.2
 ·rw [h0 a (by omega)]
  exact QS.zero.mono (by decide)
theorem hy_ofA {L C : List (List Nat × Nat)} {σ : Nat→ByteArray} {H : List (Nat × Nat × Nat × Nat)} (hσ : ∀ j,(σ j).size≤1048576) (hw : wfB 0 N=true) (hz : saB E 0 N E Z=true) (hl : litB N L=true) (hcn : canB N C=true) (hq : ∀ (a : Nat) nd,N[a]? = some nd→q a=valN σ q nd) (h0 : ∀ a,N.length≤a→q a=0) (hH : hAll q H) : Hy N H L C Z q σ where
 nat := hq
 qs := (sizes_okA hσ hw hz hq h0).2
 zs := (sizes_okA hσ hw hz hq h0).1
 par := hσ
 lit := fun s b h => lit_rd hl hq h
 k0 := fun a r h => kn_at hH h
 k1 := fun a r h => kn_at hH h
 k2 := fun a r h => kn_at hH h
 k3 := fun a b r h => kn_at hH h
 k4 := fun l a b r h1 h2 => by
  have h3 : Nat.beq 1 r=true ↔ q a=q b := kn_at hH h2
  rw [h3,← can_tx hcn hq h1]
  exact ⟨fun e => by rw [e],fun e => tellS_inj (bytesN_inj e)⟩
 k6 := fun a b r h => kn_at hH h
 k5 := fun a r h => kn_at hH h
end
end Go.Proofs.YtikldelfdioimaaGreatDoor
/- CFspaced -/
namespace Go.Proofs.YtikldelfdioimaaGreatDoor
open Go.RowKit Cx
theorem closed_spaced : Closed 9 :=
 closed_told (N := [(0,[0,1,1]),(0,[0,0,1]),(3,[1,0]),(3,[0,1]),(3,[1,1]),(4,[3,3]),(4,[4,4]),(3,[5,6]),(4,[4,2]),(4,[2,3]),(3,[8,9]),(4,[2,4]),(4,[3,2]),(3,[11,12]),(4,[7,0]),(2,[1,14]),(4,[10,1]),(2,[15,16]),(4,[13,1]),(2,[17,18]),(5,[19]),(8,[0,7,10,13,20]),(8,[1,7,10,13,20]),(8,[2,7,10,13,20]),(8,[3,7,10,13,20]),(2,[1,0]),(2,[1,1]),(0,[0,2,1]),(6,[25,27]),(6,[26,27]),(4,[3,28]),(2,[1,30]),(4,[4,29]),(2,[31,32]),(2,[33,32]),(5,[34]),(8,[0,3,4,4,35]),(8,[1,3,4,4,35]),(8,[2,3,4,4,35]),(8,[3,3,4,4,35]),(2,[1,32]),(2,[40,30]),(2,[41,32]),(5,[42]),(8,[0,4,3,4,43]),(8,[1,4,3,4,43]),(8,[2,4,3,4,43]),(8,[3,4,3,4,43]),(2,[40,32]),(2,[48,30]),(5,[49]),(8,[0,4,4,3,50]),(8,[1,4,4,3,50]),(8,[2,4,4,3,50]),(8,[3,4,4,3,50]),(4,[45,53]),(4,[46,52]),(3,[55,56]),(4,[46,51]),(4,[44,53]),(3,[58,59]),(4,[44,52]),(4,[45,51]),(3,[61,62]),(4,[36,57]),(2,[1,64]),(4,[37,60]),(2,[65,66]),(4,[38,63]),(2,[67,68]),(4,[52,38]),(4,[53,37]),(3,[70,71]),(4,[53,36]),(4,[51,38]),(3,[73,74]),(4,[51,37]),(4,[52,36]),(3,[76,77]),(4,[37,46]),(4,[38,45]),(3,[79,80]),(4,[38,44]),(4,[36,46]),(3,[82,83]),(4,[36,45]),(4,[37,44]),(3,[85,86]),(4,[57,39]),(2,[1,88]),(4,[72,47]),(2,[89,90]),(4,[81,54]),(2,[91,92]),(4,[60,39]),(2,[1,94]),(4,[75,47]),(2,[95,96]),(4,[84,54]),(2,[97,98]),(4,[63,39]),(2,[1,100]),(4,[78,47]),(2,[101,102]),(4,[87,54]),(2,[103,104]),(5,[69]),(6,[93,106]),(6,[99,106]),(6,[105,106]),(3,[1,107]),(3,[1,108]),(3,[1,109]),(4,[110,110]),(2,[1,113]),(4,[111,111]),(2,[114,115]),(4,[112,112]),(2,[116,117]),(0,[1,1,1]),(0,[0,1,2]),(0,[0,3,4]),(4,[4,3]),(3,[6,122]),(4,[3,4]),(3,[6,124]),(4,[3,7]),(2,[1,126]),(4,[4,123]),(2,[127,128]),(4,[4,125]),(2,[129,130]),(4,[2,2]),(2,[1,132]),(2,[133,5]),(2,[134,6])]) (H := [(0,7,0,0),(0,3,0,0),(0,4,0,1),(0,69,0,0),(4,21,0,1),(4,22,0,1),(4,23,0,1),(4,24,119,1),(4,107,120,1),(4,108,120,1),(4,109,120,1),(4,118,121,1),(4,131,0,1),(4,135,27,1)]) (K := []) (L := [([49],0),([48],1),([45,49],119),([49,47,50],120),([51,47,52],121),([50],27)]) (C := [([49],0),([45,49],119),([49,47,50],120),([51,47,52],121),([50],27)]) (Z := [2,2,5,5,5,10,10,21,10,10,21,10,10,21,23,26,23,50,23,74,74,371,371,371,371,5,5,3,8,8,13,16,13,30,44,44,221,221,221,221,16,30,44,44,221,221,221,221,30,44,44,221,221,221,221,442,442,885,442,442,885,442,442,885,1106,1109,1106,2216,1106,3323,442,442,885,442,442,885,442,442,885,442,442,885,442,442,885,442,442,885,1106,1109,1106,2216,1106,3323,1106,1109,1106,2216,1106,3323,1106,1109,1106,2216,1106,3323,3323,6646,6646,6646,6649,6649,6649,13298,13301,13298,26600,13298,39899,2,3,4,10,21,10,21,26,29,26,56,26,83,10,13,24,35]) (cl := []) 8 (fun _ h => by cases h) (by kernel_rfl) (by kernel_rfl) (by kernel_rfl) (by kernel_rfl) (by kernel_rfl) (by kernel_rfl) (by kernel_rfl)
end Go.Proofs.YtikldelfdioimaaGreatDoor
/- MED -/
namespace Go.Proofs.YtikldelfdioimaaGreatDoor
open Go.RowKit Cx
def eD_N : List Nd := [(1,[0]),(1,[1]),(1,[2]),(1,[3]),(1,[4]),(1,[5]),(3,[3,0]),(3,[4,1]),(3,[5,2]),(4,[6,6]),(4,[7,7]),(2,[9,10]),(4,[8,8]),(2,[11,12]),(1,[6]),(1,[7]),(1,[8]),(1,[9]),(1,[10]),(1,[11]),(3,[17,14]),(3,[18,15]),(3,[19,16]),(4,[20,20]),(4,[21,21]),(2,[23,24]),(4,[22,22]),(2,[25,26]),(3,[14,0]),(3,[15,1]),(3,[16,2]),(4,[7,22]),(4,[8,21]),(3,[31,32]),(4,[8,20]),(4,[6,22]),(3,[34,35]),(4,[6,21]),(4,[7,20]),(3,[37,38]),(4,[33,33]),(4,[36,36]),(2,[40,41]),(4,[39,39]),(2,[42,43]),(4,[7,30]),(4,[8,29]),(3,[45,46]),(4,[8,28]),(4,[6,30]),(3,[48,49]),(4,[6,29]),(4,[7,28]),(3,[51,52]),(4,[47,47]),(0,[0,0,1]),(2,[55,54]),(4,[50,50]),(2,[56,57]),(4,[53,53]),(2,[58,59]),(2,[55,9]),(2,[61,10]),(2,[62,12]),(6,[60,63]),(4,[6,20]),(4,[7,21]),(4,[8,22]),(2,[65,66]),(2,[68,67]),(4,[6,28]),(4,[7,29]),(4,[8,30]),(2,[70,71]),(2,[73,72]),(4,[20,28]),(4,[21,29]),(4,[22,30]),(2,[75,76]),(2,[78,77]),(4,[13,27]),(4,[69,69]),(3,[80,81]),(6,[74,13]),(4,[83,6]),(2,[0,84]),(4,[83,7]),(2,[1,86]),(4,[83,8]),(2,[2,88]),(4,[55,20]),(2,[14,90]),(4,[55,21]),(2,[15,92]),(4,[55,22]),(2,[16,94]),(3,[85,91]),(3,[87,93]),(3,[89,95]),(4,[96,96]),(4,[97,97]),(4,[98,98]),(2,[99,100]),(2,[102,101]),(4,[33,28]),(2,[55,104]),(4,[36,29]),(2,[105,106]),(4,[39,30]),(2,[107,108]),(4,[109,109]),(2,[55,40]),(2,[111,41]),(2,[112,43]),(6,[110,113]),(4,[74,27]),(4,[69,79]),(3,[115,116]),(6,[117,82]),(4,[69,74]),(4,[13,79]),(3,[119,120]),(6,[121,82]),(4,[118,6]),(2,[0,123]),(4,[118,7]),(2,[1,125]),(4,[118,8]),(2,[2,127]),(4,[122,20]),(2,[14,129]),(4,[122,21]),(2,[15,131]),(4,[122,22]),(2,[16,133]),(3,[124,130]),(3,[126,132]),(3,[128,134]),(4,[135,135]),(4,[136,136]),(4,[137,137]),(2,[138,139]),(2,[141,140])]
def eD_L : List (List Nat × Nat) := []
def eD_C : List (List Nat × Nat) := []
def eD_Z : List Nat := [3495260,3495260,3495260,3495260,3495260,3495260,6990520,6990520,6990520,13981040,13981040,27962078,13981040,41943116,3495260,3495260,3495260,3495260,3495260,3495260,6990520,6990520,6990520,13981040,13981040,27962078,13981040,41943116,6990520,6990520,6990520,13981040,13981040,27962078,13981040,13981040,27962078,13981040,13981040,27962078,55924156,55924156,83886230,55924156,83886232,13981040,13981040,20971560,13981040,13981040,20971560,13981040,13981040,20971560,41943120,1,41943122,41943120,62914678,41943120,62914680,13981042,27962080,41943118,62914681,13981040,13981040,13981040,27962078,41943116,13981040,13981040,13981040,27962078,41943116,13981040,13981040,13981040,27962078,41943116,83886232,83886232,83886234,52428894,59419414,59419416,59419414,59419416,59419414,59419416,6990521,6990523,6990521,6990523,6990521,6990523,62914677,62914677,62914677,125829354,125829354,125829354,146800910,167772466,34952598,34952600,34952598,41943120,34952598,41943122,83886244,55924158,83886232,83886234,83886245,83886232,83886232,83886234,94372012,83886232,83886232,83886234,94372012,101362532,101362534,101362532,101362534,101362532,101362534,101362532,101362534,101362532,101362534,101362532,101362534,111848313,111848313,111848313,223696626,223696626,223696626,237677664,251658702]
def eD_D0 : List Atm := [(0,0),(0,0),(0,3),(0,3)]
def eD_D1 : List Atm := [(0,0),(0,0),(0,1),(0,1),(0,3),(0,3),(0,4),(0,4)]
def eD_D2 : List Atm := [(0,0),(0,0),(0,1),(0,1),(0,2),(0,2),(0,3),(0,3),(0,4),(0,4),(0,5),(0,5)]
def eD_D3 : List Atm := [(0,6),(0,9)]
def eD_D4 : List Atm := [(0,7),(0,10)]
def eD_D5 : List Atm := [(0,8),(0,11)]
def eD_D6 : List Atm := [(0,0),(0,1),(0,3),(0,4),(0,6),(0,7),(0,9),(0,10)]
def eD_D7 : List Atm := [(0,1),(0,1),(0,2),(0,2),(0,4),(0,4),(0,5),(0,5),(0,7),(0,7),(0,8),(0,8),(0,10),(0,10),(0,11),(0,11)]
def eD_D8 : List Atm := [(0,0),(0,0),(0,1),(0,1),(0,2),(0,2),(0,3),(0,3),(0,4),(0,4),(0,5),(0,5),(0,6),(0,6),(0,7),(0,7),(0,8),(0,8),(0,9),(0,9),(0,10),(0,10),(0,11),(0,11)]
def eD_D9 : List Atm := [(0,1),(0,1),(0,2),(0,2),(0,4),(0,4),(0,5),(0,5),(0,7),(0,7),(0,8),(0,8)]
def eD_D10 : List Atm := [(0,0),(0,0),(0,1),(0,1),(0,2),(0,2),(0,3),(0,3),(0,4),(0,4),(0,5),(0,5),(0,6),(0,6),(0,7),(0,7),(0,8),(0,8)]
def eD_D11 : List Atm := [(0,0),(0,1),(0,2),(0,3),(0,4),(0,5),(0,6),(0,7),(0,8),(0,9),(0,10),(0,11)]
def eD_D12 : List Atm := [(0,0),(0,3),(0,6),(0,7),(0,8),(1,13)]
def eD_D13 : List Atm := [(0,1),(0,4),(0,6),(0,7),(0,8),(1,13)]
def eD_D14 : List Atm := [(0,2),(0,5),(0,6),(0,7),(0,8),(1,13)]
def eD_D15 : List Atm := [(0,0),(0,1),(0,2),(0,4),(0,5),(0,6),(0,7),(0,8),(0,10),(0,11)]
def eD_D16 : List Atm := [(0,0),(0,0),(0,1),(0,1),(0,2),(0,2),(0,3),(0,4),(0,5),(0,6),(0,6),(0,6),(0,7),(0,7),(0,7),(0,8),(0,8),(0,8),(0,9),(0,9),(0,10),(0,10),(0,11),(0,11)]
def eD_D17 : List Atm := [(0,0),(0,0),(0,0),(0,1),(0,1),(0,1),(0,2),(0,2),(0,2),(0,3),(0,3),(0,4),(0,4),(0,5),(0,5),(0,6),(0,6),(0,7),(0,7),(0,8),(0,8),(0,9),(0,10),(0,11)]
def eD_D18 : List Atm := [(0,0),(0,3),(0,6),(0,7),(0,8),(1,82)]
def eD_D19 : List Atm := [(0,1),(0,4),(0,6),(0,7),(0,8),(1,82)]
def eD_D20 : List Atm := [(0,2),(0,5),(0,6),(0,7),(0,8),(1,82)]
def eD_D21 : List Atm := [(0,0),(0,1),(0,2),(0,6),(0,9),(1,82)]
def eD_D22 : List Atm := [(0,0),(0,1),(0,2),(0,7),(0,10),(1,82)]
def eD_D23 : List Atm := [(0,0),(0,1),(0,2),(0,8),(0,11),(1,82)]
def eD_E : List (Nat × List Atm) := [(3495259,[(0,0)]),(3495259,[(0,1)]),(3495259,[(0,2)]),(3495259,[(0,3)]),(3495259,[(0,4)]),(3495259,[(0,5)]),(6990520,[(0,0),(0,3)]),(6990520,[(0,1),(0,4)]),(6990520,[(0,2),(0,5)]),(13981040,eD_D0),(13981040,[(0,1),(0,1),(0,4),(0,4)]),(27962078,eD_D1),(13981040,[(0,2),(0,2),(0,5),(0,5)]),(41943116,eD_D2),(3495259,[(0,6)]),(3495259,[(0,7)]),(3495259,[(0,8)]),(3495259,[(0,9)]),(3495259,[(0,10)]),(3495259,[(0,11)]),(6990520,eD_D3),(6990520,eD_D4),(6990520,eD_D5),(13981040,[(0,6),(0,6),(0,9),(0,9)]),(13981040,[(0,7),(0,7),(0,10),(0,10)]),(27962078,[(0,6),(0,6),(0,7),(0,7),(0,9),(0,9),(0,10),(0,10)]),(13981040,[(0,8),(0,8),(0,11),(0,11)]),(41943116,[(0,6),(0,6),(0,7),(0,7),(0,8),(0,8),(0,9),(0,9),(0,10),(0,10),(0,11),(0,11)]),(6990520,[(0,0),(0,6)]),(6990520,[(0,1),(0,7)]),(6990520,[(0,2),(0,8)]),(13981040,[(0,1),(0,4),(0,8),(0,11)]),(13981040,[(0,2),(0,5),(0,7),(0,10)]),(27962078,[(0,1),(0,2),(0,4),(0,5),(0,7),(0,8),(0,10),(0,11)]),(13981040,[(0,2),(0,5),(0,6),(0,9)]),(13981040,[(0,0),(0,3),(0,8),(0,11)]),(27962078,[(0,0),(0,2),(0,3),(0,5),(0,6),(0,8),(0,9),(0,11)]),(13981040,[(0,0),(0,3),(0,7),(0,10)]),(13981040,[(0,1),(0,4),(0,6),(0,9)]),(27962078,eD_D6),(55924156,eD_D7),(55924156,[(0,0),(0,0),(0,2),(0,2),(0,3),(0,3),(0,5),(0,5),(0,6),(0,6),(0,8),(0,8),(0,9),(0,9),(0,11),(0,11)]),(83886230,eD_D8),(55924156,[(0,0),(0,0),(0,1),(0,1),(0,3),(0,3),(0,4),(0,4),(0,6),(0,6),(0,7),(0,7),(0,9),(0,9),(0,10),(0,10)]),(83886232,eD_D8),(13981040,[(0,1),(0,2),(0,4),(0,8)]),(13981040,[(0,1),(0,2),(0,5),(0,7)]),(20971560,[(0,1),(0,2),(0,4),(0,5),(0,7),(0,8)]),(13981040,[(0,0),(0,2),(0,5),(0,6)]),(13981040,[(0,0),(0,2),(0,3),(0,8)]),(20971560,[(0,0),(0,2),(0,3),(0,5),(0,6),(0,8)]),(13981040,[(0,0),(0,1),(0,3),(0,7)]),(13981040,[(0,0),(0,1),(0,4),(0,6)]),(20971560,[(0,0),(0,1),(0,3),(0,4),(0,6),(0,7)]),(41943120,eD_D9),(1,[]),(41943122,eD_D9),(41943120,[(0,0),(0,0),(0,2),(0,2),(0,3),(0,3),(0,5),(0,5),(0,6),(0,6),(0,8),(0,8)]),(62914678,eD_D10),(41943120,[(0,0),(0,0),(0,1),(0,1),(0,3),(0,3),(0,4),(0,4),(0,6),(0,6),(0,7),(0,7)]),(62914680,eD_D10),(13981042,eD_D0),(27962080,eD_D1),(41943118,eD_D2),(62914681,[(0,6),(0,6),(0,7),(0,7),(0,8),(0,8),(1,63)]),(13981040,[(0,0),(0,3),(0,6),(0,9)]),(13981040,[(0,1),(0,4),(0,7),(0,10)]),(13981040,[(0,2),(0,5),(0,8),(0,11)]),(27962078,eD_D6),(41943116,eD_D11),(13981040,[(0,0),(0,0),(0,3),(0,6)]),(13981040,[(0,1),(0,1),(0,4),(0,7)]),(13981040,[(0,2),(0,2),(0,5),(0,8)]),(27962078,[(0,0),(0,0),(0,1),(0,1),(0,3),(0,4),(0,6),(0,7)]),(41943116,[(0,0),(0,0),(0,1),(0,1),(0,2),(0,2),(0,3),(0,4),(0,5),(0,6),(0,7),(0,8)]),(13981040,[(0,0),(0,6),(0,6),(0,9)]),(13981040,[(0,1),(0,7),(0,7),(0,10)]),(13981040,[(0,2),(0,8),(0,8),(0,11)]),(27962078,[(0,0),(0,1),(0,6),(0,6),(0,7),(0,7),(0,9),(0,10)]),(41943116,[(0,0),(0,1),(0,2),(0,6),(0,6),(0,7),(0,7),(0,8),(0,8),(0,9),(0,10),(0,11)]),(83886232,eD_D8),(83886232,eD_D8),(83886234,eD_D8),(52428894,[(0,6),(0,7),(0,8),(1,13)]),(59419414,eD_D12),(59419416,eD_D12),(59419414,eD_D13),(59419416,eD_D13),(59419414,eD_D14),(59419416,eD_D14),(6990521,eD_D3),(6990523,eD_D3),(6990521,eD_D4),(6990523,eD_D4),(6990521,eD_D5),(6990523,eD_D5),(62914677,[(0,0),(0,3),(0,6),(0,7),(0,8),(0,9),(1,13)]),(62914677,[(0,1),(0,4),(0,6),(0,7),(0,8),(0,10),(1,13)]),(62914677,[(0,2),(0,5),(0,6),(0,7),(0,8),(0,11),(1,13)]),(125829354,[(0,0),(0,0),(0,3),(0,3),(0,6),(0,6),(0,7),(0,7),(0,8),(0,8),(0,9),(0,9),(1,13),(1,13)]),(125829354,[(0,1),(0,1),(0,4),(0,4),(0,6),(0,6),(0,7),(0,7),(0,8),(0,8),(0,10),(0,10),(1,13),(1,13)]),(125829354,[(0,2),(0,2),(0,5),(0,5),(0,6),(0,6),(0,7),(0,7),(0,8),(0,8),(0,11),(0,11),(1,13),(1,13)]),(146800910,[(0,0),(0,0),(0,1),(0,1),(0,3),(0,3),(0,4),(0,4),(0,6),(0,6),(0,7),(0,7),(0,8),(0,8),(0,9),(0,9),(0,10),(0,10),(1,13),(1,13)]),(167772466,[(0,0),(0,0),(0,1),(0,1),(0,2),(0,2),(0,3),(0,3),(0,4),(0,4),(0,5),(0,5),(0,6),(0,6),(0,7),(0,7),(0,8),(0,8),(0,9),(0,9),(0,10),(0,10),(0,11),(0,11),(1,13),(1,13)]),(34952598,eD_D15),(34952600,eD_D15),(34952598,[(0,0),(0,1),(0,2),(0,3),(0,5),(0,6),(0,7),(0,8),(0,9),(0,11)]),(41943120,eD_D11),(34952598,[(0,0),(0,1),(0,2),(0,3),(0,4),(0,6),(0,7),(0,8),(0,9),(0,10)]),(41943122,eD_D11),(83886244,eD_D8),(55924158,eD_D7),(83886232,eD_D8),(83886234,eD_D8),(83886245,[(1,113)]),(83886232,eD_D16),(83886232,eD_D16),(83886234,eD_D16),(94372012,[(0,6),(0,7),(0,8),(1,82)]),(83886232,eD_D17),(83886232,eD_D17),(83886234,eD_D17),(94372012,[(0,0),(0,1),(0,2),(1,82)]),(101362532,eD_D18),(101362534,eD_D18),(101362532,eD_D19),(101362534,eD_D19),(101362532,eD_D20),(101362534,eD_D20),(101362532,eD_D21),(101362534,eD_D21),(101362532,eD_D22),(101362534,eD_D22),(101362532,eD_D23),(101362534,eD_D23),(111848313,[(0,0),(0,1),(0,2),(0,3),(0,6),(0,7),(0,8),(0,9),(1,82)]),(111848313,[(0,0),(0,1),(0,2),(0,4),(0,6),(0,7),(0,8),(0,10),(1,82)]),(111848313,[(0,0),(0,1),(0,2),(0,5),(0,6),(0,7),(0,8),(0,11),(1,82)]),(223696626,[(0,0),(0,0),(0,1),(0,1),(0,2),(0,2),(0,3),(0,3),(0,6),(0,6),(0,7),(0,7),(0,8),(0,8),(0,9),(0,9),(1,82),(1,82)]),(223696626,[(0,0),(0,0),(0,1),(0,1),(0,2),(0,2),(0,4),(0,4),(0,6),(0,6),(0,7),(0,7),(0,8),(0,8),(0,10),(0,10),(1,82),(1,82)]),(223696626,[(0,0),(0,0),(0,1),(0,1),(0,2),(0,2),(0,5),(0,5),(0,6),(0,6),(0,7),(0,7),(0,8),(0,8),(0,11),(0,11),(1,82),(1,82)]),(237677664,[(0,0),(0,0),(0,1),(0,1),(0,2),(0,2),(0,3),(0,3),(0,4),(0,4),(0,6),(0,6),(0,7),(0,7),(0,8),(0,8),(0,9),(0,9),(0,10),(0,10),(1,82),(1,82)]),(251658702,[(0,0),(0,0),(0,1),(0,1),(0,2),(0,2),(0,3),(0,3),(0,4),(0,4),(0,5),(0,5),(0,6),(0,6),(0,7),(0,7),(0,8),(0,8),(0,9),(0,9),(0,10),(0,10),(0,11),(0,11),(1,82),(1,82)])]
abbrev eD_Q (q : Nat→Rat) (σ : Nat→ByteArray) : Prop := ∀ (a : Nat) nd,eD_N[a]? = some nd→q a=valN σ q nd
variable {q : Nat→Rat} {σ : Nat→ByteArray}
theorem eD_wf : wfB 0 eD_N=true := by kernel_rfl
theorem eD_sz : saB eD_E 0 eD_N eD_E eD_Z=true := by kernel_rfl
theorem eD_lt : litB eD_N eD_L=true := by kernel_rfl
theorem eD_cn : canB eD_N eD_C=true := by kernel_rfl
theorem eD_c55 : cst 0 0 1=(0 : Rat) := by decide +kernel
def eD_A : List AV := [(false,[(true,[.inr (2,0,0,0,0),.inr (2,1,0,0,0),.inr (2,2,0,0,0)])]),(false,[(true,[.inr (2,3,0,0,0),.inr (2,4,0,0,0),.inr (2,5,0,0,0)])]),(false,[(true,[.inr (2,6,0,0,0),.inr (2,7,0,0,0),.inr (2,8,0,0,0)])]),(false,[(true,[.inr (2,9,0,0,0),.inr (2,10,0,0,0),.inr (2,11,0,0,0)])])]
theorem sp_sq3 {x y z m1 m2 m3 s t : Rat} (h1 : m1=x*x) (h2 : m2=y*y) (hs : s=m1+m2) (h3 : m3=z*z) (ht : t=s+m3) : t=0 ↔ ((x=0∧y=0)∧z=0) := by
 have a1 := sq_facts x
 have a2 := sq_facts y
 have a3 := sq_facts z
 subst_vars
 constructor
 ·intro h
  refine ⟨⟨a1.2.1 ?_,a2.2.1 ?_⟩,a3.2.1 ?_⟩ <;> grind
 ·rintro ⟨⟨h1,h2⟩,h3⟩
  rw [h1,h2,h3]; grind
theorem sp_par {x y z a b c d e f n1 n2 n3 : Rat} (e1 : n1=b*f - c*e) (e2 : n2=c*d - a*f) (e3 : n3=a*e - b*d) (h : ¬ ((n1=0∧n2=0)∧n3=0)) (p1 : y*c - z*b=0) (p2 : z*a - x*c=0) (p3 : x*b - y*a=0) (q1 : y*f - z*e=0) (q2 : z*d - x*f=0) (q3 : x*e - y*d=0) : (x=0∧y=0)∧z=0 := by
 have k : ∀ n,n ≠ 0→x*n=0∧y*n=0∧z*n=0→(x=0∧y=0)∧z=0 := fun n hn ⟨i,j,l⟩ => ⟨⟨(Rat.mul_eq_zero.1 i).resolve_right hn,(Rat.mul_eq_zero.1 j).resolve_right hn⟩,(Rat.mul_eq_zero.1 l).resolve_right hn⟩
 by_cases h1 : n1=0
 ·by_cases h2 : n2=0
  ·exact k n3 (fun h3 => h ⟨⟨h1,h2⟩,h3⟩) (by clear h k h1 h2; subst_vars; refine ⟨?_,?_,?_⟩ <;> grind)
  ·exact k n2 h2 (by clear h k h1 h2; subst_vars; refine ⟨?_,?_,?_⟩ <;> grind)
 ·exact k n1 h1 (by clear h k h1; subst_vars; refine ⟨?_,?_,?_⟩ <;> grind)
theorem sp_apart {u1 u2 u3 v1 v2 v3 w1 w2 w3 D x y h : Rat} (hD : D ≠ 0) (eD : D=(u1*u1+u2*u2+u3*u3)*(v1*v1+v2*v2+v3*v3) - (u1*v1+u2*v2+u3*v3)*(u1*v1+u2*v2+u3*v3)) (ex : x*D=(u1*w1+u2*w2+u3*w3)*(v1*v1+v2*v2+v3*v3) - (u1*v1+u2*v2+u3*v3)*(v1*w1+v2*w2+v3*w3)) (ey : y*D=(u1*v1+u2*v2+u3*v3)*(u1*w1+u2*w2+u3*w3) - (u1*u1+u2*u2+u3*u3)*(v1*w1+v2*w2+v3*w3)) (eh : h=(u2*v3 - u3*v2)*w1+(u3*v1 - u1*v3)*w2+(u1*v2 - u2*v1)*w3) : ((x*u1 - w1 - y*v1)*(x*u1 - w1 - y*v1)+(x*u2 - w2 - y*v2)*(x*u2 - w2 - y*v2)+(x*u3 - w3 - y*v3)*(x*u3 - w3 - y*v3))*D=h*h := by
 have a1 : (x*u1 - w1 - y*v1)*D=-(h*(u2*v3 - u3*v2)) := by
  have : (x*u1 - w1 - y*v1)*D=(x*D)*u1 - w1*D - (y*D)*v1 := by grind
  rw [this,ex,ey,eh,eD]; grind
 have a2 : (x*u2 - w2 - y*v2)*D=-(h*(u3*v1 - u1*v3)) := by
  have : (x*u2 - w2 - y*v2)*D=(x*D)*u2 - w2*D - (y*D)*v2 := by grind
  rw [this,ex,ey,eh,eD]; grind
 have a3 : (x*u3 - w3 - y*v3)*D=-(h*(u1*v2 - u2*v1)) := by
  have : (x*u3 - w3 - y*v3)*D=(x*D)*u3 - w3*D - (y*D)*v3 := by grind
  rw [this,ex,ey,eh,eD]; grind
 have e : D=(u2*v3 - u3*v2)*(u2*v3 - u3*v2)+(u3*v1 - u1*v3)*(u3*v1 - u1*v3)+(u1*v2 - u2*v1)*(u1*v2 - u2*v1) := by rw [eD]; grind
 clear ex ey eh eD
 generalize x*u1 - w1 - y*v1=d1 at *
 generalize x*u2 - w2 - y*v2=d2 at *
 generalize x*u3 - w3 - y*v3=d3 at *
 generalize u2*v3 - u3*v2=n1 at *
 generalize u3*v1 - u1*v3=n2 at *
 generalize u1*v2 - u2*v1=n3 at *
 have k : ((d1*d1+d2*d2+d3*d3)*D - h*h)*D=0 := by
  have : ((d1*d1+d2*d2+d3*d3)*D - h*h)*D=(d1*D)*(d1*D)+(d2*D)*(d2*D)+(d3*D)*(d3*D) - h*h*D := by grind
  rw [this,a1,a2,a3,e]; grind
 have := (Rat.mul_eq_zero.1 k).resolve_right hD
 grind
theorem sp_apart1 {u1 u2 u3 w1 w2 w3 x : Rat} (ex : x*(u1*u1+u2*u2+u3*u3)=u1*w1+u2*w2+u3*w3) : ((x*u1 - w1)*(x*u1 - w1)+(x*u2 - w2)*(x*u2 - w2)+(x*u3 - w3)*(x*u3 - w3))*(u1*u1+u2*u2+u3*u3)=(w2*u3 - w3*u2)*(w2*u3 - w3*u2)+(w3*u1 - w1*u3)*(w3*u1 - w1*u3)+(w1*u2 - w2*u1)*(w1*u2 - w2*u1) := by
 generalize hU : u1*u1+u2*u2+u3*u3=U at *
 have : ((x*u1 - w1)*(x*u1 - w1)+(x*u2 - w2)*(x*u2 - w2)+(x*u3 - w3)*(x*u3 - w3))*U=(x*U)*(x*U) - 2*(x*U)*(u1*w1+u2*w2+u3*w3)+(w1*w1+w2*w2+w3*w3)*U := by grind
 rw [this,ex,← hU]; grind
theorem sp_cramer {a1 a2 a3 b1 b2 b3 c1 c2 c3 da db dc D k p1 p2 p3 : Rat} (eD : D=a1*(b2*c3 - b3*c2)+a2*(b3*c1 - b1*c3)+a3*(b1*c2 - b2*c1)) (hk : k*D=-1) (e1 : p1=((b2*c3 - b3*c2)*da+(c2*a3 - c3*a2)*db+(a2*b3 - a3*b2)*dc)*k) (e2 : p2=((b3*c1 - b1*c3)*da+(c3*a1 - c1*a3)*db+(a3*b1 - a1*b3)*dc)*k) (e3 : p3=((b1*c2 - b2*c1)*da+(c1*a2 - c2*a1)*db+(a1*b2 - a2*b1)*dc)*k) : a1*p1+a2*p2+a3*p3+da=0∧b1*p1+b2*p2+b3*p3+db=0∧c1*p1+c2*p2+c3*p3+dc=0 := by
 have f : ∀ t,(k*D)*t+t=0 := fun t => by rw [hk]; grind
 refine ⟨?_,?_,?_⟩
 ·have := f da; rw [eD] at this; rw [e1,e2,e3]; grind
 ·have := f db; rw [eD] at this; rw [e1,e2,e3]; grind
 ·have := f dc; rw [eD] at this; rw [e1,e2,e3]; grind
theorem sp_between {a1 a2 a3 b1 b2 b3 p1 p2 p3 d : Rat} (hd : 2*d=-((b1 - a1)*(a1+b1)+(b2 - a2)*(a2+b2)+(b3 - a3)*(a3+b3))) (h : (b1 - a1)*p1+(b2 - a2)*p2+(b3 - a3)*p3+d=0) : (p1 - a1)*(p1 - a1)+(p2 - a2)*(p2 - a2)+(p3 - a3)*(p3 - a3)=(p1 - b1)*(p1 - b1)+(p2 - b2)*(p2 - b2)+(p3 - b3)*(p3 - b3) := by grind
theorem sp_sq4 {x y z u m1 m2 m3 m4 s t v : Rat} (h1 : m1=x*x) (h2 : m2=y*y) (hs : s=m1+m2) (h3 : m3=z*z) (ht : t=s+m3) (h4 : m4=u*u) (hv : v=t+m4) (k1 : x=0) (k2 : y=0) (k3 : z=0) (k4 : u=0) : v=0 := by
 rw [hv,ht,hs,h1,h2,h3,h4,k1,k2,k3,k4]; grind
theorem sp_ln {B1 B2 B3 d o1 o2 o3 a1 a2 a3 b1 b2 b3 k l : Rat} (hx : a2*b3 - a3*b2=0) (hy : a3*b1 - a1*b3=0) (hz : a1*b2 - a2*b1=0) (h1 : B1*(o1+k*a1)+B2*(o2+k*a2)+B3*(o3+k*a3)+d=0) (h2 : B1*(o1+l*b1)+B2*(o2+l*b2)+B3*(o3+l*b3)+d=0) : (l*b1 - k*a1)*(B1*(b1 - a1)+B2*(b2 - a2)+B3*(b3 - a3))=0∧(l*b2 - k*a2)*(B1*(b1 - a1)+B2*(b2 - a2)+B3*(b3 - a3))=0∧(l*b3 - k*a3)*(B1*(b1 - a1)+B2*(b2 - a2)+B3*(b3 - a3))=0 := by
 have e1 : (l*b1 - k*a1)*(B1*(b1 - a1)+B2*(b2 - a2)+B3*(b3 - a3))=(b1 - a1)*((B1*(o1+l*b1)+B2*(o2+l*b2)+B3*(o3+l*b3)+d) - (B1*(o1+k*a1)+B2*(o2+k*a2)+B3*(o3+k*a3)+d))+B2*((l - k)*(a1*b2 - a2*b1)) - B3*((l - k)*(a3*b1 - a1*b3)) := by clear hx hy hz h1 h2; grind
 have e2 : (l*b2 - k*a2)*(B1*(b1 - a1)+B2*(b2 - a2)+B3*(b3 - a3))=(b2 - a2)*((B1*(o1+l*b1)+B2*(o2+l*b2)+B3*(o3+l*b3)+d) - (B1*(o1+k*a1)+B2*(o2+k*a2)+B3*(o3+k*a3)+d))+B3*((l - k)*(a2*b3 - a3*b2)) - B1*((l - k)*(a1*b2 - a2*b1)) := by clear hx hy hz h1 h2 e1; grind
 have e3 : (l*b3 - k*a3)*(B1*(b1 - a1)+B2*(b2 - a2)+B3*(b3 - a3))=(b3 - a3)*((B1*(o1+l*b1)+B2*(o2+l*b2)+B3*(o3+l*b3)+d) - (B1*(o1+k*a1)+B2*(o2+k*a2)+B3*(o3+k*a3)+d))+B1*((l - k)*(a3*b1 - a1*b3)) - B2*((l - k)*(a2*b3 - a3*b2)) := by clear hx hy hz h1 h2 e1 e2; grind
 rw [e1,e2,e3,hx,hy,hz,h1,h2]
 refine ⟨?_,?_,?_⟩ <;> grind
theorem sp_dsg {A B C k l s : Rat} (h1 : C+k*A=0) (h2 : C+l*B=0) (hv : C+(1+s)*A - s*B=0) (hg : B - A ≠ 0) : (1+s - k)*l - s*k=0 := by
 have x : ((1+s - k)*l - s*k)*(B - A)=0 := by grind
 exact (Rat.mul_eq_zero.1 x).resolve_right hg
theorem sp_prop {a b c x y z : Rat} (h : ¬ ((x=0∧y=0)∧z=0)) (h1 : b*z - c*y=0) (h2 : c*x - a*z=0) (h3 : a*y - b*x=0) : ∃ r,a=r*x∧b=r*y∧c=r*z := by
 have k : ∀ n m,n ≠ 0→a*n=m*x→b*n=m*y→c*n=m*z→∃ r,a=r*x∧b=r*y∧c=r*z := by
  intro n m hn i j l
  refine ⟨m / n,?_,?_,?_⟩ <;> (rw [Rat.div_def]; have := Rat.mul_inv_cancel n hn; grind)
 by_cases p : x=0
 ·by_cases q : y=0
  ·exact k z c (fun r => h ⟨⟨p,q⟩,r⟩) (by grind) (by grind) (by grind)
  ·exact k y b q (by grind) (by grind) (by grind)
 ·exact k x a p (by grind) (by grind) (by grind)
theorem eD_pTz {z6 z7 z8 z9 z10 z11 z12 z13 z20 z21 z22 z23 z24 z25 z26 z27 z31 z32 z33 z34 z35 z36 z37 z38 z39 z40 z41 z42 z43 z44 z65 z66 z67 z68 z69 z80 z81 z82 : Rat} : z9=z6*z6→z10=z7*z7→z11=z9+z10→z12=z8*z8→z13=z11+z12→z23=z20*z20→z24=z21*z21→z25=z23+z24→z26=z22*z22→z27=z25+z26→z31=z7*z22→z32=z8*z21→z33=z31-z32→z34=z8*z20→z35=z6*z22→z36=z34-z35→z37=z6*z21→z38=z7*z20→z39=z37-z38→z40=z33*z33→z41=z36*z36→z42=z40+z41→z43=z39*z39→z44=z42+z43→z65=z6*z20→z66=z7*z21→z67=z8*z22→z68=z65+z66→z69=z68+z67→z80=z13*z27→z81=z69*z69→z82=z80-z81→(z44=0)→(z82=0) := by
 intro e9 e10 e11 e12 e13 e23 e24 e25 e26 e27 e31 e32 e33 e34 e35 e36 e37 e38 e39 e40 e41 e42 e43 e44 e65 e66 e67 e68 e69 e80 e81 e82
 intro h
 have q : z82=z44 := by clear h; subst_vars; grind
 exact q.trans h
theorem eD_pT (H : eD_Q q σ) : (q 44=0)→(q 82=0) := by
 have e9:q 9=q 6*q 6:=H 9 _ rfl;have e10:q 10=q 7*q 7:=H 10 _ rfl;have e11:q 11=q 9+q 10:=H 11 _ rfl;have e12:q 12=q 8*q 8:=H 12 _ rfl;have e13:q 13=q 11+q 12:=H 13 _ rfl;have e23:q 23=q 20*q 20:=H 23 _ rfl;have e24:q 24=q 21*q 21:=H 24 _ rfl;have e25:q 25=q 23+q 24:=H 25 _ rfl;have e26:q 26=q 22*q 22:=H 26 _ rfl;have e27:q 27=q 25+q 26:=H 27 _ rfl;have e31:q 31=q 7*q 22:=H 31 _ rfl;have e32:q 32=q 8*q 21:=H 32 _ rfl;have e33:q 33=q 31-q 32:=H 33 _ rfl;have e34:q 34=q 8*q 20:=H 34 _ rfl;have e35:q 35=q 6*q 22:=H 35 _ rfl;have e36:q 36=q 34-q 35:=H 36 _ rfl;have e37:q 37=q 6*q 21:=H 37 _ rfl;have e38:q 38=q 7*q 20:=H 38 _ rfl;have e39:q 39=q 37-q 38:=H 39 _ rfl;have e40:q 40=q 33*q 33:=H 40 _ rfl;have e41:q 41=q 36*q 36:=H 41 _ rfl;have e42:q 42=q 40+q 41:=H 42 _ rfl;have e43:q 43=q 39*q 39:=H 43 _ rfl;have e44:q 44=q 42+q 43:=H 44 _ rfl;have e65:q 65=q 6*q 20:=H 65 _ rfl;have e66:q 66=q 7*q 21:=H 66 _ rfl;have e67:q 67=q 8*q 22:=H 67 _ rfl;have e68:q 68=q 65+q 66:=H 68 _ rfl;have e69:q 69=q 68+q 67:=H 69 _ rfl;have e80:q 80=q 13*q 27:=H 80 _ rfl;have e81:q 81=q 69*q 69:=H 81 _ rfl;have e82:q 82=q 80-q 81:=H 82 _ rfl
 exact eD_pTz e9 e10 e11 e12 e13 e23 e24 e25 e26 e27 e31 e32 e33 e34 e35 e36 e37 e38 e39 e40 e41 e42 e43 e44 e65 e66 e67 e68 e69 e80 e81 e82
theorem eD_pPz {z0 z1 z2 z6 z7 z8 z9 z10 z11 z12 z13 z14 z15 z16 z20 z21 z22 z28 z29 z30 z45 z46 z47 z48 z49 z50 z51 z52 z53 z54 z55 z56 z57 z58 z59 z60 z61 z62 z63 z64 z70 z71 z72 z73 z74 z83 z84 z85 z86 z87 z88 z89 z90 z91 z92 z93 z94 z95 z96 z97 z98 z99 z100 z101 z102 z103 : Rat} : z9=z6*z6→z10=z7*z7→z11=z9+z10→z12=z8*z8→z13=z11+z12→z28=z14-z0→z29=z15-z1→z30=z16-z2→z45=z7*z30→z46=z8*z29→z47=z45-z46→z48=z8*z28→z49=z6*z30→z50=z48-z49→z51=z6*z29→z52=z7*z28→z53=z51-z52→z54=z47*z47→z55=0→z56=z55+z54→z57=z50*z50→z58=z56+z57→z59=z53*z53→z60=z58+z59→z61=z55+z9→z62=z61+z10→z63=z62+z12→z64=z60/z63→z70=z6*z28→z71=z7*z29→z72=z8*z30→z73=z70+z71→z74=z73+z72→z83=z74/z13→z84=z83*z6→z85=z0+z84→z86=z83*z7→z87=z1+z86→z88=z83*z8→z89=z2+z88→z90=z55*z20→z91=z14+z90→z92=z55*z21→z93=z15+z92→z94=z55*z22→z95=z16+z94→z96=z85-z91→z97=z87-z93→z98=z89-z95→z99=z96*z96→z100=z97*z97→z101=z98*z98→z102=z99+z100→z103=z102+z101→(¬ (z13=0))→(z64=z103) := by
 intro e9 e10 e11 e12 e13 e28 e29 e30 e45 e46 e47 e48 e49 e50 e51 e52 e53 e54 e55 e56 e57 e58 e59 e60 e61 e62 e63 e64 e70 e71 e72 e73 e74 e83 e84 e85 e86 e87 e88 e89 e90 e91 e92 e93 e94 e95 e96 e97 e98 e99 e100 e101 e102 e103
 intro h
 have n : z13 ≠ 0 := h
 have hd : z63=z13 := by clear h n e64; subst_vars; grind
 have c := sp_apart1 (x := z83) (u1 := z6) (u2 := z7) (u3 := z8) (w1 := z28) (w2 := z29) (w3 := z30) (by have := Rat.div_mul_cancel (a := z74) n; rw [← e83] at this; rw [e13,e12,e11,e10,e9] at this; rw [this]; clear this n h hd e83 e64; subst_vars; grind)
 have q : z103*z13=z60 := by
  clear h n hd e83 e64; subst_vars; grind
 rw [e64,hd,← q,Rat.div_def,Rat.mul_assoc,Rat.mul_inv_cancel _ n,Rat.mul_one]
theorem eD_pP (H : eD_Q q σ) : (¬ (q 13=0))→(q 64=q 103) := by
 have e9:q 9=q 6*q 6:=H 9 _ rfl;have e10:q 10=q 7*q 7:=H 10 _ rfl;have e11:q 11=q 9+q 10:=H 11 _ rfl;have e12:q 12=q 8*q 8:=H 12 _ rfl;have e13:q 13=q 11+q 12:=H 13 _ rfl;have e28:q 28=q 14-q 0:=H 28 _ rfl;have e29:q 29=q 15-q 1:=H 29 _ rfl;have e30:q 30=q 16-q 2:=H 30 _ rfl;have e45:q 45=q 7*q 30:=H 45 _ rfl;have e46:q 46=q 8*q 29:=H 46 _ rfl;have e47:q 47=q 45-q 46:=H 47 _ rfl;have e48:q 48=q 8*q 28:=H 48 _ rfl;have e49:q 49=q 6*q 30:=H 49 _ rfl;have e50:q 50=q 48-q 49:=H 50 _ rfl;have e51:q 51=q 6*q 29:=H 51 _ rfl;have e52:q 52=q 7*q 28:=H 52 _ rfl;have e53:q 53=q 51-q 52:=H 53 _ rfl;have e54:q 54=q 47*q 47:=H 54 _ rfl;have e55:q 55=0:=(H 55 _ rfl).trans eD_c55;have e56:q 56=q 55+q 54:=H 56 _ rfl;have e57:q 57=q 50*q 50:=H 57 _ rfl;have e58:q 58=q 56+q 57:=H 58 _ rfl;have e59:q 59=q 53*q 53:=H 59 _ rfl;have e60:q 60=q 58+q 59:=H 60 _ rfl;have e61:q 61=q 55+q 9:=H 61 _ rfl;have e62:q 62=q 61+q 10:=H 62 _ rfl;have e63:q 63=q 62+q 12:=H 63 _ rfl;have e64:q 64=q 60/q 63:=H 64 _ rfl;have e70:q 70=q 6*q 28:=H 70 _ rfl;have e71:q 71=q 7*q 29:=H 71 _ rfl;have e72:q 72=q 8*q 30:=H 72 _ rfl;have e73:q 73=q 70+q 71:=H 73 _ rfl;have e74:q 74=q 73+q 72:=H 74 _ rfl;have e83:q 83=q 74/q 13:=H 83 _ rfl;have e84:q 84=q 83*q 6:=H 84 _ rfl;have e85:q 85=q 0+q 84:=H 85 _ rfl;have e86:q 86=q 83*q 7:=H 86 _ rfl;have e87:q 87=q 1+q 86:=H 87 _ rfl;have e88:q 88=q 83*q 8:=H 88 _ rfl;have e89:q 89=q 2+q 88:=H 89 _ rfl;have e90:q 90=q 55*q 20:=H 90 _ rfl;have e91:q 91=q 14+q 90:=H 91 _ rfl;have e92:q 92=q 55*q 21:=H 92 _ rfl;have e93:q 93=q 15+q 92:=H 93 _ rfl;have e94:q 94=q 55*q 22:=H 94 _ rfl;have e95:q 95=q 16+q 94:=H 95 _ rfl;have e96:q 96=q 85-q 91:=H 96 _ rfl;have e97:q 97=q 87-q 93:=H 97 _ rfl;have e98:q 98=q 89-q 95:=H 98 _ rfl;have e99:q 99=q 96*q 96:=H 99 _ rfl;have e100:q 100=q 97*q 97:=H 100 _ rfl;have e101:q 101=q 98*q 98:=H 101 _ rfl;have e102:q 102=q 99+q 100:=H 102 _ rfl;have e103:q 103=q 102+q 101:=H 103 _ rfl
 exact eD_pPz e9 e10 e11 e12 e13 e28 e29 e30 e45 e46 e47 e48 e49 e50 e51 e52 e53 e54 e55 e56 e57 e58 e59 e60 e61 e62 e63 e64 e70 e71 e72 e73 e74 e83 e84 e85 e86 e87 e88 e89 e90 e91 e92 e93 e94 e95 e96 e97 e98 e99 e100 e101 e102 e103
theorem eD_pNz {z6 z7 z8 z9 z10 z11 z12 z13 z20 z21 z22 z23 z24 z25 z26 z27 z31 z32 z33 z34 z35 z36 z37 z38 z39 z40 z41 z42 z43 z44 z65 z66 z67 z68 z69 z80 z81 z82 : Rat} : z9=z6*z6→z10=z7*z7→z11=z9+z10→z12=z8*z8→z13=z11+z12→z23=z20*z20→z24=z21*z21→z25=z23+z24→z26=z22*z22→z27=z25+z26→z31=z7*z22→z32=z8*z21→z33=z31-z32→z34=z8*z20→z35=z6*z22→z36=z34-z35→z37=z6*z21→z38=z7*z20→z39=z37-z38→z40=z33*z33→z41=z36*z36→z42=z40+z41→z43=z39*z39→z44=z42+z43→z65=z6*z20→z66=z7*z21→z67=z8*z22→z68=z65+z66→z69=z68+z67→z80=z13*z27→z81=z69*z69→z82=z80-z81→(¬ (z44=0))→(¬ (z82=0)) := by
 intro e9 e10 e11 e12 e13 e23 e24 e25 e26 e27 e31 e32 e33 e34 e35 e36 e37 e38 e39 e40 e41 e42 e43 e44 e65 e66 e67 e68 e69 e80 e81 e82
 intro h
 have q : z82=z44 := by clear h; subst_vars; grind
 exact fun k => h (q.symm.trans k)
theorem eD_pN (H : eD_Q q σ) : (¬ (q 44=0))→(¬ (q 82=0)) := by
 have e9:q 9=q 6*q 6:=H 9 _ rfl;have e10:q 10=q 7*q 7:=H 10 _ rfl;have e11:q 11=q 9+q 10:=H 11 _ rfl;have e12:q 12=q 8*q 8:=H 12 _ rfl;have e13:q 13=q 11+q 12:=H 13 _ rfl;have e23:q 23=q 20*q 20:=H 23 _ rfl;have e24:q 24=q 21*q 21:=H 24 _ rfl;have e25:q 25=q 23+q 24:=H 25 _ rfl;have e26:q 26=q 22*q 22:=H 26 _ rfl;have e27:q 27=q 25+q 26:=H 27 _ rfl;have e31:q 31=q 7*q 22:=H 31 _ rfl;have e32:q 32=q 8*q 21:=H 32 _ rfl;have e33:q 33=q 31-q 32:=H 33 _ rfl;have e34:q 34=q 8*q 20:=H 34 _ rfl;have e35:q 35=q 6*q 22:=H 35 _ rfl;have e36:q 36=q 34-q 35:=H 36 _ rfl;have e37:q 37=q 6*q 21:=H 37 _ rfl;have e38:q 38=q 7*q 20:=H 38 _ rfl;have e39:q 39=q 37-q 38:=H 39 _ rfl;have e40:q 40=q 33*q 33:=H 40 _ rfl;have e41:q 41=q 36*q 36:=H 41 _ rfl;have e42:q 42=q 40+q 41:=H 42 _ rfl;have e43:q 43=q 39*q 39:=H 43 _ rfl;have e44:q 44=q 42+q 43:=H 44 _ rfl;have e65:q 65=q 6*q 20:=H 65 _ rfl;have e66:q 66=q 7*q 21:=H 66 _ rfl;have e67:q 67=q 8*q 22:=H 67 _ rfl;have e68:q 68=q 65+q 66:=H 68 _ rfl;have e69:q 69=q 68+q 67:=H 69 _ rfl;have e80:q 80=q 13*q 27:=H 80 _ rfl;have e81:q 81=q 69*q 69:=H 81 _ rfl;have e82:q 82=q 80-q 81:=H 82 _ rfl
 exact eD_pNz e9 e10 e11 e12 e13 e23 e24 e25 e26 e27 e31 e32 e33 e34 e35 e36 e37 e38 e39 e40 e41 e42 e43 e44 e65 e66 e67 e68 e69 e80 e81 e82
theorem eD_pGz {z0 z1 z2 z6 z7 z8 z9 z10 z11 z12 z13 z14 z15 z16 z20 z21 z22 z23 z24 z25 z26 z27 z28 z29 z30 z31 z32 z33 z34 z35 z36 z37 z38 z39 z40 z41 z42 z43 z44 z55 z65 z66 z67 z68 z69 z70 z71 z72 z73 z74 z75 z76 z77 z78 z79 z80 z81 z82 z104 z105 z106 z107 z108 z109 z110 z111 z112 z113 z114 z115 z116 z117 z118 z119 z120 z121 z122 z123 z124 z125 z126 z127 z128 z129 z130 z131 z132 z133 z134 z135 z136 z137 z138 z139 z140 z141 z142 : Rat} : z9=z6*z6→z10=z7*z7→z11=z9+z10→z12=z8*z8→z13=z11+z12→z23=z20*z20→z24=z21*z21→z25=z23+z24→z26=z22*z22→z27=z25+z26→z28=z14-z0→z29=z15-z1→z30=z16-z2→z31=z7*z22→z32=z8*z21→z33=z31-z32→z34=z8*z20→z35=z6*z22→z36=z34-z35→z37=z6*z21→z38=z7*z20→z39=z37-z38→z40=z33*z33→z41=z36*z36→z42=z40+z41→z43=z39*z39→z44=z42+z43→z55=0→z65=z6*z20→z66=z7*z21→z67=z8*z22→z68=z65+z66→z69=z68+z67→z70=z6*z28→z71=z7*z29→z72=z8*z30→z73=z70+z71→z74=z73+z72→z75=z20*z28→z76=z21*z29→z77=z22*z30→z78=z75+z76→z79=z78+z77→z80=z13*z27→z81=z69*z69→z82=z80-z81→z104=z33*z28→z105=z55+z104→z106=z36*z29→z107=z105+z106→z108=z39*z30→z109=z107+z108→z110=z109*z109→z111=z55+z40→z112=z111+z41→z113=z112+z43→z114=z110/z113→z115=z74*z27→z116=z69*z79→z117=z115-z116→z118=z117/z82→z119=z69*z74→z120=z13*z79→z121=z119-z120→z122=z121/z82→z123=z118*z6→z124=z0+z123→z125=z118*z7→z126=z1+z125→z127=z118*z8→z128=z2+z127→z129=z122*z20→z130=z14+z129→z131=z122*z21→z132=z15+z131→z133=z122*z22→z134=z16+z133→z135=z124-z130→z136=z126-z132→z137=z128-z134→z138=z135*z135→z139=z136*z136→z140=z137*z137→z141=z138+z139→z142=z141+z140→(¬ (z44=0))→(z114=z142) := by
 intro e9 e10 e11 e12 e13 e23 e24 e25 e26 e27 e28 e29 e30 e31 e32 e33 e34 e35 e36 e37 e38 e39 e40 e41 e42 e43 e44 e55 e65 e66 e67 e68 e69 e70 e71 e72 e73 e74 e75 e76 e77 e78 e79 e80 e81 e82 e104 e105 e106 e107 e108 e109 e110 e111 e112 e113 e114 e115 e116 e117 e118 e119 e120 e121 e122 e123 e124 e125 e126 e127 e128 e129 e130 e131 e132 e133 e134 e135 e136 e137 e138 e139 e140 e141 e142
 intro h
 have hd0 : z82=z44 := by clear h; subst_vars; grind
 have n : z82 ≠ 0 := fun k => h (hd0.symm.trans k)
 have hd : z113=z82 := by rw [hd0]; clear h n hd0 e114; subst_vars; grind
 clear hd0
 have dx : z118*z82=z117 := by rw [e118]; exact Rat.div_mul_cancel n
 have dy : z122*z82=z121 := by rw [e122]; exact Rat.div_mul_cancel n
 have c := sp_apart (D := z82) (x := z118) (y := z122) (h := z109) (u1 := z6) (u2 := z7) (u3 := z8) (v1 := z20) (v2 := z21) (v3 := z22) (w1 := z28) (w2 := z29) (w3 := z30) n (by clear n h hd e118 e122 e114 dx dy; subst_vars; grind) (by rw [dx]; clear n h hd e118 e122 e114 dx dy; subst_vars; grind) (by rw [dy]; clear n h hd e118 e122 e114 dx dy; subst_vars; grind) (by clear n h hd e118 e122 e114 dx dy; subst_vars; grind)
 have q : z142*z82=z110 := by
  rw [e110,← c]; clear n h hd e118 e122 e114 c dx dy; clear e9 e10 e11 e12 e13 e23 e24 e25 e26 e27 e31 e32 e33 e34 e35 e36 e37 e38 e39 e55 e65 e66 e67 e68 e69 e80 e81 e82 e104 e105 e106 e107 e108 e109 e110; subst_vars; grind
 rw [e114,hd,← q,Rat.div_def,Rat.mul_assoc,Rat.mul_inv_cancel _ n,Rat.mul_one]
theorem eD_pG (H : eD_Q q σ) : (¬ (q 44=0))→(q 114=q 142) := by
 have e9:q 9=q 6*q 6:=H 9 _ rfl;have e10:q 10=q 7*q 7:=H 10 _ rfl;have e11:q 11=q 9+q 10:=H 11 _ rfl;have e12:q 12=q 8*q 8:=H 12 _ rfl;have e13:q 13=q 11+q 12:=H 13 _ rfl;have e23:q 23=q 20*q 20:=H 23 _ rfl;have e24:q 24=q 21*q 21:=H 24 _ rfl;have e25:q 25=q 23+q 24:=H 25 _ rfl;have e26:q 26=q 22*q 22:=H 26 _ rfl;have e27:q 27=q 25+q 26:=H 27 _ rfl;have e28:q 28=q 14-q 0:=H 28 _ rfl;have e29:q 29=q 15-q 1:=H 29 _ rfl;have e30:q 30=q 16-q 2:=H 30 _ rfl;have e31:q 31=q 7*q 22:=H 31 _ rfl;have e32:q 32=q 8*q 21:=H 32 _ rfl;have e33:q 33=q 31-q 32:=H 33 _ rfl;have e34:q 34=q 8*q 20:=H 34 _ rfl;have e35:q 35=q 6*q 22:=H 35 _ rfl;have e36:q 36=q 34-q 35:=H 36 _ rfl;have e37:q 37=q 6*q 21:=H 37 _ rfl;have e38:q 38=q 7*q 20:=H 38 _ rfl;have e39:q 39=q 37-q 38:=H 39 _ rfl;have e40:q 40=q 33*q 33:=H 40 _ rfl;have e41:q 41=q 36*q 36:=H 41 _ rfl;have e42:q 42=q 40+q 41:=H 42 _ rfl;have e43:q 43=q 39*q 39:=H 43 _ rfl;have e44:q 44=q 42+q 43:=H 44 _ rfl;have e55:q 55=0:=(H 55 _ rfl).trans eD_c55;have e65:q 65=q 6*q 20:=H 65 _ rfl;have e66:q 66=q 7*q 21:=H 66 _ rfl;have e67:q 67=q 8*q 22:=H 67 _ rfl;have e68:q 68=q 65+q 66:=H 68 _ rfl;have e69:q 69=q 68+q 67:=H 69 _ rfl;have e70:q 70=q 6*q 28:=H 70 _ rfl;have e71:q 71=q 7*q 29:=H 71 _ rfl;have e72:q 72=q 8*q 30:=H 72 _ rfl;have e73:q 73=q 70+q 71:=H 73 _ rfl;have e74:q 74=q 73+q 72:=H 74 _ rfl;have e75:q 75=q 20*q 28:=H 75 _ rfl;have e76:q 76=q 21*q 29:=H 76 _ rfl;have e77:q 77=q 22*q 30:=H 77 _ rfl;have e78:q 78=q 75+q 76:=H 78 _ rfl;have e79:q 79=q 78+q 77:=H 79 _ rfl;have e80:q 80=q 13*q 27:=H 80 _ rfl;have e81:q 81=q 69*q 69:=H 81 _ rfl;have e82:q 82=q 80-q 81:=H 82 _ rfl;have e104:q 104=q 33*q 28:=H 104 _ rfl;have e105:q 105=q 55+q 104:=H 105 _ rfl;have e106:q 106=q 36*q 29:=H 106 _ rfl;have e107:q 107=q 105+q 106:=H 107 _ rfl;have e108:q 108=q 39*q 30:=H 108 _ rfl;have e109:q 109=q 107+q 108:=H 109 _ rfl;have e110:q 110=q 109*q 109:=H 110 _ rfl;have e111:q 111=q 55+q 40:=H 111 _ rfl;have e112:q 112=q 111+q 41:=H 112 _ rfl;have e113:q 113=q 112+q 43:=H 113 _ rfl;have e114:q 114=q 110/q 113:=H 114 _ rfl;have e115:q 115=q 74*q 27:=H 115 _ rfl;have e116:q 116=q 69*q 79:=H 116 _ rfl;have e117:q 117=q 115-q 116:=H 117 _ rfl;have e118:q 118=q 117/q 82:=H 118 _ rfl;have e119:q 119=q 69*q 74:=H 119 _ rfl;have e120:q 120=q 13*q 79:=H 120 _ rfl;have e121:q 121=q 119-q 120:=H 121 _ rfl;have e122:q 122=q 121/q 82:=H 122 _ rfl;have e123:q 123=q 118*q 6:=H 123 _ rfl;have e124:q 124=q 0+q 123:=H 124 _ rfl;have e125:q 125=q 118*q 7:=H 125 _ rfl;have e126:q 126=q 1+q 125:=H 126 _ rfl;have e127:q 127=q 118*q 8:=H 127 _ rfl;have e128:q 128=q 2+q 127:=H 128 _ rfl;have e129:q 129=q 122*q 20:=H 129 _ rfl;have e130:q 130=q 14+q 129:=H 130 _ rfl;have e131:q 131=q 122*q 21:=H 131 _ rfl;have e132:q 132=q 15+q 131:=H 132 _ rfl;have e133:q 133=q 122*q 22:=H 133 _ rfl;have e134:q 134=q 16+q 133:=H 134 _ rfl;have e135:q 135=q 124-q 130:=H 135 _ rfl;have e136:q 136=q 126-q 132:=H 136 _ rfl;have e137:q 137=q 128-q 134:=H 137 _ rfl;have e138:q 138=q 135*q 135:=H 138 _ rfl;have e139:q 139=q 136*q 136:=H 139 _ rfl;have e140:q 140=q 137*q 137:=H 140 _ rfl;have e141:q 141=q 138+q 139:=H 141 _ rfl;have e142:q 142=q 141+q 140:=H 142 _ rfl
 exact eD_pGz e9 e10 e11 e12 e13 e23 e24 e25 e26 e27 e28 e29 e30 e31 e32 e33 e34 e35 e36 e37 e38 e39 e40 e41 e42 e43 e44 e55 e65 e66 e67 e68 e69 e70 e71 e72 e73 e74 e75 e76 e77 e78 e79 e80 e81 e82 e104 e105 e106 e107 e108 e109 e110 e111 e112 e113 e114 e115 e116 e117 e118 e119 e120 e121 e122 e123 e124 e125 e126 e127 e128 e129 e130 e131 e132 e133 e134 e135 e136 e137 e138 e139 e140 e141 e142
theorem eD_r0 : (callC (sx Tryz.prog eD_N [(0,13,0,1)] [] eD_L eD_C eD_Z (prC [9])) [(93,60),(51,61),(36,65)] 5 [] 5 eD_A [] 0).map (·.1)=some (kB true) := by kernel_rfl
theorem eD_r1 : (callC (sx Tryz.prog eD_N [(0,13,0,0),(0,27,0,1)] [] eD_L eD_C eD_Z (prC [9])) [(93,60),(51,61),(36,65)] 5 [] 5 eD_A [] 0).map (·.1)=some (kB true) := by kernel_rfl
theorem eD_r2 : (callC (sx Tryz.prog eD_N [(0,13,0,0),(0,27,0,0),(0,44,0,1),(0,82,0,1),(3,64,103,1)] [] eD_L eD_C eD_Z (prC [9])) [(93,60),(51,61),(36,65)] 6 [] 5 eD_A [] 0).map (·.1)=some (kB true) := by kernel_rfl
theorem eD_r3 : (callC (sx Tryz.prog eD_N [(0,13,0,0),(0,27,0,0),(0,44,0,0),(0,82,0,0),(3,114,142,1)] [] eD_L eD_C eD_Z (prC [9])) [(93,60),(51,61),(36,65)] 6 [] 5 eD_A [] 0).map (·.1)=some (kB true) := by kernel_rfl
theorem eD_An {a b : Prop} (x : a) (y : b) : a∧b := ⟨x,y⟩
theorem eD_leaf {H : List (Nat × Nat × Nat × Nat)} {K : List (FuncId × List AC)} {k : Nat} {q : Nat→Rat} {σ : Nat→ByteArray} {args : List AV} {vs : List Value} {w : World} (hr : (callC (sx Tryz.prog eD_N H K eD_L eD_C eD_Z (prC [9])) [(93,60),(51,61),(36,65)] k [] 5 args [] 0).map (·.1)=some (kB true)) (hσ : ∀ j,(σ j).size≤1048576) (hq : ∀ (a : Nat) nd,eD_N[a]? = some nd→q a=valN σ q nd) (h0 : ∀ a,eD_N.length≤a→q a=0) (hH : hAll q H) (hp : PreS w) (hA : ∀ K,A2 (avOn (cOn (evS q σ) K (fun _ => none) w)) args vs) : Calls Tryz.prog 5 vs.toArray w fun e w' => Below w.heap.size w w'∧e=.returned (.bool true) :=
 run_toldC' k (hy_ofA hσ eD_wf eD_sz eD_lt eD_cn hq h0 hH) (by simp [closed_spaced]) (by kernel_rfl) hr hp (hA K)
theorem eD_walk {w : World} {kx ky kz lx ly lz nx ny nz ux uy uz : ByteArray}  (skx : kx.size≤1048576) (sky : ky.size≤1048576) (skz : kz.size≤1048576) (slx : lx.size≤1048576) (sly : ly.size≤1048576) (slz : lz.size≤1048576) (snx : nx.size≤1048576) (sny : ny.size≤1048576) (snz : nz.size≤1048576) (sux : ux.size≤1048576) (suy : uy.size≤1048576) (suz : uz.size≤1048576) (tab : Tab w) (mx : MaxL w) :
  Calls Tryz.prog 5 #[.agg #[.string kx,.string ky,.string kz],.agg #[.string lx,.string ly,.string lz],.agg #[.string nx,.string ny,.string nz],.agg #[.string ux,.string uy,.string uz]] w fun e w' => Below w.heap.size w w'∧e=.returned (.bool true) := by
 have hσ : ∀ j,(sgOf [kx,ky,kz,lx,ly,lz,nx,ny,nz,ux,uy,uz] j).size≤1048576 := sgOf_size (by simp [skx,sky,skz,slx,sly,slz,snx,sny,snz,sux,suy,suz])
 obtain ⟨q,hq,h0⟩ := nodes_exist (sgOf [kx,ky,kz,lx,ly,lz,nx,ny,nz,ux,uy,uz]) eD_N eD_wf
 have hA : ∀ K,A2 (avOn (cOn (evS q (sgOf [kx,ky,kz,lx,ly,lz,nx,ny,nz,ux,uy,uz])) K (fun _ => none) w)) [(false,[(true,[.inr (2,0,0,0,0),.inr (2,1,0,0,0),.inr (2,2,0,0,0)])]),(false,[(true,[.inr (2,3,0,0,0),.inr (2,4,0,0,0),.inr (2,5,0,0,0)])]),(false,[(true,[.inr (2,6,0,0,0),.inr (2,7,0,0,0),.inr (2,8,0,0,0)])]),(false,[(true,[.inr (2,9,0,0,0),.inr (2,10,0,0,0),.inr (2,11,0,0,0)])])] [.agg #[.string kx,.string ky,.string kz],.agg #[.string lx,.string ly,.string lz],.agg #[.string nx,.string ny,.string nz],.agg #[.string ux,.string uy,.string uz]] := fun K => ⟨⟨⟨[.string kx,.string ky,.string kz],rfl,rfl,rfl,rfl,trivial⟩,trivial⟩,⟨⟨[.string lx,.string ly,.string lz],rfl,rfl,rfl,rfl,trivial⟩,trivial⟩,⟨⟨[.string nx,.string ny,.string nz],rfl,rfl,rfl,rfl,trivial⟩,trivial⟩,⟨⟨[.string ux,.string uy,.string uz],rfl,rfl,rfl,rfl,trivial⟩,trivial⟩,trivial⟩
 by_cases b13 : q 13=0
 ·
  exact eD_leaf eD_r0 hσ hq h0 (eD_An (hT b13) trivial) ⟨tab,mx⟩ hA
 ·
  by_cases b27 : q 27=0
  ·
   exact eD_leaf eD_r1 hσ hq h0 (eD_An (hF b13) (eD_An (hT b27) trivial)) ⟨tab,mx⟩ hA
  ·
   by_cases b44 : q 44=0
   ·
    have gT := eD_pT hq b44
    have b82 : q 82=0 := gT
    have gP := eD_pP hq b13
    have a_3_64_103 : q 64=q 103 := gP
    exact eD_leaf eD_r2 hσ hq h0 (eD_An (hF b13) (eD_An (hF b27) (eD_An (hT b44) (eD_An (hT b82) (eD_An (hT a_3_64_103) trivial))))) ⟨tab,mx⟩ hA
   ·
    have gN := eD_pN hq b44
    have b82 : ¬ (q 82=0) := gN
    have gG := eD_pG hq b44
    have a_3_114_142 : q 114=q 142 := gG
    exact eD_leaf eD_r3 hσ hq h0 (eD_An (hF b13) (eD_An (hF b27) (eD_An (hF b44) (eD_An (hF b82) (eD_An (hT a_3_114_142) trivial))))) ⟨tab,mx⟩ hA
end Go.Proofs.YtikldelfdioimaaGreatDoor
