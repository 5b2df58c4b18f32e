/- Part 13 of the walks and of the mathematics under them: VP VPC VPD VPE VY VSZ VSA CFspaced MEMRA MEMR1 MEMR2 MEMR3 MEMR4 MEMR5 MEMR6 MEM. -/
import Derived.Test.YtikldelfdioimaaGreatDoorA2
import Derived.Test.YtikldelfdioimaaGreatDoorA12
set_option maxHeartbeats 16000000
set_option maxRecDepth 100000
/- VP -/
namespace Cx
open Go Go.RowKit
abbrev Hs := List (Nat × Nat × Nat × Nat)
def Sx.plus (S : Sx) (X : Hs) : Sx := { S with H := X ++ S.H }
abbrev Ask := Nat × Nat × Nat × Nat
def askZ (a : Nat) : Ask := (0,a,0,a)
def askOk (S : Sx) : Ask→Bool
 | (k,a,b,d) => (Nat.beq k 0 && (Nat.beq b 0 && Nat.beq d a)) || (Nat.beq k 3 && (match S.N[d]? with
  | some (op,ar) => Nat.beq op 3 && beqL ar [a,b]
  | none => false))
def acrossB (S : Sx) (a b : Nat) : List Nat→List Nat→Option (List Ask)
 | c :: l,d :: m => (S.nd 4 [a,d]).bind fun x => (S.nd 4 [c,b]).bind fun y => (S.nd 3 [x,y]).bind fun z => (acrossB S a b l m).map fun r => (3,x,y,z) :: r
 | _,_ => some []
def alikeB (S : Sx) : List Nat→List Nat→List Nat→List Nat→Option (List Ask)
 | pl,pm,a :: l,b :: m => (acrossB S a b pl pm).bind fun r => (alikeB S (pl ++ [a]) (pm ++ [b]) l m).map fun t => r ++ t
 | _,_,_,_ => some []
def sameA (S : Sx) : List Nat→List Nat→Option (List Ask)
 | a :: l,b :: m => (S.nd 3 [a,b]).bind fun d => (sameA S l m).map fun r => (3,a,b,d) :: r
 | _,_ => some []
def asks (S : Sx) (h : List HB) (code : Nat) (args : List AV) : Option (List Ask) :=
 match code with
 | 60 => arg1 (fun x => (asA x).bind fun cs => (qRow S cs).map fun l => l.map askZ) args
 | 61 => arg1 (fun x => (rowB h 1 x).bind fun p => (mapO (acX 0) p.2).map fun l => l.map askZ) args
 | 62 => arg2 (fun x y => (rowB h 1 x).bind fun p => (mapO (acX 0) p.2).bind fun l => (rowB h 1 y).bind fun p' => (mapO (acX 0) p'.2).bind fun m => alikeB S [] [] l m) args
 | 63 => arg1 (fun x => (asA x).bind fun cs => (mapO acTold cs).bind fun l => (plainOf S l).map fun xs => xs.map askZ) args
 | 69 => arg1 (fun x => (asA x).bind fun cs => (mapO (txNode S) cs).map fun l => l.map askZ) args
 | 67 => arg1 (fun x => (asA x).bind fun cs => (mapO (txNode S) (cs.take 3)).map fun l => l.map askZ) args
 | 65 => arg1 (fun x => (asA x).bind fun cs => (mapO (acX 0) cs).map fun l => l.map askZ) args
 | 66 => arg2 (fun x y => (asA x).bind fun cs => (asA y).bind fun ds => (mapO (acX 0) cs).bind fun l => (mapO (acX 0) ds).bind fun m => sameA S l m) args
 | 64 => arg1 (fun x => (asA x).bind fun cs => (qRow S cs).map fun l => (l.take 5).map askZ) args
 | 68 => arg2 (fun x _ => (asA x).bind fun cs => (qRow S cs).map fun l => (l.take 5).map askZ) args
 | _ => none
def splits : List Ask→Hs→List Hs
 | [],_ => []
 | (k,a,b,_) :: l,X => ((k,a,b,0) :: X) :: splits l ((k,a,b,1) :: X)
def allZ : List Ask→Hs→Hs
 | [],X => X
 | (k,a,b,_) :: l,X => allZ l ((k,a,b,1) :: X)
def bodyC (S : Sx) (call : CallF) : CallF := fun f args h nx => S.P.funcs[f]?.bind fun fn => fn.body.bind fun c => ifO (Nat.ble args.length fn.ntmps) ((runB S call fn.ntmps c { tm := numb1 0 args,h := h,nx := nx }).bind fun r =>
   ifO (Nat.ble r.1 1) ((mapO (resB S.P r.2) fn.results.toList).map fun xs => (tupB xs,r.2.h,r.2.nx)))
abbrev CRes := Option (AV × List HB × Nat)
def acZ : AC→Option Nat
 | .inr (k,j,a,x,y) => ifO (Nat.beq k 0 && (Nat.beq j 7 && (Nat.beq x 0 && Nat.beq y 0))) (some a)
 | _ => none
def weakV (S : Sx) (v : AV) : AV := match (asC v).bind (acX 4) with
 | some n => (match S.N[n]? with
  | some (_,[a,b]) => (match S.nd 4 [a,b],S.kn 0 a 0 with
   | some m,some r => bif Nat.beq m n && !Nat.beq 1 r then v1 (.inr (0,7,b,0,0)) else v
   | _,_ => v)
  | _ => v)
 | none => v
def weakR (S : Sx) (r : CRes) : CRes := r.map fun p => (weakV S p.1,p.2)
def ansK (v : AV) : Option (Bool ⊕ Nat) := match asB v with
 | some b => some (.inl b)
 | none => ((asC v).bind acZ).map .inr
def kAns : Bool ⊕ Nat→AV
 | .inl b => kB b
 | .inr a => v1 (.inr (0,7,a,0,0))
def sameK : Bool ⊕ Nat→Bool ⊕ Nat→Bool
 | .inl b,.inl c => b == c
 | .inr a,.inr b => Nat.beq a b
 | _,_ => false
def agree (h : List HB) (b : Bool ⊕ Nat) (hi : Nat) : CRes→Bool
 | some (v,h',nx') => (match ansK v with
  | some c => sameK b c
  | none => false) && (Nat.ble nx' hi && h.all fun x => h'.any fun y => Nat.beq y.1 x.1 && acsW x.2 y.2)
 | none => false
def topN : Nat→List CRes→Nat
 | m,[] => m
 | m,some p :: rs => topN (bif Nat.ble m p.2.2 then p.2.2 else m) rs
 | m,none :: rs => topN m rs
def joinC (h : List HB) (nx : Nat) (rs : List CRes) : CRes :=
 match rs with
 | some p :: _ => (ansK p.1).bind fun b => ifO (rs.all (agree h b (topN nx rs))) (some (kAns b,h,topN nx rs))
 | _ => none
def askIt (S : Sx) (X : Hs) (h : List HB) (c : Nat) (args : List AV) : Option (List Ask × Nat) :=
 (asks (S.plus X) h c args).bind fun l => ifO (l.all (askOk S)) ((sqN S (l.map (·.2.2.2))).bind fun s => ((S.plus X).kn 0 s 0).map fun r => (l,r))
theorem askIt_some {S : Sx} {X : Hs} {h : List HB} {c : Nat} {args : List AV} {l : List Ask} {r : Nat} (e : askIt S X h c args=some (l,r)) : (∀ a ∈ l,askOk S a=true)∧∃ s,sqN S (l.map (·.2.2.2))=some s∧(S.plus X).kn 0 s 0=some r := by
 unfold askIt at e
 simp only [Option.bind_eq_some_iff,ifO_some,Option.map_eq_some_iff,List.all_eq_true,Prod.mk.injEq] at e
 obtain ⟨l',_,h1,s,h2,r',h3,rfl,rfl⟩ := e
 exact ⟨h1,s,h2,h3⟩
def callC (S : Sx) (cs : List (FuncId × Nat)) : Nat→Hs→CallF
 | 0,_,_,_,_,_ => none
 | n+1,X,f,args,h,nx => match prGet f cs with
  | none => bodyC (S.plus X) (callC S cs n X) f args h nx
  | some c => match askIt S X h c args with
   | none => bodyC (S.plus X) (callC S cs n X) f args h nx
   | some (l,r) => bif Nat.beq 1 r then bodyC (S.plus (allZ l X)) (callC S cs n (allZ l X)) f args h nx
    else joinC h nx ((splits l X).map fun X' => weakR (S.plus X') (bodyC (S.plus X') (callC S cs n X') f args h nx))
section
variable {S : Sx} {E : Ev S.nb} {w0 : World}
theorem bodyC_ok {call : CallF} (hm : S.P.follows .mixedOrders=true) (N : Knows S E) (hP : PrimOk S E w0) (hC : CallOk S E w0 call) : CallOk S E w0 (bodyC S call) := fun f args h nx p hp γ w vs hi hA hb hlt hf => by
 unfold bodyC at hp
 simp only [Option.bind_eq_some_iff,ifO_some,Option.map_eq_some_iff,Nat.ble_eq] at hp
 obtain ⟨fn,h1,c,h2,h3,⟨e,s'⟩,h4,h5,xs,h6,rfl⟩ := hp
 dsimp only at h5 h6
 rcases (show e=0 ∨ e=1 by omega) with rfl | rfl
 all_goals
  obtain ⟨_,_,r⟩ := runB_ok hm N hP hC c _ _ _ h4
  refine calls_of_wp h1 h2 (r γ _ w _ ⟨hi,fun t v q => ?_,hb,hlt,?_,rfl⟩ hf fun a' w' γ' hef hs => ?_)
  ·obtain ⟨_,q2⟩ := numb1_get q
   rw [Nat.sub_zero] at q2
   obtain ⟨u,hu,hv⟩ := hA.get q2
   have hlt : t < vs.length := (List.getElem?_eq_some_iff.1 hu).1
   have : (vs.toArray ++ Array.replicate (fn.ntmps - vs.toArray.size) undef).getD t undef=u := by
    rw [Array.getD_eq_getD_getElem?,Array.getElem?_append_left (by simpa using hlt)]
    simp [hu]
   show avOn _ v ((vs.toArray ++ Array.replicate (fn.ntmps - vs.toArray.size) undef).getD t undef)
   rw [this]
   exact hv
  ·have := hA.len
   simp
   omega
  ·obtain ⟨v,hv,hx⟩ := results_run hs h6
   exact ⟨hs.df,v,hv,v,γ',rfl,hef,hx,hs.bx⟩
theorem asB_kB {v : AV} {b : Bool} (h : asB v=some b) : v=kB b := by
 unfold asB at h
 rw [Option.bind_eq_some_iff] at h
 obtain ⟨c,h1,h2⟩ := h
 unfold asC at h1
 split at h1
 ·cases h1
  unfold acB at h2
  split at h2
  ·cases h2
   rfl
  ·cases h2
 ·cases h1
theorem ansK_eq {v : AV} {k : Bool ⊕ Nat} (h : ansK v=some k) : v=kAns k := by
 unfold ansK at h
 split at h
 ·rename_i b hb
  cases h
  exact asB_kB hb
 ·rw [Option.map_eq_some_iff] at h
  obtain ⟨a,h,rfl⟩ := h
  rw [Option.bind_eq_some_iff] at h
  obtain ⟨c,h1,h2⟩ := h
  unfold asC at h1
  split at h1
  ·cases h1
   unfold acZ at h2
   split at h2
   ·rw [ifO_some,Bool.and_eq_true,Bool.and_eq_true,Bool.and_eq_true,Nat.beq_eq,Nat.beq_eq,Nat.beq_eq,Nat.beq_eq] at h2
    obtain ⟨⟨rfl,rfl,rfl,rfl⟩,h3⟩ := h2
    cases h3
    rfl
   ·cases h2
  ·cases h1
theorem sameK_eq {a b : Bool ⊕ Nat} (h : sameK a b=true) : a=b := by
 unfold sameK at h
 split at h
 ·rename_i x y
  have : x=y := by simpa using h
  rw [this]
 ·rw [Nat.beq_eq] at h
  rw [h]
 ·cases h
theorem sgnZ_zero (q : Rat) : sgnZ q=0 ↔ q=0 := by
 unfold sgnZ
 split
 ·rename_i hlt
  constructor
  ·intro q; cases q
  ·intro q; rw [q] at hlt; exact absurd hlt (by decide)
 ·split <;> simp_all
theorem weakV_on (N : Knows S E) {γ : Nat→Option Nat} {w : World} {v : AV} {r : Value} (h : avOn (cOn E S.K γ w) v r) : avOn (cOn E S.K γ w) (weakV S v) r := by
 unfold weakV
 split
 ·rename_i n hn
  rw [Option.bind_eq_some_iff] at hn
  obtain ⟨c,h1,h2⟩ := hn
  split
  ·split
   ·rename_i a b _ _ _ m r' hm hr
    cases e : (Nat.beq m n && !Nat.beq 1 r') with
    | true =>
     rw [Bool.and_eq_true,Nat.beq_eq,Bool.not_eq_true'] at e
     obtain ⟨rfl,e2⟩ := e
     have ez := (N.x4 _ _ _).1 (acX_on h2 (asC_on h1 h))
     refine v1_on ((N.x7 _ _ _).2 ⟨_,ez,?_⟩)
     have hz : ¬ E.q a=0 := fun q => by rw [(N.k0 a r' hr).2 q] at e2; cases e2
     rw [sgnZ_zero,N.k7 _ _ _ hm]
     constructor
     ·exact fun q => (Rat.mul_eq_zero.1 q).resolve_left hz
     ·intro q
      rw [q,Rat.mul_zero]
    | false => exact h
   ·exact h
  ·exact h
 ·exact h
theorem weak_ok {X : Hs} {call : CallF} (N : Knows (S.plus X) E) (hC : CallOk S E w0 call) : CallOk S E w0 (fun f args h nx => weakR (S.plus X) (call f args h nx)) := fun f args h nx p hp => by
 replace hp : weakR (S.plus X) (call f args h nx)=some p := hp
 unfold weakR at hp
 rw [Option.map_eq_some_iff] at hp
 obtain ⟨p0,hp0,rfl⟩ := hp
 intro γ w vs hi hA hb hlt hf
 refine (hC f args h nx p0 hp0 γ w vs hi hA hb hlt hf).mono ?_
 rintro _ w' ⟨r',γ',rfl,hef,hv,hx⟩
 exact ⟨r',γ',rfl,hef,weakV_on (S := S.plus X) N hv,hx⟩
theorem agree_some {h : List HB} {b : Bool ⊕ Nat} {hi : Nat} {r : CRes} (hr : agree h b hi r=true) : ∃ h' nx',r=some (kAns b,h',nx')∧nx'≤hi∧∀ x ∈ h,x ∈ h' := by
 unfold agree at hr
 split at hr
 ·rename_i v h' nx'
  rw [Bool.and_eq_true,Bool.and_eq_true,Nat.ble_eq,List.all_eq_true] at hr
  obtain ⟨h1,h2,h3⟩ := hr
  refine ⟨h',nx',?_,h2,fun x hx => ?_⟩
  ·split at h1
   ·rename_i c hc
    rw [ansK_eq hc,sameK_eq h1]
   ·cases h1
  ·have := h3 x hx
   rw [List.any_eq_true] at this
   obtain ⟨y,hy,e⟩ := this
   rw [Bool.and_eq_true,Nat.beq_eq] at e
   have : x=y := Prod.ext e.1.symm (acsW_eq e.2)
   rw [this]
   exact hy
 ·cases hr
variable {T : Hs→Prop} {z : Nat→Prop}
def AskTrue (S : Sx) (T : Hs→Prop) (z : Nat→Prop) : Prop := ∀ X,T X→∀ a,askOk S a=true→(z a.2.2.2→T ((a.1,a.2.1,a.2.2.1,1) :: X))∧(¬ z a.2.2.2→T ((a.1,a.2.1,a.2.2.1,0) :: X))
theorem allZ_true (hk : AskTrue S T z) : ∀ {l : List Ask} {X : Hs},T X→(∀ a ∈ l,askOk S a=true)→(∀ a ∈ l,z a.2.2.2)→T (allZ l X)
 | [],_,h,_,_ => h
 | (k,a,b,d) :: l,X,h,ho,hz => allZ_true (l := l) hk ((hk X h (k,a,b,d) (ho _ List.mem_cons_self)).1 (hz _ List.mem_cons_self)) (fun a ha => ho a (List.mem_cons_of_mem _ ha)) (fun a ha => hz a (List.mem_cons_of_mem _ ha))
theorem splits_true (hk : AskTrue S T z) : ∀ {l : List Ask} {X : Hs},T X→(∀ a ∈ l,askOk S a=true)→(∃ a ∈ l,¬ z a.2.2.2)→∃ X' ∈ splits l X,T X'
 | [],_,_,_,⟨_,h,_⟩ => by cases h
 | (k,a,b,d) :: l,X,h,ho,hz => by
  by_cases e : z d
  ·obtain ⟨X',h1,h2⟩ := splits_true (l := l) hk ((hk X h (k,a,b,d) (ho _ List.mem_cons_self)).1 e) (fun a ha => ho a (List.mem_cons_of_mem _ ha)) (by
    obtain ⟨c,hc,hn⟩ := hz
    rcases List.mem_cons.1 hc with rfl | hc
    ·exact (hn e).elim
    ·exact ⟨c,hc,hn⟩)
   exact ⟨X',List.mem_cons_of_mem _ h1,h2⟩
  ·exact ⟨_,List.mem_cons_self,(hk X h (k,a,b,d) (ho _ List.mem_cons_self)).2 e⟩
theorem callC_ok {cs : List (FuncId × Nat)} (hm : S.P.follows .mixedOrders=true) (hN : ∀ X,T X→Knows (S.plus X) E) (hP : ∀ X,T X→PrimOk (S.plus X) E w0) (hk : AskTrue S T z)
  (hs : ∀ X,T X→∀ l s r,sqN S l=some s→(S.plus X).kn 0 s 0=some r→(Nat.beq 1 r=true→∀ d ∈ l,z d)∧(Nat.beq 1 r=false→∃ d ∈ l,¬ z d)) : ∀ n X,T X→CallOk S E w0 (callC S cs n X)
 | 0,_,_ => fun _ _ _ _ _ h => by cases h
 | n+1,X,hX => fun f args h nx p hp => by
  have body : ∀ Y,T Y→CallOk S E w0 (bodyC (S.plus Y) (callC S cs n Y)) := fun Y hY => bodyC_ok (S := S.plus Y) hm (hN Y hY) (hP Y hY) (callC_ok hm hN hP hk hs n Y hY)
  unfold callC at hp
  split at hp
  ·exact body X hX f args h nx p hp
  ·split at hp
   ·exact body X hX f args h nx p hp
   rename_i l r hk'
   obtain ⟨hl,s,h1,h2⟩ := askIt_some hk'
   have h3 := hp
   obtain ⟨a1,a0⟩ := hs X hX _ s r h1 h2
   cases e : Nat.beq 1 r with
   | true =>
    rw [e] at h3
    exact body _ (allZ_true hk hX hl fun a ha => a1 e _ (List.mem_map_of_mem ha)) f args h nx p h3
   | false =>
    rw [e] at h3
    obtain ⟨d,hd,hz⟩ := a0 e
    obtain ⟨a,ha,rfl⟩ := List.mem_map.1 hd
    obtain ⟨X',m1,m2⟩ := splits_true hk hX hl ⟨a,ha,hz⟩
    replace h3 : joinC h nx ((splits l X).map fun X' => weakR (S.plus X') (bodyC (S.plus X') (callC S cs n X') f args h nx))=some p := h3
    unfold joinC at h3
    split at h3
    ·rename_i p0 rs hrs
     rw [Option.bind_eq_some_iff] at h3
     obtain ⟨b,hb,h4⟩ := h3
     rw [ifO_some,List.all_eq_true] at h4
     obtain ⟨h5,h6⟩ := h4
     cases h6
     obtain ⟨h',nx',q1,q2,q3⟩ := agree_some (h5 _ (List.mem_map_of_mem m1))
     intro γ w vs hi hA hb hlt hf
     refine (weak_ok (hN X' m2) (body X' m2) f args h nx _ q1 γ w vs hi hA hb hlt fun b g1 g2 => hf b g1 (Nat.lt_of_lt_of_le g2 q2)).mono ?_
     rintro _ w' ⟨r',γ',rfl,hef,hv,hx⟩
     exact ⟨r',γ',rfl,hef.wide (Nat.le_refl _) q2,hv,fun x hh => hx x (q3 x hh)⟩
    ·cases h3
end
end Cx
/- VPC -/
namespace Go.Proofs.YtikldelfdioimaaGreatDoor
open Cx Go Go.RowKit
section
variable {N : List Nd} {H : List (Nat × Nat × Nat × Nat)} {K : List (FuncId × List AC)} {L C : List (List Nat × Nat)} {Z : List Nat} {q : Nat→Rat} {σ : Nat→ByteArray} {w0 : World} {cl : List FuncId} {cs pr : List (FuncId × Nat)}
theorem kn_cons {k a b k' a' b' r' : Nat} {r : Nat} (h : knFrom k a b ((k',a',b',r') :: H)=some r) : (k=k'∧a=a'∧b=b'∧r=r') ∨ knFrom k a b H=some r := by
 unfold knFrom at h
 cases e : (Nat.beq k k' && (Nat.beq a a' && Nat.beq b b')) with
 | true =>
  rw [e] at h
  simp only [Bool.and_eq_true,Nat.beq_eq] at e
  exact Or.inl ⟨e.1,e.2.1,e.2.2,(Option.some.inj h).symm⟩
 | false =>
  rw [e] at h
  exact Or.inr h
theorem Hy.add0 (Y : Hy N H L C Z q σ) {a r : Nat} (h : Nat.beq 1 r=true ↔ q a=0) : Hy N ((0,a,0,r) :: H) L C Z q σ where
 nat := Y.nat
 qs := Y.qs
 zs := Y.zs
 par := Y.par
 lit := Y.lit
 k0 := fun a' r' g => by
  rcases kn_cons g with ⟨_,e1,_,e2⟩ | g
  ·rw [e1,e2]
   exact h
  ·exact Y.k0 a' r' g
 k1 := fun a' r' g => by
  rcases kn_cons g with ⟨e,_⟩ | g
  ·cases e
  ·exact Y.k1 a' r' g
 k2 := fun a' r' g => by
  rcases kn_cons g with ⟨e,_⟩ | g
  ·cases e
  ·exact Y.k2 a' r' g
 k4 := fun l a' b' r' g1 g => by
  rcases kn_cons g with ⟨e,_⟩ | g
  ·cases e
  ·exact Y.k4 l a' b' r' g1 g
 k3 := fun a' b' r' g => by
  rcases kn_cons g with ⟨e,_⟩ | g
  ·cases e
  ·exact Y.k3 a' b' r' g
 k6 := fun a' b' r' g => by
  rcases kn_cons g with ⟨e,_⟩ | g
  ·cases e
  ·exact Y.k6 a' b' r' g
 k5 := fun a' r' g => by
  rcases kn_cons g with ⟨e,_⟩ | g
  ·cases e
  ·exact Y.k5 a' r' g
theorem Hy.add3 (Y : Hy N H L C Z q σ) {a b r : Nat} (h : Nat.beq 1 r=true ↔ q a=q b) : Hy N ((3,a,b,r) :: H) L C Z q σ where
 nat := Y.nat
 qs := Y.qs
 zs := Y.zs
 par := Y.par
 lit := Y.lit
 k0 := fun a' r' g => by
  rcases kn_cons g with ⟨e,_⟩ | g
  ·cases e
  ·exact Y.k0 a' r' g
 k1 := fun a' r' g => by
  rcases kn_cons g with ⟨e,_⟩ | g
  ·cases e
  ·exact Y.k1 a' r' g
 k2 := fun a' r' g => by
  rcases kn_cons g with ⟨e,_⟩ | g
  ·cases e
  ·exact Y.k2 a' r' g
 k4 := fun l a' b' r' g1 g => by
  rcases kn_cons g with ⟨e,_⟩ | g
  ·cases e
  ·exact Y.k4 l a' b' r' g1 g
 k3 := fun a' b' r' g => by
  rcases kn_cons g with ⟨_,e1,e2,e3⟩ | g
  ·rw [e1,e2,e3]
   exact h
  ·exact Y.k3 a' b' r' g
 k6 := fun a' b' r' g => by
  rcases kn_cons g with ⟨e,_⟩ | g
  ·cases e
  ·exact Y.k6 a' b' r' g
 k5 := fun a' r' g => by
  rcases kn_cons g with ⟨e,_⟩ | g
  ·cases e
  ·exact Y.k5 a' r' g
theorem ask_true : AskTrue (sx Tryz.prog N H K L C Z pr) (fun X => Hy N (X ++ H) L C Z q σ) (fun d => q d=0) := fun X Y a ha => by
 obtain ⟨k,a,b,d⟩ := a
 have t1 : Nat.beq 1 1=true := rfl
 have t0 : Nat.beq 1 0 ≠ true := fun h => by cases h
 unfold askOk at ha
 rw [Bool.or_eq_true] at ha
 rcases ha with ha | ha
 ·simp only [Bool.and_eq_true,Nat.beq_eq] at ha
  obtain ⟨rfl,rfl,rfl⟩ := ha
  exact ⟨fun h => Hy.add0 Y ⟨fun _ => h,fun _ => t1⟩,fun h => Hy.add0 Y ⟨fun g => (t0 g).elim,fun g => (h g).elim⟩⟩
 ·rw [Bool.and_eq_true,Nat.beq_eq] at ha
  obtain ⟨rfl,hb⟩ := ha
  split at hb
  ·rename_i op ar hn
   rw [Bool.and_eq_true,Nat.beq_eq] at hb
   obtain ⟨rfl,hb⟩ := hb
   have e := beqL_eq hb
   subst e
   have hv : q d=q a - q b := Y.nat d _ hn
   have h2 : q d=0 ↔ q a=q b := by
    rw [hv]
    constructor <;> intro h <;> grind
   exact ⟨fun h => Hy.add3 Y ⟨fun _ => h2.1 h,fun _ => t1⟩,fun h => Hy.add3 Y ⟨fun g => (t0 g).elim,fun g => (h (h2.2 g)).elim⟩⟩
  ·cases hb
theorem sq_nn (y : Rat) : 0≤y*y := by
 by_cases h : y=0
 ·rw [h,Rat.zero_mul]
  exact Rat.le_refl
 ·exact Rat.le_of_lt (sq1_pos h)
theorem sq_sum {x y : Rat} (hx : 0≤x) : x+y*y=0 ↔ x=0∧y=0 := by
 constructor
 ·intro h
  have h2 := sq_nn y
  have h3 : x=0 := by grind
  refine ⟨h3,?_⟩
  have : y*y=0 := by grind
  rcases Rat.mul_eq_zero.1 this with g | g <;> exact g
 ·rintro ⟨rfl,rfl⟩
  grind
theorem sqF_val {H' : List (Nat × Nat × Nat × Nat)} (Y : Hy N H' L C Z q σ) : ∀ {l : List Nat} {s t : Nat},sqF (sx Tryz.prog N H K L C Z pr) s l=some t→0≤q s→0≤q t∧(q t=0 ↔ q s=0∧∀ d ∈ l,q d=0)
 | [],s,t,h,hs => by
  cases h
  exact ⟨hs,fun e => ⟨e,fun d hd => by cases hd⟩,fun e => e.1⟩
 | a :: l,s,t,h,hs => by
  unfold sqF at h
  simp only [Option.bind_eq_some_iff] at h
  obtain ⟨b,h1,c,h2,h3⟩ := h
  have e1 : q b=q a*q a := Hy.nd (H := H') (K := K) (pr := pr) Y h1
  have e2 : q c=q s+q b := Hy.nd (H := H') (K := K) (pr := pr) Y h2
  have n := sq_nn (q a)
  obtain ⟨g1,g2⟩ := sqF_val Y h3 (by grind)
  refine ⟨g1,g2.trans ?_⟩
  have e3 := sq_sum (y := q a) hs
  rw [e2,e1,e3]
  constructor
  ·rintro ⟨⟨x,y⟩,z⟩
   refine ⟨x,fun d hd => ?_⟩
   rcases List.mem_cons.1 hd with rfl | hd
   ·exact y
   ·exact z d hd
  ·rintro ⟨x,y⟩
   exact ⟨⟨x,y a List.mem_cons_self⟩,fun d hd => y d (List.mem_cons_of_mem _ hd)⟩
theorem sqN_val {H' : List (Nat × Nat × Nat × Nat)} (Y : Hy N H' L C Z q σ) {l : List Nat} {s : Nat} (h : sqN (sx Tryz.prog N H K L C Z pr) l=some s) : q s=0 ↔ ∀ d ∈ l,q d=0 := by
 unfold sqN at h
 split at h
 ·cases h
 ·rename_i a l
  rw [Option.bind_eq_some_iff] at h
  obtain ⟨b,h1,h2⟩ := h
  have e1 : q b=q a*q a := Hy.nd (H := H') (K := K) (pr := pr) Y h1
  have n := sq_nn (q a)
  obtain ⟨_,g⟩ := sqF_val Y h2 (by grind)
  rw [g,e1]
  constructor
  ·rintro ⟨x,y⟩ d hd
   rcases List.mem_cons.1 hd with rfl | hd
   ·rcases Rat.mul_eq_zero.1 x with x | x <;> exact x
   ·exact y d hd
  ·intro y
   refine ⟨?_,fun d hd => y d (List.mem_cons_of_mem _ hd)⟩
   rw [y a List.mem_cons_self,Rat.zero_mul]
theorem run_cases {f : FuncId} {args : List AV} {vs : List Value} {k : Nat} {p : List HB × Nat} {b : Bool} (Y : Hy N H L C Z q σ) (hm : (Tryz.prog).follows .mixedOrders=true) {w : World} (hP : ∀ H',Hy N H' L C Z q σ→PrimOk (sx Tryz.prog N H' K L C Z pr) (evS q σ) w) (hr : callC (sx Tryz.prog N H K L C Z pr) cs k [] f args [] 0=some (kB b,p))
  (hA : A2 (avOn (cOn (evS q σ) K (fun _ => none) w)) args vs) : Calls Tryz.prog f vs.toArray w fun e w' => Below w.heap.size w w'∧e=.returned (.bool b) := by
 refine (callC_ok (S := sx Tryz.prog N H K L C Z pr) (E := evS q σ) (w0 := w) (T := fun X => Hy N (X ++ H) L C Z q σ) (z := fun d => q d=0) hm (fun X hX => knows hX) (fun X hX => hP _ hX) ask_true ?_ k [] Y f args [] 0 (kB b,p) hr (fun _ => none) w vs ⟨Below.refl _ _,(fun _ _ h => by cases h)⟩ hA (fun x hx => by cases hx) (fun x hx => by cases hx) (fun _ _ _ => rfl)).mono ?_
 ·intro X hX l s r h1 h2
  have e := hX.k0 s r h2
  have g := sqN_val hX h1
  refine ⟨fun h => g.1 (e.1 h),fun h => ?_⟩
  have hn : ¬ ∀ d ∈ l,q d=0 := fun q' => by
   rw [e.2 (g.2 q')] at h
   cases h
  simpa using hn
 ·rintro _ w' ⟨r,γ',rfl,hef,hv,_⟩
  exact ⟨hef.wi.bel,by rw [show r=.bool b from (asC_on (v := kB b) (c := .inl (.bool b)) rfl hv).1]⟩
theorem run_toldC {f : FuncId} {args : List AV} {vs : List Value} {k : Nat} {p : List HB × Nat} {b : Bool} (Y : Hy N H L C Z q σ) (hc : ∀ f ∈ cl,Closed f) (hm : (Tryz.prog).follows .mixedOrders=true) (hr : callC (sx Tryz.prog N H K L C Z (prC cl)) cs k [] f args [] 0=some (kB b,p)) {w : World} (hp : PreS w)
  (hA : A2 (avOn (cOn (evS q σ) K (fun _ => none) w)) args vs) : Calls Tryz.prog f vs.toArray w fun e w' => Below w.heap.size w w'∧e=.returned (.bool b) := run_cases Y hm (fun _ Y' => primOk Y' hp hc) hr hA
theorem run_toldC' {f : FuncId} {args : List AV} {vs : List Value} (k : Nat) (Y : Hy N H L C Z q σ) (hc : ∀ f ∈ cl,Closed f) (hm : (Tryz.prog).follows .mixedOrders=true) (hr : (callC (sx Tryz.prog N H K L C Z (prC cl)) cs k [] f args [] 0).map (·.1)=some (kB true)) {w : World} (hp : PreS w)
  (hA : A2 (avOn (cOn (evS q σ) K (fun _ => none) w)) args vs) : Calls Tryz.prog f vs.toArray w fun e w' => Below w.heap.size w w'∧e=.returned (.bool true) := by
 rw [Option.map_eq_some_iff] at hr
 obtain ⟨⟨v,p⟩,h1,h2⟩ := hr
 dsimp only at h2
 subst h2
 exact run_toldC Y hc hm h1 hp hA
end
end Go.Proofs.YtikldelfdioimaaGreatDoor
/- VPD -/
namespace Cx
open Go Go.RowKit
def a1sB : List A1→List A1→Bool
 | [],[] => true
 | (a,x) :: l,(b,y) :: m => (a == b && acsW x y) && a1sB l m
 | _,_ => false
theorem a1sB_eq : ∀ {l m : List A1},a1sB l m=true→l=m
 | [],[],_ => rfl
 | (a,x) :: l,(b,y) :: m,h => by
  unfold a1sB at h
  simp only [Bool.and_eq_true,beq_iff_eq] at h
  obtain ⟨⟨h1,h2⟩,h3⟩ := h
  rw [h1,acsW_eq h2,a1sB_eq h3]
 | [],_ :: _,h => by cases h
 | _ :: _,[],h => by cases h
def avsB : List AV→List AV→Bool
 | [],[] => true
 | (a,x) :: l,(b,y) :: m => (a == b && a1sB x y) && avsB l m
 | _,_ => false
theorem avsB_eq : ∀ {l m : List AV},avsB l m=true→l=m
 | [],[],_ => rfl
 | (a,x) :: l,(b,y) :: m,h => by
  unfold avsB at h
  simp only [Bool.and_eq_true,beq_iff_eq] at h
  obtain ⟨⟨h1,h2⟩,h3⟩ := h
  rw [h1,a1sB_eq h2,avsB_eq h3]
 | [],_ :: _,h => by cases h
 | _ :: _,[],h => by cases h
abbrev Memo := List (FuncId × List AV × AV)
def memoGet (f : FuncId) (args : List AV) : Memo→Option AV
 | [] => none
 | (g,bs,v) :: m => bif Nat.beq f g && avsB args bs then some v else memoGet f args m
theorem memoGet_mem {f : FuncId} {args : List AV} {v : AV} : ∀ {m : Memo},memoGet f args m=some v→(f,args,v) ∈ m
 | [],h => by cases h
 | (g,bs,u) :: m,h => by
  unfold memoGet at h
  cases e : (Nat.beq f g && avsB args bs) with
  | true =>
   rw [e] at h
   rw [Bool.and_eq_true,Nat.beq_eq] at e
   rw [e.1,avsB_eq e.2,show u=v from Option.some.inj h]
   exact List.mem_cons_self
  | false =>
   rw [e] at h
   exact List.mem_cons_of_mem _ (memoGet_mem h)
def bareC : AC→Bool
 | .inl _ => true
 | .inr (k,_) => Nat.ble k 2
def bareV (v : AV) : Bool := v.2.all fun x => x.2.all bareC
def callD (S : Sx) (cs : List (FuncId × Nat)) (M : Memo) : Nat→Hs→CallF
 | 0,_,_,_,_,_ => none
 | n+1,X,f,args,h,nx => match memoGet f args M with
  | some v => some (v,h,nx)
  | none => match prGet f cs with
   | none => bodyC (S.plus X) (callD S cs M n X) f args h nx
   | some c => match askIt S X h c args with
    | none => bodyC (S.plus X) (callD S cs M n X) f args h nx
    | some (l,r) => bif Nat.beq 1 r then bodyC (S.plus (allZ l X)) (callD S cs M n (allZ l X)) f args h nx
     else joinC h nx ((splits l X).map fun X' => weakR (S.plus X') (bodyC (S.plus X') (callD S cs M n X') f args h nx))
def MemoOk (S : Sx) (E : Ev S.nb) (w0 : World) (M : Memo) : Prop := ∀ f args v,(f,args,v) ∈ M→∀ (γ : Nat→Option Nat) (w : World) (vs : List Value),WI w0 γ w→A2 (avOn (cOn E S.K γ w)) args vs →
 Calls S.P f vs.toArray w fun e w' => ∃ r,e=.returned r∧(∀ wr nx,(∀ b ∈ wr,Live γ b)→Ef S.nb w0 wr nx nx γ w γ w')∧avOn (cOn E S.K γ w') v r
section
variable {S : Sx} {E : Ev S.nb} {w0 : World}
theorem bareC_on {K K' : List (FuncId × List AC)} {γ γ' : Nat→Option Nat} {w : World} {d : Nat} {c : AC} {v : Value} (hc : bareC c=true) (h : cellOn E K γ w d c v) : cellOn E K' γ' w d c v := by
 cases c with
 | inl u =>
  unfold cellOn at h ⊢
  exact h
 | inr t =>
  obtain ⟨k,a,b,n,c⟩ := t
  have hk : k≤2 := by
   unfold bareC at hc
   rw [Nat.ble_eq] at hc
   exact hc
  match k,hk with
  | 0,_ =>
   unfold cellOn at h ⊢
   exact h
  | 1,_ =>
   unfold cellOn at h ⊢
   exact h
  | 2,_ =>
   unfold cellOn at h ⊢
   exact h
theorem A2_imp {α : Type} {R R' : α→Value→Prop} {P : α→Prop} (h : ∀ a v,P a→R a v→R' a v) : ∀ {l : List α} {vs : List Value},(∀ a ∈ l,P a)→A2 R l vs→A2 R' l vs
 | [],[],_,_ => trivial
 | _ :: _,_ :: _,hp,q => ⟨h _ _ (hp _ List.mem_cons_self) q.1,A2_imp h (fun a ha => hp a (List.mem_cons_of_mem _ ha)) q.2⟩
 | [],_ :: _,_,q => q.elim
 | _ :: _,[],_,q => q.elim
theorem bareV_on {K K' : List (FuncId × List AC)} {γ γ' : Nat→Option Nat} {w : World} {x : AV} {v : Value} (hx : bareV x=true) (h : avOn (cOn E K γ w) x v) : avOn (cOn E K' γ' w) x v := by
 unfold bareV at hx
 rw [List.all_eq_true] at hx
 have one : ∀ (y : A1) u,(∀ c ∈ y.2,bareC c=true)→a1On (cOn E K γ w) y u→a1On (cOn E K' γ' w) y u := fun y u hy q => by
  obtain ⟨b,cs⟩ := y
  cases b with
  | true =>
   obtain ⟨us,e,q⟩ := q
   exact ⟨us,e,A2_imp (P := fun c => bareC c=true) (fun _ _ hc q => bareC_on hc q) hy q⟩
  | false => exact A2_imp (P := fun c => bareC c=true) (fun _ _ hc q => bareC_on hc q) hy q
 have all : ∀ y ∈ x.2,∀ c ∈ y.2,bareC c=true := fun y hy c hc => (List.all_eq_true.1 (hx y hy)) c hc
 obtain ⟨b,ys⟩ := x
 cases b with
 | true =>
  obtain ⟨us,e,q⟩ := h
  exact ⟨us,e,A2_imp (P := fun y : A1 => ∀ c ∈ y.2,bareC c=true) (fun y u hy q => one y u hy q) all q⟩
 | false => exact A2_imp (P := fun y : A1 => ∀ c ∈ y.2,bareC c=true) (fun y u hy q => one y u hy q) all h
variable {T : Hs→Prop} {z : Nat→Prop}
theorem callD_ok {cs : List (FuncId × Nat)} {M : Memo} (hm : S.P.follows .mixedOrders=true) (hM : MemoOk S E w0 M) (hN : ∀ X,T X→Knows (S.plus X) E) (hP : ∀ X,T X→PrimOk (S.plus X) E w0) (hk : AskTrue S T z)
  (hs : ∀ X,T X→∀ l s r,sqN S l=some s→(S.plus X).kn 0 s 0=some r→(Nat.beq 1 r=true→∀ d ∈ l,z d)∧(Nat.beq 1 r=false→∃ d ∈ l,¬ z d)) : ∀ n X,T X→CallOk S E w0 (callD S cs M n X)
 | 0,_,_ => fun _ _ _ _ _ h => by cases h
 | n+1,X,hX => fun f args h nx p hp => by
  have body : ∀ Y,T Y→CallOk S E w0 (bodyC (S.plus Y) (callD S cs M n Y)) := fun Y hY => bodyC_ok (S := S.plus Y) hm (hN Y hY) (hP Y hY) (callD_ok hm hM hN hP hk hs n Y hY)
  unfold callD at hp
  split at hp
  ·rename_i v hv
   cases hp
   intro γ w vs hi hA hb hlt hf
   refine (hM f args v (memoGet_mem hv) γ w vs hi hA).mono ?_
   rintro _ w' ⟨r,rfl,hef,hr⟩
   have live : ∀ b ∈ h.map (·.1),Live γ b := fun b hb' => by
    obtain ⟨x,hx,rfl⟩ := List.mem_map.1 hb'
    obtain ⟨_,_,_,_,hl,_⟩ := hb x hx
    exact hl
   exact ⟨r,γ,rfl,hef _ _ live,hr,fun x hx => (hef [] nx no_live).box hi (hb x hx) (by simp)⟩
  ·split at hp
   ·exact body X hX f args h nx p hp
   ·split at hp
    ·exact body X hX f args h nx p hp
    rename_i l r hk'
    obtain ⟨hl,s,h1,h2⟩ := askIt_some hk'
    have h3 := hp
    obtain ⟨a1,a0⟩ := hs X hX _ s r h1 h2
    cases e : Nat.beq 1 r with
    | true =>
     rw [e] at h3
     exact body _ (allZ_true hk hX hl fun a ha => a1 e _ (List.mem_map_of_mem ha)) f args h nx p h3
    | false =>
     rw [e] at h3
     obtain ⟨d,hd,hz⟩ := a0 e
     obtain ⟨a,ha,rfl⟩ := List.mem_map.1 hd
     obtain ⟨X',m1,m2⟩ := splits_true hk hX hl ⟨a,ha,hz⟩
     replace h3 : joinC h nx ((splits l X).map fun X' => weakR (S.plus X') (bodyC (S.plus X') (callD S cs M n X') f args h nx))=some p := h3
     unfold joinC at h3
     split at h3
     ·rename_i p0 rs hrs
      rw [Option.bind_eq_some_iff] at h3
      obtain ⟨b,hb,h4⟩ := h3
      rw [ifO_some,List.all_eq_true] at h4
      obtain ⟨h5,h6⟩ := h4
      cases h6
      obtain ⟨h',nx',q1,q2,q3⟩ := agree_some (h5 _ (List.mem_map_of_mem m1))
      intro γ w vs hi hA hb hlt hf
      refine (weak_ok (hN X' m2) (body X' m2) f args h nx _ q1 γ w vs hi hA hb hlt fun b g1 g2 => hf b g1 (Nat.lt_of_lt_of_le g2 q2)).mono ?_
      rintro _ w' ⟨r',γ',rfl,hef,hv,hx⟩
      exact ⟨r',γ',rfl,hef.wide (Nat.le_refl _) q2,hv,fun x hh => hx x (q3 x hh)⟩
     ·cases h3
theorem memo_run {K1 K2 : List (FuncId × List AC)} {H1 H2 : Hs} {M : Memo} {f : FuncId} {args : List AV} {v : AV} {p : List HB × Nat} {call : CallF} (hC : CallOk { S with H := H1,K := K1 } E w0 call) (hr : call f args [] 0=some (v,p)) (ha : args.all bareV=true) (hv : bareV v=true) (hM : MemoOk { S with H := H2,K := K2 } E w0 M) : MemoOk { S with H := H2,K := K2 } E w0 ((f,args,v) :: M) := fun g bs u hmem => by
 rcases List.mem_cons.1 hmem with e | hmem
 ·cases e
  intro γ w vs hi hA
  rw [List.all_eq_true] at ha
  refine (hC f args [] 0 (v,p) hr (fun _ => none) w vs ⟨hi.bel,(fun _ _ h => by cases h)⟩ (A2_imp (P := fun x => bareV x=true) (fun _ _ hx q => bareV_on hx q) ha hA) (fun x hx => by cases hx) (fun x hx => by cases hx) (fun _ _ _ => rfl)).mono ?_
  rintro _ w' ⟨r,γ',rfl,hef,hr,_⟩
  refine ⟨r,rfl,fun wr nx hl => ⟨leG.refl _,fun _ _ => rfl,fun _ _ h => Or.inl h,⟨hef.wi.bel,fun b G q => ⟨(hi.lo b G q).1,Nat.lt_of_lt_of_le (hi.lo b G q).2 hef.gr.size⟩⟩,hef.gr,fun G hG _ => hef.keep G hG (fun b hb => by cases hb),hl⟩,bareV_on hv hr⟩
 ·exact hM g bs u hmem
def memoOne (S : Sx) (cs : List (FuncId × Nat)) (k : Nat) : Memo→Bool
 | (f,args,v) :: M => (match callD S cs M k [] f args [] 0 with
  | some (u,_) => avsB [u] [v]
  | none => false) && (args.all bareV && bareV v)
 | [] => false
def memoChk (S : Sx) (cs : List (FuncId × Nat)) (k : Nat) : Nat→Memo→Bool
 | 0,_ => true
 | n+1,M => memoOne S cs k M && memoChk S cs k n M.tail
def qA (l : List Nat) : AV := (false,[(true,l.flatMap qCells)])
def rC (a : Nat) : AC := .inr (0,0,a,0,0)
def rA (l : List Nat) : AV := (false,[(true,l.map rC)])
def pA (l : List Nat) : AV := (false,[(true,l.map fun a => .inr (2,a,0,0,0))])
theorem memo_nil : MemoOk S E w0 [] := fun _ _ _ h => by cases h
end
end Cx
/- VPE -/
namespace Go.Proofs.YtikldelfdioimaaGreatDoor
open Cx Go Go.RowKit
section
variable {N : List Nd} {H : List (Nat × Nat × Nat × Nat)} {K : List (FuncId × List AC)} {L C : List (List Nat × Nat)} {Z : List Nat} {q : Nat→Rat} {σ : Nat→ByteArray} {cl : List FuncId} {cs pr : List (FuncId × Nat)} {M : Memo} {w : World}
theorem callD_told (Y : Hy N H L C Z q σ) (hc : ∀ f ∈ cl,Closed f) (hm : (Tryz.prog).follows .mixedOrders=true) (hp : PreS w) (hM : MemoOk (sx Tryz.prog N H K L C Z (prC cl)) (evS q σ) w M) (k : Nat) : CallOk (sx Tryz.prog N H K L C Z (prC cl)) (evS q σ) w (callD (sx Tryz.prog N H K L C Z (prC cl)) cs M k []) :=
 callD_ok (S := sx Tryz.prog N H K L C Z (prC cl)) (E := evS q σ) (w0 := w) (T := fun X => Hy N (X ++ H) L C Z q σ) (z := fun d => q d=0) hm hM (fun X hX => knows hX) (fun X hX => primOk hX hp hc) ask_true (fun X hX l s r h1 h2 => by
  have e := hX.k0 s r h2
  have g := sqN_val hX h1
  refine ⟨fun h => g.1 (e.1 h),fun h => ?_⟩
  have hn : ¬ ∀ d ∈ l,q d=0 := fun q' => by
   rw [e.2 (g.2 q')] at h
   cases h
  simpa using hn) k [] Y
def MemoAll (N : List Nd) (L C : List (List Nat × Nat)) (Z : List Nat) (q : Nat→Rat) (σ : Nat→ByteArray) (cl : List FuncId) (w : World) (M : Memo) : Prop := ∀ H K,MemoOk (sx Tryz.prog N H K L C Z (prC cl)) (evS q σ) w M
theorem memoAll_nil : MemoAll N L C Z q σ cl w [] := fun _ _ => memo_nil
theorem memoAll_cons {H1 : List (Nat × Nat × Nat × Nat)} (Y : Hy N H1 L C Z q σ) (hc : ∀ f ∈ cl,Closed f) (hm : (Tryz.prog).follows .mixedOrders=true) (hp : PreS w) {f : FuncId} {args : List AV} {v : AV} (k : Nat) (hr : memoOne (sx Tryz.prog N H1 [] L C Z (prC cl)) cs k ((f,args,v) :: M)=true) (hM : MemoAll N L C Z q σ cl w M) : MemoAll N L C Z q σ cl w ((f,args,v) :: M) := fun H K => by
 unfold memoOne at hr
 simp only [Bool.and_eq_true] at hr
 obtain ⟨h1,h2,h3⟩ := hr
 split at h1
 ·rename_i u p hu
  have e := avsB_eq h1
  cases e
  exact memo_run (S := sx Tryz.prog N H K L C Z (prC cl)) (K1 := []) (H1 := H1) (K2 := K) (H2 := H) (callD_told (K := []) (cs := cs) Y hc hm hp (hM H1 []) k) hu h2 h3 (hM H K)
 ·cases h1
theorem memoAll_drop {i : Nat} {H1 : List (Nat × Nat × Nat × Nat)} (Y : Hy N H1 L C Z q σ) (hc : ∀ f ∈ cl,Closed f) (hm : (Tryz.prog).follows .mixedOrders=true) (hp : PreS w) {k : Nat} (hr : memoOne (sx Tryz.prog N H1 [] L C Z (prC cl)) cs k (M.drop i)=true) (hM : MemoAll N L C Z q σ cl w (M.drop (i+1))) : MemoAll N L C Z q σ cl w (M.drop i) := by
 rw [← List.tail_drop] at hM
 generalize M.drop i=D at *
 match D with
 | [] => cases hr
 | (f,args,v) :: D => exact memoAll_cons Y hc hm hp k hr hM
theorem memoAll_chk {H1 : List (Nat × Nat × Nat × Nat)} (Y : Hy N H1 L C Z q σ) (hc : ∀ f ∈ cl,Closed f) (hm : (Tryz.prog).follows .mixedOrders=true) (hp : PreS w) {k : Nat} : ∀ (n : Nat) {M : Memo},memoChk (sx Tryz.prog N H1 [] L C Z (prC cl)) cs k n M=true→MemoAll N L C Z q σ cl w (M.drop n)→MemoAll N L C Z q σ cl w M
 | 0,_,_,h => h
 | n+1,M,hr,h => by
  unfold memoChk at hr
  rw [Bool.and_eq_true] at hr
  have h1 := memoAll_chk Y hc hm hp n hr.2 (by rw [List.drop_tail]; exact h)
  exact memoAll_drop (i := 0) Y hc hm hp hr.1 (by rw [Nat.zero_add,List.drop_one]; exact h1)
theorem run_toldD' {f : FuncId} {args : List AV} {vs : List Value} (k : Nat) (Y : Hy N H L C Z q σ) (hc : ∀ f ∈ cl,Closed f) (hm : (Tryz.prog).follows .mixedOrders=true) (hp : PreS w) (hM : MemoAll N L C Z q σ cl w M) (hr : (callD (sx Tryz.prog N H K L C Z (prC cl)) cs M k [] f args [] 0).map (·.1)=some (kB true))
  (hA : A2 (avOn (cOn (evS q σ) K (fun _ => none) w)) args vs) : Calls Tryz.prog f vs.toArray w fun e w' => Below w.heap.size w w'∧e=.returned (.bool true) := by
 rw [Option.map_eq_some_iff] at hr
 obtain ⟨⟨v,p⟩,h1,h2⟩ := hr
 dsimp only at h2
 subst h2
 refine (callD_told (cs := cs) Y hc hm hp (hM H K) k f args [] 0 (kB true,p) h1 (fun _ => none) w vs ⟨Below.refl _ _,(fun _ _ h => by cases h)⟩ hA (fun x hx => by cases hx) (fun x hx => by cases hx) (fun _ _ _ => rfl)).mono ?_
 rintro _ w' ⟨r,γ',rfl,hef,hv,_⟩
 exact ⟨hef.wi.bel,by rw [show r=.bool true from (asC_on (v := kB true) (c := .inl (.bool true)) rfl hv).1]⟩
end
end Go.Proofs.YtikldelfdioimaaGreatDoor
/- VY -/
namespace Go.Proofs.YtikldelfdioimaaGreatDoor
open Go.RowKit Cx
theorem den_num (t : Rat) : t*(t.den : Rat)=((t.num : Int) : Rat) := by
 conv => lhs; lhs; rw [← Rat.mkRat_self t]
 have h0 : (t.den : Rat) ≠ 0 := fun h => t.den_nz (by exact_mod_cast h)
 rw [Rat.mkRat_eq_div,Rat.div_mul_cancel h0]
theorem whole {q : Rat} (h : q.den=1) : q=((q.num : Int) : Rat) := by
 have := den_num q
 rw [h] at this
 rw [← this]
 show q=q*((1 : Nat) : Rat)
 exact (Rat.mul_one q).symm
end Go.Proofs.YtikldelfdioimaaGreatDoor
/- VSZ -/
namespace Go.Proofs.YtikldelfdioimaaGreatDoor
open Go.RowKit Cx
structure QW (z : Nat) (x : Rat) : Prop where
 qs : QS z x
 wh : x.den=1
theorem QW.of {z : Nat} {n : Int} (h : n.natAbs < 2 ^ z) (hz : 0 < z) : QW z ((n : Int) : Rat) :=
 ⟨⟨by simpa using h,by
  show ((n : Int) : Rat).den < 2 ^ z
  rw [Rat.den_intCast]
  exact Nat.one_lt_two_pow (by omega)⟩,Rat.den_intCast n⟩
theorem QW.mono {k l : Nat} {x : Rat} (h : QW k x) (hk : k≤l) : QW l x := ⟨h.qs.mono hk,h.wh⟩
theorem two_max {a b x y : Nat} (h1 : a < 2 ^ x) (h2 : b < 2 ^ y) : a+b < 2 ^ (Nat.max x y+1) := by
 have e1 : 2 ^ x≤2 ^ Nat.max x y := Nat.pow_le_pow_right (by decide) (Nat.le_max_left x y)
 have e2 : 2 ^ y≤2 ^ Nat.max x y := Nat.pow_le_pow_right (by decide) (Nat.le_max_right x y)
 rw [Nat.pow_succ]
 omega
theorem QW.add {x y : Nat} {a b : Rat} (h1 : QW x a) (h2 : QW y b) : QW (Nat.max x y+1) (a+b) := by
 rw [whole h1.wh,whole h2.wh,← Rat.intCast_add]
 refine QW.of ?_ (by omega)
 have := two_max h1.qs.num h2.qs.num
 omega
theorem QW.sub {x y : Nat} {a b : Rat} (h1 : QW x a) (h2 : QW y b) : QW (Nat.max x y+1) (a - b) := by
 rw [whole h1.wh,whole h2.wh,← Rat.intCast_sub]
 refine QW.of ?_ (by omega)
 have := two_max h1.qs.num h2.qs.num
 omega
theorem QW.mul {x y : Nat} {a b : Rat} (h1 : QW x a) (h2 : QW y b) : QW (x+y) (a*b) := by
 refine ⟨h1.qs.mul h2.qs,?_⟩
 rw [whole h1.wh,whole h2.wh,← Rat.intCast_mul]
 exact Rat.den_intCast _
theorem QW.neg {x : Nat} {a : Rat} (h1 : QW x a) : QW x (-a) := ⟨h1.qs.neg,h1.wh⟩
theorem ten_three : ∀ n : Nat,10 ^ n≤2 ^ ((10*n+2) / 3)
 | 0 => by decide
 | 1 => by decide
 | 2 => by decide
 | n+3 => by
  have h := ten_three n
  have e : (10*(n+3)+2) / 3=(10*n+2) / 3+10 := by omega
  rw [e,Nat.pow_add,Nat.pow_add]
  exact Nat.mul_le_mul h (by decide)
theorem QS.rd3 (l : List UInt8) : QS ((10*l.length+2) / 3+5) (Cx.rd l) := by
 have key : ∀ {m : List UInt8},digs m=true→dv m < 2 ^ ((10*m.length+2) / 3) := fun {m} h => Nat.lt_of_lt_of_le (dv_lt (digs_all h)) (ten_three _)
 unfold Cx.rd
 split
 ·rename_i h
  rw [Bool.and_eq_true] at h
  have h1 := key h.1
  have h2 := key h.2
  have h3 := up_len (tailOf l)
  have h4 := low_len (tailOf l)
  have h5 := tail_len l
  apply QS.mkr
  ·rw [sg_abs]; exact Nat.lt_of_lt_of_le h1 (Nat.pow_le_pow_right (by decide) (by omega))
  ·exact Nat.lt_of_lt_of_le h2 (Nat.pow_le_pow_right (by decide) (by omega))
 ·exact QS.zero.mono (by omega)
section
variable {N : List Nd} {Z : List Nat} {I : List Bool} {q : Nat→Rat}
end
end Go.Proofs.YtikldelfdioimaaGreatDoor
/- VSA -/
namespace Go.Proofs.YtikldelfdioimaaGreatDoor
open Go.RowKit Cx
def inB : Nat := 3495259
abbrev Atm := Nat × Nat
def remA (x : Atm) : List Atm→Option (List Atm)
 | [] => none
 | y :: l => bif Nat.beq x.1 y.1 && Nat.beq x.2 y.2 then some l else (remA x l).map (y :: ·)
def subA : List Atm→List Atm→Option (List Atm)
 | l,[] => some l
 | l,x :: r => (remA x l).bind fun l' => subA l' r
def leftA : List Atm→List Atm→List Atm
 | _,[] => []
 | U,x :: D => match remA x U with
  | some U' => leftA U' D
  | none => x :: leftA U D
def uniA (E : List (Nat × List Atm)) : List Nat→List Atm→List Atm
 | [],U => U
 | a :: l,U => uniA E l (match E[a]? with
  | some p => U ++ leftA U p.2
  | none => U)
def bitA (E : List (Nat × List Atm)) (x : Atm) : Nat := match x.1 with
 | 0 => inB
 | 1 => (match E[x.2]? with
  | some p => p.1
  | none => 1)
 | _ => Nat.log2 x.2+1
def bitL (E : List (Nat × List Atm)) : List Atm→Nat
 | [] => 1
 | x :: l => bitA E x+bitL E l
def noneA (l : Option (List Atm)) : Bool := match l with
 | some [] => true
 | _ => false
def saN (E : List (Nat × List Atm)) (k z : Nat) (D : List Atm) (nd : Nd) : Bool := (Nat.blt 0 z && D.all fun x => !Nat.beq x.1 1 || Nat.blt x.2 k) && match nd.1,nd.2 with
 | 0,[_,n,d] => (Nat.blt n (2 ^ z) && Nat.blt 0 d) && noneA (subA D (bif Nat.beq d 1 then [] else [(2,d)]))
 | 1,[j] => Nat.ble inB z && noneA (subA D [(0,j)])
 | 2,[a,b] => (match E[a]?,E[b]? with
  | some p,some r => (match subA D p.2,subA D r.2 with
   | some c,some e => Nat.ble (Nat.max (p.1+bitL E c) (r.1+bitL E e)+1) z
   | _,_ => false)
  | _,_ => false)
 | 3,[a,b] => (match E[a]?,E[b]? with
  | some p,some r => (match subA D p.2,subA D r.2 with
   | some c,some e => Nat.ble (Nat.max (p.1+bitL E c) (r.1+bitL E e)+1) z
   | _,_ => false)
  | _,_ => false)
 | 4,[a,b] => (match E[a]?,E[b]? with
  | some p,some r => (match subA D p.2 with
   | some c => noneA (subA c r.2) && Nat.ble (p.1+r.1) z
   | _ => false)
  | _,_ => false)
 | 5,[a] => (match E[a]? with
  | some p => noneA (subA D p.2) && Nat.ble p.1 z
  | _ => false)
 | 6,[a,b] => (match E[a]?,E[b]?,remA (1,b) D with
  | some p,some r,some D' => (match subA p.2 D' with
   | some c => (match subA r.2 c with
    | some e => Nat.ble (p.1+bitL E e) z
    | none => false)
   | none => false)
  | _,_,_ => false)
 | 7,_ => Nat.beq D.length 0
 | 8,i :: xs => Nat.beq D.length 0 && (xs.all (fun a => match E[a]? with
   | some p => (subA (uniA E xs []) p.2).isSome
   | none => false) && (match xs[i]? with
   | some a => (match E[a]? with
    | some p => (match subA (uniA E xs []) p.2 with
     | some e => Nat.ble (p.1+bitL E e) z
     | none => false)
    | none => false)
   | none => false))
 | _,_ => false
def saB (E : List (Nat × List Atm)) : Nat→List Nd→List (Nat × List Atm)→List Nat→Bool
 | _,[],[],[] => true
 | k,nd :: ns,p :: ps,z :: zs => (saN E k p.1 p.2 nd && (Nat.ble p.1 z && (Nat.ble (bitL E p.2) z && Nat.ble z 1000000000000))) && saB E (k+1) ns ps zs
 | _,_,_,_ => false
theorem saB_get {E : List (Nat × List Atm)} : ∀ {ns : List Nd} {ps : List (Nat × List Atm)} {zs : List Nat} {k i : Nat} {nd : Nd},saB E k ns ps zs=true→ns[i]? = some nd→∃ p z,ps[i]? = some p∧zs[i]? = some z∧saN E (k+i) p.1 p.2 nd=true∧p.1≤z∧bitL E p.2≤z∧z≤1000000000000
 | [],_,_,_,_,_,_,h => by simp at h
 | _ :: _,[],_,_,_,_,h,_ => by cases h
 | _ :: _,_ :: _,[],_,_,_,h,_ => by cases h
 | nd' :: ns,p :: ps,z :: zs,k,0,nd,h,e => by
  have : nd'=nd := by simpa using e
  subst this
  unfold saB at h
  simp only [Bool.and_eq_true,Nat.ble_eq] at h
  exact ⟨p,z,rfl,rfl,h.1.1,h.1.2.1,h.1.2.2.1,h.1.2.2.2⟩
 | nd' :: ns,p :: ps,z :: zs,k,i+1,nd,h,e => by
  unfold saB at h
  rw [Bool.and_eq_true] at h
  obtain ⟨p',z',g1,g2,g3,g4⟩ := saB_get (k := k+1) (i := i) h.2 (by simpa using e)
  exact ⟨p',z',by simpa using g1,by simpa using g2,by rw [show k+(i+1)=k+1+i by omega]; exact g3,g4⟩
theorem saB_len {E : List (Nat × List Atm)} : ∀ {ns : List Nd} {ps : List (Nat × List Atm)} {zs : List Nat} {k : Nat},saB E k ns ps zs=true→ns.length=ps.length∧ns.length=zs.length
 | [],[],[],_,_ => ⟨rfl,rfl⟩
 | [],[],_ :: _,_,h => by cases h
 | [],_ :: _,_,_,h => by cases h
 | _ :: _,[],_,_,h => by cases h
 | _ :: _,_ :: _,[],_,h => by cases h
 | _ :: _,_ :: _,_ :: _,k,h => by
  unfold saB at h
  rw [Bool.and_eq_true] at h
  have := saB_len h.2
  exact ⟨congrArg (· + 1) this.1,congrArg (· + 1) this.2⟩
def valA (dn : Nat→Nat) (M : Nat→Rat) (x : Atm) : Rat := match x.1 with
 | 0 => ((dn x.2 : Nat) : Rat)
 | 1 => if M x.2=0 then 1 else M x.2
 | _ => if x.2=0 then 1 else ((x.2 : Nat) : Rat)
def proA (dn : Nat→Nat) (M : Nat→Rat) : List Atm→Rat
 | [] => 1
 | x :: l => valA dn M x*proA dn M l
theorem remA_pro {dn : Nat→Nat} {M : Nat→Rat} {x : Atm} : ∀ {l c : List Atm},remA x l=some c→proA dn M l=valA dn M x*proA dn M c
 | [],_,h => by cases h
 | y :: l,c,h => by
  unfold remA at h
  cases e : (Nat.beq x.1 y.1 && Nat.beq x.2 y.2) with
  | true =>
   rw [e] at h
   cases h
   rw [Bool.and_eq_true,Nat.beq_eq,Nat.beq_eq] at e
   have : x=y := Prod.ext e.1 e.2
   rw [this]
   rfl
  | false =>
   rw [e] at h
   simp only [cond_false,Option.map_eq_some_iff] at h
   obtain ⟨c',h1,rfl⟩ := h
   show valA dn M y*proA dn M l=valA dn M x*(valA dn M y*proA dn M c')
   rw [remA_pro h1]
   grind
theorem subA_pro {dn : Nat→Nat} {M : Nat→Rat} : ∀ {r l c : List Atm},subA l r=some c→proA dn M l=proA dn M r*proA dn M c
 | [],l,c,h => by
  have : l=c := by simpa [subA] using h
  rw [this]
  exact (Rat.one_mul _).symm
 | x :: r,l,c,h => by
  unfold subA at h
  rw [Option.bind_eq_some_iff] at h
  obtain ⟨l',h1,h2⟩ := h
  rw [remA_pro h1,subA_pro h2]
  exact (Rat.mul_assoc _ _ _).symm
theorem noneA_some {l : Option (List Atm)} (h : noneA l=true) : l=some [] := by
 unfold noneA at h
 split at h
 ·rfl
 ·cases h
theorem QW.one {z : Nat} (h : 0 < z) : QW z 1 := ⟨⟨by
  show (1 : Int).natAbs < 2 ^ z
  exact Nat.one_lt_two_pow (by omega),by
  show 1 < 2 ^ z
  exact Nat.one_lt_two_pow (by omega)⟩,rfl⟩
theorem QW.zero {z : Nat} (h : 0 < z) : QW z 0 := ⟨⟨by
  show (0 : Int).natAbs < 2 ^ z
  exact Nat.two_pow_pos z,by
  show 1 < 2 ^ z
  exact Nat.one_lt_two_pow (by omega)⟩,rfl⟩
theorem QW.nat {z n : Nat} (h : n < 2 ^ z) (hz : 0 < z) : QW z ((n : Nat) : Rat) := by
 have : ((n : Nat) : Rat)=(((n : Nat) : Int) : Rat) := (Rat.intCast_natCast n).symm
 rw [this]
 exact QW.of (by simpa using h) hz
section
variable {E : List (Nat × List Atm)} {dn : Nat→Nat} {M : Nat→Rat} {k : Nat}
def BelA (E : List (Nat × List Atm)) (dn : Nat→Nat) (M : Nat→Rat) (q : Nat→Rat) (k : Nat) : Prop := ∀ a,a < k→∃ p,E[a]? = some p∧QW p.1 (M a)∧0 < p.1∧(∀ x ∈ p.2,x.1=1→x.2 < a)∧q a*proA dn M p.2=M a
theorem valA_ok {q : Nat→Rat} (hdn : ∀ j,0 < dn j∧dn j < 2 ^ inB) (hM : BelA E dn M q k) {x : Atm} (hx : x.1=1→x.2 < k) : QW (bitA E x) (valA dn M x)∧valA dn M x ≠ 0 := by
 obtain ⟨i,j⟩ := x
 match i with
 | 0 =>
  show QW inB ((dn j : Nat) : Rat)∧((dn j : Nat) : Rat) ≠ 0
  refine ⟨QW.nat (hdn j).2 (by unfold inB; omega),fun h => ?_⟩
  have := (hdn j).1
  have h2 : dn j=0 := by exact_mod_cast h
  omega
 | 1 =>
  obtain ⟨p,h1,h2,h3,_⟩ := hM j (hx rfl)
  show QW (match E[j]? with
   | some p => p.1
   | none => 1) (if M j=0 then 1 else M j)∧(if M j=0 then 1 else M j) ≠ 0
  rw [h1]
  by_cases h : M j=0
  ·rw [if_pos h]
   exact ⟨QW.one h3,by decide⟩
  ·rw [if_neg h]
   exact ⟨h2,h⟩
 | i+2 =>
  show QW (Nat.log2 j+1) (if j=0 then 1 else ((j : Nat) : Rat))∧(if j=0 then 1 else ((j : Nat) : Rat)) ≠ 0
  by_cases h : j=0
  ·rw [if_pos h]
   exact ⟨QW.one (by omega),by decide⟩
  ·rw [if_neg h]
   refine ⟨QW.nat Nat.lt_log2_self (by omega),fun h2 => h ?_⟩
   exact_mod_cast h2
theorem proA_ok {q : Nat→Rat} (hdn : ∀ j,0 < dn j∧dn j < 2 ^ inB) (hM : BelA E dn M q k) : ∀ {l : List Atm},(∀ x ∈ l,x.1=1→x.2 < k)→QW (bitL E l) (proA dn M l)∧proA dn M l ≠ 0
 | [],_ => ⟨QW.one (show 0 < 1 by decide),by show (1 : Rat) ≠ 0; decide⟩
 | x :: l,h => by
  have h1 := valA_ok hdn hM (h x List.mem_cons_self)
  have h2 := proA_ok hdn hM (l := l) fun y hy => h y (List.mem_cons_of_mem _ hy)
  exact ⟨h1.1.mul h2.1,mul_ne h1.2 h2.2⟩
theorem proA_congr {M' : Nat→Rat} : ∀ {l : List Atm},(∀ x ∈ l,x.1=1→M x.2=M' x.2)→proA dn M l=proA dn M' l
 | [],_ => rfl
 | x :: l,h => by
  show valA dn M x*proA dn M l=valA dn M' x*proA dn M' l
  rw [proA_congr (l := l) fun y hy => h y (List.mem_cons_of_mem _ hy)]
  have e : valA dn M x=valA dn M' x := by
   obtain ⟨i,j⟩ := x
   match i with
   | 0 => rfl
   | 1 =>
    have := h (1,j) List.mem_cons_self rfl
    show (if M j=0 then 1 else M j)=(if M' j=0 then 1 else M' j)
    rw [this]
   | i+2 => rfl
  rw [e]
theorem remA_mem {x y : Atm} : ∀ {l c : List Atm},remA x l=some c→y ∈ c→y ∈ l
 | [],_,h,_ => by cases h
 | z :: l,c,h,hy => by
  unfold remA at h
  cases e : (Nat.beq x.1 z.1 && Nat.beq x.2 z.2) with
  | true => rw [e] at h; cases h; exact List.mem_cons_of_mem _ hy
  | false =>
   rw [e] at h
   simp only [cond_false,Option.map_eq_some_iff] at h
   obtain ⟨c',h1,rfl⟩ := h
   rcases List.mem_cons.1 hy with rfl | hy
   ·exact List.mem_cons_self
   ·exact List.mem_cons_of_mem _ (remA_mem h1 hy)
theorem subA_mem {y : Atm} : ∀ {r l c : List Atm},subA l r=some c→y ∈ c→y ∈ l
 | [],l,c,h,hy => by
  have : l=c := by simpa [subA] using h
  rw [this]; exact hy
 | x :: r,l,c,h,hy => by
  unfold subA at h
  rw [Option.bind_eq_some_iff] at h
  obtain ⟨l',h1,h2⟩ := h
  exact remA_mem h1 (subA_mem h2 hy)
theorem nat_ne {n : Nat} (h : n ≠ 0) : ((n : Nat) : Rat) ≠ 0 := fun e => h (by exact_mod_cast e)
theorem mul_low (x : Rat) : x*((x.den : Nat) : Rat)=((x.num : Int) : Rat) := by
 have e : x=((x.num : Int) : Rat) / ((x.den : Nat) : Rat) := by
  have := Rat.mkRat_self x
  rw [Rat.mkRat_eq_div] at this
  exact this.symm
 conv => lhs; lhs; rw [e]
 exact Rat.div_mul_cancel (nat_ne x.den_nz)
theorem lD_dvd_of {qs : List Rat} {m M : Nat} (hm : m ∣ M) (h : ∀ q ∈ qs,q.den ∣ M) : qs.foldl (fun m q => m*(q.den / Nat.gcd m q.den)) m ∣ M := by
 induction qs generalizing m with
 | nil => exact hm
 | cons q qs ih =>
  rw [List.foldl_cons]
  refine ih ?_ fun p hp => h p (List.mem_cons_of_mem _ hp)
  have e : m*(q.den / Nat.gcd m q.den)=Nat.lcm m q.den := by
   unfold Nat.lcm
   exact (Nat.mul_div_assoc _ (Nat.gcd_dvd_right _ _)).symm
  rw [e]
  exact Nat.lcm_dvd hm (h q List.mem_cons_self)
theorem den_dvd {x : Rat} {m : Int} (h : (x*((m : Int) : Rat)).den=1) : x.den ∣ m.natAbs := by
 have e := whole h
 generalize (x*((m : Int) : Rat)).num=n at e
 have h1 : x*((x.den : Nat) : Rat)=((x.num : Int) : Rat) := mul_low x
 have h2 : ((x.num : Int) : Rat)*((m : Int) : Rat)=((n : Int) : Rat)*(((x.den : Nat) : Int) : Rat) := by
  rw [← h1,← e,Rat.intCast_natCast]
  grind
 have h3 : x.num*m=n*(x.den : Int) := by exact_mod_cast h2
 have h4 : (x.den : Int) ∣ x.num*m := ⟨n,by rw [h3,Int.mul_comm]⟩
 have h5 : x.den ∣ x.num.natAbs*m.natAbs := by
  have := Int.natAbs_dvd_natAbs.2 h4
  rwa [Int.natAbs_mul,Int.natAbs_natCast] at this
 exact (Nat.Coprime.symm x.reduced).dvd_of_dvd_mul_left h5
theorem fac_whole {qs : List Rat} {x : Rat} {z : Nat} {m : Int} (hx : x ∈ qs) (hm : m ≠ 0) (hall : ∀ y ∈ qs,(y*((m : Int) : Rat)).den=1) (hz : QW z (x*((m : Int) : Rat))) : QW z (x*fac qs) := by
 have hl : lD qs ∣ m.natAbs := lD_dvd_of (Nat.one_dvd _) fun y hy => den_dvd (hall y hy)
 have hd := fac_den hx
 have hpos : 0 < m.natAbs := Int.natAbs_pos.2 hm
 have hle : lD qs≤m.natAbs := Nat.le_of_dvd hpos hl
 have hn : (x*fac qs).num.natAbs≤(x*((m : Int) : Rat)).num.natAbs := by
  rw [fac_abs hx]
  have e := whole hz.wh
  generalize (x*((m : Int) : Rat)).num=n at e
  have h1 : x*((x.den : Nat) : Rat)=((x.num : Int) : Rat) := mul_low x
  have h2 : ((x.num : Int) : Rat)*((m : Int) : Rat)=((n : Int) : Rat)*(((x.den : Nat) : Int) : Rat) := by
   rw [← h1,← e,Rat.intCast_natCast]
   grind
  have h3 : x.num*m=n*(x.den : Int) := by exact_mod_cast h2
  have h4 : x.num.natAbs*m.natAbs=n.natAbs*x.den := by
   have := congrArg Int.natAbs h3
   rwa [Int.natAbs_mul,Int.natAbs_mul,Int.natAbs_natCast] at this
  obtain ⟨c,hc⟩ := den_dvd (x := x) (m := m) (hall x hx)
  have h5 : n.natAbs=x.num.natAbs*c := by
   rw [hc] at h4
   refine Nat.eq_of_mul_eq_mul_right x.den_pos ?_
   rw [← h4]
   rw [Nat.mul_assoc,Nat.mul_comm c]
  show x.num.natAbs / gN qs*(lD qs / x.den)≤n.natAbs
  rw [h5]
  refine Nat.mul_le_mul (Nat.div_le_self _ _) ?_
  have : lD qs / x.den≤m.natAbs / x.den := Nat.div_le_div_right hle
  rw [hc,Nat.mul_div_cancel_left _ x.den_pos] at this
  exact this
 refine ⟨⟨Nat.lt_of_le_of_lt hn hz.qs.num,?_⟩,hd⟩
 rw [hd]
 have := hz.qs.den
 rw [hz.wh] at this
 exact this
theorem leftA_mem {y : Atm} : ∀ {D U : List Atm},y ∈ leftA U D→y ∈ D
 | [],_,h => by cases h
 | x :: D,U,h => by
  unfold leftA at h
  split at h
  ·exact List.mem_cons_of_mem _ (leftA_mem h)
  ·rcases List.mem_cons.1 h with rfl | h
   ·exact List.mem_cons_self
   ·exact List.mem_cons_of_mem _ (leftA_mem h)
theorem uniA_low {q : Nat→Rat} (hM : BelA E dn M q k) : ∀ {l : List Nat} {U : List Atm},(∀ c ∈ l,c < k)→(∀ x ∈ U,x.1=1→x.2 < k)→∀ x ∈ uniA E l U,x.1=1→x.2 < k
 | [],_,_,hU => hU
 | a :: l,U,hl,hU => by
  unfold uniA
  refine uniA_low hM (fun c hc => hl c (List.mem_cons_of_mem _ hc)) ?_
  have ha := hl a List.mem_cons_self
  obtain ⟨p,h1,_,_,h4,_⟩ := hM a ha
  rw [h1]
  intro x hx h
  rcases List.mem_append.1 hx with hx | hx
  ·exact hU x hx h
  ·exact Nat.lt_trans (h4 x (leftA_mem hx) h) ha
theorem node_ok {q : Nat→Rat} {σ : Nat→ByteArray} (hσ : ∀ j,(σ j).size≤1048576) (hdn : ∀ j,dn j=(Cx.rd (σ j).data.toList).den) (hM : BelA E dn M q k) {z : Nat} {D : List Atm} {nd : Nd} (hwf : wfN k nd=true) (hs : saN E k z D nd=true) : QW z (valN σ q nd*proA dn M D)∧0 < z∧∀ x ∈ D,x.1=1→x.2 < k := by
 have hdn' : ∀ j,0 < dn j∧dn j < 2 ^ inB := fun j => by
  rw [hdn j]
  refine ⟨Rat.den_pos _,Nat.lt_of_lt_of_le (QS.rd3 _).den (Nat.pow_le_pow_right (by decide) ?_)⟩
  have := hσ j
  rw [str_len]
  unfold inB
  omega
 obtain ⟨op,xs⟩ := nd
 unfold saN at hs
 rw [Bool.and_eq_true,Bool.and_eq_true] at hs
 obtain ⟨⟨hz0,hD⟩,hs⟩ := hs
 have hz : 0 < z := by simpa [Nat.blt_eq] using hz0
 have hD' : ∀ x ∈ D,x.1=1→x.2 < k := fun x hx h1 => by
  rw [List.all_eq_true] at hD
  have := hD x hx
  rw [h1] at this
  simpa [Nat.blt_eq] using this
 refine ⟨?_,hz,hD'⟩
 have hlow : ∀ {a : Nat} {p : Nat × List Atm},a < k→E[a]? = some p→QW p.1 (M a)∧(∀ x ∈ p.2,x.1=1→x.2 < k)∧q a*proA dn M p.2=M a := fun {a p} ha hp => by
  obtain ⟨p',h1,h2,_,h4,h5⟩ := hM a ha
  rw [hp] at h1
  cases h1
  exact ⟨h2,fun x hx h => Nat.lt_trans (h4 x hx h) ha,h5⟩
 have hpr : ∀ {l : List Atm},(∀ x ∈ l,x.1=1→x.2 < k)→QW (bitL E l) (proA dn M l)∧proA dn M l ≠ 0 := fun h => proA_ok hdn' hM h
 unfold wfN at hwf
 unfold valN
 dsimp only at hs hwf ⊢
 split at hs
 ·rename_i s n d
  simp only [Bool.and_eq_true] at hs
  obtain ⟨⟨h1,h2⟩,h3⟩ := hs
  have h1' : n < 2 ^ z := by simpa [Nat.blt_eq] using h1
  have h2' : d ≠ 0 := by
   have : 0 < d := by simpa [Nat.blt_eq] using h2
   omega
  have hp : proA dn M D=((d : Nat) : Rat) := by
   have := subA_pro (dn := dn) (M := M) (noneA_some h3)
   rw [this]
   cases e : Nat.beq d 1 with
   | true =>
    rw [Nat.beq_eq] at e
    rw [e]
    show (1 : Rat)*1=((1 : Nat) : Rat)
    rw [Rat.mul_one]
    exact_mod_cast rfl
   | false =>
    show (if d=0 then (1 : Rat) else ((d : Nat) : Rat))*1*1=_
    rw [if_neg h2',Rat.mul_one,Rat.mul_one]
  show QW z ((if s=0 then mkRat (n : Int) d else mkRat (-(n : Int)) d)*proA dn M D)
  rw [hp]
  have key : ∀ m : Int,m.natAbs < 2 ^ z→QW z (mkRat m d*((d : Nat) : Rat)) := fun m hm => by
   rw [Rat.mkRat_eq_div,Rat.div_mul_cancel (nat_ne h2')]
   exact QW.of hm hz
  by_cases hs0 : s=0
  ·rw [if_pos hs0]
   exact key _ (by simpa using h1')
  ·rw [if_neg hs0]
   exact key _ (by simpa using h1')
 ·rename_i j
  simp only [Bool.and_eq_true,Nat.ble_eq] at hs
  have hp : proA dn M D=(((Cx.rd (σ j).data.toList).den : Nat) : Rat) := by
   rw [subA_pro (dn := dn) (M := M) (noneA_some hs.2)]
   show ((dn j : Nat) : Rat)*1*1=_
   rw [Rat.mul_one,Rat.mul_one,hdn j]
  show QW z (Cx.rd (σ j).data.toList*proA dn M D)
  rw [hp,mul_low]
  refine QW.of (Nat.lt_of_lt_of_le (QS.rd3 _).num (Nat.pow_le_pow_right (by decide) ?_)) hz
  have := hσ j
  have := hs.1
  unfold inB at this
  rw [str_len]
  omega
 ·simp only [List.all_cons,List.all_nil,Bool.and_true,Bool.and_eq_true] at hwf
  rename_i a b
  have l1 : a < k := by simpa [Nat.blt_eq] using hwf.1
  have l2 : b < k := by simpa [Nat.blt_eq] using hwf.2
  split at hs
  ·rename_i p r hp hr
   split at hs
   ·rename_i c e hc he
    rw [Nat.ble_eq] at hs
    obtain ⟨a1,a2,a3⟩ := hlow l1 hp
    obtain ⟨b1,b2,b3⟩ := hlow l2 hr
    have hc' := hpr (l := c) fun x hx => hD' x (subA_mem hc hx)
    have he' := hpr (l := e) fun x hx => hD' x (subA_mem he hx)
    have e1 : (q a+q b)*proA dn M D=M a*proA dn M c+M b*proA dn M e := by
     rw [Rat.add_mul]
     congr 1
     ·rw [subA_pro hc,← Rat.mul_assoc,a3]
     ·rw [subA_pro he,← Rat.mul_assoc,b3]
    show QW z ((q a+q b)*proA dn M D)
    rw [e1]
    exact ((a1.mul hc'.1).add (b1.mul he'.1)).mono hs
   ·cases hs
  ·cases hs
 ·simp only [List.all_cons,List.all_nil,Bool.and_true,Bool.and_eq_true] at hwf
  rename_i a b
  have l1 : a < k := by simpa [Nat.blt_eq] using hwf.1
  have l2 : b < k := by simpa [Nat.blt_eq] using hwf.2
  split at hs
  ·rename_i p r hp hr
   split at hs
   ·rename_i c e hc he
    rw [Nat.ble_eq] at hs
    obtain ⟨a1,a2,a3⟩ := hlow l1 hp
    obtain ⟨b1,b2,b3⟩ := hlow l2 hr
    have hc' := hpr (l := c) fun x hx => hD' x (subA_mem hc hx)
    have he' := hpr (l := e) fun x hx => hD' x (subA_mem he hx)
    have e1 : (q a - q b)*proA dn M D=M a*proA dn M c - M b*proA dn M e := by
     rw [show (q a - q b)*proA dn M D=q a*proA dn M D - q b*proA dn M D by grind]
     congr 1
     ·rw [subA_pro hc,← Rat.mul_assoc,a3]
     ·rw [subA_pro he,← Rat.mul_assoc,b3]
    show QW z ((q a - q b)*proA dn M D)
    rw [e1]
    exact ((a1.mul hc'.1).sub (b1.mul he'.1)).mono hs
   ·cases hs
  ·cases hs
 ·simp only [List.all_cons,List.all_nil,Bool.and_true,Bool.and_eq_true] at hwf
  rename_i a b
  have l1 : a < k := by simpa [Nat.blt_eq] using hwf.1
  have l2 : b < k := by simpa [Nat.blt_eq] using hwf.2
  split at hs
  ·rename_i p r hp hr
   split at hs
   ·rename_i c hc
    rw [Bool.and_eq_true,Nat.ble_eq] at hs
    obtain ⟨a1,a2,a3⟩ := hlow l1 hp
    obtain ⟨b1,b2,b3⟩ := hlow l2 hr
    have e1 : q a*q b*proA dn M D=M a*M b := by
     rw [subA_pro hc,subA_pro (noneA_some hs.1),← a3,← b3]
     show q a*q b*(proA dn M p.2*(proA dn M r.2*1))=_
     grind
    show QW z (q a*q b*proA dn M D)
    rw [e1]
    exact (a1.mul b1).mono hs.2
   ·cases hs
  ·cases hs
 ·simp only [List.all_cons,List.all_nil,Bool.and_true] at hwf
  rename_i a
  have l1 : a < k := by simpa [Nat.blt_eq] using hwf
  split at hs
  ·rename_i p hp
   rw [Bool.and_eq_true,Nat.ble_eq] at hs
   obtain ⟨a1,a2,a3⟩ := hlow l1 hp
   have e1 : -q a*proA dn M D=-M a := by
    rw [subA_pro (noneA_some hs.1),← a3]
    show -q a*(proA dn M p.2*1)=_
    grind
   show QW z (-q a*proA dn M D)
   rw [e1]
   exact a1.neg.mono hs.2
  ·cases hs
 ·simp only [List.all_cons,List.all_nil,Bool.and_true,Bool.and_eq_true] at hwf
  rename_i a b
  have l1 : a < k := by simpa [Nat.blt_eq] using hwf.1
  have l2 : b < k := by simpa [Nat.blt_eq] using hwf.2
  split at hs
  ·rename_i p r D' hp hr hD1
   split at hs
   ·rename_i c hc
    split at hs
    ·rename_i e he
     rw [Nat.ble_eq] at hs
     obtain ⟨a1,a2,a3⟩ := hlow l1 hp
     obtain ⟨b1,b2,b3⟩ := hlow l2 hr
     have he' := hpr (l := e) fun x hx => b2 x (subA_mem he hx)
     by_cases h0 : M b=0
     ·have hb : q b=0 := by
       rw [h0] at b3
       exact (Rat.mul_eq_zero.1 b3).resolve_right (hpr b2).2
      show QW z (q a / q b*proA dn M D)
      rw [hb,Rat.div_def,Rat.inv_zero,Rat.mul_zero,Rat.zero_mul]
      exact QW.zero hz
     ·have hb : q b ≠ 0 := fun h => h0 (by rw [← b3,h,Rat.zero_mul])
      have e1 : q a / q b*proA dn M D=M a*proA dn M e := by
       have e2 : proA dn M D=M b*proA dn M D' := by
        rw [remA_pro hD1]
        show (if M b=0 then (1 : Rat) else M b)*_=_
        rw [if_neg h0]
       have e3 : q a / q b*q b=q a := Rat.div_mul_cancel hb
       rw [e2,← a3,← b3,subA_pro hc,subA_pro he]
       generalize q a / q b=t at e3
       rw [← e3]
       grind
      show QW z (q a / q b*proA dn M D)
      rw [e1]
      exact (a1.mul he'.1).mono hs
    ·cases hs
   ·cases hs
  ·cases hs
 ·have hD0 : D=[] := by
   rw [Nat.beq_eq] at hs
   exact List.length_eq_zero_iff.1 hs
  rw [hD0]
  have hv : valN σ q (7,xs)=0 ∨ valN σ q (7,xs)=1 := by
   unfold valN
   dsimp only
   split
   all_goals first | (split; exact Or.inl rfl; exact Or.inr rfl) | exact Or.inl rfl | (rename_i h; cases h)
  show QW z (valN σ q (7,xs)*1)
  rw [Rat.mul_one]
  rcases hv with h | h
  ·rw [h]
   exact QW.zero hz
  ·rw [h]
   exact QW.one hz
 ·rename_i i ys
  rw [Bool.and_eq_true,Bool.and_eq_true,List.all_eq_true] at hs
  obtain ⟨h1,h2,h3⟩ := hs
  have hD0 : D=[] := by
   rw [Nat.beq_eq] at h1
   exact List.length_eq_zero_iff.1 h1
  have hwf' : ys.all (Nat.blt · k)=true := hwf
  rw [List.all_eq_true] at hwf'
  have hlt : ∀ c ∈ ys,c < k := fun c hc => by simpa [Nat.blt_eq] using hwf' c hc
  split at h3
  ·rename_i a ha
   split at h3
   ·rename_i p hp
    split at h3
    ·rename_i e he
     rw [Nat.ble_eq] at h3
     obtain ⟨hi,ha'⟩ := List.getElem?_eq_some_iff.1 ha
     have hmem : a ∈ ys := List.mem_of_getElem? ha
     have hg : (ys.map q).getD i 0=q a := by
      rw [List.getD_eq_getElem?_getD,List.getElem?_map,ha]
      rfl
     show QW z ((ys.map q).getD i 0*fac (ys.map q)*proA dn M D)
     rw [hg,hD0]
     show QW z (q a*fac (ys.map q)*1)
     rw [Rat.mul_one]
     -- what makes all of them whole
     have hU : ∀ x ∈ uniA E ys [],x.1=1→x.2 < k := uniA_low hM hlt (fun x hx => by cases hx)
     have hUp := hpr hU
     have hw := whole hUp.1.wh
     generalize hm : (proA dn M (uniA E ys [])).num=m at hw
     have hm0 : m ≠ 0 := fun h => hUp.2 (by rw [hw,h]; rfl)
     have hall : ∀ y ∈ ys.map q,(y*((m : Int) : Rat)).den=1 := fun y hy => by
      obtain ⟨c,hc,rfl⟩ := List.mem_map.1 hy
      have h4 := h2 c hc
      split at h4
      ·rename_i r hr
       obtain ⟨c1,c2,c3⟩ := hlow (hlt c hc) hr
       cases hs2 : subA (uniA E ys []) r.2 with
       | none => rw [hs2] at h4; cases h4
       | some f =>
        have hf := hpr (l := f) fun x hx => hU x (subA_mem hs2 hx)
        rw [← hw,subA_pro hs2,← Rat.mul_assoc,c3]
        exact (c1.mul hf.1).wh
      ·cases h4
     obtain ⟨a1,a2,a3⟩ := hlow (hlt a hmem) hp
     have he' := hpr (l := e) fun x hx => hU x (subA_mem he hx)
     refine fac_whole (List.mem_map_of_mem hmem) hm0 hall ?_
     rw [← hw,subA_pro he,← Rat.mul_assoc,a3]
     exact (a1.mul he'.1).mono h3
    ·cases h3
   ·cases h3
  ·cases h3
 ·cases hs
end
theorem QS_over {x m p : Rat} {z y K : Nat} (hm : QW z m) (hp : QW y p) (h0 : p ≠ 0) (e : x*p=m) (hz : z≤K) (hy : y≤K) : QS K x := by
 have hw := whole hp.wh
 generalize p.num=P at hw
 have hP : P ≠ 0 := fun h => h0 (by rw [hw,h]; rfl)
 have hpos : 0 < P.natAbs := Int.natAbs_pos.2 hP
 have hd : x.den ∣ P.natAbs := den_dvd (x := x) (m := P) (by rw [← hw,e]; exact hm.wh)
 have hdle : x.den≤P.natAbs := Nat.le_of_dvd hpos hd
 have hPlt : P.natAbs < 2 ^ y := by
  have := hp.qs.num
  rw [hw,Rat.num_intCast] at this
  exact this
 have hmw := whole hm.wh
 have hmlt := hm.qs.num
 generalize m.num=n at hmw hmlt
 have h1 : x*((x.den : Nat) : Rat)=((x.num : Int) : Rat) := mul_low x
 have h2 : ((x.num : Int) : Rat)*((P : Int) : Rat)=((n : Int) : Rat)*(((x.den : Nat) : Int) : Rat) := by
  rw [← h1,← hw,← hmw,← e,Rat.intCast_natCast]
  grind
 have h3 : x.num*P=n*(x.den : Int) := by exact_mod_cast h2
 have h4 : x.num.natAbs*P.natAbs=n.natAbs*x.den := by
  have := congrArg Int.natAbs h3
  rwa [Int.natAbs_mul,Int.natAbs_mul,Int.natAbs_natCast] at this
 have h5 : x.num.natAbs≤n.natAbs := by
  refine Nat.le_of_mul_le_mul_right (c := P.natAbs) ?_ hpos
  rw [h4]
  exact Nat.mul_le_mul_left _ hdle
 exact ⟨Nat.lt_of_lt_of_le (Nat.lt_of_le_of_lt h5 hmlt) (Nat.pow_le_pow_right (by decide) hz),Nat.lt_of_lt_of_le (Nat.lt_of_le_of_lt hdle hPlt) (Nat.pow_le_pow_right (by decide) hy)⟩
section
variable {N : List Nd} {Z : List Nat} {E : List (Nat × List Atm)} {q : Nat→Rat}
theorem sizes_okA {σ : Nat→ByteArray} (hσ : ∀ j,(σ j).size≤1048576) (hw : wfB 0 N=true) (hz : saB E 0 N E Z=true) (hq : ∀ (a : Nat) nd,N[a]? = some nd→q a=valN σ q nd) (h0 : ∀ a,N.length≤a→q a=0) : (∀ (a : Nat) z,Z[a]? = some z→QS z (q a))∧∀ a,QS 1000000000000 (q a) := by
 have hl := saB_len hz
 have key : ∀ k,k≤N.length→∃ M,BelA E (fun j => (Cx.rd (σ j).data.toList).den) M q k := by
  intro k
  induction k with
  | zero => exact fun _ => ⟨fun _ => 0,fun a ha => by omega⟩
  | succ k ih =>
   intro hk
   obtain ⟨M,hM⟩ := ih (by omega)
   have hn : N[k]? = some N[k] := List.getElem?_eq_getElem (by omega)
   obtain ⟨p,z,h1,_,h3,_⟩ := saB_get hz hn
   rw [Nat.zero_add] at h3
   have hwf := wfB_get hw hn
   rw [Nat.zero_add] at hwf
   obtain ⟨g1,g2,g3⟩ := node_ok hσ (fun _ => rfl) hM hwf h3
   rw [← hq k _ hn] at g1
   refine ⟨fun x => if x=k then q k*proA (fun j => (Cx.rd (σ j).data.toList).den) M p.2 else M x,fun a ha => ?_⟩
   have same : ∀ {l : List Atm},(∀ x ∈ l,x.1=1→x.2 < k)→proA (fun j => (Cx.rd (σ j).data.toList).den) (fun x => if x=k then q k*proA (fun j => (Cx.rd (σ j).data.toList).den) M p.2 else M x) l=proA (fun j => (Cx.rd (σ j).data.toList).den) M l := fun hl => (proA_congr fun x hx h => by
    have := hl x hx h
    rw [if_neg (by omega)]).symm
   by_cases e : a=k
   ·subst e
    refine ⟨p,h1,?_,g2,g3,?_⟩
    ·show QW p.1 (if a=a then _ else _)
     rw [if_pos rfl]
     exact g1
    ·rw [same g3]
     show _=(if a=a then _ else _)
     rw [if_pos rfl]
   ·obtain ⟨p',f1,f2,f3,f4,f5⟩ := hM a (by omega)
    refine ⟨p',f1,?_,f3,f4,?_⟩
    ·show QW p'.1 (if a=k then _ else M a)
     rw [if_neg e]
     exact f2
    ·rw [same fun x hx h => by have := f4 x hx h; omega]
     show _=(if a=k then _ else M a)
     rw [if_neg e]
     exact f5
 obtain ⟨M,hM⟩ := key N.length (Nat.le_refl _)
 have hdn : ∀ j,0 < (Cx.rd (σ j).data.toList).den∧(Cx.rd (σ j).data.toList).den < 2 ^ inB := fun j => by
  refine ⟨Rat.den_pos _,Nat.lt_of_lt_of_le (QS.rd3 _).den (Nat.pow_le_pow_right (by decide) ?_)⟩
  have := hσ j
  rw [str_len]
  unfold inB
  omega
 have h2 : ∀ (a : Nat) z,Z[a]? = some z→QS z (q a)∧z≤1000000000000 := by
  intro a z ha
  have hlt : a < N.length := by
   have := (List.getElem?_eq_some_iff.1 ha).1
   omega
  have hn : N[a]? = some N[a] := List.getElem?_eq_getElem hlt
  obtain ⟨p,z',h1,h2,_,h4,h5,h6⟩ := saB_get hz hn
  rw [ha] at h2
  cases h2
  obtain ⟨p',f1,f2,f3,f4,f5⟩ := hM a hlt
  rw [h1] at f1
  cases f1
  have hp := proA_ok hdn hM (l := p.2) fun x hx h => Nat.lt_trans (f4 x hx h) hlt
  exact ⟨QS_over f2 hp.1 hp.2 f5 h4 h5,h6⟩
 refine ⟨fun a z h => (h2 a z h).1,fun a => ?_⟩
 by_cases ha : a < Z.length
 ·have := h2 a _ (List.getElem?_eq_getElem ha)
  exact this.1.mono this.2
 ·rw [h0 a (by omega)]
  exact QS.zero.mono (by decide)
theorem hy_ofA {L C : List (List Nat × Nat)} {σ : Nat→ByteArray} {H : List (Nat × Nat × Nat × Nat)} (hσ : ∀ j,(σ j).size≤1048576) (hw : wfB 0 N=true) (hz : saB E 0 N E Z=true) (hl : litB N L=true) (hcn : canB N C=true) (hq : ∀ (a : Nat) nd,N[a]? = some nd→q a=valN σ q nd) (h0 : ∀ a,N.length≤a→q a=0) (hH : hAll q H) : Hy N H L C Z q σ where
 nat := hq
 qs := (sizes_okA hσ hw hz hq h0).2
 zs := (sizes_okA hσ hw hz hq h0).1
 par := hσ
 lit := fun s b h => lit_rd hl hq h
 k0 := fun a r h => kn_at hH h
 k1 := fun a r h => kn_at hH h
 k2 := fun a r h => kn_at hH h
 k3 := fun a b r h => kn_at hH h
 k4 := fun l a b r h1 h2 => by
  have h3 : Nat.beq 1 r=true ↔ q a=q b := kn_at hH h2
  rw [h3,← can_tx hcn hq h1]
  exact ⟨fun e => by rw [e],fun e => tellS_inj (bytesN_inj e)⟩
 k6 := fun a b r h => kn_at hH h
 k5 := fun a r h => kn_at hH h
end
end Go.Proofs.YtikldelfdioimaaGreatDoor
/- CFspaced -/
namespace Go.Proofs.YtikldelfdioimaaGreatDoor
open Go.RowKit Cx
theorem closed_spaced : Closed 9 :=
 closed_told (N := [(0,[0,1,1]),(0,[0,0,1]),(3,[1,0]),(3,[0,1]),(3,[1,1]),(4,[3,3]),(4,[4,4]),(3,[5,6]),(4,[4,2]),(4,[2,3]),(3,[8,9]),(4,[2,4]),(4,[3,2]),(3,[11,12]),(4,[7,0]),(2,[1,14]),(4,[10,1]),(2,[15,16]),(4,[13,1]),(2,[17,18]),(5,[19]),(8,[0,7,10,13,20]),(8,[1,7,10,13,20]),(8,[2,7,10,13,20]),(8,[3,7,10,13,20]),(2,[1,0]),(2,[1,1]),(0,[0,2,1]),(6,[25,27]),(6,[26,27]),(4,[3,28]),(2,[1,30]),(4,[4,29]),(2,[31,32]),(2,[33,32]),(5,[34]),(8,[0,3,4,4,35]),(8,[1,3,4,4,35]),(8,[2,3,4,4,35]),(8,[3,3,4,4,35]),(2,[1,32]),(2,[40,30]),(2,[41,32]),(5,[42]),(8,[0,4,3,4,43]),(8,[1,4,3,4,43]),(8,[2,4,3,4,43]),(8,[3,4,3,4,43]),(2,[40,32]),(2,[48,30]),(5,[49]),(8,[0,4,4,3,50]),(8,[1,4,4,3,50]),(8,[2,4,4,3,50]),(8,[3,4,4,3,50]),(4,[45,53]),(4,[46,52]),(3,[55,56]),(4,[46,51]),(4,[44,53]),(3,[58,59]),(4,[44,52]),(4,[45,51]),(3,[61,62]),(4,[36,57]),(2,[1,64]),(4,[37,60]),(2,[65,66]),(4,[38,63]),(2,[67,68]),(4,[52,38]),(4,[53,37]),(3,[70,71]),(4,[53,36]),(4,[51,38]),(3,[73,74]),(4,[51,37]),(4,[52,36]),(3,[76,77]),(4,[37,46]),(4,[38,45]),(3,[79,80]),(4,[38,44]),(4,[36,46]),(3,[82,83]),(4,[36,45]),(4,[37,44]),(3,[85,86]),(4,[57,39]),(2,[1,88]),(4,[72,47]),(2,[89,90]),(4,[81,54]),(2,[91,92]),(4,[60,39]),(2,[1,94]),(4,[75,47]),(2,[95,96]),(4,[84,54]),(2,[97,98]),(4,[63,39]),(2,[1,100]),(4,[78,47]),(2,[101,102]),(4,[87,54]),(2,[103,104]),(5,[69]),(6,[93,106]),(6,[99,106]),(6,[105,106]),(3,[1,107]),(3,[1,108]),(3,[1,109]),(4,[110,110]),(2,[1,113]),(4,[111,111]),(2,[114,115]),(4,[112,112]),(2,[116,117]),(0,[1,1,1]),(0,[0,1,2]),(0,[0,3,4]),(4,[4,3]),(3,[6,122]),(4,[3,4]),(3,[6,124]),(4,[3,7]),(2,[1,126]),(4,[4,123]),(2,[127,128]),(4,[4,125]),(2,[129,130]),(4,[2,2]),(2,[1,132]),(2,[133,5]),(2,[134,6])]) (H := [(0,7,0,0),(0,3,0,0),(0,4,0,1),(0,69,0,0),(4,21,0,1),(4,22,0,1),(4,23,0,1),(4,24,119,1),(4,107,120,1),(4,108,120,1),(4,109,120,1),(4,118,121,1),(4,131,0,1),(4,135,27,1)]) (K := []) (L := [([49],0),([48],1),([45,49],119),([49,47,50],120),([51,47,52],121),([50],27)]) (C := [([49],0),([45,49],119),([49,47,50],120),([51,47,52],121),([50],27)]) (Z := [2,2,5,5,5,10,10,21,10,10,21,10,10,21,23,26,23,50,23,74,74,371,371,371,371,5,5,3,8,8,13,16,13,30,44,44,221,221,221,221,16,30,44,44,221,221,221,221,30,44,44,221,221,221,221,442,442,885,442,442,885,442,442,885,1106,1109,1106,2216,1106,3323,442,442,885,442,442,885,442,442,885,442,442,885,442,442,885,442,442,885,1106,1109,1106,2216,1106,3323,1106,1109,1106,2216,1106,3323,1106,1109,1106,2216,1106,3323,3323,6646,6646,6646,6649,6649,6649,13298,13301,13298,26600,13298,39899,2,3,4,10,21,10,21,26,29,26,56,26,83,10,13,24,35]) (cl := []) 8 (fun _ h => by cases h) (by kernel_rfl) (by kernel_rfl) (by kernel_rfl) (by kernel_rfl) (by kernel_rfl) (by kernel_rfl) (by kernel_rfl)
end Go.Proofs.YtikldelfdioimaaGreatDoor
/- MEMRA -/
namespace Go.Proofs.YtikldelfdioimaaGreatDoor
open Go.RowKit Cx
def eM_N : List Nd := [(1,[0]),(1,[1]),(1,[2]),(1,[3]),(4,[0,0]),(4,[1,1]),(2,[4,5]),(4,[2,2]),(2,[6,7]),(8,[0,0,1,2,3]),(8,[1,0,1,2,3]),(8,[2,0,1,2,3]),(8,[3,0,1,2,3]),(1,[4]),(1,[5]),(1,[6]),(1,[7]),(4,[13,13]),(4,[14,14]),(2,[17,18]),(4,[15,15]),(2,[19,20]),(8,[0,13,14,15,16]),(8,[1,13,14,15,16]),(8,[2,13,14,15,16]),(8,[3,13,14,15,16]),(1,[8]),(1,[9]),(1,[10]),(1,[11]),(4,[26,26]),(4,[27,27]),(2,[30,31]),(4,[28,28]),(2,[32,33]),(8,[0,26,27,28,29]),(8,[1,26,27,28,29]),(8,[2,26,27,28,29]),(8,[3,26,27,28,29]),(4,[23,37]),(4,[24,36]),(3,[39,40]),(4,[24,35]),(4,[22,37]),(3,[42,43]),(4,[22,36]),(4,[23,35]),(3,[45,46]),(4,[9,41]),(0,[0,0,1]),(2,[49,48]),(4,[10,44]),(2,[50,51]),(4,[11,47]),(2,[52,53]),(4,[36,11]),(4,[37,10]),(3,[55,56]),(4,[37,9]),(4,[35,11]),(3,[58,59]),(4,[35,10]),(4,[36,9]),(3,[61,62]),(4,[10,24]),(4,[11,23]),(3,[64,65]),(4,[11,22]),(4,[9,24]),(3,[67,68]),(4,[9,23]),(4,[10,22]),(3,[70,71]),(4,[41,12]),(2,[49,73]),(4,[57,25]),(2,[74,75]),(4,[66,38]),(2,[76,77]),(4,[44,12]),(2,[49,79]),(4,[60,25]),(2,[80,81]),(4,[69,38]),(2,[82,83]),(4,[47,12]),(2,[49,85]),(4,[63,25]),(2,[86,87]),(4,[72,38]),(2,[88,89]),(4,[78,78]),(4,[84,84]),(2,[91,92]),(4,[90,90]),(2,[93,94]),(4,[66,66]),(4,[69,69]),(2,[96,97]),(4,[72,72]),(2,[98,99]),(4,[9,25]),(4,[10,25]),(4,[11,25]),(4,[22,12]),(4,[23,12]),(4,[24,12]),(3,[101,104]),(3,[102,105]),(3,[103,106]),(4,[107,107]),(4,[108,108]),(2,[110,111]),(4,[109,109]),(2,[112,113]),(4,[10,37]),(4,[11,36]),(3,[115,116]),(4,[11,35]),(4,[9,37]),(3,[118,119]),(4,[9,36]),(4,[10,35]),(3,[121,122]),(4,[117,117]),(4,[120,120]),(2,[124,125]),(4,[123,123]),(2,[126,127]),(4,[9,38]),(4,[10,38]),(4,[11,38]),(4,[35,12]),(4,[36,12]),(4,[37,12]),(3,[129,132]),(3,[130,133]),(3,[131,134]),(4,[135,135]),(4,[136,136]),(2,[138,139]),(4,[137,137]),(2,[140,141]),(4,[14,28]),(4,[15,27]),(3,[143,144]),(4,[0,145]),(4,[13,28]),(4,[15,26]),(3,[147,148]),(4,[1,149]),(5,[150]),(4,[13,27]),(4,[14,26]),(3,[152,153]),(4,[2,154]),(2,[146,151]),(2,[156,155]),(6,[15,28]),(4,[158,26]),(3,[13,159]),(4,[158,27]),(3,[14,161]),(4,[158,28]),(3,[15,163]),(6,[2,28]),(4,[165,26]),(3,[0,166]),(4,[165,27]),(3,[1,168]),(4,[165,28]),(3,[2,170]),(4,[158,29]),(3,[16,172]),(4,[165,29]),(3,[3,174]),(6,[14,27]),(4,[176,26]),(3,[13,177]),(4,[176,27]),(3,[14,179]),(4,[176,28]),(3,[15,181]),(6,[1,27]),(4,[183,26]),(3,[0,184]),(4,[183,27]),(3,[1,186]),(4,[183,28]),(3,[2,188]),(4,[176,29]),(3,[16,190]),(4,[183,29]),(3,[3,192]),(6,[13,26]),(4,[194,26]),(3,[13,195]),(4,[194,27]),(3,[14,197]),(4,[194,28]),(3,[15,199]),(6,[0,26]),(4,[201,26]),(3,[0,202]),(4,[201,27]),(3,[1,204]),(4,[201,28]),(3,[2,206]),(4,[194,29]),(3,[16,208]),(4,[201,29]),(3,[3,210]),(6,[173,175]),(4,[212,167]),(3,[160,213]),(4,[212,169]),(3,[162,215]),(4,[212,171]),(3,[164,217]),(4,[212,175]),(3,[173,219]),(6,[191,193]),(4,[221,185]),(3,[178,222]),(4,[221,187]),(3,[180,224]),(4,[221,189]),(3,[182,226]),(4,[221,193]),(3,[191,228]),(6,[209,211]),(4,[230,203]),(3,[196,231]),(4,[230,205]),(3,[198,233]),(4,[230,207]),(3,[200,235]),(4,[230,211]),(3,[209,237]),(6,[182,189]),(4,[239,185]),(3,[178,240]),(4,[239,187]),(3,[180,242]),(4,[239,189]),(3,[182,244]),(4,[239,193]),(3,[191,246]),(6,[1,14]),(4,[248,13]),(3,[0,249]),(4,[248,14]),(3,[1,251]),(4,[248,15]),(3,[2,253]),(6,[27,14]),(4,[255,13]),(3,[26,256]),(4,[255,14]),(3,[27,258]),(4,[255,15]),(3,[28,260]),(6,[254,261]),(4,[262,257]),(3,[250,263]),(4,[262,259]),(3,[252,265]),(4,[262,261]),(3,[254,267]),(4,[248,16]),(3,[3,269]),(4,[255,16]),(3,[29,271]),(4,[262,272]),(3,[270,273]),(6,[200,207]),(4,[275,203]),(3,[196,276]),(4,[275,205]),(3,[198,278]),(4,[275,207]),(3,[200,280]),(4,[275,211]),(3,[209,282]),(6,[198,205]),(4,[284,203]),(3,[196,285]),(4,[284,205]),(3,[198,287]),(4,[284,207]),(3,[200,289]),(4,[284,211]),(3,[209,291]),(6,[0,13]),(4,[293,13]),(3,[0,294]),(4,[293,14]),(3,[1,296]),(4,[293,15]),(3,[2,298]),(6,[26,13]),(4,[300,13]),(3,[26,301]),(4,[300,14]),(3,[27,303]),(4,[300,15]),(3,[28,305]),(6,[299,306]),(4,[307,302]),(3,[295,308]),(4,[307,304]),(3,[297,310]),(4,[307,306]),(3,[299,312]),(4,[293,16]),(3,[3,314]),(4,[300,16]),(3,[29,316]),(4,[307,317]),(3,[315,318]),(6,[297,304]),(4,[320,302]),(3,[295,321]),(4,[320,304]),(3,[297,323]),(4,[320,306]),(3,[299,325]),(4,[320,317]),(3,[315,327]),(6,[175,173]),(4,[329,160]),(3,[167,330]),(4,[329,162]),(3,[169,332]),(4,[329,164]),(3,[171,334]),(4,[329,173]),(3,[175,336]),(6,[193,191]),(4,[338,178]),(3,[185,339]),(4,[338,180]),(3,[187,341]),(4,[338,182]),(3,[189,343]),(4,[338,191]),(3,[193,345]),(6,[211,209]),(4,[347,196]),(3,[203,348]),(4,[347,198]),(3,[205,350]),(4,[347,200]),(3,[207,352]),(4,[347,209]),(3,[211,354]),(6,[189,182]),(4,[356,178]),(3,[185,357]),(4,[356,180]),(3,[187,359]),(4,[356,182]),(3,[189,361]),(4,[356,191]),(3,[193,363]),(6,[207,200]),(4,[365,196]),(3,[203,366]),(4,[365,198]),(3,[205,368]),(4,[365,200]),(3,[207,370]),(4,[365,209]),(3,[211,372]),(6,[205,198]),(4,[374,196]),(3,[203,375]),(4,[374,198]),(3,[205,377]),(4,[374,200]),(3,[207,379]),(4,[374,209]),(3,[211,381]),(6,[14,1]),(4,[383,0]),(3,[13,384]),(4,[383,1]),(3,[14,386]),(4,[383,2]),(3,[15,388]),(6,[27,1]),(4,[390,0]),(3,[26,391]),(4,[390,1]),(3,[27,393]),(4,[390,2]),(3,[28,395]),(6,[389,396]),(4,[397,392]),(3,[385,398]),(4,[397,394]),(3,[387,400]),(4,[397,396]),(3,[389,402]),(4,[383,3]),(3,[16,404]),(4,[390,3]),(3,[29,406]),(4,[397,407]),(3,[405,408]),(6,[13,0]),(4,[410,0]),(3,[13,411]),(4,[410,1]),(3,[14,413]),(4,[410,2]),(3,[15,415]),(6,[26,0]),(4,[417,0]),(3,[26,418]),(4,[417,1]),(3,[27,420]),(4,[417,2]),(3,[28,422]),(6,[416,423]),(4,[424,419]),(3,[412,425]),(4,[424,421]),(3,[414,427]),(4,[424,423]),(3,[416,429]),(4,[410,3]),(3,[16,431]),(4,[417,3]),(3,[29,433]),(4,[424,434]),(3,[432,435]),(6,[414,421]),(4,[437,419]),(3,[412,438]),(4,[437,421]),(3,[414,440]),(4,[437,423]),(3,[416,442]),(4,[437,434]),(3,[432,444]),(5,[54]),(6,[78,446]),(6,[84,446]),(6,[90,446]),(4,[0,447]),(4,[1,448]),(4,[2,449]),(2,[450,451]),(2,[453,452]),(2,[454,3]),(4,[13,447]),(4,[14,448]),(4,[15,449]),(2,[456,457]),(2,[459,458]),(2,[460,16]),(4,[26,447]),(4,[27,448]),(4,[28,449]),(2,[462,463]),(2,[465,464]),(2,[466,29])]
def eM_L : List (List Nat × Nat) := []
def eM_C : List (List Nat × Nat) := []
def eM_Z : List Nat := [3495260,3495260,3495260,3495260,6990519,6990519,13981038,6990519,20971558,13981037,13981037,13981037,13981037,3495260,3495260,3495260,3495260,6990519,6990519,13981038,6990519,20971558,13981037,13981037,13981037,13981037,3495260,3495260,3495260,3495260,6990519,6990519,13981038,6990519,20971558,13981037,13981037,13981037,13981037,27962074,27962074,27962076,27962074,27962074,27962076,27962074,27962074,27962076,41943113,1,41943115,41943113,41943117,41943113,41943119,27962074,27962074,27962076,27962074,27962074,27962076,27962074,27962074,27962076,27962074,27962074,27962076,27962074,27962074,27962076,27962074,27962074,27962076,41943113,41943115,41943113,41943117,41943113,41943119,41943113,41943115,41943113,41943117,41943113,41943119,41943113,41943115,41943113,41943117,41943113,41943119,83886238,83886238,83886240,83886238,83886242,55924152,55924152,55924154,55924152,55924156,27962074,27962074,27962074,27962074,27962074,27962074,27962076,27962076,27962076,55924152,55924152,55924154,55924152,55924156,27962074,27962074,27962076,27962074,27962074,27962076,27962074,27962074,27962076,55924152,55924152,55924154,55924152,55924156,27962074,27962074,27962074,27962074,27962074,27962074,27962076,27962076,27962076,55924152,55924152,55924154,55924152,55924156,6990519,6990519,13981038,17476297,6990519,6990519,13981038,17476297,17476297,6990519,6990519,13981038,17476297,27962076,31457337,6990519,10485778,13981039,10485778,13981039,10485778,10485780,6990519,10485778,13981039,10485778,13981039,10485778,10485780,10485778,13981039,10485778,13981039,6990519,10485778,13981039,10485778,10485780,10485778,13981039,6990519,10485778,13981039,10485778,10485780,10485778,13981039,10485778,13981039,10485778,13981039,6990519,10485778,10485780,10485778,13981039,10485778,13981039,6990519,10485778,10485780,10485778,13981039,10485778,13981039,10485778,13981039,10485778,13981039,20971558,34952597,38447858,34952597,38447858,31457338,31457340,34952597,34952599,20971558,34952597,38447858,31457338,31457340,34952597,38447858,34952597,34952599,20971558,31457338,31457340,34952597,38447858,34952597,38447858,34952597,34952599,20971558,34952597,38447858,31457338,31457340,34952597,34952599,34952597,38447858,6990519,10485778,13981039,10485778,10485780,10485778,13981039,6990519,10485778,13981039,10485778,10485780,10485778,13981039,20971558,34952597,38447858,31457338,31457340,34952597,34952599,10485778,13981039,10485778,13981039,34952597,38447858,20971558,31457338,31457340,34952597,38447858,34952597,34952599,34952597,38447858,20971558,31457338,31457340,34952597,34952599,34952597,38447858,34952597,38447858,6990519,10485778,10485780,10485778,13981039,10485778,13981039,6990519,10485778,10485780,10485778,13981039,10485778,13981039,20971558,31457338,31457340,34952597,38447858,34952597,34952599,10485778,13981039,10485778,13981039,34952597,38447858,20971558,31457338,31457340,34952597,34952599,34952597,38447858,34952597,38447858,20971558,34952597,38447858,34952597,38447858,31457338,31457340,34952597,34952599,20971558,34952597,38447858,31457338,31457340,34952597,38447858,34952597,34952599,20971558,31457338,31457340,34952597,38447858,34952597,38447858,34952597,34952599,20971558,34952597,38447858,31457338,31457340,34952597,34952599,34952597,38447858,20971558,31457338,31457340,34952597,38447858,34952597,34952599,34952597,38447858,20971558,31457338,31457340,34952597,34952599,34952597,38447858,34952597,38447858,6990519,10485778,13981039,10485778,10485780,10485778,13981039,6990519,10485778,13981039,10485778,10485780,10485778,13981039,20971558,34952597,38447858,31457338,31457340,34952597,34952599,10485778,13981039,10485778,13981039,34952597,38447858,6990519,10485778,10485780,10485778,13981039,10485778,13981039,6990519,10485778,10485780,10485778,13981039,10485778,13981039,20971558,31457338,31457340,34952597,38447858,34952597,34952599,10485778,13981039,10485778,13981039,34952597,38447858,20971558,31457338,31457340,34952597,34952599,34952597,38447858,34952597,38447858,41943119,41943120,41943120,41943120,45438379,45438379,45438379,48933640,52428901,55924162,45438379,45438379,45438379,48933640,52428901,55924162,45438379,45438379,45438379,48933640,52428901,55924162]
def eM_D0 : List Atm := [(0,1),(0,4),(0,6),(0,8),(0,10)]
def eM_D1 : List Atm := [(0,6),(0,10),(1,28)]
def eM_D2 : List Atm := [(0,2),(0,10),(1,28)]
def eM_D3 : List Atm := [(0,5),(0,9),(1,27)]
def eM_D4 : List Atm := [(0,1),(0,9),(1,27)]
def eM_D5 : List Atm := [(0,4),(0,8),(1,26)]
def eM_D6 : List Atm := [(0,0),(0,8),(1,26)]
def eM_D7 : List Atm := [(0,2),(0,6),(0,7),(0,10),(1,28),(1,175)]
def eM_D8 : List Atm := [(0,2),(0,3),(0,6),(0,7),(0,11),(1,28),(1,175)]
def eM_D9 : List Atm := [(0,1),(0,5),(0,7),(0,9),(1,27),(1,193)]
def eM_D10 : List Atm := [(0,1),(0,3),(0,5),(0,7),(0,11),(1,27),(1,193)]
def eM_D11 : List Atm := [(0,0),(0,4),(0,7),(0,8),(1,26),(1,211)]
def eM_D12 : List Atm := [(0,0),(0,3),(0,4),(0,7),(0,11),(1,26),(1,211)]
def eM_D13 : List Atm := [(0,1),(0,5),(0,6),(0,9),(1,27),(1,189)]
def eM_D14 : List Atm := [(0,1),(0,2),(0,5),(0,6),(0,10),(1,27),(1,189)]
def eM_D15 : List Atm := [(0,1),(0,5),(1,14)]
def eM_D16 : List Atm := [(0,5),(0,9),(1,14)]
def eM_D17 : List Atm := [(0,1),(0,2),(0,5),(0,9),(1,14),(1,261)]
def eM_D18 : List Atm := [(0,1),(0,2),(0,6),(0,9),(0,10),(1,14),(1,261)]
def eM_D19 : List Atm := [(0,0),(0,4),(0,6),(0,8),(1,26),(1,207)]
def eM_D20 : List Atm := [(0,0),(0,2),(0,4),(0,6),(0,10),(1,26),(1,207)]
def eM_D21 : List Atm := [(0,0),(0,4),(0,5),(0,8),(1,26),(1,205)]
def eM_D22 : List Atm := [(0,0),(0,1),(0,4),(0,5),(0,9),(1,26),(1,205)]
def eM_D23 : List Atm := [(0,0),(0,4),(1,13)]
def eM_D24 : List Atm := [(0,4),(0,8),(1,13)]
def eM_D25 : List Atm := [(0,0),(0,2),(0,4),(0,8),(1,13),(1,306)]
def eM_D26 : List Atm := [(0,0),(0,2),(0,6),(0,8),(0,10),(1,13),(1,306)]
def eM_D27 : List Atm := [(0,0),(0,1),(0,4),(0,8),(1,13),(1,304)]
def eM_D28 : List Atm := [(0,0),(0,1),(0,5),(0,8),(0,9),(1,13),(1,304)]
def eM_D29 : List Atm := [(0,2),(0,3),(0,6),(0,10),(1,28),(1,173)]
def eM_D30 : List Atm := [(0,2),(0,3),(0,6),(0,7),(0,11),(1,28),(1,173)]
def eM_D31 : List Atm := [(0,1),(0,3),(0,5),(0,9),(1,27),(1,191)]
def eM_D32 : List Atm := [(0,1),(0,3),(0,5),(0,7),(0,11),(1,27),(1,191)]
def eM_D33 : List Atm := [(0,0),(0,3),(0,4),(0,8),(1,26),(1,209)]
def eM_D34 : List Atm := [(0,0),(0,3),(0,4),(0,7),(0,11),(1,26),(1,209)]
def eM_D35 : List Atm := [(0,1),(0,2),(0,5),(0,9),(1,27),(1,182)]
def eM_D36 : List Atm := [(0,1),(0,2),(0,5),(0,6),(0,10),(1,27),(1,182)]
def eM_D37 : List Atm := [(0,0),(0,2),(0,4),(0,8),(1,26),(1,200)]
def eM_D38 : List Atm := [(0,0),(0,2),(0,4),(0,6),(0,10),(1,26),(1,200)]
def eM_D39 : List Atm := [(0,0),(0,1),(0,4),(0,8),(1,26),(1,198)]
def eM_D40 : List Atm := [(0,0),(0,1),(0,4),(0,5),(0,9),(1,26),(1,198)]
def eM_D41 : List Atm := [(0,1),(0,5),(1,1)]
def eM_D42 : List Atm := [(0,1),(0,9),(1,1)]
def eM_D43 : List Atm := [(0,1),(0,5),(0,6),(0,9),(1,1),(1,396)]
def eM_D44 : List Atm := [(0,2),(0,5),(0,6),(0,9),(0,10),(1,1),(1,396)]
def eM_D45 : List Atm := [(0,0),(0,4),(1,0)]
def eM_D46 : List Atm := [(0,0),(0,8),(1,0)]
def eM_D47 : List Atm := [(0,0),(0,4),(0,6),(0,8),(1,0),(1,423)]
def eM_D48 : List Atm := [(0,2),(0,4),(0,6),(0,8),(0,10),(1,0),(1,423)]
def eM_D49 : List Atm := [(0,0),(0,4),(0,5),(0,8),(1,0),(1,421)]
def eM_D50 : List Atm := [(0,1),(0,4),(0,5),(0,8),(0,9),(1,0),(1,421)]
def eM_E : List (Nat × List Atm) := [(3495259,[(0,0)]),(3495259,[(0,1)]),(3495259,[(0,2)]),(3495259,[(0,3)]),(6990518,[(0,0),(0,0)]),(6990518,[(0,1),(0,1)]),(13981038,[(0,0),(0,0),(0,1),(0,1)]),(6990518,[(0,2),(0,2)]),(20971558,[(0,0),(0,0),(0,1),(0,1),(0,2),(0,2)]),(13981037,[]),(13981037,[]),(13981037,[]),(13981037,[]),(3495259,[(0,4)]),(3495259,[(0,5)]),(3495259,[(0,6)]),(3495259,[(0,7)]),(6990518,[(0,4),(0,4)]),(6990518,[(0,5),(0,5)]),(13981038,[(0,4),(0,4),(0,5),(0,5)]),(6990518,[(0,6),(0,6)]),(20971558,[(0,4),(0,4),(0,5),(0,5),(0,6),(0,6)]),(13981037,[]),(13981037,[]),(13981037,[]),(13981037,[]),(3495259,[(0,8)]),(3495259,[(0,9)]),(3495259,[(0,10)]),(3495259,[(0,11)]),(6990518,[(0,8),(0,8)]),(6990518,[(0,9),(0,9)]),(13981038,[(0,8),(0,8),(0,9),(0,9)]),(6990518,[(0,10),(0,10)]),(20971558,[(0,8),(0,8),(0,9),(0,9),(0,10),(0,10)]),(13981037,[]),(13981037,[]),(13981037,[]),(13981037,[]),(27962074,[]),(27962074,[]),(27962076,[]),(27962074,[]),(27962074,[]),(27962076,[]),(27962074,[]),(27962074,[]),(27962076,[]),(41943113,[]),(1,[]),(41943115,[]),(41943113,[]),(41943117,[]),(41943113,[]),(41943119,[]),(27962074,[]),(27962074,[]),(27962076,[]),(27962074,[]),(27962074,[]),(27962076,[]),(27962074,[]),(27962074,[]),(27962076,[]),(27962074,[]),(27962074,[]),(27962076,[]),(27962074,[]),(27962074,[]),(27962076,[]),(27962074,[]),(27962074,[]),(27962076,[]),(41943113,[]),(41943115,[]),(41943113,[]),(41943117,[]),(41943113,[]),(41943119,[]),(41943113,[]),(41943115,[]),(41943113,[]),(41943117,[]),(41943113,[]),(41943119,[]),(41943113,[]),(41943115,[]),(41943113,[]),(41943117,[]),(41943113,[]),(41943119,[]),(83886238,[]),(83886238,[]),(83886240,[]),(83886238,[]),(83886242,[]),(55924152,[]),(55924152,[]),(55924154,[]),(55924152,[]),(55924156,[]),(27962074,[]),(27962074,[]),(27962074,[]),(27962074,[]),(27962074,[]),(27962074,[]),(27962076,[]),(27962076,[]),(27962076,[]),(55924152,[]),(55924152,[]),(55924154,[]),(55924152,[]),(55924156,[]),(27962074,[]),(27962074,[]),(27962076,[]),(27962074,[]),(27962074,[]),(27962076,[]),(27962074,[]),(27962074,[]),(27962076,[]),(55924152,[]),(55924152,[]),(55924154,[]),(55924152,[]),(55924156,[]),(27962074,[]),(27962074,[]),(27962074,[]),(27962074,[]),(27962074,[]),(27962074,[]),(27962076,[]),(27962076,[]),(27962076,[]),(55924152,[]),(55924152,[]),(55924154,[]),(55924152,[]),(55924156,[]),(6990518,[(0,5),(0,10)]),(6990518,[(0,6),(0,9)]),(13981038,[(0,5),(0,6),(0,9),(0,10)]),(17476297,[(0,0),(0,5),(0,6),(0,9),(0,10)]),(6990518,[(0,4),(0,10)]),(6990518,[(0,6),(0,8)]),(13981038,[(0,4),(0,6),(0,8),(0,10)]),(17476297,eM_D0),(17476297,eM_D0),(6990518,[(0,4),(0,9)]),(6990518,[(0,5),(0,8)]),(13981038,[(0,4),(0,5),(0,8),(0,9)]),(17476297,[(0,2),(0,4),(0,5),(0,8),(0,9)]),(27962076,[(0,0),(0,1),(0,4),(0,5),(0,6),(0,8),(0,9),(0,10)]),(31457337,[(0,0),(0,1),(0,2),(0,4),(0,5),(0,6),(0,8),(0,9),(0,10)]),(6990519,[(0,6),(1,28)]),(10485778,[(0,6),(0,8),(1,28)]),(13981039,[(0,4),(0,6),(0,8),(1,28)]),(10485778,[(0,6),(0,9),(1,28)]),(13981039,[(0,5),(0,6),(0,9),(1,28)]),(10485778,eM_D1),(10485780,eM_D1),(6990519,[(0,2),(1,28)]),(10485778,[(0,2),(0,8),(1,28)]),(13981039,[(0,0),(0,2),(0,8),(1,28)]),(10485778,[(0,2),(0,9),(1,28)]),(13981039,[(0,1),(0,2),(0,9),(1,28)]),(10485778,eM_D2),(10485780,eM_D2),(10485778,[(0,6),(0,11),(1,28)]),(13981039,[(0,6),(0,7),(0,11),(1,28)]),(10485778,[(0,2),(0,11),(1,28)]),(13981039,[(0,2),(0,3),(0,11),(1,28)]),(6990519,[(0,5),(1,27)]),(10485778,[(0,5),(0,8),(1,27)]),(13981039,[(0,4),(0,5),(0,8),(1,27)]),(10485778,eM_D3),(10485780,eM_D3),(10485778,[(0,5),(0,10),(1,27)]),(13981039,[(0,5),(0,6),(0,10),(1,27)]),(6990519,[(0,1),(1,27)]),(10485778,[(0,1),(0,8),(1,27)]),(13981039,[(0,0),(0,1),(0,8),(1,27)]),(10485778,eM_D4),(10485780,eM_D4),(10485778,[(0,1),(0,10),(1,27)]),(13981039,[(0,1),(0,2),(0,10),(1,27)]),(10485778,[(0,5),(0,11),(1,27)]),(13981039,[(0,5),(0,7),(0,11),(1,27)]),(10485778,[(0,1),(0,11),(1,27)]),(13981039,[(0,1),(0,3),(0,11),(1,27)]),(6990519,[(0,4),(1,26)]),(10485778,eM_D5),(10485780,eM_D5),(10485778,[(0,4),(0,9),(1,26)]),(13981039,[(0,4),(0,5),(0,9),(1,26)]),(10485778,[(0,4),(0,10),(1,26)]),(13981039,[(0,4),(0,6),(0,10),(1,26)]),(6990519,[(0,0),(1,26)]),(10485778,eM_D6),(10485780,eM_D6),(10485778,[(0,0),(0,9),(1,26)]),(13981039,[(0,0),(0,1),(0,9),(1,26)]),(10485778,[(0,0),(0,10),(1,26)]),(13981039,[(0,0),(0,2),(0,10),(1,26)]),(10485778,[(0,4),(0,11),(1,26)]),(13981039,[(0,4),(0,7),(0,11),(1,26)]),(10485778,[(0,0),(0,11),(1,26)]),(13981039,[(0,0),(0,3),(0,11),(1,26)]),(20971558,[(0,6),(0,7),(1,175)]),(34952597,[(0,0),(0,2),(0,6),(0,7),(0,8),(1,28),(1,175)]),(38447858,[(0,0),(0,2),(0,4),(0,6),(0,7),(0,8),(1,28),(1,175)]),(34952597,[(0,1),(0,2),(0,6),(0,7),(0,9),(1,28),(1,175)]),(38447858,[(0,1),(0,2),(0,5),(0,6),(0,7),(0,9),(1,28),(1,175)]),(31457338,eM_D7),(31457340,eM_D7),(34952597,eM_D8),(34952599,eM_D8),(20971558,[(0,5),(0,7),(1,193)]),(34952597,[(0,0),(0,1),(0,5),(0,7),(0,8),(1,27),(1,193)]),(38447858,[(0,0),(0,1),(0,4),(0,5),(0,7),(0,8),(1,27),(1,193)]),(31457338,eM_D9),(31457340,eM_D9),(34952597,[(0,1),(0,2),(0,5),(0,7),(0,10),(1,27),(1,193)]),(38447858,[(0,1),(0,2),(0,5),(0,6),(0,7),(0,10),(1,27),(1,193)]),(34952597,eM_D10),(34952599,eM_D10),(20971558,[(0,4),(0,7),(1,211)]),(31457338,eM_D11),(31457340,eM_D11),(34952597,[(0,0),(0,1),(0,4),(0,7),(0,9),(1,26),(1,211)]),(38447858,[(0,0),(0,1),(0,4),(0,5),(0,7),(0,9),(1,26),(1,211)]),(34952597,[(0,0),(0,2),(0,4),(0,7),(0,10),(1,26),(1,211)]),(38447858,[(0,0),(0,2),(0,4),(0,6),(0,7),(0,10),(1,26),(1,211)]),(34952597,eM_D12),(34952599,eM_D12),(20971558,[(0,5),(0,6),(1,189)]),(34952597,[(0,0),(0,1),(0,5),(0,6),(0,8),(1,27),(1,189)]),(38447858,[(0,0),(0,1),(0,4),(0,5),(0,6),(0,8),(1,27),(1,189)]),(31457338,eM_D13),(31457340,eM_D13),(34952597,eM_D14),(34952599,eM_D14),(34952597,[(0,1),(0,3),(0,5),(0,6),(0,11),(1,27),(1,189)]),(38447858,[(0,1),(0,3),(0,5),(0,6),(0,7),(0,11),(1,27),(1,189)]),(6990519,[(0,1),(1,14)]),(10485778,[(0,1),(0,4),(1,14)]),(13981039,[(0,0),(0,1),(0,4),(1,14)]),(10485778,eM_D15),(10485780,eM_D15),(10485778,[(0,1),(0,6),(1,14)]),(13981039,[(0,1),(0,2),(0,6),(1,14)]),(6990519,[(0,9),(1,14)]),(10485778,[(0,4),(0,9),(1,14)]),(13981039,[(0,4),(0,8),(0,9),(1,14)]),(10485778,eM_D16),(10485780,eM_D16),(10485778,[(0,6),(0,9),(1,14)]),(13981039,[(0,6),(0,9),(0,10),(1,14)]),(20971558,[(0,1),(0,2),(1,261)]),(34952597,[(0,1),(0,2),(0,4),(0,8),(0,9),(1,14),(1,261)]),(38447858,[(0,0),(0,1),(0,2),(0,4),(0,8),(0,9),(1,14),(1,261)]),(31457338,eM_D17),(31457340,eM_D17),(34952597,eM_D18),(34952599,eM_D18),(10485778,[(0,1),(0,7),(1,14)]),(13981039,[(0,1),(0,3),(0,7),(1,14)]),(10485778,[(0,7),(0,9),(1,14)]),(13981039,[(0,7),(0,9),(0,11),(1,14)]),(34952597,[(0,1),(0,2),(0,7),(0,9),(0,11),(1,14),(1,261)]),(38447858,[(0,1),(0,2),(0,3),(0,7),(0,9),(0,11),(1,14),(1,261)]),(20971558,[(0,4),(0,6),(1,207)]),(31457338,eM_D19),(31457340,eM_D19),(34952597,[(0,0),(0,1),(0,4),(0,6),(0,9),(1,26),(1,207)]),(38447858,[(0,0),(0,1),(0,4),(0,5),(0,6),(0,9),(1,26),(1,207)]),(34952597,eM_D20),(34952599,eM_D20),(34952597,[(0,0),(0,3),(0,4),(0,6),(0,11),(1,26),(1,207)]),(38447858,[(0,0),(0,3),(0,4),(0,6),(0,7),(0,11),(1,26),(1,207)]),(20971558,[(0,4),(0,5),(1,205)]),(31457338,eM_D21),(31457340,eM_D21),(34952597,eM_D22),(34952599,eM_D22),(34952597,[(0,0),(0,2),(0,4),(0,5),(0,10),(1,26),(1,205)]),(38447858,[(0,0),(0,2),(0,4),(0,5),(0,6),(0,10),(1,26),(1,205)]),(34952597,[(0,0),(0,3),(0,4),(0,5),(0,11),(1,26),(1,205)]),(38447858,[(0,0),(0,3),(0,4),(0,5),(0,7),(0,11),(1,26),(1,205)]),(6990519,[(0,0),(1,13)]),(10485778,eM_D23),(10485780,eM_D23),(10485778,[(0,0),(0,5),(1,13)]),(13981039,[(0,0),(0,1),(0,5),(1,13)]),(10485778,[(0,0),(0,6),(1,13)]),(13981039,[(0,0),(0,2),(0,6),(1,13)]),(6990519,[(0,8),(1,13)]),(10485778,eM_D24),(10485780,eM_D24),(10485778,[(0,5),(0,8),(1,13)]),(13981039,[(0,5),(0,8),(0,9),(1,13)]),(10485778,[(0,6),(0,8),(1,13)]),(13981039,[(0,6),(0,8),(0,10),(1,13)]),(20971558,[(0,0),(0,2),(1,306)]),(31457338,eM_D25),(31457340,eM_D25),(34952597,[(0,0),(0,2),(0,5),(0,8),(0,9),(1,13),(1,306)]),(38447858,[(0,0),(0,1),(0,2),(0,5),(0,8),(0,9),(1,13),(1,306)]),(34952597,eM_D26),(34952599,eM_D26),(10485778,[(0,0),(0,7),(1,13)]),(13981039,[(0,0),(0,3),(0,7),(1,13)]),(10485778,[(0,7),(0,8),(1,13)]),(13981039,[(0,7),(0,8),(0,11),(1,13)]),(34952597,[(0,0),(0,2),(0,7),(0,8),(0,11),(1,13),(1,306)]),(38447858,[(0,0),(0,2),(0,3),(0,7),(0,8),(0,11),(1,13),(1,306)]),(20971558,[(0,0),(0,1),(1,304)]),(31457338,eM_D27),(31457340,eM_D27),(34952597,eM_D28),(34952599,eM_D28),(34952597,[(0,0),(0,1),(0,6),(0,8),(0,10),(1,13),(1,304)]),(38447858,[(0,0),(0,1),(0,2),(0,6),(0,8),(0,10),(1,13),(1,304)]),(34952597,[(0,0),(0,1),(0,7),(0,8),(0,11),(1,13),(1,304)]),(38447858,[(0,0),(0,1),(0,3),(0,7),(0,8),(0,11),(1,13),(1,304)]),(20971558,[(0,2),(0,3),(1,173)]),(34952597,[(0,2),(0,3),(0,4),(0,6),(0,8),(1,28),(1,173)]),(38447858,[(0,0),(0,2),(0,3),(0,4),(0,6),(0,8),(1,28),(1,173)]),(34952597,[(0,2),(0,3),(0,5),(0,6),(0,9),(1,28),(1,173)]),(38447858,[(0,1),(0,2),(0,3),(0,5),(0,6),(0,9),(1,28),(1,173)]),(31457338,eM_D29),(31457340,eM_D29),(34952597,eM_D30),(34952599,eM_D30),(20971558,[(0,1),(0,3),(1,191)]),(34952597,[(0,1),(0,3),(0,4),(0,5),(0,8),(1,27),(1,191)]),(38447858,[(0,0),(0,1),(0,3),(0,4),(0,5),(0,8),(1,27),(1,191)]),(31457338,eM_D31),(31457340,eM_D31),(34952597,[(0,1),(0,3),(0,5),(0,6),(0,10),(1,27),(1,191)]),(38447858,[(0,1),(0,2),(0,3),(0,5),(0,6),(0,10),(1,27),(1,191)]),(34952597,eM_D32),(34952599,eM_D32),(20971558,[(0,0),(0,3),(1,209)]),(31457338,eM_D33),(31457340,eM_D33),(34952597,[(0,0),(0,3),(0,4),(0,5),(0,9),(1,26),(1,209)]),(38447858,[(0,0),(0,1),(0,3),(0,4),(0,5),(0,9),(1,26),(1,209)]),(34952597,[(0,0),(0,3),(0,4),(0,6),(0,10),(1,26),(1,209)]),(38447858,[(0,0),(0,2),(0,3),(0,4),(0,6),(0,10),(1,26),(1,209)]),(34952597,eM_D34),(34952599,eM_D34),(20971558,[(0,1),(0,2),(1,182)]),(34952597,[(0,1),(0,2),(0,4),(0,5),(0,8),(1,27),(1,182)]),(38447858,[(0,0),(0,1),(0,2),(0,4),(0,5),(0,8),(1,27),(1,182)]),(31457338,eM_D35),(31457340,eM_D35),(34952597,eM_D36),(34952599,eM_D36),(34952597,[(0,1),(0,2),(0,5),(0,7),(0,11),(1,27),(1,182)]),(38447858,[(0,1),(0,2),(0,3),(0,5),(0,7),(0,11),(1,27),(1,182)]),(20971558,[(0,0),(0,2),(1,200)]),(31457338,eM_D37),(31457340,eM_D37),(34952597,[(0,0),(0,2),(0,4),(0,5),(0,9),(1,26),(1,200)]),(38447858,[(0,0),(0,1),(0,2),(0,4),(0,5),(0,9),(1,26),(1,200)]),(34952597,eM_D38),(34952599,eM_D38),(34952597,[(0,0),(0,2),(0,4),(0,7),(0,11),(1,26),(1,200)]),(38447858,[(0,0),(0,2),(0,3),(0,4),(0,7),(0,11),(1,26),(1,200)]),(20971558,[(0,0),(0,1),(1,198)]),(31457338,eM_D39),(31457340,eM_D39),(34952597,eM_D40),(34952599,eM_D40),(34952597,[(0,0),(0,1),(0,4),(0,6),(0,10),(1,26),(1,198)]),(38447858,[(0,0),(0,1),(0,2),(0,4),(0,6),(0,10),(1,26),(1,198)]),(34952597,[(0,0),(0,1),(0,4),(0,7),(0,11),(1,26),(1,198)]),(38447858,[(0,0),(0,1),(0,3),(0,4),(0,7),(0,11),(1,26),(1,198)]),(6990519,[(0,5),(1,1)]),(10485778,[(0,0),(0,5),(1,1)]),(13981039,[(0,0),(0,4),(0,5),(1,1)]),(10485778,eM_D41),(10485780,eM_D41),(10485778,[(0,2),(0,5),(1,1)]),(13981039,[(0,2),(0,5),(0,6),(1,1)]),(6990519,[(0,9),(1,1)]),(10485778,[(0,0),(0,9),(1,1)]),(13981039,[(0,0),(0,8),(0,9),(1,1)]),(10485778,eM_D42),(10485780,eM_D42),(10485778,[(0,2),(0,9),(1,1)]),(13981039,[(0,2),(0,9),(0,10),(1,1)]),(20971558,[(0,5),(0,6),(1,396)]),(34952597,[(0,0),(0,5),(0,6),(0,8),(0,9),(1,1),(1,396)]),(38447858,[(0,0),(0,4),(0,5),(0,6),(0,8),(0,9),(1,1),(1,396)]),(31457338,eM_D43),(31457340,eM_D43),(34952597,eM_D44),(34952599,eM_D44),(10485778,[(0,3),(0,5),(1,1)]),(13981039,[(0,3),(0,5),(0,7),(1,1)]),(10485778,[(0,3),(0,9),(1,1)]),(13981039,[(0,3),(0,9),(0,11),(1,1)]),(34952597,[(0,3),(0,5),(0,6),(0,9),(0,11),(1,1),(1,396)]),(38447858,[(0,3),(0,5),(0,6),(0,7),(0,9),(0,11),(1,1),(1,396)]),(6990519,[(0,4),(1,0)]),(10485778,eM_D45),(10485780,eM_D45),(10485778,[(0,1),(0,4),(1,0)]),(13981039,[(0,1),(0,4),(0,5),(1,0)]),(10485778,[(0,2),(0,4),(1,0)]),(13981039,[(0,2),(0,4),(0,6),(1,0)]),(6990519,[(0,8),(1,0)]),(10485778,eM_D46),(10485780,eM_D46),(10485778,[(0,1),(0,8),(1,0)]),(13981039,[(0,1),(0,8),(0,9),(1,0)]),(10485778,[(0,2),(0,8),(1,0)]),(13981039,[(0,2),(0,8),(0,10),(1,0)]),(20971558,[(0,4),(0,6),(1,423)]),(31457338,eM_D47),(31457340,eM_D47),(34952597,[(0,1),(0,4),(0,6),(0,8),(0,9),(1,0),(1,423)]),(38447858,[(0,1),(0,4),(0,5),(0,6),(0,8),(0,9),(1,0),(1,423)]),(34952597,eM_D48),(34952599,eM_D48),(10485778,[(0,3),(0,4),(1,0)]),(13981039,[(0,3),(0,4),(0,7),(1,0)]),(10485778,[(0,3),(0,8),(1,0)]),(13981039,[(0,3),(0,8),(0,11),(1,0)]),(34952597,[(0,3),(0,4),(0,6),(0,8),(0,11),(1,0),(1,423)]),(38447858,[(0,3),(0,4),(0,6),(0,7),(0,8),(0,11),(1,0),(1,423)]),(20971558,[(0,4),(0,5),(1,421)]),(31457338,eM_D49),(31457340,eM_D49),(34952597,eM_D50),(34952599,eM_D50),(34952597,[(0,2),(0,4),(0,5),(0,8),(0,10),(1,0),(1,421)]),(38447858,[(0,2),(0,4),(0,5),(0,6),(0,8),(0,10),(1,0),(1,421)]),(34952597,[(0,3),(0,4),(0,5),(0,8),(0,11),(1,0),(1,421)]),(38447858,[(0,3),(0,4),(0,5),(0,7),(0,8),(0,11),(1,0),(1,421)]),(41943119,[]),(41943120,[(1,446)]),(41943120,[(1,446)]),(41943120,[(1,446)]),(45438379,[(0,0),(1,446)]),(45438379,[(0,1),(1,446)]),(45438379,[(0,2),(1,446)]),(48933640,[(0,0),(0,1),(1,446)]),(52428901,[(0,0),(0,1),(0,2),(1,446)]),(55924162,[(0,0),(0,1),(0,2),(0,3),(1,446)]),(45438379,[(0,4),(1,446)]),(45438379,[(0,5),(1,446)]),(45438379,[(0,6),(1,446)]),(48933640,[(0,4),(0,5),(1,446)]),(52428901,[(0,4),(0,5),(0,6),(1,446)]),(55924162,[(0,4),(0,5),(0,6),(0,7),(1,446)]),(45438379,[(0,8),(1,446)]),(45438379,[(0,9),(1,446)]),(45438379,[(0,10),(1,446)]),(48933640,[(0,8),(0,9),(1,446)]),(52428901,[(0,8),(0,9),(0,10),(1,446)]),(55924162,[(0,8),(0,9),(0,10),(0,11),(1,446)])]
abbrev eM_Q (q : Nat→Rat) (σ : Nat→ByteArray) : Prop := ∀ (a : Nat) nd,eM_N[a]? = some nd→q a=valN σ q nd
variable {q : Nat→Rat} {σ : Nat→ByteArray}
theorem eM_wf : wfB 0 eM_N=true := by kernel_rfl
theorem eM_sz : saB eM_E 0 eM_N eM_E eM_Z=true := by kernel_rfl
theorem eM_lt : litB eM_N eM_L=true := by kernel_rfl
theorem eM_cn : canB eM_N eM_C=true := by kernel_rfl
theorem eM_c49 : cst 0 0 1=(0 : Rat) := by decide +kernel
def eM_A : List AV := [(false,[(true,[.inr (2,0,0,0,0),.inr (2,1,0,0,0),.inr (2,2,0,0,0),.inr (2,3,0,0,0)])]),(false,[(true,[.inr (2,4,0,0,0),.inr (2,5,0,0,0),.inr (2,6,0,0,0),.inr (2,7,0,0,0)])]),(false,[(true,[.inr (2,8,0,0,0),.inr (2,9,0,0,0),.inr (2,10,0,0,0),.inr (2,11,0,0,0)])])]
theorem sp_sq3 {x y z m1 m2 m3 s t : Rat} (h1 : m1=x*x) (h2 : m2=y*y) (hs : s=m1+m2) (h3 : m3=z*z) (ht : t=s+m3) : t=0 ↔ ((x=0∧y=0)∧z=0) := by
 have a1 := sq_facts x
 have a2 := sq_facts y
 have a3 := sq_facts z
 subst_vars
 constructor
 ·intro h
  refine ⟨⟨a1.2.1 ?_,a2.2.1 ?_⟩,a3.2.1 ?_⟩ <;> grind
 ·rintro ⟨⟨h1,h2⟩,h3⟩
  rw [h1,h2,h3]; grind
theorem sp_cramer {a1 a2 a3 b1 b2 b3 c1 c2 c3 da db dc D k p1 p2 p3 : Rat} (eD : D=a1*(b2*c3 - b3*c2)+a2*(b3*c1 - b1*c3)+a3*(b1*c2 - b2*c1)) (hk : k*D=-1) (e1 : p1=((b2*c3 - b3*c2)*da+(c2*a3 - c3*a2)*db+(a2*b3 - a3*b2)*dc)*k) (e2 : p2=((b3*c1 - b1*c3)*da+(c3*a1 - c1*a3)*db+(a3*b1 - a1*b3)*dc)*k) (e3 : p3=((b1*c2 - b2*c1)*da+(c1*a2 - c2*a1)*db+(a1*b2 - a2*b1)*dc)*k) : a1*p1+a2*p2+a3*p3+da=0∧b1*p1+b2*p2+b3*p3+db=0∧c1*p1+c2*p2+c3*p3+dc=0 := by
 have f : ∀ t,(k*D)*t+t=0 := fun t => by rw [hk]; grind
 refine ⟨?_,?_,?_⟩
 ·have := f da; rw [eD] at this; rw [e1,e2,e3]; grind
 ·have := f db; rw [eD] at this; rw [e1,e2,e3]; grind
 ·have := f dc; rw [eD] at this; rw [e1,e2,e3]; grind
theorem sp_z1 {z p m : Rat} (e : z*p=m) (h : z=0) : m=0 := by rw [← e,h,Rat.zero_mul]
theorem sp_z0 {z p m : Rat} (e : z*p=m) (hp : p ≠ 0) (h : ¬ (z=0)) : ¬ (m=0) := by rw [← e]; exact mul_ne h hp
theorem sp_w1 {z p m : Rat} (e : z*p=m) (hp : p ≠ 0) (h : m=0) : z=0 := (Rat.mul_eq_zero.1 (e.trans h)).resolve_right hp
theorem sp_w0 {z p m : Rat} (e : z*p=m) (h : ¬ (m=0)) : ¬ (z=0) := fun k => h (by rw [← e,k,Rat.zero_mul])
theorem sp_l1 {p a b u q e : Rat} (hp : p ≠ 0) (hq : q=u / p) (he : e=a - q*b) : e*p=p*a - u*b := by
 have d : q*p=u := by rw [hq]; exact Rat.div_mul_cancel hp
 rw [he]; grind
theorem sp_l2 {p a b u v q f ma mb mu mv D : Rat} (hp : p ≠ 0) (hv : v ≠ 0) (ha : a*p=ma) (hb : b*p=mb) (hu : u*p=mu) (hw : v*p=mv) (hq : q=u / v) (hf : f=a - q*b) (hD : ma*mv - mu*mb=p*D) : f*mv=D := by
 have d : q*v=u := by rw [hq]; exact Rat.div_mul_cancel hv
 have k : p*(f*mv - D)=0 := by
  have : p*(f*mv - D)=p*f*mv - p*D := by grind
  rw [this,← hD,← ha,← hb,← hu,← hw,hf]
  have : p*(a - q*b)*(v*p) - (a*p*(v*p) - u*p*(b*p))=p*p*(b*(u - q*v)) := by grind
  rw [this,d]; grind
 have := (Rat.mul_eq_zero.1 k).resolve_left hp
 grind
theorem eM_pDDz {z0 z1 z2 z3 z4 z5 z6 z7 z8 z9 z10 z11 z12 z13 z14 z15 z16 z17 z18 z19 z20 z21 z22 z23 z24 z25 z26 z27 z28 z29 z30 z31 z32 z33 z34 z35 z36 z37 z38 z39 z40 z41 z42 z43 z44 z45 z46 z47 z48 z49 z50 z51 z52 z53 z54 z143 z144 z145 z146 z147 z148 z149 z150 z151 z152 z153 z154 z155 z156 z157 : Rat} : z4=z0*z0→z5=z1*z1→z6=z4+z5→z7=z2*z2→z8=z6+z7→z9=z0*fac [z0,z1,z2,z3]→z10=z1*fac [z0,z1,z2,z3]→z11=z2*fac [z0,z1,z2,z3]→z12=z3*fac [z0,z1,z2,z3]→z17=z13*z13→z18=z14*z14→z19=z17+z18→z20=z15*z15→z21=z19+z20→z22=z13*fac [z13,z14,z15,z16]→z23=z14*fac [z13,z14,z15,z16]→z24=z15*fac [z13,z14,z15,z16]→z25=z16*fac [z13,z14,z15,z16]→z30=z26*z26→z31=z27*z27→z32=z30+z31→z33=z28*z28→z34=z32+z33→z35=z26*fac [z26,z27,z28,z29]→z36=z27*fac [z26,z27,z28,z29]→z37=z28*fac [z26,z27,z28,z29]→z38=z29*fac [z26,z27,z28,z29]→z39=z23*z37→z40=z24*z36→z41=z39-z40→z42=z24*z35→z43=z22*z37→z44=z42-z43→z45=z22*z36→z46=z23*z35→z47=z45-z46→z48=z9*z41→z49=0→z50=z49+z48→z51=z10*z44→z52=z50+z51→z53=z11*z47→z54=z52+z53→z143=z14*z28→z144=z15*z27→z145=z143-z144→z146=z0*z145→z147=z13*z28→z148=z15*z26→z149=z147-z148→z150=z1*z149→z151=-z150→z152=z13*z27→z153=z14*z26→z154=z152-z153→z155=z2*z154→z156=z146+z151→z157=z156+z155→(¬ (z8=0))→(¬ (z21=0))→(¬ (z34=0))→(z54=0↔z157=0) := by
 intro e4 e5 e6 e7 e8 e9 e10 e11 e12 e17 e18 e19 e20 e21 e22 e23 e24 e25 e30 e31 e32 e33 e34 e35 e36 e37 e38 e39 e40 e41 e42 e43 e44 e45 e46 e47 e48 e49 e50 e51 e52 e53 e54 e143 e144 e145 e146 e147 e148 e149 e150 e151 e152 e153 e154 e155 e156 e157
 intro h0 h1 h2
 have n0 : ¬ ((z0=0∧z1=0)∧z2=0) := fun x => h0 ((sp_sq3 e4 e5 e6 e7 e8).2 x)
 have k0 : fac [z0,z1,z2,z3] ≠ 0 := fun x => n0 ⟨⟨fac_zero (by simp) x,fac_zero (by simp) x⟩,fac_zero (by simp) x⟩
 have n1 : ¬ ((z13=0∧z14=0)∧z15=0) := fun x => h1 ((sp_sq3 e17 e18 e19 e20 e21).2 x)
 have k1 : fac [z13,z14,z15,z16] ≠ 0 := fun x => n1 ⟨⟨fac_zero (by simp) x,fac_zero (by simp) x⟩,fac_zero (by simp) x⟩
 have n2 : ¬ ((z26=0∧z27=0)∧z28=0) := fun x => h2 ((sp_sq3 e30 e31 e32 e33 e34).2 x)
 have k2 : fac [z26,z27,z28,z29] ≠ 0 := fun x => n2 ⟨⟨fac_zero (by simp) x,fac_zero (by simp) x⟩,fac_zero (by simp) x⟩
 generalize fac [z0,z1,z2,z3]=f0 at *
 generalize fac [z13,z14,z15,z16]=f1 at *
 generalize fac [z26,z27,z28,z29]=f2 at *
 have q : z54=z157*(f0*f1*f2) := by clear h0 n0 k0 h1 n1 k1 h2 n2 k2; clear e4 e5 e6 e7 e8 e17 e18 e19 e20 e21 e30 e31 e32 e33 e34; subst_vars; grind
 rw [q]; exact ⟨fun h => (Rat.mul_eq_zero.1 h).resolve_right (mul_ne (mul_ne k0 k1) k2),fun h => by rw [h,Rat.zero_mul]⟩
theorem eM_pDD (H : eM_Q q σ) : (¬ (q 8=0))→(¬ (q 21=0))→(¬ (q 34=0))→(q 54=0↔q 157=0) := by
 have e4:q 4=q 0*q 0:=H 4 _ rfl;have e5:q 5=q 1*q 1:=H 5 _ rfl;have e6:q 6=q 4+q 5:=H 6 _ rfl;have e7:q 7=q 2*q 2:=H 7 _ rfl;have e8:q 8=q 6+q 7:=H 8 _ rfl;have e9:q 9=q 0*fac [q 0,q 1,q 2,q 3]:=H 9 _ rfl;have e10:q 10=q 1*fac [q 0,q 1,q 2,q 3]:=H 10 _ rfl;have e11:q 11=q 2*fac [q 0,q 1,q 2,q 3]:=H 11 _ rfl;have e12:q 12=q 3*fac [q 0,q 1,q 2,q 3]:=H 12 _ rfl;have e17:q 17=q 13*q 13:=H 17 _ rfl;have e18:q 18=q 14*q 14:=H 18 _ rfl;have e19:q 19=q 17+q 18:=H 19 _ rfl;have e20:q 20=q 15*q 15:=H 20 _ rfl;have e21:q 21=q 19+q 20:=H 21 _ rfl;have e22:q 22=q 13*fac [q 13,q 14,q 15,q 16]:=H 22 _ rfl;have e23:q 23=q 14*fac [q 13,q 14,q 15,q 16]:=H 23 _ rfl;have e24:q 24=q 15*fac [q 13,q 14,q 15,q 16]:=H 24 _ rfl;have e25:q 25=q 16*fac [q 13,q 14,q 15,q 16]:=H 25 _ rfl;have e30:q 30=q 26*q 26:=H 30 _ rfl;have e31:q 31=q 27*q 27:=H 31 _ rfl;have e32:q 32=q 30+q 31:=H 32 _ rfl;have e33:q 33=q 28*q 28:=H 33 _ rfl;have e34:q 34=q 32+q 33:=H 34 _ rfl;have e35:q 35=q 26*fac [q 26,q 27,q 28,q 29]:=H 35 _ rfl;have e36:q 36=q 27*fac [q 26,q 27,q 28,q 29]:=H 36 _ rfl;have e37:q 37=q 28*fac [q 26,q 27,q 28,q 29]:=H 37 _ rfl;have e38:q 38=q 29*fac [q 26,q 27,q 28,q 29]:=H 38 _ rfl;have e39:q 39=q 23*q 37:=H 39 _ rfl;have e40:q 40=q 24*q 36:=H 40 _ rfl;have e41:q 41=q 39-q 40:=H 41 _ rfl;have e42:q 42=q 24*q 35:=H 42 _ rfl;have e43:q 43=q 22*q 37:=H 43 _ rfl;have e44:q 44=q 42-q 43:=H 44 _ rfl;have e45:q 45=q 22*q 36:=H 45 _ rfl;have e46:q 46=q 23*q 35:=H 46 _ rfl;have e47:q 47=q 45-q 46:=H 47 _ rfl;have e48:q 48=q 9*q 41:=H 48 _ rfl;have e49:q 49=0:=(H 49 _ rfl).trans eM_c49;have e50:q 50=q 49+q 48:=H 50 _ rfl;have e51:q 51=q 10*q 44:=H 51 _ rfl;have e52:q 52=q 50+q 51:=H 52 _ rfl;have e53:q 53=q 11*q 47:=H 53 _ rfl;have e54:q 54=q 52+q 53:=H 54 _ rfl;have e143:q 143=q 14*q 28:=H 143 _ rfl;have e144:q 144=q 15*q 27:=H 144 _ rfl;have e145:q 145=q 143-q 144:=H 145 _ rfl;have e146:q 146=q 0*q 145:=H 146 _ rfl;have e147:q 147=q 13*q 28:=H 147 _ rfl;have e148:q 148=q 15*q 26:=H 148 _ rfl;have e149:q 149=q 147-q 148:=H 149 _ rfl;have e150:q 150=q 1*q 149:=H 150 _ rfl;have e151:q 151=-q 150:=H 151 _ rfl;have e152:q 152=q 13*q 27:=H 152 _ rfl;have e153:q 153=q 14*q 26:=H 153 _ rfl;have e154:q 154=q 152-q 153:=H 154 _ rfl;have e155:q 155=q 2*q 154:=H 155 _ rfl;have e156:q 156=q 146+q 151:=H 156 _ rfl;have e157:q 157=q 156+q 155:=H 157 _ rfl
 exact eM_pDDz e4 e5 e6 e7 e8 e9 e10 e11 e12 e17 e18 e19 e20 e21 e22 e23 e24 e25 e30 e31 e32 e33 e34 e35 e36 e37 e38 e39 e40 e41 e42 e43 e44 e45 e46 e47 e48 e49 e50 e51 e52 e53 e54 e143 e144 e145 e146 e147 e148 e149 e150 e151 e152 e153 e154 e155 e156 e157
theorem eM_pDR (H : eM_Q q σ) : (q 157=q 0*(q 14*q 28-q 27*q 15)-q 1*(q 13*q 28-q 26*q 15)+q 2*(q 13*q 27-q 26*q 14)) := by
 have e143:q 143=q 14*q 28:=H 143 _ rfl;have e144:q 144=q 15*q 27:=H 144 _ rfl;have e145:q 145=q 143-q 144:=H 145 _ rfl;have e146:q 146=q 0*q 145:=H 146 _ rfl;have e147:q 147=q 13*q 28:=H 147 _ rfl;have e148:q 148=q 15*q 26:=H 148 _ rfl;have e149:q 149=q 147-q 148:=H 149 _ rfl;have e150:q 150=q 1*q 149:=H 150 _ rfl;have e151:q 151=-q 150:=H 151 _ rfl;have e152:q 152=q 13*q 27:=H 152 _ rfl;have e153:q 153=q 14*q 26:=H 153 _ rfl;have e154:q 154=q 152-q 153:=H 154 _ rfl;have e155:q 155=q 2*q 154:=H 155 _ rfl;have e156:q 156=q 146+q 151:=H 156 _ rfl;have e157:q 157=q 156+q 155:=H 157 _ rfl
 clear H
 subst_vars; grind
theorem eM_pS0 (H : eM_Q q σ) : (q 8=0↔((q 0=0∧q 1=0)∧q 2=0)) := by
 have e4:q 4=q 0*q 0:=H 4 _ rfl;have e5:q 5=q 1*q 1:=H 5 _ rfl;have e6:q 6=q 4+q 5:=H 6 _ rfl;have e7:q 7=q 2*q 2:=H 7 _ rfl;have e8:q 8=q 6+q 7:=H 8 _ rfl
 clear H
 exact (sp_sq3 e4 e5 e6 e7 e8)
theorem eM_pS1 (H : eM_Q q σ) : (q 21=0↔((q 13=0∧q 14=0)∧q 15=0)) := by
 have e17:q 17=q 13*q 13:=H 17 _ rfl;have e18:q 18=q 14*q 14:=H 18 _ rfl;have e19:q 19=q 17+q 18:=H 19 _ rfl;have e20:q 20=q 15*q 15:=H 20 _ rfl;have e21:q 21=q 19+q 20:=H 21 _ rfl
 clear H
 exact (sp_sq3 e17 e18 e19 e20 e21)
theorem eM_pS2 (H : eM_Q q σ) : (q 34=0↔((q 26=0∧q 27=0)∧q 28=0)) := by
 have e30:q 30=q 26*q 26:=H 30 _ rfl;have e31:q 31=q 27*q 27:=H 31 _ rfl;have e32:q 32=q 30+q 31:=H 32 _ rfl;have e33:q 33=q 28*q 28:=H 33 _ rfl;have e34:q 34=q 32+q 33:=H 34 _ rfl
 clear H
 exact (sp_sq3 e30 e31 e32 e33 e34)
theorem eM_pOz {z0 z1 z2 z3 z4 z5 z6 z7 z8 z9 z10 z11 z12 z13 z14 z15 z16 z17 z18 z19 z20 z21 z22 z23 z24 z25 z26 z27 z28 z29 z30 z31 z32 z33 z34 z35 z36 z37 z38 z39 z40 z41 z42 z43 z44 z45 z46 z47 z49 z55 z56 z57 z58 z59 z60 z61 z62 z63 z64 z65 z66 z67 z68 z69 z70 z71 z72 z73 z74 z75 z76 z77 z78 z79 z80 z81 z82 z83 z84 z85 z86 z87 z88 z89 z90 z91 z92 z93 z94 z95 : Rat} : z4=z0*z0→z5=z1*z1→z6=z4+z5→z7=z2*z2→z8=z6+z7→z9=z0*fac [z0,z1,z2,z3]→z10=z1*fac [z0,z1,z2,z3]→z11=z2*fac [z0,z1,z2,z3]→z12=z3*fac [z0,z1,z2,z3]→z17=z13*z13→z18=z14*z14→z19=z17+z18→z20=z15*z15→z21=z19+z20→z22=z13*fac [z13,z14,z15,z16]→z23=z14*fac [z13,z14,z15,z16]→z24=z15*fac [z13,z14,z15,z16]→z25=z16*fac [z13,z14,z15,z16]→z30=z26*z26→z31=z27*z27→z32=z30+z31→z33=z28*z28→z34=z32+z33→z35=z26*fac [z26,z27,z28,z29]→z36=z27*fac [z26,z27,z28,z29]→z37=z28*fac [z26,z27,z28,z29]→z38=z29*fac [z26,z27,z28,z29]→z39=z23*z37→z40=z24*z36→z41=z39-z40→z42=z24*z35→z43=z22*z37→z44=z42-z43→z45=z22*z36→z46=z23*z35→z47=z45-z46→z49=0→z55=z36*z11→z56=z37*z10→z57=z55-z56→z58=z37*z9→z59=z35*z11→z60=z58-z59→z61=z35*z10→z62=z36*z9→z63=z61-z62→z64=z10*z24→z65=z11*z23→z66=z64-z65→z67=z11*z22→z68=z9*z24→z69=z67-z68→z70=z9*z23→z71=z10*z22→z72=z70-z71→z73=z41*z12→z74=z49+z73→z75=z57*z25→z76=z74+z75→z77=z66*z38→z78=z76+z77→z79=z44*z12→z80=z49+z79→z81=z60*z25→z82=z80+z81→z83=z69*z38→z84=z82+z83→z85=z47*z12→z86=z49+z85→z87=z63*z25→z88=z86+z87→z89=z72*z38→z90=z88+z89→z91=z78*z78→z92=z84*z84→z93=z91+z92→z94=z90*z90→z95=z93+z94→(¬ (z8=0))→(¬ (z21=0))→(¬ (z34=0))→(z95=0↔((z1*(z15*z29-z28*z16)-z2*(z14*z29-z27*z16)+z3*(z14*z28-z27*z15)=0∧z2*(z13*z29-z26*z16)-z0*(z15*z29-z28*z16)+z3*(z15*z26-z28*z13)=0)∧z0*(z14*z29-z27*z16)-z1*(z13*z29-z26*z16)+z3*(z13*z27-z26*z14)=0)) := by
 intro e4 e5 e6 e7 e8 e9 e10 e11 e12 e17 e18 e19 e20 e21 e22 e23 e24 e25 e30 e31 e32 e33 e34 e35 e36 e37 e38 e39 e40 e41 e42 e43 e44 e45 e46 e47 e49 e55 e56 e57 e58 e59 e60 e61 e62 e63 e64 e65 e66 e67 e68 e69 e70 e71 e72 e73 e74 e75 e76 e77 e78 e79 e80 e81 e82 e83 e84 e85 e86 e87 e88 e89 e90 e91 e92 e93 e94 e95
 intro h0 h1 h2
 have n0 : ¬ ((z0=0∧z1=0)∧z2=0) := fun x => h0 ((sp_sq3 e4 e5 e6 e7 e8).2 x)
 have k0 : fac [z0,z1,z2,z3] ≠ 0 := fun x => n0 ⟨⟨fac_zero (by simp) x,fac_zero (by simp) x⟩,fac_zero (by simp) x⟩
 have n1 : ¬ ((z13=0∧z14=0)∧z15=0) := fun x => h1 ((sp_sq3 e17 e18 e19 e20 e21).2 x)
 have k1 : fac [z13,z14,z15,z16] ≠ 0 := fun x => n1 ⟨⟨fac_zero (by simp) x,fac_zero (by simp) x⟩,fac_zero (by simp) x⟩
 have n2 : ¬ ((z26=0∧z27=0)∧z28=0) := fun x => h2 ((sp_sq3 e30 e31 e32 e33 e34).2 x)
 have k2 : fac [z26,z27,z28,z29] ≠ 0 := fun x => n2 ⟨⟨fac_zero (by simp) x,fac_zero (by simp) x⟩,fac_zero (by simp) x⟩
 rw [(sp_sq3 e91 e92 e93 e94 e95)]
 generalize fac [z0,z1,z2,z3]=f0 at *
 generalize fac [z13,z14,z15,z16]=f1 at *
 generalize fac [z26,z27,z28,z29]=f2 at *
 have q0 : z78=(z1*(z15*z29 - z28*z16) - z2*(z14*z29 - z27*z16)+z3*(z14*z28 - z27*z15))*((f0*f1)*f2) := by clear h0 n0 k0 h1 n1 k1 h2 n2 k2 ; clear e4 e5 e6 e7 e8 e17 e18 e19 e20 e21 e30 e31 e32 e33 e34 e91 e92 e93 e94 e95; subst_vars; grind
 have q1 : z84=(z2*(z13*z29 - z26*z16) - z0*(z15*z29 - z28*z16)+z3*(z15*z26 - z28*z13))*((f0*f1)*f2) := by clear h0 n0 k0 h1 n1 k1 h2 n2 k2 q0; clear e4 e5 e6 e7 e8 e17 e18 e19 e20 e21 e30 e31 e32 e33 e34 e91 e92 e93 e94 e95; subst_vars; grind
 have q2 : z90=(z0*(z14*z29 - z27*z16) - z1*(z13*z29 - z26*z16)+z3*(z13*z27 - z26*z14))*((f0*f1)*f2) := by clear h0 n0 k0 h1 n1 k1 h2 n2 k2 q0 q1; clear e4 e5 e6 e7 e8 e17 e18 e19 e20 e21 e30 e31 e32 e33 e34 e91 e92 e93 e94 e95; subst_vars; grind
 rw [q0,q1,q2]
 exact ⟨fun ⟨⟨a,b⟩,c⟩ => ⟨⟨(Rat.mul_eq_zero.1 a).resolve_right (mul_ne (mul_ne k0 k1) k2),(Rat.mul_eq_zero.1 b).resolve_right (mul_ne (mul_ne k0 k1) k2)⟩,(Rat.mul_eq_zero.1 c).resolve_right (mul_ne (mul_ne k0 k1) k2)⟩,fun ⟨⟨a,b⟩,c⟩ => ⟨⟨by rw [a,Rat.zero_mul],by rw [b,Rat.zero_mul]⟩,by rw [c,Rat.zero_mul]⟩⟩
theorem eM_pO (H : eM_Q q σ) : (¬ (q 8=0))→(¬ (q 21=0))→(¬ (q 34=0))→(q 95=0↔((q 1*(q 15*q 29-q 28*q 16)-q 2*(q 14*q 29-q 27*q 16)+q 3*(q 14*q 28-q 27*q 15)=0∧q 2*(q 13*q 29-q 26*q 16)-q 0*(q 15*q 29-q 28*q 16)+q 3*(q 15*q 26-q 28*q 13)=0)∧q 0*(q 14*q 29-q 27*q 16)-q 1*(q 13*q 29-q 26*q 16)+q 3*(q 13*q 27-q 26*q 14)=0)) := by
 have e4:q 4=q 0*q 0:=H 4 _ rfl;have e5:q 5=q 1*q 1:=H 5 _ rfl;have e6:q 6=q 4+q 5:=H 6 _ rfl;have e7:q 7=q 2*q 2:=H 7 _ rfl;have e8:q 8=q 6+q 7:=H 8 _ rfl;have e9:q 9=q 0*fac [q 0,q 1,q 2,q 3]:=H 9 _ rfl;have e10:q 10=q 1*fac [q 0,q 1,q 2,q 3]:=H 10 _ rfl;have e11:q 11=q 2*fac [q 0,q 1,q 2,q 3]:=H 11 _ rfl;have e12:q 12=q 3*fac [q 0,q 1,q 2,q 3]:=H 12 _ rfl;have e17:q 17=q 13*q 13:=H 17 _ rfl;have e18:q 18=q 14*q 14:=H 18 _ rfl;have e19:q 19=q 17+q 18:=H 19 _ rfl;have e20:q 20=q 15*q 15:=H 20 _ rfl;have e21:q 21=q 19+q 20:=H 21 _ rfl;have e22:q 22=q 13*fac [q 13,q 14,q 15,q 16]:=H 22 _ rfl;have e23:q 23=q 14*fac [q 13,q 14,q 15,q 16]:=H 23 _ rfl;have e24:q 24=q 15*fac [q 13,q 14,q 15,q 16]:=H 24 _ rfl;have e25:q 25=q 16*fac [q 13,q 14,q 15,q 16]:=H 25 _ rfl;have e30:q 30=q 26*q 26:=H 30 _ rfl;have e31:q 31=q 27*q 27:=H 31 _ rfl;have e32:q 32=q 30+q 31:=H 32 _ rfl;have e33:q 33=q 28*q 28:=H 33 _ rfl;have e34:q 34=q 32+q 33:=H 34 _ rfl;have e35:q 35=q 26*fac [q 26,q 27,q 28,q 29]:=H 35 _ rfl;have e36:q 36=q 27*fac [q 26,q 27,q 28,q 29]:=H 36 _ rfl;have e37:q 37=q 28*fac [q 26,q 27,q 28,q 29]:=H 37 _ rfl;have e38:q 38=q 29*fac [q 26,q 27,q 28,q 29]:=H 38 _ rfl;have e39:q 39=q 23*q 37:=H 39 _ rfl;have e40:q 40=q 24*q 36:=H 40 _ rfl;have e41:q 41=q 39-q 40:=H 41 _ rfl;have e42:q 42=q 24*q 35:=H 42 _ rfl;have e43:q 43=q 22*q 37:=H 43 _ rfl;have e44:q 44=q 42-q 43:=H 44 _ rfl;have e45:q 45=q 22*q 36:=H 45 _ rfl;have e46:q 46=q 23*q 35:=H 46 _ rfl;have e47:q 47=q 45-q 46:=H 47 _ rfl;have e49:q 49=0:=(H 49 _ rfl).trans eM_c49;have e55:q 55=q 36*q 11:=H 55 _ rfl;have e56:q 56=q 37*q 10:=H 56 _ rfl;have e57:q 57=q 55-q 56:=H 57 _ rfl;have e58:q 58=q 37*q 9:=H 58 _ rfl;have e59:q 59=q 35*q 11:=H 59 _ rfl;have e60:q 60=q 58-q 59:=H 60 _ rfl;have e61:q 61=q 35*q 10:=H 61 _ rfl;have e62:q 62=q 36*q 9:=H 62 _ rfl;have e63:q 63=q 61-q 62:=H 63 _ rfl;have e64:q 64=q 10*q 24:=H 64 _ rfl;have e65:q 65=q 11*q 23:=H 65 _ rfl;have e66:q 66=q 64-q 65:=H 66 _ rfl;have e67:q 67=q 11*q 22:=H 67 _ rfl;have e68:q 68=q 9*q 24:=H 68 _ rfl;have e69:q 69=q 67-q 68:=H 69 _ rfl;have e70:q 70=q 9*q 23:=H 70 _ rfl;have e71:q 71=q 10*q 22:=H 71 _ rfl;have e72:q 72=q 70-q 71:=H 72 _ rfl;have e73:q 73=q 41*q 12:=H 73 _ rfl;have e74:q 74=q 49+q 73:=H 74 _ rfl;have e75:q 75=q 57*q 25:=H 75 _ rfl;have e76:q 76=q 74+q 75:=H 76 _ rfl;have e77:q 77=q 66*q 38:=H 77 _ rfl;have e78:q 78=q 76+q 77:=H 78 _ rfl;have e79:q 79=q 44*q 12:=H 79 _ rfl;have e80:q 80=q 49+q 79:=H 80 _ rfl;have e81:q 81=q 60*q 25:=H 81 _ rfl;have e82:q 82=q 80+q 81:=H 82 _ rfl;have e83:q 83=q 69*q 38:=H 83 _ rfl;have e84:q 84=q 82+q 83:=H 84 _ rfl;have e85:q 85=q 47*q 12:=H 85 _ rfl;have e86:q 86=q 49+q 85:=H 86 _ rfl;have e87:q 87=q 63*q 25:=H 87 _ rfl;have e88:q 88=q 86+q 87:=H 88 _ rfl;have e89:q 89=q 72*q 38:=H 89 _ rfl;have e90:q 90=q 88+q 89:=H 90 _ rfl;have e91:q 91=q 78*q 78:=H 91 _ rfl;have e92:q 92=q 84*q 84:=H 92 _ rfl;have e93:q 93=q 91+q 92:=H 93 _ rfl;have e94:q 94=q 90*q 90:=H 94 _ rfl;have e95:q 95=q 93+q 94:=H 95 _ rfl
 exact eM_pOz e4 e5 e6 e7 e8 e9 e10 e11 e12 e17 e18 e19 e20 e21 e22 e23 e24 e25 e30 e31 e32 e33 e34 e35 e36 e37 e38 e39 e40 e41 e42 e43 e44 e45 e46 e47 e49 e55 e56 e57 e58 e59 e60 e61 e62 e63 e64 e65 e66 e67 e68 e69 e70 e71 e72 e73 e74 e75 e76 e77 e78 e79 e80 e81 e82 e83 e84 e85 e86 e87 e88 e89 e90 e91 e92 e93 e94 e95
theorem eM_pABz {z0 z1 z2 z3 z4 z5 z6 z7 z8 z9 z10 z11 z12 z13 z14 z15 z16 z17 z18 z19 z20 z21 z22 z23 z24 z25 z64 z65 z66 z67 z68 z69 z70 z71 z72 z96 z97 z98 z99 z100 : Rat} : z4=z0*z0→z5=z1*z1→z6=z4+z5→z7=z2*z2→z8=z6+z7→z9=z0*fac [z0,z1,z2,z3]→z10=z1*fac [z0,z1,z2,z3]→z11=z2*fac [z0,z1,z2,z3]→z12=z3*fac [z0,z1,z2,z3]→z17=z13*z13→z18=z14*z14→z19=z17+z18→z20=z15*z15→z21=z19+z20→z22=z13*fac [z13,z14,z15,z16]→z23=z14*fac [z13,z14,z15,z16]→z24=z15*fac [z13,z14,z15,z16]→z25=z16*fac [z13,z14,z15,z16]→z64=z10*z24→z65=z11*z23→z66=z64-z65→z67=z11*z22→z68=z9*z24→z69=z67-z68→z70=z9*z23→z71=z10*z22→z72=z70-z71→z96=z66*z66→z97=z69*z69→z98=z96+z97→z99=z72*z72→z100=z98+z99→(¬ (z8=0))→(¬ (z21=0))→(z100=0↔((z1*z15-z14*z2=0∧z2*z13-z15*z0=0)∧z0*z14-z13*z1=0)) := by
 intro e4 e5 e6 e7 e8 e9 e10 e11 e12 e17 e18 e19 e20 e21 e22 e23 e24 e25 e64 e65 e66 e67 e68 e69 e70 e71 e72 e96 e97 e98 e99 e100
 intro h0 h1
 have n0 : ¬ ((z0=0∧z1=0)∧z2=0) := fun x => h0 ((sp_sq3 e4 e5 e6 e7 e8).2 x)
 have k0 : fac [z0,z1,z2,z3] ≠ 0 := fun x => n0 ⟨⟨fac_zero (by simp) x,fac_zero (by simp) x⟩,fac_zero (by simp) x⟩
 have n1 : ¬ ((z13=0∧z14=0)∧z15=0) := fun x => h1 ((sp_sq3 e17 e18 e19 e20 e21).2 x)
 have k1 : fac [z13,z14,z15,z16] ≠ 0 := fun x => n1 ⟨⟨fac_zero (by simp) x,fac_zero (by simp) x⟩,fac_zero (by simp) x⟩
 rw [(sp_sq3 e96 e97 e98 e99 e100)]
 generalize fac [z0,z1,z2,z3]=f0 at *
 generalize fac [z13,z14,z15,z16]=f1 at *
 have q0 : z66=(z1*z15 - z14*z2)*(f0*f1) := by clear h0 n0 k0 h1 n1 k1 ; clear e4 e5 e6 e7 e8 e17 e18 e19 e20 e21 e96 e97 e98 e99 e100; subst_vars; grind
 have q1 : z69=(z2*z13 - z15*z0)*(f0*f1) := by clear h0 n0 k0 h1 n1 k1 q0; clear e4 e5 e6 e7 e8 e17 e18 e19 e20 e21 e96 e97 e98 e99 e100; subst_vars; grind
 have q2 : z72=(z0*z14 - z13*z1)*(f0*f1) := by clear h0 n0 k0 h1 n1 k1 q0 q1; clear e4 e5 e6 e7 e8 e17 e18 e19 e20 e21 e96 e97 e98 e99 e100; subst_vars; grind
 rw [q0,q1,q2]
 exact ⟨fun ⟨⟨a,b⟩,c⟩ => ⟨⟨(Rat.mul_eq_zero.1 a).resolve_right (mul_ne k0 k1),(Rat.mul_eq_zero.1 b).resolve_right (mul_ne k0 k1)⟩,(Rat.mul_eq_zero.1 c).resolve_right (mul_ne k0 k1)⟩,fun ⟨⟨a,b⟩,c⟩ => ⟨⟨by rw [a,Rat.zero_mul],by rw [b,Rat.zero_mul]⟩,by rw [c,Rat.zero_mul]⟩⟩
theorem eM_pAB (H : eM_Q q σ) : (¬ (q 8=0))→(¬ (q 21=0))→(q 100=0↔((q 1*q 15-q 14*q 2=0∧q 2*q 13-q 15*q 0=0)∧q 0*q 14-q 13*q 1=0)) := by
 have e4:q 4=q 0*q 0:=H 4 _ rfl;have e5:q 5=q 1*q 1:=H 5 _ rfl;have e6:q 6=q 4+q 5:=H 6 _ rfl;have e7:q 7=q 2*q 2:=H 7 _ rfl;have e8:q 8=q 6+q 7:=H 8 _ rfl;have e9:q 9=q 0*fac [q 0,q 1,q 2,q 3]:=H 9 _ rfl;have e10:q 10=q 1*fac [q 0,q 1,q 2,q 3]:=H 10 _ rfl;have e11:q 11=q 2*fac [q 0,q 1,q 2,q 3]:=H 11 _ rfl;have e12:q 12=q 3*fac [q 0,q 1,q 2,q 3]:=H 12 _ rfl;have e17:q 17=q 13*q 13:=H 17 _ rfl;have e18:q 18=q 14*q 14:=H 18 _ rfl;have e19:q 19=q 17+q 18:=H 19 _ rfl;have e20:q 20=q 15*q 15:=H 20 _ rfl;have e21:q 21=q 19+q 20:=H 21 _ rfl;have e22:q 22=q 13*fac [q 13,q 14,q 15,q 16]:=H 22 _ rfl;have e23:q 23=q 14*fac [q 13,q 14,q 15,q 16]:=H 23 _ rfl;have e24:q 24=q 15*fac [q 13,q 14,q 15,q 16]:=H 24 _ rfl;have e25:q 25=q 16*fac [q 13,q 14,q 15,q 16]:=H 25 _ rfl;have e64:q 64=q 10*q 24:=H 64 _ rfl;have e65:q 65=q 11*q 23:=H 65 _ rfl;have e66:q 66=q 64-q 65:=H 66 _ rfl;have e67:q 67=q 11*q 22:=H 67 _ rfl;have e68:q 68=q 9*q 24:=H 68 _ rfl;have e69:q 69=q 67-q 68:=H 69 _ rfl;have e70:q 70=q 9*q 23:=H 70 _ rfl;have e71:q 71=q 10*q 22:=H 71 _ rfl;have e72:q 72=q 70-q 71:=H 72 _ rfl;have e96:q 96=q 66*q 66:=H 96 _ rfl;have e97:q 97=q 69*q 69:=H 97 _ rfl;have e98:q 98=q 96+q 97:=H 98 _ rfl;have e99:q 99=q 72*q 72:=H 99 _ rfl;have e100:q 100=q 98+q 99:=H 100 _ rfl
 exact eM_pABz e4 e5 e6 e7 e8 e9 e10 e11 e12 e17 e18 e19 e20 e21 e22 e23 e24 e25 e64 e65 e66 e67 e68 e69 e70 e71 e72 e96 e97 e98 e99 e100
theorem eM_pBDz {z0 z1 z2 z3 z4 z5 z6 z7 z8 z9 z10 z11 z12 z13 z14 z15 z16 z17 z18 z19 z20 z21 z22 z23 z24 z25 z101 z102 z103 z104 z105 z106 z107 z108 z109 z110 z111 z112 z113 z114 : Rat} : z4=z0*z0→z5=z1*z1→z6=z4+z5→z7=z2*z2→z8=z6+z7→z9=z0*fac [z0,z1,z2,z3]→z10=z1*fac [z0,z1,z2,z3]→z11=z2*fac [z0,z1,z2,z3]→z12=z3*fac [z0,z1,z2,z3]→z17=z13*z13→z18=z14*z14→z19=z17+z18→z20=z15*z15→z21=z19+z20→z22=z13*fac [z13,z14,z15,z16]→z23=z14*fac [z13,z14,z15,z16]→z24=z15*fac [z13,z14,z15,z16]→z25=z16*fac [z13,z14,z15,z16]→z101=z9*z25→z102=z10*z25→z103=z11*z25→z104=z22*z12→z105=z23*z12→z106=z24*z12→z107=z101-z104→z108=z102-z105→z109=z103-z106→z110=z107*z107→z111=z108*z108→z112=z110+z111→z113=z109*z109→z114=z112+z113→(¬ (z8=0))→(¬ (z21=0))→(z114=0↔((z0*z16-z13*z3=0∧z1*z16-z14*z3=0)∧z2*z16-z15*z3=0)) := by
 intro e4 e5 e6 e7 e8 e9 e10 e11 e12 e17 e18 e19 e20 e21 e22 e23 e24 e25 e101 e102 e103 e104 e105 e106 e107 e108 e109 e110 e111 e112 e113 e114
 intro h0 h1
 have n0 : ¬ ((z0=0∧z1=0)∧z2=0) := fun x => h0 ((sp_sq3 e4 e5 e6 e7 e8).2 x)
 have k0 : fac [z0,z1,z2,z3] ≠ 0 := fun x => n0 ⟨⟨fac_zero (by simp) x,fac_zero (by simp) x⟩,fac_zero (by simp) x⟩
 have n1 : ¬ ((z13=0∧z14=0)∧z15=0) := fun x => h1 ((sp_sq3 e17 e18 e19 e20 e21).2 x)
 have k1 : fac [z13,z14,z15,z16] ≠ 0 := fun x => n1 ⟨⟨fac_zero (by simp) x,fac_zero (by simp) x⟩,fac_zero (by simp) x⟩
 rw [(sp_sq3 e110 e111 e112 e113 e114)]
 generalize fac [z0,z1,z2,z3]=f0 at *
 generalize fac [z13,z14,z15,z16]=f1 at *
 have q0 : z107=(z0*z16 - z13*z3)*(f0*f1) := by clear h0 n0 k0 h1 n1 k1 ; clear e4 e5 e6 e7 e8 e17 e18 e19 e20 e21 e110 e111 e112 e113 e114; subst_vars; grind
 have q1 : z108=(z1*z16 - z14*z3)*(f0*f1) := by clear h0 n0 k0 h1 n1 k1 q0; clear e4 e5 e6 e7 e8 e17 e18 e19 e20 e21 e110 e111 e112 e113 e114; subst_vars; grind
 have q2 : z109=(z2*z16 - z15*z3)*(f0*f1) := by clear h0 n0 k0 h1 n1 k1 q0 q1; clear e4 e5 e6 e7 e8 e17 e18 e19 e20 e21 e110 e111 e112 e113 e114; subst_vars; grind
 rw [q0,q1,q2]
 exact ⟨fun ⟨⟨a,b⟩,c⟩ => ⟨⟨(Rat.mul_eq_zero.1 a).resolve_right (mul_ne k0 k1),(Rat.mul_eq_zero.1 b).resolve_right (mul_ne k0 k1)⟩,(Rat.mul_eq_zero.1 c).resolve_right (mul_ne k0 k1)⟩,fun ⟨⟨a,b⟩,c⟩ => ⟨⟨by rw [a,Rat.zero_mul],by rw [b,Rat.zero_mul]⟩,by rw [c,Rat.zero_mul]⟩⟩
theorem eM_pBD (H : eM_Q q σ) : (¬ (q 8=0))→(¬ (q 21=0))→(q 114=0↔((q 0*q 16-q 13*q 3=0∧q 1*q 16-q 14*q 3=0)∧q 2*q 16-q 15*q 3=0)) := by
 have e4:q 4=q 0*q 0:=H 4 _ rfl;have e5:q 5=q 1*q 1:=H 5 _ rfl;have e6:q 6=q 4+q 5:=H 6 _ rfl;have e7:q 7=q 2*q 2:=H 7 _ rfl;have e8:q 8=q 6+q 7:=H 8 _ rfl;have e9:q 9=q 0*fac [q 0,q 1,q 2,q 3]:=H 9 _ rfl;have e10:q 10=q 1*fac [q 0,q 1,q 2,q 3]:=H 10 _ rfl;have e11:q 11=q 2*fac [q 0,q 1,q 2,q 3]:=H 11 _ rfl;have e12:q 12=q 3*fac [q 0,q 1,q 2,q 3]:=H 12 _ rfl;have e17:q 17=q 13*q 13:=H 17 _ rfl;have e18:q 18=q 14*q 14:=H 18 _ rfl;have e19:q 19=q 17+q 18:=H 19 _ rfl;have e20:q 20=q 15*q 15:=H 20 _ rfl;have e21:q 21=q 19+q 20:=H 21 _ rfl;have e22:q 22=q 13*fac [q 13,q 14,q 15,q 16]:=H 22 _ rfl;have e23:q 23=q 14*fac [q 13,q 14,q 15,q 16]:=H 23 _ rfl;have e24:q 24=q 15*fac [q 13,q 14,q 15,q 16]:=H 24 _ rfl;have e25:q 25=q 16*fac [q 13,q 14,q 15,q 16]:=H 25 _ rfl;have e101:q 101=q 9*q 25:=H 101 _ rfl;have e102:q 102=q 10*q 25:=H 102 _ rfl;have e103:q 103=q 11*q 25:=H 103 _ rfl;have e104:q 104=q 22*q 12:=H 104 _ rfl;have e105:q 105=q 23*q 12:=H 105 _ rfl;have e106:q 106=q 24*q 12:=H 106 _ rfl;have e107:q 107=q 101-q 104:=H 107 _ rfl;have e108:q 108=q 102-q 105:=H 108 _ rfl;have e109:q 109=q 103-q 106:=H 109 _ rfl;have e110:q 110=q 107*q 107:=H 110 _ rfl;have e111:q 111=q 108*q 108:=H 111 _ rfl;have e112:q 112=q 110+q 111:=H 112 _ rfl;have e113:q 113=q 109*q 109:=H 113 _ rfl;have e114:q 114=q 112+q 113:=H 114 _ rfl
 exact eM_pBDz e4 e5 e6 e7 e8 e9 e10 e11 e12 e17 e18 e19 e20 e21 e22 e23 e24 e25 e101 e102 e103 e104 e105 e106 e107 e108 e109 e110 e111 e112 e113 e114
theorem eM_pACz {z0 z1 z2 z3 z4 z5 z6 z7 z8 z9 z10 z11 z12 z26 z27 z28 z29 z30 z31 z32 z33 z34 z35 z36 z37 z38 z115 z116 z117 z118 z119 z120 z121 z122 z123 z124 z125 z126 z127 z128 : Rat} : z4=z0*z0→z5=z1*z1→z6=z4+z5→z7=z2*z2→z8=z6+z7→z9=z0*fac [z0,z1,z2,z3]→z10=z1*fac [z0,z1,z2,z3]→z11=z2*fac [z0,z1,z2,z3]→z12=z3*fac [z0,z1,z2,z3]→z30=z26*z26→z31=z27*z27→z32=z30+z31→z33=z28*z28→z34=z32+z33→z35=z26*fac [z26,z27,z28,z29]→z36=z27*fac [z26,z27,z28,z29]→z37=z28*fac [z26,z27,z28,z29]→z38=z29*fac [z26,z27,z28,z29]→z115=z10*z37→z116=z11*z36→z117=z115-z116→z118=z11*z35→z119=z9*z37→z120=z118-z119→z121=z9*z36→z122=z10*z35→z123=z121-z122→z124=z117*z117→z125=z120*z120→z126=z124+z125→z127=z123*z123→z128=z126+z127→(¬ (z8=0))→(¬ (z34=0))→(z128=0↔((z1*z28-z27*z2=0∧z2*z26-z28*z0=0)∧z0*z27-z26*z1=0)) := by
 intro e4 e5 e6 e7 e8 e9 e10 e11 e12 e30 e31 e32 e33 e34 e35 e36 e37 e38 e115 e116 e117 e118 e119 e120 e121 e122 e123 e124 e125 e126 e127 e128
 intro h0 h2
 have n0 : ¬ ((z0=0∧z1=0)∧z2=0) := fun x => h0 ((sp_sq3 e4 e5 e6 e7 e8).2 x)
 have k0 : fac [z0,z1,z2,z3] ≠ 0 := fun x => n0 ⟨⟨fac_zero (by simp) x,fac_zero (by simp) x⟩,fac_zero (by simp) x⟩
 have n2 : ¬ ((z26=0∧z27=0)∧z28=0) := fun x => h2 ((sp_sq3 e30 e31 e32 e33 e34).2 x)
 have k2 : fac [z26,z27,z28,z29] ≠ 0 := fun x => n2 ⟨⟨fac_zero (by simp) x,fac_zero (by simp) x⟩,fac_zero (by simp) x⟩
 rw [(sp_sq3 e124 e125 e126 e127 e128)]
 generalize fac [z0,z1,z2,z3]=f0 at *
 generalize fac [z26,z27,z28,z29]=f2 at *
 have q0 : z117=(z1*z28 - z27*z2)*(f0*f2) := by clear h0 n0 k0 h2 n2 k2 ; clear e4 e5 e6 e7 e8 e30 e31 e32 e33 e34 e124 e125 e126 e127 e128; subst_vars; grind
 have q1 : z120=(z2*z26 - z28*z0)*(f0*f2) := by clear h0 n0 k0 h2 n2 k2 q0; clear e4 e5 e6 e7 e8 e30 e31 e32 e33 e34 e124 e125 e126 e127 e128; subst_vars; grind
 have q2 : z123=(z0*z27 - z26*z1)*(f0*f2) := by clear h0 n0 k0 h2 n2 k2 q0 q1; clear e4 e5 e6 e7 e8 e30 e31 e32 e33 e34 e124 e125 e126 e127 e128; subst_vars; grind
 rw [q0,q1,q2]
 exact ⟨fun ⟨⟨a,b⟩,c⟩ => ⟨⟨(Rat.mul_eq_zero.1 a).resolve_right (mul_ne k0 k2),(Rat.mul_eq_zero.1 b).resolve_right (mul_ne k0 k2)⟩,(Rat.mul_eq_zero.1 c).resolve_right (mul_ne k0 k2)⟩,fun ⟨⟨a,b⟩,c⟩ => ⟨⟨by rw [a,Rat.zero_mul],by rw [b,Rat.zero_mul]⟩,by rw [c,Rat.zero_mul]⟩⟩
theorem eM_pAC (H : eM_Q q σ) : (¬ (q 8=0))→(¬ (q 34=0))→(q 128=0↔((q 1*q 28-q 27*q 2=0∧q 2*q 26-q 28*q 0=0)∧q 0*q 27-q 26*q 1=0)) := by
 have e4:q 4=q 0*q 0:=H 4 _ rfl;have e5:q 5=q 1*q 1:=H 5 _ rfl;have e6:q 6=q 4+q 5:=H 6 _ rfl;have e7:q 7=q 2*q 2:=H 7 _ rfl;have e8:q 8=q 6+q 7:=H 8 _ rfl;have e9:q 9=q 0*fac [q 0,q 1,q 2,q 3]:=H 9 _ rfl;have e10:q 10=q 1*fac [q 0,q 1,q 2,q 3]:=H 10 _ rfl;have e11:q 11=q 2*fac [q 0,q 1,q 2,q 3]:=H 11 _ rfl;have e12:q 12=q 3*fac [q 0,q 1,q 2,q 3]:=H 12 _ rfl;have e30:q 30=q 26*q 26:=H 30 _ rfl;have e31:q 31=q 27*q 27:=H 31 _ rfl;have e32:q 32=q 30+q 31:=H 32 _ rfl;have e33:q 33=q 28*q 28:=H 33 _ rfl;have e34:q 34=q 32+q 33:=H 34 _ rfl;have e35:q 35=q 26*fac [q 26,q 27,q 28,q 29]:=H 35 _ rfl;have e36:q 36=q 27*fac [q 26,q 27,q 28,q 29]:=H 36 _ rfl;have e37:q 37=q 28*fac [q 26,q 27,q 28,q 29]:=H 37 _ rfl;have e38:q 38=q 29*fac [q 26,q 27,q 28,q 29]:=H 38 _ rfl;have e115:q 115=q 10*q 37:=H 115 _ rfl;have e116:q 116=q 11*q 36:=H 116 _ rfl;have e117:q 117=q 115-q 116:=H 117 _ rfl;have e118:q 118=q 11*q 35:=H 118 _ rfl;have e119:q 119=q 9*q 37:=H 119 _ rfl;have e120:q 120=q 118-q 119:=H 120 _ rfl;have e121:q 121=q 9*q 36:=H 121 _ rfl;have e122:q 122=q 10*q 35:=H 122 _ rfl;have e123:q 123=q 121-q 122:=H 123 _ rfl;have e124:q 124=q 117*q 117:=H 124 _ rfl;have e125:q 125=q 120*q 120:=H 125 _ rfl;have e126:q 126=q 124+q 125:=H 126 _ rfl;have e127:q 127=q 123*q 123:=H 127 _ rfl;have e128:q 128=q 126+q 127:=H 128 _ rfl
 exact eM_pACz e4 e5 e6 e7 e8 e9 e10 e11 e12 e30 e31 e32 e33 e34 e35 e36 e37 e38 e115 e116 e117 e118 e119 e120 e121 e122 e123 e124 e125 e126 e127 e128
theorem eM_pCDz {z0 z1 z2 z3 z4 z5 z6 z7 z8 z9 z10 z11 z12 z26 z27 z28 z29 z30 z31 z32 z33 z34 z35 z36 z37 z38 z129 z130 z131 z132 z133 z134 z135 z136 z137 z138 z139 z140 z141 z142 : Rat} : z4=z0*z0→z5=z1*z1→z6=z4+z5→z7=z2*z2→z8=z6+z7→z9=z0*fac [z0,z1,z2,z3]→z10=z1*fac [z0,z1,z2,z3]→z11=z2*fac [z0,z1,z2,z3]→z12=z3*fac [z0,z1,z2,z3]→z30=z26*z26→z31=z27*z27→z32=z30+z31→z33=z28*z28→z34=z32+z33→z35=z26*fac [z26,z27,z28,z29]→z36=z27*fac [z26,z27,z28,z29]→z37=z28*fac [z26,z27,z28,z29]→z38=z29*fac [z26,z27,z28,z29]→z129=z9*z38→z130=z10*z38→z131=z11*z38→z132=z35*z12→z133=z36*z12→z134=z37*z12→z135=z129-z132→z136=z130-z133→z137=z131-z134→z138=z135*z135→z139=z136*z136→z140=z138+z139→z141=z137*z137→z142=z140+z141→(¬ (z8=0))→(¬ (z34=0))→(z142=0↔((z0*z29-z26*z3=0∧z1*z29-z27*z3=0)∧z2*z29-z28*z3=0)) := by
 intro e4 e5 e6 e7 e8 e9 e10 e11 e12 e30 e31 e32 e33 e34 e35 e36 e37 e38 e129 e130 e131 e132 e133 e134 e135 e136 e137 e138 e139 e140 e141 e142
 intro h0 h2
 have n0 : ¬ ((z0=0∧z1=0)∧z2=0) := fun x => h0 ((sp_sq3 e4 e5 e6 e7 e8).2 x)
 have k0 : fac [z0,z1,z2,z3] ≠ 0 := fun x => n0 ⟨⟨fac_zero (by simp) x,fac_zero (by simp) x⟩,fac_zero (by simp) x⟩
 have n2 : ¬ ((z26=0∧z27=0)∧z28=0) := fun x => h2 ((sp_sq3 e30 e31 e32 e33 e34).2 x)
 have k2 : fac [z26,z27,z28,z29] ≠ 0 := fun x => n2 ⟨⟨fac_zero (by simp) x,fac_zero (by simp) x⟩,fac_zero (by simp) x⟩
 rw [(sp_sq3 e138 e139 e140 e141 e142)]
 generalize fac [z0,z1,z2,z3]=f0 at *
 generalize fac [z26,z27,z28,z29]=f2 at *
 have q0 : z135=(z0*z29 - z26*z3)*(f0*f2) := by clear h0 n0 k0 h2 n2 k2 ; clear e4 e5 e6 e7 e8 e30 e31 e32 e33 e34 e138 e139 e140 e141 e142; subst_vars; grind
 have q1 : z136=(z1*z29 - z27*z3)*(f0*f2) := by clear h0 n0 k0 h2 n2 k2 q0; clear e4 e5 e6 e7 e8 e30 e31 e32 e33 e34 e138 e139 e140 e141 e142; subst_vars; grind
 have q2 : z137=(z2*z29 - z28*z3)*(f0*f2) := by clear h0 n0 k0 h2 n2 k2 q0 q1; clear e4 e5 e6 e7 e8 e30 e31 e32 e33 e34 e138 e139 e140 e141 e142; subst_vars; grind
 rw [q0,q1,q2]
 exact ⟨fun ⟨⟨a,b⟩,c⟩ => ⟨⟨(Rat.mul_eq_zero.1 a).resolve_right (mul_ne k0 k2),(Rat.mul_eq_zero.1 b).resolve_right (mul_ne k0 k2)⟩,(Rat.mul_eq_zero.1 c).resolve_right (mul_ne k0 k2)⟩,fun ⟨⟨a,b⟩,c⟩ => ⟨⟨by rw [a,Rat.zero_mul],by rw [b,Rat.zero_mul]⟩,by rw [c,Rat.zero_mul]⟩⟩
theorem eM_pCD (H : eM_Q q σ) : (¬ (q 8=0))→(¬ (q 34=0))→(q 142=0↔((q 0*q 29-q 26*q 3=0∧q 1*q 29-q 27*q 3=0)∧q 2*q 29-q 28*q 3=0)) := by
 have e4:q 4=q 0*q 0:=H 4 _ rfl;have e5:q 5=q 1*q 1:=H 5 _ rfl;have e6:q 6=q 4+q 5:=H 6 _ rfl;have e7:q 7=q 2*q 2:=H 7 _ rfl;have e8:q 8=q 6+q 7:=H 8 _ rfl;have e9:q 9=q 0*fac [q 0,q 1,q 2,q 3]:=H 9 _ rfl;have e10:q 10=q 1*fac [q 0,q 1,q 2,q 3]:=H 10 _ rfl;have e11:q 11=q 2*fac [q 0,q 1,q 2,q 3]:=H 11 _ rfl;have e12:q 12=q 3*fac [q 0,q 1,q 2,q 3]:=H 12 _ rfl;have e30:q 30=q 26*q 26:=H 30 _ rfl;have e31:q 31=q 27*q 27:=H 31 _ rfl;have e32:q 32=q 30+q 31:=H 32 _ rfl;have e33:q 33=q 28*q 28:=H 33 _ rfl;have e34:q 34=q 32+q 33:=H 34 _ rfl;have e35:q 35=q 26*fac [q 26,q 27,q 28,q 29]:=H 35 _ rfl;have e36:q 36=q 27*fac [q 26,q 27,q 28,q 29]:=H 36 _ rfl;have e37:q 37=q 28*fac [q 26,q 27,q 28,q 29]:=H 37 _ rfl;have e38:q 38=q 29*fac [q 26,q 27,q 28,q 29]:=H 38 _ rfl;have e129:q 129=q 9*q 38:=H 129 _ rfl;have e130:q 130=q 10*q 38:=H 130 _ rfl;have e131:q 131=q 11*q 38:=H 131 _ rfl;have e132:q 132=q 35*q 12:=H 132 _ rfl;have e133:q 133=q 36*q 12:=H 133 _ rfl;have e134:q 134=q 37*q 12:=H 134 _ rfl;have e135:q 135=q 129-q 132:=H 135 _ rfl;have e136:q 136=q 130-q 133:=H 136 _ rfl;have e137:q 137=q 131-q 134:=H 137 _ rfl;have e138:q 138=q 135*q 135:=H 138 _ rfl;have e139:q 139=q 136*q 136:=H 139 _ rfl;have e140:q 140=q 138+q 139:=H 140 _ rfl;have e141:q 141=q 137*q 137:=H 141 _ rfl;have e142:q 142=q 140+q 141:=H 142 _ rfl
 exact eM_pCDz e4 e5 e6 e7 e8 e9 e10 e11 e12 e30 e31 e32 e33 e34 e35 e36 e37 e38 e129 e130 e131 e132 e133 e134 e135 e136 e137 e138 e139 e140 e141 e142
theorem eM_pk0 {z0 z1 z2 z13 z14 z15 z26 z27 z28 : Rat} : (¬ ((z0=0∧z1=0)∧z2=0))→(z0*(z14*z28-z27*z15)-z1*(z13*z28-z26*z15)+z2*(z13*z27-z26*z14)=0)→(((z1*z15-z14*z2=0∧z2*z13-z15*z0=0)∧z0*z14-z13*z1=0))→(z0=0)→(z13=0) := by
 intro h0 h1 h2 h3
 grind
theorem eM_pk1 {z0 z1 z2 z13 z14 z15 z26 z27 z28 : Rat} : (¬ ((z0=0∧z1=0)∧z2=0))→(z0*(z14*z28-z27*z15)-z1*(z13*z28-z26*z15)+z2*(z13*z27-z26*z14)=0)→(((z1*z28-z27*z2=0∧z2*z26-z28*z0=0)∧z0*z27-z26*z1=0))→(z0=0)→(z26=0) := by
 intro h0 h1 h2 h3
 grind
theorem eM_pk2 {z0 z1 z2 z13 z14 z15 z26 z27 z28 : Rat} : (¬ ((z0=0∧z1=0)∧z2=0))→(z0*(z14*z28-z27*z15)-z1*(z13*z28-z26*z15)+z2*(z13*z27-z26*z14)=0)→(((z1*z15-z14*z2=0∧z2*z13-z15*z0=0)∧z0*z14-z13*z1=0))→(z1=0)→(z14=0) := by
 intro h0 h1 h2 h3
 grind
theorem eM_pk3 {z0 z1 z2 z13 z14 z15 z26 z27 z28 : Rat} : (¬ ((z0=0∧z1=0)∧z2=0))→(z0*(z14*z28-z27*z15)-z1*(z13*z28-z26*z15)+z2*(z13*z27-z26*z14)=0)→(((z1*z28-z27*z2=0∧z2*z26-z28*z0=0)∧z0*z27-z26*z1=0))→(z1=0)→(z27=0) := by
 intro h0 h1 h2 h3
 grind
theorem eM_pk4 {z0 z1 z2 z13 z14 z15 z26 z27 z28 : Rat} : (¬ ((z0=0∧z1=0)∧z2=0))→(z0*(z14*z28-z27*z15)-z1*(z13*z28-z26*z15)+z2*(z13*z27-z26*z14)=0)→(z0=0)→(z1=0)→(¬ (z2=0)) := by
 intro h0 h1 h2 h3 hg
 grind
theorem eM_pk5 {z0 z1 z2 z13 z14 z15 z26 z27 z28 : Rat} : (¬ ((z13=0∧z14=0)∧z15=0))→(z0*(z14*z28-z27*z15)-z1*(z13*z28-z26*z15)+z2*(z13*z27-z26*z14)=0)→(z13=0)→(z14=0)→(¬ (z15=0)) := by
 intro h0 h1 h2 h3 hg
 grind
theorem eM_pk6 {z0 z1 z2 z13 z14 z15 z26 z27 z28 : Rat} : (¬ ((z26=0∧z27=0)∧z28=0))→(z0*(z14*z28-z27*z15)-z1*(z13*z28-z26*z15)+z2*(z13*z27-z26*z14)=0)→(z26=0)→(z27=0)→(¬ (z28=0)) := by
 intro h0 h1 h2 h3 hg
 grind
theorem eM_pk7 {z0 z1 z2 z3 z13 z14 z15 z16 z26 z27 z28 z29 : Rat} : (z0*(z14*z28-z27*z15)-z1*(z13*z28-z26*z15)+z2*(z13*z27-z26*z14)=0)→(((z1*z15-z14*z2=0∧z2*z13-z15*z0=0)∧z0*z14-z13*z1=0))→(((z0*z16-z13*z3=0∧z1*z16-z14*z3=0)∧z2*z16-z15*z3=0))→(((z1*z28-z27*z2=0∧z2*z26-z28*z0=0)∧z0*z27-z26*z1=0))→(((z0*z29-z26*z3=0∧z1*z29-z27*z3=0)∧z2*z29-z28*z3=0))→(¬ (z2=0))→(z28*z16-z15*z29=0) := by
 intro h0 h1 h2 h3 h4 h5
 grind
theorem eM_pm173 (H : eM_Q q σ) : (q 28 ≠ 0)→(q 173*q 28=q 28*q 16-q 15*q 29) := by
 have e158:q 158=q 15/q 28:=H 158 _ rfl;have e172:q 172=q 158*q 29:=H 172 _ rfl;have e173:q 173=q 16-q 172:=H 173 _ rfl
 clear H
 intro hp
 have k := sp_l1 hp e158 (e173.trans (congrArg _ e172))
 first | exact k | (rw [k]; clear k; grind)
theorem eM_pk8 {z0 z1 z2 z3 z13 z14 z15 z26 z27 z28 z29 : Rat} : (z0*(z14*z28-z27*z15)-z1*(z13*z28-z26*z15)+z2*(z13*z27-z26*z14)=0)→(((z1*z15-z14*z2=0∧z2*z13-z15*z0=0)∧z0*z14-z13*z1=0))→(((z1*z28-z27*z2=0∧z2*z26-z28*z0=0)∧z0*z27-z26*z1=0))→(((z0*z29-z26*z3=0∧z1*z29-z27*z3=0)∧z2*z29-z28*z3=0))→(z28*z3-z2*z29=0) := by
 intro h0 h1 h2 h3
 grind
theorem eM_pm175 (H : eM_Q q σ) : (q 28 ≠ 0)→(q 175*q 28=q 28*q 3-q 2*q 29) := by
 have e165:q 165=q 2/q 28:=H 165 _ rfl;have e174:q 174=q 165*q 29:=H 174 _ rfl;have e175:q 175=q 3-q 174:=H 175 _ rfl
 clear H
 intro hp
 have k := sp_l1 hp e165 (e175.trans (congrArg _ e174))
 first | exact k | (rw [k]; clear k; grind)
theorem eM_pk9 {z0 z1 z2 z13 z14 z15 z26 z27 z28 : Rat} : (¬ ((z13=0∧z14=0)∧z15=0))→(z0*(z14*z28-z27*z15)-z1*(z13*z28-z26*z15)+z2*(z13*z27-z26*z14)=0)→(((z1*z15-z14*z2=0∧z2*z13-z15*z0=0)∧z0*z14-z13*z1=0))→(¬ (z1=0))→(¬ (z14=0)) := by
 intro h0 h1 h2 h3 hg
 grind
theorem eM_pk10 {z0 z1 z2 z13 z14 z15 z26 z27 z28 : Rat} : (¬ ((z26=0∧z27=0)∧z28=0))→(z0*(z14*z28-z27*z15)-z1*(z13*z28-z26*z15)+z2*(z13*z27-z26*z14)=0)→(((z1*z28-z27*z2=0∧z2*z26-z28*z0=0)∧z0*z27-z26*z1=0))→(¬ (z1=0))→(¬ (z27=0)) := by
 intro h0 h1 h2 h3 hg
 grind
theorem eM_pk11 {z0 z1 z2 z13 z14 z15 z26 z27 z28 : Rat} : (z0*(z14*z28-z27*z15)-z1*(z13*z28-z26*z15)+z2*(z13*z27-z26*z14)=0)→(((z1*z15-z14*z2=0∧z2*z13-z15*z0=0)∧z0*z14-z13*z1=0))→(((z1*z28-z27*z2=0∧z2*z26-z28*z0=0)∧z0*z27-z26*z1=0))→(¬ (z1=0))→(z27*z15-z14*z28=0) := by
 intro h0 h1 h2 h3
 grind
theorem eM_pm182 (H : eM_Q q σ) : (q 27 ≠ 0)→(q 182*q 27=q 27*q 15-q 14*q 28) := by
 have e176:q 176=q 14/q 27:=H 176 _ rfl;have e181:q 181=q 176*q 28:=H 181 _ rfl;have e182:q 182=q 15-q 181:=H 182 _ rfl
 clear H
 intro hp
 have k := sp_l1 hp e176 (e182.trans (congrArg _ e181))
 first | exact k | (rw [k]; clear k; grind)
theorem eM_pk12 {z0 z1 z2 z13 z14 z15 z26 z27 z28 : Rat} : (z0*(z14*z28-z27*z15)-z1*(z13*z28-z26*z15)+z2*(z13*z27-z26*z14)=0)→(((z1*z28-z27*z2=0∧z2*z26-z28*z0=0)∧z0*z27-z26*z1=0))→(z27*z2-z1*z28=0) := by
 intro h0 h1
 grind
theorem eM_pm189 (H : eM_Q q σ) : (q 27 ≠ 0)→(q 189*q 27=q 27*q 2-q 1*q 28) := by
 have e183:q 183=q 1/q 27:=H 183 _ rfl;have e188:q 188=q 183*q 28:=H 188 _ rfl;have e189:q 189=q 2-q 188:=H 189 _ rfl
 clear H
 intro hp
 have k := sp_l1 hp e183 (e189.trans (congrArg _ e188))
 first | exact k | (rw [k]; clear k; grind)
theorem eM_pk13 {z0 z1 z2 z3 z13 z14 z15 z16 z26 z27 z28 z29 : Rat} : (z0*(z14*z28-z27*z15)-z1*(z13*z28-z26*z15)+z2*(z13*z27-z26*z14)=0)→(((z1*z15-z14*z2=0∧z2*z13-z15*z0=0)∧z0*z14-z13*z1=0))→(((z0*z16-z13*z3=0∧z1*z16-z14*z3=0)∧z2*z16-z15*z3=0))→(((z1*z28-z27*z2=0∧z2*z26-z28*z0=0)∧z0*z27-z26*z1=0))→(((z0*z29-z26*z3=0∧z1*z29-z27*z3=0)∧z2*z29-z28*z3=0))→(¬ (z1=0))→(z27*z16-z14*z29=0) := by
 intro h0 h1 h2 h3 h4 h5
 grind
theorem eM_pm191 (H : eM_Q q σ) : (q 27 ≠ 0)→(q 191*q 27=q 27*q 16-q 14*q 29) := by
 have e176:q 176=q 14/q 27:=H 176 _ rfl;have e190:q 190=q 176*q 29:=H 190 _ rfl;have e191:q 191=q 16-q 190:=H 191 _ rfl
 clear H
 intro hp
 have k := sp_l1 hp e176 (e191.trans (congrArg _ e190))
 first | exact k | (rw [k]; clear k; grind)
theorem eM_pk14 {z0 z1 z2 z3 z13 z14 z15 z26 z27 z28 z29 : Rat} : (z0*(z14*z28-z27*z15)-z1*(z13*z28-z26*z15)+z2*(z13*z27-z26*z14)=0)→(((z1*z15-z14*z2=0∧z2*z13-z15*z0=0)∧z0*z14-z13*z1=0))→(((z1*z28-z27*z2=0∧z2*z26-z28*z0=0)∧z0*z27-z26*z1=0))→(((z0*z29-z26*z3=0∧z1*z29-z27*z3=0)∧z2*z29-z28*z3=0))→(z27*z3-z1*z29=0) := by
 intro h0 h1 h2 h3
 grind
theorem eM_pm193 (H : eM_Q q σ) : (q 27 ≠ 0)→(q 193*q 27=q 27*q 3-q 1*q 29) := by
 have e183:q 183=q 1/q 27:=H 183 _ rfl;have e192:q 192=q 183*q 29:=H 192 _ rfl;have e193:q 193=q 3-q 192:=H 193 _ rfl
 clear H
 intro hp
 have k := sp_l1 hp e183 (e193.trans (congrArg _ e192))
 first | exact k | (rw [k]; clear k; grind)
theorem eM_pk15 {z0 z1 z2 z13 z14 z15 z26 z27 z28 : Rat} : (¬ ((z13=0∧z14=0)∧z15=0))→(z0*(z14*z28-z27*z15)-z1*(z13*z28-z26*z15)+z2*(z13*z27-z26*z14)=0)→(((z1*z15-z14*z2=0∧z2*z13-z15*z0=0)∧z0*z14-z13*z1=0))→(¬ (z0=0))→(¬ (z13=0)) := by
 intro h0 h1 h2 h3 hg
 grind
theorem eM_pk16 {z0 z1 z2 z13 z14 z15 z26 z27 z28 : Rat} : (¬ ((z26=0∧z27=0)∧z28=0))→(z0*(z14*z28-z27*z15)-z1*(z13*z28-z26*z15)+z2*(z13*z27-z26*z14)=0)→(((z1*z28-z27*z2=0∧z2*z26-z28*z0=0)∧z0*z27-z26*z1=0))→(¬ (z0=0))→(¬ (z26=0)) := by
 intro h0 h1 h2 h3 hg
 grind
theorem eM_pk17 {z0 z1 z2 z13 z14 z15 z26 z27 z28 : Rat} : (z0*(z14*z28-z27*z15)-z1*(z13*z28-z26*z15)+z2*(z13*z27-z26*z14)=0)→(((z1*z15-z14*z2=0∧z2*z13-z15*z0=0)∧z0*z14-z13*z1=0))→(((z1*z28-z27*z2=0∧z2*z26-z28*z0=0)∧z0*z27-z26*z1=0))→(¬ (z0=0))→(z26*z14-z13*z27=0) := by
 intro h0 h1 h2 h3
 grind
theorem eM_pm198 (H : eM_Q q σ) : (q 26 ≠ 0)→(q 198*q 26=q 26*q 14-q 13*q 27) := by
 have e194:q 194=q 13/q 26:=H 194 _ rfl;have e197:q 197=q 194*q 27:=H 197 _ rfl;have e198:q 198=q 14-q 197:=H 198 _ rfl
 clear H
 intro hp
 have k := sp_l1 hp e194 (e198.trans (congrArg _ e197))
 first | exact k | (rw [k]; clear k; grind)
theorem eM_pk18 {z0 z1 z2 z13 z14 z15 z26 z27 z28 : Rat} : (z0*(z14*z28-z27*z15)-z1*(z13*z28-z26*z15)+z2*(z13*z27-z26*z14)=0)→(((z1*z28-z27*z2=0∧z2*z26-z28*z0=0)∧z0*z27-z26*z1=0))→(z26*z1-z0*z27=0) := by
 intro h0 h1
 grind
theorem eM_pm205 (H : eM_Q q σ) : (q 26 ≠ 0)→(q 205*q 26=q 26*q 1-q 0*q 27) := by
 have e201:q 201=q 0/q 26:=H 201 _ rfl;have e204:q 204=q 201*q 27:=H 204 _ rfl;have e205:q 205=q 1-q 204:=H 205 _ rfl
 clear H
 intro hp
 have k := sp_l1 hp e201 (e205.trans (congrArg _ e204))
 first | exact k | (rw [k]; clear k; grind)
theorem eM_pk19 {z0 z1 z2 z13 z14 z15 z26 z27 z28 : Rat} : (z0*(z14*z28-z27*z15)-z1*(z13*z28-z26*z15)+z2*(z13*z27-z26*z14)=0)→(((z1*z15-z14*z2=0∧z2*z13-z15*z0=0)∧z0*z14-z13*z1=0))→(((z1*z28-z27*z2=0∧z2*z26-z28*z0=0)∧z0*z27-z26*z1=0))→(¬ (z0=0))→(z26*z15-z13*z28=0) := by
 intro h0 h1 h2 h3
 grind
theorem eM_pm200 (H : eM_Q q σ) : (q 26 ≠ 0)→(q 200*q 26=q 26*q 15-q 13*q 28) := by
 have e194:q 194=q 13/q 26:=H 194 _ rfl;have e199:q 199=q 194*q 28:=H 199 _ rfl;have e200:q 200=q 15-q 199:=H 200 _ rfl
 clear H
 intro hp
 have k := sp_l1 hp e194 (e200.trans (congrArg _ e199))
 first | exact k | (rw [k]; clear k; grind)
theorem eM_pk20 {z0 z1 z2 z13 z14 z15 z26 z27 z28 : Rat} : (z0*(z14*z28-z27*z15)-z1*(z13*z28-z26*z15)+z2*(z13*z27-z26*z14)=0)→(((z1*z28-z27*z2=0∧z2*z26-z28*z0=0)∧z0*z27-z26*z1=0))→(z26*z2-z0*z28=0) := by
 intro h0 h1
 grind
theorem eM_pm207 (H : eM_Q q σ) : (q 26 ≠ 0)→(q 207*q 26=q 26*q 2-q 0*q 28) := by
 have e201:q 201=q 0/q 26:=H 201 _ rfl;have e206:q 206=q 201*q 28:=H 206 _ rfl;have e207:q 207=q 2-q 206:=H 207 _ rfl
 clear H
 intro hp
 have k := sp_l1 hp e201 (e207.trans (congrArg _ e206))
 first | exact k | (rw [k]; clear k; grind)
theorem eM_pk21 {z0 z1 z2 z3 z13 z14 z15 z16 z26 z27 z28 z29 : Rat} : (z0*(z14*z28-z27*z15)-z1*(z13*z28-z26*z15)+z2*(z13*z27-z26*z14)=0)→(((z1*z15-z14*z2=0∧z2*z13-z15*z0=0)∧z0*z14-z13*z1=0))→(((z0*z16-z13*z3=0∧z1*z16-z14*z3=0)∧z2*z16-z15*z3=0))→(((z1*z28-z27*z2=0∧z2*z26-z28*z0=0)∧z0*z27-z26*z1=0))→(((z0*z29-z26*z3=0∧z1*z29-z27*z3=0)∧z2*z29-z28*z3=0))→(¬ (z0=0))→(z26*z16-z13*z29=0) := by
 intro h0 h1 h2 h3 h4 h5
 grind
theorem eM_pm209 (H : eM_Q q σ) : (q 26 ≠ 0)→(q 209*q 26=q 26*q 16-q 13*q 29) := by
 have e194:q 194=q 13/q 26:=H 194 _ rfl;have e208:q 208=q 194*q 29:=H 208 _ rfl;have e209:q 209=q 16-q 208:=H 209 _ rfl
 clear H
 intro hp
 have k := sp_l1 hp e194 (e209.trans (congrArg _ e208))
 first | exact k | (rw [k]; clear k; grind)
theorem eM_pk22 {z0 z1 z2 z3 z13 z14 z15 z26 z27 z28 z29 : Rat} : (z0*(z14*z28-z27*z15)-z1*(z13*z28-z26*z15)+z2*(z13*z27-z26*z14)=0)→(((z1*z15-z14*z2=0∧z2*z13-z15*z0=0)∧z0*z14-z13*z1=0))→(((z1*z28-z27*z2=0∧z2*z26-z28*z0=0)∧z0*z27-z26*z1=0))→(((z0*z29-z26*z3=0∧z1*z29-z27*z3=0)∧z2*z29-z28*z3=0))→(z26*z3-z0*z29=0) := by
 intro h0 h1 h2 h3
 grind
theorem eM_pm211 (H : eM_Q q σ) : (q 26 ≠ 0)→(q 211*q 26=q 26*q 3-q 0*q 29) := by
 have e201:q 201=q 0/q 26:=H 201 _ rfl;have e210:q 210=q 201*q 29:=H 210 _ rfl;have e211:q 211=q 3-q 210:=H 211 _ rfl
 clear H
 intro hp
 have k := sp_l1 hp e201 (e211.trans (congrArg _ e210))
 first | exact k | (rw [k]; clear k; grind)
theorem eM_pk23 {z0 z1 z2 z3 z13 z14 z15 z16 z26 z27 z28 z29 : Rat} : (z0*(z14*z28-z27*z15)-z1*(z13*z28-z26*z15)+z2*(z13*z27-z26*z14)=0)→(((z1*z15-z14*z2=0∧z2*z13-z15*z0=0)∧z0*z14-z13*z1=0))→(((z0*z16-z13*z3=0∧z1*z16-z14*z3=0)∧z2*z16-z15*z3=0))→(¬ ((z0*z29-z26*z3=0∧z1*z29-z27*z3=0)∧z2*z29-z28*z3=0))→(z0=0)→(z13=0) := by
 intro h0 h1 h2 h3 h4
 grind
theorem eM_pk24 {z0 z1 z2 z3 z13 z14 z15 z16 z26 z27 z28 z29 : Rat} : (¬ ((z13=0∧z14=0)∧z15=0))→(z0*(z14*z28-z27*z15)-z1*(z13*z28-z26*z15)+z2*(z13*z27-z26*z14)=0)→(((z0*z16-z13*z3=0∧z1*z16-z14*z3=0)∧z2*z16-z15*z3=0))→(((z1*z28-z27*z2=0∧z2*z26-z28*z0=0)∧z0*z27-z26*z1=0))→(¬ ((z0*z29-z26*z3=0∧z1*z29-z27*z3=0)∧z2*z29-z28*z3=0))→(z0=0)→(z26=0) := by
 intro h0 h1 h2 h3 h4 h5
 grind
theorem eM_pk25 {z0 z1 z2 z3 z13 z14 z15 z16 z26 z27 z28 z29 : Rat} : (z0*(z14*z28-z27*z15)-z1*(z13*z28-z26*z15)+z2*(z13*z27-z26*z14)=0)→(((z1*z15-z14*z2=0∧z2*z13-z15*z0=0)∧z0*z14-z13*z1=0))→(((z0*z16-z13*z3=0∧z1*z16-z14*z3=0)∧z2*z16-z15*z3=0))→(¬ ((z0*z29-z26*z3=0∧z1*z29-z27*z3=0)∧z2*z29-z28*z3=0))→(z1=0)→(z14=0) := by
 intro h0 h1 h2 h3 h4
 grind
theorem eM_pk26 {z0 z1 z2 z3 z13 z14 z15 z16 z26 z27 z28 z29 : Rat} : (¬ ((z13=0∧z14=0)∧z15=0))→(z0*(z14*z28-z27*z15)-z1*(z13*z28-z26*z15)+z2*(z13*z27-z26*z14)=0)→(((z0*z16-z13*z3=0∧z1*z16-z14*z3=0)∧z2*z16-z15*z3=0))→(((z1*z28-z27*z2=0∧z2*z26-z28*z0=0)∧z0*z27-z26*z1=0))→(¬ ((z0*z29-z26*z3=0∧z1*z29-z27*z3=0)∧z2*z29-z28*z3=0))→(z1=0)→(z27=0) := by
 intro h0 h1 h2 h3 h4 h5
 grind
theorem eM_pk27 {z0 z1 z2 z3 z13 z14 z15 z16 z26 z27 z28 z29 : Rat} : (¬ ((z13=0∧z14=0)∧z15=0))→(z0*(z14*z28-z27*z15)-z1*(z13*z28-z26*z15)+z2*(z13*z27-z26*z14)=0)→(((z0*z16-z13*z3=0∧z1*z16-z14*z3=0)∧z2*z16-z15*z3=0))→(¬ ((z0*z29-z26*z3=0∧z1*z29-z27*z3=0)∧z2*z29-z28*z3=0))→(z0=0)→(z1=0)→(¬ (z2=0)) := by
 intro h0 h1 h2 h3 h4 h5 hg
 grind
theorem eM_pk28 {z0 z1 z2 z3 z13 z14 z15 z16 z26 z27 z28 z29 : Rat} : (z0*(z14*z28-z27*z15)-z1*(z13*z28-z26*z15)+z2*(z13*z27-z26*z14)=0)→(((z1*z15-z14*z2=0∧z2*z13-z15*z0=0)∧z0*z14-z13*z1=0))→(((z0*z16-z13*z3=0∧z1*z16-z14*z3=0)∧z2*z16-z15*z3=0))→(((z1*z28-z27*z2=0∧z2*z26-z28*z0=0)∧z0*z27-z26*z1=0))→(¬ ((z0*z29-z26*z3=0∧z1*z29-z27*z3=0)∧z2*z29-z28*z3=0))→(¬ (z15=0))→(¬ (z28*z16-z15*z29=0)) := by
 intro h0 h1 h2 h3 h4 h5 hg
 grind
theorem eM_pk29 {z0 z1 z2 z3 z13 z14 z15 z26 z27 z28 z29 : Rat} : (z0*(z14*z28-z27*z15)-z1*(z13*z28-z26*z15)+z2*(z13*z27-z26*z14)=0)→(((z1*z15-z14*z2=0∧z2*z13-z15*z0=0)∧z0*z14-z13*z1=0))→(((z1*z28-z27*z2=0∧z2*z26-z28*z0=0)∧z0*z27-z26*z1=0))→(¬ ((z0*z29-z26*z3=0∧z1*z29-z27*z3=0)∧z2*z29-z28*z3=0))→(¬ (z28=0))→(¬ (z28*z3-z2*z29=0)) := by
 intro h0 h1 h2 h3 h4 hg
 grind
theorem eM_pk30 {z0 z1 z2 z3 z13 z14 z15 z16 z26 z27 z28 z29 : Rat} : (z0*(z14*z28-z27*z15)-z1*(z13*z28-z26*z15)+z2*(z13*z27-z26*z14)=0)→(((z1*z15-z14*z2=0∧z2*z13-z15*z0=0)∧z0*z14-z13*z1=0))→(((z0*z16-z13*z3=0∧z1*z16-z14*z3=0)∧z2*z16-z15*z3=0))→(((z1*z28-z27*z2=0∧z2*z26-z28*z0=0)∧z0*z27-z26*z1=0))→(¬ ((z0*z29-z26*z3=0∧z1*z29-z27*z3=0)∧z2*z29-z28*z3=0))→(¬ (z14=0))→(¬ (z27*z16-z14*z29=0)) := by
 intro h0 h1 h2 h3 h4 h5 hg
 grind
theorem eM_pk31 {z0 z1 z2 z3 z13 z14 z15 z26 z27 z28 z29 : Rat} : (z0*(z14*z28-z27*z15)-z1*(z13*z28-z26*z15)+z2*(z13*z27-z26*z14)=0)→(((z1*z15-z14*z2=0∧z2*z13-z15*z0=0)∧z0*z14-z13*z1=0))→(((z1*z28-z27*z2=0∧z2*z26-z28*z0=0)∧z0*z27-z26*z1=0))→(¬ ((z0*z29-z26*z3=0∧z1*z29-z27*z3=0)∧z2*z29-z28*z3=0))→(¬ (z27=0))→(¬ (z27*z3-z1*z29=0)) := by
 intro h0 h1 h2 h3 h4 hg
 grind
theorem eM_pk32 {z0 z1 z2 z3 z13 z14 z15 z16 z26 z27 z28 z29 : Rat} : (z0*(z14*z28-z27*z15)-z1*(z13*z28-z26*z15)+z2*(z13*z27-z26*z14)=0)→(((z1*z15-z14*z2=0∧z2*z13-z15*z0=0)∧z0*z14-z13*z1=0))→(((z0*z16-z13*z3=0∧z1*z16-z14*z3=0)∧z2*z16-z15*z3=0))→(((z1*z28-z27*z2=0∧z2*z26-z28*z0=0)∧z0*z27-z26*z1=0))→(¬ ((z0*z29-z26*z3=0∧z1*z29-z27*z3=0)∧z2*z29-z28*z3=0))→(¬ (z13=0))→(¬ (z26*z16-z13*z29=0)) := by
 intro h0 h1 h2 h3 h4 h5 hg
 grind
theorem eM_pk33 {z0 z1 z2 z3 z13 z14 z15 z16 z26 z27 z28 z29 : Rat} : (z0*(z14*z28-z27*z15)-z1*(z13*z28-z26*z15)+z2*(z13*z27-z26*z14)=0)→(((z1*z15-z14*z2=0∧z2*z13-z15*z0=0)∧z0*z14-z13*z1=0))→(((z1*z28-z27*z2=0∧z2*z26-z28*z0=0)∧z0*z27-z26*z1=0))→(¬ ((z0*z29-z26*z3=0∧z1*z29-z27*z3=0)∧z2*z29-z28*z3=0))→(z26*z14-z13*z27=0)→(z26*z15-z13*z28=0)→(¬ (z26*z16-z13*z29=0))→(¬ (z26*z3-z0*z29=0)) := by
 intro h0 h1 h2 h3 h4 h5 h6 hg
 grind
theorem eM_pk34 {z0 z1 z2 z13 z14 z15 z26 z27 z28 : Rat} : (z0*(z14*z28-z27*z15)-z1*(z13*z28-z26*z15)+z2*(z13*z27-z26*z14)=0)→(((z1*z15-z14*z2=0∧z2*z13-z15*z0=0)∧z0*z14-z13*z1=0))→(¬ ((z1*z28-z27*z2=0∧z2*z26-z28*z0=0)∧z0*z27-z26*z1=0))→(z0=0)→(z13=0) := by
 intro h0 h1 h2 h3
 grind
theorem eM_pk35 {z0 z1 z2 z13 z14 z15 z26 z27 z28 : Rat} : (z0*(z14*z28-z27*z15)-z1*(z13*z28-z26*z15)+z2*(z13*z27-z26*z14)=0)→(((z1*z15-z14*z2=0∧z2*z13-z15*z0=0)∧z0*z14-z13*z1=0))→(¬ ((z1*z28-z27*z2=0∧z2*z26-z28*z0=0)∧z0*z27-z26*z1=0))→(z1=0)→(z14=0) := by
 intro h0 h1 h2 h3
 grind
theorem eM_pk36 {z0 z1 z2 z13 z14 z15 z26 z27 z28 : Rat} : (z0*(z14*z28-z27*z15)-z1*(z13*z28-z26*z15)+z2*(z13*z27-z26*z14)=0)→(¬ ((z1*z28-z27*z2=0∧z2*z26-z28*z0=0)∧z0*z27-z26*z1=0))→(z0=0)→(z26=0)→(z1=0)→(¬ (z27=0)) := by
 intro h0 h1 h2 h3 h4 hg
 grind
theorem eM_pk37 {z0 z1 z2 z13 z14 z15 z26 z27 z28 : Rat} : (¬ ((z13=0∧z14=0)∧z15=0))→(z0*(z14*z28-z27*z15)-z1*(z13*z28-z26*z15)+z2*(z13*z27-z26*z14)=0)→(z13=0)→(z14=0)→(¬ (z27=0))→(¬ (z27*z15-z14*z28=0)) := by
 intro h0 h1 h2 h3 h4 hg
 grind
theorem eM_pk38 {z0 z1 z2 z13 z14 z15 z26 z27 z28 : Rat} : (z0*(z14*z28-z27*z15)-z1*(z13*z28-z26*z15)+z2*(z13*z27-z26*z14)=0)→(¬ ((z1*z28-z27*z2=0∧z2*z26-z28*z0=0)∧z0*z27-z26*z1=0))→(¬ (z27*z15-z14*z28=0))→(¬ (z27*z2-z1*z28=0)) := by
 intro h0 h1 h2 hg
 grind
theorem eM_pk39 {z0 z1 z2 z3 z13 z14 z15 z16 z26 z27 z28 z29 : Rat} : (z0*(z14*z28-z27*z15)-z1*(z13*z28-z26*z15)+z2*(z13*z27-z26*z14)=0)→(((z0*z16-z13*z3=0∧z1*z16-z14*z3=0)∧z2*z16-z15*z3=0))→(z1=0)→(z14=0)→(z27*(z2*z16-z15*z3)-z28*(z1*z16-z14*z3)+z29*(z1*z15-z14*z2)=0) := by
 intro h0 h1 h2 h3
 grind
theorem eM_pm247 (H : eM_Q q σ) : (q 27 ≠ 0)→(q 189 ≠ 0)→(q 191*q 27=q 27*q 16-q 14*q 29)→(q 193*q 27=q 27*q 3-q 1*q 29)→(q 182*q 27=q 27*q 15-q 14*q 28)→(q 189*q 27=q 27*q 2-q 1*q 28)→(q 247*(q 27*q 2-q 1*q 28)=q 27*(q 2*q 16-q 15*q 3)-q 28*(q 1*q 16-q 14*q 3)+q 29*(q 1*q 15-q 14*q 2)) := by
 have e239:q 239=q 182/q 189:=H 239 _ rfl;have e246:q 246=q 239*q 193:=H 246 _ rfl;have e247:q 247=q 191-q 246:=H 247 _ rfl
 clear H
 intro hp hv ha hb hu hw
 exact sp_l2 hp hv ha hb hu hw e239 (e247.trans (congrArg _ e246)) (by clear hp hv ha hb hu hw e239 e246 e247; grind)
theorem eM_pk40 {z0 z1 z2 z13 z14 z15 z26 z27 z28 : Rat} : (z0*(z14*z28-z27*z15)-z1*(z13*z28-z26*z15)+z2*(z13*z27-z26*z14)=0)→(((z1*z15-z14*z2=0∧z2*z13-z15*z0=0)∧z0*z14-z13*z1=0))→(z14*z2-z1*z15=0) := by
 intro h0 h1
 grind
theorem eM_pm254 (H : eM_Q q σ) : (q 14 ≠ 0)→(q 254*q 14=q 14*q 2-q 1*q 15) := by
 have e248:q 248=q 1/q 14:=H 248 _ rfl;have e253:q 253=q 248*q 15:=H 253 _ rfl;have e254:q 254=q 2-q 253:=H 254 _ rfl
 clear H
 intro hp
 have k := sp_l1 hp e248 (e254.trans (congrArg _ e253))
 first | exact k | (rw [k]; clear k; grind)
theorem eM_pk41 {z0 z1 z2 z13 z14 z15 z26 z27 z28 : Rat} : (z0*(z14*z28-z27*z15)-z1*(z13*z28-z26*z15)+z2*(z13*z27-z26*z14)=0)→(¬ ((z1*z28-z27*z2=0∧z2*z26-z28*z0=0)∧z0*z27-z26*z1=0))→(z26=0)→(¬ (z14=0))→(z27=0)→(¬ (z14*z28-z27*z15=0)) := by
 intro h0 h1 h2 h3 h4 hg
 grind
theorem eM_pm261 (H : eM_Q q σ) : (q 14 ≠ 0)→(q 261*q 14=q 14*q 28-q 27*q 15) := by
 have e255:q 255=q 27/q 14:=H 255 _ rfl;have e260:q 260=q 255*q 15:=H 260 _ rfl;have e261:q 261=q 28-q 260:=H 261 _ rfl
 clear H
 intro hp
 have k := sp_l1 hp e255 (e261.trans (congrArg _ e260))
 first | exact k | (rw [k]; clear k; grind)
theorem eM_pk42 {z0 z1 z2 z3 z13 z14 z15 z16 z26 z27 z28 z29 : Rat} : (z0*(z14*z28-z27*z15)-z1*(z13*z28-z26*z15)+z2*(z13*z27-z26*z14)=0)→(((z0*z16-z13*z3=0∧z1*z16-z14*z3=0)∧z2*z16-z15*z3=0))→(z14*z2-z1*z15=0)→(z14*(z28*z3-z2*z29)-z15*(z27*z3-z1*z29)+z16*(z27*z2-z1*z28)=0) := by
 intro h0 h1 h2
 grind
theorem eM_pm270 (H : eM_Q q σ) : (q 14 ≠ 0)→(q 270*q 14=q 14*q 3-q 1*q 16) := by
 have e248:q 248=q 1/q 14:=H 248 _ rfl;have e269:q 269=q 248*q 16:=H 269 _ rfl;have e270:q 270=q 3-q 269:=H 270 _ rfl
 clear H
 intro hp
 have k := sp_l1 hp e248 (e270.trans (congrArg _ e269))
 first | exact k | (rw [k]; clear k; grind)
theorem eM_pm272 (H : eM_Q q σ) : (q 14 ≠ 0)→(q 272*q 14=q 14*q 29-q 27*q 16) := by
 have e255:q 255=q 27/q 14:=H 255 _ rfl;have e271:q 271=q 255*q 16:=H 271 _ rfl;have e272:q 272=q 29-q 271:=H 272 _ rfl
 clear H
 intro hp
 have k := sp_l1 hp e255 (e272.trans (congrArg _ e271))
 first | exact k | (rw [k]; clear k; grind)
theorem eM_pm274 (H : eM_Q q σ) : (q 14 ≠ 0)→(q 261 ≠ 0)→(q 270*q 14=q 14*q 3-q 1*q 16)→(q 272*q 14=q 14*q 29-q 27*q 16)→(q 254*q 14=q 14*q 2-q 1*q 15)→(q 261*q 14=q 14*q 28-q 27*q 15)→(q 274*(q 14*q 28-q 27*q 15)=q 14*(q 28*q 3-q 2*q 29)-q 15*(q 27*q 3-q 1*q 29)+q 16*(q 27*q 2-q 1*q 28)) := by
 have e262:q 262=q 254/q 261:=H 262 _ rfl;have e273:q 273=q 262*q 272:=H 273 _ rfl;have e274:q 274=q 270-q 273:=H 274 _ rfl
 clear H
 intro hp hv ha hb hu hw
 exact sp_l2 hp hv ha hb hu hw e262 (e274.trans (congrArg _ e273)) (by clear hp hv ha hb hu hw e262 e273 e274; grind)
theorem eM_pk43 {z0 z1 z2 z13 z14 z15 z26 z27 z28 : Rat} : (z0*(z14*z28-z27*z15)-z1*(z13*z28-z26*z15)+z2*(z13*z27-z26*z14)=0)→(((z1*z15-z14*z2=0∧z2*z13-z15*z0=0)∧z0*z14-z13*z1=0))→(¬ ((z1*z28-z27*z2=0∧z2*z26-z28*z0=0)∧z0*z27-z26*z1=0))→(z13=0)→(z26=0)→(¬ (z14=0))→(¬ (z27*z15-z14*z28=0)) := by
 intro h0 h1 h2 h3 h4 h5 hg
 grind
theorem eM_pk44 {z0 z1 z2 z3 z13 z14 z15 z16 z26 z27 z28 z29 : Rat} : (z0*(z14*z28-z27*z15)-z1*(z13*z28-z26*z15)+z2*(z13*z27-z26*z14)=0)→(((z1*z15-z14*z2=0∧z2*z13-z15*z0=0)∧z0*z14-z13*z1=0))→(((z0*z16-z13*z3=0∧z1*z16-z14*z3=0)∧z2*z16-z15*z3=0))→(z27*(z2*z16-z15*z3)-z28*(z1*z16-z14*z3)+z29*(z1*z15-z14*z2)=0) := by
 intro h0 h1 h2
 grind
theorem eM_pk45 {z0 z1 z2 z13 z14 z15 z26 z27 z28 : Rat} : (¬ ((z13=0∧z14=0)∧z15=0))→(z0*(z14*z28-z27*z15)-z1*(z13*z28-z26*z15)+z2*(z13*z27-z26*z14)=0)→(z13=0)→(¬ (z26=0))→(z26*z14-z13*z27=0)→(z26*z1-z0*z27=0) := by
 intro h0 h1 h2 h3 h4
 grind
theorem eM_pk46 {z0 z1 z2 z13 z14 z15 z26 z27 z28 : Rat} : (¬ ((z13=0∧z14=0)∧z15=0))→(z0*(z14*z28-z27*z15)-z1*(z13*z28-z26*z15)+z2*(z13*z27-z26*z14)=0)→(z13=0)→(¬ (z26=0))→(z26*z14-z13*z27=0)→(¬ (z26*z15-z13*z28=0)) := by
 intro h0 h1 h2 h3 h4 hg
 grind
theorem eM_pk47 {z0 z1 z2 z13 z14 z15 z26 z27 z28 : Rat} : (z0*(z14*z28-z27*z15)-z1*(z13*z28-z26*z15)+z2*(z13*z27-z26*z14)=0)→(¬ ((z1*z28-z27*z2=0∧z2*z26-z28*z0=0)∧z0*z27-z26*z1=0))→(¬ (z26*z15-z13*z28=0))→(¬ (z26*z2-z0*z28=0)) := by
 intro h0 h1 h2 hg
 grind
theorem eM_pk48 {z0 z1 z2 z3 z13 z14 z15 z16 z26 z27 z28 z29 : Rat} : (z0*(z14*z28-z27*z15)-z1*(z13*z28-z26*z15)+z2*(z13*z27-z26*z14)=0)→(((z0*z16-z13*z3=0∧z1*z16-z14*z3=0)∧z2*z16-z15*z3=0))→(z0=0)→(z13=0)→(z26*(z2*z16-z15*z3)-z28*(z0*z16-z13*z3)+z29*(z0*z15-z13*z2)=0) := by
 intro h0 h1 h2 h3
 grind
theorem eM_pm283 (H : eM_Q q σ) : (q 26 ≠ 0)→(q 207 ≠ 0)→(q 209*q 26=q 26*q 16-q 13*q 29)→(q 211*q 26=q 26*q 3-q 0*q 29)→(q 200*q 26=q 26*q 15-q 13*q 28)→(q 207*q 26=q 26*q 2-q 0*q 28)→(q 283*(q 26*q 2-q 0*q 28)=q 26*(q 2*q 16-q 15*q 3)-q 28*(q 0*q 16-q 13*q 3)+q 29*(q 0*q 15-q 13*q 2)) := by
 have e275:q 275=q 200/q 207:=H 275 _ rfl;have e282:q 282=q 275*q 211:=H 282 _ rfl;have e283:q 283=q 209-q 282:=H 283 _ rfl
 clear H
 intro hp hv ha hb hu hw
 exact sp_l2 hp hv ha hb hu hw e275 (e283.trans (congrArg _ e282)) (by clear hp hv ha hb hu hw e275 e282 e283; grind)
theorem eM_pk49 {z0 z1 z2 z13 z14 z15 z26 z27 z28 : Rat} : (z0*(z14*z28-z27*z15)-z1*(z13*z28-z26*z15)+z2*(z13*z27-z26*z14)=0)→(¬ ((z1*z28-z27*z2=0∧z2*z26-z28*z0=0)∧z0*z27-z26*z1=0))→(¬ (z26*z14-z13*z27=0))→(¬ (z26*z1-z0*z27=0)) := by
 intro h0 h1 h2 hg
 grind
theorem eM_pk50 {z0 z1 z2 z13 z14 z15 z26 z27 z28 : Rat} : (z0*(z14*z28-z27*z15)-z1*(z13*z28-z26*z15)+z2*(z13*z27-z26*z14)=0)→(z26*(z1*z15-z14*z2)-z27*(z0*z15-z13*z2)+z28*(z0*z14-z13*z1)=0) := by
 intro h0
 grind
theorem eM_pm290 (H : eM_Q q σ) : (q 26 ≠ 0)→(q 205 ≠ 0)→(q 200*q 26=q 26*q 15-q 13*q 28)→(q 207*q 26=q 26*q 2-q 0*q 28)→(q 198*q 26=q 26*q 14-q 13*q 27)→(q 205*q 26=q 26*q 1-q 0*q 27)→(q 290*(q 26*q 1-q 0*q 27)=q 26*(q 1*q 15-q 14*q 2)-q 27*(q 0*q 15-q 13*q 2)+q 28*(q 0*q 14-q 13*q 1)) := by
 have e284:q 284=q 198/q 205:=H 284 _ rfl;have e289:q 289=q 284*q 207:=H 289 _ rfl;have e290:q 290=q 200-q 289:=H 290 _ rfl
 clear H
 intro hp hv ha hb hu hw
 exact sp_l2 hp hv ha hb hu hw e284 (e290.trans (congrArg _ e289)) (by clear hp hv ha hb hu hw e284 e289 e290; grind)
theorem eM_pk51 {z0 z1 z2 z3 z13 z14 z15 z16 z26 z27 z28 z29 : Rat} : (z0*(z14*z28-z27*z15)-z1*(z13*z28-z26*z15)+z2*(z13*z27-z26*z14)=0)→(((z0*z16-z13*z3=0∧z1*z16-z14*z3=0)∧z2*z16-z15*z3=0))→(z0=0)→(z13=0)→(z26*(z1*z16-z14*z3)-z27*(z0*z16-z13*z3)+z29*(z0*z14-z13*z1)=0) := by
 intro h0 h1 h2 h3
 grind
theorem eM_pm292 (H : eM_Q q σ) : (q 26 ≠ 0)→(q 205 ≠ 0)→(q 209*q 26=q 26*q 16-q 13*q 29)→(q 211*q 26=q 26*q 3-q 0*q 29)→(q 198*q 26=q 26*q 14-q 13*q 27)→(q 205*q 26=q 26*q 1-q 0*q 27)→(q 292*(q 26*q 1-q 0*q 27)=q 26*(q 1*q 16-q 14*q 3)-q 27*(q 0*q 16-q 13*q 3)+q 29*(q 0*q 14-q 13*q 1)) := by
 have e284:q 284=q 198/q 205:=H 284 _ rfl;have e291:q 291=q 284*q 211:=H 291 _ rfl;have e292:q 292=q 209-q 291:=H 292 _ rfl
 clear H
 intro hp hv ha hb hu hw
 exact sp_l2 hp hv ha hb hu hw e284 (e292.trans (congrArg _ e291)) (by clear hp hv ha hb hu hw e284 e291 e292; grind)
theorem eM_pk52 {z0 z1 z2 z13 z14 z15 z26 z27 z28 : Rat} : (z0*(z14*z28-z27*z15)-z1*(z13*z28-z26*z15)+z2*(z13*z27-z26*z14)=0)→(((z1*z15-z14*z2=0∧z2*z13-z15*z0=0)∧z0*z14-z13*z1=0))→(z13*z1-z0*z14=0) := by
 intro h0 h1
 grind
theorem eM_pm297 (H : eM_Q q σ) : (q 13 ≠ 0)→(q 297*q 13=q 13*q 1-q 0*q 14) := by
 have e293:q 293=q 0/q 13:=H 293 _ rfl;have e296:q 296=q 293*q 14:=H 296 _ rfl;have e297:q 297=q 1-q 296:=H 297 _ rfl
 clear H
 intro hp
 have k := sp_l1 hp e293 (e297.trans (congrArg _ e296))
 first | exact k | (rw [k]; clear k; grind)
theorem eM_pm304 (H : eM_Q q σ) : (q 13 ≠ 0)→(q 304*q 13=q 13*q 27-q 26*q 14) := by
 have e300:q 300=q 26/q 13:=H 300 _ rfl;have e303:q 303=q 300*q 14:=H 303 _ rfl;have e304:q 304=q 27-q 303:=H 304 _ rfl
 clear H
 intro hp
 have k := sp_l1 hp e300 (e304.trans (congrArg _ e303))
 first | exact k | (rw [k]; clear k; grind)
theorem eM_pk53 {z0 z1 z2 z13 z14 z15 z26 z27 z28 : Rat} : (z0*(z14*z28-z27*z15)-z1*(z13*z28-z26*z15)+z2*(z13*z27-z26*z14)=0)→(((z1*z15-z14*z2=0∧z2*z13-z15*z0=0)∧z0*z14-z13*z1=0))→(z13*z2-z0*z15=0) := by
 intro h0 h1
 grind
theorem eM_pm299 (H : eM_Q q σ) : (q 13 ≠ 0)→(q 299*q 13=q 13*q 2-q 0*q 15) := by
 have e293:q 293=q 0/q 13:=H 293 _ rfl;have e298:q 298=q 293*q 15:=H 298 _ rfl;have e299:q 299=q 2-q 298:=H 299 _ rfl
 clear H
 intro hp
 have k := sp_l1 hp e293 (e299.trans (congrArg _ e298))
 first | exact k | (rw [k]; clear k; grind)
theorem eM_pk54 {z0 z1 z2 z13 z14 z15 z26 z27 z28 : Rat} : (z0*(z14*z28-z27*z15)-z1*(z13*z28-z26*z15)+z2*(z13*z27-z26*z14)=0)→(¬ ((z1*z28-z27*z2=0∧z2*z26-z28*z0=0)∧z0*z27-z26*z1=0))→(¬ (z13=0))→(z13*z1-z0*z14=0)→(z13*z27-z26*z14=0)→(z13*z2-z0*z15=0)→(¬ (z13*z28-z26*z15=0)) := by
 intro h0 h1 h2 h3 h4 h5 hg
 grind
theorem eM_pm306 (H : eM_Q q σ) : (q 13 ≠ 0)→(q 306*q 13=q 13*q 28-q 26*q 15) := by
 have e300:q 300=q 26/q 13:=H 300 _ rfl;have e305:q 305=q 300*q 15:=H 305 _ rfl;have e306:q 306=q 28-q 305:=H 306 _ rfl
 clear H
 intro hp
 have k := sp_l1 hp e300 (e306.trans (congrArg _ e305))
 first | exact k | (rw [k]; clear k; grind)
theorem eM_pk55 {z0 z1 z2 z3 z13 z14 z15 z16 z26 z27 z28 z29 : Rat} : (z0*(z14*z28-z27*z15)-z1*(z13*z28-z26*z15)+z2*(z13*z27-z26*z14)=0)→(((z0*z16-z13*z3=0∧z1*z16-z14*z3=0)∧z2*z16-z15*z3=0))→(z13*z2-z0*z15=0)→(z13*(z28*z3-z2*z29)-z15*(z26*z3-z0*z29)+z16*(z26*z2-z0*z28)=0) := by
 intro h0 h1 h2
 grind
theorem eM_pm315 (H : eM_Q q σ) : (q 13 ≠ 0)→(q 315*q 13=q 13*q 3-q 0*q 16) := by
 have e293:q 293=q 0/q 13:=H 293 _ rfl;have e314:q 314=q 293*q 16:=H 314 _ rfl;have e315:q 315=q 3-q 314:=H 315 _ rfl
 clear H
 intro hp
 have k := sp_l1 hp e293 (e315.trans (congrArg _ e314))
 first | exact k | (rw [k]; clear k; grind)
theorem eM_pm317 (H : eM_Q q σ) : (q 13 ≠ 0)→(q 317*q 13=q 13*q 29-q 26*q 16) := by
 have e300:q 300=q 26/q 13:=H 300 _ rfl;have e316:q 316=q 300*q 16:=H 316 _ rfl;have e317:q 317=q 29-q 316:=H 317 _ rfl
 clear H
 intro hp
 have k := sp_l1 hp e300 (e317.trans (congrArg _ e316))
 first | exact k | (rw [k]; clear k; grind)
theorem eM_pm319 (H : eM_Q q σ) : (q 13 ≠ 0)→(q 306 ≠ 0)→(q 315*q 13=q 13*q 3-q 0*q 16)→(q 317*q 13=q 13*q 29-q 26*q 16)→(q 299*q 13=q 13*q 2-q 0*q 15)→(q 306*q 13=q 13*q 28-q 26*q 15)→(q 319*(q 13*q 28-q 26*q 15)=q 13*(q 28*q 3-q 2*q 29)-q 15*(q 26*q 3-q 0*q 29)+q 16*(q 26*q 2-q 0*q 28)) := by
 have e307:q 307=q 299/q 306:=H 307 _ rfl;have e318:q 318=q 307*q 317:=H 318 _ rfl;have e319:q 319=q 315-q 318:=H 319 _ rfl
 clear H
 intro hp hv ha hb hu hw
 exact sp_l2 hp hv ha hb hu hw e307 (e319.trans (congrArg _ e318)) (by clear hp hv ha hb hu hw e307 e318 e319; grind)
theorem eM_pk56 {z0 z1 z2 z13 z14 z15 z26 z27 z28 : Rat} : (z0*(z14*z28-z27*z15)-z1*(z13*z28-z26*z15)+z2*(z13*z27-z26*z14)=0)→(z13*(z27*z2-z1*z28)-z14*(z26*z2-z0*z28)+z15*(z26*z1-z0*z27)=0) := by
 intro h0
 grind
theorem eM_pm326 (H : eM_Q q σ) : (q 13 ≠ 0)→(q 304 ≠ 0)→(q 299*q 13=q 13*q 2-q 0*q 15)→(q 306*q 13=q 13*q 28-q 26*q 15)→(q 297*q 13=q 13*q 1-q 0*q 14)→(q 304*q 13=q 13*q 27-q 26*q 14)→(q 326*(q 13*q 27-q 26*q 14)=q 13*(q 27*q 2-q 1*q 28)-q 14*(q 26*q 2-q 0*q 28)+q 15*(q 26*q 1-q 0*q 27)) := by
 have e320:q 320=q 297/q 304:=H 320 _ rfl;have e325:q 325=q 320*q 306:=H 325 _ rfl;have e326:q 326=q 299-q 325:=H 326 _ rfl
 clear H
 intro hp hv ha hb hu hw
 exact sp_l2 hp hv ha hb hu hw e320 (e326.trans (congrArg _ e325)) (by clear hp hv ha hb hu hw e320 e325 e326; grind)
theorem eM_pk57 {z0 z1 z2 z3 z13 z14 z15 z16 z26 z27 z28 z29 : Rat} : (z0*(z14*z28-z27*z15)-z1*(z13*z28-z26*z15)+z2*(z13*z27-z26*z14)=0)→(((z0*z16-z13*z3=0∧z1*z16-z14*z3=0)∧z2*z16-z15*z3=0))→(z13*z1-z0*z14=0)→(z13*(z27*z3-z1*z29)-z14*(z26*z3-z0*z29)+z16*(z26*z1-z0*z27)=0) := by
 intro h0 h1 h2
 grind
theorem eM_pm328 (H : eM_Q q σ) : (q 13 ≠ 0)→(q 304 ≠ 0)→(q 315*q 13=q 13*q 3-q 0*q 16)→(q 317*q 13=q 13*q 29-q 26*q 16)→(q 297*q 13=q 13*q 1-q 0*q 14)→(q 304*q 13=q 13*q 27-q 26*q 14)→(q 328*(q 13*q 27-q 26*q 14)=q 13*(q 27*q 3-q 1*q 29)-q 14*(q 26*q 3-q 0*q 29)+q 16*(q 26*q 1-q 0*q 27)) := by
 have e320:q 320=q 297/q 304:=H 320 _ rfl;have e327:q 327=q 320*q 317:=H 327 _ rfl;have e328:q 328=q 315-q 327:=H 328 _ rfl
 clear H
 intro hp hv ha hb hu hw
 exact sp_l2 hp hv ha hb hu hw e320 (e328.trans (congrArg _ e327)) (by clear hp hv ha hb hu hw e320 e327 e328; grind)
theorem eM_pk58 {z0 z1 z2 z13 z14 z15 z26 z27 z28 : Rat} : (z0*(z14*z28-z27*z15)-z1*(z13*z28-z26*z15)+z2*(z13*z27-z26*z14)=0)→(((z1*z15-z14*z2=0∧z2*z13-z15*z0=0)∧z0*z14-z13*z1=0))→(¬ (z13=0))→(z26*z14-z13*z27=0)→(z26*z1-z0*z27=0) := by
 intro h0 h1 h2 h3
 grind
theorem eM_pk59 {z0 z1 z2 z13 z14 z15 z26 z27 z28 : Rat} : (z0*(z14*z28-z27*z15)-z1*(z13*z28-z26*z15)+z2*(z13*z27-z26*z14)=0)→(((z1*z15-z14*z2=0∧z2*z13-z15*z0=0)∧z0*z14-z13*z1=0))→(¬ ((z1*z28-z27*z2=0∧z2*z26-z28*z0=0)∧z0*z27-z26*z1=0))→(¬ (z13=0))→(z26*z1-z0*z27=0)→(¬ (z26*z15-z13*z28=0)) := by
 intro h0 h1 h2 h3 h4 hg
 grind
theorem eM_pk60 {z0 z1 z2 z3 z13 z14 z15 z16 z26 z27 z28 z29 : Rat} : (z0*(z14*z28-z27*z15)-z1*(z13*z28-z26*z15)+z2*(z13*z27-z26*z14)=0)→(((z1*z15-z14*z2=0∧z2*z13-z15*z0=0)∧z0*z14-z13*z1=0))→(((z0*z16-z13*z3=0∧z1*z16-z14*z3=0)∧z2*z16-z15*z3=0))→(z26*(z2*z16-z15*z3)-z28*(z0*z16-z13*z3)+z29*(z0*z15-z13*z2)=0) := by
 intro h0 h1 h2
 grind
theorem eM_pk61 {z0 z1 z2 z3 z13 z14 z15 z16 z26 z27 z28 z29 : Rat} : (z0*(z14*z28-z27*z15)-z1*(z13*z28-z26*z15)+z2*(z13*z27-z26*z14)=0)→(((z1*z15-z14*z2=0∧z2*z13-z15*z0=0)∧z0*z14-z13*z1=0))→(((z0*z16-z13*z3=0∧z1*z16-z14*z3=0)∧z2*z16-z15*z3=0))→(z26*(z1*z16-z14*z3)-z27*(z0*z16-z13*z3)+z29*(z0*z14-z13*z1)=0) := by
 intro h0 h1 h2
 grind
theorem eM_pk62 {z0 z1 z2 z3 z13 z14 z15 z16 z26 z27 z28 z29 : Rat} : (z0*(z14*z28-z27*z15)-z1*(z13*z28-z26*z15)+z2*(z13*z27-z26*z14)=0)→(((z1*(z15*z29-z28*z16)-z2*(z14*z29-z27*z16)+z3*(z14*z28-z27*z15)=0∧z2*(z13*z29-z26*z16)-z0*(z15*z29-z28*z16)+z3*(z15*z26-z28*z13)=0)∧z0*(z14*z29-z27*z16)-z1*(z13*z29-z26*z16)+z3*(z13*z27-z26*z14)=0))→(¬ ((z0*z16-z13*z3=0∧z1*z16-z14*z3=0)∧z2*z16-z15*z3=0))→(z0=0)→(z13=0)→(z26=0) := by
 intro h0 h1 h2 h3 h4
 grind
theorem eM_pk63 {z0 z1 z2 z3 z13 z14 z15 z16 z26 z27 z28 z29 : Rat} : (z0*(z14*z28-z27*z15)-z1*(z13*z28-z26*z15)+z2*(z13*z27-z26*z14)=0)→(((z1*(z15*z29-z28*z16)-z2*(z14*z29-z27*z16)+z3*(z14*z28-z27*z15)=0∧z2*(z13*z29-z26*z16)-z0*(z15*z29-z28*z16)+z3*(z15*z26-z28*z13)=0)∧z0*(z14*z29-z27*z16)-z1*(z13*z29-z26*z16)+z3*(z13*z27-z26*z14)=0))→(¬ ((z0*z16-z13*z3=0∧z1*z16-z14*z3=0)∧z2*z16-z15*z3=0))→(z1=0)→(z14=0)→(z27=0) := by
 intro h0 h1 h2 h3 h4
 grind
theorem eM_pk64 {z0 z1 z2 z3 z13 z14 z15 z16 z26 z27 z28 z29 : Rat} : (z0*(z14*z28-z27*z15)-z1*(z13*z28-z26*z15)+z2*(z13*z27-z26*z14)=0)→(((z1*z15-z14*z2=0∧z2*z13-z15*z0=0)∧z0*z14-z13*z1=0))→(¬ ((z0*z16-z13*z3=0∧z1*z16-z14*z3=0)∧z2*z16-z15*z3=0))→(¬ (z28=0))→(z28*z16-z15*z29=0)→(¬ (z28*z3-z2*z29=0)) := by
 intro h0 h1 h2 h3 h4 hg
 grind
theorem eM_pk65 {z0 z1 z2 z3 z13 z14 z15 z16 z26 z27 z28 z29 : Rat} : (¬ ((z26=0∧z27=0)∧z28=0))→(z0*(z14*z28-z27*z15)-z1*(z13*z28-z26*z15)+z2*(z13*z27-z26*z14)=0)→(((z1*(z15*z29-z28*z16)-z2*(z14*z29-z27*z16)+z3*(z14*z28-z27*z15)=0∧z2*(z13*z29-z26*z16)-z0*(z15*z29-z28*z16)+z3*(z15*z26-z28*z13)=0)∧z0*(z14*z29-z27*z16)-z1*(z13*z29-z26*z16)+z3*(z13*z27-z26*z14)=0))→(((z1*z15-z14*z2=0∧z2*z13-z15*z0=0)∧z0*z14-z13*z1=0))→(¬ ((z0*z16-z13*z3=0∧z1*z16-z14*z3=0)∧z2*z16-z15*z3=0))→(¬ (z14=0))→(¬ (z27=0)) := by
 intro h0 h1 h2 h3 h4 h5 hg
 grind
theorem eM_pk66 {z0 z1 z2 z3 z13 z14 z15 z16 z26 z27 z28 z29 : Rat} : (z0*(z14*z28-z27*z15)-z1*(z13*z28-z26*z15)+z2*(z13*z27-z26*z14)=0)→(((z1*(z15*z29-z28*z16)-z2*(z14*z29-z27*z16)+z3*(z14*z28-z27*z15)=0∧z2*(z13*z29-z26*z16)-z0*(z15*z29-z28*z16)+z3*(z15*z26-z28*z13)=0)∧z0*(z14*z29-z27*z16)-z1*(z13*z29-z26*z16)+z3*(z13*z27-z26*z14)=0))→(((z1*z15-z14*z2=0∧z2*z13-z15*z0=0)∧z0*z14-z13*z1=0))→(¬ ((z0*z16-z13*z3=0∧z1*z16-z14*z3=0)∧z2*z16-z15*z3=0))→(z27*z15-z14*z28=0) := by
 intro h0 h1 h2 h3
 grind
theorem eM_pk67 {z0 z1 z2 z13 z14 z15 z26 z27 z28 : Rat} : (z0*(z14*z28-z27*z15)-z1*(z13*z28-z26*z15)+z2*(z13*z27-z26*z14)=0)→(((z1*z15-z14*z2=0∧z2*z13-z15*z0=0)∧z0*z14-z13*z1=0))→(¬ (z14=0))→(z27*z15-z14*z28=0)→(z27*z2-z1*z28=0) := by
 intro h0 h1 h2 h3
 grind
theorem eM_pk68 {z0 z1 z2 z3 z13 z14 z15 z16 z26 z27 z28 z29 : Rat} : (z0*(z14*z28-z27*z15)-z1*(z13*z28-z26*z15)+z2*(z13*z27-z26*z14)=0)→(((z1*z15-z14*z2=0∧z2*z13-z15*z0=0)∧z0*z14-z13*z1=0))→(¬ ((z0*z16-z13*z3=0∧z1*z16-z14*z3=0)∧z2*z16-z15*z3=0))→(¬ (z27=0))→(z27*z16-z14*z29=0)→(¬ (z27*z3-z1*z29=0)) := by
 intro h0 h1 h2 h3 h4 hg
 grind
theorem eM_pk69 {z0 z1 z2 z3 z13 z14 z15 z16 z26 z27 z28 z29 : Rat} : (¬ ((z26=0∧z27=0)∧z28=0))→(z0*(z14*z28-z27*z15)-z1*(z13*z28-z26*z15)+z2*(z13*z27-z26*z14)=0)→(((z1*(z15*z29-z28*z16)-z2*(z14*z29-z27*z16)+z3*(z14*z28-z27*z15)=0∧z2*(z13*z29-z26*z16)-z0*(z15*z29-z28*z16)+z3*(z15*z26-z28*z13)=0)∧z0*(z14*z29-z27*z16)-z1*(z13*z29-z26*z16)+z3*(z13*z27-z26*z14)=0))→(((z1*z15-z14*z2=0∧z2*z13-z15*z0=0)∧z0*z14-z13*z1=0))→(¬ ((z0*z16-z13*z3=0∧z1*z16-z14*z3=0)∧z2*z16-z15*z3=0))→(¬ (z13=0))→(¬ (z26=0)) := by
 intro h0 h1 h2 h3 h4 h5 hg
 grind
theorem eM_pk70 {z0 z1 z2 z3 z13 z14 z15 z16 z26 z27 z28 z29 : Rat} : (z0*(z14*z28-z27*z15)-z1*(z13*z28-z26*z15)+z2*(z13*z27-z26*z14)=0)→(((z1*(z15*z29-z28*z16)-z2*(z14*z29-z27*z16)+z3*(z14*z28-z27*z15)=0∧z2*(z13*z29-z26*z16)-z0*(z15*z29-z28*z16)+z3*(z15*z26-z28*z13)=0)∧z0*(z14*z29-z27*z16)-z1*(z13*z29-z26*z16)+z3*(z13*z27-z26*z14)=0))→(((z1*z15-z14*z2=0∧z2*z13-z15*z0=0)∧z0*z14-z13*z1=0))→(¬ ((z0*z16-z13*z3=0∧z1*z16-z14*z3=0)∧z2*z16-z15*z3=0))→(z26*z14-z13*z27=0) := by
 intro h0 h1 h2 h3
 grind
theorem eM_pk71 {z0 z1 z2 z3 z13 z14 z15 z16 z26 z27 z28 z29 : Rat} : (z0*(z14*z28-z27*z15)-z1*(z13*z28-z26*z15)+z2*(z13*z27-z26*z14)=0)→(((z1*(z15*z29-z28*z16)-z2*(z14*z29-z27*z16)+z3*(z14*z28-z27*z15)=0∧z2*(z13*z29-z26*z16)-z0*(z15*z29-z28*z16)+z3*(z15*z26-z28*z13)=0)∧z0*(z14*z29-z27*z16)-z1*(z13*z29-z26*z16)+z3*(z13*z27-z26*z14)=0))→(((z1*z15-z14*z2=0∧z2*z13-z15*z0=0)∧z0*z14-z13*z1=0))→(¬ ((z0*z16-z13*z3=0∧z1*z16-z14*z3=0)∧z2*z16-z15*z3=0))→(z26*z15-z13*z28=0) := by
 intro h0 h1 h2 h3
 grind
theorem eM_pk72 {z0 z1 z2 z13 z14 z15 z26 z27 z28 : Rat} : (z0*(z14*z28-z27*z15)-z1*(z13*z28-z26*z15)+z2*(z13*z27-z26*z14)=0)→(((z1*z15-z14*z2=0∧z2*z13-z15*z0=0)∧z0*z14-z13*z1=0))→(¬ (z13=0))→(z26*z15-z13*z28=0)→(z26*z2-z0*z28=0) := by
 intro h0 h1 h2 h3
 grind
theorem eM_pk73 {z0 z1 z2 z3 z13 z14 z15 z16 z26 z27 z28 z29 : Rat} : (z0*(z14*z28-z27*z15)-z1*(z13*z28-z26*z15)+z2*(z13*z27-z26*z14)=0)→(((z1*z15-z14*z2=0∧z2*z13-z15*z0=0)∧z0*z14-z13*z1=0))→(¬ ((z0*z16-z13*z3=0∧z1*z16-z14*z3=0)∧z2*z16-z15*z3=0))→(¬ (z26=0))→(z26*z16-z13*z29=0)→(¬ (z26*z3-z0*z29=0)) := by
 intro h0 h1 h2 h3 h4 hg
 grind
theorem eM_pk74 {z0 z1 z2 z3 z13 z14 z15 z16 z26 z27 z28 z29 : Rat} : (z0*(z14*z28-z27*z15)-z1*(z13*z28-z26*z15)+z2*(z13*z27-z26*z14)=0)→(((z1*(z15*z29-z28*z16)-z2*(z14*z29-z27*z16)+z3*(z14*z28-z27*z15)=0∧z2*(z13*z29-z26*z16)-z0*(z15*z29-z28*z16)+z3*(z15*z26-z28*z13)=0)∧z0*(z14*z29-z27*z16)-z1*(z13*z29-z26*z16)+z3*(z13*z27-z26*z14)=0))→(¬ ((z1*z15-z14*z2=0∧z2*z13-z15*z0=0)∧z0*z14-z13*z1=0))→(((z1*z28-z27*z2=0∧z2*z26-z28*z0=0)∧z0*z27-z26*z1=0))→(((z0*z29-z26*z3=0∧z1*z29-z27*z3=0)∧z2*z29-z28*z3=0)) := by
 intro h0 h1 h2 h3
 refine ⟨⟨?_,?_⟩,?_⟩ <;> grind
theorem eM_pk75 {z0 z1 z2 z13 z14 z15 z26 z27 z28 : Rat} : (z0*(z14*z28-z27*z15)-z1*(z13*z28-z26*z15)+z2*(z13*z27-z26*z14)=0)→(¬ ((z1*z15-z14*z2=0∧z2*z13-z15*z0=0)∧z0*z14-z13*z1=0))→(z0=0)→(z13=0)→(z26=0) := by
 intro h0 h1 h2 h3
 grind
theorem eM_pk76 {z0 z1 z2 z13 z14 z15 z26 z27 z28 : Rat} : (z0*(z14*z28-z27*z15)-z1*(z13*z28-z26*z15)+z2*(z13*z27-z26*z14)=0)→(¬ ((z1*z15-z14*z2=0∧z2*z13-z15*z0=0)∧z0*z14-z13*z1=0))→(z0=0)→(z13=0)→(z1=0)→(¬ (z14=0)) := by
 intro h0 h1 h2 h3 h4 hg
 grind
theorem eM_pk77 {z0 z1 z2 z13 z14 z15 z26 z27 z28 : Rat} : (z0*(z14*z28-z27*z15)-z1*(z13*z28-z26*z15)+z2*(z13*z27-z26*z14)=0)→(¬ ((z1*z15-z14*z2=0∧z2*z13-z15*z0=0)∧z0*z14-z13*z1=0))→(((z1*z28-z27*z2=0∧z2*z26-z28*z0=0)∧z0*z27-z26*z1=0))→(z1=0)→(z27=0) := by
 intro h0 h1 h2 h3
 grind
theorem eM_pk78 {z0 z1 z2 z13 z14 z15 z26 z27 z28 : Rat} : (z0*(z14*z28-z27*z15)-z1*(z13*z28-z26*z15)+z2*(z13*z27-z26*z14)=0)→(¬ ((z1*z15-z14*z2=0∧z2*z13-z15*z0=0)∧z0*z14-z13*z1=0))→(z0=0)→(z1=0)→(¬ (z14=0))→(¬ (z14*z2-z1*z15=0)) := by
 intro h0 h1 h2 h3 h4 hg
 grind
theorem eM_pk79 {z0 z1 z2 z13 z14 z15 z26 z27 z28 : Rat} : (¬ ((z26=0∧z27=0)∧z28=0))→(z0*(z14*z28-z27*z15)-z1*(z13*z28-z26*z15)+z2*(z13*z27-z26*z14)=0)→(¬ (z14=0))→(z27=0)→(¬ (z14*z2-z1*z15=0))→(¬ (z14*z28-z27*z15=0)) := by
 intro h0 h1 h2 h3 h4 hg
 grind
theorem eM_pk80 {z0 z1 z2 z3 z13 z14 z15 z16 z26 z27 z28 z29 : Rat} : (z0*(z14*z28-z27*z15)-z1*(z13*z28-z26*z15)+z2*(z13*z27-z26*z14)=0)→(((z0*z29-z26*z3=0∧z1*z29-z27*z3=0)∧z2*z29-z28*z3=0))→(z1=0)→(z27=0)→(z14*(z28*z3-z2*z29)-z15*(z27*z3-z1*z29)+z16*(z27*z2-z1*z28)=0) := by
 intro h0 h1 h2 h3
 grind
theorem eM_pk81 {z0 z1 z2 z13 z14 z15 z26 z27 z28 : Rat} : (z0*(z14*z28-z27*z15)-z1*(z13*z28-z26*z15)+z2*(z13*z27-z26*z14)=0)→(¬ ((z1*z15-z14*z2=0∧z2*z13-z15*z0=0)∧z0*z14-z13*z1=0))→(z13=0)→(z14=0)→(¬ (z27=0))→(¬ (z27*z15-z14*z28=0)) := by
 intro h0 h1 h2 h3 h4 hg
 grind
theorem eM_pk82 {z0 z1 z2 z3 z13 z14 z15 z16 z26 z27 z28 z29 : Rat} : (z0*(z14*z28-z27*z15)-z1*(z13*z28-z26*z15)+z2*(z13*z27-z26*z14)=0)→(((z0*z29-z26*z3=0∧z1*z29-z27*z3=0)∧z2*z29-z28*z3=0))→(z27*z2-z1*z28=0)→(z27*(z15*z3-z2*z16)-z28*(z14*z3-z1*z16)+z29*(z14*z2-z1*z15)=0) := by
 intro h0 h1 h2
 grind
theorem eM_pm364 (H : eM_Q q σ) : (q 27 ≠ 0)→(q 182 ≠ 0)→(q 193*q 27=q 27*q 3-q 1*q 29)→(q 191*q 27=q 27*q 16-q 14*q 29)→(q 189*q 27=q 27*q 2-q 1*q 28)→(q 182*q 27=q 27*q 15-q 14*q 28)→(q 364*(q 27*q 15-q 14*q 28)=q 27*(q 15*q 3-q 2*q 16)-q 28*(q 14*q 3-q 1*q 16)+q 29*(q 14*q 2-q 1*q 15)) := by
 have e356:q 356=q 189/q 182:=H 356 _ rfl;have e363:q 363=q 356*q 191:=H 363 _ rfl;have e364:q 364=q 193-q 363:=H 364 _ rfl
 clear H
 intro hp hv ha hb hu hw
 exact sp_l2 hp hv ha hb hu hw e356 (e364.trans (congrArg _ e363)) (by clear hp hv ha hb hu hw e356 e363 e364; grind)
theorem eM_pk83 {z0 z1 z2 z13 z14 z15 z26 z27 z28 : Rat} : (z0*(z14*z28-z27*z15)-z1*(z13*z28-z26*z15)+z2*(z13*z27-z26*z14)=0)→(¬ ((z1*z15-z14*z2=0∧z2*z13-z15*z0=0)∧z0*z14-z13*z1=0))→(((z1*z28-z27*z2=0∧z2*z26-z28*z0=0)∧z0*z27-z26*z1=0))→(z13=0)→(z26=0)→(¬ (z27=0))→(¬ (z27*z15-z14*z28=0)) := by
 intro h0 h1 h2 h3 h4 h5 hg
 grind
theorem eM_pk84 {z0 z1 z2 z13 z14 z15 z26 z27 z28 : Rat} : (z0*(z14*z28-z27*z15)-z1*(z13*z28-z26*z15)+z2*(z13*z27-z26*z14)=0)→(¬ ((z1*z15-z14*z2=0∧z2*z13-z15*z0=0)∧z0*z14-z13*z1=0))→(((z1*z28-z27*z2=0∧z2*z26-z28*z0=0)∧z0*z27-z26*z1=0))→(z0=0)→(z26=0) := by
 intro h0 h1 h2 h3
 grind
theorem eM_pk85 {z0 z1 z2 z13 z14 z15 z26 z27 z28 : Rat} : (z0*(z14*z28-z27*z15)-z1*(z13*z28-z26*z15)+z2*(z13*z27-z26*z14)=0)→(¬ ((z1*z15-z14*z2=0∧z2*z13-z15*z0=0)∧z0*z14-z13*z1=0))→(z13*z1-z0*z14=0)→(z13*z27-z26*z14=0) := by
 intro h0 h1 h2
 grind
theorem eM_pk86 {z0 z1 z2 z13 z14 z15 z26 z27 z28 : Rat} : (z0*(z14*z28-z27*z15)-z1*(z13*z28-z26*z15)+z2*(z13*z27-z26*z14)=0)→(¬ ((z1*z15-z14*z2=0∧z2*z13-z15*z0=0)∧z0*z14-z13*z1=0))→(¬ (z13=0))→(z13*z1-z0*z14=0)→(¬ (z13*z2-z0*z15=0)) := by
 intro h0 h1 h2 h3 hg
 grind
theorem eM_pk87 {z0 z1 z2 z13 z14 z15 z26 z27 z28 : Rat} : (¬ ((z26=0∧z27=0)∧z28=0))→(z0*(z14*z28-z27*z15)-z1*(z13*z28-z26*z15)+z2*(z13*z27-z26*z14)=0)→(¬ (z13=0))→(z26=0)→(¬ (z13*z2-z0*z15=0))→(¬ (z13*z28-z26*z15=0)) := by
 intro h0 h1 h2 h3 h4 hg
 grind
theorem eM_pk88 {z0 z1 z2 z3 z13 z14 z15 z16 z26 z27 z28 z29 : Rat} : (z0*(z14*z28-z27*z15)-z1*(z13*z28-z26*z15)+z2*(z13*z27-z26*z14)=0)→(((z0*z29-z26*z3=0∧z1*z29-z27*z3=0)∧z2*z29-z28*z3=0))→(z0=0)→(z26=0)→(z13*(z28*z3-z2*z29)-z15*(z26*z3-z0*z29)+z16*(z26*z2-z0*z28)=0) := by
 intro h0 h1 h2 h3
 grind
theorem eM_pk89 {z0 z1 z2 z13 z14 z15 z26 z27 z28 : Rat} : (¬ ((z26=0∧z27=0)∧z28=0))→(z0*(z14*z28-z27*z15)-z1*(z13*z28-z26*z15)+z2*(z13*z27-z26*z14)=0)→(¬ (z13=0))→(z26=0)→(¬ (z13*z1-z0*z14=0))→(¬ (z13*z27-z26*z14=0)) := by
 intro h0 h1 h2 h3 h4 hg
 grind
theorem eM_pk90 {z0 z1 z2 z3 z13 z14 z15 z16 z26 z27 z28 z29 : Rat} : (z0*(z14*z28-z27*z15)-z1*(z13*z28-z26*z15)+z2*(z13*z27-z26*z14)=0)→(((z0*z29-z26*z3=0∧z1*z29-z27*z3=0)∧z2*z29-z28*z3=0))→(z0=0)→(z26=0)→(z13*(z27*z3-z1*z29)-z14*(z26*z3-z0*z29)+z16*(z26*z1-z0*z27)=0) := by
 intro h0 h1 h2 h3
 grind
theorem eM_pk91 {z0 z1 z2 z13 z14 z15 z26 z27 z28 : Rat} : (z0*(z14*z28-z27*z15)-z1*(z13*z28-z26*z15)+z2*(z13*z27-z26*z14)=0)→(¬ ((z1*z15-z14*z2=0∧z2*z13-z15*z0=0)∧z0*z14-z13*z1=0))→(z13=0)→(¬ (z26=0))→(z26*z14-z13*z27=0)→(¬ (z26*z15-z13*z28=0)) := by
 intro h0 h1 h2 h3 h4 hg
 grind
theorem eM_pk92 {z0 z1 z2 z3 z13 z14 z15 z16 z26 z27 z28 z29 : Rat} : (z0*(z14*z28-z27*z15)-z1*(z13*z28-z26*z15)+z2*(z13*z27-z26*z14)=0)→(((z0*z29-z26*z3=0∧z1*z29-z27*z3=0)∧z2*z29-z28*z3=0))→(z26*z2-z0*z28=0)→(z26*(z15*z3-z2*z16)-z28*(z13*z3-z0*z16)+z29*(z13*z2-z0*z15)=0) := by
 intro h0 h1 h2
 grind
theorem eM_pm373 (H : eM_Q q σ) : (q 26 ≠ 0)→(q 200 ≠ 0)→(q 211*q 26=q 26*q 3-q 0*q 29)→(q 209*q 26=q 26*q 16-q 13*q 29)→(q 207*q 26=q 26*q 2-q 0*q 28)→(q 200*q 26=q 26*q 15-q 13*q 28)→(q 373*(q 26*q 15-q 13*q 28)=q 26*(q 15*q 3-q 2*q 16)-q 28*(q 13*q 3-q 0*q 16)+q 29*(q 13*q 2-q 0*q 15)) := by
 have e365:q 365=q 207/q 200:=H 365 _ rfl;have e372:q 372=q 365*q 209:=H 372 _ rfl;have e373:q 373=q 211-q 372:=H 373 _ rfl
 clear H
 intro hp hv ha hb hu hw
 exact sp_l2 hp hv ha hb hu hw e365 (e373.trans (congrArg _ e372)) (by clear hp hv ha hb hu hw e365 e372 e373; grind)
theorem eM_pk93 {z0 z1 z2 z13 z14 z15 z26 z27 z28 : Rat} : (z0*(z14*z28-z27*z15)-z1*(z13*z28-z26*z15)+z2*(z13*z27-z26*z14)=0)→(z26*(z14*z2-z1*z15)-z27*(z13*z2-z0*z15)+z28*(z13*z1-z0*z14)=0) := by
 intro h0
 grind
theorem eM_pm380 (H : eM_Q q σ) : (q 26 ≠ 0)→(q 198 ≠ 0)→(q 207*q 26=q 26*q 2-q 0*q 28)→(q 200*q 26=q 26*q 15-q 13*q 28)→(q 205*q 26=q 26*q 1-q 0*q 27)→(q 198*q 26=q 26*q 14-q 13*q 27)→(q 380*(q 26*q 14-q 13*q 27)=q 26*(q 14*q 2-q 1*q 15)-q 27*(q 13*q 2-q 0*q 15)+q 28*(q 13*q 1-q 0*q 14)) := by
 have e374:q 374=q 205/q 198:=H 374 _ rfl;have e379:q 379=q 374*q 200:=H 379 _ rfl;have e380:q 380=q 207-q 379:=H 380 _ rfl
 clear H
 intro hp hv ha hb hu hw
 exact sp_l2 hp hv ha hb hu hw e374 (e380.trans (congrArg _ e379)) (by clear hp hv ha hb hu hw e374 e379 e380; grind)
theorem eM_pk94 {z0 z1 z2 z3 z13 z14 z15 z16 z26 z27 z28 z29 : Rat} : (z0*(z14*z28-z27*z15)-z1*(z13*z28-z26*z15)+z2*(z13*z27-z26*z14)=0)→(((z0*z29-z26*z3=0∧z1*z29-z27*z3=0)∧z2*z29-z28*z3=0))→(z26*z1-z0*z27=0)→(z26*(z14*z3-z1*z16)-z27*(z13*z3-z0*z16)+z29*(z13*z1-z0*z14)=0) := by
 intro h0 h1 h2
 grind
theorem eM_pm382 (H : eM_Q q σ) : (q 26 ≠ 0)→(q 198 ≠ 0)→(q 211*q 26=q 26*q 3-q 0*q 29)→(q 209*q 26=q 26*q 16-q 13*q 29)→(q 205*q 26=q 26*q 1-q 0*q 27)→(q 198*q 26=q 26*q 14-q 13*q 27)→(q 382*(q 26*q 14-q 13*q 27)=q 26*(q 14*q 3-q 1*q 16)-q 27*(q 13*q 3-q 0*q 16)+q 29*(q 13*q 1-q 0*q 14)) := by
 have e374:q 374=q 205/q 198:=H 374 _ rfl;have e381:q 381=q 374*q 209:=H 381 _ rfl;have e382:q 382=q 211-q 381:=H 382 _ rfl
 clear H
 intro hp hv ha hb hu hw
 exact sp_l2 hp hv ha hb hu hw e374 (e382.trans (congrArg _ e381)) (by clear hp hv ha hb hu hw e374 e381 e382; grind)
theorem eM_pk95 {z0 z1 z2 z13 z14 z15 z26 z27 z28 : Rat} : (z0*(z14*z28-z27*z15)-z1*(z13*z28-z26*z15)+z2*(z13*z27-z26*z14)=0)→(¬ ((z1*z15-z14*z2=0∧z2*z13-z15*z0=0)∧z0*z14-z13*z1=0))→(((z1*z28-z27*z2=0∧z2*z26-z28*z0=0)∧z0*z27-z26*z1=0))→(¬ (z26=0))→(z26*z14-z13*z27=0)→(¬ (z26*z15-z13*z28=0)) := by
 intro h0 h1 h2 h3 h4 hg
 grind
theorem eM_pk96 {z0 z1 z2 z13 z14 z15 z26 z27 z28 : Rat} : (z0*(z14*z28-z27*z15)-z1*(z13*z28-z26*z15)+z2*(z13*z27-z26*z14)=0)→(¬ ((z1*z28-z27*z2=0∧z2*z26-z28*z0=0)∧z0*z27-z26*z1=0))→(z1=0)→(¬ (z14=0))→(¬ (z27=0)) := by
 intro h0 h1 h2 h3 hg
 grind
theorem eM_pk97 {z0 z1 z2 z13 z14 z15 z26 z27 z28 : Rat} : (z0*(z14*z28-z27*z15)-z1*(z13*z28-z26*z15)+z2*(z13*z27-z26*z14)=0)→(¬ ((z1*z28-z27*z2=0∧z2*z26-z28*z0=0)∧z0*z27-z26*z1=0))→(z0=0)→(z1=0)→(¬ (z27=0))→(¬ (z27*z2-z1*z28=0)) := by
 intro h0 h1 h2 h3 h4 hg
 grind
theorem eM_pk98 {z0 z1 z2 z3 z13 z14 z15 z16 z26 z27 z28 z29 : Rat} : (z0*(z14*z28-z27*z15)-z1*(z13*z28-z26*z15)+z2*(z13*z27-z26*z14)=0)→(((z1*(z15*z29-z28*z16)-z2*(z14*z29-z27*z16)+z3*(z14*z28-z27*z15)=0∧z2*(z13*z29-z26*z16)-z0*(z15*z29-z28*z16)+z3*(z15*z26-z28*z13)=0)∧z0*(z14*z29-z27*z16)-z1*(z13*z29-z26*z16)+z3*(z13*z27-z26*z14)=0))→(z27*(z2*z16-z15*z3)-z28*(z1*z16-z14*z3)+z29*(z1*z15-z14*z2)=0) := by
 intro h0 h1
 grind
theorem eM_pk99 {z0 z1 z2 z13 z14 z15 z26 z27 z28 : Rat} : (z0*(z14*z28-z27*z15)-z1*(z13*z28-z26*z15)+z2*(z13*z27-z26*z14)=0)→(¬ ((z1*z15-z14*z2=0∧z2*z13-z15*z0=0)∧z0*z14-z13*z1=0))→(z13=0)→(¬ (z1=0))→(z14=0)→(¬ (z1*z15-z14*z2=0)) := by
 intro h0 h1 h2 h3 h4 hg
 grind
theorem eM_pm389 (H : eM_Q q σ) : (q 1 ≠ 0)→(q 389*q 1=q 1*q 15-q 14*q 2) := by
 have e383:q 383=q 14/q 1:=H 383 _ rfl;have e388:q 388=q 383*q 2:=H 388 _ rfl;have e389:q 389=q 15-q 388:=H 389 _ rfl
 clear H
 intro hp
 have k := sp_l1 hp e383 (e389.trans (congrArg _ e388))
 first | exact k | (rw [k]; clear k; grind)
theorem eM_pk100 {z0 z1 z2 z13 z14 z15 z26 z27 z28 : Rat} : (z0*(z14*z28-z27*z15)-z1*(z13*z28-z26*z15)+z2*(z13*z27-z26*z14)=0)→(¬ ((z1*z28-z27*z2=0∧z2*z26-z28*z0=0)∧z0*z27-z26*z1=0))→(¬ (z1*z15-z14*z2=0))→(¬ (z1*z28-z27*z2=0)) := by
 intro h0 h1 h2 hg
 grind
theorem eM_pm396 (H : eM_Q q σ) : (q 1 ≠ 0)→(q 396*q 1=q 1*q 28-q 27*q 2) := by
 have e390:q 390=q 27/q 1:=H 390 _ rfl;have e395:q 395=q 390*q 2:=H 395 _ rfl;have e396:q 396=q 28-q 395:=H 396 _ rfl
 clear H
 intro hp
 have k := sp_l1 hp e390 (e396.trans (congrArg _ e395))
 first | exact k | (rw [k]; clear k; grind)
theorem eM_pk101 {z0 z1 z2 z3 z13 z14 z15 z16 z26 z27 z28 z29 : Rat} : (z0*(z14*z28-z27*z15)-z1*(z13*z28-z26*z15)+z2*(z13*z27-z26*z14)=0)→(((z1*(z15*z29-z28*z16)-z2*(z14*z29-z27*z16)+z3*(z14*z28-z27*z15)=0∧z2*(z13*z29-z26*z16)-z0*(z15*z29-z28*z16)+z3*(z15*z26-z28*z13)=0)∧z0*(z14*z29-z27*z16)-z1*(z13*z29-z26*z16)+z3*(z13*z27-z26*z14)=0))→(z1*(z28*z16-z15*z29)-z2*(z27*z16-z14*z29)+z3*(z27*z15-z14*z28)=0) := by
 intro h0 h1
 grind
theorem eM_pm405 (H : eM_Q q σ) : (q 1 ≠ 0)→(q 405*q 1=q 1*q 16-q 14*q 3) := by
 have e383:q 383=q 14/q 1:=H 383 _ rfl;have e404:q 404=q 383*q 3:=H 404 _ rfl;have e405:q 405=q 16-q 404:=H 405 _ rfl
 clear H
 intro hp
 have k := sp_l1 hp e383 (e405.trans (congrArg _ e404))
 first | exact k | (rw [k]; clear k; grind)
theorem eM_pm407 (H : eM_Q q σ) : (q 1 ≠ 0)→(q 407*q 1=q 1*q 29-q 27*q 3) := by
 have e390:q 390=q 27/q 1:=H 390 _ rfl;have e406:q 406=q 390*q 3:=H 406 _ rfl;have e407:q 407=q 29-q 406:=H 407 _ rfl
 clear H
 intro hp
 have k := sp_l1 hp e390 (e407.trans (congrArg _ e406))
 first | exact k | (rw [k]; clear k; grind)
theorem eM_pm409 (H : eM_Q q σ) : (q 1 ≠ 0)→(q 396 ≠ 0)→(q 405*q 1=q 1*q 16-q 14*q 3)→(q 407*q 1=q 1*q 29-q 27*q 3)→(q 389*q 1=q 1*q 15-q 14*q 2)→(q 396*q 1=q 1*q 28-q 27*q 2)→(q 409*(q 1*q 28-q 27*q 2)=q 1*(q 28*q 16-q 15*q 29)-q 2*(q 27*q 16-q 14*q 29)+q 3*(q 27*q 15-q 14*q 28)) := by
 have e397:q 397=q 389/q 396:=H 397 _ rfl;have e408:q 408=q 397*q 407:=H 408 _ rfl;have e409:q 409=q 405-q 408:=H 409 _ rfl
 clear H
 intro hp hv ha hb hu hw
 exact sp_l2 hp hv ha hb hu hw e397 (e409.trans (congrArg _ e408)) (by clear hp hv ha hb hu hw e397 e408 e409; grind)
theorem eM_pk102 {z0 z1 z2 z13 z14 z15 z26 z27 z28 : Rat} : (z0*(z14*z28-z27*z15)-z1*(z13*z28-z26*z15)+z2*(z13*z27-z26*z14)=0)→(¬ ((z1*z15-z14*z2=0∧z2*z13-z15*z0=0)∧z0*z14-z13*z1=0))→(z0=0)→(z13=0)→(¬ (z14*z2-z1*z15=0)) := by
 intro h0 h1 h2 h3 hg
 grind
theorem eM_pk103 {z0 z1 z2 z13 z14 z15 z26 z27 z28 : Rat} : (z0*(z14*z28-z27*z15)-z1*(z13*z28-z26*z15)+z2*(z13*z27-z26*z14)=0)→(¬ ((z1*z28-z27*z2=0∧z2*z26-z28*z0=0)∧z0*z27-z26*z1=0))→(¬ (z14=0))→(z27=0)→(¬ (z14*z2-z1*z15=0))→(¬ (z14*z28-z27*z15=0)) := by
 intro h0 h1 h2 h3 h4 hg
 grind
theorem eM_pk104 {z0 z1 z2 z3 z13 z14 z15 z16 z26 z27 z28 z29 : Rat} : (z0*(z14*z28-z27*z15)-z1*(z13*z28-z26*z15)+z2*(z13*z27-z26*z14)=0)→(((z1*(z15*z29-z28*z16)-z2*(z14*z29-z27*z16)+z3*(z14*z28-z27*z15)=0∧z2*(z13*z29-z26*z16)-z0*(z15*z29-z28*z16)+z3*(z15*z26-z28*z13)=0)∧z0*(z14*z29-z27*z16)-z1*(z13*z29-z26*z16)+z3*(z13*z27-z26*z14)=0))→(z14*(z28*z3-z2*z29)-z15*(z27*z3-z1*z29)+z16*(z27*z2-z1*z28)=0) := by
 intro h0 h1
 grind
theorem eM_pk105 {z0 z1 z2 z13 z14 z15 z26 z27 z28 : Rat} : (z0*(z14*z28-z27*z15)-z1*(z13*z28-z26*z15)+z2*(z13*z27-z26*z14)=0)→(¬ ((z1*z28-z27*z2=0∧z2*z26-z28*z0=0)∧z0*z27-z26*z1=0))→(z0=0)→(z26=0)→(¬ (z27*z2-z1*z28=0)) := by
 intro h0 h1 h2 h3 hg
 grind
theorem eM_pk106 {z0 z1 z2 z13 z14 z15 z26 z27 z28 : Rat} : (z0*(z14*z28-z27*z15)-z1*(z13*z28-z26*z15)+z2*(z13*z27-z26*z14)=0)→(¬ ((z1*z28-z27*z2=0∧z2*z26-z28*z0=0)∧z0*z27-z26*z1=0))→(z0=0)→(¬ (z13=0))→(¬ (z26=0)) := by
 intro h0 h1 h2 h3 hg
 grind
theorem eM_pk107 {z0 z1 z2 z13 z14 z15 z26 z27 z28 : Rat} : (z0*(z14*z28-z27*z15)-z1*(z13*z28-z26*z15)+z2*(z13*z27-z26*z14)=0)→(¬ ((z1*z28-z27*z2=0∧z2*z26-z28*z0=0)∧z0*z27-z26*z1=0))→(¬ (z26=0))→(z26*z1-z0*z27=0)→(¬ (z26*z2-z0*z28=0)) := by
 intro h0 h1 h2 h3 hg
 grind
theorem eM_pk108 {z0 z1 z2 z3 z13 z14 z15 z16 z26 z27 z28 z29 : Rat} : (z0*(z14*z28-z27*z15)-z1*(z13*z28-z26*z15)+z2*(z13*z27-z26*z14)=0)→(((z1*(z15*z29-z28*z16)-z2*(z14*z29-z27*z16)+z3*(z14*z28-z27*z15)=0∧z2*(z13*z29-z26*z16)-z0*(z15*z29-z28*z16)+z3*(z15*z26-z28*z13)=0)∧z0*(z14*z29-z27*z16)-z1*(z13*z29-z26*z16)+z3*(z13*z27-z26*z14)=0))→(z26*(z2*z16-z15*z3)-z28*(z0*z16-z13*z3)+z29*(z0*z15-z13*z2)=0) := by
 intro h0 h1
 grind
theorem eM_pk109 {z0 z1 z2 z3 z13 z14 z15 z16 z26 z27 z28 z29 : Rat} : (z0*(z14*z28-z27*z15)-z1*(z13*z28-z26*z15)+z2*(z13*z27-z26*z14)=0)→(((z1*(z15*z29-z28*z16)-z2*(z14*z29-z27*z16)+z3*(z14*z28-z27*z15)=0∧z2*(z13*z29-z26*z16)-z0*(z15*z29-z28*z16)+z3*(z15*z26-z28*z13)=0)∧z0*(z14*z29-z27*z16)-z1*(z13*z29-z26*z16)+z3*(z13*z27-z26*z14)=0))→(z26*(z1*z16-z14*z3)-z27*(z0*z16-z13*z3)+z29*(z0*z14-z13*z1)=0) := by
 intro h0 h1
 grind
theorem eM_pm414 (H : eM_Q q σ) : (q 0 ≠ 0)→(q 414*q 0=q 0*q 14-q 13*q 1) := by
 have e410:q 410=q 13/q 0:=H 410 _ rfl;have e413:q 413=q 410*q 1:=H 413 _ rfl;have e414:q 414=q 14-q 413:=H 414 _ rfl
 clear H
 intro hp
 have k := sp_l1 hp e410 (e414.trans (congrArg _ e413))
 first | exact k | (rw [k]; clear k; grind)
theorem eM_pk110 {z0 z1 z2 z13 z14 z15 z26 z27 z28 : Rat} : (z0*(z14*z28-z27*z15)-z1*(z13*z28-z26*z15)+z2*(z13*z27-z26*z14)=0)→(¬ ((z1*z15-z14*z2=0∧z2*z13-z15*z0=0)∧z0*z14-z13*z1=0))→(z0*z14-z13*z1=0)→(z0*z27-z26*z1=0) := by
 intro h0 h1 h2
 grind
theorem eM_pm421 (H : eM_Q q σ) : (q 0 ≠ 0)→(q 421*q 0=q 0*q 27-q 26*q 1) := by
 have e417:q 417=q 26/q 0:=H 417 _ rfl;have e420:q 420=q 417*q 1:=H 420 _ rfl;have e421:q 421=q 27-q 420:=H 421 _ rfl
 clear H
 intro hp
 have k := sp_l1 hp e417 (e421.trans (congrArg _ e420))
 first | exact k | (rw [k]; clear k; grind)
theorem eM_pk111 {z0 z1 z2 z13 z14 z15 z26 z27 z28 : Rat} : (z0*(z14*z28-z27*z15)-z1*(z13*z28-z26*z15)+z2*(z13*z27-z26*z14)=0)→(¬ ((z1*z15-z14*z2=0∧z2*z13-z15*z0=0)∧z0*z14-z13*z1=0))→(¬ (z0=0))→(z0*z14-z13*z1=0)→(¬ (z0*z15-z13*z2=0)) := by
 intro h0 h1 h2 h3 hg
 grind
theorem eM_pm416 (H : eM_Q q σ) : (q 0 ≠ 0)→(q 416*q 0=q 0*q 15-q 13*q 2) := by
 have e410:q 410=q 13/q 0:=H 410 _ rfl;have e415:q 415=q 410*q 2:=H 415 _ rfl;have e416:q 416=q 15-q 415:=H 416 _ rfl
 clear H
 intro hp
 have k := sp_l1 hp e410 (e416.trans (congrArg _ e415))
 first | exact k | (rw [k]; clear k; grind)
theorem eM_pk112 {z0 z1 z2 z13 z14 z15 z26 z27 z28 : Rat} : (z0*(z14*z28-z27*z15)-z1*(z13*z28-z26*z15)+z2*(z13*z27-z26*z14)=0)→(¬ ((z1*z28-z27*z2=0∧z2*z26-z28*z0=0)∧z0*z27-z26*z1=0))→(¬ (z0*z15-z13*z2=0))→(¬ (z0*z28-z26*z2=0)) := by
 intro h0 h1 h2 hg
 grind
theorem eM_pm423 (H : eM_Q q σ) : (q 0 ≠ 0)→(q 423*q 0=q 0*q 28-q 26*q 2) := by
 have e417:q 417=q 26/q 0:=H 417 _ rfl;have e422:q 422=q 417*q 2:=H 422 _ rfl;have e423:q 423=q 28-q 422:=H 423 _ rfl
 clear H
 intro hp
 have k := sp_l1 hp e417 (e423.trans (congrArg _ e422))
 first | exact k | (rw [k]; clear k; grind)
theorem eM_pk113 {z0 z1 z2 z3 z13 z14 z15 z16 z26 z27 z28 z29 : Rat} : (z0*(z14*z28-z27*z15)-z1*(z13*z28-z26*z15)+z2*(z13*z27-z26*z14)=0)→(((z1*(z15*z29-z28*z16)-z2*(z14*z29-z27*z16)+z3*(z14*z28-z27*z15)=0∧z2*(z13*z29-z26*z16)-z0*(z15*z29-z28*z16)+z3*(z15*z26-z28*z13)=0)∧z0*(z14*z29-z27*z16)-z1*(z13*z29-z26*z16)+z3*(z13*z27-z26*z14)=0))→(z0*(z28*z16-z15*z29)-z2*(z26*z16-z13*z29)+z3*(z26*z15-z13*z28)=0) := by
 intro h0 h1
 grind
theorem eM_pm432 (H : eM_Q q σ) : (q 0 ≠ 0)→(q 432*q 0=q 0*q 16-q 13*q 3) := by
 have e410:q 410=q 13/q 0:=H 410 _ rfl;have e431:q 431=q 410*q 3:=H 431 _ rfl;have e432:q 432=q 16-q 431:=H 432 _ rfl
 clear H
 intro hp
 have k := sp_l1 hp e410 (e432.trans (congrArg _ e431))
 first | exact k | (rw [k]; clear k; grind)
theorem eM_pm434 (H : eM_Q q σ) : (q 0 ≠ 0)→(q 434*q 0=q 0*q 29-q 26*q 3) := by
 have e417:q 417=q 26/q 0:=H 417 _ rfl;have e433:q 433=q 417*q 3:=H 433 _ rfl;have e434:q 434=q 29-q 433:=H 434 _ rfl
 clear H
 intro hp
 have k := sp_l1 hp e417 (e434.trans (congrArg _ e433))
 first | exact k | (rw [k]; clear k; grind)
theorem eM_pm436 (H : eM_Q q σ) : (q 0 ≠ 0)→(q 423 ≠ 0)→(q 432*q 0=q 0*q 16-q 13*q 3)→(q 434*q 0=q 0*q 29-q 26*q 3)→(q 416*q 0=q 0*q 15-q 13*q 2)→(q 423*q 0=q 0*q 28-q 26*q 2)→(q 436*(q 0*q 28-q 26*q 2)=q 0*(q 28*q 16-q 15*q 29)-q 2*(q 26*q 16-q 13*q 29)+q 3*(q 26*q 15-q 13*q 28)) := by
 have e424:q 424=q 416/q 423:=H 424 _ rfl;have e435:q 435=q 424*q 434:=H 435 _ rfl;have e436:q 436=q 432-q 435:=H 436 _ rfl
 clear H
 intro hp hv ha hb hu hw
 exact sp_l2 hp hv ha hb hu hw e424 (e436.trans (congrArg _ e435)) (by clear hp hv ha hb hu hw e424 e435 e436; grind)
theorem eM_pk114 {z0 z1 z2 z13 z14 z15 z26 z27 z28 : Rat} : (z0*(z14*z28-z27*z15)-z1*(z13*z28-z26*z15)+z2*(z13*z27-z26*z14)=0)→(¬ ((z1*z28-z27*z2=0∧z2*z26-z28*z0=0)∧z0*z27-z26*z1=0))→(¬ (z0*z14-z13*z1=0))→(¬ (z0*z27-z26*z1=0)) := by
 intro h0 h1 h2 hg
 grind
theorem eM_pk115 {z0 z1 z2 z13 z14 z15 z26 z27 z28 : Rat} : (z0*(z14*z28-z27*z15)-z1*(z13*z28-z26*z15)+z2*(z13*z27-z26*z14)=0)→(z0*(z27*z15-z14*z28)-z1*(z26*z15-z13*z28)+z2*(z26*z14-z13*z27)=0) := by
 intro h0
 grind
theorem eM_pm443 (H : eM_Q q σ) : (q 0 ≠ 0)→(q 421 ≠ 0)→(q 416*q 0=q 0*q 15-q 13*q 2)→(q 423*q 0=q 0*q 28-q 26*q 2)→(q 414*q 0=q 0*q 14-q 13*q 1)→(q 421*q 0=q 0*q 27-q 26*q 1)→(q 443*(q 0*q 27-q 26*q 1)=q 0*(q 27*q 15-q 14*q 28)-q 1*(q 26*q 15-q 13*q 28)+q 2*(q 26*q 14-q 13*q 27)) := by
 have e437:q 437=q 414/q 421:=H 437 _ rfl;have e442:q 442=q 437*q 423:=H 442 _ rfl;have e443:q 443=q 416-q 442:=H 443 _ rfl
 clear H
 intro hp hv ha hb hu hw
 exact sp_l2 hp hv ha hb hu hw e437 (e443.trans (congrArg _ e442)) (by clear hp hv ha hb hu hw e437 e442 e443; grind)
theorem eM_pk116 {z0 z1 z2 z3 z13 z14 z15 z16 z26 z27 z28 z29 : Rat} : (z0*(z14*z28-z27*z15)-z1*(z13*z28-z26*z15)+z2*(z13*z27-z26*z14)=0)→(((z1*(z15*z29-z28*z16)-z2*(z14*z29-z27*z16)+z3*(z14*z28-z27*z15)=0∧z2*(z13*z29-z26*z16)-z0*(z15*z29-z28*z16)+z3*(z15*z26-z28*z13)=0)∧z0*(z14*z29-z27*z16)-z1*(z13*z29-z26*z16)+z3*(z13*z27-z26*z14)=0))→(z0*(z27*z16-z14*z29)-z1*(z26*z16-z13*z29)+z3*(z26*z14-z13*z27)=0) := by
 intro h0 h1
 grind
theorem eM_pm445 (H : eM_Q q σ) : (q 0 ≠ 0)→(q 421 ≠ 0)→(q 432*q 0=q 0*q 16-q 13*q 3)→(q 434*q 0=q 0*q 29-q 26*q 3)→(q 414*q 0=q 0*q 14-q 13*q 1)→(q 421*q 0=q 0*q 27-q 26*q 1)→(q 445*(q 0*q 27-q 26*q 1)=q 0*(q 27*q 16-q 14*q 29)-q 1*(q 26*q 16-q 13*q 29)+q 3*(q 26*q 14-q 13*q 27)) := by
 have e437:q 437=q 414/q 421:=H 437 _ rfl;have e444:q 444=q 437*q 434:=H 444 _ rfl;have e445:q 445=q 432-q 444:=H 445 _ rfl
 clear H
 intro hp hv ha hb hu hw
 exact sp_l2 hp hv ha hb hu hw e437 (e445.trans (congrArg _ e444)) (by clear hp hv ha hb hu hw e437 e444 e445; grind)
theorem eM_pk117 {z0 z1 z2 z13 z14 z15 z26 z27 z28 : Rat} : (z0*(z14*z28-z27*z15)-z1*(z13*z28-z26*z15)+z2*(z13*z27-z26*z14)=0)→(¬ ((z1*z15-z14*z2=0∧z2*z13-z15*z0=0)∧z0*z14-z13*z1=0))→(z13=0)→(¬ (z26=0))→(z26*z14-z13*z27=0)→(z26*z1-z0*z27=0) := by
 intro h0 h1 h2 h3 h4
 grind
theorem eM_pk118 {z0 z1 z2 z13 z14 z15 z26 z27 z28 : Rat} : (z0*(z14*z28-z27*z15)-z1*(z13*z28-z26*z15)+z2*(z13*z27-z26*z14)=0)→(¬ ((z1*z28-z27*z2=0∧z2*z26-z28*z0=0)∧z0*z27-z26*z1=0))→(¬ (z13=0))→(z26=0)→(¬ (z13*z2-z0*z15=0))→(¬ (z13*z28-z26*z15=0)) := by
 intro h0 h1 h2 h3 h4 hg
 grind
theorem eM_pk119 {z0 z1 z2 z3 z13 z14 z15 z16 z26 z27 z28 z29 : Rat} : (z0*(z14*z28-z27*z15)-z1*(z13*z28-z26*z15)+z2*(z13*z27-z26*z14)=0)→(((z1*(z15*z29-z28*z16)-z2*(z14*z29-z27*z16)+z3*(z14*z28-z27*z15)=0∧z2*(z13*z29-z26*z16)-z0*(z15*z29-z28*z16)+z3*(z15*z26-z28*z13)=0)∧z0*(z14*z29-z27*z16)-z1*(z13*z29-z26*z16)+z3*(z13*z27-z26*z14)=0))→(z13*(z28*z3-z2*z29)-z15*(z26*z3-z0*z29)+z16*(z26*z2-z0*z28)=0) := by
 intro h0 h1
 grind
theorem eM_pk120 {z0 z1 z2 z13 z14 z15 z26 z27 z28 : Rat} : (z0*(z14*z28-z27*z15)-z1*(z13*z28-z26*z15)+z2*(z13*z27-z26*z14)=0)→(¬ ((z1*z28-z27*z2=0∧z2*z26-z28*z0=0)∧z0*z27-z26*z1=0))→(¬ (z13=0))→(z26=0)→(¬ (z13*z1-z0*z14=0))→(¬ (z13*z27-z26*z14=0)) := by
 intro h0 h1 h2 h3 h4 hg
 grind
theorem eM_pk121 {z0 z1 z2 z3 z13 z14 z15 z16 z26 z27 z28 z29 : Rat} : (z0*(z14*z28-z27*z15)-z1*(z13*z28-z26*z15)+z2*(z13*z27-z26*z14)=0)→(((z1*(z15*z29-z28*z16)-z2*(z14*z29-z27*z16)+z3*(z14*z28-z27*z15)=0∧z2*(z13*z29-z26*z16)-z0*(z15*z29-z28*z16)+z3*(z15*z26-z28*z13)=0)∧z0*(z14*z29-z27*z16)-z1*(z13*z29-z26*z16)+z3*(z13*z27-z26*z14)=0))→(z13*(z27*z3-z1*z29)-z14*(z26*z3-z0*z29)+z16*(z26*z1-z0*z27)=0) := by
 intro h0 h1
 grind
theorem eM_pk122 {z0 z1 z2 z3 z13 z14 z15 z16 z26 z27 z28 z29 : Rat} : (z0*(z14*z28-z27*z15)-z1*(z13*z28-z26*z15)+z2*(z13*z27-z26*z14)=0)→(¬ ((z1*(z15*z29-z28*z16)-z2*(z14*z29-z27*z16)+z3*(z14*z28-z27*z15)=0∧z2*(z13*z29-z26*z16)-z0*(z15*z29-z28*z16)+z3*(z15*z26-z28*z13)=0)∧z0*(z14*z29-z27*z16)-z1*(z13*z29-z26*z16)+z3*(z13*z27-z26*z14)=0))→(z0=0)→(z13=0)→(z26=0)→(z1=0)→(z14=0)→(¬ (z27=0)) := by
 intro h0 h1 h2 h3 h4 h5 h6 hg
 grind
theorem eM_pk123 {z0 z1 z2 z13 z14 z15 z26 z27 z28 : Rat} : (¬ ((z0=0∧z1=0)∧z2=0))→(z0*(z14*z28-z27*z15)-z1*(z13*z28-z26*z15)+z2*(z13*z27-z26*z14)=0)→(z1=0)→(¬ (z27=0))→(¬ (z27*z15-z14*z28=0))→(¬ (z27*z2-z1*z28=0)) := by
 intro h0 h1 h2 h3 h4 hg
 grind
theorem eM_pk124 {z0 z1 z2 z3 z13 z14 z15 z16 z26 z27 z28 z29 : Rat} : (z0*(z14*z28-z27*z15)-z1*(z13*z28-z26*z15)+z2*(z13*z27-z26*z14)=0)→(¬ ((z1*(z15*z29-z28*z16)-z2*(z14*z29-z27*z16)+z3*(z14*z28-z27*z15)=0∧z2*(z13*z29-z26*z16)-z0*(z15*z29-z28*z16)+z3*(z15*z26-z28*z13)=0)∧z0*(z14*z29-z27*z16)-z1*(z13*z29-z26*z16)+z3*(z13*z27-z26*z14)=0))→(¬ (z27*z2-z1*z28=0))→(¬ (z27*(z2*z16-z15*z3)-z28*(z1*z16-z14*z3)+z29*(z1*z15-z14*z2)=0)) := by
 intro h0 h1 h2 hg
 grind
theorem eM_pk125 {z0 z1 z2 z13 z14 z15 z26 z27 z28 : Rat} : (¬ ((z0=0∧z1=0)∧z2=0))→(z0*(z14*z28-z27*z15)-z1*(z13*z28-z26*z15)+z2*(z13*z27-z26*z14)=0)→(z0=0)→(z1=0)→(¬ (z14=0))→(¬ (z14*z2-z1*z15=0)) := by
 intro h0 h1 h2 h3 h4 hg
 grind
theorem eM_pk126 {z0 z1 z2 z3 z13 z14 z15 z16 z26 z27 z28 z29 : Rat} : (z0*(z14*z28-z27*z15)-z1*(z13*z28-z26*z15)+z2*(z13*z27-z26*z14)=0)→(¬ ((z1*(z15*z29-z28*z16)-z2*(z14*z29-z27*z16)+z3*(z14*z28-z27*z15)=0∧z2*(z13*z29-z26*z16)-z0*(z15*z29-z28*z16)+z3*(z15*z26-z28*z13)=0)∧z0*(z14*z29-z27*z16)-z1*(z13*z29-z26*z16)+z3*(z13*z27-z26*z14)=0))→(¬ (z14*z28-z27*z15=0))→(¬ (z14*(z28*z3-z2*z29)-z15*(z27*z3-z1*z29)+z16*(z27*z2-z1*z28)=0)) := by
 intro h0 h1 h2 hg
 grind
theorem eM_pk127 {z0 z1 z2 z3 z13 z14 z15 z16 z26 z27 z28 z29 : Rat} : (z0*(z14*z28-z27*z15)-z1*(z13*z28-z26*z15)+z2*(z13*z27-z26*z14)=0)→(¬ ((z1*(z15*z29-z28*z16)-z2*(z14*z29-z27*z16)+z3*(z14*z28-z27*z15)=0∧z2*(z13*z29-z26*z16)-z0*(z15*z29-z28*z16)+z3*(z15*z26-z28*z13)=0)∧z0*(z14*z29-z27*z16)-z1*(z13*z29-z26*z16)+z3*(z13*z27-z26*z14)=0))→(z0=0)→(z13=0)→(z26=0)→(¬ (z27=0))→(z27*z15-z14*z28=0)→(¬ (z27*z2-z1*z28=0)) := by
 intro h0 h1 h2 h3 h4 h5 h6 hg
 grind
theorem eM_pk128 {z0 z1 z2 z13 z14 z15 z26 z27 z28 : Rat} : (¬ ((z13=0∧z14=0)∧z15=0))→(z0*(z14*z28-z27*z15)-z1*(z13*z28-z26*z15)+z2*(z13*z27-z26*z14)=0)→(z13=0)→(¬ (z1=0))→(z14=0)→(¬ (z1*z15-z14*z2=0)) := by
 intro h0 h1 h2 h3 h4 hg
 grind
theorem eM_pk129 {z0 z1 z2 z13 z14 z15 z26 z27 z28 : Rat} : (¬ ((z26=0∧z27=0)∧z28=0))→(z0*(z14*z28-z27*z15)-z1*(z13*z28-z26*z15)+z2*(z13*z27-z26*z14)=0)→(z14=0)→(z27=0)→(¬ (z1*z15-z14*z2=0))→(¬ (z1*z28-z27*z2=0)) := by
 intro h0 h1 h2 h3 h4 hg
 grind
theorem eM_pk130 {z0 z1 z2 z3 z13 z14 z15 z16 z26 z27 z28 z29 : Rat} : (z0*(z14*z28-z27*z15)-z1*(z13*z28-z26*z15)+z2*(z13*z27-z26*z14)=0)→(¬ ((z1*(z15*z29-z28*z16)-z2*(z14*z29-z27*z16)+z3*(z14*z28-z27*z15)=0∧z2*(z13*z29-z26*z16)-z0*(z15*z29-z28*z16)+z3*(z15*z26-z28*z13)=0)∧z0*(z14*z29-z27*z16)-z1*(z13*z29-z26*z16)+z3*(z13*z27-z26*z14)=0))→(¬ (z1*z28-z27*z2=0))→(¬ (z1*(z28*z16-z15*z29)-z2*(z27*z16-z14*z29)+z3*(z27*z15-z14*z28)=0)) := by
 intro h0 h1 h2 hg
 grind
theorem eM_pk131 {z0 z1 z2 z3 z13 z14 z15 z16 z26 z27 z28 z29 : Rat} : (z0*(z14*z28-z27*z15)-z1*(z13*z28-z26*z15)+z2*(z13*z27-z26*z14)=0)→(¬ ((z1*(z15*z29-z28*z16)-z2*(z14*z29-z27*z16)+z3*(z14*z28-z27*z15)=0∧z2*(z13*z29-z26*z16)-z0*(z15*z29-z28*z16)+z3*(z15*z26-z28*z13)=0)∧z0*(z14*z29-z27*z16)-z1*(z13*z29-z26*z16)+z3*(z13*z27-z26*z14)=0))→(¬ (z27*z15-z14*z28=0))→(¬ (z27*(z15*z3-z2*z16)-z28*(z14*z3-z1*z16)+z29*(z14*z2-z1*z15)=0)) := by
 intro h0 h1 h2 hg
 grind
theorem eM_pk132 {z0 z1 z2 z3 z13 z14 z15 z16 z26 z27 z28 z29 : Rat} : (z0*(z14*z28-z27*z15)-z1*(z13*z28-z26*z15)+z2*(z13*z27-z26*z14)=0)→(¬ ((z1*(z15*z29-z28*z16)-z2*(z14*z29-z27*z16)+z3*(z14*z28-z27*z15)=0∧z2*(z13*z29-z26*z16)-z0*(z15*z29-z28*z16)+z3*(z15*z26-z28*z13)=0)∧z0*(z14*z29-z27*z16)-z1*(z13*z29-z26*z16)+z3*(z13*z27-z26*z14)=0))→(z0=0)→(z13=0)→(z26=0)→(¬ (z14=0))→(z14*z2-z1*z15=0)→(¬ (z14*z28-z27*z15=0)) := by
 intro h0 h1 h2 h3 h4 h5 h6 hg
 grind
theorem eM_pk133 {z0 z1 z2 z13 z14 z15 z26 z27 z28 : Rat} : (¬ ((z0=0∧z1=0)∧z2=0))→(z0*(z14*z28-z27*z15)-z1*(z13*z28-z26*z15)+z2*(z13*z27-z26*z14)=0)→(z0=0)→(¬ (z26=0))→(¬ (z26*z15-z13*z28=0))→(¬ (z26*z2-z0*z28=0)) := by
 intro h0 h1 h2 h3 h4 hg
 grind
theorem eM_pk134 {z0 z1 z2 z3 z13 z14 z15 z16 z26 z27 z28 z29 : Rat} : (z0*(z14*z28-z27*z15)-z1*(z13*z28-z26*z15)+z2*(z13*z27-z26*z14)=0)→(¬ ((z1*(z15*z29-z28*z16)-z2*(z14*z29-z27*z16)+z3*(z14*z28-z27*z15)=0∧z2*(z13*z29-z26*z16)-z0*(z15*z29-z28*z16)+z3*(z15*z26-z28*z13)=0)∧z0*(z14*z29-z27*z16)-z1*(z13*z29-z26*z16)+z3*(z13*z27-z26*z14)=0))→(¬ (z26*z2-z0*z28=0))→(¬ (z26*(z2*z16-z15*z3)-z28*(z0*z16-z13*z3)+z29*(z0*z15-z13*z2)=0)) := by
 intro h0 h1 h2 hg
 grind
theorem eM_pk135 {z0 z1 z2 z13 z14 z15 z26 z27 z28 : Rat} : (¬ ((z0=0∧z1=0)∧z2=0))→(z0*(z14*z28-z27*z15)-z1*(z13*z28-z26*z15)+z2*(z13*z27-z26*z14)=0)→(z0=0)→(¬ (z26=0))→(¬ (z26*z14-z13*z27=0))→(¬ (z26*z1-z0*z27=0)) := by
 intro h0 h1 h2 h3 h4 hg
 grind
theorem eM_pk136 {z0 z1 z2 z3 z13 z14 z15 z16 z26 z27 z28 z29 : Rat} : (z0*(z14*z28-z27*z15)-z1*(z13*z28-z26*z15)+z2*(z13*z27-z26*z14)=0)→(¬ ((z1*(z15*z29-z28*z16)-z2*(z14*z29-z27*z16)+z3*(z14*z28-z27*z15)=0∧z2*(z13*z29-z26*z16)-z0*(z15*z29-z28*z16)+z3*(z15*z26-z28*z13)=0)∧z0*(z14*z29-z27*z16)-z1*(z13*z29-z26*z16)+z3*(z13*z27-z26*z14)=0))→(¬ (z26*z1-z0*z27=0))→(¬ (z26*(z1*z16-z14*z3)-z27*(z0*z16-z13*z3)+z29*(z0*z14-z13*z1)=0)) := by
 intro h0 h1 h2 hg
 grind
theorem eM_pk137 {z0 z1 z2 z13 z14 z15 z26 z27 z28 : Rat} : (¬ ((z0=0∧z1=0)∧z2=0))→(z0*(z14*z28-z27*z15)-z1*(z13*z28-z26*z15)+z2*(z13*z27-z26*z14)=0)→(z0=0)→(z26=0)→(z13*z1-z0*z14=0)→(z13*z27-z26*z14=0) := by
 intro h0 h1 h2 h3 h4
 grind
theorem eM_pk138 {z0 z1 z2 z13 z14 z15 z26 z27 z28 : Rat} : (¬ ((z0=0∧z1=0)∧z2=0))→(z0*(z14*z28-z27*z15)-z1*(z13*z28-z26*z15)+z2*(z13*z27-z26*z14)=0)→(z0=0)→(¬ (z13=0))→(z13*z1-z0*z14=0)→(¬ (z13*z2-z0*z15=0)) := by
 intro h0 h1 h2 h3 h4 hg
 grind
theorem eM_pk139 {z0 z1 z2 z3 z13 z14 z15 z16 z26 z27 z28 z29 : Rat} : (z0*(z14*z28-z27*z15)-z1*(z13*z28-z26*z15)+z2*(z13*z27-z26*z14)=0)→(¬ ((z1*(z15*z29-z28*z16)-z2*(z14*z29-z27*z16)+z3*(z14*z28-z27*z15)=0∧z2*(z13*z29-z26*z16)-z0*(z15*z29-z28*z16)+z3*(z15*z26-z28*z13)=0)∧z0*(z14*z29-z27*z16)-z1*(z13*z29-z26*z16)+z3*(z13*z27-z26*z14)=0))→(¬ (z13*z28-z26*z15=0))→(¬ (z13*(z28*z3-z2*z29)-z15*(z26*z3-z0*z29)+z16*(z26*z2-z0*z28)=0)) := by
 intro h0 h1 h2 hg
 grind
theorem eM_pk140 {z0 z1 z2 z3 z13 z14 z15 z16 z26 z27 z28 z29 : Rat} : (z0*(z14*z28-z27*z15)-z1*(z13*z28-z26*z15)+z2*(z13*z27-z26*z14)=0)→(¬ ((z1*(z15*z29-z28*z16)-z2*(z14*z29-z27*z16)+z3*(z14*z28-z27*z15)=0∧z2*(z13*z29-z26*z16)-z0*(z15*z29-z28*z16)+z3*(z15*z26-z28*z13)=0)∧z0*(z14*z29-z27*z16)-z1*(z13*z29-z26*z16)+z3*(z13*z27-z26*z14)=0))→(¬ (z13*z27-z26*z14=0))→(¬ (z13*(z27*z3-z1*z29)-z14*(z26*z3-z0*z29)+z16*(z26*z1-z0*z27)=0)) := by
 intro h0 h1 h2 hg
 grind
theorem eM_pk141 {z0 z1 z2 z3 z13 z14 z15 z16 z26 z27 z28 z29 : Rat} : (z0*(z14*z28-z27*z15)-z1*(z13*z28-z26*z15)+z2*(z13*z27-z26*z14)=0)→(¬ ((z1*(z15*z29-z28*z16)-z2*(z14*z29-z27*z16)+z3*(z14*z28-z27*z15)=0∧z2*(z13*z29-z26*z16)-z0*(z15*z29-z28*z16)+z3*(z15*z26-z28*z13)=0)∧z0*(z14*z29-z27*z16)-z1*(z13*z29-z26*z16)+z3*(z13*z27-z26*z14)=0))→(¬ (z26=0))→(z26*z14-z13*z27=0)→(z26*z1-z0*z27=0)→(z26*z15-z13*z28=0)→(¬ (z26*z2-z0*z28=0)) := by
 intro h0 h1 h2 h3 h4 h5 hg
 grind
theorem eM_pk142 {z0 z1 z2 z13 z14 z15 z26 z27 z28 : Rat} : (¬ ((z13=0∧z14=0)∧z15=0))→(z0*(z14*z28-z27*z15)-z1*(z13*z28-z26*z15)+z2*(z13*z27-z26*z14)=0)→(z13=0)→(z26=0)→(z0*z14-z13*z1=0)→(z0*z27-z26*z1=0) := by
 intro h0 h1 h2 h3 h4
 grind
theorem eM_pk143 {z0 z1 z2 z13 z14 z15 z26 z27 z28 : Rat} : (¬ ((z13=0∧z14=0)∧z15=0))→(z0*(z14*z28-z27*z15)-z1*(z13*z28-z26*z15)+z2*(z13*z27-z26*z14)=0)→(¬ (z0=0))→(z13=0)→(z0*z14-z13*z1=0)→(¬ (z0*z15-z13*z2=0)) := by
 intro h0 h1 h2 h3 h4 hg
 grind
theorem eM_pk144 {z0 z1 z2 z13 z14 z15 z26 z27 z28 : Rat} : (¬ ((z26=0∧z27=0)∧z28=0))→(z0*(z14*z28-z27*z15)-z1*(z13*z28-z26*z15)+z2*(z13*z27-z26*z14)=0)→(z13=0)→(z26=0)→(¬ (z0*z15-z13*z2=0))→(¬ (z0*z28-z26*z2=0)) := by
 intro h0 h1 h2 h3 h4 hg
 grind
theorem eM_pk145 {z0 z1 z2 z3 z13 z14 z15 z16 z26 z27 z28 z29 : Rat} : (z0*(z14*z28-z27*z15)-z1*(z13*z28-z26*z15)+z2*(z13*z27-z26*z14)=0)→(¬ ((z1*(z15*z29-z28*z16)-z2*(z14*z29-z27*z16)+z3*(z14*z28-z27*z15)=0∧z2*(z13*z29-z26*z16)-z0*(z15*z29-z28*z16)+z3*(z15*z26-z28*z13)=0)∧z0*(z14*z29-z27*z16)-z1*(z13*z29-z26*z16)+z3*(z13*z27-z26*z14)=0))→(¬ (z0*z28-z26*z2=0))→(¬ (z0*(z28*z16-z15*z29)-z2*(z26*z16-z13*z29)+z3*(z26*z15-z13*z28)=0)) := by
 intro h0 h1 h2 hg
 grind
theorem eM_pk146 {z0 z1 z2 z13 z14 z15 z26 z27 z28 : Rat} : (¬ ((z26=0∧z27=0)∧z28=0))→(z0*(z14*z28-z27*z15)-z1*(z13*z28-z26*z15)+z2*(z13*z27-z26*z14)=0)→(z13=0)→(z26=0)→(¬ (z0*z14-z13*z1=0))→(¬ (z0*z27-z26*z1=0)) := by
 intro h0 h1 h2 h3 h4 hg
 grind
theorem eM_pk147 {z0 z1 z2 z3 z13 z14 z15 z16 z26 z27 z28 z29 : Rat} : (z0*(z14*z28-z27*z15)-z1*(z13*z28-z26*z15)+z2*(z13*z27-z26*z14)=0)→(¬ ((z1*(z15*z29-z28*z16)-z2*(z14*z29-z27*z16)+z3*(z14*z28-z27*z15)=0∧z2*(z13*z29-z26*z16)-z0*(z15*z29-z28*z16)+z3*(z15*z26-z28*z13)=0)∧z0*(z14*z29-z27*z16)-z1*(z13*z29-z26*z16)+z3*(z13*z27-z26*z14)=0))→(¬ (z0*z27-z26*z1=0))→(¬ (z0*(z27*z16-z14*z29)-z1*(z26*z16-z13*z29)+z3*(z26*z14-z13*z27)=0)) := by
 intro h0 h1 h2 hg
 grind
theorem eM_pk148 {z0 z1 z2 z3 z13 z14 z15 z16 z26 z27 z28 z29 : Rat} : (z0*(z14*z28-z27*z15)-z1*(z13*z28-z26*z15)+z2*(z13*z27-z26*z14)=0)→(¬ ((z1*(z15*z29-z28*z16)-z2*(z14*z29-z27*z16)+z3*(z14*z28-z27*z15)=0∧z2*(z13*z29-z26*z16)-z0*(z15*z29-z28*z16)+z3*(z15*z26-z28*z13)=0)∧z0*(z14*z29-z27*z16)-z1*(z13*z29-z26*z16)+z3*(z13*z27-z26*z14)=0))→(¬ (z26*z15-z13*z28=0))→(¬ (z26*(z15*z3-z2*z16)-z28*(z13*z3-z0*z16)+z29*(z13*z2-z0*z15)=0)) := by
 intro h0 h1 h2 hg
 grind
theorem eM_pk149 {z0 z1 z2 z3 z13 z14 z15 z16 z26 z27 z28 z29 : Rat} : (z0*(z14*z28-z27*z15)-z1*(z13*z28-z26*z15)+z2*(z13*z27-z26*z14)=0)→(¬ ((z1*(z15*z29-z28*z16)-z2*(z14*z29-z27*z16)+z3*(z14*z28-z27*z15)=0∧z2*(z13*z29-z26*z16)-z0*(z15*z29-z28*z16)+z3*(z15*z26-z28*z13)=0)∧z0*(z14*z29-z27*z16)-z1*(z13*z29-z26*z16)+z3*(z13*z27-z26*z14)=0))→(¬ (z26*z14-z13*z27=0))→(¬ (z26*(z14*z3-z1*z16)-z27*(z13*z3-z0*z16)+z29*(z13*z1-z0*z14)=0)) := by
 intro h0 h1 h2 hg
 grind
theorem eM_pk150 {z0 z1 z2 z3 z13 z14 z15 z16 z26 z27 z28 z29 : Rat} : (z0*(z14*z28-z27*z15)-z1*(z13*z28-z26*z15)+z2*(z13*z27-z26*z14)=0)→(¬ ((z1*(z15*z29-z28*z16)-z2*(z14*z29-z27*z16)+z3*(z14*z28-z27*z15)=0∧z2*(z13*z29-z26*z16)-z0*(z15*z29-z28*z16)+z3*(z15*z26-z28*z13)=0)∧z0*(z14*z29-z27*z16)-z1*(z13*z29-z26*z16)+z3*(z13*z27-z26*z14)=0))→(¬ (z13=0))→(z13*z1-z0*z14=0)→(z13*z27-z26*z14=0)→(z13*z2-z0*z15=0)→(¬ (z13*z28-z26*z15=0)) := by
 intro h0 h1 h2 h3 h4 h5 hg
 grind
theorem eM_pCz {z0 z1 z2 z3 z9 z10 z11 z12 z13 z14 z15 z16 z22 z23 z24 z25 z26 z27 z28 z29 z35 z36 z37 z38 z39 z40 z41 z42 z43 z44 z45 z46 z47 z48 z49 z50 z51 z52 z53 z54 z55 z56 z57 z58 z59 z60 z61 z62 z63 z64 z65 z66 z67 z68 z69 z70 z71 z72 z73 z74 z75 z76 z77 z78 z79 z80 z81 z82 z83 z84 z85 z86 z87 z88 z89 z90 z446 z447 z448 z449 : Rat} : z9=z0*fac [z0,z1,z2,z3]→z10=z1*fac [z0,z1,z2,z3]→z11=z2*fac [z0,z1,z2,z3]→z12=z3*fac [z0,z1,z2,z3]→z22=z13*fac [z13,z14,z15,z16]→z23=z14*fac [z13,z14,z15,z16]→z24=z15*fac [z13,z14,z15,z16]→z25=z16*fac [z13,z14,z15,z16]→z35=z26*fac [z26,z27,z28,z29]→z36=z27*fac [z26,z27,z28,z29]→z37=z28*fac [z26,z27,z28,z29]→z38=z29*fac [z26,z27,z28,z29]→z39=z23*z37→z40=z24*z36→z41=z39-z40→z42=z24*z35→z43=z22*z37→z44=z42-z43→z45=z22*z36→z46=z23*z35→z47=z45-z46→z48=z9*z41→z49=0→z50=z49+z48→z51=z10*z44→z52=z50+z51→z53=z11*z47→z54=z52+z53→z55=z36*z11→z56=z37*z10→z57=z55-z56→z58=z37*z9→z59=z35*z11→z60=z58-z59→z61=z35*z10→z62=z36*z9→z63=z61-z62→z64=z10*z24→z65=z11*z23→z66=z64-z65→z67=z11*z22→z68=z9*z24→z69=z67-z68→z70=z9*z23→z71=z10*z22→z72=z70-z71→z73=z41*z12→z74=z49+z73→z75=z57*z25→z76=z74+z75→z77=z66*z38→z78=z76+z77→z79=z44*z12→z80=z49+z79→z81=z60*z25→z82=z80+z81→z83=z69*z38→z84=z82+z83→z85=z47*z12→z86=z49+z85→z87=z63*z25→z88=z86+z87→z89=z72*z38→z90=z88+z89→z446=-z54→z447=z78/z446→z448=z84/z446→z449=z90/z446→(¬ (z54=0))→((z9*z447+z10*z448+z11*z449+z12=0)∧(z22*z447+z23*z448+z24*z449+z25=0)∧(z35*z447+z36*z448+z37*z449+z38=0)) := by
 intro e9 e10 e11 e12 e22 e23 e24 e25 e35 e36 e37 e38 e39 e40 e41 e42 e43 e44 e45 e46 e47 e48 e49 e50 e51 e52 e53 e54 e55 e56 e57 e58 e59 e60 e61 e62 e63 e64 e65 e66 e67 e68 e69 e70 e71 e72 e73 e74 e75 e76 e77 e78 e79 e80 e81 e82 e83 e84 e85 e86 e87 e88 e89 e90 e446 e447 e448 e449
 intro u
 have hn : z446 ≠ 0 := fun h => u (by have := e446; rw [h] at this; grind)
 obtain ⟨k,hk⟩ : ∃ k,k=(z446)⁻¹ := ⟨_,rfl⟩
 have hD : k*z54=-1 := by
  have := Rat.mul_inv_cancel _ hn
  rw [← hk] at this; rw [e446] at this; grind
 have m0 : z447=z78*k := by rw [e447,Rat.div_def,hk]
 have m1 : z448=z84*k := by rw [e448,Rat.div_def,hk]
 have m2 : z449=z90*k := by rw [e449,Rat.div_def,hk]
 exact sp_cramer (a1 := z9) (b1 := z22) (c1 := z35) (p1 := z447) (a2 := z10) (b2 := z23) (c2 := z36) (p2 := z448) (a3 := z11) (b3 := z24) (c3 := z37) (p3 := z449) (da := z12) (db := z25) (dc := z38) (D := z54) (k := k) (by clear m0 m1 m2 hD hk hn u e447 e448 e449 e9 e10 e11 e12 e22 e23 e24 e25 e35 e36 e37 e38 e446; subst_vars; grind) hD (by rw [m0]; congr 1; clear m0 m1 m2 hD hk hn u e447 e448 e449 e9 e10 e11 e12 e22 e23 e24 e25 e35 e36 e37 e38 e446; subst_vars; grind) (by rw [m1]; congr 1; clear m0 m1 m2 hD hk hn u e447 e448 e449 e9 e10 e11 e12 e22 e23 e24 e25 e35 e36 e37 e38 e446; subst_vars; grind) (by rw [m2]; congr 1; clear m0 m1 m2 hD hk hn u e447 e448 e449 e9 e10 e11 e12 e22 e23 e24 e25 e35 e36 e37 e38 e446; subst_vars; grind)
theorem eM_pC (H : eM_Q q σ) : (¬ (q 54=0))→((q 9*q 447+q 10*q 448+q 11*q 449+q 12=0)∧(q 22*q 447+q 23*q 448+q 24*q 449+q 25=0)∧(q 35*q 447+q 36*q 448+q 37*q 449+q 38=0)) := by
 have e9:q 9=q 0*fac [q 0,q 1,q 2,q 3]:=H 9 _ rfl;have e10:q 10=q 1*fac [q 0,q 1,q 2,q 3]:=H 10 _ rfl;have e11:q 11=q 2*fac [q 0,q 1,q 2,q 3]:=H 11 _ rfl;have e12:q 12=q 3*fac [q 0,q 1,q 2,q 3]:=H 12 _ rfl;have e22:q 22=q 13*fac [q 13,q 14,q 15,q 16]:=H 22 _ rfl;have e23:q 23=q 14*fac [q 13,q 14,q 15,q 16]:=H 23 _ rfl;have e24:q 24=q 15*fac [q 13,q 14,q 15,q 16]:=H 24 _ rfl;have e25:q 25=q 16*fac [q 13,q 14,q 15,q 16]:=H 25 _ rfl;have e35:q 35=q 26*fac [q 26,q 27,q 28,q 29]:=H 35 _ rfl;have e36:q 36=q 27*fac [q 26,q 27,q 28,q 29]:=H 36 _ rfl;have e37:q 37=q 28*fac [q 26,q 27,q 28,q 29]:=H 37 _ rfl;have e38:q 38=q 29*fac [q 26,q 27,q 28,q 29]:=H 38 _ rfl;have e39:q 39=q 23*q 37:=H 39 _ rfl;have e40:q 40=q 24*q 36:=H 40 _ rfl;have e41:q 41=q 39-q 40:=H 41 _ rfl;have e42:q 42=q 24*q 35:=H 42 _ rfl;have e43:q 43=q 22*q 37:=H 43 _ rfl;have e44:q 44=q 42-q 43:=H 44 _ rfl;have e45:q 45=q 22*q 36:=H 45 _ rfl;have e46:q 46=q 23*q 35:=H 46 _ rfl;have e47:q 47=q 45-q 46:=H 47 _ rfl;have e48:q 48=q 9*q 41:=H 48 _ rfl;have e49:q 49=0:=(H 49 _ rfl).trans eM_c49;have e50:q 50=q 49+q 48:=H 50 _ rfl;have e51:q 51=q 10*q 44:=H 51 _ rfl;have e52:q 52=q 50+q 51:=H 52 _ rfl;have e53:q 53=q 11*q 47:=H 53 _ rfl;have e54:q 54=q 52+q 53:=H 54 _ rfl;have e55:q 55=q 36*q 11:=H 55 _ rfl;have e56:q 56=q 37*q 10:=H 56 _ rfl;have e57:q 57=q 55-q 56:=H 57 _ rfl;have e58:q 58=q 37*q 9:=H 58 _ rfl;have e59:q 59=q 35*q 11:=H 59 _ rfl;have e60:q 60=q 58-q 59:=H 60 _ rfl;have e61:q 61=q 35*q 10:=H 61 _ rfl;have e62:q 62=q 36*q 9:=H 62 _ rfl;have e63:q 63=q 61-q 62:=H 63 _ rfl;have e64:q 64=q 10*q 24:=H 64 _ rfl;have e65:q 65=q 11*q 23:=H 65 _ rfl;have e66:q 66=q 64-q 65:=H 66 _ rfl;have e67:q 67=q 11*q 22:=H 67 _ rfl;have e68:q 68=q 9*q 24:=H 68 _ rfl;have e69:q 69=q 67-q 68:=H 69 _ rfl;have e70:q 70=q 9*q 23:=H 70 _ rfl;have e71:q 71=q 10*q 22:=H 71 _ rfl;have e72:q 72=q 70-q 71:=H 72 _ rfl;have e73:q 73=q 41*q 12:=H 73 _ rfl;have e74:q 74=q 49+q 73:=H 74 _ rfl;have e75:q 75=q 57*q 25:=H 75 _ rfl;have e76:q 76=q 74+q 75:=H 76 _ rfl;have e77:q 77=q 66*q 38:=H 77 _ rfl;have e78:q 78=q 76+q 77:=H 78 _ rfl;have e79:q 79=q 44*q 12:=H 79 _ rfl;have e80:q 80=q 49+q 79:=H 80 _ rfl;have e81:q 81=q 60*q 25:=H 81 _ rfl;have e82:q 82=q 80+q 81:=H 82 _ rfl;have e83:q 83=q 69*q 38:=H 83 _ rfl;have e84:q 84=q 82+q 83:=H 84 _ rfl;have e85:q 85=q 47*q 12:=H 85 _ rfl;have e86:q 86=q 49+q 85:=H 86 _ rfl;have e87:q 87=q 63*q 25:=H 87 _ rfl;have e88:q 88=q 86+q 87:=H 88 _ rfl;have e89:q 89=q 72*q 38:=H 89 _ rfl;have e90:q 90=q 88+q 89:=H 90 _ rfl;have e446:q 446=-q 54:=H 446 _ rfl;have e447:q 447=q 78/q 446:=H 447 _ rfl;have e448:q 448=q 84/q 446:=H 448 _ rfl;have e449:q 449=q 90/q 446:=H 449 _ rfl
 exact eM_pCz e9 e10 e11 e12 e22 e23 e24 e25 e35 e36 e37 e38 e39 e40 e41 e42 e43 e44 e45 e46 e47 e48 e49 e50 e51 e52 e53 e54 e55 e56 e57 e58 e59 e60 e61 e62 e63 e64 e65 e66 e67 e68 e69 e70 e71 e72 e73 e74 e75 e76 e77 e78 e79 e80 e81 e82 e83 e84 e85 e86 e87 e88 e89 e90 e446 e447 e448 e449
theorem eM_pR0 (H : eM_Q q σ) : (¬ (q 8=0))→(q 9*q 447+q 10*q 448+q 11*q 449+q 12=0)→(q 455=0) := by
 have e4:q 4=q 0*q 0:=H 4 _ rfl;have e5:q 5=q 1*q 1:=H 5 _ rfl;have e6:q 6=q 4+q 5:=H 6 _ rfl;have e7:q 7=q 2*q 2:=H 7 _ rfl;have e8:q 8=q 6+q 7:=H 8 _ rfl;have e9:q 9=q 0*fac [q 0,q 1,q 2,q 3]:=H 9 _ rfl;have e10:q 10=q 1*fac [q 0,q 1,q 2,q 3]:=H 10 _ rfl;have e11:q 11=q 2*fac [q 0,q 1,q 2,q 3]:=H 11 _ rfl;have e12:q 12=q 3*fac [q 0,q 1,q 2,q 3]:=H 12 _ rfl;have e450:q 450=q 0*q 447:=H 450 _ rfl;have e451:q 451=q 1*q 448:=H 451 _ rfl;have e452:q 452=q 2*q 449:=H 452 _ rfl;have e453:q 453=q 450+q 451:=H 453 _ rfl;have e454:q 454=q 453+q 452:=H 454 _ rfl;have e455:q 455=q 454+q 3:=H 455 _ rfl
 clear H
 intro h p
 have n0 : ¬ ((q 0=0∧q 1=0)∧q 2=0) := fun x => h ((sp_sq3 e4 e5 e6 e7 e8).2 x)
 have k0 : fac [q 0,q 1,q 2,q 3] ≠ 0 := fun x => n0 ⟨⟨fac_zero (by simp) x,fac_zero (by simp) x⟩,fac_zero (by simp) x⟩
 generalize fac [q 0,q 1,q 2,q 3]=f at *
 have p : q 455*f=0 := by
  rw [e9,e10,e11,e12] at p; clear h n0 k0 e4 e5 e6 e7 e8 e9 e10 e11 e12; subst_vars; grind
 exact (Rat.mul_eq_zero.1 p).resolve_right k0
theorem eM_pR1 (H : eM_Q q σ) : (¬ (q 21=0))→(q 22*q 447+q 23*q 448+q 24*q 449+q 25=0)→(q 461=0) := by
 have e17:q 17=q 13*q 13:=H 17 _ rfl;have e18:q 18=q 14*q 14:=H 18 _ rfl;have e19:q 19=q 17+q 18:=H 19 _ rfl;have e20:q 20=q 15*q 15:=H 20 _ rfl;have e21:q 21=q 19+q 20:=H 21 _ rfl;have e22:q 22=q 13*fac [q 13,q 14,q 15,q 16]:=H 22 _ rfl;have e23:q 23=q 14*fac [q 13,q 14,q 15,q 16]:=H 23 _ rfl;have e24:q 24=q 15*fac [q 13,q 14,q 15,q 16]:=H 24 _ rfl;have e25:q 25=q 16*fac [q 13,q 14,q 15,q 16]:=H 25 _ rfl;have e456:q 456=q 13*q 447:=H 456 _ rfl;have e457:q 457=q 14*q 448:=H 457 _ rfl;have e458:q 458=q 15*q 449:=H 458 _ rfl;have e459:q 459=q 456+q 457:=H 459 _ rfl;have e460:q 460=q 459+q 458:=H 460 _ rfl;have e461:q 461=q 460+q 16:=H 461 _ rfl
 clear H
 intro h p
 have n1 : ¬ ((q 13=0∧q 14=0)∧q 15=0) := fun x => h ((sp_sq3 e17 e18 e19 e20 e21).2 x)
 have k1 : fac [q 13,q 14,q 15,q 16] ≠ 0 := fun x => n1 ⟨⟨fac_zero (by simp) x,fac_zero (by simp) x⟩,fac_zero (by simp) x⟩
 generalize fac [q 13,q 14,q 15,q 16]=f at *
 have p : q 461*f=0 := by
  rw [e22,e23,e24,e25] at p; clear h n1 k1 e17 e18 e19 e20 e21 e22 e23 e24 e25; subst_vars; grind
 exact (Rat.mul_eq_zero.1 p).resolve_right k1
theorem eM_pR2 (H : eM_Q q σ) : (¬ (q 34=0))→(q 35*q 447+q 36*q 448+q 37*q 449+q 38=0)→(q 467=0) := by
 have e30:q 30=q 26*q 26:=H 30 _ rfl;have e31:q 31=q 27*q 27:=H 31 _ rfl;have e32:q 32=q 30+q 31:=H 32 _ rfl;have e33:q 33=q 28*q 28:=H 33 _ rfl;have e34:q 34=q 32+q 33:=H 34 _ rfl;have e35:q 35=q 26*fac [q 26,q 27,q 28,q 29]:=H 35 _ rfl;have e36:q 36=q 27*fac [q 26,q 27,q 28,q 29]:=H 36 _ rfl;have e37:q 37=q 28*fac [q 26,q 27,q 28,q 29]:=H 37 _ rfl;have e38:q 38=q 29*fac [q 26,q 27,q 28,q 29]:=H 38 _ rfl;have e462:q 462=q 26*q 447:=H 462 _ rfl;have e463:q 463=q 27*q 448:=H 463 _ rfl;have e464:q 464=q 28*q 449:=H 464 _ rfl;have e465:q 465=q 462+q 463:=H 465 _ rfl;have e466:q 466=q 465+q 464:=H 466 _ rfl;have e467:q 467=q 466+q 29:=H 467 _ rfl
 clear H
 intro h p
 have n2 : ¬ ((q 26=0∧q 27=0)∧q 28=0) := fun x => h ((sp_sq3 e30 e31 e32 e33 e34).2 x)
 have k2 : fac [q 26,q 27,q 28,q 29] ≠ 0 := fun x => n2 ⟨⟨fac_zero (by simp) x,fac_zero (by simp) x⟩,fac_zero (by simp) x⟩
 generalize fac [q 26,q 27,q 28,q 29]=f at *
 have p : q 467*f=0 := by
  rw [e35,e36,e37,e38] at p; clear h n2 k2 e30 e31 e32 e33 e34 e35 e36 e37 e38; subst_vars; grind
 exact (Rat.mul_eq_zero.1 p).resolve_right k2
def eM_cs : List (FuncId × Nat) := [(93,60),(51,61),(36,65)]
def eM_G : Memo := [(18,[pA [8,9,10,11]],rA [26,27,28,29]),(18,[pA [4,5,6,7]],rA [13,14,15,16]),(18,[pA [0,1,2,3]],rA [0,1,2,3]),(14,[rA [0,1,2],rA [13,14,15],rA [26,27,28]],r1 157),(70,[qA [129,130,131],qA [132,133,134]],qA [135,136,137]),(138,[qA [35,36,37],qA [12]],qA [132,133,134]),(138,[qA [9,10,11],qA [38]],qA [129,130,131]),(88,[qA [9,10,11],qA [35,36,37]],qA [117,120,123]),(70,[qA [101,102,103],qA [104,105,106]],qA [107,108,109]),(138,[qA [22,23,24],qA [12]],qA [104,105,106]),(138,[qA [9,10,11],qA [25]],qA [101,102,103]),(97,[qA [41,57,66,44,60,69,47,63,72],qA [12,25,38]],qA [78,84,90]),(96,[qA [9,10,11,22,23,24,35,36,37]],qA [41,57,66,44,60,69,47,63,72]),(88,[qA [9,10,11],qA [22,23,24]],qA [66,69,72]),(95,[qA [9,10,11,22,23,24,35,36,37]],qA [54]),(88,[qA [22,23,24],qA [35,36,37]],qA [41,44,47]),(94,[qA [26,27,28,29]],qA [35,36,37,38]),(94,[qA [13,14,15,16]],qA [22,23,24,25]),(94,[qA [0,1,2,3]],qA [9,10,11,12])]
theorem eM_g0 : memoChk (sx Tryz.prog eM_N [] [] eM_L eM_C eM_Z (prC [9])) eM_cs 6 19 (eM_G.drop 0)=true := by kernel_rfl
theorem eM_memoG {q : Nat→Rat} {σ : Nat→ByteArray} {w : World} (hσ : ∀ j,(σ j).size≤1048576) (hq : ∀ (a : Nat) nd,eM_N[a]? = some nd→q a=valN σ q nd) (h0 : ∀ a,eM_N.length≤a→q a=0) (hp : PreS w) : MemoAll eM_N eM_L eM_C eM_Z q σ [9] w eM_G := by
 have Y : Hy eM_N [] eM_L eM_C eM_Z q σ := hy_ofA hσ eM_wf eM_sz eM_lt eM_cn hq h0 trivial
 have hc : ∀ f ∈ ([9] : List FuncId),Closed f := by simp [closed_spaced]
 have hm : (Tryz.prog).follows .mixedOrders=true := by kernel_rfl
 exact (memoAll_chk (M := eM_G.drop 0) Y hc hm hp 19 eM_g0 memoAll_nil)
def eM_H0 : List (Nat × Nat × Nat × Nat) := [(0,8,0,1)]
def eM_H1 : List (Nat × Nat × Nat × Nat) := [(0,8,0,0),(0,21,0,1)]
def eM_H2 : List (Nat × Nat × Nat × Nat) := [(0,8,0,0),(0,21,0,0),(0,34,0,1)]
def eM_H3 : List (Nat × Nat × Nat × Nat) := [(0,8,0,0),(0,21,0,0),(0,34,0,0),(0,54,0,1),(0,95,0,1),(0,100,0,1),(0,114,0,1),(0,128,0,1),(0,142,0,1),(0,157,0,1),(0,0,0,1),(0,13,0,1),(0,26,0,1),(0,1,0,1),(0,14,0,1),(0,27,0,1),(0,2,0,0),(0,15,0,0),(0,28,0,0),(0,173,0,1),(0,175,0,1)]
def eM_H4 : List (Nat × Nat × Nat × Nat) := [(0,8,0,0),(0,21,0,0),(0,34,0,0),(0,54,0,1),(0,95,0,1),(0,100,0,1),(0,114,0,1),(0,128,0,1),(0,142,0,1),(0,157,0,1),(0,0,0,1),(0,13,0,1),(0,26,0,1),(0,1,0,0),(0,14,0,0),(0,27,0,0),(0,182,0,1),(0,189,0,1),(0,191,0,1),(0,193,0,1)]
def eM_H5 : List (Nat × Nat × Nat × Nat) := [(0,8,0,0),(0,21,0,0),(0,34,0,0),(0,54,0,1),(0,95,0,1),(0,100,0,1),(0,114,0,1),(0,128,0,1),(0,142,0,1),(0,157,0,1),(0,0,0,0),(0,13,0,0),(0,26,0,0),(0,198,0,1),(0,205,0,1),(0,200,0,1),(0,207,0,1),(0,209,0,1),(0,211,0,1)]
def eM_H6 : List (Nat × Nat × Nat × Nat) := [(0,8,0,0),(0,21,0,0),(0,34,0,0),(0,54,0,1),(0,95,0,1),(0,100,0,1),(0,114,0,1),(0,128,0,1),(0,142,0,0),(0,157,0,1),(0,0,0,1),(0,13,0,1),(0,26,0,1),(0,1,0,1),(0,14,0,1),(0,27,0,1),(0,2,0,0),(0,15,0,0),(0,28,0,0),(0,173,0,0),(0,175,0,0)]
def eM_H7 : List (Nat × Nat × Nat × Nat) := [(0,8,0,0),(0,21,0,0),(0,34,0,0),(0,54,0,1),(0,95,0,1),(0,100,0,1),(0,114,0,1),(0,128,0,1),(0,142,0,0),(0,157,0,1),(0,0,0,1),(0,13,0,1),(0,26,0,1),(0,1,0,0),(0,14,0,0),(0,27,0,0),(0,182,0,1),(0,189,0,1),(0,191,0,0),(0,193,0,0)]
def eM_H8 : List (Nat × Nat × Nat × Nat) := [(0,8,0,0),(0,21,0,0),(0,34,0,0),(0,54,0,1),(0,95,0,1),(0,100,0,1),(0,114,0,1),(0,128,0,1),(0,142,0,0),(0,157,0,1),(0,0,0,0),(0,13,0,0),(0,26,0,0),(0,198,0,1),(0,205,0,1),(0,200,0,1),(0,207,0,1),(0,209,0,0),(0,211,0,0)]
def eM_H9 : List (Nat × Nat × Nat × Nat) := [(0,8,0,0),(0,21,0,0),(0,34,0,0),(0,54,0,1),(0,95,0,1),(0,100,0,1),(0,114,0,1),(0,128,0,0),(0,157,0,1),(0,0,0,1),(0,13,0,1),(0,26,0,1),(0,1,0,1),(0,14,0,1),(0,27,0,0),(0,182,0,0),(0,189,0,0),(0,247,0,1)]
def eM_H10 : List (Nat × Nat × Nat × Nat) := [(0,8,0,0),(0,21,0,0),(0,34,0,0),(0,54,0,1),(0,95,0,1),(0,100,0,1),(0,114,0,1),(0,128,0,0),(0,157,0,1),(0,0,0,1),(0,13,0,1),(0,26,0,1),(0,1,0,0),(0,14,0,0),(0,27,0,1),(0,254,0,1),(0,261,0,0),(0,274,0,1)]
def eM_H11 : List (Nat × Nat × Nat × Nat) := [(0,8,0,0),(0,21,0,0),(0,34,0,0),(0,54,0,1),(0,95,0,1),(0,100,0,1),(0,114,0,1),(0,128,0,0),(0,157,0,1),(0,0,0,1),(0,13,0,1),(0,26,0,1),(0,1,0,0),(0,14,0,0),(0,27,0,0),(0,182,0,0),(0,189,0,0),(0,247,0,1)]
def eM_H12 : List (Nat × Nat × Nat × Nat) := [(0,8,0,0),(0,21,0,0),(0,34,0,0),(0,54,0,1),(0,95,0,1),(0,100,0,1),(0,114,0,1),(0,128,0,0),(0,157,0,1),(0,0,0,1),(0,13,0,1),(0,26,0,0),(0,198,0,1),(0,205,0,1),(0,200,0,0),(0,207,0,0),(0,283,0,1)]
def eM_H13 : List (Nat × Nat × Nat × Nat) := [(0,8,0,0),(0,21,0,0),(0,34,0,0),(0,54,0,1),(0,95,0,1),(0,100,0,1),(0,114,0,1),(0,128,0,0),(0,157,0,1),(0,0,0,1),(0,13,0,1),(0,26,0,0),(0,198,0,0),(0,205,0,0),(0,290,0,1),(0,292,0,1)]
def eM_H14 : List (Nat × Nat × Nat × Nat) := [(0,8,0,0),(0,21,0,0),(0,34,0,0),(0,54,0,1),(0,95,0,1),(0,100,0,1),(0,114,0,1),(0,128,0,0),(0,157,0,1),(0,0,0,0),(0,13,0,0),(0,26,0,1),(0,297,0,1),(0,304,0,1),(0,299,0,1),(0,306,0,0),(0,319,0,1)]
def eM_H15 : List (Nat × Nat × Nat × Nat) := [(0,8,0,0),(0,21,0,0),(0,34,0,0),(0,54,0,1),(0,95,0,1),(0,100,0,1),(0,114,0,1),(0,128,0,0),(0,157,0,1),(0,0,0,0),(0,13,0,0),(0,26,0,1),(0,297,0,1),(0,304,0,0),(0,326,0,1),(0,328,0,1)]
def eM_H16 : List (Nat × Nat × Nat × Nat) := [(0,8,0,0),(0,21,0,0),(0,34,0,0),(0,54,0,1),(0,95,0,1),(0,100,0,1),(0,114,0,1),(0,128,0,0),(0,157,0,1),(0,0,0,0),(0,13,0,0),(0,26,0,0),(0,198,0,1),(0,205,0,1),(0,200,0,0),(0,207,0,0),(0,283,0,1)]
def eM_H17 : List (Nat × Nat × Nat × Nat) := [(0,8,0,0),(0,21,0,0),(0,34,0,0),(0,54,0,1),(0,95,0,1),(0,100,0,1),(0,114,0,1),(0,128,0,0),(0,157,0,1),(0,0,0,0),(0,13,0,0),(0,26,0,0),(0,198,0,0),(0,205,0,0),(0,290,0,1),(0,292,0,1)]
def eM_H18 : List (Nat × Nat × Nat × Nat) := [(0,8,0,0),(0,21,0,0),(0,34,0,0),(0,54,0,1),(0,95,0,1),(0,100,0,1),(0,114,0,0),(0,157,0,1),(0,0,0,1),(0,13,0,1),(0,26,0,1),(0,1,0,1),(0,14,0,1),(0,27,0,1),(0,2,0,0),(0,15,0,0),(0,28,0,0),(0,173,0,1),(0,175,0,0)]
def eM_H19 : List (Nat × Nat × Nat × Nat) := [(0,8,0,0),(0,21,0,0),(0,34,0,0),(0,54,0,1),(0,95,0,1),(0,100,0,1),(0,114,0,0),(0,157,0,1),(0,0,0,1),(0,13,0,1),(0,26,0,1),(0,1,0,1),(0,14,0,1),(0,27,0,1),(0,2,0,0),(0,15,0,0),(0,28,0,0),(0,173,0,0),(0,175,0,1)]
def eM_H20 : List (Nat × Nat × Nat × Nat) := [(0,8,0,0),(0,21,0,0),(0,34,0,0),(0,54,0,1),(0,95,0,1),(0,100,0,1),(0,114,0,0),(0,157,0,1),(0,0,0,1),(0,13,0,1),(0,26,0,1),(0,1,0,1),(0,14,0,1),(0,27,0,1),(0,2,0,0),(0,15,0,0),(0,28,0,0),(0,173,0,0),(0,175,0,0)]
def eM_H21 : List (Nat × Nat × Nat × Nat) := [(0,8,0,0),(0,21,0,0),(0,34,0,0),(0,54,0,1),(0,95,0,1),(0,100,0,1),(0,114,0,0),(0,157,0,1),(0,0,0,1),(0,13,0,1),(0,26,0,1),(0,1,0,0),(0,14,0,0),(0,27,0,0),(0,182,0,1),(0,189,0,1),(0,191,0,1),(0,193,0,0)]
def eM_H22 : List (Nat × Nat × Nat × Nat) := [(0,8,0,0),(0,21,0,0),(0,34,0,0),(0,54,0,1),(0,95,0,1),(0,100,0,1),(0,114,0,0),(0,157,0,1),(0,0,0,1),(0,13,0,1),(0,26,0,1),(0,1,0,0),(0,14,0,0),(0,27,0,0),(0,182,0,1),(0,189,0,1),(0,191,0,0),(0,193,0,1)]
def eM_H23 : List (Nat × Nat × Nat × Nat) := [(0,8,0,0),(0,21,0,0),(0,34,0,0),(0,54,0,1),(0,95,0,1),(0,100,0,1),(0,114,0,0),(0,157,0,1),(0,0,0,1),(0,13,0,1),(0,26,0,1),(0,1,0,0),(0,14,0,0),(0,27,0,0),(0,182,0,1),(0,189,0,1),(0,191,0,0),(0,193,0,0)]
def eM_H24 : List (Nat × Nat × Nat × Nat) := [(0,8,0,0),(0,21,0,0),(0,34,0,0),(0,54,0,1),(0,95,0,1),(0,100,0,1),(0,114,0,0),(0,157,0,1),(0,0,0,0),(0,13,0,0),(0,26,0,0),(0,198,0,1),(0,205,0,1),(0,200,0,1),(0,207,0,1),(0,209,0,1),(0,211,0,0)]
def eM_H25 : List (Nat × Nat × Nat × Nat) := [(0,8,0,0),(0,21,0,0),(0,34,0,0),(0,54,0,1),(0,95,0,1),(0,100,0,1),(0,114,0,0),(0,157,0,1),(0,0,0,0),(0,13,0,0),(0,26,0,0),(0,198,0,1),(0,205,0,1),(0,200,0,1),(0,207,0,1),(0,209,0,0),(0,211,0,1)]
def eM_H26 : List (Nat × Nat × Nat × Nat) := [(0,8,0,0),(0,21,0,0),(0,34,0,0),(0,54,0,1),(0,95,0,1),(0,100,0,1),(0,114,0,0),(0,157,0,1),(0,0,0,0),(0,13,0,0),(0,26,0,0),(0,198,0,1),(0,205,0,1),(0,200,0,1),(0,207,0,1),(0,209,0,0),(0,211,0,0)]
def eM_H27 : List (Nat × Nat × Nat × Nat) := [(0,8,0,0),(0,21,0,0),(0,34,0,0),(0,54,0,1),(0,95,0,1),(0,100,0,0),(0,128,0,1),(0,142,0,1),(0,157,0,1),(0,0,0,1),(0,13,0,1),(0,26,0,1),(0,1,0,1),(0,14,0,0),(0,27,0,1),(0,254,0,0),(0,261,0,0),(0,274,0,1)]
def eM_H28 : List (Nat × Nat × Nat × Nat) := [(0,8,0,0),(0,21,0,0),(0,34,0,0),(0,54,0,1),(0,95,0,1),(0,100,0,0),(0,128,0,1),(0,142,0,1),(0,157,0,1),(0,0,0,1),(0,13,0,1),(0,26,0,1),(0,1,0,0),(0,14,0,1),(0,27,0,0),(0,182,0,0),(0,189,0,1),(0,364,0,1)]
def eM_H29 : List (Nat × Nat × Nat × Nat) := [(0,8,0,0),(0,21,0,0),(0,34,0,0),(0,54,0,1),(0,95,0,1),(0,100,0,0),(0,128,0,1),(0,142,0,1),(0,157,0,1),(0,0,0,1),(0,13,0,1),(0,26,0,1),(0,1,0,0),(0,14,0,0),(0,27,0,0),(0,182,0,0),(0,189,0,1),(0,364,0,1)]
def eM_H30 : List (Nat × Nat × Nat × Nat) := [(0,8,0,0),(0,21,0,0),(0,34,0,0),(0,54,0,1),(0,95,0,1),(0,100,0,0),(0,128,0,1),(0,142,0,1),(0,157,0,1),(0,0,0,1),(0,13,0,0),(0,26,0,1),(0,297,0,1),(0,304,0,1),(0,299,0,0),(0,306,0,0),(0,319,0,1)]
def eM_H31 : List (Nat × Nat × Nat × Nat) := [(0,8,0,0),(0,21,0,0),(0,34,0,0),(0,54,0,1),(0,95,0,1),(0,100,0,0),(0,128,0,1),(0,142,0,1),(0,157,0,1),(0,0,0,1),(0,13,0,0),(0,26,0,1),(0,297,0,0),(0,304,0,0),(0,326,0,1),(0,328,0,1)]
def eM_H32 : List (Nat × Nat × Nat × Nat) := [(0,8,0,0),(0,21,0,0),(0,34,0,0),(0,54,0,1),(0,95,0,1),(0,100,0,0),(0,128,0,1),(0,142,0,1),(0,157,0,1),(0,0,0,0),(0,13,0,1),(0,26,0,0),(0,198,0,1),(0,205,0,1),(0,200,0,0),(0,207,0,1),(0,373,0,1)]
def eM_H33 : List (Nat × Nat × Nat × Nat) := [(0,8,0,0),(0,21,0,0),(0,34,0,0),(0,54,0,1),(0,95,0,1),(0,100,0,0),(0,128,0,1),(0,142,0,1),(0,157,0,1),(0,0,0,0),(0,13,0,1),(0,26,0,0),(0,198,0,0),(0,205,0,1),(0,380,0,1),(0,382,0,1)]
def eM_H34 : List (Nat × Nat × Nat × Nat) := [(0,8,0,0),(0,21,0,0),(0,34,0,0),(0,54,0,1),(0,95,0,1),(0,100,0,0),(0,128,0,1),(0,142,0,1),(0,157,0,1),(0,0,0,0),(0,13,0,0),(0,26,0,0),(0,198,0,1),(0,205,0,1),(0,200,0,0),(0,207,0,1),(0,373,0,1)]
def eM_H35 : List (Nat × Nat × Nat × Nat) := [(0,8,0,0),(0,21,0,0),(0,34,0,0),(0,54,0,1),(0,95,0,1),(0,100,0,0),(0,128,0,1),(0,142,0,1),(0,157,0,1),(0,0,0,0),(0,13,0,0),(0,26,0,0),(0,198,0,0),(0,205,0,1),(0,380,0,1),(0,382,0,1)]
def eM_H36 : List (Nat × Nat × Nat × Nat) := [(0,8,0,0),(0,21,0,0),(0,34,0,0),(0,54,0,1),(0,95,0,1),(0,100,0,0),(0,128,0,0),(0,157,0,1),(0,0,0,1),(0,13,0,1),(0,26,0,1),(0,1,0,1),(0,14,0,0),(0,27,0,0),(0,182,0,1),(0,189,0,0),(0,247,0,1)]
def eM_H37 : List (Nat × Nat × Nat × Nat) := [(0,8,0,0),(0,21,0,0),(0,34,0,0),(0,54,0,1),(0,95,0,1),(0,100,0,0),(0,128,0,0),(0,157,0,1),(0,0,0,1),(0,13,0,1),(0,26,0,1),(0,1,0,1),(0,14,0,0),(0,27,0,0),(0,182,0,0),(0,189,0,0),(0,247,0,1)]
def eM_H38 : List (Nat × Nat × Nat × Nat) := [(0,8,0,0),(0,21,0,0),(0,34,0,0),(0,54,0,1),(0,95,0,1),(0,100,0,0),(0,128,0,0),(0,157,0,1),(0,0,0,1),(0,13,0,1),(0,26,0,1),(0,1,0,0),(0,14,0,1),(0,27,0,1),(0,389,0,0),(0,396,0,0),(0,409,0,1)]
def eM_H39 : List (Nat × Nat × Nat × Nat) := [(0,8,0,0),(0,21,0,0),(0,34,0,0),(0,54,0,1),(0,95,0,1),(0,100,0,0),(0,128,0,0),(0,157,0,1),(0,0,0,1),(0,13,0,1),(0,26,0,1),(0,1,0,0),(0,14,0,1),(0,27,0,0),(0,182,0,0),(0,189,0,0),(0,247,0,1)]
def eM_H40 : List (Nat × Nat × Nat × Nat) := [(0,8,0,0),(0,21,0,0),(0,34,0,0),(0,54,0,1),(0,95,0,1),(0,100,0,0),(0,128,0,0),(0,157,0,1),(0,0,0,1),(0,13,0,1),(0,26,0,1),(0,1,0,0),(0,14,0,0),(0,27,0,1),(0,254,0,0),(0,261,0,0),(0,274,0,1)]
def eM_H41 : List (Nat × Nat × Nat × Nat) := [(0,8,0,0),(0,21,0,0),(0,34,0,0),(0,54,0,1),(0,95,0,1),(0,100,0,0),(0,128,0,0),(0,157,0,1),(0,0,0,1),(0,13,0,1),(0,26,0,1),(0,1,0,0),(0,14,0,0),(0,27,0,0),(0,182,0,1),(0,189,0,0),(0,247,0,1)]
def eM_H42 : List (Nat × Nat × Nat × Nat) := [(0,8,0,0),(0,21,0,0),(0,34,0,0),(0,54,0,1),(0,95,0,1),(0,100,0,0),(0,128,0,0),(0,157,0,1),(0,0,0,1),(0,13,0,1),(0,26,0,1),(0,1,0,0),(0,14,0,0),(0,27,0,0),(0,182,0,0),(0,189,0,0),(0,247,0,1)]
def eM_H43 : List (Nat × Nat × Nat × Nat) := [(0,8,0,0),(0,21,0,0),(0,34,0,0),(0,54,0,1),(0,95,0,1),(0,100,0,0),(0,128,0,0),(0,157,0,1),(0,0,0,1),(0,13,0,0),(0,26,0,0),(0,198,0,1),(0,205,0,1),(0,200,0,1),(0,207,0,0),(0,283,0,1)]
def eM_H44 : List (Nat × Nat × Nat × Nat) := [(0,8,0,0),(0,21,0,0),(0,34,0,0),(0,54,0,1),(0,95,0,1),(0,100,0,0),(0,128,0,0),(0,157,0,1),(0,0,0,1),(0,13,0,0),(0,26,0,0),(0,198,0,1),(0,205,0,1),(0,200,0,0),(0,207,0,0),(0,283,0,1)]
def eM_H45 : List (Nat × Nat × Nat × Nat) := [(0,8,0,0),(0,21,0,0),(0,34,0,0),(0,54,0,1),(0,95,0,1),(0,100,0,0),(0,128,0,0),(0,157,0,1),(0,0,0,1),(0,13,0,0),(0,26,0,0),(0,198,0,1),(0,205,0,0),(0,290,0,1),(0,292,0,1)]
def eM_H46 : List (Nat × Nat × Nat × Nat) := [(0,8,0,0),(0,21,0,0),(0,34,0,0),(0,54,0,1),(0,95,0,1),(0,100,0,0),(0,128,0,0),(0,157,0,1),(0,0,0,1),(0,13,0,0),(0,26,0,0),(0,198,0,0),(0,205,0,0),(0,290,0,1),(0,292,0,1)]
def eM_H47 : List (Nat × Nat × Nat × Nat) := [(0,8,0,0),(0,21,0,0),(0,34,0,0),(0,54,0,1),(0,95,0,1),(0,100,0,0),(0,128,0,0),(0,157,0,1),(0,0,0,0),(0,13,0,1),(0,26,0,1),(0,414,0,1),(0,421,0,1),(0,416,0,0),(0,423,0,0),(0,436,0,1)]
def eM_H48 : List (Nat × Nat × Nat × Nat) := [(0,8,0,0),(0,21,0,0),(0,34,0,0),(0,54,0,1),(0,95,0,1),(0,100,0,0),(0,128,0,0),(0,157,0,1),(0,0,0,0),(0,13,0,1),(0,26,0,1),(0,414,0,0),(0,421,0,0),(0,443,0,1),(0,445,0,1)]
def eM_H49 : List (Nat × Nat × Nat × Nat) := [(0,8,0,0),(0,21,0,0),(0,34,0,0),(0,54,0,1),(0,95,0,1),(0,100,0,0),(0,128,0,0),(0,157,0,1),(0,0,0,0),(0,13,0,1),(0,26,0,0),(0,198,0,1),(0,205,0,1),(0,200,0,0),(0,207,0,0),(0,283,0,1)]
def eM_H50 : List (Nat × Nat × Nat × Nat) := [(0,8,0,0),(0,21,0,0),(0,34,0,0),(0,54,0,1),(0,95,0,1),(0,100,0,0),(0,128,0,0),(0,157,0,1),(0,0,0,0),(0,13,0,1),(0,26,0,0),(0,198,0,0),(0,205,0,0),(0,290,0,1),(0,292,0,1)]
def eM_H51 : List (Nat × Nat × Nat × Nat) := [(0,8,0,0),(0,21,0,0),(0,34,0,0),(0,54,0,1),(0,95,0,1),(0,100,0,0),(0,128,0,0),(0,157,0,1),(0,0,0,0),(0,13,0,0),(0,26,0,1),(0,297,0,1),(0,304,0,1),(0,299,0,0),(0,306,0,0),(0,319,0,1)]
def eM_H52 : List (Nat × Nat × Nat × Nat) := [(0,8,0,0),(0,21,0,0),(0,34,0,0),(0,54,0,1),(0,95,0,1),(0,100,0,0),(0,128,0,0),(0,157,0,1),(0,0,0,0),(0,13,0,0),(0,26,0,1),(0,297,0,0),(0,304,0,0),(0,326,0,1),(0,328,0,1)]
def eM_H53 : List (Nat × Nat × Nat × Nat) := [(0,8,0,0),(0,21,0,0),(0,34,0,0),(0,54,0,1),(0,95,0,1),(0,100,0,0),(0,128,0,0),(0,157,0,1),(0,0,0,0),(0,13,0,0),(0,26,0,0),(0,198,0,1),(0,205,0,1),(0,200,0,1),(0,207,0,0),(0,283,0,1)]
def eM_H54 : List (Nat × Nat × Nat × Nat) := [(0,8,0,0),(0,21,0,0),(0,34,0,0),(0,54,0,1),(0,95,0,1),(0,100,0,0),(0,128,0,0),(0,157,0,1),(0,0,0,0),(0,13,0,0),(0,26,0,0),(0,198,0,1),(0,205,0,1),(0,200,0,0),(0,207,0,0),(0,283,0,1)]
def eM_H55 : List (Nat × Nat × Nat × Nat) := [(0,8,0,0),(0,21,0,0),(0,34,0,0),(0,54,0,1),(0,95,0,1),(0,100,0,0),(0,128,0,0),(0,157,0,1),(0,0,0,0),(0,13,0,0),(0,26,0,0),(0,198,0,1),(0,205,0,0),(0,290,0,1),(0,292,0,1)]
def eM_H56 : List (Nat × Nat × Nat × Nat) := [(0,8,0,0),(0,21,0,0),(0,34,0,0),(0,54,0,1),(0,95,0,1),(0,100,0,0),(0,128,0,0),(0,157,0,1),(0,0,0,0),(0,13,0,0),(0,26,0,0),(0,198,0,0),(0,205,0,0),(0,290,0,1),(0,292,0,1)]
def eM_H57 : List (Nat × Nat × Nat × Nat) := [(0,8,0,0),(0,21,0,0),(0,34,0,0),(0,54,0,1),(0,95,0,0),(0,157,0,1),(0,0,0,1),(0,13,0,1),(0,26,0,1),(0,1,0,1),(0,14,0,1),(0,27,0,0),(0,182,0,0),(0,189,0,0),(0,247,0,0)]
def eM_H58 : List (Nat × Nat × Nat × Nat) := [(0,8,0,0),(0,21,0,0),(0,34,0,0),(0,54,0,1),(0,95,0,0),(0,157,0,1),(0,0,0,1),(0,13,0,1),(0,26,0,1),(0,1,0,1),(0,14,0,0),(0,27,0,1),(0,254,0,0),(0,261,0,0),(0,274,0,0)]
def eM_H59 : List (Nat × Nat × Nat × Nat) := [(0,8,0,0),(0,21,0,0),(0,34,0,0),(0,54,0,1),(0,95,0,0),(0,157,0,1),(0,0,0,1),(0,13,0,1),(0,26,0,1),(0,1,0,1),(0,14,0,0),(0,27,0,0),(0,182,0,1),(0,189,0,0),(0,247,0,0)]
def eM_H60 : List (Nat × Nat × Nat × Nat) := [(0,8,0,0),(0,21,0,0),(0,34,0,0),(0,54,0,1),(0,95,0,0),(0,157,0,1),(0,0,0,1),(0,13,0,1),(0,26,0,1),(0,1,0,1),(0,14,0,0),(0,27,0,0),(0,182,0,0),(0,189,0,0),(0,247,0,0)]
def eM_H61 : List (Nat × Nat × Nat × Nat) := [(0,8,0,0),(0,21,0,0),(0,34,0,0),(0,54,0,1),(0,95,0,0),(0,157,0,1),(0,0,0,1),(0,13,0,1),(0,26,0,1),(0,1,0,0),(0,14,0,1),(0,27,0,1),(0,389,0,0),(0,396,0,0),(0,409,0,0)]
def eM_H62 : List (Nat × Nat × Nat × Nat) := [(0,8,0,0),(0,21,0,0),(0,34,0,0),(0,54,0,1),(0,95,0,0),(0,157,0,1),(0,0,0,1),(0,13,0,1),(0,26,0,1),(0,1,0,0),(0,14,0,1),(0,27,0,0),(0,182,0,0),(0,189,0,1),(0,364,0,0)]
def eM_H63 : List (Nat × Nat × Nat × Nat) := [(0,8,0,0),(0,21,0,0),(0,34,0,0),(0,54,0,1),(0,95,0,0),(0,157,0,1),(0,0,0,1),(0,13,0,1),(0,26,0,1),(0,1,0,0),(0,14,0,1),(0,27,0,0),(0,182,0,0),(0,189,0,0),(0,247,0,0)]
def eM_H64 : List (Nat × Nat × Nat × Nat) := [(0,8,0,0),(0,21,0,0),(0,34,0,0),(0,54,0,1),(0,95,0,0),(0,157,0,1),(0,0,0,1),(0,13,0,1),(0,26,0,1),(0,1,0,0),(0,14,0,0),(0,27,0,1),(0,254,0,1),(0,261,0,0),(0,274,0,0)]
def eM_H65 : List (Nat × Nat × Nat × Nat) := [(0,8,0,0),(0,21,0,0),(0,34,0,0),(0,54,0,1),(0,95,0,0),(0,157,0,1),(0,0,0,1),(0,13,0,1),(0,26,0,1),(0,1,0,0),(0,14,0,0),(0,27,0,1),(0,254,0,0),(0,261,0,0),(0,274,0,0)]
def eM_H66 : List (Nat × Nat × Nat × Nat) := [(0,8,0,0),(0,21,0,0),(0,34,0,0),(0,54,0,1),(0,95,0,0),(0,157,0,1),(0,0,0,1),(0,13,0,1),(0,26,0,1),(0,1,0,0),(0,14,0,0),(0,27,0,0),(0,182,0,1),(0,189,0,0),(0,247,0,0)]
def eM_H67 : List (Nat × Nat × Nat × Nat) := [(0,8,0,0),(0,21,0,0),(0,34,0,0),(0,54,0,1),(0,95,0,0),(0,157,0,1),(0,0,0,1),(0,13,0,1),(0,26,0,1),(0,1,0,0),(0,14,0,0),(0,27,0,0),(0,182,0,0),(0,189,0,1),(0,364,0,0)]
def eM_H68 : List (Nat × Nat × Nat × Nat) := [(0,8,0,0),(0,21,0,0),(0,34,0,0),(0,54,0,1),(0,95,0,0),(0,157,0,1),(0,0,0,1),(0,13,0,1),(0,26,0,1),(0,1,0,0),(0,14,0,0),(0,27,0,0),(0,182,0,0),(0,189,0,0),(0,247,0,0)]
def eM_H69 : List (Nat × Nat × Nat × Nat) := [(0,8,0,0),(0,21,0,0),(0,34,0,0),(0,54,0,1),(0,95,0,0),(0,157,0,1),(0,0,0,1),(0,13,0,1),(0,26,0,0),(0,198,0,1),(0,205,0,1),(0,200,0,0),(0,207,0,0),(0,283,0,0)]
def eM_H70 : List (Nat × Nat × Nat × Nat) := [(0,8,0,0),(0,21,0,0),(0,34,0,0),(0,54,0,1),(0,95,0,0),(0,157,0,1),(0,0,0,1),(0,13,0,1),(0,26,0,0),(0,198,0,0),(0,205,0,0),(0,290,0,1),(0,292,0,0)]
def eM_H71 : List (Nat × Nat × Nat × Nat) := [(0,8,0,0),(0,21,0,0),(0,34,0,0),(0,54,0,1),(0,95,0,0),(0,157,0,1),(0,0,0,1),(0,13,0,0),(0,26,0,1),(0,297,0,1),(0,304,0,1),(0,299,0,0),(0,306,0,0),(0,319,0,0)]
def eM_H72 : List (Nat × Nat × Nat × Nat) := [(0,8,0,0),(0,21,0,0),(0,34,0,0),(0,54,0,1),(0,95,0,0),(0,157,0,1),(0,0,0,1),(0,13,0,0),(0,26,0,1),(0,297,0,0),(0,304,0,0),(0,326,0,1),(0,328,0,0)]
def eM_H73 : List (Nat × Nat × Nat × Nat) := [(0,8,0,0),(0,21,0,0),(0,34,0,0),(0,54,0,1),(0,95,0,0),(0,157,0,1),(0,0,0,1),(0,13,0,0),(0,26,0,0),(0,198,0,1),(0,205,0,1),(0,200,0,1),(0,207,0,0),(0,283,0,0)]
def eM_H74 : List (Nat × Nat × Nat × Nat) := [(0,8,0,0),(0,21,0,0),(0,34,0,0),(0,54,0,1),(0,95,0,0),(0,157,0,1),(0,0,0,1),(0,13,0,0),(0,26,0,0),(0,198,0,1),(0,205,0,1),(0,200,0,0),(0,207,0,0),(0,283,0,0)]
def eM_H75 : List (Nat × Nat × Nat × Nat) := [(0,8,0,0),(0,21,0,0),(0,34,0,0),(0,54,0,1),(0,95,0,0),(0,157,0,1),(0,0,0,1),(0,13,0,0),(0,26,0,0),(0,198,0,1),(0,205,0,0),(0,290,0,1),(0,292,0,0)]
def eM_H76 : List (Nat × Nat × Nat × Nat) := [(0,8,0,0),(0,21,0,0),(0,34,0,0),(0,54,0,1),(0,95,0,0),(0,157,0,1),(0,0,0,1),(0,13,0,0),(0,26,0,0),(0,198,0,0),(0,205,0,0),(0,290,0,1),(0,292,0,0)]
def eM_H77 : List (Nat × Nat × Nat × Nat) := [(0,8,0,0),(0,21,0,0),(0,34,0,0),(0,54,0,1),(0,95,0,0),(0,157,0,1),(0,0,0,0),(0,13,0,1),(0,26,0,1),(0,414,0,1),(0,421,0,1),(0,416,0,0),(0,423,0,0),(0,436,0,0)]
def eM_H78 : List (Nat × Nat × Nat × Nat) := [(0,8,0,0),(0,21,0,0),(0,34,0,0),(0,54,0,1),(0,95,0,0),(0,157,0,1),(0,0,0,0),(0,13,0,1),(0,26,0,1),(0,414,0,0),(0,421,0,0),(0,443,0,1),(0,445,0,0)]
def eM_H79 : List (Nat × Nat × Nat × Nat) := [(0,8,0,0),(0,21,0,0),(0,34,0,0),(0,54,0,1),(0,95,0,0),(0,157,0,1),(0,0,0,0),(0,13,0,1),(0,26,0,0),(0,198,0,1),(0,205,0,1),(0,200,0,0),(0,207,0,1),(0,373,0,0)]
def eM_H80 : List (Nat × Nat × Nat × Nat) := [(0,8,0,0),(0,21,0,0),(0,34,0,0),(0,54,0,1),(0,95,0,0),(0,157,0,1),(0,0,0,0),(0,13,0,1),(0,26,0,0),(0,198,0,1),(0,205,0,1),(0,200,0,0),(0,207,0,0),(0,283,0,0)]
def eM_H81 : List (Nat × Nat × Nat × Nat) := [(0,8,0,0),(0,21,0,0),(0,34,0,0),(0,54,0,1),(0,95,0,0),(0,157,0,1),(0,0,0,0),(0,13,0,1),(0,26,0,0),(0,198,0,0),(0,205,0,1),(0,380,0,1),(0,382,0,0)]
def eM_H82 : List (Nat × Nat × Nat × Nat) := [(0,8,0,0),(0,21,0,0),(0,34,0,0),(0,54,0,1),(0,95,0,0),(0,157,0,1),(0,0,0,0),(0,13,0,1),(0,26,0,0),(0,198,0,0),(0,205,0,0),(0,290,0,1),(0,292,0,0)]
def eM_H83 : List (Nat × Nat × Nat × Nat) := [(0,8,0,0),(0,21,0,0),(0,34,0,0),(0,54,0,1),(0,95,0,0),(0,157,0,1),(0,0,0,0),(0,13,0,0),(0,26,0,1),(0,297,0,1),(0,304,0,1),(0,299,0,1),(0,306,0,0),(0,319,0,0)]
def eM_H84 : List (Nat × Nat × Nat × Nat) := [(0,8,0,0),(0,21,0,0),(0,34,0,0),(0,54,0,1),(0,95,0,0),(0,157,0,1),(0,0,0,0),(0,13,0,0),(0,26,0,1),(0,297,0,1),(0,304,0,1),(0,299,0,0),(0,306,0,0),(0,319,0,0)]
def eM_H85 : List (Nat × Nat × Nat × Nat) := [(0,8,0,0),(0,21,0,0),(0,34,0,0),(0,54,0,1),(0,95,0,0),(0,157,0,1),(0,0,0,0),(0,13,0,0),(0,26,0,1),(0,297,0,1),(0,304,0,0),(0,326,0,1),(0,328,0,0)]
def eM_H86 : List (Nat × Nat × Nat × Nat) := [(0,8,0,0),(0,21,0,0),(0,34,0,0),(0,54,0,1),(0,95,0,0),(0,157,0,1),(0,0,0,0),(0,13,0,0),(0,26,0,1),(0,297,0,0),(0,304,0,0),(0,326,0,1),(0,328,0,0)]
def eM_H87 : List (Nat × Nat × Nat × Nat) := [(0,8,0,0),(0,21,0,0),(0,34,0,0),(0,54,0,1),(0,95,0,0),(0,157,0,1),(0,0,0,0),(0,13,0,0),(0,26,0,0),(0,198,0,1),(0,205,0,1),(0,200,0,1),(0,207,0,0),(0,283,0,0)]
def eM_H88 : List (Nat × Nat × Nat × Nat) := [(0,8,0,0),(0,21,0,0),(0,34,0,0),(0,54,0,1),(0,95,0,0),(0,157,0,1),(0,0,0,0),(0,13,0,0),(0,26,0,0),(0,198,0,1),(0,205,0,1),(0,200,0,0),(0,207,0,1),(0,373,0,0)]
def eM_H89 : List (Nat × Nat × Nat × Nat) := [(0,8,0,0),(0,21,0,0),(0,34,0,0),(0,54,0,1),(0,95,0,0),(0,157,0,1),(0,0,0,0),(0,13,0,0),(0,26,0,0),(0,198,0,1),(0,205,0,1),(0,200,0,0),(0,207,0,0),(0,283,0,0)]
def eM_H90 : List (Nat × Nat × Nat × Nat) := [(0,8,0,0),(0,21,0,0),(0,34,0,0),(0,54,0,1),(0,95,0,0),(0,157,0,1),(0,0,0,0),(0,13,0,0),(0,26,0,0),(0,198,0,1),(0,205,0,0),(0,290,0,1),(0,292,0,0)]
def eM_H91 : List (Nat × Nat × Nat × Nat) := [(0,8,0,0),(0,21,0,0),(0,34,0,0),(0,54,0,1),(0,95,0,0),(0,157,0,1),(0,0,0,0),(0,13,0,0),(0,26,0,0),(0,198,0,0),(0,205,0,1),(0,380,0,1),(0,382,0,0)]
def eM_H92 : List (Nat × Nat × Nat × Nat) := [(0,8,0,0),(0,21,0,0),(0,34,0,0),(0,54,0,1),(0,95,0,0),(0,157,0,1),(0,0,0,0),(0,13,0,0),(0,26,0,0),(0,198,0,0),(0,205,0,0),(0,290,0,1),(0,292,0,0)]
def eM_H93 : List (Nat × Nat × Nat × Nat) := [(0,8,0,0),(0,21,0,0),(0,34,0,0),(0,54,0,0),(0,157,0,0),(0,455,0,1),(0,461,0,1),(0,467,0,1)]
end Go.Proofs.YtikldelfdioimaaGreatDoor
/- MEMR1 -/
namespace Go.Proofs.YtikldelfdioimaaGreatDoor
open Go.RowKit Cx
theorem eM_r0 : (callD (sx Tryz.prog eM_N eM_H0 [(101,[])] eM_L eM_C eM_Z (prC [9])) eM_cs eM_G 7 [] 3 eM_A [] 0).map (·.1)=some (kB true) := by kernel_rfl
theorem eM_r6 : (callD (sx Tryz.prog eM_N eM_H6 [(101,[]),(18,[]),(20,[.inr (3,107,0,0,0)])] eM_L eM_C eM_Z (prC [9])) eM_cs eM_G 7 [] 3 eM_A [] 0).map (·.1)=some (kB true) := by kernel_rfl
theorem eM_r12 : (callD (sx Tryz.prog eM_N eM_H12 [(101,[]),(18,[]),(20,[.inr (3,103,0,0,0)])] eM_L eM_C eM_Z (prC [9])) eM_cs eM_G 7 [] 3 eM_A [] 0).map (·.1)=some (kB true) := by kernel_rfl
theorem eM_r18 : (callD (sx Tryz.prog eM_N eM_H18 [(101,[]),(18,[]),(20,[.inr (3,97,0,0,0)])] eM_L eM_C eM_Z (prC [9])) eM_cs eM_G 7 [] 3 eM_A [] 0).map (·.1)=some (kB true) := by kernel_rfl
theorem eM_r24 : (callD (sx Tryz.prog eM_N eM_H24 [(101,[]),(18,[]),(20,[.inr (3,97,0,0,0)])] eM_L eM_C eM_Z (prC [9])) eM_cs eM_G 7 [] 3 eM_A [] 0).map (·.1)=some (kB true) := by kernel_rfl
theorem eM_r30 : (callD (sx Tryz.prog eM_N eM_H30 [(101,[]),(18,[]),(20,[.inr (3,103,0,0,0)])] eM_L eM_C eM_Z (prC [9])) eM_cs eM_G 7 [] 3 eM_A [] 0).map (·.1)=some (kB true) := by kernel_rfl
theorem eM_r36 : (callD (sx Tryz.prog eM_N eM_H36 [(101,[]),(18,[]),(20,[.inr (3,99,0,0,0)])] eM_L eM_C eM_Z (prC [9])) eM_cs eM_G 7 [] 3 eM_A [] 0).map (·.1)=some (kB true) := by kernel_rfl
theorem eM_r42 : (callD (sx Tryz.prog eM_N eM_H42 [(101,[]),(18,[]),(20,[.inr (3,99,0,0,0)])] eM_L eM_C eM_Z (prC [9])) eM_cs eM_G 7 [] 3 eM_A [] 0).map (·.1)=some (kB true) := by kernel_rfl
theorem eM_r48 : (callD (sx Tryz.prog eM_N eM_H48 [(101,[]),(18,[]),(20,[.inr (3,99,0,0,0)])] eM_L eM_C eM_Z (prC [9])) eM_cs eM_G 7 [] 3 eM_A [] 0).map (·.1)=some (kB true) := by kernel_rfl
theorem eM_r54 : (callD (sx Tryz.prog eM_N eM_H54 [(101,[]),(18,[]),(20,[.inr (3,99,0,0,0)])] eM_L eM_C eM_Z (prC [9])) eM_cs eM_G 7 [] 3 eM_A [] 0).map (·.1)=some (kB true) := by kernel_rfl
theorem eM_r60 : (callD (sx Tryz.prog eM_N eM_H60 [(101,[]),(18,[]),(20,[.inr (3,87,0,0,0)])] eM_L eM_C eM_Z (prC [9])) eM_cs eM_G 7 [] 3 eM_A [] 0).map (·.1)=some (kB true) := by kernel_rfl
theorem eM_r66 : (callD (sx Tryz.prog eM_N eM_H66 [(101,[]),(18,[]),(20,[.inr (3,87,0,0,0)])] eM_L eM_C eM_Z (prC [9])) eM_cs eM_G 7 [] 3 eM_A [] 0).map (·.1)=some (kB true) := by kernel_rfl
theorem eM_r72 : (callD (sx Tryz.prog eM_N eM_H72 [(101,[]),(18,[]),(20,[.inr (3,87,0,0,0)])] eM_L eM_C eM_Z (prC [9])) eM_cs eM_G 7 [] 3 eM_A [] 0).map (·.1)=some (kB true) := by kernel_rfl
theorem eM_r78 : (callD (sx Tryz.prog eM_N eM_H78 [(101,[]),(18,[]),(20,[.inr (3,87,0,0,0)])] eM_L eM_C eM_Z (prC [9])) eM_cs eM_G 7 [] 3 eM_A [] 0).map (·.1)=some (kB true) := by kernel_rfl
theorem eM_r84 : (callD (sx Tryz.prog eM_N eM_H84 [(101,[]),(18,[]),(20,[.inr (3,87,0,0,0)])] eM_L eM_C eM_Z (prC [9])) eM_cs eM_G 7 [] 3 eM_A [] 0).map (·.1)=some (kB true) := by kernel_rfl
theorem eM_r90 : (callD (sx Tryz.prog eM_N eM_H90 [(101,[]),(18,[]),(20,[.inr (3,87,0,0,0)])] eM_L eM_C eM_Z (prC [9])) eM_cs eM_G 7 [] 3 eM_A [] 0).map (·.1)=some (kB true) := by kernel_rfl
end Go.Proofs.YtikldelfdioimaaGreatDoor
/- MEMR2 -/
namespace Go.Proofs.YtikldelfdioimaaGreatDoor
open Go.RowKit Cx
theorem eM_r1 : (callD (sx Tryz.prog eM_N eM_H1 [(101,[])] eM_L eM_C eM_Z (prC [9])) eM_cs eM_G 7 [] 3 eM_A [] 0).map (·.1)=some (kB true) := by kernel_rfl
theorem eM_r7 : (callD (sx Tryz.prog eM_N eM_H7 [(101,[]),(18,[]),(20,[.inr (3,107,0,0,0)])] eM_L eM_C eM_Z (prC [9])) eM_cs eM_G 7 [] 3 eM_A [] 0).map (·.1)=some (kB true) := by kernel_rfl
theorem eM_r13 : (callD (sx Tryz.prog eM_N eM_H13 [(101,[]),(18,[]),(20,[.inr (3,103,0,0,0)])] eM_L eM_C eM_Z (prC [9])) eM_cs eM_G 7 [] 3 eM_A [] 0).map (·.1)=some (kB true) := by kernel_rfl
theorem eM_r19 : (callD (sx Tryz.prog eM_N eM_H19 [(101,[]),(18,[]),(20,[.inr (3,97,0,0,0)])] eM_L eM_C eM_Z (prC [9])) eM_cs eM_G 7 [] 3 eM_A [] 0).map (·.1)=some (kB true) := by kernel_rfl
theorem eM_r25 : (callD (sx Tryz.prog eM_N eM_H25 [(101,[]),(18,[]),(20,[.inr (3,97,0,0,0)])] eM_L eM_C eM_Z (prC [9])) eM_cs eM_G 7 [] 3 eM_A [] 0).map (·.1)=some (kB true) := by kernel_rfl
theorem eM_r31 : (callD (sx Tryz.prog eM_N eM_H31 [(101,[]),(18,[]),(20,[.inr (3,103,0,0,0)])] eM_L eM_C eM_Z (prC [9])) eM_cs eM_G 7 [] 3 eM_A [] 0).map (·.1)=some (kB true) := by kernel_rfl
theorem eM_r37 : (callD (sx Tryz.prog eM_N eM_H37 [(101,[]),(18,[]),(20,[.inr (3,99,0,0,0)])] eM_L eM_C eM_Z (prC [9])) eM_cs eM_G 7 [] 3 eM_A [] 0).map (·.1)=some (kB true) := by kernel_rfl
theorem eM_r43 : (callD (sx Tryz.prog eM_N eM_H43 [(101,[]),(18,[]),(20,[.inr (3,99,0,0,0)])] eM_L eM_C eM_Z (prC [9])) eM_cs eM_G 7 [] 3 eM_A [] 0).map (·.1)=some (kB true) := by kernel_rfl
theorem eM_r49 : (callD (sx Tryz.prog eM_N eM_H49 [(101,[]),(18,[]),(20,[.inr (3,99,0,0,0)])] eM_L eM_C eM_Z (prC [9])) eM_cs eM_G 7 [] 3 eM_A [] 0).map (·.1)=some (kB true) := by kernel_rfl
theorem eM_r55 : (callD (sx Tryz.prog eM_N eM_H55 [(101,[]),(18,[]),(20,[.inr (3,99,0,0,0)])] eM_L eM_C eM_Z (prC [9])) eM_cs eM_G 7 [] 3 eM_A [] 0).map (·.1)=some (kB true) := by kernel_rfl
theorem eM_r61 : (callD (sx Tryz.prog eM_N eM_H61 [(101,[]),(18,[]),(20,[.inr (3,87,0,0,0)])] eM_L eM_C eM_Z (prC [9])) eM_cs eM_G 7 [] 3 eM_A [] 0).map (·.1)=some (kB true) := by kernel_rfl
theorem eM_r67 : (callD (sx Tryz.prog eM_N eM_H67 [(101,[]),(18,[]),(20,[.inr (3,87,0,0,0)])] eM_L eM_C eM_Z (prC [9])) eM_cs eM_G 7 [] 3 eM_A [] 0).map (·.1)=some (kB true) := by kernel_rfl
theorem eM_r73 : (callD (sx Tryz.prog eM_N eM_H73 [(101,[]),(18,[]),(20,[.inr (3,87,0,0,0)])] eM_L eM_C eM_Z (prC [9])) eM_cs eM_G 7 [] 3 eM_A [] 0).map (·.1)=some (kB true) := by kernel_rfl
theorem eM_r79 : (callD (sx Tryz.prog eM_N eM_H79 [(101,[]),(18,[]),(20,[.inr (3,87,0,0,0)])] eM_L eM_C eM_Z (prC [9])) eM_cs eM_G 7 [] 3 eM_A [] 0).map (·.1)=some (kB true) := by kernel_rfl
theorem eM_r85 : (callD (sx Tryz.prog eM_N eM_H85 [(101,[]),(18,[]),(20,[.inr (3,87,0,0,0)])] eM_L eM_C eM_Z (prC [9])) eM_cs eM_G 7 [] 3 eM_A [] 0).map (·.1)=some (kB true) := by kernel_rfl
theorem eM_r91 : (callD (sx Tryz.prog eM_N eM_H91 [(101,[]),(18,[]),(20,[.inr (3,87,0,0,0)])] eM_L eM_C eM_Z (prC [9])) eM_cs eM_G 7 [] 3 eM_A [] 0).map (·.1)=some (kB true) := by kernel_rfl
end Go.Proofs.YtikldelfdioimaaGreatDoor
/- MEMR3 -/
namespace Go.Proofs.YtikldelfdioimaaGreatDoor
open Go.RowKit Cx
theorem eM_r2 : (callD (sx Tryz.prog eM_N eM_H2 [(101,[])] eM_L eM_C eM_Z (prC [9])) eM_cs eM_G 7 [] 3 eM_A [] 0).map (·.1)=some (kB true) := by kernel_rfl
theorem eM_r8 : (callD (sx Tryz.prog eM_N eM_H8 [(101,[]),(18,[]),(20,[.inr (3,107,0,0,0)])] eM_L eM_C eM_Z (prC [9])) eM_cs eM_G 7 [] 3 eM_A [] 0).map (·.1)=some (kB true) := by kernel_rfl
theorem eM_r14 : (callD (sx Tryz.prog eM_N eM_H14 [(101,[]),(18,[]),(20,[.inr (3,103,0,0,0)])] eM_L eM_C eM_Z (prC [9])) eM_cs eM_G 7 [] 3 eM_A [] 0).map (·.1)=some (kB true) := by kernel_rfl
theorem eM_r20 : (callD (sx Tryz.prog eM_N eM_H20 [(101,[]),(18,[]),(20,[.inr (3,97,0,0,0)])] eM_L eM_C eM_Z (prC [9])) eM_cs eM_G 7 [] 3 eM_A [] 0).map (·.1)=some (kB true) := by kernel_rfl
theorem eM_r26 : (callD (sx Tryz.prog eM_N eM_H26 [(101,[]),(18,[]),(20,[.inr (3,97,0,0,0)])] eM_L eM_C eM_Z (prC [9])) eM_cs eM_G 7 [] 3 eM_A [] 0).map (·.1)=some (kB true) := by kernel_rfl
theorem eM_r32 : (callD (sx Tryz.prog eM_N eM_H32 [(101,[]),(18,[]),(20,[.inr (3,103,0,0,0)])] eM_L eM_C eM_Z (prC [9])) eM_cs eM_G 7 [] 3 eM_A [] 0).map (·.1)=some (kB true) := by kernel_rfl
theorem eM_r38 : (callD (sx Tryz.prog eM_N eM_H38 [(101,[]),(18,[]),(20,[.inr (3,99,0,0,0)])] eM_L eM_C eM_Z (prC [9])) eM_cs eM_G 7 [] 3 eM_A [] 0).map (·.1)=some (kB true) := by kernel_rfl
theorem eM_r44 : (callD (sx Tryz.prog eM_N eM_H44 [(101,[]),(18,[]),(20,[.inr (3,99,0,0,0)])] eM_L eM_C eM_Z (prC [9])) eM_cs eM_G 7 [] 3 eM_A [] 0).map (·.1)=some (kB true) := by kernel_rfl
theorem eM_r50 : (callD (sx Tryz.prog eM_N eM_H50 [(101,[]),(18,[]),(20,[.inr (3,99,0,0,0)])] eM_L eM_C eM_Z (prC [9])) eM_cs eM_G 7 [] 3 eM_A [] 0).map (·.1)=some (kB true) := by kernel_rfl
theorem eM_r56 : (callD (sx Tryz.prog eM_N eM_H56 [(101,[]),(18,[]),(20,[.inr (3,99,0,0,0)])] eM_L eM_C eM_Z (prC [9])) eM_cs eM_G 7 [] 3 eM_A [] 0).map (·.1)=some (kB true) := by kernel_rfl
theorem eM_r62 : (callD (sx Tryz.prog eM_N eM_H62 [(101,[]),(18,[]),(20,[.inr (3,87,0,0,0)])] eM_L eM_C eM_Z (prC [9])) eM_cs eM_G 7 [] 3 eM_A [] 0).map (·.1)=some (kB true) := by kernel_rfl
theorem eM_r68 : (callD (sx Tryz.prog eM_N eM_H68 [(101,[]),(18,[]),(20,[.inr (3,87,0,0,0)])] eM_L eM_C eM_Z (prC [9])) eM_cs eM_G 7 [] 3 eM_A [] 0).map (·.1)=some (kB true) := by kernel_rfl
theorem eM_r74 : (callD (sx Tryz.prog eM_N eM_H74 [(101,[]),(18,[]),(20,[.inr (3,87,0,0,0)])] eM_L eM_C eM_Z (prC [9])) eM_cs eM_G 7 [] 3 eM_A [] 0).map (·.1)=some (kB true) := by kernel_rfl
theorem eM_r80 : (callD (sx Tryz.prog eM_N eM_H80 [(101,[]),(18,[]),(20,[.inr (3,87,0,0,0)])] eM_L eM_C eM_Z (prC [9])) eM_cs eM_G 7 [] 3 eM_A [] 0).map (·.1)=some (kB true) := by kernel_rfl
theorem eM_r86 : (callD (sx Tryz.prog eM_N eM_H86 [(101,[]),(18,[]),(20,[.inr (3,87,0,0,0)])] eM_L eM_C eM_Z (prC [9])) eM_cs eM_G 7 [] 3 eM_A [] 0).map (·.1)=some (kB true) := by kernel_rfl
theorem eM_r92 : (callD (sx Tryz.prog eM_N eM_H92 [(101,[]),(18,[]),(20,[.inr (3,87,0,0,0)])] eM_L eM_C eM_Z (prC [9])) eM_cs eM_G 7 [] 3 eM_A [] 0).map (·.1)=some (kB true) := by kernel_rfl
end Go.Proofs.YtikldelfdioimaaGreatDoor
/- MEMR4 -/
namespace Go.Proofs.YtikldelfdioimaaGreatDoor
open Go.RowKit Cx
theorem eM_r3 : (callD (sx Tryz.prog eM_N eM_H3 [(101,[]),(18,[]),(20,[.inr (3,107,0,0,0)])] eM_L eM_C eM_Z (prC [9])) eM_cs eM_G 7 [] 3 eM_A [] 0).map (·.1)=some (kB true) := by kernel_rfl
theorem eM_r9 : (callD (sx Tryz.prog eM_N eM_H9 [(101,[]),(18,[]),(20,[.inr (3,103,0,0,0)])] eM_L eM_C eM_Z (prC [9])) eM_cs eM_G 7 [] 3 eM_A [] 0).map (·.1)=some (kB true) := by kernel_rfl
theorem eM_r15 : (callD (sx Tryz.prog eM_N eM_H15 [(101,[]),(18,[]),(20,[.inr (3,103,0,0,0)])] eM_L eM_C eM_Z (prC [9])) eM_cs eM_G 7 [] 3 eM_A [] 0).map (·.1)=some (kB true) := by kernel_rfl
theorem eM_r21 : (callD (sx Tryz.prog eM_N eM_H21 [(101,[]),(18,[]),(20,[.inr (3,97,0,0,0)])] eM_L eM_C eM_Z (prC [9])) eM_cs eM_G 7 [] 3 eM_A [] 0).map (·.1)=some (kB true) := by kernel_rfl
theorem eM_r27 : (callD (sx Tryz.prog eM_N eM_H27 [(101,[]),(18,[]),(20,[.inr (3,103,0,0,0)])] eM_L eM_C eM_Z (prC [9])) eM_cs eM_G 7 [] 3 eM_A [] 0).map (·.1)=some (kB true) := by kernel_rfl
theorem eM_r33 : (callD (sx Tryz.prog eM_N eM_H33 [(101,[]),(18,[]),(20,[.inr (3,103,0,0,0)])] eM_L eM_C eM_Z (prC [9])) eM_cs eM_G 7 [] 3 eM_A [] 0).map (·.1)=some (kB true) := by kernel_rfl
theorem eM_r39 : (callD (sx Tryz.prog eM_N eM_H39 [(101,[]),(18,[]),(20,[.inr (3,99,0,0,0)])] eM_L eM_C eM_Z (prC [9])) eM_cs eM_G 7 [] 3 eM_A [] 0).map (·.1)=some (kB true) := by kernel_rfl
theorem eM_r45 : (callD (sx Tryz.prog eM_N eM_H45 [(101,[]),(18,[]),(20,[.inr (3,99,0,0,0)])] eM_L eM_C eM_Z (prC [9])) eM_cs eM_G 7 [] 3 eM_A [] 0).map (·.1)=some (kB true) := by kernel_rfl
theorem eM_r51 : (callD (sx Tryz.prog eM_N eM_H51 [(101,[]),(18,[]),(20,[.inr (3,99,0,0,0)])] eM_L eM_C eM_Z (prC [9])) eM_cs eM_G 7 [] 3 eM_A [] 0).map (·.1)=some (kB true) := by kernel_rfl
theorem eM_r57 : (callD (sx Tryz.prog eM_N eM_H57 [(101,[]),(18,[]),(20,[.inr (3,87,0,0,0)])] eM_L eM_C eM_Z (prC [9])) eM_cs eM_G 7 [] 3 eM_A [] 0).map (·.1)=some (kB true) := by kernel_rfl
theorem eM_r63 : (callD (sx Tryz.prog eM_N eM_H63 [(101,[]),(18,[]),(20,[.inr (3,87,0,0,0)])] eM_L eM_C eM_Z (prC [9])) eM_cs eM_G 7 [] 3 eM_A [] 0).map (·.1)=some (kB true) := by kernel_rfl
theorem eM_r69 : (callD (sx Tryz.prog eM_N eM_H69 [(101,[]),(18,[]),(20,[.inr (3,87,0,0,0)])] eM_L eM_C eM_Z (prC [9])) eM_cs eM_G 7 [] 3 eM_A [] 0).map (·.1)=some (kB true) := by kernel_rfl
theorem eM_r75 : (callD (sx Tryz.prog eM_N eM_H75 [(101,[]),(18,[]),(20,[.inr (3,87,0,0,0)])] eM_L eM_C eM_Z (prC [9])) eM_cs eM_G 7 [] 3 eM_A [] 0).map (·.1)=some (kB true) := by kernel_rfl
theorem eM_r81 : (callD (sx Tryz.prog eM_N eM_H81 [(101,[]),(18,[]),(20,[.inr (3,87,0,0,0)])] eM_L eM_C eM_Z (prC [9])) eM_cs eM_G 7 [] 3 eM_A [] 0).map (·.1)=some (kB true) := by kernel_rfl
theorem eM_r87 : (callD (sx Tryz.prog eM_N eM_H87 [(101,[]),(18,[]),(20,[.inr (3,87,0,0,0)])] eM_L eM_C eM_Z (prC [9])) eM_cs eM_G 7 [] 3 eM_A [] 0).map (·.1)=some (kB true) := by kernel_rfl
theorem eM_r93 : (callD (sx Tryz.prog eM_N eM_H93 [(101,[])] eM_L eM_C eM_Z (prC [9])) eM_cs eM_G 7 [] 3 eM_A [] 0).map (·.1)=some (kB true) := by kernel_rfl
end Go.Proofs.YtikldelfdioimaaGreatDoor
/- MEMR5 -/
namespace Go.Proofs.YtikldelfdioimaaGreatDoor
open Go.RowKit Cx
theorem eM_r4 : (callD (sx Tryz.prog eM_N eM_H4 [(101,[]),(18,[]),(20,[.inr (3,107,0,0,0)])] eM_L eM_C eM_Z (prC [9])) eM_cs eM_G 7 [] 3 eM_A [] 0).map (·.1)=some (kB true) := by kernel_rfl
theorem eM_r10 : (callD (sx Tryz.prog eM_N eM_H10 [(101,[]),(18,[]),(20,[.inr (3,103,0,0,0)])] eM_L eM_C eM_Z (prC [9])) eM_cs eM_G 7 [] 3 eM_A [] 0).map (·.1)=some (kB true) := by kernel_rfl
theorem eM_r16 : (callD (sx Tryz.prog eM_N eM_H16 [(101,[]),(18,[]),(20,[.inr (3,103,0,0,0)])] eM_L eM_C eM_Z (prC [9])) eM_cs eM_G 7 [] 3 eM_A [] 0).map (·.1)=some (kB true) := by kernel_rfl
theorem eM_r22 : (callD (sx Tryz.prog eM_N eM_H22 [(101,[]),(18,[]),(20,[.inr (3,97,0,0,0)])] eM_L eM_C eM_Z (prC [9])) eM_cs eM_G 7 [] 3 eM_A [] 0).map (·.1)=some (kB true) := by kernel_rfl
theorem eM_r28 : (callD (sx Tryz.prog eM_N eM_H28 [(101,[]),(18,[]),(20,[.inr (3,103,0,0,0)])] eM_L eM_C eM_Z (prC [9])) eM_cs eM_G 7 [] 3 eM_A [] 0).map (·.1)=some (kB true) := by kernel_rfl
theorem eM_r34 : (callD (sx Tryz.prog eM_N eM_H34 [(101,[]),(18,[]),(20,[.inr (3,103,0,0,0)])] eM_L eM_C eM_Z (prC [9])) eM_cs eM_G 7 [] 3 eM_A [] 0).map (·.1)=some (kB true) := by kernel_rfl
theorem eM_r40 : (callD (sx Tryz.prog eM_N eM_H40 [(101,[]),(18,[]),(20,[.inr (3,99,0,0,0)])] eM_L eM_C eM_Z (prC [9])) eM_cs eM_G 7 [] 3 eM_A [] 0).map (·.1)=some (kB true) := by kernel_rfl
theorem eM_r46 : (callD (sx Tryz.prog eM_N eM_H46 [(101,[]),(18,[]),(20,[.inr (3,99,0,0,0)])] eM_L eM_C eM_Z (prC [9])) eM_cs eM_G 7 [] 3 eM_A [] 0).map (·.1)=some (kB true) := by kernel_rfl
theorem eM_r52 : (callD (sx Tryz.prog eM_N eM_H52 [(101,[]),(18,[]),(20,[.inr (3,99,0,0,0)])] eM_L eM_C eM_Z (prC [9])) eM_cs eM_G 7 [] 3 eM_A [] 0).map (·.1)=some (kB true) := by kernel_rfl
theorem eM_r58 : (callD (sx Tryz.prog eM_N eM_H58 [(101,[]),(18,[]),(20,[.inr (3,87,0,0,0)])] eM_L eM_C eM_Z (prC [9])) eM_cs eM_G 7 [] 3 eM_A [] 0).map (·.1)=some (kB true) := by kernel_rfl
theorem eM_r64 : (callD (sx Tryz.prog eM_N eM_H64 [(101,[]),(18,[]),(20,[.inr (3,87,0,0,0)])] eM_L eM_C eM_Z (prC [9])) eM_cs eM_G 7 [] 3 eM_A [] 0).map (·.1)=some (kB true) := by kernel_rfl
theorem eM_r70 : (callD (sx Tryz.prog eM_N eM_H70 [(101,[]),(18,[]),(20,[.inr (3,87,0,0,0)])] eM_L eM_C eM_Z (prC [9])) eM_cs eM_G 7 [] 3 eM_A [] 0).map (·.1)=some (kB true) := by kernel_rfl
theorem eM_r76 : (callD (sx Tryz.prog eM_N eM_H76 [(101,[]),(18,[]),(20,[.inr (3,87,0,0,0)])] eM_L eM_C eM_Z (prC [9])) eM_cs eM_G 7 [] 3 eM_A [] 0).map (·.1)=some (kB true) := by kernel_rfl
theorem eM_r82 : (callD (sx Tryz.prog eM_N eM_H82 [(101,[]),(18,[]),(20,[.inr (3,87,0,0,0)])] eM_L eM_C eM_Z (prC [9])) eM_cs eM_G 7 [] 3 eM_A [] 0).map (·.1)=some (kB true) := by kernel_rfl
theorem eM_r88 : (callD (sx Tryz.prog eM_N eM_H88 [(101,[]),(18,[]),(20,[.inr (3,87,0,0,0)])] eM_L eM_C eM_Z (prC [9])) eM_cs eM_G 7 [] 3 eM_A [] 0).map (·.1)=some (kB true) := by kernel_rfl
end Go.Proofs.YtikldelfdioimaaGreatDoor
/- MEMR6 -/
namespace Go.Proofs.YtikldelfdioimaaGreatDoor
open Go.RowKit Cx
theorem eM_r5 : (callD (sx Tryz.prog eM_N eM_H5 [(101,[]),(18,[]),(20,[.inr (3,107,0,0,0)])] eM_L eM_C eM_Z (prC [9])) eM_cs eM_G 7 [] 3 eM_A [] 0).map (·.1)=some (kB true) := by kernel_rfl
theorem eM_r11 : (callD (sx Tryz.prog eM_N eM_H11 [(101,[]),(18,[]),(20,[.inr (3,103,0,0,0)])] eM_L eM_C eM_Z (prC [9])) eM_cs eM_G 7 [] 3 eM_A [] 0).map (·.1)=some (kB true) := by kernel_rfl
theorem eM_r17 : (callD (sx Tryz.prog eM_N eM_H17 [(101,[]),(18,[]),(20,[.inr (3,103,0,0,0)])] eM_L eM_C eM_Z (prC [9])) eM_cs eM_G 7 [] 3 eM_A [] 0).map (·.1)=some (kB true) := by kernel_rfl
theorem eM_r23 : (callD (sx Tryz.prog eM_N eM_H23 [(101,[]),(18,[]),(20,[.inr (3,97,0,0,0)])] eM_L eM_C eM_Z (prC [9])) eM_cs eM_G 7 [] 3 eM_A [] 0).map (·.1)=some (kB true) := by kernel_rfl
theorem eM_r29 : (callD (sx Tryz.prog eM_N eM_H29 [(101,[]),(18,[]),(20,[.inr (3,103,0,0,0)])] eM_L eM_C eM_Z (prC [9])) eM_cs eM_G 7 [] 3 eM_A [] 0).map (·.1)=some (kB true) := by kernel_rfl
theorem eM_r35 : (callD (sx Tryz.prog eM_N eM_H35 [(101,[]),(18,[]),(20,[.inr (3,103,0,0,0)])] eM_L eM_C eM_Z (prC [9])) eM_cs eM_G 7 [] 3 eM_A [] 0).map (·.1)=some (kB true) := by kernel_rfl
theorem eM_r41 : (callD (sx Tryz.prog eM_N eM_H41 [(101,[]),(18,[]),(20,[.inr (3,99,0,0,0)])] eM_L eM_C eM_Z (prC [9])) eM_cs eM_G 7 [] 3 eM_A [] 0).map (·.1)=some (kB true) := by kernel_rfl
theorem eM_r47 : (callD (sx Tryz.prog eM_N eM_H47 [(101,[]),(18,[]),(20,[.inr (3,99,0,0,0)])] eM_L eM_C eM_Z (prC [9])) eM_cs eM_G 7 [] 3 eM_A [] 0).map (·.1)=some (kB true) := by kernel_rfl
theorem eM_r53 : (callD (sx Tryz.prog eM_N eM_H53 [(101,[]),(18,[]),(20,[.inr (3,99,0,0,0)])] eM_L eM_C eM_Z (prC [9])) eM_cs eM_G 7 [] 3 eM_A [] 0).map (·.1)=some (kB true) := by kernel_rfl
theorem eM_r59 : (callD (sx Tryz.prog eM_N eM_H59 [(101,[]),(18,[]),(20,[.inr (3,87,0,0,0)])] eM_L eM_C eM_Z (prC [9])) eM_cs eM_G 7 [] 3 eM_A [] 0).map (·.1)=some (kB true) := by kernel_rfl
theorem eM_r65 : (callD (sx Tryz.prog eM_N eM_H65 [(101,[]),(18,[]),(20,[.inr (3,87,0,0,0)])] eM_L eM_C eM_Z (prC [9])) eM_cs eM_G 7 [] 3 eM_A [] 0).map (·.1)=some (kB true) := by kernel_rfl
theorem eM_r71 : (callD (sx Tryz.prog eM_N eM_H71 [(101,[]),(18,[]),(20,[.inr (3,87,0,0,0)])] eM_L eM_C eM_Z (prC [9])) eM_cs eM_G 7 [] 3 eM_A [] 0).map (·.1)=some (kB true) := by kernel_rfl
theorem eM_r77 : (callD (sx Tryz.prog eM_N eM_H77 [(101,[]),(18,[]),(20,[.inr (3,87,0,0,0)])] eM_L eM_C eM_Z (prC [9])) eM_cs eM_G 7 [] 3 eM_A [] 0).map (·.1)=some (kB true) := by kernel_rfl
theorem eM_r83 : (callD (sx Tryz.prog eM_N eM_H83 [(101,[]),(18,[]),(20,[.inr (3,87,0,0,0)])] eM_L eM_C eM_Z (prC [9])) eM_cs eM_G 7 [] 3 eM_A [] 0).map (·.1)=some (kB true) := by kernel_rfl
theorem eM_r89 : (callD (sx Tryz.prog eM_N eM_H89 [(101,[]),(18,[]),(20,[.inr (3,87,0,0,0)])] eM_L eM_C eM_Z (prC [9])) eM_cs eM_G 7 [] 3 eM_A [] 0).map (·.1)=some (kB true) := by kernel_rfl
end Go.Proofs.YtikldelfdioimaaGreatDoor
/- MEM -/
namespace Go.Proofs.YtikldelfdioimaaGreatDoor
open Go.RowKit Cx
variable {q : Nat→Rat} {σ : Nat→ByteArray}
theorem eM_An {a b : Prop} (x : a) (y : b) : a∧b := ⟨x,y⟩
theorem eM_leaf {M : Memo} {H : List (Nat × Nat × Nat × Nat)} {K : List (FuncId × List AC)} {k : Nat} {q : Nat→Rat} {σ : Nat→ByteArray} {args : List AV} {vs : List Value} {w : World} (hr : (callD (sx Tryz.prog eM_N H K eM_L eM_C eM_Z (prC [9])) eM_cs M k [] 3 args [] 0).map (·.1)=some (kB true)) (hσ : ∀ j,(σ j).size≤1048576) (hq : ∀ (a : Nat) nd,eM_N[a]? = some nd→q a=valN σ q nd) (h0 : ∀ a,eM_N.length≤a→q a=0) (hH : hAll q H) (hp : PreS w) (hM : MemoAll eM_N eM_L eM_C eM_Z q σ [9] w M) (hA : ∀ K,A2 (avOn (cOn (evS q σ) K (fun _ => none) w)) args vs) : Calls Tryz.prog 3 vs.toArray w fun e w' => Below w.heap.size w w'∧e=.returned (.bool true) :=
 run_toldD' k (hy_ofA hσ eM_wf eM_sz eM_lt eM_cn hq h0 hH) (by simp [closed_spaced]) (by kernel_rfl) hp hM hr (hA K)
theorem eM_leafC {H : List (Nat × Nat × Nat × Nat)} {K : List (FuncId × List AC)} {k : Nat} {q : Nat→Rat} {σ : Nat→ByteArray} {args : List AV} {vs : List Value} {w : World} (hr : (callC (sx Tryz.prog eM_N H K eM_L eM_C eM_Z (prC [9])) eM_cs k [] 3 args [] 0).map (·.1)=some (kB true)) (hσ : ∀ j,(σ j).size≤1048576) (hq : ∀ (a : Nat) nd,eM_N[a]? = some nd→q a=valN σ q nd) (h0 : ∀ a,eM_N.length≤a→q a=0) (hH : hAll q H) (hp : PreS w) (hA : ∀ K,A2 (avOn (cOn (evS q σ) K (fun _ => none) w)) args vs) : Calls Tryz.prog 3 vs.toArray w fun e w' => Below w.heap.size w w'∧e=.returned (.bool true) :=
 run_toldC' k (hy_ofA hσ eM_wf eM_sz eM_lt eM_cn hq h0 hH) (by simp [closed_spaced]) (by kernel_rfl) hr hp (hA K)
theorem eM_walk {w : World} {ga gb gc gd ha hb hc hd ia ib ic id : ByteArray}  (sga : ga.size≤1048576) (sgb : gb.size≤1048576) (sgc : gc.size≤1048576) (sgd : gd.size≤1048576) (sha : ha.size≤1048576) (shb : hb.size≤1048576) (shc : hc.size≤1048576) (shd : hd.size≤1048576) (sia : ia.size≤1048576) (sib : ib.size≤1048576) (sic : ic.size≤1048576) (sid : id.size≤1048576) (tab : Tab w) (mx : MaxL w) :
  Calls Tryz.prog 3 #[.agg #[.string ga,.string gb,.string gc,.string gd],.agg #[.string ha,.string hb,.string hc,.string hd],.agg #[.string ia,.string ib,.string ic,.string id]] w fun e w' => Below w.heap.size w w'∧e=.returned (.bool true) := by
 have hσ : ∀ j,(sgOf [ga,gb,gc,gd,ha,hb,hc,hd,ia,ib,ic,id] j).size≤1048576 := sgOf_size (by simp [sga,sgb,sgc,sgd,sha,shb,shc,shd,sia,sib,sic,sid])
 obtain ⟨q,hq,h0⟩ := nodes_exist (sgOf [ga,gb,gc,gd,ha,hb,hc,hd,ia,ib,ic,id]) eM_N eM_wf
 have hA : ∀ K,A2 (avOn (cOn (evS q (sgOf [ga,gb,gc,gd,ha,hb,hc,hd,ia,ib,ic,id])) K (fun _ => none) w)) [(false,[(true,[.inr (2,0,0,0,0),.inr (2,1,0,0,0),.inr (2,2,0,0,0),.inr (2,3,0,0,0)])]),(false,[(true,[.inr (2,4,0,0,0),.inr (2,5,0,0,0),.inr (2,6,0,0,0),.inr (2,7,0,0,0)])]),(false,[(true,[.inr (2,8,0,0,0),.inr (2,9,0,0,0),.inr (2,10,0,0,0),.inr (2,11,0,0,0)])])] [.agg #[.string ga,.string gb,.string gc,.string gd],.agg #[.string ha,.string hb,.string hc,.string hd],.agg #[.string ia,.string ib,.string ic,.string id]] := fun K => ⟨⟨⟨[.string ga,.string gb,.string gc,.string gd],rfl,rfl,rfl,rfl,rfl,trivial⟩,trivial⟩,⟨⟨[.string ha,.string hb,.string hc,.string hd],rfl,rfl,rfl,rfl,rfl,trivial⟩,trivial⟩,⟨⟨[.string ia,.string ib,.string ic,.string id],rfl,rfl,rfl,rfl,rfl,trivial⟩,trivial⟩,trivial⟩
 by_cases b8 : q 8=0
 ·
  have hH : hAll q eM_H0 := (eM_An (hT b8) trivial)
  exact eM_leaf eM_r0 hσ hq h0 hH ⟨tab,mx⟩ (eM_memoG hσ hq h0 ⟨tab,mx⟩) hA
 ·
  by_cases b21 : q 21=0
  ·
   have hH : hAll q eM_H1 := (eM_An (hF b8) (eM_An (hT b21) trivial))
   exact eM_leaf eM_r1 hσ hq h0 hH ⟨tab,mx⟩ (eM_memoG hσ hq h0 ⟨tab,mx⟩) hA
  ·
   by_cases b34 : q 34=0
   ·
    have hH : hAll q eM_H2 := (eM_An (hF b8) (eM_An (hF b21) (eM_An (hT b34) trivial)))
    exact eM_leaf eM_r2 hσ hq h0 hH ⟨tab,mx⟩ (eM_memoG hσ hq h0 ⟨tab,mx⟩) hA
   ·
    by_cases b54 : q 54=0
    ·
     by_cases b95 : q 95=0
     ·
      by_cases b100 : q 100=0
      ·
       by_cases b114 : q 114=0
       ·
        by_cases b128 : q 128=0
        ·
         by_cases b142 : q 142=0
         ·
          have gT := (eM_pDD hq b8 b21 b34).1 b54
          have b157 : q 157=0 := gT
          by_cases b0 : q 0=0
          ·
           have gk0x13 := (eM_pk0 (fun h => b8 ((eM_pS0 hq).2 h)) ((eM_pDR hq).symm.trans ((eM_pDD hq b8 b21 b34).1 b54)) ((eM_pAB hq b8 b21).1 b100) b0)
           have b13 : q 13=0 := gk0x13
           have gk1x26 := (eM_pk1 (fun h => b8 ((eM_pS0 hq).2 h)) ((eM_pDR hq).symm.trans ((eM_pDD hq b8 b21 b34).1 b54)) ((eM_pAC hq b8 b34).1 b128) b0)
           have b26 : q 26=0 := gk1x26
           by_cases b1 : q 1=0
           ·
            have gk2x14 := (eM_pk2 (fun h => b8 ((eM_pS0 hq).2 h)) ((eM_pDR hq).symm.trans ((eM_pDD hq b8 b21 b34).1 b54)) ((eM_pAB hq b8 b21).1 b100) b1)
            have b14 : q 14=0 := gk2x14
            have gk3x27 := (eM_pk3 (fun h => b8 ((eM_pS0 hq).2 h)) ((eM_pDR hq).symm.trans ((eM_pDD hq b8 b21 b34).1 b54)) ((eM_pAC hq b8 b34).1 b128) b1)
            have b27 : q 27=0 := gk3x27
            have gk4x2 := (eM_pk4 (fun h => b8 ((eM_pS0 hq).2 h)) ((eM_pDR hq).symm.trans ((eM_pDD hq b8 b21 b34).1 b54)) b0 b1)
            have b2 : ¬ (q 2=0) := gk4x2
            have gk5x15 := (eM_pk5 (fun h => b21 ((eM_pS1 hq).2 h)) ((eM_pDR hq).symm.trans ((eM_pDD hq b8 b21 b34).1 b54)) b13 b14)
            have b15 : ¬ (q 15=0) := gk5x15
            have gk6x28 := (eM_pk6 (fun h => b34 ((eM_pS2 hq).2 h)) ((eM_pDR hq).symm.trans ((eM_pDD hq b8 b21 b34).1 b54)) b26 b27)
            have b28 : ¬ (q 28=0) := gk6x28
            have gk7x173 := sp_w1 (eM_pm173 hq b28) b28 (eM_pk7 ((eM_pDR hq).symm.trans ((eM_pDD hq b8 b21 b34).1 b54)) ((eM_pAB hq b8 b21).1 b100) ((eM_pBD hq b8 b21).1 b114) ((eM_pAC hq b8 b34).1 b128) ((eM_pCD hq b8 b34).1 b142) b2)
            have b173 : q 173=0 := gk7x173
            have gk8x175 := sp_w1 (eM_pm175 hq b28) b28 (eM_pk8 ((eM_pDR hq).symm.trans ((eM_pDD hq b8 b21 b34).1 b54)) ((eM_pAB hq b8 b21).1 b100) ((eM_pAC hq b8 b34).1 b128) ((eM_pCD hq b8 b34).1 b142))
            have b175 : q 175=0 := gk8x175
            have hH : hAll q eM_H3 := (eM_An (hF b8) (eM_An (hF b21) (eM_An (hF b34) (eM_An (hT b54) (eM_An (hT b95) (eM_An (hT b100) (eM_An (hT b114) (eM_An (hT b128) (eM_An (hT b142) (eM_An (hT b157) (eM_An (hT b0) (eM_An (hT b13) (eM_An (hT b26) (eM_An (hT b1) (eM_An (hT b14) (eM_An (hT b27) (eM_An (hF b2) (eM_An (hF b15) (eM_An (hF b28) (eM_An (hT b173) (eM_An (hT b175) trivial)))))))))))))))))))))
            exact eM_leaf eM_r3 hσ hq h0 hH ⟨tab,mx⟩ (eM_memoG hσ hq h0 ⟨tab,mx⟩) hA
           ·
            have gk9x14 := (eM_pk9 (fun h => b21 ((eM_pS1 hq).2 h)) ((eM_pDR hq).symm.trans ((eM_pDD hq b8 b21 b34).1 b54)) ((eM_pAB hq b8 b21).1 b100) b1)
            have b14 : ¬ (q 14=0) := gk9x14
            have gk10x27 := (eM_pk10 (fun h => b34 ((eM_pS2 hq).2 h)) ((eM_pDR hq).symm.trans ((eM_pDD hq b8 b21 b34).1 b54)) ((eM_pAC hq b8 b34).1 b128) b1)
            have b27 : ¬ (q 27=0) := gk10x27
            have gk11x182 := sp_w1 (eM_pm182 hq b27) b27 (eM_pk11 ((eM_pDR hq).symm.trans ((eM_pDD hq b8 b21 b34).1 b54)) ((eM_pAB hq b8 b21).1 b100) ((eM_pAC hq b8 b34).1 b128) b1)
            have b182 : q 182=0 := gk11x182
            have gk12x189 := sp_w1 (eM_pm189 hq b27) b27 (eM_pk12 ((eM_pDR hq).symm.trans ((eM_pDD hq b8 b21 b34).1 b54)) ((eM_pAC hq b8 b34).1 b128))
            have b189 : q 189=0 := gk12x189
            have gk13x191 := sp_w1 (eM_pm191 hq b27) b27 (eM_pk13 ((eM_pDR hq).symm.trans ((eM_pDD hq b8 b21 b34).1 b54)) ((eM_pAB hq b8 b21).1 b100) ((eM_pBD hq b8 b21).1 b114) ((eM_pAC hq b8 b34).1 b128) ((eM_pCD hq b8 b34).1 b142) b1)
            have b191 : q 191=0 := gk13x191
            have gk14x193 := sp_w1 (eM_pm193 hq b27) b27 (eM_pk14 ((eM_pDR hq).symm.trans ((eM_pDD hq b8 b21 b34).1 b54)) ((eM_pAB hq b8 b21).1 b100) ((eM_pAC hq b8 b34).1 b128) ((eM_pCD hq b8 b34).1 b142))
            have b193 : q 193=0 := gk14x193
            have hH : hAll q eM_H4 := (eM_An (hF b8) (eM_An (hF b21) (eM_An (hF b34) (eM_An (hT b54) (eM_An (hT b95) (eM_An (hT b100) (eM_An (hT b114) (eM_An (hT b128) (eM_An (hT b142) (eM_An (hT b157) (eM_An (hT b0) (eM_An (hT b13) (eM_An (hT b26) (eM_An (hF b1) (eM_An (hF b14) (eM_An (hF b27) (eM_An (hT b182) (eM_An (hT b189) (eM_An (hT b191) (eM_An (hT b193) trivial))))))))))))))))))))
            exact eM_leaf eM_r4 hσ hq h0 hH ⟨tab,mx⟩ (eM_memoG hσ hq h0 ⟨tab,mx⟩) hA
          ·
           have gk15x13 := (eM_pk15 (fun h => b21 ((eM_pS1 hq).2 h)) ((eM_pDR hq).symm.trans ((eM_pDD hq b8 b21 b34).1 b54)) ((eM_pAB hq b8 b21).1 b100) b0)
           have b13 : ¬ (q 13=0) := gk15x13
           have gk16x26 := (eM_pk16 (fun h => b34 ((eM_pS2 hq).2 h)) ((eM_pDR hq).symm.trans ((eM_pDD hq b8 b21 b34).1 b54)) ((eM_pAC hq b8 b34).1 b128) b0)
           have b26 : ¬ (q 26=0) := gk16x26
           have gk17x198 := sp_w1 (eM_pm198 hq b26) b26 (eM_pk17 ((eM_pDR hq).symm.trans ((eM_pDD hq b8 b21 b34).1 b54)) ((eM_pAB hq b8 b21).1 b100) ((eM_pAC hq b8 b34).1 b128) b0)
           have b198 : q 198=0 := gk17x198
           have gk18x205 := sp_w1 (eM_pm205 hq b26) b26 (eM_pk18 ((eM_pDR hq).symm.trans ((eM_pDD hq b8 b21 b34).1 b54)) ((eM_pAC hq b8 b34).1 b128))
           have b205 : q 205=0 := gk18x205
           have gk19x200 := sp_w1 (eM_pm200 hq b26) b26 (eM_pk19 ((eM_pDR hq).symm.trans ((eM_pDD hq b8 b21 b34).1 b54)) ((eM_pAB hq b8 b21).1 b100) ((eM_pAC hq b8 b34).1 b128) b0)
           have b200 : q 200=0 := gk19x200
           have gk20x207 := sp_w1 (eM_pm207 hq b26) b26 (eM_pk20 ((eM_pDR hq).symm.trans ((eM_pDD hq b8 b21 b34).1 b54)) ((eM_pAC hq b8 b34).1 b128))
           have b207 : q 207=0 := gk20x207
           have gk21x209 := sp_w1 (eM_pm209 hq b26) b26 (eM_pk21 ((eM_pDR hq).symm.trans ((eM_pDD hq b8 b21 b34).1 b54)) ((eM_pAB hq b8 b21).1 b100) ((eM_pBD hq b8 b21).1 b114) ((eM_pAC hq b8 b34).1 b128) ((eM_pCD hq b8 b34).1 b142) b0)
           have b209 : q 209=0 := gk21x209
           have gk22x211 := sp_w1 (eM_pm211 hq b26) b26 (eM_pk22 ((eM_pDR hq).symm.trans ((eM_pDD hq b8 b21 b34).1 b54)) ((eM_pAB hq b8 b21).1 b100) ((eM_pAC hq b8 b34).1 b128) ((eM_pCD hq b8 b34).1 b142))
           have b211 : q 211=0 := gk22x211
           have hH : hAll q eM_H5 := (eM_An (hF b8) (eM_An (hF b21) (eM_An (hF b34) (eM_An (hT b54) (eM_An (hT b95) (eM_An (hT b100) (eM_An (hT b114) (eM_An (hT b128) (eM_An (hT b142) (eM_An (hT b157) (eM_An (hF b0) (eM_An (hF b13) (eM_An (hF b26) (eM_An (hT b198) (eM_An (hT b205) (eM_An (hT b200) (eM_An (hT b207) (eM_An (hT b209) (eM_An (hT b211) trivial)))))))))))))))))))
           exact eM_leaf eM_r5 hσ hq h0 hH ⟨tab,mx⟩ (eM_memoG hσ hq h0 ⟨tab,mx⟩) hA
         ·
          have gT := (eM_pDD hq b8 b21 b34).1 b54
          have b157 : q 157=0 := gT
          by_cases b0 : q 0=0
          ·
           have gk23x13 := (eM_pk23 ((eM_pDR hq).symm.trans ((eM_pDD hq b8 b21 b34).1 b54)) ((eM_pAB hq b8 b21).1 b100) ((eM_pBD hq b8 b21).1 b114) (fun h => b142 ((eM_pCD hq b8 b34).2 h)) b0)
           have b13 : q 13=0 := gk23x13
           have gk24x26 := (eM_pk24 (fun h => b21 ((eM_pS1 hq).2 h)) ((eM_pDR hq).symm.trans ((eM_pDD hq b8 b21 b34).1 b54)) ((eM_pBD hq b8 b21).1 b114) ((eM_pAC hq b8 b34).1 b128) (fun h => b142 ((eM_pCD hq b8 b34).2 h)) b0)
           have b26 : q 26=0 := gk24x26
           by_cases b1 : q 1=0
           ·
            have gk25x14 := (eM_pk25 ((eM_pDR hq).symm.trans ((eM_pDD hq b8 b21 b34).1 b54)) ((eM_pAB hq b8 b21).1 b100) ((eM_pBD hq b8 b21).1 b114) (fun h => b142 ((eM_pCD hq b8 b34).2 h)) b1)
            have b14 : q 14=0 := gk25x14
            have gk26x27 := (eM_pk26 (fun h => b21 ((eM_pS1 hq).2 h)) ((eM_pDR hq).symm.trans ((eM_pDD hq b8 b21 b34).1 b54)) ((eM_pBD hq b8 b21).1 b114) ((eM_pAC hq b8 b34).1 b128) (fun h => b142 ((eM_pCD hq b8 b34).2 h)) b1)
            have b27 : q 27=0 := gk26x27
            have gk27x2 := (eM_pk27 (fun h => b21 ((eM_pS1 hq).2 h)) ((eM_pDR hq).symm.trans ((eM_pDD hq b8 b21 b34).1 b54)) ((eM_pBD hq b8 b21).1 b114) (fun h => b142 ((eM_pCD hq b8 b34).2 h)) b0 b1)
            have b2 : ¬ (q 2=0) := gk27x2
            have gk5x15 := (eM_pk5 (fun h => b21 ((eM_pS1 hq).2 h)) ((eM_pDR hq).symm.trans ((eM_pDD hq b8 b21 b34).1 b54)) b13 b14)
            have b15 : ¬ (q 15=0) := gk5x15
            have gk6x28 := (eM_pk6 (fun h => b34 ((eM_pS2 hq).2 h)) ((eM_pDR hq).symm.trans ((eM_pDD hq b8 b21 b34).1 b54)) b26 b27)
            have b28 : ¬ (q 28=0) := gk6x28
            have gk28x173 := sp_w0 (eM_pm173 hq b28) (eM_pk28 ((eM_pDR hq).symm.trans ((eM_pDD hq b8 b21 b34).1 b54)) ((eM_pAB hq b8 b21).1 b100) ((eM_pBD hq b8 b21).1 b114) ((eM_pAC hq b8 b34).1 b128) (fun h => b142 ((eM_pCD hq b8 b34).2 h)) b15)
            have b173 : ¬ (q 173=0) := gk28x173
            have gk29x175 := sp_w0 (eM_pm175 hq b28) (eM_pk29 ((eM_pDR hq).symm.trans ((eM_pDD hq b8 b21 b34).1 b54)) ((eM_pAB hq b8 b21).1 b100) ((eM_pAC hq b8 b34).1 b128) (fun h => b142 ((eM_pCD hq b8 b34).2 h)) b28)
            have b175 : ¬ (q 175=0) := gk29x175
            have hH : hAll q eM_H6 := (eM_An (hF b8) (eM_An (hF b21) (eM_An (hF b34) (eM_An (hT b54) (eM_An (hT b95) (eM_An (hT b100) (eM_An (hT b114) (eM_An (hT b128) (eM_An (hF b142) (eM_An (hT b157) (eM_An (hT b0) (eM_An (hT b13) (eM_An (hT b26) (eM_An (hT b1) (eM_An (hT b14) (eM_An (hT b27) (eM_An (hF b2) (eM_An (hF b15) (eM_An (hF b28) (eM_An (hF b173) (eM_An (hF b175) trivial)))))))))))))))))))))
            exact eM_leaf eM_r6 hσ hq h0 hH ⟨tab,mx⟩ (eM_memoG hσ hq h0 ⟨tab,mx⟩) hA
           ·
            have gk9x14 := (eM_pk9 (fun h => b21 ((eM_pS1 hq).2 h)) ((eM_pDR hq).symm.trans ((eM_pDD hq b8 b21 b34).1 b54)) ((eM_pAB hq b8 b21).1 b100) b1)
            have b14 : ¬ (q 14=0) := gk9x14
            have gk10x27 := (eM_pk10 (fun h => b34 ((eM_pS2 hq).2 h)) ((eM_pDR hq).symm.trans ((eM_pDD hq b8 b21 b34).1 b54)) ((eM_pAC hq b8 b34).1 b128) b1)
            have b27 : ¬ (q 27=0) := gk10x27
            have gk11x182 := sp_w1 (eM_pm182 hq b27) b27 (eM_pk11 ((eM_pDR hq).symm.trans ((eM_pDD hq b8 b21 b34).1 b54)) ((eM_pAB hq b8 b21).1 b100) ((eM_pAC hq b8 b34).1 b128) b1)
            have b182 : q 182=0 := gk11x182
            have gk12x189 := sp_w1 (eM_pm189 hq b27) b27 (eM_pk12 ((eM_pDR hq).symm.trans ((eM_pDD hq b8 b21 b34).1 b54)) ((eM_pAC hq b8 b34).1 b128))
            have b189 : q 189=0 := gk12x189
            have gk30x191 := sp_w0 (eM_pm191 hq b27) (eM_pk30 ((eM_pDR hq).symm.trans ((eM_pDD hq b8 b21 b34).1 b54)) ((eM_pAB hq b8 b21).1 b100) ((eM_pBD hq b8 b21).1 b114) ((eM_pAC hq b8 b34).1 b128) (fun h => b142 ((eM_pCD hq b8 b34).2 h)) b14)
            have b191 : ¬ (q 191=0) := gk30x191
            have gk31x193 := sp_w0 (eM_pm193 hq b27) (eM_pk31 ((eM_pDR hq).symm.trans ((eM_pDD hq b8 b21 b34).1 b54)) ((eM_pAB hq b8 b21).1 b100) ((eM_pAC hq b8 b34).1 b128) (fun h => b142 ((eM_pCD hq b8 b34).2 h)) b27)
            have b193 : ¬ (q 193=0) := gk31x193
            have hH : hAll q eM_H7 := (eM_An (hF b8) (eM_An (hF b21) (eM_An (hF b34) (eM_An (hT b54) (eM_An (hT b95) (eM_An (hT b100) (eM_An (hT b114) (eM_An (hT b128) (eM_An (hF b142) (eM_An (hT b157) (eM_An (hT b0) (eM_An (hT b13) (eM_An (hT b26) (eM_An (hF b1) (eM_An (hF b14) (eM_An (hF b27) (eM_An (hT b182) (eM_An (hT b189) (eM_An (hF b191) (eM_An (hF b193) trivial))))))))))))))))))))
            exact eM_leaf eM_r7 hσ hq h0 hH ⟨tab,mx⟩ (eM_memoG hσ hq h0 ⟨tab,mx⟩) hA
          ·
           have gk15x13 := (eM_pk15 (fun h => b21 ((eM_pS1 hq).2 h)) ((eM_pDR hq).symm.trans ((eM_pDD hq b8 b21 b34).1 b54)) ((eM_pAB hq b8 b21).1 b100) b0)
           have b13 : ¬ (q 13=0) := gk15x13
           have gk16x26 := (eM_pk16 (fun h => b34 ((eM_pS2 hq).2 h)) ((eM_pDR hq).symm.trans ((eM_pDD hq b8 b21 b34).1 b54)) ((eM_pAC hq b8 b34).1 b128) b0)
           have b26 : ¬ (q 26=0) := gk16x26
           have gk17x198 := sp_w1 (eM_pm198 hq b26) b26 (eM_pk17 ((eM_pDR hq).symm.trans ((eM_pDD hq b8 b21 b34).1 b54)) ((eM_pAB hq b8 b21).1 b100) ((eM_pAC hq b8 b34).1 b128) b0)
           have b198 : q 198=0 := gk17x198
           have gk18x205 := sp_w1 (eM_pm205 hq b26) b26 (eM_pk18 ((eM_pDR hq).symm.trans ((eM_pDD hq b8 b21 b34).1 b54)) ((eM_pAC hq b8 b34).1 b128))
           have b205 : q 205=0 := gk18x205
           have gk19x200 := sp_w1 (eM_pm200 hq b26) b26 (eM_pk19 ((eM_pDR hq).symm.trans ((eM_pDD hq b8 b21 b34).1 b54)) ((eM_pAB hq b8 b21).1 b100) ((eM_pAC hq b8 b34).1 b128) b0)
           have b200 : q 200=0 := gk19x200
           have gk20x207 := sp_w1 (eM_pm207 hq b26) b26 (eM_pk20 ((eM_pDR hq).symm.trans ((eM_pDD hq b8 b21 b34).1 b54)) ((eM_pAC hq b8 b34).1 b128))
           have b207 : q 207=0 := gk20x207
           have gk32x209 := sp_w0 (eM_pm209 hq b26) (eM_pk32 ((eM_pDR hq).symm.trans ((eM_pDD hq b8 b21 b34).1 b54)) ((eM_pAB hq b8 b21).1 b100) ((eM_pBD hq b8 b21).1 b114) ((eM_pAC hq b8 b34).1 b128) (fun h => b142 ((eM_pCD hq b8 b34).2 h)) b13)
           have b209 : ¬ (q 209=0) := gk32x209
           have gk33x211 := sp_w0 (eM_pm211 hq b26) (eM_pk33 ((eM_pDR hq).symm.trans ((eM_pDD hq b8 b21 b34).1 b54)) ((eM_pAB hq b8 b21).1 b100) ((eM_pAC hq b8 b34).1 b128) (fun h => b142 ((eM_pCD hq b8 b34).2 h)) (sp_z1 (eM_pm198 hq b26) b198) (sp_z1 (eM_pm200 hq b26) b200) (sp_z0 (eM_pm209 hq b26) b26 b209))
           have b211 : ¬ (q 211=0) := gk33x211
           have hH : hAll q eM_H8 := (eM_An (hF b8) (eM_An (hF b21) (eM_An (hF b34) (eM_An (hT b54) (eM_An (hT b95) (eM_An (hT b100) (eM_An (hT b114) (eM_An (hT b128) (eM_An (hF b142) (eM_An (hT b157) (eM_An (hF b0) (eM_An (hF b13) (eM_An (hF b26) (eM_An (hT b198) (eM_An (hT b205) (eM_An (hT b200) (eM_An (hT b207) (eM_An (hF b209) (eM_An (hF b211) trivial)))))))))))))))))))
           exact eM_leaf eM_r8 hσ hq h0 hH ⟨tab,mx⟩ (eM_memoG hσ hq h0 ⟨tab,mx⟩) hA
        ·
         have gT := (eM_pDD hq b8 b21 b34).1 b54
         have b157 : q 157=0 := gT
         by_cases b0 : q 0=0
         ·
          have gk34x13 := (eM_pk34 ((eM_pDR hq).symm.trans ((eM_pDD hq b8 b21 b34).1 b54)) ((eM_pAB hq b8 b21).1 b100) (fun h => b128 ((eM_pAC hq b8 b34).2 h)) b0)
          have b13 : q 13=0 := gk34x13
          by_cases b26 : q 26=0
          ·
           by_cases b1 : q 1=0
           ·
            have gk35x14 := (eM_pk35 ((eM_pDR hq).symm.trans ((eM_pDD hq b8 b21 b34).1 b54)) ((eM_pAB hq b8 b21).1 b100) (fun h => b128 ((eM_pAC hq b8 b34).2 h)) b1)
            have b14 : q 14=0 := gk35x14
            have gk36x27 := (eM_pk36 ((eM_pDR hq).symm.trans ((eM_pDD hq b8 b21 b34).1 b54)) (fun h => b128 ((eM_pAC hq b8 b34).2 h)) b0 b26 b1)
            have b27 : ¬ (q 27=0) := gk36x27
            have gk37x182 := sp_w0 (eM_pm182 hq b27) (eM_pk37 (fun h => b21 ((eM_pS1 hq).2 h)) ((eM_pDR hq).symm.trans ((eM_pDD hq b8 b21 b34).1 b54)) b13 b14 b27)
            have b182 : ¬ (q 182=0) := gk37x182
            have gk38x189 := sp_w0 (eM_pm189 hq b27) (eM_pk38 ((eM_pDR hq).symm.trans ((eM_pDD hq b8 b21 b34).1 b54)) (fun h => b128 ((eM_pAC hq b8 b34).2 h)) (sp_z0 (eM_pm182 hq b27) b27 b182))
            have b189 : ¬ (q 189=0) := gk38x189
            have gk39x247 := sp_w1 (eM_pm247 hq b27 b189 (eM_pm191 hq b27) (eM_pm193 hq b27) (eM_pm182 hq b27) (eM_pm189 hq b27)) (sp_z0 (eM_pm189 hq b27) b27 b189) (eM_pk39 ((eM_pDR hq).symm.trans ((eM_pDD hq b8 b21 b34).1 b54)) ((eM_pBD hq b8 b21).1 b114) b1 b14)
            have b247 : q 247=0 := gk39x247
            have hH : hAll q eM_H9 := (eM_An (hF b8) (eM_An (hF b21) (eM_An (hF b34) (eM_An (hT b54) (eM_An (hT b95) (eM_An (hT b100) (eM_An (hT b114) (eM_An (hF b128) (eM_An (hT b157) (eM_An (hT b0) (eM_An (hT b13) (eM_An (hT b26) (eM_An (hT b1) (eM_An (hT b14) (eM_An (hF b27) (eM_An (hF b182) (eM_An (hF b189) (eM_An (hT b247) trivial))))))))))))))))))
            exact eM_leaf eM_r9 hσ hq h0 hH ⟨tab,mx⟩ (eM_memoG hσ hq h0 ⟨tab,mx⟩) hA
           ·
            have gk9x14 := (eM_pk9 (fun h => b21 ((eM_pS1 hq).2 h)) ((eM_pDR hq).symm.trans ((eM_pDD hq b8 b21 b34).1 b54)) ((eM_pAB hq b8 b21).1 b100) b1)
            have b14 : ¬ (q 14=0) := gk9x14
            by_cases b27 : q 27=0
            ·
             have gk40x254 := sp_w1 (eM_pm254 hq b14) b14 (eM_pk40 ((eM_pDR hq).symm.trans ((eM_pDD hq b8 b21 b34).1 b54)) ((eM_pAB hq b8 b21).1 b100))
             have b254 : q 254=0 := gk40x254
             have gk41x261 := sp_w0 (eM_pm261 hq b14) (eM_pk41 ((eM_pDR hq).symm.trans ((eM_pDD hq b8 b21 b34).1 b54)) (fun h => b128 ((eM_pAC hq b8 b34).2 h)) b26 b14 b27)
             have b261 : ¬ (q 261=0) := gk41x261
             have gk42x274 := sp_w1 (eM_pm274 hq b14 b261 (eM_pm270 hq b14) (eM_pm272 hq b14) (eM_pm254 hq b14) (eM_pm261 hq b14)) (sp_z0 (eM_pm261 hq b14) b14 b261) (eM_pk42 ((eM_pDR hq).symm.trans ((eM_pDD hq b8 b21 b34).1 b54)) ((eM_pBD hq b8 b21).1 b114) (sp_z1 (eM_pm254 hq b14) b254))
             have b274 : q 274=0 := gk42x274
             have hH : hAll q eM_H10 := (eM_An (hF b8) (eM_An (hF b21) (eM_An (hF b34) (eM_An (hT b54) (eM_An (hT b95) (eM_An (hT b100) (eM_An (hT b114) (eM_An (hF b128) (eM_An (hT b157) (eM_An (hT b0) (eM_An (hT b13) (eM_An (hT b26) (eM_An (hF b1) (eM_An (hF b14) (eM_An (hT b27) (eM_An (hT b254) (eM_An (hF b261) (eM_An (hT b274) trivial))))))))))))))))))
             exact eM_leaf eM_r10 hσ hq h0 hH ⟨tab,mx⟩ (eM_memoG hσ hq h0 ⟨tab,mx⟩) hA
            ·
             have gk43x182 := sp_w0 (eM_pm182 hq b27) (eM_pk43 ((eM_pDR hq).symm.trans ((eM_pDD hq b8 b21 b34).1 b54)) ((eM_pAB hq b8 b21).1 b100) (fun h => b128 ((eM_pAC hq b8 b34).2 h)) b13 b26 b14)
             have b182 : ¬ (q 182=0) := gk43x182
             have gk38x189 := sp_w0 (eM_pm189 hq b27) (eM_pk38 ((eM_pDR hq).symm.trans ((eM_pDD hq b8 b21 b34).1 b54)) (fun h => b128 ((eM_pAC hq b8 b34).2 h)) (sp_z0 (eM_pm182 hq b27) b27 b182))
             have b189 : ¬ (q 189=0) := gk38x189
             have gk44x247 := sp_w1 (eM_pm247 hq b27 b189 (eM_pm191 hq b27) (eM_pm193 hq b27) (eM_pm182 hq b27) (eM_pm189 hq b27)) (sp_z0 (eM_pm189 hq b27) b27 b189) (eM_pk44 ((eM_pDR hq).symm.trans ((eM_pDD hq b8 b21 b34).1 b54)) ((eM_pAB hq b8 b21).1 b100) ((eM_pBD hq b8 b21).1 b114))
             have b247 : q 247=0 := gk44x247
             have hH : hAll q eM_H11 := (eM_An (hF b8) (eM_An (hF b21) (eM_An (hF b34) (eM_An (hT b54) (eM_An (hT b95) (eM_An (hT b100) (eM_An (hT b114) (eM_An (hF b128) (eM_An (hT b157) (eM_An (hT b0) (eM_An (hT b13) (eM_An (hT b26) (eM_An (hF b1) (eM_An (hF b14) (eM_An (hF b27) (eM_An (hF b182) (eM_An (hF b189) (eM_An (hT b247) trivial))))))))))))))))))
             exact eM_leaf eM_r11 hσ hq h0 hH ⟨tab,mx⟩ (eM_memoG hσ hq h0 ⟨tab,mx⟩) hA
          ·
           by_cases b198 : q 198=0
           ·
            have gk45x205 := sp_w1 (eM_pm205 hq b26) b26 (eM_pk45 (fun h => b21 ((eM_pS1 hq).2 h)) ((eM_pDR hq).symm.trans ((eM_pDD hq b8 b21 b34).1 b54)) b13 b26 (sp_z1 (eM_pm198 hq b26) b198))
            have b205 : q 205=0 := gk45x205
            have gk46x200 := sp_w0 (eM_pm200 hq b26) (eM_pk46 (fun h => b21 ((eM_pS1 hq).2 h)) ((eM_pDR hq).symm.trans ((eM_pDD hq b8 b21 b34).1 b54)) b13 b26 (sp_z1 (eM_pm198 hq b26) b198))
            have b200 : ¬ (q 200=0) := gk46x200
            have gk47x207 := sp_w0 (eM_pm207 hq b26) (eM_pk47 ((eM_pDR hq).symm.trans ((eM_pDD hq b8 b21 b34).1 b54)) (fun h => b128 ((eM_pAC hq b8 b34).2 h)) (sp_z0 (eM_pm200 hq b26) b26 b200))
            have b207 : ¬ (q 207=0) := gk47x207
            have gk48x283 := sp_w1 (eM_pm283 hq b26 b207 (eM_pm209 hq b26) (eM_pm211 hq b26) (eM_pm200 hq b26) (eM_pm207 hq b26)) (sp_z0 (eM_pm207 hq b26) b26 b207) (eM_pk48 ((eM_pDR hq).symm.trans ((eM_pDD hq b8 b21 b34).1 b54)) ((eM_pBD hq b8 b21).1 b114) b0 b13)
            have b283 : q 283=0 := gk48x283
            have hH : hAll q eM_H12 := (eM_An (hF b8) (eM_An (hF b21) (eM_An (hF b34) (eM_An (hT b54) (eM_An (hT b95) (eM_An (hT b100) (eM_An (hT b114) (eM_An (hF b128) (eM_An (hT b157) (eM_An (hT b0) (eM_An (hT b13) (eM_An (hF b26) (eM_An (hT b198) (eM_An (hT b205) (eM_An (hF b200) (eM_An (hF b207) (eM_An (hT b283) trivial)))))))))))))))))
            exact eM_leaf eM_r12 hσ hq h0 hH ⟨tab,mx⟩ (eM_memoG hσ hq h0 ⟨tab,mx⟩) hA
           ·
            have gk49x205 := sp_w0 (eM_pm205 hq b26) (eM_pk49 ((eM_pDR hq).symm.trans ((eM_pDD hq b8 b21 b34).1 b54)) (fun h => b128 ((eM_pAC hq b8 b34).2 h)) (sp_z0 (eM_pm198 hq b26) b26 b198))
            have b205 : ¬ (q 205=0) := gk49x205
            have gk50x290 := sp_w1 (eM_pm290 hq b26 b205 (eM_pm200 hq b26) (eM_pm207 hq b26) (eM_pm198 hq b26) (eM_pm205 hq b26)) (sp_z0 (eM_pm205 hq b26) b26 b205) (eM_pk50 ((eM_pDR hq).symm.trans ((eM_pDD hq b8 b21 b34).1 b54)))
            have b290 : q 290=0 := gk50x290
            have gk51x292 := sp_w1 (eM_pm292 hq b26 b205 (eM_pm209 hq b26) (eM_pm211 hq b26) (eM_pm198 hq b26) (eM_pm205 hq b26)) (sp_z0 (eM_pm205 hq b26) b26 b205) (eM_pk51 ((eM_pDR hq).symm.trans ((eM_pDD hq b8 b21 b34).1 b54)) ((eM_pBD hq b8 b21).1 b114) b0 b13)
            have b292 : q 292=0 := gk51x292
            have hH : hAll q eM_H13 := (eM_An (hF b8) (eM_An (hF b21) (eM_An (hF b34) (eM_An (hT b54) (eM_An (hT b95) (eM_An (hT b100) (eM_An (hT b114) (eM_An (hF b128) (eM_An (hT b157) (eM_An (hT b0) (eM_An (hT b13) (eM_An (hF b26) (eM_An (hF b198) (eM_An (hF b205) (eM_An (hT b290) (eM_An (hT b292) trivial))))))))))))))))
            exact eM_leaf eM_r13 hσ hq h0 hH ⟨tab,mx⟩ (eM_memoG hσ hq h0 ⟨tab,mx⟩) hA
         ·
          have gk15x13 := (eM_pk15 (fun h => b21 ((eM_pS1 hq).2 h)) ((eM_pDR hq).symm.trans ((eM_pDD hq b8 b21 b34).1 b54)) ((eM_pAB hq b8 b21).1 b100) b0)
          have b13 : ¬ (q 13=0) := gk15x13
          by_cases b26 : q 26=0
          ·
           have gk52x297 := sp_w1 (eM_pm297 hq b13) b13 (eM_pk52 ((eM_pDR hq).symm.trans ((eM_pDD hq b8 b21 b34).1 b54)) ((eM_pAB hq b8 b21).1 b100))
           have b297 : q 297=0 := gk52x297
           by_cases b304 : q 304=0
           ·
            have gk53x299 := sp_w1 (eM_pm299 hq b13) b13 (eM_pk53 ((eM_pDR hq).symm.trans ((eM_pDD hq b8 b21 b34).1 b54)) ((eM_pAB hq b8 b21).1 b100))
            have b299 : q 299=0 := gk53x299
            have gk54x306 := sp_w0 (eM_pm306 hq b13) (eM_pk54 ((eM_pDR hq).symm.trans ((eM_pDD hq b8 b21 b34).1 b54)) (fun h => b128 ((eM_pAC hq b8 b34).2 h)) b13 (sp_z1 (eM_pm297 hq b13) b297) (sp_z1 (eM_pm304 hq b13) b304) (sp_z1 (eM_pm299 hq b13) b299))
            have b306 : ¬ (q 306=0) := gk54x306
            have gk55x319 := sp_w1 (eM_pm319 hq b13 b306 (eM_pm315 hq b13) (eM_pm317 hq b13) (eM_pm299 hq b13) (eM_pm306 hq b13)) (sp_z0 (eM_pm306 hq b13) b13 b306) (eM_pk55 ((eM_pDR hq).symm.trans ((eM_pDD hq b8 b21 b34).1 b54)) ((eM_pBD hq b8 b21).1 b114) (sp_z1 (eM_pm299 hq b13) b299))
            have b319 : q 319=0 := gk55x319
            have hH : hAll q eM_H14 := (eM_An (hF b8) (eM_An (hF b21) (eM_An (hF b34) (eM_An (hT b54) (eM_An (hT b95) (eM_An (hT b100) (eM_An (hT b114) (eM_An (hF b128) (eM_An (hT b157) (eM_An (hF b0) (eM_An (hF b13) (eM_An (hT b26) (eM_An (hT b297) (eM_An (hT b304) (eM_An (hT b299) (eM_An (hF b306) (eM_An (hT b319) trivial)))))))))))))))))
            exact eM_leaf eM_r14 hσ hq h0 hH ⟨tab,mx⟩ (eM_memoG hσ hq h0 ⟨tab,mx⟩) hA
           ·
            have gk56x326 := sp_w1 (eM_pm326 hq b13 b304 (eM_pm299 hq b13) (eM_pm306 hq b13) (eM_pm297 hq b13) (eM_pm304 hq b13)) (sp_z0 (eM_pm304 hq b13) b13 b304) (eM_pk56 ((eM_pDR hq).symm.trans ((eM_pDD hq b8 b21 b34).1 b54)))
            have b326 : q 326=0 := gk56x326
            have gk57x328 := sp_w1 (eM_pm328 hq b13 b304 (eM_pm315 hq b13) (eM_pm317 hq b13) (eM_pm297 hq b13) (eM_pm304 hq b13)) (sp_z0 (eM_pm304 hq b13) b13 b304) (eM_pk57 ((eM_pDR hq).symm.trans ((eM_pDD hq b8 b21 b34).1 b54)) ((eM_pBD hq b8 b21).1 b114) (sp_z1 (eM_pm297 hq b13) b297))
            have b328 : q 328=0 := gk57x328
            have hH : hAll q eM_H15 := (eM_An (hF b8) (eM_An (hF b21) (eM_An (hF b34) (eM_An (hT b54) (eM_An (hT b95) (eM_An (hT b100) (eM_An (hT b114) (eM_An (hF b128) (eM_An (hT b157) (eM_An (hF b0) (eM_An (hF b13) (eM_An (hT b26) (eM_An (hT b297) (eM_An (hF b304) (eM_An (hT b326) (eM_An (hT b328) trivial))))))))))))))))
            exact eM_leaf eM_r15 hσ hq h0 hH ⟨tab,mx⟩ (eM_memoG hσ hq h0 ⟨tab,mx⟩) hA
          ·
           by_cases b198 : q 198=0
           ·
            have gk58x205 := sp_w1 (eM_pm205 hq b26) b26 (eM_pk58 ((eM_pDR hq).symm.trans ((eM_pDD hq b8 b21 b34).1 b54)) ((eM_pAB hq b8 b21).1 b100) b13 (sp_z1 (eM_pm198 hq b26) b198))
            have b205 : q 205=0 := gk58x205
            have gk59x200 := sp_w0 (eM_pm200 hq b26) (eM_pk59 ((eM_pDR hq).symm.trans ((eM_pDD hq b8 b21 b34).1 b54)) ((eM_pAB hq b8 b21).1 b100) (fun h => b128 ((eM_pAC hq b8 b34).2 h)) b13 (sp_z1 (eM_pm205 hq b26) b205))
            have b200 : ¬ (q 200=0) := gk59x200
            have gk47x207 := sp_w0 (eM_pm207 hq b26) (eM_pk47 ((eM_pDR hq).symm.trans ((eM_pDD hq b8 b21 b34).1 b54)) (fun h => b128 ((eM_pAC hq b8 b34).2 h)) (sp_z0 (eM_pm200 hq b26) b26 b200))
            have b207 : ¬ (q 207=0) := gk47x207
            have gk60x283 := sp_w1 (eM_pm283 hq b26 b207 (eM_pm209 hq b26) (eM_pm211 hq b26) (eM_pm200 hq b26) (eM_pm207 hq b26)) (sp_z0 (eM_pm207 hq b26) b26 b207) (eM_pk60 ((eM_pDR hq).symm.trans ((eM_pDD hq b8 b21 b34).1 b54)) ((eM_pAB hq b8 b21).1 b100) ((eM_pBD hq b8 b21).1 b114))
            have b283 : q 283=0 := gk60x283
            have hH : hAll q eM_H16 := (eM_An (hF b8) (eM_An (hF b21) (eM_An (hF b34) (eM_An (hT b54) (eM_An (hT b95) (eM_An (hT b100) (eM_An (hT b114) (eM_An (hF b128) (eM_An (hT b157) (eM_An (hF b0) (eM_An (hF b13) (eM_An (hF b26) (eM_An (hT b198) (eM_An (hT b205) (eM_An (hF b200) (eM_An (hF b207) (eM_An (hT b283) trivial)))))))))))))))))
            exact eM_leaf eM_r16 hσ hq h0 hH ⟨tab,mx⟩ (eM_memoG hσ hq h0 ⟨tab,mx⟩) hA
           ·
            have gk49x205 := sp_w0 (eM_pm205 hq b26) (eM_pk49 ((eM_pDR hq).symm.trans ((eM_pDD hq b8 b21 b34).1 b54)) (fun h => b128 ((eM_pAC hq b8 b34).2 h)) (sp_z0 (eM_pm198 hq b26) b26 b198))
            have b205 : ¬ (q 205=0) := gk49x205
            have gk50x290 := sp_w1 (eM_pm290 hq b26 b205 (eM_pm200 hq b26) (eM_pm207 hq b26) (eM_pm198 hq b26) (eM_pm205 hq b26)) (sp_z0 (eM_pm205 hq b26) b26 b205) (eM_pk50 ((eM_pDR hq).symm.trans ((eM_pDD hq b8 b21 b34).1 b54)))
            have b290 : q 290=0 := gk50x290
            have gk61x292 := sp_w1 (eM_pm292 hq b26 b205 (eM_pm209 hq b26) (eM_pm211 hq b26) (eM_pm198 hq b26) (eM_pm205 hq b26)) (sp_z0 (eM_pm205 hq b26) b26 b205) (eM_pk61 ((eM_pDR hq).symm.trans ((eM_pDD hq b8 b21 b34).1 b54)) ((eM_pAB hq b8 b21).1 b100) ((eM_pBD hq b8 b21).1 b114))
            have b292 : q 292=0 := gk61x292
            have hH : hAll q eM_H17 := (eM_An (hF b8) (eM_An (hF b21) (eM_An (hF b34) (eM_An (hT b54) (eM_An (hT b95) (eM_An (hT b100) (eM_An (hT b114) (eM_An (hF b128) (eM_An (hT b157) (eM_An (hF b0) (eM_An (hF b13) (eM_An (hF b26) (eM_An (hF b198) (eM_An (hF b205) (eM_An (hT b290) (eM_An (hT b292) trivial))))))))))))))))
            exact eM_leaf eM_r17 hσ hq h0 hH ⟨tab,mx⟩ (eM_memoG hσ hq h0 ⟨tab,mx⟩) hA
       ·
        have gT := (eM_pDD hq b8 b21 b34).1 b54
        have b157 : q 157=0 := gT
        by_cases b0 : q 0=0
        ·
         have gk0x13 := (eM_pk0 (fun h => b8 ((eM_pS0 hq).2 h)) ((eM_pDR hq).symm.trans ((eM_pDD hq b8 b21 b34).1 b54)) ((eM_pAB hq b8 b21).1 b100) b0)
         have b13 : q 13=0 := gk0x13
         have gk62x26 := (eM_pk62 ((eM_pDR hq).symm.trans ((eM_pDD hq b8 b21 b34).1 b54)) ((eM_pO hq b8 b21 b34).1 b95) (fun h => b114 ((eM_pBD hq b8 b21).2 h)) b0 b13)
         have b26 : q 26=0 := gk62x26
         by_cases b1 : q 1=0
         ·
          have gk2x14 := (eM_pk2 (fun h => b8 ((eM_pS0 hq).2 h)) ((eM_pDR hq).symm.trans ((eM_pDD hq b8 b21 b34).1 b54)) ((eM_pAB hq b8 b21).1 b100) b1)
          have b14 : q 14=0 := gk2x14
          have gk63x27 := (eM_pk63 ((eM_pDR hq).symm.trans ((eM_pDD hq b8 b21 b34).1 b54)) ((eM_pO hq b8 b21 b34).1 b95) (fun h => b114 ((eM_pBD hq b8 b21).2 h)) b1 b14)
          have b27 : q 27=0 := gk63x27
          have gk4x2 := (eM_pk4 (fun h => b8 ((eM_pS0 hq).2 h)) ((eM_pDR hq).symm.trans ((eM_pDD hq b8 b21 b34).1 b54)) b0 b1)
          have b2 : ¬ (q 2=0) := gk4x2
          have gk5x15 := (eM_pk5 (fun h => b21 ((eM_pS1 hq).2 h)) ((eM_pDR hq).symm.trans ((eM_pDD hq b8 b21 b34).1 b54)) b13 b14)
          have b15 : ¬ (q 15=0) := gk5x15
          have gk6x28 := (eM_pk6 (fun h => b34 ((eM_pS2 hq).2 h)) ((eM_pDR hq).symm.trans ((eM_pDD hq b8 b21 b34).1 b54)) b26 b27)
          have b28 : ¬ (q 28=0) := gk6x28
          by_cases b173 : q 173=0
          ·
           have gk64x175 := sp_w0 (eM_pm175 hq b28) (eM_pk64 ((eM_pDR hq).symm.trans ((eM_pDD hq b8 b21 b34).1 b54)) ((eM_pAB hq b8 b21).1 b100) (fun h => b114 ((eM_pBD hq b8 b21).2 h)) b28 (sp_z1 (eM_pm173 hq b28) b173))
           have b175 : ¬ (q 175=0) := gk64x175
           have hH : hAll q eM_H18 := (eM_An (hF b8) (eM_An (hF b21) (eM_An (hF b34) (eM_An (hT b54) (eM_An (hT b95) (eM_An (hT b100) (eM_An (hF b114) (eM_An (hT b157) (eM_An (hT b0) (eM_An (hT b13) (eM_An (hT b26) (eM_An (hT b1) (eM_An (hT b14) (eM_An (hT b27) (eM_An (hF b2) (eM_An (hF b15) (eM_An (hF b28) (eM_An (hT b173) (eM_An (hF b175) trivial)))))))))))))))))))
           exact eM_leaf eM_r18 hσ hq h0 hH ⟨tab,mx⟩ (eM_memoG hσ hq h0 ⟨tab,mx⟩) hA
          ·
           by_cases b175 : q 175=0
           ·
            have hH : hAll q eM_H19 := (eM_An (hF b8) (eM_An (hF b21) (eM_An (hF b34) (eM_An (hT b54) (eM_An (hT b95) (eM_An (hT b100) (eM_An (hF b114) (eM_An (hT b157) (eM_An (hT b0) (eM_An (hT b13) (eM_An (hT b26) (eM_An (hT b1) (eM_An (hT b14) (eM_An (hT b27) (eM_An (hF b2) (eM_An (hF b15) (eM_An (hF b28) (eM_An (hF b173) (eM_An (hT b175) trivial)))))))))))))))))))
            exact eM_leaf eM_r19 hσ hq h0 hH ⟨tab,mx⟩ (eM_memoG hσ hq h0 ⟨tab,mx⟩) hA
           ·
            have hH : hAll q eM_H20 := (eM_An (hF b8) (eM_An (hF b21) (eM_An (hF b34) (eM_An (hT b54) (eM_An (hT b95) (eM_An (hT b100) (eM_An (hF b114) (eM_An (hT b157) (eM_An (hT b0) (eM_An (hT b13) (eM_An (hT b26) (eM_An (hT b1) (eM_An (hT b14) (eM_An (hT b27) (eM_An (hF b2) (eM_An (hF b15) (eM_An (hF b28) (eM_An (hF b173) (eM_An (hF b175) trivial)))))))))))))))))))
            exact eM_leaf eM_r20 hσ hq h0 hH ⟨tab,mx⟩ (eM_memoG hσ hq h0 ⟨tab,mx⟩) hA
         ·
          have gk9x14 := (eM_pk9 (fun h => b21 ((eM_pS1 hq).2 h)) ((eM_pDR hq).symm.trans ((eM_pDD hq b8 b21 b34).1 b54)) ((eM_pAB hq b8 b21).1 b100) b1)
          have b14 : ¬ (q 14=0) := gk9x14
          have gk65x27 := (eM_pk65 (fun h => b34 ((eM_pS2 hq).2 h)) ((eM_pDR hq).symm.trans ((eM_pDD hq b8 b21 b34).1 b54)) ((eM_pO hq b8 b21 b34).1 b95) ((eM_pAB hq b8 b21).1 b100) (fun h => b114 ((eM_pBD hq b8 b21).2 h)) b14)
          have b27 : ¬ (q 27=0) := gk65x27
          have gk66x182 := sp_w1 (eM_pm182 hq b27) b27 (eM_pk66 ((eM_pDR hq).symm.trans ((eM_pDD hq b8 b21 b34).1 b54)) ((eM_pO hq b8 b21 b34).1 b95) ((eM_pAB hq b8 b21).1 b100) (fun h => b114 ((eM_pBD hq b8 b21).2 h)))
          have b182 : q 182=0 := gk66x182
          have gk67x189 := sp_w1 (eM_pm189 hq b27) b27 (eM_pk67 ((eM_pDR hq).symm.trans ((eM_pDD hq b8 b21 b34).1 b54)) ((eM_pAB hq b8 b21).1 b100) b14 (sp_z1 (eM_pm182 hq b27) b182))
          have b189 : q 189=0 := gk67x189
          by_cases b191 : q 191=0
          ·
           have gk68x193 := sp_w0 (eM_pm193 hq b27) (eM_pk68 ((eM_pDR hq).symm.trans ((eM_pDD hq b8 b21 b34).1 b54)) ((eM_pAB hq b8 b21).1 b100) (fun h => b114 ((eM_pBD hq b8 b21).2 h)) b27 (sp_z1 (eM_pm191 hq b27) b191))
           have b193 : ¬ (q 193=0) := gk68x193
           have hH : hAll q eM_H21 := (eM_An (hF b8) (eM_An (hF b21) (eM_An (hF b34) (eM_An (hT b54) (eM_An (hT b95) (eM_An (hT b100) (eM_An (hF b114) (eM_An (hT b157) (eM_An (hT b0) (eM_An (hT b13) (eM_An (hT b26) (eM_An (hF b1) (eM_An (hF b14) (eM_An (hF b27) (eM_An (hT b182) (eM_An (hT b189) (eM_An (hT b191) (eM_An (hF b193) trivial))))))))))))))))))
           exact eM_leaf eM_r21 hσ hq h0 hH ⟨tab,mx⟩ (eM_memoG hσ hq h0 ⟨tab,mx⟩) hA
          ·
           by_cases b193 : q 193=0
           ·
            have hH : hAll q eM_H22 := (eM_An (hF b8) (eM_An (hF b21) (eM_An (hF b34) (eM_An (hT b54) (eM_An (hT b95) (eM_An (hT b100) (eM_An (hF b114) (eM_An (hT b157) (eM_An (hT b0) (eM_An (hT b13) (eM_An (hT b26) (eM_An (hF b1) (eM_An (hF b14) (eM_An (hF b27) (eM_An (hT b182) (eM_An (hT b189) (eM_An (hF b191) (eM_An (hT b193) trivial))))))))))))))))))
            exact eM_leaf eM_r22 hσ hq h0 hH ⟨tab,mx⟩ (eM_memoG hσ hq h0 ⟨tab,mx⟩) hA
           ·
            have hH : hAll q eM_H23 := (eM_An (hF b8) (eM_An (hF b21) (eM_An (hF b34) (eM_An (hT b54) (eM_An (hT b95) (eM_An (hT b100) (eM_An (hF b114) (eM_An (hT b157) (eM_An (hT b0) (eM_An (hT b13) (eM_An (hT b26) (eM_An (hF b1) (eM_An (hF b14) (eM_An (hF b27) (eM_An (hT b182) (eM_An (hT b189) (eM_An (hF b191) (eM_An (hF b193) trivial))))))))))))))))))
            exact eM_leaf eM_r23 hσ hq h0 hH ⟨tab,mx⟩ (eM_memoG hσ hq h0 ⟨tab,mx⟩) hA
        ·
         have gk15x13 := (eM_pk15 (fun h => b21 ((eM_pS1 hq).2 h)) ((eM_pDR hq).symm.trans ((eM_pDD hq b8 b21 b34).1 b54)) ((eM_pAB hq b8 b21).1 b100) b0)
         have b13 : ¬ (q 13=0) := gk15x13
         have gk69x26 := (eM_pk69 (fun h => b34 ((eM_pS2 hq).2 h)) ((eM_pDR hq).symm.trans ((eM_pDD hq b8 b21 b34).1 b54)) ((eM_pO hq b8 b21 b34).1 b95) ((eM_pAB hq b8 b21).1 b100) (fun h => b114 ((eM_pBD hq b8 b21).2 h)) b13)
         have b26 : ¬ (q 26=0) := gk69x26
         have gk70x198 := sp_w1 (eM_pm198 hq b26) b26 (eM_pk70 ((eM_pDR hq).symm.trans ((eM_pDD hq b8 b21 b34).1 b54)) ((eM_pO hq b8 b21 b34).1 b95) ((eM_pAB hq b8 b21).1 b100) (fun h => b114 ((eM_pBD hq b8 b21).2 h)))
         have b198 : q 198=0 := gk70x198
         have gk58x205 := sp_w1 (eM_pm205 hq b26) b26 (eM_pk58 ((eM_pDR hq).symm.trans ((eM_pDD hq b8 b21 b34).1 b54)) ((eM_pAB hq b8 b21).1 b100) b13 (sp_z1 (eM_pm198 hq b26) b198))
         have b205 : q 205=0 := gk58x205
         have gk71x200 := sp_w1 (eM_pm200 hq b26) b26 (eM_pk71 ((eM_pDR hq).symm.trans ((eM_pDD hq b8 b21 b34).1 b54)) ((eM_pO hq b8 b21 b34).1 b95) ((eM_pAB hq b8 b21).1 b100) (fun h => b114 ((eM_pBD hq b8 b21).2 h)))
         have b200 : q 200=0 := gk71x200
         have gk72x207 := sp_w1 (eM_pm207 hq b26) b26 (eM_pk72 ((eM_pDR hq).symm.trans ((eM_pDD hq b8 b21 b34).1 b54)) ((eM_pAB hq b8 b21).1 b100) b13 (sp_z1 (eM_pm200 hq b26) b200))
         have b207 : q 207=0 := gk72x207
         by_cases b209 : q 209=0
         ·
          have gk73x211 := sp_w0 (eM_pm211 hq b26) (eM_pk73 ((eM_pDR hq).symm.trans ((eM_pDD hq b8 b21 b34).1 b54)) ((eM_pAB hq b8 b21).1 b100) (fun h => b114 ((eM_pBD hq b8 b21).2 h)) b26 (sp_z1 (eM_pm209 hq b26) b209))
          have b211 : ¬ (q 211=0) := gk73x211
          have hH : hAll q eM_H24 := (eM_An (hF b8) (eM_An (hF b21) (eM_An (hF b34) (eM_An (hT b54) (eM_An (hT b95) (eM_An (hT b100) (eM_An (hF b114) (eM_An (hT b157) (eM_An (hF b0) (eM_An (hF b13) (eM_An (hF b26) (eM_An (hT b198) (eM_An (hT b205) (eM_An (hT b200) (eM_An (hT b207) (eM_An (hT b209) (eM_An (hF b211) trivial)))))))))))))))))
          exact eM_leaf eM_r24 hσ hq h0 hH ⟨tab,mx⟩ (eM_memoG hσ hq h0 ⟨tab,mx⟩) hA
         ·
          by_cases b211 : q 211=0
          ·
           have hH : hAll q eM_H25 := (eM_An (hF b8) (eM_An (hF b21) (eM_An (hF b34) (eM_An (hT b54) (eM_An (hT b95) (eM_An (hT b100) (eM_An (hF b114) (eM_An (hT b157) (eM_An (hF b0) (eM_An (hF b13) (eM_An (hF b26) (eM_An (hT b198) (eM_An (hT b205) (eM_An (hT b200) (eM_An (hT b207) (eM_An (hF b209) (eM_An (hT b211) trivial)))))))))))))))))
           exact eM_leaf eM_r25 hσ hq h0 hH ⟨tab,mx⟩ (eM_memoG hσ hq h0 ⟨tab,mx⟩) hA
          ·
           have hH : hAll q eM_H26 := (eM_An (hF b8) (eM_An (hF b21) (eM_An (hF b34) (eM_An (hT b54) (eM_An (hT b95) (eM_An (hT b100) (eM_An (hF b114) (eM_An (hT b157) (eM_An (hF b0) (eM_An (hF b13) (eM_An (hF b26) (eM_An (hT b198) (eM_An (hT b205) (eM_An (hT b200) (eM_An (hT b207) (eM_An (hF b209) (eM_An (hF b211) trivial)))))))))))))))))
           exact eM_leaf eM_r26 hσ hq h0 hH ⟨tab,mx⟩ (eM_memoG hσ hq h0 ⟨tab,mx⟩) hA
      ·
       by_cases b128 : q 128=0
       ·
        have gk74x142 := (eM_pCD hq b8 b34).2 (eM_pk74 ((eM_pDR hq).symm.trans ((eM_pDD hq b8 b21 b34).1 b54)) ((eM_pO hq b8 b21 b34).1 b95) (fun h => b100 ((eM_pAB hq b8 b21).2 h)) ((eM_pAC hq b8 b34).1 b128))
        have b142 : q 142=0 := gk74x142
        have gT := (eM_pDD hq b8 b21 b34).1 b54
        have b157 : q 157=0 := gT
        by_cases b0 : q 0=0
        ·
         by_cases b13 : q 13=0
         ·
          have gk75x26 := (eM_pk75 ((eM_pDR hq).symm.trans ((eM_pDD hq b8 b21 b34).1 b54)) (fun h => b100 ((eM_pAB hq b8 b21).2 h)) b0 b13)
          have b26 : q 26=0 := gk75x26
          by_cases b1 : q 1=0
          ·
           have gk76x14 := (eM_pk76 ((eM_pDR hq).symm.trans ((eM_pDD hq b8 b21 b34).1 b54)) (fun h => b100 ((eM_pAB hq b8 b21).2 h)) b0 b13 b1)
           have b14 : ¬ (q 14=0) := gk76x14
           have gk77x27 := (eM_pk77 ((eM_pDR hq).symm.trans ((eM_pDD hq b8 b21 b34).1 b54)) (fun h => b100 ((eM_pAB hq b8 b21).2 h)) ((eM_pAC hq b8 b34).1 b128) b1)
           have b27 : q 27=0 := gk77x27
           have gk78x254 := sp_w0 (eM_pm254 hq b14) (eM_pk78 ((eM_pDR hq).symm.trans ((eM_pDD hq b8 b21 b34).1 b54)) (fun h => b100 ((eM_pAB hq b8 b21).2 h)) b0 b1 b14)
           have b254 : ¬ (q 254=0) := gk78x254
           have gk79x261 := sp_w0 (eM_pm261 hq b14) (eM_pk79 (fun h => b34 ((eM_pS2 hq).2 h)) ((eM_pDR hq).symm.trans ((eM_pDD hq b8 b21 b34).1 b54)) b14 b27 (sp_z0 (eM_pm254 hq b14) b14 b254))
           have b261 : ¬ (q 261=0) := gk79x261
           have gk80x274 := sp_w1 (eM_pm274 hq b14 b261 (eM_pm270 hq b14) (eM_pm272 hq b14) (eM_pm254 hq b14) (eM_pm261 hq b14)) (sp_z0 (eM_pm261 hq b14) b14 b261) (eM_pk80 ((eM_pDR hq).symm.trans ((eM_pDD hq b8 b21 b34).1 b54)) ((eM_pCD hq b8 b34).1 b142) b1 b27)
           have b274 : q 274=0 := gk80x274
           have hH : hAll q eM_H27 := (eM_An (hF b8) (eM_An (hF b21) (eM_An (hF b34) (eM_An (hT b54) (eM_An (hT b95) (eM_An (hF b100) (eM_An (hT b128) (eM_An (hT b142) (eM_An (hT b157) (eM_An (hT b0) (eM_An (hT b13) (eM_An (hT b26) (eM_An (hT b1) (eM_An (hF b14) (eM_An (hT b27) (eM_An (hF b254) (eM_An (hF b261) (eM_An (hT b274) trivial))))))))))))))))))
           exact eM_leaf eM_r27 hσ hq h0 hH ⟨tab,mx⟩ (eM_memoG hσ hq h0 ⟨tab,mx⟩) hA
          ·
           by_cases b14 : q 14=0
           ·
            have gk10x27 := (eM_pk10 (fun h => b34 ((eM_pS2 hq).2 h)) ((eM_pDR hq).symm.trans ((eM_pDD hq b8 b21 b34).1 b54)) ((eM_pAC hq b8 b34).1 b128) b1)
            have b27 : ¬ (q 27=0) := gk10x27
            have gk81x182 := sp_w0 (eM_pm182 hq b27) (eM_pk81 ((eM_pDR hq).symm.trans ((eM_pDD hq b8 b21 b34).1 b54)) (fun h => b100 ((eM_pAB hq b8 b21).2 h)) b13 b14 b27)
            have b182 : ¬ (q 182=0) := gk81x182
            have gk12x189 := sp_w1 (eM_pm189 hq b27) b27 (eM_pk12 ((eM_pDR hq).symm.trans ((eM_pDD hq b8 b21 b34).1 b54)) ((eM_pAC hq b8 b34).1 b128))
            have b189 : q 189=0 := gk12x189
            have gk82x364 := sp_w1 (eM_pm364 hq b27 b182 (eM_pm193 hq b27) (eM_pm191 hq b27) (eM_pm189 hq b27) (eM_pm182 hq b27)) (sp_z0 (eM_pm182 hq b27) b27 b182) (eM_pk82 ((eM_pDR hq).symm.trans ((eM_pDD hq b8 b21 b34).1 b54)) ((eM_pCD hq b8 b34).1 b142) (sp_z1 (eM_pm189 hq b27) b189))
            have b364 : q 364=0 := gk82x364
            have hH : hAll q eM_H28 := (eM_An (hF b8) (eM_An (hF b21) (eM_An (hF b34) (eM_An (hT b54) (eM_An (hT b95) (eM_An (hF b100) (eM_An (hT b128) (eM_An (hT b142) (eM_An (hT b157) (eM_An (hT b0) (eM_An (hT b13) (eM_An (hT b26) (eM_An (hF b1) (eM_An (hT b14) (eM_An (hF b27) (eM_An (hF b182) (eM_An (hT b189) (eM_An (hT b364) trivial))))))))))))))))))
            exact eM_leaf eM_r28 hσ hq h0 hH ⟨tab,mx⟩ (eM_memoG hσ hq h0 ⟨tab,mx⟩) hA
           ·
            have gk10x27 := (eM_pk10 (fun h => b34 ((eM_pS2 hq).2 h)) ((eM_pDR hq).symm.trans ((eM_pDD hq b8 b21 b34).1 b54)) ((eM_pAC hq b8 b34).1 b128) b1)
            have b27 : ¬ (q 27=0) := gk10x27
            have gk83x182 := sp_w0 (eM_pm182 hq b27) (eM_pk83 ((eM_pDR hq).symm.trans ((eM_pDD hq b8 b21 b34).1 b54)) (fun h => b100 ((eM_pAB hq b8 b21).2 h)) ((eM_pAC hq b8 b34).1 b128) b13 b26 b27)
            have b182 : ¬ (q 182=0) := gk83x182
            have gk12x189 := sp_w1 (eM_pm189 hq b27) b27 (eM_pk12 ((eM_pDR hq).symm.trans ((eM_pDD hq b8 b21 b34).1 b54)) ((eM_pAC hq b8 b34).1 b128))
            have b189 : q 189=0 := gk12x189
            have gk82x364 := sp_w1 (eM_pm364 hq b27 b182 (eM_pm193 hq b27) (eM_pm191 hq b27) (eM_pm189 hq b27) (eM_pm182 hq b27)) (sp_z0 (eM_pm182 hq b27) b27 b182) (eM_pk82 ((eM_pDR hq).symm.trans ((eM_pDD hq b8 b21 b34).1 b54)) ((eM_pCD hq b8 b34).1 b142) (sp_z1 (eM_pm189 hq b27) b189))
            have b364 : q 364=0 := gk82x364
            have hH : hAll q eM_H29 := (eM_An (hF b8) (eM_An (hF b21) (eM_An (hF b34) (eM_An (hT b54) (eM_An (hT b95) (eM_An (hF b100) (eM_An (hT b128) (eM_An (hT b142) (eM_An (hT b157) (eM_An (hT b0) (eM_An (hT b13) (eM_An (hT b26) (eM_An (hF b1) (eM_An (hF b14) (eM_An (hF b27) (eM_An (hF b182) (eM_An (hT b189) (eM_An (hT b364) trivial))))))))))))))))))
            exact eM_leaf eM_r29 hσ hq h0 hH ⟨tab,mx⟩ (eM_memoG hσ hq h0 ⟨tab,mx⟩) hA
         ·
          have gk84x26 := (eM_pk84 ((eM_pDR hq).symm.trans ((eM_pDD hq b8 b21 b34).1 b54)) (fun h => b100 ((eM_pAB hq b8 b21).2 h)) ((eM_pAC hq b8 b34).1 b128) b0)
          have b26 : q 26=0 := gk84x26
          by_cases b297 : q 297=0
          ·
           have gk85x304 := sp_w1 (eM_pm304 hq b13) b13 (eM_pk85 ((eM_pDR hq).symm.trans ((eM_pDD hq b8 b21 b34).1 b54)) (fun h => b100 ((eM_pAB hq b8 b21).2 h)) (sp_z1 (eM_pm297 hq b13) b297))
           have b304 : q 304=0 := gk85x304
           have gk86x299 := sp_w0 (eM_pm299 hq b13) (eM_pk86 ((eM_pDR hq).symm.trans ((eM_pDD hq b8 b21 b34).1 b54)) (fun h => b100 ((eM_pAB hq b8 b21).2 h)) b13 (sp_z1 (eM_pm297 hq b13) b297))
           have b299 : ¬ (q 299=0) := gk86x299
           have gk87x306 := sp_w0 (eM_pm306 hq b13) (eM_pk87 (fun h => b34 ((eM_pS2 hq).2 h)) ((eM_pDR hq).symm.trans ((eM_pDD hq b8 b21 b34).1 b54)) b13 b26 (sp_z0 (eM_pm299 hq b13) b13 b299))
           have b306 : ¬ (q 306=0) := gk87x306
           have gk88x319 := sp_w1 (eM_pm319 hq b13 b306 (eM_pm315 hq b13) (eM_pm317 hq b13) (eM_pm299 hq b13) (eM_pm306 hq b13)) (sp_z0 (eM_pm306 hq b13) b13 b306) (eM_pk88 ((eM_pDR hq).symm.trans ((eM_pDD hq b8 b21 b34).1 b54)) ((eM_pCD hq b8 b34).1 b142) b0 b26)
           have b319 : q 319=0 := gk88x319
           have hH : hAll q eM_H30 := (eM_An (hF b8) (eM_An (hF b21) (eM_An (hF b34) (eM_An (hT b54) (eM_An (hT b95) (eM_An (hF b100) (eM_An (hT b128) (eM_An (hT b142) (eM_An (hT b157) (eM_An (hT b0) (eM_An (hF b13) (eM_An (hT b26) (eM_An (hT b297) (eM_An (hT b304) (eM_An (hF b299) (eM_An (hF b306) (eM_An (hT b319) trivial)))))))))))))))))
           exact eM_leaf eM_r30 hσ hq h0 hH ⟨tab,mx⟩ (eM_memoG hσ hq h0 ⟨tab,mx⟩) hA
          ·
           have gk89x304 := sp_w0 (eM_pm304 hq b13) (eM_pk89 (fun h => b34 ((eM_pS2 hq).2 h)) ((eM_pDR hq).symm.trans ((eM_pDD hq b8 b21 b34).1 b54)) b13 b26 (sp_z0 (eM_pm297 hq b13) b13 b297))
           have b304 : ¬ (q 304=0) := gk89x304
           have gk56x326 := sp_w1 (eM_pm326 hq b13 b304 (eM_pm299 hq b13) (eM_pm306 hq b13) (eM_pm297 hq b13) (eM_pm304 hq b13)) (sp_z0 (eM_pm304 hq b13) b13 b304) (eM_pk56 ((eM_pDR hq).symm.trans ((eM_pDD hq b8 b21 b34).1 b54)))
           have b326 : q 326=0 := gk56x326
           have gk90x328 := sp_w1 (eM_pm328 hq b13 b304 (eM_pm315 hq b13) (eM_pm317 hq b13) (eM_pm297 hq b13) (eM_pm304 hq b13)) (sp_z0 (eM_pm304 hq b13) b13 b304) (eM_pk90 ((eM_pDR hq).symm.trans ((eM_pDD hq b8 b21 b34).1 b54)) ((eM_pCD hq b8 b34).1 b142) b0 b26)
           have b328 : q 328=0 := gk90x328
           have hH : hAll q eM_H31 := (eM_An (hF b8) (eM_An (hF b21) (eM_An (hF b34) (eM_An (hT b54) (eM_An (hT b95) (eM_An (hF b100) (eM_An (hT b128) (eM_An (hT b142) (eM_An (hT b157) (eM_An (hT b0) (eM_An (hF b13) (eM_An (hT b26) (eM_An (hF b297) (eM_An (hF b304) (eM_An (hT b326) (eM_An (hT b328) trivial))))))))))))))))
           exact eM_leaf eM_r31 hσ hq h0 hH ⟨tab,mx⟩ (eM_memoG hσ hq h0 ⟨tab,mx⟩) hA
        ·
         by_cases b13 : q 13=0
         ·
          have gk16x26 := (eM_pk16 (fun h => b34 ((eM_pS2 hq).2 h)) ((eM_pDR hq).symm.trans ((eM_pDD hq b8 b21 b34).1 b54)) ((eM_pAC hq b8 b34).1 b128) b0)
          have b26 : ¬ (q 26=0) := gk16x26
          by_cases b198 : q 198=0
          ·
           have gk18x205 := sp_w1 (eM_pm205 hq b26) b26 (eM_pk18 ((eM_pDR hq).symm.trans ((eM_pDD hq b8 b21 b34).1 b54)) ((eM_pAC hq b8 b34).1 b128))
           have b205 : q 205=0 := gk18x205
           have gk91x200 := sp_w0 (eM_pm200 hq b26) (eM_pk91 ((eM_pDR hq).symm.trans ((eM_pDD hq b8 b21 b34).1 b54)) (fun h => b100 ((eM_pAB hq b8 b21).2 h)) b13 b26 (sp_z1 (eM_pm198 hq b26) b198))
           have b200 : ¬ (q 200=0) := gk91x200
           have gk20x207 := sp_w1 (eM_pm207 hq b26) b26 (eM_pk20 ((eM_pDR hq).symm.trans ((eM_pDD hq b8 b21 b34).1 b54)) ((eM_pAC hq b8 b34).1 b128))
           have b207 : q 207=0 := gk20x207
           have gk92x373 := sp_w1 (eM_pm373 hq b26 b200 (eM_pm211 hq b26) (eM_pm209 hq b26) (eM_pm207 hq b26) (eM_pm200 hq b26)) (sp_z0 (eM_pm200 hq b26) b26 b200) (eM_pk92 ((eM_pDR hq).symm.trans ((eM_pDD hq b8 b21 b34).1 b54)) ((eM_pCD hq b8 b34).1 b142) (sp_z1 (eM_pm207 hq b26) b207))
           have b373 : q 373=0 := gk92x373
           have hH : hAll q eM_H32 := (eM_An (hF b8) (eM_An (hF b21) (eM_An (hF b34) (eM_An (hT b54) (eM_An (hT b95) (eM_An (hF b100) (eM_An (hT b128) (eM_An (hT b142) (eM_An (hT b157) (eM_An (hF b0) (eM_An (hT b13) (eM_An (hF b26) (eM_An (hT b198) (eM_An (hT b205) (eM_An (hF b200) (eM_An (hT b207) (eM_An (hT b373) trivial)))))))))))))))))
           exact eM_leaf eM_r32 hσ hq h0 hH ⟨tab,mx⟩ (eM_memoG hσ hq h0 ⟨tab,mx⟩) hA
          ·
           have gk18x205 := sp_w1 (eM_pm205 hq b26) b26 (eM_pk18 ((eM_pDR hq).symm.trans ((eM_pDD hq b8 b21 b34).1 b54)) ((eM_pAC hq b8 b34).1 b128))
           have b205 : q 205=0 := gk18x205
           have gk93x380 := sp_w1 (eM_pm380 hq b26 b198 (eM_pm207 hq b26) (eM_pm200 hq b26) (eM_pm205 hq b26) (eM_pm198 hq b26)) (sp_z0 (eM_pm198 hq b26) b26 b198) (eM_pk93 ((eM_pDR hq).symm.trans ((eM_pDD hq b8 b21 b34).1 b54)))
           have b380 : q 380=0 := gk93x380
           have gk94x382 := sp_w1 (eM_pm382 hq b26 b198 (eM_pm211 hq b26) (eM_pm209 hq b26) (eM_pm205 hq b26) (eM_pm198 hq b26)) (sp_z0 (eM_pm198 hq b26) b26 b198) (eM_pk94 ((eM_pDR hq).symm.trans ((eM_pDD hq b8 b21 b34).1 b54)) ((eM_pCD hq b8 b34).1 b142) (sp_z1 (eM_pm205 hq b26) b205))
           have b382 : q 382=0 := gk94x382
           have hH : hAll q eM_H33 := (eM_An (hF b8) (eM_An (hF b21) (eM_An (hF b34) (eM_An (hT b54) (eM_An (hT b95) (eM_An (hF b100) (eM_An (hT b128) (eM_An (hT b142) (eM_An (hT b157) (eM_An (hF b0) (eM_An (hT b13) (eM_An (hF b26) (eM_An (hF b198) (eM_An (hT b205) (eM_An (hT b380) (eM_An (hT b382) trivial))))))))))))))))
           exact eM_leaf eM_r33 hσ hq h0 hH ⟨tab,mx⟩ (eM_memoG hσ hq h0 ⟨tab,mx⟩) hA
         ·
          have gk16x26 := (eM_pk16 (fun h => b34 ((eM_pS2 hq).2 h)) ((eM_pDR hq).symm.trans ((eM_pDD hq b8 b21 b34).1 b54)) ((eM_pAC hq b8 b34).1 b128) b0)
          have b26 : ¬ (q 26=0) := gk16x26
          by_cases b198 : q 198=0
          ·
           have gk18x205 := sp_w1 (eM_pm205 hq b26) b26 (eM_pk18 ((eM_pDR hq).symm.trans ((eM_pDD hq b8 b21 b34).1 b54)) ((eM_pAC hq b8 b34).1 b128))
           have b205 : q 205=0 := gk18x205
           have gk95x200 := sp_w0 (eM_pm200 hq b26) (eM_pk95 ((eM_pDR hq).symm.trans ((eM_pDD hq b8 b21 b34).1 b54)) (fun h => b100 ((eM_pAB hq b8 b21).2 h)) ((eM_pAC hq b8 b34).1 b128) b26 (sp_z1 (eM_pm198 hq b26) b198))
           have b200 : ¬ (q 200=0) := gk95x200
           have gk20x207 := sp_w1 (eM_pm207 hq b26) b26 (eM_pk20 ((eM_pDR hq).symm.trans ((eM_pDD hq b8 b21 b34).1 b54)) ((eM_pAC hq b8 b34).1 b128))
           have b207 : q 207=0 := gk20x207
           have gk92x373 := sp_w1 (eM_pm373 hq b26 b200 (eM_pm211 hq b26) (eM_pm209 hq b26) (eM_pm207 hq b26) (eM_pm200 hq b26)) (sp_z0 (eM_pm200 hq b26) b26 b200) (eM_pk92 ((eM_pDR hq).symm.trans ((eM_pDD hq b8 b21 b34).1 b54)) ((eM_pCD hq b8 b34).1 b142) (sp_z1 (eM_pm207 hq b26) b207))
           have b373 : q 373=0 := gk92x373
           have hH : hAll q eM_H34 := (eM_An (hF b8) (eM_An (hF b21) (eM_An (hF b34) (eM_An (hT b54) (eM_An (hT b95) (eM_An (hF b100) (eM_An (hT b128) (eM_An (hT b142) (eM_An (hT b157) (eM_An (hF b0) (eM_An (hF b13) (eM_An (hF b26) (eM_An (hT b198) (eM_An (hT b205) (eM_An (hF b200) (eM_An (hT b207) (eM_An (hT b373) trivial)))))))))))))))))
           exact eM_leaf eM_r34 hσ hq h0 hH ⟨tab,mx⟩ (eM_memoG hσ hq h0 ⟨tab,mx⟩) hA
          ·
           have gk18x205 := sp_w1 (eM_pm205 hq b26) b26 (eM_pk18 ((eM_pDR hq).symm.trans ((eM_pDD hq b8 b21 b34).1 b54)) ((eM_pAC hq b8 b34).1 b128))
           have b205 : q 205=0 := gk18x205
           have gk93x380 := sp_w1 (eM_pm380 hq b26 b198 (eM_pm207 hq b26) (eM_pm200 hq b26) (eM_pm205 hq b26) (eM_pm198 hq b26)) (sp_z0 (eM_pm198 hq b26) b26 b198) (eM_pk93 ((eM_pDR hq).symm.trans ((eM_pDD hq b8 b21 b34).1 b54)))
           have b380 : q 380=0 := gk93x380
           have gk94x382 := sp_w1 (eM_pm382 hq b26 b198 (eM_pm211 hq b26) (eM_pm209 hq b26) (eM_pm205 hq b26) (eM_pm198 hq b26)) (sp_z0 (eM_pm198 hq b26) b26 b198) (eM_pk94 ((eM_pDR hq).symm.trans ((eM_pDD hq b8 b21 b34).1 b54)) ((eM_pCD hq b8 b34).1 b142) (sp_z1 (eM_pm205 hq b26) b205))
           have b382 : q 382=0 := gk94x382
           have hH : hAll q eM_H35 := (eM_An (hF b8) (eM_An (hF b21) (eM_An (hF b34) (eM_An (hT b54) (eM_An (hT b95) (eM_An (hF b100) (eM_An (hT b128) (eM_An (hT b142) (eM_An (hT b157) (eM_An (hF b0) (eM_An (hF b13) (eM_An (hF b26) (eM_An (hF b198) (eM_An (hT b205) (eM_An (hT b380) (eM_An (hT b382) trivial))))))))))))))))
           exact eM_leaf eM_r35 hσ hq h0 hH ⟨tab,mx⟩ (eM_memoG hσ hq h0 ⟨tab,mx⟩) hA
       ·
        have gT := (eM_pDD hq b8 b21 b34).1 b54
        have b157 : q 157=0 := gT
        by_cases b0 : q 0=0
        ·
         by_cases b13 : q 13=0
         ·
          have gk75x26 := (eM_pk75 ((eM_pDR hq).symm.trans ((eM_pDD hq b8 b21 b34).1 b54)) (fun h => b100 ((eM_pAB hq b8 b21).2 h)) b0 b13)
          have b26 : q 26=0 := gk75x26
          by_cases b1 : q 1=0
          ·
           have gk76x14 := (eM_pk76 ((eM_pDR hq).symm.trans ((eM_pDD hq b8 b21 b34).1 b54)) (fun h => b100 ((eM_pAB hq b8 b21).2 h)) b0 b13 b1)
           have b14 : ¬ (q 14=0) := gk76x14
           have gk96x27 := (eM_pk96 ((eM_pDR hq).symm.trans ((eM_pDD hq b8 b21 b34).1 b54)) (fun h => b128 ((eM_pAC hq b8 b34).2 h)) b1 b14)
           have b27 : ¬ (q 27=0) := gk96x27
           by_cases b182 : q 182=0
           ·
            have gk97x189 := sp_w0 (eM_pm189 hq b27) (eM_pk97 ((eM_pDR hq).symm.trans ((eM_pDD hq b8 b21 b34).1 b54)) (fun h => b128 ((eM_pAC hq b8 b34).2 h)) b0 b1 b27)
            have b189 : ¬ (q 189=0) := gk97x189
            have gk98x247 := sp_w1 (eM_pm247 hq b27 b189 (eM_pm191 hq b27) (eM_pm193 hq b27) (eM_pm182 hq b27) (eM_pm189 hq b27)) (sp_z0 (eM_pm189 hq b27) b27 b189) (eM_pk98 ((eM_pDR hq).symm.trans ((eM_pDD hq b8 b21 b34).1 b54)) ((eM_pO hq b8 b21 b34).1 b95))
            have b247 : q 247=0 := gk98x247
            have hH : hAll q eM_H36 := (eM_An (hF b8) (eM_An (hF b21) (eM_An (hF b34) (eM_An (hT b54) (eM_An (hT b95) (eM_An (hF b100) (eM_An (hF b128) (eM_An (hT b157) (eM_An (hT b0) (eM_An (hT b13) (eM_An (hT b26) (eM_An (hT b1) (eM_An (hF b14) (eM_An (hF b27) (eM_An (hT b182) (eM_An (hF b189) (eM_An (hT b247) trivial)))))))))))))))))
            exact eM_leaf eM_r36 hσ hq h0 hH ⟨tab,mx⟩ (eM_memoG hσ hq h0 ⟨tab,mx⟩) hA
           ·
            have gk38x189 := sp_w0 (eM_pm189 hq b27) (eM_pk38 ((eM_pDR hq).symm.trans ((eM_pDD hq b8 b21 b34).1 b54)) (fun h => b128 ((eM_pAC hq b8 b34).2 h)) (sp_z0 (eM_pm182 hq b27) b27 b182))
            have b189 : ¬ (q 189=0) := gk38x189
            have gk98x247 := sp_w1 (eM_pm247 hq b27 b189 (eM_pm191 hq b27) (eM_pm193 hq b27) (eM_pm182 hq b27) (eM_pm189 hq b27)) (sp_z0 (eM_pm189 hq b27) b27 b189) (eM_pk98 ((eM_pDR hq).symm.trans ((eM_pDD hq b8 b21 b34).1 b54)) ((eM_pO hq b8 b21 b34).1 b95))
            have b247 : q 247=0 := gk98x247
            have hH : hAll q eM_H37 := (eM_An (hF b8) (eM_An (hF b21) (eM_An (hF b34) (eM_An (hT b54) (eM_An (hT b95) (eM_An (hF b100) (eM_An (hF b128) (eM_An (hT b157) (eM_An (hT b0) (eM_An (hT b13) (eM_An (hT b26) (eM_An (hT b1) (eM_An (hF b14) (eM_An (hF b27) (eM_An (hF b182) (eM_An (hF b189) (eM_An (hT b247) trivial)))))))))))))))))
            exact eM_leaf eM_r37 hσ hq h0 hH ⟨tab,mx⟩ (eM_memoG hσ hq h0 ⟨tab,mx⟩) hA
          ·
           by_cases b14 : q 14=0
           ·
            by_cases b27 : q 27=0
            ·
             have gk99x389 := sp_w0 (eM_pm389 hq b1) (eM_pk99 ((eM_pDR hq).symm.trans ((eM_pDD hq b8 b21 b34).1 b54)) (fun h => b100 ((eM_pAB hq b8 b21).2 h)) b13 b1 b14)
             have b389 : ¬ (q 389=0) := gk99x389
             have gk100x396 := sp_w0 (eM_pm396 hq b1) (eM_pk100 ((eM_pDR hq).symm.trans ((eM_pDD hq b8 b21 b34).1 b54)) (fun h => b128 ((eM_pAC hq b8 b34).2 h)) (sp_z0 (eM_pm389 hq b1) b1 b389))
             have b396 : ¬ (q 396=0) := gk100x396
             have gk101x409 := sp_w1 (eM_pm409 hq b1 b396 (eM_pm405 hq b1) (eM_pm407 hq b1) (eM_pm389 hq b1) (eM_pm396 hq b1)) (sp_z0 (eM_pm396 hq b1) b1 b396) (eM_pk101 ((eM_pDR hq).symm.trans ((eM_pDD hq b8 b21 b34).1 b54)) ((eM_pO hq b8 b21 b34).1 b95))
             have b409 : q 409=0 := gk101x409
             have hH : hAll q eM_H38 := (eM_An (hF b8) (eM_An (hF b21) (eM_An (hF b34) (eM_An (hT b54) (eM_An (hT b95) (eM_An (hF b100) (eM_An (hF b128) (eM_An (hT b157) (eM_An (hT b0) (eM_An (hT b13) (eM_An (hT b26) (eM_An (hF b1) (eM_An (hT b14) (eM_An (hT b27) (eM_An (hF b389) (eM_An (hF b396) (eM_An (hT b409) trivial)))))))))))))))))
             exact eM_leaf eM_r38 hσ hq h0 hH ⟨tab,mx⟩ (eM_memoG hσ hq h0 ⟨tab,mx⟩) hA
            ·
             have gk81x182 := sp_w0 (eM_pm182 hq b27) (eM_pk81 ((eM_pDR hq).symm.trans ((eM_pDD hq b8 b21 b34).1 b54)) (fun h => b100 ((eM_pAB hq b8 b21).2 h)) b13 b14 b27)
             have b182 : ¬ (q 182=0) := gk81x182
             have gk38x189 := sp_w0 (eM_pm189 hq b27) (eM_pk38 ((eM_pDR hq).symm.trans ((eM_pDD hq b8 b21 b34).1 b54)) (fun h => b128 ((eM_pAC hq b8 b34).2 h)) (sp_z0 (eM_pm182 hq b27) b27 b182))
             have b189 : ¬ (q 189=0) := gk38x189
             have gk98x247 := sp_w1 (eM_pm247 hq b27 b189 (eM_pm191 hq b27) (eM_pm193 hq b27) (eM_pm182 hq b27) (eM_pm189 hq b27)) (sp_z0 (eM_pm189 hq b27) b27 b189) (eM_pk98 ((eM_pDR hq).symm.trans ((eM_pDD hq b8 b21 b34).1 b54)) ((eM_pO hq b8 b21 b34).1 b95))
             have b247 : q 247=0 := gk98x247
             have hH : hAll q eM_H39 := (eM_An (hF b8) (eM_An (hF b21) (eM_An (hF b34) (eM_An (hT b54) (eM_An (hT b95) (eM_An (hF b100) (eM_An (hF b128) (eM_An (hT b157) (eM_An (hT b0) (eM_An (hT b13) (eM_An (hT b26) (eM_An (hF b1) (eM_An (hT b14) (eM_An (hF b27) (eM_An (hF b182) (eM_An (hF b189) (eM_An (hT b247) trivial)))))))))))))))))
             exact eM_leaf eM_r39 hσ hq h0 hH ⟨tab,mx⟩ (eM_memoG hσ hq h0 ⟨tab,mx⟩) hA
           ·
            by_cases b27 : q 27=0
            ·
             have gk102x254 := sp_w0 (eM_pm254 hq b14) (eM_pk102 ((eM_pDR hq).symm.trans ((eM_pDD hq b8 b21 b34).1 b54)) (fun h => b100 ((eM_pAB hq b8 b21).2 h)) b0 b13)
             have b254 : ¬ (q 254=0) := gk102x254
             have gk103x261 := sp_w0 (eM_pm261 hq b14) (eM_pk103 ((eM_pDR hq).symm.trans ((eM_pDD hq b8 b21 b34).1 b54)) (fun h => b128 ((eM_pAC hq b8 b34).2 h)) b14 b27 (sp_z0 (eM_pm254 hq b14) b14 b254))
             have b261 : ¬ (q 261=0) := gk103x261
             have gk104x274 := sp_w1 (eM_pm274 hq b14 b261 (eM_pm270 hq b14) (eM_pm272 hq b14) (eM_pm254 hq b14) (eM_pm261 hq b14)) (sp_z0 (eM_pm261 hq b14) b14 b261) (eM_pk104 ((eM_pDR hq).symm.trans ((eM_pDD hq b8 b21 b34).1 b54)) ((eM_pO hq b8 b21 b34).1 b95))
             have b274 : q 274=0 := gk104x274
             have hH : hAll q eM_H40 := (eM_An (hF b8) (eM_An (hF b21) (eM_An (hF b34) (eM_An (hT b54) (eM_An (hT b95) (eM_An (hF b100) (eM_An (hF b128) (eM_An (hT b157) (eM_An (hT b0) (eM_An (hT b13) (eM_An (hT b26) (eM_An (hF b1) (eM_An (hF b14) (eM_An (hT b27) (eM_An (hF b254) (eM_An (hF b261) (eM_An (hT b274) trivial)))))))))))))))))
             exact eM_leaf eM_r40 hσ hq h0 hH ⟨tab,mx⟩ (eM_memoG hσ hq h0 ⟨tab,mx⟩) hA
            ·
             by_cases b182 : q 182=0
             ·
              have gk105x189 := sp_w0 (eM_pm189 hq b27) (eM_pk105 ((eM_pDR hq).symm.trans ((eM_pDD hq b8 b21 b34).1 b54)) (fun h => b128 ((eM_pAC hq b8 b34).2 h)) b0 b26)
              have b189 : ¬ (q 189=0) := gk105x189
              have gk98x247 := sp_w1 (eM_pm247 hq b27 b189 (eM_pm191 hq b27) (eM_pm193 hq b27) (eM_pm182 hq b27) (eM_pm189 hq b27)) (sp_z0 (eM_pm189 hq b27) b27 b189) (eM_pk98 ((eM_pDR hq).symm.trans ((eM_pDD hq b8 b21 b34).1 b54)) ((eM_pO hq b8 b21 b34).1 b95))
              have b247 : q 247=0 := gk98x247
              have hH : hAll q eM_H41 := (eM_An (hF b8) (eM_An (hF b21) (eM_An (hF b34) (eM_An (hT b54) (eM_An (hT b95) (eM_An (hF b100) (eM_An (hF b128) (eM_An (hT b157) (eM_An (hT b0) (eM_An (hT b13) (eM_An (hT b26) (eM_An (hF b1) (eM_An (hF b14) (eM_An (hF b27) (eM_An (hT b182) (eM_An (hF b189) (eM_An (hT b247) trivial)))))))))))))))))
              exact eM_leaf eM_r41 hσ hq h0 hH ⟨tab,mx⟩ (eM_memoG hσ hq h0 ⟨tab,mx⟩) hA
             ·
              have gk38x189 := sp_w0 (eM_pm189 hq b27) (eM_pk38 ((eM_pDR hq).symm.trans ((eM_pDD hq b8 b21 b34).1 b54)) (fun h => b128 ((eM_pAC hq b8 b34).2 h)) (sp_z0 (eM_pm182 hq b27) b27 b182))
              have b189 : ¬ (q 189=0) := gk38x189
              have gk98x247 := sp_w1 (eM_pm247 hq b27 b189 (eM_pm191 hq b27) (eM_pm193 hq b27) (eM_pm182 hq b27) (eM_pm189 hq b27)) (sp_z0 (eM_pm189 hq b27) b27 b189) (eM_pk98 ((eM_pDR hq).symm.trans ((eM_pDD hq b8 b21 b34).1 b54)) ((eM_pO hq b8 b21 b34).1 b95))
              have b247 : q 247=0 := gk98x247
              have hH : hAll q eM_H42 := (eM_An (hF b8) (eM_An (hF b21) (eM_An (hF b34) (eM_An (hT b54) (eM_An (hT b95) (eM_An (hF b100) (eM_An (hF b128) (eM_An (hT b157) (eM_An (hT b0) (eM_An (hT b13) (eM_An (hT b26) (eM_An (hF b1) (eM_An (hF b14) (eM_An (hF b27) (eM_An (hF b182) (eM_An (hF b189) (eM_An (hT b247) trivial)))))))))))))))))
              exact eM_leaf eM_r42 hσ hq h0 hH ⟨tab,mx⟩ (eM_memoG hσ hq h0 ⟨tab,mx⟩) hA
         ·
          have gk106x26 := (eM_pk106 ((eM_pDR hq).symm.trans ((eM_pDD hq b8 b21 b34).1 b54)) (fun h => b128 ((eM_pAC hq b8 b34).2 h)) b0 b13)
          have b26 : ¬ (q 26=0) := gk106x26
          by_cases b198 : q 198=0
          ·
           by_cases b205 : q 205=0
           ·
            by_cases b200 : q 200=0
            ·
             have gk107x207 := sp_w0 (eM_pm207 hq b26) (eM_pk107 ((eM_pDR hq).symm.trans ((eM_pDD hq b8 b21 b34).1 b54)) (fun h => b128 ((eM_pAC hq b8 b34).2 h)) b26 (sp_z1 (eM_pm205 hq b26) b205))
             have b207 : ¬ (q 207=0) := gk107x207
             have gk108x283 := sp_w1 (eM_pm283 hq b26 b207 (eM_pm209 hq b26) (eM_pm211 hq b26) (eM_pm200 hq b26) (eM_pm207 hq b26)) (sp_z0 (eM_pm207 hq b26) b26 b207) (eM_pk108 ((eM_pDR hq).symm.trans ((eM_pDD hq b8 b21 b34).1 b54)) ((eM_pO hq b8 b21 b34).1 b95))
             have b283 : q 283=0 := gk108x283
             have hH : hAll q eM_H43 := (eM_An (hF b8) (eM_An (hF b21) (eM_An (hF b34) (eM_An (hT b54) (eM_An (hT b95) (eM_An (hF b100) (eM_An (hF b128) (eM_An (hT b157) (eM_An (hT b0) (eM_An (hF b13) (eM_An (hF b26) (eM_An (hT b198) (eM_An (hT b205) (eM_An (hT b200) (eM_An (hF b207) (eM_An (hT b283) trivial))))))))))))))))
             exact eM_leaf eM_r43 hσ hq h0 hH ⟨tab,mx⟩ (eM_memoG hσ hq h0 ⟨tab,mx⟩) hA
            ·
             have gk47x207 := sp_w0 (eM_pm207 hq b26) (eM_pk47 ((eM_pDR hq).symm.trans ((eM_pDD hq b8 b21 b34).1 b54)) (fun h => b128 ((eM_pAC hq b8 b34).2 h)) (sp_z0 (eM_pm200 hq b26) b26 b200))
             have b207 : ¬ (q 207=0) := gk47x207
             have gk108x283 := sp_w1 (eM_pm283 hq b26 b207 (eM_pm209 hq b26) (eM_pm211 hq b26) (eM_pm200 hq b26) (eM_pm207 hq b26)) (sp_z0 (eM_pm207 hq b26) b26 b207) (eM_pk108 ((eM_pDR hq).symm.trans ((eM_pDD hq b8 b21 b34).1 b54)) ((eM_pO hq b8 b21 b34).1 b95))
             have b283 : q 283=0 := gk108x283
             have hH : hAll q eM_H44 := (eM_An (hF b8) (eM_An (hF b21) (eM_An (hF b34) (eM_An (hT b54) (eM_An (hT b95) (eM_An (hF b100) (eM_An (hF b128) (eM_An (hT b157) (eM_An (hT b0) (eM_An (hF b13) (eM_An (hF b26) (eM_An (hT b198) (eM_An (hT b205) (eM_An (hF b200) (eM_An (hF b207) (eM_An (hT b283) trivial))))))))))))))))
             exact eM_leaf eM_r44 hσ hq h0 hH ⟨tab,mx⟩ (eM_memoG hσ hq h0 ⟨tab,mx⟩) hA
           ·
            have gk50x290 := sp_w1 (eM_pm290 hq b26 b205 (eM_pm200 hq b26) (eM_pm207 hq b26) (eM_pm198 hq b26) (eM_pm205 hq b26)) (sp_z0 (eM_pm205 hq b26) b26 b205) (eM_pk50 ((eM_pDR hq).symm.trans ((eM_pDD hq b8 b21 b34).1 b54)))
            have b290 : q 290=0 := gk50x290
            have gk109x292 := sp_w1 (eM_pm292 hq b26 b205 (eM_pm209 hq b26) (eM_pm211 hq b26) (eM_pm198 hq b26) (eM_pm205 hq b26)) (sp_z0 (eM_pm205 hq b26) b26 b205) (eM_pk109 ((eM_pDR hq).symm.trans ((eM_pDD hq b8 b21 b34).1 b54)) ((eM_pO hq b8 b21 b34).1 b95))
            have b292 : q 292=0 := gk109x292
            have hH : hAll q eM_H45 := (eM_An (hF b8) (eM_An (hF b21) (eM_An (hF b34) (eM_An (hT b54) (eM_An (hT b95) (eM_An (hF b100) (eM_An (hF b128) (eM_An (hT b157) (eM_An (hT b0) (eM_An (hF b13) (eM_An (hF b26) (eM_An (hT b198) (eM_An (hF b205) (eM_An (hT b290) (eM_An (hT b292) trivial)))))))))))))))
            exact eM_leaf eM_r45 hσ hq h0 hH ⟨tab,mx⟩ (eM_memoG hσ hq h0 ⟨tab,mx⟩) hA
          ·
           have gk49x205 := sp_w0 (eM_pm205 hq b26) (eM_pk49 ((eM_pDR hq).symm.trans ((eM_pDD hq b8 b21 b34).1 b54)) (fun h => b128 ((eM_pAC hq b8 b34).2 h)) (sp_z0 (eM_pm198 hq b26) b26 b198))
           have b205 : ¬ (q 205=0) := gk49x205
           have gk50x290 := sp_w1 (eM_pm290 hq b26 b205 (eM_pm200 hq b26) (eM_pm207 hq b26) (eM_pm198 hq b26) (eM_pm205 hq b26)) (sp_z0 (eM_pm205 hq b26) b26 b205) (eM_pk50 ((eM_pDR hq).symm.trans ((eM_pDD hq b8 b21 b34).1 b54)))
           have b290 : q 290=0 := gk50x290
           have gk109x292 := sp_w1 (eM_pm292 hq b26 b205 (eM_pm209 hq b26) (eM_pm211 hq b26) (eM_pm198 hq b26) (eM_pm205 hq b26)) (sp_z0 (eM_pm205 hq b26) b26 b205) (eM_pk109 ((eM_pDR hq).symm.trans ((eM_pDD hq b8 b21 b34).1 b54)) ((eM_pO hq b8 b21 b34).1 b95))
           have b292 : q 292=0 := gk109x292
           have hH : hAll q eM_H46 := (eM_An (hF b8) (eM_An (hF b21) (eM_An (hF b34) (eM_An (hT b54) (eM_An (hT b95) (eM_An (hF b100) (eM_An (hF b128) (eM_An (hT b157) (eM_An (hT b0) (eM_An (hF b13) (eM_An (hF b26) (eM_An (hF b198) (eM_An (hF b205) (eM_An (hT b290) (eM_An (hT b292) trivial)))))))))))))))
           exact eM_leaf eM_r46 hσ hq h0 hH ⟨tab,mx⟩ (eM_memoG hσ hq h0 ⟨tab,mx⟩) hA
        ·
         by_cases b13 : q 13=0
         ·
          by_cases b26 : q 26=0
          ·
           by_cases b414 : q 414=0
           ·
            have gk110x421 := sp_w1 (eM_pm421 hq b0) b0 (eM_pk110 ((eM_pDR hq).symm.trans ((eM_pDD hq b8 b21 b34).1 b54)) (fun h => b100 ((eM_pAB hq b8 b21).2 h)) (sp_z1 (eM_pm414 hq b0) b414))
            have b421 : q 421=0 := gk110x421
            have gk111x416 := sp_w0 (eM_pm416 hq b0) (eM_pk111 ((eM_pDR hq).symm.trans ((eM_pDD hq b8 b21 b34).1 b54)) (fun h => b100 ((eM_pAB hq b8 b21).2 h)) b0 (sp_z1 (eM_pm414 hq b0) b414))
            have b416 : ¬ (q 416=0) := gk111x416
            have gk112x423 := sp_w0 (eM_pm423 hq b0) (eM_pk112 ((eM_pDR hq).symm.trans ((eM_pDD hq b8 b21 b34).1 b54)) (fun h => b128 ((eM_pAC hq b8 b34).2 h)) (sp_z0 (eM_pm416 hq b0) b0 b416))
            have b423 : ¬ (q 423=0) := gk112x423
            have gk113x436 := sp_w1 (eM_pm436 hq b0 b423 (eM_pm432 hq b0) (eM_pm434 hq b0) (eM_pm416 hq b0) (eM_pm423 hq b0)) (sp_z0 (eM_pm423 hq b0) b0 b423) (eM_pk113 ((eM_pDR hq).symm.trans ((eM_pDD hq b8 b21 b34).1 b54)) ((eM_pO hq b8 b21 b34).1 b95))
            have b436 : q 436=0 := gk113x436
            have hH : hAll q eM_H47 := (eM_An (hF b8) (eM_An (hF b21) (eM_An (hF b34) (eM_An (hT b54) (eM_An (hT b95) (eM_An (hF b100) (eM_An (hF b128) (eM_An (hT b157) (eM_An (hF b0) (eM_An (hT b13) (eM_An (hT b26) (eM_An (hT b414) (eM_An (hT b421) (eM_An (hF b416) (eM_An (hF b423) (eM_An (hT b436) trivial))))))))))))))))
            exact eM_leaf eM_r47 hσ hq h0 hH ⟨tab,mx⟩ (eM_memoG hσ hq h0 ⟨tab,mx⟩) hA
           ·
            have gk114x421 := sp_w0 (eM_pm421 hq b0) (eM_pk114 ((eM_pDR hq).symm.trans ((eM_pDD hq b8 b21 b34).1 b54)) (fun h => b128 ((eM_pAC hq b8 b34).2 h)) (sp_z0 (eM_pm414 hq b0) b0 b414))
            have b421 : ¬ (q 421=0) := gk114x421
            have gk115x443 := sp_w1 (eM_pm443 hq b0 b421 (eM_pm416 hq b0) (eM_pm423 hq b0) (eM_pm414 hq b0) (eM_pm421 hq b0)) (sp_z0 (eM_pm421 hq b0) b0 b421) (eM_pk115 ((eM_pDR hq).symm.trans ((eM_pDD hq b8 b21 b34).1 b54)))
            have b443 : q 443=0 := gk115x443
            have gk116x445 := sp_w1 (eM_pm445 hq b0 b421 (eM_pm432 hq b0) (eM_pm434 hq b0) (eM_pm414 hq b0) (eM_pm421 hq b0)) (sp_z0 (eM_pm421 hq b0) b0 b421) (eM_pk116 ((eM_pDR hq).symm.trans ((eM_pDD hq b8 b21 b34).1 b54)) ((eM_pO hq b8 b21 b34).1 b95))
            have b445 : q 445=0 := gk116x445
            have hH : hAll q eM_H48 := (eM_An (hF b8) (eM_An (hF b21) (eM_An (hF b34) (eM_An (hT b54) (eM_An (hT b95) (eM_An (hF b100) (eM_An (hF b128) (eM_An (hT b157) (eM_An (hF b0) (eM_An (hT b13) (eM_An (hT b26) (eM_An (hF b414) (eM_An (hF b421) (eM_An (hT b443) (eM_An (hT b445) trivial)))))))))))))))
            exact eM_leaf eM_r48 hσ hq h0 hH ⟨tab,mx⟩ (eM_memoG hσ hq h0 ⟨tab,mx⟩) hA
          ·
           by_cases b198 : q 198=0
           ·
            have gk117x205 := sp_w1 (eM_pm205 hq b26) b26 (eM_pk117 ((eM_pDR hq).symm.trans ((eM_pDD hq b8 b21 b34).1 b54)) (fun h => b100 ((eM_pAB hq b8 b21).2 h)) b13 b26 (sp_z1 (eM_pm198 hq b26) b198))
            have b205 : q 205=0 := gk117x205
            have gk91x200 := sp_w0 (eM_pm200 hq b26) (eM_pk91 ((eM_pDR hq).symm.trans ((eM_pDD hq b8 b21 b34).1 b54)) (fun h => b100 ((eM_pAB hq b8 b21).2 h)) b13 b26 (sp_z1 (eM_pm198 hq b26) b198))
            have b200 : ¬ (q 200=0) := gk91x200
            have gk47x207 := sp_w0 (eM_pm207 hq b26) (eM_pk47 ((eM_pDR hq).symm.trans ((eM_pDD hq b8 b21 b34).1 b54)) (fun h => b128 ((eM_pAC hq b8 b34).2 h)) (sp_z0 (eM_pm200 hq b26) b26 b200))
            have b207 : ¬ (q 207=0) := gk47x207
            have gk108x283 := sp_w1 (eM_pm283 hq b26 b207 (eM_pm209 hq b26) (eM_pm211 hq b26) (eM_pm200 hq b26) (eM_pm207 hq b26)) (sp_z0 (eM_pm207 hq b26) b26 b207) (eM_pk108 ((eM_pDR hq).symm.trans ((eM_pDD hq b8 b21 b34).1 b54)) ((eM_pO hq b8 b21 b34).1 b95))
            have b283 : q 283=0 := gk108x283
            have hH : hAll q eM_H49 := (eM_An (hF b8) (eM_An (hF b21) (eM_An (hF b34) (eM_An (hT b54) (eM_An (hT b95) (eM_An (hF b100) (eM_An (hF b128) (eM_An (hT b157) (eM_An (hF b0) (eM_An (hT b13) (eM_An (hF b26) (eM_An (hT b198) (eM_An (hT b205) (eM_An (hF b200) (eM_An (hF b207) (eM_An (hT b283) trivial))))))))))))))))
            exact eM_leaf eM_r49 hσ hq h0 hH ⟨tab,mx⟩ (eM_memoG hσ hq h0 ⟨tab,mx⟩) hA
           ·
            have gk49x205 := sp_w0 (eM_pm205 hq b26) (eM_pk49 ((eM_pDR hq).symm.trans ((eM_pDD hq b8 b21 b34).1 b54)) (fun h => b128 ((eM_pAC hq b8 b34).2 h)) (sp_z0 (eM_pm198 hq b26) b26 b198))
            have b205 : ¬ (q 205=0) := gk49x205
            have gk50x290 := sp_w1 (eM_pm290 hq b26 b205 (eM_pm200 hq b26) (eM_pm207 hq b26) (eM_pm198 hq b26) (eM_pm205 hq b26)) (sp_z0 (eM_pm205 hq b26) b26 b205) (eM_pk50 ((eM_pDR hq).symm.trans ((eM_pDD hq b8 b21 b34).1 b54)))
            have b290 : q 290=0 := gk50x290
            have gk109x292 := sp_w1 (eM_pm292 hq b26 b205 (eM_pm209 hq b26) (eM_pm211 hq b26) (eM_pm198 hq b26) (eM_pm205 hq b26)) (sp_z0 (eM_pm205 hq b26) b26 b205) (eM_pk109 ((eM_pDR hq).symm.trans ((eM_pDD hq b8 b21 b34).1 b54)) ((eM_pO hq b8 b21 b34).1 b95))
            have b292 : q 292=0 := gk109x292
            have hH : hAll q eM_H50 := (eM_An (hF b8) (eM_An (hF b21) (eM_An (hF b34) (eM_An (hT b54) (eM_An (hT b95) (eM_An (hF b100) (eM_An (hF b128) (eM_An (hT b157) (eM_An (hF b0) (eM_An (hT b13) (eM_An (hF b26) (eM_An (hF b198) (eM_An (hF b205) (eM_An (hT b290) (eM_An (hT b292) trivial)))))))))))))))
            exact eM_leaf eM_r50 hσ hq h0 hH ⟨tab,mx⟩ (eM_memoG hσ hq h0 ⟨tab,mx⟩) hA
         ·
          by_cases b26 : q 26=0
          ·
           by_cases b297 : q 297=0
           ·
            have gk85x304 := sp_w1 (eM_pm304 hq b13) b13 (eM_pk85 ((eM_pDR hq).symm.trans ((eM_pDD hq b8 b21 b34).1 b54)) (fun h => b100 ((eM_pAB hq b8 b21).2 h)) (sp_z1 (eM_pm297 hq b13) b297))
            have b304 : q 304=0 := gk85x304
            have gk86x299 := sp_w0 (eM_pm299 hq b13) (eM_pk86 ((eM_pDR hq).symm.trans ((eM_pDD hq b8 b21 b34).1 b54)) (fun h => b100 ((eM_pAB hq b8 b21).2 h)) b13 (sp_z1 (eM_pm297 hq b13) b297))
            have b299 : ¬ (q 299=0) := gk86x299
            have gk118x306 := sp_w0 (eM_pm306 hq b13) (eM_pk118 ((eM_pDR hq).symm.trans ((eM_pDD hq b8 b21 b34).1 b54)) (fun h => b128 ((eM_pAC hq b8 b34).2 h)) b13 b26 (sp_z0 (eM_pm299 hq b13) b13 b299))
            have b306 : ¬ (q 306=0) := gk118x306
            have gk119x319 := sp_w1 (eM_pm319 hq b13 b306 (eM_pm315 hq b13) (eM_pm317 hq b13) (eM_pm299 hq b13) (eM_pm306 hq b13)) (sp_z0 (eM_pm306 hq b13) b13 b306) (eM_pk119 ((eM_pDR hq).symm.trans ((eM_pDD hq b8 b21 b34).1 b54)) ((eM_pO hq b8 b21 b34).1 b95))
            have b319 : q 319=0 := gk119x319
            have hH : hAll q eM_H51 := (eM_An (hF b8) (eM_An (hF b21) (eM_An (hF b34) (eM_An (hT b54) (eM_An (hT b95) (eM_An (hF b100) (eM_An (hF b128) (eM_An (hT b157) (eM_An (hF b0) (eM_An (hF b13) (eM_An (hT b26) (eM_An (hT b297) (eM_An (hT b304) (eM_An (hF b299) (eM_An (hF b306) (eM_An (hT b319) trivial))))))))))))))))
            exact eM_leaf eM_r51 hσ hq h0 hH ⟨tab,mx⟩ (eM_memoG hσ hq h0 ⟨tab,mx⟩) hA
           ·
            have gk120x304 := sp_w0 (eM_pm304 hq b13) (eM_pk120 ((eM_pDR hq).symm.trans ((eM_pDD hq b8 b21 b34).1 b54)) (fun h => b128 ((eM_pAC hq b8 b34).2 h)) b13 b26 (sp_z0 (eM_pm297 hq b13) b13 b297))
            have b304 : ¬ (q 304=0) := gk120x304
            have gk56x326 := sp_w1 (eM_pm326 hq b13 b304 (eM_pm299 hq b13) (eM_pm306 hq b13) (eM_pm297 hq b13) (eM_pm304 hq b13)) (sp_z0 (eM_pm304 hq b13) b13 b304) (eM_pk56 ((eM_pDR hq).symm.trans ((eM_pDD hq b8 b21 b34).1 b54)))
            have b326 : q 326=0 := gk56x326
            have gk121x328 := sp_w1 (eM_pm328 hq b13 b304 (eM_pm315 hq b13) (eM_pm317 hq b13) (eM_pm297 hq b13) (eM_pm304 hq b13)) (sp_z0 (eM_pm304 hq b13) b13 b304) (eM_pk121 ((eM_pDR hq).symm.trans ((eM_pDD hq b8 b21 b34).1 b54)) ((eM_pO hq b8 b21 b34).1 b95))
            have b328 : q 328=0 := gk121x328
            have hH : hAll q eM_H52 := (eM_An (hF b8) (eM_An (hF b21) (eM_An (hF b34) (eM_An (hT b54) (eM_An (hT b95) (eM_An (hF b100) (eM_An (hF b128) (eM_An (hT b157) (eM_An (hF b0) (eM_An (hF b13) (eM_An (hT b26) (eM_An (hF b297) (eM_An (hF b304) (eM_An (hT b326) (eM_An (hT b328) trivial)))))))))))))))
            exact eM_leaf eM_r52 hσ hq h0 hH ⟨tab,mx⟩ (eM_memoG hσ hq h0 ⟨tab,mx⟩) hA
          ·
           by_cases b198 : q 198=0
           ·
            by_cases b205 : q 205=0
            ·
             by_cases b200 : q 200=0
             ·
              have gk107x207 := sp_w0 (eM_pm207 hq b26) (eM_pk107 ((eM_pDR hq).symm.trans ((eM_pDD hq b8 b21 b34).1 b54)) (fun h => b128 ((eM_pAC hq b8 b34).2 h)) b26 (sp_z1 (eM_pm205 hq b26) b205))
              have b207 : ¬ (q 207=0) := gk107x207
              have gk108x283 := sp_w1 (eM_pm283 hq b26 b207 (eM_pm209 hq b26) (eM_pm211 hq b26) (eM_pm200 hq b26) (eM_pm207 hq b26)) (sp_z0 (eM_pm207 hq b26) b26 b207) (eM_pk108 ((eM_pDR hq).symm.trans ((eM_pDD hq b8 b21 b34).1 b54)) ((eM_pO hq b8 b21 b34).1 b95))
              have b283 : q 283=0 := gk108x283
              have hH : hAll q eM_H53 := (eM_An (hF b8) (eM_An (hF b21) (eM_An (hF b34) (eM_An (hT b54) (eM_An (hT b95) (eM_An (hF b100) (eM_An (hF b128) (eM_An (hT b157) (eM_An (hF b0) (eM_An (hF b13) (eM_An (hF b26) (eM_An (hT b198) (eM_An (hT b205) (eM_An (hT b200) (eM_An (hF b207) (eM_An (hT b283) trivial))))))))))))))))
              exact eM_leaf eM_r53 hσ hq h0 hH ⟨tab,mx⟩ (eM_memoG hσ hq h0 ⟨tab,mx⟩) hA
             ·
              have gk47x207 := sp_w0 (eM_pm207 hq b26) (eM_pk47 ((eM_pDR hq).symm.trans ((eM_pDD hq b8 b21 b34).1 b54)) (fun h => b128 ((eM_pAC hq b8 b34).2 h)) (sp_z0 (eM_pm200 hq b26) b26 b200))
              have b207 : ¬ (q 207=0) := gk47x207
              have gk108x283 := sp_w1 (eM_pm283 hq b26 b207 (eM_pm209 hq b26) (eM_pm211 hq b26) (eM_pm200 hq b26) (eM_pm207 hq b26)) (sp_z0 (eM_pm207 hq b26) b26 b207) (eM_pk108 ((eM_pDR hq).symm.trans ((eM_pDD hq b8 b21 b34).1 b54)) ((eM_pO hq b8 b21 b34).1 b95))
              have b283 : q 283=0 := gk108x283
              have hH : hAll q eM_H54 := (eM_An (hF b8) (eM_An (hF b21) (eM_An (hF b34) (eM_An (hT b54) (eM_An (hT b95) (eM_An (hF b100) (eM_An (hF b128) (eM_An (hT b157) (eM_An (hF b0) (eM_An (hF b13) (eM_An (hF b26) (eM_An (hT b198) (eM_An (hT b205) (eM_An (hF b200) (eM_An (hF b207) (eM_An (hT b283) trivial))))))))))))))))
              exact eM_leaf eM_r54 hσ hq h0 hH ⟨tab,mx⟩ (eM_memoG hσ hq h0 ⟨tab,mx⟩) hA
            ·
             have gk50x290 := sp_w1 (eM_pm290 hq b26 b205 (eM_pm200 hq b26) (eM_pm207 hq b26) (eM_pm198 hq b26) (eM_pm205 hq b26)) (sp_z0 (eM_pm205 hq b26) b26 b205) (eM_pk50 ((eM_pDR hq).symm.trans ((eM_pDD hq b8 b21 b34).1 b54)))
             have b290 : q 290=0 := gk50x290
             have gk109x292 := sp_w1 (eM_pm292 hq b26 b205 (eM_pm209 hq b26) (eM_pm211 hq b26) (eM_pm198 hq b26) (eM_pm205 hq b26)) (sp_z0 (eM_pm205 hq b26) b26 b205) (eM_pk109 ((eM_pDR hq).symm.trans ((eM_pDD hq b8 b21 b34).1 b54)) ((eM_pO hq b8 b21 b34).1 b95))
             have b292 : q 292=0 := gk109x292
             have hH : hAll q eM_H55 := (eM_An (hF b8) (eM_An (hF b21) (eM_An (hF b34) (eM_An (hT b54) (eM_An (hT b95) (eM_An (hF b100) (eM_An (hF b128) (eM_An (hT b157) (eM_An (hF b0) (eM_An (hF b13) (eM_An (hF b26) (eM_An (hT b198) (eM_An (hF b205) (eM_An (hT b290) (eM_An (hT b292) trivial)))))))))))))))
             exact eM_leaf eM_r55 hσ hq h0 hH ⟨tab,mx⟩ (eM_memoG hσ hq h0 ⟨tab,mx⟩) hA
           ·
            have gk49x205 := sp_w0 (eM_pm205 hq b26) (eM_pk49 ((eM_pDR hq).symm.trans ((eM_pDD hq b8 b21 b34).1 b54)) (fun h => b128 ((eM_pAC hq b8 b34).2 h)) (sp_z0 (eM_pm198 hq b26) b26 b198))
            have b205 : ¬ (q 205=0) := gk49x205
            have gk50x290 := sp_w1 (eM_pm290 hq b26 b205 (eM_pm200 hq b26) (eM_pm207 hq b26) (eM_pm198 hq b26) (eM_pm205 hq b26)) (sp_z0 (eM_pm205 hq b26) b26 b205) (eM_pk50 ((eM_pDR hq).symm.trans ((eM_pDD hq b8 b21 b34).1 b54)))
            have b290 : q 290=0 := gk50x290
            have gk109x292 := sp_w1 (eM_pm292 hq b26 b205 (eM_pm209 hq b26) (eM_pm211 hq b26) (eM_pm198 hq b26) (eM_pm205 hq b26)) (sp_z0 (eM_pm205 hq b26) b26 b205) (eM_pk109 ((eM_pDR hq).symm.trans ((eM_pDD hq b8 b21 b34).1 b54)) ((eM_pO hq b8 b21 b34).1 b95))
            have b292 : q 292=0 := gk109x292
            have hH : hAll q eM_H56 := (eM_An (hF b8) (eM_An (hF b21) (eM_An (hF b34) (eM_An (hT b54) (eM_An (hT b95) (eM_An (hF b100) (eM_An (hF b128) (eM_An (hT b157) (eM_An (hF b0) (eM_An (hF b13) (eM_An (hF b26) (eM_An (hF b198) (eM_An (hF b205) (eM_An (hT b290) (eM_An (hT b292) trivial)))))))))))))))
            exact eM_leaf eM_r56 hσ hq h0 hH ⟨tab,mx⟩ (eM_memoG hσ hq h0 ⟨tab,mx⟩) hA
     ·
      have gT := (eM_pDD hq b8 b21 b34).1 b54
      have b157 : q 157=0 := gT
      by_cases b0 : q 0=0
      ·
       by_cases b13 : q 13=0
       ·
        by_cases b26 : q 26=0
        ·
         by_cases b1 : q 1=0
         ·
          by_cases b14 : q 14=0
          ·
           have gk122x27 := (eM_pk122 ((eM_pDR hq).symm.trans ((eM_pDD hq b8 b21 b34).1 b54)) (fun h => b95 ((eM_pO hq b8 b21 b34).2 h)) b0 b13 b26 b1 b14)
           have b27 : ¬ (q 27=0) := gk122x27
           have gk37x182 := sp_w0 (eM_pm182 hq b27) (eM_pk37 (fun h => b21 ((eM_pS1 hq).2 h)) ((eM_pDR hq).symm.trans ((eM_pDD hq b8 b21 b34).1 b54)) b13 b14 b27)
           have b182 : ¬ (q 182=0) := gk37x182
           have gk123x189 := sp_w0 (eM_pm189 hq b27) (eM_pk123 (fun h => b8 ((eM_pS0 hq).2 h)) ((eM_pDR hq).symm.trans ((eM_pDD hq b8 b21 b34).1 b54)) b1 b27 (sp_z0 (eM_pm182 hq b27) b27 b182))
           have b189 : ¬ (q 189=0) := gk123x189
           have gk124x247 := sp_w0 (eM_pm247 hq b27 b189 (eM_pm191 hq b27) (eM_pm193 hq b27) (eM_pm182 hq b27) (eM_pm189 hq b27)) (eM_pk124 ((eM_pDR hq).symm.trans ((eM_pDD hq b8 b21 b34).1 b54)) (fun h => b95 ((eM_pO hq b8 b21 b34).2 h)) (sp_z0 (eM_pm189 hq b27) b27 b189))
           have b247 : ¬ (q 247=0) := gk124x247
           have hH : hAll q eM_H57 := (eM_An (hF b8) (eM_An (hF b21) (eM_An (hF b34) (eM_An (hT b54) (eM_An (hF b95) (eM_An (hT b157) (eM_An (hT b0) (eM_An (hT b13) (eM_An (hT b26) (eM_An (hT b1) (eM_An (hT b14) (eM_An (hF b27) (eM_An (hF b182) (eM_An (hF b189) (eM_An (hF b247) trivial)))))))))))))))
           exact eM_leaf eM_r57 hσ hq h0 hH ⟨tab,mx⟩ (eM_memoG hσ hq h0 ⟨tab,mx⟩) hA
          ·
           by_cases b27 : q 27=0
           ·
            have gk125x254 := sp_w0 (eM_pm254 hq b14) (eM_pk125 (fun h => b8 ((eM_pS0 hq).2 h)) ((eM_pDR hq).symm.trans ((eM_pDD hq b8 b21 b34).1 b54)) b0 b1 b14)
            have b254 : ¬ (q 254=0) := gk125x254
            have gk79x261 := sp_w0 (eM_pm261 hq b14) (eM_pk79 (fun h => b34 ((eM_pS2 hq).2 h)) ((eM_pDR hq).symm.trans ((eM_pDD hq b8 b21 b34).1 b54)) b14 b27 (sp_z0 (eM_pm254 hq b14) b14 b254))
            have b261 : ¬ (q 261=0) := gk79x261
            have gk126x274 := sp_w0 (eM_pm274 hq b14 b261 (eM_pm270 hq b14) (eM_pm272 hq b14) (eM_pm254 hq b14) (eM_pm261 hq b14)) (eM_pk126 ((eM_pDR hq).symm.trans ((eM_pDD hq b8 b21 b34).1 b54)) (fun h => b95 ((eM_pO hq b8 b21 b34).2 h)) (sp_z0 (eM_pm261 hq b14) b14 b261))
            have b274 : ¬ (q 274=0) := gk126x274
            have hH : hAll q eM_H58 := (eM_An (hF b8) (eM_An (hF b21) (eM_An (hF b34) (eM_An (hT b54) (eM_An (hF b95) (eM_An (hT b157) (eM_An (hT b0) (eM_An (hT b13) (eM_An (hT b26) (eM_An (hT b1) (eM_An (hF b14) (eM_An (hT b27) (eM_An (hF b254) (eM_An (hF b261) (eM_An (hF b274) trivial)))))))))))))))
            exact eM_leaf eM_r58 hσ hq h0 hH ⟨tab,mx⟩ (eM_memoG hσ hq h0 ⟨tab,mx⟩) hA
           ·
            by_cases b182 : q 182=0
            ·
             have gk127x189 := sp_w0 (eM_pm189 hq b27) (eM_pk127 ((eM_pDR hq).symm.trans ((eM_pDD hq b8 b21 b34).1 b54)) (fun h => b95 ((eM_pO hq b8 b21 b34).2 h)) b0 b13 b26 b27 (sp_z1 (eM_pm182 hq b27) b182))
             have b189 : ¬ (q 189=0) := gk127x189
             have gk124x247 := sp_w0 (eM_pm247 hq b27 b189 (eM_pm191 hq b27) (eM_pm193 hq b27) (eM_pm182 hq b27) (eM_pm189 hq b27)) (eM_pk124 ((eM_pDR hq).symm.trans ((eM_pDD hq b8 b21 b34).1 b54)) (fun h => b95 ((eM_pO hq b8 b21 b34).2 h)) (sp_z0 (eM_pm189 hq b27) b27 b189))
             have b247 : ¬ (q 247=0) := gk124x247
             have hH : hAll q eM_H59 := (eM_An (hF b8) (eM_An (hF b21) (eM_An (hF b34) (eM_An (hT b54) (eM_An (hF b95) (eM_An (hT b157) (eM_An (hT b0) (eM_An (hT b13) (eM_An (hT b26) (eM_An (hT b1) (eM_An (hF b14) (eM_An (hF b27) (eM_An (hT b182) (eM_An (hF b189) (eM_An (hF b247) trivial)))))))))))))))
             exact eM_leaf eM_r59 hσ hq h0 hH ⟨tab,mx⟩ (eM_memoG hσ hq h0 ⟨tab,mx⟩) hA
            ·
             have gk123x189 := sp_w0 (eM_pm189 hq b27) (eM_pk123 (fun h => b8 ((eM_pS0 hq).2 h)) ((eM_pDR hq).symm.trans ((eM_pDD hq b8 b21 b34).1 b54)) b1 b27 (sp_z0 (eM_pm182 hq b27) b27 b182))
             have b189 : ¬ (q 189=0) := gk123x189
             have gk124x247 := sp_w0 (eM_pm247 hq b27 b189 (eM_pm191 hq b27) (eM_pm193 hq b27) (eM_pm182 hq b27) (eM_pm189 hq b27)) (eM_pk124 ((eM_pDR hq).symm.trans ((eM_pDD hq b8 b21 b34).1 b54)) (fun h => b95 ((eM_pO hq b8 b21 b34).2 h)) (sp_z0 (eM_pm189 hq b27) b27 b189))
             have b247 : ¬ (q 247=0) := gk124x247
             have hH : hAll q eM_H60 := (eM_An (hF b8) (eM_An (hF b21) (eM_An (hF b34) (eM_An (hT b54) (eM_An (hF b95) (eM_An (hT b157) (eM_An (hT b0) (eM_An (hT b13) (eM_An (hT b26) (eM_An (hT b1) (eM_An (hF b14) (eM_An (hF b27) (eM_An (hF b182) (eM_An (hF b189) (eM_An (hF b247) trivial)))))))))))))))
             exact eM_leaf eM_r60 hσ hq h0 hH ⟨tab,mx⟩ (eM_memoG hσ hq h0 ⟨tab,mx⟩) hA
         ·
          by_cases b14 : q 14=0
          ·
           by_cases b27 : q 27=0
           ·
            have gk128x389 := sp_w0 (eM_pm389 hq b1) (eM_pk128 (fun h => b21 ((eM_pS1 hq).2 h)) ((eM_pDR hq).symm.trans ((eM_pDD hq b8 b21 b34).1 b54)) b13 b1 b14)
            have b389 : ¬ (q 389=0) := gk128x389
            have gk129x396 := sp_w0 (eM_pm396 hq b1) (eM_pk129 (fun h => b34 ((eM_pS2 hq).2 h)) ((eM_pDR hq).symm.trans ((eM_pDD hq b8 b21 b34).1 b54)) b14 b27 (sp_z0 (eM_pm389 hq b1) b1 b389))
            have b396 : ¬ (q 396=0) := gk129x396
            have gk130x409 := sp_w0 (eM_pm409 hq b1 b396 (eM_pm405 hq b1) (eM_pm407 hq b1) (eM_pm389 hq b1) (eM_pm396 hq b1)) (eM_pk130 ((eM_pDR hq).symm.trans ((eM_pDD hq b8 b21 b34).1 b54)) (fun h => b95 ((eM_pO hq b8 b21 b34).2 h)) (sp_z0 (eM_pm396 hq b1) b1 b396))
            have b409 : ¬ (q 409=0) := gk130x409
            have hH : hAll q eM_H61 := (eM_An (hF b8) (eM_An (hF b21) (eM_An (hF b34) (eM_An (hT b54) (eM_An (hF b95) (eM_An (hT b157) (eM_An (hT b0) (eM_An (hT b13) (eM_An (hT b26) (eM_An (hF b1) (eM_An (hT b14) (eM_An (hT b27) (eM_An (hF b389) (eM_An (hF b396) (eM_An (hF b409) trivial)))))))))))))))
            exact eM_leaf eM_r61 hσ hq h0 hH ⟨tab,mx⟩ (eM_memoG hσ hq h0 ⟨tab,mx⟩) hA
           ·
            have gk37x182 := sp_w0 (eM_pm182 hq b27) (eM_pk37 (fun h => b21 ((eM_pS1 hq).2 h)) ((eM_pDR hq).symm.trans ((eM_pDD hq b8 b21 b34).1 b54)) b13 b14 b27)
            have b182 : ¬ (q 182=0) := gk37x182
            by_cases b189 : q 189=0
            ·
             have gk131x364 := sp_w0 (eM_pm364 hq b27 b182 (eM_pm193 hq b27) (eM_pm191 hq b27) (eM_pm189 hq b27) (eM_pm182 hq b27)) (eM_pk131 ((eM_pDR hq).symm.trans ((eM_pDD hq b8 b21 b34).1 b54)) (fun h => b95 ((eM_pO hq b8 b21 b34).2 h)) (sp_z0 (eM_pm182 hq b27) b27 b182))
             have b364 : ¬ (q 364=0) := gk131x364
             have hH : hAll q eM_H62 := (eM_An (hF b8) (eM_An (hF b21) (eM_An (hF b34) (eM_An (hT b54) (eM_An (hF b95) (eM_An (hT b157) (eM_An (hT b0) (eM_An (hT b13) (eM_An (hT b26) (eM_An (hF b1) (eM_An (hT b14) (eM_An (hF b27) (eM_An (hF b182) (eM_An (hT b189) (eM_An (hF b364) trivial)))))))))))))))
             exact eM_leaf eM_r62 hσ hq h0 hH ⟨tab,mx⟩ (eM_memoG hσ hq h0 ⟨tab,mx⟩) hA
            ·
             have gk124x247 := sp_w0 (eM_pm247 hq b27 b189 (eM_pm191 hq b27) (eM_pm193 hq b27) (eM_pm182 hq b27) (eM_pm189 hq b27)) (eM_pk124 ((eM_pDR hq).symm.trans ((eM_pDD hq b8 b21 b34).1 b54)) (fun h => b95 ((eM_pO hq b8 b21 b34).2 h)) (sp_z0 (eM_pm189 hq b27) b27 b189))
             have b247 : ¬ (q 247=0) := gk124x247
             have hH : hAll q eM_H63 := (eM_An (hF b8) (eM_An (hF b21) (eM_An (hF b34) (eM_An (hT b54) (eM_An (hF b95) (eM_An (hT b157) (eM_An (hT b0) (eM_An (hT b13) (eM_An (hT b26) (eM_An (hF b1) (eM_An (hT b14) (eM_An (hF b27) (eM_An (hF b182) (eM_An (hF b189) (eM_An (hF b247) trivial)))))))))))))))
             exact eM_leaf eM_r63 hσ hq h0 hH ⟨tab,mx⟩ (eM_memoG hσ hq h0 ⟨tab,mx⟩) hA
          ·
           by_cases b27 : q 27=0
           ·
            by_cases b254 : q 254=0
            ·
             have gk132x261 := sp_w0 (eM_pm261 hq b14) (eM_pk132 ((eM_pDR hq).symm.trans ((eM_pDD hq b8 b21 b34).1 b54)) (fun h => b95 ((eM_pO hq b8 b21 b34).2 h)) b0 b13 b26 b14 (sp_z1 (eM_pm254 hq b14) b254))
             have b261 : ¬ (q 261=0) := gk132x261
             have gk126x274 := sp_w0 (eM_pm274 hq b14 b261 (eM_pm270 hq b14) (eM_pm272 hq b14) (eM_pm254 hq b14) (eM_pm261 hq b14)) (eM_pk126 ((eM_pDR hq).symm.trans ((eM_pDD hq b8 b21 b34).1 b54)) (fun h => b95 ((eM_pO hq b8 b21 b34).2 h)) (sp_z0 (eM_pm261 hq b14) b14 b261))
             have b274 : ¬ (q 274=0) := gk126x274
             have hH : hAll q eM_H64 := (eM_An (hF b8) (eM_An (hF b21) (eM_An (hF b34) (eM_An (hT b54) (eM_An (hF b95) (eM_An (hT b157) (eM_An (hT b0) (eM_An (hT b13) (eM_An (hT b26) (eM_An (hF b1) (eM_An (hF b14) (eM_An (hT b27) (eM_An (hT b254) (eM_An (hF b261) (eM_An (hF b274) trivial)))))))))))))))
             exact eM_leaf eM_r64 hσ hq h0 hH ⟨tab,mx⟩ (eM_memoG hσ hq h0 ⟨tab,mx⟩) hA
            ·
             have gk79x261 := sp_w0 (eM_pm261 hq b14) (eM_pk79 (fun h => b34 ((eM_pS2 hq).2 h)) ((eM_pDR hq).symm.trans ((eM_pDD hq b8 b21 b34).1 b54)) b14 b27 (sp_z0 (eM_pm254 hq b14) b14 b254))
             have b261 : ¬ (q 261=0) := gk79x261
             have gk126x274 := sp_w0 (eM_pm274 hq b14 b261 (eM_pm270 hq b14) (eM_pm272 hq b14) (eM_pm254 hq b14) (eM_pm261 hq b14)) (eM_pk126 ((eM_pDR hq).symm.trans ((eM_pDD hq b8 b21 b34).1 b54)) (fun h => b95 ((eM_pO hq b8 b21 b34).2 h)) (sp_z0 (eM_pm261 hq b14) b14 b261))
             have b274 : ¬ (q 274=0) := gk126x274
             have hH : hAll q eM_H65 := (eM_An (hF b8) (eM_An (hF b21) (eM_An (hF b34) (eM_An (hT b54) (eM_An (hF b95) (eM_An (hT b157) (eM_An (hT b0) (eM_An (hT b13) (eM_An (hT b26) (eM_An (hF b1) (eM_An (hF b14) (eM_An (hT b27) (eM_An (hF b254) (eM_An (hF b261) (eM_An (hF b274) trivial)))))))))))))))
             exact eM_leaf eM_r65 hσ hq h0 hH ⟨tab,mx⟩ (eM_memoG hσ hq h0 ⟨tab,mx⟩) hA
           ·
            by_cases b182 : q 182=0
            ·
             have gk127x189 := sp_w0 (eM_pm189 hq b27) (eM_pk127 ((eM_pDR hq).symm.trans ((eM_pDD hq b8 b21 b34).1 b54)) (fun h => b95 ((eM_pO hq b8 b21 b34).2 h)) b0 b13 b26 b27 (sp_z1 (eM_pm182 hq b27) b182))
             have b189 : ¬ (q 189=0) := gk127x189
             have gk124x247 := sp_w0 (eM_pm247 hq b27 b189 (eM_pm191 hq b27) (eM_pm193 hq b27) (eM_pm182 hq b27) (eM_pm189 hq b27)) (eM_pk124 ((eM_pDR hq).symm.trans ((eM_pDD hq b8 b21 b34).1 b54)) (fun h => b95 ((eM_pO hq b8 b21 b34).2 h)) (sp_z0 (eM_pm189 hq b27) b27 b189))
             have b247 : ¬ (q 247=0) := gk124x247
             have hH : hAll q eM_H66 := (eM_An (hF b8) (eM_An (hF b21) (eM_An (hF b34) (eM_An (hT b54) (eM_An (hF b95) (eM_An (hT b157) (eM_An (hT b0) (eM_An (hT b13) (eM_An (hT b26) (eM_An (hF b1) (eM_An (hF b14) (eM_An (hF b27) (eM_An (hT b182) (eM_An (hF b189) (eM_An (hF b247) trivial)))))))))))))))
             exact eM_leaf eM_r66 hσ hq h0 hH ⟨tab,mx⟩ (eM_memoG hσ hq h0 ⟨tab,mx⟩) hA
            ·
             by_cases b189 : q 189=0
             ·
              have gk131x364 := sp_w0 (eM_pm364 hq b27 b182 (eM_pm193 hq b27) (eM_pm191 hq b27) (eM_pm189 hq b27) (eM_pm182 hq b27)) (eM_pk131 ((eM_pDR hq).symm.trans ((eM_pDD hq b8 b21 b34).1 b54)) (fun h => b95 ((eM_pO hq b8 b21 b34).2 h)) (sp_z0 (eM_pm182 hq b27) b27 b182))
              have b364 : ¬ (q 364=0) := gk131x364
              have hH : hAll q eM_H67 := (eM_An (hF b8) (eM_An (hF b21) (eM_An (hF b34) (eM_An (hT b54) (eM_An (hF b95) (eM_An (hT b157) (eM_An (hT b0) (eM_An (hT b13) (eM_An (hT b26) (eM_An (hF b1) (eM_An (hF b14) (eM_An (hF b27) (eM_An (hF b182) (eM_An (hT b189) (eM_An (hF b364) trivial)))))))))))))))
              exact eM_leaf eM_r67 hσ hq h0 hH ⟨tab,mx⟩ (eM_memoG hσ hq h0 ⟨tab,mx⟩) hA
             ·
              have gk124x247 := sp_w0 (eM_pm247 hq b27 b189 (eM_pm191 hq b27) (eM_pm193 hq b27) (eM_pm182 hq b27) (eM_pm189 hq b27)) (eM_pk124 ((eM_pDR hq).symm.trans ((eM_pDD hq b8 b21 b34).1 b54)) (fun h => b95 ((eM_pO hq b8 b21 b34).2 h)) (sp_z0 (eM_pm189 hq b27) b27 b189))
              have b247 : ¬ (q 247=0) := gk124x247
              have hH : hAll q eM_H68 := (eM_An (hF b8) (eM_An (hF b21) (eM_An (hF b34) (eM_An (hT b54) (eM_An (hF b95) (eM_An (hT b157) (eM_An (hT b0) (eM_An (hT b13) (eM_An (hT b26) (eM_An (hF b1) (eM_An (hF b14) (eM_An (hF b27) (eM_An (hF b182) (eM_An (hF b189) (eM_An (hF b247) trivial)))))))))))))))
              exact eM_leaf eM_r68 hσ hq h0 hH ⟨tab,mx⟩ (eM_memoG hσ hq h0 ⟨tab,mx⟩) hA
        ·
         by_cases b198 : q 198=0
         ·
          have gk45x205 := sp_w1 (eM_pm205 hq b26) b26 (eM_pk45 (fun h => b21 ((eM_pS1 hq).2 h)) ((eM_pDR hq).symm.trans ((eM_pDD hq b8 b21 b34).1 b54)) b13 b26 (sp_z1 (eM_pm198 hq b26) b198))
          have b205 : q 205=0 := gk45x205
          have gk46x200 := sp_w0 (eM_pm200 hq b26) (eM_pk46 (fun h => b21 ((eM_pS1 hq).2 h)) ((eM_pDR hq).symm.trans ((eM_pDD hq b8 b21 b34).1 b54)) b13 b26 (sp_z1 (eM_pm198 hq b26) b198))
          have b200 : ¬ (q 200=0) := gk46x200
          have gk133x207 := sp_w0 (eM_pm207 hq b26) (eM_pk133 (fun h => b8 ((eM_pS0 hq).2 h)) ((eM_pDR hq).symm.trans ((eM_pDD hq b8 b21 b34).1 b54)) b0 b26 (sp_z0 (eM_pm200 hq b26) b26 b200))
          have b207 : ¬ (q 207=0) := gk133x207
          have gk134x283 := sp_w0 (eM_pm283 hq b26 b207 (eM_pm209 hq b26) (eM_pm211 hq b26) (eM_pm200 hq b26) (eM_pm207 hq b26)) (eM_pk134 ((eM_pDR hq).symm.trans ((eM_pDD hq b8 b21 b34).1 b54)) (fun h => b95 ((eM_pO hq b8 b21 b34).2 h)) (sp_z0 (eM_pm207 hq b26) b26 b207))
          have b283 : ¬ (q 283=0) := gk134x283
          have hH : hAll q eM_H69 := (eM_An (hF b8) (eM_An (hF b21) (eM_An (hF b34) (eM_An (hT b54) (eM_An (hF b95) (eM_An (hT b157) (eM_An (hT b0) (eM_An (hT b13) (eM_An (hF b26) (eM_An (hT b198) (eM_An (hT b205) (eM_An (hF b200) (eM_An (hF b207) (eM_An (hF b283) trivial))))))))))))))
          exact eM_leaf eM_r69 hσ hq h0 hH ⟨tab,mx⟩ (eM_memoG hσ hq h0 ⟨tab,mx⟩) hA
         ·
          have gk135x205 := sp_w0 (eM_pm205 hq b26) (eM_pk135 (fun h => b8 ((eM_pS0 hq).2 h)) ((eM_pDR hq).symm.trans ((eM_pDD hq b8 b21 b34).1 b54)) b0 b26 (sp_z0 (eM_pm198 hq b26) b26 b198))
          have b205 : ¬ (q 205=0) := gk135x205
          have gk50x290 := sp_w1 (eM_pm290 hq b26 b205 (eM_pm200 hq b26) (eM_pm207 hq b26) (eM_pm198 hq b26) (eM_pm205 hq b26)) (sp_z0 (eM_pm205 hq b26) b26 b205) (eM_pk50 ((eM_pDR hq).symm.trans ((eM_pDD hq b8 b21 b34).1 b54)))
          have b290 : q 290=0 := gk50x290
          have gk136x292 := sp_w0 (eM_pm292 hq b26 b205 (eM_pm209 hq b26) (eM_pm211 hq b26) (eM_pm198 hq b26) (eM_pm205 hq b26)) (eM_pk136 ((eM_pDR hq).symm.trans ((eM_pDD hq b8 b21 b34).1 b54)) (fun h => b95 ((eM_pO hq b8 b21 b34).2 h)) (sp_z0 (eM_pm205 hq b26) b26 b205))
          have b292 : ¬ (q 292=0) := gk136x292
          have hH : hAll q eM_H70 := (eM_An (hF b8) (eM_An (hF b21) (eM_An (hF b34) (eM_An (hT b54) (eM_An (hF b95) (eM_An (hT b157) (eM_An (hT b0) (eM_An (hT b13) (eM_An (hF b26) (eM_An (hF b198) (eM_An (hF b205) (eM_An (hT b290) (eM_An (hF b292) trivial)))))))))))))
          exact eM_leaf eM_r70 hσ hq h0 hH ⟨tab,mx⟩ (eM_memoG hσ hq h0 ⟨tab,mx⟩) hA
       ·
        by_cases b26 : q 26=0
        ·
         by_cases b297 : q 297=0
         ·
          have gk137x304 := sp_w1 (eM_pm304 hq b13) b13 (eM_pk137 (fun h => b8 ((eM_pS0 hq).2 h)) ((eM_pDR hq).symm.trans ((eM_pDD hq b8 b21 b34).1 b54)) b0 b26 (sp_z1 (eM_pm297 hq b13) b297))
          have b304 : q 304=0 := gk137x304
          have gk138x299 := sp_w0 (eM_pm299 hq b13) (eM_pk138 (fun h => b8 ((eM_pS0 hq).2 h)) ((eM_pDR hq).symm.trans ((eM_pDD hq b8 b21 b34).1 b54)) b0 b13 (sp_z1 (eM_pm297 hq b13) b297))
          have b299 : ¬ (q 299=0) := gk138x299
          have gk87x306 := sp_w0 (eM_pm306 hq b13) (eM_pk87 (fun h => b34 ((eM_pS2 hq).2 h)) ((eM_pDR hq).symm.trans ((eM_pDD hq b8 b21 b34).1 b54)) b13 b26 (sp_z0 (eM_pm299 hq b13) b13 b299))
          have b306 : ¬ (q 306=0) := gk87x306
          have gk139x319 := sp_w0 (eM_pm319 hq b13 b306 (eM_pm315 hq b13) (eM_pm317 hq b13) (eM_pm299 hq b13) (eM_pm306 hq b13)) (eM_pk139 ((eM_pDR hq).symm.trans ((eM_pDD hq b8 b21 b34).1 b54)) (fun h => b95 ((eM_pO hq b8 b21 b34).2 h)) (sp_z0 (eM_pm306 hq b13) b13 b306))
          have b319 : ¬ (q 319=0) := gk139x319
          have hH : hAll q eM_H71 := (eM_An (hF b8) (eM_An (hF b21) (eM_An (hF b34) (eM_An (hT b54) (eM_An (hF b95) (eM_An (hT b157) (eM_An (hT b0) (eM_An (hF b13) (eM_An (hT b26) (eM_An (hT b297) (eM_An (hT b304) (eM_An (hF b299) (eM_An (hF b306) (eM_An (hF b319) trivial))))))))))))))
          exact eM_leaf eM_r71 hσ hq h0 hH ⟨tab,mx⟩ (eM_memoG hσ hq h0 ⟨tab,mx⟩) hA
         ·
          have gk89x304 := sp_w0 (eM_pm304 hq b13) (eM_pk89 (fun h => b34 ((eM_pS2 hq).2 h)) ((eM_pDR hq).symm.trans ((eM_pDD hq b8 b21 b34).1 b54)) b13 b26 (sp_z0 (eM_pm297 hq b13) b13 b297))
          have b304 : ¬ (q 304=0) := gk89x304
          have gk56x326 := sp_w1 (eM_pm326 hq b13 b304 (eM_pm299 hq b13) (eM_pm306 hq b13) (eM_pm297 hq b13) (eM_pm304 hq b13)) (sp_z0 (eM_pm304 hq b13) b13 b304) (eM_pk56 ((eM_pDR hq).symm.trans ((eM_pDD hq b8 b21 b34).1 b54)))
          have b326 : q 326=0 := gk56x326
          have gk140x328 := sp_w0 (eM_pm328 hq b13 b304 (eM_pm315 hq b13) (eM_pm317 hq b13) (eM_pm297 hq b13) (eM_pm304 hq b13)) (eM_pk140 ((eM_pDR hq).symm.trans ((eM_pDD hq b8 b21 b34).1 b54)) (fun h => b95 ((eM_pO hq b8 b21 b34).2 h)) (sp_z0 (eM_pm304 hq b13) b13 b304))
          have b328 : ¬ (q 328=0) := gk140x328
          have hH : hAll q eM_H72 := (eM_An (hF b8) (eM_An (hF b21) (eM_An (hF b34) (eM_An (hT b54) (eM_An (hF b95) (eM_An (hT b157) (eM_An (hT b0) (eM_An (hF b13) (eM_An (hT b26) (eM_An (hF b297) (eM_An (hF b304) (eM_An (hT b326) (eM_An (hF b328) trivial)))))))))))))
          exact eM_leaf eM_r72 hσ hq h0 hH ⟨tab,mx⟩ (eM_memoG hσ hq h0 ⟨tab,mx⟩) hA
        ·
         by_cases b198 : q 198=0
         ·
          by_cases b205 : q 205=0
          ·
           by_cases b200 : q 200=0
           ·
            have gk141x207 := sp_w0 (eM_pm207 hq b26) (eM_pk141 ((eM_pDR hq).symm.trans ((eM_pDD hq b8 b21 b34).1 b54)) (fun h => b95 ((eM_pO hq b8 b21 b34).2 h)) b26 (sp_z1 (eM_pm198 hq b26) b198) (sp_z1 (eM_pm205 hq b26) b205) (sp_z1 (eM_pm200 hq b26) b200))
            have b207 : ¬ (q 207=0) := gk141x207
            have gk134x283 := sp_w0 (eM_pm283 hq b26 b207 (eM_pm209 hq b26) (eM_pm211 hq b26) (eM_pm200 hq b26) (eM_pm207 hq b26)) (eM_pk134 ((eM_pDR hq).symm.trans ((eM_pDD hq b8 b21 b34).1 b54)) (fun h => b95 ((eM_pO hq b8 b21 b34).2 h)) (sp_z0 (eM_pm207 hq b26) b26 b207))
            have b283 : ¬ (q 283=0) := gk134x283
            have hH : hAll q eM_H73 := (eM_An (hF b8) (eM_An (hF b21) (eM_An (hF b34) (eM_An (hT b54) (eM_An (hF b95) (eM_An (hT b157) (eM_An (hT b0) (eM_An (hF b13) (eM_An (hF b26) (eM_An (hT b198) (eM_An (hT b205) (eM_An (hT b200) (eM_An (hF b207) (eM_An (hF b283) trivial))))))))))))))
            exact eM_leaf eM_r73 hσ hq h0 hH ⟨tab,mx⟩ (eM_memoG hσ hq h0 ⟨tab,mx⟩) hA
           ·
            have gk133x207 := sp_w0 (eM_pm207 hq b26) (eM_pk133 (fun h => b8 ((eM_pS0 hq).2 h)) ((eM_pDR hq).symm.trans ((eM_pDD hq b8 b21 b34).1 b54)) b0 b26 (sp_z0 (eM_pm200 hq b26) b26 b200))
            have b207 : ¬ (q 207=0) := gk133x207
            have gk134x283 := sp_w0 (eM_pm283 hq b26 b207 (eM_pm209 hq b26) (eM_pm211 hq b26) (eM_pm200 hq b26) (eM_pm207 hq b26)) (eM_pk134 ((eM_pDR hq).symm.trans ((eM_pDD hq b8 b21 b34).1 b54)) (fun h => b95 ((eM_pO hq b8 b21 b34).2 h)) (sp_z0 (eM_pm207 hq b26) b26 b207))
            have b283 : ¬ (q 283=0) := gk134x283
            have hH : hAll q eM_H74 := (eM_An (hF b8) (eM_An (hF b21) (eM_An (hF b34) (eM_An (hT b54) (eM_An (hF b95) (eM_An (hT b157) (eM_An (hT b0) (eM_An (hF b13) (eM_An (hF b26) (eM_An (hT b198) (eM_An (hT b205) (eM_An (hF b200) (eM_An (hF b207) (eM_An (hF b283) trivial))))))))))))))
            exact eM_leaf eM_r74 hσ hq h0 hH ⟨tab,mx⟩ (eM_memoG hσ hq h0 ⟨tab,mx⟩) hA
          ·
           have gk50x290 := sp_w1 (eM_pm290 hq b26 b205 (eM_pm200 hq b26) (eM_pm207 hq b26) (eM_pm198 hq b26) (eM_pm205 hq b26)) (sp_z0 (eM_pm205 hq b26) b26 b205) (eM_pk50 ((eM_pDR hq).symm.trans ((eM_pDD hq b8 b21 b34).1 b54)))
           have b290 : q 290=0 := gk50x290
           have gk136x292 := sp_w0 (eM_pm292 hq b26 b205 (eM_pm209 hq b26) (eM_pm211 hq b26) (eM_pm198 hq b26) (eM_pm205 hq b26)) (eM_pk136 ((eM_pDR hq).symm.trans ((eM_pDD hq b8 b21 b34).1 b54)) (fun h => b95 ((eM_pO hq b8 b21 b34).2 h)) (sp_z0 (eM_pm205 hq b26) b26 b205))
           have b292 : ¬ (q 292=0) := gk136x292
           have hH : hAll q eM_H75 := (eM_An (hF b8) (eM_An (hF b21) (eM_An (hF b34) (eM_An (hT b54) (eM_An (hF b95) (eM_An (hT b157) (eM_An (hT b0) (eM_An (hF b13) (eM_An (hF b26) (eM_An (hT b198) (eM_An (hF b205) (eM_An (hT b290) (eM_An (hF b292) trivial)))))))))))))
           exact eM_leaf eM_r75 hσ hq h0 hH ⟨tab,mx⟩ (eM_memoG hσ hq h0 ⟨tab,mx⟩) hA
         ·
          have gk135x205 := sp_w0 (eM_pm205 hq b26) (eM_pk135 (fun h => b8 ((eM_pS0 hq).2 h)) ((eM_pDR hq).symm.trans ((eM_pDD hq b8 b21 b34).1 b54)) b0 b26 (sp_z0 (eM_pm198 hq b26) b26 b198))
          have b205 : ¬ (q 205=0) := gk135x205
          have gk50x290 := sp_w1 (eM_pm290 hq b26 b205 (eM_pm200 hq b26) (eM_pm207 hq b26) (eM_pm198 hq b26) (eM_pm205 hq b26)) (sp_z0 (eM_pm205 hq b26) b26 b205) (eM_pk50 ((eM_pDR hq).symm.trans ((eM_pDD hq b8 b21 b34).1 b54)))
          have b290 : q 290=0 := gk50x290
          have gk136x292 := sp_w0 (eM_pm292 hq b26 b205 (eM_pm209 hq b26) (eM_pm211 hq b26) (eM_pm198 hq b26) (eM_pm205 hq b26)) (eM_pk136 ((eM_pDR hq).symm.trans ((eM_pDD hq b8 b21 b34).1 b54)) (fun h => b95 ((eM_pO hq b8 b21 b34).2 h)) (sp_z0 (eM_pm205 hq b26) b26 b205))
          have b292 : ¬ (q 292=0) := gk136x292
          have hH : hAll q eM_H76 := (eM_An (hF b8) (eM_An (hF b21) (eM_An (hF b34) (eM_An (hT b54) (eM_An (hF b95) (eM_An (hT b157) (eM_An (hT b0) (eM_An (hF b13) (eM_An (hF b26) (eM_An (hF b198) (eM_An (hF b205) (eM_An (hT b290) (eM_An (hF b292) trivial)))))))))))))
          exact eM_leaf eM_r76 hσ hq h0 hH ⟨tab,mx⟩ (eM_memoG hσ hq h0 ⟨tab,mx⟩) hA
      ·
       by_cases b13 : q 13=0
       ·
        by_cases b26 : q 26=0
        ·
         by_cases b414 : q 414=0
         ·
          have gk142x421 := sp_w1 (eM_pm421 hq b0) b0 (eM_pk142 (fun h => b21 ((eM_pS1 hq).2 h)) ((eM_pDR hq).symm.trans ((eM_pDD hq b8 b21 b34).1 b54)) b13 b26 (sp_z1 (eM_pm414 hq b0) b414))
          have b421 : q 421=0 := gk142x421
          have gk143x416 := sp_w0 (eM_pm416 hq b0) (eM_pk143 (fun h => b21 ((eM_pS1 hq).2 h)) ((eM_pDR hq).symm.trans ((eM_pDD hq b8 b21 b34).1 b54)) b0 b13 (sp_z1 (eM_pm414 hq b0) b414))
          have b416 : ¬ (q 416=0) := gk143x416
          have gk144x423 := sp_w0 (eM_pm423 hq b0) (eM_pk144 (fun h => b34 ((eM_pS2 hq).2 h)) ((eM_pDR hq).symm.trans ((eM_pDD hq b8 b21 b34).1 b54)) b13 b26 (sp_z0 (eM_pm416 hq b0) b0 b416))
          have b423 : ¬ (q 423=0) := gk144x423
          have gk145x436 := sp_w0 (eM_pm436 hq b0 b423 (eM_pm432 hq b0) (eM_pm434 hq b0) (eM_pm416 hq b0) (eM_pm423 hq b0)) (eM_pk145 ((eM_pDR hq).symm.trans ((eM_pDD hq b8 b21 b34).1 b54)) (fun h => b95 ((eM_pO hq b8 b21 b34).2 h)) (sp_z0 (eM_pm423 hq b0) b0 b423))
          have b436 : ¬ (q 436=0) := gk145x436
          have hH : hAll q eM_H77 := (eM_An (hF b8) (eM_An (hF b21) (eM_An (hF b34) (eM_An (hT b54) (eM_An (hF b95) (eM_An (hT b157) (eM_An (hF b0) (eM_An (hT b13) (eM_An (hT b26) (eM_An (hT b414) (eM_An (hT b421) (eM_An (hF b416) (eM_An (hF b423) (eM_An (hF b436) trivial))))))))))))))
          exact eM_leaf eM_r77 hσ hq h0 hH ⟨tab,mx⟩ (eM_memoG hσ hq h0 ⟨tab,mx⟩) hA
         ·
          have gk146x421 := sp_w0 (eM_pm421 hq b0) (eM_pk146 (fun h => b34 ((eM_pS2 hq).2 h)) ((eM_pDR hq).symm.trans ((eM_pDD hq b8 b21 b34).1 b54)) b13 b26 (sp_z0 (eM_pm414 hq b0) b0 b414))
          have b421 : ¬ (q 421=0) := gk146x421
          have gk115x443 := sp_w1 (eM_pm443 hq b0 b421 (eM_pm416 hq b0) (eM_pm423 hq b0) (eM_pm414 hq b0) (eM_pm421 hq b0)) (sp_z0 (eM_pm421 hq b0) b0 b421) (eM_pk115 ((eM_pDR hq).symm.trans ((eM_pDD hq b8 b21 b34).1 b54)))
          have b443 : q 443=0 := gk115x443
          have gk147x445 := sp_w0 (eM_pm445 hq b0 b421 (eM_pm432 hq b0) (eM_pm434 hq b0) (eM_pm414 hq b0) (eM_pm421 hq b0)) (eM_pk147 ((eM_pDR hq).symm.trans ((eM_pDD hq b8 b21 b34).1 b54)) (fun h => b95 ((eM_pO hq b8 b21 b34).2 h)) (sp_z0 (eM_pm421 hq b0) b0 b421))
          have b445 : ¬ (q 445=0) := gk147x445
          have hH : hAll q eM_H78 := (eM_An (hF b8) (eM_An (hF b21) (eM_An (hF b34) (eM_An (hT b54) (eM_An (hF b95) (eM_An (hT b157) (eM_An (hF b0) (eM_An (hT b13) (eM_An (hT b26) (eM_An (hF b414) (eM_An (hF b421) (eM_An (hT b443) (eM_An (hF b445) trivial)))))))))))))
          exact eM_leaf eM_r78 hσ hq h0 hH ⟨tab,mx⟩ (eM_memoG hσ hq h0 ⟨tab,mx⟩) hA
        ·
         by_cases b198 : q 198=0
         ·
          have gk45x205 := sp_w1 (eM_pm205 hq b26) b26 (eM_pk45 (fun h => b21 ((eM_pS1 hq).2 h)) ((eM_pDR hq).symm.trans ((eM_pDD hq b8 b21 b34).1 b54)) b13 b26 (sp_z1 (eM_pm198 hq b26) b198))
          have b205 : q 205=0 := gk45x205
          have gk46x200 := sp_w0 (eM_pm200 hq b26) (eM_pk46 (fun h => b21 ((eM_pS1 hq).2 h)) ((eM_pDR hq).symm.trans ((eM_pDD hq b8 b21 b34).1 b54)) b13 b26 (sp_z1 (eM_pm198 hq b26) b198))
          have b200 : ¬ (q 200=0) := gk46x200
          by_cases b207 : q 207=0
          ·
           have gk148x373 := sp_w0 (eM_pm373 hq b26 b200 (eM_pm211 hq b26) (eM_pm209 hq b26) (eM_pm207 hq b26) (eM_pm200 hq b26)) (eM_pk148 ((eM_pDR hq).symm.trans ((eM_pDD hq b8 b21 b34).1 b54)) (fun h => b95 ((eM_pO hq b8 b21 b34).2 h)) (sp_z0 (eM_pm200 hq b26) b26 b200))
           have b373 : ¬ (q 373=0) := gk148x373
           have hH : hAll q eM_H79 := (eM_An (hF b8) (eM_An (hF b21) (eM_An (hF b34) (eM_An (hT b54) (eM_An (hF b95) (eM_An (hT b157) (eM_An (hF b0) (eM_An (hT b13) (eM_An (hF b26) (eM_An (hT b198) (eM_An (hT b205) (eM_An (hF b200) (eM_An (hT b207) (eM_An (hF b373) trivial))))))))))))))
           exact eM_leaf eM_r79 hσ hq h0 hH ⟨tab,mx⟩ (eM_memoG hσ hq h0 ⟨tab,mx⟩) hA
          ·
           have gk134x283 := sp_w0 (eM_pm283 hq b26 b207 (eM_pm209 hq b26) (eM_pm211 hq b26) (eM_pm200 hq b26) (eM_pm207 hq b26)) (eM_pk134 ((eM_pDR hq).symm.trans ((eM_pDD hq b8 b21 b34).1 b54)) (fun h => b95 ((eM_pO hq b8 b21 b34).2 h)) (sp_z0 (eM_pm207 hq b26) b26 b207))
           have b283 : ¬ (q 283=0) := gk134x283
           have hH : hAll q eM_H80 := (eM_An (hF b8) (eM_An (hF b21) (eM_An (hF b34) (eM_An (hT b54) (eM_An (hF b95) (eM_An (hT b157) (eM_An (hF b0) (eM_An (hT b13) (eM_An (hF b26) (eM_An (hT b198) (eM_An (hT b205) (eM_An (hF b200) (eM_An (hF b207) (eM_An (hF b283) trivial))))))))))))))
           exact eM_leaf eM_r80 hσ hq h0 hH ⟨tab,mx⟩ (eM_memoG hσ hq h0 ⟨tab,mx⟩) hA
         ·
          by_cases b205 : q 205=0
          ·
           have gk93x380 := sp_w1 (eM_pm380 hq b26 b198 (eM_pm207 hq b26) (eM_pm200 hq b26) (eM_pm205 hq b26) (eM_pm198 hq b26)) (sp_z0 (eM_pm198 hq b26) b26 b198) (eM_pk93 ((eM_pDR hq).symm.trans ((eM_pDD hq b8 b21 b34).1 b54)))
           have b380 : q 380=0 := gk93x380
           have gk149x382 := sp_w0 (eM_pm382 hq b26 b198 (eM_pm211 hq b26) (eM_pm209 hq b26) (eM_pm205 hq b26) (eM_pm198 hq b26)) (eM_pk149 ((eM_pDR hq).symm.trans ((eM_pDD hq b8 b21 b34).1 b54)) (fun h => b95 ((eM_pO hq b8 b21 b34).2 h)) (sp_z0 (eM_pm198 hq b26) b26 b198))
           have b382 : ¬ (q 382=0) := gk149x382
           have hH : hAll q eM_H81 := (eM_An (hF b8) (eM_An (hF b21) (eM_An (hF b34) (eM_An (hT b54) (eM_An (hF b95) (eM_An (hT b157) (eM_An (hF b0) (eM_An (hT b13) (eM_An (hF b26) (eM_An (hF b198) (eM_An (hT b205) (eM_An (hT b380) (eM_An (hF b382) trivial)))))))))))))
           exact eM_leaf eM_r81 hσ hq h0 hH ⟨tab,mx⟩ (eM_memoG hσ hq h0 ⟨tab,mx⟩) hA
          ·
           have gk50x290 := sp_w1 (eM_pm290 hq b26 b205 (eM_pm200 hq b26) (eM_pm207 hq b26) (eM_pm198 hq b26) (eM_pm205 hq b26)) (sp_z0 (eM_pm205 hq b26) b26 b205) (eM_pk50 ((eM_pDR hq).symm.trans ((eM_pDD hq b8 b21 b34).1 b54)))
           have b290 : q 290=0 := gk50x290
           have gk136x292 := sp_w0 (eM_pm292 hq b26 b205 (eM_pm209 hq b26) (eM_pm211 hq b26) (eM_pm198 hq b26) (eM_pm205 hq b26)) (eM_pk136 ((eM_pDR hq).symm.trans ((eM_pDD hq b8 b21 b34).1 b54)) (fun h => b95 ((eM_pO hq b8 b21 b34).2 h)) (sp_z0 (eM_pm205 hq b26) b26 b205))
           have b292 : ¬ (q 292=0) := gk136x292
           have hH : hAll q eM_H82 := (eM_An (hF b8) (eM_An (hF b21) (eM_An (hF b34) (eM_An (hT b54) (eM_An (hF b95) (eM_An (hT b157) (eM_An (hF b0) (eM_An (hT b13) (eM_An (hF b26) (eM_An (hF b198) (eM_An (hF b205) (eM_An (hT b290) (eM_An (hF b292) trivial)))))))))))))
           exact eM_leaf eM_r82 hσ hq h0 hH ⟨tab,mx⟩ (eM_memoG hσ hq h0 ⟨tab,mx⟩) hA
       ·
        by_cases b26 : q 26=0
        ·
         by_cases b297 : q 297=0
         ·
          by_cases b304 : q 304=0
          ·
           by_cases b299 : q 299=0
           ·
            have gk150x306 := sp_w0 (eM_pm306 hq b13) (eM_pk150 ((eM_pDR hq).symm.trans ((eM_pDD hq b8 b21 b34).1 b54)) (fun h => b95 ((eM_pO hq b8 b21 b34).2 h)) b13 (sp_z1 (eM_pm297 hq b13) b297) (sp_z1 (eM_pm304 hq b13) b304) (sp_z1 (eM_pm299 hq b13) b299))
            have b306 : ¬ (q 306=0) := gk150x306
            have gk139x319 := sp_w0 (eM_pm319 hq b13 b306 (eM_pm315 hq b13) (eM_pm317 hq b13) (eM_pm299 hq b13) (eM_pm306 hq b13)) (eM_pk139 ((eM_pDR hq).symm.trans ((eM_pDD hq b8 b21 b34).1 b54)) (fun h => b95 ((eM_pO hq b8 b21 b34).2 h)) (sp_z0 (eM_pm306 hq b13) b13 b306))
            have b319 : ¬ (q 319=0) := gk139x319
            have hH : hAll q eM_H83 := (eM_An (hF b8) (eM_An (hF b21) (eM_An (hF b34) (eM_An (hT b54) (eM_An (hF b95) (eM_An (hT b157) (eM_An (hF b0) (eM_An (hF b13) (eM_An (hT b26) (eM_An (hT b297) (eM_An (hT b304) (eM_An (hT b299) (eM_An (hF b306) (eM_An (hF b319) trivial))))))))))))))
            exact eM_leaf eM_r83 hσ hq h0 hH ⟨tab,mx⟩ (eM_memoG hσ hq h0 ⟨tab,mx⟩) hA
           ·
            have gk87x306 := sp_w0 (eM_pm306 hq b13) (eM_pk87 (fun h => b34 ((eM_pS2 hq).2 h)) ((eM_pDR hq).symm.trans ((eM_pDD hq b8 b21 b34).1 b54)) b13 b26 (sp_z0 (eM_pm299 hq b13) b13 b299))
            have b306 : ¬ (q 306=0) := gk87x306
            have gk139x319 := sp_w0 (eM_pm319 hq b13 b306 (eM_pm315 hq b13) (eM_pm317 hq b13) (eM_pm299 hq b13) (eM_pm306 hq b13)) (eM_pk139 ((eM_pDR hq).symm.trans ((eM_pDD hq b8 b21 b34).1 b54)) (fun h => b95 ((eM_pO hq b8 b21 b34).2 h)) (sp_z0 (eM_pm306 hq b13) b13 b306))
            have b319 : ¬ (q 319=0) := gk139x319
            have hH : hAll q eM_H84 := (eM_An (hF b8) (eM_An (hF b21) (eM_An (hF b34) (eM_An (hT b54) (eM_An (hF b95) (eM_An (hT b157) (eM_An (hF b0) (eM_An (hF b13) (eM_An (hT b26) (eM_An (hT b297) (eM_An (hT b304) (eM_An (hF b299) (eM_An (hF b306) (eM_An (hF b319) trivial))))))))))))))
            exact eM_leaf eM_r84 hσ hq h0 hH ⟨tab,mx⟩ (eM_memoG hσ hq h0 ⟨tab,mx⟩) hA
          ·
           have gk56x326 := sp_w1 (eM_pm326 hq b13 b304 (eM_pm299 hq b13) (eM_pm306 hq b13) (eM_pm297 hq b13) (eM_pm304 hq b13)) (sp_z0 (eM_pm304 hq b13) b13 b304) (eM_pk56 ((eM_pDR hq).symm.trans ((eM_pDD hq b8 b21 b34).1 b54)))
           have b326 : q 326=0 := gk56x326
           have gk140x328 := sp_w0 (eM_pm328 hq b13 b304 (eM_pm315 hq b13) (eM_pm317 hq b13) (eM_pm297 hq b13) (eM_pm304 hq b13)) (eM_pk140 ((eM_pDR hq).symm.trans ((eM_pDD hq b8 b21 b34).1 b54)) (fun h => b95 ((eM_pO hq b8 b21 b34).2 h)) (sp_z0 (eM_pm304 hq b13) b13 b304))
           have b328 : ¬ (q 328=0) := gk140x328
           have hH : hAll q eM_H85 := (eM_An (hF b8) (eM_An (hF b21) (eM_An (hF b34) (eM_An (hT b54) (eM_An (hF b95) (eM_An (hT b157) (eM_An (hF b0) (eM_An (hF b13) (eM_An (hT b26) (eM_An (hT b297) (eM_An (hF b304) (eM_An (hT b326) (eM_An (hF b328) trivial)))))))))))))
           exact eM_leaf eM_r85 hσ hq h0 hH ⟨tab,mx⟩ (eM_memoG hσ hq h0 ⟨tab,mx⟩) hA
         ·
          have gk89x304 := sp_w0 (eM_pm304 hq b13) (eM_pk89 (fun h => b34 ((eM_pS2 hq).2 h)) ((eM_pDR hq).symm.trans ((eM_pDD hq b8 b21 b34).1 b54)) b13 b26 (sp_z0 (eM_pm297 hq b13) b13 b297))
          have b304 : ¬ (q 304=0) := gk89x304
          have gk56x326 := sp_w1 (eM_pm326 hq b13 b304 (eM_pm299 hq b13) (eM_pm306 hq b13) (eM_pm297 hq b13) (eM_pm304 hq b13)) (sp_z0 (eM_pm304 hq b13) b13 b304) (eM_pk56 ((eM_pDR hq).symm.trans ((eM_pDD hq b8 b21 b34).1 b54)))
          have b326 : q 326=0 := gk56x326
          have gk140x328 := sp_w0 (eM_pm328 hq b13 b304 (eM_pm315 hq b13) (eM_pm317 hq b13) (eM_pm297 hq b13) (eM_pm304 hq b13)) (eM_pk140 ((eM_pDR hq).symm.trans ((eM_pDD hq b8 b21 b34).1 b54)) (fun h => b95 ((eM_pO hq b8 b21 b34).2 h)) (sp_z0 (eM_pm304 hq b13) b13 b304))
          have b328 : ¬ (q 328=0) := gk140x328
          have hH : hAll q eM_H86 := (eM_An (hF b8) (eM_An (hF b21) (eM_An (hF b34) (eM_An (hT b54) (eM_An (hF b95) (eM_An (hT b157) (eM_An (hF b0) (eM_An (hF b13) (eM_An (hT b26) (eM_An (hF b297) (eM_An (hF b304) (eM_An (hT b326) (eM_An (hF b328) trivial)))))))))))))
          exact eM_leaf eM_r86 hσ hq h0 hH ⟨tab,mx⟩ (eM_memoG hσ hq h0 ⟨tab,mx⟩) hA
        ·
         by_cases b198 : q 198=0
         ·
          by_cases b205 : q 205=0
          ·
           by_cases b200 : q 200=0
           ·
            have gk141x207 := sp_w0 (eM_pm207 hq b26) (eM_pk141 ((eM_pDR hq).symm.trans ((eM_pDD hq b8 b21 b34).1 b54)) (fun h => b95 ((eM_pO hq b8 b21 b34).2 h)) b26 (sp_z1 (eM_pm198 hq b26) b198) (sp_z1 (eM_pm205 hq b26) b205) (sp_z1 (eM_pm200 hq b26) b200))
            have b207 : ¬ (q 207=0) := gk141x207
            have gk134x283 := sp_w0 (eM_pm283 hq b26 b207 (eM_pm209 hq b26) (eM_pm211 hq b26) (eM_pm200 hq b26) (eM_pm207 hq b26)) (eM_pk134 ((eM_pDR hq).symm.trans ((eM_pDD hq b8 b21 b34).1 b54)) (fun h => b95 ((eM_pO hq b8 b21 b34).2 h)) (sp_z0 (eM_pm207 hq b26) b26 b207))
            have b283 : ¬ (q 283=0) := gk134x283
            have hH : hAll q eM_H87 := (eM_An (hF b8) (eM_An (hF b21) (eM_An (hF b34) (eM_An (hT b54) (eM_An (hF b95) (eM_An (hT b157) (eM_An (hF b0) (eM_An (hF b13) (eM_An (hF b26) (eM_An (hT b198) (eM_An (hT b205) (eM_An (hT b200) (eM_An (hF b207) (eM_An (hF b283) trivial))))))))))))))
            exact eM_leaf eM_r87 hσ hq h0 hH ⟨tab,mx⟩ (eM_memoG hσ hq h0 ⟨tab,mx⟩) hA
           ·
            by_cases b207 : q 207=0
            ·
             have gk148x373 := sp_w0 (eM_pm373 hq b26 b200 (eM_pm211 hq b26) (eM_pm209 hq b26) (eM_pm207 hq b26) (eM_pm200 hq b26)) (eM_pk148 ((eM_pDR hq).symm.trans ((eM_pDD hq b8 b21 b34).1 b54)) (fun h => b95 ((eM_pO hq b8 b21 b34).2 h)) (sp_z0 (eM_pm200 hq b26) b26 b200))
             have b373 : ¬ (q 373=0) := gk148x373
             have hH : hAll q eM_H88 := (eM_An (hF b8) (eM_An (hF b21) (eM_An (hF b34) (eM_An (hT b54) (eM_An (hF b95) (eM_An (hT b157) (eM_An (hF b0) (eM_An (hF b13) (eM_An (hF b26) (eM_An (hT b198) (eM_An (hT b205) (eM_An (hF b200) (eM_An (hT b207) (eM_An (hF b373) trivial))))))))))))))
             exact eM_leaf eM_r88 hσ hq h0 hH ⟨tab,mx⟩ (eM_memoG hσ hq h0 ⟨tab,mx⟩) hA
            ·
             have gk134x283 := sp_w0 (eM_pm283 hq b26 b207 (eM_pm209 hq b26) (eM_pm211 hq b26) (eM_pm200 hq b26) (eM_pm207 hq b26)) (eM_pk134 ((eM_pDR hq).symm.trans ((eM_pDD hq b8 b21 b34).1 b54)) (fun h => b95 ((eM_pO hq b8 b21 b34).2 h)) (sp_z0 (eM_pm207 hq b26) b26 b207))
             have b283 : ¬ (q 283=0) := gk134x283
             have hH : hAll q eM_H89 := (eM_An (hF b8) (eM_An (hF b21) (eM_An (hF b34) (eM_An (hT b54) (eM_An (hF b95) (eM_An (hT b157) (eM_An (hF b0) (eM_An (hF b13) (eM_An (hF b26) (eM_An (hT b198) (eM_An (hT b205) (eM_An (hF b200) (eM_An (hF b207) (eM_An (hF b283) trivial))))))))))))))
             exact eM_leaf eM_r89 hσ hq h0 hH ⟨tab,mx⟩ (eM_memoG hσ hq h0 ⟨tab,mx⟩) hA
          ·
           have gk50x290 := sp_w1 (eM_pm290 hq b26 b205 (eM_pm200 hq b26) (eM_pm207 hq b26) (eM_pm198 hq b26) (eM_pm205 hq b26)) (sp_z0 (eM_pm205 hq b26) b26 b205) (eM_pk50 ((eM_pDR hq).symm.trans ((eM_pDD hq b8 b21 b34).1 b54)))
           have b290 : q 290=0 := gk50x290
           have gk136x292 := sp_w0 (eM_pm292 hq b26 b205 (eM_pm209 hq b26) (eM_pm211 hq b26) (eM_pm198 hq b26) (eM_pm205 hq b26)) (eM_pk136 ((eM_pDR hq).symm.trans ((eM_pDD hq b8 b21 b34).1 b54)) (fun h => b95 ((eM_pO hq b8 b21 b34).2 h)) (sp_z0 (eM_pm205 hq b26) b26 b205))
           have b292 : ¬ (q 292=0) := gk136x292
           have hH : hAll q eM_H90 := (eM_An (hF b8) (eM_An (hF b21) (eM_An (hF b34) (eM_An (hT b54) (eM_An (hF b95) (eM_An (hT b157) (eM_An (hF b0) (eM_An (hF b13) (eM_An (hF b26) (eM_An (hT b198) (eM_An (hF b205) (eM_An (hT b290) (eM_An (hF b292) trivial)))))))))))))
           exact eM_leaf eM_r90 hσ hq h0 hH ⟨tab,mx⟩ (eM_memoG hσ hq h0 ⟨tab,mx⟩) hA
         ·
          by_cases b205 : q 205=0
          ·
           have gk93x380 := sp_w1 (eM_pm380 hq b26 b198 (eM_pm207 hq b26) (eM_pm200 hq b26) (eM_pm205 hq b26) (eM_pm198 hq b26)) (sp_z0 (eM_pm198 hq b26) b26 b198) (eM_pk93 ((eM_pDR hq).symm.trans ((eM_pDD hq b8 b21 b34).1 b54)))
           have b380 : q 380=0 := gk93x380
           have gk149x382 := sp_w0 (eM_pm382 hq b26 b198 (eM_pm211 hq b26) (eM_pm209 hq b26) (eM_pm205 hq b26) (eM_pm198 hq b26)) (eM_pk149 ((eM_pDR hq).symm.trans ((eM_pDD hq b8 b21 b34).1 b54)) (fun h => b95 ((eM_pO hq b8 b21 b34).2 h)) (sp_z0 (eM_pm198 hq b26) b26 b198))
           have b382 : ¬ (q 382=0) := gk149x382
           have hH : hAll q eM_H91 := (eM_An (hF b8) (eM_An (hF b21) (eM_An (hF b34) (eM_An (hT b54) (eM_An (hF b95) (eM_An (hT b157) (eM_An (hF b0) (eM_An (hF b13) (eM_An (hF b26) (eM_An (hF b198) (eM_An (hT b205) (eM_An (hT b380) (eM_An (hF b382) trivial)))))))))))))
           exact eM_leaf eM_r91 hσ hq h0 hH ⟨tab,mx⟩ (eM_memoG hσ hq h0 ⟨tab,mx⟩) hA
          ·
           have gk50x290 := sp_w1 (eM_pm290 hq b26 b205 (eM_pm200 hq b26) (eM_pm207 hq b26) (eM_pm198 hq b26) (eM_pm205 hq b26)) (sp_z0 (eM_pm205 hq b26) b26 b205) (eM_pk50 ((eM_pDR hq).symm.trans ((eM_pDD hq b8 b21 b34).1 b54)))
           have b290 : q 290=0 := gk50x290
           have gk136x292 := sp_w0 (eM_pm292 hq b26 b205 (eM_pm209 hq b26) (eM_pm211 hq b26) (eM_pm198 hq b26) (eM_pm205 hq b26)) (eM_pk136 ((eM_pDR hq).symm.trans ((eM_pDD hq b8 b21 b34).1 b54)) (fun h => b95 ((eM_pO hq b8 b21 b34).2 h)) (sp_z0 (eM_pm205 hq b26) b26 b205))
           have b292 : ¬ (q 292=0) := gk136x292
           have hH : hAll q eM_H92 := (eM_An (hF b8) (eM_An (hF b21) (eM_An (hF b34) (eM_An (hT b54) (eM_An (hF b95) (eM_An (hT b157) (eM_An (hF b0) (eM_An (hF b13) (eM_An (hF b26) (eM_An (hF b198) (eM_An (hF b205) (eM_An (hT b290) (eM_An (hF b292) trivial)))))))))))))
           exact eM_leaf eM_r92 hσ hq h0 hH ⟨tab,mx⟩ (eM_memoG hσ hq h0 ⟨tab,mx⟩) hA
    ·
     have gN := fun h => b54 ((eM_pDD hq b8 b21 b34).2 h)
     have b157 : ¬ (q 157=0) := gN
     have gR0 := eM_pR0 hq b8 (eM_pC hq b54).1
     have b455 : q 455=0 := gR0
     have gR1 := eM_pR1 hq b21 (eM_pC hq b54).2.1
     have b461 : q 461=0 := gR1
     have gR2 := eM_pR2 hq b34 (eM_pC hq b54).2.2
     have b467 : q 467=0 := gR2
     have hH : hAll q eM_H93 := (eM_An (hF b8) (eM_An (hF b21) (eM_An (hF b34) (eM_An (hF b54) (eM_An (hF b157) (eM_An (hT b455) (eM_An (hT b461) (eM_An (hT b467) trivial))))))))
     exact eM_leaf eM_r93 hσ hq h0 hH ⟨tab,mx⟩ (eM_memoG hσ hq h0 ⟨tab,mx⟩) hA
end Go.Proofs.YtikldelfdioimaaGreatDoor
