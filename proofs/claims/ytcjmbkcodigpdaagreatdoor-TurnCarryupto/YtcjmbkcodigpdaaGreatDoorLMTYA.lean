/- Part 13 of the walks and of the mathematics under them: VP VPC VPD VPE VPF VY VSZ CFturned MTYRA MTYR1 MTYR2 MTYR3 MTYR4 MTYR5 MTY. -/
import Derived.Test.YtcjmbkcodigpdaaGreatDoorA2
import Derived.Test.YtcjmbkcodigpdaaGreatDoorA12
set_option maxHeartbeats 16000000
set_option maxRecDepth 100000
/- VP -/
namespace Cx
open Go Go.RowKit
abbrev Hs := List (Nat × Nat × Nat × Nat)
def Sx.plus (S : Sx) (X : Hs) : Sx := { S with H := X ++ S.H }
abbrev Ask := Nat × Nat × Nat × Nat
def Cm (a : Nat) : Ask := (0,a,0,a)
def Pi (S : Sx) : Ask→Bool
 | (k,a,b,d) => (Nat.beq k 0 && (Nat.beq b 0 && Nat.beq d a)) || (Nat.beq k 3 && (match S.N[d]? with
  | some (op,ar) => Nat.beq op 3 && WH ar [a,b]
  | none => false))
def MX (S : Sx) (a b : Nat) : List Nat→List Nat→Option (List Ask)
 | c :: l,d :: m => (S.nd 4 [a,d]).bind fun x => (S.nd 4 [c,b]).bind fun y => (S.nd 3 [x,y]).bind fun z => (MX S a b l m).map fun r => (3,x,y,z) :: r
 | _,_ => some []
def LH (S : Sx) : List Nat→List Nat→List Nat→List Nat→Option (List Ask)
 | pl,pm,a :: l,b :: m => (MX S a b pl pm).bind fun r => (LH S (pl ++ [a]) (pm ++ [b]) l m).map fun t => r ++ t
 | _,_,_,_ => some []
def sameA (S : Sx) : List Nat→List Nat→Option (List Ask)
 | a :: l,b :: m => (S.nd 3 [a,b]).bind fun d => (sameA S l m).map fun r => (3,a,b,d) :: r
 | _,_ => some []
def asks (S : Sx) (h : List HB) (code : Nat) (args : List AV) : Option (List Ask) :=
 match code with
 | 60 => arg1 (fun x => (asA x).bind fun cs => (RQ S cs).map fun l => l.map Cm) args
 | 61 => arg1 (fun x => (YA h 1 x).bind fun p => (Zl (acX 0) p.2).map fun l => l.map Cm) args
 | 62 => UI (fun x y => (YA h 1 x).bind fun p => (Zl (acX 0) p.2).bind fun l => (YA h 1 y).bind fun p' => (Zl (acX 0) p'.2).bind fun m => LH S [] [] l m) args
 | 63 => arg1 (fun x => (asA x).bind fun cs => (Zl ZE cs).bind fun l => (OL S l).map fun xs => xs.map Cm) args
 | 67 => arg1 (fun x => (asA x).bind fun cs => (Zl (TV S) (cs.take 3)).map fun l => l.map Cm) args
 | 65 => arg1 (fun x => (asA x).bind fun cs => (Zl (acX 0) cs).map fun l => l.map Cm) args
 | 66 => UI (fun x y => (asA x).bind fun cs => (asA y).bind fun ds => (Zl (acX 0) cs).bind fun l => (Zl (acX 0) ds).bind fun m => sameA S l m) args
 | 64 => arg1 (fun x => (asA x).bind fun cs => (RQ S cs).map fun l => (l.take 5).map Cm) args
 | 68 => UI (fun x _ => (asA x).bind fun cs => (RQ S cs).map fun l => (l.take 5).map Cm) args
 | _ => none
def Uk : List Ask→Hs→List Hs
 | [],_ => []
 | (k,a,b,_) :: l,X => ((k,a,b,0) :: X) :: Uk l ((k,a,b,1) :: X)
def Fs : List Ask→Hs→Hs
 | [],X => X
 | (k,a,b,_) :: l,X => Fs l ((k,a,b,1) :: X)
def JY (S : Sx) (call : Xq) : Xq := fun f args h nx => S.P.funcs[f]?.bind fun fn => fn.body.bind fun c => ifO (Nat.ble args.length fn.ntmps) ((Wh S call fn.ntmps c { tm := Bo 0 args,h := h,nx := nx }).bind fun r =>
   ifO (Nat.ble r.1 1) ((Zl (Mt S.P r.2) fn.results.toList).map fun xs => (tupB xs,r.2.h,r.2.nx)))
abbrev Fm := Option (AV × List HB × Nat)
def acZ : AC→Option Nat
 | .inr (k,j,a,x,y) => ifO (Nat.beq k 0 && (Nat.beq j 7 && (Nat.beq x 0 && Nat.beq y 0))) (some a)
 | _ => none
def NG (S : Sx) (v : AV) : AV := match (asC v).bind (acX 4) with
 | some n => (match S.N[n]? with
  | some (_,[a,b]) => (match S.nd 4 [a,b],S.kn 0 a 0 with
   | some m,some r => bif Nat.beq m n && !Nat.beq 1 r then v1 (.inr (0,7,b,0,0)) else v
   | _,_ => v)
  | _ => v)
 | none => v
def OS (S : Sx) (r : Fm) : Fm := r.map fun p => (NG S p.1,p.2)
def AZ (v : AV) : Option (Bool ⊕ Nat) := match asB v with
 | some b => some (.inl b)
 | none => ((asC v).bind acZ).map .inr
def kAns : Bool ⊕ Nat→AV
 | .inl b => kB b
 | .inr a => v1 (.inr (0,7,a,0,0))
def NT : Bool ⊕ Nat→Bool ⊕ Nat→Bool
 | .inl b,.inl c => b == c
 | .inr a,.inr b => Nat.beq a b
 | _,_ => false
def LN (h : List HB) (b : Bool ⊕ Nat) (hi : Nat) : Fm→Bool
 | some (v,h',nx') => (match AZ v with
  | some c => NT b c
  | none => false) && (Nat.ble nx' hi && h.all fun x => h'.any fun y => Nat.beq y.1 x.1 && Km x.2 y.2)
 | none => false
def topN : Nat→List Fm→Nat
 | m,[] => m
 | m,some p :: rs => topN (bif Nat.ble m p.2.2 then p.2.2 else m) rs
 | m,none :: rs => topN m rs
def OY (h : List HB) (nx : Nat) (rs : List Fm) : Fm :=
 match rs with
 | some p :: _ => (AZ p.1).bind fun b => ifO (rs.all (LN h b (topN nx rs))) (some (kAns b,h,topN nx rs))
 | _ => none
def SV (S : Sx) (X : Hs) (h : List HB) (c : Nat) (args : List AV) : Option (List Ask × Nat) :=
 (asks (S.plus X) h c args).bind fun l => ifO (l.all (Pi S)) ((sqN S (l.map (·.2.2.2))).bind fun s => ((S.plus X).kn 0 s 0).map fun r => (l,r))
theorem Wx {S : Sx} {X : Hs} {h : List HB} {c : Nat} {args : List AV} {l : List Ask} {r : Nat} (e : SV S X h c args=some (l,r)) : (∀ a ∈ l,Pi S a=true)∧∃ s,sqN S (l.map (·.2.2.2))=some s∧(S.plus X).kn 0 s 0=some r := by
 unfold SV at e
 simp only [Option.bind_eq_some_iff,ifO_some,Option.map_eq_some_iff,List.all_eq_true,Prod.mk.injEq] at e
 obtain ⟨l',_,h1,s,h2,r',h3,rfl,rfl⟩ := e
 exact ⟨h1,s,h2,h3⟩
def Vv (S : Sx) (cs : List (FuncId × Nat)) : Nat→Hs→Xq
 | 0,_,_,_,_,_ => none
 | n+1,X,f,args,h,nx => match Wt f cs with
  | none => JY (S.plus X) (Vv S cs n X) f args h nx
  | some c => match SV S X h c args with
   | none => JY (S.plus X) (Vv S cs n X) f args h nx
   | some (l,r) => bif Nat.beq 1 r then JY (S.plus (Fs l X)) (Vv S cs n (Fs l X)) f args h nx
    else OY h nx ((Uk l X).map fun X' => OS (S.plus X') (JY (S.plus X') (Vv S cs n X') f args h nx))
section
variable {S : Sx} {E : Ev S.nb} {w0 : World}
theorem Kr {call : Xq} (hm : S.P.follows .mixedOrders=true) (N : Knows S E) (hP : Xx S E w0) (hC : Je S E w0 call) : Je S E w0 (JY S call) := fun f args h nx p hp γ w vs hi hA hb hlt hf => by
 unfold JY at hp
 simp only [Option.bind_eq_some_iff,ifO_some,Option.map_eq_some_iff,Nat.ble_eq] at hp
 obtain ⟨fn,h1,c,h2,h3,⟨e,s'⟩,h4,h5,xs,h6,rfl⟩ := hp
 dsimp only at h5 h6
 rcases (show e=0 ∨ e=1 by omega) with rfl | rfl
 all_goals
  obtain ⟨_,_,r⟩ := Yi hm N hP hC c _ _ _ h4
  refine calls_of_wp h1 h2 (r γ _ w _ ⟨hi,fun t v q => ?_,hb,hlt,?_,rfl⟩ hf fun a' w' γ' hef hs => ?_)
  ·obtain ⟨_,q2⟩ := Iz q
   rw [Nat.sub_zero] at q2
   obtain ⟨u,hu,hv⟩ := hA.get q2
   have hlt : t < vs.length := (List.getElem?_eq_some_iff.1 hu).1
   have : (vs.toArray ++ Array.replicate (fn.ntmps - vs.toArray.size) undef).getD t undef=u := by
    rw [Array.getD_eq_getD_getElem?,Array.getElem?_append_left (by simpa using hlt)]
    simp [hu]
   show avOn _ v ((vs.toArray ++ Array.replicate (fn.ntmps - vs.toArray.size) undef).getD t undef)
   rw [this]
   exact hv
  ·have := hA.len
   simp
   omega
  ·obtain ⟨v,hv,hx⟩ := Rx hs h6
   exact ⟨hs.df,v,hv,v,γ',rfl,hef,hx,hs.bx⟩
theorem asB_kB {v : AV} {b : Bool} (h : asB v=some b) : v=kB b := by
 unfold asB at h
 rw [Option.bind_eq_some_iff] at h
 obtain ⟨c,h1,h2⟩ := h
 unfold asC at h1
 split at h1
 ·cases h1
  unfold acB at h2
  split at h2
  ·cases h2
   rfl
  ·cases h2
 ·cases h1
theorem Ar {v : AV} {k : Bool ⊕ Nat} (h : AZ v=some k) : v=kAns k := by
 unfold AZ at h
 split at h
 ·rename_i b hb
  cases h
  exact asB_kB hb
 ·rw [Option.map_eq_some_iff] at h
  obtain ⟨a,h,rfl⟩ := h
  rw [Option.bind_eq_some_iff] at h
  obtain ⟨c,h1,h2⟩ := h
  unfold asC at h1
  split at h1
  ·cases h1
   unfold acZ at h2
   split at h2
   ·rw [ifO_some,Bool.and_eq_true,Bool.and_eq_true,Bool.and_eq_true,Nat.beq_eq,Nat.beq_eq,Nat.beq_eq,Nat.beq_eq] at h2
    obtain ⟨⟨rfl,rfl,rfl,rfl⟩,h3⟩ := h2
    cases h3
    rfl
   ·cases h2
  ·cases h1
theorem NS {a b : Bool ⊕ Nat} (h : NT a b=true) : a=b := by
 unfold NT at h
 split at h
 ·rename_i x y
  have : x=y := by simpa using h
  rw [this]
 ·rw [Nat.beq_eq] at h
  rw [h]
 ·cases h
theorem EN (q : Rat) : ZR q=0 ↔ q=0 := by
 unfold ZR
 split
 ·rename_i hlt
  constructor
  ·intro q; cases q
  ·intro q; rw [q] at hlt; exact absurd hlt (by decide)
 ·split <;> simp_all
theorem Hm (N : Knows S E) {γ : Nat→Option Nat} {w : World} {v : AV} {r : Value} (h : avOn (cOn E S.K γ w) v r) : avOn (cOn E S.K γ w) (NG S v) r := by
 unfold NG
 split
 ·rename_i n hn
  rw [Option.bind_eq_some_iff] at hn
  obtain ⟨c,h1,h2⟩ := hn
  split
  ·split
   ·rename_i a b _ _ _ m r' hm hr
    cases e : (Nat.beq m n && !Nat.beq 1 r') with
    | true =>
     rw [Bool.and_eq_true,Nat.beq_eq,Bool.not_eq_true'] at e
     obtain ⟨rfl,e2⟩ := e
     have ez := (N.x4 _ _ _).1 (Yz h2 (Zd h1 h))
     refine QZ ((N.x7 _ _ _).2 ⟨_,ez,?_⟩)
     have hz : ¬ E.q a=0 := fun q => by rw [(N.k0 a r' hr).2 q] at e2; cases e2
     rw [EN,N.k7 _ _ _ hm]
     constructor
     ·exact fun q => (Rat.mul_eq_zero.1 q).resolve_left hz
     ·intro q
      rw [q,Rat.mul_zero]
    | false => exact h
   ·exact h
  ·exact h
 ·exact h
theorem Ds {X : Hs} {call : Xq} (N : Knows (S.plus X) E) (hC : Je S E w0 call) : Je S E w0 (fun f args h nx => OS (S.plus X) (call f args h nx)) := fun f args h nx p hp => by
 replace hp : OS (S.plus X) (call f args h nx)=some p := hp
 unfold OS at hp
 rw [Option.map_eq_some_iff] at hp
 obtain ⟨p0,hp0,rfl⟩ := hp
 intro γ w vs hi hA hb hlt hf
 refine (hC f args h nx p0 hp0 γ w vs hi hA hb hlt hf).mono ?_
 rintro _ w' ⟨r',γ',rfl,hef,hv,hx⟩
 exact ⟨r',γ',rfl,hef,Hm (S := S.plus X) N hv,hx⟩
theorem WP {h : List HB} {b : Bool ⊕ Nat} {hi : Nat} {r : Fm} (hr : LN h b hi r=true) : ∃ h' nx',r=some (kAns b,h',nx')∧nx'≤hi∧∀ x ∈ h,x ∈ h' := by
 unfold LN at hr
 split at hr
 ·rename_i v h' nx'
  rw [Bool.and_eq_true,Bool.and_eq_true,Nat.ble_eq,List.all_eq_true] at hr
  obtain ⟨h1,h2,h3⟩ := hr
  refine ⟨h',nx',?_,h2,fun x hx => ?_⟩
  ·split at h1
   ·rename_i c hc
    rw [Ar hc,NS h1]
   ·cases h1
  ·have := h3 x hx
   rw [List.any_eq_true] at this
   obtain ⟨y,hy,e⟩ := this
   rw [Bool.and_eq_true,Nat.beq_eq] at e
   have : x=y := Prod.ext e.1.symm (Vn e.2)
   rw [this]
   exact hy
 ·cases hr
variable {T : Hs→Prop} {z : Nat→Prop}
def UX (S : Sx) (T : Hs→Prop) (z : Nat→Prop) : Prop := ∀ X,T X→∀ a,Pi S a=true→(z a.2.2.2→T ((a.1,a.2.1,a.2.2.1,1) :: X))∧(¬ z a.2.2.2→T ((a.1,a.2.1,a.2.2.1,0) :: X))
theorem Wg (hk : UX S T z) : ∀ {l : List Ask} {X : Hs},T X→(∀ a ∈ l,Pi S a=true)→(∀ a ∈ l,z a.2.2.2)→T (Fs l X)
 | [],_,h,_,_ => h
 | (k,a,b,d) :: l,X,h,ho,hz => Wg (l := l) hk ((hk X h (k,a,b,d) (ho _ List.mem_cons_self)).1 (hz _ List.mem_cons_self)) (fun a ha => ho a (List.mem_cons_of_mem _ ha)) (fun a ha => hz a (List.mem_cons_of_mem _ ha))
theorem Yj (hk : UX S T z) : ∀ {l : List Ask} {X : Hs},T X→(∀ a ∈ l,Pi S a=true)→(∃ a ∈ l,¬ z a.2.2.2)→∃ X' ∈ Uk l X,T X'
 | [],_,_,_,⟨_,h,_⟩ => by cases h
 | (k,a,b,d) :: l,X,h,ho,hz => by
  by_cases e : z d
  ·obtain ⟨X',h1,h2⟩ := Yj (l := l) hk ((hk X h (k,a,b,d) (ho _ List.mem_cons_self)).1 e) (fun a ha => ho a (List.mem_cons_of_mem _ ha)) (by
    obtain ⟨c,hc,hn⟩ := hz
    rcases List.mem_cons.1 hc with rfl | hc
    ·exact (hn e).elim
    ·exact ⟨c,hc,hn⟩)
   exact ⟨X',List.mem_cons_of_mem _ h1,h2⟩
  ·exact ⟨_,List.mem_cons_self,(hk X h (k,a,b,d) (ho _ List.mem_cons_self)).2 e⟩
theorem Bu {cs : List (FuncId × Nat)} (hm : S.P.follows .mixedOrders=true) (hN : ∀ X,T X→Knows (S.plus X) E) (hP : ∀ X,T X→Xx (S.plus X) E w0) (hk : UX S T z)
  (hs : ∀ X,T X→∀ l s r,sqN S l=some s→(S.plus X).kn 0 s 0=some r→(Nat.beq 1 r=true→∀ d ∈ l,z d)∧(Nat.beq 1 r=false→∃ d ∈ l,¬ z d)) : ∀ n X,T X→Je S E w0 (Vv S cs n X)
 | 0,_,_ => fun _ _ _ _ _ h => by cases h
 | n+1,X,hX => fun f args h nx p hp => by
  have body : ∀ Y,T Y→Je S E w0 (JY (S.plus Y) (Vv S cs n Y)) := fun Y hY => Kr (S := S.plus Y) hm (hN Y hY) (hP Y hY) (Bu hm hN hP hk hs n Y hY)
  unfold Vv at hp
  split at hp
  ·exact body X hX f args h nx p hp
  ·split at hp
   ·exact body X hX f args h nx p hp
   rename_i l r hk'
   obtain ⟨hl,s,h1,h2⟩ := Wx hk'
   have h3 := hp
   obtain ⟨a1,a0⟩ := hs X hX _ s r h1 h2
   cases e : Nat.beq 1 r with
   | true =>
    rw [e] at h3
    exact body _ (Wg hk hX hl fun a ha => a1 e _ (List.mem_map_of_mem ha)) f args h nx p h3
   | false =>
    rw [e] at h3
    obtain ⟨d,hd,hz⟩ := a0 e
    obtain ⟨a,ha,rfl⟩ := List.mem_map.1 hd
    obtain ⟨X',m1,m2⟩ := Yj hk hX hl ⟨a,ha,hz⟩
    replace h3 : OY h nx ((Uk l X).map fun X' => OS (S.plus X') (JY (S.plus X') (Vv S cs n X') f args h nx))=some p := h3
    unfold OY at h3
    split at h3
    ·rename_i p0 rs hrs
     rw [Option.bind_eq_some_iff] at h3
     obtain ⟨b,hb,h4⟩ := h3
     rw [ifO_some,List.all_eq_true] at h4
     obtain ⟨h5,h6⟩ := h4
     cases h6
     obtain ⟨h',nx',q1,q2,q3⟩ := WP (h5 _ (List.mem_map_of_mem m1))
     intro γ w vs hi hA hb hlt hf
     refine (Ds (hN X' m2) (body X' m2) f args h nx _ q1 γ w vs hi hA hb hlt fun b g1 g2 => hf b g1 (Nat.lt_of_lt_of_le g2 q2)).mono ?_
     rintro _ w' ⟨r',γ',rfl,hef,hv,hx⟩
     exact ⟨r',γ',rfl,hef.wide (Nat.le_refl _) q2,hv,fun x hh => hx x (q3 x hh)⟩
    ·cases h3
end
end Cx
/- VPC -/
namespace Go.Proofs.YtcjmbkcodigpdaaGreatDoor
open Cx Go Go.RowKit
section
variable {N : List Nd} {H : List (Nat × Nat × Nat × Nat)} {K : List (FuncId × List AC)} {L C : List (List Nat × Nat)} {Z : List Nat} {q : Nat→Rat} {σ : Nat→ByteArray} {w0 : World} {cl : List FuncId} {cs pr : List (FuncId × Nat)}
theorem Jt {k a b k' a' b' r' : Nat} {r : Nat} (h : Xi k a b ((k',a',b',r') :: H)=some r) : (k=k'∧a=a'∧b=b'∧r=r') ∨ Xi k a b H=some r := by
 unfold Xi at h
 cases e : (Nat.beq k k' && (Nat.beq a a' && Nat.beq b b')) with
 | true =>
  rw [e] at h
  simp only [Bool.and_eq_true,Nat.beq_eq] at e
  exact Or.inl ⟨e.1,e.2.1,e.2.2,(Option.some.inj h).symm⟩
 | false =>
  rw [e] at h
  exact Or.inr h
theorem Hy.add0 (Y : Hy N H L C Z q σ) {a r : Nat} (h : Nat.beq 1 r=true ↔ q a=0) : Hy N ((0,a,0,r) :: H) L C Z q σ where
 nat := Y.nat
 qs := Y.qs
 zs := Y.zs
 par := Y.par
 lit := Y.lit
 k0 := fun a' r' g => by
  rcases Jt g with ⟨_,e1,_,e2⟩ | g
  ·rw [e1,e2]
   exact h
  ·exact Y.k0 a' r' g
 k1 := fun a' r' g => by
  rcases Jt g with ⟨e,_⟩ | g
  ·cases e
  ·exact Y.k1 a' r' g
 k2 := fun a' r' g => by
  rcases Jt g with ⟨e,_⟩ | g
  ·cases e
  ·exact Y.k2 a' r' g
 k4 := fun l a' b' r' g1 g => by
  rcases Jt g with ⟨e,_⟩ | g
  ·cases e
  ·exact Y.k4 l a' b' r' g1 g
 k3 := fun a' b' r' g => by
  rcases Jt g with ⟨e,_⟩ | g
  ·cases e
  ·exact Y.k3 a' b' r' g
 k6 := fun a' b' r' g => by
  rcases Jt g with ⟨e,_⟩ | g
  ·cases e
  ·exact Y.k6 a' b' r' g
 k5 := fun a' r' g => by
  rcases Jt g with ⟨e,_⟩ | g
  ·cases e
  ·exact Y.k5 a' r' g
theorem Hy.add3 (Y : Hy N H L C Z q σ) {a b r : Nat} (h : Nat.beq 1 r=true ↔ q a=q b) : Hy N ((3,a,b,r) :: H) L C Z q σ where
 nat := Y.nat
 qs := Y.qs
 zs := Y.zs
 par := Y.par
 lit := Y.lit
 k0 := fun a' r' g => by
  rcases Jt g with ⟨e,_⟩ | g
  ·cases e
  ·exact Y.k0 a' r' g
 k1 := fun a' r' g => by
  rcases Jt g with ⟨e,_⟩ | g
  ·cases e
  ·exact Y.k1 a' r' g
 k2 := fun a' r' g => by
  rcases Jt g with ⟨e,_⟩ | g
  ·cases e
  ·exact Y.k2 a' r' g
 k4 := fun l a' b' r' g1 g => by
  rcases Jt g with ⟨e,_⟩ | g
  ·cases e
  ·exact Y.k4 l a' b' r' g1 g
 k3 := fun a' b' r' g => by
  rcases Jt g with ⟨_,e1,e2,e3⟩ | g
  ·rw [e1,e2,e3]
   exact h
  ·exact Y.k3 a' b' r' g
 k6 := fun a' b' r' g => by
  rcases Jt g with ⟨e,_⟩ | g
  ·cases e
  ·exact Y.k6 a' b' r' g
 k5 := fun a' r' g => by
  rcases Jt g with ⟨e,_⟩ | g
  ·cases e
  ·exact Y.k5 a' r' g
theorem Ks : UX (sx Tryz.prog N H K L C Z pr) (fun X => Hy N (X ++ H) L C Z q σ) (fun d => q d=0) := fun X Y a ha => by
 obtain ⟨k,a,b,d⟩ := a
 have t1 : Nat.beq 1 1=true := rfl
 have t0 : Nat.beq 1 0 ≠ true := fun h => by cases h
 unfold Pi at ha
 rw [Bool.or_eq_true] at ha
 rcases ha with ha | ha
 ·simp only [Bool.and_eq_true,Nat.beq_eq] at ha
  obtain ⟨rfl,rfl,rfl⟩ := ha
  exact ⟨fun h => Hy.add0 Y ⟨fun _ => h,fun _ => t1⟩,fun h => Hy.add0 Y ⟨fun g => (t0 g).elim,fun g => (h g).elim⟩⟩
 ·rw [Bool.and_eq_true,Nat.beq_eq] at ha
  obtain ⟨rfl,hb⟩ := ha
  split at hb
  ·rename_i op ar hn
   rw [Bool.and_eq_true,Nat.beq_eq] at hb
   obtain ⟨rfl,hb⟩ := hb
   have e := Yq hb
   subst e
   have hv : q d=q a - q b := Y.nat d _ hn
   have h2 : q d=0 ↔ q a=q b := by
    rw [hv]
    constructor <;> intro h <;> grind
   exact ⟨fun h => Hy.add3 Y ⟨fun _ => h2.1 h,fun _ => t1⟩,fun h => Hy.add3 Y ⟨fun g => (t0 g).elim,fun g => (h (h2.2 g)).elim⟩⟩
  ·cases hb
theorem Aj (y : Rat) : 0≤y*y := by
 by_cases h : y=0
 ·rw [h,Rat.zero_mul]
  exact Rat.le_refl
 ·exact Rat.le_of_lt (Th h)
theorem sq_sum {x y : Rat} (hx : 0≤x) : x+y*y=0 ↔ x=0∧y=0 := by
 constructor
 ·intro h
  have h2 := Aj y
  have h3 : x=0 := by grind
  refine ⟨h3,?_⟩
  have : y*y=0 := by grind
  rcases Rat.mul_eq_zero.1 this with g | g <;> exact g
 ·rintro ⟨rfl,rfl⟩
  grind
theorem MM {H' : List (Nat × Nat × Nat × Nat)} (Y : Hy N H' L C Z q σ) : ∀ {l : List Nat} {s t : Nat},sqF (sx Tryz.prog N H K L C Z pr) s l=some t→0≤q s→0≤q t∧(q t=0 ↔ q s=0∧∀ d ∈ l,q d=0)
 | [],s,t,h,hs => by
  cases h
  exact ⟨hs,fun e => ⟨e,fun d hd => by cases hd⟩,fun e => e.1⟩
 | a :: l,s,t,h,hs => by
  unfold sqF at h
  simp only [Option.bind_eq_some_iff] at h
  obtain ⟨b,h1,c,h2,h3⟩ := h
  have e1 : q b=q a*q a := Hy.nd (H := H') (K := K) (pr := pr) Y h1
  have e2 : q c=q s+q b := Hy.nd (H := H') (K := K) (pr := pr) Y h2
  have n := Aj (q a)
  obtain ⟨g1,g2⟩ := MM Y h3 (by grind)
  refine ⟨g1,g2.trans ?_⟩
  have e3 := sq_sum (y := q a) hs
  rw [e2,e1,e3]
  constructor
  ·rintro ⟨⟨x,y⟩,z⟩
   refine ⟨x,fun d hd => ?_⟩
   rcases List.mem_cons.1 hd with rfl | hd
   ·exact y
   ·exact z d hd
  ·rintro ⟨x,y⟩
   exact ⟨⟨x,y a List.mem_cons_self⟩,fun d hd => y d (List.mem_cons_of_mem _ hd)⟩
theorem PQ {H' : List (Nat × Nat × Nat × Nat)} (Y : Hy N H' L C Z q σ) {l : List Nat} {s : Nat} (h : sqN (sx Tryz.prog N H K L C Z pr) l=some s) : q s=0 ↔ ∀ d ∈ l,q d=0 := by
 unfold sqN at h
 split at h
 ·cases h
 ·rename_i a l
  rw [Option.bind_eq_some_iff] at h
  obtain ⟨b,h1,h2⟩ := h
  have e1 : q b=q a*q a := Hy.nd (H := H') (K := K) (pr := pr) Y h1
  have n := Aj (q a)
  obtain ⟨_,g⟩ := MM Y h2 (by grind)
  rw [g,e1]
  constructor
  ·rintro ⟨x,y⟩ d hd
   rcases List.mem_cons.1 hd with rfl | hd
   ·rcases Rat.mul_eq_zero.1 x with x | x <;> exact x
   ·exact y d hd
  ·intro y
   refine ⟨?_,fun d hd => y d (List.mem_cons_of_mem _ hd)⟩
   rw [y a List.mem_cons_self,Rat.zero_mul]
theorem EE {f : FuncId} {args : List AV} {vs : List Value} {k : Nat} {p : List HB × Nat} {b : Bool} (Y : Hy N H L C Z q σ) (hm : (Tryz.prog).follows .mixedOrders=true) {w : World} (hP : ∀ H',Hy N H' L C Z q σ→Xx (sx Tryz.prog N H' K L C Z pr) (evS q σ) w) (hr : Vv (sx Tryz.prog N H K L C Z pr) cs k [] f args [] 0=some (kB b,p))
  (hA : A2 (avOn (cOn (evS q σ) K (fun _ => none) w)) args vs) : Calls Tryz.prog f vs.toArray w fun e w' => Below w.heap.size w w'∧e=.returned (.bool b) := by
 refine (Bu (S := sx Tryz.prog N H K L C Z pr) (E := evS q σ) (w0 := w) (T := fun X => Hy N (X ++ H) L C Z q σ) (z := fun d => q d=0) hm (fun X hX => Br hX) (fun X hX => hP _ hX) Ks ?_ k [] Y f args [] 0 (kB b,p) hr (fun _ => none) w vs ⟨Below.refl _ _,(fun _ _ h => by cases h)⟩ hA (fun x hx => by cases hx) (fun x hx => by cases hx) (fun _ _ _ => rfl)).mono ?_
 ·intro X hX l s r h1 h2
  have e := hX.k0 s r h2
  have g := PQ hX h1
  refine ⟨fun h => g.1 (e.1 h),fun h => ?_⟩
  have hn : ¬ ∀ d ∈ l,q d=0 := fun q' => by
   rw [e.2 (g.2 q')] at h
   cases h
  simpa using hn
 ·rintro _ w' ⟨r,γ',rfl,hef,hv,_⟩
  exact ⟨hef.wi.bel,by rw [show r=.bool b from (Zd (v := kB b) (c := .inl (.bool b)) rfl hv).1]⟩
theorem Nf {f : FuncId} {args : List AV} {vs : List Value} {k : Nat} {p : List HB × Nat} {b : Bool} (Y : Hy N H L C Z q σ) (hc : ∀ f ∈ cl,Closed f) (hm : (Tryz.prog).follows .mixedOrders=true) (hr : Vv (sx Tryz.prog N H K L C Z (prC cl)) cs k [] f args [] 0=some (kB b,p)) {w : World} (hp : QK w)
  (hA : A2 (avOn (cOn (evS q σ) K (fun _ => none) w)) args vs) : Calls Tryz.prog f vs.toArray w fun e w' => Below w.heap.size w w'∧e=.returned (.bool b) := EE Y hm (fun _ Y' => Pz Y' hp hc) hr hA
theorem Mu {f : FuncId} {args : List AV} {vs : List Value} (k : Nat) (Y : Hy N H L C Z q σ) (hc : ∀ f ∈ cl,Closed f) (hm : (Tryz.prog).follows .mixedOrders=true) (hr : (Vv (sx Tryz.prog N H K L C Z (prC cl)) cs k [] f args [] 0).map (·.1)=some (kB true)) {w : World} (hp : QK w)
  (hA : A2 (avOn (cOn (evS q σ) K (fun _ => none) w)) args vs) : Calls Tryz.prog f vs.toArray w fun e w' => Below w.heap.size w w'∧e=.returned (.bool true) := by
 rw [Option.map_eq_some_iff] at hr
 obtain ⟨⟨v,p⟩,h1,h2⟩ := hr
 dsimp only at h2
 subst h2
 exact Nf Y hc hm h1 hp hA
end
end Go.Proofs.YtcjmbkcodigpdaaGreatDoor
/- VPD -/
namespace Cx
open Go Go.RowKit
def AR : List A1→List A1→Bool
 | [],[] => true
 | (a,x) :: l,(b,y) :: m => (a == b && Km x y) && AR l m
 | _,_ => false
theorem Eg : ∀ {l m : List A1},AR l m=true→l=m
 | [],[],_ => rfl
 | (a,x) :: l,(b,y) :: m,h => by
  unfold AR at h
  simp only [Bool.and_eq_true,beq_iff_eq] at h
  obtain ⟨⟨h1,h2⟩,h3⟩ := h
  rw [h1,Vn h2,Eg h3]
 | [],_ :: _,h => by cases h
 | _ :: _,[],h => by cases h
def Fc : List AV→List AV→Bool
 | [],[] => true
 | (a,x) :: l,(b,y) :: m => (a == b && AR x y) && Fc l m
 | _,_ => false
theorem Ie : ∀ {l m : List AV},Fc l m=true→l=m
 | [],[],_ => rfl
 | (a,x) :: l,(b,y) :: m,h => by
  unfold Fc at h
  simp only [Bool.and_eq_true,beq_iff_eq] at h
  obtain ⟨⟨h1,h2⟩,h3⟩ := h
  rw [h1,Eg h2,Ie h3]
 | [],_ :: _,h => by cases h
 | _ :: _,[],h => by cases h
abbrev Vw := List (FuncId × List AV × AV)
def Om (f : FuncId) (args : List AV) : Vw→Option AV
 | [] => none
 | (g,bs,v) :: m => bif Nat.beq f g && Fc args bs then some v else Om f args m
theorem UD {f : FuncId} {args : List AV} {v : AV} : ∀ {m : Vw},Om f args m=some v→(f,args,v) ∈ m
 | [],h => by cases h
 | (g,bs,u) :: m,h => by
  unfold Om at h
  cases e : (Nat.beq f g && Fc args bs) with
  | true =>
   rw [e] at h
   rw [Bool.and_eq_true,Nat.beq_eq] at e
   rw [e.1,Ie e.2,show u=v from Option.some.inj h]
   exact List.mem_cons_self
  | false =>
   rw [e] at h
   exact List.mem_cons_of_mem _ (UD h)
def Ib : AC→Bool
 | .inl _ => true
 | .inr (k,_) => Nat.ble k 2
def KU (v : AV) : Bool := v.2.all fun x => x.2.all Ib
def Js (S : Sx) (cs : List (FuncId × Nat)) (M : Vw) : Nat→Hs→Xq
 | 0,_,_,_,_,_ => none
 | n+1,X,f,args,h,nx => match Om f args M with
  | some v => some (v,h,nx)
  | none => match Wt f cs with
   | none => JY (S.plus X) (Js S cs M n X) f args h nx
   | some c => match SV S X h c args with
    | none => JY (S.plus X) (Js S cs M n X) f args h nx
    | some (l,r) => bif Nat.beq 1 r then JY (S.plus (Fs l X)) (Js S cs M n (Fs l X)) f args h nx
     else OY h nx ((Uk l X).map fun X' => OS (S.plus X') (JY (S.plus X') (Js S cs M n X') f args h nx))
def Uq (S : Sx) (E : Ev S.nb) (w0 : World) (M : Vw) : Prop := ∀ f args v,(f,args,v) ∈ M→∀ (γ : Nat→Option Nat) (w : World) (vs : List Value),WI w0 γ w→A2 (avOn (cOn E S.K γ w)) args vs →
 Calls S.P f vs.toArray w fun e w' => ∃ r,e=.returned r∧(∀ wr nx,(∀ b ∈ wr,OC γ b)→Ef S.nb w0 wr nx nx γ w γ w')∧avOn (cOn E S.K γ w') v r
section
variable {S : Sx} {E : Ev S.nb} {w0 : World}
theorem Ce {K K' : List (FuncId × List AC)} {γ γ' : Nat→Option Nat} {w : World} {d : Nat} {c : AC} {v : Value} (hc : Ib c=true) (h : QE E K γ w d c v) : QE E K' γ' w d c v := by
 cases c with
 | inl u =>
  unfold QE at h ⊢
  exact h
 | inr t =>
  obtain ⟨k,a,b,n,c⟩ := t
  have hk : k≤2 := by
   unfold Ib at hc
   rw [Nat.ble_eq] at hc
   exact hc
  match k,hk with
  | 0,_ =>
   unfold QE at h ⊢
   exact h
  | 1,_ =>
   unfold QE at h ⊢
   exact h
  | 2,_ =>
   unfold QE at h ⊢
   exact h
theorem IC {α : Type} {R R' : α→Value→Prop} {P : α→Prop} (h : ∀ a v,P a→R a v→R' a v) : ∀ {l : List α} {vs : List Value},(∀ a ∈ l,P a)→A2 R l vs→A2 R' l vs
 | [],[],_,_ => trivial
 | _ :: _,_ :: _,hp,q => ⟨h _ _ (hp _ List.mem_cons_self) q.1,IC h (fun a ha => hp a (List.mem_cons_of_mem _ ha)) q.2⟩
 | [],_ :: _,_,q => q.elim
 | _ :: _,[],_,q => q.elim
theorem Sb {K K' : List (FuncId × List AC)} {γ γ' : Nat→Option Nat} {w : World} {x : AV} {v : Value} (hx : KU x=true) (h : avOn (cOn E K γ w) x v) : avOn (cOn E K' γ' w) x v := by
 unfold KU at hx
 rw [List.all_eq_true] at hx
 have one : ∀ (y : A1) u,(∀ c ∈ y.2,Ib c=true)→a1On (cOn E K γ w) y u→a1On (cOn E K' γ' w) y u := fun y u hy q => by
  obtain ⟨b,cs⟩ := y
  cases b with
  | true =>
   obtain ⟨us,e,q⟩ := q
   exact ⟨us,e,IC (P := fun c => Ib c=true) (fun _ _ hc q => Ce hc q) hy q⟩
  | false => exact IC (P := fun c => Ib c=true) (fun _ _ hc q => Ce hc q) hy q
 have all : ∀ y ∈ x.2,∀ c ∈ y.2,Ib c=true := fun y hy c hc => (List.all_eq_true.1 (hx y hy)) c hc
 obtain ⟨b,ys⟩ := x
 cases b with
 | true =>
  obtain ⟨us,e,q⟩ := h
  exact ⟨us,e,IC (P := fun y : A1 => ∀ c ∈ y.2,Ib c=true) (fun y u hy q => one y u hy q) all q⟩
 | false => exact IC (P := fun y : A1 => ∀ c ∈ y.2,Ib c=true) (fun y u hy q => one y u hy q) all h
variable {T : Hs→Prop} {z : Nat→Prop}
theorem Bx {cs : List (FuncId × Nat)} {M : Vw} (hm : S.P.follows .mixedOrders=true) (hM : Uq S E w0 M) (hN : ∀ X,T X→Knows (S.plus X) E) (hP : ∀ X,T X→Xx (S.plus X) E w0) (hk : UX S T z)
  (hs : ∀ X,T X→∀ l s r,sqN S l=some s→(S.plus X).kn 0 s 0=some r→(Nat.beq 1 r=true→∀ d ∈ l,z d)∧(Nat.beq 1 r=false→∃ d ∈ l,¬ z d)) : ∀ n X,T X→Je S E w0 (Js S cs M n X)
 | 0,_,_ => fun _ _ _ _ _ h => by cases h
 | n+1,X,hX => fun f args h nx p hp => by
  have body : ∀ Y,T Y→Je S E w0 (JY (S.plus Y) (Js S cs M n Y)) := fun Y hY => Kr (S := S.plus Y) hm (hN Y hY) (hP Y hY) (Bx hm hM hN hP hk hs n Y hY)
  unfold Js at hp
  split at hp
  ·rename_i v hv
   cases hp
   intro γ w vs hi hA hb hlt hf
   refine (hM f args v (UD hv) γ w vs hi hA).mono ?_
   rintro _ w' ⟨r,rfl,hef,hr⟩
   have live : ∀ b ∈ h.map (·.1),OC γ b := fun b hb' => by
    obtain ⟨x,hx,rfl⟩ := List.mem_map.1 hb'
    obtain ⟨_,_,_,_,hl,_⟩ := hb x hx
    exact hl
   exact ⟨r,γ,rfl,hef _ _ live,hr,fun x hx => (hef [] nx JL).box hi (hb x hx) (by simp)⟩
  ·split at hp
   ·exact body X hX f args h nx p hp
   ·split at hp
    ·exact body X hX f args h nx p hp
    rename_i l r hk'
    obtain ⟨hl,s,h1,h2⟩ := Wx hk'
    have h3 := hp
    obtain ⟨a1,a0⟩ := hs X hX _ s r h1 h2
    cases e : Nat.beq 1 r with
    | true =>
     rw [e] at h3
     exact body _ (Wg hk hX hl fun a ha => a1 e _ (List.mem_map_of_mem ha)) f args h nx p h3
    | false =>
     rw [e] at h3
     obtain ⟨d,hd,hz⟩ := a0 e
     obtain ⟨a,ha,rfl⟩ := List.mem_map.1 hd
     obtain ⟨X',m1,m2⟩ := Yj hk hX hl ⟨a,ha,hz⟩
     replace h3 : OY h nx ((Uk l X).map fun X' => OS (S.plus X') (JY (S.plus X') (Js S cs M n X') f args h nx))=some p := h3
     unfold OY at h3
     split at h3
     ·rename_i p0 rs hrs
      rw [Option.bind_eq_some_iff] at h3
      obtain ⟨b,hb,h4⟩ := h3
      rw [ifO_some,List.all_eq_true] at h4
      obtain ⟨h5,h6⟩ := h4
      cases h6
      obtain ⟨h',nx',q1,q2,q3⟩ := WP (h5 _ (List.mem_map_of_mem m1))
      intro γ w vs hi hA hb hlt hf
      refine (Ds (hN X' m2) (body X' m2) f args h nx _ q1 γ w vs hi hA hb hlt fun b g1 g2 => hf b g1 (Nat.lt_of_lt_of_le g2 q2)).mono ?_
      rintro _ w' ⟨r',γ',rfl,hef,hv,hx⟩
      exact ⟨r',γ',rfl,hef.wide (Nat.le_refl _) q2,hv,fun x hh => hx x (q3 x hh)⟩
     ·cases h3
theorem Lb {K1 K2 : List (FuncId × List AC)} {H1 H2 : Hs} {M : Vw} {f : FuncId} {args : List AV} {v : AV} {p : List HB × Nat} {call : Xq} (hC : Je { S with H := H1,K := K1 } E w0 call) (hr : call f args [] 0=some (v,p)) (ha : args.all KU=true) (hv : KU v=true) (hM : Uq { S with H := H2,K := K2 } E w0 M) : Uq { S with H := H2,K := K2 } E w0 ((f,args,v) :: M) := fun g bs u hmem => by
 rcases List.mem_cons.1 hmem with e | hmem
 ·cases e
  intro γ w vs hi hA
  rw [List.all_eq_true] at ha
  refine (hC f args [] 0 (v,p) hr (fun _ => none) w vs ⟨hi.bel,(fun _ _ h => by cases h)⟩ (IC (P := fun x => KU x=true) (fun _ _ hx q => Sb hx q) ha hA) (fun x hx => by cases hx) (fun x hx => by cases hx) (fun _ _ _ => rfl)).mono ?_
  rintro _ w' ⟨r,γ',rfl,hef,hr,_⟩
  refine ⟨r,rfl,fun wr nx hl => ⟨leG.refl _,fun _ _ => rfl,fun _ _ h => Or.inl h,⟨hef.wi.bel,fun b G q => ⟨(hi.lo b G q).1,Nat.lt_of_lt_of_le (hi.lo b G q).2 hef.gr.size⟩⟩,hef.gr,fun G hG _ => hef.keep G hG (fun b hb => by cases hb),hl⟩,Sb hv hr⟩
 ·exact hM g bs u hmem
def Tj (S : Sx) (cs : List (FuncId × Nat)) (k : Nat) : Vw→Bool
 | (f,args,v) :: M => (match Js S cs M k [] f args [] 0 with
  | some (u,_) => Fc [u] [v]
  | none => false) && (args.all KU && KU v)
 | [] => false
def UT (S : Sx) (cs : List (FuncId × Nat)) (k : Nat) : Nat→Vw→Bool
 | 0,_ => true
 | n+1,M => Tj S cs k M && UT S cs k n M.tail
def qA (l : List Nat) : AV := (false,[(true,l.flatMap KD)])
def rC (a : Nat) : AC := .inr (0,0,a,0,0)
def rA (l : List Nat) : AV := (false,[(true,l.map rC)])
def tA (l : List Nat) : AV := (false,[(true,l.map fun a => .inr (1,a,0,0,0))])
def pA (l : List Nat) : AV := (false,[(true,l.map fun a => .inr (2,a,0,0,0))])
theorem Ld : Uq S E w0 [] := fun _ _ _ h => by cases h
end
end Cx
/- VPE -/
namespace Go.Proofs.YtcjmbkcodigpdaaGreatDoor
open Cx Go Go.RowKit
section
variable {N : List Nd} {H : List (Nat × Nat × Nat × Nat)} {K : List (FuncId × List AC)} {L C : List (List Nat × Nat)} {Z : List Nat} {q : Nat→Rat} {σ : Nat→ByteArray} {cl : List FuncId} {cs pr : List (FuncId × Nat)} {M : Vw} {w : World}
theorem TN (Y : Hy N H L C Z q σ) (hc : ∀ f ∈ cl,Closed f) (hm : (Tryz.prog).follows .mixedOrders=true) (hp : QK w) (hM : Uq (sx Tryz.prog N H K L C Z (prC cl)) (evS q σ) w M) (k : Nat) : Je (sx Tryz.prog N H K L C Z (prC cl)) (evS q σ) w (Js (sx Tryz.prog N H K L C Z (prC cl)) cs M k []) :=
 Bx (S := sx Tryz.prog N H K L C Z (prC cl)) (E := evS q σ) (w0 := w) (T := fun X => Hy N (X ++ H) L C Z q σ) (z := fun d => q d=0) hm hM (fun X hX => Br hX) (fun X hX => Pz hX hp hc) Ks (fun X hX l s r h1 h2 => by
  have e := hX.k0 s r h2
  have g := PQ hX h1
  refine ⟨fun h => g.1 (e.1 h),fun h => ?_⟩
  have hn : ¬ ∀ d ∈ l,q d=0 := fun q' => by
   rw [e.2 (g.2 q')] at h
   cases h
  simpa using hn) k [] Y
def Jr (N : List Nd) (L C : List (List Nat × Nat)) (Z : List Nat) (q : Nat→Rat) (σ : Nat→ByteArray) (cl : List FuncId) (w : World) (M : Vw) : Prop := ∀ H K,Uq (sx Tryz.prog N H K L C Z (prC cl)) (evS q σ) w M
theorem Sp : Jr N L C Z q σ cl w [] := fun _ _ => Ld
theorem DO {H1 : List (Nat × Nat × Nat × Nat)} (Y : Hy N H1 L C Z q σ) (hc : ∀ f ∈ cl,Closed f) (hm : (Tryz.prog).follows .mixedOrders=true) (hp : QK w) {f : FuncId} {args : List AV} {v : AV} (k : Nat) (hr : Tj (sx Tryz.prog N H1 [] L C Z (prC cl)) cs k ((f,args,v) :: M)=true) (hM : Jr N L C Z q σ cl w M) : Jr N L C Z q σ cl w ((f,args,v) :: M) := fun H K => by
 unfold Tj at hr
 simp only [Bool.and_eq_true] at hr
 obtain ⟨h1,h2,h3⟩ := hr
 split at h1
 ·rename_i u p hu
  have e := Ie h1
  cases e
  exact Lb (S := sx Tryz.prog N H K L C Z (prC cl)) (K1 := []) (H1 := H1) (K2 := K) (H2 := H) (TN (K := []) (cs := cs) Y hc hm hp (hM H1 []) k) hu h2 h3 (hM H K)
 ·cases h1
theorem Px {i : Nat} {H1 : List (Nat × Nat × Nat × Nat)} (Y : Hy N H1 L C Z q σ) (hc : ∀ f ∈ cl,Closed f) (hm : (Tryz.prog).follows .mixedOrders=true) (hp : QK w) {k : Nat} (hr : Tj (sx Tryz.prog N H1 [] L C Z (prC cl)) cs k (M.drop i)=true) (hM : Jr N L C Z q σ cl w (M.drop (i+1))) : Jr N L C Z q σ cl w (M.drop i) := by
 rw [← List.tail_drop] at hM
 generalize M.drop i=D at *
 match D with
 | [] => cases hr
 | (f,args,v) :: D => exact DO Y hc hm hp k hr hM
theorem Yh {H1 : List (Nat × Nat × Nat × Nat)} (Y : Hy N H1 L C Z q σ) (hc : ∀ f ∈ cl,Closed f) (hm : (Tryz.prog).follows .mixedOrders=true) (hp : QK w) {k : Nat} : ∀ (n : Nat) {M : Vw},UT (sx Tryz.prog N H1 [] L C Z (prC cl)) cs k n M=true→Jr N L C Z q σ cl w (M.drop n)→Jr N L C Z q σ cl w M
 | 0,_,_,h => h
 | n+1,M,hr,h => by
  unfold UT at hr
  rw [Bool.and_eq_true] at hr
  have h1 := Yh Y hc hm hp n hr.2 (by rw [List.drop_tail]; exact h)
  exact Px (i := 0) Y hc hm hp hr.1 (by rw [Nat.zero_add,List.drop_one]; exact h1)
theorem CD {f : FuncId} {args : List AV} {vs : List Value} (k : Nat) (Y : Hy N H L C Z q σ) (hc : ∀ f ∈ cl,Closed f) (hm : (Tryz.prog).follows .mixedOrders=true) (hp : QK w) (hM : Jr N L C Z q σ cl w M) (hr : (Js (sx Tryz.prog N H K L C Z (prC cl)) cs M k [] f args [] 0).map (·.1)=some (kB true))
  (hA : A2 (avOn (cOn (evS q σ) K (fun _ => none) w)) args vs) : Calls Tryz.prog f vs.toArray w fun e w' => Below w.heap.size w w'∧e=.returned (.bool true) := by
 rw [Option.map_eq_some_iff] at hr
 obtain ⟨⟨v,p⟩,h1,h2⟩ := hr
 dsimp only at h2
 subst h2
 refine (TN (cs := cs) Y hc hm hp (hM H K) k f args [] 0 (kB true,p) h1 (fun _ => none) w vs ⟨Below.refl _ _,(fun _ _ h => by cases h)⟩ hA (fun x hx => by cases hx) (fun x hx => by cases hx) (fun _ _ _ => rfl)).mono ?_
 rintro _ w' ⟨r,γ',rfl,hef,hv,_⟩
 exact ⟨hef.wi.bel,by rw [show r=.bool true from (Zd (v := kB true) (c := .inl (.bool true)) rfl hv).1]⟩
end
end Go.Proofs.YtcjmbkcodigpdaaGreatDoor
/- VPF -/
namespace Cx
open Go Go.RowKit
def SS (l m : List HB) : Bool := l.all fun x => m.any fun y => Nat.beq x.1 y.1 && Km x.2 y.2
theorem UM {l m : List HB} (h : SS l m=true) {x : HB} (hx : x ∈ l) : x ∈ m := by
 unfold SS at h
 rw [List.all_eq_true] at h
 have := h x hx
 rw [List.any_eq_true] at this
 obtain ⟨y,hy,e⟩ := this
 rw [Bool.and_eq_true,Nat.beq_eq] at e
 rw [show x=y from Prod.ext e.1 (Vn e.2)]
 exact hy
abbrev Ox := List (FuncId × List AV × List HB × Nat × AV × List HB × Nat)
def Ep (f : FuncId) (args : List AV) (h : List HB) (nx : Nat) : Ox→Fm
 | [] => none
 | (g,bs,k,n,p) :: m => bif (Nat.beq f g && Nat.beq nx n) && (Fc args bs && SS k h) then some p else Ep f args h nx m
section
variable {S : Sx} {E : Ev S.nb} {w0 : World}
def NO (S : Sx) (E : Ev S.nb) (w0 : World) (f : FuncId) (args : List AV) (h : List HB) (nx : Nat) (p : AV × List HB × Nat) : Prop := ∀ (γ : Nat→Option Nat) (w : World) (vs : List Value),WI w0 γ w→A2 (avOn (cOn E S.K γ w)) args vs→(∀ x ∈ h,boxOn E S.K γ w x)→(∀ x ∈ h,x.1 < nx)→(∀ b,nx≤b→b < p.2.2→γ b=none) →
 Calls S.P f vs.toArray w fun e w' => ∃ r γ',e=.returned r∧Ef S.nb w0 (h.map (·.1)) nx p.2.2 γ w γ' w'∧avOn (cOn E S.K γ' w') p.1 r∧∀ x ∈ p.2.1,boxOn E S.K γ' w' x
def XJ (S : Sx) (E : Ev S.nb) (w0 : World) (B : Ox) : Prop := ∀ f args h nx p,(f,args,h,nx,p) ∈ B→NO S E w0 f args h nx p
theorem Bi : ∀ {B : Ox} {f : FuncId} {args : List AV} {h : List HB} {nx : Nat} {p : AV × List HB × Nat},XJ S E w0 B→Ep f args h nx B=some p→NO S E w0 f args h nx p
 | [],_,_,_,_,_,_,h => by cases h
 | (g,bs,k,n,u) :: m,f,args,h,nx,p,hB,hg => by
  unfold Ep at hg
  cases e : ((Nat.beq f g && Nat.beq nx n) && (Fc args bs && SS k h)) with
  | true =>
   rw [e] at hg
   have hu : u=p := Option.some.inj hg
   simp only [Bool.and_eq_true,Nat.beq_eq] at e
   obtain ⟨⟨e1,e2⟩,e3,e4⟩ := e
   subst hu e1 e2
   have ea := Ie e3
   subst ea
   have base := hB f args k nx u List.mem_cons_self
   intro γ w vs hi hA hb hlt hf
   refine (base γ w vs hi hA (fun x hx => hb x (UM e4 hx)) (fun x hx => hlt x (UM e4 hx)) hf).mono ?_
   rintro _ w' ⟨r,γ',rfl,hef,hr,hx⟩
   refine ⟨r,γ',rfl,hef.more (fun b hb' => ?_) (fun b hb' => ?_),hr,hx⟩
   ·obtain ⟨x,hx',rfl⟩ := List.mem_map.1 hb'
    exact List.mem_map.2 ⟨x,UM e4 hx',rfl⟩
   ·obtain ⟨x,hx',rfl⟩ := List.mem_map.1 hb'
    obtain ⟨_,_,_,_,hl,_⟩ := hb x hx'
    exact hl
  | false =>
   rw [e] at hg
   exact Bi (fun f' a' h' n' p' hm => hB f' a' h' n' p' (List.mem_cons_of_mem _ hm)) hg
def YN (S : Sx) (cs : List (FuncId × Nat)) (M : Vw) (B : Ox) : Nat→Hs→Xq
 | 0,_,_,_,_,_ => none
 | n+1,X,f,args,h,nx => match Om f args M with
  | some v => some (v,h,nx)
  | none => match Ep f args h nx B with
   | some p => some p
   | none => match Wt f cs with
    | none => JY (S.plus X) (YN S cs M B n X) f args h nx
    | some c => match SV S X h c args with
     | none => JY (S.plus X) (YN S cs M B n X) f args h nx
     | some (l,r) => bif Nat.beq 1 r then JY (S.plus (Fs l X)) (YN S cs M B n (Fs l X)) f args h nx
      else OY h nx ((Uk l X).map fun X' => OS (S.plus X') (JY (S.plus X') (YN S cs M B n X') f args h nx))
variable {T : Hs→Prop} {z : Nat→Prop}
theorem SQ {cs : List (FuncId × Nat)} {M : Vw} {B : Ox} (hm : S.P.follows .mixedOrders=true) (hM : Uq S E w0 M) (hB : XJ S E w0 B) (hN : ∀ X,T X→Knows (S.plus X) E) (hP : ∀ X,T X→Xx (S.plus X) E w0) (hk : UX S T z)
  (hs : ∀ X,T X→∀ l s r,sqN S l=some s→(S.plus X).kn 0 s 0=some r→(Nat.beq 1 r=true→∀ d ∈ l,z d)∧(Nat.beq 1 r=false→∃ d ∈ l,¬ z d)) : ∀ n X,T X→Je S E w0 (YN S cs M B n X)
 | 0,_,_ => fun _ _ _ _ _ h => by cases h
 | n+1,X,hX => fun f args h nx p hp => by
  have body : ∀ Y,T Y→Je S E w0 (JY (S.plus Y) (YN S cs M B n Y)) := fun Y hY => Kr (S := S.plus Y) hm (hN Y hY) (hP Y hY) (SQ hm hM hB hN hP hk hs n Y hY)
  unfold YN at hp
  split at hp
  ·rename_i v hv
   cases hp
   intro γ w vs hi hA hb hlt hf
   refine (hM f args v (UD hv) γ w vs hi hA).mono ?_
   rintro _ w' ⟨r,rfl,hef,hr⟩
   have live : ∀ b ∈ h.map (·.1),OC γ b := fun b hb' => by
    obtain ⟨x,hx,rfl⟩ := List.mem_map.1 hb'
    obtain ⟨_,_,_,_,hl,_⟩ := hb x hx
    exact hl
   exact ⟨r,γ,rfl,hef _ _ live,hr,fun x hx => (hef [] nx JL).box hi (hb x hx) (by simp)⟩
  ·split at hp
   ·rename_i u hu
    cases hp
    exact Bi hB hu
   ·split at hp
    ·exact body X hX f args h nx p hp
    ·split at hp
     ·exact body X hX f args h nx p hp
     rename_i l r hk'
     obtain ⟨hl,s,h1,h2⟩ := Wx hk'
     have h3 := hp
     obtain ⟨a1,a0⟩ := hs X hX _ s r h1 h2
     cases e : Nat.beq 1 r with
     | true =>
      rw [e] at h3
      exact body _ (Wg hk hX hl fun a ha => a1 e _ (List.mem_map_of_mem ha)) f args h nx p h3
     | false =>
      rw [e] at h3
      obtain ⟨d,hd,hz⟩ := a0 e
      obtain ⟨a,ha,rfl⟩ := List.mem_map.1 hd
      obtain ⟨X',m1,m2⟩ := Yj hk hX hl ⟨a,ha,hz⟩
      replace h3 : OY h nx ((Uk l X).map fun X' => OS (S.plus X') (JY (S.plus X') (YN S cs M B n X') f args h nx))=some p := h3
      unfold OY at h3
      split at h3
      ·rename_i p0 rs hrs
       rw [Option.bind_eq_some_iff] at h3
       obtain ⟨b,hb,h4⟩ := h3
       rw [ifO_some,List.all_eq_true] at h4
       obtain ⟨h5,h6⟩ := h4
       cases h6
       obtain ⟨h',nx',q1,q2,q3⟩ := WP (h5 _ (List.mem_map_of_mem m1))
       intro γ w vs hi hA hb hlt hf
       refine (Ds (hN X' m2) (body X' m2) f args h nx _ q1 γ w vs hi hA hb hlt fun b g1 g2 => hf b g1 (Nat.lt_of_lt_of_le g2 q2)).mono ?_
       rintro _ w' ⟨r',γ',rfl,hef,hv,hx⟩
       exact ⟨r',γ',rfl,hef.wide (Nat.le_refl _) q2,hv,fun x hh => hx x (q3 x hh)⟩
      ·cases h3
def NJ (S : Sx) (cs : List (FuncId × Nat)) (M : Vw) (k : Nat) : Ox→Bool
 | (f,args,h,nx,v,h2,n2) :: B => (match YN S cs M B k [] f args h nx with
  | some (u,h3,n3) => Fc [u] [v] && (SS h2 h3 && Nat.beq n3 n2)
  | none => false)
 | [] => false
end
end Cx
namespace Go.Proofs.YtcjmbkcodigpdaaGreatDoor
open Cx Go Go.RowKit
section
variable {N : List Nd} {H : List (Nat × Nat × Nat × Nat)} {K : List (FuncId × List AC)} {L C : List (List Nat × Nat)} {Z : List Nat} {q : Nat→Rat} {σ : Nat→ByteArray} {cl : List FuncId} {cs : List (FuncId × Nat)} {M : Vw} {B : Ox} {w : World}
theorem Kb (Y : Hy N H L C Z q σ) (hc : ∀ f ∈ cl,Closed f) (hm : (Tryz.prog).follows .mixedOrders=true) (hp : QK w) (hM : Uq (sx Tryz.prog N H K L C Z (prC cl)) (evS q σ) w M) (hB : XJ (sx Tryz.prog N H K L C Z (prC cl)) (evS q σ) w B) (k : Nat) : Je (sx Tryz.prog N H K L C Z (prC cl)) (evS q σ) w (YN (sx Tryz.prog N H K L C Z (prC cl)) cs M B k []) :=
 SQ (S := sx Tryz.prog N H K L C Z (prC cl)) (E := evS q σ) (w0 := w) (T := fun X => Hy N (X ++ H) L C Z q σ) (z := fun d => q d=0) hm hM hB (fun X hX => Br hX) (fun X hX => Pz hX hp hc) Ks (fun X hX l s r h1 h2 => by
  have e := hX.k0 s r h2
  have g := PQ hX h1
  refine ⟨fun h => g.1 (e.1 h),fun h => ?_⟩
  have hn : ¬ ∀ d ∈ l,q d=0 := fun q' => by
   rw [e.2 (g.2 q')] at h
   cases h
  simpa using hn) k [] Y
theorem Nk : XJ (sx Tryz.prog N H K L C Z (prC cl)) (evS q σ) w [] := fun _ _ _ _ _ h => by cases h
theorem Cj {i : Nat} (Y : Hy N H L C Z q σ) (hc : ∀ f ∈ cl,Closed f) (hm : (Tryz.prog).follows .mixedOrders=true) (hp : QK w) (hM : Jr N L C Z q σ cl w M) {k : Nat} (hr : NJ (sx Tryz.prog N H K L C Z (prC cl)) cs M k (B.drop i)=true) (hB : XJ (sx Tryz.prog N H K L C Z (prC cl)) (evS q σ) w (B.drop (i+1))) : XJ (sx Tryz.prog N H K L C Z (prC cl)) (evS q σ) w (B.drop i) := by
 rw [← List.tail_drop] at hB
 generalize B.drop i=D at *
 match D with
 | [] => cases hr
 | (f,args,h,nx,v,h2,n2) :: D =>
  unfold NJ at hr
  dsimp only at hr
  split at hr
  ·rename_i u h3 n3 hu
   simp only [Bool.and_eq_true,Nat.beq_eq] at hr
   obtain ⟨g1,g2,g3⟩ := hr
   have e := Ie g1
   cases e
   subst g3
   have base := Kb (cs := cs) Y hc hm hp (hM H K) hB k f args h nx (v,h3,n3) hu
   intro f' a' h' n' p' hmem
   rcases List.mem_cons.1 hmem with e | hmem
   ·cases e
    intro γ w1 vs hi hA hb hlt hf
    refine (base γ w1 vs hi hA hb hlt hf).mono ?_
    rintro _ w' ⟨r,γ',rfl,hef,hv,hx⟩
    exact ⟨r,γ',rfl,hef,hv,fun x hh => hx x (UM g2 hh)⟩
   ·exact hB f' a' h' n' p' hmem
  ·cases hr
theorem CJ {f : FuncId} {args : List AV} {vs : List Value} (k : Nat) (Y : Hy N H L C Z q σ) (hc : ∀ f ∈ cl,Closed f) (hm : (Tryz.prog).follows .mixedOrders=true) (hp : QK w) (hM : Jr N L C Z q σ cl w M) (hB : XJ (sx Tryz.prog N H K L C Z (prC cl)) (evS q σ) w B) (hr : (YN (sx Tryz.prog N H K L C Z (prC cl)) cs M B k [] f args [] 0).map (·.1)=some (kB true))
  (hA : A2 (avOn (cOn (evS q σ) K (fun _ => none) w)) args vs) : Calls Tryz.prog f vs.toArray w fun e w' => Below w.heap.size w w'∧e=.returned (.bool true) := by
 rw [Option.map_eq_some_iff] at hr
 obtain ⟨⟨v,p⟩,h1,h2⟩ := hr
 dsimp only at h2
 subst h2
 refine (Kb (cs := cs) Y hc hm hp (hM H K) hB k f args [] 0 (kB true,p) h1 (fun _ => none) w vs ⟨Below.refl _ _,(fun _ _ h => by cases h)⟩ hA (fun x hx => by cases hx) (fun x hx => by cases hx) (fun _ _ _ => rfl)).mono ?_
 rintro _ w' ⟨r,γ',rfl,hef,hv,_⟩
 exact ⟨hef.wi.bel,by rw [show r=.bool true from (Zd (v := kB true) (c := .inl (.bool true)) rfl hv).1]⟩
end
end Go.Proofs.YtcjmbkcodigpdaaGreatDoor
/- VY -/
namespace Go.Proofs.YtcjmbkcodigpdaaGreatDoor
open Go.RowKit Cx
theorem den_num (t : Rat) : t*(t.den : Rat)=((t.num : Int) : Rat) := by
 conv => lhs; lhs; rw [← Rat.mkRat_self t]
 have h0 : (t.den : Rat) ≠ 0 := fun h => t.den_nz (by exact_mod_cast h)
 rw [Rat.mkRat_eq_div,Rat.div_mul_cancel h0]
theorem whole {q : Rat} (h : q.den=1) : q=((q.num : Int) : Rat) := by
 have := den_num q
 rw [h] at this
 rw [← this]
 show q=q*((1 : Nat) : Rat)
 exact (Rat.mul_one q).symm
end Go.Proofs.YtcjmbkcodigpdaaGreatDoor
/- VSZ -/
namespace Go.Proofs.YtcjmbkcodigpdaaGreatDoor
open Go.RowKit Cx
def szW (Z : List Nat) (I : List Bool) (z : Nat) (b : Bool) (nd : Nd) : Bool := match nd.1,nd.2 with
 | 0,[_,n,d] => (Nat.blt n (2 ^ z) && (Nat.blt 0 d && Nat.blt d (2 ^ z))) && (!b || Nat.beq d 1)
 | 1,[_] => Nat.ble 3495259 z && !b
 | 2,[a,c] => (match Z[a]?,Z[c]?,I[a]?,I[c]? with
  | some x,some y,some true,some true => Nat.ble (Nat.max x y+1) z
  | some x,some y,_,_ => Nat.ble (x+y+1) z && !b
  | _,_,_,_ => false)
 | 3,[a,c] => (match Z[a]?,Z[c]?,I[a]?,I[c]? with
  | some x,some y,some true,some true => Nat.ble (Nat.max x y+1) z
  | some x,some y,_,_ => Nat.ble (x+y+1) z && !b
  | _,_,_,_ => false)
 | 4,[a,c] => (match Z[a]?,Z[c]?,I[a]?,I[c]? with
  | some x,some y,some true,some true => Nat.ble (x+y) z
  | some x,some y,_,_ => Nat.ble (x+y) z && !b
  | _,_,_,_ => false)
 | 5,[a] => (match Z[a]?,I[a]? with
  | some x,some true => Nat.ble x z
  | some x,_ => Nat.ble x z && !b
  | _,_ => false)
 | 6,[a,c] => (match Z[a]?,Z[c]? with
  | some x,some y => Nat.ble (x+y) z && !b
  | _,_ => false)
 | 8,i :: xs => (match FJ Z xs with
  | some zs => Nat.blt i xs.length && (Nat.ble ((xs.length+1)*Cs zs+1) z || (xs.all (fun a => match I[a]? with
   | some true => true
   | _ => false) && (match xs[i]? with
   | some a => (match Z[a]? with
    | some x => Nat.ble (x+1) z
    | none => false)
   | none => false)))
  | none => false)
 | _,_ => false
def szC (Z : List Nat) (I : List Bool) : List Nd→List Nat→List Bool→Bool
 | [],[],[] => true
 | nd :: ns,z :: zs,b :: bs => (szW Z I z b nd && Nat.ble z 1000000000000) && szC Z I ns zs bs
 | _,_,_ => false
theorem Pv {Z : List Nat} {I : List Bool} : ∀ {ns : List Nd} {zs : List Nat} {bs : List Bool} {i z : Nat},szC Z I ns zs bs=true→zs[i]? = some z→∃ nd b,ns[i]? = some nd∧bs[i]? = some b∧szW Z I z b nd=true∧z≤1000000000000
 | [],[],[],_,_,_,h => by simp at h
 | [],[],_ :: _,_,_,h,_ => by cases h
 | [],_ :: _,_,_,_,h,_ => by cases h
 | _ :: _,[],_,_,_,h,_ => by cases h
 | _ :: _,_ :: _,[],_,_,h,_ => by cases h
 | nd :: ns,z' :: zs,b :: bs,0,z,h,e => by
  have : z'=z := by simpa using e
  subst this
  unfold szC at h
  simp only [Bool.and_eq_true,Nat.ble_eq] at h
  exact ⟨nd,b,rfl,rfl,h.1.1,h.1.2⟩
 | nd :: ns,z' :: zs,b :: bs,i+1,z,h,e => by
  unfold szC at h
  rw [Bool.and_eq_true] at h
  obtain ⟨nd2,b2,g1,g2,g3⟩ := Pv (ns := ns) (zs := zs) (bs := bs) h.2 (show zs[i]? = some z by simpa using e)
  exact ⟨nd2,b2,by simpa using g1,by simpa using g2,g3⟩
theorem Et {Z : List Nat} {I : List Bool} : ∀ {ns : List Nd} {zs : List Nat} {bs : List Bool},szC Z I ns zs bs=true→ns.length=zs.length
 | [],[],[],_ => rfl
 | [],[],_ :: _,h => by cases h
 | [],_ :: _,_,h => by cases h
 | _ :: _,[],_,h => by cases h
 | _ :: _,_ :: _,[],h => by cases h
 | _ :: _,_ :: _,_ :: _,h => by
  unfold szC at h
  rw [Bool.and_eq_true] at h
  exact congrArg (· + 1) (Et h.2)
structure QW (z : Nat) (x : Rat) : Prop where
 qs : QS z x
 wh : x.den=1
theorem QW.of {z : Nat} {n : Int} (h : n.natAbs < 2 ^ z) (hz : 0 < z) : QW z ((n : Int) : Rat) :=
 ⟨⟨by simpa using h,by
  show ((n : Int) : Rat).den < 2 ^ z
  rw [Rat.den_intCast]
  exact Nat.one_lt_two_pow (by omega)⟩,Rat.den_intCast n⟩
theorem QW.mono {k l : Nat} {x : Rat} (h : QW k x) (hk : k≤l) : QW l x := ⟨h.qs.mono hk,h.wh⟩
theorem MJ {a b x y : Nat} (h1 : a < 2 ^ x) (h2 : b < 2 ^ y) : a+b < 2 ^ (Nat.max x y+1) := by
 have e1 : 2 ^ x≤2 ^ Nat.max x y := Nat.pow_le_pow_right (by decide) (Nat.le_max_left x y)
 have e2 : 2 ^ y≤2 ^ Nat.max x y := Nat.pow_le_pow_right (by decide) (Nat.le_max_right x y)
 rw [Nat.pow_succ]
 omega
theorem QW.add {x y : Nat} {a b : Rat} (h1 : QW x a) (h2 : QW y b) : QW (Nat.max x y+1) (a+b) := by
 rw [whole h1.wh,whole h2.wh,← Rat.intCast_add]
 refine QW.of ?_ (by omega)
 have := MJ h1.qs.num h2.qs.num
 omega
theorem QW.sub {x y : Nat} {a b : Rat} (h1 : QW x a) (h2 : QW y b) : QW (Nat.max x y+1) (a - b) := by
 rw [whole h1.wh,whole h2.wh,← Rat.intCast_sub]
 refine QW.of ?_ (by omega)
 have := MJ h1.qs.num h2.qs.num
 omega
theorem QW.mul {x y : Nat} {a b : Rat} (h1 : QW x a) (h2 : QW y b) : QW (x+y) (a*b) := by
 refine ⟨h1.qs.mul h2.qs,?_⟩
 rw [whole h1.wh,whole h2.wh,← Rat.intCast_mul]
 exact Rat.den_intCast _
theorem QW.neg {x : Nat} {a : Rat} (h1 : QW x a) : QW x (-a) := ⟨h1.qs.neg,h1.wh⟩
theorem Hl : ∀ {qs : List Rat} {m : Nat},(∀ q ∈ qs,q.den=1)→qs.foldl (fun m q => m*(q.den / Nat.gcd m q.den)) m=m
 | [],_,_ => rfl
 | q :: qs,m,h => by
  rw [List.foldl_cons,h q List.mem_cons_self,Nat.gcd_one_right,Nat.div_self (by decide),Nat.mul_one]
  exact Hl fun p hp => h p (List.mem_cons_of_mem _ hp)
theorem QW.fac {z : Nat} {qs : List Rat} {x : Rat} (hx : QS z x) (h : x ∈ qs) (hw : ∀ y ∈ qs,y.den=1) : QS (z+1) (x*fac qs) := by
 have hl : lD qs=1 := Hl hw
 refine ⟨?_,?_⟩
 ·rw [DK h,hl,hw x h,Nat.div_self (by decide),Nat.mul_one]
  exact Nat.lt_of_le_of_lt (Nat.div_le_self _ _) (Nat.lt_of_lt_of_le hx.num (Nat.pow_le_pow_right (by decide) (by omega)))
 ·rw [Te h]
  exact Nat.one_lt_two_pow (by omega)
theorem Pe : ∀ n : Nat,10 ^ n≤2 ^ ((10*n+2) / 3)
 | 0 => by decide
 | 1 => by decide
 | 2 => by decide
 | n+3 => by
  have h := Pe n
  have e : (10*(n+3)+2) / 3=(10*n+2) / 3+10 := by omega
  rw [e,Nat.pow_add,Nat.pow_add]
  exact Nat.mul_le_mul h (by decide)
theorem QS.rd3 (l : List UInt8) : QS ((10*l.length+2) / 3+5) (Cx.rd l) := by
 have key : ∀ {m : List UInt8},ZG m=true→dv m < 2 ^ ((10*m.length+2) / 3) := fun {m} h => Nat.lt_of_lt_of_le (Ba (Jm h)) (Pe _)
 unfold Cx.rd
 split
 ·rename_i h
  rw [Bool.and_eq_true] at h
  have h1 := key h.1
  have h2 := key h.2
  have h3 := Lr (Qs l)
  have h4 := El (Qs l)
  have h5 := Bp l
  apply QS.mkr
  ·rw [Yw]; exact Nat.lt_of_lt_of_le h1 (Nat.pow_le_pow_right (by decide) (by omega))
  ·exact Nat.lt_of_lt_of_le h2 (Nat.pow_le_pow_right (by decide) (by omega))
 ·exact QS.zero.mono (by omega)
section
variable {N : List Nd} {Z : List Nat} {I : List Bool} {q : Nat→Rat}
theorem Pk {σ : Nat→ByteArray} (hσ : ∀ j,(σ j).size≤1048576) (hw : wfB 0 N=true) (hz : szC Z I N Z I=true) (hq : ∀ (a : Nat) nd,N[a]? = some nd→q a=Jj σ q nd) (h0 : ∀ a,N.length≤a→q a=0) : (∀ (a : Nat) z,Z[a]? = some z→QS z (q a))∧∀ a,QS 1000000000000 (q a) := by
 have h2 : ∀ (a : Nat) z,Z[a]? = some z→QS z (q a)∧(I[a]? = some true→(q a).den=1) := by
  intro a
  induction a using Nat.strongRecOn with
  | ind a ih =>
   intro z hz'
   obtain ⟨nd,b,hn,hb,hs,_⟩ := Pv hz hz'
   have hwf := Tb hw hn
   rw [Nat.zero_add] at hwf
   rw [hq a nd hn,hb]
   obtain ⟨op,xs⟩ := nd
   unfold szW at hs
   unfold Jj
   unfold wfN at hwf
   dsimp only at hs hwf ⊢
   have W : ∀ {c x},c < a→Z[c]? = some x→I[c]? = some true→QW x (q c) := fun hc hx hi => ⟨(ih _ hc _ hx).1,(ih _ hc _ hx).2 hi⟩
   have no : ∀ {v : Rat},b=false→(some b=some true→v.den=1) := fun e h => by rw [e] at h; cases h
   split at hs
   ·rename_i s n d
    simp only [Bool.and_eq_true] at hs
    obtain ⟨⟨h1,h2,h3⟩,h4⟩ := hs
    refine ⟨QS.const (by simpa [Nat.blt_eq] using h1) (by simpa [Nat.blt_eq] using h2) (by simpa [Nat.blt_eq] using h3),fun e => ?_⟩
    rw [show b=true from Option.some.inj e] at h4
    have hd : d=1 := by simpa using h4
    subst hd
    show (if s=0 then mkRat (n : Int) 1 else mkRat (-(n : Int)) 1).den=1
    split
    ·rw [Rat.mkRat_one]
     exact Rat.den_intCast _
    ·rw [Rat.mkRat_one]
     exact Rat.den_intCast _
   ·rename_i j
    simp only [Bool.and_eq_true,Nat.ble_eq,Bool.not_eq_true'] at hs
    exact ⟨QS.mono (QS.rd3 _) (by have := hσ j; rw [QN]; omega),no hs.2⟩
   ·simp only [List.all_cons,List.all_nil,Bool.and_true,Bool.and_eq_true] at hwf
    have l1 := (by simpa [Nat.blt_eq] using hwf.1 : _ < a)
    have l2 := (by simpa [Nat.blt_eq] using hwf.2 : _ < a)
    split at hs
    ·rename_i x y hx hy i1 i2
     rw [Nat.ble_eq] at hs
     have := ((W l1 hx i1).add (W l2 hy i2)).mono hs
     exact ⟨this.qs,fun _ => this.wh⟩
    ·rename_i x y hx hy _
     simp only [Bool.and_eq_true,Nat.ble_eq,Bool.not_eq_true'] at hs
     exact ⟨((ih _ l1 x hx).1.add (ih _ l2 y hy).1).mono hs.1,no hs.2⟩
    ·cases hs
   ·simp only [List.all_cons,List.all_nil,Bool.and_true,Bool.and_eq_true] at hwf
    have l1 := (by simpa [Nat.blt_eq] using hwf.1 : _ < a)
    have l2 := (by simpa [Nat.blt_eq] using hwf.2 : _ < a)
    split at hs
    ·rename_i x y hx hy i1 i2
     rw [Nat.ble_eq] at hs
     have := ((W l1 hx i1).sub (W l2 hy i2)).mono hs
     exact ⟨this.qs,fun _ => this.wh⟩
    ·rename_i x y hx hy _
     simp only [Bool.and_eq_true,Nat.ble_eq,Bool.not_eq_true'] at hs
     exact ⟨((ih _ l1 x hx).1.sub (ih _ l2 y hy).1).mono hs.1,no hs.2⟩
    ·cases hs
   ·simp only [List.all_cons,List.all_nil,Bool.and_true,Bool.and_eq_true] at hwf
    have l1 := (by simpa [Nat.blt_eq] using hwf.1 : _ < a)
    have l2 := (by simpa [Nat.blt_eq] using hwf.2 : _ < a)
    split at hs
    ·rename_i x y hx hy i1 i2
     rw [Nat.ble_eq] at hs
     have := ((W l1 hx i1).mul (W l2 hy i2)).mono hs
     exact ⟨this.qs,fun _ => this.wh⟩
    ·rename_i x y hx hy _
     simp only [Bool.and_eq_true,Nat.ble_eq,Bool.not_eq_true'] at hs
     exact ⟨((ih _ l1 x hx).1.mul (ih _ l2 y hy).1).mono hs.1,no hs.2⟩
    ·cases hs
   ·simp only [List.all_cons,List.all_nil,Bool.and_true] at hwf
    have l1 := (by simpa [Nat.blt_eq] using hwf : _ < a)
    split at hs
    ·rename_i x hx i1
     rw [Nat.ble_eq] at hs
     have := (W l1 hx i1).neg.mono hs
     exact ⟨this.qs,fun _ => this.wh⟩
    ·rename_i x hx _
     simp only [Bool.and_eq_true,Nat.ble_eq,Bool.not_eq_true'] at hs
     exact ⟨((ih _ l1 x hx).1.neg).mono hs.1,no hs.2⟩
    ·cases hs
   ·simp only [List.all_cons,List.all_nil,Bool.and_true,Bool.and_eq_true] at hwf
    split at hs
    ·rename_i x y hx hy
     simp only [Bool.and_eq_true,Nat.ble_eq,Bool.not_eq_true'] at hs
     exact ⟨((ih _ (by simpa [Nat.blt_eq] using hwf.1) x hx).1.div (ih _ (by simpa [Nat.blt_eq] using hwf.2) y hy).1).mono hs.1,no hs.2⟩
    ·cases hs
   ·rename_i i ys
    split at hs
    ·rename_i zs hzs
     rw [Bool.and_eq_true] at hs
     have hi : i < ys.length := by simpa [Nat.blt_eq] using hs.1
     have hwf' : ys.all (Nat.blt · a)=true := hwf
     rw [List.all_eq_true] at hwf'
     have hlt : ∀ c ∈ ys,c < a := fun c hc => by simpa [Nat.blt_eq] using hwf' c hc
     have hm : q ys[i] ∈ ys.map q := List.mem_map_of_mem (List.getElem_mem hi)
     have hg : (ys.map q).getD i 0=q ys[i] := by
      rw [List.getD_eq_getElem?_getD,List.getElem?_map,List.getElem?_eq_getElem hi]
      rfl
     show QS z ((ys.map q).getD i 0*fac (ys.map q))∧(some b=some true→((ys.map q).getD i 0*fac (ys.map q)).den=1)
     rw [hg]
     refine ⟨?_,fun _ => Te hm⟩
     rcases Bool.or_eq_true _ _ ▸ hs.2 with h3 | h3
     ·rw [Nat.ble_eq] at h3
      have hall : ∀ y ∈ ys.map q,QS (Cs zs) y := fun y hy => by
       obtain ⟨c,hc,rfl⟩ := List.mem_map.1 hy
       obtain ⟨z',hm',hz2⟩ := Wa hzs c hc
       exact (ih c (hlt c hc) z' hz2).1.mono (Em z' hm')
      have := QS.facN hall (x := q ys[i]) hm
      rw [List.length_map] at this
      exact this.mono h3
     ·rw [Bool.and_eq_true,List.all_eq_true] at h3
      obtain ⟨h4,h5⟩ := h3
      have hwh : ∀ y ∈ ys.map q,y.den=1 := fun y hy => by
       obtain ⟨c,hc,rfl⟩ := List.mem_map.1 hy
       obtain ⟨z',_,hz2⟩ := Wa hzs c hc
       refine (ih c (hlt c hc) z' hz2).2 ?_
       have := h4 c hc
       split at this
       ·assumption
       ·cases this
      rw [List.getElem?_eq_getElem hi] at h5
      dsimp only at h5
      split at h5
      ·rename_i x hx
       rw [Nat.ble_eq] at h5
       exact (QW.fac (ih _ (hlt _ (List.getElem_mem hi)) x hx).1 hm hwh).mono h5
      ·cases h5
    ·cases hs
   ·cases hs
 refine ⟨fun a z h => (h2 a z h).1,fun a => ?_⟩
 have hl := Et hz
 by_cases ha : a < Z.length
 ·obtain ⟨nd,b,_,_,_,hle⟩ := Pv hz (List.getElem?_eq_getElem ha)
  exact (h2 a _ (List.getElem?_eq_getElem ha)).1.mono hle
 ·rw [h0 a (by omega)]
  exact QS.zero.mono (by decide)
theorem KK {L C : List (List Nat × Nat)} {σ : Nat→ByteArray} {H : List (Nat × Nat × Nat × Nat)} (hσ : ∀ j,(σ j).size≤1048576) (hw : wfB 0 N=true) (hz : szC Z I N Z I=true) (hl : FV N L=true) (hcn : Sh N C=true) (hq : ∀ (a : Nat) nd,N[a]? = some nd→q a=Jj σ q nd) (h0 : ∀ a,N.length≤a→q a=0) (hH : XM q H) : Hy N H L C Z q σ where
 nat := hq
 qs := (Pk hσ hw hz hq h0).2
 zs := (Pk hσ hw hz hq h0).1
 par := hσ
 lit := fun s b h => NC hl hq h
 k0 := fun a r h => XU hH h
 k1 := fun a r h => XU hH h
 k2 := fun a r h => XU hH h
 k3 := fun a b r h => XU hH h
 k4 := fun l a b r h1 h2 => by
  have h3 : Nat.beq 1 r=true ↔ q a=q b := XU hH h2
  rw [h3,← LK hcn hq h1]
  exact ⟨fun e => by rw [e],fun e => IR (Vq e)⟩
 k6 := fun a b r h => XU hH h
 k5 := fun a r h => XU hH h
end
end Go.Proofs.YtcjmbkcodigpdaaGreatDoor
/- CFturned -/
namespace Go.Proofs.YtcjmbkcodigpdaaGreatDoor
open Go.RowKit Cx
theorem Zw : Closed 19 :=
 UC (N := [(0,[0,0,1]),(0,[0,1,1]),(0,[0,2,1]),(3,[2,0]),(3,[0,0]),(4,[3,3]),(4,[4,4]),(2,[5,6]),(6,[1,7]),(4,[3,8]),(4,[4,8]),(2,[0,9]),(2,[0,10]),(0,[1,2,1]),(4,[1,1]),(4,[0,0]),(2,[14,15]),(0,[0,4,1]),(4,[17,0]),(4,[18,13]),(3,[16,19]),(5,[0]),(2,[6,6]),(3,[22,1]),(5,[23]),(5,[21]),(5,[24]),(5,[1]),(4,[21,0]),(4,[25,0]),(4,[28,2]),(4,[29,2]),(4,[27,1]),(4,[21,25]),(2,[32,33]),(4,[27,21]),(4,[25,1]),(3,[35,36]),(2,[0,30]),(2,[0,31]),(2,[38,34]),(2,[39,37]),(5,[25]),(5,[42]),(4,[40,21]),(4,[41,43]),(2,[44,45]),(5,[41]),(4,[40,42]),(4,[47,21]),(3,[48,49]),(4,[21,1]),(4,[25,42]),(2,[51,52]),(4,[42,1]),(3,[33,54]),(4,[27,13]),(4,[21,13]),(4,[56,2]),(4,[57,2]),(2,[0,53]),(2,[0,55]),(2,[60,58]),(2,[61,59]),(4,[62,27]),(4,[63,42]),(2,[64,65]),(5,[63]),(4,[62,25]),(4,[67,27]),(3,[68,69]),(2,[46,66]),(2,[50,70]),(4,[26,0]),(4,[73,2]),(4,[0,1]),(4,[0,25]),(2,[75,76]),(4,[0,21]),(3,[78,51]),(2,[0,74]),(2,[80,77]),(2,[38,79]),(4,[81,21]),(4,[82,43]),(2,[83,84]),(5,[82]),(4,[81,42]),(4,[86,21]),(3,[87,88]),(4,[26,1]),(4,[21,42]),(2,[90,91]),(4,[26,25]),(3,[93,36]),(4,[0,13]),(4,[95,2]),(2,[0,92]),(2,[0,94]),(2,[97,96]),(2,[98,96]),(4,[99,27]),(4,[100,42]),(2,[101,102]),(5,[100]),(4,[99,25]),(4,[104,27]),(3,[105,106]),(2,[85,103]),(2,[89,107]),(4,[108,2]),(4,[109,2]),(4,[81,26]),(4,[82,42]),(2,[112,113]),(4,[81,25]),(4,[86,26]),(3,[115,116]),(4,[99,0]),(4,[100,25]),(2,[118,119]),(4,[99,21]),(4,[104,0]),(3,[121,122]),(2,[114,120]),(2,[117,123]),(8,[0,71,110,111,124]),(8,[1,71,110,111,124]),(8,[2,71,110,111,124]),(8,[3,71,110,111,124]),(3,[1,0]),(3,[0,1]),(4,[130,0]),(4,[131,21]),(2,[132,133]),(5,[131]),(4,[135,0]),(3,[132,136]),(5,[134]),(5,[137]),(4,[4,27]),(2,[132,140]),(5,[4]),(4,[130,1]),(4,[142,0]),(3,[143,144]),(5,[141]),(5,[145]),(5,[138]),(5,[139]),(5,[130]),(4,[146,130]),(4,[147,135]),(2,[151,152]),(5,[147]),(4,[146,131]),(4,[154,130]),(3,[155,156]),(4,[148,130]),(4,[149,142]),(2,[158,159]),(5,[149]),(4,[148,4]),(4,[161,130]),(3,[162,163]),(2,[153,160]),(2,[157,164]),(4,[146,138]),(4,[147,149]),(2,[167,168]),(4,[146,139]),(4,[154,138]),(3,[170,171]),(4,[148,146]),(4,[149,154]),(2,[173,174]),(4,[148,147]),(4,[161,146]),(3,[176,177]),(2,[169,175]),(2,[172,178]),(4,[150,130]),(4,[142,135]),(2,[181,182]),(5,[142]),(4,[150,131]),(4,[184,130]),(3,[185,186]),(4,[130,130]),(4,[131,142]),(2,[188,189]),(4,[130,4]),(4,[135,130]),(3,[191,192]),(2,[183,190]),(2,[187,193]),(4,[150,138]),(4,[142,149]),(2,[196,197]),(4,[150,139]),(4,[184,138]),(3,[199,200]),(4,[130,146]),(4,[131,154]),(2,[202,203]),(4,[130,147]),(4,[135,146]),(3,[205,206]),(2,[198,204]),(2,[201,207]),(5,[166]),(5,[210]),(4,[165,165]),(4,[166,211]),(2,[212,213]),(4,[165,210]),(4,[210,165]),(3,[215,216]),(4,[166,166]),(2,[212,218]),(6,[214,219]),(6,[217,219]),(4,[179,165]),(4,[180,211]),(2,[222,223]),(5,[180]),(4,[179,210]),(4,[225,165]),(3,[226,227]),(6,[224,219]),(6,[228,219]),(4,[194,165]),(4,[195,211]),(2,[231,232]),(5,[195]),(4,[194,210]),(4,[234,165]),(3,[235,236]),(6,[233,219]),(6,[237,219]),(4,[208,165]),(4,[209,211]),(2,[240,241]),(5,[209]),(4,[208,210]),(4,[243,165]),(3,[244,245]),(6,[242,219]),(6,[246,219]),(0,[0,1,2]),(0,[1,1,1])]) (H := [(2,1,0,1),(0,3,0,0),(2,20,0,1),(0,130,0,0),(0,4,0,1),(0,131,0,0),(0,165,0,0),(4,11,249,1),(4,12,0,1),(4,126,2,1),(4,127,250,1),(4,128,0,1),(4,129,0,1),(4,220,1,1),(4,221,0,1),(4,229,0,1),(4,230,0,1),(4,238,0,1),(4,239,0,1),(4,247,1,1),(4,248,0,1)]) (K := [(123,[.inr (3,76,0,0,0),.inr (3,86,0,0,0)]),(189,[.inr (3,560,0,0,0),.inr (3,561,0,0,0)]),(190,[.inr (3,691,0,0,0),.inr (3,693,0,0,0)])]) (L := [([48],0),([49],1),([50],2),([45,50],13),([49,47,50],249),([45,49],250)]) (C := [([49,47,50],249),([48],0),([50],2),([45,49],250),([49],1)]) (Z := [2,2,3,6,5,12,10,23,25,31,30,34,33,3,4,4,9,4,6,9,19,2,21,24,24,2,24,2,4,4,7,7,4,4,9,4,4,9,10,10,20,20,2,2,22,22,45,20,22,22,45,4,4,9,4,9,5,5,8,8,12,12,21,21,23,23,47,21,23,23,47,93,93,26,29,4,4,9,4,9,32,42,20,44,22,67,20,44,22,67,26,4,31,26,31,5,8,34,34,43,43,45,45,91,43,45,45,91,159,159,162,162,66,22,89,44,44,89,45,45,91,45,45,91,181,181,906,906,906,906,5,5,7,7,15,5,7,15,15,15,7,15,5,7,7,15,15,15,15,15,5,20,20,41,15,20,20,41,20,20,41,15,20,20,41,83,83,30,30,61,30,30,61,30,30,61,30,30,61,123,123,10,10,21,5,10,10,21,10,10,21,10,10,21,43,43,20,20,41,20,20,41,20,20,41,20,20,41,83,83,83,83,166,166,333,166,166,333,166,333,666,666,206,206,413,123,206,206,413,746,746,126,126,253,43,126,126,253,586,586,166,166,333,83,166,166,333,666,666,3,2]) (cl := []) 8 (fun _ h => by cases h) (by kernel_rfl) (by kernel_rfl) (by kernel_rfl) (by kernel_rfl) (by kernel_rfl) (by kernel_rfl) (by kernel_rfl)
end Go.Proofs.YtcjmbkcodigpdaaGreatDoor
/- MTYRA -/
namespace Go.Proofs.YtcjmbkcodigpdaaGreatDoor
open Go.RowKit Cx
def tY_N : List Nd := [(1,[0]),(1,[1]),(1,[2]),(1,[3]),(1,[4]),(1,[5]),(1,[6]),(1,[7]),(5,[7]),(4,[0,6]),(4,[1,8]),(2,[9,10]),(5,[1]),(4,[0,7]),(4,[12,6]),(3,[13,14]),(5,[5]),(4,[2,4]),(4,[3,16]),(2,[17,18]),(5,[3]),(4,[2,5]),(4,[20,4]),(3,[21,22]),(3,[11,19]),(3,[15,23]),(4,[24,24]),(4,[25,25]),(2,[26,27]),(4,[1,7]),(3,[9,29]),(4,[1,6]),(2,[13,31]),(4,[3,5]),(3,[17,33]),(4,[3,4]),(2,[21,35]),(3,[30,34]),(3,[32,36]),(4,[37,37]),(4,[38,38]),(2,[39,40]),(1,[8]),(1,[9]),(1,[10]),(1,[11]),(4,[43,43]),(4,[44,44]),(2,[46,47]),(0,[0,4,1]),(4,[49,42]),(4,[50,45]),(3,[48,51]),(5,[2]),(5,[4]),(0,[0,2,1]),(4,[6,42]),(4,[7,42]),(4,[56,55]),(4,[57,55]),(5,[44]),(4,[54,43]),(4,[16,60]),(2,[61,62]),(5,[16]),(4,[54,44]),(4,[64,43]),(3,[65,66]),(0,[0,0,1]),(2,[68,58]),(2,[68,59]),(2,[69,63]),(2,[70,67]),(5,[8]),(4,[71,6]),(4,[72,73]),(2,[74,75]),(5,[72]),(4,[71,8]),(4,[77,6]),(3,[78,79]),(5,[60]),(4,[6,43]),(4,[7,81]),(2,[82,83]),(4,[6,60]),(4,[8,43]),(3,[85,86]),(4,[54,45]),(4,[16,45]),(4,[88,55]),(4,[89,55]),(2,[68,84]),(2,[68,87]),(2,[92,90]),(2,[93,91]),(5,[64]),(4,[94,54]),(4,[95,96]),(2,[97,98]),(5,[95]),(4,[94,64]),(4,[100,54]),(3,[101,102]),(2,[76,99]),(2,[80,103]),(4,[53,42]),(4,[20,42]),(4,[106,55]),(4,[107,55]),(4,[0,43]),(4,[1,60]),(2,[110,111]),(4,[0,44]),(4,[12,43]),(3,[113,114]),(2,[68,108]),(2,[68,109]),(2,[116,112]),(2,[117,115]),(4,[118,6]),(4,[119,73]),(2,[120,121]),(5,[119]),(4,[118,8]),(4,[123,6]),(3,[124,125]),(4,[53,43]),(4,[20,81]),(2,[127,128]),(5,[20]),(4,[53,60]),(4,[130,43]),(3,[131,132]),(4,[0,45]),(4,[1,45]),(4,[134,55]),(4,[135,55]),(2,[68,129]),(2,[68,133]),(2,[138,136]),(2,[139,137]),(4,[140,54]),(4,[141,96]),(2,[142,143]),(5,[141]),(4,[140,64]),(4,[145,54]),(3,[146,147]),(2,[122,144]),(2,[126,148]),(4,[149,55]),(4,[150,55]),(5,[130]),(4,[118,53]),(4,[119,153]),(2,[154,155]),(4,[118,130]),(4,[123,53]),(3,[157,158]),(5,[12]),(4,[140,0]),(4,[141,160]),(2,[161,162]),(4,[140,12]),(4,[145,0]),(3,[164,165]),(2,[156,163]),(2,[159,166]),(8,[0,104,151,152,167]),(8,[1,104,151,152,167]),(8,[2,104,151,152,167]),(8,[3,104,151,152,167]),(4,[42,42]),(2,[173,46]),(2,[174,47]),(4,[104,104]),(4,[151,151]),(2,[176,177]),(4,[152,152]),(2,[178,179]),(4,[167,167]),(2,[180,181]),(4,[169,169]),(4,[170,170]),(2,[183,184]),(4,[171,171]),(2,[185,186]),(2,[184,186]),(4,[49,169]),(4,[189,172]),(3,[188,190]),(4,[4,68]),(4,[5,68]),(3,[192,193]),(2,[192,193]),(2,[194,6]),(2,[195,7]),(4,[196,196]),(4,[197,197]),(2,[198,199]),(4,[5,55]),(3,[192,201]),(4,[4,55]),(2,[203,193]),(2,[202,6]),(2,[204,7]),(4,[205,205]),(4,[206,206]),(2,[207,208]),(4,[0,68]),(4,[1,55]),(3,[210,211]),(4,[0,55]),(4,[1,68]),(2,[213,214]),(2,[212,2]),(2,[215,3]),(5,[206]),(4,[216,205]),(4,[217,218]),(3,[219,220]),(4,[216,218]),(4,[217,205]),(2,[222,223]),(0,[0,1,1]),(6,[225,209]),(4,[221,226]),(4,[224,226]),(4,[227,227]),(4,[228,228]),(2,[229,230]),(4,[169,231]),(4,[170,227]),(4,[171,228]),(2,[232,233]),(2,[235,234]),(2,[236,172]),(4,[237,209]),(4,[68,68]),(4,[55,55]),(2,[239,240]),(4,[42,241]),(4,[43,68]),(4,[44,55]),(2,[242,243]),(2,[245,244]),(2,[246,45]),(4,[5,49]),(3,[192,248]),(4,[4,49]),(2,[250,193]),(2,[249,6]),(2,[251,7]),(4,[252,252]),(4,[253,253]),(2,[254,255]),(4,[1,49]),(3,[210,257]),(4,[0,49]),(2,[259,214]),(2,[258,2]),(2,[260,3]),(5,[253]),(4,[261,252]),(4,[262,263]),(3,[264,265]),(4,[261,263]),(4,[262,252]),(2,[267,268]),(6,[225,256]),(4,[266,270]),(4,[269,270]),(4,[271,271]),(4,[272,272]),(2,[273,274]),(4,[169,275]),(4,[170,271]),(4,[171,272]),(2,[276,277]),(2,[279,278]),(2,[280,172]),(4,[281,256]),(4,[49,49]),(2,[239,283]),(4,[42,284]),(4,[44,49]),(2,[285,243]),(2,[287,286]),(2,[288,45]),(4,[4,225]),(3,[290,193]),(4,[5,225]),(2,[192,292]),(2,[291,6]),(2,[293,7]),(4,[294,294]),(4,[295,295]),(2,[296,297]),(4,[0,225]),(3,[299,214]),(4,[1,225]),(2,[210,301]),(2,[300,2]),(2,[302,3]),(5,[295]),(4,[303,294]),(4,[304,305]),(3,[306,307]),(4,[303,305]),(4,[304,294]),(2,[309,310]),(6,[225,298]),(4,[308,312]),(4,[311,312]),(4,[313,313]),(4,[314,314]),(2,[315,316]),(4,[169,317]),(4,[170,313]),(4,[171,314]),(2,[318,319]),(2,[321,320]),(2,[322,172]),(4,[323,298]),(4,[225,225]),(2,[325,239]),(4,[42,326]),(4,[43,225]),(4,[44,68]),(2,[327,328]),(2,[330,329]),(2,[331,45]),(3,[290,201]),(2,[203,292]),(2,[333,6]),(2,[334,7]),(4,[335,335]),(4,[336,336]),(2,[337,338]),(3,[299,211]),(2,[213,301]),(2,[340,2]),(2,[341,3]),(5,[336]),(4,[342,335]),(4,[343,344]),(3,[345,346]),(4,[342,344]),(4,[343,335]),(2,[348,349]),(6,[225,339]),(4,[347,351]),(4,[350,351]),(4,[352,352]),(4,[353,353]),(2,[354,355]),(4,[169,356]),(4,[170,352]),(4,[171,353]),(2,[357,358]),(2,[360,359]),(2,[361,172]),(4,[362,339]),(2,[325,240]),(4,[42,364]),(2,[365,328]),(2,[366,244]),(2,[367,45]),(3,[290,248]),(2,[250,292]),(2,[369,6]),(2,[370,7]),(4,[371,371]),(4,[372,372]),(2,[373,374]),(3,[299,257]),(2,[259,301]),(2,[376,2]),(2,[377,3]),(5,[372]),(4,[378,371]),(4,[379,380]),(3,[381,382]),(4,[378,380]),(4,[379,371]),(2,[384,385]),(6,[225,375]),(4,[383,387]),(4,[386,387]),(4,[388,388]),(4,[389,389]),(2,[390,391]),(4,[169,392]),(4,[170,388]),(4,[171,389]),(2,[393,394]),(2,[396,395]),(2,[397,172]),(4,[398,375]),(2,[325,283]),(4,[42,400]),(2,[401,328]),(2,[402,286]),(2,[403,45]),(3,[203,193]),(2,[192,201]),(2,[405,6]),(2,[406,7]),(4,[407,407]),(4,[408,408]),(2,[409,410]),(3,[213,214]),(2,[210,211]),(2,[412,2]),(2,[413,3]),(5,[408]),(4,[414,407]),(4,[415,416]),(3,[417,418]),(4,[414,416]),(4,[415,407]),(2,[420,421]),(6,[225,411]),(4,[419,423]),(4,[422,423]),(4,[424,424]),(4,[425,425]),(2,[426,427]),(4,[169,428]),(4,[170,424]),(4,[171,425]),(2,[429,430]),(2,[432,431]),(2,[433,172]),(4,[434,411]),(2,[240,239]),(4,[42,436]),(4,[43,55]),(2,[437,438]),(2,[439,329]),(2,[440,45]),(3,[203,201]),(2,[203,201]),(2,[442,6]),(2,[443,7]),(4,[444,444]),(4,[445,445]),(2,[446,447]),(3,[213,211]),(2,[213,211]),(2,[449,2]),(2,[450,3]),(5,[445]),(4,[451,444]),(4,[452,453]),(3,[454,455]),(4,[451,453]),(4,[452,444]),(2,[457,458]),(6,[225,448]),(4,[456,460]),(4,[459,460]),(4,[461,461]),(4,[462,462]),(2,[463,464]),(4,[169,465]),(4,[170,461]),(4,[171,462]),(2,[466,467]),(2,[469,468]),(2,[470,172]),(4,[471,448]),(2,[240,240]),(4,[42,473]),(2,[474,438]),(2,[475,244]),(2,[476,45]),(3,[203,248]),(2,[250,201]),(2,[478,6]),(2,[479,7]),(4,[480,480]),(4,[481,481]),(2,[482,483]),(3,[213,257]),(2,[259,211]),(2,[485,2]),(2,[486,3]),(5,[481]),(4,[487,480]),(4,[488,489]),(3,[490,491]),(4,[487,489]),(4,[488,480]),(2,[493,494]),(6,[225,484]),(4,[492,496]),(4,[495,496]),(4,[497,497]),(4,[498,498]),(2,[499,500]),(4,[169,501]),(4,[170,497]),(4,[171,498]),(2,[502,503]),(2,[505,504]),(2,[506,172]),(4,[507,484]),(2,[240,283]),(4,[42,509]),(2,[510,438]),(2,[511,286]),(2,[512,45]),(4,[238,238]),(4,[282,282]),(2,[514,515]),(4,[324,324]),(2,[516,517]),(4,[363,363]),(2,[518,519]),(4,[399,399]),(2,[520,521]),(4,[435,435]),(2,[522,523]),(4,[472,472]),(2,[524,525]),(4,[508,508]),(2,[526,527]),(4,[282,247]),(4,[238,289]),(3,[529,530]),(4,[324,247]),(4,[238,332]),(3,[532,533]),(4,[324,289]),(4,[282,332]),(3,[535,536]),(4,[363,247]),(4,[238,368]),(3,[538,539]),(4,[363,289]),(4,[282,368]),(3,[541,542]),(4,[363,332]),(4,[324,368]),(3,[544,545]),(4,[399,247]),(4,[238,404]),(3,[547,548]),(4,[399,289]),(4,[282,404]),(3,[550,551]),(4,[399,332]),(4,[324,404]),(3,[553,554]),(4,[399,368]),(4,[363,404]),(3,[556,557]),(4,[435,247]),(4,[238,441]),(3,[559,560]),(4,[435,289]),(4,[282,441]),(3,[562,563]),(4,[435,332]),(4,[324,441]),(3,[565,566]),(4,[435,368]),(4,[363,441]),(3,[568,569]),(4,[435,404]),(4,[399,441]),(3,[571,572]),(4,[472,247]),(4,[238,477]),(3,[574,575]),(4,[472,289]),(4,[282,477]),(3,[577,578]),(4,[472,332]),(4,[324,477]),(3,[580,581]),(4,[472,368]),(4,[363,477]),(3,[583,584]),(4,[472,404]),(4,[399,477]),(3,[586,587]),(4,[472,441]),(4,[435,477]),(3,[589,590]),(4,[508,247]),(4,[238,513]),(3,[592,593]),(4,[508,289]),(4,[282,513]),(3,[595,596]),(4,[508,332]),(4,[324,513]),(3,[598,599]),(4,[508,368]),(4,[363,513]),(3,[601,602]),(4,[508,404]),(4,[399,513]),(3,[604,605]),(4,[508,441]),(4,[435,513]),(3,[607,608]),(4,[508,477]),(4,[472,513]),(3,[610,611]),(4,[531,531]),(4,[534,534]),(2,[613,614]),(4,[537,537]),(2,[615,616]),(4,[540,540]),(2,[617,618]),(4,[543,543]),(2,[619,620]),(4,[546,546]),(2,[621,622]),(4,[549,549]),(2,[623,624]),(4,[552,552]),(2,[625,626]),(4,[555,555]),(2,[627,628]),(4,[558,558]),(2,[629,630]),(4,[561,561]),(2,[631,632]),(4,[564,564]),(2,[633,634]),(4,[567,567]),(2,[635,636]),(4,[570,570]),(2,[637,638]),(4,[573,573]),(2,[639,640]),(4,[576,576]),(2,[641,642]),(4,[579,579]),(2,[643,644]),(4,[582,582]),(2,[645,646]),(4,[585,585]),(2,[647,648]),(4,[588,588]),(2,[649,650]),(4,[591,591]),(2,[651,652]),(4,[594,594]),(2,[653,654]),(4,[597,597]),(2,[655,656]),(4,[600,600]),(2,[657,658]),(4,[603,603]),(2,[659,660]),(4,[606,606]),(2,[661,662]),(4,[609,609]),(2,[663,664]),(4,[612,612]),(2,[665,666]),(3,[210,214]),(2,[210,214]),(2,[668,2]),(2,[669,3]),(5,[197]),(4,[670,196]),(4,[671,672]),(3,[673,674]),(4,[670,672]),(4,[671,196]),(2,[676,677]),(6,[225,200]),(4,[675,679]),(4,[678,679]),(4,[680,680]),(4,[681,681]),(2,[682,683]),(4,[169,684]),(4,[170,680]),(4,[171,681]),(2,[685,686]),(2,[688,687]),(2,[689,172]),(4,[690,200]),(2,[239,239]),(4,[42,692]),(2,[693,243]),(2,[694,329]),(2,[695,45]),(4,[691,691]),(2,[697,515]),(2,[698,517]),(2,[699,519]),(2,[700,521]),(2,[701,523]),(2,[702,525]),(2,[703,527]),(4,[282,696]),(4,[691,289]),(3,[705,706]),(4,[324,696]),(4,[691,332]),(3,[708,709]),(4,[363,696]),(4,[691,368]),(3,[711,712]),(4,[399,696]),(4,[691,404]),(3,[714,715]),(4,[435,696]),(4,[691,441]),(3,[717,718]),(4,[472,696]),(4,[691,477]),(3,[720,721]),(4,[508,696]),(4,[691,513]),(3,[723,724]),(4,[707,707]),(4,[710,710]),(2,[726,727]),(2,[728,616]),(4,[713,713]),(2,[729,730]),(2,[731,620]),(2,[732,622]),(4,[716,716]),(2,[733,734]),(2,[735,626]),(2,[736,628]),(2,[737,630]),(4,[719,719]),(2,[738,739]),(2,[740,634]),(2,[741,636]),(2,[742,638]),(2,[743,640]),(4,[722,722]),(2,[744,745]),(2,[746,644]),(2,[747,646]),(2,[748,648]),(2,[749,650]),(2,[750,652]),(4,[725,725]),(2,[751,752]),(2,[753,656]),(2,[754,658]),(2,[755,660]),(2,[756,662]),(2,[757,664]),(2,[758,666]),(2,[697,514]),(2,[760,517]),(2,[761,519]),(2,[762,521]),(2,[763,523]),(2,[764,525]),(2,[765,527]),(4,[238,696]),(4,[691,247]),(3,[767,768]),(4,[769,769]),(2,[770,727]),(2,[771,614]),(2,[772,730]),(2,[773,618]),(2,[774,622]),(2,[775,734]),(2,[776,624]),(2,[777,628]),(2,[778,630]),(2,[779,739]),(2,[780,632]),(2,[781,636]),(2,[782,638]),(2,[783,640]),(2,[784,745]),(2,[785,642]),(2,[786,646]),(2,[787,648]),(2,[788,650]),(2,[789,652]),(2,[790,752]),(2,[791,654]),(2,[792,658]),(2,[793,660]),(2,[794,662]),(2,[795,664]),(2,[796,666]),(2,[760,515]),(2,[798,519]),(2,[799,521]),(2,[800,523]),(2,[801,525]),(2,[802,527]),(2,[770,726]),(2,[804,613]),(2,[805,730]),(2,[806,618]),(2,[807,620]),(2,[808,734]),(2,[809,624]),(2,[810,626]),(2,[811,630]),(2,[812,739]),(2,[813,632]),(2,[814,634]),(2,[815,638]),(2,[816,640]),(2,[817,745]),(2,[818,642]),(2,[819,644]),(2,[820,648]),(2,[821,650]),(2,[822,652]),(2,[823,752]),(2,[824,654]),(2,[825,656]),(2,[826,660]),(2,[827,662]),(2,[828,664]),(2,[829,666]),(2,[798,517]),(2,[831,521]),(2,[832,523]),(2,[833,525]),(2,[834,527]),(2,[805,727]),(2,[836,614]),(2,[837,616]),(2,[838,734]),(2,[839,624]),(2,[840,626]),(2,[841,628]),(2,[842,739]),(2,[843,632]),(2,[844,634]),(2,[845,636]),(2,[846,640]),(2,[847,745]),(2,[848,642]),(2,[849,644]),(2,[850,646]),(2,[851,650]),(2,[852,652]),(2,[853,752]),(2,[854,654]),(2,[855,656]),(2,[856,658]),(2,[857,662]),(2,[858,664]),(2,[859,666]),(2,[831,519]),(2,[861,523]),(2,[862,525]),(2,[863,527]),(2,[838,730]),(2,[865,618]),(2,[866,620]),(2,[867,622]),(2,[868,739]),(2,[869,632]),(2,[870,634]),(2,[871,636]),(2,[872,638]),(2,[873,745]),(2,[874,642]),(2,[875,644]),(2,[876,646]),(2,[877,648]),(2,[878,652]),(2,[879,752]),(2,[880,654]),(2,[881,656]),(2,[882,658]),(2,[883,660]),(2,[884,664]),(2,[885,666]),(2,[861,521]),(2,[887,525]),(2,[888,527]),(2,[868,734]),(2,[890,624]),(2,[891,626]),(2,[892,628]),(2,[893,630]),(2,[894,745]),(2,[895,642]),(2,[896,644]),(2,[897,646]),(2,[898,648]),(2,[899,650]),(2,[900,752]),(2,[901,654]),(2,[902,656]),(2,[903,658]),(2,[904,660]),(2,[905,662]),(2,[906,666]),(2,[887,523]),(2,[908,527]),(2,[894,739]),(2,[910,632]),(2,[911,634]),(2,[912,636]),(2,[913,638]),(2,[914,640]),(2,[915,752]),(2,[916,654]),(2,[917,656]),(2,[918,658]),(2,[919,660]),(2,[920,662]),(2,[921,664]),(2,[908,525]),(2,[915,745]),(2,[924,642]),(2,[925,644]),(2,[926,646]),(2,[927,648]),(2,[928,650]),(2,[929,652]),(2,[923,527]),(2,[930,752]),(2,[932,654]),(2,[933,656]),(2,[934,658]),(2,[935,660]),(2,[936,662]),(2,[937,664]),(2,[938,666])]
def Xe : List (List Nat × Nat) := []
def Xb : List (List Nat × Nat) := []
def Xa : List Nat := [3495259,3495259,3495259,3495259,3495259,3495259,3495259,3495259,3495259,6990518,6990518,13981037,3495259,6990518,6990518,13981037,3495259,6990518,6990518,13981037,3495259,6990518,6990518,13981037,27962075,27962075,55924150,55924150,111848301,6990518,13981037,6990518,13981037,6990518,13981037,6990518,13981037,27962075,27962075,55924150,55924150,111848301,3495259,3495259,3495259,3495259,6990518,6990518,13981037,4,3495263,6990522,20971560,3495259,3495259,3,6990518,6990518,6990521,6990521,3495259,6990518,6990518,13981037,3495259,6990518,6990518,13981037,2,6990524,6990524,20971562,20971562,3495259,24466821,24466821,48933643,20971562,24466821,24466821,48933643,3495259,6990518,6990518,13981037,6990518,6990518,13981037,6990518,6990518,6990521,6990521,13981040,13981040,20971562,20971562,3495259,24466821,24466821,48933643,20971562,24466821,24466821,48933643,97867287,97867287,6990518,6990518,6990521,6990521,6990518,6990518,13981037,6990518,6990518,13981037,6990524,6990524,20971562,20971562,24466821,24466821,48933643,20971562,24466821,24466821,48933643,6990518,6990518,13981037,3495259,6990518,6990518,13981037,6990518,6990518,6990521,6990521,13981040,13981040,20971562,20971562,24466821,24466821,48933643,20971562,24466821,24466821,48933643,97867287,97867287,97867290,97867290,3495259,24466821,24466821,48933643,24466821,24466821,48933643,3495259,24466821,24466821,48933643,24466821,24466821,48933643,97867287,97867287,489336451,489336451,489336451,489336451,6990518,13981037,20971556,195734574,195734580,391469155,195734580,587203736,195734574,782938311,978672902,978672902,978672903,978672902,978672904,978672903,489336455,978672906,978672907,3495261,3495261,6990523,6990523,10485783,10485783,20971566,20971566,41943133,3495262,6990524,3495262,6990524,10485784,10485784,20971568,20971568,41943137,3495261,3495262,6990524,3495262,3495261,6990524,10485784,10485784,10485784,20971568,20971568,41943137,20971568,20971568,41943137,2,41943139,83886276,83886276,167772552,167772552,335545105,824881556,573222727,573222727,1398104284,1971327012,2460663464,2502606601,4,6,7,3495266,3495261,3495262,6990528,10485791,13981051,3495263,6990525,3495263,6990525,10485785,10485785,20971570,20971570,41943141,3495263,6990525,3495263,6990525,10485785,10485785,10485785,20971570,20971570,41943141,20971570,20971570,41943141,41943143,83886284,83886284,167772568,167772568,335545137,824881588,573222735,573222735,1398104324,1971327060,2460663512,2502606653,8,9,3495268,3495263,6990530,10485794,13981054,3495261,6990523,3495261,6990523,10485783,10485783,20971566,20971566,41943133,3495261,6990523,3495261,6990523,10485783,10485783,10485783,20971566,20971566,41943133,20971566,20971566,41943133,41943135,83886268,83886268,167772536,167772536,335545073,824881524,573222719,573222719,1398104244,1971326964,2460663416,2502606549,4,5,3495264,3495261,3495261,6990526,10485788,13981048,6990524,6990524,10485784,10485784,20971568,20971568,41943137,6990524,6990524,10485784,10485784,10485784,20971568,20971568,41943137,20971568,20971568,41943137,41943139,83886276,83886276,167772552,167772552,335545105,824881556,573222727,573222727,1398104284,1971327012,2460663464,2502606601,7,3495266,6990528,10485791,13981051,6990525,6990525,10485785,10485785,20971570,20971570,41943141,6990525,6990525,10485785,10485785,10485785,20971570,20971570,41943141,20971570,20971570,41943141,41943143,83886284,83886284,167772568,167772568,335545137,824881588,573222735,573222735,1398104324,1971327060,2460663512,2502606653,9,3495268,6990530,10485794,13981054,6990524,6990524,10485784,10485784,20971568,20971568,41943137,6990524,6990524,10485784,10485784,10485784,20971568,20971568,41943137,20971568,20971568,41943137,41943139,83886276,83886276,167772552,167772552,335545105,824881556,573222727,573222727,1398104284,1971327012,2460663464,2502606601,7,3495266,3495262,6990529,10485791,13981051,6990525,6990525,10485785,10485785,20971570,20971570,41943141,6990525,6990525,10485785,10485785,10485785,20971570,20971570,41943141,20971570,20971570,41943141,41943143,83886284,83886284,167772568,167772568,335545137,824881588,573222735,573222735,1398104324,1971327060,2460663512,2502606653,7,3495266,6990529,10485792,13981052,6990526,6990526,10485786,10485786,20971572,20971572,41943145,6990526,6990526,10485786,10485786,10485786,20971572,20971572,41943145,20971572,20971572,41943145,41943147,83886292,83886292,167772584,167772584,335545169,824881620,573222743,573222743,1398104364,1971327108,2460663560,2502606705,9,3495268,6990531,10485795,13981055,5005213202,5005213306,10010426509,5005213098,15015639608,5005213202,20020852811,5005213306,25026066118,5005213202,30031279321,5005213306,35036492628,5005213410,40041706039,2516587704,2516587655,5033175360,2516587600,2516587649,5033175250,2516587603,2516587701,5033175305,2516587652,2516587652,5033175305,2516587655,2516587704,5033175360,2516587649,2516587600,5033175250,2516587704,2516587655,5033175360,2516587707,2516587707,5033175415,2516587701,2516587603,5033175305,2516587704,2516587655,5033175360,2516587652,2516587652,5033175305,2516587655,2516587704,5033175360,2516587649,2516587600,5033175250,2516587652,2516587652,5033175305,2516587655,2516587704,5033175360,2516587704,2516587653,5033175358,2516587707,2516587705,5033175413,2516587701,2516587601,5033175303,2516587704,2516587653,5033175358,2516587707,2516587705,5033175413,2516587704,2516587653,5033175358,2516587756,2516587656,5033175413,2516587759,2516587708,5033175468,2516587753,2516587604,5033175358,2516587756,2516587656,5033175413,2516587759,2516587708,5033175468,2516587756,2516587656,5033175413,2516587757,2516587708,5033175466,10066350720,10066350500,20132701221,10066350610,30199051832,10066350610,40265402443,10066350720,50331753164,10066350500,60398103665,10066350720,70464454386,10066350830,80530805217,10066350610,90597155828,10066350720,100663506549,10066350610,110729857160,10066350720,120796207881,10066350500,130862558382,10066350610,140928908993,10066350720,150995259714,10066350716,161061610431,10066350826,171127961258,10066350606,181194311865,10066350716,191260662582,10066350826,201327013409,10066350716,211393364126,10066350826,221459714953,10066350936,231526065890,10066350716,241592416607,10066350826,251658767434,10066350936,261725118371,10066350826,271791469198,10066350932,281857820131,6990523,6990523,10485783,10485783,10485783,20971566,20971566,41943133,20971566,20971566,41943133,41943135,83886268,83886268,167772536,167772536,335545073,824881524,573222719,573222719,1398104244,1971326964,2460663416,2502606549,5,3495264,6990526,10485788,13981048,5005213098,10010426405,15015639504,20020852707,25026066014,30031279217,35036492524,40041705935,2516587701,2516587603,5033175305,2516587597,2516587597,5033175195,2516587649,2516587600,5033175250,2516587701,2516587603,5033175305,2516587649,2516587600,5033175250,2516587701,2516587601,5033175303,2516587753,2516587604,5033175358,10066350610,10066350390,20132701001,30199051612,10066350500,40265402113,50331752834,60398103335,10066350610,70464453946,80530804777,90597155388,100663506109,10066350500,110729856610,120796207331,130862557832,140928908443,150995259164,10066350606,161061609771,171127960598,181194311205,191260661922,201327012749,211393363466,10066350716,221459714183,231526065120,241592415837,251658766664,261725117601,271791468428,281857819361,10010426301,15015639400,20020852603,25026065910,30031279113,35036492420,40041705831,2516587649,2516587600,5033175250,10066350500,20132700891,30199051392,40265401893,50331752504,60398103005,70464453616,80530804337,90597154948,100663505669,110729856170,120796206781,130862557282,140928907893,150995258614,161061609221,171127959938,181194310545,191260661262,201327012089,211393362806,221459713523,231526064350,241592415067,251658765894,261725116831,271791467658,281857818591,15015639608,20020852811,25026066118,30031279321,35036492628,40041706039,20132701111,30199051832,40265402333,50331752944,60398103665,70464454276,80530804997,90597155828,100663506549,110729857050,120796207661,130862558382,140928908993,150995259714,161061610321,171127961038,181194311865,191260662582,201327013409,211393364126,221459714843,231526065670,241592416607,251658767434,261725118371,271791469198,281857820131,20020852707,25026066014,30031279217,35036492524,40041705935,40265402223,50331752724,60398103335,70464453946,80530804667,90597155498,100663506109,110729856610,120796207221,130862557942,140928908443,150995259164,161061609771,171127960488,181194311315,191260661922,201327012749,211393363466,221459714183,231526065010,241592415947,251658766664,261725117601,271791468428,281857819361,25026065910,30031279113,35036492420,40041705831,70464453836,80530804447,90597155168,100663505669,110729856170,120796206781,130862557502,140928908003,150995258614,161061609221,171127959938,181194310765,191260661372,201327012089,211393362806,221459713523,231526064350,241592415287,251658766004,261725116831,271791467658,281857818591,30031279217,35036492524,40041705935,110729856280,120796207001,130862557832,140928908443,150995259164,161061609771,171127960488,181194311315,191260661922,201327012639,211393363466,221459714183,231526065010,241592415947,251658766664,261725117491,271791468428,281857819361,35036492420,40041705831,161061609665,171127960276,181194310997,191260661498,201327012109,211393362830,221459713547,231526064374,241592415311,251658766028,261725116855,271791467792,281857818619,40041705727,221459713437,231526064154,241592414981,251658765588,261725116305,271791467132,281857817849,45046919138,291924168566,301990519393,312056870330,322123221047,332189571874,342255922811,352322273638,362388624571]
abbrev JF (q : Nat→Rat) (σ : Nat→ByteArray) : Prop := ∀ (a : Nat) nd,tY_N[a]? = some nd→q a=Jj σ q nd
variable {q : Nat→Rat} {σ : Nat→ByteArray}
def tY_I : List Bool := [false,false,false,false,false,false,false,false,false,false,false,false,false,false,false,false,false,false,false,false,false,false,false,false,false,false,false,false,false,false,false,false,false,false,false,false,false,false,false,false,false,false,false,false,false,false,false,false,false,true,false,false,false,false,false,true,false,false,false,false,false,false,false,false,false,false,false,false,true,false,false,false,false,false,false,false,false,false,false,false,false,false,false,false,false,false,false,false,false,false,false,false,false,false,false,false,false,false,false,false,false,false,false,false,false,false,false,false,false,false,false,false,false,false,false,false,false,false,false,false,false,false,false,false,false,false,false,false,false,false,false,false,false,false,false,false,false,false,false,false,false,false,false,false,false,false,false,false,false,false,false,false,false,false,false,false,false,false,false,false,false,false,false,false,false,false,false,false,false,true,true,true,true,false,false,false,false,false,false,false,false,false,false,true,true,true,true,true,true,true,true,true,false,false,false,false,false,false,false,false,false,false,false,false,false,false,false,false,false,false,false,false,false,false,false,false,false,false,false,false,false,false,false,false,false,true,false,false,false,false,false,false,false,false,false,false,false,false,false,true,true,true,false,false,false,false,false,false,false,false,false,false,false,false,false,false,false,false,false,false,false,false,false,false,false,false,false,false,false,false,false,false,false,false,false,false,false,false,false,false,false,false,false,true,true,false,false,false,false,false,false,false,false,false,false,false,false,false,false,false,false,false,false,false,false,false,false,false,false,false,false,false,false,false,false,false,false,false,false,false,false,false,false,false,false,true,true,false,false,false,false,false,false,false,false,false,false,false,false,false,false,false,false,false,false,false,false,false,false,false,false,false,false,false,false,false,false,false,false,false,false,false,false,false,true,false,false,false,false,false,false,false,false,false,false,false,false,false,false,false,false,false,false,false,false,false,false,false,false,false,false,false,false,false,false,false,false,false,false,false,true,false,false,false,false,false,false,false,false,false,false,false,false,false,false,false,false,false,false,false,false,false,false,false,false,false,false,false,false,false,false,false,false,false,false,false,true,false,false,false,false,false,false,false,false,false,false,false,false,false,false,false,false,false,false,false,false,false,false,false,false,false,false,false,false,false,false,false,false,false,false,false,false,true,false,false,false,false,false,false,false,false,false,false,false,false,false,false,false,false,false,false,false,false,false,false,false,false,false,false,false,false,false,false,false,false,false,false,false,true,false,false,false,false,false,false,false,false,false,false,false,false,false,false,false,false,false,false,false,false,false,false,false,false,false,false,false,false,false,false,false,false,false,false,false,false,false,false,false,false,false,false,false,false,false,false,false,false,false,false,false,false,false,false,false,false,false,false,false,false,false,false,false,false,false,false,false,false,false,false,false,false,false,false,false,false,false,false,false,false,false,false,false,false,false,false,false,false,false,false,false,false,false,false,false,false,false,false,false,false,false,false,false,false,false,false,false,false,false,false,false,false,false,false,false,false,false,false,false,false,false,false,false,false,false,false,false,false,false,false,false,false,false,false,false,false,false,false,false,false,false,false,false,false,false,false,false,false,false,false,false,false,false,false,false,false,false,false,false,false,false,false,false,false,false,false,false,false,false,false,false,false,false,false,false,false,false,false,false,false,false,false,true,false,false,false,false,false,false,false,false,false,false,false,false,false,false,false,false,false,false,false,false,false,false,false,false,false,false,false,false,false,false,false,false,false,false,false,false,false,false,false,false,false,false,false,false,false,false,false,false,false,false,false,false,false,false,false,false,false,false,false,false,false,false,false,false,false,false,false,false,false,false,false,false,false,false,false,false,false,false,false,false,false,false,false,false,false,false,false,false,false,false,false,false,false,false,false,false,false,false,false,false,false,false,false,false,false,false,false,false,false,false,false,false,false,false,false,false,false,false,false,false,false,false,false,false,false,false,false,false,false,false,false,false,false,false,false,false,false,false,false,false,false,false,false,false,false,false,false,false,false,false,false,false,false,false,false,false,false,false,false,false,false,false,false,false,false,false,false,false,false,false,false,false,false,false,false,false,false,false,false,false,false,false,false,false,false,false,false,false,false,false,false,false,false,false,false,false,false,false,false,false,false,false,false,false,false,false,false,false,false,false,false,false,false,false,false,false,false,false,false,false,false,false,false,false,false,false,false,false,false,false,false,false,false,false,false,false,false,false,false,false,false,false,false,false,false,false,false]
theorem GA : wfB 0 tY_N=true := by kernel_rfl
theorem Fn : szC Xa tY_I tY_N Xa tY_I=true := by kernel_rfl
theorem Bd : FV tY_N Xe=true := by kernel_rfl
theorem Bh : Sh tY_N Xb=true := by kernel_rfl
theorem ZW : cst 0 4 1=(4 : Rat) := by decide +kernel
theorem Jh : cst 0 2 1=(2 : Rat) := by decide +kernel
theorem Jq : cst 0 0 1=(0 : Rat) := by decide +kernel
theorem Zc : cst 0 1 1=(1 : Rat) := by decide +kernel
def Ip : List AV := [(false,[(true,[.inr (2,0,0,0,0),.inr (2,1,0,0,0),.inr (2,2,0,0,0),.inr (2,3,0,0,0),.inr (2,4,0,0,0),.inr (2,5,0,0,0),.inr (2,6,0,0,0),.inr (2,7,0,0,0)])]),(false,[(true,[.inr (2,8,0,0,0),.inr (2,9,0,0,0),.inr (2,10,0,0,0),.inr (2,11,0,0,0)])])]
theorem sq2 {x y m1 m2 s : Rat} (h1 : m1=x*x) (h2 : m2=y*y) (hs : s=m1+m2) : s=0 ↔ (x=0∧y=0) := by
 have a1 := ON x
 have a2 := ON y
 subst_vars
 constructor
 ·intro h
  refine ⟨a1.2.1 ?_,a2.2.1 ?_⟩ <;> grind
 ·rintro ⟨h1,h2⟩
  rw [h1,h2]; grind
theorem tr_flat {A B C D : Rat} (hs : ¬ (0 < B*B+C*C - 4*A*D)) (hA : A=0) : B=0∧C=0 := by
 rw [hA] at hs
 have w : B*B+C*C - 4*0*D=B*B+C*C := by grind
 rw [w] at hs
 refine Classical.byContradiction fun q => hs (Xs q)
def Cy (a1 a2 b1 b2 c1 c2 d1 d2 A B C D P0 P1 P2 P3 : Rat) : Prop :=
 P0=2*A*(d1*d1+d2*d2) - 2*(B*(c1*d1+c2*d2) - C*(c2*d1 - c1*d2))+2*D*(c1*c1+c2*c2) ∧
 P1=2*(-2*A*(b1*d1+b2*d2)+(B*(a1*d1+a2*d2) - C*(a2*d1 - a1*d2))+(B*(b1*c1+b2*c2)+C*(b2*c1 - b1*c2)) - 2*D*(a1*c1+a2*c2)) ∧
 P2=2*(-2*A*(b2*d1 - b1*d2)+(B*(a2*d1 - a1*d2)+C*(a1*d1+a2*d2))+(B*(b2*c1 - b1*c2) - C*(b1*c1+b2*c2)) - 2*D*(a2*c1 - a1*c2)) ∧
 P3=2*A*(b1*b1+b2*b2) - 2*(B*(a1*b1+a2*b2) - C*(a2*b1 - a1*b2))+2*D*(a1*a1+a2*a2)
def Fh (A B C D u1 u2 v1 v2 : Rat) : Rat := A*(u1*u1+u2*u2)+B*(u1*v1+u2*v2)+C*(u2*v1 - u1*v2)+D*(v1*v1+v2*v2)
theorem tc_F {a1 a2 b1 b2 c1 c2 d1 d2 A B C D P0 P1 P2 P3 x y : Rat} (h : Cy a1 a2 b1 b2 c1 c2 d1 d2 A B C D P0 P1 P2 P3) : P0*(x*x+y*y)+P1*x+P2*y+P3=2*Fh A B C D (d1*x - d2*y - b1) (d1*y+d2*x - b2) (a1 - (c1*x - c2*y)) (a2 - (c1*y+c2*x)) := by
 obtain ⟨h0,h1,h2,h3⟩ := h
 rw [h0,h1,h2,h3]; clear h0 h1 h2 h3; unfold Fh; grind
theorem tc_h (A B C D u1 u2 v1 v2 p q : Rat) : Fh A B C D u1 u2 v1 v2*(p*p+q*q)=Fh A B C D (u1*p - u2*q) (u1*q+u2*p) (v1*p - v2*q) (v1*q+v2*p) := by
 unfold Fh; grind
theorem tc_v (A B C D p q x y : Rat) : Fh A B C D (p*x - q*y) (p*y+q*x) p q=(p*p+q*q)*(A*(x*x+y*y)+B*x+C*y+D) := by
 unfold Fh; grind
theorem tc_at {a1 a2 b1 b2 c1 c2 d1 d2 A B C D P0 P1 P2 P3 v1 v2 p q w1 w2 : Rat} (h : Cy a1 a2 b1 b2 c1 c2 d1 d2 A B C D P0 P1 P2 P3) (hp : p=c1*v1 - c2*v2+d1) (hq : q=c1*v2+c2*v1+d2) (h1 : w1*p - w2*q=a1*v1 - a2*v2+b1) (h2 : w1*q+w2*p=a1*v2+a2*v1+b2) : (P0*(w1*w1+w2*w2)+P1*w1+P2*w2+P3)*(p*p+q*q)=2*((a1*d1 - a2*d2 - (b1*c1 - b2*c2))*(a1*d1 - a2*d2 - (b1*c1 - b2*c2))+(a1*d2+a2*d1 - (b1*c2+b2*c1))*(a1*d2+a2*d1 - (b1*c2+b2*c1)))*(A*(v1*v1+v2*v2)+B*v1+C*v2+D) := by
 rw [tc_F h]
 have e := tc_h A B C D (d1*w1 - d2*w2 - b1) (d1*w2+d2*w1 - b2) (a1 - (c1*w1 - c2*w2)) (a2 - (c1*w2+c2*w1)) p q
 have x1 : (d1*w1 - d2*w2 - b1)*p - (d1*w2+d2*w1 - b2)*q=(a1*d1 - a2*d2 - (b1*c1 - b2*c2))*v1 - (a1*d2+a2*d1 - (b1*c2+b2*c1))*v2 := by
  have : (d1*w1 - d2*w2 - b1)*p - (d1*w2+d2*w1 - b2)*q=d1*(w1*p - w2*q) - d2*(w1*q+w2*p) - (b1*p - b2*q) := by clear h e h1 h2 hp hq; grind
  rw [this,h1,h2,hp,hq]; clear h e h1 h2 hp hq this; grind
 have x2 : (d1*w1 - d2*w2 - b1)*q+(d1*w2+d2*w1 - b2)*p=(a1*d1 - a2*d2 - (b1*c1 - b2*c2))*v2+(a1*d2+a2*d1 - (b1*c2+b2*c1))*v1 := by
  have : (d1*w1 - d2*w2 - b1)*q+(d1*w2+d2*w1 - b2)*p=d1*(w1*q+w2*p)+d2*(w1*p - w2*q) - (b1*q+b2*p) := by clear h e h1 h2 hp hq x1; grind
  rw [this,h1,h2,hp,hq]; clear h e h1 h2 hp hq this x1; grind
 have x3 : (a1 - (c1*w1 - c2*w2))*p - (a2 - (c1*w2+c2*w1))*q=a1*d1 - a2*d2 - (b1*c1 - b2*c2) := by
  have : (a1 - (c1*w1 - c2*w2))*p - (a2 - (c1*w2+c2*w1))*q=a1*p - a2*q - (c1*(w1*p - w2*q) - c2*(w1*q+w2*p)) := by clear h e h1 h2 hp hq x1 x2; grind
  rw [this,h1,h2,hp,hq]; clear h e h1 h2 hp hq this x1 x2; grind
 have x4 : (a1 - (c1*w1 - c2*w2))*q+(a2 - (c1*w2+c2*w1))*p=a1*d2+a2*d1 - (b1*c2+b2*c1) := by
  have : (a1 - (c1*w1 - c2*w2))*q+(a2 - (c1*w2+c2*w1))*p=a1*q+a2*p - (c1*(w1*q+w2*p)+c2*(w1*p - w2*q)) := by clear h e h1 h2 hp hq x1 x2 x3; grind
  rw [this,h1,h2,hp,hq]; clear h e h1 h2 hp hq this x1 x2 x3; grind
 rw [x1,x2,x3,x4,tc_v] at e
 have : 2*Fh A B C D (d1*w1 - d2*w2 - b1) (d1*w2+d2*w1 - b2) (a1 - (c1*w1 - c2*w2)) (a2 - (c1*w2+c2*w1))*(p*p+q*q)=2*(Fh A B C D (d1*w1 - d2*w2 - b1) (d1*w2+d2*w1 - b2) (a1 - (c1*w1 - c2*w2)) (a2 - (c1*w2+c2*w1))*(p*p+q*q)) := Rat.mul_assoc _ _ _
 rw [this,e]; clear this e h h1 h2 hp hq x1 x2 x3 x4; grind
theorem tc_sp {a1 a2 b1 b2 c1 c2 d1 d2 A B C D P0 P1 P2 P3 : Rat} (h : Cy a1 a2 b1 b2 c1 c2 d1 d2 A B C D P0 P1 P2 P3) : P1*P1+P2*P2 - 4*P0*P3=4*(((a1*d1 - a2*d2 - (b1*c1 - b2*c2))*(a1*d1 - a2*d2 - (b1*c1 - b2*c2))+(a1*d2+a2*d1 - (b1*c2+b2*c1))*(a1*d2+a2*d1 - (b1*c2+b2*c1))))*(B*B+C*C - 4*A*D) := by
 obtain ⟨h0,h1,h2,h3⟩ := h
 rw [h0,h1,h2,h3]; clear h0 h1 h2 h3; grind
theorem OU {a1 a2 b1 b2 c1 c2 d1 d2 A B C D P0 P1 P2 P3 f H0 H1 H2 H3 v1 v2 p q n1 n2 nq X Y dt k w1 w2 x y : Rat} (h : Cy a1 a2 b1 b2 c1 c2 d1 d2 A B C D P0 P1 P2 P3) (h0 : H0=P0*f) (h1 : H1=P1*f) (h2 : H2=P2*f) (h3 : H3=P3*f) (hd : ¬ (dt=0)) (ed : dt=p*p+q*q) (hp : p=c1*v1 - c2*v2+d1) (hq : q=c1*v2+c2*v1+d2) (e1 : n1=a1*v1 - a2*v2+b1) (e2 : n2=a1*v2+a2*v1+b2) (enq : nq=-q) (eX : X=n1*p - n2*nq) (eY : Y=n1*nq+n2*p) (ek : k=1 / dt) (ew1 : w1=X*k) (ew2 : w2=Y*k) (ex : x=(H0*(w1*w1+w2*w2)+H1*w1+H2*w2+H3)*dt) (ey : y=A*(v1*v1+v2*v2)+B*v1+C*v2+D) : x=2*((a1*d1 - a2*d2 - (b1*c1 - b2*c2))*(a1*d1 - a2*d2 - (b1*c1 - b2*c2))+(a1*d2+a2*d1 - (b1*c2+b2*c1))*(a1*d2+a2*d1 - (b1*c2+b2*c1)))*f*y := by
 have hk : k*dt=1 := by rw [ek]; exact Rat.div_mul_cancel hd
 have g1 : w1*p - w2*q=a1*v1 - a2*v2+b1 := by
  have : w1*p - w2*q=n1*(k*dt) := by rw [ew1,ew2,eX,eY,enq,ed]; clear h hk hp hq e1 e2 ex ey h0 h1 h2 h3 ek; grind
  rw [this,hk,← e1]; clear h hk; grind
 have g2 : w1*q+w2*p=a1*v2+a2*v1+b2 := by
  have : w1*q+w2*p=n2*(k*dt) := by rw [ew1,ew2,eX,eY,enq,ed]; clear h hk hp hq e1 e2 ex ey h0 h1 h2 h3 ek g1; grind
  rw [this,hk,← e2]; clear h hk; grind
 have t := tc_at h hp hq g1 g2
 rw [← ed,← ey] at t
 have x' : x=(P0*(w1*w1+w2*w2)+P1*w1+P2*w2+P3)*dt*f := by
  rw [ex,h0,h1,h2,h3]; clear h hk hp hq e1 e2 ex ey h0 h1 h2 h3 ek g1 g2 t; grind
 rw [x',t]; clear h hk hp hq e1 e2 ex ey h0 h1 h2 h3 ek g1 g2 t x'; grind
theorem YW {x m : Rat} (h : m=x*x) : 0≤m∧(m=0→x=0) := by
 have := ON x
 rw [h]; exact ⟨this.1,this.2.1⟩
theorem Qu {s m t x : Rat} {Q : Prop} (hs : 0≤s∧(s=0→Q)) (h : m=x*x) (ht : t=s+m) : 0≤t∧(t=0→Q∧x=0) := by
 have a := ON x
 rw [← h] at a
 obtain ⟨a1,a2,_,_⟩ := a
 obtain ⟨b1,b2⟩ := hs
 rw [ht]
 refine ⟨by grind,fun z => ⟨b2 (by grind),a2 (by grind)⟩⟩
theorem Wm {x m : Rat} (h : m=x*x) (z : x=0) : m=0 := by rw [h,z,Rat.zero_mul]
theorem Qf {s m t x : Rat} (hs : s=0) (h : m=x*x) (ht : t=s+m) (z : x=0) : t=0 := by rw [ht,hs,h,z]; grind
theorem Qe {F x y s t m n d : Rat} (hx : x=F*y) (hs : s=F*t) (em : m=s*y) (en : n=x*t) (ed : d=m - n) : d=0 := by
 rw [ed,em,en,hx,hs]; grind
theorem Zi {F x y : Rat} (hF : F ≠ 0) (h : x=F*y) (z : x=0) : y=0 := by
 rw [z] at h; exact (Rat.mul_eq_zero.1 h.symm).resolve_left hF
theorem XB {A B C D y t x y0 y1 y2 y3 : Rat} (h0 : y0=A*(0*0+y*y)+B*0+C*y+D) (h1 : y1=A*(1*1+y*y)+B*1+C*y+D) (h2 : y2=A*(2*2+y*y)+B*2+C*y+D) (h3 : y3=A*(x*x+t*t)+B*x+C*t+D) (z0 : y0=0) (z1 : y1=0) (z2 : y2=0) (z3 : y3=0) (hyt : t - y ≠ 0) (hs : 0 < B*B+C*C - 4*A*D) : False := by
 rw [z0] at h0
 rw [z1] at h1
 rw [z2] at h2
 rw [z3] at h3
 have a0 : A=0 := by clear h3 hs hyt; grind
 subst a0
 have b0 : B=0 := by clear h3 hs hyt; grind
 subst b0
 have c0 : C*(t - y)=0 := by clear hs hyt; grind
 have c1 := (Rat.mul_eq_zero.1 c0).resolve_right hyt
 rw [c1] at hs
 have : (0 : Rat)*0+0*0 - 4*0*D=0 := by clear h0 h1 h2 h3 hs; grind
 rw [this] at hs
 exact absurd hs (by decide)
theorem QG {a1 a2 b1 b2 c1 c2 d1 d2 v1 v2 u1 u2 p q s t : Rat} (hp : p=c1*v1 - c2*v2+d1) (hq : q=c1*v2+c2*v1+d2) (hs : s=c1*u1 - c2*u2+d1) (ht : t=c1*u2+c2*u1+d2) (zp : p=0) (zq : q=0) (zs : s=0) (zt : t=0) (hv : ¬ (v1 - u1=0∧v2 - u2=0)) : a1*d1 - a2*d2 - (b1*c1 - b2*c2)=0∧a1*d2+a2*d1 - (b1*c2+b2*c1)=0 := by
 rw [zp] at hp
 rw [zq] at hq
 rw [zs] at hs
 rw [zt] at ht
 have k1 : c1*(v1 - u1) - c2*(v2 - u2)=0 := by clear hq ht; grind
 have k2 : c1*(v2 - u2)+c2*(v1 - u1)=0 := by clear hp hs k1; grind
 have c0 : c1=0∧c2=0 := by
  refine Classical.byContradiction fun hc => ?_
  exact Ii hc hv rfl rfl ⟨k1,k2⟩
 obtain ⟨c01,c02⟩ := c0
 rw [c01,c02] at hp hq
 have d01 : d1=0 := by clear hq hs ht k1 k2; grind
 have d02 : d2=0 := by clear hp hs ht k1 k2; grind
 rw [c01,c02,d01,d02]
 constructor <;> grind
theorem tc_pos {X Y : Rat} (h : ¬ (X=0∧Y=0)) : 0 < X*X+Y*Y := Xs h
theorem tY_Y0z {z0 z1 z2 z3 z4 z5 z6 z7 z8 z12 z16 z20 z42 z43 z44 z45 z53 z54 z55 z56 z57 z58 z59 z60 z61 z62 z63 z64 z65 z66 z67 z68 z69 z70 z71 z72 z73 z74 z75 z76 z81 z82 z83 z84 z85 z86 z87 z88 z89 z90 z91 z92 z93 z94 z95 z96 z97 z98 z99 z104 z106 z107 z108 z109 z110 z111 z112 z113 z114 z115 z116 z117 z118 z119 z120 z121 z122 z123 z124 z125 z126 z127 z128 z129 z130 z131 z132 z133 z134 z135 z136 z137 z138 z139 z140 z141 z142 z143 z144 z145 z146 z147 z148 z149 z150 z151 z152 z153 z154 z155 z156 z160 z161 z162 z163 z167 : Rat} : z8=-z7→z12=-z1→z16=-z5→z20=-z3→z53=-z2→z54=-z4→z55=2→z56=z6*z42→z57=z7*z42→z58=z56*z55→z59=z57*z55→z60=-z44→z61=z54*z43→z62=z16*z60→z63=z61+z62→z64=-z16→z65=z54*z44→z66=z64*z43→z67=z65-z66→z68=0→z69=z68+z58→z70=z68+z59→z71=z69+z63→z72=z70+z67→z73=-z8→z74=z71*z6→z75=z72*z73→z76=z74+z75→z81=-z60→z82=z6*z43→z83=z7*z81→z84=z82+z83→z85=z6*z60→z86=z8*z43→z87=z85-z86→z88=z54*z45→z89=z16*z45→z90=z88*z55→z91=z89*z55→z92=z68+z84→z93=z68+z87→z94=z92+z90→z95=z93+z91→z96=-z64→z97=z94*z54→z98=z95*z96→z99=z97+z98→z104=z76+z99→z106=z53*z42→z107=z20*z42→z108=z106*z55→z109=z107*z55→z110=z0*z43→z111=z1*z60→z112=z110+z111→z113=z0*z44→z114=z12*z43→z115=z113-z114→z116=z68+z108→z117=z68+z109→z118=z116+z112→z119=z117+z115→z120=z118*z6→z121=z119*z73→z122=z120+z121→z123=-z119→z124=z118*z8→z125=z123*z6→z126=z124-z125→z127=z53*z43→z128=z20*z81→z129=z127+z128→z130=-z20→z131=z53*z60→z132=z130*z43→z133=z131-z132→z134=z0*z45→z135=z1*z45→z136=z134*z55→z137=z135*z55→z138=z68+z129→z139=z68+z133→z140=z138+z136→z141=z139+z137→z142=z140*z54→z143=z141*z96→z144=z142+z143→z145=-z141→z146=z140*z64→z147=z145*z54→z148=z146-z147→z149=z122+z144→z150=z126+z148→z151=z149*z55→z152=z150*z55→z153=-z130→z154=z118*z53→z155=z119*z153→z156=z154+z155→z160=-z12→z161=z140*z0→z162=z141*z160→z163=z161+z162→z167=z156+z163→(Cy z0 z1 z2 z3 z4 z5 z6 z7 z42 z43 z44 z45 z104 z151 z152 z167) := by
 intro e8 e12 e16 e20 e53 e54 e55 e56 e57 e58 e59 e60 e61 e62 e63 e64 e65 e66 e67 e68 e69 e70 e71 e72 e73 e74 e75 e76 e81 e82 e83 e84 e85 e86 e87 e88 e89 e90 e91 e92 e93 e94 e95 e96 e97 e98 e99 e104 e106 e107 e108 e109 e110 e111 e112 e113 e114 e115 e116 e117 e118 e119 e120 e121 e122 e123 e124 e125 e126 e127 e128 e129 e130 e131 e132 e133 e134 e135 e136 e137 e138 e139 e140 e141 e142 e143 e144 e145 e146 e147 e148 e149 e150 e151 e152 e153 e154 e155 e156 e160 e161 e162 e163 e167
 refine ⟨?_,?_,?_,?_⟩
 ·rw [e104,e99,e98,e97,e96,e95,e94,e93,e92,e91,e90,e89,e88,e87,e86,e85,e84,e83,e82,e81,e76,e75,e74,e73,e72,e71,e70,e69,e68,e67,e66,e65,e64,e63,e62,e61,e60,e59,e58,e57,e56,e55,e54,e16,e8]
  grind
 ·rw [e151,e149,e144,e143,e142,e141,e140,e139,e138,e137,e136,e135,e134,e133,e132,e131,e130,e129,e128,e127,e122,e121,e120,e119,e118,e117,e116,e115,e114,e113,e112,e111,e110,e109,e108,e107,e106,e96,e81,e73,e68,e64,e60,e55,e54,e53,e20,e16,e12,e8]
  grind
 ·rw [e152,e150,e148,e147,e146,e145,e141,e140,e139,e138,e137,e136,e135,e134,e133,e132,e131,e130,e129,e128,e127,e126,e125,e124,e123,e119,e118,e117,e116,e115,e114,e113,e112,e111,e110,e109,e108,e107,e106,e81,e68,e64,e60,e55,e54,e53,e20,e16,e12,e8]
  grind
 ·rw [e167,e163,e162,e161,e160,e156,e155,e154,e153,e141,e140,e139,e138,e137,e136,e135,e134,e133,e132,e131,e130,e129,e128,e127,e119,e118,e117,e116,e115,e114,e113,e112,e111,e110,e109,e108,e107,e106,e81,e68,e60,e55,e53,e20,e12]
  grind
theorem Qp (H : JF q σ) : (Cy (q 0) (q 1) (q 2) (q 3) (q 4) (q 5) (q 6) (q 7) (q 42) (q 43) (q 44) (q 45) (q 104) (q 151) (q 152) (q 167)) := by
 have e8:q 8=-q 7:=H 8 _ rfl;have e12:q 12=-q 1:=H 12 _ rfl;have e16:q 16=-q 5:=H 16 _ rfl;have e20:q 20=-q 3:=H 20 _ rfl;have e53:q 53=-q 2:=H 53 _ rfl;have e54:q 54=-q 4:=H 54 _ rfl;have e55:q 55=2:=(H 55 _ rfl).trans Jh;have e56:q 56=q 6*q 42:=H 56 _ rfl;have e57:q 57=q 7*q 42:=H 57 _ rfl;have e58:q 58=q 56*q 55:=H 58 _ rfl;have e59:q 59=q 57*q 55:=H 59 _ rfl;have e60:q 60=-q 44:=H 60 _ rfl;have e61:q 61=q 54*q 43:=H 61 _ rfl;have e62:q 62=q 16*q 60:=H 62 _ rfl;have e63:q 63=q 61+q 62:=H 63 _ rfl;have e64:q 64=-q 16:=H 64 _ rfl;have e65:q 65=q 54*q 44:=H 65 _ rfl;have e66:q 66=q 64*q 43:=H 66 _ rfl;have e67:q 67=q 65-q 66:=H 67 _ rfl;have e68:q 68=0:=(H 68 _ rfl).trans Jq;have e69:q 69=q 68+q 58:=H 69 _ rfl;have e70:q 70=q 68+q 59:=H 70 _ rfl;have e71:q 71=q 69+q 63:=H 71 _ rfl;have e72:q 72=q 70+q 67:=H 72 _ rfl;have e73:q 73=-q 8:=H 73 _ rfl;have e74:q 74=q 71*q 6:=H 74 _ rfl;have e75:q 75=q 72*q 73:=H 75 _ rfl;have e76:q 76=q 74+q 75:=H 76 _ rfl;have e81:q 81=-q 60:=H 81 _ rfl;have e82:q 82=q 6*q 43:=H 82 _ rfl;have e83:q 83=q 7*q 81:=H 83 _ rfl;have e84:q 84=q 82+q 83:=H 84 _ rfl;have e85:q 85=q 6*q 60:=H 85 _ rfl;have e86:q 86=q 8*q 43:=H 86 _ rfl;have e87:q 87=q 85-q 86:=H 87 _ rfl;have e88:q 88=q 54*q 45:=H 88 _ rfl;have e89:q 89=q 16*q 45:=H 89 _ rfl;have e90:q 90=q 88*q 55:=H 90 _ rfl;have e91:q 91=q 89*q 55:=H 91 _ rfl;have e92:q 92=q 68+q 84:=H 92 _ rfl;have e93:q 93=q 68+q 87:=H 93 _ rfl;have e94:q 94=q 92+q 90:=H 94 _ rfl;have e95:q 95=q 93+q 91:=H 95 _ rfl;have e96:q 96=-q 64:=H 96 _ rfl;have e97:q 97=q 94*q 54:=H 97 _ rfl;have e98:q 98=q 95*q 96:=H 98 _ rfl;have e99:q 99=q 97+q 98:=H 99 _ rfl;have e104:q 104=q 76+q 99:=H 104 _ rfl;have e106:q 106=q 53*q 42:=H 106 _ rfl;have e107:q 107=q 20*q 42:=H 107 _ rfl;have e108:q 108=q 106*q 55:=H 108 _ rfl;have e109:q 109=q 107*q 55:=H 109 _ rfl;have e110:q 110=q 0*q 43:=H 110 _ rfl;have e111:q 111=q 1*q 60:=H 111 _ rfl;have e112:q 112=q 110+q 111:=H 112 _ rfl;have e113:q 113=q 0*q 44:=H 113 _ rfl;have e114:q 114=q 12*q 43:=H 114 _ rfl;have e115:q 115=q 113-q 114:=H 115 _ rfl;have e116:q 116=q 68+q 108:=H 116 _ rfl;have e117:q 117=q 68+q 109:=H 117 _ rfl;have e118:q 118=q 116+q 112:=H 118 _ rfl;have e119:q 119=q 117+q 115:=H 119 _ rfl;have e120:q 120=q 118*q 6:=H 120 _ rfl;have e121:q 121=q 119*q 73:=H 121 _ rfl;have e122:q 122=q 120+q 121:=H 122 _ rfl;have e123:q 123=-q 119:=H 123 _ rfl;have e124:q 124=q 118*q 8:=H 124 _ rfl;have e125:q 125=q 123*q 6:=H 125 _ rfl;have e126:q 126=q 124-q 125:=H 126 _ rfl;have e127:q 127=q 53*q 43:=H 127 _ rfl;have e128:q 128=q 20*q 81:=H 128 _ rfl;have e129:q 129=q 127+q 128:=H 129 _ rfl;have e130:q 130=-q 20:=H 130 _ rfl;have e131:q 131=q 53*q 60:=H 131 _ rfl;have e132:q 132=q 130*q 43:=H 132 _ rfl;have e133:q 133=q 131-q 132:=H 133 _ rfl;have e134:q 134=q 0*q 45:=H 134 _ rfl;have e135:q 135=q 1*q 45:=H 135 _ rfl;have e136:q 136=q 134*q 55:=H 136 _ rfl;have e137:q 137=q 135*q 55:=H 137 _ rfl;have e138:q 138=q 68+q 129:=H 138 _ rfl;have e139:q 139=q 68+q 133:=H 139 _ rfl;have e140:q 140=q 138+q 136:=H 140 _ rfl;have e141:q 141=q 139+q 137:=H 141 _ rfl;have e142:q 142=q 140*q 54:=H 142 _ rfl;have e143:q 143=q 141*q 96:=H 143 _ rfl;have e144:q 144=q 142+q 143:=H 144 _ rfl;have e145:q 145=-q 141:=H 145 _ rfl;have e146:q 146=q 140*q 64:=H 146 _ rfl;have e147:q 147=q 145*q 54:=H 147 _ rfl;have e148:q 148=q 146-q 147:=H 148 _ rfl;have e149:q 149=q 122+q 144:=H 149 _ rfl;have e150:q 150=q 126+q 148:=H 150 _ rfl;have e151:q 151=q 149*q 55:=H 151 _ rfl;have e152:q 152=q 150*q 55:=H 152 _ rfl;have e153:q 153=-q 130:=H 153 _ rfl;have e154:q 154=q 118*q 53:=H 154 _ rfl;have e155:q 155=q 119*q 153:=H 155 _ rfl;have e156:q 156=q 154+q 155:=H 156 _ rfl;have e160:q 160=-q 12:=H 160 _ rfl;have e161:q 161=q 140*q 0:=H 161 _ rfl;have e162:q 162=q 141*q 160:=H 162 _ rfl;have e163:q 163=q 161+q 162:=H 163 _ rfl;have e167:q 167=q 156+q 163:=H 167 _ rfl
 exact tY_Y0z e8 e12 e16 e20 e53 e54 e55 e56 e57 e58 e59 e60 e61 e62 e63 e64 e65 e66 e67 e68 e69 e70 e71 e72 e73 e74 e75 e76 e81 e82 e83 e84 e85 e86 e87 e88 e89 e90 e91 e92 e93 e94 e95 e96 e97 e98 e99 e104 e106 e107 e108 e109 e110 e111 e112 e113 e114 e115 e116 e117 e118 e119 e120 e121 e122 e123 e124 e125 e126 e127 e128 e129 e130 e131 e132 e133 e134 e135 e136 e137 e138 e139 e140 e141 e142 e143 e144 e145 e146 e147 e148 e149 e150 e151 e152 e153 e154 e155 e156 e160 e161 e162 e163 e167
theorem tY_T1z {z0 z1 z2 z3 z4 z5 z6 z7 z8 z9 z10 z11 z12 z13 z14 z15 z16 z17 z18 z19 z20 z21 z22 z23 z24 z25 z26 z27 z28 z29 z30 z31 z32 z33 z34 z35 z36 z37 z38 z39 z40 z41 : Rat} : z8=-z7→z9=z0*z6→z10=z1*z8→z11=z9+z10→z12=-z1→z13=z0*z7→z14=z12*z6→z15=z13-z14→z16=-z5→z17=z2*z4→z18=z3*z16→z19=z17+z18→z20=-z3→z21=z2*z5→z22=z20*z4→z23=z21-z22→z24=z11-z19→z25=z15-z23→z26=z24*z24→z27=z25*z25→z28=z26+z27→z29=z1*z7→z30=z9-z29→z31=z1*z6→z32=z13+z31→z33=z3*z5→z34=z17-z33→z35=z3*z4→z36=z21+z35→z37=z30-z34→z38=z32-z36→z39=z37*z37→z40=z38*z38→z41=z39+z40→((z28=0→z41=0)∧(¬ (z28=0)→¬ (z41=0))) := by
 intro e8 e9 e10 e11 e12 e13 e14 e15 e16 e17 e18 e19 e20 e21 e22 e23 e24 e25 e26 e27 e28 e29 e30 e31 e32 e33 e34 e35 e36 e37 e38 e39 e40 e41
 have x28 : z24=(z0*z6 - z1*z7 - (z2*z4 - z3*z5)) := by
  rw [e24,e19,e18,e17,e16,e11,e10,e9,e8]
  try grind
 have y28 : z25=(z0*z7+z1*z6 - (z2*z5+z3*z4)) := by
  rw [e25,e23,e22,e21,e20,e15,e14,e13,e12]
  try grind
 have s28 : z28=0 ↔ ((z0*z6 - z1*z7 - (z2*z4 - z3*z5))=0∧(z0*z7+z1*z6 - (z2*z5+z3*z4))=0) := by
  rw [sq2 e26 e27 e28,x28,y28]
 have x41 : z37=(z0*z6 - z1*z7 - (z2*z4 - z3*z5)) := by
  rw [e37,e34,e33,e30,e29,e17,e9]
  try grind
 have y41 : z38=(z0*z7+z1*z6 - (z2*z5+z3*z4)) := by
  rw [e38,e36,e35,e32,e31,e21,e13]
  try grind
 have s41 : z41=0 ↔ ((z0*z6 - z1*z7 - (z2*z4 - z3*z5))=0∧(z0*z7+z1*z6 - (z2*z5+z3*z4))=0) := by
  rw [sq2 e39 e40 e41,x41,y41]
 exact ⟨fun h => s41.2 (s28.1 h),fun h k => h (s28.2 (s41.1 k))⟩
theorem Lz (H : JF q σ) : ((q 28=0→q 41=0)∧(¬ (q 28=0)→¬ (q 41=0))) := by
 have e8:q 8=-q 7:=H 8 _ rfl;have e9:q 9=q 0*q 6:=H 9 _ rfl;have e10:q 10=q 1*q 8:=H 10 _ rfl;have e11:q 11=q 9+q 10:=H 11 _ rfl;have e12:q 12=-q 1:=H 12 _ rfl;have e13:q 13=q 0*q 7:=H 13 _ rfl;have e14:q 14=q 12*q 6:=H 14 _ rfl;have e15:q 15=q 13-q 14:=H 15 _ rfl;have e16:q 16=-q 5:=H 16 _ rfl;have e17:q 17=q 2*q 4:=H 17 _ rfl;have e18:q 18=q 3*q 16:=H 18 _ rfl;have e19:q 19=q 17+q 18:=H 19 _ rfl;have e20:q 20=-q 3:=H 20 _ rfl;have e21:q 21=q 2*q 5:=H 21 _ rfl;have e22:q 22=q 20*q 4:=H 22 _ rfl;have e23:q 23=q 21-q 22:=H 23 _ rfl;have e24:q 24=q 11-q 19:=H 24 _ rfl;have e25:q 25=q 15-q 23:=H 25 _ rfl;have e26:q 26=q 24*q 24:=H 26 _ rfl;have e27:q 27=q 25*q 25:=H 27 _ rfl;have e28:q 28=q 26+q 27:=H 28 _ rfl;have e29:q 29=q 1*q 7:=H 29 _ rfl;have e30:q 30=q 9-q 29:=H 30 _ rfl;have e31:q 31=q 1*q 6:=H 31 _ rfl;have e32:q 32=q 13+q 31:=H 32 _ rfl;have e33:q 33=q 3*q 5:=H 33 _ rfl;have e34:q 34=q 17-q 33:=H 34 _ rfl;have e35:q 35=q 3*q 4:=H 35 _ rfl;have e36:q 36=q 21+q 35:=H 36 _ rfl;have e37:q 37=q 30-q 34:=H 37 _ rfl;have e38:q 38=q 32-q 36:=H 38 _ rfl;have e39:q 39=q 37*q 37:=H 39 _ rfl;have e40:q 40=q 38*q 38:=H 40 _ rfl;have e41:q 41=q 39+q 40:=H 41 _ rfl
 exact tY_T1z e8 e9 e10 e11 e12 e13 e14 e15 e16 e17 e18 e19 e20 e21 e22 e23 e24 e25 e26 e27 e28 e29 e30 e31 e32 e33 e34 e35 e36 e37 e38 e39 e40 e41
theorem Xd (H : JF q σ) : (¬ (q 28=0))→(¬ ((q 0*q 6-q 1*q 7-(q 2*q 4-q 3*q 5))=0∧(q 0*q 7+q 1*q 6-(q 2*q 5+q 3*q 4))=0)) := by
 have e8:q 8=-q 7:=H 8 _ rfl;have e9:q 9=q 0*q 6:=H 9 _ rfl;have e10:q 10=q 1*q 8:=H 10 _ rfl;have e11:q 11=q 9+q 10:=H 11 _ rfl;have e12:q 12=-q 1:=H 12 _ rfl;have e13:q 13=q 0*q 7:=H 13 _ rfl;have e14:q 14=q 12*q 6:=H 14 _ rfl;have e15:q 15=q 13-q 14:=H 15 _ rfl;have e16:q 16=-q 5:=H 16 _ rfl;have e17:q 17=q 2*q 4:=H 17 _ rfl;have e18:q 18=q 3*q 16:=H 18 _ rfl;have e19:q 19=q 17+q 18:=H 19 _ rfl;have e20:q 20=-q 3:=H 20 _ rfl;have e21:q 21=q 2*q 5:=H 21 _ rfl;have e22:q 22=q 20*q 4:=H 22 _ rfl;have e23:q 23=q 21-q 22:=H 23 _ rfl;have e24:q 24=q 11-q 19:=H 24 _ rfl;have e25:q 25=q 15-q 23:=H 25 _ rfl;have e26:q 26=q 24*q 24:=H 26 _ rfl;have e27:q 27=q 25*q 25:=H 27 _ rfl;have e28:q 28=q 26+q 27:=H 28 _ rfl
 clear H
 intro u0
 have x28 : q 24=(q 0*q 6 - q 1*q 7 - (q 2*q 4 - q 3*q 5)) := by
  rw [e24,e19,e18,e17,e16,e11,e10,e9,e8]
  try grind
 have y28 : q 25=(q 0*q 7+q 1*q 6 - (q 2*q 5+q 3*q 4)) := by
  rw [e25,e23,e22,e21,e20,e15,e14,e13,e12]
  try grind
 have s28 : q 28=0 ↔ ((q 0*q 6 - q 1*q 7 - (q 2*q 4 - q 3*q 5))=0∧(q 0*q 7+q 1*q 6 - (q 2*q 5+q 3*q 4))=0) := by
  rw [sq2 e26 e27 e28,x28,y28]
 exact fun h => u0 (s28.2 h)
theorem UG (H : JF q σ) : (Cy (q 0) (q 1) (q 2) (q 3) (q 4) (q 5) (q 6) (q 7) (q 42) (q 43) (q 44) (q 45) (q 104) (q 151) (q 152) (q 167))→(¬ ((q 0*q 6-q 1*q 7-(q 2*q 4-q 3*q 5))=0∧(q 0*q 7+q 1*q 6-(q 2*q 5+q 3*q 4))=0))→(0 < q 52)→(¬ (q 175=0)∧¬ (q 182=0)∧0 < q 191∧¬ (q 187=0)∧2*((q 0*q 6-q 1*q 7-(q 2*q 4-q 3*q 5))*(q 0*q 6-q 1*q 7-(q 2*q 4-q 3*q 5))+(q 0*q 7+q 1*q 6-(q 2*q 5+q 3*q 4))*(q 0*q 7+q 1*q 6-(q 2*q 5+q 3*q 4)))*fac [q 104,q 151,q 152,q 167] ≠ 0) := by
 have e46:q 46=q 43*q 43:=H 46 _ rfl;have e47:q 47=q 44*q 44:=H 47 _ rfl;have e48:q 48=q 46+q 47:=H 48 _ rfl;have e49:q 49=4:=(H 49 _ rfl).trans ZW;have e50:q 50=q 49*q 42:=H 50 _ rfl;have e51:q 51=q 50*q 45:=H 51 _ rfl;have e52:q 52=q 48-q 51:=H 52 _ rfl;have e169:q 169=q 104*fac [q 104,q 151,q 152,q 167]:=H 169 _ rfl;have e170:q 170=q 151*fac [q 104,q 151,q 152,q 167]:=H 170 _ rfl;have e171:q 171=q 152*fac [q 104,q 151,q 152,q 167]:=H 171 _ rfl;have e172:q 172=q 167*fac [q 104,q 151,q 152,q 167]:=H 172 _ rfl;have e173:q 173=q 42*q 42:=H 173 _ rfl;have e174:q 174=q 173+q 46:=H 174 _ rfl;have e175:q 175=q 174+q 47:=H 175 _ rfl;have e176:q 176=q 104*q 104:=H 176 _ rfl;have e177:q 177=q 151*q 151:=H 177 _ rfl;have e178:q 178=q 176+q 177:=H 178 _ rfl;have e179:q 179=q 152*q 152:=H 179 _ rfl;have e180:q 180=q 178+q 179:=H 180 _ rfl;have e181:q 181=q 167*q 167:=H 181 _ rfl;have e182:q 182=q 180+q 181:=H 182 _ rfl;have e183:q 183=q 169*q 169:=H 183 _ rfl;have e184:q 184=q 170*q 170:=H 184 _ rfl;have e185:q 185=q 183+q 184:=H 185 _ rfl;have e186:q 186=q 171*q 171:=H 186 _ rfl;have e187:q 187=q 185+q 186:=H 187 _ rfl;have e188:q 188=q 184+q 186:=H 188 _ rfl;have e189:q 189=q 49*q 169:=H 189 _ rfl;have e190:q 190=q 189*q 172:=H 190 _ rfl;have e191:q 191=q 188-q 190:=H 191 _ rfl
 clear H
 intro hc u0 u1
 have hs : 0 < q 43*q 43+q 44*q 44 - 4*q 42*q 45 := by rw [e52,e51,e50,e49,e48,e46,e47] at u1; exact u1
 have qsp := tc_sp hc
 have pd := tc_pos u0
 have qp : 0 < q 151*q 151+q 152*q 152 - 4*q 104*q 167 := by rw [qsp]; exact Rat.mul_pos (Rat.mul_pos (by decide) pd) hs
 clear qsp
 have no : ∀ {x y v w : Rat},0 < y*y+v*v - 4*x*w→¬ ((x=0∧y=0)∧v=0) := by
  rintro x y v w h ⟨⟨h1,h2⟩,h3⟩
  rw [h1,h2,h3] at h
  have : (0 : Rat)*0+0*0 - 4*0*w=0 := by grind
  rw [this] at h
  exact absurd h (by decide)
 have hf : fac [q 104,q 151,q 152,q 167] ≠ 0 := fun e => no qp ⟨⟨KT (by simp) e,KT (by simp) e⟩,KT (by simp) e⟩
 have hp : 0 < q 170*q 170+q 171*q 171 - 4*q 169*q 172 := by
  have e : q 170*q 170+q 171*q 171 - 4*q 169*q 172=(q 151*q 151+q 152*q 152 - 4*q 104*q 167)*(fac [q 104,q 151,q 152,q 167]*fac [q 104,q 151,q 152,q 167]) := by
   rw [e169,e170,e171,e172]
   generalize fac [q 104,q 151,q 152,q 167]=f
   clear hs qp pd u0 u1 hc hf no
   grind
  rw [e]; exact Rat.mul_pos qp (Th hf)
 exact ⟨fun h => no hs ((Qu (Qu (YW e173) e46 e174) e47 e175).2 h),fun h => no qp ((Qu (Qu (Qu (YW e176) e177 e178) e179 e180) e181 e182).2 h).1,by rw [e191,e190,e189,e49,e188,e184,e186]; exact hp,fun h => no hp ((Qu (Qu (YW e183) e184 e185) e186 e187).2 h),Dk (Dk (by decide) (fun e => absurd (e ▸ pd) (by decide))) hf⟩
theorem tY_T3 (H : JF q σ) : (¬ (0 < q 52))→(q 42=0)→(q 43=0∧q 44=0) := by
 have e46:q 46=q 43*q 43:=H 46 _ rfl;have e47:q 47=q 44*q 44:=H 47 _ rfl;have e48:q 48=q 46+q 47:=H 48 _ rfl;have e49:q 49=4:=(H 49 _ rfl).trans ZW;have e50:q 50=q 49*q 42:=H 50 _ rfl;have e51:q 51=q 50*q 45:=H 51 _ rfl;have e52:q 52=q 48-q 51:=H 52 _ rfl
 clear H
 intro u1 h
 rw [e52,e51,e50,e49,e48,e46,e47] at u1
 exact tr_flat u1 h
theorem Od (H : JF q σ) : (Cy (q 0) (q 1) (q 2) (q 3) (q 4) (q 5) (q 6) (q 7) (q 42) (q 43) (q 44) (q 45) (q 104) (q 151) (q 152) (q 167))→(¬ (q 200=0))→(q 691=2*((q 0*q 6-q 1*q 7-(q 2*q 4-q 3*q 5))*(q 0*q 6-q 1*q 7-(q 2*q 4-q 3*q 5))+(q 0*q 7+q 1*q 6-(q 2*q 5+q 3*q 4))*(q 0*q 7+q 1*q 6-(q 2*q 5+q 3*q 4)))*fac [q 104,q 151,q 152,q 167]*q 696) := by
 have e169:q 169=q 104*fac [q 104,q 151,q 152,q 167]:=H 169 _ rfl;have e170:q 170=q 151*fac [q 104,q 151,q 152,q 167]:=H 170 _ rfl;have e171:q 171=q 152*fac [q 104,q 151,q 152,q 167]:=H 171 _ rfl;have e172:q 172=q 167*fac [q 104,q 151,q 152,q 167]:=H 172 _ rfl;have e192:q 192=q 4*q 68:=H 192 _ rfl;have e193:q 193=q 5*q 68:=H 193 _ rfl;have e194:q 194=q 192-q 193:=H 194 _ rfl;have e195:q 195=q 192+q 193:=H 195 _ rfl;have e196:q 196=q 194+q 6:=H 196 _ rfl;have e197:q 197=q 195+q 7:=H 197 _ rfl;have e198:q 198=q 196*q 196:=H 198 _ rfl;have e199:q 199=q 197*q 197:=H 199 _ rfl;have e200:q 200=q 198+q 199:=H 200 _ rfl;have e210:q 210=q 0*q 68:=H 210 _ rfl;have e214:q 214=q 1*q 68:=H 214 _ rfl;have e225:q 225=1:=(H 225 _ rfl).trans Zc;have e239:q 239=q 68*q 68:=H 239 _ rfl;have e243:q 243=q 43*q 68:=H 243 _ rfl;have e329:q 329=q 44*q 68:=H 329 _ rfl;have e668:q 668=q 210-q 214:=H 668 _ rfl;have e669:q 669=q 210+q 214:=H 669 _ rfl;have e670:q 670=q 668+q 2:=H 670 _ rfl;have e671:q 671=q 669+q 3:=H 671 _ rfl;have e672:q 672=-q 197:=H 672 _ rfl;have e673:q 673=q 670*q 196:=H 673 _ rfl;have e674:q 674=q 671*q 672:=H 674 _ rfl;have e675:q 675=q 673-q 674:=H 675 _ rfl;have e676:q 676=q 670*q 672:=H 676 _ rfl;have e677:q 677=q 671*q 196:=H 677 _ rfl;have e678:q 678=q 676+q 677:=H 678 _ rfl;have e679:q 679=q 225/q 200:=H 679 _ rfl;have e680:q 680=q 675*q 679:=H 680 _ rfl;have e681:q 681=q 678*q 679:=H 681 _ rfl;have e682:q 682=q 680*q 680:=H 682 _ rfl;have e683:q 683=q 681*q 681:=H 683 _ rfl;have e684:q 684=q 682+q 683:=H 684 _ rfl;have e685:q 685=q 169*q 684:=H 685 _ rfl;have e686:q 686=q 170*q 680:=H 686 _ rfl;have e687:q 687=q 171*q 681:=H 687 _ rfl;have e688:q 688=q 685+q 686:=H 688 _ rfl;have e689:q 689=q 688+q 687:=H 689 _ rfl;have e690:q 690=q 689+q 172:=H 690 _ rfl;have e691:q 691=q 690*q 200:=H 691 _ rfl;have e692:q 692=q 239+q 239:=H 692 _ rfl;have e693:q 693=q 42*q 692:=H 693 _ rfl;have e694:q 694=q 693+q 243:=H 694 _ rfl;have e695:q 695=q 694+q 329:=H 695 _ rfl;have e696:q 696=q 695+q 45:=H 696 _ rfl
 clear H
 intro hc u0
 exact OU (v1 := q 68) (v2 := q 68) (p := q 196) (q := q 197) (n1 := q 670) (n2 := q 671) (nq := q 672) (X := q 675) (Y := q 678) (dt := q 200) (k := q 679) (w1 := q 680) (w2 := q 681) hc e169 e170 e171 e172 u0 (by rw [e200,e199,e198]) (by rw [e196,e194,e193,e192]) (by rw [e197,e195,e193,e192]) (by rw [e670,e668,e214,e210]) (by rw [e671,e669,e214,e210]) e672 (by rw [e675,e674,e673]) (by rw [e678,e677,e676]) (by rw [e679,e225]) e680 e681 (by rw [e691,e690,e689,e688,e687,e686,e685,e684,e683,e682]) (by rw [e696,e695,e694,e693,e692,e329,e243,e239])
theorem Ou (H : JF q σ) : (Cy (q 0) (q 1) (q 2) (q 3) (q 4) (q 5) (q 6) (q 7) (q 42) (q 43) (q 44) (q 45) (q 104) (q 151) (q 152) (q 167))→(¬ (q 209=0))→(q 238=2*((q 0*q 6-q 1*q 7-(q 2*q 4-q 3*q 5))*(q 0*q 6-q 1*q 7-(q 2*q 4-q 3*q 5))+(q 0*q 7+q 1*q 6-(q 2*q 5+q 3*q 4))*(q 0*q 7+q 1*q 6-(q 2*q 5+q 3*q 4)))*fac [q 104,q 151,q 152,q 167]*q 247) := by
 have e169:q 169=q 104*fac [q 104,q 151,q 152,q 167]:=H 169 _ rfl;have e170:q 170=q 151*fac [q 104,q 151,q 152,q 167]:=H 170 _ rfl;have e171:q 171=q 152*fac [q 104,q 151,q 152,q 167]:=H 171 _ rfl;have e172:q 172=q 167*fac [q 104,q 151,q 152,q 167]:=H 172 _ rfl;have e192:q 192=q 4*q 68:=H 192 _ rfl;have e193:q 193=q 5*q 68:=H 193 _ rfl;have e201:q 201=q 5*q 55:=H 201 _ rfl;have e202:q 202=q 192-q 201:=H 202 _ rfl;have e203:q 203=q 4*q 55:=H 203 _ rfl;have e204:q 204=q 203+q 193:=H 204 _ rfl;have e205:q 205=q 202+q 6:=H 205 _ rfl;have e206:q 206=q 204+q 7:=H 206 _ rfl;have e207:q 207=q 205*q 205:=H 207 _ rfl;have e208:q 208=q 206*q 206:=H 208 _ rfl;have e209:q 209=q 207+q 208:=H 209 _ rfl;have e210:q 210=q 0*q 68:=H 210 _ rfl;have e211:q 211=q 1*q 55:=H 211 _ rfl;have e212:q 212=q 210-q 211:=H 212 _ rfl;have e213:q 213=q 0*q 55:=H 213 _ rfl;have e214:q 214=q 1*q 68:=H 214 _ rfl;have e215:q 215=q 213+q 214:=H 215 _ rfl;have e216:q 216=q 212+q 2:=H 216 _ rfl;have e217:q 217=q 215+q 3:=H 217 _ rfl;have e218:q 218=-q 206:=H 218 _ rfl;have e219:q 219=q 216*q 205:=H 219 _ rfl;have e220:q 220=q 217*q 218:=H 220 _ rfl;have e221:q 221=q 219-q 220:=H 221 _ rfl;have e222:q 222=q 216*q 218:=H 222 _ rfl;have e223:q 223=q 217*q 205:=H 223 _ rfl;have e224:q 224=q 222+q 223:=H 224 _ rfl;have e225:q 225=1:=(H 225 _ rfl).trans Zc;have e226:q 226=q 225/q 209:=H 226 _ rfl;have e227:q 227=q 221*q 226:=H 227 _ rfl;have e228:q 228=q 224*q 226:=H 228 _ rfl;have e229:q 229=q 227*q 227:=H 229 _ rfl;have e230:q 230=q 228*q 228:=H 230 _ rfl;have e231:q 231=q 229+q 230:=H 231 _ rfl;have e232:q 232=q 169*q 231:=H 232 _ rfl;have e233:q 233=q 170*q 227:=H 233 _ rfl;have e234:q 234=q 171*q 228:=H 234 _ rfl;have e235:q 235=q 232+q 233:=H 235 _ rfl;have e236:q 236=q 235+q 234:=H 236 _ rfl;have e237:q 237=q 236+q 172:=H 237 _ rfl;have e238:q 238=q 237*q 209:=H 238 _ rfl;have e239:q 239=q 68*q 68:=H 239 _ rfl;have e240:q 240=q 55*q 55:=H 240 _ rfl;have e241:q 241=q 239+q 240:=H 241 _ rfl;have e242:q 242=q 42*q 241:=H 242 _ rfl;have e243:q 243=q 43*q 68:=H 243 _ rfl;have e244:q 244=q 44*q 55:=H 244 _ rfl;have e245:q 245=q 242+q 243:=H 245 _ rfl;have e246:q 246=q 245+q 244:=H 246 _ rfl;have e247:q 247=q 246+q 45:=H 247 _ rfl
 clear H
 intro hc u0
 exact OU (v1 := q 68) (v2 := q 55) (p := q 205) (q := q 206) (n1 := q 216) (n2 := q 217) (nq := q 218) (X := q 221) (Y := q 224) (dt := q 209) (k := q 226) (w1 := q 227) (w2 := q 228) hc e169 e170 e171 e172 u0 (by rw [e209,e208,e207]) (by rw [e205,e202,e201,e192]) (by rw [e206,e204,e203,e193]) (by rw [e216,e212,e211,e210]) (by rw [e217,e215,e214,e213]) e218 (by rw [e221,e220,e219]) (by rw [e224,e223,e222]) (by rw [e226,e225]) e227 e228 (by rw [e238,e237,e236,e235,e234,e233,e232,e231,e230,e229]) (by rw [e247,e246,e245,e244,e243,e242,e241,e240,e239])
theorem OE (H : JF q σ) : (Cy (q 0) (q 1) (q 2) (q 3) (q 4) (q 5) (q 6) (q 7) (q 42) (q 43) (q 44) (q 45) (q 104) (q 151) (q 152) (q 167))→(¬ (q 256=0))→(q 282=2*((q 0*q 6-q 1*q 7-(q 2*q 4-q 3*q 5))*(q 0*q 6-q 1*q 7-(q 2*q 4-q 3*q 5))+(q 0*q 7+q 1*q 6-(q 2*q 5+q 3*q 4))*(q 0*q 7+q 1*q 6-(q 2*q 5+q 3*q 4)))*fac [q 104,q 151,q 152,q 167]*q 289) := by
 have e169:q 169=q 104*fac [q 104,q 151,q 152,q 167]:=H 169 _ rfl;have e170:q 170=q 151*fac [q 104,q 151,q 152,q 167]:=H 170 _ rfl;have e171:q 171=q 152*fac [q 104,q 151,q 152,q 167]:=H 171 _ rfl;have e172:q 172=q 167*fac [q 104,q 151,q 152,q 167]:=H 172 _ rfl;have e192:q 192=q 4*q 68:=H 192 _ rfl;have e193:q 193=q 5*q 68:=H 193 _ rfl;have e210:q 210=q 0*q 68:=H 210 _ rfl;have e214:q 214=q 1*q 68:=H 214 _ rfl;have e225:q 225=1:=(H 225 _ rfl).trans Zc;have e239:q 239=q 68*q 68:=H 239 _ rfl;have e243:q 243=q 43*q 68:=H 243 _ rfl;have e248:q 248=q 5*q 49:=H 248 _ rfl;have e249:q 249=q 192-q 248:=H 249 _ rfl;have e250:q 250=q 4*q 49:=H 250 _ rfl;have e251:q 251=q 250+q 193:=H 251 _ rfl;have e252:q 252=q 249+q 6:=H 252 _ rfl;have e253:q 253=q 251+q 7:=H 253 _ rfl;have e254:q 254=q 252*q 252:=H 254 _ rfl;have e255:q 255=q 253*q 253:=H 255 _ rfl;have e256:q 256=q 254+q 255:=H 256 _ rfl;have e257:q 257=q 1*q 49:=H 257 _ rfl;have e258:q 258=q 210-q 257:=H 258 _ rfl;have e259:q 259=q 0*q 49:=H 259 _ rfl;have e260:q 260=q 259+q 214:=H 260 _ rfl;have e261:q 261=q 258+q 2:=H 261 _ rfl;have e262:q 262=q 260+q 3:=H 262 _ rfl;have e263:q 263=-q 253:=H 263 _ rfl;have e264:q 264=q 261*q 252:=H 264 _ rfl;have e265:q 265=q 262*q 263:=H 265 _ rfl;have e266:q 266=q 264-q 265:=H 266 _ rfl;have e267:q 267=q 261*q 263:=H 267 _ rfl;have e268:q 268=q 262*q 252:=H 268 _ rfl;have e269:q 269=q 267+q 268:=H 269 _ rfl;have e270:q 270=q 225/q 256:=H 270 _ rfl;have e271:q 271=q 266*q 270:=H 271 _ rfl;have e272:q 272=q 269*q 270:=H 272 _ rfl;have e273:q 273=q 271*q 271:=H 273 _ rfl;have e274:q 274=q 272*q 272:=H 274 _ rfl;have e275:q 275=q 273+q 274:=H 275 _ rfl;have e276:q 276=q 169*q 275:=H 276 _ rfl;have e277:q 277=q 170*q 271:=H 277 _ rfl;have e278:q 278=q 171*q 272:=H 278 _ rfl;have e279:q 279=q 276+q 277:=H 279 _ rfl;have e280:q 280=q 279+q 278:=H 280 _ rfl;have e281:q 281=q 280+q 172:=H 281 _ rfl;have e282:q 282=q 281*q 256:=H 282 _ rfl;have e283:q 283=q 49*q 49:=H 283 _ rfl;have e284:q 284=q 239+q 283:=H 284 _ rfl;have e285:q 285=q 42*q 284:=H 285 _ rfl;have e286:q 286=q 44*q 49:=H 286 _ rfl;have e287:q 287=q 285+q 243:=H 287 _ rfl;have e288:q 288=q 287+q 286:=H 288 _ rfl;have e289:q 289=q 288+q 45:=H 289 _ rfl
 clear H
 intro hc u0
 exact OU (v1 := q 68) (v2 := q 49) (p := q 252) (q := q 253) (n1 := q 261) (n2 := q 262) (nq := q 263) (X := q 266) (Y := q 269) (dt := q 256) (k := q 270) (w1 := q 271) (w2 := q 272) hc e169 e170 e171 e172 u0 (by rw [e256,e255,e254]) (by rw [e252,e249,e248,e192]) (by rw [e253,e251,e250,e193]) (by rw [e261,e258,e257,e210]) (by rw [e262,e260,e259,e214]) e263 (by rw [e266,e265,e264]) (by rw [e269,e268,e267]) (by rw [e270,e225]) e271 e272 (by rw [e282,e281,e280,e279,e278,e277,e276,e275,e274,e273]) (by rw [e289,e288,e287,e286,e285,e284,e283,e243,e239])
theorem Io (H : JF q σ) : (Cy (q 0) (q 1) (q 2) (q 3) (q 4) (q 5) (q 6) (q 7) (q 42) (q 43) (q 44) (q 45) (q 104) (q 151) (q 152) (q 167))→(¬ (q 298=0))→(q 324=2*((q 0*q 6-q 1*q 7-(q 2*q 4-q 3*q 5))*(q 0*q 6-q 1*q 7-(q 2*q 4-q 3*q 5))+(q 0*q 7+q 1*q 6-(q 2*q 5+q 3*q 4))*(q 0*q 7+q 1*q 6-(q 2*q 5+q 3*q 4)))*fac [q 104,q 151,q 152,q 167]*q 332) := by
 have e169:q 169=q 104*fac [q 104,q 151,q 152,q 167]:=H 169 _ rfl;have e170:q 170=q 151*fac [q 104,q 151,q 152,q 167]:=H 170 _ rfl;have e171:q 171=q 152*fac [q 104,q 151,q 152,q 167]:=H 171 _ rfl;have e172:q 172=q 167*fac [q 104,q 151,q 152,q 167]:=H 172 _ rfl;have e192:q 192=q 4*q 68:=H 192 _ rfl;have e193:q 193=q 5*q 68:=H 193 _ rfl;have e210:q 210=q 0*q 68:=H 210 _ rfl;have e214:q 214=q 1*q 68:=H 214 _ rfl;have e225:q 225=1:=(H 225 _ rfl).trans Zc;have e239:q 239=q 68*q 68:=H 239 _ rfl;have e290:q 290=q 4*q 225:=H 290 _ rfl;have e291:q 291=q 290-q 193:=H 291 _ rfl;have e292:q 292=q 5*q 225:=H 292 _ rfl;have e293:q 293=q 192+q 292:=H 293 _ rfl;have e294:q 294=q 291+q 6:=H 294 _ rfl;have e295:q 295=q 293+q 7:=H 295 _ rfl;have e296:q 296=q 294*q 294:=H 296 _ rfl;have e297:q 297=q 295*q 295:=H 297 _ rfl;have e298:q 298=q 296+q 297:=H 298 _ rfl;have e299:q 299=q 0*q 225:=H 299 _ rfl;have e300:q 300=q 299-q 214:=H 300 _ rfl;have e301:q 301=q 1*q 225:=H 301 _ rfl;have e302:q 302=q 210+q 301:=H 302 _ rfl;have e303:q 303=q 300+q 2:=H 303 _ rfl;have e304:q 304=q 302+q 3:=H 304 _ rfl;have e305:q 305=-q 295:=H 305 _ rfl;have e306:q 306=q 303*q 294:=H 306 _ rfl;have e307:q 307=q 304*q 305:=H 307 _ rfl;have e308:q 308=q 306-q 307:=H 308 _ rfl;have e309:q 309=q 303*q 305:=H 309 _ rfl;have e310:q 310=q 304*q 294:=H 310 _ rfl;have e311:q 311=q 309+q 310:=H 311 _ rfl;have e312:q 312=q 225/q 298:=H 312 _ rfl;have e313:q 313=q 308*q 312:=H 313 _ rfl;have e314:q 314=q 311*q 312:=H 314 _ rfl;have e315:q 315=q 313*q 313:=H 315 _ rfl;have e316:q 316=q 314*q 314:=H 316 _ rfl;have e317:q 317=q 315+q 316:=H 317 _ rfl;have e318:q 318=q 169*q 317:=H 318 _ rfl;have e319:q 319=q 170*q 313:=H 319 _ rfl;have e320:q 320=q 171*q 314:=H 320 _ rfl;have e321:q 321=q 318+q 319:=H 321 _ rfl;have e322:q 322=q 321+q 320:=H 322 _ rfl;have e323:q 323=q 322+q 172:=H 323 _ rfl;have e324:q 324=q 323*q 298:=H 324 _ rfl;have e325:q 325=q 225*q 225:=H 325 _ rfl;have e326:q 326=q 325+q 239:=H 326 _ rfl;have e327:q 327=q 42*q 326:=H 327 _ rfl;have e328:q 328=q 43*q 225:=H 328 _ rfl;have e329:q 329=q 44*q 68:=H 329 _ rfl;have e330:q 330=q 327+q 328:=H 330 _ rfl;have e331:q 331=q 330+q 329:=H 331 _ rfl;have e332:q 332=q 331+q 45:=H 332 _ rfl
 clear H
 intro hc u0
 exact OU (v1 := q 225) (v2 := q 68) (p := q 294) (q := q 295) (n1 := q 303) (n2 := q 304) (nq := q 305) (X := q 308) (Y := q 311) (dt := q 298) (k := q 312) (w1 := q 313) (w2 := q 314) hc e169 e170 e171 e172 u0 (by rw [e298,e297,e296]) (by rw [e294,e291,e290,e193]) (by rw [e295,e293,e292,e192]) (by rw [e303,e300,e299,e214]) (by rw [e304,e302,e301,e210]) e305 (by rw [e308,e307,e306]) (by rw [e311,e310,e309]) (by rw [e312,e225]) e313 e314 (by rw [e324,e323,e322,e321,e320,e319,e318,e317,e316,e315]) (by rw [e332,e331,e330,e329,e328,e327,e326,e325,e239])
theorem OK (H : JF q σ) : (Cy (q 0) (q 1) (q 2) (q 3) (q 4) (q 5) (q 6) (q 7) (q 42) (q 43) (q 44) (q 45) (q 104) (q 151) (q 152) (q 167))→(¬ (q 339=0))→(q 363=2*((q 0*q 6-q 1*q 7-(q 2*q 4-q 3*q 5))*(q 0*q 6-q 1*q 7-(q 2*q 4-q 3*q 5))+(q 0*q 7+q 1*q 6-(q 2*q 5+q 3*q 4))*(q 0*q 7+q 1*q 6-(q 2*q 5+q 3*q 4)))*fac [q 104,q 151,q 152,q 167]*q 368) := by
 have e169:q 169=q 104*fac [q 104,q 151,q 152,q 167]:=H 169 _ rfl;have e170:q 170=q 151*fac [q 104,q 151,q 152,q 167]:=H 170 _ rfl;have e171:q 171=q 152*fac [q 104,q 151,q 152,q 167]:=H 171 _ rfl;have e172:q 172=q 167*fac [q 104,q 151,q 152,q 167]:=H 172 _ rfl;have e201:q 201=q 5*q 55:=H 201 _ rfl;have e203:q 203=q 4*q 55:=H 203 _ rfl;have e211:q 211=q 1*q 55:=H 211 _ rfl;have e213:q 213=q 0*q 55:=H 213 _ rfl;have e225:q 225=1:=(H 225 _ rfl).trans Zc;have e240:q 240=q 55*q 55:=H 240 _ rfl;have e244:q 244=q 44*q 55:=H 244 _ rfl;have e290:q 290=q 4*q 225:=H 290 _ rfl;have e292:q 292=q 5*q 225:=H 292 _ rfl;have e299:q 299=q 0*q 225:=H 299 _ rfl;have e301:q 301=q 1*q 225:=H 301 _ rfl;have e325:q 325=q 225*q 225:=H 325 _ rfl;have e328:q 328=q 43*q 225:=H 328 _ rfl;have e333:q 333=q 290-q 201:=H 333 _ rfl;have e334:q 334=q 203+q 292:=H 334 _ rfl;have e335:q 335=q 333+q 6:=H 335 _ rfl;have e336:q 336=q 334+q 7:=H 336 _ rfl;have e337:q 337=q 335*q 335:=H 337 _ rfl;have e338:q 338=q 336*q 336:=H 338 _ rfl;have e339:q 339=q 337+q 338:=H 339 _ rfl;have e340:q 340=q 299-q 211:=H 340 _ rfl;have e341:q 341=q 213+q 301:=H 341 _ rfl;have e342:q 342=q 340+q 2:=H 342 _ rfl;have e343:q 343=q 341+q 3:=H 343 _ rfl;have e344:q 344=-q 336:=H 344 _ rfl;have e345:q 345=q 342*q 335:=H 345 _ rfl;have e346:q 346=q 343*q 344:=H 346 _ rfl;have e347:q 347=q 345-q 346:=H 347 _ rfl;have e348:q 348=q 342*q 344:=H 348 _ rfl;have e349:q 349=q 343*q 335:=H 349 _ rfl;have e350:q 350=q 348+q 349:=H 350 _ rfl;have e351:q 351=q 225/q 339:=H 351 _ rfl;have e352:q 352=q 347*q 351:=H 352 _ rfl;have e353:q 353=q 350*q 351:=H 353 _ rfl;have e354:q 354=q 352*q 352:=H 354 _ rfl;have e355:q 355=q 353*q 353:=H 355 _ rfl;have e356:q 356=q 354+q 355:=H 356 _ rfl;have e357:q 357=q 169*q 356:=H 357 _ rfl;have e358:q 358=q 170*q 352:=H 358 _ rfl;have e359:q 359=q 171*q 353:=H 359 _ rfl;have e360:q 360=q 357+q 358:=H 360 _ rfl;have e361:q 361=q 360+q 359:=H 361 _ rfl;have e362:q 362=q 361+q 172:=H 362 _ rfl;have e363:q 363=q 362*q 339:=H 363 _ rfl;have e364:q 364=q 325+q 240:=H 364 _ rfl;have e365:q 365=q 42*q 364:=H 365 _ rfl;have e366:q 366=q 365+q 328:=H 366 _ rfl;have e367:q 367=q 366+q 244:=H 367 _ rfl;have e368:q 368=q 367+q 45:=H 368 _ rfl
 clear H
 intro hc u0
 exact OU (v1 := q 225) (v2 := q 55) (p := q 335) (q := q 336) (n1 := q 342) (n2 := q 343) (nq := q 344) (X := q 347) (Y := q 350) (dt := q 339) (k := q 351) (w1 := q 352) (w2 := q 353) hc e169 e170 e171 e172 u0 (by rw [e339,e338,e337]) (by rw [e335,e333,e290,e201]) (by rw [e336,e334,e292,e203]) (by rw [e342,e340,e299,e211]) (by rw [e343,e341,e301,e213]) e344 (by rw [e347,e346,e345]) (by rw [e350,e349,e348]) (by rw [e351,e225]) e352 e353 (by rw [e363,e362,e361,e360,e359,e358,e357,e356,e355,e354]) (by rw [e368,e367,e366,e365,e364,e328,e325,e244,e240])
theorem OQ (H : JF q σ) : (Cy (q 0) (q 1) (q 2) (q 3) (q 4) (q 5) (q 6) (q 7) (q 42) (q 43) (q 44) (q 45) (q 104) (q 151) (q 152) (q 167))→(¬ (q 375=0))→(q 399=2*((q 0*q 6-q 1*q 7-(q 2*q 4-q 3*q 5))*(q 0*q 6-q 1*q 7-(q 2*q 4-q 3*q 5))+(q 0*q 7+q 1*q 6-(q 2*q 5+q 3*q 4))*(q 0*q 7+q 1*q 6-(q 2*q 5+q 3*q 4)))*fac [q 104,q 151,q 152,q 167]*q 404) := by
 have e169:q 169=q 104*fac [q 104,q 151,q 152,q 167]:=H 169 _ rfl;have e170:q 170=q 151*fac [q 104,q 151,q 152,q 167]:=H 170 _ rfl;have e171:q 171=q 152*fac [q 104,q 151,q 152,q 167]:=H 171 _ rfl;have e172:q 172=q 167*fac [q 104,q 151,q 152,q 167]:=H 172 _ rfl;have e225:q 225=1:=(H 225 _ rfl).trans Zc;have e248:q 248=q 5*q 49:=H 248 _ rfl;have e250:q 250=q 4*q 49:=H 250 _ rfl;have e257:q 257=q 1*q 49:=H 257 _ rfl;have e259:q 259=q 0*q 49:=H 259 _ rfl;have e283:q 283=q 49*q 49:=H 283 _ rfl;have e286:q 286=q 44*q 49:=H 286 _ rfl;have e290:q 290=q 4*q 225:=H 290 _ rfl;have e292:q 292=q 5*q 225:=H 292 _ rfl;have e299:q 299=q 0*q 225:=H 299 _ rfl;have e301:q 301=q 1*q 225:=H 301 _ rfl;have e325:q 325=q 225*q 225:=H 325 _ rfl;have e328:q 328=q 43*q 225:=H 328 _ rfl;have e369:q 369=q 290-q 248:=H 369 _ rfl;have e370:q 370=q 250+q 292:=H 370 _ rfl;have e371:q 371=q 369+q 6:=H 371 _ rfl;have e372:q 372=q 370+q 7:=H 372 _ rfl;have e373:q 373=q 371*q 371:=H 373 _ rfl;have e374:q 374=q 372*q 372:=H 374 _ rfl;have e375:q 375=q 373+q 374:=H 375 _ rfl;have e376:q 376=q 299-q 257:=H 376 _ rfl;have e377:q 377=q 259+q 301:=H 377 _ rfl;have e378:q 378=q 376+q 2:=H 378 _ rfl;have e379:q 379=q 377+q 3:=H 379 _ rfl;have e380:q 380=-q 372:=H 380 _ rfl;have e381:q 381=q 378*q 371:=H 381 _ rfl;have e382:q 382=q 379*q 380:=H 382 _ rfl;have e383:q 383=q 381-q 382:=H 383 _ rfl;have e384:q 384=q 378*q 380:=H 384 _ rfl;have e385:q 385=q 379*q 371:=H 385 _ rfl;have e386:q 386=q 384+q 385:=H 386 _ rfl;have e387:q 387=q 225/q 375:=H 387 _ rfl;have e388:q 388=q 383*q 387:=H 388 _ rfl;have e389:q 389=q 386*q 387:=H 389 _ rfl;have e390:q 390=q 388*q 388:=H 390 _ rfl;have e391:q 391=q 389*q 389:=H 391 _ rfl;have e392:q 392=q 390+q 391:=H 392 _ rfl;have e393:q 393=q 169*q 392:=H 393 _ rfl;have e394:q 394=q 170*q 388:=H 394 _ rfl;have e395:q 395=q 171*q 389:=H 395 _ rfl;have e396:q 396=q 393+q 394:=H 396 _ rfl;have e397:q 397=q 396+q 395:=H 397 _ rfl;have e398:q 398=q 397+q 172:=H 398 _ rfl;have e399:q 399=q 398*q 375:=H 399 _ rfl;have e400:q 400=q 325+q 283:=H 400 _ rfl;have e401:q 401=q 42*q 400:=H 401 _ rfl;have e402:q 402=q 401+q 328:=H 402 _ rfl;have e403:q 403=q 402+q 286:=H 403 _ rfl;have e404:q 404=q 403+q 45:=H 404 _ rfl
 clear H
 intro hc u0
 exact OU (v1 := q 225) (v2 := q 49) (p := q 371) (q := q 372) (n1 := q 378) (n2 := q 379) (nq := q 380) (X := q 383) (Y := q 386) (dt := q 375) (k := q 387) (w1 := q 388) (w2 := q 389) hc e169 e170 e171 e172 u0 (by rw [e375,e374,e373]) (by rw [e371,e369,e290,e248]) (by rw [e372,e370,e292,e250]) (by rw [e378,e376,e299,e257]) (by rw [e379,e377,e301,e259]) e380 (by rw [e383,e382,e381]) (by rw [e386,e385,e384]) (by rw [e387,e225]) e388 e389 (by rw [e399,e398,e397,e396,e395,e394,e393,e392,e391,e390]) (by rw [e404,e403,e402,e401,e400,e328,e325,e286,e283])
theorem Ob (H : JF q σ) : (Cy (q 0) (q 1) (q 2) (q 3) (q 4) (q 5) (q 6) (q 7) (q 42) (q 43) (q 44) (q 45) (q 104) (q 151) (q 152) (q 167))→(¬ (q 411=0))→(q 435=2*((q 0*q 6-q 1*q 7-(q 2*q 4-q 3*q 5))*(q 0*q 6-q 1*q 7-(q 2*q 4-q 3*q 5))+(q 0*q 7+q 1*q 6-(q 2*q 5+q 3*q 4))*(q 0*q 7+q 1*q 6-(q 2*q 5+q 3*q 4)))*fac [q 104,q 151,q 152,q 167]*q 441) := by
 have e169:q 169=q 104*fac [q 104,q 151,q 152,q 167]:=H 169 _ rfl;have e170:q 170=q 151*fac [q 104,q 151,q 152,q 167]:=H 170 _ rfl;have e171:q 171=q 152*fac [q 104,q 151,q 152,q 167]:=H 171 _ rfl;have e172:q 172=q 167*fac [q 104,q 151,q 152,q 167]:=H 172 _ rfl;have e192:q 192=q 4*q 68:=H 192 _ rfl;have e193:q 193=q 5*q 68:=H 193 _ rfl;have e201:q 201=q 5*q 55:=H 201 _ rfl;have e203:q 203=q 4*q 55:=H 203 _ rfl;have e210:q 210=q 0*q 68:=H 210 _ rfl;have e211:q 211=q 1*q 55:=H 211 _ rfl;have e213:q 213=q 0*q 55:=H 213 _ rfl;have e214:q 214=q 1*q 68:=H 214 _ rfl;have e225:q 225=1:=(H 225 _ rfl).trans Zc;have e239:q 239=q 68*q 68:=H 239 _ rfl;have e240:q 240=q 55*q 55:=H 240 _ rfl;have e329:q 329=q 44*q 68:=H 329 _ rfl;have e405:q 405=q 203-q 193:=H 405 _ rfl;have e406:q 406=q 192+q 201:=H 406 _ rfl;have e407:q 407=q 405+q 6:=H 407 _ rfl;have e408:q 408=q 406+q 7:=H 408 _ rfl;have e409:q 409=q 407*q 407:=H 409 _ rfl;have e410:q 410=q 408*q 408:=H 410 _ rfl;have e411:q 411=q 409+q 410:=H 411 _ rfl;have e412:q 412=q 213-q 214:=H 412 _ rfl;have e413:q 413=q 210+q 211:=H 413 _ rfl;have e414:q 414=q 412+q 2:=H 414 _ rfl;have e415:q 415=q 413+q 3:=H 415 _ rfl;have e416:q 416=-q 408:=H 416 _ rfl;have e417:q 417=q 414*q 407:=H 417 _ rfl;have e418:q 418=q 415*q 416:=H 418 _ rfl;have e419:q 419=q 417-q 418:=H 419 _ rfl;have e420:q 420=q 414*q 416:=H 420 _ rfl;have e421:q 421=q 415*q 407:=H 421 _ rfl;have e422:q 422=q 420+q 421:=H 422 _ rfl;have e423:q 423=q 225/q 411:=H 423 _ rfl;have e424:q 424=q 419*q 423:=H 424 _ rfl;have e425:q 425=q 422*q 423:=H 425 _ rfl;have e426:q 426=q 424*q 424:=H 426 _ rfl;have e427:q 427=q 425*q 425:=H 427 _ rfl;have e428:q 428=q 426+q 427:=H 428 _ rfl;have e429:q 429=q 169*q 428:=H 429 _ rfl;have e430:q 430=q 170*q 424:=H 430 _ rfl;have e431:q 431=q 171*q 425:=H 431 _ rfl;have e432:q 432=q 429+q 430:=H 432 _ rfl;have e433:q 433=q 432+q 431:=H 433 _ rfl;have e434:q 434=q 433+q 172:=H 434 _ rfl;have e435:q 435=q 434*q 411:=H 435 _ rfl;have e436:q 436=q 240+q 239:=H 436 _ rfl;have e437:q 437=q 42*q 436:=H 437 _ rfl;have e438:q 438=q 43*q 55:=H 438 _ rfl;have e439:q 439=q 437+q 438:=H 439 _ rfl;have e440:q 440=q 439+q 329:=H 440 _ rfl;have e441:q 441=q 440+q 45:=H 441 _ rfl
 clear H
 intro hc u0
 exact OU (v1 := q 55) (v2 := q 68) (p := q 407) (q := q 408) (n1 := q 414) (n2 := q 415) (nq := q 416) (X := q 419) (Y := q 422) (dt := q 411) (k := q 423) (w1 := q 424) (w2 := q 425) hc e169 e170 e171 e172 u0 (by rw [e411,e410,e409]) (by rw [e407,e405,e203,e193]) (by rw [e408,e406,e201,e192]) (by rw [e414,e412,e214,e213]) (by rw [e415,e413,e211,e210]) e416 (by rw [e419,e418,e417]) (by rw [e422,e421,e420]) (by rw [e423,e225]) e424 e425 (by rw [e435,e434,e433,e432,e431,e430,e429,e428,e427,e426]) (by rw [e441,e440,e439,e438,e437,e436,e329,e240,e239])
theorem Ov (H : JF q σ) : (Cy (q 0) (q 1) (q 2) (q 3) (q 4) (q 5) (q 6) (q 7) (q 42) (q 43) (q 44) (q 45) (q 104) (q 151) (q 152) (q 167))→(¬ (q 448=0))→(q 472=2*((q 0*q 6-q 1*q 7-(q 2*q 4-q 3*q 5))*(q 0*q 6-q 1*q 7-(q 2*q 4-q 3*q 5))+(q 0*q 7+q 1*q 6-(q 2*q 5+q 3*q 4))*(q 0*q 7+q 1*q 6-(q 2*q 5+q 3*q 4)))*fac [q 104,q 151,q 152,q 167]*q 477) := by
 have e169:q 169=q 104*fac [q 104,q 151,q 152,q 167]:=H 169 _ rfl;have e170:q 170=q 151*fac [q 104,q 151,q 152,q 167]:=H 170 _ rfl;have e171:q 171=q 152*fac [q 104,q 151,q 152,q 167]:=H 171 _ rfl;have e172:q 172=q 167*fac [q 104,q 151,q 152,q 167]:=H 172 _ rfl;have e201:q 201=q 5*q 55:=H 201 _ rfl;have e203:q 203=q 4*q 55:=H 203 _ rfl;have e211:q 211=q 1*q 55:=H 211 _ rfl;have e213:q 213=q 0*q 55:=H 213 _ rfl;have e225:q 225=1:=(H 225 _ rfl).trans Zc;have e240:q 240=q 55*q 55:=H 240 _ rfl;have e244:q 244=q 44*q 55:=H 244 _ rfl;have e438:q 438=q 43*q 55:=H 438 _ rfl;have e442:q 442=q 203-q 201:=H 442 _ rfl;have e443:q 443=q 203+q 201:=H 443 _ rfl;have e444:q 444=q 442+q 6:=H 444 _ rfl;have e445:q 445=q 443+q 7:=H 445 _ rfl;have e446:q 446=q 444*q 444:=H 446 _ rfl;have e447:q 447=q 445*q 445:=H 447 _ rfl;have e448:q 448=q 446+q 447:=H 448 _ rfl;have e449:q 449=q 213-q 211:=H 449 _ rfl;have e450:q 450=q 213+q 211:=H 450 _ rfl;have e451:q 451=q 449+q 2:=H 451 _ rfl;have e452:q 452=q 450+q 3:=H 452 _ rfl;have e453:q 453=-q 445:=H 453 _ rfl;have e454:q 454=q 451*q 444:=H 454 _ rfl;have e455:q 455=q 452*q 453:=H 455 _ rfl;have e456:q 456=q 454-q 455:=H 456 _ rfl;have e457:q 457=q 451*q 453:=H 457 _ rfl;have e458:q 458=q 452*q 444:=H 458 _ rfl;have e459:q 459=q 457+q 458:=H 459 _ rfl;have e460:q 460=q 225/q 448:=H 460 _ rfl;have e461:q 461=q 456*q 460:=H 461 _ rfl;have e462:q 462=q 459*q 460:=H 462 _ rfl;have e463:q 463=q 461*q 461:=H 463 _ rfl;have e464:q 464=q 462*q 462:=H 464 _ rfl;have e465:q 465=q 463+q 464:=H 465 _ rfl;have e466:q 466=q 169*q 465:=H 466 _ rfl;have e467:q 467=q 170*q 461:=H 467 _ rfl;have e468:q 468=q 171*q 462:=H 468 _ rfl;have e469:q 469=q 466+q 467:=H 469 _ rfl;have e470:q 470=q 469+q 468:=H 470 _ rfl;have e471:q 471=q 470+q 172:=H 471 _ rfl;have e472:q 472=q 471*q 448:=H 472 _ rfl;have e473:q 473=q 240+q 240:=H 473 _ rfl;have e474:q 474=q 42*q 473:=H 474 _ rfl;have e475:q 475=q 474+q 438:=H 475 _ rfl;have e476:q 476=q 475+q 244:=H 476 _ rfl;have e477:q 477=q 476+q 45:=H 477 _ rfl
 clear H
 intro hc u0
 exact OU (v1 := q 55) (v2 := q 55) (p := q 444) (q := q 445) (n1 := q 451) (n2 := q 452) (nq := q 453) (X := q 456) (Y := q 459) (dt := q 448) (k := q 460) (w1 := q 461) (w2 := q 462) hc e169 e170 e171 e172 u0 (by rw [e448,e447,e446]) (by rw [e444,e442,e203,e201]) (by rw [e445,e443,e203,e201]) (by rw [e451,e449,e213,e211]) (by rw [e452,e450,e213,e211]) e453 (by rw [e456,e455,e454]) (by rw [e459,e458,e457]) (by rw [e460,e225]) e461 e462 (by rw [e472,e471,e470,e469,e468,e467,e466,e465,e464,e463]) (by rw [e477,e476,e475,e474,e473,e438,e244,e240])
theorem Ig (H : JF q σ) : (Cy (q 0) (q 1) (q 2) (q 3) (q 4) (q 5) (q 6) (q 7) (q 42) (q 43) (q 44) (q 45) (q 104) (q 151) (q 152) (q 167))→(¬ (q 484=0))→(q 508=2*((q 0*q 6-q 1*q 7-(q 2*q 4-q 3*q 5))*(q 0*q 6-q 1*q 7-(q 2*q 4-q 3*q 5))+(q 0*q 7+q 1*q 6-(q 2*q 5+q 3*q 4))*(q 0*q 7+q 1*q 6-(q 2*q 5+q 3*q 4)))*fac [q 104,q 151,q 152,q 167]*q 513) := by
 have e169:q 169=q 104*fac [q 104,q 151,q 152,q 167]:=H 169 _ rfl;have e170:q 170=q 151*fac [q 104,q 151,q 152,q 167]:=H 170 _ rfl;have e171:q 171=q 152*fac [q 104,q 151,q 152,q 167]:=H 171 _ rfl;have e172:q 172=q 167*fac [q 104,q 151,q 152,q 167]:=H 172 _ rfl;have e201:q 201=q 5*q 55:=H 201 _ rfl;have e203:q 203=q 4*q 55:=H 203 _ rfl;have e211:q 211=q 1*q 55:=H 211 _ rfl;have e213:q 213=q 0*q 55:=H 213 _ rfl;have e225:q 225=1:=(H 225 _ rfl).trans Zc;have e240:q 240=q 55*q 55:=H 240 _ rfl;have e248:q 248=q 5*q 49:=H 248 _ rfl;have e250:q 250=q 4*q 49:=H 250 _ rfl;have e257:q 257=q 1*q 49:=H 257 _ rfl;have e259:q 259=q 0*q 49:=H 259 _ rfl;have e283:q 283=q 49*q 49:=H 283 _ rfl;have e286:q 286=q 44*q 49:=H 286 _ rfl;have e438:q 438=q 43*q 55:=H 438 _ rfl;have e478:q 478=q 203-q 248:=H 478 _ rfl;have e479:q 479=q 250+q 201:=H 479 _ rfl;have e480:q 480=q 478+q 6:=H 480 _ rfl;have e481:q 481=q 479+q 7:=H 481 _ rfl;have e482:q 482=q 480*q 480:=H 482 _ rfl;have e483:q 483=q 481*q 481:=H 483 _ rfl;have e484:q 484=q 482+q 483:=H 484 _ rfl;have e485:q 485=q 213-q 257:=H 485 _ rfl;have e486:q 486=q 259+q 211:=H 486 _ rfl;have e487:q 487=q 485+q 2:=H 487 _ rfl;have e488:q 488=q 486+q 3:=H 488 _ rfl;have e489:q 489=-q 481:=H 489 _ rfl;have e490:q 490=q 487*q 480:=H 490 _ rfl;have e491:q 491=q 488*q 489:=H 491 _ rfl;have e492:q 492=q 490-q 491:=H 492 _ rfl;have e493:q 493=q 487*q 489:=H 493 _ rfl;have e494:q 494=q 488*q 480:=H 494 _ rfl;have e495:q 495=q 493+q 494:=H 495 _ rfl;have e496:q 496=q 225/q 484:=H 496 _ rfl;have e497:q 497=q 492*q 496:=H 497 _ rfl;have e498:q 498=q 495*q 496:=H 498 _ rfl;have e499:q 499=q 497*q 497:=H 499 _ rfl;have e500:q 500=q 498*q 498:=H 500 _ rfl;have e501:q 501=q 499+q 500:=H 501 _ rfl;have e502:q 502=q 169*q 501:=H 502 _ rfl;have e503:q 503=q 170*q 497:=H 503 _ rfl;have e504:q 504=q 171*q 498:=H 504 _ rfl;have e505:q 505=q 502+q 503:=H 505 _ rfl;have e506:q 506=q 505+q 504:=H 506 _ rfl;have e507:q 507=q 506+q 172:=H 507 _ rfl;have e508:q 508=q 507*q 484:=H 508 _ rfl;have e509:q 509=q 240+q 283:=H 509 _ rfl;have e510:q 510=q 42*q 509:=H 510 _ rfl;have e511:q 511=q 510+q 438:=H 511 _ rfl;have e512:q 512=q 511+q 286:=H 512 _ rfl;have e513:q 513=q 512+q 45:=H 513 _ rfl
 clear H
 intro hc u0
 exact OU (v1 := q 55) (v2 := q 49) (p := q 480) (q := q 481) (n1 := q 487) (n2 := q 488) (nq := q 489) (X := q 492) (Y := q 495) (dt := q 484) (k := q 496) (w1 := q 497) (w2 := q 498) hc e169 e170 e171 e172 u0 (by rw [e484,e483,e482]) (by rw [e480,e478,e248,e203]) (by rw [e481,e479,e250,e201]) (by rw [e487,e485,e257,e213]) (by rw [e488,e486,e259,e211]) e489 (by rw [e492,e491,e490]) (by rw [e495,e494,e493]) (by rw [e496,e225]) e497 e498 (by rw [e508,e507,e506,e505,e504,e503,e502,e501,e500,e499]) (by rw [e513,e512,e511,e510,e509,e438,e286,e283,e240])
theorem tY_U0 (H : JF q σ) : (¬ ((q 0*q 6-q 1*q 7-(q 2*q 4-q 3*q 5))=0∧(q 0*q 7+q 1*q 6-(q 2*q 5+q 3*q 4))=0))→(q 200=0)→(¬ (q 209=0)∧¬ (q 256=0)∧¬ (q 298=0)∧¬ (q 339=0)∧¬ (q 375=0)∧¬ (q 411=0)∧¬ (q 448=0)∧¬ (q 484=0)) := by
 have e49:q 49=4:=(H 49 _ rfl).trans ZW;have e55:q 55=2:=(H 55 _ rfl).trans Jh;have e68:q 68=0:=(H 68 _ rfl).trans Jq;have e192:q 192=q 4*q 68:=H 192 _ rfl;have e193:q 193=q 5*q 68:=H 193 _ rfl;have e194:q 194=q 192-q 193:=H 194 _ rfl;have e195:q 195=q 192+q 193:=H 195 _ rfl;have e196:q 196=q 194+q 6:=H 196 _ rfl;have e197:q 197=q 195+q 7:=H 197 _ rfl;have e198:q 198=q 196*q 196:=H 198 _ rfl;have e199:q 199=q 197*q 197:=H 199 _ rfl;have e200:q 200=q 198+q 199:=H 200 _ rfl;have e201:q 201=q 5*q 55:=H 201 _ rfl;have e202:q 202=q 192-q 201:=H 202 _ rfl;have e203:q 203=q 4*q 55:=H 203 _ rfl;have e204:q 204=q 203+q 193:=H 204 _ rfl;have e205:q 205=q 202+q 6:=H 205 _ rfl;have e206:q 206=q 204+q 7:=H 206 _ rfl;have e207:q 207=q 205*q 205:=H 207 _ rfl;have e208:q 208=q 206*q 206:=H 208 _ rfl;have e209:q 209=q 207+q 208:=H 209 _ rfl;have e225:q 225=1:=(H 225 _ rfl).trans Zc;have e248:q 248=q 5*q 49:=H 248 _ rfl;have e249:q 249=q 192-q 248:=H 249 _ rfl;have e250:q 250=q 4*q 49:=H 250 _ rfl;have e251:q 251=q 250+q 193:=H 251 _ rfl;have e252:q 252=q 249+q 6:=H 252 _ rfl;have e253:q 253=q 251+q 7:=H 253 _ rfl;have e254:q 254=q 252*q 252:=H 254 _ rfl;have e255:q 255=q 253*q 253:=H 255 _ rfl;have e256:q 256=q 254+q 255:=H 256 _ rfl;have e290:q 290=q 4*q 225:=H 290 _ rfl;have e291:q 291=q 290-q 193:=H 291 _ rfl;have e292:q 292=q 5*q 225:=H 292 _ rfl;have e293:q 293=q 192+q 292:=H 293 _ rfl;have e294:q 294=q 291+q 6:=H 294 _ rfl;have e295:q 295=q 293+q 7:=H 295 _ rfl;have e296:q 296=q 294*q 294:=H 296 _ rfl;have e297:q 297=q 295*q 295:=H 297 _ rfl;have e298:q 298=q 296+q 297:=H 298 _ rfl;have e333:q 333=q 290-q 201:=H 333 _ rfl;have e334:q 334=q 203+q 292:=H 334 _ rfl;have e335:q 335=q 333+q 6:=H 335 _ rfl;have e336:q 336=q 334+q 7:=H 336 _ rfl;have e337:q 337=q 335*q 335:=H 337 _ rfl;have e338:q 338=q 336*q 336:=H 338 _ rfl;have e339:q 339=q 337+q 338:=H 339 _ rfl;have e369:q 369=q 290-q 248:=H 369 _ rfl;have e370:q 370=q 250+q 292:=H 370 _ rfl;have e371:q 371=q 369+q 6:=H 371 _ rfl;have e372:q 372=q 370+q 7:=H 372 _ rfl;have e373:q 373=q 371*q 371:=H 373 _ rfl;have e374:q 374=q 372*q 372:=H 374 _ rfl;have e375:q 375=q 373+q 374:=H 375 _ rfl;have e405:q 405=q 203-q 193:=H 405 _ rfl;have e406:q 406=q 192+q 201:=H 406 _ rfl;have e407:q 407=q 405+q 6:=H 407 _ rfl;have e408:q 408=q 406+q 7:=H 408 _ rfl;have e409:q 409=q 407*q 407:=H 409 _ rfl;have e410:q 410=q 408*q 408:=H 410 _ rfl;have e411:q 411=q 409+q 410:=H 411 _ rfl;have e442:q 442=q 203-q 201:=H 442 _ rfl;have e443:q 443=q 203+q 201:=H 443 _ rfl;have e444:q 444=q 442+q 6:=H 444 _ rfl;have e445:q 445=q 443+q 7:=H 445 _ rfl;have e446:q 446=q 444*q 444:=H 446 _ rfl;have e447:q 447=q 445*q 445:=H 447 _ rfl;have e448:q 448=q 446+q 447:=H 448 _ rfl;have e478:q 478=q 203-q 248:=H 478 _ rfl;have e479:q 479=q 250+q 201:=H 479 _ rfl;have e480:q 480=q 478+q 6:=H 480 _ rfl;have e481:q 481=q 479+q 7:=H 481 _ rfl;have e482:q 482=q 480*q 480:=H 482 _ rfl;have e483:q 483=q 481*q 481:=H 483 _ rfl;have e484:q 484=q 482+q 483:=H 484 _ rfl
 clear H
 intro u0 u1
 have ⟨zp,zq⟩ := (sq2 e198 e199 e200).1 u1
 exact ⟨fun h => u0 (have ⟨zs,zt⟩ := (sq2 e207 e208 e209).1 h; QG (v1 := q 68) (v2 := q 68) (u1 := q 68) (u2 := q 55) (by rw [e196,e194,e193,e192]) (by rw [e197,e195,e193,e192]) (by rw [e205,e202,e201,e192]) (by rw [e206,e204,e203,e193]) zp zq zs zt (by rw [e68,e55]; decide +kernel)),fun h => u0 (have ⟨zs,zt⟩ := (sq2 e254 e255 e256).1 h; QG (v1 := q 68) (v2 := q 68) (u1 := q 68) (u2 := q 49) (by rw [e196,e194,e193,e192]) (by rw [e197,e195,e193,e192]) (by rw [e252,e249,e248,e192]) (by rw [e253,e251,e250,e193]) zp zq zs zt (by rw [e68,e49]; decide +kernel)),fun h => u0 (have ⟨zs,zt⟩ := (sq2 e296 e297 e298).1 h; QG (v1 := q 68) (v2 := q 68) (u1 := q 225) (u2 := q 68) (by rw [e196,e194,e193,e192]) (by rw [e197,e195,e193,e192]) (by rw [e294,e291,e290,e193]) (by rw [e295,e293,e292,e192]) zp zq zs zt (by rw [e68,e225]; decide +kernel)),fun h => u0 (have ⟨zs,zt⟩ := (sq2 e337 e338 e339).1 h; QG (v1 := q 68) (v2 := q 68) (u1 := q 225) (u2 := q 55) (by rw [e196,e194,e193,e192]) (by rw [e197,e195,e193,e192]) (by rw [e335,e333,e290,e201]) (by rw [e336,e334,e292,e203]) zp zq zs zt (by rw [e68,e225,e55]; decide +kernel)),fun h => u0 (have ⟨zs,zt⟩ := (sq2 e373 e374 e375).1 h; QG (v1 := q 68) (v2 := q 68) (u1 := q 225) (u2 := q 49) (by rw [e196,e194,e193,e192]) (by rw [e197,e195,e193,e192]) (by rw [e371,e369,e290,e248]) (by rw [e372,e370,e292,e250]) zp zq zs zt (by rw [e68,e225,e49]; decide +kernel)),fun h => u0 (have ⟨zs,zt⟩ := (sq2 e409 e410 e411).1 h; QG (v1 := q 68) (v2 := q 68) (u1 := q 55) (u2 := q 68) (by rw [e196,e194,e193,e192]) (by rw [e197,e195,e193,e192]) (by rw [e407,e405,e203,e193]) (by rw [e408,e406,e201,e192]) zp zq zs zt (by rw [e68,e55]; decide +kernel)),fun h => u0 (have ⟨zs,zt⟩ := (sq2 e446 e447 e448).1 h; QG (v1 := q 68) (v2 := q 68) (u1 := q 55) (u2 := q 55) (by rw [e196,e194,e193,e192]) (by rw [e197,e195,e193,e192]) (by rw [e444,e442,e203,e201]) (by rw [e445,e443,e203,e201]) zp zq zs zt (by rw [e68,e55]; decide +kernel)),fun h => u0 (have ⟨zs,zt⟩ := (sq2 e482 e483 e484).1 h; QG (v1 := q 68) (v2 := q 68) (u1 := q 55) (u2 := q 49) (by rw [e196,e194,e193,e192]) (by rw [e197,e195,e193,e192]) (by rw [e480,e478,e248,e203]) (by rw [e481,e479,e250,e201]) zp zq zs zt (by rw [e68,e55,e49]; decide +kernel))⟩
theorem tY_U1 (H : JF q σ) : (¬ ((q 0*q 6-q 1*q 7-(q 2*q 4-q 3*q 5))=0∧(q 0*q 7+q 1*q 6-(q 2*q 5+q 3*q 4))=0))→(q 209=0)→(¬ (q 256=0)∧¬ (q 298=0)∧¬ (q 339=0)∧¬ (q 375=0)∧¬ (q 411=0)∧¬ (q 448=0)∧¬ (q 484=0)) := by
 have e49:q 49=4:=(H 49 _ rfl).trans ZW;have e55:q 55=2:=(H 55 _ rfl).trans Jh;have e68:q 68=0:=(H 68 _ rfl).trans Jq;have e192:q 192=q 4*q 68:=H 192 _ rfl;have e193:q 193=q 5*q 68:=H 193 _ rfl;have e201:q 201=q 5*q 55:=H 201 _ rfl;have e202:q 202=q 192-q 201:=H 202 _ rfl;have e203:q 203=q 4*q 55:=H 203 _ rfl;have e204:q 204=q 203+q 193:=H 204 _ rfl;have e205:q 205=q 202+q 6:=H 205 _ rfl;have e206:q 206=q 204+q 7:=H 206 _ rfl;have e207:q 207=q 205*q 205:=H 207 _ rfl;have e208:q 208=q 206*q 206:=H 208 _ rfl;have e209:q 209=q 207+q 208:=H 209 _ rfl;have e225:q 225=1:=(H 225 _ rfl).trans Zc;have e248:q 248=q 5*q 49:=H 248 _ rfl;have e249:q 249=q 192-q 248:=H 249 _ rfl;have e250:q 250=q 4*q 49:=H 250 _ rfl;have e251:q 251=q 250+q 193:=H 251 _ rfl;have e252:q 252=q 249+q 6:=H 252 _ rfl;have e253:q 253=q 251+q 7:=H 253 _ rfl;have e254:q 254=q 252*q 252:=H 254 _ rfl;have e255:q 255=q 253*q 253:=H 255 _ rfl;have e256:q 256=q 254+q 255:=H 256 _ rfl;have e290:q 290=q 4*q 225:=H 290 _ rfl;have e291:q 291=q 290-q 193:=H 291 _ rfl;have e292:q 292=q 5*q 225:=H 292 _ rfl;have e293:q 293=q 192+q 292:=H 293 _ rfl;have e294:q 294=q 291+q 6:=H 294 _ rfl;have e295:q 295=q 293+q 7:=H 295 _ rfl;have e296:q 296=q 294*q 294:=H 296 _ rfl;have e297:q 297=q 295*q 295:=H 297 _ rfl;have e298:q 298=q 296+q 297:=H 298 _ rfl;have e333:q 333=q 290-q 201:=H 333 _ rfl;have e334:q 334=q 203+q 292:=H 334 _ rfl;have e335:q 335=q 333+q 6:=H 335 _ rfl;have e336:q 336=q 334+q 7:=H 336 _ rfl;have e337:q 337=q 335*q 335:=H 337 _ rfl;have e338:q 338=q 336*q 336:=H 338 _ rfl;have e339:q 339=q 337+q 338:=H 339 _ rfl;have e369:q 369=q 290-q 248:=H 369 _ rfl;have e370:q 370=q 250+q 292:=H 370 _ rfl;have e371:q 371=q 369+q 6:=H 371 _ rfl;have e372:q 372=q 370+q 7:=H 372 _ rfl;have e373:q 373=q 371*q 371:=H 373 _ rfl;have e374:q 374=q 372*q 372:=H 374 _ rfl;have e375:q 375=q 373+q 374:=H 375 _ rfl;have e405:q 405=q 203-q 193:=H 405 _ rfl;have e406:q 406=q 192+q 201:=H 406 _ rfl;have e407:q 407=q 405+q 6:=H 407 _ rfl;have e408:q 408=q 406+q 7:=H 408 _ rfl;have e409:q 409=q 407*q 407:=H 409 _ rfl;have e410:q 410=q 408*q 408:=H 410 _ rfl;have e411:q 411=q 409+q 410:=H 411 _ rfl;have e442:q 442=q 203-q 201:=H 442 _ rfl;have e443:q 443=q 203+q 201:=H 443 _ rfl;have e444:q 444=q 442+q 6:=H 444 _ rfl;have e445:q 445=q 443+q 7:=H 445 _ rfl;have e446:q 446=q 444*q 444:=H 446 _ rfl;have e447:q 447=q 445*q 445:=H 447 _ rfl;have e448:q 448=q 446+q 447:=H 448 _ rfl;have e478:q 478=q 203-q 248:=H 478 _ rfl;have e479:q 479=q 250+q 201:=H 479 _ rfl;have e480:q 480=q 478+q 6:=H 480 _ rfl;have e481:q 481=q 479+q 7:=H 481 _ rfl;have e482:q 482=q 480*q 480:=H 482 _ rfl;have e483:q 483=q 481*q 481:=H 483 _ rfl;have e484:q 484=q 482+q 483:=H 484 _ rfl
 clear H
 intro u0 u1
 have ⟨zp,zq⟩ := (sq2 e207 e208 e209).1 u1
 exact ⟨fun h => u0 (have ⟨zs,zt⟩ := (sq2 e254 e255 e256).1 h; QG (v1 := q 68) (v2 := q 55) (u1 := q 68) (u2 := q 49) (by rw [e205,e202,e201,e192]) (by rw [e206,e204,e203,e193]) (by rw [e252,e249,e248,e192]) (by rw [e253,e251,e250,e193]) zp zq zs zt (by rw [e68,e55,e49]; decide +kernel)),fun h => u0 (have ⟨zs,zt⟩ := (sq2 e296 e297 e298).1 h; QG (v1 := q 68) (v2 := q 55) (u1 := q 225) (u2 := q 68) (by rw [e205,e202,e201,e192]) (by rw [e206,e204,e203,e193]) (by rw [e294,e291,e290,e193]) (by rw [e295,e293,e292,e192]) zp zq zs zt (by rw [e68,e55,e225]; decide +kernel)),fun h => u0 (have ⟨zs,zt⟩ := (sq2 e337 e338 e339).1 h; QG (v1 := q 68) (v2 := q 55) (u1 := q 225) (u2 := q 55) (by rw [e205,e202,e201,e192]) (by rw [e206,e204,e203,e193]) (by rw [e335,e333,e290,e201]) (by rw [e336,e334,e292,e203]) zp zq zs zt (by rw [e68,e55,e225]; decide +kernel)),fun h => u0 (have ⟨zs,zt⟩ := (sq2 e373 e374 e375).1 h; QG (v1 := q 68) (v2 := q 55) (u1 := q 225) (u2 := q 49) (by rw [e205,e202,e201,e192]) (by rw [e206,e204,e203,e193]) (by rw [e371,e369,e290,e248]) (by rw [e372,e370,e292,e250]) zp zq zs zt (by rw [e68,e55,e225,e49]; decide +kernel)),fun h => u0 (have ⟨zs,zt⟩ := (sq2 e409 e410 e411).1 h; QG (v1 := q 68) (v2 := q 55) (u1 := q 55) (u2 := q 68) (by rw [e205,e202,e201,e192]) (by rw [e206,e204,e203,e193]) (by rw [e407,e405,e203,e193]) (by rw [e408,e406,e201,e192]) zp zq zs zt (by rw [e68,e55]; decide +kernel)),fun h => u0 (have ⟨zs,zt⟩ := (sq2 e446 e447 e448).1 h; QG (v1 := q 68) (v2 := q 55) (u1 := q 55) (u2 := q 55) (by rw [e205,e202,e201,e192]) (by rw [e206,e204,e203,e193]) (by rw [e444,e442,e203,e201]) (by rw [e445,e443,e203,e201]) zp zq zs zt (by rw [e68,e55]; decide +kernel)),fun h => u0 (have ⟨zs,zt⟩ := (sq2 e482 e483 e484).1 h; QG (v1 := q 68) (v2 := q 55) (u1 := q 55) (u2 := q 49) (by rw [e205,e202,e201,e192]) (by rw [e206,e204,e203,e193]) (by rw [e480,e478,e248,e203]) (by rw [e481,e479,e250,e201]) zp zq zs zt (by rw [e68,e55,e49]; decide +kernel))⟩
theorem tY_U2 (H : JF q σ) : (¬ ((q 0*q 6-q 1*q 7-(q 2*q 4-q 3*q 5))=0∧(q 0*q 7+q 1*q 6-(q 2*q 5+q 3*q 4))=0))→(q 256=0)→(¬ (q 298=0)∧¬ (q 339=0)∧¬ (q 375=0)∧¬ (q 411=0)∧¬ (q 448=0)∧¬ (q 484=0)) := by
 have e49:q 49=4:=(H 49 _ rfl).trans ZW;have e55:q 55=2:=(H 55 _ rfl).trans Jh;have e68:q 68=0:=(H 68 _ rfl).trans Jq;have e192:q 192=q 4*q 68:=H 192 _ rfl;have e193:q 193=q 5*q 68:=H 193 _ rfl;have e201:q 201=q 5*q 55:=H 201 _ rfl;have e203:q 203=q 4*q 55:=H 203 _ rfl;have e225:q 225=1:=(H 225 _ rfl).trans Zc;have e248:q 248=q 5*q 49:=H 248 _ rfl;have e249:q 249=q 192-q 248:=H 249 _ rfl;have e250:q 250=q 4*q 49:=H 250 _ rfl;have e251:q 251=q 250+q 193:=H 251 _ rfl;have e252:q 252=q 249+q 6:=H 252 _ rfl;have e253:q 253=q 251+q 7:=H 253 _ rfl;have e254:q 254=q 252*q 252:=H 254 _ rfl;have e255:q 255=q 253*q 253:=H 255 _ rfl;have e256:q 256=q 254+q 255:=H 256 _ rfl;have e290:q 290=q 4*q 225:=H 290 _ rfl;have e291:q 291=q 290-q 193:=H 291 _ rfl;have e292:q 292=q 5*q 225:=H 292 _ rfl;have e293:q 293=q 192+q 292:=H 293 _ rfl;have e294:q 294=q 291+q 6:=H 294 _ rfl;have e295:q 295=q 293+q 7:=H 295 _ rfl;have e296:q 296=q 294*q 294:=H 296 _ rfl;have e297:q 297=q 295*q 295:=H 297 _ rfl;have e298:q 298=q 296+q 297:=H 298 _ rfl;have e333:q 333=q 290-q 201:=H 333 _ rfl;have e334:q 334=q 203+q 292:=H 334 _ rfl;have e335:q 335=q 333+q 6:=H 335 _ rfl;have e336:q 336=q 334+q 7:=H 336 _ rfl;have e337:q 337=q 335*q 335:=H 337 _ rfl;have e338:q 338=q 336*q 336:=H 338 _ rfl;have e339:q 339=q 337+q 338:=H 339 _ rfl;have e369:q 369=q 290-q 248:=H 369 _ rfl;have e370:q 370=q 250+q 292:=H 370 _ rfl;have e371:q 371=q 369+q 6:=H 371 _ rfl;have e372:q 372=q 370+q 7:=H 372 _ rfl;have e373:q 373=q 371*q 371:=H 373 _ rfl;have e374:q 374=q 372*q 372:=H 374 _ rfl;have e375:q 375=q 373+q 374:=H 375 _ rfl;have e405:q 405=q 203-q 193:=H 405 _ rfl;have e406:q 406=q 192+q 201:=H 406 _ rfl;have e407:q 407=q 405+q 6:=H 407 _ rfl;have e408:q 408=q 406+q 7:=H 408 _ rfl;have e409:q 409=q 407*q 407:=H 409 _ rfl;have e410:q 410=q 408*q 408:=H 410 _ rfl;have e411:q 411=q 409+q 410:=H 411 _ rfl;have e442:q 442=q 203-q 201:=H 442 _ rfl;have e443:q 443=q 203+q 201:=H 443 _ rfl;have e444:q 444=q 442+q 6:=H 444 _ rfl;have e445:q 445=q 443+q 7:=H 445 _ rfl;have e446:q 446=q 444*q 444:=H 446 _ rfl;have e447:q 447=q 445*q 445:=H 447 _ rfl;have e448:q 448=q 446+q 447:=H 448 _ rfl;have e478:q 478=q 203-q 248:=H 478 _ rfl;have e479:q 479=q 250+q 201:=H 479 _ rfl;have e480:q 480=q 478+q 6:=H 480 _ rfl;have e481:q 481=q 479+q 7:=H 481 _ rfl;have e482:q 482=q 480*q 480:=H 482 _ rfl;have e483:q 483=q 481*q 481:=H 483 _ rfl;have e484:q 484=q 482+q 483:=H 484 _ rfl
 clear H
 intro u0 u1
 have ⟨zp,zq⟩ := (sq2 e254 e255 e256).1 u1
 exact ⟨fun h => u0 (have ⟨zs,zt⟩ := (sq2 e296 e297 e298).1 h; QG (v1 := q 68) (v2 := q 49) (u1 := q 225) (u2 := q 68) (by rw [e252,e249,e248,e192]) (by rw [e253,e251,e250,e193]) (by rw [e294,e291,e290,e193]) (by rw [e295,e293,e292,e192]) zp zq zs zt (by rw [e68,e49,e225]; decide +kernel)),fun h => u0 (have ⟨zs,zt⟩ := (sq2 e337 e338 e339).1 h; QG (v1 := q 68) (v2 := q 49) (u1 := q 225) (u2 := q 55) (by rw [e252,e249,e248,e192]) (by rw [e253,e251,e250,e193]) (by rw [e335,e333,e290,e201]) (by rw [e336,e334,e292,e203]) zp zq zs zt (by rw [e68,e49,e225,e55]; decide +kernel)),fun h => u0 (have ⟨zs,zt⟩ := (sq2 e373 e374 e375).1 h; QG (v1 := q 68) (v2 := q 49) (u1 := q 225) (u2 := q 49) (by rw [e252,e249,e248,e192]) (by rw [e253,e251,e250,e193]) (by rw [e371,e369,e290,e248]) (by rw [e372,e370,e292,e250]) zp zq zs zt (by rw [e68,e49,e225]; decide +kernel)),fun h => u0 (have ⟨zs,zt⟩ := (sq2 e409 e410 e411).1 h; QG (v1 := q 68) (v2 := q 49) (u1 := q 55) (u2 := q 68) (by rw [e252,e249,e248,e192]) (by rw [e253,e251,e250,e193]) (by rw [e407,e405,e203,e193]) (by rw [e408,e406,e201,e192]) zp zq zs zt (by rw [e68,e49,e55]; decide +kernel)),fun h => u0 (have ⟨zs,zt⟩ := (sq2 e446 e447 e448).1 h; QG (v1 := q 68) (v2 := q 49) (u1 := q 55) (u2 := q 55) (by rw [e252,e249,e248,e192]) (by rw [e253,e251,e250,e193]) (by rw [e444,e442,e203,e201]) (by rw [e445,e443,e203,e201]) zp zq zs zt (by rw [e68,e49,e55]; decide +kernel)),fun h => u0 (have ⟨zs,zt⟩ := (sq2 e482 e483 e484).1 h; QG (v1 := q 68) (v2 := q 49) (u1 := q 55) (u2 := q 49) (by rw [e252,e249,e248,e192]) (by rw [e253,e251,e250,e193]) (by rw [e480,e478,e248,e203]) (by rw [e481,e479,e250,e201]) zp zq zs zt (by rw [e68,e49,e55]; decide +kernel))⟩
theorem tY_U3 (H : JF q σ) : (¬ ((q 0*q 6-q 1*q 7-(q 2*q 4-q 3*q 5))=0∧(q 0*q 7+q 1*q 6-(q 2*q 5+q 3*q 4))=0))→(q 298=0)→(¬ (q 339=0)∧¬ (q 375=0)∧¬ (q 411=0)∧¬ (q 448=0)∧¬ (q 484=0)) := by
 have e49:q 49=4:=(H 49 _ rfl).trans ZW;have e55:q 55=2:=(H 55 _ rfl).trans Jh;have e68:q 68=0:=(H 68 _ rfl).trans Jq;have e192:q 192=q 4*q 68:=H 192 _ rfl;have e193:q 193=q 5*q 68:=H 193 _ rfl;have e201:q 201=q 5*q 55:=H 201 _ rfl;have e203:q 203=q 4*q 55:=H 203 _ rfl;have e225:q 225=1:=(H 225 _ rfl).trans Zc;have e248:q 248=q 5*q 49:=H 248 _ rfl;have e250:q 250=q 4*q 49:=H 250 _ rfl;have e290:q 290=q 4*q 225:=H 290 _ rfl;have e291:q 291=q 290-q 193:=H 291 _ rfl;have e292:q 292=q 5*q 225:=H 292 _ rfl;have e293:q 293=q 192+q 292:=H 293 _ rfl;have e294:q 294=q 291+q 6:=H 294 _ rfl;have e295:q 295=q 293+q 7:=H 295 _ rfl;have e296:q 296=q 294*q 294:=H 296 _ rfl;have e297:q 297=q 295*q 295:=H 297 _ rfl;have e298:q 298=q 296+q 297:=H 298 _ rfl;have e333:q 333=q 290-q 201:=H 333 _ rfl;have e334:q 334=q 203+q 292:=H 334 _ rfl;have e335:q 335=q 333+q 6:=H 335 _ rfl;have e336:q 336=q 334+q 7:=H 336 _ rfl;have e337:q 337=q 335*q 335:=H 337 _ rfl;have e338:q 338=q 336*q 336:=H 338 _ rfl;have e339:q 339=q 337+q 338:=H 339 _ rfl;have e369:q 369=q 290-q 248:=H 369 _ rfl;have e370:q 370=q 250+q 292:=H 370 _ rfl;have e371:q 371=q 369+q 6:=H 371 _ rfl;have e372:q 372=q 370+q 7:=H 372 _ rfl;have e373:q 373=q 371*q 371:=H 373 _ rfl;have e374:q 374=q 372*q 372:=H 374 _ rfl;have e375:q 375=q 373+q 374:=H 375 _ rfl;have e405:q 405=q 203-q 193:=H 405 _ rfl;have e406:q 406=q 192+q 201:=H 406 _ rfl;have e407:q 407=q 405+q 6:=H 407 _ rfl;have e408:q 408=q 406+q 7:=H 408 _ rfl;have e409:q 409=q 407*q 407:=H 409 _ rfl;have e410:q 410=q 408*q 408:=H 410 _ rfl;have e411:q 411=q 409+q 410:=H 411 _ rfl;have e442:q 442=q 203-q 201:=H 442 _ rfl;have e443:q 443=q 203+q 201:=H 443 _ rfl;have e444:q 444=q 442+q 6:=H 444 _ rfl;have e445:q 445=q 443+q 7:=H 445 _ rfl;have e446:q 446=q 444*q 444:=H 446 _ rfl;have e447:q 447=q 445*q 445:=H 447 _ rfl;have e448:q 448=q 446+q 447:=H 448 _ rfl;have e478:q 478=q 203-q 248:=H 478 _ rfl;have e479:q 479=q 250+q 201:=H 479 _ rfl;have e480:q 480=q 478+q 6:=H 480 _ rfl;have e481:q 481=q 479+q 7:=H 481 _ rfl;have e482:q 482=q 480*q 480:=H 482 _ rfl;have e483:q 483=q 481*q 481:=H 483 _ rfl;have e484:q 484=q 482+q 483:=H 484 _ rfl
 clear H
 intro u0 u1
 have ⟨zp,zq⟩ := (sq2 e296 e297 e298).1 u1
 exact ⟨fun h => u0 (have ⟨zs,zt⟩ := (sq2 e337 e338 e339).1 h; QG (v1 := q 225) (v2 := q 68) (u1 := q 225) (u2 := q 55) (by rw [e294,e291,e290,e193]) (by rw [e295,e293,e292,e192]) (by rw [e335,e333,e290,e201]) (by rw [e336,e334,e292,e203]) zp zq zs zt (by rw [e225,e68,e55]; decide +kernel)),fun h => u0 (have ⟨zs,zt⟩ := (sq2 e373 e374 e375).1 h; QG (v1 := q 225) (v2 := q 68) (u1 := q 225) (u2 := q 49) (by rw [e294,e291,e290,e193]) (by rw [e295,e293,e292,e192]) (by rw [e371,e369,e290,e248]) (by rw [e372,e370,e292,e250]) zp zq zs zt (by rw [e225,e68,e49]; decide +kernel)),fun h => u0 (have ⟨zs,zt⟩ := (sq2 e409 e410 e411).1 h; QG (v1 := q 225) (v2 := q 68) (u1 := q 55) (u2 := q 68) (by rw [e294,e291,e290,e193]) (by rw [e295,e293,e292,e192]) (by rw [e407,e405,e203,e193]) (by rw [e408,e406,e201,e192]) zp zq zs zt (by rw [e225,e68,e55]; decide +kernel)),fun h => u0 (have ⟨zs,zt⟩ := (sq2 e446 e447 e448).1 h; QG (v1 := q 225) (v2 := q 68) (u1 := q 55) (u2 := q 55) (by rw [e294,e291,e290,e193]) (by rw [e295,e293,e292,e192]) (by rw [e444,e442,e203,e201]) (by rw [e445,e443,e203,e201]) zp zq zs zt (by rw [e225,e68,e55]; decide +kernel)),fun h => u0 (have ⟨zs,zt⟩ := (sq2 e482 e483 e484).1 h; QG (v1 := q 225) (v2 := q 68) (u1 := q 55) (u2 := q 49) (by rw [e294,e291,e290,e193]) (by rw [e295,e293,e292,e192]) (by rw [e480,e478,e248,e203]) (by rw [e481,e479,e250,e201]) zp zq zs zt (by rw [e225,e68,e55,e49]; decide +kernel))⟩
theorem tY_U4 (H : JF q σ) : (¬ ((q 0*q 6-q 1*q 7-(q 2*q 4-q 3*q 5))=0∧(q 0*q 7+q 1*q 6-(q 2*q 5+q 3*q 4))=0))→(q 339=0)→(¬ (q 375=0)∧¬ (q 411=0)∧¬ (q 448=0)∧¬ (q 484=0)) := by
 have e49:q 49=4:=(H 49 _ rfl).trans ZW;have e55:q 55=2:=(H 55 _ rfl).trans Jh;have e68:q 68=0:=(H 68 _ rfl).trans Jq;have e192:q 192=q 4*q 68:=H 192 _ rfl;have e193:q 193=q 5*q 68:=H 193 _ rfl;have e201:q 201=q 5*q 55:=H 201 _ rfl;have e203:q 203=q 4*q 55:=H 203 _ rfl;have e225:q 225=1:=(H 225 _ rfl).trans Zc;have e248:q 248=q 5*q 49:=H 248 _ rfl;have e250:q 250=q 4*q 49:=H 250 _ rfl;have e290:q 290=q 4*q 225:=H 290 _ rfl;have e292:q 292=q 5*q 225:=H 292 _ rfl;have e333:q 333=q 290-q 201:=H 333 _ rfl;have e334:q 334=q 203+q 292:=H 334 _ rfl;have e335:q 335=q 333+q 6:=H 335 _ rfl;have e336:q 336=q 334+q 7:=H 336 _ rfl;have e337:q 337=q 335*q 335:=H 337 _ rfl;have e338:q 338=q 336*q 336:=H 338 _ rfl;have e339:q 339=q 337+q 338:=H 339 _ rfl;have e369:q 369=q 290-q 248:=H 369 _ rfl;have e370:q 370=q 250+q 292:=H 370 _ rfl;have e371:q 371=q 369+q 6:=H 371 _ rfl;have e372:q 372=q 370+q 7:=H 372 _ rfl;have e373:q 373=q 371*q 371:=H 373 _ rfl;have e374:q 374=q 372*q 372:=H 374 _ rfl;have e375:q 375=q 373+q 374:=H 375 _ rfl;have e405:q 405=q 203-q 193:=H 405 _ rfl;have e406:q 406=q 192+q 201:=H 406 _ rfl;have e407:q 407=q 405+q 6:=H 407 _ rfl;have e408:q 408=q 406+q 7:=H 408 _ rfl;have e409:q 409=q 407*q 407:=H 409 _ rfl;have e410:q 410=q 408*q 408:=H 410 _ rfl;have e411:q 411=q 409+q 410:=H 411 _ rfl;have e442:q 442=q 203-q 201:=H 442 _ rfl;have e443:q 443=q 203+q 201:=H 443 _ rfl;have e444:q 444=q 442+q 6:=H 444 _ rfl;have e445:q 445=q 443+q 7:=H 445 _ rfl;have e446:q 446=q 444*q 444:=H 446 _ rfl;have e447:q 447=q 445*q 445:=H 447 _ rfl;have e448:q 448=q 446+q 447:=H 448 _ rfl;have e478:q 478=q 203-q 248:=H 478 _ rfl;have e479:q 479=q 250+q 201:=H 479 _ rfl;have e480:q 480=q 478+q 6:=H 480 _ rfl;have e481:q 481=q 479+q 7:=H 481 _ rfl;have e482:q 482=q 480*q 480:=H 482 _ rfl;have e483:q 483=q 481*q 481:=H 483 _ rfl;have e484:q 484=q 482+q 483:=H 484 _ rfl
 clear H
 intro u0 u1
 have ⟨zp,zq⟩ := (sq2 e337 e338 e339).1 u1
 exact ⟨fun h => u0 (have ⟨zs,zt⟩ := (sq2 e373 e374 e375).1 h; QG (v1 := q 225) (v2 := q 55) (u1 := q 225) (u2 := q 49) (by rw [e335,e333,e290,e201]) (by rw [e336,e334,e292,e203]) (by rw [e371,e369,e290,e248]) (by rw [e372,e370,e292,e250]) zp zq zs zt (by rw [e225,e55,e49]; decide +kernel)),fun h => u0 (have ⟨zs,zt⟩ := (sq2 e409 e410 e411).1 h; QG (v1 := q 225) (v2 := q 55) (u1 := q 55) (u2 := q 68) (by rw [e335,e333,e290,e201]) (by rw [e336,e334,e292,e203]) (by rw [e407,e405,e203,e193]) (by rw [e408,e406,e201,e192]) zp zq zs zt (by rw [e225,e55,e68]; decide +kernel)),fun h => u0 (have ⟨zs,zt⟩ := (sq2 e446 e447 e448).1 h; QG (v1 := q 225) (v2 := q 55) (u1 := q 55) (u2 := q 55) (by rw [e335,e333,e290,e201]) (by rw [e336,e334,e292,e203]) (by rw [e444,e442,e203,e201]) (by rw [e445,e443,e203,e201]) zp zq zs zt (by rw [e225,e55]; decide +kernel)),fun h => u0 (have ⟨zs,zt⟩ := (sq2 e482 e483 e484).1 h; QG (v1 := q 225) (v2 := q 55) (u1 := q 55) (u2 := q 49) (by rw [e335,e333,e290,e201]) (by rw [e336,e334,e292,e203]) (by rw [e480,e478,e248,e203]) (by rw [e481,e479,e250,e201]) zp zq zs zt (by rw [e225,e55,e49]; decide +kernel))⟩
theorem tY_U5 (H : JF q σ) : (¬ ((q 0*q 6-q 1*q 7-(q 2*q 4-q 3*q 5))=0∧(q 0*q 7+q 1*q 6-(q 2*q 5+q 3*q 4))=0))→(q 375=0)→(¬ (q 411=0)∧¬ (q 448=0)∧¬ (q 484=0)) := by
 have e49:q 49=4:=(H 49 _ rfl).trans ZW;have e55:q 55=2:=(H 55 _ rfl).trans Jh;have e68:q 68=0:=(H 68 _ rfl).trans Jq;have e192:q 192=q 4*q 68:=H 192 _ rfl;have e193:q 193=q 5*q 68:=H 193 _ rfl;have e201:q 201=q 5*q 55:=H 201 _ rfl;have e203:q 203=q 4*q 55:=H 203 _ rfl;have e225:q 225=1:=(H 225 _ rfl).trans Zc;have e248:q 248=q 5*q 49:=H 248 _ rfl;have e250:q 250=q 4*q 49:=H 250 _ rfl;have e290:q 290=q 4*q 225:=H 290 _ rfl;have e292:q 292=q 5*q 225:=H 292 _ rfl;have e369:q 369=q 290-q 248:=H 369 _ rfl;have e370:q 370=q 250+q 292:=H 370 _ rfl;have e371:q 371=q 369+q 6:=H 371 _ rfl;have e372:q 372=q 370+q 7:=H 372 _ rfl;have e373:q 373=q 371*q 371:=H 373 _ rfl;have e374:q 374=q 372*q 372:=H 374 _ rfl;have e375:q 375=q 373+q 374:=H 375 _ rfl;have e405:q 405=q 203-q 193:=H 405 _ rfl;have e406:q 406=q 192+q 201:=H 406 _ rfl;have e407:q 407=q 405+q 6:=H 407 _ rfl;have e408:q 408=q 406+q 7:=H 408 _ rfl;have e409:q 409=q 407*q 407:=H 409 _ rfl;have e410:q 410=q 408*q 408:=H 410 _ rfl;have e411:q 411=q 409+q 410:=H 411 _ rfl;have e442:q 442=q 203-q 201:=H 442 _ rfl;have e443:q 443=q 203+q 201:=H 443 _ rfl;have e444:q 444=q 442+q 6:=H 444 _ rfl;have e445:q 445=q 443+q 7:=H 445 _ rfl;have e446:q 446=q 444*q 444:=H 446 _ rfl;have e447:q 447=q 445*q 445:=H 447 _ rfl;have e448:q 448=q 446+q 447:=H 448 _ rfl;have e478:q 478=q 203-q 248:=H 478 _ rfl;have e479:q 479=q 250+q 201:=H 479 _ rfl;have e480:q 480=q 478+q 6:=H 480 _ rfl;have e481:q 481=q 479+q 7:=H 481 _ rfl;have e482:q 482=q 480*q 480:=H 482 _ rfl;have e483:q 483=q 481*q 481:=H 483 _ rfl;have e484:q 484=q 482+q 483:=H 484 _ rfl
 clear H
 intro u0 u1
 have ⟨zp,zq⟩ := (sq2 e373 e374 e375).1 u1
 exact ⟨fun h => u0 (have ⟨zs,zt⟩ := (sq2 e409 e410 e411).1 h; QG (v1 := q 225) (v2 := q 49) (u1 := q 55) (u2 := q 68) (by rw [e371,e369,e290,e248]) (by rw [e372,e370,e292,e250]) (by rw [e407,e405,e203,e193]) (by rw [e408,e406,e201,e192]) zp zq zs zt (by rw [e225,e49,e55,e68]; decide +kernel)),fun h => u0 (have ⟨zs,zt⟩ := (sq2 e446 e447 e448).1 h; QG (v1 := q 225) (v2 := q 49) (u1 := q 55) (u2 := q 55) (by rw [e371,e369,e290,e248]) (by rw [e372,e370,e292,e250]) (by rw [e444,e442,e203,e201]) (by rw [e445,e443,e203,e201]) zp zq zs zt (by rw [e225,e49,e55]; decide +kernel)),fun h => u0 (have ⟨zs,zt⟩ := (sq2 e482 e483 e484).1 h; QG (v1 := q 225) (v2 := q 49) (u1 := q 55) (u2 := q 49) (by rw [e371,e369,e290,e248]) (by rw [e372,e370,e292,e250]) (by rw [e480,e478,e248,e203]) (by rw [e481,e479,e250,e201]) zp zq zs zt (by rw [e225,e49,e55]; decide +kernel))⟩
theorem tY_U6 (H : JF q σ) : (¬ ((q 0*q 6-q 1*q 7-(q 2*q 4-q 3*q 5))=0∧(q 0*q 7+q 1*q 6-(q 2*q 5+q 3*q 4))=0))→(q 411=0)→(¬ (q 448=0)∧¬ (q 484=0)) := by
 have e49:q 49=4:=(H 49 _ rfl).trans ZW;have e55:q 55=2:=(H 55 _ rfl).trans Jh;have e68:q 68=0:=(H 68 _ rfl).trans Jq;have e192:q 192=q 4*q 68:=H 192 _ rfl;have e193:q 193=q 5*q 68:=H 193 _ rfl;have e201:q 201=q 5*q 55:=H 201 _ rfl;have e203:q 203=q 4*q 55:=H 203 _ rfl;have e248:q 248=q 5*q 49:=H 248 _ rfl;have e250:q 250=q 4*q 49:=H 250 _ rfl;have e405:q 405=q 203-q 193:=H 405 _ rfl;have e406:q 406=q 192+q 201:=H 406 _ rfl;have e407:q 407=q 405+q 6:=H 407 _ rfl;have e408:q 408=q 406+q 7:=H 408 _ rfl;have e409:q 409=q 407*q 407:=H 409 _ rfl;have e410:q 410=q 408*q 408:=H 410 _ rfl;have e411:q 411=q 409+q 410:=H 411 _ rfl;have e442:q 442=q 203-q 201:=H 442 _ rfl;have e443:q 443=q 203+q 201:=H 443 _ rfl;have e444:q 444=q 442+q 6:=H 444 _ rfl;have e445:q 445=q 443+q 7:=H 445 _ rfl;have e446:q 446=q 444*q 444:=H 446 _ rfl;have e447:q 447=q 445*q 445:=H 447 _ rfl;have e448:q 448=q 446+q 447:=H 448 _ rfl;have e478:q 478=q 203-q 248:=H 478 _ rfl;have e479:q 479=q 250+q 201:=H 479 _ rfl;have e480:q 480=q 478+q 6:=H 480 _ rfl;have e481:q 481=q 479+q 7:=H 481 _ rfl;have e482:q 482=q 480*q 480:=H 482 _ rfl;have e483:q 483=q 481*q 481:=H 483 _ rfl;have e484:q 484=q 482+q 483:=H 484 _ rfl
 clear H
 intro u0 u1
 have ⟨zp,zq⟩ := (sq2 e409 e410 e411).1 u1
 exact ⟨fun h => u0 (have ⟨zs,zt⟩ := (sq2 e446 e447 e448).1 h; QG (v1 := q 55) (v2 := q 68) (u1 := q 55) (u2 := q 55) (by rw [e407,e405,e203,e193]) (by rw [e408,e406,e201,e192]) (by rw [e444,e442,e203,e201]) (by rw [e445,e443,e203,e201]) zp zq zs zt (by rw [e55,e68]; decide +kernel)),fun h => u0 (have ⟨zs,zt⟩ := (sq2 e482 e483 e484).1 h; QG (v1 := q 55) (v2 := q 68) (u1 := q 55) (u2 := q 49) (by rw [e407,e405,e203,e193]) (by rw [e408,e406,e201,e192]) (by rw [e480,e478,e248,e203]) (by rw [e481,e479,e250,e201]) zp zq zs zt (by rw [e55,e68,e49]; decide +kernel))⟩
theorem tY_U7 (H : JF q σ) : (¬ ((q 0*q 6-q 1*q 7-(q 2*q 4-q 3*q 5))=0∧(q 0*q 7+q 1*q 6-(q 2*q 5+q 3*q 4))=0))→(q 448=0)→(¬ (q 484=0)) := by
 have e49:q 49=4:=(H 49 _ rfl).trans ZW;have e55:q 55=2:=(H 55 _ rfl).trans Jh;have e201:q 201=q 5*q 55:=H 201 _ rfl;have e203:q 203=q 4*q 55:=H 203 _ rfl;have e248:q 248=q 5*q 49:=H 248 _ rfl;have e250:q 250=q 4*q 49:=H 250 _ rfl;have e442:q 442=q 203-q 201:=H 442 _ rfl;have e443:q 443=q 203+q 201:=H 443 _ rfl;have e444:q 444=q 442+q 6:=H 444 _ rfl;have e445:q 445=q 443+q 7:=H 445 _ rfl;have e446:q 446=q 444*q 444:=H 446 _ rfl;have e447:q 447=q 445*q 445:=H 447 _ rfl;have e448:q 448=q 446+q 447:=H 448 _ rfl;have e478:q 478=q 203-q 248:=H 478 _ rfl;have e479:q 479=q 250+q 201:=H 479 _ rfl;have e480:q 480=q 478+q 6:=H 480 _ rfl;have e481:q 481=q 479+q 7:=H 481 _ rfl;have e482:q 482=q 480*q 480:=H 482 _ rfl;have e483:q 483=q 481*q 481:=H 483 _ rfl;have e484:q 484=q 482+q 483:=H 484 _ rfl
 clear H
 intro u0 u1
 have ⟨zp,zq⟩ := (sq2 e446 e447 e448).1 u1
 exact fun h => u0 (have ⟨zs,zt⟩ := (sq2 e482 e483 e484).1 h; QG (v1 := q 55) (v2 := q 55) (u1 := q 55) (u2 := q 49) (by rw [e444,e442,e203,e201]) (by rw [e445,e443,e203,e201]) (by rw [e480,e478,e248,e203]) (by rw [e481,e479,e250,e201]) zp zq zs zt (by rw [e55,e49]; decide +kernel))
theorem tY_V0 (H : JF q σ) : (∀ F : Rat,F ≠ 0→0 < q 52→q 238=F*q 247→q 282=F*q 289→q 324=F*q 332→q 363=F*q 368→q 399=F*q 404→q 435=F*q 441→q 472=F*q 477→q 508=F*q 513→(¬ (q 528=0)∧q 667=0)) := by
 have e46:q 46=q 43*q 43:=H 46 _ rfl;have e47:q 47=q 44*q 44:=H 47 _ rfl;have e48:q 48=q 46+q 47:=H 48 _ rfl;have e49:q 49=4:=(H 49 _ rfl).trans ZW;have e50:q 50=q 49*q 42:=H 50 _ rfl;have e51:q 51=q 50*q 45:=H 51 _ rfl;have e52:q 52=q 48-q 51:=H 52 _ rfl;have e55:q 55=2:=(H 55 _ rfl).trans Jh;have e68:q 68=0:=(H 68 _ rfl).trans Jq;have e225:q 225=1:=(H 225 _ rfl).trans Zc;have e239:q 239=q 68*q 68:=H 239 _ rfl;have e240:q 240=q 55*q 55:=H 240 _ rfl;have e241:q 241=q 239+q 240:=H 241 _ rfl;have e242:q 242=q 42*q 241:=H 242 _ rfl;have e243:q 243=q 43*q 68:=H 243 _ rfl;have e244:q 244=q 44*q 55:=H 244 _ rfl;have e245:q 245=q 242+q 243:=H 245 _ rfl;have e246:q 246=q 245+q 244:=H 246 _ rfl;have e247:q 247=q 246+q 45:=H 247 _ rfl;have e283:q 283=q 49*q 49:=H 283 _ rfl;have e284:q 284=q 239+q 283:=H 284 _ rfl;have e285:q 285=q 42*q 284:=H 285 _ rfl;have e286:q 286=q 44*q 49:=H 286 _ rfl;have e287:q 287=q 285+q 243:=H 287 _ rfl;have e288:q 288=q 287+q 286:=H 288 _ rfl;have e289:q 289=q 288+q 45:=H 289 _ rfl;have e325:q 325=q 225*q 225:=H 325 _ rfl;have e328:q 328=q 43*q 225:=H 328 _ rfl;have e364:q 364=q 325+q 240:=H 364 _ rfl;have e365:q 365=q 42*q 364:=H 365 _ rfl;have e366:q 366=q 365+q 328:=H 366 _ rfl;have e367:q 367=q 366+q 244:=H 367 _ rfl;have e368:q 368=q 367+q 45:=H 368 _ rfl;have e438:q 438=q 43*q 55:=H 438 _ rfl;have e473:q 473=q 240+q 240:=H 473 _ rfl;have e474:q 474=q 42*q 473:=H 474 _ rfl;have e475:q 475=q 474+q 438:=H 475 _ rfl;have e476:q 476=q 475+q 244:=H 476 _ rfl;have e477:q 477=q 476+q 45:=H 477 _ rfl
 intro F hF u1 x1 x2 x3 x4 x5 x6 x7 x8
 have hs : 0 < q 43*q 43+q 44*q 44 - 4*q 42*q 45 := by rw [e52,e51,e50,e49,e48,e46,e47] at u1; exact u1
 refine ⟨fun h => ?_,?_⟩
 ·have a := (Qu (Qu (Qu (Qu (Qu (Qu (Qu (YW (H 514 _ rfl)) (H 515 _ rfl) (H 516 _ rfl)) (H 517 _ rfl) (H 518 _ rfl)) (H 519 _ rfl) (H 520 _ rfl)) (H 521 _ rfl) (H 522 _ rfl)) (H 523 _ rfl) (H 524 _ rfl)) (H 525 _ rfl) (H 526 _ rfl)) (H 527 _ rfl) (H 528 _ rfl)).2 h
  exact XB (y := 2) (t := 4) (x := 0) (by rw [e247,e246,e245,e244,e243,e242,e241,e240,e239]; rw [e68,e55]) (by rw [e368,e367,e366,e365,e364,e328,e325,e244,e240]; rw [e225,e55]) (by rw [e477,e476,e475,e474,e473,e438,e244,e240]; rw [e55]) (by rw [e289,e288,e287,e286,e285,e284,e283,e243,e239]; rw [e68,e49]) (Zi hF x1 a.1.1.1.1.1.1.1) (Zi hF x4 a.1.1.1.1.2) (Zi hF x7 a.1.2) (Zi hF x2 a.1.1.1.1.1.1.2) (by decide +kernel) hs
 ·have t0 := Wm (H 613 _ rfl) (Qe x1 x2 (H 529 _ rfl) (H 530 _ rfl) (H 531 _ rfl))
  have t1 := Qf t0 (H 614 _ rfl) (H 615 _ rfl) (Qe x1 x3 (H 532 _ rfl) (H 533 _ rfl) (H 534 _ rfl))
  have t2 := Qf t1 (H 616 _ rfl) (H 617 _ rfl) (Qe x2 x3 (H 535 _ rfl) (H 536 _ rfl) (H 537 _ rfl))
  have t3 := Qf t2 (H 618 _ rfl) (H 619 _ rfl) (Qe x1 x4 (H 538 _ rfl) (H 539 _ rfl) (H 540 _ rfl))
  have t4 := Qf t3 (H 620 _ rfl) (H 621 _ rfl) (Qe x2 x4 (H 541 _ rfl) (H 542 _ rfl) (H 543 _ rfl))
  have t5 := Qf t4 (H 622 _ rfl) (H 623 _ rfl) (Qe x3 x4 (H 544 _ rfl) (H 545 _ rfl) (H 546 _ rfl))
  have t6 := Qf t5 (H 624 _ rfl) (H 625 _ rfl) (Qe x1 x5 (H 547 _ rfl) (H 548 _ rfl) (H 549 _ rfl))
  have t7 := Qf t6 (H 626 _ rfl) (H 627 _ rfl) (Qe x2 x5 (H 550 _ rfl) (H 551 _ rfl) (H 552 _ rfl))
  have t8 := Qf t7 (H 628 _ rfl) (H 629 _ rfl) (Qe x3 x5 (H 553 _ rfl) (H 554 _ rfl) (H 555 _ rfl))
  have t9 := Qf t8 (H 630 _ rfl) (H 631 _ rfl) (Qe x4 x5 (H 556 _ rfl) (H 557 _ rfl) (H 558 _ rfl))
  have t10 := Qf t9 (H 632 _ rfl) (H 633 _ rfl) (Qe x1 x6 (H 559 _ rfl) (H 560 _ rfl) (H 561 _ rfl))
  have t11 := Qf t10 (H 634 _ rfl) (H 635 _ rfl) (Qe x2 x6 (H 562 _ rfl) (H 563 _ rfl) (H 564 _ rfl))
  have t12 := Qf t11 (H 636 _ rfl) (H 637 _ rfl) (Qe x3 x6 (H 565 _ rfl) (H 566 _ rfl) (H 567 _ rfl))
  have t13 := Qf t12 (H 638 _ rfl) (H 639 _ rfl) (Qe x4 x6 (H 568 _ rfl) (H 569 _ rfl) (H 570 _ rfl))
  have t14 := Qf t13 (H 640 _ rfl) (H 641 _ rfl) (Qe x5 x6 (H 571 _ rfl) (H 572 _ rfl) (H 573 _ rfl))
  have t15 := Qf t14 (H 642 _ rfl) (H 643 _ rfl) (Qe x1 x7 (H 574 _ rfl) (H 575 _ rfl) (H 576 _ rfl))
  have t16 := Qf t15 (H 644 _ rfl) (H 645 _ rfl) (Qe x2 x7 (H 577 _ rfl) (H 578 _ rfl) (H 579 _ rfl))
  have t17 := Qf t16 (H 646 _ rfl) (H 647 _ rfl) (Qe x3 x7 (H 580 _ rfl) (H 581 _ rfl) (H 582 _ rfl))
  have t18 := Qf t17 (H 648 _ rfl) (H 649 _ rfl) (Qe x4 x7 (H 583 _ rfl) (H 584 _ rfl) (H 585 _ rfl))
  have t19 := Qf t18 (H 650 _ rfl) (H 651 _ rfl) (Qe x5 x7 (H 586 _ rfl) (H 587 _ rfl) (H 588 _ rfl))
  have t20 := Qf t19 (H 652 _ rfl) (H 653 _ rfl) (Qe x6 x7 (H 589 _ rfl) (H 590 _ rfl) (H 591 _ rfl))
  have t21 := Qf t20 (H 654 _ rfl) (H 655 _ rfl) (Qe x1 x8 (H 592 _ rfl) (H 593 _ rfl) (H 594 _ rfl))
  have t22 := Qf t21 (H 656 _ rfl) (H 657 _ rfl) (Qe x2 x8 (H 595 _ rfl) (H 596 _ rfl) (H 597 _ rfl))
  have t23 := Qf t22 (H 658 _ rfl) (H 659 _ rfl) (Qe x3 x8 (H 598 _ rfl) (H 599 _ rfl) (H 600 _ rfl))
  have t24 := Qf t23 (H 660 _ rfl) (H 661 _ rfl) (Qe x4 x8 (H 601 _ rfl) (H 602 _ rfl) (H 603 _ rfl))
  have t25 := Qf t24 (H 662 _ rfl) (H 663 _ rfl) (Qe x5 x8 (H 604 _ rfl) (H 605 _ rfl) (H 606 _ rfl))
  have t26 := Qf t25 (H 664 _ rfl) (H 665 _ rfl) (Qe x6 x8 (H 607 _ rfl) (H 608 _ rfl) (H 609 _ rfl))
  have t27 := Qf t26 (H 666 _ rfl) (H 667 _ rfl) (Qe x7 x8 (H 610 _ rfl) (H 611 _ rfl) (H 612 _ rfl))
  exact t27
theorem tY_V1 (H : JF q σ) : (∀ F : Rat,F ≠ 0→0 < q 52→q 691=F*q 696→q 282=F*q 289→q 324=F*q 332→q 363=F*q 368→q 399=F*q 404→q 435=F*q 441→q 472=F*q 477→q 508=F*q 513→(¬ (q 704=0)∧q 759=0)) := by
 have e46:q 46=q 43*q 43:=H 46 _ rfl;have e47:q 47=q 44*q 44:=H 47 _ rfl;have e48:q 48=q 46+q 47:=H 48 _ rfl;have e49:q 49=4:=(H 49 _ rfl).trans ZW;have e50:q 50=q 49*q 42:=H 50 _ rfl;have e51:q 51=q 50*q 45:=H 51 _ rfl;have e52:q 52=q 48-q 51:=H 52 _ rfl;have e55:q 55=2:=(H 55 _ rfl).trans Jh;have e68:q 68=0:=(H 68 _ rfl).trans Jq;have e225:q 225=1:=(H 225 _ rfl).trans Zc;have e239:q 239=q 68*q 68:=H 239 _ rfl;have e240:q 240=q 55*q 55:=H 240 _ rfl;have e243:q 243=q 43*q 68:=H 243 _ rfl;have e283:q 283=q 49*q 49:=H 283 _ rfl;have e284:q 284=q 239+q 283:=H 284 _ rfl;have e285:q 285=q 42*q 284:=H 285 _ rfl;have e286:q 286=q 44*q 49:=H 286 _ rfl;have e287:q 287=q 285+q 243:=H 287 _ rfl;have e288:q 288=q 287+q 286:=H 288 _ rfl;have e289:q 289=q 288+q 45:=H 289 _ rfl;have e325:q 325=q 225*q 225:=H 325 _ rfl;have e326:q 326=q 325+q 239:=H 326 _ rfl;have e327:q 327=q 42*q 326:=H 327 _ rfl;have e328:q 328=q 43*q 225:=H 328 _ rfl;have e329:q 329=q 44*q 68:=H 329 _ rfl;have e330:q 330=q 327+q 328:=H 330 _ rfl;have e331:q 331=q 330+q 329:=H 331 _ rfl;have e332:q 332=q 331+q 45:=H 332 _ rfl;have e436:q 436=q 240+q 239:=H 436 _ rfl;have e437:q 437=q 42*q 436:=H 437 _ rfl;have e438:q 438=q 43*q 55:=H 438 _ rfl;have e439:q 439=q 437+q 438:=H 439 _ rfl;have e440:q 440=q 439+q 329:=H 440 _ rfl;have e441:q 441=q 440+q 45:=H 441 _ rfl;have e692:q 692=q 239+q 239:=H 692 _ rfl;have e693:q 693=q 42*q 692:=H 693 _ rfl;have e694:q 694=q 693+q 243:=H 694 _ rfl;have e695:q 695=q 694+q 329:=H 695 _ rfl;have e696:q 696=q 695+q 45:=H 696 _ rfl
 intro F hF u1 x0 x2 x3 x4 x5 x6 x7 x8
 have hs : 0 < q 43*q 43+q 44*q 44 - 4*q 42*q 45 := by rw [e52,e51,e50,e49,e48,e46,e47] at u1; exact u1
 refine ⟨fun h => ?_,?_⟩
 ·have a := (Qu (Qu (Qu (Qu (Qu (Qu (Qu (YW (H 697 _ rfl)) (H 515 _ rfl) (H 698 _ rfl)) (H 517 _ rfl) (H 699 _ rfl)) (H 519 _ rfl) (H 700 _ rfl)) (H 521 _ rfl) (H 701 _ rfl)) (H 523 _ rfl) (H 702 _ rfl)) (H 525 _ rfl) (H 703 _ rfl)) (H 527 _ rfl) (H 704 _ rfl)).2 h
  exact XB (y := 0) (t := 4) (x := 0) (by rw [e696,e695,e694,e693,e692,e329,e243,e239]; rw [e68]) (by rw [e332,e331,e330,e329,e328,e327,e326,e325,e239]; rw [e225,e68]) (by rw [e441,e440,e439,e438,e437,e436,e329,e240,e239]; rw [e55,e68]) (by rw [e289,e288,e287,e286,e285,e284,e283,e243,e239]; rw [e68,e49]) (Zi hF x0 a.1.1.1.1.1.1.1) (Zi hF x3 a.1.1.1.1.1.2) (Zi hF x6 a.1.1.2) (Zi hF x2 a.1.1.1.1.1.1.2) (by decide +kernel) hs
 ·have t0 := Wm (H 726 _ rfl) (Qe x0 x2 (H 705 _ rfl) (H 706 _ rfl) (H 707 _ rfl))
  have t1 := Qf t0 (H 727 _ rfl) (H 728 _ rfl) (Qe x0 x3 (H 708 _ rfl) (H 709 _ rfl) (H 710 _ rfl))
  have t2 := Qf t1 (H 616 _ rfl) (H 729 _ rfl) (Qe x2 x3 (H 535 _ rfl) (H 536 _ rfl) (H 537 _ rfl))
  have t3 := Qf t2 (H 730 _ rfl) (H 731 _ rfl) (Qe x0 x4 (H 711 _ rfl) (H 712 _ rfl) (H 713 _ rfl))
  have t4 := Qf t3 (H 620 _ rfl) (H 732 _ rfl) (Qe x2 x4 (H 541 _ rfl) (H 542 _ rfl) (H 543 _ rfl))
  have t5 := Qf t4 (H 622 _ rfl) (H 733 _ rfl) (Qe x3 x4 (H 544 _ rfl) (H 545 _ rfl) (H 546 _ rfl))
  have t6 := Qf t5 (H 734 _ rfl) (H 735 _ rfl) (Qe x0 x5 (H 714 _ rfl) (H 715 _ rfl) (H 716 _ rfl))
  have t7 := Qf t6 (H 626 _ rfl) (H 736 _ rfl) (Qe x2 x5 (H 550 _ rfl) (H 551 _ rfl) (H 552 _ rfl))
  have t8 := Qf t7 (H 628 _ rfl) (H 737 _ rfl) (Qe x3 x5 (H 553 _ rfl) (H 554 _ rfl) (H 555 _ rfl))
  have t9 := Qf t8 (H 630 _ rfl) (H 738 _ rfl) (Qe x4 x5 (H 556 _ rfl) (H 557 _ rfl) (H 558 _ rfl))
  have t10 := Qf t9 (H 739 _ rfl) (H 740 _ rfl) (Qe x0 x6 (H 717 _ rfl) (H 718 _ rfl) (H 719 _ rfl))
  have t11 := Qf t10 (H 634 _ rfl) (H 741 _ rfl) (Qe x2 x6 (H 562 _ rfl) (H 563 _ rfl) (H 564 _ rfl))
  have t12 := Qf t11 (H 636 _ rfl) (H 742 _ rfl) (Qe x3 x6 (H 565 _ rfl) (H 566 _ rfl) (H 567 _ rfl))
  have t13 := Qf t12 (H 638 _ rfl) (H 743 _ rfl) (Qe x4 x6 (H 568 _ rfl) (H 569 _ rfl) (H 570 _ rfl))
  have t14 := Qf t13 (H 640 _ rfl) (H 744 _ rfl) (Qe x5 x6 (H 571 _ rfl) (H 572 _ rfl) (H 573 _ rfl))
  have t15 := Qf t14 (H 745 _ rfl) (H 746 _ rfl) (Qe x0 x7 (H 720 _ rfl) (H 721 _ rfl) (H 722 _ rfl))
  have t16 := Qf t15 (H 644 _ rfl) (H 747 _ rfl) (Qe x2 x7 (H 577 _ rfl) (H 578 _ rfl) (H 579 _ rfl))
  have t17 := Qf t16 (H 646 _ rfl) (H 748 _ rfl) (Qe x3 x7 (H 580 _ rfl) (H 581 _ rfl) (H 582 _ rfl))
  have t18 := Qf t17 (H 648 _ rfl) (H 749 _ rfl) (Qe x4 x7 (H 583 _ rfl) (H 584 _ rfl) (H 585 _ rfl))
  have t19 := Qf t18 (H 650 _ rfl) (H 750 _ rfl) (Qe x5 x7 (H 586 _ rfl) (H 587 _ rfl) (H 588 _ rfl))
  have t20 := Qf t19 (H 652 _ rfl) (H 751 _ rfl) (Qe x6 x7 (H 589 _ rfl) (H 590 _ rfl) (H 591 _ rfl))
  have t21 := Qf t20 (H 752 _ rfl) (H 753 _ rfl) (Qe x0 x8 (H 723 _ rfl) (H 724 _ rfl) (H 725 _ rfl))
  have t22 := Qf t21 (H 656 _ rfl) (H 754 _ rfl) (Qe x2 x8 (H 595 _ rfl) (H 596 _ rfl) (H 597 _ rfl))
  have t23 := Qf t22 (H 658 _ rfl) (H 755 _ rfl) (Qe x3 x8 (H 598 _ rfl) (H 599 _ rfl) (H 600 _ rfl))
  have t24 := Qf t23 (H 660 _ rfl) (H 756 _ rfl) (Qe x4 x8 (H 601 _ rfl) (H 602 _ rfl) (H 603 _ rfl))
  have t25 := Qf t24 (H 662 _ rfl) (H 757 _ rfl) (Qe x5 x8 (H 604 _ rfl) (H 605 _ rfl) (H 606 _ rfl))
  have t26 := Qf t25 (H 664 _ rfl) (H 758 _ rfl) (Qe x6 x8 (H 607 _ rfl) (H 608 _ rfl) (H 609 _ rfl))
  have t27 := Qf t26 (H 666 _ rfl) (H 759 _ rfl) (Qe x7 x8 (H 610 _ rfl) (H 611 _ rfl) (H 612 _ rfl))
  exact t27
theorem tY_V2 (H : JF q σ) : (∀ F : Rat,F ≠ 0→0 < q 52→q 691=F*q 696→q 238=F*q 247→q 324=F*q 332→q 363=F*q 368→q 399=F*q 404→q 435=F*q 441→q 472=F*q 477→q 508=F*q 513→(¬ (q 766=0)∧q 797=0)) := by
 have e46:q 46=q 43*q 43:=H 46 _ rfl;have e47:q 47=q 44*q 44:=H 47 _ rfl;have e48:q 48=q 46+q 47:=H 48 _ rfl;have e49:q 49=4:=(H 49 _ rfl).trans ZW;have e50:q 50=q 49*q 42:=H 50 _ rfl;have e51:q 51=q 50*q 45:=H 51 _ rfl;have e52:q 52=q 48-q 51:=H 52 _ rfl;have e55:q 55=2:=(H 55 _ rfl).trans Jh;have e68:q 68=0:=(H 68 _ rfl).trans Jq;have e225:q 225=1:=(H 225 _ rfl).trans Zc;have e239:q 239=q 68*q 68:=H 239 _ rfl;have e240:q 240=q 55*q 55:=H 240 _ rfl;have e241:q 241=q 239+q 240:=H 241 _ rfl;have e242:q 242=q 42*q 241:=H 242 _ rfl;have e243:q 243=q 43*q 68:=H 243 _ rfl;have e244:q 244=q 44*q 55:=H 244 _ rfl;have e245:q 245=q 242+q 243:=H 245 _ rfl;have e246:q 246=q 245+q 244:=H 246 _ rfl;have e247:q 247=q 246+q 45:=H 247 _ rfl;have e325:q 325=q 225*q 225:=H 325 _ rfl;have e326:q 326=q 325+q 239:=H 326 _ rfl;have e327:q 327=q 42*q 326:=H 327 _ rfl;have e328:q 328=q 43*q 225:=H 328 _ rfl;have e329:q 329=q 44*q 68:=H 329 _ rfl;have e330:q 330=q 327+q 328:=H 330 _ rfl;have e331:q 331=q 330+q 329:=H 331 _ rfl;have e332:q 332=q 331+q 45:=H 332 _ rfl;have e436:q 436=q 240+q 239:=H 436 _ rfl;have e437:q 437=q 42*q 436:=H 437 _ rfl;have e438:q 438=q 43*q 55:=H 438 _ rfl;have e439:q 439=q 437+q 438:=H 439 _ rfl;have e440:q 440=q 439+q 329:=H 440 _ rfl;have e441:q 441=q 440+q 45:=H 441 _ rfl;have e692:q 692=q 239+q 239:=H 692 _ rfl;have e693:q 693=q 42*q 692:=H 693 _ rfl;have e694:q 694=q 693+q 243:=H 694 _ rfl;have e695:q 695=q 694+q 329:=H 695 _ rfl;have e696:q 696=q 695+q 45:=H 696 _ rfl
 intro F hF u1 x0 x1 x3 x4 x5 x6 x7 x8
 have hs : 0 < q 43*q 43+q 44*q 44 - 4*q 42*q 45 := by rw [e52,e51,e50,e49,e48,e46,e47] at u1; exact u1
 refine ⟨fun h => ?_,?_⟩
 ·have a := (Qu (Qu (Qu (Qu (Qu (Qu (Qu (YW (H 697 _ rfl)) (H 514 _ rfl) (H 760 _ rfl)) (H 517 _ rfl) (H 761 _ rfl)) (H 519 _ rfl) (H 762 _ rfl)) (H 521 _ rfl) (H 763 _ rfl)) (H 523 _ rfl) (H 764 _ rfl)) (H 525 _ rfl) (H 765 _ rfl)) (H 527 _ rfl) (H 766 _ rfl)).2 h
  exact XB (y := 0) (t := 2) (x := 0) (by rw [e696,e695,e694,e693,e692,e329,e243,e239]; rw [e68]) (by rw [e332,e331,e330,e329,e328,e327,e326,e325,e239]; rw [e225,e68]) (by rw [e441,e440,e439,e438,e437,e436,e329,e240,e239]; rw [e55,e68]) (by rw [e247,e246,e245,e244,e243,e242,e241,e240,e239]; rw [e68,e55]) (Zi hF x0 a.1.1.1.1.1.1.1) (Zi hF x3 a.1.1.1.1.1.2) (Zi hF x6 a.1.1.2) (Zi hF x1 a.1.1.1.1.1.1.2) (by decide +kernel) hs
 ·have t0 := Wm (H 770 _ rfl) (Qe x0 x1 (H 767 _ rfl) (H 768 _ rfl) (H 769 _ rfl))
  have t1 := Qf t0 (H 727 _ rfl) (H 771 _ rfl) (Qe x0 x3 (H 708 _ rfl) (H 709 _ rfl) (H 710 _ rfl))
  have t2 := Qf t1 (H 614 _ rfl) (H 772 _ rfl) (Qe x1 x3 (H 532 _ rfl) (H 533 _ rfl) (H 534 _ rfl))
  have t3 := Qf t2 (H 730 _ rfl) (H 773 _ rfl) (Qe x0 x4 (H 711 _ rfl) (H 712 _ rfl) (H 713 _ rfl))
  have t4 := Qf t3 (H 618 _ rfl) (H 774 _ rfl) (Qe x1 x4 (H 538 _ rfl) (H 539 _ rfl) (H 540 _ rfl))
  have t5 := Qf t4 (H 622 _ rfl) (H 775 _ rfl) (Qe x3 x4 (H 544 _ rfl) (H 545 _ rfl) (H 546 _ rfl))
  have t6 := Qf t5 (H 734 _ rfl) (H 776 _ rfl) (Qe x0 x5 (H 714 _ rfl) (H 715 _ rfl) (H 716 _ rfl))
  have t7 := Qf t6 (H 624 _ rfl) (H 777 _ rfl) (Qe x1 x5 (H 547 _ rfl) (H 548 _ rfl) (H 549 _ rfl))
  have t8 := Qf t7 (H 628 _ rfl) (H 778 _ rfl) (Qe x3 x5 (H 553 _ rfl) (H 554 _ rfl) (H 555 _ rfl))
  have t9 := Qf t8 (H 630 _ rfl) (H 779 _ rfl) (Qe x4 x5 (H 556 _ rfl) (H 557 _ rfl) (H 558 _ rfl))
  have t10 := Qf t9 (H 739 _ rfl) (H 780 _ rfl) (Qe x0 x6 (H 717 _ rfl) (H 718 _ rfl) (H 719 _ rfl))
  have t11 := Qf t10 (H 632 _ rfl) (H 781 _ rfl) (Qe x1 x6 (H 559 _ rfl) (H 560 _ rfl) (H 561 _ rfl))
  have t12 := Qf t11 (H 636 _ rfl) (H 782 _ rfl) (Qe x3 x6 (H 565 _ rfl) (H 566 _ rfl) (H 567 _ rfl))
  have t13 := Qf t12 (H 638 _ rfl) (H 783 _ rfl) (Qe x4 x6 (H 568 _ rfl) (H 569 _ rfl) (H 570 _ rfl))
  have t14 := Qf t13 (H 640 _ rfl) (H 784 _ rfl) (Qe x5 x6 (H 571 _ rfl) (H 572 _ rfl) (H 573 _ rfl))
  have t15 := Qf t14 (H 745 _ rfl) (H 785 _ rfl) (Qe x0 x7 (H 720 _ rfl) (H 721 _ rfl) (H 722 _ rfl))
  have t16 := Qf t15 (H 642 _ rfl) (H 786 _ rfl) (Qe x1 x7 (H 574 _ rfl) (H 575 _ rfl) (H 576 _ rfl))
  have t17 := Qf t16 (H 646 _ rfl) (H 787 _ rfl) (Qe x3 x7 (H 580 _ rfl) (H 581 _ rfl) (H 582 _ rfl))
  have t18 := Qf t17 (H 648 _ rfl) (H 788 _ rfl) (Qe x4 x7 (H 583 _ rfl) (H 584 _ rfl) (H 585 _ rfl))
  have t19 := Qf t18 (H 650 _ rfl) (H 789 _ rfl) (Qe x5 x7 (H 586 _ rfl) (H 587 _ rfl) (H 588 _ rfl))
  have t20 := Qf t19 (H 652 _ rfl) (H 790 _ rfl) (Qe x6 x7 (H 589 _ rfl) (H 590 _ rfl) (H 591 _ rfl))
  have t21 := Qf t20 (H 752 _ rfl) (H 791 _ rfl) (Qe x0 x8 (H 723 _ rfl) (H 724 _ rfl) (H 725 _ rfl))
  have t22 := Qf t21 (H 654 _ rfl) (H 792 _ rfl) (Qe x1 x8 (H 592 _ rfl) (H 593 _ rfl) (H 594 _ rfl))
  have t23 := Qf t22 (H 658 _ rfl) (H 793 _ rfl) (Qe x3 x8 (H 598 _ rfl) (H 599 _ rfl) (H 600 _ rfl))
  have t24 := Qf t23 (H 660 _ rfl) (H 794 _ rfl) (Qe x4 x8 (H 601 _ rfl) (H 602 _ rfl) (H 603 _ rfl))
  have t25 := Qf t24 (H 662 _ rfl) (H 795 _ rfl) (Qe x5 x8 (H 604 _ rfl) (H 605 _ rfl) (H 606 _ rfl))
  have t26 := Qf t25 (H 664 _ rfl) (H 796 _ rfl) (Qe x6 x8 (H 607 _ rfl) (H 608 _ rfl) (H 609 _ rfl))
  have t27 := Qf t26 (H 666 _ rfl) (H 797 _ rfl) (Qe x7 x8 (H 610 _ rfl) (H 611 _ rfl) (H 612 _ rfl))
  exact t27
theorem tY_V3 (H : JF q σ) : (∀ F : Rat,F ≠ 0→0 < q 52→q 691=F*q 696→q 238=F*q 247→q 282=F*q 289→q 363=F*q 368→q 399=F*q 404→q 435=F*q 441→q 472=F*q 477→q 508=F*q 513→(¬ (q 803=0)∧q 830=0)) := by
 have e46:q 46=q 43*q 43:=H 46 _ rfl;have e47:q 47=q 44*q 44:=H 47 _ rfl;have e48:q 48=q 46+q 47:=H 48 _ rfl;have e49:q 49=4:=(H 49 _ rfl).trans ZW;have e50:q 50=q 49*q 42:=H 50 _ rfl;have e51:q 51=q 50*q 45:=H 51 _ rfl;have e52:q 52=q 48-q 51:=H 52 _ rfl;have e55:q 55=2:=(H 55 _ rfl).trans Jh;have e68:q 68=0:=(H 68 _ rfl).trans Jq;have e225:q 225=1:=(H 225 _ rfl).trans Zc;have e239:q 239=q 68*q 68:=H 239 _ rfl;have e240:q 240=q 55*q 55:=H 240 _ rfl;have e241:q 241=q 239+q 240:=H 241 _ rfl;have e242:q 242=q 42*q 241:=H 242 _ rfl;have e243:q 243=q 43*q 68:=H 243 _ rfl;have e244:q 244=q 44*q 55:=H 244 _ rfl;have e245:q 245=q 242+q 243:=H 245 _ rfl;have e246:q 246=q 245+q 244:=H 246 _ rfl;have e247:q 247=q 246+q 45:=H 247 _ rfl;have e325:q 325=q 225*q 225:=H 325 _ rfl;have e328:q 328=q 43*q 225:=H 328 _ rfl;have e329:q 329=q 44*q 68:=H 329 _ rfl;have e364:q 364=q 325+q 240:=H 364 _ rfl;have e365:q 365=q 42*q 364:=H 365 _ rfl;have e366:q 366=q 365+q 328:=H 366 _ rfl;have e367:q 367=q 366+q 244:=H 367 _ rfl;have e368:q 368=q 367+q 45:=H 368 _ rfl;have e438:q 438=q 43*q 55:=H 438 _ rfl;have e473:q 473=q 240+q 240:=H 473 _ rfl;have e474:q 474=q 42*q 473:=H 474 _ rfl;have e475:q 475=q 474+q 438:=H 475 _ rfl;have e476:q 476=q 475+q 244:=H 476 _ rfl;have e477:q 477=q 476+q 45:=H 477 _ rfl;have e692:q 692=q 239+q 239:=H 692 _ rfl;have e693:q 693=q 42*q 692:=H 693 _ rfl;have e694:q 694=q 693+q 243:=H 694 _ rfl;have e695:q 695=q 694+q 329:=H 695 _ rfl;have e696:q 696=q 695+q 45:=H 696 _ rfl
 intro F hF u1 x0 x1 x2 x4 x5 x6 x7 x8
 have hs : 0 < q 43*q 43+q 44*q 44 - 4*q 42*q 45 := by rw [e52,e51,e50,e49,e48,e46,e47] at u1; exact u1
 refine ⟨fun h => ?_,?_⟩
 ·have a := (Qu (Qu (Qu (Qu (Qu (Qu (Qu (YW (H 697 _ rfl)) (H 514 _ rfl) (H 760 _ rfl)) (H 515 _ rfl) (H 798 _ rfl)) (H 519 _ rfl) (H 799 _ rfl)) (H 521 _ rfl) (H 800 _ rfl)) (H 523 _ rfl) (H 801 _ rfl)) (H 525 _ rfl) (H 802 _ rfl)) (H 527 _ rfl) (H 803 _ rfl)).2 h
  exact XB (y := 2) (t := 0) (x := 0) (by rw [e247,e246,e245,e244,e243,e242,e241,e240,e239]; rw [e68,e55]) (by rw [e368,e367,e366,e365,e364,e328,e325,e244,e240]; rw [e225,e55]) (by rw [e477,e476,e475,e474,e473,e438,e244,e240]; rw [e55]) (by rw [e696,e695,e694,e693,e692,e329,e243,e239]; rw [e68]) (Zi hF x1 a.1.1.1.1.1.1.2) (Zi hF x4 a.1.1.1.1.2) (Zi hF x7 a.1.2) (Zi hF x0 a.1.1.1.1.1.1.1) (by decide +kernel) hs
 ·have t0 := Wm (H 770 _ rfl) (Qe x0 x1 (H 767 _ rfl) (H 768 _ rfl) (H 769 _ rfl))
  have t1 := Qf t0 (H 726 _ rfl) (H 804 _ rfl) (Qe x0 x2 (H 705 _ rfl) (H 706 _ rfl) (H 707 _ rfl))
  have t2 := Qf t1 (H 613 _ rfl) (H 805 _ rfl) (Qe x1 x2 (H 529 _ rfl) (H 530 _ rfl) (H 531 _ rfl))
  have t3 := Qf t2 (H 730 _ rfl) (H 806 _ rfl) (Qe x0 x4 (H 711 _ rfl) (H 712 _ rfl) (H 713 _ rfl))
  have t4 := Qf t3 (H 618 _ rfl) (H 807 _ rfl) (Qe x1 x4 (H 538 _ rfl) (H 539 _ rfl) (H 540 _ rfl))
  have t5 := Qf t4 (H 620 _ rfl) (H 808 _ rfl) (Qe x2 x4 (H 541 _ rfl) (H 542 _ rfl) (H 543 _ rfl))
  have t6 := Qf t5 (H 734 _ rfl) (H 809 _ rfl) (Qe x0 x5 (H 714 _ rfl) (H 715 _ rfl) (H 716 _ rfl))
  have t7 := Qf t6 (H 624 _ rfl) (H 810 _ rfl) (Qe x1 x5 (H 547 _ rfl) (H 548 _ rfl) (H 549 _ rfl))
  have t8 := Qf t7 (H 626 _ rfl) (H 811 _ rfl) (Qe x2 x5 (H 550 _ rfl) (H 551 _ rfl) (H 552 _ rfl))
  have t9 := Qf t8 (H 630 _ rfl) (H 812 _ rfl) (Qe x4 x5 (H 556 _ rfl) (H 557 _ rfl) (H 558 _ rfl))
  have t10 := Qf t9 (H 739 _ rfl) (H 813 _ rfl) (Qe x0 x6 (H 717 _ rfl) (H 718 _ rfl) (H 719 _ rfl))
  have t11 := Qf t10 (H 632 _ rfl) (H 814 _ rfl) (Qe x1 x6 (H 559 _ rfl) (H 560 _ rfl) (H 561 _ rfl))
  have t12 := Qf t11 (H 634 _ rfl) (H 815 _ rfl) (Qe x2 x6 (H 562 _ rfl) (H 563 _ rfl) (H 564 _ rfl))
  have t13 := Qf t12 (H 638 _ rfl) (H 816 _ rfl) (Qe x4 x6 (H 568 _ rfl) (H 569 _ rfl) (H 570 _ rfl))
  have t14 := Qf t13 (H 640 _ rfl) (H 817 _ rfl) (Qe x5 x6 (H 571 _ rfl) (H 572 _ rfl) (H 573 _ rfl))
  have t15 := Qf t14 (H 745 _ rfl) (H 818 _ rfl) (Qe x0 x7 (H 720 _ rfl) (H 721 _ rfl) (H 722 _ rfl))
  have t16 := Qf t15 (H 642 _ rfl) (H 819 _ rfl) (Qe x1 x7 (H 574 _ rfl) (H 575 _ rfl) (H 576 _ rfl))
  have t17 := Qf t16 (H 644 _ rfl) (H 820 _ rfl) (Qe x2 x7 (H 577 _ rfl) (H 578 _ rfl) (H 579 _ rfl))
  have t18 := Qf t17 (H 648 _ rfl) (H 821 _ rfl) (Qe x4 x7 (H 583 _ rfl) (H 584 _ rfl) (H 585 _ rfl))
  have t19 := Qf t18 (H 650 _ rfl) (H 822 _ rfl) (Qe x5 x7 (H 586 _ rfl) (H 587 _ rfl) (H 588 _ rfl))
  have t20 := Qf t19 (H 652 _ rfl) (H 823 _ rfl) (Qe x6 x7 (H 589 _ rfl) (H 590 _ rfl) (H 591 _ rfl))
  have t21 := Qf t20 (H 752 _ rfl) (H 824 _ rfl) (Qe x0 x8 (H 723 _ rfl) (H 724 _ rfl) (H 725 _ rfl))
  have t22 := Qf t21 (H 654 _ rfl) (H 825 _ rfl) (Qe x1 x8 (H 592 _ rfl) (H 593 _ rfl) (H 594 _ rfl))
  have t23 := Qf t22 (H 656 _ rfl) (H 826 _ rfl) (Qe x2 x8 (H 595 _ rfl) (H 596 _ rfl) (H 597 _ rfl))
  have t24 := Qf t23 (H 660 _ rfl) (H 827 _ rfl) (Qe x4 x8 (H 601 _ rfl) (H 602 _ rfl) (H 603 _ rfl))
  have t25 := Qf t24 (H 662 _ rfl) (H 828 _ rfl) (Qe x5 x8 (H 604 _ rfl) (H 605 _ rfl) (H 606 _ rfl))
  have t26 := Qf t25 (H 664 _ rfl) (H 829 _ rfl) (Qe x6 x8 (H 607 _ rfl) (H 608 _ rfl) (H 609 _ rfl))
  have t27 := Qf t26 (H 666 _ rfl) (H 830 _ rfl) (Qe x7 x8 (H 610 _ rfl) (H 611 _ rfl) (H 612 _ rfl))
  exact t27
theorem tY_V4 (H : JF q σ) : (∀ F : Rat,F ≠ 0→0 < q 52→q 691=F*q 696→q 238=F*q 247→q 282=F*q 289→q 324=F*q 332→q 399=F*q 404→q 435=F*q 441→q 472=F*q 477→q 508=F*q 513→(¬ (q 835=0)∧q 860=0)) := by
 have e46:q 46=q 43*q 43:=H 46 _ rfl;have e47:q 47=q 44*q 44:=H 47 _ rfl;have e48:q 48=q 46+q 47:=H 48 _ rfl;have e49:q 49=4:=(H 49 _ rfl).trans ZW;have e50:q 50=q 49*q 42:=H 50 _ rfl;have e51:q 51=q 50*q 45:=H 51 _ rfl;have e52:q 52=q 48-q 51:=H 52 _ rfl;have e55:q 55=2:=(H 55 _ rfl).trans Jh;have e68:q 68=0:=(H 68 _ rfl).trans Jq;have e225:q 225=1:=(H 225 _ rfl).trans Zc;have e239:q 239=q 68*q 68:=H 239 _ rfl;have e240:q 240=q 55*q 55:=H 240 _ rfl;have e241:q 241=q 239+q 240:=H 241 _ rfl;have e242:q 242=q 42*q 241:=H 242 _ rfl;have e243:q 243=q 43*q 68:=H 243 _ rfl;have e244:q 244=q 44*q 55:=H 244 _ rfl;have e245:q 245=q 242+q 243:=H 245 _ rfl;have e246:q 246=q 245+q 244:=H 246 _ rfl;have e247:q 247=q 246+q 45:=H 247 _ rfl;have e325:q 325=q 225*q 225:=H 325 _ rfl;have e326:q 326=q 325+q 239:=H 326 _ rfl;have e327:q 327=q 42*q 326:=H 327 _ rfl;have e328:q 328=q 43*q 225:=H 328 _ rfl;have e329:q 329=q 44*q 68:=H 329 _ rfl;have e330:q 330=q 327+q 328:=H 330 _ rfl;have e331:q 331=q 330+q 329:=H 331 _ rfl;have e332:q 332=q 331+q 45:=H 332 _ rfl;have e436:q 436=q 240+q 239:=H 436 _ rfl;have e437:q 437=q 42*q 436:=H 437 _ rfl;have e438:q 438=q 43*q 55:=H 438 _ rfl;have e439:q 439=q 437+q 438:=H 439 _ rfl;have e440:q 440=q 439+q 329:=H 440 _ rfl;have e441:q 441=q 440+q 45:=H 441 _ rfl;have e692:q 692=q 239+q 239:=H 692 _ rfl;have e693:q 693=q 42*q 692:=H 693 _ rfl;have e694:q 694=q 693+q 243:=H 694 _ rfl;have e695:q 695=q 694+q 329:=H 695 _ rfl;have e696:q 696=q 695+q 45:=H 696 _ rfl
 intro F hF u1 x0 x1 x2 x3 x5 x6 x7 x8
 have hs : 0 < q 43*q 43+q 44*q 44 - 4*q 42*q 45 := by rw [e52,e51,e50,e49,e48,e46,e47] at u1; exact u1
 refine ⟨fun h => ?_,?_⟩
 ·have a := (Qu (Qu (Qu (Qu (Qu (Qu (Qu (YW (H 697 _ rfl)) (H 514 _ rfl) (H 760 _ rfl)) (H 515 _ rfl) (H 798 _ rfl)) (H 517 _ rfl) (H 831 _ rfl)) (H 521 _ rfl) (H 832 _ rfl)) (H 523 _ rfl) (H 833 _ rfl)) (H 525 _ rfl) (H 834 _ rfl)) (H 527 _ rfl) (H 835 _ rfl)).2 h
  exact XB (y := 0) (t := 2) (x := 0) (by rw [e696,e695,e694,e693,e692,e329,e243,e239]; rw [e68]) (by rw [e332,e331,e330,e329,e328,e327,e326,e325,e239]; rw [e225,e68]) (by rw [e441,e440,e439,e438,e437,e436,e329,e240,e239]; rw [e55,e68]) (by rw [e247,e246,e245,e244,e243,e242,e241,e240,e239]; rw [e68,e55]) (Zi hF x0 a.1.1.1.1.1.1.1) (Zi hF x3 a.1.1.1.1.2) (Zi hF x6 a.1.1.2) (Zi hF x1 a.1.1.1.1.1.1.2) (by decide +kernel) hs
 ·have t0 := Wm (H 770 _ rfl) (Qe x0 x1 (H 767 _ rfl) (H 768 _ rfl) (H 769 _ rfl))
  have t1 := Qf t0 (H 726 _ rfl) (H 804 _ rfl) (Qe x0 x2 (H 705 _ rfl) (H 706 _ rfl) (H 707 _ rfl))
  have t2 := Qf t1 (H 613 _ rfl) (H 805 _ rfl) (Qe x1 x2 (H 529 _ rfl) (H 530 _ rfl) (H 531 _ rfl))
  have t3 := Qf t2 (H 727 _ rfl) (H 836 _ rfl) (Qe x0 x3 (H 708 _ rfl) (H 709 _ rfl) (H 710 _ rfl))
  have t4 := Qf t3 (H 614 _ rfl) (H 837 _ rfl) (Qe x1 x3 (H 532 _ rfl) (H 533 _ rfl) (H 534 _ rfl))
  have t5 := Qf t4 (H 616 _ rfl) (H 838 _ rfl) (Qe x2 x3 (H 535 _ rfl) (H 536 _ rfl) (H 537 _ rfl))
  have t6 := Qf t5 (H 734 _ rfl) (H 839 _ rfl) (Qe x0 x5 (H 714 _ rfl) (H 715 _ rfl) (H 716 _ rfl))
  have t7 := Qf t6 (H 624 _ rfl) (H 840 _ rfl) (Qe x1 x5 (H 547 _ rfl) (H 548 _ rfl) (H 549 _ rfl))
  have t8 := Qf t7 (H 626 _ rfl) (H 841 _ rfl) (Qe x2 x5 (H 550 _ rfl) (H 551 _ rfl) (H 552 _ rfl))
  have t9 := Qf t8 (H 628 _ rfl) (H 842 _ rfl) (Qe x3 x5 (H 553 _ rfl) (H 554 _ rfl) (H 555 _ rfl))
  have t10 := Qf t9 (H 739 _ rfl) (H 843 _ rfl) (Qe x0 x6 (H 717 _ rfl) (H 718 _ rfl) (H 719 _ rfl))
  have t11 := Qf t10 (H 632 _ rfl) (H 844 _ rfl) (Qe x1 x6 (H 559 _ rfl) (H 560 _ rfl) (H 561 _ rfl))
  have t12 := Qf t11 (H 634 _ rfl) (H 845 _ rfl) (Qe x2 x6 (H 562 _ rfl) (H 563 _ rfl) (H 564 _ rfl))
  have t13 := Qf t12 (H 636 _ rfl) (H 846 _ rfl) (Qe x3 x6 (H 565 _ rfl) (H 566 _ rfl) (H 567 _ rfl))
  have t14 := Qf t13 (H 640 _ rfl) (H 847 _ rfl) (Qe x5 x6 (H 571 _ rfl) (H 572 _ rfl) (H 573 _ rfl))
  have t15 := Qf t14 (H 745 _ rfl) (H 848 _ rfl) (Qe x0 x7 (H 720 _ rfl) (H 721 _ rfl) (H 722 _ rfl))
  have t16 := Qf t15 (H 642 _ rfl) (H 849 _ rfl) (Qe x1 x7 (H 574 _ rfl) (H 575 _ rfl) (H 576 _ rfl))
  have t17 := Qf t16 (H 644 _ rfl) (H 850 _ rfl) (Qe x2 x7 (H 577 _ rfl) (H 578 _ rfl) (H 579 _ rfl))
  have t18 := Qf t17 (H 646 _ rfl) (H 851 _ rfl) (Qe x3 x7 (H 580 _ rfl) (H 581 _ rfl) (H 582 _ rfl))
  have t19 := Qf t18 (H 650 _ rfl) (H 852 _ rfl) (Qe x5 x7 (H 586 _ rfl) (H 587 _ rfl) (H 588 _ rfl))
  have t20 := Qf t19 (H 652 _ rfl) (H 853 _ rfl) (Qe x6 x7 (H 589 _ rfl) (H 590 _ rfl) (H 591 _ rfl))
  have t21 := Qf t20 (H 752 _ rfl) (H 854 _ rfl) (Qe x0 x8 (H 723 _ rfl) (H 724 _ rfl) (H 725 _ rfl))
  have t22 := Qf t21 (H 654 _ rfl) (H 855 _ rfl) (Qe x1 x8 (H 592 _ rfl) (H 593 _ rfl) (H 594 _ rfl))
  have t23 := Qf t22 (H 656 _ rfl) (H 856 _ rfl) (Qe x2 x8 (H 595 _ rfl) (H 596 _ rfl) (H 597 _ rfl))
  have t24 := Qf t23 (H 658 _ rfl) (H 857 _ rfl) (Qe x3 x8 (H 598 _ rfl) (H 599 _ rfl) (H 600 _ rfl))
  have t25 := Qf t24 (H 662 _ rfl) (H 858 _ rfl) (Qe x5 x8 (H 604 _ rfl) (H 605 _ rfl) (H 606 _ rfl))
  have t26 := Qf t25 (H 664 _ rfl) (H 859 _ rfl) (Qe x6 x8 (H 607 _ rfl) (H 608 _ rfl) (H 609 _ rfl))
  have t27 := Qf t26 (H 666 _ rfl) (H 860 _ rfl) (Qe x7 x8 (H 610 _ rfl) (H 611 _ rfl) (H 612 _ rfl))
  exact t27
theorem tY_V5 (H : JF q σ) : (∀ F : Rat,F ≠ 0→0 < q 52→q 691=F*q 696→q 238=F*q 247→q 282=F*q 289→q 324=F*q 332→q 363=F*q 368→q 435=F*q 441→q 472=F*q 477→q 508=F*q 513→(¬ (q 864=0)∧q 886=0)) := by
 have e46:q 46=q 43*q 43:=H 46 _ rfl;have e47:q 47=q 44*q 44:=H 47 _ rfl;have e48:q 48=q 46+q 47:=H 48 _ rfl;have e49:q 49=4:=(H 49 _ rfl).trans ZW;have e50:q 50=q 49*q 42:=H 50 _ rfl;have e51:q 51=q 50*q 45:=H 51 _ rfl;have e52:q 52=q 48-q 51:=H 52 _ rfl;have e55:q 55=2:=(H 55 _ rfl).trans Jh;have e68:q 68=0:=(H 68 _ rfl).trans Jq;have e225:q 225=1:=(H 225 _ rfl).trans Zc;have e239:q 239=q 68*q 68:=H 239 _ rfl;have e240:q 240=q 55*q 55:=H 240 _ rfl;have e241:q 241=q 239+q 240:=H 241 _ rfl;have e242:q 242=q 42*q 241:=H 242 _ rfl;have e243:q 243=q 43*q 68:=H 243 _ rfl;have e244:q 244=q 44*q 55:=H 244 _ rfl;have e245:q 245=q 242+q 243:=H 245 _ rfl;have e246:q 246=q 245+q 244:=H 246 _ rfl;have e247:q 247=q 246+q 45:=H 247 _ rfl;have e325:q 325=q 225*q 225:=H 325 _ rfl;have e326:q 326=q 325+q 239:=H 326 _ rfl;have e327:q 327=q 42*q 326:=H 327 _ rfl;have e328:q 328=q 43*q 225:=H 328 _ rfl;have e329:q 329=q 44*q 68:=H 329 _ rfl;have e330:q 330=q 327+q 328:=H 330 _ rfl;have e331:q 331=q 330+q 329:=H 331 _ rfl;have e332:q 332=q 331+q 45:=H 332 _ rfl;have e436:q 436=q 240+q 239:=H 436 _ rfl;have e437:q 437=q 42*q 436:=H 437 _ rfl;have e438:q 438=q 43*q 55:=H 438 _ rfl;have e439:q 439=q 437+q 438:=H 439 _ rfl;have e440:q 440=q 439+q 329:=H 440 _ rfl;have e441:q 441=q 440+q 45:=H 441 _ rfl;have e692:q 692=q 239+q 239:=H 692 _ rfl;have e693:q 693=q 42*q 692:=H 693 _ rfl;have e694:q 694=q 693+q 243:=H 694 _ rfl;have e695:q 695=q 694+q 329:=H 695 _ rfl;have e696:q 696=q 695+q 45:=H 696 _ rfl
 intro F hF u1 x0 x1 x2 x3 x4 x6 x7 x8
 have hs : 0 < q 43*q 43+q 44*q 44 - 4*q 42*q 45 := by rw [e52,e51,e50,e49,e48,e46,e47] at u1; exact u1
 refine ⟨fun h => ?_,?_⟩
 ·have a := (Qu (Qu (Qu (Qu (Qu (Qu (Qu (YW (H 697 _ rfl)) (H 514 _ rfl) (H 760 _ rfl)) (H 515 _ rfl) (H 798 _ rfl)) (H 517 _ rfl) (H 831 _ rfl)) (H 519 _ rfl) (H 861 _ rfl)) (H 523 _ rfl) (H 862 _ rfl)) (H 525 _ rfl) (H 863 _ rfl)) (H 527 _ rfl) (H 864 _ rfl)).2 h
  exact XB (y := 0) (t := 2) (x := 0) (by rw [e696,e695,e694,e693,e692,e329,e243,e239]; rw [e68]) (by rw [e332,e331,e330,e329,e328,e327,e326,e325,e239]; rw [e225,e68]) (by rw [e441,e440,e439,e438,e437,e436,e329,e240,e239]; rw [e55,e68]) (by rw [e247,e246,e245,e244,e243,e242,e241,e240,e239]; rw [e68,e55]) (Zi hF x0 a.1.1.1.1.1.1.1) (Zi hF x3 a.1.1.1.1.2) (Zi hF x6 a.1.1.2) (Zi hF x1 a.1.1.1.1.1.1.2) (by decide +kernel) hs
 ·have t0 := Wm (H 770 _ rfl) (Qe x0 x1 (H 767 _ rfl) (H 768 _ rfl) (H 769 _ rfl))
  have t1 := Qf t0 (H 726 _ rfl) (H 804 _ rfl) (Qe x0 x2 (H 705 _ rfl) (H 706 _ rfl) (H 707 _ rfl))
  have t2 := Qf t1 (H 613 _ rfl) (H 805 _ rfl) (Qe x1 x2 (H 529 _ rfl) (H 530 _ rfl) (H 531 _ rfl))
  have t3 := Qf t2 (H 727 _ rfl) (H 836 _ rfl) (Qe x0 x3 (H 708 _ rfl) (H 709 _ rfl) (H 710 _ rfl))
  have t4 := Qf t3 (H 614 _ rfl) (H 837 _ rfl) (Qe x1 x3 (H 532 _ rfl) (H 533 _ rfl) (H 534 _ rfl))
  have t5 := Qf t4 (H 616 _ rfl) (H 838 _ rfl) (Qe x2 x3 (H 535 _ rfl) (H 536 _ rfl) (H 537 _ rfl))
  have t6 := Qf t5 (H 730 _ rfl) (H 865 _ rfl) (Qe x0 x4 (H 711 _ rfl) (H 712 _ rfl) (H 713 _ rfl))
  have t7 := Qf t6 (H 618 _ rfl) (H 866 _ rfl) (Qe x1 x4 (H 538 _ rfl) (H 539 _ rfl) (H 540 _ rfl))
  have t8 := Qf t7 (H 620 _ rfl) (H 867 _ rfl) (Qe x2 x4 (H 541 _ rfl) (H 542 _ rfl) (H 543 _ rfl))
  have t9 := Qf t8 (H 622 _ rfl) (H 868 _ rfl) (Qe x3 x4 (H 544 _ rfl) (H 545 _ rfl) (H 546 _ rfl))
  have t10 := Qf t9 (H 739 _ rfl) (H 869 _ rfl) (Qe x0 x6 (H 717 _ rfl) (H 718 _ rfl) (H 719 _ rfl))
  have t11 := Qf t10 (H 632 _ rfl) (H 870 _ rfl) (Qe x1 x6 (H 559 _ rfl) (H 560 _ rfl) (H 561 _ rfl))
  have t12 := Qf t11 (H 634 _ rfl) (H 871 _ rfl) (Qe x2 x6 (H 562 _ rfl) (H 563 _ rfl) (H 564 _ rfl))
  have t13 := Qf t12 (H 636 _ rfl) (H 872 _ rfl) (Qe x3 x6 (H 565 _ rfl) (H 566 _ rfl) (H 567 _ rfl))
  have t14 := Qf t13 (H 638 _ rfl) (H 873 _ rfl) (Qe x4 x6 (H 568 _ rfl) (H 569 _ rfl) (H 570 _ rfl))
  have t15 := Qf t14 (H 745 _ rfl) (H 874 _ rfl) (Qe x0 x7 (H 720 _ rfl) (H 721 _ rfl) (H 722 _ rfl))
  have t16 := Qf t15 (H 642 _ rfl) (H 875 _ rfl) (Qe x1 x7 (H 574 _ rfl) (H 575 _ rfl) (H 576 _ rfl))
  have t17 := Qf t16 (H 644 _ rfl) (H 876 _ rfl) (Qe x2 x7 (H 577 _ rfl) (H 578 _ rfl) (H 579 _ rfl))
  have t18 := Qf t17 (H 646 _ rfl) (H 877 _ rfl) (Qe x3 x7 (H 580 _ rfl) (H 581 _ rfl) (H 582 _ rfl))
  have t19 := Qf t18 (H 648 _ rfl) (H 878 _ rfl) (Qe x4 x7 (H 583 _ rfl) (H 584 _ rfl) (H 585 _ rfl))
  have t20 := Qf t19 (H 652 _ rfl) (H 879 _ rfl) (Qe x6 x7 (H 589 _ rfl) (H 590 _ rfl) (H 591 _ rfl))
  have t21 := Qf t20 (H 752 _ rfl) (H 880 _ rfl) (Qe x0 x8 (H 723 _ rfl) (H 724 _ rfl) (H 725 _ rfl))
  have t22 := Qf t21 (H 654 _ rfl) (H 881 _ rfl) (Qe x1 x8 (H 592 _ rfl) (H 593 _ rfl) (H 594 _ rfl))
  have t23 := Qf t22 (H 656 _ rfl) (H 882 _ rfl) (Qe x2 x8 (H 595 _ rfl) (H 596 _ rfl) (H 597 _ rfl))
  have t24 := Qf t23 (H 658 _ rfl) (H 883 _ rfl) (Qe x3 x8 (H 598 _ rfl) (H 599 _ rfl) (H 600 _ rfl))
  have t25 := Qf t24 (H 660 _ rfl) (H 884 _ rfl) (Qe x4 x8 (H 601 _ rfl) (H 602 _ rfl) (H 603 _ rfl))
  have t26 := Qf t25 (H 664 _ rfl) (H 885 _ rfl) (Qe x6 x8 (H 607 _ rfl) (H 608 _ rfl) (H 609 _ rfl))
  have t27 := Qf t26 (H 666 _ rfl) (H 886 _ rfl) (Qe x7 x8 (H 610 _ rfl) (H 611 _ rfl) (H 612 _ rfl))
  exact t27
theorem tY_V6 (H : JF q σ) : (∀ F : Rat,F ≠ 0→0 < q 52→q 691=F*q 696→q 238=F*q 247→q 282=F*q 289→q 324=F*q 332→q 363=F*q 368→q 399=F*q 404→q 472=F*q 477→q 508=F*q 513→(¬ (q 889=0)∧q 907=0)) := by
 have e46:q 46=q 43*q 43:=H 46 _ rfl;have e47:q 47=q 44*q 44:=H 47 _ rfl;have e48:q 48=q 46+q 47:=H 48 _ rfl;have e49:q 49=4:=(H 49 _ rfl).trans ZW;have e50:q 50=q 49*q 42:=H 50 _ rfl;have e51:q 51=q 50*q 45:=H 51 _ rfl;have e52:q 52=q 48-q 51:=H 52 _ rfl;have e55:q 55=2:=(H 55 _ rfl).trans Jh;have e68:q 68=0:=(H 68 _ rfl).trans Jq;have e225:q 225=1:=(H 225 _ rfl).trans Zc;have e239:q 239=q 68*q 68:=H 239 _ rfl;have e240:q 240=q 55*q 55:=H 240 _ rfl;have e241:q 241=q 239+q 240:=H 241 _ rfl;have e242:q 242=q 42*q 241:=H 242 _ rfl;have e243:q 243=q 43*q 68:=H 243 _ rfl;have e244:q 244=q 44*q 55:=H 244 _ rfl;have e245:q 245=q 242+q 243:=H 245 _ rfl;have e246:q 246=q 245+q 244:=H 246 _ rfl;have e247:q 247=q 246+q 45:=H 247 _ rfl;have e325:q 325=q 225*q 225:=H 325 _ rfl;have e328:q 328=q 43*q 225:=H 328 _ rfl;have e329:q 329=q 44*q 68:=H 329 _ rfl;have e364:q 364=q 325+q 240:=H 364 _ rfl;have e365:q 365=q 42*q 364:=H 365 _ rfl;have e366:q 366=q 365+q 328:=H 366 _ rfl;have e367:q 367=q 366+q 244:=H 367 _ rfl;have e368:q 368=q 367+q 45:=H 368 _ rfl;have e438:q 438=q 43*q 55:=H 438 _ rfl;have e473:q 473=q 240+q 240:=H 473 _ rfl;have e474:q 474=q 42*q 473:=H 474 _ rfl;have e475:q 475=q 474+q 438:=H 475 _ rfl;have e476:q 476=q 475+q 244:=H 476 _ rfl;have e477:q 477=q 476+q 45:=H 477 _ rfl;have e692:q 692=q 239+q 239:=H 692 _ rfl;have e693:q 693=q 42*q 692:=H 693 _ rfl;have e694:q 694=q 693+q 243:=H 694 _ rfl;have e695:q 695=q 694+q 329:=H 695 _ rfl;have e696:q 696=q 695+q 45:=H 696 _ rfl
 intro F hF u1 x0 x1 x2 x3 x4 x5 x7 x8
 have hs : 0 < q 43*q 43+q 44*q 44 - 4*q 42*q 45 := by rw [e52,e51,e50,e49,e48,e46,e47] at u1; exact u1
 refine ⟨fun h => ?_,?_⟩
 ·have a := (Qu (Qu (Qu (Qu (Qu (Qu (Qu (YW (H 697 _ rfl)) (H 514 _ rfl) (H 760 _ rfl)) (H 515 _ rfl) (H 798 _ rfl)) (H 517 _ rfl) (H 831 _ rfl)) (H 519 _ rfl) (H 861 _ rfl)) (H 521 _ rfl) (H 887 _ rfl)) (H 525 _ rfl) (H 888 _ rfl)) (H 527 _ rfl) (H 889 _ rfl)).2 h
  exact XB (y := 2) (t := 0) (x := 0) (by rw [e247,e246,e245,e244,e243,e242,e241,e240,e239]; rw [e68,e55]) (by rw [e368,e367,e366,e365,e364,e328,e325,e244,e240]; rw [e225,e55]) (by rw [e477,e476,e475,e474,e473,e438,e244,e240]; rw [e55]) (by rw [e696,e695,e694,e693,e692,e329,e243,e239]; rw [e68]) (Zi hF x1 a.1.1.1.1.1.1.2) (Zi hF x4 a.1.1.1.2) (Zi hF x7 a.1.2) (Zi hF x0 a.1.1.1.1.1.1.1) (by decide +kernel) hs
 ·have t0 := Wm (H 770 _ rfl) (Qe x0 x1 (H 767 _ rfl) (H 768 _ rfl) (H 769 _ rfl))
  have t1 := Qf t0 (H 726 _ rfl) (H 804 _ rfl) (Qe x0 x2 (H 705 _ rfl) (H 706 _ rfl) (H 707 _ rfl))
  have t2 := Qf t1 (H 613 _ rfl) (H 805 _ rfl) (Qe x1 x2 (H 529 _ rfl) (H 530 _ rfl) (H 531 _ rfl))
  have t3 := Qf t2 (H 727 _ rfl) (H 836 _ rfl) (Qe x0 x3 (H 708 _ rfl) (H 709 _ rfl) (H 710 _ rfl))
  have t4 := Qf t3 (H 614 _ rfl) (H 837 _ rfl) (Qe x1 x3 (H 532 _ rfl) (H 533 _ rfl) (H 534 _ rfl))
  have t5 := Qf t4 (H 616 _ rfl) (H 838 _ rfl) (Qe x2 x3 (H 535 _ rfl) (H 536 _ rfl) (H 537 _ rfl))
  have t6 := Qf t5 (H 730 _ rfl) (H 865 _ rfl) (Qe x0 x4 (H 711 _ rfl) (H 712 _ rfl) (H 713 _ rfl))
  have t7 := Qf t6 (H 618 _ rfl) (H 866 _ rfl) (Qe x1 x4 (H 538 _ rfl) (H 539 _ rfl) (H 540 _ rfl))
  have t8 := Qf t7 (H 620 _ rfl) (H 867 _ rfl) (Qe x2 x4 (H 541 _ rfl) (H 542 _ rfl) (H 543 _ rfl))
  have t9 := Qf t8 (H 622 _ rfl) (H 868 _ rfl) (Qe x3 x4 (H 544 _ rfl) (H 545 _ rfl) (H 546 _ rfl))
  have t10 := Qf t9 (H 734 _ rfl) (H 890 _ rfl) (Qe x0 x5 (H 714 _ rfl) (H 715 _ rfl) (H 716 _ rfl))
  have t11 := Qf t10 (H 624 _ rfl) (H 891 _ rfl) (Qe x1 x5 (H 547 _ rfl) (H 548 _ rfl) (H 549 _ rfl))
  have t12 := Qf t11 (H 626 _ rfl) (H 892 _ rfl) (Qe x2 x5 (H 550 _ rfl) (H 551 _ rfl) (H 552 _ rfl))
  have t13 := Qf t12 (H 628 _ rfl) (H 893 _ rfl) (Qe x3 x5 (H 553 _ rfl) (H 554 _ rfl) (H 555 _ rfl))
  have t14 := Qf t13 (H 630 _ rfl) (H 894 _ rfl) (Qe x4 x5 (H 556 _ rfl) (H 557 _ rfl) (H 558 _ rfl))
  have t15 := Qf t14 (H 745 _ rfl) (H 895 _ rfl) (Qe x0 x7 (H 720 _ rfl) (H 721 _ rfl) (H 722 _ rfl))
  have t16 := Qf t15 (H 642 _ rfl) (H 896 _ rfl) (Qe x1 x7 (H 574 _ rfl) (H 575 _ rfl) (H 576 _ rfl))
  have t17 := Qf t16 (H 644 _ rfl) (H 897 _ rfl) (Qe x2 x7 (H 577 _ rfl) (H 578 _ rfl) (H 579 _ rfl))
  have t18 := Qf t17 (H 646 _ rfl) (H 898 _ rfl) (Qe x3 x7 (H 580 _ rfl) (H 581 _ rfl) (H 582 _ rfl))
  have t19 := Qf t18 (H 648 _ rfl) (H 899 _ rfl) (Qe x4 x7 (H 583 _ rfl) (H 584 _ rfl) (H 585 _ rfl))
  have t20 := Qf t19 (H 650 _ rfl) (H 900 _ rfl) (Qe x5 x7 (H 586 _ rfl) (H 587 _ rfl) (H 588 _ rfl))
  have t21 := Qf t20 (H 752 _ rfl) (H 901 _ rfl) (Qe x0 x8 (H 723 _ rfl) (H 724 _ rfl) (H 725 _ rfl))
  have t22 := Qf t21 (H 654 _ rfl) (H 902 _ rfl) (Qe x1 x8 (H 592 _ rfl) (H 593 _ rfl) (H 594 _ rfl))
  have t23 := Qf t22 (H 656 _ rfl) (H 903 _ rfl) (Qe x2 x8 (H 595 _ rfl) (H 596 _ rfl) (H 597 _ rfl))
  have t24 := Qf t23 (H 658 _ rfl) (H 904 _ rfl) (Qe x3 x8 (H 598 _ rfl) (H 599 _ rfl) (H 600 _ rfl))
  have t25 := Qf t24 (H 660 _ rfl) (H 905 _ rfl) (Qe x4 x8 (H 601 _ rfl) (H 602 _ rfl) (H 603 _ rfl))
  have t26 := Qf t25 (H 662 _ rfl) (H 906 _ rfl) (Qe x5 x8 (H 604 _ rfl) (H 605 _ rfl) (H 606 _ rfl))
  have t27 := Qf t26 (H 666 _ rfl) (H 907 _ rfl) (Qe x7 x8 (H 610 _ rfl) (H 611 _ rfl) (H 612 _ rfl))
  exact t27
theorem tY_V7 (H : JF q σ) : (∀ F : Rat,F ≠ 0→0 < q 52→q 691=F*q 696→q 238=F*q 247→q 282=F*q 289→q 324=F*q 332→q 363=F*q 368→q 399=F*q 404→q 435=F*q 441→q 508=F*q 513→(¬ (q 909=0)∧q 922=0)) := by
 have e46:q 46=q 43*q 43:=H 46 _ rfl;have e47:q 47=q 44*q 44:=H 47 _ rfl;have e48:q 48=q 46+q 47:=H 48 _ rfl;have e49:q 49=4:=(H 49 _ rfl).trans ZW;have e50:q 50=q 49*q 42:=H 50 _ rfl;have e51:q 51=q 50*q 45:=H 51 _ rfl;have e52:q 52=q 48-q 51:=H 52 _ rfl;have e55:q 55=2:=(H 55 _ rfl).trans Jh;have e68:q 68=0:=(H 68 _ rfl).trans Jq;have e225:q 225=1:=(H 225 _ rfl).trans Zc;have e239:q 239=q 68*q 68:=H 239 _ rfl;have e240:q 240=q 55*q 55:=H 240 _ rfl;have e241:q 241=q 239+q 240:=H 241 _ rfl;have e242:q 242=q 42*q 241:=H 242 _ rfl;have e243:q 243=q 43*q 68:=H 243 _ rfl;have e244:q 244=q 44*q 55:=H 244 _ rfl;have e245:q 245=q 242+q 243:=H 245 _ rfl;have e246:q 246=q 245+q 244:=H 246 _ rfl;have e247:q 247=q 246+q 45:=H 247 _ rfl;have e325:q 325=q 225*q 225:=H 325 _ rfl;have e326:q 326=q 325+q 239:=H 326 _ rfl;have e327:q 327=q 42*q 326:=H 327 _ rfl;have e328:q 328=q 43*q 225:=H 328 _ rfl;have e329:q 329=q 44*q 68:=H 329 _ rfl;have e330:q 330=q 327+q 328:=H 330 _ rfl;have e331:q 331=q 330+q 329:=H 331 _ rfl;have e332:q 332=q 331+q 45:=H 332 _ rfl;have e436:q 436=q 240+q 239:=H 436 _ rfl;have e437:q 437=q 42*q 436:=H 437 _ rfl;have e438:q 438=q 43*q 55:=H 438 _ rfl;have e439:q 439=q 437+q 438:=H 439 _ rfl;have e440:q 440=q 439+q 329:=H 440 _ rfl;have e441:q 441=q 440+q 45:=H 441 _ rfl;have e692:q 692=q 239+q 239:=H 692 _ rfl;have e693:q 693=q 42*q 692:=H 693 _ rfl;have e694:q 694=q 693+q 243:=H 694 _ rfl;have e695:q 695=q 694+q 329:=H 695 _ rfl;have e696:q 696=q 695+q 45:=H 696 _ rfl
 intro F hF u1 x0 x1 x2 x3 x4 x5 x6 x8
 have hs : 0 < q 43*q 43+q 44*q 44 - 4*q 42*q 45 := by rw [e52,e51,e50,e49,e48,e46,e47] at u1; exact u1
 refine ⟨fun h => ?_,?_⟩
 ·have a := (Qu (Qu (Qu (Qu (Qu (Qu (Qu (YW (H 697 _ rfl)) (H 514 _ rfl) (H 760 _ rfl)) (H 515 _ rfl) (H 798 _ rfl)) (H 517 _ rfl) (H 831 _ rfl)) (H 519 _ rfl) (H 861 _ rfl)) (H 521 _ rfl) (H 887 _ rfl)) (H 523 _ rfl) (H 908 _ rfl)) (H 527 _ rfl) (H 909 _ rfl)).2 h
  exact XB (y := 0) (t := 2) (x := 0) (by rw [e696,e695,e694,e693,e692,e329,e243,e239]; rw [e68]) (by rw [e332,e331,e330,e329,e328,e327,e326,e325,e239]; rw [e225,e68]) (by rw [e441,e440,e439,e438,e437,e436,e329,e240,e239]; rw [e55,e68]) (by rw [e247,e246,e245,e244,e243,e242,e241,e240,e239]; rw [e68,e55]) (Zi hF x0 a.1.1.1.1.1.1.1) (Zi hF x3 a.1.1.1.1.2) (Zi hF x6 a.1.2) (Zi hF x1 a.1.1.1.1.1.1.2) (by decide +kernel) hs
 ·have t0 := Wm (H 770 _ rfl) (Qe x0 x1 (H 767 _ rfl) (H 768 _ rfl) (H 769 _ rfl))
  have t1 := Qf t0 (H 726 _ rfl) (H 804 _ rfl) (Qe x0 x2 (H 705 _ rfl) (H 706 _ rfl) (H 707 _ rfl))
  have t2 := Qf t1 (H 613 _ rfl) (H 805 _ rfl) (Qe x1 x2 (H 529 _ rfl) (H 530 _ rfl) (H 531 _ rfl))
  have t3 := Qf t2 (H 727 _ rfl) (H 836 _ rfl) (Qe x0 x3 (H 708 _ rfl) (H 709 _ rfl) (H 710 _ rfl))
  have t4 := Qf t3 (H 614 _ rfl) (H 837 _ rfl) (Qe x1 x3 (H 532 _ rfl) (H 533 _ rfl) (H 534 _ rfl))
  have t5 := Qf t4 (H 616 _ rfl) (H 838 _ rfl) (Qe x2 x3 (H 535 _ rfl) (H 536 _ rfl) (H 537 _ rfl))
  have t6 := Qf t5 (H 730 _ rfl) (H 865 _ rfl) (Qe x0 x4 (H 711 _ rfl) (H 712 _ rfl) (H 713 _ rfl))
  have t7 := Qf t6 (H 618 _ rfl) (H 866 _ rfl) (Qe x1 x4 (H 538 _ rfl) (H 539 _ rfl) (H 540 _ rfl))
  have t8 := Qf t7 (H 620 _ rfl) (H 867 _ rfl) (Qe x2 x4 (H 541 _ rfl) (H 542 _ rfl) (H 543 _ rfl))
  have t9 := Qf t8 (H 622 _ rfl) (H 868 _ rfl) (Qe x3 x4 (H 544 _ rfl) (H 545 _ rfl) (H 546 _ rfl))
  have t10 := Qf t9 (H 734 _ rfl) (H 890 _ rfl) (Qe x0 x5 (H 714 _ rfl) (H 715 _ rfl) (H 716 _ rfl))
  have t11 := Qf t10 (H 624 _ rfl) (H 891 _ rfl) (Qe x1 x5 (H 547 _ rfl) (H 548 _ rfl) (H 549 _ rfl))
  have t12 := Qf t11 (H 626 _ rfl) (H 892 _ rfl) (Qe x2 x5 (H 550 _ rfl) (H 551 _ rfl) (H 552 _ rfl))
  have t13 := Qf t12 (H 628 _ rfl) (H 893 _ rfl) (Qe x3 x5 (H 553 _ rfl) (H 554 _ rfl) (H 555 _ rfl))
  have t14 := Qf t13 (H 630 _ rfl) (H 894 _ rfl) (Qe x4 x5 (H 556 _ rfl) (H 557 _ rfl) (H 558 _ rfl))
  have t15 := Qf t14 (H 739 _ rfl) (H 910 _ rfl) (Qe x0 x6 (H 717 _ rfl) (H 718 _ rfl) (H 719 _ rfl))
  have t16 := Qf t15 (H 632 _ rfl) (H 911 _ rfl) (Qe x1 x6 (H 559 _ rfl) (H 560 _ rfl) (H 561 _ rfl))
  have t17 := Qf t16 (H 634 _ rfl) (H 912 _ rfl) (Qe x2 x6 (H 562 _ rfl) (H 563 _ rfl) (H 564 _ rfl))
  have t18 := Qf t17 (H 636 _ rfl) (H 913 _ rfl) (Qe x3 x6 (H 565 _ rfl) (H 566 _ rfl) (H 567 _ rfl))
  have t19 := Qf t18 (H 638 _ rfl) (H 914 _ rfl) (Qe x4 x6 (H 568 _ rfl) (H 569 _ rfl) (H 570 _ rfl))
  have t20 := Qf t19 (H 640 _ rfl) (H 915 _ rfl) (Qe x5 x6 (H 571 _ rfl) (H 572 _ rfl) (H 573 _ rfl))
  have t21 := Qf t20 (H 752 _ rfl) (H 916 _ rfl) (Qe x0 x8 (H 723 _ rfl) (H 724 _ rfl) (H 725 _ rfl))
  have t22 := Qf t21 (H 654 _ rfl) (H 917 _ rfl) (Qe x1 x8 (H 592 _ rfl) (H 593 _ rfl) (H 594 _ rfl))
  have t23 := Qf t22 (H 656 _ rfl) (H 918 _ rfl) (Qe x2 x8 (H 595 _ rfl) (H 596 _ rfl) (H 597 _ rfl))
  have t24 := Qf t23 (H 658 _ rfl) (H 919 _ rfl) (Qe x3 x8 (H 598 _ rfl) (H 599 _ rfl) (H 600 _ rfl))
  have t25 := Qf t24 (H 660 _ rfl) (H 920 _ rfl) (Qe x4 x8 (H 601 _ rfl) (H 602 _ rfl) (H 603 _ rfl))
  have t26 := Qf t25 (H 662 _ rfl) (H 921 _ rfl) (Qe x5 x8 (H 604 _ rfl) (H 605 _ rfl) (H 606 _ rfl))
  have t27 := Qf t26 (H 664 _ rfl) (H 922 _ rfl) (Qe x6 x8 (H 607 _ rfl) (H 608 _ rfl) (H 609 _ rfl))
  exact t27
theorem tY_V8 (H : JF q σ) : (∀ F : Rat,F ≠ 0→0 < q 52→q 691=F*q 696→q 238=F*q 247→q 282=F*q 289→q 324=F*q 332→q 363=F*q 368→q 399=F*q 404→q 435=F*q 441→q 472=F*q 477→(¬ (q 923=0)∧q 930=0)) := by
 have e46:q 46=q 43*q 43:=H 46 _ rfl;have e47:q 47=q 44*q 44:=H 47 _ rfl;have e48:q 48=q 46+q 47:=H 48 _ rfl;have e49:q 49=4:=(H 49 _ rfl).trans ZW;have e50:q 50=q 49*q 42:=H 50 _ rfl;have e51:q 51=q 50*q 45:=H 51 _ rfl;have e52:q 52=q 48-q 51:=H 52 _ rfl;have e55:q 55=2:=(H 55 _ rfl).trans Jh;have e68:q 68=0:=(H 68 _ rfl).trans Jq;have e225:q 225=1:=(H 225 _ rfl).trans Zc;have e239:q 239=q 68*q 68:=H 239 _ rfl;have e240:q 240=q 55*q 55:=H 240 _ rfl;have e241:q 241=q 239+q 240:=H 241 _ rfl;have e242:q 242=q 42*q 241:=H 242 _ rfl;have e243:q 243=q 43*q 68:=H 243 _ rfl;have e244:q 244=q 44*q 55:=H 244 _ rfl;have e245:q 245=q 242+q 243:=H 245 _ rfl;have e246:q 246=q 245+q 244:=H 246 _ rfl;have e247:q 247=q 246+q 45:=H 247 _ rfl;have e325:q 325=q 225*q 225:=H 325 _ rfl;have e326:q 326=q 325+q 239:=H 326 _ rfl;have e327:q 327=q 42*q 326:=H 327 _ rfl;have e328:q 328=q 43*q 225:=H 328 _ rfl;have e329:q 329=q 44*q 68:=H 329 _ rfl;have e330:q 330=q 327+q 328:=H 330 _ rfl;have e331:q 331=q 330+q 329:=H 331 _ rfl;have e332:q 332=q 331+q 45:=H 332 _ rfl;have e436:q 436=q 240+q 239:=H 436 _ rfl;have e437:q 437=q 42*q 436:=H 437 _ rfl;have e438:q 438=q 43*q 55:=H 438 _ rfl;have e439:q 439=q 437+q 438:=H 439 _ rfl;have e440:q 440=q 439+q 329:=H 440 _ rfl;have e441:q 441=q 440+q 45:=H 441 _ rfl;have e692:q 692=q 239+q 239:=H 692 _ rfl;have e693:q 693=q 42*q 692:=H 693 _ rfl;have e694:q 694=q 693+q 243:=H 694 _ rfl;have e695:q 695=q 694+q 329:=H 695 _ rfl;have e696:q 696=q 695+q 45:=H 696 _ rfl
 intro F hF u1 x0 x1 x2 x3 x4 x5 x6 x7
 have hs : 0 < q 43*q 43+q 44*q 44 - 4*q 42*q 45 := by rw [e52,e51,e50,e49,e48,e46,e47] at u1; exact u1
 refine ⟨fun h => ?_,?_⟩
 ·have a := (Qu (Qu (Qu (Qu (Qu (Qu (Qu (YW (H 697 _ rfl)) (H 514 _ rfl) (H 760 _ rfl)) (H 515 _ rfl) (H 798 _ rfl)) (H 517 _ rfl) (H 831 _ rfl)) (H 519 _ rfl) (H 861 _ rfl)) (H 521 _ rfl) (H 887 _ rfl)) (H 523 _ rfl) (H 908 _ rfl)) (H 525 _ rfl) (H 923 _ rfl)).2 h
  exact XB (y := 0) (t := 2) (x := 0) (by rw [e696,e695,e694,e693,e692,e329,e243,e239]; rw [e68]) (by rw [e332,e331,e330,e329,e328,e327,e326,e325,e239]; rw [e225,e68]) (by rw [e441,e440,e439,e438,e437,e436,e329,e240,e239]; rw [e55,e68]) (by rw [e247,e246,e245,e244,e243,e242,e241,e240,e239]; rw [e68,e55]) (Zi hF x0 a.1.1.1.1.1.1.1) (Zi hF x3 a.1.1.1.1.2) (Zi hF x6 a.1.2) (Zi hF x1 a.1.1.1.1.1.1.2) (by decide +kernel) hs
 ·have t0 := Wm (H 770 _ rfl) (Qe x0 x1 (H 767 _ rfl) (H 768 _ rfl) (H 769 _ rfl))
  have t1 := Qf t0 (H 726 _ rfl) (H 804 _ rfl) (Qe x0 x2 (H 705 _ rfl) (H 706 _ rfl) (H 707 _ rfl))
  have t2 := Qf t1 (H 613 _ rfl) (H 805 _ rfl) (Qe x1 x2 (H 529 _ rfl) (H 530 _ rfl) (H 531 _ rfl))
  have t3 := Qf t2 (H 727 _ rfl) (H 836 _ rfl) (Qe x0 x3 (H 708 _ rfl) (H 709 _ rfl) (H 710 _ rfl))
  have t4 := Qf t3 (H 614 _ rfl) (H 837 _ rfl) (Qe x1 x3 (H 532 _ rfl) (H 533 _ rfl) (H 534 _ rfl))
  have t5 := Qf t4 (H 616 _ rfl) (H 838 _ rfl) (Qe x2 x3 (H 535 _ rfl) (H 536 _ rfl) (H 537 _ rfl))
  have t6 := Qf t5 (H 730 _ rfl) (H 865 _ rfl) (Qe x0 x4 (H 711 _ rfl) (H 712 _ rfl) (H 713 _ rfl))
  have t7 := Qf t6 (H 618 _ rfl) (H 866 _ rfl) (Qe x1 x4 (H 538 _ rfl) (H 539 _ rfl) (H 540 _ rfl))
  have t8 := Qf t7 (H 620 _ rfl) (H 867 _ rfl) (Qe x2 x4 (H 541 _ rfl) (H 542 _ rfl) (H 543 _ rfl))
  have t9 := Qf t8 (H 622 _ rfl) (H 868 _ rfl) (Qe x3 x4 (H 544 _ rfl) (H 545 _ rfl) (H 546 _ rfl))
  have t10 := Qf t9 (H 734 _ rfl) (H 890 _ rfl) (Qe x0 x5 (H 714 _ rfl) (H 715 _ rfl) (H 716 _ rfl))
  have t11 := Qf t10 (H 624 _ rfl) (H 891 _ rfl) (Qe x1 x5 (H 547 _ rfl) (H 548 _ rfl) (H 549 _ rfl))
  have t12 := Qf t11 (H 626 _ rfl) (H 892 _ rfl) (Qe x2 x5 (H 550 _ rfl) (H 551 _ rfl) (H 552 _ rfl))
  have t13 := Qf t12 (H 628 _ rfl) (H 893 _ rfl) (Qe x3 x5 (H 553 _ rfl) (H 554 _ rfl) (H 555 _ rfl))
  have t14 := Qf t13 (H 630 _ rfl) (H 894 _ rfl) (Qe x4 x5 (H 556 _ rfl) (H 557 _ rfl) (H 558 _ rfl))
  have t15 := Qf t14 (H 739 _ rfl) (H 910 _ rfl) (Qe x0 x6 (H 717 _ rfl) (H 718 _ rfl) (H 719 _ rfl))
  have t16 := Qf t15 (H 632 _ rfl) (H 911 _ rfl) (Qe x1 x6 (H 559 _ rfl) (H 560 _ rfl) (H 561 _ rfl))
  have t17 := Qf t16 (H 634 _ rfl) (H 912 _ rfl) (Qe x2 x6 (H 562 _ rfl) (H 563 _ rfl) (H 564 _ rfl))
  have t18 := Qf t17 (H 636 _ rfl) (H 913 _ rfl) (Qe x3 x6 (H 565 _ rfl) (H 566 _ rfl) (H 567 _ rfl))
  have t19 := Qf t18 (H 638 _ rfl) (H 914 _ rfl) (Qe x4 x6 (H 568 _ rfl) (H 569 _ rfl) (H 570 _ rfl))
  have t20 := Qf t19 (H 640 _ rfl) (H 915 _ rfl) (Qe x5 x6 (H 571 _ rfl) (H 572 _ rfl) (H 573 _ rfl))
  have t21 := Qf t20 (H 745 _ rfl) (H 924 _ rfl) (Qe x0 x7 (H 720 _ rfl) (H 721 _ rfl) (H 722 _ rfl))
  have t22 := Qf t21 (H 642 _ rfl) (H 925 _ rfl) (Qe x1 x7 (H 574 _ rfl) (H 575 _ rfl) (H 576 _ rfl))
  have t23 := Qf t22 (H 644 _ rfl) (H 926 _ rfl) (Qe x2 x7 (H 577 _ rfl) (H 578 _ rfl) (H 579 _ rfl))
  have t24 := Qf t23 (H 646 _ rfl) (H 927 _ rfl) (Qe x3 x7 (H 580 _ rfl) (H 581 _ rfl) (H 582 _ rfl))
  have t25 := Qf t24 (H 648 _ rfl) (H 928 _ rfl) (Qe x4 x7 (H 583 _ rfl) (H 584 _ rfl) (H 585 _ rfl))
  have t26 := Qf t25 (H 650 _ rfl) (H 929 _ rfl) (Qe x5 x7 (H 586 _ rfl) (H 587 _ rfl) (H 588 _ rfl))
  have t27 := Qf t26 (H 652 _ rfl) (H 930 _ rfl) (Qe x6 x7 (H 589 _ rfl) (H 590 _ rfl) (H 591 _ rfl))
  exact t27
theorem tY_V9 (H : JF q σ) : (∀ F : Rat,F ≠ 0→0 < q 52→q 691=F*q 696→q 238=F*q 247→q 282=F*q 289→q 324=F*q 332→q 363=F*q 368→q 399=F*q 404→q 435=F*q 441→q 472=F*q 477→q 508=F*q 513→(¬ (q 931=0)∧q 939=0)) := by
 have e46:q 46=q 43*q 43:=H 46 _ rfl;have e47:q 47=q 44*q 44:=H 47 _ rfl;have e48:q 48=q 46+q 47:=H 48 _ rfl;have e49:q 49=4:=(H 49 _ rfl).trans ZW;have e50:q 50=q 49*q 42:=H 50 _ rfl;have e51:q 51=q 50*q 45:=H 51 _ rfl;have e52:q 52=q 48-q 51:=H 52 _ rfl;have e55:q 55=2:=(H 55 _ rfl).trans Jh;have e68:q 68=0:=(H 68 _ rfl).trans Jq;have e225:q 225=1:=(H 225 _ rfl).trans Zc;have e239:q 239=q 68*q 68:=H 239 _ rfl;have e240:q 240=q 55*q 55:=H 240 _ rfl;have e241:q 241=q 239+q 240:=H 241 _ rfl;have e242:q 242=q 42*q 241:=H 242 _ rfl;have e243:q 243=q 43*q 68:=H 243 _ rfl;have e244:q 244=q 44*q 55:=H 244 _ rfl;have e245:q 245=q 242+q 243:=H 245 _ rfl;have e246:q 246=q 245+q 244:=H 246 _ rfl;have e247:q 247=q 246+q 45:=H 247 _ rfl;have e325:q 325=q 225*q 225:=H 325 _ rfl;have e326:q 326=q 325+q 239:=H 326 _ rfl;have e327:q 327=q 42*q 326:=H 327 _ rfl;have e328:q 328=q 43*q 225:=H 328 _ rfl;have e329:q 329=q 44*q 68:=H 329 _ rfl;have e330:q 330=q 327+q 328:=H 330 _ rfl;have e331:q 331=q 330+q 329:=H 331 _ rfl;have e332:q 332=q 331+q 45:=H 332 _ rfl;have e436:q 436=q 240+q 239:=H 436 _ rfl;have e437:q 437=q 42*q 436:=H 437 _ rfl;have e438:q 438=q 43*q 55:=H 438 _ rfl;have e439:q 439=q 437+q 438:=H 439 _ rfl;have e440:q 440=q 439+q 329:=H 440 _ rfl;have e441:q 441=q 440+q 45:=H 441 _ rfl;have e692:q 692=q 239+q 239:=H 692 _ rfl;have e693:q 693=q 42*q 692:=H 693 _ rfl;have e694:q 694=q 693+q 243:=H 694 _ rfl;have e695:q 695=q 694+q 329:=H 695 _ rfl;have e696:q 696=q 695+q 45:=H 696 _ rfl
 intro F hF u1 x0 x1 x2 x3 x4 x5 x6 x7 x8
 have hs : 0 < q 43*q 43+q 44*q 44 - 4*q 42*q 45 := by rw [e52,e51,e50,e49,e48,e46,e47] at u1; exact u1
 refine ⟨fun h => ?_,?_⟩
 ·have a := (Qu (Qu (Qu (Qu (Qu (Qu (Qu (Qu (YW (H 697 _ rfl)) (H 514 _ rfl) (H 760 _ rfl)) (H 515 _ rfl) (H 798 _ rfl)) (H 517 _ rfl) (H 831 _ rfl)) (H 519 _ rfl) (H 861 _ rfl)) (H 521 _ rfl) (H 887 _ rfl)) (H 523 _ rfl) (H 908 _ rfl)) (H 525 _ rfl) (H 923 _ rfl)) (H 527 _ rfl) (H 931 _ rfl)).2 h
  exact XB (y := 0) (t := 2) (x := 0) (by rw [e696,e695,e694,e693,e692,e329,e243,e239]; rw [e68]) (by rw [e332,e331,e330,e329,e328,e327,e326,e325,e239]; rw [e225,e68]) (by rw [e441,e440,e439,e438,e437,e436,e329,e240,e239]; rw [e55,e68]) (by rw [e247,e246,e245,e244,e243,e242,e241,e240,e239]; rw [e68,e55]) (Zi hF x0 a.1.1.1.1.1.1.1.1) (Zi hF x3 a.1.1.1.1.1.2) (Zi hF x6 a.1.1.2) (Zi hF x1 a.1.1.1.1.1.1.1.2) (by decide +kernel) hs
 ·have t0 := Wm (H 770 _ rfl) (Qe x0 x1 (H 767 _ rfl) (H 768 _ rfl) (H 769 _ rfl))
  have t1 := Qf t0 (H 726 _ rfl) (H 804 _ rfl) (Qe x0 x2 (H 705 _ rfl) (H 706 _ rfl) (H 707 _ rfl))
  have t2 := Qf t1 (H 613 _ rfl) (H 805 _ rfl) (Qe x1 x2 (H 529 _ rfl) (H 530 _ rfl) (H 531 _ rfl))
  have t3 := Qf t2 (H 727 _ rfl) (H 836 _ rfl) (Qe x0 x3 (H 708 _ rfl) (H 709 _ rfl) (H 710 _ rfl))
  have t4 := Qf t3 (H 614 _ rfl) (H 837 _ rfl) (Qe x1 x3 (H 532 _ rfl) (H 533 _ rfl) (H 534 _ rfl))
  have t5 := Qf t4 (H 616 _ rfl) (H 838 _ rfl) (Qe x2 x3 (H 535 _ rfl) (H 536 _ rfl) (H 537 _ rfl))
  have t6 := Qf t5 (H 730 _ rfl) (H 865 _ rfl) (Qe x0 x4 (H 711 _ rfl) (H 712 _ rfl) (H 713 _ rfl))
  have t7 := Qf t6 (H 618 _ rfl) (H 866 _ rfl) (Qe x1 x4 (H 538 _ rfl) (H 539 _ rfl) (H 540 _ rfl))
  have t8 := Qf t7 (H 620 _ rfl) (H 867 _ rfl) (Qe x2 x4 (H 541 _ rfl) (H 542 _ rfl) (H 543 _ rfl))
  have t9 := Qf t8 (H 622 _ rfl) (H 868 _ rfl) (Qe x3 x4 (H 544 _ rfl) (H 545 _ rfl) (H 546 _ rfl))
  have t10 := Qf t9 (H 734 _ rfl) (H 890 _ rfl) (Qe x0 x5 (H 714 _ rfl) (H 715 _ rfl) (H 716 _ rfl))
  have t11 := Qf t10 (H 624 _ rfl) (H 891 _ rfl) (Qe x1 x5 (H 547 _ rfl) (H 548 _ rfl) (H 549 _ rfl))
  have t12 := Qf t11 (H 626 _ rfl) (H 892 _ rfl) (Qe x2 x5 (H 550 _ rfl) (H 551 _ rfl) (H 552 _ rfl))
  have t13 := Qf t12 (H 628 _ rfl) (H 893 _ rfl) (Qe x3 x5 (H 553 _ rfl) (H 554 _ rfl) (H 555 _ rfl))
  have t14 := Qf t13 (H 630 _ rfl) (H 894 _ rfl) (Qe x4 x5 (H 556 _ rfl) (H 557 _ rfl) (H 558 _ rfl))
  have t15 := Qf t14 (H 739 _ rfl) (H 910 _ rfl) (Qe x0 x6 (H 717 _ rfl) (H 718 _ rfl) (H 719 _ rfl))
  have t16 := Qf t15 (H 632 _ rfl) (H 911 _ rfl) (Qe x1 x6 (H 559 _ rfl) (H 560 _ rfl) (H 561 _ rfl))
  have t17 := Qf t16 (H 634 _ rfl) (H 912 _ rfl) (Qe x2 x6 (H 562 _ rfl) (H 563 _ rfl) (H 564 _ rfl))
  have t18 := Qf t17 (H 636 _ rfl) (H 913 _ rfl) (Qe x3 x6 (H 565 _ rfl) (H 566 _ rfl) (H 567 _ rfl))
  have t19 := Qf t18 (H 638 _ rfl) (H 914 _ rfl) (Qe x4 x6 (H 568 _ rfl) (H 569 _ rfl) (H 570 _ rfl))
  have t20 := Qf t19 (H 640 _ rfl) (H 915 _ rfl) (Qe x5 x6 (H 571 _ rfl) (H 572 _ rfl) (H 573 _ rfl))
  have t21 := Qf t20 (H 745 _ rfl) (H 924 _ rfl) (Qe x0 x7 (H 720 _ rfl) (H 721 _ rfl) (H 722 _ rfl))
  have t22 := Qf t21 (H 642 _ rfl) (H 925 _ rfl) (Qe x1 x7 (H 574 _ rfl) (H 575 _ rfl) (H 576 _ rfl))
  have t23 := Qf t22 (H 644 _ rfl) (H 926 _ rfl) (Qe x2 x7 (H 577 _ rfl) (H 578 _ rfl) (H 579 _ rfl))
  have t24 := Qf t23 (H 646 _ rfl) (H 927 _ rfl) (Qe x3 x7 (H 580 _ rfl) (H 581 _ rfl) (H 582 _ rfl))
  have t25 := Qf t24 (H 648 _ rfl) (H 928 _ rfl) (Qe x4 x7 (H 583 _ rfl) (H 584 _ rfl) (H 585 _ rfl))
  have t26 := Qf t25 (H 650 _ rfl) (H 929 _ rfl) (Qe x5 x7 (H 586 _ rfl) (H 587 _ rfl) (H 588 _ rfl))
  have t27 := Qf t26 (H 652 _ rfl) (H 930 _ rfl) (Qe x6 x7 (H 589 _ rfl) (H 590 _ rfl) (H 591 _ rfl))
  have t28 := Qf t27 (H 752 _ rfl) (H 932 _ rfl) (Qe x0 x8 (H 723 _ rfl) (H 724 _ rfl) (H 725 _ rfl))
  have t29 := Qf t28 (H 654 _ rfl) (H 933 _ rfl) (Qe x1 x8 (H 592 _ rfl) (H 593 _ rfl) (H 594 _ rfl))
  have t30 := Qf t29 (H 656 _ rfl) (H 934 _ rfl) (Qe x2 x8 (H 595 _ rfl) (H 596 _ rfl) (H 597 _ rfl))
  have t31 := Qf t30 (H 658 _ rfl) (H 935 _ rfl) (Qe x3 x8 (H 598 _ rfl) (H 599 _ rfl) (H 600 _ rfl))
  have t32 := Qf t31 (H 660 _ rfl) (H 936 _ rfl) (Qe x4 x8 (H 601 _ rfl) (H 602 _ rfl) (H 603 _ rfl))
  have t33 := Qf t32 (H 662 _ rfl) (H 937 _ rfl) (Qe x5 x8 (H 604 _ rfl) (H 605 _ rfl) (H 606 _ rfl))
  have t34 := Qf t33 (H 664 _ rfl) (H 938 _ rfl) (Qe x6 x8 (H 607 _ rfl) (H 608 _ rfl) (H 609 _ rfl))
  have t35 := Qf t34 (H 666 _ rfl) (H 939 _ rfl) (Qe x7 x8 (H 610 _ rfl) (H 611 _ rfl) (H 612 _ rfl))
  exact t35
def JZ : List (FuncId × Nat) := [(31,61),(32,62),(17,63),(100,64),(27,65),(34,66),(80,60),(21,67),(23,63)]
def tY_G : Vw := [(29,[pA [8,9,10,11],rA [68,68]],r1 696),(29,[tA [169,170,171,172],rA [680,681]],r1 690),(28,[rA [670,671],rA [196,197]],rA [680,681]),(25,[rA [0,1],rA [68,68]],rA [668,669]),(29,[pA [8,9,10,11],rA [55,49]],r1 513),(29,[tA [169,170,171,172],rA [497,498]],r1 507),(28,[rA [487,488],rA [480,481]],rA [497,498]),(25,[rA [0,1],rA [55,49]],rA [485,486]),(25,[rA [4,5],rA [55,49]],rA [478,479]),(29,[pA [8,9,10,11],rA [55,55]],r1 477),(29,[tA [169,170,171,172],rA [461,462]],r1 471),(28,[rA [451,452],rA [444,445]],rA [461,462]),(25,[rA [0,1],rA [55,55]],rA [449,450]),(25,[rA [4,5],rA [55,55]],rA [442,443]),(29,[pA [8,9,10,11],rA [55,68]],r1 441),(29,[tA [169,170,171,172],rA [424,425]],r1 434),(28,[rA [414,415],rA [407,408]],rA [424,425]),(25,[rA [0,1],rA [55,68]],rA [412,413]),(25,[rA [4,5],rA [55,68]],rA [405,406]),(29,[pA [8,9,10,11],rA [225,49]],r1 404),(29,[tA [169,170,171,172],rA [388,389]],r1 398),(28,[rA [378,379],rA [371,372]],rA [388,389]),(25,[rA [0,1],rA [225,49]],rA [376,377]),(25,[rA [4,5],rA [225,49]],rA [369,370]),(29,[pA [8,9,10,11],rA [225,55]],r1 368),(29,[tA [169,170,171,172],rA [352,353]],r1 362),(28,[rA [342,343],rA [335,336]],rA [352,353]),(25,[rA [0,1],rA [225,55]],rA [340,341]),(25,[rA [4,5],rA [225,55]],rA [333,334]),(29,[pA [8,9,10,11],rA [225,68]],r1 332),(29,[tA [169,170,171,172],rA [313,314]],r1 323),(28,[rA [303,304],rA [294,295]],rA [313,314]),(25,[rA [0,1],rA [225,68]],rA [300,302]),(25,[rA [4,5],rA [225,68]],rA [291,293]),(29,[pA [8,9,10,11],rA [68,49]],r1 289),(29,[tA [169,170,171,172],rA [271,272]],r1 281),(28,[rA [261,262],rA [252,253]],rA [271,272]),(25,[rA [0,1],rA [68,49]],rA [258,260]),(25,[rA [4,5],rA [68,49]],rA [249,251]),(29,[pA [8,9,10,11],rA [68,55]],r1 247),(29,[tA [169,170,171,172],rA [227,228]],r1 237),(28,[rA [216,217],rA [205,206]],rA [227,228]),(25,[rA [0,1],rA [68,55]],rA [212,215]),(25,[rA [4,5],rA [68,55]],rA [202,204]),(25,[rA [4,5],rA [68,68]],rA [194,195]),(64,[qA [104,151,152,167]],tA [169,170,171,172]),(76,[qA [140,141],qA [0,12]],qA [163,166]),(76,[qA [118,119],qA [53,130]],qA [156,159]),(76,[qA [140,141],qA [54,64]],qA [144,148]),(76,[qA [53,20],qA [43,60]],qA [129,133]),(76,[qA [118,119],qA [6,8]],qA [122,126]),(76,[qA [0,1],qA [43,44]],qA [112,115]),(76,[qA [94,95],qA [54,64]],qA [99,103]),(76,[qA [6,7],qA [43,60]],qA [84,87]),(76,[qA [71,72],qA [6,8]],qA [76,80]),(76,[qA [54,16],qA [43,44]],qA [63,67]),(122,[qA [0,1,2,3,4,5,6,7]],qA [6,7,53,20,54,16,0,1]),(120,[qA [42,43,44,45]],qA [52]),(25,[rA [2,3],rA [4,5]],rA [34,36]),(25,[rA [0,1],rA [6,7]],rA [30,32]),(24,[pA [0,1,2,3,4,5,6,7]],rA [0,1,2,3,4,5,6,7]),(76,[qA [2,3],qA [4,5]],qA [19,23]),(76,[qA [0,1],qA [6,7]],qA [11,15])]
theorem tY_g0 : UT (sx Tryz.prog tY_N [] [] Xe Xb Xa (prC [19])) JZ 5 31 (tY_G.drop 0)=true := by kernel_rfl
theorem tY_g1 : UT (sx Tryz.prog tY_N [] [] Xe Xb Xa (prC [19])) JZ 5 30 (tY_G.drop 31)=true := by kernel_rfl
theorem tY_g2 : UT (sx Tryz.prog tY_N [] [] Xe Xb Xa (prC [19])) JZ 5 2 (tY_G.drop 61)=true := by kernel_rfl
theorem ZY {q : Nat→Rat} {σ : Nat→ByteArray} {w : World} (hσ : ∀ j,(σ j).size≤1048576) (hq : ∀ (a : Nat) nd,tY_N[a]? = some nd→q a=Jj σ q nd) (h0 : ∀ a,tY_N.length≤a→q a=0) (hp : QK w) : Jr tY_N Xe Xb Xa q σ [19] w tY_G := by
 have Y : Hy tY_N [] Xe Xb Xa q σ := KK hσ GA Fn Bd Bh hq h0 trivial
 have hc : ∀ f ∈ ([19] : List FuncId),Closed f := by simp [Zw]
 have hm : (Tryz.prog).follows .mixedOrders=true := by kernel_rfl
 exact (Yh (M := tY_G.drop 0) Y hc hm hp 31 tY_g0 (Yh (M := tY_G.drop 31) Y hc hm hp 30 tY_g1 (Yh (M := tY_G.drop 61) Y hc hm hp 2 tY_g2 Sp)))
def tY_H0 : List (Nat × Nat × Nat × Nat) := [(0,28,0,1),(0,41,0,1)]
def tY_H1 : List (Nat × Nat × Nat × Nat) := [(0,28,0,0),(2,52,0,1),(0,41,0,0),(0,175,0,0),(0,182,0,0),(2,191,0,1),(0,187,0,0),(0,200,0,1),(0,209,0,0),(0,256,0,0),(0,298,0,0),(0,339,0,0),(0,375,0,0),(0,411,0,0),(0,448,0,0),(0,484,0,0),(0,528,0,0),(0,667,0,1)]
def tY_H2 : List (Nat × Nat × Nat × Nat) := [(0,28,0,0),(2,52,0,1),(0,41,0,0),(0,175,0,0),(0,182,0,0),(2,191,0,1),(0,187,0,0),(0,200,0,0),(0,209,0,1),(0,256,0,0),(0,298,0,0),(0,339,0,0),(0,375,0,0),(0,411,0,0),(0,448,0,0),(0,484,0,0),(0,704,0,0),(0,759,0,1)]
def tY_H3 : List (Nat × Nat × Nat × Nat) := [(0,28,0,0),(2,52,0,1),(0,41,0,0),(0,175,0,0),(0,182,0,0),(2,191,0,1),(0,187,0,0),(0,200,0,0),(0,209,0,0),(0,256,0,1),(0,298,0,0),(0,339,0,0),(0,375,0,0),(0,411,0,0),(0,448,0,0),(0,484,0,0),(0,766,0,0),(0,797,0,1)]
def tY_H4 : List (Nat × Nat × Nat × Nat) := [(0,28,0,0),(2,52,0,1),(0,41,0,0),(0,175,0,0),(0,182,0,0),(2,191,0,1),(0,187,0,0),(0,200,0,0),(0,209,0,0),(0,256,0,0),(0,298,0,1),(0,339,0,0),(0,375,0,0),(0,411,0,0),(0,448,0,0),(0,484,0,0),(0,803,0,0),(0,830,0,1)]
def tY_H5 : List (Nat × Nat × Nat × Nat) := [(0,28,0,0),(2,52,0,1),(0,41,0,0),(0,175,0,0),(0,182,0,0),(2,191,0,1),(0,187,0,0),(0,200,0,0),(0,209,0,0),(0,256,0,0),(0,298,0,0),(0,339,0,1),(0,375,0,0),(0,411,0,0),(0,448,0,0),(0,484,0,0),(0,835,0,0),(0,860,0,1)]
def tY_H6 : List (Nat × Nat × Nat × Nat) := [(0,28,0,0),(2,52,0,1),(0,41,0,0),(0,175,0,0),(0,182,0,0),(2,191,0,1),(0,187,0,0),(0,200,0,0),(0,209,0,0),(0,256,0,0),(0,298,0,0),(0,339,0,0),(0,375,0,1),(0,411,0,0),(0,448,0,0),(0,484,0,0),(0,864,0,0),(0,886,0,1)]
def tY_H7 : List (Nat × Nat × Nat × Nat) := [(0,28,0,0),(2,52,0,1),(0,41,0,0),(0,175,0,0),(0,182,0,0),(2,191,0,1),(0,187,0,0),(0,200,0,0),(0,209,0,0),(0,256,0,0),(0,298,0,0),(0,339,0,0),(0,375,0,0),(0,411,0,1),(0,448,0,0),(0,484,0,0),(0,889,0,0),(0,907,0,1)]
def tY_H8 : List (Nat × Nat × Nat × Nat) := [(0,28,0,0),(2,52,0,1),(0,41,0,0),(0,175,0,0),(0,182,0,0),(2,191,0,1),(0,187,0,0),(0,200,0,0),(0,209,0,0),(0,256,0,0),(0,298,0,0),(0,339,0,0),(0,375,0,0),(0,411,0,0),(0,448,0,1),(0,484,0,0),(0,909,0,0),(0,922,0,1)]
def tY_H9 : List (Nat × Nat × Nat × Nat) := [(0,28,0,0),(2,52,0,1),(0,41,0,0),(0,175,0,0),(0,182,0,0),(2,191,0,1),(0,187,0,0),(0,200,0,0),(0,209,0,0),(0,256,0,0),(0,298,0,0),(0,339,0,0),(0,375,0,0),(0,411,0,0),(0,448,0,0),(0,484,0,1),(0,923,0,0),(0,930,0,1)]
def Iw : List (Nat × Nat × Nat × Nat) := [(0,28,0,0),(2,52,0,1),(0,41,0,0),(0,175,0,0),(0,182,0,0),(2,191,0,1),(0,187,0,0),(0,200,0,0),(0,209,0,0),(0,256,0,0),(0,298,0,0),(0,339,0,0),(0,375,0,0),(0,411,0,0),(0,448,0,0),(0,484,0,0),(0,931,0,0),(0,939,0,1)]
def NP : List (Nat × Nat × Nat × Nat) := [(0,28,0,0),(2,52,0,0),(0,41,0,0),(0,42,0,1),(0,43,0,1),(0,44,0,1)]
def Lg : List (Nat × Nat × Nat × Nat) := [(0,28,0,0),(2,52,0,0),(0,41,0,0),(0,42,0,0)]
def CX : List (FuncId × List AC) := [(123,[.inr (3,27,0,0,0),.inr (3,31,0,0,0)]),(72,[])]
def tY_B10 : Ox := [(32,[(false,[(false,[.inr (6,412,0,9,1)])]),(false,[(false,[.inr (6,414,0,9,1)])])],[(414,[.inr (0,0,696,0,0),.inr (0,0,247,0,0),.inr (0,0,289,0,0),.inr (0,0,332,0,0),.inr (0,0,368,0,0),.inr (0,0,404,0,0),.inr (0,0,441,0,0),.inr (0,0,477,0,0),.inr (0,0,513,0,0)]),(412,[.inr (0,0,691,0,0),.inr (0,0,238,0,0),.inr (0,0,282,0,0),.inr (0,0,324,0,0),.inr (0,0,363,0,0),.inr (0,0,399,0,0),.inr (0,0,435,0,0),.inr (0,0,472,0,0),.inr (0,0,508,0,0)])],415,(false,[(false,[.inl (.bool true)])]),[(414,[.inr (0,0,696,0,0),.inr (0,0,247,0,0),.inr (0,0,289,0,0),.inr (0,0,332,0,0),.inr (0,0,368,0,0),.inr (0,0,404,0,0),.inr (0,0,441,0,0),.inr (0,0,477,0,0),.inr (0,0,513,0,0)]),(412,[.inr (0,0,691,0,0),.inr (0,0,238,0,0),.inr (0,0,282,0,0),.inr (0,0,324,0,0),.inr (0,0,363,0,0),.inr (0,0,399,0,0),.inr (0,0,435,0,0),.inr (0,0,472,0,0),.inr (0,0,508,0,0)]),(415,[.inr (0,0,238,0,0),.inr (0,0,696,0,0)]),(416,[.inr (0,0,691,0,0),.inr (0,0,247,0,0)]),(417,[.inr (0,0,282,0,0),.inr (0,0,696,0,0)]),(418,[.inr (0,0,691,0,0),.inr (0,0,289,0,0)]),(419,[.inr (0,0,282,0,0),.inr (0,0,247,0,0)]),(420,[.inr (0,0,238,0,0),.inr (0,0,289,0,0)]),(421,[.inr (0,0,324,0,0),.inr (0,0,696,0,0)]),(422,[.inr (0,0,691,0,0),.inr (0,0,332,0,0)]),(423,[.inr (0,0,324,0,0),.inr (0,0,247,0,0)]),(424,[.inr (0,0,238,0,0),.inr (0,0,332,0,0)]),(425,[.inr (0,0,324,0,0),.inr (0,0,289,0,0)]),(426,[.inr (0,0,282,0,0),.inr (0,0,332,0,0)]),(427,[.inr (0,0,363,0,0),.inr (0,0,696,0,0)]),(428,[.inr (0,0,691,0,0),.inr (0,0,368,0,0)]),(429,[.inr (0,0,363,0,0),.inr (0,0,247,0,0)]),(430,[.inr (0,0,238,0,0),.inr (0,0,368,0,0)]),(431,[.inr (0,0,363,0,0),.inr (0,0,289,0,0)]),(432,[.inr (0,0,282,0,0),.inr (0,0,368,0,0)]),(433,[.inr (0,0,363,0,0),.inr (0,0,332,0,0)]),(434,[.inr (0,0,324,0,0),.inr (0,0,368,0,0)]),(435,[.inr (0,0,399,0,0),.inr (0,0,696,0,0)]),(436,[.inr (0,0,691,0,0),.inr (0,0,404,0,0)]),(437,[.inr (0,0,399,0,0),.inr (0,0,247,0,0)]),(438,[.inr (0,0,238,0,0),.inr (0,0,404,0,0)]),(439,[.inr (0,0,399,0,0),.inr (0,0,289,0,0)]),(440,[.inr (0,0,282,0,0),.inr (0,0,404,0,0)]),(441,[.inr (0,0,399,0,0),.inr (0,0,332,0,0)]),(442,[.inr (0,0,324,0,0),.inr (0,0,404,0,0)]),(443,[.inr (0,0,399,0,0),.inr (0,0,368,0,0)]),(444,[.inr (0,0,363,0,0),.inr (0,0,404,0,0)]),(445,[.inr (0,0,435,0,0),.inr (0,0,696,0,0)]),(446,[.inr (0,0,691,0,0),.inr (0,0,441,0,0)]),(447,[.inr (0,0,435,0,0),.inr (0,0,247,0,0)]),(448,[.inr (0,0,238,0,0),.inr (0,0,441,0,0)]),(449,[.inr (0,0,435,0,0),.inr (0,0,289,0,0)]),(450,[.inr (0,0,282,0,0),.inr (0,0,441,0,0)]),(451,[.inr (0,0,435,0,0),.inr (0,0,332,0,0)]),(452,[.inr (0,0,324,0,0),.inr (0,0,441,0,0)]),(453,[.inr (0,0,435,0,0),.inr (0,0,368,0,0)]),(454,[.inr (0,0,363,0,0),.inr (0,0,441,0,0)]),(455,[.inr (0,0,435,0,0),.inr (0,0,404,0,0)]),(456,[.inr (0,0,399,0,0),.inr (0,0,441,0,0)]),(457,[.inr (0,0,472,0,0),.inr (0,0,696,0,0)]),(458,[.inr (0,0,691,0,0),.inr (0,0,477,0,0)]),(459,[.inr (0,0,472,0,0),.inr (0,0,247,0,0)]),(460,[.inr (0,0,238,0,0),.inr (0,0,477,0,0)]),(461,[.inr (0,0,472,0,0),.inr (0,0,289,0,0)]),(462,[.inr (0,0,282,0,0),.inr (0,0,477,0,0)]),(463,[.inr (0,0,472,0,0),.inr (0,0,332,0,0)]),(464,[.inr (0,0,324,0,0),.inr (0,0,477,0,0)]),(465,[.inr (0,0,472,0,0),.inr (0,0,368,0,0)]),(466,[.inr (0,0,363,0,0),.inr (0,0,477,0,0)]),(467,[.inr (0,0,472,0,0),.inr (0,0,404,0,0)]),(468,[.inr (0,0,399,0,0),.inr (0,0,477,0,0)]),(469,[.inr (0,0,472,0,0),.inr (0,0,441,0,0)]),(470,[.inr (0,0,435,0,0),.inr (0,0,477,0,0)]),(471,[.inr (0,0,508,0,0),.inr (0,0,696,0,0)]),(472,[.inr (0,0,691,0,0),.inr (0,0,513,0,0)]),(473,[.inr (0,0,508,0,0),.inr (0,0,247,0,0)]),(474,[.inr (0,0,238,0,0),.inr (0,0,513,0,0)]),(475,[.inr (0,0,508,0,0),.inr (0,0,289,0,0)]),(476,[.inr (0,0,282,0,0),.inr (0,0,513,0,0)]),(477,[.inr (0,0,508,0,0),.inr (0,0,332,0,0)]),(478,[.inr (0,0,324,0,0),.inr (0,0,513,0,0)]),(479,[.inr (0,0,508,0,0),.inr (0,0,368,0,0)]),(480,[.inr (0,0,363,0,0),.inr (0,0,513,0,0)]),(481,[.inr (0,0,508,0,0),.inr (0,0,404,0,0)]),(482,[.inr (0,0,399,0,0),.inr (0,0,513,0,0)]),(483,[.inr (0,0,508,0,0),.inr (0,0,441,0,0)]),(484,[.inr (0,0,435,0,0),.inr (0,0,513,0,0)]),(485,[.inr (0,0,508,0,0),.inr (0,0,477,0,0)]),(486,[.inr (0,0,472,0,0),.inr (0,0,513,0,0)])],487)]
theorem Ha : NJ (sx Tryz.prog tY_N Iw CX Xe Xb Xa (prC [19])) JZ tY_G 4 (tY_B10.drop 0)=true := by kernel_rfl
theorem tY_mx10 {q : Nat→Rat} {σ : Nat→ByteArray} {w : World} (hσ : ∀ j,(σ j).size≤1048576) (hq : ∀ (a : Nat) nd,tY_N[a]? = some nd→q a=Jj σ q nd) (h0 : ∀ a,tY_N.length≤a→q a=0) (hH : XM q Iw) (hp : QK w) (hM : Jr tY_N Xe Xb Xa q σ [19] w tY_G) : XJ (sx Tryz.prog tY_N Iw CX Xe Xb Xa (prC [19])) (evS q σ) w tY_B10 := by
 have Y : Hy tY_N Iw Xe Xb Xa q σ := KK hσ GA Fn Bd Bh hq h0 hH
 have hc : ∀ f ∈ ([19] : List FuncId),Closed f := by simp [Zw]
 have hm : (Tryz.prog).follows .mixedOrders=true := by kernel_rfl
 exact (Cj (B := tY_B10) Y hc hm hp hM Ha Nk)
end Go.Proofs.YtcjmbkcodigpdaaGreatDoor
