/- Part 13 of the walks and of the mathematics under them: VP VPC VY VSZ VSA CFspun MQT. -/
import Derived.Test.YthagmklephpnhaaGreatDoorA2
import Derived.Test.YthagmklephpnhaaGreatDoorA12
set_option maxHeartbeats 16000000
set_option maxRecDepth 100000
/- VP -/
namespace Cx
open Go Go.RowKit
abbrev Hs := List (Nat × Nat × Nat × Nat)
def Sx.plus (S : Sx) (X : Hs) : Sx := { S with H := X ++ S.H }
abbrev Ask := Nat × Nat × Nat × Nat
def JK (a : Nat) : Ask := (0,a,0,a)
def Jn (S : Sx) : Ask→Bool
 | (k,a,b,d) => (Nat.beq k 0 && (Nat.beq b 0 && Nat.beq d a)) || (Nat.beq k 3 && (match S.N[d]? with
  | some (op,ar) => Nat.beq op 3 && OB ar [a,b]
  | none => false))
def XP (S : Sx) (a b : Nat) : List Nat→List Nat→Option (List Ask)
 | c :: l,d :: m => (S.nd 4 [a,d]).bind fun x => (S.nd 4 [c,b]).bind fun y => (S.nd 3 [x,y]).bind fun z => (XP S a b l m).map fun r => (3,x,y,z) :: r
 | _,_ => some []
def Vq (S : Sx) : List Nat→List Nat→List Nat→List Nat→Option (List Ask)
 | pl,pm,a :: l,b :: m => (XP S a b pl pm).bind fun r => (Vq S (pl ++ [a]) (pm ++ [b]) l m).map fun t => r ++ t
 | _,_,_,_ => some []
def Wo (S : Sx) : List Nat→List Nat→Option (List Ask)
 | a :: l,b :: m => (S.nd 3 [a,b]).bind fun d => (Wo S l m).map fun r => (3,a,b,d) :: r
 | _,_ => some []
def asks (S : Sx) (h : List HB) (code : Nat) (args : List AV) : Option (List Ask) :=
 match code with
 | 60 => arg1 (fun x => (asA x).bind fun cs => (UO S cs).map fun l => l.map JK) args
 | 61 => arg1 (fun x => (YO h 1 x).bind fun p => (QO (acX 0) p.2).map fun l => l.map JK) args
 | 62 => YN (fun x y => (YO h 1 x).bind fun p => (QO (acX 0) p.2).bind fun l => (YO h 1 y).bind fun p' => (QO (acX 0) p'.2).bind fun m => Vq S [] [] l m) args
 | 63 => arg1 (fun x => (asA x).bind fun cs => (QO ZZ cs).bind fun l => (ON S l).map fun xs => xs.map JK) args
 | 69 => arg1 (fun x => (asA x).bind fun cs => (QO (YZ S) cs).map fun l => l.map JK) args
 | 67 => arg1 (fun x => (asA x).bind fun cs => (QO (YZ S) (cs.take 3)).map fun l => l.map JK) args
 | 65 => arg1 (fun x => (asA x).bind fun cs => (QO (acX 0) cs).map fun l => l.map JK) args
 | 66 => YN (fun x y => (asA x).bind fun cs => (asA y).bind fun ds => (QO (acX 0) cs).bind fun l => (QO (acX 0) ds).bind fun m => Wo S l m) args
 | 64 => arg1 (fun x => (asA x).bind fun cs => (UO S cs).map fun l => (l.take 5).map JK) args
 | 68 => YN (fun x _ => (asA x).bind fun cs => (UO S cs).map fun l => (l.take 5).map JK) args
 | _ => none
def ZK : List Ask→Hs→List Hs
 | [],_ => []
 | (k,a,b,_) :: l,X => ((k,a,b,0) :: X) :: ZK l ((k,a,b,1) :: X)
def YM : List Ask→Hs→Hs
 | [],X => X
 | (k,a,b,_) :: l,X => YM l ((k,a,b,1) :: X)
def Zc (S : Sx) (call : ZG) : ZG := fun f args h nx => S.P.funcs[f]?.bind fun fn => fn.body.bind fun c => ifO (Nat.ble args.length fn.ntmps) ((WU S call fn.ntmps c { tm := Ke 0 args,h := h,nx := nx }).bind fun r =>
   ifO (Nat.ble r.1 1) ((QO (Df S.P r.2) fn.results.toList).map fun xs => (MR xs,r.2.h,r.2.nx)))
abbrev XC := Option (AV × List HB × Nat)
def acZ : AC→Option Nat
 | .inr (k,j,a,x,y) => ifO (Nat.beq k 0 && (Nat.beq j 7 && (Nat.beq x 0 && Nat.beq y 0))) (some a)
 | _ => none
def YY (S : Sx) (v : AV) : AV := match (asC v).bind (acX 4) with
 | some n => (match S.N[n]? with
  | some (_,[a,b]) => (match S.nd 4 [a,b],S.kn 0 a 0 with
   | some m,some r => bif Nat.beq m n && !Nat.beq 1 r then v1 (.inr (0,7,b,0,0)) else v
   | _,_ => v)
  | _ => v)
 | none => v
def Jd (S : Sx) (r : XC) : XC := r.map fun p => (YY S p.1,p.2)
def UG (v : AV) : Option (Bool ⊕ Nat) := match asB v with
 | some b => some (.inl b)
 | none => ((asC v).bind acZ).map .inr
def Ox : Bool ⊕ Nat→AV
 | .inl b => kB b
 | .inr a => v1 (.inr (0,7,a,0,0))
def Vp : Bool ⊕ Nat→Bool ⊕ Nat→Bool
 | .inl b,.inl c => b == c
 | .inr a,.inr b => Nat.beq a b
 | _,_ => false
def Vh (h : List HB) (b : Bool ⊕ Nat) (hi : Nat) : XC→Bool
 | some (v,h',nx') => (match UG v with
  | some c => Vp b c
  | none => false) && (Nat.ble nx' hi && h.all fun x => h'.any fun y => Nat.beq y.1 x.1 && Rf x.2 y.2)
 | none => false
def UF : Nat→List XC→Nat
 | m,[] => m
 | m,some p :: rs => UF (bif Nat.ble m p.2.2 then p.2.2 else m) rs
 | m,none :: rs => UF m rs
def Xe (h : List HB) (nx : Nat) (rs : List XC) : XC :=
 match rs with
 | some p :: _ => (UG p.1).bind fun b => ifO (rs.all (Vh h b (UF nx rs))) (some (Ox b,h,UF nx rs))
 | _ => none
def Yk (S : Sx) (X : Hs) (h : List HB) (c : Nat) (args : List AV) : Option (List Ask × Nat) :=
 (asks (S.plus X) h c args).bind fun l => ifO (l.all (Jn S)) ((sqN S (l.map (·.2.2.2))).bind fun s => ((S.plus X).kn 0 s 0).map fun r => (l,r))
theorem Jp {S : Sx} {X : Hs} {h : List HB} {c : Nat} {args : List AV} {l : List Ask} {r : Nat} (e : Yk S X h c args=some (l,r)) : (∀ a ∈ l,Jn S a=true)∧∃ s,sqN S (l.map (·.2.2.2))=some s∧(S.plus X).kn 0 s 0=some r := by
 unfold Yk at e
 simp only [Option.bind_eq_some_iff,ifO_some,Option.map_eq_some_iff,List.all_eq_true,Prod.mk.injEq] at e
 obtain ⟨l',_,h1,s,h2,r',h3,rfl,rfl⟩ := e
 exact ⟨h1,s,h2,h3⟩
def QR (S : Sx) (cs : List (FuncId × Nat)) : Nat→Hs→ZG
 | 0,_,_,_,_,_ => none
 | n+1,X,f,args,h,nx => match Un f cs with
  | none => Zc (S.plus X) (QR S cs n X) f args h nx
  | some c => match Yk S X h c args with
   | none => Zc (S.plus X) (QR S cs n X) f args h nx
   | some (l,r) => bif Nat.beq 1 r then Zc (S.plus (YM l X)) (QR S cs n (YM l X)) f args h nx
    else Xe h nx ((ZK l X).map fun X' => Jd (S.plus X') (Zc (S.plus X') (QR S cs n X') f args h nx))
section
variable {S : Sx} {E : Ev S.nb} {w0 : World}
theorem XE {call : ZG} (hm : S.P.follows .mixedOrders=true) (N : Knows S E) (hP : Jq S E w0) (hC : QY S E w0 call) : QY S E w0 (Zc S call) := fun f args h nx p hp γ w vs hi hA hb hlt hf => by
 unfold Zc at hp
 simp only [Option.bind_eq_some_iff,ifO_some,Option.map_eq_some_iff,Nat.ble_eq] at hp
 obtain ⟨fn,h1,c,h2,h3,⟨e,s'⟩,h4,h5,xs,h6,rfl⟩ := hp
 dsimp only at h5 h6
 rcases (show e=0 ∨ e=1 by omega) with rfl | rfl
 all_goals
  obtain ⟨_,_,r⟩ := YC hm N hP hC c _ _ _ h4
  refine calls_of_wp h1 h2 (r γ _ w _ ⟨hi,fun t v q => ?_,hb,hlt,?_,rfl⟩ hf fun a' w' γ' hef hs => ?_)
  ·obtain ⟨_,q2⟩ := Ud q
   rw [Nat.sub_zero] at q2
   obtain ⟨u,hu,hv⟩ := hA.get q2
   have hlt : t < vs.length := (List.getElem?_eq_some_iff.1 hu).1
   have : (vs.toArray ++ Array.replicate (fn.ntmps - vs.toArray.size) undef).getD t undef=u := by
    rw [Array.getD_eq_getD_getElem?,Array.getElem?_append_left (by simpa using hlt)]
    simp [hu]
   show avOn _ v ((vs.toArray ++ Array.replicate (fn.ntmps - vs.toArray.size) undef).getD t undef)
   rw [this]
   exact hv
  ·have := hA.len
   simp
   omega
  ·obtain ⟨v,hv,hx⟩ := YH hs h6
   exact ⟨hs.df,v,hv,v,γ',rfl,hef,hx,hs.bx⟩
theorem Ov {v : AV} {b : Bool} (h : asB v=some b) : v=kB b := by
 unfold asB at h
 rw [Option.bind_eq_some_iff] at h
 obtain ⟨c,h1,h2⟩ := h
 unfold asC at h1
 split at h1
 ·cases h1
  unfold acB at h2
  split at h2
  ·cases h2
   rfl
  ·cases h2
 ·cases h1
theorem UI {v : AV} {k : Bool ⊕ Nat} (h : UG v=some k) : v=Ox k := by
 unfold UG at h
 split at h
 ·rename_i b hb
  cases h
  exact Ov hb
 ·rw [Option.map_eq_some_iff] at h
  obtain ⟨a,h,rfl⟩ := h
  rw [Option.bind_eq_some_iff] at h
  obtain ⟨c,h1,h2⟩ := h
  unfold asC at h1
  split at h1
  ·cases h1
   unfold acZ at h2
   split at h2
   ·rw [ifO_some,Bool.and_eq_true,Bool.and_eq_true,Bool.and_eq_true,Nat.beq_eq,Nat.beq_eq,Nat.beq_eq,Nat.beq_eq] at h2
    obtain ⟨⟨rfl,rfl,rfl,rfl⟩,h3⟩ := h2
    cases h3
    rfl
   ·cases h2
  ·cases h1
theorem YV {a b : Bool ⊕ Nat} (h : Vp a b=true) : a=b := by
 unfold Vp at h
 split at h
 ·rename_i x y
  have : x=y := by simpa using h
  rw [this]
 ·rw [Nat.beq_eq] at h
  rw [h]
 ·cases h
theorem Ya (q : Rat) : Js q=0 ↔ q=0 := by
 unfold Js
 split
 ·rename_i hlt
  constructor
  ·intro q; cases q
  ·intro q; rw [q] at hlt; exact absurd hlt (by decide)
 ·split <;> simp_all
theorem Va (N : Knows S E) {γ : Nat→Option Nat} {w : World} {v : AV} {r : Value} (h : avOn (cOn E S.K γ w) v r) : avOn (cOn E S.K γ w) (YY S v) r := by
 unfold YY
 split
 ·rename_i n hn
  rw [Option.bind_eq_some_iff] at hn
  obtain ⟨c,h1,h2⟩ := hn
  split
  ·split
   ·rename_i a b _ _ _ m r' hm hr
    cases e : (Nat.beq m n && !Nat.beq 1 r') with
    | true =>
     rw [Bool.and_eq_true,Nat.beq_eq,Bool.not_eq_true'] at e
     obtain ⟨rfl,e2⟩ := e
     have ez := (N.x4 _ _ _).1 (YG h2 (QU h1 h))
     refine Zn ((N.x7 _ _ _).2 ⟨_,ez,?_⟩)
     have hz : ¬ E.q a=0 := fun q => by rw [(N.k0 a r' hr).2 q] at e2; cases e2
     rw [Ya,N.k7 _ _ _ hm]
     constructor
     ·exact fun q => (Rat.mul_eq_zero.1 q).resolve_left hz
     ·intro q
      rw [q,Rat.mul_zero]
    | false => exact h
   ·exact h
  ·exact h
 ·exact h
theorem Yy {X : Hs} {call : ZG} (N : Knows (S.plus X) E) (hC : QY S E w0 call) : QY S E w0 (fun f args h nx => Jd (S.plus X) (call f args h nx)) := fun f args h nx p hp => by
 replace hp : Jd (S.plus X) (call f args h nx)=some p := hp
 unfold Jd at hp
 rw [Option.map_eq_some_iff] at hp
 obtain ⟨p0,hp0,rfl⟩ := hp
 intro γ w vs hi hA hb hlt hf
 refine (hC f args h nx p0 hp0 γ w vs hi hA hb hlt hf).mono ?_
 rintro _ w' ⟨r',γ',rfl,hef,hv,hx⟩
 exact ⟨r',γ',rfl,hef,Va (S := S.plus X) N hv,hx⟩
theorem Ju {h : List HB} {b : Bool ⊕ Nat} {hi : Nat} {r : XC} (hr : Vh h b hi r=true) : ∃ h' nx',r=some (Ox b,h',nx')∧nx'≤hi∧∀ x ∈ h,x ∈ h' := by
 unfold Vh at hr
 split at hr
 ·rename_i v h' nx'
  rw [Bool.and_eq_true,Bool.and_eq_true,Nat.ble_eq,List.all_eq_true] at hr
  obtain ⟨h1,h2,h3⟩ := hr
  refine ⟨h',nx',?_,h2,fun x hx => ?_⟩
  ·split at h1
   ·rename_i c hc
    rw [UI hc,YV h1]
   ·cases h1
  ·have := h3 x hx
   rw [List.any_eq_true] at this
   obtain ⟨y,hy,e⟩ := this
   rw [Bool.and_eq_true,Nat.beq_eq] at e
   have : x=y := Prod.ext e.1.symm (Yx e.2)
   rw [this]
   exact hy
 ·cases hr
variable {T : Hs→Prop} {z : Nat→Prop}
def Zu (S : Sx) (T : Hs→Prop) (z : Nat→Prop) : Prop := ∀ X,T X→∀ a,Jn S a=true→(z a.2.2.2→T ((a.1,a.2.1,a.2.2.1,1) :: X))∧(¬ z a.2.2.2→T ((a.1,a.2.1,a.2.2.1,0) :: X))
theorem ZE (hk : Zu S T z) : ∀ {l : List Ask} {X : Hs},T X→(∀ a ∈ l,Jn S a=true)→(∀ a ∈ l,z a.2.2.2)→T (YM l X)
 | [],_,h,_,_ => h
 | (k,a,b,d) :: l,X,h,ho,hz => ZE (l := l) hk ((hk X h (k,a,b,d) (ho _ List.mem_cons_self)).1 (hz _ List.mem_cons_self)) (fun a ha => ho a (List.mem_cons_of_mem _ ha)) (fun a ha => hz a (List.mem_cons_of_mem _ ha))
theorem Zm (hk : Zu S T z) : ∀ {l : List Ask} {X : Hs},T X→(∀ a ∈ l,Jn S a=true)→(∃ a ∈ l,¬ z a.2.2.2)→∃ X' ∈ ZK l X,T X'
 | [],_,_,_,⟨_,h,_⟩ => by cases h
 | (k,a,b,d) :: l,X,h,ho,hz => by
  by_cases e : z d
  ·obtain ⟨X',h1,h2⟩ := Zm (l := l) hk ((hk X h (k,a,b,d) (ho _ List.mem_cons_self)).1 e) (fun a ha => ho a (List.mem_cons_of_mem _ ha)) (by
    obtain ⟨c,hc,hn⟩ := hz
    rcases List.mem_cons.1 hc with rfl | hc
    ·exact (hn e).elim
    ·exact ⟨c,hc,hn⟩)
   exact ⟨X',List.mem_cons_of_mem _ h1,h2⟩
  ·exact ⟨_,List.mem_cons_self,(hk X h (k,a,b,d) (ho _ List.mem_cons_self)).2 e⟩
theorem JJ {cs : List (FuncId × Nat)} (hm : S.P.follows .mixedOrders=true) (hN : ∀ X,T X→Knows (S.plus X) E) (hP : ∀ X,T X→Jq (S.plus X) E w0) (hk : Zu S T z)
  (hs : ∀ X,T X→∀ l s r,sqN S l=some s→(S.plus X).kn 0 s 0=some r→(Nat.beq 1 r=true→∀ d ∈ l,z d)∧(Nat.beq 1 r=false→∃ d ∈ l,¬ z d)) : ∀ n X,T X→QY S E w0 (QR S cs n X)
 | 0,_,_ => fun _ _ _ _ _ h => by cases h
 | n+1,X,hX => fun f args h nx p hp => by
  have body : ∀ Y,T Y→QY S E w0 (Zc (S.plus Y) (QR S cs n Y)) := fun Y hY => XE (S := S.plus Y) hm (hN Y hY) (hP Y hY) (JJ hm hN hP hk hs n Y hY)
  unfold QR at hp
  split at hp
  ·exact body X hX f args h nx p hp
  ·split at hp
   ·exact body X hX f args h nx p hp
   rename_i l r hk'
   obtain ⟨hl,s,h1,h2⟩ := Jp hk'
   have h3 := hp
   obtain ⟨a1,a0⟩ := hs X hX _ s r h1 h2
   cases e : Nat.beq 1 r with
   | true =>
    rw [e] at h3
    exact body _ (ZE hk hX hl fun a ha => a1 e _ (List.mem_map_of_mem ha)) f args h nx p h3
   | false =>
    rw [e] at h3
    obtain ⟨d,hd,hz⟩ := a0 e
    obtain ⟨a,ha,rfl⟩ := List.mem_map.1 hd
    obtain ⟨X',m1,m2⟩ := Zm hk hX hl ⟨a,ha,hz⟩
    replace h3 : Xe h nx ((ZK l X).map fun X' => Jd (S.plus X') (Zc (S.plus X') (QR S cs n X') f args h nx))=some p := h3
    unfold Xe at h3
    split at h3
    ·rename_i p0 rs hrs
     rw [Option.bind_eq_some_iff] at h3
     obtain ⟨b,hb,h4⟩ := h3
     rw [ifO_some,List.all_eq_true] at h4
     obtain ⟨h5,h6⟩ := h4
     cases h6
     obtain ⟨h',nx',q1,q2,q3⟩ := Ju (h5 _ (List.mem_map_of_mem m1))
     intro γ w vs hi hA hb hlt hf
     refine (Yy (hN X' m2) (body X' m2) f args h nx _ q1 γ w vs hi hA hb hlt fun b g1 g2 => hf b g1 (Nat.lt_of_lt_of_le g2 q2)).mono ?_
     rintro _ w' ⟨r',γ',rfl,hef,hv,hx⟩
     exact ⟨r',γ',rfl,hef.wide (Nat.le_refl _) q2,hv,fun x hh => hx x (q3 x hh)⟩
    ·cases h3
end
end Cx
/- VPC -/
namespace Go.Proofs.YthagmklephpnhaaGreatDoor
open Cx Go Go.RowKit
section
variable {N : List Nd} {H : List (Nat × Nat × Nat × Nat)} {K : List (FuncId × List AC)} {L C : List (List Nat × Nat)} {Z : List Nat} {q : Nat→Rat} {σ : Nat→ByteArray} {w0 : World} {cl : List FuncId} {cs pr : List (FuncId × Nat)}
theorem Qm {k a b k' a' b' r' : Nat} {r : Nat} (h : Ji k a b ((k',a',b',r') :: H)=some r) : (k=k'∧a=a'∧b=b'∧r=r') ∨ Ji k a b H=some r := by
 unfold Ji at h
 cases e : (Nat.beq k k' && (Nat.beq a a' && Nat.beq b b')) with
 | true =>
  rw [e] at h
  simp only [Bool.and_eq_true,Nat.beq_eq] at e
  exact Or.inl ⟨e.1,e.2.1,e.2.2,(Option.some.inj h).symm⟩
 | false =>
  rw [e] at h
  exact Or.inr h
theorem Hy.add0 (Y : Hy N H L C Z q σ) {a r : Nat} (h : Nat.beq 1 r=true ↔ q a=0) : Hy N ((0,a,0,r) :: H) L C Z q σ where
 nat := Y.nat
 qs := Y.qs
 zs := Y.zs
 par := Y.par
 lit := Y.lit
 k0 := fun a' r' g => by
  rcases Qm g with ⟨_,e1,_,e2⟩ | g
  ·rw [e1,e2]
   exact h
  ·exact Y.k0 a' r' g
 k1 := fun a' r' g => by
  rcases Qm g with ⟨e,_⟩ | g
  ·cases e
  ·exact Y.k1 a' r' g
 k2 := fun a' r' g => by
  rcases Qm g with ⟨e,_⟩ | g
  ·cases e
  ·exact Y.k2 a' r' g
 k4 := fun l a' b' r' g1 g => by
  rcases Qm g with ⟨e,_⟩ | g
  ·cases e
  ·exact Y.k4 l a' b' r' g1 g
 k3 := fun a' b' r' g => by
  rcases Qm g with ⟨e,_⟩ | g
  ·cases e
  ·exact Y.k3 a' b' r' g
 k6 := fun a' b' r' g => by
  rcases Qm g with ⟨e,_⟩ | g
  ·cases e
  ·exact Y.k6 a' b' r' g
 k5 := fun a' r' g => by
  rcases Qm g with ⟨e,_⟩ | g
  ·cases e
  ·exact Y.k5 a' r' g
theorem Hy.add3 (Y : Hy N H L C Z q σ) {a b r : Nat} (h : Nat.beq 1 r=true ↔ q a=q b) : Hy N ((3,a,b,r) :: H) L C Z q σ where
 nat := Y.nat
 qs := Y.qs
 zs := Y.zs
 par := Y.par
 lit := Y.lit
 k0 := fun a' r' g => by
  rcases Qm g with ⟨e,_⟩ | g
  ·cases e
  ·exact Y.k0 a' r' g
 k1 := fun a' r' g => by
  rcases Qm g with ⟨e,_⟩ | g
  ·cases e
  ·exact Y.k1 a' r' g
 k2 := fun a' r' g => by
  rcases Qm g with ⟨e,_⟩ | g
  ·cases e
  ·exact Y.k2 a' r' g
 k4 := fun l a' b' r' g1 g => by
  rcases Qm g with ⟨e,_⟩ | g
  ·cases e
  ·exact Y.k4 l a' b' r' g1 g
 k3 := fun a' b' r' g => by
  rcases Qm g with ⟨_,e1,e2,e3⟩ | g
  ·rw [e1,e2,e3]
   exact h
  ·exact Y.k3 a' b' r' g
 k6 := fun a' b' r' g => by
  rcases Qm g with ⟨e,_⟩ | g
  ·cases e
  ·exact Y.k6 a' b' r' g
 k5 := fun a' r' g => by
  rcases Qm g with ⟨e,_⟩ | g
  ·cases e
  ·exact Y.k5 a' r' g
theorem XF : Zu (sx Tryz.prog N H K L C Z pr) (fun X => Hy N (X ++ H) L C Z q σ) (fun d => q d=0) := fun X Y a ha => by
 obtain ⟨k,a,b,d⟩ := a
 have t1 : Nat.beq 1 1=true := rfl
 have t0 : Nat.beq 1 0 ≠ true := fun h => by cases h
 unfold Jn at ha
 rw [Bool.or_eq_true] at ha
 rcases ha with ha | ha
 ·simp only [Bool.and_eq_true,Nat.beq_eq] at ha
  obtain ⟨rfl,rfl,rfl⟩ := ha
  exact ⟨fun h => Hy.add0 Y ⟨fun _ => h,fun _ => t1⟩,fun h => Hy.add0 Y ⟨fun g => (t0 g).elim,fun g => (h g).elim⟩⟩
 ·rw [Bool.and_eq_true,Nat.beq_eq] at ha
  obtain ⟨rfl,hb⟩ := ha
  split at hb
  ·rename_i op ar hn
   rw [Bool.and_eq_true,Nat.beq_eq] at hb
   obtain ⟨rfl,hb⟩ := hb
   have e := Vc hb
   subst e
   have hv : q d=q a - q b := Y.nat d _ hn
   have h2 : q d=0 ↔ q a=q b := by
    rw [hv]
    constructor <;> intro h <;> grind
   exact ⟨fun h => Hy.add3 Y ⟨fun _ => h2.1 h,fun _ => t1⟩,fun h => Hy.add3 Y ⟨fun g => (t0 g).elim,fun g => (h (h2.2 g)).elim⟩⟩
  ·cases hb
theorem Ve (y : Rat) : 0≤y*y := by
 by_cases h : y=0
 ·rw [h,Rat.zero_mul]
  exact Rat.le_refl
 ·exact Rat.le_of_lt (OG h)
theorem OK {x y : Rat} (hx : 0≤x) : x+y*y=0 ↔ x=0∧y=0 := by
 constructor
 ·intro h
  have h2 := Ve y
  have h3 : x=0 := by grind
  refine ⟨h3,?_⟩
  have : y*y=0 := by grind
  rcases Rat.mul_eq_zero.1 this with g | g <;> exact g
 ·rintro ⟨rfl,rfl⟩
  grind
theorem XL {H' : List (Nat × Nat × Nat × Nat)} (Y : Hy N H' L C Z q σ) : ∀ {l : List Nat} {s t : Nat},sqF (sx Tryz.prog N H K L C Z pr) s l=some t→0≤q s→0≤q t∧(q t=0 ↔ q s=0∧∀ d ∈ l,q d=0)
 | [],s,t,h,hs => by
  cases h
  exact ⟨hs,fun e => ⟨e,fun d hd => by cases hd⟩,fun e => e.1⟩
 | a :: l,s,t,h,hs => by
  unfold sqF at h
  simp only [Option.bind_eq_some_iff] at h
  obtain ⟨b,h1,c,h2,h3⟩ := h
  have e1 : q b=q a*q a := Hy.nd (H := H') (K := K) (pr := pr) Y h1
  have e2 : q c=q s+q b := Hy.nd (H := H') (K := K) (pr := pr) Y h2
  have n := Ve (q a)
  obtain ⟨g1,g2⟩ := XL Y h3 (by grind)
  refine ⟨g1,g2.trans ?_⟩
  have e3 := OK (y := q a) hs
  rw [e2,e1,e3]
  constructor
  ·rintro ⟨⟨x,y⟩,z⟩
   refine ⟨x,fun d hd => ?_⟩
   rcases List.mem_cons.1 hd with rfl | hd
   ·exact y
   ·exact z d hd
  ·rintro ⟨x,y⟩
   exact ⟨⟨x,y a List.mem_cons_self⟩,fun d hd => y d (List.mem_cons_of_mem _ hd)⟩
theorem Yz {H' : List (Nat × Nat × Nat × Nat)} (Y : Hy N H' L C Z q σ) {l : List Nat} {s : Nat} (h : sqN (sx Tryz.prog N H K L C Z pr) l=some s) : q s=0 ↔ ∀ d ∈ l,q d=0 := by
 unfold sqN at h
 split at h
 ·cases h
 ·rename_i a l
  rw [Option.bind_eq_some_iff] at h
  obtain ⟨b,h1,h2⟩ := h
  have e1 : q b=q a*q a := Hy.nd (H := H') (K := K) (pr := pr) Y h1
  have n := Ve (q a)
  obtain ⟨_,g⟩ := XL Y h2 (by grind)
  rw [g,e1]
  constructor
  ·rintro ⟨x,y⟩ d hd
   rcases List.mem_cons.1 hd with rfl | hd
   ·rcases Rat.mul_eq_zero.1 x with x | x <;> exact x
   ·exact y d hd
  ·intro y
   refine ⟨?_,fun d hd => y d (List.mem_cons_of_mem _ hd)⟩
   rw [y a List.mem_cons_self,Rat.zero_mul]
theorem Yg {f : FuncId} {args : List AV} {vs : List Value} {k : Nat} {p : List HB × Nat} {b : Bool} (Y : Hy N H L C Z q σ) (hm : (Tryz.prog).follows .mixedOrders=true) {w : World} (hP : ∀ H',Hy N H' L C Z q σ→Jq (sx Tryz.prog N H' K L C Z pr) (evS q σ) w) (hr : QR (sx Tryz.prog N H K L C Z pr) cs k [] f args [] 0=some (kB b,p))
  (hA : A2 (avOn (cOn (evS q σ) K (fun _ => none) w)) args vs) : Calls Tryz.prog f vs.toArray w fun e w' => Below w.heap.size w w'∧e=.returned (.bool b) := by
 refine (JJ (S := sx Tryz.prog N H K L C Z pr) (E := evS q σ) (w0 := w) (T := fun X => Hy N (X ++ H) L C Z q σ) (z := fun d => q d=0) hm (fun X hX => TJ hX) (fun X hX => hP _ hX) XF ?_ k [] Y f args [] 0 (kB b,p) hr (fun _ => none) w vs ⟨Below.refl _ _,(fun _ _ h => by cases h)⟩ hA (fun x hx => by cases hx) (fun x hx => by cases hx) (fun _ _ _ => rfl)).mono ?_
 ·intro X hX l s r h1 h2
  have e := hX.k0 s r h2
  have g := Yz hX h1
  refine ⟨fun h => g.1 (e.1 h),fun h => ?_⟩
  have hn : ¬ ∀ d ∈ l,q d=0 := fun q' => by
   rw [e.2 (g.2 q')] at h
   cases h
  simpa using hn
 ·rintro _ w' ⟨r,γ',rfl,hef,hv,_⟩
  exact ⟨hef.wi.bel,by rw [show r=.bool b from (QU (v := kB b) (c := .inl (.bool b)) rfl hv).1]⟩
theorem Yc {f : FuncId} {args : List AV} {vs : List Value} {k : Nat} {p : List HB × Nat} {b : Bool} (Y : Hy N H L C Z q σ) (hc : ∀ f ∈ cl,Closed f) (hm : (Tryz.prog).follows .mixedOrders=true) (hr : QR (sx Tryz.prog N H K L C Z (prC cl)) cs k [] f args [] 0=some (kB b,p)) {w : World} (hp : Zf w)
  (hA : A2 (avOn (cOn (evS q σ) K (fun _ => none) w)) args vs) : Calls Tryz.prog f vs.toArray w fun e w' => Below w.heap.size w w'∧e=.returned (.bool b) := Yg Y hm (fun _ Y' => Ou Y' hp hc) hr hA
theorem XB {f : FuncId} {args : List AV} {vs : List Value} (k : Nat) (Y : Hy N H L C Z q σ) (hc : ∀ f ∈ cl,Closed f) (hm : (Tryz.prog).follows .mixedOrders=true) (hr : (QR (sx Tryz.prog N H K L C Z (prC cl)) cs k [] f args [] 0).map (·.1)=some (kB true)) {w : World} (hp : Zf w)
  (hA : A2 (avOn (cOn (evS q σ) K (fun _ => none) w)) args vs) : Calls Tryz.prog f vs.toArray w fun e w' => Below w.heap.size w w'∧e=.returned (.bool true) := by
 rw [Option.map_eq_some_iff] at hr
 obtain ⟨⟨v,p⟩,h1,h2⟩ := hr
 dsimp only at h2
 subst h2
 exact Yc Y hc hm h1 hp hA
end
end Go.Proofs.YthagmklephpnhaaGreatDoor
/- VY -/
namespace Go.Proofs.YthagmklephpnhaaGreatDoor
open Go.RowKit Cx
theorem UK (t : Rat) : t*(t.den : Rat)=((t.num : Int) : Rat) := by
 conv => lhs; lhs; rw [← Rat.mkRat_self t]
 have h0 : (t.den : Rat) ≠ 0 := fun h => t.den_nz (by exact_mod_cast h)
 rw [Rat.mkRat_eq_div,Rat.div_mul_cancel h0]
theorem whole {q : Rat} (h : q.den=1) : q=((q.num : Int) : Rat) := by
 have := UK q
 rw [h] at this
 rw [← this]
 show q=q*((1 : Nat) : Rat)
 exact (Rat.mul_one q).symm
end Go.Proofs.YthagmklephpnhaaGreatDoor
/- VSZ -/
namespace Go.Proofs.YthagmklephpnhaaGreatDoor
open Go.RowKit Cx
structure QW (z : Nat) (x : Rat) : Prop where
 qs : QS z x
 wh : x.den=1
theorem QW.of {z : Nat} {n : Int} (h : n.natAbs < 2 ^ z) (hz : 0 < z) : QW z ((n : Int) : Rat) :=
 ⟨⟨by simpa using h,by
  show ((n : Int) : Rat).den < 2 ^ z
  rw [Rat.den_intCast]
  exact Nat.one_lt_two_pow (by omega)⟩,Rat.den_intCast n⟩
theorem QW.mono {k l : Nat} {x : Rat} (h : QW k x) (hk : k≤l) : QW l x := ⟨h.qs.mono hk,h.wh⟩
theorem XK {a b x y : Nat} (h1 : a < 2 ^ x) (h2 : b < 2 ^ y) : a+b < 2 ^ (Nat.max x y+1) := by
 have e1 : 2 ^ x≤2 ^ Nat.max x y := Nat.pow_le_pow_right (by decide) (Nat.le_max_left x y)
 have e2 : 2 ^ y≤2 ^ Nat.max x y := Nat.pow_le_pow_right (by decide) (Nat.le_max_right x y)
 rw [Nat.pow_succ]
 omega
theorem QW.add {x y : Nat} {a b : Rat} (h1 : QW x a) (h2 : QW y b) : QW (Nat.max x y+1) (a+b) := by
 rw [whole h1.wh,whole h2.wh,← Rat.intCast_add]
 refine QW.of ?_ (by omega)
 have := XK h1.qs.num h2.qs.num
 omega
theorem QW.sub {x y : Nat} {a b : Rat} (h1 : QW x a) (h2 : QW y b) : QW (Nat.max x y+1) (a - b) := by
 rw [whole h1.wh,whole h2.wh,← Rat.intCast_sub]
 refine QW.of ?_ (by omega)
 have := XK h1.qs.num h2.qs.num
 omega
theorem QW.mul {x y : Nat} {a b : Rat} (h1 : QW x a) (h2 : QW y b) : QW (x+y) (a*b) := by
 refine ⟨h1.qs.mul h2.qs,?_⟩
 rw [whole h1.wh,whole h2.wh,← Rat.intCast_mul]
 exact Rat.den_intCast _
theorem QW.neg {x : Nat} {a : Rat} (h1 : QW x a) : QW x (-a) := ⟨h1.qs.neg,h1.wh⟩
theorem Jo : ∀ n : Nat,10 ^ n≤2 ^ ((10*n+2) / 3)
 | 0 => by decide
 | 1 => by decide
 | 2 => by decide
 | n+3 => by
  have h := Jo n
  have e : (10*(n+3)+2) / 3=(10*n+2) / 3+10 := by omega
  rw [e,Nat.pow_add,Nat.pow_add]
  exact Nat.mul_le_mul h (by decide)
theorem QS.rd3 (l : List UInt8) : QS ((10*l.length+2) / 3+5) (Cx.rd l) := by
 have key : ∀ {m : List UInt8},Jt m=true→dv m < 2 ^ ((10*m.length+2) / 3) := fun {m} h => Nat.lt_of_lt_of_le (Tl (Jx h)) (Jo _)
 unfold Cx.rd
 split
 ·rename_i h
  rw [Bool.and_eq_true] at h
  have h1 := key h.1
  have h2 := key h.2
  have h3 := Kq (Qy l)
  have h4 := IP (Qy l)
  have h5 := WJ l
  apply QS.mkr
  ·rw [Vm]; exact Nat.lt_of_lt_of_le h1 (Nat.pow_le_pow_right (by decide) (by omega))
  ·exact Nat.lt_of_lt_of_le h2 (Nat.pow_le_pow_right (by decide) (by omega))
 ·exact QS.zero.mono (by omega)
section
variable {N : List Nd} {Z : List Nat} {I : List Bool} {q : Nat→Rat}
end
end Go.Proofs.YthagmklephpnhaaGreatDoor
/- VSA -/
namespace Go.Proofs.YthagmklephpnhaaGreatDoor
open Go.RowKit Cx
def inB : Nat := 3495259
abbrev Atm := Nat × Nat
def JQ (x : Atm) : List Atm→Option (List Atm)
 | [] => none
 | y :: l => bif Nat.beq x.1 y.1 && Nat.beq x.2 y.2 then some l else (JQ x l).map (y :: ·)
def QK : List Atm→List Atm→Option (List Atm)
 | l,[] => some l
 | l,x :: r => (JQ x l).bind fun l' => QK l' r
def JP : List Atm→List Atm→List Atm
 | _,[] => []
 | U,x :: D => match JQ x U with
  | some U' => JP U' D
  | none => x :: JP U D
def JN (E : List (Nat × List Atm)) : List Nat→List Atm→List Atm
 | [],U => U
 | a :: l,U => JN E l (match E[a]? with
  | some p => U ++ JP U p.2
  | none => U)
def Te (E : List (Nat × List Atm)) (x : Atm) : Nat := match x.1 with
 | 0 => inB
 | 1 => (match E[x.2]? with
  | some p => p.1
  | none => 1)
 | _ => Nat.log2 x.2+1
def ZN (E : List (Nat × List Atm)) : List Atm→Nat
 | [] => 1
 | x :: l => Te E x+ZN E l
def Jk (l : Option (List Atm)) : Bool := match l with
 | some [] => true
 | _ => false
def saN (E : List (Nat × List Atm)) (k z : Nat) (D : List Atm) (nd : Nd) : Bool := (Nat.blt 0 z && D.all fun x => !Nat.beq x.1 1 || Nat.blt x.2 k) && match nd.1,nd.2 with
 | 0,[_,n,d] => (Nat.blt n (2 ^ z) && Nat.blt 0 d) && Jk (QK D (bif Nat.beq d 1 then [] else [(2,d)]))
 | 1,[j] => Nat.ble inB z && Jk (QK D [(0,j)])
 | 2,[a,b] => (match E[a]?,E[b]? with
  | some p,some r => (match QK D p.2,QK D r.2 with
   | some c,some e => Nat.ble (Nat.max (p.1+ZN E c) (r.1+ZN E e)+1) z
   | _,_ => false)
  | _,_ => false)
 | 3,[a,b] => (match E[a]?,E[b]? with
  | some p,some r => (match QK D p.2,QK D r.2 with
   | some c,some e => Nat.ble (Nat.max (p.1+ZN E c) (r.1+ZN E e)+1) z
   | _,_ => false)
  | _,_ => false)
 | 4,[a,b] => (match E[a]?,E[b]? with
  | some p,some r => (match QK D p.2 with
   | some c => Jk (QK c r.2) && Nat.ble (p.1+r.1) z
   | _ => false)
  | _,_ => false)
 | 5,[a] => (match E[a]? with
  | some p => Jk (QK D p.2) && Nat.ble p.1 z
  | _ => false)
 | 6,[a,b] => (match E[a]?,E[b]?,JQ (1,b) D with
  | some p,some r,some D' => (match QK p.2 D' with
   | some c => (match QK r.2 c with
    | some e => Nat.ble (p.1+ZN E e) z
    | none => false)
   | none => false)
  | _,_,_ => false)
 | 7,_ => Nat.beq D.length 0
 | 8,i :: xs => Nat.beq D.length 0 && (xs.all (fun a => match E[a]? with
   | some p => (QK (JN E xs []) p.2).isSome
   | none => false) && (match xs[i]? with
   | some a => (match E[a]? with
    | some p => (match QK (JN E xs []) p.2 with
     | some e => Nat.ble (p.1+ZN E e) z
     | none => false)
    | none => false)
   | none => false))
 | _,_ => false
def saB (E : List (Nat × List Atm)) : Nat→List Nd→List (Nat × List Atm)→List Nat→Bool
 | _,[],[],[] => true
 | k,nd :: ns,p :: ps,z :: zs => (saN E k p.1 p.2 nd && (Nat.ble p.1 z && (Nat.ble (ZN E p.2) z && Nat.ble z 1000000000000))) && saB E (k+1) ns ps zs
 | _,_,_,_ => false
theorem JA {E : List (Nat × List Atm)} : ∀ {ns : List Nd} {ps : List (Nat × List Atm)} {zs : List Nat} {k i : Nat} {nd : Nd},saB E k ns ps zs=true→ns[i]? = some nd→∃ p z,ps[i]? = some p∧zs[i]? = some z∧saN E (k+i) p.1 p.2 nd=true∧p.1≤z∧ZN E p.2≤z∧z≤1000000000000
 | [],_,_,_,_,_,_,h => by simp at h
 | _ :: _,[],_,_,_,_,h,_ => by cases h
 | _ :: _,_ :: _,[],_,_,_,h,_ => by cases h
 | nd' :: ns,p :: ps,z :: zs,k,0,nd,h,e => by
  have : nd'=nd := by simpa using e
  subst this
  unfold saB at h
  simp only [Bool.and_eq_true,Nat.ble_eq] at h
  exact ⟨p,z,rfl,rfl,h.1.1,h.1.2.1,h.1.2.2.1,h.1.2.2.2⟩
 | nd' :: ns,p :: ps,z :: zs,k,i+1,nd,h,e => by
  unfold saB at h
  rw [Bool.and_eq_true] at h
  obtain ⟨p',z',g1,g2,g3,g4⟩ := JA (k := k+1) (i := i) h.2 (by simpa using e)
  exact ⟨p',z',by simpa using g1,by simpa using g2,by rw [show k+(i+1)=k+1+i by omega]; exact g3,g4⟩
theorem XN {E : List (Nat × List Atm)} : ∀ {ns : List Nd} {ps : List (Nat × List Atm)} {zs : List Nat} {k : Nat},saB E k ns ps zs=true→ns.length=ps.length∧ns.length=zs.length
 | [],[],[],_,_ => ⟨rfl,rfl⟩
 | [],[],_ :: _,_,h => by cases h
 | [],_ :: _,_,_,h => by cases h
 | _ :: _,[],_,_,h => by cases h
 | _ :: _,_ :: _,[],_,h => by cases h
 | _ :: _,_ :: _,_ :: _,k,h => by
  unfold saB at h
  rw [Bool.and_eq_true] at h
  have := XN h.2
  exact ⟨congrArg (· + 1) this.1,congrArg (· + 1) this.2⟩
def ZO (dn : Nat→Nat) (M : Nat→Rat) (x : Atm) : Rat := match x.1 with
 | 0 => ((dn x.2 : Nat) : Rat)
 | 1 => if M x.2=0 then 1 else M x.2
 | _ => if x.2=0 then 1 else ((x.2 : Nat) : Rat)
def Qf (dn : Nat→Nat) (M : Nat→Rat) : List Atm→Rat
 | [] => 1
 | x :: l => ZO dn M x*Qf dn M l
theorem ZP {dn : Nat→Nat} {M : Nat→Rat} {x : Atm} : ∀ {l c : List Atm},JQ x l=some c→Qf dn M l=ZO dn M x*Qf dn M c
 | [],_,h => by cases h
 | y :: l,c,h => by
  unfold JQ at h
  cases e : (Nat.beq x.1 y.1 && Nat.beq x.2 y.2) with
  | true =>
   rw [e] at h
   cases h
   rw [Bool.and_eq_true,Nat.beq_eq,Nat.beq_eq] at e
   have : x=y := Prod.ext e.1 e.2
   rw [this]
   rfl
  | false =>
   rw [e] at h
   simp only [cond_false,Option.map_eq_some_iff] at h
   obtain ⟨c',h1,rfl⟩ := h
   show ZO dn M y*Qf dn M l=ZO dn M x*(ZO dn M y*Qf dn M c')
   rw [ZP h1]
   grind
theorem Qi {dn : Nat→Nat} {M : Nat→Rat} : ∀ {r l c : List Atm},QK l r=some c→Qf dn M l=Qf dn M r*Qf dn M c
 | [],l,c,h => by
  have : l=c := by simpa [QK] using h
  rw [this]
  exact (Rat.one_mul _).symm
 | x :: r,l,c,h => by
  unfold QK at h
  rw [Option.bind_eq_some_iff] at h
  obtain ⟨l',h1,h2⟩ := h
  rw [ZP h1,Qi h2]
  exact (Rat.mul_assoc _ _ _).symm
theorem QX {l : Option (List Atm)} (h : Jk l=true) : l=some [] := by
 unfold Jk at h
 split at h
 ·rfl
 ·cases h
theorem QW.one {z : Nat} (h : 0 < z) : QW z 1 := ⟨⟨by
  show (1 : Int).natAbs < 2 ^ z
  exact Nat.one_lt_two_pow (by omega),by
  show 1 < 2 ^ z
  exact Nat.one_lt_two_pow (by omega)⟩,rfl⟩
theorem QW.zero {z : Nat} (h : 0 < z) : QW z 0 := ⟨⟨by
  show (0 : Int).natAbs < 2 ^ z
  exact Nat.two_pow_pos z,by
  show 1 < 2 ^ z
  exact Nat.one_lt_two_pow (by omega)⟩,rfl⟩
theorem QW.nat {z n : Nat} (h : n < 2 ^ z) (hz : 0 < z) : QW z ((n : Nat) : Rat) := by
 have : ((n : Nat) : Rat)=(((n : Nat) : Int) : Rat) := (Rat.intCast_natCast n).symm
 rw [this]
 exact QW.of (by simpa using h) hz
section
variable {E : List (Nat × List Atm)} {dn : Nat→Nat} {M : Nat→Rat} {k : Nat}
def Vd (E : List (Nat × List Atm)) (dn : Nat→Nat) (M : Nat→Rat) (q : Nat→Rat) (k : Nat) : Prop := ∀ a,a < k→∃ p,E[a]? = some p∧QW p.1 (M a)∧0 < p.1∧(∀ x ∈ p.2,x.1=1→x.2 < a)∧q a*Qf dn M p.2=M a
theorem UH {q : Nat→Rat} (hdn : ∀ j,0 < dn j∧dn j < 2 ^ inB) (hM : Vd E dn M q k) {x : Atm} (hx : x.1=1→x.2 < k) : QW (Te E x) (ZO dn M x)∧ZO dn M x ≠ 0 := by
 obtain ⟨i,j⟩ := x
 match i with
 | 0 =>
  show QW inB ((dn j : Nat) : Rat)∧((dn j : Nat) : Rat) ≠ 0
  refine ⟨QW.nat (hdn j).2 (by unfold inB; omega),fun h => ?_⟩
  have := (hdn j).1
  have h2 : dn j=0 := by exact_mod_cast h
  omega
 | 1 =>
  obtain ⟨p,h1,h2,h3,_⟩ := hM j (hx rfl)
  show QW (match E[j]? with
   | some p => p.1
   | none => 1) (if M j=0 then 1 else M j)∧(if M j=0 then 1 else M j) ≠ 0
  rw [h1]
  by_cases h : M j=0
  ·rw [if_pos h]
   exact ⟨QW.one h3,by decide⟩
  ·rw [if_neg h]
   exact ⟨h2,h⟩
 | i+2 =>
  show QW (Nat.log2 j+1) (if j=0 then 1 else ((j : Nat) : Rat))∧(if j=0 then 1 else ((j : Nat) : Rat)) ≠ 0
  by_cases h : j=0
  ·rw [if_pos h]
   exact ⟨QW.one (by omega),by decide⟩
  ·rw [if_neg h]
   refine ⟨QW.nat Nat.lt_log2_self (by omega),fun h2 => h ?_⟩
   exact_mod_cast h2
theorem JE {q : Nat→Rat} (hdn : ∀ j,0 < dn j∧dn j < 2 ^ inB) (hM : Vd E dn M q k) : ∀ {l : List Atm},(∀ x ∈ l,x.1=1→x.2 < k)→QW (ZN E l) (Qf dn M l)∧Qf dn M l ≠ 0
 | [],_ => ⟨QW.one (show 0 < 1 by decide),by show (1 : Rat) ≠ 0; decide⟩
 | x :: l,h => by
  have h1 := UH hdn hM (h x List.mem_cons_self)
  have h2 := JE hdn hM (l := l) fun y hy => h y (List.mem_cons_of_mem _ hy)
  exact ⟨h1.1.mul h2.1,Zp h1.2 h2.2⟩
theorem ZQ {M' : Nat→Rat} : ∀ {l : List Atm},(∀ x ∈ l,x.1=1→M x.2=M' x.2)→Qf dn M l=Qf dn M' l
 | [],_ => rfl
 | x :: l,h => by
  show ZO dn M x*Qf dn M l=ZO dn M' x*Qf dn M' l
  rw [ZQ (l := l) fun y hy => h y (List.mem_cons_of_mem _ hy)]
  have e : ZO dn M x=ZO dn M' x := by
   obtain ⟨i,j⟩ := x
   match i with
   | 0 => rfl
   | 1 =>
    have := h (1,j) List.mem_cons_self rfl
    show (if M j=0 then 1 else M j)=(if M' j=0 then 1 else M' j)
    rw [this]
   | i+2 => rfl
  rw [e]
theorem JX {x y : Atm} : ∀ {l c : List Atm},JQ x l=some c→y ∈ c→y ∈ l
 | [],_,h,_ => by cases h
 | z :: l,c,h,hy => by
  unfold JQ at h
  cases e : (Nat.beq x.1 z.1 && Nat.beq x.2 z.2) with
  | true => rw [e] at h; cases h; exact List.mem_cons_of_mem _ hy
  | false =>
   rw [e] at h
   simp only [cond_false,Option.map_eq_some_iff] at h
   obtain ⟨c',h1,rfl⟩ := h
   rcases List.mem_cons.1 hy with rfl | hy
   ·exact List.mem_cons_self
   ·exact List.mem_cons_of_mem _ (JX h1 hy)
theorem Qz {y : Atm} : ∀ {r l c : List Atm},QK l r=some c→y ∈ c→y ∈ l
 | [],l,c,h,hy => by
  have : l=c := by simpa [QK] using h
  rw [this]; exact hy
 | x :: r,l,c,h,hy => by
  unfold QK at h
  rw [Option.bind_eq_some_iff] at h
  obtain ⟨l',h1,h2⟩ := h
  exact JX h1 (Qz h2 hy)
theorem Vr {n : Nat} (h : n ≠ 0) : ((n : Nat) : Rat) ≠ 0 := fun e => h (by exact_mod_cast e)
theorem ZJ (x : Rat) : x*((x.den : Nat) : Rat)=((x.num : Int) : Rat) := by
 have e : x=((x.num : Int) : Rat) / ((x.den : Nat) : Rat) := by
  have := Rat.mkRat_self x
  rw [Rat.mkRat_eq_div] at this
  exact this.symm
 conv => lhs; lhs; rw [e]
 exact Rat.div_mul_cancel (Vr x.den_nz)
theorem Yb {qs : List Rat} {m M : Nat} (hm : m ∣ M) (h : ∀ q ∈ qs,q.den ∣ M) : qs.foldl (fun m q => m*(q.den / Nat.gcd m q.den)) m ∣ M := by
 induction qs generalizing m with
 | nil => exact hm
 | cons q qs ih =>
  rw [List.foldl_cons]
  refine ih ?_ fun p hp => h p (List.mem_cons_of_mem _ hp)
  have e : m*(q.den / Nat.gcd m q.den)=Nat.lcm m q.den := by
   unfold Nat.lcm
   exact (Nat.mul_div_assoc _ (Nat.gcd_dvd_right _ _)).symm
  rw [e]
  exact Nat.lcm_dvd hm (h q List.mem_cons_self)
theorem JB {x : Rat} {m : Int} (h : (x*((m : Int) : Rat)).den=1) : x.den ∣ m.natAbs := by
 have e := whole h
 generalize (x*((m : Int) : Rat)).num=n at e
 have h1 : x*((x.den : Nat) : Rat)=((x.num : Int) : Rat) := ZJ x
 have h2 : ((x.num : Int) : Rat)*((m : Int) : Rat)=((n : Int) : Rat)*(((x.den : Nat) : Int) : Rat) := by
  rw [← h1,← e,Rat.intCast_natCast]
  grind
 have h3 : x.num*m=n*(x.den : Int) := by exact_mod_cast h2
 have h4 : (x.den : Int) ∣ x.num*m := ⟨n,by rw [h3,Int.mul_comm]⟩
 have h5 : x.den ∣ x.num.natAbs*m.natAbs := by
  have := Int.natAbs_dvd_natAbs.2 h4
  rwa [Int.natAbs_mul,Int.natAbs_natCast] at this
 exact (Nat.Coprime.symm x.reduced).dvd_of_dvd_mul_left h5
theorem Yj {qs : List Rat} {x : Rat} {z : Nat} {m : Int} (hx : x ∈ qs) (hm : m ≠ 0) (hall : ∀ y ∈ qs,(y*((m : Int) : Rat)).den=1) (hz : QW z (x*((m : Int) : Rat))) : QW z (x*fac qs) := by
 have hl : lD qs ∣ m.natAbs := Yb (Nat.one_dvd _) fun y hy => JB (hall y hy)
 have hd := IX hx
 have hpos : 0 < m.natAbs := Int.natAbs_pos.2 hm
 have hle : lD qs≤m.natAbs := Nat.le_of_dvd hpos hl
 have hn : (x*fac qs).num.natAbs≤(x*((m : Int) : Rat)).num.natAbs := by
  rw [IQ hx]
  have e := whole hz.wh
  generalize (x*((m : Int) : Rat)).num=n at e
  have h1 : x*((x.den : Nat) : Rat)=((x.num : Int) : Rat) := ZJ x
  have h2 : ((x.num : Int) : Rat)*((m : Int) : Rat)=((n : Int) : Rat)*(((x.den : Nat) : Int) : Rat) := by
   rw [← h1,← e,Rat.intCast_natCast]
   grind
  have h3 : x.num*m=n*(x.den : Int) := by exact_mod_cast h2
  have h4 : x.num.natAbs*m.natAbs=n.natAbs*x.den := by
   have := congrArg Int.natAbs h3
   rwa [Int.natAbs_mul,Int.natAbs_mul,Int.natAbs_natCast] at this
  obtain ⟨c,hc⟩ := JB (x := x) (m := m) (hall x hx)
  have h5 : n.natAbs=x.num.natAbs*c := by
   rw [hc] at h4
   refine Nat.eq_of_mul_eq_mul_right x.den_pos ?_
   rw [← h4]
   rw [Nat.mul_assoc,Nat.mul_comm c]
  show x.num.natAbs / gN qs*(lD qs / x.den)≤n.natAbs
  rw [h5]
  refine Nat.mul_le_mul (Nat.div_le_self _ _) ?_
  have : lD qs / x.den≤m.natAbs / x.den := Nat.div_le_div_right hle
  rw [hc,Nat.mul_div_cancel_left _ x.den_pos] at this
  exact this
 refine ⟨⟨Nat.lt_of_le_of_lt hn hz.qs.num,?_⟩,hd⟩
 rw [hd]
 have := hz.qs.den
 rw [hz.wh] at this
 exact this
theorem Zw {y : Atm} : ∀ {D U : List Atm},y ∈ JP U D→y ∈ D
 | [],_,h => by cases h
 | x :: D,U,h => by
  unfold JP at h
  split at h
  ·exact List.mem_cons_of_mem _ (Zw h)
  ·rcases List.mem_cons.1 h with rfl | h
   ·exact List.mem_cons_self
   ·exact List.mem_cons_of_mem _ (Zw h)
theorem JU {q : Nat→Rat} (hM : Vd E dn M q k) : ∀ {l : List Nat} {U : List Atm},(∀ c ∈ l,c < k)→(∀ x ∈ U,x.1=1→x.2 < k)→∀ x ∈ JN E l U,x.1=1→x.2 < k
 | [],_,_,hU => hU
 | a :: l,U,hl,hU => by
  unfold JN
  refine JU hM (fun c hc => hl c (List.mem_cons_of_mem _ hc)) ?_
  have ha := hl a List.mem_cons_self
  obtain ⟨p,h1,_,_,h4,_⟩ := hM a ha
  rw [h1]
  intro x hx h
  rcases List.mem_append.1 hx with hx | hx
  ·exact hU x hx h
  ·exact Nat.lt_trans (h4 x (Zw hx) h) ha
theorem UL {q : Nat→Rat} {σ : Nat→ByteArray} (hσ : ∀ j,(σ j).size≤1048576) (hdn : ∀ j,dn j=(Cx.rd (σ j).data.toList).den) (hM : Vd E dn M q k) {z : Nat} {D : List Atm} {nd : Nd} (hwf : wfN k nd=true) (hs : saN E k z D nd=true) : QW z (Zg σ q nd*Qf dn M D)∧0 < z∧∀ x ∈ D,x.1=1→x.2 < k := by
 have hdn' : ∀ j,0 < dn j∧dn j < 2 ^ inB := fun j => by
  rw [hdn j]
  refine ⟨Rat.den_pos _,Nat.lt_of_lt_of_le (QS.rd3 _).den (Nat.pow_le_pow_right (by decide) ?_)⟩
  have := hσ j
  rw [Qr]
  unfold inB
  omega
 obtain ⟨op,xs⟩ := nd
 unfold saN at hs
 rw [Bool.and_eq_true,Bool.and_eq_true] at hs
 obtain ⟨⟨hz0,hD⟩,hs⟩ := hs
 have hz : 0 < z := by simpa [Nat.blt_eq] using hz0
 have hD' : ∀ x ∈ D,x.1=1→x.2 < k := fun x hx h1 => by
  rw [List.all_eq_true] at hD
  have := hD x hx
  rw [h1] at this
  simpa [Nat.blt_eq] using this
 refine ⟨?_,hz,hD'⟩
 have hlow : ∀ {a : Nat} {p : Nat × List Atm},a < k→E[a]? = some p→QW p.1 (M a)∧(∀ x ∈ p.2,x.1=1→x.2 < k)∧q a*Qf dn M p.2=M a := fun {a p} ha hp => by
  obtain ⟨p',h1,h2,_,h4,h5⟩ := hM a ha
  rw [hp] at h1
  cases h1
  exact ⟨h2,fun x hx h => Nat.lt_trans (h4 x hx h) ha,h5⟩
 have hpr : ∀ {l : List Atm},(∀ x ∈ l,x.1=1→x.2 < k)→QW (ZN E l) (Qf dn M l)∧Qf dn M l ≠ 0 := fun h => JE hdn' hM h
 unfold wfN at hwf
 unfold Zg
 dsimp only at hs hwf ⊢
 split at hs
 ·rename_i s n d
  simp only [Bool.and_eq_true] at hs
  obtain ⟨⟨h1,h2⟩,h3⟩ := hs
  have h1' : n < 2 ^ z := by simpa [Nat.blt_eq] using h1
  have h2' : d ≠ 0 := by
   have : 0 < d := by simpa [Nat.blt_eq] using h2
   omega
  have hp : Qf dn M D=((d : Nat) : Rat) := by
   have := Qi (dn := dn) (M := M) (QX h3)
   rw [this]
   cases e : Nat.beq d 1 with
   | true =>
    rw [Nat.beq_eq] at e
    rw [e]
    show (1 : Rat)*1=((1 : Nat) : Rat)
    rw [Rat.mul_one]
    exact_mod_cast rfl
   | false =>
    show (if d=0 then (1 : Rat) else ((d : Nat) : Rat))*1*1=_
    rw [if_neg h2',Rat.mul_one,Rat.mul_one]
  show QW z ((if s=0 then mkRat (n : Int) d else mkRat (-(n : Int)) d)*Qf dn M D)
  rw [hp]
  have key : ∀ m : Int,m.natAbs < 2 ^ z→QW z (mkRat m d*((d : Nat) : Rat)) := fun m hm => by
   rw [Rat.mkRat_eq_div,Rat.div_mul_cancel (Vr h2')]
   exact QW.of hm hz
  by_cases hs0 : s=0
  ·rw [if_pos hs0]
   exact key _ (by simpa using h1')
  ·rw [if_neg hs0]
   exact key _ (by simpa using h1')
 ·rename_i j
  simp only [Bool.and_eq_true,Nat.ble_eq] at hs
  have hp : Qf dn M D=(((Cx.rd (σ j).data.toList).den : Nat) : Rat) := by
   rw [Qi (dn := dn) (M := M) (QX hs.2)]
   show ((dn j : Nat) : Rat)*1*1=_
   rw [Rat.mul_one,Rat.mul_one,hdn j]
  show QW z (Cx.rd (σ j).data.toList*Qf dn M D)
  rw [hp,ZJ]
  refine QW.of (Nat.lt_of_lt_of_le (QS.rd3 _).num (Nat.pow_le_pow_right (by decide) ?_)) hz
  have := hσ j
  have := hs.1
  unfold inB at this
  rw [Qr]
  omega
 ·simp only [List.all_cons,List.all_nil,Bool.and_true,Bool.and_eq_true] at hwf
  rename_i a b
  have l1 : a < k := by simpa [Nat.blt_eq] using hwf.1
  have l2 : b < k := by simpa [Nat.blt_eq] using hwf.2
  split at hs
  ·rename_i p r hp hr
   split at hs
   ·rename_i c e hc he
    rw [Nat.ble_eq] at hs
    obtain ⟨a1,a2,a3⟩ := hlow l1 hp
    obtain ⟨b1,b2,b3⟩ := hlow l2 hr
    have hc' := hpr (l := c) fun x hx => hD' x (Qz hc hx)
    have he' := hpr (l := e) fun x hx => hD' x (Qz he hx)
    have e1 : (q a+q b)*Qf dn M D=M a*Qf dn M c+M b*Qf dn M e := by
     rw [Rat.add_mul]
     congr 1
     ·rw [Qi hc,← Rat.mul_assoc,a3]
     ·rw [Qi he,← Rat.mul_assoc,b3]
    show QW z ((q a+q b)*Qf dn M D)
    rw [e1]
    exact ((a1.mul hc'.1).add (b1.mul he'.1)).mono hs
   ·cases hs
  ·cases hs
 ·simp only [List.all_cons,List.all_nil,Bool.and_true,Bool.and_eq_true] at hwf
  rename_i a b
  have l1 : a < k := by simpa [Nat.blt_eq] using hwf.1
  have l2 : b < k := by simpa [Nat.blt_eq] using hwf.2
  split at hs
  ·rename_i p r hp hr
   split at hs
   ·rename_i c e hc he
    rw [Nat.ble_eq] at hs
    obtain ⟨a1,a2,a3⟩ := hlow l1 hp
    obtain ⟨b1,b2,b3⟩ := hlow l2 hr
    have hc' := hpr (l := c) fun x hx => hD' x (Qz hc hx)
    have he' := hpr (l := e) fun x hx => hD' x (Qz he hx)
    have e1 : (q a - q b)*Qf dn M D=M a*Qf dn M c - M b*Qf dn M e := by
     rw [show (q a - q b)*Qf dn M D=q a*Qf dn M D - q b*Qf dn M D by grind]
     congr 1
     ·rw [Qi hc,← Rat.mul_assoc,a3]
     ·rw [Qi he,← Rat.mul_assoc,b3]
    show QW z ((q a - q b)*Qf dn M D)
    rw [e1]
    exact ((a1.mul hc'.1).sub (b1.mul he'.1)).mono hs
   ·cases hs
  ·cases hs
 ·simp only [List.all_cons,List.all_nil,Bool.and_true,Bool.and_eq_true] at hwf
  rename_i a b
  have l1 : a < k := by simpa [Nat.blt_eq] using hwf.1
  have l2 : b < k := by simpa [Nat.blt_eq] using hwf.2
  split at hs
  ·rename_i p r hp hr
   split at hs
   ·rename_i c hc
    rw [Bool.and_eq_true,Nat.ble_eq] at hs
    obtain ⟨a1,a2,a3⟩ := hlow l1 hp
    obtain ⟨b1,b2,b3⟩ := hlow l2 hr
    have e1 : q a*q b*Qf dn M D=M a*M b := by
     rw [Qi hc,Qi (QX hs.1),← a3,← b3]
     show q a*q b*(Qf dn M p.2*(Qf dn M r.2*1))=_
     grind
    show QW z (q a*q b*Qf dn M D)
    rw [e1]
    exact (a1.mul b1).mono hs.2
   ·cases hs
  ·cases hs
 ·simp only [List.all_cons,List.all_nil,Bool.and_true] at hwf
  rename_i a
  have l1 : a < k := by simpa [Nat.blt_eq] using hwf
  split at hs
  ·rename_i p hp
   rw [Bool.and_eq_true,Nat.ble_eq] at hs
   obtain ⟨a1,a2,a3⟩ := hlow l1 hp
   have e1 : -q a*Qf dn M D=-M a := by
    rw [Qi (QX hs.1),← a3]
    show -q a*(Qf dn M p.2*1)=_
    grind
   show QW z (-q a*Qf dn M D)
   rw [e1]
   exact a1.neg.mono hs.2
  ·cases hs
 ·simp only [List.all_cons,List.all_nil,Bool.and_true,Bool.and_eq_true] at hwf
  rename_i a b
  have l1 : a < k := by simpa [Nat.blt_eq] using hwf.1
  have l2 : b < k := by simpa [Nat.blt_eq] using hwf.2
  split at hs
  ·rename_i p r D' hp hr hD1
   split at hs
   ·rename_i c hc
    split at hs
    ·rename_i e he
     rw [Nat.ble_eq] at hs
     obtain ⟨a1,a2,a3⟩ := hlow l1 hp
     obtain ⟨b1,b2,b3⟩ := hlow l2 hr
     have he' := hpr (l := e) fun x hx => b2 x (Qz he hx)
     by_cases h0 : M b=0
     ·have hb : q b=0 := by
       rw [h0] at b3
       exact (Rat.mul_eq_zero.1 b3).resolve_right (hpr b2).2
      show QW z (q a / q b*Qf dn M D)
      rw [hb,Rat.div_def,Rat.inv_zero,Rat.mul_zero,Rat.zero_mul]
      exact QW.zero hz
     ·have hb : q b ≠ 0 := fun h => h0 (by rw [← b3,h,Rat.zero_mul])
      have e1 : q a / q b*Qf dn M D=M a*Qf dn M e := by
       have e2 : Qf dn M D=M b*Qf dn M D' := by
        rw [ZP hD1]
        show (if M b=0 then (1 : Rat) else M b)*_=_
        rw [if_neg h0]
       have e3 : q a / q b*q b=q a := Rat.div_mul_cancel hb
       rw [e2,← a3,← b3,Qi hc,Qi he]
       generalize q a / q b=t at e3
       rw [← e3]
       grind
      show QW z (q a / q b*Qf dn M D)
      rw [e1]
      exact (a1.mul he'.1).mono hs
    ·cases hs
   ·cases hs
  ·cases hs
 ·have hD0 : D=[] := by
   rw [Nat.beq_eq] at hs
   exact List.length_eq_zero_iff.1 hs
  rw [hD0]
  have hv : Zg σ q (7,xs)=0 ∨ Zg σ q (7,xs)=1 := by
   unfold Zg
   dsimp only
   split
   all_goals first | (split; exact Or.inl rfl; exact Or.inr rfl) | exact Or.inl rfl | (rename_i h; cases h)
  show QW z (Zg σ q (7,xs)*1)
  rw [Rat.mul_one]
  rcases hv with h | h
  ·rw [h]
   exact QW.zero hz
  ·rw [h]
   exact QW.one hz
 ·rename_i i ys
  rw [Bool.and_eq_true,Bool.and_eq_true,List.all_eq_true] at hs
  obtain ⟨h1,h2,h3⟩ := hs
  have hD0 : D=[] := by
   rw [Nat.beq_eq] at h1
   exact List.length_eq_zero_iff.1 h1
  have hwf' : ys.all (Nat.blt · k)=true := hwf
  rw [List.all_eq_true] at hwf'
  have hlt : ∀ c ∈ ys,c < k := fun c hc => by simpa [Nat.blt_eq] using hwf' c hc
  split at h3
  ·rename_i a ha
   split at h3
   ·rename_i p hp
    split at h3
    ·rename_i e he
     rw [Nat.ble_eq] at h3
     obtain ⟨hi,ha'⟩ := List.getElem?_eq_some_iff.1 ha
     have hmem : a ∈ ys := List.mem_of_getElem? ha
     have hg : (ys.map q).getD i 0=q a := by
      rw [List.getD_eq_getElem?_getD,List.getElem?_map,ha]
      rfl
     show QW z ((ys.map q).getD i 0*fac (ys.map q)*Qf dn M D)
     rw [hg,hD0]
     show QW z (q a*fac (ys.map q)*1)
     rw [Rat.mul_one]
     -- what makes all of them whole
     have hU : ∀ x ∈ JN E ys [],x.1=1→x.2 < k := JU hM hlt (fun x hx => by cases hx)
     have hUp := hpr hU
     have hw := whole hUp.1.wh
     generalize hm : (Qf dn M (JN E ys [])).num=m at hw
     have hm0 : m ≠ 0 := fun h => hUp.2 (by rw [hw,h]; rfl)
     have hall : ∀ y ∈ ys.map q,(y*((m : Int) : Rat)).den=1 := fun y hy => by
      obtain ⟨c,hc,rfl⟩ := List.mem_map.1 hy
      have h4 := h2 c hc
      split at h4
      ·rename_i r hr
       obtain ⟨c1,c2,c3⟩ := hlow (hlt c hc) hr
       cases hs2 : QK (JN E ys []) r.2 with
       | none => rw [hs2] at h4; cases h4
       | some f =>
        have hf := hpr (l := f) fun x hx => hU x (Qz hs2 hx)
        rw [← hw,Qi hs2,← Rat.mul_assoc,c3]
        exact (c1.mul hf.1).wh
      ·cases h4
     obtain ⟨a1,a2,a3⟩ := hlow (hlt a hmem) hp
     have he' := hpr (l := e) fun x hx => hU x (Qz he hx)
     refine Yj (List.mem_map_of_mem hmem) hm0 hall ?_
     rw [← hw,Qi he,← Rat.mul_assoc,a3]
     exact (a1.mul he'.1).mono h3
    ·cases h3
   ·cases h3
  ·cases h3
 ·cases hs
end
theorem UJ {x m p : Rat} {z y K : Nat} (hm : QW z m) (hp : QW y p) (h0 : p ≠ 0) (e : x*p=m) (hz : z≤K) (hy : y≤K) : QS K x := by
 have hw := whole hp.wh
 generalize p.num=P at hw
 have hP : P ≠ 0 := fun h => h0 (by rw [hw,h]; rfl)
 have hpos : 0 < P.natAbs := Int.natAbs_pos.2 hP
 have hd : x.den ∣ P.natAbs := JB (x := x) (m := P) (by rw [← hw,e]; exact hm.wh)
 have hdle : x.den≤P.natAbs := Nat.le_of_dvd hpos hd
 have hPlt : P.natAbs < 2 ^ y := by
  have := hp.qs.num
  rw [hw,Rat.num_intCast] at this
  exact this
 have hmw := whole hm.wh
 have hmlt := hm.qs.num
 generalize m.num=n at hmw hmlt
 have h1 : x*((x.den : Nat) : Rat)=((x.num : Int) : Rat) := ZJ x
 have h2 : ((x.num : Int) : Rat)*((P : Int) : Rat)=((n : Int) : Rat)*(((x.den : Nat) : Int) : Rat) := by
  rw [← h1,← hw,← hmw,← e,Rat.intCast_natCast]
  grind
 have h3 : x.num*P=n*(x.den : Int) := by exact_mod_cast h2
 have h4 : x.num.natAbs*P.natAbs=n.natAbs*x.den := by
  have := congrArg Int.natAbs h3
  rwa [Int.natAbs_mul,Int.natAbs_mul,Int.natAbs_natCast] at this
 have h5 : x.num.natAbs≤n.natAbs := by
  refine Nat.le_of_mul_le_mul_right (c := P.natAbs) ?_ hpos
  rw [h4]
  exact Nat.mul_le_mul_left _ hdle
 exact ⟨Nat.lt_of_lt_of_le (Nat.lt_of_le_of_lt h5 hmlt) (Nat.pow_le_pow_right (by decide) hz),Nat.lt_of_lt_of_le (Nat.lt_of_le_of_lt hdle hPlt) (Nat.pow_le_pow_right (by decide) hy)⟩
section
variable {N : List Nd} {Z : List Nat} {E : List (Nat × List Atm)} {q : Nat→Rat}
theorem Jl {σ : Nat→ByteArray} (hσ : ∀ j,(σ j).size≤1048576) (hw : wfB 0 N=true) (hz : saB E 0 N E Z=true) (hq : ∀ (a : Nat) nd,N[a]? = some nd→q a=Zg σ q nd) (h0 : ∀ a,N.length≤a→q a=0) : (∀ (a : Nat) z,Z[a]? = some z→QS z (q a))∧∀ a,QS 1000000000000 (q a) := by
 have hl := XN hz
 have key : ∀ k,k≤N.length→∃ M,Vd E (fun j => (Cx.rd (σ j).data.toList).den) M q k := by
  intro k
  induction k with
  | zero => exact fun _ => ⟨fun _ => 0,fun a ha => by omega⟩
  | succ k ih =>
   intro hk
   obtain ⟨M,hM⟩ := ih (by omega)
   have hn : N[k]? = some N[k] := List.getElem?_eq_getElem (by omega)
   obtain ⟨p,z,h1,_,h3,_⟩ := JA hz hn
   rw [Nat.zero_add] at h3
   have hwf := Wi hw hn
   rw [Nat.zero_add] at hwf
   obtain ⟨g1,g2,g3⟩ := UL hσ (fun _ => rfl) hM hwf h3
   rw [← hq k _ hn] at g1
   refine ⟨fun x => if x=k then q k*Qf (fun j => (Cx.rd (σ j).data.toList).den) M p.2 else M x,fun a ha => ?_⟩
   have same : ∀ {l : List Atm},(∀ x ∈ l,x.1=1→x.2 < k)→Qf (fun j => (Cx.rd (σ j).data.toList).den) (fun x => if x=k then q k*Qf (fun j => (Cx.rd (σ j).data.toList).den) M p.2 else M x) l=Qf (fun j => (Cx.rd (σ j).data.toList).den) M l := fun hl => (ZQ fun x hx h => by
    have := hl x hx h
    rw [if_neg (by omega)]).symm
   by_cases e : a=k
   ·subst e
    refine ⟨p,h1,?_,g2,g3,?_⟩
    ·show QW p.1 (if a=a then _ else _)
     rw [if_pos rfl]
     exact g1
    ·rw [same g3]
     show _=(if a=a then _ else _)
     rw [if_pos rfl]
   ·obtain ⟨p',f1,f2,f3,f4,f5⟩ := hM a (by omega)
    refine ⟨p',f1,?_,f3,f4,?_⟩
    ·show QW p'.1 (if a=k then _ else M a)
     rw [if_neg e]
     exact f2
    ·rw [same fun x hx h => by have := f4 x hx h; omega]
     show _=(if a=k then _ else M a)
     rw [if_neg e]
     exact f5
 obtain ⟨M,hM⟩ := key N.length (Nat.le_refl _)
 have hdn : ∀ j,0 < (Cx.rd (σ j).data.toList).den∧(Cx.rd (σ j).data.toList).den < 2 ^ inB := fun j => by
  refine ⟨Rat.den_pos _,Nat.lt_of_lt_of_le (QS.rd3 _).den (Nat.pow_le_pow_right (by decide) ?_)⟩
  have := hσ j
  rw [Qr]
  unfold inB
  omega
 have h2 : ∀ (a : Nat) z,Z[a]? = some z→QS z (q a)∧z≤1000000000000 := by
  intro a z ha
  have hlt : a < N.length := by
   have := (List.getElem?_eq_some_iff.1 ha).1
   omega
  have hn : N[a]? = some N[a] := List.getElem?_eq_getElem hlt
  obtain ⟨p,z',h1,h2,_,h4,h5,h6⟩ := JA hz hn
  rw [ha] at h2
  cases h2
  obtain ⟨p',f1,f2,f3,f4,f5⟩ := hM a hlt
  rw [h1] at f1
  cases f1
  have hp := JE hdn hM (l := p.2) fun x hx h => Nat.lt_trans (f4 x hx h) hlt
  exact ⟨UJ f2 hp.1 hp.2 f5 h4 h5,h6⟩
 refine ⟨fun a z h => (h2 a z h).1,fun a => ?_⟩
 by_cases ha : a < Z.length
 ·have := h2 a _ (List.getElem?_eq_getElem ha)
  exact this.1.mono this.2
 ·rw [h0 a (by omega)]
  exact QS.zero.mono (by decide)
theorem YD {L C : List (List Nat × Nat)} {σ : Nat→ByteArray} {H : List (Nat × Nat × Nat × Nat)} (hσ : ∀ j,(σ j).size≤1048576) (hw : wfB 0 N=true) (hz : saB E 0 N E Z=true) (hl : TX N L=true) (hcn : Tb N C=true) (hq : ∀ (a : Nat) nd,N[a]? = some nd→q a=Zg σ q nd) (h0 : ∀ a,N.length≤a→q a=0) (hH : Ww q H) : Hy N H L C Z q σ where
 nat := hq
 qs := (Jl hσ hw hz hq h0).2
 zs := (Jl hσ hw hz hq h0).1
 par := hσ
 lit := fun s b h => KC hl hq h
 k0 := fun a r h => ZA hH h
 k1 := fun a r h => ZA hH h
 k2 := fun a r h => ZA hH h
 k3 := fun a b r h => ZA hH h
 k4 := fun l a b r h1 h2 => by
  have h3 : Nat.beq 1 r=true ↔ q a=q b := ZA hH h2
  rw [h3,← Kx hcn hq h1]
  exact ⟨fun e => by rw [e],fun e => VZ (XW e)⟩
 k6 := fun a b r h => ZA hH h
 k5 := fun a r h => ZA hH h
end
end Go.Proofs.YthagmklephpnhaaGreatDoor
/- CFspun -/
namespace Go.Proofs.YthagmklephpnhaaGreatDoor
open Go.RowKit Cx
theorem XX : Closed 11 :=
 Ut (N := [(0,[0,1,1]),(0,[0,0,1]),(8,[0,0,1,1,0]),(8,[1,0,1,1,0]),(8,[2,0,1,1,0]),(8,[3,0,1,1,0]),(3,[1,3]),(3,[1,4]),(3,[1,5]),(4,[2,2]),(4,[3,3]),(2,[1,10]),(4,[4,4]),(2,[11,12]),(4,[5,5]),(2,[13,14]),(2,[9,15]),(4,[2,1]),(4,[3,0]),(2,[1,18]),(4,[4,1]),(2,[19,20]),(4,[5,1]),(2,[21,22]),(3,[17,23]),(4,[0,2]),(4,[1,2]),(4,[3,1]),(2,[25,27]),(2,[26,20]),(2,[26,22]),(3,[20,22]),(4,[5,0]),(3,[32,27]),(4,[4,0]),(3,[27,34]),(2,[28,31]),(2,[29,33]),(2,[30,35]),(4,[24,2]),(4,[36,6]),(2,[1,40]),(4,[37,7]),(2,[41,42]),(4,[38,8]),(2,[43,44]),(3,[39,45]),(4,[6,24]),(4,[7,24]),(4,[8,24]),(4,[36,2]),(4,[37,2]),(4,[38,2]),(2,[47,50]),(2,[48,51]),(2,[49,52]),(4,[37,8]),(4,[38,7]),(3,[56,57]),(4,[38,6]),(4,[36,8]),(3,[59,60]),(4,[36,7]),(4,[37,6]),(3,[62,63]),(2,[53,58]),(2,[54,61]),(2,[55,64]),(6,[65,16]),(6,[66,16]),(6,[67,16]),(4,[0,0]),(2,[1,71]),(4,[1,1]),(2,[72,73]),(2,[74,73]),(3,[75,0]),(3,[0,1]),(6,[0,77]),(6,[1,77]),(4,[0,1]),(2,[1,80]),(4,[1,0]),(2,[81,82]),(2,[83,73]),(3,[73,84]),(2,[73,80]),(2,[80,73]),(2,[73,73]),(3,[73,82]),(3,[73,80]),(3,[71,73]),(2,[86,89]),(2,[87,90]),(2,[88,91])]) (H := [(0,16,0,0),(0,76,0,1),(0,77,0,0),(4,85,1,1),(4,92,1,1),(4,93,1,1),(4,94,0,1),(4,68,1,1),(4,69,0,1),(4,70,1,1),(4,78,0,1),(4,79,1,1)]) (K := [(136,[.inr (3,8,0,0,0),.inr (3,32,0,0,0),.inr (3,33,0,0,0)])]) (L := [([49],0),([48],1)]) (C := [([48],1),([49],0)]) (Z := [2,2,11,11,11,11,14,14,14,22,22,25,22,48,22,71,94,13,13,16,13,30,13,44,58,13,13,13,27,27,27,27,13,27,13,27,55,55,55,69,69,72,69,142,69,212,282,72,72,72,66,66,66,139,139,139,69,69,139,69,69,139,69,69,139,279,279,279,373,373,373,4,7,4,12,17,20,5,7,7,4,7,4,12,17,22,9,9,9,9,9,9,19,19,19]) (cl := []) 7 (fun _ h => by cases h) (by kernel_rfl) (by kernel_rfl) (by kernel_rfl) (by kernel_rfl) (by kernel_rfl) (by kernel_rfl) (by kernel_rfl)
end Go.Proofs.YthagmklephpnhaaGreatDoor
/- MQT -/
namespace Go.Proofs.YthagmklephpnhaaGreatDoor
open Go.RowKit Cx
def qT_N : List Nd := [(1,[0]),(1,[1]),(1,[2]),(1,[3]),(4,[0,0]),(4,[1,1]),(0,[0,0,1]),(2,[6,5]),(4,[2,2]),(2,[7,8]),(4,[3,3]),(2,[9,10]),(2,[4,11]),(2,[4,5]),(2,[13,8]),(2,[14,10]),(1,[4]),(1,[5]),(1,[6]),(1,[7]),(4,[0,16]),(4,[1,17]),(2,[6,21]),(4,[2,18]),(2,[22,23]),(4,[3,19]),(2,[24,25]),(3,[20,26]),(4,[17,0]),(4,[18,0]),(4,[19,0]),(4,[1,16]),(4,[2,16]),(4,[3,16]),(2,[28,31]),(2,[29,32]),(2,[30,33]),(4,[2,19]),(4,[3,18]),(3,[37,38]),(4,[3,17]),(4,[1,19]),(3,[40,41]),(4,[1,18]),(4,[2,17]),(3,[43,44]),(2,[34,39]),(2,[35,42]),(2,[36,45]),(0,[0,1,1]),(4,[49,0]),(4,[50,16]),(2,[6,51]),(4,[50,17]),(2,[6,53]),(4,[50,18]),(2,[6,55]),(4,[50,19]),(2,[6,57]),(4,[49,1]),(4,[59,16]),(2,[54,60]),(0,[1,1,1]),(4,[62,1]),(4,[63,17]),(2,[52,64]),(4,[59,18]),(2,[58,66]),(4,[63,19]),(2,[56,68]),(4,[49,2]),(4,[70,16]),(2,[69,71]),(4,[62,2]),(4,[73,17]),(2,[67,74]),(4,[73,18]),(2,[65,76]),(4,[70,19]),(2,[61,78]),(4,[49,3]),(4,[80,16]),(2,[75,81]),(4,[80,17]),(2,[72,83]),(4,[62,3]),(4,[85,18]),(2,[79,86]),(4,[85,19]),(2,[77,88]),(3,[6,1]),(3,[6,2]),(3,[6,3]),(6,[0,12]),(6,[90,12]),(6,[91,12]),(6,[92,12]),(4,[50,93]),(2,[6,97]),(4,[50,94]),(2,[6,99]),(4,[50,95]),(2,[6,101]),(4,[50,96]),(2,[6,103]),(4,[59,93]),(2,[100,105]),(4,[63,94]),(2,[98,107]),(4,[59,95]),(2,[104,109]),(4,[63,96]),(2,[102,111]),(4,[70,93]),(2,[112,113]),(4,[73,94]),(2,[110,115]),(4,[73,95]),(2,[108,117]),(4,[70,96]),(2,[106,119]),(4,[80,93]),(2,[116,121]),(4,[80,94]),(2,[114,123]),(4,[85,95]),(2,[120,125]),(4,[85,96]),(2,[118,127])]
def qT_L : List (List Nat × Nat) := [([49],49),([48],6)]
def qT_C : List (List Nat × Nat) := [([49],49),([48],6)]
def qT_Z : List Nat := [3495260,3495260,3495260,3495260,6990519,6990519,1,6990521,6990519,13981041,6990519,20971561,27962081,13981038,20971558,27962078,3495260,3495260,3495260,3495260,6990519,6990519,6990521,6990519,13981041,6990519,20971561,27962081,6990519,6990519,6990519,6990519,6990519,6990519,13981038,13981038,13981038,6990519,6990519,13981038,6990519,6990519,13981038,6990519,6990519,13981038,27962076,27962076,27962076,1,3495260,6990519,6990521,6990519,6990521,6990519,6990521,6990519,6990521,3495260,6990519,13981041,1,3495260,6990519,13981041,6990519,13981041,6990519,13981041,3495260,6990519,20971561,3495260,6990519,20971561,6990519,20971561,6990519,20971561,3495260,6990519,27962081,6990519,27962081,3495260,6990519,27962081,6990519,27962081,3495262,3495262,3495262,27962082,27962082,27962082,27962082,31457341,31457343,31457341,31457343,31457341,31457343,31457341,31457343,31457341,34952604,31457341,34952604,31457341,34952604,31457341,34952604,31457341,38447865,31457341,38447865,31457341,38447865,31457341,38447865,31457341,41943126,31457341,41943126,31457341,41943126,31457341,41943126]
def qT_D0 : List Atm := [(0,1),(0,1)]
def qT_D1 : List Atm := [(0,0),(0,0),(0,1),(0,1),(0,2),(0,2),(0,3),(0,3)]
def qT_D2 : List Atm := [(0,0),(0,4)]
def qT_D3 : List Atm := [(0,1),(0,5)]
def qT_D4 : List Atm := [(0,2),(0,6)]
def qT_D5 : List Atm := [(0,1),(0,2),(0,5),(0,6)]
def qT_D6 : List Atm := [(0,3),(0,7)]
def Gh : List Atm := [(0,0),(0,1),(0,2),(0,3),(0,4),(0,5),(0,6),(0,7)]
def qT_D8 : List Atm := [(0,0),(0,5)]
def qT_D9 : List Atm := [(0,0),(0,6)]
def NK : List Atm := [(0,0),(0,7)]
def qT_D11 : List Atm := [(0,1),(0,4)]
def qT_D12 : List Atm := [(0,2),(0,4)]
def qT_D13 : List Atm := [(0,3),(0,4)]
def NU : List Atm := [(0,0),(0,1),(0,4),(0,5)]
def qT_D15 : List Atm := [(0,2),(0,7)]
def qT_D16 : List Atm := [(0,3),(0,6)]
def qT_D17 : List Atm := [(0,3),(0,5)]
def qT_D18 : List Atm := [(0,1),(0,7)]
def qT_D19 : List Atm := [(0,1),(0,6)]
def qT_D20 : List Atm := [(0,2),(0,5)]
def qT_D21 : List Atm := [(0,0),(0,1),(0,6),(0,7)]
def Ii : List Atm := [(0,0),(1,12)]
def FV : List Atm := [(0,1),(1,12)]
def Bq : List Atm := [(0,0),(0,1),(1,12)]
def SP : List Atm := [(0,2),(1,12)]
def FU : List Atm := [(0,0),(0,1),(0,2),(1,12)]
def SV : List Atm := [(0,3),(1,12)]
def FZ : List Atm := [(0,0),(0,1),(0,2),(0,3),(1,12)]
def qT_E : List (Nat × List Atm) := [(3495259,[(0,0)]),(3495259,[(0,1)]),(3495259,[(0,2)]),(3495259,[(0,3)]),(6990518,[(0,0),(0,0)]),(6990518,qT_D0),(1,[]),(6990521,qT_D0),(6990518,[(0,2),(0,2)]),(13981041,[(0,1),(0,1),(0,2),(0,2)]),(6990518,[(0,3),(0,3)]),(20971561,[(0,1),(0,1),(0,2),(0,2),(0,3),(0,3)]),(27962081,qT_D1),(13981038,[(0,0),(0,0),(0,1),(0,1)]),(20971558,[(0,0),(0,0),(0,1),(0,1),(0,2),(0,2)]),(27962078,qT_D1),(3495259,[(0,4)]),(3495259,[(0,5)]),(3495259,[(0,6)]),(3495259,[(0,7)]),(6990518,qT_D2),(6990518,qT_D3),(6990521,qT_D3),(6990518,qT_D4),(13981041,qT_D5),(6990518,qT_D6),(20971561,[(0,1),(0,2),(0,3),(0,5),(0,6),(0,7)]),(27962081,Gh),(6990518,qT_D8),(6990518,qT_D9),(6990518,NK),(6990518,qT_D11),(6990518,qT_D12),(6990518,qT_D13),(13981038,NU),(13981038,[(0,0),(0,2),(0,4),(0,6)]),(13981038,[(0,0),(0,3),(0,4),(0,7)]),(6990518,qT_D15),(6990518,qT_D16),(13981038,[(0,2),(0,3),(0,6),(0,7)]),(6990518,qT_D17),(6990518,qT_D18),(13981038,[(0,1),(0,3),(0,5),(0,7)]),(6990518,qT_D19),(6990518,qT_D20),(13981038,qT_D5),(27962076,Gh),(27962076,Gh),(27962076,Gh),(1,[]),(3495260,[(0,0)]),(6990519,qT_D2),(6990521,qT_D2),(6990519,qT_D8),(6990521,qT_D8),(6990519,qT_D9),(6990521,qT_D9),(6990519,NK),(6990521,NK),(3495260,[(0,1)]),(6990519,qT_D11),(13981041,NU),(1,[]),(3495260,[(0,1)]),(6990519,qT_D3),(13981041,NU),(6990519,qT_D19),(13981041,qT_D21),(6990519,qT_D18),(13981041,qT_D21),(3495260,[(0,2)]),(6990519,qT_D12),(20971561,[(0,0),(0,1),(0,2),(0,4),(0,6),(0,7)]),(3495260,[(0,2)]),(6990519,qT_D20),(20971561,[(0,0),(0,1),(0,2),(0,5),(0,6),(0,7)]),(6990519,qT_D4),(20971561,[(0,0),(0,1),(0,2),(0,4),(0,5),(0,6)]),(6990519,qT_D15),(20971561,[(0,0),(0,1),(0,2),(0,4),(0,5),(0,7)]),(3495260,[(0,3)]),(6990519,qT_D13),(27962081,Gh),(6990519,qT_D17),(27962081,Gh),(3495260,[(0,3)]),(6990519,qT_D16),(27962081,Gh),(6990519,qT_D6),(27962081,Gh),(3495262,[(0,1)]),(3495262,[(0,2)]),(3495262,[(0,3)]),(27962073,[(1,12)]),(27962076,[(1,12)]),(27962076,[(1,12)]),(27962076,[(1,12)]),(31457333,Ii),(31457343,Ii),(31457336,Ii),(31457343,Ii),(31457336,Ii),(31457343,Ii),(31457336,Ii),(31457343,Ii),(31457333,FV),(34952604,Bq),(31457336,FV),(34952604,Bq),(31457336,FV),(34952604,Bq),(31457336,FV),(34952604,Bq),(31457333,SP),(38447865,FU),(31457336,SP),(38447865,FU),(31457336,SP),(38447865,FU),(31457336,SP),(38447865,FU),(31457333,SV),(41943126,FZ),(31457336,SV),(41943126,FZ),(31457336,SV),(41943126,FZ),(31457336,SV),(41943126,FZ)]
theorem qT_wf : wfB 0 qT_N=true := by kernel_rfl
theorem qT_sz : saB qT_E 0 qT_N qT_E qT_Z=true := by kernel_rfl
theorem qT_lt : TX qT_N qT_L=true := by kernel_rfl
theorem qT_cn : Tb qT_N qT_C=true := by kernel_rfl
theorem qT_c6 : cst 0 0 1=(0 : Rat) := by decide +kernel
theorem qT_c49 : cst 0 1 1=(1 : Rat) := by decide +kernel
theorem qT_c62 : cst 1 1 1=((-1) : Rat) := by decide +kernel
def qT_A : List AV := [(false,[(true,[.inr (2,0,0,0,0),.inr (2,1,0,0,0),.inr (2,2,0,0,0),.inr (2,3,0,0,0)])]),(false,[(true,[.inr (2,4,0,0,0),.inr (2,5,0,0,0),.inr (2,6,0,0,0),.inr (2,7,0,0,0)])])]
theorem qT_f0 {z0 z1 z2 z3 z6 z16 z17 z18 z19 z20 z21 z22 z23 z24 z25 z26 z27 z49 z50 z51 z52 z62 z63 z64 z65 z73 z76 z77 z85 z88 z89 : Rat} : z6=0→z20=z0*z16→z21=z1*z17→z22=z6+z21→z23=z2*z18→z24=z22+z23→z25=z3*z19→z26=z24+z25→z27=z20-z26→z49=1→z50=z49*z0→z51=z50*z16→z52=z6+z51→z62=(-1)→z63=z62*z1→z64=z63*z17→z65=z52+z64→z73=z62*z2→z76=z73*z18→z77=z65+z76→z85=z62*z3→z88=z85*z19→z89=z77+z88→z27=z89 := by
 intro e6 e20 e21 e22 e23 e24 e25 e26 e27 e49 e50 e51 e52 e62 e63 e64 e65 e73 e76 e77 e85 e88 e89
 subst_vars; grind
theorem qT_f1 {z0 z1 z2 z3 z6 z16 z17 z18 z19 z28 z31 z34 z37 z38 z39 z46 z49 z50 z53 z54 z59 z60 z61 z62 z70 z78 z79 z85 z86 z87 : Rat} : z6=0→z28=z17*z0→z31=z1*z16→z34=z28+z31→z37=z2*z19→z38=z3*z18→z39=z37-z38→z46=z34+z39→z49=1→z50=z49*z0→z53=z50*z17→z54=z6+z53→z59=z49*z1→z60=z59*z16→z61=z54+z60→z62=(-1)→z70=z49*z2→z78=z70*z19→z79=z61+z78→z85=z62*z3→z86=z85*z18→z87=z79+z86→z46=z87 := by
 intro e6 e28 e31 e34 e37 e38 e39 e46 e49 e50 e53 e54 e59 e60 e61 e62 e70 e78 e79 e85 e86 e87
 subst_vars; grind
theorem qT_f2 {z0 z1 z2 z3 z6 z16 z17 z18 z19 z29 z32 z35 z40 z41 z42 z47 z49 z50 z55 z56 z62 z63 z68 z69 z70 z71 z72 z80 z83 z84 : Rat} : z6=0→z29=z18*z0→z32=z2*z16→z35=z29+z32→z40=z3*z17→z41=z1*z19→z42=z40-z41→z47=z35+z42→z49=1→z50=z49*z0→z55=z50*z18→z56=z6+z55→z62=(-1)→z63=z62*z1→z68=z63*z19→z69=z56+z68→z70=z49*z2→z71=z70*z16→z72=z69+z71→z80=z49*z3→z83=z80*z17→z84=z72+z83→z47=z84 := by
 intro e6 e29 e32 e35 e40 e41 e42 e47 e49 e50 e55 e56 e62 e63 e68 e69 e70 e71 e72 e80 e83 e84
 subst_vars; grind
theorem qT_f3 {z0 z1 z2 z3 z6 z16 z17 z18 z19 z30 z33 z36 z43 z44 z45 z48 z49 z50 z57 z58 z59 z62 z66 z67 z73 z74 z75 z80 z81 z82 : Rat} : z6=0→z30=z19*z0→z33=z3*z16→z36=z30+z33→z43=z1*z18→z44=z2*z17→z45=z43-z44→z48=z36+z45→z49=1→z50=z49*z0→z57=z50*z19→z58=z6+z57→z59=z49*z1→z62=(-1)→z66=z59*z18→z67=z58+z66→z73=z62*z2→z74=z73*z17→z75=z67+z74→z80=z49*z3→z81=z80*z16→z82=z75+z81→z48=z82 := by
 intro e6 e30 e33 e36 e43 e44 e45 e48 e49 e50 e57 e58 e59 e62 e66 e67 e73 e74 e75 e80 e81 e82
 subst_vars; grind
theorem qT_f4 {z0 z1 z2 z3 z4 z5 z6 z7 z8 z9 z10 z11 z12 z13 z14 z15 : Rat} : z4=z0*z0→z5=z1*z1→z6=0→z7=z6+z5→z8=z2*z2→z9=z7+z8→z10=z3*z3→z11=z9+z10→z12=z4+z11→z13=z4+z5→z14=z13+z8→z15=z14+z10→z12=z15 := by
 intro e4 e5 e6 e7 e8 e9 e10 e11 e12 e13 e14 e15
 subst_vars; grind
theorem qT_f5 {z0 z1 z2 z3 z4 z5 z6 z7 z8 z9 z10 z11 z12 z13 z14 z15 : Rat} : z4=z0*z0→z5=z1*z1→z6=0→z7=z6+z5→z8=z2*z2→z9=z7+z8→z10=z3*z3→z11=z9+z10→z12=z4+z11→z13=z4+z5→z14=z13+z8→z15=z14+z10→(z12=0)→z15=0 := by
 intro e4 e5 e6 e7 e8 e9 e10 e11 e12 e13 e14 e15 u0
 rw [u0] at e12
 subst_vars; grind
theorem qT_f6 {z0 z1 z2 z3 z4 z5 z6 z7 z8 z9 z10 z11 z12 z16 z17 z18 z19 z20 z21 z22 z23 z24 z25 z26 z27 z49 z50 z51 z52 z62 z63 z64 z65 z73 z76 z77 z85 z88 z89 : Rat} : z4=z0*z0→z5=z1*z1→z6=0→z7=z6+z5→z8=z2*z2→z9=z7+z8→z10=z3*z3→z11=z9+z10→z12=z4+z11→z20=z0*z16→z21=z1*z17→z22=z6+z21→z23=z2*z18→z24=z22+z23→z25=z3*z19→z26=z24+z25→z27=z20-z26→z49=1→z50=z49*z0→z51=z50*z16→z52=z6+z51→z62=(-1)→z63=z62*z1→z64=z63*z17→z65=z52+z64→z73=z62*z2→z76=z73*z18→z77=z65+z76→z85=z62*z3→z88=z85*z19→z89=z77+z88→(¬ (z12=0))→z27=z89 := by
 intro e4 e5 e6 e7 e8 e9 e10 e11 e12 e20 e21 e22 e23 e24 e25 e26 e27 e49 e50 e51 e52 e62 e63 e64 e65 e73 e76 e77 e85 e88 e89 u0
 subst_vars; grind
theorem qT_f7 {z0 z1 z2 z3 z4 z5 z6 z7 z8 z9 z10 z11 z12 z16 z17 z18 z19 z28 z31 z34 z37 z38 z39 z46 z49 z50 z53 z54 z59 z60 z61 z62 z70 z78 z79 z85 z86 z87 : Rat} : z4=z0*z0→z5=z1*z1→z6=0→z7=z6+z5→z8=z2*z2→z9=z7+z8→z10=z3*z3→z11=z9+z10→z12=z4+z11→z28=z17*z0→z31=z1*z16→z34=z28+z31→z37=z2*z19→z38=z3*z18→z39=z37-z38→z46=z34+z39→z49=1→z50=z49*z0→z53=z50*z17→z54=z6+z53→z59=z49*z1→z60=z59*z16→z61=z54+z60→z62=(-1)→z70=z49*z2→z78=z70*z19→z79=z61+z78→z85=z62*z3→z86=z85*z18→z87=z79+z86→(¬ (z12=0))→z46=z87 := by
 intro e4 e5 e6 e7 e8 e9 e10 e11 e12 e28 e31 e34 e37 e38 e39 e46 e49 e50 e53 e54 e59 e60 e61 e62 e70 e78 e79 e85 e86 e87 u0
 subst_vars; grind
theorem qT_f8 {z0 z1 z2 z3 z4 z5 z6 z7 z8 z9 z10 z11 z12 z16 z17 z18 z19 z29 z32 z35 z40 z41 z42 z47 z49 z50 z55 z56 z62 z63 z68 z69 z70 z71 z72 z80 z83 z84 : Rat} : z4=z0*z0→z5=z1*z1→z6=0→z7=z6+z5→z8=z2*z2→z9=z7+z8→z10=z3*z3→z11=z9+z10→z12=z4+z11→z29=z18*z0→z32=z2*z16→z35=z29+z32→z40=z3*z17→z41=z1*z19→z42=z40-z41→z47=z35+z42→z49=1→z50=z49*z0→z55=z50*z18→z56=z6+z55→z62=(-1)→z63=z62*z1→z68=z63*z19→z69=z56+z68→z70=z49*z2→z71=z70*z16→z72=z69+z71→z80=z49*z3→z83=z80*z17→z84=z72+z83→(¬ (z12=0))→z47=z84 := by
 intro e4 e5 e6 e7 e8 e9 e10 e11 e12 e29 e32 e35 e40 e41 e42 e47 e49 e50 e55 e56 e62 e63 e68 e69 e70 e71 e72 e80 e83 e84 u0
 subst_vars; grind
theorem qT_f9 {z0 z1 z2 z3 z4 z5 z6 z7 z8 z9 z10 z11 z12 z16 z17 z18 z19 z30 z33 z36 z43 z44 z45 z48 z49 z50 z57 z58 z59 z62 z66 z67 z73 z74 z75 z80 z81 z82 : Rat} : z4=z0*z0→z5=z1*z1→z6=0→z7=z6+z5→z8=z2*z2→z9=z7+z8→z10=z3*z3→z11=z9+z10→z12=z4+z11→z30=z19*z0→z33=z3*z16→z36=z30+z33→z43=z1*z18→z44=z2*z17→z45=z43-z44→z48=z36+z45→z49=1→z50=z49*z0→z57=z50*z19→z58=z6+z57→z59=z49*z1→z62=(-1)→z66=z59*z18→z67=z58+z66→z73=z62*z2→z74=z73*z17→z75=z67+z74→z80=z49*z3→z81=z80*z16→z82=z75+z81→(¬ (z12=0))→z48=z82 := by
 intro e4 e5 e6 e7 e8 e9 e10 e11 e12 e30 e33 e36 e43 e44 e45 e48 e49 e50 e57 e58 e59 e62 e66 e67 e73 e74 e75 e80 e81 e82 u0
 subst_vars; grind
theorem qT_f10 {z0 z1 z2 z3 z4 z5 z6 z7 z8 z9 z10 z11 z12 z13 z14 z15 : Rat} : z4=z0*z0→z5=z1*z1→z6=0→z7=z6+z5→z8=z2*z2→z9=z7+z8→z10=z3*z3→z11=z9+z10→z12=z4+z11→z13=z4+z5→z14=z13+z8→z15=z14+z10→(¬ (z12=0))→z12=z15 := by
 intro e4 e5 e6 e7 e8 e9 e10 e11 e12 e13 e14 e15 u0
 subst_vars; grind
theorem qT_f11 {z0 z1 z2 z3 z4 z5 z6 z7 z8 z9 z10 z11 z12 z13 z14 z15 : Rat} : z4=z0*z0→z5=z1*z1→z6=0→z7=z6+z5→z8=z2*z2→z9=z7+z8→z10=z3*z3→z11=z9+z10→z12=z4+z11→z13=z4+z5→z14=z13+z8→z15=z14+z10→(¬ (z12=0))→¬ (z15=0) := by
 intro e4 e5 e6 e7 e8 e9 e10 e11 e12 e13 e14 e15 u0
 subst_vars; grind
theorem qT_f12 {z0 z1 z2 z3 z4 z5 z6 z7 z8 z9 z10 z11 z12 z49 z50 z62 z63 z73 z85 z90 z91 z92 z93 z94 z95 z96 z97 z98 z107 z108 z117 z118 z127 z128 : Rat} : z4=z0*z0→z5=z1*z1→z6=0→z7=z6+z5→z8=z2*z2→z9=z7+z8→z10=z3*z3→z11=z9+z10→z12=z4+z11→z49=1→z50=z49*z0→z62=(-1)→z63=z62*z1→z73=z62*z2→z85=z62*z3→z90=z6-z1→z91=z6-z2→z92=z6-z3→z93=z0/z12→z94=z90/z12→z95=z91/z12→z96=z92/z12→z97=z50*z93→z98=z6+z97→z107=z63*z94→z108=z98+z107→z117=z73*z95→z118=z108+z117→z127=z85*z96→z128=z118+z127→(¬ (z12=0))→z128=z49 := by
 intro e4 e5 e6 e7 e8 e9 e10 e11 e12 e49 e50 e62 e63 e73 e85 e90 e91 e92 e93 e94 e95 e96 e97 e98 e107 e108 e117 e118 e127 e128 u0
 have n12 : z12 ≠ 0 := by grind
 have d93 : z93*z12=z0 := by rw [e93]; exact Rat.div_mul_cancel n12
 clear e93
 have d94 : z94*z12=z90 := by rw [e94]; exact Rat.div_mul_cancel n12
 clear e94
 have d95 : z95*z12=z91 := by rw [e95]; exact Rat.div_mul_cancel n12
 clear e95
 have d96 : z96*z12=z92 := by rw [e96]; exact Rat.div_mul_cancel n12
 clear e96
 subst_vars; grind
theorem qT_f13 {z0 z1 z2 z3 z4 z5 z6 z7 z8 z9 z10 z11 z12 z49 z50 z59 z62 z70 z85 z90 z91 z92 z93 z94 z95 z96 z99 z100 z105 z106 z119 z120 z125 z126 : Rat} : z4=z0*z0→z5=z1*z1→z6=0→z7=z6+z5→z8=z2*z2→z9=z7+z8→z10=z3*z3→z11=z9+z10→z12=z4+z11→z49=1→z50=z49*z0→z59=z49*z1→z62=(-1)→z70=z49*z2→z85=z62*z3→z90=z6-z1→z91=z6-z2→z92=z6-z3→z93=z0/z12→z94=z90/z12→z95=z91/z12→z96=z92/z12→z99=z50*z94→z100=z6+z99→z105=z59*z93→z106=z100+z105→z119=z70*z96→z120=z106+z119→z125=z85*z95→z126=z120+z125→(¬ (z12=0))→z126=z6 := by
 intro e4 e5 e6 e7 e8 e9 e10 e11 e12 e49 e50 e59 e62 e70 e85 e90 e91 e92 e93 e94 e95 e96 e99 e100 e105 e106 e119 e120 e125 e126 u0
 have n12 : z12 ≠ 0 := by grind
 have d93 : z93*z12=z0 := by rw [e93]; exact Rat.div_mul_cancel n12
 clear e93
 have d94 : z94*z12=z90 := by rw [e94]; exact Rat.div_mul_cancel n12
 clear e94
 have d95 : z95*z12=z91 := by rw [e95]; exact Rat.div_mul_cancel n12
 clear e95
 have d96 : z96*z12=z92 := by rw [e96]; exact Rat.div_mul_cancel n12
 clear e96
 subst_vars; grind
theorem qT_f14 {z0 z1 z2 z3 z4 z5 z6 z7 z8 z9 z10 z11 z12 z49 z50 z62 z63 z70 z80 z90 z91 z92 z93 z94 z95 z96 z101 z102 z111 z112 z113 z114 z123 z124 : Rat} : z4=z0*z0→z5=z1*z1→z6=0→z7=z6+z5→z8=z2*z2→z9=z7+z8→z10=z3*z3→z11=z9+z10→z12=z4+z11→z49=1→z50=z49*z0→z62=(-1)→z63=z62*z1→z70=z49*z2→z80=z49*z3→z90=z6-z1→z91=z6-z2→z92=z6-z3→z93=z0/z12→z94=z90/z12→z95=z91/z12→z96=z92/z12→z101=z50*z95→z102=z6+z101→z111=z63*z96→z112=z102+z111→z113=z70*z93→z114=z112+z113→z123=z80*z94→z124=z114+z123→(¬ (z12=0))→z124=z6 := by
 intro e4 e5 e6 e7 e8 e9 e10 e11 e12 e49 e50 e62 e63 e70 e80 e90 e91 e92 e93 e94 e95 e96 e101 e102 e111 e112 e113 e114 e123 e124 u0
 have n12 : z12 ≠ 0 := by grind
 have d93 : z93*z12=z0 := by rw [e93]; exact Rat.div_mul_cancel n12
 clear e93
 have d94 : z94*z12=z90 := by rw [e94]; exact Rat.div_mul_cancel n12
 clear e94
 have d95 : z95*z12=z91 := by rw [e95]; exact Rat.div_mul_cancel n12
 clear e95
 have d96 : z96*z12=z92 := by rw [e96]; exact Rat.div_mul_cancel n12
 clear e96
 subst_vars; grind
theorem qT_f15 {z0 z1 z2 z3 z4 z5 z6 z7 z8 z9 z10 z11 z12 z49 z50 z59 z62 z73 z80 z90 z91 z92 z93 z94 z95 z96 z103 z104 z109 z110 z115 z116 z121 z122 : Rat} : z4=z0*z0→z5=z1*z1→z6=0→z7=z6+z5→z8=z2*z2→z9=z7+z8→z10=z3*z3→z11=z9+z10→z12=z4+z11→z49=1→z50=z49*z0→z59=z49*z1→z62=(-1)→z73=z62*z2→z80=z49*z3→z90=z6-z1→z91=z6-z2→z92=z6-z3→z93=z0/z12→z94=z90/z12→z95=z91/z12→z96=z92/z12→z103=z50*z96→z104=z6+z103→z109=z59*z95→z110=z104+z109→z115=z73*z94→z116=z110+z115→z121=z80*z93→z122=z116+z121→(¬ (z12=0))→z122=z6 := by
 intro e4 e5 e6 e7 e8 e9 e10 e11 e12 e49 e50 e59 e62 e73 e80 e90 e91 e92 e93 e94 e95 e96 e103 e104 e109 e110 e115 e116 e121 e122 u0
 have n12 : z12 ≠ 0 := by grind
 have d93 : z93*z12=z0 := by rw [e93]; exact Rat.div_mul_cancel n12
 clear e93
 have d94 : z94*z12=z90 := by rw [e94]; exact Rat.div_mul_cancel n12
 clear e94
 have d95 : z95*z12=z91 := by rw [e95]; exact Rat.div_mul_cancel n12
 clear e95
 have d96 : z96*z12=z92 := by rw [e96]; exact Rat.div_mul_cancel n12
 clear e96
 subst_vars; grind
theorem qT_r0 : (QR (sx Tryz.prog qT_N [(0,12,0,1),(3,27,89,1),(3,46,87,1),(3,47,84,1),(3,48,82,1),(3,12,15,1),(0,15,0,1)] [] qT_L qT_C qT_Z (prC [11])) [(146,60),(91,61),(82,65)] 6 [] 3 qT_A [] 0).map (·.1)=some (kB true) := by kernel_rfl
theorem qT_r1 : (QR (sx Tryz.prog qT_N [(0,12,0,0),(3,27,89,1),(3,46,87,1),(3,47,84,1),(3,48,82,1),(3,12,15,1),(0,15,0,0),(4,128,49,1),(4,126,6,1),(4,124,6,1),(4,122,6,1)] [] qT_L qT_C qT_Z (prC [11])) [(146,60),(91,61),(82,65)] 6 [] 3 qT_A [] 0).map (·.1)=some (kB true) := by kernel_rfl
theorem Vy {a b : Prop} (x : a) (y : b) : a∧b := ⟨x,y⟩
theorem LL {H : List (Nat × Nat × Nat × Nat)} {K : List (FuncId × List AC)} {k : Nat} {q : Nat→Rat} {σ : Nat→ByteArray} {args : List AV} {vs : List Value} {w : World} (hr : (QR (sx Tryz.prog qT_N H K qT_L qT_C qT_Z (prC [11])) [(146,60),(91,61),(82,65)] k [] 3 args [] 0).map (·.1)=some (kB true)) (hσ : ∀ j,(σ j).size≤1048576) (hq : ∀ (a : Nat) nd,qT_N[a]? = some nd→q a=Zg σ q nd) (h0 : ∀ a,qT_N.length≤a→q a=0) (hH : Ww q H) (hp : Zf w) (hA : ∀ K,A2 (avOn (cOn (evS q σ) K (fun _ => none) w)) args vs) : Calls Tryz.prog 3 vs.toArray w fun e w' => Below w.heap.size w w'∧e=.returned (.bool true) :=
 XB k (YD hσ qT_wf qT_sz qT_lt qT_cn hq h0 hH) (by simp [XX]) (by kernel_rfl) hr hp (hA K)
theorem qT_walk {w : World} {gw gx gy gz hw hx hy hz : ByteArray}  (sgw : gw.size≤1048576) (sgx : gx.size≤1048576) (sgy : gy.size≤1048576) (sgz : gz.size≤1048576) (shw : hw.size≤1048576) (shx : hx.size≤1048576) (shy : hy.size≤1048576) (shz : hz.size≤1048576) (tab : Tab w) (mx : MaxL w) :
  Calls Tryz.prog 3 #[.agg #[.string gw,.string gx,.string gy,.string gz],.agg #[.string hw,.string hx,.string hy,.string hz]] w fun e w' => Below w.heap.size w w'∧e=.returned (.bool true) := by
 have hσ : ∀ j,(Io [gw,gx,gy,gz,hw,hx,hy,hz] j).size≤1048576 := WM (by simp [sgw,sgx,sgy,sgz,shw,shx,shy,shz])
 obtain ⟨q,hq,h0⟩ := Uw (Io [gw,gx,gy,gz,hw,hx,hy,hz]) qT_N qT_wf
 have hA : ∀ K,A2 (avOn (cOn (evS q (Io [gw,gx,gy,gz,hw,hx,hy,hz])) K (fun _ => none) w)) [(false,[(true,[.inr (2,0,0,0,0),.inr (2,1,0,0,0),.inr (2,2,0,0,0),.inr (2,3,0,0,0)])]),(false,[(true,[.inr (2,4,0,0,0),.inr (2,5,0,0,0),.inr (2,6,0,0,0),.inr (2,7,0,0,0)])])] [.agg #[.string gw,.string gx,.string gy,.string gz],.agg #[.string hw,.string hx,.string hy,.string hz]] := fun K => ⟨⟨⟨[.string gw,.string gx,.string gy,.string gz],rfl,rfl,rfl,rfl,rfl,trivial⟩,trivial⟩,⟨⟨[.string hw,.string hx,.string hy,.string hz],rfl,rfl,rfl,rfl,rfl,trivial⟩,trivial⟩,trivial⟩
 have E4 : q 4=q 0*q 0 := hq 4 _ rfl
 have E5 : q 5=q 1*q 1 := hq 5 _ rfl
 have E6 : q 6=0 := (hq 6 _ rfl).trans qT_c6
 have E7 : q 7=q 6+q 5 := hq 7 _ rfl
 have E8 : q 8=q 2*q 2 := hq 8 _ rfl
 have E9 : q 9=q 7+q 8 := hq 9 _ rfl
 have E10 : q 10=q 3*q 3 := hq 10 _ rfl
 have E11 : q 11=q 9+q 10 := hq 11 _ rfl
 have E12 : q 12=q 4+q 11 := hq 12 _ rfl
 have E13 : q 13=q 4+q 5 := hq 13 _ rfl
 have E14 : q 14=q 13+q 8 := hq 14 _ rfl
 have E15 : q 15=q 14+q 10 := hq 15 _ rfl
 have E20 : q 20=q 0*q 16 := hq 20 _ rfl
 have E21 : q 21=q 1*q 17 := hq 21 _ rfl
 have E22 : q 22=q 6+q 21 := hq 22 _ rfl
 have E23 : q 23=q 2*q 18 := hq 23 _ rfl
 have E24 : q 24=q 22+q 23 := hq 24 _ rfl
 have E25 : q 25=q 3*q 19 := hq 25 _ rfl
 have E26 : q 26=q 24+q 25 := hq 26 _ rfl
 have E27 : q 27=q 20 - q 26 := hq 27 _ rfl
 have E28 : q 28=q 17*q 0 := hq 28 _ rfl
 have E29 : q 29=q 18*q 0 := hq 29 _ rfl
 have E30 : q 30=q 19*q 0 := hq 30 _ rfl
 have E31 : q 31=q 1*q 16 := hq 31 _ rfl
 have E32 : q 32=q 2*q 16 := hq 32 _ rfl
 have E33 : q 33=q 3*q 16 := hq 33 _ rfl
 have E34 : q 34=q 28+q 31 := hq 34 _ rfl
 have E35 : q 35=q 29+q 32 := hq 35 _ rfl
 have E36 : q 36=q 30+q 33 := hq 36 _ rfl
 have E37 : q 37=q 2*q 19 := hq 37 _ rfl
 have E38 : q 38=q 3*q 18 := hq 38 _ rfl
 have E39 : q 39=q 37 - q 38 := hq 39 _ rfl
 have E40 : q 40=q 3*q 17 := hq 40 _ rfl
 have E41 : q 41=q 1*q 19 := hq 41 _ rfl
 have E42 : q 42=q 40 - q 41 := hq 42 _ rfl
 have E43 : q 43=q 1*q 18 := hq 43 _ rfl
 have E44 : q 44=q 2*q 17 := hq 44 _ rfl
 have E45 : q 45=q 43 - q 44 := hq 45 _ rfl
 have E46 : q 46=q 34+q 39 := hq 46 _ rfl
 have E47 : q 47=q 35+q 42 := hq 47 _ rfl
 have E48 : q 48=q 36+q 45 := hq 48 _ rfl
 have E49 : q 49=1 := (hq 49 _ rfl).trans qT_c49
 have E50 : q 50=q 49*q 0 := hq 50 _ rfl
 have E51 : q 51=q 50*q 16 := hq 51 _ rfl
 have E52 : q 52=q 6+q 51 := hq 52 _ rfl
 have E53 : q 53=q 50*q 17 := hq 53 _ rfl
 have E54 : q 54=q 6+q 53 := hq 54 _ rfl
 have E55 : q 55=q 50*q 18 := hq 55 _ rfl
 have E56 : q 56=q 6+q 55 := hq 56 _ rfl
 have E57 : q 57=q 50*q 19 := hq 57 _ rfl
 have E58 : q 58=q 6+q 57 := hq 58 _ rfl
 have E59 : q 59=q 49*q 1 := hq 59 _ rfl
 have E60 : q 60=q 59*q 16 := hq 60 _ rfl
 have E61 : q 61=q 54+q 60 := hq 61 _ rfl
 have E62 : q 62=(-1) := (hq 62 _ rfl).trans qT_c62
 have E63 : q 63=q 62*q 1 := hq 63 _ rfl
 have E64 : q 64=q 63*q 17 := hq 64 _ rfl
 have E65 : q 65=q 52+q 64 := hq 65 _ rfl
 have E66 : q 66=q 59*q 18 := hq 66 _ rfl
 have E67 : q 67=q 58+q 66 := hq 67 _ rfl
 have E68 : q 68=q 63*q 19 := hq 68 _ rfl
 have E69 : q 69=q 56+q 68 := hq 69 _ rfl
 have E70 : q 70=q 49*q 2 := hq 70 _ rfl
 have E71 : q 71=q 70*q 16 := hq 71 _ rfl
 have E72 : q 72=q 69+q 71 := hq 72 _ rfl
 have E73 : q 73=q 62*q 2 := hq 73 _ rfl
 have E74 : q 74=q 73*q 17 := hq 74 _ rfl
 have E75 : q 75=q 67+q 74 := hq 75 _ rfl
 have E76 : q 76=q 73*q 18 := hq 76 _ rfl
 have E77 : q 77=q 65+q 76 := hq 77 _ rfl
 have E78 : q 78=q 70*q 19 := hq 78 _ rfl
 have E79 : q 79=q 61+q 78 := hq 79 _ rfl
 have E80 : q 80=q 49*q 3 := hq 80 _ rfl
 have E81 : q 81=q 80*q 16 := hq 81 _ rfl
 have E82 : q 82=q 75+q 81 := hq 82 _ rfl
 have E83 : q 83=q 80*q 17 := hq 83 _ rfl
 have E84 : q 84=q 72+q 83 := hq 84 _ rfl
 have E85 : q 85=q 62*q 3 := hq 85 _ rfl
 have E86 : q 86=q 85*q 18 := hq 86 _ rfl
 have E87 : q 87=q 79+q 86 := hq 87 _ rfl
 have E88 : q 88=q 85*q 19 := hq 88 _ rfl
 have E89 : q 89=q 77+q 88 := hq 89 _ rfl
 have E90 : q 90=q 6 - q 1 := hq 90 _ rfl
 have E91 : q 91=q 6 - q 2 := hq 91 _ rfl
 have E92 : q 92=q 6 - q 3 := hq 92 _ rfl
 have E93 : q 93=q 0 / q 12 := hq 93 _ rfl
 have E94 : q 94=q 90 / q 12 := hq 94 _ rfl
 have E95 : q 95=q 91 / q 12 := hq 95 _ rfl
 have E96 : q 96=q 92 / q 12 := hq 96 _ rfl
 have E97 : q 97=q 50*q 93 := hq 97 _ rfl
 have E98 : q 98=q 6+q 97 := hq 98 _ rfl
 have E99 : q 99=q 50*q 94 := hq 99 _ rfl
 have E100 : q 100=q 6+q 99 := hq 100 _ rfl
 have E101 : q 101=q 50*q 95 := hq 101 _ rfl
 have E102 : q 102=q 6+q 101 := hq 102 _ rfl
 have E103 : q 103=q 50*q 96 := hq 103 _ rfl
 have E104 : q 104=q 6+q 103 := hq 104 _ rfl
 have E105 : q 105=q 59*q 93 := hq 105 _ rfl
 have E106 : q 106=q 100+q 105 := hq 106 _ rfl
 have E107 : q 107=q 63*q 94 := hq 107 _ rfl
 have E108 : q 108=q 98+q 107 := hq 108 _ rfl
 have E109 : q 109=q 59*q 95 := hq 109 _ rfl
 have E110 : q 110=q 104+q 109 := hq 110 _ rfl
 have E111 : q 111=q 63*q 96 := hq 111 _ rfl
 have E112 : q 112=q 102+q 111 := hq 112 _ rfl
 have E113 : q 113=q 70*q 93 := hq 113 _ rfl
 have E114 : q 114=q 112+q 113 := hq 114 _ rfl
 have E115 : q 115=q 73*q 94 := hq 115 _ rfl
 have E116 : q 116=q 110+q 115 := hq 116 _ rfl
 have E117 : q 117=q 73*q 95 := hq 117 _ rfl
 have E118 : q 118=q 108+q 117 := hq 118 _ rfl
 have E119 : q 119=q 70*q 96 := hq 119 _ rfl
 have E120 : q 120=q 106+q 119 := hq 120 _ rfl
 have E121 : q 121=q 80*q 93 := hq 121 _ rfl
 have E122 : q 122=q 116+q 121 := hq 122 _ rfl
 have E123 : q 123=q 80*q 94 := hq 123 _ rfl
 have E124 : q 124=q 114+q 123 := hq 124 _ rfl
 have E125 : q 125=q 85*q 95 := hq 125 _ rfl
 have E126 : q 126=q 120+q 125 := hq 126 _ rfl
 have E127 : q 127=q 85*q 96 := hq 127 _ rfl
 have E128 : q 128=q 118+q 127 := hq 128 _ rfl
 by_cases b12 : q 12=0
 ·
  have a_3_27_89 : q 27=q 89 := qT_f0 E6 E20 E21 E22 E23 E24 E25 E26 E27 E49 E50 E51 E52 E62 E63 E64 E65 E73 E76 E77 E85 E88 E89
  have a_3_46_87 : q 46=q 87 := qT_f1 E6 E28 E31 E34 E37 E38 E39 E46 E49 E50 E53 E54 E59 E60 E61 E62 E70 E78 E79 E85 E86 E87
  have a_3_47_84 : q 47=q 84 := qT_f2 E6 E29 E32 E35 E40 E41 E42 E47 E49 E50 E55 E56 E62 E63 E68 E69 E70 E71 E72 E80 E83 E84
  have a_3_48_82 : q 48=q 82 := qT_f3 E6 E30 E33 E36 E43 E44 E45 E48 E49 E50 E57 E58 E59 E62 E66 E67 E73 E74 E75 E80 E81 E82
  have a_3_12_15 : q 12=q 15 := qT_f4 E4 E5 E6 E7 E8 E9 E10 E11 E12 E13 E14 E15
  have b15 : q 15=0 := qT_f5 E4 E5 E6 E7 E8 E9 E10 E11 E12 E13 E14 E15 b12
  exact LL qT_r0 hσ hq h0 (Vy (hT b12) (Vy (hT a_3_27_89) (Vy (hT a_3_46_87) (Vy (hT a_3_47_84) (Vy (hT a_3_48_82) (Vy (hT a_3_12_15) (Vy (hT b15) trivial))))))) ⟨tab,mx⟩ hA
 ·
  have a_3_27_89 : q 27=q 89 := qT_f6 E4 E5 E6 E7 E8 E9 E10 E11 E12 E20 E21 E22 E23 E24 E25 E26 E27 E49 E50 E51 E52 E62 E63 E64 E65 E73 E76 E77 E85 E88 E89 b12
  have a_3_46_87 : q 46=q 87 := qT_f7 E4 E5 E6 E7 E8 E9 E10 E11 E12 E28 E31 E34 E37 E38 E39 E46 E49 E50 E53 E54 E59 E60 E61 E62 E70 E78 E79 E85 E86 E87 b12
  have a_3_47_84 : q 47=q 84 := qT_f8 E4 E5 E6 E7 E8 E9 E10 E11 E12 E29 E32 E35 E40 E41 E42 E47 E49 E50 E55 E56 E62 E63 E68 E69 E70 E71 E72 E80 E83 E84 b12
  have a_3_48_82 : q 48=q 82 := qT_f9 E4 E5 E6 E7 E8 E9 E10 E11 E12 E30 E33 E36 E43 E44 E45 E48 E49 E50 E57 E58 E59 E62 E66 E67 E73 E74 E75 E80 E81 E82 b12
  have a_3_12_15 : q 12=q 15 := qT_f10 E4 E5 E6 E7 E8 E9 E10 E11 E12 E13 E14 E15 b12
  have b15 : ¬ (q 15=0) := qT_f11 E4 E5 E6 E7 E8 E9 E10 E11 E12 E13 E14 E15 b12
  have a_4_128_49 : q 128=q 49 := qT_f12 E4 E5 E6 E7 E8 E9 E10 E11 E12 E49 E50 E62 E63 E73 E85 E90 E91 E92 E93 E94 E95 E96 E97 E98 E107 E108 E117 E118 E127 E128 b12
  have a_4_126_6 : q 126=q 6 := qT_f13 E4 E5 E6 E7 E8 E9 E10 E11 E12 E49 E50 E59 E62 E70 E85 E90 E91 E92 E93 E94 E95 E96 E99 E100 E105 E106 E119 E120 E125 E126 b12
  have a_4_124_6 : q 124=q 6 := qT_f14 E4 E5 E6 E7 E8 E9 E10 E11 E12 E49 E50 E62 E63 E70 E80 E90 E91 E92 E93 E94 E95 E96 E101 E102 E111 E112 E113 E114 E123 E124 b12
  have a_4_122_6 : q 122=q 6 := qT_f15 E4 E5 E6 E7 E8 E9 E10 E11 E12 E49 E50 E59 E62 E73 E80 E90 E91 E92 E93 E94 E95 E96 E103 E104 E109 E110 E115 E116 E121 E122 b12
  exact LL qT_r1 hσ hq h0 (Vy (hF b12) (Vy (hT a_3_27_89) (Vy (hT a_3_46_87) (Vy (hT a_3_47_84) (Vy (hT a_3_48_82) (Vy (hT a_3_12_15) (Vy (hF b15) (Vy (hT a_4_128_49) (Vy (hT a_4_126_6) (Vy (hT a_4_124_6) (Vy (hT a_4_122_6) trivial))))))))))) ⟨tab,mx⟩ hA
end Go.Proofs.YthagmklephpnhaaGreatDoor
