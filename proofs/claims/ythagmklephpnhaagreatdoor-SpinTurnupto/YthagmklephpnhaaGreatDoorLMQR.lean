/- Part 13 of the walks and of the mathematics under them: VP VPC VY VSZ VSA CFspun PLY VPD VPE MQR. -/
import Derived.Test.YthagmklephpnhaaGreatDoorA2
import Derived.Test.YthagmklephpnhaaGreatDoorA12
set_option maxHeartbeats 16000000
set_option maxRecDepth 100000
/- VP -/
namespace Cx
open Go Go.RowKit
abbrev Hs := List (Nat × Nat × Nat × Nat)
def Sx.plus (S : Sx) (X : Hs) : Sx := { S with H := X ++ S.H }
abbrev Ask := Nat × Nat × Nat × Nat
def JK (a : Nat) : Ask := (0,a,0,a)
def Jn (S : Sx) : Ask→Bool
 | (k,a,b,d) => (Nat.beq k 0 && (Nat.beq b 0 && Nat.beq d a)) || (Nat.beq k 3 && (match S.N[d]? with
  | some (op,ar) => Nat.beq op 3 && OB ar [a,b]
  | none => false))
def XP (S : Sx) (a b : Nat) : List Nat→List Nat→Option (List Ask)
 | c :: l,d :: m => (S.nd 4 [a,d]).bind fun x => (S.nd 4 [c,b]).bind fun y => (S.nd 3 [x,y]).bind fun z => (XP S a b l m).map fun r => (3,x,y,z) :: r
 | _,_ => some []
def Vq (S : Sx) : List Nat→List Nat→List Nat→List Nat→Option (List Ask)
 | pl,pm,a :: l,b :: m => (XP S a b pl pm).bind fun r => (Vq S (pl ++ [a]) (pm ++ [b]) l m).map fun t => r ++ t
 | _,_,_,_ => some []
def Wo (S : Sx) : List Nat→List Nat→Option (List Ask)
 | a :: l,b :: m => (S.nd 3 [a,b]).bind fun d => (Wo S l m).map fun r => (3,a,b,d) :: r
 | _,_ => some []
def asks (S : Sx) (h : List HB) (code : Nat) (args : List AV) : Option (List Ask) :=
 match code with
 | 60 => arg1 (fun x => (asA x).bind fun cs => (UO S cs).map fun l => l.map JK) args
 | 61 => arg1 (fun x => (YO h 1 x).bind fun p => (QO (acX 0) p.2).map fun l => l.map JK) args
 | 62 => YN (fun x y => (YO h 1 x).bind fun p => (QO (acX 0) p.2).bind fun l => (YO h 1 y).bind fun p' => (QO (acX 0) p'.2).bind fun m => Vq S [] [] l m) args
 | 63 => arg1 (fun x => (asA x).bind fun cs => (QO ZZ cs).bind fun l => (ON S l).map fun xs => xs.map JK) args
 | 69 => arg1 (fun x => (asA x).bind fun cs => (QO (YZ S) cs).map fun l => l.map JK) args
 | 67 => arg1 (fun x => (asA x).bind fun cs => (QO (YZ S) (cs.take 3)).map fun l => l.map JK) args
 | 65 => arg1 (fun x => (asA x).bind fun cs => (QO (acX 0) cs).map fun l => l.map JK) args
 | 66 => YN (fun x y => (asA x).bind fun cs => (asA y).bind fun ds => (QO (acX 0) cs).bind fun l => (QO (acX 0) ds).bind fun m => Wo S l m) args
 | 64 => arg1 (fun x => (asA x).bind fun cs => (UO S cs).map fun l => (l.take 5).map JK) args
 | 68 => YN (fun x _ => (asA x).bind fun cs => (UO S cs).map fun l => (l.take 5).map JK) args
 | _ => none
def ZK : List Ask→Hs→List Hs
 | [],_ => []
 | (k,a,b,_) :: l,X => ((k,a,b,0) :: X) :: ZK l ((k,a,b,1) :: X)
def YM : List Ask→Hs→Hs
 | [],X => X
 | (k,a,b,_) :: l,X => YM l ((k,a,b,1) :: X)
def Zc (S : Sx) (call : ZG) : ZG := fun f args h nx => S.P.funcs[f]?.bind fun fn => fn.body.bind fun c => ifO (Nat.ble args.length fn.ntmps) ((WU S call fn.ntmps c { tm := Ke 0 args,h := h,nx := nx }).bind fun r =>
   ifO (Nat.ble r.1 1) ((QO (Df S.P r.2) fn.results.toList).map fun xs => (MR xs,r.2.h,r.2.nx)))
abbrev XC := Option (AV × List HB × Nat)
def acZ : AC→Option Nat
 | .inr (k,j,a,x,y) => ifO (Nat.beq k 0 && (Nat.beq j 7 && (Nat.beq x 0 && Nat.beq y 0))) (some a)
 | _ => none
def YY (S : Sx) (v : AV) : AV := match (asC v).bind (acX 4) with
 | some n => (match S.N[n]? with
  | some (_,[a,b]) => (match S.nd 4 [a,b],S.kn 0 a 0 with
   | some m,some r => bif Nat.beq m n && !Nat.beq 1 r then v1 (.inr (0,7,b,0,0)) else v
   | _,_ => v)
  | _ => v)
 | none => v
def Jd (S : Sx) (r : XC) : XC := r.map fun p => (YY S p.1,p.2)
def UG (v : AV) : Option (Bool ⊕ Nat) := match asB v with
 | some b => some (.inl b)
 | none => ((asC v).bind acZ).map .inr
def Ox : Bool ⊕ Nat→AV
 | .inl b => kB b
 | .inr a => v1 (.inr (0,7,a,0,0))
def Vp : Bool ⊕ Nat→Bool ⊕ Nat→Bool
 | .inl b,.inl c => b == c
 | .inr a,.inr b => Nat.beq a b
 | _,_ => false
def Vh (h : List HB) (b : Bool ⊕ Nat) (hi : Nat) : XC→Bool
 | some (v,h',nx') => (match UG v with
  | some c => Vp b c
  | none => false) && (Nat.ble nx' hi && h.all fun x => h'.any fun y => Nat.beq y.1 x.1 && Rf x.2 y.2)
 | none => false
def UF : Nat→List XC→Nat
 | m,[] => m
 | m,some p :: rs => UF (bif Nat.ble m p.2.2 then p.2.2 else m) rs
 | m,none :: rs => UF m rs
def Xe (h : List HB) (nx : Nat) (rs : List XC) : XC :=
 match rs with
 | some p :: _ => (UG p.1).bind fun b => ifO (rs.all (Vh h b (UF nx rs))) (some (Ox b,h,UF nx rs))
 | _ => none
def Yk (S : Sx) (X : Hs) (h : List HB) (c : Nat) (args : List AV) : Option (List Ask × Nat) :=
 (asks (S.plus X) h c args).bind fun l => ifO (l.all (Jn S)) ((sqN S (l.map (·.2.2.2))).bind fun s => ((S.plus X).kn 0 s 0).map fun r => (l,r))
theorem Jp {S : Sx} {X : Hs} {h : List HB} {c : Nat} {args : List AV} {l : List Ask} {r : Nat} (e : Yk S X h c args=some (l,r)) : (∀ a ∈ l,Jn S a=true)∧∃ s,sqN S (l.map (·.2.2.2))=some s∧(S.plus X).kn 0 s 0=some r := by
 unfold Yk at e
 simp only [Option.bind_eq_some_iff,ifO_some,Option.map_eq_some_iff,List.all_eq_true,Prod.mk.injEq] at e
 obtain ⟨l',_,h1,s,h2,r',h3,rfl,rfl⟩ := e
 exact ⟨h1,s,h2,h3⟩
def QR (S : Sx) (cs : List (FuncId × Nat)) : Nat→Hs→ZG
 | 0,_,_,_,_,_ => none
 | n+1,X,f,args,h,nx => match Un f cs with
  | none => Zc (S.plus X) (QR S cs n X) f args h nx
  | some c => match Yk S X h c args with
   | none => Zc (S.plus X) (QR S cs n X) f args h nx
   | some (l,r) => bif Nat.beq 1 r then Zc (S.plus (YM l X)) (QR S cs n (YM l X)) f args h nx
    else Xe h nx ((ZK l X).map fun X' => Jd (S.plus X') (Zc (S.plus X') (QR S cs n X') f args h nx))
section
variable {S : Sx} {E : Ev S.nb} {w0 : World}
theorem XE {call : ZG} (hm : S.P.follows .mixedOrders=true) (N : Knows S E) (hP : Jq S E w0) (hC : QY S E w0 call) : QY S E w0 (Zc S call) := fun f args h nx p hp γ w vs hi hA hb hlt hf => by
 unfold Zc at hp
 simp only [Option.bind_eq_some_iff,ifO_some,Option.map_eq_some_iff,Nat.ble_eq] at hp
 obtain ⟨fn,h1,c,h2,h3,⟨e,s'⟩,h4,h5,xs,h6,rfl⟩ := hp
 dsimp only at h5 h6
 rcases (show e=0 ∨ e=1 by omega) with rfl | rfl
 all_goals
  obtain ⟨_,_,r⟩ := YC hm N hP hC c _ _ _ h4
  refine calls_of_wp h1 h2 (r γ _ w _ ⟨hi,fun t v q => ?_,hb,hlt,?_,rfl⟩ hf fun a' w' γ' hef hs => ?_)
  ·obtain ⟨_,q2⟩ := Ud q
   rw [Nat.sub_zero] at q2
   obtain ⟨u,hu,hv⟩ := hA.get q2
   have hlt : t < vs.length := (List.getElem?_eq_some_iff.1 hu).1
   have : (vs.toArray ++ Array.replicate (fn.ntmps - vs.toArray.size) undef).getD t undef=u := by
    rw [Array.getD_eq_getD_getElem?,Array.getElem?_append_left (by simpa using hlt)]
    simp [hu]
   show avOn _ v ((vs.toArray ++ Array.replicate (fn.ntmps - vs.toArray.size) undef).getD t undef)
   rw [this]
   exact hv
  ·have := hA.len
   simp
   omega
  ·obtain ⟨v,hv,hx⟩ := YH hs h6
   exact ⟨hs.df,v,hv,v,γ',rfl,hef,hx,hs.bx⟩
theorem Ov {v : AV} {b : Bool} (h : asB v=some b) : v=kB b := by
 unfold asB at h
 rw [Option.bind_eq_some_iff] at h
 obtain ⟨c,h1,h2⟩ := h
 unfold asC at h1
 split at h1
 ·cases h1
  unfold acB at h2
  split at h2
  ·cases h2
   rfl
  ·cases h2
 ·cases h1
theorem UI {v : AV} {k : Bool ⊕ Nat} (h : UG v=some k) : v=Ox k := by
 unfold UG at h
 split at h
 ·rename_i b hb
  cases h
  exact Ov hb
 ·rw [Option.map_eq_some_iff] at h
  obtain ⟨a,h,rfl⟩ := h
  rw [Option.bind_eq_some_iff] at h
  obtain ⟨c,h1,h2⟩ := h
  unfold asC at h1
  split at h1
  ·cases h1
   unfold acZ at h2
   split at h2
   ·rw [ifO_some,Bool.and_eq_true,Bool.and_eq_true,Bool.and_eq_true,Nat.beq_eq,Nat.beq_eq,Nat.beq_eq,Nat.beq_eq] at h2
    obtain ⟨⟨rfl,rfl,rfl,rfl⟩,h3⟩ := h2
    cases h3
    rfl
   ·cases h2
  ·cases h1
theorem YV {a b : Bool ⊕ Nat} (h : Vp a b=true) : a=b := by
 unfold Vp at h
 split at h
 ·rename_i x y
  have : x=y := by simpa using h
  rw [this]
 ·rw [Nat.beq_eq] at h
  rw [h]
 ·cases h
theorem Ya (q : Rat) : Js q=0 ↔ q=0 := by
 unfold Js
 split
 ·rename_i hlt
  constructor
  ·intro q; cases q
  ·intro q; rw [q] at hlt; exact absurd hlt (by decide)
 ·split <;> simp_all
theorem Va (N : Knows S E) {γ : Nat→Option Nat} {w : World} {v : AV} {r : Value} (h : avOn (cOn E S.K γ w) v r) : avOn (cOn E S.K γ w) (YY S v) r := by
 unfold YY
 split
 ·rename_i n hn
  rw [Option.bind_eq_some_iff] at hn
  obtain ⟨c,h1,h2⟩ := hn
  split
  ·split
   ·rename_i a b _ _ _ m r' hm hr
    cases e : (Nat.beq m n && !Nat.beq 1 r') with
    | true =>
     rw [Bool.and_eq_true,Nat.beq_eq,Bool.not_eq_true'] at e
     obtain ⟨rfl,e2⟩ := e
     have ez := (N.x4 _ _ _).1 (YG h2 (QU h1 h))
     refine Zn ((N.x7 _ _ _).2 ⟨_,ez,?_⟩)
     have hz : ¬ E.q a=0 := fun q => by rw [(N.k0 a r' hr).2 q] at e2; cases e2
     rw [Ya,N.k7 _ _ _ hm]
     constructor
     ·exact fun q => (Rat.mul_eq_zero.1 q).resolve_left hz
     ·intro q
      rw [q,Rat.mul_zero]
    | false => exact h
   ·exact h
  ·exact h
 ·exact h
theorem Yy {X : Hs} {call : ZG} (N : Knows (S.plus X) E) (hC : QY S E w0 call) : QY S E w0 (fun f args h nx => Jd (S.plus X) (call f args h nx)) := fun f args h nx p hp => by
 replace hp : Jd (S.plus X) (call f args h nx)=some p := hp
 unfold Jd at hp
 rw [Option.map_eq_some_iff] at hp
 obtain ⟨p0,hp0,rfl⟩ := hp
 intro γ w vs hi hA hb hlt hf
 refine (hC f args h nx p0 hp0 γ w vs hi hA hb hlt hf).mono ?_
 rintro _ w' ⟨r',γ',rfl,hef,hv,hx⟩
 exact ⟨r',γ',rfl,hef,Va (S := S.plus X) N hv,hx⟩
theorem Ju {h : List HB} {b : Bool ⊕ Nat} {hi : Nat} {r : XC} (hr : Vh h b hi r=true) : ∃ h' nx',r=some (Ox b,h',nx')∧nx'≤hi∧∀ x ∈ h,x ∈ h' := by
 unfold Vh at hr
 split at hr
 ·rename_i v h' nx'
  rw [Bool.and_eq_true,Bool.and_eq_true,Nat.ble_eq,List.all_eq_true] at hr
  obtain ⟨h1,h2,h3⟩ := hr
  refine ⟨h',nx',?_,h2,fun x hx => ?_⟩
  ·split at h1
   ·rename_i c hc
    rw [UI hc,YV h1]
   ·cases h1
  ·have := h3 x hx
   rw [List.any_eq_true] at this
   obtain ⟨y,hy,e⟩ := this
   rw [Bool.and_eq_true,Nat.beq_eq] at e
   have : x=y := Prod.ext e.1.symm (Yx e.2)
   rw [this]
   exact hy
 ·cases hr
variable {T : Hs→Prop} {z : Nat→Prop}
def Zu (S : Sx) (T : Hs→Prop) (z : Nat→Prop) : Prop := ∀ X,T X→∀ a,Jn S a=true→(z a.2.2.2→T ((a.1,a.2.1,a.2.2.1,1) :: X))∧(¬ z a.2.2.2→T ((a.1,a.2.1,a.2.2.1,0) :: X))
theorem ZE (hk : Zu S T z) : ∀ {l : List Ask} {X : Hs},T X→(∀ a ∈ l,Jn S a=true)→(∀ a ∈ l,z a.2.2.2)→T (YM l X)
 | [],_,h,_,_ => h
 | (k,a,b,d) :: l,X,h,ho,hz => ZE (l := l) hk ((hk X h (k,a,b,d) (ho _ List.mem_cons_self)).1 (hz _ List.mem_cons_self)) (fun a ha => ho a (List.mem_cons_of_mem _ ha)) (fun a ha => hz a (List.mem_cons_of_mem _ ha))
theorem Zm (hk : Zu S T z) : ∀ {l : List Ask} {X : Hs},T X→(∀ a ∈ l,Jn S a=true)→(∃ a ∈ l,¬ z a.2.2.2)→∃ X' ∈ ZK l X,T X'
 | [],_,_,_,⟨_,h,_⟩ => by cases h
 | (k,a,b,d) :: l,X,h,ho,hz => by
  by_cases e : z d
  ·obtain ⟨X',h1,h2⟩ := Zm (l := l) hk ((hk X h (k,a,b,d) (ho _ List.mem_cons_self)).1 e) (fun a ha => ho a (List.mem_cons_of_mem _ ha)) (by
    obtain ⟨c,hc,hn⟩ := hz
    rcases List.mem_cons.1 hc with rfl | hc
    ·exact (hn e).elim
    ·exact ⟨c,hc,hn⟩)
   exact ⟨X',List.mem_cons_of_mem _ h1,h2⟩
  ·exact ⟨_,List.mem_cons_self,(hk X h (k,a,b,d) (ho _ List.mem_cons_self)).2 e⟩
theorem JJ {cs : List (FuncId × Nat)} (hm : S.P.follows .mixedOrders=true) (hN : ∀ X,T X→Knows (S.plus X) E) (hP : ∀ X,T X→Jq (S.plus X) E w0) (hk : Zu S T z)
  (hs : ∀ X,T X→∀ l s r,sqN S l=some s→(S.plus X).kn 0 s 0=some r→(Nat.beq 1 r=true→∀ d ∈ l,z d)∧(Nat.beq 1 r=false→∃ d ∈ l,¬ z d)) : ∀ n X,T X→QY S E w0 (QR S cs n X)
 | 0,_,_ => fun _ _ _ _ _ h => by cases h
 | n+1,X,hX => fun f args h nx p hp => by
  have body : ∀ Y,T Y→QY S E w0 (Zc (S.plus Y) (QR S cs n Y)) := fun Y hY => XE (S := S.plus Y) hm (hN Y hY) (hP Y hY) (JJ hm hN hP hk hs n Y hY)
  unfold QR at hp
  split at hp
  ·exact body X hX f args h nx p hp
  ·split at hp
   ·exact body X hX f args h nx p hp
   rename_i l r hk'
   obtain ⟨hl,s,h1,h2⟩ := Jp hk'
   have h3 := hp
   obtain ⟨a1,a0⟩ := hs X hX _ s r h1 h2
   cases e : Nat.beq 1 r with
   | true =>
    rw [e] at h3
    exact body _ (ZE hk hX hl fun a ha => a1 e _ (List.mem_map_of_mem ha)) f args h nx p h3
   | false =>
    rw [e] at h3
    obtain ⟨d,hd,hz⟩ := a0 e
    obtain ⟨a,ha,rfl⟩ := List.mem_map.1 hd
    obtain ⟨X',m1,m2⟩ := Zm hk hX hl ⟨a,ha,hz⟩
    replace h3 : Xe h nx ((ZK l X).map fun X' => Jd (S.plus X') (Zc (S.plus X') (QR S cs n X') f args h nx))=some p := h3
    unfold Xe at h3
    split at h3
    ·rename_i p0 rs hrs
     rw [Option.bind_eq_some_iff] at h3
     obtain ⟨b,hb,h4⟩ := h3
     rw [ifO_some,List.all_eq_true] at h4
     obtain ⟨h5,h6⟩ := h4
     cases h6
     obtain ⟨h',nx',q1,q2,q3⟩ := Ju (h5 _ (List.mem_map_of_mem m1))
     intro γ w vs hi hA hb hlt hf
     refine (Yy (hN X' m2) (body X' m2) f args h nx _ q1 γ w vs hi hA hb hlt fun b g1 g2 => hf b g1 (Nat.lt_of_lt_of_le g2 q2)).mono ?_
     rintro _ w' ⟨r',γ',rfl,hef,hv,hx⟩
     exact ⟨r',γ',rfl,hef.wide (Nat.le_refl _) q2,hv,fun x hh => hx x (q3 x hh)⟩
    ·cases h3
end
end Cx
/- VPC -/
namespace Go.Proofs.YthagmklephpnhaaGreatDoor
open Cx Go Go.RowKit
section
variable {N : List Nd} {H : List (Nat × Nat × Nat × Nat)} {K : List (FuncId × List AC)} {L C : List (List Nat × Nat)} {Z : List Nat} {q : Nat→Rat} {σ : Nat→ByteArray} {w0 : World} {cl : List FuncId} {cs pr : List (FuncId × Nat)}
theorem Qm {k a b k' a' b' r' : Nat} {r : Nat} (h : Ji k a b ((k',a',b',r') :: H)=some r) : (k=k'∧a=a'∧b=b'∧r=r') ∨ Ji k a b H=some r := by
 unfold Ji at h
 cases e : (Nat.beq k k' && (Nat.beq a a' && Nat.beq b b')) with
 | true =>
  rw [e] at h
  simp only [Bool.and_eq_true,Nat.beq_eq] at e
  exact Or.inl ⟨e.1,e.2.1,e.2.2,(Option.some.inj h).symm⟩
 | false =>
  rw [e] at h
  exact Or.inr h
theorem Hy.add0 (Y : Hy N H L C Z q σ) {a r : Nat} (h : Nat.beq 1 r=true ↔ q a=0) : Hy N ((0,a,0,r) :: H) L C Z q σ where
 nat := Y.nat
 qs := Y.qs
 zs := Y.zs
 par := Y.par
 lit := Y.lit
 k0 := fun a' r' g => by
  rcases Qm g with ⟨_,e1,_,e2⟩ | g
  ·rw [e1,e2]
   exact h
  ·exact Y.k0 a' r' g
 k1 := fun a' r' g => by
  rcases Qm g with ⟨e,_⟩ | g
  ·cases e
  ·exact Y.k1 a' r' g
 k2 := fun a' r' g => by
  rcases Qm g with ⟨e,_⟩ | g
  ·cases e
  ·exact Y.k2 a' r' g
 k4 := fun l a' b' r' g1 g => by
  rcases Qm g with ⟨e,_⟩ | g
  ·cases e
  ·exact Y.k4 l a' b' r' g1 g
 k3 := fun a' b' r' g => by
  rcases Qm g with ⟨e,_⟩ | g
  ·cases e
  ·exact Y.k3 a' b' r' g
 k6 := fun a' b' r' g => by
  rcases Qm g with ⟨e,_⟩ | g
  ·cases e
  ·exact Y.k6 a' b' r' g
 k5 := fun a' r' g => by
  rcases Qm g with ⟨e,_⟩ | g
  ·cases e
  ·exact Y.k5 a' r' g
theorem Hy.add3 (Y : Hy N H L C Z q σ) {a b r : Nat} (h : Nat.beq 1 r=true ↔ q a=q b) : Hy N ((3,a,b,r) :: H) L C Z q σ where
 nat := Y.nat
 qs := Y.qs
 zs := Y.zs
 par := Y.par
 lit := Y.lit
 k0 := fun a' r' g => by
  rcases Qm g with ⟨e,_⟩ | g
  ·cases e
  ·exact Y.k0 a' r' g
 k1 := fun a' r' g => by
  rcases Qm g with ⟨e,_⟩ | g
  ·cases e
  ·exact Y.k1 a' r' g
 k2 := fun a' r' g => by
  rcases Qm g with ⟨e,_⟩ | g
  ·cases e
  ·exact Y.k2 a' r' g
 k4 := fun l a' b' r' g1 g => by
  rcases Qm g with ⟨e,_⟩ | g
  ·cases e
  ·exact Y.k4 l a' b' r' g1 g
 k3 := fun a' b' r' g => by
  rcases Qm g with ⟨_,e1,e2,e3⟩ | g
  ·rw [e1,e2,e3]
   exact h
  ·exact Y.k3 a' b' r' g
 k6 := fun a' b' r' g => by
  rcases Qm g with ⟨e,_⟩ | g
  ·cases e
  ·exact Y.k6 a' b' r' g
 k5 := fun a' r' g => by
  rcases Qm g with ⟨e,_⟩ | g
  ·cases e
  ·exact Y.k5 a' r' g
theorem XF : Zu (sx Tryz.prog N H K L C Z pr) (fun X => Hy N (X ++ H) L C Z q σ) (fun d => q d=0) := fun X Y a ha => by
 obtain ⟨k,a,b,d⟩ := a
 have t1 : Nat.beq 1 1=true := rfl
 have t0 : Nat.beq 1 0 ≠ true := fun h => by cases h
 unfold Jn at ha
 rw [Bool.or_eq_true] at ha
 rcases ha with ha | ha
 ·simp only [Bool.and_eq_true,Nat.beq_eq] at ha
  obtain ⟨rfl,rfl,rfl⟩ := ha
  exact ⟨fun h => Hy.add0 Y ⟨fun _ => h,fun _ => t1⟩,fun h => Hy.add0 Y ⟨fun g => (t0 g).elim,fun g => (h g).elim⟩⟩
 ·rw [Bool.and_eq_true,Nat.beq_eq] at ha
  obtain ⟨rfl,hb⟩ := ha
  split at hb
  ·rename_i op ar hn
   rw [Bool.and_eq_true,Nat.beq_eq] at hb
   obtain ⟨rfl,hb⟩ := hb
   have e := Vc hb
   subst e
   have hv : q d=q a - q b := Y.nat d _ hn
   have h2 : q d=0 ↔ q a=q b := by
    rw [hv]
    constructor <;> intro h <;> grind
   exact ⟨fun h => Hy.add3 Y ⟨fun _ => h2.1 h,fun _ => t1⟩,fun h => Hy.add3 Y ⟨fun g => (t0 g).elim,fun g => (h (h2.2 g)).elim⟩⟩
  ·cases hb
theorem Ve (y : Rat) : 0≤y*y := by
 by_cases h : y=0
 ·rw [h,Rat.zero_mul]
  exact Rat.le_refl
 ·exact Rat.le_of_lt (OG h)
theorem OK {x y : Rat} (hx : 0≤x) : x+y*y=0 ↔ x=0∧y=0 := by
 constructor
 ·intro h
  have h2 := Ve y
  have h3 : x=0 := by grind
  refine ⟨h3,?_⟩
  have : y*y=0 := by grind
  rcases Rat.mul_eq_zero.1 this with g | g <;> exact g
 ·rintro ⟨rfl,rfl⟩
  grind
theorem XL {H' : List (Nat × Nat × Nat × Nat)} (Y : Hy N H' L C Z q σ) : ∀ {l : List Nat} {s t : Nat},sqF (sx Tryz.prog N H K L C Z pr) s l=some t→0≤q s→0≤q t∧(q t=0 ↔ q s=0∧∀ d ∈ l,q d=0)
 | [],s,t,h,hs => by
  cases h
  exact ⟨hs,fun e => ⟨e,fun d hd => by cases hd⟩,fun e => e.1⟩
 | a :: l,s,t,h,hs => by
  unfold sqF at h
  simp only [Option.bind_eq_some_iff] at h
  obtain ⟨b,h1,c,h2,h3⟩ := h
  have e1 : q b=q a*q a := Hy.nd (H := H') (K := K) (pr := pr) Y h1
  have e2 : q c=q s+q b := Hy.nd (H := H') (K := K) (pr := pr) Y h2
  have n := Ve (q a)
  obtain ⟨g1,g2⟩ := XL Y h3 (by grind)
  refine ⟨g1,g2.trans ?_⟩
  have e3 := OK (y := q a) hs
  rw [e2,e1,e3]
  constructor
  ·rintro ⟨⟨x,y⟩,z⟩
   refine ⟨x,fun d hd => ?_⟩
   rcases List.mem_cons.1 hd with rfl | hd
   ·exact y
   ·exact z d hd
  ·rintro ⟨x,y⟩
   exact ⟨⟨x,y a List.mem_cons_self⟩,fun d hd => y d (List.mem_cons_of_mem _ hd)⟩
theorem Yz {H' : List (Nat × Nat × Nat × Nat)} (Y : Hy N H' L C Z q σ) {l : List Nat} {s : Nat} (h : sqN (sx Tryz.prog N H K L C Z pr) l=some s) : q s=0 ↔ ∀ d ∈ l,q d=0 := by
 unfold sqN at h
 split at h
 ·cases h
 ·rename_i a l
  rw [Option.bind_eq_some_iff] at h
  obtain ⟨b,h1,h2⟩ := h
  have e1 : q b=q a*q a := Hy.nd (H := H') (K := K) (pr := pr) Y h1
  have n := Ve (q a)
  obtain ⟨_,g⟩ := XL Y h2 (by grind)
  rw [g,e1]
  constructor
  ·rintro ⟨x,y⟩ d hd
   rcases List.mem_cons.1 hd with rfl | hd
   ·rcases Rat.mul_eq_zero.1 x with x | x <;> exact x
   ·exact y d hd
  ·intro y
   refine ⟨?_,fun d hd => y d (List.mem_cons_of_mem _ hd)⟩
   rw [y a List.mem_cons_self,Rat.zero_mul]
theorem Yg {f : FuncId} {args : List AV} {vs : List Value} {k : Nat} {p : List HB × Nat} {b : Bool} (Y : Hy N H L C Z q σ) (hm : (Tryz.prog).follows .mixedOrders=true) {w : World} (hP : ∀ H',Hy N H' L C Z q σ→Jq (sx Tryz.prog N H' K L C Z pr) (evS q σ) w) (hr : QR (sx Tryz.prog N H K L C Z pr) cs k [] f args [] 0=some (kB b,p))
  (hA : A2 (avOn (cOn (evS q σ) K (fun _ => none) w)) args vs) : Calls Tryz.prog f vs.toArray w fun e w' => Below w.heap.size w w'∧e=.returned (.bool b) := by
 refine (JJ (S := sx Tryz.prog N H K L C Z pr) (E := evS q σ) (w0 := w) (T := fun X => Hy N (X ++ H) L C Z q σ) (z := fun d => q d=0) hm (fun X hX => TJ hX) (fun X hX => hP _ hX) XF ?_ k [] Y f args [] 0 (kB b,p) hr (fun _ => none) w vs ⟨Below.refl _ _,(fun _ _ h => by cases h)⟩ hA (fun x hx => by cases hx) (fun x hx => by cases hx) (fun _ _ _ => rfl)).mono ?_
 ·intro X hX l s r h1 h2
  have e := hX.k0 s r h2
  have g := Yz hX h1
  refine ⟨fun h => g.1 (e.1 h),fun h => ?_⟩
  have hn : ¬ ∀ d ∈ l,q d=0 := fun q' => by
   rw [e.2 (g.2 q')] at h
   cases h
  simpa using hn
 ·rintro _ w' ⟨r,γ',rfl,hef,hv,_⟩
  exact ⟨hef.wi.bel,by rw [show r=.bool b from (QU (v := kB b) (c := .inl (.bool b)) rfl hv).1]⟩
theorem Yc {f : FuncId} {args : List AV} {vs : List Value} {k : Nat} {p : List HB × Nat} {b : Bool} (Y : Hy N H L C Z q σ) (hc : ∀ f ∈ cl,Closed f) (hm : (Tryz.prog).follows .mixedOrders=true) (hr : QR (sx Tryz.prog N H K L C Z (prC cl)) cs k [] f args [] 0=some (kB b,p)) {w : World} (hp : Zf w)
  (hA : A2 (avOn (cOn (evS q σ) K (fun _ => none) w)) args vs) : Calls Tryz.prog f vs.toArray w fun e w' => Below w.heap.size w w'∧e=.returned (.bool b) := Yg Y hm (fun _ Y' => Ou Y' hp hc) hr hA
theorem XB {f : FuncId} {args : List AV} {vs : List Value} (k : Nat) (Y : Hy N H L C Z q σ) (hc : ∀ f ∈ cl,Closed f) (hm : (Tryz.prog).follows .mixedOrders=true) (hr : (QR (sx Tryz.prog N H K L C Z (prC cl)) cs k [] f args [] 0).map (·.1)=some (kB true)) {w : World} (hp : Zf w)
  (hA : A2 (avOn (cOn (evS q σ) K (fun _ => none) w)) args vs) : Calls Tryz.prog f vs.toArray w fun e w' => Below w.heap.size w w'∧e=.returned (.bool true) := by
 rw [Option.map_eq_some_iff] at hr
 obtain ⟨⟨v,p⟩,h1,h2⟩ := hr
 dsimp only at h2
 subst h2
 exact Yc Y hc hm h1 hp hA
end
end Go.Proofs.YthagmklephpnhaaGreatDoor
/- VY -/
namespace Go.Proofs.YthagmklephpnhaaGreatDoor
open Go.RowKit Cx
theorem UK (t : Rat) : t*(t.den : Rat)=((t.num : Int) : Rat) := by
 conv => lhs; lhs; rw [← Rat.mkRat_self t]
 have h0 : (t.den : Rat) ≠ 0 := fun h => t.den_nz (by exact_mod_cast h)
 rw [Rat.mkRat_eq_div,Rat.div_mul_cancel h0]
theorem whole {q : Rat} (h : q.den=1) : q=((q.num : Int) : Rat) := by
 have := UK q
 rw [h] at this
 rw [← this]
 show q=q*((1 : Nat) : Rat)
 exact (Rat.mul_one q).symm
end Go.Proofs.YthagmklephpnhaaGreatDoor
/- VSZ -/
namespace Go.Proofs.YthagmklephpnhaaGreatDoor
open Go.RowKit Cx
structure QW (z : Nat) (x : Rat) : Prop where
 qs : QS z x
 wh : x.den=1
theorem QW.of {z : Nat} {n : Int} (h : n.natAbs < 2 ^ z) (hz : 0 < z) : QW z ((n : Int) : Rat) :=
 ⟨⟨by simpa using h,by
  show ((n : Int) : Rat).den < 2 ^ z
  rw [Rat.den_intCast]
  exact Nat.one_lt_two_pow (by omega)⟩,Rat.den_intCast n⟩
theorem QW.mono {k l : Nat} {x : Rat} (h : QW k x) (hk : k≤l) : QW l x := ⟨h.qs.mono hk,h.wh⟩
theorem XK {a b x y : Nat} (h1 : a < 2 ^ x) (h2 : b < 2 ^ y) : a+b < 2 ^ (Nat.max x y+1) := by
 have e1 : 2 ^ x≤2 ^ Nat.max x y := Nat.pow_le_pow_right (by decide) (Nat.le_max_left x y)
 have e2 : 2 ^ y≤2 ^ Nat.max x y := Nat.pow_le_pow_right (by decide) (Nat.le_max_right x y)
 rw [Nat.pow_succ]
 omega
theorem QW.add {x y : Nat} {a b : Rat} (h1 : QW x a) (h2 : QW y b) : QW (Nat.max x y+1) (a+b) := by
 rw [whole h1.wh,whole h2.wh,← Rat.intCast_add]
 refine QW.of ?_ (by omega)
 have := XK h1.qs.num h2.qs.num
 omega
theorem QW.sub {x y : Nat} {a b : Rat} (h1 : QW x a) (h2 : QW y b) : QW (Nat.max x y+1) (a - b) := by
 rw [whole h1.wh,whole h2.wh,← Rat.intCast_sub]
 refine QW.of ?_ (by omega)
 have := XK h1.qs.num h2.qs.num
 omega
theorem QW.mul {x y : Nat} {a b : Rat} (h1 : QW x a) (h2 : QW y b) : QW (x+y) (a*b) := by
 refine ⟨h1.qs.mul h2.qs,?_⟩
 rw [whole h1.wh,whole h2.wh,← Rat.intCast_mul]
 exact Rat.den_intCast _
theorem QW.neg {x : Nat} {a : Rat} (h1 : QW x a) : QW x (-a) := ⟨h1.qs.neg,h1.wh⟩
theorem Jo : ∀ n : Nat,10 ^ n≤2 ^ ((10*n+2) / 3)
 | 0 => by decide
 | 1 => by decide
 | 2 => by decide
 | n+3 => by
  have h := Jo n
  have e : (10*(n+3)+2) / 3=(10*n+2) / 3+10 := by omega
  rw [e,Nat.pow_add,Nat.pow_add]
  exact Nat.mul_le_mul h (by decide)
theorem QS.rd3 (l : List UInt8) : QS ((10*l.length+2) / 3+5) (Cx.rd l) := by
 have key : ∀ {m : List UInt8},Jt m=true→dv m < 2 ^ ((10*m.length+2) / 3) := fun {m} h => Nat.lt_of_lt_of_le (Tl (Jx h)) (Jo _)
 unfold Cx.rd
 split
 ·rename_i h
  rw [Bool.and_eq_true] at h
  have h1 := key h.1
  have h2 := key h.2
  have h3 := Kq (Qy l)
  have h4 := IP (Qy l)
  have h5 := WJ l
  apply QS.mkr
  ·rw [Vm]; exact Nat.lt_of_lt_of_le h1 (Nat.pow_le_pow_right (by decide) (by omega))
  ·exact Nat.lt_of_lt_of_le h2 (Nat.pow_le_pow_right (by decide) (by omega))
 ·exact QS.zero.mono (by omega)
section
variable {N : List Nd} {Z : List Nat} {I : List Bool} {q : Nat→Rat}
end
end Go.Proofs.YthagmklephpnhaaGreatDoor
/- VSA -/
namespace Go.Proofs.YthagmklephpnhaaGreatDoor
open Go.RowKit Cx
def inB : Nat := 3495259
abbrev Atm := Nat × Nat
def JQ (x : Atm) : List Atm→Option (List Atm)
 | [] => none
 | y :: l => bif Nat.beq x.1 y.1 && Nat.beq x.2 y.2 then some l else (JQ x l).map (y :: ·)
def QK : List Atm→List Atm→Option (List Atm)
 | l,[] => some l
 | l,x :: r => (JQ x l).bind fun l' => QK l' r
def JP : List Atm→List Atm→List Atm
 | _,[] => []
 | U,x :: D => match JQ x U with
  | some U' => JP U' D
  | none => x :: JP U D
def JN (E : List (Nat × List Atm)) : List Nat→List Atm→List Atm
 | [],U => U
 | a :: l,U => JN E l (match E[a]? with
  | some p => U ++ JP U p.2
  | none => U)
def Te (E : List (Nat × List Atm)) (x : Atm) : Nat := match x.1 with
 | 0 => inB
 | 1 => (match E[x.2]? with
  | some p => p.1
  | none => 1)
 | _ => Nat.log2 x.2+1
def ZN (E : List (Nat × List Atm)) : List Atm→Nat
 | [] => 1
 | x :: l => Te E x+ZN E l
def Jk (l : Option (List Atm)) : Bool := match l with
 | some [] => true
 | _ => false
def saN (E : List (Nat × List Atm)) (k z : Nat) (D : List Atm) (nd : Nd) : Bool := (Nat.blt 0 z && D.all fun x => !Nat.beq x.1 1 || Nat.blt x.2 k) && match nd.1,nd.2 with
 | 0,[_,n,d] => (Nat.blt n (2 ^ z) && Nat.blt 0 d) && Jk (QK D (bif Nat.beq d 1 then [] else [(2,d)]))
 | 1,[j] => Nat.ble inB z && Jk (QK D [(0,j)])
 | 2,[a,b] => (match E[a]?,E[b]? with
  | some p,some r => (match QK D p.2,QK D r.2 with
   | some c,some e => Nat.ble (Nat.max (p.1+ZN E c) (r.1+ZN E e)+1) z
   | _,_ => false)
  | _,_ => false)
 | 3,[a,b] => (match E[a]?,E[b]? with
  | some p,some r => (match QK D p.2,QK D r.2 with
   | some c,some e => Nat.ble (Nat.max (p.1+ZN E c) (r.1+ZN E e)+1) z
   | _,_ => false)
  | _,_ => false)
 | 4,[a,b] => (match E[a]?,E[b]? with
  | some p,some r => (match QK D p.2 with
   | some c => Jk (QK c r.2) && Nat.ble (p.1+r.1) z
   | _ => false)
  | _,_ => false)
 | 5,[a] => (match E[a]? with
  | some p => Jk (QK D p.2) && Nat.ble p.1 z
  | _ => false)
 | 6,[a,b] => (match E[a]?,E[b]?,JQ (1,b) D with
  | some p,some r,some D' => (match QK p.2 D' with
   | some c => (match QK r.2 c with
    | some e => Nat.ble (p.1+ZN E e) z
    | none => false)
   | none => false)
  | _,_,_ => false)
 | 7,_ => Nat.beq D.length 0
 | 8,i :: xs => Nat.beq D.length 0 && (xs.all (fun a => match E[a]? with
   | some p => (QK (JN E xs []) p.2).isSome
   | none => false) && (match xs[i]? with
   | some a => (match E[a]? with
    | some p => (match QK (JN E xs []) p.2 with
     | some e => Nat.ble (p.1+ZN E e) z
     | none => false)
    | none => false)
   | none => false))
 | _,_ => false
def saB (E : List (Nat × List Atm)) : Nat→List Nd→List (Nat × List Atm)→List Nat→Bool
 | _,[],[],[] => true
 | k,nd :: ns,p :: ps,z :: zs => (saN E k p.1 p.2 nd && (Nat.ble p.1 z && (Nat.ble (ZN E p.2) z && Nat.ble z 1000000000000))) && saB E (k+1) ns ps zs
 | _,_,_,_ => false
theorem JA {E : List (Nat × List Atm)} : ∀ {ns : List Nd} {ps : List (Nat × List Atm)} {zs : List Nat} {k i : Nat} {nd : Nd},saB E k ns ps zs=true→ns[i]? = some nd→∃ p z,ps[i]? = some p∧zs[i]? = some z∧saN E (k+i) p.1 p.2 nd=true∧p.1≤z∧ZN E p.2≤z∧z≤1000000000000
 | [],_,_,_,_,_,_,h => by simp at h
 | _ :: _,[],_,_,_,_,h,_ => by cases h
 | _ :: _,_ :: _,[],_,_,_,h,_ => by cases h
 | nd' :: ns,p :: ps,z :: zs,k,0,nd,h,e => by
  have : nd'=nd := by simpa using e
  subst this
  unfold saB at h
  simp only [Bool.and_eq_true,Nat.ble_eq] at h
  exact ⟨p,z,rfl,rfl,h.1.1,h.1.2.1,h.1.2.2.1,h.1.2.2.2⟩
 | nd' :: ns,p :: ps,z :: zs,k,i+1,nd,h,e => by
  unfold saB at h
  rw [Bool.and_eq_true] at h
  obtain ⟨p',z',g1,g2,g3,g4⟩ := JA (k := k+1) (i := i) h.2 (by simpa using e)
  exact ⟨p',z',by simpa using g1,by simpa using g2,by rw [show k+(i+1)=k+1+i by omega]; exact g3,g4⟩
theorem XN {E : List (Nat × List Atm)} : ∀ {ns : List Nd} {ps : List (Nat × List Atm)} {zs : List Nat} {k : Nat},saB E k ns ps zs=true→ns.length=ps.length∧ns.length=zs.length
 | [],[],[],_,_ => ⟨rfl,rfl⟩
 | [],[],_ :: _,_,h => by cases h
 | [],_ :: _,_,_,h => by cases h
 | _ :: _,[],_,_,h => by cases h
 | _ :: _,_ :: _,[],_,h => by cases h
 | _ :: _,_ :: _,_ :: _,k,h => by
  unfold saB at h
  rw [Bool.and_eq_true] at h
  have := XN h.2
  exact ⟨congrArg (· + 1) this.1,congrArg (· + 1) this.2⟩
def ZO (dn : Nat→Nat) (M : Nat→Rat) (x : Atm) : Rat := match x.1 with
 | 0 => ((dn x.2 : Nat) : Rat)
 | 1 => if M x.2=0 then 1 else M x.2
 | _ => if x.2=0 then 1 else ((x.2 : Nat) : Rat)
def Qf (dn : Nat→Nat) (M : Nat→Rat) : List Atm→Rat
 | [] => 1
 | x :: l => ZO dn M x*Qf dn M l
theorem ZP {dn : Nat→Nat} {M : Nat→Rat} {x : Atm} : ∀ {l c : List Atm},JQ x l=some c→Qf dn M l=ZO dn M x*Qf dn M c
 | [],_,h => by cases h
 | y :: l,c,h => by
  unfold JQ at h
  cases e : (Nat.beq x.1 y.1 && Nat.beq x.2 y.2) with
  | true =>
   rw [e] at h
   cases h
   rw [Bool.and_eq_true,Nat.beq_eq,Nat.beq_eq] at e
   have : x=y := Prod.ext e.1 e.2
   rw [this]
   rfl
  | false =>
   rw [e] at h
   simp only [cond_false,Option.map_eq_some_iff] at h
   obtain ⟨c',h1,rfl⟩ := h
   show ZO dn M y*Qf dn M l=ZO dn M x*(ZO dn M y*Qf dn M c')
   rw [ZP h1]
   grind
theorem Qi {dn : Nat→Nat} {M : Nat→Rat} : ∀ {r l c : List Atm},QK l r=some c→Qf dn M l=Qf dn M r*Qf dn M c
 | [],l,c,h => by
  have : l=c := by simpa [QK] using h
  rw [this]
  exact (Rat.one_mul _).symm
 | x :: r,l,c,h => by
  unfold QK at h
  rw [Option.bind_eq_some_iff] at h
  obtain ⟨l',h1,h2⟩ := h
  rw [ZP h1,Qi h2]
  exact (Rat.mul_assoc _ _ _).symm
theorem QX {l : Option (List Atm)} (h : Jk l=true) : l=some [] := by
 unfold Jk at h
 split at h
 ·rfl
 ·cases h
theorem QW.one {z : Nat} (h : 0 < z) : QW z 1 := ⟨⟨by
  show (1 : Int).natAbs < 2 ^ z
  exact Nat.one_lt_two_pow (by omega),by
  show 1 < 2 ^ z
  exact Nat.one_lt_two_pow (by omega)⟩,rfl⟩
theorem QW.zero {z : Nat} (h : 0 < z) : QW z 0 := ⟨⟨by
  show (0 : Int).natAbs < 2 ^ z
  exact Nat.two_pow_pos z,by
  show 1 < 2 ^ z
  exact Nat.one_lt_two_pow (by omega)⟩,rfl⟩
theorem QW.nat {z n : Nat} (h : n < 2 ^ z) (hz : 0 < z) : QW z ((n : Nat) : Rat) := by
 have : ((n : Nat) : Rat)=(((n : Nat) : Int) : Rat) := (Rat.intCast_natCast n).symm
 rw [this]
 exact QW.of (by simpa using h) hz
section
variable {E : List (Nat × List Atm)} {dn : Nat→Nat} {M : Nat→Rat} {k : Nat}
def Vd (E : List (Nat × List Atm)) (dn : Nat→Nat) (M : Nat→Rat) (q : Nat→Rat) (k : Nat) : Prop := ∀ a,a < k→∃ p,E[a]? = some p∧QW p.1 (M a)∧0 < p.1∧(∀ x ∈ p.2,x.1=1→x.2 < a)∧q a*Qf dn M p.2=M a
theorem UH {q : Nat→Rat} (hdn : ∀ j,0 < dn j∧dn j < 2 ^ inB) (hM : Vd E dn M q k) {x : Atm} (hx : x.1=1→x.2 < k) : QW (Te E x) (ZO dn M x)∧ZO dn M x ≠ 0 := by
 obtain ⟨i,j⟩ := x
 match i with
 | 0 =>
  show QW inB ((dn j : Nat) : Rat)∧((dn j : Nat) : Rat) ≠ 0
  refine ⟨QW.nat (hdn j).2 (by unfold inB; omega),fun h => ?_⟩
  have := (hdn j).1
  have h2 : dn j=0 := by exact_mod_cast h
  omega
 | 1 =>
  obtain ⟨p,h1,h2,h3,_⟩ := hM j (hx rfl)
  show QW (match E[j]? with
   | some p => p.1
   | none => 1) (if M j=0 then 1 else M j)∧(if M j=0 then 1 else M j) ≠ 0
  rw [h1]
  by_cases h : M j=0
  ·rw [if_pos h]
   exact ⟨QW.one h3,by decide⟩
  ·rw [if_neg h]
   exact ⟨h2,h⟩
 | i+2 =>
  show QW (Nat.log2 j+1) (if j=0 then 1 else ((j : Nat) : Rat))∧(if j=0 then 1 else ((j : Nat) : Rat)) ≠ 0
  by_cases h : j=0
  ·rw [if_pos h]
   exact ⟨QW.one (by omega),by decide⟩
  ·rw [if_neg h]
   refine ⟨QW.nat Nat.lt_log2_self (by omega),fun h2 => h ?_⟩
   exact_mod_cast h2
theorem JE {q : Nat→Rat} (hdn : ∀ j,0 < dn j∧dn j < 2 ^ inB) (hM : Vd E dn M q k) : ∀ {l : List Atm},(∀ x ∈ l,x.1=1→x.2 < k)→QW (ZN E l) (Qf dn M l)∧Qf dn M l ≠ 0
 | [],_ => ⟨QW.one (show 0 < 1 by decide),by show (1 : Rat) ≠ 0; decide⟩
 | x :: l,h => by
  have h1 := UH hdn hM (h x List.mem_cons_self)
  have h2 := JE hdn hM (l := l) fun y hy => h y (List.mem_cons_of_mem _ hy)
  exact ⟨h1.1.mul h2.1,Zp h1.2 h2.2⟩
theorem ZQ {M' : Nat→Rat} : ∀ {l : List Atm},(∀ x ∈ l,x.1=1→M x.2=M' x.2)→Qf dn M l=Qf dn M' l
 | [],_ => rfl
 | x :: l,h => by
  show ZO dn M x*Qf dn M l=ZO dn M' x*Qf dn M' l
  rw [ZQ (l := l) fun y hy => h y (List.mem_cons_of_mem _ hy)]
  have e : ZO dn M x=ZO dn M' x := by
   obtain ⟨i,j⟩ := x
   match i with
   | 0 => rfl
   | 1 =>
    have := h (1,j) List.mem_cons_self rfl
    show (if M j=0 then 1 else M j)=(if M' j=0 then 1 else M' j)
    rw [this]
   | i+2 => rfl
  rw [e]
theorem JX {x y : Atm} : ∀ {l c : List Atm},JQ x l=some c→y ∈ c→y ∈ l
 | [],_,h,_ => by cases h
 | z :: l,c,h,hy => by
  unfold JQ at h
  cases e : (Nat.beq x.1 z.1 && Nat.beq x.2 z.2) with
  | true => rw [e] at h; cases h; exact List.mem_cons_of_mem _ hy
  | false =>
   rw [e] at h
   simp only [cond_false,Option.map_eq_some_iff] at h
   obtain ⟨c',h1,rfl⟩ := h
   rcases List.mem_cons.1 hy with rfl | hy
   ·exact List.mem_cons_self
   ·exact List.mem_cons_of_mem _ (JX h1 hy)
theorem Qz {y : Atm} : ∀ {r l c : List Atm},QK l r=some c→y ∈ c→y ∈ l
 | [],l,c,h,hy => by
  have : l=c := by simpa [QK] using h
  rw [this]; exact hy
 | x :: r,l,c,h,hy => by
  unfold QK at h
  rw [Option.bind_eq_some_iff] at h
  obtain ⟨l',h1,h2⟩ := h
  exact JX h1 (Qz h2 hy)
theorem Vr {n : Nat} (h : n ≠ 0) : ((n : Nat) : Rat) ≠ 0 := fun e => h (by exact_mod_cast e)
theorem ZJ (x : Rat) : x*((x.den : Nat) : Rat)=((x.num : Int) : Rat) := by
 have e : x=((x.num : Int) : Rat) / ((x.den : Nat) : Rat) := by
  have := Rat.mkRat_self x
  rw [Rat.mkRat_eq_div] at this
  exact this.symm
 conv => lhs; lhs; rw [e]
 exact Rat.div_mul_cancel (Vr x.den_nz)
theorem Yb {qs : List Rat} {m M : Nat} (hm : m ∣ M) (h : ∀ q ∈ qs,q.den ∣ M) : qs.foldl (fun m q => m*(q.den / Nat.gcd m q.den)) m ∣ M := by
 induction qs generalizing m with
 | nil => exact hm
 | cons q qs ih =>
  rw [List.foldl_cons]
  refine ih ?_ fun p hp => h p (List.mem_cons_of_mem _ hp)
  have e : m*(q.den / Nat.gcd m q.den)=Nat.lcm m q.den := by
   unfold Nat.lcm
   exact (Nat.mul_div_assoc _ (Nat.gcd_dvd_right _ _)).symm
  rw [e]
  exact Nat.lcm_dvd hm (h q List.mem_cons_self)
theorem JB {x : Rat} {m : Int} (h : (x*((m : Int) : Rat)).den=1) : x.den ∣ m.natAbs := by
 have e := whole h
 generalize (x*((m : Int) : Rat)).num=n at e
 have h1 : x*((x.den : Nat) : Rat)=((x.num : Int) : Rat) := ZJ x
 have h2 : ((x.num : Int) : Rat)*((m : Int) : Rat)=((n : Int) : Rat)*(((x.den : Nat) : Int) : Rat) := by
  rw [← h1,← e,Rat.intCast_natCast]
  grind
 have h3 : x.num*m=n*(x.den : Int) := by exact_mod_cast h2
 have h4 : (x.den : Int) ∣ x.num*m := ⟨n,by rw [h3,Int.mul_comm]⟩
 have h5 : x.den ∣ x.num.natAbs*m.natAbs := by
  have := Int.natAbs_dvd_natAbs.2 h4
  rwa [Int.natAbs_mul,Int.natAbs_natCast] at this
 exact (Nat.Coprime.symm x.reduced).dvd_of_dvd_mul_left h5
theorem Yj {qs : List Rat} {x : Rat} {z : Nat} {m : Int} (hx : x ∈ qs) (hm : m ≠ 0) (hall : ∀ y ∈ qs,(y*((m : Int) : Rat)).den=1) (hz : QW z (x*((m : Int) : Rat))) : QW z (x*fac qs) := by
 have hl : lD qs ∣ m.natAbs := Yb (Nat.one_dvd _) fun y hy => JB (hall y hy)
 have hd := IX hx
 have hpos : 0 < m.natAbs := Int.natAbs_pos.2 hm
 have hle : lD qs≤m.natAbs := Nat.le_of_dvd hpos hl
 have hn : (x*fac qs).num.natAbs≤(x*((m : Int) : Rat)).num.natAbs := by
  rw [IQ hx]
  have e := whole hz.wh
  generalize (x*((m : Int) : Rat)).num=n at e
  have h1 : x*((x.den : Nat) : Rat)=((x.num : Int) : Rat) := ZJ x
  have h2 : ((x.num : Int) : Rat)*((m : Int) : Rat)=((n : Int) : Rat)*(((x.den : Nat) : Int) : Rat) := by
   rw [← h1,← e,Rat.intCast_natCast]
   grind
  have h3 : x.num*m=n*(x.den : Int) := by exact_mod_cast h2
  have h4 : x.num.natAbs*m.natAbs=n.natAbs*x.den := by
   have := congrArg Int.natAbs h3
   rwa [Int.natAbs_mul,Int.natAbs_mul,Int.natAbs_natCast] at this
  obtain ⟨c,hc⟩ := JB (x := x) (m := m) (hall x hx)
  have h5 : n.natAbs=x.num.natAbs*c := by
   rw [hc] at h4
   refine Nat.eq_of_mul_eq_mul_right x.den_pos ?_
   rw [← h4]
   rw [Nat.mul_assoc,Nat.mul_comm c]
  show x.num.natAbs / gN qs*(lD qs / x.den)≤n.natAbs
  rw [h5]
  refine Nat.mul_le_mul (Nat.div_le_self _ _) ?_
  have : lD qs / x.den≤m.natAbs / x.den := Nat.div_le_div_right hle
  rw [hc,Nat.mul_div_cancel_left _ x.den_pos] at this
  exact this
 refine ⟨⟨Nat.lt_of_le_of_lt hn hz.qs.num,?_⟩,hd⟩
 rw [hd]
 have := hz.qs.den
 rw [hz.wh] at this
 exact this
theorem Zw {y : Atm} : ∀ {D U : List Atm},y ∈ JP U D→y ∈ D
 | [],_,h => by cases h
 | x :: D,U,h => by
  unfold JP at h
  split at h
  ·exact List.mem_cons_of_mem _ (Zw h)
  ·rcases List.mem_cons.1 h with rfl | h
   ·exact List.mem_cons_self
   ·exact List.mem_cons_of_mem _ (Zw h)
theorem JU {q : Nat→Rat} (hM : Vd E dn M q k) : ∀ {l : List Nat} {U : List Atm},(∀ c ∈ l,c < k)→(∀ x ∈ U,x.1=1→x.2 < k)→∀ x ∈ JN E l U,x.1=1→x.2 < k
 | [],_,_,hU => hU
 | a :: l,U,hl,hU => by
  unfold JN
  refine JU hM (fun c hc => hl c (List.mem_cons_of_mem _ hc)) ?_
  have ha := hl a List.mem_cons_self
  obtain ⟨p,h1,_,_,h4,_⟩ := hM a ha
  rw [h1]
  intro x hx h
  rcases List.mem_append.1 hx with hx | hx
  ·exact hU x hx h
  ·exact Nat.lt_trans (h4 x (Zw hx) h) ha
theorem UL {q : Nat→Rat} {σ : Nat→ByteArray} (hσ : ∀ j,(σ j).size≤1048576) (hdn : ∀ j,dn j=(Cx.rd (σ j).data.toList).den) (hM : Vd E dn M q k) {z : Nat} {D : List Atm} {nd : Nd} (hwf : wfN k nd=true) (hs : saN E k z D nd=true) : QW z (Zg σ q nd*Qf dn M D)∧0 < z∧∀ x ∈ D,x.1=1→x.2 < k := by
 have hdn' : ∀ j,0 < dn j∧dn j < 2 ^ inB := fun j => by
  rw [hdn j]
  refine ⟨Rat.den_pos _,Nat.lt_of_lt_of_le (QS.rd3 _).den (Nat.pow_le_pow_right (by decide) ?_)⟩
  have := hσ j
  rw [Qr]
  unfold inB
  omega
 obtain ⟨op,xs⟩ := nd
 unfold saN at hs
 rw [Bool.and_eq_true,Bool.and_eq_true] at hs
 obtain ⟨⟨hz0,hD⟩,hs⟩ := hs
 have hz : 0 < z := by simpa [Nat.blt_eq] using hz0
 have hD' : ∀ x ∈ D,x.1=1→x.2 < k := fun x hx h1 => by
  rw [List.all_eq_true] at hD
  have := hD x hx
  rw [h1] at this
  simpa [Nat.blt_eq] using this
 refine ⟨?_,hz,hD'⟩
 have hlow : ∀ {a : Nat} {p : Nat × List Atm},a < k→E[a]? = some p→QW p.1 (M a)∧(∀ x ∈ p.2,x.1=1→x.2 < k)∧q a*Qf dn M p.2=M a := fun {a p} ha hp => by
  obtain ⟨p',h1,h2,_,h4,h5⟩ := hM a ha
  rw [hp] at h1
  cases h1
  exact ⟨h2,fun x hx h => Nat.lt_trans (h4 x hx h) ha,h5⟩
 have hpr : ∀ {l : List Atm},(∀ x ∈ l,x.1=1→x.2 < k)→QW (ZN E l) (Qf dn M l)∧Qf dn M l ≠ 0 := fun h => JE hdn' hM h
 unfold wfN at hwf
 unfold Zg
 dsimp only at hs hwf ⊢
 split at hs
 ·rename_i s n d
  simp only [Bool.and_eq_true] at hs
  obtain ⟨⟨h1,h2⟩,h3⟩ := hs
  have h1' : n < 2 ^ z := by simpa [Nat.blt_eq] using h1
  have h2' : d ≠ 0 := by
   have : 0 < d := by simpa [Nat.blt_eq] using h2
   omega
  have hp : Qf dn M D=((d : Nat) : Rat) := by
   have := Qi (dn := dn) (M := M) (QX h3)
   rw [this]
   cases e : Nat.beq d 1 with
   | true =>
    rw [Nat.beq_eq] at e
    rw [e]
    show (1 : Rat)*1=((1 : Nat) : Rat)
    rw [Rat.mul_one]
    exact_mod_cast rfl
   | false =>
    show (if d=0 then (1 : Rat) else ((d : Nat) : Rat))*1*1=_
    rw [if_neg h2',Rat.mul_one,Rat.mul_one]
  show QW z ((if s=0 then mkRat (n : Int) d else mkRat (-(n : Int)) d)*Qf dn M D)
  rw [hp]
  have key : ∀ m : Int,m.natAbs < 2 ^ z→QW z (mkRat m d*((d : Nat) : Rat)) := fun m hm => by
   rw [Rat.mkRat_eq_div,Rat.div_mul_cancel (Vr h2')]
   exact QW.of hm hz
  by_cases hs0 : s=0
  ·rw [if_pos hs0]
   exact key _ (by simpa using h1')
  ·rw [if_neg hs0]
   exact key _ (by simpa using h1')
 ·rename_i j
  simp only [Bool.and_eq_true,Nat.ble_eq] at hs
  have hp : Qf dn M D=(((Cx.rd (σ j).data.toList).den : Nat) : Rat) := by
   rw [Qi (dn := dn) (M := M) (QX hs.2)]
   show ((dn j : Nat) : Rat)*1*1=_
   rw [Rat.mul_one,Rat.mul_one,hdn j]
  show QW z (Cx.rd (σ j).data.toList*Qf dn M D)
  rw [hp,ZJ]
  refine QW.of (Nat.lt_of_lt_of_le (QS.rd3 _).num (Nat.pow_le_pow_right (by decide) ?_)) hz
  have := hσ j
  have := hs.1
  unfold inB at this
  rw [Qr]
  omega
 ·simp only [List.all_cons,List.all_nil,Bool.and_true,Bool.and_eq_true] at hwf
  rename_i a b
  have l1 : a < k := by simpa [Nat.blt_eq] using hwf.1
  have l2 : b < k := by simpa [Nat.blt_eq] using hwf.2
  split at hs
  ·rename_i p r hp hr
   split at hs
   ·rename_i c e hc he
    rw [Nat.ble_eq] at hs
    obtain ⟨a1,a2,a3⟩ := hlow l1 hp
    obtain ⟨b1,b2,b3⟩ := hlow l2 hr
    have hc' := hpr (l := c) fun x hx => hD' x (Qz hc hx)
    have he' := hpr (l := e) fun x hx => hD' x (Qz he hx)
    have e1 : (q a+q b)*Qf dn M D=M a*Qf dn M c+M b*Qf dn M e := by
     rw [Rat.add_mul]
     congr 1
     ·rw [Qi hc,← Rat.mul_assoc,a3]
     ·rw [Qi he,← Rat.mul_assoc,b3]
    show QW z ((q a+q b)*Qf dn M D)
    rw [e1]
    exact ((a1.mul hc'.1).add (b1.mul he'.1)).mono hs
   ·cases hs
  ·cases hs
 ·simp only [List.all_cons,List.all_nil,Bool.and_true,Bool.and_eq_true] at hwf
  rename_i a b
  have l1 : a < k := by simpa [Nat.blt_eq] using hwf.1
  have l2 : b < k := by simpa [Nat.blt_eq] using hwf.2
  split at hs
  ·rename_i p r hp hr
   split at hs
   ·rename_i c e hc he
    rw [Nat.ble_eq] at hs
    obtain ⟨a1,a2,a3⟩ := hlow l1 hp
    obtain ⟨b1,b2,b3⟩ := hlow l2 hr
    have hc' := hpr (l := c) fun x hx => hD' x (Qz hc hx)
    have he' := hpr (l := e) fun x hx => hD' x (Qz he hx)
    have e1 : (q a - q b)*Qf dn M D=M a*Qf dn M c - M b*Qf dn M e := by
     rw [show (q a - q b)*Qf dn M D=q a*Qf dn M D - q b*Qf dn M D by grind]
     congr 1
     ·rw [Qi hc,← Rat.mul_assoc,a3]
     ·rw [Qi he,← Rat.mul_assoc,b3]
    show QW z ((q a - q b)*Qf dn M D)
    rw [e1]
    exact ((a1.mul hc'.1).sub (b1.mul he'.1)).mono hs
   ·cases hs
  ·cases hs
 ·simp only [List.all_cons,List.all_nil,Bool.and_true,Bool.and_eq_true] at hwf
  rename_i a b
  have l1 : a < k := by simpa [Nat.blt_eq] using hwf.1
  have l2 : b < k := by simpa [Nat.blt_eq] using hwf.2
  split at hs
  ·rename_i p r hp hr
   split at hs
   ·rename_i c hc
    rw [Bool.and_eq_true,Nat.ble_eq] at hs
    obtain ⟨a1,a2,a3⟩ := hlow l1 hp
    obtain ⟨b1,b2,b3⟩ := hlow l2 hr
    have e1 : q a*q b*Qf dn M D=M a*M b := by
     rw [Qi hc,Qi (QX hs.1),← a3,← b3]
     show q a*q b*(Qf dn M p.2*(Qf dn M r.2*1))=_
     grind
    show QW z (q a*q b*Qf dn M D)
    rw [e1]
    exact (a1.mul b1).mono hs.2
   ·cases hs
  ·cases hs
 ·simp only [List.all_cons,List.all_nil,Bool.and_true] at hwf
  rename_i a
  have l1 : a < k := by simpa [Nat.blt_eq] using hwf
  split at hs
  ·rename_i p hp
   rw [Bool.and_eq_true,Nat.ble_eq] at hs
   obtain ⟨a1,a2,a3⟩ := hlow l1 hp
   have e1 : -q a*Qf dn M D=-M a := by
    rw [Qi (QX hs.1),← a3]
    show -q a*(Qf dn M p.2*1)=_
    grind
   show QW z (-q a*Qf dn M D)
   rw [e1]
   exact a1.neg.mono hs.2
  ·cases hs
 ·simp only [List.all_cons,List.all_nil,Bool.and_true,Bool.and_eq_true] at hwf
  rename_i a b
  have l1 : a < k := by simpa [Nat.blt_eq] using hwf.1
  have l2 : b < k := by simpa [Nat.blt_eq] using hwf.2
  split at hs
  ·rename_i p r D' hp hr hD1
   split at hs
   ·rename_i c hc
    split at hs
    ·rename_i e he
     rw [Nat.ble_eq] at hs
     obtain ⟨a1,a2,a3⟩ := hlow l1 hp
     obtain ⟨b1,b2,b3⟩ := hlow l2 hr
     have he' := hpr (l := e) fun x hx => b2 x (Qz he hx)
     by_cases h0 : M b=0
     ·have hb : q b=0 := by
       rw [h0] at b3
       exact (Rat.mul_eq_zero.1 b3).resolve_right (hpr b2).2
      show QW z (q a / q b*Qf dn M D)
      rw [hb,Rat.div_def,Rat.inv_zero,Rat.mul_zero,Rat.zero_mul]
      exact QW.zero hz
     ·have hb : q b ≠ 0 := fun h => h0 (by rw [← b3,h,Rat.zero_mul])
      have e1 : q a / q b*Qf dn M D=M a*Qf dn M e := by
       have e2 : Qf dn M D=M b*Qf dn M D' := by
        rw [ZP hD1]
        show (if M b=0 then (1 : Rat) else M b)*_=_
        rw [if_neg h0]
       have e3 : q a / q b*q b=q a := Rat.div_mul_cancel hb
       rw [e2,← a3,← b3,Qi hc,Qi he]
       generalize q a / q b=t at e3
       rw [← e3]
       grind
      show QW z (q a / q b*Qf dn M D)
      rw [e1]
      exact (a1.mul he'.1).mono hs
    ·cases hs
   ·cases hs
  ·cases hs
 ·have hD0 : D=[] := by
   rw [Nat.beq_eq] at hs
   exact List.length_eq_zero_iff.1 hs
  rw [hD0]
  have hv : Zg σ q (7,xs)=0 ∨ Zg σ q (7,xs)=1 := by
   unfold Zg
   dsimp only
   split
   all_goals first | (split; exact Or.inl rfl; exact Or.inr rfl) | exact Or.inl rfl | (rename_i h; cases h)
  show QW z (Zg σ q (7,xs)*1)
  rw [Rat.mul_one]
  rcases hv with h | h
  ·rw [h]
   exact QW.zero hz
  ·rw [h]
   exact QW.one hz
 ·rename_i i ys
  rw [Bool.and_eq_true,Bool.and_eq_true,List.all_eq_true] at hs
  obtain ⟨h1,h2,h3⟩ := hs
  have hD0 : D=[] := by
   rw [Nat.beq_eq] at h1
   exact List.length_eq_zero_iff.1 h1
  have hwf' : ys.all (Nat.blt · k)=true := hwf
  rw [List.all_eq_true] at hwf'
  have hlt : ∀ c ∈ ys,c < k := fun c hc => by simpa [Nat.blt_eq] using hwf' c hc
  split at h3
  ·rename_i a ha
   split at h3
   ·rename_i p hp
    split at h3
    ·rename_i e he
     rw [Nat.ble_eq] at h3
     obtain ⟨hi,ha'⟩ := List.getElem?_eq_some_iff.1 ha
     have hmem : a ∈ ys := List.mem_of_getElem? ha
     have hg : (ys.map q).getD i 0=q a := by
      rw [List.getD_eq_getElem?_getD,List.getElem?_map,ha]
      rfl
     show QW z ((ys.map q).getD i 0*fac (ys.map q)*Qf dn M D)
     rw [hg,hD0]
     show QW z (q a*fac (ys.map q)*1)
     rw [Rat.mul_one]
     -- what makes all of them whole
     have hU : ∀ x ∈ JN E ys [],x.1=1→x.2 < k := JU hM hlt (fun x hx => by cases hx)
     have hUp := hpr hU
     have hw := whole hUp.1.wh
     generalize hm : (Qf dn M (JN E ys [])).num=m at hw
     have hm0 : m ≠ 0 := fun h => hUp.2 (by rw [hw,h]; rfl)
     have hall : ∀ y ∈ ys.map q,(y*((m : Int) : Rat)).den=1 := fun y hy => by
      obtain ⟨c,hc,rfl⟩ := List.mem_map.1 hy
      have h4 := h2 c hc
      split at h4
      ·rename_i r hr
       obtain ⟨c1,c2,c3⟩ := hlow (hlt c hc) hr
       cases hs2 : QK (JN E ys []) r.2 with
       | none => rw [hs2] at h4; cases h4
       | some f =>
        have hf := hpr (l := f) fun x hx => hU x (Qz hs2 hx)
        rw [← hw,Qi hs2,← Rat.mul_assoc,c3]
        exact (c1.mul hf.1).wh
      ·cases h4
     obtain ⟨a1,a2,a3⟩ := hlow (hlt a hmem) hp
     have he' := hpr (l := e) fun x hx => hU x (Qz he hx)
     refine Yj (List.mem_map_of_mem hmem) hm0 hall ?_
     rw [← hw,Qi he,← Rat.mul_assoc,a3]
     exact (a1.mul he'.1).mono h3
    ·cases h3
   ·cases h3
  ·cases h3
 ·cases hs
end
theorem UJ {x m p : Rat} {z y K : Nat} (hm : QW z m) (hp : QW y p) (h0 : p ≠ 0) (e : x*p=m) (hz : z≤K) (hy : y≤K) : QS K x := by
 have hw := whole hp.wh
 generalize p.num=P at hw
 have hP : P ≠ 0 := fun h => h0 (by rw [hw,h]; rfl)
 have hpos : 0 < P.natAbs := Int.natAbs_pos.2 hP
 have hd : x.den ∣ P.natAbs := JB (x := x) (m := P) (by rw [← hw,e]; exact hm.wh)
 have hdle : x.den≤P.natAbs := Nat.le_of_dvd hpos hd
 have hPlt : P.natAbs < 2 ^ y := by
  have := hp.qs.num
  rw [hw,Rat.num_intCast] at this
  exact this
 have hmw := whole hm.wh
 have hmlt := hm.qs.num
 generalize m.num=n at hmw hmlt
 have h1 : x*((x.den : Nat) : Rat)=((x.num : Int) : Rat) := ZJ x
 have h2 : ((x.num : Int) : Rat)*((P : Int) : Rat)=((n : Int) : Rat)*(((x.den : Nat) : Int) : Rat) := by
  rw [← h1,← hw,← hmw,← e,Rat.intCast_natCast]
  grind
 have h3 : x.num*P=n*(x.den : Int) := by exact_mod_cast h2
 have h4 : x.num.natAbs*P.natAbs=n.natAbs*x.den := by
  have := congrArg Int.natAbs h3
  rwa [Int.natAbs_mul,Int.natAbs_mul,Int.natAbs_natCast] at this
 have h5 : x.num.natAbs≤n.natAbs := by
  refine Nat.le_of_mul_le_mul_right (c := P.natAbs) ?_ hpos
  rw [h4]
  exact Nat.mul_le_mul_left _ hdle
 exact ⟨Nat.lt_of_lt_of_le (Nat.lt_of_le_of_lt h5 hmlt) (Nat.pow_le_pow_right (by decide) hz),Nat.lt_of_lt_of_le (Nat.lt_of_le_of_lt hdle hPlt) (Nat.pow_le_pow_right (by decide) hy)⟩
section
variable {N : List Nd} {Z : List Nat} {E : List (Nat × List Atm)} {q : Nat→Rat}
theorem Jl {σ : Nat→ByteArray} (hσ : ∀ j,(σ j).size≤1048576) (hw : wfB 0 N=true) (hz : saB E 0 N E Z=true) (hq : ∀ (a : Nat) nd,N[a]? = some nd→q a=Zg σ q nd) (h0 : ∀ a,N.length≤a→q a=0) : (∀ (a : Nat) z,Z[a]? = some z→QS z (q a))∧∀ a,QS 1000000000000 (q a) := by
 have hl := XN hz
 have key : ∀ k,k≤N.length→∃ M,Vd E (fun j => (Cx.rd (σ j).data.toList).den) M q k := by
  intro k
  induction k with
  | zero => exact fun _ => ⟨fun _ => 0,fun a ha => by omega⟩
  | succ k ih =>
   intro hk
   obtain ⟨M,hM⟩ := ih (by omega)
   have hn : N[k]? = some N[k] := List.getElem?_eq_getElem (by omega)
   obtain ⟨p,z,h1,_,h3,_⟩ := JA hz hn
   rw [Nat.zero_add] at h3
   have hwf := Wi hw hn
   rw [Nat.zero_add] at hwf
   obtain ⟨g1,g2,g3⟩ := UL hσ (fun _ => rfl) hM hwf h3
   rw [← hq k _ hn] at g1
   refine ⟨fun x => if x=k then q k*Qf (fun j => (Cx.rd (σ j).data.toList).den) M p.2 else M x,fun a ha => ?_⟩
   have same : ∀ {l : List Atm},(∀ x ∈ l,x.1=1→x.2 < k)→Qf (fun j => (Cx.rd (σ j).data.toList).den) (fun x => if x=k then q k*Qf (fun j => (Cx.rd (σ j).data.toList).den) M p.2 else M x) l=Qf (fun j => (Cx.rd (σ j).data.toList).den) M l := fun hl => (ZQ fun x hx h => by
    have := hl x hx h
    rw [if_neg (by omega)]).symm
   by_cases e : a=k
   ·subst e
    refine ⟨p,h1,?_,g2,g3,?_⟩
    ·show QW p.1 (if a=a then _ else _)
     rw [if_pos rfl]
     exact g1
    ·rw [same g3]
     show _=(if a=a then _ else _)
     rw [if_pos rfl]
   ·obtain ⟨p',f1,f2,f3,f4,f5⟩ := hM a (by omega)
    refine ⟨p',f1,?_,f3,f4,?_⟩
    ·show QW p'.1 (if a=k then _ else M a)
     rw [if_neg e]
     exact f2
    ·rw [same fun x hx h => by have := f4 x hx h; omega]
     show _=(if a=k then _ else M a)
     rw [if_neg e]
     exact f5
 obtain ⟨M,hM⟩ := key N.length (Nat.le_refl _)
 have hdn : ∀ j,0 < (Cx.rd (σ j).data.toList).den∧(Cx.rd (σ j).data.toList).den < 2 ^ inB := fun j => by
  refine ⟨Rat.den_pos _,Nat.lt_of_lt_of_le (QS.rd3 _).den (Nat.pow_le_pow_right (by decide) ?_)⟩
  have := hσ j
  rw [Qr]
  unfold inB
  omega
 have h2 : ∀ (a : Nat) z,Z[a]? = some z→QS z (q a)∧z≤1000000000000 := by
  intro a z ha
  have hlt : a < N.length := by
   have := (List.getElem?_eq_some_iff.1 ha).1
   omega
  have hn : N[a]? = some N[a] := List.getElem?_eq_getElem hlt
  obtain ⟨p,z',h1,h2,_,h4,h5,h6⟩ := JA hz hn
  rw [ha] at h2
  cases h2
  obtain ⟨p',f1,f2,f3,f4,f5⟩ := hM a hlt
  rw [h1] at f1
  cases f1
  have hp := JE hdn hM (l := p.2) fun x hx h => Nat.lt_trans (f4 x hx h) hlt
  exact ⟨UJ f2 hp.1 hp.2 f5 h4 h5,h6⟩
 refine ⟨fun a z h => (h2 a z h).1,fun a => ?_⟩
 by_cases ha : a < Z.length
 ·have := h2 a _ (List.getElem?_eq_getElem ha)
  exact this.1.mono this.2
 ·rw [h0 a (by omega)]
  exact QS.zero.mono (by decide)
theorem YD {L C : List (List Nat × Nat)} {σ : Nat→ByteArray} {H : List (Nat × Nat × Nat × Nat)} (hσ : ∀ j,(σ j).size≤1048576) (hw : wfB 0 N=true) (hz : saB E 0 N E Z=true) (hl : TX N L=true) (hcn : Tb N C=true) (hq : ∀ (a : Nat) nd,N[a]? = some nd→q a=Zg σ q nd) (h0 : ∀ a,N.length≤a→q a=0) (hH : Ww q H) : Hy N H L C Z q σ where
 nat := hq
 qs := (Jl hσ hw hz hq h0).2
 zs := (Jl hσ hw hz hq h0).1
 par := hσ
 lit := fun s b h => KC hl hq h
 k0 := fun a r h => ZA hH h
 k1 := fun a r h => ZA hH h
 k2 := fun a r h => ZA hH h
 k3 := fun a b r h => ZA hH h
 k4 := fun l a b r h1 h2 => by
  have h3 : Nat.beq 1 r=true ↔ q a=q b := ZA hH h2
  rw [h3,← Kx hcn hq h1]
  exact ⟨fun e => by rw [e],fun e => VZ (XW e)⟩
 k6 := fun a b r h => ZA hH h
 k5 := fun a r h => ZA hH h
end
end Go.Proofs.YthagmklephpnhaaGreatDoor
/- CFspun -/
namespace Go.Proofs.YthagmklephpnhaaGreatDoor
open Go.RowKit Cx
theorem XX : Closed 11 :=
 Ut (N := [(0,[0,1,1]),(0,[0,0,1]),(8,[0,0,1,1,0]),(8,[1,0,1,1,0]),(8,[2,0,1,1,0]),(8,[3,0,1,1,0]),(3,[1,3]),(3,[1,4]),(3,[1,5]),(4,[2,2]),(4,[3,3]),(2,[1,10]),(4,[4,4]),(2,[11,12]),(4,[5,5]),(2,[13,14]),(2,[9,15]),(4,[2,1]),(4,[3,0]),(2,[1,18]),(4,[4,1]),(2,[19,20]),(4,[5,1]),(2,[21,22]),(3,[17,23]),(4,[0,2]),(4,[1,2]),(4,[3,1]),(2,[25,27]),(2,[26,20]),(2,[26,22]),(3,[20,22]),(4,[5,0]),(3,[32,27]),(4,[4,0]),(3,[27,34]),(2,[28,31]),(2,[29,33]),(2,[30,35]),(4,[24,2]),(4,[36,6]),(2,[1,40]),(4,[37,7]),(2,[41,42]),(4,[38,8]),(2,[43,44]),(3,[39,45]),(4,[6,24]),(4,[7,24]),(4,[8,24]),(4,[36,2]),(4,[37,2]),(4,[38,2]),(2,[47,50]),(2,[48,51]),(2,[49,52]),(4,[37,8]),(4,[38,7]),(3,[56,57]),(4,[38,6]),(4,[36,8]),(3,[59,60]),(4,[36,7]),(4,[37,6]),(3,[62,63]),(2,[53,58]),(2,[54,61]),(2,[55,64]),(6,[65,16]),(6,[66,16]),(6,[67,16]),(4,[0,0]),(2,[1,71]),(4,[1,1]),(2,[72,73]),(2,[74,73]),(3,[75,0]),(3,[0,1]),(6,[0,77]),(6,[1,77]),(4,[0,1]),(2,[1,80]),(4,[1,0]),(2,[81,82]),(2,[83,73]),(3,[73,84]),(2,[73,80]),(2,[80,73]),(2,[73,73]),(3,[73,82]),(3,[73,80]),(3,[71,73]),(2,[86,89]),(2,[87,90]),(2,[88,91])]) (H := [(0,16,0,0),(0,76,0,1),(0,77,0,0),(4,85,1,1),(4,92,1,1),(4,93,1,1),(4,94,0,1),(4,68,1,1),(4,69,0,1),(4,70,1,1),(4,78,0,1),(4,79,1,1)]) (K := [(136,[.inr (3,8,0,0,0),.inr (3,32,0,0,0),.inr (3,33,0,0,0)])]) (L := [([49],0),([48],1)]) (C := [([48],1),([49],0)]) (Z := [2,2,11,11,11,11,14,14,14,22,22,25,22,48,22,71,94,13,13,16,13,30,13,44,58,13,13,13,27,27,27,27,13,27,13,27,55,55,55,69,69,72,69,142,69,212,282,72,72,72,66,66,66,139,139,139,69,69,139,69,69,139,69,69,139,279,279,279,373,373,373,4,7,4,12,17,20,5,7,7,4,7,4,12,17,22,9,9,9,9,9,9,19,19,19]) (cl := []) 7 (fun _ h => by cases h) (by kernel_rfl) (by kernel_rfl) (by kernel_rfl) (by kernel_rfl) (by kernel_rfl) (by kernel_rfl) (by kernel_rfl)
end Go.Proofs.YthagmklephpnhaaGreatDoor
/- PLY -/
namespace Go.Proofs.YthagmklephpnhaaGreatDoor
open Go.RowKit Cx
abbrev Pol := List (Int × List Nat)
def eqM : List Nat→List Nat→Bool
 | [],[] => true
 | a :: m,b :: k => cond (Nat.beq a b) (eqM m k) false
 | _,_ => false
theorem PA : ∀ {m k : List Nat},eqM m k=true→m=k
 | [],[],_ => rfl
 | a :: m,b :: k,h => by
  unfold eqM at h
  cases e : Nat.beq a b
  ·rw [e] at h; cases h
  ·rw [e] at h; rw [Nat.eq_of_beq_eq_true e,PA (m := m) (k := k) h]
 | [],_ :: _,h => by cases h
 | _ :: _,[],h => by cases h
def KB (a : Nat) : List Nat→List Nat
 | [] => [a]
 | b :: m => cond (Nat.ble a b) (a :: b :: m) (b :: KB a m)
def Ot (m k : List Nat) : List Nat := m.foldr KB k
def isZ : Int→Bool
 | .ofNat n => Nat.beq n 0
 | .negSucc _ => false
theorem EW {c : Int} (h : isZ c=true) : c=0 := by
 cases c with
 | ofNat n => rw [Nat.eq_of_beq_eq_true (n := n) (m := 0) h]; rfl
 | negSucc n => cases h
def Kt (c : Int) (m : List Nat) : Pol→Pol
 | [] => [(c,m)]
 | (d,k) :: p => cond (eqM m k) (cond (isZ (c+d)) p ((c+d,k) :: p)) ((d,k) :: Kt c m p)
def YF (p r : Pol) : Pol := p.foldr (fun t s => Kt t.1 t.2 s) r
def Uf (p : Pol) : Pol := p.map fun t => (-t.1,t.2)
def SE (c : Int) (m : List Nat) (p : Pol) : Pol := p.map fun t => (c*t.1,Ot m t.2)
def Wx (p r : Pol) : Pol := p.foldr (fun t s => YF (SE t.1 t.2 r) s) []
def Ph : Pol→Bool
 | [] => true
 | _ => false
section
variable (q : Nat→Rat)
def evM : List Nat→Rat
 | [] => 1
 | a :: m => q a*evM m
def evP : Pol→Rat
 | [] => 0
 | t :: p => (t.1 : Rat)*evM q t.2+evP p
variable {q}
theorem TT (a : Nat) : ∀ m,evM q (KB a m)=q a*evM q m
 | [] => rfl
 | b :: m => by
  unfold KB
  cases Nat.ble a b
  ·show q b*evM q (KB a m)=q a*(q b*evM q m)
   rw [TT a m]; grind
  ·rfl
theorem OM : ∀ m k,evM q (Ot m k)=evM q m*evM q k
 | [],k => (Rat.one_mul _).symm
 | a :: m,k => by
  show evM q (KB a (Ot m k))=q a*evM q m*evM q k
  rw [TT,OM m k,Rat.mul_assoc]
theorem Tm (c : Int) (m : List Nat) : ∀ p,evP q (Kt c m p)=(c : Rat)*evM q m+evP q p
 | [] => rfl
 | (d,k) :: p => by
  unfold Kt
  cases e : eqM m k
  ·show (d : Rat)*evM q k+evP q (Kt c m p)=(c : Rat)*evM q m+((d : Rat)*evM q k+evP q p)
   rw [Tm c m p]; grind
  ·have e := PA e
   subst e
   cases f : isZ (c+d)
   ·show ((c+d : Int) : Rat)*evM q m+evP q p=(c : Rat)*evM q m+((d : Rat)*evM q m+evP q p)
    rw [Rat.intCast_add]; grind
   ·show evP q p=(c : Rat)*evM q m+((d : Rat)*evM q m+evP q p)
    have g : (c : Rat)+(d : Rat)=0 := by rw [← Rat.intCast_add,EW f]; rfl
    have : (c : Rat)*evM q m+((d : Rat)*evM q m+evP q p)=((c : Rat)+(d : Rat))*evM q m+evP q p := by grind
    rw [this,g,Rat.zero_mul,Rat.zero_add]
theorem JC : ∀ p r,evP q (YF p r)=evP q p+evP q r
 | [],r => (Rat.zero_add _).symm
 | t :: p,r => by
  show evP q (Kt t.1 t.2 (YF p r))=(t.1 : Rat)*evM q t.2+evP q p+evP q r
  rw [Tm,JC p r,Rat.add_assoc]
theorem JT : ∀ p,evP q (Uf p)=-evP q p
 | [] => rfl
 | t :: p => by
  show ((-t.1 : Int) : Rat)*evM q t.2+evP q (Uf p)=-((t.1 : Rat)*evM q t.2+evP q p)
  rw [JT p,Rat.intCast_neg]; grind
theorem Tn (c : Int) (m : List Nat) : ∀ p,evP q (SE c m p)=(c : Rat)*evM q m*evP q p
 | [] => (Rat.mul_zero _).symm
 | t :: p => by
  show ((c*t.1 : Int) : Rat)*evM q (Ot m t.2)+evP q (SE c m p)=(c : Rat)*evM q m*((t.1 : Rat)*evM q t.2+evP q p)
  rw [Tn c m p,OM,Rat.intCast_mul]; grind
theorem Ye : ∀ p r,evP q (Wx p r)=evP q p*evP q r
 | [],r => (Rat.zero_mul _).symm
 | t :: p,r => by
  show evP q (YF (SE t.1 t.2 r) (Wx p r))=((t.1 : Rat)*evM q t.2+evP q p)*evP q r
  rw [JC,Tn,Ye p r,Rat.add_mul]
end
def nfN (N : List Nd) (stop : List Nat) : Nat→Nat→Pol
 | 0,a => [(1,[a])]
 | f+1,a => cond (stop.any (Nat.beq a)) [(1,[a])] (match N[a]? with
  | some (0,[0,n,1]) => cond (Nat.beq n 0) [] [((n : Int),[])]
  | some (0,[1,n,1]) => [(-(n : Int),[])]
  | some (2,[x,y]) => YF (nfN N stop f x) (nfN N stop f y)
  | some (3,[x,y]) => YF (nfN N stop f x) (Uf (nfN N stop f y))
  | some (4,[x,y]) => Wx (nfN N stop f x) (nfN N stop f y)
  | some (5,[x]) => Uf (nfN N stop f x)
  | _ => [(1,[a])])
inductive Ex where
 | z | o | t | f
 | v (a : Nat)
 | A (x y : Ex) | S (x y : Ex) | M (x y : Ex) | N (x : Ex)
def Ex.ev (q : Nat→Rat) : Ex→Rat
 | z => 0 | o => 1 | t => 2 | f => 4
 | v a => q a
 | A x y => x.ev q+y.ev q | S x y => x.ev q - y.ev q | M x y => x.ev q*y.ev q | N x => -x.ev q
def Ex.nf : Ex→Pol
 | z => [] | o => [(1,[])] | t => [(2,[])] | f => [(4,[])]
 | v a => [(1,[a])]
 | A x y => YF x.nf y.nf | S x y => YF x.nf (Uf y.nf) | M x y => Wx x.nf y.nf | N x => Uf x.nf
variable {q : Nat→Rat} {σ : Nat→ByteArray}
theorem atP (a : Nat) : evP q [(1,[a])]=q a := by
 show ((1 : Int) : Rat)*(q a*1)+0=q a
 rw [Rat.mul_one,Rat.add_zero]; exact Rat.one_mul _
theorem GT (c : Int) : evP q [(c,[])]=(c : Rat) := by
 show (c : Rat)*1+0=_
 rw [Rat.mul_one,Rat.add_zero]
theorem Ex.nf_ok : ∀ e : Ex,evP q e.nf=e.ev q
 | z => rfl
 | o => GT 1 | t => GT 2 | f => GT 4
 | v a => atP a
 | A x y => (JC _ _).trans (by rw [nf_ok x,nf_ok y]; rfl)
 | S x y => (JC _ _).trans (by rw [JT,nf_ok x,nf_ok y]; exact (Rat.sub_eq_add_neg _ _).symm)
 | M x y => (Ye _ _).trans (by rw [nf_ok x,nf_ok y]; rfl)
 | N x => (JT _).trans (by rw [nf_ok x]; rfl)
theorem Jr {N : List Nd} (H : ∀ (a : Nat) nd,N[a]? = some nd→q a=Zg σ q nd) (stop : List Nat) : ∀ f a,evP q (nfN N stop f a)=q a
 | 0,a => atP a
 | f+1,a => by
  unfold nfN
  cases stop.any (Nat.beq a)
  ·show evP q (match N[a]? with | some (0,[0,n,1]) => _ | some (0,[1,n,1]) => _ | some (2,[x,y]) => _ | some (3,[x,y]) => _ | some (4,[x,y]) => _ | some (5,[x]) => _ | _ => _)=q a
   split
   ·rename_i n e
    rw [H a _ e]
    show _=mkRat (n : Int) 1
    cases g : Nat.beq n 0
    ·exact (GT (n : Int)).trans (Rat.mkRat_one _).symm
    ·rw [Nat.eq_of_beq_eq_true g]; rfl
   ·rename_i n e
    rw [H a _ e]
    exact (GT (-(n : Int))).trans (Rat.mkRat_one _).symm
   ·rename_i x y e
    rw [H a _ e,JC,Jr H stop f x,Jr H stop f y]; rfl
   ·rename_i x y e
    rw [H a _ e,JC,JT,Jr H stop f x,Jr H stop f y]; exact (Rat.sub_eq_add_neg _ _).symm
   ·rename_i x y e
    rw [H a _ e,Ye,Jr H stop f x,Jr H stop f y]; rfl
   ·rename_i x e
    rw [H a _ e,JT,Jr H stop f x]; rfl
   ·exact atP a
  ·exact atP a
theorem TW {p r : Pol} (h : Ph (YF p (Uf r))=true) : evP q p=evP q r := by
 have e : evP q (YF p (Uf r))=0 := by
  cases k : YF p (Uf r) with
  | nil => rfl
  | cons t s => rw [k] at h; cases h
 rw [JC,JT] at e
 grind
theorem pol {N : List Nd} (H : ∀ (a : Nat) nd,N[a]? = some nd→q a=Zg σ q nd) (stop : List Nat) (f a : Nat) (e : Ex) (h : Ph (YF (nfN N stop f a) (Uf e.nf))=true) : q a=e.ev q :=
 (Jr H stop f a).symm.trans ((TW h).trans e.nf_ok)
def UQ (N : List Nd) (b : Nat) : Nat→Nat→Bool
 | 0,_ => false
 | f+1,a => match N[a]? with
  | some (6,[_,y]) => Nat.beq y b
  | some (2,[x,y]) => cond (UQ N b f x) true (UQ N b f y)
  | some (3,[x,y]) => cond (UQ N b f x) true (UQ N b f y)
  | some (4,[x,y]) => cond (UQ N b f x) true (UQ N b f y)
  | some (5,[x]) => UQ N b f x
  | _ => false
def dvN (N : List Nd) (stop : List Nat) (b : Nat) : Nat→Nat→Pol
 | 0,a => [(1,Ot [a] [b])]
 | f+1,a => cond (UQ N b (f+1) a) (match N[a]? with
  | some (6,[x,y]) => cond (Nat.beq y b) (nfN N stop f x) [(1,Ot [a] [b])]
  | some (2,[x,y]) => YF (dvN N stop b f x) (dvN N stop b f y)
  | some (3,[x,y]) => YF (dvN N stop b f x) (Uf (dvN N stop b f y))
  | some (4,[x,y]) => cond (UQ N b f x) (Wx (dvN N stop b f x) (nfN N stop f y)) (Wx (nfN N stop f x) (dvN N stop b f y))
  | some (5,[x]) => Uf (dvN N stop b f x)
  | _ => [(1,Ot [a] [b])]) (Wx (nfN N stop (f+1) a) [(1,[b])])
theorem abP (a b : Nat) : evP q [(1,Ot [a] [b])]=q a*q b := by
 show ((1 : Int) : Rat)*evM q (Ot [a] [b])+0=_
 rw [OM,Rat.add_zero]
 show (1 : Rat)*(q a*1*(q b*1))=_
 rw [Rat.one_mul,Rat.mul_one,Rat.mul_one]
theorem XU {N : List Nd} (H : ∀ (a : Nat) nd,N[a]? = some nd→q a=Zg σ q nd) (stop : List Nat) (b : Nat) (hb : ¬ (q b=0)) : ∀ f a,evP q (dvN N stop b f a)=q a*q b
 | 0,a => abP a b
 | f+1,a => by
  unfold dvN
  cases UQ N b (f+1) a
  ·show evP q (Wx (nfN N stop (f+1) a) [(1,[b])])=_
   rw [Ye,Jr H,atP]
  ·show evP q (match N[a]? with | some (6,[x,y]) => _ | some (2,[x,y]) => _ | some (3,[x,y]) => _ | some (4,[x,y]) => _ | some (5,[x]) => _ | _ => _)=_
   split
   ·rename_i x y e
    cases g : Nat.beq y b
    ·exact abP a b
    ·show evP q (nfN N stop f x)=_
     rw [Jr H,H a _ e,Nat.eq_of_beq_eq_true g]
     exact (Rat.div_mul_cancel hb).symm
   ·rename_i x y e
    rw [H a _ e,JC,XU H stop b hb f x,XU H stop b hb f y]; exact (Rat.add_mul _ _ _).symm
   ·rename_i x y e
    rw [H a _ e,JC,JT,XU H stop b hb f x,XU H stop b hb f y]
    show q x*q b+-(q y*q b)=(q x - q y)*q b
    grind
   ·rename_i x y e
    rw [H a _ e]
    show _=q x*q y*q b
    cases UQ N b f x
    ·show evP q (Wx (nfN N stop f x) (dvN N stop b f y))=_
     rw [Ye,Jr H,XU H stop b hb f y,Rat.mul_assoc]
    ·show evP q (Wx (dvN N stop b f x) (nfN N stop f y))=_
     rw [Ye,Jr H,XU H stop b hb f x]; grind
   ·rename_i x e
    rw [H a _ e,JT,XU H stop b hb f x]
    show -(q x*q b)=-q x*q b
    grind
   ·exact abP a b
theorem JH {N : List Nd} (H : ∀ (a : Nat) nd,N[a]? = some nd→q a=Zg σ q nd) (stop : List Nat) (f a b : Nat) (e : Ex) (hb : ¬ (q b=0)) (h : Ph (YF (dvN N stop b f a) (Uf e.nf))=true) : q a*q b=e.ev q :=
 (XU H stop b hb f a).symm.trans ((TW h).trans e.nf_ok)
end Go.Proofs.YthagmklephpnhaaGreatDoor
/- VPD -/
namespace Cx
open Go Go.RowKit
def TY : List A1→List A1→Bool
 | [],[] => true
 | (a,x) :: l,(b,y) :: m => (a == b && Rf x y) && TY l m
 | _,_ => false
theorem Wn : ∀ {l m : List A1},TY l m=true→l=m
 | [],[],_ => rfl
 | (a,x) :: l,(b,y) :: m,h => by
  unfold TY at h
  simp only [Bool.and_eq_true,beq_iff_eq] at h
  obtain ⟨⟨h1,h2⟩,h3⟩ := h
  rw [h1,Yx h2,Wn h3]
 | [],_ :: _,h => by cases h
 | _ :: _,[],h => by cases h
def WQ : List AV→List AV→Bool
 | [],[] => true
 | (a,x) :: l,(b,y) :: m => (a == b && TY x y) && WQ l m
 | _,_ => false
theorem YS : ∀ {l m : List AV},WQ l m=true→l=m
 | [],[],_ => rfl
 | (a,x) :: l,(b,y) :: m,h => by
  unfold WQ at h
  simp only [Bool.and_eq_true,beq_iff_eq] at h
  obtain ⟨⟨h1,h2⟩,h3⟩ := h
  rw [h1,Wn h2,YS h3]
 | [],_ :: _,h => by cases h
 | _ :: _,[],h => by cases h
abbrev Xu := List (FuncId × List AV × AV)
def XM (f : FuncId) (args : List AV) : Xu→Option AV
 | [] => none
 | (g,bs,v) :: m => bif Nat.beq f g && WQ args bs then some v else XM f args m
theorem Xw {f : FuncId} {args : List AV} {v : AV} : ∀ {m : Xu},XM f args m=some v→(f,args,v) ∈ m
 | [],h => by cases h
 | (g,bs,u) :: m,h => by
  unfold XM at h
  cases e : (Nat.beq f g && WQ args bs) with
  | true =>
   rw [e] at h
   rw [Bool.and_eq_true,Nat.beq_eq] at e
   rw [e.1,YS e.2,show u=v from Option.some.inj h]
   exact List.mem_cons_self
  | false =>
   rw [e] at h
   exact List.mem_cons_of_mem _ (Xw h)
def JL : AC→Bool
 | .inl _ => true
 | .inr (k,_) => Nat.ble k 2
def XT (v : AV) : Bool := v.2.all fun x => x.2.all JL
def Ql (S : Sx) (cs : List (FuncId × Nat)) (M : Xu) : Nat→Hs→ZG
 | 0,_,_,_,_,_ => none
 | n+1,X,f,args,h,nx => match XM f args M with
  | some v => some (v,h,nx)
  | none => match Un f cs with
   | none => Zc (S.plus X) (Ql S cs M n X) f args h nx
   | some c => match Yk S X h c args with
    | none => Zc (S.plus X) (Ql S cs M n X) f args h nx
    | some (l,r) => bif Nat.beq 1 r then Zc (S.plus (YM l X)) (Ql S cs M n (YM l X)) f args h nx
     else Xe h nx ((ZK l X).map fun X' => Jd (S.plus X') (Zc (S.plus X') (Ql S cs M n X') f args h nx))
def Xk (S : Sx) (E : Ev S.nb) (w0 : World) (M : Xu) : Prop := ∀ f args v,(f,args,v) ∈ M→∀ (γ : Nat→Option Nat) (w : World) (vs : List Value),WI w0 γ w→A2 (avOn (cOn E S.K γ w)) args vs →
 Calls S.P f vs.toArray w fun e w' => ∃ r,e=.returned r∧(∀ wr nx,(∀ b ∈ wr,IA γ b)→Ef S.nb w0 wr nx nx γ w γ w')∧avOn (cOn E S.K γ w') v r
section
variable {S : Sx} {E : Ev S.nb} {w0 : World}
theorem Uu {K K' : List (FuncId × List AC)} {γ γ' : Nat→Option Nat} {w : World} {d : Nat} {c : AC} {v : Value} (hc : JL c=true) (h : QE E K γ w d c v) : QE E K' γ' w d c v := by
 cases c with
 | inl u =>
  unfold QE at h ⊢
  exact h
 | inr t =>
  obtain ⟨k,a,b,n,c⟩ := t
  have hk : k≤2 := by
   unfold JL at hc
   rw [Nat.ble_eq] at hc
   exact hc
  match k,hk with
  | 0,_ =>
   unfold QE at h ⊢
   exact h
  | 1,_ =>
   unfold QE at h ⊢
   exact h
  | 2,_ =>
   unfold QE at h ⊢
   exact h
theorem Xq {α : Type} {R R' : α→Value→Prop} {P : α→Prop} (h : ∀ a v,P a→R a v→R' a v) : ∀ {l : List α} {vs : List Value},(∀ a ∈ l,P a)→A2 R l vs→A2 R' l vs
 | [],[],_,_ => trivial
 | _ :: _,_ :: _,hp,q => ⟨h _ _ (hp _ List.mem_cons_self) q.1,Xq h (fun a ha => hp a (List.mem_cons_of_mem _ ha)) q.2⟩
 | [],_ :: _,_,q => q.elim
 | _ :: _,[],_,q => q.elim
theorem Uo {K K' : List (FuncId × List AC)} {γ γ' : Nat→Option Nat} {w : World} {x : AV} {v : Value} (hx : XT x=true) (h : avOn (cOn E K γ w) x v) : avOn (cOn E K' γ' w) x v := by
 unfold XT at hx
 rw [List.all_eq_true] at hx
 have one : ∀ (y : A1) u,(∀ c ∈ y.2,JL c=true)→a1On (cOn E K γ w) y u→a1On (cOn E K' γ' w) y u := fun y u hy q => by
  obtain ⟨b,cs⟩ := y
  cases b with
  | true =>
   obtain ⟨us,e,q⟩ := q
   exact ⟨us,e,Xq (P := fun c => JL c=true) (fun _ _ hc q => Uu hc q) hy q⟩
  | false => exact Xq (P := fun c => JL c=true) (fun _ _ hc q => Uu hc q) hy q
 have all : ∀ y ∈ x.2,∀ c ∈ y.2,JL c=true := fun y hy c hc => (List.all_eq_true.1 (hx y hy)) c hc
 obtain ⟨b,ys⟩ := x
 cases b with
 | true =>
  obtain ⟨us,e,q⟩ := h
  exact ⟨us,e,Xq (P := fun y : A1 => ∀ c ∈ y.2,JL c=true) (fun y u hy q => one y u hy q) all q⟩
 | false => exact Xq (P := fun y : A1 => ∀ c ∈ y.2,JL c=true) (fun y u hy q => one y u hy q) all h
variable {T : Hs→Prop} {z : Nat→Prop}
theorem Ur {cs : List (FuncId × Nat)} {M : Xu} (hm : S.P.follows .mixedOrders=true) (hM : Xk S E w0 M) (hN : ∀ X,T X→Knows (S.plus X) E) (hP : ∀ X,T X→Jq (S.plus X) E w0) (hk : Zu S T z)
  (hs : ∀ X,T X→∀ l s r,sqN S l=some s→(S.plus X).kn 0 s 0=some r→(Nat.beq 1 r=true→∀ d ∈ l,z d)∧(Nat.beq 1 r=false→∃ d ∈ l,¬ z d)) : ∀ n X,T X→QY S E w0 (Ql S cs M n X)
 | 0,_,_ => fun _ _ _ _ _ h => by cases h
 | n+1,X,hX => fun f args h nx p hp => by
  have body : ∀ Y,T Y→QY S E w0 (Zc (S.plus Y) (Ql S cs M n Y)) := fun Y hY => XE (S := S.plus Y) hm (hN Y hY) (hP Y hY) (Ur hm hM hN hP hk hs n Y hY)
  unfold Ql at hp
  split at hp
  ·rename_i v hv
   cases hp
   intro γ w vs hi hA hb hlt hf
   refine (hM f args v (Xw hv) γ w vs hi hA).mono ?_
   rintro _ w' ⟨r,rfl,hef,hr⟩
   have live : ∀ b ∈ h.map (·.1),IA γ b := fun b hb' => by
    obtain ⟨x,hx,rfl⟩ := List.mem_map.1 hb'
    obtain ⟨_,_,_,_,hl,_⟩ := hb x hx
    exact hl
   exact ⟨r,γ,rfl,hef _ _ live,hr,fun x hx => (hef [] nx Yi).box hi (hb x hx) (by simp)⟩
  ·split at hp
   ·exact body X hX f args h nx p hp
   ·split at hp
    ·exact body X hX f args h nx p hp
    rename_i l r hk'
    obtain ⟨hl,s,h1,h2⟩ := Jp hk'
    have h3 := hp
    obtain ⟨a1,a0⟩ := hs X hX _ s r h1 h2
    cases e : Nat.beq 1 r with
    | true =>
     rw [e] at h3
     exact body _ (ZE hk hX hl fun a ha => a1 e _ (List.mem_map_of_mem ha)) f args h nx p h3
    | false =>
     rw [e] at h3
     obtain ⟨d,hd,hz⟩ := a0 e
     obtain ⟨a,ha,rfl⟩ := List.mem_map.1 hd
     obtain ⟨X',m1,m2⟩ := Zm hk hX hl ⟨a,ha,hz⟩
     replace h3 : Xe h nx ((ZK l X).map fun X' => Jd (S.plus X') (Zc (S.plus X') (Ql S cs M n X') f args h nx))=some p := h3
     unfold Xe at h3
     split at h3
     ·rename_i p0 rs hrs
      rw [Option.bind_eq_some_iff] at h3
      obtain ⟨b,hb,h4⟩ := h3
      rw [ifO_some,List.all_eq_true] at h4
      obtain ⟨h5,h6⟩ := h4
      cases h6
      obtain ⟨h',nx',q1,q2,q3⟩ := Ju (h5 _ (List.mem_map_of_mem m1))
      intro γ w vs hi hA hb hlt hf
      refine (Yy (hN X' m2) (body X' m2) f args h nx _ q1 γ w vs hi hA hb hlt fun b g1 g2 => hf b g1 (Nat.lt_of_lt_of_le g2 q2)).mono ?_
      rintro _ w' ⟨r',γ',rfl,hef,hv,hx⟩
      exact ⟨r',γ',rfl,hef.wide (Nat.le_refl _) q2,hv,fun x hh => hx x (q3 x hh)⟩
     ·cases h3
theorem OZ {K1 K2 : List (FuncId × List AC)} {H1 H2 : Hs} {M : Xu} {f : FuncId} {args : List AV} {v : AV} {p : List HB × Nat} {call : ZG} (hC : QY { S with H := H1,K := K1 } E w0 call) (hr : call f args [] 0=some (v,p)) (ha : args.all XT=true) (hv : XT v=true) (hM : Xk { S with H := H2,K := K2 } E w0 M) : Xk { S with H := H2,K := K2 } E w0 ((f,args,v) :: M) := fun g bs u hmem => by
 rcases List.mem_cons.1 hmem with e | hmem
 ·cases e
  intro γ w vs hi hA
  rw [List.all_eq_true] at ha
  refine (hC f args [] 0 (v,p) hr (fun _ => none) w vs ⟨hi.bel,(fun _ _ h => by cases h)⟩ (Xq (P := fun x => XT x=true) (fun _ _ hx q => Uo hx q) ha hA) (fun x hx => by cases hx) (fun x hx => by cases hx) (fun _ _ _ => rfl)).mono ?_
  rintro _ w' ⟨r,γ',rfl,hef,hr,_⟩
  refine ⟨r,rfl,fun wr nx hl => ⟨leG.refl _,fun _ _ => rfl,fun _ _ h => Or.inl h,⟨hef.wi.bel,fun b G q => ⟨(hi.lo b G q).1,Nat.lt_of_lt_of_le (hi.lo b G q).2 hef.gr.size⟩⟩,hef.gr,fun G hG _ => hef.keep G hG (fun b hb => by cases hb),hl⟩,Uo hv hr⟩
 ·exact hM g bs u hmem
def XO (S : Sx) (cs : List (FuncId × Nat)) (k : Nat) : Xu→Bool
 | (f,args,v) :: M => (match Ql S cs M k [] f args [] 0 with
  | some (u,_) => WQ [u] [v]
  | none => false) && (args.all XT && XT v)
 | [] => false
def Xg (S : Sx) (cs : List (FuncId × Nat)) (k : Nat) : Nat→Xu→Bool
 | 0,_ => true
 | n+1,M => XO S cs k M && Xg S cs k n M.tail
def qA (l : List Nat) : AV := (false,[(true,l.flatMap Oo)])
def rC (a : Nat) : AC := .inr (0,0,a,0,0)
def rA (l : List Nat) : AV := (false,[(true,l.map rC)])
theorem OX : Xk S E w0 [] := fun _ _ _ h => by cases h
end
end Cx
/- VPE -/
namespace Go.Proofs.YthagmklephpnhaaGreatDoor
open Cx Go Go.RowKit
section
variable {N : List Nd} {H : List (Nat × Nat × Nat × Nat)} {K : List (FuncId × List AC)} {L C : List (List Nat × Nat)} {Z : List Nat} {q : Nat→Rat} {σ : Nat→ByteArray} {cl : List FuncId} {cs pr : List (FuncId × Nat)} {M : Xu} {w : World}
theorem XV (Y : Hy N H L C Z q σ) (hc : ∀ f ∈ cl,Closed f) (hm : (Tryz.prog).follows .mixedOrders=true) (hp : Zf w) (hM : Xk (sx Tryz.prog N H K L C Z (prC cl)) (evS q σ) w M) (k : Nat) : QY (sx Tryz.prog N H K L C Z (prC cl)) (evS q σ) w (Ql (sx Tryz.prog N H K L C Z (prC cl)) cs M k []) :=
 Ur (S := sx Tryz.prog N H K L C Z (prC cl)) (E := evS q σ) (w0 := w) (T := fun X => Hy N (X ++ H) L C Z q σ) (z := fun d => q d=0) hm hM (fun X hX => TJ hX) (fun X hX => Ou hX hp hc) XF (fun X hX l s r h1 h2 => by
  have e := hX.k0 s r h2
  have g := Yz hX h1
  refine ⟨fun h => g.1 (e.1 h),fun h => ?_⟩
  have hn : ¬ ∀ d ∈ l,q d=0 := fun q' => by
   rw [e.2 (g.2 q')] at h
   cases h
  simpa using hn) k [] Y
def Zl (N : List Nd) (L C : List (List Nat × Nat)) (Z : List Nat) (q : Nat→Rat) (σ : Nat→ByteArray) (cl : List FuncId) (w : World) (M : Xu) : Prop := ∀ H K,Xk (sx Tryz.prog N H K L C Z (prC cl)) (evS q σ) w M
theorem Uq : Zl N L C Z q σ cl w [] := fun _ _ => OX
theorem YT {H1 : List (Nat × Nat × Nat × Nat)} (Y : Hy N H1 L C Z q σ) (hc : ∀ f ∈ cl,Closed f) (hm : (Tryz.prog).follows .mixedOrders=true) (hp : Zf w) {f : FuncId} {args : List AV} {v : AV} (k : Nat) (hr : XO (sx Tryz.prog N H1 [] L C Z (prC cl)) cs k ((f,args,v) :: M)=true) (hM : Zl N L C Z q σ cl w M) : Zl N L C Z q σ cl w ((f,args,v) :: M) := fun H K => by
 unfold XO at hr
 simp only [Bool.and_eq_true] at hr
 obtain ⟨h1,h2,h3⟩ := hr
 split at h1
 ·rename_i u p hu
  have e := YS h1
  cases e
  exact OZ (S := sx Tryz.prog N H K L C Z (prC cl)) (K1 := []) (H1 := H1) (K2 := K) (H2 := H) (XV (K := []) (cs := cs) Y hc hm hp (hM H1 []) k) hu h2 h3 (hM H K)
 ·cases h1
theorem Vl {i : Nat} {H1 : List (Nat × Nat × Nat × Nat)} (Y : Hy N H1 L C Z q σ) (hc : ∀ f ∈ cl,Closed f) (hm : (Tryz.prog).follows .mixedOrders=true) (hp : Zf w) {k : Nat} (hr : XO (sx Tryz.prog N H1 [] L C Z (prC cl)) cs k (M.drop i)=true) (hM : Zl N L C Z q σ cl w (M.drop (i+1))) : Zl N L C Z q σ cl w (M.drop i) := by
 rw [← List.tail_drop] at hM
 generalize M.drop i=D at *
 match D with
 | [] => cases hr
 | (f,args,v) :: D => exact YT Y hc hm hp k hr hM
theorem JF {H1 : List (Nat × Nat × Nat × Nat)} (Y : Hy N H1 L C Z q σ) (hc : ∀ f ∈ cl,Closed f) (hm : (Tryz.prog).follows .mixedOrders=true) (hp : Zf w) {k : Nat} : ∀ (n : Nat) {M : Xu},Xg (sx Tryz.prog N H1 [] L C Z (prC cl)) cs k n M=true→Zl N L C Z q σ cl w (M.drop n)→Zl N L C Z q σ cl w M
 | 0,_,_,h => h
 | n+1,M,hr,h => by
  unfold Xg at hr
  rw [Bool.and_eq_true] at hr
  have h1 := JF Y hc hm hp n hr.2 (by rw [List.drop_tail]; exact h)
  exact Vl (i := 0) Y hc hm hp hr.1 (by rw [Nat.zero_add,List.drop_one]; exact h1)
theorem Wd {f : FuncId} {args : List AV} {vs : List Value} (k : Nat) (Y : Hy N H L C Z q σ) (hc : ∀ f ∈ cl,Closed f) (hm : (Tryz.prog).follows .mixedOrders=true) (hp : Zf w) (hM : Zl N L C Z q σ cl w M) (hr : (Ql (sx Tryz.prog N H K L C Z (prC cl)) cs M k [] f args [] 0).map (·.1)=some (kB true))
  (hA : A2 (avOn (cOn (evS q σ) K (fun _ => none) w)) args vs) : Calls Tryz.prog f vs.toArray w fun e w' => Below w.heap.size w w'∧e=.returned (.bool true) := by
 rw [Option.map_eq_some_iff] at hr
 obtain ⟨⟨v,p⟩,h1,h2⟩ := hr
 dsimp only at h2
 subst h2
 refine (XV (cs := cs) Y hc hm hp (hM H K) k f args [] 0 (kB true,p) h1 (fun _ => none) w vs ⟨Below.refl _ _,(fun _ _ h => by cases h)⟩ hA (fun x hx => by cases hx) (fun x hx => by cases hx) (fun _ _ _ => rfl)).mono ?_
 rintro _ w' ⟨r,γ',rfl,hef,hv,_⟩
 exact ⟨hef.wi.bel,by rw [show r=.bool true from (QU (v := kB true) (c := .inl (.bool true)) rfl hv).1]⟩
end
end Go.Proofs.YthagmklephpnhaaGreatDoor
/- MQR -/
namespace Go.Proofs.YthagmklephpnhaaGreatDoor
open Go.RowKit Cx
def qR_N : List Nd := [(1,[0]),(1,[1]),(1,[2]),(1,[3]),(8,[0,0,1,2,3]),(8,[1,0,1,2,3]),(8,[2,0,1,2,3]),(8,[3,0,1,2,3]),(0,[0,0,1]),(3,[8,5]),(3,[8,6]),(3,[8,7]),(4,[4,4]),(4,[5,5]),(2,[8,13]),(4,[6,6]),(2,[14,15]),(4,[7,7]),(2,[16,17]),(2,[12,18]),(1,[4]),(1,[5]),(1,[6]),(4,[4,8]),(4,[5,20]),(2,[8,24]),(4,[6,21]),(2,[25,26]),(4,[7,22]),(2,[27,28]),(3,[23,29]),(4,[20,4]),(4,[21,4]),(4,[22,4]),(4,[5,8]),(4,[6,8]),(4,[7,8]),(2,[31,34]),(2,[32,35]),(2,[33,36]),(4,[6,22]),(4,[7,21]),(3,[40,41]),(4,[7,20]),(4,[5,22]),(3,[43,44]),(4,[5,21]),(4,[6,20]),(3,[46,47]),(2,[37,42]),(2,[38,45]),(2,[39,48]),(4,[30,4]),(4,[49,9]),(2,[8,53]),(4,[50,10]),(2,[54,55]),(4,[51,11]),(2,[56,57]),(3,[52,58]),(4,[9,30]),(4,[10,30]),(4,[11,30]),(4,[49,4]),(4,[50,4]),(4,[51,4]),(2,[60,63]),(2,[61,64]),(2,[62,65]),(4,[50,11]),(4,[51,10]),(3,[69,70]),(4,[51,9]),(4,[49,11]),(3,[72,73]),(4,[49,10]),(4,[50,9]),(3,[75,76]),(2,[66,71]),(2,[67,74]),(2,[68,77]),(6,[78,19]),(6,[79,19]),(6,[80,19]),(0,[0,1,1]),(4,[5,84]),(2,[8,85]),(2,[86,35]),(2,[87,36]),(3,[23,88]),(4,[84,4]),(4,[8,4]),(2,[90,34]),(2,[91,35]),(2,[91,36]),(3,[35,36]),(4,[7,84]),(3,[96,34]),(4,[6,84]),(3,[34,98]),(2,[92,95]),(2,[93,97]),(2,[94,99]),(4,[89,4]),(4,[100,9]),(2,[8,104]),(4,[101,10]),(2,[105,106]),(4,[102,11]),(2,[107,108]),(3,[103,109]),(4,[9,89]),(4,[10,89]),(4,[11,89]),(4,[100,4]),(4,[101,4]),(4,[102,4]),(2,[111,114]),(2,[112,115]),(2,[113,116]),(4,[101,11]),(4,[102,10]),(3,[120,121]),(4,[102,9]),(4,[100,11]),(3,[123,124]),(4,[100,10]),(4,[101,9]),(3,[126,127]),(2,[117,122]),(2,[118,125]),(2,[119,128]),(6,[129,19]),(6,[130,19]),(6,[131,19]),(2,[8,34]),(2,[135,98]),(2,[136,36]),(3,[23,137]),(2,[91,34]),(2,[90,35]),(3,[35,96]),(3,[36,34]),(3,[85,35]),(2,[139,141]),(2,[140,142]),(2,[94,143]),(4,[138,4]),(4,[144,9]),(2,[8,148]),(4,[145,10]),(2,[149,150]),(4,[146,11]),(2,[151,152]),(3,[147,153]),(4,[9,138]),(4,[10,138]),(4,[11,138]),(4,[144,4]),(4,[145,4]),(4,[146,4]),(2,[155,158]),(2,[156,159]),(2,[157,160]),(4,[145,11]),(4,[146,10]),(3,[164,165]),(4,[146,9]),(4,[144,11]),(3,[167,168]),(4,[144,10]),(4,[145,9]),(3,[170,171]),(2,[161,166]),(2,[162,169]),(2,[163,172]),(6,[173,19]),(6,[174,19]),(6,[175,19]),(2,[135,35]),(2,[179,96]),(3,[23,180]),(2,[90,36]),(3,[98,36]),(3,[36,85]),(3,[34,35]),(2,[139,183]),(2,[93,184]),(2,[182,185]),(4,[181,4]),(4,[186,9]),(2,[8,190]),(4,[187,10]),(2,[191,192]),(4,[188,11]),(2,[193,194]),(3,[189,195]),(4,[9,181]),(4,[10,181]),(4,[11,181]),(4,[186,4]),(4,[187,4]),(4,[188,4]),(2,[197,200]),(2,[198,201]),(2,[199,202]),(4,[187,11]),(4,[188,10]),(3,[206,207]),(4,[188,9]),(4,[186,11]),(3,[209,210]),(4,[186,10]),(4,[187,9]),(3,[212,213]),(2,[203,208]),(2,[204,211]),(2,[205,214]),(6,[215,19]),(6,[216,19]),(6,[217,19]),(4,[0,0]),(4,[1,1]),(4,[2,2]),(4,[3,3]),(2,[221,222]),(2,[225,223]),(2,[226,224]),(4,[84,8]),(4,[228,0]),(2,[8,229]),(4,[228,1]),(2,[8,231]),(4,[228,2]),(2,[8,233]),(4,[228,3]),(2,[8,235]),(4,[84,81]),(4,[237,0]),(2,[232,238]),(0,[1,1,1]),(4,[240,81]),(4,[241,1]),(2,[230,242]),(4,[237,2]),(2,[236,244]),(4,[241,3]),(2,[234,246]),(4,[84,82]),(4,[248,0]),(2,[247,249]),(4,[240,82]),(4,[251,1]),(2,[245,252]),(4,[251,2]),(2,[243,254]),(4,[248,3]),(2,[239,256]),(4,[84,83]),(4,[258,0]),(2,[253,259]),(4,[258,1]),(2,[250,261]),(4,[240,83]),(4,[263,2]),(2,[257,264]),(4,[263,3]),(2,[255,266]),(4,[84,0]),(4,[268,8]),(2,[8,269]),(4,[268,20]),(2,[8,271]),(4,[268,21]),(2,[8,273]),(4,[268,22]),(2,[8,275]),(4,[84,1]),(4,[277,8]),(2,[272,278]),(4,[240,1]),(4,[280,20]),(2,[270,281]),(4,[277,21]),(2,[276,283]),(4,[280,22]),(2,[274,285]),(4,[84,2]),(4,[287,8]),(2,[286,288]),(4,[240,2]),(4,[290,20]),(2,[284,291]),(4,[290,21]),(2,[282,293]),(4,[287,22]),(2,[279,295]),(4,[84,3]),(4,[297,8]),(2,[292,298]),(4,[297,20]),(2,[289,300]),(4,[240,3]),(4,[302,21]),(2,[296,303]),(4,[302,22]),(2,[294,305]),(4,[132,20]),(4,[176,21]),(4,[218,22]),(2,[307,308]),(2,[310,309]),(4,[133,20]),(4,[177,21]),(4,[219,22]),(2,[312,313]),(2,[315,314]),(4,[134,20]),(4,[178,21]),(4,[220,22]),(2,[317,318]),(2,[320,319]),(3,[311,81]),(3,[316,82]),(3,[321,83]),(4,[322,322]),(4,[323,323]),(2,[325,326]),(4,[324,324]),(2,[327,328])]
def Pg : List (List Nat × Nat) := []
def GY : List (List Nat × Nat) := []
def Py : List Nat := [3495260,3495260,3495260,3495260,13981037,13981037,13981037,13981037,1,13981039,13981039,13981039,27962074,27962074,27962076,27962074,27962078,27962074,27962080,27962082,3495260,3495260,3495260,13981038,17476296,17476298,17476296,20971559,17476296,24466820,24466822,17476296,17476296,17476296,13981038,13981038,13981038,17476299,17476299,17476299,17476296,17476296,20971557,17476296,17476296,20971557,17476296,17476296,20971557,24466819,24466819,24466819,38447859,38447858,38447860,38447858,38447862,38447858,38447864,38447866,38447861,38447861,38447861,38447856,38447856,38447856,38447863,38447863,38447863,38447858,38447858,38447860,38447858,38447858,38447860,38447858,38447858,38447860,38447865,38447865,38447865,38447866,38447866,38447866,1,13981038,13981040,13981042,13981044,13981046,13981038,13981038,13981040,13981040,13981040,13981040,13981038,13981040,13981038,13981040,13981042,13981042,13981042,27962083,27962081,27962083,27962081,27962085,27962081,27962087,27962089,27962085,27962085,27962085,27962079,27962079,27962079,27962087,27962087,27962087,27962081,27962081,27962083,27962081,27962081,27962083,27962081,27962081,27962083,27962089,27962089,27962089,27962090,27962090,27962090,13981040,13981042,13981044,13981046,13981040,13981040,13981040,13981040,13981040,13981042,13981042,13981042,27962083,27962081,27962083,27962081,27962085,27962081,27962087,27962089,27962085,27962085,27962085,27962079,27962079,27962079,27962087,27962087,27962087,27962081,27962081,27962083,27962081,27962081,27962083,27962081,27962081,27962083,27962089,27962089,27962089,27962090,27962090,27962090,13981042,13981044,13981046,13981040,13981040,13981040,13981040,13981042,13981042,13981042,27962083,27962081,27962083,27962081,27962085,27962081,27962087,27962089,27962085,27962085,27962085,27962079,27962079,27962079,27962087,27962087,27962087,27962081,27962081,27962083,27962081,27962081,27962083,27962081,27962081,27962083,27962089,27962089,27962089,27962090,27962090,27962090,6990519,6990519,6990519,6990519,13981038,20971558,27962078,2,3495261,3495263,3495261,3495263,3495261,3495263,3495261,3495263,38447867,41943126,45438387,1,38447867,41943126,45438387,41943126,45438387,41943126,45438387,38447867,41943126,48933648,38447867,41943126,48933648,41943126,48933648,41943126,48933648,38447867,41943126,52428909,41943126,52428909,38447867,41943126,52428909,41943126,52428909,3495260,3495261,3495263,6990519,6990521,6990519,6990521,6990519,6990521,3495260,3495261,10485782,3495260,6990519,10485783,6990519,13981041,6990519,13981041,3495260,3495261,17476302,3495260,6990519,20971561,6990519,17476303,6990519,17476302,3495260,3495261,24466822,6990519,24466822,3495260,6990519,24466822,6990519,24466823,31457349,31457349,31457349,34952610,38447871,31457349,31457349,31457349,34952610,38447871,31457349,31457349,31457349,34952610,38447871,38447873,38447873,38447873,76895746,76895746,76895748,76895746,76895750]
def qR_D0 : List Atm := [(0,4),(0,5)]
def Jj : List Atm := [(0,4),(0,5),(0,6)]
def UV : List Atm := [(0,4),(0,5),(0,6),(1,19)]
def qR_D3 : List Atm := [(0,0),(0,4),(0,5),(0,6),(1,19)]
def qR_D4 : List Atm := [(0,0),(0,1),(0,4),(0,5),(0,6),(1,19)]
def qR_D5 : List Atm := [(0,1),(0,4),(0,5),(0,6),(1,19)]
def qR_D6 : List Atm := [(0,2),(0,4),(0,5),(0,6),(1,19)]
def qR_D7 : List Atm := [(0,2),(0,3),(0,4),(0,5),(0,6),(1,19)]
def qR_D8 : List Atm := [(0,3),(0,4),(0,5),(0,6),(1,19)]
def Hi : List Atm := [(0,0),(0,1),(0,2),(0,3),(0,4),(0,5),(0,6),(1,19)]
def qR_D10 : List Atm := [(0,0),(0,4)]
def qR_D11 : List Atm := [(0,0),(0,5)]
def qR_D12 : List Atm := [(0,0),(0,6)]
def qR_D13 : List Atm := [(0,0),(0,1),(0,4)]
def qR_D14 : List Atm := [(0,0),(0,1),(0,5),(0,6)]
def FE : List Atm := [(0,0),(0,1),(0,2),(0,3),(0,4),(0,5),(0,6)]
def EF : List Atm := [(0,4),(1,19)]
def NF : List Atm := [(0,5),(1,19)]
def Er : List Atm := [(0,6),(1,19)]
def ES : List Atm := [(0,4),(0,5),(1,19)]
def Pr : List Atm := [(0,4),(0,4),(0,5),(0,5),(0,6),(0,6),(1,19),(1,19)]
def qR_E : List (Nat × List Atm) := [(3495259,[(0,0)]),(3495259,[(0,1)]),(3495259,[(0,2)]),(3495259,[(0,3)]),(13981037,[]),(13981037,[]),(13981037,[]),(13981037,[]),(1,[]),(13981039,[]),(13981039,[]),(13981039,[]),(27962074,[]),(27962074,[]),(27962076,[]),(27962074,[]),(27962078,[]),(27962074,[]),(27962080,[]),(27962082,[]),(3495259,[(0,4)]),(3495259,[(0,5)]),(3495259,[(0,6)]),(13981038,[]),(17476296,[(0,4)]),(17476298,[(0,4)]),(17476296,[(0,5)]),(20971559,qR_D0),(17476296,[(0,6)]),(24466820,Jj),(24466822,Jj),(17476296,[(0,4)]),(17476296,[(0,5)]),(17476296,[(0,6)]),(13981038,[]),(13981038,[]),(13981038,[]),(17476299,[(0,4)]),(17476299,[(0,5)]),(17476299,[(0,6)]),(17476296,[(0,6)]),(17476296,[(0,5)]),(20971557,[(0,5),(0,6)]),(17476296,[(0,4)]),(17476296,[(0,6)]),(20971557,[(0,4),(0,6)]),(17476296,[(0,5)]),(17476296,[(0,4)]),(20971557,qR_D0),(24466819,Jj),(24466819,Jj),(24466819,Jj),(38447859,Jj),(38447858,Jj),(38447860,Jj),(38447858,Jj),(38447862,Jj),(38447858,Jj),(38447864,Jj),(38447866,Jj),(38447861,Jj),(38447861,Jj),(38447861,Jj),(38447856,Jj),(38447856,Jj),(38447856,Jj),(38447863,Jj),(38447863,Jj),(38447863,Jj),(38447858,Jj),(38447858,Jj),(38447860,Jj),(38447858,Jj),(38447858,Jj),(38447860,Jj),(38447858,Jj),(38447858,Jj),(38447860,Jj),(38447865,Jj),(38447865,Jj),(38447865,Jj),(38447866,UV),(38447866,UV),(38447866,UV),(1,[]),(13981038,[]),(13981040,[]),(13981042,[]),(13981044,[]),(13981046,[]),(13981038,[]),(13981038,[]),(13981040,[]),(13981040,[]),(13981040,[]),(13981040,[]),(13981038,[]),(13981040,[]),(13981038,[]),(13981040,[]),(13981042,[]),(13981042,[]),(13981042,[]),(27962083,[]),(27962081,[]),(27962083,[]),(27962081,[]),(27962085,[]),(27962081,[]),(27962087,[]),(27962089,[]),(27962085,[]),(27962085,[]),(27962085,[]),(27962079,[]),(27962079,[]),(27962079,[]),(27962087,[]),(27962087,[]),(27962087,[]),(27962081,[]),(27962081,[]),(27962083,[]),(27962081,[]),(27962081,[]),(27962083,[]),(27962081,[]),(27962081,[]),(27962083,[]),(27962089,[]),(27962089,[]),(27962089,[]),(27962090,[(1,19)]),(27962090,[(1,19)]),(27962090,[(1,19)]),(13981040,[]),(13981042,[]),(13981044,[]),(13981046,[]),(13981040,[]),(13981040,[]),(13981040,[]),(13981040,[]),(13981040,[]),(13981042,[]),(13981042,[]),(13981042,[]),(27962083,[]),(27962081,[]),(27962083,[]),(27962081,[]),(27962085,[]),(27962081,[]),(27962087,[]),(27962089,[]),(27962085,[]),(27962085,[]),(27962085,[]),(27962079,[]),(27962079,[]),(27962079,[]),(27962087,[]),(27962087,[]),(27962087,[]),(27962081,[]),(27962081,[]),(27962083,[]),(27962081,[]),(27962081,[]),(27962083,[]),(27962081,[]),(27962081,[]),(27962083,[]),(27962089,[]),(27962089,[]),(27962089,[]),(27962090,[(1,19)]),(27962090,[(1,19)]),(27962090,[(1,19)]),(13981042,[]),(13981044,[]),(13981046,[]),(13981040,[]),(13981040,[]),(13981040,[]),(13981040,[]),(13981042,[]),(13981042,[]),(13981042,[]),(27962083,[]),(27962081,[]),(27962083,[]),(27962081,[]),(27962085,[]),(27962081,[]),(27962087,[]),(27962089,[]),(27962085,[]),(27962085,[]),(27962085,[]),(27962079,[]),(27962079,[]),(27962079,[]),(27962087,[]),(27962087,[]),(27962087,[]),(27962081,[]),(27962081,[]),(27962083,[]),(27962081,[]),(27962081,[]),(27962083,[]),(27962081,[]),(27962081,[]),(27962083,[]),(27962089,[]),(27962089,[]),(27962089,[]),(27962090,[(1,19)]),(27962090,[(1,19)]),(27962090,[(1,19)]),(6990518,[(0,0),(0,0)]),(6990518,[(0,1),(0,1)]),(6990518,[(0,2),(0,2)]),(6990518,[(0,3),(0,3)]),(13981038,[(0,0),(0,0),(0,1),(0,1)]),(20971558,[(0,0),(0,0),(0,1),(0,1),(0,2),(0,2)]),(27962078,[(0,0),(0,0),(0,1),(0,1),(0,2),(0,2),(0,3),(0,3)]),(2,[]),(3495261,[(0,0)]),(3495263,[(0,0)]),(3495261,[(0,1)]),(3495263,[(0,1)]),(3495261,[(0,2)]),(3495263,[(0,2)]),(3495261,[(0,3)]),(3495263,[(0,3)]),(38447867,UV),(41943126,qR_D3),(45438387,qR_D4),(1,[]),(38447867,UV),(41943126,qR_D5),(45438387,qR_D4),(41943126,qR_D6),(45438387,qR_D7),(41943126,qR_D8),(45438387,qR_D7),(38447867,UV),(41943126,qR_D3),(48933648,[(0,0),(0,2),(0,3),(0,4),(0,5),(0,6),(1,19)]),(38447867,UV),(41943126,qR_D5),(48933648,[(0,1),(0,2),(0,3),(0,4),(0,5),(0,6),(1,19)]),(41943126,qR_D6),(48933648,[(0,0),(0,1),(0,2),(0,4),(0,5),(0,6),(1,19)]),(41943126,qR_D8),(48933648,[(0,0),(0,1),(0,3),(0,4),(0,5),(0,6),(1,19)]),(38447867,UV),(41943126,qR_D3),(52428909,Hi),(41943126,qR_D5),(52428909,Hi),(38447867,UV),(41943126,qR_D6),(52428909,Hi),(41943126,qR_D8),(52428909,Hi),(3495260,[(0,0)]),(3495261,[(0,0)]),(3495263,[(0,0)]),(6990519,qR_D10),(6990521,qR_D10),(6990519,qR_D11),(6990521,qR_D11),(6990519,qR_D12),(6990521,qR_D12),(3495260,[(0,1)]),(3495261,[(0,1)]),(10485782,qR_D13),(3495260,[(0,1)]),(6990519,[(0,1),(0,4)]),(10485783,qR_D13),(6990519,[(0,1),(0,5)]),(13981041,qR_D14),(6990519,[(0,1),(0,6)]),(13981041,qR_D14),(3495260,[(0,2)]),(3495261,[(0,2)]),(17476302,[(0,0),(0,1),(0,2),(0,5),(0,6)]),(3495260,[(0,2)]),(6990519,[(0,2),(0,4)]),(20971561,[(0,0),(0,1),(0,2),(0,4),(0,5),(0,6)]),(6990519,[(0,2),(0,5)]),(17476303,[(0,0),(0,1),(0,2),(0,4),(0,5)]),(6990519,[(0,2),(0,6)]),(17476302,[(0,0),(0,1),(0,2),(0,4),(0,6)]),(3495260,[(0,3)]),(3495261,[(0,3)]),(24466822,FE),(6990519,[(0,3),(0,4)]),(24466822,FE),(3495260,[(0,3)]),(6990519,[(0,3),(0,5)]),(24466822,FE),(6990519,[(0,3),(0,6)]),(24466823,FE),(31457349,EF),(31457349,NF),(31457349,Er),(34952610,ES),(38447871,UV),(31457349,EF),(31457349,NF),(31457349,Er),(34952610,ES),(38447871,UV),(31457349,EF),(31457349,NF),(31457349,Er),(34952610,ES),(38447871,UV),(38447873,UV),(38447873,UV),(38447873,UV),(76895746,Pr),(76895746,Pr),(76895748,Pr),(76895746,Pr),(76895750,Pr)]
abbrev Wh (q : Nat→Rat) (σ : Nat→ByteArray) : Prop := ∀ (a : Nat) nd,qR_N[a]? = some nd→q a=Zg σ q nd
variable {q : Nat→Rat} {σ : Nat→ByteArray}
theorem LD : wfB 0 qR_N=true := by kernel_rfl
theorem qR_sz : saB qR_E 0 qR_N qR_E Py=true := by kernel_rfl
theorem qR_lt : TX qR_N Pg=true := by kernel_rfl
theorem qR_cn : Tb qR_N GY=true := by kernel_rfl
theorem LJ : cst 0 0 1=(0 : Rat) := by decide +kernel
theorem FN : cst 0 1 1=(1 : Rat) := by decide +kernel
theorem GI : cst 1 1 1=((-1) : Rat) := by decide +kernel
def qR_A : List AV := [(false,[(true,[.inr (2,0,0,0,0),.inr (2,1,0,0,0),.inr (2,2,0,0,0),.inr (2,3,0,0,0)])]),(false,[(true,[.inr (2,4,0,0,0),.inr (2,5,0,0,0),.inr (2,6,0,0,0)])])]
theorem V3s {x y z m1 m2 m3 s t : Rat} (h1 : m1=x*x) (h2 : m2=y*y) (hs : s=m1+m2) (h3 : m3=z*z) (ht : t=s+m3) : t=0 ↔ ((x=0∧y=0)∧z=0) := by
 have a1 := Zr x
 have a2 := Zr y
 have a3 := Zr z
 subst_vars
 constructor
 ·intro h
  refine ⟨⟨a1.2.1 ?_,a2.2.1 ?_⟩,a3.2.1 ?_⟩ <;> grind
 ·rintro ⟨⟨h1,h2⟩,h3⟩
  rw [h1,h2,h3]; grind
theorem Hq {a b c d e f g h i : Rat} (r11 : a*a+b*b+c*c=1) (r22 : d*d+e*e+f*f=1) (r33 : g*g+h*h+i*i=1) (r12 : a*d+b*e+c*f=0) (r13 : a*g+b*h+c*i=0) (r23 : d*g+e*h+f*i=0) (hd : 0 < a*(e*i - f*h)+b*(f*g - d*i)+c*(d*h - e*g)) :
  (e*i - f*h=a∧f*g - d*i=b∧d*h - e*g=c)∧(h*c - i*b=d∧i*a - g*c=e∧g*b - h*a=f)∧(b*f - c*e=g∧c*d - a*f=h∧a*e - b*d=i) := by
 have gram : (a*(e*i - f*h)+b*(f*g - d*i)+c*(d*h - e*g))*(a*(e*i - f*h)+b*(f*g - d*i)+c*(d*h - e*g))=(a*a+b*b+c*c)*((d*d+e*e+f*f)*(g*g+h*h+i*i) - (d*g+e*h+f*i)*(d*g+e*h+f*i)) - (a*d+b*e+c*f)*((a*d+b*e+c*f)*(g*g+h*h+i*i) - (d*g+e*h+f*i)*(a*g+b*h+c*i))+(a*g+b*h+c*i)*((a*d+b*e+c*f)*(d*g+e*h+f*i) - (d*d+e*e+f*f)*(a*g+b*h+c*i)) := by clear r11 r22 r33 r12 r13 r23 hd; grind
 rw [r11,r22,r33,r12,r13,r23] at gram
 generalize hD : a*(e*i - f*h)+b*(f*g - d*i)+c*(d*h - e*g)=D at *
 have one : D=1 := by
  have p : (D - 1)*(D+1)=0 := by grind
  rcases Rat.mul_eq_zero.1 p with q | q <;> grind
 subst one
 have l1 : (e*i - f*h)*(e*i - f*h)+(f*g - d*i)*(f*g - d*i)+(d*h - e*g)*(d*h - e*g)=1 := by
  have : (e*i - f*h)*(e*i - f*h)+(f*g - d*i)*(f*g - d*i)+(d*h - e*g)*(d*h - e*g)=(d*d+e*e+f*f)*(g*g+h*h+i*i) - (d*g+e*h+f*i)*(d*g+e*h+f*i) := by clear r11 r22 r33 r12 r13 r23 hd gram hD; grind
  rw [this,r22,r33,r23]; grind
 have l2 : (h*c - i*b)*(h*c - i*b)+(i*a - g*c)*(i*a - g*c)+(g*b - h*a)*(g*b - h*a)=1 := by
  have : (h*c - i*b)*(h*c - i*b)+(i*a - g*c)*(i*a - g*c)+(g*b - h*a)*(g*b - h*a)=(a*a+b*b+c*c)*(g*g+h*h+i*i) - (a*g+b*h+c*i)*(a*g+b*h+c*i) := by clear r11 r22 r33 r12 r13 r23 hd gram hD l1; grind
  rw [this,r11,r33,r13]; grind
 have l3 : (b*f - c*e)*(b*f - c*e)+(c*d - a*f)*(c*d - a*f)+(a*e - b*d)*(a*e - b*d)=1 := by
  have : (b*f - c*e)*(b*f - c*e)+(c*d - a*f)*(c*d - a*f)+(a*e - b*d)*(a*e - b*d)=(d*d+e*e+f*f)*(a*a+b*b+c*c) - (a*d+b*e+c*f)*(a*d+b*e+c*f) := by clear r11 r22 r33 r12 r13 r23 hd gram hD l1 l2; grind
  rw [this,r11,r22,r12]; grind
 have z : ∀ {x y z u v w : Rat},x*x+y*y+z*z=1→u*u+v*v+w*w=1→u*x+v*y+w*z=1→x=u∧y=v∧z=w := by
  intro x y z u v w p q r
  have s : (x - u)*(x - u)+(y - v)*(y - v)+(z - w)*(z - w)=0 := by grind
  have a1 := Zr (x - u)
  have a2 := Zr (y - v)
  have a3 := Zr (z - w)
  have b1 := a1.2.1 (by grind)
  have b2 := a2.2.1 (by grind)
  have b3 := a3.2.1 (by grind)
  exact ⟨by grind,by grind,by grind⟩
 refine ⟨z l1 r11 hD,z l2 r22 ?_,z l3 r33 ?_⟩
 ·rw [← hD]; clear r11 r22 r33 r12 r13 r23 gram hD l1 l2 l3; grind
 ·rw [← hD]; clear r11 r22 r33 r12 r13 r23 gram hD l1 l2 l3; grind
theorem QG {k x y : Rat} (h : k ≠ 0) (e : x*k=y*k) : x=y := by
 have : (x - y)*k=0 := by grind
 have := (Rat.mul_eq_zero.1 this).resolve_right h
 grind
theorem rot_gen {a b c d e f g h i s x y z : Rat} (r11 : a*a+b*b+c*c=1) (r22 : d*d+e*e+f*f=1) (r33 : g*g+h*h+i*i=1) (r12 : a*d+b*e+c*f=0) (r13 : a*g+b*h+c*i=0) (r23 : d*g+e*h+f*i=0) (hd : 0 < a*(e*i - f*h)+b*(f*g - d*i)+c*(d*h - e*g)) (es : s=1+a+e+i) (hs : s ≠ 0) (hx : x*s=h - f) (hy : y*s=c - g) (hz : z*s=d - b) :
  ((1+x*x - y*y - z*z)=a*(1+x*x+y*y+z*z)∧2*(x*y - z)=b*(1+x*x+y*y+z*z)∧2*(x*z+y)=c*(1+x*x+y*y+z*z))∧(2*(x*y+z)=d*(1+x*x+y*y+z*z)∧(1 - x*x+y*y - z*z)=e*(1+x*x+y*y+z*z)∧2*(y*z - x)=f*(1+x*x+y*y+z*z))∧(2*(x*z - y)=g*(1+x*x+y*y+z*z)∧2*(y*z+x)=h*(1+x*x+y*y+z*z)∧(1 - x*x - y*y+z*z)=i*(1+x*x+y*y+z*z)) := by
 obtain ⟨⟨c1,c2,c3⟩,⟨c4,c5,c6⟩,⟨c7,c8,c9⟩⟩ := Hq r11 r22 r33 r12 r13 r23 hd
 clear hd
 have k : s*s ≠ 0 := Zp hs hs
 have xx : x*x*(s*s)=(h - f)*(h - f) := by rw [← hx]; grind
 have yy : y*y*(s*s)=(c - g)*(c - g) := by rw [← hy]; grind
 have zz : z*z*(s*s)=(d - b)*(d - b) := by rw [← hz]; grind
 have xy : x*y*(s*s)=(h - f)*(c - g) := by rw [← hx,← hy]; grind
 have xz : x*z*(s*s)=(h - f)*(d - b) := by rw [← hx,← hz]; grind
 have yz : y*z*(s*s)=(c - g)*(d - b) := by rw [← hy,← hz]; grind
 have sx : x*(s*s)=(h - f)*s := by rw [← hx]; grind
 have sy : y*(s*s)=(c - g)*s := by rw [← hy]; grind
 have sz : z*(s*s)=(d - b)*s := by rw [← hz]; grind
 have n : (1+x*x+y*y+z*z)*(s*s)=4*s := by
  have : (1+x*x+y*y+z*z)*(s*s)=s*s+x*x*(s*s)+y*y*(s*s)+z*z*(s*s) := by grind
  rw [this,xx,yy,zz,es]; clear this xx yy zz xy xz yz sx sy sz hx hy hz k hs; grind
 have N : ∀ t,t*(1+x*x+y*y+z*z)*(s*s)=t*(4*s) := fun t => by rw [← n]; grind
 clear hx hy hz n
 generalize 1+x*x+y*y+z*z=M at *
 refine ⟨⟨?_,?_,?_⟩,⟨?_,?_,?_⟩,⟨?_,?_,?_⟩⟩ <;> refine QG k ?_ <;> rw [N]
 ·have : (1+x*x - y*y - z*z)*(s*s)=s*s+x*x*(s*s) - y*y*(s*s) - z*z*(s*s) := by grind
  rw [this,xx,yy,zz,es]; clear this xx yy zz xy xz yz sx sy sz N k hs; grind
 ·have : 2*(x*y - z)*(s*s)=2*(x*y*(s*s) - z*(s*s)) := by grind
  rw [this,xy,sz,es]; clear this xx yy zz xy xz yz sx sy sz N k hs; grind
 ·have : 2*(x*z+y)*(s*s)=2*(x*z*(s*s)+y*(s*s)) := by grind
  rw [this,xz,sy,es]; clear this xx yy zz xy xz yz sx sy sz N k hs; grind
 ·have : 2*(x*y+z)*(s*s)=2*(x*y*(s*s)+z*(s*s)) := by grind
  rw [this,xy,sz,es]; clear this xx yy zz xy xz yz sx sy sz N k hs; grind
 ·have : (1 - x*x+y*y - z*z)*(s*s)=s*s - x*x*(s*s)+y*y*(s*s) - z*z*(s*s) := by grind
  rw [this,xx,yy,zz,es]; clear this xx yy zz xy xz yz sx sy sz N k hs; grind
 ·have : 2*(y*z - x)*(s*s)=2*(y*z*(s*s) - x*(s*s)) := by grind
  rw [this,yz,sx,es]; clear this xx yy zz xy xz yz sx sy sz N k hs; grind
 ·have : 2*(x*z - y)*(s*s)=2*(x*z*(s*s) - y*(s*s)) := by grind
  rw [this,xz,sy,es]; clear this xx yy zz xy xz yz sx sy sz N k hs; grind
 ·have : 2*(y*z+x)*(s*s)=2*(y*z*(s*s)+x*(s*s)) := by grind
  rw [this,yz,sx,es]; clear this xx yy zz xy xz yz sx sy sz N k hs; grind
 ·have : (1 - x*x - y*y+z*z)*(s*s)=s*s - x*x*(s*s) - y*y*(s*s)+z*z*(s*s) := by grind
  rw [this,xx,yy,zz,es]; clear this xx yy zz xy xz yz sx sy sz N k hs; grind
theorem Hp {a b c d e f g h i : Rat} (r11 : a*a+b*b+c*c=1) (r22 : d*d+e*e+f*f=1) (r33 : g*g+h*h+i*i=1) (r12 : a*d+b*e+c*f=0) (r13 : a*g+b*h+c*i=0) (r23 : d*g+e*h+f*i=0) (hd : 0 < a*(e*i - f*h)+b*(f*g - d*i)+c*(d*h - e*g)) (hs : 1+a+e+i=0) :
  (d=b∧g=c∧h=f)∧(b*b=(a+1)*(e+1)∧c*c=(a+1)*(i+1)∧f*f=(e+1)*(i+1))∧(b*c=(a+1)*f∧b*f=(e+1)*c∧c*f=(i+1)*b) := by
 obtain ⟨⟨c1,c2,c3⟩,⟨c4,c5,c6⟩,⟨c7,c8,c9⟩⟩ := Hq r11 r22 r33 r12 r13 r23 hd
 clear hd
 have s : (h - f)*(h - f)+(c - g)*(c - g)+(d - b)*(d - b)=0 := by
  have : (h - f)*(h - f)+(c - g)*(c - g)+(d - b)*(d - b)=(1+a+e+i)*(3 - a - e - i) := by grind
  rw [this,hs,Rat.zero_mul]
 have a1 := Zr (h - f)
 have a2 := Zr (c - g)
 have a3 := Zr (d - b)
 have b1 := a1.2.1 (by grind)
 have b2 := a2.2.1 (by grind)
 have b3 := a3.2.1 (by grind)
 have e1 : h=f := by grind
 have e2 : g=c := by grind
 have e3 : d=b := by grind
 clear a1 a2 a3 b1 b2 b3 s
 subst e1 e2 e3
 refine ⟨⟨rfl,rfl,rfl⟩,⟨?_,?_,?_⟩,⟨?_,?_,?_⟩⟩ <;> grind
theorem rot_half {a b c e f i p y z : Rat} (hb : b*b=(a+1)*(e+1)) (hc : c*c=(a+1)*(i+1)) (hbc : b*c=(a+1)*f) (hs : 1+a+e+i=0) (ep : p=a+1) (hp : p ≠ 0) (hy : y*p=b) (hz : z*p=c) :
  (1 - y*y - z*z=a*(1+y*y+z*z)∧2*y=b*(1+y*y+z*z)∧2*z=c*(1+y*y+z*z))∧(y*y - 1 - z*z=e*(1+y*y+z*z)∧2*(y*z)=f*(1+y*y+z*z))∧(z*z - 1 - y*y=i*(1+y*y+z*z)) := by
 have yy : y*y*p=e+1 := QG hp (by
  have : y*y*p*p=(y*p)*(y*p) := by grind
  rw [this,hy,hb,ep]; grind)
 have zz : z*z*p=i+1 := QG hp (by
  have : z*z*p*p=(z*p)*(z*p) := by grind
  rw [this,hz,hc,ep]; grind)
 have yz : y*z*p=f := QG hp (by
  have : y*z*p*p=(y*p)*(z*p) := by grind
  rw [this,hy,hz,hbc,ep]; grind)
 refine ⟨⟨?_,?_,?_⟩,⟨?_,?_⟩,?_⟩ <;> refine QG hp ?_ <;> grind
structure QTab (w x y z n a b c d e f g h i : Rat) : Prop where
 hn : n ≠ 0
 en : n=w*w+x*x+y*y+z*z
 ha : a*n=w*w+x*x - y*y - z*z
 hb : b*n=2*(x*y - w*z)
 hc : c*n=2*(x*z+w*y)
 hd : d*n=2*(x*y+w*z)
 he : e*n=w*w - x*x+y*y - z*z
 hf : f*n=2*(y*z - w*x)
 hg : g*n=2*(x*z - w*y)
 hh : h*n=2*(y*z+w*x)
 hi : i*n=w*w - x*x - y*y+z*z
theorem QTab.rows {w x y z n a b c d e f g h i : Rat} (Q : QTab w x y z n a b c d e f g h i) : (a*a+b*b+c*c=1∧d*d+e*e+f*f=1∧g*g+h*h+i*i=1)∧(a*d+b*e+c*f=0∧a*g+b*h+c*i=0∧d*g+e*h+f*i=0) := by
 obtain ⟨hn,en,ha,hb,hc,hd,he,hf,hg,hh,hi⟩ := Q
 have k : n*n ≠ 0 := Zp hn hn
 have p : ∀ {p q r s t u m : Rat},(p*n)*(s*n)+(q*n)*(t*n)+(r*n)*(u*n)=m*(n*n)→p*s+q*t+r*u=m := fun {p q r s t u m} j => QG k (by rw [← j]; grind)
 refine ⟨⟨p ?_,p ?_,p ?_⟩,⟨p ?_,p ?_,p ?_⟩⟩
 ·rw [ha,hb,hc,en]; clear ha hb hc hd he hf hg hh hi k hn p; grind
 ·rw [hd,he,hf,en]; clear ha hb hc hd he hf hg hh hi k hn p; grind
 ·rw [hg,hh,hi,en]; clear ha hb hc hd he hf hg hh hi k hn p; grind
 ·rw [ha,hb,hc,hd,he,hf]; clear ha hb hc hd he hf hg hh hi k hn p en; grind
 ·rw [ha,hb,hc,hg,hh,hi]; clear ha hb hc hd he hf hg hh hi k hn p en; grind
 ·rw [hd,he,hf,hg,hh,hi]; clear ha hb hc hd he hf hg hh hi k hn p en; grind
theorem QTab.cols {w x y z n a b c d e f g h i : Rat} (Q : QTab w x y z n a b c d e f g h i) : (a*a+d*d+g*g=1∧b*b+e*e+h*h=1∧c*c+f*f+i*i=1)∧(a*b+d*e+g*h=0∧a*c+d*f+g*i=0∧b*c+e*f+h*i=0) := by
 obtain ⟨hn,en,ha,hb,hc,hd,he,hf,hg,hh,hi⟩ := Q
 have Q' : QTab (-w) x y z n a d g b e h c f i := ⟨hn,by rw [en]; grind,by rw [ha]; grind,by rw [hd]; grind,by rw [hg]; grind,by rw [hb]; grind,by rw [he]; grind,by rw [hh]; grind,by rw [hc]; grind,by rw [hf]; grind,by rw [hi]; grind⟩
 exact Q'.rows
theorem QTab.cof {w x y z n a b c d e f g h i : Rat} (Q : QTab w x y z n a b c d e f g h i) : (e*i - f*h=a∧f*g - d*i=b∧d*h - e*g=c)∧(h*c - i*b=d∧i*a - g*c=e∧g*b - h*a=f)∧(b*f - c*e=g∧c*d - a*f=h∧a*e - b*d=i) := by
 obtain ⟨hn,en,ha,hb,hc,hd,he,hf,hg,hh,hi⟩ := Q
 have k : n*n ≠ 0 := Zp hn hn
 have p : ∀ {p q r s m : Rat},(p*n)*(q*n) - (r*n)*(s*n)=(m*n)*n→p*q - r*s=m := fun {p q r s m} j => QG k (by
  have : m*(n*n)=m*n*n := by grind
  rw [this,← j]; grind)
 refine ⟨⟨p ?_,p ?_,p ?_⟩,⟨p ?_,p ?_,p ?_⟩,⟨p ?_,p ?_,p ?_⟩⟩
 ·rw [he,hi,hf,hh,ha,en]; clear ha hb hc hd he hf hg hh hi k hn p; grind
 ·rw [hf,hg,hd,hi,hb,en]; clear ha hb hc hd he hf hg hh hi k hn p; grind
 ·rw [hd,hh,he,hg,hc,en]; clear ha hb hc hd he hf hg hh hi k hn p; grind
 ·rw [hh,hc,hi,hb,hd,en]; clear ha hb hc hd he hf hg hh hi k hn p; grind
 ·rw [hi,ha,hg,hc,he,en]; clear ha hb hc hd he hf hg hh hi k hn p; grind
 ·rw [hg,hb,hh,ha,hf,en]; clear ha hb hc hd he hf hg hh hi k hn p; grind
 ·rw [hb,hf,hc,he,hg,en]; clear ha hb hc hd he hf hg hh hi k hn p; grind
 ·rw [hc,hd,ha,hf,hh,en]; clear ha hb hc hd he hf hg hh hi k hn p; grind
 ·rw [ha,he,hb,hd,hi,en]; clear ha hb hc hd he hf hg hh hi k hn p; grind
theorem QTab.comp {w x y z n a b c d e f g h i W X Y Z N A B C D E F G H I p q r s m a' b' c' d' e' f' g' h' i' : Rat} (Q : QTab w x y z n a b c d e f g h i) (R : QTab W X Y Z N A B C D E F G H I) (S : QTab p q r s m a' b' c' d' e' f' g' h' i') (ep : p=W*w - X*x - Y*y - Z*z) (eq : q=W*x+X*w+Y*z - Z*y) (er : r=W*y - X*z+Y*w+Z*x) (es : s=W*z+X*y - Y*x+Z*w) :
  (A*a+B*d+C*g=a'∧A*b+B*e+C*h=b'∧A*c+B*f+C*i=c')∧(D*a+E*d+F*g=d'∧D*b+E*e+F*h=e'∧D*c+E*f+F*i=f')∧(G*a+H*d+I*g=g'∧G*b+H*e+I*h=h'∧G*c+H*f+I*i=i') := by
 obtain ⟨hn,en,ha,hb,hc,hd,he,hf,hg,hh,hi⟩ := Q
 obtain ⟨hN,eN,hA,hB,hC,hD,hE,hF,hG,hH,hI⟩ := R
 obtain ⟨hm,em,ka,kb,kc,kd,ke,kf,kg,kh,ki⟩ := S
 have eM : m=N*n := by rw [em,ep,eq,er,es,eN,en]; clear hn en ha hb hc hd he hf hg hh hi hN eN hA hB hC hD hE hF hG hH hI hm em ka kb kc kd ke kf kg kh ki ep eq er es; grind
 have k : N*n ≠ 0 := Zp hN hn
 have t : ∀ {p1 p2 p3 q1 q2 q3 M : Rat},(p1*N)*(q1*n)+(p2*N)*(q2*n)+(p3*N)*(q3*n)=M*m→p1*q1+p2*q2+p3*q3=M := fun {p1 p2 p3 q1 q2 q3 M} j => QG k (by rw [← eM,← j,eM]; grind)
 clear em hm hn hN k eM
 refine ⟨⟨t ?_,t ?_,t ?_⟩,⟨t ?_,t ?_,t ?_⟩,⟨t ?_,t ?_,t ?_⟩⟩ <;> clear t
 ·rw [hA,hB,hC,ha,hd,hg,ka,ep,eq,er,es]; clear en ha hb hc hd he hf hg hh hi eN hA hB hC hD hE hF hG hH hI ka kb kc kd ke kf kg kh ki ep eq er es; grind
 ·rw [hA,hB,hC,hb,he,hh,kb,ep,eq,er,es]; clear en ha hb hc hd he hf hg hh hi eN hA hB hC hD hE hF hG hH hI ka kb kc kd ke kf kg kh ki ep eq er es; grind
 ·rw [hA,hB,hC,hc,hf,hi,kc,ep,eq,er,es]; clear en ha hb hc hd he hf hg hh hi eN hA hB hC hD hE hF hG hH hI ka kb kc kd ke kf kg kh ki ep eq er es; grind
 ·rw [hD,hE,hF,ha,hd,hg,kd,ep,eq,er,es]; clear en ha hb hc hd he hf hg hh hi eN hA hB hC hD hE hF hG hH hI ka kb kc kd ke kf kg kh ki ep eq er es; grind
 ·rw [hD,hE,hF,hb,he,hh,ke,ep,eq,er,es]; clear en ha hb hc hd he hf hg hh hi eN hA hB hC hD hE hF hG hH hI ka kb kc kd ke kf kg kh ki ep eq er es; grind
 ·rw [hD,hE,hF,hc,hf,hi,kf,ep,eq,er,es]; clear en ha hb hc hd he hf hg hh hi eN hA hB hC hD hE hF hG hH hI ka kb kc kd ke kf kg kh ki ep eq er es; grind
 ·rw [hG,hH,hI,ha,hd,hg,kg,ep,eq,er,es]; clear en ha hb hc hd he hf hg hh hi eN hA hB hC hD hE hF hG hH hI ka kb kc kd ke kf kg kh ki ep eq er es; grind
 ·rw [hG,hH,hI,hb,he,hh,kh,ep,eq,er,es]; clear en ha hb hc hd he hf hg hh hi eN hA hB hC hD hE hF hG hH hI ka kb kc kd ke kf kg kh ki ep eq er es; grind
 ·rw [hG,hH,hI,hc,hf,hi,ki,ep,eq,er,es]; clear en ha hb hc hd he hf hg hh hi eN hA hB hC hD hE hF hG hH hI ka kb kc kd ke kf kg kh ki ep eq er es; grind
def dm4 (a b c d e f g h i j k l m n o p : Rat) : Rat := a*(f*(k*p - l*o) - g*(j*p - l*n)+h*(j*o - k*n)) - b*(e*(k*p - l*o) - g*(i*p - l*m)+h*(i*o - k*m))+c*(e*(j*p - l*n) - f*(i*p - l*m)+h*(i*n - j*m)) - d*(e*(j*o - k*n) - f*(i*o - k*m)+g*(i*n - j*m))
theorem dm4_rows (a b c d e f g h i j k l m n o p s t u v : Rat) : dm4 (a*s) (b*s) (c*s) (d*s) (e*t) (f*t) (g*t) (h*t) (i*u) (j*u) (k*u) (l*u) (m*v) (n*v) (o*v) (p*v)=dm4 a b c d e f g h i j k l m n o p*(s*t*(u*v)) := by simp only [dm4]; grind
theorem dm4_sph (x0 y0 r0 x1 y1 r1 x2 y2 r2 x3 y3 r3 : Rat) : dm4 (2*x0) (2*y0) (r0 - 1) (r0+1) (2*x1) (2*y1) (r1 - 1) (r1+1) (2*x2) (2*y2) (r2 - 1) (r2+1) (2*x3) (2*y3) (r3 - 1) (r3+1)=8*dm4 r0 x0 y0 1 r1 x1 y1 1 r2 x2 y2 1 r3 x3 y3 1 := by simp only [dm4]; grind
theorem dm4_one (X0 Y0 Z0 X1 Y1 Z1 X2 Y2 Z2 X3 Y3 Z3 : Rat) : dm4 X0 Y0 Z0 1 X1 Y1 Z1 1 X2 Y2 Z2 1 X3 Y3 Z3 1=-((X1 - X0)*((Y2 - Y0)*(Z3 - Z0) - (Z2 - Z0)*(Y3 - Y0)) - (Y1 - Y0)*((X2 - X0)*(Z3 - Z0) - (Z2 - Z0)*(X3 - X0))+(Z1 - Z0)*((X2 - X0)*(Y3 - Y0) - (Y2 - Y0)*(X3 - X0))) := by simp only [dm4]; grind
theorem sph_flat {x0 y0 r0 n0 X0 Y0 Z0 x1 y1 r1 n1 X1 Y1 Z1 x2 y2 r2 n2 X2 Y2 Z2 x3 y3 r3 n3 X3 Y3 Z3 : Rat} (e0 : n0=r0+1) (k0 : n0 ≠ 0) (a0 : X0*n0=2*x0) (b0 : Y0*n0=2*y0) (c0 : Z0*n0=r0 - 1) (e1 : n1=r1+1) (k1 : n1 ≠ 0) (a1 : X1*n1=2*x1) (b1 : Y1*n1=2*y1) (c1 : Z1*n1=r1 - 1) (e2 : n2=r2+1) (k2 : n2 ≠ 0) (a2 : X2*n2=2*x2) (b2 : Y2*n2=2*y2) (c2 : Z2*n2=r2 - 1) (e3 : n3=r3+1) (k3 : n3 ≠ 0) (a3 : X3*n3=2*x3) (b3 : Y3*n3=2*y3) (c3 : Z3*n3=r3 - 1) : (X1 - X0)*((Y2 - Y0)*(Z3 - Z0) - (Z2 - Z0)*(Y3 - Y0)) - (Y1 - Y0)*((X2 - X0)*(Z3 - Z0) - (Z2 - Z0)*(X3 - X0))+(Z1 - Z0)*((X2 - X0)*(Y3 - Y0) - (Y2 - Y0)*(X3 - X0))=0 ↔ dm4 r0 x0 y0 1 r1 x1 y1 1 r2 x2 y2 1 r3 x3 y3 1=0 := by
 have h := dm4_rows X0 Y0 Z0 1 X1 Y1 Z1 1 X2 Y2 Z2 1 X3 Y3 Z3 1 n0 n1 n2 n3
 rw [dm4_one,a0,b0,c0,a1,b1,c1,a2,b2,c2,a3,b3,c3,Rat.one_mul,Rat.one_mul,Rat.one_mul,Rat.one_mul] at h
 have hn : n0*n1*(n2*n3) ≠ 0 := Zp (Zp k0 k1) (Zp k2 k3)
 rw [show dm4 (2*x0) (2*y0) (r0 - 1) n0 (2*x1) (2*y1) (r1 - 1) n1 (2*x2) (2*y2) (r2 - 1) n2 (2*x3) (2*y3) (r3 - 1) n3=dm4 (2*x0) (2*y0) (r0 - 1) (r0+1) (2*x1) (2*y1) (r1 - 1) (r1+1) (2*x2) (2*y2) (r2 - 1) (r2+1) (2*x3) (2*y3) (r3 - 1) (r3+1) by rw [← e0,← e1,← e2,← e3],dm4_sph] at h
 generalize (X1 - X0)*((Y2 - Y0)*(Z3 - Z0) - (Z2 - Z0)*(Y3 - Y0)) - (Y1 - Y0)*((X2 - X0)*(Z3 - Z0) - (Z2 - Z0)*(X3 - X0))+(Z1 - Z0)*((X2 - X0)*(Y3 - Y0) - (Y2 - Y0)*(X3 - X0))=A at *
 generalize dm4 r0 x0 y0 1 r1 x1 y1 1 r2 x2 y2 1 r3 x3 y3 1=B at *
 generalize n0*n1*(n2*n3)=m at *
 clear e0 e1 e2 e3 a0 a1 a2 a3 b0 b1 b2 b3 c0 c1 c2 c3 k0 k1 k2 k3
 constructor
 ·intro k
  rw [k] at h; grind
 ·intro k
  rw [k] at h
  have : A*m=0 := by grind
  exact (Rat.mul_eq_zero.1 this).resolve_right hn
structure QAct (w x y z n u1 u2 u3 x1 x2 x3 : Rat) : Prop where
 hn : n ≠ 0
 en : n=w*w+x*x+y*y+z*z
 e1 : x1*n=(w*w+x*x - y*y - z*z)*u1+2*(x*y - w*z)*u2+2*(x*z+w*y)*u3
 e2 : x2*n=2*(x*y+w*z)*u1+(w*w - x*x+y*y - z*z)*u2+2*(y*z - w*x)*u3
 e3 : x3*n=2*(x*z - w*y)*u1+2*(y*z+w*x)*u2+(w*w - x*x - y*y+z*z)*u3
theorem QTab.ex {w x y z n : Rat} (hn : n ≠ 0) (en : n=w*w+x*x+y*y+z*z) : ∃ a b c d e f g h i,QTab w x y z n a b c d e f g h i := by
 have k : ∀ t : Rat,t / n*n=t := fun t => Rat.div_mul_cancel hn
 exact ⟨_,_,_,_,_,_,_,_,_,hn,en,k _,k _,k _,k _,k _,k _,k _,k _,k _⟩
theorem QAct.tab {w x y z n u1 u2 u3 x1 x2 x3 a b c d e f g h i : Rat} (A : QAct w x y z n u1 u2 u3 x1 x2 x3) (Q : QTab w x y z n a b c d e f g h i) : x1=a*u1+b*u2+c*u3∧x2=d*u1+e*u2+f*u3∧x3=g*u1+h*u2+i*u3 := by
 obtain ⟨hn,_,e1,e2,e3⟩ := A
 obtain ⟨_,_,ha,hb,hc,hd,he,hf,hg,hh,hi⟩ := Q
 refine ⟨QG hn ?_,QG hn ?_,QG hn ?_⟩
 ·rw [e1,← ha,← hb,← hc]; grind
 ·rw [e2,← hd,← he,← hf]; grind
 ·rw [e3,← hg,← hh,← hi]; grind
theorem QAct.dot {w x y z n u1 u2 u3 x1 x2 x3 v1 v2 v3 y1 y2 y3 : Rat} (A : QAct w x y z n u1 u2 u3 x1 x2 x3) (B : QAct w x y z n v1 v2 v3 y1 y2 y3) : x1*y1+x2*y2+x3*y3=u1*v1+u2*v2+u3*v3 := by
 obtain ⟨a,b,c,d,e,f,g,h,i,Q⟩ := QTab.ex A.hn A.en
 obtain ⟨p1,p2,p3⟩ := A.tab Q
 obtain ⟨q1,q2,q3⟩ := B.tab Q
 obtain ⟨⟨c1,c2,c3⟩,⟨c4,c5,c6⟩⟩ := Q.cols
 clear A B Q
 subst p1 p2 p3 q1 q2 q3
 have : (a*u1+b*u2+c*u3)*(a*v1+b*v2+c*v3)+(d*u1+e*u2+f*u3)*(d*v1+e*v2+f*v3)+(g*u1+h*u2+i*u3)*(g*v1+h*v2+i*v3)=(a*a+d*d+g*g)*(u1*v1)+(b*b+e*e+h*h)*(u2*v2)+(c*c+f*f+i*i)*(u3*v3)+(a*b+d*e+g*h)*(u1*v2+u2*v1)+(a*c+d*f+g*i)*(u1*v3+u3*v1)+(b*c+e*f+h*i)*(u2*v3+u3*v2) := by clear c1 c2 c3 c4 c5 c6; grind
 rw [this,c1,c2,c3,c4,c5,c6]; clear this c1 c2 c3 c4 c5 c6; grind
theorem QAct.cross {w x y z n u1 u2 u3 x1 x2 x3 v1 v2 v3 y1 y2 y3 k1 k2 k3 z1 z2 z3 : Rat} (A : QAct w x y z n u1 u2 u3 x1 x2 x3) (B : QAct w x y z n v1 v2 v3 y1 y2 y3) (C : QAct w x y z n k1 k2 k3 z1 z2 z3) (h1 : k1=u2*v3 - u3*v2) (h2 : k2=u3*v1 - u1*v3) (h3 : k3=u1*v2 - u2*v1) : z1=x2*y3 - x3*y2∧z2=x3*y1 - x1*y3∧z3=x1*y2 - x2*y1 := by
 obtain ⟨a,b,c,d,e,f,g,h,i,Q⟩ := QTab.ex A.hn A.en
 obtain ⟨p1,p2,p3⟩ := A.tab Q
 obtain ⟨q1,q2,q3⟩ := B.tab Q
 obtain ⟨r1,r2,r3⟩ := C.tab Q
 obtain ⟨⟨c1,c2,c3⟩,⟨c4,c5,c6⟩,⟨c7,c8,c9⟩⟩ := Q.cof
 clear A B C Q
 subst p1 p2 p3 q1 q2 q3 r1 r2 r3 h1 h2 h3
 refine ⟨?_,?_,?_⟩
 ·have : (d*u1+e*u2+f*u3)*(g*v1+h*v2+i*v3) - (g*u1+h*u2+i*u3)*(d*v1+e*v2+f*v3)=(e*i - f*h)*(u2*v3 - u3*v2)+(f*g - d*i)*(u3*v1 - u1*v3)+(d*h - e*g)*(u1*v2 - u2*v1) := by clear c1 c2 c3 c4 c5 c6 c7 c8 c9; grind
  rw [this,c1,c2,c3]
 ·have : (g*u1+h*u2+i*u3)*(a*v1+b*v2+c*v3) - (a*u1+b*u2+c*u3)*(g*v1+h*v2+i*v3)=(h*c - i*b)*(u2*v3 - u3*v2)+(i*a - g*c)*(u3*v1 - u1*v3)+(g*b - h*a)*(u1*v2 - u2*v1) := by clear c1 c2 c3 c4 c5 c6 c7 c8 c9; grind
  rw [this,c4,c5,c6]
 ·have : (a*u1+b*u2+c*u3)*(d*v1+e*v2+f*v3) - (d*u1+e*u2+f*u3)*(a*v1+b*v2+c*v3)=(b*f - c*e)*(u2*v3 - u3*v2)+(c*d - a*f)*(u3*v1 - u1*v3)+(a*e - b*d)*(u1*v2 - u2*v1) := by clear c1 c2 c3 c4 c5 c6 c7 c8 c9; grind
  rw [this,c7,c8,c9]
theorem QAct.comp {w x y z n u1 u2 u3 x1 x2 x3 W X Y Z N y1 y2 y3 p q r s m t1 t2 t3 : Rat} (A : QAct w x y z n u1 u2 u3 x1 x2 x3) (B : QAct W X Y Z N x1 x2 x3 y1 y2 y3) (C : QAct p q r s m u1 u2 u3 t1 t2 t3) (ep : p=W*w - X*x - Y*y - Z*z) (eq : q=W*x+X*w+Y*z - Z*y) (er : r=W*y - X*z+Y*w+Z*x) (es : s=W*z+X*y - Y*x+Z*w) : y1=t1∧y2=t2∧y3=t3 := by
 obtain ⟨a,b,c,d,e,f,g,h,i,Q⟩ := QTab.ex A.hn A.en
 obtain ⟨a1,b1,c1,d1,e1,f1,g1,h1,i1,R⟩ := QTab.ex B.hn B.en
 obtain ⟨a2,b2,c2,d2,e2,f2,g2,h2,i2,S⟩ := QTab.ex C.hn C.en
 obtain ⟨⟨k1,k2,k3⟩,⟨k4,k5,k6⟩,⟨k7,k8,k9⟩⟩ := QTab.comp Q R S ep eq er es
 obtain ⟨p1,p2,p3⟩ := A.tab Q
 obtain ⟨q1,q2,q3⟩ := B.tab R
 obtain ⟨r1,r2,r3⟩ := C.tab S
 clear A B C Q R S ep eq er es
 subst k1 k2 k3 k4 k5 k6 k7 k8 k9 q1 q2 q3 r1 r2 r3 p1 p2 p3
 refine ⟨?_,?_,?_⟩ <;> grind
theorem norm_mul {w x y z W X Y Z p q r s : Rat} (ep : p=W*w - X*x - Y*y - Z*z) (eq : q=W*x+X*w+Y*z - Z*y) (er : r=W*y - X*z+Y*w+Z*x) (es : s=W*z+X*y - Y*x+Z*w) : p*p+q*q+r*r+s*s=(W*W+X*X+Y*Y+Z*Z)*(w*w+x*x+y*y+z*z) := by
 subst ep eq er es; grind
theorem QTab.own {w x y z n a b c d e f g h i : Rat} (Q : QTab w x y z n a b c d e f g h i) : a*x+b*y+c*z=x∧d*x+e*y+f*z=y∧g*x+h*y+i*z=z := by
 obtain ⟨hn,en,ha,hb,hc,hd,he,hf,hg,hh,hi⟩ := Q
 refine ⟨QG hn ?_,QG hn ?_,QG hn ?_⟩
 ·have : (a*x+b*y+c*z)*n=(a*n)*x+(b*n)*y+(c*n)*z := by grind
  rw [this,ha,hb,hc,en]; clear this ha hb hc hd he hf hg hh hi hn en; grind
 ·have : (d*x+e*y+f*z)*n=(d*n)*x+(e*n)*y+(f*n)*z := by grind
  rw [this,hd,he,hf,en]; clear this ha hb hc hd he hf hg hh hi hn en; grind
 ·have : (g*x+h*y+i*z)*n=(g*n)*x+(h*n)*y+(i*n)*z := by grind
  rw [this,hg,hh,hi,en]; clear this ha hb hc hd he hf hg hh hi hn en; grind
theorem QTab.det {w x y z n a b c d e f g h i : Rat} (Q : QTab w x y z n a b c d e f g h i) : 0 < a*(e*i - f*h)+b*(f*g - d*i)+c*(d*h - e*g) := by
 obtain ⟨⟨c1,c2,c3⟩,_⟩ := Q.cof
 obtain ⟨⟨r,_⟩,_⟩ := Q.rows
 rw [c1,c2,c3,r]; decide
theorem sq2_one (x y : Rat) : 0 < x*x+y*y+1 := by
 have a := Zr x
 have b := Zr y
 grind
theorem sph_one {x y r n X Y Z : Rat} (er : r=x*x+y*y) (en : n=r+1) (a : X*n=2*x) (b : Y*n=2*y) (c : Z*n=r - 1) : n ≠ 0∧X*X+Y*Y+Z*Z=1∧1 - Z ≠ 0∧X=x*(1 - Z)∧Y=y*(1 - Z) := by
 have hn : n ≠ 0 := by
  have := sq2_one x y
  rw [en,er]; grind
 have k : (1 - Z)*n=2 := by
  have : (1 - Z)*n=n - Z*n := by grind
  rw [this,c,en]; grind
 refine ⟨hn,QG (Zp hn hn) ?_,?_,QG hn ?_,QG hn ?_⟩
 ·have : (X*X+Y*Y+Z*Z)*(n*n)=(X*n)*(X*n)+(Y*n)*(Y*n)+(Z*n)*(Z*n) := by grind
  rw [this,a,b,c,en,er]; clear this a b c en er k hn; grind
 ·intro h
  rw [h,Rat.zero_mul] at k; exact absurd k (by decide)
 ·have : x*(1 - Z)*n=x*((1 - Z)*n) := by grind
  rw [this,k,a]; grind
 ·have : y*(1 - Z)*n=y*((1 - Z)*n) := by grind
  rw [this,k,b]; grind
theorem QTab.scale {w x y z n a b c d e f g h i k W X Y Z N : Rat} (Q : QTab w x y z n a b c d e f g h i) (hk : k ≠ 0) (ew : W=w*k) (ex : X=x*k) (ey : Y=y*k) (ez : Z=z*k) (eN : N=W*W+X*X+Y*Y+Z*Z) : QTab W X Y Z N a b c d e f g h i := by
 obtain ⟨hn,en,ha,hb,hc,hd,he,hf,hg,hh,hi⟩ := Q
 have eM : N=n*(k*k) := by rw [eN,ew,ex,ey,ez,en]; clear hn en ha hb hc hd he hf hg hh hi hk eN ew ex ey ez; grind
 have t : ∀ {p r : Rat},p*n=r→p*N=r*(k*k) := fun {p r} j => by rw [eM,← j]; grind
 refine ⟨by rw [eM]; exact Zp hn (Zp hk hk),eN,(t ha).trans ?_,(t hb).trans ?_,(t hc).trans ?_,(t hd).trans ?_,(t he).trans ?_,(t hf).trans ?_,(t hg).trans ?_,(t hh).trans ?_,(t hi).trans ?_⟩ <;> (rw [ew,ex,ey,ez]; clear t eM hn en ha hb hc hd he hf hg hh hi hk eN ew ex ey ez; grind)
theorem QTab.plain {F0 F1 F2 F3 m a b c d e f g h i r q0 q1 q2 q3 k P0 P1 P2 P3 N : Rat} (Q : QTab F0 F1 F2 F3 m a b c d e f g h i) (hr : r ≠ 0) (hk : k ≠ 0) (x0 : q0=F0 / r) (x1 : q1=F1 / r) (x2 : q2=F2 / r) (x3 : q3=F3 / r) (p0 : P0=q0*k) (p1 : P1=q1*k) (p2 : P2=q2*k) (p3 : P3=q3*k) (eN : N=P0*P0+P1*P1+P2*P2+P3*P3) : QTab P0 P1 P2 P3 N a b c d e f g h i := by
 have hkr : k / r ≠ 0 := fun j => hk (by rw [← Rat.div_mul_cancel hr (a := k),j,Rat.zero_mul])
 have t : ∀ F : Rat,F / r*k=F*(k / r) := fun F => by rw [Rat.div_def,Rat.div_def]; grind
 exact Q.scale hkr (by rw [p0,x0,t]) (by rw [p1,x1,t]) (by rw [p2,x2,t]) (by rw [p3,x3,t]) eN
theorem one_tab {x y z a b c d e f g h i : Rat} (r : ((1+x*x - y*y - z*z)=a*(1+x*x+y*y+z*z)∧2*(x*y - z)=b*(1+x*x+y*y+z*z)∧2*(x*z+y)=c*(1+x*x+y*y+z*z))∧(2*(x*y+z)=d*(1+x*x+y*y+z*z)∧(1 - x*x+y*y - z*z)=e*(1+x*x+y*y+z*z)∧2*(y*z - x)=f*(1+x*x+y*y+z*z))∧(2*(x*z - y)=g*(1+x*x+y*y+z*z)∧2*(y*z+x)=h*(1+x*x+y*y+z*z)∧(1 - x*x - y*y+z*z)=i*(1+x*x+y*y+z*z))) : QTab 1 x y z (1+x*x+y*y+z*z) a b c d e f g h i := by
 obtain ⟨⟨r1,r2,r3⟩,⟨r4,r5,r6⟩,⟨r7,r8,r9⟩⟩ := r
 have p := Zr x
 have q := Zr y
 have s := Zr z
 refine ⟨?_,?_,?_,?_,?_,?_,?_,?_,?_,?_,?_⟩
 ·intro j; clear r1 r2 r3 r4 r5 r6 r7 r8 r9; grind
 ·clear r1 r2 r3 r4 r5 r6 r7 r8 r9 p q s; grind
 ·rw [← r1]; clear r1 r2 r3 r4 r5 r6 r7 r8 r9 p q s; grind
 ·rw [← r2]; clear r1 r2 r3 r4 r5 r6 r7 r8 r9 p q s; grind
 ·rw [← r3]; clear r1 r2 r3 r4 r5 r6 r7 r8 r9 p q s; grind
 ·rw [← r4]; clear r1 r2 r3 r4 r5 r6 r7 r8 r9 p q s; grind
 ·rw [← r5]; clear r1 r2 r3 r4 r5 r6 r7 r8 r9 p q s; grind
 ·rw [← r6]; clear r1 r2 r3 r4 r5 r6 r7 r8 r9 p q s; grind
 ·rw [← r7]; clear r1 r2 r3 r4 r5 r6 r7 r8 r9 p q s; grind
 ·rw [← r8]; clear r1 r2 r3 r4 r5 r6 r7 r8 r9 p q s; grind
 ·rw [← r9]; clear r1 r2 r3 r4 r5 r6 r7 r8 r9 p q s; grind
theorem rotF_g {a b c d e f g h i F0 F1 F2 F3 : Rat} (r11 : a*a+b*b+c*c=1) (r22 : d*d+e*e+f*f=1) (r33 : g*g+h*h+i*i=1) (r12 : a*d+b*e+c*f=0) (r13 : a*g+b*h+c*i=0) (r23 : d*g+e*h+f*i=0) (hd : 0 < a*(e*i - f*h)+b*(f*g - d*i)+c*(d*h - e*g)) (e0 : F0=1+a+e+i) (hs : F0 ≠ 0) (e1 : F1=h - f) (e2 : F2=c - g) (e3 : F3=d - b) : QTab F0 F1 F2 F3 (F0*F0+F1*F1+F2*F2+F3*F3) a b c d e f g h i := by
 have k : ∀ t : Rat,t / F0*F0=t := fun t => Rat.div_mul_cancel hs
 exact (one_tab (rot_gen r11 r22 r33 r12 r13 r23 hd e0 hs ((k F1).trans e1) ((k F2).trans e2) ((k F3).trans e3))).scale hs (Rat.one_mul _).symm (k F1).symm (k F2).symm (k F3).symm rfl
theorem half_tab {y z a b c e f i : Rat} (r : (1 - y*y - z*z=a*(1+y*y+z*z)∧2*y=b*(1+y*y+z*z)∧2*z=c*(1+y*y+z*z))∧(y*y - 1 - z*z=e*(1+y*y+z*z)∧2*(y*z)=f*(1+y*y+z*z))∧(z*z - 1 - y*y=i*(1+y*y+z*z))) : QTab 0 1 y z (1+y*y+z*z) a b c b e f c f i := by
 obtain ⟨⟨r1,r2,r3⟩,⟨r4,r5⟩,r6⟩ := r
 have q := Zr y
 have s := Zr z
 refine ⟨?_,?_,?_,?_,?_,?_,?_,?_,?_,?_,?_⟩
 ·intro j; clear r1 r2 r3 r4 r5 r6; grind
 ·clear r1 r2 r3 r4 r5 r6 q s; grind
 ·rw [← r1]; clear r1 r2 r3 r4 r5 r6 q s; grind
 ·rw [← r2]; clear r1 r2 r3 r4 r5 r6 q s; grind
 ·rw [← r3]; clear r1 r2 r3 r4 r5 r6 q s; grind
 ·rw [← r2]; clear r1 r2 r3 r4 r5 r6 q s; grind
 ·rw [← r4]; clear r1 r2 r3 r4 r5 r6 q s; grind
 ·rw [← r5]; clear r1 r2 r3 r4 r5 r6 q s; grind
 ·rw [← r3]; clear r1 r2 r3 r4 r5 r6 q s; grind
 ·rw [← r5]; clear r1 r2 r3 r4 r5 r6 q s; grind
 ·rw [← r6]; clear r1 r2 r3 r4 r5 r6 q s; grind
theorem QTab.axes {x y z n a b c d e f g h i : Rat} (Q : QTab 0 x y z n a b c d e f g h i) : QTab 0 y x z n e d f b a c h g i∧QTab 0 y z x n e f d h i g b c a := by
 obtain ⟨hn,en,ha,hb,hc,hd,he,hf,hg,hh,hi⟩ := Q
 refine ⟨⟨hn,?_,?_,?_,?_,?_,?_,?_,?_,?_,?_⟩,⟨hn,?_,?_,?_,?_,?_,?_,?_,?_,?_,?_⟩⟩ <;> (clear hn; grind)
theorem rotF_0 {a b c d e f g h i F0 F1 F2 F3 : Rat} (r11 : a*a+b*b+c*c=1) (r22 : d*d+e*e+f*f=1) (r33 : g*g+h*h+i*i=1) (r12 : a*d+b*e+c*f=0) (r13 : a*g+b*h+c*i=0) (r23 : d*g+e*h+f*i=0) (hd : 0 < a*(e*i - f*h)+b*(f*g - d*i)+c*(d*h - e*g)) (hs : 1+a+e+i=0) (e0 : F0=0) (e1 : F1=1+a - e - i) (e2 : F2=b+d) (e3 : F3=c+g) (hp : F1 ≠ 0) : QTab F0 F1 F2 F3 (F0*F0+F1*F1+F2*F2+F3*F3) a b c d e f g h i := by
 obtain ⟨⟨y1,y2,y3⟩,⟨y4,y5,y6⟩,⟨y7,y8,y9⟩⟩ := Hp r11 r22 r33 r12 r13 r23 hd hs
 have e4 : F1=2*(a+1) := by rw [e1]; clear y1 y2 y3 y4 y5 y6 y7 y8 y9 r11 r22 r33 r12 r13 r23 hd; grind
 have hq : a+1 ≠ 0 := fun j => hp (by rw [e4,j,Rat.mul_zero])
 clear r11 r22 r33 r12 r13 r23 hd
 subst y1 y2 y3
 have k : ∀ t : Rat,t / (a+1)*(a+1)=t := fun t => Rat.div_mul_cancel hq
 have H := half_tab (rot_half y4 y5 y7 hs rfl hq (k d) (k g))
 refine H.scale (k := 2*(a+1)) (by rw [← e4]; exact hp) (by rw [e0,Rat.zero_mul]) (by rw [e4,Rat.one_mul]) ?_ ?_ rfl
 ·rw [e2]; have := k d; clear y4 y5 y6 y7 y8 y9 e0 e1 e2 e3 e4 hp hq hs H; grind
 ·rw [e3]; have := k g; clear y4 y5 y6 y7 y8 y9 e0 e1 e2 e3 e4 hp hq hs H; grind
theorem rotF_1 {a b c d e f g h i F0 F1 F2 F3 : Rat} (r11 : a*a+b*b+c*c=1) (r22 : d*d+e*e+f*f=1) (r33 : g*g+h*h+i*i=1) (r12 : a*d+b*e+c*f=0) (r13 : a*g+b*h+c*i=0) (r23 : d*g+e*h+f*i=0) (hd : 0 < a*(e*i - f*h)+b*(f*g - d*i)+c*(d*h - e*g)) (hs : 1+a+e+i=0) (e0 : F0=0) (e1 : F1=b+d) (e2 : F2=1 - a+e - i) (e3 : F3=f+h) (hp : F2 ≠ 0) : QTab F0 F1 F2 F3 (F0*F0+F1*F1+F2*F2+F3*F3) a b c d e f g h i := by
 have Q := rotF_0 (a := e) (b := d) (c := f) (d := b) (e := a) (f := c) (g := h) (h := g) (i := i) (F0 := 0) (F1 := F2) (F2 := F1) (F3 := F3) (by grind) (by grind) (by grind) (by grind) (by grind) (by grind) (by clear r11 r22 r33 r12 r13 r23; grind) (by grind) rfl (by grind) (by grind) (by grind) hp
 rw [e0]; have R := Q.axes.1
 rwa [show 0*0+F2*F2+F1*F1+F3*F3=0*0+F1*F1+F2*F2+F3*F3 by grind] at R
theorem rotF_2 {a b c d e f g h i F0 F1 F2 F3 : Rat} (r11 : a*a+b*b+c*c=1) (r22 : d*d+e*e+f*f=1) (r33 : g*g+h*h+i*i=1) (r12 : a*d+b*e+c*f=0) (r13 : a*g+b*h+c*i=0) (r23 : d*g+e*h+f*i=0) (hd : 0 < a*(e*i - f*h)+b*(f*g - d*i)+c*(d*h - e*g)) (hs : 1+a+e+i=0) (e0 : F0=0) (e1 : F1=c+g) (e2 : F2=f+h) (e3 : F3=1 - a - e+i) (hp : F3 ≠ 0) : QTab F0 F1 F2 F3 (F0*F0+F1*F1+F2*F2+F3*F3) a b c d e f g h i := by
 have Q := rotF_0 (a := i) (b := g) (c := h) (d := c) (e := a) (f := b) (g := f) (h := d) (i := e) (F0 := 0) (F1 := F3) (F2 := F1) (F3 := F2) (by grind) (by grind) (by grind) (by grind) (by grind) (by grind) (by clear r11 r22 r33 r12 r13 r23; grind) (by grind) rfl (by grind) (by grind) (by grind) hp
 rw [e0]; have R := Q.axes.2
 rwa [show 0*0+F3*F3+F1*F1+F2*F2=0*0+F1*F1+F2*F2+F3*F3 by grind] at R
theorem rot_none {a b c d e f g h i : Rat} (r11 : a*a+b*b+c*c=1) (r22 : d*d+e*e+f*f=1) (r33 : g*g+h*h+i*i=1) (r12 : a*d+b*e+c*f=0) (r13 : a*g+b*h+c*i=0) (r23 : d*g+e*h+f*i=0) (hd : 0 < a*(e*i - f*h)+b*(f*g - d*i)+c*(d*h - e*g)) (hs : 1+a+e+i=0) : (h - f=0∧c - g=0∧d - b=0)∧(1+a - e - i=0→b+d=0∧c+g=0)∧(1 - a+e - i=0→b+d=0∧f+h=0) := by
 obtain ⟨⟨y1,y2,y3⟩,⟨y4,y5,y6⟩,_⟩ := Hp r11 r22 r33 r12 r13 r23 hd hs
 clear r11 r22 r33 r12 r13 r23 hd
 subst y1 y2 y3
 refine ⟨⟨by grind,by grind,by grind⟩,fun j => ?_,fun j => ?_⟩
 ·have k : a+1=0 := by clear y4 y5 y6; grind
  rw [k,Rat.zero_mul] at y4 y5
  have p := (Zr d).2.1 y4
  have q := (Zr g).2.1 y5
  rw [p,q]; exact ⟨Rat.add_zero 0,Rat.add_zero 0⟩
 ·have k : e+1=0 := by clear y4 y5 y6; grind
  rw [k,Rat.mul_zero] at y4
  rw [k,Rat.zero_mul] at y6
  have p := (Zr d).2.1 y4
  have q := (Zr h).2.1 y6
  rw [p,q]; exact ⟨Rat.add_zero 0,Rat.add_zero 0⟩
theorem QAct.scale {w x y z n u1 u2 u3 x1 x2 x3 k W X Y Z N : Rat} (A : QAct W X Y Z N u1 u2 u3 x1 x2 x3) (ew : W=w*k) (ex : X=x*k) (ey : Y=y*k) (ez : Z=z*k) (en : n=w*w+x*x+y*y+z*z) : QAct w x y z n u1 u2 u3 x1 x2 x3 := by
 obtain ⟨hN,eN,a1,a2,a3⟩ := A
 have eM : N=n*(k*k) := by rw [eN,ew,ex,ey,ez,en]; clear hN eN a1 a2 a3 ew ex ey ez en; grind
 have hn : n ≠ 0 := fun j => hN (by rw [eM,j,Rat.zero_mul])
 have hk : k*k ≠ 0 := fun j => hN (by rw [eM,j,Rat.mul_zero])
 refine ⟨hn,en,QG hk ?_,QG hk ?_,QG hk ?_⟩
 ·have : x1*n*(k*k)=x1*N := by rw [eM]; grind
  rw [this,a1,ew,ex,ey,ez]; clear this hN eN a1 a2 a3 ew ex ey ez en eM hn hk; grind
 ·have : x2*n*(k*k)=x2*N := by rw [eM]; grind
  rw [this,a2,ew,ex,ey,ez]; clear this hN eN a1 a2 a3 ew ex ey ez en eM hn hk; grind
 ·have : x3*n*(k*k)=x3*N := by rw [eM]; grind
  rw [this,a3,ew,ex,ey,ez]; clear this hN eN a1 a2 a3 ew ex ey ez en eM hn hk; grind
theorem QAct.mul {w x y z n u1 u2 u3 x1 x2 x3 : Rat} (A : QAct w x y z n u1 u2 u3 x1 x2 x3) : (x1*x+x2*y+x3*z=x*u1+y*u2+z*u3)∧(x1*w+(x2*z - x3*y)=w*u1+(y*u3 - z*u2))∧(x2*w+(x3*x - x1*z)=w*u2+(z*u1 - x*u3))∧(x3*w+(x1*y - x2*x)=w*u3+(x*u2 - y*u1)) := by
 obtain ⟨hn,en,a1,a2,a3⟩ := A
 refine ⟨QG hn ?_,QG hn ?_,QG hn ?_,QG hn ?_⟩
 ·have : (x1*x+x2*y+x3*z)*n=(x1*n)*x+(x2*n)*y+(x3*n)*z := by grind
  rw [this,a1,a2,a3,en]; clear this hn en a1 a2 a3; grind
 ·have : (x1*w+(x2*z - x3*y))*n=(x1*n)*w+((x2*n)*z - (x3*n)*y) := by grind
  rw [this,a1,a2,a3,en]; clear this hn en a1 a2 a3; grind
 ·have : (x2*w+(x3*x - x1*z))*n=(x2*n)*w+((x3*n)*x - (x1*n)*z) := by grind
  rw [this,a1,a2,a3,en]; clear this hn en a1 a2 a3; grind
 ·have : (x3*w+(x1*y - x2*x))*n=(x3*n)*w+((x1*n)*y - (x2*n)*x) := by grind
  rw [this,a1,a2,a3,en]; clear this hn en a1 a2 a3; grind
theorem Le {w x y z n k W X Y Z N : Rat} (ew : W=w*k) (ex : X=x*k) (ey : Y=y*k) (ez : Z=z*k) (en : n=w*w+x*x+y*y+z*z) (eN : N=W*W+X*X+Y*Y+Z*Z) (h0 : k=0→n=0) : N=0 ↔ n=0 := by
 have eM : N=n*(k*k) := by rw [eN,ew,ex,ey,ez,en]; clear eN ew ex ey ez en h0; grind
 constructor
 ·intro j
  rw [eM] at j
  rcases Rat.mul_eq_zero.1 j with l | l
  ·exact l
  ·exact h0 (by rcases Rat.mul_eq_zero.1 l with m | m <;> exact m)
 ·intro j
  rw [eM,j,Rat.zero_mul]
theorem QAct.own {w x y z n x1 x2 x3 : Rat} (A : QAct w x y z n x y z x1 x2 x3) : x1=x∧x2=y∧x3=z := by
 obtain ⟨hn,en,a1,a2,a3⟩ := A
 refine ⟨QG hn ?_,QG hn ?_,QG hn ?_⟩
 ·rw [a1,en]; clear hn en a1 a2 a3; grind
 ·rw [a2,en]; clear hn en a1 a2 a3; grind
 ·rw [a3,en]; clear hn en a1 a2 a3; grind
theorem IK (H : Wh q σ) : (q 4=q 0*fac [q 0,q 1,q 2,q 3]) := by
 have e4:q 4=q 0*fac [q 0,q 1,q 2,q 3]:=H 4 _ rfl
 clear H
 exact e4
theorem IZ (H : Wh q σ) : (q 5=q 1*fac [q 0,q 1,q 2,q 3]) := by
 have e5:q 5=q 1*fac [q 0,q 1,q 2,q 3]:=H 5 _ rfl
 clear H
 exact e5
theorem Rc (H : Wh q σ) : (q 6=q 2*fac [q 0,q 1,q 2,q 3]) := by
 have e6:q 6=q 2*fac [q 0,q 1,q 2,q 3]:=H 6 _ rfl
 clear H
 exact e6
theorem Re (H : Wh q σ) : (q 7=q 3*fac [q 0,q 1,q 2,q 3]) := by
 have e7:q 7=q 3*fac [q 0,q 1,q 2,q 3]:=H 7 _ rfl
 clear H
 exact e7
theorem IC (H : Wh q σ) : (q 227=q 0*q 0+q 1*q 1+q 2*q 2+q 3*q 3) :=
 pol H [] 5 227 (.A (.A (.A (.M (.v 0) (.v 0)) (.M (.v 1) (.v 1))) (.M (.v 2) (.v 2))) (.M (.v 3) (.v 3))) (by kernel_rfl)
theorem NM (H : Wh q σ) : (q 19=q 4*q 4+q 5*q 5+q 6*q 6+q 7*q 7) :=
 pol H [] 6 19 (.A (.A (.A (.M (.v 4) (.v 4)) (.M (.v 5) (.v 5))) (.M (.v 6) (.v 6))) (.M (.v 7) (.v 7))) (by kernel_rfl)
theorem qR_paz (_H : Wh q σ) : (q 227=q 0*q 0+q 1*q 1+q 2*q 2+q 3*q 3)→(fac [q 0,q 1,q 2,q 3]=0→q 227=0) := by
 intro h
 intro k
 rw [h]
 have a0 := Qp (x := q 0) (by simp) k
 have a1 := Qp (x := q 1) (by simp) k
 have a2 := Qp (x := q 2) (by simp) k
 have a3 := Qp (x := q 3) (by simp) k
 rw [a0,a1,a2,a3]; simp only [Rat.mul_zero,Rat.add_zero]
theorem SZ (H : Wh q σ) : (¬ (q 19=0))→(QAct (q 4) (q 5) (q 6) (q 7) (q 19) (q 20) (q 21) (q 22) (q 81) (q 82) (q 83)) :=
 fun h => ⟨h,pol H [] 6 19 (.A (.A (.A (.M (.v 4) (.v 4)) (.M (.v 5) (.v 5))) (.M (.v 6) (.v 6))) (.M (.v 7) (.v 7))) (by kernel_rfl),JH H [19] 11 81 19 (.A (.A (.M (.S (.S (.A (.M (.v 4) (.v 4)) (.M (.v 5) (.v 5))) (.M (.v 6) (.v 6))) (.M (.v 7) (.v 7))) (.v 20)) (.M (.M .t (.S (.M (.v 5) (.v 6)) (.M (.v 4) (.v 7)))) (.v 21))) (.M (.M .t (.A (.M (.v 5) (.v 7)) (.M (.v 4) (.v 6)))) (.v 22))) h (by kernel_rfl),JH H [19] 11 82 19 (.A (.A (.M (.M .t (.A (.M (.v 5) (.v 6)) (.M (.v 4) (.v 7)))) (.v 20)) (.M (.S (.A (.S (.M (.v 4) (.v 4)) (.M (.v 5) (.v 5))) (.M (.v 6) (.v 6))) (.M (.v 7) (.v 7))) (.v 21))) (.M (.M .t (.S (.M (.v 6) (.v 7)) (.M (.v 4) (.v 5)))) (.v 22))) h (by kernel_rfl),JH H [19] 11 83 19 (.A (.A (.M (.M .t (.S (.M (.v 5) (.v 7)) (.M (.v 4) (.v 6)))) (.v 20)) (.M (.M .t (.A (.M (.v 6) (.v 7)) (.M (.v 4) (.v 5)))) (.v 21))) (.M (.A (.S (.S (.M (.v 4) (.v 4)) (.M (.v 5) (.v 5))) (.M (.v 6) (.v 6))) (.M (.v 7) (.v 7))) (.v 22))) h (by kernel_rfl)⟩
theorem qR_pm0 (H : Wh q σ) : (q 81*q 1+q 82*q 2+q 83*q 3=q 1*q 20+q 2*q 21+q 3*q 22)→(q 267=q 306) := by
 have e8:q 8=0:=(H 8 _ rfl).trans LJ;have e84:q 84=1:=(H 84 _ rfl).trans FN;have e228:q 228=q 84*q 8:=H 228 _ rfl;have e229:q 229=q 228*q 0:=H 229 _ rfl;have e230:q 230=q 8+q 229:=H 230 _ rfl;have e240:q 240=(-1):=(H 240 _ rfl).trans GI;have e241:q 241=q 240*q 81:=H 241 _ rfl;have e242:q 242=q 241*q 1:=H 242 _ rfl;have e243:q 243=q 230+q 242:=H 243 _ rfl;have e251:q 251=q 240*q 82:=H 251 _ rfl;have e254:q 254=q 251*q 2:=H 254 _ rfl;have e255:q 255=q 243+q 254:=H 255 _ rfl;have e263:q 263=q 240*q 83:=H 263 _ rfl;have e266:q 266=q 263*q 3:=H 266 _ rfl;have e267:q 267=q 255+q 266:=H 267 _ rfl;have e268:q 268=q 84*q 0:=H 268 _ rfl;have e269:q 269=q 268*q 8:=H 269 _ rfl;have e270:q 270=q 8+q 269:=H 270 _ rfl;have e280:q 280=q 240*q 1:=H 280 _ rfl;have e281:q 281=q 280*q 20:=H 281 _ rfl;have e282:q 282=q 270+q 281:=H 282 _ rfl;have e290:q 290=q 240*q 2:=H 290 _ rfl;have e293:q 293=q 290*q 21:=H 293 _ rfl;have e294:q 294=q 282+q 293:=H 294 _ rfl;have e302:q 302=q 240*q 3:=H 302 _ rfl;have e305:q 305=q 302*q 22:=H 305 _ rfl;have e306:q 306=q 294+q 305:=H 306 _ rfl
 clear H
 intro h
 subst_vars; grind
theorem qR_pm1 (H : Wh q σ) : (q 81*q 0+(q 82*q 3-q 83*q 2)=q 0*q 20+(q 2*q 22-q 3*q 21))→(q 265=q 304) := by
 have e8:q 8=0:=(H 8 _ rfl).trans LJ;have e84:q 84=1:=(H 84 _ rfl).trans FN;have e228:q 228=q 84*q 8:=H 228 _ rfl;have e231:q 231=q 228*q 1:=H 231 _ rfl;have e232:q 232=q 8+q 231:=H 232 _ rfl;have e237:q 237=q 84*q 81:=H 237 _ rfl;have e238:q 238=q 237*q 0:=H 238 _ rfl;have e239:q 239=q 232+q 238:=H 239 _ rfl;have e240:q 240=(-1):=(H 240 _ rfl).trans GI;have e248:q 248=q 84*q 82:=H 248 _ rfl;have e256:q 256=q 248*q 3:=H 256 _ rfl;have e257:q 257=q 239+q 256:=H 257 _ rfl;have e263:q 263=q 240*q 83:=H 263 _ rfl;have e264:q 264=q 263*q 2:=H 264 _ rfl;have e265:q 265=q 257+q 264:=H 265 _ rfl;have e268:q 268=q 84*q 0:=H 268 _ rfl;have e271:q 271=q 268*q 20:=H 271 _ rfl;have e272:q 272=q 8+q 271:=H 272 _ rfl;have e277:q 277=q 84*q 1:=H 277 _ rfl;have e278:q 278=q 277*q 8:=H 278 _ rfl;have e279:q 279=q 272+q 278:=H 279 _ rfl;have e287:q 287=q 84*q 2:=H 287 _ rfl;have e295:q 295=q 287*q 22:=H 295 _ rfl;have e296:q 296=q 279+q 295:=H 296 _ rfl;have e302:q 302=q 240*q 3:=H 302 _ rfl;have e303:q 303=q 302*q 21:=H 303 _ rfl;have e304:q 304=q 296+q 303:=H 304 _ rfl
 clear H
 intro h
 subst_vars; grind
theorem qR_pm2 (H : Wh q σ) : (q 82*q 0+(q 83*q 1-q 81*q 3)=q 0*q 21+(q 3*q 20-q 1*q 22))→(q 262=q 301) := by
 have e8:q 8=0:=(H 8 _ rfl).trans LJ;have e84:q 84=1:=(H 84 _ rfl).trans FN;have e228:q 228=q 84*q 8:=H 228 _ rfl;have e233:q 233=q 228*q 2:=H 233 _ rfl;have e234:q 234=q 8+q 233:=H 234 _ rfl;have e240:q 240=(-1):=(H 240 _ rfl).trans GI;have e241:q 241=q 240*q 81:=H 241 _ rfl;have e246:q 246=q 241*q 3:=H 246 _ rfl;have e247:q 247=q 234+q 246:=H 247 _ rfl;have e248:q 248=q 84*q 82:=H 248 _ rfl;have e249:q 249=q 248*q 0:=H 249 _ rfl;have e250:q 250=q 247+q 249:=H 250 _ rfl;have e258:q 258=q 84*q 83:=H 258 _ rfl;have e261:q 261=q 258*q 1:=H 261 _ rfl;have e262:q 262=q 250+q 261:=H 262 _ rfl;have e268:q 268=q 84*q 0:=H 268 _ rfl;have e273:q 273=q 268*q 21:=H 273 _ rfl;have e274:q 274=q 8+q 273:=H 274 _ rfl;have e280:q 280=q 240*q 1:=H 280 _ rfl;have e285:q 285=q 280*q 22:=H 285 _ rfl;have e286:q 286=q 274+q 285:=H 286 _ rfl;have e287:q 287=q 84*q 2:=H 287 _ rfl;have e288:q 288=q 287*q 8:=H 288 _ rfl;have e289:q 289=q 286+q 288:=H 289 _ rfl;have e297:q 297=q 84*q 3:=H 297 _ rfl;have e300:q 300=q 297*q 20:=H 300 _ rfl;have e301:q 301=q 289+q 300:=H 301 _ rfl
 clear H
 intro h
 subst_vars; grind
theorem qR_pm3 (H : Wh q σ) : (q 83*q 0+(q 81*q 2-q 82*q 1)=q 0*q 22+(q 1*q 21-q 2*q 20))→(q 260=q 299) := by
 have e8:q 8=0:=(H 8 _ rfl).trans LJ;have e84:q 84=1:=(H 84 _ rfl).trans FN;have e228:q 228=q 84*q 8:=H 228 _ rfl;have e235:q 235=q 228*q 3:=H 235 _ rfl;have e236:q 236=q 8+q 235:=H 236 _ rfl;have e237:q 237=q 84*q 81:=H 237 _ rfl;have e240:q 240=(-1):=(H 240 _ rfl).trans GI;have e244:q 244=q 237*q 2:=H 244 _ rfl;have e245:q 245=q 236+q 244:=H 245 _ rfl;have e251:q 251=q 240*q 82:=H 251 _ rfl;have e252:q 252=q 251*q 1:=H 252 _ rfl;have e253:q 253=q 245+q 252:=H 253 _ rfl;have e258:q 258=q 84*q 83:=H 258 _ rfl;have e259:q 259=q 258*q 0:=H 259 _ rfl;have e260:q 260=q 253+q 259:=H 260 _ rfl;have e268:q 268=q 84*q 0:=H 268 _ rfl;have e275:q 275=q 268*q 22:=H 275 _ rfl;have e276:q 276=q 8+q 275:=H 276 _ rfl;have e277:q 277=q 84*q 1:=H 277 _ rfl;have e283:q 283=q 277*q 21:=H 283 _ rfl;have e284:q 284=q 276+q 283:=H 284 _ rfl;have e290:q 290=q 240*q 2:=H 290 _ rfl;have e291:q 291=q 290*q 20:=H 291 _ rfl;have e292:q 292=q 284+q 291:=H 292 _ rfl;have e297:q 297=q 84*q 3:=H 297 _ rfl;have e298:q 298=q 297*q 8:=H 298 _ rfl;have e299:q 299=q 292+q 298:=H 299 _ rfl
 clear H
 intro h
 subst_vars; grind
theorem qR_pT0 (H : Wh q σ) : (¬ (q 19=0))→(q 132*q 19=q 4*q 4+q 5*q 5-q 6*q 6-q 7*q 7) :=
 fun h => JH H [19] 12 132 19 (.S (.S (.A (.M (.v 4) (.v 4)) (.M (.v 5) (.v 5))) (.M (.v 6) (.v 6))) (.M (.v 7) (.v 7))) h (by kernel_rfl)
theorem qR_pT1 (H : Wh q σ) : (¬ (q 19=0))→(q 176*q 19=2*(q 5*q 6-q 4*q 7)) :=
 fun h => JH H [19] 12 176 19 (.M .t (.S (.M (.v 5) (.v 6)) (.M (.v 4) (.v 7)))) h (by kernel_rfl)
theorem qR_pT2 (H : Wh q σ) : (¬ (q 19=0))→(q 218*q 19=2*(q 5*q 7+q 4*q 6)) :=
 fun h => JH H [19] 12 218 19 (.M .t (.A (.M (.v 5) (.v 7)) (.M (.v 4) (.v 6)))) h (by kernel_rfl)
theorem qR_pT3 (H : Wh q σ) : (¬ (q 19=0))→(q 133*q 19=2*(q 5*q 6+q 4*q 7)) :=
 fun h => JH H [19] 12 133 19 (.M .t (.A (.M (.v 5) (.v 6)) (.M (.v 4) (.v 7)))) h (by kernel_rfl)
theorem qR_pT4 (H : Wh q σ) : (¬ (q 19=0))→(q 177*q 19=q 4*q 4-q 5*q 5+q 6*q 6-q 7*q 7) :=
 fun h => JH H [19] 12 177 19 (.S (.A (.S (.M (.v 4) (.v 4)) (.M (.v 5) (.v 5))) (.M (.v 6) (.v 6))) (.M (.v 7) (.v 7))) h (by kernel_rfl)
theorem qR_pT5 (H : Wh q σ) : (¬ (q 19=0))→(q 219*q 19=2*(q 6*q 7-q 4*q 5)) :=
 fun h => JH H [19] 12 219 19 (.M .t (.S (.M (.v 6) (.v 7)) (.M (.v 4) (.v 5)))) h (by kernel_rfl)
theorem qR_pT6 (H : Wh q σ) : (¬ (q 19=0))→(q 134*q 19=2*(q 5*q 7-q 4*q 6)) :=
 fun h => JH H [19] 12 134 19 (.M .t (.S (.M (.v 5) (.v 7)) (.M (.v 4) (.v 6)))) h (by kernel_rfl)
theorem qR_pT7 (H : Wh q σ) : (¬ (q 19=0))→(q 178*q 19=2*(q 6*q 7+q 4*q 5)) :=
 fun h => JH H [19] 12 178 19 (.M .t (.A (.M (.v 6) (.v 7)) (.M (.v 4) (.v 5)))) h (by kernel_rfl)
theorem qR_pT8 (H : Wh q σ) : (¬ (q 19=0))→(q 220*q 19=q 4*q 4-q 5*q 5-q 6*q 6+q 7*q 7) :=
 fun h => JH H [19] 12 220 19 (.A (.S (.S (.M (.v 4) (.v 4)) (.M (.v 5) (.v 5))) (.M (.v 6) (.v 6))) (.M (.v 7) (.v 7))) h (by kernel_rfl)
theorem qR_pF (H : Wh q σ) : (q 81=q 132*q 20+q 176*q 21+q 218*q 22∧q 82=q 133*q 20+q 177*q 21+q 219*q 22∧q 83=q 134*q 20+q 178*q 21+q 220*q 22)→(q 329=0) := by
 have e307:q 307=q 132*q 20:=H 307 _ rfl;have e308:q 308=q 176*q 21:=H 308 _ rfl;have e309:q 309=q 218*q 22:=H 309 _ rfl;have e310:q 310=q 307+q 308:=H 310 _ rfl;have e311:q 311=q 310+q 309:=H 311 _ rfl;have e312:q 312=q 133*q 20:=H 312 _ rfl;have e313:q 313=q 177*q 21:=H 313 _ rfl;have e314:q 314=q 219*q 22:=H 314 _ rfl;have e315:q 315=q 312+q 313:=H 315 _ rfl;have e316:q 316=q 315+q 314:=H 316 _ rfl;have e317:q 317=q 134*q 20:=H 317 _ rfl;have e318:q 318=q 178*q 21:=H 318 _ rfl;have e319:q 319=q 220*q 22:=H 319 _ rfl;have e320:q 320=q 317+q 318:=H 320 _ rfl;have e321:q 321=q 320+q 319:=H 321 _ rfl;have e322:q 322=q 311-q 81:=H 322 _ rfl;have e323:q 323=q 316-q 82:=H 323 _ rfl;have e324:q 324=q 321-q 83:=H 324 _ rfl;have e325:q 325=q 322*q 322:=H 325 _ rfl;have e326:q 326=q 323*q 323:=H 326 _ rfl;have e327:q 327=q 325+q 326:=H 327 _ rfl;have e328:q 328=q 324*q 324:=H 328 _ rfl;have e329:q 329=q 327+q 328:=H 329 _ rfl
 clear H
 intro h
 obtain ⟨h0,h1,h2⟩ := h
 refine ((V3s e325 e326 e327 e328 e329).2 ⟨⟨?_,?_⟩,?_⟩) <;> (clear e325 e326 e327 e328 e329; subst_vars; grind)
def Pp : List (FuncId × Nat) := [(146,60),(91,61),(82,65)]
def qR_G : Xu := [(14,[rA [0,1,2,3],rA [8,20,21,22]],rA [306,304,301,299]),(14,[rA [8,81,82,83],rA [0,1,2,3]],rA [267,265,262,260]),(9,[rA [0,1,2,3]],r1 227),(59,[qA [181,186,187,188],qA [4,9,10,11]],qA [196,215,216,217]),(59,[qA [4,5,6,7],(false,[(true,[.inl (.bool false),.inl (.slice none 0 0),.inl (.slice none 0 0),.inl (.bool false),.inl (.slice none 0 0),.inl (.slice none 0 0),.inl (.bool false),.inl (.slice none 0 0),.inl (.slice none 0 0),.inr (0,1,84,0,0),.inr (0,2,84,0,0),.inr (0,3,84,0,0)])])],qA [181,186,187,188]),(59,[qA [138,144,145,146],qA [4,9,10,11]],qA [154,173,174,175]),(59,[qA [4,5,6,7],(false,[(true,[.inl (.bool false),.inl (.slice none 0 0),.inl (.slice none 0 0),.inl (.bool false),.inl (.slice none 0 0),.inl (.slice none 0 0),.inr (0,1,84,0,0),.inr (0,2,84,0,0),.inr (0,3,84,0,0),.inl (.bool false),.inl (.slice none 0 0),.inl (.slice none 0 0)])])],qA [138,144,145,146]),(59,[qA [89,100,101,102],qA [4,9,10,11]],qA [110,129,130,131]),(59,[qA [4,5,6,7],(false,[(true,[.inl (.bool false),.inl (.slice none 0 0),.inl (.slice none 0 0),.inr (0,1,84,0,0),.inr (0,2,84,0,0),.inr (0,3,84,0,0),.inl (.bool false),.inl (.slice none 0 0),.inl (.slice none 0 0),.inl (.bool false),.inl (.slice none 0 0),.inl (.slice none 0 0)])])],qA [89,100,101,102]),(59,[qA [30,49,50,51],qA [4,9,10,11]],qA [59,78,79,80]),(59,[qA [4,5,6,7],(false,[(true,[.inl (.bool false),.inl (.slice none 0 0),.inl (.slice none 0 0),.inr (0,1,20,0,0),.inr (0,2,20,0,0),.inr (0,3,20,0,0),.inr (0,1,21,0,0),.inr (0,2,21,0,0),.inr (0,3,21,0,0),.inr (0,1,22,0,0),.inr (0,2,22,0,0),.inr (0,3,22,0,0)])])],qA [30,49,50,51]),(108,[qA [5,6,7],(false,[(true,[.inl (.bool false),.inl (.slice none 0 0),.inl (.slice none 0 0)])])],qA [34,35,36]),(50,[qA [4,5,6,7]],qA [19]),(52,[qA [4,5,6,7]],qA [4,9,10,11])]
theorem qR_g0 : Xg (sx Tryz.prog qR_N [] [] Pg GY Py (prC [11])) Pp 6 4 (qR_G.drop 0)=true := by kernel_rfl
theorem qR_g1 : Xg (sx Tryz.prog qR_N [] [] Pg GY Py (prC [11])) Pp 6 4 (qR_G.drop 4)=true := by kernel_rfl
theorem qR_g2 : Xg (sx Tryz.prog qR_N [] [] Pg GY Py (prC [11])) Pp 6 6 (qR_G.drop 8)=true := by kernel_rfl
theorem Mp {q : Nat→Rat} {σ : Nat→ByteArray} {w : World} (hσ : ∀ j,(σ j).size≤1048576) (hq : ∀ (a : Nat) nd,qR_N[a]? = some nd→q a=Zg σ q nd) (h0 : ∀ a,qR_N.length≤a→q a=0) (hp : Zf w) : Zl qR_N Pg GY Py q σ [11] w qR_G := by
 have Y : Hy qR_N [] Pg GY Py q σ := YD hσ LD qR_sz qR_lt qR_cn hq h0 trivial
 have hc : ∀ f ∈ ([11] : List FuncId),Closed f := by simp [XX]
 have hm : (Tryz.prog).follows .mixedOrders=true := by kernel_rfl
 exact (JF (M := qR_G.drop 0) Y hc hm hp 4 qR_g0 (JF (M := qR_G.drop 4) Y hc hm hp 4 qR_g1 (JF (M := qR_G.drop 8) Y hc hm hp 6 qR_g2 Uq)))
def qR_H0 : List (Nat × Nat × Nat × Nat) := [(0,19,0,1),(0,227,0,1)]
def qR_H1 : List (Nat × Nat × Nat × Nat) := [(0,19,0,0),(0,227,0,0),(3,267,306,1),(3,265,304,1),(3,262,301,1),(3,260,299,1),(0,329,0,1)]
theorem qR_r0 : (Ql (sx Tryz.prog qR_N qR_H0 [] Pg GY Py (prC [11])) Pp qR_G 5 [] 5 qR_A [] 0).map (·.1)=some (kB true) := by kernel_rfl
theorem qR_r1 : (Ql (sx Tryz.prog qR_N qR_H1 [(136,[.inr (3,7,0,0,0),.inr (3,11,0,0,0),.inr (3,12,0,0,0)]),(136,[.inr (3,32,0,0,0),.inr (3,36,0,0,0),.inr (3,37,0,0,0)])] Pg GY Py (prC [11])) Pp qR_G 6 [] 5 qR_A [] 0).map (·.1)=some (kB true) := by kernel_rfl
theorem Tf {a b : Prop} (x : a) (y : b) : a∧b := ⟨x,y⟩
theorem NX {M : Xu} {H : List (Nat × Nat × Nat × Nat)} {K : List (FuncId × List AC)} {k : Nat} {q : Nat→Rat} {σ : Nat→ByteArray} {args : List AV} {vs : List Value} {w : World} (hr : (Ql (sx Tryz.prog qR_N H K Pg GY Py (prC [11])) Pp M k [] 5 args [] 0).map (·.1)=some (kB true)) (hσ : ∀ j,(σ j).size≤1048576) (hq : ∀ (a : Nat) nd,qR_N[a]? = some nd→q a=Zg σ q nd) (h0 : ∀ a,qR_N.length≤a→q a=0) (hH : Ww q H) (hp : Zf w) (hM : Zl qR_N Pg GY Py q σ [11] w M) (hA : ∀ K,A2 (avOn (cOn (evS q σ) K (fun _ => none) w)) args vs) : Calls Tryz.prog 5 vs.toArray w fun e w' => Below w.heap.size w w'∧e=.returned (.bool true) :=
 Wd k (YD hσ LD qR_sz qR_lt qR_cn hq h0 hH) (by simp [XX]) (by kernel_rfl) hp hM hr (hA K)
theorem qR_leafC {H : List (Nat × Nat × Nat × Nat)} {K : List (FuncId × List AC)} {k : Nat} {q : Nat→Rat} {σ : Nat→ByteArray} {args : List AV} {vs : List Value} {w : World} (hr : (QR (sx Tryz.prog qR_N H K Pg GY Py (prC [11])) Pp k [] 5 args [] 0).map (·.1)=some (kB true)) (hσ : ∀ j,(σ j).size≤1048576) (hq : ∀ (a : Nat) nd,qR_N[a]? = some nd→q a=Zg σ q nd) (h0 : ∀ a,qR_N.length≤a→q a=0) (hH : Ww q H) (hp : Zf w) (hA : ∀ K,A2 (avOn (cOn (evS q σ) K (fun _ => none) w)) args vs) : Calls Tryz.prog 5 vs.toArray w fun e w' => Below w.heap.size w w'∧e=.returned (.bool true) :=
 XB k (YD hσ LD qR_sz qR_lt qR_cn hq h0 hH) (by simp [XX]) (by kernel_rfl) hr hp (hA K)
theorem qR_walk {w : World} {gw gx gy gz hx hy hz : ByteArray}  (sgw : gw.size≤1048576) (sgx : gx.size≤1048576) (sgy : gy.size≤1048576) (sgz : gz.size≤1048576) (shx : hx.size≤1048576) (shy : hy.size≤1048576) (shz : hz.size≤1048576) (tab : Tab w) (mx : MaxL w) :
  Calls Tryz.prog 5 #[.agg #[.string gw,.string gx,.string gy,.string gz],.agg #[.string hx,.string hy,.string hz]] w fun e w' => Below w.heap.size w w'∧e=.returned (.bool true) := by
 have hσ : ∀ j,(Io [gw,gx,gy,gz,hx,hy,hz] j).size≤1048576 := WM (by simp [sgw,sgx,sgy,sgz,shx,shy,shz])
 obtain ⟨q,hq,h0⟩ := Uw (Io [gw,gx,gy,gz,hx,hy,hz]) qR_N LD
 have hA : ∀ K,A2 (avOn (cOn (evS q (Io [gw,gx,gy,gz,hx,hy,hz])) K (fun _ => none) w)) [(false,[(true,[.inr (2,0,0,0,0),.inr (2,1,0,0,0),.inr (2,2,0,0,0),.inr (2,3,0,0,0)])]),(false,[(true,[.inr (2,4,0,0,0),.inr (2,5,0,0,0),.inr (2,6,0,0,0)])])] [.agg #[.string gw,.string gx,.string gy,.string gz],.agg #[.string hx,.string hy,.string hz]] := fun K => ⟨⟨⟨[.string gw,.string gx,.string gy,.string gz],rfl,rfl,rfl,rfl,rfl,trivial⟩,trivial⟩,⟨⟨[.string hx,.string hy,.string hz],rfl,rfl,rfl,rfl,trivial⟩,trivial⟩,trivial⟩
 by_cases b19 : q 19=0
 ·
  have gn1 := (Le (IK hq) (IZ hq) (Rc hq) (Re hq) (IC hq) (NM hq) (qR_paz hq (IC hq))).1 b19
  have b227 : q 227=0 := gn1
  have hH : Ww q qR_H0 := (Tf (hT b19) (Tf (hT b227) trivial))
  exact NX qR_r0 hσ hq h0 hH ⟨tab,mx⟩ (Mp hσ hq h0 ⟨tab,mx⟩) hA
 ·
  have gn0 := fun h => b19 ((Le (IK hq) (IZ hq) (Rc hq) (Re hq) (IC hq) (NM hq) (qR_paz hq (IC hq))).2 h)
  have b227 : ¬ (q 227=0) := gn0
  have gm0 := qR_pm0 hq (QAct.scale (SZ hq b19) (IK hq) (IZ hq) (Rc hq) (Re hq) (IC hq)).mul.1
  have a_3_267_306 : q 267=q 306 := gm0
  have gm1 := qR_pm1 hq (QAct.scale (SZ hq b19) (IK hq) (IZ hq) (Rc hq) (Re hq) (IC hq)).mul.2.1
  have a_3_265_304 : q 265=q 304 := gm1
  have gm2 := qR_pm2 hq (QAct.scale (SZ hq b19) (IK hq) (IZ hq) (Rc hq) (Re hq) (IC hq)).mul.2.2.1
  have a_3_262_301 : q 262=q 301 := gm2
  have gm3 := qR_pm3 hq (QAct.scale (SZ hq b19) (IK hq) (IZ hq) (Rc hq) (Re hq) (IC hq)).mul.2.2.2
  have a_3_260_299 : q 260=q 299 := gm3
  have gF := qR_pF hq (QAct.tab (SZ hq b19) (show QTab (q 4) (q 5) (q 6) (q 7) (q 19) (q 132) (q 176) (q 218) (q 133) (q 177) (q 219) (q 134) (q 178) (q 220) from ⟨b19,(NM hq),qR_pT0 hq b19,qR_pT1 hq b19,qR_pT2 hq b19,qR_pT3 hq b19,qR_pT4 hq b19,qR_pT5 hq b19,qR_pT6 hq b19,qR_pT7 hq b19,qR_pT8 hq b19⟩))
  have b329 : q 329=0 := gF
  have hH : Ww q qR_H1 := (Tf (hF b19) (Tf (hF b227) (Tf (hT a_3_267_306) (Tf (hT a_3_265_304) (Tf (hT a_3_262_301) (Tf (hT a_3_260_299) (Tf (hT b329) trivial)))))))
  exact NX qR_r1 hσ hq h0 hH ⟨tab,mx⟩ (Mp hσ hq h0 ⟨tab,mx⟩) hA
end Go.Proofs.YthagmklephpnhaaGreatDoor
