/- Part 13 of the walks and of the mathematics under them: VP VPC VY VSZ VSA PLY VPD VPE CFspaced MEMRA MEMR1 MEMR2 MEMR3 MEMR4 MEMR5 MEMR6 MEM. -/
import Derived.Test.YthagmklephpnhaaGreatDoorA2
import Derived.Test.YthagmklephpnhaaGreatDoorA12
set_option maxHeartbeats 16000000
set_option maxRecDepth 100000
/- VP -/
namespace Cx
open Go Go.RowKit
abbrev Hs := List (Nat × Nat × Nat × Nat)
def Sx.plus (S : Sx) (X : Hs) : Sx := { S with H := X ++ S.H }
abbrev Ask := Nat × Nat × Nat × Nat
def JK (a : Nat) : Ask := (0,a,0,a)
def Jn (S : Sx) : Ask→Bool
 | (k,a,b,d) => (Nat.beq k 0 && (Nat.beq b 0 && Nat.beq d a)) || (Nat.beq k 3 && (match S.N[d]? with
  | some (op,ar) => Nat.beq op 3 && OB ar [a,b]
  | none => false))
def XP (S : Sx) (a b : Nat) : List Nat→List Nat→Option (List Ask)
 | c :: l,d :: m => (S.nd 4 [a,d]).bind fun x => (S.nd 4 [c,b]).bind fun y => (S.nd 3 [x,y]).bind fun z => (XP S a b l m).map fun r => (3,x,y,z) :: r
 | _,_ => some []
def Vq (S : Sx) : List Nat→List Nat→List Nat→List Nat→Option (List Ask)
 | pl,pm,a :: l,b :: m => (XP S a b pl pm).bind fun r => (Vq S (pl ++ [a]) (pm ++ [b]) l m).map fun t => r ++ t
 | _,_,_,_ => some []
def Wo (S : Sx) : List Nat→List Nat→Option (List Ask)
 | a :: l,b :: m => (S.nd 3 [a,b]).bind fun d => (Wo S l m).map fun r => (3,a,b,d) :: r
 | _,_ => some []
def asks (S : Sx) (h : List HB) (code : Nat) (args : List AV) : Option (List Ask) :=
 match code with
 | 60 => arg1 (fun x => (asA x).bind fun cs => (UO S cs).map fun l => l.map JK) args
 | 61 => arg1 (fun x => (YO h 1 x).bind fun p => (QO (acX 0) p.2).map fun l => l.map JK) args
 | 62 => YN (fun x y => (YO h 1 x).bind fun p => (QO (acX 0) p.2).bind fun l => (YO h 1 y).bind fun p' => (QO (acX 0) p'.2).bind fun m => Vq S [] [] l m) args
 | 63 => arg1 (fun x => (asA x).bind fun cs => (QO ZZ cs).bind fun l => (ON S l).map fun xs => xs.map JK) args
 | 69 => arg1 (fun x => (asA x).bind fun cs => (QO (YZ S) cs).map fun l => l.map JK) args
 | 67 => arg1 (fun x => (asA x).bind fun cs => (QO (YZ S) (cs.take 3)).map fun l => l.map JK) args
 | 65 => arg1 (fun x => (asA x).bind fun cs => (QO (acX 0) cs).map fun l => l.map JK) args
 | 66 => YN (fun x y => (asA x).bind fun cs => (asA y).bind fun ds => (QO (acX 0) cs).bind fun l => (QO (acX 0) ds).bind fun m => Wo S l m) args
 | 64 => arg1 (fun x => (asA x).bind fun cs => (UO S cs).map fun l => (l.take 5).map JK) args
 | 68 => YN (fun x _ => (asA x).bind fun cs => (UO S cs).map fun l => (l.take 5).map JK) args
 | _ => none
def ZK : List Ask→Hs→List Hs
 | [],_ => []
 | (k,a,b,_) :: l,X => ((k,a,b,0) :: X) :: ZK l ((k,a,b,1) :: X)
def YM : List Ask→Hs→Hs
 | [],X => X
 | (k,a,b,_) :: l,X => YM l ((k,a,b,1) :: X)
def Zc (S : Sx) (call : ZG) : ZG := fun f args h nx => S.P.funcs[f]?.bind fun fn => fn.body.bind fun c => ifO (Nat.ble args.length fn.ntmps) ((WU S call fn.ntmps c { tm := Ke 0 args,h := h,nx := nx }).bind fun r =>
   ifO (Nat.ble r.1 1) ((QO (Df S.P r.2) fn.results.toList).map fun xs => (MR xs,r.2.h,r.2.nx)))
abbrev XC := Option (AV × List HB × Nat)
def acZ : AC→Option Nat
 | .inr (k,j,a,x,y) => ifO (Nat.beq k 0 && (Nat.beq j 7 && (Nat.beq x 0 && Nat.beq y 0))) (some a)
 | _ => none
def YY (S : Sx) (v : AV) : AV := match (asC v).bind (acX 4) with
 | some n => (match S.N[n]? with
  | some (_,[a,b]) => (match S.nd 4 [a,b],S.kn 0 a 0 with
   | some m,some r => bif Nat.beq m n && !Nat.beq 1 r then v1 (.inr (0,7,b,0,0)) else v
   | _,_ => v)
  | _ => v)
 | none => v
def Jd (S : Sx) (r : XC) : XC := r.map fun p => (YY S p.1,p.2)
def UG (v : AV) : Option (Bool ⊕ Nat) := match asB v with
 | some b => some (.inl b)
 | none => ((asC v).bind acZ).map .inr
def Ox : Bool ⊕ Nat→AV
 | .inl b => kB b
 | .inr a => v1 (.inr (0,7,a,0,0))
def Vp : Bool ⊕ Nat→Bool ⊕ Nat→Bool
 | .inl b,.inl c => b == c
 | .inr a,.inr b => Nat.beq a b
 | _,_ => false
def Vh (h : List HB) (b : Bool ⊕ Nat) (hi : Nat) : XC→Bool
 | some (v,h',nx') => (match UG v with
  | some c => Vp b c
  | none => false) && (Nat.ble nx' hi && h.all fun x => h'.any fun y => Nat.beq y.1 x.1 && Rf x.2 y.2)
 | none => false
def UF : Nat→List XC→Nat
 | m,[] => m
 | m,some p :: rs => UF (bif Nat.ble m p.2.2 then p.2.2 else m) rs
 | m,none :: rs => UF m rs
def Xe (h : List HB) (nx : Nat) (rs : List XC) : XC :=
 match rs with
 | some p :: _ => (UG p.1).bind fun b => ifO (rs.all (Vh h b (UF nx rs))) (some (Ox b,h,UF nx rs))
 | _ => none
def Yk (S : Sx) (X : Hs) (h : List HB) (c : Nat) (args : List AV) : Option (List Ask × Nat) :=
 (asks (S.plus X) h c args).bind fun l => ifO (l.all (Jn S)) ((sqN S (l.map (·.2.2.2))).bind fun s => ((S.plus X).kn 0 s 0).map fun r => (l,r))
theorem Jp {S : Sx} {X : Hs} {h : List HB} {c : Nat} {args : List AV} {l : List Ask} {r : Nat} (e : Yk S X h c args=some (l,r)) : (∀ a ∈ l,Jn S a=true)∧∃ s,sqN S (l.map (·.2.2.2))=some s∧(S.plus X).kn 0 s 0=some r := by
 unfold Yk at e
 simp only [Option.bind_eq_some_iff,ifO_some,Option.map_eq_some_iff,List.all_eq_true,Prod.mk.injEq] at e
 obtain ⟨l',_,h1,s,h2,r',h3,rfl,rfl⟩ := e
 exact ⟨h1,s,h2,h3⟩
def QR (S : Sx) (cs : List (FuncId × Nat)) : Nat→Hs→ZG
 | 0,_,_,_,_,_ => none
 | n+1,X,f,args,h,nx => match Un f cs with
  | none => Zc (S.plus X) (QR S cs n X) f args h nx
  | some c => match Yk S X h c args with
   | none => Zc (S.plus X) (QR S cs n X) f args h nx
   | some (l,r) => bif Nat.beq 1 r then Zc (S.plus (YM l X)) (QR S cs n (YM l X)) f args h nx
    else Xe h nx ((ZK l X).map fun X' => Jd (S.plus X') (Zc (S.plus X') (QR S cs n X') f args h nx))
section
variable {S : Sx} {E : Ev S.nb} {w0 : World}
theorem XE {call : ZG} (hm : S.P.follows .mixedOrders=true) (N : Knows S E) (hP : Jq S E w0) (hC : QY S E w0 call) : QY S E w0 (Zc S call) := fun f args h nx p hp γ w vs hi hA hb hlt hf => by
 unfold Zc at hp
 simp only [Option.bind_eq_some_iff,ifO_some,Option.map_eq_some_iff,Nat.ble_eq] at hp
 obtain ⟨fn,h1,c,h2,h3,⟨e,s'⟩,h4,h5,xs,h6,rfl⟩ := hp
 dsimp only at h5 h6
 rcases (show e=0 ∨ e=1 by omega) with rfl | rfl
 all_goals
  obtain ⟨_,_,r⟩ := YC hm N hP hC c _ _ _ h4
  refine calls_of_wp h1 h2 (r γ _ w _ ⟨hi,fun t v q => ?_,hb,hlt,?_,rfl⟩ hf fun a' w' γ' hef hs => ?_)
  ·obtain ⟨_,q2⟩ := Ud q
   rw [Nat.sub_zero] at q2
   obtain ⟨u,hu,hv⟩ := hA.get q2
   have hlt : t < vs.length := (List.getElem?_eq_some_iff.1 hu).1
   have : (vs.toArray ++ Array.replicate (fn.ntmps - vs.toArray.size) undef).getD t undef=u := by
    rw [Array.getD_eq_getD_getElem?,Array.getElem?_append_left (by simpa using hlt)]
    simp [hu]
   show avOn _ v ((vs.toArray ++ Array.replicate (fn.ntmps - vs.toArray.size) undef).getD t undef)
   rw [this]
   exact hv
  ·have := hA.len
   simp
   omega
  ·obtain ⟨v,hv,hx⟩ := YH hs h6
   exact ⟨hs.df,v,hv,v,γ',rfl,hef,hx,hs.bx⟩
theorem Ov {v : AV} {b : Bool} (h : asB v=some b) : v=kB b := by
 unfold asB at h
 rw [Option.bind_eq_some_iff] at h
 obtain ⟨c,h1,h2⟩ := h
 unfold asC at h1
 split at h1
 ·cases h1
  unfold acB at h2
  split at h2
  ·cases h2
   rfl
  ·cases h2
 ·cases h1
theorem UI {v : AV} {k : Bool ⊕ Nat} (h : UG v=some k) : v=Ox k := by
 unfold UG at h
 split at h
 ·rename_i b hb
  cases h
  exact Ov hb
 ·rw [Option.map_eq_some_iff] at h
  obtain ⟨a,h,rfl⟩ := h
  rw [Option.bind_eq_some_iff] at h
  obtain ⟨c,h1,h2⟩ := h
  unfold asC at h1
  split at h1
  ·cases h1
   unfold acZ at h2
   split at h2
   ·rw [ifO_some,Bool.and_eq_true,Bool.and_eq_true,Bool.and_eq_true,Nat.beq_eq,Nat.beq_eq,Nat.beq_eq,Nat.beq_eq] at h2
    obtain ⟨⟨rfl,rfl,rfl,rfl⟩,h3⟩ := h2
    cases h3
    rfl
   ·cases h2
  ·cases h1
theorem YV {a b : Bool ⊕ Nat} (h : Vp a b=true) : a=b := by
 unfold Vp at h
 split at h
 ·rename_i x y
  have : x=y := by simpa using h
  rw [this]
 ·rw [Nat.beq_eq] at h
  rw [h]
 ·cases h
theorem Ya (q : Rat) : Js q=0 ↔ q=0 := by
 unfold Js
 split
 ·rename_i hlt
  constructor
  ·intro q; cases q
  ·intro q; rw [q] at hlt; exact absurd hlt (by decide)
 ·split <;> simp_all
theorem Va (N : Knows S E) {γ : Nat→Option Nat} {w : World} {v : AV} {r : Value} (h : avOn (cOn E S.K γ w) v r) : avOn (cOn E S.K γ w) (YY S v) r := by
 unfold YY
 split
 ·rename_i n hn
  rw [Option.bind_eq_some_iff] at hn
  obtain ⟨c,h1,h2⟩ := hn
  split
  ·split
   ·rename_i a b _ _ _ m r' hm hr
    cases e : (Nat.beq m n && !Nat.beq 1 r') with
    | true =>
     rw [Bool.and_eq_true,Nat.beq_eq,Bool.not_eq_true'] at e
     obtain ⟨rfl,e2⟩ := e
     have ez := (N.x4 _ _ _).1 (YG h2 (QU h1 h))
     refine Zn ((N.x7 _ _ _).2 ⟨_,ez,?_⟩)
     have hz : ¬ E.q a=0 := fun q => by rw [(N.k0 a r' hr).2 q] at e2; cases e2
     rw [Ya,N.k7 _ _ _ hm]
     constructor
     ·exact fun q => (Rat.mul_eq_zero.1 q).resolve_left hz
     ·intro q
      rw [q,Rat.mul_zero]
    | false => exact h
   ·exact h
  ·exact h
 ·exact h
theorem Yy {X : Hs} {call : ZG} (N : Knows (S.plus X) E) (hC : QY S E w0 call) : QY S E w0 (fun f args h nx => Jd (S.plus X) (call f args h nx)) := fun f args h nx p hp => by
 replace hp : Jd (S.plus X) (call f args h nx)=some p := hp
 unfold Jd at hp
 rw [Option.map_eq_some_iff] at hp
 obtain ⟨p0,hp0,rfl⟩ := hp
 intro γ w vs hi hA hb hlt hf
 refine (hC f args h nx p0 hp0 γ w vs hi hA hb hlt hf).mono ?_
 rintro _ w' ⟨r',γ',rfl,hef,hv,hx⟩
 exact ⟨r',γ',rfl,hef,Va (S := S.plus X) N hv,hx⟩
theorem Ju {h : List HB} {b : Bool ⊕ Nat} {hi : Nat} {r : XC} (hr : Vh h b hi r=true) : ∃ h' nx',r=some (Ox b,h',nx')∧nx'≤hi∧∀ x ∈ h,x ∈ h' := by
 unfold Vh at hr
 split at hr
 ·rename_i v h' nx'
  rw [Bool.and_eq_true,Bool.and_eq_true,Nat.ble_eq,List.all_eq_true] at hr
  obtain ⟨h1,h2,h3⟩ := hr
  refine ⟨h',nx',?_,h2,fun x hx => ?_⟩
  ·split at h1
   ·rename_i c hc
    rw [UI hc,YV h1]
   ·cases h1
  ·have := h3 x hx
   rw [List.any_eq_true] at this
   obtain ⟨y,hy,e⟩ := this
   rw [Bool.and_eq_true,Nat.beq_eq] at e
   have : x=y := Prod.ext e.1.symm (Yx e.2)
   rw [this]
   exact hy
 ·cases hr
variable {T : Hs→Prop} {z : Nat→Prop}
def Zu (S : Sx) (T : Hs→Prop) (z : Nat→Prop) : Prop := ∀ X,T X→∀ a,Jn S a=true→(z a.2.2.2→T ((a.1,a.2.1,a.2.2.1,1) :: X))∧(¬ z a.2.2.2→T ((a.1,a.2.1,a.2.2.1,0) :: X))
theorem ZE (hk : Zu S T z) : ∀ {l : List Ask} {X : Hs},T X→(∀ a ∈ l,Jn S a=true)→(∀ a ∈ l,z a.2.2.2)→T (YM l X)
 | [],_,h,_,_ => h
 | (k,a,b,d) :: l,X,h,ho,hz => ZE (l := l) hk ((hk X h (k,a,b,d) (ho _ List.mem_cons_self)).1 (hz _ List.mem_cons_self)) (fun a ha => ho a (List.mem_cons_of_mem _ ha)) (fun a ha => hz a (List.mem_cons_of_mem _ ha))
theorem Zm (hk : Zu S T z) : ∀ {l : List Ask} {X : Hs},T X→(∀ a ∈ l,Jn S a=true)→(∃ a ∈ l,¬ z a.2.2.2)→∃ X' ∈ ZK l X,T X'
 | [],_,_,_,⟨_,h,_⟩ => by cases h
 | (k,a,b,d) :: l,X,h,ho,hz => by
  by_cases e : z d
  ·obtain ⟨X',h1,h2⟩ := Zm (l := l) hk ((hk X h (k,a,b,d) (ho _ List.mem_cons_self)).1 e) (fun a ha => ho a (List.mem_cons_of_mem _ ha)) (by
    obtain ⟨c,hc,hn⟩ := hz
    rcases List.mem_cons.1 hc with rfl | hc
    ·exact (hn e).elim
    ·exact ⟨c,hc,hn⟩)
   exact ⟨X',List.mem_cons_of_mem _ h1,h2⟩
  ·exact ⟨_,List.mem_cons_self,(hk X h (k,a,b,d) (ho _ List.mem_cons_self)).2 e⟩
theorem JJ {cs : List (FuncId × Nat)} (hm : S.P.follows .mixedOrders=true) (hN : ∀ X,T X→Knows (S.plus X) E) (hP : ∀ X,T X→Jq (S.plus X) E w0) (hk : Zu S T z)
  (hs : ∀ X,T X→∀ l s r,sqN S l=some s→(S.plus X).kn 0 s 0=some r→(Nat.beq 1 r=true→∀ d ∈ l,z d)∧(Nat.beq 1 r=false→∃ d ∈ l,¬ z d)) : ∀ n X,T X→QY S E w0 (QR S cs n X)
 | 0,_,_ => fun _ _ _ _ _ h => by cases h
 | n+1,X,hX => fun f args h nx p hp => by
  have body : ∀ Y,T Y→QY S E w0 (Zc (S.plus Y) (QR S cs n Y)) := fun Y hY => XE (S := S.plus Y) hm (hN Y hY) (hP Y hY) (JJ hm hN hP hk hs n Y hY)
  unfold QR at hp
  split at hp
  ·exact body X hX f args h nx p hp
  ·split at hp
   ·exact body X hX f args h nx p hp
   rename_i l r hk'
   obtain ⟨hl,s,h1,h2⟩ := Jp hk'
   have h3 := hp
   obtain ⟨a1,a0⟩ := hs X hX _ s r h1 h2
   cases e : Nat.beq 1 r with
   | true =>
    rw [e] at h3
    exact body _ (ZE hk hX hl fun a ha => a1 e _ (List.mem_map_of_mem ha)) f args h nx p h3
   | false =>
    rw [e] at h3
    obtain ⟨d,hd,hz⟩ := a0 e
    obtain ⟨a,ha,rfl⟩ := List.mem_map.1 hd
    obtain ⟨X',m1,m2⟩ := Zm hk hX hl ⟨a,ha,hz⟩
    replace h3 : Xe h nx ((ZK l X).map fun X' => Jd (S.plus X') (Zc (S.plus X') (QR S cs n X') f args h nx))=some p := h3
    unfold Xe at h3
    split at h3
    ·rename_i p0 rs hrs
     rw [Option.bind_eq_some_iff] at h3
     obtain ⟨b,hb,h4⟩ := h3
     rw [ifO_some,List.all_eq_true] at h4
     obtain ⟨h5,h6⟩ := h4
     cases h6
     obtain ⟨h',nx',q1,q2,q3⟩ := Ju (h5 _ (List.mem_map_of_mem m1))
     intro γ w vs hi hA hb hlt hf
     refine (Yy (hN X' m2) (body X' m2) f args h nx _ q1 γ w vs hi hA hb hlt fun b g1 g2 => hf b g1 (Nat.lt_of_lt_of_le g2 q2)).mono ?_
     rintro _ w' ⟨r',γ',rfl,hef,hv,hx⟩
     exact ⟨r',γ',rfl,hef.wide (Nat.le_refl _) q2,hv,fun x hh => hx x (q3 x hh)⟩
    ·cases h3
end
end Cx
/- VPC -/
namespace Go.Proofs.YthagmklephpnhaaGreatDoor
open Cx Go Go.RowKit
section
variable {N : List Nd} {H : List (Nat × Nat × Nat × Nat)} {K : List (FuncId × List AC)} {L C : List (List Nat × Nat)} {Z : List Nat} {q : Nat→Rat} {σ : Nat→ByteArray} {w0 : World} {cl : List FuncId} {cs pr : List (FuncId × Nat)}
theorem Qm {k a b k' a' b' r' : Nat} {r : Nat} (h : Ji k a b ((k',a',b',r') :: H)=some r) : (k=k'∧a=a'∧b=b'∧r=r') ∨ Ji k a b H=some r := by
 unfold Ji at h
 cases e : (Nat.beq k k' && (Nat.beq a a' && Nat.beq b b')) with
 | true =>
  rw [e] at h
  simp only [Bool.and_eq_true,Nat.beq_eq] at e
  exact Or.inl ⟨e.1,e.2.1,e.2.2,(Option.some.inj h).symm⟩
 | false =>
  rw [e] at h
  exact Or.inr h
theorem Hy.add0 (Y : Hy N H L C Z q σ) {a r : Nat} (h : Nat.beq 1 r=true ↔ q a=0) : Hy N ((0,a,0,r) :: H) L C Z q σ where
 nat := Y.nat
 qs := Y.qs
 zs := Y.zs
 par := Y.par
 lit := Y.lit
 k0 := fun a' r' g => by
  rcases Qm g with ⟨_,e1,_,e2⟩ | g
  ·rw [e1,e2]
   exact h
  ·exact Y.k0 a' r' g
 k1 := fun a' r' g => by
  rcases Qm g with ⟨e,_⟩ | g
  ·cases e
  ·exact Y.k1 a' r' g
 k2 := fun a' r' g => by
  rcases Qm g with ⟨e,_⟩ | g
  ·cases e
  ·exact Y.k2 a' r' g
 k4 := fun l a' b' r' g1 g => by
  rcases Qm g with ⟨e,_⟩ | g
  ·cases e
  ·exact Y.k4 l a' b' r' g1 g
 k3 := fun a' b' r' g => by
  rcases Qm g with ⟨e,_⟩ | g
  ·cases e
  ·exact Y.k3 a' b' r' g
 k6 := fun a' b' r' g => by
  rcases Qm g with ⟨e,_⟩ | g
  ·cases e
  ·exact Y.k6 a' b' r' g
 k5 := fun a' r' g => by
  rcases Qm g with ⟨e,_⟩ | g
  ·cases e
  ·exact Y.k5 a' r' g
theorem Hy.add3 (Y : Hy N H L C Z q σ) {a b r : Nat} (h : Nat.beq 1 r=true ↔ q a=q b) : Hy N ((3,a,b,r) :: H) L C Z q σ where
 nat := Y.nat
 qs := Y.qs
 zs := Y.zs
 par := Y.par
 lit := Y.lit
 k0 := fun a' r' g => by
  rcases Qm g with ⟨e,_⟩ | g
  ·cases e
  ·exact Y.k0 a' r' g
 k1 := fun a' r' g => by
  rcases Qm g with ⟨e,_⟩ | g
  ·cases e
  ·exact Y.k1 a' r' g
 k2 := fun a' r' g => by
  rcases Qm g with ⟨e,_⟩ | g
  ·cases e
  ·exact Y.k2 a' r' g
 k4 := fun l a' b' r' g1 g => by
  rcases Qm g with ⟨e,_⟩ | g
  ·cases e
  ·exact Y.k4 l a' b' r' g1 g
 k3 := fun a' b' r' g => by
  rcases Qm g with ⟨_,e1,e2,e3⟩ | g
  ·rw [e1,e2,e3]
   exact h
  ·exact Y.k3 a' b' r' g
 k6 := fun a' b' r' g => by
  rcases Qm g with ⟨e,_⟩ | g
  ·cases e
  ·exact Y.k6 a' b' r' g
 k5 := fun a' r' g => by
  rcases Qm g with ⟨e,_⟩ | g
  ·cases e
  ·exact Y.k5 a' r' g
theorem XF : Zu (sx Tryz.prog N H K L C Z pr) (fun X => Hy N (X ++ H) L C Z q σ) (fun d => q d=0) := fun X Y a ha => by
 obtain ⟨k,a,b,d⟩ := a
 have t1 : Nat.beq 1 1=true := rfl
 have t0 : Nat.beq 1 0 ≠ true := fun h => by cases h
 unfold Jn at ha
 rw [Bool.or_eq_true] at ha
 rcases ha with ha | ha
 ·simp only [Bool.and_eq_true,Nat.beq_eq] at ha
  obtain ⟨rfl,rfl,rfl⟩ := ha
  exact ⟨fun h => Hy.add0 Y ⟨fun _ => h,fun _ => t1⟩,fun h => Hy.add0 Y ⟨fun g => (t0 g).elim,fun g => (h g).elim⟩⟩
 ·rw [Bool.and_eq_true,Nat.beq_eq] at ha
  obtain ⟨rfl,hb⟩ := ha
  split at hb
  ·rename_i op ar hn
   rw [Bool.and_eq_true,Nat.beq_eq] at hb
   obtain ⟨rfl,hb⟩ := hb
   have e := Vc hb
   subst e
   have hv : q d=q a - q b := Y.nat d _ hn
   have h2 : q d=0 ↔ q a=q b := by
    rw [hv]
    constructor <;> intro h <;> grind
   exact ⟨fun h => Hy.add3 Y ⟨fun _ => h2.1 h,fun _ => t1⟩,fun h => Hy.add3 Y ⟨fun g => (t0 g).elim,fun g => (h (h2.2 g)).elim⟩⟩
  ·cases hb
theorem Ve (y : Rat) : 0≤y*y := by
 by_cases h : y=0
 ·rw [h,Rat.zero_mul]
  exact Rat.le_refl
 ·exact Rat.le_of_lt (OG h)
theorem OK {x y : Rat} (hx : 0≤x) : x+y*y=0 ↔ x=0∧y=0 := by
 constructor
 ·intro h
  have h2 := Ve y
  have h3 : x=0 := by grind
  refine ⟨h3,?_⟩
  have : y*y=0 := by grind
  rcases Rat.mul_eq_zero.1 this with g | g <;> exact g
 ·rintro ⟨rfl,rfl⟩
  grind
theorem XL {H' : List (Nat × Nat × Nat × Nat)} (Y : Hy N H' L C Z q σ) : ∀ {l : List Nat} {s t : Nat},sqF (sx Tryz.prog N H K L C Z pr) s l=some t→0≤q s→0≤q t∧(q t=0 ↔ q s=0∧∀ d ∈ l,q d=0)
 | [],s,t,h,hs => by
  cases h
  exact ⟨hs,fun e => ⟨e,fun d hd => by cases hd⟩,fun e => e.1⟩
 | a :: l,s,t,h,hs => by
  unfold sqF at h
  simp only [Option.bind_eq_some_iff] at h
  obtain ⟨b,h1,c,h2,h3⟩ := h
  have e1 : q b=q a*q a := Hy.nd (H := H') (K := K) (pr := pr) Y h1
  have e2 : q c=q s+q b := Hy.nd (H := H') (K := K) (pr := pr) Y h2
  have n := Ve (q a)
  obtain ⟨g1,g2⟩ := XL Y h3 (by grind)
  refine ⟨g1,g2.trans ?_⟩
  have e3 := OK (y := q a) hs
  rw [e2,e1,e3]
  constructor
  ·rintro ⟨⟨x,y⟩,z⟩
   refine ⟨x,fun d hd => ?_⟩
   rcases List.mem_cons.1 hd with rfl | hd
   ·exact y
   ·exact z d hd
  ·rintro ⟨x,y⟩
   exact ⟨⟨x,y a List.mem_cons_self⟩,fun d hd => y d (List.mem_cons_of_mem _ hd)⟩
theorem Yz {H' : List (Nat × Nat × Nat × Nat)} (Y : Hy N H' L C Z q σ) {l : List Nat} {s : Nat} (h : sqN (sx Tryz.prog N H K L C Z pr) l=some s) : q s=0 ↔ ∀ d ∈ l,q d=0 := by
 unfold sqN at h
 split at h
 ·cases h
 ·rename_i a l
  rw [Option.bind_eq_some_iff] at h
  obtain ⟨b,h1,h2⟩ := h
  have e1 : q b=q a*q a := Hy.nd (H := H') (K := K) (pr := pr) Y h1
  have n := Ve (q a)
  obtain ⟨_,g⟩ := XL Y h2 (by grind)
  rw [g,e1]
  constructor
  ·rintro ⟨x,y⟩ d hd
   rcases List.mem_cons.1 hd with rfl | hd
   ·rcases Rat.mul_eq_zero.1 x with x | x <;> exact x
   ·exact y d hd
  ·intro y
   refine ⟨?_,fun d hd => y d (List.mem_cons_of_mem _ hd)⟩
   rw [y a List.mem_cons_self,Rat.zero_mul]
theorem Yg {f : FuncId} {args : List AV} {vs : List Value} {k : Nat} {p : List HB × Nat} {b : Bool} (Y : Hy N H L C Z q σ) (hm : (Tryz.prog).follows .mixedOrders=true) {w : World} (hP : ∀ H',Hy N H' L C Z q σ→Jq (sx Tryz.prog N H' K L C Z pr) (evS q σ) w) (hr : QR (sx Tryz.prog N H K L C Z pr) cs k [] f args [] 0=some (kB b,p))
  (hA : A2 (avOn (cOn (evS q σ) K (fun _ => none) w)) args vs) : Calls Tryz.prog f vs.toArray w fun e w' => Below w.heap.size w w'∧e=.returned (.bool b) := by
 refine (JJ (S := sx Tryz.prog N H K L C Z pr) (E := evS q σ) (w0 := w) (T := fun X => Hy N (X ++ H) L C Z q σ) (z := fun d => q d=0) hm (fun X hX => TJ hX) (fun X hX => hP _ hX) XF ?_ k [] Y f args [] 0 (kB b,p) hr (fun _ => none) w vs ⟨Below.refl _ _,(fun _ _ h => by cases h)⟩ hA (fun x hx => by cases hx) (fun x hx => by cases hx) (fun _ _ _ => rfl)).mono ?_
 ·intro X hX l s r h1 h2
  have e := hX.k0 s r h2
  have g := Yz hX h1
  refine ⟨fun h => g.1 (e.1 h),fun h => ?_⟩
  have hn : ¬ ∀ d ∈ l,q d=0 := fun q' => by
   rw [e.2 (g.2 q')] at h
   cases h
  simpa using hn
 ·rintro _ w' ⟨r,γ',rfl,hef,hv,_⟩
  exact ⟨hef.wi.bel,by rw [show r=.bool b from (QU (v := kB b) (c := .inl (.bool b)) rfl hv).1]⟩
theorem Yc {f : FuncId} {args : List AV} {vs : List Value} {k : Nat} {p : List HB × Nat} {b : Bool} (Y : Hy N H L C Z q σ) (hc : ∀ f ∈ cl,Closed f) (hm : (Tryz.prog).follows .mixedOrders=true) (hr : QR (sx Tryz.prog N H K L C Z (prC cl)) cs k [] f args [] 0=some (kB b,p)) {w : World} (hp : Zf w)
  (hA : A2 (avOn (cOn (evS q σ) K (fun _ => none) w)) args vs) : Calls Tryz.prog f vs.toArray w fun e w' => Below w.heap.size w w'∧e=.returned (.bool b) := Yg Y hm (fun _ Y' => Ou Y' hp hc) hr hA
theorem XB {f : FuncId} {args : List AV} {vs : List Value} (k : Nat) (Y : Hy N H L C Z q σ) (hc : ∀ f ∈ cl,Closed f) (hm : (Tryz.prog).follows .mixedOrders=true) (hr : (QR (sx Tryz.prog N H K L C Z (prC cl)) cs k [] f args [] 0).map (·.1)=some (kB true)) {w : World} (hp : Zf w)
  (hA : A2 (avOn (cOn (evS q σ) K (fun _ => none) w)) args vs) : Calls Tryz.prog f vs.toArray w fun e w' => Below w.heap.size w w'∧e=.returned (.bool true) := by
 rw [Option.map_eq_some_iff] at hr
 obtain ⟨⟨v,p⟩,h1,h2⟩ := hr
 dsimp only at h2
 subst h2
 exact Yc Y hc hm h1 hp hA
end
end Go.Proofs.YthagmklephpnhaaGreatDoor
/- VY -/
namespace Go.Proofs.YthagmklephpnhaaGreatDoor
open Go.RowKit Cx
theorem UK (t : Rat) : t*(t.den : Rat)=((t.num : Int) : Rat) := by
 conv => lhs; lhs; rw [← Rat.mkRat_self t]
 have h0 : (t.den : Rat) ≠ 0 := fun h => t.den_nz (by exact_mod_cast h)
 rw [Rat.mkRat_eq_div,Rat.div_mul_cancel h0]
theorem whole {q : Rat} (h : q.den=1) : q=((q.num : Int) : Rat) := by
 have := UK q
 rw [h] at this
 rw [← this]
 show q=q*((1 : Nat) : Rat)
 exact (Rat.mul_one q).symm
end Go.Proofs.YthagmklephpnhaaGreatDoor
/- VSZ -/
namespace Go.Proofs.YthagmklephpnhaaGreatDoor
open Go.RowKit Cx
structure QW (z : Nat) (x : Rat) : Prop where
 qs : QS z x
 wh : x.den=1
theorem QW.of {z : Nat} {n : Int} (h : n.natAbs < 2 ^ z) (hz : 0 < z) : QW z ((n : Int) : Rat) :=
 ⟨⟨by simpa using h,by
  show ((n : Int) : Rat).den < 2 ^ z
  rw [Rat.den_intCast]
  exact Nat.one_lt_two_pow (by omega)⟩,Rat.den_intCast n⟩
theorem QW.mono {k l : Nat} {x : Rat} (h : QW k x) (hk : k≤l) : QW l x := ⟨h.qs.mono hk,h.wh⟩
theorem XK {a b x y : Nat} (h1 : a < 2 ^ x) (h2 : b < 2 ^ y) : a+b < 2 ^ (Nat.max x y+1) := by
 have e1 : 2 ^ x≤2 ^ Nat.max x y := Nat.pow_le_pow_right (by decide) (Nat.le_max_left x y)
 have e2 : 2 ^ y≤2 ^ Nat.max x y := Nat.pow_le_pow_right (by decide) (Nat.le_max_right x y)
 rw [Nat.pow_succ]
 omega
theorem QW.add {x y : Nat} {a b : Rat} (h1 : QW x a) (h2 : QW y b) : QW (Nat.max x y+1) (a+b) := by
 rw [whole h1.wh,whole h2.wh,← Rat.intCast_add]
 refine QW.of ?_ (by omega)
 have := XK h1.qs.num h2.qs.num
 omega
theorem QW.sub {x y : Nat} {a b : Rat} (h1 : QW x a) (h2 : QW y b) : QW (Nat.max x y+1) (a - b) := by
 rw [whole h1.wh,whole h2.wh,← Rat.intCast_sub]
 refine QW.of ?_ (by omega)
 have := XK h1.qs.num h2.qs.num
 omega
theorem QW.mul {x y : Nat} {a b : Rat} (h1 : QW x a) (h2 : QW y b) : QW (x+y) (a*b) := by
 refine ⟨h1.qs.mul h2.qs,?_⟩
 rw [whole h1.wh,whole h2.wh,← Rat.intCast_mul]
 exact Rat.den_intCast _
theorem QW.neg {x : Nat} {a : Rat} (h1 : QW x a) : QW x (-a) := ⟨h1.qs.neg,h1.wh⟩
theorem Jo : ∀ n : Nat,10 ^ n≤2 ^ ((10*n+2) / 3)
 | 0 => by decide
 | 1 => by decide
 | 2 => by decide
 | n+3 => by
  have h := Jo n
  have e : (10*(n+3)+2) / 3=(10*n+2) / 3+10 := by omega
  rw [e,Nat.pow_add,Nat.pow_add]
  exact Nat.mul_le_mul h (by decide)
theorem QS.rd3 (l : List UInt8) : QS ((10*l.length+2) / 3+5) (Cx.rd l) := by
 have key : ∀ {m : List UInt8},Jt m=true→dv m < 2 ^ ((10*m.length+2) / 3) := fun {m} h => Nat.lt_of_lt_of_le (Tl (Jx h)) (Jo _)
 unfold Cx.rd
 split
 ·rename_i h
  rw [Bool.and_eq_true] at h
  have h1 := key h.1
  have h2 := key h.2
  have h3 := Kq (Qy l)
  have h4 := IP (Qy l)
  have h5 := WJ l
  apply QS.mkr
  ·rw [Vm]; exact Nat.lt_of_lt_of_le h1 (Nat.pow_le_pow_right (by decide) (by omega))
  ·exact Nat.lt_of_lt_of_le h2 (Nat.pow_le_pow_right (by decide) (by omega))
 ·exact QS.zero.mono (by omega)
section
variable {N : List Nd} {Z : List Nat} {I : List Bool} {q : Nat→Rat}
end
end Go.Proofs.YthagmklephpnhaaGreatDoor
/- VSA -/
namespace Go.Proofs.YthagmklephpnhaaGreatDoor
open Go.RowKit Cx
def inB : Nat := 3495259
abbrev Atm := Nat × Nat
def JQ (x : Atm) : List Atm→Option (List Atm)
 | [] => none
 | y :: l => bif Nat.beq x.1 y.1 && Nat.beq x.2 y.2 then some l else (JQ x l).map (y :: ·)
def QK : List Atm→List Atm→Option (List Atm)
 | l,[] => some l
 | l,x :: r => (JQ x l).bind fun l' => QK l' r
def JP : List Atm→List Atm→List Atm
 | _,[] => []
 | U,x :: D => match JQ x U with
  | some U' => JP U' D
  | none => x :: JP U D
def JN (E : List (Nat × List Atm)) : List Nat→List Atm→List Atm
 | [],U => U
 | a :: l,U => JN E l (match E[a]? with
  | some p => U ++ JP U p.2
  | none => U)
def Te (E : List (Nat × List Atm)) (x : Atm) : Nat := match x.1 with
 | 0 => inB
 | 1 => (match E[x.2]? with
  | some p => p.1
  | none => 1)
 | _ => Nat.log2 x.2+1
def ZN (E : List (Nat × List Atm)) : List Atm→Nat
 | [] => 1
 | x :: l => Te E x+ZN E l
def Jk (l : Option (List Atm)) : Bool := match l with
 | some [] => true
 | _ => false
def saN (E : List (Nat × List Atm)) (k z : Nat) (D : List Atm) (nd : Nd) : Bool := (Nat.blt 0 z && D.all fun x => !Nat.beq x.1 1 || Nat.blt x.2 k) && match nd.1,nd.2 with
 | 0,[_,n,d] => (Nat.blt n (2 ^ z) && Nat.blt 0 d) && Jk (QK D (bif Nat.beq d 1 then [] else [(2,d)]))
 | 1,[j] => Nat.ble inB z && Jk (QK D [(0,j)])
 | 2,[a,b] => (match E[a]?,E[b]? with
  | some p,some r => (match QK D p.2,QK D r.2 with
   | some c,some e => Nat.ble (Nat.max (p.1+ZN E c) (r.1+ZN E e)+1) z
   | _,_ => false)
  | _,_ => false)
 | 3,[a,b] => (match E[a]?,E[b]? with
  | some p,some r => (match QK D p.2,QK D r.2 with
   | some c,some e => Nat.ble (Nat.max (p.1+ZN E c) (r.1+ZN E e)+1) z
   | _,_ => false)
  | _,_ => false)
 | 4,[a,b] => (match E[a]?,E[b]? with
  | some p,some r => (match QK D p.2 with
   | some c => Jk (QK c r.2) && Nat.ble (p.1+r.1) z
   | _ => false)
  | _,_ => false)
 | 5,[a] => (match E[a]? with
  | some p => Jk (QK D p.2) && Nat.ble p.1 z
  | _ => false)
 | 6,[a,b] => (match E[a]?,E[b]?,JQ (1,b) D with
  | some p,some r,some D' => (match QK p.2 D' with
   | some c => (match QK r.2 c with
    | some e => Nat.ble (p.1+ZN E e) z
    | none => false)
   | none => false)
  | _,_,_ => false)
 | 7,_ => Nat.beq D.length 0
 | 8,i :: xs => Nat.beq D.length 0 && (xs.all (fun a => match E[a]? with
   | some p => (QK (JN E xs []) p.2).isSome
   | none => false) && (match xs[i]? with
   | some a => (match E[a]? with
    | some p => (match QK (JN E xs []) p.2 with
     | some e => Nat.ble (p.1+ZN E e) z
     | none => false)
    | none => false)
   | none => false))
 | _,_ => false
def saB (E : List (Nat × List Atm)) : Nat→List Nd→List (Nat × List Atm)→List Nat→Bool
 | _,[],[],[] => true
 | k,nd :: ns,p :: ps,z :: zs => (saN E k p.1 p.2 nd && (Nat.ble p.1 z && (Nat.ble (ZN E p.2) z && Nat.ble z 1000000000000))) && saB E (k+1) ns ps zs
 | _,_,_,_ => false
theorem JA {E : List (Nat × List Atm)} : ∀ {ns : List Nd} {ps : List (Nat × List Atm)} {zs : List Nat} {k i : Nat} {nd : Nd},saB E k ns ps zs=true→ns[i]? = some nd→∃ p z,ps[i]? = some p∧zs[i]? = some z∧saN E (k+i) p.1 p.2 nd=true∧p.1≤z∧ZN E p.2≤z∧z≤1000000000000
 | [],_,_,_,_,_,_,h => by simp at h
 | _ :: _,[],_,_,_,_,h,_ => by cases h
 | _ :: _,_ :: _,[],_,_,_,h,_ => by cases h
 | nd' :: ns,p :: ps,z :: zs,k,0,nd,h,e => by
  have : nd'=nd := by simpa using e
  subst this
  unfold saB at h
  simp only [Bool.and_eq_true,Nat.ble_eq] at h
  exact ⟨p,z,rfl,rfl,h.1.1,h.1.2.1,h.1.2.2.1,h.1.2.2.2⟩
 | nd' :: ns,p :: ps,z :: zs,k,i+1,nd,h,e => by
  unfold saB at h
  rw [Bool.and_eq_true] at h
  obtain ⟨p',z',g1,g2,g3,g4⟩ := JA (k := k+1) (i := i) h.2 (by simpa using e)
  exact ⟨p',z',by simpa using g1,by simpa using g2,by rw [show k+(i+1)=k+1+i by omega]; exact g3,g4⟩
theorem XN {E : List (Nat × List Atm)} : ∀ {ns : List Nd} {ps : List (Nat × List Atm)} {zs : List Nat} {k : Nat},saB E k ns ps zs=true→ns.length=ps.length∧ns.length=zs.length
 | [],[],[],_,_ => ⟨rfl,rfl⟩
 | [],[],_ :: _,_,h => by cases h
 | [],_ :: _,_,_,h => by cases h
 | _ :: _,[],_,_,h => by cases h
 | _ :: _,_ :: _,[],_,h => by cases h
 | _ :: _,_ :: _,_ :: _,k,h => by
  unfold saB at h
  rw [Bool.and_eq_true] at h
  have := XN h.2
  exact ⟨congrArg (· + 1) this.1,congrArg (· + 1) this.2⟩
def ZO (dn : Nat→Nat) (M : Nat→Rat) (x : Atm) : Rat := match x.1 with
 | 0 => ((dn x.2 : Nat) : Rat)
 | 1 => if M x.2=0 then 1 else M x.2
 | _ => if x.2=0 then 1 else ((x.2 : Nat) : Rat)
def Qf (dn : Nat→Nat) (M : Nat→Rat) : List Atm→Rat
 | [] => 1
 | x :: l => ZO dn M x*Qf dn M l
theorem ZP {dn : Nat→Nat} {M : Nat→Rat} {x : Atm} : ∀ {l c : List Atm},JQ x l=some c→Qf dn M l=ZO dn M x*Qf dn M c
 | [],_,h => by cases h
 | y :: l,c,h => by
  unfold JQ at h
  cases e : (Nat.beq x.1 y.1 && Nat.beq x.2 y.2) with
  | true =>
   rw [e] at h
   cases h
   rw [Bool.and_eq_true,Nat.beq_eq,Nat.beq_eq] at e
   have : x=y := Prod.ext e.1 e.2
   rw [this]
   rfl
  | false =>
   rw [e] at h
   simp only [cond_false,Option.map_eq_some_iff] at h
   obtain ⟨c',h1,rfl⟩ := h
   show ZO dn M y*Qf dn M l=ZO dn M x*(ZO dn M y*Qf dn M c')
   rw [ZP h1]
   grind
theorem Qi {dn : Nat→Nat} {M : Nat→Rat} : ∀ {r l c : List Atm},QK l r=some c→Qf dn M l=Qf dn M r*Qf dn M c
 | [],l,c,h => by
  have : l=c := by simpa [QK] using h
  rw [this]
  exact (Rat.one_mul _).symm
 | x :: r,l,c,h => by
  unfold QK at h
  rw [Option.bind_eq_some_iff] at h
  obtain ⟨l',h1,h2⟩ := h
  rw [ZP h1,Qi h2]
  exact (Rat.mul_assoc _ _ _).symm
theorem QX {l : Option (List Atm)} (h : Jk l=true) : l=some [] := by
 unfold Jk at h
 split at h
 ·rfl
 ·cases h
theorem QW.one {z : Nat} (h : 0 < z) : QW z 1 := ⟨⟨by
  show (1 : Int).natAbs < 2 ^ z
  exact Nat.one_lt_two_pow (by omega),by
  show 1 < 2 ^ z
  exact Nat.one_lt_two_pow (by omega)⟩,rfl⟩
theorem QW.zero {z : Nat} (h : 0 < z) : QW z 0 := ⟨⟨by
  show (0 : Int).natAbs < 2 ^ z
  exact Nat.two_pow_pos z,by
  show 1 < 2 ^ z
  exact Nat.one_lt_two_pow (by omega)⟩,rfl⟩
theorem QW.nat {z n : Nat} (h : n < 2 ^ z) (hz : 0 < z) : QW z ((n : Nat) : Rat) := by
 have : ((n : Nat) : Rat)=(((n : Nat) : Int) : Rat) := (Rat.intCast_natCast n).symm
 rw [this]
 exact QW.of (by simpa using h) hz
section
variable {E : List (Nat × List Atm)} {dn : Nat→Nat} {M : Nat→Rat} {k : Nat}
def Vd (E : List (Nat × List Atm)) (dn : Nat→Nat) (M : Nat→Rat) (q : Nat→Rat) (k : Nat) : Prop := ∀ a,a < k→∃ p,E[a]? = some p∧QW p.1 (M a)∧0 < p.1∧(∀ x ∈ p.2,x.1=1→x.2 < a)∧q a*Qf dn M p.2=M a
theorem UH {q : Nat→Rat} (hdn : ∀ j,0 < dn j∧dn j < 2 ^ inB) (hM : Vd E dn M q k) {x : Atm} (hx : x.1=1→x.2 < k) : QW (Te E x) (ZO dn M x)∧ZO dn M x ≠ 0 := by
 obtain ⟨i,j⟩ := x
 match i with
 | 0 =>
  show QW inB ((dn j : Nat) : Rat)∧((dn j : Nat) : Rat) ≠ 0
  refine ⟨QW.nat (hdn j).2 (by unfold inB; omega),fun h => ?_⟩
  have := (hdn j).1
  have h2 : dn j=0 := by exact_mod_cast h
  omega
 | 1 =>
  obtain ⟨p,h1,h2,h3,_⟩ := hM j (hx rfl)
  show QW (match E[j]? with
   | some p => p.1
   | none => 1) (if M j=0 then 1 else M j)∧(if M j=0 then 1 else M j) ≠ 0
  rw [h1]
  by_cases h : M j=0
  ·rw [if_pos h]
   exact ⟨QW.one h3,by decide⟩
  ·rw [if_neg h]
   exact ⟨h2,h⟩
 | i+2 =>
  show QW (Nat.log2 j+1) (if j=0 then 1 else ((j : Nat) : Rat))∧(if j=0 then 1 else ((j : Nat) : Rat)) ≠ 0
  by_cases h : j=0
  ·rw [if_pos h]
   exact ⟨QW.one (by omega),by decide⟩
  ·rw [if_neg h]
   refine ⟨QW.nat Nat.lt_log2_self (by omega),fun h2 => h ?_⟩
   exact_mod_cast h2
theorem JE {q : Nat→Rat} (hdn : ∀ j,0 < dn j∧dn j < 2 ^ inB) (hM : Vd E dn M q k) : ∀ {l : List Atm},(∀ x ∈ l,x.1=1→x.2 < k)→QW (ZN E l) (Qf dn M l)∧Qf dn M l ≠ 0
 | [],_ => ⟨QW.one (show 0 < 1 by decide),by show (1 : Rat) ≠ 0; decide⟩
 | x :: l,h => by
  have h1 := UH hdn hM (h x List.mem_cons_self)
  have h2 := JE hdn hM (l := l) fun y hy => h y (List.mem_cons_of_mem _ hy)
  exact ⟨h1.1.mul h2.1,Zp h1.2 h2.2⟩
theorem ZQ {M' : Nat→Rat} : ∀ {l : List Atm},(∀ x ∈ l,x.1=1→M x.2=M' x.2)→Qf dn M l=Qf dn M' l
 | [],_ => rfl
 | x :: l,h => by
  show ZO dn M x*Qf dn M l=ZO dn M' x*Qf dn M' l
  rw [ZQ (l := l) fun y hy => h y (List.mem_cons_of_mem _ hy)]
  have e : ZO dn M x=ZO dn M' x := by
   obtain ⟨i,j⟩ := x
   match i with
   | 0 => rfl
   | 1 =>
    have := h (1,j) List.mem_cons_self rfl
    show (if M j=0 then 1 else M j)=(if M' j=0 then 1 else M' j)
    rw [this]
   | i+2 => rfl
  rw [e]
theorem JX {x y : Atm} : ∀ {l c : List Atm},JQ x l=some c→y ∈ c→y ∈ l
 | [],_,h,_ => by cases h
 | z :: l,c,h,hy => by
  unfold JQ at h
  cases e : (Nat.beq x.1 z.1 && Nat.beq x.2 z.2) with
  | true => rw [e] at h; cases h; exact List.mem_cons_of_mem _ hy
  | false =>
   rw [e] at h
   simp only [cond_false,Option.map_eq_some_iff] at h
   obtain ⟨c',h1,rfl⟩ := h
   rcases List.mem_cons.1 hy with rfl | hy
   ·exact List.mem_cons_self
   ·exact List.mem_cons_of_mem _ (JX h1 hy)
theorem Qz {y : Atm} : ∀ {r l c : List Atm},QK l r=some c→y ∈ c→y ∈ l
 | [],l,c,h,hy => by
  have : l=c := by simpa [QK] using h
  rw [this]; exact hy
 | x :: r,l,c,h,hy => by
  unfold QK at h
  rw [Option.bind_eq_some_iff] at h
  obtain ⟨l',h1,h2⟩ := h
  exact JX h1 (Qz h2 hy)
theorem Vr {n : Nat} (h : n ≠ 0) : ((n : Nat) : Rat) ≠ 0 := fun e => h (by exact_mod_cast e)
theorem ZJ (x : Rat) : x*((x.den : Nat) : Rat)=((x.num : Int) : Rat) := by
 have e : x=((x.num : Int) : Rat) / ((x.den : Nat) : Rat) := by
  have := Rat.mkRat_self x
  rw [Rat.mkRat_eq_div] at this
  exact this.symm
 conv => lhs; lhs; rw [e]
 exact Rat.div_mul_cancel (Vr x.den_nz)
theorem Yb {qs : List Rat} {m M : Nat} (hm : m ∣ M) (h : ∀ q ∈ qs,q.den ∣ M) : qs.foldl (fun m q => m*(q.den / Nat.gcd m q.den)) m ∣ M := by
 induction qs generalizing m with
 | nil => exact hm
 | cons q qs ih =>
  rw [List.foldl_cons]
  refine ih ?_ fun p hp => h p (List.mem_cons_of_mem _ hp)
  have e : m*(q.den / Nat.gcd m q.den)=Nat.lcm m q.den := by
   unfold Nat.lcm
   exact (Nat.mul_div_assoc _ (Nat.gcd_dvd_right _ _)).symm
  rw [e]
  exact Nat.lcm_dvd hm (h q List.mem_cons_self)
theorem JB {x : Rat} {m : Int} (h : (x*((m : Int) : Rat)).den=1) : x.den ∣ m.natAbs := by
 have e := whole h
 generalize (x*((m : Int) : Rat)).num=n at e
 have h1 : x*((x.den : Nat) : Rat)=((x.num : Int) : Rat) := ZJ x
 have h2 : ((x.num : Int) : Rat)*((m : Int) : Rat)=((n : Int) : Rat)*(((x.den : Nat) : Int) : Rat) := by
  rw [← h1,← e,Rat.intCast_natCast]
  grind
 have h3 : x.num*m=n*(x.den : Int) := by exact_mod_cast h2
 have h4 : (x.den : Int) ∣ x.num*m := ⟨n,by rw [h3,Int.mul_comm]⟩
 have h5 : x.den ∣ x.num.natAbs*m.natAbs := by
  have := Int.natAbs_dvd_natAbs.2 h4
  rwa [Int.natAbs_mul,Int.natAbs_natCast] at this
 exact (Nat.Coprime.symm x.reduced).dvd_of_dvd_mul_left h5
theorem Yj {qs : List Rat} {x : Rat} {z : Nat} {m : Int} (hx : x ∈ qs) (hm : m ≠ 0) (hall : ∀ y ∈ qs,(y*((m : Int) : Rat)).den=1) (hz : QW z (x*((m : Int) : Rat))) : QW z (x*fac qs) := by
 have hl : lD qs ∣ m.natAbs := Yb (Nat.one_dvd _) fun y hy => JB (hall y hy)
 have hd := IX hx
 have hpos : 0 < m.natAbs := Int.natAbs_pos.2 hm
 have hle : lD qs≤m.natAbs := Nat.le_of_dvd hpos hl
 have hn : (x*fac qs).num.natAbs≤(x*((m : Int) : Rat)).num.natAbs := by
  rw [IQ hx]
  have e := whole hz.wh
  generalize (x*((m : Int) : Rat)).num=n at e
  have h1 : x*((x.den : Nat) : Rat)=((x.num : Int) : Rat) := ZJ x
  have h2 : ((x.num : Int) : Rat)*((m : Int) : Rat)=((n : Int) : Rat)*(((x.den : Nat) : Int) : Rat) := by
   rw [← h1,← e,Rat.intCast_natCast]
   grind
  have h3 : x.num*m=n*(x.den : Int) := by exact_mod_cast h2
  have h4 : x.num.natAbs*m.natAbs=n.natAbs*x.den := by
   have := congrArg Int.natAbs h3
   rwa [Int.natAbs_mul,Int.natAbs_mul,Int.natAbs_natCast] at this
  obtain ⟨c,hc⟩ := JB (x := x) (m := m) (hall x hx)
  have h5 : n.natAbs=x.num.natAbs*c := by
   rw [hc] at h4
   refine Nat.eq_of_mul_eq_mul_right x.den_pos ?_
   rw [← h4]
   rw [Nat.mul_assoc,Nat.mul_comm c]
  show x.num.natAbs / gN qs*(lD qs / x.den)≤n.natAbs
  rw [h5]
  refine Nat.mul_le_mul (Nat.div_le_self _ _) ?_
  have : lD qs / x.den≤m.natAbs / x.den := Nat.div_le_div_right hle
  rw [hc,Nat.mul_div_cancel_left _ x.den_pos] at this
  exact this
 refine ⟨⟨Nat.lt_of_le_of_lt hn hz.qs.num,?_⟩,hd⟩
 rw [hd]
 have := hz.qs.den
 rw [hz.wh] at this
 exact this
theorem Zw {y : Atm} : ∀ {D U : List Atm},y ∈ JP U D→y ∈ D
 | [],_,h => by cases h
 | x :: D,U,h => by
  unfold JP at h
  split at h
  ·exact List.mem_cons_of_mem _ (Zw h)
  ·rcases List.mem_cons.1 h with rfl | h
   ·exact List.mem_cons_self
   ·exact List.mem_cons_of_mem _ (Zw h)
theorem JU {q : Nat→Rat} (hM : Vd E dn M q k) : ∀ {l : List Nat} {U : List Atm},(∀ c ∈ l,c < k)→(∀ x ∈ U,x.1=1→x.2 < k)→∀ x ∈ JN E l U,x.1=1→x.2 < k
 | [],_,_,hU => hU
 | a :: l,U,hl,hU => by
  unfold JN
  refine JU hM (fun c hc => hl c (List.mem_cons_of_mem _ hc)) ?_
  have ha := hl a List.mem_cons_self
  obtain ⟨p,h1,_,_,h4,_⟩ := hM a ha
  rw [h1]
  intro x hx h
  rcases List.mem_append.1 hx with hx | hx
  ·exact hU x hx h
  ·exact Nat.lt_trans (h4 x (Zw hx) h) ha
theorem UL {q : Nat→Rat} {σ : Nat→ByteArray} (hσ : ∀ j,(σ j).size≤1048576) (hdn : ∀ j,dn j=(Cx.rd (σ j).data.toList).den) (hM : Vd E dn M q k) {z : Nat} {D : List Atm} {nd : Nd} (hwf : wfN k nd=true) (hs : saN E k z D nd=true) : QW z (Zg σ q nd*Qf dn M D)∧0 < z∧∀ x ∈ D,x.1=1→x.2 < k := by
 have hdn' : ∀ j,0 < dn j∧dn j < 2 ^ inB := fun j => by
  rw [hdn j]
  refine ⟨Rat.den_pos _,Nat.lt_of_lt_of_le (QS.rd3 _).den (Nat.pow_le_pow_right (by decide) ?_)⟩
  have := hσ j
  rw [Qr]
  unfold inB
  omega
 obtain ⟨op,xs⟩ := nd
 unfold saN at hs
 rw [Bool.and_eq_true,Bool.and_eq_true] at hs
 obtain ⟨⟨hz0,hD⟩,hs⟩ := hs
 have hz : 0 < z := by simpa [Nat.blt_eq] using hz0
 have hD' : ∀ x ∈ D,x.1=1→x.2 < k := fun x hx h1 => by
  rw [List.all_eq_true] at hD
  have := hD x hx
  rw [h1] at this
  simpa [Nat.blt_eq] using this
 refine ⟨?_,hz,hD'⟩
 have hlow : ∀ {a : Nat} {p : Nat × List Atm},a < k→E[a]? = some p→QW p.1 (M a)∧(∀ x ∈ p.2,x.1=1→x.2 < k)∧q a*Qf dn M p.2=M a := fun {a p} ha hp => by
  obtain ⟨p',h1,h2,_,h4,h5⟩ := hM a ha
  rw [hp] at h1
  cases h1
  exact ⟨h2,fun x hx h => Nat.lt_trans (h4 x hx h) ha,h5⟩
 have hpr : ∀ {l : List Atm},(∀ x ∈ l,x.1=1→x.2 < k)→QW (ZN E l) (Qf dn M l)∧Qf dn M l ≠ 0 := fun h => JE hdn' hM h
 unfold wfN at hwf
 unfold Zg
 dsimp only at hs hwf ⊢
 split at hs
 ·rename_i s n d
  simp only [Bool.and_eq_true] at hs
  obtain ⟨⟨h1,h2⟩,h3⟩ := hs
  have h1' : n < 2 ^ z := by simpa [Nat.blt_eq] using h1
  have h2' : d ≠ 0 := by
   have : 0 < d := by simpa [Nat.blt_eq] using h2
   omega
  have hp : Qf dn M D=((d : Nat) : Rat) := by
   have := Qi (dn := dn) (M := M) (QX h3)
   rw [this]
   cases e : Nat.beq d 1 with
   | true =>
    rw [Nat.beq_eq] at e
    rw [e]
    show (1 : Rat)*1=((1 : Nat) : Rat)
    rw [Rat.mul_one]
    exact_mod_cast rfl
   | false =>
    show (if d=0 then (1 : Rat) else ((d : Nat) : Rat))*1*1=_
    rw [if_neg h2',Rat.mul_one,Rat.mul_one]
  show QW z ((if s=0 then mkRat (n : Int) d else mkRat (-(n : Int)) d)*Qf dn M D)
  rw [hp]
  have key : ∀ m : Int,m.natAbs < 2 ^ z→QW z (mkRat m d*((d : Nat) : Rat)) := fun m hm => by
   rw [Rat.mkRat_eq_div,Rat.div_mul_cancel (Vr h2')]
   exact QW.of hm hz
  by_cases hs0 : s=0
  ·rw [if_pos hs0]
   exact key _ (by simpa using h1')
  ·rw [if_neg hs0]
   exact key _ (by simpa using h1')
 ·rename_i j
  simp only [Bool.and_eq_true,Nat.ble_eq] at hs
  have hp : Qf dn M D=(((Cx.rd (σ j).data.toList).den : Nat) : Rat) := by
   rw [Qi (dn := dn) (M := M) (QX hs.2)]
   show ((dn j : Nat) : Rat)*1*1=_
   rw [Rat.mul_one,Rat.mul_one,hdn j]
  show QW z (Cx.rd (σ j).data.toList*Qf dn M D)
  rw [hp,ZJ]
  refine QW.of (Nat.lt_of_lt_of_le (QS.rd3 _).num (Nat.pow_le_pow_right (by decide) ?_)) hz
  have := hσ j
  have := hs.1
  unfold inB at this
  rw [Qr]
  omega
 ·simp only [List.all_cons,List.all_nil,Bool.and_true,Bool.and_eq_true] at hwf
  rename_i a b
  have l1 : a < k := by simpa [Nat.blt_eq] using hwf.1
  have l2 : b < k := by simpa [Nat.blt_eq] using hwf.2
  split at hs
  ·rename_i p r hp hr
   split at hs
   ·rename_i c e hc he
    rw [Nat.ble_eq] at hs
    obtain ⟨a1,a2,a3⟩ := hlow l1 hp
    obtain ⟨b1,b2,b3⟩ := hlow l2 hr
    have hc' := hpr (l := c) fun x hx => hD' x (Qz hc hx)
    have he' := hpr (l := e) fun x hx => hD' x (Qz he hx)
    have e1 : (q a+q b)*Qf dn M D=M a*Qf dn M c+M b*Qf dn M e := by
     rw [Rat.add_mul]
     congr 1
     ·rw [Qi hc,← Rat.mul_assoc,a3]
     ·rw [Qi he,← Rat.mul_assoc,b3]
    show QW z ((q a+q b)*Qf dn M D)
    rw [e1]
    exact ((a1.mul hc'.1).add (b1.mul he'.1)).mono hs
   ·cases hs
  ·cases hs
 ·simp only [List.all_cons,List.all_nil,Bool.and_true,Bool.and_eq_true] at hwf
  rename_i a b
  have l1 : a < k := by simpa [Nat.blt_eq] using hwf.1
  have l2 : b < k := by simpa [Nat.blt_eq] using hwf.2
  split at hs
  ·rename_i p r hp hr
   split at hs
   ·rename_i c e hc he
    rw [Nat.ble_eq] at hs
    obtain ⟨a1,a2,a3⟩ := hlow l1 hp
    obtain ⟨b1,b2,b3⟩ := hlow l2 hr
    have hc' := hpr (l := c) fun x hx => hD' x (Qz hc hx)
    have he' := hpr (l := e) fun x hx => hD' x (Qz he hx)
    have e1 : (q a - q b)*Qf dn M D=M a*Qf dn M c - M b*Qf dn M e := by
     rw [show (q a - q b)*Qf dn M D=q a*Qf dn M D - q b*Qf dn M D by grind]
     congr 1
     ·rw [Qi hc,← Rat.mul_assoc,a3]
     ·rw [Qi he,← Rat.mul_assoc,b3]
    show QW z ((q a - q b)*Qf dn M D)
    rw [e1]
    exact ((a1.mul hc'.1).sub (b1.mul he'.1)).mono hs
   ·cases hs
  ·cases hs
 ·simp only [List.all_cons,List.all_nil,Bool.and_true,Bool.and_eq_true] at hwf
  rename_i a b
  have l1 : a < k := by simpa [Nat.blt_eq] using hwf.1
  have l2 : b < k := by simpa [Nat.blt_eq] using hwf.2
  split at hs
  ·rename_i p r hp hr
   split at hs
   ·rename_i c hc
    rw [Bool.and_eq_true,Nat.ble_eq] at hs
    obtain ⟨a1,a2,a3⟩ := hlow l1 hp
    obtain ⟨b1,b2,b3⟩ := hlow l2 hr
    have e1 : q a*q b*Qf dn M D=M a*M b := by
     rw [Qi hc,Qi (QX hs.1),← a3,← b3]
     show q a*q b*(Qf dn M p.2*(Qf dn M r.2*1))=_
     grind
    show QW z (q a*q b*Qf dn M D)
    rw [e1]
    exact (a1.mul b1).mono hs.2
   ·cases hs
  ·cases hs
 ·simp only [List.all_cons,List.all_nil,Bool.and_true] at hwf
  rename_i a
  have l1 : a < k := by simpa [Nat.blt_eq] using hwf
  split at hs
  ·rename_i p hp
   rw [Bool.and_eq_true,Nat.ble_eq] at hs
   obtain ⟨a1,a2,a3⟩ := hlow l1 hp
   have e1 : -q a*Qf dn M D=-M a := by
    rw [Qi (QX hs.1),← a3]
    show -q a*(Qf dn M p.2*1)=_
    grind
   show QW z (-q a*Qf dn M D)
   rw [e1]
   exact a1.neg.mono hs.2
  ·cases hs
 ·simp only [List.all_cons,List.all_nil,Bool.and_true,Bool.and_eq_true] at hwf
  rename_i a b
  have l1 : a < k := by simpa [Nat.blt_eq] using hwf.1
  have l2 : b < k := by simpa [Nat.blt_eq] using hwf.2
  split at hs
  ·rename_i p r D' hp hr hD1
   split at hs
   ·rename_i c hc
    split at hs
    ·rename_i e he
     rw [Nat.ble_eq] at hs
     obtain ⟨a1,a2,a3⟩ := hlow l1 hp
     obtain ⟨b1,b2,b3⟩ := hlow l2 hr
     have he' := hpr (l := e) fun x hx => b2 x (Qz he hx)
     by_cases h0 : M b=0
     ·have hb : q b=0 := by
       rw [h0] at b3
       exact (Rat.mul_eq_zero.1 b3).resolve_right (hpr b2).2
      show QW z (q a / q b*Qf dn M D)
      rw [hb,Rat.div_def,Rat.inv_zero,Rat.mul_zero,Rat.zero_mul]
      exact QW.zero hz
     ·have hb : q b ≠ 0 := fun h => h0 (by rw [← b3,h,Rat.zero_mul])
      have e1 : q a / q b*Qf dn M D=M a*Qf dn M e := by
       have e2 : Qf dn M D=M b*Qf dn M D' := by
        rw [ZP hD1]
        show (if M b=0 then (1 : Rat) else M b)*_=_
        rw [if_neg h0]
       have e3 : q a / q b*q b=q a := Rat.div_mul_cancel hb
       rw [e2,← a3,← b3,Qi hc,Qi he]
       generalize q a / q b=t at e3
       rw [← e3]
       grind
      show QW z (q a / q b*Qf dn M D)
      rw [e1]
      exact (a1.mul he'.1).mono hs
    ·cases hs
   ·cases hs
  ·cases hs
 ·have hD0 : D=[] := by
   rw [Nat.beq_eq] at hs
   exact List.length_eq_zero_iff.1 hs
  rw [hD0]
  have hv : Zg σ q (7,xs)=0 ∨ Zg σ q (7,xs)=1 := by
   unfold Zg
   dsimp only
   split
   all_goals first | (split; exact Or.inl rfl; exact Or.inr rfl) | exact Or.inl rfl | (rename_i h; cases h)
  show QW z (Zg σ q (7,xs)*1)
  rw [Rat.mul_one]
  rcases hv with h | h
  ·rw [h]
   exact QW.zero hz
  ·rw [h]
   exact QW.one hz
 ·rename_i i ys
  rw [Bool.and_eq_true,Bool.and_eq_true,List.all_eq_true] at hs
  obtain ⟨h1,h2,h3⟩ := hs
  have hD0 : D=[] := by
   rw [Nat.beq_eq] at h1
   exact List.length_eq_zero_iff.1 h1
  have hwf' : ys.all (Nat.blt · k)=true := hwf
  rw [List.all_eq_true] at hwf'
  have hlt : ∀ c ∈ ys,c < k := fun c hc => by simpa [Nat.blt_eq] using hwf' c hc
  split at h3
  ·rename_i a ha
   split at h3
   ·rename_i p hp
    split at h3
    ·rename_i e he
     rw [Nat.ble_eq] at h3
     obtain ⟨hi,ha'⟩ := List.getElem?_eq_some_iff.1 ha
     have hmem : a ∈ ys := List.mem_of_getElem? ha
     have hg : (ys.map q).getD i 0=q a := by
      rw [List.getD_eq_getElem?_getD,List.getElem?_map,ha]
      rfl
     show QW z ((ys.map q).getD i 0*fac (ys.map q)*Qf dn M D)
     rw [hg,hD0]
     show QW z (q a*fac (ys.map q)*1)
     rw [Rat.mul_one]
     -- what makes all of them whole
     have hU : ∀ x ∈ JN E ys [],x.1=1→x.2 < k := JU hM hlt (fun x hx => by cases hx)
     have hUp := hpr hU
     have hw := whole hUp.1.wh
     generalize hm : (Qf dn M (JN E ys [])).num=m at hw
     have hm0 : m ≠ 0 := fun h => hUp.2 (by rw [hw,h]; rfl)
     have hall : ∀ y ∈ ys.map q,(y*((m : Int) : Rat)).den=1 := fun y hy => by
      obtain ⟨c,hc,rfl⟩ := List.mem_map.1 hy
      have h4 := h2 c hc
      split at h4
      ·rename_i r hr
       obtain ⟨c1,c2,c3⟩ := hlow (hlt c hc) hr
       cases hs2 : QK (JN E ys []) r.2 with
       | none => rw [hs2] at h4; cases h4
       | some f =>
        have hf := hpr (l := f) fun x hx => hU x (Qz hs2 hx)
        rw [← hw,Qi hs2,← Rat.mul_assoc,c3]
        exact (c1.mul hf.1).wh
      ·cases h4
     obtain ⟨a1,a2,a3⟩ := hlow (hlt a hmem) hp
     have he' := hpr (l := e) fun x hx => hU x (Qz he hx)
     refine Yj (List.mem_map_of_mem hmem) hm0 hall ?_
     rw [← hw,Qi he,← Rat.mul_assoc,a3]
     exact (a1.mul he'.1).mono h3
    ·cases h3
   ·cases h3
  ·cases h3
 ·cases hs
end
theorem UJ {x m p : Rat} {z y K : Nat} (hm : QW z m) (hp : QW y p) (h0 : p ≠ 0) (e : x*p=m) (hz : z≤K) (hy : y≤K) : QS K x := by
 have hw := whole hp.wh
 generalize p.num=P at hw
 have hP : P ≠ 0 := fun h => h0 (by rw [hw,h]; rfl)
 have hpos : 0 < P.natAbs := Int.natAbs_pos.2 hP
 have hd : x.den ∣ P.natAbs := JB (x := x) (m := P) (by rw [← hw,e]; exact hm.wh)
 have hdle : x.den≤P.natAbs := Nat.le_of_dvd hpos hd
 have hPlt : P.natAbs < 2 ^ y := by
  have := hp.qs.num
  rw [hw,Rat.num_intCast] at this
  exact this
 have hmw := whole hm.wh
 have hmlt := hm.qs.num
 generalize m.num=n at hmw hmlt
 have h1 : x*((x.den : Nat) : Rat)=((x.num : Int) : Rat) := ZJ x
 have h2 : ((x.num : Int) : Rat)*((P : Int) : Rat)=((n : Int) : Rat)*(((x.den : Nat) : Int) : Rat) := by
  rw [← h1,← hw,← hmw,← e,Rat.intCast_natCast]
  grind
 have h3 : x.num*P=n*(x.den : Int) := by exact_mod_cast h2
 have h4 : x.num.natAbs*P.natAbs=n.natAbs*x.den := by
  have := congrArg Int.natAbs h3
  rwa [Int.natAbs_mul,Int.natAbs_mul,Int.natAbs_natCast] at this
 have h5 : x.num.natAbs≤n.natAbs := by
  refine Nat.le_of_mul_le_mul_right (c := P.natAbs) ?_ hpos
  rw [h4]
  exact Nat.mul_le_mul_left _ hdle
 exact ⟨Nat.lt_of_lt_of_le (Nat.lt_of_le_of_lt h5 hmlt) (Nat.pow_le_pow_right (by decide) hz),Nat.lt_of_lt_of_le (Nat.lt_of_le_of_lt hdle hPlt) (Nat.pow_le_pow_right (by decide) hy)⟩
section
variable {N : List Nd} {Z : List Nat} {E : List (Nat × List Atm)} {q : Nat→Rat}
theorem Jl {σ : Nat→ByteArray} (hσ : ∀ j,(σ j).size≤1048576) (hw : wfB 0 N=true) (hz : saB E 0 N E Z=true) (hq : ∀ (a : Nat) nd,N[a]? = some nd→q a=Zg σ q nd) (h0 : ∀ a,N.length≤a→q a=0) : (∀ (a : Nat) z,Z[a]? = some z→QS z (q a))∧∀ a,QS 1000000000000 (q a) := by
 have hl := XN hz
 have key : ∀ k,k≤N.length→∃ M,Vd E (fun j => (Cx.rd (σ j).data.toList).den) M q k := by
  intro k
  induction k with
  | zero => exact fun _ => ⟨fun _ => 0,fun a ha => by omega⟩
  | succ k ih =>
   intro hk
   obtain ⟨M,hM⟩ := ih (by omega)
   have hn : N[k]? = some N[k] := List.getElem?_eq_getElem (by omega)
   obtain ⟨p,z,h1,_,h3,_⟩ := JA hz hn
   rw [Nat.zero_add] at h3
   have hwf := Wi hw hn
   rw [Nat.zero_add] at hwf
   obtain ⟨g1,g2,g3⟩ := UL hσ (fun _ => rfl) hM hwf h3
   rw [← hq k _ hn] at g1
   refine ⟨fun x => if x=k then q k*Qf (fun j => (Cx.rd (σ j).data.toList).den) M p.2 else M x,fun a ha => ?_⟩
   have same : ∀ {l : List Atm},(∀ x ∈ l,x.1=1→x.2 < k)→Qf (fun j => (Cx.rd (σ j).data.toList).den) (fun x => if x=k then q k*Qf (fun j => (Cx.rd (σ j).data.toList).den) M p.2 else M x) l=Qf (fun j => (Cx.rd (σ j).data.toList).den) M l := fun hl => (ZQ fun x hx h => by
    have := hl x hx h
    rw [if_neg (by omega)]).symm
   by_cases e : a=k
   ·subst e
    refine ⟨p,h1,?_,g2,g3,?_⟩
    ·show QW p.1 (if a=a then _ else _)
     rw [if_pos rfl]
     exact g1
    ·rw [same g3]
     show _=(if a=a then _ else _)
     rw [if_pos rfl]
   ·obtain ⟨p',f1,f2,f3,f4,f5⟩ := hM a (by omega)
    refine ⟨p',f1,?_,f3,f4,?_⟩
    ·show QW p'.1 (if a=k then _ else M a)
     rw [if_neg e]
     exact f2
    ·rw [same fun x hx h => by have := f4 x hx h; omega]
     show _=(if a=k then _ else M a)
     rw [if_neg e]
     exact f5
 obtain ⟨M,hM⟩ := key N.length (Nat.le_refl _)
 have hdn : ∀ j,0 < (Cx.rd (σ j).data.toList).den∧(Cx.rd (σ j).data.toList).den < 2 ^ inB := fun j => by
  refine ⟨Rat.den_pos _,Nat.lt_of_lt_of_le (QS.rd3 _).den (Nat.pow_le_pow_right (by decide) ?_)⟩
  have := hσ j
  rw [Qr]
  unfold inB
  omega
 have h2 : ∀ (a : Nat) z,Z[a]? = some z→QS z (q a)∧z≤1000000000000 := by
  intro a z ha
  have hlt : a < N.length := by
   have := (List.getElem?_eq_some_iff.1 ha).1
   omega
  have hn : N[a]? = some N[a] := List.getElem?_eq_getElem hlt
  obtain ⟨p,z',h1,h2,_,h4,h5,h6⟩ := JA hz hn
  rw [ha] at h2
  cases h2
  obtain ⟨p',f1,f2,f3,f4,f5⟩ := hM a hlt
  rw [h1] at f1
  cases f1
  have hp := JE hdn hM (l := p.2) fun x hx h => Nat.lt_trans (f4 x hx h) hlt
  exact ⟨UJ f2 hp.1 hp.2 f5 h4 h5,h6⟩
 refine ⟨fun a z h => (h2 a z h).1,fun a => ?_⟩
 by_cases ha : a < Z.length
 ·have := h2 a _ (List.getElem?_eq_getElem ha)
  exact this.1.mono this.2
 ·rw [h0 a (by omega)]
  exact QS.zero.mono (by decide)
theorem YD {L C : List (List Nat × Nat)} {σ : Nat→ByteArray} {H : List (Nat × Nat × Nat × Nat)} (hσ : ∀ j,(σ j).size≤1048576) (hw : wfB 0 N=true) (hz : saB E 0 N E Z=true) (hl : TX N L=true) (hcn : Tb N C=true) (hq : ∀ (a : Nat) nd,N[a]? = some nd→q a=Zg σ q nd) (h0 : ∀ a,N.length≤a→q a=0) (hH : Ww q H) : Hy N H L C Z q σ where
 nat := hq
 qs := (Jl hσ hw hz hq h0).2
 zs := (Jl hσ hw hz hq h0).1
 par := hσ
 lit := fun s b h => KC hl hq h
 k0 := fun a r h => ZA hH h
 k1 := fun a r h => ZA hH h
 k2 := fun a r h => ZA hH h
 k3 := fun a b r h => ZA hH h
 k4 := fun l a b r h1 h2 => by
  have h3 : Nat.beq 1 r=true ↔ q a=q b := ZA hH h2
  rw [h3,← Kx hcn hq h1]
  exact ⟨fun e => by rw [e],fun e => VZ (XW e)⟩
 k6 := fun a b r h => ZA hH h
 k5 := fun a r h => ZA hH h
end
end Go.Proofs.YthagmklephpnhaaGreatDoor
/- PLY -/
namespace Go.Proofs.YthagmklephpnhaaGreatDoor
open Go.RowKit Cx
abbrev Pol := List (Int × List Nat)
def eqM : List Nat→List Nat→Bool
 | [],[] => true
 | a :: m,b :: k => cond (Nat.beq a b) (eqM m k) false
 | _,_ => false
theorem PA : ∀ {m k : List Nat},eqM m k=true→m=k
 | [],[],_ => rfl
 | a :: m,b :: k,h => by
  unfold eqM at h
  cases e : Nat.beq a b
  ·rw [e] at h; cases h
  ·rw [e] at h; rw [Nat.eq_of_beq_eq_true e,PA (m := m) (k := k) h]
 | [],_ :: _,h => by cases h
 | _ :: _,[],h => by cases h
def KB (a : Nat) : List Nat→List Nat
 | [] => [a]
 | b :: m => cond (Nat.ble a b) (a :: b :: m) (b :: KB a m)
def Ot (m k : List Nat) : List Nat := m.foldr KB k
def isZ : Int→Bool
 | .ofNat n => Nat.beq n 0
 | .negSucc _ => false
theorem EW {c : Int} (h : isZ c=true) : c=0 := by
 cases c with
 | ofNat n => rw [Nat.eq_of_beq_eq_true (n := n) (m := 0) h]; rfl
 | negSucc n => cases h
def Kt (c : Int) (m : List Nat) : Pol→Pol
 | [] => [(c,m)]
 | (d,k) :: p => cond (eqM m k) (cond (isZ (c+d)) p ((c+d,k) :: p)) ((d,k) :: Kt c m p)
def YF (p r : Pol) : Pol := p.foldr (fun t s => Kt t.1 t.2 s) r
def Uf (p : Pol) : Pol := p.map fun t => (-t.1,t.2)
def SE (c : Int) (m : List Nat) (p : Pol) : Pol := p.map fun t => (c*t.1,Ot m t.2)
def Wx (p r : Pol) : Pol := p.foldr (fun t s => YF (SE t.1 t.2 r) s) []
def Ph : Pol→Bool
 | [] => true
 | _ => false
section
variable (q : Nat→Rat)
def evM : List Nat→Rat
 | [] => 1
 | a :: m => q a*evM m
def evP : Pol→Rat
 | [] => 0
 | t :: p => (t.1 : Rat)*evM q t.2+evP p
variable {q}
theorem TT (a : Nat) : ∀ m,evM q (KB a m)=q a*evM q m
 | [] => rfl
 | b :: m => by
  unfold KB
  cases Nat.ble a b
  ·show q b*evM q (KB a m)=q a*(q b*evM q m)
   rw [TT a m]; grind
  ·rfl
theorem OM : ∀ m k,evM q (Ot m k)=evM q m*evM q k
 | [],k => (Rat.one_mul _).symm
 | a :: m,k => by
  show evM q (KB a (Ot m k))=q a*evM q m*evM q k
  rw [TT,OM m k,Rat.mul_assoc]
theorem Tm (c : Int) (m : List Nat) : ∀ p,evP q (Kt c m p)=(c : Rat)*evM q m+evP q p
 | [] => rfl
 | (d,k) :: p => by
  unfold Kt
  cases e : eqM m k
  ·show (d : Rat)*evM q k+evP q (Kt c m p)=(c : Rat)*evM q m+((d : Rat)*evM q k+evP q p)
   rw [Tm c m p]; grind
  ·have e := PA e
   subst e
   cases f : isZ (c+d)
   ·show ((c+d : Int) : Rat)*evM q m+evP q p=(c : Rat)*evM q m+((d : Rat)*evM q m+evP q p)
    rw [Rat.intCast_add]; grind
   ·show evP q p=(c : Rat)*evM q m+((d : Rat)*evM q m+evP q p)
    have g : (c : Rat)+(d : Rat)=0 := by rw [← Rat.intCast_add,EW f]; rfl
    have : (c : Rat)*evM q m+((d : Rat)*evM q m+evP q p)=((c : Rat)+(d : Rat))*evM q m+evP q p := by grind
    rw [this,g,Rat.zero_mul,Rat.zero_add]
theorem JC : ∀ p r,evP q (YF p r)=evP q p+evP q r
 | [],r => (Rat.zero_add _).symm
 | t :: p,r => by
  show evP q (Kt t.1 t.2 (YF p r))=(t.1 : Rat)*evM q t.2+evP q p+evP q r
  rw [Tm,JC p r,Rat.add_assoc]
theorem JT : ∀ p,evP q (Uf p)=-evP q p
 | [] => rfl
 | t :: p => by
  show ((-t.1 : Int) : Rat)*evM q t.2+evP q (Uf p)=-((t.1 : Rat)*evM q t.2+evP q p)
  rw [JT p,Rat.intCast_neg]; grind
theorem Tn (c : Int) (m : List Nat) : ∀ p,evP q (SE c m p)=(c : Rat)*evM q m*evP q p
 | [] => (Rat.mul_zero _).symm
 | t :: p => by
  show ((c*t.1 : Int) : Rat)*evM q (Ot m t.2)+evP q (SE c m p)=(c : Rat)*evM q m*((t.1 : Rat)*evM q t.2+evP q p)
  rw [Tn c m p,OM,Rat.intCast_mul]; grind
theorem Ye : ∀ p r,evP q (Wx p r)=evP q p*evP q r
 | [],r => (Rat.zero_mul _).symm
 | t :: p,r => by
  show evP q (YF (SE t.1 t.2 r) (Wx p r))=((t.1 : Rat)*evM q t.2+evP q p)*evP q r
  rw [JC,Tn,Ye p r,Rat.add_mul]
end
def nfN (N : List Nd) (stop : List Nat) : Nat→Nat→Pol
 | 0,a => [(1,[a])]
 | f+1,a => cond (stop.any (Nat.beq a)) [(1,[a])] (match N[a]? with
  | some (0,[0,n,1]) => cond (Nat.beq n 0) [] [((n : Int),[])]
  | some (0,[1,n,1]) => [(-(n : Int),[])]
  | some (2,[x,y]) => YF (nfN N stop f x) (nfN N stop f y)
  | some (3,[x,y]) => YF (nfN N stop f x) (Uf (nfN N stop f y))
  | some (4,[x,y]) => Wx (nfN N stop f x) (nfN N stop f y)
  | some (5,[x]) => Uf (nfN N stop f x)
  | _ => [(1,[a])])
inductive Ex where
 | z | o | t | f
 | v (a : Nat)
 | A (x y : Ex) | S (x y : Ex) | M (x y : Ex) | N (x : Ex)
def Ex.ev (q : Nat→Rat) : Ex→Rat
 | z => 0 | o => 1 | t => 2 | f => 4
 | v a => q a
 | A x y => x.ev q+y.ev q | S x y => x.ev q - y.ev q | M x y => x.ev q*y.ev q | N x => -x.ev q
def Ex.nf : Ex→Pol
 | z => [] | o => [(1,[])] | t => [(2,[])] | f => [(4,[])]
 | v a => [(1,[a])]
 | A x y => YF x.nf y.nf | S x y => YF x.nf (Uf y.nf) | M x y => Wx x.nf y.nf | N x => Uf x.nf
variable {q : Nat→Rat} {σ : Nat→ByteArray}
theorem atP (a : Nat) : evP q [(1,[a])]=q a := by
 show ((1 : Int) : Rat)*(q a*1)+0=q a
 rw [Rat.mul_one,Rat.add_zero]; exact Rat.one_mul _
theorem GT (c : Int) : evP q [(c,[])]=(c : Rat) := by
 show (c : Rat)*1+0=_
 rw [Rat.mul_one,Rat.add_zero]
theorem Ex.nf_ok : ∀ e : Ex,evP q e.nf=e.ev q
 | z => rfl
 | o => GT 1 | t => GT 2 | f => GT 4
 | v a => atP a
 | A x y => (JC _ _).trans (by rw [nf_ok x,nf_ok y]; rfl)
 | S x y => (JC _ _).trans (by rw [JT,nf_ok x,nf_ok y]; exact (Rat.sub_eq_add_neg _ _).symm)
 | M x y => (Ye _ _).trans (by rw [nf_ok x,nf_ok y]; rfl)
 | N x => (JT _).trans (by rw [nf_ok x]; rfl)
theorem Jr {N : List Nd} (H : ∀ (a : Nat) nd,N[a]? = some nd→q a=Zg σ q nd) (stop : List Nat) : ∀ f a,evP q (nfN N stop f a)=q a
 | 0,a => atP a
 | f+1,a => by
  unfold nfN
  cases stop.any (Nat.beq a)
  ·show evP q (match N[a]? with | some (0,[0,n,1]) => _ | some (0,[1,n,1]) => _ | some (2,[x,y]) => _ | some (3,[x,y]) => _ | some (4,[x,y]) => _ | some (5,[x]) => _ | _ => _)=q a
   split
   ·rename_i n e
    rw [H a _ e]
    show _=mkRat (n : Int) 1
    cases g : Nat.beq n 0
    ·exact (GT (n : Int)).trans (Rat.mkRat_one _).symm
    ·rw [Nat.eq_of_beq_eq_true g]; rfl
   ·rename_i n e
    rw [H a _ e]
    exact (GT (-(n : Int))).trans (Rat.mkRat_one _).symm
   ·rename_i x y e
    rw [H a _ e,JC,Jr H stop f x,Jr H stop f y]; rfl
   ·rename_i x y e
    rw [H a _ e,JC,JT,Jr H stop f x,Jr H stop f y]; exact (Rat.sub_eq_add_neg _ _).symm
   ·rename_i x y e
    rw [H a _ e,Ye,Jr H stop f x,Jr H stop f y]; rfl
   ·rename_i x e
    rw [H a _ e,JT,Jr H stop f x]; rfl
   ·exact atP a
  ·exact atP a
theorem TW {p r : Pol} (h : Ph (YF p (Uf r))=true) : evP q p=evP q r := by
 have e : evP q (YF p (Uf r))=0 := by
  cases k : YF p (Uf r) with
  | nil => rfl
  | cons t s => rw [k] at h; cases h
 rw [JC,JT] at e
 grind
theorem pol {N : List Nd} (H : ∀ (a : Nat) nd,N[a]? = some nd→q a=Zg σ q nd) (stop : List Nat) (f a : Nat) (e : Ex) (h : Ph (YF (nfN N stop f a) (Uf e.nf))=true) : q a=e.ev q :=
 (Jr H stop f a).symm.trans ((TW h).trans e.nf_ok)
def UQ (N : List Nd) (b : Nat) : Nat→Nat→Bool
 | 0,_ => false
 | f+1,a => match N[a]? with
  | some (6,[_,y]) => Nat.beq y b
  | some (2,[x,y]) => cond (UQ N b f x) true (UQ N b f y)
  | some (3,[x,y]) => cond (UQ N b f x) true (UQ N b f y)
  | some (4,[x,y]) => cond (UQ N b f x) true (UQ N b f y)
  | some (5,[x]) => UQ N b f x
  | _ => false
def dvN (N : List Nd) (stop : List Nat) (b : Nat) : Nat→Nat→Pol
 | 0,a => [(1,Ot [a] [b])]
 | f+1,a => cond (UQ N b (f+1) a) (match N[a]? with
  | some (6,[x,y]) => cond (Nat.beq y b) (nfN N stop f x) [(1,Ot [a] [b])]
  | some (2,[x,y]) => YF (dvN N stop b f x) (dvN N stop b f y)
  | some (3,[x,y]) => YF (dvN N stop b f x) (Uf (dvN N stop b f y))
  | some (4,[x,y]) => cond (UQ N b f x) (Wx (dvN N stop b f x) (nfN N stop f y)) (Wx (nfN N stop f x) (dvN N stop b f y))
  | some (5,[x]) => Uf (dvN N stop b f x)
  | _ => [(1,Ot [a] [b])]) (Wx (nfN N stop (f+1) a) [(1,[b])])
theorem abP (a b : Nat) : evP q [(1,Ot [a] [b])]=q a*q b := by
 show ((1 : Int) : Rat)*evM q (Ot [a] [b])+0=_
 rw [OM,Rat.add_zero]
 show (1 : Rat)*(q a*1*(q b*1))=_
 rw [Rat.one_mul,Rat.mul_one,Rat.mul_one]
theorem XU {N : List Nd} (H : ∀ (a : Nat) nd,N[a]? = some nd→q a=Zg σ q nd) (stop : List Nat) (b : Nat) (hb : ¬ (q b=0)) : ∀ f a,evP q (dvN N stop b f a)=q a*q b
 | 0,a => abP a b
 | f+1,a => by
  unfold dvN
  cases UQ N b (f+1) a
  ·show evP q (Wx (nfN N stop (f+1) a) [(1,[b])])=_
   rw [Ye,Jr H,atP]
  ·show evP q (match N[a]? with | some (6,[x,y]) => _ | some (2,[x,y]) => _ | some (3,[x,y]) => _ | some (4,[x,y]) => _ | some (5,[x]) => _ | _ => _)=_
   split
   ·rename_i x y e
    cases g : Nat.beq y b
    ·exact abP a b
    ·show evP q (nfN N stop f x)=_
     rw [Jr H,H a _ e,Nat.eq_of_beq_eq_true g]
     exact (Rat.div_mul_cancel hb).symm
   ·rename_i x y e
    rw [H a _ e,JC,XU H stop b hb f x,XU H stop b hb f y]; exact (Rat.add_mul _ _ _).symm
   ·rename_i x y e
    rw [H a _ e,JC,JT,XU H stop b hb f x,XU H stop b hb f y]
    show q x*q b+-(q y*q b)=(q x - q y)*q b
    grind
   ·rename_i x y e
    rw [H a _ e]
    show _=q x*q y*q b
    cases UQ N b f x
    ·show evP q (Wx (nfN N stop f x) (dvN N stop b f y))=_
     rw [Ye,Jr H,XU H stop b hb f y,Rat.mul_assoc]
    ·show evP q (Wx (dvN N stop b f x) (nfN N stop f y))=_
     rw [Ye,Jr H,XU H stop b hb f x]; grind
   ·rename_i x e
    rw [H a _ e,JT,XU H stop b hb f x]
    show -(q x*q b)=-q x*q b
    grind
   ·exact abP a b
theorem JH {N : List Nd} (H : ∀ (a : Nat) nd,N[a]? = some nd→q a=Zg σ q nd) (stop : List Nat) (f a b : Nat) (e : Ex) (hb : ¬ (q b=0)) (h : Ph (YF (dvN N stop b f a) (Uf e.nf))=true) : q a*q b=e.ev q :=
 (XU H stop b hb f a).symm.trans ((TW h).trans e.nf_ok)
end Go.Proofs.YthagmklephpnhaaGreatDoor
/- VPD -/
namespace Cx
open Go Go.RowKit
def TY : List A1→List A1→Bool
 | [],[] => true
 | (a,x) :: l,(b,y) :: m => (a == b && Rf x y) && TY l m
 | _,_ => false
theorem Wn : ∀ {l m : List A1},TY l m=true→l=m
 | [],[],_ => rfl
 | (a,x) :: l,(b,y) :: m,h => by
  unfold TY at h
  simp only [Bool.and_eq_true,beq_iff_eq] at h
  obtain ⟨⟨h1,h2⟩,h3⟩ := h
  rw [h1,Yx h2,Wn h3]
 | [],_ :: _,h => by cases h
 | _ :: _,[],h => by cases h
def WQ : List AV→List AV→Bool
 | [],[] => true
 | (a,x) :: l,(b,y) :: m => (a == b && TY x y) && WQ l m
 | _,_ => false
theorem YS : ∀ {l m : List AV},WQ l m=true→l=m
 | [],[],_ => rfl
 | (a,x) :: l,(b,y) :: m,h => by
  unfold WQ at h
  simp only [Bool.and_eq_true,beq_iff_eq] at h
  obtain ⟨⟨h1,h2⟩,h3⟩ := h
  rw [h1,Wn h2,YS h3]
 | [],_ :: _,h => by cases h
 | _ :: _,[],h => by cases h
abbrev Xu := List (FuncId × List AV × AV)
def XM (f : FuncId) (args : List AV) : Xu→Option AV
 | [] => none
 | (g,bs,v) :: m => bif Nat.beq f g && WQ args bs then some v else XM f args m
theorem Xw {f : FuncId} {args : List AV} {v : AV} : ∀ {m : Xu},XM f args m=some v→(f,args,v) ∈ m
 | [],h => by cases h
 | (g,bs,u) :: m,h => by
  unfold XM at h
  cases e : (Nat.beq f g && WQ args bs) with
  | true =>
   rw [e] at h
   rw [Bool.and_eq_true,Nat.beq_eq] at e
   rw [e.1,YS e.2,show u=v from Option.some.inj h]
   exact List.mem_cons_self
  | false =>
   rw [e] at h
   exact List.mem_cons_of_mem _ (Xw h)
def JL : AC→Bool
 | .inl _ => true
 | .inr (k,_) => Nat.ble k 2
def XT (v : AV) : Bool := v.2.all fun x => x.2.all JL
def Ql (S : Sx) (cs : List (FuncId × Nat)) (M : Xu) : Nat→Hs→ZG
 | 0,_,_,_,_,_ => none
 | n+1,X,f,args,h,nx => match XM f args M with
  | some v => some (v,h,nx)
  | none => match Un f cs with
   | none => Zc (S.plus X) (Ql S cs M n X) f args h nx
   | some c => match Yk S X h c args with
    | none => Zc (S.plus X) (Ql S cs M n X) f args h nx
    | some (l,r) => bif Nat.beq 1 r then Zc (S.plus (YM l X)) (Ql S cs M n (YM l X)) f args h nx
     else Xe h nx ((ZK l X).map fun X' => Jd (S.plus X') (Zc (S.plus X') (Ql S cs M n X') f args h nx))
def Xk (S : Sx) (E : Ev S.nb) (w0 : World) (M : Xu) : Prop := ∀ f args v,(f,args,v) ∈ M→∀ (γ : Nat→Option Nat) (w : World) (vs : List Value),WI w0 γ w→A2 (avOn (cOn E S.K γ w)) args vs →
 Calls S.P f vs.toArray w fun e w' => ∃ r,e=.returned r∧(∀ wr nx,(∀ b ∈ wr,IA γ b)→Ef S.nb w0 wr nx nx γ w γ w')∧avOn (cOn E S.K γ w') v r
section
variable {S : Sx} {E : Ev S.nb} {w0 : World}
theorem Uu {K K' : List (FuncId × List AC)} {γ γ' : Nat→Option Nat} {w : World} {d : Nat} {c : AC} {v : Value} (hc : JL c=true) (h : QE E K γ w d c v) : QE E K' γ' w d c v := by
 cases c with
 | inl u =>
  unfold QE at h ⊢
  exact h
 | inr t =>
  obtain ⟨k,a,b,n,c⟩ := t
  have hk : k≤2 := by
   unfold JL at hc
   rw [Nat.ble_eq] at hc
   exact hc
  match k,hk with
  | 0,_ =>
   unfold QE at h ⊢
   exact h
  | 1,_ =>
   unfold QE at h ⊢
   exact h
  | 2,_ =>
   unfold QE at h ⊢
   exact h
theorem Xq {α : Type} {R R' : α→Value→Prop} {P : α→Prop} (h : ∀ a v,P a→R a v→R' a v) : ∀ {l : List α} {vs : List Value},(∀ a ∈ l,P a)→A2 R l vs→A2 R' l vs
 | [],[],_,_ => trivial
 | _ :: _,_ :: _,hp,q => ⟨h _ _ (hp _ List.mem_cons_self) q.1,Xq h (fun a ha => hp a (List.mem_cons_of_mem _ ha)) q.2⟩
 | [],_ :: _,_,q => q.elim
 | _ :: _,[],_,q => q.elim
theorem Uo {K K' : List (FuncId × List AC)} {γ γ' : Nat→Option Nat} {w : World} {x : AV} {v : Value} (hx : XT x=true) (h : avOn (cOn E K γ w) x v) : avOn (cOn E K' γ' w) x v := by
 unfold XT at hx
 rw [List.all_eq_true] at hx
 have one : ∀ (y : A1) u,(∀ c ∈ y.2,JL c=true)→a1On (cOn E K γ w) y u→a1On (cOn E K' γ' w) y u := fun y u hy q => by
  obtain ⟨b,cs⟩ := y
  cases b with
  | true =>
   obtain ⟨us,e,q⟩ := q
   exact ⟨us,e,Xq (P := fun c => JL c=true) (fun _ _ hc q => Uu hc q) hy q⟩
  | false => exact Xq (P := fun c => JL c=true) (fun _ _ hc q => Uu hc q) hy q
 have all : ∀ y ∈ x.2,∀ c ∈ y.2,JL c=true := fun y hy c hc => (List.all_eq_true.1 (hx y hy)) c hc
 obtain ⟨b,ys⟩ := x
 cases b with
 | true =>
  obtain ⟨us,e,q⟩ := h
  exact ⟨us,e,Xq (P := fun y : A1 => ∀ c ∈ y.2,JL c=true) (fun y u hy q => one y u hy q) all q⟩
 | false => exact Xq (P := fun y : A1 => ∀ c ∈ y.2,JL c=true) (fun y u hy q => one y u hy q) all h
variable {T : Hs→Prop} {z : Nat→Prop}
theorem Ur {cs : List (FuncId × Nat)} {M : Xu} (hm : S.P.follows .mixedOrders=true) (hM : Xk S E w0 M) (hN : ∀ X,T X→Knows (S.plus X) E) (hP : ∀ X,T X→Jq (S.plus X) E w0) (hk : Zu S T z)
  (hs : ∀ X,T X→∀ l s r,sqN S l=some s→(S.plus X).kn 0 s 0=some r→(Nat.beq 1 r=true→∀ d ∈ l,z d)∧(Nat.beq 1 r=false→∃ d ∈ l,¬ z d)) : ∀ n X,T X→QY S E w0 (Ql S cs M n X)
 | 0,_,_ => fun _ _ _ _ _ h => by cases h
 | n+1,X,hX => fun f args h nx p hp => by
  have body : ∀ Y,T Y→QY S E w0 (Zc (S.plus Y) (Ql S cs M n Y)) := fun Y hY => XE (S := S.plus Y) hm (hN Y hY) (hP Y hY) (Ur hm hM hN hP hk hs n Y hY)
  unfold Ql at hp
  split at hp
  ·rename_i v hv
   cases hp
   intro γ w vs hi hA hb hlt hf
   refine (hM f args v (Xw hv) γ w vs hi hA).mono ?_
   rintro _ w' ⟨r,rfl,hef,hr⟩
   have live : ∀ b ∈ h.map (·.1),IA γ b := fun b hb' => by
    obtain ⟨x,hx,rfl⟩ := List.mem_map.1 hb'
    obtain ⟨_,_,_,_,hl,_⟩ := hb x hx
    exact hl
   exact ⟨r,γ,rfl,hef _ _ live,hr,fun x hx => (hef [] nx Yi).box hi (hb x hx) (by simp)⟩
  ·split at hp
   ·exact body X hX f args h nx p hp
   ·split at hp
    ·exact body X hX f args h nx p hp
    rename_i l r hk'
    obtain ⟨hl,s,h1,h2⟩ := Jp hk'
    have h3 := hp
    obtain ⟨a1,a0⟩ := hs X hX _ s r h1 h2
    cases e : Nat.beq 1 r with
    | true =>
     rw [e] at h3
     exact body _ (ZE hk hX hl fun a ha => a1 e _ (List.mem_map_of_mem ha)) f args h nx p h3
    | false =>
     rw [e] at h3
     obtain ⟨d,hd,hz⟩ := a0 e
     obtain ⟨a,ha,rfl⟩ := List.mem_map.1 hd
     obtain ⟨X',m1,m2⟩ := Zm hk hX hl ⟨a,ha,hz⟩
     replace h3 : Xe h nx ((ZK l X).map fun X' => Jd (S.plus X') (Zc (S.plus X') (Ql S cs M n X') f args h nx))=some p := h3
     unfold Xe at h3
     split at h3
     ·rename_i p0 rs hrs
      rw [Option.bind_eq_some_iff] at h3
      obtain ⟨b,hb,h4⟩ := h3
      rw [ifO_some,List.all_eq_true] at h4
      obtain ⟨h5,h6⟩ := h4
      cases h6
      obtain ⟨h',nx',q1,q2,q3⟩ := Ju (h5 _ (List.mem_map_of_mem m1))
      intro γ w vs hi hA hb hlt hf
      refine (Yy (hN X' m2) (body X' m2) f args h nx _ q1 γ w vs hi hA hb hlt fun b g1 g2 => hf b g1 (Nat.lt_of_lt_of_le g2 q2)).mono ?_
      rintro _ w' ⟨r',γ',rfl,hef,hv,hx⟩
      exact ⟨r',γ',rfl,hef.wide (Nat.le_refl _) q2,hv,fun x hh => hx x (q3 x hh)⟩
     ·cases h3
theorem OZ {K1 K2 : List (FuncId × List AC)} {H1 H2 : Hs} {M : Xu} {f : FuncId} {args : List AV} {v : AV} {p : List HB × Nat} {call : ZG} (hC : QY { S with H := H1,K := K1 } E w0 call) (hr : call f args [] 0=some (v,p)) (ha : args.all XT=true) (hv : XT v=true) (hM : Xk { S with H := H2,K := K2 } E w0 M) : Xk { S with H := H2,K := K2 } E w0 ((f,args,v) :: M) := fun g bs u hmem => by
 rcases List.mem_cons.1 hmem with e | hmem
 ·cases e
  intro γ w vs hi hA
  rw [List.all_eq_true] at ha
  refine (hC f args [] 0 (v,p) hr (fun _ => none) w vs ⟨hi.bel,(fun _ _ h => by cases h)⟩ (Xq (P := fun x => XT x=true) (fun _ _ hx q => Uo hx q) ha hA) (fun x hx => by cases hx) (fun x hx => by cases hx) (fun _ _ _ => rfl)).mono ?_
  rintro _ w' ⟨r,γ',rfl,hef,hr,_⟩
  refine ⟨r,rfl,fun wr nx hl => ⟨leG.refl _,fun _ _ => rfl,fun _ _ h => Or.inl h,⟨hef.wi.bel,fun b G q => ⟨(hi.lo b G q).1,Nat.lt_of_lt_of_le (hi.lo b G q).2 hef.gr.size⟩⟩,hef.gr,fun G hG _ => hef.keep G hG (fun b hb => by cases hb),hl⟩,Uo hv hr⟩
 ·exact hM g bs u hmem
def XO (S : Sx) (cs : List (FuncId × Nat)) (k : Nat) : Xu→Bool
 | (f,args,v) :: M => (match Ql S cs M k [] f args [] 0 with
  | some (u,_) => WQ [u] [v]
  | none => false) && (args.all XT && XT v)
 | [] => false
def Xg (S : Sx) (cs : List (FuncId × Nat)) (k : Nat) : Nat→Xu→Bool
 | 0,_ => true
 | n+1,M => XO S cs k M && Xg S cs k n M.tail
def qA (l : List Nat) : AV := (false,[(true,l.flatMap Oo)])
def rC (a : Nat) : AC := .inr (0,0,a,0,0)
def rA (l : List Nat) : AV := (false,[(true,l.map rC)])
def pA (l : List Nat) : AV := (false,[(true,l.map fun a => .inr (2,a,0,0,0))])
theorem OX : Xk S E w0 [] := fun _ _ _ h => by cases h
end
end Cx
/- VPE -/
namespace Go.Proofs.YthagmklephpnhaaGreatDoor
open Cx Go Go.RowKit
section
variable {N : List Nd} {H : List (Nat × Nat × Nat × Nat)} {K : List (FuncId × List AC)} {L C : List (List Nat × Nat)} {Z : List Nat} {q : Nat→Rat} {σ : Nat→ByteArray} {cl : List FuncId} {cs pr : List (FuncId × Nat)} {M : Xu} {w : World}
theorem XV (Y : Hy N H L C Z q σ) (hc : ∀ f ∈ cl,Closed f) (hm : (Tryz.prog).follows .mixedOrders=true) (hp : Zf w) (hM : Xk (sx Tryz.prog N H K L C Z (prC cl)) (evS q σ) w M) (k : Nat) : QY (sx Tryz.prog N H K L C Z (prC cl)) (evS q σ) w (Ql (sx Tryz.prog N H K L C Z (prC cl)) cs M k []) :=
 Ur (S := sx Tryz.prog N H K L C Z (prC cl)) (E := evS q σ) (w0 := w) (T := fun X => Hy N (X ++ H) L C Z q σ) (z := fun d => q d=0) hm hM (fun X hX => TJ hX) (fun X hX => Ou hX hp hc) XF (fun X hX l s r h1 h2 => by
  have e := hX.k0 s r h2
  have g := Yz hX h1
  refine ⟨fun h => g.1 (e.1 h),fun h => ?_⟩
  have hn : ¬ ∀ d ∈ l,q d=0 := fun q' => by
   rw [e.2 (g.2 q')] at h
   cases h
  simpa using hn) k [] Y
def Zl (N : List Nd) (L C : List (List Nat × Nat)) (Z : List Nat) (q : Nat→Rat) (σ : Nat→ByteArray) (cl : List FuncId) (w : World) (M : Xu) : Prop := ∀ H K,Xk (sx Tryz.prog N H K L C Z (prC cl)) (evS q σ) w M
theorem Uq : Zl N L C Z q σ cl w [] := fun _ _ => OX
theorem YT {H1 : List (Nat × Nat × Nat × Nat)} (Y : Hy N H1 L C Z q σ) (hc : ∀ f ∈ cl,Closed f) (hm : (Tryz.prog).follows .mixedOrders=true) (hp : Zf w) {f : FuncId} {args : List AV} {v : AV} (k : Nat) (hr : XO (sx Tryz.prog N H1 [] L C Z (prC cl)) cs k ((f,args,v) :: M)=true) (hM : Zl N L C Z q σ cl w M) : Zl N L C Z q σ cl w ((f,args,v) :: M) := fun H K => by
 unfold XO at hr
 simp only [Bool.and_eq_true] at hr
 obtain ⟨h1,h2,h3⟩ := hr
 split at h1
 ·rename_i u p hu
  have e := YS h1
  cases e
  exact OZ (S := sx Tryz.prog N H K L C Z (prC cl)) (K1 := []) (H1 := H1) (K2 := K) (H2 := H) (XV (K := []) (cs := cs) Y hc hm hp (hM H1 []) k) hu h2 h3 (hM H K)
 ·cases h1
theorem Vl {i : Nat} {H1 : List (Nat × Nat × Nat × Nat)} (Y : Hy N H1 L C Z q σ) (hc : ∀ f ∈ cl,Closed f) (hm : (Tryz.prog).follows .mixedOrders=true) (hp : Zf w) {k : Nat} (hr : XO (sx Tryz.prog N H1 [] L C Z (prC cl)) cs k (M.drop i)=true) (hM : Zl N L C Z q σ cl w (M.drop (i+1))) : Zl N L C Z q σ cl w (M.drop i) := by
 rw [← List.tail_drop] at hM
 generalize M.drop i=D at *
 match D with
 | [] => cases hr
 | (f,args,v) :: D => exact YT Y hc hm hp k hr hM
theorem JF {H1 : List (Nat × Nat × Nat × Nat)} (Y : Hy N H1 L C Z q σ) (hc : ∀ f ∈ cl,Closed f) (hm : (Tryz.prog).follows .mixedOrders=true) (hp : Zf w) {k : Nat} : ∀ (n : Nat) {M : Xu},Xg (sx Tryz.prog N H1 [] L C Z (prC cl)) cs k n M=true→Zl N L C Z q σ cl w (M.drop n)→Zl N L C Z q σ cl w M
 | 0,_,_,h => h
 | n+1,M,hr,h => by
  unfold Xg at hr
  rw [Bool.and_eq_true] at hr
  have h1 := JF Y hc hm hp n hr.2 (by rw [List.drop_tail]; exact h)
  exact Vl (i := 0) Y hc hm hp hr.1 (by rw [Nat.zero_add,List.drop_one]; exact h1)
theorem Wd {f : FuncId} {args : List AV} {vs : List Value} (k : Nat) (Y : Hy N H L C Z q σ) (hc : ∀ f ∈ cl,Closed f) (hm : (Tryz.prog).follows .mixedOrders=true) (hp : Zf w) (hM : Zl N L C Z q σ cl w M) (hr : (Ql (sx Tryz.prog N H K L C Z (prC cl)) cs M k [] f args [] 0).map (·.1)=some (kB true))
  (hA : A2 (avOn (cOn (evS q σ) K (fun _ => none) w)) args vs) : Calls Tryz.prog f vs.toArray w fun e w' => Below w.heap.size w w'∧e=.returned (.bool true) := by
 rw [Option.map_eq_some_iff] at hr
 obtain ⟨⟨v,p⟩,h1,h2⟩ := hr
 dsimp only at h2
 subst h2
 refine (XV (cs := cs) Y hc hm hp (hM H K) k f args [] 0 (kB true,p) h1 (fun _ => none) w vs ⟨Below.refl _ _,(fun _ _ h => by cases h)⟩ hA (fun x hx => by cases hx) (fun x hx => by cases hx) (fun _ _ _ => rfl)).mono ?_
 rintro _ w' ⟨r,γ',rfl,hef,hv,_⟩
 exact ⟨hef.wi.bel,by rw [show r=.bool true from (QU (v := kB true) (c := .inl (.bool true)) rfl hv).1]⟩
end
end Go.Proofs.YthagmklephpnhaaGreatDoor
/- CFspaced -/
namespace Go.Proofs.YthagmklephpnhaaGreatDoor
open Go.RowKit Cx
theorem Xb : Closed 32 :=
 Ut (N := [(0,[0,1,1]),(0,[0,0,1]),(3,[1,0]),(3,[0,1]),(3,[1,1]),(4,[3,3]),(4,[4,4]),(3,[5,6]),(4,[4,2]),(4,[2,3]),(3,[8,9]),(4,[2,4]),(4,[3,2]),(3,[11,12]),(4,[7,0]),(2,[1,14]),(4,[10,1]),(2,[15,16]),(4,[13,1]),(2,[17,18]),(5,[19]),(8,[0,7,10,13,20]),(8,[1,7,10,13,20]),(8,[2,7,10,13,20]),(8,[3,7,10,13,20]),(2,[1,0]),(2,[1,1]),(0,[0,2,1]),(6,[25,27]),(6,[26,27]),(4,[3,28]),(2,[1,30]),(4,[4,29]),(2,[31,32]),(2,[33,32]),(5,[34]),(8,[0,3,4,4,35]),(8,[1,3,4,4,35]),(8,[2,3,4,4,35]),(8,[3,3,4,4,35]),(2,[1,32]),(2,[40,30]),(2,[41,32]),(5,[42]),(8,[0,4,3,4,43]),(8,[1,4,3,4,43]),(8,[2,4,3,4,43]),(8,[3,4,3,4,43]),(2,[40,32]),(2,[48,30]),(5,[49]),(8,[0,4,4,3,50]),(8,[1,4,4,3,50]),(8,[2,4,4,3,50]),(8,[3,4,4,3,50]),(4,[45,53]),(4,[46,52]),(3,[55,56]),(4,[46,51]),(4,[44,53]),(3,[58,59]),(4,[44,52]),(4,[45,51]),(3,[61,62]),(4,[36,57]),(2,[1,64]),(4,[37,60]),(2,[65,66]),(4,[38,63]),(2,[67,68]),(4,[52,38]),(4,[53,37]),(3,[70,71]),(4,[53,36]),(4,[51,38]),(3,[73,74]),(4,[51,37]),(4,[52,36]),(3,[76,77]),(4,[37,46]),(4,[38,45]),(3,[79,80]),(4,[38,44]),(4,[36,46]),(3,[82,83]),(4,[36,45]),(4,[37,44]),(3,[85,86]),(4,[57,39]),(2,[1,88]),(4,[72,47]),(2,[89,90]),(4,[81,54]),(2,[91,92]),(4,[60,39]),(2,[1,94]),(4,[75,47]),(2,[95,96]),(4,[84,54]),(2,[97,98]),(4,[63,39]),(2,[1,100]),(4,[78,47]),(2,[101,102]),(4,[87,54]),(2,[103,104]),(5,[69]),(6,[93,106]),(6,[99,106]),(6,[105,106]),(3,[1,107]),(3,[1,108]),(3,[1,109]),(4,[110,110]),(2,[1,113]),(4,[111,111]),(2,[114,115]),(4,[112,112]),(2,[116,117]),(0,[1,1,1]),(0,[0,1,2]),(0,[0,3,4]),(4,[4,3]),(3,[6,122]),(4,[3,4]),(3,[6,124]),(4,[3,7]),(2,[1,126]),(4,[4,123]),(2,[127,128]),(4,[4,125]),(2,[129,130]),(4,[2,2]),(2,[1,132]),(2,[133,5]),(2,[134,6])]) (H := [(0,7,0,0),(0,3,0,0),(0,4,0,1),(0,69,0,0),(4,21,0,1),(4,22,0,1),(4,23,0,1),(4,24,119,1),(4,107,120,1),(4,108,120,1),(4,109,120,1),(4,118,121,1),(4,131,0,1),(4,135,27,1)]) (K := []) (L := [([49],0),([48],1),([45,49],119),([49,47,50],120),([51,47,52],121),([50],27)]) (C := [([49],0),([45,49],119),([49,47,50],120),([51,47,52],121),([50],27)]) (Z := [2,2,5,5,5,10,10,21,10,10,21,10,10,21,23,26,23,50,23,74,74,371,371,371,371,5,5,3,8,8,13,16,13,30,44,44,221,221,221,221,16,30,44,44,221,221,221,221,30,44,44,221,221,221,221,442,442,885,442,442,885,442,442,885,1106,1109,1106,2216,1106,3323,442,442,885,442,442,885,442,442,885,442,442,885,442,442,885,442,442,885,1106,1109,1106,2216,1106,3323,1106,1109,1106,2216,1106,3323,1106,1109,1106,2216,1106,3323,3323,6646,6646,6646,6649,6649,6649,13298,13301,13298,26600,13298,39899,2,3,4,10,21,10,21,26,29,26,56,26,83,10,13,24,35]) (cl := []) 8 (fun _ h => by cases h) (by kernel_rfl) (by kernel_rfl) (by kernel_rfl) (by kernel_rfl) (by kernel_rfl) (by kernel_rfl) (by kernel_rfl)
end Go.Proofs.YthagmklephpnhaaGreatDoor
/- MEMRA -/
namespace Go.Proofs.YthagmklephpnhaaGreatDoor
open Go.RowKit Cx
def eM_N : List Nd := [(1,[0]),(1,[1]),(1,[2]),(1,[3]),(4,[0,0]),(4,[1,1]),(2,[4,5]),(4,[2,2]),(2,[6,7]),(8,[0,0,1,2,3]),(8,[1,0,1,2,3]),(8,[2,0,1,2,3]),(8,[3,0,1,2,3]),(1,[4]),(1,[5]),(1,[6]),(1,[7]),(4,[13,13]),(4,[14,14]),(2,[17,18]),(4,[15,15]),(2,[19,20]),(8,[0,13,14,15,16]),(8,[1,13,14,15,16]),(8,[2,13,14,15,16]),(8,[3,13,14,15,16]),(1,[8]),(1,[9]),(1,[10]),(1,[11]),(4,[26,26]),(4,[27,27]),(2,[30,31]),(4,[28,28]),(2,[32,33]),(8,[0,26,27,28,29]),(8,[1,26,27,28,29]),(8,[2,26,27,28,29]),(8,[3,26,27,28,29]),(4,[23,37]),(4,[24,36]),(3,[39,40]),(4,[24,35]),(4,[22,37]),(3,[42,43]),(4,[22,36]),(4,[23,35]),(3,[45,46]),(4,[9,41]),(0,[0,0,1]),(2,[49,48]),(4,[10,44]),(2,[50,51]),(4,[11,47]),(2,[52,53]),(4,[36,11]),(4,[37,10]),(3,[55,56]),(4,[37,9]),(4,[35,11]),(3,[58,59]),(4,[35,10]),(4,[36,9]),(3,[61,62]),(4,[10,24]),(4,[11,23]),(3,[64,65]),(4,[11,22]),(4,[9,24]),(3,[67,68]),(4,[9,23]),(4,[10,22]),(3,[70,71]),(4,[41,12]),(2,[49,73]),(4,[57,25]),(2,[74,75]),(4,[66,38]),(2,[76,77]),(4,[44,12]),(2,[49,79]),(4,[60,25]),(2,[80,81]),(4,[69,38]),(2,[82,83]),(4,[47,12]),(2,[49,85]),(4,[63,25]),(2,[86,87]),(4,[72,38]),(2,[88,89]),(4,[78,78]),(4,[84,84]),(2,[91,92]),(4,[90,90]),(2,[93,94]),(4,[66,66]),(4,[69,69]),(2,[96,97]),(4,[72,72]),(2,[98,99]),(4,[9,25]),(4,[10,25]),(4,[11,25]),(4,[22,12]),(4,[23,12]),(4,[24,12]),(3,[101,104]),(3,[102,105]),(3,[103,106]),(4,[107,107]),(4,[108,108]),(2,[110,111]),(4,[109,109]),(2,[112,113]),(4,[10,37]),(4,[11,36]),(3,[115,116]),(4,[11,35]),(4,[9,37]),(3,[118,119]),(4,[9,36]),(4,[10,35]),(3,[121,122]),(4,[117,117]),(4,[120,120]),(2,[124,125]),(4,[123,123]),(2,[126,127]),(4,[9,38]),(4,[10,38]),(4,[11,38]),(4,[35,12]),(4,[36,12]),(4,[37,12]),(3,[129,132]),(3,[130,133]),(3,[131,134]),(4,[135,135]),(4,[136,136]),(2,[138,139]),(4,[137,137]),(2,[140,141]),(4,[14,28]),(4,[15,27]),(3,[143,144]),(4,[0,145]),(4,[13,28]),(4,[15,26]),(3,[147,148]),(4,[1,149]),(5,[150]),(4,[13,27]),(4,[14,26]),(3,[152,153]),(4,[2,154]),(2,[146,151]),(2,[156,155]),(6,[15,28]),(4,[158,26]),(3,[13,159]),(4,[158,27]),(3,[14,161]),(4,[158,28]),(3,[15,163]),(6,[2,28]),(4,[165,26]),(3,[0,166]),(4,[165,27]),(3,[1,168]),(4,[165,28]),(3,[2,170]),(4,[158,29]),(3,[16,172]),(4,[165,29]),(3,[3,174]),(6,[14,27]),(4,[176,26]),(3,[13,177]),(4,[176,27]),(3,[14,179]),(4,[176,28]),(3,[15,181]),(6,[1,27]),(4,[183,26]),(3,[0,184]),(4,[183,27]),(3,[1,186]),(4,[183,28]),(3,[2,188]),(4,[176,29]),(3,[16,190]),(4,[183,29]),(3,[3,192]),(6,[13,26]),(4,[194,26]),(3,[13,195]),(4,[194,27]),(3,[14,197]),(4,[194,28]),(3,[15,199]),(6,[0,26]),(4,[201,26]),(3,[0,202]),(4,[201,27]),(3,[1,204]),(4,[201,28]),(3,[2,206]),(4,[194,29]),(3,[16,208]),(4,[201,29]),(3,[3,210]),(6,[173,175]),(4,[212,167]),(3,[160,213]),(4,[212,169]),(3,[162,215]),(4,[212,171]),(3,[164,217]),(4,[212,175]),(3,[173,219]),(6,[191,193]),(4,[221,185]),(3,[178,222]),(4,[221,187]),(3,[180,224]),(4,[221,189]),(3,[182,226]),(4,[221,193]),(3,[191,228]),(6,[209,211]),(4,[230,203]),(3,[196,231]),(4,[230,205]),(3,[198,233]),(4,[230,207]),(3,[200,235]),(4,[230,211]),(3,[209,237]),(6,[182,189]),(4,[239,185]),(3,[178,240]),(4,[239,187]),(3,[180,242]),(4,[239,189]),(3,[182,244]),(4,[239,193]),(3,[191,246]),(6,[1,14]),(4,[248,13]),(3,[0,249]),(4,[248,14]),(3,[1,251]),(4,[248,15]),(3,[2,253]),(6,[27,14]),(4,[255,13]),(3,[26,256]),(4,[255,14]),(3,[27,258]),(4,[255,15]),(3,[28,260]),(6,[254,261]),(4,[262,257]),(3,[250,263]),(4,[262,259]),(3,[252,265]),(4,[262,261]),(3,[254,267]),(4,[248,16]),(3,[3,269]),(4,[255,16]),(3,[29,271]),(4,[262,272]),(3,[270,273]),(6,[200,207]),(4,[275,203]),(3,[196,276]),(4,[275,205]),(3,[198,278]),(4,[275,207]),(3,[200,280]),(4,[275,211]),(3,[209,282]),(6,[198,205]),(4,[284,203]),(3,[196,285]),(4,[284,205]),(3,[198,287]),(4,[284,207]),(3,[200,289]),(4,[284,211]),(3,[209,291]),(6,[0,13]),(4,[293,13]),(3,[0,294]),(4,[293,14]),(3,[1,296]),(4,[293,15]),(3,[2,298]),(6,[26,13]),(4,[300,13]),(3,[26,301]),(4,[300,14]),(3,[27,303]),(4,[300,15]),(3,[28,305]),(6,[299,306]),(4,[307,302]),(3,[295,308]),(4,[307,304]),(3,[297,310]),(4,[307,306]),(3,[299,312]),(4,[293,16]),(3,[3,314]),(4,[300,16]),(3,[29,316]),(4,[307,317]),(3,[315,318]),(6,[297,304]),(4,[320,302]),(3,[295,321]),(4,[320,304]),(3,[297,323]),(4,[320,306]),(3,[299,325]),(4,[320,317]),(3,[315,327]),(6,[175,173]),(4,[329,160]),(3,[167,330]),(4,[329,162]),(3,[169,332]),(4,[329,164]),(3,[171,334]),(4,[329,173]),(3,[175,336]),(6,[193,191]),(4,[338,178]),(3,[185,339]),(4,[338,180]),(3,[187,341]),(4,[338,182]),(3,[189,343]),(4,[338,191]),(3,[193,345]),(6,[211,209]),(4,[347,196]),(3,[203,348]),(4,[347,198]),(3,[205,350]),(4,[347,200]),(3,[207,352]),(4,[347,209]),(3,[211,354]),(6,[189,182]),(4,[356,178]),(3,[185,357]),(4,[356,180]),(3,[187,359]),(4,[356,182]),(3,[189,361]),(4,[356,191]),(3,[193,363]),(6,[207,200]),(4,[365,196]),(3,[203,366]),(4,[365,198]),(3,[205,368]),(4,[365,200]),(3,[207,370]),(4,[365,209]),(3,[211,372]),(6,[205,198]),(4,[374,196]),(3,[203,375]),(4,[374,198]),(3,[205,377]),(4,[374,200]),(3,[207,379]),(4,[374,209]),(3,[211,381]),(6,[14,1]),(4,[383,0]),(3,[13,384]),(4,[383,1]),(3,[14,386]),(4,[383,2]),(3,[15,388]),(6,[27,1]),(4,[390,0]),(3,[26,391]),(4,[390,1]),(3,[27,393]),(4,[390,2]),(3,[28,395]),(6,[389,396]),(4,[397,392]),(3,[385,398]),(4,[397,394]),(3,[387,400]),(4,[397,396]),(3,[389,402]),(4,[383,3]),(3,[16,404]),(4,[390,3]),(3,[29,406]),(4,[397,407]),(3,[405,408]),(6,[13,0]),(4,[410,0]),(3,[13,411]),(4,[410,1]),(3,[14,413]),(4,[410,2]),(3,[15,415]),(6,[26,0]),(4,[417,0]),(3,[26,418]),(4,[417,1]),(3,[27,420]),(4,[417,2]),(3,[28,422]),(6,[416,423]),(4,[424,419]),(3,[412,425]),(4,[424,421]),(3,[414,427]),(4,[424,423]),(3,[416,429]),(4,[410,3]),(3,[16,431]),(4,[417,3]),(3,[29,433]),(4,[424,434]),(3,[432,435]),(6,[414,421]),(4,[437,419]),(3,[412,438]),(4,[437,421]),(3,[414,440]),(4,[437,423]),(3,[416,442]),(4,[437,434]),(3,[432,444]),(5,[54]),(6,[78,446]),(6,[84,446]),(6,[90,446]),(4,[0,447]),(4,[1,448]),(4,[2,449]),(2,[450,451]),(2,[453,452]),(2,[454,3]),(4,[13,447]),(4,[14,448]),(4,[15,449]),(2,[456,457]),(2,[459,458]),(2,[460,16]),(4,[26,447]),(4,[27,448]),(4,[28,449]),(2,[462,463]),(2,[465,464]),(2,[466,29])]
def QP : List (List Nat × Nat) := []
def QT : List (List Nat × Nat) := []
def QQ : List Nat := [3495260,3495260,3495260,3495260,6990519,6990519,13981038,6990519,20971558,13981037,13981037,13981037,13981037,3495260,3495260,3495260,3495260,6990519,6990519,13981038,6990519,20971558,13981037,13981037,13981037,13981037,3495260,3495260,3495260,3495260,6990519,6990519,13981038,6990519,20971558,13981037,13981037,13981037,13981037,27962074,27962074,27962076,27962074,27962074,27962076,27962074,27962074,27962076,41943113,1,41943115,41943113,41943117,41943113,41943119,27962074,27962074,27962076,27962074,27962074,27962076,27962074,27962074,27962076,27962074,27962074,27962076,27962074,27962074,27962076,27962074,27962074,27962076,41943113,41943115,41943113,41943117,41943113,41943119,41943113,41943115,41943113,41943117,41943113,41943119,41943113,41943115,41943113,41943117,41943113,41943119,83886238,83886238,83886240,83886238,83886242,55924152,55924152,55924154,55924152,55924156,27962074,27962074,27962074,27962074,27962074,27962074,27962076,27962076,27962076,55924152,55924152,55924154,55924152,55924156,27962074,27962074,27962076,27962074,27962074,27962076,27962074,27962074,27962076,55924152,55924152,55924154,55924152,55924156,27962074,27962074,27962074,27962074,27962074,27962074,27962076,27962076,27962076,55924152,55924152,55924154,55924152,55924156,6990519,6990519,13981038,17476297,6990519,6990519,13981038,17476297,17476297,6990519,6990519,13981038,17476297,27962076,31457337,6990519,10485778,13981039,10485778,13981039,10485778,10485780,6990519,10485778,13981039,10485778,13981039,10485778,10485780,10485778,13981039,10485778,13981039,6990519,10485778,13981039,10485778,10485780,10485778,13981039,6990519,10485778,13981039,10485778,10485780,10485778,13981039,10485778,13981039,10485778,13981039,6990519,10485778,10485780,10485778,13981039,10485778,13981039,6990519,10485778,10485780,10485778,13981039,10485778,13981039,10485778,13981039,10485778,13981039,20971558,34952597,38447858,34952597,38447858,31457338,31457340,34952597,34952599,20971558,34952597,38447858,31457338,31457340,34952597,38447858,34952597,34952599,20971558,31457338,31457340,34952597,38447858,34952597,38447858,34952597,34952599,20971558,34952597,38447858,31457338,31457340,34952597,34952599,34952597,38447858,6990519,10485778,13981039,10485778,10485780,10485778,13981039,6990519,10485778,13981039,10485778,10485780,10485778,13981039,20971558,34952597,38447858,31457338,31457340,34952597,34952599,10485778,13981039,10485778,13981039,34952597,38447858,20971558,31457338,31457340,34952597,38447858,34952597,34952599,34952597,38447858,20971558,31457338,31457340,34952597,34952599,34952597,38447858,34952597,38447858,6990519,10485778,10485780,10485778,13981039,10485778,13981039,6990519,10485778,10485780,10485778,13981039,10485778,13981039,20971558,31457338,31457340,34952597,38447858,34952597,34952599,10485778,13981039,10485778,13981039,34952597,38447858,20971558,31457338,31457340,34952597,34952599,34952597,38447858,34952597,38447858,20971558,34952597,38447858,34952597,38447858,31457338,31457340,34952597,34952599,20971558,34952597,38447858,31457338,31457340,34952597,38447858,34952597,34952599,20971558,31457338,31457340,34952597,38447858,34952597,38447858,34952597,34952599,20971558,34952597,38447858,31457338,31457340,34952597,34952599,34952597,38447858,20971558,31457338,31457340,34952597,38447858,34952597,34952599,34952597,38447858,20971558,31457338,31457340,34952597,34952599,34952597,38447858,34952597,38447858,6990519,10485778,13981039,10485778,10485780,10485778,13981039,6990519,10485778,13981039,10485778,10485780,10485778,13981039,20971558,34952597,38447858,31457338,31457340,34952597,34952599,10485778,13981039,10485778,13981039,34952597,38447858,6990519,10485778,10485780,10485778,13981039,10485778,13981039,6990519,10485778,10485780,10485778,13981039,10485778,13981039,20971558,31457338,31457340,34952597,38447858,34952597,34952599,10485778,13981039,10485778,13981039,34952597,38447858,20971558,31457338,31457340,34952597,34952599,34952597,38447858,34952597,38447858,41943119,41943120,41943120,41943120,45438379,45438379,45438379,48933640,52428901,55924162,45438379,45438379,45438379,48933640,52428901,55924162,45438379,45438379,45438379,48933640,52428901,55924162]
def eM_D0 : List Atm := [(0,1),(0,4),(0,6),(0,8),(0,10)]
def eM_D1 : List Atm := [(0,6),(0,10),(1,28)]
def eM_D2 : List Atm := [(0,2),(0,10),(1,28)]
def eM_D3 : List Atm := [(0,5),(0,9),(1,27)]
def eM_D4 : List Atm := [(0,1),(0,9),(1,27)]
def eM_D5 : List Atm := [(0,4),(0,8),(1,26)]
def eM_D6 : List Atm := [(0,0),(0,8),(1,26)]
def eM_D7 : List Atm := [(0,2),(0,6),(0,7),(0,10),(1,28),(1,175)]
def eM_D8 : List Atm := [(0,2),(0,3),(0,6),(0,7),(0,11),(1,28),(1,175)]
def eM_D9 : List Atm := [(0,1),(0,5),(0,7),(0,9),(1,27),(1,193)]
def eM_D10 : List Atm := [(0,1),(0,3),(0,5),(0,7),(0,11),(1,27),(1,193)]
def eM_D11 : List Atm := [(0,0),(0,4),(0,7),(0,8),(1,26),(1,211)]
def eM_D12 : List Atm := [(0,0),(0,3),(0,4),(0,7),(0,11),(1,26),(1,211)]
def eM_D13 : List Atm := [(0,1),(0,5),(0,6),(0,9),(1,27),(1,189)]
def eM_D14 : List Atm := [(0,1),(0,2),(0,5),(0,6),(0,10),(1,27),(1,189)]
def eM_D15 : List Atm := [(0,1),(0,5),(1,14)]
def eM_D16 : List Atm := [(0,5),(0,9),(1,14)]
def eM_D17 : List Atm := [(0,1),(0,2),(0,5),(0,9),(1,14),(1,261)]
def eM_D18 : List Atm := [(0,1),(0,2),(0,6),(0,9),(0,10),(1,14),(1,261)]
def eM_D19 : List Atm := [(0,0),(0,4),(0,6),(0,8),(1,26),(1,207)]
def eM_D20 : List Atm := [(0,0),(0,2),(0,4),(0,6),(0,10),(1,26),(1,207)]
def eM_D21 : List Atm := [(0,0),(0,4),(0,5),(0,8),(1,26),(1,205)]
def eM_D22 : List Atm := [(0,0),(0,1),(0,4),(0,5),(0,9),(1,26),(1,205)]
def eM_D23 : List Atm := [(0,0),(0,4),(1,13)]
def eM_D24 : List Atm := [(0,4),(0,8),(1,13)]
def eM_D25 : List Atm := [(0,0),(0,2),(0,4),(0,8),(1,13),(1,306)]
def eM_D26 : List Atm := [(0,0),(0,2),(0,6),(0,8),(0,10),(1,13),(1,306)]
def eM_D27 : List Atm := [(0,0),(0,1),(0,4),(0,8),(1,13),(1,304)]
def eM_D28 : List Atm := [(0,0),(0,1),(0,5),(0,8),(0,9),(1,13),(1,304)]
def eM_D29 : List Atm := [(0,2),(0,3),(0,6),(0,10),(1,28),(1,173)]
def eM_D30 : List Atm := [(0,2),(0,3),(0,6),(0,7),(0,11),(1,28),(1,173)]
def eM_D31 : List Atm := [(0,1),(0,3),(0,5),(0,9),(1,27),(1,191)]
def eM_D32 : List Atm := [(0,1),(0,3),(0,5),(0,7),(0,11),(1,27),(1,191)]
def eM_D33 : List Atm := [(0,0),(0,3),(0,4),(0,8),(1,26),(1,209)]
def eM_D34 : List Atm := [(0,0),(0,3),(0,4),(0,7),(0,11),(1,26),(1,209)]
def eM_D35 : List Atm := [(0,1),(0,2),(0,5),(0,9),(1,27),(1,182)]
def eM_D36 : List Atm := [(0,1),(0,2),(0,5),(0,6),(0,10),(1,27),(1,182)]
def eM_D37 : List Atm := [(0,0),(0,2),(0,4),(0,8),(1,26),(1,200)]
def eM_D38 : List Atm := [(0,0),(0,2),(0,4),(0,6),(0,10),(1,26),(1,200)]
def eM_D39 : List Atm := [(0,0),(0,1),(0,4),(0,8),(1,26),(1,198)]
def eM_D40 : List Atm := [(0,0),(0,1),(0,4),(0,5),(0,9),(1,26),(1,198)]
def eM_D41 : List Atm := [(0,1),(0,5),(1,1)]
def eM_D42 : List Atm := [(0,1),(0,9),(1,1)]
def eM_D43 : List Atm := [(0,1),(0,5),(0,6),(0,9),(1,1),(1,396)]
def eM_D44 : List Atm := [(0,2),(0,5),(0,6),(0,9),(0,10),(1,1),(1,396)]
def eM_D45 : List Atm := [(0,0),(0,4),(1,0)]
def eM_D46 : List Atm := [(0,0),(0,8),(1,0)]
def eM_D47 : List Atm := [(0,0),(0,4),(0,6),(0,8),(1,0),(1,423)]
def eM_D48 : List Atm := [(0,2),(0,4),(0,6),(0,8),(0,10),(1,0),(1,423)]
def eM_D49 : List Atm := [(0,0),(0,4),(0,5),(0,8),(1,0),(1,421)]
def eM_D50 : List Atm := [(0,1),(0,4),(0,5),(0,8),(0,9),(1,0),(1,421)]
def eM_E : List (Nat × List Atm) := [(3495259,[(0,0)]),(3495259,[(0,1)]),(3495259,[(0,2)]),(3495259,[(0,3)]),(6990518,[(0,0),(0,0)]),(6990518,[(0,1),(0,1)]),(13981038,[(0,0),(0,0),(0,1),(0,1)]),(6990518,[(0,2),(0,2)]),(20971558,[(0,0),(0,0),(0,1),(0,1),(0,2),(0,2)]),(13981037,[]),(13981037,[]),(13981037,[]),(13981037,[]),(3495259,[(0,4)]),(3495259,[(0,5)]),(3495259,[(0,6)]),(3495259,[(0,7)]),(6990518,[(0,4),(0,4)]),(6990518,[(0,5),(0,5)]),(13981038,[(0,4),(0,4),(0,5),(0,5)]),(6990518,[(0,6),(0,6)]),(20971558,[(0,4),(0,4),(0,5),(0,5),(0,6),(0,6)]),(13981037,[]),(13981037,[]),(13981037,[]),(13981037,[]),(3495259,[(0,8)]),(3495259,[(0,9)]),(3495259,[(0,10)]),(3495259,[(0,11)]),(6990518,[(0,8),(0,8)]),(6990518,[(0,9),(0,9)]),(13981038,[(0,8),(0,8),(0,9),(0,9)]),(6990518,[(0,10),(0,10)]),(20971558,[(0,8),(0,8),(0,9),(0,9),(0,10),(0,10)]),(13981037,[]),(13981037,[]),(13981037,[]),(13981037,[]),(27962074,[]),(27962074,[]),(27962076,[]),(27962074,[]),(27962074,[]),(27962076,[]),(27962074,[]),(27962074,[]),(27962076,[]),(41943113,[]),(1,[]),(41943115,[]),(41943113,[]),(41943117,[]),(41943113,[]),(41943119,[]),(27962074,[]),(27962074,[]),(27962076,[]),(27962074,[]),(27962074,[]),(27962076,[]),(27962074,[]),(27962074,[]),(27962076,[]),(27962074,[]),(27962074,[]),(27962076,[]),(27962074,[]),(27962074,[]),(27962076,[]),(27962074,[]),(27962074,[]),(27962076,[]),(41943113,[]),(41943115,[]),(41943113,[]),(41943117,[]),(41943113,[]),(41943119,[]),(41943113,[]),(41943115,[]),(41943113,[]),(41943117,[]),(41943113,[]),(41943119,[]),(41943113,[]),(41943115,[]),(41943113,[]),(41943117,[]),(41943113,[]),(41943119,[]),(83886238,[]),(83886238,[]),(83886240,[]),(83886238,[]),(83886242,[]),(55924152,[]),(55924152,[]),(55924154,[]),(55924152,[]),(55924156,[]),(27962074,[]),(27962074,[]),(27962074,[]),(27962074,[]),(27962074,[]),(27962074,[]),(27962076,[]),(27962076,[]),(27962076,[]),(55924152,[]),(55924152,[]),(55924154,[]),(55924152,[]),(55924156,[]),(27962074,[]),(27962074,[]),(27962076,[]),(27962074,[]),(27962074,[]),(27962076,[]),(27962074,[]),(27962074,[]),(27962076,[]),(55924152,[]),(55924152,[]),(55924154,[]),(55924152,[]),(55924156,[]),(27962074,[]),(27962074,[]),(27962074,[]),(27962074,[]),(27962074,[]),(27962074,[]),(27962076,[]),(27962076,[]),(27962076,[]),(55924152,[]),(55924152,[]),(55924154,[]),(55924152,[]),(55924156,[]),(6990518,[(0,5),(0,10)]),(6990518,[(0,6),(0,9)]),(13981038,[(0,5),(0,6),(0,9),(0,10)]),(17476297,[(0,0),(0,5),(0,6),(0,9),(0,10)]),(6990518,[(0,4),(0,10)]),(6990518,[(0,6),(0,8)]),(13981038,[(0,4),(0,6),(0,8),(0,10)]),(17476297,eM_D0),(17476297,eM_D0),(6990518,[(0,4),(0,9)]),(6990518,[(0,5),(0,8)]),(13981038,[(0,4),(0,5),(0,8),(0,9)]),(17476297,[(0,2),(0,4),(0,5),(0,8),(0,9)]),(27962076,[(0,0),(0,1),(0,4),(0,5),(0,6),(0,8),(0,9),(0,10)]),(31457337,[(0,0),(0,1),(0,2),(0,4),(0,5),(0,6),(0,8),(0,9),(0,10)]),(6990519,[(0,6),(1,28)]),(10485778,[(0,6),(0,8),(1,28)]),(13981039,[(0,4),(0,6),(0,8),(1,28)]),(10485778,[(0,6),(0,9),(1,28)]),(13981039,[(0,5),(0,6),(0,9),(1,28)]),(10485778,eM_D1),(10485780,eM_D1),(6990519,[(0,2),(1,28)]),(10485778,[(0,2),(0,8),(1,28)]),(13981039,[(0,0),(0,2),(0,8),(1,28)]),(10485778,[(0,2),(0,9),(1,28)]),(13981039,[(0,1),(0,2),(0,9),(1,28)]),(10485778,eM_D2),(10485780,eM_D2),(10485778,[(0,6),(0,11),(1,28)]),(13981039,[(0,6),(0,7),(0,11),(1,28)]),(10485778,[(0,2),(0,11),(1,28)]),(13981039,[(0,2),(0,3),(0,11),(1,28)]),(6990519,[(0,5),(1,27)]),(10485778,[(0,5),(0,8),(1,27)]),(13981039,[(0,4),(0,5),(0,8),(1,27)]),(10485778,eM_D3),(10485780,eM_D3),(10485778,[(0,5),(0,10),(1,27)]),(13981039,[(0,5),(0,6),(0,10),(1,27)]),(6990519,[(0,1),(1,27)]),(10485778,[(0,1),(0,8),(1,27)]),(13981039,[(0,0),(0,1),(0,8),(1,27)]),(10485778,eM_D4),(10485780,eM_D4),(10485778,[(0,1),(0,10),(1,27)]),(13981039,[(0,1),(0,2),(0,10),(1,27)]),(10485778,[(0,5),(0,11),(1,27)]),(13981039,[(0,5),(0,7),(0,11),(1,27)]),(10485778,[(0,1),(0,11),(1,27)]),(13981039,[(0,1),(0,3),(0,11),(1,27)]),(6990519,[(0,4),(1,26)]),(10485778,eM_D5),(10485780,eM_D5),(10485778,[(0,4),(0,9),(1,26)]),(13981039,[(0,4),(0,5),(0,9),(1,26)]),(10485778,[(0,4),(0,10),(1,26)]),(13981039,[(0,4),(0,6),(0,10),(1,26)]),(6990519,[(0,0),(1,26)]),(10485778,eM_D6),(10485780,eM_D6),(10485778,[(0,0),(0,9),(1,26)]),(13981039,[(0,0),(0,1),(0,9),(1,26)]),(10485778,[(0,0),(0,10),(1,26)]),(13981039,[(0,0),(0,2),(0,10),(1,26)]),(10485778,[(0,4),(0,11),(1,26)]),(13981039,[(0,4),(0,7),(0,11),(1,26)]),(10485778,[(0,0),(0,11),(1,26)]),(13981039,[(0,0),(0,3),(0,11),(1,26)]),(20971558,[(0,6),(0,7),(1,175)]),(34952597,[(0,0),(0,2),(0,6),(0,7),(0,8),(1,28),(1,175)]),(38447858,[(0,0),(0,2),(0,4),(0,6),(0,7),(0,8),(1,28),(1,175)]),(34952597,[(0,1),(0,2),(0,6),(0,7),(0,9),(1,28),(1,175)]),(38447858,[(0,1),(0,2),(0,5),(0,6),(0,7),(0,9),(1,28),(1,175)]),(31457338,eM_D7),(31457340,eM_D7),(34952597,eM_D8),(34952599,eM_D8),(20971558,[(0,5),(0,7),(1,193)]),(34952597,[(0,0),(0,1),(0,5),(0,7),(0,8),(1,27),(1,193)]),(38447858,[(0,0),(0,1),(0,4),(0,5),(0,7),(0,8),(1,27),(1,193)]),(31457338,eM_D9),(31457340,eM_D9),(34952597,[(0,1),(0,2),(0,5),(0,7),(0,10),(1,27),(1,193)]),(38447858,[(0,1),(0,2),(0,5),(0,6),(0,7),(0,10),(1,27),(1,193)]),(34952597,eM_D10),(34952599,eM_D10),(20971558,[(0,4),(0,7),(1,211)]),(31457338,eM_D11),(31457340,eM_D11),(34952597,[(0,0),(0,1),(0,4),(0,7),(0,9),(1,26),(1,211)]),(38447858,[(0,0),(0,1),(0,4),(0,5),(0,7),(0,9),(1,26),(1,211)]),(34952597,[(0,0),(0,2),(0,4),(0,7),(0,10),(1,26),(1,211)]),(38447858,[(0,0),(0,2),(0,4),(0,6),(0,7),(0,10),(1,26),(1,211)]),(34952597,eM_D12),(34952599,eM_D12),(20971558,[(0,5),(0,6),(1,189)]),(34952597,[(0,0),(0,1),(0,5),(0,6),(0,8),(1,27),(1,189)]),(38447858,[(0,0),(0,1),(0,4),(0,5),(0,6),(0,8),(1,27),(1,189)]),(31457338,eM_D13),(31457340,eM_D13),(34952597,eM_D14),(34952599,eM_D14),(34952597,[(0,1),(0,3),(0,5),(0,6),(0,11),(1,27),(1,189)]),(38447858,[(0,1),(0,3),(0,5),(0,6),(0,7),(0,11),(1,27),(1,189)]),(6990519,[(0,1),(1,14)]),(10485778,[(0,1),(0,4),(1,14)]),(13981039,[(0,0),(0,1),(0,4),(1,14)]),(10485778,eM_D15),(10485780,eM_D15),(10485778,[(0,1),(0,6),(1,14)]),(13981039,[(0,1),(0,2),(0,6),(1,14)]),(6990519,[(0,9),(1,14)]),(10485778,[(0,4),(0,9),(1,14)]),(13981039,[(0,4),(0,8),(0,9),(1,14)]),(10485778,eM_D16),(10485780,eM_D16),(10485778,[(0,6),(0,9),(1,14)]),(13981039,[(0,6),(0,9),(0,10),(1,14)]),(20971558,[(0,1),(0,2),(1,261)]),(34952597,[(0,1),(0,2),(0,4),(0,8),(0,9),(1,14),(1,261)]),(38447858,[(0,0),(0,1),(0,2),(0,4),(0,8),(0,9),(1,14),(1,261)]),(31457338,eM_D17),(31457340,eM_D17),(34952597,eM_D18),(34952599,eM_D18),(10485778,[(0,1),(0,7),(1,14)]),(13981039,[(0,1),(0,3),(0,7),(1,14)]),(10485778,[(0,7),(0,9),(1,14)]),(13981039,[(0,7),(0,9),(0,11),(1,14)]),(34952597,[(0,1),(0,2),(0,7),(0,9),(0,11),(1,14),(1,261)]),(38447858,[(0,1),(0,2),(0,3),(0,7),(0,9),(0,11),(1,14),(1,261)]),(20971558,[(0,4),(0,6),(1,207)]),(31457338,eM_D19),(31457340,eM_D19),(34952597,[(0,0),(0,1),(0,4),(0,6),(0,9),(1,26),(1,207)]),(38447858,[(0,0),(0,1),(0,4),(0,5),(0,6),(0,9),(1,26),(1,207)]),(34952597,eM_D20),(34952599,eM_D20),(34952597,[(0,0),(0,3),(0,4),(0,6),(0,11),(1,26),(1,207)]),(38447858,[(0,0),(0,3),(0,4),(0,6),(0,7),(0,11),(1,26),(1,207)]),(20971558,[(0,4),(0,5),(1,205)]),(31457338,eM_D21),(31457340,eM_D21),(34952597,eM_D22),(34952599,eM_D22),(34952597,[(0,0),(0,2),(0,4),(0,5),(0,10),(1,26),(1,205)]),(38447858,[(0,0),(0,2),(0,4),(0,5),(0,6),(0,10),(1,26),(1,205)]),(34952597,[(0,0),(0,3),(0,4),(0,5),(0,11),(1,26),(1,205)]),(38447858,[(0,0),(0,3),(0,4),(0,5),(0,7),(0,11),(1,26),(1,205)]),(6990519,[(0,0),(1,13)]),(10485778,eM_D23),(10485780,eM_D23),(10485778,[(0,0),(0,5),(1,13)]),(13981039,[(0,0),(0,1),(0,5),(1,13)]),(10485778,[(0,0),(0,6),(1,13)]),(13981039,[(0,0),(0,2),(0,6),(1,13)]),(6990519,[(0,8),(1,13)]),(10485778,eM_D24),(10485780,eM_D24),(10485778,[(0,5),(0,8),(1,13)]),(13981039,[(0,5),(0,8),(0,9),(1,13)]),(10485778,[(0,6),(0,8),(1,13)]),(13981039,[(0,6),(0,8),(0,10),(1,13)]),(20971558,[(0,0),(0,2),(1,306)]),(31457338,eM_D25),(31457340,eM_D25),(34952597,[(0,0),(0,2),(0,5),(0,8),(0,9),(1,13),(1,306)]),(38447858,[(0,0),(0,1),(0,2),(0,5),(0,8),(0,9),(1,13),(1,306)]),(34952597,eM_D26),(34952599,eM_D26),(10485778,[(0,0),(0,7),(1,13)]),(13981039,[(0,0),(0,3),(0,7),(1,13)]),(10485778,[(0,7),(0,8),(1,13)]),(13981039,[(0,7),(0,8),(0,11),(1,13)]),(34952597,[(0,0),(0,2),(0,7),(0,8),(0,11),(1,13),(1,306)]),(38447858,[(0,0),(0,2),(0,3),(0,7),(0,8),(0,11),(1,13),(1,306)]),(20971558,[(0,0),(0,1),(1,304)]),(31457338,eM_D27),(31457340,eM_D27),(34952597,eM_D28),(34952599,eM_D28),(34952597,[(0,0),(0,1),(0,6),(0,8),(0,10),(1,13),(1,304)]),(38447858,[(0,0),(0,1),(0,2),(0,6),(0,8),(0,10),(1,13),(1,304)]),(34952597,[(0,0),(0,1),(0,7),(0,8),(0,11),(1,13),(1,304)]),(38447858,[(0,0),(0,1),(0,3),(0,7),(0,8),(0,11),(1,13),(1,304)]),(20971558,[(0,2),(0,3),(1,173)]),(34952597,[(0,2),(0,3),(0,4),(0,6),(0,8),(1,28),(1,173)]),(38447858,[(0,0),(0,2),(0,3),(0,4),(0,6),(0,8),(1,28),(1,173)]),(34952597,[(0,2),(0,3),(0,5),(0,6),(0,9),(1,28),(1,173)]),(38447858,[(0,1),(0,2),(0,3),(0,5),(0,6),(0,9),(1,28),(1,173)]),(31457338,eM_D29),(31457340,eM_D29),(34952597,eM_D30),(34952599,eM_D30),(20971558,[(0,1),(0,3),(1,191)]),(34952597,[(0,1),(0,3),(0,4),(0,5),(0,8),(1,27),(1,191)]),(38447858,[(0,0),(0,1),(0,3),(0,4),(0,5),(0,8),(1,27),(1,191)]),(31457338,eM_D31),(31457340,eM_D31),(34952597,[(0,1),(0,3),(0,5),(0,6),(0,10),(1,27),(1,191)]),(38447858,[(0,1),(0,2),(0,3),(0,5),(0,6),(0,10),(1,27),(1,191)]),(34952597,eM_D32),(34952599,eM_D32),(20971558,[(0,0),(0,3),(1,209)]),(31457338,eM_D33),(31457340,eM_D33),(34952597,[(0,0),(0,3),(0,4),(0,5),(0,9),(1,26),(1,209)]),(38447858,[(0,0),(0,1),(0,3),(0,4),(0,5),(0,9),(1,26),(1,209)]),(34952597,[(0,0),(0,3),(0,4),(0,6),(0,10),(1,26),(1,209)]),(38447858,[(0,0),(0,2),(0,3),(0,4),(0,6),(0,10),(1,26),(1,209)]),(34952597,eM_D34),(34952599,eM_D34),(20971558,[(0,1),(0,2),(1,182)]),(34952597,[(0,1),(0,2),(0,4),(0,5),(0,8),(1,27),(1,182)]),(38447858,[(0,0),(0,1),(0,2),(0,4),(0,5),(0,8),(1,27),(1,182)]),(31457338,eM_D35),(31457340,eM_D35),(34952597,eM_D36),(34952599,eM_D36),(34952597,[(0,1),(0,2),(0,5),(0,7),(0,11),(1,27),(1,182)]),(38447858,[(0,1),(0,2),(0,3),(0,5),(0,7),(0,11),(1,27),(1,182)]),(20971558,[(0,0),(0,2),(1,200)]),(31457338,eM_D37),(31457340,eM_D37),(34952597,[(0,0),(0,2),(0,4),(0,5),(0,9),(1,26),(1,200)]),(38447858,[(0,0),(0,1),(0,2),(0,4),(0,5),(0,9),(1,26),(1,200)]),(34952597,eM_D38),(34952599,eM_D38),(34952597,[(0,0),(0,2),(0,4),(0,7),(0,11),(1,26),(1,200)]),(38447858,[(0,0),(0,2),(0,3),(0,4),(0,7),(0,11),(1,26),(1,200)]),(20971558,[(0,0),(0,1),(1,198)]),(31457338,eM_D39),(31457340,eM_D39),(34952597,eM_D40),(34952599,eM_D40),(34952597,[(0,0),(0,1),(0,4),(0,6),(0,10),(1,26),(1,198)]),(38447858,[(0,0),(0,1),(0,2),(0,4),(0,6),(0,10),(1,26),(1,198)]),(34952597,[(0,0),(0,1),(0,4),(0,7),(0,11),(1,26),(1,198)]),(38447858,[(0,0),(0,1),(0,3),(0,4),(0,7),(0,11),(1,26),(1,198)]),(6990519,[(0,5),(1,1)]),(10485778,[(0,0),(0,5),(1,1)]),(13981039,[(0,0),(0,4),(0,5),(1,1)]),(10485778,eM_D41),(10485780,eM_D41),(10485778,[(0,2),(0,5),(1,1)]),(13981039,[(0,2),(0,5),(0,6),(1,1)]),(6990519,[(0,9),(1,1)]),(10485778,[(0,0),(0,9),(1,1)]),(13981039,[(0,0),(0,8),(0,9),(1,1)]),(10485778,eM_D42),(10485780,eM_D42),(10485778,[(0,2),(0,9),(1,1)]),(13981039,[(0,2),(0,9),(0,10),(1,1)]),(20971558,[(0,5),(0,6),(1,396)]),(34952597,[(0,0),(0,5),(0,6),(0,8),(0,9),(1,1),(1,396)]),(38447858,[(0,0),(0,4),(0,5),(0,6),(0,8),(0,9),(1,1),(1,396)]),(31457338,eM_D43),(31457340,eM_D43),(34952597,eM_D44),(34952599,eM_D44),(10485778,[(0,3),(0,5),(1,1)]),(13981039,[(0,3),(0,5),(0,7),(1,1)]),(10485778,[(0,3),(0,9),(1,1)]),(13981039,[(0,3),(0,9),(0,11),(1,1)]),(34952597,[(0,3),(0,5),(0,6),(0,9),(0,11),(1,1),(1,396)]),(38447858,[(0,3),(0,5),(0,6),(0,7),(0,9),(0,11),(1,1),(1,396)]),(6990519,[(0,4),(1,0)]),(10485778,eM_D45),(10485780,eM_D45),(10485778,[(0,1),(0,4),(1,0)]),(13981039,[(0,1),(0,4),(0,5),(1,0)]),(10485778,[(0,2),(0,4),(1,0)]),(13981039,[(0,2),(0,4),(0,6),(1,0)]),(6990519,[(0,8),(1,0)]),(10485778,eM_D46),(10485780,eM_D46),(10485778,[(0,1),(0,8),(1,0)]),(13981039,[(0,1),(0,8),(0,9),(1,0)]),(10485778,[(0,2),(0,8),(1,0)]),(13981039,[(0,2),(0,8),(0,10),(1,0)]),(20971558,[(0,4),(0,6),(1,423)]),(31457338,eM_D47),(31457340,eM_D47),(34952597,[(0,1),(0,4),(0,6),(0,8),(0,9),(1,0),(1,423)]),(38447858,[(0,1),(0,4),(0,5),(0,6),(0,8),(0,9),(1,0),(1,423)]),(34952597,eM_D48),(34952599,eM_D48),(10485778,[(0,3),(0,4),(1,0)]),(13981039,[(0,3),(0,4),(0,7),(1,0)]),(10485778,[(0,3),(0,8),(1,0)]),(13981039,[(0,3),(0,8),(0,11),(1,0)]),(34952597,[(0,3),(0,4),(0,6),(0,8),(0,11),(1,0),(1,423)]),(38447858,[(0,3),(0,4),(0,6),(0,7),(0,8),(0,11),(1,0),(1,423)]),(20971558,[(0,4),(0,5),(1,421)]),(31457338,eM_D49),(31457340,eM_D49),(34952597,eM_D50),(34952599,eM_D50),(34952597,[(0,2),(0,4),(0,5),(0,8),(0,10),(1,0),(1,421)]),(38447858,[(0,2),(0,4),(0,5),(0,6),(0,8),(0,10),(1,0),(1,421)]),(34952597,[(0,3),(0,4),(0,5),(0,8),(0,11),(1,0),(1,421)]),(38447858,[(0,3),(0,4),(0,5),(0,7),(0,8),(0,11),(1,0),(1,421)]),(41943119,[]),(41943120,[(1,446)]),(41943120,[(1,446)]),(41943120,[(1,446)]),(45438379,[(0,0),(1,446)]),(45438379,[(0,1),(1,446)]),(45438379,[(0,2),(1,446)]),(48933640,[(0,0),(0,1),(1,446)]),(52428901,[(0,0),(0,1),(0,2),(1,446)]),(55924162,[(0,0),(0,1),(0,2),(0,3),(1,446)]),(45438379,[(0,4),(1,446)]),(45438379,[(0,5),(1,446)]),(45438379,[(0,6),(1,446)]),(48933640,[(0,4),(0,5),(1,446)]),(52428901,[(0,4),(0,5),(0,6),(1,446)]),(55924162,[(0,4),(0,5),(0,6),(0,7),(1,446)]),(45438379,[(0,8),(1,446)]),(45438379,[(0,9),(1,446)]),(45438379,[(0,10),(1,446)]),(48933640,[(0,8),(0,9),(1,446)]),(52428901,[(0,8),(0,9),(0,10),(1,446)]),(55924162,[(0,8),(0,9),(0,10),(0,11),(1,446)])]
abbrev Zo (q : Nat→Rat) (σ : Nat→ByteArray) : Prop := ∀ (a : Nat) nd,eM_N[a]? = some nd→q a=Zg σ q nd
variable {q : Nat→Rat} {σ : Nat→ByteArray}
theorem Lw : wfB 0 eM_N=true := by kernel_rfl
theorem eM_sz : saB eM_E 0 eM_N eM_E QQ=true := by kernel_rfl
theorem eM_lt : TX eM_N QP=true := by kernel_rfl
theorem eM_cn : Tb eM_N QT=true := by kernel_rfl
theorem EI : cst 0 0 1=(0 : Rat) := by decide +kernel
def Za : List AV := [(false,[(true,[.inr (2,0,0,0,0),.inr (2,1,0,0,0),.inr (2,2,0,0,0),.inr (2,3,0,0,0)])]),(false,[(true,[.inr (2,4,0,0,0),.inr (2,5,0,0,0),.inr (2,6,0,0,0),.inr (2,7,0,0,0)])]),(false,[(true,[.inr (2,8,0,0,0),.inr (2,9,0,0,0),.inr (2,10,0,0,0),.inr (2,11,0,0,0)])])]
theorem Jv {x y z m1 m2 m3 s t : Rat} (h1 : m1=x*x) (h2 : m2=y*y) (hs : s=m1+m2) (h3 : m3=z*z) (ht : t=s+m3) : t=0 ↔ ((x=0∧y=0)∧z=0) := by
 have a1 := Zr x
 have a2 := Zr y
 have a3 := Zr z
 subst_vars
 constructor
 ·intro h
  refine ⟨⟨a1.2.1 ?_,a2.2.1 ?_⟩,a3.2.1 ?_⟩ <;> grind
 ·rintro ⟨⟨h1,h2⟩,h3⟩
  rw [h1,h2,h3]; grind
theorem AR {a1 a2 a3 b1 b2 b3 c1 c2 c3 da db dc D k p1 p2 p3 : Rat} (eD : D=a1*(b2*c3 - b3*c2)+a2*(b3*c1 - b1*c3)+a3*(b1*c2 - b2*c1)) (hk : k*D=-1) (e1 : p1=((b2*c3 - b3*c2)*da+(c2*a3 - c3*a2)*db+(a2*b3 - a3*b2)*dc)*k) (e2 : p2=((b3*c1 - b1*c3)*da+(c3*a1 - c1*a3)*db+(a3*b1 - a1*b3)*dc)*k) (e3 : p3=((b1*c2 - b2*c1)*da+(c1*a2 - c2*a1)*db+(a1*b2 - a2*b1)*dc)*k) : a1*p1+a2*p2+a3*p3+da=0∧b1*p1+b2*p2+b3*p3+db=0∧c1*p1+c2*p2+c3*p3+dc=0 := by
 have f : ∀ t,(k*D)*t+t=0 := fun t => by rw [hk]; grind
 refine ⟨?_,?_,?_⟩
 ·have := f da; rw [eD] at this; rw [e1,e2,e3]; grind
 ·have := f db; rw [eD] at this; rw [e1,e2,e3]; grind
 ·have := f dc; rw [eD] at this; rw [e1,e2,e3]; grind
theorem Zj {z p m : Rat} (e : z*p=m) (h : z=0) : m=0 := by rw [← e,h,Rat.zero_mul]
theorem Qk {z p m : Rat} (e : z*p=m) (hp : p ≠ 0) (h : ¬ (z=0)) : ¬ (m=0) := by rw [← e]; exact Zp h hp
theorem Qt {z p m : Rat} (e : z*p=m) (hp : p ≠ 0) (h : m=0) : z=0 := (Rat.mul_eq_zero.1 (e.trans h)).resolve_right hp
theorem Qo {z p m : Rat} (e : z*p=m) (h : ¬ (m=0)) : ¬ (z=0) := fun k => h (by rw [← e,k,Rat.zero_mul])
theorem UA {p a b u v q f ma mb mu mv D : Rat} (hp : p ≠ 0) (hv : v ≠ 0) (ha : a*p=ma) (hb : b*p=mb) (hu : u*p=mu) (hw : v*p=mv) (hq : q=u / v) (hf : f=a - q*b) (hD : ma*mv - mu*mb=p*D) : f*mv=D := by
 have d : q*v=u := by rw [hq]; exact Rat.div_mul_cancel hv
 have k : p*(f*mv - D)=0 := by
  have : p*(f*mv - D)=p*f*mv - p*D := by grind
  rw [this,← hD,← ha,← hb,← hu,← hw,hf]
  have : p*(a - q*b)*(v*p) - (a*p*(v*p) - u*p*(b*p))=p*p*(b*(u - q*v)) := by grind
  rw [this,d]; grind
 have := (Rat.mul_eq_zero.1 k).resolve_left hp
 grind
theorem eM_pDDz {z0 z1 z2 z3 z4 z5 z6 z7 z8 z9 z10 z11 z12 z13 z14 z15 z16 z17 z18 z19 z20 z21 z22 z23 z24 z25 z26 z27 z28 z29 z30 z31 z32 z33 z34 z35 z36 z37 z38 z39 z40 z41 z42 z43 z44 z45 z46 z47 z48 z49 z50 z51 z52 z53 z54 z143 z144 z145 z146 z147 z148 z149 z150 z151 z152 z153 z154 z155 z156 z157 : Rat} : z4=z0*z0→z5=z1*z1→z6=z4+z5→z7=z2*z2→z8=z6+z7→z9=z0*fac [z0,z1,z2,z3]→z10=z1*fac [z0,z1,z2,z3]→z11=z2*fac [z0,z1,z2,z3]→z12=z3*fac [z0,z1,z2,z3]→z17=z13*z13→z18=z14*z14→z19=z17+z18→z20=z15*z15→z21=z19+z20→z22=z13*fac [z13,z14,z15,z16]→z23=z14*fac [z13,z14,z15,z16]→z24=z15*fac [z13,z14,z15,z16]→z25=z16*fac [z13,z14,z15,z16]→z30=z26*z26→z31=z27*z27→z32=z30+z31→z33=z28*z28→z34=z32+z33→z35=z26*fac [z26,z27,z28,z29]→z36=z27*fac [z26,z27,z28,z29]→z37=z28*fac [z26,z27,z28,z29]→z38=z29*fac [z26,z27,z28,z29]→z39=z23*z37→z40=z24*z36→z41=z39-z40→z42=z24*z35→z43=z22*z37→z44=z42-z43→z45=z22*z36→z46=z23*z35→z47=z45-z46→z48=z9*z41→z49=0→z50=z49+z48→z51=z10*z44→z52=z50+z51→z53=z11*z47→z54=z52+z53→z143=z14*z28→z144=z15*z27→z145=z143-z144→z146=z0*z145→z147=z13*z28→z148=z15*z26→z149=z147-z148→z150=z1*z149→z151=-z150→z152=z13*z27→z153=z14*z26→z154=z152-z153→z155=z2*z154→z156=z146+z151→z157=z156+z155→(¬ (z8=0))→(¬ (z21=0))→(¬ (z34=0))→(z54=0↔z157=0) := by
 intro e4 e5 e6 e7 e8 e9 e10 e11 e12 e17 e18 e19 e20 e21 e22 e23 e24 e25 e30 e31 e32 e33 e34 e35 e36 e37 e38 e39 e40 e41 e42 e43 e44 e45 e46 e47 e48 e49 e50 e51 e52 e53 e54 e143 e144 e145 e146 e147 e148 e149 e150 e151 e152 e153 e154 e155 e156 e157
 intro h0 h1 h2
 have n0 : ¬ ((z0=0∧z1=0)∧z2=0) := fun x => h0 ((Jv e4 e5 e6 e7 e8).2 x)
 have k0 : fac [z0,z1,z2,z3] ≠ 0 := fun x => n0 ⟨⟨Qp (by simp) x,Qp (by simp) x⟩,Qp (by simp) x⟩
 have n1 : ¬ ((z13=0∧z14=0)∧z15=0) := fun x => h1 ((Jv e17 e18 e19 e20 e21).2 x)
 have k1 : fac [z13,z14,z15,z16] ≠ 0 := fun x => n1 ⟨⟨Qp (by simp) x,Qp (by simp) x⟩,Qp (by simp) x⟩
 have n2 : ¬ ((z26=0∧z27=0)∧z28=0) := fun x => h2 ((Jv e30 e31 e32 e33 e34).2 x)
 have k2 : fac [z26,z27,z28,z29] ≠ 0 := fun x => n2 ⟨⟨Qp (by simp) x,Qp (by simp) x⟩,Qp (by simp) x⟩
 generalize fac [z0,z1,z2,z3]=f0 at *
 generalize fac [z13,z14,z15,z16]=f1 at *
 generalize fac [z26,z27,z28,z29]=f2 at *
 have q : z54=z157*(f0*f1*f2) := by clear h0 n0 k0 h1 n1 k1 h2 n2 k2; clear e4 e5 e6 e7 e8 e17 e18 e19 e20 e21 e30 e31 e32 e33 e34; subst_vars; grind
 rw [q]; exact ⟨fun h => (Rat.mul_eq_zero.1 h).resolve_right (Zp (Zp k0 k1) k2),fun h => by rw [h,Rat.zero_mul]⟩
theorem eM_pDD (H : Zo q σ) : (¬ (q 8=0))→(¬ (q 21=0))→(¬ (q 34=0))→(q 54=0↔q 157=0) := by
 have e4:q 4=q 0*q 0:=H 4 _ rfl;have e5:q 5=q 1*q 1:=H 5 _ rfl;have e6:q 6=q 4+q 5:=H 6 _ rfl;have e7:q 7=q 2*q 2:=H 7 _ rfl;have e8:q 8=q 6+q 7:=H 8 _ rfl;have e9:q 9=q 0*fac [q 0,q 1,q 2,q 3]:=H 9 _ rfl;have e10:q 10=q 1*fac [q 0,q 1,q 2,q 3]:=H 10 _ rfl;have e11:q 11=q 2*fac [q 0,q 1,q 2,q 3]:=H 11 _ rfl;have e12:q 12=q 3*fac [q 0,q 1,q 2,q 3]:=H 12 _ rfl;have e17:q 17=q 13*q 13:=H 17 _ rfl;have e18:q 18=q 14*q 14:=H 18 _ rfl;have e19:q 19=q 17+q 18:=H 19 _ rfl;have e20:q 20=q 15*q 15:=H 20 _ rfl;have e21:q 21=q 19+q 20:=H 21 _ rfl;have e22:q 22=q 13*fac [q 13,q 14,q 15,q 16]:=H 22 _ rfl;have e23:q 23=q 14*fac [q 13,q 14,q 15,q 16]:=H 23 _ rfl;have e24:q 24=q 15*fac [q 13,q 14,q 15,q 16]:=H 24 _ rfl;have e25:q 25=q 16*fac [q 13,q 14,q 15,q 16]:=H 25 _ rfl;have e30:q 30=q 26*q 26:=H 30 _ rfl;have e31:q 31=q 27*q 27:=H 31 _ rfl;have e32:q 32=q 30+q 31:=H 32 _ rfl;have e33:q 33=q 28*q 28:=H 33 _ rfl;have e34:q 34=q 32+q 33:=H 34 _ rfl;have e35:q 35=q 26*fac [q 26,q 27,q 28,q 29]:=H 35 _ rfl;have e36:q 36=q 27*fac [q 26,q 27,q 28,q 29]:=H 36 _ rfl;have e37:q 37=q 28*fac [q 26,q 27,q 28,q 29]:=H 37 _ rfl;have e38:q 38=q 29*fac [q 26,q 27,q 28,q 29]:=H 38 _ rfl;have e39:q 39=q 23*q 37:=H 39 _ rfl;have e40:q 40=q 24*q 36:=H 40 _ rfl;have e41:q 41=q 39-q 40:=H 41 _ rfl;have e42:q 42=q 24*q 35:=H 42 _ rfl;have e43:q 43=q 22*q 37:=H 43 _ rfl;have e44:q 44=q 42-q 43:=H 44 _ rfl;have e45:q 45=q 22*q 36:=H 45 _ rfl;have e46:q 46=q 23*q 35:=H 46 _ rfl;have e47:q 47=q 45-q 46:=H 47 _ rfl;have e48:q 48=q 9*q 41:=H 48 _ rfl;have e49:q 49=0:=(H 49 _ rfl).trans EI;have e50:q 50=q 49+q 48:=H 50 _ rfl;have e51:q 51=q 10*q 44:=H 51 _ rfl;have e52:q 52=q 50+q 51:=H 52 _ rfl;have e53:q 53=q 11*q 47:=H 53 _ rfl;have e54:q 54=q 52+q 53:=H 54 _ rfl;have e143:q 143=q 14*q 28:=H 143 _ rfl;have e144:q 144=q 15*q 27:=H 144 _ rfl;have e145:q 145=q 143-q 144:=H 145 _ rfl;have e146:q 146=q 0*q 145:=H 146 _ rfl;have e147:q 147=q 13*q 28:=H 147 _ rfl;have e148:q 148=q 15*q 26:=H 148 _ rfl;have e149:q 149=q 147-q 148:=H 149 _ rfl;have e150:q 150=q 1*q 149:=H 150 _ rfl;have e151:q 151=-q 150:=H 151 _ rfl;have e152:q 152=q 13*q 27:=H 152 _ rfl;have e153:q 153=q 14*q 26:=H 153 _ rfl;have e154:q 154=q 152-q 153:=H 154 _ rfl;have e155:q 155=q 2*q 154:=H 155 _ rfl;have e156:q 156=q 146+q 151:=H 156 _ rfl;have e157:q 157=q 156+q 155:=H 157 _ rfl
 exact eM_pDDz e4 e5 e6 e7 e8 e9 e10 e11 e12 e17 e18 e19 e20 e21 e22 e23 e24 e25 e30 e31 e32 e33 e34 e35 e36 e37 e38 e39 e40 e41 e42 e43 e44 e45 e46 e47 e48 e49 e50 e51 e52 e53 e54 e143 e144 e145 e146 e147 e148 e149 e150 e151 e152 e153 e154 e155 e156 e157
theorem eM_pDR (H : Zo q σ) : (q 157=q 0*(q 14*q 28-q 27*q 15)-q 1*(q 13*q 28-q 26*q 15)+q 2*(q 13*q 27-q 26*q 14)) :=
 pol H [] 7 157 (.A (.S (.M (.v 0) (.S (.M (.v 14) (.v 28)) (.M (.v 27) (.v 15)))) (.M (.v 1) (.S (.M (.v 13) (.v 28)) (.M (.v 26) (.v 15))))) (.M (.v 2) (.S (.M (.v 13) (.v 27)) (.M (.v 26) (.v 14))))) (by kernel_rfl)
theorem eM_pS0 (H : Zo q σ) : (q 8=0↔((q 0=0∧q 1=0)∧q 2=0)) := by
 have e4:q 4=q 0*q 0:=H 4 _ rfl;have e5:q 5=q 1*q 1:=H 5 _ rfl;have e6:q 6=q 4+q 5:=H 6 _ rfl;have e7:q 7=q 2*q 2:=H 7 _ rfl;have e8:q 8=q 6+q 7:=H 8 _ rfl
 clear H
 exact (Jv e4 e5 e6 e7 e8)
theorem eM_fS00 (H : Zo q σ) (j : ¬ (q 8=0)) : ¬ ((q 0=0∧q 1=0)∧q 2=0) := fun h => j ((eM_pS0 H).2 h)
theorem eM_pS1 (H : Zo q σ) : (q 21=0↔((q 13=0∧q 14=0)∧q 15=0)) := by
 have e17:q 17=q 13*q 13:=H 17 _ rfl;have e18:q 18=q 14*q 14:=H 18 _ rfl;have e19:q 19=q 17+q 18:=H 19 _ rfl;have e20:q 20=q 15*q 15:=H 20 _ rfl;have e21:q 21=q 19+q 20:=H 21 _ rfl
 clear H
 exact (Jv e17 e18 e19 e20 e21)
theorem eM_fS10 (H : Zo q σ) (j : ¬ (q 21=0)) : ¬ ((q 13=0∧q 14=0)∧q 15=0) := fun h => j ((eM_pS1 H).2 h)
theorem eM_pS2 (H : Zo q σ) : (q 34=0↔((q 26=0∧q 27=0)∧q 28=0)) := by
 have e30:q 30=q 26*q 26:=H 30 _ rfl;have e31:q 31=q 27*q 27:=H 31 _ rfl;have e32:q 32=q 30+q 31:=H 32 _ rfl;have e33:q 33=q 28*q 28:=H 33 _ rfl;have e34:q 34=q 32+q 33:=H 34 _ rfl
 clear H
 exact (Jv e30 e31 e32 e33 e34)
theorem eM_fS20 (H : Zo q σ) (j : ¬ (q 34=0)) : ¬ ((q 26=0∧q 27=0)∧q 28=0) := fun h => j ((eM_pS2 H).2 h)
theorem eM_fD1 (H : Zo q σ) (a0 : ¬ (q 8=0)) (a1 : ¬ (q 21=0)) (a2 : ¬ (q 34=0)) (j : q 54=0) : q 0*(q 14*q 28-q 27*q 15)-q 1*(q 13*q 28-q 26*q 15)+q 2*(q 13*q 27-q 26*q 14)=0 := (eM_pDR H).symm.trans ((eM_pDD H a0 a1 a2).1 j)
theorem eM_pOz {z0 z1 z2 z3 z4 z5 z6 z7 z8 z9 z10 z11 z12 z13 z14 z15 z16 z17 z18 z19 z20 z21 z22 z23 z24 z25 z26 z27 z28 z29 z30 z31 z32 z33 z34 z35 z36 z37 z38 z39 z40 z41 z42 z43 z44 z45 z46 z47 z49 z55 z56 z57 z58 z59 z60 z61 z62 z63 z64 z65 z66 z67 z68 z69 z70 z71 z72 z73 z74 z75 z76 z77 z78 z79 z80 z81 z82 z83 z84 z85 z86 z87 z88 z89 z90 z91 z92 z93 z94 z95 : Rat} : z4=z0*z0→z5=z1*z1→z6=z4+z5→z7=z2*z2→z8=z6+z7→z9=z0*fac [z0,z1,z2,z3]→z10=z1*fac [z0,z1,z2,z3]→z11=z2*fac [z0,z1,z2,z3]→z12=z3*fac [z0,z1,z2,z3]→z17=z13*z13→z18=z14*z14→z19=z17+z18→z20=z15*z15→z21=z19+z20→z22=z13*fac [z13,z14,z15,z16]→z23=z14*fac [z13,z14,z15,z16]→z24=z15*fac [z13,z14,z15,z16]→z25=z16*fac [z13,z14,z15,z16]→z30=z26*z26→z31=z27*z27→z32=z30+z31→z33=z28*z28→z34=z32+z33→z35=z26*fac [z26,z27,z28,z29]→z36=z27*fac [z26,z27,z28,z29]→z37=z28*fac [z26,z27,z28,z29]→z38=z29*fac [z26,z27,z28,z29]→z39=z23*z37→z40=z24*z36→z41=z39-z40→z42=z24*z35→z43=z22*z37→z44=z42-z43→z45=z22*z36→z46=z23*z35→z47=z45-z46→z49=0→z55=z36*z11→z56=z37*z10→z57=z55-z56→z58=z37*z9→z59=z35*z11→z60=z58-z59→z61=z35*z10→z62=z36*z9→z63=z61-z62→z64=z10*z24→z65=z11*z23→z66=z64-z65→z67=z11*z22→z68=z9*z24→z69=z67-z68→z70=z9*z23→z71=z10*z22→z72=z70-z71→z73=z41*z12→z74=z49+z73→z75=z57*z25→z76=z74+z75→z77=z66*z38→z78=z76+z77→z79=z44*z12→z80=z49+z79→z81=z60*z25→z82=z80+z81→z83=z69*z38→z84=z82+z83→z85=z47*z12→z86=z49+z85→z87=z63*z25→z88=z86+z87→z89=z72*z38→z90=z88+z89→z91=z78*z78→z92=z84*z84→z93=z91+z92→z94=z90*z90→z95=z93+z94→(¬ (z8=0))→(¬ (z21=0))→(¬ (z34=0))→(z95=0↔((z1*(z15*z29-z28*z16)-z2*(z14*z29-z27*z16)+z3*(z14*z28-z27*z15)=0∧z2*(z13*z29-z26*z16)-z0*(z15*z29-z28*z16)+z3*(z15*z26-z28*z13)=0)∧z0*(z14*z29-z27*z16)-z1*(z13*z29-z26*z16)+z3*(z13*z27-z26*z14)=0)) := by
 intro e4 e5 e6 e7 e8 e9 e10 e11 e12 e17 e18 e19 e20 e21 e22 e23 e24 e25 e30 e31 e32 e33 e34 e35 e36 e37 e38 e39 e40 e41 e42 e43 e44 e45 e46 e47 e49 e55 e56 e57 e58 e59 e60 e61 e62 e63 e64 e65 e66 e67 e68 e69 e70 e71 e72 e73 e74 e75 e76 e77 e78 e79 e80 e81 e82 e83 e84 e85 e86 e87 e88 e89 e90 e91 e92 e93 e94 e95
 intro h0 h1 h2
 have n0 : ¬ ((z0=0∧z1=0)∧z2=0) := fun x => h0 ((Jv e4 e5 e6 e7 e8).2 x)
 have k0 : fac [z0,z1,z2,z3] ≠ 0 := fun x => n0 ⟨⟨Qp (by simp) x,Qp (by simp) x⟩,Qp (by simp) x⟩
 have n1 : ¬ ((z13=0∧z14=0)∧z15=0) := fun x => h1 ((Jv e17 e18 e19 e20 e21).2 x)
 have k1 : fac [z13,z14,z15,z16] ≠ 0 := fun x => n1 ⟨⟨Qp (by simp) x,Qp (by simp) x⟩,Qp (by simp) x⟩
 have n2 : ¬ ((z26=0∧z27=0)∧z28=0) := fun x => h2 ((Jv e30 e31 e32 e33 e34).2 x)
 have k2 : fac [z26,z27,z28,z29] ≠ 0 := fun x => n2 ⟨⟨Qp (by simp) x,Qp (by simp) x⟩,Qp (by simp) x⟩
 rw [(Jv e91 e92 e93 e94 e95)]
 generalize fac [z0,z1,z2,z3]=f0 at *
 generalize fac [z13,z14,z15,z16]=f1 at *
 generalize fac [z26,z27,z28,z29]=f2 at *
 have q0 : z78=(z1*(z15*z29 - z28*z16) - z2*(z14*z29 - z27*z16)+z3*(z14*z28 - z27*z15))*((f0*f1)*f2) := by clear h0 n0 k0 h1 n1 k1 h2 n2 k2 ; clear e4 e5 e6 e7 e8 e17 e18 e19 e20 e21 e30 e31 e32 e33 e34 e91 e92 e93 e94 e95; subst_vars; grind
 have q1 : z84=(z2*(z13*z29 - z26*z16) - z0*(z15*z29 - z28*z16)+z3*(z15*z26 - z28*z13))*((f0*f1)*f2) := by clear h0 n0 k0 h1 n1 k1 h2 n2 k2 q0; clear e4 e5 e6 e7 e8 e17 e18 e19 e20 e21 e30 e31 e32 e33 e34 e91 e92 e93 e94 e95; subst_vars; grind
 have q2 : z90=(z0*(z14*z29 - z27*z16) - z1*(z13*z29 - z26*z16)+z3*(z13*z27 - z26*z14))*((f0*f1)*f2) := by clear h0 n0 k0 h1 n1 k1 h2 n2 k2 q0 q1; clear e4 e5 e6 e7 e8 e17 e18 e19 e20 e21 e30 e31 e32 e33 e34 e91 e92 e93 e94 e95; subst_vars; grind
 rw [q0,q1,q2]
 exact ⟨fun ⟨⟨a,b⟩,c⟩ => ⟨⟨(Rat.mul_eq_zero.1 a).resolve_right (Zp (Zp k0 k1) k2),(Rat.mul_eq_zero.1 b).resolve_right (Zp (Zp k0 k1) k2)⟩,(Rat.mul_eq_zero.1 c).resolve_right (Zp (Zp k0 k1) k2)⟩,fun ⟨⟨a,b⟩,c⟩ => ⟨⟨by rw [a,Rat.zero_mul],by rw [b,Rat.zero_mul]⟩,by rw [c,Rat.zero_mul]⟩⟩
theorem eM_pO (H : Zo q σ) : (¬ (q 8=0))→(¬ (q 21=0))→(¬ (q 34=0))→(q 95=0↔((q 1*(q 15*q 29-q 28*q 16)-q 2*(q 14*q 29-q 27*q 16)+q 3*(q 14*q 28-q 27*q 15)=0∧q 2*(q 13*q 29-q 26*q 16)-q 0*(q 15*q 29-q 28*q 16)+q 3*(q 15*q 26-q 28*q 13)=0)∧q 0*(q 14*q 29-q 27*q 16)-q 1*(q 13*q 29-q 26*q 16)+q 3*(q 13*q 27-q 26*q 14)=0)) := by
 have e4:q 4=q 0*q 0:=H 4 _ rfl;have e5:q 5=q 1*q 1:=H 5 _ rfl;have e6:q 6=q 4+q 5:=H 6 _ rfl;have e7:q 7=q 2*q 2:=H 7 _ rfl;have e8:q 8=q 6+q 7:=H 8 _ rfl;have e9:q 9=q 0*fac [q 0,q 1,q 2,q 3]:=H 9 _ rfl;have e10:q 10=q 1*fac [q 0,q 1,q 2,q 3]:=H 10 _ rfl;have e11:q 11=q 2*fac [q 0,q 1,q 2,q 3]:=H 11 _ rfl;have e12:q 12=q 3*fac [q 0,q 1,q 2,q 3]:=H 12 _ rfl;have e17:q 17=q 13*q 13:=H 17 _ rfl;have e18:q 18=q 14*q 14:=H 18 _ rfl;have e19:q 19=q 17+q 18:=H 19 _ rfl;have e20:q 20=q 15*q 15:=H 20 _ rfl;have e21:q 21=q 19+q 20:=H 21 _ rfl;have e22:q 22=q 13*fac [q 13,q 14,q 15,q 16]:=H 22 _ rfl;have e23:q 23=q 14*fac [q 13,q 14,q 15,q 16]:=H 23 _ rfl;have e24:q 24=q 15*fac [q 13,q 14,q 15,q 16]:=H 24 _ rfl;have e25:q 25=q 16*fac [q 13,q 14,q 15,q 16]:=H 25 _ rfl;have e30:q 30=q 26*q 26:=H 30 _ rfl;have e31:q 31=q 27*q 27:=H 31 _ rfl;have e32:q 32=q 30+q 31:=H 32 _ rfl;have e33:q 33=q 28*q 28:=H 33 _ rfl;have e34:q 34=q 32+q 33:=H 34 _ rfl;have e35:q 35=q 26*fac [q 26,q 27,q 28,q 29]:=H 35 _ rfl;have e36:q 36=q 27*fac [q 26,q 27,q 28,q 29]:=H 36 _ rfl;have e37:q 37=q 28*fac [q 26,q 27,q 28,q 29]:=H 37 _ rfl;have e38:q 38=q 29*fac [q 26,q 27,q 28,q 29]:=H 38 _ rfl;have e39:q 39=q 23*q 37:=H 39 _ rfl;have e40:q 40=q 24*q 36:=H 40 _ rfl;have e41:q 41=q 39-q 40:=H 41 _ rfl;have e42:q 42=q 24*q 35:=H 42 _ rfl;have e43:q 43=q 22*q 37:=H 43 _ rfl;have e44:q 44=q 42-q 43:=H 44 _ rfl;have e45:q 45=q 22*q 36:=H 45 _ rfl;have e46:q 46=q 23*q 35:=H 46 _ rfl;have e47:q 47=q 45-q 46:=H 47 _ rfl;have e49:q 49=0:=(H 49 _ rfl).trans EI;have e55:q 55=q 36*q 11:=H 55 _ rfl;have e56:q 56=q 37*q 10:=H 56 _ rfl;have e57:q 57=q 55-q 56:=H 57 _ rfl;have e58:q 58=q 37*q 9:=H 58 _ rfl;have e59:q 59=q 35*q 11:=H 59 _ rfl;have e60:q 60=q 58-q 59:=H 60 _ rfl;have e61:q 61=q 35*q 10:=H 61 _ rfl;have e62:q 62=q 36*q 9:=H 62 _ rfl;have e63:q 63=q 61-q 62:=H 63 _ rfl;have e64:q 64=q 10*q 24:=H 64 _ rfl;have e65:q 65=q 11*q 23:=H 65 _ rfl;have e66:q 66=q 64-q 65:=H 66 _ rfl;have e67:q 67=q 11*q 22:=H 67 _ rfl;have e68:q 68=q 9*q 24:=H 68 _ rfl;have e69:q 69=q 67-q 68:=H 69 _ rfl;have e70:q 70=q 9*q 23:=H 70 _ rfl;have e71:q 71=q 10*q 22:=H 71 _ rfl;have e72:q 72=q 70-q 71:=H 72 _ rfl;have e73:q 73=q 41*q 12:=H 73 _ rfl;have e74:q 74=q 49+q 73:=H 74 _ rfl;have e75:q 75=q 57*q 25:=H 75 _ rfl;have e76:q 76=q 74+q 75:=H 76 _ rfl;have e77:q 77=q 66*q 38:=H 77 _ rfl;have e78:q 78=q 76+q 77:=H 78 _ rfl;have e79:q 79=q 44*q 12:=H 79 _ rfl;have e80:q 80=q 49+q 79:=H 80 _ rfl;have e81:q 81=q 60*q 25:=H 81 _ rfl;have e82:q 82=q 80+q 81:=H 82 _ rfl;have e83:q 83=q 69*q 38:=H 83 _ rfl;have e84:q 84=q 82+q 83:=H 84 _ rfl;have e85:q 85=q 47*q 12:=H 85 _ rfl;have e86:q 86=q 49+q 85:=H 86 _ rfl;have e87:q 87=q 63*q 25:=H 87 _ rfl;have e88:q 88=q 86+q 87:=H 88 _ rfl;have e89:q 89=q 72*q 38:=H 89 _ rfl;have e90:q 90=q 88+q 89:=H 90 _ rfl;have e91:q 91=q 78*q 78:=H 91 _ rfl;have e92:q 92=q 84*q 84:=H 92 _ rfl;have e93:q 93=q 91+q 92:=H 93 _ rfl;have e94:q 94=q 90*q 90:=H 94 _ rfl;have e95:q 95=q 93+q 94:=H 95 _ rfl
 exact eM_pOz e4 e5 e6 e7 e8 e9 e10 e11 e12 e17 e18 e19 e20 e21 e22 e23 e24 e25 e30 e31 e32 e33 e34 e35 e36 e37 e38 e39 e40 e41 e42 e43 e44 e45 e46 e47 e49 e55 e56 e57 e58 e59 e60 e61 e62 e63 e64 e65 e66 e67 e68 e69 e70 e71 e72 e73 e74 e75 e76 e77 e78 e79 e80 e81 e82 e83 e84 e85 e86 e87 e88 e89 e90 e91 e92 e93 e94 e95
theorem eM_fO1 (H : Zo q σ) (a0 : ¬ (q 8=0)) (a1 : ¬ (q 21=0)) (a2 : ¬ (q 34=0)) (j : q 95=0) : ((q 1*(q 15*q 29-q 28*q 16)-q 2*(q 14*q 29-q 27*q 16)+q 3*(q 14*q 28-q 27*q 15)=0∧q 2*(q 13*q 29-q 26*q 16)-q 0*(q 15*q 29-q 28*q 16)+q 3*(q 15*q 26-q 28*q 13)=0)∧q 0*(q 14*q 29-q 27*q 16)-q 1*(q 13*q 29-q 26*q 16)+q 3*(q 13*q 27-q 26*q 14)=0) := (eM_pO H a0 a1 a2).1 j
theorem eM_pABz {z0 z1 z2 z3 z4 z5 z6 z7 z8 z9 z10 z11 z12 z13 z14 z15 z16 z17 z18 z19 z20 z21 z22 z23 z24 z25 z64 z65 z66 z67 z68 z69 z70 z71 z72 z96 z97 z98 z99 z100 : Rat} : z4=z0*z0→z5=z1*z1→z6=z4+z5→z7=z2*z2→z8=z6+z7→z9=z0*fac [z0,z1,z2,z3]→z10=z1*fac [z0,z1,z2,z3]→z11=z2*fac [z0,z1,z2,z3]→z12=z3*fac [z0,z1,z2,z3]→z17=z13*z13→z18=z14*z14→z19=z17+z18→z20=z15*z15→z21=z19+z20→z22=z13*fac [z13,z14,z15,z16]→z23=z14*fac [z13,z14,z15,z16]→z24=z15*fac [z13,z14,z15,z16]→z25=z16*fac [z13,z14,z15,z16]→z64=z10*z24→z65=z11*z23→z66=z64-z65→z67=z11*z22→z68=z9*z24→z69=z67-z68→z70=z9*z23→z71=z10*z22→z72=z70-z71→z96=z66*z66→z97=z69*z69→z98=z96+z97→z99=z72*z72→z100=z98+z99→(¬ (z8=0))→(¬ (z21=0))→(z100=0↔((z1*z15-z14*z2=0∧z2*z13-z15*z0=0)∧z0*z14-z13*z1=0)) := by
 intro e4 e5 e6 e7 e8 e9 e10 e11 e12 e17 e18 e19 e20 e21 e22 e23 e24 e25 e64 e65 e66 e67 e68 e69 e70 e71 e72 e96 e97 e98 e99 e100
 intro h0 h1
 have n0 : ¬ ((z0=0∧z1=0)∧z2=0) := fun x => h0 ((Jv e4 e5 e6 e7 e8).2 x)
 have k0 : fac [z0,z1,z2,z3] ≠ 0 := fun x => n0 ⟨⟨Qp (by simp) x,Qp (by simp) x⟩,Qp (by simp) x⟩
 have n1 : ¬ ((z13=0∧z14=0)∧z15=0) := fun x => h1 ((Jv e17 e18 e19 e20 e21).2 x)
 have k1 : fac [z13,z14,z15,z16] ≠ 0 := fun x => n1 ⟨⟨Qp (by simp) x,Qp (by simp) x⟩,Qp (by simp) x⟩
 rw [(Jv e96 e97 e98 e99 e100)]
 generalize fac [z0,z1,z2,z3]=f0 at *
 generalize fac [z13,z14,z15,z16]=f1 at *
 have q0 : z66=(z1*z15 - z14*z2)*(f0*f1) := by clear h0 n0 k0 h1 n1 k1 ; clear e4 e5 e6 e7 e8 e17 e18 e19 e20 e21 e96 e97 e98 e99 e100; subst_vars; grind
 have q1 : z69=(z2*z13 - z15*z0)*(f0*f1) := by clear h0 n0 k0 h1 n1 k1 q0; clear e4 e5 e6 e7 e8 e17 e18 e19 e20 e21 e96 e97 e98 e99 e100; subst_vars; grind
 have q2 : z72=(z0*z14 - z13*z1)*(f0*f1) := by clear h0 n0 k0 h1 n1 k1 q0 q1; clear e4 e5 e6 e7 e8 e17 e18 e19 e20 e21 e96 e97 e98 e99 e100; subst_vars; grind
 rw [q0,q1,q2]
 exact ⟨fun ⟨⟨a,b⟩,c⟩ => ⟨⟨(Rat.mul_eq_zero.1 a).resolve_right (Zp k0 k1),(Rat.mul_eq_zero.1 b).resolve_right (Zp k0 k1)⟩,(Rat.mul_eq_zero.1 c).resolve_right (Zp k0 k1)⟩,fun ⟨⟨a,b⟩,c⟩ => ⟨⟨by rw [a,Rat.zero_mul],by rw [b,Rat.zero_mul]⟩,by rw [c,Rat.zero_mul]⟩⟩
theorem eM_pAB (H : Zo q σ) : (¬ (q 8=0))→(¬ (q 21=0))→(q 100=0↔((q 1*q 15-q 14*q 2=0∧q 2*q 13-q 15*q 0=0)∧q 0*q 14-q 13*q 1=0)) := by
 have e4:q 4=q 0*q 0:=H 4 _ rfl;have e5:q 5=q 1*q 1:=H 5 _ rfl;have e6:q 6=q 4+q 5:=H 6 _ rfl;have e7:q 7=q 2*q 2:=H 7 _ rfl;have e8:q 8=q 6+q 7:=H 8 _ rfl;have e9:q 9=q 0*fac [q 0,q 1,q 2,q 3]:=H 9 _ rfl;have e10:q 10=q 1*fac [q 0,q 1,q 2,q 3]:=H 10 _ rfl;have e11:q 11=q 2*fac [q 0,q 1,q 2,q 3]:=H 11 _ rfl;have e12:q 12=q 3*fac [q 0,q 1,q 2,q 3]:=H 12 _ rfl;have e17:q 17=q 13*q 13:=H 17 _ rfl;have e18:q 18=q 14*q 14:=H 18 _ rfl;have e19:q 19=q 17+q 18:=H 19 _ rfl;have e20:q 20=q 15*q 15:=H 20 _ rfl;have e21:q 21=q 19+q 20:=H 21 _ rfl;have e22:q 22=q 13*fac [q 13,q 14,q 15,q 16]:=H 22 _ rfl;have e23:q 23=q 14*fac [q 13,q 14,q 15,q 16]:=H 23 _ rfl;have e24:q 24=q 15*fac [q 13,q 14,q 15,q 16]:=H 24 _ rfl;have e25:q 25=q 16*fac [q 13,q 14,q 15,q 16]:=H 25 _ rfl;have e64:q 64=q 10*q 24:=H 64 _ rfl;have e65:q 65=q 11*q 23:=H 65 _ rfl;have e66:q 66=q 64-q 65:=H 66 _ rfl;have e67:q 67=q 11*q 22:=H 67 _ rfl;have e68:q 68=q 9*q 24:=H 68 _ rfl;have e69:q 69=q 67-q 68:=H 69 _ rfl;have e70:q 70=q 9*q 23:=H 70 _ rfl;have e71:q 71=q 10*q 22:=H 71 _ rfl;have e72:q 72=q 70-q 71:=H 72 _ rfl;have e96:q 96=q 66*q 66:=H 96 _ rfl;have e97:q 97=q 69*q 69:=H 97 _ rfl;have e98:q 98=q 96+q 97:=H 98 _ rfl;have e99:q 99=q 72*q 72:=H 99 _ rfl;have e100:q 100=q 98+q 99:=H 100 _ rfl
 exact eM_pABz e4 e5 e6 e7 e8 e9 e10 e11 e12 e17 e18 e19 e20 e21 e22 e23 e24 e25 e64 e65 e66 e67 e68 e69 e70 e71 e72 e96 e97 e98 e99 e100
theorem eM_fAB1 (H : Zo q σ) (a0 : ¬ (q 8=0)) (a1 : ¬ (q 21=0)) (j : q 100=0) : ((q 1*q 15-q 14*q 2=0∧q 2*q 13-q 15*q 0=0)∧q 0*q 14-q 13*q 1=0) := (eM_pAB H a0 a1).1 j
theorem eM_pBDz {z0 z1 z2 z3 z4 z5 z6 z7 z8 z9 z10 z11 z12 z13 z14 z15 z16 z17 z18 z19 z20 z21 z22 z23 z24 z25 z101 z102 z103 z104 z105 z106 z107 z108 z109 z110 z111 z112 z113 z114 : Rat} : z4=z0*z0→z5=z1*z1→z6=z4+z5→z7=z2*z2→z8=z6+z7→z9=z0*fac [z0,z1,z2,z3]→z10=z1*fac [z0,z1,z2,z3]→z11=z2*fac [z0,z1,z2,z3]→z12=z3*fac [z0,z1,z2,z3]→z17=z13*z13→z18=z14*z14→z19=z17+z18→z20=z15*z15→z21=z19+z20→z22=z13*fac [z13,z14,z15,z16]→z23=z14*fac [z13,z14,z15,z16]→z24=z15*fac [z13,z14,z15,z16]→z25=z16*fac [z13,z14,z15,z16]→z101=z9*z25→z102=z10*z25→z103=z11*z25→z104=z22*z12→z105=z23*z12→z106=z24*z12→z107=z101-z104→z108=z102-z105→z109=z103-z106→z110=z107*z107→z111=z108*z108→z112=z110+z111→z113=z109*z109→z114=z112+z113→(¬ (z8=0))→(¬ (z21=0))→(z114=0↔((z0*z16-z13*z3=0∧z1*z16-z14*z3=0)∧z2*z16-z15*z3=0)) := by
 intro e4 e5 e6 e7 e8 e9 e10 e11 e12 e17 e18 e19 e20 e21 e22 e23 e24 e25 e101 e102 e103 e104 e105 e106 e107 e108 e109 e110 e111 e112 e113 e114
 intro h0 h1
 have n0 : ¬ ((z0=0∧z1=0)∧z2=0) := fun x => h0 ((Jv e4 e5 e6 e7 e8).2 x)
 have k0 : fac [z0,z1,z2,z3] ≠ 0 := fun x => n0 ⟨⟨Qp (by simp) x,Qp (by simp) x⟩,Qp (by simp) x⟩
 have n1 : ¬ ((z13=0∧z14=0)∧z15=0) := fun x => h1 ((Jv e17 e18 e19 e20 e21).2 x)
 have k1 : fac [z13,z14,z15,z16] ≠ 0 := fun x => n1 ⟨⟨Qp (by simp) x,Qp (by simp) x⟩,Qp (by simp) x⟩
 rw [(Jv e110 e111 e112 e113 e114)]
 generalize fac [z0,z1,z2,z3]=f0 at *
 generalize fac [z13,z14,z15,z16]=f1 at *
 have q0 : z107=(z0*z16 - z13*z3)*(f0*f1) := by clear h0 n0 k0 h1 n1 k1 ; clear e4 e5 e6 e7 e8 e17 e18 e19 e20 e21 e110 e111 e112 e113 e114; subst_vars; grind
 have q1 : z108=(z1*z16 - z14*z3)*(f0*f1) := by clear h0 n0 k0 h1 n1 k1 q0; clear e4 e5 e6 e7 e8 e17 e18 e19 e20 e21 e110 e111 e112 e113 e114; subst_vars; grind
 have q2 : z109=(z2*z16 - z15*z3)*(f0*f1) := by clear h0 n0 k0 h1 n1 k1 q0 q1; clear e4 e5 e6 e7 e8 e17 e18 e19 e20 e21 e110 e111 e112 e113 e114; subst_vars; grind
 rw [q0,q1,q2]
 exact ⟨fun ⟨⟨a,b⟩,c⟩ => ⟨⟨(Rat.mul_eq_zero.1 a).resolve_right (Zp k0 k1),(Rat.mul_eq_zero.1 b).resolve_right (Zp k0 k1)⟩,(Rat.mul_eq_zero.1 c).resolve_right (Zp k0 k1)⟩,fun ⟨⟨a,b⟩,c⟩ => ⟨⟨by rw [a,Rat.zero_mul],by rw [b,Rat.zero_mul]⟩,by rw [c,Rat.zero_mul]⟩⟩
theorem eM_pBD (H : Zo q σ) : (¬ (q 8=0))→(¬ (q 21=0))→(q 114=0↔((q 0*q 16-q 13*q 3=0∧q 1*q 16-q 14*q 3=0)∧q 2*q 16-q 15*q 3=0)) := by
 have e4:q 4=q 0*q 0:=H 4 _ rfl;have e5:q 5=q 1*q 1:=H 5 _ rfl;have e6:q 6=q 4+q 5:=H 6 _ rfl;have e7:q 7=q 2*q 2:=H 7 _ rfl;have e8:q 8=q 6+q 7:=H 8 _ rfl;have e9:q 9=q 0*fac [q 0,q 1,q 2,q 3]:=H 9 _ rfl;have e10:q 10=q 1*fac [q 0,q 1,q 2,q 3]:=H 10 _ rfl;have e11:q 11=q 2*fac [q 0,q 1,q 2,q 3]:=H 11 _ rfl;have e12:q 12=q 3*fac [q 0,q 1,q 2,q 3]:=H 12 _ rfl;have e17:q 17=q 13*q 13:=H 17 _ rfl;have e18:q 18=q 14*q 14:=H 18 _ rfl;have e19:q 19=q 17+q 18:=H 19 _ rfl;have e20:q 20=q 15*q 15:=H 20 _ rfl;have e21:q 21=q 19+q 20:=H 21 _ rfl;have e22:q 22=q 13*fac [q 13,q 14,q 15,q 16]:=H 22 _ rfl;have e23:q 23=q 14*fac [q 13,q 14,q 15,q 16]:=H 23 _ rfl;have e24:q 24=q 15*fac [q 13,q 14,q 15,q 16]:=H 24 _ rfl;have e25:q 25=q 16*fac [q 13,q 14,q 15,q 16]:=H 25 _ rfl;have e101:q 101=q 9*q 25:=H 101 _ rfl;have e102:q 102=q 10*q 25:=H 102 _ rfl;have e103:q 103=q 11*q 25:=H 103 _ rfl;have e104:q 104=q 22*q 12:=H 104 _ rfl;have e105:q 105=q 23*q 12:=H 105 _ rfl;have e106:q 106=q 24*q 12:=H 106 _ rfl;have e107:q 107=q 101-q 104:=H 107 _ rfl;have e108:q 108=q 102-q 105:=H 108 _ rfl;have e109:q 109=q 103-q 106:=H 109 _ rfl;have e110:q 110=q 107*q 107:=H 110 _ rfl;have e111:q 111=q 108*q 108:=H 111 _ rfl;have e112:q 112=q 110+q 111:=H 112 _ rfl;have e113:q 113=q 109*q 109:=H 113 _ rfl;have e114:q 114=q 112+q 113:=H 114 _ rfl
 exact eM_pBDz e4 e5 e6 e7 e8 e9 e10 e11 e12 e17 e18 e19 e20 e21 e22 e23 e24 e25 e101 e102 e103 e104 e105 e106 e107 e108 e109 e110 e111 e112 e113 e114
theorem eM_fBD1 (H : Zo q σ) (a0 : ¬ (q 8=0)) (a1 : ¬ (q 21=0)) (j : q 114=0) : ((q 0*q 16-q 13*q 3=0∧q 1*q 16-q 14*q 3=0)∧q 2*q 16-q 15*q 3=0) := (eM_pBD H a0 a1).1 j
theorem eM_pACz {z0 z1 z2 z3 z4 z5 z6 z7 z8 z9 z10 z11 z12 z26 z27 z28 z29 z30 z31 z32 z33 z34 z35 z36 z37 z38 z115 z116 z117 z118 z119 z120 z121 z122 z123 z124 z125 z126 z127 z128 : Rat} : z4=z0*z0→z5=z1*z1→z6=z4+z5→z7=z2*z2→z8=z6+z7→z9=z0*fac [z0,z1,z2,z3]→z10=z1*fac [z0,z1,z2,z3]→z11=z2*fac [z0,z1,z2,z3]→z12=z3*fac [z0,z1,z2,z3]→z30=z26*z26→z31=z27*z27→z32=z30+z31→z33=z28*z28→z34=z32+z33→z35=z26*fac [z26,z27,z28,z29]→z36=z27*fac [z26,z27,z28,z29]→z37=z28*fac [z26,z27,z28,z29]→z38=z29*fac [z26,z27,z28,z29]→z115=z10*z37→z116=z11*z36→z117=z115-z116→z118=z11*z35→z119=z9*z37→z120=z118-z119→z121=z9*z36→z122=z10*z35→z123=z121-z122→z124=z117*z117→z125=z120*z120→z126=z124+z125→z127=z123*z123→z128=z126+z127→(¬ (z8=0))→(¬ (z34=0))→(z128=0↔((z1*z28-z27*z2=0∧z2*z26-z28*z0=0)∧z0*z27-z26*z1=0)) := by
 intro e4 e5 e6 e7 e8 e9 e10 e11 e12 e30 e31 e32 e33 e34 e35 e36 e37 e38 e115 e116 e117 e118 e119 e120 e121 e122 e123 e124 e125 e126 e127 e128
 intro h0 h2
 have n0 : ¬ ((z0=0∧z1=0)∧z2=0) := fun x => h0 ((Jv e4 e5 e6 e7 e8).2 x)
 have k0 : fac [z0,z1,z2,z3] ≠ 0 := fun x => n0 ⟨⟨Qp (by simp) x,Qp (by simp) x⟩,Qp (by simp) x⟩
 have n2 : ¬ ((z26=0∧z27=0)∧z28=0) := fun x => h2 ((Jv e30 e31 e32 e33 e34).2 x)
 have k2 : fac [z26,z27,z28,z29] ≠ 0 := fun x => n2 ⟨⟨Qp (by simp) x,Qp (by simp) x⟩,Qp (by simp) x⟩
 rw [(Jv e124 e125 e126 e127 e128)]
 generalize fac [z0,z1,z2,z3]=f0 at *
 generalize fac [z26,z27,z28,z29]=f2 at *
 have q0 : z117=(z1*z28 - z27*z2)*(f0*f2) := by clear h0 n0 k0 h2 n2 k2 ; clear e4 e5 e6 e7 e8 e30 e31 e32 e33 e34 e124 e125 e126 e127 e128; subst_vars; grind
 have q1 : z120=(z2*z26 - z28*z0)*(f0*f2) := by clear h0 n0 k0 h2 n2 k2 q0; clear e4 e5 e6 e7 e8 e30 e31 e32 e33 e34 e124 e125 e126 e127 e128; subst_vars; grind
 have q2 : z123=(z0*z27 - z26*z1)*(f0*f2) := by clear h0 n0 k0 h2 n2 k2 q0 q1; clear e4 e5 e6 e7 e8 e30 e31 e32 e33 e34 e124 e125 e126 e127 e128; subst_vars; grind
 rw [q0,q1,q2]
 exact ⟨fun ⟨⟨a,b⟩,c⟩ => ⟨⟨(Rat.mul_eq_zero.1 a).resolve_right (Zp k0 k2),(Rat.mul_eq_zero.1 b).resolve_right (Zp k0 k2)⟩,(Rat.mul_eq_zero.1 c).resolve_right (Zp k0 k2)⟩,fun ⟨⟨a,b⟩,c⟩ => ⟨⟨by rw [a,Rat.zero_mul],by rw [b,Rat.zero_mul]⟩,by rw [c,Rat.zero_mul]⟩⟩
theorem eM_pAC (H : Zo q σ) : (¬ (q 8=0))→(¬ (q 34=0))→(q 128=0↔((q 1*q 28-q 27*q 2=0∧q 2*q 26-q 28*q 0=0)∧q 0*q 27-q 26*q 1=0)) := by
 have e4:q 4=q 0*q 0:=H 4 _ rfl;have e5:q 5=q 1*q 1:=H 5 _ rfl;have e6:q 6=q 4+q 5:=H 6 _ rfl;have e7:q 7=q 2*q 2:=H 7 _ rfl;have e8:q 8=q 6+q 7:=H 8 _ rfl;have e9:q 9=q 0*fac [q 0,q 1,q 2,q 3]:=H 9 _ rfl;have e10:q 10=q 1*fac [q 0,q 1,q 2,q 3]:=H 10 _ rfl;have e11:q 11=q 2*fac [q 0,q 1,q 2,q 3]:=H 11 _ rfl;have e12:q 12=q 3*fac [q 0,q 1,q 2,q 3]:=H 12 _ rfl;have e30:q 30=q 26*q 26:=H 30 _ rfl;have e31:q 31=q 27*q 27:=H 31 _ rfl;have e32:q 32=q 30+q 31:=H 32 _ rfl;have e33:q 33=q 28*q 28:=H 33 _ rfl;have e34:q 34=q 32+q 33:=H 34 _ rfl;have e35:q 35=q 26*fac [q 26,q 27,q 28,q 29]:=H 35 _ rfl;have e36:q 36=q 27*fac [q 26,q 27,q 28,q 29]:=H 36 _ rfl;have e37:q 37=q 28*fac [q 26,q 27,q 28,q 29]:=H 37 _ rfl;have e38:q 38=q 29*fac [q 26,q 27,q 28,q 29]:=H 38 _ rfl;have e115:q 115=q 10*q 37:=H 115 _ rfl;have e116:q 116=q 11*q 36:=H 116 _ rfl;have e117:q 117=q 115-q 116:=H 117 _ rfl;have e118:q 118=q 11*q 35:=H 118 _ rfl;have e119:q 119=q 9*q 37:=H 119 _ rfl;have e120:q 120=q 118-q 119:=H 120 _ rfl;have e121:q 121=q 9*q 36:=H 121 _ rfl;have e122:q 122=q 10*q 35:=H 122 _ rfl;have e123:q 123=q 121-q 122:=H 123 _ rfl;have e124:q 124=q 117*q 117:=H 124 _ rfl;have e125:q 125=q 120*q 120:=H 125 _ rfl;have e126:q 126=q 124+q 125:=H 126 _ rfl;have e127:q 127=q 123*q 123:=H 127 _ rfl;have e128:q 128=q 126+q 127:=H 128 _ rfl
 exact eM_pACz e4 e5 e6 e7 e8 e9 e10 e11 e12 e30 e31 e32 e33 e34 e35 e36 e37 e38 e115 e116 e117 e118 e119 e120 e121 e122 e123 e124 e125 e126 e127 e128
theorem Ln (H : Zo q σ) (a0 : ¬ (q 8=0)) (a2 : ¬ (q 34=0)) (j : q 128=0) : ((q 1*q 28-q 27*q 2=0∧q 2*q 26-q 28*q 0=0)∧q 0*q 27-q 26*q 1=0) := (eM_pAC H a0 a2).1 j
theorem eM_pCDz {z0 z1 z2 z3 z4 z5 z6 z7 z8 z9 z10 z11 z12 z26 z27 z28 z29 z30 z31 z32 z33 z34 z35 z36 z37 z38 z129 z130 z131 z132 z133 z134 z135 z136 z137 z138 z139 z140 z141 z142 : Rat} : z4=z0*z0→z5=z1*z1→z6=z4+z5→z7=z2*z2→z8=z6+z7→z9=z0*fac [z0,z1,z2,z3]→z10=z1*fac [z0,z1,z2,z3]→z11=z2*fac [z0,z1,z2,z3]→z12=z3*fac [z0,z1,z2,z3]→z30=z26*z26→z31=z27*z27→z32=z30+z31→z33=z28*z28→z34=z32+z33→z35=z26*fac [z26,z27,z28,z29]→z36=z27*fac [z26,z27,z28,z29]→z37=z28*fac [z26,z27,z28,z29]→z38=z29*fac [z26,z27,z28,z29]→z129=z9*z38→z130=z10*z38→z131=z11*z38→z132=z35*z12→z133=z36*z12→z134=z37*z12→z135=z129-z132→z136=z130-z133→z137=z131-z134→z138=z135*z135→z139=z136*z136→z140=z138+z139→z141=z137*z137→z142=z140+z141→(¬ (z8=0))→(¬ (z34=0))→(z142=0↔((z0*z29-z26*z3=0∧z1*z29-z27*z3=0)∧z2*z29-z28*z3=0)) := by
 intro e4 e5 e6 e7 e8 e9 e10 e11 e12 e30 e31 e32 e33 e34 e35 e36 e37 e38 e129 e130 e131 e132 e133 e134 e135 e136 e137 e138 e139 e140 e141 e142
 intro h0 h2
 have n0 : ¬ ((z0=0∧z1=0)∧z2=0) := fun x => h0 ((Jv e4 e5 e6 e7 e8).2 x)
 have k0 : fac [z0,z1,z2,z3] ≠ 0 := fun x => n0 ⟨⟨Qp (by simp) x,Qp (by simp) x⟩,Qp (by simp) x⟩
 have n2 : ¬ ((z26=0∧z27=0)∧z28=0) := fun x => h2 ((Jv e30 e31 e32 e33 e34).2 x)
 have k2 : fac [z26,z27,z28,z29] ≠ 0 := fun x => n2 ⟨⟨Qp (by simp) x,Qp (by simp) x⟩,Qp (by simp) x⟩
 rw [(Jv e138 e139 e140 e141 e142)]
 generalize fac [z0,z1,z2,z3]=f0 at *
 generalize fac [z26,z27,z28,z29]=f2 at *
 have q0 : z135=(z0*z29 - z26*z3)*(f0*f2) := by clear h0 n0 k0 h2 n2 k2 ; clear e4 e5 e6 e7 e8 e30 e31 e32 e33 e34 e138 e139 e140 e141 e142; subst_vars; grind
 have q1 : z136=(z1*z29 - z27*z3)*(f0*f2) := by clear h0 n0 k0 h2 n2 k2 q0; clear e4 e5 e6 e7 e8 e30 e31 e32 e33 e34 e138 e139 e140 e141 e142; subst_vars; grind
 have q2 : z137=(z2*z29 - z28*z3)*(f0*f2) := by clear h0 n0 k0 h2 n2 k2 q0 q1; clear e4 e5 e6 e7 e8 e30 e31 e32 e33 e34 e138 e139 e140 e141 e142; subst_vars; grind
 rw [q0,q1,q2]
 exact ⟨fun ⟨⟨a,b⟩,c⟩ => ⟨⟨(Rat.mul_eq_zero.1 a).resolve_right (Zp k0 k2),(Rat.mul_eq_zero.1 b).resolve_right (Zp k0 k2)⟩,(Rat.mul_eq_zero.1 c).resolve_right (Zp k0 k2)⟩,fun ⟨⟨a,b⟩,c⟩ => ⟨⟨by rw [a,Rat.zero_mul],by rw [b,Rat.zero_mul]⟩,by rw [c,Rat.zero_mul]⟩⟩
theorem Eu (H : Zo q σ) : (¬ (q 8=0))→(¬ (q 34=0))→(q 142=0↔((q 0*q 29-q 26*q 3=0∧q 1*q 29-q 27*q 3=0)∧q 2*q 29-q 28*q 3=0)) := by
 have e4:q 4=q 0*q 0:=H 4 _ rfl;have e5:q 5=q 1*q 1:=H 5 _ rfl;have e6:q 6=q 4+q 5:=H 6 _ rfl;have e7:q 7=q 2*q 2:=H 7 _ rfl;have e8:q 8=q 6+q 7:=H 8 _ rfl;have e9:q 9=q 0*fac [q 0,q 1,q 2,q 3]:=H 9 _ rfl;have e10:q 10=q 1*fac [q 0,q 1,q 2,q 3]:=H 10 _ rfl;have e11:q 11=q 2*fac [q 0,q 1,q 2,q 3]:=H 11 _ rfl;have e12:q 12=q 3*fac [q 0,q 1,q 2,q 3]:=H 12 _ rfl;have e30:q 30=q 26*q 26:=H 30 _ rfl;have e31:q 31=q 27*q 27:=H 31 _ rfl;have e32:q 32=q 30+q 31:=H 32 _ rfl;have e33:q 33=q 28*q 28:=H 33 _ rfl;have e34:q 34=q 32+q 33:=H 34 _ rfl;have e35:q 35=q 26*fac [q 26,q 27,q 28,q 29]:=H 35 _ rfl;have e36:q 36=q 27*fac [q 26,q 27,q 28,q 29]:=H 36 _ rfl;have e37:q 37=q 28*fac [q 26,q 27,q 28,q 29]:=H 37 _ rfl;have e38:q 38=q 29*fac [q 26,q 27,q 28,q 29]:=H 38 _ rfl;have e129:q 129=q 9*q 38:=H 129 _ rfl;have e130:q 130=q 10*q 38:=H 130 _ rfl;have e131:q 131=q 11*q 38:=H 131 _ rfl;have e132:q 132=q 35*q 12:=H 132 _ rfl;have e133:q 133=q 36*q 12:=H 133 _ rfl;have e134:q 134=q 37*q 12:=H 134 _ rfl;have e135:q 135=q 129-q 132:=H 135 _ rfl;have e136:q 136=q 130-q 133:=H 136 _ rfl;have e137:q 137=q 131-q 134:=H 137 _ rfl;have e138:q 138=q 135*q 135:=H 138 _ rfl;have e139:q 139=q 136*q 136:=H 139 _ rfl;have e140:q 140=q 138+q 139:=H 140 _ rfl;have e141:q 141=q 137*q 137:=H 141 _ rfl;have e142:q 142=q 140+q 141:=H 142 _ rfl
 exact eM_pCDz e4 e5 e6 e7 e8 e9 e10 e11 e12 e30 e31 e32 e33 e34 e35 e36 e37 e38 e129 e130 e131 e132 e133 e134 e135 e136 e137 e138 e139 e140 e141 e142
theorem Hn (H : Zo q σ) (a0 : ¬ (q 8=0)) (a2 : ¬ (q 34=0)) (j : q 142=0) : ((q 0*q 29-q 26*q 3=0∧q 1*q 29-q 27*q 3=0)∧q 2*q 29-q 28*q 3=0) := (Eu H a0 a2).1 j
section
variable {a b c d e f g j k l m n : Rat}
theorem eM_pk0 : (¬ ((a=0∧b=0)∧c=0))→(a*(f*m-l*g)-b*(e*m-k*g)+c*(e*l-k*f)=0)→(((b*g-f*c=0∧c*e-g*a=0)∧a*f-e*b=0))→(a=0)→(e=0) := by
 intro h0 h1 h2 h3
 grind
theorem eM_pk1 : (¬ ((a=0∧b=0)∧c=0))→(a*(f*m-l*g)-b*(e*m-k*g)+c*(e*l-k*f)=0)→(((b*m-l*c=0∧c*k-m*a=0)∧a*l-k*b=0))→(a=0)→(k=0) := by
 intro h0 h1 h2 h3
 grind
theorem eM_pk2 : (¬ ((a=0∧b=0)∧c=0))→(a*(f*m-l*g)-b*(e*m-k*g)+c*(e*l-k*f)=0)→(((b*g-f*c=0∧c*e-g*a=0)∧a*f-e*b=0))→(b=0)→(f=0) := by
 intro h0 h1 h2 h3
 grind
theorem eM_pk3 : (¬ ((a=0∧b=0)∧c=0))→(a*(f*m-l*g)-b*(e*m-k*g)+c*(e*l-k*f)=0)→(((b*m-l*c=0∧c*k-m*a=0)∧a*l-k*b=0))→(b=0)→(l=0) := by
 intro h0 h1 h2 h3
 grind
theorem eM_pk4 : (¬ ((a=0∧b=0)∧c=0))→(a*(f*m-l*g)-b*(e*m-k*g)+c*(e*l-k*f)=0)→(a=0)→(b=0)→(¬ (c=0)) := by
 intro h0 h1 h2 h3 hg
 grind
theorem EG : (¬ ((e=0∧f=0)∧g=0))→(a*(f*m-l*g)-b*(e*m-k*g)+c*(e*l-k*f)=0)→(e=0)→(f=0)→(¬ (g=0)) := by
 intro h0 h1 h2 h3 hg
 grind
theorem Et : (¬ ((k=0∧l=0)∧m=0))→(a*(f*m-l*g)-b*(e*m-k*g)+c*(e*l-k*f)=0)→(k=0)→(l=0)→(¬ (m=0)) := by
 intro h0 h1 h2 h3 hg
 grind
theorem eM_pk7 : (a*(f*m-l*g)-b*(e*m-k*g)+c*(e*l-k*f)=0)→(((b*g-f*c=0∧c*e-g*a=0)∧a*f-e*b=0))→(((a*j-e*d=0∧b*j-f*d=0)∧c*j-g*d=0))→(((b*m-l*c=0∧c*k-m*a=0)∧a*l-k*b=0))→(((a*n-k*d=0∧b*n-l*d=0)∧c*n-m*d=0))→(¬ (c=0))→(m*j-g*n=0) := by
 intro h0 h1 h2 h3 h4 h5
 grind
theorem eM_pk8 : (a*(f*m-l*g)-b*(e*m-k*g)+c*(e*l-k*f)=0)→(((b*g-f*c=0∧c*e-g*a=0)∧a*f-e*b=0))→(((b*m-l*c=0∧c*k-m*a=0)∧a*l-k*b=0))→(((a*n-k*d=0∧b*n-l*d=0)∧c*n-m*d=0))→(m*d-c*n=0) := by
 intro h0 h1 h2 h3
 grind
theorem FW : (¬ ((e=0∧f=0)∧g=0))→(a*(f*m-l*g)-b*(e*m-k*g)+c*(e*l-k*f)=0)→(((b*g-f*c=0∧c*e-g*a=0)∧a*f-e*b=0))→(¬ (b=0))→(¬ (f=0)) := by
 intro h0 h1 h2 h3 hg
 grind
theorem GM : (¬ ((k=0∧l=0)∧m=0))→(a*(f*m-l*g)-b*(e*m-k*g)+c*(e*l-k*f)=0)→(((b*m-l*c=0∧c*k-m*a=0)∧a*l-k*b=0))→(¬ (b=0))→(¬ (l=0)) := by
 intro h0 h1 h2 h3 hg
 grind
theorem NY : (a*(f*m-l*g)-b*(e*m-k*g)+c*(e*l-k*f)=0)→(((b*g-f*c=0∧c*e-g*a=0)∧a*f-e*b=0))→(((b*m-l*c=0∧c*k-m*a=0)∧a*l-k*b=0))→(¬ (b=0))→(l*g-f*m=0) := by
 intro h0 h1 h2 h3
 grind
theorem GD : (a*(f*m-l*g)-b*(e*m-k*g)+c*(e*l-k*f)=0)→(((b*m-l*c=0∧c*k-m*a=0)∧a*l-k*b=0))→(l*c-b*m=0) := by
 intro h0 h1
 grind
theorem eM_pk13 : (a*(f*m-l*g)-b*(e*m-k*g)+c*(e*l-k*f)=0)→(((b*g-f*c=0∧c*e-g*a=0)∧a*f-e*b=0))→(((a*j-e*d=0∧b*j-f*d=0)∧c*j-g*d=0))→(((b*m-l*c=0∧c*k-m*a=0)∧a*l-k*b=0))→(((a*n-k*d=0∧b*n-l*d=0)∧c*n-m*d=0))→(¬ (b=0))→(l*j-f*n=0) := by
 intro h0 h1 h2 h3 h4 h5
 grind
theorem eM_pk14 : (a*(f*m-l*g)-b*(e*m-k*g)+c*(e*l-k*f)=0)→(((b*g-f*c=0∧c*e-g*a=0)∧a*f-e*b=0))→(((b*m-l*c=0∧c*k-m*a=0)∧a*l-k*b=0))→(((a*n-k*d=0∧b*n-l*d=0)∧c*n-m*d=0))→(l*d-b*n=0) := by
 intro h0 h1 h2 h3
 grind
theorem GP : (¬ ((e=0∧f=0)∧g=0))→(a*(f*m-l*g)-b*(e*m-k*g)+c*(e*l-k*f)=0)→(((b*g-f*c=0∧c*e-g*a=0)∧a*f-e*b=0))→(¬ (a=0))→(¬ (e=0)) := by
 intro h0 h1 h2 h3 hg
 grind
theorem GF : (¬ ((k=0∧l=0)∧m=0))→(a*(f*m-l*g)-b*(e*m-k*g)+c*(e*l-k*f)=0)→(((b*m-l*c=0∧c*k-m*a=0)∧a*l-k*b=0))→(¬ (a=0))→(¬ (k=0)) := by
 intro h0 h1 h2 h3 hg
 grind
theorem Lg : (a*(f*m-l*g)-b*(e*m-k*g)+c*(e*l-k*f)=0)→(((b*g-f*c=0∧c*e-g*a=0)∧a*f-e*b=0))→(((b*m-l*c=0∧c*k-m*a=0)∧a*l-k*b=0))→(¬ (a=0))→(k*f-e*l=0) := by
 intro h0 h1 h2 h3
 grind
theorem IL : (a*(f*m-l*g)-b*(e*m-k*g)+c*(e*l-k*f)=0)→(((b*m-l*c=0∧c*k-m*a=0)∧a*l-k*b=0))→(k*b-a*l=0) := by
 intro h0 h1
 grind
theorem Hb : (a*(f*m-l*g)-b*(e*m-k*g)+c*(e*l-k*f)=0)→(((b*g-f*c=0∧c*e-g*a=0)∧a*f-e*b=0))→(((b*m-l*c=0∧c*k-m*a=0)∧a*l-k*b=0))→(¬ (a=0))→(k*g-e*m=0) := by
 intro h0 h1 h2 h3
 grind
theorem GN : (a*(f*m-l*g)-b*(e*m-k*g)+c*(e*l-k*f)=0)→(((b*m-l*c=0∧c*k-m*a=0)∧a*l-k*b=0))→(k*c-a*m=0) := by
 intro h0 h1
 grind
theorem eM_pk21 : (a*(f*m-l*g)-b*(e*m-k*g)+c*(e*l-k*f)=0)→(((b*g-f*c=0∧c*e-g*a=0)∧a*f-e*b=0))→(((a*j-e*d=0∧b*j-f*d=0)∧c*j-g*d=0))→(((b*m-l*c=0∧c*k-m*a=0)∧a*l-k*b=0))→(((a*n-k*d=0∧b*n-l*d=0)∧c*n-m*d=0))→(¬ (a=0))→(k*j-e*n=0) := by
 intro h0 h1 h2 h3 h4 h5
 grind
theorem eM_pk22 : (a*(f*m-l*g)-b*(e*m-k*g)+c*(e*l-k*f)=0)→(((b*g-f*c=0∧c*e-g*a=0)∧a*f-e*b=0))→(((b*m-l*c=0∧c*k-m*a=0)∧a*l-k*b=0))→(((a*n-k*d=0∧b*n-l*d=0)∧c*n-m*d=0))→(k*d-a*n=0) := by
 intro h0 h1 h2 h3
 grind
theorem eM_pk23 : (a*(f*m-l*g)-b*(e*m-k*g)+c*(e*l-k*f)=0)→(((b*g-f*c=0∧c*e-g*a=0)∧a*f-e*b=0))→(((a*j-e*d=0∧b*j-f*d=0)∧c*j-g*d=0))→(¬ ((a*n-k*d=0∧b*n-l*d=0)∧c*n-m*d=0))→(a=0)→(e=0) := by
 intro h0 h1 h2 h3 h4
 grind
theorem eM_pk24 : (¬ ((e=0∧f=0)∧g=0))→(a*(f*m-l*g)-b*(e*m-k*g)+c*(e*l-k*f)=0)→(((a*j-e*d=0∧b*j-f*d=0)∧c*j-g*d=0))→(((b*m-l*c=0∧c*k-m*a=0)∧a*l-k*b=0))→(¬ ((a*n-k*d=0∧b*n-l*d=0)∧c*n-m*d=0))→(a=0)→(k=0) := by
 intro h0 h1 h2 h3 h4 h5
 grind
theorem eM_pk25 : (a*(f*m-l*g)-b*(e*m-k*g)+c*(e*l-k*f)=0)→(((b*g-f*c=0∧c*e-g*a=0)∧a*f-e*b=0))→(((a*j-e*d=0∧b*j-f*d=0)∧c*j-g*d=0))→(¬ ((a*n-k*d=0∧b*n-l*d=0)∧c*n-m*d=0))→(b=0)→(f=0) := by
 intro h0 h1 h2 h3 h4
 grind
theorem eM_pk26 : (¬ ((e=0∧f=0)∧g=0))→(a*(f*m-l*g)-b*(e*m-k*g)+c*(e*l-k*f)=0)→(((a*j-e*d=0∧b*j-f*d=0)∧c*j-g*d=0))→(((b*m-l*c=0∧c*k-m*a=0)∧a*l-k*b=0))→(¬ ((a*n-k*d=0∧b*n-l*d=0)∧c*n-m*d=0))→(b=0)→(l=0) := by
 intro h0 h1 h2 h3 h4 h5
 grind
theorem eM_pk27 : (¬ ((e=0∧f=0)∧g=0))→(a*(f*m-l*g)-b*(e*m-k*g)+c*(e*l-k*f)=0)→(((a*j-e*d=0∧b*j-f*d=0)∧c*j-g*d=0))→(¬ ((a*n-k*d=0∧b*n-l*d=0)∧c*n-m*d=0))→(a=0)→(b=0)→(¬ (c=0)) := by
 intro h0 h1 h2 h3 h4 h5 hg
 grind
theorem eM_pk28 : (a*(f*m-l*g)-b*(e*m-k*g)+c*(e*l-k*f)=0)→(((b*g-f*c=0∧c*e-g*a=0)∧a*f-e*b=0))→(((a*j-e*d=0∧b*j-f*d=0)∧c*j-g*d=0))→(((b*m-l*c=0∧c*k-m*a=0)∧a*l-k*b=0))→(¬ ((a*n-k*d=0∧b*n-l*d=0)∧c*n-m*d=0))→(¬ (g=0))→(¬ (m*j-g*n=0)) := by
 intro h0 h1 h2 h3 h4 h5 hg
 grind
theorem eM_pk29 : (a*(f*m-l*g)-b*(e*m-k*g)+c*(e*l-k*f)=0)→(((b*g-f*c=0∧c*e-g*a=0)∧a*f-e*b=0))→(((b*m-l*c=0∧c*k-m*a=0)∧a*l-k*b=0))→(¬ ((a*n-k*d=0∧b*n-l*d=0)∧c*n-m*d=0))→(¬ (m=0))→(¬ (m*d-c*n=0)) := by
 intro h0 h1 h2 h3 h4 hg
 grind
theorem eM_pk30 : (a*(f*m-l*g)-b*(e*m-k*g)+c*(e*l-k*f)=0)→(((b*g-f*c=0∧c*e-g*a=0)∧a*f-e*b=0))→(((a*j-e*d=0∧b*j-f*d=0)∧c*j-g*d=0))→(((b*m-l*c=0∧c*k-m*a=0)∧a*l-k*b=0))→(¬ ((a*n-k*d=0∧b*n-l*d=0)∧c*n-m*d=0))→(¬ (f=0))→(¬ (l*j-f*n=0)) := by
 intro h0 h1 h2 h3 h4 h5 hg
 grind
theorem eM_pk31 : (a*(f*m-l*g)-b*(e*m-k*g)+c*(e*l-k*f)=0)→(((b*g-f*c=0∧c*e-g*a=0)∧a*f-e*b=0))→(((b*m-l*c=0∧c*k-m*a=0)∧a*l-k*b=0))→(¬ ((a*n-k*d=0∧b*n-l*d=0)∧c*n-m*d=0))→(¬ (l=0))→(¬ (l*d-b*n=0)) := by
 intro h0 h1 h2 h3 h4 hg
 grind
theorem eM_pk32 : (a*(f*m-l*g)-b*(e*m-k*g)+c*(e*l-k*f)=0)→(((b*g-f*c=0∧c*e-g*a=0)∧a*f-e*b=0))→(((a*j-e*d=0∧b*j-f*d=0)∧c*j-g*d=0))→(((b*m-l*c=0∧c*k-m*a=0)∧a*l-k*b=0))→(¬ ((a*n-k*d=0∧b*n-l*d=0)∧c*n-m*d=0))→(¬ (e=0))→(¬ (k*j-e*n=0)) := by
 intro h0 h1 h2 h3 h4 h5 hg
 grind
theorem eM_pk33 : (a*(f*m-l*g)-b*(e*m-k*g)+c*(e*l-k*f)=0)→(((b*g-f*c=0∧c*e-g*a=0)∧a*f-e*b=0))→(((b*m-l*c=0∧c*k-m*a=0)∧a*l-k*b=0))→(¬ ((a*n-k*d=0∧b*n-l*d=0)∧c*n-m*d=0))→(k*f-e*l=0)→(k*g-e*m=0)→(¬ (k*j-e*n=0))→(¬ (k*d-a*n=0)) := by
 intro h0 h1 h2 h3 h4 h5 h6 hg
 grind
theorem eM_pk34 : (a*(f*m-l*g)-b*(e*m-k*g)+c*(e*l-k*f)=0)→(((b*g-f*c=0∧c*e-g*a=0)∧a*f-e*b=0))→(¬ ((b*m-l*c=0∧c*k-m*a=0)∧a*l-k*b=0))→(a=0)→(e=0) := by
 intro h0 h1 h2 h3
 grind
theorem eM_pk35 : (a*(f*m-l*g)-b*(e*m-k*g)+c*(e*l-k*f)=0)→(((b*g-f*c=0∧c*e-g*a=0)∧a*f-e*b=0))→(¬ ((b*m-l*c=0∧c*k-m*a=0)∧a*l-k*b=0))→(b=0)→(f=0) := by
 intro h0 h1 h2 h3
 grind
theorem eM_pk36 : (a*(f*m-l*g)-b*(e*m-k*g)+c*(e*l-k*f)=0)→(¬ ((b*m-l*c=0∧c*k-m*a=0)∧a*l-k*b=0))→(a=0)→(k=0)→(b=0)→(¬ (l=0)) := by
 intro h0 h1 h2 h3 h4 hg
 grind
theorem FH : (¬ ((e=0∧f=0)∧g=0))→(a*(f*m-l*g)-b*(e*m-k*g)+c*(e*l-k*f)=0)→(e=0)→(f=0)→(¬ (l=0))→(¬ (l*g-f*m=0)) := by
 intro h0 h1 h2 h3 h4 hg
 grind
theorem TL : (a*(f*m-l*g)-b*(e*m-k*g)+c*(e*l-k*f)=0)→(¬ ((b*m-l*c=0∧c*k-m*a=0)∧a*l-k*b=0))→(¬ (l*g-f*m=0))→(¬ (l*c-b*m=0)) := by
 intro h0 h1 h2 hg
 grind
theorem eM_pk39 : (a*(f*m-l*g)-b*(e*m-k*g)+c*(e*l-k*f)=0)→(((a*j-e*d=0∧b*j-f*d=0)∧c*j-g*d=0))→(b=0)→(f=0)→(l*(c*j-g*d)-m*(b*j-f*d)+n*(b*g-f*c)=0) := by
 intro h0 h1 h2 h3
 grind
theorem eM_pk40 : (a*(f*m-l*g)-b*(e*m-k*g)+c*(e*l-k*f)=0)→(((b*g-f*c=0∧c*e-g*a=0)∧a*f-e*b=0))→(f*c-b*g=0) := by
 intro h0 h1
 grind
theorem eM_pk41 : (a*(f*m-l*g)-b*(e*m-k*g)+c*(e*l-k*f)=0)→(¬ ((b*m-l*c=0∧c*k-m*a=0)∧a*l-k*b=0))→(k=0)→(¬ (f=0))→(l=0)→(¬ (f*m-l*g=0)) := by
 intro h0 h1 h2 h3 h4 hg
 grind
theorem eM_pk42 : (a*(f*m-l*g)-b*(e*m-k*g)+c*(e*l-k*f)=0)→(((a*j-e*d=0∧b*j-f*d=0)∧c*j-g*d=0))→(f*c-b*g=0)→(f*(m*d-c*n)-g*(l*d-b*n)+j*(l*c-b*m)=0) := by
 intro h0 h1 h2
 grind
theorem eM_pk43 : (a*(f*m-l*g)-b*(e*m-k*g)+c*(e*l-k*f)=0)→(((b*g-f*c=0∧c*e-g*a=0)∧a*f-e*b=0))→(¬ ((b*m-l*c=0∧c*k-m*a=0)∧a*l-k*b=0))→(e=0)→(k=0)→(¬ (f=0))→(¬ (l*g-f*m=0)) := by
 intro h0 h1 h2 h3 h4 h5 hg
 grind
theorem eM_pk44 : (a*(f*m-l*g)-b*(e*m-k*g)+c*(e*l-k*f)=0)→(((b*g-f*c=0∧c*e-g*a=0)∧a*f-e*b=0))→(((a*j-e*d=0∧b*j-f*d=0)∧c*j-g*d=0))→(l*(c*j-g*d)-m*(b*j-f*d)+n*(b*g-f*c)=0) := by
 intro h0 h1 h2
 grind
theorem Sj : (¬ ((e=0∧f=0)∧g=0))→(a*(f*m-l*g)-b*(e*m-k*g)+c*(e*l-k*f)=0)→(e=0)→(¬ (k=0))→(k*f-e*l=0)→(k*b-a*l=0) := by
 intro h0 h1 h2 h3 h4
 grind
theorem Ba : (¬ ((e=0∧f=0)∧g=0))→(a*(f*m-l*g)-b*(e*m-k*g)+c*(e*l-k*f)=0)→(e=0)→(¬ (k=0))→(k*f-e*l=0)→(¬ (k*g-e*m=0)) := by
 intro h0 h1 h2 h3 h4 hg
 grind
theorem To : (a*(f*m-l*g)-b*(e*m-k*g)+c*(e*l-k*f)=0)→(¬ ((b*m-l*c=0∧c*k-m*a=0)∧a*l-k*b=0))→(¬ (k*g-e*m=0))→(¬ (k*c-a*m=0)) := by
 intro h0 h1 h2 hg
 grind
theorem eM_pk48 : (a*(f*m-l*g)-b*(e*m-k*g)+c*(e*l-k*f)=0)→(((a*j-e*d=0∧b*j-f*d=0)∧c*j-g*d=0))→(a=0)→(e=0)→(k*(c*j-g*d)-m*(a*j-e*d)+n*(a*g-e*c)=0) := by
 intro h0 h1 h2 h3
 grind
theorem Tv : (a*(f*m-l*g)-b*(e*m-k*g)+c*(e*l-k*f)=0)→(¬ ((b*m-l*c=0∧c*k-m*a=0)∧a*l-k*b=0))→(¬ (k*f-e*l=0))→(¬ (k*b-a*l=0)) := by
 intro h0 h1 h2 hg
 grind
theorem Yf : (a*(f*m-l*g)-b*(e*m-k*g)+c*(e*l-k*f)=0)→(k*(b*g-f*c)-l*(a*g-e*c)+m*(a*f-e*b)=0) := by
 intro h0
 grind
theorem eM_pk51 : (a*(f*m-l*g)-b*(e*m-k*g)+c*(e*l-k*f)=0)→(((a*j-e*d=0∧b*j-f*d=0)∧c*j-g*d=0))→(a=0)→(e=0)→(k*(b*j-f*d)-l*(a*j-e*d)+n*(a*f-e*b)=0) := by
 intro h0 h1 h2 h3
 grind
theorem eM_pk52 : (a*(f*m-l*g)-b*(e*m-k*g)+c*(e*l-k*f)=0)→(((b*g-f*c=0∧c*e-g*a=0)∧a*f-e*b=0))→(e*b-a*f=0) := by
 intro h0 h1
 grind
theorem eM_pk53 : (a*(f*m-l*g)-b*(e*m-k*g)+c*(e*l-k*f)=0)→(((b*g-f*c=0∧c*e-g*a=0)∧a*f-e*b=0))→(e*c-a*g=0) := by
 intro h0 h1
 grind
theorem eM_pk54 : (a*(f*m-l*g)-b*(e*m-k*g)+c*(e*l-k*f)=0)→(¬ ((b*m-l*c=0∧c*k-m*a=0)∧a*l-k*b=0))→(¬ (e=0))→(e*b-a*f=0)→(e*l-k*f=0)→(e*c-a*g=0)→(¬ (e*m-k*g=0)) := by
 intro h0 h1 h2 h3 h4 h5 hg
 grind
theorem eM_pk55 : (a*(f*m-l*g)-b*(e*m-k*g)+c*(e*l-k*f)=0)→(((a*j-e*d=0∧b*j-f*d=0)∧c*j-g*d=0))→(e*c-a*g=0)→(e*(m*d-c*n)-g*(k*d-a*n)+j*(k*c-a*m)=0) := by
 intro h0 h1 h2
 grind
theorem IW : (a*(f*m-l*g)-b*(e*m-k*g)+c*(e*l-k*f)=0)→(e*(l*c-b*m)-f*(k*c-a*m)+g*(k*b-a*l)=0) := by
 intro h0
 grind
theorem eM_pk57 : (a*(f*m-l*g)-b*(e*m-k*g)+c*(e*l-k*f)=0)→(((a*j-e*d=0∧b*j-f*d=0)∧c*j-g*d=0))→(e*b-a*f=0)→(e*(l*d-b*n)-f*(k*d-a*n)+j*(k*b-a*l)=0) := by
 intro h0 h1 h2
 grind
theorem Hd : (a*(f*m-l*g)-b*(e*m-k*g)+c*(e*l-k*f)=0)→(((b*g-f*c=0∧c*e-g*a=0)∧a*f-e*b=0))→(¬ (e=0))→(k*f-e*l=0)→(k*b-a*l=0) := by
 intro h0 h1 h2 h3
 grind
theorem eM_pk59 : (a*(f*m-l*g)-b*(e*m-k*g)+c*(e*l-k*f)=0)→(((b*g-f*c=0∧c*e-g*a=0)∧a*f-e*b=0))→(¬ ((b*m-l*c=0∧c*k-m*a=0)∧a*l-k*b=0))→(¬ (e=0))→(k*b-a*l=0)→(¬ (k*g-e*m=0)) := by
 intro h0 h1 h2 h3 h4 hg
 grind
theorem eM_pk60 : (a*(f*m-l*g)-b*(e*m-k*g)+c*(e*l-k*f)=0)→(((b*g-f*c=0∧c*e-g*a=0)∧a*f-e*b=0))→(((a*j-e*d=0∧b*j-f*d=0)∧c*j-g*d=0))→(k*(c*j-g*d)-m*(a*j-e*d)+n*(a*g-e*c)=0) := by
 intro h0 h1 h2
 grind
theorem eM_pk61 : (a*(f*m-l*g)-b*(e*m-k*g)+c*(e*l-k*f)=0)→(((b*g-f*c=0∧c*e-g*a=0)∧a*f-e*b=0))→(((a*j-e*d=0∧b*j-f*d=0)∧c*j-g*d=0))→(k*(b*j-f*d)-l*(a*j-e*d)+n*(a*f-e*b)=0) := by
 intro h0 h1 h2
 grind
theorem eM_pk62 : (a*(f*m-l*g)-b*(e*m-k*g)+c*(e*l-k*f)=0)→(((b*(g*n-m*j)-c*(f*n-l*j)+d*(f*m-l*g)=0∧c*(e*n-k*j)-a*(g*n-m*j)+d*(g*k-m*e)=0)∧a*(f*n-l*j)-b*(e*n-k*j)+d*(e*l-k*f)=0))→(¬ ((a*j-e*d=0∧b*j-f*d=0)∧c*j-g*d=0))→(a=0)→(e=0)→(k=0) := by
 intro h0 h1 h2 h3 h4
 grind
theorem eM_pk63 : (a*(f*m-l*g)-b*(e*m-k*g)+c*(e*l-k*f)=0)→(((b*(g*n-m*j)-c*(f*n-l*j)+d*(f*m-l*g)=0∧c*(e*n-k*j)-a*(g*n-m*j)+d*(g*k-m*e)=0)∧a*(f*n-l*j)-b*(e*n-k*j)+d*(e*l-k*f)=0))→(¬ ((a*j-e*d=0∧b*j-f*d=0)∧c*j-g*d=0))→(b=0)→(f=0)→(l=0) := by
 intro h0 h1 h2 h3 h4
 grind
theorem eM_pk64 : (a*(f*m-l*g)-b*(e*m-k*g)+c*(e*l-k*f)=0)→(((b*g-f*c=0∧c*e-g*a=0)∧a*f-e*b=0))→(¬ ((a*j-e*d=0∧b*j-f*d=0)∧c*j-g*d=0))→(¬ (m=0))→(m*j-g*n=0)→(¬ (m*d-c*n=0)) := by
 intro h0 h1 h2 h3 h4 hg
 grind
theorem eM_pk65 : (¬ ((k=0∧l=0)∧m=0))→(a*(f*m-l*g)-b*(e*m-k*g)+c*(e*l-k*f)=0)→(((b*(g*n-m*j)-c*(f*n-l*j)+d*(f*m-l*g)=0∧c*(e*n-k*j)-a*(g*n-m*j)+d*(g*k-m*e)=0)∧a*(f*n-l*j)-b*(e*n-k*j)+d*(e*l-k*f)=0))→(((b*g-f*c=0∧c*e-g*a=0)∧a*f-e*b=0))→(¬ ((a*j-e*d=0∧b*j-f*d=0)∧c*j-g*d=0))→(¬ (f=0))→(¬ (l=0)) := by
 intro h0 h1 h2 h3 h4 h5 hg
 grind
theorem eM_pk66 : (a*(f*m-l*g)-b*(e*m-k*g)+c*(e*l-k*f)=0)→(((b*(g*n-m*j)-c*(f*n-l*j)+d*(f*m-l*g)=0∧c*(e*n-k*j)-a*(g*n-m*j)+d*(g*k-m*e)=0)∧a*(f*n-l*j)-b*(e*n-k*j)+d*(e*l-k*f)=0))→(((b*g-f*c=0∧c*e-g*a=0)∧a*f-e*b=0))→(¬ ((a*j-e*d=0∧b*j-f*d=0)∧c*j-g*d=0))→(l*g-f*m=0) := by
 intro h0 h1 h2 h3
 grind
theorem eM_pk67 : (a*(f*m-l*g)-b*(e*m-k*g)+c*(e*l-k*f)=0)→(((b*g-f*c=0∧c*e-g*a=0)∧a*f-e*b=0))→(¬ (f=0))→(l*g-f*m=0)→(l*c-b*m=0) := by
 intro h0 h1 h2 h3
 grind
theorem eM_pk68 : (a*(f*m-l*g)-b*(e*m-k*g)+c*(e*l-k*f)=0)→(((b*g-f*c=0∧c*e-g*a=0)∧a*f-e*b=0))→(¬ ((a*j-e*d=0∧b*j-f*d=0)∧c*j-g*d=0))→(¬ (l=0))→(l*j-f*n=0)→(¬ (l*d-b*n=0)) := by
 intro h0 h1 h2 h3 h4 hg
 grind
theorem eM_pk69 : (¬ ((k=0∧l=0)∧m=0))→(a*(f*m-l*g)-b*(e*m-k*g)+c*(e*l-k*f)=0)→(((b*(g*n-m*j)-c*(f*n-l*j)+d*(f*m-l*g)=0∧c*(e*n-k*j)-a*(g*n-m*j)+d*(g*k-m*e)=0)∧a*(f*n-l*j)-b*(e*n-k*j)+d*(e*l-k*f)=0))→(((b*g-f*c=0∧c*e-g*a=0)∧a*f-e*b=0))→(¬ ((a*j-e*d=0∧b*j-f*d=0)∧c*j-g*d=0))→(¬ (e=0))→(¬ (k=0)) := by
 intro h0 h1 h2 h3 h4 h5 hg
 grind
theorem eM_pk70 : (a*(f*m-l*g)-b*(e*m-k*g)+c*(e*l-k*f)=0)→(((b*(g*n-m*j)-c*(f*n-l*j)+d*(f*m-l*g)=0∧c*(e*n-k*j)-a*(g*n-m*j)+d*(g*k-m*e)=0)∧a*(f*n-l*j)-b*(e*n-k*j)+d*(e*l-k*f)=0))→(((b*g-f*c=0∧c*e-g*a=0)∧a*f-e*b=0))→(¬ ((a*j-e*d=0∧b*j-f*d=0)∧c*j-g*d=0))→(k*f-e*l=0) := by
 intro h0 h1 h2 h3
 grind
theorem eM_pk71 : (a*(f*m-l*g)-b*(e*m-k*g)+c*(e*l-k*f)=0)→(((b*(g*n-m*j)-c*(f*n-l*j)+d*(f*m-l*g)=0∧c*(e*n-k*j)-a*(g*n-m*j)+d*(g*k-m*e)=0)∧a*(f*n-l*j)-b*(e*n-k*j)+d*(e*l-k*f)=0))→(((b*g-f*c=0∧c*e-g*a=0)∧a*f-e*b=0))→(¬ ((a*j-e*d=0∧b*j-f*d=0)∧c*j-g*d=0))→(k*g-e*m=0) := by
 intro h0 h1 h2 h3
 grind
theorem eM_pk72 : (a*(f*m-l*g)-b*(e*m-k*g)+c*(e*l-k*f)=0)→(((b*g-f*c=0∧c*e-g*a=0)∧a*f-e*b=0))→(¬ (e=0))→(k*g-e*m=0)→(k*c-a*m=0) := by
 intro h0 h1 h2 h3
 grind
theorem eM_pk73 : (a*(f*m-l*g)-b*(e*m-k*g)+c*(e*l-k*f)=0)→(((b*g-f*c=0∧c*e-g*a=0)∧a*f-e*b=0))→(¬ ((a*j-e*d=0∧b*j-f*d=0)∧c*j-g*d=0))→(¬ (k=0))→(k*j-e*n=0)→(¬ (k*d-a*n=0)) := by
 intro h0 h1 h2 h3 h4 hg
 grind
theorem eM_pk74 : (a*(f*m-l*g)-b*(e*m-k*g)+c*(e*l-k*f)=0)→(((b*(g*n-m*j)-c*(f*n-l*j)+d*(f*m-l*g)=0∧c*(e*n-k*j)-a*(g*n-m*j)+d*(g*k-m*e)=0)∧a*(f*n-l*j)-b*(e*n-k*j)+d*(e*l-k*f)=0))→(¬ ((b*g-f*c=0∧c*e-g*a=0)∧a*f-e*b=0))→(((b*m-l*c=0∧c*k-m*a=0)∧a*l-k*b=0))→(((a*n-k*d=0∧b*n-l*d=0)∧c*n-m*d=0)) := by
 intro h0 h1 h2 h3
 refine ⟨⟨?_,?_⟩,?_⟩ <;> grind
theorem LK : (a*(f*m-l*g)-b*(e*m-k*g)+c*(e*l-k*f)=0)→(¬ ((b*g-f*c=0∧c*e-g*a=0)∧a*f-e*b=0))→(a=0)→(e=0)→(k=0) := by
 intro h0 h1 h2 h3
 grind
theorem Hg : (a*(f*m-l*g)-b*(e*m-k*g)+c*(e*l-k*f)=0)→(¬ ((b*g-f*c=0∧c*e-g*a=0)∧a*f-e*b=0))→(a=0)→(e=0)→(b=0)→(¬ (f=0)) := by
 intro h0 h1 h2 h3 h4 hg
 grind
theorem eM_pk77 : (a*(f*m-l*g)-b*(e*m-k*g)+c*(e*l-k*f)=0)→(¬ ((b*g-f*c=0∧c*e-g*a=0)∧a*f-e*b=0))→(((b*m-l*c=0∧c*k-m*a=0)∧a*l-k*b=0))→(b=0)→(l=0) := by
 intro h0 h1 h2 h3
 grind
theorem eM_pk78 : (a*(f*m-l*g)-b*(e*m-k*g)+c*(e*l-k*f)=0)→(¬ ((b*g-f*c=0∧c*e-g*a=0)∧a*f-e*b=0))→(a=0)→(b=0)→(¬ (f=0))→(¬ (f*c-b*g=0)) := by
 intro h0 h1 h2 h3 h4 hg
 grind
theorem Sa : (¬ ((k=0∧l=0)∧m=0))→(a*(f*m-l*g)-b*(e*m-k*g)+c*(e*l-k*f)=0)→(¬ (f=0))→(l=0)→(¬ (f*c-b*g=0))→(¬ (f*m-l*g=0)) := by
 intro h0 h1 h2 h3 h4 hg
 grind
theorem eM_pk80 : (a*(f*m-l*g)-b*(e*m-k*g)+c*(e*l-k*f)=0)→(((a*n-k*d=0∧b*n-l*d=0)∧c*n-m*d=0))→(b=0)→(l=0)→(f*(m*d-c*n)-g*(l*d-b*n)+j*(l*c-b*m)=0) := by
 intro h0 h1 h2 h3
 grind
theorem Ll : (a*(f*m-l*g)-b*(e*m-k*g)+c*(e*l-k*f)=0)→(¬ ((b*g-f*c=0∧c*e-g*a=0)∧a*f-e*b=0))→(e=0)→(f=0)→(¬ (l=0))→(¬ (l*g-f*m=0)) := by
 intro h0 h1 h2 h3 h4 hg
 grind
theorem Ld : (a*(f*m-l*g)-b*(e*m-k*g)+c*(e*l-k*f)=0)→(((a*n-k*d=0∧b*n-l*d=0)∧c*n-m*d=0))→(l*c-b*m=0)→(l*(g*d-c*j)-m*(f*d-b*j)+n*(f*c-b*g)=0) := by
 intro h0 h1 h2
 grind
theorem eM_pk83 : (a*(f*m-l*g)-b*(e*m-k*g)+c*(e*l-k*f)=0)→(¬ ((b*g-f*c=0∧c*e-g*a=0)∧a*f-e*b=0))→(((b*m-l*c=0∧c*k-m*a=0)∧a*l-k*b=0))→(e=0)→(k=0)→(¬ (l=0))→(¬ (l*g-f*m=0)) := by
 intro h0 h1 h2 h3 h4 h5 hg
 grind
theorem eM_pk84 : (a*(f*m-l*g)-b*(e*m-k*g)+c*(e*l-k*f)=0)→(¬ ((b*g-f*c=0∧c*e-g*a=0)∧a*f-e*b=0))→(((b*m-l*c=0∧c*k-m*a=0)∧a*l-k*b=0))→(a=0)→(k=0) := by
 intro h0 h1 h2 h3
 grind
theorem Hz : (a*(f*m-l*g)-b*(e*m-k*g)+c*(e*l-k*f)=0)→(¬ ((b*g-f*c=0∧c*e-g*a=0)∧a*f-e*b=0))→(e*b-a*f=0)→(e*l-k*f=0) := by
 intro h0 h1 h2
 grind
theorem Lz : (a*(f*m-l*g)-b*(e*m-k*g)+c*(e*l-k*f)=0)→(¬ ((b*g-f*c=0∧c*e-g*a=0)∧a*f-e*b=0))→(¬ (e=0))→(e*b-a*f=0)→(¬ (e*c-a*g=0)) := by
 intro h0 h1 h2 h3 hg
 grind
theorem Ss : (¬ ((k=0∧l=0)∧m=0))→(a*(f*m-l*g)-b*(e*m-k*g)+c*(e*l-k*f)=0)→(¬ (e=0))→(k=0)→(¬ (e*c-a*g=0))→(¬ (e*m-k*g=0)) := by
 intro h0 h1 h2 h3 h4 hg
 grind
theorem eM_pk88 : (a*(f*m-l*g)-b*(e*m-k*g)+c*(e*l-k*f)=0)→(((a*n-k*d=0∧b*n-l*d=0)∧c*n-m*d=0))→(a=0)→(k=0)→(e*(m*d-c*n)-g*(k*d-a*n)+j*(k*c-a*m)=0) := by
 intro h0 h1 h2 h3
 grind
theorem Sr : (¬ ((k=0∧l=0)∧m=0))→(a*(f*m-l*g)-b*(e*m-k*g)+c*(e*l-k*f)=0)→(¬ (e=0))→(k=0)→(¬ (e*b-a*f=0))→(¬ (e*l-k*f=0)) := by
 intro h0 h1 h2 h3 h4 hg
 grind
theorem eM_pk90 : (a*(f*m-l*g)-b*(e*m-k*g)+c*(e*l-k*f)=0)→(((a*n-k*d=0∧b*n-l*d=0)∧c*n-m*d=0))→(a=0)→(k=0)→(e*(l*d-b*n)-f*(k*d-a*n)+j*(k*b-a*l)=0) := by
 intro h0 h1 h2 h3
 grind
theorem Hu : (a*(f*m-l*g)-b*(e*m-k*g)+c*(e*l-k*f)=0)→(¬ ((b*g-f*c=0∧c*e-g*a=0)∧a*f-e*b=0))→(e=0)→(¬ (k=0))→(k*f-e*l=0)→(¬ (k*g-e*m=0)) := by
 intro h0 h1 h2 h3 h4 hg
 grind
theorem Lf : (a*(f*m-l*g)-b*(e*m-k*g)+c*(e*l-k*f)=0)→(((a*n-k*d=0∧b*n-l*d=0)∧c*n-m*d=0))→(k*c-a*m=0)→(k*(g*d-c*j)-m*(e*d-a*j)+n*(e*c-a*g)=0) := by
 intro h0 h1 h2
 grind
theorem GJ : (a*(f*m-l*g)-b*(e*m-k*g)+c*(e*l-k*f)=0)→(k*(f*c-b*g)-l*(e*c-a*g)+m*(e*b-a*f)=0) := by
 intro h0
 grind
theorem LM : (a*(f*m-l*g)-b*(e*m-k*g)+c*(e*l-k*f)=0)→(((a*n-k*d=0∧b*n-l*d=0)∧c*n-m*d=0))→(k*b-a*l=0)→(k*(f*d-b*j)-l*(e*d-a*j)+n*(e*b-a*f)=0) := by
 intro h0 h1 h2
 grind
theorem eM_pk95 : (a*(f*m-l*g)-b*(e*m-k*g)+c*(e*l-k*f)=0)→(¬ ((b*g-f*c=0∧c*e-g*a=0)∧a*f-e*b=0))→(((b*m-l*c=0∧c*k-m*a=0)∧a*l-k*b=0))→(¬ (k=0))→(k*f-e*l=0)→(¬ (k*g-e*m=0)) := by
 intro h0 h1 h2 h3 h4 hg
 grind
theorem eM_pk96 : (a*(f*m-l*g)-b*(e*m-k*g)+c*(e*l-k*f)=0)→(¬ ((b*m-l*c=0∧c*k-m*a=0)∧a*l-k*b=0))→(b=0)→(¬ (f=0))→(¬ (l=0)) := by
 intro h0 h1 h2 h3 hg
 grind
theorem eM_pk97 : (a*(f*m-l*g)-b*(e*m-k*g)+c*(e*l-k*f)=0)→(¬ ((b*m-l*c=0∧c*k-m*a=0)∧a*l-k*b=0))→(a=0)→(b=0)→(¬ (l=0))→(¬ (l*c-b*m=0)) := by
 intro h0 h1 h2 h3 h4 hg
 grind
theorem RQ : (a*(f*m-l*g)-b*(e*m-k*g)+c*(e*l-k*f)=0)→(((b*(g*n-m*j)-c*(f*n-l*j)+d*(f*m-l*g)=0∧c*(e*n-k*j)-a*(g*n-m*j)+d*(g*k-m*e)=0)∧a*(f*n-l*j)-b*(e*n-k*j)+d*(e*l-k*f)=0))→(l*(c*j-g*d)-m*(b*j-f*d)+n*(b*g-f*c)=0) := by
 intro h0 h1
 grind
theorem eM_pk99 : (a*(f*m-l*g)-b*(e*m-k*g)+c*(e*l-k*f)=0)→(¬ ((b*g-f*c=0∧c*e-g*a=0)∧a*f-e*b=0))→(e=0)→(¬ (b=0))→(f=0)→(¬ (b*g-f*c=0)) := by
 intro h0 h1 h2 h3 h4 hg
 grind
theorem eM_pk100 : (a*(f*m-l*g)-b*(e*m-k*g)+c*(e*l-k*f)=0)→(¬ ((b*m-l*c=0∧c*k-m*a=0)∧a*l-k*b=0))→(¬ (b*g-f*c=0))→(¬ (b*m-l*c=0)) := by
 intro h0 h1 h2 hg
 grind
theorem eM_pk101 : (a*(f*m-l*g)-b*(e*m-k*g)+c*(e*l-k*f)=0)→(((b*(g*n-m*j)-c*(f*n-l*j)+d*(f*m-l*g)=0∧c*(e*n-k*j)-a*(g*n-m*j)+d*(g*k-m*e)=0)∧a*(f*n-l*j)-b*(e*n-k*j)+d*(e*l-k*f)=0))→(b*(m*j-g*n)-c*(l*j-f*n)+d*(l*g-f*m)=0) := by
 intro h0 h1
 grind
theorem eM_pk102 : (a*(f*m-l*g)-b*(e*m-k*g)+c*(e*l-k*f)=0)→(¬ ((b*g-f*c=0∧c*e-g*a=0)∧a*f-e*b=0))→(a=0)→(e=0)→(¬ (f*c-b*g=0)) := by
 intro h0 h1 h2 h3 hg
 grind
theorem eM_pk103 : (a*(f*m-l*g)-b*(e*m-k*g)+c*(e*l-k*f)=0)→(¬ ((b*m-l*c=0∧c*k-m*a=0)∧a*l-k*b=0))→(¬ (f=0))→(l=0)→(¬ (f*c-b*g=0))→(¬ (f*m-l*g=0)) := by
 intro h0 h1 h2 h3 h4 hg
 grind
theorem eM_pk104 : (a*(f*m-l*g)-b*(e*m-k*g)+c*(e*l-k*f)=0)→(((b*(g*n-m*j)-c*(f*n-l*j)+d*(f*m-l*g)=0∧c*(e*n-k*j)-a*(g*n-m*j)+d*(g*k-m*e)=0)∧a*(f*n-l*j)-b*(e*n-k*j)+d*(e*l-k*f)=0))→(f*(m*d-c*n)-g*(l*d-b*n)+j*(l*c-b*m)=0) := by
 intro h0 h1
 grind
theorem eM_pk105 : (a*(f*m-l*g)-b*(e*m-k*g)+c*(e*l-k*f)=0)→(¬ ((b*m-l*c=0∧c*k-m*a=0)∧a*l-k*b=0))→(a=0)→(k=0)→(¬ (l*c-b*m=0)) := by
 intro h0 h1 h2 h3 hg
 grind
theorem eM_pk106 : (a*(f*m-l*g)-b*(e*m-k*g)+c*(e*l-k*f)=0)→(¬ ((b*m-l*c=0∧c*k-m*a=0)∧a*l-k*b=0))→(a=0)→(¬ (e=0))→(¬ (k=0)) := by
 intro h0 h1 h2 h3 hg
 grind
theorem Mx : (a*(f*m-l*g)-b*(e*m-k*g)+c*(e*l-k*f)=0)→(¬ ((b*m-l*c=0∧c*k-m*a=0)∧a*l-k*b=0))→(¬ (k=0))→(k*b-a*l=0)→(¬ (k*c-a*m=0)) := by
 intro h0 h1 h2 h3 hg
 grind
theorem Ik : (a*(f*m-l*g)-b*(e*m-k*g)+c*(e*l-k*f)=0)→(((b*(g*n-m*j)-c*(f*n-l*j)+d*(f*m-l*g)=0∧c*(e*n-k*j)-a*(g*n-m*j)+d*(g*k-m*e)=0)∧a*(f*n-l*j)-b*(e*n-k*j)+d*(e*l-k*f)=0))→(k*(c*j-g*d)-m*(a*j-e*d)+n*(a*g-e*c)=0) := by
 intro h0 h1
 grind
theorem Is : (a*(f*m-l*g)-b*(e*m-k*g)+c*(e*l-k*f)=0)→(((b*(g*n-m*j)-c*(f*n-l*j)+d*(f*m-l*g)=0∧c*(e*n-k*j)-a*(g*n-m*j)+d*(g*k-m*e)=0)∧a*(f*n-l*j)-b*(e*n-k*j)+d*(e*l-k*f)=0))→(k*(b*j-f*d)-l*(a*j-e*d)+n*(a*f-e*b)=0) := by
 intro h0 h1
 grind
theorem eM_pk110 : (a*(f*m-l*g)-b*(e*m-k*g)+c*(e*l-k*f)=0)→(¬ ((b*g-f*c=0∧c*e-g*a=0)∧a*f-e*b=0))→(a*f-e*b=0)→(a*l-k*b=0) := by
 intro h0 h1 h2
 grind
theorem eM_pk111 : (a*(f*m-l*g)-b*(e*m-k*g)+c*(e*l-k*f)=0)→(¬ ((b*g-f*c=0∧c*e-g*a=0)∧a*f-e*b=0))→(¬ (a=0))→(a*f-e*b=0)→(¬ (a*g-e*c=0)) := by
 intro h0 h1 h2 h3 hg
 grind
theorem eM_pk112 : (a*(f*m-l*g)-b*(e*m-k*g)+c*(e*l-k*f)=0)→(¬ ((b*m-l*c=0∧c*k-m*a=0)∧a*l-k*b=0))→(¬ (a*g-e*c=0))→(¬ (a*m-k*c=0)) := by
 intro h0 h1 h2 hg
 grind
theorem eM_pk113 : (a*(f*m-l*g)-b*(e*m-k*g)+c*(e*l-k*f)=0)→(((b*(g*n-m*j)-c*(f*n-l*j)+d*(f*m-l*g)=0∧c*(e*n-k*j)-a*(g*n-m*j)+d*(g*k-m*e)=0)∧a*(f*n-l*j)-b*(e*n-k*j)+d*(e*l-k*f)=0))→(a*(m*j-g*n)-c*(k*j-e*n)+d*(k*g-e*m)=0) := by
 intro h0 h1
 grind
theorem eM_pk114 : (a*(f*m-l*g)-b*(e*m-k*g)+c*(e*l-k*f)=0)→(¬ ((b*m-l*c=0∧c*k-m*a=0)∧a*l-k*b=0))→(¬ (a*f-e*b=0))→(¬ (a*l-k*b=0)) := by
 intro h0 h1 h2 hg
 grind
theorem Mu : (a*(f*m-l*g)-b*(e*m-k*g)+c*(e*l-k*f)=0)→(a*(l*g-f*m)-b*(k*g-e*m)+c*(k*f-e*l)=0) := by
 intro h0
 grind
theorem eM_pk116 : (a*(f*m-l*g)-b*(e*m-k*g)+c*(e*l-k*f)=0)→(((b*(g*n-m*j)-c*(f*n-l*j)+d*(f*m-l*g)=0∧c*(e*n-k*j)-a*(g*n-m*j)+d*(g*k-m*e)=0)∧a*(f*n-l*j)-b*(e*n-k*j)+d*(e*l-k*f)=0))→(a*(l*j-f*n)-b*(k*j-e*n)+d*(k*f-e*l)=0) := by
 intro h0 h1
 grind
theorem eM_pk117 : (a*(f*m-l*g)-b*(e*m-k*g)+c*(e*l-k*f)=0)→(¬ ((b*g-f*c=0∧c*e-g*a=0)∧a*f-e*b=0))→(e=0)→(¬ (k=0))→(k*f-e*l=0)→(k*b-a*l=0) := by
 intro h0 h1 h2 h3 h4
 grind
theorem eM_pk118 : (a*(f*m-l*g)-b*(e*m-k*g)+c*(e*l-k*f)=0)→(¬ ((b*m-l*c=0∧c*k-m*a=0)∧a*l-k*b=0))→(¬ (e=0))→(k=0)→(¬ (e*c-a*g=0))→(¬ (e*m-k*g=0)) := by
 intro h0 h1 h2 h3 h4 hg
 grind
theorem eM_pk119 : (a*(f*m-l*g)-b*(e*m-k*g)+c*(e*l-k*f)=0)→(((b*(g*n-m*j)-c*(f*n-l*j)+d*(f*m-l*g)=0∧c*(e*n-k*j)-a*(g*n-m*j)+d*(g*k-m*e)=0)∧a*(f*n-l*j)-b*(e*n-k*j)+d*(e*l-k*f)=0))→(e*(m*d-c*n)-g*(k*d-a*n)+j*(k*c-a*m)=0) := by
 intro h0 h1
 grind
theorem eM_pk120 : (a*(f*m-l*g)-b*(e*m-k*g)+c*(e*l-k*f)=0)→(¬ ((b*m-l*c=0∧c*k-m*a=0)∧a*l-k*b=0))→(¬ (e=0))→(k=0)→(¬ (e*b-a*f=0))→(¬ (e*l-k*f=0)) := by
 intro h0 h1 h2 h3 h4 hg
 grind
theorem eM_pk121 : (a*(f*m-l*g)-b*(e*m-k*g)+c*(e*l-k*f)=0)→(((b*(g*n-m*j)-c*(f*n-l*j)+d*(f*m-l*g)=0∧c*(e*n-k*j)-a*(g*n-m*j)+d*(g*k-m*e)=0)∧a*(f*n-l*j)-b*(e*n-k*j)+d*(e*l-k*f)=0))→(e*(l*d-b*n)-f*(k*d-a*n)+j*(k*b-a*l)=0) := by
 intro h0 h1
 grind
theorem eM_pk122 : (a*(f*m-l*g)-b*(e*m-k*g)+c*(e*l-k*f)=0)→(¬ ((b*(g*n-m*j)-c*(f*n-l*j)+d*(f*m-l*g)=0∧c*(e*n-k*j)-a*(g*n-m*j)+d*(g*k-m*e)=0)∧a*(f*n-l*j)-b*(e*n-k*j)+d*(e*l-k*f)=0))→(a=0)→(e=0)→(k=0)→(b=0)→(f=0)→(¬ (l=0)) := by
 intro h0 h1 h2 h3 h4 h5 h6 hg
 grind
theorem Cc : (¬ ((a=0∧b=0)∧c=0))→(a*(f*m-l*g)-b*(e*m-k*g)+c*(e*l-k*f)=0)→(b=0)→(¬ (l=0))→(¬ (l*g-f*m=0))→(¬ (l*c-b*m=0)) := by
 intro h0 h1 h2 h3 h4 hg
 grind
theorem Oe : (a*(f*m-l*g)-b*(e*m-k*g)+c*(e*l-k*f)=0)→(¬ ((b*(g*n-m*j)-c*(f*n-l*j)+d*(f*m-l*g)=0∧c*(e*n-k*j)-a*(g*n-m*j)+d*(g*k-m*e)=0)∧a*(f*n-l*j)-b*(e*n-k*j)+d*(e*l-k*f)=0))→(¬ (l*c-b*m=0))→(¬ (l*(c*j-g*d)-m*(b*j-f*d)+n*(b*g-f*c)=0)) := by
 intro h0 h1 h2 hg
 grind
theorem eM_pk125 : (¬ ((a=0∧b=0)∧c=0))→(a*(f*m-l*g)-b*(e*m-k*g)+c*(e*l-k*f)=0)→(a=0)→(b=0)→(¬ (f=0))→(¬ (f*c-b*g=0)) := by
 intro h0 h1 h2 h3 h4 hg
 grind
theorem Pi : (a*(f*m-l*g)-b*(e*m-k*g)+c*(e*l-k*f)=0)→(¬ ((b*(g*n-m*j)-c*(f*n-l*j)+d*(f*m-l*g)=0∧c*(e*n-k*j)-a*(g*n-m*j)+d*(g*k-m*e)=0)∧a*(f*n-l*j)-b*(e*n-k*j)+d*(e*l-k*f)=0))→(¬ (f*m-l*g=0))→(¬ (f*(m*d-c*n)-g*(l*d-b*n)+j*(l*c-b*m)=0)) := by
 intro h0 h1 h2 hg
 grind
theorem CN : (a*(f*m-l*g)-b*(e*m-k*g)+c*(e*l-k*f)=0)→(¬ ((b*(g*n-m*j)-c*(f*n-l*j)+d*(f*m-l*g)=0∧c*(e*n-k*j)-a*(g*n-m*j)+d*(g*k-m*e)=0)∧a*(f*n-l*j)-b*(e*n-k*j)+d*(e*l-k*f)=0))→(a=0)→(e=0)→(k=0)→(¬ (l=0))→(l*g-f*m=0)→(¬ (l*c-b*m=0)) := by
 intro h0 h1 h2 h3 h4 h5 h6 hg
 grind
theorem eM_pk128 : (¬ ((e=0∧f=0)∧g=0))→(a*(f*m-l*g)-b*(e*m-k*g)+c*(e*l-k*f)=0)→(e=0)→(¬ (b=0))→(f=0)→(¬ (b*g-f*c=0)) := by
 intro h0 h1 h2 h3 h4 hg
 grind
theorem eM_pk129 : (¬ ((k=0∧l=0)∧m=0))→(a*(f*m-l*g)-b*(e*m-k*g)+c*(e*l-k*f)=0)→(f=0)→(l=0)→(¬ (b*g-f*c=0))→(¬ (b*m-l*c=0)) := by
 intro h0 h1 h2 h3 h4 hg
 grind
theorem eM_pk130 : (a*(f*m-l*g)-b*(e*m-k*g)+c*(e*l-k*f)=0)→(¬ ((b*(g*n-m*j)-c*(f*n-l*j)+d*(f*m-l*g)=0∧c*(e*n-k*j)-a*(g*n-m*j)+d*(g*k-m*e)=0)∧a*(f*n-l*j)-b*(e*n-k*j)+d*(e*l-k*f)=0))→(¬ (b*m-l*c=0))→(¬ (b*(m*j-g*n)-c*(l*j-f*n)+d*(l*g-f*m)=0)) := by
 intro h0 h1 h2 hg
 grind
theorem Ee : (a*(f*m-l*g)-b*(e*m-k*g)+c*(e*l-k*f)=0)→(¬ ((b*(g*n-m*j)-c*(f*n-l*j)+d*(f*m-l*g)=0∧c*(e*n-k*j)-a*(g*n-m*j)+d*(g*k-m*e)=0)∧a*(f*n-l*j)-b*(e*n-k*j)+d*(e*l-k*f)=0))→(¬ (l*g-f*m=0))→(¬ (l*(g*d-c*j)-m*(f*d-b*j)+n*(f*c-b*g)=0)) := by
 intro h0 h1 h2 hg
 grind
theorem eM_pk132 : (a*(f*m-l*g)-b*(e*m-k*g)+c*(e*l-k*f)=0)→(¬ ((b*(g*n-m*j)-c*(f*n-l*j)+d*(f*m-l*g)=0∧c*(e*n-k*j)-a*(g*n-m*j)+d*(g*k-m*e)=0)∧a*(f*n-l*j)-b*(e*n-k*j)+d*(e*l-k*f)=0))→(a=0)→(e=0)→(k=0)→(¬ (f=0))→(f*c-b*g=0)→(¬ (f*m-l*g=0)) := by
 intro h0 h1 h2 h3 h4 h5 h6 hg
 grind
theorem Cg : (¬ ((a=0∧b=0)∧c=0))→(a*(f*m-l*g)-b*(e*m-k*g)+c*(e*l-k*f)=0)→(a=0)→(¬ (k=0))→(¬ (k*g-e*m=0))→(¬ (k*c-a*m=0)) := by
 intro h0 h1 h2 h3 h4 hg
 grind
theorem Om : (a*(f*m-l*g)-b*(e*m-k*g)+c*(e*l-k*f)=0)→(¬ ((b*(g*n-m*j)-c*(f*n-l*j)+d*(f*m-l*g)=0∧c*(e*n-k*j)-a*(g*n-m*j)+d*(g*k-m*e)=0)∧a*(f*n-l*j)-b*(e*n-k*j)+d*(e*l-k*f)=0))→(¬ (k*c-a*m=0))→(¬ (k*(c*j-g*d)-m*(a*j-e*d)+n*(a*g-e*c)=0)) := by
 intro h0 h1 h2 hg
 grind
theorem Mo : (¬ ((a=0∧b=0)∧c=0))→(a*(f*m-l*g)-b*(e*m-k*g)+c*(e*l-k*f)=0)→(a=0)→(¬ (k=0))→(¬ (k*f-e*l=0))→(¬ (k*b-a*l=0)) := by
 intro h0 h1 h2 h3 h4 hg
 grind
theorem WT : (a*(f*m-l*g)-b*(e*m-k*g)+c*(e*l-k*f)=0)→(¬ ((b*(g*n-m*j)-c*(f*n-l*j)+d*(f*m-l*g)=0∧c*(e*n-k*j)-a*(g*n-m*j)+d*(g*k-m*e)=0)∧a*(f*n-l*j)-b*(e*n-k*j)+d*(e*l-k*f)=0))→(¬ (k*b-a*l=0))→(¬ (k*(b*j-f*d)-l*(a*j-e*d)+n*(a*f-e*b)=0)) := by
 intro h0 h1 h2 hg
 grind
theorem eM_pk137 : (¬ ((a=0∧b=0)∧c=0))→(a*(f*m-l*g)-b*(e*m-k*g)+c*(e*l-k*f)=0)→(a=0)→(k=0)→(e*b-a*f=0)→(e*l-k*f=0) := by
 intro h0 h1 h2 h3 h4
 grind
theorem eM_pk138 : (¬ ((a=0∧b=0)∧c=0))→(a*(f*m-l*g)-b*(e*m-k*g)+c*(e*l-k*f)=0)→(a=0)→(¬ (e=0))→(e*b-a*f=0)→(¬ (e*c-a*g=0)) := by
 intro h0 h1 h2 h3 h4 hg
 grind
theorem Pv : (a*(f*m-l*g)-b*(e*m-k*g)+c*(e*l-k*f)=0)→(¬ ((b*(g*n-m*j)-c*(f*n-l*j)+d*(f*m-l*g)=0∧c*(e*n-k*j)-a*(g*n-m*j)+d*(g*k-m*e)=0)∧a*(f*n-l*j)-b*(e*n-k*j)+d*(e*l-k*f)=0))→(¬ (e*m-k*g=0))→(¬ (e*(m*d-c*n)-g*(k*d-a*n)+j*(k*c-a*m)=0)) := by
 intro h0 h1 h2 hg
 grind
theorem Pa : (a*(f*m-l*g)-b*(e*m-k*g)+c*(e*l-k*f)=0)→(¬ ((b*(g*n-m*j)-c*(f*n-l*j)+d*(f*m-l*g)=0∧c*(e*n-k*j)-a*(g*n-m*j)+d*(g*k-m*e)=0)∧a*(f*n-l*j)-b*(e*n-k*j)+d*(e*l-k*f)=0))→(¬ (e*l-k*f=0))→(¬ (e*(l*d-b*n)-f*(k*d-a*n)+j*(k*b-a*l)=0)) := by
 intro h0 h1 h2 hg
 grind
theorem CC : (a*(f*m-l*g)-b*(e*m-k*g)+c*(e*l-k*f)=0)→(¬ ((b*(g*n-m*j)-c*(f*n-l*j)+d*(f*m-l*g)=0∧c*(e*n-k*j)-a*(g*n-m*j)+d*(g*k-m*e)=0)∧a*(f*n-l*j)-b*(e*n-k*j)+d*(e*l-k*f)=0))→(¬ (k=0))→(k*f-e*l=0)→(k*b-a*l=0)→(k*g-e*m=0)→(¬ (k*c-a*m=0)) := by
 intro h0 h1 h2 h3 h4 h5 hg
 grind
theorem eM_pk142 : (¬ ((e=0∧f=0)∧g=0))→(a*(f*m-l*g)-b*(e*m-k*g)+c*(e*l-k*f)=0)→(e=0)→(k=0)→(a*f-e*b=0)→(a*l-k*b=0) := by
 intro h0 h1 h2 h3 h4
 grind
theorem eM_pk143 : (¬ ((e=0∧f=0)∧g=0))→(a*(f*m-l*g)-b*(e*m-k*g)+c*(e*l-k*f)=0)→(¬ (a=0))→(e=0)→(a*f-e*b=0)→(¬ (a*g-e*c=0)) := by
 intro h0 h1 h2 h3 h4 hg
 grind
theorem eM_pk144 : (¬ ((k=0∧l=0)∧m=0))→(a*(f*m-l*g)-b*(e*m-k*g)+c*(e*l-k*f)=0)→(e=0)→(k=0)→(¬ (a*g-e*c=0))→(¬ (a*m-k*c=0)) := by
 intro h0 h1 h2 h3 h4 hg
 grind
theorem eM_pk145 : (a*(f*m-l*g)-b*(e*m-k*g)+c*(e*l-k*f)=0)→(¬ ((b*(g*n-m*j)-c*(f*n-l*j)+d*(f*m-l*g)=0∧c*(e*n-k*j)-a*(g*n-m*j)+d*(g*k-m*e)=0)∧a*(f*n-l*j)-b*(e*n-k*j)+d*(e*l-k*f)=0))→(¬ (a*m-k*c=0))→(¬ (a*(m*j-g*n)-c*(k*j-e*n)+d*(k*g-e*m)=0)) := by
 intro h0 h1 h2 hg
 grind
theorem eM_pk146 : (¬ ((k=0∧l=0)∧m=0))→(a*(f*m-l*g)-b*(e*m-k*g)+c*(e*l-k*f)=0)→(e=0)→(k=0)→(¬ (a*f-e*b=0))→(¬ (a*l-k*b=0)) := by
 intro h0 h1 h2 h3 h4 hg
 grind
theorem eM_pk147 : (a*(f*m-l*g)-b*(e*m-k*g)+c*(e*l-k*f)=0)→(¬ ((b*(g*n-m*j)-c*(f*n-l*j)+d*(f*m-l*g)=0∧c*(e*n-k*j)-a*(g*n-m*j)+d*(g*k-m*e)=0)∧a*(f*n-l*j)-b*(e*n-k*j)+d*(e*l-k*f)=0))→(¬ (a*l-k*b=0))→(¬ (a*(l*j-f*n)-b*(k*j-e*n)+d*(k*f-e*l)=0)) := by
 intro h0 h1 h2 hg
 grind
theorem Mr : (a*(f*m-l*g)-b*(e*m-k*g)+c*(e*l-k*f)=0)→(¬ ((b*(g*n-m*j)-c*(f*n-l*j)+d*(f*m-l*g)=0∧c*(e*n-k*j)-a*(g*n-m*j)+d*(g*k-m*e)=0)∧a*(f*n-l*j)-b*(e*n-k*j)+d*(e*l-k*f)=0))→(¬ (k*g-e*m=0))→(¬ (k*(g*d-c*j)-m*(e*d-a*j)+n*(e*c-a*g)=0)) := by
 intro h0 h1 h2 hg
 grind
theorem MG : (a*(f*m-l*g)-b*(e*m-k*g)+c*(e*l-k*f)=0)→(¬ ((b*(g*n-m*j)-c*(f*n-l*j)+d*(f*m-l*g)=0∧c*(e*n-k*j)-a*(g*n-m*j)+d*(g*k-m*e)=0)∧a*(f*n-l*j)-b*(e*n-k*j)+d*(e*l-k*f)=0))→(¬ (k*f-e*l=0))→(¬ (k*(f*d-b*j)-l*(e*d-a*j)+n*(e*b-a*f)=0)) := by
 intro h0 h1 h2 hg
 grind
theorem eM_pk150 : (a*(f*m-l*g)-b*(e*m-k*g)+c*(e*l-k*f)=0)→(¬ ((b*(g*n-m*j)-c*(f*n-l*j)+d*(f*m-l*g)=0∧c*(e*n-k*j)-a*(g*n-m*j)+d*(g*k-m*e)=0)∧a*(f*n-l*j)-b*(e*n-k*j)+d*(e*l-k*f)=0))→(¬ (e=0))→(e*b-a*f=0)→(e*l-k*f=0)→(e*c-a*g=0)→(¬ (e*m-k*g=0)) := by
 intro h0 h1 h2 h3 h4 h5 hg
 grind
end
theorem GU (H : Zo q σ) : (q 28 ≠ 0)→(q 173*q 28=q 28*q 16-q 15*q 29) :=
 fun hp => JH H [28] 5 173 28 (.S (.M (.v 28) (.v 16)) (.M (.v 15) (.v 29))) hp (by kernel_rfl)
theorem PY (H : Zo q σ) : (q 28 ≠ 0)→(q 175*q 28=q 28*q 3-q 2*q 29) :=
 fun hp => JH H [28] 5 175 28 (.S (.M (.v 28) (.v 3)) (.M (.v 2) (.v 29))) hp (by kernel_rfl)
theorem QJ (H : Zo q σ) : (q 27 ≠ 0)→(q 182*q 27=q 27*q 15-q 14*q 28) :=
 fun hp => JH H [27] 5 182 27 (.S (.M (.v 27) (.v 15)) (.M (.v 14) (.v 28))) hp (by kernel_rfl)
theorem Zh (H : Zo q σ) : (q 27 ≠ 0)→(q 189*q 27=q 27*q 2-q 1*q 28) :=
 fun hp => JH H [27] 5 189 27 (.S (.M (.v 27) (.v 2)) (.M (.v 1) (.v 28))) hp (by kernel_rfl)
theorem ZD (H : Zo q σ) : (q 27 ≠ 0)→(q 191*q 27=q 27*q 16-q 14*q 29) :=
 fun hp => JH H [27] 5 191 27 (.S (.M (.v 27) (.v 16)) (.M (.v 14) (.v 29))) hp (by kernel_rfl)
theorem ZH (H : Zo q σ) : (q 27 ≠ 0)→(q 193*q 27=q 27*q 3-q 1*q 29) :=
 fun hp => JH H [27] 5 193 27 (.S (.M (.v 27) (.v 3)) (.M (.v 1) (.v 29))) hp (by kernel_rfl)
theorem Jz (H : Zo q σ) : (q 26 ≠ 0)→(q 198*q 26=q 26*q 14-q 13*q 27) :=
 fun hp => JH H [26] 5 198 26 (.S (.M (.v 26) (.v 14)) (.M (.v 13) (.v 27))) hp (by kernel_rfl)
theorem JV (H : Zo q σ) : (q 26 ≠ 0)→(q 205*q 26=q 26*q 1-q 0*q 27) :=
 fun hp => JH H [26] 5 205 26 (.S (.M (.v 26) (.v 1)) (.M (.v 0) (.v 27))) hp (by kernel_rfl)
theorem Jw (H : Zo q σ) : (q 26 ≠ 0)→(q 200*q 26=q 26*q 15-q 13*q 28) :=
 fun hp => JH H [26] 5 200 26 (.S (.M (.v 26) (.v 15)) (.M (.v 13) (.v 28))) hp (by kernel_rfl)
theorem JM (H : Zo q σ) : (q 26 ≠ 0)→(q 207*q 26=q 26*q 2-q 0*q 28) :=
 fun hp => JH H [26] 5 207 26 (.S (.M (.v 26) (.v 2)) (.M (.v 0) (.v 28))) hp (by kernel_rfl)
theorem Zz (H : Zo q σ) : (q 26 ≠ 0)→(q 209*q 26=q 26*q 16-q 13*q 29) :=
 fun hp => JH H [26] 5 209 26 (.S (.M (.v 26) (.v 16)) (.M (.v 13) (.v 29))) hp (by kernel_rfl)
theorem ZF (H : Zo q σ) : (q 26 ≠ 0)→(q 211*q 26=q 26*q 3-q 0*q 29) :=
 fun hp => JH H [26] 5 211 26 (.S (.M (.v 26) (.v 3)) (.M (.v 0) (.v 29))) hp (by kernel_rfl)
theorem eM_fCD0 (H : Zo q σ) (a0 : ¬ (q 8=0)) (a2 : ¬ (q 34=0)) (j : ¬ (q 142=0)) : ¬ ((q 0*q 29-q 26*q 3=0∧q 1*q 29-q 27*q 3=0)∧q 2*q 29-q 28*q 3=0) := fun h => j ((Eu H a0 a2).2 h)
theorem Lc (H : Zo q σ) (a0 : ¬ (q 8=0)) (a2 : ¬ (q 34=0)) (j : ¬ (q 128=0)) : ¬ ((q 1*q 28-q 27*q 2=0∧q 2*q 26-q 28*q 0=0)∧q 0*q 27-q 26*q 1=0) := fun h => j ((eM_pAC H a0 a2).2 h)
theorem Xt (H : Zo q σ) : (q 27 ≠ 0)→(q 189 ≠ 0)→(q 191*q 27=q 27*q 16-q 14*q 29)→(q 193*q 27=q 27*q 3-q 1*q 29)→(q 182*q 27=q 27*q 15-q 14*q 28)→(q 189*q 27=q 27*q 2-q 1*q 28)→(q 247*(q 27*q 2-q 1*q 28)=q 27*(q 2*q 16-q 15*q 3)-q 28*(q 1*q 16-q 14*q 3)+q 29*(q 1*q 15-q 14*q 2)) := by
 have e239:q 239=q 182/q 189:=H 239 _ rfl;have e246:q 246=q 239*q 193:=H 246 _ rfl;have e247:q 247=q 191-q 246:=H 247 _ rfl
 clear H
 intro hp hv ha hb hu hw
 exact UA hp hv ha hb hu hw e239 (e247.trans (congrArg _ e246)) (by clear hp hv ha hb hu hw e239 e246 e247; grind)
theorem Xn (H : Zo q σ) : (q 14 ≠ 0)→(q 254*q 14=q 14*q 2-q 1*q 15) :=
 fun hp => JH H [14] 5 254 14 (.S (.M (.v 14) (.v 2)) (.M (.v 1) (.v 15))) hp (by kernel_rfl)
theorem Xs (H : Zo q σ) : (q 14 ≠ 0)→(q 261*q 14=q 14*q 28-q 27*q 15) :=
 fun hp => JH H [14] 5 261 14 (.S (.M (.v 14) (.v 28)) (.M (.v 27) (.v 15))) hp (by kernel_rfl)
theorem WZ (H : Zo q σ) : (q 14 ≠ 0)→(q 270*q 14=q 14*q 3-q 1*q 16) :=
 fun hp => JH H [14] 5 270 14 (.S (.M (.v 14) (.v 3)) (.M (.v 1) (.v 16))) hp (by kernel_rfl)
theorem Ol (H : Zo q σ) : (q 14 ≠ 0)→(q 272*q 14=q 14*q 29-q 27*q 16) :=
 fun hp => JH H [14] 5 272 14 (.S (.M (.v 14) (.v 29)) (.M (.v 27) (.v 16))) hp (by kernel_rfl)
theorem Oj (H : Zo q σ) : (q 14 ≠ 0)→(q 261 ≠ 0)→(q 270*q 14=q 14*q 3-q 1*q 16)→(q 272*q 14=q 14*q 29-q 27*q 16)→(q 254*q 14=q 14*q 2-q 1*q 15)→(q 261*q 14=q 14*q 28-q 27*q 15)→(q 274*(q 14*q 28-q 27*q 15)=q 14*(q 28*q 3-q 2*q 29)-q 15*(q 27*q 3-q 1*q 29)+q 16*(q 27*q 2-q 1*q 28)) := by
 have e262:q 262=q 254/q 261:=H 262 _ rfl;have e273:q 273=q 262*q 272:=H 273 _ rfl;have e274:q 274=q 270-q 273:=H 274 _ rfl
 clear H
 intro hp hv ha hb hu hw
 exact UA hp hv ha hb hu hw e262 (e274.trans (congrArg _ e273)) (by clear hp hv ha hb hu hw e262 e273 e274; grind)
theorem Xr (H : Zo q σ) : (q 26 ≠ 0)→(q 207 ≠ 0)→(q 209*q 26=q 26*q 16-q 13*q 29)→(q 211*q 26=q 26*q 3-q 0*q 29)→(q 200*q 26=q 26*q 15-q 13*q 28)→(q 207*q 26=q 26*q 2-q 0*q 28)→(q 283*(q 26*q 2-q 0*q 28)=q 26*(q 2*q 16-q 15*q 3)-q 28*(q 0*q 16-q 13*q 3)+q 29*(q 0*q 15-q 13*q 2)) := by
 have e275:q 275=q 200/q 207:=H 275 _ rfl;have e282:q 282=q 275*q 211:=H 282 _ rfl;have e283:q 283=q 209-q 282:=H 283 _ rfl
 clear H
 intro hp hv ha hb hu hw
 exact UA hp hv ha hb hu hw e275 (e283.trans (congrArg _ e282)) (by clear hp hv ha hb hu hw e275 e282 e283; grind)
theorem Xp (H : Zo q σ) : (q 26 ≠ 0)→(q 205 ≠ 0)→(q 200*q 26=q 26*q 15-q 13*q 28)→(q 207*q 26=q 26*q 2-q 0*q 28)→(q 198*q 26=q 26*q 14-q 13*q 27)→(q 205*q 26=q 26*q 1-q 0*q 27)→(q 290*(q 26*q 1-q 0*q 27)=q 26*(q 1*q 15-q 14*q 2)-q 27*(q 0*q 15-q 13*q 2)+q 28*(q 0*q 14-q 13*q 1)) := by
 have e284:q 284=q 198/q 205:=H 284 _ rfl;have e289:q 289=q 284*q 207:=H 289 _ rfl;have e290:q 290=q 200-q 289:=H 290 _ rfl
 clear H
 intro hp hv ha hb hu hw
 exact UA hp hv ha hb hu hw e284 (e290.trans (congrArg _ e289)) (by clear hp hv ha hb hu hw e284 e289 e290; grind)
theorem Xm (H : Zo q σ) : (q 26 ≠ 0)→(q 205 ≠ 0)→(q 209*q 26=q 26*q 16-q 13*q 29)→(q 211*q 26=q 26*q 3-q 0*q 29)→(q 198*q 26=q 26*q 14-q 13*q 27)→(q 205*q 26=q 26*q 1-q 0*q 27)→(q 292*(q 26*q 1-q 0*q 27)=q 26*(q 1*q 16-q 14*q 3)-q 27*(q 0*q 16-q 13*q 3)+q 29*(q 0*q 14-q 13*q 1)) := by
 have e284:q 284=q 198/q 205:=H 284 _ rfl;have e291:q 291=q 284*q 211:=H 291 _ rfl;have e292:q 292=q 209-q 291:=H 292 _ rfl
 clear H
 intro hp hv ha hb hu hw
 exact UA hp hv ha hb hu hw e284 (e292.trans (congrArg _ e291)) (by clear hp hv ha hb hu hw e284 e291 e292; grind)
theorem IE (H : Zo q σ) : (q 13 ≠ 0)→(q 297*q 13=q 13*q 1-q 0*q 14) :=
 fun hp => JH H [13] 5 297 13 (.S (.M (.v 13) (.v 1)) (.M (.v 0) (.v 14))) hp (by kernel_rfl)
theorem Ih (H : Zo q σ) : (q 13 ≠ 0)→(q 304*q 13=q 13*q 27-q 26*q 14) :=
 fun hp => JH H [13] 5 304 13 (.S (.M (.v 13) (.v 27)) (.M (.v 26) (.v 14))) hp (by kernel_rfl)
theorem Ic (H : Zo q σ) : (q 13 ≠ 0)→(q 299*q 13=q 13*q 2-q 0*q 15) :=
 fun hp => JH H [13] 5 299 13 (.S (.M (.v 13) (.v 2)) (.M (.v 0) (.v 15))) hp (by kernel_rfl)
theorem Ix (H : Zo q σ) : (q 13 ≠ 0)→(q 306*q 13=q 13*q 28-q 26*q 15) :=
 fun hp => JH H [13] 5 306 13 (.S (.M (.v 13) (.v 28)) (.M (.v 26) (.v 15))) hp (by kernel_rfl)
theorem Vn (H : Zo q σ) : (q 13 ≠ 0)→(q 315*q 13=q 13*q 3-q 0*q 16) :=
 fun hp => JH H [13] 5 315 13 (.S (.M (.v 13) (.v 3)) (.M (.v 0) (.v 16))) hp (by kernel_rfl)
theorem Vx (H : Zo q σ) : (q 13 ≠ 0)→(q 317*q 13=q 13*q 29-q 26*q 16) :=
 fun hp => JH H [13] 5 317 13 (.S (.M (.v 13) (.v 29)) (.M (.v 26) (.v 16))) hp (by kernel_rfl)
theorem WO (H : Zo q σ) : (q 13 ≠ 0)→(q 306 ≠ 0)→(q 315*q 13=q 13*q 3-q 0*q 16)→(q 317*q 13=q 13*q 29-q 26*q 16)→(q 299*q 13=q 13*q 2-q 0*q 15)→(q 306*q 13=q 13*q 28-q 26*q 15)→(q 319*(q 13*q 28-q 26*q 15)=q 13*(q 28*q 3-q 2*q 29)-q 15*(q 26*q 3-q 0*q 29)+q 16*(q 26*q 2-q 0*q 28)) := by
 have e307:q 307=q 299/q 306:=H 307 _ rfl;have e318:q 318=q 307*q 317:=H 318 _ rfl;have e319:q 319=q 315-q 318:=H 319 _ rfl
 clear H
 intro hp hv ha hb hu hw
 exact UA hp hv ha hb hu hw e307 (e319.trans (congrArg _ e318)) (by clear hp hv ha hb hu hw e307 e318 e319; grind)
theorem WS (H : Zo q σ) : (q 13 ≠ 0)→(q 304 ≠ 0)→(q 299*q 13=q 13*q 2-q 0*q 15)→(q 306*q 13=q 13*q 28-q 26*q 15)→(q 297*q 13=q 13*q 1-q 0*q 14)→(q 304*q 13=q 13*q 27-q 26*q 14)→(q 326*(q 13*q 27-q 26*q 14)=q 13*(q 27*q 2-q 1*q 28)-q 14*(q 26*q 2-q 0*q 28)+q 15*(q 26*q 1-q 0*q 27)) := by
 have e320:q 320=q 297/q 304:=H 320 _ rfl;have e325:q 325=q 320*q 306:=H 325 _ rfl;have e326:q 326=q 299-q 325:=H 326 _ rfl
 clear H
 intro hp hv ha hb hu hw
 exact UA hp hv ha hb hu hw e320 (e326.trans (congrArg _ e325)) (by clear hp hv ha hb hu hw e320 e325 e326; grind)
theorem WW (H : Zo q σ) : (q 13 ≠ 0)→(q 304 ≠ 0)→(q 315*q 13=q 13*q 3-q 0*q 16)→(q 317*q 13=q 13*q 29-q 26*q 16)→(q 297*q 13=q 13*q 1-q 0*q 14)→(q 304*q 13=q 13*q 27-q 26*q 14)→(q 328*(q 13*q 27-q 26*q 14)=q 13*(q 27*q 3-q 1*q 29)-q 14*(q 26*q 3-q 0*q 29)+q 16*(q 26*q 1-q 0*q 27)) := by
 have e320:q 320=q 297/q 304:=H 320 _ rfl;have e327:q 327=q 320*q 317:=H 327 _ rfl;have e328:q 328=q 315-q 327:=H 328 _ rfl
 clear H
 intro hp hv ha hb hu hw
 exact UA hp hv ha hb hu hw e320 (e328.trans (congrArg _ e327)) (by clear hp hv ha hb hu hw e320 e327 e328; grind)
theorem eM_fBD0 (H : Zo q σ) (a0 : ¬ (q 8=0)) (a1 : ¬ (q 21=0)) (j : ¬ (q 114=0)) : ¬ ((q 0*q 16-q 13*q 3=0∧q 1*q 16-q 14*q 3=0)∧q 2*q 16-q 15*q 3=0) := fun h => j ((eM_pBD H a0 a1).2 h)
theorem eM_fAB0 (H : Zo q σ) (a0 : ¬ (q 8=0)) (a1 : ¬ (q 21=0)) (j : ¬ (q 100=0)) : ¬ ((q 1*q 15-q 14*q 2=0∧q 2*q 13-q 15*q 0=0)∧q 0*q 14-q 13*q 1=0) := fun h => j ((eM_pAB H a0 a1).2 h)
theorem RO (H : Zo q σ) : (q 27 ≠ 0)→(q 182 ≠ 0)→(q 193*q 27=q 27*q 3-q 1*q 29)→(q 191*q 27=q 27*q 16-q 14*q 29)→(q 189*q 27=q 27*q 2-q 1*q 28)→(q 182*q 27=q 27*q 15-q 14*q 28)→(q 364*(q 27*q 15-q 14*q 28)=q 27*(q 15*q 3-q 2*q 16)-q 28*(q 14*q 3-q 1*q 16)+q 29*(q 14*q 2-q 1*q 15)) := by
 have e356:q 356=q 189/q 182:=H 356 _ rfl;have e363:q 363=q 356*q 191:=H 363 _ rfl;have e364:q 364=q 193-q 363:=H 364 _ rfl
 clear H
 intro hp hv ha hb hu hw
 exact UA hp hv ha hb hu hw e356 (e364.trans (congrArg _ e363)) (by clear hp hv ha hb hu hw e356 e363 e364; grind)
theorem Tw (H : Zo q σ) : (q 26 ≠ 0)→(q 200 ≠ 0)→(q 211*q 26=q 26*q 3-q 0*q 29)→(q 209*q 26=q 26*q 16-q 13*q 29)→(q 207*q 26=q 26*q 2-q 0*q 28)→(q 200*q 26=q 26*q 15-q 13*q 28)→(q 373*(q 26*q 15-q 13*q 28)=q 26*(q 15*q 3-q 2*q 16)-q 28*(q 13*q 3-q 0*q 16)+q 29*(q 13*q 2-q 0*q 15)) := by
 have e365:q 365=q 207/q 200:=H 365 _ rfl;have e372:q 372=q 365*q 209:=H 372 _ rfl;have e373:q 373=q 211-q 372:=H 373 _ rfl
 clear H
 intro hp hv ha hb hu hw
 exact UA hp hv ha hb hu hw e365 (e373.trans (congrArg _ e372)) (by clear hp hv ha hb hu hw e365 e372 e373; grind)
theorem RU (H : Zo q σ) : (q 26 ≠ 0)→(q 198 ≠ 0)→(q 207*q 26=q 26*q 2-q 0*q 28)→(q 200*q 26=q 26*q 15-q 13*q 28)→(q 205*q 26=q 26*q 1-q 0*q 27)→(q 198*q 26=q 26*q 14-q 13*q 27)→(q 380*(q 26*q 14-q 13*q 27)=q 26*(q 14*q 2-q 1*q 15)-q 27*(q 13*q 2-q 0*q 15)+q 28*(q 13*q 1-q 0*q 14)) := by
 have e374:q 374=q 205/q 198:=H 374 _ rfl;have e379:q 379=q 374*q 200:=H 379 _ rfl;have e380:q 380=q 207-q 379:=H 380 _ rfl
 clear H
 intro hp hv ha hb hu hw
 exact UA hp hv ha hb hu hw e374 (e380.trans (congrArg _ e379)) (by clear hp hv ha hb hu hw e374 e379 e380; grind)
theorem Kd (H : Zo q σ) : (q 26 ≠ 0)→(q 198 ≠ 0)→(q 211*q 26=q 26*q 3-q 0*q 29)→(q 209*q 26=q 26*q 16-q 13*q 29)→(q 205*q 26=q 26*q 1-q 0*q 27)→(q 198*q 26=q 26*q 14-q 13*q 27)→(q 382*(q 26*q 14-q 13*q 27)=q 26*(q 14*q 3-q 1*q 16)-q 27*(q 13*q 3-q 0*q 16)+q 29*(q 13*q 1-q 0*q 14)) := by
 have e374:q 374=q 205/q 198:=H 374 _ rfl;have e381:q 381=q 374*q 209:=H 381 _ rfl;have e382:q 382=q 211-q 381:=H 382 _ rfl
 clear H
 intro hp hv ha hb hu hw
 exact UA hp hv ha hb hu hw e374 (e382.trans (congrArg _ e381)) (by clear hp hv ha hb hu hw e374 e381 e382; grind)
theorem On (H : Zo q σ) : (q 1 ≠ 0)→(q 389*q 1=q 1*q 15-q 14*q 2) :=
 fun hp => JH H [1] 5 389 1 (.S (.M (.v 1) (.v 15)) (.M (.v 14) (.v 2))) hp (by kernel_rfl)
theorem Og (H : Zo q σ) : (q 1 ≠ 0)→(q 396*q 1=q 1*q 28-q 27*q 2) :=
 fun hp => JH H [1] 5 396 1 (.S (.M (.v 1) (.v 28)) (.M (.v 27) (.v 2))) hp (by kernel_rfl)
theorem Ec (H : Zo q σ) : (q 1 ≠ 0)→(q 405*q 1=q 1*q 16-q 14*q 3) :=
 fun hp => JH H [1] 5 405 1 (.S (.M (.v 1) (.v 16)) (.M (.v 14) (.v 3))) hp (by kernel_rfl)
theorem CJ (H : Zo q σ) : (q 1 ≠ 0)→(q 407*q 1=q 1*q 29-q 27*q 3) :=
 fun hp => JH H [1] 5 407 1 (.S (.M (.v 1) (.v 29)) (.M (.v 27) (.v 3))) hp (by kernel_rfl)
theorem Ma (H : Zo q σ) : (q 1 ≠ 0)→(q 396 ≠ 0)→(q 405*q 1=q 1*q 16-q 14*q 3)→(q 407*q 1=q 1*q 29-q 27*q 3)→(q 389*q 1=q 1*q 15-q 14*q 2)→(q 396*q 1=q 1*q 28-q 27*q 2)→(q 409*(q 1*q 28-q 27*q 2)=q 1*(q 28*q 16-q 15*q 29)-q 2*(q 27*q 16-q 14*q 29)+q 3*(q 27*q 15-q 14*q 28)) := by
 have e397:q 397=q 389/q 396:=H 397 _ rfl;have e408:q 408=q 397*q 407:=H 408 _ rfl;have e409:q 409=q 405-q 408:=H 409 _ rfl
 clear H
 intro hp hv ha hb hu hw
 exact UA hp hv ha hb hu hw e397 (e409.trans (congrArg _ e408)) (by clear hp hv ha hb hu hw e397 e408 e409; grind)
theorem CK (H : Zo q σ) : (q 0 ≠ 0)→(q 414*q 0=q 0*q 14-q 13*q 1) :=
 fun hp => JH H [0] 5 414 0 (.S (.M (.v 0) (.v 14)) (.M (.v 13) (.v 1))) hp (by kernel_rfl)
theorem Mt (H : Zo q σ) : (q 0 ≠ 0)→(q 421*q 0=q 0*q 27-q 26*q 1) :=
 fun hp => JH H [0] 5 421 0 (.S (.M (.v 0) (.v 27)) (.M (.v 26) (.v 1))) hp (by kernel_rfl)
theorem CA (H : Zo q σ) : (q 0 ≠ 0)→(q 416*q 0=q 0*q 15-q 13*q 2) :=
 fun hp => JH H [0] 5 416 0 (.S (.M (.v 0) (.v 15)) (.M (.v 13) (.v 2))) hp (by kernel_rfl)
theorem CS (H : Zo q σ) : (q 0 ≠ 0)→(q 423*q 0=q 0*q 28-q 26*q 2) :=
 fun hp => JH H [0] 5 423 0 (.S (.M (.v 0) (.v 28)) (.M (.v 26) (.v 2))) hp (by kernel_rfl)
theorem Tc (H : Zo q σ) : (q 0 ≠ 0)→(q 432*q 0=q 0*q 16-q 13*q 3) :=
 fun hp => JH H [0] 5 432 0 (.S (.M (.v 0) (.v 16)) (.M (.v 13) (.v 3))) hp (by kernel_rfl)
theorem RT (H : Zo q σ) : (q 0 ≠ 0)→(q 434*q 0=q 0*q 29-q 26*q 3) :=
 fun hp => JH H [0] 5 434 0 (.S (.M (.v 0) (.v 29)) (.M (.v 26) (.v 3))) hp (by kernel_rfl)
theorem MX (H : Zo q σ) : (q 0 ≠ 0)→(q 423 ≠ 0)→(q 432*q 0=q 0*q 16-q 13*q 3)→(q 434*q 0=q 0*q 29-q 26*q 3)→(q 416*q 0=q 0*q 15-q 13*q 2)→(q 423*q 0=q 0*q 28-q 26*q 2)→(q 436*(q 0*q 28-q 26*q 2)=q 0*(q 28*q 16-q 15*q 29)-q 2*(q 26*q 16-q 13*q 29)+q 3*(q 26*q 15-q 13*q 28)) := by
 have e424:q 424=q 416/q 423:=H 424 _ rfl;have e435:q 435=q 424*q 434:=H 435 _ rfl;have e436:q 436=q 432-q 435:=H 436 _ rfl
 clear H
 intro hp hv ha hb hu hw
 exact UA hp hv ha hb hu hw e424 (e436.trans (congrArg _ e435)) (by clear hp hv ha hb hu hw e424 e435 e436; grind)
theorem Ea (H : Zo q σ) : (q 0 ≠ 0)→(q 421 ≠ 0)→(q 416*q 0=q 0*q 15-q 13*q 2)→(q 423*q 0=q 0*q 28-q 26*q 2)→(q 414*q 0=q 0*q 14-q 13*q 1)→(q 421*q 0=q 0*q 27-q 26*q 1)→(q 443*(q 0*q 27-q 26*q 1)=q 0*(q 27*q 15-q 14*q 28)-q 1*(q 26*q 15-q 13*q 28)+q 2*(q 26*q 14-q 13*q 27)) := by
 have e437:q 437=q 414/q 421:=H 437 _ rfl;have e442:q 442=q 437*q 423:=H 442 _ rfl;have e443:q 443=q 416-q 442:=H 443 _ rfl
 clear H
 intro hp hv ha hb hu hw
 exact UA hp hv ha hb hu hw e437 (e443.trans (congrArg _ e442)) (by clear hp hv ha hb hu hw e437 e442 e443; grind)
theorem CZ (H : Zo q σ) : (q 0 ≠ 0)→(q 421 ≠ 0)→(q 432*q 0=q 0*q 16-q 13*q 3)→(q 434*q 0=q 0*q 29-q 26*q 3)→(q 414*q 0=q 0*q 14-q 13*q 1)→(q 421*q 0=q 0*q 27-q 26*q 1)→(q 445*(q 0*q 27-q 26*q 1)=q 0*(q 27*q 16-q 14*q 29)-q 1*(q 26*q 16-q 13*q 29)+q 3*(q 26*q 14-q 13*q 27)) := by
 have e437:q 437=q 414/q 421:=H 437 _ rfl;have e444:q 444=q 437*q 434:=H 444 _ rfl;have e445:q 445=q 432-q 444:=H 445 _ rfl
 clear H
 intro hp hv ha hb hu hw
 exact UA hp hv ha hb hu hw e437 (e445.trans (congrArg _ e444)) (by clear hp hv ha hb hu hw e437 e444 e445; grind)
theorem eM_fO0 (H : Zo q σ) (a0 : ¬ (q 8=0)) (a1 : ¬ (q 21=0)) (a2 : ¬ (q 34=0)) (j : ¬ (q 95=0)) : ¬ ((q 1*(q 15*q 29-q 28*q 16)-q 2*(q 14*q 29-q 27*q 16)+q 3*(q 14*q 28-q 27*q 15)=0∧q 2*(q 13*q 29-q 26*q 16)-q 0*(q 15*q 29-q 28*q 16)+q 3*(q 15*q 26-q 28*q 13)=0)∧q 0*(q 14*q 29-q 27*q 16)-q 1*(q 13*q 29-q 26*q 16)+q 3*(q 13*q 27-q 26*q 14)=0) := fun h => j ((eM_pO H a0 a1 a2).2 h)
theorem eM_pCz {z0 z1 z2 z3 z9 z10 z11 z12 z13 z14 z15 z16 z22 z23 z24 z25 z26 z27 z28 z29 z35 z36 z37 z38 z39 z40 z41 z42 z43 z44 z45 z46 z47 z48 z49 z50 z51 z52 z53 z54 z55 z56 z57 z58 z59 z60 z61 z62 z63 z64 z65 z66 z67 z68 z69 z70 z71 z72 z73 z74 z75 z76 z77 z78 z79 z80 z81 z82 z83 z84 z85 z86 z87 z88 z89 z90 z446 z447 z448 z449 : Rat} : z9=z0*fac [z0,z1,z2,z3]→z10=z1*fac [z0,z1,z2,z3]→z11=z2*fac [z0,z1,z2,z3]→z12=z3*fac [z0,z1,z2,z3]→z22=z13*fac [z13,z14,z15,z16]→z23=z14*fac [z13,z14,z15,z16]→z24=z15*fac [z13,z14,z15,z16]→z25=z16*fac [z13,z14,z15,z16]→z35=z26*fac [z26,z27,z28,z29]→z36=z27*fac [z26,z27,z28,z29]→z37=z28*fac [z26,z27,z28,z29]→z38=z29*fac [z26,z27,z28,z29]→z39=z23*z37→z40=z24*z36→z41=z39-z40→z42=z24*z35→z43=z22*z37→z44=z42-z43→z45=z22*z36→z46=z23*z35→z47=z45-z46→z48=z9*z41→z49=0→z50=z49+z48→z51=z10*z44→z52=z50+z51→z53=z11*z47→z54=z52+z53→z55=z36*z11→z56=z37*z10→z57=z55-z56→z58=z37*z9→z59=z35*z11→z60=z58-z59→z61=z35*z10→z62=z36*z9→z63=z61-z62→z64=z10*z24→z65=z11*z23→z66=z64-z65→z67=z11*z22→z68=z9*z24→z69=z67-z68→z70=z9*z23→z71=z10*z22→z72=z70-z71→z73=z41*z12→z74=z49+z73→z75=z57*z25→z76=z74+z75→z77=z66*z38→z78=z76+z77→z79=z44*z12→z80=z49+z79→z81=z60*z25→z82=z80+z81→z83=z69*z38→z84=z82+z83→z85=z47*z12→z86=z49+z85→z87=z63*z25→z88=z86+z87→z89=z72*z38→z90=z88+z89→z446=-z54→z447=z78/z446→z448=z84/z446→z449=z90/z446→(¬ (z54=0))→((z9*z447+z10*z448+z11*z449+z12=0)∧(z22*z447+z23*z448+z24*z449+z25=0)∧(z35*z447+z36*z448+z37*z449+z38=0)) := by
 intro e9 e10 e11 e12 e22 e23 e24 e25 e35 e36 e37 e38 e39 e40 e41 e42 e43 e44 e45 e46 e47 e48 e49 e50 e51 e52 e53 e54 e55 e56 e57 e58 e59 e60 e61 e62 e63 e64 e65 e66 e67 e68 e69 e70 e71 e72 e73 e74 e75 e76 e77 e78 e79 e80 e81 e82 e83 e84 e85 e86 e87 e88 e89 e90 e446 e447 e448 e449
 intro u
 have hn : z446 ≠ 0 := fun h => u (by have := e446; rw [h] at this; grind)
 obtain ⟨k,hk⟩ : ∃ k,k=(z446)⁻¹ := ⟨_,rfl⟩
 have hD : k*z54=-1 := by
  have := Rat.mul_inv_cancel _ hn
  rw [← hk] at this; rw [e446] at this; grind
 have m0 : z447=z78*k := by rw [e447,Rat.div_def,hk]
 have m1 : z448=z84*k := by rw [e448,Rat.div_def,hk]
 have m2 : z449=z90*k := by rw [e449,Rat.div_def,hk]
 exact AR (a1 := z9) (b1 := z22) (c1 := z35) (p1 := z447) (a2 := z10) (b2 := z23) (c2 := z36) (p2 := z448) (a3 := z11) (b3 := z24) (c3 := z37) (p3 := z449) (da := z12) (db := z25) (dc := z38) (D := z54) (k := k) (by clear m0 m1 m2 hD hk hn u e447 e448 e449 e9 e10 e11 e12 e22 e23 e24 e25 e35 e36 e37 e38 e446; subst_vars; grind) hD (by rw [m0]; congr 1; clear m0 m1 m2 hD hk hn u e447 e448 e449 e9 e10 e11 e12 e22 e23 e24 e25 e35 e36 e37 e38 e446; subst_vars; grind) (by rw [m1]; congr 1; clear m0 m1 m2 hD hk hn u e447 e448 e449 e9 e10 e11 e12 e22 e23 e24 e25 e35 e36 e37 e38 e446; subst_vars; grind) (by rw [m2]; congr 1; clear m0 m1 m2 hD hk hn u e447 e448 e449 e9 e10 e11 e12 e22 e23 e24 e25 e35 e36 e37 e38 e446; subst_vars; grind)
theorem eM_pC (H : Zo q σ) : (¬ (q 54=0))→((q 9*q 447+q 10*q 448+q 11*q 449+q 12=0)∧(q 22*q 447+q 23*q 448+q 24*q 449+q 25=0)∧(q 35*q 447+q 36*q 448+q 37*q 449+q 38=0)) := by
 have e9:q 9=q 0*fac [q 0,q 1,q 2,q 3]:=H 9 _ rfl;have e10:q 10=q 1*fac [q 0,q 1,q 2,q 3]:=H 10 _ rfl;have e11:q 11=q 2*fac [q 0,q 1,q 2,q 3]:=H 11 _ rfl;have e12:q 12=q 3*fac [q 0,q 1,q 2,q 3]:=H 12 _ rfl;have e22:q 22=q 13*fac [q 13,q 14,q 15,q 16]:=H 22 _ rfl;have e23:q 23=q 14*fac [q 13,q 14,q 15,q 16]:=H 23 _ rfl;have e24:q 24=q 15*fac [q 13,q 14,q 15,q 16]:=H 24 _ rfl;have e25:q 25=q 16*fac [q 13,q 14,q 15,q 16]:=H 25 _ rfl;have e35:q 35=q 26*fac [q 26,q 27,q 28,q 29]:=H 35 _ rfl;have e36:q 36=q 27*fac [q 26,q 27,q 28,q 29]:=H 36 _ rfl;have e37:q 37=q 28*fac [q 26,q 27,q 28,q 29]:=H 37 _ rfl;have e38:q 38=q 29*fac [q 26,q 27,q 28,q 29]:=H 38 _ rfl;have e39:q 39=q 23*q 37:=H 39 _ rfl;have e40:q 40=q 24*q 36:=H 40 _ rfl;have e41:q 41=q 39-q 40:=H 41 _ rfl;have e42:q 42=q 24*q 35:=H 42 _ rfl;have e43:q 43=q 22*q 37:=H 43 _ rfl;have e44:q 44=q 42-q 43:=H 44 _ rfl;have e45:q 45=q 22*q 36:=H 45 _ rfl;have e46:q 46=q 23*q 35:=H 46 _ rfl;have e47:q 47=q 45-q 46:=H 47 _ rfl;have e48:q 48=q 9*q 41:=H 48 _ rfl;have e49:q 49=0:=(H 49 _ rfl).trans EI;have e50:q 50=q 49+q 48:=H 50 _ rfl;have e51:q 51=q 10*q 44:=H 51 _ rfl;have e52:q 52=q 50+q 51:=H 52 _ rfl;have e53:q 53=q 11*q 47:=H 53 _ rfl;have e54:q 54=q 52+q 53:=H 54 _ rfl;have e55:q 55=q 36*q 11:=H 55 _ rfl;have e56:q 56=q 37*q 10:=H 56 _ rfl;have e57:q 57=q 55-q 56:=H 57 _ rfl;have e58:q 58=q 37*q 9:=H 58 _ rfl;have e59:q 59=q 35*q 11:=H 59 _ rfl;have e60:q 60=q 58-q 59:=H 60 _ rfl;have e61:q 61=q 35*q 10:=H 61 _ rfl;have e62:q 62=q 36*q 9:=H 62 _ rfl;have e63:q 63=q 61-q 62:=H 63 _ rfl;have e64:q 64=q 10*q 24:=H 64 _ rfl;have e65:q 65=q 11*q 23:=H 65 _ rfl;have e66:q 66=q 64-q 65:=H 66 _ rfl;have e67:q 67=q 11*q 22:=H 67 _ rfl;have e68:q 68=q 9*q 24:=H 68 _ rfl;have e69:q 69=q 67-q 68:=H 69 _ rfl;have e70:q 70=q 9*q 23:=H 70 _ rfl;have e71:q 71=q 10*q 22:=H 71 _ rfl;have e72:q 72=q 70-q 71:=H 72 _ rfl;have e73:q 73=q 41*q 12:=H 73 _ rfl;have e74:q 74=q 49+q 73:=H 74 _ rfl;have e75:q 75=q 57*q 25:=H 75 _ rfl;have e76:q 76=q 74+q 75:=H 76 _ rfl;have e77:q 77=q 66*q 38:=H 77 _ rfl;have e78:q 78=q 76+q 77:=H 78 _ rfl;have e79:q 79=q 44*q 12:=H 79 _ rfl;have e80:q 80=q 49+q 79:=H 80 _ rfl;have e81:q 81=q 60*q 25:=H 81 _ rfl;have e82:q 82=q 80+q 81:=H 82 _ rfl;have e83:q 83=q 69*q 38:=H 83 _ rfl;have e84:q 84=q 82+q 83:=H 84 _ rfl;have e85:q 85=q 47*q 12:=H 85 _ rfl;have e86:q 86=q 49+q 85:=H 86 _ rfl;have e87:q 87=q 63*q 25:=H 87 _ rfl;have e88:q 88=q 86+q 87:=H 88 _ rfl;have e89:q 89=q 72*q 38:=H 89 _ rfl;have e90:q 90=q 88+q 89:=H 90 _ rfl;have e446:q 446=-q 54:=H 446 _ rfl;have e447:q 447=q 78/q 446:=H 447 _ rfl;have e448:q 448=q 84/q 446:=H 448 _ rfl;have e449:q 449=q 90/q 446:=H 449 _ rfl
 exact eM_pCz e9 e10 e11 e12 e22 e23 e24 e25 e35 e36 e37 e38 e39 e40 e41 e42 e43 e44 e45 e46 e47 e48 e49 e50 e51 e52 e53 e54 e55 e56 e57 e58 e59 e60 e61 e62 e63 e64 e65 e66 e67 e68 e69 e70 e71 e72 e73 e74 e75 e76 e77 e78 e79 e80 e81 e82 e83 e84 e85 e86 e87 e88 e89 e90 e446 e447 e448 e449
theorem eM_pR0 (H : Zo q σ) : (¬ (q 8=0))→(q 9*q 447+q 10*q 448+q 11*q 449+q 12=0)→(q 455=0) := by
 have e4:q 4=q 0*q 0:=H 4 _ rfl;have e5:q 5=q 1*q 1:=H 5 _ rfl;have e6:q 6=q 4+q 5:=H 6 _ rfl;have e7:q 7=q 2*q 2:=H 7 _ rfl;have e8:q 8=q 6+q 7:=H 8 _ rfl;have e9:q 9=q 0*fac [q 0,q 1,q 2,q 3]:=H 9 _ rfl;have e10:q 10=q 1*fac [q 0,q 1,q 2,q 3]:=H 10 _ rfl;have e11:q 11=q 2*fac [q 0,q 1,q 2,q 3]:=H 11 _ rfl;have e12:q 12=q 3*fac [q 0,q 1,q 2,q 3]:=H 12 _ rfl;have e450:q 450=q 0*q 447:=H 450 _ rfl;have e451:q 451=q 1*q 448:=H 451 _ rfl;have e452:q 452=q 2*q 449:=H 452 _ rfl;have e453:q 453=q 450+q 451:=H 453 _ rfl;have e454:q 454=q 453+q 452:=H 454 _ rfl;have e455:q 455=q 454+q 3:=H 455 _ rfl
 clear H
 intro h p
 have n0 : ¬ ((q 0=0∧q 1=0)∧q 2=0) := fun x => h ((Jv e4 e5 e6 e7 e8).2 x)
 have k0 : fac [q 0,q 1,q 2,q 3] ≠ 0 := fun x => n0 ⟨⟨Qp (by simp) x,Qp (by simp) x⟩,Qp (by simp) x⟩
 generalize fac [q 0,q 1,q 2,q 3]=f at *
 have p : q 455*f=0 := by
  rw [e9,e10,e11,e12] at p; clear h n0 k0 e4 e5 e6 e7 e8 e9 e10 e11 e12; subst_vars; grind
 exact (Rat.mul_eq_zero.1 p).resolve_right k0
theorem eM_pR1 (H : Zo q σ) : (¬ (q 21=0))→(q 22*q 447+q 23*q 448+q 24*q 449+q 25=0)→(q 461=0) := by
 have e17:q 17=q 13*q 13:=H 17 _ rfl;have e18:q 18=q 14*q 14:=H 18 _ rfl;have e19:q 19=q 17+q 18:=H 19 _ rfl;have e20:q 20=q 15*q 15:=H 20 _ rfl;have e21:q 21=q 19+q 20:=H 21 _ rfl;have e22:q 22=q 13*fac [q 13,q 14,q 15,q 16]:=H 22 _ rfl;have e23:q 23=q 14*fac [q 13,q 14,q 15,q 16]:=H 23 _ rfl;have e24:q 24=q 15*fac [q 13,q 14,q 15,q 16]:=H 24 _ rfl;have e25:q 25=q 16*fac [q 13,q 14,q 15,q 16]:=H 25 _ rfl;have e456:q 456=q 13*q 447:=H 456 _ rfl;have e457:q 457=q 14*q 448:=H 457 _ rfl;have e458:q 458=q 15*q 449:=H 458 _ rfl;have e459:q 459=q 456+q 457:=H 459 _ rfl;have e460:q 460=q 459+q 458:=H 460 _ rfl;have e461:q 461=q 460+q 16:=H 461 _ rfl
 clear H
 intro h p
 have n1 : ¬ ((q 13=0∧q 14=0)∧q 15=0) := fun x => h ((Jv e17 e18 e19 e20 e21).2 x)
 have k1 : fac [q 13,q 14,q 15,q 16] ≠ 0 := fun x => n1 ⟨⟨Qp (by simp) x,Qp (by simp) x⟩,Qp (by simp) x⟩
 generalize fac [q 13,q 14,q 15,q 16]=f at *
 have p : q 461*f=0 := by
  rw [e22,e23,e24,e25] at p; clear h n1 k1 e17 e18 e19 e20 e21 e22 e23 e24 e25; subst_vars; grind
 exact (Rat.mul_eq_zero.1 p).resolve_right k1
theorem eM_pR2 (H : Zo q σ) : (¬ (q 34=0))→(q 35*q 447+q 36*q 448+q 37*q 449+q 38=0)→(q 467=0) := by
 have e30:q 30=q 26*q 26:=H 30 _ rfl;have e31:q 31=q 27*q 27:=H 31 _ rfl;have e32:q 32=q 30+q 31:=H 32 _ rfl;have e33:q 33=q 28*q 28:=H 33 _ rfl;have e34:q 34=q 32+q 33:=H 34 _ rfl;have e35:q 35=q 26*fac [q 26,q 27,q 28,q 29]:=H 35 _ rfl;have e36:q 36=q 27*fac [q 26,q 27,q 28,q 29]:=H 36 _ rfl;have e37:q 37=q 28*fac [q 26,q 27,q 28,q 29]:=H 37 _ rfl;have e38:q 38=q 29*fac [q 26,q 27,q 28,q 29]:=H 38 _ rfl;have e462:q 462=q 26*q 447:=H 462 _ rfl;have e463:q 463=q 27*q 448:=H 463 _ rfl;have e464:q 464=q 28*q 449:=H 464 _ rfl;have e465:q 465=q 462+q 463:=H 465 _ rfl;have e466:q 466=q 465+q 464:=H 466 _ rfl;have e467:q 467=q 466+q 29:=H 467 _ rfl
 clear H
 intro h p
 have n2 : ¬ ((q 26=0∧q 27=0)∧q 28=0) := fun x => h ((Jv e30 e31 e32 e33 e34).2 x)
 have k2 : fac [q 26,q 27,q 28,q 29] ≠ 0 := fun x => n2 ⟨⟨Qp (by simp) x,Qp (by simp) x⟩,Qp (by simp) x⟩
 generalize fac [q 26,q 27,q 28,q 29]=f at *
 have p : q 467*f=0 := by
  rw [e35,e36,e37,e38] at p; clear h n2 k2 e30 e31 e32 e33 e34 e35 e36 e37 e38; subst_vars; grind
 exact (Rat.mul_eq_zero.1 p).resolve_right k2
def Qu : List (FuncId × Nat) := [(146,60),(91,61),(82,65)]
def eM_G : Xu := [(44,[pA [8,9,10,11]],rA [26,27,28,29]),(44,[pA [4,5,6,7]],rA [13,14,15,16]),(44,[pA [0,1,2,3]],rA [0,1,2,3]),(42,[rA [0,1,2],rA [13,14,15],rA [26,27,28]],r1 157),(102,[qA [129,130,131],qA [132,133,134]],qA [135,136,137]),(108,[qA [35,36,37],qA [12]],qA [132,133,134]),(108,[qA [9,10,11],qA [38]],qA [129,130,131]),(110,[qA [9,10,11],qA [35,36,37]],qA [117,120,123]),(102,[qA [101,102,103],qA [104,105,106]],qA [107,108,109]),(108,[qA [22,23,24],qA [12]],qA [104,105,106]),(108,[qA [9,10,11],qA [25]],qA [101,102,103]),(149,[qA [41,57,66,44,60,69,47,63,72],qA [12,25,38]],qA [78,84,90]),(148,[qA [9,10,11,22,23,24,35,36,37]],qA [41,57,66,44,60,69,47,63,72]),(110,[qA [9,10,11],qA [22,23,24]],qA [66,69,72]),(144,[qA [9,10,11,22,23,24,35,36,37]],qA [54]),(110,[qA [22,23,24],qA [35,36,37]],qA [41,44,47]),(147,[qA [26,27,28,29]],qA [35,36,37,38]),(147,[qA [13,14,15,16]],qA [22,23,24,25]),(147,[qA [0,1,2,3]],qA [9,10,11,12])]
theorem eM_g0 : Xg (sx Tryz.prog eM_N [] [] QP QT QQ (prC [32])) Qu 6 19 (eM_G.drop 0)=true := by kernel_rfl
theorem eM_memoG {q : Nat→Rat} {σ : Nat→ByteArray} {w : World} (hσ : ∀ j,(σ j).size≤1048576) (hq : ∀ (a : Nat) nd,eM_N[a]? = some nd→q a=Zg σ q nd) (h0 : ∀ a,eM_N.length≤a→q a=0) (hp : Zf w) : Zl eM_N QP QT QQ q σ [32] w eM_G := by
 have Y : Hy eM_N [] QP QT QQ q σ := YD hσ Lw eM_sz eM_lt eM_cn hq h0 trivial
 have hc : ∀ f ∈ ([32] : List FuncId),Closed f := by simp [Xb]
 have hm : (Tryz.prog).follows .mixedOrders=true := by kernel_rfl
 exact (JF (M := eM_G.drop 0) Y hc hm hp 19 eM_g0 Uq)
def eM_H0 : List (Nat × Nat × Nat × Nat) := [(0,8,0,1)]
def eM_H1 : List (Nat × Nat × Nat × Nat) := [(0,8,0,0),(0,21,0,1)]
def eM_H2 : List (Nat × Nat × Nat × Nat) := [(0,8,0,0),(0,21,0,0),(0,34,0,1)]
def eM_H3 : List (Nat × Nat × Nat × Nat) := [(0,8,0,0),(0,21,0,0),(0,34,0,0),(0,54,0,1),(0,95,0,1),(0,100,0,1),(0,114,0,1),(0,128,0,1),(0,142,0,1),(0,157,0,1),(0,0,0,1),(0,13,0,1),(0,26,0,1),(0,1,0,1),(0,14,0,1),(0,27,0,1),(0,2,0,0),(0,15,0,0),(0,28,0,0),(0,173,0,1),(0,175,0,1)]
def eM_H4 : List (Nat × Nat × Nat × Nat) := [(0,8,0,0),(0,21,0,0),(0,34,0,0),(0,54,0,1),(0,95,0,1),(0,100,0,1),(0,114,0,1),(0,128,0,1),(0,142,0,1),(0,157,0,1),(0,0,0,1),(0,13,0,1),(0,26,0,1),(0,1,0,0),(0,14,0,0),(0,27,0,0),(0,182,0,1),(0,189,0,1),(0,191,0,1),(0,193,0,1)]
def eM_H5 : List (Nat × Nat × Nat × Nat) := [(0,8,0,0),(0,21,0,0),(0,34,0,0),(0,54,0,1),(0,95,0,1),(0,100,0,1),(0,114,0,1),(0,128,0,1),(0,142,0,1),(0,157,0,1),(0,0,0,0),(0,13,0,0),(0,26,0,0),(0,198,0,1),(0,205,0,1),(0,200,0,1),(0,207,0,1),(0,209,0,1),(0,211,0,1)]
def eM_H6 : List (Nat × Nat × Nat × Nat) := [(0,8,0,0),(0,21,0,0),(0,34,0,0),(0,54,0,1),(0,95,0,1),(0,100,0,1),(0,114,0,1),(0,128,0,1),(0,142,0,0),(0,157,0,1),(0,0,0,1),(0,13,0,1),(0,26,0,1),(0,1,0,1),(0,14,0,1),(0,27,0,1),(0,2,0,0),(0,15,0,0),(0,28,0,0),(0,173,0,0),(0,175,0,0)]
def eM_H7 : List (Nat × Nat × Nat × Nat) := [(0,8,0,0),(0,21,0,0),(0,34,0,0),(0,54,0,1),(0,95,0,1),(0,100,0,1),(0,114,0,1),(0,128,0,1),(0,142,0,0),(0,157,0,1),(0,0,0,1),(0,13,0,1),(0,26,0,1),(0,1,0,0),(0,14,0,0),(0,27,0,0),(0,182,0,1),(0,189,0,1),(0,191,0,0),(0,193,0,0)]
def eM_H8 : List (Nat × Nat × Nat × Nat) := [(0,8,0,0),(0,21,0,0),(0,34,0,0),(0,54,0,1),(0,95,0,1),(0,100,0,1),(0,114,0,1),(0,128,0,1),(0,142,0,0),(0,157,0,1),(0,0,0,0),(0,13,0,0),(0,26,0,0),(0,198,0,1),(0,205,0,1),(0,200,0,1),(0,207,0,1),(0,209,0,0),(0,211,0,0)]
def eM_H9 : List (Nat × Nat × Nat × Nat) := [(0,8,0,0),(0,21,0,0),(0,34,0,0),(0,54,0,1),(0,95,0,1),(0,100,0,1),(0,114,0,1),(0,128,0,0),(0,157,0,1),(0,0,0,1),(0,13,0,1),(0,26,0,1),(0,1,0,1),(0,14,0,1),(0,27,0,0),(0,182,0,0),(0,189,0,0),(0,247,0,1)]
def eM_H10 : List (Nat × Nat × Nat × Nat) := [(0,8,0,0),(0,21,0,0),(0,34,0,0),(0,54,0,1),(0,95,0,1),(0,100,0,1),(0,114,0,1),(0,128,0,0),(0,157,0,1),(0,0,0,1),(0,13,0,1),(0,26,0,1),(0,1,0,0),(0,14,0,0),(0,27,0,1),(0,254,0,1),(0,261,0,0),(0,274,0,1)]
def eM_H11 : List (Nat × Nat × Nat × Nat) := [(0,8,0,0),(0,21,0,0),(0,34,0,0),(0,54,0,1),(0,95,0,1),(0,100,0,1),(0,114,0,1),(0,128,0,0),(0,157,0,1),(0,0,0,1),(0,13,0,1),(0,26,0,1),(0,1,0,0),(0,14,0,0),(0,27,0,0),(0,182,0,0),(0,189,0,0),(0,247,0,1)]
def eM_H12 : List (Nat × Nat × Nat × Nat) := [(0,8,0,0),(0,21,0,0),(0,34,0,0),(0,54,0,1),(0,95,0,1),(0,100,0,1),(0,114,0,1),(0,128,0,0),(0,157,0,1),(0,0,0,1),(0,13,0,1),(0,26,0,0),(0,198,0,1),(0,205,0,1),(0,200,0,0),(0,207,0,0),(0,283,0,1)]
def eM_H13 : List (Nat × Nat × Nat × Nat) := [(0,8,0,0),(0,21,0,0),(0,34,0,0),(0,54,0,1),(0,95,0,1),(0,100,0,1),(0,114,0,1),(0,128,0,0),(0,157,0,1),(0,0,0,1),(0,13,0,1),(0,26,0,0),(0,198,0,0),(0,205,0,0),(0,290,0,1),(0,292,0,1)]
def eM_H14 : List (Nat × Nat × Nat × Nat) := [(0,8,0,0),(0,21,0,0),(0,34,0,0),(0,54,0,1),(0,95,0,1),(0,100,0,1),(0,114,0,1),(0,128,0,0),(0,157,0,1),(0,0,0,0),(0,13,0,0),(0,26,0,1),(0,297,0,1),(0,304,0,1),(0,299,0,1),(0,306,0,0),(0,319,0,1)]
def eM_H15 : List (Nat × Nat × Nat × Nat) := [(0,8,0,0),(0,21,0,0),(0,34,0,0),(0,54,0,1),(0,95,0,1),(0,100,0,1),(0,114,0,1),(0,128,0,0),(0,157,0,1),(0,0,0,0),(0,13,0,0),(0,26,0,1),(0,297,0,1),(0,304,0,0),(0,326,0,1),(0,328,0,1)]
def eM_H16 : List (Nat × Nat × Nat × Nat) := [(0,8,0,0),(0,21,0,0),(0,34,0,0),(0,54,0,1),(0,95,0,1),(0,100,0,1),(0,114,0,1),(0,128,0,0),(0,157,0,1),(0,0,0,0),(0,13,0,0),(0,26,0,0),(0,198,0,1),(0,205,0,1),(0,200,0,0),(0,207,0,0),(0,283,0,1)]
def eM_H17 : List (Nat × Nat × Nat × Nat) := [(0,8,0,0),(0,21,0,0),(0,34,0,0),(0,54,0,1),(0,95,0,1),(0,100,0,1),(0,114,0,1),(0,128,0,0),(0,157,0,1),(0,0,0,0),(0,13,0,0),(0,26,0,0),(0,198,0,0),(0,205,0,0),(0,290,0,1),(0,292,0,1)]
def eM_H18 : List (Nat × Nat × Nat × Nat) := [(0,8,0,0),(0,21,0,0),(0,34,0,0),(0,54,0,1),(0,95,0,1),(0,100,0,1),(0,114,0,0),(0,157,0,1),(0,0,0,1),(0,13,0,1),(0,26,0,1),(0,1,0,1),(0,14,0,1),(0,27,0,1),(0,2,0,0),(0,15,0,0),(0,28,0,0),(0,173,0,1),(0,175,0,0)]
def eM_H19 : List (Nat × Nat × Nat × Nat) := [(0,8,0,0),(0,21,0,0),(0,34,0,0),(0,54,0,1),(0,95,0,1),(0,100,0,1),(0,114,0,0),(0,157,0,1),(0,0,0,1),(0,13,0,1),(0,26,0,1),(0,1,0,1),(0,14,0,1),(0,27,0,1),(0,2,0,0),(0,15,0,0),(0,28,0,0),(0,173,0,0),(0,175,0,1)]
def eM_H20 : List (Nat × Nat × Nat × Nat) := [(0,8,0,0),(0,21,0,0),(0,34,0,0),(0,54,0,1),(0,95,0,1),(0,100,0,1),(0,114,0,0),(0,157,0,1),(0,0,0,1),(0,13,0,1),(0,26,0,1),(0,1,0,1),(0,14,0,1),(0,27,0,1),(0,2,0,0),(0,15,0,0),(0,28,0,0),(0,173,0,0),(0,175,0,0)]
def eM_H21 : List (Nat × Nat × Nat × Nat) := [(0,8,0,0),(0,21,0,0),(0,34,0,0),(0,54,0,1),(0,95,0,1),(0,100,0,1),(0,114,0,0),(0,157,0,1),(0,0,0,1),(0,13,0,1),(0,26,0,1),(0,1,0,0),(0,14,0,0),(0,27,0,0),(0,182,0,1),(0,189,0,1),(0,191,0,1),(0,193,0,0)]
def eM_H22 : List (Nat × Nat × Nat × Nat) := [(0,8,0,0),(0,21,0,0),(0,34,0,0),(0,54,0,1),(0,95,0,1),(0,100,0,1),(0,114,0,0),(0,157,0,1),(0,0,0,1),(0,13,0,1),(0,26,0,1),(0,1,0,0),(0,14,0,0),(0,27,0,0),(0,182,0,1),(0,189,0,1),(0,191,0,0),(0,193,0,1)]
def eM_H23 : List (Nat × Nat × Nat × Nat) := [(0,8,0,0),(0,21,0,0),(0,34,0,0),(0,54,0,1),(0,95,0,1),(0,100,0,1),(0,114,0,0),(0,157,0,1),(0,0,0,1),(0,13,0,1),(0,26,0,1),(0,1,0,0),(0,14,0,0),(0,27,0,0),(0,182,0,1),(0,189,0,1),(0,191,0,0),(0,193,0,0)]
def eM_H24 : List (Nat × Nat × Nat × Nat) := [(0,8,0,0),(0,21,0,0),(0,34,0,0),(0,54,0,1),(0,95,0,1),(0,100,0,1),(0,114,0,0),(0,157,0,1),(0,0,0,0),(0,13,0,0),(0,26,0,0),(0,198,0,1),(0,205,0,1),(0,200,0,1),(0,207,0,1),(0,209,0,1),(0,211,0,0)]
def eM_H25 : List (Nat × Nat × Nat × Nat) := [(0,8,0,0),(0,21,0,0),(0,34,0,0),(0,54,0,1),(0,95,0,1),(0,100,0,1),(0,114,0,0),(0,157,0,1),(0,0,0,0),(0,13,0,0),(0,26,0,0),(0,198,0,1),(0,205,0,1),(0,200,0,1),(0,207,0,1),(0,209,0,0),(0,211,0,1)]
def eM_H26 : List (Nat × Nat × Nat × Nat) := [(0,8,0,0),(0,21,0,0),(0,34,0,0),(0,54,0,1),(0,95,0,1),(0,100,0,1),(0,114,0,0),(0,157,0,1),(0,0,0,0),(0,13,0,0),(0,26,0,0),(0,198,0,1),(0,205,0,1),(0,200,0,1),(0,207,0,1),(0,209,0,0),(0,211,0,0)]
def eM_H27 : List (Nat × Nat × Nat × Nat) := [(0,8,0,0),(0,21,0,0),(0,34,0,0),(0,54,0,1),(0,95,0,1),(0,100,0,0),(0,128,0,1),(0,142,0,1),(0,157,0,1),(0,0,0,1),(0,13,0,1),(0,26,0,1),(0,1,0,1),(0,14,0,0),(0,27,0,1),(0,254,0,0),(0,261,0,0),(0,274,0,1)]
def eM_H28 : List (Nat × Nat × Nat × Nat) := [(0,8,0,0),(0,21,0,0),(0,34,0,0),(0,54,0,1),(0,95,0,1),(0,100,0,0),(0,128,0,1),(0,142,0,1),(0,157,0,1),(0,0,0,1),(0,13,0,1),(0,26,0,1),(0,1,0,0),(0,14,0,1),(0,27,0,0),(0,182,0,0),(0,189,0,1),(0,364,0,1)]
def eM_H29 : List (Nat × Nat × Nat × Nat) := [(0,8,0,0),(0,21,0,0),(0,34,0,0),(0,54,0,1),(0,95,0,1),(0,100,0,0),(0,128,0,1),(0,142,0,1),(0,157,0,1),(0,0,0,1),(0,13,0,1),(0,26,0,1),(0,1,0,0),(0,14,0,0),(0,27,0,0),(0,182,0,0),(0,189,0,1),(0,364,0,1)]
def eM_H30 : List (Nat × Nat × Nat × Nat) := [(0,8,0,0),(0,21,0,0),(0,34,0,0),(0,54,0,1),(0,95,0,1),(0,100,0,0),(0,128,0,1),(0,142,0,1),(0,157,0,1),(0,0,0,1),(0,13,0,0),(0,26,0,1),(0,297,0,1),(0,304,0,1),(0,299,0,0),(0,306,0,0),(0,319,0,1)]
def eM_H31 : List (Nat × Nat × Nat × Nat) := [(0,8,0,0),(0,21,0,0),(0,34,0,0),(0,54,0,1),(0,95,0,1),(0,100,0,0),(0,128,0,1),(0,142,0,1),(0,157,0,1),(0,0,0,1),(0,13,0,0),(0,26,0,1),(0,297,0,0),(0,304,0,0),(0,326,0,1),(0,328,0,1)]
def eM_H32 : List (Nat × Nat × Nat × Nat) := [(0,8,0,0),(0,21,0,0),(0,34,0,0),(0,54,0,1),(0,95,0,1),(0,100,0,0),(0,128,0,1),(0,142,0,1),(0,157,0,1),(0,0,0,0),(0,13,0,1),(0,26,0,0),(0,198,0,1),(0,205,0,1),(0,200,0,0),(0,207,0,1),(0,373,0,1)]
def eM_H33 : List (Nat × Nat × Nat × Nat) := [(0,8,0,0),(0,21,0,0),(0,34,0,0),(0,54,0,1),(0,95,0,1),(0,100,0,0),(0,128,0,1),(0,142,0,1),(0,157,0,1),(0,0,0,0),(0,13,0,1),(0,26,0,0),(0,198,0,0),(0,205,0,1),(0,380,0,1),(0,382,0,1)]
def eM_H34 : List (Nat × Nat × Nat × Nat) := [(0,8,0,0),(0,21,0,0),(0,34,0,0),(0,54,0,1),(0,95,0,1),(0,100,0,0),(0,128,0,1),(0,142,0,1),(0,157,0,1),(0,0,0,0),(0,13,0,0),(0,26,0,0),(0,198,0,1),(0,205,0,1),(0,200,0,0),(0,207,0,1),(0,373,0,1)]
def eM_H35 : List (Nat × Nat × Nat × Nat) := [(0,8,0,0),(0,21,0,0),(0,34,0,0),(0,54,0,1),(0,95,0,1),(0,100,0,0),(0,128,0,1),(0,142,0,1),(0,157,0,1),(0,0,0,0),(0,13,0,0),(0,26,0,0),(0,198,0,0),(0,205,0,1),(0,380,0,1),(0,382,0,1)]
def eM_H36 : List (Nat × Nat × Nat × Nat) := [(0,8,0,0),(0,21,0,0),(0,34,0,0),(0,54,0,1),(0,95,0,1),(0,100,0,0),(0,128,0,0),(0,157,0,1),(0,0,0,1),(0,13,0,1),(0,26,0,1),(0,1,0,1),(0,14,0,0),(0,27,0,0),(0,182,0,1),(0,189,0,0),(0,247,0,1)]
def eM_H37 : List (Nat × Nat × Nat × Nat) := [(0,8,0,0),(0,21,0,0),(0,34,0,0),(0,54,0,1),(0,95,0,1),(0,100,0,0),(0,128,0,0),(0,157,0,1),(0,0,0,1),(0,13,0,1),(0,26,0,1),(0,1,0,1),(0,14,0,0),(0,27,0,0),(0,182,0,0),(0,189,0,0),(0,247,0,1)]
def eM_H38 : List (Nat × Nat × Nat × Nat) := [(0,8,0,0),(0,21,0,0),(0,34,0,0),(0,54,0,1),(0,95,0,1),(0,100,0,0),(0,128,0,0),(0,157,0,1),(0,0,0,1),(0,13,0,1),(0,26,0,1),(0,1,0,0),(0,14,0,1),(0,27,0,1),(0,389,0,0),(0,396,0,0),(0,409,0,1)]
def eM_H39 : List (Nat × Nat × Nat × Nat) := [(0,8,0,0),(0,21,0,0),(0,34,0,0),(0,54,0,1),(0,95,0,1),(0,100,0,0),(0,128,0,0),(0,157,0,1),(0,0,0,1),(0,13,0,1),(0,26,0,1),(0,1,0,0),(0,14,0,1),(0,27,0,0),(0,182,0,0),(0,189,0,0),(0,247,0,1)]
def eM_H40 : List (Nat × Nat × Nat × Nat) := [(0,8,0,0),(0,21,0,0),(0,34,0,0),(0,54,0,1),(0,95,0,1),(0,100,0,0),(0,128,0,0),(0,157,0,1),(0,0,0,1),(0,13,0,1),(0,26,0,1),(0,1,0,0),(0,14,0,0),(0,27,0,1),(0,254,0,0),(0,261,0,0),(0,274,0,1)]
def eM_H41 : List (Nat × Nat × Nat × Nat) := [(0,8,0,0),(0,21,0,0),(0,34,0,0),(0,54,0,1),(0,95,0,1),(0,100,0,0),(0,128,0,0),(0,157,0,1),(0,0,0,1),(0,13,0,1),(0,26,0,1),(0,1,0,0),(0,14,0,0),(0,27,0,0),(0,182,0,1),(0,189,0,0),(0,247,0,1)]
def eM_H42 : List (Nat × Nat × Nat × Nat) := [(0,8,0,0),(0,21,0,0),(0,34,0,0),(0,54,0,1),(0,95,0,1),(0,100,0,0),(0,128,0,0),(0,157,0,1),(0,0,0,1),(0,13,0,1),(0,26,0,1),(0,1,0,0),(0,14,0,0),(0,27,0,0),(0,182,0,0),(0,189,0,0),(0,247,0,1)]
def eM_H43 : List (Nat × Nat × Nat × Nat) := [(0,8,0,0),(0,21,0,0),(0,34,0,0),(0,54,0,1),(0,95,0,1),(0,100,0,0),(0,128,0,0),(0,157,0,1),(0,0,0,1),(0,13,0,0),(0,26,0,0),(0,198,0,1),(0,205,0,1),(0,200,0,1),(0,207,0,0),(0,283,0,1)]
def eM_H44 : List (Nat × Nat × Nat × Nat) := [(0,8,0,0),(0,21,0,0),(0,34,0,0),(0,54,0,1),(0,95,0,1),(0,100,0,0),(0,128,0,0),(0,157,0,1),(0,0,0,1),(0,13,0,0),(0,26,0,0),(0,198,0,1),(0,205,0,1),(0,200,0,0),(0,207,0,0),(0,283,0,1)]
def eM_H45 : List (Nat × Nat × Nat × Nat) := [(0,8,0,0),(0,21,0,0),(0,34,0,0),(0,54,0,1),(0,95,0,1),(0,100,0,0),(0,128,0,0),(0,157,0,1),(0,0,0,1),(0,13,0,0),(0,26,0,0),(0,198,0,1),(0,205,0,0),(0,290,0,1),(0,292,0,1)]
def eM_H46 : List (Nat × Nat × Nat × Nat) := [(0,8,0,0),(0,21,0,0),(0,34,0,0),(0,54,0,1),(0,95,0,1),(0,100,0,0),(0,128,0,0),(0,157,0,1),(0,0,0,1),(0,13,0,0),(0,26,0,0),(0,198,0,0),(0,205,0,0),(0,290,0,1),(0,292,0,1)]
def eM_H47 : List (Nat × Nat × Nat × Nat) := [(0,8,0,0),(0,21,0,0),(0,34,0,0),(0,54,0,1),(0,95,0,1),(0,100,0,0),(0,128,0,0),(0,157,0,1),(0,0,0,0),(0,13,0,1),(0,26,0,1),(0,414,0,1),(0,421,0,1),(0,416,0,0),(0,423,0,0),(0,436,0,1)]
def eM_H48 : List (Nat × Nat × Nat × Nat) := [(0,8,0,0),(0,21,0,0),(0,34,0,0),(0,54,0,1),(0,95,0,1),(0,100,0,0),(0,128,0,0),(0,157,0,1),(0,0,0,0),(0,13,0,1),(0,26,0,1),(0,414,0,0),(0,421,0,0),(0,443,0,1),(0,445,0,1)]
def eM_H49 : List (Nat × Nat × Nat × Nat) := [(0,8,0,0),(0,21,0,0),(0,34,0,0),(0,54,0,1),(0,95,0,1),(0,100,0,0),(0,128,0,0),(0,157,0,1),(0,0,0,0),(0,13,0,1),(0,26,0,0),(0,198,0,1),(0,205,0,1),(0,200,0,0),(0,207,0,0),(0,283,0,1)]
def eM_H50 : List (Nat × Nat × Nat × Nat) := [(0,8,0,0),(0,21,0,0),(0,34,0,0),(0,54,0,1),(0,95,0,1),(0,100,0,0),(0,128,0,0),(0,157,0,1),(0,0,0,0),(0,13,0,1),(0,26,0,0),(0,198,0,0),(0,205,0,0),(0,290,0,1),(0,292,0,1)]
def eM_H51 : List (Nat × Nat × Nat × Nat) := [(0,8,0,0),(0,21,0,0),(0,34,0,0),(0,54,0,1),(0,95,0,1),(0,100,0,0),(0,128,0,0),(0,157,0,1),(0,0,0,0),(0,13,0,0),(0,26,0,1),(0,297,0,1),(0,304,0,1),(0,299,0,0),(0,306,0,0),(0,319,0,1)]
def eM_H52 : List (Nat × Nat × Nat × Nat) := [(0,8,0,0),(0,21,0,0),(0,34,0,0),(0,54,0,1),(0,95,0,1),(0,100,0,0),(0,128,0,0),(0,157,0,1),(0,0,0,0),(0,13,0,0),(0,26,0,1),(0,297,0,0),(0,304,0,0),(0,326,0,1),(0,328,0,1)]
def eM_H53 : List (Nat × Nat × Nat × Nat) := [(0,8,0,0),(0,21,0,0),(0,34,0,0),(0,54,0,1),(0,95,0,1),(0,100,0,0),(0,128,0,0),(0,157,0,1),(0,0,0,0),(0,13,0,0),(0,26,0,0),(0,198,0,1),(0,205,0,1),(0,200,0,1),(0,207,0,0),(0,283,0,1)]
def eM_H54 : List (Nat × Nat × Nat × Nat) := [(0,8,0,0),(0,21,0,0),(0,34,0,0),(0,54,0,1),(0,95,0,1),(0,100,0,0),(0,128,0,0),(0,157,0,1),(0,0,0,0),(0,13,0,0),(0,26,0,0),(0,198,0,1),(0,205,0,1),(0,200,0,0),(0,207,0,0),(0,283,0,1)]
def eM_H55 : List (Nat × Nat × Nat × Nat) := [(0,8,0,0),(0,21,0,0),(0,34,0,0),(0,54,0,1),(0,95,0,1),(0,100,0,0),(0,128,0,0),(0,157,0,1),(0,0,0,0),(0,13,0,0),(0,26,0,0),(0,198,0,1),(0,205,0,0),(0,290,0,1),(0,292,0,1)]
def eM_H56 : List (Nat × Nat × Nat × Nat) := [(0,8,0,0),(0,21,0,0),(0,34,0,0),(0,54,0,1),(0,95,0,1),(0,100,0,0),(0,128,0,0),(0,157,0,1),(0,0,0,0),(0,13,0,0),(0,26,0,0),(0,198,0,0),(0,205,0,0),(0,290,0,1),(0,292,0,1)]
def eM_H57 : List (Nat × Nat × Nat × Nat) := [(0,8,0,0),(0,21,0,0),(0,34,0,0),(0,54,0,1),(0,95,0,0),(0,157,0,1),(0,0,0,1),(0,13,0,1),(0,26,0,1),(0,1,0,1),(0,14,0,1),(0,27,0,0),(0,182,0,0),(0,189,0,0),(0,247,0,0)]
def eM_H58 : List (Nat × Nat × Nat × Nat) := [(0,8,0,0),(0,21,0,0),(0,34,0,0),(0,54,0,1),(0,95,0,0),(0,157,0,1),(0,0,0,1),(0,13,0,1),(0,26,0,1),(0,1,0,1),(0,14,0,0),(0,27,0,1),(0,254,0,0),(0,261,0,0),(0,274,0,0)]
def eM_H59 : List (Nat × Nat × Nat × Nat) := [(0,8,0,0),(0,21,0,0),(0,34,0,0),(0,54,0,1),(0,95,0,0),(0,157,0,1),(0,0,0,1),(0,13,0,1),(0,26,0,1),(0,1,0,1),(0,14,0,0),(0,27,0,0),(0,182,0,1),(0,189,0,0),(0,247,0,0)]
def eM_H60 : List (Nat × Nat × Nat × Nat) := [(0,8,0,0),(0,21,0,0),(0,34,0,0),(0,54,0,1),(0,95,0,0),(0,157,0,1),(0,0,0,1),(0,13,0,1),(0,26,0,1),(0,1,0,1),(0,14,0,0),(0,27,0,0),(0,182,0,0),(0,189,0,0),(0,247,0,0)]
def eM_H61 : List (Nat × Nat × Nat × Nat) := [(0,8,0,0),(0,21,0,0),(0,34,0,0),(0,54,0,1),(0,95,0,0),(0,157,0,1),(0,0,0,1),(0,13,0,1),(0,26,0,1),(0,1,0,0),(0,14,0,1),(0,27,0,1),(0,389,0,0),(0,396,0,0),(0,409,0,0)]
def eM_H62 : List (Nat × Nat × Nat × Nat) := [(0,8,0,0),(0,21,0,0),(0,34,0,0),(0,54,0,1),(0,95,0,0),(0,157,0,1),(0,0,0,1),(0,13,0,1),(0,26,0,1),(0,1,0,0),(0,14,0,1),(0,27,0,0),(0,182,0,0),(0,189,0,1),(0,364,0,0)]
def eM_H63 : List (Nat × Nat × Nat × Nat) := [(0,8,0,0),(0,21,0,0),(0,34,0,0),(0,54,0,1),(0,95,0,0),(0,157,0,1),(0,0,0,1),(0,13,0,1),(0,26,0,1),(0,1,0,0),(0,14,0,1),(0,27,0,0),(0,182,0,0),(0,189,0,0),(0,247,0,0)]
def eM_H64 : List (Nat × Nat × Nat × Nat) := [(0,8,0,0),(0,21,0,0),(0,34,0,0),(0,54,0,1),(0,95,0,0),(0,157,0,1),(0,0,0,1),(0,13,0,1),(0,26,0,1),(0,1,0,0),(0,14,0,0),(0,27,0,1),(0,254,0,1),(0,261,0,0),(0,274,0,0)]
def eM_H65 : List (Nat × Nat × Nat × Nat) := [(0,8,0,0),(0,21,0,0),(0,34,0,0),(0,54,0,1),(0,95,0,0),(0,157,0,1),(0,0,0,1),(0,13,0,1),(0,26,0,1),(0,1,0,0),(0,14,0,0),(0,27,0,1),(0,254,0,0),(0,261,0,0),(0,274,0,0)]
def eM_H66 : List (Nat × Nat × Nat × Nat) := [(0,8,0,0),(0,21,0,0),(0,34,0,0),(0,54,0,1),(0,95,0,0),(0,157,0,1),(0,0,0,1),(0,13,0,1),(0,26,0,1),(0,1,0,0),(0,14,0,0),(0,27,0,0),(0,182,0,1),(0,189,0,0),(0,247,0,0)]
def eM_H67 : List (Nat × Nat × Nat × Nat) := [(0,8,0,0),(0,21,0,0),(0,34,0,0),(0,54,0,1),(0,95,0,0),(0,157,0,1),(0,0,0,1),(0,13,0,1),(0,26,0,1),(0,1,0,0),(0,14,0,0),(0,27,0,0),(0,182,0,0),(0,189,0,1),(0,364,0,0)]
def eM_H68 : List (Nat × Nat × Nat × Nat) := [(0,8,0,0),(0,21,0,0),(0,34,0,0),(0,54,0,1),(0,95,0,0),(0,157,0,1),(0,0,0,1),(0,13,0,1),(0,26,0,1),(0,1,0,0),(0,14,0,0),(0,27,0,0),(0,182,0,0),(0,189,0,0),(0,247,0,0)]
def eM_H69 : List (Nat × Nat × Nat × Nat) := [(0,8,0,0),(0,21,0,0),(0,34,0,0),(0,54,0,1),(0,95,0,0),(0,157,0,1),(0,0,0,1),(0,13,0,1),(0,26,0,0),(0,198,0,1),(0,205,0,1),(0,200,0,0),(0,207,0,0),(0,283,0,0)]
def eM_H70 : List (Nat × Nat × Nat × Nat) := [(0,8,0,0),(0,21,0,0),(0,34,0,0),(0,54,0,1),(0,95,0,0),(0,157,0,1),(0,0,0,1),(0,13,0,1),(0,26,0,0),(0,198,0,0),(0,205,0,0),(0,290,0,1),(0,292,0,0)]
def eM_H71 : List (Nat × Nat × Nat × Nat) := [(0,8,0,0),(0,21,0,0),(0,34,0,0),(0,54,0,1),(0,95,0,0),(0,157,0,1),(0,0,0,1),(0,13,0,0),(0,26,0,1),(0,297,0,1),(0,304,0,1),(0,299,0,0),(0,306,0,0),(0,319,0,0)]
def eM_H72 : List (Nat × Nat × Nat × Nat) := [(0,8,0,0),(0,21,0,0),(0,34,0,0),(0,54,0,1),(0,95,0,0),(0,157,0,1),(0,0,0,1),(0,13,0,0),(0,26,0,1),(0,297,0,0),(0,304,0,0),(0,326,0,1),(0,328,0,0)]
def eM_H73 : List (Nat × Nat × Nat × Nat) := [(0,8,0,0),(0,21,0,0),(0,34,0,0),(0,54,0,1),(0,95,0,0),(0,157,0,1),(0,0,0,1),(0,13,0,0),(0,26,0,0),(0,198,0,1),(0,205,0,1),(0,200,0,1),(0,207,0,0),(0,283,0,0)]
def eM_H74 : List (Nat × Nat × Nat × Nat) := [(0,8,0,0),(0,21,0,0),(0,34,0,0),(0,54,0,1),(0,95,0,0),(0,157,0,1),(0,0,0,1),(0,13,0,0),(0,26,0,0),(0,198,0,1),(0,205,0,1),(0,200,0,0),(0,207,0,0),(0,283,0,0)]
def eM_H75 : List (Nat × Nat × Nat × Nat) := [(0,8,0,0),(0,21,0,0),(0,34,0,0),(0,54,0,1),(0,95,0,0),(0,157,0,1),(0,0,0,1),(0,13,0,0),(0,26,0,0),(0,198,0,1),(0,205,0,0),(0,290,0,1),(0,292,0,0)]
def eM_H76 : List (Nat × Nat × Nat × Nat) := [(0,8,0,0),(0,21,0,0),(0,34,0,0),(0,54,0,1),(0,95,0,0),(0,157,0,1),(0,0,0,1),(0,13,0,0),(0,26,0,0),(0,198,0,0),(0,205,0,0),(0,290,0,1),(0,292,0,0)]
def eM_H77 : List (Nat × Nat × Nat × Nat) := [(0,8,0,0),(0,21,0,0),(0,34,0,0),(0,54,0,1),(0,95,0,0),(0,157,0,1),(0,0,0,0),(0,13,0,1),(0,26,0,1),(0,414,0,1),(0,421,0,1),(0,416,0,0),(0,423,0,0),(0,436,0,0)]
def eM_H78 : List (Nat × Nat × Nat × Nat) := [(0,8,0,0),(0,21,0,0),(0,34,0,0),(0,54,0,1),(0,95,0,0),(0,157,0,1),(0,0,0,0),(0,13,0,1),(0,26,0,1),(0,414,0,0),(0,421,0,0),(0,443,0,1),(0,445,0,0)]
def eM_H79 : List (Nat × Nat × Nat × Nat) := [(0,8,0,0),(0,21,0,0),(0,34,0,0),(0,54,0,1),(0,95,0,0),(0,157,0,1),(0,0,0,0),(0,13,0,1),(0,26,0,0),(0,198,0,1),(0,205,0,1),(0,200,0,0),(0,207,0,1),(0,373,0,0)]
def eM_H80 : List (Nat × Nat × Nat × Nat) := [(0,8,0,0),(0,21,0,0),(0,34,0,0),(0,54,0,1),(0,95,0,0),(0,157,0,1),(0,0,0,0),(0,13,0,1),(0,26,0,0),(0,198,0,1),(0,205,0,1),(0,200,0,0),(0,207,0,0),(0,283,0,0)]
def eM_H81 : List (Nat × Nat × Nat × Nat) := [(0,8,0,0),(0,21,0,0),(0,34,0,0),(0,54,0,1),(0,95,0,0),(0,157,0,1),(0,0,0,0),(0,13,0,1),(0,26,0,0),(0,198,0,0),(0,205,0,1),(0,380,0,1),(0,382,0,0)]
def eM_H82 : List (Nat × Nat × Nat × Nat) := [(0,8,0,0),(0,21,0,0),(0,34,0,0),(0,54,0,1),(0,95,0,0),(0,157,0,1),(0,0,0,0),(0,13,0,1),(0,26,0,0),(0,198,0,0),(0,205,0,0),(0,290,0,1),(0,292,0,0)]
def eM_H83 : List (Nat × Nat × Nat × Nat) := [(0,8,0,0),(0,21,0,0),(0,34,0,0),(0,54,0,1),(0,95,0,0),(0,157,0,1),(0,0,0,0),(0,13,0,0),(0,26,0,1),(0,297,0,1),(0,304,0,1),(0,299,0,1),(0,306,0,0),(0,319,0,0)]
def eM_H84 : List (Nat × Nat × Nat × Nat) := [(0,8,0,0),(0,21,0,0),(0,34,0,0),(0,54,0,1),(0,95,0,0),(0,157,0,1),(0,0,0,0),(0,13,0,0),(0,26,0,1),(0,297,0,1),(0,304,0,1),(0,299,0,0),(0,306,0,0),(0,319,0,0)]
def eM_H85 : List (Nat × Nat × Nat × Nat) := [(0,8,0,0),(0,21,0,0),(0,34,0,0),(0,54,0,1),(0,95,0,0),(0,157,0,1),(0,0,0,0),(0,13,0,0),(0,26,0,1),(0,297,0,1),(0,304,0,0),(0,326,0,1),(0,328,0,0)]
def eM_H86 : List (Nat × Nat × Nat × Nat) := [(0,8,0,0),(0,21,0,0),(0,34,0,0),(0,54,0,1),(0,95,0,0),(0,157,0,1),(0,0,0,0),(0,13,0,0),(0,26,0,1),(0,297,0,0),(0,304,0,0),(0,326,0,1),(0,328,0,0)]
def eM_H87 : List (Nat × Nat × Nat × Nat) := [(0,8,0,0),(0,21,0,0),(0,34,0,0),(0,54,0,1),(0,95,0,0),(0,157,0,1),(0,0,0,0),(0,13,0,0),(0,26,0,0),(0,198,0,1),(0,205,0,1),(0,200,0,1),(0,207,0,0),(0,283,0,0)]
def eM_H88 : List (Nat × Nat × Nat × Nat) := [(0,8,0,0),(0,21,0,0),(0,34,0,0),(0,54,0,1),(0,95,0,0),(0,157,0,1),(0,0,0,0),(0,13,0,0),(0,26,0,0),(0,198,0,1),(0,205,0,1),(0,200,0,0),(0,207,0,1),(0,373,0,0)]
def eM_H89 : List (Nat × Nat × Nat × Nat) := [(0,8,0,0),(0,21,0,0),(0,34,0,0),(0,54,0,1),(0,95,0,0),(0,157,0,1),(0,0,0,0),(0,13,0,0),(0,26,0,0),(0,198,0,1),(0,205,0,1),(0,200,0,0),(0,207,0,0),(0,283,0,0)]
def eM_H90 : List (Nat × Nat × Nat × Nat) := [(0,8,0,0),(0,21,0,0),(0,34,0,0),(0,54,0,1),(0,95,0,0),(0,157,0,1),(0,0,0,0),(0,13,0,0),(0,26,0,0),(0,198,0,1),(0,205,0,0),(0,290,0,1),(0,292,0,0)]
def eM_H91 : List (Nat × Nat × Nat × Nat) := [(0,8,0,0),(0,21,0,0),(0,34,0,0),(0,54,0,1),(0,95,0,0),(0,157,0,1),(0,0,0,0),(0,13,0,0),(0,26,0,0),(0,198,0,0),(0,205,0,1),(0,380,0,1),(0,382,0,0)]
def eM_H92 : List (Nat × Nat × Nat × Nat) := [(0,8,0,0),(0,21,0,0),(0,34,0,0),(0,54,0,1),(0,95,0,0),(0,157,0,1),(0,0,0,0),(0,13,0,0),(0,26,0,0),(0,198,0,0),(0,205,0,0),(0,290,0,1),(0,292,0,0)]
def eM_H93 : List (Nat × Nat × Nat × Nat) := [(0,8,0,0),(0,21,0,0),(0,34,0,0),(0,54,0,0),(0,157,0,0),(0,455,0,1),(0,461,0,1),(0,467,0,1)]
end Go.Proofs.YthagmklephpnhaaGreatDoor
