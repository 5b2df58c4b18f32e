/- Part 13 of the walks and of the mathematics under them: VP VPC VY VSZ VSA CFspun PLY VPD VPE VPF VPJ MQC. -/
import Derived.Test.YtmdfngmjoaigjaaGreatDoorA2
import Derived.Test.YtmdfngmjoaigjaaGreatDoorA12
import Derived.Test.YtmdfngmjoaigjaaGreatDoorA11
set_option maxHeartbeats 16000000
set_option maxRecDepth 100000
/- VP -/
namespace Cx
open Go Go.RowKit
abbrev Hs := List (Nat × Nat × Nat × Nat)
def Sx.plus (S : Sx) (X : Hs) : Sx := { S with H := X ++ S.H }
abbrev Ask := Nat × Nat × Nat × Nat
def XB (a : Nat) : Ask := (0,a,0,a)
def JL (S : Sx) : Ask→Bool
 | (k,a,b,d) => (Nat.beq k 0 && (Nat.beq b 0 && Nat.beq d a)) || (Nat.beq k 3 && (match S.N[d]? with
  | some (op,ar) => Nat.beq op 3 && Rq ar [a,b]
  | none => false))
def Yt (S : Sx) (a b : Nat) : List Nat→List Nat→Option (List Ask)
 | c :: l,d :: m => (S.nd 4 [a,d]).bind fun x => (S.nd 4 [c,b]).bind fun y => (S.nd 3 [x,y]).bind fun z => (Yt S a b l m).map fun r => (3,x,y,z) :: r
 | _,_ => some []
def UI (S : Sx) : List Nat→List Nat→List Nat→List Nat→Option (List Ask)
 | pl,pm,a :: l,b :: m => (Yt S a b pl pm).bind fun r => (UI S (pl ++ [a]) (pm ++ [b]) l m).map fun t => r ++ t
 | _,_,_,_ => some []
def OL (S : Sx) : List Nat→List Nat→Option (List Ask)
 | a :: l,b :: m => (S.nd 3 [a,b]).bind fun d => (OL S l m).map fun r => (3,a,b,d) :: r
 | _,_ => some []
def asks (S : Sx) (h : List HB) (code : Nat) (args : List AV) : Option (List Ask) :=
 match code with
 | 60 => arg1 (fun x => (asA x).bind fun cs => (WY S cs).map fun l => l.map XB) args
 | 61 => arg1 (fun x => (YW h 1 x).bind fun p => (Zi (acX 0) p.2).map fun l => l.map XB) args
 | 62 => Ua (fun x y => (YW h 1 x).bind fun p => (Zi (acX 0) p.2).bind fun l => (YW h 1 y).bind fun p' => (Zi (acX 0) p'.2).bind fun m => UI S [] [] l m) args
 | 63 => arg1 (fun x => (asA x).bind fun cs => (Zi Jx cs).bind fun l => (Rp S l).map fun xs => xs.map XB) args
 | 69 => arg1 (fun x => (asA x).bind fun cs => (Zi (UQ S) cs).map fun l => l.map XB) args
 | 67 => arg1 (fun x => (asA x).bind fun cs => (Zi (UQ S) (cs.take 3)).map fun l => l.map XB) args
 | 65 => arg1 (fun x => (asA x).bind fun cs => (Zi (acX 0) cs).map fun l => l.map XB) args
 | 66 => Ua (fun x y => (asA x).bind fun cs => (asA y).bind fun ds => (Zi (acX 0) cs).bind fun l => (Zi (acX 0) ds).bind fun m => OL S l m) args
 | 64 => arg1 (fun x => (asA x).bind fun cs => (WY S cs).map fun l => (l.take 5).map XB) args
 | 68 => Ua (fun x _ => (asA x).bind fun cs => (WY S cs).map fun l => (l.take 5).map XB) args
 | _ => none
def Jd : List Ask→Hs→List Hs
 | [],_ => []
 | (k,a,b,_) :: l,X => ((k,a,b,0) :: X) :: Jd l ((k,a,b,1) :: X)
def Ub : List Ask→Hs→Hs
 | [],X => X
 | (k,a,b,_) :: l,X => Ub l ((k,a,b,1) :: X)
def Zv (S : Sx) (call : ZN) : ZN := fun f args h nx => S.P.funcs[f]?.bind fun fn => fn.body.bind fun c => ifO (Nat.ble args.length fn.ntmps) ((OH S call fn.ntmps c { tm := Ki 0 args,h := h,nx := nx }).bind fun r =>
   ifO (Nat.ble r.1 1) ((Zi (Dv S.P r.2) fn.results.toList).map fun xs => (Mw xs,r.2.h,r.2.nx)))
abbrev XV := Option (AV × List HB × Nat)
def acZ : AC→Option Nat
 | .inr (k,j,a,x,y) => ifO (Nat.beq k 0 && (Nat.beq j 7 && (Nat.beq x 0 && Nat.beq y 0))) (some a)
 | _ => none
def UA (S : Sx) (v : AV) : AV := match (asC v).bind (acX 4) with
 | some n => (match S.N[n]? with
  | some (_,[a,b]) => (match S.nd 4 [a,b],S.kn 0 a 0 with
   | some m,some r => bif Nat.beq m n && !Nat.beq 1 r then v1 (.inr (0,7,b,0,0)) else v
   | _,_ => v)
  | _ => v)
 | none => v
def JH (S : Sx) (r : XV) : XV := r.map fun p => (UA S p.1,p.2)
def Oa (v : AV) : Option (Bool ⊕ Nat) := match asB v with
 | some b => some (.inl b)
 | none => ((asC v).bind acZ).map .inr
def Rt : Bool ⊕ Nat→AV
 | .inl b => kB b
 | .inr a => v1 (.inr (0,7,a,0,0))
def UP : Bool ⊕ Nat→Bool ⊕ Nat→Bool
 | .inl b,.inl c => b == c
 | .inr a,.inr b => Nat.beq a b
 | _,_ => false
def Uu (h : List HB) (b : Bool ⊕ Nat) (hi : Nat) : XV→Bool
 | some (v,h',nx') => (match Oa v with
  | some c => UP b c
  | none => false) && (Nat.ble nx' hi && h.all fun x => h'.any fun y => Nat.beq y.1 x.1 && Iu x.2 y.2)
 | none => false
def WZ : Nat→List XV→Nat
 | m,[] => m
 | m,some p :: rs => WZ (bif Nat.ble m p.2.2 then p.2.2 else m) rs
 | m,none :: rs => WZ m rs
def XK (h : List HB) (nx : Nat) (rs : List XV) : XV :=
 match rs with
 | some p :: _ => (Oa p.1).bind fun b => ifO (rs.all (Uu h b (WZ nx rs))) (some (Rt b,h,WZ nx rs))
 | _ => none
def YR (S : Sx) (X : Hs) (h : List HB) (c : Nat) (args : List AV) : Option (List Ask × Nat) :=
 (asks (S.plus X) h c args).bind fun l => ifO (l.all (JL S)) ((sqN S (l.map (·.2.2.2))).bind fun s => ((S.plus X).kn 0 s 0).map fun r => (l,r))
theorem JZ {S : Sx} {X : Hs} {h : List HB} {c : Nat} {args : List AV} {l : List Ask} {r : Nat} (e : YR S X h c args=some (l,r)) : (∀ a ∈ l,JL S a=true)∧∃ s,sqN S (l.map (·.2.2.2))=some s∧(S.plus X).kn 0 s 0=some r := by
 unfold YR at e
 simp only [Option.bind_eq_some_iff,ifO_some,Option.map_eq_some_iff,List.all_eq_true,Prod.mk.injEq] at e
 obtain ⟨l',_,h1,s,h2,r',h3,rfl,rfl⟩ := e
 exact ⟨h1,s,h2,h3⟩
section
variable {S : Sx} {E : Ev S.nb} {w0 : World}
theorem Yi {call : ZN} (hm : S.P.follows .mixedOrders=true) (N : Knows S E) (hP : JI S E w0) (hC : Zl S E w0 call) : Zl S E w0 (Zv S call) := fun f args h nx p hp γ w vs hi hA hb hlt hf => by
 unfold Zv at hp
 simp only [Option.bind_eq_some_iff,ifO_some,Option.map_eq_some_iff,Nat.ble_eq] at hp
 obtain ⟨fn,h1,c,h2,h3,⟨e,s'⟩,h4,h5,xs,h6,rfl⟩ := hp
 dsimp only at h5 h6
 rcases (show e=0 ∨ e=1 by omega) with rfl | rfl
 all_goals
  obtain ⟨_,_,r⟩ := Xr hm N hP hC c _ _ _ h4
  refine calls_of_wp h1 h2 (r γ _ w _ ⟨hi,fun t v q => ?_,hb,hlt,?_,rfl⟩ hf fun a' w' γ' hef hs => ?_)
  ·obtain ⟨_,q2⟩ := Vu q
   rw [Nat.sub_zero] at q2
   obtain ⟨u,hu,hv⟩ := hA.get q2
   have hlt : t < vs.length := (List.getElem?_eq_some_iff.1 hu).1
   have : (vs.toArray ++ Array.replicate (fn.ntmps - vs.toArray.size) undef).getD t undef=u := by
    rw [Array.getD_eq_getD_getElem?,Array.getElem?_append_left (by simpa using hlt)]
    simp [hu]
   show avOn _ v ((vs.toArray ++ Array.replicate (fn.ntmps - vs.toArray.size) undef).getD t undef)
   rw [this]
   exact hv
  ·have := hA.len
   simp
   omega
  ·obtain ⟨v,hv,hx⟩ := YE hs h6
   exact ⟨hs.df,v,hv,v,γ',rfl,hef,hx,hs.bx⟩
theorem Ru {v : AV} {b : Bool} (h : asB v=some b) : v=kB b := by
 unfold asB at h
 rw [Option.bind_eq_some_iff] at h
 obtain ⟨c,h1,h2⟩ := h
 unfold asC at h1
 split at h1
 ·cases h1
  unfold acB at h2
  split at h2
  ·cases h2
   rfl
  ·cases h2
 ·cases h1
theorem WW {v : AV} {k : Bool ⊕ Nat} (h : Oa v=some k) : v=Rt k := by
 unfold Oa at h
 split at h
 ·rename_i b hb
  cases h
  exact Ru hb
 ·rw [Option.map_eq_some_iff] at h
  obtain ⟨a,h,rfl⟩ := h
  rw [Option.bind_eq_some_iff] at h
  obtain ⟨c,h1,h2⟩ := h
  unfold asC at h1
  split at h1
  ·cases h1
   unfold acZ at h2
   split at h2
   ·rw [ifO_some,Bool.and_eq_true,Bool.and_eq_true,Bool.and_eq_true,Nat.beq_eq,Nat.beq_eq,Nat.beq_eq,Nat.beq_eq] at h2
    obtain ⟨⟨rfl,rfl,rfl,rfl⟩,h3⟩ := h2
    cases h3
    rfl
   ·cases h2
  ·cases h1
theorem UC {a b : Bool ⊕ Nat} (h : UP a b=true) : a=b := by
 unfold UP at h
 split at h
 ·rename_i x y
  have : x=y := by simpa using h
  rw [this]
 ·rw [Nat.beq_eq] at h
  rw [h]
 ·cases h
theorem YJ (q : Rat) : Xa q=0 ↔ q=0 := by
 unfold Xa
 split
 ·rename_i hlt
  constructor
  ·intro q; cases q
  ·intro q; rw [q] at hlt; exact absurd hlt (by decide)
 ·split <;> simp_all
theorem UB (N : Knows S E) {γ : Nat→Option Nat} {w : World} {v : AV} {r : Value} (h : avOn (cOn E S.K γ w) v r) : avOn (cOn E S.K γ w) (UA S v) r := by
 unfold UA
 split
 ·rename_i n hn
  rw [Option.bind_eq_some_iff] at hn
  obtain ⟨c,h1,h2⟩ := hn
  split
  ·split
   ·rename_i a b _ _ _ m r' hm hr
    cases e : (Nat.beq m n && !Nat.beq 1 r') with
    | true =>
     rw [Bool.and_eq_true,Nat.beq_eq,Bool.not_eq_true'] at e
     obtain ⟨rfl,e2⟩ := e
     have ez := (N.x4 _ _ _).1 (YU h2 (Zk h1 h))
     refine ZE ((N.x7 _ _ _).2 ⟨_,ez,?_⟩)
     have hz : ¬ E.q a=0 := fun q => by rw [(N.k0 a r' hr).2 q] at e2; cases e2
     rw [YJ,N.k7 _ _ _ hm]
     constructor
     ·exact fun q => (Rat.mul_eq_zero.1 q).resolve_left hz
     ·intro q
      rw [q,Rat.mul_zero]
    | false => exact h
   ·exact h
  ·exact h
 ·exact h
theorem Vq {X : Hs} {call : ZN} (N : Knows (S.plus X) E) (hC : Zl S E w0 call) : Zl S E w0 (fun f args h nx => JH (S.plus X) (call f args h nx)) := fun f args h nx p hp => by
 replace hp : JH (S.plus X) (call f args h nx)=some p := hp
 unfold JH at hp
 rw [Option.map_eq_some_iff] at hp
 obtain ⟨p0,hp0,rfl⟩ := hp
 intro γ w vs hi hA hb hlt hf
 refine (hC f args h nx p0 hp0 γ w vs hi hA hb hlt hf).mono ?_
 rintro _ w' ⟨r',γ',rfl,hef,hv,hx⟩
 exact ⟨r',γ',rfl,hef,UB (S := S.plus X) N hv,hx⟩
theorem JX {h : List HB} {b : Bool ⊕ Nat} {hi : Nat} {r : XV} (hr : Uu h b hi r=true) : ∃ h' nx',r=some (Rt b,h',nx')∧nx'≤hi∧∀ x ∈ h,x ∈ h' := by
 unfold Uu at hr
 split at hr
 ·rename_i v h' nx'
  rw [Bool.and_eq_true,Bool.and_eq_true,Nat.ble_eq,List.all_eq_true] at hr
  obtain ⟨h1,h2,h3⟩ := hr
  refine ⟨h',nx',?_,h2,fun x hx => ?_⟩
  ·split at h1
   ·rename_i c hc
    rw [WW hc,UC h1]
   ·cases h1
  ·have := h3 x hx
   rw [List.any_eq_true] at this
   obtain ⟨y,hy,e⟩ := this
   rw [Bool.and_eq_true,Nat.beq_eq] at e
   have : x=y := Prod.ext e.1.symm (XZ e.2)
   rw [this]
   exact hy
 ·cases hr
variable {T : Hs→Prop} {z : Nat→Prop}
def ZF (S : Sx) (T : Hs→Prop) (z : Nat→Prop) : Prop := ∀ X,T X→∀ a,JL S a=true→(z a.2.2.2→T ((a.1,a.2.1,a.2.2.1,1) :: X))∧(¬ z a.2.2.2→T ((a.1,a.2.1,a.2.2.1,0) :: X))
theorem ZV (hk : ZF S T z) : ∀ {l : List Ask} {X : Hs},T X→(∀ a ∈ l,JL S a=true)→(∀ a ∈ l,z a.2.2.2)→T (Ub l X)
 | [],_,h,_,_ => h
 | (k,a,b,d) :: l,X,h,ho,hz => ZV (l := l) hk ((hk X h (k,a,b,d) (ho _ List.mem_cons_self)).1 (hz _ List.mem_cons_self)) (fun a ha => ho a (List.mem_cons_of_mem _ ha)) (fun a ha => hz a (List.mem_cons_of_mem _ ha))
theorem ZD (hk : ZF S T z) : ∀ {l : List Ask} {X : Hs},T X→(∀ a ∈ l,JL S a=true)→(∃ a ∈ l,¬ z a.2.2.2)→∃ X' ∈ Jd l X,T X'
 | [],_,_,_,⟨_,h,_⟩ => by cases h
 | (k,a,b,d) :: l,X,h,ho,hz => by
  by_cases e : z d
  ·obtain ⟨X',h1,h2⟩ := ZD (l := l) hk ((hk X h (k,a,b,d) (ho _ List.mem_cons_self)).1 e) (fun a ha => ho a (List.mem_cons_of_mem _ ha)) (by
    obtain ⟨c,hc,hn⟩ := hz
    rcases List.mem_cons.1 hc with rfl | hc
    ·exact (hn e).elim
    ·exact ⟨c,hc,hn⟩)
   exact ⟨X',List.mem_cons_of_mem _ h1,h2⟩
  ·exact ⟨_,List.mem_cons_self,(hk X h (k,a,b,d) (ho _ List.mem_cons_self)).2 e⟩
end
end Cx
/- VPC -/
namespace Go.Proofs.YtmdfngmjoaigjaaGreatDoor
open Cx Go Go.RowKit
section
variable {N : List Nd} {H : List (Nat × Nat × Nat × Nat)} {K : List (FuncId × List AC)} {L C : List (List Nat × Nat)} {Z : List Nat} {q : Nat→Rat} {σ : Nat→ByteArray} {w0 : World} {cl : List FuncId} {cs pr : List (FuncId × Nat)}
theorem QK {k a b k' a' b' r' : Nat} {r : Nat} (h : JG k a b ((k',a',b',r') :: H)=some r) : (k=k'∧a=a'∧b=b'∧r=r') ∨ JG k a b H=some r := by
 unfold JG at h
 cases e : (Nat.beq k k' && (Nat.beq a a' && Nat.beq b b')) with
 | true =>
  rw [e] at h
  simp only [Bool.and_eq_true,Nat.beq_eq] at e
  exact Or.inl ⟨e.1,e.2.1,e.2.2,(Option.some.inj h).symm⟩
 | false =>
  rw [e] at h
  exact Or.inr h
theorem Hy.add0 (Y : Hy N H L C Z q σ) {a r : Nat} (h : Nat.beq 1 r=true ↔ q a=0) : Hy N ((0,a,0,r) :: H) L C Z q σ where
 nat := Y.nat
 qs := Y.qs
 zs := Y.zs
 par := Y.par
 lit := Y.lit
 k0 := fun a' r' g => by
  rcases QK g with ⟨_,e1,_,e2⟩ | g
  ·rw [e1,e2]
   exact h
  ·exact Y.k0 a' r' g
 k1 := fun a' r' g => by
  rcases QK g with ⟨e,_⟩ | g
  ·cases e
  ·exact Y.k1 a' r' g
 k2 := fun a' r' g => by
  rcases QK g with ⟨e,_⟩ | g
  ·cases e
  ·exact Y.k2 a' r' g
 k4 := fun l a' b' r' g1 g => by
  rcases QK g with ⟨e,_⟩ | g
  ·cases e
  ·exact Y.k4 l a' b' r' g1 g
 k3 := fun a' b' r' g => by
  rcases QK g with ⟨e,_⟩ | g
  ·cases e
  ·exact Y.k3 a' b' r' g
 k6 := fun a' b' r' g => by
  rcases QK g with ⟨e,_⟩ | g
  ·cases e
  ·exact Y.k6 a' b' r' g
 k5 := fun a' r' g => by
  rcases QK g with ⟨e,_⟩ | g
  ·cases e
  ·exact Y.k5 a' r' g
theorem Hy.add3 (Y : Hy N H L C Z q σ) {a b r : Nat} (h : Nat.beq 1 r=true ↔ q a=q b) : Hy N ((3,a,b,r) :: H) L C Z q σ where
 nat := Y.nat
 qs := Y.qs
 zs := Y.zs
 par := Y.par
 lit := Y.lit
 k0 := fun a' r' g => by
  rcases QK g with ⟨e,_⟩ | g
  ·cases e
  ·exact Y.k0 a' r' g
 k1 := fun a' r' g => by
  rcases QK g with ⟨e,_⟩ | g
  ·cases e
  ·exact Y.k1 a' r' g
 k2 := fun a' r' g => by
  rcases QK g with ⟨e,_⟩ | g
  ·cases e
  ·exact Y.k2 a' r' g
 k4 := fun l a' b' r' g1 g => by
  rcases QK g with ⟨e,_⟩ | g
  ·cases e
  ·exact Y.k4 l a' b' r' g1 g
 k3 := fun a' b' r' g => by
  rcases QK g with ⟨_,e1,e2,e3⟩ | g
  ·rw [e1,e2,e3]
   exact h
  ·exact Y.k3 a' b' r' g
 k6 := fun a' b' r' g => by
  rcases QK g with ⟨e,_⟩ | g
  ·cases e
  ·exact Y.k6 a' b' r' g
 k5 := fun a' r' g => by
  rcases QK g with ⟨e,_⟩ | g
  ·cases e
  ·exact Y.k5 a' r' g
theorem Yj : ZF (sx Tryz.prog N H K L C Z pr) (fun X => Hy N (X ++ H) L C Z q σ) (fun d => q d=0) := fun X Y a ha => by
 obtain ⟨k,a,b,d⟩ := a
 have t1 : Nat.beq 1 1=true := rfl
 have t0 : Nat.beq 1 0 ≠ true := fun h => by cases h
 unfold JL at ha
 rw [Bool.or_eq_true] at ha
 rcases ha with ha | ha
 ·simp only [Bool.and_eq_true,Nat.beq_eq] at ha
  obtain ⟨rfl,rfl,rfl⟩ := ha
  exact ⟨fun h => Hy.add0 Y ⟨fun _ => h,fun _ => t1⟩,fun h => Hy.add0 Y ⟨fun g => (t0 g).elim,fun g => (h g).elim⟩⟩
 ·rw [Bool.and_eq_true,Nat.beq_eq] at ha
  obtain ⟨rfl,hb⟩ := ha
  split at hb
  ·rename_i op ar hn
   rw [Bool.and_eq_true,Nat.beq_eq] at hb
   obtain ⟨rfl,hb⟩ := hb
   have e := Ug hb
   subst e
   have hv : q d=q a - q b := Y.nat d _ hn
   have h2 : q d=0 ↔ q a=q b := by
    rw [hv]
    constructor <;> intro h <;> grind
   exact ⟨fun h => Hy.add3 Y ⟨fun _ => h2.1 h,fun _ => t1⟩,fun h => Hy.add3 Y ⟨fun g => (t0 g).elim,fun g => (h (h2.2 g)).elim⟩⟩
  ·cases hb
theorem Vg (y : Rat) : 0≤y*y := by
 by_cases h : y=0
 ·rw [h,Rat.zero_mul]
  exact Rat.le_refl
 ·exact Rat.le_of_lt (Rw h)
theorem Ij {x y : Rat} (hx : 0≤x) : x+y*y=0 ↔ x=0∧y=0 := by
 constructor
 ·intro h
  have h2 := Vg y
  have h3 : x=0 := by grind
  refine ⟨h3,?_⟩
  have : y*y=0 := by grind
  rcases Rat.mul_eq_zero.1 this with g | g <;> exact g
 ·rintro ⟨rfl,rfl⟩
  grind
theorem Yp {H' : List (Nat × Nat × Nat × Nat)} (Y : Hy N H' L C Z q σ) : ∀ {l : List Nat} {s t : Nat},sqF (sx Tryz.prog N H K L C Z pr) s l=some t→0≤q s→0≤q t∧(q t=0 ↔ q s=0∧∀ d ∈ l,q d=0)
 | [],s,t,h,hs => by
  cases h
  exact ⟨hs,fun e => ⟨e,fun d hd => by cases hd⟩,fun e => e.1⟩
 | a :: l,s,t,h,hs => by
  unfold sqF at h
  simp only [Option.bind_eq_some_iff] at h
  obtain ⟨b,h1,c,h2,h3⟩ := h
  have e1 : q b=q a*q a := Hy.nd (H := H') (K := K) (pr := pr) Y h1
  have e2 : q c=q s+q b := Hy.nd (H := H') (K := K) (pr := pr) Y h2
  have n := Vg (q a)
  obtain ⟨g1,g2⟩ := Yp Y h3 (by grind)
  refine ⟨g1,g2.trans ?_⟩
  have e3 := Ij (y := q a) hs
  rw [e2,e1,e3]
  constructor
  ·rintro ⟨⟨x,y⟩,z⟩
   refine ⟨x,fun d hd => ?_⟩
   rcases List.mem_cons.1 hd with rfl | hd
   ·exact y
   ·exact z d hd
  ·rintro ⟨x,y⟩
   exact ⟨⟨x,y a List.mem_cons_self⟩,fun d hd => y d (List.mem_cons_of_mem _ hd)⟩
theorem Vl {H' : List (Nat × Nat × Nat × Nat)} (Y : Hy N H' L C Z q σ) {l : List Nat} {s : Nat} (h : sqN (sx Tryz.prog N H K L C Z pr) l=some s) : q s=0 ↔ ∀ d ∈ l,q d=0 := by
 unfold sqN at h
 split at h
 ·cases h
 ·rename_i a l
  rw [Option.bind_eq_some_iff] at h
  obtain ⟨b,h1,h2⟩ := h
  have e1 : q b=q a*q a := Hy.nd (H := H') (K := K) (pr := pr) Y h1
  have n := Vg (q a)
  obtain ⟨_,g⟩ := Yp Y h2 (by grind)
  rw [g,e1]
  constructor
  ·rintro ⟨x,y⟩ d hd
   rcases List.mem_cons.1 hd with rfl | hd
   ·rcases Rat.mul_eq_zero.1 x with x | x <;> exact x
   ·exact y d hd
  ·intro y
   refine ⟨?_,fun d hd => y d (List.mem_cons_of_mem _ hd)⟩
   rw [y a List.mem_cons_self,Rat.zero_mul]
end
end Go.Proofs.YtmdfngmjoaigjaaGreatDoor
/- VY -/
namespace Go.Proofs.YtmdfngmjoaigjaaGreatDoor
open Go.RowKit Cx
theorem Ob (t : Rat) : t*(t.den : Rat)=((t.num : Int) : Rat) := by
 conv => lhs; lhs; rw [← Rat.mkRat_self t]
 have h0 : (t.den : Rat) ≠ 0 := fun h => t.den_nz (by exact_mod_cast h)
 rw [Rat.mkRat_eq_div,Rat.div_mul_cancel h0]
theorem whole {q : Rat} (h : q.den=1) : q=((q.num : Int) : Rat) := by
 have := Ob q
 rw [h] at this
 rw [← this]
 show q=q*((1 : Nat) : Rat)
 exact (Rat.mul_one q).symm
end Go.Proofs.YtmdfngmjoaigjaaGreatDoor
/- VSZ -/
namespace Go.Proofs.YtmdfngmjoaigjaaGreatDoor
open Go.RowKit Cx
structure QW (z : Nat) (x : Rat) : Prop where
 qs : QS z x
 wh : x.den=1
theorem QW.of {z : Nat} {n : Int} (h : n.natAbs < 2 ^ z) (hz : 0 < z) : QW z ((n : Int) : Rat) :=
 ⟨⟨by simpa using h,by
  show ((n : Int) : Rat).den < 2 ^ z
  rw [Rat.den_intCast]
  exact Nat.one_lt_two_pow (by omega)⟩,Rat.den_intCast n⟩
theorem QW.mono {k l : Nat} {x : Rat} (h : QW k x) (hk : k≤l) : QW l x := ⟨h.qs.mono hk,h.wh⟩
theorem Ys {a b x y : Nat} (h1 : a < 2 ^ x) (h2 : b < 2 ^ y) : a+b < 2 ^ (Nat.max x y+1) := by
 have e1 : 2 ^ x≤2 ^ Nat.max x y := Nat.pow_le_pow_right (by decide) (Nat.le_max_left x y)
 have e2 : 2 ^ y≤2 ^ Nat.max x y := Nat.pow_le_pow_right (by decide) (Nat.le_max_right x y)
 rw [Nat.pow_succ]
 omega
theorem QW.add {x y : Nat} {a b : Rat} (h1 : QW x a) (h2 : QW y b) : QW (Nat.max x y+1) (a+b) := by
 rw [whole h1.wh,whole h2.wh,← Rat.intCast_add]
 refine QW.of ?_ (by omega)
 have := Ys h1.qs.num h2.qs.num
 omega
theorem QW.sub {x y : Nat} {a b : Rat} (h1 : QW x a) (h2 : QW y b) : QW (Nat.max x y+1) (a - b) := by
 rw [whole h1.wh,whole h2.wh,← Rat.intCast_sub]
 refine QW.of ?_ (by omega)
 have := Ys h1.qs.num h2.qs.num
 omega
theorem QW.mul {x y : Nat} {a b : Rat} (h1 : QW x a) (h2 : QW y b) : QW (x+y) (a*b) := by
 refine ⟨h1.qs.mul h2.qs,?_⟩
 rw [whole h1.wh,whole h2.wh,← Rat.intCast_mul]
 exact Rat.den_intCast _
theorem QW.neg {x : Nat} {a : Rat} (h1 : QW x a) : QW x (-a) := ⟨h1.qs.neg,h1.wh⟩
theorem JQ : ∀ n : Nat,10 ^ n≤2 ^ ((10*n+2) / 3)
 | 0 => by decide
 | 1 => by decide
 | 2 => by decide
 | n+3 => by
  have h := JQ n
  have e : (10*(n+3)+2) / 3=(10*n+2) / 3+10 := by omega
  rw [e,Nat.pow_add,Nat.pow_add]
  exact Nat.mul_le_mul h (by decide)
theorem QS.rd3 (l : List UInt8) : QS ((10*l.length+2) / 3+5) (Cx.rd l) := by
 have key : ∀ {m : List UInt8},JY m=true→dv m < 2 ^ ((10*m.length+2) / 3) := fun {m} h => Nat.lt_of_lt_of_le (GZ (Xb h)) (JQ _)
 unfold Cx.rd
 split
 ·rename_i h
  rw [Bool.and_eq_true] at h
  have h1 := key h.1
  have h2 := key h.2
  have h3 := Pm (QU l)
  have h4 := TP (QU l)
  have h5 := Ix l
  apply QS.mkr
  ·rw [UD]; exact Nat.lt_of_lt_of_le h1 (Nat.pow_le_pow_right (by decide) (by omega))
  ·exact Nat.lt_of_lt_of_le h2 (Nat.pow_le_pow_right (by decide) (by omega))
 ·exact QS.zero.mono (by omega)
section
variable {N : List Nd} {Z : List Nat} {I : List Bool} {q : Nat→Rat}
end
end Go.Proofs.YtmdfngmjoaigjaaGreatDoor
/- VSA -/
namespace Go.Proofs.YtmdfngmjoaigjaaGreatDoor
open Go.RowKit Cx
def inB : Nat := 3495259
abbrev Atm := Nat × Nat
def XC (x : Atm) : List Atm→Option (List Atm)
 | [] => none
 | y :: l => bif Nat.beq x.1 y.1 && Nat.beq x.2 y.2 then some l else (XC x l).map (y :: ·)
def Ze : List Atm→List Atm→Option (List Atm)
 | l,[] => some l
 | l,x :: r => (XC x l).bind fun l' => Ze l' r
def Xu : List Atm→List Atm→List Atm
 | _,[] => []
 | U,x :: D => match XC x U with
  | some U' => Xu U' D
  | none => x :: Xu U D
def Xv (E : List (Nat × List Atm)) : List Nat→List Atm→List Atm
 | [],U => U
 | a :: l,U => Xv E l (match E[a]? with
  | some p => U ++ Xu U p.2
  | none => U)
def GP (E : List (Nat × List Atm)) (x : Atm) : Nat := match x.1 with
 | 0 => inB
 | 1 => (match E[x.2]? with
  | some p => p.1
  | none => 1)
 | _ => Nat.log2 x.2+1
def Jo (E : List (Nat × List Atm)) : List Atm→Nat
 | [] => 1
 | x :: l => GP E x+Jo E l
def JU (l : Option (List Atm)) : Bool := match l with
 | some [] => true
 | _ => false
def saN (E : List (Nat × List Atm)) (k z : Nat) (D : List Atm) (nd : Nd) : Bool := (Nat.blt 0 z && D.all fun x => !Nat.beq x.1 1 || Nat.blt x.2 k) && match nd.1,nd.2 with
 | 0,[_,n,d] => (Nat.blt n (2 ^ z) && Nat.blt 0 d) && JU (Ze D (bif Nat.beq d 1 then [] else [(2,d)]))
 | 1,[j] => Nat.ble inB z && JU (Ze D [(0,j)])
 | 2,[a,b] => (match E[a]?,E[b]? with
  | some p,some r => (match Ze D p.2,Ze D r.2 with
   | some c,some e => Nat.ble (Nat.max (p.1+Jo E c) (r.1+Jo E e)+1) z
   | _,_ => false)
  | _,_ => false)
 | 3,[a,b] => (match E[a]?,E[b]? with
  | some p,some r => (match Ze D p.2,Ze D r.2 with
   | some c,some e => Nat.ble (Nat.max (p.1+Jo E c) (r.1+Jo E e)+1) z
   | _,_ => false)
  | _,_ => false)
 | 4,[a,b] => (match E[a]?,E[b]? with
  | some p,some r => (match Ze D p.2 with
   | some c => JU (Ze c r.2) && Nat.ble (p.1+r.1) z
   | _ => false)
  | _,_ => false)
 | 5,[a] => (match E[a]? with
  | some p => JU (Ze D p.2) && Nat.ble p.1 z
  | _ => false)
 | 6,[a,b] => (match E[a]?,E[b]?,XC (1,b) D with
  | some p,some r,some D' => (match Ze p.2 D' with
   | some c => (match Ze r.2 c with
    | some e => Nat.ble (p.1+Jo E e) z
    | none => false)
   | none => false)
  | _,_,_ => false)
 | 7,_ => Nat.beq D.length 0
 | 8,i :: xs => Nat.beq D.length 0 && (xs.all (fun a => match E[a]? with
   | some p => (Ze (Xv E xs []) p.2).isSome
   | none => false) && (match xs[i]? with
   | some a => (match E[a]? with
    | some p => (match Ze (Xv E xs []) p.2 with
     | some e => Nat.ble (p.1+Jo E e) z
     | none => false)
    | none => false)
   | none => false))
 | _,_ => false
def saB (E : List (Nat × List Atm)) : Nat→List Nd→List (Nat × List Atm)→List Nat→Bool
 | _,[],[],[] => true
 | k,nd :: ns,p :: ps,z :: zs => (saN E k p.1 p.2 nd && (Nat.ble p.1 z && (Nat.ble (Jo E p.2) z && Nat.ble z 1000000000000))) && saB E (k+1) ns ps zs
 | _,_,_,_ => false
theorem Xj {E : List (Nat × List Atm)} : ∀ {ns : List Nd} {ps : List (Nat × List Atm)} {zs : List Nat} {k i : Nat} {nd : Nd},saB E k ns ps zs=true→ns[i]? = some nd→∃ p z,ps[i]? = some p∧zs[i]? = some z∧saN E (k+i) p.1 p.2 nd=true∧p.1≤z∧Jo E p.2≤z∧z≤1000000000000
 | [],_,_,_,_,_,_,h => by simp at h
 | _ :: _,[],_,_,_,_,h,_ => by cases h
 | _ :: _,_ :: _,[],_,_,_,h,_ => by cases h
 | nd' :: ns,p :: ps,z :: zs,k,0,nd,h,e => by
  have : nd'=nd := by simpa using e
  subst this
  unfold saB at h
  simp only [Bool.and_eq_true,Nat.ble_eq] at h
  exact ⟨p,z,rfl,rfl,h.1.1,h.1.2.1,h.1.2.2.1,h.1.2.2.2⟩
 | nd' :: ns,p :: ps,z :: zs,k,i+1,nd,h,e => by
  unfold saB at h
  rw [Bool.and_eq_true] at h
  obtain ⟨p',z',g1,g2,g3,g4⟩ := Xj (k := k+1) (i := i) h.2 (by simpa using e)
  exact ⟨p',z',by simpa using g1,by simpa using g2,by rw [show k+(i+1)=k+1+i by omega]; exact g3,g4⟩
theorem Yv {E : List (Nat × List Atm)} : ∀ {ns : List Nd} {ps : List (Nat × List Atm)} {zs : List Nat} {k : Nat},saB E k ns ps zs=true→ns.length=ps.length∧ns.length=zs.length
 | [],[],[],_,_ => ⟨rfl,rfl⟩
 | [],[],_ :: _,_,h => by cases h
 | [],_ :: _,_,_,h => by cases h
 | _ :: _,[],_,_,h => by cases h
 | _ :: _,_ :: _,[],_,h => by cases h
 | _ :: _,_ :: _,_ :: _,k,h => by
  unfold saB at h
  rw [Bool.and_eq_true] at h
  have := Yv h.2
  exact ⟨congrArg (· + 1) this.1,congrArg (· + 1) this.2⟩
def Jn (dn : Nat→Nat) (M : Nat→Rat) (x : Atm) : Rat := match x.1 with
 | 0 => ((dn x.2 : Nat) : Rat)
 | 1 => if M x.2=0 then 1 else M x.2
 | _ => if x.2=0 then 1 else ((x.2 : Nat) : Rat)
def Qr (dn : Nat→Nat) (M : Nat→Rat) : List Atm→Rat
 | [] => 1
 | x :: l => Jn dn M x*Qr dn M l
theorem Jj {dn : Nat→Nat} {M : Nat→Rat} {x : Atm} : ∀ {l c : List Atm},XC x l=some c→Qr dn M l=Jn dn M x*Qr dn M c
 | [],_,h => by cases h
 | y :: l,c,h => by
  unfold XC at h
  cases e : (Nat.beq x.1 y.1 && Nat.beq x.2 y.2) with
  | true =>
   rw [e] at h
   cases h
   rw [Bool.and_eq_true,Nat.beq_eq,Nat.beq_eq] at e
   have : x=y := Prod.ext e.1 e.2
   rw [this]
   rfl
  | false =>
   rw [e] at h
   simp only [cond_false,Option.map_eq_some_iff] at h
   obtain ⟨c',h1,rfl⟩ := h
   show Jn dn M y*Qr dn M l=Jn dn M x*(Jn dn M y*Qr dn M c')
   rw [Jj h1]
   grind
theorem Qv {dn : Nat→Nat} {M : Nat→Rat} : ∀ {r l c : List Atm},Ze l r=some c→Qr dn M l=Qr dn M r*Qr dn M c
 | [],l,c,h => by
  have : l=c := by simpa [Ze] using h
  rw [this]
  exact (Rat.one_mul _).symm
 | x :: r,l,c,h => by
  unfold Ze at h
  rw [Option.bind_eq_some_iff] at h
  obtain ⟨l',h1,h2⟩ := h
  rw [Jj h1,Qv h2]
  exact (Rat.mul_assoc _ _ _).symm
theorem Zq {l : Option (List Atm)} (h : JU l=true) : l=some [] := by
 unfold JU at h
 split at h
 ·rfl
 ·cases h
theorem QW.one {z : Nat} (h : 0 < z) : QW z 1 := ⟨⟨by
  show (1 : Int).natAbs < 2 ^ z
  exact Nat.one_lt_two_pow (by omega),by
  show 1 < 2 ^ z
  exact Nat.one_lt_two_pow (by omega)⟩,rfl⟩
theorem QW.zero {z : Nat} (h : 0 < z) : QW z 0 := ⟨⟨by
  show (0 : Int).natAbs < 2 ^ z
  exact Nat.two_pow_pos z,by
  show 1 < 2 ^ z
  exact Nat.one_lt_two_pow (by omega)⟩,rfl⟩
theorem QW.nat {z n : Nat} (h : n < 2 ^ z) (hz : 0 < z) : QW z ((n : Nat) : Rat) := by
 have : ((n : Nat) : Rat)=(((n : Nat) : Int) : Rat) := (Rat.intCast_natCast n).symm
 rw [this]
 exact QW.of (by simpa using h) hz
section
variable {E : List (Nat × List Atm)} {dn : Nat→Nat} {M : Nat→Rat} {k : Nat}
def Uq (E : List (Nat × List Atm)) (dn : Nat→Nat) (M : Nat→Rat) (q : Nat→Rat) (k : Nat) : Prop := ∀ a,a < k→∃ p,E[a]? = some p∧QW p.1 (M a)∧0 < p.1∧(∀ x ∈ p.2,x.1=1→x.2 < a)∧q a*Qr dn M p.2=M a
theorem WX {q : Nat→Rat} (hdn : ∀ j,0 < dn j∧dn j < 2 ^ inB) (hM : Uq E dn M q k) {x : Atm} (hx : x.1=1→x.2 < k) : QW (GP E x) (Jn dn M x)∧Jn dn M x ≠ 0 := by
 obtain ⟨i,j⟩ := x
 match i with
 | 0 =>
  show QW inB ((dn j : Nat) : Rat)∧((dn j : Nat) : Rat) ≠ 0
  refine ⟨QW.nat (hdn j).2 (by unfold inB; omega),fun h => ?_⟩
  have := (hdn j).1
  have h2 : dn j=0 := by exact_mod_cast h
  omega
 | 1 =>
  obtain ⟨p,h1,h2,h3,_⟩ := hM j (hx rfl)
  show QW (match E[j]? with
   | some p => p.1
   | none => 1) (if M j=0 then 1 else M j)∧(if M j=0 then 1 else M j) ≠ 0
  rw [h1]
  by_cases h : M j=0
  ·rw [if_pos h]
   exact ⟨QW.one h3,by decide⟩
  ·rw [if_neg h]
   exact ⟨h2,h⟩
 | i+2 =>
  show QW (Nat.log2 j+1) (if j=0 then 1 else ((j : Nat) : Rat))∧(if j=0 then 1 else ((j : Nat) : Rat)) ≠ 0
  by_cases h : j=0
  ·rw [if_pos h]
   exact ⟨QW.one (by omega),by decide⟩
  ·rw [if_neg h]
   refine ⟨QW.nat Nat.lt_log2_self (by omega),fun h2 => h ?_⟩
   exact_mod_cast h2
theorem Xd {q : Nat→Rat} (hdn : ∀ j,0 < dn j∧dn j < 2 ^ inB) (hM : Uq E dn M q k) : ∀ {l : List Atm},(∀ x ∈ l,x.1=1→x.2 < k)→QW (Jo E l) (Qr dn M l)∧Qr dn M l ≠ 0
 | [],_ => ⟨QW.one (show 0 < 1 by decide),by show (1 : Rat) ≠ 0; decide⟩
 | x :: l,h => by
  have h1 := WX hdn hM (h x List.mem_cons_self)
  have h2 := Xd hdn hM (l := l) fun y hy => h y (List.mem_cons_of_mem _ hy)
  exact ⟨h1.1.mul h2.1,ZH h1.2 h2.2⟩
theorem Jk {M' : Nat→Rat} : ∀ {l : List Atm},(∀ x ∈ l,x.1=1→M x.2=M' x.2)→Qr dn M l=Qr dn M' l
 | [],_ => rfl
 | x :: l,h => by
  show Jn dn M x*Qr dn M l=Jn dn M' x*Qr dn M' l
  rw [Jk (l := l) fun y hy => h y (List.mem_cons_of_mem _ hy)]
  have e : Jn dn M x=Jn dn M' x := by
   obtain ⟨i,j⟩ := x
   match i with
   | 0 => rfl
   | 1 =>
    have := h (1,j) List.mem_cons_self rfl
    show (if M j=0 then 1 else M j)=(if M' j=0 then 1 else M' j)
    rw [this]
   | i+2 => rfl
  rw [e]
theorem XD {x y : Atm} : ∀ {l c : List Atm},XC x l=some c→y ∈ c→y ∈ l
 | [],_,h,_ => by cases h
 | z :: l,c,h,hy => by
  unfold XC at h
  cases e : (Nat.beq x.1 z.1 && Nat.beq x.2 z.2) with
  | true => rw [e] at h; cases h; exact List.mem_cons_of_mem _ hy
  | false =>
   rw [e] at h
   simp only [cond_false,Option.map_eq_some_iff] at h
   obtain ⟨c',h1,rfl⟩ := h
   rcases List.mem_cons.1 hy with rfl | hy
   ·exact List.mem_cons_self
   ·exact List.mem_cons_of_mem _ (XD h1 hy)
theorem QX {y : Atm} : ∀ {r l c : List Atm},Ze l r=some c→y ∈ c→y ∈ l
 | [],l,c,h,hy => by
  have : l=c := by simpa [Ze] using h
  rw [this]; exact hy
 | x :: r,l,c,h,hy => by
  unfold Ze at h
  rw [Option.bind_eq_some_iff] at h
  obtain ⟨l',h1,h2⟩ := h
  exact XD h1 (QX h2 hy)
theorem Uy {n : Nat} (h : n ≠ 0) : ((n : Nat) : Rat) ≠ 0 := fun e => h (by exact_mod_cast e)
theorem Jb (x : Rat) : x*((x.den : Nat) : Rat)=((x.num : Int) : Rat) := by
 have e : x=((x.num : Int) : Rat) / ((x.den : Nat) : Rat) := by
  have := Rat.mkRat_self x
  rw [Rat.mkRat_eq_div] at this
  exact this.symm
 conv => lhs; lhs; rw [e]
 exact Rat.div_mul_cancel (Uy x.den_nz)
theorem YM {qs : List Rat} {m M : Nat} (hm : m ∣ M) (h : ∀ q ∈ qs,q.den ∣ M) : qs.foldl (fun m q => m*(q.den / Nat.gcd m q.den)) m ∣ M := by
 induction qs generalizing m with
 | nil => exact hm
 | cons q qs ih =>
  rw [List.foldl_cons]
  refine ih ?_ fun p hp => h p (List.mem_cons_of_mem _ hp)
  have e : m*(q.den / Nat.gcd m q.den)=Nat.lcm m q.den := by
   unfold Nat.lcm
   exact (Nat.mul_div_assoc _ (Nat.gcd_dvd_right _ _)).symm
  rw [e]
  exact Nat.lcm_dvd hm (h q List.mem_cons_self)
theorem Xf {x : Rat} {m : Int} (h : (x*((m : Int) : Rat)).den=1) : x.den ∣ m.natAbs := by
 have e := whole h
 generalize (x*((m : Int) : Rat)).num=n at e
 have h1 : x*((x.den : Nat) : Rat)=((x.num : Int) : Rat) := Jb x
 have h2 : ((x.num : Int) : Rat)*((m : Int) : Rat)=((n : Int) : Rat)*(((x.den : Nat) : Int) : Rat) := by
  rw [← h1,← e,Rat.intCast_natCast]
  grind
 have h3 : x.num*m=n*(x.den : Int) := by exact_mod_cast h2
 have h4 : (x.den : Int) ∣ x.num*m := ⟨n,by rw [h3,Int.mul_comm]⟩
 have h5 : x.den ∣ x.num.natAbs*m.natAbs := by
  have := Int.natAbs_dvd_natAbs.2 h4
  rwa [Int.natAbs_mul,Int.natAbs_natCast] at this
 exact (Nat.Coprime.symm x.reduced).dvd_of_dvd_mul_left h5
theorem YI {qs : List Rat} {x : Rat} {z : Nat} {m : Int} (hx : x ∈ qs) (hm : m ≠ 0) (hall : ∀ y ∈ qs,(y*((m : Int) : Rat)).den=1) (hz : QW z (x*((m : Int) : Rat))) : QW z (x*fac qs) := by
 have hl : lD qs ∣ m.natAbs := YM (Nat.one_dvd _) fun y hy => Xf (hall y hy)
 have hd := TW hx
 have hpos : 0 < m.natAbs := Int.natAbs_pos.2 hm
 have hle : lD qs≤m.natAbs := Nat.le_of_dvd hpos hl
 have hn : (x*fac qs).num.natAbs≤(x*((m : Int) : Rat)).num.natAbs := by
  rw [TJ hx]
  have e := whole hz.wh
  generalize (x*((m : Int) : Rat)).num=n at e
  have h1 : x*((x.den : Nat) : Rat)=((x.num : Int) : Rat) := Jb x
  have h2 : ((x.num : Int) : Rat)*((m : Int) : Rat)=((n : Int) : Rat)*(((x.den : Nat) : Int) : Rat) := by
   rw [← h1,← e,Rat.intCast_natCast]
   grind
  have h3 : x.num*m=n*(x.den : Int) := by exact_mod_cast h2
  have h4 : x.num.natAbs*m.natAbs=n.natAbs*x.den := by
   have := congrArg Int.natAbs h3
   rwa [Int.natAbs_mul,Int.natAbs_mul,Int.natAbs_natCast] at this
  obtain ⟨c,hc⟩ := Xf (x := x) (m := m) (hall x hx)
  have h5 : n.natAbs=x.num.natAbs*c := by
   rw [hc] at h4
   refine Nat.eq_of_mul_eq_mul_right x.den_pos ?_
   rw [← h4]
   rw [Nat.mul_assoc,Nat.mul_comm c]
  show x.num.natAbs / gN qs*(lD qs / x.den)≤n.natAbs
  rw [h5]
  refine Nat.mul_le_mul (Nat.div_le_self _ _) ?_
  have : lD qs / x.den≤m.natAbs / x.den := Nat.div_le_div_right hle
  rw [hc,Nat.mul_div_cancel_left _ x.den_pos] at this
  exact this
 refine ⟨⟨Nat.lt_of_le_of_lt hn hz.qs.num,?_⟩,hd⟩
 rw [hd]
 have := hz.qs.den
 rw [hz.wh] at this
 exact this
theorem ZR {y : Atm} : ∀ {D U : List Atm},y ∈ Xu U D→y ∈ D
 | [],_,h => by cases h
 | x :: D,U,h => by
  unfold Xu at h
  split at h
  ·exact List.mem_cons_of_mem _ (ZR h)
  ·rcases List.mem_cons.1 h with rfl | h
   ·exact List.mem_cons_self
   ·exact List.mem_cons_of_mem _ (ZR h)
theorem Xz {q : Nat→Rat} (hM : Uq E dn M q k) : ∀ {l : List Nat} {U : List Atm},(∀ c ∈ l,c < k)→(∀ x ∈ U,x.1=1→x.2 < k)→∀ x ∈ Xv E l U,x.1=1→x.2 < k
 | [],_,_,hU => hU
 | a :: l,U,hl,hU => by
  unfold Xv
  refine Xz hM (fun c hc => hl c (List.mem_cons_of_mem _ hc)) ?_
  have ha := hl a List.mem_cons_self
  obtain ⟨p,h1,_,_,h4,_⟩ := hM a ha
  rw [h1]
  intro x hx h
  rcases List.mem_append.1 hx with hx | hx
  ·exact hU x hx h
  ·exact Nat.lt_trans (h4 x (ZR hx) h) ha
theorem Oc {q : Nat→Rat} {σ : Nat→ByteArray} (hσ : ∀ j,(σ j).size≤1048576) (hdn : ∀ j,dn j=(Cx.rd (σ j).data.toList).den) (hM : Uq E dn M q k) {z : Nat} {D : List Atm} {nd : Nd} (hwf : wfN k nd=true) (hs : saN E k z D nd=true) : QW z (Zr σ q nd*Qr dn M D)∧0 < z∧∀ x ∈ D,x.1=1→x.2 < k := by
 have hdn' : ∀ j,0 < dn j∧dn j < 2 ^ inB := fun j => by
  rw [hdn j]
  refine ⟨Rat.den_pos _,Nat.lt_of_lt_of_le (QS.rd3 _).den (Nat.pow_le_pow_right (by decide) ?_)⟩
  have := hσ j
  rw [QP]
  unfold inB
  omega
 obtain ⟨op,xs⟩ := nd
 unfold saN at hs
 rw [Bool.and_eq_true,Bool.and_eq_true] at hs
 obtain ⟨⟨hz0,hD⟩,hs⟩ := hs
 have hz : 0 < z := by simpa [Nat.blt_eq] using hz0
 have hD' : ∀ x ∈ D,x.1=1→x.2 < k := fun x hx h1 => by
  rw [List.all_eq_true] at hD
  have := hD x hx
  rw [h1] at this
  simpa [Nat.blt_eq] using this
 refine ⟨?_,hz,hD'⟩
 have hlow : ∀ {a : Nat} {p : Nat × List Atm},a < k→E[a]? = some p→QW p.1 (M a)∧(∀ x ∈ p.2,x.1=1→x.2 < k)∧q a*Qr dn M p.2=M a := fun {a p} ha hp => by
  obtain ⟨p',h1,h2,_,h4,h5⟩ := hM a ha
  rw [hp] at h1
  cases h1
  exact ⟨h2,fun x hx h => Nat.lt_trans (h4 x hx h) ha,h5⟩
 have hpr : ∀ {l : List Atm},(∀ x ∈ l,x.1=1→x.2 < k)→QW (Jo E l) (Qr dn M l)∧Qr dn M l ≠ 0 := fun h => Xd hdn' hM h
 unfold wfN at hwf
 unfold Zr
 dsimp only at hs hwf ⊢
 split at hs
 ·rename_i s n d
  simp only [Bool.and_eq_true] at hs
  obtain ⟨⟨h1,h2⟩,h3⟩ := hs
  have h1' : n < 2 ^ z := by simpa [Nat.blt_eq] using h1
  have h2' : d ≠ 0 := by
   have : 0 < d := by simpa [Nat.blt_eq] using h2
   omega
  have hp : Qr dn M D=((d : Nat) : Rat) := by
   have := Qv (dn := dn) (M := M) (Zq h3)
   rw [this]
   cases e : Nat.beq d 1 with
   | true =>
    rw [Nat.beq_eq] at e
    rw [e]
    show (1 : Rat)*1=((1 : Nat) : Rat)
    rw [Rat.mul_one]
    exact_mod_cast rfl
   | false =>
    show (if d=0 then (1 : Rat) else ((d : Nat) : Rat))*1*1=_
    rw [if_neg h2',Rat.mul_one,Rat.mul_one]
  show QW z ((if s=0 then mkRat (n : Int) d else mkRat (-(n : Int)) d)*Qr dn M D)
  rw [hp]
  have key : ∀ m : Int,m.natAbs < 2 ^ z→QW z (mkRat m d*((d : Nat) : Rat)) := fun m hm => by
   rw [Rat.mkRat_eq_div,Rat.div_mul_cancel (Uy h2')]
   exact QW.of hm hz
  by_cases hs0 : s=0
  ·rw [if_pos hs0]
   exact key _ (by simpa using h1')
  ·rw [if_neg hs0]
   exact key _ (by simpa using h1')
 ·rename_i j
  simp only [Bool.and_eq_true,Nat.ble_eq] at hs
  have hp : Qr dn M D=(((Cx.rd (σ j).data.toList).den : Nat) : Rat) := by
   rw [Qv (dn := dn) (M := M) (Zq hs.2)]
   show ((dn j : Nat) : Rat)*1*1=_
   rw [Rat.mul_one,Rat.mul_one,hdn j]
  show QW z (Cx.rd (σ j).data.toList*Qr dn M D)
  rw [hp,Jb]
  refine QW.of (Nat.lt_of_lt_of_le (QS.rd3 _).num (Nat.pow_le_pow_right (by decide) ?_)) hz
  have := hσ j
  have := hs.1
  unfold inB at this
  rw [QP]
  omega
 ·simp only [List.all_cons,List.all_nil,Bool.and_true,Bool.and_eq_true] at hwf
  rename_i a b
  have l1 : a < k := by simpa [Nat.blt_eq] using hwf.1
  have l2 : b < k := by simpa [Nat.blt_eq] using hwf.2
  split at hs
  ·rename_i p r hp hr
   split at hs
   ·rename_i c e hc he
    rw [Nat.ble_eq] at hs
    obtain ⟨a1,a2,a3⟩ := hlow l1 hp
    obtain ⟨b1,b2,b3⟩ := hlow l2 hr
    have hc' := hpr (l := c) fun x hx => hD' x (QX hc hx)
    have he' := hpr (l := e) fun x hx => hD' x (QX he hx)
    have e1 : (q a+q b)*Qr dn M D=M a*Qr dn M c+M b*Qr dn M e := by
     rw [Rat.add_mul]
     congr 1
     ·rw [Qv hc,← Rat.mul_assoc,a3]
     ·rw [Qv he,← Rat.mul_assoc,b3]
    show QW z ((q a+q b)*Qr dn M D)
    rw [e1]
    exact ((a1.mul hc'.1).add (b1.mul he'.1)).mono hs
   ·cases hs
  ·cases hs
 ·simp only [List.all_cons,List.all_nil,Bool.and_true,Bool.and_eq_true] at hwf
  rename_i a b
  have l1 : a < k := by simpa [Nat.blt_eq] using hwf.1
  have l2 : b < k := by simpa [Nat.blt_eq] using hwf.2
  split at hs
  ·rename_i p r hp hr
   split at hs
   ·rename_i c e hc he
    rw [Nat.ble_eq] at hs
    obtain ⟨a1,a2,a3⟩ := hlow l1 hp
    obtain ⟨b1,b2,b3⟩ := hlow l2 hr
    have hc' := hpr (l := c) fun x hx => hD' x (QX hc hx)
    have he' := hpr (l := e) fun x hx => hD' x (QX he hx)
    have e1 : (q a - q b)*Qr dn M D=M a*Qr dn M c - M b*Qr dn M e := by
     rw [show (q a - q b)*Qr dn M D=q a*Qr dn M D - q b*Qr dn M D by grind]
     congr 1
     ·rw [Qv hc,← Rat.mul_assoc,a3]
     ·rw [Qv he,← Rat.mul_assoc,b3]
    show QW z ((q a - q b)*Qr dn M D)
    rw [e1]
    exact ((a1.mul hc'.1).sub (b1.mul he'.1)).mono hs
   ·cases hs
  ·cases hs
 ·simp only [List.all_cons,List.all_nil,Bool.and_true,Bool.and_eq_true] at hwf
  rename_i a b
  have l1 : a < k := by simpa [Nat.blt_eq] using hwf.1
  have l2 : b < k := by simpa [Nat.blt_eq] using hwf.2
  split at hs
  ·rename_i p r hp hr
   split at hs
   ·rename_i c hc
    rw [Bool.and_eq_true,Nat.ble_eq] at hs
    obtain ⟨a1,a2,a3⟩ := hlow l1 hp
    obtain ⟨b1,b2,b3⟩ := hlow l2 hr
    have e1 : q a*q b*Qr dn M D=M a*M b := by
     rw [Qv hc,Qv (Zq hs.1),← a3,← b3]
     show q a*q b*(Qr dn M p.2*(Qr dn M r.2*1))=_
     grind
    show QW z (q a*q b*Qr dn M D)
    rw [e1]
    exact (a1.mul b1).mono hs.2
   ·cases hs
  ·cases hs
 ·simp only [List.all_cons,List.all_nil,Bool.and_true] at hwf
  rename_i a
  have l1 : a < k := by simpa [Nat.blt_eq] using hwf
  split at hs
  ·rename_i p hp
   rw [Bool.and_eq_true,Nat.ble_eq] at hs
   obtain ⟨a1,a2,a3⟩ := hlow l1 hp
   have e1 : -q a*Qr dn M D=-M a := by
    rw [Qv (Zq hs.1),← a3]
    show -q a*(Qr dn M p.2*1)=_
    grind
   show QW z (-q a*Qr dn M D)
   rw [e1]
   exact a1.neg.mono hs.2
  ·cases hs
 ·simp only [List.all_cons,List.all_nil,Bool.and_true,Bool.and_eq_true] at hwf
  rename_i a b
  have l1 : a < k := by simpa [Nat.blt_eq] using hwf.1
  have l2 : b < k := by simpa [Nat.blt_eq] using hwf.2
  split at hs
  ·rename_i p r D' hp hr hD1
   split at hs
   ·rename_i c hc
    split at hs
    ·rename_i e he
     rw [Nat.ble_eq] at hs
     obtain ⟨a1,a2,a3⟩ := hlow l1 hp
     obtain ⟨b1,b2,b3⟩ := hlow l2 hr
     have he' := hpr (l := e) fun x hx => b2 x (QX he hx)
     by_cases h0 : M b=0
     ·have hb : q b=0 := by
       rw [h0] at b3
       exact (Rat.mul_eq_zero.1 b3).resolve_right (hpr b2).2
      show QW z (q a / q b*Qr dn M D)
      rw [hb,Rat.div_def,Rat.inv_zero,Rat.mul_zero,Rat.zero_mul]
      exact QW.zero hz
     ·have hb : q b ≠ 0 := fun h => h0 (by rw [← b3,h,Rat.zero_mul])
      have e1 : q a / q b*Qr dn M D=M a*Qr dn M e := by
       have e2 : Qr dn M D=M b*Qr dn M D' := by
        rw [Jj hD1]
        show (if M b=0 then (1 : Rat) else M b)*_=_
        rw [if_neg h0]
       have e3 : q a / q b*q b=q a := Rat.div_mul_cancel hb
       rw [e2,← a3,← b3,Qv hc,Qv he]
       generalize q a / q b=t at e3
       rw [← e3]
       grind
      show QW z (q a / q b*Qr dn M D)
      rw [e1]
      exact (a1.mul he'.1).mono hs
    ·cases hs
   ·cases hs
  ·cases hs
 ·have hD0 : D=[] := by
   rw [Nat.beq_eq] at hs
   exact List.length_eq_zero_iff.1 hs
  rw [hD0]
  have hv : Zr σ q (7,xs)=0 ∨ Zr σ q (7,xs)=1 := by
   unfold Zr
   dsimp only
   split
   all_goals first | (split; exact Or.inl rfl; exact Or.inr rfl) | exact Or.inl rfl | (rename_i h; cases h)
  show QW z (Zr σ q (7,xs)*1)
  rw [Rat.mul_one]
  rcases hv with h | h
  ·rw [h]
   exact QW.zero hz
  ·rw [h]
   exact QW.one hz
 ·rename_i i ys
  rw [Bool.and_eq_true,Bool.and_eq_true,List.all_eq_true] at hs
  obtain ⟨h1,h2,h3⟩ := hs
  have hD0 : D=[] := by
   rw [Nat.beq_eq] at h1
   exact List.length_eq_zero_iff.1 h1
  have hwf' : ys.all (Nat.blt · k)=true := hwf
  rw [List.all_eq_true] at hwf'
  have hlt : ∀ c ∈ ys,c < k := fun c hc => by simpa [Nat.blt_eq] using hwf' c hc
  split at h3
  ·rename_i a ha
   split at h3
   ·rename_i p hp
    split at h3
    ·rename_i e he
     rw [Nat.ble_eq] at h3
     obtain ⟨hi,ha'⟩ := List.getElem?_eq_some_iff.1 ha
     have hmem : a ∈ ys := List.mem_of_getElem? ha
     have hg : (ys.map q).getD i 0=q a := by
      rw [List.getD_eq_getElem?_getD,List.getElem?_map,ha]
      rfl
     show QW z ((ys.map q).getD i 0*fac (ys.map q)*Qr dn M D)
     rw [hg,hD0]
     show QW z (q a*fac (ys.map q)*1)
     rw [Rat.mul_one]
     -- what makes all of them whole
     have hU : ∀ x ∈ Xv E ys [],x.1=1→x.2 < k := Xz hM hlt (fun x hx => by cases hx)
     have hUp := hpr hU
     have hw := whole hUp.1.wh
     generalize hm : (Qr dn M (Xv E ys [])).num=m at hw
     have hm0 : m ≠ 0 := fun h => hUp.2 (by rw [hw,h]; rfl)
     have hall : ∀ y ∈ ys.map q,(y*((m : Int) : Rat)).den=1 := fun y hy => by
      obtain ⟨c,hc,rfl⟩ := List.mem_map.1 hy
      have h4 := h2 c hc
      split at h4
      ·rename_i r hr
       obtain ⟨c1,c2,c3⟩ := hlow (hlt c hc) hr
       cases hs2 : Ze (Xv E ys []) r.2 with
       | none => rw [hs2] at h4; cases h4
       | some f =>
        have hf := hpr (l := f) fun x hx => hU x (QX hs2 hx)
        rw [← hw,Qv hs2,← Rat.mul_assoc,c3]
        exact (c1.mul hf.1).wh
      ·cases h4
     obtain ⟨a1,a2,a3⟩ := hlow (hlt a hmem) hp
     have he' := hpr (l := e) fun x hx => hU x (QX he hx)
     refine YI (List.mem_map_of_mem hmem) hm0 hall ?_
     rw [← hw,Qv he,← Rat.mul_assoc,a3]
     exact (a1.mul he'.1).mono h3
    ·cases h3
   ·cases h3
  ·cases h3
 ·cases hs
end
theorem Og {x m p : Rat} {z y K : Nat} (hm : QW z m) (hp : QW y p) (h0 : p ≠ 0) (e : x*p=m) (hz : z≤K) (hy : y≤K) : QS K x := by
 have hw := whole hp.wh
 generalize p.num=P at hw
 have hP : P ≠ 0 := fun h => h0 (by rw [hw,h]; rfl)
 have hpos : 0 < P.natAbs := Int.natAbs_pos.2 hP
 have hd : x.den ∣ P.natAbs := Xf (x := x) (m := P) (by rw [← hw,e]; exact hm.wh)
 have hdle : x.den≤P.natAbs := Nat.le_of_dvd hpos hd
 have hPlt : P.natAbs < 2 ^ y := by
  have := hp.qs.num
  rw [hw,Rat.num_intCast] at this
  exact this
 have hmw := whole hm.wh
 have hmlt := hm.qs.num
 generalize m.num=n at hmw hmlt
 have h1 : x*((x.den : Nat) : Rat)=((x.num : Int) : Rat) := Jb x
 have h2 : ((x.num : Int) : Rat)*((P : Int) : Rat)=((n : Int) : Rat)*(((x.den : Nat) : Int) : Rat) := by
  rw [← h1,← hw,← hmw,← e,Rat.intCast_natCast]
  grind
 have h3 : x.num*P=n*(x.den : Int) := by exact_mod_cast h2
 have h4 : x.num.natAbs*P.natAbs=n.natAbs*x.den := by
  have := congrArg Int.natAbs h3
  rwa [Int.natAbs_mul,Int.natAbs_mul,Int.natAbs_natCast] at this
 have h5 : x.num.natAbs≤n.natAbs := by
  refine Nat.le_of_mul_le_mul_right (c := P.natAbs) ?_ hpos
  rw [h4]
  exact Nat.mul_le_mul_left _ hdle
 exact ⟨Nat.lt_of_lt_of_le (Nat.lt_of_le_of_lt h5 hmlt) (Nat.pow_le_pow_right (by decide) hz),Nat.lt_of_lt_of_le (Nat.lt_of_le_of_lt hdle hPlt) (Nat.pow_le_pow_right (by decide) hy)⟩
section
variable {N : List Nd} {Z : List Nat} {E : List (Nat × List Atm)} {q : Nat→Rat}
theorem JW {σ : Nat→ByteArray} (hσ : ∀ j,(σ j).size≤1048576) (hw : wfB 0 N=true) (hz : saB E 0 N E Z=true) (hq : ∀ (a : Nat) nd,N[a]? = some nd→q a=Zr σ q nd) (h0 : ∀ a,N.length≤a→q a=0) : (∀ (a : Nat) z,Z[a]? = some z→QS z (q a))∧∀ a,QS 1000000000000 (q a) := by
 have hl := Yv hz
 have key : ∀ k,k≤N.length→∃ M,Uq E (fun j => (Cx.rd (σ j).data.toList).den) M q k := by
  intro k
  induction k with
  | zero => exact fun _ => ⟨fun _ => 0,fun a ha => by omega⟩
  | succ k ih =>
   intro hk
   obtain ⟨M,hM⟩ := ih (by omega)
   have hn : N[k]? = some N[k] := List.getElem?_eq_getElem (by omega)
   obtain ⟨p,z,h1,_,h3,_⟩ := Xj hz hn
   rw [Nat.zero_add] at h3
   have hwf := OI hw hn
   rw [Nat.zero_add] at hwf
   obtain ⟨g1,g2,g3⟩ := Oc hσ (fun _ => rfl) hM hwf h3
   rw [← hq k _ hn] at g1
   refine ⟨fun x => if x=k then q k*Qr (fun j => (Cx.rd (σ j).data.toList).den) M p.2 else M x,fun a ha => ?_⟩
   have same : ∀ {l : List Atm},(∀ x ∈ l,x.1=1→x.2 < k)→Qr (fun j => (Cx.rd (σ j).data.toList).den) (fun x => if x=k then q k*Qr (fun j => (Cx.rd (σ j).data.toList).den) M p.2 else M x) l=Qr (fun j => (Cx.rd (σ j).data.toList).den) M l := fun hl => (Jk fun x hx h => by
    have := hl x hx h
    rw [if_neg (by omega)]).symm
   by_cases e : a=k
   ·subst e
    refine ⟨p,h1,?_,g2,g3,?_⟩
    ·show QW p.1 (if a=a then _ else _)
     rw [if_pos rfl]
     exact g1
    ·rw [same g3]
     show _=(if a=a then _ else _)
     rw [if_pos rfl]
   ·obtain ⟨p',f1,f2,f3,f4,f5⟩ := hM a (by omega)
    refine ⟨p',f1,?_,f3,f4,?_⟩
    ·show QW p'.1 (if a=k then _ else M a)
     rw [if_neg e]
     exact f2
    ·rw [same fun x hx h => by have := f4 x hx h; omega]
     show _=(if a=k then _ else M a)
     rw [if_neg e]
     exact f5
 obtain ⟨M,hM⟩ := key N.length (Nat.le_refl _)
 have hdn : ∀ j,0 < (Cx.rd (σ j).data.toList).den∧(Cx.rd (σ j).data.toList).den < 2 ^ inB := fun j => by
  refine ⟨Rat.den_pos _,Nat.lt_of_lt_of_le (QS.rd3 _).den (Nat.pow_le_pow_right (by decide) ?_)⟩
  have := hσ j
  rw [QP]
  unfold inB
  omega
 have h2 : ∀ (a : Nat) z,Z[a]? = some z→QS z (q a)∧z≤1000000000000 := by
  intro a z ha
  have hlt : a < N.length := by
   have := (List.getElem?_eq_some_iff.1 ha).1
   omega
  have hn : N[a]? = some N[a] := List.getElem?_eq_getElem hlt
  obtain ⟨p,z',h1,h2,_,h4,h5,h6⟩ := Xj hz hn
  rw [ha] at h2
  cases h2
  obtain ⟨p',f1,f2,f3,f4,f5⟩ := hM a hlt
  rw [h1] at f1
  cases f1
  have hp := Xd hdn hM (l := p.2) fun x hx h => Nat.lt_trans (f4 x hx h) hlt
  exact ⟨Og f2 hp.1 hp.2 f5 h4 h5,h6⟩
 refine ⟨fun a z h => (h2 a z h).1,fun a => ?_⟩
 by_cases ha : a < Z.length
 ·have := h2 a _ (List.getElem?_eq_getElem ha)
  exact this.1.mono this.2
 ·rw [h0 a (by omega)]
  exact QS.zero.mono (by decide)
theorem Vt {L C : List (List Nat × Nat)} {σ : Nat→ByteArray} {H : List (Nat × Nat × Nat × Nat)} (hσ : ∀ j,(σ j).size≤1048576) (hw : wfB 0 N=true) (hz : saB E 0 N E Z=true) (hl : KZ N L=true) (hcn : Gb N C=true) (hq : ∀ (a : Nat) nd,N[a]? = some nd→q a=Zr σ q nd) (h0 : ∀ a,N.length≤a→q a=0) (hH : Xs q H) : Hy N H L C Z q σ where
 nat := hq
 qs := (JW hσ hw hz hq h0).2
 zs := (JW hσ hw hz hq h0).1
 par := hσ
 lit := fun s b h => Pv hl hq h
 k0 := fun a r h => ZT hH h
 k1 := fun a r h => ZT hH h
 k2 := fun a r h => ZT hH h
 k3 := fun a b r h => ZT hH h
 k4 := fun l a b r h1 h2 => by
  have h3 : Nat.beq 1 r=true ↔ q a=q b := ZT hH h2
  rw [h3,← Pr hcn hq h1]
  exact ⟨fun e => by rw [e],fun e => Wb (YD e)⟩
 k6 := fun a b r h => ZT hH h
 k5 := fun a r h => ZT hH h
end
end Go.Proofs.YtmdfngmjoaigjaaGreatDoor
/- CFspun -/
namespace Go.Proofs.YtmdfngmjoaigjaaGreatDoor
open Go.RowKit Cx
theorem ZK : Closed 11 :=
 Wq (N := [(0,[0,1,1]),(0,[0,0,1]),(8,[0,0,1,1,0]),(8,[1,0,1,1,0]),(8,[2,0,1,1,0]),(8,[3,0,1,1,0]),(3,[1,3]),(3,[1,4]),(3,[1,5]),(4,[2,2]),(4,[3,3]),(2,[1,10]),(4,[4,4]),(2,[11,12]),(4,[5,5]),(2,[13,14]),(2,[9,15]),(4,[2,1]),(4,[3,0]),(2,[1,18]),(4,[4,1]),(2,[19,20]),(4,[5,1]),(2,[21,22]),(3,[17,23]),(4,[0,2]),(4,[1,2]),(4,[3,1]),(2,[25,27]),(2,[26,20]),(2,[26,22]),(3,[20,22]),(4,[5,0]),(3,[32,27]),(4,[4,0]),(3,[27,34]),(2,[28,31]),(2,[29,33]),(2,[30,35]),(4,[24,2]),(4,[36,6]),(2,[1,40]),(4,[37,7]),(2,[41,42]),(4,[38,8]),(2,[43,44]),(3,[39,45]),(4,[6,24]),(4,[7,24]),(4,[8,24]),(4,[36,2]),(4,[37,2]),(4,[38,2]),(2,[47,50]),(2,[48,51]),(2,[49,52]),(4,[37,8]),(4,[38,7]),(3,[56,57]),(4,[38,6]),(4,[36,8]),(3,[59,60]),(4,[36,7]),(4,[37,6]),(3,[62,63]),(2,[53,58]),(2,[54,61]),(2,[55,64]),(6,[65,16]),(6,[66,16]),(6,[67,16]),(4,[0,0]),(2,[1,71]),(4,[1,1]),(2,[72,73]),(2,[74,73]),(3,[75,0]),(3,[0,1]),(6,[0,77]),(6,[1,77]),(4,[0,1]),(2,[1,80]),(4,[1,0]),(2,[81,82]),(2,[83,73]),(3,[73,84]),(2,[73,80]),(2,[80,73]),(2,[73,73]),(3,[73,82]),(3,[73,80]),(3,[71,73]),(2,[86,89]),(2,[87,90]),(2,[88,91])]) (H := [(0,16,0,0),(0,76,0,1),(0,77,0,0),(4,85,1,1),(4,92,1,1),(4,93,1,1),(4,94,0,1),(4,68,1,1),(4,69,0,1),(4,70,1,1),(4,78,0,1),(4,79,1,1)]) (K := [(105,[.inr (3,8,0,0,0),.inr (3,32,0,0,0),.inr (3,33,0,0,0)])]) (L := [([49],0),([48],1)]) (C := [([48],1),([49],0)]) (Z := [2,2,11,11,11,11,14,14,14,22,22,25,22,48,22,71,94,13,13,16,13,30,13,44,58,13,13,13,27,27,27,27,13,27,13,27,55,55,55,69,69,72,69,142,69,212,282,72,72,72,66,66,66,139,139,139,69,69,139,69,69,139,69,69,139,279,279,279,373,373,373,4,7,4,12,17,20,5,7,7,4,7,4,12,17,22,9,9,9,9,9,9,19,19,19]) (cl := []) 7 (fun _ h => by cases h) (by kernel_rfl) (by kernel_rfl) (by kernel_rfl) (by kernel_rfl) (by kernel_rfl) (by kernel_rfl) (by kernel_rfl)
end Go.Proofs.YtmdfngmjoaigjaaGreatDoor
/- PLY -/
namespace Go.Proofs.YtmdfngmjoaigjaaGreatDoor
open Go.RowKit Cx
abbrev Pol := List (Int × List Nat)
def eqM : List Nat→List Nat→Bool
 | [],[] => true
 | a :: m,b :: k => cond (Nat.beq a b) (eqM m k) false
 | _,_ => false
theorem Ow : ∀ {m k : List Nat},eqM m k=true→m=k
 | [],[],_ => rfl
 | a :: m,b :: k,h => by
  unfold eqM at h
  cases e : Nat.beq a b
  ·rw [e] at h; cases h
  ·rw [e] at h; rw [Nat.eq_of_beq_eq_true e,Ow (m := m) (k := k) h]
 | [],_ :: _,h => by cases h
 | _ :: _,[],h => by cases h
def Wa (a : Nat) : List Nat→List Nat
 | [] => [a]
 | b :: m => cond (Nat.ble a b) (a :: b :: m) (b :: Wa a m)
def YL (m k : List Nat) : List Nat := m.foldr Wa k
def isZ : Int→Bool
 | .ofNat n => Nat.beq n 0
 | .negSucc _ => false
theorem Ku {c : Int} (h : isZ c=true) : c=0 := by
 cases c with
 | ofNat n => rw [Nat.eq_of_beq_eq_true (n := n) (m := 0) h]; rfl
 | negSucc n => cases h
def Wd (c : Int) (m : List Nat) : Pol→Pol
 | [] => [(c,m)]
 | (d,k) :: p => cond (eqM m k) (cond (isZ (c+d)) p ((c+d,k) :: p)) ((d,k) :: Wd c m p)
def ZW (p r : Pol) : Pol := p.foldr (fun t s => Wd t.1 t.2 s) r
def JC (p : Pol) : Pol := p.map fun t => (-t.1,t.2)
def Rr (c : Int) (m : List Nat) (p : Pol) : Pol := p.map fun t => (c*t.1,YL m t.2)
def Yo (p r : Pol) : Pol := p.foldr (fun t s => ZW (Rr t.1 t.2 r) s) []
def WU : Pol→Bool
 | [] => true
 | _ => false
section
variable (q : Nat→Rat)
def evM : List Nat→Rat
 | [] => 1
 | a :: m => q a*evM m
def evP : Pol→Rat
 | [] => 0
 | t :: p => (t.1 : Rat)*evM q t.2+evP p
variable {q}
theorem UH (a : Nat) : ∀ m,evM q (Wa a m)=q a*evM q m
 | [] => rfl
 | b :: m => by
  unfold Wa
  cases Nat.ble a b
  ·show q b*evM q (Wa a m)=q a*(q b*evM q m)
   rw [UH a m]; grind
  ·rfl
theorem Yw : ∀ m k,evM q (YL m k)=evM q m*evM q k
 | [],k => (Rat.one_mul _).symm
 | a :: m,k => by
  show evM q (Wa a (YL m k))=q a*evM q m*evM q k
  rw [UH,Yw m k,Rat.mul_assoc]
theorem Uw (c : Int) (m : List Nat) : ∀ p,evP q (Wd c m p)=(c : Rat)*evM q m+evP q p
 | [] => rfl
 | (d,k) :: p => by
  unfold Wd
  cases e : eqM m k
  ·show (d : Rat)*evM q k+evP q (Wd c m p)=(c : Rat)*evM q m+((d : Rat)*evM q k+evP q p)
   rw [Uw c m p]; grind
  ·have e := Ow e
   subst e
   cases f : isZ (c+d)
   ·show ((c+d : Int) : Rat)*evM q m+evP q p=(c : Rat)*evM q m+((d : Rat)*evM q m+evP q p)
    rw [Rat.intCast_add]; grind
   ·show evP q p=(c : Rat)*evM q m+((d : Rat)*evM q m+evP q p)
    have g : (c : Rat)+(d : Rat)=0 := by rw [← Rat.intCast_add,Ku f]; rfl
    have : (c : Rat)*evM q m+((d : Rat)*evM q m+evP q p)=((c : Rat)+(d : Rat))*evM q m+evP q p := by grind
    rw [this,g,Rat.zero_mul,Rat.zero_add]
theorem Zu : ∀ p r,evP q (ZW p r)=evP q p+evP q r
 | [],r => (Rat.zero_add _).symm
 | t :: p,r => by
  show evP q (Wd t.1 t.2 (ZW p r))=(t.1 : Rat)*evM q t.2+evP q p+evP q r
  rw [Uw,Zu p r,Rat.add_assoc]
theorem ZB : ∀ p,evP q (JC p)=-evP q p
 | [] => rfl
 | t :: p => by
  show ((-t.1 : Int) : Rat)*evM q t.2+evP q (JC p)=-((t.1 : Rat)*evM q t.2+evP q p)
  rw [ZB p,Rat.intCast_neg]; grind
theorem Uj (c : Int) (m : List Nat) : ∀ p,evP q (Rr c m p)=(c : Rat)*evM q m*evP q p
 | [] => (Rat.mul_zero _).symm
 | t :: p => by
  show ((c*t.1 : Int) : Rat)*evM q (YL m t.2)+evP q (Rr c m p)=(c : Rat)*evM q m*((t.1 : Rat)*evM q t.2+evP q p)
  rw [Uj c m p,Yw,Rat.intCast_mul]; grind
theorem Jc : ∀ p r,evP q (Yo p r)=evP q p*evP q r
 | [],r => (Rat.zero_mul _).symm
 | t :: p,r => by
  show evP q (ZW (Rr t.1 t.2 r) (Yo p r))=((t.1 : Rat)*evM q t.2+evP q p)*evP q r
  rw [Zu,Uj,Jc p r,Rat.add_mul]
end
def nfN (N : List Nd) (stop : List Nat) : Nat→Nat→Pol
 | 0,a => [(1,[a])]
 | f+1,a => cond (stop.any (Nat.beq a)) [(1,[a])] (match N[a]? with
  | some (0,[0,n,1]) => cond (Nat.beq n 0) [] [((n : Int),[])]
  | some (0,[1,n,1]) => [(-(n : Int),[])]
  | some (2,[x,y]) => ZW (nfN N stop f x) (nfN N stop f y)
  | some (3,[x,y]) => ZW (nfN N stop f x) (JC (nfN N stop f y))
  | some (4,[x,y]) => Yo (nfN N stop f x) (nfN N stop f y)
  | some (5,[x]) => JC (nfN N stop f x)
  | _ => [(1,[a])])
inductive Ex where
 | z | o | t | f
 | v (a : Nat)
 | A (x y : Ex) | S (x y : Ex) | M (x y : Ex) | N (x : Ex)
def Ex.ev (q : Nat→Rat) : Ex→Rat
 | z => 0 | o => 1 | t => 2 | f => 4
 | v a => q a
 | A x y => x.ev q+y.ev q | S x y => x.ev q - y.ev q | M x y => x.ev q*y.ev q | N x => -x.ev q
def Ex.nf : Ex→Pol
 | z => [] | o => [(1,[])] | t => [(2,[])] | f => [(4,[])]
 | v a => [(1,[a])]
 | A x y => ZW x.nf y.nf | S x y => ZW x.nf (JC y.nf) | M x y => Yo x.nf y.nf | N x => JC x.nf
variable {q : Nat→Rat} {σ : Nat→ByteArray}
theorem atP (a : Nat) : evP q [(1,[a])]=q a := by
 show ((1 : Int) : Rat)*(q a*1)+0=q a
 rw [Rat.mul_one,Rat.add_zero]; exact Rat.one_mul _
theorem Ox (c : Int) : evP q [(c,[])]=(c : Rat) := by
 show (c : Rat)*1+0=_
 rw [Rat.mul_one,Rat.add_zero]
theorem Ex.nf_ok : ∀ e : Ex,evP q e.nf=e.ev q
 | z => rfl
 | o => Ox 1 | t => Ox 2 | f => Ox 4
 | v a => atP a
 | A x y => (Zu _ _).trans (by rw [nf_ok x,nf_ok y]; rfl)
 | S x y => (Zu _ _).trans (by rw [ZB,nf_ok x,nf_ok y]; exact (Rat.sub_eq_add_neg _ _).symm)
 | M x y => (Jc _ _).trans (by rw [nf_ok x,nf_ok y]; rfl)
 | N x => (ZB _).trans (by rw [nf_ok x]; rfl)
theorem Zm {N : List Nd} (H : ∀ (a : Nat) nd,N[a]? = some nd→q a=Zr σ q nd) (stop : List Nat) : ∀ f a,evP q (nfN N stop f a)=q a
 | 0,a => atP a
 | f+1,a => by
  unfold nfN
  cases stop.any (Nat.beq a)
  ·show evP q (match N[a]? with | some (0,[0,n,1]) => _ | some (0,[1,n,1]) => _ | some (2,[x,y]) => _ | some (3,[x,y]) => _ | some (4,[x,y]) => _ | some (5,[x]) => _ | _ => _)=q a
   split
   ·rename_i n e
    rw [H a _ e]
    show _=mkRat (n : Int) 1
    cases g : Nat.beq n 0
    ·exact (Ox (n : Int)).trans (Rat.mkRat_one _).symm
    ·rw [Nat.eq_of_beq_eq_true g]; rfl
   ·rename_i n e
    rw [H a _ e]
    exact (Ox (-(n : Int))).trans (Rat.mkRat_one _).symm
   ·rename_i x y e
    rw [H a _ e,Zu,Zm H stop f x,Zm H stop f y]; rfl
   ·rename_i x y e
    rw [H a _ e,Zu,ZB,Zm H stop f x,Zm H stop f y]; exact (Rat.sub_eq_add_neg _ _).symm
   ·rename_i x y e
    rw [H a _ e,Jc,Zm H stop f x,Zm H stop f y]; rfl
   ·rename_i x e
    rw [H a _ e,ZB,Zm H stop f x]; rfl
   ·exact atP a
  ·exact atP a
theorem Vm {p r : Pol} (h : WU (ZW p (JC r))=true) : evP q p=evP q r := by
 have e : evP q (ZW p (JC r))=0 := by
  cases k : ZW p (JC r) with
  | nil => rfl
  | cons t s => rw [k] at h; cases h
 rw [Zu,ZB] at e
 grind
theorem pol {N : List Nd} (H : ∀ (a : Nat) nd,N[a]? = some nd→q a=Zr σ q nd) (stop : List Nat) (f a : Nat) (e : Ex) (h : WU (ZW (nfN N stop f a) (JC e.nf))=true) : q a=e.ev q :=
 (Zm H stop f a).symm.trans ((Vm h).trans e.nf_ok)
end Go.Proofs.YtmdfngmjoaigjaaGreatDoor
/- VPD -/
namespace Cx
open Go Go.RowKit
def RH : List A1→List A1→Bool
 | [],[] => true
 | (a,x) :: l,(b,y) :: m => (a == b && Iu x y) && RH l m
 | _,_ => false
theorem Us : ∀ {l m : List A1},RH l m=true→l=m
 | [],[],_ => rfl
 | (a,x) :: l,(b,y) :: m,h => by
  unfold RH at h
  simp only [Bool.and_eq_true,beq_iff_eq] at h
  obtain ⟨⟨h1,h2⟩,h3⟩ := h
  rw [h1,XZ h2,Us h3]
 | [],_ :: _,h => by cases h
 | _ :: _,[],h => by cases h
def UK : List AV→List AV→Bool
 | [],[] => true
 | (a,x) :: l,(b,y) :: m => (a == b && RH x y) && UK l m
 | _,_ => false
theorem XO : ∀ {l m : List AV},UK l m=true→l=m
 | [],[],_ => rfl
 | (a,x) :: l,(b,y) :: m,h => by
  unfold UK at h
  simp only [Bool.and_eq_true,beq_iff_eq] at h
  obtain ⟨⟨h1,h2⟩,h3⟩ := h
  rw [h1,Us h2,XO h3]
 | [],_ :: _,h => by cases h
 | _ :: _,[],h => by cases h
abbrev JP := List (FuncId × List AV × AV)
def Xi (f : FuncId) (args : List AV) : JP→Option AV
 | [] => none
 | (g,bs,v) :: m => bif Nat.beq f g && UK args bs then some v else Xi f args m
theorem JO {f : FuncId} {args : List AV} {v : AV} : ∀ {m : JP},Xi f args m=some v→(f,args,v) ∈ m
 | [],h => by cases h
 | (g,bs,u) :: m,h => by
  unfold Xi at h
  cases e : (Nat.beq f g && UK args bs) with
  | true =>
   rw [e] at h
   rw [Bool.and_eq_true,Nat.beq_eq] at e
   rw [e.1,XO e.2,show u=v from Option.some.inj h]
   exact List.mem_cons_self
  | false =>
   rw [e] at h
   exact List.mem_cons_of_mem _ (JO h)
def Xe (S : Sx) (E : Ev S.nb) (w0 : World) (M : JP) : Prop := ∀ f args v,(f,args,v) ∈ M→∀ (γ : Nat→Option Nat) (w : World) (vs : List Value),WI w0 γ w→A2 (avOn (cOn E S.K γ w)) args vs →
 Calls S.P f vs.toArray w fun e w' => ∃ r,e=.returned r∧(∀ wr nx,(∀ b ∈ wr,Ri γ b)→Ef S.nb w0 wr nx nx γ w γ w')∧avOn (cOn E S.K γ w') v r
section
variable {S : Sx} {E : Ev S.nb} {w0 : World}
variable {T : Hs→Prop} {z : Nat→Prop}
theorem OC : Xe S E w0 [] := fun _ _ _ h => by cases h
end
end Cx
/- VPE -/
namespace Go.Proofs.YtmdfngmjoaigjaaGreatDoor
open Cx Go Go.RowKit
section
variable {N : List Nd} {H : List (Nat × Nat × Nat × Nat)} {K : List (FuncId × List AC)} {L C : List (List Nat × Nat)} {Z : List Nat} {q : Nat→Rat} {σ : Nat→ByteArray} {cl : List FuncId} {cs pr : List (FuncId × Nat)} {M : JP} {w : World}
def Zw (N : List Nd) (L C : List (List Nat × Nat)) (Z : List Nat) (q : Nat→Rat) (σ : Nat→ByteArray) (cl : List FuncId) (w : World) (M : JP) : Prop := ∀ H K,Xe (sx Tryz.prog N H K L C Z (prC cl)) (evS q σ) w M
theorem XX : Zw N L C Z q σ cl w [] := fun _ _ => OC
end
end Go.Proofs.YtmdfngmjoaigjaaGreatDoor
/- VPF -/
namespace Cx
open Go Go.RowKit
def AM (l m : List HB) : Bool := l.all fun x => m.any fun y => Nat.beq x.1 y.1 && Iu x.2 y.2
theorem Ph {l m : List HB} (h : AM l m=true) {x : HB} (hx : x ∈ l) : x ∈ m := by
 unfold AM at h
 rw [List.all_eq_true] at h
 have := h x hx
 rw [List.any_eq_true] at this
 obtain ⟨y,hy,e⟩ := this
 rw [Bool.and_eq_true,Nat.beq_eq] at e
 rw [show x=y from Prod.ext e.1 (XZ e.2)]
 exact hy
abbrev DR := List (FuncId × List AV × List HB × Nat × AV × List HB × Nat)
def Av (f : FuncId) (args : List AV) (h : List HB) (nx : Nat) : DR→XV
 | [] => none
 | (g,bs,k,n,p) :: m => bif (Nat.beq f g && Nat.beq nx n) && (UK args bs && AM k h) then some p else Av f args h nx m
section
variable {S : Sx} {E : Ev S.nb} {w0 : World}
def CallAt (S : Sx) (E : Ev S.nb) (w0 : World) (f : FuncId) (args : List AV) (h : List HB) (nx : Nat) (p : AV × List HB × Nat) : Prop := ∀ (γ : Nat→Option Nat) (w : World) (vs : List Value),WI w0 γ w→A2 (avOn (cOn E S.K γ w)) args vs→(∀ x ∈ h,boxOn E S.K γ w x)→(∀ x ∈ h,x.1 < nx)→(∀ b,nx≤b→b < p.2.2→γ b=none) →
 Calls S.P f vs.toArray w fun e w' => ∃ r γ',e=.returned r∧Ef S.nb w0 (h.map (·.1)) nx p.2.2 γ w γ' w'∧avOn (cOn E S.K γ' w') p.1 r∧∀ x ∈ p.2.1,boxOn E S.K γ' w' x
def DI (S : Sx) (E : Ev S.nb) (w0 : World) (B : DR) : Prop := ∀ f args h nx p,(f,args,h,nx,p) ∈ B→CallAt S E w0 f args h nx p
theorem Ey : ∀ {B : DR} {f : FuncId} {args : List AV} {h : List HB} {nx : Nat} {p : AV × List HB × Nat},DI S E w0 B→Av f args h nx B=some p→CallAt S E w0 f args h nx p
 | [],_,_,_,_,_,_,h => by cases h
 | (g,bs,k,n,u) :: m,f,args,h,nx,p,hB,hg => by
  unfold Av at hg
  cases e : ((Nat.beq f g && Nat.beq nx n) && (UK args bs && AM k h)) with
  | true =>
   rw [e] at hg
   have hu : u=p := Option.some.inj hg
   simp only [Bool.and_eq_true,Nat.beq_eq] at e
   obtain ⟨⟨e1,e2⟩,e3,e4⟩ := e
   subst hu e1 e2
   have ea := XO e3
   subst ea
   have base := hB f args k nx u List.mem_cons_self
   intro γ w vs hi hA hb hlt hf
   refine (base γ w vs hi hA (fun x hx => hb x (Ph e4 hx)) (fun x hx => hlt x (Ph e4 hx)) hf).mono ?_
   rintro _ w' ⟨r,γ',rfl,hef,hr,hx⟩
   refine ⟨r,γ',rfl,hef.more (fun b hb' => ?_) (fun b hb' => ?_),hr,hx⟩
   ·obtain ⟨x,hx',rfl⟩ := List.mem_map.1 hb'
    exact List.mem_map.2 ⟨x,Ph e4 hx',rfl⟩
   ·obtain ⟨x,hx',rfl⟩ := List.mem_map.1 hb'
    obtain ⟨_,_,_,_,hl,_⟩ := hb x hx'
    exact hl
  | false =>
   rw [e] at hg
   exact Ey (fun f' a' h' n' p' hm => hB f' a' h' n' p' (List.mem_cons_of_mem _ hm)) hg
variable {T : Hs→Prop} {z : Nat→Prop}
end
end Cx
namespace Go.Proofs.YtmdfngmjoaigjaaGreatDoor
open Cx Go Go.RowKit
section
variable {N : List Nd} {H : List (Nat × Nat × Nat × Nat)} {K : List (FuncId × List AC)} {L C : List (List Nat × Nat)} {Z : List Nat} {q : Nat→Rat} {σ : Nat→ByteArray} {cl : List FuncId} {cs : List (FuncId × Nat)} {M : JP} {B : DR} {w : World}
theorem memoX_nil : DI (sx Tryz.prog N H K L C Z (prC cl)) (evS q σ) w [] := fun _ _ _ _ _ h => by cases h
end
end Go.Proofs.YtmdfngmjoaigjaaGreatDoor
/- VPJ -/
namespace Cx
open Go Go.RowKit
def zN (S : Sx) : Nat→Nat→Bool
 | 0,_ => false
 | d+1,i => (match S.kn 0 i 0 with
  | some r => Nat.beq 1 r
  | none => false) || (match S.N[i]? with
  | some (op,[a]) => Nat.beq op 5 && zN S d a
  | some (op,[a,b]) => Nat.beq op 4 && (zN S d a || zN S d b)
  | _ => false)
def PM (S : Sx) (i j : Nat) : Bool := Nat.beq i j || (match S.N[i]? with
 | some (op,[a,b]) => Nat.beq op 2 && (Nat.beq a j && zN S 3 b)
 | _ => false)
def sameV (S : Sx) (v u : AV) : Bool := UK [v] [u] || (match rN v with
 | some i => (match rN u with
  | some j => PM S i j
  | none => false)
 | none => false)
def okT (S : Sx) (s0 s1 : St) (t : Nat) : Bool := match Wy t s1.tm with
 | some v => (match Wy t s0.tm with
  | some u => sameV S v u
  | none => false)
 | none => false
def Lo (S : Sx) : Option (Nat × St)→Option (Nat × St)→Option (Nat × St)
 | some (e0,s0),some (e1,s1) => ifO (Nat.beq e0 e1) (some (e1,{ tm := s1.tm.filter fun p => okT S s0 s1 p.1,h := s1.h.filter fun x => s0.h.any fun y => Nat.beq x.1 y.1 && Iu x.2 y.2,nx := bif Nat.ble s0.nx s1.nx then s1.nx else s0.nx }))
 | _,_ => none
def AL (S : Sx) (R : Hs→St→Option (Nat × St)) (X : Hs) : List Nat→St→Option (Nat × St)
 | [],s => DV (R X) 100 s
 | a :: l,s => (Lo (S.plus ((0,a,0,1) :: X)) (R ((0,a,0,1) :: X) s) (R ((0,a,0,0) :: X) s)).bind fun r => bif Nat.beq r.1 0 then AL S R X l r.2 else some r
def Ny (S : Sx) (cl : Hs→ZN) (X : Hs) (n : Nat) (l : List Nat) : Code→St→Option (Nat × St)
 | .seq a b,s => (Ny S cl X n l a s).bind fun r => bif Nat.beq r.1 0 then Ny S cl X n l b r.2 else some r
 | .block id c,s => (Ny S cl X n l c s).map fun r => bif Nat.beq r.1 (id+2) then (0,r.2) else r
 | .loop c,s => AL S (fun Y => OH (S.plus Y) (cl Y) n c) X l s
 | c,s => OH (S.plus X) (cl X) n c s
def Al (S : Sx) (cl : Hs→ZN) (X : Hs) (l : List Nat) : ZN := fun f args h nx => S.P.funcs[f]?.bind fun fn => fn.body.bind fun c => ifO (Nat.ble args.length fn.ntmps) ((Ny S cl X fn.ntmps l c { tm := Ki 0 args,h := h,nx := nx }).bind fun r =>
   ifO (Nat.ble r.1 1) ((Zi (Dv S.P r.2) fn.results.toList).map fun xs => (Mw xs,r.2.h,r.2.nx)))
def jRow (h : List HB) (args : List AV) : Option (List Nat) := arg1 (fun x => (YW h 1 x).bind fun p => p.2.head?.bind fun c => (YW h 1 (v1 c)).bind fun p' => Zi (acX 0) p'.2) args
def OO (S : Sx) (cs : List (FuncId × Nat)) (M : JP) (B : DR) (J : FuncId) : Nat→Hs→ZN
 | 0,_,_,_,_,_ => none
 | n+1,X,f,args,h,nx => match Xi f args M with
  | some v => some (v,h,nx)
  | none => match Av f args h nx B with
   | some p => some p
   | none => bif Nat.beq f J then (jRow h args).bind fun l => Al S (OO S cs M B J n) X l f args h nx else match Wp f cs with
    | none => Zv (S.plus X) (OO S cs M B J n X) f args h nx
    | some c => match YR S X h c args with
     | none => Zv (S.plus X) (OO S cs M B J n X) f args h nx
     | some (l,r) => bif Nat.beq 1 r then Zv (S.plus (Ub l X)) (OO S cs M B J n (Ub l X)) f args h nx
      else XK h nx ((Jd l X).map fun X' => JH (S.plus X') (Zv (S.plus X') (OO S cs M B J n X') f args h nx))
section
variable {S : Sx} {E : Ev S.nb} {w0 : World} {n : Nat} {T : Hs→Prop} {z : Nat→Prop}
theorem ON {f : Nat→Bool} {t : Nat} {v : AV} : ∀ {tm : List (Nat × AV)},Wy t (tm.filter fun p => f p.1)=some v→f t=true∧Wy t tm=some v
 | [],h => by cases h
 | (u,x) :: tm,h => by
  cases e : f u with
  | true =>
   rw [List.filter_cons_of_pos (by exact e)] at h
   unfold Wy at h ⊢
   cases g : Nat.beq t u with
   | true =>
    rw [g] at h
    rw [Nat.beq_eq] at g
    subst g
    exact ⟨e,h⟩
   | false =>
    rw [g] at h
    exact ON (tm := tm) h
  | false =>
   rw [List.filter_cons_of_neg (by rw [e]; decide)] at h
   obtain ⟨h1,h2⟩ := ON (tm := tm) h
   refine ⟨h1,?_⟩
   unfold Wy
   cases g : Nat.beq t u with
   | true =>
    rw [Nat.beq_eq] at g
    subst g
    rw [e] at h1
    cases h1
   | false => exact h2
theorem RM {γ : Nat→Option Nat} {w : World} {v : AV} {i : Nat} {x : Value} (h : rN v=some i) (hx : avOn (cOn E S.K γ w) v x) : (E.X 0 (E.q i)).on x w := by
 unfold rN at h
 rw [Option.bind_eq_some_iff] at h
 obtain ⟨c,h1,h2⟩ := h
 exact YU h2 (Zk h1 hx)
theorem on_rN {γ : Nat→Option Nat} {w : World} {v : AV} {i : Nat} {x : Value} (h : rN v=some i) (hx : (E.X 0 (E.q i)).on x w) : avOn (cOn E S.K γ w) v x := by
 unfold rN at h
 rw [Option.bind_eq_some_iff] at h
 obtain ⟨c,h1,h2⟩ := h
 unfold asC at h1
 split at h1
 ·cases h1
  unfold acX at h2
  split at h2
  ·rw [ifO_some,Bool.and_eq_true,Nat.beq_eq,Nat.beq_eq] at h2
   obtain ⟨⟨e1,e2⟩,e3⟩ := h2
   cases e3
   subst e1 e2
   exact ZE hx
  ·cases h2
 ·cases h1
theorem joinSt_ok {X : Hs} {a : Nat} {R : Hs→St→Option (Nat × St)} {wp : (Exit→Act→World→Prop)→Act→World→Prop} (hR : ∀ Y,T Y→RunOk S E w0 n (R Y) wp) (hk : ZF S T z) (hX : T X) (hq : ∀ Y,T Y→∀ i j,PM (S.plus Y) i j=true→E.q i=E.q j) :
  RunOk S E w0 n (fun s => Lo (S.plus ((0,a,0,1) :: X)) (R ((0,a,0,1) :: X) s) (R ((0,a,0,0) :: X) s)) wp := by
 intro s e s' hr
 dsimp only at hr
 unfold Lo at hr
 split at hr
 ·rename_i e0 s0 e1 s1 g0 g1
  rw [ifO_some,Nat.beq_eq] at hr
  obtain ⟨he,hs'⟩ := hr
  cases hs'
  have ask := hk X hX (0,a,0,a) (by simp [JL])
  have m0 : s0.nx≤(bif Nat.ble s0.nx s1.nx then s1.nx else s0.nx) := by
   cases q : Nat.ble s0.nx s1.nx with
   | true => rw [Nat.ble_eq] at q; exact q
   | false => exact Nat.le_refl _
  have m1 : s1.nx≤(bif Nat.ble s0.nx s1.nx then s1.nx else s0.nx) := by
   cases q : Nat.ble s0.nx s1.nx with
   | true => exact Nat.le_refl _
   | false =>
    have : ¬ s0.nx≤s1.nx := fun h => by rw [← Nat.ble_eq,q] at h; cases h
    show s1.nx≤s0.nx
    omega
  have inH : ∀ x ∈ (s1.h.filter fun x => s0.h.any fun y => Nat.beq x.1 y.1 && Iu x.2 y.2),x ∈ s1.h∧x ∈ s0.h := fun x hx => by
   rw [List.mem_filter,List.any_eq_true] at hx
   obtain ⟨h1,y,hy,h2⟩ := hx
   rw [Bool.and_eq_true,Nat.beq_eq] at h2
   rw [show x=y from Prod.ext h2.1 (XZ h2.2)] at h1 ⊢
   exact ⟨h1,hy⟩
  by_cases hz : z a
  ·have hT := ask.1 hz
   obtain ⟨l,i,r⟩ := hR _ hT s e0 s0 g0
   refine ⟨Nat.le_trans l m0,fun x hx => ?_,fun γ b w Q hs hf hQ => ?_⟩
   ·rcases i x (inH x hx).2 with q | q
    ·exact Or.inl q
    ·exact Or.inr ⟨q.1,Nat.lt_of_lt_of_le q.2 m0⟩
   ·rw [← he] at hQ
    refine r γ b w Q hs (fun c q1 q2 => hf c q1 (Nat.lt_of_lt_of_le q2 m0)) fun b1 w1 γ1 hef hs1 => hQ b1 w1 γ1 (hef.wide (Nat.le_refl _) m0) ⟨hs1.wi,fun t v ht => ?_,fun x hx => hs1.bx x (inH x hx).2,fun x hx => Nat.lt_of_lt_of_le (hs1.lt x (inH x hx).2) m0,hs1.sz,hs1.df⟩
    obtain ⟨k1,k2⟩ := ON (f := okT (S.plus ((0,a,0,1) :: X)) s0 s1) ht
    unfold okT at k1
    rw [k2] at k1
    dsimp only at k1
    split at k1
    ·rename_i u hu
     have hv := hs1.tm t u hu
     unfold sameV at k1
     rw [Bool.or_eq_true] at k1
     rcases k1 with k1 | k1
     ·have := XO k1
      cases this
      exact hv
     ·split at k1
      ·rename_i i1 hi1
       split at k1
       ·rename_i j1 hj1
        have := RM hj1 hv
        rw [← hq _ hT i1 j1 k1] at this
        exact on_rN hi1 this
       ·cases k1
      ·cases k1
    ·cases k1
  ·have hT := ask.2 hz
   obtain ⟨l,i,r⟩ := hR _ hT s e s1 g1
   refine ⟨Nat.le_trans l m1,fun x hx => ?_,fun γ b w Q hs hf hQ => ?_⟩
   ·rcases i x (inH x hx).1 with q | q
    ·exact Or.inl q
    ·exact Or.inr ⟨q.1,Nat.lt_of_lt_of_le q.2 m1⟩
   ·refine r γ b w Q hs (fun c q1 q2 => hf c q1 (Nat.lt_of_lt_of_le q2 m1)) fun b1 w1 γ1 hef hs1 => hQ b1 w1 γ1 (hef.wide (Nat.le_refl _) m1) ⟨hs1.wi,fun t v ht => ?_,fun x hx => hs1.bx x (inH x hx).1,fun x hx => Nat.lt_of_lt_of_le (hs1.lt x (inH x hx).1) m1,hs1.sz,hs1.df⟩
    exact hs1.tm t v (ON (f := okT (S.plus ((0,a,0,1) :: X)) s0 s1) ht).2
 ·cases hr
theorem loopB_ok {f : St→Option (Nat × St)} {c : Code} (hc : RunOk S E w0 n f (fun Q a w => c.wp S.P Q a w)) (k : Nat) : RunOk S E w0 n (DV f k) (fun Q a w => Code.rounds S.P c Q k a w) := by
 induction k with
 | zero => intro s e s' hr; cases hr
 | succ k ih =>
  intro s e s' hr
  unfold DV at hr
  rw [Option.bind_eq_some_iff] at hr
  obtain ⟨⟨e1,s1⟩,h1,hr⟩ := hr
  obtain ⟨l1,i1,r1⟩ := hc s e1 s1 h1
  dsimp only at hr
  cases hz : Nat.beq e1 0 with
  | true =>
   rw [hz] at hr
   obtain ⟨l2,i2,r2⟩ := ih s1 e s' hr
   rw [Nat.beq_eq] at hz
   subst hz
   refine ⟨Nat.le_trans l1 l2,Gz l1 l2 i1 i2,fun γ a w Q hs hf hQ => ?_⟩
   show c.wp S.P (Exit.then (fun a w => Code.rounds S.P c Q k a w) Q) a w
   refine r1 γ a w _ hs (fun b q1 q2 => hf b q1 (by omega)) fun a1 w1 γ1 he1 hs1 => ?_
   refine r2 γ1 a1 w1 Q hs1 (fun b q1 q2 => ?_) fun a2 w2 γ2 he2 hs2 => hQ a2 w2 γ2 (he1.seq he2 l1 l2 hf i1) hs2
   rw [he1.same b (by omega)]
   exact hf b (by omega) q2
  | false =>
   rw [hz] at hr
   cases hr
   refine ⟨l1,i1,fun γ a w Q hs hf hQ => ?_⟩
   show c.wp S.P (Exit.then (fun a w => Code.rounds S.P c Q k a w) Q) a w
   exact r1 γ a w _ hs hf fun a1 w1 γ1 he1 hs1 => Ol (ID hz) (hQ a1 w1 γ1 he1 hs1)
theorem Nu {X : Hs} {R : Hs→St→Option (Nat × St)} {c : Code} (hR : ∀ Y,T Y→RunOk S E w0 n (R Y) (fun Q a w => c.wp S.P Q a w)) (hk : ZF S T z) (hX : T X) (hq : ∀ Y,T Y→∀ i j,PM (S.plus Y) i j=true→E.q i=E.q j) :
  ∀ (l : List Nat),RunOk S E w0 n (AL S R X l) (fun Q a w => Code.rounds S.P c Q (100+l.length) a w)
 | [] => loopB_ok (hR X hX) 100
 | a :: l => by
  intro s e s' hr
  unfold AL at hr
  rw [Option.bind_eq_some_iff] at hr
  obtain ⟨⟨e1,s1⟩,h1,hr⟩ := hr
  obtain ⟨l1,i1,r1⟩ := joinSt_ok (a := a) hR hk hX hq s e1 s1 h1
  dsimp only at hr
  cases hz : Nat.beq e1 0 with
  | true =>
   rw [hz] at hr
   obtain ⟨l2,i2,r2⟩ := Nu hR hk hX hq l s1 e s' hr
   rw [Nat.beq_eq] at hz
   subst hz
   refine ⟨Nat.le_trans l1 l2,Gz l1 l2 i1 i2,fun γ b w Q hs hf hQ => ?_⟩
   show c.wp S.P (Exit.then (fun a w => Code.rounds S.P c Q (100+l.length) a w) Q) b w
   refine r1 γ b w _ hs (fun b q1 q2 => hf b q1 (by omega)) fun a1 w1 γ1 he1 hs1 => ?_
   refine r2 γ1 a1 w1 Q hs1 (fun b q1 q2 => ?_) fun a2 w2 γ2 he2 hs2 => hQ a2 w2 γ2 (he1.seq he2 l1 l2 hf i1) hs2
   rw [he1.same b (by omega)]
   exact hf b (by omega) q2
  | false =>
   rw [hz] at hr
   cases hr
   refine ⟨l1,i1,fun γ b w Q hs hf hQ => ?_⟩
   show c.wp S.P (Exit.then (fun a w => Code.rounds S.P c Q (100+l.length) a w) Q) b w
   exact r1 γ b w _ hs hf fun a1 w1 γ1 he1 hs1 => Ol (ID hz) (hQ a1 w1 γ1 he1 hs1)
theorem RunOk.less {X : Hs} {f : St→Option (Nat × St)} {wp : (Exit→Act→World→Prop)→Act→World→Prop} (h : RunOk (S.plus X) E w0 n f wp) : RunOk S E w0 n f wp := fun s e s' hr => by
 obtain ⟨h1,h2,h3⟩ := h s e s' hr
 exact ⟨h1,h2,fun γ a w Q hs hf hQ => h3 γ a w Q ⟨hs.wi,hs.tm,hs.bx,hs.lt,hs.sz,hs.df⟩ hf fun a' w' γ' q1 q2 => hQ a' w' γ' q1 ⟨q2.wi,q2.tm,q2.bx,q2.lt,q2.sz,q2.df⟩⟩
theorem DJ {cl : Hs→ZN} {X : Hs} {l : List Nat} (hm : S.P.follows .mixedOrders=true) (hN : ∀ Y,T Y→Knows (S.plus Y) E) (hP : ∀ Y,T Y→JI (S.plus Y) E w0) (hC : ∀ Y,T Y→Zl S E w0 (cl Y)) (hk : ZF S T z) (hX : T X) (hq : ∀ Y,T Y→∀ i j,PM (S.plus Y) i j=true→E.q i=E.q j) :
  ∀ (c : Code),RunOk S E w0 n (Ny S cl X n l c) (fun Q a w => c.wp S.P Q a w)
 | .seq c1 c2 => fun s e s' hr => by
  unfold Ny at hr
  rw [Option.bind_eq_some_iff] at hr
  obtain ⟨⟨e1,s1⟩,h1,hr⟩ := hr
  obtain ⟨l1,i1,r1⟩ := DJ hm hN hP hC hk hX hq c1 s e1 s1 h1
  dsimp only at hr
  cases hz : Nat.beq e1 0 with
  | true =>
   rw [hz] at hr
   obtain ⟨l2,i2,r2⟩ := DJ hm hN hP hC hk hX hq c2 s1 e s' hr
   rw [Nat.beq_eq] at hz
   subst hz
   refine ⟨Nat.le_trans l1 l2,Gz l1 l2 i1 i2,fun γ a w Q hs hf hQ => wp_seq (r1 γ a w _ hs (fun b q1 q2 => hf b q1 (by omega)) fun a1 w1 γ1 he1 hs1 => ?_)⟩
   refine r2 γ1 a1 w1 Q hs1 (fun b q1 q2 => ?_) fun a2 w2 γ2 he2 hs2 => hQ a2 w2 γ2 (he1.seq he2 l1 l2 hf i1) hs2
   rw [he1.same b (by omega)]
   exact hf b (by omega) q2
  | false =>
   rw [hz] at hr
   cases hr
   exact ⟨l1,i1,fun γ a w Q hs hf hQ => wp_seq (r1 γ a w _ hs hf fun a1 w1 γ1 he1 hs1 => Ol (ID hz) (hQ a1 w1 γ1 he1 hs1))⟩
 | .block id c => fun s e s' hr => by
  unfold Ny at hr
  rw [Option.map_eq_some_iff] at hr
  obtain ⟨⟨e1,s1⟩,h1,hr⟩ := hr
  obtain ⟨l,i,r⟩ := DJ hm hN hP hC hk hX hq c s e1 s1 h1
  dsimp only at hr
  cases hz : Nat.beq e1 (id+2) with
  | true =>
   rw [hz] at hr
   cases hr
   rw [Nat.beq_eq] at hz
   subst hz
   refine ⟨l,i,fun γ a w Q hs hf hQ => wp_block (r γ a w _ hs hf fun a1 w1 γ1 he1 hs1 => ?_)⟩
   show (if id=id then Q .normal a1 w1 else Q (.exit id) a1 w1)
   rw [if_pos rfl]
   exact hQ a1 w1 γ1 he1 hs1
  | false =>
   rw [hz] at hr
   cases hr
   exact ⟨l,i,fun γ a w Q hs hf hQ => wp_block (r γ a w _ hs hf fun a1 w1 γ1 he1 hs1 => Ka hz (hQ a1 w1 γ1 he1 hs1))⟩
 | .loop c => fun s e s' hr => by
  unfold Ny at hr
  obtain ⟨l1,i,r⟩ := Nu (c := c) (fun Y hY => RunOk.less (Xr (S := S.plus Y) (n := n) hm (hN Y hY) (hP Y hY) (hC Y hY) c)) hk hX hq l s e s' hr
  exact ⟨l1,i,fun γ a w Q hs hf hQ => wp_loop_rounds (100+l.length) (r γ a w Q hs hf hQ)⟩
 | .region id os dr => fun s e s' hr => RunOk.less (Xr (S := S.plus X) (n := n) hm (hN X hX) (hP X hX) (hC X hX) (.region id os dr)) s e s' hr
 | .skip => fun s e s' hr => RunOk.less (Xr (S := S.plus X) (n := n) hm (hN X hX) (hP X hX) (hC X hX) .skip) s e s' hr
 | .exit id => fun s e s' hr => RunOk.less (Xr (S := S.plus X) (n := n) hm (hN X hX) (hP X hX) (hC X hX) (.exit id)) s e s' hr
 | .ret => fun s e s' hr => RunOk.less (Xr (S := S.plus X) (n := n) hm (hN X hX) (hP X hX) (hC X hX) .ret) s e s' hr
 | .cond x a b => fun s e s' hr => RunOk.less (Xr (S := S.plus X) (n := n) hm (hN X hX) (hP X hX) (hC X hX) (.cond x a b)) s e s' hr
 | .rangeFunc _ _ _ _ => fun _ _ _ hr => by cases hr
 | .scope _ => fun _ _ _ hr => by cases hr
 | .label _ => fun _ _ _ hr => by cases hr
 | .goto _ => fun _ _ _ hr => by cases hr
 | .refuse _ => fun _ _ _ hr => by cases hr
theorem bodyJ_ok {cl : Hs→ZN} {X : Hs} {l : List Nat} (hm : S.P.follows .mixedOrders=true) (hN : ∀ Y,T Y→Knows (S.plus Y) E) (hP : ∀ Y,T Y→JI (S.plus Y) E w0) (hC : ∀ Y,T Y→Zl S E w0 (cl Y)) (hk : ZF S T z) (hX : T X) (hq : ∀ Y,T Y→∀ i j,PM (S.plus Y) i j=true→E.q i=E.q j) : Zl S E w0 (Al S cl X l) := fun f args h nx p hp γ w vs hi hA hb hlt hf => by
 unfold Al at hp
 simp only [Option.bind_eq_some_iff,ifO_some,Option.map_eq_some_iff,Nat.ble_eq] at hp
 obtain ⟨fn,h1,c,h2,h3,⟨e,s'⟩,h4,h5,xs,h6,rfl⟩ := hp
 dsimp only at h5 h6
 rcases (show e=0 ∨ e=1 by omega) with rfl | rfl
 all_goals
  obtain ⟨_,_,r⟩ := DJ hm hN hP hC hk hX hq c _ _ _ h4
  refine calls_of_wp h1 h2 (r γ _ w _ ⟨hi,fun t v q => ?_,hb,hlt,?_,rfl⟩ hf fun a' w' γ' hef hs => ?_)
  ·obtain ⟨_,q2⟩ := Vu q
   rw [Nat.sub_zero] at q2
   obtain ⟨u,hu,hv⟩ := hA.get q2
   have hlt : t < vs.length := (List.getElem?_eq_some_iff.1 hu).1
   have : (vs.toArray ++ Array.replicate (fn.ntmps - vs.toArray.size) undef).getD t undef=u := by
    rw [Array.getD_eq_getD_getElem?,Array.getElem?_append_left (by simpa using hlt)]
    simp [hu]
   show avOn _ v ((vs.toArray ++ Array.replicate (fn.ntmps - vs.toArray.size) undef).getD t undef)
   rw [this]
   exact hv
  ·have := hA.len
   simp
   omega
  ·obtain ⟨v,hv,hx⟩ := YE hs h6
   exact ⟨hs.df,v,hv,v,γ',rfl,hef,hx,hs.bx⟩
theorem FO {cs : List (FuncId × Nat)} {M : JP} {B : DR} {J : FuncId} (hm : S.P.follows .mixedOrders=true) (hM : Xe S E w0 M) (hB : DI S E w0 B) (hN : ∀ X,T X→Knows (S.plus X) E) (hP : ∀ X,T X→JI (S.plus X) E w0) (hk : ZF S T z)
  (hs : ∀ X,T X→∀ l s r,sqN S l=some s→(S.plus X).kn 0 s 0=some r→(Nat.beq 1 r=true→∀ d ∈ l,z d)∧(Nat.beq 1 r=false→∃ d ∈ l,¬ z d)) (hq : ∀ Y,T Y→∀ i j,PM (S.plus Y) i j=true→E.q i=E.q j) : ∀ n X,T X→Zl S E w0 (OO S cs M B J n X)
 | 0,_,_ => fun _ _ _ _ _ h => by cases h
 | n+1,X,hX => fun f args h nx p hp => by
  have body : ∀ Y,T Y→Zl S E w0 (Zv (S.plus Y) (OO S cs M B J n Y)) := fun Y hY => Yi (S := S.plus Y) hm (hN Y hY) (hP Y hY) (FO hm hM hB hN hP hk hs hq n Y hY)
  unfold OO at hp
  split at hp
  ·rename_i v hv
   cases hp
   intro γ w vs hi hA hb hlt hf
   refine (hM f args v (JO hv) γ w vs hi hA).mono ?_
   rintro _ w' ⟨r,rfl,hef,hr⟩
   have live : ∀ b ∈ h.map (·.1),Ri γ b := fun b hb' => by
    obtain ⟨x,hx,rfl⟩ := List.mem_map.1 hb'
    obtain ⟨_,_,_,_,hl,_⟩ := hb x hx
    exact hl
   exact ⟨r,γ,rfl,hef _ _ live,hr,fun x hx => (hef [] nx Yu).box hi (hb x hx) (by simp)⟩
  ·split at hp
   ·rename_i u hu
    cases hp
    exact Ey hB hu
   ·cases ej : Nat.beq f J with
    | true =>
     rw [ej] at hp
     replace hp : ((jRow h args).bind fun l => Al S (OO S cs M B J n) X l f args h nx)=some p := hp
     rw [Option.bind_eq_some_iff] at hp
     obtain ⟨l,_,hp⟩ := hp
     exact bodyJ_ok hm hN hP (fun Y hY => FO hm hM hB hN hP hk hs hq n Y hY) hk hX hq f args h nx p hp
    | false =>
     rw [ej] at hp
     dsimp only [cond_false] at hp
     split at hp
     ·exact body X hX f args h nx p hp
     ·split at hp
      ·exact body X hX f args h nx p hp
      rename_i l r hk'
      obtain ⟨hl,s,h1,h2⟩ := JZ hk'
      have h3 := hp
      obtain ⟨a1,a0⟩ := hs X hX _ s r h1 h2
      cases e : Nat.beq 1 r with
      | true =>
       rw [e] at h3
       exact body _ (ZV hk hX hl fun a ha => a1 e _ (List.mem_map_of_mem ha)) f args h nx p h3
      | false =>
       rw [e] at h3
       obtain ⟨d,hd,hz⟩ := a0 e
       obtain ⟨a,ha,rfl⟩ := List.mem_map.1 hd
       obtain ⟨X',m1,m2⟩ := ZD hk hX hl ⟨a,ha,hz⟩
       replace h3 : XK h nx ((Jd l X).map fun X' => JH (S.plus X') (Zv (S.plus X') (OO S cs M B J n X') f args h nx))=some p := h3
       unfold XK at h3
       split at h3
       ·rename_i p0 rs hrs
        rw [Option.bind_eq_some_iff] at h3
        obtain ⟨b,hb,h4⟩ := h3
        rw [ifO_some,List.all_eq_true] at h4
        obtain ⟨h5,h6⟩ := h4
        cases h6
        obtain ⟨h',nx',q1,q2,q3⟩ := JX (h5 _ (List.mem_map_of_mem m1))
        intro γ w vs hi hA hb hlt hf
        refine (Vq (hN X' m2) (body X' m2) f args h nx _ q1 γ w vs hi hA hb hlt fun b g1 g2 => hf b g1 (Nat.lt_of_lt_of_le g2 q2)).mono ?_
        rintro _ w' ⟨r',γ',rfl,hef,hv,hx⟩
        exact ⟨r',γ',rfl,hef.wide (Nat.le_refl _) q2,hv,fun x hh => hx x (q3 x hh)⟩
       ·cases h3
end
end Cx
namespace Go.Proofs.YtmdfngmjoaigjaaGreatDoor
open Cx Go Go.RowKit
section
variable {N : List Nd} {H : List (Nat × Nat × Nat × Nat)} {K : List (FuncId × List AC)} {L C : List (List Nat × Nat)} {Z : List Nat} {q : Nat→Rat} {σ : Nat→ByteArray} {cl : List FuncId} {cs : List (FuncId × Nat)} {M : JP} {B : DR} {w : World} {J : FuncId} {pr : List (FuncId × Nat)}
theorem MW (Y : Hy N H L C Z q σ) : ∀ {d i : Nat},zN (sx Tryz.prog N H K L C Z pr) d i=true→q i=0
 | 0,_,h => by cases h
 | d+1,i,h => by
  unfold zN at h
  rw [Bool.or_eq_true] at h
  rcases h with h | h
  ·split at h
   ·rename_i r hr
    exact (Y.k0 i r hr).1 h
   ·cases h
  ·split at h
   ·rename_i op a ha
    rw [Bool.and_eq_true,Nat.beq_eq] at h
    obtain ⟨rfl,h⟩ := h
    have e := Y.nat i _ ha
    rw [e]
    show -(q a)=0
    rw [MW Y h]
    rfl
   ·rename_i op a b ha
    rw [Bool.and_eq_true,Nat.beq_eq,Bool.or_eq_true] at h
    obtain ⟨rfl,h⟩ := h
    have e := Y.nat i _ ha
    rw [e]
    show q a*q b=0
    rcases h with h | h
    ·rw [MW Y h,Rat.zero_mul]
    ·rw [MW Y h,Rat.mul_zero]
   ·cases h
theorem sameN_val (Y : Hy N H L C Z q σ) {i j : Nat} (h : PM (sx Tryz.prog N H K L C Z pr) i j=true) : q i=q j := by
 unfold PM at h
 rw [Bool.or_eq_true] at h
 rcases h with h | h
 ·rw [Nat.beq_eq] at h
  rw [h]
 ·split at h
  ·rename_i op a b ha
   rw [Bool.and_eq_true,Bool.and_eq_true,Nat.beq_eq,Nat.beq_eq] at h
   obtain ⟨rfl,rfl,h⟩ := h
   rw [Y.nat i _ ha]
   show q a+q b=q a
   rw [MW Y h,Rat.add_zero]
  ·cases h
theorem Hm {f : FuncId} {args : List AV} {vs : List Value} (k : Nat) (Y : Hy N H L C Z q σ) (hc : ∀ f ∈ cl,Closed f) (hm : (Tryz.prog).follows .mixedOrders=true) (hp : Zy w) (hM : Zw N L C Z q σ cl w M) (hB : DI (sx Tryz.prog N H K L C Z (prC cl)) (evS q σ) w B) (hr : (OO (sx Tryz.prog N H K L C Z (prC cl)) cs M B J k [] f args [] 0).map (·.1)=some (kB true))
  (hA : A2 (avOn (cOn (evS q σ) K (fun _ => none) w)) args vs) : Calls Tryz.prog f vs.toArray w fun e w' => Below w.heap.size w w'∧e=.returned (.bool true) := by
 rw [Option.map_eq_some_iff] at hr
 obtain ⟨⟨v,p⟩,h1,h2⟩ := hr
 dsimp only at h2
 subst h2
 have ok := FO (S := sx Tryz.prog N H K L C Z (prC cl)) (E := evS q σ) (w0 := w) (J := J) (cs := cs) (T := fun X => Hy N (X ++ H) L C Z q σ) (z := fun d => q d=0) hm (hM H K) hB (fun X hX => GM hX) (fun X hX => Rf hX hp hc) Yj (fun X hX l s r h1 h2 => by
  have e := hX.k0 s r h2
  have g := Vl hX h1
  refine ⟨fun h => g.1 (e.1 h),fun h => ?_⟩
  have hn : ¬ ∀ d ∈ l,q d=0 := fun q' => by
   rw [e.2 (g.2 q')] at h
   cases h
  simpa using hn) (fun X hX i j h => sameN_val hX h) k [] Y
 refine (ok f args [] 0 (kB true,p) h1 (fun _ => none) w vs ⟨Below.refl _ _,(fun _ _ h => by cases h)⟩ hA (fun x hx => by cases hx) (fun x hx => by cases hx) (fun _ _ _ => rfl)).mono ?_
 rintro _ w' ⟨r,γ',rfl,hef,hv,_⟩
 exact ⟨hef.wi.bel,by rw [show r=.bool true from (Zk (v := kB true) (c := .inl (.bool true)) rfl hv).1]⟩
end
end Go.Proofs.YtmdfngmjoaigjaaGreatDoor
/- MQC -/
namespace Go.Proofs.YtmdfngmjoaigjaaGreatDoor
open Go.RowKit Cx
def qC_N : List Nd := [(1,[0]),(1,[1]),(0,[0,2,1]),(4,[0,0]),(4,[1,1]),(2,[3,4]),(4,[0,2]),(4,[1,2]),(0,[0,1,1]),(3,[5,8]),(2,[5,8]),(6,[6,10]),(6,[7,10]),(6,[9,10]),(4,[11,11]),(0,[0,0,1]),(2,[15,14]),(4,[12,12]),(2,[16,17]),(4,[13,13]),(2,[18,19]),(3,[20,8]),(3,[8,13]),(6,[11,22]),(6,[12,22]),(3,[23,0]),(3,[24,1]),(4,[25,25]),(4,[26,26]),(2,[27,28]),(1,[2]),(1,[3]),(4,[30,30]),(4,[31,31]),(2,[32,33]),(4,[30,2]),(4,[31,2]),(3,[34,8]),(2,[34,8]),(6,[35,38]),(6,[36,38]),(6,[37,38]),(4,[39,39]),(2,[15,42]),(4,[40,40]),(2,[43,44]),(4,[41,41]),(2,[45,46]),(3,[47,8]),(3,[8,41]),(6,[39,49]),(6,[40,49]),(3,[50,30]),(3,[51,31]),(4,[52,52]),(4,[53,53]),(2,[54,55]),(1,[4]),(1,[5]),(4,[57,57]),(4,[58,58]),(2,[59,60]),(4,[57,2]),(4,[58,2]),(3,[61,8]),(2,[61,8]),(6,[62,65]),(6,[63,65]),(6,[64,65]),(4,[66,66]),(2,[15,69]),(4,[67,67]),(2,[70,71]),(4,[68,68]),(2,[72,73]),(3,[74,8]),(3,[8,68]),(6,[66,76]),(6,[67,76]),(3,[77,57]),(3,[78,58]),(4,[79,79]),(4,[80,80]),(2,[81,82]),(1,[6]),(1,[7]),(4,[84,84]),(4,[85,85]),(2,[86,87]),(4,[84,2]),(4,[85,2]),(3,[88,8]),(2,[88,8]),(6,[89,92]),(6,[90,92]),(6,[91,92]),(4,[93,93]),(2,[15,96]),(4,[94,94]),(2,[97,98]),(4,[95,95]),(2,[99,100]),(3,[101,8]),(3,[8,95]),(6,[93,103]),(6,[94,103]),(3,[104,84]),(3,[105,85]),(4,[106,106]),(4,[107,107]),(2,[108,109]),(3,[39,11]),(3,[40,12]),(3,[41,13]),(3,[66,11]),(3,[67,12]),(3,[68,13]),(3,[93,11]),(3,[94,12]),(3,[95,13]),(4,[115,119]),(4,[116,118]),(3,[120,121]),(4,[111,122]),(4,[114,119]),(4,[116,117]),(3,[124,125]),(4,[112,126]),(5,[127]),(4,[114,118]),(4,[115,117]),(3,[129,130]),(4,[113,131]),(2,[123,128]),(2,[133,132]),(4,[58,8]),(2,[15,135]),(4,[8,85]),(5,[137]),(2,[136,138]),(4,[30,139]),(2,[15,140]),(4,[57,8]),(2,[15,142]),(4,[8,84]),(5,[144]),(2,[143,145]),(4,[31,146]),(5,[147]),(2,[141,148]),(4,[57,85]),(2,[15,150]),(4,[58,84]),(5,[152]),(2,[151,153]),(4,[8,154]),(2,[149,155]),(4,[5,156]),(2,[15,157]),(4,[34,139]),(2,[15,159]),(4,[61,8]),(2,[15,161]),(4,[8,88]),(5,[163]),(2,[162,164]),(4,[31,165]),(5,[166]),(2,[160,167]),(4,[61,85]),(2,[15,169]),(4,[58,88]),(5,[171]),(2,[170,172]),(4,[8,173]),(2,[168,174]),(4,[0,175]),(5,[176]),(2,[158,177]),(4,[34,146]),(2,[15,179]),(4,[30,165]),(5,[181]),(2,[180,182]),(4,[61,84]),(2,[15,184]),(4,[57,88]),(5,[186]),(2,[185,187]),(4,[8,188]),(2,[183,189]),(4,[1,190]),(2,[178,191]),(4,[34,154]),(2,[15,193]),(4,[30,173]),(5,[195]),(2,[194,196]),(4,[31,188]),(2,[197,198]),(4,[8,199]),(5,[200]),(2,[192,201])]
def qC_L : List (List Nat × Nat) := []
def qC_C : List (List Nat × Nat) := []
def qC_Z : List Nat := [3495260,3495260,2,6990519,6990519,13981038,3495261,3495261,1,13981040,13981040,13981041,13981041,13981041,27962081,1,27962083,27962081,27962085,27962082,27962087,27962089,13981043,13981044,13981044,17476304,17476304,34952608,34952608,41943128,3495260,3495260,6990519,6990519,13981038,3495261,3495261,13981040,13981040,13981041,13981041,13981041,27962081,27962083,27962081,27962085,27962082,27962087,27962089,13981043,13981044,13981044,17476304,17476304,34952608,34952608,41943128,3495260,3495260,6990519,6990519,13981038,3495261,3495261,13981040,13981040,13981041,13981041,13981041,27962081,27962083,27962081,27962085,27962082,27962087,27962089,13981043,13981044,13981044,17476304,17476304,34952608,34952608,41943128,3495260,3495260,6990519,6990519,13981038,3495261,3495261,13981040,13981040,13981041,13981041,13981041,27962081,27962083,27962081,27962085,27962082,27962087,27962089,13981043,13981044,13981044,17476304,17476304,34952608,34952608,41943128,27962081,27962081,27962083,27962081,27962081,27962083,27962081,27962081,27962083,55924164,55924164,55924166,83886247,55924164,55924164,55924166,83886247,83886247,55924162,55924162,55924164,83886247,83886249,83886251,3495260,3495262,3495260,3495260,6990523,10485782,10485784,3495260,3495262,3495260,3495260,6990523,10485782,10485782,20971563,6990519,6990521,6990519,6990519,13981041,13981042,20971565,34952603,34952605,20971561,20971563,13981039,13981041,13981039,13981039,27962079,31457338,31457338,41943119,17476297,17476299,17476297,17476297,27962078,27962079,41943121,45438380,45438380,55924161,20971561,20971563,31457338,31457338,41943119,17476297,17476299,17476297,17476297,27962078,27962079,41943121,45438380,55924163,27962079,27962081,31457337,31457337,41943119,31457337,41943121,41943122,41943122,55924165]
def qC_D0 : List Atm := [(0,0),(0,0),(0,1),(0,1)]
def FL : List Atm := [(1,10),(1,10)]
def qC_D2 : List Atm := [(0,2),(0,2),(0,3),(0,3)]
def Ft : List Atm := [(1,38),(1,38)]
def NI : List Atm := [(0,4),(0,4),(0,5),(0,5)]
def FG : List Atm := [(1,65),(1,65)]
def NN : List Atm := [(0,6),(0,6),(0,7),(0,7)]
def Fp : List Atm := [(1,92),(1,92)]
def qC_D8 : List Atm := [(1,10),(1,38)]
def qC_D9 : List Atm := [(1,10),(1,65)]
def Lu : List Atm := [(1,10),(1,92)]
def Rh : List Atm := [(1,10),(1,10),(1,65),(1,92)]
def Pd : List Atm := [(1,10),(1,10),(1,10),(1,38),(1,65),(1,92)]
def qC_D13 : List Atm := [(0,2),(0,5),(0,7)]
def qC_D14 : List Atm := [(0,3),(0,4),(0,6)]
def qC_D15 : List Atm := [(0,2),(0,3),(0,4),(0,5),(0,6),(0,7)]
def qC_D16 : List Atm := [(0,4),(0,7)]
def qC_D17 : List Atm := [(0,5),(0,6)]
def qC_D18 : List Atm := [(0,4),(0,5),(0,6),(0,7)]
def qC_D19 : List Atm := [(0,0),(0,0),(0,1),(0,1),(0,2),(0,3),(0,4),(0,5),(0,6),(0,7)]
def qC_D20 : List Atm := [(0,2),(0,2),(0,3),(0,3),(0,5),(0,7)]
def FY : List Atm := [(0,4),(0,4),(0,5),(0,5),(0,6),(0,6),(0,7),(0,7)]
def LL : List Atm := [(0,3),(0,4),(0,4),(0,5),(0,5),(0,6),(0,6),(0,7),(0,7)]
def Tr : List Atm := [(0,2),(0,2),(0,3),(0,3),(0,4),(0,4),(0,5),(0,5),(0,6),(0,6),(0,7),(0,7)]
def qC_D24 : List Atm := [(0,4),(0,4),(0,5),(0,5),(0,7)]
def qC_D25 : List Atm := [(0,5),(0,6),(0,6),(0,7),(0,7)]
def qC_D26 : List Atm := [(0,0),(0,2),(0,2),(0,3),(0,3),(0,4),(0,4),(0,5),(0,5),(0,6),(0,6),(0,7),(0,7)]
def Hh : List Atm := [(0,0),(0,0),(0,1),(0,1),(0,2),(0,2),(0,3),(0,3),(0,4),(0,4),(0,5),(0,5),(0,6),(0,6),(0,7),(0,7)]
def qC_D28 : List Atm := [(0,2),(0,2),(0,3),(0,3),(0,4),(0,6)]
def MG : List Atm := [(0,2),(0,4),(0,4),(0,5),(0,5),(0,6),(0,6),(0,7),(0,7)]
def qC_D30 : List Atm := [(0,4),(0,4),(0,5),(0,5),(0,6)]
def qC_D31 : List Atm := [(0,4),(0,6),(0,6),(0,7),(0,7)]
def qC_D32 : List Atm := [(0,2),(0,2),(0,3),(0,3),(0,4),(0,5),(0,6),(0,7)]
def qC_E : List (Nat × List Atm) := [(3495259,[(0,0)]),(3495259,[(0,1)]),(2,[]),(6990518,[(0,0),(0,0)]),(6990518,[(0,1),(0,1)]),(13981038,qC_D0),(3495261,[(0,0)]),(3495261,[(0,1)]),(1,[]),(13981040,qC_D0),(13981040,qC_D0),(13981039,[(1,10)]),(13981039,[(1,10)]),(13981041,[(1,10)]),(27962078,FL),(1,[]),(27962083,FL),(27962078,FL),(27962085,FL),(27962082,FL),(27962087,FL),(27962089,FL),(13981043,[(1,10)]),(13981040,[(1,22)]),(13981040,[(1,22)]),(17476304,[(0,0),(1,22)]),(17476304,[(0,1),(1,22)]),(34952608,[(0,0),(0,0),(1,22),(1,22)]),(34952608,[(0,1),(0,1),(1,22),(1,22)]),(41943128,[(0,0),(0,0),(0,1),(0,1),(1,22),(1,22)]),(3495259,[(0,2)]),(3495259,[(0,3)]),(6990518,[(0,2),(0,2)]),(6990518,[(0,3),(0,3)]),(13981038,qC_D2),(3495261,[(0,2)]),(3495261,[(0,3)]),(13981040,qC_D2),(13981040,qC_D2),(13981039,[(1,38)]),(13981039,[(1,38)]),(13981041,[(1,38)]),(27962078,Ft),(27962083,Ft),(27962078,Ft),(27962085,Ft),(27962082,Ft),(27962087,Ft),(27962089,Ft),(13981043,[(1,38)]),(13981040,[(1,49)]),(13981040,[(1,49)]),(17476304,[(0,2),(1,49)]),(17476304,[(0,3),(1,49)]),(34952608,[(0,2),(0,2),(1,49),(1,49)]),(34952608,[(0,3),(0,3),(1,49),(1,49)]),(41943128,[(0,2),(0,2),(0,3),(0,3),(1,49),(1,49)]),(3495259,[(0,4)]),(3495259,[(0,5)]),(6990518,[(0,4),(0,4)]),(6990518,[(0,5),(0,5)]),(13981038,NI),(3495261,[(0,4)]),(3495261,[(0,5)]),(13981040,NI),(13981040,NI),(13981039,[(1,65)]),(13981039,[(1,65)]),(13981041,[(1,65)]),(27962078,FG),(27962083,FG),(27962078,FG),(27962085,FG),(27962082,FG),(27962087,FG),(27962089,FG),(13981043,[(1,65)]),(13981040,[(1,76)]),(13981040,[(1,76)]),(17476304,[(0,4),(1,76)]),(17476304,[(0,5),(1,76)]),(34952608,[(0,4),(0,4),(1,76),(1,76)]),(34952608,[(0,5),(0,5),(1,76),(1,76)]),(41943128,[(0,4),(0,4),(0,5),(0,5),(1,76),(1,76)]),(3495259,[(0,6)]),(3495259,[(0,7)]),(6990518,[(0,6),(0,6)]),(6990518,[(0,7),(0,7)]),(13981038,NN),(3495261,[(0,6)]),(3495261,[(0,7)]),(13981040,NN),(13981040,NN),(13981039,[(1,92)]),(13981039,[(1,92)]),(13981041,[(1,92)]),(27962078,Fp),(27962083,Fp),(27962078,Fp),(27962085,Fp),(27962082,Fp),(27962087,Fp),(27962089,Fp),(13981043,[(1,92)]),(13981040,[(1,103)]),(13981040,[(1,103)]),(17476304,[(0,6),(1,103)]),(17476304,[(0,7),(1,103)]),(34952608,[(0,6),(0,6),(1,103),(1,103)]),(34952608,[(0,7),(0,7),(1,103),(1,103)]),(41943128,[(0,6),(0,6),(0,7),(0,7),(1,103),(1,103)]),(27962081,qC_D8),(27962081,qC_D8),(27962083,qC_D8),(27962081,qC_D9),(27962081,qC_D9),(27962083,qC_D9),(27962081,Lu),(27962081,Lu),(27962083,Lu),(55924164,Rh),(55924164,Rh),(55924166,Rh),(83886247,Pd),(55924164,Rh),(55924164,Rh),(55924166,Rh),(83886247,Pd),(83886247,Pd),(55924162,Rh),(55924162,Rh),(55924164,Rh),(83886247,Pd),(83886249,Pd),(83886251,Pd),(3495260,[(0,5)]),(3495262,[(0,5)]),(3495260,[(0,7)]),(3495260,[(0,7)]),(6990523,[(0,5),(0,7)]),(10485782,qC_D13),(10485784,qC_D13),(3495260,[(0,4)]),(3495262,[(0,4)]),(3495260,[(0,6)]),(3495260,[(0,6)]),(6990523,[(0,4),(0,6)]),(10485782,qC_D14),(10485782,qC_D14),(20971563,qC_D15),(6990518,qC_D16),(6990521,qC_D16),(6990518,qC_D17),(6990518,qC_D17),(13981041,qC_D18),(13981042,qC_D18),(20971565,qC_D15),(34952603,qC_D19),(34952605,qC_D19),(20971561,qC_D20),(20971563,qC_D20),(13981039,NI),(13981041,NI),(13981039,NN),(13981039,NN),(27962079,FY),(31457338,LL),(31457338,LL),(41943119,Tr),(17476297,qC_D24),(17476299,qC_D24),(17476297,qC_D25),(17476297,qC_D25),(27962078,FY),(27962079,FY),(41943121,Tr),(45438380,qC_D26),(45438380,qC_D26),(55924161,Hh),(20971561,qC_D28),(20971563,qC_D28),(31457338,MG),(31457338,MG),(41943119,Tr),(17476297,qC_D30),(17476299,qC_D30),(17476297,qC_D31),(17476297,qC_D31),(27962078,FY),(27962079,FY),(41943121,Tr),(45438380,[(0,1),(0,2),(0,2),(0,3),(0,3),(0,4),(0,4),(0,5),(0,5),(0,6),(0,6),(0,7),(0,7)]),(55924163,Hh),(27962079,qC_D32),(27962081,qC_D32),(31457337,MG),(31457337,MG),(41943119,Tr),(31457337,LL),(41943121,Tr),(41943122,Tr),(41943122,Tr),(55924165,Hh)]
abbrev Yh (q : Nat→Rat) (σ : Nat→ByteArray) : Prop := ∀ (a : Nat) nd,qC_N[a]? = some nd→q a=Zr σ q nd
variable {q : Nat→Rat} {σ : Nat→ByteArray}
theorem qC_wf : wfB 0 qC_N=true := by kernel_rfl
theorem qC_sz : saB qC_E 0 qC_N qC_E qC_Z=true := by kernel_rfl
theorem qC_lt : KZ qC_N qC_L=true := by kernel_rfl
theorem qC_cn : Gb qC_N qC_C=true := by kernel_rfl
theorem PJ : cst 0 2 1=(2 : Rat) := by decide +kernel
theorem Vc : cst 0 1 1=(1 : Rat) := by decide +kernel
theorem DQ : cst 0 0 1=(0 : Rat) := by decide +kernel
def qC_A : List AV := [(false,[(true,[.inr (2,0,0,0,0),.inr (2,1,0,0,0)])]),(false,[(true,[.inr (2,2,0,0,0),.inr (2,3,0,0,0)])]),(false,[(true,[.inr (2,4,0,0,0),.inr (2,5,0,0,0)])]),(false,[(true,[.inr (2,6,0,0,0),.inr (2,7,0,0,0)])])]
theorem Ul {a b c d e f g h i : Rat} (r11 : a*a+b*b+c*c=1) (r22 : d*d+e*e+f*f=1) (r33 : g*g+h*h+i*i=1) (r12 : a*d+b*e+c*f=0) (r13 : a*g+b*h+c*i=0) (r23 : d*g+e*h+f*i=0) (hd : 0 < a*(e*i - f*h)+b*(f*g - d*i)+c*(d*h - e*g)) :
  (e*i - f*h=a∧f*g - d*i=b∧d*h - e*g=c)∧(h*c - i*b=d∧i*a - g*c=e∧g*b - h*a=f)∧(b*f - c*e=g∧c*d - a*f=h∧a*e - b*d=i) := by
 have gram : (a*(e*i - f*h)+b*(f*g - d*i)+c*(d*h - e*g))*(a*(e*i - f*h)+b*(f*g - d*i)+c*(d*h - e*g))=(a*a+b*b+c*c)*((d*d+e*e+f*f)*(g*g+h*h+i*i) - (d*g+e*h+f*i)*(d*g+e*h+f*i)) - (a*d+b*e+c*f)*((a*d+b*e+c*f)*(g*g+h*h+i*i) - (d*g+e*h+f*i)*(a*g+b*h+c*i))+(a*g+b*h+c*i)*((a*d+b*e+c*f)*(d*g+e*h+f*i) - (d*d+e*e+f*f)*(a*g+b*h+c*i)) := by clear r11 r22 r33 r12 r13 r23 hd; grind
 rw [r11,r22,r33,r12,r13,r23] at gram
 generalize hD : a*(e*i - f*h)+b*(f*g - d*i)+c*(d*h - e*g)=D at *
 have one : D=1 := by
  have p : (D - 1)*(D+1)=0 := by grind
  rcases Rat.mul_eq_zero.1 p with q | q <;> grind
 subst one
 have l1 : (e*i - f*h)*(e*i - f*h)+(f*g - d*i)*(f*g - d*i)+(d*h - e*g)*(d*h - e*g)=1 := by
  have : (e*i - f*h)*(e*i - f*h)+(f*g - d*i)*(f*g - d*i)+(d*h - e*g)*(d*h - e*g)=(d*d+e*e+f*f)*(g*g+h*h+i*i) - (d*g+e*h+f*i)*(d*g+e*h+f*i) := by clear r11 r22 r33 r12 r13 r23 hd gram hD; grind
  rw [this,r22,r33,r23]; grind
 have l2 : (h*c - i*b)*(h*c - i*b)+(i*a - g*c)*(i*a - g*c)+(g*b - h*a)*(g*b - h*a)=1 := by
  have : (h*c - i*b)*(h*c - i*b)+(i*a - g*c)*(i*a - g*c)+(g*b - h*a)*(g*b - h*a)=(a*a+b*b+c*c)*(g*g+h*h+i*i) - (a*g+b*h+c*i)*(a*g+b*h+c*i) := by clear r11 r22 r33 r12 r13 r23 hd gram hD l1; grind
  rw [this,r11,r33,r13]; grind
 have l3 : (b*f - c*e)*(b*f - c*e)+(c*d - a*f)*(c*d - a*f)+(a*e - b*d)*(a*e - b*d)=1 := by
  have : (b*f - c*e)*(b*f - c*e)+(c*d - a*f)*(c*d - a*f)+(a*e - b*d)*(a*e - b*d)=(d*d+e*e+f*f)*(a*a+b*b+c*c) - (a*d+b*e+c*f)*(a*d+b*e+c*f) := by clear r11 r22 r33 r12 r13 r23 hd gram hD l1 l2; grind
  rw [this,r11,r22,r12]; grind
 have z : ∀ {x y z u v w : Rat},x*x+y*y+z*z=1→u*u+v*v+w*w=1→u*x+v*y+w*z=1→x=u∧y=v∧z=w := by
  intro x y z u v w p q r
  have s : (x - u)*(x - u)+(y - v)*(y - v)+(z - w)*(z - w)=0 := by grind
  have a1 := QJ (x - u)
  have a2 := QJ (y - v)
  have a3 := QJ (z - w)
  have b1 := a1.2.1 (by grind)
  have b2 := a2.2.1 (by grind)
  have b3 := a3.2.1 (by grind)
  exact ⟨by grind,by grind,by grind⟩
 refine ⟨z l1 r11 hD,z l2 r22 ?_,z l3 r33 ?_⟩
 ·rw [← hD]; clear r11 r22 r33 r12 r13 r23 gram hD l1 l2 l3; grind
 ·rw [← hD]; clear r11 r22 r33 r12 r13 r23 gram hD l1 l2 l3; grind
theorem Qb {k x y : Rat} (h : k ≠ 0) (e : x*k=y*k) : x=y := by
 have : (x - y)*k=0 := by grind
 have := (Rat.mul_eq_zero.1 this).resolve_right h
 grind
theorem TQ {a b c d e f g h i s x y z : Rat} (r11 : a*a+b*b+c*c=1) (r22 : d*d+e*e+f*f=1) (r33 : g*g+h*h+i*i=1) (r12 : a*d+b*e+c*f=0) (r13 : a*g+b*h+c*i=0) (r23 : d*g+e*h+f*i=0) (hd : 0 < a*(e*i - f*h)+b*(f*g - d*i)+c*(d*h - e*g)) (es : s=1+a+e+i) (hs : s ≠ 0) (hx : x*s=h - f) (hy : y*s=c - g) (hz : z*s=d - b) :
  ((1+x*x - y*y - z*z)=a*(1+x*x+y*y+z*z)∧2*(x*y - z)=b*(1+x*x+y*y+z*z)∧2*(x*z+y)=c*(1+x*x+y*y+z*z))∧(2*(x*y+z)=d*(1+x*x+y*y+z*z)∧(1 - x*x+y*y - z*z)=e*(1+x*x+y*y+z*z)∧2*(y*z - x)=f*(1+x*x+y*y+z*z))∧(2*(x*z - y)=g*(1+x*x+y*y+z*z)∧2*(y*z+x)=h*(1+x*x+y*y+z*z)∧(1 - x*x - y*y+z*z)=i*(1+x*x+y*y+z*z)) := by
 obtain ⟨⟨c1,c2,c3⟩,⟨c4,c5,c6⟩,⟨c7,c8,c9⟩⟩ := Ul r11 r22 r33 r12 r13 r23 hd
 clear hd
 have k : s*s ≠ 0 := ZH hs hs
 have xx : x*x*(s*s)=(h - f)*(h - f) := by rw [← hx]; grind
 have yy : y*y*(s*s)=(c - g)*(c - g) := by rw [← hy]; grind
 have zz : z*z*(s*s)=(d - b)*(d - b) := by rw [← hz]; grind
 have xy : x*y*(s*s)=(h - f)*(c - g) := by rw [← hx,← hy]; grind
 have xz : x*z*(s*s)=(h - f)*(d - b) := by rw [← hx,← hz]; grind
 have yz : y*z*(s*s)=(c - g)*(d - b) := by rw [← hy,← hz]; grind
 have sx : x*(s*s)=(h - f)*s := by rw [← hx]; grind
 have sy : y*(s*s)=(c - g)*s := by rw [← hy]; grind
 have sz : z*(s*s)=(d - b)*s := by rw [← hz]; grind
 have n : (1+x*x+y*y+z*z)*(s*s)=4*s := by
  have : (1+x*x+y*y+z*z)*(s*s)=s*s+x*x*(s*s)+y*y*(s*s)+z*z*(s*s) := by grind
  rw [this,xx,yy,zz,es]; clear this xx yy zz xy xz yz sx sy sz hx hy hz k hs; grind
 have N : ∀ t,t*(1+x*x+y*y+z*z)*(s*s)=t*(4*s) := fun t => by rw [← n]; grind
 clear hx hy hz n
 generalize 1+x*x+y*y+z*z=M at *
 refine ⟨⟨?_,?_,?_⟩,⟨?_,?_,?_⟩,⟨?_,?_,?_⟩⟩ <;> refine Qb k ?_ <;> rw [N]
 ·have : (1+x*x - y*y - z*z)*(s*s)=s*s+x*x*(s*s) - y*y*(s*s) - z*z*(s*s) := by grind
  rw [this,xx,yy,zz,es]; clear this xx yy zz xy xz yz sx sy sz N k hs; grind
 ·have : 2*(x*y - z)*(s*s)=2*(x*y*(s*s) - z*(s*s)) := by grind
  rw [this,xy,sz,es]; clear this xx yy zz xy xz yz sx sy sz N k hs; grind
 ·have : 2*(x*z+y)*(s*s)=2*(x*z*(s*s)+y*(s*s)) := by grind
  rw [this,xz,sy,es]; clear this xx yy zz xy xz yz sx sy sz N k hs; grind
 ·have : 2*(x*y+z)*(s*s)=2*(x*y*(s*s)+z*(s*s)) := by grind
  rw [this,xy,sz,es]; clear this xx yy zz xy xz yz sx sy sz N k hs; grind
 ·have : (1 - x*x+y*y - z*z)*(s*s)=s*s - x*x*(s*s)+y*y*(s*s) - z*z*(s*s) := by grind
  rw [this,xx,yy,zz,es]; clear this xx yy zz xy xz yz sx sy sz N k hs; grind
 ·have : 2*(y*z - x)*(s*s)=2*(y*z*(s*s) - x*(s*s)) := by grind
  rw [this,yz,sx,es]; clear this xx yy zz xy xz yz sx sy sz N k hs; grind
 ·have : 2*(x*z - y)*(s*s)=2*(x*z*(s*s) - y*(s*s)) := by grind
  rw [this,xz,sy,es]; clear this xx yy zz xy xz yz sx sy sz N k hs; grind
 ·have : 2*(y*z+x)*(s*s)=2*(y*z*(s*s)+x*(s*s)) := by grind
  rw [this,yz,sx,es]; clear this xx yy zz xy xz yz sx sy sz N k hs; grind
 ·have : (1 - x*x - y*y+z*z)*(s*s)=s*s - x*x*(s*s) - y*y*(s*s)+z*z*(s*s) := by grind
  rw [this,xx,yy,zz,es]; clear this xx yy zz xy xz yz sx sy sz N k hs; grind
theorem Oe {a b c d e f g h i : Rat} (r11 : a*a+b*b+c*c=1) (r22 : d*d+e*e+f*f=1) (r33 : g*g+h*h+i*i=1) (r12 : a*d+b*e+c*f=0) (r13 : a*g+b*h+c*i=0) (r23 : d*g+e*h+f*i=0) (hd : 0 < a*(e*i - f*h)+b*(f*g - d*i)+c*(d*h - e*g)) (hs : 1+a+e+i=0) :
  (d=b∧g=c∧h=f)∧(b*b=(a+1)*(e+1)∧c*c=(a+1)*(i+1)∧f*f=(e+1)*(i+1))∧(b*c=(a+1)*f∧b*f=(e+1)*c∧c*f=(i+1)*b) := by
 obtain ⟨⟨c1,c2,c3⟩,⟨c4,c5,c6⟩,⟨c7,c8,c9⟩⟩ := Ul r11 r22 r33 r12 r13 r23 hd
 clear hd
 have s : (h - f)*(h - f)+(c - g)*(c - g)+(d - b)*(d - b)=0 := by
  have : (h - f)*(h - f)+(c - g)*(c - g)+(d - b)*(d - b)=(1+a+e+i)*(3 - a - e - i) := by grind
  rw [this,hs,Rat.zero_mul]
 have a1 := QJ (h - f)
 have a2 := QJ (c - g)
 have a3 := QJ (d - b)
 have b1 := a1.2.1 (by grind)
 have b2 := a2.2.1 (by grind)
 have b3 := a3.2.1 (by grind)
 have e1 : h=f := by grind
 have e2 : g=c := by grind
 have e3 : d=b := by grind
 clear a1 a2 a3 b1 b2 b3 s
 subst e1 e2 e3
 refine ⟨⟨rfl,rfl,rfl⟩,⟨?_,?_,?_⟩,⟨?_,?_,?_⟩⟩ <;> grind
theorem Iq {a b c e f i p y z : Rat} (hb : b*b=(a+1)*(e+1)) (hc : c*c=(a+1)*(i+1)) (hbc : b*c=(a+1)*f) (hs : 1+a+e+i=0) (ep : p=a+1) (hp : p ≠ 0) (hy : y*p=b) (hz : z*p=c) :
  (1 - y*y - z*z=a*(1+y*y+z*z)∧2*y=b*(1+y*y+z*z)∧2*z=c*(1+y*y+z*z))∧(y*y - 1 - z*z=e*(1+y*y+z*z)∧2*(y*z)=f*(1+y*y+z*z))∧(z*z - 1 - y*y=i*(1+y*y+z*z)) := by
 have yy : y*y*p=e+1 := Qb hp (by
  have : y*y*p*p=(y*p)*(y*p) := by grind
  rw [this,hy,hb,ep]; grind)
 have zz : z*z*p=i+1 := Qb hp (by
  have : z*z*p*p=(z*p)*(z*p) := by grind
  rw [this,hz,hc,ep]; grind)
 have yz : y*z*p=f := Qb hp (by
  have : y*z*p*p=(y*p)*(z*p) := by grind
  rw [this,hy,hz,hbc,ep]; grind)
 refine ⟨⟨?_,?_,?_⟩,⟨?_,?_⟩,?_⟩ <;> refine Qb hp ?_ <;> grind
structure QTab (w x y z n a b c d e f g h i : Rat) : Prop where
 hn : n ≠ 0
 en : n=w*w+x*x+y*y+z*z
 ha : a*n=w*w+x*x - y*y - z*z
 hb : b*n=2*(x*y - w*z)
 hc : c*n=2*(x*z+w*y)
 hd : d*n=2*(x*y+w*z)
 he : e*n=w*w - x*x+y*y - z*z
 hf : f*n=2*(y*z - w*x)
 hg : g*n=2*(x*z - w*y)
 hh : h*n=2*(y*z+w*x)
 hi : i*n=w*w - x*x - y*y+z*z
theorem QTab.rows {w x y z n a b c d e f g h i : Rat} (Q : QTab w x y z n a b c d e f g h i) : (a*a+b*b+c*c=1∧d*d+e*e+f*f=1∧g*g+h*h+i*i=1)∧(a*d+b*e+c*f=0∧a*g+b*h+c*i=0∧d*g+e*h+f*i=0) := by
 obtain ⟨hn,en,ha,hb,hc,hd,he,hf,hg,hh,hi⟩ := Q
 have k : n*n ≠ 0 := ZH hn hn
 have p : ∀ {p q r s t u m : Rat},(p*n)*(s*n)+(q*n)*(t*n)+(r*n)*(u*n)=m*(n*n)→p*s+q*t+r*u=m := fun {p q r s t u m} j => Qb k (by rw [← j]; grind)
 refine ⟨⟨p ?_,p ?_,p ?_⟩,⟨p ?_,p ?_,p ?_⟩⟩
 ·rw [ha,hb,hc,en]; clear ha hb hc hd he hf hg hh hi k hn p; grind
 ·rw [hd,he,hf,en]; clear ha hb hc hd he hf hg hh hi k hn p; grind
 ·rw [hg,hh,hi,en]; clear ha hb hc hd he hf hg hh hi k hn p; grind
 ·rw [ha,hb,hc,hd,he,hf]; clear ha hb hc hd he hf hg hh hi k hn p en; grind
 ·rw [ha,hb,hc,hg,hh,hi]; clear ha hb hc hd he hf hg hh hi k hn p en; grind
 ·rw [hd,he,hf,hg,hh,hi]; clear ha hb hc hd he hf hg hh hi k hn p en; grind
theorem QTab.cols {w x y z n a b c d e f g h i : Rat} (Q : QTab w x y z n a b c d e f g h i) : (a*a+d*d+g*g=1∧b*b+e*e+h*h=1∧c*c+f*f+i*i=1)∧(a*b+d*e+g*h=0∧a*c+d*f+g*i=0∧b*c+e*f+h*i=0) := by
 obtain ⟨hn,en,ha,hb,hc,hd,he,hf,hg,hh,hi⟩ := Q
 have Q' : QTab (-w) x y z n a d g b e h c f i := ⟨hn,by rw [en]; grind,by rw [ha]; grind,by rw [hd]; grind,by rw [hg]; grind,by rw [hb]; grind,by rw [he]; grind,by rw [hh]; grind,by rw [hc]; grind,by rw [hf]; grind,by rw [hi]; grind⟩
 exact Q'.rows
theorem QTab.cof {w x y z n a b c d e f g h i : Rat} (Q : QTab w x y z n a b c d e f g h i) : (e*i - f*h=a∧f*g - d*i=b∧d*h - e*g=c)∧(h*c - i*b=d∧i*a - g*c=e∧g*b - h*a=f)∧(b*f - c*e=g∧c*d - a*f=h∧a*e - b*d=i) := by
 obtain ⟨hn,en,ha,hb,hc,hd,he,hf,hg,hh,hi⟩ := Q
 have k : n*n ≠ 0 := ZH hn hn
 have p : ∀ {p q r s m : Rat},(p*n)*(q*n) - (r*n)*(s*n)=(m*n)*n→p*q - r*s=m := fun {p q r s m} j => Qb k (by
  have : m*(n*n)=m*n*n := by grind
  rw [this,← j]; grind)
 refine ⟨⟨p ?_,p ?_,p ?_⟩,⟨p ?_,p ?_,p ?_⟩,⟨p ?_,p ?_,p ?_⟩⟩
 ·rw [he,hi,hf,hh,ha,en]; clear ha hb hc hd he hf hg hh hi k hn p; grind
 ·rw [hf,hg,hd,hi,hb,en]; clear ha hb hc hd he hf hg hh hi k hn p; grind
 ·rw [hd,hh,he,hg,hc,en]; clear ha hb hc hd he hf hg hh hi k hn p; grind
 ·rw [hh,hc,hi,hb,hd,en]; clear ha hb hc hd he hf hg hh hi k hn p; grind
 ·rw [hi,ha,hg,hc,he,en]; clear ha hb hc hd he hf hg hh hi k hn p; grind
 ·rw [hg,hb,hh,ha,hf,en]; clear ha hb hc hd he hf hg hh hi k hn p; grind
 ·rw [hb,hf,hc,he,hg,en]; clear ha hb hc hd he hf hg hh hi k hn p; grind
 ·rw [hc,hd,ha,hf,hh,en]; clear ha hb hc hd he hf hg hh hi k hn p; grind
 ·rw [ha,he,hb,hd,hi,en]; clear ha hb hc hd he hf hg hh hi k hn p; grind
theorem QTab.comp {w x y z n a b c d e f g h i W X Y Z N A B C D E F G H I p q r s m a' b' c' d' e' f' g' h' i' : Rat} (Q : QTab w x y z n a b c d e f g h i) (R : QTab W X Y Z N A B C D E F G H I) (S : QTab p q r s m a' b' c' d' e' f' g' h' i') (ep : p=W*w - X*x - Y*y - Z*z) (eq : q=W*x+X*w+Y*z - Z*y) (er : r=W*y - X*z+Y*w+Z*x) (es : s=W*z+X*y - Y*x+Z*w) :
  (A*a+B*d+C*g=a'∧A*b+B*e+C*h=b'∧A*c+B*f+C*i=c')∧(D*a+E*d+F*g=d'∧D*b+E*e+F*h=e'∧D*c+E*f+F*i=f')∧(G*a+H*d+I*g=g'∧G*b+H*e+I*h=h'∧G*c+H*f+I*i=i') := by
 obtain ⟨hn,en,ha,hb,hc,hd,he,hf,hg,hh,hi⟩ := Q
 obtain ⟨hN,eN,hA,hB,hC,hD,hE,hF,hG,hH,hI⟩ := R
 obtain ⟨hm,em,ka,kb,kc,kd,ke,kf,kg,kh,ki⟩ := S
 have eM : m=N*n := by rw [em,ep,eq,er,es,eN,en]; clear hn en ha hb hc hd he hf hg hh hi hN eN hA hB hC hD hE hF hG hH hI hm em ka kb kc kd ke kf kg kh ki ep eq er es; grind
 have k : N*n ≠ 0 := ZH hN hn
 have t : ∀ {p1 p2 p3 q1 q2 q3 M : Rat},(p1*N)*(q1*n)+(p2*N)*(q2*n)+(p3*N)*(q3*n)=M*m→p1*q1+p2*q2+p3*q3=M := fun {p1 p2 p3 q1 q2 q3 M} j => Qb k (by rw [← eM,← j,eM]; grind)
 clear em hm hn hN k eM
 refine ⟨⟨t ?_,t ?_,t ?_⟩,⟨t ?_,t ?_,t ?_⟩,⟨t ?_,t ?_,t ?_⟩⟩ <;> clear t
 ·rw [hA,hB,hC,ha,hd,hg,ka,ep,eq,er,es]; clear en ha hb hc hd he hf hg hh hi eN hA hB hC hD hE hF hG hH hI ka kb kc kd ke kf kg kh ki ep eq er es; grind
 ·rw [hA,hB,hC,hb,he,hh,kb,ep,eq,er,es]; clear en ha hb hc hd he hf hg hh hi eN hA hB hC hD hE hF hG hH hI ka kb kc kd ke kf kg kh ki ep eq er es; grind
 ·rw [hA,hB,hC,hc,hf,hi,kc,ep,eq,er,es]; clear en ha hb hc hd he hf hg hh hi eN hA hB hC hD hE hF hG hH hI ka kb kc kd ke kf kg kh ki ep eq er es; grind
 ·rw [hD,hE,hF,ha,hd,hg,kd,ep,eq,er,es]; clear en ha hb hc hd he hf hg hh hi eN hA hB hC hD hE hF hG hH hI ka kb kc kd ke kf kg kh ki ep eq er es; grind
 ·rw [hD,hE,hF,hb,he,hh,ke,ep,eq,er,es]; clear en ha hb hc hd he hf hg hh hi eN hA hB hC hD hE hF hG hH hI ka kb kc kd ke kf kg kh ki ep eq er es; grind
 ·rw [hD,hE,hF,hc,hf,hi,kf,ep,eq,er,es]; clear en ha hb hc hd he hf hg hh hi eN hA hB hC hD hE hF hG hH hI ka kb kc kd ke kf kg kh ki ep eq er es; grind
 ·rw [hG,hH,hI,ha,hd,hg,kg,ep,eq,er,es]; clear en ha hb hc hd he hf hg hh hi eN hA hB hC hD hE hF hG hH hI ka kb kc kd ke kf kg kh ki ep eq er es; grind
 ·rw [hG,hH,hI,hb,he,hh,kh,ep,eq,er,es]; clear en ha hb hc hd he hf hg hh hi eN hA hB hC hD hE hF hG hH hI ka kb kc kd ke kf kg kh ki ep eq er es; grind
 ·rw [hG,hH,hI,hc,hf,hi,ki,ep,eq,er,es]; clear en ha hb hc hd he hf hg hh hi eN hA hB hC hD hE hF hG hH hI ka kb kc kd ke kf kg kh ki ep eq er es; grind
def dm4 (a b c d e f g h i j k l m n o p : Rat) : Rat := a*(f*(k*p - l*o) - g*(j*p - l*n)+h*(j*o - k*n)) - b*(e*(k*p - l*o) - g*(i*p - l*m)+h*(i*o - k*m))+c*(e*(j*p - l*n) - f*(i*p - l*m)+h*(i*n - j*m)) - d*(e*(j*o - k*n) - f*(i*o - k*m)+g*(i*n - j*m))
theorem Fz (a b c d e f g h i j k l m n o p s t u v : Rat) : dm4 (a*s) (b*s) (c*s) (d*s) (e*t) (f*t) (g*t) (h*t) (i*u) (j*u) (k*u) (l*u) (m*v) (n*v) (o*v) (p*v)=dm4 a b c d e f g h i j k l m n o p*(s*t*(u*v)) := by simp only [dm4]; grind
theorem Ch (x0 y0 r0 x1 y1 r1 x2 y2 r2 x3 y3 r3 : Rat) : dm4 (2*x0) (2*y0) (r0 - 1) (r0+1) (2*x1) (2*y1) (r1 - 1) (r1+1) (2*x2) (2*y2) (r2 - 1) (r2+1) (2*x3) (2*y3) (r3 - 1) (r3+1)=8*dm4 r0 x0 y0 1 r1 x1 y1 1 r2 x2 y2 1 r3 x3 y3 1 := by simp only [dm4]; grind
theorem CQ (X0 Y0 Z0 X1 Y1 Z1 X2 Y2 Z2 X3 Y3 Z3 : Rat) : dm4 X0 Y0 Z0 1 X1 Y1 Z1 1 X2 Y2 Z2 1 X3 Y3 Z3 1=-((X1 - X0)*((Y2 - Y0)*(Z3 - Z0) - (Z2 - Z0)*(Y3 - Y0)) - (Y1 - Y0)*((X2 - X0)*(Z3 - Z0) - (Z2 - Z0)*(X3 - X0))+(Z1 - Z0)*((X2 - X0)*(Y3 - Y0) - (Y2 - Y0)*(X3 - X0))) := by simp only [dm4]; grind
theorem Fv {x0 y0 r0 n0 X0 Y0 Z0 x1 y1 r1 n1 X1 Y1 Z1 x2 y2 r2 n2 X2 Y2 Z2 x3 y3 r3 n3 X3 Y3 Z3 : Rat} (e0 : n0=r0+1) (k0 : n0 ≠ 0) (a0 : X0*n0=2*x0) (b0 : Y0*n0=2*y0) (c0 : Z0*n0=r0 - 1) (e1 : n1=r1+1) (k1 : n1 ≠ 0) (a1 : X1*n1=2*x1) (b1 : Y1*n1=2*y1) (c1 : Z1*n1=r1 - 1) (e2 : n2=r2+1) (k2 : n2 ≠ 0) (a2 : X2*n2=2*x2) (b2 : Y2*n2=2*y2) (c2 : Z2*n2=r2 - 1) (e3 : n3=r3+1) (k3 : n3 ≠ 0) (a3 : X3*n3=2*x3) (b3 : Y3*n3=2*y3) (c3 : Z3*n3=r3 - 1) : (X1 - X0)*((Y2 - Y0)*(Z3 - Z0) - (Z2 - Z0)*(Y3 - Y0)) - (Y1 - Y0)*((X2 - X0)*(Z3 - Z0) - (Z2 - Z0)*(X3 - X0))+(Z1 - Z0)*((X2 - X0)*(Y3 - Y0) - (Y2 - Y0)*(X3 - X0))=0 ↔ dm4 r0 x0 y0 1 r1 x1 y1 1 r2 x2 y2 1 r3 x3 y3 1=0 := by
 have h := Fz X0 Y0 Z0 1 X1 Y1 Z1 1 X2 Y2 Z2 1 X3 Y3 Z3 1 n0 n1 n2 n3
 rw [CQ,a0,b0,c0,a1,b1,c1,a2,b2,c2,a3,b3,c3,Rat.one_mul,Rat.one_mul,Rat.one_mul,Rat.one_mul] at h
 have hn : n0*n1*(n2*n3) ≠ 0 := ZH (ZH k0 k1) (ZH k2 k3)
 rw [show dm4 (2*x0) (2*y0) (r0 - 1) n0 (2*x1) (2*y1) (r1 - 1) n1 (2*x2) (2*y2) (r2 - 1) n2 (2*x3) (2*y3) (r3 - 1) n3=dm4 (2*x0) (2*y0) (r0 - 1) (r0+1) (2*x1) (2*y1) (r1 - 1) (r1+1) (2*x2) (2*y2) (r2 - 1) (r2+1) (2*x3) (2*y3) (r3 - 1) (r3+1) by rw [← e0,← e1,← e2,← e3],Ch] at h
 generalize (X1 - X0)*((Y2 - Y0)*(Z3 - Z0) - (Z2 - Z0)*(Y3 - Y0)) - (Y1 - Y0)*((X2 - X0)*(Z3 - Z0) - (Z2 - Z0)*(X3 - X0))+(Z1 - Z0)*((X2 - X0)*(Y3 - Y0) - (Y2 - Y0)*(X3 - X0))=A at *
 generalize dm4 r0 x0 y0 1 r1 x1 y1 1 r2 x2 y2 1 r3 x3 y3 1=B at *
 generalize n0*n1*(n2*n3)=m at *
 clear e0 e1 e2 e3 a0 a1 a2 a3 b0 b1 b2 b3 c0 c1 c2 c3 k0 k1 k2 k3
 constructor
 ·intro k
  rw [k] at h; grind
 ·intro k
  rw [k] at h
  have : A*m=0 := by grind
  exact (Rat.mul_eq_zero.1 this).resolve_right hn
structure QAct (w x y z n u1 u2 u3 x1 x2 x3 : Rat) : Prop where
 hn : n ≠ 0
 en : n=w*w+x*x+y*y+z*z
 e1 : x1*n=(w*w+x*x - y*y - z*z)*u1+2*(x*y - w*z)*u2+2*(x*z+w*y)*u3
 e2 : x2*n=2*(x*y+w*z)*u1+(w*w - x*x+y*y - z*z)*u2+2*(y*z - w*x)*u3
 e3 : x3*n=2*(x*z - w*y)*u1+2*(y*z+w*x)*u2+(w*w - x*x - y*y+z*z)*u3
theorem QTab.ex {w x y z n : Rat} (hn : n ≠ 0) (en : n=w*w+x*x+y*y+z*z) : ∃ a b c d e f g h i,QTab w x y z n a b c d e f g h i := by
 have k : ∀ t : Rat,t / n*n=t := fun t => Rat.div_mul_cancel hn
 exact ⟨_,_,_,_,_,_,_,_,_,hn,en,k _,k _,k _,k _,k _,k _,k _,k _,k _⟩
theorem QAct.tab {w x y z n u1 u2 u3 x1 x2 x3 a b c d e f g h i : Rat} (A : QAct w x y z n u1 u2 u3 x1 x2 x3) (Q : QTab w x y z n a b c d e f g h i) : x1=a*u1+b*u2+c*u3∧x2=d*u1+e*u2+f*u3∧x3=g*u1+h*u2+i*u3 := by
 obtain ⟨hn,_,e1,e2,e3⟩ := A
 obtain ⟨_,_,ha,hb,hc,hd,he,hf,hg,hh,hi⟩ := Q
 refine ⟨Qb hn ?_,Qb hn ?_,Qb hn ?_⟩
 ·rw [e1,← ha,← hb,← hc]; grind
 ·rw [e2,← hd,← he,← hf]; grind
 ·rw [e3,← hg,← hh,← hi]; grind
theorem QAct.dot {w x y z n u1 u2 u3 x1 x2 x3 v1 v2 v3 y1 y2 y3 : Rat} (A : QAct w x y z n u1 u2 u3 x1 x2 x3) (B : QAct w x y z n v1 v2 v3 y1 y2 y3) : x1*y1+x2*y2+x3*y3=u1*v1+u2*v2+u3*v3 := by
 obtain ⟨a,b,c,d,e,f,g,h,i,Q⟩ := QTab.ex A.hn A.en
 obtain ⟨p1,p2,p3⟩ := A.tab Q
 obtain ⟨q1,q2,q3⟩ := B.tab Q
 obtain ⟨⟨c1,c2,c3⟩,⟨c4,c5,c6⟩⟩ := Q.cols
 clear A B Q
 subst p1 p2 p3 q1 q2 q3
 have : (a*u1+b*u2+c*u3)*(a*v1+b*v2+c*v3)+(d*u1+e*u2+f*u3)*(d*v1+e*v2+f*v3)+(g*u1+h*u2+i*u3)*(g*v1+h*v2+i*v3)=(a*a+d*d+g*g)*(u1*v1)+(b*b+e*e+h*h)*(u2*v2)+(c*c+f*f+i*i)*(u3*v3)+(a*b+d*e+g*h)*(u1*v2+u2*v1)+(a*c+d*f+g*i)*(u1*v3+u3*v1)+(b*c+e*f+h*i)*(u2*v3+u3*v2) := by clear c1 c2 c3 c4 c5 c6; grind
 rw [this,c1,c2,c3,c4,c5,c6]; clear this c1 c2 c3 c4 c5 c6; grind
theorem QAct.cross {w x y z n u1 u2 u3 x1 x2 x3 v1 v2 v3 y1 y2 y3 k1 k2 k3 z1 z2 z3 : Rat} (A : QAct w x y z n u1 u2 u3 x1 x2 x3) (B : QAct w x y z n v1 v2 v3 y1 y2 y3) (C : QAct w x y z n k1 k2 k3 z1 z2 z3) (h1 : k1=u2*v3 - u3*v2) (h2 : k2=u3*v1 - u1*v3) (h3 : k3=u1*v2 - u2*v1) : z1=x2*y3 - x3*y2∧z2=x3*y1 - x1*y3∧z3=x1*y2 - x2*y1 := by
 obtain ⟨a,b,c,d,e,f,g,h,i,Q⟩ := QTab.ex A.hn A.en
 obtain ⟨p1,p2,p3⟩ := A.tab Q
 obtain ⟨q1,q2,q3⟩ := B.tab Q
 obtain ⟨r1,r2,r3⟩ := C.tab Q
 obtain ⟨⟨c1,c2,c3⟩,⟨c4,c5,c6⟩,⟨c7,c8,c9⟩⟩ := Q.cof
 clear A B C Q
 subst p1 p2 p3 q1 q2 q3 r1 r2 r3 h1 h2 h3
 refine ⟨?_,?_,?_⟩
 ·have : (d*u1+e*u2+f*u3)*(g*v1+h*v2+i*v3) - (g*u1+h*u2+i*u3)*(d*v1+e*v2+f*v3)=(e*i - f*h)*(u2*v3 - u3*v2)+(f*g - d*i)*(u3*v1 - u1*v3)+(d*h - e*g)*(u1*v2 - u2*v1) := by clear c1 c2 c3 c4 c5 c6 c7 c8 c9; grind
  rw [this,c1,c2,c3]
 ·have : (g*u1+h*u2+i*u3)*(a*v1+b*v2+c*v3) - (a*u1+b*u2+c*u3)*(g*v1+h*v2+i*v3)=(h*c - i*b)*(u2*v3 - u3*v2)+(i*a - g*c)*(u3*v1 - u1*v3)+(g*b - h*a)*(u1*v2 - u2*v1) := by clear c1 c2 c3 c4 c5 c6 c7 c8 c9; grind
  rw [this,c4,c5,c6]
 ·have : (a*u1+b*u2+c*u3)*(d*v1+e*v2+f*v3) - (d*u1+e*u2+f*u3)*(a*v1+b*v2+c*v3)=(b*f - c*e)*(u2*v3 - u3*v2)+(c*d - a*f)*(u3*v1 - u1*v3)+(a*e - b*d)*(u1*v2 - u2*v1) := by clear c1 c2 c3 c4 c5 c6 c7 c8 c9; grind
  rw [this,c7,c8,c9]
theorem QAct.comp {w x y z n u1 u2 u3 x1 x2 x3 W X Y Z N y1 y2 y3 p q r s m t1 t2 t3 : Rat} (A : QAct w x y z n u1 u2 u3 x1 x2 x3) (B : QAct W X Y Z N x1 x2 x3 y1 y2 y3) (C : QAct p q r s m u1 u2 u3 t1 t2 t3) (ep : p=W*w - X*x - Y*y - Z*z) (eq : q=W*x+X*w+Y*z - Z*y) (er : r=W*y - X*z+Y*w+Z*x) (es : s=W*z+X*y - Y*x+Z*w) : y1=t1∧y2=t2∧y3=t3 := by
 obtain ⟨a,b,c,d,e,f,g,h,i,Q⟩ := QTab.ex A.hn A.en
 obtain ⟨a1,b1,c1,d1,e1,f1,g1,h1,i1,R⟩ := QTab.ex B.hn B.en
 obtain ⟨a2,b2,c2,d2,e2,f2,g2,h2,i2,S⟩ := QTab.ex C.hn C.en
 obtain ⟨⟨k1,k2,k3⟩,⟨k4,k5,k6⟩,⟨k7,k8,k9⟩⟩ := QTab.comp Q R S ep eq er es
 obtain ⟨p1,p2,p3⟩ := A.tab Q
 obtain ⟨q1,q2,q3⟩ := B.tab R
 obtain ⟨r1,r2,r3⟩ := C.tab S
 clear A B C Q R S ep eq er es
 subst k1 k2 k3 k4 k5 k6 k7 k8 k9 q1 q2 q3 r1 r2 r3 p1 p2 p3
 refine ⟨?_,?_,?_⟩ <;> grind
theorem Is {w x y z W X Y Z p q r s : Rat} (ep : p=W*w - X*x - Y*y - Z*z) (eq : q=W*x+X*w+Y*z - Z*y) (er : r=W*y - X*z+Y*w+Z*x) (es : s=W*z+X*y - Y*x+Z*w) : p*p+q*q+r*r+s*s=(W*W+X*X+Y*Y+Z*Z)*(w*w+x*x+y*y+z*z) := by
 subst ep eq er es; grind
theorem QTab.own {w x y z n a b c d e f g h i : Rat} (Q : QTab w x y z n a b c d e f g h i) : a*x+b*y+c*z=x∧d*x+e*y+f*z=y∧g*x+h*y+i*z=z := by
 obtain ⟨hn,en,ha,hb,hc,hd,he,hf,hg,hh,hi⟩ := Q
 refine ⟨Qb hn ?_,Qb hn ?_,Qb hn ?_⟩
 ·have : (a*x+b*y+c*z)*n=(a*n)*x+(b*n)*y+(c*n)*z := by grind
  rw [this,ha,hb,hc,en]; clear this ha hb hc hd he hf hg hh hi hn en; grind
 ·have : (d*x+e*y+f*z)*n=(d*n)*x+(e*n)*y+(f*n)*z := by grind
  rw [this,hd,he,hf,en]; clear this ha hb hc hd he hf hg hh hi hn en; grind
 ·have : (g*x+h*y+i*z)*n=(g*n)*x+(h*n)*y+(i*n)*z := by grind
  rw [this,hg,hh,hi,en]; clear this ha hb hc hd he hf hg hh hi hn en; grind
theorem QTab.det {w x y z n a b c d e f g h i : Rat} (Q : QTab w x y z n a b c d e f g h i) : 0 < a*(e*i - f*h)+b*(f*g - d*i)+c*(d*h - e*g) := by
 obtain ⟨⟨c1,c2,c3⟩,_⟩ := Q.cof
 obtain ⟨⟨r,_⟩,_⟩ := Q.rows
 rw [c1,c2,c3,r]; decide
theorem Ji (x y : Rat) : 0 < x*x+y*y+1 := by
 have a := QJ x
 have b := QJ y
 grind
theorem Jz {x y r n X Y Z : Rat} (er : r=x*x+y*y) (en : n=r+1) (a : X*n=2*x) (b : Y*n=2*y) (c : Z*n=r - 1) : n ≠ 0∧X*X+Y*Y+Z*Z=1∧1 - Z ≠ 0∧X=x*(1 - Z)∧Y=y*(1 - Z) := by
 have hn : n ≠ 0 := by
  have := Ji x y
  rw [en,er]; grind
 have k : (1 - Z)*n=2 := by
  have : (1 - Z)*n=n - Z*n := by grind
  rw [this,c,en]; grind
 refine ⟨hn,Qb (ZH hn hn) ?_,?_,Qb hn ?_,Qb hn ?_⟩
 ·have : (X*X+Y*Y+Z*Z)*(n*n)=(X*n)*(X*n)+(Y*n)*(Y*n)+(Z*n)*(Z*n) := by grind
  rw [this,a,b,c,en,er]; clear this a b c en er k hn; grind
 ·intro h
  rw [h,Rat.zero_mul] at k; exact absurd k (by decide)
 ·have : x*(1 - Z)*n=x*((1 - Z)*n) := by grind
  rw [this,k,a]; grind
 ·have : y*(1 - Z)*n=y*((1 - Z)*n) := by grind
  rw [this,k,b]; grind
theorem Jr (H : Yh q σ) : (q 5=q 0*q 0+q 1*q 1) := by
 have e3:q 3=q 0*q 0:=H 3 _ rfl;have e4:q 4=q 1*q 1:=H 4 _ rfl;have e5:q 5=q 3+q 4:=H 5 _ rfl
 clear H
 subst_vars; grind
theorem Jf (H : Yh q σ) : (q 10=q 5+1) := by
 have e8:q 8=1:=(H 8 _ rfl).trans Vc;have e10:q 10=q 5+q 8:=H 10 _ rfl
 clear H
 subst_vars; grind
theorem Xk (_H : Yh q σ) : (q 5=q 0*q 0+q 1*q 1)→(q 10=q 5+1)→(q 10 ≠ 0) := by
 intro a b
 have p := Ji (q 0) (q 1)
 rw [b,a]; grind
theorem KH (H : Yh q σ) : (q 10 ≠ 0)→(q 11*q 10=2*q 0) := by
 have e2:q 2=2:=(H 2 _ rfl).trans PJ;have e6:q 6=q 0*q 2:=H 6 _ rfl;have e11:q 11=q 6/q 10:=H 11 _ rfl
 clear H
 intro h
 rw [e11]; refine (Rat.div_mul_cancel h).trans ?_; clear h e11; subst_vars; grind
theorem Kq (H : Yh q σ) : (q 10 ≠ 0)→(q 12*q 10=2*q 1) := by
 have e2:q 2=2:=(H 2 _ rfl).trans PJ;have e7:q 7=q 1*q 2:=H 7 _ rfl;have e12:q 12=q 7/q 10:=H 12 _ rfl
 clear H
 intro h
 rw [e12]; refine (Rat.div_mul_cancel h).trans ?_; clear h e12; subst_vars; grind
theorem KK (H : Yh q σ) : (q 10 ≠ 0)→(q 13*q 10=q 5-1) := by
 have e8:q 8=1:=(H 8 _ rfl).trans Vc;have e9:q 9=q 5-q 8:=H 9 _ rfl;have e13:q 13=q 9/q 10:=H 13 _ rfl
 clear H
 intro h
 rw [e13]; refine (Rat.div_mul_cancel h).trans ?_; clear h e13; subst_vars; grind
theorem Jq (H : Yh q σ) : (q 34=q 30*q 30+q 31*q 31) := by
 have e32:q 32=q 30*q 30:=H 32 _ rfl;have e33:q 33=q 31*q 31:=H 33 _ rfl;have e34:q 34=q 32+q 33:=H 34 _ rfl
 clear H
 subst_vars; grind
theorem Jg (H : Yh q σ) : (q 38=q 34+1) := by
 have e8:q 8=1:=(H 8 _ rfl).trans Vc;have e38:q 38=q 34+q 8:=H 38 _ rfl
 clear H
 subst_vars; grind
theorem Xm (_H : Yh q σ) : (q 34=q 30*q 30+q 31*q 31)→(q 38=q 34+1)→(q 38 ≠ 0) := by
 intro a b
 have p := Ji (q 30) (q 31)
 rw [b,a]; grind
theorem Ks (H : Yh q σ) : (q 38 ≠ 0)→(q 39*q 38=2*q 30) := by
 have e2:q 2=2:=(H 2 _ rfl).trans PJ;have e35:q 35=q 30*q 2:=H 35 _ rfl;have e39:q 39=q 35/q 38:=H 39 _ rfl
 clear H
 intro h
 rw [e39]; refine (Rat.div_mul_cancel h).trans ?_; clear h e39; subst_vars; grind
theorem KT (H : Yh q σ) : (q 38 ≠ 0)→(q 40*q 38=2*q 31) := by
 have e2:q 2=2:=(H 2 _ rfl).trans PJ;have e36:q 36=q 31*q 2:=H 36 _ rfl;have e40:q 40=q 36/q 38:=H 40 _ rfl
 clear H
 intro h
 rw [e40]; refine (Rat.div_mul_cancel h).trans ?_; clear h e40; subst_vars; grind
theorem KJ (H : Yh q σ) : (q 38 ≠ 0)→(q 41*q 38=q 34-1) := by
 have e8:q 8=1:=(H 8 _ rfl).trans Vc;have e37:q 37=q 34-q 8:=H 37 _ rfl;have e41:q 41=q 37/q 38:=H 41 _ rfl
 clear H
 intro h
 rw [e41]; refine (Rat.div_mul_cancel h).trans ?_; clear h e41; subst_vars; grind
theorem Js (H : Yh q σ) : (q 61=q 57*q 57+q 58*q 58) := by
 have e59:q 59=q 57*q 57:=H 59 _ rfl;have e60:q 60=q 58*q 58:=H 60 _ rfl;have e61:q 61=q 59+q 60:=H 61 _ rfl
 clear H
 subst_vars; grind
theorem Jh (H : Yh q σ) : (q 65=q 61+1) := by
 have e8:q 8=1:=(H 8 _ rfl).trans Vc;have e65:q 65=q 61+q 8:=H 65 _ rfl
 clear H
 subst_vars; grind
theorem Xl (_H : Yh q σ) : (q 61=q 57*q 57+q 58*q 58)→(q 65=q 61+1)→(q 65 ≠ 0) := by
 intro a b
 have p := Ji (q 57) (q 58)
 rw [b,a]; grind
theorem KQ (H : Yh q σ) : (q 65 ≠ 0)→(q 66*q 65=2*q 57) := by
 have e2:q 2=2:=(H 2 _ rfl).trans PJ;have e62:q 62=q 57*q 2:=H 62 _ rfl;have e66:q 66=q 62/q 65:=H 66 _ rfl
 clear H
 intro h
 rw [e66]; refine (Rat.div_mul_cancel h).trans ?_; clear h e66; subst_vars; grind
theorem KO (H : Yh q σ) : (q 65 ≠ 0)→(q 67*q 65=2*q 58) := by
 have e2:q 2=2:=(H 2 _ rfl).trans PJ;have e63:q 63=q 58*q 2:=H 63 _ rfl;have e67:q 67=q 63/q 65:=H 67 _ rfl
 clear H
 intro h
 rw [e67]; refine (Rat.div_mul_cancel h).trans ?_; clear h e67; subst_vars; grind
theorem Ky (H : Yh q σ) : (q 65 ≠ 0)→(q 68*q 65=q 61-1) := by
 have e8:q 8=1:=(H 8 _ rfl).trans Vc;have e64:q 64=q 61-q 8:=H 64 _ rfl;have e68:q 68=q 64/q 65:=H 68 _ rfl
 clear H
 intro h
 rw [e68]; refine (Rat.div_mul_cancel h).trans ?_; clear h e68; subst_vars; grind
theorem Jt (H : Yh q σ) : (q 88=q 84*q 84+q 85*q 85) := by
 have e86:q 86=q 84*q 84:=H 86 _ rfl;have e87:q 87=q 85*q 85:=H 87 _ rfl;have e88:q 88=q 86+q 87:=H 88 _ rfl
 clear H
 subst_vars; grind
theorem Je (H : Yh q σ) : (q 92=q 88+1) := by
 have e8:q 8=1:=(H 8 _ rfl).trans Vc;have e92:q 92=q 88+q 8:=H 92 _ rfl
 clear H
 subst_vars; grind
theorem Xo (_H : Yh q σ) : (q 88=q 84*q 84+q 85*q 85)→(q 92=q 88+1)→(q 92 ≠ 0) := by
 intro a b
 have p := Ji (q 84) (q 85)
 rw [b,a]; grind
theorem Kv (H : Yh q σ) : (q 92 ≠ 0)→(q 93*q 92=2*q 84) := by
 have e2:q 2=2:=(H 2 _ rfl).trans PJ;have e89:q 89=q 84*q 2:=H 89 _ rfl;have e93:q 93=q 89/q 92:=H 93 _ rfl
 clear H
 intro h
 rw [e93]; refine (Rat.div_mul_cancel h).trans ?_; clear h e93; subst_vars; grind
theorem KL (H : Yh q σ) : (q 92 ≠ 0)→(q 94*q 92=2*q 85) := by
 have e2:q 2=2:=(H 2 _ rfl).trans PJ;have e90:q 90=q 85*q 2:=H 90 _ rfl;have e94:q 94=q 90/q 92:=H 94 _ rfl
 clear H
 intro h
 rw [e94]; refine (Rat.div_mul_cancel h).trans ?_; clear h e94; subst_vars; grind
theorem KE (H : Yh q σ) : (q 92 ≠ 0)→(q 95*q 92=q 88-1) := by
 have e8:q 8=1:=(H 8 _ rfl).trans Vc;have e91:q 91=q 88-q 8:=H 91 _ rfl;have e95:q 95=q 91/q 92:=H 95 _ rfl
 clear H
 intro h
 rw [e95]; refine (Rat.div_mul_cancel h).trans ?_; clear h e95; subst_vars; grind
theorem qC_pk21 (H : Yh q σ) : (q 11*q 11+q 12*q 12+q 13*q 13=1)→(q 21=0) := by
 have e8:q 8=1:=(H 8 _ rfl).trans Vc;have e14:q 14=q 11*q 11:=H 14 _ rfl;have e15:q 15=0:=(H 15 _ rfl).trans DQ;have e16:q 16=q 15+q 14:=H 16 _ rfl;have e17:q 17=q 12*q 12:=H 17 _ rfl;have e18:q 18=q 16+q 17:=H 18 _ rfl;have e19:q 19=q 13*q 13:=H 19 _ rfl;have e20:q 20=q 18+q 19:=H 20 _ rfl;have e21:q 21=q 20-q 8:=H 21 _ rfl
 clear H
 intro h
 subst_vars; grind
theorem qC_pk22 (H : Yh q σ) : (1-q 13 ≠ 0)→(¬ (q 22=0)) := by
 have e8:q 8=1:=(H 8 _ rfl).trans Vc;have e22:q 22=q 8-q 13:=H 22 _ rfl
 clear H
 intro h
 intro k; apply h
 subst_vars; grind
theorem qC_pk29 (H : Yh q σ) : (1-q 13 ≠ 0)→(q 11=q 0*(1-q 13))→(q 12=q 1*(1-q 13))→(q 29=0) := by
 have e8:q 8=1:=(H 8 _ rfl).trans Vc;have e22:q 22=q 8-q 13:=H 22 _ rfl;have e23:q 23=q 11/q 22:=H 23 _ rfl;have e24:q 24=q 12/q 22:=H 24 _ rfl;have e25:q 25=q 23-q 0:=H 25 _ rfl;have e26:q 26=q 24-q 1:=H 26 _ rfl;have e27:q 27=q 25*q 25:=H 27 _ rfl;have e28:q 28=q 26*q 26:=H 28 _ rfl;have e29:q 29=q 27+q 28:=H 29 _ rfl
 clear H
 intro h a b
 have g : q 22=1 - q 13 := by clear h a b; subst_vars; grind
 rw [← g] at h a b
 have d23 : q 23*q 22=q 11 := by rw [e23]; exact Rat.div_mul_cancel h
 have d24 : q 24*q 22=q 12 := by rw [e24]; exact Rat.div_mul_cancel h
 have f23 : q 23=q 0 := Qb h (d23.trans a)
 have f24 : q 24=q 1 := Qb h (d24.trans b)
 clear d23 d24 a b h g e23 e24
 subst_vars; grind
theorem qC_pk48 (H : Yh q σ) : (q 39*q 39+q 40*q 40+q 41*q 41=1)→(q 48=0) := by
 have e8:q 8=1:=(H 8 _ rfl).trans Vc;have e15:q 15=0:=(H 15 _ rfl).trans DQ;have e42:q 42=q 39*q 39:=H 42 _ rfl;have e43:q 43=q 15+q 42:=H 43 _ rfl;have e44:q 44=q 40*q 40:=H 44 _ rfl;have e45:q 45=q 43+q 44:=H 45 _ rfl;have e46:q 46=q 41*q 41:=H 46 _ rfl;have e47:q 47=q 45+q 46:=H 47 _ rfl;have e48:q 48=q 47-q 8:=H 48 _ rfl
 clear H
 intro h
 subst_vars; grind
theorem qC_pk49 (H : Yh q σ) : (1-q 41 ≠ 0)→(¬ (q 49=0)) := by
 have e8:q 8=1:=(H 8 _ rfl).trans Vc;have e49:q 49=q 8-q 41:=H 49 _ rfl
 clear H
 intro h
 intro k; apply h
 subst_vars; grind
theorem qC_pk56 (H : Yh q σ) : (1-q 41 ≠ 0)→(q 39=q 30*(1-q 41))→(q 40=q 31*(1-q 41))→(q 56=0) := by
 have e8:q 8=1:=(H 8 _ rfl).trans Vc;have e49:q 49=q 8-q 41:=H 49 _ rfl;have e50:q 50=q 39/q 49:=H 50 _ rfl;have e51:q 51=q 40/q 49:=H 51 _ rfl;have e52:q 52=q 50-q 30:=H 52 _ rfl;have e53:q 53=q 51-q 31:=H 53 _ rfl;have e54:q 54=q 52*q 52:=H 54 _ rfl;have e55:q 55=q 53*q 53:=H 55 _ rfl;have e56:q 56=q 54+q 55:=H 56 _ rfl
 clear H
 intro h a b
 have g : q 49=1 - q 41 := by clear h a b; subst_vars; grind
 rw [← g] at h a b
 have d50 : q 50*q 49=q 39 := by rw [e50]; exact Rat.div_mul_cancel h
 have d51 : q 51*q 49=q 40 := by rw [e51]; exact Rat.div_mul_cancel h
 have f50 : q 50=q 30 := Qb h (d50.trans a)
 have f51 : q 51=q 31 := Qb h (d51.trans b)
 clear d50 d51 a b h g e50 e51
 subst_vars; grind
theorem qC_pk75 (H : Yh q σ) : (q 66*q 66+q 67*q 67+q 68*q 68=1)→(q 75=0) := by
 have e8:q 8=1:=(H 8 _ rfl).trans Vc;have e15:q 15=0:=(H 15 _ rfl).trans DQ;have e69:q 69=q 66*q 66:=H 69 _ rfl;have e70:q 70=q 15+q 69:=H 70 _ rfl;have e71:q 71=q 67*q 67:=H 71 _ rfl;have e72:q 72=q 70+q 71:=H 72 _ rfl;have e73:q 73=q 68*q 68:=H 73 _ rfl;have e74:q 74=q 72+q 73:=H 74 _ rfl;have e75:q 75=q 74-q 8:=H 75 _ rfl
 clear H
 intro h
 subst_vars; grind
theorem qC_pk76 (H : Yh q σ) : (1-q 68 ≠ 0)→(¬ (q 76=0)) := by
 have e8:q 8=1:=(H 8 _ rfl).trans Vc;have e76:q 76=q 8-q 68:=H 76 _ rfl
 clear H
 intro h
 intro k; apply h
 subst_vars; grind
theorem qC_pk83 (H : Yh q σ) : (1-q 68 ≠ 0)→(q 66=q 57*(1-q 68))→(q 67=q 58*(1-q 68))→(q 83=0) := by
 have e8:q 8=1:=(H 8 _ rfl).trans Vc;have e76:q 76=q 8-q 68:=H 76 _ rfl;have e77:q 77=q 66/q 76:=H 77 _ rfl;have e78:q 78=q 67/q 76:=H 78 _ rfl;have e79:q 79=q 77-q 57:=H 79 _ rfl;have e80:q 80=q 78-q 58:=H 80 _ rfl;have e81:q 81=q 79*q 79:=H 81 _ rfl;have e82:q 82=q 80*q 80:=H 82 _ rfl;have e83:q 83=q 81+q 82:=H 83 _ rfl
 clear H
 intro h a b
 have g : q 76=1 - q 68 := by clear h a b; subst_vars; grind
 rw [← g] at h a b
 have d77 : q 77*q 76=q 66 := by rw [e77]; exact Rat.div_mul_cancel h
 have d78 : q 78*q 76=q 67 := by rw [e78]; exact Rat.div_mul_cancel h
 have f77 : q 77=q 57 := Qb h (d77.trans a)
 have f78 : q 78=q 58 := Qb h (d78.trans b)
 clear d77 d78 a b h g e77 e78
 subst_vars; grind
theorem qC_pk102 (H : Yh q σ) : (q 93*q 93+q 94*q 94+q 95*q 95=1)→(q 102=0) := by
 have e8:q 8=1:=(H 8 _ rfl).trans Vc;have e15:q 15=0:=(H 15 _ rfl).trans DQ;have e96:q 96=q 93*q 93:=H 96 _ rfl;have e97:q 97=q 15+q 96:=H 97 _ rfl;have e98:q 98=q 94*q 94:=H 98 _ rfl;have e99:q 99=q 97+q 98:=H 99 _ rfl;have e100:q 100=q 95*q 95:=H 100 _ rfl;have e101:q 101=q 99+q 100:=H 101 _ rfl;have e102:q 102=q 101-q 8:=H 102 _ rfl
 clear H
 intro h
 subst_vars; grind
theorem qC_pk103 (H : Yh q σ) : (1-q 95 ≠ 0)→(¬ (q 103=0)) := by
 have e8:q 8=1:=(H 8 _ rfl).trans Vc;have e103:q 103=q 8-q 95:=H 103 _ rfl
 clear H
 intro h
 intro k; apply h
 subst_vars; grind
theorem qC_pk110 (H : Yh q σ) : (1-q 95 ≠ 0)→(q 93=q 84*(1-q 95))→(q 94=q 85*(1-q 95))→(q 110=0) := by
 have e8:q 8=1:=(H 8 _ rfl).trans Vc;have e103:q 103=q 8-q 95:=H 103 _ rfl;have e104:q 104=q 93/q 103:=H 104 _ rfl;have e105:q 105=q 94/q 103:=H 105 _ rfl;have e106:q 106=q 104-q 84:=H 106 _ rfl;have e107:q 107=q 105-q 85:=H 107 _ rfl;have e108:q 108=q 106*q 106:=H 108 _ rfl;have e109:q 109=q 107*q 107:=H 109 _ rfl;have e110:q 110=q 108+q 109:=H 110 _ rfl
 clear H
 intro h a b
 have g : q 103=1 - q 95 := by clear h a b; subst_vars; grind
 rw [← g] at h a b
 have d104 : q 104*q 103=q 93 := by rw [e104]; exact Rat.div_mul_cancel h
 have d105 : q 105*q 103=q 94 := by rw [e105]; exact Rat.div_mul_cancel h
 have f104 : q 104=q 84 := Qb h (d104.trans a)
 have f105 : q 105=q 85 := Qb h (d105.trans b)
 clear d104 d105 a b h g e104 e105
 subst_vars; grind
theorem qC_pFD (H : Yh q σ) : (q 134=(q 39-q 11)*((q 67-q 12)*(q 95-q 13)-(q 68-q 13)*(q 94-q 12))-(q 40-q 12)*((q 66-q 11)*(q 95-q 13)-(q 68-q 13)*(q 93-q 11))+(q 41-q 13)*((q 66-q 11)*(q 94-q 12)-(q 67-q 12)*(q 93-q 11))) :=
 pol H [] 8 134 (.A (.S (.M (.S (.v 39) (.v 11)) (.S (.M (.S (.v 67) (.v 12)) (.S (.v 95) (.v 13))) (.M (.S (.v 68) (.v 13)) (.S (.v 94) (.v 12))))) (.M (.S (.v 40) (.v 12)) (.S (.M (.S (.v 66) (.v 11)) (.S (.v 95) (.v 13))) (.M (.S (.v 68) (.v 13)) (.S (.v 93) (.v 11)))))) (.M (.S (.v 41) (.v 13)) (.S (.M (.S (.v 66) (.v 11)) (.S (.v 94) (.v 12))) (.M (.S (.v 67) (.v 12)) (.S (.v 93) (.v 11)))))) (by kernel_rfl)
theorem qC_pCDz {z0 z1 z5 z8 z15 z30 z31 z34 z57 z58 z61 z84 z85 z88 z135 z136 z137 z138 z139 z140 z141 z142 z143 z144 z145 z146 z147 z148 z149 z150 z151 z152 z153 z154 z155 z156 z157 z158 z159 z160 z161 z162 z163 z164 z165 z166 z167 z168 z169 z170 z171 z172 z173 z174 z175 z176 z177 z178 z179 z180 z181 z182 z183 z184 z185 z186 z187 z188 z189 z190 z191 z192 z193 z194 z195 z196 z197 z198 z199 z200 z201 z202 : Rat} : z8=1→z15=0→z135=z58*z8→z136=z15+z135→z137=z8*z85→z138=-z137→z139=z136+z138→z140=z30*z139→z141=z15+z140→z142=z57*z8→z143=z15+z142→z144=z8*z84→z145=-z144→z146=z143+z145→z147=z31*z146→z148=-z147→z149=z141+z148→z150=z57*z85→z151=z15+z150→z152=z58*z84→z153=-z152→z154=z151+z153→z155=z8*z154→z156=z149+z155→z157=z5*z156→z158=z15+z157→z159=z34*z139→z160=z15+z159→z161=z61*z8→z162=z15+z161→z163=z8*z88→z164=-z163→z165=z162+z164→z166=z31*z165→z167=-z166→z168=z160+z167→z169=z61*z85→z170=z15+z169→z171=z58*z88→z172=-z171→z173=z170+z172→z174=z8*z173→z175=z168+z174→z176=z0*z175→z177=-z176→z178=z158+z177→z179=z34*z146→z180=z15+z179→z181=z30*z165→z182=-z181→z183=z180+z182→z184=z61*z84→z185=z15+z184→z186=z57*z88→z187=-z186→z188=z185+z187→z189=z8*z188→z190=z183+z189→z191=z1*z190→z192=z178+z191→z193=z34*z154→z194=z15+z193→z195=z30*z173→z196=-z195→z197=z194+z196→z198=z31*z188→z199=z197+z198→z200=z8*z199→z201=-z200→z202=z192+z201→(z202=dm4 z5 z0 z1 1 z34 z30 z31 1 z61 z57 z58 1 z88 z84 z85 1) := by
 intro e8 e15 e135 e136 e137 e138 e139 e140 e141 e142 e143 e144 e145 e146 e147 e148 e149 e150 e151 e152 e153 e154 e155 e156 e157 e158 e159 e160 e161 e162 e163 e164 e165 e166 e167 e168 e169 e170 e171 e172 e173 e174 e175 e176 e177 e178 e179 e180 e181 e182 e183 e184 e185 e186 e187 e188 e189 e190 e191 e192 e193 e194 e195 e196 e197 e198 e199 e200 e201 e202
 simp only [dm4]; subst_vars; grind
theorem qC_pCD (H : Yh q σ) : (q 202=dm4 (q 5) (q 0) (q 1) 1 (q 34) (q 30) (q 31) 1 (q 61) (q 57) (q 58) 1 (q 88) (q 84) (q 85) 1) := by
 have e8:q 8=1:=(H 8 _ rfl).trans Vc;have e15:q 15=0:=(H 15 _ rfl).trans DQ;have e135:q 135=q 58*q 8:=H 135 _ rfl;have e136:q 136=q 15+q 135:=H 136 _ rfl;have e137:q 137=q 8*q 85:=H 137 _ rfl;have e138:q 138=-q 137:=H 138 _ rfl;have e139:q 139=q 136+q 138:=H 139 _ rfl;have e140:q 140=q 30*q 139:=H 140 _ rfl;have e141:q 141=q 15+q 140:=H 141 _ rfl;have e142:q 142=q 57*q 8:=H 142 _ rfl;have e143:q 143=q 15+q 142:=H 143 _ rfl;have e144:q 144=q 8*q 84:=H 144 _ rfl;have e145:q 145=-q 144:=H 145 _ rfl;have e146:q 146=q 143+q 145:=H 146 _ rfl;have e147:q 147=q 31*q 146:=H 147 _ rfl;have e148:q 148=-q 147:=H 148 _ rfl;have e149:q 149=q 141+q 148:=H 149 _ rfl;have e150:q 150=q 57*q 85:=H 150 _ rfl;have e151:q 151=q 15+q 150:=H 151 _ rfl;have e152:q 152=q 58*q 84:=H 152 _ rfl;have e153:q 153=-q 152:=H 153 _ rfl;have e154:q 154=q 151+q 153:=H 154 _ rfl;have e155:q 155=q 8*q 154:=H 155 _ rfl;have e156:q 156=q 149+q 155:=H 156 _ rfl;have e157:q 157=q 5*q 156:=H 157 _ rfl;have e158:q 158=q 15+q 157:=H 158 _ rfl;have e159:q 159=q 34*q 139:=H 159 _ rfl;have e160:q 160=q 15+q 159:=H 160 _ rfl;have e161:q 161=q 61*q 8:=H 161 _ rfl;have e162:q 162=q 15+q 161:=H 162 _ rfl;have e163:q 163=q 8*q 88:=H 163 _ rfl;have e164:q 164=-q 163:=H 164 _ rfl;have e165:q 165=q 162+q 164:=H 165 _ rfl;have e166:q 166=q 31*q 165:=H 166 _ rfl;have e167:q 167=-q 166:=H 167 _ rfl;have e168:q 168=q 160+q 167:=H 168 _ rfl;have e169:q 169=q 61*q 85:=H 169 _ rfl;have e170:q 170=q 15+q 169:=H 170 _ rfl;have e171:q 171=q 58*q 88:=H 171 _ rfl;have e172:q 172=-q 171:=H 172 _ rfl;have e173:q 173=q 170+q 172:=H 173 _ rfl;have e174:q 174=q 8*q 173:=H 174 _ rfl;have e175:q 175=q 168+q 174:=H 175 _ rfl;have e176:q 176=q 0*q 175:=H 176 _ rfl;have e177:q 177=-q 176:=H 177 _ rfl;have e178:q 178=q 158+q 177:=H 178 _ rfl;have e179:q 179=q 34*q 146:=H 179 _ rfl;have e180:q 180=q 15+q 179:=H 180 _ rfl;have e181:q 181=q 30*q 165:=H 181 _ rfl;have e182:q 182=-q 181:=H 182 _ rfl;have e183:q 183=q 180+q 182:=H 183 _ rfl;have e184:q 184=q 61*q 84:=H 184 _ rfl;have e185:q 185=q 15+q 184:=H 185 _ rfl;have e186:q 186=q 57*q 88:=H 186 _ rfl;have e187:q 187=-q 186:=H 187 _ rfl;have e188:q 188=q 185+q 187:=H 188 _ rfl;have e189:q 189=q 8*q 188:=H 189 _ rfl;have e190:q 190=q 183+q 189:=H 190 _ rfl;have e191:q 191=q 1*q 190:=H 191 _ rfl;have e192:q 192=q 178+q 191:=H 192 _ rfl;have e193:q 193=q 34*q 154:=H 193 _ rfl;have e194:q 194=q 15+q 193:=H 194 _ rfl;have e195:q 195=q 30*q 173:=H 195 _ rfl;have e196:q 196=-q 195:=H 196 _ rfl;have e197:q 197=q 194+q 196:=H 197 _ rfl;have e198:q 198=q 31*q 188:=H 198 _ rfl;have e199:q 199=q 197+q 198:=H 199 _ rfl;have e200:q 200=q 8*q 199:=H 200 _ rfl;have e201:q 201=-q 200:=H 201 _ rfl;have e202:q 202=q 192+q 201:=H 202 _ rfl
 exact qC_pCDz e8 e15 e135 e136 e137 e138 e139 e140 e141 e142 e143 e144 e145 e146 e147 e148 e149 e150 e151 e152 e153 e154 e155 e156 e157 e158 e159 e160 e161 e162 e163 e164 e165 e166 e167 e168 e169 e170 e171 e172 e173 e174 e175 e176 e177 e178 e179 e180 e181 e182 e183 e184 e185 e186 e187 e188 e189 e190 e191 e192 e193 e194 e195 e196 e197 e198 e199 e200 e201 e202
theorem qC_r0 : (OO (sx Tryz.prog qC_N [(0,21,0,1),(0,22,0,0),(0,29,0,1),(0,48,0,1),(0,49,0,0),(0,56,0,1),(0,75,0,1),(0,76,0,0),(0,83,0,1),(0,102,0,1),(0,103,0,0),(0,110,0,1),(0,134,0,1),(0,202,0,1)] [] qC_L qC_C qC_Z (prC [11])) [(37,66),(17,65)] [] [] 73 7 [] 7 qC_A [] 0).map (·.1)=some (kB true) := by kernel_rfl
theorem qC_r1 : (OO (sx Tryz.prog qC_N [(0,21,0,1),(0,22,0,0),(0,29,0,1),(0,48,0,1),(0,49,0,0),(0,56,0,1),(0,75,0,1),(0,76,0,0),(0,83,0,1),(0,102,0,1),(0,103,0,0),(0,110,0,1),(0,134,0,0),(0,202,0,0)] [] qC_L qC_C qC_Z (prC [11])) [(37,66),(17,65)] [] [] 73 7 [] 7 qC_A [] 0).map (·.1)=some (kB true) := by kernel_rfl
theorem XL {a b : Prop} (x : a) (y : b) : a∧b := ⟨x,y⟩
theorem EJ {H : List (Nat × Nat × Nat × Nat)} {K : List (FuncId × List AC)} {k : Nat} {q : Nat→Rat} {σ : Nat→ByteArray} {args : List AV} {vs : List Value} {w : World} {M : JP} (hr : (OO (sx Tryz.prog qC_N H K qC_L qC_C qC_Z (prC [11])) [(37,66),(17,65)] M [] 73 k [] 7 args [] 0).map (·.1)=some (kB true)) (hσ : ∀ j,(σ j).size≤1048576) (hq : ∀ (a : Nat) nd,qC_N[a]? = some nd→q a=Zr σ q nd) (h0 : ∀ a,qC_N.length≤a→q a=0) (hH : Xs q H) (hp : Zy w) (hM : Zw qC_N qC_L qC_C qC_Z q σ [11] w M) (hA : ∀ K,A2 (avOn (cOn (evS q σ) K (fun _ => none) w)) args vs) : Calls Tryz.prog 7 vs.toArray w fun e w' => Below w.heap.size w w'∧e=.returned (.bool true) :=
 Hm k (Vt hσ qC_wf qC_sz qC_lt qC_cn hq h0 hH) (by simp [ZK]) (by kernel_rfl) hp hM memoX_nil hr (hA K)
theorem qC_walk {w : World} {kx kz lx lz nx nz ux uz : ByteArray}  (skx : kx.size≤1048576) (skz : kz.size≤1048576) (slx : lx.size≤1048576) (slz : lz.size≤1048576) (snx : nx.size≤1048576) (snz : nz.size≤1048576) (sux : ux.size≤1048576) (suz : uz.size≤1048576) (tab : Tab w) (mx : MaxL w) :
  Calls Tryz.prog 7 #[.agg #[.string kx,.string kz],.agg #[.string lx,.string lz],.agg #[.string nx,.string nz],.agg #[.string ux,.string uz]] w fun e w' => Below w.heap.size w w'∧e=.returned (.bool true) := by
 have hσ : ∀ j,(RY [kx,kz,lx,lz,nx,nz,ux,uz] j).size≤1048576 := IF (by simp [skx,skz,slx,slz,snx,snz,sux,suz])
 obtain ⟨q,hq,h0⟩ := Wo (RY [kx,kz,lx,lz,nx,nz,ux,uz]) qC_N qC_wf
 have hA : ∀ K,A2 (avOn (cOn (evS q (RY [kx,kz,lx,lz,nx,nz,ux,uz])) K (fun _ => none) w)) [(false,[(true,[.inr (2,0,0,0,0),.inr (2,1,0,0,0)])]),(false,[(true,[.inr (2,2,0,0,0),.inr (2,3,0,0,0)])]),(false,[(true,[.inr (2,4,0,0,0),.inr (2,5,0,0,0)])]),(false,[(true,[.inr (2,6,0,0,0),.inr (2,7,0,0,0)])])] [.agg #[.string kx,.string kz],.agg #[.string lx,.string lz],.agg #[.string nx,.string nz],.agg #[.string ux,.string uz]] := fun K => ⟨⟨⟨[.string kx,.string kz],rfl,rfl,rfl,trivial⟩,trivial⟩,⟨⟨[.string lx,.string lz],rfl,rfl,rfl,trivial⟩,trivial⟩,⟨⟨[.string nx,.string nz],rfl,rfl,rfl,trivial⟩,trivial⟩,⟨⟨[.string ux,.string uz],rfl,rfl,rfl,trivial⟩,trivial⟩,trivial⟩
 have gk21 := qC_pk21 hq (Jz (Jr hq) (Jf hq) (KH hq (Xk hq (Jr hq) (Jf hq))) (Kq hq (Xk hq (Jr hq) (Jf hq))) (KK hq (Xk hq (Jr hq) (Jf hq)))).2.1
 have b21 : q 21=0 := gk21
 have gk22 := qC_pk22 hq (Jz (Jr hq) (Jf hq) (KH hq (Xk hq (Jr hq) (Jf hq))) (Kq hq (Xk hq (Jr hq) (Jf hq))) (KK hq (Xk hq (Jr hq) (Jf hq)))).2.2.1
 have b22 : ¬ (q 22=0) := gk22
 have gk29 := qC_pk29 hq (Jz (Jr hq) (Jf hq) (KH hq (Xk hq (Jr hq) (Jf hq))) (Kq hq (Xk hq (Jr hq) (Jf hq))) (KK hq (Xk hq (Jr hq) (Jf hq)))).2.2.1 (Jz (Jr hq) (Jf hq) (KH hq (Xk hq (Jr hq) (Jf hq))) (Kq hq (Xk hq (Jr hq) (Jf hq))) (KK hq (Xk hq (Jr hq) (Jf hq)))).2.2.2.1 (Jz (Jr hq) (Jf hq) (KH hq (Xk hq (Jr hq) (Jf hq))) (Kq hq (Xk hq (Jr hq) (Jf hq))) (KK hq (Xk hq (Jr hq) (Jf hq)))).2.2.2.2
 have b29 : q 29=0 := gk29
 have gk48 := qC_pk48 hq (Jz (Jq hq) (Jg hq) (Ks hq (Xm hq (Jq hq) (Jg hq))) (KT hq (Xm hq (Jq hq) (Jg hq))) (KJ hq (Xm hq (Jq hq) (Jg hq)))).2.1
 have b48 : q 48=0 := gk48
 have gk49 := qC_pk49 hq (Jz (Jq hq) (Jg hq) (Ks hq (Xm hq (Jq hq) (Jg hq))) (KT hq (Xm hq (Jq hq) (Jg hq))) (KJ hq (Xm hq (Jq hq) (Jg hq)))).2.2.1
 have b49 : ¬ (q 49=0) := gk49
 have gk56 := qC_pk56 hq (Jz (Jq hq) (Jg hq) (Ks hq (Xm hq (Jq hq) (Jg hq))) (KT hq (Xm hq (Jq hq) (Jg hq))) (KJ hq (Xm hq (Jq hq) (Jg hq)))).2.2.1 (Jz (Jq hq) (Jg hq) (Ks hq (Xm hq (Jq hq) (Jg hq))) (KT hq (Xm hq (Jq hq) (Jg hq))) (KJ hq (Xm hq (Jq hq) (Jg hq)))).2.2.2.1 (Jz (Jq hq) (Jg hq) (Ks hq (Xm hq (Jq hq) (Jg hq))) (KT hq (Xm hq (Jq hq) (Jg hq))) (KJ hq (Xm hq (Jq hq) (Jg hq)))).2.2.2.2
 have b56 : q 56=0 := gk56
 have gk75 := qC_pk75 hq (Jz (Js hq) (Jh hq) (KQ hq (Xl hq (Js hq) (Jh hq))) (KO hq (Xl hq (Js hq) (Jh hq))) (Ky hq (Xl hq (Js hq) (Jh hq)))).2.1
 have b75 : q 75=0 := gk75
 have gk76 := qC_pk76 hq (Jz (Js hq) (Jh hq) (KQ hq (Xl hq (Js hq) (Jh hq))) (KO hq (Xl hq (Js hq) (Jh hq))) (Ky hq (Xl hq (Js hq) (Jh hq)))).2.2.1
 have b76 : ¬ (q 76=0) := gk76
 have gk83 := qC_pk83 hq (Jz (Js hq) (Jh hq) (KQ hq (Xl hq (Js hq) (Jh hq))) (KO hq (Xl hq (Js hq) (Jh hq))) (Ky hq (Xl hq (Js hq) (Jh hq)))).2.2.1 (Jz (Js hq) (Jh hq) (KQ hq (Xl hq (Js hq) (Jh hq))) (KO hq (Xl hq (Js hq) (Jh hq))) (Ky hq (Xl hq (Js hq) (Jh hq)))).2.2.2.1 (Jz (Js hq) (Jh hq) (KQ hq (Xl hq (Js hq) (Jh hq))) (KO hq (Xl hq (Js hq) (Jh hq))) (Ky hq (Xl hq (Js hq) (Jh hq)))).2.2.2.2
 have b83 : q 83=0 := gk83
 have gk102 := qC_pk102 hq (Jz (Jt hq) (Je hq) (Kv hq (Xo hq (Jt hq) (Je hq))) (KL hq (Xo hq (Jt hq) (Je hq))) (KE hq (Xo hq (Jt hq) (Je hq)))).2.1
 have b102 : q 102=0 := gk102
 have gk103 := qC_pk103 hq (Jz (Jt hq) (Je hq) (Kv hq (Xo hq (Jt hq) (Je hq))) (KL hq (Xo hq (Jt hq) (Je hq))) (KE hq (Xo hq (Jt hq) (Je hq)))).2.2.1
 have b103 : ¬ (q 103=0) := gk103
 have gk110 := qC_pk110 hq (Jz (Jt hq) (Je hq) (Kv hq (Xo hq (Jt hq) (Je hq))) (KL hq (Xo hq (Jt hq) (Je hq))) (KE hq (Xo hq (Jt hq) (Je hq)))).2.2.1 (Jz (Jt hq) (Je hq) (Kv hq (Xo hq (Jt hq) (Je hq))) (KL hq (Xo hq (Jt hq) (Je hq))) (KE hq (Xo hq (Jt hq) (Je hq)))).2.2.2.1 (Jz (Jt hq) (Je hq) (Kv hq (Xo hq (Jt hq) (Je hq))) (KL hq (Xo hq (Jt hq) (Je hq))) (KE hq (Xo hq (Jt hq) (Je hq)))).2.2.2.2
 have b110 : q 110=0 := gk110
 by_cases b134 : q 134=0
 ·
  have gc1 := (qC_pCD hq).trans ((Fv (Jf hq) (Xk hq (Jr hq) (Jf hq)) (KH hq (Xk hq (Jr hq) (Jf hq))) (Kq hq (Xk hq (Jr hq) (Jf hq))) (KK hq (Xk hq (Jr hq) (Jf hq))) (Jg hq) (Xm hq (Jq hq) (Jg hq)) (Ks hq (Xm hq (Jq hq) (Jg hq))) (KT hq (Xm hq (Jq hq) (Jg hq))) (KJ hq (Xm hq (Jq hq) (Jg hq))) (Jh hq) (Xl hq (Js hq) (Jh hq)) (KQ hq (Xl hq (Js hq) (Jh hq))) (KO hq (Xl hq (Js hq) (Jh hq))) (Ky hq (Xl hq (Js hq) (Jh hq))) (Je hq) (Xo hq (Jt hq) (Je hq)) (Kv hq (Xo hq (Jt hq) (Je hq))) (KL hq (Xo hq (Jt hq) (Je hq))) (KE hq (Xo hq (Jt hq) (Je hq)))).1 ((qC_pFD hq).symm.trans b134))
  have b202 : q 202=0 := gc1
  exact EJ qC_r0 hσ hq h0 (XL (hT b21) (XL (hF b22) (XL (hT b29) (XL (hT b48) (XL (hF b49) (XL (hT b56) (XL (hT b75) (XL (hF b76) (XL (hT b83) (XL (hT b102) (XL (hF b103) (XL (hT b110) (XL (hT b134) (XL (hT b202) trivial)))))))))))))) ⟨tab,mx⟩ XX hA
 ·
  have gc0 := fun h => b134 ((qC_pFD hq).trans ((Fv (Jf hq) (Xk hq (Jr hq) (Jf hq)) (KH hq (Xk hq (Jr hq) (Jf hq))) (Kq hq (Xk hq (Jr hq) (Jf hq))) (KK hq (Xk hq (Jr hq) (Jf hq))) (Jg hq) (Xm hq (Jq hq) (Jg hq)) (Ks hq (Xm hq (Jq hq) (Jg hq))) (KT hq (Xm hq (Jq hq) (Jg hq))) (KJ hq (Xm hq (Jq hq) (Jg hq))) (Jh hq) (Xl hq (Js hq) (Jh hq)) (KQ hq (Xl hq (Js hq) (Jh hq))) (KO hq (Xl hq (Js hq) (Jh hq))) (Ky hq (Xl hq (Js hq) (Jh hq))) (Je hq) (Xo hq (Jt hq) (Je hq)) (Kv hq (Xo hq (Jt hq) (Je hq))) (KL hq (Xo hq (Jt hq) (Je hq))) (KE hq (Xo hq (Jt hq) (Je hq)))).2 ((qC_pCD hq).symm.trans h)))
  have b202 : ¬ (q 202=0) := gc0
  exact EJ qC_r1 hσ hq h0 (XL (hT b21) (XL (hF b22) (XL (hT b29) (XL (hT b48) (XL (hF b49) (XL (hT b56) (XL (hT b75) (XL (hF b76) (XL (hT b83) (XL (hT b102) (XL (hF b103) (XL (hT b110) (XL (hF b134) (XL (hF b202) trivial)))))))))))))) ⟨tab,mx⟩ XX hA
end Go.Proofs.YtmdfngmjoaigjaaGreatDoor
