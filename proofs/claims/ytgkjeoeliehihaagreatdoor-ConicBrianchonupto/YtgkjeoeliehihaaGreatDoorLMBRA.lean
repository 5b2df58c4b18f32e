/- Part 12 of the walks and of the mathematics under them: PLY VP VPC VPD VPE VY VSZ VSA CFconed MBRRA MBRR1 MBRR2 MBRR3 MBRR4 MBRR5 MBRR6 MBR. -/
import Derived.Test.YtgkjeoeliehihaaGreatDoorA11
import Derived.Test.YtgkjeoeliehihaaGreatDoorA2
set_option maxHeartbeats 16000000
set_option maxRecDepth 100000
/- PLY -/
namespace Go.Proofs.YtgkjeoeliehihaaGreatDoor
open Go.RowKit Cx
abbrev Pol := List (Int × List Nat)
def eqM : List Nat→List Nat→Bool
 | [],[] => true
 | a :: m,b :: k => cond (Nat.beq a b) (eqM m k) false
 | _,_ => false
theorem eqM_ok : ∀ {m k : List Nat},eqM m k=true→m=k
 | [],[],_ => rfl
 | a :: m,b :: k,h => by
  unfold eqM at h
  cases e : Nat.beq a b
  ·rw [e] at h; cases h
  ·rw [e] at h; rw [Nat.eq_of_beq_eq_true e,eqM_ok (m := m) (k := k) h]
 | [],_ :: _,h => by cases h
 | _ :: _,[],h => by cases h
def insA (a : Nat) : List Nat→List Nat
 | [] => [a]
 | b :: m => cond (Nat.ble a b) (a :: b :: m) (b :: insA a m)
def mulM (m k : List Nat) : List Nat := m.foldr insA k
def isZ : Int→Bool
 | .ofNat n => Nat.beq n 0
 | .negSucc _ => false
theorem isZ_ok {c : Int} (h : isZ c=true) : c=0 := by
 cases c with
 | ofNat n => rw [Nat.eq_of_beq_eq_true (n := n) (m := 0) h]; rfl
 | negSucc n => cases h
def insM (c : Int) (m : List Nat) : Pol→Pol
 | [] => [(c,m)]
 | (d,k) :: p => cond (eqM m k) (cond (isZ (c+d)) p ((c+d,k) :: p)) ((d,k) :: insM c m p)
def addP (p r : Pol) : Pol := p.foldr (fun t s => insM t.1 t.2 s) r
def negP (p : Pol) : Pol := p.map fun t => (-t.1,t.2)
def scaP (c : Int) (m : List Nat) (p : Pol) : Pol := p.map fun t => (c*t.1,mulM m t.2)
def mulP (p r : Pol) : Pol := p.foldr (fun t s => addP (scaP t.1 t.2 r) s) []
def nilP' : Pol→Bool
 | [] => true
 | _ => false
section
variable (q : Nat→Rat)
def evM : List Nat→Rat
 | [] => 1
 | a :: m => q a*evM m
def evP : Pol→Rat
 | [] => 0
 | t :: p => (t.1 : Rat)*evM q t.2+evP p
variable {q}
theorem insA_ok (a : Nat) : ∀ m,evM q (insA a m)=q a*evM q m
 | [] => rfl
 | b :: m => by
  unfold insA
  cases Nat.ble a b
  ·show q b*evM q (insA a m)=q a*(q b*evM q m)
   rw [insA_ok a m]; grind
  ·rfl
theorem mulM_ok : ∀ m k,evM q (mulM m k)=evM q m*evM q k
 | [],k => (Rat.one_mul _).symm
 | a :: m,k => by
  show evM q (insA a (mulM m k))=q a*evM q m*evM q k
  rw [insA_ok,mulM_ok m k,Rat.mul_assoc]
theorem insM_ok (c : Int) (m : List Nat) : ∀ p,evP q (insM c m p)=(c : Rat)*evM q m+evP q p
 | [] => rfl
 | (d,k) :: p => by
  unfold insM
  cases e : eqM m k
  ·show (d : Rat)*evM q k+evP q (insM c m p)=(c : Rat)*evM q m+((d : Rat)*evM q k+evP q p)
   rw [insM_ok c m p]; grind
  ·have e := eqM_ok e
   subst e
   cases f : isZ (c+d)
   ·show ((c+d : Int) : Rat)*evM q m+evP q p=(c : Rat)*evM q m+((d : Rat)*evM q m+evP q p)
    rw [Rat.intCast_add]; grind
   ·show evP q p=(c : Rat)*evM q m+((d : Rat)*evM q m+evP q p)
    have g : (c : Rat)+(d : Rat)=0 := by rw [← Rat.intCast_add,isZ_ok f]; rfl
    have : (c : Rat)*evM q m+((d : Rat)*evM q m+evP q p)=((c : Rat)+(d : Rat))*evM q m+evP q p := by grind
    rw [this,g,Rat.zero_mul,Rat.zero_add]
theorem addP_ok : ∀ p r,evP q (addP p r)=evP q p+evP q r
 | [],r => (Rat.zero_add _).symm
 | t :: p,r => by
  show evP q (insM t.1 t.2 (addP p r))=(t.1 : Rat)*evM q t.2+evP q p+evP q r
  rw [insM_ok,addP_ok p r,Rat.add_assoc]
theorem negP_ok : ∀ p,evP q (negP p)=-evP q p
 | [] => rfl
 | t :: p => by
  show ((-t.1 : Int) : Rat)*evM q t.2+evP q (negP p)=-((t.1 : Rat)*evM q t.2+evP q p)
  rw [negP_ok p,Rat.intCast_neg]; grind
theorem scaP_ok (c : Int) (m : List Nat) : ∀ p,evP q (scaP c m p)=(c : Rat)*evM q m*evP q p
 | [] => (Rat.mul_zero _).symm
 | t :: p => by
  show ((c*t.1 : Int) : Rat)*evM q (mulM m t.2)+evP q (scaP c m p)=(c : Rat)*evM q m*((t.1 : Rat)*evM q t.2+evP q p)
  rw [scaP_ok c m p,mulM_ok,Rat.intCast_mul]; grind
theorem mulP_ok : ∀ p r,evP q (mulP p r)=evP q p*evP q r
 | [],r => (Rat.zero_mul _).symm
 | t :: p,r => by
  show evP q (addP (scaP t.1 t.2 r) (mulP p r))=((t.1 : Rat)*evM q t.2+evP q p)*evP q r
  rw [addP_ok,scaP_ok,mulP_ok p r,Rat.add_mul]
end
def nfN (N : List Nd) (stop : List Nat) : Nat→Nat→Pol
 | 0,a => [(1,[a])]
 | f+1,a => cond (stop.any (Nat.beq a)) [(1,[a])] (match N[a]? with
  | some (0,[0,n,1]) => cond (Nat.beq n 0) [] [((n : Int),[])]
  | some (0,[1,n,1]) => [(-(n : Int),[])]
  | some (2,[x,y]) => addP (nfN N stop f x) (nfN N stop f y)
  | some (3,[x,y]) => addP (nfN N stop f x) (negP (nfN N stop f y))
  | some (4,[x,y]) => mulP (nfN N stop f x) (nfN N stop f y)
  | some (5,[x]) => negP (nfN N stop f x)
  | _ => [(1,[a])])
inductive Ex where
 | z | o | t | f
 | v (a : Nat)
 | A (x y : Ex) | S (x y : Ex) | M (x y : Ex) | N (x : Ex)
def Ex.ev (q : Nat→Rat) : Ex→Rat
 | z => 0 | o => 1 | t => 2 | f => 4
 | v a => q a
 | A x y => x.ev q+y.ev q | S x y => x.ev q - y.ev q | M x y => x.ev q*y.ev q | N x => -x.ev q
def Ex.nf : Ex→Pol
 | z => [] | o => [(1,[])] | t => [(2,[])] | f => [(4,[])]
 | v a => [(1,[a])]
 | A x y => addP x.nf y.nf | S x y => addP x.nf (negP y.nf) | M x y => mulP x.nf y.nf | N x => negP x.nf
variable {q : Nat→Rat} {σ : Nat→ByteArray}
theorem atP (a : Nat) : evP q [(1,[a])]=q a := by
 show ((1 : Int) : Rat)*(q a*1)+0=q a
 rw [Rat.mul_one,Rat.add_zero]; exact Rat.one_mul _
theorem cstP (c : Int) : evP q [(c,[])]=(c : Rat) := by
 show (c : Rat)*1+0=_
 rw [Rat.mul_one,Rat.add_zero]
theorem Ex.nf_ok : ∀ e : Ex,evP q e.nf=e.ev q
 | z => rfl
 | o => cstP 1 | t => cstP 2 | f => cstP 4
 | v a => atP a
 | A x y => (addP_ok _ _).trans (by rw [nf_ok x,nf_ok y]; rfl)
 | S x y => (addP_ok _ _).trans (by rw [negP_ok,nf_ok x,nf_ok y]; exact (Rat.sub_eq_add_neg _ _).symm)
 | M x y => (mulP_ok _ _).trans (by rw [nf_ok x,nf_ok y]; rfl)
 | N x => (negP_ok _).trans (by rw [nf_ok x]; rfl)
theorem nfN_ok {N : List Nd} (H : ∀ (a : Nat) nd,N[a]? = some nd→q a=valN σ q nd) (stop : List Nat) : ∀ f a,evP q (nfN N stop f a)=q a
 | 0,a => atP a
 | f+1,a => by
  unfold nfN
  cases stop.any (Nat.beq a)
  ·show evP q (match N[a]? with | some (0,[0,n,1]) => _ | some (0,[1,n,1]) => _ | some (2,[x,y]) => _ | some (3,[x,y]) => _ | some (4,[x,y]) => _ | some (5,[x]) => _ | _ => _)=q a
   split
   ·rename_i n e
    rw [H a _ e]
    show _=mkRat (n : Int) 1
    cases g : Nat.beq n 0
    ·exact (cstP (n : Int)).trans (Rat.mkRat_one _).symm
    ·rw [Nat.eq_of_beq_eq_true g]; rfl
   ·rename_i n e
    rw [H a _ e]
    exact (cstP (-(n : Int))).trans (Rat.mkRat_one _).symm
   ·rename_i x y e
    rw [H a _ e,addP_ok,nfN_ok H stop f x,nfN_ok H stop f y]; rfl
   ·rename_i x y e
    rw [H a _ e,addP_ok,negP_ok,nfN_ok H stop f x,nfN_ok H stop f y]; exact (Rat.sub_eq_add_neg _ _).symm
   ·rename_i x y e
    rw [H a _ e,mulP_ok,nfN_ok H stop f x,nfN_ok H stop f y]; rfl
   ·rename_i x e
    rw [H a _ e,negP_ok,nfN_ok H stop f x]; rfl
   ·exact atP a
  ·exact atP a
theorem zero_of {p r : Pol} (h : nilP' (addP p (negP r))=true) : evP q p=evP q r := by
 have e : evP q (addP p (negP r))=0 := by
  cases k : addP p (negP r) with
  | nil => rfl
  | cons t s => rw [k] at h; cases h
 rw [addP_ok,negP_ok] at e
 grind
theorem pol {N : List Nd} (H : ∀ (a : Nat) nd,N[a]? = some nd→q a=valN σ q nd) (stop : List Nat) (f a : Nat) (e : Ex) (h : nilP' (addP (nfN N stop f a) (negP e.nf))=true) : q a=e.ev q :=
 (nfN_ok H stop f a).symm.trans ((zero_of h).trans e.nf_ok)
end Go.Proofs.YtgkjeoeliehihaaGreatDoor
/- VP -/
namespace Cx
open Go Go.RowKit
abbrev Hs := List (Nat × Nat × Nat × Nat)
def Sx.plus (S : Sx) (X : Hs) : Sx := { S with H := X ++ S.H }
abbrev Ask := Nat × Nat × Nat × Nat
def askZ (a : Nat) : Ask := (0,a,0,a)
def askOk (S : Sx) : Ask→Bool
 | (k,a,b,d) => (Nat.beq k 0 && (Nat.beq b 0 && Nat.beq d a)) || (Nat.beq k 3 && (match S.N[d]? with
  | some (op,ar) => Nat.beq op 3 && beqL ar [a,b]
  | none => false))
def acrossB (S : Sx) (a b : Nat) : List Nat→List Nat→Option (List Ask)
 | c :: l,d :: m => (S.nd 4 [a,d]).bind fun x => (S.nd 4 [c,b]).bind fun y => (S.nd 3 [x,y]).bind fun z => (acrossB S a b l m).map fun r => (3,x,y,z) :: r
 | _,_ => some []
def alikeB (S : Sx) : List Nat→List Nat→List Nat→List Nat→Option (List Ask)
 | pl,pm,a :: l,b :: m => (acrossB S a b pl pm).bind fun r => (alikeB S (pl ++ [a]) (pm ++ [b]) l m).map fun t => r ++ t
 | _,_,_,_ => some []
def sameA (S : Sx) : List Nat→List Nat→Option (List Ask)
 | a :: l,b :: m => (S.nd 3 [a,b]).bind fun d => (sameA S l m).map fun r => (3,a,b,d) :: r
 | _,_ => some []
def asks (S : Sx) (h : List HB) (code : Nat) (args : List AV) : Option (List Ask) :=
 match code with
 | 60 => arg1 (fun x => (asA x).bind fun cs => (qRow S cs).map fun l => l.map askZ) args
 | 61 => arg1 (fun x => (rowB h 1 x).bind fun p => (mapO (acX 0) p.2).map fun l => l.map askZ) args
 | 62 => arg2 (fun x y => (rowB h 1 x).bind fun p => (mapO (acX 0) p.2).bind fun l => (rowB h 1 y).bind fun p' => (mapO (acX 0) p'.2).bind fun m => alikeB S [] [] l m) args
 | 63 => arg1 (fun x => (asA x).bind fun cs => (mapO acTold cs).bind fun l => (plainOf S l).map fun xs => xs.map askZ) args
 | 69 => arg1 (fun x => (asA x).bind fun cs => (mapO (txNode S) cs).map fun l => l.map askZ) args
 | 67 => arg1 (fun x => (asA x).bind fun cs => (mapO (txNode S) (cs.take 3)).map fun l => l.map askZ) args
 | 65 => arg1 (fun x => (asA x).bind fun cs => (mapO (acX 0) cs).map fun l => l.map askZ) args
 | 66 => arg2 (fun x y => (asA x).bind fun cs => (asA y).bind fun ds => (mapO (acX 0) cs).bind fun l => (mapO (acX 0) ds).bind fun m => sameA S l m) args
 | 64 => arg1 (fun x => (asA x).bind fun cs => (qRow S cs).map fun l => (l.take 5).map askZ) args
 | 68 => arg2 (fun x _ => (asA x).bind fun cs => (qRow S cs).map fun l => (l.take 5).map askZ) args
 | _ => none
def splits : List Ask→Hs→List Hs
 | [],_ => []
 | (k,a,b,_) :: l,X => ((k,a,b,0) :: X) :: splits l ((k,a,b,1) :: X)
def allZ : List Ask→Hs→Hs
 | [],X => X
 | (k,a,b,_) :: l,X => allZ l ((k,a,b,1) :: X)
def bodyC (S : Sx) (call : CallF) : CallF := fun f args h nx => S.P.funcs[f]?.bind fun fn => fn.body.bind fun c => ifO (Nat.ble args.length fn.ntmps) ((runB S call fn.ntmps c { tm := numb1 0 args,h := h,nx := nx }).bind fun r =>
   ifO (Nat.ble r.1 1) ((mapO (resB S.P r.2) fn.results.toList).map fun xs => (tupB xs,r.2.h,r.2.nx)))
abbrev CRes := Option (AV × List HB × Nat)
def acZ : AC→Option Nat
 | .inr (k,j,a,x,y) => ifO (Nat.beq k 0 && (Nat.beq j 7 && (Nat.beq x 0 && Nat.beq y 0))) (some a)
 | _ => none
def weakV (S : Sx) (v : AV) : AV := match (asC v).bind (acX 4) with
 | some n => (match S.N[n]? with
  | some (_,[a,b]) => (match S.nd 4 [a,b],S.kn 0 a 0 with
   | some m,some r => bif Nat.beq m n && !Nat.beq 1 r then v1 (.inr (0,7,b,0,0)) else v
   | _,_ => v)
  | _ => v)
 | none => v
def weakR (S : Sx) (r : CRes) : CRes := r.map fun p => (weakV S p.1,p.2)
def ansK (v : AV) : Option (Bool ⊕ Nat) := match asB v with
 | some b => some (.inl b)
 | none => ((asC v).bind acZ).map .inr
def kAns : Bool ⊕ Nat→AV
 | .inl b => kB b
 | .inr a => v1 (.inr (0,7,a,0,0))
def sameK : Bool ⊕ Nat→Bool ⊕ Nat→Bool
 | .inl b,.inl c => b == c
 | .inr a,.inr b => Nat.beq a b
 | _,_ => false
def agree (h : List HB) (b : Bool ⊕ Nat) (hi : Nat) : CRes→Bool
 | some (v,h',nx') => (match ansK v with
  | some c => sameK b c
  | none => false) && (Nat.ble nx' hi && h.all fun x => h'.any fun y => Nat.beq y.1 x.1 && acsW x.2 y.2)
 | none => false
def topN : Nat→List CRes→Nat
 | m,[] => m
 | m,some p :: rs => topN (bif Nat.ble m p.2.2 then p.2.2 else m) rs
 | m,none :: rs => topN m rs
def joinC (h : List HB) (nx : Nat) (rs : List CRes) : CRes :=
 match rs with
 | some p :: _ => (ansK p.1).bind fun b => ifO (rs.all (agree h b (topN nx rs))) (some (kAns b,h,topN nx rs))
 | _ => none
def askIt (S : Sx) (X : Hs) (h : List HB) (c : Nat) (args : List AV) : Option (List Ask × Nat) :=
 (asks (S.plus X) h c args).bind fun l => ifO (l.all (askOk S)) ((sqN S (l.map (·.2.2.2))).bind fun s => ((S.plus X).kn 0 s 0).map fun r => (l,r))
theorem askIt_some {S : Sx} {X : Hs} {h : List HB} {c : Nat} {args : List AV} {l : List Ask} {r : Nat} (e : askIt S X h c args=some (l,r)) : (∀ a ∈ l,askOk S a=true)∧∃ s,sqN S (l.map (·.2.2.2))=some s∧(S.plus X).kn 0 s 0=some r := by
 unfold askIt at e
 simp only [Option.bind_eq_some_iff,ifO_some,Option.map_eq_some_iff,List.all_eq_true,Prod.mk.injEq] at e
 obtain ⟨l',_,h1,s,h2,r',h3,rfl,rfl⟩ := e
 exact ⟨h1,s,h2,h3⟩
def callC (S : Sx) (cs : List (FuncId × Nat)) : Nat→Hs→CallF
 | 0,_,_,_,_,_ => none
 | n+1,X,f,args,h,nx => match prGet f cs with
  | none => bodyC (S.plus X) (callC S cs n X) f args h nx
  | some c => match askIt S X h c args with
   | none => bodyC (S.plus X) (callC S cs n X) f args h nx
   | some (l,r) => bif Nat.beq 1 r then bodyC (S.plus (allZ l X)) (callC S cs n (allZ l X)) f args h nx
    else joinC h nx ((splits l X).map fun X' => weakR (S.plus X') (bodyC (S.plus X') (callC S cs n X') f args h nx))
section
variable {S : Sx} {E : Ev S.nb} {w0 : World}
theorem bodyC_ok {call : CallF} (hm : S.P.follows .mixedOrders=true) (N : Knows S E) (hP : PrimOk S E w0) (hC : CallOk S E w0 call) : CallOk S E w0 (bodyC S call) := fun f args h nx p hp γ w vs hi hA hb hlt hf => by
 unfold bodyC at hp
 simp only [Option.bind_eq_some_iff,ifO_some,Option.map_eq_some_iff,Nat.ble_eq] at hp
 obtain ⟨fn,h1,c,h2,h3,⟨e,s'⟩,h4,h5,xs,h6,rfl⟩ := hp
 dsimp only at h5 h6
 rcases (show e=0 ∨ e=1 by omega) with rfl | rfl
 all_goals
  obtain ⟨_,_,r⟩ := runB_ok hm N hP hC c _ _ _ h4
  refine calls_of_wp h1 h2 (r γ _ w _ ⟨hi,fun t v q => ?_,hb,hlt,?_,rfl⟩ hf fun a' w' γ' hef hs => ?_)
  ·obtain ⟨_,q2⟩ := numb1_get q
   rw [Nat.sub_zero] at q2
   obtain ⟨u,hu,hv⟩ := hA.get q2
   have hlt : t < vs.length := (List.getElem?_eq_some_iff.1 hu).1
   have : (vs.toArray ++ Array.replicate (fn.ntmps - vs.toArray.size) undef).getD t undef=u := by
    rw [Array.getD_eq_getD_getElem?,Array.getElem?_append_left (by simpa using hlt)]
    simp [hu]
   show avOn _ v ((vs.toArray ++ Array.replicate (fn.ntmps - vs.toArray.size) undef).getD t undef)
   rw [this]
   exact hv
  ·have := hA.len
   simp
   omega
  ·obtain ⟨v,hv,hx⟩ := results_run hs h6
   exact ⟨hs.df,v,hv,v,γ',rfl,hef,hx,hs.bx⟩
theorem asB_kB {v : AV} {b : Bool} (h : asB v=some b) : v=kB b := by
 unfold asB at h
 rw [Option.bind_eq_some_iff] at h
 obtain ⟨c,h1,h2⟩ := h
 unfold asC at h1
 split at h1
 ·cases h1
  unfold acB at h2
  split at h2
  ·cases h2
   rfl
  ·cases h2
 ·cases h1
theorem ansK_eq {v : AV} {k : Bool ⊕ Nat} (h : ansK v=some k) : v=kAns k := by
 unfold ansK at h
 split at h
 ·rename_i b hb
  cases h
  exact asB_kB hb
 ·rw [Option.map_eq_some_iff] at h
  obtain ⟨a,h,rfl⟩ := h
  rw [Option.bind_eq_some_iff] at h
  obtain ⟨c,h1,h2⟩ := h
  unfold asC at h1
  split at h1
  ·cases h1
   unfold acZ at h2
   split at h2
   ·rw [ifO_some,Bool.and_eq_true,Bool.and_eq_true,Bool.and_eq_true,Nat.beq_eq,Nat.beq_eq,Nat.beq_eq,Nat.beq_eq] at h2
    obtain ⟨⟨rfl,rfl,rfl,rfl⟩,h3⟩ := h2
    cases h3
    rfl
   ·cases h2
  ·cases h1
theorem sameK_eq {a b : Bool ⊕ Nat} (h : sameK a b=true) : a=b := by
 unfold sameK at h
 split at h
 ·rename_i x y
  have : x=y := by simpa using h
  rw [this]
 ·rw [Nat.beq_eq] at h
  rw [h]
 ·cases h
theorem sgnZ_zero (q : Rat) : sgnZ q=0 ↔ q=0 := by
 unfold sgnZ
 split
 ·rename_i hlt
  constructor
  ·intro q; cases q
  ·intro q; rw [q] at hlt; exact absurd hlt (by decide)
 ·split <;> simp_all
theorem weakV_on (N : Knows S E) {γ : Nat→Option Nat} {w : World} {v : AV} {r : Value} (h : avOn (cOn E S.K γ w) v r) : avOn (cOn E S.K γ w) (weakV S v) r := by
 unfold weakV
 split
 ·rename_i n hn
  rw [Option.bind_eq_some_iff] at hn
  obtain ⟨c,h1,h2⟩ := hn
  split
  ·split
   ·rename_i a b _ _ _ m r' hm hr
    cases e : (Nat.beq m n && !Nat.beq 1 r') with
    | true =>
     rw [Bool.and_eq_true,Nat.beq_eq,Bool.not_eq_true'] at e
     obtain ⟨rfl,e2⟩ := e
     have ez := (N.x4 _ _ _).1 (acX_on h2 (asC_on h1 h))
     refine v1_on ((N.x7 _ _ _).2 ⟨_,ez,?_⟩)
     have hz : ¬ E.q a=0 := fun q => by rw [(N.k0 a r' hr).2 q] at e2; cases e2
     rw [sgnZ_zero,N.k7 _ _ _ hm]
     constructor
     ·exact fun q => (Rat.mul_eq_zero.1 q).resolve_left hz
     ·intro q
      rw [q,Rat.mul_zero]
    | false => exact h
   ·exact h
  ·exact h
 ·exact h
theorem weak_ok {X : Hs} {call : CallF} (N : Knows (S.plus X) E) (hC : CallOk S E w0 call) : CallOk S E w0 (fun f args h nx => weakR (S.plus X) (call f args h nx)) := fun f args h nx p hp => by
 replace hp : weakR (S.plus X) (call f args h nx)=some p := hp
 unfold weakR at hp
 rw [Option.map_eq_some_iff] at hp
 obtain ⟨p0,hp0,rfl⟩ := hp
 intro γ w vs hi hA hb hlt hf
 refine (hC f args h nx p0 hp0 γ w vs hi hA hb hlt hf).mono ?_
 rintro _ w' ⟨r',γ',rfl,hef,hv,hx⟩
 exact ⟨r',γ',rfl,hef,weakV_on (S := S.plus X) N hv,hx⟩
theorem agree_some {h : List HB} {b : Bool ⊕ Nat} {hi : Nat} {r : CRes} (hr : agree h b hi r=true) : ∃ h' nx',r=some (kAns b,h',nx')∧nx'≤hi∧∀ x ∈ h,x ∈ h' := by
 unfold agree at hr
 split at hr
 ·rename_i v h' nx'
  rw [Bool.and_eq_true,Bool.and_eq_true,Nat.ble_eq,List.all_eq_true] at hr
  obtain ⟨h1,h2,h3⟩ := hr
  refine ⟨h',nx',?_,h2,fun x hx => ?_⟩
  ·split at h1
   ·rename_i c hc
    rw [ansK_eq hc,sameK_eq h1]
   ·cases h1
  ·have := h3 x hx
   rw [List.any_eq_true] at this
   obtain ⟨y,hy,e⟩ := this
   rw [Bool.and_eq_true,Nat.beq_eq] at e
   have : x=y := Prod.ext e.1.symm (acsW_eq e.2)
   rw [this]
   exact hy
 ·cases hr
variable {T : Hs→Prop} {z : Nat→Prop}
def AskTrue (S : Sx) (T : Hs→Prop) (z : Nat→Prop) : Prop := ∀ X,T X→∀ a,askOk S a=true→(z a.2.2.2→T ((a.1,a.2.1,a.2.2.1,1) :: X))∧(¬ z a.2.2.2→T ((a.1,a.2.1,a.2.2.1,0) :: X))
theorem allZ_true (hk : AskTrue S T z) : ∀ {l : List Ask} {X : Hs},T X→(∀ a ∈ l,askOk S a=true)→(∀ a ∈ l,z a.2.2.2)→T (allZ l X)
 | [],_,h,_,_ => h
 | (k,a,b,d) :: l,X,h,ho,hz => allZ_true (l := l) hk ((hk X h (k,a,b,d) (ho _ List.mem_cons_self)).1 (hz _ List.mem_cons_self)) (fun a ha => ho a (List.mem_cons_of_mem _ ha)) (fun a ha => hz a (List.mem_cons_of_mem _ ha))
theorem splits_true (hk : AskTrue S T z) : ∀ {l : List Ask} {X : Hs},T X→(∀ a ∈ l,askOk S a=true)→(∃ a ∈ l,¬ z a.2.2.2)→∃ X' ∈ splits l X,T X'
 | [],_,_,_,⟨_,h,_⟩ => by cases h
 | (k,a,b,d) :: l,X,h,ho,hz => by
  by_cases e : z d
  ·obtain ⟨X',h1,h2⟩ := splits_true (l := l) hk ((hk X h (k,a,b,d) (ho _ List.mem_cons_self)).1 e) (fun a ha => ho a (List.mem_cons_of_mem _ ha)) (by
    obtain ⟨c,hc,hn⟩ := hz
    rcases List.mem_cons.1 hc with rfl | hc
    ·exact (hn e).elim
    ·exact ⟨c,hc,hn⟩)
   exact ⟨X',List.mem_cons_of_mem _ h1,h2⟩
  ·exact ⟨_,List.mem_cons_self,(hk X h (k,a,b,d) (ho _ List.mem_cons_self)).2 e⟩
theorem callC_ok {cs : List (FuncId × Nat)} (hm : S.P.follows .mixedOrders=true) (hN : ∀ X,T X→Knows (S.plus X) E) (hP : ∀ X,T X→PrimOk (S.plus X) E w0) (hk : AskTrue S T z)
  (hs : ∀ X,T X→∀ l s r,sqN S l=some s→(S.plus X).kn 0 s 0=some r→(Nat.beq 1 r=true→∀ d ∈ l,z d)∧(Nat.beq 1 r=false→∃ d ∈ l,¬ z d)) : ∀ n X,T X→CallOk S E w0 (callC S cs n X)
 | 0,_,_ => fun _ _ _ _ _ h => by cases h
 | n+1,X,hX => fun f args h nx p hp => by
  have body : ∀ Y,T Y→CallOk S E w0 (bodyC (S.plus Y) (callC S cs n Y)) := fun Y hY => bodyC_ok (S := S.plus Y) hm (hN Y hY) (hP Y hY) (callC_ok hm hN hP hk hs n Y hY)
  unfold callC at hp
  split at hp
  ·exact body X hX f args h nx p hp
  ·split at hp
   ·exact body X hX f args h nx p hp
   rename_i l r hk'
   obtain ⟨hl,s,h1,h2⟩ := askIt_some hk'
   have h3 := hp
   obtain ⟨a1,a0⟩ := hs X hX _ s r h1 h2
   cases e : Nat.beq 1 r with
   | true =>
    rw [e] at h3
    exact body _ (allZ_true hk hX hl fun a ha => a1 e _ (List.mem_map_of_mem ha)) f args h nx p h3
   | false =>
    rw [e] at h3
    obtain ⟨d,hd,hz⟩ := a0 e
    obtain ⟨a,ha,rfl⟩ := List.mem_map.1 hd
    obtain ⟨X',m1,m2⟩ := splits_true hk hX hl ⟨a,ha,hz⟩
    replace h3 : joinC h nx ((splits l X).map fun X' => weakR (S.plus X') (bodyC (S.plus X') (callC S cs n X') f args h nx))=some p := h3
    unfold joinC at h3
    split at h3
    ·rename_i p0 rs hrs
     rw [Option.bind_eq_some_iff] at h3
     obtain ⟨b,hb,h4⟩ := h3
     rw [ifO_some,List.all_eq_true] at h4
     obtain ⟨h5,h6⟩ := h4
     cases h6
     obtain ⟨h',nx',q1,q2,q3⟩ := agree_some (h5 _ (List.mem_map_of_mem m1))
     intro γ w vs hi hA hb hlt hf
     refine (weak_ok (hN X' m2) (body X' m2) f args h nx _ q1 γ w vs hi hA hb hlt fun b g1 g2 => hf b g1 (Nat.lt_of_lt_of_le g2 q2)).mono ?_
     rintro _ w' ⟨r',γ',rfl,hef,hv,hx⟩
     exact ⟨r',γ',rfl,hef.wide (Nat.le_refl _) q2,hv,fun x hh => hx x (q3 x hh)⟩
    ·cases h3
end
end Cx
/- VPC -/
namespace Go.Proofs.YtgkjeoeliehihaaGreatDoor
open Cx Go Go.RowKit
section
variable {N : List Nd} {H : List (Nat × Nat × Nat × Nat)} {K : List (FuncId × List AC)} {L C : List (List Nat × Nat)} {Z : List Nat} {q : Nat→Rat} {σ : Nat→ByteArray} {w0 : World} {cl : List FuncId} {cs pr : List (FuncId × Nat)}
theorem kn_cons {k a b k' a' b' r' : Nat} {r : Nat} (h : knFrom k a b ((k',a',b',r') :: H)=some r) : (k=k'∧a=a'∧b=b'∧r=r') ∨ knFrom k a b H=some r := by
 unfold knFrom at h
 cases e : (Nat.beq k k' && (Nat.beq a a' && Nat.beq b b')) with
 | true =>
  rw [e] at h
  simp only [Bool.and_eq_true,Nat.beq_eq] at e
  exact Or.inl ⟨e.1,e.2.1,e.2.2,(Option.some.inj h).symm⟩
 | false =>
  rw [e] at h
  exact Or.inr h
theorem Hy.add0 (Y : Hy N H L C Z q σ) {a r : Nat} (h : Nat.beq 1 r=true ↔ q a=0) : Hy N ((0,a,0,r) :: H) L C Z q σ where
 nat := Y.nat
 qs := Y.qs
 zs := Y.zs
 par := Y.par
 lit := Y.lit
 k0 := fun a' r' g => by
  rcases kn_cons g with ⟨_,e1,_,e2⟩ | g
  ·rw [e1,e2]
   exact h
  ·exact Y.k0 a' r' g
 k1 := fun a' r' g => by
  rcases kn_cons g with ⟨e,_⟩ | g
  ·cases e
  ·exact Y.k1 a' r' g
 k2 := fun a' r' g => by
  rcases kn_cons g with ⟨e,_⟩ | g
  ·cases e
  ·exact Y.k2 a' r' g
 k4 := fun l a' b' r' g1 g => by
  rcases kn_cons g with ⟨e,_⟩ | g
  ·cases e
  ·exact Y.k4 l a' b' r' g1 g
 k3 := fun a' b' r' g => by
  rcases kn_cons g with ⟨e,_⟩ | g
  ·cases e
  ·exact Y.k3 a' b' r' g
 k6 := fun a' b' r' g => by
  rcases kn_cons g with ⟨e,_⟩ | g
  ·cases e
  ·exact Y.k6 a' b' r' g
 k5 := fun a' r' g => by
  rcases kn_cons g with ⟨e,_⟩ | g
  ·cases e
  ·exact Y.k5 a' r' g
theorem Hy.add3 (Y : Hy N H L C Z q σ) {a b r : Nat} (h : Nat.beq 1 r=true ↔ q a=q b) : Hy N ((3,a,b,r) :: H) L C Z q σ where
 nat := Y.nat
 qs := Y.qs
 zs := Y.zs
 par := Y.par
 lit := Y.lit
 k0 := fun a' r' g => by
  rcases kn_cons g with ⟨e,_⟩ | g
  ·cases e
  ·exact Y.k0 a' r' g
 k1 := fun a' r' g => by
  rcases kn_cons g with ⟨e,_⟩ | g
  ·cases e
  ·exact Y.k1 a' r' g
 k2 := fun a' r' g => by
  rcases kn_cons g with ⟨e,_⟩ | g
  ·cases e
  ·exact Y.k2 a' r' g
 k4 := fun l a' b' r' g1 g => by
  rcases kn_cons g with ⟨e,_⟩ | g
  ·cases e
  ·exact Y.k4 l a' b' r' g1 g
 k3 := fun a' b' r' g => by
  rcases kn_cons g with ⟨_,e1,e2,e3⟩ | g
  ·rw [e1,e2,e3]
   exact h
  ·exact Y.k3 a' b' r' g
 k6 := fun a' b' r' g => by
  rcases kn_cons g with ⟨e,_⟩ | g
  ·cases e
  ·exact Y.k6 a' b' r' g
 k5 := fun a' r' g => by
  rcases kn_cons g with ⟨e,_⟩ | g
  ·cases e
  ·exact Y.k5 a' r' g
theorem ask_true : AskTrue (sx Tryz.prog N H K L C Z pr) (fun X => Hy N (X ++ H) L C Z q σ) (fun d => q d=0) := fun X Y a ha => by
 obtain ⟨k,a,b,d⟩ := a
 have t1 : Nat.beq 1 1=true := rfl
 have t0 : Nat.beq 1 0 ≠ true := fun h => by cases h
 unfold askOk at ha
 rw [Bool.or_eq_true] at ha
 rcases ha with ha | ha
 ·simp only [Bool.and_eq_true,Nat.beq_eq] at ha
  obtain ⟨rfl,rfl,rfl⟩ := ha
  exact ⟨fun h => Hy.add0 Y ⟨fun _ => h,fun _ => t1⟩,fun h => Hy.add0 Y ⟨fun g => (t0 g).elim,fun g => (h g).elim⟩⟩
 ·rw [Bool.and_eq_true,Nat.beq_eq] at ha
  obtain ⟨rfl,hb⟩ := ha
  split at hb
  ·rename_i op ar hn
   rw [Bool.and_eq_true,Nat.beq_eq] at hb
   obtain ⟨rfl,hb⟩ := hb
   have e := beqL_eq hb
   subst e
   have hv : q d=q a - q b := Y.nat d _ hn
   have h2 : q d=0 ↔ q a=q b := by
    rw [hv]
    constructor <;> intro h <;> grind
   exact ⟨fun h => Hy.add3 Y ⟨fun _ => h2.1 h,fun _ => t1⟩,fun h => Hy.add3 Y ⟨fun g => (t0 g).elim,fun g => (h (h2.2 g)).elim⟩⟩
  ·cases hb
theorem sq_nn (y : Rat) : 0≤y*y := by
 by_cases h : y=0
 ·rw [h,Rat.zero_mul]
  exact Rat.le_refl
 ·exact Rat.le_of_lt (sq1_pos h)
theorem sq_sum {x y : Rat} (hx : 0≤x) : x+y*y=0 ↔ x=0∧y=0 := by
 constructor
 ·intro h
  have h2 := sq_nn y
  have h3 : x=0 := by grind
  refine ⟨h3,?_⟩
  have : y*y=0 := by grind
  rcases Rat.mul_eq_zero.1 this with g | g <;> exact g
 ·rintro ⟨rfl,rfl⟩
  grind
theorem sqF_val {H' : List (Nat × Nat × Nat × Nat)} (Y : Hy N H' L C Z q σ) : ∀ {l : List Nat} {s t : Nat},sqF (sx Tryz.prog N H K L C Z pr) s l=some t→0≤q s→0≤q t∧(q t=0 ↔ q s=0∧∀ d ∈ l,q d=0)
 | [],s,t,h,hs => by
  cases h
  exact ⟨hs,fun e => ⟨e,fun d hd => by cases hd⟩,fun e => e.1⟩
 | a :: l,s,t,h,hs => by
  unfold sqF at h
  simp only [Option.bind_eq_some_iff] at h
  obtain ⟨b,h1,c,h2,h3⟩ := h
  have e1 : q b=q a*q a := Hy.nd (H := H') (K := K) (pr := pr) Y h1
  have e2 : q c=q s+q b := Hy.nd (H := H') (K := K) (pr := pr) Y h2
  have n := sq_nn (q a)
  obtain ⟨g1,g2⟩ := sqF_val Y h3 (by grind)
  refine ⟨g1,g2.trans ?_⟩
  have e3 := sq_sum (y := q a) hs
  rw [e2,e1,e3]
  constructor
  ·rintro ⟨⟨x,y⟩,z⟩
   refine ⟨x,fun d hd => ?_⟩
   rcases List.mem_cons.1 hd with rfl | hd
   ·exact y
   ·exact z d hd
  ·rintro ⟨x,y⟩
   exact ⟨⟨x,y a List.mem_cons_self⟩,fun d hd => y d (List.mem_cons_of_mem _ hd)⟩
theorem sqN_val {H' : List (Nat × Nat × Nat × Nat)} (Y : Hy N H' L C Z q σ) {l : List Nat} {s : Nat} (h : sqN (sx Tryz.prog N H K L C Z pr) l=some s) : q s=0 ↔ ∀ d ∈ l,q d=0 := by
 unfold sqN at h
 split at h
 ·cases h
 ·rename_i a l
  rw [Option.bind_eq_some_iff] at h
  obtain ⟨b,h1,h2⟩ := h
  have e1 : q b=q a*q a := Hy.nd (H := H') (K := K) (pr := pr) Y h1
  have n := sq_nn (q a)
  obtain ⟨_,g⟩ := sqF_val Y h2 (by grind)
  rw [g,e1]
  constructor
  ·rintro ⟨x,y⟩ d hd
   rcases List.mem_cons.1 hd with rfl | hd
   ·rcases Rat.mul_eq_zero.1 x with x | x <;> exact x
   ·exact y d hd
  ·intro y
   refine ⟨?_,fun d hd => y d (List.mem_cons_of_mem _ hd)⟩
   rw [y a List.mem_cons_self,Rat.zero_mul]
theorem run_cases {f : FuncId} {args : List AV} {vs : List Value} {k : Nat} {p : List HB × Nat} {b : Bool} (Y : Hy N H L C Z q σ) (hm : (Tryz.prog).follows .mixedOrders=true) {w : World} (hP : ∀ H',Hy N H' L C Z q σ→PrimOk (sx Tryz.prog N H' K L C Z pr) (evS q σ) w) (hr : callC (sx Tryz.prog N H K L C Z pr) cs k [] f args [] 0=some (kB b,p))
  (hA : A2 (avOn (cOn (evS q σ) K (fun _ => none) w)) args vs) : Calls Tryz.prog f vs.toArray w fun e w' => Below w.heap.size w w'∧e=.returned (.bool b) := by
 refine (callC_ok (S := sx Tryz.prog N H K L C Z pr) (E := evS q σ) (w0 := w) (T := fun X => Hy N (X ++ H) L C Z q σ) (z := fun d => q d=0) hm (fun X hX => knows hX) (fun X hX => hP _ hX) ask_true ?_ k [] Y f args [] 0 (kB b,p) hr (fun _ => none) w vs ⟨Below.refl _ _,(fun _ _ h => by cases h)⟩ hA (fun x hx => by cases hx) (fun x hx => by cases hx) (fun _ _ _ => rfl)).mono ?_
 ·intro X hX l s r h1 h2
  have e := hX.k0 s r h2
  have g := sqN_val hX h1
  refine ⟨fun h => g.1 (e.1 h),fun h => ?_⟩
  have hn : ¬ ∀ d ∈ l,q d=0 := fun q' => by
   rw [e.2 (g.2 q')] at h
   cases h
  simpa using hn
 ·rintro _ w' ⟨r,γ',rfl,hef,hv,_⟩
  exact ⟨hef.wi.bel,by rw [show r=.bool b from (asC_on (v := kB b) (c := .inl (.bool b)) rfl hv).1]⟩
theorem run_toldC {f : FuncId} {args : List AV} {vs : List Value} {k : Nat} {p : List HB × Nat} {b : Bool} (Y : Hy N H L C Z q σ) (hc : ∀ f ∈ cl,Closed f) (hm : (Tryz.prog).follows .mixedOrders=true) (hr : callC (sx Tryz.prog N H K L C Z (prC cl)) cs k [] f args [] 0=some (kB b,p)) {w : World} (hp : PreS w)
  (hA : A2 (avOn (cOn (evS q σ) K (fun _ => none) w)) args vs) : Calls Tryz.prog f vs.toArray w fun e w' => Below w.heap.size w w'∧e=.returned (.bool b) := run_cases Y hm (fun _ Y' => primOk Y' hp hc) hr hA
theorem run_toldC' {f : FuncId} {args : List AV} {vs : List Value} (k : Nat) (Y : Hy N H L C Z q σ) (hc : ∀ f ∈ cl,Closed f) (hm : (Tryz.prog).follows .mixedOrders=true) (hr : (callC (sx Tryz.prog N H K L C Z (prC cl)) cs k [] f args [] 0).map (·.1)=some (kB true)) {w : World} (hp : PreS w)
  (hA : A2 (avOn (cOn (evS q σ) K (fun _ => none) w)) args vs) : Calls Tryz.prog f vs.toArray w fun e w' => Below w.heap.size w w'∧e=.returned (.bool true) := by
 rw [Option.map_eq_some_iff] at hr
 obtain ⟨⟨v,p⟩,h1,h2⟩ := hr
 dsimp only at h2
 subst h2
 exact run_toldC Y hc hm h1 hp hA
end
end Go.Proofs.YtgkjeoeliehihaaGreatDoor
/- VPD -/
namespace Cx
open Go Go.RowKit
def a1sB : List A1→List A1→Bool
 | [],[] => true
 | (a,x) :: l,(b,y) :: m => (a == b && acsW x y) && a1sB l m
 | _,_ => false
theorem a1sB_eq : ∀ {l m : List A1},a1sB l m=true→l=m
 | [],[],_ => rfl
 | (a,x) :: l,(b,y) :: m,h => by
  unfold a1sB at h
  simp only [Bool.and_eq_true,beq_iff_eq] at h
  obtain ⟨⟨h1,h2⟩,h3⟩ := h
  rw [h1,acsW_eq h2,a1sB_eq h3]
 | [],_ :: _,h => by cases h
 | _ :: _,[],h => by cases h
def avsB : List AV→List AV→Bool
 | [],[] => true
 | (a,x) :: l,(b,y) :: m => (a == b && a1sB x y) && avsB l m
 | _,_ => false
theorem avsB_eq : ∀ {l m : List AV},avsB l m=true→l=m
 | [],[],_ => rfl
 | (a,x) :: l,(b,y) :: m,h => by
  unfold avsB at h
  simp only [Bool.and_eq_true,beq_iff_eq] at h
  obtain ⟨⟨h1,h2⟩,h3⟩ := h
  rw [h1,a1sB_eq h2,avsB_eq h3]
 | [],_ :: _,h => by cases h
 | _ :: _,[],h => by cases h
abbrev Memo := List (FuncId × List AV × AV)
def memoGet (f : FuncId) (args : List AV) : Memo→Option AV
 | [] => none
 | (g,bs,v) :: m => bif Nat.beq f g && avsB args bs then some v else memoGet f args m
theorem memoGet_mem {f : FuncId} {args : List AV} {v : AV} : ∀ {m : Memo},memoGet f args m=some v→(f,args,v) ∈ m
 | [],h => by cases h
 | (g,bs,u) :: m,h => by
  unfold memoGet at h
  cases e : (Nat.beq f g && avsB args bs) with
  | true =>
   rw [e] at h
   rw [Bool.and_eq_true,Nat.beq_eq] at e
   rw [e.1,avsB_eq e.2,show u=v from Option.some.inj h]
   exact List.mem_cons_self
  | false =>
   rw [e] at h
   exact List.mem_cons_of_mem _ (memoGet_mem h)
def bareC : AC→Bool
 | .inl _ => true
 | .inr (k,_) => Nat.ble k 2
def bareV (v : AV) : Bool := v.2.all fun x => x.2.all bareC
def callD (S : Sx) (cs : List (FuncId × Nat)) (M : Memo) : Nat→Hs→CallF
 | 0,_,_,_,_,_ => none
 | n+1,X,f,args,h,nx => match memoGet f args M with
  | some v => some (v,h,nx)
  | none => match prGet f cs with
   | none => bodyC (S.plus X) (callD S cs M n X) f args h nx
   | some c => match askIt S X h c args with
    | none => bodyC (S.plus X) (callD S cs M n X) f args h nx
    | some (l,r) => bif Nat.beq 1 r then bodyC (S.plus (allZ l X)) (callD S cs M n (allZ l X)) f args h nx
     else joinC h nx ((splits l X).map fun X' => weakR (S.plus X') (bodyC (S.plus X') (callD S cs M n X') f args h nx))
def MemoOk (S : Sx) (E : Ev S.nb) (w0 : World) (M : Memo) : Prop := ∀ f args v,(f,args,v) ∈ M→∀ (γ : Nat→Option Nat) (w : World) (vs : List Value),WI w0 γ w→A2 (avOn (cOn E S.K γ w)) args vs →
 Calls S.P f vs.toArray w fun e w' => ∃ r,e=.returned r∧(∀ wr nx,(∀ b ∈ wr,Live γ b)→Ef S.nb w0 wr nx nx γ w γ w')∧avOn (cOn E S.K γ w') v r
section
variable {S : Sx} {E : Ev S.nb} {w0 : World}
theorem bareC_on {K K' : List (FuncId × List AC)} {γ γ' : Nat→Option Nat} {w : World} {d : Nat} {c : AC} {v : Value} (hc : bareC c=true) (h : cellOn E K γ w d c v) : cellOn E K' γ' w d c v := by
 cases c with
 | inl u =>
  unfold cellOn at h ⊢
  exact h
 | inr t =>
  obtain ⟨k,a,b,n,c⟩ := t
  have hk : k≤2 := by
   unfold bareC at hc
   rw [Nat.ble_eq] at hc
   exact hc
  match k,hk with
  | 0,_ =>
   unfold cellOn at h ⊢
   exact h
  | 1,_ =>
   unfold cellOn at h ⊢
   exact h
  | 2,_ =>
   unfold cellOn at h ⊢
   exact h
theorem A2_imp {α : Type} {R R' : α→Value→Prop} {P : α→Prop} (h : ∀ a v,P a→R a v→R' a v) : ∀ {l : List α} {vs : List Value},(∀ a ∈ l,P a)→A2 R l vs→A2 R' l vs
 | [],[],_,_ => trivial
 | _ :: _,_ :: _,hp,q => ⟨h _ _ (hp _ List.mem_cons_self) q.1,A2_imp h (fun a ha => hp a (List.mem_cons_of_mem _ ha)) q.2⟩
 | [],_ :: _,_,q => q.elim
 | _ :: _,[],_,q => q.elim
theorem bareV_on {K K' : List (FuncId × List AC)} {γ γ' : Nat→Option Nat} {w : World} {x : AV} {v : Value} (hx : bareV x=true) (h : avOn (cOn E K γ w) x v) : avOn (cOn E K' γ' w) x v := by
 unfold bareV at hx
 rw [List.all_eq_true] at hx
 have one : ∀ (y : A1) u,(∀ c ∈ y.2,bareC c=true)→a1On (cOn E K γ w) y u→a1On (cOn E K' γ' w) y u := fun y u hy q => by
  obtain ⟨b,cs⟩ := y
  cases b with
  | true =>
   obtain ⟨us,e,q⟩ := q
   exact ⟨us,e,A2_imp (P := fun c => bareC c=true) (fun _ _ hc q => bareC_on hc q) hy q⟩
  | false => exact A2_imp (P := fun c => bareC c=true) (fun _ _ hc q => bareC_on hc q) hy q
 have all : ∀ y ∈ x.2,∀ c ∈ y.2,bareC c=true := fun y hy c hc => (List.all_eq_true.1 (hx y hy)) c hc
 obtain ⟨b,ys⟩ := x
 cases b with
 | true =>
  obtain ⟨us,e,q⟩ := h
  exact ⟨us,e,A2_imp (P := fun y : A1 => ∀ c ∈ y.2,bareC c=true) (fun y u hy q => one y u hy q) all q⟩
 | false => exact A2_imp (P := fun y : A1 => ∀ c ∈ y.2,bareC c=true) (fun y u hy q => one y u hy q) all h
variable {T : Hs→Prop} {z : Nat→Prop}
theorem callD_ok {cs : List (FuncId × Nat)} {M : Memo} (hm : S.P.follows .mixedOrders=true) (hM : MemoOk S E w0 M) (hN : ∀ X,T X→Knows (S.plus X) E) (hP : ∀ X,T X→PrimOk (S.plus X) E w0) (hk : AskTrue S T z)
  (hs : ∀ X,T X→∀ l s r,sqN S l=some s→(S.plus X).kn 0 s 0=some r→(Nat.beq 1 r=true→∀ d ∈ l,z d)∧(Nat.beq 1 r=false→∃ d ∈ l,¬ z d)) : ∀ n X,T X→CallOk S E w0 (callD S cs M n X)
 | 0,_,_ => fun _ _ _ _ _ h => by cases h
 | n+1,X,hX => fun f args h nx p hp => by
  have body : ∀ Y,T Y→CallOk S E w0 (bodyC (S.plus Y) (callD S cs M n Y)) := fun Y hY => bodyC_ok (S := S.plus Y) hm (hN Y hY) (hP Y hY) (callD_ok hm hM hN hP hk hs n Y hY)
  unfold callD at hp
  split at hp
  ·rename_i v hv
   cases hp
   intro γ w vs hi hA hb hlt hf
   refine (hM f args v (memoGet_mem hv) γ w vs hi hA).mono ?_
   rintro _ w' ⟨r,rfl,hef,hr⟩
   have live : ∀ b ∈ h.map (·.1),Live γ b := fun b hb' => by
    obtain ⟨x,hx,rfl⟩ := List.mem_map.1 hb'
    obtain ⟨_,_,_,_,hl,_⟩ := hb x hx
    exact hl
   exact ⟨r,γ,rfl,hef _ _ live,hr,fun x hx => (hef [] nx no_live).box hi (hb x hx) (by simp)⟩
  ·split at hp
   ·exact body X hX f args h nx p hp
   ·split at hp
    ·exact body X hX f args h nx p hp
    rename_i l r hk'
    obtain ⟨hl,s,h1,h2⟩ := askIt_some hk'
    have h3 := hp
    obtain ⟨a1,a0⟩ := hs X hX _ s r h1 h2
    cases e : Nat.beq 1 r with
    | true =>
     rw [e] at h3
     exact body _ (allZ_true hk hX hl fun a ha => a1 e _ (List.mem_map_of_mem ha)) f args h nx p h3
    | false =>
     rw [e] at h3
     obtain ⟨d,hd,hz⟩ := a0 e
     obtain ⟨a,ha,rfl⟩ := List.mem_map.1 hd
     obtain ⟨X',m1,m2⟩ := splits_true hk hX hl ⟨a,ha,hz⟩
     replace h3 : joinC h nx ((splits l X).map fun X' => weakR (S.plus X') (bodyC (S.plus X') (callD S cs M n X') f args h nx))=some p := h3
     unfold joinC at h3
     split at h3
     ·rename_i p0 rs hrs
      rw [Option.bind_eq_some_iff] at h3
      obtain ⟨b,hb,h4⟩ := h3
      rw [ifO_some,List.all_eq_true] at h4
      obtain ⟨h5,h6⟩ := h4
      cases h6
      obtain ⟨h',nx',q1,q2,q3⟩ := agree_some (h5 _ (List.mem_map_of_mem m1))
      intro γ w vs hi hA hb hlt hf
      refine (weak_ok (hN X' m2) (body X' m2) f args h nx _ q1 γ w vs hi hA hb hlt fun b g1 g2 => hf b g1 (Nat.lt_of_lt_of_le g2 q2)).mono ?_
      rintro _ w' ⟨r',γ',rfl,hef,hv,hx⟩
      exact ⟨r',γ',rfl,hef.wide (Nat.le_refl _) q2,hv,fun x hh => hx x (q3 x hh)⟩
     ·cases h3
theorem memo_run {K1 K2 : List (FuncId × List AC)} {H1 H2 : Hs} {M : Memo} {f : FuncId} {args : List AV} {v : AV} {p : List HB × Nat} {call : CallF} (hC : CallOk { S with H := H1,K := K1 } E w0 call) (hr : call f args [] 0=some (v,p)) (ha : args.all bareV=true) (hv : bareV v=true) (hM : MemoOk { S with H := H2,K := K2 } E w0 M) : MemoOk { S with H := H2,K := K2 } E w0 ((f,args,v) :: M) := fun g bs u hmem => by
 rcases List.mem_cons.1 hmem with e | hmem
 ·cases e
  intro γ w vs hi hA
  rw [List.all_eq_true] at ha
  refine (hC f args [] 0 (v,p) hr (fun _ => none) w vs ⟨hi.bel,(fun _ _ h => by cases h)⟩ (A2_imp (P := fun x => bareV x=true) (fun _ _ hx q => bareV_on hx q) ha hA) (fun x hx => by cases hx) (fun x hx => by cases hx) (fun _ _ _ => rfl)).mono ?_
  rintro _ w' ⟨r,γ',rfl,hef,hr,_⟩
  refine ⟨r,rfl,fun wr nx hl => ⟨leG.refl _,fun _ _ => rfl,fun _ _ h => Or.inl h,⟨hef.wi.bel,fun b G q => ⟨(hi.lo b G q).1,Nat.lt_of_lt_of_le (hi.lo b G q).2 hef.gr.size⟩⟩,hef.gr,fun G hG _ => hef.keep G hG (fun b hb => by cases hb),hl⟩,bareV_on hv hr⟩
 ·exact hM g bs u hmem
def memoOne (S : Sx) (cs : List (FuncId × Nat)) (k : Nat) : Memo→Bool
 | (f,args,v) :: M => (match callD S cs M k [] f args [] 0 with
  | some (u,_) => avsB [u] [v]
  | none => false) && (args.all bareV && bareV v)
 | [] => false
def memoChk (S : Sx) (cs : List (FuncId × Nat)) (k : Nat) : Nat→Memo→Bool
 | 0,_ => true
 | n+1,M => memoOne S cs k M && memoChk S cs k n M.tail
def qA (l : List Nat) : AV := (false,[(true,l.flatMap qCells)])
def tA (l : List Nat) : AV := (false,[(true,l.map fun a => .inr (1,a,0,0,0))])
def pA (l : List Nat) : AV := (false,[(true,l.map fun a => .inr (2,a,0,0,0))])
theorem memo_nil : MemoOk S E w0 [] := fun _ _ _ h => by cases h
end
end Cx
/- VPE -/
namespace Go.Proofs.YtgkjeoeliehihaaGreatDoor
open Cx Go Go.RowKit
section
variable {N : List Nd} {H : List (Nat × Nat × Nat × Nat)} {K : List (FuncId × List AC)} {L C : List (List Nat × Nat)} {Z : List Nat} {q : Nat→Rat} {σ : Nat→ByteArray} {cl : List FuncId} {cs pr : List (FuncId × Nat)} {M : Memo} {w : World}
theorem callD_told (Y : Hy N H L C Z q σ) (hc : ∀ f ∈ cl,Closed f) (hm : (Tryz.prog).follows .mixedOrders=true) (hp : PreS w) (hM : MemoOk (sx Tryz.prog N H K L C Z (prC cl)) (evS q σ) w M) (k : Nat) : CallOk (sx Tryz.prog N H K L C Z (prC cl)) (evS q σ) w (callD (sx Tryz.prog N H K L C Z (prC cl)) cs M k []) :=
 callD_ok (S := sx Tryz.prog N H K L C Z (prC cl)) (E := evS q σ) (w0 := w) (T := fun X => Hy N (X ++ H) L C Z q σ) (z := fun d => q d=0) hm hM (fun X hX => knows hX) (fun X hX => primOk hX hp hc) ask_true (fun X hX l s r h1 h2 => by
  have e := hX.k0 s r h2
  have g := sqN_val hX h1
  refine ⟨fun h => g.1 (e.1 h),fun h => ?_⟩
  have hn : ¬ ∀ d ∈ l,q d=0 := fun q' => by
   rw [e.2 (g.2 q')] at h
   cases h
  simpa using hn) k [] Y
def MemoAll (N : List Nd) (L C : List (List Nat × Nat)) (Z : List Nat) (q : Nat→Rat) (σ : Nat→ByteArray) (cl : List FuncId) (w : World) (M : Memo) : Prop := ∀ H K,MemoOk (sx Tryz.prog N H K L C Z (prC cl)) (evS q σ) w M
theorem memoAll_nil : MemoAll N L C Z q σ cl w [] := fun _ _ => memo_nil
theorem memoAll_cons {H1 : List (Nat × Nat × Nat × Nat)} (Y : Hy N H1 L C Z q σ) (hc : ∀ f ∈ cl,Closed f) (hm : (Tryz.prog).follows .mixedOrders=true) (hp : PreS w) {f : FuncId} {args : List AV} {v : AV} (k : Nat) (hr : memoOne (sx Tryz.prog N H1 [] L C Z (prC cl)) cs k ((f,args,v) :: M)=true) (hM : MemoAll N L C Z q σ cl w M) : MemoAll N L C Z q σ cl w ((f,args,v) :: M) := fun H K => by
 unfold memoOne at hr
 simp only [Bool.and_eq_true] at hr
 obtain ⟨h1,h2,h3⟩ := hr
 split at h1
 ·rename_i u p hu
  have e := avsB_eq h1
  cases e
  exact memo_run (S := sx Tryz.prog N H K L C Z (prC cl)) (K1 := []) (H1 := H1) (K2 := K) (H2 := H) (callD_told (K := []) (cs := cs) Y hc hm hp (hM H1 []) k) hu h2 h3 (hM H K)
 ·cases h1
theorem memoAll_drop {i : Nat} {H1 : List (Nat × Nat × Nat × Nat)} (Y : Hy N H1 L C Z q σ) (hc : ∀ f ∈ cl,Closed f) (hm : (Tryz.prog).follows .mixedOrders=true) (hp : PreS w) {k : Nat} (hr : memoOne (sx Tryz.prog N H1 [] L C Z (prC cl)) cs k (M.drop i)=true) (hM : MemoAll N L C Z q σ cl w (M.drop (i+1))) : MemoAll N L C Z q σ cl w (M.drop i) := by
 rw [← List.tail_drop] at hM
 generalize M.drop i=D at *
 match D with
 | [] => cases hr
 | (f,args,v) :: D => exact memoAll_cons Y hc hm hp k hr hM
theorem memoAll_chk {H1 : List (Nat × Nat × Nat × Nat)} (Y : Hy N H1 L C Z q σ) (hc : ∀ f ∈ cl,Closed f) (hm : (Tryz.prog).follows .mixedOrders=true) (hp : PreS w) {k : Nat} : ∀ (n : Nat) {M : Memo},memoChk (sx Tryz.prog N H1 [] L C Z (prC cl)) cs k n M=true→MemoAll N L C Z q σ cl w (M.drop n)→MemoAll N L C Z q σ cl w M
 | 0,_,_,h => h
 | n+1,M,hr,h => by
  unfold memoChk at hr
  rw [Bool.and_eq_true] at hr
  have h1 := memoAll_chk Y hc hm hp n hr.2 (by rw [List.drop_tail]; exact h)
  exact memoAll_drop (i := 0) Y hc hm hp hr.1 (by rw [Nat.zero_add,List.drop_one]; exact h1)
theorem run_toldD' {f : FuncId} {args : List AV} {vs : List Value} (k : Nat) (Y : Hy N H L C Z q σ) (hc : ∀ f ∈ cl,Closed f) (hm : (Tryz.prog).follows .mixedOrders=true) (hp : PreS w) (hM : MemoAll N L C Z q σ cl w M) (hr : (callD (sx Tryz.prog N H K L C Z (prC cl)) cs M k [] f args [] 0).map (·.1)=some (kB true))
  (hA : A2 (avOn (cOn (evS q σ) K (fun _ => none) w)) args vs) : Calls Tryz.prog f vs.toArray w fun e w' => Below w.heap.size w w'∧e=.returned (.bool true) := by
 rw [Option.map_eq_some_iff] at hr
 obtain ⟨⟨v,p⟩,h1,h2⟩ := hr
 dsimp only at h2
 subst h2
 refine (callD_told (cs := cs) Y hc hm hp (hM H K) k f args [] 0 (kB true,p) h1 (fun _ => none) w vs ⟨Below.refl _ _,(fun _ _ h => by cases h)⟩ hA (fun x hx => by cases hx) (fun x hx => by cases hx) (fun _ _ _ => rfl)).mono ?_
 rintro _ w' ⟨r,γ',rfl,hef,hv,_⟩
 exact ⟨hef.wi.bel,by rw [show r=.bool true from (asC_on (v := kB true) (c := .inl (.bool true)) rfl hv).1]⟩
end
end Go.Proofs.YtgkjeoeliehihaaGreatDoor
/- VY -/
namespace Go.Proofs.YtgkjeoeliehihaaGreatDoor
open Go.RowKit Cx
theorem den_num (t : Rat) : t*(t.den : Rat)=((t.num : Int) : Rat) := by
 conv => lhs; lhs; rw [← Rat.mkRat_self t]
 have h0 : (t.den : Rat) ≠ 0 := fun h => t.den_nz (by exact_mod_cast h)
 rw [Rat.mkRat_eq_div,Rat.div_mul_cancel h0]
theorem whole {q : Rat} (h : q.den=1) : q=((q.num : Int) : Rat) := by
 have := den_num q
 rw [h] at this
 rw [← this]
 show q=q*((1 : Nat) : Rat)
 exact (Rat.mul_one q).symm
end Go.Proofs.YtgkjeoeliehihaaGreatDoor
/- VSZ -/
namespace Go.Proofs.YtgkjeoeliehihaaGreatDoor
open Go.RowKit Cx
structure QW (z : Nat) (x : Rat) : Prop where
 qs : QS z x
 wh : x.den=1
theorem QW.of {z : Nat} {n : Int} (h : n.natAbs < 2 ^ z) (hz : 0 < z) : QW z ((n : Int) : Rat) :=
 ⟨⟨by simpa using h,by
  show ((n : Int) : Rat).den < 2 ^ z
  rw [Rat.den_intCast]
  exact Nat.one_lt_two_pow (by omega)⟩,Rat.den_intCast n⟩
theorem QW.mono {k l : Nat} {x : Rat} (h : QW k x) (hk : k≤l) : QW l x := ⟨h.qs.mono hk,h.wh⟩
theorem two_max {a b x y : Nat} (h1 : a < 2 ^ x) (h2 : b < 2 ^ y) : a+b < 2 ^ (Nat.max x y+1) := by
 have e1 : 2 ^ x≤2 ^ Nat.max x y := Nat.pow_le_pow_right (by decide) (Nat.le_max_left x y)
 have e2 : 2 ^ y≤2 ^ Nat.max x y := Nat.pow_le_pow_right (by decide) (Nat.le_max_right x y)
 rw [Nat.pow_succ]
 omega
theorem QW.add {x y : Nat} {a b : Rat} (h1 : QW x a) (h2 : QW y b) : QW (Nat.max x y+1) (a+b) := by
 rw [whole h1.wh,whole h2.wh,← Rat.intCast_add]
 refine QW.of ?_ (by omega)
 have := two_max h1.qs.num h2.qs.num
 omega
theorem QW.sub {x y : Nat} {a b : Rat} (h1 : QW x a) (h2 : QW y b) : QW (Nat.max x y+1) (a - b) := by
 rw [whole h1.wh,whole h2.wh,← Rat.intCast_sub]
 refine QW.of ?_ (by omega)
 have := two_max h1.qs.num h2.qs.num
 omega
theorem QW.mul {x y : Nat} {a b : Rat} (h1 : QW x a) (h2 : QW y b) : QW (x+y) (a*b) := by
 refine ⟨h1.qs.mul h2.qs,?_⟩
 rw [whole h1.wh,whole h2.wh,← Rat.intCast_mul]
 exact Rat.den_intCast _
theorem QW.neg {x : Nat} {a : Rat} (h1 : QW x a) : QW x (-a) := ⟨h1.qs.neg,h1.wh⟩
theorem ten_three : ∀ n : Nat,10 ^ n≤2 ^ ((10*n+2) / 3)
 | 0 => by decide
 | 1 => by decide
 | 2 => by decide
 | n+3 => by
  have h := ten_three n
  have e : (10*(n+3)+2) / 3=(10*n+2) / 3+10 := by omega
  rw [e,Nat.pow_add,Nat.pow_add]
  exact Nat.mul_le_mul h (by decide)
theorem QS.rd3 (l : List UInt8) : QS ((10*l.length+2) / 3+5) (Cx.rd l) := by
 have key : ∀ {m : List UInt8},digs m=true→dv m < 2 ^ ((10*m.length+2) / 3) := fun {m} h => Nat.lt_of_lt_of_le (dv_lt (digs_all h)) (ten_three _)
 unfold Cx.rd
 split
 ·rename_i h
  rw [Bool.and_eq_true] at h
  have h1 := key h.1
  have h2 := key h.2
  have h3 := up_len (tailOf l)
  have h4 := low_len (tailOf l)
  have h5 := tail_len l
  apply QS.mkr
  ·rw [sg_abs]; exact Nat.lt_of_lt_of_le h1 (Nat.pow_le_pow_right (by decide) (by omega))
  ·exact Nat.lt_of_lt_of_le h2 (Nat.pow_le_pow_right (by decide) (by omega))
 ·exact QS.zero.mono (by omega)
section
variable {N : List Nd} {Z : List Nat} {I : List Bool} {q : Nat→Rat}
end
end Go.Proofs.YtgkjeoeliehihaaGreatDoor
/- VSA -/
namespace Go.Proofs.YtgkjeoeliehihaaGreatDoor
open Go.RowKit Cx
def inB : Nat := 3495259
abbrev Atm := Nat × Nat
def remA (x : Atm) : List Atm→Option (List Atm)
 | [] => none
 | y :: l => bif Nat.beq x.1 y.1 && Nat.beq x.2 y.2 then some l else (remA x l).map (y :: ·)
def subA : List Atm→List Atm→Option (List Atm)
 | l,[] => some l
 | l,x :: r => (remA x l).bind fun l' => subA l' r
def leftA : List Atm→List Atm→List Atm
 | _,[] => []
 | U,x :: D => match remA x U with
  | some U' => leftA U' D
  | none => x :: leftA U D
def uniA (E : List (Nat × List Atm)) : List Nat→List Atm→List Atm
 | [],U => U
 | a :: l,U => uniA E l (match E[a]? with
  | some p => U ++ leftA U p.2
  | none => U)
def bitA (E : List (Nat × List Atm)) (x : Atm) : Nat := match x.1 with
 | 0 => inB
 | 1 => (match E[x.2]? with
  | some p => p.1
  | none => 1)
 | _ => Nat.log2 x.2+1
def bitL (E : List (Nat × List Atm)) : List Atm→Nat
 | [] => 1
 | x :: l => bitA E x+bitL E l
def noneA (l : Option (List Atm)) : Bool := match l with
 | some [] => true
 | _ => false
def saN (E : List (Nat × List Atm)) (k z : Nat) (D : List Atm) (nd : Nd) : Bool := (Nat.blt 0 z && D.all fun x => !Nat.beq x.1 1 || Nat.blt x.2 k) && match nd.1,nd.2 with
 | 0,[_,n,d] => (Nat.blt n (2 ^ z) && Nat.blt 0 d) && noneA (subA D (bif Nat.beq d 1 then [] else [(2,d)]))
 | 1,[j] => Nat.ble inB z && noneA (subA D [(0,j)])
 | 2,[a,b] => (match E[a]?,E[b]? with
  | some p,some r => (match subA D p.2,subA D r.2 with
   | some c,some e => Nat.ble (Nat.max (p.1+bitL E c) (r.1+bitL E e)+1) z
   | _,_ => false)
  | _,_ => false)
 | 3,[a,b] => (match E[a]?,E[b]? with
  | some p,some r => (match subA D p.2,subA D r.2 with
   | some c,some e => Nat.ble (Nat.max (p.1+bitL E c) (r.1+bitL E e)+1) z
   | _,_ => false)
  | _,_ => false)
 | 4,[a,b] => (match E[a]?,E[b]? with
  | some p,some r => (match subA D p.2 with
   | some c => noneA (subA c r.2) && Nat.ble (p.1+r.1) z
   | _ => false)
  | _,_ => false)
 | 5,[a] => (match E[a]? with
  | some p => noneA (subA D p.2) && Nat.ble p.1 z
  | _ => false)
 | 6,[a,b] => (match E[a]?,E[b]?,remA (1,b) D with
  | some p,some r,some D' => (match subA p.2 D' with
   | some c => (match subA r.2 c with
    | some e => Nat.ble (p.1+bitL E e) z
    | none => false)
   | none => false)
  | _,_,_ => false)
 | 7,_ => Nat.beq D.length 0
 | 8,i :: xs => Nat.beq D.length 0 && (xs.all (fun a => match E[a]? with
   | some p => (subA (uniA E xs []) p.2).isSome
   | none => false) && (match xs[i]? with
   | some a => (match E[a]? with
    | some p => (match subA (uniA E xs []) p.2 with
     | some e => Nat.ble (p.1+bitL E e) z
     | none => false)
    | none => false)
   | none => false))
 | _,_ => false
def saB (E : List (Nat × List Atm)) : Nat→List Nd→List (Nat × List Atm)→List Nat→Bool
 | _,[],[],[] => true
 | k,nd :: ns,p :: ps,z :: zs => (saN E k p.1 p.2 nd && (Nat.ble p.1 z && (Nat.ble (bitL E p.2) z && Nat.ble z 1000000000000))) && saB E (k+1) ns ps zs
 | _,_,_,_ => false
theorem saB_get {E : List (Nat × List Atm)} : ∀ {ns : List Nd} {ps : List (Nat × List Atm)} {zs : List Nat} {k i : Nat} {nd : Nd},saB E k ns ps zs=true→ns[i]? = some nd→∃ p z,ps[i]? = some p∧zs[i]? = some z∧saN E (k+i) p.1 p.2 nd=true∧p.1≤z∧bitL E p.2≤z∧z≤1000000000000
 | [],_,_,_,_,_,_,h => by simp at h
 | _ :: _,[],_,_,_,_,h,_ => by cases h
 | _ :: _,_ :: _,[],_,_,_,h,_ => by cases h
 | nd' :: ns,p :: ps,z :: zs,k,0,nd,h,e => by
  have : nd'=nd := by simpa using e
  subst this
  unfold saB at h
  simp only [Bool.and_eq_true,Nat.ble_eq] at h
  exact ⟨p,z,rfl,rfl,h.1.1,h.1.2.1,h.1.2.2.1,h.1.2.2.2⟩
 | nd' :: ns,p :: ps,z :: zs,k,i+1,nd,h,e => by
  unfold saB at h
  rw [Bool.and_eq_true] at h
  obtain ⟨p',z',g1,g2,g3,g4⟩ := saB_get (k := k+1) (i := i) h.2 (by simpa using e)
  exact ⟨p',z',by simpa using g1,by simpa using g2,by rw [show k+(i+1)=k+1+i by omega]; exact g3,g4⟩
theorem saB_len {E : List (Nat × List Atm)} : ∀ {ns : List Nd} {ps : List (Nat × List Atm)} {zs : List Nat} {k : Nat},saB E k ns ps zs=true→ns.length=ps.length∧ns.length=zs.length
 | [],[],[],_,_ => ⟨rfl,rfl⟩
 | [],[],_ :: _,_,h => by cases h
 | [],_ :: _,_,_,h => by cases h
 | _ :: _,[],_,_,h => by cases h
 | _ :: _,_ :: _,[],_,h => by cases h
 | _ :: _,_ :: _,_ :: _,k,h => by
  unfold saB at h
  rw [Bool.and_eq_true] at h
  have := saB_len h.2
  exact ⟨congrArg (· + 1) this.1,congrArg (· + 1) this.2⟩
def valA (dn : Nat→Nat) (M : Nat→Rat) (x : Atm) : Rat := match x.1 with
 | 0 => ((dn x.2 : Nat) : Rat)
 | 1 => if M x.2=0 then 1 else M x.2
 | _ => if x.2=0 then 1 else ((x.2 : Nat) : Rat)
def proA (dn : Nat→Nat) (M : Nat→Rat) : List Atm→Rat
 | [] => 1
 | x :: l => valA dn M x*proA dn M l
theorem remA_pro {dn : Nat→Nat} {M : Nat→Rat} {x : Atm} : ∀ {l c : List Atm},remA x l=some c→proA dn M l=valA dn M x*proA dn M c
 | [],_,h => by cases h
 | y :: l,c,h => by
  unfold remA at h
  cases e : (Nat.beq x.1 y.1 && Nat.beq x.2 y.2) with
  | true =>
   rw [e] at h
   cases h
   rw [Bool.and_eq_true,Nat.beq_eq,Nat.beq_eq] at e
   have : x=y := Prod.ext e.1 e.2
   rw [this]
   rfl
  | false =>
   rw [e] at h
   simp only [cond_false,Option.map_eq_some_iff] at h
   obtain ⟨c',h1,rfl⟩ := h
   show valA dn M y*proA dn M l=valA dn M x*(valA dn M y*proA dn M c')
   rw [remA_pro h1]
   grind
theorem subA_pro {dn : Nat→Nat} {M : Nat→Rat} : ∀ {r l c : List Atm},subA l r=some c→proA dn M l=proA dn M r*proA dn M c
 | [],l,c,h => by
  have : l=c := by simpa [subA] using h
  rw [this]
  exact (Rat.one_mul _).symm
 | x :: r,l,c,h => by
  unfold subA at h
  rw [Option.bind_eq_some_iff] at h
  obtain ⟨l',h1,h2⟩ := h
  rw [remA_pro h1,subA_pro h2]
  exact (Rat.mul_assoc _ _ _).symm
theorem noneA_some {l : Option (List Atm)} (h : noneA l=true) : l=some [] := by
 unfold noneA at h
 split at h
 ·rfl
 ·cases h
theorem QW.one {z : Nat} (h : 0 < z) : QW z 1 := ⟨⟨by
  show (1 : Int).natAbs < 2 ^ z
  exact Nat.one_lt_two_pow (by omega),by
  show 1 < 2 ^ z
  exact Nat.one_lt_two_pow (by omega)⟩,rfl⟩
theorem QW.zero {z : Nat} (h : 0 < z) : QW z 0 := ⟨⟨by
  show (0 : Int).natAbs < 2 ^ z
  exact Nat.two_pow_pos z,by
  show 1 < 2 ^ z
  exact Nat.one_lt_two_pow (by omega)⟩,rfl⟩
theorem QW.nat {z n : Nat} (h : n < 2 ^ z) (hz : 0 < z) : QW z ((n : Nat) : Rat) := by
 have : ((n : Nat) : Rat)=(((n : Nat) : Int) : Rat) := (Rat.intCast_natCast n).symm
 rw [this]
 exact QW.of (by simpa using h) hz
section
variable {E : List (Nat × List Atm)} {dn : Nat→Nat} {M : Nat→Rat} {k : Nat}
def BelA (E : List (Nat × List Atm)) (dn : Nat→Nat) (M : Nat→Rat) (q : Nat→Rat) (k : Nat) : Prop := ∀ a,a < k→∃ p,E[a]? = some p∧QW p.1 (M a)∧0 < p.1∧(∀ x ∈ p.2,x.1=1→x.2 < a)∧q a*proA dn M p.2=M a
theorem valA_ok {q : Nat→Rat} (hdn : ∀ j,0 < dn j∧dn j < 2 ^ inB) (hM : BelA E dn M q k) {x : Atm} (hx : x.1=1→x.2 < k) : QW (bitA E x) (valA dn M x)∧valA dn M x ≠ 0 := by
 obtain ⟨i,j⟩ := x
 match i with
 | 0 =>
  show QW inB ((dn j : Nat) : Rat)∧((dn j : Nat) : Rat) ≠ 0
  refine ⟨QW.nat (hdn j).2 (by unfold inB; omega),fun h => ?_⟩
  have := (hdn j).1
  have h2 : dn j=0 := by exact_mod_cast h
  omega
 | 1 =>
  obtain ⟨p,h1,h2,h3,_⟩ := hM j (hx rfl)
  show QW (match E[j]? with
   | some p => p.1
   | none => 1) (if M j=0 then 1 else M j)∧(if M j=0 then 1 else M j) ≠ 0
  rw [h1]
  by_cases h : M j=0
  ·rw [if_pos h]
   exact ⟨QW.one h3,by decide⟩
  ·rw [if_neg h]
   exact ⟨h2,h⟩
 | i+2 =>
  show QW (Nat.log2 j+1) (if j=0 then 1 else ((j : Nat) : Rat))∧(if j=0 then 1 else ((j : Nat) : Rat)) ≠ 0
  by_cases h : j=0
  ·rw [if_pos h]
   exact ⟨QW.one (by omega),by decide⟩
  ·rw [if_neg h]
   refine ⟨QW.nat Nat.lt_log2_self (by omega),fun h2 => h ?_⟩
   exact_mod_cast h2
theorem proA_ok {q : Nat→Rat} (hdn : ∀ j,0 < dn j∧dn j < 2 ^ inB) (hM : BelA E dn M q k) : ∀ {l : List Atm},(∀ x ∈ l,x.1=1→x.2 < k)→QW (bitL E l) (proA dn M l)∧proA dn M l ≠ 0
 | [],_ => ⟨QW.one (show 0 < 1 by decide),by show (1 : Rat) ≠ 0; decide⟩
 | x :: l,h => by
  have h1 := valA_ok hdn hM (h x List.mem_cons_self)
  have h2 := proA_ok hdn hM (l := l) fun y hy => h y (List.mem_cons_of_mem _ hy)
  exact ⟨h1.1.mul h2.1,mul_ne h1.2 h2.2⟩
theorem proA_congr {M' : Nat→Rat} : ∀ {l : List Atm},(∀ x ∈ l,x.1=1→M x.2=M' x.2)→proA dn M l=proA dn M' l
 | [],_ => rfl
 | x :: l,h => by
  show valA dn M x*proA dn M l=valA dn M' x*proA dn M' l
  rw [proA_congr (l := l) fun y hy => h y (List.mem_cons_of_mem _ hy)]
  have e : valA dn M x=valA dn M' x := by
   obtain ⟨i,j⟩ := x
   match i with
   | 0 => rfl
   | 1 =>
    have := h (1,j) List.mem_cons_self rfl
    show (if M j=0 then 1 else M j)=(if M' j=0 then 1 else M' j)
    rw [this]
   | i+2 => rfl
  rw [e]
theorem remA_mem {x y : Atm} : ∀ {l c : List Atm},remA x l=some c→y ∈ c→y ∈ l
 | [],_,h,_ => by cases h
 | z :: l,c,h,hy => by
  unfold remA at h
  cases e : (Nat.beq x.1 z.1 && Nat.beq x.2 z.2) with
  | true => rw [e] at h; cases h; exact List.mem_cons_of_mem _ hy
  | false =>
   rw [e] at h
   simp only [cond_false,Option.map_eq_some_iff] at h
   obtain ⟨c',h1,rfl⟩ := h
   rcases List.mem_cons.1 hy with rfl | hy
   ·exact List.mem_cons_self
   ·exact List.mem_cons_of_mem _ (remA_mem h1 hy)
theorem subA_mem {y : Atm} : ∀ {r l c : List Atm},subA l r=some c→y ∈ c→y ∈ l
 | [],l,c,h,hy => by
  have : l=c := by simpa [subA] using h
  rw [this]; exact hy
 | x :: r,l,c,h,hy => by
  unfold subA at h
  rw [Option.bind_eq_some_iff] at h
  obtain ⟨l',h1,h2⟩ := h
  exact remA_mem h1 (subA_mem h2 hy)
theorem nat_ne {n : Nat} (h : n ≠ 0) : ((n : Nat) : Rat) ≠ 0 := fun e => h (by exact_mod_cast e)
theorem mul_low (x : Rat) : x*((x.den : Nat) : Rat)=((x.num : Int) : Rat) := by
 have e : x=((x.num : Int) : Rat) / ((x.den : Nat) : Rat) := by
  have := Rat.mkRat_self x
  rw [Rat.mkRat_eq_div] at this
  exact this.symm
 conv => lhs; lhs; rw [e]
 exact Rat.div_mul_cancel (nat_ne x.den_nz)
theorem lD_dvd_of {qs : List Rat} {m M : Nat} (hm : m ∣ M) (h : ∀ q ∈ qs,q.den ∣ M) : qs.foldl (fun m q => m*(q.den / Nat.gcd m q.den)) m ∣ M := by
 induction qs generalizing m with
 | nil => exact hm
 | cons q qs ih =>
  rw [List.foldl_cons]
  refine ih ?_ fun p hp => h p (List.mem_cons_of_mem _ hp)
  have e : m*(q.den / Nat.gcd m q.den)=Nat.lcm m q.den := by
   unfold Nat.lcm
   exact (Nat.mul_div_assoc _ (Nat.gcd_dvd_right _ _)).symm
  rw [e]
  exact Nat.lcm_dvd hm (h q List.mem_cons_self)
theorem den_dvd {x : Rat} {m : Int} (h : (x*((m : Int) : Rat)).den=1) : x.den ∣ m.natAbs := by
 have e := whole h
 generalize (x*((m : Int) : Rat)).num=n at e
 have h1 : x*((x.den : Nat) : Rat)=((x.num : Int) : Rat) := mul_low x
 have h2 : ((x.num : Int) : Rat)*((m : Int) : Rat)=((n : Int) : Rat)*(((x.den : Nat) : Int) : Rat) := by
  rw [← h1,← e,Rat.intCast_natCast]
  grind
 have h3 : x.num*m=n*(x.den : Int) := by exact_mod_cast h2
 have h4 : (x.den : Int) ∣ x.num*m := ⟨n,by rw [h3,Int.mul_comm]⟩
 have h5 : x.den ∣ x.num.natAbs*m.natAbs := by
  have := Int.natAbs_dvd_natAbs.2 h4
  rwa [Int.natAbs_mul,Int.natAbs_natCast] at this
 exact (Nat.Coprime.symm x.reduced).dvd_of_dvd_mul_left h5
theorem fac_whole {qs : List Rat} {x : Rat} {z : Nat} {m : Int} (hx : x ∈ qs) (hm : m ≠ 0) (hall : ∀ y ∈ qs,(y*((m : Int) : Rat)).den=1) (hz : QW z (x*((m : Int) : Rat))) : QW z (x*fac qs) := by
 have hl : lD qs ∣ m.natAbs := lD_dvd_of (Nat.one_dvd _) fun y hy => den_dvd (hall y hy)
 have hd := fac_den hx
 have hpos : 0 < m.natAbs := Int.natAbs_pos.2 hm
 have hle : lD qs≤m.natAbs := Nat.le_of_dvd hpos hl
 have hn : (x*fac qs).num.natAbs≤(x*((m : Int) : Rat)).num.natAbs := by
  rw [fac_abs hx]
  have e := whole hz.wh
  generalize (x*((m : Int) : Rat)).num=n at e
  have h1 : x*((x.den : Nat) : Rat)=((x.num : Int) : Rat) := mul_low x
  have h2 : ((x.num : Int) : Rat)*((m : Int) : Rat)=((n : Int) : Rat)*(((x.den : Nat) : Int) : Rat) := by
   rw [← h1,← e,Rat.intCast_natCast]
   grind
  have h3 : x.num*m=n*(x.den : Int) := by exact_mod_cast h2
  have h4 : x.num.natAbs*m.natAbs=n.natAbs*x.den := by
   have := congrArg Int.natAbs h3
   rwa [Int.natAbs_mul,Int.natAbs_mul,Int.natAbs_natCast] at this
  obtain ⟨c,hc⟩ := den_dvd (x := x) (m := m) (hall x hx)
  have h5 : n.natAbs=x.num.natAbs*c := by
   rw [hc] at h4
   refine Nat.eq_of_mul_eq_mul_right x.den_pos ?_
   rw [← h4]
   rw [Nat.mul_assoc,Nat.mul_comm c]
  show x.num.natAbs / gN qs*(lD qs / x.den)≤n.natAbs
  rw [h5]
  refine Nat.mul_le_mul (Nat.div_le_self _ _) ?_
  have : lD qs / x.den≤m.natAbs / x.den := Nat.div_le_div_right hle
  rw [hc,Nat.mul_div_cancel_left _ x.den_pos] at this
  exact this
 refine ⟨⟨Nat.lt_of_le_of_lt hn hz.qs.num,?_⟩,hd⟩
 rw [hd]
 have := hz.qs.den
 rw [hz.wh] at this
 exact this
theorem leftA_mem {y : Atm} : ∀ {D U : List Atm},y ∈ leftA U D→y ∈ D
 | [],_,h => by cases h
 | x :: D,U,h => by
  unfold leftA at h
  split at h
  ·exact List.mem_cons_of_mem _ (leftA_mem h)
  ·rcases List.mem_cons.1 h with rfl | h
   ·exact List.mem_cons_self
   ·exact List.mem_cons_of_mem _ (leftA_mem h)
theorem uniA_low {q : Nat→Rat} (hM : BelA E dn M q k) : ∀ {l : List Nat} {U : List Atm},(∀ c ∈ l,c < k)→(∀ x ∈ U,x.1=1→x.2 < k)→∀ x ∈ uniA E l U,x.1=1→x.2 < k
 | [],_,_,hU => hU
 | a :: l,U,hl,hU => by
  unfold uniA
  refine uniA_low hM (fun c hc => hl c (List.mem_cons_of_mem _ hc)) ?_
  have ha := hl a List.mem_cons_self
  obtain ⟨p,h1,_,_,h4,_⟩ := hM a ha
  rw [h1]
  intro x hx h
  rcases List.mem_append.1 hx with hx | hx
  ·exact hU x hx h
  ·exact Nat.lt_trans (h4 x (leftA_mem hx) h) ha
theorem node_ok {q : Nat→Rat} {σ : Nat→ByteArray} (hσ : ∀ j,(σ j).size≤1048576) (hdn : ∀ j,dn j=(Cx.rd (σ j).data.toList).den) (hM : BelA E dn M q k) {z : Nat} {D : List Atm} {nd : Nd} (hwf : wfN k nd=true) (hs : saN E k z D nd=true) : QW z (valN σ q nd*proA dn M D)∧0 < z∧∀ x ∈ D,x.1=1→x.2 < k := by
 have hdn' : ∀ j,0 < dn j∧dn j < 2 ^ inB := fun j => by
  rw [hdn j]
  refine ⟨Rat.den_pos _,Nat.lt_of_lt_of_le (QS.rd3 _).den (Nat.pow_le_pow_right (by decide) ?_)⟩
  have := hσ j
  rw [str_len]
  unfold inB
  omega
 obtain ⟨op,xs⟩ := nd
 unfold saN at hs
 rw [Bool.and_eq_true,Bool.and_eq_true] at hs
 obtain ⟨⟨hz0,hD⟩,hs⟩ := hs
 have hz : 0 < z := by simpa [Nat.blt_eq] using hz0
 have hD' : ∀ x ∈ D,x.1=1→x.2 < k := fun x hx h1 => by
  rw [List.all_eq_true] at hD
  have := hD x hx
  rw [h1] at this
  simpa [Nat.blt_eq] using this
 refine ⟨?_,hz,hD'⟩
 have hlow : ∀ {a : Nat} {p : Nat × List Atm},a < k→E[a]? = some p→QW p.1 (M a)∧(∀ x ∈ p.2,x.1=1→x.2 < k)∧q a*proA dn M p.2=M a := fun {a p} ha hp => by
  obtain ⟨p',h1,h2,_,h4,h5⟩ := hM a ha
  rw [hp] at h1
  cases h1
  exact ⟨h2,fun x hx h => Nat.lt_trans (h4 x hx h) ha,h5⟩
 have hpr : ∀ {l : List Atm},(∀ x ∈ l,x.1=1→x.2 < k)→QW (bitL E l) (proA dn M l)∧proA dn M l ≠ 0 := fun h => proA_ok hdn' hM h
 unfold wfN at hwf
 unfold valN
 dsimp only at hs hwf ⊢
 split at hs
 ·rename_i s n d
  simp only [Bool.and_eq_true] at hs
  obtain ⟨⟨h1,h2⟩,h3⟩ := hs
  have h1' : n < 2 ^ z := by simpa [Nat.blt_eq] using h1
  have h2' : d ≠ 0 := by
   have : 0 < d := by simpa [Nat.blt_eq] using h2
   omega
  have hp : proA dn M D=((d : Nat) : Rat) := by
   have := subA_pro (dn := dn) (M := M) (noneA_some h3)
   rw [this]
   cases e : Nat.beq d 1 with
   | true =>
    rw [Nat.beq_eq] at e
    rw [e]
    show (1 : Rat)*1=((1 : Nat) : Rat)
    rw [Rat.mul_one]
    exact_mod_cast rfl
   | false =>
    show (if d=0 then (1 : Rat) else ((d : Nat) : Rat))*1*1=_
    rw [if_neg h2',Rat.mul_one,Rat.mul_one]
  show QW z ((if s=0 then mkRat (n : Int) d else mkRat (-(n : Int)) d)*proA dn M D)
  rw [hp]
  have key : ∀ m : Int,m.natAbs < 2 ^ z→QW z (mkRat m d*((d : Nat) : Rat)) := fun m hm => by
   rw [Rat.mkRat_eq_div,Rat.div_mul_cancel (nat_ne h2')]
   exact QW.of hm hz
  by_cases hs0 : s=0
  ·rw [if_pos hs0]
   exact key _ (by simpa using h1')
  ·rw [if_neg hs0]
   exact key _ (by simpa using h1')
 ·rename_i j
  simp only [Bool.and_eq_true,Nat.ble_eq] at hs
  have hp : proA dn M D=(((Cx.rd (σ j).data.toList).den : Nat) : Rat) := by
   rw [subA_pro (dn := dn) (M := M) (noneA_some hs.2)]
   show ((dn j : Nat) : Rat)*1*1=_
   rw [Rat.mul_one,Rat.mul_one,hdn j]
  show QW z (Cx.rd (σ j).data.toList*proA dn M D)
  rw [hp,mul_low]
  refine QW.of (Nat.lt_of_lt_of_le (QS.rd3 _).num (Nat.pow_le_pow_right (by decide) ?_)) hz
  have := hσ j
  have := hs.1
  unfold inB at this
  rw [str_len]
  omega
 ·simp only [List.all_cons,List.all_nil,Bool.and_true,Bool.and_eq_true] at hwf
  rename_i a b
  have l1 : a < k := by simpa [Nat.blt_eq] using hwf.1
  have l2 : b < k := by simpa [Nat.blt_eq] using hwf.2
  split at hs
  ·rename_i p r hp hr
   split at hs
   ·rename_i c e hc he
    rw [Nat.ble_eq] at hs
    obtain ⟨a1,a2,a3⟩ := hlow l1 hp
    obtain ⟨b1,b2,b3⟩ := hlow l2 hr
    have hc' := hpr (l := c) fun x hx => hD' x (subA_mem hc hx)
    have he' := hpr (l := e) fun x hx => hD' x (subA_mem he hx)
    have e1 : (q a+q b)*proA dn M D=M a*proA dn M c+M b*proA dn M e := by
     rw [Rat.add_mul]
     congr 1
     ·rw [subA_pro hc,← Rat.mul_assoc,a3]
     ·rw [subA_pro he,← Rat.mul_assoc,b3]
    show QW z ((q a+q b)*proA dn M D)
    rw [e1]
    exact ((a1.mul hc'.1).add (b1.mul he'.1)).mono hs
   ·cases hs
  ·cases hs
 ·simp only [List.all_cons,List.all_nil,Bool.and_true,Bool.and_eq_true] at hwf
  rename_i a b
  have l1 : a < k := by simpa [Nat.blt_eq] using hwf.1
  have l2 : b < k := by simpa [Nat.blt_eq] using hwf.2
  split at hs
  ·rename_i p r hp hr
   split at hs
   ·rename_i c e hc he
    rw [Nat.ble_eq] at hs
    obtain ⟨a1,a2,a3⟩ := hlow l1 hp
    obtain ⟨b1,b2,b3⟩ := hlow l2 hr
    have hc' := hpr (l := c) fun x hx => hD' x (subA_mem hc hx)
    have he' := hpr (l := e) fun x hx => hD' x (subA_mem he hx)
    have e1 : (q a - q b)*proA dn M D=M a*proA dn M c - M b*proA dn M e := by
     rw [show (q a - q b)*proA dn M D=q a*proA dn M D - q b*proA dn M D by grind]
     congr 1
     ·rw [subA_pro hc,← Rat.mul_assoc,a3]
     ·rw [subA_pro he,← Rat.mul_assoc,b3]
    show QW z ((q a - q b)*proA dn M D)
    rw [e1]
    exact ((a1.mul hc'.1).sub (b1.mul he'.1)).mono hs
   ·cases hs
  ·cases hs
 ·simp only [List.all_cons,List.all_nil,Bool.and_true,Bool.and_eq_true] at hwf
  rename_i a b
  have l1 : a < k := by simpa [Nat.blt_eq] using hwf.1
  have l2 : b < k := by simpa [Nat.blt_eq] using hwf.2
  split at hs
  ·rename_i p r hp hr
   split at hs
   ·rename_i c hc
    rw [Bool.and_eq_true,Nat.ble_eq] at hs
    obtain ⟨a1,a2,a3⟩ := hlow l1 hp
    obtain ⟨b1,b2,b3⟩ := hlow l2 hr
    have e1 : q a*q b*proA dn M D=M a*M b := by
     rw [subA_pro hc,subA_pro (noneA_some hs.1),← a3,← b3]
     show q a*q b*(proA dn M p.2*(proA dn M r.2*1))=_
     grind
    show QW z (q a*q b*proA dn M D)
    rw [e1]
    exact (a1.mul b1).mono hs.2
   ·cases hs
  ·cases hs
 ·simp only [List.all_cons,List.all_nil,Bool.and_true] at hwf
  rename_i a
  have l1 : a < k := by simpa [Nat.blt_eq] using hwf
  split at hs
  ·rename_i p hp
   rw [Bool.and_eq_true,Nat.ble_eq] at hs
   obtain ⟨a1,a2,a3⟩ := hlow l1 hp
   have e1 : -q a*proA dn M D=-M a := by
    rw [subA_pro (noneA_some hs.1),← a3]
    show -q a*(proA dn M p.2*1)=_
    grind
   show QW z (-q a*proA dn M D)
   rw [e1]
   exact a1.neg.mono hs.2
  ·cases hs
 ·simp only [List.all_cons,List.all_nil,Bool.and_true,Bool.and_eq_true] at hwf
  rename_i a b
  have l1 : a < k := by simpa [Nat.blt_eq] using hwf.1
  have l2 : b < k := by simpa [Nat.blt_eq] using hwf.2
  split at hs
  ·rename_i p r D' hp hr hD1
   split at hs
   ·rename_i c hc
    split at hs
    ·rename_i e he
     rw [Nat.ble_eq] at hs
     obtain ⟨a1,a2,a3⟩ := hlow l1 hp
     obtain ⟨b1,b2,b3⟩ := hlow l2 hr
     have he' := hpr (l := e) fun x hx => b2 x (subA_mem he hx)
     by_cases h0 : M b=0
     ·have hb : q b=0 := by
       rw [h0] at b3
       exact (Rat.mul_eq_zero.1 b3).resolve_right (hpr b2).2
      show QW z (q a / q b*proA dn M D)
      rw [hb,Rat.div_def,Rat.inv_zero,Rat.mul_zero,Rat.zero_mul]
      exact QW.zero hz
     ·have hb : q b ≠ 0 := fun h => h0 (by rw [← b3,h,Rat.zero_mul])
      have e1 : q a / q b*proA dn M D=M a*proA dn M e := by
       have e2 : proA dn M D=M b*proA dn M D' := by
        rw [remA_pro hD1]
        show (if M b=0 then (1 : Rat) else M b)*_=_
        rw [if_neg h0]
       have e3 : q a / q b*q b=q a := Rat.div_mul_cancel hb
       rw [e2,← a3,← b3,subA_pro hc,subA_pro he]
       generalize q a / q b=t at e3
       rw [← e3]
       grind
      show QW z (q a / q b*proA dn M D)
      rw [e1]
      exact (a1.mul he'.1).mono hs
    ·cases hs
   ·cases hs
  ·cases hs
 ·have hD0 : D=[] := by
   rw [Nat.beq_eq] at hs
   exact List.length_eq_zero_iff.1 hs
  rw [hD0]
  have hv : valN σ q (7,xs)=0 ∨ valN σ q (7,xs)=1 := by
   unfold valN
   dsimp only
   split
   all_goals first | (split; exact Or.inl rfl; exact Or.inr rfl) | exact Or.inl rfl | (rename_i h; cases h)
  show QW z (valN σ q (7,xs)*1)
  rw [Rat.mul_one]
  rcases hv with h | h
  ·rw [h]
   exact QW.zero hz
  ·rw [h]
   exact QW.one hz
 ·rename_i i ys
  rw [Bool.and_eq_true,Bool.and_eq_true,List.all_eq_true] at hs
  obtain ⟨h1,h2,h3⟩ := hs
  have hD0 : D=[] := by
   rw [Nat.beq_eq] at h1
   exact List.length_eq_zero_iff.1 h1
  have hwf' : ys.all (Nat.blt · k)=true := hwf
  rw [List.all_eq_true] at hwf'
  have hlt : ∀ c ∈ ys,c < k := fun c hc => by simpa [Nat.blt_eq] using hwf' c hc
  split at h3
  ·rename_i a ha
   split at h3
   ·rename_i p hp
    split at h3
    ·rename_i e he
     rw [Nat.ble_eq] at h3
     obtain ⟨hi,ha'⟩ := List.getElem?_eq_some_iff.1 ha
     have hmem : a ∈ ys := List.mem_of_getElem? ha
     have hg : (ys.map q).getD i 0=q a := by
      rw [List.getD_eq_getElem?_getD,List.getElem?_map,ha]
      rfl
     show QW z ((ys.map q).getD i 0*fac (ys.map q)*proA dn M D)
     rw [hg,hD0]
     show QW z (q a*fac (ys.map q)*1)
     rw [Rat.mul_one]
     -- what makes all of them whole
     have hU : ∀ x ∈ uniA E ys [],x.1=1→x.2 < k := uniA_low hM hlt (fun x hx => by cases hx)
     have hUp := hpr hU
     have hw := whole hUp.1.wh
     generalize hm : (proA dn M (uniA E ys [])).num=m at hw
     have hm0 : m ≠ 0 := fun h => hUp.2 (by rw [hw,h]; rfl)
     have hall : ∀ y ∈ ys.map q,(y*((m : Int) : Rat)).den=1 := fun y hy => by
      obtain ⟨c,hc,rfl⟩ := List.mem_map.1 hy
      have h4 := h2 c hc
      split at h4
      ·rename_i r hr
       obtain ⟨c1,c2,c3⟩ := hlow (hlt c hc) hr
       cases hs2 : subA (uniA E ys []) r.2 with
       | none => rw [hs2] at h4; cases h4
       | some f =>
        have hf := hpr (l := f) fun x hx => hU x (subA_mem hs2 hx)
        rw [← hw,subA_pro hs2,← Rat.mul_assoc,c3]
        exact (c1.mul hf.1).wh
      ·cases h4
     obtain ⟨a1,a2,a3⟩ := hlow (hlt a hmem) hp
     have he' := hpr (l := e) fun x hx => hU x (subA_mem he hx)
     refine fac_whole (List.mem_map_of_mem hmem) hm0 hall ?_
     rw [← hw,subA_pro he,← Rat.mul_assoc,a3]
     exact (a1.mul he'.1).mono h3
    ·cases h3
   ·cases h3
  ·cases h3
 ·cases hs
end
theorem QS_over {x m p : Rat} {z y K : Nat} (hm : QW z m) (hp : QW y p) (h0 : p ≠ 0) (e : x*p=m) (hz : z≤K) (hy : y≤K) : QS K x := by
 have hw := whole hp.wh
 generalize p.num=P at hw
 have hP : P ≠ 0 := fun h => h0 (by rw [hw,h]; rfl)
 have hpos : 0 < P.natAbs := Int.natAbs_pos.2 hP
 have hd : x.den ∣ P.natAbs := den_dvd (x := x) (m := P) (by rw [← hw,e]; exact hm.wh)
 have hdle : x.den≤P.natAbs := Nat.le_of_dvd hpos hd
 have hPlt : P.natAbs < 2 ^ y := by
  have := hp.qs.num
  rw [hw,Rat.num_intCast] at this
  exact this
 have hmw := whole hm.wh
 have hmlt := hm.qs.num
 generalize m.num=n at hmw hmlt
 have h1 : x*((x.den : Nat) : Rat)=((x.num : Int) : Rat) := mul_low x
 have h2 : ((x.num : Int) : Rat)*((P : Int) : Rat)=((n : Int) : Rat)*(((x.den : Nat) : Int) : Rat) := by
  rw [← h1,← hw,← hmw,← e,Rat.intCast_natCast]
  grind
 have h3 : x.num*P=n*(x.den : Int) := by exact_mod_cast h2
 have h4 : x.num.natAbs*P.natAbs=n.natAbs*x.den := by
  have := congrArg Int.natAbs h3
  rwa [Int.natAbs_mul,Int.natAbs_mul,Int.natAbs_natCast] at this
 have h5 : x.num.natAbs≤n.natAbs := by
  refine Nat.le_of_mul_le_mul_right (c := P.natAbs) ?_ hpos
  rw [h4]
  exact Nat.mul_le_mul_left _ hdle
 exact ⟨Nat.lt_of_lt_of_le (Nat.lt_of_le_of_lt h5 hmlt) (Nat.pow_le_pow_right (by decide) hz),Nat.lt_of_lt_of_le (Nat.lt_of_le_of_lt hdle hPlt) (Nat.pow_le_pow_right (by decide) hy)⟩
section
variable {N : List Nd} {Z : List Nat} {E : List (Nat × List Atm)} {q : Nat→Rat}
theorem sizes_okA {σ : Nat→ByteArray} (hσ : ∀ j,(σ j).size≤1048576) (hw : wfB 0 N=true) (hz : saB E 0 N E Z=true) (hq : ∀ (a : Nat) nd,N[a]? = some nd→q a=valN σ q nd) (h0 : ∀ a,N.length≤a→q a=0) : (∀ (a : Nat) z,Z[a]? = some z→QS z (q a))∧∀ a,QS 1000000000000 (q a) := by
 have hl := saB_len hz
 have key : ∀ k,k≤N.length→∃ M,BelA E (fun j => (Cx.rd (σ j).data.toList).den) M q k := by
  intro k
  induction k with
  | zero => exact fun _ => ⟨fun _ => 0,fun a ha => by omega⟩
  | succ k ih =>
   intro hk
   obtain ⟨M,hM⟩ := ih (by omega)
   have hn : N[k]? = some N[k] := List.getElem?_eq_getElem (by omega)
   obtain ⟨p,z,h1,_,h3,_⟩ := saB_get hz hn
   rw [Nat.zero_add] at h3
   have hwf := wfB_get hw hn
   rw [Nat.zero_add] at hwf
   obtain ⟨g1,g2,g3⟩ := node_ok hσ (fun _ => rfl) hM hwf h3
   rw [← hq k _ hn] at g1
   refine ⟨fun x => if x=k then q k*proA (fun j => (Cx.rd (σ j).data.toList).den) M p.2 else M x,fun a ha => ?_⟩
   have same : ∀ {l : List Atm},(∀ x ∈ l,x.1=1→x.2 < k)→proA (fun j => (Cx.rd (σ j).data.toList).den) (fun x => if x=k then q k*proA (fun j => (Cx.rd (σ j).data.toList).den) M p.2 else M x) l=proA (fun j => (Cx.rd (σ j).data.toList).den) M l := fun hl => (proA_congr fun x hx h => by
    have := hl x hx h
    rw [if_neg (by omega)]).symm
   by_cases e : a=k
   ·subst e
    refine ⟨p,h1,?_,g2,g3,?_⟩
    ·show QW p.1 (if a=a then _ else _)
     rw [if_pos rfl]
     exact g1
    ·rw [same g3]
     show _=(if a=a then _ else _)
     rw [if_pos rfl]
   ·obtain ⟨p',f1,f2,f3,f4,f5⟩ := hM a (by omega)
    refine ⟨p',f1,?_,f3,f4,?_⟩
    ·show QW p'.1 (if a=k then _ else M a)
     rw [if_neg e]
     exact f2
    ·rw [same fun x hx h => by have := f4 x hx h; omega]
     show _=(if a=k then _ else M a)
     rw [if_neg e]
     exact f5
 obtain ⟨M,hM⟩ := key N.length (Nat.le_refl _)
 have hdn : ∀ j,0 < (Cx.rd (σ j).data.toList).den∧(Cx.rd (σ j).data.toList).den < 2 ^ inB := fun j => by
  refine ⟨Rat.den_pos _,Nat.lt_of_lt_of_le (QS.rd3 _).den (Nat.pow_le_pow_right (by decide) ?_)⟩
  have := hσ j
  rw [str_len]
  unfold inB
  omega
 have h2 : ∀ (a : Nat) z,Z[a]? = some z→QS z (q a)∧z≤1000000000000 := by
  intro a z ha
  have hlt : a < N.length := by
   have := (List.getElem?_eq_some_iff.1 ha).1
   omega
  have hn : N[a]? = some N[a] := List.getElem?_eq_getElem hlt
  obtain ⟨p,z',h1,h2,_,h4,h5,h6⟩ := saB_get hz hn
  rw [ha] at h2
  cases h2
  obtain ⟨p',f1,f2,f3,f4,f5⟩ := hM a hlt
  rw [h1] at f1
  cases f1
  have hp := proA_ok hdn hM (l := p.2) fun x hx h => Nat.lt_trans (f4 x hx h) hlt
  exact ⟨QS_over f2 hp.1 hp.2 f5 h4 h5,h6⟩
 refine ⟨fun a z h => (h2 a z h).1,fun a => ?_⟩
 by_cases ha : a < Z.length
 ·have := h2 a _ (List.getElem?_eq_getElem ha)
  exact this.1.mono this.2
 ·rw [h0 a (by omega)]
  exact QS.zero.mono (by decide)
theorem hy_ofA {L C : List (List Nat × Nat)} {σ : Nat→ByteArray} {H : List (Nat × Nat × Nat × Nat)} (hσ : ∀ j,(σ j).size≤1048576) (hw : wfB 0 N=true) (hz : saB E 0 N E Z=true) (hl : litB N L=true) (hcn : canB N C=true) (hq : ∀ (a : Nat) nd,N[a]? = some nd→q a=valN σ q nd) (h0 : ∀ a,N.length≤a→q a=0) (hH : hAll q H) : Hy N H L C Z q σ where
 nat := hq
 qs := (sizes_okA hσ hw hz hq h0).2
 zs := (sizes_okA hσ hw hz hq h0).1
 par := hσ
 lit := fun s b h => lit_rd hl hq h
 k0 := fun a r h => kn_at hH h
 k1 := fun a r h => kn_at hH h
 k2 := fun a r h => kn_at hH h
 k3 := fun a b r h => kn_at hH h
 k4 := fun l a b r h1 h2 => by
  have h3 : Nat.beq 1 r=true ↔ q a=q b := kn_at hH h2
  rw [h3,← can_tx hcn hq h1]
  exact ⟨fun e => by rw [e],fun e => tellS_inj (bytesN_inj e)⟩
 k6 := fun a b r h => kn_at hH h
 k5 := fun a r h => kn_at hH h
end
end Go.Proofs.YtgkjeoeliehihaaGreatDoor
/- CFconed -/
namespace Go.Proofs.YtgkjeoeliehihaaGreatDoor
open Go.RowKit Cx
theorem closed_coned : Closed 6 :=
 closed_told (N := [(0,[0,1,1]),(0,[0,0,1]),(0,[1,1,1]),(0,[0,3,5]),(0,[0,4,5]),(4,[1,0]),(4,[0,0]),(3,[5,6]),(4,[0,1]),(3,[8,6]),(4,[1,1]),(3,[6,10]),(4,[0,2]),(3,[5,12]),(4,[2,0]),(3,[8,14]),(4,[2,2]),(3,[16,10]),(4,[7,13]),(4,[7,15]),(4,[9,13]),(2,[19,20]),(4,[9,15]),(4,[7,17]),(4,[11,13]),(2,[23,24]),(4,[9,17]),(4,[11,15]),(2,[26,27]),(4,[11,17]),(3,[5,8]),(3,[12,6]),(4,[1,2]),(3,[8,32]),(3,[6,12]),(3,[8,5]),(3,[32,8]),(4,[30,34]),(4,[30,35]),(4,[31,34]),(2,[38,39]),(4,[31,35]),(4,[30,36]),(4,[33,34]),(2,[42,43]),(4,[31,36]),(4,[33,35]),(2,[45,46]),(4,[33,36]),(0,[0,2,1]),(4,[18,49]),(4,[22,49]),(4,[29,49]),(4,[50,3]),(2,[1,53]),(4,[21,4]),(2,[54,55]),(4,[25,0]),(2,[56,57]),(4,[21,3]),(2,[1,59]),(4,[51,4]),(2,[60,61]),(4,[28,0]),(2,[62,63]),(4,[25,3]),(2,[1,65]),(4,[28,4]),(2,[66,67]),(4,[52,0]),(2,[68,69]),(4,[3,58]),(2,[1,71]),(4,[4,64]),(2,[72,73]),(4,[0,70]),(2,[74,75]),(4,[37,49]),(4,[41,49]),(4,[48,49]),(4,[77,3]),(2,[1,80]),(4,[40,4]),(2,[81,82]),(4,[44,0]),(2,[83,84]),(4,[40,3]),(2,[1,86]),(4,[78,4]),(2,[87,88]),(4,[47,0]),(2,[89,90]),(4,[44,3]),(2,[1,92]),(4,[47,4]),(2,[93,94]),(4,[79,0]),(2,[95,96]),(4,[3,85]),(2,[1,98]),(4,[4,91]),(2,[99,100]),(4,[0,97]),(2,[101,102]),(4,[18,103]),(4,[37,76]),(3,[104,105]),(4,[21,103]),(4,[40,76]),(3,[107,108]),(4,[22,103]),(4,[41,76]),(3,[110,111]),(4,[25,103]),(4,[44,76]),(3,[113,114]),(4,[28,103]),(4,[47,76]),(3,[116,117]),(4,[29,103]),(4,[48,76]),(3,[119,120]),(8,[0,106,109,112,115,118,121]),(8,[1,106,109,112,115,118,121]),(8,[2,106,109,112,115,118,121]),(8,[3,106,109,112,115,118,121]),(8,[4,106,109,112,115,118,121]),(8,[5,106,109,112,115,118,121]),(4,[122,49]),(4,[124,49]),(4,[127,49]),(4,[123,126]),(4,[125,129]),(3,[131,132]),(4,[125,123]),(4,[128,126]),(3,[134,135]),(4,[128,129]),(4,[123,123]),(3,[137,138]),(4,[133,125]),(2,[1,140]),(4,[136,126]),(2,[141,142]),(4,[139,130]),(2,[143,144]),(2,[128,129]),(4,[145,146]),(4,[128,3]),(2,[1,148]),(4,[123,4]),(2,[149,150]),(4,[125,0]),(2,[151,152]),(4,[123,3]),(2,[1,154]),(4,[129,4]),(2,[155,156]),(4,[126,0]),(2,[157,158]),(4,[125,3]),(2,[1,160]),(4,[126,4]),(2,[161,162]),(4,[130,0]),(2,[163,164]),(4,[3,153]),(2,[1,166]),(4,[4,159]),(2,[167,168]),(4,[0,165]),(2,[169,170]),(4,[122,171]),(8,[0,153,159,165]),(8,[1,153,159,165]),(8,[2,153,159,165]),(0,[0,3,1]),(0,[0,4,1]),(0,[1,5,1])]) (H := [(0,106,0,0),(0,122,0,0),(0,145,0,0),(1,139,0,0),(0,139,0,0),(2,147,0,0),(0,172,0,1),(0,153,0,0),(4,122,0,1),(4,123,1,1),(4,124,0,1),(4,125,1,1),(4,126,1,1),(4,127,2,1),(4,173,176,1),(4,174,177,1),(4,175,178,1)]) (K := [(49,[.inr (3,7,0,0,0)]),(82,[.inr (3,43,0,0,0),.inr (3,44,0,0,0)]),(82,[.inr (3,59,0,0,0),.inr (3,60,0,0,0)])]) (L := [([49],0),([48],1),([45,49],2),([51,47,53],3),([52,47,53],4),([51],176),([52],177),([45,53],178)]) (C := [([49],0),([48],1),([45,49],2),([51],176),([52],177),([45,53],178)]) (Z := [2,2,2,4,4,4,4,9,4,9,4,9,4,9,4,9,4,9,18,18,18,37,18,18,18,37,18,18,37,18,9,9,4,9,9,9,9,18,18,18,37,18,18,18,37,18,18,37,18,3,21,21,21,25,28,41,70,39,110,41,44,25,70,39,110,41,44,41,86,23,110,114,117,114,232,112,345,21,21,21,25,28,41,70,39,110,41,44,25,70,39,110,41,44,41,86,23,110,114,117,114,232,112,345,363,363,727,382,382,765,363,363,727,382,382,765,382,382,765,363,363,727,5356,5356,5356,5356,5356,5356,5359,5359,5359,10712,10715,21428,10712,10715,21428,10718,10712,21431,26784,26787,26784,53572,26790,80363,10719,91082,5363,5366,5360,10727,5358,16086,5360,5363,5363,10727,5358,16086,5360,5363,5360,10724,5361,16086,16090,16093,16090,32184,16088,48273,53629,64345,64345,64345,3,4,4]) (cl := []) 8 (fun _ h => by cases h) (by kernel_rfl) (by kernel_rfl) (by kernel_rfl) (by kernel_rfl) (by kernel_rfl) (by kernel_rfl) (by kernel_rfl)
end Go.Proofs.YtgkjeoeliehihaaGreatDoor
/- MBRRA -/
namespace Go.Proofs.YtgkjeoeliehihaaGreatDoor
open Go.RowKit Cx
def bR_N : List Nd := [(1,[0]),(1,[1]),(1,[2]),(1,[3]),(1,[4]),(1,[5]),(4,[0,0]),(4,[1,1]),(2,[6,7]),(4,[2,2]),(2,[8,9]),(4,[3,3]),(2,[10,11]),(4,[4,4]),(2,[12,13]),(0,[0,2,1]),(4,[0,15]),(4,[2,15]),(4,[5,15]),(4,[1,4]),(4,[3,17]),(3,[19,20]),(4,[3,1]),(4,[16,4]),(3,[22,23]),(4,[16,17]),(3,[25,7]),(4,[21,3]),(0,[0,0,1]),(2,[28,27]),(4,[24,4]),(2,[29,30]),(4,[26,18]),(2,[31,32]),(2,[16,17]),(4,[33,34]),(1,[8]),(1,[9]),(4,[36,36]),(4,[37,37]),(2,[38,39]),(1,[6]),(1,[7]),(0,[0,1,1]),(4,[16,41]),(2,[28,44]),(4,[1,42]),(2,[45,46]),(4,[3,43]),(2,[47,48]),(4,[1,41]),(2,[28,50]),(4,[17,42]),(2,[51,52]),(4,[4,43]),(2,[53,54]),(4,[3,41]),(2,[28,56]),(4,[4,42]),(2,[57,58]),(4,[18,43]),(2,[59,60]),(4,[41,49]),(2,[28,62]),(4,[42,55]),(2,[63,64]),(4,[43,61]),(2,[65,66]),(4,[0,67]),(4,[1,67]),(4,[2,67]),(4,[3,67]),(4,[4,67]),(1,[18]),(1,[19]),(4,[16,36]),(2,[28,75]),(4,[1,37]),(2,[76,77]),(4,[3,28]),(2,[78,79]),(4,[1,36]),(2,[28,81]),(4,[17,37]),(2,[82,83]),(4,[4,28]),(2,[84,85]),(4,[3,36]),(2,[28,87]),(4,[4,37]),(2,[88,89]),(4,[18,28]),(2,[90,91]),(4,[41,80]),(2,[28,93]),(4,[42,86]),(2,[94,95]),(4,[43,92]),(2,[96,97]),(4,[36,80]),(2,[28,99]),(4,[37,86]),(2,[100,101]),(4,[28,92]),(2,[102,103]),(4,[15,98]),(6,[105,104]),(4,[36,106]),(4,[37,106]),(3,[41,107]),(3,[42,108]),(1,[10]),(1,[11]),(4,[111,111]),(4,[112,112]),(2,[113,114]),(4,[16,111]),(2,[28,116]),(4,[1,112]),(2,[117,118]),(2,[119,79]),(4,[1,111]),(2,[28,121]),(4,[17,112]),(2,[122,123]),(2,[124,85]),(4,[3,111]),(2,[28,126]),(4,[4,112]),(2,[127,128]),(2,[129,91]),(4,[41,120]),(2,[28,131]),(4,[42,125]),(2,[132,133]),(4,[43,130]),(2,[134,135]),(4,[111,120]),(2,[28,137]),(4,[112,125]),(2,[138,139]),(4,[28,130]),(2,[140,141]),(4,[15,136]),(6,[143,142]),(4,[111,144]),(4,[112,144]),(3,[41,145]),(3,[42,146]),(1,[12]),(1,[13]),(4,[149,149]),(4,[150,150]),(2,[151,152]),(4,[16,149]),(2,[28,154]),(4,[1,150]),(2,[155,156]),(2,[157,79]),(4,[1,149]),(2,[28,159]),(4,[17,150]),(2,[160,161]),(2,[162,85]),(4,[3,149]),(2,[28,164]),(4,[4,150]),(2,[165,166]),(2,[167,91]),(4,[41,158]),(2,[28,169]),(4,[42,163]),(2,[170,171]),(4,[43,168]),(2,[172,173]),(4,[149,158]),(2,[28,175]),(4,[150,163]),(2,[176,177]),(4,[28,168]),(2,[178,179]),(4,[15,174]),(6,[181,180]),(4,[149,182]),(4,[150,182]),(3,[41,183]),(3,[42,184]),(1,[14]),(1,[15]),(4,[187,187]),(4,[188,188]),(2,[189,190]),(4,[16,187]),(2,[28,192]),(4,[1,188]),(2,[193,194]),(2,[195,79]),(4,[1,187]),(2,[28,197]),(4,[17,188]),(2,[198,199]),(2,[200,85]),(4,[3,187]),(2,[28,202]),(4,[4,188]),(2,[203,204]),(2,[205,91]),(4,[41,196]),(2,[28,207]),(4,[42,201]),(2,[208,209]),(4,[43,206]),(2,[210,211]),(4,[187,196]),(2,[28,213]),(4,[188,201]),(2,[214,215]),(4,[28,206]),(2,[216,217]),(4,[15,212]),(6,[219,218]),(4,[187,220]),(4,[188,220]),(3,[41,221]),(3,[42,222]),(1,[16]),(1,[17]),(4,[225,225]),(4,[226,226]),(2,[227,228]),(4,[16,225]),(2,[28,230]),(4,[1,226]),(2,[231,232]),(2,[233,79]),(4,[1,225]),(2,[28,235]),(4,[17,226]),(2,[236,237]),(2,[238,85]),(4,[3,225]),(2,[28,240]),(4,[4,226]),(2,[241,242]),(2,[243,91]),(4,[41,234]),(2,[28,245]),(4,[42,239]),(2,[246,247]),(4,[43,244]),(2,[248,249]),(4,[225,234]),(2,[28,251]),(4,[226,239]),(2,[252,253]),(4,[28,244]),(2,[254,255]),(4,[15,250]),(6,[257,256]),(4,[225,258]),(4,[226,258]),(3,[41,259]),(3,[42,260]),(7,[109,110,6,7]),(7,[147,148,6,7]),(3,[147,109]),(3,[148,110]),(4,[265,265]),(4,[266,266]),(2,[267,268]),(7,[185,186,6,7]),(3,[185,109]),(3,[186,110]),(4,[271,271]),(4,[272,272]),(2,[273,274]),(3,[185,147]),(3,[186,148]),(4,[276,276]),(4,[277,277]),(2,[278,279]),(7,[223,224,6,7]),(3,[223,109]),(3,[224,110]),(4,[282,282]),(4,[283,283]),(2,[284,285]),(3,[223,147]),(3,[224,148]),(4,[287,287]),(4,[288,288]),(2,[289,290]),(3,[223,185]),(3,[224,186]),(4,[292,292]),(4,[293,293]),(2,[294,295]),(7,[261,262,6,7]),(3,[261,109]),(3,[262,110]),(4,[298,298]),(4,[299,299]),(2,[300,301]),(3,[261,147]),(3,[262,148]),(4,[303,303]),(4,[304,304]),(2,[305,306]),(3,[261,185]),(3,[262,186]),(4,[308,308]),(4,[309,309]),(2,[310,311]),(3,[261,223]),(3,[262,224]),(4,[313,313]),(4,[314,314]),(2,[315,316]),(3,[74,28]),(0,[0,4,1]),(3,[73,319]),(0,[0,5,1]),(3,[73,321]),(4,[49,49]),(4,[55,55]),(2,[323,324]),(8,[0,49,55,61]),(8,[1,49,55,61]),(8,[2,49,55,61]),(4,[16,109]),(2,[28,329]),(4,[1,110]),(2,[330,331]),(2,[332,48]),(4,[1,109]),(2,[28,334]),(4,[17,110]),(2,[335,336]),(2,[337,54]),(4,[3,109]),(2,[28,339]),(4,[4,110]),(2,[340,341]),(2,[342,60]),(4,[109,333]),(2,[28,344]),(4,[110,338]),(2,[345,346]),(4,[43,343]),(2,[347,348]),(4,[0,349]),(4,[1,349]),(4,[2,349]),(4,[3,349]),(4,[4,349]),(4,[333,333]),(4,[338,338]),(2,[355,356]),(8,[0,333,338,343]),(8,[1,333,338,343]),(8,[2,333,338,343]),(4,[16,147]),(2,[28,361]),(4,[1,148]),(2,[362,363]),(2,[364,48]),(4,[1,147]),(2,[28,366]),(4,[17,148]),(2,[367,368]),(2,[369,54]),(4,[3,147]),(2,[28,371]),(4,[4,148]),(2,[372,373]),(2,[374,60]),(4,[147,365]),(2,[28,376]),(4,[148,370]),(2,[377,378]),(4,[43,375]),(2,[379,380]),(4,[0,381]),(4,[1,381]),(4,[2,381]),(4,[3,381]),(4,[4,381]),(4,[365,365]),(4,[370,370]),(2,[387,388]),(8,[0,365,370,375]),(8,[1,365,370,375]),(8,[2,365,370,375]),(4,[16,185]),(2,[28,393]),(4,[1,186]),(2,[394,395]),(2,[396,48]),(4,[1,185]),(2,[28,398]),(4,[17,186]),(2,[399,400]),(2,[401,54]),(4,[3,185]),(2,[28,403]),(4,[4,186]),(2,[404,405]),(2,[406,60]),(4,[185,397]),(2,[28,408]),(4,[186,402]),(2,[409,410]),(4,[43,407]),(2,[411,412]),(4,[0,413]),(4,[1,413]),(4,[2,413]),(4,[3,413]),(4,[4,413]),(4,[397,397]),(4,[402,402]),(2,[419,420]),(8,[0,397,402,407]),(8,[1,397,402,407]),(8,[2,397,402,407]),(4,[16,223]),(2,[28,425]),(4,[1,224]),(2,[426,427]),(2,[428,48]),(4,[1,223]),(2,[28,430]),(4,[17,224]),(2,[431,432]),(2,[433,54]),(4,[3,223]),(2,[28,435]),(4,[4,224]),(2,[436,437]),(2,[438,60]),(4,[223,429]),(2,[28,440]),(4,[224,434]),(2,[441,442]),(4,[43,439]),(2,[443,444]),(4,[0,445]),(4,[1,445]),(4,[2,445]),(4,[3,445]),(4,[4,445]),(4,[429,429]),(4,[434,434]),(2,[451,452]),(8,[0,429,434,439]),(8,[1,429,434,439]),(8,[2,429,434,439]),(4,[16,261]),(2,[28,457]),(4,[1,262]),(2,[458,459]),(2,[460,48]),(4,[1,261]),(2,[28,462]),(4,[17,262]),(2,[463,464]),(2,[465,54]),(4,[3,261]),(2,[28,467]),(4,[4,262]),(2,[468,469]),(2,[470,60]),(4,[261,461]),(2,[28,472]),(4,[262,466]),(2,[473,474]),(4,[43,471]),(2,[475,476]),(4,[0,477]),(4,[1,477]),(4,[2,477]),(4,[3,477]),(4,[4,477]),(4,[461,461]),(4,[466,466]),(2,[483,484]),(8,[0,461,466,471]),(8,[1,461,466,471]),(8,[2,461,466,471]),(4,[326,326]),(4,[327,327]),(2,[489,490]),(4,[358,358]),(4,[359,359]),(2,[492,493]),(4,[326,359]),(4,[327,358]),(3,[495,496]),(4,[358,328]),(4,[359,328]),(4,[326,360]),(4,[327,360]),(3,[498,500]),(3,[499,501]),(5,[503]),(6,[504,497]),(6,[502,497]),(4,[390,390]),(4,[391,391]),(2,[507,508]),(4,[358,391]),(4,[359,390]),(3,[510,511]),(4,[390,360]),(4,[391,360]),(4,[358,392]),(4,[359,392]),(3,[513,515]),(3,[514,516]),(5,[518]),(6,[519,512]),(6,[517,512]),(4,[422,422]),(4,[423,423]),(2,[522,523]),(4,[390,423]),(4,[391,422]),(3,[525,526]),(4,[422,392]),(4,[423,392]),(4,[390,424]),(4,[391,424]),(3,[528,530]),(3,[529,531]),(5,[533]),(6,[534,527]),(6,[532,527]),(4,[454,454]),(4,[455,455]),(2,[537,538]),(4,[422,455]),(4,[423,454]),(3,[540,541]),(4,[454,424]),(4,[455,424]),(4,[422,456]),(4,[423,456]),(3,[543,545]),(3,[544,546]),(5,[548]),(6,[549,542]),(6,[547,542]),(4,[486,486]),(4,[487,487]),(2,[552,553]),(4,[454,487]),(4,[455,486]),(3,[555,556]),(4,[486,456]),(4,[487,456]),(4,[454,488]),(4,[455,488]),(3,[558,560]),(3,[559,561]),(5,[563]),(6,[564,557]),(6,[562,557]),(4,[486,327]),(4,[487,326]),(3,[567,568]),(4,[326,488]),(4,[327,488]),(4,[486,328]),(4,[487,328]),(3,[570,572]),(3,[571,573]),(5,[575]),(6,[576,569]),(6,[574,569]),(3,[550,505]),(3,[551,506]),(5,[580]),(4,[581,581]),(4,[579,579]),(2,[582,583]),(4,[581,505]),(4,[579,506]),(2,[585,586]),(5,[587]),(8,[0,581,579,588]),(8,[1,581,579,588]),(8,[2,581,579,588]),(3,[565,520]),(3,[566,521]),(5,[593]),(4,[594,594]),(4,[592,592]),(2,[595,596]),(4,[594,520]),(4,[592,521]),(2,[598,599]),(5,[600]),(8,[0,594,592,601]),(8,[1,594,592,601]),(8,[2,594,592,601]),(3,[577,535]),(3,[578,536]),(5,[606]),(4,[607,607]),(4,[605,605]),(2,[608,609]),(4,[607,535]),(4,[605,536]),(2,[611,612]),(5,[613]),(8,[0,607,605,614]),(8,[1,607,605,614]),(8,[2,607,605,614]),(4,[603,617]),(4,[604,616]),(3,[618,619]),(4,[589,620]),(4,[602,617]),(4,[604,615]),(3,[622,623]),(4,[590,624]),(5,[625]),(4,[602,616]),(4,[603,615]),(3,[627,628]),(4,[591,629]),(2,[621,626]),(2,[631,630]),(4,[574,574]),(4,[575,575]),(2,[633,634]),(4,[562,562]),(4,[563,563]),(2,[636,637]),(4,[547,547]),(4,[548,548]),(2,[639,640]),(4,[532,532]),(4,[533,533]),(2,[642,643]),(4,[517,517]),(4,[518,518]),(2,[645,646]),(4,[502,502]),(4,[503,503]),(2,[648,649])]
def bR_L : List (List Nat × Nat) := []
def bR_C : List (List Nat × Nat) := []
def bR_Z : List Nat := [3495260,3495260,3495260,3495260,3495260,3495260,6990519,6990519,13981038,6990519,20971558,6990519,27962078,6990519,34952598,2,3495261,3495261,3495261,6990519,6990520,13981040,6990519,6990520,13981040,6990522,13981042,17476299,1,17476301,17476299,24466821,17476303,31457341,6990522,38447863,3495260,3495260,6990519,6990519,13981038,3495260,3495260,1,6990520,6990522,6990519,13981042,3495260,17476303,6990519,6990521,6990520,13981041,3495260,17476302,6990519,6990521,6990519,13981041,3495262,17476302,20971562,20971564,20971561,31457343,17476303,34952604,38447863,38447863,38447863,38447863,38447863,3495260,3495260,6990520,6990522,6990519,13981042,3495260,17476303,6990519,6990521,6990520,13981041,3495260,17476302,6990519,6990521,6990519,13981041,3495262,17476302,20971562,20971564,20971561,31457343,17476303,34952604,20971562,20971564,20971561,31457343,17476303,34952604,34952606,41943125,45438384,45438384,45438386,45438386,3495260,3495260,6990519,6990519,13981038,6990520,6990522,6990519,13981042,17476303,6990519,6990521,6990520,13981041,17476302,6990519,6990521,6990519,13981041,17476302,20971562,20971564,20971561,31457343,17476303,34952604,20971562,20971564,20971561,31457343,17476303,34952604,34952606,41943125,45438384,45438384,45438386,45438386,3495260,3495260,6990519,6990519,13981038,6990520,6990522,6990519,13981042,17476303,6990519,6990521,6990520,13981041,17476302,6990519,6990521,6990519,13981041,17476302,20971562,20971564,20971561,31457343,17476303,34952604,20971562,20971564,20971561,31457343,17476303,34952604,34952606,41943125,45438384,45438384,45438386,45438386,3495260,3495260,6990519,6990519,13981038,6990520,6990522,6990519,13981042,17476303,6990519,6990521,6990520,13981041,17476302,6990519,6990521,6990519,13981041,17476302,20971562,20971564,20971561,31457343,17476303,34952604,20971562,20971564,20971561,31457343,17476303,34952604,34952606,41943125,45438384,45438384,45438386,45438386,3495260,3495260,6990519,6990519,13981038,6990520,6990522,6990519,13981042,17476303,6990519,6990521,6990520,13981041,17476302,6990519,6990521,6990519,13981041,17476302,20971562,20971564,20971561,31457343,17476303,34952604,20971562,20971564,20971561,31457343,17476303,34952604,34952606,41943125,45438384,45438384,45438386,45438386,1,1,83886251,83886251,167772502,167772502,181753540,1,83886251,83886251,167772502,167772502,181753540,83886251,83886251,167772502,167772502,181753540,1,83886251,83886251,167772502,167772502,181753540,83886251,83886251,167772502,167772502,181753540,83886251,83886251,167772502,167772502,181753540,1,83886251,83886251,167772502,167772502,181753540,83886251,83886251,167772502,167772502,181753540,83886251,83886251,167772502,167772502,181753540,83886251,83886251,167772502,167772502,181753540,3495262,3,3495264,3,3495264,34952606,34952604,48933644,27962081,27962080,27962080,48933647,48933649,48933645,55924169,59419430,48933645,48933647,48933647,55924167,59419428,48933645,48933647,48933645,55924167,59419428,104857816,104857818,104857814,115343597,59419429,118838858,122334117,122334117,122334117,122334117,122334117,118838860,118838856,132819898,69905208,69905206,69905206,48933647,48933649,48933645,55924169,59419430,48933645,48933647,48933647,55924167,59419428,48933645,48933647,48933645,55924167,59419428,104857816,104857818,104857814,115343597,59419429,118838858,122334117,122334117,122334117,122334117,122334117,118838860,118838856,132819898,69905208,69905206,69905206,48933647,48933649,48933645,55924169,59419430,48933645,48933647,48933647,55924167,59419428,48933645,48933647,48933645,55924167,59419428,104857816,104857818,104857814,115343597,59419429,118838858,122334117,122334117,122334117,122334117,122334117,118838860,118838856,132819898,69905208,69905206,69905206,48933647,48933649,48933645,55924169,59419430,48933645,48933647,48933647,55924167,59419428,48933645,48933647,48933645,55924167,59419428,104857816,104857818,104857814,115343597,59419429,118838858,122334117,122334117,122334117,122334117,122334117,118838860,118838856,132819898,69905208,69905206,69905206,48933647,48933649,48933645,55924169,59419430,48933645,48933647,48933647,55924167,59419428,48933645,48933647,48933645,55924167,59419428,104857816,104857818,104857814,115343597,59419429,118838858,122334117,122334117,122334117,122334117,122334117,118838860,118838856,132819898,69905208,69905206,69905206,55924162,55924160,55924164,139810416,139810412,139810418,97867287,97867288,97867290,97867288,97867286,97867287,97867286,97867290,97867288,97867288,97867291,97867291,139810416,139810412,139810418,139810414,139810414,139810416,139810414,139810412,139810414,139810412,139810416,139810414,139810414,139810417,139810417,139810416,139810412,139810418,139810414,139810414,139810416,139810414,139810412,139810414,139810412,139810416,139810414,139810414,139810417,139810417,139810416,139810412,139810418,139810414,139810414,139810416,139810414,139810412,139810414,139810412,139810416,139810414,139810414,139810417,139810417,139810416,139810412,139810418,139810414,139810414,139810416,139810414,139810412,139810414,139810412,139810416,139810414,139810414,139810417,139810417,97867288,97867287,97867290,97867287,97867286,97867288,97867286,97867290,97867288,97867288,97867291,97867291,237677707,237677709,237677709,475355418,475355414,475355420,335544998,335544998,335545000,335545000,335545000,335544998,335545001,279620833,279620835,279620835,559241670,559241666,559241672,419431250,419431250,419431252,419431252,419431252,419431250,419431253,237677707,237677709,237677709,475355418,475355414,475355420,377488124,377488124,377488126,377488126,377488126,377488124,377488127,796919377,796919377,796919379,1132464379,796919379,796919379,796919381,1132464379,1132464379,796919376,796919376,796919378,1132464379,1132464381,1132464383,195734580,195734576,195734582,279620832,279620828,279620834,279620832,279620828,279620834,279620832,279620828,279620834,279620832,279620828,279620834,195734580,195734576,195734582]
def bR_D0 : List Atm := [(0,0),(0,2)]
def bR_D1 : List Atm := [(0,1),(0,2),(0,3),(0,3),(0,4)]
def bR_D2 : List Atm := [(0,0),(0,6)]
def bR_D3 : List Atm := [(0,1),(0,6)]
def bR_D4 : List Atm := [(0,3),(0,6)]
def bR_D5 : List Atm := [(0,3),(0,4),(0,5),(0,6),(0,7)]
def bR_D6 : List Atm := [(0,0),(0,1),(0,3),(0,6),(0,6),(0,7)]
def bR_D7 : List Atm := [(0,0),(0,8)]
def bR_D8 : List Atm := [(0,1),(0,8)]
def bR_D9 : List Atm := [(0,3),(0,8)]
def bR_D10 : List Atm := [(0,3),(0,4),(0,5),(0,8),(0,9)]
def bR_D11 : List Atm := [(0,0),(0,1),(0,3),(0,6),(0,8),(0,9)]
def bR_D12 : List Atm := [(0,0),(0,1),(0,2),(0,3),(0,4),(0,5),(0,6),(0,7),(0,8),(0,9)]
def bR_D13 : List Atm := [(0,0),(0,1),(0,3),(0,8),(0,8),(0,9)]
def bR_D14 : List Atm := [(0,6),(0,7),(0,8),(1,104)]
def bR_D15 : List Atm := [(0,6),(0,7),(0,9),(1,104)]
def bR_D16 : List Atm := [(0,0),(0,10)]
def bR_D17 : List Atm := [(0,1),(0,10)]
def bR_D18 : List Atm := [(0,3),(0,10)]
def bR_D19 : List Atm := [(0,3),(0,4),(0,5),(0,10),(0,11)]
def bR_D20 : List Atm := [(0,0),(0,1),(0,3),(0,6),(0,10),(0,11)]
def bR_D21 : List Atm := [(0,0),(0,1),(0,2),(0,3),(0,4),(0,5),(0,6),(0,7),(0,10),(0,11)]
def bR_D22 : List Atm := [(0,0),(0,1),(0,3),(0,10),(0,10),(0,11)]
def bR_D23 : List Atm := [(0,6),(0,7),(0,10),(1,142)]
def bR_D24 : List Atm := [(0,6),(0,7),(0,11),(1,142)]
def bR_D25 : List Atm := [(0,0),(0,12)]
def bR_D26 : List Atm := [(0,1),(0,12)]
def bR_D27 : List Atm := [(0,3),(0,12)]
def bR_D28 : List Atm := [(0,3),(0,4),(0,5),(0,12),(0,13)]
def bR_D29 : List Atm := [(0,0),(0,1),(0,3),(0,6),(0,12),(0,13)]
def bR_D30 : List Atm := [(0,0),(0,1),(0,2),(0,3),(0,4),(0,5),(0,6),(0,7),(0,12),(0,13)]
def bR_D31 : List Atm := [(0,0),(0,1),(0,3),(0,12),(0,12),(0,13)]
def bR_D32 : List Atm := [(0,6),(0,7),(0,12),(1,180)]
def bR_D33 : List Atm := [(0,6),(0,7),(0,13),(1,180)]
def bR_D34 : List Atm := [(0,0),(0,14)]
def bR_D35 : List Atm := [(0,1),(0,14)]
def bR_D36 : List Atm := [(0,3),(0,14)]
def bR_D37 : List Atm := [(0,3),(0,4),(0,5),(0,14),(0,15)]
def bR_D38 : List Atm := [(0,0),(0,1),(0,3),(0,6),(0,14),(0,15)]
def bR_D39 : List Atm := [(0,0),(0,1),(0,2),(0,3),(0,4),(0,5),(0,6),(0,7),(0,14),(0,15)]
def bR_D40 : List Atm := [(0,0),(0,1),(0,3),(0,14),(0,14),(0,15)]
def bR_D41 : List Atm := [(0,6),(0,7),(0,14),(1,218)]
def bR_D42 : List Atm := [(0,6),(0,7),(0,15),(1,218)]
def bR_D43 : List Atm := [(0,0),(0,16)]
def bR_D44 : List Atm := [(0,1),(0,16)]
def bR_D45 : List Atm := [(0,3),(0,16)]
def bR_D46 : List Atm := [(0,3),(0,4),(0,5),(0,16),(0,17)]
def bR_D47 : List Atm := [(0,0),(0,1),(0,3),(0,6),(0,16),(0,17)]
def bR_D48 : List Atm := [(0,0),(0,1),(0,2),(0,3),(0,4),(0,5),(0,6),(0,7),(0,16),(0,17)]
def bR_D49 : List Atm := [(0,0),(0,1),(0,3),(0,16),(0,16),(0,17)]
def bR_D50 : List Atm := [(0,6),(0,7),(0,16),(1,256)]
def bR_D51 : List Atm := [(0,6),(0,7),(0,17),(1,256)]
def bR_D52 : List Atm := [(0,0),(0,6),(0,7),(0,8),(1,104)]
def bR_D53 : List Atm := [(0,1),(0,6),(0,7),(0,8),(1,104)]
def bR_D54 : List Atm := [(0,3),(0,6),(0,7),(0,8),(1,104)]
def bR_D55 : List Atm := [(0,3),(0,4),(0,5),(0,6),(0,7),(0,8),(0,9),(1,104)]
def bR_D56 : List Atm := [(0,0),(0,1),(0,3),(0,6),(0,6),(0,7),(0,7),(0,8),(0,8),(0,9),(1,104),(1,104)]
def bR_D57 : List Atm := [(0,0),(0,6),(0,7),(0,10),(1,142)]
def bR_D58 : List Atm := [(0,1),(0,6),(0,7),(0,10),(1,142)]
def bR_D59 : List Atm := [(0,3),(0,6),(0,7),(0,10),(1,142)]
def bR_D60 : List Atm := [(0,3),(0,4),(0,5),(0,6),(0,7),(0,10),(0,11),(1,142)]
def bR_D61 : List Atm := [(0,0),(0,1),(0,3),(0,6),(0,6),(0,7),(0,7),(0,10),(0,10),(0,11),(1,142),(1,142)]
def bR_D62 : List Atm := [(0,0),(0,6),(0,7),(0,12),(1,180)]
def bR_D63 : List Atm := [(0,1),(0,6),(0,7),(0,12),(1,180)]
def bR_D64 : List Atm := [(0,3),(0,6),(0,7),(0,12),(1,180)]
def bR_D65 : List Atm := [(0,3),(0,4),(0,5),(0,6),(0,7),(0,12),(0,13),(1,180)]
def bR_D66 : List Atm := [(0,0),(0,1),(0,3),(0,6),(0,6),(0,7),(0,7),(0,12),(0,12),(0,13),(1,180),(1,180)]
def bR_D67 : List Atm := [(0,0),(0,6),(0,7),(0,14),(1,218)]
def bR_D68 : List Atm := [(0,1),(0,6),(0,7),(0,14),(1,218)]
def bR_D69 : List Atm := [(0,3),(0,6),(0,7),(0,14),(1,218)]
def bR_D70 : List Atm := [(0,3),(0,4),(0,5),(0,6),(0,7),(0,14),(0,15),(1,218)]
def bR_D71 : List Atm := [(0,0),(0,1),(0,3),(0,6),(0,6),(0,7),(0,7),(0,14),(0,14),(0,15),(1,218),(1,218)]
def bR_D72 : List Atm := [(0,0),(0,6),(0,7),(0,16),(1,256)]
def bR_D73 : List Atm := [(0,1),(0,6),(0,7),(0,16),(1,256)]
def bR_D74 : List Atm := [(0,3),(0,6),(0,7),(0,16),(1,256)]
def bR_D75 : List Atm := [(0,3),(0,4),(0,5),(0,6),(0,7),(0,16),(0,17),(1,256)]
def bR_D76 : List Atm := [(0,0),(0,1),(0,3),(0,6),(0,6),(0,7),(0,7),(0,16),(0,16),(0,17),(1,256),(1,256)]
def bR_D77 : List Atm := [(1,497),(1,542)]
def bR_D78 : List Atm := [(1,497),(1,497),(1,542),(1,542)]
def bR_D79 : List Atm := [(1,497),(1,497),(1,542)]
def bR_D80 : List Atm := [(1,512),(1,557)]
def bR_D81 : List Atm := [(1,512),(1,512),(1,557),(1,557)]
def bR_D82 : List Atm := [(1,512),(1,512),(1,557)]
def bR_D83 : List Atm := [(1,527),(1,569)]
def bR_D84 : List Atm := [(1,527),(1,527),(1,569),(1,569)]
def bR_D85 : List Atm := [(1,527),(1,527),(1,569)]
def bR_E : List (Nat × List Atm) := [(3495259,[(0,0)]),(3495259,[(0,1)]),(3495259,[(0,2)]),(3495259,[(0,3)]),(3495259,[(0,4)]),(3495259,[(0,5)]),(6990518,[(0,0),(0,0)]),(6990518,[(0,1),(0,1)]),(13981038,[(0,0),(0,0),(0,1),(0,1)]),(6990518,[(0,2),(0,2)]),(20971558,[(0,0),(0,0),(0,1),(0,1),(0,2),(0,2)]),(6990518,[(0,3),(0,3)]),(27962078,[(0,0),(0,0),(0,1),(0,1),(0,2),(0,2),(0,3),(0,3)]),(6990518,[(0,4),(0,4)]),(34952598,[(0,0),(0,0),(0,1),(0,1),(0,2),(0,2),(0,3),(0,3),(0,4),(0,4)]),(2,[]),(3495261,[(0,0)]),(3495261,[(0,2)]),(3495261,[(0,5)]),(6990518,[(0,1),(0,4)]),(6990520,[(0,2),(0,3)]),(13981040,[(0,1),(0,2),(0,3),(0,4)]),(6990518,[(0,1),(0,3)]),(6990520,[(0,0),(0,4)]),(13981040,[(0,0),(0,1),(0,3),(0,4)]),(6990522,bR_D0),(13981042,[(0,0),(0,1),(0,1),(0,2)]),(17476299,bR_D1),(1,[]),(17476301,bR_D1),(17476299,[(0,0),(0,1),(0,3),(0,4),(0,4)]),(24466821,[(0,0),(0,1),(0,2),(0,3),(0,3),(0,4),(0,4)]),(17476303,[(0,0),(0,1),(0,1),(0,2),(0,5)]),(31457341,[(0,0),(0,1),(0,1),(0,2),(0,3),(0,3),(0,4),(0,4),(0,5)]),(6990522,bR_D0),(38447863,[(0,0),(0,0),(0,1),(0,1),(0,2),(0,2),(0,3),(0,3),(0,4),(0,4),(0,5)]),(3495259,[(0,8)]),(3495259,[(0,9)]),(6990518,[(0,8),(0,8)]),(6990518,[(0,9),(0,9)]),(13981038,[(0,8),(0,8),(0,9),(0,9)]),(3495259,[(0,6)]),(3495259,[(0,7)]),(1,[]),(6990520,bR_D2),(6990522,bR_D2),(6990518,[(0,1),(0,7)]),(13981042,[(0,0),(0,1),(0,6),(0,7)]),(3495260,[(0,3)]),(17476303,[(0,0),(0,1),(0,3),(0,6),(0,7)]),(6990518,bR_D3),(6990521,bR_D3),(6990520,[(0,2),(0,7)]),(13981041,[(0,1),(0,2),(0,6),(0,7)]),(3495260,[(0,4)]),(17476302,[(0,1),(0,2),(0,4),(0,6),(0,7)]),(6990518,bR_D4),(6990521,bR_D4),(6990518,[(0,4),(0,7)]),(13981041,[(0,3),(0,4),(0,6),(0,7)]),(3495262,[(0,5)]),(17476302,bR_D5),(20971562,bR_D6),(20971564,bR_D6),(20971561,[(0,1),(0,2),(0,4),(0,6),(0,7),(0,7)]),(31457343,[(0,0),(0,1),(0,2),(0,3),(0,4),(0,6),(0,6),(0,7),(0,7)]),(17476303,bR_D5),(34952604,[(0,0),(0,1),(0,2),(0,3),(0,4),(0,5),(0,6),(0,6),(0,7),(0,7)]),(38447863,[(0,0),(0,0),(0,1),(0,2),(0,3),(0,4),(0,5),(0,6),(0,6),(0,7),(0,7)]),(38447863,[(0,0),(0,1),(0,1),(0,2),(0,3),(0,4),(0,5),(0,6),(0,6),(0,7),(0,7)]),(38447863,[(0,0),(0,1),(0,2),(0,2),(0,3),(0,4),(0,5),(0,6),(0,6),(0,7),(0,7)]),(38447863,[(0,0),(0,1),(0,2),(0,3),(0,3),(0,4),(0,5),(0,6),(0,6),(0,7),(0,7)]),(38447863,[(0,0),(0,1),(0,2),(0,3),(0,4),(0,4),(0,5),(0,6),(0,6),(0,7),(0,7)]),(3495259,[(0,18)]),(3495259,[(0,19)]),(6990520,bR_D7),(6990522,bR_D7),(6990518,[(0,1),(0,9)]),(13981042,[(0,0),(0,1),(0,8),(0,9)]),(3495260,[(0,3)]),(17476303,[(0,0),(0,1),(0,3),(0,8),(0,9)]),(6990518,bR_D8),(6990521,bR_D8),(6990520,[(0,2),(0,9)]),(13981041,[(0,1),(0,2),(0,8),(0,9)]),(3495260,[(0,4)]),(17476302,[(0,1),(0,2),(0,4),(0,8),(0,9)]),(6990518,bR_D9),(6990521,bR_D9),(6990518,[(0,4),(0,9)]),(13981041,[(0,3),(0,4),(0,8),(0,9)]),(3495262,[(0,5)]),(17476302,bR_D10),(20971562,bR_D11),(20971564,bR_D11),(20971561,[(0,1),(0,2),(0,4),(0,7),(0,8),(0,9)]),(31457343,[(0,0),(0,1),(0,2),(0,3),(0,4),(0,6),(0,7),(0,8),(0,9)]),(17476303,bR_D10),(34952604,bR_D12),(20971562,bR_D13),(20971564,bR_D13),(20971561,[(0,1),(0,2),(0,4),(0,8),(0,9),(0,9)]),(31457343,[(0,0),(0,1),(0,2),(0,3),(0,4),(0,8),(0,8),(0,9),(0,9)]),(17476303,bR_D10),(34952604,[(0,0),(0,1),(0,2),(0,3),(0,4),(0,5),(0,8),(0,8),(0,9),(0,9)]),(34952606,bR_D12),(41943125,[(0,6),(0,7),(1,104)]),(45438384,bR_D14),(45438384,bR_D15),(45438386,bR_D14),(45438386,bR_D15),(3495259,[(0,10)]),(3495259,[(0,11)]),(6990518,[(0,10),(0,10)]),(6990518,[(0,11),(0,11)]),(13981038,[(0,10),(0,10),(0,11),(0,11)]),(6990520,bR_D16),(6990522,bR_D16),(6990518,[(0,1),(0,11)]),(13981042,[(0,0),(0,1),(0,10),(0,11)]),(17476303,[(0,0),(0,1),(0,3),(0,10),(0,11)]),(6990518,bR_D17),(6990521,bR_D17),(6990520,[(0,2),(0,11)]),(13981041,[(0,1),(0,2),(0,10),(0,11)]),(17476302,[(0,1),(0,2),(0,4),(0,10),(0,11)]),(6990518,bR_D18),(6990521,bR_D18),(6990518,[(0,4),(0,11)]),(13981041,[(0,3),(0,4),(0,10),(0,11)]),(17476302,bR_D19),(20971562,bR_D20),(20971564,bR_D20),(20971561,[(0,1),(0,2),(0,4),(0,7),(0,10),(0,11)]),(31457343,[(0,0),(0,1),(0,2),(0,3),(0,4),(0,6),(0,7),(0,10),(0,11)]),(17476303,bR_D19),(34952604,bR_D21),(20971562,bR_D22),(20971564,bR_D22),(20971561,[(0,1),(0,2),(0,4),(0,10),(0,11),(0,11)]),(31457343,[(0,0),(0,1),(0,2),(0,3),(0,4),(0,10),(0,10),(0,11),(0,11)]),(17476303,bR_D19),(34952604,[(0,0),(0,1),(0,2),(0,3),(0,4),(0,5),(0,10),(0,10),(0,11),(0,11)]),(34952606,bR_D21),(41943125,[(0,6),(0,7),(1,142)]),(45438384,bR_D23),(45438384,bR_D24),(45438386,bR_D23),(45438386,bR_D24),(3495259,[(0,12)]),(3495259,[(0,13)]),(6990518,[(0,12),(0,12)]),(6990518,[(0,13),(0,13)]),(13981038,[(0,12),(0,12),(0,13),(0,13)]),(6990520,bR_D25),(6990522,bR_D25),(6990518,[(0,1),(0,13)]),(13981042,[(0,0),(0,1),(0,12),(0,13)]),(17476303,[(0,0),(0,1),(0,3),(0,12),(0,13)]),(6990518,bR_D26),(6990521,bR_D26),(6990520,[(0,2),(0,13)]),(13981041,[(0,1),(0,2),(0,12),(0,13)]),(17476302,[(0,1),(0,2),(0,4),(0,12),(0,13)]),(6990518,bR_D27),(6990521,bR_D27),(6990518,[(0,4),(0,13)]),(13981041,[(0,3),(0,4),(0,12),(0,13)]),(17476302,bR_D28),(20971562,bR_D29),(20971564,bR_D29),(20971561,[(0,1),(0,2),(0,4),(0,7),(0,12),(0,13)]),(31457343,[(0,0),(0,1),(0,2),(0,3),(0,4),(0,6),(0,7),(0,12),(0,13)]),(17476303,bR_D28),(34952604,bR_D30),(20971562,bR_D31),(20971564,bR_D31),(20971561,[(0,1),(0,2),(0,4),(0,12),(0,13),(0,13)]),(31457343,[(0,0),(0,1),(0,2),(0,3),(0,4),(0,12),(0,12),(0,13),(0,13)]),(17476303,bR_D28),(34952604,[(0,0),(0,1),(0,2),(0,3),(0,4),(0,5),(0,12),(0,12),(0,13),(0,13)]),(34952606,bR_D30),(41943125,[(0,6),(0,7),(1,180)]),(45438384,bR_D32),(45438384,bR_D33),(45438386,bR_D32),(45438386,bR_D33),(3495259,[(0,14)]),(3495259,[(0,15)]),(6990518,[(0,14),(0,14)]),(6990518,[(0,15),(0,15)]),(13981038,[(0,14),(0,14),(0,15),(0,15)]),(6990520,bR_D34),(6990522,bR_D34),(6990518,[(0,1),(0,15)]),(13981042,[(0,0),(0,1),(0,14),(0,15)]),(17476303,[(0,0),(0,1),(0,3),(0,14),(0,15)]),(6990518,bR_D35),(6990521,bR_D35),(6990520,[(0,2),(0,15)]),(13981041,[(0,1),(0,2),(0,14),(0,15)]),(17476302,[(0,1),(0,2),(0,4),(0,14),(0,15)]),(6990518,bR_D36),(6990521,bR_D36),(6990518,[(0,4),(0,15)]),(13981041,[(0,3),(0,4),(0,14),(0,15)]),(17476302,bR_D37),(20971562,bR_D38),(20971564,bR_D38),(20971561,[(0,1),(0,2),(0,4),(0,7),(0,14),(0,15)]),(31457343,[(0,0),(0,1),(0,2),(0,3),(0,4),(0,6),(0,7),(0,14),(0,15)]),(17476303,bR_D37),(34952604,bR_D39),(20971562,bR_D40),(20971564,bR_D40),(20971561,[(0,1),(0,2),(0,4),(0,14),(0,15),(0,15)]),(31457343,[(0,0),(0,1),(0,2),(0,3),(0,4),(0,14),(0,14),(0,15),(0,15)]),(17476303,bR_D37),(34952604,[(0,0),(0,1),(0,2),(0,3),(0,4),(0,5),(0,14),(0,14),(0,15),(0,15)]),(34952606,bR_D39),(41943125,[(0,6),(0,7),(1,218)]),(45438384,bR_D41),(45438384,bR_D42),(45438386,bR_D41),(45438386,bR_D42),(3495259,[(0,16)]),(3495259,[(0,17)]),(6990518,[(0,16),(0,16)]),(6990518,[(0,17),(0,17)]),(13981038,[(0,16),(0,16),(0,17),(0,17)]),(6990520,bR_D43),(6990522,bR_D43),(6990518,[(0,1),(0,17)]),(13981042,[(0,0),(0,1),(0,16),(0,17)]),(17476303,[(0,0),(0,1),(0,3),(0,16),(0,17)]),(6990518,bR_D44),(6990521,bR_D44),(6990520,[(0,2),(0,17)]),(13981041,[(0,1),(0,2),(0,16),(0,17)]),(17476302,[(0,1),(0,2),(0,4),(0,16),(0,17)]),(6990518,bR_D45),(6990521,bR_D45),(6990518,[(0,4),(0,17)]),(13981041,[(0,3),(0,4),(0,16),(0,17)]),(17476302,bR_D46),(20971562,bR_D47),(20971564,bR_D47),(20971561,[(0,1),(0,2),(0,4),(0,7),(0,16),(0,17)]),(31457343,[(0,0),(0,1),(0,2),(0,3),(0,4),(0,6),(0,7),(0,16),(0,17)]),(17476303,bR_D46),(34952604,bR_D48),(20971562,bR_D49),(20971564,bR_D49),(20971561,[(0,1),(0,2),(0,4),(0,16),(0,17),(0,17)]),(31457343,[(0,0),(0,1),(0,2),(0,3),(0,4),(0,16),(0,16),(0,17),(0,17)]),(17476303,bR_D46),(34952604,[(0,0),(0,1),(0,2),(0,3),(0,4),(0,5),(0,16),(0,16),(0,17),(0,17)]),(34952606,bR_D48),(41943125,[(0,6),(0,7),(1,256)]),(45438384,bR_D50),(45438384,bR_D51),(45438386,bR_D50),(45438386,bR_D51),(1,[]),(1,[]),(83886251,[(0,6),(0,7),(0,8),(0,10),(1,104),(1,142)]),(83886251,[(0,6),(0,7),(0,9),(0,11),(1,104),(1,142)]),(167772502,[(0,6),(0,6),(0,7),(0,7),(0,8),(0,8),(0,10),(0,10),(1,104),(1,104),(1,142),(1,142)]),(167772502,[(0,6),(0,6),(0,7),(0,7),(0,9),(0,9),(0,11),(0,11),(1,104),(1,104),(1,142),(1,142)]),(181753540,[(0,6),(0,6),(0,7),(0,7),(0,8),(0,8),(0,9),(0,9),(0,10),(0,10),(0,11),(0,11),(1,104),(1,104),(1,142),(1,142)]),(1,[]),(83886251,[(0,6),(0,7),(0,8),(0,12),(1,104),(1,180)]),(83886251,[(0,6),(0,7),(0,9),(0,13),(1,104),(1,180)]),(167772502,[(0,6),(0,6),(0,7),(0,7),(0,8),(0,8),(0,12),(0,12),(1,104),(1,104),(1,180),(1,180)]),(167772502,[(0,6),(0,6),(0,7),(0,7),(0,9),(0,9),(0,13),(0,13),(1,104),(1,104),(1,180),(1,180)]),(181753540,[(0,6),(0,6),(0,7),(0,7),(0,8),(0,8),(0,9),(0,9),(0,12),(0,12),(0,13),(0,13),(1,104),(1,104),(1,180),(1,180)]),(83886251,[(0,6),(0,7),(0,10),(0,12),(1,142),(1,180)]),(83886251,[(0,6),(0,7),(0,11),(0,13),(1,142),(1,180)]),(167772502,[(0,6),(0,6),(0,7),(0,7),(0,10),(0,10),(0,12),(0,12),(1,142),(1,142),(1,180),(1,180)]),(167772502,[(0,6),(0,6),(0,7),(0,7),(0,11),(0,11),(0,13),(0,13),(1,142),(1,142),(1,180),(1,180)]),(181753540,[(0,6),(0,6),(0,7),(0,7),(0,10),(0,10),(0,11),(0,11),(0,12),(0,12),(0,13),(0,13),(1,142),(1,142),(1,180),(1,180)]),(1,[]),(83886251,[(0,6),(0,7),(0,8),(0,14),(1,104),(1,218)]),(83886251,[(0,6),(0,7),(0,9),(0,15),(1,104),(1,218)]),(167772502,[(0,6),(0,6),(0,7),(0,7),(0,8),(0,8),(0,14),(0,14),(1,104),(1,104),(1,218),(1,218)]),(167772502,[(0,6),(0,6),(0,7),(0,7),(0,9),(0,9),(0,15),(0,15),(1,104),(1,104),(1,218),(1,218)]),(181753540,[(0,6),(0,6),(0,7),(0,7),(0,8),(0,8),(0,9),(0,9),(0,14),(0,14),(0,15),(0,15),(1,104),(1,104),(1,218),(1,218)]),(83886251,[(0,6),(0,7),(0,10),(0,14),(1,142),(1,218)]),(83886251,[(0,6),(0,7),(0,11),(0,15),(1,142),(1,218)]),(167772502,[(0,6),(0,6),(0,7),(0,7),(0,10),(0,10),(0,14),(0,14),(1,142),(1,142),(1,218),(1,218)]),(167772502,[(0,6),(0,6),(0,7),(0,7),(0,11),(0,11),(0,15),(0,15),(1,142),(1,142),(1,218),(1,218)]),(181753540,[(0,6),(0,6),(0,7),(0,7),(0,10),(0,10),(0,11),(0,11),(0,14),(0,14),(0,15),(0,15),(1,142),(1,142),(1,218),(1,218)]),(83886251,[(0,6),(0,7),(0,12),(0,14),(1,180),(1,218)]),(83886251,[(0,6),(0,7),(0,13),(0,15),(1,180),(1,218)]),(167772502,[(0,6),(0,6),(0,7),(0,7),(0,12),(0,12),(0,14),(0,14),(1,180),(1,180),(1,218),(1,218)]),(167772502,[(0,6),(0,6),(0,7),(0,7),(0,13),(0,13),(0,15),(0,15),(1,180),(1,180),(1,218),(1,218)]),(181753540,[(0,6),(0,6),(0,7),(0,7),(0,12),(0,12),(0,13),(0,13),(0,14),(0,14),(0,15),(0,15),(1,180),(1,180),(1,218),(1,218)]),(1,[]),(83886251,[(0,6),(0,7),(0,8),(0,16),(1,104),(1,256)]),(83886251,[(0,6),(0,7),(0,9),(0,17),(1,104),(1,256)]),(167772502,[(0,6),(0,6),(0,7),(0,7),(0,8),(0,8),(0,16),(0,16),(1,104),(1,104),(1,256),(1,256)]),(167772502,[(0,6),(0,6),(0,7),(0,7),(0,9),(0,9),(0,17),(0,17),(1,104),(1,104),(1,256),(1,256)]),(181753540,[(0,6),(0,6),(0,7),(0,7),(0,8),(0,8),(0,9),(0,9),(0,16),(0,16),(0,17),(0,17),(1,104),(1,104),(1,256),(1,256)]),(83886251,[(0,6),(0,7),(0,10),(0,16),(1,142),(1,256)]),(83886251,[(0,6),(0,7),(0,11),(0,17),(1,142),(1,256)]),(167772502,[(0,6),(0,6),(0,7),(0,7),(0,10),(0,10),(0,16),(0,16),(1,142),(1,142),(1,256),(1,256)]),(167772502,[(0,6),(0,6),(0,7),(0,7),(0,11),(0,11),(0,17),(0,17),(1,142),(1,142),(1,256),(1,256)]),(181753540,[(0,6),(0,6),(0,7),(0,7),(0,10),(0,10),(0,11),(0,11),(0,16),(0,16),(0,17),(0,17),(1,142),(1,142),(1,256),(1,256)]),(83886251,[(0,6),(0,7),(0,12),(0,16),(1,180),(1,256)]),(83886251,[(0,6),(0,7),(0,13),(0,17),(1,180),(1,256)]),(167772502,[(0,6),(0,6),(0,7),(0,7),(0,12),(0,12),(0,16),(0,16),(1,180),(1,180),(1,256),(1,256)]),(167772502,[(0,6),(0,6),(0,7),(0,7),(0,13),(0,13),(0,17),(0,17),(1,180),(1,180),(1,256),(1,256)]),(181753540,[(0,6),(0,6),(0,7),(0,7),(0,12),(0,12),(0,13),(0,13),(0,16),(0,16),(0,17),(0,17),(1,180),(1,180),(1,256),(1,256)]),(83886251,[(0,6),(0,7),(0,14),(0,16),(1,218),(1,256)]),(83886251,[(0,6),(0,7),(0,15),(0,17),(1,218),(1,256)]),(167772502,[(0,6),(0,6),(0,7),(0,7),(0,14),(0,14),(0,16),(0,16),(1,218),(1,218),(1,256),(1,256)]),(167772502,[(0,6),(0,6),(0,7),(0,7),(0,15),(0,15),(0,17),(0,17),(1,218),(1,218),(1,256),(1,256)]),(181753540,[(0,6),(0,6),(0,7),(0,7),(0,14),(0,14),(0,15),(0,15),(0,16),(0,16),(0,17),(0,17),(1,218),(1,218),(1,256),(1,256)]),(3495262,[(0,19)]),(3,[]),(3495264,[(0,18)]),(3,[]),(3495264,[(0,18)]),(34952606,[(0,0),(0,0),(0,1),(0,1),(0,3),(0,3),(0,6),(0,6),(0,7),(0,7)]),(34952604,[(0,1),(0,1),(0,2),(0,2),(0,4),(0,4),(0,6),(0,6),(0,7),(0,7)]),(48933644,[(0,0),(0,0),(0,1),(0,1),(0,2),(0,2),(0,3),(0,3),(0,4),(0,4),(0,6),(0,6),(0,7),(0,7)]),(27962081,[]),(27962080,[]),(27962080,[]),(48933647,bR_D52),(48933649,bR_D52),(48933645,[(0,1),(0,6),(0,7),(0,9),(1,104)]),(55924169,[(0,0),(0,1),(0,6),(0,7),(0,8),(0,9),(1,104)]),(59419430,[(0,0),(0,1),(0,3),(0,6),(0,7),(0,8),(0,9),(1,104)]),(48933645,bR_D53),(48933647,bR_D53),(48933647,[(0,2),(0,6),(0,7),(0,9),(1,104)]),(55924167,[(0,1),(0,2),(0,6),(0,7),(0,8),(0,9),(1,104)]),(59419428,[(0,1),(0,2),(0,4),(0,6),(0,7),(0,8),(0,9),(1,104)]),(48933645,bR_D54),(48933647,bR_D54),(48933645,[(0,4),(0,6),(0,7),(0,9),(1,104)]),(55924167,[(0,3),(0,4),(0,6),(0,7),(0,8),(0,9),(1,104)]),(59419428,bR_D55),(104857816,bR_D56),(104857818,bR_D56),(104857814,[(0,1),(0,2),(0,4),(0,6),(0,6),(0,7),(0,7),(0,8),(0,9),(0,9),(1,104),(1,104)]),(115343597,[(0,0),(0,1),(0,2),(0,3),(0,4),(0,6),(0,6),(0,7),(0,7),(0,8),(0,8),(0,9),(0,9),(1,104),(1,104)]),(59419429,bR_D55),(118838858,[(0,0),(0,1),(0,2),(0,3),(0,4),(0,5),(0,6),(0,6),(0,7),(0,7),(0,8),(0,8),(0,9),(0,9),(1,104),(1,104)]),(122334117,[(0,0),(0,0),(0,1),(0,2),(0,3),(0,4),(0,5),(0,6),(0,6),(0,7),(0,7),(0,8),(0,8),(0,9),(0,9),(1,104),(1,104)]),(122334117,[(0,0),(0,1),(0,1),(0,2),(0,3),(0,4),(0,5),(0,6),(0,6),(0,7),(0,7),(0,8),(0,8),(0,9),(0,9),(1,104),(1,104)]),(122334117,[(0,0),(0,1),(0,2),(0,2),(0,3),(0,4),(0,5),(0,6),(0,6),(0,7),(0,7),(0,8),(0,8),(0,9),(0,9),(1,104),(1,104)]),(122334117,[(0,0),(0,1),(0,2),(0,3),(0,3),(0,4),(0,5),(0,6),(0,6),(0,7),(0,7),(0,8),(0,8),(0,9),(0,9),(1,104),(1,104)]),(122334117,[(0,0),(0,1),(0,2),(0,3),(0,4),(0,4),(0,5),(0,6),(0,6),(0,7),(0,7),(0,8),(0,8),(0,9),(0,9),(1,104),(1,104)]),(118838860,[(0,0),(0,0),(0,1),(0,1),(0,3),(0,3),(0,6),(0,6),(0,7),(0,7),(0,8),(0,8),(0,9),(0,9),(1,104),(1,104)]),(118838856,[(0,1),(0,1),(0,2),(0,2),(0,4),(0,4),(0,6),(0,6),(0,7),(0,7),(0,8),(0,8),(0,9),(0,9),(1,104),(1,104)]),(132819898,[(0,0),(0,0),(0,1),(0,1),(0,2),(0,2),(0,3),(0,3),(0,4),(0,4),(0,6),(0,6),(0,7),(0,7),(0,8),(0,8),(0,9),(0,9),(1,104),(1,104)]),(69905208,[]),(69905206,[]),(69905206,[]),(48933647,bR_D57),(48933649,bR_D57),(48933645,[(0,1),(0,6),(0,7),(0,11),(1,142)]),(55924169,[(0,0),(0,1),(0,6),(0,7),(0,10),(0,11),(1,142)]),(59419430,[(0,0),(0,1),(0,3),(0,6),(0,7),(0,10),(0,11),(1,142)]),(48933645,bR_D58),(48933647,bR_D58),(48933647,[(0,2),(0,6),(0,7),(0,11),(1,142)]),(55924167,[(0,1),(0,2),(0,6),(0,7),(0,10),(0,11),(1,142)]),(59419428,[(0,1),(0,2),(0,4),(0,6),(0,7),(0,10),(0,11),(1,142)]),(48933645,bR_D59),(48933647,bR_D59),(48933645,[(0,4),(0,6),(0,7),(0,11),(1,142)]),(55924167,[(0,3),(0,4),(0,6),(0,7),(0,10),(0,11),(1,142)]),(59419428,bR_D60),(104857816,bR_D61),(104857818,bR_D61),(104857814,[(0,1),(0,2),(0,4),(0,6),(0,6),(0,7),(0,7),(0,10),(0,11),(0,11),(1,142),(1,142)]),(115343597,[(0,0),(0,1),(0,2),(0,3),(0,4),(0,6),(0,6),(0,7),(0,7),(0,10),(0,10),(0,11),(0,11),(1,142),(1,142)]),(59419429,bR_D60),(118838858,[(0,0),(0,1),(0,2),(0,3),(0,4),(0,5),(0,6),(0,6),(0,7),(0,7),(0,10),(0,10),(0,11),(0,11),(1,142),(1,142)]),(122334117,[(0,0),(0,0),(0,1),(0,2),(0,3),(0,4),(0,5),(0,6),(0,6),(0,7),(0,7),(0,10),(0,10),(0,11),(0,11),(1,142),(1,142)]),(122334117,[(0,0),(0,1),(0,1),(0,2),(0,3),(0,4),(0,5),(0,6),(0,6),(0,7),(0,7),(0,10),(0,10),(0,11),(0,11),(1,142),(1,142)]),(122334117,[(0,0),(0,1),(0,2),(0,2),(0,3),(0,4),(0,5),(0,6),(0,6),(0,7),(0,7),(0,10),(0,10),(0,11),(0,11),(1,142),(1,142)]),(122334117,[(0,0),(0,1),(0,2),(0,3),(0,3),(0,4),(0,5),(0,6),(0,6),(0,7),(0,7),(0,10),(0,10),(0,11),(0,11),(1,142),(1,142)]),(122334117,[(0,0),(0,1),(0,2),(0,3),(0,4),(0,4),(0,5),(0,6),(0,6),(0,7),(0,7),(0,10),(0,10),(0,11),(0,11),(1,142),(1,142)]),(118838860,[(0,0),(0,0),(0,1),(0,1),(0,3),(0,3),(0,6),(0,6),(0,7),(0,7),(0,10),(0,10),(0,11),(0,11),(1,142),(1,142)]),(118838856,[(0,1),(0,1),(0,2),(0,2),(0,4),(0,4),(0,6),(0,6),(0,7),(0,7),(0,10),(0,10),(0,11),(0,11),(1,142),(1,142)]),(132819898,[(0,0),(0,0),(0,1),(0,1),(0,2),(0,2),(0,3),(0,3),(0,4),(0,4),(0,6),(0,6),(0,7),(0,7),(0,10),(0,10),(0,11),(0,11),(1,142),(1,142)]),(69905208,[]),(69905206,[]),(69905206,[]),(48933647,bR_D62),(48933649,bR_D62),(48933645,[(0,1),(0,6),(0,7),(0,13),(1,180)]),(55924169,[(0,0),(0,1),(0,6),(0,7),(0,12),(0,13),(1,180)]),(59419430,[(0,0),(0,1),(0,3),(0,6),(0,7),(0,12),(0,13),(1,180)]),(48933645,bR_D63),(48933647,bR_D63),(48933647,[(0,2),(0,6),(0,7),(0,13),(1,180)]),(55924167,[(0,1),(0,2),(0,6),(0,7),(0,12),(0,13),(1,180)]),(59419428,[(0,1),(0,2),(0,4),(0,6),(0,7),(0,12),(0,13),(1,180)]),(48933645,bR_D64),(48933647,bR_D64),(48933645,[(0,4),(0,6),(0,7),(0,13),(1,180)]),(55924167,[(0,3),(0,4),(0,6),(0,7),(0,12),(0,13),(1,180)]),(59419428,bR_D65),(104857816,bR_D66),(104857818,bR_D66),(104857814,[(0,1),(0,2),(0,4),(0,6),(0,6),(0,7),(0,7),(0,12),(0,13),(0,13),(1,180),(1,180)]),(115343597,[(0,0),(0,1),(0,2),(0,3),(0,4),(0,6),(0,6),(0,7),(0,7),(0,12),(0,12),(0,13),(0,13),(1,180),(1,180)]),(59419429,bR_D65),(118838858,[(0,0),(0,1),(0,2),(0,3),(0,4),(0,5),(0,6),(0,6),(0,7),(0,7),(0,12),(0,12),(0,13),(0,13),(1,180),(1,180)]),(122334117,[(0,0),(0,0),(0,1),(0,2),(0,3),(0,4),(0,5),(0,6),(0,6),(0,7),(0,7),(0,12),(0,12),(0,13),(0,13),(1,180),(1,180)]),(122334117,[(0,0),(0,1),(0,1),(0,2),(0,3),(0,4),(0,5),(0,6),(0,6),(0,7),(0,7),(0,12),(0,12),(0,13),(0,13),(1,180),(1,180)]),(122334117,[(0,0),(0,1),(0,2),(0,2),(0,3),(0,4),(0,5),(0,6),(0,6),(0,7),(0,7),(0,12),(0,12),(0,13),(0,13),(1,180),(1,180)]),(122334117,[(0,0),(0,1),(0,2),(0,3),(0,3),(0,4),(0,5),(0,6),(0,6),(0,7),(0,7),(0,12),(0,12),(0,13),(0,13),(1,180),(1,180)]),(122334117,[(0,0),(0,1),(0,2),(0,3),(0,4),(0,4),(0,5),(0,6),(0,6),(0,7),(0,7),(0,12),(0,12),(0,13),(0,13),(1,180),(1,180)]),(118838860,[(0,0),(0,0),(0,1),(0,1),(0,3),(0,3),(0,6),(0,6),(0,7),(0,7),(0,12),(0,12),(0,13),(0,13),(1,180),(1,180)]),(118838856,[(0,1),(0,1),(0,2),(0,2),(0,4),(0,4),(0,6),(0,6),(0,7),(0,7),(0,12),(0,12),(0,13),(0,13),(1,180),(1,180)]),(132819898,[(0,0),(0,0),(0,1),(0,1),(0,2),(0,2),(0,3),(0,3),(0,4),(0,4),(0,6),(0,6),(0,7),(0,7),(0,12),(0,12),(0,13),(0,13),(1,180),(1,180)]),(69905208,[]),(69905206,[]),(69905206,[]),(48933647,bR_D67),(48933649,bR_D67),(48933645,[(0,1),(0,6),(0,7),(0,15),(1,218)]),(55924169,[(0,0),(0,1),(0,6),(0,7),(0,14),(0,15),(1,218)]),(59419430,[(0,0),(0,1),(0,3),(0,6),(0,7),(0,14),(0,15),(1,218)]),(48933645,bR_D68),(48933647,bR_D68),(48933647,[(0,2),(0,6),(0,7),(0,15),(1,218)]),(55924167,[(0,1),(0,2),(0,6),(0,7),(0,14),(0,15),(1,218)]),(59419428,[(0,1),(0,2),(0,4),(0,6),(0,7),(0,14),(0,15),(1,218)]),(48933645,bR_D69),(48933647,bR_D69),(48933645,[(0,4),(0,6),(0,7),(0,15),(1,218)]),(55924167,[(0,3),(0,4),(0,6),(0,7),(0,14),(0,15),(1,218)]),(59419428,bR_D70),(104857816,bR_D71),(104857818,bR_D71),(104857814,[(0,1),(0,2),(0,4),(0,6),(0,6),(0,7),(0,7),(0,14),(0,15),(0,15),(1,218),(1,218)]),(115343597,[(0,0),(0,1),(0,2),(0,3),(0,4),(0,6),(0,6),(0,7),(0,7),(0,14),(0,14),(0,15),(0,15),(1,218),(1,218)]),(59419429,bR_D70),(118838858,[(0,0),(0,1),(0,2),(0,3),(0,4),(0,5),(0,6),(0,6),(0,7),(0,7),(0,14),(0,14),(0,15),(0,15),(1,218),(1,218)]),(122334117,[(0,0),(0,0),(0,1),(0,2),(0,3),(0,4),(0,5),(0,6),(0,6),(0,7),(0,7),(0,14),(0,14),(0,15),(0,15),(1,218),(1,218)]),(122334117,[(0,0),(0,1),(0,1),(0,2),(0,3),(0,4),(0,5),(0,6),(0,6),(0,7),(0,7),(0,14),(0,14),(0,15),(0,15),(1,218),(1,218)]),(122334117,[(0,0),(0,1),(0,2),(0,2),(0,3),(0,4),(0,5),(0,6),(0,6),(0,7),(0,7),(0,14),(0,14),(0,15),(0,15),(1,218),(1,218)]),(122334117,[(0,0),(0,1),(0,2),(0,3),(0,3),(0,4),(0,5),(0,6),(0,6),(0,7),(0,7),(0,14),(0,14),(0,15),(0,15),(1,218),(1,218)]),(122334117,[(0,0),(0,1),(0,2),(0,3),(0,4),(0,4),(0,5),(0,6),(0,6),(0,7),(0,7),(0,14),(0,14),(0,15),(0,15),(1,218),(1,218)]),(118838860,[(0,0),(0,0),(0,1),(0,1),(0,3),(0,3),(0,6),(0,6),(0,7),(0,7),(0,14),(0,14),(0,15),(0,15),(1,218),(1,218)]),(118838856,[(0,1),(0,1),(0,2),(0,2),(0,4),(0,4),(0,6),(0,6),(0,7),(0,7),(0,14),(0,14),(0,15),(0,15),(1,218),(1,218)]),(132819898,[(0,0),(0,0),(0,1),(0,1),(0,2),(0,2),(0,3),(0,3),(0,4),(0,4),(0,6),(0,6),(0,7),(0,7),(0,14),(0,14),(0,15),(0,15),(1,218),(1,218)]),(69905208,[]),(69905206,[]),(69905206,[]),(48933647,bR_D72),(48933649,bR_D72),(48933645,[(0,1),(0,6),(0,7),(0,17),(1,256)]),(55924169,[(0,0),(0,1),(0,6),(0,7),(0,16),(0,17),(1,256)]),(59419430,[(0,0),(0,1),(0,3),(0,6),(0,7),(0,16),(0,17),(1,256)]),(48933645,bR_D73),(48933647,bR_D73),(48933647,[(0,2),(0,6),(0,7),(0,17),(1,256)]),(55924167,[(0,1),(0,2),(0,6),(0,7),(0,16),(0,17),(1,256)]),(59419428,[(0,1),(0,2),(0,4),(0,6),(0,7),(0,16),(0,17),(1,256)]),(48933645,bR_D74),(48933647,bR_D74),(48933645,[(0,4),(0,6),(0,7),(0,17),(1,256)]),(55924167,[(0,3),(0,4),(0,6),(0,7),(0,16),(0,17),(1,256)]),(59419428,bR_D75),(104857816,bR_D76),(104857818,bR_D76),(104857814,[(0,1),(0,2),(0,4),(0,6),(0,6),(0,7),(0,7),(0,16),(0,17),(0,17),(1,256),(1,256)]),(115343597,[(0,0),(0,1),(0,2),(0,3),(0,4),(0,6),(0,6),(0,7),(0,7),(0,16),(0,16),(0,17),(0,17),(1,256),(1,256)]),(59419429,bR_D75),(118838858,[(0,0),(0,1),(0,2),(0,3),(0,4),(0,5),(0,6),(0,6),(0,7),(0,7),(0,16),(0,16),(0,17),(0,17),(1,256),(1,256)]),(122334117,[(0,0),(0,0),(0,1),(0,2),(0,3),(0,4),(0,5),(0,6),(0,6),(0,7),(0,7),(0,16),(0,16),(0,17),(0,17),(1,256),(1,256)]),(122334117,[(0,0),(0,1),(0,1),(0,2),(0,3),(0,4),(0,5),(0,6),(0,6),(0,7),(0,7),(0,16),(0,16),(0,17),(0,17),(1,256),(1,256)]),(122334117,[(0,0),(0,1),(0,2),(0,2),(0,3),(0,4),(0,5),(0,6),(0,6),(0,7),(0,7),(0,16),(0,16),(0,17),(0,17),(1,256),(1,256)]),(122334117,[(0,0),(0,1),(0,2),(0,3),(0,3),(0,4),(0,5),(0,6),(0,6),(0,7),(0,7),(0,16),(0,16),(0,17),(0,17),(1,256),(1,256)]),(122334117,[(0,0),(0,1),(0,2),(0,3),(0,4),(0,4),(0,5),(0,6),(0,6),(0,7),(0,7),(0,16),(0,16),(0,17),(0,17),(1,256),(1,256)]),(118838860,[(0,0),(0,0),(0,1),(0,1),(0,3),(0,3),(0,6),(0,6),(0,7),(0,7),(0,16),(0,16),(0,17),(0,17),(1,256),(1,256)]),(118838856,[(0,1),(0,1),(0,2),(0,2),(0,4),(0,4),(0,6),(0,6),(0,7),(0,7),(0,16),(0,16),(0,17),(0,17),(1,256),(1,256)]),(132819898,[(0,0),(0,0),(0,1),(0,1),(0,2),(0,2),(0,3),(0,3),(0,4),(0,4),(0,6),(0,6),(0,7),(0,7),(0,16),(0,16),(0,17),(0,17),(1,256),(1,256)]),(69905208,[]),(69905206,[]),(69905206,[]),(55924162,[]),(55924160,[]),(55924164,[]),(139810416,[]),(139810412,[]),(139810418,[]),(97867287,[]),(97867288,[]),(97867290,[]),(97867288,[]),(97867286,[]),(97867287,[]),(97867286,[]),(97867290,[]),(97867288,[]),(97867288,[]),(97867289,[(1,497)]),(97867291,[(1,497)]),(139810416,[]),(139810412,[]),(139810418,[]),(139810414,[]),(139810414,[]),(139810416,[]),(139810414,[]),(139810412,[]),(139810414,[]),(139810412,[]),(139810416,[]),(139810414,[]),(139810414,[]),(139810415,[(1,512)]),(139810417,[(1,512)]),(139810416,[]),(139810412,[]),(139810418,[]),(139810414,[]),(139810414,[]),(139810416,[]),(139810414,[]),(139810412,[]),(139810414,[]),(139810412,[]),(139810416,[]),(139810414,[]),(139810414,[]),(139810415,[(1,527)]),(139810417,[(1,527)]),(139810416,[]),(139810412,[]),(139810418,[]),(139810414,[]),(139810414,[]),(139810416,[]),(139810414,[]),(139810412,[]),(139810414,[]),(139810412,[]),(139810416,[]),(139810414,[]),(139810414,[]),(139810415,[(1,542)]),(139810417,[(1,542)]),(139810416,[]),(139810412,[]),(139810418,[]),(139810414,[]),(139810414,[]),(139810416,[]),(139810414,[]),(139810412,[]),(139810414,[]),(139810412,[]),(139810416,[]),(139810414,[]),(139810414,[]),(139810415,[(1,557)]),(139810417,[(1,557)]),(97867288,[]),(97867287,[]),(97867290,[]),(97867287,[]),(97867286,[]),(97867288,[]),(97867286,[]),(97867290,[]),(97867288,[]),(97867288,[]),(97867289,[(1,569)]),(97867291,[(1,569)]),(237677707,bR_D77),(237677709,bR_D77),(237677709,bR_D77),(475355418,bR_D78),(475355414,bR_D78),(475355420,bR_D78),(335544998,bR_D79),(335544998,bR_D79),(335545000,bR_D79),(335545000,bR_D79),(335545000,[]),(335544998,[]),(335545001,[]),(279620833,bR_D80),(279620835,bR_D80),(279620835,bR_D80),(559241670,bR_D81),(559241666,bR_D81),(559241672,bR_D81),(419431250,bR_D82),(419431250,bR_D82),(419431252,bR_D82),(419431252,bR_D82),(419431252,[]),(419431250,[]),(419431253,[]),(237677707,bR_D83),(237677709,bR_D83),(237677709,bR_D83),(475355418,bR_D84),(475355414,bR_D84),(475355420,bR_D84),(377488124,bR_D85),(377488124,bR_D85),(377488126,bR_D85),(377488126,bR_D85),(377488126,[]),(377488124,[]),(377488127,[]),(796919377,[]),(796919377,[]),(796919379,[]),(1132464379,[]),(796919379,[]),(796919379,[]),(796919381,[]),(1132464379,[]),(1132464379,[]),(796919376,[]),(796919376,[]),(796919378,[]),(1132464379,[]),(1132464381,[]),(1132464383,[]),(195734580,[]),(195734576,[]),(195734582,[]),(279620832,[]),(279620828,[]),(279620834,[]),(279620832,[]),(279620828,[]),(279620834,[]),(279620832,[]),(279620828,[]),(279620834,[]),(279620832,[]),(279620828,[]),(279620834,[]),(195734580,[]),(195734576,[]),(195734582,[])]
abbrev bR_Q (q : Nat→Rat) (σ : Nat→ByteArray) : Prop := ∀ (a : Nat) nd,bR_N[a]? = some nd→q a=valN σ q nd
variable {q : Nat→Rat} {σ : Nat→ByteArray}
theorem bR_wf : wfB 0 bR_N=true := by kernel_rfl
theorem bR_sz : saB bR_E 0 bR_N bR_E bR_Z=true := by kernel_rfl
theorem bR_lt : litB bR_N bR_L=true := by kernel_rfl
theorem bR_cn : canB bR_N bR_C=true := by kernel_rfl
theorem bR_c28 : cst 0 0 1=(0 : Rat) := by decide +kernel
theorem bR_c319 : cst 0 4 1=(4 : Rat) := by decide +kernel
theorem bR_c321 : cst 0 5 1=(5 : Rat) := by decide +kernel
def bR_A : List AV := [(false,[(true,[.inr (2,0,0,0,0),.inr (2,1,0,0,0),.inr (2,2,0,0,0),.inr (2,3,0,0,0),.inr (2,4,0,0,0),.inr (2,5,0,0,0)])]),(false,[(true,[.inr (2,6,0,0,0),.inr (2,7,0,0,0)])]),(false,[(true,[.inr (2,8,0,0,0),.inr (2,9,0,0,0),.inr (2,10,0,0,0),.inr (2,11,0,0,0),.inr (2,12,0,0,0),.inr (2,13,0,0,0),.inr (2,14,0,0,0),.inr (2,15,0,0,0),.inr (2,16,0,0,0),.inr (2,17,0,0,0)])])]
theorem sq2 {x y m1 m2 s : Rat} (h1 : m1=x*x) (h2 : m2=y*y) (hs : s=m1+m2) : s=0 ↔ (x=0∧y=0) := by
 have a1 := sq_facts x
 have a2 := sq_facts y
 subst_vars
 constructor
 ·intro h
  refine ⟨a1.2.1 ?_,a2.2.1 ?_⟩ <;> grind
 ·rintro ⟨h1,h2⟩
  rw [h1,h2]; grind
theorem mul_cancel {k x y : Rat} (h : k ≠ 0) (e : k*x=k*y) : x=y := by
 have : k*(x - y)=0 := by grind
 have := (Rat.mul_eq_zero.1 this).resolve_left h
 grind
def br (ax ay bx by' cx cy : Rat) : Rat := (bx - ax)*(cy - ay) - (by' - ay)*(cx - ax)
def bnd (a c e u v : Rat) : Rat := a*u*u+2*c*u*v+e*v*v
def Sec (al be a c e u v n : Rat) : Prop := bnd a c e u v ≠ 0∧n*bnd a c e u v=2*(al*u+be*v)
theorem pas_van (al be a c e u1 v1 u2 v2 u3 v3 : Rat) : (al*u1+be*v1)*(al*u2+be*v2)*bnd a c e u3 v3*(u1*v2 - u2*v1)+(al*u2+be*v2)*(al*u3+be*v3)*bnd a c e u1 v1*(u2*v3 - u3*v2) - (al*u1+be*v1)*(al*u3+be*v3)*bnd a c e u2 v2*(u1*v3 - u3*v1)=(a*be*be - 2*c*al*be+e*al*al)*((u1*v2 - u2*v1)*(u2*v3 - u3*v2)*(u1*v3 - u3*v1)) := by
 simp only [bnd]; grind
theorem pas_br {x z al be a c e u1 v1 n1 u2 v2 n2 u3 v3 n3 : Rat} (h1 : Sec al be a c e u1 v1 n1) (h2 : Sec al be a c e u2 v2 n2) (h3 : Sec al be a c e u3 v3 n3) : br (x - u1*n1) (z - v1*n1) (x - u2*n2) (z - v2*n2) (x - u3*n3) (z - v3*n3)*(bnd a c e u1 v1*bnd a c e u2 v2*bnd a c e u3 v3)=4*(a*be*be - 2*c*al*be+e*al*al)*((u1*v2 - u2*v1)*(u2*v3 - u3*v2)*(u1*v3 - u3*v1)) := by
 have p := pas_van al be a c e u1 v1 u2 v2 u3 v3
 obtain ⟨_,h1⟩ := h1
 obtain ⟨_,h2⟩ := h2
 obtain ⟨_,h3⟩ := h3
 generalize bnd a c e u1 v1=b1 at *
 generalize bnd a c e u2 v2=b2 at *
 generalize bnd a c e u3 v3=b3 at *
 have q : br (x - u1*n1) (z - v1*n1) (x - u2*n2) (z - v2*n2) (x - u3*n3) (z - v3*n3)*(b1*b2*b3)=(n1*b1)*(n2*b2)*b3*(u1*v2 - u2*v1)+(n2*b2)*(n3*b3)*b1*(u2*v3 - u3*v2) - (n1*b1)*(n3*b3)*b2*(u1*v3 - u3*v1) := by simp only [br]; grind
 rw [q,h1,h2,h3]
 have r : 4*(a*be*be - 2*c*al*be+e*al*al)*((u1*v2 - u2*v1)*(u2*v3 - u3*v2)*(u1*v3 - u3*v1))=4*((a*be*be - 2*c*al*be+e*al*al)*((u1*v2 - u2*v1)*(u2*v3 - u3*v2)*(u1*v3 - u3*v1))) := by grind
 rw [r,← p]; grind
theorem br_p (x z u1 v1 n1 u2 v2 n2 : Rat) : br x z (x - u1*n1) (z - v1*n1) (x - u2*n2) (z - v2*n2)=n1*n2*(u1*v2 - u2*v1) := by simp only [br]; grind
theorem br_q (x z u1 v1 n1 u2 v2 n2 : Rat) : br (x - u1*n1) (z - v1*n1) (x - u2*n2) (z - v2*n2) x z=n1*n2*(u1*v2 - u2*v1) := by simp only [br]; grind
theorem pas_sum {K g2 g3 g4 g5 g6 d23 d24 d25 d26 d34 d35 d36 d45 d46 d56 : Rat} (hG : g3*d56 - g5*d36+g6*d35=0) (hD : d24*d56 - d25*d46+d26*d45=0) : g2*g5*d25*(K*(d23*d36*d26))*(g3*g4*d34)*(K*(d45*d56*d46)) - g2*g5*d25*(K*(d23*d36*d26))*(K*(d34*d46*d36))*(g4*g5*d45)+g2*g5*d25*(K*(d23*d35*d25))*(K*(d34*d46*d36))*(g4*g6*d46) - g2*g4*d24*(K*(d23*d35*d25))*(K*(d34*d46*d36))*(g5*g6*d56)=0 := by
 have s : d26*d45*(g3*d56 - g5*d36) - g6*d35*(d24*d56 - d25*d46)=0 := by
  have e1 : g3*d56 - g5*d36=-(g6*d35) := by grind
  have e2 : d24*d56 - d25*d46=-(d26*d45) := by grind
  rw [e1,e2]; grind
 have e : g2*g5*d25*(K*(d23*d36*d26))*(g3*g4*d34)*(K*(d45*d56*d46)) - g2*g5*d25*(K*(d23*d36*d26))*(K*(d34*d46*d36))*(g4*g5*d45)+g2*g5*d25*(K*(d23*d35*d25))*(K*(d34*d46*d36))*(g4*g6*d46) - g2*g4*d24*(K*(d23*d35*d25))*(K*(d34*d46*d36))*(g5*g6*d56)=K*K*g2*g4*g5*d23*d34*d25*d36*d46*(d26*d45*(g3*d56 - g5*d36) - g6*d35*(d24*d56 - d25*d46)) := by
  clear s hG hD; grind
 rw [e,s,Rat.mul_zero]
theorem pas_det (x1 y1 x4 y4 x5 y5 x6 y6 a0 b0 a1 b1 a2 b2 : Rat) : (a0*x4 - b0*x5)*((a1*y5 - b1*y6)*(a2 - b2) - (a2*y6 - b2*y1)*(a1 - b1)) - (a0*y4 - b0*y5)*((a1*x5 - b1*x6)*(a2 - b2) - (a2*x6 - b2*x1)*(a1 - b1))+(a0 - b0)*((a1*x5 - b1*x6)*(a2*y6 - b2*y1) - (a2*x6 - b2*x1)*(a1*y5 - b1*y6))=a0*a1*a2*br x4 y4 x5 y5 x6 y6 - a0*a1*b2*br x4 y4 x5 y5 x1 y1+a0*b1*b2*br x4 y4 x6 y6 x1 y1 - b0*b1*b2*br x5 y5 x6 y6 x1 y1 := by
 simp only [br]; grind
theorem fac3_out {a b c : Rat} (h : ¬ (a=0∧b=0)) : fac [a,b,c] ≠ 0 := fun e => h ⟨fac_zero (by simp) e,fac_zero (by simp) e⟩
def Ml (x y z u v w : Rat) : Prop := ∃ k : Rat,x=k*u∧y=k*v∧z=k*w
theorem Ml.tr {a b c d e f g h i : Rat} (p : Ml a b c d e f) (q : Ml d e f g h i) : Ml a b c g h i := by
 obtain ⟨k,rfl,rfl,rfl⟩ := p
 obtain ⟨l,rfl,rfl,rfl⟩ := q
 exact ⟨k*l,(Rat.mul_assoc ..).symm,(Rat.mul_assoc ..).symm,(Rat.mul_assoc ..).symm⟩
theorem Ml.cr {a b c d e f a' b' c' d' e' f' : Rat} (p : Ml a b c a' b' c') (q : Ml d e f d' e' f') : Ml (b*f - c*e) (c*d - a*f) (a*e - b*d) (b'*f' - c'*e') (c'*d' - a'*f') (a'*e' - b'*d') := by
 obtain ⟨k,rfl,rfl,rfl⟩ := p
 obtain ⟨l,rfl,rfl,rfl⟩ := q
 exact ⟨k*l,by grind,by grind,by grind⟩
theorem Ml.cc {a b c d e f x y z u v w p q r l m n X Y Z U V W P Q R L M N : Rat} (hX : X=a*x+b*y+c*z) (hY : Y=b*x+d*y+e*z) (hZ : Z=c*x+e*y+f*z) (hU : U=a*u+b*v+c*w) (hV : V=b*u+d*v+e*w) (hW : W=c*u+e*v+f*w) (hP : P=a*p+b*q+c*r) (hQ : Q=b*p+d*q+e*r) (hR : R=c*p+e*q+f*r) (hL : L=a*l+b*m+c*n) (hM : M=b*l+d*m+e*n) (hN : N=c*l+e*m+f*n) {i j k : Rat} (hi : i=(z*u - x*w)*(p*m - q*l) - (x*v - y*u)*(r*l - p*n)) (hj : j=(x*v - y*u)*(q*n - r*m) - (y*w - z*v)*(p*m - q*l)) (hk : k=(y*w - z*v)*(r*l - p*n) - (z*u - x*w)*(q*n - r*m)) : Ml ((Z*U - X*W)*(P*M - Q*L) - (X*V - Y*U)*(R*L - P*N)) ((X*V - Y*U)*(Q*N - R*M) - (Y*W - Z*V)*(P*M - Q*L)) ((Y*W - Z*V)*(R*L - P*N) - (Z*U - X*W)*(Q*N - R*M)) (a*i+b*j+c*k) (b*i+d*j+e*k) (c*i+e*j+f*k) := by
 have x1 : Y*W - Z*V=(d*f - e*e)*(y*w - z*v)+(c*e - b*f)*(z*u - x*w)+(b*e - c*d)*(x*v - y*u) := by rw [hY,hW,hZ,hV]; clear hX hY hZ hU hV hW hP hQ hR hL hM hN hi hj hk; grind
 have x2 : Z*U - X*W=(c*e - b*f)*(y*w - z*v)+(a*f - c*c)*(z*u - x*w)+(b*c - a*e)*(x*v - y*u) := by rw [hX,hW,hZ,hU]; clear x1 hX hY hZ hU hV hW hP hQ hR hL hM hN hi hj hk; grind
 have x3 : X*V - Y*U=(b*e - c*d)*(y*w - z*v)+(b*c - a*e)*(z*u - x*w)+(a*d - b*b)*(x*v - y*u) := by rw [hX,hY,hV,hU]; clear x1 x2 hX hY hZ hU hV hW hP hQ hR hL hM hN hi hj hk; grind
 have y1 : Q*N - R*M=(d*f - e*e)*(q*n - r*m)+(c*e - b*f)*(r*l - p*n)+(b*e - c*d)*(p*m - q*l) := by rw [hQ,hN,hR,hM]; clear x1 x2 x3 hX hY hZ hU hV hW hP hQ hR hL hM hN hi hj hk; grind
 have y2 : R*L - P*N=(c*e - b*f)*(q*n - r*m)+(a*f - c*c)*(r*l - p*n)+(b*c - a*e)*(p*m - q*l) := by rw [hP,hN,hR,hL]; clear x1 x2 x3 y1 hX hY hZ hU hV hW hP hQ hR hL hM hN hi hj hk; grind
 have y3 : P*M - Q*L=(b*e - c*d)*(q*n - r*m)+(b*c - a*e)*(r*l - p*n)+(a*d - b*b)*(p*m - q*l) := by rw [hP,hQ,hM,hL]; clear x1 x2 x3 y1 y2 hX hY hZ hU hV hW hP hQ hR hL hM hN hi hj hk; grind
 rw [x1,x2,x3,y1,y2,y3,hi,hj,hk]
 clear x1 x2 x3 y1 y2 y3 hX hY hZ hU hV hW hP hQ hR hL hM hN hi hj hk
 generalize y*w - z*v=s1
 generalize z*u - x*w=s2
 generalize x*v - y*u=s3
 generalize q*n - r*m=t1
 generalize r*l - p*n=t2
 generalize p*m - q*l=t3
 exact ⟨a*(d*f - e*e) - b*(b*f - c*e)+c*(b*e - c*d),by grind,by grind,by grind⟩
theorem Ml.det {a b c d e f x0 y0 z0 x1 y1 z1 x2 y2 z2 p0 q0 r0 p1 q1 r1 p2 q2 r2 : Rat} (h0 : Ml x0 y0 z0 (a*p0+b*q0+c*r0) (b*p0+d*q0+e*r0) (c*p0+e*q0+f*r0)) (h1 : Ml x1 y1 z1 (a*p1+b*q1+c*r1) (b*p1+d*q1+e*r1) (c*p1+e*q1+f*r1)) (h2 : Ml x2 y2 z2 (a*p2+b*q2+c*r2) (b*p2+d*q2+e*r2) (c*p2+e*q2+f*r2))
  (hd : p0*(q1*r2 - q2*r1) - q0*(p1*r2 - p2*r1)+r0*(p1*q2 - p2*q1)=0) : x0*(y1*z2 - y2*z1) - y0*(x1*z2 - x2*z1)+z0*(x1*y2 - x2*y1)=0 := by
 obtain ⟨k,rfl,rfl,rfl⟩ := h0
 obtain ⟨l,rfl,rfl,rfl⟩ := h1
 obtain ⟨m,rfl,rfl,rfl⟩ := h2
 have s1 : (b*p1+d*q1+e*r1)*(c*p2+e*q2+f*r2) - (b*p2+d*q2+e*r2)*(c*p1+e*q1+f*r1)=(d*f - e*e)*(q1*r2 - q2*r1) - (c*e - b*f)*(p1*r2 - p2*r1)+(b*e - c*d)*(p1*q2 - p2*q1) := by grind
 have s2 : (a*p1+b*q1+c*r1)*(c*p2+e*q2+f*r2) - (a*p2+b*q2+c*r2)*(c*p1+e*q1+f*r1)=-((c*e - b*f)*(q1*r2 - q2*r1) - (a*f - c*c)*(p1*r2 - p2*r1)+(b*c - a*e)*(p1*q2 - p2*q1)) := by grind
 have s3 : (a*p1+b*q1+c*r1)*(b*p2+d*q2+e*r2) - (a*p2+b*q2+c*r2)*(b*p1+d*q1+e*r1)=(b*e - c*d)*(q1*r2 - q2*r1) - (b*c - a*e)*(p1*r2 - p2*r1)+(a*d - b*b)*(p1*q2 - p2*q1) := by grind
 have e1 : k*(a*p0+b*q0+c*r0)*(l*(b*p1+d*q1+e*r1)*(m*(c*p2+e*q2+f*r2)) - m*(b*p2+d*q2+e*r2)*(l*(c*p1+e*q1+f*r1))) - k*(b*p0+d*q0+e*r0)*(l*(a*p1+b*q1+c*r1)*(m*(c*p2+e*q2+f*r2)) - m*(a*p2+b*q2+c*r2)*(l*(c*p1+e*q1+f*r1)))+k*(c*p0+e*q0+f*r0)*(l*(a*p1+b*q1+c*r1)*(m*(b*p2+d*q2+e*r2)) - m*(a*p2+b*q2+c*r2)*(l*(b*p1+d*q1+e*r1)))
  = k*l*m*((a*p0+b*q0+c*r0)*((b*p1+d*q1+e*r1)*(c*p2+e*q2+f*r2) - (b*p2+d*q2+e*r2)*(c*p1+e*q1+f*r1)) - (b*p0+d*q0+e*r0)*((a*p1+b*q1+c*r1)*(c*p2+e*q2+f*r2) - (a*p2+b*q2+c*r2)*(c*p1+e*q1+f*r1))+(c*p0+e*q0+f*r0)*((a*p1+b*q1+c*r1)*(b*p2+d*q2+e*r2) - (a*p2+b*q2+c*r2)*(b*p1+d*q1+e*r1))) := by
  clear s1 s2 s3 hd
  generalize a*p0+b*q0+c*r0=A0
  generalize b*p0+d*q0+e*r0=B0
  generalize c*p0+e*q0+f*r0=C0
  generalize a*p1+b*q1+c*r1=A1
  generalize b*p1+d*q1+e*r1=B1
  generalize c*p1+e*q1+f*r1=C1
  generalize a*p2+b*q2+c*r2=A2
  generalize b*p2+d*q2+e*r2=B2
  generalize c*p2+e*q2+f*r2=C2
  grind
 rw [e1,s1,s2,s3]
 clear e1 s1 s2 s3
 generalize q1*r2 - q2*r1=t1 at *
 generalize p1*r2 - p2*r1=t2 at *
 generalize p1*q2 - p2*q1=t3 at *
 have : (a*p0+b*q0+c*r0)*((d*f - e*e)*t1 - (c*e - b*f)*t2+(b*e - c*d)*t3) - (b*p0+d*q0+e*r0)*-((c*e - b*f)*t1 - (a*f - c*c)*t2+(b*c - a*e)*t3)+(c*p0+e*q0+f*r0)*((b*e - c*d)*t1 - (b*c - a*e)*t2+(a*d - b*b)*t3)=(a*(d*f - e*e) - b*(b*f - c*e)+c*(b*e - c*d))*(p0*t1 - q0*t2+r0*t3) := by clear hd; grind
 rw [this,hd,Rat.mul_zero,Rat.mul_zero]
theorem pas_hom {x z al be a c e u2 v2 n2 u3 v3 n3 u4 v4 n4 u5 v5 n5 u6 v6 n6 : Rat} (h2 : Sec al be a c e u2 v2 n2) (h3 : Sec al be a c e u3 v3 n3) (h4 : Sec al be a c e u4 v4 n4) (h5 : Sec al be a c e u5 v5 n5) (h6 : Sec al be a c e u6 v6 n6) {a0 b0 a1 b1 a2 b2 : Rat} (ea0 : a0=br x z (x - u2*n2) (z - v2*n2) (x - u5*n5) (z - v5*n5)) (eb0 : b0=br x z (x - u2*n2) (z - v2*n2) (x - u4*n4) (z - v4*n4)) (ea1 : a1=br (x - u2*n2) (z - v2*n2) (x - u3*n3) (z - v3*n3) (x - u6*n6) (z - v6*n6)) (eb1 : b1=br (x - u2*n2) (z - v2*n2) (x - u3*n3) (z - v3*n3) (x - u5*n5) (z - v5*n5)) (ea2 : a2=br (x - u3*n3) (z - v3*n3) (x - u4*n4) (z - v4*n4) x z) (eb2 : b2=br (x - u3*n3) (z - v3*n3) (x - u4*n4) (z - v4*n4) (x - u6*n6) (z - v6*n6)) : (a0*(x - u4*n4) - b0*(x - u5*n5))*((a1*(z - v5*n5) - b1*(z - v6*n6))*(a2 - b2) - (a2*(z - v6*n6) - b2*z)*(a1 - b1)) - (a0*(z - v4*n4) - b0*(z - v5*n5))*((a1*(x - u5*n5) - b1*(x - u6*n6))*(a2 - b2) - (a2*(x - u6*n6) - b2*x)*(a1 - b1))+(a0 - b0)*((a1*(x - u5*n5) - b1*(x - u6*n6))*(a2*(z - v6*n6) - b2*z) - (a2*(x - u6*n6) - b2*x)*(a1*(z - v5*n5) - b1*(z - v6*n6)))=0 := by
 rw [pas_det x z (x - u4*n4) (z - v4*n4) (x - u5*n5) (z - v5*n5) (x - u6*n6) (z - v6*n6)]
 have b236 := pas_br (x := x) (z := z) h2 h3 h6
 have b456 := pas_br (x := x) (z := z) h4 h5 h6
 have b346 := pas_br (x := x) (z := z) h3 h4 h6
 have b235 := pas_br (x := x) (z := z) h2 h3 h5
 rw [ea0,eb0,ea1,eb1,ea2,eb2]
 clear ea0 eb0 ea1 eb1 ea2 eb2
 rw [br_p x z u2 v2 n2 u5 v5 n5,br_p x z u2 v2 n2 u4 v4 n4,br_q x z u3 v3 n3 u4 v4 n4,br_q x z u4 v4 n4 u5 v5 n5,br_q x z u4 v4 n4 u6 v6 n6,br_q x z u5 v5 n5 u6 v6 n6]
 generalize br (x - u2*n2) (z - v2*n2) (x - u3*n3) (z - v3*n3) (x - u6*n6) (z - v6*n6)=A at *
 generalize br (x - u4*n4) (z - v4*n4) (x - u5*n5) (z - v5*n5) (x - u6*n6) (z - v6*n6)=B at *
 generalize br (x - u3*n3) (z - v3*n3) (x - u4*n4) (z - v4*n4) (x - u6*n6) (z - v6*n6)=C at *
 generalize br (x - u2*n2) (z - v2*n2) (x - u3*n3) (z - v3*n3) (x - u5*n5) (z - v5*n5)=D at *
 obtain ⟨k2,h2⟩ := h2
 obtain ⟨k3,h3⟩ := h3
 obtain ⟨k4,h4⟩ := h4
 obtain ⟨k5,h5⟩ := h5
 obtain ⟨k6,h6⟩ := h6
 generalize bnd a c e u2 v2=b2 at *
 generalize bnd a c e u3 v3=b3 at *
 generalize bnd a c e u4 v4=b4 at *
 generalize bnd a c e u5 v5=b5 at *
 generalize bnd a c e u6 v6=b6 at *
 have s := pas_sum (K := 4*(a*be*be - 2*c*al*be+e*al*al)) (g2 := 2*(al*u2+be*v2)) (g3 := 2*(al*u3+be*v3)) (g4 := 2*(al*u4+be*v4)) (g5 := 2*(al*u5+be*v5)) (g6 := 2*(al*u6+be*v6)) (d23 := u2*v3 - u3*v2) (d24 := u2*v4 - u4*v2) (d25 := u2*v5 - u5*v2) (d26 := u2*v6 - u6*v2) (d34 := u3*v4 - u4*v3) (d35 := u3*v5 - u5*v3) (d36 := u3*v6 - u6*v3) (d45 := u4*v5 - u5*v4) (d46 := u4*v6 - u6*v4) (d56 := u5*v6 - u6*v5) (by clear b236 b456 b346 b235 h2 h3 h4 h5 h6; grind) (by clear b236 b456 b346 b235 h2 h3 h4 h5 h6; grind)
 rw [← b236,← b456,← b346,← b235,← h2,← h3,← h4,← h5,← h6] at s
 have hb : b2*b3*b4*b5*b6 ≠ 0 := mul_ne (mul_ne (mul_ne (mul_ne k2 k3) k4) k5) k6
 refine (Rat.mul_eq_zero.1 (?_ : _*(b2*b3*b4*b5*b6*(b2*b3*b4*b5*b6))=0)).resolve_right (mul_ne hb hb)
 rw [← s]
 clear s b236 b456 b346 b235 h2 h3 h4 h5 h6 hb k2 k3 k4 k5 k6
 generalize u2*v5 - u5*v2=d25
 generalize u3*v4 - u4*v3=d34
 generalize u4*v5 - u5*v4=d45
 generalize u4*v6 - u6*v4=d46
 generalize u2*v4 - u4*v2=d24
 generalize u5*v6 - u6*v5=d56
 grind
theorem bri_line {a b c d e f x1 y1 x2 y2 x4 y4 x5 y5 A1 B1 C1 A2 B2 C2 A4 B4 C4 A5 B5 C5 X Y Z U V W P Q R s t : Rat} (l1 : Ml A1 B1 C1 (a*x1+b*y1+c) (b*x1+d*y1+e) (c*x1+e*y1+f)) (l2 : Ml A2 B2 C2 (a*x2+b*y2+c) (b*x2+d*y2+e) (c*x2+e*y2+f)) (l4 : Ml A4 B4 C4 (a*x4+b*y4+c) (b*x4+d*y4+e) (c*x4+e*y4+f)) (l5 : Ml A5 B5 C5 (a*x5+b*y5+c) (b*x5+d*y5+e) (c*x5+e*y5+f))
  (p : Ml X Y Z (B1*C2 - C1*B2) (C1*A2 - A1*C2) (A1*B2 - B1*A2)) (q : Ml U V W (B4*C5 - C4*B5) (C4*A5 - A4*C5) (A4*B5 - B4*A5)) (n : Ml P Q R (Y*W - Z*V) (Z*U - X*W) (X*V - Y*U)) (hs : s=br x1 y1 x2 y2 x5 y5) (ht : t=br x1 y1 x2 y2 x4 y4) :
  Ml P Q R (a*(s*x4 - t*x5)+b*(s*y4 - t*y5)+c*(s - t)) (b*(s*x4 - t*x5)+d*(s*y4 - t*y5)+e*(s - t)) (c*(s*x4 - t*x5)+e*(s*y4 - t*y5)+f*(s - t)) :=
 (n.tr ((p.tr (l1.cr l2)).cr (q.tr (l4.cr l5)))).tr (Ml.cc (x := x1) (y := y1) (z := 1) (u := x2) (v := y2) (w := 1) (p := x4) (q := y4) (r := 1) (l := x5) (m := y5) (n := 1) (by rw [Rat.mul_one]) (by rw [Rat.mul_one]) (by rw [Rat.mul_one]) (by rw [Rat.mul_one]) (by rw [Rat.mul_one]) (by rw [Rat.mul_one]) (by rw [Rat.mul_one]) (by rw [Rat.mul_one]) (by rw [Rat.mul_one]) (by rw [Rat.mul_one]) (by rw [Rat.mul_one]) (by rw [Rat.mul_one]) (by rw [hs,ht]; simp only [br]; grind) (by rw [hs,ht]; simp only [br]; grind) (by rw [hs,ht]; simp only [br]; grind))
structure Tn (a b c d e f x y X Y Z : Rat) : Prop where
 ex : X=a*x+b*y+c
 ey : Y=b*x+d*y+e
 ez : Z=c*x+e*y+f
def Dt (a b c d e f : Rat) : Rat := (b*e - c*d)*c+(c*b - a*e)*e+(a*d - b*b)*f
theorem grad_ne {a b c d e f x y X Y Z : Rat} (t : Tn a b c d e f x y X Y Z) (o : x*X+y*Y+Z=0) (hd : Dt a b c d e f ≠ 0) : ¬ (X=0∧Y=0) := by
 rintro ⟨h1,h2⟩
 obtain ⟨ex,ey,ez⟩ := t
 rw [h1,h2] at o
 apply hd
 have e : Dt a b c d e f=(b*e - c*d)*X+(c*b - a*e)*Y+(a*d - b*b)*Z := by rw [ex,ey,ez]; unfold Dt; clear o h1 h2 ex ey ez hd; grind
 rw [e,h1,h2]
 clear e ex ey ez hd
 have : Z=0 := by grind
 rw [this]; grind
theorem on_sec {a b c d e f x y X Y Z u v n x' y' X' Y' Z' : Rat} (t : Tn a b c d e f x y X Y Z) (o : x*X+y*Y+Z=0) (s : Sec X Y a b d u v n) (t' : Tn a b c d e f x' y' X' Y' Z') (hx : x'=x - u*n) (hy : y'=y - v*n) : x'*X'+y'*Y'+Z'=0 := by
 obtain ⟨_,s⟩ := s
 obtain ⟨ex,ey,ez⟩ := t
 obtain ⟨ex',ey',ez'⟩ := t'
 have k : x'*X'+y'*Y'+Z'=(x*X+y*Y+Z) - 2*n*(X*u+Y*v)+n*(n*bnd a b d u v) := by
  rw [ex',ey',ez',hx,hy,ex,ey,ez]; simp only [bnd]; clear o s ex ey ez ex' ey' ez' hx hy; grind
 rw [k,o,s]; clear k ex ey ez ex' ey' ez' hx hy o s; grind
theorem sec_mk {bb tg n al be a c e u v : Rat} (h : ¬ (bb=0)) (hn : n=tg / bb) (eb : bb=bnd a c e u v) (eg : tg=2*(al*u+be*v)) : Sec al be a c e u v n :=
 ⟨eb ▸ h,by rw [← eb,← eg,hn]; exact Rat.div_mul_cancel h⟩
def Mn (x y z u v w : Rat) : Prop := ∃ k : Rat,k ≠ 0∧x=k*u∧y=k*v∧z=k*w
theorem Mn.ml {x y z u v w : Rat} (h : Mn x y z u v w) : Ml x y z u v w := let ⟨k,_,h⟩ := h; ⟨k,h⟩
theorem Mn.pl {A B C f X Y Z : Rat} (h1 : A=X*f) (h2 : B=Y*f) (h3 : C=Z*f) (hf : f ≠ 0) : Mn A B C X Y Z := ⟨f,hf,by rw [h1,Rat.mul_comm],by rw [h2,Rat.mul_comm],by rw [h3,Rat.mul_comm]⟩
theorem Mn.on {A B C X Y Z p q : Rat} (m : Mn A B C X Y Z) (h : A*p+B*q+C=0) : X*p+Y*q+Z=0 := by
 obtain ⟨k,hk,rfl,rfl,rfl⟩ := m
 have : k*(X*p+Y*q+Z)=0 := by rw [← h]; grind
 exact (Rat.mul_eq_zero.1 this).resolve_left hk
theorem Mn.cr {A B C X Y Z A' B' C' X' Y' Z' : Rat} (m : Mn A B C X Y Z) (m' : Mn A' B' C' X' Y' Z') : (A*B' - B*A'=0 ↔ X*Y' - Y*X'=0)∧(A'*C - A*C'=0 ↔ X'*Z - X*Z'=0)∧(B'*C - B*C'=0 ↔ Y'*Z - Y*Z'=0) := by
 obtain ⟨k,hk,rfl,rfl,rfl⟩ := m
 obtain ⟨l,hl,rfl,rfl,rfl⟩ := m'
 have hkl := mul_ne hk hl
 have t : ∀ {s r : Rat},s=k*l*r→(s=0 ↔ r=0) := fun {s r} e => ⟨fun h => (Rat.mul_eq_zero.1 (e.symm.trans h)).resolve_left hkl,fun h => by rw [e,h,Rat.mul_zero]⟩
 exact ⟨t (by grind),t (by grind),t (by grind)⟩
theorem Tn.cr {a b c d e f x y X Y Z x' y' X' Y' Z' : Rat} (t : Tn a b c d e f x y X Y Z) (t' : Tn a b c d e f x' y' X' Y' Z') : Dt a b c d e f*(y - y')=a*(Y*Z' - Z*Y')+b*(Z*X' - X*Z')+c*(X*Y' - Y*X')∧Dt a b c d e f*(x' - x)=b*(Y*Z' - Z*Y')+d*(Z*X' - X*Z')+e*(X*Y' - Y*X') := by
 obtain ⟨ex,ey,ez⟩ := t
 obtain ⟨ex',ey',ez'⟩ := t'
 rw [ex,ey,ez,ex',ey',ez']
 unfold Dt
 clear ex ey ez ex' ey' ez'
 constructor <;> grind
theorem tan_one {a b c d e f x y X Y Z x' y' X' Y' Z' A B C A' B' C' : Rat} (t : Tn a b c d e f x y X Y Z) (t' : Tn a b c d e f x' y' X' Y' Z') (hd : Dt a b c d e f ≠ 0) (m : Mn A B C X Y Z) (m' : Mn A' B' C' X' Y' Z') (h0 : A*B' - B*A'=0) (h1 : A'*C - A*C'=0) (h2 : B'*C - B*C'=0) : x=x'∧y=y' := by
 obtain ⟨i0,i1,i2⟩ := Mn.cr m m'
 have k0 := i0.1 h0
 have k1 := i1.1 h1
 have k2 := i2.1 h2
 obtain ⟨p,q⟩ := Tn.cr t t'
 have e2 : Y*Z' - Z*Y'=0 := by clear p q; grind
 have e1 : Z*X' - X*Z'=0 := by clear p q; grind
 rw [e1,e2,k0] at p q
 have p' := (Rat.mul_eq_zero.1 (p.trans (by grind : _=(0 : Rat)))).resolve_left hd
 have q' := (Rat.mul_eq_zero.1 (q.trans (by grind : _=(0 : Rat)))).resolve_left hd
 clear p q e1 e2 k0 k1 k2 h0 h1 h2 i0 i1 i2
 exact ⟨by grind,by grind⟩
structure Mp (A B C A' B' C' X Y : Rat) : Prop where
 hn : A*B' - B*A' ≠ 0
 hx : X*(A*B' - B*A')=B*C' - C*B'
 hy : Y*(A*B' - B*A')=C*A' - A*C'
theorem Mp.mk' {A B C A' B' C' X Y tn s1 s2 s3 : Rat} (h : ¬ (tn=0)) (et : tn=A*B' - B*A') (e1 : s1=A'*C - A*C') (e2 : s3=-s2) (e3 : s2=B'*C - B*C') (hX : X=s3 / tn) (hY : Y=s1 / tn) : Mp A B C A' B' C' X Y := by
 refine ⟨et ▸ h,?_,?_⟩
 ·rw [← et,hX,Rat.div_mul_cancel h,e2,e3]; clear et e1 e2 e3 hX hY h; grind
 ·rw [← et,hY,Rat.div_mul_cancel h,e1]; clear et e1 e2 e3 hX hY h; grind
theorem Mp.on {A B C A' B' C' X Y : Rat} (m : Mp A B C A' B' C' X Y) : A*X+B*Y+C=0∧A'*X+B'*Y+C'=0 := by
 obtain ⟨hn,hx,hy⟩ := m
 have t : ∀ {s : Rat},(A*B' - B*A')*s=0→s=0 := fun e => (Rat.mul_eq_zero.1 e).resolve_left hn
 refine ⟨t ?_,t ?_⟩
 ·have : (A*B' - B*A')*(A*X+B*Y+C)=A*(X*(A*B' - B*A'))+B*(Y*(A*B' - B*A'))+C*(A*B' - B*A') := by clear hx hy hn t; grind
  rw [this,hx,hy]; clear this hx hy hn t; grind
 ·have : (A*B' - B*A')*(A'*X+B'*Y+C')=A'*(X*(A*B' - B*A'))+B'*(Y*(A*B' - B*A'))+C'*(A*B' - B*A') := by clear hx hy hn t; grind
  rw [this,hx,hy]; clear this hx hy hn t; grind
theorem Mp.ml {A B C A' B' C' X Y : Rat} (m : Mp A B C A' B' C' X Y) : Ml X Y 1 (B*C' - C*B') (C*A' - A*C') (A*B' - B*A') := by
 obtain ⟨hn,hx,hy⟩ := m
 refine ⟨1 / (A*B' - B*A'),?_,?_,(Rat.div_mul_cancel hn).symm⟩
 ·rw [← hx]; generalize A*B' - B*A'=t at *; rw [show 1 / t*(X*t)=X*(1 / t*t) by grind,Rat.div_mul_cancel hn,Rat.mul_one]
 ·rw [← hy]; generalize A*B' - B*A'=t at *; rw [show 1 / t*(Y*t)=Y*(1 / t*t) by grind,Rat.div_mul_cancel hn,Rat.mul_one]
theorem no_line {a b c d e f x y X Y Z x' y' X' Y' Z' x'' y'' X'' Y'' Z'' p q : Rat} (t : Tn a b c d e f x y X Y Z) (t' : Tn a b c d e f x' y' X' Y' Z') (t'' : Tn a b c d e f x'' y'' X'' Y'' Z'') (o : x*X+y*Y+Z=0) (o' : x'*X'+y'*Y'+Z'=0) (o'' : x''*X''+y''*Y''+Z''=0) (hd : Dt a b c d e f ≠ 0) (h : X*p+Y*q+Z=0) (h' : X'*p+Y'*q+Z'=0) (h'' : X''*p+Y''*q+Z''=0) (n1 : ¬ (x=x'∧y=y')) (n2 : ¬ (x=x''∧y=y'')) (n3 : ¬ (x'=x''∧y'=y'')) : False := by
 obtain ⟨ex,ey,ez⟩ := t
 obtain ⟨ex',ey',ez'⟩ := t'
 obtain ⟨ex'',ey'',ez''⟩ := t''
 -- the polar of (p,q)
 have k : x*(a*p+b*q+c)+y*(b*p+d*q+e)+(c*p+e*q+f)=0 := by rw [← h,ex,ey,ez]; clear o o' o'' h h' h'' ex ey ez ex' ey' ez' ex'' ey'' ez''; grind
 have k' : x'*(a*p+b*q+c)+y'*(b*p+d*q+e)+(c*p+e*q+f)=0 := by rw [← h',ex',ey',ez']; clear k o o' o'' h h' h'' ex ey ez ex' ey' ez' ex'' ey'' ez''; grind
 have k'' : x''*(a*p+b*q+c)+y''*(b*p+d*q+e)+(c*p+e*q+f)=0 := by rw [← h'',ex'',ey'',ez'']; clear k k' o o' o'' h h' h'' ex ey ez ex' ey' ez' ex'' ey'' ez''; grind
 have hH : ¬ (a*p+b*q+c=0∧b*p+d*q+e=0) := by
  rintro ⟨j1,j2⟩
  rw [j1,j2] at k
  have j3 : c*p+e*q+f=0 := by clear h h' h'' o o' o'' k' k''; grind
  apply hd
  have : Dt a b c d e f=(b*e - c*d)*(a*p+b*q+c)+(c*b - a*e)*(b*p+d*q+e)+(a*d - b*b)*(c*p+e*q+f) := by unfold Dt; clear h h' h'' o o' o'' k k' k'' j1 j2 j3 ex ey ez ex' ey' ez' ex'' ey'' ez''; grind
  rw [this,j1,j2,j3]; grind
 clear h h' h''
 generalize a*p+b*q+c=H at *
 generalize b*p+d*q+e=I at *
 generalize c*p+e*q+f=J at *
 -- along the line
 have hn : H*H+I*I ≠ 0 := fun j => by
  have s1 := sq_facts H
  have s2 := sq_facts I
  exact hH ⟨s1.2.1 (by grind),s2.2.1 (by grind)⟩
 have F : ∀ {u v U V W : Rat},U=a*u+b*v+c→V=b*u+d*v+e→W=c*u+e*v+f→u*U+v*V+W=0→u*H+v*I+J=0→¬ (x=u∧y=v)→∃ s : Rat,s ≠ 0∧u=x - s*I∧v=y+s*H∧2*(Y*H - X*I)+s*(I*(a*I - b*H) - H*(b*I - d*H))=0 := by
  intro u v U V W eU eV eW ou ku nu
  have w : (u - x)*H+(v - y)*I=0 := by
   have : (u - x)*H+(v - y)*I=(u*H+v*I+J) - (x*H+y*I+J) := by clear k k' k'' ku o o' o'' ou; grind
   rw [this,ku,k]; exact Rat.sub_self
  have hs : ((v - y)*H - (u - x)*I) / (H*H+I*I)*(H*H+I*I)=(v - y)*H - (u - x)*I := Rat.div_mul_cancel hn
  generalize ((v - y)*H - (u - x)*I) / (H*H+I*I)=s at *
  have eu : u=x - s*I := mul_cancel hn (by
   have : (H*H+I*I)*(x - s*I)=(H*H+I*I)*x - s*(H*H+I*I)*I := by clear k k' k'' ku o o' o'' ou w hs; grind
   rw [this,hs]
   have : (H*H+I*I)*x - ((v - y)*H - (u - x)*I)*I=(H*H+I*I)*u - H*((u - x)*H+(v - y)*I) := by clear k k' k'' ku o o' o'' ou w hs this; grind
   rw [this,w]; clear this; grind)
  have ev : v=y+s*H := mul_cancel hn (by
   have : (H*H+I*I)*(y+s*H)=(H*H+I*I)*y+s*(H*H+I*I)*H := by clear k k' k'' ku o o' o'' ou w hs eu; grind
   rw [this,hs]
   have : (H*H+I*I)*y+((v - y)*H - (u - x)*I)*H=(H*H+I*I)*v - I*((u - x)*H+(v - y)*I) := by clear k k' k'' ku o o' o'' ou w hs this eu; grind
   rw [this,w]; clear this; grind)
  have s0 : s ≠ 0 := fun j => nu ⟨by rw [eu,j]; grind,by rw [ev,j]; grind⟩
  refine ⟨s,s0,eu,ev,?_⟩
  have : s*(2*(Y*H - X*I)+s*(I*(a*I - b*H) - H*(b*I - d*H)))=(u*U+v*V+W) - (x*X+y*Y+Z) := by rw [eU,eV,eW,eu,ev,ex,ey,ez]; clear k k' k'' ku o o' o'' ou w hs eu ev s0; grind
  rw [ou,o] at this
  exact (Rat.mul_eq_zero.1 (this.trans Rat.sub_self)).resolve_left s0
 obtain ⟨s,s0,eu,ev,e1⟩ := F ex' ey' ez' o' k' n1
 obtain ⟨r,r0,eu',ev',e2⟩ := F ex'' ey'' ez'' o'' k'' n2
 clear F
 have hsr : s - r ≠ 0 := fun j => n3 ⟨by rw [eu,eu',show s=r by grind],by rw [ev,ev',show s=r by grind]⟩
 have Q0 : I*(a*I - b*H) - H*(b*I - d*H)=0 := by
  have : (s - r)*(I*(a*I - b*H) - H*(b*I - d*H))=(2*(Y*H - X*I)+s*(I*(a*I - b*H) - H*(b*I - d*H))) - (2*(Y*H - X*I)+r*(I*(a*I - b*H) - H*(b*I - d*H))) := by clear e1 e2 k k' k'' o o' o'' eu ev eu' ev' ex ey ez ex' ey' ez' ex'' ey'' ez''; grind
  rw [e1,e2] at this
  exact (Rat.mul_eq_zero.1 (this.trans Rat.sub_self)).resolve_left hsr
 rw [Q0] at e1
 have g0 : Y*H - X*I=0 := by clear e2 k k' k'' o o' o'' eu ev eu' ev' ex ey ez ex' ey' ez' ex'' ey'' ez'' Q0; grind
 clear e1 e2 eu ev eu' ev' k' k'' o' o'' ex' ey' ez' ex'' ey'' ez'' n1 n2 n3
 -- the table takes both the point and the way to what is across the line: it cannot be
 have z : Dt a b c d e f*(H*H+I*I)=0 := by
  have w : (b*H - a*I)*x+(d*H - b*I)*y+(e*H - c*I)=0 := by rw [← g0,ey,ex]; clear g0 Q0 ex ey ez o k hH hn s0 r0 hsr; grind
  have dH : Dt a b c d e f*H=-(a*(Y*(e*H - c*I) - Z*(d*H - b*I))+b*(Z*(b*H - a*I) - X*(e*H - c*I))+c*(X*(d*H - b*I) - Y*(b*H - a*I))) := by rw [ex,ey,ez]; unfold Dt; clear w g0 Q0 ex ey ez o k hH hn s0 r0 hsr; grind
  have dI : Dt a b c d e f*I=-(b*(Y*(e*H - c*I) - Z*(d*H - b*I))+d*(Z*(b*H - a*I) - X*(e*H - c*I))+e*(X*(d*H - b*I) - Y*(b*H - a*I))) := by rw [ex,ey,ez]; unfold Dt; clear dH w g0 Q0 ex ey ez o k hH hn s0 r0 hsr; grind
  have r2 : (d*H - b*I)*H - (b*H - a*I)*I=0 := by rw [← Q0]; clear dH dI w g0 Q0 ex ey ez o k hH hn s0 r0 hsr; grind
  generalize b*H - a*I=P at *
  generalize d*H - b*I=Q at *
  generalize e*H - c*I=R at *
  clear ex ey ez Q0 k hH s0 r0 hsr
  have t : ∀ {s : Rat},H*s=0→I*s=0→s=0 := fun {s} h1 h2 => (Rat.mul_eq_zero.1 (show (H*H+I*I)*s=0 by
   have : (H*H+I*I)*s=H*(H*s)+I*(I*s) := by clear h1 h2 dH dI w g0 o r2; grind
   rw [this,h1,h2]; grind)).resolve_left hn
  have r3 : Z*H=-(X*(x*H+y*I)) := by
   have : Z*H+X*(x*H+y*I)=H*(x*X+y*Y+Z) - y*(Y*H - X*I) := by clear dH dI w g0 o r2; grind
   rw [o,g0] at this; clear dH dI w g0 o r2 t; grind
  have r4 : Z*I=-(Y*(x*H+y*I)) := by
   have : Z*I+Y*(x*H+y*I)=I*(x*X+y*Y+Z)+x*(Y*H - X*I) := by clear dH dI w g0 o r2 r3; grind
   rw [o,g0] at this; clear dH dI w g0 o r2 t r3; grind
  have r5 : R*H=-(P*(x*H+y*I)) := by
   have : R*H+P*(x*H+y*I)=H*(P*x+Q*y+R) - y*(Q*H - P*I) := by clear dH dI w g0 o r2 r3 r4; grind
   rw [w,r2] at this; clear dH dI w g0 o r2 t r3 r4; grind
  have r6 : R*I=-(Q*(x*H+y*I)) := by
   have : R*I+Q*(x*H+y*I)=I*(P*x+Q*y+R)+x*(Q*H - P*I) := by clear dH dI w g0 o r2 r3 r4 r5; grind
   rw [w,r2] at this; clear dH dI w g0 o r2 t r3 r4 r5; grind
  generalize x*H+y*I=K at *
  have c3 : X*Q - Y*P=0 := t (by clear dH dI w o r3 r4 r5 r6 t; grind) (by clear dH dI w o r3 r4 r5 r6 t; grind)
  have c1 : Y*R - Z*Q=0 := by
   refine t ?_ ?_
   ·have e : H*(Y*R - Z*Q)=Y*(R*H) - Q*(Z*H) := by clear dH dI w o r3 r4 r5 r6 t c3 g0 r2; grind
    rw [e,r5,r3]
    have e2 : Y*-(P*K) - Q*-(X*K)=K*(X*Q - Y*P) := by clear dH dI w o r3 r4 r5 r6 t c3 g0 r2 e; grind
    rw [e2,c3,Rat.mul_zero]
   ·have e : I*(Y*R - Z*Q)=Y*(R*I) - Q*(Z*I) := by clear dH dI w o r3 r4 r5 r6 t c3 g0 r2; grind
    rw [e,r6,r4]; clear dH dI w o r3 r4 r5 r6 t c3 g0 r2 e; grind
  have c2 : Z*P - X*R=0 := by
   refine t ?_ ?_
   ·have e : H*(Z*P - X*R)=P*(Z*H) - X*(R*H) := by clear dH dI w o r3 r4 r5 r6 t c3 c1 g0 r2; grind
    rw [e,r5,r3]; clear dH dI w o r3 r4 r5 r6 t c3 c1 g0 r2 e; grind
   ·have e : I*(Z*P - X*R)=P*(Z*I) - X*(R*I) := by clear dH dI w o r3 r4 r5 r6 t c3 c1 g0 r2; grind
    rw [e,r6,r4]
    have e2 : P*-(Y*K) - X*-(Q*K)=K*(X*Q - Y*P) := by clear dH dI w o r3 r4 r5 r6 t c3 c1 g0 r2 e; grind
    rw [e2,c3,Rat.mul_zero]
  rw [c1,c2,c3] at dH dI
  have : Dt a b c d e f*(H*H+I*I)=H*(Dt a b c d e f*H)+I*(Dt a b c d e f*I) := by clear dH dI w o r3 r4 r5 r6 t c3 c1 c2 g0 r2; grind
  rw [this,dH,dI]; clear this dH dI w o r3 r4 r5 r6 t c3 c1 c2 g0 r2; grind
 exact (Rat.mul_eq_zero.1 z).elim hd hn
theorem thr_ml {A' B' C' A B C f X Y U V : Rat} (h1 : A'=A*f) (h2 : B'=B*f) (h3 : C'=C*f) (e1 : A=Y - V) (e2 : B=U - X) (e3 : C=X*V - Y*U) : Ml A' B' C' (Y*1 - 1*V) (1*U - X*1) (X*V - Y*U) :=
 ⟨f,by rw [h1,e1,Rat.mul_one,Rat.one_mul,Rat.mul_comm],by rw [h2,e2,Rat.mul_one,Rat.one_mul,Rat.mul_comm],by rw [h3,e3,Rat.mul_comm]⟩
theorem meets_ne {a b c d e f x y X Y Z x' y' X' Y' Z' x'' y'' X'' Y'' Z'' A B C A' B' C' A'' B'' C'' p q : Rat} (t : Tn a b c d e f x y X Y Z) (t' : Tn a b c d e f x' y' X' Y' Z') (t'' : Tn a b c d e f x'' y'' X'' Y'' Z'') (o : x*X+y*Y+Z=0) (o' : x'*X'+y'*Y'+Z'=0) (o'' : x''*X''+y''*Y''+Z''=0) (hd : Dt a b c d e f ≠ 0) (m : Mn A B C X Y Z) (m' : Mn A' B' C' X' Y' Z') (m'' : Mn A'' B'' C'' X'' Y'' Z'') (h : A*p+B*q+C=0) (h' : A'*p+B'*q+C'=0) (h'' : A''*p+B''*q+C''=0) (n1 : ¬ (x=x'∧y=y')) (n2 : ¬ (x=x''∧y=y'')) (n3 : ¬ (x'=x''∧y'=y'')) : False :=
 no_line t t' t'' o o' o'' hd (m.on h) (m'.on h') (m''.on h'') n1 n2 n3
theorem pts_ne {x y x' y' d1 d2 s1 s2 S : Rat} (e1 : d1=x' - x) (e2 : d2=y' - y) (f1 : s1=d1*d1) (f2 : s2=d2*d2) (g : S=s1+s2) (h : ¬ (S=0)) : ¬ (x=x'∧y=y') := by
 rintro ⟨rfl,rfl⟩
 apply h
 rw [g,f1,f2,e1,e2]; grind
theorem pas_pts {x z al be a c e u2 v2 n2 u3 v3 n3 u4 v4 n4 u5 v5 n5 u6 v6 n6 x2 y2 x3 y3 x4 y4 x5 y5 x6 y6 : Rat} (h2 : Sec al be a c e u2 v2 n2) (h3 : Sec al be a c e u3 v3 n3) (h4 : Sec al be a c e u4 v4 n4) (h5 : Sec al be a c e u5 v5 n5) (h6 : Sec al be a c e u6 v6 n6) (i2 : x2=x - u2*n2∧y2=z - v2*n2) (i3 : x3=x - u3*n3∧y3=z - v3*n3) (i4 : x4=x - u4*n4∧y4=z - v4*n4) (i5 : x5=x - u5*n5∧y5=z - v5*n5) (i6 : x6=x - u6*n6∧y6=z - v6*n6) :
  (br x z x2 y2 x5 y5*x4 - br x z x2 y2 x4 y4*x5)*((br x2 y2 x3 y3 x6 y6*y5 - br x2 y2 x3 y3 x5 y5*y6)*(br x3 y3 x4 y4 x z - br x3 y3 x4 y4 x6 y6) - (br x3 y3 x4 y4 x z*y6 - br x3 y3 x4 y4 x6 y6*z)*(br x2 y2 x3 y3 x6 y6 - br x2 y2 x3 y3 x5 y5)) - (br x z x2 y2 x5 y5*y4 - br x z x2 y2 x4 y4*y5)*((br x2 y2 x3 y3 x6 y6*x5 - br x2 y2 x3 y3 x5 y5*x6)*(br x3 y3 x4 y4 x z - br x3 y3 x4 y4 x6 y6) - (br x3 y3 x4 y4 x z*x6 - br x3 y3 x4 y4 x6 y6*x)*(br x2 y2 x3 y3 x6 y6 - br x2 y2 x3 y3 x5 y5))+(br x z x2 y2 x5 y5 - br x z x2 y2 x4 y4)*((br x2 y2 x3 y3 x6 y6*x5 - br x2 y2 x3 y3 x5 y5*x6)*(br x3 y3 x4 y4 x z*y6 - br x3 y3 x4 y4 x6 y6*z) - (br x3 y3 x4 y4 x z*x6 - br x3 y3 x4 y4 x6 y6*x)*(br x2 y2 x3 y3 x6 y6*y5 - br x2 y2 x3 y3 x5 y5*y6))=0 := by
 obtain ⟨rfl,rfl⟩ := i2
 obtain ⟨rfl,rfl⟩ := i3
 obtain ⟨rfl,rfl⟩ := i4
 obtain ⟨rfl,rfl⟩ := i5
 obtain ⟨rfl,rfl⟩ := i6
 exact pas_hom h2 h3 h4 h5 h6 rfl rfl rfl rfl rfl rfl
theorem Mn.tb {A B C X Y Z a b c d e f x y : Rat} (m : Mn A B C X Y Z) (t : Tn a b c d e f x y X Y Z) : Ml A B C (a*x+b*y+c) (b*x+d*y+e) (c*x+e*y+f) := by
 obtain ⟨ex,ey,ez⟩ := t
 rw [← ex,← ey,← ez]; exact m.ml
theorem bR_pD (H : bR_Q q σ) : q 33=Dt (q 16) (q 1) (q 3) (q 17) (q 4) (q 18) :=
 (pol H [16,17,18] 7 33 (.A (.A (.M (.S (.M (.v 1) (.v 4)) (.M (.v 3) (.v 17))) (.v 3)) (.M (.S (.M (.v 3) (.v 1)) (.M (.v 16) (.v 4))) (.v 4))) (.M (.S (.M (.v 16) (.v 17)) (.M (.v 1) (.v 1))) (.v 18))) (by kernel_rfl))
theorem bR_pd (H : bR_Q q σ) (h : ¬ (q 33=0)) : Dt (q 16) (q 1) (q 3) (q 17) (q 4) (q 18) ≠ 0 :=
 fun j => h ((bR_pD H).trans j)
theorem bR_pT0 (H : bR_Q q σ) : Tn (q 16) (q 1) (q 3) (q 17) (q 4) (q 18) (q 41) (q 42) (q 49) (q 55) (q 61) :=
 ⟨(pol H [16] 5 49 (.A (.A (.M (.v 16) (.v 41)) (.M (.v 1) (.v 42))) (.v 3)) (by kernel_rfl)),(pol H [17] 5 55 (.A (.A (.M (.v 1) (.v 41)) (.M (.v 17) (.v 42))) (.v 4)) (by kernel_rfl)),(pol H [18] 5 61 (.A (.A (.M (.v 3) (.v 41)) (.M (.v 4) (.v 42))) (.v 18)) (by kernel_rfl))⟩
theorem bR_pO0 (H : bR_Q q σ) : q 67=q 41*q 49+q 42*q 55+q 61 :=
 (pol H [49,55,61] 5 67 (.A (.A (.M (.v 41) (.v 49)) (.M (.v 42) (.v 55))) (.v 61)) (by kernel_rfl))
theorem bR_pK0 (H : bR_Q q σ) (o : q 67=0) : q 41*q 49+q 42*q 55+q 61=0 :=
 (bR_pO0 H).symm.trans o
theorem bR_pG0 (H : bR_Q q σ) (o : q 67=0) (d : ¬ (q 33=0)) : ¬ (q 325=0) :=
 fun j => grad_ne (bR_pT0 H) (bR_pK0 H o) (bR_pd H d) ((sq2 (H 323 _ rfl) (H 324 _ rfl) (H 325 _ rfl)).1 j)
theorem bR_pE0 (H : bR_Q q σ) : q 326=q 49*fac [q 49,q 55,q 61]∧q 327=q 55*fac [q 49,q 55,q 61]∧q 328=q 61*fac [q 49,q 55,q 61] :=
 ⟨(H 326 _ rfl : q 326=q 49*fac [q 49,q 55,q 61]),(H 327 _ rfl : q 327=q 55*fac [q 49,q 55,q 61]),(H 328 _ rfl : q 328=q 61*fac [q 49,q 55,q 61])⟩
theorem bR_pl0 (H : bR_Q q σ) (h : ¬ (q 325=0)) : ¬ (q 491=0) :=
 fun j => pair_fac (fun k => h ((sq2 (H 323 _ rfl) (H 324 _ rfl) (H 325 _ rfl)).2 k)) (fac_zero (x := q 49) (by simp)) (fac_zero (x := q 55) (by simp)) ⟨(bR_pE0 H).1.symm.trans ((sq2 (H 489 _ rfl) (H 490 _ rfl) (H 491 _ rfl)).1 j).1,(bR_pE0 H).2.1.symm.trans ((sq2 (H 489 _ rfl) (H 490 _ rfl) (H 491 _ rfl)).1 j).2⟩
theorem bR_pL0 (H : bR_Q q σ) (h : ¬ (q 325=0)) : Mn (q 326) (q 327) (q 328) (q 49) (q 55) (q 61) :=
 Mn.pl (bR_pE0 H).1 (bR_pE0 H).2.1 (bR_pE0 H).2.2 (fac3_out (fun k => h ((sq2 (H 323 _ rfl) (H 324 _ rfl) (H 325 _ rfl)).2 k)))
theorem bR_pT1 (H : bR_Q q σ) : Tn (q 16) (q 1) (q 3) (q 17) (q 4) (q 18) (q 109) (q 110) (q 333) (q 338) (q 343) :=
 ⟨(pol H [16,109,110] 5 333 (.A (.A (.M (.v 16) (.v 109)) (.M (.v 1) (.v 110))) (.v 3)) (by kernel_rfl)),(pol H [17,109,110] 5 338 (.A (.A (.M (.v 1) (.v 109)) (.M (.v 17) (.v 110))) (.v 4)) (by kernel_rfl)),(pol H [18,109,110] 5 343 (.A (.A (.M (.v 3) (.v 109)) (.M (.v 4) (.v 110))) (.v 18)) (by kernel_rfl))⟩
theorem bR_pO1 (H : bR_Q q σ) : q 349=q 109*q 333+q 110*q 338+q 343 :=
 (pol H [109,110,333,338,343] 5 349 (.A (.A (.M (.v 109) (.v 333)) (.M (.v 110) (.v 338))) (.v 343)) (by kernel_rfl))
theorem bR_pP1 (H : bR_Q q σ) : q 109=q 41 - q 36*q 106∧q 110=q 42 - q 37*q 106 :=
 ⟨(pol H [] 3 109 (.S (.v 41) (.M (.v 36) (.v 106))) (by kernel_rfl)),(pol H [] 3 110 (.S (.v 42) (.M (.v 37) (.v 106))) (by kernel_rfl))⟩
theorem bR_pS1 (H : bR_Q q σ) (h : ¬ (q 104=0)) : Sec (q 49) (q 55) (q 16) (q 1) (q 17) (q 36) (q 37) (q 106) :=
 sec_mk h (H 106 _ rfl) (pol H [16,17,18] 9 104 (.A (.A (.M (.M (.v 16) (.v 36)) (.v 36)) (.M (.M (.M .t (.v 1)) (.v 36)) (.v 37))) (.M (.M (.v 17) (.v 37)) (.v 37))) (by kernel_rfl)) ((show q 105=2*((q 16*q 41+q 1*q 42+q 3)*q 36+(q 1*q 41+q 17*q 42+q 4)*q 37) from (pol H [16,17,18] 10 105 (.M .t (.A (.M (.A (.A (.M (.v 16) (.v 41)) (.M (.v 1) (.v 42))) (.v 3)) (.v 36)) (.M (.A (.A (.M (.v 1) (.v 41)) (.M (.v 17) (.v 42))) (.v 4)) (.v 37)))) (by kernel_rfl))).trans (by rw [(bR_pT0 H).ex,(bR_pT0 H).ey]))
theorem bR_pK1 (H : bR_Q q σ) (o : q 67=0) (h : ¬ (q 104=0)) : q 109*q 333+q 110*q 338+q 343=0 :=
 on_sec (bR_pT0 H) (bR_pK0 H o) (bR_pS1 H h) (bR_pT1 H) (bR_pP1 H).1 (bR_pP1 H).2
theorem bR_pG1 (H : bR_Q q σ) (o : q 67=0) (h : ¬ (q 104=0)) (d : ¬ (q 33=0)) : ¬ (q 357=0) :=
 fun j => grad_ne (bR_pT1 H) (bR_pK1 H o h) (bR_pd H d) ((sq2 (H 355 _ rfl) (H 356 _ rfl) (H 357 _ rfl)).1 j)
theorem bR_pE1 (H : bR_Q q σ) : q 358=q 333*fac [q 333,q 338,q 343]∧q 359=q 338*fac [q 333,q 338,q 343]∧q 360=q 343*fac [q 333,q 338,q 343] :=
 ⟨(H 358 _ rfl : q 358=q 333*fac [q 333,q 338,q 343]),(H 359 _ rfl : q 359=q 338*fac [q 333,q 338,q 343]),(H 360 _ rfl : q 360=q 343*fac [q 333,q 338,q 343])⟩
theorem bR_pl1 (H : bR_Q q σ) (h : ¬ (q 357=0)) : ¬ (q 494=0) :=
 fun j => pair_fac (fun k => h ((sq2 (H 355 _ rfl) (H 356 _ rfl) (H 357 _ rfl)).2 k)) (fac_zero (x := q 333) (by simp)) (fac_zero (x := q 338) (by simp)) ⟨(bR_pE1 H).1.symm.trans ((sq2 (H 492 _ rfl) (H 493 _ rfl) (H 494 _ rfl)).1 j).1,(bR_pE1 H).2.1.symm.trans ((sq2 (H 492 _ rfl) (H 493 _ rfl) (H 494 _ rfl)).1 j).2⟩
theorem bR_pL1 (H : bR_Q q σ) (h : ¬ (q 357=0)) : Mn (q 358) (q 359) (q 360) (q 333) (q 338) (q 343) :=
 Mn.pl (bR_pE1 H).1 (bR_pE1 H).2.1 (bR_pE1 H).2.2 (fac3_out (fun k => h ((sq2 (H 355 _ rfl) (H 356 _ rfl) (H 357 _ rfl)).2 k)))
theorem bR_pT2 (H : bR_Q q σ) : Tn (q 16) (q 1) (q 3) (q 17) (q 4) (q 18) (q 147) (q 148) (q 365) (q 370) (q 375) :=
 ⟨(pol H [16,147,148] 5 365 (.A (.A (.M (.v 16) (.v 147)) (.M (.v 1) (.v 148))) (.v 3)) (by kernel_rfl)),(pol H [17,147,148] 5 370 (.A (.A (.M (.v 1) (.v 147)) (.M (.v 17) (.v 148))) (.v 4)) (by kernel_rfl)),(pol H [18,147,148] 5 375 (.A (.A (.M (.v 3) (.v 147)) (.M (.v 4) (.v 148))) (.v 18)) (by kernel_rfl))⟩
theorem bR_pO2 (H : bR_Q q σ) : q 381=q 147*q 365+q 148*q 370+q 375 :=
 (pol H [147,148,365,370,375] 5 381 (.A (.A (.M (.v 147) (.v 365)) (.M (.v 148) (.v 370))) (.v 375)) (by kernel_rfl))
theorem bR_pP2 (H : bR_Q q σ) : q 147=q 41 - q 111*q 144∧q 148=q 42 - q 112*q 144 :=
 ⟨(pol H [] 3 147 (.S (.v 41) (.M (.v 111) (.v 144))) (by kernel_rfl)),(pol H [] 3 148 (.S (.v 42) (.M (.v 112) (.v 144))) (by kernel_rfl))⟩
theorem bR_pS2 (H : bR_Q q σ) (h : ¬ (q 142=0)) : Sec (q 49) (q 55) (q 16) (q 1) (q 17) (q 111) (q 112) (q 144) :=
 sec_mk h (H 144 _ rfl) (pol H [16,17,18] 9 142 (.A (.A (.M (.M (.v 16) (.v 111)) (.v 111)) (.M (.M (.M .t (.v 1)) (.v 111)) (.v 112))) (.M (.M (.v 17) (.v 112)) (.v 112))) (by kernel_rfl)) ((show q 143=2*((q 16*q 41+q 1*q 42+q 3)*q 111+(q 1*q 41+q 17*q 42+q 4)*q 112) from (pol H [16,17,18] 10 143 (.M .t (.A (.M (.A (.A (.M (.v 16) (.v 41)) (.M (.v 1) (.v 42))) (.v 3)) (.v 111)) (.M (.A (.A (.M (.v 1) (.v 41)) (.M (.v 17) (.v 42))) (.v 4)) (.v 112)))) (by kernel_rfl))).trans (by rw [(bR_pT0 H).ex,(bR_pT0 H).ey]))
theorem bR_pK2 (H : bR_Q q σ) (o : q 67=0) (h : ¬ (q 142=0)) : q 147*q 365+q 148*q 370+q 375=0 :=
 on_sec (bR_pT0 H) (bR_pK0 H o) (bR_pS2 H h) (bR_pT2 H) (bR_pP2 H).1 (bR_pP2 H).2
theorem bR_pG2 (H : bR_Q q σ) (o : q 67=0) (h : ¬ (q 142=0)) (d : ¬ (q 33=0)) : ¬ (q 389=0) :=
 fun j => grad_ne (bR_pT2 H) (bR_pK2 H o h) (bR_pd H d) ((sq2 (H 387 _ rfl) (H 388 _ rfl) (H 389 _ rfl)).1 j)
theorem bR_pE2 (H : bR_Q q σ) : q 390=q 365*fac [q 365,q 370,q 375]∧q 391=q 370*fac [q 365,q 370,q 375]∧q 392=q 375*fac [q 365,q 370,q 375] :=
 ⟨(H 390 _ rfl : q 390=q 365*fac [q 365,q 370,q 375]),(H 391 _ rfl : q 391=q 370*fac [q 365,q 370,q 375]),(H 392 _ rfl : q 392=q 375*fac [q 365,q 370,q 375])⟩
theorem bR_pl2 (H : bR_Q q σ) (h : ¬ (q 389=0)) : ¬ (q 509=0) :=
 fun j => pair_fac (fun k => h ((sq2 (H 387 _ rfl) (H 388 _ rfl) (H 389 _ rfl)).2 k)) (fac_zero (x := q 365) (by simp)) (fac_zero (x := q 370) (by simp)) ⟨(bR_pE2 H).1.symm.trans ((sq2 (H 507 _ rfl) (H 508 _ rfl) (H 509 _ rfl)).1 j).1,(bR_pE2 H).2.1.symm.trans ((sq2 (H 507 _ rfl) (H 508 _ rfl) (H 509 _ rfl)).1 j).2⟩
theorem bR_pL2 (H : bR_Q q σ) (h : ¬ (q 389=0)) : Mn (q 390) (q 391) (q 392) (q 365) (q 370) (q 375) :=
 Mn.pl (bR_pE2 H).1 (bR_pE2 H).2.1 (bR_pE2 H).2.2 (fac3_out (fun k => h ((sq2 (H 387 _ rfl) (H 388 _ rfl) (H 389 _ rfl)).2 k)))
theorem bR_pT3 (H : bR_Q q σ) : Tn (q 16) (q 1) (q 3) (q 17) (q 4) (q 18) (q 185) (q 186) (q 397) (q 402) (q 407) :=
 ⟨(pol H [16,185,186] 5 397 (.A (.A (.M (.v 16) (.v 185)) (.M (.v 1) (.v 186))) (.v 3)) (by kernel_rfl)),(pol H [17,185,186] 5 402 (.A (.A (.M (.v 1) (.v 185)) (.M (.v 17) (.v 186))) (.v 4)) (by kernel_rfl)),(pol H [18,185,186] 5 407 (.A (.A (.M (.v 3) (.v 185)) (.M (.v 4) (.v 186))) (.v 18)) (by kernel_rfl))⟩
theorem bR_pO3 (H : bR_Q q σ) : q 413=q 185*q 397+q 186*q 402+q 407 :=
 (pol H [185,186,397,402,407] 5 413 (.A (.A (.M (.v 185) (.v 397)) (.M (.v 186) (.v 402))) (.v 407)) (by kernel_rfl))
theorem bR_pP3 (H : bR_Q q σ) : q 185=q 41 - q 149*q 182∧q 186=q 42 - q 150*q 182 :=
 ⟨(pol H [] 3 185 (.S (.v 41) (.M (.v 149) (.v 182))) (by kernel_rfl)),(pol H [] 3 186 (.S (.v 42) (.M (.v 150) (.v 182))) (by kernel_rfl))⟩
theorem bR_pS3 (H : bR_Q q σ) (h : ¬ (q 180=0)) : Sec (q 49) (q 55) (q 16) (q 1) (q 17) (q 149) (q 150) (q 182) :=
 sec_mk h (H 182 _ rfl) (pol H [16,17,18] 9 180 (.A (.A (.M (.M (.v 16) (.v 149)) (.v 149)) (.M (.M (.M .t (.v 1)) (.v 149)) (.v 150))) (.M (.M (.v 17) (.v 150)) (.v 150))) (by kernel_rfl)) ((show q 181=2*((q 16*q 41+q 1*q 42+q 3)*q 149+(q 1*q 41+q 17*q 42+q 4)*q 150) from (pol H [16,17,18] 10 181 (.M .t (.A (.M (.A (.A (.M (.v 16) (.v 41)) (.M (.v 1) (.v 42))) (.v 3)) (.v 149)) (.M (.A (.A (.M (.v 1) (.v 41)) (.M (.v 17) (.v 42))) (.v 4)) (.v 150)))) (by kernel_rfl))).trans (by rw [(bR_pT0 H).ex,(bR_pT0 H).ey]))
theorem bR_pK3 (H : bR_Q q σ) (o : q 67=0) (h : ¬ (q 180=0)) : q 185*q 397+q 186*q 402+q 407=0 :=
 on_sec (bR_pT0 H) (bR_pK0 H o) (bR_pS3 H h) (bR_pT3 H) (bR_pP3 H).1 (bR_pP3 H).2
theorem bR_pG3 (H : bR_Q q σ) (o : q 67=0) (h : ¬ (q 180=0)) (d : ¬ (q 33=0)) : ¬ (q 421=0) :=
 fun j => grad_ne (bR_pT3 H) (bR_pK3 H o h) (bR_pd H d) ((sq2 (H 419 _ rfl) (H 420 _ rfl) (H 421 _ rfl)).1 j)
theorem bR_pE3 (H : bR_Q q σ) : q 422=q 397*fac [q 397,q 402,q 407]∧q 423=q 402*fac [q 397,q 402,q 407]∧q 424=q 407*fac [q 397,q 402,q 407] :=
 ⟨(H 422 _ rfl : q 422=q 397*fac [q 397,q 402,q 407]),(H 423 _ rfl : q 423=q 402*fac [q 397,q 402,q 407]),(H 424 _ rfl : q 424=q 407*fac [q 397,q 402,q 407])⟩
theorem bR_pl3 (H : bR_Q q σ) (h : ¬ (q 421=0)) : ¬ (q 524=0) :=
 fun j => pair_fac (fun k => h ((sq2 (H 419 _ rfl) (H 420 _ rfl) (H 421 _ rfl)).2 k)) (fac_zero (x := q 397) (by simp)) (fac_zero (x := q 402) (by simp)) ⟨(bR_pE3 H).1.symm.trans ((sq2 (H 522 _ rfl) (H 523 _ rfl) (H 524 _ rfl)).1 j).1,(bR_pE3 H).2.1.symm.trans ((sq2 (H 522 _ rfl) (H 523 _ rfl) (H 524 _ rfl)).1 j).2⟩
theorem bR_pL3 (H : bR_Q q σ) (h : ¬ (q 421=0)) : Mn (q 422) (q 423) (q 424) (q 397) (q 402) (q 407) :=
 Mn.pl (bR_pE3 H).1 (bR_pE3 H).2.1 (bR_pE3 H).2.2 (fac3_out (fun k => h ((sq2 (H 419 _ rfl) (H 420 _ rfl) (H 421 _ rfl)).2 k)))
theorem bR_pT4 (H : bR_Q q σ) : Tn (q 16) (q 1) (q 3) (q 17) (q 4) (q 18) (q 223) (q 224) (q 429) (q 434) (q 439) :=
 ⟨(pol H [16,223,224] 5 429 (.A (.A (.M (.v 16) (.v 223)) (.M (.v 1) (.v 224))) (.v 3)) (by kernel_rfl)),(pol H [17,223,224] 5 434 (.A (.A (.M (.v 1) (.v 223)) (.M (.v 17) (.v 224))) (.v 4)) (by kernel_rfl)),(pol H [18,223,224] 5 439 (.A (.A (.M (.v 3) (.v 223)) (.M (.v 4) (.v 224))) (.v 18)) (by kernel_rfl))⟩
theorem bR_pO4 (H : bR_Q q σ) : q 445=q 223*q 429+q 224*q 434+q 439 :=
 (pol H [223,224,429,434,439] 5 445 (.A (.A (.M (.v 223) (.v 429)) (.M (.v 224) (.v 434))) (.v 439)) (by kernel_rfl))
theorem bR_pP4 (H : bR_Q q σ) : q 223=q 41 - q 187*q 220∧q 224=q 42 - q 188*q 220 :=
 ⟨(pol H [] 3 223 (.S (.v 41) (.M (.v 187) (.v 220))) (by kernel_rfl)),(pol H [] 3 224 (.S (.v 42) (.M (.v 188) (.v 220))) (by kernel_rfl))⟩
theorem bR_pS4 (H : bR_Q q σ) (h : ¬ (q 218=0)) : Sec (q 49) (q 55) (q 16) (q 1) (q 17) (q 187) (q 188) (q 220) :=
 sec_mk h (H 220 _ rfl) (pol H [16,17,18] 9 218 (.A (.A (.M (.M (.v 16) (.v 187)) (.v 187)) (.M (.M (.M .t (.v 1)) (.v 187)) (.v 188))) (.M (.M (.v 17) (.v 188)) (.v 188))) (by kernel_rfl)) ((show q 219=2*((q 16*q 41+q 1*q 42+q 3)*q 187+(q 1*q 41+q 17*q 42+q 4)*q 188) from (pol H [16,17,18] 10 219 (.M .t (.A (.M (.A (.A (.M (.v 16) (.v 41)) (.M (.v 1) (.v 42))) (.v 3)) (.v 187)) (.M (.A (.A (.M (.v 1) (.v 41)) (.M (.v 17) (.v 42))) (.v 4)) (.v 188)))) (by kernel_rfl))).trans (by rw [(bR_pT0 H).ex,(bR_pT0 H).ey]))
theorem bR_pK4 (H : bR_Q q σ) (o : q 67=0) (h : ¬ (q 218=0)) : q 223*q 429+q 224*q 434+q 439=0 :=
 on_sec (bR_pT0 H) (bR_pK0 H o) (bR_pS4 H h) (bR_pT4 H) (bR_pP4 H).1 (bR_pP4 H).2
theorem bR_pG4 (H : bR_Q q σ) (o : q 67=0) (h : ¬ (q 218=0)) (d : ¬ (q 33=0)) : ¬ (q 453=0) :=
 fun j => grad_ne (bR_pT4 H) (bR_pK4 H o h) (bR_pd H d) ((sq2 (H 451 _ rfl) (H 452 _ rfl) (H 453 _ rfl)).1 j)
theorem bR_pE4 (H : bR_Q q σ) : q 454=q 429*fac [q 429,q 434,q 439]∧q 455=q 434*fac [q 429,q 434,q 439]∧q 456=q 439*fac [q 429,q 434,q 439] :=
 ⟨(H 454 _ rfl : q 454=q 429*fac [q 429,q 434,q 439]),(H 455 _ rfl : q 455=q 434*fac [q 429,q 434,q 439]),(H 456 _ rfl : q 456=q 439*fac [q 429,q 434,q 439])⟩
theorem bR_pl4 (H : bR_Q q σ) (h : ¬ (q 453=0)) : ¬ (q 539=0) :=
 fun j => pair_fac (fun k => h ((sq2 (H 451 _ rfl) (H 452 _ rfl) (H 453 _ rfl)).2 k)) (fac_zero (x := q 429) (by simp)) (fac_zero (x := q 434) (by simp)) ⟨(bR_pE4 H).1.symm.trans ((sq2 (H 537 _ rfl) (H 538 _ rfl) (H 539 _ rfl)).1 j).1,(bR_pE4 H).2.1.symm.trans ((sq2 (H 537 _ rfl) (H 538 _ rfl) (H 539 _ rfl)).1 j).2⟩
theorem bR_pL4 (H : bR_Q q σ) (h : ¬ (q 453=0)) : Mn (q 454) (q 455) (q 456) (q 429) (q 434) (q 439) :=
 Mn.pl (bR_pE4 H).1 (bR_pE4 H).2.1 (bR_pE4 H).2.2 (fac3_out (fun k => h ((sq2 (H 451 _ rfl) (H 452 _ rfl) (H 453 _ rfl)).2 k)))
theorem bR_pT5 (H : bR_Q q σ) : Tn (q 16) (q 1) (q 3) (q 17) (q 4) (q 18) (q 261) (q 262) (q 461) (q 466) (q 471) :=
 ⟨(pol H [16,261,262] 5 461 (.A (.A (.M (.v 16) (.v 261)) (.M (.v 1) (.v 262))) (.v 3)) (by kernel_rfl)),(pol H [17,261,262] 5 466 (.A (.A (.M (.v 1) (.v 261)) (.M (.v 17) (.v 262))) (.v 4)) (by kernel_rfl)),(pol H [18,261,262] 5 471 (.A (.A (.M (.v 3) (.v 261)) (.M (.v 4) (.v 262))) (.v 18)) (by kernel_rfl))⟩
theorem bR_pO5 (H : bR_Q q σ) : q 477=q 261*q 461+q 262*q 466+q 471 :=
 (pol H [261,262,461,466,471] 5 477 (.A (.A (.M (.v 261) (.v 461)) (.M (.v 262) (.v 466))) (.v 471)) (by kernel_rfl))
theorem bR_pP5 (H : bR_Q q σ) : q 261=q 41 - q 225*q 258∧q 262=q 42 - q 226*q 258 :=
 ⟨(pol H [] 3 261 (.S (.v 41) (.M (.v 225) (.v 258))) (by kernel_rfl)),(pol H [] 3 262 (.S (.v 42) (.M (.v 226) (.v 258))) (by kernel_rfl))⟩
theorem bR_pS5 (H : bR_Q q σ) (h : ¬ (q 256=0)) : Sec (q 49) (q 55) (q 16) (q 1) (q 17) (q 225) (q 226) (q 258) :=
 sec_mk h (H 258 _ rfl) (pol H [16,17,18] 9 256 (.A (.A (.M (.M (.v 16) (.v 225)) (.v 225)) (.M (.M (.M .t (.v 1)) (.v 225)) (.v 226))) (.M (.M (.v 17) (.v 226)) (.v 226))) (by kernel_rfl)) ((show q 257=2*((q 16*q 41+q 1*q 42+q 3)*q 225+(q 1*q 41+q 17*q 42+q 4)*q 226) from (pol H [16,17,18] 10 257 (.M .t (.A (.M (.A (.A (.M (.v 16) (.v 41)) (.M (.v 1) (.v 42))) (.v 3)) (.v 225)) (.M (.A (.A (.M (.v 1) (.v 41)) (.M (.v 17) (.v 42))) (.v 4)) (.v 226)))) (by kernel_rfl))).trans (by rw [(bR_pT0 H).ex,(bR_pT0 H).ey]))
theorem bR_pK5 (H : bR_Q q σ) (o : q 67=0) (h : ¬ (q 256=0)) : q 261*q 461+q 262*q 466+q 471=0 :=
 on_sec (bR_pT0 H) (bR_pK0 H o) (bR_pS5 H h) (bR_pT5 H) (bR_pP5 H).1 (bR_pP5 H).2
theorem bR_pG5 (H : bR_Q q σ) (o : q 67=0) (h : ¬ (q 256=0)) (d : ¬ (q 33=0)) : ¬ (q 485=0) :=
 fun j => grad_ne (bR_pT5 H) (bR_pK5 H o h) (bR_pd H d) ((sq2 (H 483 _ rfl) (H 484 _ rfl) (H 485 _ rfl)).1 j)
theorem bR_pE5 (H : bR_Q q σ) : q 486=q 461*fac [q 461,q 466,q 471]∧q 487=q 466*fac [q 461,q 466,q 471]∧q 488=q 471*fac [q 461,q 466,q 471] :=
 ⟨(H 486 _ rfl : q 486=q 461*fac [q 461,q 466,q 471]),(H 487 _ rfl : q 487=q 466*fac [q 461,q 466,q 471]),(H 488 _ rfl : q 488=q 471*fac [q 461,q 466,q 471])⟩
theorem bR_pl5 (H : bR_Q q σ) (h : ¬ (q 485=0)) : ¬ (q 554=0) :=
 fun j => pair_fac (fun k => h ((sq2 (H 483 _ rfl) (H 484 _ rfl) (H 485 _ rfl)).2 k)) (fac_zero (x := q 461) (by simp)) (fac_zero (x := q 466) (by simp)) ⟨(bR_pE5 H).1.symm.trans ((sq2 (H 552 _ rfl) (H 553 _ rfl) (H 554 _ rfl)).1 j).1,(bR_pE5 H).2.1.symm.trans ((sq2 (H 552 _ rfl) (H 553 _ rfl) (H 554 _ rfl)).1 j).2⟩
theorem bR_pL5 (H : bR_Q q σ) (h : ¬ (q 485=0)) : Mn (q 486) (q 487) (q 488) (q 461) (q 466) (q 471) :=
 Mn.pl (bR_pE5 H).1 (bR_pE5 H).2.1 (bR_pE5 H).2.2 (fac3_out (fun k => h ((sq2 (H 483 _ rfl) (H 484 _ rfl) (H 485 _ rfl)).2 k)))
theorem bR_pM0 (H : bR_Q q σ) (h : ¬ (q 497=0)) : Mp (q 326) (q 327) (q 328) (q 358) (q 359) (q 360) (q 505) (q 506) :=
 Mp.mk' h (pol H [] 3 497 (.S (.M (.v 326) (.v 359)) (.M (.v 327) (.v 358))) (by kernel_rfl)) (pol H [] 3 502 (.S (.M (.v 358) (.v 328)) (.M (.v 326) (.v 360))) (by kernel_rfl)) (H 504 _ rfl) (pol H [] 3 503 (.S (.M (.v 359) (.v 328)) (.M (.v 327) (.v 360))) (by kernel_rfl)) (H 505 _ rfl) (H 506 _ rfl)
theorem bR_pM1 (H : bR_Q q σ) (h : ¬ (q 512=0)) : Mp (q 358) (q 359) (q 360) (q 390) (q 391) (q 392) (q 520) (q 521) :=
 Mp.mk' h (pol H [] 3 512 (.S (.M (.v 358) (.v 391)) (.M (.v 359) (.v 390))) (by kernel_rfl)) (pol H [] 3 517 (.S (.M (.v 390) (.v 360)) (.M (.v 358) (.v 392))) (by kernel_rfl)) (H 519 _ rfl) (pol H [] 3 518 (.S (.M (.v 391) (.v 360)) (.M (.v 359) (.v 392))) (by kernel_rfl)) (H 520 _ rfl) (H 521 _ rfl)
theorem bR_pM2 (H : bR_Q q σ) (h : ¬ (q 527=0)) : Mp (q 390) (q 391) (q 392) (q 422) (q 423) (q 424) (q 535) (q 536) :=
 Mp.mk' h (pol H [] 3 527 (.S (.M (.v 390) (.v 423)) (.M (.v 391) (.v 422))) (by kernel_rfl)) (pol H [] 3 532 (.S (.M (.v 422) (.v 392)) (.M (.v 390) (.v 424))) (by kernel_rfl)) (H 534 _ rfl) (pol H [] 3 533 (.S (.M (.v 423) (.v 392)) (.M (.v 391) (.v 424))) (by kernel_rfl)) (H 535 _ rfl) (H 536 _ rfl)
theorem bR_pM3 (H : bR_Q q σ) (h : ¬ (q 542=0)) : Mp (q 422) (q 423) (q 424) (q 454) (q 455) (q 456) (q 550) (q 551) :=
 Mp.mk' h (pol H [] 3 542 (.S (.M (.v 422) (.v 455)) (.M (.v 423) (.v 454))) (by kernel_rfl)) (pol H [] 3 547 (.S (.M (.v 454) (.v 424)) (.M (.v 422) (.v 456))) (by kernel_rfl)) (H 549 _ rfl) (pol H [] 3 548 (.S (.M (.v 455) (.v 424)) (.M (.v 423) (.v 456))) (by kernel_rfl)) (H 550 _ rfl) (H 551 _ rfl)
theorem bR_pM4 (H : bR_Q q σ) (h : ¬ (q 557=0)) : Mp (q 454) (q 455) (q 456) (q 486) (q 487) (q 488) (q 565) (q 566) :=
 Mp.mk' h (pol H [] 3 557 (.S (.M (.v 454) (.v 487)) (.M (.v 455) (.v 486))) (by kernel_rfl)) (pol H [] 3 562 (.S (.M (.v 486) (.v 456)) (.M (.v 454) (.v 488))) (by kernel_rfl)) (H 564 _ rfl) (pol H [] 3 563 (.S (.M (.v 487) (.v 456)) (.M (.v 455) (.v 488))) (by kernel_rfl)) (H 565 _ rfl) (H 566 _ rfl)
theorem bR_pM5 (H : bR_Q q σ) (h : ¬ (q 569=0)) : Mp (q 486) (q 487) (q 488) (q 326) (q 327) (q 328) (q 577) (q 578) :=
 Mp.mk' h (pol H [] 3 569 (.S (.M (.v 486) (.v 327)) (.M (.v 487) (.v 326))) (by kernel_rfl)) (pol H [] 3 574 (.S (.M (.v 326) (.v 488)) (.M (.v 486) (.v 328))) (by kernel_rfl)) (H 576 _ rfl) (pol H [] 3 575 (.S (.M (.v 327) (.v 488)) (.M (.v 487) (.v 328))) (by kernel_rfl)) (H 577 _ rfl) (H 578 _ rfl)
theorem bR_pN12 (H : bR_Q q σ) (h : ¬ (q 269=0)) : ¬ (q 109=q 147∧q 110=q 148) :=
 pts_ne (H 265 _ rfl) (H 266 _ rfl) (H 267 _ rfl) (H 268 _ rfl) (H 269 _ rfl) h
theorem bR_pN13 (H : bR_Q q σ) (h : ¬ (q 275=0)) : ¬ (q 109=q 185∧q 110=q 186) :=
 pts_ne (H 271 _ rfl) (H 272 _ rfl) (H 273 _ rfl) (H 274 _ rfl) (H 275 _ rfl) h
theorem bR_pN14 (H : bR_Q q σ) (h : ¬ (q 286=0)) : ¬ (q 109=q 223∧q 110=q 224) :=
 pts_ne (H 282 _ rfl) (H 283 _ rfl) (H 284 _ rfl) (H 285 _ rfl) (H 286 _ rfl) h
theorem bR_pN15 (H : bR_Q q σ) (h : ¬ (q 302=0)) : ¬ (q 109=q 261∧q 110=q 262) :=
 pts_ne (H 298 _ rfl) (H 299 _ rfl) (H 300 _ rfl) (H 301 _ rfl) (H 302 _ rfl) h
theorem bR_pN23 (H : bR_Q q σ) (h : ¬ (q 280=0)) : ¬ (q 147=q 185∧q 148=q 186) :=
 pts_ne (H 276 _ rfl) (H 277 _ rfl) (H 278 _ rfl) (H 279 _ rfl) (H 280 _ rfl) h
theorem bR_pN25 (H : bR_Q q σ) (h : ¬ (q 307=0)) : ¬ (q 147=q 261∧q 148=q 262) :=
 pts_ne (H 303 _ rfl) (H 304 _ rfl) (H 305 _ rfl) (H 306 _ rfl) (H 307 _ rfl) h
theorem bR_pN34 (H : bR_Q q σ) (h : ¬ (q 296=0)) : ¬ (q 185=q 223∧q 186=q 224) :=
 pts_ne (H 292 _ rfl) (H 293 _ rfl) (H 294 _ rfl) (H 295 _ rfl) (H 296 _ rfl) h
theorem bR_pN35 (H : bR_Q q σ) (h : ¬ (q 312=0)) : ¬ (q 185=q 261∧q 186=q 262) :=
 pts_ne (H 308 _ rfl) (H 309 _ rfl) (H 310 _ rfl) (H 311 _ rfl) (H 312 _ rfl) h
theorem bR_pN45 (H : bR_Q q σ) (h : ¬ (q 317=0)) : ¬ (q 223=q 261∧q 224=q 262) :=
 pts_ne (H 313 _ rfl) (H 314 _ rfl) (H 315 _ rfl) (H 316 _ rfl) (H 317 _ rfl) h
theorem bR_pR0 (H : bR_Q q σ) : Ml (q 589) (q 590) (q 591) ((q 506)*1 - 1*(q 551)) (1*(q 550) - (q 505)*1) ((q 505)*(q 551) - (q 506)*(q 550)) :=
 thr_ml (H 589 _ rfl : q 589=q 581*fac [q 581,q 579,q 588]) (H 590 _ rfl : q 590=q 579*fac [q 581,q 579,q 588]) (H 591 _ rfl : q 591=q 588*fac [q 581,q 579,q 588]) (pol H [] 3 581 (.S (.v 506) (.v 551)) (by kernel_rfl)) (pol H [] 2 579 (.S (.v 550) (.v 505)) (by kernel_rfl)) (pol H [] 6 588 (.S (.M (.v 505) (.v 551)) (.M (.v 506) (.v 550))) (by kernel_rfl))
theorem bR_pR1 (H : bR_Q q σ) : Ml (q 602) (q 603) (q 604) ((q 521)*1 - 1*(q 566)) (1*(q 565) - (q 520)*1) ((q 520)*(q 566) - (q 521)*(q 565)) :=
 thr_ml (H 602 _ rfl : q 602=q 594*fac [q 594,q 592,q 601]) (H 603 _ rfl : q 603=q 592*fac [q 594,q 592,q 601]) (H 604 _ rfl : q 604=q 601*fac [q 594,q 592,q 601]) (pol H [] 3 594 (.S (.v 521) (.v 566)) (by kernel_rfl)) (pol H [] 2 592 (.S (.v 565) (.v 520)) (by kernel_rfl)) (pol H [] 6 601 (.S (.M (.v 520) (.v 566)) (.M (.v 521) (.v 565))) (by kernel_rfl))
theorem bR_pR2 (H : bR_Q q σ) : Ml (q 615) (q 616) (q 617) ((q 536)*1 - 1*(q 578)) (1*(q 577) - (q 535)*1) ((q 535)*(q 578) - (q 536)*(q 577)) :=
 thr_ml (H 615 _ rfl : q 615=q 607*fac [q 607,q 605,q 614]) (H 616 _ rfl : q 616=q 605*fac [q 607,q 605,q 614]) (H 617 _ rfl : q 617=q 614*fac [q 607,q 605,q 614]) (pol H [] 3 607 (.S (.v 536) (.v 578)) (by kernel_rfl)) (pol H [] 2 605 (.S (.v 577) (.v 535)) (by kernel_rfl)) (pol H [] 6 614 (.S (.M (.v 535) (.v 578)) (.M (.v 536) (.v 577))) (by kernel_rfl))
theorem bR_pF (H : bR_Q q σ) (h1 : ¬ (q 104=0)) (h2 : ¬ (q 142=0)) (h3 : ¬ (q 180=0)) (h4 : ¬ (q 218=0)) (h5 : ¬ (q 256=0)) (s0 : ¬ (q 325=0)) (s1 : ¬ (q 357=0)) (s2 : ¬ (q 389=0)) (s3 : ¬ (q 421=0)) (s4 : ¬ (q 453=0)) (s5 : ¬ (q 485=0)) (m0 : ¬ (q 497=0)) (m1 : ¬ (q 512=0)) (m2 : ¬ (q 527=0)) (m3 : ¬ (q 542=0)) (m4 : ¬ (q 557=0)) (m5 : ¬ (q 569=0)) : q 632=0 :=
 (pol H [] 7 632 (.A (.S (.M (.v 589) (.S (.M (.v 603) (.v 617)) (.M (.v 616) (.v 604)))) (.M (.v 590) (.S (.M (.v 602) (.v 617)) (.M (.v 615) (.v 604))))) (.M (.v 591) (.S (.M (.v 602) (.v 616)) (.M (.v 615) (.v 603))))) (by kernel_rfl)).trans (Ml.det (bri_line (Mn.tb (bR_pL0 H s0) (bR_pT0 H)) (Mn.tb (bR_pL1 H s1) (bR_pT1 H)) (Mn.tb (bR_pL3 H s3) (bR_pT3 H)) (Mn.tb (bR_pL4 H s4) (bR_pT4 H)) (bR_pM0 H m0).ml (bR_pM3 H m3).ml (bR_pR0 H) rfl rfl) (bri_line (Mn.tb (bR_pL1 H s1) (bR_pT1 H)) (Mn.tb (bR_pL2 H s2) (bR_pT2 H)) (Mn.tb (bR_pL4 H s4) (bR_pT4 H)) (Mn.tb (bR_pL5 H s5) (bR_pT5 H)) (bR_pM1 H m1).ml (bR_pM4 H m4).ml (bR_pR1 H) rfl rfl) (bri_line (Mn.tb (bR_pL2 H s2) (bR_pT2 H)) (Mn.tb (bR_pL3 H s3) (bR_pT3 H)) (Mn.tb (bR_pL5 H s5) (bR_pT5 H)) (Mn.tb (bR_pL0 H s0) (bR_pT0 H)) (bR_pM2 H m2).ml (bR_pM5 H m5).ml (bR_pR2 H) rfl rfl) (pas_pts (bR_pS1 H h1) (bR_pS2 H h2) (bR_pS3 H h3) (bR_pS4 H h4) (bR_pS5 H h5) (bR_pP1 H) (bR_pP2 H) (bR_pP3 H) (bR_pP4 H) (bR_pP5 H)))
theorem bR_pC0 (H : bR_Q q σ) (o : q 67=0) (d : ¬ (q 33=0)) (h1 : ¬ (q 104=0)) (h3 : ¬ (q 180=0)) (h4 : ¬ (q 218=0)) (s1 : ¬ (q 357=0)) (s3 : ¬ (q 421=0)) (s4 : ¬ (q 453=0)) (m0 : ¬ (q 497=0)) (m1 : ¬ (q 542=0)) (n0 : ¬ (q 275=0)) (n1 : ¬ (q 286=0)) (n2 : ¬ (q 296=0)) : ¬ (q 584=0) :=
 fun g => by
 have ⟨g1,g2⟩ := (sq2 (H 582 _ rfl) (H 583 _ rfl) (H 584 _ rfl)).1 g
 have e : q 550=q 505∧q 551=q 506 := by
  have k1 : q 579=q 550 - q 505 := H 579 _ rfl
  have k2 : q 581=-q 580 := H 581 _ rfl
  have k3 : q 580=q 551 - q 506 := H 580 _ rfl
  rw [g2] at k1; rw [g1,k3] at k2
  clear g g1 g2 k3
  exact ⟨by grind,by grind⟩
 exact meets_ne (bR_pT1 H) (bR_pT3 H) (bR_pT4 H) (bR_pK1 H o h1) (bR_pK3 H o h3) (bR_pK4 H o h4) (bR_pd H d) (bR_pL1 H s1) (bR_pL3 H s3) (bR_pL4 H s4) ((bR_pM0 H m0).on.2) (show q 422*q 505+q 423*q 506+q 424=0 by rw [← e.1,← e.2]; exact ((bR_pM3 H m1).on.1)) (show q 454*q 505+q 455*q 506+q 456=0 by rw [← e.1,← e.2]; exact ((bR_pM3 H m1).on.2)) (bR_pN13 H n0) (bR_pN14 H n1) (bR_pN34 H n2)
theorem bR_pC1 (H : bR_Q q σ) (o : q 67=0) (d : ¬ (q 33=0)) (h1 : ¬ (q 104=0)) (h4 : ¬ (q 218=0)) (h5 : ¬ (q 256=0)) (s1 : ¬ (q 357=0)) (s4 : ¬ (q 453=0)) (s5 : ¬ (q 485=0)) (m0 : ¬ (q 512=0)) (m1 : ¬ (q 557=0)) (n0 : ¬ (q 286=0)) (n1 : ¬ (q 302=0)) (n2 : ¬ (q 317=0)) : ¬ (q 597=0) :=
 fun g => by
 have ⟨g1,g2⟩ := (sq2 (H 595 _ rfl) (H 596 _ rfl) (H 597 _ rfl)).1 g
 have e : q 565=q 520∧q 566=q 521 := by
  have k1 : q 592=q 565 - q 520 := H 592 _ rfl
  have k2 : q 594=-q 593 := H 594 _ rfl
  have k3 : q 593=q 566 - q 521 := H 593 _ rfl
  rw [g2] at k1; rw [g1,k3] at k2
  clear g g1 g2 k3
  exact ⟨by grind,by grind⟩
 exact meets_ne (bR_pT1 H) (bR_pT4 H) (bR_pT5 H) (bR_pK1 H o h1) (bR_pK4 H o h4) (bR_pK5 H o h5) (bR_pd H d) (bR_pL1 H s1) (bR_pL4 H s4) (bR_pL5 H s5) ((bR_pM1 H m0).on.1) (show q 454*q 520+q 455*q 521+q 456=0 by rw [← e.1,← e.2]; exact ((bR_pM4 H m1).on.1)) (show q 486*q 520+q 487*q 521+q 488=0 by rw [← e.1,← e.2]; exact ((bR_pM4 H m1).on.2)) (bR_pN14 H n0) (bR_pN15 H n1) (bR_pN45 H n2)
theorem bR_pC2 (H : bR_Q q σ) (o : q 67=0) (d : ¬ (q 33=0)) (h2 : ¬ (q 142=0)) (h3 : ¬ (q 180=0)) (h5 : ¬ (q 256=0)) (s2 : ¬ (q 389=0)) (s3 : ¬ (q 421=0)) (s5 : ¬ (q 485=0)) (m0 : ¬ (q 527=0)) (m1 : ¬ (q 569=0)) (n0 : ¬ (q 280=0)) (n1 : ¬ (q 307=0)) (n2 : ¬ (q 312=0)) : ¬ (q 610=0) :=
 fun g => by
 have ⟨g1,g2⟩ := (sq2 (H 608 _ rfl) (H 609 _ rfl) (H 610 _ rfl)).1 g
 have e : q 577=q 535∧q 578=q 536 := by
  have k1 : q 605=q 577 - q 535 := H 605 _ rfl
  have k2 : q 607=-q 606 := H 607 _ rfl
  have k3 : q 606=q 578 - q 536 := H 606 _ rfl
  rw [g2] at k1; rw [g1,k3] at k2
  clear g g1 g2 k3
  exact ⟨by grind,by grind⟩
 exact meets_ne (bR_pT2 H) (bR_pT3 H) (bR_pT5 H) (bR_pK2 H o h2) (bR_pK3 H o h3) (bR_pK5 H o h5) (bR_pd H d) (bR_pL2 H s2) (bR_pL3 H s3) (bR_pL5 H s5) ((bR_pM2 H m0).on.1) ((bR_pM2 H m0).on.2) (show q 486*q 535+q 487*q 536+q 488=0 by rw [← e.1,← e.2]; exact ((bR_pM5 H m1).on.1)) (bR_pN23 H n0) (bR_pN25 H n1) (bR_pN35 H n2)
def bR_cs : List (FuncId × Nat) := [(45,64),(54,60),(21,68)]
def bR_G : Memo := [(55,[qA [461,466,471]],tA [486,487,488]),(36,[qA [16,1,3,1,17,4,3,4,18],qA [261,262,43],qA [261,262,43]],qA [477]),(53,[qA [16,1,3,1,17,4,3,4,18],qA [261,262,43]],qA [461,466,471]),(55,[qA [429,434,439]],tA [454,455,456]),(36,[qA [16,1,3,1,17,4,3,4,18],qA [223,224,43],qA [223,224,43]],qA [445]),(53,[qA [16,1,3,1,17,4,3,4,18],qA [223,224,43]],qA [429,434,439]),(55,[qA [397,402,407]],tA [422,423,424]),(36,[qA [16,1,3,1,17,4,3,4,18],qA [185,186,43],qA [185,186,43]],qA [413]),(53,[qA [16,1,3,1,17,4,3,4,18],qA [185,186,43]],qA [397,402,407]),(55,[qA [365,370,375]],tA [390,391,392]),(36,[qA [16,1,3,1,17,4,3,4,18],qA [147,148,43],qA [147,148,43]],qA [381]),(53,[qA [16,1,3,1,17,4,3,4,18],qA [147,148,43]],qA [365,370,375]),(55,[qA [333,338,343]],tA [358,359,360]),(36,[qA [16,1,3,1,17,4,3,4,18],qA [109,110,43],qA [109,110,43]],qA [349]),(53,[qA [16,1,3,1,17,4,3,4,18],qA [109,110,43]],qA [333,338,343]),(55,[qA [49,55,61]],tA [326,327,328]),(36,[qA [16,1,3,1,17,4,3,4,18],(false,[(true,[.inr (0,1,225,0,0),.inr (0,2,225,0,0),.inr (0,3,225,0,0),.inr (0,1,226,0,0),.inr (0,2,226,0,0),.inr (0,3,226,0,0),.inl (.bool false),.inl (.slice none 0 0),.inl (.slice none 0 0)])]),(false,[(true,[.inr (0,1,225,0,0),.inr (0,2,225,0,0),.inr (0,3,225,0,0),.inr (0,1,226,0,0),.inr (0,2,226,0,0),.inr (0,3,226,0,0),.inl (.bool false),.inl (.slice none 0 0),.inl (.slice none 0 0)])])],qA [256]),(36,[qA [16,1,3,1,17,4,3,4,18],qA [41,42,43],(false,[(true,[.inr (0,1,225,0,0),.inr (0,2,225,0,0),.inr (0,3,225,0,0),.inr (0,1,226,0,0),.inr (0,2,226,0,0),.inr (0,3,226,0,0),.inl (.bool false),.inl (.slice none 0 0),.inl (.slice none 0 0)])])],qA [250]),(53,[qA [16,1,3,1,17,4,3,4,18],(false,[(true,[.inr (0,1,225,0,0),.inr (0,2,225,0,0),.inr (0,3,225,0,0),.inr (0,1,226,0,0),.inr (0,2,226,0,0),.inr (0,3,226,0,0),.inl (.bool false),.inl (.slice none 0 0),.inl (.slice none 0 0)])])],qA [234,239,244]),(36,[qA [16,1,3,1,17,4,3,4,18],(false,[(true,[.inr (0,1,187,0,0),.inr (0,2,187,0,0),.inr (0,3,187,0,0),.inr (0,1,188,0,0),.inr (0,2,188,0,0),.inr (0,3,188,0,0),.inl (.bool false),.inl (.slice none 0 0),.inl (.slice none 0 0)])]),(false,[(true,[.inr (0,1,187,0,0),.inr (0,2,187,0,0),.inr (0,3,187,0,0),.inr (0,1,188,0,0),.inr (0,2,188,0,0),.inr (0,3,188,0,0),.inl (.bool false),.inl (.slice none 0 0),.inl (.slice none 0 0)])])],qA [218]),(36,[qA [16,1,3,1,17,4,3,4,18],qA [41,42,43],(false,[(true,[.inr (0,1,187,0,0),.inr (0,2,187,0,0),.inr (0,3,187,0,0),.inr (0,1,188,0,0),.inr (0,2,188,0,0),.inr (0,3,188,0,0),.inl (.bool false),.inl (.slice none 0 0),.inl (.slice none 0 0)])])],qA [212]),(53,[qA [16,1,3,1,17,4,3,4,18],(false,[(true,[.inr (0,1,187,0,0),.inr (0,2,187,0,0),.inr (0,3,187,0,0),.inr (0,1,188,0,0),.inr (0,2,188,0,0),.inr (0,3,188,0,0),.inl (.bool false),.inl (.slice none 0 0),.inl (.slice none 0 0)])])],qA [196,201,206]),(36,[qA [16,1,3,1,17,4,3,4,18],(false,[(true,[.inr (0,1,149,0,0),.inr (0,2,149,0,0),.inr (0,3,149,0,0),.inr (0,1,150,0,0),.inr (0,2,150,0,0),.inr (0,3,150,0,0),.inl (.bool false),.inl (.slice none 0 0),.inl (.slice none 0 0)])]),(false,[(true,[.inr (0,1,149,0,0),.inr (0,2,149,0,0),.inr (0,3,149,0,0),.inr (0,1,150,0,0),.inr (0,2,150,0,0),.inr (0,3,150,0,0),.inl (.bool false),.inl (.slice none 0 0),.inl (.slice none 0 0)])])],qA [180]),(36,[qA [16,1,3,1,17,4,3,4,18],qA [41,42,43],(false,[(true,[.inr (0,1,149,0,0),.inr (0,2,149,0,0),.inr (0,3,149,0,0),.inr (0,1,150,0,0),.inr (0,2,150,0,0),.inr (0,3,150,0,0),.inl (.bool false),.inl (.slice none 0 0),.inl (.slice none 0 0)])])],qA [174]),(53,[qA [16,1,3,1,17,4,3,4,18],(false,[(true,[.inr (0,1,149,0,0),.inr (0,2,149,0,0),.inr (0,3,149,0,0),.inr (0,1,150,0,0),.inr (0,2,150,0,0),.inr (0,3,150,0,0),.inl (.bool false),.inl (.slice none 0 0),.inl (.slice none 0 0)])])],qA [158,163,168]),(36,[qA [16,1,3,1,17,4,3,4,18],(false,[(true,[.inr (0,1,111,0,0),.inr (0,2,111,0,0),.inr (0,3,111,0,0),.inr (0,1,112,0,0),.inr (0,2,112,0,0),.inr (0,3,112,0,0),.inl (.bool false),.inl (.slice none 0 0),.inl (.slice none 0 0)])]),(false,[(true,[.inr (0,1,111,0,0),.inr (0,2,111,0,0),.inr (0,3,111,0,0),.inr (0,1,112,0,0),.inr (0,2,112,0,0),.inr (0,3,112,0,0),.inl (.bool false),.inl (.slice none 0 0),.inl (.slice none 0 0)])])],qA [142]),(36,[qA [16,1,3,1,17,4,3,4,18],qA [41,42,43],(false,[(true,[.inr (0,1,111,0,0),.inr (0,2,111,0,0),.inr (0,3,111,0,0),.inr (0,1,112,0,0),.inr (0,2,112,0,0),.inr (0,3,112,0,0),.inl (.bool false),.inl (.slice none 0 0),.inl (.slice none 0 0)])])],qA [136]),(53,[qA [16,1,3,1,17,4,3,4,18],(false,[(true,[.inr (0,1,111,0,0),.inr (0,2,111,0,0),.inr (0,3,111,0,0),.inr (0,1,112,0,0),.inr (0,2,112,0,0),.inr (0,3,112,0,0),.inl (.bool false),.inl (.slice none 0 0),.inl (.slice none 0 0)])])],qA [120,125,130]),(36,[qA [16,1,3,1,17,4,3,4,18],(false,[(true,[.inr (0,1,36,0,0),.inr (0,2,36,0,0),.inr (0,3,36,0,0),.inr (0,1,37,0,0),.inr (0,2,37,0,0),.inr (0,3,37,0,0),.inl (.bool false),.inl (.slice none 0 0),.inl (.slice none 0 0)])]),(false,[(true,[.inr (0,1,36,0,0),.inr (0,2,36,0,0),.inr (0,3,36,0,0),.inr (0,1,37,0,0),.inr (0,2,37,0,0),.inr (0,3,37,0,0),.inl (.bool false),.inl (.slice none 0 0),.inl (.slice none 0 0)])])],qA [104]),(36,[qA [16,1,3,1,17,4,3,4,18],qA [41,42,43],(false,[(true,[.inr (0,1,36,0,0),.inr (0,2,36,0,0),.inr (0,3,36,0,0),.inr (0,1,37,0,0),.inr (0,2,37,0,0),.inr (0,3,37,0,0),.inl (.bool false),.inl (.slice none 0 0),.inl (.slice none 0 0)])])],qA [98]),(53,[qA [16,1,3,1,17,4,3,4,18],(false,[(true,[.inr (0,1,36,0,0),.inr (0,2,36,0,0),.inr (0,3,36,0,0),.inr (0,1,37,0,0),.inr (0,2,37,0,0),.inr (0,3,37,0,0),.inl (.bool false),.inl (.slice none 0 0),.inl (.slice none 0 0)])])],qA [80,86,92]),(36,[qA [16,1,3,1,17,4,3,4,18],qA [41,42,43],qA [41,42,43]],qA [67]),(53,[qA [16,1,3,1,17,4,3,4,18],qA [41,42,43]],qA [49,55,61]),(15,[qA [0,1,2,3,4,5]],qA [16,1,3,1,17,4,3,4,18])]
def bR_O : FuncId × List AV × AV := (5,[(false,[(true,[.inr (2,0,0,0,0),.inr (2,1,0,0,0),.inr (2,2,0,0,0),.inr (2,3,0,0,0),.inr (2,4,0,0,0),.inr (2,5,0,0,0)])])],(true,[(false,[.inr (0,6,73,0,0)]),(false,[.inr (0,6,74,0,0)])]))
theorem memo_app {N : List Nd} {L C : List (List Nat × Nat)} {Z : List Nat} {q : Nat→Rat} {σ : Nat→ByteArray} {cl : List FuncId} {w : World} {M M' : Memo} (h : MemoAll N L C Z q σ cl w M) (h' : MemoAll N L C Z q σ cl w M') : MemoAll N L C Z q σ cl w (M ++ M') := fun H K f args v hm => (List.mem_append.1 hm).elim (h H K f args v) (h' H K f args v)
theorem memo_con {N : List Nd} {L C : List (List Nat × Nat)} {Z : List Nat} {q : Nat→Rat} {σ : Nat→ByteArray} {cl : List FuncId} {w : World} {e : FuncId × List AV × AV} {M : Memo} (h : MemoAll N L C Z q σ cl w [e]) (h' : MemoAll N L C Z q σ cl w M) : MemoAll N L C Z q σ cl w (e :: M) := memo_app h h'
theorem memo_weak {N : List Nd} {L C : List (List Nat × Nat)} {Z : List Nat} {q : Nat→Rat} {σ : Nat→ByteArray} {cl : List FuncId} {w : World} {f : FuncId} {args : List AV} {v v' : AV} (h : MemoAll N L C Z q σ cl w [(f,args,v)]) (hv : ∀ (K : List (FuncId × List AC)) (γ : Nat→Option Nat) (w' : World) (r : Value),avOn (cOn (evS q σ) K γ w') v r→avOn (cOn (evS q σ) K γ w') v' r) : MemoAll N L C Z q σ cl w [(f,args,v')] := fun H K g bs u hm γ w1 vs hi hA => by
 rw [List.mem_singleton] at hm
 cases hm
 refine (h H K f args v List.mem_cons_self γ w1 vs hi hA).mono ?_
 rintro _ w' ⟨r,e,hef,hr⟩
 exact ⟨r,e,hef,hv _ _ _ _ hr⟩
theorem tell_rd (q : Rat) : rd (tellS q).data.toList=q := by
 have : (tellS q).data.toList=tx q := by simp [tellS]
 rw [this,rd_tx]
theorem bR_g0 : memoChk (sx Tryz.prog bR_N [] [] bR_L bR_C bR_Z (prC [6])) bR_cs 6 18 (bR_G.drop 0)=true := by kernel_rfl
theorem bR_g1 : memoChk (sx Tryz.prog bR_N [] [] bR_L bR_C bR_Z (prC [6])) bR_cs 6 15 (bR_G.drop 18)=true := by kernel_rfl
theorem bR_g2 : memoChk (sx Tryz.prog bR_N [] [] bR_L bR_C bR_Z (prC [6])) bR_cs 6 1 (bR_G.drop 33)=true := by kernel_rfl
theorem bR_memoG {q : Nat→Rat} {σ : Nat→ByteArray} {w : World} (hσ : ∀ j,(σ j).size≤1048576) (hq : ∀ (a : Nat) nd,bR_N[a]? = some nd→q a=valN σ q nd) (h0 : ∀ a,bR_N.length≤a→q a=0) (hp : PreS w) : MemoAll bR_N bR_L bR_C bR_Z q σ [6] w bR_G := by
 have Y : Hy bR_N [] bR_L bR_C bR_Z q σ := hy_ofA hσ bR_wf bR_sz bR_lt bR_cn hq h0 trivial
 have hc : ∀ f ∈ ([6] : List FuncId),Closed f := by simp [closed_coned]
 have hm : (Tryz.prog).follows .mixedOrders=true := by kernel_rfl
 exact (memoAll_chk (M := bR_G.drop 0) Y hc hm hp 18 bR_g0 (memoAll_chk (M := bR_G.drop 18) Y hc hm hp 15 bR_g1 (memoAll_chk (M := bR_G.drop 33) Y hc hm hp 1 bR_g2 memoAll_nil)))
def bR_H0 : List (Nat × Nat × Nat × Nat) := [(0,14,0,1)]
def bR_H1 : List (Nat × Nat × Nat × Nat) := [(0,14,0,0),(0,40,0,1)]
def bR_H2 : List (Nat × Nat × Nat × Nat) := [(0,14,0,0),(0,40,0,0),(0,67,0,1),(0,104,0,1),(0,98,0,1)]
def bR_H3 : List (Nat × Nat × Nat × Nat) := [(0,14,0,0),(0,40,0,0),(0,67,0,1),(0,104,0,1),(0,98,0,0)]
def bR_H4 : List (Nat × Nat × Nat × Nat) := [(0,14,0,0),(0,40,0,0),(0,67,0,1),(0,104,0,0),(0,115,0,1)]
def bR_H5 : List (Nat × Nat × Nat × Nat) := [(0,14,0,0),(0,40,0,0),(0,67,0,1),(0,104,0,0),(0,115,0,0),(0,142,0,1),(0,136,0,1)]
def bR_H6 : List (Nat × Nat × Nat × Nat) := [(0,14,0,0),(0,40,0,0),(0,67,0,1),(0,104,0,0),(0,115,0,0),(0,142,0,1),(0,136,0,0)]
def bR_H7 : List (Nat × Nat × Nat × Nat) := [(0,14,0,0),(0,40,0,0),(0,67,0,1),(0,104,0,0),(0,115,0,0),(0,142,0,0),(0,153,0,1)]
def bR_H8 : List (Nat × Nat × Nat × Nat) := [(0,14,0,0),(0,40,0,0),(0,67,0,1),(0,104,0,0),(0,115,0,0),(0,142,0,0),(0,153,0,0),(0,180,0,1),(0,174,0,1)]
def bR_H9 : List (Nat × Nat × Nat × Nat) := [(0,14,0,0),(0,40,0,0),(0,67,0,1),(0,104,0,0),(0,115,0,0),(0,142,0,0),(0,153,0,0),(0,180,0,1),(0,174,0,0)]
def bR_H10 : List (Nat × Nat × Nat × Nat) := [(0,14,0,0),(0,40,0,0),(0,67,0,1),(0,104,0,0),(0,115,0,0),(0,142,0,0),(0,153,0,0),(0,180,0,0),(0,191,0,1)]
def bR_H11 : List (Nat × Nat × Nat × Nat) := [(0,14,0,0),(0,40,0,0),(0,67,0,1),(0,104,0,0),(0,115,0,0),(0,142,0,0),(0,153,0,0),(0,180,0,0),(0,191,0,0),(0,218,0,1),(0,212,0,1)]
def bR_H12 : List (Nat × Nat × Nat × Nat) := [(0,14,0,0),(0,40,0,0),(0,67,0,1),(0,104,0,0),(0,115,0,0),(0,142,0,0),(0,153,0,0),(0,180,0,0),(0,191,0,0),(0,218,0,1),(0,212,0,0)]
def bR_H13 : List (Nat × Nat × Nat × Nat) := [(0,14,0,0),(0,40,0,0),(0,67,0,1),(0,104,0,0),(0,115,0,0),(0,142,0,0),(0,153,0,0),(0,180,0,0),(0,191,0,0),(0,218,0,0),(0,229,0,1)]
def bR_H14 : List (Nat × Nat × Nat × Nat) := [(0,14,0,0),(0,40,0,0),(0,67,0,1),(0,104,0,0),(0,115,0,0),(0,142,0,0),(0,153,0,0),(0,180,0,0),(0,191,0,0),(0,218,0,0),(0,229,0,0),(0,256,0,1),(0,250,0,1)]
def bR_H15 : List (Nat × Nat × Nat × Nat) := [(0,14,0,0),(0,40,0,0),(0,67,0,1),(0,104,0,0),(0,115,0,0),(0,142,0,0),(0,153,0,0),(0,180,0,0),(0,191,0,0),(0,218,0,0),(0,229,0,0),(0,256,0,1),(0,250,0,0)]
def bR_H16 : List (Nat × Nat × Nat × Nat) := [(0,14,0,0),(0,40,0,0),(0,67,0,1),(0,104,0,0),(0,115,0,0),(0,142,0,0),(0,153,0,0),(0,180,0,0),(0,191,0,0),(0,218,0,0),(0,229,0,0),(0,256,0,0),(0,263,0,1)]
def bR_H17 : List (Nat × Nat × Nat × Nat) := [(0,14,0,0),(0,40,0,0),(0,67,0,1),(0,104,0,0),(0,115,0,0),(0,142,0,0),(0,153,0,0),(0,180,0,0),(0,191,0,0),(0,218,0,0),(0,229,0,0),(0,256,0,0),(0,263,0,0),(0,264,0,1)]
def bR_H18 : List (Nat × Nat × Nat × Nat) := [(0,14,0,0),(0,40,0,0),(0,67,0,1),(0,104,0,0),(0,115,0,0),(0,142,0,0),(0,153,0,0),(0,180,0,0),(0,191,0,0),(0,218,0,0),(0,229,0,0),(0,256,0,0),(0,263,0,0),(0,264,0,0),(0,269,0,1)]
def bR_H19 : List (Nat × Nat × Nat × Nat) := [(0,14,0,0),(0,40,0,0),(0,67,0,1),(0,104,0,0),(0,115,0,0),(0,142,0,0),(0,153,0,0),(0,180,0,0),(0,191,0,0),(0,218,0,0),(0,229,0,0),(0,256,0,0),(0,263,0,0),(0,264,0,0),(0,269,0,0),(0,270,0,1)]
def bR_H20 : List (Nat × Nat × Nat × Nat) := [(0,14,0,0),(0,40,0,0),(0,67,0,1),(0,104,0,0),(0,115,0,0),(0,142,0,0),(0,153,0,0),(0,180,0,0),(0,191,0,0),(0,218,0,0),(0,229,0,0),(0,256,0,0),(0,263,0,0),(0,264,0,0),(0,269,0,0),(0,270,0,0),(0,275,0,1)]
def bR_H21 : List (Nat × Nat × Nat × Nat) := [(0,14,0,0),(0,40,0,0),(0,67,0,1),(0,104,0,0),(0,115,0,0),(0,142,0,0),(0,153,0,0),(0,180,0,0),(0,191,0,0),(0,218,0,0),(0,229,0,0),(0,256,0,0),(0,263,0,0),(0,264,0,0),(0,269,0,0),(0,270,0,0),(0,275,0,0),(0,280,0,1)]
def bR_H22 : List (Nat × Nat × Nat × Nat) := [(0,14,0,0),(0,40,0,0),(0,67,0,1),(0,104,0,0),(0,115,0,0),(0,142,0,0),(0,153,0,0),(0,180,0,0),(0,191,0,0),(0,218,0,0),(0,229,0,0),(0,256,0,0),(0,263,0,0),(0,264,0,0),(0,269,0,0),(0,270,0,0),(0,275,0,0),(0,280,0,0),(0,281,0,1)]
def bR_H23 : List (Nat × Nat × Nat × Nat) := [(0,14,0,0),(0,40,0,0),(0,67,0,1),(0,104,0,0),(0,115,0,0),(0,142,0,0),(0,153,0,0),(0,180,0,0),(0,191,0,0),(0,218,0,0),(0,229,0,0),(0,256,0,0),(0,263,0,0),(0,264,0,0),(0,269,0,0),(0,270,0,0),(0,275,0,0),(0,280,0,0),(0,281,0,0),(0,286,0,1)]
def bR_H24 : List (Nat × Nat × Nat × Nat) := [(0,14,0,0),(0,40,0,0),(0,67,0,1),(0,104,0,0),(0,115,0,0),(0,142,0,0),(0,153,0,0),(0,180,0,0),(0,191,0,0),(0,218,0,0),(0,229,0,0),(0,256,0,0),(0,263,0,0),(0,264,0,0),(0,269,0,0),(0,270,0,0),(0,275,0,0),(0,280,0,0),(0,281,0,0),(0,286,0,0),(0,291,0,1)]
def bR_H25 : List (Nat × Nat × Nat × Nat) := [(0,14,0,0),(0,40,0,0),(0,67,0,1),(0,104,0,0),(0,115,0,0),(0,142,0,0),(0,153,0,0),(0,180,0,0),(0,191,0,0),(0,218,0,0),(0,229,0,0),(0,256,0,0),(0,263,0,0),(0,264,0,0),(0,269,0,0),(0,270,0,0),(0,275,0,0),(0,280,0,0),(0,281,0,0),(0,286,0,0),(0,291,0,0),(0,296,0,1)]
def bR_H26 : List (Nat × Nat × Nat × Nat) := [(0,14,0,0),(0,40,0,0),(0,67,0,1),(0,104,0,0),(0,115,0,0),(0,142,0,0),(0,153,0,0),(0,180,0,0),(0,191,0,0),(0,218,0,0),(0,229,0,0),(0,256,0,0),(0,263,0,0),(0,264,0,0),(0,269,0,0),(0,270,0,0),(0,275,0,0),(0,280,0,0),(0,281,0,0),(0,286,0,0),(0,291,0,0),(0,296,0,0),(0,297,0,1)]
def bR_H27 : List (Nat × Nat × Nat × Nat) := [(0,14,0,0),(0,40,0,0),(0,67,0,1),(0,104,0,0),(0,115,0,0),(0,142,0,0),(0,153,0,0),(0,180,0,0),(0,191,0,0),(0,218,0,0),(0,229,0,0),(0,256,0,0),(0,263,0,0),(0,264,0,0),(0,269,0,0),(0,270,0,0),(0,275,0,0),(0,280,0,0),(0,281,0,0),(0,286,0,0),(0,291,0,0),(0,296,0,0),(0,297,0,0),(0,302,0,1)]
def bR_H28 : List (Nat × Nat × Nat × Nat) := [(0,14,0,0),(0,40,0,0),(0,67,0,1),(0,104,0,0),(0,115,0,0),(0,142,0,0),(0,153,0,0),(0,180,0,0),(0,191,0,0),(0,218,0,0),(0,229,0,0),(0,256,0,0),(0,263,0,0),(0,264,0,0),(0,269,0,0),(0,270,0,0),(0,275,0,0),(0,280,0,0),(0,281,0,0),(0,286,0,0),(0,291,0,0),(0,296,0,0),(0,297,0,0),(0,302,0,0),(0,307,0,1)]
def bR_H29 : List (Nat × Nat × Nat × Nat) := [(0,14,0,0),(0,40,0,0),(0,67,0,1),(0,104,0,0),(0,115,0,0),(0,142,0,0),(0,153,0,0),(0,180,0,0),(0,191,0,0),(0,218,0,0),(0,229,0,0),(0,256,0,0),(0,263,0,0),(0,264,0,0),(0,269,0,0),(0,270,0,0),(0,275,0,0),(0,280,0,0),(0,281,0,0),(0,286,0,0),(0,291,0,0),(0,296,0,0),(0,297,0,0),(0,302,0,0),(0,307,0,0),(0,312,0,1)]
def bR_H30 : List (Nat × Nat × Nat × Nat) := [(0,14,0,0),(0,40,0,0),(0,67,0,1),(0,104,0,0),(0,115,0,0),(0,142,0,0),(0,153,0,0),(0,180,0,0),(0,191,0,0),(0,218,0,0),(0,229,0,0),(0,256,0,0),(0,263,0,0),(0,264,0,0),(0,269,0,0),(0,270,0,0),(0,275,0,0),(0,280,0,0),(0,281,0,0),(0,286,0,0),(0,291,0,0),(0,296,0,0),(0,297,0,0),(0,302,0,0),(0,307,0,0),(0,312,0,0),(0,317,0,1)]
def bR_H31 : List (Nat × Nat × Nat × Nat) := [(0,14,0,0),(0,40,0,0),(0,67,0,1),(0,104,0,0),(0,115,0,0),(0,142,0,0),(0,153,0,0),(0,180,0,0),(0,191,0,0),(0,218,0,0),(0,229,0,0),(0,256,0,0),(0,263,0,0),(0,264,0,0),(0,269,0,0),(0,270,0,0),(0,275,0,0),(0,280,0,0),(0,281,0,0),(0,286,0,0),(0,291,0,0),(0,296,0,0),(0,297,0,0),(0,302,0,0),(0,307,0,0),(0,312,0,0),(0,317,0,0),(0,318,0,1),(0,320,0,1)]
def bR_H32 : List (Nat × Nat × Nat × Nat) := [(0,14,0,0),(0,40,0,0),(0,67,0,1),(0,104,0,0),(0,115,0,0),(0,142,0,0),(0,153,0,0),(0,180,0,0),(0,191,0,0),(0,218,0,0),(0,229,0,0),(0,256,0,0),(0,263,0,0),(0,264,0,0),(0,269,0,0),(0,270,0,0),(0,275,0,0),(0,280,0,0),(0,281,0,0),(0,286,0,0),(0,291,0,0),(0,296,0,0),(0,297,0,0),(0,302,0,0),(0,307,0,0),(0,312,0,0),(0,317,0,0),(0,318,0,1),(0,320,0,0),(0,322,0,1)]
def bR_H33 : List (Nat × Nat × Nat × Nat) := [(0,14,0,0),(0,40,0,0),(0,67,0,1),(0,104,0,0),(0,115,0,0),(0,142,0,0),(0,153,0,0),(0,180,0,0),(0,191,0,0),(0,218,0,0),(0,229,0,0),(0,256,0,0),(0,263,0,0),(0,264,0,0),(0,269,0,0),(0,270,0,0),(0,275,0,0),(0,280,0,0),(0,281,0,0),(0,286,0,0),(0,291,0,0),(0,296,0,0),(0,297,0,0),(0,302,0,0),(0,307,0,0),(0,312,0,0),(0,317,0,0),(0,318,0,1),(0,320,0,0),(0,322,0,0),(0,325,0,0),(0,349,0,1),(0,357,0,0),(0,381,0,1),(0,389,0,0),(0,413,0,1),(0,421,0,0),(0,445,0,1),(0,453,0,0),(0,477,0,1),(0,485,0,0),(0,491,0,0),(0,494,0,0),(0,497,0,1),(0,650,0,1)]
def bR_M33 : Memo := [(21,[qA [0,1,2,3,4,5],qA [261,262,43]],(false,[(false,[.inr (0,7,477,0,0)])])),(21,[qA [0,1,2,3,4,5],qA [223,224,43]],(false,[(false,[.inr (0,7,445,0,0)])])),(21,[qA [0,1,2,3,4,5],qA [185,186,43]],(false,[(false,[.inr (0,7,413,0,0)])])),(21,[qA [0,1,2,3,4,5],qA [147,148,43]],(false,[(false,[.inr (0,7,381,0,0)])])),(21,[qA [0,1,2,3,4,5],qA [109,110,43]],(false,[(false,[.inr (0,7,349,0,0)])])),(21,[qA [0,1,2,3,4,5],qA [41,42,43]],(false,[(false,[.inr (0,7,67,0,0)])])),(14,[pA [0,1,2,3,4,5]],(true,[(true,[.inr (0,1,0,0,0),.inr (0,2,0,0,0),.inr (0,3,0,0,0),.inr (0,1,1,0,0),.inr (0,2,1,0,0),.inr (0,3,1,0,0),.inr (0,1,2,0,0),.inr (0,2,2,0,0),.inr (0,3,2,0,0),.inr (0,1,3,0,0),.inr (0,2,3,0,0),.inr (0,3,3,0,0),.inr (0,1,4,0,0),.inr (0,2,4,0,0),.inr (0,3,4,0,0),.inr (0,1,5,0,0),.inr (0,2,5,0,0),.inr (0,3,5,0,0)]),(false,[.inl (.int .i64 (0))])]))] ++ (bR_O :: bR_G)
theorem bR_m33_0 : memoOne (sx Tryz.prog bR_N bR_H33 [] bR_L bR_C bR_Z (prC [6])) bR_cs 4 (bR_M33.drop 0)=true := by kernel_rfl
theorem bR_m33_1 : memoOne (sx Tryz.prog bR_N bR_H33 [] bR_L bR_C bR_Z (prC [6])) bR_cs 4 (bR_M33.drop 1)=true := by kernel_rfl
theorem bR_m33_2 : memoOne (sx Tryz.prog bR_N bR_H33 [] bR_L bR_C bR_Z (prC [6])) bR_cs 4 (bR_M33.drop 2)=true := by kernel_rfl
theorem bR_m33_3 : memoOne (sx Tryz.prog bR_N bR_H33 [] bR_L bR_C bR_Z (prC [6])) bR_cs 4 (bR_M33.drop 3)=true := by kernel_rfl
theorem bR_m33_4 : memoOne (sx Tryz.prog bR_N bR_H33 [] bR_L bR_C bR_Z (prC [6])) bR_cs 4 (bR_M33.drop 4)=true := by kernel_rfl
theorem bR_m33_5 : memoOne (sx Tryz.prog bR_N bR_H33 [] bR_L bR_C bR_Z (prC [6])) bR_cs 4 (bR_M33.drop 5)=true := by kernel_rfl
theorem bR_m33_6 : memoOne (sx Tryz.prog bR_N bR_H33 [] bR_L bR_C bR_Z (prC [6])) bR_cs 5 (bR_M33.drop 6)=true := by kernel_rfl
theorem bR_memo33 {q : Nat→Rat} {σ : Nat→ByteArray} {w : World} (hσ : ∀ j,(σ j).size≤1048576) (hq : ∀ (a : Nat) nd,bR_N[a]? = some nd→q a=valN σ q nd) (h0 : ∀ a,bR_N.length≤a→q a=0) (hH : hAll q bR_H33) (hp : PreS w) (hK : MemoAll bR_N bR_L bR_C bR_Z q σ [6] w [bR_O]) : MemoAll bR_N bR_L bR_C bR_Z q σ [6] w bR_M33 := by
 have Y : Hy bR_N bR_H33 bR_L bR_C bR_Z q σ := hy_ofA hσ bR_wf bR_sz bR_lt bR_cn hq h0 hH
 have hc : ∀ f ∈ ([6] : List FuncId),Closed f := by simp [closed_coned]
 have hm : (Tryz.prog).follows .mixedOrders=true := by kernel_rfl
 exact (memoAll_drop Y hc hm hp bR_m33_0 (memoAll_drop Y hc hm hp bR_m33_1 (memoAll_drop Y hc hm hp bR_m33_2 (memoAll_drop Y hc hm hp bR_m33_3 (memoAll_drop Y hc hm hp bR_m33_4 (memoAll_drop Y hc hm hp bR_m33_5 (memoAll_drop Y hc hm hp bR_m33_6 (memo_con hK (bR_memoG hσ hq h0 hp)))))))))
def bR_H34 : List (Nat × Nat × Nat × Nat) := [(0,14,0,0),(0,40,0,0),(0,67,0,1),(0,104,0,0),(0,115,0,0),(0,142,0,0),(0,153,0,0),(0,180,0,0),(0,191,0,0),(0,218,0,0),(0,229,0,0),(0,256,0,0),(0,263,0,0),(0,264,0,0),(0,269,0,0),(0,270,0,0),(0,275,0,0),(0,280,0,0),(0,281,0,0),(0,286,0,0),(0,291,0,0),(0,296,0,0),(0,297,0,0),(0,302,0,0),(0,307,0,0),(0,312,0,0),(0,317,0,0),(0,318,0,1),(0,320,0,0),(0,322,0,0),(0,325,0,0),(0,349,0,1),(0,357,0,0),(0,381,0,1),(0,389,0,0),(0,413,0,1),(0,421,0,0),(0,445,0,1),(0,453,0,0),(0,477,0,1),(0,485,0,0),(0,491,0,0),(0,494,0,0),(0,497,0,1),(0,650,0,0)]
def bR_M34 : Memo := [(21,[qA [0,1,2,3,4,5],qA [261,262,43]],(false,[(false,[.inr (0,7,477,0,0)])])),(21,[qA [0,1,2,3,4,5],qA [223,224,43]],(false,[(false,[.inr (0,7,445,0,0)])])),(21,[qA [0,1,2,3,4,5],qA [185,186,43]],(false,[(false,[.inr (0,7,413,0,0)])])),(21,[qA [0,1,2,3,4,5],qA [147,148,43]],(false,[(false,[.inr (0,7,381,0,0)])])),(21,[qA [0,1,2,3,4,5],qA [109,110,43]],(false,[(false,[.inr (0,7,349,0,0)])])),(21,[qA [0,1,2,3,4,5],qA [41,42,43]],(false,[(false,[.inr (0,7,67,0,0)])])),(14,[pA [0,1,2,3,4,5]],(true,[(true,[.inr (0,1,0,0,0),.inr (0,2,0,0,0),.inr (0,3,0,0,0),.inr (0,1,1,0,0),.inr (0,2,1,0,0),.inr (0,3,1,0,0),.inr (0,1,2,0,0),.inr (0,2,2,0,0),.inr (0,3,2,0,0),.inr (0,1,3,0,0),.inr (0,2,3,0,0),.inr (0,3,3,0,0),.inr (0,1,4,0,0),.inr (0,2,4,0,0),.inr (0,3,4,0,0),.inr (0,1,5,0,0),.inr (0,2,5,0,0),.inr (0,3,5,0,0)]),(false,[.inl (.int .i64 (0))])]))] ++ (bR_O :: bR_G)
theorem bR_m34_0 : memoOne (sx Tryz.prog bR_N bR_H34 [] bR_L bR_C bR_Z (prC [6])) bR_cs 4 (bR_M34.drop 0)=true := by kernel_rfl
theorem bR_m34_1 : memoOne (sx Tryz.prog bR_N bR_H34 [] bR_L bR_C bR_Z (prC [6])) bR_cs 4 (bR_M34.drop 1)=true := by kernel_rfl
theorem bR_m34_2 : memoOne (sx Tryz.prog bR_N bR_H34 [] bR_L bR_C bR_Z (prC [6])) bR_cs 4 (bR_M34.drop 2)=true := by kernel_rfl
theorem bR_m34_3 : memoOne (sx Tryz.prog bR_N bR_H34 [] bR_L bR_C bR_Z (prC [6])) bR_cs 4 (bR_M34.drop 3)=true := by kernel_rfl
theorem bR_m34_4 : memoOne (sx Tryz.prog bR_N bR_H34 [] bR_L bR_C bR_Z (prC [6])) bR_cs 4 (bR_M34.drop 4)=true := by kernel_rfl
theorem bR_m34_5 : memoOne (sx Tryz.prog bR_N bR_H34 [] bR_L bR_C bR_Z (prC [6])) bR_cs 4 (bR_M34.drop 5)=true := by kernel_rfl
theorem bR_m34_6 : memoOne (sx Tryz.prog bR_N bR_H34 [] bR_L bR_C bR_Z (prC [6])) bR_cs 5 (bR_M34.drop 6)=true := by kernel_rfl
theorem bR_memo34 {q : Nat→Rat} {σ : Nat→ByteArray} {w : World} (hσ : ∀ j,(σ j).size≤1048576) (hq : ∀ (a : Nat) nd,bR_N[a]? = some nd→q a=valN σ q nd) (h0 : ∀ a,bR_N.length≤a→q a=0) (hH : hAll q bR_H34) (hp : PreS w) (hK : MemoAll bR_N bR_L bR_C bR_Z q σ [6] w [bR_O]) : MemoAll bR_N bR_L bR_C bR_Z q σ [6] w bR_M34 := by
 have Y : Hy bR_N bR_H34 bR_L bR_C bR_Z q σ := hy_ofA hσ bR_wf bR_sz bR_lt bR_cn hq h0 hH
 have hc : ∀ f ∈ ([6] : List FuncId),Closed f := by simp [closed_coned]
 have hm : (Tryz.prog).follows .mixedOrders=true := by kernel_rfl
 exact (memoAll_drop Y hc hm hp bR_m34_0 (memoAll_drop Y hc hm hp bR_m34_1 (memoAll_drop Y hc hm hp bR_m34_2 (memoAll_drop Y hc hm hp bR_m34_3 (memoAll_drop Y hc hm hp bR_m34_4 (memoAll_drop Y hc hm hp bR_m34_5 (memoAll_drop Y hc hm hp bR_m34_6 (memo_con hK (bR_memoG hσ hq h0 hp)))))))))
def bR_H35 : List (Nat × Nat × Nat × Nat) := [(0,14,0,0),(0,40,0,0),(0,67,0,1),(0,104,0,0),(0,115,0,0),(0,142,0,0),(0,153,0,0),(0,180,0,0),(0,191,0,0),(0,218,0,0),(0,229,0,0),(0,256,0,0),(0,263,0,0),(0,264,0,0),(0,269,0,0),(0,270,0,0),(0,275,0,0),(0,280,0,0),(0,281,0,0),(0,286,0,0),(0,291,0,0),(0,296,0,0),(0,297,0,0),(0,302,0,0),(0,307,0,0),(0,312,0,0),(0,317,0,0),(0,318,0,1),(0,320,0,0),(0,322,0,0),(0,325,0,0),(0,349,0,1),(0,357,0,0),(0,381,0,1),(0,389,0,0),(0,413,0,1),(0,421,0,0),(0,445,0,1),(0,453,0,0),(0,477,0,1),(0,485,0,0),(0,491,0,0),(0,494,0,0),(0,497,0,0),(0,509,0,0),(0,512,0,1),(0,647,0,0)]
def bR_M35 : Memo := [(21,[qA [0,1,2,3,4,5],qA [261,262,43]],(false,[(false,[.inr (0,7,477,0,0)])])),(21,[qA [0,1,2,3,4,5],qA [223,224,43]],(false,[(false,[.inr (0,7,445,0,0)])])),(21,[qA [0,1,2,3,4,5],qA [185,186,43]],(false,[(false,[.inr (0,7,413,0,0)])])),(21,[qA [0,1,2,3,4,5],qA [147,148,43]],(false,[(false,[.inr (0,7,381,0,0)])])),(21,[qA [0,1,2,3,4,5],qA [109,110,43]],(false,[(false,[.inr (0,7,349,0,0)])])),(21,[qA [0,1,2,3,4,5],qA [41,42,43]],(false,[(false,[.inr (0,7,67,0,0)])])),(14,[pA [0,1,2,3,4,5]],(true,[(true,[.inr (0,1,0,0,0),.inr (0,2,0,0,0),.inr (0,3,0,0,0),.inr (0,1,1,0,0),.inr (0,2,1,0,0),.inr (0,3,1,0,0),.inr (0,1,2,0,0),.inr (0,2,2,0,0),.inr (0,3,2,0,0),.inr (0,1,3,0,0),.inr (0,2,3,0,0),.inr (0,3,3,0,0),.inr (0,1,4,0,0),.inr (0,2,4,0,0),.inr (0,3,4,0,0),.inr (0,1,5,0,0),.inr (0,2,5,0,0),.inr (0,3,5,0,0)]),(false,[.inl (.int .i64 (0))])]))] ++ (bR_O :: bR_G)
theorem bR_m35_0 : memoOne (sx Tryz.prog bR_N bR_H35 [] bR_L bR_C bR_Z (prC [6])) bR_cs 4 (bR_M35.drop 0)=true := by kernel_rfl
theorem bR_m35_1 : memoOne (sx Tryz.prog bR_N bR_H35 [] bR_L bR_C bR_Z (prC [6])) bR_cs 4 (bR_M35.drop 1)=true := by kernel_rfl
theorem bR_m35_2 : memoOne (sx Tryz.prog bR_N bR_H35 [] bR_L bR_C bR_Z (prC [6])) bR_cs 4 (bR_M35.drop 2)=true := by kernel_rfl
theorem bR_m35_3 : memoOne (sx Tryz.prog bR_N bR_H35 [] bR_L bR_C bR_Z (prC [6])) bR_cs 4 (bR_M35.drop 3)=true := by kernel_rfl
theorem bR_m35_4 : memoOne (sx Tryz.prog bR_N bR_H35 [] bR_L bR_C bR_Z (prC [6])) bR_cs 4 (bR_M35.drop 4)=true := by kernel_rfl
theorem bR_m35_5 : memoOne (sx Tryz.prog bR_N bR_H35 [] bR_L bR_C bR_Z (prC [6])) bR_cs 4 (bR_M35.drop 5)=true := by kernel_rfl
theorem bR_m35_6 : memoOne (sx Tryz.prog bR_N bR_H35 [] bR_L bR_C bR_Z (prC [6])) bR_cs 5 (bR_M35.drop 6)=true := by kernel_rfl
theorem bR_memo35 {q : Nat→Rat} {σ : Nat→ByteArray} {w : World} (hσ : ∀ j,(σ j).size≤1048576) (hq : ∀ (a : Nat) nd,bR_N[a]? = some nd→q a=valN σ q nd) (h0 : ∀ a,bR_N.length≤a→q a=0) (hH : hAll q bR_H35) (hp : PreS w) (hK : MemoAll bR_N bR_L bR_C bR_Z q σ [6] w [bR_O]) : MemoAll bR_N bR_L bR_C bR_Z q σ [6] w bR_M35 := by
 have Y : Hy bR_N bR_H35 bR_L bR_C bR_Z q σ := hy_ofA hσ bR_wf bR_sz bR_lt bR_cn hq h0 hH
 have hc : ∀ f ∈ ([6] : List FuncId),Closed f := by simp [closed_coned]
 have hm : (Tryz.prog).follows .mixedOrders=true := by kernel_rfl
 exact (memoAll_drop Y hc hm hp bR_m35_0 (memoAll_drop Y hc hm hp bR_m35_1 (memoAll_drop Y hc hm hp bR_m35_2 (memoAll_drop Y hc hm hp bR_m35_3 (memoAll_drop Y hc hm hp bR_m35_4 (memoAll_drop Y hc hm hp bR_m35_5 (memoAll_drop Y hc hm hp bR_m35_6 (memo_con hK (bR_memoG hσ hq h0 hp)))))))))
def bR_H36 : List (Nat × Nat × Nat × Nat) := [(0,14,0,0),(0,40,0,0),(0,67,0,1),(0,104,0,0),(0,115,0,0),(0,142,0,0),(0,153,0,0),(0,180,0,0),(0,191,0,0),(0,218,0,0),(0,229,0,0),(0,256,0,0),(0,263,0,0),(0,264,0,0),(0,269,0,0),(0,270,0,0),(0,275,0,0),(0,280,0,0),(0,281,0,0),(0,286,0,0),(0,291,0,0),(0,296,0,0),(0,297,0,0),(0,302,0,0),(0,307,0,0),(0,312,0,0),(0,317,0,0),(0,318,0,1),(0,320,0,0),(0,322,0,0),(0,325,0,0),(0,349,0,1),(0,357,0,0),(0,381,0,1),(0,389,0,0),(0,413,0,1),(0,421,0,0),(0,445,0,1),(0,453,0,0),(0,477,0,1),(0,485,0,0),(0,491,0,0),(0,494,0,0),(0,497,0,0),(0,509,0,0),(0,512,0,0),(0,524,0,0),(0,527,0,1),(0,644,0,0)]
def bR_M36 : Memo := [(21,[qA [0,1,2,3,4,5],qA [261,262,43]],(false,[(false,[.inr (0,7,477,0,0)])])),(21,[qA [0,1,2,3,4,5],qA [223,224,43]],(false,[(false,[.inr (0,7,445,0,0)])])),(21,[qA [0,1,2,3,4,5],qA [185,186,43]],(false,[(false,[.inr (0,7,413,0,0)])])),(21,[qA [0,1,2,3,4,5],qA [147,148,43]],(false,[(false,[.inr (0,7,381,0,0)])])),(21,[qA [0,1,2,3,4,5],qA [109,110,43]],(false,[(false,[.inr (0,7,349,0,0)])])),(21,[qA [0,1,2,3,4,5],qA [41,42,43]],(false,[(false,[.inr (0,7,67,0,0)])])),(14,[pA [0,1,2,3,4,5]],(true,[(true,[.inr (0,1,0,0,0),.inr (0,2,0,0,0),.inr (0,3,0,0,0),.inr (0,1,1,0,0),.inr (0,2,1,0,0),.inr (0,3,1,0,0),.inr (0,1,2,0,0),.inr (0,2,2,0,0),.inr (0,3,2,0,0),.inr (0,1,3,0,0),.inr (0,2,3,0,0),.inr (0,3,3,0,0),.inr (0,1,4,0,0),.inr (0,2,4,0,0),.inr (0,3,4,0,0),.inr (0,1,5,0,0),.inr (0,2,5,0,0),.inr (0,3,5,0,0)]),(false,[.inl (.int .i64 (0))])]))] ++ (bR_O :: bR_G)
theorem bR_m36_0 : memoOne (sx Tryz.prog bR_N bR_H36 [] bR_L bR_C bR_Z (prC [6])) bR_cs 4 (bR_M36.drop 0)=true := by kernel_rfl
theorem bR_m36_1 : memoOne (sx Tryz.prog bR_N bR_H36 [] bR_L bR_C bR_Z (prC [6])) bR_cs 4 (bR_M36.drop 1)=true := by kernel_rfl
theorem bR_m36_2 : memoOne (sx Tryz.prog bR_N bR_H36 [] bR_L bR_C bR_Z (prC [6])) bR_cs 4 (bR_M36.drop 2)=true := by kernel_rfl
theorem bR_m36_3 : memoOne (sx Tryz.prog bR_N bR_H36 [] bR_L bR_C bR_Z (prC [6])) bR_cs 4 (bR_M36.drop 3)=true := by kernel_rfl
theorem bR_m36_4 : memoOne (sx Tryz.prog bR_N bR_H36 [] bR_L bR_C bR_Z (prC [6])) bR_cs 4 (bR_M36.drop 4)=true := by kernel_rfl
theorem bR_m36_5 : memoOne (sx Tryz.prog bR_N bR_H36 [] bR_L bR_C bR_Z (prC [6])) bR_cs 4 (bR_M36.drop 5)=true := by kernel_rfl
theorem bR_m36_6 : memoOne (sx Tryz.prog bR_N bR_H36 [] bR_L bR_C bR_Z (prC [6])) bR_cs 5 (bR_M36.drop 6)=true := by kernel_rfl
theorem bR_memo36 {q : Nat→Rat} {σ : Nat→ByteArray} {w : World} (hσ : ∀ j,(σ j).size≤1048576) (hq : ∀ (a : Nat) nd,bR_N[a]? = some nd→q a=valN σ q nd) (h0 : ∀ a,bR_N.length≤a→q a=0) (hH : hAll q bR_H36) (hp : PreS w) (hK : MemoAll bR_N bR_L bR_C bR_Z q σ [6] w [bR_O]) : MemoAll bR_N bR_L bR_C bR_Z q σ [6] w bR_M36 := by
 have Y : Hy bR_N bR_H36 bR_L bR_C bR_Z q σ := hy_ofA hσ bR_wf bR_sz bR_lt bR_cn hq h0 hH
 have hc : ∀ f ∈ ([6] : List FuncId),Closed f := by simp [closed_coned]
 have hm : (Tryz.prog).follows .mixedOrders=true := by kernel_rfl
 exact (memoAll_drop Y hc hm hp bR_m36_0 (memoAll_drop Y hc hm hp bR_m36_1 (memoAll_drop Y hc hm hp bR_m36_2 (memoAll_drop Y hc hm hp bR_m36_3 (memoAll_drop Y hc hm hp bR_m36_4 (memoAll_drop Y hc hm hp bR_m36_5 (memoAll_drop Y hc hm hp bR_m36_6 (memo_con hK (bR_memoG hσ hq h0 hp)))))))))
def bR_H37 : List (Nat × Nat × Nat × Nat) := [(0,14,0,0),(0,40,0,0),(0,67,0,1),(0,104,0,0),(0,115,0,0),(0,142,0,0),(0,153,0,0),(0,180,0,0),(0,191,0,0),(0,218,0,0),(0,229,0,0),(0,256,0,0),(0,263,0,0),(0,264,0,0),(0,269,0,0),(0,270,0,0),(0,275,0,0),(0,280,0,0),(0,281,0,0),(0,286,0,0),(0,291,0,0),(0,296,0,0),(0,297,0,0),(0,302,0,0),(0,307,0,0),(0,312,0,0),(0,317,0,0),(0,318,0,1),(0,320,0,0),(0,322,0,0),(0,325,0,0),(0,349,0,1),(0,357,0,0),(0,381,0,1),(0,389,0,0),(0,413,0,1),(0,421,0,0),(0,445,0,1),(0,453,0,0),(0,477,0,1),(0,485,0,0),(0,491,0,0),(0,494,0,0),(0,497,0,0),(0,509,0,0),(0,512,0,0),(0,524,0,0),(0,527,0,0),(0,539,0,0),(0,542,0,1),(0,641,0,0)]
def bR_M37 : Memo := [(21,[qA [0,1,2,3,4,5],qA [261,262,43]],(false,[(false,[.inr (0,7,477,0,0)])])),(21,[qA [0,1,2,3,4,5],qA [223,224,43]],(false,[(false,[.inr (0,7,445,0,0)])])),(21,[qA [0,1,2,3,4,5],qA [185,186,43]],(false,[(false,[.inr (0,7,413,0,0)])])),(21,[qA [0,1,2,3,4,5],qA [147,148,43]],(false,[(false,[.inr (0,7,381,0,0)])])),(21,[qA [0,1,2,3,4,5],qA [109,110,43]],(false,[(false,[.inr (0,7,349,0,0)])])),(21,[qA [0,1,2,3,4,5],qA [41,42,43]],(false,[(false,[.inr (0,7,67,0,0)])])),(14,[pA [0,1,2,3,4,5]],(true,[(true,[.inr (0,1,0,0,0),.inr (0,2,0,0,0),.inr (0,3,0,0,0),.inr (0,1,1,0,0),.inr (0,2,1,0,0),.inr (0,3,1,0,0),.inr (0,1,2,0,0),.inr (0,2,2,0,0),.inr (0,3,2,0,0),.inr (0,1,3,0,0),.inr (0,2,3,0,0),.inr (0,3,3,0,0),.inr (0,1,4,0,0),.inr (0,2,4,0,0),.inr (0,3,4,0,0),.inr (0,1,5,0,0),.inr (0,2,5,0,0),.inr (0,3,5,0,0)]),(false,[.inl (.int .i64 (0))])]))] ++ (bR_O :: bR_G)
theorem bR_m37_0 : memoOne (sx Tryz.prog bR_N bR_H37 [] bR_L bR_C bR_Z (prC [6])) bR_cs 4 (bR_M37.drop 0)=true := by kernel_rfl
theorem bR_m37_1 : memoOne (sx Tryz.prog bR_N bR_H37 [] bR_L bR_C bR_Z (prC [6])) bR_cs 4 (bR_M37.drop 1)=true := by kernel_rfl
theorem bR_m37_2 : memoOne (sx Tryz.prog bR_N bR_H37 [] bR_L bR_C bR_Z (prC [6])) bR_cs 4 (bR_M37.drop 2)=true := by kernel_rfl
theorem bR_m37_3 : memoOne (sx Tryz.prog bR_N bR_H37 [] bR_L bR_C bR_Z (prC [6])) bR_cs 4 (bR_M37.drop 3)=true := by kernel_rfl
theorem bR_m37_4 : memoOne (sx Tryz.prog bR_N bR_H37 [] bR_L bR_C bR_Z (prC [6])) bR_cs 4 (bR_M37.drop 4)=true := by kernel_rfl
theorem bR_m37_5 : memoOne (sx Tryz.prog bR_N bR_H37 [] bR_L bR_C bR_Z (prC [6])) bR_cs 4 (bR_M37.drop 5)=true := by kernel_rfl
theorem bR_m37_6 : memoOne (sx Tryz.prog bR_N bR_H37 [] bR_L bR_C bR_Z (prC [6])) bR_cs 5 (bR_M37.drop 6)=true := by kernel_rfl
theorem bR_memo37 {q : Nat→Rat} {σ : Nat→ByteArray} {w : World} (hσ : ∀ j,(σ j).size≤1048576) (hq : ∀ (a : Nat) nd,bR_N[a]? = some nd→q a=valN σ q nd) (h0 : ∀ a,bR_N.length≤a→q a=0) (hH : hAll q bR_H37) (hp : PreS w) (hK : MemoAll bR_N bR_L bR_C bR_Z q σ [6] w [bR_O]) : MemoAll bR_N bR_L bR_C bR_Z q σ [6] w bR_M37 := by
 have Y : Hy bR_N bR_H37 bR_L bR_C bR_Z q σ := hy_ofA hσ bR_wf bR_sz bR_lt bR_cn hq h0 hH
 have hc : ∀ f ∈ ([6] : List FuncId),Closed f := by simp [closed_coned]
 have hm : (Tryz.prog).follows .mixedOrders=true := by kernel_rfl
 exact (memoAll_drop Y hc hm hp bR_m37_0 (memoAll_drop Y hc hm hp bR_m37_1 (memoAll_drop Y hc hm hp bR_m37_2 (memoAll_drop Y hc hm hp bR_m37_3 (memoAll_drop Y hc hm hp bR_m37_4 (memoAll_drop Y hc hm hp bR_m37_5 (memoAll_drop Y hc hm hp bR_m37_6 (memo_con hK (bR_memoG hσ hq h0 hp)))))))))
def bR_H38 : List (Nat × Nat × Nat × Nat) := [(0,14,0,0),(0,40,0,0),(0,67,0,1),(0,104,0,0),(0,115,0,0),(0,142,0,0),(0,153,0,0),(0,180,0,0),(0,191,0,0),(0,218,0,0),(0,229,0,0),(0,256,0,0),(0,263,0,0),(0,264,0,0),(0,269,0,0),(0,270,0,0),(0,275,0,0),(0,280,0,0),(0,281,0,0),(0,286,0,0),(0,291,0,0),(0,296,0,0),(0,297,0,0),(0,302,0,0),(0,307,0,0),(0,312,0,0),(0,317,0,0),(0,318,0,1),(0,320,0,0),(0,322,0,0),(0,325,0,0),(0,349,0,1),(0,357,0,0),(0,381,0,1),(0,389,0,0),(0,413,0,1),(0,421,0,0),(0,445,0,1),(0,453,0,0),(0,477,0,1),(0,485,0,0),(0,491,0,0),(0,494,0,0),(0,497,0,0),(0,509,0,0),(0,512,0,0),(0,524,0,0),(0,527,0,0),(0,539,0,0),(0,542,0,0),(0,554,0,0),(0,557,0,1),(0,638,0,0)]
def bR_M38 : Memo := [(21,[qA [0,1,2,3,4,5],qA [261,262,43]],(false,[(false,[.inr (0,7,477,0,0)])])),(21,[qA [0,1,2,3,4,5],qA [223,224,43]],(false,[(false,[.inr (0,7,445,0,0)])])),(21,[qA [0,1,2,3,4,5],qA [185,186,43]],(false,[(false,[.inr (0,7,413,0,0)])])),(21,[qA [0,1,2,3,4,5],qA [147,148,43]],(false,[(false,[.inr (0,7,381,0,0)])])),(21,[qA [0,1,2,3,4,5],qA [109,110,43]],(false,[(false,[.inr (0,7,349,0,0)])])),(21,[qA [0,1,2,3,4,5],qA [41,42,43]],(false,[(false,[.inr (0,7,67,0,0)])])),(14,[pA [0,1,2,3,4,5]],(true,[(true,[.inr (0,1,0,0,0),.inr (0,2,0,0,0),.inr (0,3,0,0,0),.inr (0,1,1,0,0),.inr (0,2,1,0,0),.inr (0,3,1,0,0),.inr (0,1,2,0,0),.inr (0,2,2,0,0),.inr (0,3,2,0,0),.inr (0,1,3,0,0),.inr (0,2,3,0,0),.inr (0,3,3,0,0),.inr (0,1,4,0,0),.inr (0,2,4,0,0),.inr (0,3,4,0,0),.inr (0,1,5,0,0),.inr (0,2,5,0,0),.inr (0,3,5,0,0)]),(false,[.inl (.int .i64 (0))])]))] ++ (bR_O :: bR_G)
theorem bR_m38_0 : memoOne (sx Tryz.prog bR_N bR_H38 [] bR_L bR_C bR_Z (prC [6])) bR_cs 4 (bR_M38.drop 0)=true := by kernel_rfl
theorem bR_m38_1 : memoOne (sx Tryz.prog bR_N bR_H38 [] bR_L bR_C bR_Z (prC [6])) bR_cs 4 (bR_M38.drop 1)=true := by kernel_rfl
theorem bR_m38_2 : memoOne (sx Tryz.prog bR_N bR_H38 [] bR_L bR_C bR_Z (prC [6])) bR_cs 4 (bR_M38.drop 2)=true := by kernel_rfl
theorem bR_m38_3 : memoOne (sx Tryz.prog bR_N bR_H38 [] bR_L bR_C bR_Z (prC [6])) bR_cs 4 (bR_M38.drop 3)=true := by kernel_rfl
theorem bR_m38_4 : memoOne (sx Tryz.prog bR_N bR_H38 [] bR_L bR_C bR_Z (prC [6])) bR_cs 4 (bR_M38.drop 4)=true := by kernel_rfl
theorem bR_m38_5 : memoOne (sx Tryz.prog bR_N bR_H38 [] bR_L bR_C bR_Z (prC [6])) bR_cs 4 (bR_M38.drop 5)=true := by kernel_rfl
theorem bR_m38_6 : memoOne (sx Tryz.prog bR_N bR_H38 [] bR_L bR_C bR_Z (prC [6])) bR_cs 5 (bR_M38.drop 6)=true := by kernel_rfl
theorem bR_memo38 {q : Nat→Rat} {σ : Nat→ByteArray} {w : World} (hσ : ∀ j,(σ j).size≤1048576) (hq : ∀ (a : Nat) nd,bR_N[a]? = some nd→q a=valN σ q nd) (h0 : ∀ a,bR_N.length≤a→q a=0) (hH : hAll q bR_H38) (hp : PreS w) (hK : MemoAll bR_N bR_L bR_C bR_Z q σ [6] w [bR_O]) : MemoAll bR_N bR_L bR_C bR_Z q σ [6] w bR_M38 := by
 have Y : Hy bR_N bR_H38 bR_L bR_C bR_Z q σ := hy_ofA hσ bR_wf bR_sz bR_lt bR_cn hq h0 hH
 have hc : ∀ f ∈ ([6] : List FuncId),Closed f := by simp [closed_coned]
 have hm : (Tryz.prog).follows .mixedOrders=true := by kernel_rfl
 exact (memoAll_drop Y hc hm hp bR_m38_0 (memoAll_drop Y hc hm hp bR_m38_1 (memoAll_drop Y hc hm hp bR_m38_2 (memoAll_drop Y hc hm hp bR_m38_3 (memoAll_drop Y hc hm hp bR_m38_4 (memoAll_drop Y hc hm hp bR_m38_5 (memoAll_drop Y hc hm hp bR_m38_6 (memo_con hK (bR_memoG hσ hq h0 hp)))))))))
def bR_H39 : List (Nat × Nat × Nat × Nat) := [(0,14,0,0),(0,40,0,0),(0,67,0,1),(0,104,0,0),(0,115,0,0),(0,142,0,0),(0,153,0,0),(0,180,0,0),(0,191,0,0),(0,218,0,0),(0,229,0,0),(0,256,0,0),(0,263,0,0),(0,264,0,0),(0,269,0,0),(0,270,0,0),(0,275,0,0),(0,280,0,0),(0,281,0,0),(0,286,0,0),(0,291,0,0),(0,296,0,0),(0,297,0,0),(0,302,0,0),(0,307,0,0),(0,312,0,0),(0,317,0,0),(0,318,0,1),(0,320,0,0),(0,322,0,0),(0,325,0,0),(0,349,0,1),(0,357,0,0),(0,381,0,1),(0,389,0,0),(0,413,0,1),(0,421,0,0),(0,445,0,1),(0,453,0,0),(0,477,0,1),(0,485,0,0),(0,491,0,0),(0,494,0,0),(0,497,0,0),(0,509,0,0),(0,512,0,0),(0,524,0,0),(0,527,0,0),(0,539,0,0),(0,542,0,0),(0,554,0,0),(0,557,0,0),(0,569,0,1),(0,635,0,1)]
def bR_M39 : Memo := [(21,[qA [0,1,2,3,4,5],qA [261,262,43]],(false,[(false,[.inr (0,7,477,0,0)])])),(21,[qA [0,1,2,3,4,5],qA [223,224,43]],(false,[(false,[.inr (0,7,445,0,0)])])),(21,[qA [0,1,2,3,4,5],qA [185,186,43]],(false,[(false,[.inr (0,7,413,0,0)])])),(21,[qA [0,1,2,3,4,5],qA [147,148,43]],(false,[(false,[.inr (0,7,381,0,0)])])),(21,[qA [0,1,2,3,4,5],qA [109,110,43]],(false,[(false,[.inr (0,7,349,0,0)])])),(21,[qA [0,1,2,3,4,5],qA [41,42,43]],(false,[(false,[.inr (0,7,67,0,0)])])),(14,[pA [0,1,2,3,4,5]],(true,[(true,[.inr (0,1,0,0,0),.inr (0,2,0,0,0),.inr (0,3,0,0,0),.inr (0,1,1,0,0),.inr (0,2,1,0,0),.inr (0,3,1,0,0),.inr (0,1,2,0,0),.inr (0,2,2,0,0),.inr (0,3,2,0,0),.inr (0,1,3,0,0),.inr (0,2,3,0,0),.inr (0,3,3,0,0),.inr (0,1,4,0,0),.inr (0,2,4,0,0),.inr (0,3,4,0,0),.inr (0,1,5,0,0),.inr (0,2,5,0,0),.inr (0,3,5,0,0)]),(false,[.inl (.int .i64 (0))])]))] ++ (bR_O :: bR_G)
theorem bR_m39_0 : memoOne (sx Tryz.prog bR_N bR_H39 [] bR_L bR_C bR_Z (prC [6])) bR_cs 4 (bR_M39.drop 0)=true := by kernel_rfl
theorem bR_m39_1 : memoOne (sx Tryz.prog bR_N bR_H39 [] bR_L bR_C bR_Z (prC [6])) bR_cs 4 (bR_M39.drop 1)=true := by kernel_rfl
theorem bR_m39_2 : memoOne (sx Tryz.prog bR_N bR_H39 [] bR_L bR_C bR_Z (prC [6])) bR_cs 4 (bR_M39.drop 2)=true := by kernel_rfl
theorem bR_m39_3 : memoOne (sx Tryz.prog bR_N bR_H39 [] bR_L bR_C bR_Z (prC [6])) bR_cs 4 (bR_M39.drop 3)=true := by kernel_rfl
theorem bR_m39_4 : memoOne (sx Tryz.prog bR_N bR_H39 [] bR_L bR_C bR_Z (prC [6])) bR_cs 4 (bR_M39.drop 4)=true := by kernel_rfl
theorem bR_m39_5 : memoOne (sx Tryz.prog bR_N bR_H39 [] bR_L bR_C bR_Z (prC [6])) bR_cs 4 (bR_M39.drop 5)=true := by kernel_rfl
theorem bR_m39_6 : memoOne (sx Tryz.prog bR_N bR_H39 [] bR_L bR_C bR_Z (prC [6])) bR_cs 5 (bR_M39.drop 6)=true := by kernel_rfl
theorem bR_memo39 {q : Nat→Rat} {σ : Nat→ByteArray} {w : World} (hσ : ∀ j,(σ j).size≤1048576) (hq : ∀ (a : Nat) nd,bR_N[a]? = some nd→q a=valN σ q nd) (h0 : ∀ a,bR_N.length≤a→q a=0) (hH : hAll q bR_H39) (hp : PreS w) (hK : MemoAll bR_N bR_L bR_C bR_Z q σ [6] w [bR_O]) : MemoAll bR_N bR_L bR_C bR_Z q σ [6] w bR_M39 := by
 have Y : Hy bR_N bR_H39 bR_L bR_C bR_Z q σ := hy_ofA hσ bR_wf bR_sz bR_lt bR_cn hq h0 hH
 have hc : ∀ f ∈ ([6] : List FuncId),Closed f := by simp [closed_coned]
 have hm : (Tryz.prog).follows .mixedOrders=true := by kernel_rfl
 exact (memoAll_drop Y hc hm hp bR_m39_0 (memoAll_drop Y hc hm hp bR_m39_1 (memoAll_drop Y hc hm hp bR_m39_2 (memoAll_drop Y hc hm hp bR_m39_3 (memoAll_drop Y hc hm hp bR_m39_4 (memoAll_drop Y hc hm hp bR_m39_5 (memoAll_drop Y hc hm hp bR_m39_6 (memo_con hK (bR_memoG hσ hq h0 hp)))))))))
def bR_H40 : List (Nat × Nat × Nat × Nat) := [(0,14,0,0),(0,40,0,0),(0,67,0,1),(0,104,0,0),(0,115,0,0),(0,142,0,0),(0,153,0,0),(0,180,0,0),(0,191,0,0),(0,218,0,0),(0,229,0,0),(0,256,0,0),(0,263,0,0),(0,264,0,0),(0,269,0,0),(0,270,0,0),(0,275,0,0),(0,280,0,0),(0,281,0,0),(0,286,0,0),(0,291,0,0),(0,296,0,0),(0,297,0,0),(0,302,0,0),(0,307,0,0),(0,312,0,0),(0,317,0,0),(0,318,0,1),(0,320,0,0),(0,322,0,0),(0,325,0,0),(0,349,0,1),(0,357,0,0),(0,381,0,1),(0,389,0,0),(0,413,0,1),(0,421,0,0),(0,445,0,1),(0,453,0,0),(0,477,0,1),(0,485,0,0),(0,491,0,0),(0,494,0,0),(0,497,0,0),(0,509,0,0),(0,512,0,0),(0,524,0,0),(0,527,0,0),(0,539,0,0),(0,542,0,0),(0,554,0,0),(0,557,0,0),(0,569,0,1),(0,635,0,0)]
def bR_M40 : Memo := [(21,[qA [0,1,2,3,4,5],qA [261,262,43]],(false,[(false,[.inr (0,7,477,0,0)])])),(21,[qA [0,1,2,3,4,5],qA [223,224,43]],(false,[(false,[.inr (0,7,445,0,0)])])),(21,[qA [0,1,2,3,4,5],qA [185,186,43]],(false,[(false,[.inr (0,7,413,0,0)])])),(21,[qA [0,1,2,3,4,5],qA [147,148,43]],(false,[(false,[.inr (0,7,381,0,0)])])),(21,[qA [0,1,2,3,4,5],qA [109,110,43]],(false,[(false,[.inr (0,7,349,0,0)])])),(21,[qA [0,1,2,3,4,5],qA [41,42,43]],(false,[(false,[.inr (0,7,67,0,0)])])),(14,[pA [0,1,2,3,4,5]],(true,[(true,[.inr (0,1,0,0,0),.inr (0,2,0,0,0),.inr (0,3,0,0,0),.inr (0,1,1,0,0),.inr (0,2,1,0,0),.inr (0,3,1,0,0),.inr (0,1,2,0,0),.inr (0,2,2,0,0),.inr (0,3,2,0,0),.inr (0,1,3,0,0),.inr (0,2,3,0,0),.inr (0,3,3,0,0),.inr (0,1,4,0,0),.inr (0,2,4,0,0),.inr (0,3,4,0,0),.inr (0,1,5,0,0),.inr (0,2,5,0,0),.inr (0,3,5,0,0)]),(false,[.inl (.int .i64 (0))])]))] ++ (bR_O :: bR_G)
theorem bR_m40_0 : memoOne (sx Tryz.prog bR_N bR_H40 [] bR_L bR_C bR_Z (prC [6])) bR_cs 4 (bR_M40.drop 0)=true := by kernel_rfl
theorem bR_m40_1 : memoOne (sx Tryz.prog bR_N bR_H40 [] bR_L bR_C bR_Z (prC [6])) bR_cs 4 (bR_M40.drop 1)=true := by kernel_rfl
theorem bR_m40_2 : memoOne (sx Tryz.prog bR_N bR_H40 [] bR_L bR_C bR_Z (prC [6])) bR_cs 4 (bR_M40.drop 2)=true := by kernel_rfl
theorem bR_m40_3 : memoOne (sx Tryz.prog bR_N bR_H40 [] bR_L bR_C bR_Z (prC [6])) bR_cs 4 (bR_M40.drop 3)=true := by kernel_rfl
theorem bR_m40_4 : memoOne (sx Tryz.prog bR_N bR_H40 [] bR_L bR_C bR_Z (prC [6])) bR_cs 4 (bR_M40.drop 4)=true := by kernel_rfl
theorem bR_m40_5 : memoOne (sx Tryz.prog bR_N bR_H40 [] bR_L bR_C bR_Z (prC [6])) bR_cs 4 (bR_M40.drop 5)=true := by kernel_rfl
theorem bR_m40_6 : memoOne (sx Tryz.prog bR_N bR_H40 [] bR_L bR_C bR_Z (prC [6])) bR_cs 5 (bR_M40.drop 6)=true := by kernel_rfl
theorem bR_memo40 {q : Nat→Rat} {σ : Nat→ByteArray} {w : World} (hσ : ∀ j,(σ j).size≤1048576) (hq : ∀ (a : Nat) nd,bR_N[a]? = some nd→q a=valN σ q nd) (h0 : ∀ a,bR_N.length≤a→q a=0) (hH : hAll q bR_H40) (hp : PreS w) (hK : MemoAll bR_N bR_L bR_C bR_Z q σ [6] w [bR_O]) : MemoAll bR_N bR_L bR_C bR_Z q σ [6] w bR_M40 := by
 have Y : Hy bR_N bR_H40 bR_L bR_C bR_Z q σ := hy_ofA hσ bR_wf bR_sz bR_lt bR_cn hq h0 hH
 have hc : ∀ f ∈ ([6] : List FuncId),Closed f := by simp [closed_coned]
 have hm : (Tryz.prog).follows .mixedOrders=true := by kernel_rfl
 exact (memoAll_drop Y hc hm hp bR_m40_0 (memoAll_drop Y hc hm hp bR_m40_1 (memoAll_drop Y hc hm hp bR_m40_2 (memoAll_drop Y hc hm hp bR_m40_3 (memoAll_drop Y hc hm hp bR_m40_4 (memoAll_drop Y hc hm hp bR_m40_5 (memoAll_drop Y hc hm hp bR_m40_6 (memo_con hK (bR_memoG hσ hq h0 hp)))))))))
def bR_H41 : List (Nat × Nat × Nat × Nat) := [(0,14,0,0),(0,40,0,0),(0,67,0,1),(0,104,0,0),(0,115,0,0),(0,142,0,0),(0,153,0,0),(0,180,0,0),(0,191,0,0),(0,218,0,0),(0,229,0,0),(0,256,0,0),(0,263,0,0),(0,264,0,0),(0,269,0,0),(0,270,0,0),(0,275,0,0),(0,280,0,0),(0,281,0,0),(0,286,0,0),(0,291,0,0),(0,296,0,0),(0,297,0,0),(0,302,0,0),(0,307,0,0),(0,312,0,0),(0,317,0,0),(0,318,0,1),(0,320,0,0),(0,322,0,0),(0,325,0,0),(0,349,0,1),(0,357,0,0),(0,381,0,1),(0,389,0,0),(0,413,0,1),(0,421,0,0),(0,445,0,1),(0,453,0,0),(0,477,0,1),(0,485,0,0),(0,491,0,0),(0,494,0,0),(0,497,0,0),(0,509,0,0),(0,512,0,0),(0,524,0,0),(0,527,0,0),(0,539,0,0),(0,542,0,0),(0,554,0,0),(0,557,0,0),(0,569,0,0),(0,584,0,0),(0,597,0,0),(0,610,0,0),(0,632,0,1)]
def bR_M41 : Memo := [(21,[qA [0,1,2,3,4,5],qA [261,262,43]],(false,[(false,[.inr (0,7,477,0,0)])])),(21,[qA [0,1,2,3,4,5],qA [223,224,43]],(false,[(false,[.inr (0,7,445,0,0)])])),(21,[qA [0,1,2,3,4,5],qA [185,186,43]],(false,[(false,[.inr (0,7,413,0,0)])])),(21,[qA [0,1,2,3,4,5],qA [147,148,43]],(false,[(false,[.inr (0,7,381,0,0)])])),(21,[qA [0,1,2,3,4,5],qA [109,110,43]],(false,[(false,[.inr (0,7,349,0,0)])])),(21,[qA [0,1,2,3,4,5],qA [41,42,43]],(false,[(false,[.inr (0,7,67,0,0)])])),(14,[pA [0,1,2,3,4,5]],(true,[(true,[.inr (0,1,0,0,0),.inr (0,2,0,0,0),.inr (0,3,0,0,0),.inr (0,1,1,0,0),.inr (0,2,1,0,0),.inr (0,3,1,0,0),.inr (0,1,2,0,0),.inr (0,2,2,0,0),.inr (0,3,2,0,0),.inr (0,1,3,0,0),.inr (0,2,3,0,0),.inr (0,3,3,0,0),.inr (0,1,4,0,0),.inr (0,2,4,0,0),.inr (0,3,4,0,0),.inr (0,1,5,0,0),.inr (0,2,5,0,0),.inr (0,3,5,0,0)]),(false,[.inl (.int .i64 (0))])]))] ++ (bR_O :: bR_G)
theorem bR_m41_0 : memoOne (sx Tryz.prog bR_N bR_H41 [] bR_L bR_C bR_Z (prC [6])) bR_cs 4 (bR_M41.drop 0)=true := by kernel_rfl
theorem bR_m41_1 : memoOne (sx Tryz.prog bR_N bR_H41 [] bR_L bR_C bR_Z (prC [6])) bR_cs 4 (bR_M41.drop 1)=true := by kernel_rfl
theorem bR_m41_2 : memoOne (sx Tryz.prog bR_N bR_H41 [] bR_L bR_C bR_Z (prC [6])) bR_cs 4 (bR_M41.drop 2)=true := by kernel_rfl
theorem bR_m41_3 : memoOne (sx Tryz.prog bR_N bR_H41 [] bR_L bR_C bR_Z (prC [6])) bR_cs 4 (bR_M41.drop 3)=true := by kernel_rfl
theorem bR_m41_4 : memoOne (sx Tryz.prog bR_N bR_H41 [] bR_L bR_C bR_Z (prC [6])) bR_cs 4 (bR_M41.drop 4)=true := by kernel_rfl
theorem bR_m41_5 : memoOne (sx Tryz.prog bR_N bR_H41 [] bR_L bR_C bR_Z (prC [6])) bR_cs 4 (bR_M41.drop 5)=true := by kernel_rfl
theorem bR_m41_6 : memoOne (sx Tryz.prog bR_N bR_H41 [] bR_L bR_C bR_Z (prC [6])) bR_cs 5 (bR_M41.drop 6)=true := by kernel_rfl
theorem bR_memo41 {q : Nat→Rat} {σ : Nat→ByteArray} {w : World} (hσ : ∀ j,(σ j).size≤1048576) (hq : ∀ (a : Nat) nd,bR_N[a]? = some nd→q a=valN σ q nd) (h0 : ∀ a,bR_N.length≤a→q a=0) (hH : hAll q bR_H41) (hp : PreS w) (hK : MemoAll bR_N bR_L bR_C bR_Z q σ [6] w [bR_O]) : MemoAll bR_N bR_L bR_C bR_Z q σ [6] w bR_M41 := by
 have Y : Hy bR_N bR_H41 bR_L bR_C bR_Z q σ := hy_ofA hσ bR_wf bR_sz bR_lt bR_cn hq h0 hH
 have hc : ∀ f ∈ ([6] : List FuncId),Closed f := by simp [closed_coned]
 have hm : (Tryz.prog).follows .mixedOrders=true := by kernel_rfl
 exact (memoAll_drop Y hc hm hp bR_m41_0 (memoAll_drop Y hc hm hp bR_m41_1 (memoAll_drop Y hc hm hp bR_m41_2 (memoAll_drop Y hc hm hp bR_m41_3 (memoAll_drop Y hc hm hp bR_m41_4 (memoAll_drop Y hc hm hp bR_m41_5 (memoAll_drop Y hc hm hp bR_m41_6 (memo_con hK (bR_memoG hσ hq h0 hp)))))))))
def bR_H42 : List (Nat × Nat × Nat × Nat) := [(0,14,0,0),(0,40,0,0),(0,67,0,0)]
def bR_KH0 : List (Nat × Nat × Nat × Nat) := [(0,14,0,0),(0,33,0,0),(1,26,0,0),(0,26,0,0),(2,35,0,0)]
theorem bR_k0 : memoOne (sx Tryz.prog bR_N bR_KH0 [] bR_L bR_C bR_Z (prC [6])) bR_cs 60 [(5,[(false,[(true,[.inr (2,0,0,0,0),.inr (2,1,0,0,0),.inr (2,2,0,0,0),.inr (2,3,0,0,0),.inr (2,4,0,0,0),.inr (2,5,0,0,0)])])],(true,[(false,[.inl (.int .i64 (1))]),(false,[.inl (.int .i64 (0))])]))]=true := by kernel_rfl
def bR_KH1 : List (Nat × Nat × Nat × Nat) := [(0,14,0,0),(0,33,0,0),(1,26,0,0),(0,26,0,0),(2,35,0,1)]
theorem bR_k1 : memoOne (sx Tryz.prog bR_N bR_KH1 [] bR_L bR_C bR_Z (prC [6])) bR_cs 60 [(5,[(false,[(true,[.inr (2,0,0,0,0),.inr (2,1,0,0,0),.inr (2,2,0,0,0),.inr (2,3,0,0,0),.inr (2,4,0,0,0),.inr (2,5,0,0,0)])])],(true,[(false,[.inl (.int .i64 (6))]),(false,[.inl (.int .i64 (0))])]))]=true := by kernel_rfl
def bR_KH2 : List (Nat × Nat × Nat × Nat) := [(0,14,0,0),(0,33,0,0),(1,26,0,0),(0,26,0,1)]
theorem bR_k2 : memoOne (sx Tryz.prog bR_N bR_KH2 [] bR_L bR_C bR_Z (prC [6])) bR_cs 60 [(5,[(false,[(true,[.inr (2,0,0,0,0),.inr (2,1,0,0,0),.inr (2,2,0,0,0),.inr (2,3,0,0,0),.inr (2,4,0,0,0),.inr (2,5,0,0,0)])])],(true,[(false,[.inl (.int .i64 (3))]),(false,[.inl (.int .i64 (0))])]))]=true := by kernel_rfl
def bR_KH3 : List (Nat × Nat × Nat × Nat) := [(0,14,0,0),(0,33,0,0),(1,26,0,1)]
theorem bR_k3 : memoOne (sx Tryz.prog bR_N bR_KH3 [] bR_L bR_C bR_Z (prC [6])) bR_cs 60 [(5,[(false,[(true,[.inr (2,0,0,0,0),.inr (2,1,0,0,0),.inr (2,2,0,0,0),.inr (2,3,0,0,0),.inr (2,4,0,0,0),.inr (2,5,0,0,0)])])],(true,[(false,[.inl (.int .i64 (2))]),(false,[.inl (.int .i64 (0))])]))]=true := by kernel_rfl
def bR_KH4 : List (Nat × Nat × Nat × Nat) := [(0,14,0,0),(0,33,0,1),(0,26,0,0)]
theorem bR_k4 : memoOne (sx Tryz.prog bR_N bR_KH4 [] bR_L bR_C bR_Z (prC [6])) bR_cs 60 [(5,[(false,[(true,[.inr (2,0,0,0,0),.inr (2,1,0,0,0),.inr (2,2,0,0,0),.inr (2,3,0,0,0),.inr (2,4,0,0,0),.inr (2,5,0,0,0)])])],(true,[(false,[.inl (.int .i64 (4))]),(false,[.inl (.int .i64 (0))])]))]=true := by kernel_rfl
def bR_KH5 : List (Nat × Nat × Nat × Nat) := [(0,14,0,0),(0,33,0,1),(0,26,0,1)]
theorem bR_k5 : memoOne (sx Tryz.prog bR_N bR_KH5 [] bR_L bR_C bR_Z (prC [6])) bR_cs 60 [(5,[(false,[(true,[.inr (2,0,0,0,0),.inr (2,1,0,0,0),.inr (2,2,0,0,0),.inr (2,3,0,0,0),.inr (2,4,0,0,0),.inr (2,5,0,0,0)])])],(true,[(false,[.inl (.int .i64 (5))]),(false,[.inl (.int .i64 (0))])]))]=true := by kernel_rfl
def bR_KH6 : List (Nat × Nat × Nat × Nat) := [(0,14,0,1)]
theorem bR_k6 : memoOne (sx Tryz.prog bR_N bR_KH6 [] bR_L bR_C bR_Z (prC [6])) bR_cs 60 [(5,[(false,[(true,[.inr (2,0,0,0,0),.inr (2,1,0,0,0),.inr (2,2,0,0,0),.inr (2,3,0,0,0),.inr (2,4,0,0,0),.inr (2,5,0,0,0)])])],(true,[(false,[.inl (.int .i64 (0))]),(false,[.inl (.int .i64 (5))])]))]=true := by kernel_rfl
end Go.Proofs.YtgkjeoeliehihaaGreatDoor
