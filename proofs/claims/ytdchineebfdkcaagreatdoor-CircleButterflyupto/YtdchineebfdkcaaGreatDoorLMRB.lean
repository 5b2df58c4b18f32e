/- Part 13 of the walks and of the mathematics under them: VY VSZ CFrounded MRB. -/
import Derived.Test.YtdchineebfdkcaaGreatDoorA12
set_option maxHeartbeats 16000000
set_option maxRecDepth 100000
/- VY -/
namespace Go.Proofs.YtdchineebfdkcaaGreatDoor
open Go.RowKit Cx
theorem den_num (t : Rat) : t*(t.den : Rat)=((t.num : Int) : Rat) := by
 conv => lhs; lhs; rw [← Rat.mkRat_self t]
 have h0 : (t.den : Rat) ≠ 0 := fun h => t.den_nz (by exact_mod_cast h)
 rw [Rat.mkRat_eq_div,Rat.div_mul_cancel h0]
theorem whole {q : Rat} (h : q.den=1) : q=((q.num : Int) : Rat) := by
 have := den_num q
 rw [h] at this
 rw [← this]
 show q=q*((1 : Nat) : Rat)
 exact (Rat.mul_one q).symm
end Go.Proofs.YtdchineebfdkcaaGreatDoor
/- VSZ -/
namespace Go.Proofs.YtdchineebfdkcaaGreatDoor
open Go.RowKit Cx
def szW (Z : List Nat) (I : List Bool) (z : Nat) (b : Bool) (nd : Nd) : Bool := match nd.1,nd.2 with
 | 0,[_,n,d] => (Nat.blt n (2 ^ z) && (Nat.blt 0 d && Nat.blt d (2 ^ z))) && (!b || Nat.beq d 1)
 | 1,[_] => Nat.ble 3495259 z && !b
 | 2,[a,c] => (match Z[a]?,Z[c]?,I[a]?,I[c]? with
  | some x,some y,some true,some true => Nat.ble (Nat.max x y+1) z
  | some x,some y,_,_ => Nat.ble (x+y+1) z && !b
  | _,_,_,_ => false)
 | 3,[a,c] => (match Z[a]?,Z[c]?,I[a]?,I[c]? with
  | some x,some y,some true,some true => Nat.ble (Nat.max x y+1) z
  | some x,some y,_,_ => Nat.ble (x+y+1) z && !b
  | _,_,_,_ => false)
 | 4,[a,c] => (match Z[a]?,Z[c]?,I[a]?,I[c]? with
  | some x,some y,some true,some true => Nat.ble (x+y) z
  | some x,some y,_,_ => Nat.ble (x+y) z && !b
  | _,_,_,_ => false)
 | 5,[a] => (match Z[a]?,I[a]? with
  | some x,some true => Nat.ble x z
  | some x,_ => Nat.ble x z && !b
  | _,_ => false)
 | 6,[a,c] => (match Z[a]?,Z[c]? with
  | some x,some y => Nat.ble (x+y) z && !b
  | _,_ => false)
 | 8,i :: xs => (match getsO Z xs with
  | some zs => Nat.blt i xs.length && (Nat.ble ((xs.length+1)*maxL zs+1) z || (xs.all (fun a => match I[a]? with
   | some true => true
   | _ => false) && (match xs[i]? with
   | some a => (match Z[a]? with
    | some x => Nat.ble (x+1) z
    | none => false)
   | none => false)))
  | none => false)
 | _,_ => false
def szC (Z : List Nat) (I : List Bool) : List Nd→List Nat→List Bool→Bool
 | [],[],[] => true
 | nd :: ns,z :: zs,b :: bs => (szW Z I z b nd && Nat.ble z 1000000000000) && szC Z I ns zs bs
 | _,_,_ => false
theorem szC_get {Z : List Nat} {I : List Bool} : ∀ {ns : List Nd} {zs : List Nat} {bs : List Bool} {i z : Nat},szC Z I ns zs bs=true→zs[i]? = some z→∃ nd b,ns[i]? = some nd∧bs[i]? = some b∧szW Z I z b nd=true∧z≤1000000000000
 | [],[],[],_,_,_,h => by simp at h
 | [],[],_ :: _,_,_,h,_ => by cases h
 | [],_ :: _,_,_,_,h,_ => by cases h
 | _ :: _,[],_,_,_,h,_ => by cases h
 | _ :: _,_ :: _,[],_,_,h,_ => by cases h
 | nd :: ns,z' :: zs,b :: bs,0,z,h,e => by
  have : z'=z := by simpa using e
  subst this
  unfold szC at h
  simp only [Bool.and_eq_true,Nat.ble_eq] at h
  exact ⟨nd,b,rfl,rfl,h.1.1,h.1.2⟩
 | nd :: ns,z' :: zs,b :: bs,i+1,z,h,e => by
  unfold szC at h
  rw [Bool.and_eq_true] at h
  obtain ⟨nd2,b2,g1,g2,g3⟩ := szC_get (ns := ns) (zs := zs) (bs := bs) h.2 (show zs[i]? = some z by simpa using e)
  exact ⟨nd2,b2,by simpa using g1,by simpa using g2,g3⟩
theorem szC_len {Z : List Nat} {I : List Bool} : ∀ {ns : List Nd} {zs : List Nat} {bs : List Bool},szC Z I ns zs bs=true→ns.length=zs.length
 | [],[],[],_ => rfl
 | [],[],_ :: _,h => by cases h
 | [],_ :: _,_,h => by cases h
 | _ :: _,[],_,h => by cases h
 | _ :: _,_ :: _,[],h => by cases h
 | _ :: _,_ :: _,_ :: _,h => by
  unfold szC at h
  rw [Bool.and_eq_true] at h
  exact congrArg (· + 1) (szC_len h.2)
structure QW (z : Nat) (x : Rat) : Prop where
 qs : QS z x
 wh : x.den=1
theorem QW.of {z : Nat} {n : Int} (h : n.natAbs < 2 ^ z) (hz : 0 < z) : QW z ((n : Int) : Rat) :=
 ⟨⟨by simpa using h,by
  show ((n : Int) : Rat).den < 2 ^ z
  rw [Rat.den_intCast]
  exact Nat.one_lt_two_pow (by omega)⟩,Rat.den_intCast n⟩
theorem QW.mono {k l : Nat} {x : Rat} (h : QW k x) (hk : k≤l) : QW l x := ⟨h.qs.mono hk,h.wh⟩
theorem two_max {a b x y : Nat} (h1 : a < 2 ^ x) (h2 : b < 2 ^ y) : a+b < 2 ^ (Nat.max x y+1) := by
 have e1 : 2 ^ x≤2 ^ Nat.max x y := Nat.pow_le_pow_right (by decide) (Nat.le_max_left x y)
 have e2 : 2 ^ y≤2 ^ Nat.max x y := Nat.pow_le_pow_right (by decide) (Nat.le_max_right x y)
 rw [Nat.pow_succ]
 omega
theorem QW.add {x y : Nat} {a b : Rat} (h1 : QW x a) (h2 : QW y b) : QW (Nat.max x y+1) (a+b) := by
 rw [whole h1.wh,whole h2.wh,← Rat.intCast_add]
 refine QW.of ?_ (by omega)
 have := two_max h1.qs.num h2.qs.num
 omega
theorem QW.sub {x y : Nat} {a b : Rat} (h1 : QW x a) (h2 : QW y b) : QW (Nat.max x y+1) (a - b) := by
 rw [whole h1.wh,whole h2.wh,← Rat.intCast_sub]
 refine QW.of ?_ (by omega)
 have := two_max h1.qs.num h2.qs.num
 omega
theorem QW.mul {x y : Nat} {a b : Rat} (h1 : QW x a) (h2 : QW y b) : QW (x+y) (a*b) := by
 refine ⟨h1.qs.mul h2.qs,?_⟩
 rw [whole h1.wh,whole h2.wh,← Rat.intCast_mul]
 exact Rat.den_intCast _
theorem QW.neg {x : Nat} {a : Rat} (h1 : QW x a) : QW x (-a) := ⟨h1.qs.neg,h1.wh⟩
theorem lD_one : ∀ {qs : List Rat} {m : Nat},(∀ q ∈ qs,q.den=1)→qs.foldl (fun m q => m*(q.den / Nat.gcd m q.den)) m=m
 | [],_,_ => rfl
 | q :: qs,m,h => by
  rw [List.foldl_cons,h q List.mem_cons_self,Nat.gcd_one_right,Nat.div_self (by decide),Nat.mul_one]
  exact lD_one fun p hp => h p (List.mem_cons_of_mem _ hp)
theorem QW.fac {z : Nat} {qs : List Rat} {x : Rat} (hx : QS z x) (h : x ∈ qs) (hw : ∀ y ∈ qs,y.den=1) : QS (z+1) (x*fac qs) := by
 have hl : lD qs=1 := lD_one hw
 refine ⟨?_,?_⟩
 ·rw [fac_abs h,hl,hw x h,Nat.div_self (by decide),Nat.mul_one]
  exact Nat.lt_of_le_of_lt (Nat.div_le_self _ _) (Nat.lt_of_lt_of_le hx.num (Nat.pow_le_pow_right (by decide) (by omega)))
 ·rw [fac_den h]
  exact Nat.one_lt_two_pow (by omega)
theorem ten_three : ∀ n : Nat,10 ^ n≤2 ^ ((10*n+2) / 3)
 | 0 => by decide
 | 1 => by decide
 | 2 => by decide
 | n+3 => by
  have h := ten_three n
  have e : (10*(n+3)+2) / 3=(10*n+2) / 3+10 := by omega
  rw [e,Nat.pow_add,Nat.pow_add]
  exact Nat.mul_le_mul h (by decide)
theorem QS.rd3 (l : List UInt8) : QS ((10*l.length+2) / 3+5) (Cx.rd l) := by
 have key : ∀ {m : List UInt8},digs m=true→dv m < 2 ^ ((10*m.length+2) / 3) := fun {m} h => Nat.lt_of_lt_of_le (dv_lt (digs_all h)) (ten_three _)
 unfold Cx.rd
 split
 ·rename_i h
  rw [Bool.and_eq_true] at h
  have h1 := key h.1
  have h2 := key h.2
  have h3 := up_len (tailOf l)
  have h4 := low_len (tailOf l)
  have h5 := tail_len l
  apply QS.mkr
  ·rw [sg_abs]; exact Nat.lt_of_lt_of_le h1 (Nat.pow_le_pow_right (by decide) (by omega))
  ·exact Nat.lt_of_lt_of_le h2 (Nat.pow_le_pow_right (by decide) (by omega))
 ·exact QS.zero.mono (by omega)
section
variable {N : List Nd} {Z : List Nat} {I : List Bool} {q : Nat→Rat}
theorem sizes_okW {σ : Nat→ByteArray} (hσ : ∀ j,(σ j).size≤1048576) (hw : wfB 0 N=true) (hz : szC Z I N Z I=true) (hq : ∀ (a : Nat) nd,N[a]? = some nd→q a=valN σ q nd) (h0 : ∀ a,N.length≤a→q a=0) : (∀ (a : Nat) z,Z[a]? = some z→QS z (q a))∧∀ a,QS 1000000000000 (q a) := by
 have h2 : ∀ (a : Nat) z,Z[a]? = some z→QS z (q a)∧(I[a]? = some true→(q a).den=1) := by
  intro a
  induction a using Nat.strongRecOn with
  | ind a ih =>
   intro z hz'
   obtain ⟨nd,b,hn,hb,hs,_⟩ := szC_get hz hz'
   have hwf := wfB_get hw hn
   rw [Nat.zero_add] at hwf
   rw [hq a nd hn,hb]
   obtain ⟨op,xs⟩ := nd
   unfold szW at hs
   unfold valN
   unfold wfN at hwf
   dsimp only at hs hwf ⊢
   have W : ∀ {c x},c < a→Z[c]? = some x→I[c]? = some true→QW x (q c) := fun hc hx hi => ⟨(ih _ hc _ hx).1,(ih _ hc _ hx).2 hi⟩
   have no : ∀ {v : Rat},b=false→(some b=some true→v.den=1) := fun e h => by rw [e] at h; cases h
   split at hs
   ·rename_i s n d
    simp only [Bool.and_eq_true] at hs
    obtain ⟨⟨h1,h2,h3⟩,h4⟩ := hs
    refine ⟨QS.const (by simpa [Nat.blt_eq] using h1) (by simpa [Nat.blt_eq] using h2) (by simpa [Nat.blt_eq] using h3),fun e => ?_⟩
    rw [show b=true from Option.some.inj e] at h4
    have hd : d=1 := by simpa using h4
    subst hd
    show (if s=0 then mkRat (n : Int) 1 else mkRat (-(n : Int)) 1).den=1
    split
    ·rw [Rat.mkRat_one]
     exact Rat.den_intCast _
    ·rw [Rat.mkRat_one]
     exact Rat.den_intCast _
   ·rename_i j
    simp only [Bool.and_eq_true,Nat.ble_eq,Bool.not_eq_true'] at hs
    exact ⟨QS.mono (QS.rd3 _) (by have := hσ j; rw [str_len]; omega),no hs.2⟩
   ·simp only [List.all_cons,List.all_nil,Bool.and_true,Bool.and_eq_true] at hwf
    have l1 := (by simpa [Nat.blt_eq] using hwf.1 : _ < a)
    have l2 := (by simpa [Nat.blt_eq] using hwf.2 : _ < a)
    split at hs
    ·rename_i x y hx hy i1 i2
     rw [Nat.ble_eq] at hs
     have := ((W l1 hx i1).add (W l2 hy i2)).mono hs
     exact ⟨this.qs,fun _ => this.wh⟩
    ·rename_i x y hx hy _
     simp only [Bool.and_eq_true,Nat.ble_eq,Bool.not_eq_true'] at hs
     exact ⟨((ih _ l1 x hx).1.add (ih _ l2 y hy).1).mono hs.1,no hs.2⟩
    ·cases hs
   ·simp only [List.all_cons,List.all_nil,Bool.and_true,Bool.and_eq_true] at hwf
    have l1 := (by simpa [Nat.blt_eq] using hwf.1 : _ < a)
    have l2 := (by simpa [Nat.blt_eq] using hwf.2 : _ < a)
    split at hs
    ·rename_i x y hx hy i1 i2
     rw [Nat.ble_eq] at hs
     have := ((W l1 hx i1).sub (W l2 hy i2)).mono hs
     exact ⟨this.qs,fun _ => this.wh⟩
    ·rename_i x y hx hy _
     simp only [Bool.and_eq_true,Nat.ble_eq,Bool.not_eq_true'] at hs
     exact ⟨((ih _ l1 x hx).1.sub (ih _ l2 y hy).1).mono hs.1,no hs.2⟩
    ·cases hs
   ·simp only [List.all_cons,List.all_nil,Bool.and_true,Bool.and_eq_true] at hwf
    have l1 := (by simpa [Nat.blt_eq] using hwf.1 : _ < a)
    have l2 := (by simpa [Nat.blt_eq] using hwf.2 : _ < a)
    split at hs
    ·rename_i x y hx hy i1 i2
     rw [Nat.ble_eq] at hs
     have := ((W l1 hx i1).mul (W l2 hy i2)).mono hs
     exact ⟨this.qs,fun _ => this.wh⟩
    ·rename_i x y hx hy _
     simp only [Bool.and_eq_true,Nat.ble_eq,Bool.not_eq_true'] at hs
     exact ⟨((ih _ l1 x hx).1.mul (ih _ l2 y hy).1).mono hs.1,no hs.2⟩
    ·cases hs
   ·simp only [List.all_cons,List.all_nil,Bool.and_true] at hwf
    have l1 := (by simpa [Nat.blt_eq] using hwf : _ < a)
    split at hs
    ·rename_i x hx i1
     rw [Nat.ble_eq] at hs
     have := (W l1 hx i1).neg.mono hs
     exact ⟨this.qs,fun _ => this.wh⟩
    ·rename_i x hx _
     simp only [Bool.and_eq_true,Nat.ble_eq,Bool.not_eq_true'] at hs
     exact ⟨((ih _ l1 x hx).1.neg).mono hs.1,no hs.2⟩
    ·cases hs
   ·simp only [List.all_cons,List.all_nil,Bool.and_true,Bool.and_eq_true] at hwf
    split at hs
    ·rename_i x y hx hy
     simp only [Bool.and_eq_true,Nat.ble_eq,Bool.not_eq_true'] at hs
     exact ⟨((ih _ (by simpa [Nat.blt_eq] using hwf.1) x hx).1.div (ih _ (by simpa [Nat.blt_eq] using hwf.2) y hy).1).mono hs.1,no hs.2⟩
    ·cases hs
   ·rename_i i ys
    split at hs
    ·rename_i zs hzs
     rw [Bool.and_eq_true] at hs
     have hi : i < ys.length := by simpa [Nat.blt_eq] using hs.1
     have hwf' : ys.all (Nat.blt · a)=true := hwf
     rw [List.all_eq_true] at hwf'
     have hlt : ∀ c ∈ ys,c < a := fun c hc => by simpa [Nat.blt_eq] using hwf' c hc
     have hm : q ys[i] ∈ ys.map q := List.mem_map_of_mem (List.getElem_mem hi)
     have hg : (ys.map q).getD i 0=q ys[i] := by
      rw [List.getD_eq_getElem?_getD,List.getElem?_map,List.getElem?_eq_getElem hi]
      rfl
     show QS z ((ys.map q).getD i 0*fac (ys.map q))∧(some b=some true→((ys.map q).getD i 0*fac (ys.map q)).den=1)
     rw [hg]
     refine ⟨?_,fun _ => fac_den hm⟩
     rcases Bool.or_eq_true _ _ ▸ hs.2 with h3 | h3
     ·rw [Nat.ble_eq] at h3
      have hall : ∀ y ∈ ys.map q,QS (maxL zs) y := fun y hy => by
       obtain ⟨c,hc,rfl⟩ := List.mem_map.1 hy
       obtain ⟨z',hm',hz2⟩ := getsO_get hzs c hc
       exact (ih c (hlt c hc) z' hz2).1.mono (le_maxL z' hm')
      have := QS.facN hall (x := q ys[i]) hm
      rw [List.length_map] at this
      exact this.mono h3
     ·rw [Bool.and_eq_true,List.all_eq_true] at h3
      obtain ⟨h4,h5⟩ := h3
      have hwh : ∀ y ∈ ys.map q,y.den=1 := fun y hy => by
       obtain ⟨c,hc,rfl⟩ := List.mem_map.1 hy
       obtain ⟨z',_,hz2⟩ := getsO_get hzs c hc
       refine (ih c (hlt c hc) z' hz2).2 ?_
       have := h4 c hc
       split at this
       ·assumption
       ·cases this
      rw [List.getElem?_eq_getElem hi] at h5
      dsimp only at h5
      split at h5
      ·rename_i x hx
       rw [Nat.ble_eq] at h5
       exact (QW.fac (ih _ (hlt _ (List.getElem_mem hi)) x hx).1 hm hwh).mono h5
      ·cases h5
    ·cases hs
   ·cases hs
 refine ⟨fun a z h => (h2 a z h).1,fun a => ?_⟩
 have hl := szC_len hz
 by_cases ha : a < Z.length
 ·obtain ⟨nd,b,_,_,_,hle⟩ := szC_get hz (List.getElem?_eq_getElem ha)
  exact (h2 a _ (List.getElem?_eq_getElem ha)).1.mono hle
 ·rw [h0 a (by omega)]
  exact QS.zero.mono (by decide)
theorem hy_ofW {L C : List (List Nat × Nat)} {σ : Nat→ByteArray} {H : List (Nat × Nat × Nat × Nat)} (hσ : ∀ j,(σ j).size≤1048576) (hw : wfB 0 N=true) (hz : szC Z I N Z I=true) (hl : litB N L=true) (hcn : canB N C=true) (hq : ∀ (a : Nat) nd,N[a]? = some nd→q a=valN σ q nd) (h0 : ∀ a,N.length≤a→q a=0) (hH : hAll q H) : Hy N H L C Z q σ where
 nat := hq
 qs := (sizes_okW hσ hw hz hq h0).2
 zs := (sizes_okW hσ hw hz hq h0).1
 par := hσ
 lit := fun s b h => lit_rd hl hq h
 k0 := fun a r h => kn_at hH h
 k1 := fun a r h => kn_at hH h
 k2 := fun a r h => kn_at hH h
 k3 := fun a b r h => kn_at hH h
 k4 := fun l a b r h1 h2 => by
  have h3 : Nat.beq 1 r=true ↔ q a=q b := kn_at hH h2
  rw [h3,← can_tx hcn hq h1]
  exact ⟨fun e => by rw [e],fun e => tellS_inj (bytesN_inj e)⟩
 k6 := fun a b r h => kn_at hH h
 k5 := fun a r h => kn_at hH h
end
end Go.Proofs.YtdchineebfdkcaaGreatDoor
/- CFrounded -/
namespace Go.Proofs.YtdchineebfdkcaaGreatDoor
open Go.RowKit Cx
theorem closed_rounded : Closed 23 :=
 closed_told (N := [(0,[0,0,1]),(0,[0,25,1]),(0,[0,3,1]),(0,[0,4,1]),(3,[2,0]),(3,[3,0]),(4,[4,4]),(4,[5,5]),(2,[6,7]),(3,[8,1]),(3,[0,2]),(3,[3,3]),(0,[1,2,1]),(4,[4,10]),(4,[5,11]),(2,[13,14]),(4,[12,15]),(4,[10,10]),(4,[11,11]),(2,[17,18]),(6,[16,19]),(4,[10,20]),(4,[11,20]),(2,[2,21]),(2,[3,22]),(4,[4,0]),(4,[5,0]),(2,[25,26]),(5,[27]),(3,[28,1]),(8,[0,4,5,29]),(8,[1,4,5,29]),(8,[2,4,5,29]),(0,[0,10,1]),(3,[33,0]),(3,[0,0]),(4,[34,34]),(4,[35,35]),(2,[36,37]),(5,[1]),(2,[38,39]),(2,[40,39]),(4,[41,41]),(4,[3,1]),(4,[43,1]),(3,[42,44]),(0,[1,3,1]),(0,[1,25,1])]) (H := [(2,1,0,1),(0,9,0,1),(0,10,0,0),(0,34,0,0),(5,45,0,1),(1,41,0,0),(4,9,0,1),(4,23,46,1),(4,24,3,1),(4,30,2,1),(4,31,3,1),(4,32,47,1)]) (K := []) (L := [([48],0),([50,53],1),([51],2),([52],3),([49,48],33),([45,51],46),([45,50,53],47)]) (C := [([48],0),([45,51],46),([52],3),([51],2),([45,50,53],47)]) (Z := [2,6,3,4,6,7,12,14,27,34,6,9,3,12,16,29,32,12,18,31,63,69,72,73,77,8,9,18,18,25,101,101,101,5,8,5,16,10,27,6,34,41,82,10,16,99,3,6]) (cl := []) 7 (fun _ h => by cases h) (by kernel_rfl) (by kernel_rfl) (by kernel_rfl) (by kernel_rfl) (by kernel_rfl) (by kernel_rfl) (by kernel_rfl)
end Go.Proofs.YtdchineebfdkcaaGreatDoor
/- MRB -/
namespace Go.Proofs.YtdchineebfdkcaaGreatDoor
open Go.RowKit Cx
def circleButterfly_N : List Nd := [(1,[0]),(4,[0,0]),(1,[4]),(5,[2]),(0,[0,0,1]),(1,[1]),(0,[0,1,1]),(4,[5,5]),(2,[6,7]),(3,[6,7]),(4,[0,9]),(6,[10,8]),(0,[0,2,1]),(4,[0,12]),(4,[13,5]),(6,[14,8]),(2,[4,11]),(2,[4,15]),(1,[2]),(4,[18,18]),(2,[6,19]),(3,[6,19]),(4,[0,21]),(6,[22,20]),(4,[13,18]),(6,[24,20]),(2,[4,23]),(2,[4,25]),(3,[16,4]),(3,[17,4]),(4,[28,28]),(4,[29,29]),(2,[30,31]),(3,[32,1]),(3,[4,16]),(3,[2,17]),(3,[26,4]),(3,[27,4]),(4,[36,36]),(4,[37,37]),(2,[38,39]),(3,[40,1]),(3,[4,26]),(3,[2,27]),(0,[1,2,1]),(4,[36,42]),(4,[37,43]),(2,[45,46]),(4,[44,47]),(4,[42,42]),(4,[43,43]),(2,[49,50]),(6,[48,51]),(4,[42,52]),(4,[43,52]),(2,[26,53]),(2,[27,54]),(4,[28,34]),(4,[29,35]),(2,[57,58]),(4,[44,59]),(4,[34,34]),(4,[35,35]),(2,[61,62]),(6,[60,63]),(4,[34,64]),(4,[35,64]),(2,[16,65]),(2,[17,66]),(3,[55,16]),(3,[56,17]),(5,[70]),(3,[67,26]),(3,[68,27]),(5,[73]),(4,[71,16]),(4,[69,17]),(2,[75,76]),(5,[77]),(8,[0,71,69,78]),(8,[1,71,69,78]),(8,[2,71,69,78]),(4,[74,26]),(4,[72,27]),(2,[82,83]),(5,[84]),(8,[0,74,72,85]),(8,[1,74,72,85]),(8,[2,74,72,85]),(4,[79,6]),(4,[80,4]),(3,[89,90]),(4,[4,81]),(4,[6,81]),(4,[79,3]),(4,[80,3]),(3,[92,94]),(3,[93,95]),(4,[86,6]),(4,[87,4]),(3,[98,99]),(4,[4,88]),(4,[6,88]),(4,[86,3]),(4,[87,3]),(3,[101,103]),(3,[102,104]),(5,[97]),(6,[107,91]),(6,[96,91]),(5,[106]),(6,[110,100]),(6,[105,100]),(3,[26,16]),(3,[27,17]),(4,[113,35]),(4,[114,34]),(3,[115,116]),(2,[108,111])]
def circleButterfly_L : List (List Nat × Nat) := [([48],4),([49],6)]
def circleButterfly_C : List (List Nat × Nat) := []
def circleButterfly_Z : List Nat := [3495259,6990518,3495259,3495259,2,3495259,2,6990518,6990521,6990521,10485780,17476301,3,3495262,6990521,13981042,17476304,13981045,3495259,6990518,6990521,6990521,10485780,17476301,6990521,13981042,17476304,13981045,17476307,13981048,34952614,27962096,62914711,69905230,17476307,17476305,17476307,13981048,34952614,27962096,62914711,69905230,17476307,17476305,3,34952614,31457353,66409968,66409971,34952614,34952610,69905225,136315196,153791503,153791501,171267808,167772547,34952614,31457353,66409968,66409971,34952614,34952610,69905225,136315196,153791503,153791501,171267808,167772547,188744113,181753593,181753593,188744113,181753593,181753593,199229897,202725158,401955056,401955056,1607820225,1607820225,1607820225,199229897,202725158,401955056,401955056,1607820225,1607820225,1607820225,1607820227,1607820227,1607820228,1607820227,1607820227,1611315484,1611315484,3219135712,3219135712,1607820227,1607820227,1607820228,1607820227,1607820227,1611315484,1611315484,3219135712,3219135712,3219135712,4826955940,4826955940,3219135712,4826955940,4826955940,34952609,27962091,52428914,45438398,97867313,9653911881]
abbrev circleButterfly_Q (q : Nat→Rat) (σ : Nat→ByteArray) : Prop := ∀ (a : Nat) nd,circleButterfly_N[a]? = some nd→q a=valN σ q nd
variable {q : Nat→Rat} {σ : Nat→ByteArray}
def circleButterfly_I : List Bool := [false,false,false,false,true,false,true,false,false,false,false,false,true,false,false,false,false,false,false,false,false,false,false,false,false,false,false,false,false,false,false,false,false,false,false,false,false,false,false,false,false,false,false,false,true,false,false,false,false,false,false,false,false,false,false,false,false,false,false,false,false,false,false,false,false,false,false,false,false,false,false,false,false,false,false,false,false,false,false,true,true,true,false,false,false,false,true,true,true,true,true,true,true,true,false,false,false,false,true,true,true,true,true,false,false,false,false,false,false,false,false,false,false,false,false,false,false,false,false]
theorem circleButterfly_wf : wfB 0 circleButterfly_N=true := by kernel_rfl
theorem circleButterfly_sz : szC circleButterfly_Z circleButterfly_I circleButterfly_N circleButterfly_Z circleButterfly_I=true := by kernel_rfl
theorem circleButterfly_lt : litB circleButterfly_N circleButterfly_L=true := by kernel_rfl
theorem circleButterfly_cn : canB circleButterfly_N circleButterfly_C=true := by kernel_rfl
theorem circleButterfly_c4 : cst 0 0 1=(0 : Rat) := by decide +kernel
theorem circleButterfly_c6 : cst 0 1 1=(1 : Rat) := by decide +kernel
theorem circleButterfly_c12 : cst 0 2 1=(2 : Rat) := by decide +kernel
theorem circleButterfly_c44 : cst 1 2 1=((-2) : Rat) := by decide +kernel
def circleButterfly_A : List AV := [(false,[(false,[.inr (2,0,0,0,0)])]),(false,[(true,[.inr (2,1,0,0,0),.inr (2,2,0,0,0),.inr (2,3,0,0,0)])]),(false,[(false,[.inr (2,4,0,0,0)])])]
structure Bf (h w a b c e l m : Rat) : Prop where
 A : a*a+b*b ≠ 0
 C : c*c+e*e ≠ 0
 l : l*(a*a+b*b)=w
 m : m*(c*c+e*e)=w
 a : a*a+b*b=-(2*h*b) - w
 c : c*c+e*e=-(2*h*e) - w
theorem Bf.sym {h w a b c e l m : Rat} (B : Bf h w a b c e l m) : Bf h w c e a b m l := ⟨B.C,B.A,B.m,B.l,B.c,B.a⟩
theorem bf_k0 (h w b e : Rat) : w*(e - b) - b*(-(2*h*e) - w)+e*(-(2*h*b) - w)=0 := by grind
theorem bf_k1 (l m b e X Y : Rat) : (l*(m*e - b) - m*(l*b - e))*(X*Y)=(l*X)*(m*Y)*(e - b) - (l*X)*(b*Y)+(m*Y)*(e*X) := by grind
theorem bf_k2 (w b e X Y : Rat) : w*w*(e - b) - w*(b*Y)+w*(e*X)=w*(w*(e - b) - b*Y+e*X) := by grind
theorem Bf.k {h w a b c e l m : Rat} (B : Bf h w a b c e l m) : l*(m*e - b)=m*(l*b - e) := by
 have h1 := bf_k1 l m b e (a*a+b*b) (c*c+e*e)
 rw [B.l,B.m,bf_k2,B.a,B.c,bf_k0,Rat.mul_zero,← B.a,← B.c] at h1
 have h2 := (Rat.mul_eq_zero.1 h1).resolve_right (mul_ne B.A B.C)
 clear h1
 grind
theorem Bf.w0 {h w a b c e l m : Rat} (B : Bf h w a b c e l m) (hm : m=0) : w=0 := by
 have := B.m
 rw [hm,Rat.zero_mul] at this
 exact this.symm
theorem Bf.l0 {h w a b c e l m : Rat} (B : Bf h w a b c e l m) (hw : w=0) : l=0 := by
 have := B.l
 rw [hw] at this
 exact (Rat.mul_eq_zero.1 this).resolve_right B.A
theorem Bf.lm {h w a b c e l m : Rat} (B : Bf h w a b c e l m) (hm : m=0) : l=0 := B.l0 (B.w0 hm)
theorem Bf.one {h w a b c e l m : Rat} (B : Bf h w a b c e l m) (h1 : m*e - b=0) : l*b - e=0 := by
 have k := B.k
 rw [h1,Rat.mul_zero] at k
 rcases Rat.mul_eq_zero.1 k.symm with hm | hm
 ·exfalso
  have hw := B.w0 hm
  rw [hm] at h1
  have hb : b=0 := by clear k; grind
  have := B.a
  rw [hb,hw] at this
  exact B.A (by rw [hb,this]; grind)
 ·exact hm
theorem Bf.two {h w a b c e l m : Rat} (B : Bf h w a b c e l m) (h1 : m*e - b=0) (h2 : m*c - a=0) : l*b - e=0∧l*a - c=0 := by
 refine ⟨B.one h1,?_⟩
 have hm : m ≠ 0 := fun hm => B.A (by
  have ha : a=0 := by rw [hm] at h2; clear h1; grind
  have hb : b=0 := by rw [hm] at h1; clear h2; grind
  rw [ha,hb]; decide +kernel)
 have hw : w ≠ 0 := fun hw => by
  have := B.m
  rw [hw] at this
  rcases Rat.mul_eq_zero.1 this with q | q
  ·exact hm q
  ·exact B.C q
 have ea : a=m*c := by clear h1; grind
 have eb : b=m*e := by clear h2; grind
 have h3 : (l*m - 1)*w=0 := by
  have h4 := B.l
  have h5 : l*(a*a+b*b)=l*m*(m*(c*c+e*e)) := by rw [ea,eb]; clear h1 h2 h4; grind
  rw [h5,B.m] at h4
  clear h1 h2 h5 ea eb
  grind
 have h4 := (Rat.mul_eq_zero.1 h3).resolve_right hw
 have : l*a - c=(l*m - 1)*c := by rw [ea]; clear h1 h2 h3 h4 ea eb; grind
 rw [this,h4,Rat.zero_mul]
theorem Bf.sum {h w a b c e l m : Rat} (B : Bf h w a b c e l m) (h1 : m*e - b ≠ 0) (h2 : l*b - e ≠ 0) {g k N M X Y : Rat} (hg : g ≠ 0) (hk : k ≠ 0) (hN : N=m*(a*e - c*b)*g) (hX : X=-(m*e - b)*g) (hM : M=l*(c*b - a*e)*k) (hY : Y=-(l*b - e)*k) : -N / X+-M / Y=0 := by
 have nX : X ≠ 0 := by rw [hX]; exact mul_ne (fun q => h1 (by clear hX hY hN hM; grind)) hg
 have nY : Y ≠ 0 := by rw [hY]; exact mul_ne (fun q => h2 (by clear hX hY hN hM; grind)) hk
 have e1 : -N / X*X=-N := Rat.div_mul_cancel nX
 have e2 : -M / Y*Y=-M := Rat.div_mul_cancel nY
 have e3 : (-N / X+-M / Y)*(X*Y)=(-N / X*X)*Y+(-M / Y*Y)*X := by
  generalize -N / X=p
  generalize -M / Y=q
  clear e1 e2 hX hY hN hM nX nY
  grind
 rw [e1,e2,hN,hX,hM,hY] at e3
 have kk := B.k
 have e4 : -(m*(a*e - c*b)*g)*(-(l*b - e)*k)+-(l*(c*b - a*e)*k)*(-(m*e - b)*g)=(a*e - c*b)*g*k*(m*(l*b - e) - l*(m*e - b)) := by clear e1 e2 e3 hX hY hN hM nX nY kk; grind
 rw [e4,kk] at e3
 have e5 : (-(m*(a*e - c*b)*g) / (-(m*e - b)*g)+-(l*(c*b - a*e)*k) / (-(l*b - e)*k))*(-(m*e - b)*g*(-(l*b - e)*k))=0 := by rw [e3,Rat.sub_self,Rat.mul_zero]
 rw [← hN,← hX,← hM,← hY] at e5
 exact (Rat.mul_eq_zero.1 e5).resolve_right (mul_ne nX nY)
theorem bf_on {r k n x y : Rat} (hn : n=1+k*k) (hx : x=r*(1 - k*k) / n) (hy : y=r*2*k / n) : x*x+y*y=r*r := by
 have n0 : n ≠ 0 := by
  have hp := one_sq_pos k
  rw [← hn] at hp
  intro h
  rw [h] at hp
  exact absurd hp (by decide)
 have e1 : x*n=r*(1 - k*k) := by rw [hx]; exact Rat.div_mul_cancel n0
 have e2 : y*n=r*2*k := by rw [hy]; exact Rat.div_mul_cancel n0
 have e3 : (x*x+y*y - r*r)*(n*n)=(x*n)*(x*n)+(y*n)*(y*n) - r*r*(n*n) := by clear e1 e2 hx hy hn n0; grind
 rw [e1,e2,hn] at e3
 have e4 : r*(1 - k*k)*(r*(1 - k*k))+r*2*k*(r*2*k) - r*r*((1+k*k)*(1+k*k))=0 := by clear e1 e2 e3 hx hy hn n0; grind
 rw [e4,← hn] at e3
 have e5 := (Rat.mul_eq_zero.1 e3).resolve_right (mul_ne n0 n0)
 clear e1 e2 e3 e4 hx hy hn n0
 grind
theorem bf_l {x y h R t n : Rat} (on : x*x+y*y=R) (hn : n=(0 - x)*(0 - x)+(h - y)*(h - y)) (n0 : n ≠ 0) (ht : t=-2*((x - 0)*(0 - x)+(y - 0)*(h - y)) / n) : (1 - t)*(x*x+(y - h)*(y - h))=h*h - R := by
 have e1 : t*n=-2*((x - 0)*(0 - x)+(y - 0)*(h - y)) := by rw [ht]; exact Rat.div_mul_cancel n0
 have e2 : (1 - t)*(x*x+(y - h)*(y - h))=n - t*n := by rw [hn]; clear e1 ht n0 hn on; grind
 rw [e2,e1,hn,← on]
 clear e1 e2 ht n0 hn on
 grind
theorem bf_a {x y h R : Rat} (on : x*x+y*y=R) : x*x+(y - h)*(y - h)=-(2*h*(y - h)) - (h*h - R) := by
 rw [← on]; clear on; grind
theorem bf_n {x y h n : Rat} (hn : n=(0 - x)*(0 - x)+(h - y)*(h - y)) (n0 : n ≠ 0) : x*x+(y - h)*(y - h) ≠ 0 := by
 intro q
 apply n0
 have e : (0 - x)*(0 - x)+(h - y)*(h - y)=x*x+(y - h)*(y - h) := by
  clear q hn n0
  grind
 rw [hn,e]
 exact q
theorem bf_p {x y : Rat} (h : ¬ (x=0∧y=0)) : x*x+y*y ≠ 0 := by
 have hp := sq_pos h
 intro q
 rw [q] at hp
 exact absurd hp (by decide)
theorem bf_z {x : Rat} (h : -x=0) : x=0 := by grind
theorem bf_o : -(0 : Rat)=0 := by decide +kernel
theorem bf_s (x : Rat) : x - 0=x := by grind
theorem bf_t (x y h g : Rat) : 1*(x*g) - y*g*-h=(x+y*h)*g := by grind
theorem bf_v (x y : Rat) : -(x - y)=y - x := by grind
theorem bf_y (x g : Rat) : x*-0*g=0 := by grind
theorem bf_x (g : Rat) : -0*g=0 := by grind
theorem circleButterfly_B {z0 z2 z4 z5 z6 z7 z8 z9 z10 z11 z12 z13 z14 z15 z16 z17 z18 z19 z20 z21 z22 z23 z24 z25 z26 z27 z28 z29 z34 z35 z36 z37 z42 z43 z44 z45 z46 z47 z48 z49 z50 z51 z52 z53 z54 z55 z56 z57 z58 z59 z60 z61 z62 z63 z64 z65 z66 z67 z68 z69 z70 z71 z72 z73 z74 z75 z76 z77 z78 z82 z83 z84 z85 : Rat} : z4=0→z6=1→z7=z5*z5→z8=z6+z7→z9=z6 - z7→z10=z0*z9→z11=z10 / z8→z12=2→z13=z0*z12→z14=z13*z5→z15=z14 / z8→z16=z4+z11→z17=z4+z15→z19=z18*z18→z20=z6+z19→z21=z6 - z19→z22=z0*z21→z23=z22 / z20→z24=z13*z18→z25=z24 / z20→z26=z4+z23→z27=z4+z25→z28=z16 - z4→z29=z17 - z4→z34=z4 - z16→z35=z2 - z17→z36=z26 - z4→z37=z27 - z4→z42=z4 - z26→z43=z2 - z27→z44=(-2)→z45=z36*z42→z46=z37*z43→z47=z45+z46→z48=z44*z47→z49=z42*z42→z50=z43*z43→z51=z49+z50→z52=z48 / z51→z53=z42*z52→z54=z43*z52→z55=z26+z53→z56=z27+z54→z57=z28*z34→z58=z29*z35→z59=z57+z58→z60=z44*z59→z61=z34*z34→z62=z35*z35→z63=z61+z62→z64=z60 / z63→z65=z34*z64→z66=z35*z64→z67=z16+z65→z68=z17+z66→z69=z55 - z16→z70=z56 - z17→z71=-z70→z72=z67 - z26→z73=z68 - z27→z74=-z73→z75=z71*z16→z76=z69*z17→z77=z75+z76→z78=-z77→z82=z74*z26→z83=z72*z27→z84=z82+z83→z85=-z84→¬ (z34=0∧z35=0)→¬ (z42=0∧z43=0)→(∃ a b c e l m w : Rat,Bf z2 w a b c e l m∧z71=-(m*e - b)∧z69=m*c - a∧z78+z69*z2=m*(a*e - c*b)∧z74=-(l*b - e)∧z72=l*a - c∧z85+z72*z2=l*(c*b - a*e)) := by
 intro e4 e6 e7 e8 e9 e10 e11 e12 e13 e14 e15 e16 e17 e19 e20 e21 e22 e23 e24 e25 e26 e27 e28 e29 e34 e35 e36 e37 e42 e43 e44 e45 e46 e47 e48 e49 e50 e51 e52 e53 e54 e55 e56 e57 e58 e59 e60 e61 e62 e63 e64 e65 e66 e67 e68 e69 e70 e71 e72 e73 e74 e75 e76 e77 e78 e82 e83 e84 e85 u0 u1
 have onp : z16*z16+z17*z17=z0*z0 := by
  exact bf_on (k := z5) (n := z8) (by rw [e8,e6,e7]) (by rw [e16,e4,e11,e10,e9,e6,e7,Rat.zero_add]) (by rw [e17,e4,e15,e14,e13,e12,Rat.zero_add])
 have onq : z26*z26+z27*z27=z0*z0 := by
  exact bf_on (k := z18) (n := z20) (by rw [e20,e6,e19]) (by rw [e26,e4,e23,e22,e21,e6,e19,Rat.zero_add]) (by rw [e27,e4,e25,e24,e13,e12,Rat.zero_add])
 have np : z63=(0 - z16)*(0 - z16)+(z2 - z17)*(z2 - z17) := by rw [e63,e61,e62,e34,e35,e4]
 have nq : z51=(0 - z26)*(0 - z26)+(z2 - z27)*(z2 - z27) := by rw [e51,e49,e50,e42,e43,e4]
 have p0 : z63 ≠ 0 := by rw [e63,e61,e62]; exact bf_p u0
 have q0 : z51 ≠ 0 := by rw [e51,e49,e50]; exact bf_p u1
 have tp : z64=-2*((z16 - 0)*(0 - z16)+(z17 - 0)*(z2 - z17)) / z63 := by rw [e64,e60,e44,e59,e57,e58,e28,e29,e34,e35,e4]
 have tq : z52=-2*((z26 - 0)*(0 - z26)+(z27 - 0)*(z2 - z27)) / z51 := by rw [e52,e48,e44,e47,e45,e46,e36,e37,e42,e43,e4]
 have h1 : z71=-((1 - z52)*(z27 - z2) - (z17 - z2)) := by
  rw [e71,e70,e56,e54,e43]
  clear onp onq np nq p0 q0 tp tq u0 u1
  grind
 have h2 : z69=(1 - z52)*z26 - z16 := by
  rw [e69,e55,e53,e42,e4]
  clear onp onq np nq p0 q0 tp tq u0 u1 h1
  grind
 have h4 : z74=-((1 - z64)*(z17 - z2) - (z27 - z2)) := by
  rw [e74,e73,e68,e66,e35]
  clear onp onq np nq p0 q0 tp tq u0 u1 h1 h2
  grind
 have h5 : z72=(1 - z64)*z16 - z26 := by
  rw [e72,e67,e65,e34,e4]
  clear onp onq np nq p0 q0 tp tq u0 u1 h1 h2 h4
  grind
 have h3 : z78+z69*z2=(1 - z52)*(z16*(z27 - z2) - z26*(z17 - z2)) := by
  rw [e78,e77,e75,e76,h1,h2]
  clear onp onq np nq p0 q0 tp tq u0 u1 h1 h2 h4 h5
  grind
 have h6 : z85+z72*z2=(1 - z64)*(z26*(z17 - z2) - z16*(z27 - z2)) := by
  rw [e85,e84,e82,e83,h4,h5]
  clear onp onq np nq p0 q0 tp tq u0 u1 h1 h2 h3 h4 h5
  grind
 exact ⟨z16,z17 - z2,z26,z27 - z2,1 - z64,1 - z52,z2*z2 - z0*z0,⟨bf_n np p0,bf_n nq q0,bf_l onp np p0 tp,bf_l onq nq q0 tq,bf_a onp,bf_a onq⟩,h1,h2,h3,h4,h5,h6⟩
theorem circleButterfly_f1 {z0 z1 : Rat} : z1=z0*z0→(¬ (z0=0))→0 < z1 := by
 intro e1 u0
 have hp := sq1_pos (x := z0) (by grind)
 subst_vars; grind
theorem circleButterfly_f2 {z0 z1 z4 z5 z6 z7 z8 z9 z10 z11 z12 z13 z14 z15 z16 z17 z28 z29 z30 z31 z32 z33 : Rat} : z1=z0*z0→z4=0→z6=1→z7=z5*z5→z8=z6+z7→z9=z6-z7→z10=z0*z9→z11=z10/z8→z12=2→z13=z0*z12→z14=z13*z5→z15=z14/z8→z16=z4+z11→z17=z4+z15→z28=z16-z4→z29=z17-z4→z30=z28*z28→z31=z29*z29→z32=z30+z31→z33=z32-z1→z33=0 := by
 intro e1 e4 e6 e7 e8 e9 e10 e11 e12 e13 e14 e15 e16 e17 e28 e29 e30 e31 e32 e33
 have n8 : z8 ≠ 0 := by (have hp := one_sq_pos z5); grind
 subst_vars; grind
theorem circleButterfly_f3 {z0 z1 z4 z6 z12 z13 z18 z19 z20 z21 z22 z23 z24 z25 z26 z27 z36 z37 z38 z39 z40 z41 : Rat} : z1=z0*z0→z4=0→z6=1→z12=2→z13=z0*z12→z19=z18*z18→z20=z6+z19→z21=z6-z19→z22=z0*z21→z23=z22/z20→z24=z13*z18→z25=z24/z20→z26=z4+z23→z27=z4+z25→z36=z26-z4→z37=z27-z4→z38=z36*z36→z39=z37*z37→z40=z38+z39→z41=z40-z1→z41=0 := by
 intro e1 e4 e6 e12 e13 e19 e20 e21 e22 e23 e24 e25 e26 e27 e36 e37 e38 e39 e40 e41
 have n20 : z20 ≠ 0 := by (have hp := one_sq_pos z18); grind
 subst_vars; grind
theorem circleButterfly_f4 {z0 z2 z4 z5 z6 z7 z8 z9 z10 z11 z12 z13 z14 z15 z16 z17 z18 z19 z20 z21 z22 z23 z24 z25 z26 z27 z34 z35 z42 z43 z69 z71 z72 z74 z78 z85 : Rat} : z4=0→z6=1→z7=z5*z5→z8=z6+z7→z9=z6-z7→z10=z0*z9→z11=z10/z8→z12=2→z13=z0*z12→z14=z13*z5→z15=z14/z8→z16=z4+z11→z17=z4+z15→z19=z18*z18→z20=z6+z19→z21=z6-z19→z22=z0*z21→z23=z22/z20→z24=z13*z18→z25=z24/z20→z26=z4+z23→z27=z4+z25→z34=z4-z16→z35=z2-z17→z42=z4-z26→z43=z2-z27→(¬ (z0=0))→(¬ (z34=0∧z35=0))→(¬ (z42=0∧z43=0))→(z71=0∧z69=0)→(∃ a b c e l m w : Rat,Bf z2 w a b c e l m∧z71=-(m*e-b)∧z69=m*c-a∧z78+z69*z2=m*(a*e-c*b)∧z74=-(l*b-e)∧z72=l*a-c∧z85+z72*z2=l*(c*b-a*e))→z74=0 := by
 intro e4 e6 e7 e8 e9 e10 e11 e12 e13 e14 e15 e16 e17 e19 e20 e21 e22 e23 e24 e25 e26 e27 e34 e35 e42 e43 u0 u1 u2 u3 F0
 obtain ⟨a,b,c,e,l,m,w,B,h1,h2,h3,h4,h5,h6⟩ := F0
 have tw := B.two (by have q := u3.1; rw [h1] at q; exact bf_z q) (by rw [← h2]; exact u3.2)
 rw [h4,tw.1]; exact bf_o
theorem circleButterfly_f5 {z0 z2 z4 z5 z6 z7 z8 z9 z10 z11 z12 z13 z14 z15 z16 z17 z18 z19 z20 z21 z22 z23 z24 z25 z26 z27 z34 z35 z42 z43 z69 z71 z72 z74 z78 z85 : Rat} : z4=0→z6=1→z7=z5*z5→z8=z6+z7→z9=z6-z7→z10=z0*z9→z11=z10/z8→z12=2→z13=z0*z12→z14=z13*z5→z15=z14/z8→z16=z4+z11→z17=z4+z15→z19=z18*z18→z20=z6+z19→z21=z6-z19→z22=z0*z21→z23=z22/z20→z24=z13*z18→z25=z24/z20→z26=z4+z23→z27=z4+z25→z34=z4-z16→z35=z2-z17→z42=z4-z26→z43=z2-z27→(¬ (z0=0))→(¬ (z34=0∧z35=0))→(¬ (z42=0∧z43=0))→(z71=0∧z69=0)→(∃ a b c e l m w : Rat,Bf z2 w a b c e l m∧z71=-(m*e-b)∧z69=m*c-a∧z78+z69*z2=m*(a*e-c*b)∧z74=-(l*b-e)∧z72=l*a-c∧z85+z72*z2=l*(c*b-a*e))→z72=0 := by
 intro e4 e6 e7 e8 e9 e10 e11 e12 e13 e14 e15 e16 e17 e19 e20 e21 e22 e23 e24 e25 e26 e27 e34 e35 e42 e43 u0 u1 u2 u3 F0
 obtain ⟨a,b,c,e,l,m,w,B,h1,h2,h3,h4,h5,h6⟩ := F0
 have tw := B.two (by have q := u3.1; rw [h1] at q; exact bf_z q) (by rw [← h2]; exact u3.2)
 rw [h5,tw.2]
theorem circleButterfly_f6 {z0 z2 z4 z5 z6 z7 z8 z9 z10 z11 z12 z13 z14 z15 z16 z17 z18 z19 z20 z21 z22 z23 z24 z25 z26 z27 z34 z35 z42 z43 z69 z71 z72 z74 z78 z85 : Rat} : z4=0→z6=1→z7=z5*z5→z8=z6+z7→z9=z6-z7→z10=z0*z9→z11=z10/z8→z12=2→z13=z0*z12→z14=z13*z5→z15=z14/z8→z16=z4+z11→z17=z4+z15→z19=z18*z18→z20=z6+z19→z21=z6-z19→z22=z0*z21→z23=z22/z20→z24=z13*z18→z25=z24/z20→z26=z4+z23→z27=z4+z25→z34=z4-z16→z35=z2-z17→z42=z4-z26→z43=z2-z27→(¬ (z0=0))→(¬ (z34=0∧z35=0))→(¬ (z42=0∧z43=0))→(¬ (z71=0∧z69=0))→(∃ a b c e l m w : Rat,Bf z2 w a b c e l m∧z71=-(m*e-b)∧z69=m*c-a∧z78+z69*z2=m*(a*e-c*b)∧z74=-(l*b-e)∧z72=l*a-c∧z85+z72*z2=l*(c*b-a*e))→¬ (z74=0∧z72=0) := by
 intro e4 e6 e7 e8 e9 e10 e11 e12 e13 e14 e15 e16 e17 e19 e20 e21 e22 e23 e24 e25 e26 e27 e34 e35 e42 e43 u0 u1 u2 u3 F0
 obtain ⟨a,b,c,e,l,m,w,B,h1,h2,h3,h4,h5,h6⟩ := F0
 have n2 : ¬ (z74=0∧z72=0) := by
  rintro ⟨q1,q2⟩
  rw [h4] at q1
  rw [h5] at q2
  have tw := B.sym.two (bf_z q1) q2
  exact u3 ⟨by rw [h1,tw.1]; exact bf_o,by rw [h2,tw.2]⟩
 exact n2
theorem circleButterfly_f7 {z0 z2 z4 z5 z6 z7 z8 z9 z10 z11 z12 z13 z14 z15 z16 z17 z18 z19 z20 z21 z22 z23 z24 z25 z26 z27 z34 z35 z42 z43 z69 z71 z78 z79 z80 : Rat} : z4=0→z6=1→z7=z5*z5→z8=z6+z7→z9=z6-z7→z10=z0*z9→z11=z10/z8→z12=2→z13=z0*z12→z14=z13*z5→z15=z14/z8→z16=z4+z11→z17=z4+z15→z19=z18*z18→z20=z6+z19→z21=z6-z19→z22=z0*z21→z23=z22/z20→z24=z13*z18→z25=z24/z20→z26=z4+z23→z27=z4+z25→z34=z4-z16→z35=z2-z17→z42=z4-z26→z43=z2-z27→z79=z71*fac [z71,z69,z78]→z80=z69*fac [z71,z69,z78]→(¬ (z0=0))→(¬ (z34=0∧z35=0))→(¬ (z42=0∧z43=0))→(¬ (z71=0∧z69=0))→¬ (z79=0∧z80=0) := by
 intro e4 e6 e7 e8 e9 e10 e11 e12 e13 e14 e15 e16 e17 e19 e20 e21 e22 e23 e24 e25 e26 e27 e34 e35 e42 e43 e79 e80 u0 u1 u2 u3
 rw [e79,e80]
 exact pair_fac u3 (fac_zero (by simp)) (fac_zero (by simp))
theorem circleButterfly_f8 {z4 z6 : Rat} : z4=0→z6=1→¬ (z4=0∧z6=0) := by
 intro e4 e6
 subst_vars; grind
theorem circleButterfly_f9 {z0 z2 z3 z4 z5 z6 z7 z8 z9 z10 z11 z12 z13 z14 z15 z16 z17 z18 z19 z20 z21 z22 z23 z24 z25 z26 z27 z34 z35 z42 z43 z69 z71 z72 z74 z78 z79 z80 z81 z85 z86 z87 z89 z90 z91 z92 z93 z94 z95 z96 z97 : Rat} : z3=-z2→z4=0→z6=1→z7=z5*z5→z8=z6+z7→z9=z6-z7→z10=z0*z9→z11=z10/z8→z12=2→z13=z0*z12→z14=z13*z5→z15=z14/z8→z16=z4+z11→z17=z4+z15→z19=z18*z18→z20=z6+z19→z21=z6-z19→z22=z0*z21→z23=z22/z20→z24=z13*z18→z25=z24/z20→z26=z4+z23→z27=z4+z25→z34=z4-z16→z35=z2-z17→z42=z4-z26→z43=z2-z27→z79=z71*fac [z71,z69,z78]→z80=z69*fac [z71,z69,z78]→z81=z78*fac [z71,z69,z78]→z86=z74*fac [z74,z72,z85]→z87=z72*fac [z74,z72,z85]→z89=z79*z6→z90=z80*z4→z91=z89-z90→z92=z4*z81→z93=z6*z81→z94=z79*z3→z95=z80*z3→z96=z92-z94→z97=z93-z95→(¬ (z0=0))→(¬ (z34=0∧z35=0))→(¬ (z42=0∧z43=0))→(¬ (z71=0∧z69=0))→(z91=0)→(z96=0∧z97=0)→(∃ a b c e l m w : Rat,Bf z2 w a b c e l m∧z71=-(m*e-b)∧z69=m*c-a∧z78+z69*z2=m*(a*e-c*b)∧z74=-(l*b-e)∧z72=l*a-c∧z85+z72*z2=l*(c*b-a*e))→¬ (z86=0∧z87=0) := by
 intro e3 e4 e6 e7 e8 e9 e10 e11 e12 e13 e14 e15 e16 e17 e19 e20 e21 e22 e23 e24 e25 e26 e27 e34 e35 e42 e43 e79 e80 e81 e86 e87 e89 e90 e91 e92 e93 e94 e95 e96 e97 u0 u1 u2 u3 u4 u5 F0
 obtain ⟨a,b,c,e,l,m,w,B,h1,h2,h3,h4,h5,h6⟩ := F0
 have n2 : ¬ (z74=0∧z72=0) := by
  rintro ⟨q1,q2⟩
  rw [h4] at q1
  rw [h5] at q2
  have tw := B.sym.two (bf_z q1) q2
  exact u3 ⟨by rw [h1,tw.1]; exact bf_o,by rw [h2,tw.2]⟩
 rw [e86,e87]
 exact pair_fac n2 (fac_zero (by simp)) (fac_zero (by simp))
theorem circleButterfly_f10 {z0 z2 z3 z4 z5 z6 z7 z8 z9 z10 z11 z12 z13 z14 z15 z16 z17 z18 z19 z20 z21 z22 z23 z24 z25 z26 z27 z34 z35 z42 z43 z69 z71 z72 z74 z78 z79 z80 z81 z85 z86 z87 z89 z90 z91 z92 z93 z94 z95 z96 z97 z98 z99 z100 : Rat} : z3=-z2→z4=0→z6=1→z7=z5*z5→z8=z6+z7→z9=z6-z7→z10=z0*z9→z11=z10/z8→z12=2→z13=z0*z12→z14=z13*z5→z15=z14/z8→z16=z4+z11→z17=z4+z15→z19=z18*z18→z20=z6+z19→z21=z6-z19→z22=z0*z21→z23=z22/z20→z24=z13*z18→z25=z24/z20→z26=z4+z23→z27=z4+z25→z34=z4-z16→z35=z2-z17→z42=z4-z26→z43=z2-z27→z79=z71*fac [z71,z69,z78]→z80=z69*fac [z71,z69,z78]→z81=z78*fac [z71,z69,z78]→z86=z74*fac [z74,z72,z85]→z87=z72*fac [z74,z72,z85]→z89=z79*z6→z90=z80*z4→z91=z89-z90→z92=z4*z81→z93=z6*z81→z94=z79*z3→z95=z80*z3→z96=z92-z94→z97=z93-z95→z98=z86*z6→z99=z87*z4→z100=z98-z99→(¬ (z0=0))→(¬ (z34=0∧z35=0))→(¬ (z42=0∧z43=0))→(¬ (z71=0∧z69=0))→(z91=0)→(z96=0∧z97=0)→(∃ a b c e l m w : Rat,Bf z2 w a b c e l m∧z71=-(m*e-b)∧z69=m*c-a∧z78+z69*z2=m*(a*e-c*b)∧z74=-(l*b-e)∧z72=l*a-c∧z85+z72*z2=l*(c*b-a*e))→z100=0 := by
 intro e3 e4 e6 e7 e8 e9 e10 e11 e12 e13 e14 e15 e16 e17 e19 e20 e21 e22 e23 e24 e25 e26 e27 e34 e35 e42 e43 e79 e80 e81 e86 e87 e89 e90 e91 e92 e93 e94 e95 e96 e97 e98 e99 e100 u0 u1 u2 u3 u4 u5 F0
 obtain ⟨a,b,c,e,l,m,w,B,h1,h2,h3,h4,h5,h6⟩ := F0
 have g1 : fac [z71,z69,z78] ≠ 0 := fun hg => u3 ⟨fac_zero (by simp) hg,fac_zero (by simp) hg⟩
 have x1 : z91=z71*fac [z71,z69,z78] := by rw [e91,e89,e90,e6,e4,e79,Rat.mul_one,Rat.mul_zero]; exact bf_s ..
 have z71z : z71=0 := by
  have q := u4
  rw [x1] at q
  exact (Rat.mul_eq_zero.1 q).resolve_right g1
 have z74z : z74=0 := by
  have q := z71z
  rw [h1] at q
  rw [h4,B.one (bf_z q)]
  exact bf_o
 have y1 : z100=z74*fac [z74,z72,z85] := by rw [e100,e98,e99,e6,e4,e86,Rat.mul_one,Rat.mul_zero]; exact bf_s ..
 rw [y1,z74z,Rat.zero_mul]
theorem circleButterfly_f11 {z0 z2 z3 z4 z5 z6 z7 z8 z9 z10 z11 z12 z13 z14 z15 z16 z17 z18 z19 z20 z21 z22 z23 z24 z25 z26 z27 z34 z35 z42 z43 z69 z71 z72 z74 z78 z79 z80 z81 z85 z86 z88 z89 z90 z91 z92 z93 z94 z95 z96 z97 z101 z103 z105 : Rat} : z3=-z2→z4=0→z6=1→z7=z5*z5→z8=z6+z7→z9=z6-z7→z10=z0*z9→z11=z10/z8→z12=2→z13=z0*z12→z14=z13*z5→z15=z14/z8→z16=z4+z11→z17=z4+z15→z19=z18*z18→z20=z6+z19→z21=z6-z19→z22=z0*z21→z23=z22/z20→z24=z13*z18→z25=z24/z20→z26=z4+z23→z27=z4+z25→z34=z4-z16→z35=z2-z17→z42=z4-z26→z43=z2-z27→z79=z71*fac [z71,z69,z78]→z80=z69*fac [z71,z69,z78]→z81=z78*fac [z71,z69,z78]→z86=z74*fac [z74,z72,z85]→z88=z85*fac [z74,z72,z85]→z89=z79*z6→z90=z80*z4→z91=z89-z90→z92=z4*z81→z93=z6*z81→z94=z79*z3→z95=z80*z3→z96=z92-z94→z97=z93-z95→z101=z4*z88→z103=z86*z3→z105=z101-z103→(¬ (z0=0))→(¬ (z34=0∧z35=0))→(¬ (z42=0∧z43=0))→(¬ (z71=0∧z69=0))→(z91=0)→(z96=0∧z97=0)→(∃ a b c e l m w : Rat,Bf z2 w a b c e l m∧z71=-(m*e-b)∧z69=m*c-a∧z78+z69*z2=m*(a*e-c*b)∧z74=-(l*b-e)∧z72=l*a-c∧z85+z72*z2=l*(c*b-a*e))→z105=0 := by
 intro e3 e4 e6 e7 e8 e9 e10 e11 e12 e13 e14 e15 e16 e17 e19 e20 e21 e22 e23 e24 e25 e26 e27 e34 e35 e42 e43 e79 e80 e81 e86 e88 e89 e90 e91 e92 e93 e94 e95 e96 e97 e101 e103 e105 u0 u1 u2 u3 u4 u5 F0
 obtain ⟨a,b,c,e,l,m,w,B,h1,h2,h3,h4,h5,h6⟩ := F0
 have g1 : fac [z71,z69,z78] ≠ 0 := fun hg => u3 ⟨fac_zero (by simp) hg,fac_zero (by simp) hg⟩
 have x1 : z91=z71*fac [z71,z69,z78] := by rw [e91,e89,e90,e6,e4,e79,Rat.mul_one,Rat.mul_zero]; exact bf_s ..
 have z71z : z71=0 := by
  have q := u4
  rw [x1] at q
  exact (Rat.mul_eq_zero.1 q).resolve_right g1
 have z74z : z74=0 := by
  have q := z71z
  rw [h1] at q
  rw [h4,B.one (bf_z q)]
  exact bf_o
 rw [e105,e101,e103,e86,z74z,e4,Rat.zero_mul,Rat.zero_mul,Rat.zero_mul,Rat.sub_self]
theorem circleButterfly_f12 {z0 z2 z3 z4 z5 z6 z7 z8 z9 z10 z11 z12 z13 z14 z15 z16 z17 z18 z19 z20 z21 z22 z23 z24 z25 z26 z27 z34 z35 z42 z43 z69 z71 z72 z74 z78 z79 z80 z81 z85 z87 z88 z89 z90 z91 z92 z93 z94 z95 z96 z97 z102 z104 z106 : Rat} : z3=-z2→z4=0→z6=1→z7=z5*z5→z8=z6+z7→z9=z6-z7→z10=z0*z9→z11=z10/z8→z12=2→z13=z0*z12→z14=z13*z5→z15=z14/z8→z16=z4+z11→z17=z4+z15→z19=z18*z18→z20=z6+z19→z21=z6-z19→z22=z0*z21→z23=z22/z20→z24=z13*z18→z25=z24/z20→z26=z4+z23→z27=z4+z25→z34=z4-z16→z35=z2-z17→z42=z4-z26→z43=z2-z27→z79=z71*fac [z71,z69,z78]→z80=z69*fac [z71,z69,z78]→z81=z78*fac [z71,z69,z78]→z87=z72*fac [z74,z72,z85]→z88=z85*fac [z74,z72,z85]→z89=z79*z6→z90=z80*z4→z91=z89-z90→z92=z4*z81→z93=z6*z81→z94=z79*z3→z95=z80*z3→z96=z92-z94→z97=z93-z95→z102=z6*z88→z104=z87*z3→z106=z102-z104→(¬ (z0=0))→(¬ (z34=0∧z35=0))→(¬ (z42=0∧z43=0))→(¬ (z71=0∧z69=0))→(z91=0)→(z96=0∧z97=0)→(∃ a b c e l m w : Rat,Bf z2 w a b c e l m∧z71=-(m*e-b)∧z69=m*c-a∧z78+z69*z2=m*(a*e-c*b)∧z74=-(l*b-e)∧z72=l*a-c∧z85+z72*z2=l*(c*b-a*e))→z106=0 := by
 intro e3 e4 e6 e7 e8 e9 e10 e11 e12 e13 e14 e15 e16 e17 e19 e20 e21 e22 e23 e24 e25 e26 e27 e34 e35 e42 e43 e79 e80 e81 e87 e88 e89 e90 e91 e92 e93 e94 e95 e96 e97 e102 e104 e106 u0 u1 u2 u3 u4 u5 F0
 obtain ⟨a,b,c,e,l,m,w,B,h1,h2,h3,h4,h5,h6⟩ := F0
 have g1 : fac [z71,z69,z78] ≠ 0 := fun hg => u3 ⟨fac_zero (by simp) hg,fac_zero (by simp) hg⟩
 have m97 : z97=m*(a*e - c*b)*fac [z71,z69,z78] := by rw [e97,e93,e95,e6,e3,e81,e80,← h3]; exact bf_t ..
 have m106 : z106=l*(c*b - a*e)*fac [z74,z72,z85] := by rw [e106,e102,e104,e6,e3,e88,e87,← h6]; exact bf_t ..
 have q := u5.2
 rw [m97] at q
 have q1 := (Rat.mul_eq_zero.1 q).resolve_right g1
 rw [m106]
 rcases Rat.mul_eq_zero.1 q1 with q2 | q2
 ·rw [B.lm q2,Rat.zero_mul,Rat.zero_mul]
 ·rw [show c*b - a*e=-(a*e - c*b) by rw [bf_v],q2]; exact bf_y ..
theorem circleButterfly_f13 {z0 z2 z3 z4 z5 z6 z7 z8 z9 z10 z11 z12 z13 z14 z15 z16 z17 z18 z19 z20 z21 z22 z23 z24 z25 z26 z27 z34 z35 z42 z43 z69 z71 z72 z74 z78 z79 z80 z81 z85 z86 z87 z89 z90 z91 z92 z93 z94 z95 z96 z97 : Rat} : z3=-z2→z4=0→z6=1→z7=z5*z5→z8=z6+z7→z9=z6-z7→z10=z0*z9→z11=z10/z8→z12=2→z13=z0*z12→z14=z13*z5→z15=z14/z8→z16=z4+z11→z17=z4+z15→z19=z18*z18→z20=z6+z19→z21=z6-z19→z22=z0*z21→z23=z22/z20→z24=z13*z18→z25=z24/z20→z26=z4+z23→z27=z4+z25→z34=z4-z16→z35=z2-z17→z42=z4-z26→z43=z2-z27→z79=z71*fac [z71,z69,z78]→z80=z69*fac [z71,z69,z78]→z81=z78*fac [z71,z69,z78]→z86=z74*fac [z74,z72,z85]→z87=z72*fac [z74,z72,z85]→z89=z79*z6→z90=z80*z4→z91=z89-z90→z92=z4*z81→z93=z6*z81→z94=z79*z3→z95=z80*z3→z96=z92-z94→z97=z93-z95→(¬ (z0=0))→(¬ (z34=0∧z35=0))→(¬ (z42=0∧z43=0))→(¬ (z71=0∧z69=0))→(z91=0)→(¬ (z96=0∧z97=0))→(∃ a b c e l m w : Rat,Bf z2 w a b c e l m∧z71=-(m*e-b)∧z69=m*c-a∧z78+z69*z2=m*(a*e-c*b)∧z74=-(l*b-e)∧z72=l*a-c∧z85+z72*z2=l*(c*b-a*e))→¬ (z86=0∧z87=0) := by
 intro e3 e4 e6 e7 e8 e9 e10 e11 e12 e13 e14 e15 e16 e17 e19 e20 e21 e22 e23 e24 e25 e26 e27 e34 e35 e42 e43 e79 e80 e81 e86 e87 e89 e90 e91 e92 e93 e94 e95 e96 e97 u0 u1 u2 u3 u4 u5 F0
 obtain ⟨a,b,c,e,l,m,w,B,h1,h2,h3,h4,h5,h6⟩ := F0
 have n2 : ¬ (z74=0∧z72=0) := by
  rintro ⟨q1,q2⟩
  rw [h4] at q1
  rw [h5] at q2
  have tw := B.sym.two (bf_z q1) q2
  exact u3 ⟨by rw [h1,tw.1]; exact bf_o,by rw [h2,tw.2]⟩
 rw [e86,e87]
 exact pair_fac n2 (fac_zero (by simp)) (fac_zero (by simp))
theorem circleButterfly_f14 {z0 z2 z3 z4 z5 z6 z7 z8 z9 z10 z11 z12 z13 z14 z15 z16 z17 z18 z19 z20 z21 z22 z23 z24 z25 z26 z27 z34 z35 z42 z43 z69 z71 z72 z74 z78 z79 z80 z81 z85 z86 z87 z89 z90 z91 z92 z93 z94 z95 z96 z97 z98 z99 z100 : Rat} : z3=-z2→z4=0→z6=1→z7=z5*z5→z8=z6+z7→z9=z6-z7→z10=z0*z9→z11=z10/z8→z12=2→z13=z0*z12→z14=z13*z5→z15=z14/z8→z16=z4+z11→z17=z4+z15→z19=z18*z18→z20=z6+z19→z21=z6-z19→z22=z0*z21→z23=z22/z20→z24=z13*z18→z25=z24/z20→z26=z4+z23→z27=z4+z25→z34=z4-z16→z35=z2-z17→z42=z4-z26→z43=z2-z27→z79=z71*fac [z71,z69,z78]→z80=z69*fac [z71,z69,z78]→z81=z78*fac [z71,z69,z78]→z86=z74*fac [z74,z72,z85]→z87=z72*fac [z74,z72,z85]→z89=z79*z6→z90=z80*z4→z91=z89-z90→z92=z4*z81→z93=z6*z81→z94=z79*z3→z95=z80*z3→z96=z92-z94→z97=z93-z95→z98=z86*z6→z99=z87*z4→z100=z98-z99→(¬ (z0=0))→(¬ (z34=0∧z35=0))→(¬ (z42=0∧z43=0))→(¬ (z71=0∧z69=0))→(z91=0)→(¬ (z96=0∧z97=0))→(∃ a b c e l m w : Rat,Bf z2 w a b c e l m∧z71=-(m*e-b)∧z69=m*c-a∧z78+z69*z2=m*(a*e-c*b)∧z74=-(l*b-e)∧z72=l*a-c∧z85+z72*z2=l*(c*b-a*e))→z100=0 := by
 intro e3 e4 e6 e7 e8 e9 e10 e11 e12 e13 e14 e15 e16 e17 e19 e20 e21 e22 e23 e24 e25 e26 e27 e34 e35 e42 e43 e79 e80 e81 e86 e87 e89 e90 e91 e92 e93 e94 e95 e96 e97 e98 e99 e100 u0 u1 u2 u3 u4 u5 F0
 obtain ⟨a,b,c,e,l,m,w,B,h1,h2,h3,h4,h5,h6⟩ := F0
 have g1 : fac [z71,z69,z78] ≠ 0 := fun hg => u3 ⟨fac_zero (by simp) hg,fac_zero (by simp) hg⟩
 have x1 : z91=z71*fac [z71,z69,z78] := by rw [e91,e89,e90,e6,e4,e79,Rat.mul_one,Rat.mul_zero]; exact bf_s ..
 have z71z : z71=0 := by
  have q := u4
  rw [x1] at q
  exact (Rat.mul_eq_zero.1 q).resolve_right g1
 have z74z : z74=0 := by
  have q := z71z
  rw [h1] at q
  rw [h4,B.one (bf_z q)]
  exact bf_o
 have y1 : z100=z74*fac [z74,z72,z85] := by rw [e100,e98,e99,e6,e4,e86,Rat.mul_one,Rat.mul_zero]; exact bf_s ..
 rw [y1,z74z,Rat.zero_mul]
theorem circleButterfly_f15 {z0 z2 z3 z4 z5 z6 z7 z8 z9 z10 z11 z12 z13 z14 z15 z16 z17 z18 z19 z20 z21 z22 z23 z24 z25 z26 z27 z34 z35 z42 z43 z69 z71 z72 z74 z78 z79 z80 z81 z85 z86 z87 z88 z89 z90 z91 z92 z93 z94 z95 z96 z97 z101 z102 z103 z104 z105 z106 : Rat} : z3=-z2→z4=0→z6=1→z7=z5*z5→z8=z6+z7→z9=z6-z7→z10=z0*z9→z11=z10/z8→z12=2→z13=z0*z12→z14=z13*z5→z15=z14/z8→z16=z4+z11→z17=z4+z15→z19=z18*z18→z20=z6+z19→z21=z6-z19→z22=z0*z21→z23=z22/z20→z24=z13*z18→z25=z24/z20→z26=z4+z23→z27=z4+z25→z34=z4-z16→z35=z2-z17→z42=z4-z26→z43=z2-z27→z79=z71*fac [z71,z69,z78]→z80=z69*fac [z71,z69,z78]→z81=z78*fac [z71,z69,z78]→z86=z74*fac [z74,z72,z85]→z87=z72*fac [z74,z72,z85]→z88=z85*fac [z74,z72,z85]→z89=z79*z6→z90=z80*z4→z91=z89-z90→z92=z4*z81→z93=z6*z81→z94=z79*z3→z95=z80*z3→z96=z92-z94→z97=z93-z95→z101=z4*z88→z102=z6*z88→z103=z86*z3→z104=z87*z3→z105=z101-z103→z106=z102-z104→(¬ (z0=0))→(¬ (z34=0∧z35=0))→(¬ (z42=0∧z43=0))→(¬ (z71=0∧z69=0))→(z91=0)→(¬ (z96=0∧z97=0))→(∃ a b c e l m w : Rat,Bf z2 w a b c e l m∧z71=-(m*e-b)∧z69=m*c-a∧z78+z69*z2=m*(a*e-c*b)∧z74=-(l*b-e)∧z72=l*a-c∧z85+z72*z2=l*(c*b-a*e))→¬ (z105=0∧z106=0) := by
 intro e3 e4 e6 e7 e8 e9 e10 e11 e12 e13 e14 e15 e16 e17 e19 e20 e21 e22 e23 e24 e25 e26 e27 e34 e35 e42 e43 e79 e80 e81 e86 e87 e88 e89 e90 e91 e92 e93 e94 e95 e96 e97 e101 e102 e103 e104 e105 e106 u0 u1 u2 u3 u4 u5 F0
 obtain ⟨a,b,c,e,l,m,w,B,h1,h2,h3,h4,h5,h6⟩ := F0
 have g1 : fac [z71,z69,z78] ≠ 0 := fun hg => u3 ⟨fac_zero (by simp) hg,fac_zero (by simp) hg⟩
 have n2 : ¬ (z74=0∧z72=0) := by
  rintro ⟨q1,q2⟩
  rw [h4] at q1
  rw [h5] at q2
  have tw := B.sym.two (bf_z q1) q2
  exact u3 ⟨by rw [h1,tw.1]; exact bf_o,by rw [h2,tw.2]⟩
 have g2 : fac [z74,z72,z85] ≠ 0 := fun hg => n2 ⟨fac_zero (by simp) hg,fac_zero (by simp) hg⟩
 have x1 : z91=z71*fac [z71,z69,z78] := by rw [e91,e89,e90,e6,e4,e79,Rat.mul_one,Rat.mul_zero]; exact bf_s ..
 have z71z : z71=0 := by
  have q := u4
  rw [x1] at q
  exact (Rat.mul_eq_zero.1 q).resolve_right g1
 have m97 : z97=m*(a*e - c*b)*fac [z71,z69,z78] := by rw [e97,e93,e95,e6,e3,e81,e80,← h3]; exact bf_t ..
 have m106 : z106=l*(c*b - a*e)*fac [z74,z72,z85] := by rw [e106,e102,e104,e6,e3,e88,e87,← h6]; exact bf_t ..
 rintro ⟨_,q⟩
 rw [m106] at q
 have q1 := (Rat.mul_eq_zero.1 q).resolve_right g2
 refine u5 ⟨?_,?_⟩
 ·rw [e96,e92,e94,e79,z71z,e4,Rat.zero_mul,Rat.zero_mul,Rat.zero_mul,Rat.sub_self]
 ·rw [m97]
  rcases Rat.mul_eq_zero.1 q1 with q2 | q2
  ·rw [B.sym.lm q2,Rat.zero_mul,Rat.zero_mul]
  ·rw [show a*e - c*b=-(c*b - a*e) by rw [bf_v],q2]; exact bf_y ..
theorem circleButterfly_f16 {z0 z2 z4 z5 z6 z7 z8 z9 z10 z11 z12 z13 z14 z15 z16 z17 z18 z19 z20 z21 z22 z23 z24 z25 z26 z27 z34 z35 z42 z43 z69 z71 z72 z74 z78 z79 z80 z85 z86 z87 z89 z90 z91 : Rat} : z4=0→z6=1→z7=z5*z5→z8=z6+z7→z9=z6-z7→z10=z0*z9→z11=z10/z8→z12=2→z13=z0*z12→z14=z13*z5→z15=z14/z8→z16=z4+z11→z17=z4+z15→z19=z18*z18→z20=z6+z19→z21=z6-z19→z22=z0*z21→z23=z22/z20→z24=z13*z18→z25=z24/z20→z26=z4+z23→z27=z4+z25→z34=z4-z16→z35=z2-z17→z42=z4-z26→z43=z2-z27→z79=z71*fac [z71,z69,z78]→z80=z69*fac [z71,z69,z78]→z86=z74*fac [z74,z72,z85]→z87=z72*fac [z74,z72,z85]→z89=z79*z6→z90=z80*z4→z91=z89-z90→(¬ (z0=0))→(¬ (z34=0∧z35=0))→(¬ (z42=0∧z43=0))→(¬ (z71=0∧z69=0))→(¬ (z91=0))→(∃ a b c e l m w : Rat,Bf z2 w a b c e l m∧z71=-(m*e-b)∧z69=m*c-a∧z78+z69*z2=m*(a*e-c*b)∧z74=-(l*b-e)∧z72=l*a-c∧z85+z72*z2=l*(c*b-a*e))→¬ (z86=0∧z87=0) := by
 intro e4 e6 e7 e8 e9 e10 e11 e12 e13 e14 e15 e16 e17 e19 e20 e21 e22 e23 e24 e25 e26 e27 e34 e35 e42 e43 e79 e80 e86 e87 e89 e90 e91 u0 u1 u2 u3 u4 F0
 obtain ⟨a,b,c,e,l,m,w,B,h1,h2,h3,h4,h5,h6⟩ := F0
 have n2 : ¬ (z74=0∧z72=0) := by
  rintro ⟨q1,q2⟩
  rw [h4] at q1
  rw [h5] at q2
  have tw := B.sym.two (bf_z q1) q2
  exact u3 ⟨by rw [h1,tw.1]; exact bf_o,by rw [h2,tw.2]⟩
 rw [e86,e87]
 exact pair_fac n2 (fac_zero (by simp)) (fac_zero (by simp))
theorem circleButterfly_f17 {z0 z2 z4 z5 z6 z7 z8 z9 z10 z11 z12 z13 z14 z15 z16 z17 z18 z19 z20 z21 z22 z23 z24 z25 z26 z27 z34 z35 z42 z43 z69 z71 z72 z74 z78 z79 z80 z85 z86 z87 z89 z90 z91 z98 z99 z100 : Rat} : z4=0→z6=1→z7=z5*z5→z8=z6+z7→z9=z6-z7→z10=z0*z9→z11=z10/z8→z12=2→z13=z0*z12→z14=z13*z5→z15=z14/z8→z16=z4+z11→z17=z4+z15→z19=z18*z18→z20=z6+z19→z21=z6-z19→z22=z0*z21→z23=z22/z20→z24=z13*z18→z25=z24/z20→z26=z4+z23→z27=z4+z25→z34=z4-z16→z35=z2-z17→z42=z4-z26→z43=z2-z27→z79=z71*fac [z71,z69,z78]→z80=z69*fac [z71,z69,z78]→z86=z74*fac [z74,z72,z85]→z87=z72*fac [z74,z72,z85]→z89=z79*z6→z90=z80*z4→z91=z89-z90→z98=z86*z6→z99=z87*z4→z100=z98-z99→(¬ (z0=0))→(¬ (z34=0∧z35=0))→(¬ (z42=0∧z43=0))→(¬ (z71=0∧z69=0))→(¬ (z91=0))→(∃ a b c e l m w : Rat,Bf z2 w a b c e l m∧z71=-(m*e-b)∧z69=m*c-a∧z78+z69*z2=m*(a*e-c*b)∧z74=-(l*b-e)∧z72=l*a-c∧z85+z72*z2=l*(c*b-a*e))→¬ (z100=0) := by
 intro e4 e6 e7 e8 e9 e10 e11 e12 e13 e14 e15 e16 e17 e19 e20 e21 e22 e23 e24 e25 e26 e27 e34 e35 e42 e43 e79 e80 e86 e87 e89 e90 e91 e98 e99 e100 u0 u1 u2 u3 u4 F0
 obtain ⟨a,b,c,e,l,m,w,B,h1,h2,h3,h4,h5,h6⟩ := F0
 have x1 : z91=z71*fac [z71,z69,z78] := by rw [e91,e89,e90,e6,e4,e79,Rat.mul_one,Rat.mul_zero]; exact bf_s ..
 have y1 : z100=z74*fac [z74,z72,z85] := by rw [e100,e98,e99,e6,e4,e86,Rat.mul_one,Rat.mul_zero]; exact bf_s ..
 have nz : m*e - b ≠ 0 := fun q => u4 (by rw [x1,h1,q]; exact bf_x ..)
 have nw : l*b - e ≠ 0 := fun q => nz (B.sym.one q)
 have g2 : fac [z74,z72,z85] ≠ 0 := fun hg => nw (by have q : z74=0 := fac_zero (by simp) hg; rw [h4] at q; exact bf_z q)
 rw [y1]
 exact mul_ne (by rw [h4]; exact fun q => nw (bf_z q)) g2
theorem circleButterfly_f18 {z0 z2 z3 z4 z5 z6 z7 z8 z9 z10 z11 z12 z13 z14 z15 z16 z17 z18 z19 z20 z21 z22 z23 z24 z25 z26 z27 z34 z35 z42 z43 z69 z71 z72 z74 z78 z79 z80 z81 z85 z86 z87 z88 z89 z90 z91 z93 z95 z97 z98 z99 z100 z102 z104 z106 z107 z108 z110 z111 z113 z114 z115 z116 z117 z118 : Rat} : z3=-z2→z4=0→z6=1→z7=z5*z5→z8=z6+z7→z9=z6-z7→z10=z0*z9→z11=z10/z8→z12=2→z13=z0*z12→z14=z13*z5→z15=z14/z8→z16=z4+z11→z17=z4+z15→z19=z18*z18→z20=z6+z19→z21=z6-z19→z22=z0*z21→z23=z22/z20→z24=z13*z18→z25=z24/z20→z26=z4+z23→z27=z4+z25→z34=z4-z16→z35=z2-z17→z42=z4-z26→z43=z2-z27→z79=z71*fac [z71,z69,z78]→z80=z69*fac [z71,z69,z78]→z81=z78*fac [z71,z69,z78]→z86=z74*fac [z74,z72,z85]→z87=z72*fac [z74,z72,z85]→z88=z85*fac [z74,z72,z85]→z89=z79*z6→z90=z80*z4→z91=z89-z90→z93=z6*z81→z95=z80*z3→z97=z93-z95→z98=z86*z6→z99=z87*z4→z100=z98-z99→z102=z6*z88→z104=z87*z3→z106=z102-z104→z107=-z97→z108=z107/z91→z110=-z106→z111=z110/z100→z113=z26-z16→z114=z27-z17→z115=z113*z35→z116=z114*z34→z117=z115-z116→z118=z108+z111→(¬ (z0=0))→(¬ (z34=0∧z35=0))→(¬ (z42=0∧z43=0))→(¬ (z71=0∧z69=0))→(¬ (z91=0))→(¬ (z117=0))→(∃ a b c e l m w : Rat,Bf z2 w a b c e l m∧z71=-(m*e-b)∧z69=m*c-a∧z78+z69*z2=m*(a*e-c*b)∧z74=-(l*b-e)∧z72=l*a-c∧z85+z72*z2=l*(c*b-a*e))→z118=0 := by
 intro e3 e4 e6 e7 e8 e9 e10 e11 e12 e13 e14 e15 e16 e17 e19 e20 e21 e22 e23 e24 e25 e26 e27 e34 e35 e42 e43 e79 e80 e81 e86 e87 e88 e89 e90 e91 e93 e95 e97 e98 e99 e100 e102 e104 e106 e107 e108 e110 e111 e113 e114 e115 e116 e117 e118 u0 u1 u2 u3 u4 u5 F0
 obtain ⟨a,b,c,e,l,m,w,B,h1,h2,h3,h4,h5,h6⟩ := F0
 have x1 : z91=z71*fac [z71,z69,z78] := by rw [e91,e89,e90,e6,e4,e79,Rat.mul_one,Rat.mul_zero]; exact bf_s ..
 have y1 : z100=z74*fac [z74,z72,z85] := by rw [e100,e98,e99,e6,e4,e86,Rat.mul_one,Rat.mul_zero]; exact bf_s ..
 have nz : m*e - b ≠ 0 := fun q => u4 (by rw [x1,h1,q]; exact bf_x ..)
 have nw : l*b - e ≠ 0 := fun q => nz (B.sym.one q)
 have g2 : fac [z74,z72,z85] ≠ 0 := fun hg => nw (by have q : z74=0 := fac_zero (by simp) hg; rw [h4] at q; exact bf_z q)
 have g1 : fac [z71,z69,z78] ≠ 0 := fun hg => u4 (by rw [x1,hg,Rat.mul_zero])
 have m97 : z97=m*(a*e - c*b)*fac [z71,z69,z78] := by rw [e97,e93,e95,e6,e3,e81,e80,← h3]; exact bf_t ..
 have m106 : z106=l*(c*b - a*e)*fac [z74,z72,z85] := by rw [e106,e102,e104,e6,e3,e88,e87,← h6]; exact bf_t ..
 rw [e118,e108,e111,e107,e110]
 exact B.sum nz nw g1 g2 m97 (by rw [x1,h1]) m106 (by rw [y1,h4])
theorem circleButterfly_r0 : (callB (sx Tryz.prog circleButterfly_N [(0,0,0,1)] [] circleButterfly_L circleButterfly_C circleButterfly_Z (prQ [23])) 2 6 circleButterfly_A [] 0).map (·.1)=some (kB true) := by kernel_rfl
theorem circleButterfly_r1 : (callB (sx Tryz.prog circleButterfly_N [(0,0,0,0),(2,1,0,1),(0,33,0,1),(6,34,35,1),(0,41,0,1),(6,42,43,1)] [] circleButterfly_L circleButterfly_C circleButterfly_Z (prQ [23])) 7 6 circleButterfly_A [] 0).map (·.1)=some (kB true) := by kernel_rfl
theorem circleButterfly_r2 : (callB (sx Tryz.prog circleButterfly_N [(0,0,0,0),(2,1,0,1),(0,33,0,1),(6,34,35,1),(0,41,0,1),(6,42,43,0)] [] circleButterfly_L circleButterfly_C circleButterfly_Z (prQ [23])) 7 6 circleButterfly_A [] 0).map (·.1)=some (kB true) := by kernel_rfl
theorem circleButterfly_r3 : (callB (sx Tryz.prog circleButterfly_N [(0,0,0,0),(2,1,0,1),(0,33,0,1),(6,34,35,0),(0,41,0,1),(6,42,43,1)] [] circleButterfly_L circleButterfly_C circleButterfly_Z (prQ [23])) 7 6 circleButterfly_A [] 0).map (·.1)=some (kB true) := by kernel_rfl
theorem circleButterfly_r4 : (callB (sx Tryz.prog circleButterfly_N [(0,0,0,0),(2,1,0,1),(0,33,0,1),(6,34,35,0),(0,41,0,1),(6,42,43,0),(6,71,69,1),(6,74,72,1)] [] circleButterfly_L circleButterfly_C circleButterfly_Z (prQ [23])) 7 6 circleButterfly_A [] 0).map (·.1)=some (kB true) := by kernel_rfl
theorem circleButterfly_r5 : (callB (sx Tryz.prog circleButterfly_N [(0,0,0,0),(2,1,0,1),(0,33,0,1),(6,34,35,0),(0,41,0,1),(6,42,43,0),(6,71,69,0),(6,74,72,0),(6,79,80,0),(6,4,6,0),(0,91,0,1),(6,96,97,1),(6,86,87,0),(0,100,0,1),(6,105,106,1)] [] circleButterfly_L circleButterfly_C circleButterfly_Z (prQ [23])) 7 6 circleButterfly_A [] 0).map (·.1)=some (kB true) := by kernel_rfl
theorem circleButterfly_r6 : (callB (sx Tryz.prog circleButterfly_N [(0,0,0,0),(2,1,0,1),(0,33,0,1),(6,34,35,0),(0,41,0,1),(6,42,43,0),(6,71,69,0),(6,74,72,0),(6,79,80,0),(6,4,6,0),(0,91,0,1),(6,96,97,0),(6,86,87,0),(0,100,0,1),(6,105,106,0)] [] circleButterfly_L circleButterfly_C circleButterfly_Z (prQ [23])) 7 6 circleButterfly_A [] 0).map (·.1)=some (kB true) := by kernel_rfl
theorem circleButterfly_r7 : (callB (sx Tryz.prog circleButterfly_N [(0,0,0,0),(2,1,0,1),(0,33,0,1),(6,34,35,0),(0,41,0,1),(6,42,43,0),(6,71,69,0),(6,74,72,0),(6,79,80,0),(6,4,6,0),(0,91,0,0),(6,86,87,0),(0,100,0,0),(0,117,0,1)] [] circleButterfly_L circleButterfly_C circleButterfly_Z (prQ [23])) 7 6 circleButterfly_A [] 0).map (·.1)=some (kB true) := by kernel_rfl
theorem circleButterfly_r8 : (callB (sx Tryz.prog circleButterfly_N [(0,0,0,0),(2,1,0,1),(0,33,0,1),(6,34,35,0),(0,41,0,1),(6,42,43,0),(6,71,69,0),(6,74,72,0),(6,79,80,0),(6,4,6,0),(0,91,0,0),(6,86,87,0),(0,100,0,0),(0,117,0,0),(0,118,0,1)] [] circleButterfly_L circleButterfly_C circleButterfly_Z (prQ [23])) 7 6 circleButterfly_A [] 0).map (·.1)=some (kB true) := by kernel_rfl
theorem circleButterfly_An {a b : Prop} (x : a) (y : b) : a∧b := ⟨x,y⟩
theorem circleButterfly_leaf {H : List (Nat × Nat × Nat × Nat)} {K : List (FuncId × List AC)} {k : Nat} {q : Nat→Rat} {σ : Nat→ByteArray} {args : List AV} {vs : List Value} {w : World} (hr : (callB (sx Tryz.prog circleButterfly_N H K circleButterfly_L circleButterfly_C circleButterfly_Z (prQ [23])) k 6 args [] 0).map (·.1)=some (kB true)) (hσ : ∀ j,(σ j).size≤1048576) (hq : ∀ (a : Nat) nd,circleButterfly_N[a]? = some nd→q a=valN σ q nd) (h0 : ∀ a,circleButterfly_N.length≤a→q a=0) (hH : hAll q H) (hp : PreS w) (hA : ∀ K,A2 (avOn (cOn (evS q σ) K (fun _ => none) w)) args vs) : Calls Tryz.prog 6 vs.toArray w fun e w' => Below w.heap.size w w'∧e=.returned (.bool true) :=
 run_toldQ' k (hy_ofW hσ circleButterfly_wf circleButterfly_sz circleButterfly_lt circleButterfly_cn hq h0 hH) (by simp [closed_rounded]) (by kernel_rfl) hr hp (hA K)
theorem circleButterfly_walk {w : World} {k ta tb tc n : ByteArray}  (sk : k.size≤1048576) (sta : ta.size≤1048576) (stb : tb.size≤1048576) (stc : tc.size≤1048576) (sn : n.size≤1048576) (tab : Tab w) (mx : MaxL w) :
  Calls Tryz.prog 6 #[.string k,.agg #[.string ta,.string tb,.string tc],.string n] w fun e w' => Below w.heap.size w w'∧e=.returned (.bool true) := by
 have hσ : ∀ j,(sgOf [k,ta,tb,tc,n] j).size≤1048576 := sgOf_size (by simp [sk,sta,stb,stc,sn])
 obtain ⟨q,hq,h0⟩ := nodes_exist (sgOf [k,ta,tb,tc,n]) circleButterfly_N circleButterfly_wf
 have hA : ∀ K,A2 (avOn (cOn (evS q (sgOf [k,ta,tb,tc,n])) K (fun _ => none) w)) [(false,[(false,[.inr (2,0,0,0,0)])]),(false,[(true,[.inr (2,1,0,0,0),.inr (2,2,0,0,0),.inr (2,3,0,0,0)])]),(false,[(false,[.inr (2,4,0,0,0)])])] [.string k,.agg #[.string ta,.string tb,.string tc],.string n] := fun K => ⟨⟨⟨rfl,trivial⟩,trivial⟩,⟨⟨[.string ta,.string tb,.string tc],rfl,rfl,rfl,rfl,trivial⟩,trivial⟩,⟨⟨rfl,trivial⟩,trivial⟩,trivial⟩
 have E1 : q 1=q 0*q 0 := hq 1 _ rfl
 have E3 : q 3=-q 2 := hq 3 _ rfl
 have E4 : q 4=0 := (hq 4 _ rfl).trans circleButterfly_c4
 have E6 : q 6=1 := (hq 6 _ rfl).trans circleButterfly_c6
 have E7 : q 7=q 5*q 5 := hq 7 _ rfl
 have E8 : q 8=q 6+q 7 := hq 8 _ rfl
 have E9 : q 9=q 6 - q 7 := hq 9 _ rfl
 have E10 : q 10=q 0*q 9 := hq 10 _ rfl
 have E11 : q 11=q 10 / q 8 := hq 11 _ rfl
 have E12 : q 12=2 := (hq 12 _ rfl).trans circleButterfly_c12
 have E13 : q 13=q 0*q 12 := hq 13 _ rfl
 have E14 : q 14=q 13*q 5 := hq 14 _ rfl
 have E15 : q 15=q 14 / q 8 := hq 15 _ rfl
 have E16 : q 16=q 4+q 11 := hq 16 _ rfl
 have E17 : q 17=q 4+q 15 := hq 17 _ rfl
 have E19 : q 19=q 18*q 18 := hq 19 _ rfl
 have E20 : q 20=q 6+q 19 := hq 20 _ rfl
 have E21 : q 21=q 6 - q 19 := hq 21 _ rfl
 have E22 : q 22=q 0*q 21 := hq 22 _ rfl
 have E23 : q 23=q 22 / q 20 := hq 23 _ rfl
 have E24 : q 24=q 13*q 18 := hq 24 _ rfl
 have E25 : q 25=q 24 / q 20 := hq 25 _ rfl
 have E26 : q 26=q 4+q 23 := hq 26 _ rfl
 have E27 : q 27=q 4+q 25 := hq 27 _ rfl
 have E28 : q 28=q 16 - q 4 := hq 28 _ rfl
 have E29 : q 29=q 17 - q 4 := hq 29 _ rfl
 have E30 : q 30=q 28*q 28 := hq 30 _ rfl
 have E31 : q 31=q 29*q 29 := hq 31 _ rfl
 have E32 : q 32=q 30+q 31 := hq 32 _ rfl
 have E33 : q 33=q 32 - q 1 := hq 33 _ rfl
 have E34 : q 34=q 4 - q 16 := hq 34 _ rfl
 have E35 : q 35=q 2 - q 17 := hq 35 _ rfl
 have E36 : q 36=q 26 - q 4 := hq 36 _ rfl
 have E37 : q 37=q 27 - q 4 := hq 37 _ rfl
 have E38 : q 38=q 36*q 36 := hq 38 _ rfl
 have E39 : q 39=q 37*q 37 := hq 39 _ rfl
 have E40 : q 40=q 38+q 39 := hq 40 _ rfl
 have E41 : q 41=q 40 - q 1 := hq 41 _ rfl
 have E42 : q 42=q 4 - q 26 := hq 42 _ rfl
 have E43 : q 43=q 2 - q 27 := hq 43 _ rfl
 have E44 : q 44=(-2) := (hq 44 _ rfl).trans circleButterfly_c44
 have E45 : q 45=q 36*q 42 := hq 45 _ rfl
 have E46 : q 46=q 37*q 43 := hq 46 _ rfl
 have E47 : q 47=q 45+q 46 := hq 47 _ rfl
 have E48 : q 48=q 44*q 47 := hq 48 _ rfl
 have E49 : q 49=q 42*q 42 := hq 49 _ rfl
 have E50 : q 50=q 43*q 43 := hq 50 _ rfl
 have E51 : q 51=q 49+q 50 := hq 51 _ rfl
 have E52 : q 52=q 48 / q 51 := hq 52 _ rfl
 have E53 : q 53=q 42*q 52 := hq 53 _ rfl
 have E54 : q 54=q 43*q 52 := hq 54 _ rfl
 have E55 : q 55=q 26+q 53 := hq 55 _ rfl
 have E56 : q 56=q 27+q 54 := hq 56 _ rfl
 have E57 : q 57=q 28*q 34 := hq 57 _ rfl
 have E58 : q 58=q 29*q 35 := hq 58 _ rfl
 have E59 : q 59=q 57+q 58 := hq 59 _ rfl
 have E60 : q 60=q 44*q 59 := hq 60 _ rfl
 have E61 : q 61=q 34*q 34 := hq 61 _ rfl
 have E62 : q 62=q 35*q 35 := hq 62 _ rfl
 have E63 : q 63=q 61+q 62 := hq 63 _ rfl
 have E64 : q 64=q 60 / q 63 := hq 64 _ rfl
 have E65 : q 65=q 34*q 64 := hq 65 _ rfl
 have E66 : q 66=q 35*q 64 := hq 66 _ rfl
 have E67 : q 67=q 16+q 65 := hq 67 _ rfl
 have E68 : q 68=q 17+q 66 := hq 68 _ rfl
 have E69 : q 69=q 55 - q 16 := hq 69 _ rfl
 have E70 : q 70=q 56 - q 17 := hq 70 _ rfl
 have E71 : q 71=-q 70 := hq 71 _ rfl
 have E72 : q 72=q 67 - q 26 := hq 72 _ rfl
 have E73 : q 73=q 68 - q 27 := hq 73 _ rfl
 have E74 : q 74=-q 73 := hq 74 _ rfl
 have E75 : q 75=q 71*q 16 := hq 75 _ rfl
 have E76 : q 76=q 69*q 17 := hq 76 _ rfl
 have E77 : q 77=q 75+q 76 := hq 77 _ rfl
 have E78 : q 78=-q 77 := hq 78 _ rfl
 have E79 : q 79=q 71*fac [q 71,q 69,q 78] := hq 79 _ rfl
 have E80 : q 80=q 69*fac [q 71,q 69,q 78] := hq 80 _ rfl
 have E81 : q 81=q 78*fac [q 71,q 69,q 78] := hq 81 _ rfl
 have E82 : q 82=q 74*q 26 := hq 82 _ rfl
 have E83 : q 83=q 72*q 27 := hq 83 _ rfl
 have E84 : q 84=q 82+q 83 := hq 84 _ rfl
 have E85 : q 85=-q 84 := hq 85 _ rfl
 have E86 : q 86=q 74*fac [q 74,q 72,q 85] := hq 86 _ rfl
 have E87 : q 87=q 72*fac [q 74,q 72,q 85] := hq 87 _ rfl
 have E88 : q 88=q 85*fac [q 74,q 72,q 85] := hq 88 _ rfl
 have E89 : q 89=q 79*q 6 := hq 89 _ rfl
 have E90 : q 90=q 80*q 4 := hq 90 _ rfl
 have E91 : q 91=q 89 - q 90 := hq 91 _ rfl
 have E92 : q 92=q 4*q 81 := hq 92 _ rfl
 have E93 : q 93=q 6*q 81 := hq 93 _ rfl
 have E94 : q 94=q 79*q 3 := hq 94 _ rfl
 have E95 : q 95=q 80*q 3 := hq 95 _ rfl
 have E96 : q 96=q 92 - q 94 := hq 96 _ rfl
 have E97 : q 97=q 93 - q 95 := hq 97 _ rfl
 have E98 : q 98=q 86*q 6 := hq 98 _ rfl
 have E99 : q 99=q 87*q 4 := hq 99 _ rfl
 have E100 : q 100=q 98 - q 99 := hq 100 _ rfl
 have E101 : q 101=q 4*q 88 := hq 101 _ rfl
 have E102 : q 102=q 6*q 88 := hq 102 _ rfl
 have E103 : q 103=q 86*q 3 := hq 103 _ rfl
 have E104 : q 104=q 87*q 3 := hq 104 _ rfl
 have E105 : q 105=q 101 - q 103 := hq 105 _ rfl
 have E106 : q 106=q 102 - q 104 := hq 106 _ rfl
 have E107 : q 107=-q 97 := hq 107 _ rfl
 have E108 : q 108=q 107 / q 91 := hq 108 _ rfl
 have E110 : q 110=-q 106 := hq 110 _ rfl
 have E111 : q 111=q 110 / q 100 := hq 111 _ rfl
 have E113 : q 113=q 26 - q 16 := hq 113 _ rfl
 have E114 : q 114=q 27 - q 17 := hq 114 _ rfl
 have E115 : q 115=q 113*q 35 := hq 115 _ rfl
 have E116 : q 116=q 114*q 34 := hq 116 _ rfl
 have E117 : q 117=q 115 - q 116 := hq 117 _ rfl
 have E118 : q 118=q 108+q 111 := hq 118 _ rfl
 by_cases b0 : q 0=0
 ·
  exact circleButterfly_leaf circleButterfly_r0 hσ hq h0 (circleButterfly_An (hT b0) trivial) ⟨tab,mx⟩ hA
 ·
  have a_2_1_0 : 0 < q 1 := circleButterfly_f1 E1 b0
  have b33 : q 33=0 := circleButterfly_f2 E1 E4 E6 E7 E8 E9 E10 E11 E12 E13 E14 E15 E16 E17 E28 E29 E30 E31 E32 E33
  by_cases a_6_34_35 : q 34=0∧q 35=0
  ·
   have b41 : q 41=0 := circleButterfly_f3 E1 E4 E6 E12 E13 E19 E20 E21 E22 E23 E24 E25 E26 E27 E36 E37 E38 E39 E40 E41
   by_cases a_6_42_43 : q 42=0∧q 43=0
   ·
    exact circleButterfly_leaf circleButterfly_r1 hσ hq h0 (circleButterfly_An (hF b0) (circleButterfly_An (hT a_2_1_0) (circleButterfly_An (hT b33) (circleButterfly_An (hT a_6_34_35) (circleButterfly_An (hT b41) (circleButterfly_An (hT a_6_42_43) trivial)))))) ⟨tab,mx⟩ hA
   ·
    exact circleButterfly_leaf circleButterfly_r2 hσ hq h0 (circleButterfly_An (hF b0) (circleButterfly_An (hT a_2_1_0) (circleButterfly_An (hT b33) (circleButterfly_An (hT a_6_34_35) (circleButterfly_An (hT b41) (circleButterfly_An (hF a_6_42_43) trivial)))))) ⟨tab,mx⟩ hA
  ·
   have b41 : q 41=0 := circleButterfly_f3 E1 E4 E6 E12 E13 E19 E20 E21 E22 E23 E24 E25 E26 E27 E36 E37 E38 E39 E40 E41
   by_cases a_6_42_43 : q 42=0∧q 43=0
   ·
    exact circleButterfly_leaf circleButterfly_r3 hσ hq h0 (circleButterfly_An (hF b0) (circleButterfly_An (hT a_2_1_0) (circleButterfly_An (hT b33) (circleButterfly_An (hF a_6_34_35) (circleButterfly_An (hT b41) (circleButterfly_An (hT a_6_42_43) trivial)))))) ⟨tab,mx⟩ hA
   ·
    by_cases a_6_71_69 : q 71=0∧q 69=0
    ·
     have a_6_74_72 : q 74=0∧q 72=0 := And.intro (circleButterfly_f4 E4 E6 E7 E8 E9 E10 E11 E12 E13 E14 E15 E16 E17 E19 E20 E21 E22 E23 E24 E25 E26 E27 E34 E35 E42 E43 b0 a_6_34_35 a_6_42_43 a_6_71_69 (circleButterfly_B E4 E6 E7 E8 E9 E10 E11 E12 E13 E14 E15 E16 E17 E19 E20 E21 E22 E23 E24 E25 E26 E27 E28 E29 E34 E35 E36 E37 E42 E43 E44 E45 E46 E47 E48 E49 E50 E51 E52 E53 E54 E55 E56 E57 E58 E59 E60 E61 E62 E63 E64 E65 E66 E67 E68 E69 E70 E71 E72 E73 E74 E75 E76 E77 E78 E82 E83 E84 E85 a_6_34_35 a_6_42_43)) (circleButterfly_f5 E4 E6 E7 E8 E9 E10 E11 E12 E13 E14 E15 E16 E17 E19 E20 E21 E22 E23 E24 E25 E26 E27 E34 E35 E42 E43 b0 a_6_34_35 a_6_42_43 a_6_71_69 (circleButterfly_B E4 E6 E7 E8 E9 E10 E11 E12 E13 E14 E15 E16 E17 E19 E20 E21 E22 E23 E24 E25 E26 E27 E28 E29 E34 E35 E36 E37 E42 E43 E44 E45 E46 E47 E48 E49 E50 E51 E52 E53 E54 E55 E56 E57 E58 E59 E60 E61 E62 E63 E64 E65 E66 E67 E68 E69 E70 E71 E72 E73 E74 E75 E76 E77 E78 E82 E83 E84 E85 a_6_34_35 a_6_42_43))
     exact circleButterfly_leaf circleButterfly_r4 hσ hq h0 (circleButterfly_An (hF b0) (circleButterfly_An (hT a_2_1_0) (circleButterfly_An (hT b33) (circleButterfly_An (hF a_6_34_35) (circleButterfly_An (hT b41) (circleButterfly_An (hF a_6_42_43) (circleButterfly_An (hT a_6_71_69) (circleButterfly_An (hT a_6_74_72) trivial)))))))) ⟨tab,mx⟩ hA
    ·
     have a_6_74_72 : ¬ (q 74=0∧q 72=0) := circleButterfly_f6 E4 E6 E7 E8 E9 E10 E11 E12 E13 E14 E15 E16 E17 E19 E20 E21 E22 E23 E24 E25 E26 E27 E34 E35 E42 E43 b0 a_6_34_35 a_6_42_43 a_6_71_69 (circleButterfly_B E4 E6 E7 E8 E9 E10 E11 E12 E13 E14 E15 E16 E17 E19 E20 E21 E22 E23 E24 E25 E26 E27 E28 E29 E34 E35 E36 E37 E42 E43 E44 E45 E46 E47 E48 E49 E50 E51 E52 E53 E54 E55 E56 E57 E58 E59 E60 E61 E62 E63 E64 E65 E66 E67 E68 E69 E70 E71 E72 E73 E74 E75 E76 E77 E78 E82 E83 E84 E85 a_6_34_35 a_6_42_43)
     have a_6_79_80 : ¬ (q 79=0∧q 80=0) := circleButterfly_f7 E4 E6 E7 E8 E9 E10 E11 E12 E13 E14 E15 E16 E17 E19 E20 E21 E22 E23 E24 E25 E26 E27 E34 E35 E42 E43 E79 E80 b0 a_6_34_35 a_6_42_43 a_6_71_69
     have a_6_4_6 : ¬ (q 4=0∧q 6=0) := circleButterfly_f8 E4 E6
     by_cases b91 : q 91=0
     ·
      by_cases a_6_96_97 : q 96=0∧q 97=0
      ·
       have a_6_86_87 : ¬ (q 86=0∧q 87=0) := circleButterfly_f9 E3 E4 E6 E7 E8 E9 E10 E11 E12 E13 E14 E15 E16 E17 E19 E20 E21 E22 E23 E24 E25 E26 E27 E34 E35 E42 E43 E79 E80 E81 E86 E87 E89 E90 E91 E92 E93 E94 E95 E96 E97 b0 a_6_34_35 a_6_42_43 a_6_71_69 b91 a_6_96_97 (circleButterfly_B E4 E6 E7 E8 E9 E10 E11 E12 E13 E14 E15 E16 E17 E19 E20 E21 E22 E23 E24 E25 E26 E27 E28 E29 E34 E35 E36 E37 E42 E43 E44 E45 E46 E47 E48 E49 E50 E51 E52 E53 E54 E55 E56 E57 E58 E59 E60 E61 E62 E63 E64 E65 E66 E67 E68 E69 E70 E71 E72 E73 E74 E75 E76 E77 E78 E82 E83 E84 E85 a_6_34_35 a_6_42_43)
       have b100 : q 100=0 := circleButterfly_f10 E3 E4 E6 E7 E8 E9 E10 E11 E12 E13 E14 E15 E16 E17 E19 E20 E21 E22 E23 E24 E25 E26 E27 E34 E35 E42 E43 E79 E80 E81 E86 E87 E89 E90 E91 E92 E93 E94 E95 E96 E97 E98 E99 E100 b0 a_6_34_35 a_6_42_43 a_6_71_69 b91 a_6_96_97 (circleButterfly_B E4 E6 E7 E8 E9 E10 E11 E12 E13 E14 E15 E16 E17 E19 E20 E21 E22 E23 E24 E25 E26 E27 E28 E29 E34 E35 E36 E37 E42 E43 E44 E45 E46 E47 E48 E49 E50 E51 E52 E53 E54 E55 E56 E57 E58 E59 E60 E61 E62 E63 E64 E65 E66 E67 E68 E69 E70 E71 E72 E73 E74 E75 E76 E77 E78 E82 E83 E84 E85 a_6_34_35 a_6_42_43)
       have a_6_105_106 : q 105=0∧q 106=0 := And.intro (circleButterfly_f11 E3 E4 E6 E7 E8 E9 E10 E11 E12 E13 E14 E15 E16 E17 E19 E20 E21 E22 E23 E24 E25 E26 E27 E34 E35 E42 E43 E79 E80 E81 E86 E88 E89 E90 E91 E92 E93 E94 E95 E96 E97 E101 E103 E105 b0 a_6_34_35 a_6_42_43 a_6_71_69 b91 a_6_96_97 (circleButterfly_B E4 E6 E7 E8 E9 E10 E11 E12 E13 E14 E15 E16 E17 E19 E20 E21 E22 E23 E24 E25 E26 E27 E28 E29 E34 E35 E36 E37 E42 E43 E44 E45 E46 E47 E48 E49 E50 E51 E52 E53 E54 E55 E56 E57 E58 E59 E60 E61 E62 E63 E64 E65 E66 E67 E68 E69 E70 E71 E72 E73 E74 E75 E76 E77 E78 E82 E83 E84 E85 a_6_34_35 a_6_42_43)) (circleButterfly_f12 E3 E4 E6 E7 E8 E9 E10 E11 E12 E13 E14 E15 E16 E17 E19 E20 E21 E22 E23 E24 E25 E26 E27 E34 E35 E42 E43 E79 E80 E81 E87 E88 E89 E90 E91 E92 E93 E94 E95 E96 E97 E102 E104 E106 b0 a_6_34_35 a_6_42_43 a_6_71_69 b91 a_6_96_97 (circleButterfly_B E4 E6 E7 E8 E9 E10 E11 E12 E13 E14 E15 E16 E17 E19 E20 E21 E22 E23 E24 E25 E26 E27 E28 E29 E34 E35 E36 E37 E42 E43 E44 E45 E46 E47 E48 E49 E50 E51 E52 E53 E54 E55 E56 E57 E58 E59 E60 E61 E62 E63 E64 E65 E66 E67 E68 E69 E70 E71 E72 E73 E74 E75 E76 E77 E78 E82 E83 E84 E85 a_6_34_35 a_6_42_43))
       exact circleButterfly_leaf circleButterfly_r5 hσ hq h0 (circleButterfly_An (hF b0) (circleButterfly_An (hT a_2_1_0) (circleButterfly_An (hT b33) (circleButterfly_An (hF a_6_34_35) (circleButterfly_An (hT b41) (circleButterfly_An (hF a_6_42_43) (circleButterfly_An (hF a_6_71_69) (circleButterfly_An (hF a_6_74_72) (circleButterfly_An (hF a_6_79_80) (circleButterfly_An (hF a_6_4_6) (circleButterfly_An (hT b91) (circleButterfly_An (hT a_6_96_97) (circleButterfly_An (hF a_6_86_87) (circleButterfly_An (hT b100) (circleButterfly_An (hT a_6_105_106) trivial))))))))))))))) ⟨tab,mx⟩ hA
      ·
       have a_6_86_87 : ¬ (q 86=0∧q 87=0) := circleButterfly_f13 E3 E4 E6 E7 E8 E9 E10 E11 E12 E13 E14 E15 E16 E17 E19 E20 E21 E22 E23 E24 E25 E26 E27 E34 E35 E42 E43 E79 E80 E81 E86 E87 E89 E90 E91 E92 E93 E94 E95 E96 E97 b0 a_6_34_35 a_6_42_43 a_6_71_69 b91 a_6_96_97 (circleButterfly_B E4 E6 E7 E8 E9 E10 E11 E12 E13 E14 E15 E16 E17 E19 E20 E21 E22 E23 E24 E25 E26 E27 E28 E29 E34 E35 E36 E37 E42 E43 E44 E45 E46 E47 E48 E49 E50 E51 E52 E53 E54 E55 E56 E57 E58 E59 E60 E61 E62 E63 E64 E65 E66 E67 E68 E69 E70 E71 E72 E73 E74 E75 E76 E77 E78 E82 E83 E84 E85 a_6_34_35 a_6_42_43)
       have b100 : q 100=0 := circleButterfly_f14 E3 E4 E6 E7 E8 E9 E10 E11 E12 E13 E14 E15 E16 E17 E19 E20 E21 E22 E23 E24 E25 E26 E27 E34 E35 E42 E43 E79 E80 E81 E86 E87 E89 E90 E91 E92 E93 E94 E95 E96 E97 E98 E99 E100 b0 a_6_34_35 a_6_42_43 a_6_71_69 b91 a_6_96_97 (circleButterfly_B E4 E6 E7 E8 E9 E10 E11 E12 E13 E14 E15 E16 E17 E19 E20 E21 E22 E23 E24 E25 E26 E27 E28 E29 E34 E35 E36 E37 E42 E43 E44 E45 E46 E47 E48 E49 E50 E51 E52 E53 E54 E55 E56 E57 E58 E59 E60 E61 E62 E63 E64 E65 E66 E67 E68 E69 E70 E71 E72 E73 E74 E75 E76 E77 E78 E82 E83 E84 E85 a_6_34_35 a_6_42_43)
       have a_6_105_106 : ¬ (q 105=0∧q 106=0) := circleButterfly_f15 E3 E4 E6 E7 E8 E9 E10 E11 E12 E13 E14 E15 E16 E17 E19 E20 E21 E22 E23 E24 E25 E26 E27 E34 E35 E42 E43 E79 E80 E81 E86 E87 E88 E89 E90 E91 E92 E93 E94 E95 E96 E97 E101 E102 E103 E104 E105 E106 b0 a_6_34_35 a_6_42_43 a_6_71_69 b91 a_6_96_97 (circleButterfly_B E4 E6 E7 E8 E9 E10 E11 E12 E13 E14 E15 E16 E17 E19 E20 E21 E22 E23 E24 E25 E26 E27 E28 E29 E34 E35 E36 E37 E42 E43 E44 E45 E46 E47 E48 E49 E50 E51 E52 E53 E54 E55 E56 E57 E58 E59 E60 E61 E62 E63 E64 E65 E66 E67 E68 E69 E70 E71 E72 E73 E74 E75 E76 E77 E78 E82 E83 E84 E85 a_6_34_35 a_6_42_43)
       exact circleButterfly_leaf circleButterfly_r6 hσ hq h0 (circleButterfly_An (hF b0) (circleButterfly_An (hT a_2_1_0) (circleButterfly_An (hT b33) (circleButterfly_An (hF a_6_34_35) (circleButterfly_An (hT b41) (circleButterfly_An (hF a_6_42_43) (circleButterfly_An (hF a_6_71_69) (circleButterfly_An (hF a_6_74_72) (circleButterfly_An (hF a_6_79_80) (circleButterfly_An (hF a_6_4_6) (circleButterfly_An (hT b91) (circleButterfly_An (hF a_6_96_97) (circleButterfly_An (hF a_6_86_87) (circleButterfly_An (hT b100) (circleButterfly_An (hF a_6_105_106) trivial))))))))))))))) ⟨tab,mx⟩ hA
     ·
      have a_6_86_87 : ¬ (q 86=0∧q 87=0) := circleButterfly_f16 E4 E6 E7 E8 E9 E10 E11 E12 E13 E14 E15 E16 E17 E19 E20 E21 E22 E23 E24 E25 E26 E27 E34 E35 E42 E43 E79 E80 E86 E87 E89 E90 E91 b0 a_6_34_35 a_6_42_43 a_6_71_69 b91 (circleButterfly_B E4 E6 E7 E8 E9 E10 E11 E12 E13 E14 E15 E16 E17 E19 E20 E21 E22 E23 E24 E25 E26 E27 E28 E29 E34 E35 E36 E37 E42 E43 E44 E45 E46 E47 E48 E49 E50 E51 E52 E53 E54 E55 E56 E57 E58 E59 E60 E61 E62 E63 E64 E65 E66 E67 E68 E69 E70 E71 E72 E73 E74 E75 E76 E77 E78 E82 E83 E84 E85 a_6_34_35 a_6_42_43)
      have b100 : ¬ (q 100=0) := circleButterfly_f17 E4 E6 E7 E8 E9 E10 E11 E12 E13 E14 E15 E16 E17 E19 E20 E21 E22 E23 E24 E25 E26 E27 E34 E35 E42 E43 E79 E80 E86 E87 E89 E90 E91 E98 E99 E100 b0 a_6_34_35 a_6_42_43 a_6_71_69 b91 (circleButterfly_B E4 E6 E7 E8 E9 E10 E11 E12 E13 E14 E15 E16 E17 E19 E20 E21 E22 E23 E24 E25 E26 E27 E28 E29 E34 E35 E36 E37 E42 E43 E44 E45 E46 E47 E48 E49 E50 E51 E52 E53 E54 E55 E56 E57 E58 E59 E60 E61 E62 E63 E64 E65 E66 E67 E68 E69 E70 E71 E72 E73 E74 E75 E76 E77 E78 E82 E83 E84 E85 a_6_34_35 a_6_42_43)
      by_cases b117 : q 117=0
      ·
       exact circleButterfly_leaf circleButterfly_r7 hσ hq h0 (circleButterfly_An (hF b0) (circleButterfly_An (hT a_2_1_0) (circleButterfly_An (hT b33) (circleButterfly_An (hF a_6_34_35) (circleButterfly_An (hT b41) (circleButterfly_An (hF a_6_42_43) (circleButterfly_An (hF a_6_71_69) (circleButterfly_An (hF a_6_74_72) (circleButterfly_An (hF a_6_79_80) (circleButterfly_An (hF a_6_4_6) (circleButterfly_An (hF b91) (circleButterfly_An (hF a_6_86_87) (circleButterfly_An (hF b100) (circleButterfly_An (hT b117) trivial)))))))))))))) ⟨tab,mx⟩ hA
      ·
       have b118 : q 118=0 := circleButterfly_f18 E3 E4 E6 E7 E8 E9 E10 E11 E12 E13 E14 E15 E16 E17 E19 E20 E21 E22 E23 E24 E25 E26 E27 E34 E35 E42 E43 E79 E80 E81 E86 E87 E88 E89 E90 E91 E93 E95 E97 E98 E99 E100 E102 E104 E106 E107 E108 E110 E111 E113 E114 E115 E116 E117 E118 b0 a_6_34_35 a_6_42_43 a_6_71_69 b91 b117 (circleButterfly_B E4 E6 E7 E8 E9 E10 E11 E12 E13 E14 E15 E16 E17 E19 E20 E21 E22 E23 E24 E25 E26 E27 E28 E29 E34 E35 E36 E37 E42 E43 E44 E45 E46 E47 E48 E49 E50 E51 E52 E53 E54 E55 E56 E57 E58 E59 E60 E61 E62 E63 E64 E65 E66 E67 E68 E69 E70 E71 E72 E73 E74 E75 E76 E77 E78 E82 E83 E84 E85 a_6_34_35 a_6_42_43)
       exact circleButterfly_leaf circleButterfly_r8 hσ hq h0 (circleButterfly_An (hF b0) (circleButterfly_An (hT a_2_1_0) (circleButterfly_An (hT b33) (circleButterfly_An (hF a_6_34_35) (circleButterfly_An (hT b41) (circleButterfly_An (hF a_6_42_43) (circleButterfly_An (hF a_6_71_69) (circleButterfly_An (hF a_6_74_72) (circleButterfly_An (hF a_6_79_80) (circleButterfly_An (hF a_6_4_6) (circleButterfly_An (hF b91) (circleButterfly_An (hF a_6_86_87) (circleButterfly_An (hF b100) (circleButterfly_An (hF b117) (circleButterfly_An (hT b118) trivial))))))))))))))) ⟨tab,mx⟩ hA
end Go.Proofs.YtdchineebfdkcaaGreatDoor
