/- Part 8 of the walks and of the mathematics under them: BJ BK BL BM BN BO BP BTA. -/
import Derived.Test.YtgkjeoeliehihaaGreatDoorA7
import Derived.Test.YtgkjeoeliehihaaGreatDoorA3
import Derived.Test.YtgkjeoeliehihaaGreatDoorA5
import Derived.Deep.RegionHeld3
import Derived.Deep.DeepCutAuto
set_option maxHeartbeats 16000000
set_option maxRecDepth 100000
/- BJ -/
namespace Go.Proofs.YtgkjeoeliehihaaGreatDoor
open Go.RowKit Cx
theorem bigDiv_calls {w : World} {va vb : Value} {a b : Nat} (ha : NatN w va a) (hb : NatN w vb b) (sa : Small a) (sb : Small b) (hb0 : 0 < b) :
  Calls Tryz.prog 156 #[va,vb] w fun e w' => Below w.heap.size w w'∧∃ v1 v2,e=.returned (.tuple #[v1,v2])∧NatN w' v1 (a / b)∧NatN w' v2 (a % b) := by
 have ha' := ha
 have hb' := hb
 obtain ⟨la,hla,ta,rfl⟩ := ha
 obtain ⟨lb,hlb,tb,rfl⟩ := hb
 obtain ⟨ao,ca,b1,o1,rfl,sla⟩ := hla.sl32
 obtain ⟨bo,cb,b2,o2,rfl,slb⟩ := hlb.sl32
 have hm : lb.length ≠ 0 := fun e => by
  rw [List.length_eq_zero_iff.1 e,val_nil] at hb0
  omega
 by_cases h : val la < val lb
 ·exact bigDiv_less ha' hb' sa sb h hm
 ·have hle : val lb≤val la := by omega
  have hA := sa.len ta
  have hB := sb.len tb
  by_cases hn : la.length≤2
  ·refine bigDiv_short ha' hb' sa sb hle hb0 hm hn ?_
   have h1 := val_lt sla.lim
   have h2 := pw_le hn
   have h3 : pw 2=18446744073709551616 := by decide
   omega
  ·by_cases h1 : lb.length=1
   ·obtain ⟨x,hx⟩ := List.length_eq_one_iff.1 h1
    subst hx
    have e1 : val [x]=x := by simp [val]
    rw [e1] at *
    exact bigDiv_limb ha' slb hb' sa sb hle hb0 (by omega)
   ·obtain ⟨m,hmm⟩ : ∃ m,lb.length=m+2 := ⟨lb.length - 2,by omega⟩
    have ht : nth lb (m+1) ≠ 0 := by
     rcases tb with e | e
     ·rw [e] at hm; simp at hm
     ·rw [hmm] at e; exact e
    refine bigDiv_long sla.lim ha' slb hb' hmm ht (by omega) ?_ (sa.len0 ta) sa sb hle
    exact len_le tb (Nat.lt_of_le_of_lt hle (val_lt sla.lim))
theorem big_len {w : World} {v : Value} {n : Nat} (h : NatN w v n) : ∃ ao len cap,v=.slice ao len cap∧len≤9223372036854775807∧(2 < len ↔ 18446744073709551616≤n)∧(len=0 ↔ n=0) := by
 obtain ⟨l,hl,t,rfl⟩ := h
 have h4 : pw 2=18446744073709551616 := by simp [pw]
 have hz : l.length=0 ↔ val l=0 := by
  constructor
  ·intro h; rw [List.length_eq_zero_iff.1 h]; rfl
  ·intro h; rw [trim_val_zero t h]; rfl
 have hb : 2 < l.length ↔ 18446744073709551616≤val l := by
  constructor
  ·intro h
   have h1 := trim_pos t (by intro e; rw [e] at h; simp at h)
   have h2 := pw_le (show 2≤l.length - 1 by omega)
   omega
  ·intro h
   rcases Nat.lt_or_ge 2 l.length with hc | hc
   ·exact hc
   ·have h1 := val_lt hl.1
    have h2 := pw_le hc
    omega
 obtain ⟨hlim,⟨rfl,ao,cap,rfl⟩ | ⟨b,off,cap,rfl,hc,hm,hlt,hs⟩⟩ := hl
 ·exact ⟨ao,0,cap,rfl,by omega,hb,hz⟩
 ·unfold maxLen at hm
  exact ⟨_,l.length,cap,rfl,by omega,hb,hz⟩
theorem small_of {a b : Nat} (h : Small a) (hb : b≤a) : Small b := ⟨Nat.lt_of_le_of_lt hb h.lt⟩
theorem bigCommon_calls {w : World} {va vb : Value} {a b : Nat} (ha : NatN w va a) (hb : NatN w vb b) (sa : Small a) (sb : Small b) :
  Calls Tryz.prog 155 #[va,vb] w fun e w' => Below w.heap.size w w'∧∃ v,e=.returned v∧NatN w' v (Nat.gcd a b) := by
 have HA := hideIt2 ha
 have HB := hideIt2 hb
 have SA := hideIt2 sa
 have SB := hideIt2 sb
 clear ha hb sa sb
 go_enter Tryz.func155,Tryz.ntmps155
 go_wp2
 go_loopg [0,1] b (fun k x y wr => ∃ A B : Nat,NatN wr x A∧NatN wr y B∧Nat.gcd A B=Nat.gcd a b∧B≤k∧Small A∧Small B∧Below w.heap.size w wr)
 case atStart => exact ⟨a,b,HA.out,HB.out,rfl,Nat.le_refl _,SA.out,SB.out,Below.refl _ _⟩
 case round =>
  obtain ⟨A,B,hA,hB,hg,hk,sA,sB,hbl⟩ := hrel
  have HHA := hideIt2 hA
  have HHB := hideIt2 hB
  have HG := hideIt2 hg
  have HSA := hideIt2 sA
  have HSB := hideIt2 sB
  have HBL := hideIt2 hbl
  obtain ⟨bo,n,cb,rfl,hnm,hbig,hnz⟩ := big_len hB
  have HN := hideIt2 (And.intro hbig hnz)
  clear hA hB hg sA sB hbig hnz hbl
  by_cases h2 : 2 < n
  ·have hB0 : 0 < B := by have := HN.out.1.1 h2; omega
   go_wp2_with fail
   refine (bigDiv_calls HHA.out HHB.out HSA.out HSB.out hB0).mono ?_
   rintro e w2 ⟨hb2,v1,v2,rfl,hv1,hv2⟩
   have HV2 := hideIt2 hv2
   have HB2 := hideIt2 (HBL.out.trans (hb2.mono HBL.out.size))
   have HHB2 := hideIt2 (HHB.out.below hb2)
   clear hv1 hv2 hb2
   go_wp2
   go_roundg (A % B)
   case measure => have := Nat.mod_lt A hB0; omega
   case rel =>
    exact ⟨B,A % B,HHB2.out,HV2.out,by rw [← HG.out,Nat.gcd_comm B,← Nat.gcd_rec,Nat.gcd_comm],Nat.le_refl _,HSB.out,small_of HSB.out (Nat.le_of_lt (Nat.mod_lt _ hB0)),HB2.out⟩
  ·by_cases h0 : n=0
   ·have hB0 : B=0 := HN.out.2.1 h0
    subst h0
    subst hB0
    have HAV : Hid (NatN wr u0 A∧A=Nat.gcd a b) := ⟨HHA.out,by have := HG.out; rw [Nat.gcd_zero_right] at this; exact this⟩
    go_wp2
    go_ret
    exact ⟨HBL.out,_,rfl,by rw [← HAV.out.2]; exact HAV.out.1⟩
   ·have xn : ((n : Int) == 0)=false := beq_eq_false_iff_ne.mpr (by omega)
    have hB0 : 0 < B := by
     rcases Nat.eq_zero_or_pos B with h | h
     ·exact absurd (HN.out.2.2 h) h0
     ·exact h
    have HBS : Hid (B < 18446744073709551616) := by
     show _ < _
     have := HN.out.1
     omega
    obtain ⟨xo,nx,cx,hx,hxm,hxbig,hxnz⟩ := big_len HHA.out
    subst hx
    have HNX := hideIt2 (And.intro hxbig hxnz)
    clear hxbig hxnz
    by_cases h3 : 2 < nx
    ·go_wp2_with fail
     refine (bigDiv_calls HHA.out HHB.out HSA.out HSB.out hB0).mono ?_
     rintro e w2 ⟨hb2,v1,v2,rfl,hv1,hv2⟩
     have HV2 := hideIt2 hv2
     have HB2 := hideIt2 (HBL.out.trans (hb2.mono HBL.out.size))
     have HHB2 := hideIt2 (HHB.out.below hb2)
     have HGM : Hid (Nat.gcd B (A % B)=Nat.gcd a b) := by rw [← HG.out,Nat.gcd_comm B,← Nat.gcd_rec,Nat.gcd_comm]; rfl
     have HMS : Hid (A % B < 18446744073709551616) := Nat.lt_trans (Nat.mod_lt _ hB0) HBS.out
     clear hv1 hv2 hb2
     go_wp2_with fail
     refine (bigPlain_calls HHB2.out HBS.out).mono ?_
     rintro e wz ⟨rfl,hz⟩
     have hz2 := hz.symm; subst hz2; clear hz
     go_wp2_with fail
     refine (bigPlain_calls HV2.out HMS.out).mono ?_
     rintro e wz ⟨rfl,hz⟩
     have hz2 := hz.symm; subst hz2; clear hz
     have la1 := HBS.out
     have lb1 := HMS.out
     go_wp2
     go_loopw [9,10] (fun x y wy => ∃ X Y q : Nat,x=.int .u64 X∧y=.int .u64 Y∧X < 18446744073709551616∧Y < 18446744073709551616∧Nat.gcd X Y=Nat.gcd a b∧wy=w2.drewN q) (fun _ y _ => (intOf y).toNat)
     case atStart => exact ⟨B,(A % B),0,rfl,rfl,la1,lb1,HGM.out,rfl⟩
     case round =>
      obtain ⟨X,Y,q,rfl,rfl,hX,hY,hg,rfl⟩ := hrel
      have HGG : Hid (Nat.gcd X Y=Nat.gcd a b) := hg
      clear hg
      by_cases h0 : Y=0
      ·subst h0
       go_wp2_with fail
       refine (bigWords_calls X _ hX).mono ?_
       rintro e w9 ⟨hb9,v9,rfl,hv9⟩
       have hgz := HGG.out
       rw [Nat.gcd_zero_right] at hgz
       rw [hgz] at hv9
       have HV9 : Hid (NatN w9 v9 (Nat.gcd a b)) := hv9
       have hbq : Below w.heap.size w (w2.drewN q) := belowDrewN HB2.out _
       have HB9 : Hid (Below w.heap.size w w9) := hbq.trans (hb9.mono hbq.size)
       clear hv9 hgz hbq
       go_wp2
       go_ret
       exact ⟨HB9.out,v9,rfl,HV9.out⟩
      ·have hne : ((Y : Int) != 0)=true := by rw [bne_iff_ne]; omega
       have hpos : 0 < Y := by omega
       go_wp2
       go_quiet (fail)
       go_wp2
       go_roundw
       case rel =>
        have e : ((X % Y : Nat) : Int)=(X : Int) % (Y : Int) := Int.natCast_emod _ _
        exact ⟨Y,X % Y,_,rfl,by rw [e],hY,Nat.lt_trans (Nat.mod_lt _ hpos) hY,by rw [← HGG.out,Nat.gcd_comm Y,← Nat.gcd_rec,Nat.gcd_comm],World.drewN_drewN _ _ _⟩
       case measure =>
        have e : ((X % Y : Nat) : Int)=(X : Int) % (Y : Int) := Int.natCast_emod _ _
        have := Nat.mod_lt X hpos
        simp only [intOf,← e]
        simp
        omega
    ·have HAS : Hid (A < 18446744073709551616) := by
      show _ < _
      have := HNX.out.1
      omega
     go_wp2_with fail
     refine (bigPlain_calls HHA.out HAS.out).mono ?_
     rintro e wz ⟨rfl,hz⟩
     have hz2 := hz.symm; subst hz2; clear hz
     go_wp2_with fail
     refine (bigPlain_calls HHB.out HBS.out).mono ?_
     rintro e wz ⟨rfl,hz⟩
     have hz2 := hz.symm; subst hz2; clear hz
     have la1 := HAS.out
     have lb1 := HBS.out
     go_wp2
     go_loopw [9,10] (fun x y wy => ∃ X Y q : Nat,x=.int .u64 X∧y=.int .u64 Y∧X < 18446744073709551616∧Y < 18446744073709551616∧Nat.gcd X Y=Nat.gcd a b∧wy=wr.drewN q) (fun _ y _ => (intOf y).toNat)
     case atStart => exact ⟨A,B,0,rfl,rfl,la1,lb1,HG.out,rfl⟩
     case round =>
      obtain ⟨X,Y,q,rfl,rfl,hX,hY,hg,rfl⟩ := hrel
      have HGG : Hid (Nat.gcd X Y=Nat.gcd a b) := hg
      clear hg
      by_cases h0 : Y=0
      ·subst h0
       go_wp2_with fail
       refine (bigWords_calls X _ hX).mono ?_
       rintro e w9 ⟨hb9,v9,rfl,hv9⟩
       have hgz := HGG.out
       rw [Nat.gcd_zero_right] at hgz
       rw [hgz] at hv9
       have HV9 : Hid (NatN w9 v9 (Nat.gcd a b)) := hv9
       have hbq : Below w.heap.size w (wr.drewN q) := belowDrewN HBL.out _
       have HB9 : Hid (Below w.heap.size w w9) := hbq.trans (hb9.mono hbq.size)
       clear hv9 hgz hbq
       go_wp2
       go_ret
       exact ⟨HB9.out,v9,rfl,HV9.out⟩
      ·have hne : ((Y : Int) != 0)=true := by rw [bne_iff_ne]; omega
       have hpos : 0 < Y := by omega
       go_wp2
       go_quiet (fail)
       go_wp2
       go_roundw
       case rel =>
        have e : ((X % Y : Nat) : Int)=(X : Int) % (Y : Int) := Int.natCast_emod _ _
        exact ⟨Y,X % Y,_,rfl,by rw [e],hY,Nat.lt_trans (Nat.mod_lt _ hpos) hY,by rw [← HGG.out,Nat.gcd_comm Y,← Nat.gcd_rec,Nat.gcd_comm],World.drewN_drewN _ _ _⟩
       case measure =>
        have e : ((X % Y : Nat) : Int)=(X : Int) % (Y : Int) := Int.natCast_emod _ _
        have := Nat.mod_lt X hpos
        simp only [intOf,← e]
        simp
        omega
end Go.Proofs.YtgkjeoeliehihaaGreatDoor
/- BK -/
namespace Go.Proofs.YtgkjeoeliehihaaGreatDoor
open Go.RowKit Cx
attribute [local go_sem ↓] Go.wp_at_zero Go.wp_at_succ
structure At2 (w : World) (g o : Nat) : Prop where
 c0 : ∃ x,w.cell? ⟨g,o,none⟩=some x
 c1 : ∃ x,w.cell? ⟨g,o+1,none⟩=some x
 f0 : w.frozen? ⟨g,o,none⟩=false
 f1 : w.frozen? ⟨g,o+1,none⟩=false
 lt : g < w.heap.size
theorem frozen_below {w w' : World} {p : Addr} (hb : Below w.heap.size w w') (h : p.block < w.heap.size) : w'.frozen? p=w.frozen? p := by
 simp [World.frozen?,hb.block p.block h]
theorem At2.below {w w' : World} {g o : Nat} (h : At2 w g o) (hb : Below w.heap.size w w') : At2 w' g o := by
 obtain ⟨⟨x0,h0⟩,⟨x1,h1⟩,f0,f1,hl⟩ := h
 refine ⟨⟨x0,by rw [hb.cell (p := ⟨g,o,none⟩) hl]; exact h0⟩,⟨x1,by rw [hb.cell (p := ⟨g,o+1,none⟩) hl]; exact h1⟩,?_,?_,Nat.lt_of_lt_of_le hl hb.size⟩
 ·rw [frozen_below hb (p := ⟨g,o,none⟩) hl]; exact f0
 ·rw [frozen_below hb (p := ⟨g,o+1,none⟩) hl]; exact f1
def IV (w : World) (p : Value) (z : Int) : Prop :=
 ∃ g o ao n c,p=.pointer (some ⟨g,o,none⟩)∧w.cell? ⟨g,o,none⟩=some (.bool (decide (z < 0)))∧w.cell? ⟨g,o+1,none⟩=some (.slice ao n c)∧NatN w (.slice ao n c) z.natAbs∧g < w.heap.size
theorem IV.below {w w' : World} {p : Value} {z : Int} (h : IV w p z) (hb : Below w.heap.size w w') : IV w' p z := by
 obtain ⟨g,o,ao,n,c,rfl,h0,h1,h2,hl⟩ := h
 exact ⟨g,o,ao,n,c,rfl,(hb.cell (p := ⟨g,o,none⟩) hl).trans h0,(hb.cell (p := ⟨g,o+1,none⟩) hl).trans h1,h2.below hb,Nat.lt_of_lt_of_le hl hb.size⟩
def Gave (w : World) (g o : Nat) (z : Int) (w' : World) : Prop :=
 ∃ w1 ao n c,Below w.heap.size w w1∧w'=(w1.setCell ⟨g,o+1,none⟩ (.slice ao n c)).setCell ⟨g,o,none⟩ (.bool (decide (z < 0)))∧NatN w1 (.slice ao n c) z.natAbs
theorem give_calls {w : World} {g o n : Nat} {ao : Option Addr} {c : Nat} (neg : Bool) (h : At2 w g o) :
  Calls Tryz.prog 130 #[.pointer (some ⟨g,o,none⟩),.bool neg,.slice ao n c] w fun e w' => e=.returned (.pointer (some ⟨g,o,none⟩))∧w'=(w.setCell ⟨g,o+1,none⟩ (.slice ao n c)).setCell ⟨g,o,none⟩ (.bool (neg && decide (0 < n))) := by
 obtain ⟨⟨x0,h0⟩,⟨x1,h1⟩,f0,f1,hl⟩ := h
 have k0 : ∀ v,(w.setCell ⟨g,o+1,none⟩ v).cell? ⟨g,o,none⟩=some x0 := fun v => by
  rw [World.cell?_setCell_other _ _ _ _ (by simp)]; exact h0
 have k1 : ∀ v,(w.setCell ⟨g,o+1,none⟩ v).frozen? ⟨g,o,none⟩=false := fun v => by
  simpa using f0
 cases neg
 ·go_enter Tryz.func130,Tryz.ntmps130
  go_wp2
  go_ret
  exact ⟨rfl,rfl⟩
 ·go_enter Tryz.func130,Tryz.ntmps130
  go_wp2
  go_ret
  exact ⟨rfl,by simp⟩
theorem natAbs_lt {n : Nat} : decide ((n : Int) < 0)=false := by simp
theorem setInt64_calls {w : World} {g o : Nat} (x : Nat) (hx : x < 9223372036854775808) (h : At2 w g o) :
  Calls Tryz.prog 131 #[.pointer (some ⟨g,o,none⟩),.int .i64 x] w fun e w' => e=.returned (.pointer (some ⟨g,o,none⟩))∧Gave w g o x w' := by
 have H := hideIt2 h
 clear h
 go_enter Tryz.func131,Tryz.ntmps131
 go_wp2_with fail
 refine (bigWords_calls x w (by omega)).mono ?_
 rintro e w1 ⟨hb1,v1,rfl,hv1⟩
 obtain ⟨ao,n,c,rfl,hn,_,_⟩ := big_len hv1
 have HV := hideIt2 hv1
 have HB := hideIt2 hb1
 clear hv1 hb1
 go_wp2_with fail
 refine (give_calls (n := n) (ao := ao) (c := c) false (H.out.below HB.out)).mono ?_
 rintro e w2 ⟨rfl,rfl⟩
 go_wp2
 go_ret
 exact ⟨rfl,w1,ao,n,c,HB.out,by rw [natAbs_lt],HV.out⟩
def Held (w : World) (g : Nat) : Prop := ∃ cs t,Blk w g cs t∧cs.all notLimb=true
theorem NatN.two {w : World} {v : Value} {n g i j : Nat} {x y : Value} (h : NatN w v n) (hh : Held w g) (hx : notLimb x=true) : NatN ((w.setCell ⟨g,i,none⟩ x).setCell ⟨g,j,none⟩ y) v n := by
 obtain ⟨cs,t,hb,hno⟩ := hh
 exact (h.other hb (noLimb_of hno) i x).other (hb.set i x) (noLimb_of (all_set hno i hx)) j y
def Own2 (w : World) (g : Nat) (z : Int) : Prop :=
 ∃ ao n c,Blk w g #[.bool (decide (z < 0)),.slice ao n c] 110∧NatN w (.slice ao n c) z.natAbs
theorem Own2.below {w w' : World} {g : Nat} {z : Int} (h : Own2 w g z) (hb : Below w.heap.size w w') : Own2 w' g z := by
 obtain ⟨ao,n,c,h0,h1⟩ := h
 exact ⟨ao,n,c,h0.below hb h0.lt,h1.below hb⟩
theorem Own2.iv {w : World} {g : Nat} {z : Int} (h : Own2 w g z) : IV w (.pointer (some ⟨g,0,none⟩)) z := by
 obtain ⟨ao,n,c,h0,h1⟩ := h
 exact ⟨g,0,ao,n,c,rfl,h0.cell 0,h0.cell 1,h1,h0.lt⟩
theorem At2.blk {w : World} {g : Nat} {x0 x1 : Value} {t : TypeId} (h : Blk w g #[x0,x1] t) : At2 w g 0 := ⟨⟨_,h.cell 0⟩,⟨_,h.cell 1⟩,h.frozen 0,h.frozen 1,h.lt⟩
theorem Gave.own {w w' : World} {g : Nat} {z : Int} {b : Bool} {a : Option Addr} {n c : Nat} (h : Gave w g 0 z w') (hb : Blk w g #[.bool b,.slice a n c] 110) : Own2 w' g z∧∀ B,B≤g→B≤w.heap.size→Below B w w' := by
 obtain ⟨w1,ao,n',c',hbl,rfl,hn⟩ := h
 have hb1 := hb.below hbl hb.lt
 refine ⟨⟨ao,n',c',?_,hn.two ⟨_,_,hb1,by simp [notLimb]⟩ rfl⟩,fun B h1 h2 => ?_⟩
 ·have := (hb1.set 1 (.slice ao n' c')).set 0 (.bool (decide (z < 0)))
  simpa using this
 ·exact Below.set (Below.set (hbl.mono h2) h1 _ _) h1 _ _
theorem newInt_calls (x : Nat) (hx : x < 9223372036854775808) (w : World) :
  Calls Tryz.prog 92 #[.int .i64 x] w fun e w' => Below w.heap.size w w'∧∃ g,e=.returned (.pointer (some ⟨g,0,none⟩))∧w.heap.size≤g∧Own2 w' g x := by
 have hk := Blk.new w #[.bool false,.slice none 0 0] 110
 have hb := below_new w (.cells #[.bool false,.slice none 0 0] 110)
 go_enter Tryz.func92,Tryz.ntmps92
 go_wp2_with fail
 refine (setInt64_calls x hx (At2.blk hk)).mono ?_
 rintro e w2 ⟨rfl,hg⟩
 obtain ⟨ho,hbl⟩ := hg.own hk
 have HO := hideIt2 ho
 have HB := hideIt2 (hb.trans (hbl _ (Nat.le_refl _) hb.size))
 clear ho hbl hg hk hb
 go_wp2
 go_ret
 exact ⟨HB.out,w.heap.size,rfl,Nat.le_refl _,HO.out⟩
theorem give_sign {z : Int} {n : Nat} (b : Bool) (h : n=0 ↔ z.natAbs=0) (hb : z ≠ 0→b=decide (z < 0)) : (b && decide (0 < n))=decide (z < 0) := by
 by_cases h0 : z=0
 ·have : n=0 := h.2 (by omega)
  subst this
  subst h0
  simp
 ·have : 0 < n := by omega
  rw [hb h0]
  simp [this]
def Apart (p : Value) (g : Nat) : Prop := ∀ g1 o1 t,p=.pointer (some ⟨g1,o1,t⟩)→g1 ≠ g
theorem cell_two {w : World} {g g' i j k : Nat} {v0 v1 : Value} (hne : g' ≠ g) : ((w.setCell ⟨g,i,none⟩ v0).setCell ⟨g,j,none⟩ v1).cell? ⟨g',k,none⟩=w.cell? ⟨g',k,none⟩ := by
 have h : ∀ (w : World) (i : Nat) (x : Value),(w.setCell ⟨g,i,none⟩ x).cell? ⟨g',k,none⟩=w.cell? ⟨g',k,none⟩ := fun w i x => World.cell?_setCell_other _ _ _ _ (by first | exact fun e => hne (congrArg Addr.block e) | exact fun e => hne (congrArg Addr.block e).symm)
 rw [h,h]
theorem mul_sign {x y : Int} (h : x*y ≠ 0) : (!decide (x < 0) == decide (y < 0))=decide (x*y < 0) := by
 have hx : x ≠ 0 := fun e => h (by rw [e,Int.zero_mul])
 have hy : y ≠ 0 := fun e => h (by rw [e,Int.mul_zero])
 rcases Int.lt_or_lt_of_ne hx with h1 | h1 <;> rcases Int.lt_or_lt_of_ne hy with h2 | h2
 ·have := Int.mul_pos_of_neg_of_neg h1 h2
  simp [h1,h2,Int.not_lt.2 (Int.le_of_lt this)]
 ·have := Int.mul_neg_of_neg_of_pos h1 h2
  simp [h1,Int.not_lt.2 (Int.le_of_lt h2),this]
 ·have := Int.mul_neg_of_pos_of_neg h1 h2
  simp [h2,Int.not_lt.2 (Int.le_of_lt h1),this]
 ·have := Int.mul_pos h1 h2
  simp [Int.not_lt.2 (Int.le_of_lt h1),Int.not_lt.2 (Int.le_of_lt h2),Int.not_lt.2 (Int.le_of_lt this)]
theorem intMul_calls {w : World} {g o : Nat} {px py : Value} {x y : Int} (h : At2 w g o) (hx : IV w px x) (hy : IV w py y) (ax : Apart px g) (ay : Apart py g) (sx : Small x.natAbs) (sy : Small y.natAbs) :
  Calls Tryz.prog 95 #[.pointer (some ⟨g,o,none⟩),px,py] w fun e w' => e=.returned (.pointer (some ⟨g,o,none⟩))∧Gave w g o (x*y) w' := by
 obtain ⟨g1,o1,a1,n1,c1,rfl,x0,x1,x2,xl⟩ := hx
 obtain ⟨g2,o2,a2,n2,c2,rfl,y0,y1,y2,yl⟩ := hy
 have H := hideIt2 h
 have HX := hideIt2 x2
 have HY := hideIt2 y2
 have SX := hideIt2 sx
 have SY := hideIt2 sy
 have HS : Hid (∀ w',Below w.heap.size w w'→w'.cell? ⟨g1,o1,none⟩=some (.bool (decide (x < 0)))∧w'.cell? ⟨g1,o1+1,none⟩=some (.slice a1 n1 c1)∧w'.cell? ⟨g2,o2,none⟩=some (.bool (decide (y < 0)))∧w'.cell? ⟨g2,o2+1,none⟩=some (.slice a2 n2 c2)) := fun w' hb => ⟨(hb.cell (p := ⟨g1,o1,none⟩) xl).trans x0,(hb.cell (p := ⟨g1,o1+1,none⟩) xl).trans x1,(hb.cell (p := ⟨g2,o2,none⟩) yl).trans y0,(hb.cell (p := ⟨g2,o2+1,none⟩) yl).trans y1⟩
 have HSS : Hid (∀ w',Below w.heap.size w w'→∀ v0 v1 : Value,((w'.setCell ⟨g,o+1,none⟩ v0).setCell ⟨g,o,none⟩ v1).cell? ⟨g1,o1,none⟩=some (.bool (decide (x < 0)))∧((w'.setCell ⟨g,o+1,none⟩ v0).setCell ⟨g,o,none⟩ v1).cell? ⟨g1,o1+1,none⟩=some (.slice a1 n1 c1)∧((w'.setCell ⟨g,o+1,none⟩ v0).setCell ⟨g,o,none⟩ v1).cell? ⟨g2,o2,none⟩=some (.bool (decide (y < 0)))∧((w'.setCell ⟨g,o+1,none⟩ v0).setCell ⟨g,o,none⟩ v1).cell? ⟨g2,o2+1,none⟩=some (.slice a2 n2 c2)) := fun w' hb v0 v1 => by
  have h1 := ax g1 o1 none rfl
  have h2 := ay g2 o2 none rfl
  obtain ⟨e1,e2,e3,e4⟩ := HS.out w' hb
  exact ⟨(cell_two h1).trans e1,(cell_two h1).trans e2,(cell_two h2).trans e3,(cell_two h2).trans e4⟩
 clear h x2 y2 sx sy xl yl ax ay
 go_enter Tryz.func95,Tryz.ntmps95
 go_wp2_with fail
 go_region_held3 (fun w' => w'.cell? ⟨g1,o1,none⟩=some (.bool (decide (x < 0)))∧w'.cell? ⟨g1,o1+1,none⟩=some (.slice a1 n1 c1)∧w'.cell? ⟨g2,o2,none⟩=some (.bool (decide (y < 0)))∧w'.cell? ⟨g2,o2+1,none⟩=some (.slice a2 n2 c2)) (first | go_keep | exact hs1 | exact hkS)
  (first
   | (go_at_call 128; refine (bigMul_calls (w := w.drew) (HX.out.below (Below.drew (Below.refl _ _))) (HY.out.below (Below.drew (Below.refl _ _))) SX.out SY.out).mono ?_; rintro e w1 ⟨hb1,v1,rfl,hv1⟩; obtain ⟨ao,n,c,rfl,hn,hnb,hnz⟩ := big_len hv1; have hbl1 : Below w.heap.size w w1 := (Below.drew (Below.refl _ w)).trans hb1; have hs1 := HS.out w1 hbl1)
   | (go_at_call 130; refine (give_calls (n := n) (ao := ao) (c := c) _ (H.out.below hbl1)).mono ?_; rintro e w2 ⟨rfl,rfl⟩; have hkS := HSS.out w1 hbl1 (.slice ao n c) (.bool ((!decide (x < 0) == decide (y < 0)) && decide (0 < n))))
   )
 all_goals
  go_wp2
  go_ret
  refine ⟨rfl,w1,ao,n,c,hbl1,?_,by rw [Int.natAbs_mul]; exact hv1⟩
  rw [give_sign (z := x*y) _ (by rw [Int.natAbs_mul]; exact hnz) mul_sign]
end Go.Proofs.YtgkjeoeliehihaaGreatDoor
/- BL -/
namespace Go.Proofs.YtgkjeoeliehihaaGreatDoor
open Go.RowKit Cx
attribute [local go_sem ↓] Go.wp_at_zero Go.wp_at_succ
theorem intSet_calls {w : World} {g o : Nat} {px : Value} {x : Int} (h : At2 w g o) (hx : IV w px x) (ax : Apart px g) (sx : Small x.natAbs) :
  Calls Tryz.prog 132 #[.pointer (some ⟨g,o,none⟩),px] w fun e w' => e=.returned (.pointer (some ⟨g,o,none⟩))∧Gave w g o x w' := by
 obtain ⟨g1,o1,a1,n1,c1,rfl,x0,x1,x2,xl⟩ := hx
 have H := hideIt2 h
 have HX := hideIt2 x2
 have SX := hideIt2 sx
 have HS : Hid (∀ w',Below w.heap.size w w'→w'.cell? ⟨g1,o1,none⟩=some (.bool (decide (x < 0)))∧w'.cell? ⟨g1,o1+1,none⟩=some (.slice a1 n1 c1)) := fun w' hb => ⟨(hb.cell (p := ⟨g1,o1,none⟩) xl).trans x0,(hb.cell (p := ⟨g1,o1+1,none⟩) xl).trans x1⟩
 have HSS : Hid (∀ w',Below w.heap.size w w'→∀ v0 v1 : Value,((w'.setCell ⟨g,o+1,none⟩ v0).setCell ⟨g,o,none⟩ v1).cell? ⟨g1,o1,none⟩=some (.bool (decide (x < 0)))∧((w'.setCell ⟨g,o+1,none⟩ v0).setCell ⟨g,o,none⟩ v1).cell? ⟨g1,o1+1,none⟩=some (.slice a1 n1 c1)) := fun w' hb v0 v1 => by
  have h1 := ax g1 o1 none rfl
  obtain ⟨e1,e2⟩ := HS.out w' hb
  exact ⟨(cell_two h1).trans e1,(cell_two h1).trans e2⟩
 clear h x2 sx xl ax
 go_enter Tryz.func132,Tryz.ntmps132
 go_wp2_with fail
 go_region_held3 (fun w' => w'.cell? ⟨g1,o1,none⟩=some (.bool (decide (x < 0)))∧w'.cell? ⟨g1,o1+1,none⟩=some (.slice a1 n1 c1)) (first | go_keep | exact hs1 | exact hkS)
  (first
   | (go_at_call 135; refine (bigTwin_calls (w := w.drew) (HX.out.below (Below.drew (Below.refl _ _))) SX.out).mono ?_; rintro e w1 ⟨hb1,v1,rfl,hv1⟩; obtain ⟨ao,n,c,rfl,hn,hnb,hnz⟩ := big_len hv1; have hbl1 : Below w.heap.size w w1 := (Below.drew (Below.refl _ w)).trans hb1; have hs1 := HS.out w1 hbl1)
   | (go_at_call 130; refine (give_calls (n := n) (ao := ao) (c := c) _ (H.out.below hbl1)).mono ?_; rintro e w2 ⟨rfl,rfl⟩; have hkS := HSS.out w1 hbl1 (.slice ao n c) (.bool (decide (x < 0) && decide (0 < n))))
   )
 all_goals
  go_wp2
  go_ret
  refine ⟨rfl,w1,ao,n,c,hbl1,?_,hv1⟩
  rw [give_sign (z := x) _ hnz (fun _ => rfl)]
theorem sum_eq_calls {w : World} {va vb : Value} {a b : Nat} (s : Bool) (ha : NatN w va a) (hb : NatN w vb b) (sa : Small a) (sb : Small b) :
  Calls Tryz.prog 134 #[.bool s,va,.bool s,vb] w fun e w' => Below w.heap.size w w'∧∃ v,e=.returned (.tuple #[.bool s,v])∧NatN w' v (a+b) := by
 have HA := hideIt2 ha
 have HB := hideIt2 hb
 have SA := hideIt2 sa
 have SB := hideIt2 sb
 clear ha hb sa sb
 have hs : (s == s)=true := by simp
 go_enter Tryz.func134,Tryz.ntmps134
 go_wp2_with fail
 refine (bigAdd_calls HA.out HB.out SA.out SB.out).mono ?_
 rintro e w1 ⟨hb1,v1,rfl,hv1⟩
 go_wp2
 go_ret2
 exact ⟨hb1,v1,rfl,hv1⟩
theorem sum_ne_calls {w : World} {va vb : Value} {a b : Nat} (s : Bool) (ha : NatN w va a) (hb : NatN w vb b) (sa : Small a) (sb : Small b) :
  Calls Tryz.prog 134 #[.bool s,va,.bool (!s),vb] w fun e w' => Below w.heap.size w w'∧((b≤a∧∃ v,e=.returned (.tuple #[.bool s,v])∧NatN w' v (a - b)) ∨ (a < b∧∃ v,e=.returned (.tuple #[.bool (!s),v])∧NatN w' v (b - a))) := by
 have HC := hideIt2 (bigCmp_calls ha hb sa sb)
 have HA := hideIt2 ha
 have HB := hideIt2 hb
 have SA := hideIt2 sa
 have SB := hideIt2 sb
 clear ha hb sa sb
 have hs : (s == !s)=false := by cases s <;> rfl
 go_enter Tryz.func134,Tryz.ntmps134
 go_wp2_with fail
 refine Calls.mono HC.out ?_
 rintro e w1 ⟨hb1,c,rfl,hc1,hc2⟩
 have HA1 := hideIt2 (HA.out.below hb1)
 have HB1 := hideIt2 (HB.out.below hb1)
 by_cases hlt : a < b
 ·have hc : c < 0 := hc1.2 hlt
  clear hc1 hc2
  go_wp2_with fail
  refine (bigSub_calls HB1.out HA1.out SB.out (Nat.le_of_lt hlt)).mono ?_
  rintro e w2 ⟨hb2,v2,rfl,hv2⟩
  go_wp2
  go_ret2
  exact ⟨hb1.trans (hb2.mono hb1.size),Or.inr ⟨hlt,v2,rfl,hv2⟩⟩
 ·have hc : 0≤c := Int.not_lt.1 (fun h => hlt (hc1.1 h))
  clear hc1 hc2
  go_wp2_with fail
  refine (bigSub_calls HA1.out HB1.out SA.out (Nat.le_of_not_lt hlt)).mono ?_
  rintro e w2 ⟨hb2,v2,rfl,hv2⟩
  go_wp2
  go_ret2
  exact ⟨hb1.trans (hb2.mono hb1.size),Or.inl ⟨Nat.le_of_not_lt hlt,v2,rfl,hv2⟩⟩
def sv (s : Bool) (a : Nat) : Int := if s then -(a : Int) else a
theorem sv_abs (x : Int) : sv (decide (x < 0)) x.natAbs=x := by
 unfold sv
 by_cases h : x < 0
 ·rw [if_pos (decide_eq_true h)]; omega
 ·rw [if_neg (by simpa using h)]; omega
theorem sv_not (x : Int) : sv (!decide (x < 0)) x.natAbs=-x := by
 unfold sv
 by_cases h : x < 0
 ·rw [if_neg (by simpa using h)]; omega
 ·rw [if_pos (by simpa using h)]; omega
theorem sv_natAbs (s : Bool) (a : Nat) : (sv s a).natAbs=a := by
 cases s <;> simp [sv]
theorem sv_neg {s : Bool} {a : Nat} (h : sv s a ≠ 0) : s=decide (sv s a < 0) := by
 cases s
 ·simp [sv]
 ·simp [sv] at h ⊢
  omega
theorem bigSum_calls {w : World} {va vb : Value} {a b : Nat} (s t : Bool) (ha : NatN w va a) (hb : NatN w vb b) (sa : Small a) (sb : Small b) :
  Calls Tryz.prog 134 #[.bool s,va,.bool t,vb] w fun e w' => Below w.heap.size w w'∧∃ r v n,e=.returned (.tuple #[.bool r,v])∧NatN w' v n∧sv r n=sv s a+sv t b := by
 by_cases h : t=s
 ·subst h
  refine (sum_eq_calls t ha hb sa sb).mono ?_
  rintro e w' ⟨hb,v,rfl,hv⟩
  refine ⟨hb,t,v,_,rfl,hv,?_⟩
  cases t <;> simp [sv] <;> omega
 ·have ht : t=!s := by cases s <;> cases t <;> simp_all
  subst ht
  refine (sum_ne_calls s ha hb sa sb).mono ?_
  rintro e w' ⟨hb,⟨hle,v,rfl,hv⟩ | ⟨hlt,v,rfl,hv⟩⟩
  ·refine ⟨hb,s,v,_,rfl,hv,?_⟩
   cases s <;> simp [sv] <;> omega
  ·refine ⟨hb,!s,v,_,rfl,hv,?_⟩
   cases s <;> simp [sv] <;> omega
theorem intAdd_calls {w : World} {g o : Nat} {px py : Value} {x y : Int} (h : At2 w g o) (hx : IV w px x) (hy : IV w py y) (ax : Apart px g) (ay : Apart py g) (sx : Small x.natAbs) (sy : Small y.natAbs) :
  Calls Tryz.prog 94 #[.pointer (some ⟨g,o,none⟩),px,py] w fun e w' => e=.returned (.pointer (some ⟨g,o,none⟩))∧Gave w g o (x+y) w' := by
 obtain ⟨g1,o1,a1,n1,c1,rfl,x0,x1,x2,xl⟩ := hx
 obtain ⟨g2,o2,a2,n2,c2,rfl,y0,y1,y2,yl⟩ := hy
 have H := hideIt2 h
 have HX := hideIt2 x2
 have HY := hideIt2 y2
 have SX := hideIt2 sx
 have SY := hideIt2 sy
 have HS : Hid (∀ w',Below w.heap.size w w'→w'.cell? ⟨g1,o1,none⟩=some (.bool (decide (x < 0)))∧w'.cell? ⟨g1,o1+1,none⟩=some (.slice a1 n1 c1)∧w'.cell? ⟨g2,o2,none⟩=some (.bool (decide (y < 0)))∧w'.cell? ⟨g2,o2+1,none⟩=some (.slice a2 n2 c2)) := fun w' hb => ⟨(hb.cell (p := ⟨g1,o1,none⟩) xl).trans x0,(hb.cell (p := ⟨g1,o1+1,none⟩) xl).trans x1,(hb.cell (p := ⟨g2,o2,none⟩) yl).trans y0,(hb.cell (p := ⟨g2,o2+1,none⟩) yl).trans y1⟩
 have HSS : Hid (∀ w',Below w.heap.size w w'→∀ v0 v1 : Value,((w'.setCell ⟨g,o+1,none⟩ v0).setCell ⟨g,o,none⟩ v1).cell? ⟨g1,o1,none⟩=some (.bool (decide (x < 0)))∧((w'.setCell ⟨g,o+1,none⟩ v0).setCell ⟨g,o,none⟩ v1).cell? ⟨g1,o1+1,none⟩=some (.slice a1 n1 c1)∧((w'.setCell ⟨g,o+1,none⟩ v0).setCell ⟨g,o,none⟩ v1).cell? ⟨g2,o2,none⟩=some (.bool (decide (y < 0)))∧((w'.setCell ⟨g,o+1,none⟩ v0).setCell ⟨g,o,none⟩ v1).cell? ⟨g2,o2+1,none⟩=some (.slice a2 n2 c2)) := fun w' hb v0 v1 => by
  have h1 := ax g1 o1 none rfl
  have h2 := ay g2 o2 none rfl
  obtain ⟨e1,e2,e3,e4⟩ := HS.out w' hb
  exact ⟨(cell_two h1).trans e1,(cell_two h1).trans e2,(cell_two h2).trans e3,(cell_two h2).trans e4⟩
 clear h x2 y2 sx sy xl yl ax ay
 go_enter Tryz.func94,Tryz.ntmps94
 go_wp2_with fail
 go_region_held3 (fun w' => w'.cell? ⟨g1,o1,none⟩=some (.bool (decide (x < 0)))∧w'.cell? ⟨g1,o1+1,none⟩=some (.slice a1 n1 c1)∧w'.cell? ⟨g2,o2,none⟩=some (.bool (decide (y < 0)))∧w'.cell? ⟨g2,o2+1,none⟩=some (.slice a2 n2 c2)) (first | go_keep | exact hs1 | exact hkS)
  (first
   | (go_at_call 134; refine (bigSum_calls (w := w.drew) (decide (x < 0)) (decide (y < 0)) (HX.out.below (Below.drew (Below.refl _ _))) (HY.out.below (Below.drew (Below.refl _ _))) SX.out SY.out).mono ?_; rintro e w1 ⟨hb1,r,v1,k,rfl,hv1,hsv⟩; obtain ⟨ao,n,c,rfl,hn,hnb,hnz⟩ := big_len hv1; have hbl1 : Below w.heap.size w w1 := (Below.drew (Below.refl _ w)).trans hb1; have hs1 := HS.out w1 hbl1; rw [sv_abs,sv_abs] at hsv)
   | (go_at_call 130; refine (give_calls (n := n) (ao := ao) (c := c) r (H.out.below hbl1)).mono ?_; rintro e w2 ⟨rfl,rfl⟩; have hkS := HSS.out w1 hbl1 (.slice ao n c) (.bool (r && decide (0 < n))))
   )
 all_goals
  go_wp2
  go_ret
  have hz : sv r k=x+y := by rw [hsv]; try omega
  refine ⟨rfl,w1,ao,n,c,hbl1,?_,by rw [← hz,sv_natAbs]; exact hv1⟩
  rw [← hz,give_sign (z := sv r k) r (by rw [sv_natAbs]; exact hnz) sv_neg]
theorem intSub_calls {w : World} {g o : Nat} {px py : Value} {x y : Int} (h : At2 w g o) (hx : IV w px x) (hy : IV w py y) (ax : Apart px g) (ay : Apart py g) (sx : Small x.natAbs) (sy : Small y.natAbs) :
  Calls Tryz.prog 98 #[.pointer (some ⟨g,o,none⟩),px,py] w fun e w' => e=.returned (.pointer (some ⟨g,o,none⟩))∧Gave w g o (x - y) w' := by
 obtain ⟨g1,o1,a1,n1,c1,rfl,x0,x1,x2,xl⟩ := hx
 obtain ⟨g2,o2,a2,n2,c2,rfl,y0,y1,y2,yl⟩ := hy
 have H := hideIt2 h
 have HX := hideIt2 x2
 have HY := hideIt2 y2
 have SX := hideIt2 sx
 have SY := hideIt2 sy
 have HS : Hid (∀ w',Below w.heap.size w w'→w'.cell? ⟨g1,o1,none⟩=some (.bool (decide (x < 0)))∧w'.cell? ⟨g1,o1+1,none⟩=some (.slice a1 n1 c1)∧w'.cell? ⟨g2,o2,none⟩=some (.bool (decide (y < 0)))∧w'.cell? ⟨g2,o2+1,none⟩=some (.slice a2 n2 c2)) := fun w' hb => ⟨(hb.cell (p := ⟨g1,o1,none⟩) xl).trans x0,(hb.cell (p := ⟨g1,o1+1,none⟩) xl).trans x1,(hb.cell (p := ⟨g2,o2,none⟩) yl).trans y0,(hb.cell (p := ⟨g2,o2+1,none⟩) yl).trans y1⟩
 have HSS : Hid (∀ w',Below w.heap.size w w'→∀ v0 v1 : Value,((w'.setCell ⟨g,o+1,none⟩ v0).setCell ⟨g,o,none⟩ v1).cell? ⟨g1,o1,none⟩=some (.bool (decide (x < 0)))∧((w'.setCell ⟨g,o+1,none⟩ v0).setCell ⟨g,o,none⟩ v1).cell? ⟨g1,o1+1,none⟩=some (.slice a1 n1 c1)∧((w'.setCell ⟨g,o+1,none⟩ v0).setCell ⟨g,o,none⟩ v1).cell? ⟨g2,o2,none⟩=some (.bool (decide (y < 0)))∧((w'.setCell ⟨g,o+1,none⟩ v0).setCell ⟨g,o,none⟩ v1).cell? ⟨g2,o2+1,none⟩=some (.slice a2 n2 c2)) := fun w' hb v0 v1 => by
  have h1 := ax g1 o1 none rfl
  have h2 := ay g2 o2 none rfl
  obtain ⟨e1,e2,e3,e4⟩ := HS.out w' hb
  exact ⟨(cell_two h1).trans e1,(cell_two h1).trans e2,(cell_two h2).trans e3,(cell_two h2).trans e4⟩
 clear h x2 y2 sx sy xl yl ax ay
 go_enter Tryz.func98,Tryz.ntmps98
 go_wp2_with fail
 go_region_held3 (fun w' => w'.cell? ⟨g1,o1,none⟩=some (.bool (decide (x < 0)))∧w'.cell? ⟨g1,o1+1,none⟩=some (.slice a1 n1 c1)∧w'.cell? ⟨g2,o2,none⟩=some (.bool (decide (y < 0)))∧w'.cell? ⟨g2,o2+1,none⟩=some (.slice a2 n2 c2)) (first | go_keep | exact hs1 | exact hkS)
  (first
   | (go_at_call 134; refine (bigSum_calls (w := w.drew) (decide (x < 0)) (!decide (y < 0)) (HX.out.below (Below.drew (Below.refl _ _))) (HY.out.below (Below.drew (Below.refl _ _))) SX.out SY.out).mono ?_; rintro e w1 ⟨hb1,r,v1,k,rfl,hv1,hsv⟩; obtain ⟨ao,n,c,rfl,hn,hnb,hnz⟩ := big_len hv1; have hbl1 : Below w.heap.size w w1 := (Below.drew (Below.refl _ w)).trans hb1; have hs1 := HS.out w1 hbl1; rw [sv_abs,sv_not] at hsv)
   | (go_at_call 130; refine (give_calls (n := n) (ao := ao) (c := c) r (H.out.below hbl1)).mono ?_; rintro e w2 ⟨rfl,rfl⟩; have hkS := HSS.out w1 hbl1 (.slice ao n c) (.bool (r && decide (0 < n))))
   )
 all_goals
  go_wp2
  go_ret
  have hz : sv r k=x - y := by rw [hsv]; try omega
  refine ⟨rfl,w1,ao,n,c,hbl1,?_,by rw [← hz,sv_natAbs]; exact hv1⟩
  rw [← hz,give_sign (z := sv r k) r (by rw [sv_natAbs]; exact hnz) sv_neg]
end Go.Proofs.YtgkjeoeliehihaaGreatDoor
/- BM -/
namespace Go.Proofs.YtgkjeoeliehihaaGreatDoor
open Go.RowKit Cx
attribute [local go_sem ↓] Go.wp_at_zero Go.wp_at_succ
structure Save (g : Nat) (w w' : World) : Prop where
 os : w'.os=w.os
 tape : w'.tape=w.tape
 output : w'.output=w.output
 size : w.heap.size≤w'.heap.size
 block : ∀ k,k < w.heap.size→k ≠ g→w'.heap[k]? = w.heap[k]?
theorem Save.of {g : Nat} {w w' : World} (h : Below w.heap.size w w') : Save g w w' := ⟨h.os,h.tape,h.output,h.size,fun k hk _ => h.block k hk⟩
theorem Save.trans {g : Nat} {a b c : World} (h : Save g a b) (k : Save g b c) : Save g a c :=
 ⟨k.os.trans h.os,k.tape.trans h.tape,k.output.trans h.output,Nat.le_trans h.size k.size,fun i hi hne => (k.block i (Nat.lt_of_lt_of_le hi h.size) hne).trans (h.block i hi hne)⟩
theorem Save.set {g : Nat} {a w : World} (h : Save g a w) (j : Nat) (x : Value) : Save g a (w.setCell ⟨g,j,none⟩ x) := by
 have h0 : Below g w (w.setCell ⟨g,j,none⟩ x) := Below.set (Below.refl _ _) (Nat.le_refl _) j x
 exact ⟨h0.os.trans h.os,h0.tape.trans h.tape,h0.output.trans h.output,Nat.le_trans h.size h0.size,fun k hk hne => (Below.heap_setCell _ _ _ _ (by exact hne)).trans (h.block k hk hne)⟩
theorem Save.below {g B : Nat} {w w' : World} (h : Save g w w') (hB : B≤g) (hs : B≤w.heap.size) : Below B w w' := ⟨h.os,h.tape,h.output,h.size,fun k hk => h.block k (by omega) (by omega)⟩
theorem Save.cell {g : Nat} {w w' : World} (h : Save g w w') {p : Addr} (hp : p.block < w.heap.size) (hne : p.block ≠ g) : w'.cell? p=w.cell? p := by
 simp [World.cell?,h.block p.block hp hne]
theorem Save.blk {g g' : Nat} {w w' : World} {cs : Array Value} {t : TypeId} (h : Save g w w') (hb : Blk w g' cs t) (hne : g' ≠ g) : Blk w' g' cs t := (h.block g' hb.lt hne).trans hb
theorem NatN.save {w w' : World} {v : Value} {n g : Nat} (h : NatN w v n) (hh : Held w g) (hs : Save g w w') : NatN w' v n := by
 obtain ⟨l,⟨hl,⟨rfl,ao,cap,rfl⟩ | ⟨b,off,cap,rfl,hc,hm,hlt,hseg⟩⟩,t,rfl⟩ := h
 ·exact ⟨[],NatV.nil _ _ _,t,rfl⟩
 ·by_cases h0 : l.length=0
  ·have := List.length_eq_zero_iff.1 h0
   subst this
   exact ⟨[],NatV.nil _ _ _,t,rfl⟩
  ·have hne : b ≠ g := by
    rintro rfl
    obtain ⟨cs,t',hb,hno⟩ := hh
    have h1 := hseg 0 (by omega)
    rw [Nat.add_zero,hb.cell off] at h1
    exact (noLimb_of hno) off _ h1
   refine ⟨l,⟨hl,Or.inr ⟨b,off,cap,rfl,hc,hm,Nat.lt_of_lt_of_le hlt hs.size,fun j hj => ?_⟩⟩,t,rfl⟩
   rw [hs.cell (p := ⟨b,off+j,none⟩) hlt hne]
   exact hseg j hj
def RV (w : World) (g : Nat) (q : Rat) : Prop :=
 ∃ a1 l1 c1 a2 l2 c2,Blk w g #[.bool (decide (q.num < 0)),.slice a1 l1 c1,.bool false,.slice a2 l2 c2] 112∧NatN w (.slice a1 l1 c1) q.num.natAbs∧(NatN w (.slice a2 l2 c2) q.den ∨ (l2=0∧q=0))
theorem RV.held {w : World} {g : Nat} {q : Rat} (h : RV w g q) : Held w g := by
 obtain ⟨a1,l1,c1,a2,l2,c2,hb,_⟩ := h
 exact ⟨_,_,hb,by simp [notLimb]⟩
theorem RV.below {w w' : World} {g : Nat} {q : Rat} (h : RV w g q) (hb : Below w.heap.size w w') : RV w' g q := by
 obtain ⟨a1,l1,c1,a2,l2,c2,h0,h1,h2⟩ := h
 refine ⟨a1,l1,c1,a2,l2,c2,h0.below hb h0.lt,h1.below hb,?_⟩
 rcases h2 with h2 | h2
 ·exact Or.inl (h2.below hb)
 ·exact Or.inr h2
theorem RV.lt {w : World} {g : Nat} {q : Rat} (h : RV w g q) : g < w.heap.size := by
 obtain ⟨a1,l1,c1,a2,l2,c2,h0,_⟩ := h
 exact h0.lt
theorem RV.num {w : World} {g : Nat} {q : Rat} (h : RV w g q) : IV w (.pointer (some ⟨g,0,none⟩)) q.num := by
 obtain ⟨a1,l1,c1,a2,l2,c2,h0,h1,_⟩ := h
 exact ⟨g,0,a1,l1,c1,rfl,h0.cell 0,h0.cell 1,h1,h0.lt⟩
theorem den_calls {w : World} {g : Nat} {q : Rat} (h : RV w g q) :
  Calls Tryz.prog 96 #[.pointer (some ⟨g,0,none⟩)] w fun e w' => Below w.heap.size w w'∧∃ p,e=.returned p∧IV w' p q.den∧∀ g',g' ≠ g→g' < w.heap.size→Apart p g' := by
 obtain ⟨a1,l1,c1,a2,l2,c2,h0,h1,h2⟩ := h
 have HK := hideIt2 h0
 obtain ⟨x0,x1,x2,x3⟩ : w.cell? ⟨g,0,none⟩=_∧w.cell? ⟨g,1,none⟩=_∧w.cell? ⟨g,2,none⟩=_∧w.cell? ⟨g,3,none⟩=_ := ⟨h0.cell 0,h0.cell 1,h0.cell 2,h0.cell 3⟩
 by_cases hl : l2=0
 ·have hd : q.den=1 := by
   rcases h2 with h2 | ⟨_,rfl⟩
   ·exfalso
    obtain ⟨_,_,_,e,_,_,hz⟩ := big_len h2
    cases e
    exact q.den_nz (hz.1 hl)
   ·rfl
  subst hl
  have HD := hideIt2 hd
  clear h1 h2 hd h0
  go_enter Tryz.func96,Tryz.ntmps96
  go_wp2_with fail
  refine (newInt_calls 1 (by decide) w).mono ?_
  rintro e w1 ⟨hb1,g1,rfl,hg1,ho⟩
  have HO := hideIt2 ho
  have HB := hideIt2 hb1
  clear ho hb1
  go_wp2
  go_ret
  refine ⟨HB.out,_,rfl,?_,fun g' _ hlt g2 o2 t e => ?_⟩
  ·rw [HD.out]
   exact HO.out.iv
  ·cases e
   omega
 ·have hden : NatN w (.slice a2 l2 c2) q.den := by
   rcases h2 with h2 | ⟨h,_⟩
   ·exact h2
   ·exact absurd h hl
  have HD := hideIt2 hden
  have hne : ((l2 : Int) == 0)=false := beq_eq_false_iff_ne.mpr (by omega)
  clear h1 h2 hden h0
  go_enter Tryz.func96,Tryz.ntmps96
  go_wp2
  go_ret
  refine ⟨Below.refl _ _,_,rfl,⟨g,2,a2,l2,c2,rfl,?_,HK.out.cell 3,HD.out,HK.out.lt⟩,fun g' hne _ g2 o2 t e => ?_⟩
  ·rw [show decide ((q.den : Int) < 0)=false by simp]
   exact HK.out.cell 2
  ·cases e
   exact fun h => hne h.symm
end Go.Proofs.YtgkjeoeliehihaaGreatDoor
/- BN -/
namespace Go.Proofs.YtgkjeoeliehihaaGreatDoor
open Go.RowKit Cx
attribute [local go_sem ↓] Go.wp_at_zero Go.wp_at_succ
theorem one_word {w : World} {ao : Option Addr} {c n : Nat} (h : NatN w (.slice ao 1 c) n) : ∃ b o,(∀ wx,(Instr.indexAt 51 (.slice ao 1 c) (.int .i64 0)).run Tryz.prog wx=.ok (.pointer (some ⟨b,o,none⟩)) wx)∧w.cell? ⟨b,o,none⟩=some (.int .u32 (n : Int))∧b < w.heap.size∧n < 4294967296 := by
 obtain ⟨l,hl,t,rfl⟩ := h
 obtain ⟨ao',c',b,o,e,sl⟩ := hl.sl32
 simp only [Value.slice.injEq] at e
 obtain ⟨rfl,hlen,rfl⟩ := e
 obtain ⟨x,rfl⟩ := List.length_eq_one_iff.1 hlen.symm
 have e1 : val [x]=x := by simp [val]
 rw [e1]
 exact ⟨b,o,sl.idx 0 (by simp),sl.seg 0 (by simp),sl.lt (by simp),sl.lim.head⟩
theorem many_words {w : World} {ao : Option Addr} {l c n : Nat} (h : NatN w (.slice ao l c) n) (hl : l ≠ 1) : n ≠ 1 := by
 obtain ⟨ls,hv,t,rfl⟩ := h
 obtain ⟨ao',c',b,o,e,sl⟩ := hv.sl32
 cases e
 intro h
 by_cases h0 : ls.length=0
 ·rw [List.length_eq_zero_iff.1 h0,val_nil] at h
  omega
 ·have h1 := len_le t (show val ls < pw 1 by rw [h]; decide)
  omega
theorem mk_parts {z : Int} {b : Nat} (hb : 0 < b) : decide ((mkRat z b).num < 0)=decide (z < 0)∧(mkRat z b).num.natAbs=z.natAbs / Nat.gcd z.natAbs b∧(mkRat z b).den=b / Nat.gcd z.natAbs b := by
 rw [Rat.mkRat_def,dif_neg (by omega),Rat.normalize_eq]
 have hG : 0 < Nat.gcd z.natAbs b := Nat.gcd_pos_of_pos_right _ hb
 obtain ⟨k,hk⟩ : (Nat.gcd z.natAbs b : Int) ∣ z := Int.ofNat_dvd_left.2 (Nat.gcd_dvd_left _ _)
 show decide (z / (Nat.gcd z.natAbs b : Int) < 0)=_∧(z / (Nat.gcd z.natAbs b : Int)).natAbs=_∧b / Nat.gcd z.natAbs b=b / Nat.gcd z.natAbs b
 generalize Nat.gcd z.natAbs b=G at *
 have e1 : z / (G : Int)=k := by rw [hk,Int.mul_ediv_cancel_left _ (by omega)]
 have e2 : z.natAbs / G=k.natAbs := by rw [hk,Int.natAbs_mul,Int.natAbs_natCast,Nat.mul_div_cancel_left _ hG]
 rw [e1,e2]
 refine ⟨?_,rfl,rfl⟩
 have hGi : (0 : Int) < G := by omega
 by_cases h : k < 0
 ·have := Int.mul_neg_of_pos_of_neg hGi h
  rw [← hk] at this
  simp [h,this]
 ·have := Int.mul_nonneg (Int.le_of_lt hGi) (Int.not_lt.1 h)
  rw [← hk] at this
  simp [h,Int.not_lt.2 this]
theorem RV.mk {w : World} {g : Nat} {z : Int} {b : Nat} {a1 a2 : Option Addr} {l1 c1 l2 c2 : Nat} (hb : 0 < b) (hk : Blk w g #[.bool (decide (z < 0)),.slice a1 l1 c1,.bool false,.slice a2 l2 c2] 112) (h1 : NatN w (.slice a1 l1 c1) (z.natAbs / Nat.gcd z.natAbs b)) (h2 : NatN w (.slice a2 l2 c2) (b / Nat.gcd z.natAbs b)) : RV w g (mkRat z b) := by
 obtain ⟨e1,e2,e3⟩ := mk_parts (z := z) hb
 exact ⟨a1,l1,c1,a2,l2,c2,by rw [e1]; exact hk,by rw [e2]; exact h1,Or.inl (by rw [e3]; exact h2)⟩
theorem norm_walk {w : World} {g : Nat} {a1 a2 : Option Addr} {l1 c1 l2 c2 b : Nat} {z : Int} (hk : Blk w g #[.bool (decide (z < 0)),.slice a1 l1 c1,.bool false,.slice a2 l2 c2] 112) (ha : NatN w (.slice a1 l1 c1) z.natAbs) (hb : NatN w (.slice a2 l2 c2) b) (hb0 : 0 < b) (sa : Small z.natAbs) (sb : Small b) :
  Calls Tryz.prog 133 #[.pointer (some ⟨g,0,none⟩)] w fun e w' => e=.returned (.pointer (some ⟨g,0,none⟩))∧Save g w w'∧RV w' g (mkRat z b) := by
 obtain ⟨_,_,_,ea,hal,habig,haz⟩ := big_len ha
 obtain ⟨_,_,_,eb,hbl,hbbig,hbz⟩ := big_len hb
 cases ea
 cases eb
 have hl2 : l2 ≠ 0 := fun h => by have := hbz.1 h; omega
 have hne : ((l2 : Int) == 0)=false := beq_eq_false_iff_ne.mpr (by omega)
 have HK := hideIt2 hk
 have HA := hideIt2 ha
 have HB := hideIt2 hb
 have SA := hideIt2 sa
 have SB := hideIt2 sb
 have HZ := hideIt2 haz
 obtain ⟨x0,x1,x2,x3⟩ : w.cell? ⟨g,0,none⟩=_∧w.cell? ⟨g,1,none⟩=_∧w.cell? ⟨g,2,none⟩=_∧w.cell? ⟨g,3,none⟩=_ := ⟨hk.cell 0,hk.cell 1,hk.cell 2,hk.cell 3⟩
 clear hk ha hb sa sb habig hbbig haz hbz
 by_cases h1 : l1=0
 ·have hz : z=0 := by have := HZ.out.1 h1; omega
  subst h1
  subst hz
  have hat : At2 w g 2 := ⟨⟨_,HK.out.cell 2⟩,⟨_,HK.out.cell 3⟩,HK.out.frozen 2,HK.out.frozen 3,HK.out.lt⟩
  have HAT := hideIt2 hat
  clear hat
  go_enter Tryz.func133,Tryz.ntmps133
  go_wp2_with fail
  refine (setInt64_calls 1 (by decide) HAT.out).mono ?_
  rintro e w1 ⟨rfl,wz,ao,n,c,hbl1,rfl,hn⟩
  have HN := hideIt2 hn
  have HB1 := hideIt2 hbl1
  clear hn hbl1
  go_wp2
  go_ret
  have hkz := HK.out.below HB1.out HK.out.lt
  refine ⟨rfl,((Save.of HB1.out).set _ _).set _ _,a1,0,c1,ao,n,c,?_,?_,Or.inl ?_⟩
  ·have := (hkz.set 3 (.slice ao n c)).set 2 (.bool (decide (((1 : Nat) : Int) < 0)))
   simpa using this
  ·have := (HA.out.below HB1.out).two (g := g) (i := 3) (j := 2) (x := .slice ao n c) (y := .bool (decide (((1 : Nat) : Int) < 0))) ⟨_,_,hkz,by simp [notLimb]⟩ rfl
   simpa using this
  ·have := HN.out.two (g := g) (i := 3) (j := 2) (x := .slice ao n c) (y := .bool (decide (((1 : Nat) : Int) < 0))) ⟨_,_,hkz,by simp [notLimb]⟩ rfl
   simpa using this
 ·have hne1 : ((l1 : Int) == 0)=false := beq_eq_false_iff_ne.mpr (by omega)
  by_cases hone : b=1
  ·have hl21 : l2=1 := by
    by_cases h : l2=1
    ·exact h
    ·exact absurd hone (many_words HB.out h)
   subst hl21
   obtain ⟨b3,o3,hi3,hc3,hlt3,hs3⟩ := one_word HB.out
   rw [hone] at hc3
   go_enter Tryz.func133,Tryz.ntmps133
   go_wp2
   go_ret
   refine ⟨rfl,Save.of (Below.refl _ _),RV.mk hb0 HK.out ?_ ?_⟩
   ·rw [hone,Nat.gcd_one_right,Nat.div_one]; exact HA.out
   ·rw [show b / Nat.gcd z.natAbs b=b by rw [hone,Nat.gcd_one_right,Nat.div_one]]; exact HB.out
  ·by_cases hl21 : l2=1
   ·subst hl21
    obtain ⟨b3,o3,hi3,hc3,hlt3,hs3⟩ := one_word HB.out
    have hne3 : ((b : Int) == 1)=false := beq_eq_false_iff_ne.mpr (by omega)
    go_enter Tryz.func133,Tryz.ntmps133
    go_wp2_with fail
    have HS : Hid (∀ w',Below w.heap.size w w'→w'.cell? ⟨g,1,none⟩=some (.slice a1 l1 c1)∧w'.cell? ⟨g,3,none⟩=some (.slice a2 1 c2)) := fun w' hb => ⟨(HK.out.below hb HK.out.lt).cell 1,(HK.out.below hb HK.out.lt).cell 3⟩
    go_region_held3 (fun w' => w'.cell? ⟨g,1,none⟩=some (.slice a1 l1 c1)∧w'.cell? ⟨g,3,none⟩=some (.slice a2 1 c2)) (first | go_keep | exact hs1)
     (first
      | (go_at_call 155; refine (bigCommon_calls (w := w.drew) (HA.out.below (Below.drew (Below.refl _ _))) (HB.out.below (Below.drew (Below.refl _ _))) SA.out SB.out).mono ?_; rintro e w1 ⟨hb0',vg,rfl,hvg⟩; obtain ⟨ag,lg,cg,rfl,hgl,_,hgz⟩ := big_len hvg; have hb1 : Below w.heap.size w w1 := (Below.drew (Below.refl _ w)).trans hb0'; have hs1 := HS.out w1 hb1; clear hb0'))
    clear hs1
    have HG := hideIt2 hvg
    have HB1 := hideIt2 hb1
    have HK1 := hideIt2 (HK.out.below hb1 HK.out.lt)
    obtain ⟨k0,k1,k2,k3⟩ : w1.cell? ⟨g,0,none⟩=_∧w1.cell? ⟨g,1,none⟩=_∧w1.cell? ⟨g,2,none⟩=_∧w1.cell? ⟨g,3,none⟩=_ := ⟨HK1.out.cell 0,HK1.out.cell 1,HK1.out.cell 2,HK1.out.cell 3⟩
    have hG0 : 0 < Nat.gcd z.natAbs b := Nat.gcd_pos_of_pos_right _ hb0
    have HSG : Hid (Small (Nat.gcd z.natAbs b)) := small_of SB.out (Nat.le_of_dvd hb0 (Nat.gcd_dvd_right _ _))
    clear hvg hb1 hgz x0 x1 x2 x3
    by_cases hg1 : Nat.gcd z.natAbs b=1
    ·have hlg : lg=1 := by
      by_cases h : lg=1
      ·exact h
      ·exact absurd hg1 (many_words HG.out h)
     subst hlg
     obtain ⟨b4,o4,hi4,hc4,hlt4,hs4⟩ := one_word HG.out
     rw [hg1] at hc4
     go_wp2
     go_ret
     refine ⟨rfl,Save.of HB1.out,RV.mk hb0 HK1.out ?_ ?_⟩
     ·rw [hg1,Nat.div_one]; exact HA.out.below HB1.out
     ·rw [hg1,Nat.div_one]; exact HB.out.below HB1.out
    ·by_cases hlg : lg=1
     ·subst hlg
      obtain ⟨b4,o4,hi4,hc4,hlt4,hs4⟩ := one_word HG.out
      have hne4 : ((Nat.gcd z.natAbs b : Int) == 1)=false := beq_eq_false_iff_ne.mpr (by omega)
      go_wp2_with fail
      refine (bigDiv_calls (HA.out.below HB1.out) HG.out SA.out HSG.out hG0).mono ?_
      rintro e w2 ⟨hb2,vp,vr,rfl,hvp,_⟩
      obtain ⟨ap,lp,cp,rfl,hpl,_,_⟩ := big_len hvp
      have hbl2 := HB1.out.trans (hb2.mono HB1.out.size)
      have HP := hideIt2 hvp
      have HG2 := hideIt2 (HG.out.below hb2)
      have HK2 := hideIt2 (HK1.out.below hb2 HK1.out.lt)
      have HB2 := hideIt2 hbl2
      obtain ⟨m0,m1,m2,m3⟩ : w2.cell? ⟨g,0,none⟩=_∧w2.cell? ⟨g,1,none⟩=_∧w2.cell? ⟨g,2,none⟩=_∧w2.cell? ⟨g,3,none⟩=_ := ⟨HK2.out.cell 0,HK2.out.cell 1,HK2.out.cell 2,HK2.out.cell 3⟩
      clear hvp hb2 hbl2 k0 k1 k2 k3
      go_wp2_with fail
      refine (bigDiv_calls (HB.out.below HB2.out) HG2.out SB.out HSG.out hG0).mono ?_
      rintro e w3 ⟨hb3,vq,vr2,rfl,hvq,_⟩
      obtain ⟨aq,lq,cq,rfl,hql,_,_⟩ := big_len hvq
      have HQ := hideIt2 hvq
      have HP3 := hideIt2 (HP.out.below hb3)
      have HK3 := hideIt2 (HK2.out.below hb3 HK2.out.lt)
      have HB3 := hideIt2 (HB2.out.trans (hb3.mono HB2.out.size))
      have q1 := HK3.out.cell 1
      have f1 := HK3.out.frozen 1
      have HK4 := hideIt2 (HK3.out.set 1 (.slice ap lp cp))
      have q3 := HK4.out.cell 3
      have f3 := HK4.out.frozen 3
      clear hvq hb3 m0 m1 m2 m3
      go_wp2
      go_ret
      have hh : Held w3 g := ⟨_,_,HK3.out,by simp [notLimb]⟩
      refine ⟨rfl,((Save.of HB3.out).set _ _).set _ _,RV.mk hb0 (by have := HK4.out.set 3 (.slice aq lq cq); simpa using this) (HP3.out.two hh rfl) (HQ.out.two hh rfl)⟩
     ·have hne4 : ((lg : Int) == 1)=false := beq_eq_false_iff_ne.mpr (by omega)
      go_wp2_with fail
      refine (bigDiv_calls (HA.out.below HB1.out) HG.out SA.out HSG.out hG0).mono ?_
      rintro e w2 ⟨hb2,vp,vr,rfl,hvp,_⟩
      obtain ⟨ap,lp,cp,rfl,hpl,_,_⟩ := big_len hvp
      have hbl2 := HB1.out.trans (hb2.mono HB1.out.size)
      have HP := hideIt2 hvp
      have HG2 := hideIt2 (HG.out.below hb2)
      have HK2 := hideIt2 (HK1.out.below hb2 HK1.out.lt)
      have HB2 := hideIt2 hbl2
      obtain ⟨m0,m1,m2,m3⟩ : w2.cell? ⟨g,0,none⟩=_∧w2.cell? ⟨g,1,none⟩=_∧w2.cell? ⟨g,2,none⟩=_∧w2.cell? ⟨g,3,none⟩=_ := ⟨HK2.out.cell 0,HK2.out.cell 1,HK2.out.cell 2,HK2.out.cell 3⟩
      clear hvp hb2 hbl2 k0 k1 k2 k3
      go_wp2_with fail
      refine (bigDiv_calls (HB.out.below HB2.out) HG2.out SB.out HSG.out hG0).mono ?_
      rintro e w3 ⟨hb3,vq,vr2,rfl,hvq,_⟩
      obtain ⟨aq,lq,cq,rfl,hql,_,_⟩ := big_len hvq
      have HQ := hideIt2 hvq
      have HP3 := hideIt2 (HP.out.below hb3)
      have HK3 := hideIt2 (HK2.out.below hb3 HK2.out.lt)
      have HB3 := hideIt2 (HB2.out.trans (hb3.mono HB2.out.size))
      have q1 := HK3.out.cell 1
      have f1 := HK3.out.frozen 1
      have HK4 := hideIt2 (HK3.out.set 1 (.slice ap lp cp))
      have q3 := HK4.out.cell 3
      have f3 := HK4.out.frozen 3
      clear hvq hb3 m0 m1 m2 m3
      go_wp2
      go_ret
      have hh : Held w3 g := ⟨_,_,HK3.out,by simp [notLimb]⟩
      refine ⟨rfl,((Save.of HB3.out).set _ _).set _ _,RV.mk hb0 (by have := HK4.out.set 3 (.slice aq lq cq); simpa using this) (HP3.out.two hh rfl) (HQ.out.two hh rfl)⟩
   ·have hne3 : ((l2 : Int) == 1)=false := beq_eq_false_iff_ne.mpr (by omega)
    go_enter Tryz.func133,Tryz.ntmps133
    go_wp2_with fail
    have HS : Hid (∀ w',Below w.heap.size w w'→w'.cell? ⟨g,1,none⟩=some (.slice a1 l1 c1)∧w'.cell? ⟨g,3,none⟩=some (.slice a2 l2 c2)) := fun w' hb => ⟨(HK.out.below hb HK.out.lt).cell 1,(HK.out.below hb HK.out.lt).cell 3⟩
    go_region_held3 (fun w' => w'.cell? ⟨g,1,none⟩=some (.slice a1 l1 c1)∧w'.cell? ⟨g,3,none⟩=some (.slice a2 l2 c2)) (first | go_keep | exact hs1)
     (first
      | (go_at_call 155; refine (bigCommon_calls (w := w.drew) (HA.out.below (Below.drew (Below.refl _ _))) (HB.out.below (Below.drew (Below.refl _ _))) SA.out SB.out).mono ?_; rintro e w1 ⟨hb0',vg,rfl,hvg⟩; obtain ⟨ag,lg,cg,rfl,hgl,_,hgz⟩ := big_len hvg; have hb1 : Below w.heap.size w w1 := (Below.drew (Below.refl _ w)).trans hb0'; have hs1 := HS.out w1 hb1; clear hb0'))
    clear hs1
    have HG := hideIt2 hvg
    have HB1 := hideIt2 hb1
    have HK1 := hideIt2 (HK.out.below hb1 HK.out.lt)
    obtain ⟨k0,k1,k2,k3⟩ : w1.cell? ⟨g,0,none⟩=_∧w1.cell? ⟨g,1,none⟩=_∧w1.cell? ⟨g,2,none⟩=_∧w1.cell? ⟨g,3,none⟩=_ := ⟨HK1.out.cell 0,HK1.out.cell 1,HK1.out.cell 2,HK1.out.cell 3⟩
    have hG0 : 0 < Nat.gcd z.natAbs b := Nat.gcd_pos_of_pos_right _ hb0
    have HSG : Hid (Small (Nat.gcd z.natAbs b)) := small_of SB.out (Nat.le_of_dvd hb0 (Nat.gcd_dvd_right _ _))
    clear hvg hb1 hgz x0 x1 x2 x3
    by_cases hg1 : Nat.gcd z.natAbs b=1
    ·have hlg : lg=1 := by
      by_cases h : lg=1
      ·exact h
      ·exact absurd hg1 (many_words HG.out h)
     subst hlg
     obtain ⟨b4,o4,hi4,hc4,hlt4,hs4⟩ := one_word HG.out
     rw [hg1] at hc4
     go_wp2
     go_ret
     refine ⟨rfl,Save.of HB1.out,RV.mk hb0 HK1.out ?_ ?_⟩
     ·rw [hg1,Nat.div_one]; exact HA.out.below HB1.out
     ·rw [hg1,Nat.div_one]; exact HB.out.below HB1.out
    ·by_cases hlg : lg=1
     ·subst hlg
      obtain ⟨b4,o4,hi4,hc4,hlt4,hs4⟩ := one_word HG.out
      have hne4 : ((Nat.gcd z.natAbs b : Int) == 1)=false := beq_eq_false_iff_ne.mpr (by omega)
      go_wp2_with fail
      refine (bigDiv_calls (HA.out.below HB1.out) HG.out SA.out HSG.out hG0).mono ?_
      rintro e w2 ⟨hb2,vp,vr,rfl,hvp,_⟩
      obtain ⟨ap,lp,cp,rfl,hpl,_,_⟩ := big_len hvp
      have hbl2 := HB1.out.trans (hb2.mono HB1.out.size)
      have HP := hideIt2 hvp
      have HG2 := hideIt2 (HG.out.below hb2)
      have HK2 := hideIt2 (HK1.out.below hb2 HK1.out.lt)
      have HB2 := hideIt2 hbl2
      obtain ⟨m0,m1,m2,m3⟩ : w2.cell? ⟨g,0,none⟩=_∧w2.cell? ⟨g,1,none⟩=_∧w2.cell? ⟨g,2,none⟩=_∧w2.cell? ⟨g,3,none⟩=_ := ⟨HK2.out.cell 0,HK2.out.cell 1,HK2.out.cell 2,HK2.out.cell 3⟩
      clear hvp hb2 hbl2 k0 k1 k2 k3
      go_wp2_with fail
      refine (bigDiv_calls (HB.out.below HB2.out) HG2.out SB.out HSG.out hG0).mono ?_
      rintro e w3 ⟨hb3,vq,vr2,rfl,hvq,_⟩
      obtain ⟨aq,lq,cq,rfl,hql,_,_⟩ := big_len hvq
      have HQ := hideIt2 hvq
      have HP3 := hideIt2 (HP.out.below hb3)
      have HK3 := hideIt2 (HK2.out.below hb3 HK2.out.lt)
      have HB3 := hideIt2 (HB2.out.trans (hb3.mono HB2.out.size))
      have q1 := HK3.out.cell 1
      have f1 := HK3.out.frozen 1
      have HK4 := hideIt2 (HK3.out.set 1 (.slice ap lp cp))
      have q3 := HK4.out.cell 3
      have f3 := HK4.out.frozen 3
      clear hvq hb3 m0 m1 m2 m3
      go_wp2
      go_ret
      have hh : Held w3 g := ⟨_,_,HK3.out,by simp [notLimb]⟩
      refine ⟨rfl,((Save.of HB3.out).set _ _).set _ _,RV.mk hb0 (by have := HK4.out.set 3 (.slice aq lq cq); simpa using this) (HP3.out.two hh rfl) (HQ.out.two hh rfl)⟩
     ·have hne4 : ((lg : Int) == 1)=false := beq_eq_false_iff_ne.mpr (by omega)
      go_wp2_with fail
      refine (bigDiv_calls (HA.out.below HB1.out) HG.out SA.out HSG.out hG0).mono ?_
      rintro e w2 ⟨hb2,vp,vr,rfl,hvp,_⟩
      obtain ⟨ap,lp,cp,rfl,hpl,_,_⟩ := big_len hvp
      have hbl2 := HB1.out.trans (hb2.mono HB1.out.size)
      have HP := hideIt2 hvp
      have HG2 := hideIt2 (HG.out.below hb2)
      have HK2 := hideIt2 (HK1.out.below hb2 HK1.out.lt)
      have HB2 := hideIt2 hbl2
      obtain ⟨m0,m1,m2,m3⟩ : w2.cell? ⟨g,0,none⟩=_∧w2.cell? ⟨g,1,none⟩=_∧w2.cell? ⟨g,2,none⟩=_∧w2.cell? ⟨g,3,none⟩=_ := ⟨HK2.out.cell 0,HK2.out.cell 1,HK2.out.cell 2,HK2.out.cell 3⟩
      clear hvp hb2 hbl2 k0 k1 k2 k3
      go_wp2_with fail
      refine (bigDiv_calls (HB.out.below HB2.out) HG2.out SB.out HSG.out hG0).mono ?_
      rintro e w3 ⟨hb3,vq,vr2,rfl,hvq,_⟩
      obtain ⟨aq,lq,cq,rfl,hql,_,_⟩ := big_len hvq
      have HQ := hideIt2 hvq
      have HP3 := hideIt2 (HP.out.below hb3)
      have HK3 := hideIt2 (HK2.out.below hb3 HK2.out.lt)
      have HB3 := hideIt2 (HB2.out.trans (hb3.mono HB2.out.size))
      have q1 := HK3.out.cell 1
      have f1 := HK3.out.frozen 1
      have HK4 := hideIt2 (HK3.out.set 1 (.slice ap lp cp))
      have q3 := HK4.out.cell 3
      have f3 := HK4.out.frozen 3
      clear hvq hb3 m0 m1 m2 m3
      go_wp2
      go_ret
      have hh : Held w3 g := ⟨_,_,HK3.out,by simp [notLimb]⟩
      refine ⟨rfl,((Save.of HB3.out).set _ _).set _ _,RV.mk hb0 (by have := HK4.out.set 3 (.slice aq lq cq); simpa using this) (HP3.out.two hh rfl) (HQ.out.two hh rfl)⟩
end Go.Proofs.YtgkjeoeliehihaaGreatDoor
/- BO -/
namespace Go.Proofs.YtgkjeoeliehihaaGreatDoor
open Go.RowKit Cx
attribute [local go_sem ↓] Go.wp_at_zero Go.wp_at_succ
theorem IV.apart {w : World} {p : Value} {z : Int} {g : Nat} (h : IV w p z) (hg : w.heap.size≤g) : Apart p g := by
 obtain ⟨g1,o1,_,_,_,rfl,_,_,_,hl⟩ := h
 intro g2 o2 t e
 cases e
 omega
theorem setFrac_walk {w : World} {g : Nat} {y0 y1 y2 y3 : Value} {pa pb : Value} {z : Int} {b : Nat} (hk : Blk w g #[y0,y1,y2,y3] 112) (hno : (#[y0,y1,y2,y3] : Array Value).all notLimb=true) (ha : IV w pa z) (hb : IV w pb b) (hb0 : 0 < b) (sa : Small z.natAbs) (sb : Small b) :
  Calls Tryz.prog 93 #[.pointer (some ⟨g,0,none⟩),pa,pb] w fun e w' => e=.returned (.pointer (some ⟨g,0,none⟩))∧Save g w w'∧RV w' g (mkRat z b) := by
 have HA := hideIt2 ha
 have HB := hideIt2 hb
 obtain ⟨g2,o2,a2,n2,c2,rfl,z0,z1,z2,zl⟩ := hb
 have hn2 : n2 ≠ 0 := fun h => by
  obtain ⟨_,_,_,e,_,_,hz⟩ := big_len z2
  cases e
  have := hz.1 h
  omega
 have hne : ((n2 : Int) == 0)=false := beq_eq_false_iff_ne.mpr (by omega)
 have HK := hideIt2 hk
 have SA := hideIt2 sa
 have SB := hideIt2 sb
 clear hk ha sa sb z2
 go_enter Tryz.func93,Tryz.ntmps93
 go_wp2_with fail
 have hkp := Blk.new w #[.bool false,.slice none 0 0] 110
 have hbp := below_new w (.cells #[.bool false,.slice none 0 0] 110)
 refine (intSet_calls (At2.blk hkp) (HA.out.below hbp) (HA.out.apart (Nat.le_refl _)) SA.out).mono ?_
 rintro e w1 ⟨rfl,hg⟩
 obtain ⟨ho,hbl⟩ := hg.own hkp
 have hb1 := hbp.trans (hbl _ (Nat.le_refl _) hbp.size)
 obtain ⟨gp,hgp⟩ : ∃ gp,gp=w.heap.size := ⟨_,rfl⟩
 rw [← hgp] at ho ⊢
 have HOP := hideIt2 ho
 have HB1 := hideIt2 hb1
 have HGP := hideIt2 hgp
 clear ho hbl hg hkp hbp hb1 hgp
 go_wp2_with fail
 have hkq := Blk.new w1 #[.bool false,.slice none 0 0] 110
 have hbq := below_new w1 (.cells #[.bool false,.slice none 0 0] 110)
 have HBq : Hid (Below w.heap.size w (w1.alloc (.cells #[.bool false,.slice none 0 0] 110))) := HB1.out.trans (hbq.mono HB1.out.size)
 refine (intSet_calls (x := (b : Int)) (At2.blk hkq) (HB.out.below HBq.out) (HB.out.apart HB1.out.size) (by simpa using SB.out)).mono ?_
 rintro e w2 ⟨rfl,hg⟩
 obtain ⟨ho,hbl⟩ := hg.own hkq
 have hb2 := hbq.trans (hbl _ (Nat.le_refl _) hbq.size)
 have HGQ : Hid (w.heap.size≤w1.heap.size) := HB1.out.size
 obtain ⟨gq,hgq⟩ : ∃ gq,gq=w1.heap.size := ⟨_,rfl⟩
 rw [← hgq] at ho HGQ ⊢
 have HOQ := hideIt2 ho
 have HOP2 := hideIt2 (HOP.out.below hb2)
 have HB2 := hideIt2 (HB1.out.trans (hb2.mono HB1.out.size))
 have HK2 := hideIt2 (HK.out.below HB2.out HK.out.lt)
 have HNG : Hid (g ≠ gp∧g ≠ gq) := by
  have h1 := HK.out.lt
  have h2 := HGQ.out
  have h3 := HGP.out
  constructor <;> omega
 clear ho hbl hg hkq hbq hb2 hgq
 obtain ⟨ap,np,cp,kp,hnp⟩ := HOP2.out
 obtain ⟨aq,nq,cq,kq,hnq⟩ := HOQ.out
 have HNP := hideIt2 hnp
 have HNQ := hideIt2 hnq
 obtain ⟨p0,p1,_⟩ := kp.all2
 obtain ⟨m0,m1,m2,m3⟩ : w2.cell? ⟨g,0,none⟩=_∧w2.cell? ⟨g,1,none⟩=_∧w2.frozen? ⟨g,0,none⟩=_∧w2.frozen? ⟨g,1,none⟩=_ := ⟨HK2.out.cell 0,HK2.out.cell 1,HK2.out.frozen 0,HK2.out.frozen 1⟩
 have HKA := hideIt2 ((HK2.out.set 0 (.bool (decide (z < 0)))).set 1 (.slice ap np cp))
 obtain ⟨r0,r1,r2,r3⟩ : ((w2.setCell ⟨g,0,none⟩ (.bool (decide (z < 0)))).setCell ⟨g,1,none⟩ (.slice ap np cp)).cell? ⟨g,2,none⟩=_∧((w2.setCell ⟨g,0,none⟩ (.bool (decide (z < 0)))).setCell ⟨g,1,none⟩ (.slice ap np cp)).cell? ⟨g,3,none⟩=_∧((w2.setCell ⟨g,0,none⟩ (.bool (decide (z < 0)))).setCell ⟨g,1,none⟩ (.slice ap np cp)).frozen? ⟨g,2,none⟩=_∧((w2.setCell ⟨g,0,none⟩ (.bool (decide (z < 0)))).setCell ⟨g,1,none⟩ (.slice ap np cp)).frozen? ⟨g,3,none⟩=_ := ⟨HKA.out.cell 2,HKA.out.cell 3,HKA.out.frozen 2,HKA.out.frozen 3⟩
 have q0 : ((w2.setCell ⟨g,0,none⟩ (.bool (decide (z < 0)))).setCell ⟨g,1,none⟩ (.slice ap np cp)).cell? ⟨gq,0,none⟩=_ := (cell_two HNG.out.2.symm).trans (kq.cell 0)
 have q1 : ((w2.setCell ⟨g,0,none⟩ (.bool (decide (z < 0)))).setCell ⟨g,1,none⟩ (.slice ap np cp)).cell? ⟨gq,1,none⟩=_ := (cell_two HNG.out.2.symm).trans (kq.cell 1)
 clear hnp hnq kp kq
 go_wp2_with fail
 have HKB := hideIt2 ((HKA.out.set 2 (.bool (decide ((b : Int) < 0)))).set 3 (.slice aq nq cq))
 have hno2 : (#[y0,y1,y2,y3] : Array Value).all notLimb=true := hno
 have hh : Held w2 g := ⟨_,_,HK2.out,hno2⟩
 have hh2 : Held ((w2.setCell ⟨g,0,none⟩ (.bool (decide (z < 0)))).setCell ⟨g,1,none⟩ (.slice ap np cp)) g := ⟨_,_,HKA.out,all_set (all_set hno2 0 rfl) 1 rfl⟩
 have h1 := (HNP.out.two (i := 0) (j := 1) (x := .bool (decide (z < 0))) (y := .slice ap np cp) hh rfl).two (i := 2) (j := 3) (x := .bool (decide ((b : Int) < 0))) (y := .slice aq nq cq) hh2 rfl
 have h2 := (HNQ.out.two (i := 0) (j := 1) (x := .bool (decide (z < 0))) (y := .slice ap np cp) hh rfl).two (i := 2) (j := 3) (x := .bool (decide ((b : Int) < 0))) (y := .slice aq nq cq) hh2 rfl
 have hs : Save g w ((((w2.setCell ⟨g,0,none⟩ (.bool (decide (z < 0)))).setCell ⟨g,1,none⟩ (.slice ap np cp)).setCell ⟨g,2,none⟩ (.bool (decide ((b : Int) < 0)))).setCell ⟨g,3,none⟩ (.slice aq nq cq)) := ((((Save.of HB2.out).set _ _).set _ _).set _ _).set _ _
 have HSV := hideIt2 hs
 rw [Int.natAbs_natCast] at h2
 have hkb : Blk ((((w2.setCell ⟨g,0,none⟩ (.bool (decide (z < 0)))).setCell ⟨g,1,none⟩ (.slice ap np cp)).setCell ⟨g,2,none⟩ (.bool (decide ((b : Int) < 0)))).setCell ⟨g,3,none⟩ (.slice aq nq cq)) g #[.bool (decide (z < 0)),.slice ap np cp,.bool false,.slice aq nq cq] 112 := by
  have h : Blk ((((w2.setCell ⟨g,0,none⟩ (.bool (decide (z < 0)))).setCell ⟨g,1,none⟩ (.slice ap np cp)).setCell ⟨g,2,none⟩ (.bool (decide ((b : Int) < 0)))).setCell ⟨g,3,none⟩ (.slice aq nq cq)) g #[.bool (decide (z < 0)),.slice ap np cp,.bool (decide ((b : Int) < 0)),.slice aq nq cq] 112 := HKB.out
  have e : (#[.bool (decide (z < 0)),.slice ap np cp,.bool (decide ((b : Int) < 0)),.slice aq nq cq] : Array Value)=#[.bool (decide (z < 0)),.slice ap np cp,.bool false,.slice aq nq cq] := by
   rw [show decide ((b : Int) < 0)=false by simp]
  rwa [e] at h
 refine (norm_walk (z := z) (b := b) hkb h1 h2 hb0 SA.out SB.out).mono ?_
 rintro e w5 ⟨rfl,hsv,hrv⟩
 have HR := hideIt2 (And.intro (HSV.out.trans hsv) hrv)
 clear hsv hrv hs h1 h2 hh hh2
 go_wp2
 go_ret
 exact ⟨rfl,HR.out.1,HR.out.2⟩
end Go.Proofs.YtgkjeoeliehihaaGreatDoor
/- BP -/
namespace Go.Proofs.YtgkjeoeliehihaaGreatDoor
open Go.RowKit Cx
attribute [local go_sem ↓] Go.wp_at_zero Go.wp_at_succ
theorem Below.new {a w : World} (h : Below a.heap.size a w) (o : Obj) : Below a.heap.size a (w.alloc o) := h.alloc h.size o
theorem Own2.save {w w' : World} {g g' : Nat} {z : Int} (h : Own2 w g' z) (hne : g' ≠ g) (hh : Held w g) (hs : Save g w w') : Own2 w' g' z := by
 obtain ⟨ao,n,c,h0,h1⟩ := h
 exact ⟨ao,n,c,hs.blk h0 hne,h1.save hh hs⟩
theorem Own2.lt {w : World} {g : Nat} {z : Int} (h : Own2 w g z) : g < w.heap.size := by
 obtain ⟨ao,n,c,h0,_⟩ := h
 exact h0.lt
theorem Gave.save {w w' : World} {g o : Nat} {z : Int} (h : Gave w g o z w') : Save g w w' := by
 obtain ⟨w1,ao,n',c',hbl,rfl,hn⟩ := h
 exact ((Save.of hbl).set _ _).set _ _
theorem blk_old {w : World} {g : Nat} {cs : Array Value} {t : TypeId} (o : Obj) (h : Blk w g cs t) : Blk (w.alloc o) g cs t := h.below (below_new _ _) h.lt
theorem blk_at {w : World} {g : Nat} {cs : Array Value} {t : TypeId} (h : g=w.heap.size) : Blk (w.alloc (.cells cs t)) g cs t := by
 subst h
 exact Blk.new _ _ _
theorem early {w w1 w2 w3 : World} {g g' : Nat} {cs : Array Value} {t : TypeId} (hs : Save g w w1) (h2 : Below w1.heap.size w1 w2) (h3 : Below w2.heap.size w2 w3) (hb : Blk w g' cs t) (hne : g' ≠ g) : Blk w3 g' cs t := by
 have h1 := hs.blk hb hne
 have h2' := h1.below h2 h1.lt
 exact h2'.below h3 h2'.lt
theorem intMul_new {w : World} {g : Nat} {px py : Value} {x y : Int} (hk : Blk w g #[.bool false,.slice none 0 0] 110) (hx : IV w px x) (hy : IV w py y) (ax : Apart px g) (ay : Apart py g) (sx : Small x.natAbs) (sy : Small y.natAbs) :
  Calls Tryz.prog 95 #[.pointer (some ⟨g,0,none⟩),px,py] w fun e w' => e=.returned (.pointer (some ⟨g,0,none⟩))∧Save g w w'∧Own2 w' g (x*y)∧Held w g := by
 refine (intMul_calls (At2.blk hk) hx hy ax ay sx sy).mono ?_
 rintro e w' ⟨rfl,hg⟩
 exact ⟨rfl,hg.save,(hg.own hk).1,_,_,hk,by simp [notLimb]⟩
theorem small_num {k : Nat} {q : Rat} (f : QS k q) (hk : k≤35184372088640) : Small q.num.natAbs := small_two f.num hk
theorem small_den {k : Nat} {q : Rat} (f : QS k q) (hk : k≤35184372088640) : Small (q.den : Int).natAbs := by
 rw [Int.natAbs_natCast]
 exact small_two f.den hk
theorem ratMul_calls {w : World} {g gx gy : Nat} {y0 y1 y2 y3 : Value} {x y : Rat} {k l : Nat} (hk : Blk w g #[y0,y1,y2,y3] 112) (hno : (#[y0,y1,y2,y3] : Array Value).all notLimb=true) (hx : RV w gx x) (hy : RV w gy y) (fx : QS k x) (fy : QS l y) (hkl : k+l+1≤35184372088640) :
  Calls Tryz.prog 65 #[.pointer (some ⟨g,0,none⟩),.pointer (some ⟨gx,0,none⟩),.pointer (some ⟨gy,0,none⟩)] w fun e w' => e=.returned (.pointer (some ⟨g,0,none⟩))∧Save g w w'∧RV w' g (x*y) := by
 have LX := hideIt2 hx.lt
 have LY := hideIt2 hy.lt
 have LG := hideIt2 hk.lt
 have HX := hideIt2 hx
 have HY := hideIt2 hy
 have HK := hideIt2 hk
 have SX := hideIt2 (small_num fx (by omega))
 have SY := hideIt2 (small_num fy (by omega))
 have DX := hideIt2 (small_den fx (by omega))
 have DY := hideIt2 (small_den fy (by omega))
 have SN : Hid (Small (x.num*y.num).natAbs) := by
  show Small _
  rw [Int.natAbs_mul]
  exact small_two (k := k+l) (by rw [Nat.pow_add]; exact Nat.mul_lt_mul_of_lt_of_lt fx.num fy.num) (by omega)
 have SD : Hid (Small (x.den*y.den)) := small_two (k := k+l) (by rw [Nat.pow_add]; exact Nat.mul_lt_mul_of_lt_of_lt fx.den fy.den) (by omega)
 have HQ : Hid (x*y=mkRat (x.num*y.num) (x.den*y.den)) := by
  show _=_
  conv => lhs; rw [← Rat.mkRat_self x,← Rat.mkRat_self y]
  exact Rat.mkRat_mul_mkRat ..
 have HD0 : Hid (0 < x.den*y.den) := Nat.mul_pos x.den_pos y.den_pos
 clear hx hy hk fx fy
 go_enter Tryz.func65,Tryz.ntmps65
 go_wp2_with fail
 go_region_held3 (fun _ => True) (trivial)
  (first
   | (go_at_call_of 95 (Value.pointer (some { block := gx,off := 0 })); refine (intMul_new (by first | with_reducible exact Blk.new _ _ _ | (refine blk_at ?_; (first | with_reducible rfl | (simp; done))) | (refine blk_old _ (blk_at ?_); (first | with_reducible rfl | (simp; done)))) (RV.num (HX.out.below (by repeat' first | with_reducible exact hbl3 | with_reducible exact hbl2 | with_reducible exact hbl1 | with_reducible exact Below.refl _ _ | apply Below.new | apply Below.drew))) (RV.num (HY.out.below (by repeat' first | with_reducible exact hbl3 | with_reducible exact hbl2 | with_reducible exact hbl1 | with_reducible exact Below.refl _ _ | apply Below.new | apply Below.drew))) (HX.out.num.apart (by first | with_reducible exact Nat.le_refl _ | with_reducible exact hbl3.size | with_reducible exact hbl2.size | with_reducible exact hbl1.size | (simp; done) | (simp; omega))) (HY.out.num.apart (by first | with_reducible exact Nat.le_refl _ | with_reducible exact hbl3.size | with_reducible exact hbl2.size | with_reducible exact hbl1.size | (simp; done) | (simp; omega))) SX.out SY.out).mono ?_; rintro e w1 ⟨rfl,hsv1,ho1,_⟩; have hbl1 : Below w.heap.size w w1 := Below.trans (by repeat' first | with_reducible exact hbl3 | with_reducible exact hbl2 | with_reducible exact hbl1 | with_reducible exact Below.refl _ _ | apply Below.new | apply Below.drew) (hsv1.below (by first | with_reducible exact Nat.le_refl _ | with_reducible exact hbl3.size | with_reducible exact hbl2.size | with_reducible exact hbl1.size | (simp; done) | (simp; omega)) (by first | with_reducible exact Nat.le_refl _ | with_reducible exact hbl3.size | with_reducible exact hbl2.size | with_reducible exact hbl1.size | (simp; done) | (simp; omega))))
   | (go_at_call_of 96 (Value.pointer (some { block := gx,off := 0 })); refine (den_calls (HX.out.below (by repeat' first | with_reducible exact hbl3 | with_reducible exact hbl2 | with_reducible exact hbl1 | with_reducible exact Below.refl _ _ | apply Below.new | apply Below.drew))).mono ?_; rintro e w2 ⟨hb2,p1,rfl,hv2,hap2⟩; have hbl2 : Below w.heap.size w w2 := (fun (h : Below w.heap.size w _) => h.trans (hb2.mono h.size)) (by repeat' first | with_reducible exact hbl3 | with_reducible exact hbl2 | with_reducible exact hbl1 | with_reducible exact Below.refl _ _ | apply Below.new | apply Below.drew); have hc2 : Below w1.heap.size w1 w2 := (fun (h : Below w1.heap.size w1 _) => h.trans (hb2.mono h.size)) (by repeat' first | with_reducible exact Below.refl _ _ | apply Below.new | apply Below.drew); have ho2 := ho1.below hc2)
   | (go_at_call_of 96 (Value.pointer (some { block := gy,off := 0 })); refine (den_calls (HY.out.below (by repeat' first | with_reducible exact hbl3 | with_reducible exact hbl2 | with_reducible exact hbl1 | with_reducible exact Below.refl _ _ | apply Below.new | apply Below.drew))).mono ?_; rintro e w3 ⟨hb3,p2,rfl,hv3,hap3⟩; have hbl3 : Below w.heap.size w w3 := (fun (h : Below w.heap.size w _) => h.trans (hb3.mono h.size)) (by repeat' first | with_reducible exact hbl3 | with_reducible exact hbl2 | with_reducible exact hbl1 | with_reducible exact Below.refl _ _ | apply Below.new | apply Below.drew); have hc3 : Below w2.heap.size w2 w3 := (fun (h : Below w2.heap.size w2 _) => h.trans (hb3.mono h.size)) (by repeat' first | with_reducible exact Below.refl _ _ | apply Below.new | apply Below.drew); have ho3 := ho2.below hc3; have hv2' := hv2.below hc3)
   | (go_at_call 93; refine (setFrac_walk (z := x.num*y.num) (b := x.den*y.den) (HK.out.below hbl4 LG.out) hno hoA.iv (by have := ho4.iv; rwa [← Int.natCast_mul] at this) HD0.out SN.out SD.out).mono ?_; rintro e w5 ⟨rfl,hs5,hr5⟩)
   | (go_at_call_of 95 p1; have q0 := LX.out; have q00 := LY.out; have q1 := ho1.lt; have q2 := hc2.size; have q3 := hc3.size; have q4 := hbl1.size; have q5 := ho2.lt; have q6 := hb2.size; have q7 := hb3.size; have q8 := hsv1.size; (try simp at q8); (try simp at q6); (try simp at q7); refine Calls.mono (intMul_new (by first | with_reducible exact Blk.new w3 _ _ | with_reducible exact (Blk.new w2 _ _).below hb3 (Blk.new w2 _ _).lt | with_reducible exact ((Blk.new w1 _ _).below hb2 (Blk.new w1 _ _).lt).below hb3 (((Blk.new w1 _ _).below hb2 (Blk.new w1 _ _).lt).lt) | (refine early hsv1 hb2 hb3 (blk_at ?_) ?_ <;> (simp; done)) | (refine early hsv1 hb2 hb3 (blk_old _ (blk_at ?_)) ?_ <;> (simp; done))) (show IV _ p1 (x.den : Int) by first | with_reducible exact hv2' | exact hv2'.below (below_new _ _)) (show IV _ p2 (y.den : Int) by first | with_reducible exact hv3 | exact hv3.below (below_new _ _)) (by first | with_reducible exact hv2'.apart (Nat.le_refl _) | with_reducible exact hv2.apart (Nat.le_refl _) | exact hap2 _ (by omega) (by first | omega | (simp; done) | (simp; omega))) (by first | with_reducible exact hv3.apart (Nat.le_refl _) | exact hap3 _ (by omega) (by first | omega | (simp; done) | (simp; omega))) DX.out DY.out) ?_; rintro e w4 ⟨rfl,hsv4,ho4,hh4⟩; have hbl4 : Below w.heap.size w w4 := (fun (h : Below w.heap.size w _) => h.trans (hsv4.below (by first | with_reducible exact hbl3.size | with_reducible exact hbl2.size | with_reducible exact hbl1.size | omega | (simp; done)) h.size)) (by repeat' first | with_reducible exact hbl3 | with_reducible exact hbl2 | with_reducible exact hbl1 | with_reducible exact Below.refl _ _ | apply Below.new | apply Below.drew); have hoA : Own2 w4 _ (x.num*y.num) := (show Own2 _ _ (x.num*y.num) by first | with_reducible exact ho3 | exact ho3.below (below_new _ _)).save (by first | omega | (simp; done) | (simp; omega)) hh4 hsv4)
   )
 all_goals
  go_wp2
  go_ret
  exact ⟨rfl,(Save.of hbl4).trans hs5,by rw [HQ.out]; exact hr5⟩
end Go.Proofs.YtgkjeoeliehihaaGreatDoor
/- BTA -/
namespace Go.Proofs.YtgkjeoeliehihaaGreatDoor
open Go.RowKit Cx
attribute [local go_sem ↓] Go.wp_at_zero Go.wp_at_succ
theorem blk_bel {w w' : World} {g : Nat} {cs : Array Value} {t : TypeId} (hb : Below w.heap.size w w') (h : Blk w g cs t) : Blk w' g cs t := h.below hb h.lt
theorem blk_sav {w w' : World} {g g' : Nat} {cs : Array Value} {t : TypeId} (hs : Save g w w') (h : Blk w g' cs t) (hne : g' ≠ g) : Blk w' g' cs t := hs.blk h hne
theorem own_new {w : World} {g : Nat} {z : Int} (o : Obj) (h : Own2 w g z) : Own2 (w.alloc o) g z := h.below (below_new _ _)
theorem own_bel {w w' : World} {g : Nat} {z : Int} (hb : Below w.heap.size w w') (h : Own2 w g z) : Own2 w' g z := h.below hb
theorem own_sav {w w' : World} {g g' : Nat} {z : Int} (hs : Save g w w') (hh : Held w g) (h : Own2 w g' z) (hne : g' ≠ g) : Own2 w' g' z := h.save hne hh hs
theorem iv_new {w : World} {p : Value} {z : Int} (o : Obj) (h : IV w p z) : IV (w.alloc o) p z := h.below (below_new _ _)
theorem iv_bel {w w' : World} {p : Value} {z : Int} (hb : Below w.heap.size w w') (h : IV w p z) : IV w' p z := h.below hb
theorem blk_drew {w : World} {g : Nat} {cs : Array Value} {t : TypeId} (h : Blk w g cs t) : Blk w.drew g cs t := h.below (Below.drew (Below.refl _ _)) h.lt
theorem own_drew {w : World} {g : Nat} {z : Int} (h : Own2 w g z) : Own2 w.drew g z := h.below (Below.drew (Below.refl _ _))
theorem iv_drew {w : World} {p : Value} {z : Int} (h : IV w p z) : IV w.drew p z := h.below (Below.drew (Below.refl _ _))
theorem apart_ne {g g' o : Nat} (h : g' ≠ g) : Apart (.pointer (some ⟨g',o,none⟩)) g := by
 intro g1 o1 t e
 cases e
 exact h
theorem bel_sav {a w w' : World} {g : Nat} (h : Below a.heap.size a w) (hs : Save g w w') (hg : a.heap.size≤g) : Below a.heap.size a w' := h.trans (hs.below hg h.size)
theorem bel_bel {a w w' : World} (h : Below a.heap.size a w) (hs : Below w.heap.size w w') : Below a.heap.size a w' := h.trans (hs.mono h.size)
theorem ge_at {w a b : World} {g : Nat} (_ : Save g a b) (h : w.heap.size≤g) : w.heap.size≤g := h
theorem intAdd_new {w : World} {g : Nat} {px py : Value} {x y : Int} (hk : Blk w g #[.bool false,.slice none 0 0] 110) (hx : IV w px x) (hy : IV w py y) (ax : Apart px g) (ay : Apart py g) (sx : Small x.natAbs) (sy : Small y.natAbs) :
  Calls Tryz.prog 94 #[.pointer (some ⟨g,0,none⟩),px,py] w fun e w' => e=.returned (.pointer (some ⟨g,0,none⟩))∧Save g w w'∧Own2 w' g (x+y)∧Held w g := by
 refine (intAdd_calls (At2.blk hk) hx hy ax ay sx sy).mono ?_
 rintro e w' ⟨rfl,hg⟩
 exact ⟨rfl,hg.save,(hg.own hk).1,_,_,hk,by simp [notLimb]⟩
theorem intSub_new {w : World} {g : Nat} {px py : Value} {x y : Int} (hk : Blk w g #[.bool false,.slice none 0 0] 110) (hx : IV w px x) (hy : IV w py y) (ax : Apart px g) (ay : Apart py g) (sx : Small x.natAbs) (sy : Small y.natAbs) :
  Calls Tryz.prog 98 #[.pointer (some ⟨g,0,none⟩),px,py] w fun e w' => e=.returned (.pointer (some ⟨g,0,none⟩))∧Save g w w'∧Own2 w' g (x - y)∧Held w g := by
 refine (intSub_calls (At2.blk hk) hx hy ax ay sx sy).mono ?_
 rintro e w' ⟨rfl,hg⟩
 exact ⟨rfl,hg.save,(hg.own hk).1,_,_,hk,by simp [notLimb]⟩
theorem small_cross {x y : Rat} {k l : Nat} (fx : QS k x) (fy : QS l y) (hkl : k+l+1≤35184372088640) : Small (x.num*(y.den : Int)).natAbs := by
 rw [Int.natAbs_mul,Int.natAbs_natCast]
 exact small_two (k := k+l) (by rw [Nat.pow_add]; exact Nat.mul_lt_mul_of_lt_of_lt fx.num fy.den) (by omega)
theorem cross_lt {x y : Rat} {k l : Nat} (fx : QS k x) (fy : QS l y) : (x.num*(y.den : Int)).natAbs < 2 ^ (k+l) := by
 rw [Int.natAbs_mul,Int.natAbs_natCast,Nat.pow_add]
 exact Nat.mul_lt_mul_of_lt_of_lt fx.num fy.den
theorem small_crossAdd {x y : Rat} {k l : Nat} (fx : QS k x) (fy : QS l y) (hkl : k+l+1≤35184372088640) : Small (x.num*(y.den : Int)+y.num*(x.den : Int)).natAbs := by
 have h1 := cross_lt fx fy
 have h2 := cross_lt fy fx
 rw [Nat.add_comm l k] at h2
 exact small_two (k := k+l+1) (by rw [Nat.pow_succ]; omega) (by omega)
theorem small_crossSub {x y : Rat} {k l : Nat} (fx : QS k x) (fy : QS l y) (hkl : k+l+1≤35184372088640) : Small (x.num*(y.den : Int) - y.num*(x.den : Int)).natAbs := by
 have h1 := cross_lt fx fy
 have h2 := cross_lt fy fx
 rw [Nat.add_comm l k] at h2
 exact small_two (k := k+l+1) (by rw [Nat.pow_succ]; omega) (by omega)
theorem rat_crossAdd (x y : Rat) : x+y=mkRat (x.num*(y.den : Int)+y.num*(x.den : Int)) (x.den*y.den) := by
 conv => lhs; rw [← Rat.mkRat_self x,← Rat.mkRat_self y]
 exact Rat.mkRat_add_mkRat _ _ x.den_nz y.den_nz
theorem rat_crossSub (x y : Rat) : x - y=mkRat (x.num*(y.den : Int) - y.num*(x.den : Int)) (x.den*y.den) := by
 rw [Rat.sub_eq_add_neg]
 refine (rat_crossAdd x (-y)).trans ?_
 show mkRat (x.num*(y.den : Int)+(-y.num)*(x.den : Int)) (x.den*y.den)=_
 rw [Int.neg_mul,← Int.sub_eq_add_neg]
end Go.Proofs.YtgkjeoeliehihaaGreatDoor
