/- Part 3 of the walks and of the mathematics under them: BI. -/
import Derived.Test.YtnhplfjlhdpgoaaGreatDoorA2
import Derived.Test.YtnhplfjlhdpgoaaGreatDoorA1
import Derived.Deep.CutBlock
import Derived.Laws.CopyOwn
set_option maxHeartbeats 16000000
set_option maxRecDepth 100000
/- BI -/
namespace Go.Proofs.YtnhplfjlhdpgoaaGreatDoor
open Go.RowKit Cx
theorem Sl.below {w w' : World} {t : TypeId} {ao : Option Addr} {cap b off : Nat} {l : List Nat} (h : Sl w t ao cap l b off) (hb : Below w.heap.size w w') : Sl w' t ao cap l b off :=
 ⟨h.lim,h.idx,fun k hk => (hb.cell (p := ⟨b,off+k,none⟩) (h.lt (by omega))).trans (h.seg k hk),fun hk => Nat.lt_of_lt_of_le (h.lt hk) hb.size⟩
theorem SQ {g g' : Nat} {w w' : World} {l : List Nat} (h : Only g w w') (hr : Row w g' l) (hne : g' ≠ g) : Row w' g' l := by
 obtain ⟨sp,hr⟩ := hr
 exact ⟨sp,by rw [h.block g' hne,hr]⟩
theorem Bl {g b o : Nat} {w w' : World} {l : List Nat} (h : Only g w w') (hs : Seg w b o l) (hne : b ≠ g) : Seg w' b o l := fun j hj => (h.cell (p := ⟨b,o+j,none⟩) hne).trans (hs j hj)
theorem TJ {w : World} {g g' : Nat} {l : List Nat} (h : Row w g l) (hne : g' ≠ g) (j : Nat) (v : Value) : Row (w.setCell ⟨g',j,none⟩ v) g l := by
 obtain ⟨sp,h⟩ := h
 exact ⟨sp,by rw [Below.heap_setCell _ _ _ _ (by exact fun e => hne e.symm),h]⟩
theorem MT {w : World} {b o g' : Nat} {l : List Nat} (h : Seg w b o l) (hne : g' ≠ b) (j : Nat) (v : Value) : Seg (w.setCell ⟨g',j,none⟩ v) b o l := fun i hi => by
 rw [World.cell?_setCell_other _ _ _ _ (by first | exact fun e => hne (congrArg Addr.block e) | exact fun e => hne (congrArg Addr.block e).symm)]
 exact h i hi
theorem Mm {w : World} {g jj j y n : Nat} {p u s : List Nat} (h : Row w g (p ++ u ++ s)) (hp : p.length=jj) (hj : j < u.length) {z : Int} (hz : z=(y : Int)) : Row ((w.drewN n).setCell ⟨g,j+jj,none⟩ (.int .u32 z)) g (p ++ u.set j y ++ s) := by
 have h' : Row (w.drewN n) g (p ++ u ++ s) := h
 have := h'.midSet hj hz
 rwa [hp,Nat.add_comm] at this
theorem Mg (a b : List Nat) (G : Nat) : val (a.take 0)+G*val (b.take 0)=val (a.take 0)+(0+0)*pw 0 := by simp [val]
theorem CU (a b : List Nat) : val (a.take 0)+0*pw 0=val (a.take 0)+val (b.take 0) := by simp [val]
theorem Ac {cur U lv : List Nat} {m n G cy br br' out : Nat} (hn : n=m+1) (hl : cur.length=n) (hu : U.length=n) (hv : lv.length=m) (hG : nth cur m=nth U m)
  (HV : val (cur.take m)+G*val (lv.take m)=val (U.take m)+(cy+br)*pw m) (hsum : out+cy+br=nth cur m+4294967296*br') : val (cur.set m out)+G*val lv=val U+br'*pw n := by
 subst hn
 have h1 := Qo (l := cur) (k := m) (y := out) (by omega)
 rw [List.take_of_length_le (by rw [List.length_set]; omega)] at h1
 have h2 := Qf U m
 rw [List.take_of_length_le (by omega)] at h2
 have h3 := UC _ _ _ _ _ _ _ 0 _ 0 _ br' out HV (by simp) hsum
 rw [List.take_of_length_le (l := lv) (by omega)] at h3
 rw [h1,h2,Qx m,← hG]
 simpa using h3
theorem Az {cur u1 lv : List Nat} {m n cy y : Nat} (hn : n=m+1) (hl : cur.length=n) (hu : u1.length=n) (hv : lv.length=m) (hG : nth cur m=nth u1 m) (hy : y=(cy+nth cur m+0) % 4294967296)
  (HV : val (cur.take m)+cy*pw m=val (u1.take m)+val (lv.take m)) : val (cur.set m y)+(cy+nth cur m+0) / 4294967296*pw n=val u1+val lv := by
 subst hn
 have h1 := Qo (l := cur) (k := m) (y := y) (by omega)
 rw [List.take_of_length_le (by rw [List.length_set]; omega)] at h1
 have h2 := Qf u1 m
 rw [List.take_of_length_le (by omega)] at h2
 have h3 := ZQ _ _ _ _ (nth cur m) 0 _ HV
 rw [List.take_of_length_le (l := lv) (by omega)] at h3
 rw [h1,h2,Qx m,← hG,hy]
 simpa using h3
theorem Qb {p : Prop} (h : p) : Hid p := h
theorem MS {l : List Nat} {sh : Nat} (h : Lim l) (hs : sh < 32) : val l*2 ^ sh < pw (l.length+1) := by
 have h1 := ZB h
 have h2 : 2 ^ sh≤4294967296 := by
  have := Nat.pow_le_pow_right (n := 2) (by decide) (Nat.le_of_lt hs)
  simpa using this
 rw [Qx,Nat.mul_comm 4294967296]
 have := Nat.two_pow_pos sh
 exact Nat.mul_lt_mul_of_lt_of_le h1 h2 (by omega)
theorem RH {l : List Nat} {m sh k : Nat} (hm : l.length=m+2) (e1 : sh+k=31) (e3 : 2 ^ k≤nth l (m+1)) : 2147483648*pw (m+1)≤val l*2 ^ sh := by
 have h1 := Qf l (m+1)
 rw [List.take_of_length_le (by omega)] at h1
 have h2 : 2 ^ k*pw (m+1)≤val l := by
  rw [h1,Nat.mul_comm]
  have := Nat.mul_le_mul_left (pw (m+1)) e3
  omega
 have h3 := Nat.mul_le_mul_right (2 ^ sh) h2
 have h4 : 2 ^ k*pw (m+1)*2 ^ sh=2147483648*pw (m+1) := by
  rw [Nat.mul_right_comm,← Nat.pow_add,show k+sh=31 by omega]
 omega
theorem Mc {l : List Nat} {m sh k : Nat} (hl : Lim l) (hm : l.length=m+2) (e1 : sh+k=31) (e4 : nth l (m+1) < 2 ^ (k+1)) : val l*2 ^ sh < pw (m+2) := by
 have h1 := Qf l (m+1)
 rw [List.take_of_length_le (by omega)] at h1
 have h2 := Jl hl (m+1)
 have h3 : val l < 2 ^ (k+1)*pw (m+1) := by
  have : (nth l (m+1)+1)*pw (m+1)≤2 ^ (k+1)*pw (m+1) := Nat.mul_le_mul_right _ e4
  rw [Nat.add_mul,Nat.one_mul,Nat.mul_comm] at this
  omega
 have h4 := Nat.mul_lt_mul_of_pos_right h3 (Nat.two_pow_pos sh)
 have h5 : 2 ^ (k+1)*pw (m+1)*2 ^ sh=pw (m+2) := by
  rw [Nat.mul_right_comm,← Nat.pow_add,show k+1+sh=32 by omega,Qx (m+1)]
 omega
theorem Ci {l lv : List Nat} {m sh k : Nat} (hl : Lim l) (hm : l.length=m+2) (hv : Lim lv) (tv : Trim lv) (ev : val lv=val l*2 ^ sh) (e1 : sh+k=31) (e3 : 2 ^ k≤nth l (m+1)) (e4 : nth l (m+1) < 2 ^ (k+1)) : lv.length=m+2 := by
 have h1 := Mc hl hm e1 e4
 have h2 := RH hm e1 e3
 rw [← ev] at h1 h2
 have h3 := Wi tv h1
 have h4 : ¬ lv.length≤m+1 := fun h => by
  have h5 := ZB hv
  have h6 := YH h
  have := Xv (m+1)
  omega
 omega
theorem Fw {w : World} {ao bo : Option Addr} {ca cb b2 o2 m : Nat} {la lb : List Nat} (hla : Lim la) (ha : NatN w (.slice ao la.length ca) (val la)) (hb : Sl w 31 bo cb lb b2 o2) (hbn : NatN w (.slice bo lb.length cb) (val lb)) (hm : lb.length=m+2) (ht : nth lb (m+1) ≠ 0) (hN : 3≤la.length) (hnN : lb.length≤la.length) (hmax : la.length≤1099511627770) (sa : Small (val la)) (sb : Small (val lb)) (h : val lb≤val la) :
  Calls Tryz.prog 100 #[.slice ao la.length ca,.slice bo lb.length cb] w fun e w' => Below w.heap.size w w'∧∃ v1 v2,e=.returned (.tuple #[v1,v2])∧NatN w' v1 (val la / val lb)∧NatN w' v2 (val la % val lb) := by
 have HC : Hid _ := Xt ha hbn sa sb
 have HA : Hid (NatN w (.slice ao la.length ca) (val la)) := ha
 have HB : Hid (NatN w (.slice bo lb.length cb) (val lb)) := hbn
 have HSB : Hid (Sl w 31 bo cb lb b2 o2) := hb
 have SA : Hid (Small (val la)) := sa
 have SB : Hid (Small (val lb)) := sb
 have HT : Hid (nth lb (m+1) ≠ 0) := ht
 have HLB : Hid (Lim lb) := hb.lim
 have HLA : Hid (Lim la) := hla
 have HLE : Hid (val lb≤val la) := h
 have HM : Hid (lb.length=m+2) := hm
 have h2 : 2≤lb.length := by omega
 have xa : ((lb.length : Int) == 0)=false := beq_eq_false_iff_ne.mpr (by omega)
 have xb : ((lb.length : Int) == 1)=false := beq_eq_false_iff_ne.mpr (by omega)
 clear ha hbn hb sa sb ht hla h hm
 go_enter Tryz.func100,Tryz.ntmps100
 go_wp2_with fail
 refine Calls.mono HC.out ?_
 rintro e w1 ⟨hbl,c,rfl,hc1,hc2⟩
 have hc : ¬ c < 0 := fun h => by have := hc1.1 h; have := HLE.out; omega
 clear hc1 hc2 HC
 go_wp2_with fail
 refine (Ka (w := w1) (HSB.out.below hbl) (by omega) (m+1) HM.out HT.out).mono ?_
 rintro e w' ⟨hw,nb,rfl,hn1,hn2,hn3,hn4⟩
 subst hw
 obtain ⟨k,rfl⟩ : ∃ k,nb=k+1 := ⟨nb - 1,by omega⟩
 obtain ⟨L,hL⟩ : ∃ L : Nat,L=(m+1)*32+(k+1) := ⟨_,rfl⟩
 rw [← hL]
 have hL1 : 1≤L := by omega
 have hL2 : L≤35184372088640 := by have := HM.out; omega
 have hL3 : ((L : Int) - 1) % 32=(k : Int) := by omega
 have hL4 : ((L : Int) - 1).tmod 32=(k : Int) := by rw [Int.tmod_eq_emod_of_nonneg (by omega)]; exact hL3
 obtain ⟨sh,hsh⟩ : ∃ sh : Nat,sh=31 - k := ⟨_,rfl⟩
 have hk1 : (k : Int)=31 - (sh : Int) := by omega
 rw [hk1] at hL3 hL4
 have HK : Hid (sh+k=31∧L=(m+1)*32+(k+1)∧2 ^ k≤nth lb (m+1)∧nth lb (m+1) < 2 ^ (k+1)) := ⟨by omega,hL,by simpa using hn3,hn4⟩
 have hsl : sh < 32 := by omega
 clear hL hsh hk1 hn1 hn2 hn3 hn4
 go_wp2_with fail
 rw [show (32 - (31 - (sh : Int)) - 1)=(sh : Int) by omega]
 clear hL1 hL2 hL3 hL4 xa xb
 refine (WR (HB.out.below hbl) SB.out hsl).mono ?_
 rintro e w2 ⟨hb2,v,rfl,lv,hv,tv,ev⟩
 have hbl2 : Below w.heap.size w w2 := hbl.trans (hb2.mono hbl.size)
 have HLV : Hid (Lim lv) := hv.1
 have HEV : Hid (val lv=val lb*2 ^ sh) := ev
 have HLN : Hid (lv.length=m+2) := by
  obtain ⟨e1,e2,e3,e4⟩ := HK.out
  exact Ci HLB.out HM.out HLV.out tv ev e1 e3 e4
 have HTOP : Hid (2147483648*pw (m+1)≤val lv) := by
  obtain ⟨e1,e2,e3,e4⟩ := HK.out
  show _≤_
  rw [ev]
  exact RH HM.out e1 e3
 obtain ⟨_,⟨e0,_⟩ | ⟨b3,o3,cv,rfl,hcv,hmv,hltv,hsv⟩⟩ := hv
 ·have := HLN.out
  rw [e0] at this
  simp at this
 rw [HLN.out] at hcv ⊢
 have HSV : Hid (Seg w2 b3 o3 lv) := hsv
 clear tv ev hb2 hsv hcv hmv
 have hmk := Zy (t := 31) (by kernel_rfl) (la.length+2) (by omega)
 have ec : ((la.length+2 : Nat) : Int)=(la.length : Int)+2 := by omega
 rw [ec] at hmk
 clear ec
 go_wp2_with fail
 have hb3 := Qh w2 (.cells (Zu (List.replicate (la.length+2) 0)) 128)
 have hg3 : (w2.alloc (.cells (Zu (List.replicate (la.length+2) 0)) 128)).heap[w2.heap.size]? = some (.cells (Zu (List.replicate (la.length+2) 0)) 128 (0,0)) := by
  show (w2.heap.push _)[w2.heap.size]? = _
  simp
 have hlt3 : w2.heap.size < (w2.alloc (.cells (Zu (List.replicate (la.length+2) 0)) 128)).heap.size := by simp
 obtain ⟨w3,hw3⟩ : ∃ w3,w3=w2.alloc (.cells (Zu (List.replicate (la.length+2) 0)) 128) := ⟨_,rfl⟩
 obtain ⟨gu,hgu⟩ : ∃ gu,gu=w2.heap.size := ⟨_,rfl⟩
 rw [← hw3,← hgu] at hg3 hlt3
 rw [← hw3] at hb3
 rw [← hw3,← hgu]
 have hbl3 : Below w.heap.size w w3 := hbl2.trans (hb3.mono hbl2.size)
 clear hmk hw3
 refine (WR (HA.out.below hbl3) SA.out hsl).mono ?_
 rintro e w4 ⟨hb4,x,rfl,lx,hx,tx',ex⟩
 have hbl4 : Below w.heap.size w w4 := hbl3.trans (hb4.mono hbl3.size)
 have hb34 : Below w2.heap.size w2 w4 := hb3.trans (hb4.mono hb3.size)
 have hg4 := (hb4.block gu hlt3).trans hg3
 have HEX : Hid (val lx=val la*2 ^ sh) := ex
 have hlx : lx.length≤la.length+1 := Wi tx' (by rw [ex]; exact MS HLA.out hsl)
 obtain ⟨hlimx,⟨e0,_⟩ | ⟨b4,o4,cx,rfl,hcx,hmx,hltx,hsx⟩⟩ := hx
 ·exfalso
  have h1 := HEX.out
  rw [e0,Us] at h1
  have h2 := HTOP.out
  have h3 := HLE.out
  have h4 := Xv (m+1)
  have h5 := HEV.out
  have h6 := Nat.mul_le_mul_right (2 ^ sh) h3
  omega
 have HLX : Hid (Lim lx) := hlimx
 have hcells : ∀ j u,(lx.map fun x : Nat => Value.int .u32 (x : Int))[j]? = some u→w4.cell? ((⟨b4,o4,none⟩ : Addr).add j)=some u := by
  intro j u hj
  rw [List.getElem?_map,Option.map_eq_some_iff] at hj
  obtain ⟨x,hx,rfl⟩ := hj
  obtain ⟨hjl,hx⟩ := List.getElem?_eq_some_iff.1 hx
  have := hsx j hjl
  rw [Xx hjl,hx] at this
  simp only [Addr.add]
  split
  ·rename_i e; subst e; simpa using this
  ·exact this
 have HCE : Hid (∀ j u,(lx.map fun x : Nat => Value.int .u32 (x : Int))[j]? = some u→w4.cell? ((⟨b4,o4,none⟩ : Addr).add j)=some u) := hcells
 have h1c : ∀ u ∈ (lx.map fun x : Nat => Value.int .u32 (x : Int)),u.oneCell'=true := by
  intro u hu
  obtain ⟨x,_,rfl⟩ := List.mem_map.1 hu
  rfl
 have H1C := Qb h1c
 have HG4 : Hid (w4.heap[gu]? = some (.cells ((List.replicate (la.length+2) 0).map fun x : Nat => Value.int .u32 (x : Int)).toArray 128 (0,0))) := hg4
 clear hcells h1c tx' ex hg3 hg4 hsx hb3 hb4 hcx hmx hltx hlimx
 have hgw : w.heap.size≤gu := by rw [hgu]; exact hbl2.size
 have HS4 : Hid (Seg w4 b3 o3 lv) := (HSV.out.below hb34 hltv)
 have hb3g : b3 < gu := by rw [hgu]; exact hltv
 clear hlt3 hbl3 hgu hltv hbl2 hb34 hbl
 have hcopy : ∃ w5,(Builtin.copy_ #[31,31] 3 #[.slice (some ⟨gu,0,none⟩) (la.length+2) (la.length+2),.slice (some ⟨b4,o4,none⟩) lx.length cx]).run Tryz.prog w4=.ok (goInt lx.length) w5∧Row w5 gu (lx ++ List.replicate (la.length+2 - lx.length) 0)∧Below gu w4 w5 := by
  obtain ⟨i0,hi,hz0,hz1,hz2⟩ := info_parts Tryz.infoU32
  have hr := run_copy_row (P := Tryz.prog) w4 31 31 3 128 gu 0 (la.length+2) (la.length+2) ⟨b4,o4,none⟩ lx.length cx ((List.replicate (la.length+2) 0).map fun x : Nat => Value.int .u32 (x : Int)).toArray 128 (lx.map fun x : Nat => Value.int .u32 (x : Int)) Tryz.underlying31 (by rw [hi]; exact congrArg some hz1) HG4.out (by rw [List.length_map]; exact (Nat.min_eq_left (by omega)).symm) HCE.out (by simp; omega) H1C.out
  rw [List.length_map] at hr
  refine ⟨_,hr,⟨#[],?_⟩,below_setRow (Below.refl _ _) (Nat.le_refl _) _⟩
  rw [setRow_heap w4 gu _ _ 128 _ HG4.out]
  simp [Zu]
 obtain ⟨w5,hrun,hrow5,hbl45⟩ := hcopy
 have HR5 : Hid (Row w5 gu (lx ++ List.replicate (la.length+2 - lx.length) 0)) := hrow5
 have HS5 : Hid (Seg w5 b3 o3 lv) := HS4.out.below hbl45 hb3g
 have hbl5 : Below w.heap.size w w5 := hbl4.trans (hbl45.mono hgw)
 clear hrow5 hbl45 hbl4
 obtain ⟨D,hD⟩ : ∃ D,la.length=m+1+D := ⟨la.length - (m+1),by have := HM.out; omega⟩
 have hmN : m+2≤la.length := by have := HM.out; omega
 have HD : Hid (la.length=m+1+D) := hD
 have hmk := Zy (t := 31) (by kernel_rfl) (D+1) (by omega)
 have ec : ((D+1 : Nat) : Int)=(la.length : Int)+2 - ((m : Int)+2) := by omega
 rw [ec] at hmk
 clear ec hD
 have hgu5 : gu < w5.heap.size := HR5.out.lt
 have y1 : ∀ o,(w5.alloc o).cell? ⟨b3,o3+(m+1),none⟩=some (.int .u32 (nth lv (m+1) : Int)) := fun o => (HS5.out.below (Qh w5 o) (by omega)) (m+1) (by have := HLN.out; omega)
 have y2 : ∀ o,(w5.alloc o).cell? ⟨b3,o3+m,none⟩=some (.int .u32 (nth lv m : Int)) := fun o => (HS5.out.below (Qh w5 o) (by omega)) m (by have := HLN.out; omega)
 have t1 := QF HLV.out (m+1)
 have t2 := QF HLV.out m
 go_wp2
 go_quiet (fail)
 have HRQ : Hid (Row (w5.alloc (.cells (Zu (List.replicate (D+1) 0)) 128)) w5.heap.size (List.replicate (D+1) 0)) := Row.new _ _
 have HRU : Hid (Row (w5.alloc (.cells (Zu (List.replicate (D+1) 0)) 128)) gu (lx ++ List.replicate (la.length+2 - lx.length) 0)) := HR5.out.below (Qh _ _) hgu5
 have HSG : Hid (Seg (w5.alloc (.cells (Zu (List.replicate (D+1) 0)) 128)) b3 o3 lv) := HS5.out.below (Qh _ _) (by omega)
 have HB6 : Hid (Below w.heap.size w (w5.alloc (.cells (Zu (List.replicate (D+1) 0)) 128))) := hbl5.trans ((Qh _ _).mono hbl5.size)
 obtain ⟨w6,hw6⟩ : ∃ w6,w6=w5.alloc (.cells (Zu (List.replicate (D+1) 0)) 128) := ⟨_,rfl⟩
 obtain ⟨gq,hgq⟩ : ∃ gq,gq=w5.heap.size := ⟨_,rfl⟩
 rw [← hw6] at HRQ HRU HSG HB6 ⊢
 rw [← hgq] at HRQ ⊢
 have hguq : gu < gq := by rw [hgq]; exact hgu5
 clear hw6 hgq hgu5 hmk y1 y2 hbl5 hrun
 have hD1 : la.length≤m+1+D := by have := HD.out; omega
 have hD2 : m+1+D≤la.length := by have := HD.out; omega
 have HBV : Hid (val lv < pw (m+2)) := by have := ZB HLV.out; rw [HLN.out] at this; exact this
 have HTP : Hid (2147483648≤nth lv (m+1)) := by
  have h1 := Qf lv (m+1)
  rw [List.take_of_length_le (by have := HLN.out; omega)] at h1
  have h2 := Jl HLV.out (m+1)
  have h3 := HTOP.out
  have h4 : 2147483648*pw (m+1) < (nth lv (m+1)+1)*pw (m+1) := by
   rw [Nat.add_mul,Nat.one_mul,Nat.mul_comm (nth lv (m+1))]
   omega
  have := Nat.lt_of_mul_lt_mul_right h4
  show _≤_
  omega
 have HDIV0 : Hid (Div (val la*2 ^ sh) (val lv) (m+2) (D+1) (lx ++ List.replicate (la.length+2 - lx.length) 0) (List.replicate (D+1) 0)) := by
  have e1 : val (lx ++ List.replicate (la.length+2 - lx.length) 0)=val la*2 ^ sh := by rw [Ju,Rj,Nat.mul_zero,Nat.add_zero]; exact HEX.out
  refine ⟨HLX.out.append (Zi _),Zi _,by simp; omega,?_,?_⟩
  ·rw [List.drop_of_length_le (by simp),Us,Nat.mul_zero,Nat.mul_zero,Nat.zero_add,e1]
  ·have h1 := Xm (lx ++ List.replicate (la.length+2 - lx.length) 0) (D+1) (by simp; omega)
   have h2 := MS HLA.out hsl
   rw [e1] at h1
   rw [HD.out,show m+1+D+1=(D+1)+(m+1) by omega,DS] at h2
   have h3 : pw (D+1)*val ((lx ++ List.replicate (la.length+2 - lx.length) 0).drop (D+1)) < pw (D+1)*pw (m+1) := by omega
   have h4 := Nat.lt_of_mul_lt_mul_left h3
   have h5 := HTOP.out
   have := Xv (m+1)
   omega
 go_wp2
 go_loopw [18] (fun i wr => ∃ (k : Nat) (cu cq : List Nat),k≤D+1∧i=.int .i64 ((k : Int) - 1)∧Row wr gu cu∧Row wr gq cq∧cq.length=D+1∧Div (val la*2 ^ sh) (val lv) (m+2) k cu cq∧Seg wr b3 o3 lv∧Below w.heap.size w wr) (fun i _ => (intOf i+1).toNat)
 case atStart =>
  exact ⟨D+1,_,_,Nat.le_refl _,by congr 1; omega,HRU.out,HRQ.out,by simp,HDIV0.out,HSG.out,QM HB6.out _⟩
 case round =>
  obtain ⟨kk,cu,cq,hkk,rfl,hrow,hrq,hql,hdiv,hseg,hbel⟩ := hrel
  have HDV : Hid (Div (val la*2 ^ sh) (val lv) (m+2) kk cu cq) := hdiv
  have HQL : Hid (cq.length=D+1) := hql
  have HSGW : Hid (Seg wr b3 o3 lv) := hseg
  have HROW : Hid (Row wr gu cu) := hrow
  have HRQW : Hid (Row wr gq cq) := hrq
  have HBEL : Hid (Below w.heap.size w wr) := hbel
  clear hdiv hql hseg hrow hrq hbel
  by_cases h0 : kk=0
  ·subst h0
   have HVQ : Hid (val cq=val la / val lb∧val cu=(val la % val lb)*2 ^ sh) := by
    have h1 := HDV.out
    rw [HEV.out] at h1
    refine h1.last (Nat.two_pow_pos _) ?_
    rcases Nat.eq_zero_or_pos (val lb) with h | h
    ·have h2 := HTOP.out
     have h3 := HEV.out
     have := Xv (m+1)
     rw [h,Nat.zero_mul] at h3
     omega
    ·exact h
   have hlu : cu.length=la.length+2 := by have h1 := HDV.out.lenU; have h2 := HQL.out; have h3 := HD.out; omega
   have HLQ : Hid (Lim cq) := HDV.out.limQ
   have HLU : Hid (Lim cu) := HDV.out.limU
   have HLN2 : Hid (cu.length=la.length+2) := hlu
   have HSM : Hid (Small (val cu)) := by
    have h1 := HDV.out.high
    rw [List.drop_zero] at h1
    exact ⟨Nat.lt_of_lt_of_le (Nat.lt_trans h1 HBV.out) (YH (by have := HM.out; omega))⟩
   clear hlu
   go_wp2_with fail
   refine (ZA (n := D+1) HRQW.out HLQ.out HQL.out (by omega)).mono ?_
   rintro e wz ⟨hz,v1,rfl,hv1⟩
   have hz2 := hz.symm
   subst hz2
   clear hz
   rw [HVQ.out.1] at hv1
   have HV1 : Hid (NatN wr v1 (val la / val lb)) := hv1
   clear hv1
   go_wp2_with fail
   refine (ZA (n := la.length+2) HROW.out HLU.out HLN2.out (by omega)).mono ?_
   rintro e wz ⟨hz,v2,rfl,hv2⟩
   have hz2 := hz.symm
   subst hz2
   clear hz
   go_wp2_with fail
   refine (Gi hv2 HSM.out hsl).mono ?_
   rintro e w7 ⟨hb7,v3,rfl,hv3⟩
   rw [HVQ.out.2,Nat.mul_div_cancel _ (Nat.two_pow_pos _)] at hv3
   have HV3 : Hid (NatN w7 v3 (val la % val lb)) := hv3
   clear hv3 hv2
   go_wp2
   go_ret2
   exact ⟨HBEL.out.trans (hb7.mono HBEL.out.size),v1,v3,rfl,HV1.out.below hb7,HV3.out⟩
  ·obtain ⟨jj,rfl⟩ : ∃ jj,kk=jj+1 := ⟨kk - 1,by omega⟩
   rw [show (((jj+1 : Nat) : Int) - 1)=(jj : Int) from by omega]
   have hjq : jj < cq.length := by rw [HQL.out]; omega
   obtain ⟨e1,e2,e3,e4⟩ := HDV.out.window hjq HBV.out
   have hlenU := HDV.out.lenU
   obtain ⟨p,hp⟩ : ∃ p,p=cu.take jj := ⟨_,rfl⟩
   obtain ⟨U,hU⟩ : ∃ U,U=(cu.drop jj).take (m+2+1) := ⟨_,rfl⟩
   obtain ⟨t,htt⟩ : ∃ t,t=cu.drop (jj+(m+2)+1) := ⟨_,rfl⟩
   have hpl : p.length=jj := by rw [hp]; simp; omega
   have hR : Row wr gu (p ++ U ++ t) := by rw [hp,hU,htt,← Wg]; exact HROW.out
   have hLU : Lim U := by rw [hU]; exact (HDV.out.limU.drop _).take _
   have HLU : Hid (Lim U) := hLU
   rw [← hU] at e2 e4
   have HW : Hid (p=cu.take jj∧U=(cu.drop jj).take (m+2+1)∧t=cu.drop (jj+(m+2)+1)∧U.length=m+2+1∧val U < 4294967296*val lv∧p.length=jj) := ⟨hp,hU,htt,e4,e2,hpl⟩
   have HR : Hid (Row wr gu (p ++ U ++ t)) := hR
   have c0 := hR.mid (j := m+2) (by omega)
   have c1 := hR.mid (j := m+1) (by omega)
   have c2 := hR.mid (j := m) (by omega)
   rw [hpl] at c0 c1 c2
   rw [show jj+m=jj+(m+2) - 2 from by omega] at c2
   have x0 := QF hLU (m+2)
   have x1 := QF hLU (m+1)
   have x2 := QF hLU m
   have hor := UP (nth U (m+2)) (nth U (m+1)) x0 x1
   have hlead := HTP.out
   clear e1 e2 e3 e4 hp hU htt hpl hR hLU hlenU hjq
   go_wp2
   go_quiet (fail)
   go_wp2
   go_quiet (fail)
   go_upto_block 2 with fail
   have HLD : Hid (Lead (val U) (val lv) (pw m) (nth U (m+2)*4294967296+nth U (m+1)) (nth U m) (nth lv (m+1)) (nth lv m)) := Lead.of HLU.out HLV.out (n := m+2) HW.out.2.2.2.1 HLN.out (by omega) (by show 0 < nth lv (m+1); omega)
   have HTL : Hid (nth U (m+2)≤nth lv (m+1)) := HLD.out.top_le HW.out.2.2.2.2.1
   go_cut [20] from 109 to 266 (fun gs wc => ∃ G q : Nat,gs=.int .u64 G∧wc=wr.drewN q∧G < 4294967296∧val U < (G+1)*val lv∧G*val lv < val U+val lv)
   case first =>
    go_wp2_with fail
    go_loopw [20,21] (fun gs rs wx => ∃ G R q : Nat,gs=.int .u64 G∧rs=.int .u64 R∧wx=wr.drewN q∧nth U (m+2)*4294967296+nth U (m+1)=G*nth lv (m+1)+R∧val U < (G+1)*val lv∧G≤18446744073709551615∧R < 4294967296) (fun gs _ _ => (intOf gs).toNat)
    case atStart =>
     refine ⟨(nth U (m+2)*4294967296+nth U (m+1)) / nth lv (m+1),(nth U (m+2)*4294967296+nth U (m+1)) % nth lv (m+1),_,by rw [UV],by rw [UW],World.drewN_drewN _ _ _,?_,HLD.out.start,?_,?_⟩
     ·exact (Nat.div_add_mod' _ _).symm
     ·exact Nat.le_trans (Nat.div_le_self _ _) (by omega)
     ·have := Nat.mod_lt (nth U (m+2)*4294967296+nth U (m+1)) (show 0 < nth lv (m+1) by omega)
      omega
    case round =>
     obtain ⟨G,R,q,rfl,rfl,rfl,htop,hub,hG,hR⟩ := hrel
     have HT : Hid (nth U (m+2)*4294967296+nth U (m+1)=G*nth lv (m+1)+R∧val U < (G+1)*val lv) := ⟨htop,hub⟩
     clear htop hub hor
     by_cases hB : 4294967296≤G
     ·have dB := Nat.lt_of_lt_of_le HW.out.2.2.2.2.1 (Nat.mul_le_mul_right (val lv) hB)
      have HDN : Hid (val U < G*val lv) := dB
      clear dB
      by_cases hA : 4294967296≤R+nth lv (m+1)
      ·go_wp2
       go_meet
       refine ⟨G - 1,_,by go_num,rfl,?_,?_,?_⟩
       ·rcases Nat.lt_or_ge (G - 1) 4294967296 with h | h
        ·exact h
        ·have := Lead.below x1 HTL.out (HT.out.1.trans (JY (by omega))) h; omega
       ·rw [show G - 1+1=G from by omega]
        exact HDN.out
       ·refine HLD.out.done (HT.out.1.trans (JY (by omega))) ?_ (Or.inl hA)
        rcases Nat.lt_or_ge (G - 1) 4294967296 with h | h
        ·exact h
        ·have := Lead.below x1 HTL.out (HT.out.1.trans (JY (by omega))) h; omega
      ·go_wp2
       go_roundw
       case rel =>
        refine ⟨G - 1,by omega,R+nth lv (m+1),by omega,⟨_,rfl⟩,HT.out.1.trans (JY (by omega)),?_,by omega,by omega⟩
        rw [show G - 1+1=G from by omega]
        exact HDN.out
       case measure => simp [intOf]; omega
     ·obtain ⟨m1,hm1⟩ : ∃ m1,m1=G*nth lv m := ⟨_,rfl⟩
      have hb1 : m1≤18446744065119617025 := by rw [hm1]; exact Ja (by omega) t2
      have hr1 : (G : Int)*(nth lv m : Int)=(m1 : Int) := by rw [hm1]; exact (Int.natCast_mul _ _).symm
      have HMM : Hid (m1=G*nth lv m) := hm1
      clear hm1
      have hor := UP R (nth U m) (by omega) x2
      by_cases hC : R*4294967296+nth U m < m1
      ·have hpos : 0 < G := by
        rcases Nat.eq_zero_or_pos G with h | h
        ·have := HMM.out; rw [h,Nat.zero_mul] at this; omega
        ·exact h
       have HDN : Hid (val U < G*val lv) := HLD.out.down HT.out.1 (by rw [← HMM.out]; exact hC)
       by_cases hA : 4294967296≤R+nth lv (m+1)
       ·go_wp2
        go_meet
        refine ⟨G - 1,_,by go_num,rfl,?_,?_,?_⟩
        ·rcases Nat.lt_or_ge (G - 1) 4294967296 with h | h
         ·exact h
         ·have := Lead.below x1 HTL.out (HT.out.1.trans (JY (by omega))) h; omega
        ·rw [show G - 1+1=G from by omega]
         exact HDN.out
        ·refine HLD.out.done (HT.out.1.trans (JY (by omega))) ?_ (Or.inl hA)
         rcases Nat.lt_or_ge (G - 1) 4294967296 with h | h
         ·exact h
         ·have := Lead.below x1 HTL.out (HT.out.1.trans (JY (by omega))) h; omega
       ·go_wp2
        go_roundw
        case rel =>
         refine ⟨_,_,_,_,_,_,_,_,_,_,_,_,_,_,_,_,_,_,_,_,_,_,_,_,_,_,_,_,⟨G - 1,R+nth lv (m+1),_,by go_num,by go_num,rfl,HT.out.1.trans (JY (by omega)),?_,by omega,by omega⟩,rfl⟩
         rw [show G - 1+1=G from by omega]
         exact HDN.out
        case measure => simp [intOf]; omega
      ·have HDD : Hid (G*val lv < val U+val lv) := HLD.out.done HT.out.1 (by omega) (Or.inr (by rw [← HMM.out]; omega))
       go_wp2
       go_meet
       exact ⟨G,_,rfl,rfl,by omega,HT.out.2,HDD.out⟩
   case rest =>
    obtain ⟨G,q,rfl,rfl,hG,hlo,hhi⟩ := hcut
    have HGS : Hid (val U < (G+1)*val lv∧G*val lv < val U+val lv) := ⟨hlo,hhi⟩
    clear hlo hhi hor c0 c1 c2
    have HRD : Hid (Row (wr.drewN q) gu (p ++ U ++ t)) := HR.out
    have HSD : Hid (Seg (wr.drewN q) b3 o3 lv) := HSGW.out
    have HQD : Hid (Row (wr.drewN q) gq cq) := HRQW.out
    have HBD : Hid (Below w.heap.size w (wr.drewN q)) := QM HBEL.out _
    generalize wr.drewN q=wd at *
    go_wp2
    go_loopw [22,23,24] (fun c b i wx => ∃ (j cy br : Nat) (cur : List Nat),j≤m+2∧i=.int .i64 j∧c=.int .u64 cy∧b=.int .u64 br∧cy < 4294967296∧br≤1∧Row wx gu (p ++ cur ++ t)∧cur.length=m+3∧Lim cur∧(∀ r,j≤r→nth cur r=nth U r)∧val (cur.take j)+G*val (lv.take j)=val (U.take j)+(cy+br)*pw j∧Only gu wd wx) (fun _ _ i _ => m+2 - (intOf i).toNat)
    case atStart => exact ⟨0,0,0,U,Nat.zero_le _,rfl,rfl,rfl,by omega,by omega,HRD.out,HW.out.2.2.2.1,HLU.out,fun _ _ => rfl,Mg _ _ _,Only.refl _ _⟩
    case round =>
     obtain ⟨j,cy,br,cur,hj,rfl,rfl,rfl,hcy,hbr,hrow,hcl,hcm,hag,hval,honly⟩ := hrel
     have HV : Hid (val (cur.take j)+G*val (lv.take j)=val (U.take j)+(cy+br)*pw j) := hval
     have HL : Hid (cur.length=m+3) := hcl
     have HG : Hid (∀ r,j≤r→nth cur r=nth U r) := hag
     have hpl := HW.out.2.2.2.2.2
     have hcc := hrow.mid (j := j) (by rw [HL.out]; omega)
     have hfz := hrow.frozen (p.length+j)
     rw [hpl,Nat.add_comm] at hcc hfz
     have hx := QF hcm j
     have HRW : Hid (Row _ gu (p ++ cur ++ t)) := hrow
     have HON : Hid (Only gu wd _) := honly
     have HCM : Hid (Lim cur) := hcm
     clear hval hcl hag hpl hrow hcm
     by_cases hlt : j < m+2
     ·have hcv := (honly.cell (p := ⟨b3,o3+j,none⟩) (by show b3 ≠ gu; omega)).trans (HSD.out j (by rw [HLN.out]; exact hlt))
      have hxv := QF HLV.out j
      clear honly
      obtain ⟨m1,hm1⟩ : ∃ m1,m1=G*nth lv j := ⟨_,rfl⟩
      have hb1 : m1≤18446744065119617025 := by rw [hm1]; exact Ja hG hxv
      have hr1 : (G : Int)*(nth lv j : Int)=(m1 : Int) := by rw [hm1]; exact (Int.natCast_mul _ _).symm
      obtain ⟨qq,hq⟩ : ∃ qq,qq=(cy+m1) % 4294967296 := ⟨_,rfl⟩
      have ha2 : ((cy : Int)+(m1 : Int)) % 4294967296=(qq : Int) := by omega
      obtain ⟨br',out,hs1,hs2,hbr',hout,hsum⟩ := Yj (nth cur j) qq br hx (by omega) hbr
      have F : Hid (m1=G*nth lv j∧qq=(cy+m1) % 4294967296∧out+qq+br=nth cur j+4294967296*br') := ⟨hm1,hq,hsum⟩
      clear hm1 hq hsum
      go_wp2
      go_roundw
      case rel =>
       obtain ⟨hm1,hq,hsum⟩ := F.out
       refine ⟨j+1,(cy+m1) / 4294967296,br',cur.set j out,by omega,by go_num,by go_num,by go_num,by omega,hbr',?_,by rw [List.length_set,HL.out],HCM.out.set hout,?_,?_,HON.out.set _ _⟩
       ·have := HRW.out.midSet (j := j) (y := out) (by rw [HL.out]; omega) (z := (out : Int)) rfl
        rwa [HW.out.2.2.2.2.2,Nat.add_comm] at this
       ·intro r hr
        rw [Zb (by omega)]
        exact HG.out r (by omega)
       ·rw [Qo (by rw [HL.out]; omega),Qf,Qf,Qx,← HG.out j (Nat.le_refl _)]
        exact UC _ _ _ _ _ _ _ _ _ _ _ _ _ HV.out (by rw [← hm1]; omega) hsum
      case measure => simp [intOf]; omega
     ·obtain rfl : j=m+2 := by omega
      clear honly
      rw [Nat.add_comm] at hcc hfz
      obtain ⟨br',out,hs1,hs2,hbr',hout,hsum⟩ := Yj (nth cur (m+2)) cy br hx hcy hbr
      have HV2 : Hid (val (cur.set (m+2) out)+G*val lv=val U+br'*pw (m+3)) := Ac rfl HL.out HW.out.2.2.2.1 HLN.out (HG.out (m+2) (Nat.le_refl _)) HV.out hsum
      have HR1 : Hid (∀ z : Int,z=(out : Int)→Row (wr.setCell ⟨gu,jj+(m+2),none⟩ (.int .u32 z)) gu (p ++ cur.set (m+2) out ++ t)) := fun z hz => by
       have := HRW.out.midSet (j := m+2) (y := out) (by rw [HL.out]; omega) hz
       rwa [HW.out.2.2.2.2.2] at this
      have HL1 : Hid ((cur.set (m+2) out).length=m+3) := by show _=_; rw [List.length_set,HL.out]
      have HM1 : Hid (Lim (cur.set (m+2) out)) := HCM.out.set hout
      have HQ1 : Hid (Row (wr.setCell ⟨gu,jj+(m+2),none⟩ (.int .u32 (out : Int))) gq cq) := TJ (SQ HON.out HQD.out (by omega)) (by omega) _ _
      have HO1 : Hid (Only gu wd (wr.setCell ⟨gu,jj+(m+2),none⟩ (.int .u32 (out : Int)))) := HON.out.set _ _
      have hqc := HQ1.out.cell (j := jj) (by rw [HQL.out]; omega)
      have hqf := HQ1.out.frozen jj
      clear hsum
      rcases (show br'=0 ∨ br'=1 by omega) with rfl | rfl
      ·have HSN : Hid (val U / val lv=G∧val (cur.set (m+2) out)=val U % val lv) := Rl HV2.out HGS.out.1
       go_wp2
       go_roundw
       case rel =>
        obtain ⟨hp,hU,htt,e4,e2,hpl⟩ := HW.out
        have hB0 : 0 < val lv := by have := HTOP.out; have := Xv (m+1); omega
        have hjq : jj < cq.length := by rw [HQL.out]; omega
        have hnx := HDV.out.next hjq HBV.out hB0 HM1.out (by rw [HL1.out]) (show val (cur.set (m+2) out)=val ((cu.drop jj).take (m+2+1)) % val lv by rw [← hU]; exact HSN.out.2)
        rw [← hU,HSN.out.1,← hp,← htt] at hnx
        refine ⟨jj,_,_,by omega,rfl,TJ (HR1.out _ rfl) (by omega) _ _,HQ1.out.set' _ _ rfl,by rw [List.length_set,HQL.out],hnx,MT (Bl HO1.out HSD.out (by omega)) (by omega) _ _,(HO1.out.below HBD.out (by omega)).setCell (by show w.heap.size≤gq; omega) _⟩
       case measure => simp [intOf]; try omega
      ·have HP : Hid (val U < G*val lv) := Gl HV2.out (by have := ZB HM1.out; rw [HL1.out] at this; exact this)
       have hpos : 0 < G := by
        rcases Nat.eq_zero_or_pos G with h | h
        ·have := HP.out; rw [h,Nat.zero_mul] at this; omega
        ·exact h
       have HRA : Hid (Row (wr.setCell ⟨gu,jj+(m+2),none⟩ (.int .u32 (out : Int))) gu (p ++ cur.set (m+2) out ++ t)) := HR1.out _ rfl
       obtain ⟨u1,hu1⟩ : ∃ u1,u1=cur.set (m+2) out := ⟨_,rfl⟩
       rw [← hu1] at HV2 HL1 HM1 HRA
       clear hu1 hqc hqf HR1
       go_wp2
       generalize wr.setCell ⟨gu,jj+(m+2),none⟩ (.int .u32 (out : Int))=w1 at *
       go_loopw [22,27] (fun c i wy => ∃ (j cy : Nat) (cur : List Nat),j≤m+2∧i=.int .i64 j∧c=.int .u64 cy∧cy≤1∧Row wy gu (p ++ cur ++ t)∧cur.length=m+3∧Lim cur∧(∀ r,j≤r→nth cur r=nth u1 r)∧val (cur.take j)+cy*pw j=val (u1.take j)+val (lv.take j)∧Only gu wd wy) (fun _ i _ => m+2 - (intOf i).toNat)
       case atStart => exact ⟨0,0,u1,Nat.zero_le _,rfl,rfl,by omega,HRA.out,HL1.out,HM1.out,fun _ _ => rfl,CU _ _,HO1.out⟩
       case round =>
        rename World => wy
        obtain ⟨j,cy,cur,hj,rfl,rfl,hcy,hrow,hcl,hcm,hag,hval,honly⟩ := hrel
        have HV : Hid (val (cur.take j)+cy*pw j=val (u1.take j)+val (lv.take j)) := hval
        have HL : Hid (cur.length=m+3) := hcl
        have HG : Hid (∀ r,j≤r→nth cur r=nth u1 r) := hag
        have HRW : Hid (Row wy gu (p ++ cur ++ t)) := hrow
        have HON : Hid (Only gu wd wy) := honly
        have HCM : Hid (Lim cur) := hcm
        have hpl := HW.out.2.2.2.2.2
        have hcc := hrow.mid (j := j) (by rw [HL.out]; omega)
        have hfz := hrow.frozen (p.length+j)
        rw [hpl,Nat.add_comm] at hcc hfz
        have hx := QF hcm j
        clear hval hcl hag hpl hrow hcm
        by_cases hlt : j < m+2
        ·have hcv := (honly.cell (p := ⟨b3,o3+j,none⟩) (by show b3 ≠ gu; omega)).trans (HSD.out j (by rw [HLN.out]; exact hlt))
         have hxv := QF HLV.out j
         clear honly
         go_wp2
         go_quiet (fail)
         go_wp2
         go_roundw
         case rel =>
          refine ⟨j+1,(cy+nth cur j+nth lv j) / 4294967296,cur.set j ((cy+nth cur j+nth lv j) % 4294967296),by omega,by go_num,by go_num,by omega,Mm HRW.out HW.out.2.2.2.2.2 (by rw [HL.out]; omega) (by omega),by rw [List.length_set,HL.out],HCM.out.set (by omega),?_,?_,(Only.drewN HON.out _).set _ _⟩
          ·intro r hr
           rw [Zb (by omega)]
           exact HG.out r (by omega)
          ·rw [Qo (by rw [HL.out]; omega),Qf,Qf,Qx,← HG.out j (Nat.le_refl _)]
           exact ZQ _ _ _ _ _ _ _ HV.out
         case measure => simp [intOf]; omega
        ·obtain rfl : j=m+2 := by omega
         clear honly
         rw [Nat.add_comm] at hcc hfz
         obtain ⟨y,hy⟩ : ∃ y,y=(cy+nth cur (m+2)+0) % 4294967296 := ⟨_,rfl⟩
         have hw32 : IntKind.u32.wrap ((nth cur (m+2) : Int)+(cy : Int))=(y : Int) := by
          rw [hy]
          simp only [IntKind.wrap_u32]; omega
         have HV3 : Hid (val (cur.set (m+2) y)+(cy+nth cur (m+2)+0) / 4294967296*pw (m+3)=val u1+val lv) := Az rfl HL.out HL1.out HLN.out (HG.out (m+2) (Nat.le_refl _)) hy HV.out
         have hyl : y < 4294967296 := by rw [hy]; exact Nat.mod_lt _ (by decide)
         have HR2 : Hid (Row (wy.setCell ⟨gu,jj+(m+2),none⟩ (.int .u32 (y : Int))) gu (p ++ cur.set (m+2) y ++ t)) := by
          have := HRW.out.midSet (j := m+2) (y := y) (by rw [HL.out]; omega) (z := (y : Int)) rfl
          rwa [HW.out.2.2.2.2.2] at this
         have HL2 : Hid ((cur.set (m+2) y).length=m+3) := by show _=_; rw [List.length_set,HL.out]
         have HM2 : Hid (Lim (cur.set (m+2) y)) := HCM.out.set hyl
         have HQ2 : Hid (Row (wy.setCell ⟨gu,jj+(m+2),none⟩ (.int .u32 (y : Int))) gq cq) := TJ (SQ HON.out HQD.out (by omega)) (by omega) _ _
         have HO2 : Hid (Only gu wd (wy.setCell ⟨gu,jj+(m+2),none⟩ (.int .u32 (y : Int)))) := HON.out.set _ _
         have hqc := HQ2.out.cell (j := jj) (by rw [HQL.out]; omega)
         have hqf := HQ2.out.frozen jj
         have HSB2 : Hid (val U / val lv=G - 1∧val (cur.set (m+2) y)=val U % val lv) := by
          have h1 := ZB HLV.out
          rw [HLN.out] at h1
          have h2 := AL (show m+2 < m+3 by omega)
          have h3 := ZB HM2.out
          rw [HL2.out] at h3
          exact IR HV2.out HV3.out HP.out HGS.out.2 (by omega) h3
         clear hy
         go_wp2
         go_roundw
         case rel =>
          obtain ⟨hp,hU,htt,e4,e2,hpl⟩ := HW.out
          have hB0 : 0 < val lv := by have := HTOP.out; have := Xv (m+1); omega
          have hjq : jj < cq.length := by rw [HQL.out]; omega
          have hnx := HDV.out.next hjq HBV.out hB0 HM2.out (by rw [HL2.out]) (show val (cur.set (m+2) y)=val ((cu.drop jj).take (m+2+1)) % val lv by rw [← hU]; exact HSB2.out.2)
          rw [← hU,HSB2.out.1,← hp,← htt] at hnx
          refine ⟨jj,_,_,by omega,rfl,TJ HR2.out (by omega) _ _,HQ2.out.set' _ _ (by omega),by rw [List.length_set,HQL.out],hnx,MT (Bl HO2.out HSD.out (by omega)) (by omega) _ _,(HO2.out.below HBD.out (by omega)).setCell (by show w.heap.size≤gq; omega) _⟩
         case measure => simp [intOf]; try omega
end Go.Proofs.YtnhplfjlhdpgoaaGreatDoor
