/- Part 13 of the walks and of the mathematics under them: BQ BR BS BV BW BX BY BZ RA RB RC RD RF RG RK BQU BGC BGD BGE BPL RBS BPM BPN MathZ VQ VS BNN BNO BNM WHL CMQ VT ZWR VV. -/
import Derived.Test.YtnhplfjlhdpgoaaGreatDoorA10
import Derived.Deep.RegionWith
import Derived.Test.YtnhplfjlhdpgoaaGreatDoorA7
import Derived.Laws.OwnMore
import Derived.Laws.IdiomStrings
import Derived.Test.YtnhplfjlhdpgoaaGreatDoorASh
import Derived.Shelf.Strings.SlTrimAscii
import Derived.Lib.SlTrimSet
import Derived.Lib.IndexBytes
import Derived.Test.YtnhplfjlhdpgoaaGreatDoorA11
import Derived.Test.YtnhplfjlhdpgoaaGreatDoorA12
import Derived.Deep.DeepCutAuto
import Derived.Deep.LoopGhost
import Derived.Test.YtnhplfjlhdpgoaaGreatDoorA6
import Derived.Test.YtnhplfjlhdpgoaaGreatDoorA8
import Derived.Test.YtnhplfjlhdpgoaaGreatDoorA9
import Derived.ChangeKeysEq
set_option maxHeartbeats 16000000
set_option maxRecDepth 100000
/- BQ -/
namespace Go.Proofs.YtnhplfjlhdpgoaaGreatDoor
open Go.RowKit Cx
attribute [local go_sem ↓] Go.wp_at_zero Go.wp_at_succ
theorem Iz (g : Nat) (w : World) :
  Calls Tryz.prog 10 #[.pointer (some ⟨g,0,none⟩)] w fun e w' => w'=w∧e=.returned (.pointer (some ⟨g,0,none⟩)) := by
 go_enter Tryz.func10,Tryz.ntmps10
 go_wp2
 go_ret
 exact ⟨rfl,rfl⟩
end Go.Proofs.YtnhplfjlhdpgoaaGreatDoor
/- BR -/
namespace Go.Proofs.YtnhplfjlhdpgoaaGreatDoor
open Go.RowKit Cx
attribute [local go_sem ↓] Go.wp_at_zero Go.wp_at_succ
theorem Lp {x : Int} (h : -x ≠ 0) : (!decide (x < 0))=decide (-x < 0) := by
 by_cases h1 : x < 0
 ·simp [h1]; omega
 ·simp [h1]; omega
theorem PO {w : World} {g o : Nat} {px : Value} {x : Int} (h : At2 w g o) (hx : IV w px x) (sx : Small x.natAbs) :
  Calls Tryz.prog 92 #[.pointer (some ⟨g,o,none⟩),px] w fun e w' => e=.returned (.pointer (some ⟨g,o,none⟩))∧Gave w g o (-x) w' := by
 obtain ⟨g1,o1,a1,n1,c1,rfl,x0,x1,x2,xl⟩ := hx
 have H := Qb h
 have HX := Qb x2
 have SX := Qb sx
 have HS : Hid (∀ w',Below w.heap.size w w'→w'.cell? ⟨g1,o1,none⟩=some (.bool (decide (x < 0)))∧w'.cell? ⟨g1,o1+1,none⟩=some (.slice a1 n1 c1)) := fun w' hb => ⟨(hb.cell (p := ⟨g1,o1,none⟩) xl).trans x0,(hb.cell (p := ⟨g1,o1+1,none⟩) xl).trans x1⟩
 clear h x2 sx xl
 go_enter Tryz.func92,Tryz.ntmps92
 go_wp2_with fail
 go_region_with (first
  | (go_at_call 96; refine (Xa (w := w.drew) (HX.out.below (Below.drew (Below.refl _ _))) SX.out).mono ?_; rintro e w1 ⟨hb1,v1,rfl,hv1⟩; obtain ⟨ao,n,c,rfl,hn,hnb,hnz⟩ := Zf hv1; have hbl1 : Below w.heap.size w w1 := (Below.drew (Below.refl _ w)).trans hb1; obtain ⟨u0,u1⟩ := HS.out w1 hbl1)
  | (go_at_call 54; refine (Xd (n := n) (ao := ao) (c := c) _ (H.out.below hbl1)).mono ?_; rintro e w2 ⟨rfl,rfl⟩))
 all_goals
  go_wp2
  go_ret
  refine ⟨rfl,w1,ao,n,c,hbl1,?_,by rw [Int.natAbs_neg]; exact hv1⟩
  rw [Wo (z := -x) _ (by rw [Int.natAbs_neg]; exact hnz) Lp]
theorem Ey (q : Rat) : mkRat q.num q.den=q := Rat.mkRat_self q
theorem OQ {w : World} {g gx : Nat} {y0 y1 y2 y3 : Value} {x : Rat} {k : Nat} (hk : Blk w g #[y0,y1,y2,y3] 35) (hno : (#[y0,y1,y2,y3] : Array Value).all Qm=true) (hx : RV w gx x) (fx : QS k x) (hkl : k≤35184372088640) :
  Calls Tryz.prog 50 #[.pointer (some ⟨g,0,none⟩),.pointer (some ⟨gx,0,none⟩)] w fun e w' => e=.returned (.pointer (some ⟨g,0,none⟩))∧Save g w w'∧RV w' g x := by
 have HX := Qb hx
 have HK := Qb hk
 have LG := Qb hk.lt
 have SX := Qb (XK fx hkl)
 have DX := Qb (Qs fx.den hkl)
 clear hx hk fx
 go_enter Tryz.func50,Tryz.ntmps50
 go_wp2_with fail
 go_region_held3 (fun _ => True) (trivial)
  (first
   | (go_at_call 42; refine (ZR (w := w.drew) (HX.out.below (Below.drew (Below.refl _ _)))).mono ?_; rintro e w1 ⟨hb1,p1,rfl,hv1,_⟩; have hbl1 : Below w.heap.size w w1 := (Below.drew (Below.refl _ w)).trans hb1)
   | (go_at_call 20; refine (Jo (z := x.num) (b := x.den) (HK.out.below hbl1 LG.out) hno (RV.num (HX.out.below hbl1)) hv1 x.den_pos SX.out DX.out).mono ?_; rintro e w2 ⟨rfl,hs,hr⟩)
   )
 all_goals
  go_wp2
  go_ret
  rw [Ey] at hr
  exact ⟨rfl,(Save.of hbl1).trans hs,hr⟩
theorem RV.at2 {w : World} {g : Nat} {q : Rat} (h : RV w g q) : At2 w g 0 := by
 obtain ⟨a1,l1,c1,a2,l2,c2,h0,_⟩ := h
 exact ⟨⟨_,h0.cell 0⟩,⟨_,h0.cell 1⟩,h0.frozen 0,h0.frozen 1,h0.lt⟩
theorem RV.neg {w w' : World} {g : Nat} {q : Rat} (h : RV w g q) (hg : Gave w g 0 (-q.num) w') : RV w' g (-q)∧Save g w w' := by
 refine ⟨?_,hg.save⟩
 have hh := h.held
 obtain ⟨a1,l1,c1,a2,l2,c2,h0,h1,h2⟩ := h
 obtain ⟨w1,ao,n,c,hbl,rfl,hn⟩ := hg
 have hb1 := h0.below hbl h0.lt
 have hh1 : YU w1 g := ⟨_,_,hb1,by simp [Qm]⟩
 refine ⟨ao,n,c,a2,l2,c2,?_,?_,?_⟩
 ·have := (hb1.set 1 (.slice ao n c)).set 0 (.bool (decide (-q.num < 0)))
  simpa using this
 ·rw [Rat.neg_num]
  exact hn.two hh1 rfl
 ·rcases h2 with h2 | ⟨e,h2⟩
  ·rw [Rat.neg_den]
   exact Or.inl ((h2.below hbl).two hh1 rfl)
  ·exact Or.inr ⟨e,by rw [h2]; rfl⟩
theorem It {w : World} {g gx : Nat} {y0 y1 y2 y3 : Value} {x : Rat} {k : Nat} (hk : Blk w g #[y0,y1,y2,y3] 35) (hno : (#[y0,y1,y2,y3] : Array Value).all Qm=true) (hx : RV w gx x) (fx : QS k x) (hkl : k≤35184372088640) :
  Calls Tryz.prog 39 #[.pointer (some ⟨g,0,none⟩),.pointer (some ⟨gx,0,none⟩)] w fun e w' => e=.returned (.pointer (some ⟨g,0,none⟩))∧Save g w w'∧RV w' g (-x) := by
 have HX := Qb hx
 have HK := Qb hk
 have FX := Qb fx
 have SX := Qb (XK fx hkl)
 clear hx hk fx
 go_enter Tryz.func39,Tryz.ntmps39
 go_wp2_with fail
 refine (OQ HK.out hno HX.out FX.out hkl).mono ?_
 rintro e w1 ⟨rfl,hs1,hr1⟩
 have HS1 := Qb hs1
 have HR1 := Qb hr1
 clear hs1 hr1
 go_wp2_with fail
 go_region_held3 (fun _ => True) (trivial)
  (first
   | (go_at_call 92; refine (PO (w := w1.drew) (HR1.out.below (Below.drew (Below.refl _ _))).at2 (HR1.out.below (Below.drew (Below.refl _ _))).num SX.out).mono ?_; rintro e w2 ⟨rfl,hg2⟩)
   )
 all_goals
  have hd : Below w1.heap.size w1 w1.drew := Below.drew (Below.refl _ _)
  obtain ⟨hr2,hs2⟩ := (HR1.out.below hd).neg hg2
  go_wp2
  go_ret
  exact ⟨rfl,HS1.out.trans ((Save.of hd).trans hs2),hr2⟩
end Go.Proofs.YtnhplfjlhdpgoaaGreatDoor
/- BS -/
namespace Go.Proofs.YtnhplfjlhdpgoaaGreatDoor
open Go.RowKit Cx
attribute [local go_sem ↓] Go.wp_at_zero Go.wp_at_succ
theorem Yt {w : World} {px py : Value} {x y : Int} (hx : IV w px x) (hy : IV w py y) (sx : Small x.natAbs) (sy : Small y.natAbs) :
  Calls Tryz.prog 56 #[px,py] w fun e w' => Below w.heap.size w w'∧∃ c : Int,e=.returned (.int .i64 c)∧(c < 0 ↔ x < y)∧(c=0 ↔ x=y) := by
 obtain ⟨g1,o1,a1,n1,c1,rfl,x0,x1,x2,xl⟩ := hx
 obtain ⟨g2,o2,a2,n2,c2,rfl,y0,y1,y2,yl⟩ := hy
 have HX := Qb x2
 have HY := Qb y2
 have SX := Qb sx
 have SY := Qb sy
 clear x2 y2 sx sy
 by_cases h1 : x < 0
 ·by_cases h2 : y < 0
  ·have x0' : w.cell? ⟨g1,o1,none⟩=some (.bool true) := by rw [x0,decide_eq_true h1]
   have y0' : w.cell? ⟨g2,o2,none⟩=some (.bool true) := by rw [y0,decide_eq_true h2]
   clear x0 y0
   go_enter Tryz.func56,Tryz.ntmps56
   go_wp2_with fail
   go_quiet (fail)
   go_wp2_with fail
   have HS : Hid (∀ w',Below w.heap.size w w'→(w'.cell? ⟨g1,o1+1,none⟩=some (.slice a1 n1 c1)∧w'.cell? ⟨g2,o2+1,none⟩=some (.slice a2 n2 c2))∧w'.cell? ⟨g1,o1,none⟩=some (.bool true)) := fun w' hb => ⟨⟨(hb.cell (p := ⟨g1,o1+1,none⟩) xl).trans x1,(hb.cell (p := ⟨g2,o2+1,none⟩) yl).trans y1⟩,(hb.cell (p := ⟨g1,o1,none⟩) xl).trans x0'⟩
   go_region_held3 (fun w' => w'.cell? ⟨g1,o1+1,none⟩=some (.slice a1 n1 c1)∧w'.cell? ⟨g2,o2+1,none⟩=some (.slice a2 n2 c2)) (first | go_keep | exact hs1)
    (first
     | (go_at_call 102; refine (Un (HX.out.below (Below.drew (QM (Below.refl _ _) _))) (HY.out.below (Below.drew (QM (Below.refl _ _) _))) SX.out SY.out).mono ?_; rintro e w1 ⟨hb1,c,rfl,hc1,hc2,hc3,hc4⟩; have hbl1 : Below w.heap.size w w1 := (Below.drew (QM (Below.refl _ _) _)).trans hb1; have hs1 := (HS.out w1 hbl1).1; have u0 := (HS.out w1 hbl1).2))
   all_goals
    have HC := Qb (And.intro hc1 hc2)
    clear hc1 hc2
    go_wp2
    go_ret
    obtain ⟨hc1,hc2⟩ := HC.out
    exact ⟨hbl1,-c,by first | rfl | (congr 1; omega),by omega,by omega⟩
  ·have x0' : w.cell? ⟨g1,o1,none⟩=some (.bool true) := by rw [x0,decide_eq_true h1]
   have y0' : w.cell? ⟨g2,o2,none⟩=some (.bool false) := by rw [y0,decide_eq_false h2]
   clear x0 y0
   go_enter Tryz.func56,Tryz.ntmps56
   go_wp2_with fail
   go_quiet (fail)
   go_wp2
   go_ret
   exact ⟨QM (Below.refl _ _) _,-1,rfl,by omega,by omega⟩
 ·by_cases h2 : y < 0
  ·have x0' : w.cell? ⟨g1,o1,none⟩=some (.bool false) := by rw [x0,decide_eq_false h1]
   have y0' : w.cell? ⟨g2,o2,none⟩=some (.bool true) := by rw [y0,decide_eq_true h2]
   clear x0 y0
   go_enter Tryz.func56,Tryz.ntmps56
   go_wp2_with fail
   go_quiet (fail)
   go_wp2
   go_ret
   exact ⟨QM (Below.refl _ _) _,1,rfl,by omega,by omega⟩
  ·have x0' : w.cell? ⟨g1,o1,none⟩=some (.bool false) := by rw [x0,decide_eq_false h1]
   have y0' : w.cell? ⟨g2,o2,none⟩=some (.bool false) := by rw [y0,decide_eq_false h2]
   clear x0 y0
   go_enter Tryz.func56,Tryz.ntmps56
   go_wp2_with fail
   go_quiet (fail)
   go_wp2_with fail
   have HS : Hid (∀ w',Below w.heap.size w w'→(w'.cell? ⟨g1,o1+1,none⟩=some (.slice a1 n1 c1)∧w'.cell? ⟨g2,o2+1,none⟩=some (.slice a2 n2 c2))∧w'.cell? ⟨g1,o1,none⟩=some (.bool false)) := fun w' hb => ⟨⟨(hb.cell (p := ⟨g1,o1+1,none⟩) xl).trans x1,(hb.cell (p := ⟨g2,o2+1,none⟩) yl).trans y1⟩,(hb.cell (p := ⟨g1,o1,none⟩) xl).trans x0'⟩
   go_region_held3 (fun w' => w'.cell? ⟨g1,o1+1,none⟩=some (.slice a1 n1 c1)∧w'.cell? ⟨g2,o2+1,none⟩=some (.slice a2 n2 c2)) (first | go_keep | exact hs1)
    (first
     | (go_at_call 102; refine (Un (HX.out.below (Below.drew (QM (Below.refl _ _) _))) (HY.out.below (Below.drew (QM (Below.refl _ _) _))) SX.out SY.out).mono ?_; rintro e w1 ⟨hb1,c,rfl,hc1,hc2,hc3,hc4⟩; have hbl1 : Below w.heap.size w w1 := (Below.drew (QM (Below.refl _ _) _)).trans hb1; have hs1 := (HS.out w1 hbl1).1; have u0 := (HS.out w1 hbl1).2))
   all_goals
    have HC := Qb (And.intro hc1 hc2)
    clear hc1 hc2
    go_wp2
    go_ret
    obtain ⟨hc1,hc2⟩ := HC.out
    exact ⟨hbl1,c,by first | rfl | (congr 1; omega),by omega,by omega⟩
theorem RU {w : World} {gx : Nat} {x : Rat} {k : Nat} (hx : RV w gx x) (fx : QS k x) (hkl : k≤35184372088640) :
  Calls Tryz.prog 48 #[.pointer (some ⟨gx,0,none⟩)] w fun e w' => Below w.heap.size w w'∧e=.returned (.bool (decide (x.den=1))) := by
 have HX := Qb hx
 have DX := Qb (Yu fx hkl)
 have S1 : Hid (Small (((1 : Nat) : Int)).natAbs) := Qs (k := 1) (by decide) (by decide)
 clear hx fx
 go_enter Tryz.func48,Tryz.ntmps48
 go_wp2_with fail
 refine (ZR HX.out).mono ?_
 rintro e w1 ⟨hb1,p1,rfl,hv1,_⟩
 have HV1 := Qb hv1
 have HB1 := Qb hb1
 clear hv1 hb1
 go_wp2_with fail
 refine (Jq 1 (by decide) w1).mono ?_
 rintro e w2 ⟨hb2,g2,rfl,hg2,ho2⟩
 have HO2 := Qb ho2
 have HV2 := Qb (HV1.out.below hb2)
 have HB2 := Qb (HB1.out.trans (hb2.mono HB1.out.size))
 clear ho2 hb2
 go_wp2_with fail
 refine (Yt HV2.out HO2.out.iv DX.out S1.out).mono ?_
 rintro e w3 ⟨hb3,c,rfl,hc1,hc2⟩
 have HB3 := Qb (HB2.out.trans (hb3.mono HB2.out.size))
 have hd : (c == 0)=decide (x.den=1) := by
  by_cases h : x.den=1
  ·rw [decide_eq_true h,beq_iff_eq]
   exact hc2.2 (by omega)
  ·rw [decide_eq_false h,beq_eq_false_iff_ne]
   exact fun e => h (by have := hc2.1 e; omega)
 have HD := Qb hd
 clear hb3 hc1 hc2 hd
 go_wp2
 go_ret
 exact ⟨HB3.out,by rw [← HD.out]; rfl⟩
end Go.Proofs.YtnhplfjlhdpgoaaGreatDoor
/- BV -/
namespace Go.Proofs.YtnhplfjlhdpgoaaGreatDoor
open Go.RowKit Cx
attribute [local go_sem ↓] Go.wp_at_zero Go.wp_at_succ
theorem Bh {w : World} {g n : Nat} {l : List Nat} (h : Row w g l) (hl : Lim l) (hn : l.length=n) (hm : n≤9223372036854775807) :
  Calls Tryz.prog 101 #[.slice (some ⟨g,0,none⟩) n n] w fun e w' => w'=w∧∃ v',e=.returned v'∧NatN w v' (val l)∧∃ n c,v'=.slice (some ⟨g,0,none⟩) n c := by
 subst hn
 have hv := NatV.ofRow h hl (Nat.le_refl _) (Nat.le_refl _) (by unfold maxLen; omega)
 rw [List.take_length] at hv
 by_cases h0 : l.length=0
 ·have := List.length_eq_zero_iff.1 h0
  subst this
  refine (Iq (some ⟨g,0,none⟩) 0 w).mono ?_
  rintro e w' ⟨rfl,rfl⟩
  exact ⟨rfl,_,rfl,⟨[],NatV.nil _ _ _,Or.inl rfl,rfl⟩,_,_,rfl⟩
 ·obtain ⟨hl2,⟨rfl,_⟩ | ⟨b,off,cap,e,hc,hm2,hlt,hs⟩⟩ := hv
  ·exact absurd rfl h0
  ·simp only [Value.slice.injEq,Option.some.injEq,Addr.mk.injEq,and_true,true_and] at e
   obtain ⟨⟨rfl,rfl⟩,rfl⟩ := e
   have hv := NatV.ofRow h hl (Nat.le_refl _) (Nat.le_refl _) (by unfold maxLen; omega)
   rw [List.take_length] at hv
   refine (Iu g 0 l.length l w hc hm2 hs).mono ?_
   rintro e w' ⟨rfl,rfl⟩
   refine ⟨rfl,_,rfl,⟨strip l,⟨hl.strip,Or.inr ⟨g,0,l.length,by rw [Js],?_,hm2,hlt,hs.pre _⟩⟩,YJ l,Vt l⟩,_,_,rfl⟩
   rw [Js]; have := IZ l; omega
theorem DA {w : World} {ao : Option Addr} {ca b1 o1 d : Nat} {la : List Nat} (ha : Sl w 31 ao ca la b1 o1) (hla : la.length≤1099511627776) (hd : 0 < d) (hd2 : d < 4294967296) :
  Calls Tryz.prog 135 #[.slice ao la.length ca,.int .u32 d] w fun e w' => Below w.heap.size w w'∧∃ v,e=.returned (.tuple #[v,.int .u32 (val la % d : Nat)])∧NatN w' v (val la / d)∧∃ n c,v=.slice (some ⟨w.heap.size,0,none⟩) n c := by
 have hmk := Zy (t := 31) (by kernel_rfl) la.length (by omega)
 have HA : Hid (Sl w 31 ao ca la b1 o1) := ha
 clear ha
 go_enter Tryz.func135,Tryz.ntmps135
 go_wp2
 go_loopw [7,8] (fun lf i wr => ∃ (k r : Nat) (cur : List Nat),k≤la.length∧i=.int .i64 ((k : Int) - 1)∧lf=.int .u64 r∧r < d∧Row wr w.heap.size cur∧cur.length=la.length∧Lim cur∧val (la.drop k)=d*val (cur.drop k)+r∧Below w.heap.size w wr) (fun _ i _ => (intOf i+1).toNat)
 case atStart => exact ⟨la.length,0,List.replicate la.length 0,Nat.le_refl _,rfl,rfl,hd,Row.new _ _,by simp,Zi _,by rw [List.drop_length,List.drop_of_length_le (by simp)]; simp [val],Qh _ _⟩
 case round =>
  obtain ⟨k,r,cur,hk,rfl,rfl,hrd,hrow,hcl,hcm,hval,hbel⟩ := hrel
  have HV : Hid (val (la.drop k)=d*val (cur.drop k)+r) := hval
  have HL : Hid (cur.length=la.length) := hcl
  clear hval hcl
  by_cases h0 : k=0
  ·subst h0
   go_wp2_with fail
   refine (Bh hrow hcm HL.out (by omega)).mono ?_
   rintro e w' ⟨rfl,v',rfl,hv',nn,cc,rfl⟩
   go_wp2
   go_ret2
   have h1 := HV.out
   rw [List.drop_zero,List.drop_zero] at h1
   have hq : val cur=val la / d := by
    rw [h1,Nat.mul_add_div hd,Nat.div_eq_of_lt hrd,Nat.add_zero]
   have hm2 : val la % d=r := by
    rw [h1,Nat.mul_add_mod,Nat.mod_eq_of_lt hrd]
   rw [hq] at hv'
   rw [hm2]
   refine ⟨hbel,_,by go_num,hv',_,_,rfl⟩
  ·obtain ⟨m,rfl⟩ : ∃ m,k=m+1 := ⟨k - 1,by omega⟩
   rw [show (((m+1 : Nat) : Int) - 1)=(m : Int) from by omega]
   have hia := HA.out.idx m (by omega)
   have hca := (hbel.cell (p := ⟨b1,o1+m,none⟩) (HA.out.lt (by omega))).trans (HA.out.seg m (by omega))
   have hcc := hrow.cell (j := m) (by rw [HL.out]; omega)
   have hfz := hrow.frozen m
   have hx := QF HA.out.lim m
   have hor := UP r (nth la m) (by omega) hx
   go_wp2
   go_roundw
   case rel =>
    have hq := Ug r (nth la m) d hrd hx
    have e1 : (((r*4294967296+nth la m) % d : Nat) : Int)=((r : Int)*4294967296+(nth la m : Int)) % (d : Int) := UW _ _ _
    have e2 : (((r*4294967296+nth la m) / d : Nat) : Int)=((r : Int)*4294967296+(nth la m : Int)) / (d : Int) := UV _ _ _
    refine ⟨m,(r*4294967296+nth la m) % d,cur.set m ((r*4294967296+nth la m) / d),by omega,rfl,by rw [e1],Nat.mod_lt _ hd,hrow.set' _ _ (by rw [← e2]; exact CX hq),by rw [List.length_set,HL.out],hcm.set hq,?_,hbel.setCell (Nat.le_refl _) _⟩
    rw [JS (l := la) (by omega),JS (l := cur.set m _) (by rw [List.length_set,HL.out]; omega),Vh,ZS (by rw [HL.out]; omega)]
    exact Ou _ _ _ _ _ HV.out
   case measure => simp [intOf]
theorem Fl {w : World} {va : Value} {a d : Nat} (ha : NatN w va a) (hla : Small a) (hd : 0 < d) (hd2 : d < 4294967296) :
  Calls Tryz.prog 135 #[va,.int .u32 d] w fun e w' => Below w.heap.size w w'∧∃ v,e=.returned (.tuple #[v,.int .u32 (a % d : Nat)])∧NatN w' v (a / d)∧∃ n c,v=.slice (some ⟨w.heap.size,0,none⟩) n c := by
 obtain ⟨la,ha,ta,rfl⟩ := ha
 obtain ⟨ao,ca,b1,o1,rfl,sa⟩ := ha.sl32
 exact DA sa (hla.len ta) hd hd2
def bx (l : List UInt8) : List Value := l.map fun b => Value.int .u8 (b.toNat : Int)
theorem Pa (a b : List UInt8) : bx (a ++ b)=bx a ++ bx b := List.map_append
theorem NR (a : List UInt8) : (bx a).length=a.length := List.length_map _
def dd (n : Nat) : List UInt8 := if n=0 then [] else Lib.decDigits n
theorem dd_step {a : Nat} (h : a ≠ 0) : dd a=dd (a / 10) ++ [UInt8.ofNat (48+a % 10)] := by
 unfold dd
 rw [if_neg h,Lib.decDigits]
 by_cases h1 : a < 10
 ·rw [dif_pos h1,if_pos (by omega),Nat.mod_eq_of_lt h1]; rfl
 ·rw [dif_neg h1,if_neg (by omega)]
theorem Al {a n : Nat} {L : List UInt8} (h : a ≠ 0) (e : dd a ++ L.reverse=dd n) : dd (a / 10) ++ (L ++ [UInt8.ofNat (48+a % 10)]).reverse=dd n := by
 rw [← e,dd_step h,List.reverse_append]
 simp
theorem dd_len {a n : Nat} {L : List UInt8} (e : dd a ++ L.reverse=dd n) : L.length≤(Lib.decDigits n).length := by
 have h := congrArg List.length e
 rw [List.length_append,List.length_reverse] at h
 have h2 : (dd n).length≤(Lib.decDigits n).length := by
  unfold dd
  split
  ·exact Nat.zero_le _
  ·exact Nat.le_refl _
 omega
theorem Ek {w : World} {g : Nat} {o : Obj} (h : w.heap[g]? = some o) : g < w.heap.size := (Array.getElem?_eq_some_iff.1 h).choose
theorem LB {r : Nat} (h : r < 10) : ((UInt8.ofNat (48+r)).toNat : Int)=48+(r : Int) := by
 rw [UInt8.toNat_ofNat',Nat.mod_eq_of_lt (by omega)]
 omega
theorem NatN.grown {w w' : World} {n k c : Nat} {b o : Nat} {row : Option Nat} (h : NatN w (.slice (some ⟨b,o,none⟩) k c) n) (hg : w.grownBy w' row) (hne : some b ≠ row) : NatN w' (.slice (some ⟨b,o,none⟩) k c) n := by
 obtain ⟨l,⟨hl,⟨rfl,ao,cap,e⟩ | ⟨b1,off,cap,e,hc,hm,hlt,hs⟩⟩,t,rfl⟩ := h
 ·cases e
  exact ⟨[],NatV.nil _ _ _,t,rfl⟩
 ·cases e
  exact ⟨l,⟨hl,Or.inr ⟨b,o,c,rfl,hc,hm,Nat.lt_of_lt_of_le hlt hg.size,fun j hj => hg.cell (a := ⟨b,o+j,none⟩) (hs j hj) hne⟩⟩,t,rfl⟩
theorem RW {a w w' : World} {row : Option Nat} (h : Below a.heap.size a w) (hg : w.grownBy w' row) (hr : ∀ k,row=some k→a.heap.size≤k) : Below a.heap.size a w' := by
 refine ⟨hg.os.trans h.os,hg.tape.trans h.tape,hg.output.trans h.output,Nat.le_trans h.size hg.size,fun i hi => ?_⟩
 rw [hg.block i (Nat.lt_of_lt_of_le hi h.size) (fun e => by have := hr i e.symm; omega),h.block i hi]
theorem Oq {w : World} {base e n : Nat} {v : Value} {xs : List Value} (h : w.ownsRow base e 1 v n xs) : ∀ k,v.ownBlock=some k→base≤k∧k < w.heap.size := by
 intro k hk
 rcases h.2 with ⟨rfl,_⟩ | ⟨g,cap,cur,rfl,hb,hh,_⟩
 ·simp [Value.ownBlock] at hk
 ·simp [Value.ownBlock] at hk
  subst hk
  exact ⟨hb,Ek hh⟩
theorem Cl {w w' : World} {base e n : Nat} {v : Value} {xs : List Value} (h : w.ownsRow base e 1 v n xs) (hb : Below w.heap.size w w') : w'.ownsRow base e 1 v n xs := by
 refine ⟨h.1,?_⟩
 rcases h.2 with h2 | ⟨g,cap,cur,rfl,hb2,hh,h3⟩
 ·exact Or.inl h2
 ·exact Or.inr ⟨g,cap,cur,rfl,hb2,(hb.block g (Ek hh)).trans hh,h3⟩
theorem SV (w : World) (v : Value) (t : TypeId) : ∀ j u,([v] : List Value)[j]? = some u→(w.alloc (.cells #[v] t)).cell? (Addr.add ⟨w.heap.size,0,none⟩ j)=some u := by
 intro j u hj
 match j,hj with
 | 0,hj => simp at hj; subst hj; simp [Addr.add]
def Wc (L : List UInt8) (i : Nat) : List UInt8 := (List.range L.length).map fun p => if p < i ∨ L.length - i≤p then L.getD (L.length - 1 - p) 0 else L.getD p 0
theorem Xn (L : List UInt8) (i : Nat) : (Wc L i).length=L.length := by simp [Wc]
theorem OY {L : List UInt8} {i p : Nat} (h : p < L.length) : (Wc L i)[p]? = some (if p < i ∨ L.length - i≤p then L.getD (L.length - 1 - p) 0 else L.getD p 0) := by
 simp [Wc,h]
theorem Pl (L : List UInt8) : Wc L 0=L := by
 apply List.ext_getElem?
 intro p
 by_cases h : p < L.length
 ·rw [OY h,if_neg (by omega),List.getD_eq_getElem?_getD,List.getElem?_eq_getElem h]
  rfl
 ·rw [List.getElem?_eq_none (by rw [Xn]; omega),List.getElem?_eq_none (by omega)]
theorem As {L : List UInt8} {i : Nat} (h : L.length≤2*i+1) : Wc L i=L.reverse := by
 apply List.ext_getElem?
 intro p
 by_cases hp : p < L.length
 ·rw [OY hp,List.getElem?_reverse hp,List.getElem?_eq_getElem (by omega)]
  split
  ·rw [List.getD_eq_getElem?_getD,List.getElem?_eq_getElem (by omega)]; rfl
  ·have : L.length - 1 - p=p := by omega
   simp only [this]
   rw [List.getD_eq_getElem?_getD,List.getElem?_eq_getElem hp]; rfl
 ·rw [List.getElem?_eq_none (by rw [Xn]; omega),List.getElem?_eq_none (by simp; omega)]
theorem NO {L : List UInt8} {i : Nat} (h : 2*i+1 < L.length) : ((Wc L i).set i (L.getD (L.length - 1 - i) 0)).set (L.length - 1 - i) (L.getD i 0)=Wc L (i+1) := by
 apply List.ext_getElem?
 intro p
 by_cases hp : p < L.length
 ·rw [OY hp]
  by_cases e1 : p=L.length - 1 - i
  ·subst e1
   rw [List.getElem?_set_self (by rw [List.length_set,Xn]; omega),if_pos (Or.inr (by omega))]
   rw [show L.length - 1 - (L.length - 1 - i)=i by omega]
  ·rw [List.getElem?_set_ne (by omega)]
   by_cases e2 : p=i
   ·subst e2
    rw [List.getElem?_set_self (by rw [Xn]; omega),if_pos (Or.inl (by omega))]
   ·rw [List.getElem?_set_ne (by omega),OY hp]
    by_cases e3 : p < i ∨ L.length - i≤p
    ·rw [if_pos e3,if_pos (by omega)]
    ·rw [if_neg e3,if_neg (by omega)]
 ·rw [List.getElem?_eq_none (by rw [List.length_set,List.length_set,Xn]; omega),List.getElem?_eq_none (by rw [Xn]; omega)]
end Go.Proofs.YtnhplfjlhdpgoaaGreatDoor
/- BW -/
namespace Go.Proofs.YtnhplfjlhdpgoaaGreatDoor
open Go.RowKit Cx
attribute [local go_sem ↓] Go.wp_at_zero Go.wp_at_succ
theorem Tryz.infoU8 : (Tryz.prog.info? 5).map (fun i => (i.zero,i.size,i.bytes))=some (some (.int .u8 0),1,1) := by kernel_rfl
theorem ED {w w0 w2 w4 : World} {a n : Nat} {L : List UInt8} {bs v' : Value} {nn cc r : Nat} (hr : a % 10=r) (ha : a ≠ 0) (e : dd a ++ L.reverse=dd n)
  (hown : w0.ownsRow w.heap.size 5 1 bs L.length (bx L)) (hbl : Below w.heap.size w w0) (hb2 : Below w0.heap.size w0 w2) (hv : NatN w2 (.slice (some ⟨w0.heap.size,0,none⟩) nn cc) (a / 10))
  (hown4 : w4.ownsRow w.heap.size 5 1 v' (L.length+1) (bx L ++ [.int .u8 (48+(r : Int))])) (hg : (w2.alloc (.cells #[.int .u8 (48+(r : Int))] 5)).grownBy w4 bs.ownBlock) :
  ∃ (L' : List UInt8) (a' : Nat),a' < a∧w4.ownsRow w.heap.size 5 1 v' L'.length (bx L')∧NatN w4 (.slice (some ⟨w0.heap.size,0,none⟩) nn cc) a'∧dd a' ++ L'.reverse=dd n∧Below w.heap.size w w4∧a'=a / 10 := by
 have hr2 : r < 10 := by omega
 refine ⟨L ++ [UInt8.ofNat (48+r)],a / 10,by omega,?_,?_,?_,?_,rfl⟩
 ·rw [Pa,List.length_append]
  show World.ownsRow _ _ _ _ _ _ (bx L ++ [Value.int .u8 ((UInt8.ofNat (48+r)).toNat : Int)])
  rw [LB hr2]
  exact hown4
 ·refine (hv.below (Qh _ _)).grown hg ?_
  intro h
  have := (Oq hown _ h.symm).2
  omega
 ·rw [← hr]
  exact Al ha e
 ·refine RW (Below.new (hbl.trans (hb2.mono hbl.size)) _) hg ?_
  intro k hk
  exact (Oq hown _ hk).1
theorem Ki {w : World} {base e n : Nat} {v : Value} {xs : List Value} (h : w.ownsRow base e 1 v n xs) (hv : v ≠ .slice none 0 0) : ∃ g cap,v=.slice (some ⟨g,0,none⟩) n cap∧base≤g∧n≤cap∧cap≤maxLen := by
 rcases h.2 with ⟨h1,_⟩ | ⟨g,cap,cur,rfl,hb,hh,hc,hm,_⟩
 ·exact absurd h1 hv
 ·exact ⟨g,cap,rfl,hb,hc,hm⟩
theorem Nw {w : World} {base e n : Nat} {v : Value} {L : List UInt8} (h : w.ownsRow base e 1 v n (bx L)) (hL : L ≠ []) : v ≠ .slice none 0 0 := by
 rintro rfl
 rcases h.2 with ⟨_,h1⟩ | ⟨g,cap,cur,h1,_⟩
 ·apply hL
  have h2 := h.1
  rw [NR] at h2
  exact List.length_eq_zero_iff.1 (by omega)
 ·cases h1
def gd (M : List UInt8) (p : Nat) : UInt8 := M.getD p 0
theorem ID {w : World} {base g cap : Nat} {M : List UInt8} {i p : Nat} (h : w.ownsRow base 5 1 (.slice (some ⟨g,0,none⟩) M.length cap) M.length (bx (Wc M i))) (hp : p < M.length) (h2 : ¬ (p < i ∨ M.length - i≤p)) : w.cell? ⟨g,p,none⟩=some (.int .u8 ((gd M p).toNat : Int)) := by
 rw [h.cellAt p (by omega)]
 simp only [bx,List.getElem?_map,OY hp,if_neg h2,Option.map_some]
 rfl
theorem Ss {w : World} {base g cap : Nat} {M : List UInt8} {i j : Nat} (h : w.ownsRow base 5 1 (.slice (some ⟨g,0,none⟩) M.length cap) M.length (bx (Wc M i))) (hij : i+j+1=M.length) (hlt : i < j) :
  ((w.setCell ⟨g,i,none⟩ (.int .u8 ((gd M j).toNat : Int))).setCell ⟨g,j,none⟩ (.int .u8 ((gd M i).toNat : Int))).ownsRow base 5 1 (.slice (some ⟨g,0,none⟩) M.length cap) M.length (bx (Wc M (i+1))) := by
 have h1 := (h.stored i (.int .u8 ((gd M j).toNat : Int))).1
 have h2 := (h1.stored j (.int .u8 ((gd M i).toNat : Int))).1
 have hst := NO (L := M) (i := i) (by omega)
 rw [show M.length - 1 - i=j by omega] at hst
 rw [← hst]
 have e : bx (((Wc M i).set i (gd M j)).set j (gd M i))=((bx (Wc M i)).set i (.int .u8 ((gd M j).toNat : Int))).set j (.int .u8 ((gd M i).toNat : Int)) := by
  simp [bx,List.map_set]
 show World.ownsRow _ _ _ _ _ _ (bx (((Wc M i).set i (gd M j)).set j (gd M i)))
 rw [e]
 exact h2
theorem SI {w : World} {base g cap : Nat} {M : List UInt8} {i j : Nat} (h : w.ownsRow base 5 1 (.slice (some ⟨g,0,none⟩) M.length cap) M.length (bx (Wc M i))) (hij : i+j+1=M.length) (hlt : ¬ i < j) :
  (convert 155 9 (.slice (some ⟨g,0,none⟩) M.length cap)).run Tryz.prog w=.ok (.string ⟨M.reverse.toArray⟩) w := by
 have := run_convert_bytes_back (P := Tryz.prog) w 155 9 5 ⟨g,0,none⟩ cap M.reverse Tryz.underlying155 Tryz.underlying5 Tryz.underlying9 (fun k hk => by
  have hk2 : k < M.length := by simpa using hk
  have := h.cellAt k (by omega)
  rw [As (by omega)] at this
  have ea : Addr.add ⟨g,0,none⟩ k=⟨g,k,none⟩ := by unfold Addr.add; split <;> simp_all
  rw [ea,this]
  simp only [bx,List.getElem?_map,List.getElem?_eq_getElem hk,Option.map_some])
 rw [List.length_reverse] at this
 exact this
theorem PU {w : World} {p : Value} {x : Int} (hx : IV w p x) (sx : Small x.natAbs) (hne : x ≠ 0) (hd : (Lib.decDigits x.natAbs).length≤140737488355300) :
  Calls Tryz.prog 98 #[p,.int .i64 10] w fun e w' => Below w.heap.size w w'∧e=.returned (.string ⟨((if x < 0 then [45] else []) ++ Lib.decDigits x.natAbs).toArray⟩) := by
 obtain ⟨g,o,ao,n,c,rfl,x0,x1,x2,xl⟩ := hx
 obtain ⟨i0,hi,hz0,hz1,hz2⟩ := info_parts Tryz.infoU8
 generalize hT : ((if x < 0 then [45] else []) ++ Lib.decDigits x.natAbs : List UInt8)=T
 have HT := Qb hT
 clear hT
 have hn0 : n ≠ 0 := by
  obtain ⟨_,_,_,e,_,_,hz⟩ := Zf x2
  cases e
  intro h
  have := hz.1 h
  omega
 have hnb : ((n : Int) == 0)=false := beq_eq_false_iff_ne.mpr (by omega)
 have HX := Qb x2
 have SX := Qb sx
 have HD := Qb hd
 clear x2 sx hd
 go_enter Tryz.func98,Tryz.ntmps98
 go_wp2_with fail
 refine (Xa HX.out SX.out).mono ?_
 rintro e w1 ⟨hb1,v1,rfl,hv1⟩
 have HB1 := Qb hb1
 have HV1 := Qb hv1
 clear hb1 hv1
 go_wp2
 go_loopg [5,6] x.natAbs (fun k bs av wr => ∃ (L : List UInt8) (a : Nat),a≤k∧a≤x.natAbs∧wr.ownsRow w.heap.size 5 1 bs L.length (bx L)∧NatN wr av a∧dd a ++ L.reverse=dd x.natAbs∧Below w.heap.size w wr)
 case atStart => exact ⟨[],x.natAbs,Nat.le_refl _,Nat.le_refl _,World.ownsRow_nil _ _ _ _,HV1.out,by simp,HB1.out⟩
 case round =>
  obtain ⟨L,a,hak,han,hown,hva,hdd,hbl⟩ := hrel
  have HOWN := Qb hown
  have HVA := Qb hva
  have HDD := Qb hdd
  have HBL := Qb hbl
  have HLL := Qb (dd_len hdd)
  obtain ⟨ab,na,ca,rfl,_,_,hz⟩ := Zf hva
  have HZ := Qb hz
  have hy0 := (hbl.cell (p := ⟨g,o,none⟩) xl).trans x0
  clear hown hva hdd hbl hz
  by_cases ha : a=0
  ·have hna : na=0 := HZ.out.2 ha
   subst hna
   have HLR : Hid (L.reverse=Lib.decDigits x.natAbs) := by
    have := HDD.out
    subst ha
    have h0 : x.natAbs ≠ 0 := by omega
    simp only [dd,if_neg h0,if_true,List.nil_append] at this
    exact this
   have hL0 : L ≠ [] := by
    intro e
    have := HLR.out
    rw [e] at this
    have h1 := Lib.decDigits_length x.natAbs
    rw [← this] at h1
    have h2 := Lib.nDigits_pos x.natAbs
    simp at h1
    omega
   have hlen : L.length+1≤140737488355328 := by have := HLL.out; have := HD.out; omega
   by_cases hs : x < 0
   ·rw [decide_eq_true hs] at hy0
    have HO2 := Qb (Cl HOWN.out (Qh wr (.cells #[.int .u8 45] 5)))
    have HNW := Qb (SV wr (.int .u8 45) 5)
    obtain ⟨M,hM⟩ : ∃ M,L ++ [45]=M := ⟨_,rfl⟩
    have HMB : Hid (bx L ++ [Value.int .u8 45]=bx M∧L.length+1=M.length) := by
     refine ⟨?_,?_⟩
     ·rw [← hM,Pa]; rfl
     ·rw [← hM]; simp
    have HMM := Qb hM
    clear hM
    have hM0 : 0 < M.length := by have := HMB.out.2; omega
    have hMm : M.length≤140737488355328 := by have := HMB.out.2; omega
    go_wp2_with (at_builtin; refine wpList_append_own _ rfl _ _ 155 rfl w.heap.size 5 i0 (.int .u8 0) 1 1 Tryz.underlying155 hi hz0 hz1 hz2 rfl (by decide) _ L.length (bx L) rfl HO2.out ⟨wr.heap.size,0,none⟩ 1 1 [.int .u8 45] rfl rfl HNW.out (by intro u hu; simp at hu; subst hu; rfl) (by unfold maxLen; omega) (by omega) (by have := HBL.out.size; simp; omega) ?_; intro v' w4 hown4 hgrow hnil; rw [HMB.out.1,HMB.out.2] at hown4; obtain ⟨g2,cap,rfl,hg2,hc2,hm2⟩ := Ki hown4 (fun e => by have := (hnil.1 e).2; omega))
    have HR : Hid (T=M.reverse) := by
     show _=_
     rw [← HT.out,if_pos hs,← HMM.out,List.reverse_append,HLR.out]
     rfl
    have HM := Qb (And.intro hown4 (RW (Below.new HBL.out _) hgrow (fun k hk => (Oq HOWN.out _ hk).1)))
    clear hown4 hgrow hnil hlen
    go_wp2
    go_loopw [8,9] (fun iv jv wx => ∃ i j : Nat,iv=.int .i64 i∧jv=.int .i64 j∧i+j+1=M.length∧wx.ownsRow w.heap.size 5 1 (.slice (some ⟨g2,0,none⟩) M.length cap) M.length (bx (Wc M i))∧Below w.heap.size w wx) (fun iv _ _ => M.length - (intOf iv).toNat)
    case atStart => exact ⟨0,M.length - 1,rfl,by rw [show ((M.length - 1 : Nat) : Int)=(M.length : Int) - 1 by omega],by omega,by rw [Pl]; exact HM.out.1,HM.out.2⟩
    case round =>
     obtain ⟨i,j,rfl,rfl,hij,hw,hbx⟩ := hrel
     have HW := Qb (And.intro hw (And.intro hij hbx))
     have hiM : i < M.length := by omega
     have hjM : j < M.length := by omega
     by_cases hlt : i < j
     ·have ci := ID hw hiM (by omega)
      have cj := ID hw hjM (by omega)
      have fi := hw.frozenAt i
      have fj := hw.frozenAt j
      clear hw hij hbx
      go_wp2
      go_roundw
      case rel => exact ⟨i+1,j - 1,by rw [show ((i+1 : Nat) : Int)=(i : Int)+1 by omega],by rw [show ((j - 1 : Nat) : Int)=(j : Int) - 1 by omega],by have := HW.out.2.1; omega,Ss HW.out.1 HW.out.2.1 hlt,Below.set (Below.set HW.out.2.2 hg2 _ _) hg2 _ _⟩
      case measure => simp [intOf]; omega
     ·have hcv := SI hw hij hlt
      clear hw hij hbx
      go_wp2
      go_ret
      exact ⟨HW.out.2.2,by rw [HR.out]; rfl⟩
   ·rw [decide_eq_false hs] at hy0
    obtain ⟨g2,cap,hv',hg2,hc2,hm2⟩ := Ki HOWN.out (Nw HOWN.out hL0)
    subst hv'
    generalize hM : L=M at *
    have HR : Hid (T=M.reverse) := by
     show _=_
     rw [← HT.out,if_neg hs,HLR.out]
     rfl
    have HM := Qb (And.intro HOWN.out HBL.out)
    have hM0 : 0 < M.length := List.length_pos_iff.2 hL0
    have hMm : M.length≤140737488355328 := by omega
    clear hlen
    go_wp2
    go_loopw [8,9] (fun iv jv wx => ∃ i j : Nat,iv=.int .i64 i∧jv=.int .i64 j∧i+j+1=M.length∧wx.ownsRow w.heap.size 5 1 (.slice (some ⟨g2,0,none⟩) M.length cap) M.length (bx (Wc M i))∧Below w.heap.size w wx) (fun iv _ _ => M.length - (intOf iv).toNat)
    case atStart => exact ⟨0,M.length - 1,rfl,by rw [show ((M.length - 1 : Nat) : Int)=(M.length : Int) - 1 by omega],by omega,by rw [Pl]; exact HM.out.1,HM.out.2⟩
    case round =>
     obtain ⟨i,j,rfl,rfl,hij,hw,hbx⟩ := hrel
     have HW := Qb (And.intro hw (And.intro hij hbx))
     have hiM : i < M.length := by omega
     have hjM : j < M.length := by omega
     by_cases hlt : i < j
     ·have ci := ID hw hiM (by omega)
      have cj := ID hw hjM (by omega)
      have fi := hw.frozenAt i
      have fj := hw.frozenAt j
      clear hw hij hbx
      go_wp2
      go_roundw
      case rel => exact ⟨i+1,j - 1,by rw [show ((i+1 : Nat) : Int)=(i : Int)+1 by omega],by rw [show ((j - 1 : Nat) : Int)=(j : Int) - 1 by omega],by have := HW.out.2.1; omega,Ss HW.out.1 HW.out.2.1 hlt,Below.set (Below.set HW.out.2.2 hg2 _ _) hg2 _ _⟩
      case measure => simp [intOf]; omega
     ·have hcv := SI hw hij hlt
      clear hw hij hbx
      go_wp2
      go_ret
      exact ⟨HW.out.2.2,by rw [HR.out]; rfl⟩
  ·have hna : na ≠ 0 := fun h => ha (HZ.out.1 h)
   have HSA : Hid (Small a) := UR SX.out han
   go_wp2_with fail
   refine (Fl (d := 10) HVA.out HSA.out (by decide) (by decide)).mono ?_
   generalize hr : a % 10=r
   have hr10 : r < 10 := by omega
   rintro e w2 ⟨hb2,v2,rfl,hv2,nn,cc,rfl⟩
   have HB2 := Qb hb2
   have HV2 := Qb hv2
   have HR := Qb hr
   have hown2 := Cl HOWN.out (Below.new hb2 (.cells #[.int .u8 (48+(r : Int))] 5))
   have HNW := Qb (SV w2 (.int .u8 (48+(r : Int))) 5)
   have HO2 := Qb hown2
   have hlen : L.length+1≤140737488355328 := by have := HLL.out; have := HD.out; omega
   clear hb2 hv2 hr hown2
   go_wp2_with (at_builtin; refine wpList_append_own _ rfl _ _ 155 rfl w.heap.size 5 i0 (.int .u8 0) 1 1 Tryz.underlying155 hi hz0 hz1 hz2 rfl (by decide) _ L.length (bx L) rfl HO2.out ⟨w2.heap.size,0,none⟩ 1 1 [.int .u8 (48+(r : Int))] rfl rfl HNW.out (by intro u hu; simp at hu; subst hu; rfl) (by unfold maxLen; omega) (by omega) (by have := HBL.out.size; have := HB2.out.size; simp; omega) ?_; intro v' w4 hown4 hgrow hnil)
   obtain ⟨L',a',h1,h2,h3,h4,h5,h6⟩ := ED HR.out ha HDD.out HOWN.out HBL.out HB2.out HV2.out hown4 hgrow
   have HF := Qb (And.intro h2 (And.intro h3 (And.intro h4 h5)))
   clear h2 h3 h4 h5 hown4 hgrow hnil
   go_wp2
   go_roundg a'
   case measure => omega
   case rel => exact ⟨L',a',Nat.le_refl _,by omega,HF.out.1,HF.out.2.1,HF.out.2.2.1,HF.out.2.2.2⟩
end Go.Proofs.YtnhplfjlhdpgoaaGreatDoor
/- BX -/
namespace Go.Proofs.YtnhplfjlhdpgoaaGreatDoor
open Go.RowKit Cx
attribute [local go_sem ↓] Go.wp_at_zero Go.wp_at_succ
def zx (x : Int) : List UInt8 := (if x < 0 then [45] else []) ++ Lib.decDigits x.natAbs
theorem zx_zero : zx 0=[48] := by
 unfold zx
 rw [if_neg (by decide)]
 show Lib.decDigits 0=_
 rw [Lib.decDigits,dif_pos (by decide)]
 rfl
theorem DF {w : World} {p : Value} (hx : IV w p 0) :
  Calls Tryz.prog 98 #[p,.int .i64 10] w fun e w' => w'=w∧e=.returned (.string ⟨#[48]⟩) := by
 obtain ⟨g,o,ao,n,c,rfl,x0,x1,x2,xl⟩ := hx
 have hn0 : n=0 := by
  obtain ⟨_,_,_,e,_,_,hz⟩ := Zf x2
  cases e
  exact hz.2 rfl
 subst hn0
 clear x2
 go_enter Tryz.func98,Tryz.ntmps98
 go_wp2
 go_ret
 exact ⟨rfl,rfl⟩
theorem GA {w : World} {p : Value} {x : Int} {k : Nat} (hx : IV w p x) (sx : x.natAbs < 2 ^ k) (hk : k≤35184372088640) :
  Calls Tryz.prog 98 #[p,.int .i64 10] w fun e w' => Below w.heap.size w w'∧e=.returned (.string ⟨(zx x).toArray⟩) := by
 by_cases h : x=0
 ·subst h
  refine (DF hx).mono ?_
  rintro e w' ⟨rfl,rfl⟩
  exact ⟨Below.refl _ _,by rw [zx_zero]⟩
 ·refine PU hx (Qs sx hk) h ?_
  rw [Lib.decDigits_length]
  have := Xl sx
  omega
theorem Yk {w : World} {p : Value} {x : Int} {k : Nat} (hx : IV w p x) (sx : x.natAbs < 2 ^ k) (hk : k≤35184372088640) :
  Calls Tryz.prog 49 #[p] w fun e w' => Below w.heap.size w w'∧e=.returned (.string ⟨(zx x).toArray⟩) := by
 have h := GA hx sx hk
 obtain ⟨g,o,ao,n,c,rfl,x0,x1,x2,xl⟩ := hx
 clear x0 x1 x2
 go_enter Tryz.func49,Tryz.ntmps49
 go_wp2_with fail
 refine h.mono ?_
 rintro e w1 ⟨hb,rfl⟩
 have HB := Qb hb
 clear hb
 go_wp2
 go_ret
 exact ⟨HB.out,rfl⟩
theorem KD {w : World} {g : Nat} {x : Rat} {k : Nat} (hx : RV w g x) (fx : QS k x) (hkl : k≤35184372088640) :
  Calls Tryz.prog 11 #[.pointer (some ⟨g,0,none⟩)] w fun e w' => Below w.heap.size w w'∧∃ g',e=.returned (.pointer (some ⟨g',0,none⟩))∧Own2 w' g' (x.den : Int) := by
 have HX := Qb hx
 have LX := Qb hx.lt
 have DX := Qb (Yu fx hkl)
 clear hx fx
 go_enter Tryz.func11,Tryz.ntmps11
 go_wp2_with fail
 refine (ZR (HX.out.below (Qh _ _))).mono ?_
 rintro e w1 ⟨hb1,p1,rfl,hv1,hap1⟩
 have HB1 := Qb hb1
 have HV1 := Qb hv1
 have HA1 := Qb (hap1 w.heap.size (by have := LX.out; omega) (by simp))
 have HK1 := Qb (Xr hb1 (Blk.new w #[.bool false,.slice none 0 0] 33))
 clear hb1 hv1 hap1
 go_wp2_with fail
 refine (Ys (At2.blk HK1.out) HV1.out HA1.out DX.out).mono ?_
 rintro e w2 ⟨rfl,hg⟩
 have HG := Qb hg
 clear hg
 go_wp2
 go_ret
 exact ⟨ZC (Qq (Qh _ _) HB1.out) HG.out.save (Nat.le_refl _),_,rfl,(HG.out.own HK1.out).1⟩
theorem Ht {q : Rat} (h : q.den=1) : tx q=zx q.num := by
 unfold tx zx
 rw [if_pos h,List.append_nil]
theorem Ad {q : Rat} (h : q.den ≠ 1) : tx q=zx q.num ++ (47 :: zx (q.den : Int)) := by
 unfold tx zx
 rw [if_neg h,if_neg (show ¬ ((q.den : Int) < 0) by omega),List.nil_append,Int.natAbs_natCast,List.append_assoc]
theorem Ay {x : Int} {k : Nat} (sx : x.natAbs < 2 ^ k) : (zx x).length≤k+2 := by
 unfold zx
 rw [List.length_append,Lib.decDigits_length]
 have h1 := Xl sx
 have h3 : (if x < 0 then ([45] : List UInt8) else []).length≤1 := by split <;> simp
 omega
theorem Mf {w : World} {g : Nat} {x : Rat} {k : Nat} (hx : RV w g x) (fx : QS k x) (hkl : k≤35184372088640) :
  Calls Tryz.prog 17 #[.pointer (some ⟨g,0,none⟩)] w fun e w' => Below w.heap.size w w'∧e=.returned (.string ⟨(tx x).toArray⟩) := by
 have HX := Qb hx
 have FX := Qb fx
 clear hx
 by_cases hd : x.den=1
 ·have HD := Qb hd
  have hdd : decide (x.den=1)=true := decide_eq_true hd
  have HT := Qb (Ht hd)
  clear hd
  go_enter Tryz.func17,Tryz.ntmps17
  go_wp2_with fail
  refine (RU HX.out FX.out hkl).mono ?_
  rintro e w1 ⟨hb1,rfl⟩
  rw [hdd]
  have HB1 := Qb hb1
  clear hb1 hdd
  go_wp2_with fail
  refine (Iz g w1).mono ?_
  rintro e w2 ⟨hw,rfl⟩
  subst hw
  go_wp2_with fail
  refine (Yk (HX.out.below HB1.out).num FX.out.num hkl).mono ?_
  rintro e w3 ⟨hb3,rfl⟩
  have HB3 := Qb (Qq HB1.out hb3)
  clear hb3
  go_wp2
  go_ret
  exact ⟨HB3.out,by rw [HT.out]; rfl⟩
 ·have hdd : decide (x.den=1)=false := decide_eq_false hd
  have HT := Qb (Ad hd)
  have hl1 := Ay fx.num
  have hl2 : (zx (x.den : Int)).length≤k+2 := Ay (by rw [Int.natAbs_natCast]; exact fx.den)
  clear hd
  go_enter Tryz.func17,Tryz.ntmps17
  go_wp2_with fail
  refine (RU HX.out FX.out hkl).mono ?_
  rintro e w1 ⟨hb1,rfl⟩
  rw [hdd]
  have HB1 := Qb hb1
  clear hb1 hdd
  go_wp2_with fail
  refine (Iz g w1).mono ?_
  rintro e w2 ⟨hw,rfl⟩
  subst hw
  go_wp2_with fail
  refine (Yk (HX.out.below HB1.out).num FX.out.num hkl).mono ?_
  rintro e w3 ⟨hb3,rfl⟩
  have HB3 := Qb (Qq HB1.out hb3)
  clear hb3
  go_wp2_with fail
  refine (KD (HX.out.below HB3.out) FX.out hkl).mono ?_
  rintro e w4 ⟨hb4,g4,rfl,ho4⟩
  have HB4 := Qb (Qq HB3.out hb4)
  have HO4 := Qb ho4
  clear hb4 ho4
  go_wp2_with fail
  refine (Yk HO4.out.iv (k := k) (by rw [Int.natAbs_natCast]; exact FX.out.den) hkl).mono ?_
  rintro e w5 ⟨hb5,rfl⟩
  have HB5 := Qb (Qq HB4.out hb5)
  clear hb5
  go_wp2
  go_ret
  exact ⟨HB5.out,by rw [HT.out]; simp; apply ByteArray.ext; simp [ByteArray.data_append]⟩
end Go.Proofs.YtnhplfjlhdpgoaaGreatDoor
/- BY -/
namespace Go.Proofs.YtnhplfjlhdpgoaaGreatDoor
open Go.RowKit Cx
attribute [local go_sem ↓] Go.wp_at_zero Go.wp_at_succ
theorem OX {s : ByteArray} {k : Nat} (h : k < s.size) : dv (s.data.toList.take (k+1))=dv (s.data.toList.take k)*10+(s[k].toNat - 48) := by
 have hlen : k < s.data.toList.length := by simpa using h
 rw [Ox hlen,DR]
 rfl
theorem MD {s : ByteArray} {k : Nat} (h : ZP s.data.toList=true) (hk : k < s.size) : 48≤s[k].toNat∧s[k].toNat≤57 := by
 have hlen : k < s.data.toList.length := by simpa using hk
 have := List.all_eq_true.1 (JJ h) _ (List.getElem_mem hlen)
 have := PH this
 rw [Wz s k hk] at this
 exact this
theorem Ak {s : ByteArray} (h : ZP s.data.toList=true) : 0 < s.size := by
 rcases Nat.eq_zero_or_pos s.size with h0 | h0
 ·exfalso
  have : s.data.toList=[] := List.length_eq_zero_iff.1 (by simpa using h0)
  rw [this] at h
  cases h
 ·exact h0
theorem Pp {s : ByteArray} {k : Nat} (h : ZP s.data.toList=true) (hsz : s.size≤4294967280) : Small (dv (s.data.toList.take k)) := by
 refine UL ?_ ?_
 ·rw [List.all_eq_true]
  intro x hx
  exact List.all_eq_true.1 (JJ h) x (List.mem_of_mem_take hx)
 ·rw [List.length_take]
  have : s.data.toList.length=s.size := by simp
  omega
theorem Jd {w : World} {g : Nat} {s : ByteArray} (hk : Blk w g #[.bool false,.slice none 0 0] 33) (hs : ZP s.data.toList=true) (hsz : s.size≤4294967280) :
  Calls Tryz.prog 38 #[.pointer (some ⟨g,0,none⟩),.string s,.int .i64 10] w fun e w' => e=.returned (.tuple #[.pointer (some ⟨g,0,none⟩),.bool true])∧Save g w w'∧Own2 w' g (dv s.data.toList : Int) := by
 have HK := Qb hk
 have HS := Qb hs
 have hs0 : 0 < s.size := Ak hs
 have hs1 : ((s.size : Int) == 0)=false := beq_eq_false_iff_ne.mpr (by omega)
 have hb0 := MD hs hs0
 have hb1 : ((s[0].toNat : Int) == 45)=false := beq_eq_false_iff_ne.mpr (by omega)
 have hb2 : ((s[0].toNat : Int) == 43)=false := beq_eq_false_iff_ne.mpr (by omega)
 clear hk hs
 go_enter Tryz.func38,Tryz.ntmps38
 go_wp2
 go_loopw [9,10] (fun rv iv wr => ∃ k : Nat,iv=.int .i64 k∧k≤s.size∧NatN wr rv (dv (s.data.toList.take k))∧Below w.heap.size w wr) (fun _ iv _ => s.size - (intOf iv).toNat)
 case atStart => exact ⟨0,rfl,Nat.zero_le _,⟨[],NatV.nil _ _ _,Or.inl rfl,rfl⟩,Below.refl _ _⟩
 case round =>
  obtain ⟨k,rfl,hks,hn,hbl⟩ := hrel
  have HN := Qb hn
  have HBL := Qb hbl
  clear hn hbl
  by_cases hlt : k < s.size
  ·have hb := MD HS.out hlt
   have HSM : Hid (Small (dv (s.data.toList.take k))) := Pp HS.out hsz
   have HDS := Qb (OX hlt)
   have HSM10 : Hid (Small (dv (s.data.toList.take k)*10)) := UR (Pp (k := k+1) HS.out hsz) (by rw [OX hlt]; omega)
   generalize hA : dv (s.data.toList.take k)=A at *
   clear hA
   go_wp2_with fail
   refine (ZL 10 wr (by decide)).mono ?_
   rintro e w1 ⟨hb1',v1,rfl,hv1⟩
   have H1 := Qb (And.intro hb1' hv1)
   clear hb1' hv1
   go_wp2_with fail
   refine (OP (HN.out.below H1.out.1) H1.out.2 HSM.out (Qs (k := 4) (by decide) (by decide))).mono ?_
   rintro e w2 ⟨hb2',v2,rfl,hv2⟩
   have H2 := Qb (And.intro (Qq H1.out.1 hb2') hv2)
   clear hb2' hv2
   go_wp2_with fail
   have ed : ((s[k].toNat : Int) - 48)=((s[k].toNat - 48 : Nat) : Int) := by omega
   rw [ed]
   refine (ZL (s[k].toNat - 48) w2 (by omega)).mono ?_
   rintro e w3 ⟨hb3',v3,rfl,hv3⟩
   have H3 := Qb (And.intro (Qq H2.out.1 hb3') (And.intro (H2.out.2.below hb3') hv3))
   clear hb3' hv3
   go_wp2_with fail
   refine (Il H3.out.2.1 H3.out.2.2 HSM10.out (Qs (k := 6) (by omega) (by decide))).mono ?_
   rintro e w4 ⟨hb4',v4,rfl,hv4⟩
   have H4 := Qb (And.intro (Qq HBL.out (Qq H3.out.1 hb4')) hv4)
   clear hb4' hv4
   go_wp2
   go_roundw
   case rel => exact ⟨k+1,by rw [show ((k+1 : Nat) : Int)=(k : Int)+1 by omega],by omega,by rw [HDS.out]; exact H4.out.2,H4.out.1⟩
   case measure => simp [intOf]; omega
  ·have hks2 : k=s.size := by omega
   have HNE : Hid (NatN wr u9 (dv s.data.toList)) := by
    have := HN.out
    rw [hks2,List.take_of_length_le (by simp)] at this
    exact this
   obtain ⟨ao,n,c,hv,_,_,_⟩ := Zf HNE.out
   subst hv
   go_wp2_with fail
   refine (Xd (n := n) (ao := ao) (c := c) false ((At2.blk HK.out).below HBL.out)).mono ?_
   rintro e w2 ⟨rfl,hw2⟩
   have HG : Hid (Gave w g 0 (dv s.data.toList : Int) w2) := by
    refine ⟨wr,ao,n,c,HBL.out,?_,?_⟩
    ·rw [hw2,Ri]; rfl
    ·rw [Int.natAbs_natCast]; exact HNE.out
   clear hw2
   go_wp2
   go_ret2
   exact ⟨rfl,HG.out.save,(HG.out.own HK.out).1⟩
end Go.Proofs.YtnhplfjlhdpgoaaGreatDoor
/- BZ -/
namespace Go.Proofs.YtnhplfjlhdpgoaaGreatDoor
open Go.RowKit Cx
attribute [local go_sem ↓] Go.wp_at_zero Go.wp_at_succ
def MaxL (w : World) : Prop := ∃ m,w.cell? ⟨Tryz.lays147_ren.g 1,0,none⟩=some (.int .i64 m)
theorem Xw {w : World} {p : Addr} {v : Value} (h : w.cell? p=some v) : p.block < w.heap.size := by
 rcases Nat.lt_or_ge p.block w.heap.size with h1 | h1
 ·exact h1
 ·exfalso
  unfold World.cell? at h
  rw [Array.getElem?_eq_none h1] at h
  simp at h
theorem MaxL.below {w w' : World} (h : MaxL w) (hb : Below w.heap.size w w') : MaxL w' := by
 obtain ⟨m,h⟩ := h
 exact ⟨m,(hb.cell (Xw h)).trans h⟩
theorem MaxL.shaped {w : World} (h : w.ShapedOpen Tryz.prog) : MaxL w := Tryz.laysM147.s1_3 w h
def tenDigits : ByteArray := ⟨#[48,49,50,51,52,53,54,55,56,57]⟩
theorem ZW {α : Type} {p : α→Bool} : ∀ {l : List α},l.dropWhile p=[] ↔ l.all p=true
 | [] => by simp
 | x :: l => by
  rw [List.dropWhile_cons]
  split
  ·rename_i h
   rw [ZW (l := l),List.all_cons,h,Bool.true_and]
  ·rename_i h
   simp [h]
theorem EQ (l cs : List UInt8) : (Lib.trimS l cs=[]) ↔ l.all (cs.contains ·)=true := by
 unfold Lib.trimS Lib.trimLeftS Lib.trimRightS
 constructor
 ·intro h
  rw [ZW,List.all_reverse] at h
  have h2 : (l.reverse.dropWhile (cs.contains ·))=[] := by
   cases e : l.reverse.dropWhile (cs.contains ·) with
   | nil => rfl
   | cons x r =>
    exfalso
    rw [e,List.all_cons,Bool.and_eq_true] at h
    have h3 := List.head_dropWhile_not (p := (cs.contains ·)) (l := l.reverse) (by rw [e]; simp)
    simp only [e,List.head_cons] at h3
    rw [h.1] at h3
    cases h3
  rw [ZW,List.all_reverse] at h2
  exact h2
 ·intro h
  have : l.reverse.dropWhile (cs.contains ·)=[] := by rw [ZW,List.all_reverse]; exact h
  rw [this]
  rfl
theorem ten_dg : (fun c : UInt8 => tenDigits.data.toList.contains c)=dg := by
 funext c
 have h : ∀ n : Fin 256,tenDigits.data.toList.contains (UInt8.ofNat n)=dg (UInt8.ofNat n) := by decide
 have := h ⟨c.toNat,c.toNat_lt⟩
 simpa using this
theorem Wt (l : List UInt8) : (Lib.trimB l 48=[]) ↔ l.all (· == 48)=true := by
 unfold Lib.trimB Lib.trimLeftB Lib.trimRightB
 constructor
 ·intro h
  rw [ZW,List.all_reverse] at h
  have h2 : (l.reverse.dropWhile (· == 48))=[] := by
   cases e : l.reverse.dropWhile (· == 48) with
   | nil => rfl
   | cons x r =>
    exfalso
    rw [e,List.all_cons,Bool.and_eq_true] at h
    have h3 := List.head_dropWhile_not (p := (· == 48)) (l := l.reverse) (by rw [e]; simp)
    simp only [e,List.head_cons] at h3
    rw [h.1] at h3
    cases h3
  rw [ZW,List.all_reverse] at h2
  exact h2
 ·intro h
  have : l.reverse.dropWhile (· == 48)=[] := by rw [ZW,List.all_reverse]; exact h
  rw [this]
  rfl
theorem OW {l : List UInt8} (h : l.all dg=true) : l.all (· == 48)=true ↔ dv l=0 := by
 induction l with
 | nil => simp [dv]
 | cons c l ih =>
  rw [List.all_cons,Bool.and_eq_true] at h
  rw [List.all_cons,Bool.and_eq_true,ih h.2,Fg]
  have hc := PH h.1
  have hp : 0 < 10 ^ l.length := Nat.pow_pos (by decide)
  constructor
  ·rintro ⟨h1,h2⟩
   rw [h2,eq_of_beq h1]
   simp
  ·intro h0
   have h1 : (c.toNat - 48)*10 ^ l.length=0 := by omega
   have h2 : c.toNat - 48=0 := by
    rcases Nat.mul_eq_zero.1 h1 with h | h
    ·exact h
    ·omega
   refine ⟨?_,by omega⟩
   rw [beq_iff_eq]
   exact UInt8.toNat_inj.1 (by show c.toNat=48; omega)
theorem Tryz.zeroSet (w : World) : (zeroValue (Tryz.lays160_ren.t 116)).run Tryz.prog w=.ok (.agg (Array.replicate 256 (.bool false))) w := by kernel_rfl
theorem EG : ∀ (j : Nat) b,tenDigits.data.toList[j]? = some b→b.toNat < 128 := by
 intro j b h
 have := List.mem_of_getElem? h
 simp [tenDigits] at this
 rcases this with rfl | rfl | rfl | rfl | rfl | rfl | rfl | rfl | rfl | rfl <;> decide
theorem emp (t : ByteArray) : t.toList.isEmpty=t.data.toList.isEmpty := by rw [ByteArray.toList_eq]
theorem Qy (s : ByteArray) (w : World) (hs : s.size≤4294967280) :
  Calls Tryz.prog 36 #[.string s] w fun e w' => Below w.heap.size w w'∧e=.returned (.bool (ZP s.data.toList)) := by
 have hem := emp s
 generalize hD : ZP s.data.toList=D
 by_cases h0 : s.data.toList=[]
 ·have HL : Hid (D=false) := by show D=false; rw [← hD,h0]; rfl
  rw [h0] at hem
  have hem2 : s.toList.isEmpty=true := hem
  clear hem hD
  go_enter Tryz.func36,Tryz.ntmps36
  go_wp2
  go_ret
  exact ⟨Below.refl _ _,by rw [HL.out]; rfl⟩
 ·have hem2 : s.toList.isEmpty=false := by rw [hem,List.isEmpty_eq_false_iff]; exact h0
  have hT := Any.strings_Trim_ascii Tryz.lays160 Tryz.zeroSet (by kernel_rfl) s tenDigits w (by omega) (by decide) EG
  obtain ⟨t,ht⟩ : ∃ t : ByteArray,(⟨(Lib.trimS s.data.toList tenDigits.data.toList).toArray⟩ : ByteArray)=t := ⟨_,rfl⟩
  have HTT : Hid (D=t.toList.isEmpty) := by
   show D=_
   rw [← hD,emp t,← ht]
   show _=List.isEmpty (Lib.trimS s.data.toList tenDigits.data.toList)
   rw [Bool.eq_iff_iff,List.isEmpty_iff,EQ,ten_dg]
   unfold ZP
   rw [List.isEmpty_eq_false_iff.2 h0]
   simp
  rw [ht] at hT
  clear hem hD ht
  go_enter Tryz.func36,Tryz.ntmps36
  go_wp2_with fail
  refine Calls.mono (show Calls Tryz.prog 37 #[.string s,.string ⟨#[48,49,50,51,52,53,54,55,56,57]⟩] w _ from hT) ?_
  rintro e w1 ⟨rfl,hb⟩
  have HB := Qb hb
  clear hb hT
  go_wp2
  go_ret
  exact ⟨HB.out,by rw [HTT.out]; rfl⟩
end Go.Proofs.YtnhplfjlhdpgoaaGreatDoor
/- RA -/
namespace Go.Proofs.YtnhplfjlhdpgoaaGreatDoor
open Go.RowKit Cx
attribute [local go_sem ↓] Go.wp_at_zero Go.wp_at_succ
theorem Pr (s : ByteArray) : Lib.indexB s ⟨#[47]⟩=Lib.indexByte s.data.toList 47 := Lib.index_one s.data.toList 47
theorem Gb {s : ByteArray} (k : Nat) (h : JP s.data.toList=none) : Lib.splitB ⟨#[47]⟩ 0 k s=[s] := by
 apply Lib.splitB_miss
 rw [Pr]
 unfold JP at h
 split at h
 ·rename_i hn
  have := Lib.indexByte_ge s.data.toList 47
  omega
 ·cases h
theorem Mr {s : ByteArray} {i : Nat} (h : JP s.data.toList=some i) : Lib.splitB ⟨#[47]⟩ 0 1 s=[s.extract 0 i,s.extract (i+1) s.size] := by
 have h2 := (KL h).2
 rw [← Pr] at h2
 rw [Lib.splitB_hit _ _ _ _ i h2]
 rfl
theorem Rv (s : ByteArray) (w : World) (hm : MaxL w) (hs : s.size < 4294967281) :
  Calls Tryz.prog 35 #[.string s,.string ⟨#[47]⟩,.int .i64 2] w fun e w' => Below w.heap.size w w' ∧
   ((JP s.data.toList=none∧∃ cap,e=.returned (.slice (some ⟨w.heap.size,0,none⟩) 1 cap)∧1≤cap∧cap≤2∧w'.cell? ⟨w.heap.size,0,none⟩=some (.string s)) ∨
   (∃ i a b,JP s.data.toList=some i∧e=.returned (.slice (some ⟨w.heap.size,0,none⟩) 2 2)∧w'.cell? ⟨w.heap.size,0,none⟩=some (.string a)∧w'.cell? ⟨w.heap.size,1,none⟩=some (.string b)∧a.data.toList=JV s.data.toList∧b.data.toList=Zz s.data.toList∧a.size≤s.size∧b.size≤s.size)) := by
 obtain ⟨m,hm⟩ := hm
 refine Calls.mono (show Calls Tryz.prog 35 #[.string s,.string ⟨#[47]⟩,.int .i64 2] w _ from Tryz.strings_SplitN s ⟨#[47]⟩ 2 m w hs hm (by decide) (by decide) (by decide)) ?_
 rintro e w' ⟨rfl,rfl⟩
 refine ⟨Qh _ _,?_⟩
 rcases hb : JP s.data.toList with _ | i
 ·left
  refine ⟨rfl,min 2 (s.size+1),?_,by omega,by omega,?_⟩
  ·rw [Gb _ hb]
   rfl
  ·rw [Gb _ hb,World.cell?_alloc_at _ _ _ _ (by simp)]
   simp [Lib.cellsOf]
 ·right
  have hi := (KL hb).1
  have hi2 : i < s.size := by simpa using hi
  have e1 : min 2 (s.size+1)=2 := by omega
  rw [e1,show (2 - 1 : Nat)=1 from rfl,Mr hb]
  refine ⟨i,s.extract 0 i,s.extract (i+1) s.size,rfl,rfl,?_,?_,?_,?_,?_,?_⟩
  ·rw [World.cell?_alloc_at _ _ _ _ (by simp)]
   simp [Lib.cellsOf]
  ·rw [World.cell?_alloc_at _ _ _ _ (by simp)]
   simp [Lib.cellsOf]
  ·unfold JV; rw [hb,Of]
  ·unfold Zz; rw [hb,YN]
  ·rw [ByteArray.size_extract]; omega
  ·rw [ByteArray.size_extract]; omega
theorem RV.nought (w : World) : RV (w.alloc (.cells #[.bool false,.slice none 0 0,.bool false,.slice none 0 0] 35)) w.heap.size 0 :=
 ⟨none,0,0,none,0,0,Blk.new _ _ _,⟨[],NatV.nil _ _ _,Or.inl rfl,rfl⟩,Or.inr ⟨rfl,rfl⟩⟩
theorem MQ {l : List UInt8} (h : ZP (JV (QI l))=false) : rd l=0 := by
 unfold rd
 rw [h]
 simp
theorem He {l : List UInt8} (h : ZP (Zz (QI l))=false) : rd l=0 := by
 unfold rd
 rw [h]
 simp
theorem Pt {l : List UInt8} (h : dv (Zz (QI l))=0) : rd l=0 := by
 unfold rd
 rw [h,Rat.mkRat_zero]
 simp
theorem AM {l : List UInt8} (hn : Ur l=false) (h1 : ZP (JV (QI l))=true) (h2 : ZP (Zz (QI l))=true) : rd l=mkRat (dv (JV (QI l)) : Int) (dv (Zz (QI l))) := by
 unfold rd
 rw [h1,h2,hn]
 simp [sg]
theorem Ao {l : List UInt8} (hn : Ur l=true) (h1 : ZP (JV (QI l))=true) (h2 : ZP (Zz (QI l))=true) : rd l=-mkRat (dv (JV (QI l)) : Int) (dv (Zz (QI l))) := by
 unfold rd
 rw [h1,h2,hn,Rat.neg_mkRat]
 simp [sg]
theorem Kx {l : List UInt8} (h : Ur l=false) : QI l=l := by
 unfold QI Lib.trimPrefix
 unfold Ur at h
 rw [h]
 rfl
theorem Iy {s : ByteArray} (h : Ur s.data.toList=true) : (s.extract 1 s.size).data.toList=QI s.data.toList∧1≤s.size := by
 refine ⟨?_,?_⟩
 ·unfold QI Lib.trimPrefix
  unfold Ur at h
  rw [h,YN]
  rfl
 ·rcases Nat.eq_zero_or_pos s.size with h0 | h0
  ·exfalso
   have : s.data.toList=[] := List.length_eq_zero_iff.1 (by simpa using h0)
   rw [this] at h
   cases h
  ·exact h0
theorem Si {l : List UInt8} (h : JP l=none) : JV l=l∧ZP (Zz l)=true∧dv (Zz l)=1 := by
 unfold JV Zz
 rw [h]
 exact ⟨rfl,rfl,rfl⟩
theorem JN {t : ByteArray} (h : ZP t.data.toList=true) (hs : t.size≤4294967280) {k : Nat} (hk : 17179869120≤k) : dv t.data.toList < 2 ^ k := by
 refine Nat.lt_of_lt_of_le (Mo h) (Nat.pow_le_pow_right (by decide) ?_)
 have : t.data.toList.length=t.size := by simp
 omega
theorem Se {w : World} {g : Nat} (hk : Blk w g #[.bool false,.slice none 0 0] 33) : YU w g := ⟨_,_,hk,by simp [Qm]⟩
theorem EF (s : ByteArray) (w : World) (hm : MaxL w) (hs : s.size≤4294967280) (hng : Ur s.data.toList=false) :
  Calls Tryz.prog 7 #[.string s] w fun e w' => Below w.heap.size w w'∧∃ g,e=.returned (.pointer (some ⟨g,0,none⟩))∧w.heap.size≤g∧RV w' g (rd s.data.toList) := by
 have HM := Qb hm
 have HNG : Hid (Lib.hasPrefix s.data.toList (⟨#[45]⟩ : ByteArray).data.toList=false) := hng
 have HNG2 := Qb hng
 obtain ⟨K,hK1,hK2⟩ : ∃ K : Nat,17179869120≤K∧K≤17179869121 := ⟨17179869120,by decide,by decide⟩
 generalize hQ : rd s.data.toList=Q
 have HQ := Qb hQ
 have HTL : Hid (s.data.toList=QI s.data.toList) := (Kx hng).symm
 have hts : s.size≤4294967280 := hs
 clear hm hng hQ
 go_enter Tryz.func7,Tryz.ntmps7
 go_wp2_with fail
 refine (Tryz.strings_HasPrefix s ⟨#[45]⟩ w).mono ?_
 rintro e w1 ⟨rfl,hw1⟩
 have hw2 := hw1.symm; subst hw2; clear hw1
 rw [HNG.out]
 go_wp2_with fail
 refine (Rv s w HM.out (by omega)).mono ?_
 rintro e w1 ⟨hb1,⟨hbar,cap,rfl,hc1,hc2,hcell⟩ | ⟨i,a,b,hbar,rfl,hca,hcb,ha,hb,has,hbs⟩⟩
 ·have HB1 := Qb hb1
  obtain ⟨hup,hlo,hl1⟩ := Si hbar
  have HUP : Hid (JV (QI s.data.toList)=s.data.toList∧ZP (Zz (QI s.data.toList))=true∧dv (Zz (QI s.data.toList))=1) := by
   rw [← HTL.out]
   exact ⟨hup,hlo,hl1⟩
  have hlw : w.heap.size < w1.heap.size := Xw hcell
  clear hb1 hbar hup hlo hl1
  rcases hd : ZP s.data.toList with _ | _
  ·have HD := Qb hd
   clear hd
   go_wp2_with fail
   refine (Qy s w1 (by omega)).mono ?_
   rintro e w2 ⟨hb_w2,rfl⟩
   rw [HD.out]
   have HCw2 := Qb (Qq (Below.refl _ _) hb_w2)
   clear hb_w2
   go_wp2
   go_ret
   exact ⟨Below.new (Qq HB1.out HCw2.out) _,_,rfl,((Qq HB1.out HCw2.out)).size,by rw [← HQ.out,MQ (by rw [HUP.out.1]; exact HD.out)]; exact RV.nought _⟩
  ·have HD := Qb hd
   clear hd
   go_wp2_with fail
   refine (Qy s w1 (by omega)).mono ?_
   rintro e w2 ⟨hb_w2,rfl⟩
   rw [HD.out]
   have HCw2 := Qb (Qq (Below.refl _ _) hb_w2)
   clear hb_w2
   have hcell2 := (HCw2.out.cell (p := ⟨w.heap.size,0,none⟩) hlw).trans hcell
   have hlw2 : w.heap.size < w2.heap.size := Xw hcell2
   go_wp2_with fail
   refine (Jd (s := s) (Blk.new w2 _ _) HD.out (by omega)).mono ?_
   rintro e w5 ⟨rfl,hs5,ho5⟩
   have H5 := Qb (And.intro (ZC (Below.new (Qq HB1.out HCw2.out) _) hs5 (Qq HB1.out HCw2.out).size) ho5)
   clear hs5 ho5
   go_wp2_with fail
   refine (Jq 1 (by decide) w5).mono ?_
   rintro e w6 ⟨hb6,gd,rfl,hgd,ho6⟩
   have H6 := Qb (And.intro (Qq H5.out.1 hb6) (And.intro (H5.out.2.below hb6) ho6))
   clear hb6 ho6
   go_wp2_with fail
   refine (Jo (z := (dv s.data.toList : Int)) (b := 1) (Blk.new w6 _ _) (by simp [Qm]) (Own2.iv (JE _ H6.out.2.1)) (Own2.iv (JE _ H6.out.2.2)) (by decide) (by rw [Int.natAbs_natCast]; exact Qs (k := K) (JN HD.out (by omega) (by omega)) (by omega)) (Qs (k := 1) (by decide) (by decide))).mono ?_
   rintro e w8 ⟨rfl,hs8,hr8⟩
   have H8 := Qb (And.intro (ZC (Below.new H6.out.1 _) hs8 H6.out.1.size) hr8)
   clear hs8 hr8
   go_wp2
   go_ret
   exact ⟨H8.out.1,_,rfl,H6.out.1.size,by rw [← HQ.out,AM HNG2.out (by rw [HUP.out.1]; exact HD.out) HUP.out.2.1,HUP.out.1,HUP.out.2.2]; exact H8.out.2⟩
 ·have HB1 := Qb hb1
  have HUP : Hid (JV (QI s.data.toList)=a.data.toList∧Zz (QI s.data.toList)=b.data.toList) := by
   rw [← HTL.out]
   exact ⟨ha.symm,hb.symm⟩
  have hlw : w.heap.size < w1.heap.size := Xw hca
  clear hb1 hbar ha hb
  rcases hd : ZP a.data.toList with _ | _
  ·have HD := Qb hd
   clear hd
   go_wp2_with fail
   refine (Qy a w1 (by omega)).mono ?_
   rintro e w2 ⟨hb_w2,rfl⟩
   rw [HD.out]
   have HCw2 := Qb (Qq (Below.refl _ _) hb_w2)
   clear hb_w2
   go_wp2
   go_ret
   exact ⟨Below.new (Qq HB1.out HCw2.out) _,_,rfl,((Qq HB1.out HCw2.out)).size,by rw [← HQ.out,MQ (by rw [HUP.out.1]; exact HD.out)]; exact RV.nought _⟩
  ·have HD := Qb hd
   clear hd
   rcases hd2 : ZP b.data.toList with _ | _
   ·have HD2 := Qb hd2
    clear hd2
    go_wp2_with fail
    refine (Qy a w1 (by omega)).mono ?_
    rintro e w2 ⟨hb_w2,rfl⟩
    rw [HD.out]
    have HCw2 := Qb (Qq (Below.refl _ _) hb_w2)
    clear hb_w2
    have hcb2 := (HCw2.out.cell (p := ⟨w.heap.size,1,none⟩) hlw).trans hcb
    go_wp2_with fail
    refine (Qy b w2 (by omega)).mono ?_
    rintro e w3 ⟨hb_w3,rfl⟩
    rw [HD2.out]
    have HCw3 := Qb (Qq HCw2.out hb_w3)
    clear hb_w3
    go_wp2
    go_ret
    exact ⟨Below.new (Qq HB1.out HCw3.out) _,_,rfl,((Qq HB1.out HCw3.out)).size,by rw [← HQ.out,He (by rw [HUP.out.2]; exact HD2.out)]; exact RV.nought _⟩
   ·have HD2 := Qb hd2
    clear hd2
    by_cases hz : dv b.data.toList=0
    ·have HZ : Hid ((Lib.trimB b.data.toList 48).isEmpty=true) := by
      show _=_
      rw [List.isEmpty_iff,Wt,OW (JJ HD2.out)]
      exact hz
     have HZ0 := Qb hz
     clear hz
     go_wp2_with fail
     refine (Qy a w1 (by omega)).mono ?_
     rintro e w2 ⟨hb_w2,rfl⟩
     rw [HD.out]
     have HCw2 := Qb (Qq (Below.refl _ _) hb_w2)
     clear hb_w2
     have hcb2 := (HCw2.out.cell (p := ⟨w.heap.size,1,none⟩) hlw).trans hcb
     go_wp2_with fail
     refine (Qy b w2 (by omega)).mono ?_
     rintro e w3 ⟨hb_w3,rfl⟩
     rw [HD2.out]
     have HCw3 := Qb (Qq HCw2.out hb_w3)
     clear hb_w3
     have hcb3 := (HCw3.out.cell (p := ⟨w.heap.size,1,none⟩) hlw).trans hcb
     go_wp2_with fail
     refine (Tryz.strings_Trim_one b 48 (by decide) w3 (by omega)).mono ?_
     obtain ⟨tb,htb⟩ : ∃ tb : ByteArray,(⟨(Lib.trimB b.data.toList 48).toArray⟩ : ByteArray)=tb := ⟨_,rfl⟩
     have hem : tb.toList.isEmpty=true := by
      rw [emp,← htb]
      exact HZ.out
     rw [htb]
     clear htb
     rintro e w4 ⟨rfl,hw4⟩
     have HCw4 : Hid (Below w1.heap.size w1 w4) := by
      rcases hw4 with rfl | rfl
      ·exact HCw3.out
      ·exact Below.drew HCw3.out
     clear hw4
     go_wp2
     go_ret
     exact ⟨Below.new (Qq HB1.out HCw4.out) _,_,rfl,((Qq HB1.out HCw4.out)).size,by rw [← HQ.out,Pt (by rw [HUP.out.2]; exact HZ0.out)]; exact RV.nought _⟩
    ·have HZ : Hid ((Lib.trimB b.data.toList 48).isEmpty=false) := by
      show _=_
      rw [List.isEmpty_eq_false_iff,Ne,Wt,OW (JJ HD2.out)]
      exact hz
     have HZ0 : Hid (0 < dv b.data.toList) := Nat.pos_of_ne_zero hz
     clear hz
     go_wp2_with fail
     refine (Qy a w1 (by omega)).mono ?_
     rintro e w2 ⟨hb_w2,rfl⟩
     rw [HD.out]
     have HCw2 := Qb (Qq (Below.refl _ _) hb_w2)
     clear hb_w2
     have hcb2 := (HCw2.out.cell (p := ⟨w.heap.size,1,none⟩) hlw).trans hcb
     go_wp2_with fail
     refine (Qy b w2 (by omega)).mono ?_
     rintro e w3 ⟨hb_w3,rfl⟩
     rw [HD2.out]
     have HCw3 := Qb (Qq HCw2.out hb_w3)
     clear hb_w3
     have hcb3 := (HCw3.out.cell (p := ⟨w.heap.size,1,none⟩) hlw).trans hcb
     go_wp2_with fail
     refine (Tryz.strings_Trim_one b 48 (by decide) w3 (by omega)).mono ?_
     obtain ⟨tb,htb⟩ : ∃ tb : ByteArray,(⟨(Lib.trimB b.data.toList 48).toArray⟩ : ByteArray)=tb := ⟨_,rfl⟩
     have hem : tb.toList.isEmpty=false := by
      rw [emp,← htb]
      exact HZ.out
     rw [htb]
     clear htb
     rintro e w4 ⟨rfl,hw4⟩
     have HCw4 : Hid (Below w1.heap.size w1 w4) := by
      rcases hw4 with rfl | rfl
      ·exact HCw3.out
      ·exact Below.drew HCw3.out
     clear hw4
     have hca4 := (HCw4.out.cell (p := ⟨w.heap.size,0,none⟩) hlw).trans hca
     have hlw4 : w.heap.size < w4.heap.size := Xw hca4
     go_wp2_with fail
     refine (Jd (s := a) (Blk.new w4 _ _) HD.out (by omega)).mono ?_
     rintro e w5 ⟨rfl,hs5,ho5⟩
     have H5 := Qb (And.intro (ZC (Below.new HCw4.out _) hs5 HCw4.out.size) ho5)
     clear hs5 ho5
     go_wp2_with fail
     refine (Jq 1 (by decide) w5).mono ?_
     rintro e w6 ⟨hb6,gd,rfl,hgd,ho6⟩
     have H6 := Qb (And.intro (Qq H5.out.1 hb6) (H5.out.2.below hb6))
     have hcb6 := (H6.out.1.cell (p := ⟨w.heap.size,1,none⟩) hlw).trans hcb
     have hlw6 : w.heap.size < w6.heap.size := Xw hcb6
     clear hb6 ho6
     go_wp2_with fail
     refine (Jd (s := b) (Blk.new w6 _ _) HD2.out (by omega)).mono ?_
     rintro e w7 ⟨rfl,hs7,ho7⟩
     have H7 := Qb (And.intro (Qq HB1.out (ZC (Below.new H6.out.1 _) hs7 H6.out.1.size)) (And.intro (Tw hs7 (Se (Blk.new w6 _ _)) (JE _ H6.out.2) (by have := H6.out.2.lt; omega)) ho7))
     clear hs7 ho7
     go_wp2_with fail
     refine (Jo (z := (dv a.data.toList : Int)) (b := dv b.data.toList) (Blk.new w7 _ _) (by simp [Qm]) (Own2.iv (JE _ H7.out.2.1)) (Own2.iv (JE _ H7.out.2.2)) HZ0.out (by rw [Int.natAbs_natCast]; exact Qs (k := K) (JN HD.out (by omega) (by omega)) (by omega)) (Qs (k := K) (JN HD2.out (by omega) (by omega)) (by omega))).mono ?_
     rintro e w8 ⟨rfl,hs8,hr8⟩
     have H8 := Qb (And.intro (ZC (Below.new H7.out.1 _) hs8 H7.out.1.size) hr8)
     clear hs8 hr8
     go_wp2
     go_ret
     exact ⟨H8.out.1,_,rfl,H7.out.1.size,by rw [← HQ.out,AM HNG2.out (by rw [HUP.out.1]; exact HD.out) (by rw [HUP.out.2]; exact HD2.out),HUP.out.1,HUP.out.2]; exact H8.out.2⟩
theorem Et (s : ByteArray) (w : World) (hm : MaxL w) (hs : s.size≤4294967280) (hng : Ur s.data.toList=true) :
  Calls Tryz.prog 7 #[.string s] w fun e w' => Below w.heap.size w w'∧∃ g,e=.returned (.pointer (some ⟨g,0,none⟩))∧w.heap.size≤g∧RV w' g (rd s.data.toList) := by
 have HM := Qb hm
 have HNG : Hid (Lib.hasPrefix s.data.toList (⟨#[45]⟩ : ByteArray).data.toList=true) := hng
 have HNG2 := Qb hng
 obtain ⟨K,hK1,hK2⟩ : ∃ K : Nat,17179869120≤K∧K≤17179869121 := ⟨17179869120,by decide,by decide⟩
 generalize hQ : rd s.data.toList=Q
 have HQ := Qb hQ
 obtain ⟨htl,hs1⟩ := Iy hng
 have HTL := Qb htl
 have hts : (s.extract 1 s.size).size≤4294967280 := by rw [ByteArray.size_extract]; omega
 clear htl
 clear hm hng hQ
 go_enter Tryz.func7,Tryz.ntmps7
 go_wp2_with fail
 refine (Tryz.strings_HasPrefix s ⟨#[45]⟩ w).mono ?_
 rintro e w1 ⟨rfl,hw1⟩
 have hw2 := hw1.symm; subst hw2; clear hw1
 rw [HNG.out]
 go_wp2_with fail
 generalize s.extract 1 s.size=t at *
 refine (Rv t w HM.out (by omega)).mono ?_
 rintro e w1 ⟨hb1,⟨hbar,cap,rfl,hc1,hc2,hcell⟩ | ⟨i,a,b,hbar,rfl,hca,hcb,ha,hb,has,hbs⟩⟩
 ·have HB1 := Qb hb1
  obtain ⟨hup,hlo,hl1⟩ := Si hbar
  have HUP : Hid (JV (QI s.data.toList)=t.data.toList∧ZP (Zz (QI s.data.toList))=true∧dv (Zz (QI s.data.toList))=1) := by
   rw [← HTL.out]
   exact ⟨hup,hlo,hl1⟩
  have hlw : w.heap.size < w1.heap.size := Xw hcell
  clear hb1 hbar hup hlo hl1
  rcases hd : ZP t.data.toList with _ | _
  ·have HD := Qb hd
   clear hd
   go_wp2_with fail
   refine (Qy t w1 (by omega)).mono ?_
   rintro e w2 ⟨hb_w2,rfl⟩
   rw [HD.out]
   have HCw2 := Qb (Qq (Below.refl _ _) hb_w2)
   clear hb_w2
   go_wp2
   go_ret
   exact ⟨Below.new (Qq HB1.out HCw2.out) _,_,rfl,((Qq HB1.out HCw2.out)).size,by rw [← HQ.out,MQ (by rw [HUP.out.1]; exact HD.out)]; exact RV.nought _⟩
  ·have HD := Qb hd
   clear hd
   go_wp2_with fail
   refine (Qy t w1 (by omega)).mono ?_
   rintro e w2 ⟨hb_w2,rfl⟩
   rw [HD.out]
   have HCw2 := Qb (Qq (Below.refl _ _) hb_w2)
   clear hb_w2
   have hcell2 := (HCw2.out.cell (p := ⟨w.heap.size,0,none⟩) hlw).trans hcell
   have hlw2 : w.heap.size < w2.heap.size := Xw hcell2
   go_wp2_with fail
   refine (Jd (s := t) (Blk.new w2 _ _) HD.out (by omega)).mono ?_
   rintro e w5 ⟨rfl,hs5,ho5⟩
   have H5 := Qb (And.intro (ZC (Below.new (Qq HB1.out HCw2.out) _) hs5 (Qq HB1.out HCw2.out).size) ho5)
   clear hs5 ho5
   go_wp2_with fail
   refine (Jq 1 (by decide) w5).mono ?_
   rintro e w6 ⟨hb6,gd,rfl,hgd,ho6⟩
   have H6 := Qb (And.intro (Qq H5.out.1 hb6) (And.intro (H5.out.2.below hb6) ho6))
   clear hb6 ho6
   go_wp2_with fail
   refine (Jo (z := (dv t.data.toList : Int)) (b := 1) (Blk.new w6 _ _) (by simp [Qm]) (Own2.iv (JE _ H6.out.2.1)) (Own2.iv (JE _ H6.out.2.2)) (by decide) (by rw [Int.natAbs_natCast]; exact Qs (k := K) (JN HD.out (by omega) (by omega)) (by omega)) (Qs (k := 1) (by decide) (by decide))).mono ?_
   rintro e w8 ⟨rfl,hs8,hr8⟩
   have H8 := Qb (And.intro (ZC (Below.new H6.out.1 _) hs8 H6.out.1.size) hr8)
   clear hs8 hr8
   obtain ⟨a1,l1,c1,a2,l2,c2,hk8,_,_⟩ := H8.out.2
   have HK8 := Qb hk8
   clear hk8
   have FR : Hid (QS (K+1) (mkRat (dv t.data.toList : Int) (1))) := QS.mkr (by rw [Int.natAbs_natCast]; exact JN HD.out (by omega) (by omega)) (Nat.one_lt_two_pow (by omega))
   go_wp2_with fail
   refine (It HK8.out (by simp [Qm]) H8.out.2 FR.out (by omega)).mono ?_
   rintro e w9 ⟨rfl,hs9,hr9⟩
   have H9 := Qb (And.intro (ZC H8.out.1 hs9 H6.out.1.size) hr9)
   clear hs9 hr9
   go_wp2
   go_ret
   exact ⟨H9.out.1,_,rfl,H6.out.1.size,by rw [← HQ.out,Ao HNG2.out (by rw [HUP.out.1]; exact HD.out) HUP.out.2.1,HUP.out.1,HUP.out.2.2]; exact H9.out.2⟩
 ·have HB1 := Qb hb1
  have HUP : Hid (JV (QI s.data.toList)=a.data.toList∧Zz (QI s.data.toList)=b.data.toList) := by
   rw [← HTL.out]
   exact ⟨ha.symm,hb.symm⟩
  have hlw : w.heap.size < w1.heap.size := Xw hca
  clear hb1 hbar ha hb
  rcases hd : ZP a.data.toList with _ | _
  ·have HD := Qb hd
   clear hd
   go_wp2_with fail
   refine (Qy a w1 (by omega)).mono ?_
   rintro e w2 ⟨hb_w2,rfl⟩
   rw [HD.out]
   have HCw2 := Qb (Qq (Below.refl _ _) hb_w2)
   clear hb_w2
   go_wp2
   go_ret
   exact ⟨Below.new (Qq HB1.out HCw2.out) _,_,rfl,((Qq HB1.out HCw2.out)).size,by rw [← HQ.out,MQ (by rw [HUP.out.1]; exact HD.out)]; exact RV.nought _⟩
  ·have HD := Qb hd
   clear hd
   rcases hd2 : ZP b.data.toList with _ | _
   ·have HD2 := Qb hd2
    clear hd2
    go_wp2_with fail
    refine (Qy a w1 (by omega)).mono ?_
    rintro e w2 ⟨hb_w2,rfl⟩
    rw [HD.out]
    have HCw2 := Qb (Qq (Below.refl _ _) hb_w2)
    clear hb_w2
    have hcb2 := (HCw2.out.cell (p := ⟨w.heap.size,1,none⟩) hlw).trans hcb
    go_wp2_with fail
    refine (Qy b w2 (by omega)).mono ?_
    rintro e w3 ⟨hb_w3,rfl⟩
    rw [HD2.out]
    have HCw3 := Qb (Qq HCw2.out hb_w3)
    clear hb_w3
    go_wp2
    go_ret
    exact ⟨Below.new (Qq HB1.out HCw3.out) _,_,rfl,((Qq HB1.out HCw3.out)).size,by rw [← HQ.out,He (by rw [HUP.out.2]; exact HD2.out)]; exact RV.nought _⟩
   ·have HD2 := Qb hd2
    clear hd2
    by_cases hz : dv b.data.toList=0
    ·have HZ : Hid ((Lib.trimB b.data.toList 48).isEmpty=true) := by
      show _=_
      rw [List.isEmpty_iff,Wt,OW (JJ HD2.out)]
      exact hz
     have HZ0 := Qb hz
     clear hz
     go_wp2_with fail
     refine (Qy a w1 (by omega)).mono ?_
     rintro e w2 ⟨hb_w2,rfl⟩
     rw [HD.out]
     have HCw2 := Qb (Qq (Below.refl _ _) hb_w2)
     clear hb_w2
     have hcb2 := (HCw2.out.cell (p := ⟨w.heap.size,1,none⟩) hlw).trans hcb
     go_wp2_with fail
     refine (Qy b w2 (by omega)).mono ?_
     rintro e w3 ⟨hb_w3,rfl⟩
     rw [HD2.out]
     have HCw3 := Qb (Qq HCw2.out hb_w3)
     clear hb_w3
     have hcb3 := (HCw3.out.cell (p := ⟨w.heap.size,1,none⟩) hlw).trans hcb
     go_wp2_with fail
     refine (Tryz.strings_Trim_one b 48 (by decide) w3 (by omega)).mono ?_
     obtain ⟨tb,htb⟩ : ∃ tb : ByteArray,(⟨(Lib.trimB b.data.toList 48).toArray⟩ : ByteArray)=tb := ⟨_,rfl⟩
     have hem : tb.toList.isEmpty=true := by
      rw [emp,← htb]
      exact HZ.out
     rw [htb]
     clear htb
     rintro e w4 ⟨rfl,hw4⟩
     have HCw4 : Hid (Below w1.heap.size w1 w4) := by
      rcases hw4 with rfl | rfl
      ·exact HCw3.out
      ·exact Below.drew HCw3.out
     clear hw4
     go_wp2
     go_ret
     exact ⟨Below.new (Qq HB1.out HCw4.out) _,_,rfl,((Qq HB1.out HCw4.out)).size,by rw [← HQ.out,Pt (by rw [HUP.out.2]; exact HZ0.out)]; exact RV.nought _⟩
    ·have HZ : Hid ((Lib.trimB b.data.toList 48).isEmpty=false) := by
      show _=_
      rw [List.isEmpty_eq_false_iff,Ne,Wt,OW (JJ HD2.out)]
      exact hz
     have HZ0 : Hid (0 < dv b.data.toList) := Nat.pos_of_ne_zero hz
     clear hz
     go_wp2_with fail
     refine (Qy a w1 (by omega)).mono ?_
     rintro e w2 ⟨hb_w2,rfl⟩
     rw [HD.out]
     have HCw2 := Qb (Qq (Below.refl _ _) hb_w2)
     clear hb_w2
     have hcb2 := (HCw2.out.cell (p := ⟨w.heap.size,1,none⟩) hlw).trans hcb
     go_wp2_with fail
     refine (Qy b w2 (by omega)).mono ?_
     rintro e w3 ⟨hb_w3,rfl⟩
     rw [HD2.out]
     have HCw3 := Qb (Qq HCw2.out hb_w3)
     clear hb_w3
     have hcb3 := (HCw3.out.cell (p := ⟨w.heap.size,1,none⟩) hlw).trans hcb
     go_wp2_with fail
     refine (Tryz.strings_Trim_one b 48 (by decide) w3 (by omega)).mono ?_
     obtain ⟨tb,htb⟩ : ∃ tb : ByteArray,(⟨(Lib.trimB b.data.toList 48).toArray⟩ : ByteArray)=tb := ⟨_,rfl⟩
     have hem : tb.toList.isEmpty=false := by
      rw [emp,← htb]
      exact HZ.out
     rw [htb]
     clear htb
     rintro e w4 ⟨rfl,hw4⟩
     have HCw4 : Hid (Below w1.heap.size w1 w4) := by
      rcases hw4 with rfl | rfl
      ·exact HCw3.out
      ·exact Below.drew HCw3.out
     clear hw4
     have hca4 := (HCw4.out.cell (p := ⟨w.heap.size,0,none⟩) hlw).trans hca
     have hlw4 : w.heap.size < w4.heap.size := Xw hca4
     go_wp2_with fail
     refine (Jd (s := a) (Blk.new w4 _ _) HD.out (by omega)).mono ?_
     rintro e w5 ⟨rfl,hs5,ho5⟩
     have H5 := Qb (And.intro (ZC (Below.new HCw4.out _) hs5 HCw4.out.size) ho5)
     clear hs5 ho5
     go_wp2_with fail
     refine (Jq 1 (by decide) w5).mono ?_
     rintro e w6 ⟨hb6,gd,rfl,hgd,ho6⟩
     have H6 := Qb (And.intro (Qq H5.out.1 hb6) (H5.out.2.below hb6))
     have hcb6 := (H6.out.1.cell (p := ⟨w.heap.size,1,none⟩) hlw).trans hcb
     have hlw6 : w.heap.size < w6.heap.size := Xw hcb6
     clear hb6 ho6
     go_wp2_with fail
     refine (Jd (s := b) (Blk.new w6 _ _) HD2.out (by omega)).mono ?_
     rintro e w7 ⟨rfl,hs7,ho7⟩
     have H7 := Qb (And.intro (Qq HB1.out (ZC (Below.new H6.out.1 _) hs7 H6.out.1.size)) (And.intro (Tw hs7 (Se (Blk.new w6 _ _)) (JE _ H6.out.2) (by have := H6.out.2.lt; omega)) ho7))
     clear hs7 ho7
     go_wp2_with fail
     refine (Jo (z := (dv a.data.toList : Int)) (b := dv b.data.toList) (Blk.new w7 _ _) (by simp [Qm]) (Own2.iv (JE _ H7.out.2.1)) (Own2.iv (JE _ H7.out.2.2)) HZ0.out (by rw [Int.natAbs_natCast]; exact Qs (k := K) (JN HD.out (by omega) (by omega)) (by omega)) (Qs (k := K) (JN HD2.out (by omega) (by omega)) (by omega))).mono ?_
     rintro e w8 ⟨rfl,hs8,hr8⟩
     have H8 := Qb (And.intro (ZC (Below.new H7.out.1 _) hs8 H7.out.1.size) hr8)
     clear hs8 hr8
     obtain ⟨a1,l1,c1,a2,l2,c2,hk8,_,_⟩ := H8.out.2
     have HK8 := Qb hk8
     clear hk8
     have FR : Hid (QS (K+1) (mkRat (dv a.data.toList : Int) (dv b.data.toList))) := QS.mkr (by rw [Int.natAbs_natCast]; exact JN HD.out (by omega) (by omega)) (JN HD2.out (by omega) (by omega))
     go_wp2_with fail
     refine (It HK8.out (by simp [Qm]) H8.out.2 FR.out (by omega)).mono ?_
     rintro e w9 ⟨rfl,hs9,hr9⟩
     have H9 := Qb (And.intro (ZC H8.out.1 hs9 H7.out.1.size) hr9)
     clear hs9 hr9
     go_wp2
     go_ret
     exact ⟨H9.out.1,_,rfl,H7.out.1.size,by rw [← HQ.out,Ao HNG2.out (by rw [HUP.out.1]; exact HD.out) (by rw [HUP.out.2]; exact HD2.out),HUP.out.1,HUP.out.2]; exact H9.out.2⟩
theorem RZ (s : ByteArray) (w : World) (hm : MaxL w) (hs : s.size≤4294967280) :
  Calls Tryz.prog 7 #[.string s] w fun e w' => Below w.heap.size w w'∧∃ g,e=.returned (.pointer (some ⟨g,0,none⟩))∧w.heap.size≤g∧RV w' g (rd s.data.toList) := by
 rcases h : Ur s.data.toList with _ | _
 ·exact EF s w hm hs h
 ·exact Et s w hm hs h
end Go.Proofs.YtnhplfjlhdpgoaaGreatDoor
/- RB -/
namespace Go.Proofs.YtnhplfjlhdpgoaaGreatDoor
open Go.RowKit Cx
attribute [local go_sem ↓] Go.wp_at_zero Go.wp_at_succ
def PR (w : World) (v : Value) (q : Rat) : Prop := ∃ g,v=.pointer (some ⟨g,0,none⟩)∧RV w g q
theorem Fp {w : World} {px py : Value} {x y : Rat} {k l : Nat} (hx : PR w px x) (hy : PR w py y) (fx : QS k x) (fy : QS l y) (hkl : k+l+1≤35184372088640) :
  Calls Tryz.prog 12 #[px,py] w fun e w' => Below w.heap.size w w'∧∃ v,e=.returned v∧PR w' v (x - y) := by
 obtain ⟨gx,rfl,hx⟩ := hx
 obtain ⟨gy,rfl,hy⟩ := hy
 have HX := Qb hx
 have HY := Qb hy
 clear hx hy
 go_enter Tryz.func12,Tryz.ntmps12
 go_wp2_with fail
 refine (DM (Blk.new w _ _) (by simp [Qm]) (HX.out.below (Qh _ _)) (HY.out.below (Qh _ _)) fx fy hkl).mono ?_
 rintro e w1 ⟨rfl,hs,hr⟩
 have H1 := Qb (And.intro (ZC (Qh _ _) hs (Nat.le_refl _)) hr)
 clear hs hr
 go_wp2
 go_ret
 exact ⟨H1.out.1,_,rfl,_,rfl,H1.out.2⟩
end Go.Proofs.YtnhplfjlhdpgoaaGreatDoor
/- RC -/
namespace Go.Proofs.YtnhplfjlhdpgoaaGreatDoor
open Go.RowKit Cx
attribute [local go_sem ↓] Go.wp_at_zero Go.wp_at_succ
end Go.Proofs.YtnhplfjlhdpgoaaGreatDoor
/- RD -/
namespace Go.Proofs.YtnhplfjlhdpgoaaGreatDoor
open Go.RowKit Cx
attribute [local go_sem ↓] Go.wp_at_zero Go.wp_at_succ
end Go.Proofs.YtnhplfjlhdpgoaaGreatDoor
/- RF -/
namespace Go.Proofs.YtnhplfjlhdpgoaaGreatDoor
open Go.RowKit Cx
attribute [local go_sem ↓] Go.wp_at_zero Go.wp_at_succ
theorem OK (x y : Rat) : (x.num*(y.den : Int)=y.num*(x.den : Int)) ↔ x=y := by
 constructor
 ·intro h
  have := (Rat.mkRat_eq_iff (n₁ := x.num) (n₂ := y.num) x.den_nz y.den_nz).2 h
  rwa [Rat.mkRat_self,Rat.mkRat_self] at this
 ·rintro rfl
  rfl
theorem DE {w : World} {gx gy : Nat} {x y : Rat} {k l : Nat} (hx : RV w gx x) (hy : RV w gy y) (fx : QS k x) (fy : QS l y) (hkl : k+l+1≤35184372088640) :
  Calls Tryz.prog 23 #[.pointer (some ⟨gx,0,none⟩),.pointer (some ⟨gy,0,none⟩)] w fun e w' => Below w.heap.size w w'∧∃ c : Int,e=.returned (.int .i64 c)∧(c < 0 ↔ x.num*(y.den : Int) < y.num*(x.den : Int))∧(c=0 ↔ x=y) := by
 have LX := Qb hx.lt
 have LY := Qb hy.lt
 have HX := Qb hx
 have HY := Qb hy
 have SX := Qb (XK fx (by omega))
 have SY := Qb (XK fy (by omega))
 have DX := Qb (Yu fx (by omega))
 have DY := Qb (Yu fy (by omega))
 have SXY := Qb (Ve fx fy hkl)
 have SYX := Qb (Ve fy fx (by omega))
 clear hx hy fx fy
 go_enter Tryz.func23,Tryz.ntmps23
 go_wp2_with fail
 refine (ZR HX.out).mono ?_
 rintro e wa ⟨hba,pa,rfl,hva,_⟩
 have HA := Qb (And.intro hba hva)
 clear hba hva
 go_wp2_with fail
 refine (ZR (HY.out.below HA.out.1)).mono ?_
 rintro e wb ⟨hbb,pb,rfl,hvb,_⟩
 have HB := Qb (And.intro (Qq HA.out.1 hbb) (And.intro (HA.out.2.below hbb) hvb))
 clear hbb hvb
 go_wp2_with fail
 refine (Yt HB.out.2.1 HB.out.2.2 DX.out DY.out).mono ?_
 rintro e wc ⟨hbc,c,rfl,_,hc0⟩
 have HC := Qb (Qq HB.out.1 hbc)
 have HC0 := Qb hc0
 clear hbc hc0
 by_cases hcz : c=0
 ·subst hcz
  have hden : (x.den : Int)=y.den := HC0.out.1 rfl
  have HD := Qb hden
  clear hden
  go_wp2_with fail
  go_region_held3 (fun _ => True) (trivial)
   (first
    | (go_at_call 56; refine (Yt (RV.num (HX.out.below (Qq HC.out (by repeat' first | with_reducible exact Below.refl _ _ | with_reducible refine Below.drew ?_)))) (RV.num (HY.out.below (Qq HC.out (by repeat' first | with_reducible exact Below.refl _ _ | with_reducible refine Below.drew ?_)))) SX.out SY.out).mono ?_; rintro e wd ⟨hbd,c,rfl,h1,h2⟩; have hbe : Below wc.heap.size wc wd := Qq (by repeat' first | with_reducible exact Below.refl _ _ | with_reducible refine Below.drew ?_) hbd)
    )
  all_goals
   go_wp2
   go_ret
   have hp : (0 : Int) < y.den := by have := y.den_pos; omega
   refine ⟨Qq HC.out hbe,c,rfl,?_,?_⟩
   ·rw [h1,HD.out]
    exact (Int.mul_lt_mul_right hp).symm
   ·rw [h2,← OK,HD.out]
    exact (Int.mul_eq_mul_right_iff (by omega)).symm
 ·have hcb : (c == 0)=false := beq_eq_false_iff_ne.mpr hcz
  go_wp2_with fail
  have HXC := Qb (HX.out.below HC.out)
  have HYC := Qb (HY.out.below HC.out)
  have LXC := Qb HXC.out.lt
  have LYC := Qb HYC.out.lt
  go_region_held3 (fun _ => True) (trivial)
   (first
    | (go_at_call_of 42 (Value.pointer (some { block := gy,off := 0 })); refine (ZR (HYC.out.below (by repeat' first | with_reducible exact Below.refl _ _ | with_reducible refine Below.new ?_ _ | with_reducible refine Below.drew ?_))).mono ?_; rintro e w1 ⟨hb1,p1,rfl,hv1,hap1⟩; have hbl1 : Below wc.heap.size wc w1 := Qq (by repeat' first | with_reducible exact Below.refl _ _ | with_reducible refine Below.new ?_ _ | with_reducible refine Below.drew ?_) hb1)
    | (go_at_call_of 22 (Value.pointer (some { block := gx,off := 0 })); have q0 := LXC.out; have q00 := LYC.out; have e1 := hb1.size; have d1 := hbl1.size; (try simp at e1); refine (YE (by repeat' first | ((with_reducible refine TN ?_); (first | with_reducible rfl | (simp; done))) | with_reducible exact Blk.new _ _ _ | with_reducible refine Io _ ?_ | with_reducible refine Wl ?_ | with_reducible refine Xr hb1 ?_ | (first | omega | (simp; done) | (simp; omega))) (RV.num (HXC.out.below (by repeat' first | with_reducible exact hbl1 | with_reducible exact Below.refl _ _ | with_reducible refine Below.new ?_ _ | with_reducible refine Below.drew ?_))) (show IV _ p1 (y.den : Int) from (by repeat' first | with_reducible exact hv1 | with_reducible refine Dp _ ?_ | with_reducible refine Tp ?_)) (Vr (by (first | omega | (simp; done) | (simp; omega)))) (by first | (refine hv1.apart ?_; (first | omega | (simp; done) | (simp; omega))) | (refine hap1 _ ?_ ?_ <;> (first | omega | (simp; done) | (simp; omega)))) SX.out DY.out).mono ?_; clear q0 q00 e1 d1; rintro e w2 ⟨rfl,hs2,ho2,hh2⟩; have hbl2 : Below wc.heap.size wc w2 := ZC (by repeat' first | with_reducible exact hbl1 | with_reducible exact Below.refl _ _ | with_reducible refine Below.new ?_ _ | with_reducible refine Below.drew ?_) hs2 (by have d1 := hbl1.size; (first | omega | (simp; done) | (simp; omega))))
    | (go_at_call_of 42 (Value.pointer (some { block := gx,off := 0 })); refine (ZR (HXC.out.below (by repeat' first | with_reducible exact hbl2 | with_reducible exact hbl1 | with_reducible exact Below.refl _ _ | with_reducible refine Below.new ?_ _ | with_reducible refine Below.drew ?_))).mono ?_; rintro e w3 ⟨hb3,p3,rfl,hv3,hap3⟩; have hbl3 : Below wc.heap.size wc w3 := Qq (by repeat' first | with_reducible exact hbl2 | with_reducible exact hbl1 | with_reducible exact Below.refl _ _ | with_reducible refine Below.new ?_ _ | with_reducible refine Below.drew ?_) hb3)
    | (go_at_call_of 22 (Value.pointer (some { block := gy,off := 0 })); have q0 := LXC.out; have q00 := LYC.out; have e1 := hb1.size; have d1 := hbl1.size; (try simp at e1); have e2 := hs2.size; have d2 := hbl2.size; (try simp at e2); have e3 := hb3.size; have d3 := hbl3.size; (try simp at e3); have o2 := ho2.lt; refine (YE (by repeat' first | ((with_reducible refine TN ?_); (first | with_reducible rfl | (simp; done))) | with_reducible exact Blk.new _ _ _ | with_reducible refine Io _ ?_ | with_reducible refine Wl ?_ | with_reducible refine Xr hb3 ?_ | with_reducible refine TL hs2 ?_ ?_ | with_reducible refine Xr hb1 ?_ | (first | omega | (simp; done) | (simp; omega))) (RV.num (HYC.out.below (by repeat' first | with_reducible exact hbl3 | with_reducible exact hbl2 | with_reducible exact hbl1 | with_reducible exact Below.refl _ _ | with_reducible refine Below.new ?_ _ | with_reducible refine Below.drew ?_))) (show IV _ p3 (x.den : Int) from (by repeat' first | with_reducible exact hv3 | with_reducible refine Dp _ ?_ | with_reducible refine Tp ?_)) (Vr (by (first | omega | (simp; done) | (simp; omega)))) (by first | (refine hv3.apart ?_; (first | omega | (simp; done) | (simp; omega))) | (refine hap3 _ ?_ ?_ <;> (first | omega | (simp; done) | (simp; omega)))) SY.out DX.out).mono ?_; clear q0 q00 e1 d1 e2 d2 e3 d3 o2; rintro e w4 ⟨rfl,hs4,ho4,hh4⟩; have hbl4 : Below wc.heap.size wc w4 := ZC (by repeat' first | with_reducible exact hbl3 | with_reducible exact hbl2 | with_reducible exact hbl1 | with_reducible exact Below.refl _ _ | with_reducible refine Below.new ?_ _ | with_reducible refine Below.drew ?_) hs4 (by have d1 := hbl1.size; have d2 := hbl2.size; have d3 := hbl3.size; (first | omega | (simp; done) | (simp; omega))))
    | (go_at_call 56; have q0 := LXC.out; have q00 := LYC.out; have e1 := hb1.size; have d1 := hbl1.size; (try simp at e1); have e2 := hs2.size; have d2 := hbl2.size; (try simp at e2); have e3 := hb3.size; have d3 := hbl3.size; (try simp at e3); have e4 := hs4.size; have d4 := hbl4.size; (try simp at e4); have o2 := ho2.lt; have o4 := ho4.lt; refine (Yt (Own2.iv (by repeat' first | with_reducible exact ho2 | with_reducible refine JE _ ?_ | with_reducible refine OU ?_ | with_reducible refine Tw hs4 hh4 ?_ ?_ | with_reducible refine MY hb3 ?_ | (first | omega | (simp; done) | (simp; omega)))) (Own2.iv (by repeat' first | with_reducible exact ho4 | with_reducible refine JE _ ?_ | with_reducible refine OU ?_ | (first | omega | (simp; done) | (simp; omega)))) SXY.out SYX.out).mono ?_; clear q0 q00 e1 d1 e2 d2 e3 d3 e4 d4 o2 o4; rintro e w5 ⟨hb5,c5,rfl,hc5,hz5⟩; have hbl5 : Below wc.heap.size wc w5 := Qq (by repeat' first | with_reducible exact hbl4 | with_reducible exact hbl3 | with_reducible exact hbl2 | with_reducible exact hbl1 | with_reducible exact Below.refl _ _ | with_reducible refine Below.new ?_ _ | with_reducible refine Below.drew ?_) hb5)
    )
  all_goals
   go_wp2
   go_ret
   exact ⟨Qq HC.out hbl5,_,rfl,hc5,hz5.trans (OK x y)⟩
end Go.Proofs.YtnhplfjlhdpgoaaGreatDoor
/- RG -/
namespace Go.Proofs.YtnhplfjlhdpgoaaGreatDoor
open Go.RowKit Cx
attribute [local go_sem ↓] Go.wp_at_zero Go.wp_at_succ
end Go.Proofs.YtnhplfjlhdpgoaaGreatDoor
/- RK -/
namespace Go.Proofs.YtnhplfjlhdpgoaaGreatDoor
open Go.RowKit Cx
attribute [local go_sem ↓] Go.wp_at_zero Go.wp_at_succ
def right (s : ByteArray) : Prop := tx (rd s.data.toList)=s.data.toList
end Go.Proofs.YtnhplfjlhdpgoaaGreatDoor
/- BQU -/
namespace Go.Proofs.YtnhplfjlhdpgoaaGreatDoor
open Go.RowKit Cx
attribute [local go_sem ↓] Go.wp_at_zero Go.wp_at_succ
end Go.Proofs.YtnhplfjlhdpgoaaGreatDoor
/- BGC -/
namespace Go.Proofs.YtnhplfjlhdpgoaaGreatDoor
open Go.RowKit Cx
attribute [local go_sem ↓] Go.wp_at_zero Go.wp_at_succ
theorem Dy {w : World} {g o : Nat} {px : Value} {x : Int} (h : At2 w g o) (hx : IV w px x) (sx : Small x.natAbs) :
  Calls Tryz.prog 51 #[.pointer (some ⟨g,o,none⟩),px] w fun e w' => e=.returned (.pointer (some ⟨g,o,none⟩))∧Gave w g o (x.natAbs : Int) w' := by
 obtain ⟨g1,o1,a1,n1,c1,rfl,x0,x1,x2,xl⟩ := hx
 have H := Qb h
 have HX := Qb x2
 have SX := Qb sx
 clear h x2 sx xl
 go_enter Tryz.func51,Tryz.ntmps51
 go_wp2_with fail
 refine (Xa HX.out SX.out).mono ?_
 rintro e w1 ⟨hb1,v1,rfl,hv1⟩
 obtain ⟨ao,n,c,rfl,hn,hnb,hnz⟩ := Zf hv1
 have H1 := Qb (And.intro hb1 hv1)
 clear hb1 hv1
 go_wp2_with fail
 refine (Xd (n := n) (ao := ao) (c := c) false (H.out.below H1.out.1)).mono ?_
 rintro e w2 ⟨rfl,rfl⟩
 go_wp2
 go_ret
 refine ⟨rfl,w1,ao,n,c,H1.out.1,?_,by rw [Int.natAbs_natCast]; exact H1.out.2⟩
 rw [Ri]
end Go.Proofs.YtnhplfjlhdpgoaaGreatDoor
/- BGD -/
namespace Go.Proofs.YtnhplfjlhdpgoaaGreatDoor
open Go.RowKit Cx
attribute [local go_sem ↓] Go.wp_at_zero Go.wp_at_succ
end Go.Proofs.YtnhplfjlhdpgoaaGreatDoor
/- BGE -/
namespace Go.Proofs.YtnhplfjlhdpgoaaGreatDoor
open Go.RowKit Cx
attribute [local go_sem ↓] Go.wp_at_zero Go.wp_at_succ
end Go.Proofs.YtnhplfjlhdpgoaaGreatDoor
/- BPL -/
namespace Go.Proofs.YtnhplfjlhdpgoaaGreatDoor
open Go.RowKit Cx
attribute [local go_sem ↓] Go.wp_at_zero Go.wp_at_succ
end Go.Proofs.YtnhplfjlhdpgoaaGreatDoor
/- RBS -/
namespace Go.Proofs.YtnhplfjlhdpgoaaGreatDoor
open Go.RowKit Cx
end Go.Proofs.YtnhplfjlhdpgoaaGreatDoor
/- BPM -/
namespace Go.Proofs.YtnhplfjlhdpgoaaGreatDoor
open Go.RowKit Cx
attribute [local go_sem ↓] Go.wp_at_zero Go.wp_at_succ
end Go.Proofs.YtnhplfjlhdpgoaaGreatDoor
/- BPN -/
namespace Go.Proofs.YtnhplfjlhdpgoaaGreatDoor
open Go.RowKit Cx
attribute [local go_sem ↓] Go.wp_at_zero Go.wp_at_succ
end Go.Proofs.YtnhplfjlhdpgoaaGreatDoor
/- MathZ -/
namespace Cx
end Cx
/- VQ -/
namespace Cx
theorem NJ (b : Bool) (n : Nat) : (sg b n).natAbs=n := by cases b <;> simp [sg]
theorem Lh (G M : Nat) (f : Bool) (q : Rat) : (pl G M f q).num=sg (decide (q.num < 0) != f) (q.num.natAbs / G*(M / q.den))∧(pl G M f q).den=1 := ⟨rfl,rfl⟩
theorem fac_den {qs : List Rat} {q : Rat} (h : q ∈ qs) : (q*fac qs).den=1 := by
 rw [← Aj h]
 exact (Lh _ _ _ _).2
theorem fac_abs {qs : List Rat} {q : Rat} (h : q ∈ qs) : (q*fac qs).num.natAbs=q.num.natAbs / gN qs*(lD qs / q.den) := by
 rw [← Aj h,(Lh _ _ _ _).1,NJ]
end Cx
namespace Go.Proofs.YtnhplfjlhdpgoaaGreatDoor
open Go.RowKit Cx
attribute [local go_sem ↓] Go.wp_at_zero Go.wp_at_succ
end Go.Proofs.YtnhplfjlhdpgoaaGreatDoor
/- VS -/
namespace Go.Proofs.YtnhplfjlhdpgoaaGreatDoor
open Go.RowKit Cx
def nbS : List Nat := [35,33]
theorem NatN.gr {w w' : World} {v : Value} {n : Nat} (hg : Gr nbS w w') (h : NatN w v n) : NatN w' v n := by
 obtain ⟨l,⟨hl,⟨rfl,ao,cap,rfl⟩ | ⟨b,off,cap,rfl,hc,hm,hlt,hseg⟩⟩,t,rfl⟩ := h
 ·exact ⟨[],NatV.nil _ _ _,t,rfl⟩
 ·by_cases h0 : l.length=0
  ·have := List.length_eq_zero_iff.1 h0
   subst this
   exact ⟨[],NatV.nil _ _ _,t,rfl⟩
  ·have hn : ¬ Bxd nbS w b := by
    rintro ⟨cs,t',hb,_,hno⟩
    have h1 := hseg 0 (by omega)
    rw [Nat.add_zero,hb.cell off] at h1
    have := hno _ (List.mem_of_getElem? h1)
    simp [okV,Pg] at this
   refine ⟨l,⟨hl,Or.inr ⟨b,off,cap,rfl,hc,hm,Nat.lt_of_lt_of_le hlt hg.size,fun j hj => ?_⟩⟩,t,rfl⟩
   have : w'.cell? ⟨b,off+j,none⟩=w.cell? ⟨b,off+j,none⟩ := by simp [World.cell?,hg.block b hlt hn]
   rw [this]
   exact hseg j hj
theorem Blk.gr {w w' : World} {g : Nat} {cs : Array Value} {t : TypeId} (hg : Gr nbS w w') (h : Blk w g cs t) (ht : JU t nbS=true) : Blk w' g cs t := by
 have hn : ¬ Bxd nbS w g := by
  rintro ⟨cs',t',hb,hT,_⟩
  have e := h
  unfold Blk at e
  unfold Bk at hb
  rw [hb] at e
  cases e
  rw [ht] at hT
  cases hT
 exact (hg.block g h.lt hn).trans h
theorem RV.gr {w w' : World} {g : Nat} {q : Rat} (hg : Gr nbS w w') (h : RV w g q) : RV w' g q := by
 obtain ⟨a1,l1,c1,a2,l2,c2,h0,h1,h2⟩ := h
 refine ⟨a1,l1,c1,a2,l2,c2,h0.gr hg (by decide),h1.gr hg,?_⟩
 rcases h2 with h2 | h2
 ·exact Or.inl (h2.gr hg)
 ·exact Or.inr h2
theorem NatN.okv {w : World} {v : Value} {n : Nat} (h : NatN w v n) : okV v=true := by
 obtain ⟨l,⟨hl,⟨rfl,ao,cap,rfl⟩ | ⟨b,off,cap,rfl,_⟩⟩,_⟩ := h <;> rfl
def XS (k : Nat) (q : Rat) : Fct nbS := match k with
 | 0 => ⟨fun v w => PR w v q,fun hg ⟨g,e,h⟩ => ⟨g,e,h.gr hg⟩,fun ⟨g,e,_⟩ => by rw [e]; rfl⟩
 | 1 => ⟨fun v _ => v=.bool (decide (q.num < 0)),fun _ h => h,fun h => by rw [h]; rfl⟩
 | 2 => ⟨fun v w => NatN w v q.num.natAbs,fun hg h => h.gr hg,fun h => h.okv⟩
 | 3 => ⟨fun v w => NatN w v (if q.den=1 then 0 else q.den),fun hg h => h.gr hg,fun h => h.okv⟩
 | 4 => ⟨fun v _ => v=.int .i64 (QK q),fun _ h => h,fun h => by rw [h]; rfl⟩
 | 5 => ⟨fun v _ => ∃ c : Int,v=.int .i64 c∧(c=0 ↔ q=0)∧(c < 0 ↔ q < 0),fun _ h => h,fun ⟨c,h,_⟩ => by rw [h]; rfl⟩
 | 6 => ⟨fun v _ => ∃ n : Int,v=.int .i64 n∧((n : Int) : Rat)=q,fun _ h => h,fun ⟨c,h,_⟩ => by rw [h]; rfl⟩
 | 7 => ⟨fun v _ => ∃ c : Int,v=.int .i64 c∧(c=0 ↔ q=0),fun _ h => h,fun ⟨c,h,_⟩ => by rw [h]; rfl⟩
 | _ => ⟨fun _ _ => False,fun _ h => h,fun h => h.elim⟩
def Yo (q : Rat) : ByteArray := ⟨(tx q).toArray⟩
def evS (q : Nat→Rat) (σ : Nat→ByteArray) : Ev nbS := ⟨q,σ,XS,Yo⟩
theorem Py {q q' : Rat} (h : Yo q=Yo q') : q=q' := by
 have : tx q=tx q' := by
  have := congrArg (fun s : ByteArray => s.data.toList) h
  simpa [Yo] using this
 rw [← Sy q,this,Sy]
theorem HJ (q : Rat) : ZV (Yo q) ≠ [] := by
 intro h
 have : tx q=[] := by simpa [ZV,Yo] using h
 have e := Sy q
 rw [this] at e
 have h0 : q=0 := e.symm
 rw [h0] at this
 exact absurd this (by decide +kernel)
section
variable {q : Nat→Rat} {σ : Nat→ByteArray} {K : List (FuncId × List AC)} {γ : Nat→Option Nat} {w : World}
theorem GK {v : Value} {a : Nat} (h : QV w v (q a)) : avOn (cOn (evS q σ) K γ w) (q1 a) v := by
 obtain ⟨vu,vl,rfl,h1,h2⟩ := h
 exact MG (vs := [.bool (decide ((q a).num < 0)),vu,vl]) ⟨rfl,h1,h2,trivial⟩
theorem SW {S : Sx} {cs : List AC} {vs : List Value} {a : Nat} (hz : ∀ i,S.nd 0 [0,0,1]=some i→q i=0) (hn : MV S cs=some a) (hA : A2 (cOn (evS q σ) K γ w) cs vs) : QV w (.agg vs.toArray) (q a)∧vs.length=3 := by
 unfold MV at hn
 split at hn
 ·rename_i x y z
  match vs,hA with
  | [u,v,t],⟨h1,h2,h3,_⟩ =>
   refine ⟨?_,rfl⟩
   split at hn
   ·rename_i b hb
    simp only [Option.bind_eq_some_iff,ifO_some,Bool.and_eq_true,Nat.beq_eq] at hn
    obtain ⟨c,g1,d,g2,⟨e1,e2⟩,e3⟩ := hn
    cases e3
    subst e1 e2
    have k1 : u=.bool (decide ((q a).num < 0)) := UK (E := evS q σ) hb h1
    have k2 : NatN w v (q a).num.natAbs := UK (E := evS q σ) g1 h2
    have k3 : NatN w t (if (q a).den=1 then 0 else (q a).den) := UK (E := evS q σ) g2 h3
    exact ⟨v,t,by rw [k1],k2,k3⟩
   ·rw [ifO_some] at hn
    obtain ⟨g1,g2⟩ := hn
    rw [hz a g2]
    unfold isZ3 at g1
    split at g1
    ·rename_i e
     cases e
     have k1 : u=.bool false := h1.1
     have k2 : v=.slice none 0 0 := h2.1
     have k3 : t=.slice none 0 0 := h3.1
     rw [k1,k2,k3]
     exact ⟨_,_,rfl,NatN.nil _ _ _,NatN.nil _ _ _⟩
    ·cases g1
 ·cases hn
theorem Yb {S : Sx} {x : AV} {v : Value} {a : Nat} (hz : ∀ i,S.nd 0 [0,0,1]=some i→q i=0) (hn : qN S x=some a) (hx : avOn (cOn (evS q σ) K γ w) x v) : QV w v (q a) := by
 unfold qN at hn
 rw [Option.bind_eq_some_iff] at hn
 obtain ⟨cs,h1,h2⟩ := hn
 obtain ⟨vs,rfl,hA⟩ := Oi h1 hx
 exact (SW hz h2 hA).1
theorem t_on {s : ByteArray} {a : Nat} (h : s.data.toList=tx (q a)) : avOn (cOn (evS q σ) K γ w) (t1 a) (.string s) := by
 refine Zk ?_
 show Value.string s=.string (Yo (q a))
 congr 1
 exact ByteArray.ext (Array.ext' (by simpa [Yo] using h))
theorem LV {S : Sx} {a : Nat} (hk : ∀ r,S.kn 5 a 0=some r→(r=0→q a < 0)∧(r=1→q a=0)∧(r=2→0 < q a)) : avOn (cOn (evS q σ) K γ w) (FO S a) (.int .i64 (QK (q a))) := by
 unfold FO
 split
 ·rename_i e
  have := (hk _ e).1 rfl
  rw [show QK (q a)=-1 by unfold QK; rw [if_pos this]]
  exact Zk ⟨rfl,rfl⟩
 ·rename_i e
  have := (hk _ e).2.1 rfl
  rw [show QK (q a)=0 by unfold QK; rw [this]; decide]
  exact Zk ⟨rfl,rfl⟩
 ·rename_i e
  have := (hk _ e).2.2 rfl
  rw [show QK (q a)=1 by unfold QK; rw [if_neg (by grind),if_neg (by grind)]]
  exact Zk ⟨rfl,rfl⟩
 ·exact Zk (show (XS 4 (q a)).on _ w from rfl)
theorem Rs (x : Rat) : x.num < 0 ↔ x < 0 := by
 rw [← Rat.not_le,← Rat.num_nonneg]
 omega
theorem Ck (x : Rat) : QK x=(if x.num=0 then 0 else if x.num < 0 then -1 else 1) := by
 unfold QK
 by_cases h0 : x=0
 ·subst h0
  decide
 ·have hn : x.num ≠ 0 := fun e => h0 (Rat.num_eq_zero.1 e)
  rw [if_neg hn]
  by_cases hl : x < 0
  ·rw [if_pos hl,if_pos ((Rs x).2 hl)]
  ·rw [if_neg hl,if_neg h0,if_neg (fun e => hl ((Rs x).1 e))]
end
end Go.Proofs.YtnhplfjlhdpgoaaGreatDoor
/- BNN -/
namespace Go.Proofs.YtnhplfjlhdpgoaaGreatDoor
open Go.RowKit Cx
attribute [local go_sem ↓] Go.wp_at_zero Go.wp_at_succ
end Go.Proofs.YtnhplfjlhdpgoaaGreatDoor
/- BNO -/
namespace Go.Proofs.YtnhplfjlhdpgoaaGreatDoor
open Go.RowKit Cx
attribute [local go_sem ↓] Go.wp_at_zero Go.wp_at_succ
end Go.Proofs.YtnhplfjlhdpgoaaGreatDoor
/- BNM -/
namespace Go.Proofs.YtnhplfjlhdpgoaaGreatDoor
open Go.RowKit Cx
attribute [local go_sem ↓] Go.wp_at_zero Go.wp_at_succ
end Go.Proofs.YtnhplfjlhdpgoaaGreatDoor
/- WHL -/
namespace Go.Proofs.YtnhplfjlhdpgoaaGreatDoor
open Go.RowKit Cx
theorem Hu (n : Nat) (h : n < 4611686018427387904) : QS 64 (n : Rat) := ⟨by rw [Rat.num_natCast]; simp; omega,by simp⟩
theorem Ba {w : World} {v : Value} {a : Rat} (h : QV w v a) (h0 : a=0) :
  Calls Tryz.prog 62 #[v] w fun e w' => Below w.heap.size w w'∧e=.returned (.int .i64 0) := by
 subst h0
 exact Ol h
theorem NN {w : World} {v : Value} {n : Nat} (h : QV w v (n : Rat)) (hn : n < 4611686018427387904) :
  Calls Tryz.prog 122 #[v] w fun e w' => Below w.heap.size w w'∧e=.returned (.tuple #[.int .i64 n,.bool true]) := by
 have HQ := Qd h
 obtain ⟨d,rfl⟩ := JC h
 obtain ⟨vu,vl,e,h1,_⟩ := h
 have e1 := Array.mk.inj (Value.agg.inj e)
 simp only [List.cons.injEq,Value.bool.injEq,and_true] at e1
 obtain ⟨hneg,hu,hlow⟩ := e1
 clear hlow
 rw [← hu,Rat.num_natCast,Int.natAbs_natCast] at h1
 rw [Rat.num_natCast] at hneg
 have hneg : d.n=false := by rw [hneg]; simp
 have hlen : d.nu≤2 := by
  obtain ⟨l,hv,ht,hval⟩ := h1
  have hl : l.length≤2 := Wi ht (by rw [hval]; simp [pw]; omega)
  obtain ⟨_,⟨rfl,ao,cap,e2⟩ | ⟨b,off,cap,e2,_⟩⟩ := hv
  ·injection e2 with _ e3 _
   omega
  ·injection e2 with _ e3 _
   omega
 have HN := Qd h1
 clear h1 hu e
 rw [hneg] at HQ ⊢
 clear hneg
 obtain ⟨hb0,hk0,hsz⟩ := PN w #[.bool false,.slice d.u d.nu d.cu,.slice d.l d.nl d.cl] 58
 have HB0 := Qd hb0
 have HSZ := Qd hsz
 have HK0 := Qd hk0
 clear hb0 hsz hk0
 have hw1 : IntKind.i64.wrap (n : Int)=(n : Int) := by rw [IntKind.wrap_i64]; omega
 go_enter Tryz.func122,Tryz.ntmps122
 go_wp2_with fail
 generalize (w.alloc (.cells #[.bool false,.slice d.u d.nu d.cu,.slice d.l d.nl d.cl] 58))=W0 at *
 have HS : Hid (∀ w',Below W0.heap.size W0 w'→w'.cell? ⟨w.heap.size,0,none⟩=some (.bool false)∧w'.cell? ⟨w.heap.size,1,none⟩=some (.slice d.u d.nu d.cu)∧w'.cell? ⟨w.heap.size,2,none⟩=some (.slice d.l d.nl d.cl)) := fun w' hb => ⟨(HK0.out.below hb (by rw [HSZ.out]; omega)).cell 0,(HK0.out.below hb (by rw [HSZ.out]; omega)).cell 1,(HK0.out.below hb (by rw [HSZ.out]; omega)).cell 2⟩
 obtain ⟨z0,z1,z2⟩ := HS.out W0 (Below.refl _ _)
 go_wp2_with fail
 refine (Yg (HN.out.below HB0.out) (by omega)).mono ?_
 rintro e w1 ⟨rfl,rfl⟩
 go_wp2_with fail
 go_region_held3 (fun w' => w'.cell? ⟨w.heap.size,0,none⟩=some (.bool false)∧w'.cell? ⟨w.heap.size,1,none⟩=some (.slice d.u d.nu d.cu)∧w'.cell? ⟨w.heap.size,2,none⟩=some (.slice d.l d.nl d.cl)) (first | go_keep | exact hk2 | exact hk3 | exact hk4)
  (first
   | (go_at_call_of 75 (Value.int .i64 (n : Int)); refine (Oe (n : Int) (by omega) (by omega) _).mono ?_; rintro e w2 ⟨hb2,v2,rfl,hv2⟩; have hbl2 : Below w1.heap.size w1 w2 := (Below.drew (Below.refl _ w1)).trans hb2; have hk2 := HS.out w2 hbl2)
   | (go_at_call 64; refine (Wm hv2 ((HQ.out.below HB0.out).below hbl2) (Hu n hn) (Hu n hn) (by decide)).mono ?_; rintro e w3 ⟨hb3,v3,rfl,hv3⟩; have hbl3 := hbl2.trans (hb3.mono hbl2.size); have hk3 := HS.out w3 hbl3)
   | (go_at_call 62; refine (Ba hv3 Rat.sub_self).mono ?_; rintro e w4 ⟨hb4,rfl⟩; have hbl4 := hbl3.trans (hb4.mono hbl3.size); have hk4 := HS.out w4 hbl4)
   )
 all_goals
  go_wp2
  exact bodyPost_ret (v := .tuple #[.int .i64 n,.bool true]) (by simp [results,Tryz.results122,go_sem]) rfl ⟨HB0.out.trans (hbl4.mono HB0.out.size),rfl⟩
end Go.Proofs.YtnhplfjlhdpgoaaGreatDoor
/- CMQ -/
namespace Go.Proofs.YtnhplfjlhdpgoaaGreatDoor
open Go.RowKit Cx
attribute [local go_sem ↓] Go.wp_at_zero Go.wp_at_succ
def cz (x y : Int) : Int := if x < y then -1 else if y < x then 1 else 0
theorem cq_lt (a b : Rat) : a < b ↔ a.num*b.den < b.num*a.den := Rat.lt_iff a b
theorem cq_eq (a b : Rat) : a=b ↔ a.num*b.den=b.num*a.den := by
 constructor
 ·rintro rfl; rfl
 ·intro h
  exact (Rat.eq_iff_mul_eq_mul).2 h
theorem cq_neg (a b : Rat) : a - b < 0 ↔ a < b := by constructor <;> intro h <;> grind
theorem cq_zero (a b : Rat) : a - b=0 ↔ a=b := by constructor <;> intro h <;> grind
theorem Hl (a b : Rat) : QK (a - b)=if a < b then -1 else if a=b then 0 else 1 := by
 unfold QK
 simp only [cq_neg,cq_zero]
theorem Fm (a : Rat) : a < 0 ↔ a.num < 0 := by
 rw [cq_lt]
 simp
theorem cq_math {a b : Rat} {c : Int} (hs : QK a=QK b) (h1 : c < 0 ↔ a.num.natAbs*b.den < b.num.natAbs*a.den) (h2 : c=0 ↔ a.num.natAbs*b.den=b.num.natAbs*a.den) : QK a*cz c 0=QK (a - b) := by
 have ha := Nat.pos_of_ne_zero a.den_nz
 have hb := Nat.pos_of_ne_zero b.den_nz
 have e1 := cq_lt a b
 have e2 := cq_eq a b
 have n1 : ((a.num.natAbs*b.den : Nat) : Int)=a.num.natAbs*b.den := by push_cast; rfl
 have n2 : ((b.num.natAbs*a.den : Nat) : Int)=b.num.natAbs*a.den := by push_cast; rfl
 rw [Hl]
 unfold QK at hs ⊢
 unfold cz
 by_cases p : a < 0
 ·have q : b < 0 := by
   by_cases q : b < 0
   ·exact q
   ·rw [if_pos p,if_neg q] at hs
    split at hs <;> omega
  have p' := (Fm a).1 p
  have q' := (Fm b).1 q
  have x1 : ((a.num.natAbs : Int))=-a.num := by omega
  have x2 : ((b.num.natAbs : Int))=-b.num := by omega
  rw [x1] at n1
  rw [x2] at n2
  rw [if_pos p]
  simp only [e1,e2]
  have y1 : -a.num*(b.den : Int)=-(a.num*b.den) := Int.neg_mul _ _
  have y2 : -b.num*(a.den : Int)=-(b.num*a.den) := Int.neg_mul _ _
  rw [y1] at n1
  rw [y2] at n2
  split <;> split <;> (try split) <;> (try split) <;> omega
 ·by_cases p0 : a=0
  ·have q : b=0 := by
    rw [if_neg p,if_pos p0] at hs
    split at hs
    ·omega
    ·split at hs
     ·assumption
     ·omega
   subst p0 q
   simp
  ·have q : ¬ b < 0∧¬ b=0 := by
    rw [if_neg p,if_neg p0] at hs
    split at hs
    ·omega
    ·split at hs
     ·omega
     ·exact ⟨by assumption,by assumption⟩
   rw [if_neg p,if_neg p0]
   simp only [e1,e2]
   have p' : ¬ a.num < 0 := fun h => p ((Fm a).2 h)
   have q' : ¬ b.num < 0 := fun h => q.1 ((Fm b).2 h)
   have x1 : ((a.num.natAbs : Int))=a.num := by omega
   have x2 : ((b.num.natAbs : Int))=b.num := by omega
   rw [x1] at n1
   rw [x2] at n2
   split <;> split <;> (try split) <;> (try split) <;> omega
theorem cq_czs {a b : Rat} (h : cz (QK a) (QK b) ≠ 0) : cz (QK a) (QK b)=QK (a - b) := by
 rw [Hl]
 unfold cz QK at *
 by_cases p : a < 0 <;> by_cases q : b < 0 <;> by_cases p0 : a=0 <;> by_cases q0 : b=0 <;> simp_all <;> grind
theorem cq_cz0 {a b : Rat} (h : cz (QK a) (QK b)=0) : QK a=QK b := by
 unfold cz at h
 split at h
 ·omega
 ·split at h <;> omega
theorem Sb (x y : Int) : cz x y=-1 ∨ cz x y=0 ∨ cz x y=1 := by
 unfold cz
 split
 ·exact Or.inl rfl
 ·split
  ·exact Or.inr (Or.inr rfl)
  ·exact Or.inr (Or.inl rfl)
theorem cq_wrap (a : Rat) (c : Int) : IntKind.i64.wrap (QK a*cz c 0)=QK a*cz c 0 := by
 have h1 : QK a=-1 ∨ QK a=0 ∨ QK a=1 := by
  unfold QK
  split
  ·exact Or.inl rfl
  ·split
   ·exact Or.inr (Or.inl rfl)
   ·exact Or.inr (Or.inr rfl)
 rcases h1 with h1 | h1 | h1 <;> rcases Sb c 0 with h2 | h2 | h2 <;> rw [h1,h2] <;> decide
theorem RX (x : Int) (w : World) : Calls Tryz.prog 181 #[.int .i64 x] w fun e w' => e=.returned (.bool false)∧w'=w := by
 go_enter Tryz.func181,Tryz.ntmps181
 go_wp2
 exact bodyPost_ret (v := .bool false) (by simp [results,Tryz.results181,go_sem]) rfl ⟨rfl,rfl⟩
theorem Ip (x y : Int) (w : World) : Calls Tryz.prog 156 #[.int .i64 x,.int .i64 y] w fun e w' => e=.returned (.int .i64 (cz x y))∧w'=w := by
 go_enter Tryz.func156,Tryz.ntmps156
 go_wp2_with fail
 refine (RX x w).mono ?_
 rintro e w1 ⟨rfl,rfl⟩
 go_wp2_with fail
 refine (RX y w1).mono ?_
 rintro e w2 ⟨rfl,rfl⟩
 by_cases h1 : x < y
 ·go_wp2
  exact bodyPost_ret (v := .int .i64 (-1)) (by simp [results,Tryz.results156,go_sem]) rfl ⟨congrArg (fun z => Ending.returned (.int .i64 z)) (by unfold cz; split <;> (try split) <;> omega),rfl⟩
 ·by_cases h2 : y < x
  ·go_wp2
   exact bodyPost_ret (v := .int .i64 1) (by simp [results,Tryz.results156,go_sem]) rfl ⟨congrArg (fun z => Ending.returned (.int .i64 z)) (by unfold cz; split <;> (try split) <;> omega),rfl⟩
  ·go_wp2
   exact bodyPost_ret (v := .int .i64 0) (by simp [results,Tryz.results156,go_sem]) rfl ⟨congrArg (fun z => Ending.returned (.int .i64 z)) (by unfold cz; split <;> (try split) <;> omega),rfl⟩
theorem Bw {w : World} {v : Value} {q : Rat} (h : QV w v q) :
  Calls Tryz.prog 62 #[v] w fun e w' => Below w.heap.size w w'∧e=.returned (.int .i64 (QK q)) := by
 have := Ol h
 rw [← Ck] at this
 exact this
theorem KT (vs : Array Value) (w : World) : (callFunc 142 vs).run Tryz.prog w=.ok (.enter 142 vs) w := QY Tryz.func142 (by kernel_rfl) (by kernel_rfl) vs w
theorem Jc (vs : Array Value) (w : World) : (callFunc 62 vs).run Tryz.prog w=.ok (.enter 62 vs) w := QY Tryz.func62 (by kernel_rfl) (by kernel_rfl) vs w
theorem Xf (vs : Array Value) (w : World) : (callFunc 156 vs).run Tryz.prog w=.ok (.enter 156 vs) w := QY Tryz.func156 (by kernel_rfl) (by kernel_rfl) vs w
theorem Co (T : TypeId) (x y : Operand) (a b z : Int) (h : IntKind.i64.wrap (a*b)=z) (w : World) : (do eqGuard .mul T x y (.int .i64 a) (.int .i64 b); binOp .mul T (.int .i64 a) (.int .i64 b) : Sem Value).run Tryz.prog w=.ok (.int .i64 z) w := by
 subst h
 simp [go_sem]
theorem Xk (T : TypeId) (x y : Operand) (a b : Int) (c : Bool) (h : (a != b)=c) (w : World) : (do eqGuard .neq T x y (.int .i64 a) (.int .i64 b); binOp .neq T (.int .i64 a) (.int .i64 b) : Sem Value).run Tryz.prog w=.ok (.bool c) w := by
 subst h
 simp [go_sem]
theorem YP {q : Rat} : Con Tryz.prog Zx 62 [Qv q] (In (QK q)) := fun w vs _ h => by
 match vs,h with
 | [v],⟨h0,_⟩ => exact (Bw h0).mono fun e w' ⟨hb,e1⟩ => ⟨hb,_,e1,rfl⟩
theorem Bv {x y : Int} : Con Tryz.prog Zx 156 [In x,In y] (In (cz x y)) := fun w vs _ h => by
 match vs,h with
 | [_,_],⟨h0,h1,_⟩ =>
  cases (show _=Value.int .i64 x from h0)
  cases (show _=Value.int .i64 y from h1)
  exact (Ip x y w).mono fun e w' ⟨e1,e2⟩ => ⟨e2 ▸ Below.refl _ _,_,e1,rfl⟩
theorem Ly {a b : Nat} : Con Tryz.prog Zx 156 [Cm a b,In 0] (In (cz (a : Nat) (b : Nat))) := fun w vs _ h => by
 match vs,h with
 | [_,_],⟨⟨c,h0,h2,h3⟩,h1,_⟩ =>
  cases h0
  cases (show _=Value.int .i64 0 from h1)
  have e0 : cz c 0=cz (a : Nat) (b : Nat) := by
   unfold cz
   split <;> split <;> (try split) <;> (try split) <;> omega
  refine (Ip c 0 w).mono ?_
  rintro e w' ⟨e1,rfl⟩
  rw [e0] at e1
  exact ⟨Below.refl _ _,_,e1,rfl⟩
theorem con_cmp {a b : Nat} (s1 : Small a) (s2 : Small b) : Con Tryz.prog Zx 142 [Nt a,Nt b] (Cm a b) := fun w vs _ h => by
 match vs,h with
 | [va,vb],⟨h0,h1,_⟩ => exact (ZI h0 h1 s1 s2).mono fun e w' ⟨hb,c,e1,h2,h3⟩ => ⟨hb,_,e1,c,rfl,h2,h3⟩
theorem Sw {a b : Rat} (hc : ¬ (cz (QK a) (QK b)=0)) :
  Con Tryz.prog Zx 121 [Qv a,Qv b] (In (cz (QK a) (QK b))) := by
 refine Uv (n := 29) Tryz.func121 rfl rfl (Nat.le_of_ble_eq_true rfl) ?_
 intro w a0 hp S0
 have HPRE : ∀ w',Below w.heap.size w w'→Zx w' := fun _ _ => trivial
 refine wp_seq ?_
 refine Qz [.alloc 58 (Qv a),.alloc 58 (Qv b),.pure (In (0))] ⟨S0,by decide +kernel⟩ (by kernel_rfl) (by kernel_rfl) rfl (by kernel_rfl) ?_ ?_
 ·intro C
  refine ASteps.cons ?_ (ASteps.cons ?_ (ASteps.cons ?_ (ASteps.nil)))
  ·exact ZF rfl rfl (Qa rfl) rfl (Ze (by kernel_rfl)) (Qg C 0 (by kernel_rfl) rfl) (Jp (Zm _))
  ·exact ZF rfl rfl (Qa rfl) rfl (Ze (by kernel_rfl)) (Qg C 1 (by kernel_rfl) rfl) (Jp (Zm _))
  ·exact Qk rfl rfl (Qa rfl) rfl (Qp _)
 intro γ a1 w1 S1
 replace S1 : AS w 29 [(4,In (0)),(3,Jus (.pointer (some ⟨γ 1,0,none⟩))),(2,Jus (.pointer (some ⟨γ 0,0,none⟩)))] [(γ 0,58,Qv a),(γ 1,58,Qv b)] a1 w1 := cast (by kernel_rfl) (S1.keep [2,3,4])
 generalize γ 0=G1_0 at S1
 generalize γ 1=G1_1 at S1
 clear S0
 refine Qe ?_
 refine wp_seq ?_
 refine wp_seq ?_
 refine Qz [.pure (Qv a),.pure (In (QK a)),.pure (Qv b),.pure (In (QK b)),.pure (In (cz (QK a) (QK b))),.pure (In (cz (QK a) (QK b)))] ⟨S1,by decide +kernel⟩ (by kernel_rfl) (by kernel_rfl) rfl (by kernel_rfl) ?_ ?_
 ·intro C
  refine ASteps.cons ?_ (ASteps.cons ?_ (ASteps.cons ?_ (ASteps.cons ?_ (ASteps.cons ?_ (ASteps.cons ?_ (ASteps.nil))))))
  ·exact QG (k := 0) rfl rfl rfl (Qa rfl) rfl (Qg C 2 (by kernel_rfl) rfl) (QE (by kernel_rfl)) QT
  ·exact Ql HPRE rfl rfl (Qa rfl) rfl Jc (Opns.cons (Qc C 0 0 rfl rfl rfl rfl rfl rfl) Opns.nil) (YP)
  ·exact QG (k := 1) rfl rfl rfl (Qa rfl) rfl (Qg C 1 (by kernel_rfl) rfl) (QE (by kernel_rfl)) QT
  ·exact Ql HPRE rfl rfl (Qa rfl) rfl Jc (Opns.cons (Qc C 2 0 rfl rfl rfl rfl rfl rfl) Opns.nil) (YP)
  ·exact Ql HPRE rfl rfl (Qa rfl) rfl Xf (Opns.cons (Qc C 1 0 rfl rfl rfl rfl rfl rfl) (Opns.cons (Qc C 3 1 rfl rfl rfl rfl rfl rfl) Opns.nil)) (Bv)
  ·exact Qk rfl rfl (Qa rfl) rfl (Qc C 4 0 rfl rfl rfl rfl rfl rfl)
 intro γ a2 w2 S2
 replace S2 : AS w 29 [(5,In (cz (QK a) (QK b))),(4,In (0)),(3,Jus (.pointer (some ⟨G1_1,0,none⟩))),(2,Jus (.pointer (some ⟨G1_0,0,none⟩)))] [(G1_0,58,Qv a),(G1_1,58,Qv b)] a2 w2 := cast (by kernel_rfl) (S2.keep [2,3,4,5])
 clear S1
 refine Qe ?_
 refine wp_seq ?_
 refine Qz [.pure (In (cz (QK a) (QK b))),.pure (Bo true)] ⟨S2,by decide +kernel⟩ (by kernel_rfl) (by kernel_rfl) rfl (by kernel_rfl) ?_ ?_
 ·intro C
  refine ASteps.cons ?_ (ASteps.cons ?_ (ASteps.nil))
  ·exact Qj rfl rfl (Qa rfl) rfl (Qg C 0 (by kernel_rfl) rfl)
  ·exact QU rfl rfl (Qa rfl) rfl (Qc C 0 0 rfl rfl rfl rfl rfl rfl) (Qp _) (Xk _ _ _ _ _ _ (by simp [hc]))
 intro γ a3 w3 S3
 replace S3 : AS w 29 [(12,Bo true),(5,In (cz (QK a) (QK b))),(4,In (0)),(3,Jus (.pointer (some ⟨G1_1,0,none⟩))),(2,Jus (.pointer (some ⟨G1_0,0,none⟩)))] [(G1_0,58,Qv a),(G1_1,58,Qv b)] a3 w3 := cast (by kernel_rfl) (S3.keep [2,3,4,5,12])
 clear S2
 refine Qe ?_
 refine wp_cond_true (S3.val 0 rfl) ?_
 refine wp_seq ?_
 refine Qz [.pure (In (cz (QK a) (QK b))),.pure (In (cz (QK a) (QK b)))] ⟨S3,by decide +kernel⟩ (by kernel_rfl) (by kernel_rfl) rfl (by kernel_rfl) ?_ ?_
 ·intro C
  refine ASteps.cons ?_ (ASteps.cons ?_ (ASteps.nil))
  ·exact Qj rfl rfl (Qa rfl) rfl (Qg C 1 (by kernel_rfl) rfl)
  ·exact Qk rfl rfl (Qa rfl) rfl (Qc C 0 0 rfl rfl rfl rfl rfl rfl)
 intro γ a4 w4 S4
 replace S4 : AS w 29 [(4,In (cz (QK a) (QK b))),(3,Jus (.pointer (some ⟨G1_1,0,none⟩))),(2,Jus (.pointer (some ⟨G1_0,0,none⟩)))] [(G1_0,58,Qv a),(G1_1,58,Qv b)] a4 w4 := cast (by kernel_rfl) (S4.keep [2,3,4])
 clear S3
 refine Qe ?_
 refine wp_ret ?_
 refine Im ?_
 exact S4.ret 0 rfl rfl fun v hv => ⟨S4.bel,v,rfl,hv⟩
theorem FJ {a b : Rat} {z : Int} (hc : cz (QK a) (QK b)=0) (s1 : Small a.num.natAbs) (s2 : Small b.den) (s3 : Small b.num.natAbs) (s4 : Small a.den) (s5 : Small (a.num.natAbs*b.den)) (s6 : Small (b.num.natAbs*a.den)) (hm : IntKind.i64.wrap (QK a*cz (a.num.natAbs*b.den : Nat) (b.num.natAbs*a.den : Nat))=z) :
  Con Tryz.prog Zx 121 [Qv a,Qv b] (In (z)) := by
 refine Uv (n := 29) Tryz.func121 rfl rfl (Nat.le_of_ble_eq_true rfl) ?_
 intro w a0 hp S0
 have HPRE : ∀ w',Below w.heap.size w w'→Zx w' := fun _ _ => trivial
 refine wp_seq ?_
 refine Qz [.alloc 58 (Qv a),.alloc 58 (Qv b),.pure (In (0))] ⟨S0,by decide +kernel⟩ (by kernel_rfl) (by kernel_rfl) rfl (by kernel_rfl) ?_ ?_
 ·intro C
  refine ASteps.cons ?_ (ASteps.cons ?_ (ASteps.cons ?_ (ASteps.nil)))
  ·exact ZF rfl rfl (Qa rfl) rfl (Ze (by kernel_rfl)) (Qg C 0 (by kernel_rfl) rfl) (Jp (Zm _))
  ·exact ZF rfl rfl (Qa rfl) rfl (Ze (by kernel_rfl)) (Qg C 1 (by kernel_rfl) rfl) (Jp (Zm _))
  ·exact Qk rfl rfl (Qa rfl) rfl (Qp _)
 intro γ a1 w1 S1
 replace S1 : AS w 29 [(4,In (0)),(3,Jus (.pointer (some ⟨γ 1,0,none⟩))),(2,Jus (.pointer (some ⟨γ 0,0,none⟩)))] [(γ 0,58,Qv a),(γ 1,58,Qv b)] a1 w1 := cast (by kernel_rfl) (S1.keep [2,3,4])
 generalize γ 0=G1_0 at S1
 generalize γ 1=G1_1 at S1
 clear S0
 refine Qe ?_
 refine wp_seq ?_
 refine wp_seq ?_
 refine Qz [.pure (Qv a),.pure (In (QK a)),.pure (Qv b),.pure (In (QK b)),.pure (In (cz (QK a) (QK b))),.pure (In (cz (QK a) (QK b)))] ⟨S1,by decide +kernel⟩ (by kernel_rfl) (by kernel_rfl) rfl (by kernel_rfl) ?_ ?_
 ·intro C
  refine ASteps.cons ?_ (ASteps.cons ?_ (ASteps.cons ?_ (ASteps.cons ?_ (ASteps.cons ?_ (ASteps.cons ?_ (ASteps.nil))))))
  ·exact QG (k := 0) rfl rfl rfl (Qa rfl) rfl (Qg C 2 (by kernel_rfl) rfl) (QE (by kernel_rfl)) QT
  ·exact Ql HPRE rfl rfl (Qa rfl) rfl Jc (Opns.cons (Qc C 0 0 rfl rfl rfl rfl rfl rfl) Opns.nil) (YP)
  ·exact QG (k := 1) rfl rfl rfl (Qa rfl) rfl (Qg C 1 (by kernel_rfl) rfl) (QE (by kernel_rfl)) QT
  ·exact Ql HPRE rfl rfl (Qa rfl) rfl Jc (Opns.cons (Qc C 2 0 rfl rfl rfl rfl rfl rfl) Opns.nil) (YP)
  ·exact Ql HPRE rfl rfl (Qa rfl) rfl Xf (Opns.cons (Qc C 1 0 rfl rfl rfl rfl rfl rfl) (Opns.cons (Qc C 3 1 rfl rfl rfl rfl rfl rfl) Opns.nil)) (Bv)
  ·exact Qk rfl rfl (Qa rfl) rfl (Qc C 4 0 rfl rfl rfl rfl rfl rfl)
 intro γ a2 w2 S2
 replace S2 : AS w 29 [(5,In (cz (QK a) (QK b))),(4,In (0)),(3,Jus (.pointer (some ⟨G1_1,0,none⟩))),(2,Jus (.pointer (some ⟨G1_0,0,none⟩)))] [(G1_0,58,Qv a),(G1_1,58,Qv b)] a2 w2 := cast (by kernel_rfl) (S2.keep [2,3,4,5])
 clear S1
 refine Qe ?_
 refine wp_seq ?_
 refine Qz [.pure (In (cz (QK a) (QK b))),.pure (Bo false)] ⟨S2,by decide +kernel⟩ (by kernel_rfl) (by kernel_rfl) rfl (by kernel_rfl) ?_ ?_
 ·intro C
  refine ASteps.cons ?_ (ASteps.cons ?_ (ASteps.nil))
  ·exact Qj rfl rfl (Qa rfl) rfl (Qg C 0 (by kernel_rfl) rfl)
  ·exact QU rfl rfl (Qa rfl) rfl (Qc C 0 0 rfl rfl rfl rfl rfl rfl) (Qp _) (Xk _ _ _ _ _ _ (by simp [hc]))
 intro γ a3 w3 S3
 replace S3 : AS w 29 [(12,Bo false),(5,In (cz (QK a) (QK b))),(4,In (0)),(3,Jus (.pointer (some ⟨G1_1,0,none⟩))),(2,Jus (.pointer (some ⟨G1_0,0,none⟩)))] [(G1_0,58,Qv a),(G1_1,58,Qv b)] a3 w3 := cast (by kernel_rfl) (S3.keep [2,3,4,5,12])
 clear S2
 refine Qe ?_
 refine wp_cond_false (S3.val 0 rfl) ?_
 refine wp_skip ?_
 refine Qe ?_
 refine wp_seq ?_
 refine Qz [.pure (Qv a),.pure (In (QK a)),.pure (Jus (.pointer (some ⟨G1_0,1,none⟩))),.pure (Nt (a.num.natAbs)),.pure (Qv b),.pure (Nt (b.den)),.pure (Nt (a.num.natAbs*b.den)),.pure (Jus (.pointer (some ⟨G1_1,1,none⟩))),.pure (Nt (b.num.natAbs)),.pure (Qv a),.pure (Nt (a.den)),.pure (Nt (b.num.natAbs*a.den)),.pure (Cm (a.num.natAbs*b.den) (b.num.natAbs*a.den)),.pure (In (cz (a.num.natAbs*b.den : Nat) (b.num.natAbs*a.den : Nat))),.pure (In (z)),.pure (In (z))] ⟨S3,by decide +kernel⟩ (by kernel_rfl) (by kernel_rfl) rfl (by kernel_rfl) ?_ ?_
 ·intro C
  refine ASteps.cons ?_ (ASteps.cons ?_ (ASteps.cons ?_ (ASteps.cons ?_ (ASteps.cons ?_ (ASteps.cons ?_ (ASteps.cons ?_ (ASteps.cons ?_ (ASteps.cons ?_ (ASteps.cons ?_ (ASteps.cons ?_ (ASteps.cons ?_ (ASteps.cons ?_ (ASteps.cons ?_ (ASteps.cons ?_ (ASteps.cons ?_ (ASteps.nil))))))))))))))))
  ·exact QG (k := 0) rfl rfl rfl (Qa rfl) rfl (Qg C 4 (by kernel_rfl) rfl) (QE (by kernel_rfl)) QT
  ·exact Ql HPRE rfl rfl (Qa rfl) rfl Jc (Opns.cons (Qc C 0 0 rfl rfl rfl rfl rfl rfl) Opns.nil) (YP)
  ·exact Qw rfl rfl (Qa rfl) rfl (Qg C 4 (by kernel_rfl) rfl) (ZK _)
  ·exact QP (k := 0) rfl rfl rfl (Qa rfl) rfl (Qc C 2 0 rfl rfl rfl rfl rfl rfl) (QE (by kernel_rfl)) JL
  ·exact QG (k := 1) rfl rfl rfl (Qa rfl) rfl (Qg C 3 (by kernel_rfl) rfl) (QE (by kernel_rfl)) QT
  ·exact Ql HPRE rfl rfl (Qa rfl) rfl Zl (Opns.cons (Qc C 4 0 rfl rfl rfl rfl rfl rfl) Opns.nil) (JK)
  ·exact Ql HPRE rfl rfl (Qa rfl) rfl Zq (Opns.cons (Qc C 3 0 rfl rfl rfl rfl rfl rfl) (Opns.cons (Qc C 5 1 rfl rfl rfl rfl rfl rfl) Opns.nil)) ((DB s1 s2))
  ·exact Qw rfl rfl (Qa rfl) rfl (Qg C 3 (by kernel_rfl) rfl) (ZK _)
  ·exact QP (k := 1) rfl rfl rfl (Qa rfl) rfl (Qc C 7 0 rfl rfl rfl rfl rfl rfl) (QE (by kernel_rfl)) JL
  ·exact QG (k := 0) rfl rfl rfl (Qa rfl) rfl (Qg C 4 (by kernel_rfl) rfl) (QE (by kernel_rfl)) QT
  ·exact Ql HPRE rfl rfl (Qa rfl) rfl Zl (Opns.cons (Qc C 9 0 rfl rfl rfl rfl rfl rfl) Opns.nil) (JK)
  ·exact Ql HPRE rfl rfl (Qa rfl) rfl Zq (Opns.cons (Qc C 8 0 rfl rfl rfl rfl rfl rfl) (Opns.cons (Qc C 10 1 rfl rfl rfl rfl rfl rfl) Opns.nil)) ((DB s3 s4))
  ·exact Ql HPRE rfl rfl (Qa rfl) rfl KT (Opns.cons (Qc C 6 0 rfl rfl rfl rfl rfl rfl) (Opns.cons (Qc C 11 1 rfl rfl rfl rfl rfl rfl) Opns.nil)) ((con_cmp s5 s6))
  ·exact Ql HPRE rfl rfl (Qa rfl) rfl Xf (Opns.cons (Qc C 12 0 rfl rfl rfl rfl rfl rfl) (Opns.cons (Qp _) Opns.nil)) (Ly)
  ·exact QU rfl rfl (Qa rfl) rfl (Qc C 1 0 rfl rfl rfl rfl rfl rfl) (Qc C 13 1 rfl rfl rfl rfl rfl rfl) (Co _ _ _ _ _ _ hm)
  ·exact Qk rfl rfl (Qa rfl) rfl (Qc C 14 0 rfl rfl rfl rfl rfl rfl)
 intro γ a4 w4 S4
 replace S4 : AS w 29 [(4,In (z))] [(G1_0,58,Qv a),(G1_1,58,Qv b)] a4 w4 := cast (by kernel_rfl) (S4.keep [4])
 clear S3
 refine Qe ?_
 refine wp_ret ?_
 exact S4.ret 0 rfl rfl fun v hv => ⟨S4.bel,v,rfl,hv⟩
theorem cz_cz (x y : Int) : cz (cz x y) 0=cz x y := by
 rcases Sb x y with h | h | h <;> rw [h] <;> rfl
theorem cz_lt (x y : Int) : cz x y < 0 ↔ x < y := by
 unfold cz
 split <;> (try split) <;> omega
theorem cz_eq (x y : Int) : cz x y=0 ↔ x=y := by
 unfold cz
 split <;> (try split) <;> omega
theorem Ge {w : World} {va vb : Value} {a b : Rat} {k l : Nat} (ha : QV w va a) (hb : QV w vb b) (fa : QS k a) (fb : QS l b) (hk : k+l≤35184372088640) :
  Calls Tryz.prog 121 #[va,vb] w fun e w' => Below w.heap.size w w'∧e=.returned (.int .i64 (QK (a - b))) := by
 by_cases hc : cz (QK a) (QK b)=0
 ·have hs := cq_cz0 hc
  have hz : IntKind.i64.wrap (QK a*cz (a.num.natAbs*b.den : Nat) (b.num.natAbs*a.den : Nat))=QK (a - b) := by
   rw [← cz_cz,cq_wrap]
   exact cq_math hs (by rw [cz_lt]; exact Int.ofNat_lt) (by rw [cz_eq]; exact Int.natCast_inj)
  refine (FJ hc (Qs fa.num (by omega)) (Qs fb.den (by omega)) (Qs fb.num (by omega)) (Qs fa.den (by omega)) (YB fa.num fb.den (by omega)) (YB fb.num fa.den (by omega)) hz w [va,vb] trivial ⟨ha,hb,trivial⟩).mono ?_
  rintro e w' ⟨hb,v,rfl,e⟩
  exact ⟨hb,by rw [show v=_ from e]⟩
 ·refine (Sw hc w [va,vb] trivial ⟨ha,hb,trivial⟩).mono ?_
  rintro e w' ⟨hb,v,rfl,e⟩
  refine ⟨hb,?_⟩
  rw [show v=_ from e,cq_czs hc]
end Go.Proofs.YtnhplfjlhdpgoaaGreatDoor
/- VT -/
namespace Go.Proofs.YtnhplfjlhdpgoaaGreatDoor
open Go.RowKit Cx
def YV (σ : Nat→ByteArray) (q : Nat→Rat) (nd : Nd) : Rat := match nd.1,nd.2 with
 | 0,[s,n,d] => if s=0 then mkRat (n : Int) d else mkRat (-(n : Int)) d
 | 1,[j] => rd (σ j).data.toList
 | 2,[a,b] => q a+q b
 | 3,[a,b] => q a - q b
 | 4,[a,b] => q a*q b
 | 5,[a] => -q a
 | 6,[a,b] => q a / q b
 | 7,[a,b,i,j] => if Yo (q a)=σ i∧Yo (q b)=σ j then 0 else 1
 | 8,i :: xs => (xs.map q).getD i 0*fac (xs.map q)
 | 9,[a] => ((q a).num : Rat)
 | 10,[a] => (((q a).den : Int) : Rat)
 | 11,[a,b] => ((flq (q a / q b) : Int) : Rat)
 | _,_ => 0
theorem Rn {op : Nat} {ar : List Nat} : ∀ {ns : List Nd} {i k : Nat},Fc op ar i ns=some k→i≤k∧ns[k - i]? = some (op,ar)
 | [],_,_,h => by cases h
 | (p,bs) :: ns,i,k,h => by
  unfold Fc at h
  cases e : (Nat.beq op p && OZ ar bs) with
  | true =>
   rw [e] at h
   cases h
   rw [Bool.and_eq_true,Nat.beq_eq] at e
   rw [e.1,WJ e.2]
   exact ⟨Nat.le_refl _,by simp⟩
  | false =>
   rw [e] at h
   obtain ⟨h1,h2⟩ := Rn (ns := ns) h
   refine ⟨by omega,?_⟩
   rw [show k - i=k - (i+1)+1 by omega]
   simpa using h2
def eqS : List (TypeId × Nat) := [(71,2)]
abbrev sx (P : Program) (N : List Nd) (H : List (Nat × Nat × Nat × Nat)) (K : List (FuncId × List AC)) (L C : List (List Nat × Nat)) (Z : List Nat) (pr : List (FuncId × Nat)) : Sx := { P := P,N := N,H := H,K := K,L := L,pr := pr,nb := nbS,eqT := eqS,Z := Z,C := C }
def QZ (w : World) : Prop := Tab w∧MaxL w
structure Hy (N : List Nd) (H : List (Nat × Nat × Nat × Nat)) (L C : List (List Nat × Nat)) (Z : List Nat) (q : Nat→Rat) (σ : Nat→ByteArray) : Prop where
 nat : ∀ a nd,N[a]? = some nd→q a=YV σ q nd
 qs : ∀ a,QS 1000000000000 (q a)
 zs : ∀ a z,Z[a]? = some z→QS z (q a)
 par : ∀ j,(σ j).size≤1048576
 lit : ∀ s b,XU (ZV s) L=some b→q b=rd s.data.toList∧s.size≤4294967280
 k0 : ∀ a r,YO 0 a 0 H=some r→(Nat.beq 1 r=true ↔ q a=0)
 k1 : ∀ a r,YO 1 a 0 H=some r→(Nat.beq 1 r=true ↔ q a < 0)
 k2 : ∀ a r,YO 2 a 0 H=some r→(Nat.beq 1 r=true ↔ 0 < q a)
 k4 : ∀ l a b r,XU l C=some b→YO 4 a b H=some r→(Nat.beq 1 r=true ↔ ZV (Yo (q a))=l)
 k3 : ∀ a b r,YO 3 a b H=some r→(Nat.beq 1 r=true ↔ q a=q b)
 k6 : ∀ a b r,YO 6 a b H=some r→(Nat.beq 1 r=true ↔ (q a=0∧q b=0))
 k5 : ∀ a r,YO 5 a 0 H=some r→(r=0→q a < 0)∧(r=1→q a=0)∧(r=2→0 < q a)
section
variable {N : List Nd} {H : List (Nat × Nat × Nat × Nat)} {K : List (FuncId × List AC)} {L C : List (List Nat × Nat)} {Z : List Nat} {pr : List (FuncId × Nat)} {q : Nat→Rat} {σ : Nat→ByteArray} {w0 : World}
theorem Hy.nd (Y : Hy N H L C Z q σ) {op : Nat} {ar : List Nat} {i : Nat} (h : (sx Tryz.prog N H K L C Z pr).nd op ar=some i) : q i=YV σ q (op,ar) := by
 obtain ⟨_,h2⟩ := Rn h
 rw [Nat.sub_zero] at h2
 exact Y.nat i _ h2
theorem Hy.zero (Y : Hy N H L C Z q σ) : ∀ i,(sx Tryz.prog N H K L C Z pr).nd 0 [0,0,1]=some i→q i=0 := fun i h => by
 rw [Y.nd h]
 show (if (0 : Nat)=0 then mkRat ((0 : Nat) : Int) 1 else mkRat (-((0 : Nat) : Int)) 1)=0
 decide +kernel
theorem cut_app {us rs : List Value} {o n : Nat} (h : o+n≤us.length) : ((us ++ rs).drop o).take n=(us.drop o).take n := by
 rw [List.drop_append_of_le_length (by omega),List.take_append_of_le_length (by rw [List.length_drop]; omega)]
def JA (N : List Nd) (H : List (Nat × Nat × Nat × Nat)) (K : List (FuncId × List AC)) (L C : List (List Nat × Nat)) (Z : List Nat) (pr : List (FuncId × Nat)) (q : Nat→Rat) (σ : Nat→ByteArray) (w0 : World) (c : Nat) (f : FuncId) : Prop :=
 ∀ args h nx p,SJ (sx Tryz.prog N H K L C Z pr) h nx c args=some p→∀ (γ : Nat→Option Nat) (w : World) (vs : List Value),WI w0 γ w→A2 (avOn (cOn (evS q σ) K γ w)) args vs→(∀ x ∈ h,x.1 ∈ p.2.1→boxOn (evS q σ) K γ w x)→(∀ b,nx≤b→b < p.2.2.2→γ b=none) →
  Calls Tryz.prog f vs.toArray w fun e w' => ∃ r γ',e=.returned r∧Ef nbS w0 [] nx p.2.2.2 γ w γ' w'∧avOn (cOn (evS q σ) K γ' w') p.1 r∧∀ x ∈ p.2.2.1,boxOn (evS q σ) K γ' w' x
theorem ZD {c : Nat} {f : FuncId} {F : List AV→Option AV} (hF : ∀ h nx args,SJ (sx Tryz.prog N H K L C Z pr) h nx c args=ZU nx (F args))
  (hc : ∀ args v,F args=some v→∀ (γ : Nat→Option Nat) (w : World) (vs : List Value),WI w0 γ w→A2 (avOn (cOn (evS q σ) K γ w)) args vs→Calls Tryz.prog f vs.toArray w fun e w' => Below w.heap.size w w'∧∃ r,e=.returned r∧avOn (cOn (evS q σ) K γ w') v r) : JA N H K L C Z pr q σ w0 c f := by
 intro args h nx p hp γ w vs hi hA _ _
 rw [hF] at hp
 unfold ZU at hp
 rw [Option.map_eq_some_iff] at hp
 obtain ⟨v,h1,rfl⟩ := hp
 refine (hc args v h1 γ w vs hi hA).mono ?_
 rintro _ w' ⟨hb,r,rfl,hr⟩
 exact ⟨r,γ,rfl,Ef.pure hi hb _ _ _ XR,hr,fun x hx => by cases hx⟩
theorem LS {c : Nat} {f : FuncId} {F : Nat→List AC→Option AV} {z : Nat} (hF : ∀ h nx args p,SJ (sx Tryz.prog N H K L C Z pr) h nx c args=some p→∃ x b cs v,args=[x]∧KX h z x=some (b,cs)∧F b cs=some v∧p=(v,[b],[],nx))
  (hc : ∀ b cs v,F b cs=some v→∀ (γ : Nat→Option Nat) (w : World) (G o n cap : Nat) (vs : List Value) (t : TypeId),WI w0 γ w→Bk w G vs t→o+n*z≤vs.length→A2 (cOn (evS q σ) K γ w) cs ((vs.drop o).take (n*z))→Calls Tryz.prog f #[.slice (some ⟨G,o,none⟩) n cap] w fun e w' => Below w.heap.size w w'∧∃ r,e=.returned r∧avOn (cOn (evS q σ) K γ w') v r) : JA N H K L C Z pr q σ w0 c f := by
 intro args h nx p hp γ w vs hi hA hb _
 obtain ⟨x,b,cs,v,rfl,h1,h2,rfl⟩ := hF h nx args p hp
 match vs,hA with
 | [u],⟨hu,_⟩ =>
  unfold KX at h1
  simp only [Option.bind_eq_some_iff,ifO_some,Nat.ble_eq] at h1
  obtain ⟨s,g1,ds,g2,g3,g4⟩ := h1
  cases g4
  obtain ⟨G,cap,hG,rfl⟩ := KY g1 hu
  obtain ⟨G',us,t,k1,_,⟨rs,k2,_⟩,k3,k4⟩ := hb (s.1,ds) (Zt g2) List.mem_cons_self
  have hul : us.length=ds.length := k4.len
  rw [hG] at k1
  cases k1
  refine (hc _ _ v h2 γ w G s.2.1 s.2.2 cap (us ++ rs) t hi k2 (by rw [List.length_append]; omega) (by rw [cut_app (by omega)]; exact (k4.drop _).take _)).mono ?_
  rintro _ w' ⟨hb,r,rfl,hr⟩
  exact ⟨r,γ,rfl,Ef.pure hi hb _ _ _ XR,hr,fun x hx => by cases hx⟩
theorem Xo {α : Type} {f : AV→Option α} {args : List AV} {r : α} (h : arg1 f args=some r) : ∃ x,args=[x]∧f x=some r := by
 unfold arg1 at h
 split at h
 ·exact ⟨_,rfl,h⟩
 ·cases h
theorem Yx {α : Type} {f : AV→AV→Option α} {args : List AV} {r : α} (h : Oz f args=some r) : ∃ x y,args=[x,y]∧f x y=some r := by
 unfold Oz at h
 split at h
 ·exact ⟨_,_,rfl,h⟩
 ·cases h
theorem WW {k u : Nat} (h : u < 2 ^ k) : Lib.nDigits u≤k / 3+1 := by
 induction u using Nat.strongRecOn generalizing k with
 | ind u ih =>
  by_cases h10 : u < 10
  ·rw [Lib.nDigits_small h10]; omega
  ·rw [Lib.nDigits_big h10]
   match k,h with
   | 0,h => simp at h; omega
   | 1,h => simp at h; omega
   | 2,h => simp at h; omega
   | k+3,h =>
    have := ih (u / 10) (by omega) (k := k) (by rw [Nat.pow_succ,Nat.pow_succ,Nat.pow_succ] at h; omega)
    omega
theorem tx_len3 {k : Nat} {q : Rat} (h : QS k q) : (tx q).length≤2*(k / 3)+4 := by
 unfold tx
 rw [List.length_append,List.length_append,Lib.decDigits_length]
 have h1 := WW h.num
 have h2 := WW h.den
 have h3 : (if q.num < 0 then ([45] : List UInt8) else []).length≤1 := by split <;> simp
 have h4 : (if q.den=1 then [] else 47 :: Lib.decDigits q.den).length≤k / 3+2 := by
  split
  ·simp
  ·rw [List.length_cons,Lib.decDigits_length]; omega
 omega
theorem tx_on (Y : Hy N H L C Z q σ) {γ : Nat→Option Nat} {w : World} {c : AC} {a : Nat} {v : Value} (h : DU (sx Tryz.prog N H K L C Z pr) c=some a) (hc : cOn (evS q σ) K γ w c v) : ∃ s : ByteArray,v=.string s∧rd s.data.toList=q a∧s.size≤4294967280 := by
 unfold DU at h
 split at h
 ·rename_i b hb
  rw [ifO_some] at h
  obtain ⟨h1,h2⟩ := h
  cases h2
  have hv : v=.string (Yo (q a)) := by
   unfold JB at hb
   split at hb
   ·rw [ifO_some,Nat.beq_eq] at hb
    obtain ⟨e1,e2⟩ := hb
    cases e2
    subst e1
    exact hc
   ·cases hb
  refine ⟨_,hv,?_,?_⟩
  ·show rd (tx (q a)).toArray.toList=_
   rw [List.toList_toArray,Sy]
  ·unfold zOk at h1
   split at h1
   ·rename_i z hz
    rw [Nat.ble_eq] at h1
    have := tx_len3 (Y.zs a z hz)
    show (tx (q a)).toArray.size≤_
    rw [List.size_toArray]
    omega
   ·cases h1
 ·split at h
  ·rename_i j hj
   have hv : v=.string (σ j) := by
    unfold Ph at hj
    split at hj
    ·rw [ifO_some,Nat.beq_eq] at hj
     obtain ⟨e1,e2⟩ := hj
     cases e2
     subst e1
     exact hc
    ·cases hj
   refine ⟨_,hv,?_,Nat.le_trans (Y.par j) (by decide)⟩
   rw [Y.nd h]
   rfl
  ·rw [Option.bind_eq_some_iff] at h
   obtain ⟨s,h1,h2⟩ := h
   have hv : v=.string s := by
    unfold Ih at h1
    split at h1
    ·cases h1
     exact hc.1
    ·cases h1
   obtain ⟨e1,e2⟩ := Y.lit s a h2
   exact ⟨s,hv,e1.symm,e2⟩
theorem Ry (Y : Hy N H L C Z q σ) {z : Int} {a : Nat} (h : OI (sx Tryz.prog N H K L C Z pr) z=some a) : q a=(z : Rat) := by
 cases z with
 | ofNat n =>
  rw [Y.nd (K := K) (pr := pr) h]
  show (if (0 : Nat)=0 then mkRat (n : Int) 1 else mkRat (-(n : Int)) 1)=_
  rw [if_pos rfl,Rat.mkRat_one]
  rfl
 | negSucc n =>
  rw [Y.nd (K := K) (pr := pr) h]
  show (if (1 : Nat)=0 then mkRat ((n+1 : Nat) : Int) 1 else mkRat (-((n+1 : Nat) : Int)) 1)=_
  rw [if_neg (by decide),Rat.mkRat_one]
  rfl
theorem Pm (Y : Hy N H L C Z q σ) {op : Nat} {g : Rat→Rat→Rat} (hg : ∀ a b,YV σ q (op,[a,b])=g (q a) (q b)) : ∀ {l : List Nat} {a c : Nat},Ei (sx Tryz.prog N H K L C Z pr) op a l=some c→q c=(l.map q).foldl g (q a)
 | [],a,c,h => by
  cases h
  rfl
 | b :: l,a,c,h => by
  unfold Ei at h
  rw [Option.bind_eq_some_iff] at h
  obtain ⟨d,h1,h2⟩ := h
  rw [Pm Y hg h2,Y.nd h1,hg]
  rfl
theorem MZ (Y : Hy N H L C Z q σ) {γ : Nat→Option Nat} {w : World} {S : Sx} (hS : S=sx Tryz.prog N H K L C Z pr) : ∀ {cs : List AC} {l : List Nat} {vs : List Value},Bb S cs=some l→A2 (cOn (evS q σ) K γ w) cs vs→vs.length=l.length*3∧∀ (j : Nat) (hj : j < l.length),∃ c : C3,vs[j*3]? = some (.bool c.n)∧vs[j*3+1]? = some (.slice c.u c.nu c.cu)∧vs[j*3+2]? = some (.slice c.l c.nl c.cl)∧QV w (.agg #[.bool c.n,.slice c.u c.nu c.cu,.slice c.l c.nl c.cl]) (q l[j])
 | [],l,vs,h,hA => by
  cases h
  match vs,hA with
  | [],_ => exact ⟨rfl,fun j hj => absurd hj (Nat.not_lt_zero _)⟩
 | a :: b :: c :: cs,l,vs,h,hA => by
  unfold Bb at h
  simp only [Option.bind_eq_some_iff,Option.map_eq_some_iff] at h
  obtain ⟨i,h1,l',h2,rfl⟩ := h
  match vs,hA with
  | x :: y :: z :: vs,⟨g1,g2,g3,g4⟩ =>
   obtain ⟨e1,e2⟩ := MZ Y hS h2 g4
   have hq := (SW (q := q) (σ := σ) (K := K) (γ := γ) (w := w) (S := S) (cs := [a,b,c]) (vs := [x,y,z]) (by rw [hS]; exact Y.zero) h1 ⟨g1,g2,g3,trivial⟩).1
   refine ⟨by simp [e1,Nat.succ_mul],fun j hj => ?_⟩
   cases j with
   | zero =>
    obtain ⟨cc,ec⟩ := JC hq
    injection ec with ec
    have ec : [x,y,z]=[.bool cc.n,.slice cc.u cc.nu cc.cu,.slice cc.l cc.nl cc.cl] := by simpa using congrArg Array.toList ec
    injection ec with x1 ec
    injection ec with x2 ec
    injection ec with x3 ec
    subst x1 x2 x3
    exact ⟨cc,rfl,rfl,rfl,hq⟩
   | succ j =>
    obtain ⟨cc,k0,k1,k2,k3⟩ := e2 j (by simpa using hj)
    refine ⟨cc,?_,?_,?_,k3⟩
    ·rw [show (j+1)*3=j*3+3 by omega]; simpa using k0
    ·rw [show (j+1)*3+1=(j*3+1)+3 by omega]; simpa using k1
    ·rw [show (j+1)*3+2=(j*3+2)+3 by omega]; simpa using k2
 | [_],_,_,h,_ => by cases h
 | [_,_],_,_,h,_ => by cases h
theorem DT {w : World} {G o n : Nat} {vs : List Value} {t : TypeId} {v : Value} {j : Nat} (hk : Bk w G vs t) (hv : ((vs.drop o).take n)[j]? = some v) : w.cell? ⟨G,o+j,none⟩=some v := by
 rw [hk.cell]
 rw [List.getElem?_take] at hv
 split at hv
 ·rwa [List.getElem?_drop] at hv
 ·cases hv
theorem qrow_at (Y : Hy N H L C Z q σ) {γ : Nat→Option Nat} {w : World} {cs : List AC} {l : List Nat} {vs : List Value} {G o n cap : Nat} {t : TypeId} (hl : Bb (sx Tryz.prog N H K L C Z pr) cs=some l) (hk : Bk w G vs t) (hn : o+n*3≤vs.length) (hA : A2 (cOn (evS q σ) K γ w) cs ((vs.drop o).take (n*3))) : n=l.length∧QRow w (.slice (some ⟨G,o,none⟩) (l.map q).length cap) (l.map q) := by
 obtain ⟨e1,e2⟩ := MZ Y rfl hl hA
 have hnl : n=l.length := by
  rw [List.length_take,List.length_drop] at e1
  omega
 refine ⟨hnl,G,o,cap,rfl,hk.lt,fun j hj => ?_⟩
 rw [List.length_map] at hj
 obtain ⟨c,k0,k1,k2,k3⟩ := e2 j hj
 refine ⟨c,DT hk k0,?_,?_,by rw [List.getElem_map]; exact k3⟩
 ·rw [Nat.add_assoc]; exact DT hk k1
 ·rw [Nat.add_assoc]; exact DT hk k2
theorem NH (a : Rat) (l : List Rat) : rsum (a :: l)=l.foldl (fun a b => a+b) a := by
 show l.foldl _ (0+a)=_
 rw [Rat.zero_add]
theorem prim_0 (Y : Hy N H L C Z q σ) (hp : QZ w0) : JA N H K L C Z pr q σ w0 0 26 := by
 refine ZD (fun _ _ _ => rfl) fun args v hv γ w vs hi hA => ?_
 have hpre : QZ w := ⟨hp.1.below hi.bel,hp.2.below hi.bel⟩
 obtain ⟨x,rfl,hx⟩ := Xo hv
 replace hv := hx
 clear hx
 match vs,hA with
 | [u],⟨hu,_⟩ =>
  simp only [Option.bind_eq_some_iff,Option.map_eq_some_iff] at hv
  obtain ⟨c,h1,a,h2,rfl⟩ := hv
  obtain ⟨s,rfl,e1,e2⟩ := tx_on Y h2 (Za h1 hu)
  refine (Kv s w (Nat.le_trans e2 (by decide))).mono ?_
  rintro _ w' ⟨hb,v,rfl,hq⟩
  rw [e1] at hq
  exact ⟨hb,_,rfl,GK hq⟩
theorem prim_1 (Y : Hy N H L C Z q σ) (hp : QZ w0) : JA N H K L C Z pr q σ w0 1 72 := by
 refine ZD (fun _ _ _ => rfl) fun args v hv γ w vs hi hA => ?_
 have hpre : QZ w := ⟨hp.1.below hi.bel,hp.2.below hi.bel⟩
 obtain ⟨x,rfl,hx⟩ := Xo hv
 replace hv := hx
 clear hx
 match vs,hA with
 | [u],⟨hu,_⟩ =>
  rw [Option.map_eq_some_iff] at hv
  obtain ⟨a,h1,rfl⟩ := hv
  refine (KF (Yb Y.zero h1 hu) (Y.qs a) (by decide) hpre.1).mono ?_
  rintro _ w' ⟨hb,s,rfl,hs⟩
  exact ⟨hb,_,rfl,t_on hs⟩
theorem prim_2 (Y : Hy N H L C Z q σ) (hp : QZ w0) : JA N H K L C Z pr q σ w0 2 103 := by
 refine ZD (fun _ _ _ => rfl) fun args v hv γ w vs hi hA => ?_
 have hpre : QZ w := ⟨hp.1.below hi.bel,hp.2.below hi.bel⟩
 obtain ⟨x,y,rfl,hx⟩ := Yx hv
 replace hv := hx
 clear hx
 match vs,hA with
 | [u,t],⟨hu,ht,_⟩ =>
  unfold q2B at hv
  simp only [Option.bind_eq_some_iff,Option.map_eq_some_iff] at hv
  obtain ⟨a,h1,b,h2,i,h3,rfl⟩ := hv
  refine (YI (Yb Y.zero h1 hu) (Yb Y.zero h2 ht) (Y.qs a) (Y.qs b) (by decide)).mono ?_
  rintro _ w' ⟨hb,v,rfl,hq⟩
  refine ⟨hb,_,rfl,GK ?_⟩
  rw [Y.nd h3]
  exact hq
theorem prim_3 (Y : Hy N H L C Z q σ) (hp : QZ w0) : JA N H K L C Z pr q σ w0 3 64 := by
 refine ZD (fun _ _ _ => rfl) fun args v hv γ w vs hi hA => ?_
 have hpre : QZ w := ⟨hp.1.below hi.bel,hp.2.below hi.bel⟩
 obtain ⟨x,y,rfl,hx⟩ := Yx hv
 replace hv := hx
 clear hx
 match vs,hA with
 | [u,t],⟨hu,ht,_⟩ =>
  unfold q2B at hv
  simp only [Option.bind_eq_some_iff,Option.map_eq_some_iff] at hv
  obtain ⟨a,h1,b,h2,i,h3,rfl⟩ := hv
  refine (Wm (Yb Y.zero h1 hu) (Yb Y.zero h2 ht) (Y.qs a) (Y.qs b) (by decide)).mono ?_
  rintro _ w' ⟨hb,v,rfl,hq⟩
  refine ⟨hb,_,rfl,GK ?_⟩
  rw [Y.nd h3]
  exact hq
theorem prim_4 (Y : Hy N H L C Z q σ) (hp : QZ w0) : JA N H K L C Z pr q σ w0 4 65 := by
 refine ZD (fun _ _ _ => rfl) fun args v hv γ w vs hi hA => ?_
 have hpre : QZ w := ⟨hp.1.below hi.bel,hp.2.below hi.bel⟩
 obtain ⟨x,y,rfl,hx⟩ := Yx hv
 replace hv := hx
 clear hx
 match vs,hA with
 | [u,t],⟨hu,ht,_⟩ =>
  unfold q2B at hv
  simp only [Option.bind_eq_some_iff,Option.map_eq_some_iff] at hv
  obtain ⟨a,h1,b,h2,i,h3,rfl⟩ := hv
  refine (XZ (Yb Y.zero h1 hu) (Yb Y.zero h2 ht) (Y.qs a) (Y.qs b) (by decide)).mono ?_
  rintro _ w' ⟨hb,v,rfl,hq⟩
  refine ⟨hb,_,rfl,GK ?_⟩
  rw [Y.nd h3]
  exact hq
theorem prim_5 (Y : Hy N H L C Z q σ) (hp : QZ w0) : JA N H K L C Z pr q σ w0 5 118 := by
 refine ZD (fun _ _ _ => rfl) fun args v hv γ w vs hi hA => ?_
 have hpre : QZ w := ⟨hp.1.below hi.bel,hp.2.below hi.bel⟩
 obtain ⟨x,y,rfl,hx⟩ := Yx hv
 replace hv := hx
 clear hx
 match vs,hA with
 | [u,t],⟨hu,ht,_⟩ =>
  unfold q2B at hv
  simp only [Option.bind_eq_some_iff,Option.map_eq_some_iff] at hv
  obtain ⟨a,h1,b,h2,i,h3,rfl⟩ := hv
  refine (RQ (Yb Y.zero h1 hu) (Yb Y.zero h2 ht) (Y.qs a) (Y.qs b) (by decide)).mono ?_
  rintro _ w' ⟨hb,v,rfl,hq⟩
  refine ⟨hb,_,rfl,GK ?_⟩
  rw [Y.nd h3]
  exact hq
theorem prim_6 (Y : Hy N H L C Z q σ) (hp : QZ w0) : JA N H K L C Z pr q σ w0 6 110 := by
 refine ZD (fun _ _ _ => rfl) fun args v hv γ w vs hi hA => ?_
 have hpre : QZ w := ⟨hp.1.below hi.bel,hp.2.below hi.bel⟩
 obtain ⟨x,rfl,hx⟩ := Xo hv
 replace hv := hx
 clear hx
 match vs,hA with
 | [u],⟨hu,_⟩ =>
  simp only [Option.bind_eq_some_iff,Option.map_eq_some_iff] at hv
  obtain ⟨a,h1,i,h3,rfl⟩ := hv
  refine (Wf (Yb Y.zero h1 hu)).mono ?_
  rintro _ w' ⟨hb,v,rfl,hq⟩
  refine ⟨hb,_,rfl,GK ?_⟩
  rw [Y.nd h3]
  exact hq
theorem prim_7 (Y : Hy N H L C Z q σ) (hp : QZ w0) : JA N H K L C Z pr q σ w0 7 62 := by
 refine ZD (fun _ _ _ => rfl) fun args v hv γ w vs hi hA => ?_
 have hpre : QZ w := ⟨hp.1.below hi.bel,hp.2.below hi.bel⟩
 obtain ⟨x,rfl,hx⟩ := Xo hv
 replace hv := hx
 clear hx
 match vs,hA with
 | [u],⟨hu,_⟩ =>
  rw [Option.map_eq_some_iff] at hv
  obtain ⟨a,h1,rfl⟩ := hv
  refine (Ol (Yb Y.zero h1 hu)).mono ?_
  rintro _ w' ⟨hb,rfl⟩
  refine ⟨hb,_,rfl,?_⟩
  rw [← Ck]
  exact LV (Y.k5 a)
theorem prim_8 (Y : Hy N H L C Z q σ) (hp : QZ w0) : JA N H K L C Z pr q σ w0 8 75 := by
 refine ZD (fun _ _ _ => rfl) fun args v hv γ w vs hi hA => ?_
 have hpre : QZ w := ⟨hp.1.below hi.bel,hp.2.below hi.bel⟩
 obtain ⟨x,rfl,hx⟩ := Xo hv
 replace hv := hx
 clear hx
 match vs,hA with
 | [u],⟨hu,_⟩ =>
  simp only [Option.bind_eq_some_iff,Option.map_eq_some_iff,ifO_some,Bool.and_eq_true,decide_eq_true_eq] at hv
  obtain ⟨z,h1,h2,a,h3,rfl⟩ := hv
  obtain rfl := Vk h1 hu
  refine (Oe z h2.1 h2.2 w).mono ?_
  rintro _ w' ⟨hb,v,rfl,hq⟩
  refine ⟨hb,_,rfl,GK ?_⟩
  rw [Ry Y h3]
  exact hq
theorem KG (Y : Hy N H L C Z q σ) {a n : Nat} (h : Dk (sx Tryz.prog N H K L C Z pr) a=some n) : q a=(n : Rat)∧n < 4611686018427387904 := by
 unfold Dk at h
 split at h
 ·rename_i op s m d hN
  simp only [ifO_some,Bool.and_eq_true,Nat.beq_eq] at h
  obtain ⟨⟨⟨h1,h2⟩,h3,h4⟩,h5⟩ := h
  cases h5
  subst h1 h2 h3
  refine ⟨?_,Nat.lt_of_lt_of_le (Nat.lt_succ_self n) (Nat.le_of_ble_eq_true h4)⟩
  rw [Y.nat a _ hN]
  show (if (0 : Nat)=0 then mkRat (n : Int) 1 else mkRat (-(n : Int)) 1)=_
  rw [if_pos rfl]
  exact Rat.mkRat_one _
 ·cases h
theorem Gj (Y : Hy N H L C Z q σ) {a n : Nat} : ∀ {hs : List (Nat × Nat × Nat × Nat)},Dt (sx Tryz.prog N H K L C Z pr) a hs=some n→q a=(n : Rat)∧n < 4611686018427387904
 | [],h => by cases h
 | (k,b,c,r0) :: hs,h => by
  unfold Dt at h
  cases e : (Nat.beq k 3 && Nat.beq a b) with
  | true =>
   rw [e] at h
   dsimp only [cond] at h
   split at h
   ·rename_i r hr
    rw [ifO_some] at h
    have h1 := (Y.k3 a c r hr).1 h.1
    have h2 := KG (K := K) (pr := pr) Y h.2
    rw [h1]
    exact h2
   ·cases h
  | false =>
   rw [e] at h
   exact Gj Y h
theorem CB (Y : Hy N H L C Z q σ) {a n : Nat} (h : Ct (sx Tryz.prog N H K L C Z pr) a=some n) : q a=(n : Rat)∧n < 4611686018427387904 := by
 unfold Ct at h
 split at h
 ·rename_i m hm
  cases h
  exact KG (K := K) (pr := pr) Y hm
 ·exact Gj (K := K) (pr := pr) Y h
theorem prim_12 (Y : Hy N H L C Z q σ) (hp : QZ w0) : JA N H K L C Z pr q σ w0 12 122 := by
 refine ZD (fun _ _ _ => rfl) fun args v hv γ w vs hi hA => ?_
 have hpre : QZ w := ⟨hp.1.below hi.bel,hp.2.below hi.bel⟩
 obtain ⟨x,rfl,hx⟩ := Xo hv
 replace hv := hx
 clear hx
 match vs,hA with
 | [u],⟨hu,_⟩ =>
  simp only [Option.bind_eq_some_iff,Option.map_eq_some_iff] at hv
  obtain ⟨a,h1,n,h2,rfl⟩ := hv
  obtain ⟨e1,e2⟩ := CB Y h2
  refine (NN (by rw [← e1]; exact Yb Y.zero h1 hu) e2).mono ?_
  rintro _ w' ⟨hb,rfl⟩
  exact ⟨hb,_,rfl,⟨[.int .i64 n,.bool true],rfl,⟨⟨rfl,rfl⟩,trivial⟩,⟨⟨rfl,rfl⟩,trivial⟩,trivial⟩⟩
theorem prim_13 (Y : Hy N H L C Z q σ) (hp : QZ w0) : JA N H K L C Z pr q σ w0 13 63 := by
 refine ZD (fun _ _ _ => rfl) fun args v hv γ w vs hi hA => ?_
 have hpre : QZ w := ⟨hp.1.below hi.bel,hp.2.below hi.bel⟩
 obtain ⟨x,y,rfl,hx⟩ := Yx hv
 replace hv := hx
 clear hx
 match vs,hA with
 | [u,t],⟨hu,ht,_⟩ =>
  unfold q2B at hv
  simp only [Option.bind_eq_some_iff,Option.map_eq_some_iff] at hv
  obtain ⟨a,h1,b,h2,i,h3,rfl⟩ := hv
  refine (OG (Yb Y.zero h1 hu) (Yb Y.zero h2 ht) (Y.qs a) (Y.qs b) (by decide)).mono ?_
  rintro _ w' ⟨hb,v,rfl,hq⟩
  refine ⟨hb,_,rfl,GK ?_⟩
  rw [Y.nd h3]
  exact hq
theorem So {γ : Nat→Option Nat} {w : World} {i : Nat} {v : Value} (h : QV w v (q i)) : a1On (cOn (evS q σ) K γ w) (true,Gc i) v := (GK (K := K) (γ := γ) h).1
theorem prim_14 (Y : Hy N H L C Z q σ) (hp : QZ w0) : JA N H K L C Z pr q σ w0 14 61 := by
 refine ZD (fun _ _ _ => rfl) fun args v hv γ w vs hi hA => ?_
 have hpre : QZ w := ⟨hp.1.below hi.bel,hp.2.below hi.bel⟩
 obtain ⟨x,rfl,hx⟩ := Xo hv
 replace hv := hx
 clear hx
 match vs,hA with
 | [u],⟨hu,_⟩ =>
  simp only [Option.bind_eq_some_iff,Option.map_eq_some_iff] at hv
  obtain ⟨a,h1,b,h2,c,h3,rfl⟩ := hv
  refine (FV (Yb Y.zero h1 hu)).mono ?_
  rintro _ w' ⟨hb,v1,v2,rfl,q1,q2⟩
  refine ⟨hb,_,rfl,[v1,v2],rfl,So (by rw [Y.nd h2]; exact q1),So (by rw [Y.nd h3]; exact q2),trivial⟩
theorem prim_15 (Y : Hy N H L C Z q σ) (hp : QZ w0) : JA N H K L C Z pr q σ w0 15 121 := by
 refine ZD (fun _ _ _ => rfl) fun args v hv γ w vs hi hA => ?_
 have hpre : QZ w := ⟨hp.1.below hi.bel,hp.2.below hi.bel⟩
 obtain ⟨x,y,rfl,hx⟩ := Yx hv
 replace hv := hx
 clear hx
 match vs,hA with
 | [u,t],⟨hu,ht,_⟩ =>
  simp only [Option.bind_eq_some_iff,Option.map_eq_some_iff] at hv
  obtain ⟨a,h1,b,h2,i,h3,rfl⟩ := hv
  refine (Ge (Yb Y.zero h1 hu) (Yb Y.zero h2 ht) (Y.qs a) (Y.qs b) (by decide)).mono ?_
  rintro _ w' ⟨hb,rfl⟩
  refine ⟨hb,_,rfl,?_⟩
  rw [show q a - q b=q i from (Y.nd h3).symm]
  exact LV (Y.k5 i)
theorem prim_9 (Y : Hy N H L C Z q σ) (hp : QZ w0) : JA N H K L C Z pr q σ w0 9 157 := by
 refine LS (z := 3) (F := fun _ cs => (Bb (sx Tryz.prog N H K L C Z pr) cs).bind fun l => (DQ (sx Tryz.prog N H K L C Z pr) 2 l).bind fun a => ifO (Nat.ble l.length 20) (some (q1 a))) (fun h nx args p hp => ?_) fun b cs v hv γ w G o n cap vs t hi hk hn hA => ?_
 ·have hp : arg1 (fun x => (KX h 3 x).bind fun p => _) args=some p := hp
  obtain ⟨x,rfl,hx⟩ := Xo hp
  replace hp := hx
  clear hx
  simp only [Option.bind_eq_some_iff,ifO_some] at hp
  obtain ⟨⟨b,cs⟩,h1,l,h2,a,h3,h4,h5⟩ := hp
  cases h5
  exact ⟨x,b,cs,q1 a,rfl,h1,by simp only [Option.bind_eq_some_iff,ifO_some]; exact ⟨l,h2,a,h3,h4,rfl⟩,rfl⟩
 ·have hpre : QZ w := ⟨hp.1.below hi.bel,hp.2.below hi.bel⟩
  simp only [Option.bind_eq_some_iff,ifO_some,Nat.ble_eq] at hv
  obtain ⟨l,h2,a,h3,h4,h5⟩ := hv
  cases h5
  obtain ⟨rfl,hr⟩ := qrow_at Y h2 hk hn hA
  have hll : (l.map q).length=l.length := List.length_map ..
  rw [← hll]
  refine (Nx hr (K := 1000000000000) (fun x hx => by obtain ⟨i,_,rfl⟩ := List.mem_map.1 hx; exact Y.qs i) (by rw [hll]; omega) (by rw [hll]; omega)).mono ?_
  rintro _ w' ⟨hb,v,rfl,hq⟩
  refine ⟨hb,_,rfl,GK ?_⟩
  cases l with
  | nil => cases h3
  | cons i l =>
   rw [Pm (g := fun a b => a+b) Y (fun _ _ => rfl) h3]
   rw [List.map_cons,NH] at hq
   exact hq
end
end Go.Proofs.YtnhplfjlhdpgoaaGreatDoor
/- ZWR -/
namespace Go.Proofs.YtnhplfjlhdpgoaaGreatDoor
open Go.RowKit Cx
theorem Jb {w w' : World} (h : QZ w) (hb : Below w.heap.size w w') : QZ w' := ⟨h.1.below hb,h.2.below hb⟩
theorem IK {f : FuncId} {Fs : List Fact} {F : Fact} (h : Con Tryz.prog Zx f Fs F) : Con Tryz.prog QZ f Fs F := fun w vs _ hall => h w vs trivial hall
def Tt (q : Rat) : Fact := ⟨fun v _ => ∃ s : ByteArray,v=.string s∧s.data.toList=tx q,fun _ h => h⟩
theorem blk_one {w : World} {g : Nat} {cs cs' : Array Value} {t t' : TypeId} (h : Blk w g cs t) (h' : Blk w g cs' t') : cs=cs'∧t=t' := by
 unfold Blk at h h'
 rw [h] at h'
 cases h'
 exact ⟨rfl,rfl⟩
theorem Blk.grows {w w' : World} {g : Nat} {cs : Array Value} {t : TypeId} (hg : Grows w w') (h : Blk w g cs t) (ht : PK t=false) : Blk w' g cs t := by
 have hn : ¬ Boxed w g := by
  rintro ⟨cs',t',hb,hT,_⟩
  rw [(blk_one h hb).2] at ht
  rw [ht] at hT
  cases hT
 exact (hg.block g h.lt hn).trans h
theorem RV.grows {w w' : World} {g : Nat} {q : Rat} (hg : Grows w w') (h : RV w g q) : RV w' g q := by
 obtain ⟨a1,l1,c1,a2,l2,c2,h0,h1,h2⟩ := h
 refine ⟨a1,l1,c1,a2,l2,c2,h0.grows hg (by decide),h1.grows hg,?_⟩
 rcases h2 with h2 | h2
 ·exact Or.inl (h2.grows hg)
 ·exact Or.inr h2
def Rt (q : Rat) : Fact := ⟨fun v w => PR w v q,fun hg ⟨g,e,h⟩ => ⟨g,e,h.grows hg⟩⟩
theorem Xu {w : World} {F : Fact} {vs : List Value} (h : All2 w [F] vs) : ∃ v,vs=[v]∧F.on v w := by
 match vs,h with
 | [v],h => exact ⟨v,rfl,h.1⟩
abbrev Tx (s : ByteArray) : Fact := Jus (.string s)
theorem EN (G : Nat) (w : World) : (Instr.fieldAt 61 (.pointer (some ⟨G,0,none⟩)) 0).run Tryz.prog w=.ok (.pointer (some ⟨G,0,none⟩)) w := by
 simp [go_sem]
theorem Nr (G : Nat) (w : World) : (Instr.fieldAt 61 (.pointer (some ⟨G,0,none⟩)) 1).run Tryz.prog w=.ok (.pointer (some ⟨G,3,none⟩)) w := by
 simp [go_sem]
theorem Hw {x y : Rat} : VY Tryz.prog 58 0 (Wv x y) (Qv x) := fun w G cs t hk h => by
 obtain ⟨c,d,e,h1,h2⟩ := h
 have ecs : cs.toArray=_ := Value.agg.inj e
 rw [ecs] at hk
 have k0 := hk.cell 0
 have k1 := hk.cell 1
 have k2 := hk.cell 2
 refine ⟨_,?_,h1⟩
 simp only [List.getElem?_toArray,List.getElem?_cons_zero,List.getElem?_cons_succ] at k0 k1 k2
 clear hk h1 h2
 simp [go_sem,k0,k1,k2]
theorem Hr {x y : Rat} : VY Tryz.prog 58 3 (Wv x y) (Qv y) := fun w G cs t hk h => by
 obtain ⟨c,d,e,h1,h2⟩ := h
 have ecs : cs.toArray=_ := Value.agg.inj e
 rw [ecs] at hk
 have k0 := hk.cell 3
 have k1 := hk.cell 4
 have k2 := hk.cell 5
 refine ⟨_,?_,h2⟩
 simp only [List.getElem?_toArray,List.getElem?_cons_zero,List.getElem?_cons_succ] at k0 k1 k2
 clear hk h1 h2
 simp [go_sem,k0,k1,k2]
theorem KH (vs : Array Value) (w : World) : (callFunc 75 vs).run Tryz.prog w=.ok (.enter 75 vs) w := QY Tryz.func75 (by kernel_rfl) (by kernel_rfl) vs w
theorem GE (vs : Array Value) (w : World) : (callFunc 118 vs).run Tryz.prog w=.ok (.enter 118 vs) w := QY Tryz.func118 (by kernel_rfl) (by kernel_rfl) vs w
theorem Gn (vs : Array Value) (w : World) : (callFunc 72 vs).run Tryz.prog w=.ok (.enter 72 vs) w := QY Tryz.func72 (by kernel_rfl) (by kernel_rfl) vs w
theorem Te (vs : Array Value) (w : World) : (callFunc 17 vs).run Tryz.prog w=.ok (.enter 17 vs) w := QY Tryz.func17 (by kernel_rfl) (by kernel_rfl) vs w
theorem MK {z : Int} (h1 : -9223372036854775808 < z) (h2 : z < 9223372036854775808) : Con Tryz.prog QZ 75 [In z] (Qv (z : Rat)) := fun w vs _ h => by
 obtain ⟨v0,rfl,h0⟩ := Xu h
 cases h0
 exact (Oe z h1 h2 w).mono fun e w' ⟨hb,v,e1,h⟩ => ⟨hb,v,e1,h⟩
theorem LF {x y : Rat} {k l : Nat} (fx : QS k x) (fy : QS l y) (hk : k+l+1≤35184372088640) : Con Tryz.prog QZ 118 [Qv x,Qv y] (Qv (x / y)) := fun w vs _ h => by
 obtain ⟨p,q,rfl,h0,h1⟩ := Yi h
 exact (RQ h0 h1 fx fy hk).mono fun e w' ⟨hb,v,e1,h⟩ => ⟨hb,v,e1,h⟩
theorem AF {x : Rat} {k : Nat} (fx : QS k x) (hk : k≤35184372088640) : Con Tryz.prog QZ 72 [Qv x] (Tt x) := fun w vs hp h => by
 obtain ⟨v0,rfl,h0⟩ := Xu h
 exact (KF h0 fx hk hp.1).mono fun e w' ⟨hb,s,e1,h⟩ => ⟨hb,_,e1,s,rfl,h⟩
theorem con_T {x : Rat} {k : Nat} (fx : QS k x) (h : k≤35184372088640) : Con Tryz.prog QZ 17 [Rt x] (Tt x) := fun w vs hp hall => by
 obtain ⟨v0,rfl,h1⟩ := Xu hall
 obtain ⟨g,rfl,h1⟩ := h1
 refine (Mf h1 fx h).mono ?_
 rintro _ w' ⟨hb,rfl⟩
 exact ⟨hb,_,rfl,_,rfl,by simp⟩
theorem EH {x y : Rat} (x0 x1 : Operand) (w : World) (ρ : Operand→Value) (h : All2 w [Qv x,Qv y] (((#[(0,x0),(1,x1)] : Array (Nat × Operand)).toList.map (·.2)).map ρ)) : ∃ v,(Instr.build 61 ((#[(0,x0),(1,x1)] : Array (Nat × Operand)).map fun (i,x) => (i,ρ x))).run Tryz.prog w=.ok v w∧(Wv x y).on v w := by
 have h' : All2 w [Qv x,Qv y] [ρ x0,ρ x1] := h
 obtain ⟨c,e0⟩ := JC h'.1
 obtain ⟨d,e1⟩ := JC h'.2.1
 refine ⟨.agg #[.bool c.n,.slice c.u c.nu c.cu,.slice c.l c.nl c.cl,.bool d.n,.slice d.u d.nu d.cu,.slice d.l d.nl d.cl],?_,c,d,rfl,e0 ▸ h'.1,e1 ▸ h'.2.1⟩
 clear h h'
 simp [go_sem,e0,e1]
theorem AS.retTT {P : Program} {fn : Func} {R : Ending→World→Prop} {w0 : World} {n : Nat} {tm : List (Nat × Fact)} {bx : List (Nat × TypeId × Fact)} {a : Act} {w : World} (h : AS w0 n tm bx a w) (k k2 : Nat) {t t2 : Tmp} {F F2 : Fact} (hr : fn.results=#[.tmp t,.tmp t2]) (hk : tm[k]? = some (t,F)) (hk2 : tm[k2]? = some (t2,F2)) (hR : ∀ v v2,F.on v w→F2.on v2 w→R (.returned (.tuple #[v,v2])) w) : bodyPost P fn R .ret a w :=
 ⟨h.nod,.tuple #[a.tmps.getD t undef,a.tmps.getD t2 undef],by unfold results; rw [hr]; simp [go_sem],hR _ _ (h.tmp t F (List.mem_of_getElem? hk)) (h.tmp t2 F2 (List.mem_of_getElem? hk2))⟩
end Go.Proofs.YtnhplfjlhdpgoaaGreatDoor
/- VV -/
namespace Go.Proofs.YtnhplfjlhdpgoaaGreatDoor
open Go.RowKit Cx
def prS : List (FuncId × Nat) := [(26,0),(72,1),(103,2),(64,3),(65,4),(118,5),(110,6),(62,7),(75,8),(157,9),(122,12),(63,13),(61,14),(121,15)]
def Closed (f : FuncId) : Prop := ∀ w,QZ w→Calls Tryz.prog f #[] w fun e w' => Below w.heap.size w w'∧e=.returned (.bool true)
def prC (cl : List FuncId) : List (FuncId × Nat) := prS ++ cl.map fun f => (f,40)
theorem Wr {f c : Nat} : ∀ {l : List (FuncId × Nat)},Ir f l=some c→(f,c) ∈ l
 | [],h => by cases h
 | (g,d) :: l,h => by
  unfold Ir at h
  cases e : Nat.beq f g with
  | true =>
   rw [e] at h
   cases h
   rw [Nat.beq_eq] at e
   rw [e]
   exact List.mem_cons_self
  | false =>
   rw [e] at h
   exact List.mem_cons_of_mem _ (Wr h)
theorem AX (a b : ByteArray) : a.toList=b.toList ↔ a=b := by
 constructor
 ·intro h
  rw [Go.ByteArray.toList_eq,Go.ByteArray.toList_eq] at h
  exact ByteArray.ext (Array.ext' h)
 ·intro h
  rw [h]
section
variable {N : List Nd} {H : List (Nat × Nat × Nat × Nat)} {K : List (FuncId × List AC)} {L C : List (List Nat × Nat)} {Z : List Nat} {q : Nat→Rat} {σ : Nat→ByteArray} {w0 : World} {cl : List FuncId}
theorem prim_40 {pr : List (FuncId × Nat)} {f : FuncId} (hp : QZ w0) (hf : Closed f) : JA N H K L C Z pr q σ w0 40 f := by
 refine ZD (fun _ _ _ => rfl) fun args v hv γ w vs hi hA => ?_
 have hpre : QZ w := ⟨hp.1.below hi.bel,hp.2.below hi.bel⟩
 unfold arg0 at hv
 split at hv
 ·cases hv
  match vs,hA with
  | [],_ =>
   refine (hf w hpre).mono ?_
   rintro _ w' ⟨hb,rfl⟩
   exact ⟨hb,_,rfl,Zk ⟨rfl,rfl⟩⟩
 ·cases hv
theorem primMem (Y : Hy N H L C Z q σ) (hp : QZ w0) (hc : ∀ f ∈ cl,Closed f) {pr : List (FuncId × Nat)} {f c : Nat} (hm : (f,c) ∈ prC cl) : JA N H K L C Z pr q σ w0 c f := by
 rcases List.mem_append.1 hm with hm | hm
 ·simp only [prS,List.mem_cons,List.not_mem_nil,or_false,Prod.mk.injEq] at hm
  rcases hm with ⟨rfl,rfl⟩ | ⟨rfl,rfl⟩ | ⟨rfl,rfl⟩ | ⟨rfl,rfl⟩ | ⟨rfl,rfl⟩ | ⟨rfl,rfl⟩ | ⟨rfl,rfl⟩ | ⟨rfl,rfl⟩ | ⟨rfl,rfl⟩ | ⟨rfl,rfl⟩ | ⟨rfl,rfl⟩ | ⟨rfl,rfl⟩ | ⟨rfl,rfl⟩ | ⟨rfl,rfl⟩
  ·exact prim_0 Y hp
  ·exact prim_1 Y hp
  ·exact prim_2 Y hp
  ·exact prim_3 Y hp
  ·exact prim_4 Y hp
  ·exact prim_5 Y hp
  ·exact prim_6 Y hp
  ·exact prim_7 Y hp
  ·exact prim_8 Y hp
  ·exact prim_9 Y hp
  ·exact prim_12 Y hp
  ·exact prim_13 Y hp
  ·exact prim_14 Y hp
  ·exact prim_15 Y hp
 ·obtain ⟨g,hg,e⟩ := List.mem_map.1 hm
  cases e
  exact prim_40 hp (hc _ hg)
theorem hdB_prC : hdB (prC cl)=false := by
 show List.any (_ ++ _) _=false
 rw [List.any_append,List.any_map]
 have h1 : (prS.any fun x => Nat.beq x.2 99)=false := by decide
 have h2 : cl.any ((fun x : FuncId × Nat => Nat.beq x.2 99) ∘ fun f => (f,40))=false := by simp
 rw [h1,h2]
 rfl
theorem primOk (Y : Hy N H L C Z q σ) (hp : QZ w0) (hc : ∀ f ∈ cl,Closed f) : Om (sx Tryz.prog N H K L C Z (prC cl)) (evS q σ) w0 := ⟨fun h => absurd h (by rw [hdB_prC]; decide),fun _ _ h => primMem Y hp hc (Wr h)⟩
theorem Sg (a0 a1 b0 b1 : ByteArray) (x y : Operand) (w : World) : (do eqGuard .eql 71 x y (.agg #[.string a0,.string a1]) (.agg #[.string b0,.string b1]); binOp .eql 71 (.agg #[.string a0,.string a1]) (.agg #[.string b0,.string b1]) : Sem Value).run Tryz.prog w=.ok (.bool (decide ([a0,a1]=[b0,b1]))) w := by
 simp [go_sem,AX]
 (repeat' split) <;> simp_all
theorem Bq (a0 a1 b0 b1 : ByteArray) (x y : Operand) (w : World) : (do eqGuard .neq 71 x y (.agg #[.string a0,.string a1]) (.agg #[.string b0,.string b1]); binOp .neq 71 (.agg #[.string a0,.string a1]) (.agg #[.string b0,.string b1]) : Sem Value).run Tryz.prog w=.ok (.bool ((!decide ([a0,a1]=[b0,b1])))) w := by
 simp [go_sem,AX]
 (repeat' split) <;> simp_all
theorem knows (Y : Hy N H L C Z q σ) {pr : List (FuncId × Nat)} : Knows (sx Tryz.prog N H K L C Z pr) (evS q σ) where
 k0 := Y.k0
 k1 := Y.k1
 k2 := Y.k2
 k3 := Y.k3
 k4 := Y.k4
 k5 := Y.k5
 k7 := fun a b c h => Y.nd h
 k8 := fun a b c h => Y.nd h
 k9 := fun a b c h => Y.nd h
 k10 := fun a b i j n h => by
  rw [show (evS q σ).q n=YV σ q (7,[a,b,i,j]) from Y.nd h]
  show (if Yo (q a)=σ i∧Yo (q b)=σ j then (0 : Rat) else 1)=0 ↔ _
  split
  ·rename_i hh
   exact iff_of_true rfl hh
  ·rename_i hh
   exact iff_of_false (by decide) hh
 z0 := fun t i ht hi => by
  have e : t=35 := Nat.eq_of_beq_eq_true ht
  subst e
  refine ⟨[.bool false,.slice none 0 0,.bool false,.slice none 0 0],by kernel_rfl,fun w => ?_⟩
  show PR _ _ (q i)
  rw [Y.zero i hi]
  exact ⟨_,rfl,RV.nought w⟩
 x4 := fun _ _ _ => Iff.rfl
 x5 := fun _ _ _ h => h
 x6 := fun _ _ _ h => h
 x7 := fun _ _ _ => Iff.rfl
 xp := fun _ _ _ ⟨_,e,_⟩ => ⟨_,e⟩
 c0 := fun _ _ h => Ry Y h
 tne := HJ
 tin := fun _ _ h => Py h
 eqs := fun t n ht hn a b ha hb x y w => by
  have hm : (t,n) ∈ eqS := Wr ht
  simp only [eqS,List.mem_cons,List.not_mem_nil,or_false,Prod.mk.injEq] at hm
  rcases hm with ⟨rfl,rfl⟩
  ·match a,ha,b,hb with
   | [a0,a1],_,[b0,b1],_ => exact ⟨Sg a0 a1 b0 b1 x y w,Bq a0 a1 b0 b1 x y w⟩
 eqz := fun t n ht l m hl hm x y w => by
  have hh : (t,n+1000) ∈ eqS := Wr ht
  simp only [eqS,List.mem_cons,List.not_mem_nil,or_false,Prod.mk.injEq] at hh
  rcases hh with ⟨et,hn⟩
  ·omega
def wfN (k : Nat) (nd : Nd) : Bool := match nd.1,nd.2 with
 | 0,_ => true
 | 1,_ => true
 | 8,_ :: xs => xs.all (Nat.blt · k)
 | _,xs => xs.all (Nat.blt · k)
def wfB : Nat→List Nd→Bool
 | _,[] => true
 | k,nd :: ns => wfN k nd && wfB (k+1) ns
theorem Mp {k : Nat} {nd : Nd} {p p' : Nat→Rat} (hw : wfN k nd=true) (h : ∀ a,a < k→p a=p' a) : YV σ p nd=YV σ p' nd := by
 obtain ⟨op,xs⟩ := nd
 have key : xs.all (Nat.blt · k)=true→∀ x ∈ xs,p x=p' x := fun hx x hm => h x (by
  rw [List.all_eq_true] at hx
  simpa [Nat.blt_eq] using hx x hm)
 unfold YV
 unfold wfN at hw
 dsimp only at hw ⊢
 split
 ·rfl
 ·rfl
 ·have := key hw; rw [this _ (by simp),this _ (by simp)]
 ·have := key hw; rw [this _ (by simp),this _ (by simp)]
 ·have := key hw; rw [this _ (by simp),this _ (by simp)]
 ·have := key hw; rw [this _ (by simp)]
 ·have := key hw; rw [this _ (by simp),this _ (by simp)]
 ·have := key hw; rw [this _ (by simp),this _ (by simp)]
 ·rename_i i ys
  have hw' : ys.all (Nat.blt · k)=true := hw
  have hm : ys.map p=ys.map p' := List.map_congr_left fun x hx => h x (by
   rw [List.all_eq_true] at hw'
   simpa [Nat.blt_eq] using hw' x hx)
  rw [hm]
 ·have := key hw; rw [this _ (by simp)]
 ·have := key hw; rw [this _ (by simp)]
 ·have := key hw; rw [this _ (by simp),this _ (by simp)]
 ·rfl
theorem Eo : ∀ {ns : List Nd} {k i : Nat} {nd : Nd},wfB k ns=true→ns[i]? = some nd→wfN (k+i) nd=true
 | [],_,_,_,_,h => by simp at h
 | n :: ns,k,0,nd,hw,h => by
  have : n=nd := by simpa using h
  subst this
  unfold wfB at hw
  rw [Bool.and_eq_true] at hw
  exact hw.1
 | n :: ns,k,i+1,nd,hw,h => by
  unfold wfB at hw
  rw [Bool.and_eq_true] at hw
  have := Eo hw.2 (i := i) (nd := nd) (by simpa using h)
  rwa [show k+1+i=k+(i+1) by omega] at this
def Ap : List Nat→Nat
 | [] => 0
 | a :: l => Nat.max a (Ap l)
def MI (Z : List Nat) : List Nat→Option (List Nat)
 | [] => some []
 | a :: l => Z[a]?.bind fun z => (MI Z l).map fun zs => z :: zs
def szN (Z : List Nat) (z : Nat) (nd : Nd) : Bool := match nd.1,nd.2 with
 | 0,[_,n,d] => Nat.blt n (2 ^ z) && (Nat.blt 0 d && Nat.blt d (2 ^ z))
 | 1,[_] => Nat.ble 4194309 z
 | 2,[a,b] => (match Z[a]?,Z[b]? with | some x,some y => Nat.ble (x+y+1) z | _,_ => false)
 | 3,[a,b] => (match Z[a]?,Z[b]? with | some x,some y => Nat.ble (x+y+1) z | _,_ => false)
 | 4,[a,b] => (match Z[a]?,Z[b]? with | some x,some y => Nat.ble (x+y) z | _,_ => false)
 | 5,[a] => (match Z[a]? with | some x => Nat.ble x z | _ => false)
 | 6,[a,b] => (match Z[a]?,Z[b]? with | some x,some y => Nat.ble (x+y) z | _,_ => false)
 | 8,i :: xs => (match MI Z xs with | some zs => Nat.blt i xs.length && Nat.ble ((xs.length+1)*Ap zs+1) z | none => false)
 | 9,[a] => (match Z[a]? with | some x => Nat.ble x z | _ => false)
 | 10,[a] => (match Z[a]? with | some x => Nat.ble x z | _ => false)
 | 11,[a,b] => (match Z[a]?,Z[b]? with | some x,some y => Nat.ble (x+y) z | _,_ => false)
 | _,_ => false
def szB (Z : List Nat) : List Nd→List Nat→Bool
 | [],[] => true
 | nd :: ns,z :: zs => (szN Z z nd && Nat.ble z 1000000000000) && szB Z ns zs
 | _,_ => false
theorem Do {Z : List Nat} : ∀ {ns : List Nd} {zs : List Nat} {i z : Nat},szB Z ns zs=true→zs[i]? = some z→∃ nd,ns[i]? = some nd∧szN Z z nd=true∧z≤1000000000000
 | [],[],_,_,_,h => by simp at h
 | [],_ :: _,_,_,h,_ => by cases h
 | _ :: _,[],_,_,h,_ => by cases h
 | nd :: ns,z' :: zs,0,z,h,e => by
  have : z'=z := by simpa using e
  subst this
  unfold szB at h
  simp only [Bool.and_eq_true,Nat.ble_eq] at h
  exact ⟨nd,rfl,h.1.1,h.1.2⟩
 | nd :: ns,z' :: zs,i+1,z,h,e => by
  unfold szB at h
  rw [Bool.and_eq_true] at h
  simpa using Do h.2 (i := i) (z := z) (by simpa using e)
theorem Ec {Z : List Nat} : ∀ {ns : List Nd} {zs : List Nat},szB Z ns zs=true→zs.length=ns.length
 | [],[],_ => rfl
 | [],_ :: _,h => by cases h
 | _ :: _,[],h => by cases h
 | nd :: ns,z' :: zs,h => by
  unfold szB at h
  rw [Bool.and_eq_true] at h
  rw [List.length_cons,List.length_cons,Ec h.2]
theorem le_maxL {l : List Nat} : ∀ x ∈ l,x≤Ap l := by
 induction l with
 | nil => simp
 | cons a l ih =>
  intro x hx
  unfold Ap
  rcases List.mem_cons.1 hx with rfl | hx
  ·exact Nat.le_max_left _ _
  ·exact Nat.le_trans (ih x hx) (Nat.le_max_right _ _)
theorem GW {Z : List Nat} : ∀ {xs zs : List Nat},MI Z xs=some zs→∀ x ∈ xs,∃ z ∈ zs,Z[x]? = some z
 | [],zs,h,x,hx => by cases hx
 | a :: l,zs,h,x,hx => by
  unfold MI at h
  simp only [Option.bind_eq_some_iff,Option.map_eq_some_iff] at h
  obtain ⟨z,h1,ys,h2,rfl⟩ := h
  rcases List.mem_cons.1 hx with rfl | hx
  ·exact ⟨z,List.mem_cons_self,h1⟩
  ·obtain ⟨z',h3,h4⟩ := GW h2 x hx
   exact ⟨z',List.mem_cons_of_mem _ h3,h4⟩
theorem QS.facN {Kz : Nat} {qs : List Rat} {x : Rat} (f : ∀ y ∈ qs,QS Kz y) (h : x ∈ qs) : QS ((qs.length+1)*Kz+1) (x*fac qs) := by
 have hk : 0 < Kz := (f x h).pos
 have hd := fac_den h
 have ha := fac_abs h
 constructor
 ·rw [ha]
  have h1 : x.num.natAbs / gN qs≤x.num.natAbs := Nat.div_le_self _ _
  have h2 : lD qs / x.den≤lD qs := Nat.div_le_self _ _
  have h3 := (f x h).num
  have h4 := lD_le f qs.length
  rw [List.take_length] at h4
  have h5 : x.num.natAbs / gN qs*(lD qs / x.den)≤x.num.natAbs*2 ^ (qs.length*Kz) := Nat.mul_le_mul h1 (Nat.le_trans h2 h4)
  have h6 : x.num.natAbs*2 ^ (qs.length*Kz) < 2 ^ Kz*2 ^ (qs.length*Kz) := Nat.mul_lt_mul_of_pos_right h3 (Nat.pow_pos (by decide))
  have h7 : 2 ^ Kz*2 ^ (qs.length*Kz)=2 ^ ((qs.length+1)*Kz) := by rw [← Nat.pow_add]; congr 1; rw [Nat.succ_mul]; omega
  have h8 : 2 ^ ((qs.length+1)*Kz)≤2 ^ ((qs.length+1)*Kz+1) := Nat.pow_le_pow_right (by decide) (Nat.le_succ _)
  omega
 ·rw [hd]
  exact Nat.one_lt_two_pow (by omega)
theorem QS.const {s n d z : Nat} (h1 : n < 2 ^ z) (h0 : 0 < d) (h2 : d < 2 ^ z) : QS z (if s=0 then mkRat (n : Int) d else mkRat (-(n : Int)) d) := by
 have key : ∀ m : Int,m.natAbs=n→QS z (mkRat m d) := fun m hm => by
  constructor
  ·rw [Rat.num_mkRat]
   refine Nat.lt_of_le_of_lt ?_ h1
   rw [← hm]
   have := Int.natAbs_ediv_le_natAbs m (d.gcd m.natAbs)
   rw [if_neg (by omega)]
   first | exact this | (rw [Nat.gcd_comm] at this; exact this)
  ·rw [Rat.den_mkRat]
   rw [if_neg (by omega)]
   exact Nat.lt_of_le_of_lt (Nat.div_le_self _ _) h2
 split
 ·exact key _ (by simp)
 ·exact key _ (by simp)
theorem QS.whole {k : Nat} {z : Int} (h0 : 0 < k) (h : z.natAbs < 2 ^ k) : QS k (z : Rat) := ⟨by rw [Rat.num_intCast]; exact h,by rw [Rat.den_intCast]; exact Nat.one_lt_two_pow (by omega)⟩
theorem QS.up {k : Nat} {x : Rat} (h : QS k x) : QS k (x.num : Rat) := QS.whole h.pos h.num
theorem QS.low {k : Nat} {x : Rat} (h : QS k x) : QS k ((x.den : Int) : Rat) := QS.whole h.pos (by rw [Int.natAbs_natCast]; exact h.den)
theorem QS.fl {k : Nat} {x : Rat} (h : QS k x) : QS k ((flq x : Int) : Rat) := QS.whole h.pos (Nat.lt_of_le_of_lt (Int.natAbs_ediv_le_natAbs _ _) h.num)
theorem Sz {σ : Nat→ByteArray} (hσ : ∀ j,(σ j).size≤1048576) (hw : wfB 0 N=true) (hz : szB Z N Z=true) (hq : ∀ (a : Nat) nd,N[a]? = some nd→q a=YV σ q nd) (h0 : ∀ a,N.length≤a→q a=0) : (∀ (a : Nat) z,Z[a]? = some z→QS z (q a))∧∀ a,QS 1000000000000 (q a) := by
 have h1 : ∀ (a : Nat) z,Z[a]? = some z→QS z (q a) := by
  intro a
  induction a using Nat.strongRecOn with
  | ind a ih =>
   intro z hz'
   obtain ⟨nd,hn,hs,_⟩ := Do hz hz'
   have hwf := Eo hw hn
   rw [Nat.zero_add] at hwf
   rw [hq a nd hn]
   obtain ⟨op,xs⟩ := nd
   unfold szN at hs
   unfold YV
   unfold wfN at hwf
   dsimp only at hs hwf ⊢
   split at hs
   ·simp only [Bool.and_eq_true] at hs
    exact QS.const (by simpa [Nat.blt_eq] using hs.1) (by simpa [Nat.blt_eq] using hs.2.1) (by simpa [Nat.blt_eq] using hs.2.2)
   ·rw [Nat.ble_eq] at hs
    rename_i j
    exact QS.mono (QS.rd _) (by have := hσ j; rw [MR]; omega)
   ·simp only [List.all_cons,List.all_nil,Bool.and_true,Bool.and_eq_true] at hwf
    split at hs
    ·rename_i x y hx hy
     rw [Nat.ble_eq] at hs
     exact ((ih _ (by simpa [Nat.blt_eq] using hwf.1) x hx).add (ih _ (by simpa [Nat.blt_eq] using hwf.2) y hy)).mono hs
    ·cases hs
   ·simp only [List.all_cons,List.all_nil,Bool.and_true,Bool.and_eq_true] at hwf
    split at hs
    ·rename_i x y hx hy
     rw [Nat.ble_eq] at hs
     exact ((ih _ (by simpa [Nat.blt_eq] using hwf.1) x hx).sub (ih _ (by simpa [Nat.blt_eq] using hwf.2) y hy)).mono hs
    ·cases hs
   ·simp only [List.all_cons,List.all_nil,Bool.and_true,Bool.and_eq_true] at hwf
    split at hs
    ·rename_i x y hx hy
     rw [Nat.ble_eq] at hs
     exact ((ih _ (by simpa [Nat.blt_eq] using hwf.1) x hx).mul (ih _ (by simpa [Nat.blt_eq] using hwf.2) y hy)).mono hs
    ·cases hs
   ·simp only [List.all_cons,List.all_nil,Bool.and_true] at hwf
    split at hs
    ·rename_i x hx
     rw [Nat.ble_eq] at hs
     exact ((ih _ (by simpa [Nat.blt_eq] using hwf) x hx).neg).mono hs
    ·cases hs
   ·simp only [List.all_cons,List.all_nil,Bool.and_true,Bool.and_eq_true] at hwf
    split at hs
    ·rename_i x y hx hy
     rw [Nat.ble_eq] at hs
     exact ((ih _ (by simpa [Nat.blt_eq] using hwf.1) x hx).div (ih _ (by simpa [Nat.blt_eq] using hwf.2) y hy)).mono hs
    ·cases hs
   ·rename_i i ys
    split at hs
    ·rename_i zs hzs
     simp only [Bool.and_eq_true,Nat.ble_eq] at hs
     have hi : i < ys.length := by simpa [Nat.blt_eq] using hs.1
     have hall : ∀ y ∈ ys.map q,QS (Ap zs) y := fun y hy => by
      obtain ⟨b,hb,rfl⟩ := List.mem_map.1 hy
      obtain ⟨z',hm,hz2⟩ := GW hzs b hb
      have hwf' : ys.all (Nat.blt · a)=true := hwf
      rw [List.all_eq_true] at hwf'
      exact (ih b (by simpa [Nat.blt_eq] using hwf' b hb) z' hz2).mono (le_maxL z' hm)
     show QS z ((ys.map q).getD i 0*fac (ys.map q))
     rw [List.getD_eq_getElem?_getD,List.getElem?_map,List.getElem?_eq_getElem hi]
     have := QS.facN hall (x := q ys[i]) (List.mem_map_of_mem (List.getElem_mem hi))
     rw [List.length_map] at this
     exact this.mono hs.2
    ·cases hs
   ·simp only [List.all_cons,List.all_nil,Bool.and_true] at hwf
    split at hs
    ·rename_i x hx
     rw [Nat.ble_eq] at hs
     exact ((ih _ (by simpa [Nat.blt_eq] using hwf) x hx).up).mono hs
    ·cases hs
   ·simp only [List.all_cons,List.all_nil,Bool.and_true] at hwf
    split at hs
    ·rename_i x hx
     rw [Nat.ble_eq] at hs
     exact ((ih _ (by simpa [Nat.blt_eq] using hwf) x hx).low).mono hs
    ·cases hs
   ·simp only [List.all_cons,List.all_nil,Bool.and_true,Bool.and_eq_true] at hwf
    split at hs
    ·rename_i x y hx hy
     rw [Nat.ble_eq] at hs
     exact (((ih _ (by simpa [Nat.blt_eq] using hwf.1) x hx).div (ih _ (by simpa [Nat.blt_eq] using hwf.2) y hy)).fl).mono hs
    ·cases hs
   ·cases hs
 refine ⟨h1,fun a => ?_⟩
 have hl := Ec hz
 by_cases ha : a < Z.length
 ·obtain ⟨nd,_,_,hle⟩ := Do hz (List.getElem?_eq_getElem ha)
  exact (h1 a _ (List.getElem?_eq_getElem ha)).mono hle
 ·rw [h0 a (by omega)]
  exact QS.zero.mono (by decide)
def hAt (q : Nat→Rat) : Nat × Nat × Nat × Nat→Prop
 | (k,a,b,r) => match k with
  | 0 => Nat.beq 1 r=true ↔ q a=0
  | 1 => Nat.beq 1 r=true ↔ q a < 0
  | 2 => Nat.beq 1 r=true ↔ 0 < q a
  | 3 => Nat.beq 1 r=true ↔ q a=q b
  | 4 => Nat.beq 1 r=true ↔ q a=q b
  | 6 => Nat.beq 1 r=true ↔ (q a=0∧q b=0)
  | 5 => (r=0→q a < 0)∧(r=1→q a=0)∧(r=2→0 < q a)
  | _ => False
def hAll (q : Nat→Rat) : List (Nat × Nat × Nat × Nat)→Prop
 | [] => True
 | x :: l => hAt q x∧hAll q l
theorem Td {k a b r : Nat} : ∀ {H : List (Nat × Nat × Nat × Nat)},hAll q H→YO k a b H=some r→hAt q (k,a,b,r)
 | [],_,h => by cases h
 | (k',a',b',r') :: H,hH,h => by
  unfold YO at h
  cases e : (Nat.beq k k' && (Nat.beq a a' && Nat.beq b b')) with
  | true =>
   rw [e] at h
   cases h
   simp only [Bool.and_eq_true,Nat.beq_eq] at e
   rw [e.1,e.2.1,e.2.2]
   exact hH.1
  | false =>
   rw [e] at h
   exact Td hH.2 h
def cst (s n d : Nat) : Rat := if s=0 then mkRat (n : Int) d else mkRat (-(n : Int)) d
def litB (N : List Nd) (L : List (List Nat × Nat)) : Bool := L.all fun x => match N[x.2]? with
 | some (0,[s,n,d]) => decide (rd (x.1.map UInt8.ofNat)=cst s n d) && (Nat.ble x.1.length 4294967280 && x.1.all (Nat.blt · 256))
 | _ => false
def canB (N : List Nd) (L : List (List Nat × Nat)) : Bool := L.all fun x => match N[x.2]? with
 | some (0,[s,n,d]) => OZ ((tx (cst s n d)).map UInt8.toNat) x.1
 | _ => false
theorem US {l : List Nat} {b : Nat} : ∀ {L : List (List Nat × Nat)},XU l L=some b→(l,b) ∈ L
 | [],h => by cases h
 | (m,i) :: L,h => by
  unfold XU at h
  cases e : OZ l m with
  | true =>
   rw [e] at h
   cases h
   rw [WJ e]
   exact List.mem_cons_self
  | false =>
   rw [e] at h
   exact List.mem_cons_of_mem _ (US h)
theorem lit_rd (hl : litB N L=true) (hq : ∀ (a : Nat) nd,N[a]? = some nd→q a=YV σ q nd) {s : ByteArray} {b : Nat} (h : XU (ZV s) L=some b) : q b=rd s.data.toList∧s.size≤4294967280 := by
 unfold litB at hl
 rw [List.all_eq_true] at hl
 have := hl _ (US h)
 dsimp only at this
 split at this
 ·rename_i s' n d hn
  rw [Bool.and_eq_true,decide_eq_true_eq,Bool.and_eq_true,Nat.ble_eq] at this
  obtain ⟨h1,h2,_⟩ := this
  have e : (ZV s).map UInt8.ofNat=s.data.toList := by
   unfold ZV
   rw [List.map_map]
   conv => rhs; rw [← List.map_id s.data.toList]
   apply List.map_congr_left
   intro x _
   simp
  constructor
  ·rw [hq b _ hn,← e,h1]
   rfl
  ·have : (ZV s).length=s.size := by
    unfold ZV
    rw [List.length_map]
    simp
   omega
 ·cases this
theorem can_tx (hl : canB N C=true) (hq : ∀ (a : Nat) nd,N[a]? = some nd→q a=YV σ q nd) {l : List Nat} {b : Nat} (h : XU l C=some b) : ZV (Yo (q b))=l := by
 unfold canB at hl
 rw [List.all_eq_true] at hl
 have := hl _ (US h)
 dsimp only at this
 split at this
 ·rename_i s n d hn
  rw [hq b _ hn]
  have e := WJ this
  unfold ZV Yo
  rw [List.toList_toArray]
  exact e
 ·cases this
theorem hy_of {H : List (Nat × Nat × Nat × Nat)} (hσ : ∀ j,(σ j).size≤1048576) (hw : wfB 0 N=true) (hz : szB Z N Z=true) (hl : litB N L=true) (hcn : canB N C=true) (hq : ∀ (a : Nat) nd,N[a]? = some nd→q a=YV σ q nd) (h0 : ∀ a,N.length≤a→q a=0) (hH : hAll q H) : Hy N H L C Z q σ where
 nat := hq
 qs := (Sz hσ hw hz hq h0).2
 zs := (Sz hσ hw hz hq h0).1
 par := hσ
 lit := fun s b h => lit_rd hl hq h
 k0 := fun a r h => Td hH h
 k1 := fun a r h => Td hH h
 k2 := fun a r h => Td hH h
 k3 := fun a b r h => Td hH h
 k4 := fun l a b r h1 h2 => by
  have h3 : Nat.beq 1 r=true ↔ q a=q b := Td hH h2
  rw [h3,← can_tx hcn hq h1]
  exact ⟨fun e => by rw [e],fun e => Py (OA e)⟩
 k6 := fun a b r h => Td hH h
 k5 := fun a r h => Td hH h
theorem Lz {f : FuncId} {args : List AV} {vs : List Value} {k : Nat} {p : List HB × Nat} {b : Bool} (Y : Hy N H L C Z q σ) (hc : ∀ f ∈ cl,Closed f) (hm : (Tryz.prog).follows .mixedOrders=true) (hr : GR (sx Tryz.prog N H K L C Z (prC cl)) k f args [] 0=some (kB b,p)) {w : World} (hp : QZ w)
  (hA : A2 (avOn (cOn (evS q σ) K (fun _ => none) w)) args vs) : Calls Tryz.prog f vs.toArray w fun e w' => Below w.heap.size w w'∧e=.returned (.bool b) := by
 refine (FP (S := sx Tryz.prog N H K L C Z (prC cl)) (E := evS q σ) (w0 := w) hm (knows Y) (primOk Y hp hc) k f args [] 0 (kB b,p) hr (fun _ => none) w vs ⟨Below.refl _ _,(fun _ _ h => by cases h)⟩ hA (fun x hx => by cases hx) (fun x hx => by cases hx) (fun _ _ _ => rfl)).mono ?_
 rintro _ w' ⟨r,γ',rfl,hef,hv,_⟩
 exact ⟨hef.wi.bel,by rw [show r=.bool b from (Za (v := kB b) (c := .inl (.bool b)) rfl hv).1]⟩
end
end Go.Proofs.YtnhplfjlhdpgoaaGreatDoor
