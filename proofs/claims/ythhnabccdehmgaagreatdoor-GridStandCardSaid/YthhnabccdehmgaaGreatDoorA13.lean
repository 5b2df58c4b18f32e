/- Part 13 of the walks and of the mathematics under them: BQ BR BS BV BW BX BY BZ RA RB RC RD RF RG RK BQU BGC BGD BGE BPL RBS BPM BPN MathZ VQ VS BNN BNO BNM WHL. -/
import Derived.Test.YthhnabccdehmgaaGreatDoorA10
import Derived.Deep.RegionWith
import Derived.Test.YthhnabccdehmgaaGreatDoorA7
import Derived.Laws.OwnMore
import Derived.Laws.IdiomStrings
import Derived.Test.YthhnabccdehmgaaGreatDoorASh
import Derived.Shelf.Strings.SlTrimAscii
import Derived.Lib.SlTrimSet
import Derived.Lib.IndexBytes
import Derived.Test.YthhnabccdehmgaaGreatDoorA11
import Derived.Test.YthhnabccdehmgaaGreatDoorA12
import Derived.Deep.DeepCutAuto
import Derived.Deep.LoopGhost
import Derived.Test.YthhnabccdehmgaaGreatDoorA6
import Derived.Test.YthhnabccdehmgaaGreatDoorA8
set_option maxHeartbeats 16000000
set_option maxRecDepth 100000
/- BQ -/
namespace Go.Proofs.YthhnabccdehmgaaGreatDoor
open Go.RowKit Cx
attribute [local go_sem ↓] Go.wp_at_zero Go.wp_at_succ
theorem OH (g : Nat) (w : World) :
  Calls Tryz.prog 24 #[.pointer (some ⟨g,0,none⟩)] w fun e w' => w'=w∧e=.returned (.pointer (some ⟨g,0,none⟩)) := by
 go_enter Tryz.func24,Tryz.ntmps24
 go_wp2
 go_ret
 exact ⟨rfl,rfl⟩
theorem SE (n : Nat) : mkRat (n : Int) 1=(n : Rat) := by
 rw [Rat.mkRat_one]
 rfl
theorem YZ {w : World} {g : Nat} {y0 y1 y2 y3 : Value} (n : Nat) (hn : n < 9223372036854775808) (hk : Blk w g #[y0,y1,y2,y3] 34) (hno : (#[y0,y1,y2,y3] : Array Value).all Qk=true) :
  Calls Tryz.prog 8 #[.pointer (some ⟨g,0,none⟩),.int .i64 n] w fun e w' => e=.returned (.pointer (some ⟨g,0,none⟩))∧Save g w w'∧RV w' g (n : Rat) := by
 have HK := Qb hk
 have LG := Qb hk.lt
 have SN : Hid (Small ((n : Int)).natAbs) := by
  show Small _
  rw [Int.natAbs_natCast]
  exact Qq (k := 63) hn (by decide)
 have S1 : Hid (Small 1) := Qq (k := 1) (by decide) (by decide)
 clear hk
 go_enter Tryz.func8,Tryz.ntmps8
 go_wp2_with fail
 refine (Zw n hn w).mono ?_
 rintro e w1 ⟨hb1,g1,rfl,hg1,ho1⟩
 have HO1 := Qb ho1
 have HB1 := Qb hb1
 clear ho1 hb1
 go_wp2_with fail
 refine (Zw 1 (by decide) w1).mono ?_
 rintro e w2 ⟨hb2,g2,rfl,hg2,ho2⟩
 have HO2 := Qb ho2
 have HO1' := Qb (HO1.out.below hb2)
 have HB2 := Qb (HB1.out.trans (hb2.mono HB1.out.size))
 clear ho2 hb2
 go_wp2_with fail
 refine (Zi (z := (n : Int)) (b := 1) (HK.out.below HB2.out LG.out) hno HO1'.out.iv HO2.out.iv (by decide) SN.out S1.out).mono ?_
 rintro e w3 ⟨rfl,hs,hr⟩
 rw [SE] at hr
 have HR := Qb (And.intro ((Save.of HB2.out).trans hs) hr)
 clear hs hr
 go_wp2
 go_ret
 exact ⟨rfl,HR.out.1,HR.out.2⟩
theorem Ou (n : Nat) (hn : n < 9223372036854775808) (w : World) :
  Calls Tryz.prog 7 #[.int .i64 n] w fun e w' => Below w.heap.size w w'∧∃ g,e=.returned (.pointer (some ⟨g,0,none⟩))∧w.heap.size≤g∧RV w' g (n : Rat) := by
 have hk := Blk.new w #[.bool false,.slice none 0 0,.bool false,.slice none 0 0] 34
 have hb := Qg w (.cells #[.bool false,.slice none 0 0,.bool false,.slice none 0 0] 34)
 go_enter Tryz.func7,Tryz.ntmps7
 go_wp2_with fail
 refine (YZ n hn hk (by simp [Qk])).mono ?_
 rintro e w1 ⟨rfl,hs,hr⟩
 have HR := Qb (And.intro (hb.trans (hs.below (Nat.le_refl _) hb.size)) hr)
 clear hs hr hb hk
 go_wp2
 go_ret
 exact ⟨HR.out.1,w.heap.size,rfl,Nat.le_refl _,HR.out.2⟩
end Go.Proofs.YthhnabccdehmgaaGreatDoor
/- BR -/
namespace Go.Proofs.YthhnabccdehmgaaGreatDoor
open Go.RowKit Cx
attribute [local go_sem ↓] Go.wp_at_zero Go.wp_at_succ
theorem NV {x : Int} (h : -x ≠ 0) : (!decide (x < 0))=decide (-x < 0) := by
 by_cases h1 : x < 0
 ·simp [h1]; omega
 ·simp [h1]; omega
theorem Up {w : World} {g o : Nat} {px : Value} {x : Int} (h : At2 w g o) (hx : IV w px x) (sx : Small x.natAbs) :
  Calls Tryz.prog 109 #[.pointer (some ⟨g,o,none⟩),px] w fun e w' => e=.returned (.pointer (some ⟨g,o,none⟩))∧Gave w g o (-x) w' := by
 obtain ⟨g1,o1,a1,n1,c1,rfl,x0,x1,x2,xl⟩ := hx
 have H := Qb h
 have HX := Qb x2
 have SX := Qb sx
 have HS : Hid (∀ w',Below w.heap.size w w'→w'.cell? ⟨g1,o1,none⟩=some (.bool (decide (x < 0)))∧w'.cell? ⟨g1,o1+1,none⟩=some (.slice a1 n1 c1)) := fun w' hb => ⟨(hb.cell (p := ⟨g1,o1,none⟩) xl).trans x0,(hb.cell (p := ⟨g1,o1+1,none⟩) xl).trans x1⟩
 clear h x2 sx xl
 go_enter Tryz.func109,Tryz.ntmps109
 go_wp2_with fail
 go_region_with (first
  | (go_at_call 111; refine (XO (w := w.drew) (HX.out.below (Below.drew (Below.refl _ _))) SX.out).mono ?_; rintro e w1 ⟨hb1,v1,rfl,hv1⟩; obtain ⟨ao,n,c,rfl,hn,hnb,hnz⟩ := QL hv1; have hbl1 : Below w.heap.size w w1 := (Below.drew (Below.refl _ w)).trans hb1; obtain ⟨u0,u1⟩ := HS.out w1 hbl1)
  | (go_at_call 57; refine (JL (n := n) (ao := ao) (c := c) _ (H.out.below hbl1)).mono ?_; rintro e w2 ⟨rfl,rfl⟩))
 all_goals
  go_wp2
  go_ret
  refine ⟨rfl,w1,ao,n,c,hbl1,?_,by rw [Int.natAbs_neg]; exact hv1⟩
  rw [Vr (z := -x) _ (by rw [Int.natAbs_neg]; exact hnz) NV]
theorem MV (q : Rat) : mkRat q.num q.den=q := Rat.mkRat_self q
theorem Dc {w : World} {g gx : Nat} {y0 y1 y2 y3 : Value} {x : Rat} {k : Nat} (hk : Blk w g #[y0,y1,y2,y3] 34) (hno : (#[y0,y1,y2,y3] : Array Value).all Qk=true) (hx : RV w gx x) (fx : QS k x) (hkl : k≤35184372088640) :
  Calls Tryz.prog 108 #[.pointer (some ⟨g,0,none⟩),.pointer (some ⟨gx,0,none⟩)] w fun e w' => e=.returned (.pointer (some ⟨g,0,none⟩))∧Save g w w'∧RV w' g x := by
 have HX := Qb hx
 have HK := Qb hk
 have LG := Qb hk.lt
 have SX := Qb (Zo fx hkl)
 have DX := Qb (Qq fx.den hkl)
 clear hx hk fx
 go_enter Tryz.func108,Tryz.ntmps108
 go_wp2_with fail
 go_region_held3 (fun _ => True) (trivial)
  (first
   | (go_at_call 60; refine (QW (w := w.drew) (HX.out.below (Below.drew (Below.refl _ _)))).mono ?_; rintro e w1 ⟨hb1,p1,rfl,hv1,_⟩; have hbl1 : Below w.heap.size w w1 := (Below.drew (Below.refl _ w)).trans hb1)
   | (go_at_call 40; refine (Zi (z := x.num) (b := x.den) (HK.out.below hbl1 LG.out) hno (RV.num (HX.out.below hbl1)) hv1 x.den_pos SX.out DX.out).mono ?_; rintro e w2 ⟨rfl,hs,hr⟩)
   )
 all_goals
  go_wp2
  go_ret
  rw [MV] at hr
  exact ⟨rfl,(Save.of hbl1).trans hs,hr⟩
theorem RV.at2 {w : World} {g : Nat} {q : Rat} (h : RV w g q) : At2 w g 0 := by
 obtain ⟨a1,l1,c1,a2,l2,c2,h0,_⟩ := h
 exact ⟨⟨_,h0.cell 0⟩,⟨_,h0.cell 1⟩,h0.frozen 0,h0.frozen 1,h0.lt⟩
theorem RV.neg {w w' : World} {g : Nat} {q : Rat} (h : RV w g q) (hg : Gave w g 0 (-q.num) w') : RV w' g (-q)∧Save g w w' := by
 refine ⟨?_,hg.save⟩
 have hh := h.held
 obtain ⟨a1,l1,c1,a2,l2,c2,h0,h1,h2⟩ := h
 obtain ⟨w1,ao,n,c,hbl,rfl,hn⟩ := hg
 have hb1 := h0.below hbl h0.lt
 have hh1 : XY w1 g := ⟨_,_,hb1,by simp [Qk]⟩
 refine ⟨ao,n,c,a2,l2,c2,?_,?_,?_⟩
 ·have := (hb1.set 1 (.slice ao n c)).set 0 (.bool (decide (-q.num < 0)))
  simpa using this
 ·rw [Rat.neg_num]
  exact hn.two hh1 rfl
 ·rcases h2 with h2 | ⟨e,h2⟩
  ·rw [Rat.neg_den]
   exact Or.inl ((h2.below hbl).two hh1 rfl)
  ·exact Or.inr ⟨e,by rw [h2]; rfl⟩
theorem Ia {w : World} {g gx : Nat} {y0 y1 y2 y3 : Value} {x : Rat} {k : Nat} (hk : Blk w g #[y0,y1,y2,y3] 34) (hno : (#[y0,y1,y2,y3] : Array Value).all Qk=true) (hx : RV w gx x) (fx : QS k x) (hkl : k≤35184372088640) :
  Calls Tryz.prog 55 #[.pointer (some ⟨g,0,none⟩),.pointer (some ⟨gx,0,none⟩)] w fun e w' => e=.returned (.pointer (some ⟨g,0,none⟩))∧Save g w w'∧RV w' g (-x) := by
 have HX := Qb hx
 have HK := Qb hk
 have FX := Qb fx
 have SX := Qb (Zo fx hkl)
 clear hx hk fx
 go_enter Tryz.func55,Tryz.ntmps55
 go_wp2_with fail
 refine (Dc HK.out hno HX.out FX.out hkl).mono ?_
 rintro e w1 ⟨rfl,hs1,hr1⟩
 have HS1 := Qb hs1
 have HR1 := Qb hr1
 clear hs1 hr1
 go_wp2_with fail
 go_region_held3 (fun _ => True) (trivial)
  (first
   | (go_at_call 109; refine (Up (w := w1.drew) (HR1.out.below (Below.drew (Below.refl _ _))).at2 (HR1.out.below (Below.drew (Below.refl _ _))).num SX.out).mono ?_; rintro e w2 ⟨rfl,hg2⟩)
   )
 all_goals
  have hd : Below w1.heap.size w1 w1.drew := Below.drew (Below.refl _ _)
  obtain ⟨hr2,hs2⟩ := (HR1.out.below hd).neg hg2
  go_wp2
  go_ret
  exact ⟨rfl,HS1.out.trans ((Save.of hd).trans hs2),hr2⟩
end Go.Proofs.YthhnabccdehmgaaGreatDoor
/- BS -/
namespace Go.Proofs.YthhnabccdehmgaaGreatDoor
open Go.RowKit Cx
attribute [local go_sem ↓] Go.wp_at_zero Go.wp_at_succ
theorem Yr {w : World} {px py : Value} {x y : Int} (hx : IV w px x) (hy : IV w py y) (sx : Small x.natAbs) (sy : Small y.natAbs) :
  Calls Tryz.prog 64 #[px,py] w fun e w' => Below w.heap.size w w'∧∃ c : Int,e=.returned (.int .i64 c)∧(c < 0 ↔ x < y)∧(c=0 ↔ x=y) := by
 obtain ⟨g1,o1,a1,n1,c1,rfl,x0,x1,x2,xl⟩ := hx
 obtain ⟨g2,o2,a2,n2,c2,rfl,y0,y1,y2,yl⟩ := hy
 have HX := Qb x2
 have HY := Qb y2
 have SX := Qb sx
 have SY := Qb sy
 clear x2 y2 sx sy
 by_cases h1 : x < 0
 ·by_cases h2 : y < 0
  ·have x0' : w.cell? ⟨g1,o1,none⟩=some (.bool true) := by rw [x0,decide_eq_true h1]
   have y0' : w.cell? ⟨g2,o2,none⟩=some (.bool true) := by rw [y0,decide_eq_true h2]
   clear x0 y0
   go_enter Tryz.func64,Tryz.ntmps64
   go_wp2_with fail
   go_quiet (fail)
   go_wp2_with fail
   have HS : Hid (∀ w',Below w.heap.size w w'→(w'.cell? ⟨g1,o1+1,none⟩=some (.slice a1 n1 c1)∧w'.cell? ⟨g2,o2+1,none⟩=some (.slice a2 n2 c2))∧w'.cell? ⟨g1,o1,none⟩=some (.bool true)) := fun w' hb => ⟨⟨(hb.cell (p := ⟨g1,o1+1,none⟩) xl).trans x1,(hb.cell (p := ⟨g2,o2+1,none⟩) yl).trans y1⟩,(hb.cell (p := ⟨g1,o1,none⟩) xl).trans x0'⟩
   go_region_held3 (fun w' => w'.cell? ⟨g1,o1+1,none⟩=some (.slice a1 n1 c1)∧w'.cell? ⟨g2,o2+1,none⟩=some (.slice a2 n2 c2)) (first | go_keep | exact hs1)
    (first
     | (go_at_call 65; refine (UB (HX.out.below (Below.drew (QI (Below.refl _ _) _))) (HY.out.below (Below.drew (QI (Below.refl _ _) _))) SX.out SY.out).mono ?_; rintro e w1 ⟨hb1,c,rfl,hc1,hc2,hc3,hc4⟩; have hbl1 : Below w.heap.size w w1 := (Below.drew (QI (Below.refl _ _) _)).trans hb1; have hs1 := (HS.out w1 hbl1).1; have u0 := (HS.out w1 hbl1).2))
   all_goals
    have HC := Qb (And.intro hc1 hc2)
    clear hc1 hc2
    go_wp2
    go_ret
    obtain ⟨hc1,hc2⟩ := HC.out
    exact ⟨hbl1,-c,by first | rfl | (congr 1; omega),by omega,by omega⟩
  ·have x0' : w.cell? ⟨g1,o1,none⟩=some (.bool true) := by rw [x0,decide_eq_true h1]
   have y0' : w.cell? ⟨g2,o2,none⟩=some (.bool false) := by rw [y0,decide_eq_false h2]
   clear x0 y0
   go_enter Tryz.func64,Tryz.ntmps64
   go_wp2_with fail
   go_quiet (fail)
   go_wp2
   go_ret
   exact ⟨QI (Below.refl _ _) _,-1,rfl,by omega,by omega⟩
 ·by_cases h2 : y < 0
  ·have x0' : w.cell? ⟨g1,o1,none⟩=some (.bool false) := by rw [x0,decide_eq_false h1]
   have y0' : w.cell? ⟨g2,o2,none⟩=some (.bool true) := by rw [y0,decide_eq_true h2]
   clear x0 y0
   go_enter Tryz.func64,Tryz.ntmps64
   go_wp2_with fail
   go_quiet (fail)
   go_wp2
   go_ret
   exact ⟨QI (Below.refl _ _) _,1,rfl,by omega,by omega⟩
  ·have x0' : w.cell? ⟨g1,o1,none⟩=some (.bool false) := by rw [x0,decide_eq_false h1]
   have y0' : w.cell? ⟨g2,o2,none⟩=some (.bool false) := by rw [y0,decide_eq_false h2]
   clear x0 y0
   go_enter Tryz.func64,Tryz.ntmps64
   go_wp2_with fail
   go_quiet (fail)
   go_wp2_with fail
   have HS : Hid (∀ w',Below w.heap.size w w'→(w'.cell? ⟨g1,o1+1,none⟩=some (.slice a1 n1 c1)∧w'.cell? ⟨g2,o2+1,none⟩=some (.slice a2 n2 c2))∧w'.cell? ⟨g1,o1,none⟩=some (.bool false)) := fun w' hb => ⟨⟨(hb.cell (p := ⟨g1,o1+1,none⟩) xl).trans x1,(hb.cell (p := ⟨g2,o2+1,none⟩) yl).trans y1⟩,(hb.cell (p := ⟨g1,o1,none⟩) xl).trans x0'⟩
   go_region_held3 (fun w' => w'.cell? ⟨g1,o1+1,none⟩=some (.slice a1 n1 c1)∧w'.cell? ⟨g2,o2+1,none⟩=some (.slice a2 n2 c2)) (first | go_keep | exact hs1)
    (first
     | (go_at_call 65; refine (UB (HX.out.below (Below.drew (QI (Below.refl _ _) _))) (HY.out.below (Below.drew (QI (Below.refl _ _) _))) SX.out SY.out).mono ?_; rintro e w1 ⟨hb1,c,rfl,hc1,hc2,hc3,hc4⟩; have hbl1 : Below w.heap.size w w1 := (Below.drew (QI (Below.refl _ _) _)).trans hb1; have hs1 := (HS.out w1 hbl1).1; have u0 := (HS.out w1 hbl1).2))
   all_goals
    have HC := Qb (And.intro hc1 hc2)
    clear hc1 hc2
    go_wp2
    go_ret
    obtain ⟨hc1,hc2⟩ := HC.out
    exact ⟨hbl1,c,by first | rfl | (congr 1; omega),by omega,by omega⟩
theorem Rc {w : World} {gx : Nat} {x : Rat} {k : Nat} (hx : RV w gx x) (fx : QS k x) (hkl : k≤35184372088640) :
  Calls Tryz.prog 43 #[.pointer (some ⟨gx,0,none⟩)] w fun e w' => Below w.heap.size w w'∧e=.returned (.bool (decide (x.den=1))) := by
 have HX := Qb hx
 have DX := Qb (Zp fx hkl)
 have S1 : Hid (Small (((1 : Nat) : Int)).natAbs) := Qq (k := 1) (by decide) (by decide)
 clear hx fx
 go_enter Tryz.func43,Tryz.ntmps43
 go_wp2_with fail
 refine (QW HX.out).mono ?_
 rintro e w1 ⟨hb1,p1,rfl,hv1,_⟩
 have HV1 := Qb hv1
 have HB1 := Qb hb1
 clear hv1 hb1
 go_wp2_with fail
 refine (Zw 1 (by decide) w1).mono ?_
 rintro e w2 ⟨hb2,g2,rfl,hg2,ho2⟩
 have HO2 := Qb ho2
 have HV2 := Qb (HV1.out.below hb2)
 have HB2 := Qb (HB1.out.trans (hb2.mono HB1.out.size))
 clear ho2 hb2
 go_wp2_with fail
 refine (Yr HV2.out HO2.out.iv DX.out S1.out).mono ?_
 rintro e w3 ⟨hb3,c,rfl,hc1,hc2⟩
 have HB3 := Qb (HB2.out.trans (hb3.mono HB2.out.size))
 have hd : (c == 0)=decide (x.den=1) := by
  by_cases h : x.den=1
  ·rw [decide_eq_true h,beq_iff_eq]
   exact hc2.2 (by omega)
  ·rw [decide_eq_false h,beq_eq_false_iff_ne]
   exact fun e => h (by have := hc2.1 e; omega)
 have HD := Qb hd
 clear hb3 hc1 hc2 hd
 go_wp2
 go_ret
 exact ⟨HB3.out,by rw [← HD.out]; rfl⟩
end Go.Proofs.YthhnabccdehmgaaGreatDoor
/- BV -/
namespace Go.Proofs.YthhnabccdehmgaaGreatDoor
open Go.RowKit Cx
attribute [local go_sem ↓] Go.wp_at_zero Go.wp_at_succ
theorem FF {w : World} {g n : Nat} {l : List Nat} (h : Row w g l) (hl : Lim l) (hn : l.length=n) (hm : n≤9223372036854775807) :
  Calls Tryz.prog 110 #[.slice (some ⟨g,0,none⟩) n n] w fun e w' => w'=w∧∃ v',e=.returned v'∧NatN w v' (val l)∧∃ n c,v'=.slice (some ⟨g,0,none⟩) n c := by
 subst hn
 have hv := NatV.ofRow h hl (Nat.le_refl _) (Nat.le_refl _) (by unfold maxLen; omega)
 rw [List.take_length] at hv
 by_cases h0 : l.length=0
 ·have := List.length_eq_zero_iff.1 h0
  subst this
  refine (OT (some ⟨g,0,none⟩) 0 w).mono ?_
  rintro e w' ⟨rfl,rfl⟩
  exact ⟨rfl,_,rfl,⟨[],NatV.nil _ _ _,Or.inl rfl,rfl⟩,_,_,rfl⟩
 ·obtain ⟨hl2,⟨rfl,_⟩ | ⟨b,off,cap,e,hc,hm2,hlt,hs⟩⟩ := hv
  ·exact absurd rfl h0
  ·simp only [Value.slice.injEq,Option.some.injEq,Addr.mk.injEq,and_true,true_and] at e
   obtain ⟨⟨rfl,rfl⟩,rfl⟩ := e
   have hv := NatV.ofRow h hl (Nat.le_refl _) (Nat.le_refl _) (by unfold maxLen; omega)
   rw [List.take_length] at hv
   refine (OP g 0 l.length l w hc hm2 hs).mono ?_
   rintro e w' ⟨rfl,rfl⟩
   refine ⟨rfl,_,rfl,⟨strip l,⟨hl.strip,Or.inr ⟨g,0,l.length,by rw [Jv],?_,hm2,hlt,hs.pre _⟩⟩,Yu l,Ue l⟩,_,_,rfl⟩
   rw [Jv]; have := IY l; omega
theorem Dw {w : World} {ao : Option Addr} {ca b1 o1 d : Nat} {la : List Nat} (ha : Sl w 30 ao ca la b1 o1) (hla : la.length≤1099511627776) (hd : 0 < d) (hd2 : d < 4294967296) :
  Calls Tryz.prog 132 #[.slice ao la.length ca,.int .u32 d] w fun e w' => Below w.heap.size w w'∧∃ v,e=.returned (.tuple #[v,.int .u32 (val la % d : Nat)])∧NatN w' v (val la / d)∧∃ n c,v=.slice (some ⟨w.heap.size,0,none⟩) n c := by
 have hmk := ZB (t := 30) (by kernel_rfl) la.length (by omega)
 have HA : Hid (Sl w 30 ao ca la b1 o1) := ha
 clear ha
 go_enter Tryz.func132,Tryz.ntmps132
 go_wp2
 go_loopw [7,8] (fun lf i wr => ∃ (k r : Nat) (cur : List Nat),k≤la.length∧i=.int .i64 ((k : Int) - 1)∧lf=.int .u64 r∧r < d∧Row wr w.heap.size cur∧cur.length=la.length∧Lim cur∧val (la.drop k)=d*val (cur.drop k)+r∧Below w.heap.size w wr) (fun _ i _ => (intOf i+1).toNat)
 case atStart => exact ⟨la.length,0,List.replicate la.length 0,Nat.le_refl _,rfl,rfl,hd,Row.new _ _,by simp,Zj _,by rw [List.drop_length,List.drop_of_length_le (by simp)]; simp [val],Qg _ _⟩
 case round =>
  obtain ⟨k,r,cur,hk,rfl,rfl,hrd,hrow,hcl,hcm,hval,hbel⟩ := hrel
  have HV : Hid (val (la.drop k)=d*val (cur.drop k)+r) := hval
  have HL : Hid (cur.length=la.length) := hcl
  clear hval hcl
  by_cases h0 : k=0
  ·subst h0
   go_wp2_with fail
   refine (FF hrow hcm HL.out (by omega)).mono ?_
   rintro e w' ⟨rfl,v',rfl,hv',nn,cc,rfl⟩
   go_wp2
   go_ret2
   have h1 := HV.out
   rw [List.drop_zero,List.drop_zero] at h1
   have hq : val cur=val la / d := by
    rw [h1,Nat.mul_add_div hd,Nat.div_eq_of_lt hrd,Nat.add_zero]
   have hm2 : val la % d=r := by
    rw [h1,Nat.mul_add_mod,Nat.mod_eq_of_lt hrd]
   rw [hq] at hv'
   rw [hm2]
   refine ⟨hbel,_,by go_num,hv',_,_,rfl⟩
  ·obtain ⟨m,rfl⟩ : ∃ m,k=m+1 := ⟨k - 1,by omega⟩
   rw [show (((m+1 : Nat) : Int) - 1)=(m : Int) from by omega]
   have hia := HA.out.idx m (by omega)
   have hca := (hbel.cell (p := ⟨b1,o1+m,none⟩) (HA.out.lt (by omega))).trans (HA.out.seg m (by omega))
   have hcc := hrow.cell (j := m) (by rw [HL.out]; omega)
   have hfz := hrow.frozen m
   have hx := QE HA.out.lim m
   have hor := UP r (nth la m) (by omega) hx
   go_wp2
   go_roundw
   case rel =>
    have hq := Uj r (nth la m) d hrd hx
    have e1 : (((r*4294967296+nth la m) % d : Nat) : Int)=((r : Int)*4294967296+(nth la m : Int)) % (d : Int) := UV _ _ _
    have e2 : (((r*4294967296+nth la m) / d : Nat) : Int)=((r : Int)*4294967296+(nth la m : Int)) / (d : Int) := Wc _ _ _
    refine ⟨m,(r*4294967296+nth la m) % d,cur.set m ((r*4294967296+nth la m) / d),by omega,rfl,by rw [e1],Nat.mod_lt _ hd,hrow.set' _ _ (by rw [← e2]; exact Cw hq),by rw [List.length_set,HL.out],hcm.set hq,?_,hbel.setCell (Nat.le_refl _) _⟩
    rw [JZ (l := la) (by omega),JZ (l := cur.set m _) (by rw [List.length_set,HL.out]; omega),Ve,Jb (by rw [HL.out]; omega)]
    exact Oi _ _ _ _ _ HV.out
   case measure => simp [intOf]
theorem PG {w : World} {va : Value} {a d : Nat} (ha : NatN w va a) (hla : Small a) (hd : 0 < d) (hd2 : d < 4294967296) :
  Calls Tryz.prog 132 #[va,.int .u32 d] w fun e w' => Below w.heap.size w w'∧∃ v,e=.returned (.tuple #[v,.int .u32 (a % d : Nat)])∧NatN w' v (a / d)∧∃ n c,v=.slice (some ⟨w.heap.size,0,none⟩) n c := by
 obtain ⟨la,ha,ta,rfl⟩ := ha
 obtain ⟨ao,ca,b1,o1,rfl,sa⟩ := ha.sl32
 exact Dw sa (hla.len ta) hd hd2
def bx (l : List UInt8) : List Value := l.map fun b => Value.int .u8 (b.toNat : Int)
theorem GV (a b : List UInt8) : bx (a ++ b)=bx a ++ bx b := List.map_append
theorem Ex (a : List UInt8) : (bx a).length=a.length := List.length_map _
def dd (n : Nat) : List UInt8 := if n=0 then [] else Lib.decDigits n
theorem Av {a : Nat} (h : a ≠ 0) : dd a=dd (a / 10) ++ [UInt8.ofNat (48+a % 10)] := by
 unfold dd
 rw [if_neg h,Lib.decDigits]
 by_cases h1 : a < 10
 ·rw [dif_pos h1,if_pos (by omega),Nat.mod_eq_of_lt h1]; rfl
 ·rw [dif_neg h1,if_neg (by omega)]
theorem La {a n : Nat} {L : List UInt8} (h : a ≠ 0) (e : dd a ++ L.reverse=dd n) : dd (a / 10) ++ (L ++ [UInt8.ofNat (48+a % 10)]).reverse=dd n := by
 rw [← e,Av h,List.reverse_append]
 simp
theorem dd_len {a n : Nat} {L : List UInt8} (e : dd a ++ L.reverse=dd n) : L.length≤(Lib.decDigits n).length := by
 have h := congrArg List.length e
 rw [List.length_append,List.length_reverse] at h
 have h2 : (dd n).length≤(Lib.decDigits n).length := by
  unfold dd
  split
  ·exact Nat.zero_le _
  ·exact Nat.le_refl _
 omega
theorem Mr {w : World} {g : Nat} {o : Obj} (h : w.heap[g]? = some o) : g < w.heap.size := (Array.getElem?_eq_some_iff.1 h).choose
theorem Nx {r : Nat} (h : r < 10) : ((UInt8.ofNat (48+r)).toNat : Int)=48+(r : Int) := by
 rw [UInt8.toNat_ofNat',Nat.mod_eq_of_lt (by omega)]
 omega
theorem NatN.grown {w w' : World} {n k c : Nat} {b o : Nat} {row : Option Nat} (h : NatN w (.slice (some ⟨b,o,none⟩) k c) n) (hg : w.grownBy w' row) (hne : some b ≠ row) : NatN w' (.slice (some ⟨b,o,none⟩) k c) n := by
 obtain ⟨l,⟨hl,⟨rfl,ao,cap,e⟩ | ⟨b1,off,cap,e,hc,hm,hlt,hs⟩⟩,t,rfl⟩ := h
 ·cases e
  exact ⟨[],NatV.nil _ _ _,t,rfl⟩
 ·cases e
  exact ⟨l,⟨hl,Or.inr ⟨b,o,c,rfl,hc,hm,Nat.lt_of_lt_of_le hlt hg.size,fun j hj => hg.cell (a := ⟨b,o+j,none⟩) (hs j hj) hne⟩⟩,t,rfl⟩
theorem Rj {a w w' : World} {row : Option Nat} (h : Below a.heap.size a w) (hg : w.grownBy w' row) (hr : ∀ k,row=some k→a.heap.size≤k) : Below a.heap.size a w' := by
 refine ⟨hg.os.trans h.os,hg.tape.trans h.tape,hg.output.trans h.output,Nat.le_trans h.size hg.size,fun i hi => ?_⟩
 rw [hg.block i (Nat.lt_of_lt_of_le hi h.size) (fun e => by have := hr i e.symm; omega),h.block i hi]
theorem Od {w : World} {base e n : Nat} {v : Value} {xs : List Value} (h : w.ownsRow base e 1 v n xs) : ∀ k,v.ownBlock=some k→base≤k∧k < w.heap.size := by
 intro k hk
 rcases h.2 with ⟨rfl,_⟩ | ⟨g,cap,cur,rfl,hb,hh,_⟩
 ·simp [Value.ownBlock] at hk
 ·simp [Value.ownBlock] at hk
  subst hk
  exact ⟨hb,Mr hh⟩
theorem Sp {w w' : World} {base e n : Nat} {v : Value} {xs : List Value} (h : w.ownsRow base e 1 v n xs) (hb : Below w.heap.size w w') : w'.ownsRow base e 1 v n xs := by
 refine ⟨h.1,?_⟩
 rcases h.2 with h2 | ⟨g,cap,cur,rfl,hb2,hh,h3⟩
 ·exact Or.inl h2
 ·exact Or.inr ⟨g,cap,cur,rfl,hb2,(hb.block g (Mr hh)).trans hh,h3⟩
theorem FJ (w : World) (v : Value) (t : TypeId) : ∀ j u,([v] : List Value)[j]? = some u→(w.alloc (.cells #[v] t)).cell? (Addr.add ⟨w.heap.size,0,none⟩ j)=some u := by
 intro j u hj
 match j,hj with
 | 0,hj => simp at hj; subst hj; simp [Addr.add]
def UJ (L : List UInt8) (i : Nat) : List UInt8 := (List.range L.length).map fun p => if p < i ∨ L.length - i≤p then L.getD (L.length - 1 - p) 0 else L.getD p 0
theorem Xl (L : List UInt8) (i : Nat) : (UJ L i).length=L.length := by simp [UJ]
theorem Im {L : List UInt8} {i p : Nat} (h : p < L.length) : (UJ L i)[p]? = some (if p < i ∨ L.length - i≤p then L.getD (L.length - 1 - p) 0 else L.getD p 0) := by
 simp [UJ,h]
theorem GR (L : List UInt8) : UJ L 0=L := by
 apply List.ext_getElem?
 intro p
 by_cases h : p < L.length
 ·rw [Im h,if_neg (by omega),List.getD_eq_getElem?_getD,List.getElem?_eq_getElem h]
  rfl
 ·rw [List.getElem?_eq_none (by rw [Xl]; omega),List.getElem?_eq_none (by omega)]
theorem Ho {L : List UInt8} {i : Nat} (h : L.length≤2*i+1) : UJ L i=L.reverse := by
 apply List.ext_getElem?
 intro p
 by_cases hp : p < L.length
 ·rw [Im hp,List.getElem?_reverse hp,List.getElem?_eq_getElem (by omega)]
  split
  ·rw [List.getD_eq_getElem?_getD,List.getElem?_eq_getElem (by omega)]; rfl
  ·have : L.length - 1 - p=p := by omega
   simp only [this]
   rw [List.getD_eq_getElem?_getD,List.getElem?_eq_getElem hp]; rfl
 ·rw [List.getElem?_eq_none (by rw [Xl]; omega),List.getElem?_eq_none (by simp; omega)]
theorem Ng {L : List UInt8} {i : Nat} (h : 2*i+1 < L.length) : ((UJ L i).set i (L.getD (L.length - 1 - i) 0)).set (L.length - 1 - i) (L.getD i 0)=UJ L (i+1) := by
 apply List.ext_getElem?
 intro p
 by_cases hp : p < L.length
 ·rw [Im hp]
  by_cases e1 : p=L.length - 1 - i
  ·subst e1
   rw [List.getElem?_set_self (by rw [List.length_set,Xl]; omega),if_pos (Or.inr (by omega))]
   rw [show L.length - 1 - (L.length - 1 - i)=i by omega]
  ·rw [List.getElem?_set_ne (by omega)]
   by_cases e2 : p=i
   ·subst e2
    rw [List.getElem?_set_self (by rw [Xl]; omega),if_pos (Or.inl (by omega))]
   ·rw [List.getElem?_set_ne (by omega),Im hp]
    by_cases e3 : p < i ∨ L.length - i≤p
    ·rw [if_pos e3,if_pos (by omega)]
    ·rw [if_neg e3,if_neg (by omega)]
 ·rw [List.getElem?_eq_none (by rw [List.length_set,List.length_set,Xl]; omega),List.getElem?_eq_none (by rw [Xl]; omega)]
end Go.Proofs.YthhnabccdehmgaaGreatDoor
/- BW -/
namespace Go.Proofs.YthhnabccdehmgaaGreatDoor
open Go.RowKit Cx
attribute [local go_sem ↓] Go.wp_at_zero Go.wp_at_succ
theorem Tryz.infoU8 : (Tryz.prog.info? 5).map (fun i => (i.zero,i.size,i.bytes))=some (some (.int .u8 0),1,1) := by kernel_rfl
theorem Ek {w w0 w2 w4 : World} {a n : Nat} {L : List UInt8} {bs v' : Value} {nn cc r : Nat} (hr : a % 10=r) (ha : a ≠ 0) (e : dd a ++ L.reverse=dd n)
  (hown : w0.ownsRow w.heap.size 5 1 bs L.length (bx L)) (hbl : Below w.heap.size w w0) (hb2 : Below w0.heap.size w0 w2) (hv : NatN w2 (.slice (some ⟨w0.heap.size,0,none⟩) nn cc) (a / 10))
  (hown4 : w4.ownsRow w.heap.size 5 1 v' (L.length+1) (bx L ++ [.int .u8 (48+(r : Int))])) (hg : (w2.alloc (.cells #[.int .u8 (48+(r : Int))] 5)).grownBy w4 bs.ownBlock) :
  ∃ (L' : List UInt8) (a' : Nat),a' < a∧w4.ownsRow w.heap.size 5 1 v' L'.length (bx L')∧NatN w4 (.slice (some ⟨w0.heap.size,0,none⟩) nn cc) a'∧dd a' ++ L'.reverse=dd n∧Below w.heap.size w w4∧a'=a / 10 := by
 have hr2 : r < 10 := by omega
 refine ⟨L ++ [UInt8.ofNat (48+r)],a / 10,by omega,?_,?_,?_,?_,rfl⟩
 ·rw [GV,List.length_append]
  show World.ownsRow _ _ _ _ _ _ (bx L ++ [Value.int .u8 ((UInt8.ofNat (48+r)).toNat : Int)])
  rw [Nx hr2]
  exact hown4
 ·refine (hv.below (Qg _ _)).grown hg ?_
  intro h
  have := (Od hown _ h.symm).2
  omega
 ·rw [← hr]
  exact La ha e
 ·refine Rj (Below.new (hbl.trans (hb2.mono hbl.size)) _) hg ?_
  intro k hk
  exact (Od hown _ hk).1
theorem KM {w : World} {base e n : Nat} {v : Value} {xs : List Value} (h : w.ownsRow base e 1 v n xs) (hv : v ≠ .slice none 0 0) : ∃ g cap,v=.slice (some ⟨g,0,none⟩) n cap∧base≤g∧n≤cap∧cap≤maxLen := by
 rcases h.2 with ⟨h1,_⟩ | ⟨g,cap,cur,rfl,hb,hh,hc,hm,_⟩
 ·exact absurd h1 hv
 ·exact ⟨g,cap,rfl,hb,hc,hm⟩
theorem EC {w : World} {base e n : Nat} {v : Value} {L : List UInt8} (h : w.ownsRow base e 1 v n (bx L)) (hL : L ≠ []) : v ≠ .slice none 0 0 := by
 rintro rfl
 rcases h.2 with ⟨_,h1⟩ | ⟨g,cap,cur,h1,_⟩
 ·apply hL
  have h2 := h.1
  rw [Ex] at h2
  exact List.length_eq_zero_iff.1 (by omega)
 ·cases h1
def gd (M : List UInt8) (p : Nat) : UInt8 := M.getD p 0
theorem OS {w : World} {base g cap : Nat} {M : List UInt8} {i p : Nat} (h : w.ownsRow base 5 1 (.slice (some ⟨g,0,none⟩) M.length cap) M.length (bx (UJ M i))) (hp : p < M.length) (h2 : ¬ (p < i ∨ M.length - i≤p)) : w.cell? ⟨g,p,none⟩=some (.int .u8 ((gd M p).toNat : Int)) := by
 rw [h.cellAt p (by omega)]
 simp only [bx,List.getElem?_map,Im hp,if_neg h2,Option.map_some]
 rfl
theorem DU {w : World} {base g cap : Nat} {M : List UInt8} {i j : Nat} (h : w.ownsRow base 5 1 (.slice (some ⟨g,0,none⟩) M.length cap) M.length (bx (UJ M i))) (hij : i+j+1=M.length) (hlt : i < j) :
  ((w.setCell ⟨g,i,none⟩ (.int .u8 ((gd M j).toNat : Int))).setCell ⟨g,j,none⟩ (.int .u8 ((gd M i).toNat : Int))).ownsRow base 5 1 (.slice (some ⟨g,0,none⟩) M.length cap) M.length (bx (UJ M (i+1))) := by
 have h1 := (h.stored i (.int .u8 ((gd M j).toNat : Int))).1
 have h2 := (h1.stored j (.int .u8 ((gd M i).toNat : Int))).1
 have hst := Ng (L := M) (i := i) (by omega)
 rw [show M.length - 1 - i=j by omega] at hst
 rw [← hst]
 have e : bx (((UJ M i).set i (gd M j)).set j (gd M i))=((bx (UJ M i)).set i (.int .u8 ((gd M j).toNat : Int))).set j (.int .u8 ((gd M i).toNat : Int)) := by
  simp [bx,List.map_set]
 show World.ownsRow _ _ _ _ _ _ (bx (((UJ M i).set i (gd M j)).set j (gd M i)))
 rw [e]
 exact h2
theorem SF {w : World} {base g cap : Nat} {M : List UInt8} {i j : Nat} (h : w.ownsRow base 5 1 (.slice (some ⟨g,0,none⟩) M.length cap) M.length (bx (UJ M i))) (hij : i+j+1=M.length) (hlt : ¬ i < j) :
  (convert 153 9 (.slice (some ⟨g,0,none⟩) M.length cap)).run Tryz.prog w=.ok (.string ⟨M.reverse.toArray⟩) w := by
 have := run_convert_bytes_back (P := Tryz.prog) w 153 9 5 ⟨g,0,none⟩ cap M.reverse Tryz.underlying153 Tryz.underlying5 Tryz.underlying9 (fun k hk => by
  have hk2 : k < M.length := by simpa using hk
  have := h.cellAt k (by omega)
  rw [Ho (by omega)] at this
  have ea : Addr.add ⟨g,0,none⟩ k=⟨g,k,none⟩ := by unfold Addr.add; split <;> simp_all
  rw [ea,this]
  simp only [bx,List.getElem?_map,List.getElem?_eq_getElem hk,Option.map_some])
 rw [List.length_reverse] at this
 exact this
theorem PS {w : World} {p : Value} {x : Int} (hx : IV w p x) (sx : Small x.natAbs) (hne : x ≠ 0) (hd : (Lib.decDigits x.natAbs).length≤140737488355300) :
  Calls Tryz.prog 87 #[p,.int .i64 10] w fun e w' => Below w.heap.size w w'∧e=.returned (.string ⟨((if x < 0 then [45] else []) ++ Lib.decDigits x.natAbs).toArray⟩) := by
 obtain ⟨g,o,ao,n,c,rfl,x0,x1,x2,xl⟩ := hx
 obtain ⟨i0,hi,hz0,hz1,hz2⟩ := info_parts Tryz.infoU8
 generalize hT : ((if x < 0 then [45] else []) ++ Lib.decDigits x.natAbs : List UInt8)=T
 have HT := Qb hT
 clear hT
 have hn0 : n ≠ 0 := by
  obtain ⟨_,_,_,e,_,_,hz⟩ := QL x2
  cases e
  intro h
  have := hz.1 h
  omega
 have hnb : ((n : Int) == 0)=false := beq_eq_false_iff_ne.mpr (by omega)
 have HX := Qb x2
 have SX := Qb sx
 have HD := Qb hd
 clear x2 sx hd
 go_enter Tryz.func87,Tryz.ntmps87
 go_wp2_with fail
 refine (XO HX.out SX.out).mono ?_
 rintro e w1 ⟨hb1,v1,rfl,hv1⟩
 have HB1 := Qb hb1
 have HV1 := Qb hv1
 clear hb1 hv1
 go_wp2
 go_loopg [5,6] x.natAbs (fun k bs av wr => ∃ (L : List UInt8) (a : Nat),a≤k∧a≤x.natAbs∧wr.ownsRow w.heap.size 5 1 bs L.length (bx L)∧NatN wr av a∧dd a ++ L.reverse=dd x.natAbs∧Below w.heap.size w wr)
 case atStart => exact ⟨[],x.natAbs,Nat.le_refl _,Nat.le_refl _,World.ownsRow_nil _ _ _ _,HV1.out,by simp,HB1.out⟩
 case round =>
  obtain ⟨L,a,hak,han,hown,hva,hdd,hbl⟩ := hrel
  have HOWN := Qb hown
  have HVA := Qb hva
  have HDD := Qb hdd
  have HBL := Qb hbl
  have HLL := Qb (dd_len hdd)
  obtain ⟨ab,na,ca,rfl,_,_,hz⟩ := QL hva
  have HZ := Qb hz
  have hy0 := (hbl.cell (p := ⟨g,o,none⟩) xl).trans x0
  clear hown hva hdd hbl hz
  by_cases ha : a=0
  ·have hna : na=0 := HZ.out.2 ha
   subst hna
   have HLR : Hid (L.reverse=Lib.decDigits x.natAbs) := by
    have := HDD.out
    subst ha
    have h0 : x.natAbs ≠ 0 := by omega
    simp only [dd,if_neg h0,if_true,List.nil_append] at this
    exact this
   have hL0 : L ≠ [] := by
    intro e
    have := HLR.out
    rw [e] at this
    have h1 := Lib.decDigits_length x.natAbs
    rw [← this] at h1
    have h2 := Lib.nDigits_pos x.natAbs
    simp at h1
    omega
   have hlen : L.length+1≤140737488355328 := by have := HLL.out; have := HD.out; omega
   by_cases hs : x < 0
   ·rw [decide_eq_true hs] at hy0
    have HO2 := Qb (Sp HOWN.out (Qg wr (.cells #[.int .u8 45] 5)))
    have HNW := Qb (FJ wr (.int .u8 45) 5)
    obtain ⟨M,hM⟩ : ∃ M,L ++ [45]=M := ⟨_,rfl⟩
    have HMB : Hid (bx L ++ [Value.int .u8 45]=bx M∧L.length+1=M.length) := by
     refine ⟨?_,?_⟩
     ·rw [← hM,GV]; rfl
     ·rw [← hM]; simp
    have HMM := Qb hM
    clear hM
    have hM0 : 0 < M.length := by have := HMB.out.2; omega
    have hMm : M.length≤140737488355328 := by have := HMB.out.2; omega
    go_wp2_with (at_builtin; refine wpList_append_own _ rfl _ _ 153 rfl w.heap.size 5 i0 (.int .u8 0) 1 1 Tryz.underlying153 hi hz0 hz1 hz2 rfl (by decide) _ L.length (bx L) rfl HO2.out ⟨wr.heap.size,0,none⟩ 1 1 [.int .u8 45] rfl rfl HNW.out (by intro u hu; simp at hu; subst hu; rfl) (by unfold maxLen; omega) (by omega) (by have := HBL.out.size; simp; omega) ?_; intro v' w4 hown4 hgrow hnil; rw [HMB.out.1,HMB.out.2] at hown4; obtain ⟨g2,cap,rfl,hg2,hc2,hm2⟩ := KM hown4 (fun e => by have := (hnil.1 e).2; omega))
    have HR : Hid (T=M.reverse) := by
     show _=_
     rw [← HT.out,if_pos hs,← HMM.out,List.reverse_append,HLR.out]
     rfl
    have HM := Qb (And.intro hown4 (Rj (Below.new HBL.out _) hgrow (fun k hk => (Od HOWN.out _ hk).1)))
    clear hown4 hgrow hnil hlen
    go_wp2
    go_loopw [8,9] (fun iv jv wx => ∃ i j : Nat,iv=.int .i64 i∧jv=.int .i64 j∧i+j+1=M.length∧wx.ownsRow w.heap.size 5 1 (.slice (some ⟨g2,0,none⟩) M.length cap) M.length (bx (UJ M i))∧Below w.heap.size w wx) (fun iv _ _ => M.length - (intOf iv).toNat)
    case atStart => exact ⟨0,M.length - 1,rfl,by rw [show ((M.length - 1 : Nat) : Int)=(M.length : Int) - 1 by omega],by omega,by rw [GR]; exact HM.out.1,HM.out.2⟩
    case round =>
     obtain ⟨i,j,rfl,rfl,hij,hw,hbx⟩ := hrel
     have HW := Qb (And.intro hw (And.intro hij hbx))
     have hiM : i < M.length := by omega
     have hjM : j < M.length := by omega
     by_cases hlt : i < j
     ·have ci := OS hw hiM (by omega)
      have cj := OS hw hjM (by omega)
      have fi := hw.frozenAt i
      have fj := hw.frozenAt j
      clear hw hij hbx
      go_wp2
      go_roundw
      case rel => exact ⟨i+1,j - 1,by rw [show ((i+1 : Nat) : Int)=(i : Int)+1 by omega],by rw [show ((j - 1 : Nat) : Int)=(j : Int) - 1 by omega],by have := HW.out.2.1; omega,DU HW.out.1 HW.out.2.1 hlt,Below.set (Below.set HW.out.2.2 hg2 _ _) hg2 _ _⟩
      case measure => simp [intOf]; omega
     ·have hcv := SF hw hij hlt
      clear hw hij hbx
      go_wp2
      go_ret
      exact ⟨HW.out.2.2,by rw [HR.out]; rfl⟩
   ·rw [decide_eq_false hs] at hy0
    obtain ⟨g2,cap,hv',hg2,hc2,hm2⟩ := KM HOWN.out (EC HOWN.out hL0)
    subst hv'
    generalize hM : L=M at *
    have HR : Hid (T=M.reverse) := by
     show _=_
     rw [← HT.out,if_neg hs,HLR.out]
     rfl
    have HM := Qb (And.intro HOWN.out HBL.out)
    have hM0 : 0 < M.length := List.length_pos_iff.2 hL0
    have hMm : M.length≤140737488355328 := by omega
    clear hlen
    go_wp2
    go_loopw [8,9] (fun iv jv wx => ∃ i j : Nat,iv=.int .i64 i∧jv=.int .i64 j∧i+j+1=M.length∧wx.ownsRow w.heap.size 5 1 (.slice (some ⟨g2,0,none⟩) M.length cap) M.length (bx (UJ M i))∧Below w.heap.size w wx) (fun iv _ _ => M.length - (intOf iv).toNat)
    case atStart => exact ⟨0,M.length - 1,rfl,by rw [show ((M.length - 1 : Nat) : Int)=(M.length : Int) - 1 by omega],by omega,by rw [GR]; exact HM.out.1,HM.out.2⟩
    case round =>
     obtain ⟨i,j,rfl,rfl,hij,hw,hbx⟩ := hrel
     have HW := Qb (And.intro hw (And.intro hij hbx))
     have hiM : i < M.length := by omega
     have hjM : j < M.length := by omega
     by_cases hlt : i < j
     ·have ci := OS hw hiM (by omega)
      have cj := OS hw hjM (by omega)
      have fi := hw.frozenAt i
      have fj := hw.frozenAt j
      clear hw hij hbx
      go_wp2
      go_roundw
      case rel => exact ⟨i+1,j - 1,by rw [show ((i+1 : Nat) : Int)=(i : Int)+1 by omega],by rw [show ((j - 1 : Nat) : Int)=(j : Int) - 1 by omega],by have := HW.out.2.1; omega,DU HW.out.1 HW.out.2.1 hlt,Below.set (Below.set HW.out.2.2 hg2 _ _) hg2 _ _⟩
      case measure => simp [intOf]; omega
     ·have hcv := SF hw hij hlt
      clear hw hij hbx
      go_wp2
      go_ret
      exact ⟨HW.out.2.2,by rw [HR.out]; rfl⟩
  ·have hna : na ≠ 0 := fun h => ha (HZ.out.1 h)
   have HSA : Hid (Small a) := Yz SX.out han
   go_wp2_with fail
   refine (PG (d := 10) HVA.out HSA.out (by decide) (by decide)).mono ?_
   generalize hr : a % 10=r
   have hr10 : r < 10 := by omega
   rintro e w2 ⟨hb2,v2,rfl,hv2,nn,cc,rfl⟩
   have HB2 := Qb hb2
   have HV2 := Qb hv2
   have HR := Qb hr
   have hown2 := Sp HOWN.out (Below.new hb2 (.cells #[.int .u8 (48+(r : Int))] 5))
   have HNW := Qb (FJ w2 (.int .u8 (48+(r : Int))) 5)
   have HO2 := Qb hown2
   have hlen : L.length+1≤140737488355328 := by have := HLL.out; have := HD.out; omega
   clear hb2 hv2 hr hown2
   go_wp2_with (at_builtin; refine wpList_append_own _ rfl _ _ 153 rfl w.heap.size 5 i0 (.int .u8 0) 1 1 Tryz.underlying153 hi hz0 hz1 hz2 rfl (by decide) _ L.length (bx L) rfl HO2.out ⟨w2.heap.size,0,none⟩ 1 1 [.int .u8 (48+(r : Int))] rfl rfl HNW.out (by intro u hu; simp at hu; subst hu; rfl) (by unfold maxLen; omega) (by omega) (by have := HBL.out.size; have := HB2.out.size; simp; omega) ?_; intro v' w4 hown4 hgrow hnil)
   obtain ⟨L',a',h1,h2,h3,h4,h5,h6⟩ := Ek HR.out ha HDD.out HOWN.out HBL.out HB2.out HV2.out hown4 hgrow
   have HF := Qb (And.intro h2 (And.intro h3 (And.intro h4 h5)))
   clear h2 h3 h4 h5 hown4 hgrow hnil
   go_wp2
   go_roundg a'
   case measure => omega
   case rel => exact ⟨L',a',Nat.le_refl _,by omega,HF.out.1,HF.out.2.1,HF.out.2.2.1,HF.out.2.2.2⟩
end Go.Proofs.YthhnabccdehmgaaGreatDoor
/- BX -/
namespace Go.Proofs.YthhnabccdehmgaaGreatDoor
open Go.RowKit Cx
attribute [local go_sem ↓] Go.wp_at_zero Go.wp_at_succ
def zx (x : Int) : List UInt8 := (if x < 0 then [45] else []) ++ Lib.decDigits x.natAbs
theorem zx_zero : zx 0=[48] := by
 unfold zx
 rw [if_neg (by decide)]
 show Lib.decDigits 0=_
 rw [Lib.decDigits,dif_pos (by decide)]
 rfl
theorem Px {w : World} {p : Value} (hx : IV w p 0) :
  Calls Tryz.prog 87 #[p,.int .i64 10] w fun e w' => w'=w∧e=.returned (.string ⟨#[48]⟩) := by
 obtain ⟨g,o,ao,n,c,rfl,x0,x1,x2,xl⟩ := hx
 have hn0 : n=0 := by
  obtain ⟨_,_,_,e,_,_,hz⟩ := QL x2
  cases e
  exact hz.2 rfl
 subst hn0
 clear x2
 go_enter Tryz.func87,Tryz.ntmps87
 go_wp2
 go_ret
 exact ⟨rfl,rfl⟩
theorem Gq {w : World} {p : Value} {x : Int} {k : Nat} (hx : IV w p x) (sx : x.natAbs < 2 ^ k) (hk : k≤35184372088640) :
  Calls Tryz.prog 87 #[p,.int .i64 10] w fun e w' => Below w.heap.size w w'∧e=.returned (.string ⟨(zx x).toArray⟩) := by
 by_cases h : x=0
 ·subst h
  refine (Px hx).mono ?_
  rintro e w' ⟨rfl,rfl⟩
  exact ⟨Below.refl _ _,by rw [zx_zero]⟩
 ·refine PS hx (Qq sx hk) h ?_
  rw [Lib.decDigits_length]
  have := YY sx
  omega
theorem Yi {w : World} {p : Value} {x : Int} {k : Nat} (hx : IV w p x) (sx : x.natAbs < 2 ^ k) (hk : k≤35184372088640) :
  Calls Tryz.prog 44 #[p] w fun e w' => Below w.heap.size w w'∧e=.returned (.string ⟨(zx x).toArray⟩) := by
 have h := Gq hx sx hk
 obtain ⟨g,o,ao,n,c,rfl,x0,x1,x2,xl⟩ := hx
 clear x0 x1 x2
 go_enter Tryz.func44,Tryz.ntmps44
 go_wp2_with fail
 refine h.mono ?_
 rintro e w1 ⟨hb,rfl⟩
 have HB := Qb hb
 clear hb
 go_wp2
 go_ret
 exact ⟨HB.out,rfl⟩
theorem Kv {w : World} {g : Nat} {x : Rat} {k : Nat} (hx : RV w g x) (fx : QS k x) (hkl : k≤35184372088640) :
  Calls Tryz.prog 17 #[.pointer (some ⟨g,0,none⟩)] w fun e w' => Below w.heap.size w w'∧∃ g',e=.returned (.pointer (some ⟨g',0,none⟩))∧Own2 w' g' (x.den : Int) := by
 have HX := Qb hx
 have LX := Qb hx.lt
 have DX := Qb (Zp fx hkl)
 clear hx fx
 go_enter Tryz.func17,Tryz.ntmps17
 go_wp2_with fail
 refine (QW (HX.out.below (Qg _ _))).mono ?_
 rintro e w1 ⟨hb1,p1,rfl,hv1,hap1⟩
 have HB1 := Qb hb1
 have HV1 := Qb hv1
 have HA1 := Qb (hap1 w.heap.size (by have := LX.out; omega) (by simp))
 have HK1 := Qb (Ze hb1 (Blk.new w #[.bool false,.slice none 0 0] 32))
 clear hb1 hv1 hap1
 go_wp2_with fail
 refine (XE (At2.blk HK1.out) HV1.out HA1.out DX.out).mono ?_
 rintro e w2 ⟨rfl,hg⟩
 have HG := Qb hg
 clear hg
 go_wp2
 go_ret
 exact ⟨QQ (Qp (Qg _ _) HB1.out) HG.out.save (Nat.le_refl _),_,rfl,(HG.out.own HK1.out).1⟩
theorem LH {q : Rat} (h : q.den=1) : tx q=zx q.num := by
 unfold tx zx
 rw [if_pos h,List.append_nil]
theorem Lc {q : Rat} (h : q.den ≠ 1) : tx q=zx q.num ++ (47 :: zx (q.den : Int)) := by
 unfold tx zx
 rw [if_neg h,if_neg (show ¬ ((q.den : Int) < 0) by omega),List.nil_append,Int.natAbs_natCast,List.append_assoc]
theorem HJ {x : Int} {k : Nat} (sx : x.natAbs < 2 ^ k) : (zx x).length≤k+2 := by
 unfold zx
 rw [List.length_append,Lib.decDigits_length]
 have h1 := YY sx
 have h3 : (if x < 0 then ([45] : List UInt8) else []).length≤1 := by split <;> simp
 omega
theorem TU {w : World} {g : Nat} {x : Rat} {k : Nat} (hx : RV w g x) (fx : QS k x) (hkl : k≤35184372088640) :
  Calls Tryz.prog 11 #[.pointer (some ⟨g,0,none⟩)] w fun e w' => Below w.heap.size w w'∧e=.returned (.string ⟨(tx x).toArray⟩) := by
 have HX := Qb hx
 have FX := Qb fx
 clear hx
 by_cases hd : x.den=1
 ·have HD := Qb hd
  have hdd : decide (x.den=1)=true := decide_eq_true hd
  have HT := Qb (LH hd)
  clear hd
  go_enter Tryz.func11,Tryz.ntmps11
  go_wp2_with fail
  refine (Rc HX.out FX.out hkl).mono ?_
  rintro e w1 ⟨hb1,rfl⟩
  rw [hdd]
  have HB1 := Qb hb1
  clear hb1 hdd
  go_wp2_with fail
  refine (OH g w1).mono ?_
  rintro e w2 ⟨hw,rfl⟩
  subst hw
  go_wp2_with fail
  refine (Yi (HX.out.below HB1.out).num FX.out.num hkl).mono ?_
  rintro e w3 ⟨hb3,rfl⟩
  have HB3 := Qb (Qp HB1.out hb3)
  clear hb3
  go_wp2
  go_ret
  exact ⟨HB3.out,by rw [HT.out]; rfl⟩
 ·have hdd : decide (x.den=1)=false := decide_eq_false hd
  have HT := Qb (Lc hd)
  have hl1 := HJ fx.num
  have hl2 : (zx (x.den : Int)).length≤k+2 := HJ (by rw [Int.natAbs_natCast]; exact fx.den)
  clear hd
  go_enter Tryz.func11,Tryz.ntmps11
  go_wp2_with fail
  refine (Rc HX.out FX.out hkl).mono ?_
  rintro e w1 ⟨hb1,rfl⟩
  rw [hdd]
  have HB1 := Qb hb1
  clear hb1 hdd
  go_wp2_with fail
  refine (OH g w1).mono ?_
  rintro e w2 ⟨hw,rfl⟩
  subst hw
  go_wp2_with fail
  refine (Yi (HX.out.below HB1.out).num FX.out.num hkl).mono ?_
  rintro e w3 ⟨hb3,rfl⟩
  have HB3 := Qb (Qp HB1.out hb3)
  clear hb3
  go_wp2_with fail
  refine (Kv (HX.out.below HB3.out) FX.out hkl).mono ?_
  rintro e w4 ⟨hb4,g4,rfl,ho4⟩
  have HB4 := Qb (Qp HB3.out hb4)
  have HO4 := Qb ho4
  clear hb4 ho4
  go_wp2_with fail
  refine (Yi HO4.out.iv (k := k) (by rw [Int.natAbs_natCast]; exact FX.out.den) hkl).mono ?_
  rintro e w5 ⟨hb5,rfl⟩
  have HB5 := Qb (Qp HB4.out hb5)
  clear hb5
  go_wp2
  go_ret
  exact ⟨HB5.out,by rw [HT.out]; simp; apply ByteArray.ext; simp [ByteArray.data_append]⟩
end Go.Proofs.YthhnabccdehmgaaGreatDoor
/- BY -/
namespace Go.Proofs.YthhnabccdehmgaaGreatDoor
open Go.RowKit Cx
attribute [local go_sem ↓] Go.wp_at_zero Go.wp_at_succ
theorem OY {s : ByteArray} {k : Nat} (h : k < s.size) : dv (s.data.toList.take (k+1))=dv (s.data.toList.take k)*10+(s[k].toNat - 48) := by
 have hlen : k < s.data.toList.length := by simpa using h
 rw [Oa hlen,PX]
 rfl
theorem Ms {s : ByteArray} {k : Nat} (h : ZV s.data.toList=true) (hk : k < s.size) : 48≤s[k].toNat∧s[k].toNat≤57 := by
 have hlen : k < s.data.toList.length := by simpa using hk
 have := List.all_eq_true.1 (JP h) _ (List.getElem_mem hlen)
 have := Pq this
 rw [Wi s k hk] at this
 exact this
theorem Ag {s : ByteArray} (h : ZV s.data.toList=true) : 0 < s.size := by
 rcases Nat.eq_zero_or_pos s.size with h0 | h0
 ·exfalso
  have : s.data.toList=[] := List.length_eq_zero_iff.1 (by simpa using h0)
  rw [this] at h
  cases h
 ·exact h0
theorem GK {s : ByteArray} {k : Nat} (h : ZV s.data.toList=true) (hsz : s.size≤4294967280) : Small (dv (s.data.toList.take k)) := by
 refine UO ?_ ?_
 ·rw [List.all_eq_true]
  intro x hx
  exact List.all_eq_true.1 (JP h) x (List.mem_of_mem_take hx)
 ·rw [List.length_take]
  have : s.data.toList.length=s.size := by simp
  omega
theorem Jm {w : World} {g : Nat} {s : ByteArray} (hk : Blk w g #[.bool false,.slice none 0 0] 32) (hs : ZV s.data.toList=true) (hsz : s.size≤4294967280) :
  Calls Tryz.prog 54 #[.pointer (some ⟨g,0,none⟩),.string s,.int .i64 10] w fun e w' => e=.returned (.tuple #[.pointer (some ⟨g,0,none⟩),.bool true])∧Save g w w'∧Own2 w' g (dv s.data.toList : Int) := by
 have HK := Qb hk
 have HS := Qb hs
 have hs0 : 0 < s.size := Ag hs
 have hs1 : ((s.size : Int) == 0)=false := beq_eq_false_iff_ne.mpr (by omega)
 have hb0 := Ms hs hs0
 have hb1 : ((s[0].toNat : Int) == 45)=false := beq_eq_false_iff_ne.mpr (by omega)
 have hb2 : ((s[0].toNat : Int) == 43)=false := beq_eq_false_iff_ne.mpr (by omega)
 clear hk hs
 go_enter Tryz.func54,Tryz.ntmps54
 go_wp2
 go_loopw [9,10] (fun rv iv wr => ∃ k : Nat,iv=.int .i64 k∧k≤s.size∧NatN wr rv (dv (s.data.toList.take k))∧Below w.heap.size w wr) (fun _ iv _ => s.size - (intOf iv).toNat)
 case atStart => exact ⟨0,rfl,Nat.zero_le _,⟨[],NatV.nil _ _ _,Or.inl rfl,rfl⟩,Below.refl _ _⟩
 case round =>
  obtain ⟨k,rfl,hks,hn,hbl⟩ := hrel
  have HN := Qb hn
  have HBL := Qb hbl
  clear hn hbl
  by_cases hlt : k < s.size
  ·have hb := Ms HS.out hlt
   have HSM : Hid (Small (dv (s.data.toList.take k))) := GK HS.out hsz
   have HDS := Qb (OY hlt)
   have HSM10 : Hid (Small (dv (s.data.toList.take k)*10)) := Yz (GK (k := k+1) HS.out hsz) (by rw [OY hlt]; omega)
   generalize hA : dv (s.data.toList.take k)=A at *
   clear hA
   go_wp2_with fail
   refine (ZA 10 wr (by decide)).mono ?_
   rintro e w1 ⟨hb1',v1,rfl,hv1⟩
   have H1 := Qb (And.intro hb1' hv1)
   clear hb1' hv1
   go_wp2_with fail
   refine (OC (HN.out.below H1.out.1) H1.out.2 HSM.out (Qq (k := 4) (by decide) (by decide))).mono ?_
   rintro e w2 ⟨hb2',v2,rfl,hv2⟩
   have H2 := Qb (And.intro (Qp H1.out.1 hb2') hv2)
   clear hb2' hv2
   go_wp2_with fail
   have ed : ((s[k].toNat : Int) - 48)=((s[k].toNat - 48 : Nat) : Int) := by omega
   rw [ed]
   refine (ZA (s[k].toNat - 48) w2 (by omega)).mono ?_
   rintro e w3 ⟨hb3',v3,rfl,hv3⟩
   have H3 := Qb (And.intro (Qp H2.out.1 hb3') (And.intro (H2.out.2.below hb3') hv3))
   clear hb3' hv3
   go_wp2_with fail
   refine (OW H3.out.2.1 H3.out.2.2 HSM10.out (Qq (k := 6) (by omega) (by decide))).mono ?_
   rintro e w4 ⟨hb4',v4,rfl,hv4⟩
   have H4 := Qb (And.intro (Qp HBL.out (Qp H3.out.1 hb4')) hv4)
   clear hb4' hv4
   go_wp2
   go_roundw
   case rel => exact ⟨k+1,by rw [show ((k+1 : Nat) : Int)=(k : Int)+1 by omega],by omega,by rw [HDS.out]; exact H4.out.2,H4.out.1⟩
   case measure => simp [intOf]; omega
  ·have hks2 : k=s.size := by omega
   have HNE : Hid (NatN wr u9 (dv s.data.toList)) := by
    have := HN.out
    rw [hks2,List.take_of_length_le (by simp)] at this
    exact this
   obtain ⟨ao,n,c,hv,_,_,_⟩ := QL HNE.out
   subst hv
   go_wp2_with fail
   refine (JL (n := n) (ao := ao) (c := c) false ((At2.blk HK.out).below HBL.out)).mono ?_
   rintro e w2 ⟨rfl,hw2⟩
   have HG : Hid (Gave w g 0 (dv s.data.toList : Int) w2) := by
    refine ⟨wr,ao,n,c,HBL.out,?_,?_⟩
    ·rw [hw2,ID]; rfl
    ·rw [Int.natAbs_natCast]; exact HNE.out
   clear hw2
   go_wp2
   go_ret2
   exact ⟨rfl,HG.out.save,(HG.out.own HK.out).1⟩
end Go.Proofs.YthhnabccdehmgaaGreatDoor
/- BZ -/
namespace Go.Proofs.YthhnabccdehmgaaGreatDoor
open Go.RowKit Cx
attribute [local go_sem ↓] Go.wp_at_zero Go.wp_at_succ
def MaxL (w : World) : Prop := ∃ m,w.cell? ⟨Tryz.lays147_ren.g 1,0,none⟩=some (.int .i64 m)
theorem Xr {w : World} {p : Addr} {v : Value} (h : w.cell? p=some v) : p.block < w.heap.size := by
 rcases Nat.lt_or_ge p.block w.heap.size with h1 | h1
 ·exact h1
 ·exfalso
  unfold World.cell? at h
  rw [Array.getElem?_eq_none h1] at h
  simp at h
theorem MaxL.below {w w' : World} (h : MaxL w) (hb : Below w.heap.size w w') : MaxL w' := by
 obtain ⟨m,h⟩ := h
 exact ⟨m,(hb.cell (Xr h)).trans h⟩
theorem MaxL.shaped {w : World} (h : w.ShapedOpen Tryz.prog) : MaxL w := Tryz.laysM147.s1_3 w h
def tenDigits : ByteArray := ⟨#[48,49,50,51,52,53,54,55,56,57]⟩
theorem Jf {α : Type} {p : α→Bool} : ∀ {l : List α},l.dropWhile p=[] ↔ l.all p=true
 | [] => by simp
 | x :: l => by
  rw [List.dropWhile_cons]
  split
  ·rename_i h
   rw [Jf (l := l),List.all_cons,h,Bool.true_and]
  ·rename_i h
   simp [h]
theorem EL (l cs : List UInt8) : (Lib.trimS l cs=[]) ↔ l.all (cs.contains ·)=true := by
 unfold Lib.trimS Lib.trimLeftS Lib.trimRightS
 constructor
 ·intro h
  rw [Jf,List.all_reverse] at h
  have h2 : (l.reverse.dropWhile (cs.contains ·))=[] := by
   cases e : l.reverse.dropWhile (cs.contains ·) with
   | nil => rfl
   | cons x r =>
    exfalso
    rw [e,List.all_cons,Bool.and_eq_true] at h
    have h3 := List.head_dropWhile_not (p := (cs.contains ·)) (l := l.reverse) (by rw [e]; simp)
    simp only [e,List.head_cons] at h3
    rw [h.1] at h3
    cases h3
  rw [Jf,List.all_reverse] at h2
  exact h2
 ·intro h
  have : l.reverse.dropWhile (cs.contains ·)=[] := by rw [Jf,List.all_reverse]; exact h
  rw [this]
  rfl
theorem ten_dg : (fun c : UInt8 => tenDigits.data.toList.contains c)=dg := by
 funext c
 have h : ∀ n : Fin 256,tenDigits.data.toList.contains (UInt8.ofNat n)=dg (UInt8.ofNat n) := by decide
 have := h ⟨c.toNat,c.toNat_lt⟩
 simpa using this
theorem Wl (l : List UInt8) : (Lib.trimB l 48=[]) ↔ l.all (· == 48)=true := by
 unfold Lib.trimB Lib.trimLeftB Lib.trimRightB
 constructor
 ·intro h
  rw [Jf,List.all_reverse] at h
  have h2 : (l.reverse.dropWhile (· == 48))=[] := by
   cases e : l.reverse.dropWhile (· == 48) with
   | nil => rfl
   | cons x r =>
    exfalso
    rw [e,List.all_cons,Bool.and_eq_true] at h
    have h3 := List.head_dropWhile_not (p := (· == 48)) (l := l.reverse) (by rw [e]; simp)
    simp only [e,List.head_cons] at h3
    rw [h.1] at h3
    cases h3
  rw [Jf,List.all_reverse] at h2
  exact h2
 ·intro h
  have : l.reverse.dropWhile (· == 48)=[] := by rw [Jf,List.all_reverse]; exact h
  rw [this]
  rfl
theorem Ir {l : List UInt8} (h : l.all dg=true) : l.all (· == 48)=true ↔ dv l=0 := by
 induction l with
 | nil => simp [dv]
 | cons c l ih =>
  rw [List.all_cons,Bool.and_eq_true] at h
  rw [List.all_cons,Bool.and_eq_true,ih h.2,PT]
  have hc := Pq h.1
  have hp : 0 < 10 ^ l.length := Nat.pow_pos (by decide)
  constructor
  ·rintro ⟨h1,h2⟩
   rw [h2,eq_of_beq h1]
   simp
  ·intro h0
   have h1 : (c.toNat - 48)*10 ^ l.length=0 := by omega
   have h2 : c.toNat - 48=0 := by
    rcases Nat.mul_eq_zero.1 h1 with h | h
    ·exact h
    ·omega
   refine ⟨?_,by omega⟩
   rw [beq_iff_eq]
   exact UInt8.toNat_inj.1 (by show c.toNat=48; omega)
theorem Tryz.zeroSet (w : World) : (zeroValue (Tryz.lays160_ren.t 116)).run Tryz.prog w=.ok (.agg (Array.replicate 256 (.bool false))) w := by kernel_rfl
theorem Nc : ∀ (j : Nat) b,tenDigits.data.toList[j]? = some b→b.toNat < 128 := by
 intro j b h
 have := List.mem_of_getElem? h
 simp [tenDigits] at this
 rcases this with rfl | rfl | rfl | rfl | rfl | rfl | rfl | rfl | rfl | rfl <;> decide
theorem emp (t : ByteArray) : t.toList.isEmpty=t.data.toList.isEmpty := by rw [ByteArray.toList_eq]
theorem Qx (s : ByteArray) (w : World) (hs : s.size≤4294967280) :
  Calls Tryz.prog 52 #[.string s] w fun e w' => Below w.heap.size w w'∧e=.returned (.bool (ZV s.data.toList)) := by
 have hem := emp s
 generalize hD : ZV s.data.toList=D
 by_cases h0 : s.data.toList=[]
 ·have HL : Hid (D=false) := by show D=false; rw [← hD,h0]; rfl
  rw [h0] at hem
  have hem2 : s.toList.isEmpty=true := hem
  clear hem hD
  go_enter Tryz.func52,Tryz.ntmps52
  go_wp2
  go_ret
  exact ⟨Below.refl _ _,by rw [HL.out]; rfl⟩
 ·have hem2 : s.toList.isEmpty=false := by rw [hem,List.isEmpty_eq_false_iff]; exact h0
  have hT := Any.strings_Trim_ascii Tryz.lays160 Tryz.zeroSet (by kernel_rfl) s tenDigits w (by omega) (by decide) Nc
  obtain ⟨t,ht⟩ : ∃ t : ByteArray,(⟨(Lib.trimS s.data.toList tenDigits.data.toList).toArray⟩ : ByteArray)=t := ⟨_,rfl⟩
  have HTT : Hid (D=t.toList.isEmpty) := by
   show D=_
   rw [← hD,emp t,← ht]
   show _=List.isEmpty (Lib.trimS s.data.toList tenDigits.data.toList)
   rw [Bool.eq_iff_iff,List.isEmpty_iff,EL,ten_dg]
   unfold ZV
   rw [List.isEmpty_eq_false_iff.2 h0]
   simp
  rw [ht] at hT
  clear hem hD ht
  go_enter Tryz.func52,Tryz.ntmps52
  go_wp2_with fail
  refine Calls.mono (show Calls Tryz.prog 53 #[.string s,.string ⟨#[48,49,50,51,52,53,54,55,56,57]⟩] w _ from hT) ?_
  rintro e w1 ⟨rfl,hb⟩
  have HB := Qb hb
  clear hb hT
  go_wp2
  go_ret
  exact ⟨HB.out,by rw [HTT.out]; rfl⟩
end Go.Proofs.YthhnabccdehmgaaGreatDoor
/- RA -/
namespace Go.Proofs.YthhnabccdehmgaaGreatDoor
open Go.RowKit Cx
attribute [local go_sem ↓] Go.wp_at_zero Go.wp_at_succ
theorem Pp (s : ByteArray) : Lib.indexB s ⟨#[47]⟩=Lib.indexByte s.data.toList 47 := Lib.index_one s.data.toList 47
theorem KJ {s : ByteArray} (k : Nat) (h : JV s.data.toList=none) : Lib.splitB ⟨#[47]⟩ 0 k s=[s] := by
 apply Lib.splitB_miss
 rw [Pp]
 unfold JV at h
 split at h
 ·rename_i hn
  have := Lib.indexByte_ge s.data.toList 47
  omega
 ·cases h
theorem Cg {s : ByteArray} {i : Nat} (h : JV s.data.toList=some i) : Lib.splitB ⟨#[47]⟩ 0 1 s=[s.extract 0 i,s.extract (i+1) s.size] := by
 have h2 := (Tw h).2
 rw [← Pp] at h2
 rw [Lib.splitB_hit _ _ _ _ i h2]
 rfl
theorem Rm (s : ByteArray) (w : World) (hm : MaxL w) (hs : s.size < 4294967281) :
  Calls Tryz.prog 51 #[.string s,.string ⟨#[47]⟩,.int .i64 2] w fun e w' => Below w.heap.size w w' ∧
   ((JV s.data.toList=none∧∃ cap,e=.returned (.slice (some ⟨w.heap.size,0,none⟩) 1 cap)∧1≤cap∧cap≤2∧w'.cell? ⟨w.heap.size,0,none⟩=some (.string s)) ∨
   (∃ i a b,JV s.data.toList=some i∧e=.returned (.slice (some ⟨w.heap.size,0,none⟩) 2 2)∧w'.cell? ⟨w.heap.size,0,none⟩=some (.string a)∧w'.cell? ⟨w.heap.size,1,none⟩=some (.string b)∧a.data.toList=Xc s.data.toList∧b.data.toList=ZC s.data.toList∧a.size≤s.size∧b.size≤s.size)) := by
 obtain ⟨m,hm⟩ := hm
 refine Calls.mono (show Calls Tryz.prog 51 #[.string s,.string ⟨#[47]⟩,.int .i64 2] w _ from Tryz.strings_SplitN s ⟨#[47]⟩ 2 m w hs hm (by decide) (by decide) (by decide)) ?_
 rintro e w' ⟨rfl,rfl⟩
 refine ⟨Qg _ _,?_⟩
 rcases hb : JV s.data.toList with _ | i
 ·left
  refine ⟨rfl,min 2 (s.size+1),?_,by omega,by omega,?_⟩
  ·rw [KJ _ hb]
   rfl
  ·rw [KJ _ hb,World.cell?_alloc_at _ _ _ _ (by simp)]
   simp [Lib.cellsOf]
 ·right
  have hi := (Tw hb).1
  have hi2 : i < s.size := by simpa using hi
  have e1 : min 2 (s.size+1)=2 := by omega
  rw [e1,show (2 - 1 : Nat)=1 from rfl,Cg hb]
  refine ⟨i,s.extract 0 i,s.extract (i+1) s.size,rfl,rfl,?_,?_,?_,?_,?_,?_⟩
  ·rw [World.cell?_alloc_at _ _ _ _ (by simp)]
   simp [Lib.cellsOf]
  ·rw [World.cell?_alloc_at _ _ _ _ (by simp)]
   simp [Lib.cellsOf]
  ·unfold Xc; rw [hb,Oe]
  ·unfold ZC; rw [hb,YG]
  ·rw [ByteArray.size_extract]; omega
  ·rw [ByteArray.size_extract]; omega
theorem RV.nought (w : World) : RV (w.alloc (.cells #[.bool false,.slice none 0 0,.bool false,.slice none 0 0] 34)) w.heap.size 0 :=
 ⟨none,0,0,none,0,0,Blk.new _ _ _,⟨[],NatV.nil _ _ _,Or.inl rfl,rfl⟩,Or.inr ⟨rfl,rfl⟩⟩
theorem Mf {l : List UInt8} (h : ZV (Xc (QG l))=false) : rd l=0 := by
 unfold rd
 rw [h]
 simp
theorem Lp {l : List UInt8} (h : ZV (ZC (QG l))=false) : rd l=0 := by
 unfold rd
 rw [h]
 simp
theorem GI {l : List UInt8} (h : dv (ZC (QG l))=0) : rd l=0 := by
 unfold rd
 rw [h,Rat.mkRat_zero]
 simp
theorem Lx {l : List UInt8} (hn : Uk l=false) (h1 : ZV (Xc (QG l))=true) (h2 : ZV (ZC (QG l))=true) : rd l=mkRat (dv (Xc (QG l)) : Int) (dv (ZC (QG l))) := by
 unfold rd
 rw [h1,h2,hn]
 simp [sg]
theorem Ht {l : List UInt8} (hn : Uk l=true) (h1 : ZV (Xc (QG l))=true) (h2 : ZV (ZC (QG l))=true) : rd l=-mkRat (dv (Xc (QG l)) : Int) (dv (ZC (QG l))) := by
 unfold rd
 rw [h1,h2,hn,Rat.neg_mkRat]
 simp [sg]
theorem KP {l : List UInt8} (h : Uk l=false) : QG l=l := by
 unfold QG Lib.trimPrefix
 unfold Uk at h
 rw [h]
 rfl
theorem Ih {s : ByteArray} (h : Uk s.data.toList=true) : (s.extract 1 s.size).data.toList=QG s.data.toList∧1≤s.size := by
 refine ⟨?_,?_⟩
 ·unfold QG Lib.trimPrefix
  unfold Uk at h
  rw [h,YG]
  rfl
 ·rcases Nat.eq_zero_or_pos s.size with h0 | h0
  ·exfalso
   have : s.data.toList=[] := List.length_eq_zero_iff.1 (by simpa using h0)
   rw [this] at h
   cases h
  ·exact h0
theorem Bx {l : List UInt8} (h : JV l=none) : Xc l=l∧ZV (ZC l)=true∧dv (ZC l)=1 := by
 unfold Xc ZC
 rw [h]
 exact ⟨rfl,rfl,rfl⟩
theorem JU {t : ByteArray} (h : ZV t.data.toList=true) (hs : t.size≤4294967280) {k : Nat} (hk : 17179869120≤k) : dv t.data.toList < 2 ^ k := by
 refine Nat.lt_of_lt_of_le (Co h) (Nat.pow_le_pow_right (by decide) ?_)
 have : t.data.toList.length=t.size := by simp
 omega
theorem FD {w : World} {g : Nat} (hk : Blk w g #[.bool false,.slice none 0 0] 32) : XY w g := ⟨_,_,hk,by simp [Qk]⟩
theorem EE (s : ByteArray) (w : World) (hm : MaxL w) (hs : s.size≤4294967280) (hng : Uk s.data.toList=false) :
  Calls Tryz.prog 13 #[.string s] w fun e w' => Below w.heap.size w w'∧∃ g,e=.returned (.pointer (some ⟨g,0,none⟩))∧w.heap.size≤g∧RV w' g (rd s.data.toList) := by
 have HM := Qb hm
 have HNG : Hid (Lib.hasPrefix s.data.toList (⟨#[45]⟩ : ByteArray).data.toList=false) := hng
 have HNG2 := Qb hng
 obtain ⟨K,hK1,hK2⟩ : ∃ K : Nat,17179869120≤K∧K≤17179869121 := ⟨17179869120,by decide,by decide⟩
 generalize hQ : rd s.data.toList=Q
 have HQ := Qb hQ
 have HTL : Hid (s.data.toList=QG s.data.toList) := (KP hng).symm
 have hts : s.size≤4294967280 := hs
 clear hm hng hQ
 go_enter Tryz.func13,Tryz.ntmps13
 go_wp2_with fail
 refine (Tryz.strings_HasPrefix s ⟨#[45]⟩ w).mono ?_
 rintro e w1 ⟨rfl,hw1⟩
 have hw2 := hw1.symm; subst hw2; clear hw1
 rw [HNG.out]
 go_wp2_with fail
 refine (Rm s w HM.out (by omega)).mono ?_
 rintro e w1 ⟨hb1,⟨hbar,cap,rfl,hc1,hc2,hcell⟩ | ⟨i,a,b,hbar,rfl,hca,hcb,ha,hb,has,hbs⟩⟩
 ·have HB1 := Qb hb1
  obtain ⟨hup,hlo,hl1⟩ := Bx hbar
  have HUP : Hid (Xc (QG s.data.toList)=s.data.toList∧ZV (ZC (QG s.data.toList))=true∧dv (ZC (QG s.data.toList))=1) := by
   rw [← HTL.out]
   exact ⟨hup,hlo,hl1⟩
  have hlw : w.heap.size < w1.heap.size := Xr hcell
  clear hb1 hbar hup hlo hl1
  rcases hd : ZV s.data.toList with _ | _
  ·have HD := Qb hd
   clear hd
   go_wp2_with fail
   refine (Qx s w1 (by omega)).mono ?_
   rintro e w2 ⟨hb_w2,rfl⟩
   rw [HD.out]
   have HCw2 := Qb (Qp (Below.refl _ _) hb_w2)
   clear hb_w2
   go_wp2
   go_ret
   exact ⟨Below.new (Qp HB1.out HCw2.out) _,_,rfl,((Qp HB1.out HCw2.out)).size,by rw [← HQ.out,Mf (by rw [HUP.out.1]; exact HD.out)]; exact RV.nought _⟩
  ·have HD := Qb hd
   clear hd
   go_wp2_with fail
   refine (Qx s w1 (by omega)).mono ?_
   rintro e w2 ⟨hb_w2,rfl⟩
   rw [HD.out]
   have HCw2 := Qb (Qp (Below.refl _ _) hb_w2)
   clear hb_w2
   have hcell2 := (HCw2.out.cell (p := ⟨w.heap.size,0,none⟩) hlw).trans hcell
   have hlw2 : w.heap.size < w2.heap.size := Xr hcell2
   go_wp2_with fail
   refine (Jm (s := s) (Blk.new w2 _ _) HD.out (by omega)).mono ?_
   rintro e w5 ⟨rfl,hs5,ho5⟩
   have H5 := Qb (And.intro (QQ (Below.new (Qp HB1.out HCw2.out) _) hs5 (Qp HB1.out HCw2.out).size) ho5)
   clear hs5 ho5
   go_wp2_with fail
   refine (Zw 1 (by decide) w5).mono ?_
   rintro e w6 ⟨hb6,gd,rfl,hgd,ho6⟩
   have H6 := Qb (And.intro (Qp H5.out.1 hb6) (And.intro (H5.out.2.below hb6) ho6))
   clear hb6 ho6
   go_wp2_with fail
   refine (Zi (z := (dv s.data.toList : Int)) (b := 1) (Blk.new w6 _ _) (by simp [Qk]) (Own2.iv (Zx _ H6.out.2.1)) (Own2.iv (Zx _ H6.out.2.2)) (by decide) (by rw [Int.natAbs_natCast]; exact Qq (k := K) (JU HD.out (by omega) (by omega)) (by omega)) (Qq (k := 1) (by decide) (by decide))).mono ?_
   rintro e w8 ⟨rfl,hs8,hr8⟩
   have H8 := Qb (And.intro (QQ (Below.new H6.out.1 _) hs8 H6.out.1.size) hr8)
   clear hs8 hr8
   go_wp2
   go_ret
   exact ⟨H8.out.1,_,rfl,H6.out.1.size,by rw [← HQ.out,Lx HNG2.out (by rw [HUP.out.1]; exact HD.out) HUP.out.2.1,HUP.out.1,HUP.out.2.2]; exact H8.out.2⟩
 ·have HB1 := Qb hb1
  have HUP : Hid (Xc (QG s.data.toList)=a.data.toList∧ZC (QG s.data.toList)=b.data.toList) := by
   rw [← HTL.out]
   exact ⟨ha.symm,hb.symm⟩
  have hlw : w.heap.size < w1.heap.size := Xr hca
  clear hb1 hbar ha hb
  rcases hd : ZV a.data.toList with _ | _
  ·have HD := Qb hd
   clear hd
   go_wp2_with fail
   refine (Qx a w1 (by omega)).mono ?_
   rintro e w2 ⟨hb_w2,rfl⟩
   rw [HD.out]
   have HCw2 := Qb (Qp (Below.refl _ _) hb_w2)
   clear hb_w2
   go_wp2
   go_ret
   exact ⟨Below.new (Qp HB1.out HCw2.out) _,_,rfl,((Qp HB1.out HCw2.out)).size,by rw [← HQ.out,Mf (by rw [HUP.out.1]; exact HD.out)]; exact RV.nought _⟩
  ·have HD := Qb hd
   clear hd
   rcases hd2 : ZV b.data.toList with _ | _
   ·have HD2 := Qb hd2
    clear hd2
    go_wp2_with fail
    refine (Qx a w1 (by omega)).mono ?_
    rintro e w2 ⟨hb_w2,rfl⟩
    rw [HD.out]
    have HCw2 := Qb (Qp (Below.refl _ _) hb_w2)
    clear hb_w2
    have hcb2 := (HCw2.out.cell (p := ⟨w.heap.size,1,none⟩) hlw).trans hcb
    go_wp2_with fail
    refine (Qx b w2 (by omega)).mono ?_
    rintro e w3 ⟨hb_w3,rfl⟩
    rw [HD2.out]
    have HCw3 := Qb (Qp HCw2.out hb_w3)
    clear hb_w3
    go_wp2
    go_ret
    exact ⟨Below.new (Qp HB1.out HCw3.out) _,_,rfl,((Qp HB1.out HCw3.out)).size,by rw [← HQ.out,Lp (by rw [HUP.out.2]; exact HD2.out)]; exact RV.nought _⟩
   ·have HD2 := Qb hd2
    clear hd2
    by_cases hz : dv b.data.toList=0
    ·have HZ : Hid ((Lib.trimB b.data.toList 48).isEmpty=true) := by
      show _=_
      rw [List.isEmpty_iff,Wl,Ir (JP HD2.out)]
      exact hz
     have HZ0 := Qb hz
     clear hz
     go_wp2_with fail
     refine (Qx a w1 (by omega)).mono ?_
     rintro e w2 ⟨hb_w2,rfl⟩
     rw [HD.out]
     have HCw2 := Qb (Qp (Below.refl _ _) hb_w2)
     clear hb_w2
     have hcb2 := (HCw2.out.cell (p := ⟨w.heap.size,1,none⟩) hlw).trans hcb
     go_wp2_with fail
     refine (Qx b w2 (by omega)).mono ?_
     rintro e w3 ⟨hb_w3,rfl⟩
     rw [HD2.out]
     have HCw3 := Qb (Qp HCw2.out hb_w3)
     clear hb_w3
     have hcb3 := (HCw3.out.cell (p := ⟨w.heap.size,1,none⟩) hlw).trans hcb
     go_wp2_with fail
     refine (Tryz.strings_Trim_one b 48 (by decide) w3 (by omega)).mono ?_
     obtain ⟨tb,htb⟩ : ∃ tb : ByteArray,(⟨(Lib.trimB b.data.toList 48).toArray⟩ : ByteArray)=tb := ⟨_,rfl⟩
     have hem : tb.toList.isEmpty=true := by
      rw [emp,← htb]
      exact HZ.out
     rw [htb]
     clear htb
     rintro e w4 ⟨rfl,hw4⟩
     have HCw4 : Hid (Below w1.heap.size w1 w4) := by
      rcases hw4 with rfl | rfl
      ·exact HCw3.out
      ·exact Below.drew HCw3.out
     clear hw4
     go_wp2
     go_ret
     exact ⟨Below.new (Qp HB1.out HCw4.out) _,_,rfl,((Qp HB1.out HCw4.out)).size,by rw [← HQ.out,GI (by rw [HUP.out.2]; exact HZ0.out)]; exact RV.nought _⟩
    ·have HZ : Hid ((Lib.trimB b.data.toList 48).isEmpty=false) := by
      show _=_
      rw [List.isEmpty_eq_false_iff,Ne,Wl,Ir (JP HD2.out)]
      exact hz
     have HZ0 : Hid (0 < dv b.data.toList) := Nat.pos_of_ne_zero hz
     clear hz
     go_wp2_with fail
     refine (Qx a w1 (by omega)).mono ?_
     rintro e w2 ⟨hb_w2,rfl⟩
     rw [HD.out]
     have HCw2 := Qb (Qp (Below.refl _ _) hb_w2)
     clear hb_w2
     have hcb2 := (HCw2.out.cell (p := ⟨w.heap.size,1,none⟩) hlw).trans hcb
     go_wp2_with fail
     refine (Qx b w2 (by omega)).mono ?_
     rintro e w3 ⟨hb_w3,rfl⟩
     rw [HD2.out]
     have HCw3 := Qb (Qp HCw2.out hb_w3)
     clear hb_w3
     have hcb3 := (HCw3.out.cell (p := ⟨w.heap.size,1,none⟩) hlw).trans hcb
     go_wp2_with fail
     refine (Tryz.strings_Trim_one b 48 (by decide) w3 (by omega)).mono ?_
     obtain ⟨tb,htb⟩ : ∃ tb : ByteArray,(⟨(Lib.trimB b.data.toList 48).toArray⟩ : ByteArray)=tb := ⟨_,rfl⟩
     have hem : tb.toList.isEmpty=false := by
      rw [emp,← htb]
      exact HZ.out
     rw [htb]
     clear htb
     rintro e w4 ⟨rfl,hw4⟩
     have HCw4 : Hid (Below w1.heap.size w1 w4) := by
      rcases hw4 with rfl | rfl
      ·exact HCw3.out
      ·exact Below.drew HCw3.out
     clear hw4
     have hca4 := (HCw4.out.cell (p := ⟨w.heap.size,0,none⟩) hlw).trans hca
     have hlw4 : w.heap.size < w4.heap.size := Xr hca4
     go_wp2_with fail
     refine (Jm (s := a) (Blk.new w4 _ _) HD.out (by omega)).mono ?_
     rintro e w5 ⟨rfl,hs5,ho5⟩
     have H5 := Qb (And.intro (QQ (Below.new HCw4.out _) hs5 HCw4.out.size) ho5)
     clear hs5 ho5
     go_wp2_with fail
     refine (Zw 1 (by decide) w5).mono ?_
     rintro e w6 ⟨hb6,gd,rfl,hgd,ho6⟩
     have H6 := Qb (And.intro (Qp H5.out.1 hb6) (H5.out.2.below hb6))
     have hcb6 := (H6.out.1.cell (p := ⟨w.heap.size,1,none⟩) hlw).trans hcb
     have hlw6 : w.heap.size < w6.heap.size := Xr hcb6
     clear hb6 ho6
     go_wp2_with fail
     refine (Jm (s := b) (Blk.new w6 _ _) HD2.out (by omega)).mono ?_
     rintro e w7 ⟨rfl,hs7,ho7⟩
     have H7 := Qb (And.intro (Qp HB1.out (QQ (Below.new H6.out.1 _) hs7 H6.out.1.size)) (And.intro (Ut hs7 (FD (Blk.new w6 _ _)) (Zx _ H6.out.2) (by have := H6.out.2.lt; omega)) ho7))
     clear hs7 ho7
     go_wp2_with fail
     refine (Zi (z := (dv a.data.toList : Int)) (b := dv b.data.toList) (Blk.new w7 _ _) (by simp [Qk]) (Own2.iv (Zx _ H7.out.2.1)) (Own2.iv (Zx _ H7.out.2.2)) HZ0.out (by rw [Int.natAbs_natCast]; exact Qq (k := K) (JU HD.out (by omega) (by omega)) (by omega)) (Qq (k := K) (JU HD2.out (by omega) (by omega)) (by omega))).mono ?_
     rintro e w8 ⟨rfl,hs8,hr8⟩
     have H8 := Qb (And.intro (QQ (Below.new H7.out.1 _) hs8 H7.out.1.size) hr8)
     clear hs8 hr8
     go_wp2
     go_ret
     exact ⟨H8.out.1,_,rfl,H7.out.1.size,by rw [← HQ.out,Lx HNG2.out (by rw [HUP.out.1]; exact HD.out) (by rw [HUP.out.2]; exact HD2.out),HUP.out.1,HUP.out.2]; exact H8.out.2⟩
theorem EY (s : ByteArray) (w : World) (hm : MaxL w) (hs : s.size≤4294967280) (hng : Uk s.data.toList=true) :
  Calls Tryz.prog 13 #[.string s] w fun e w' => Below w.heap.size w w'∧∃ g,e=.returned (.pointer (some ⟨g,0,none⟩))∧w.heap.size≤g∧RV w' g (rd s.data.toList) := by
 have HM := Qb hm
 have HNG : Hid (Lib.hasPrefix s.data.toList (⟨#[45]⟩ : ByteArray).data.toList=true) := hng
 have HNG2 := Qb hng
 obtain ⟨K,hK1,hK2⟩ : ∃ K : Nat,17179869120≤K∧K≤17179869121 := ⟨17179869120,by decide,by decide⟩
 generalize hQ : rd s.data.toList=Q
 have HQ := Qb hQ
 obtain ⟨htl,hs1⟩ := Ih hng
 have HTL := Qb htl
 have hts : (s.extract 1 s.size).size≤4294967280 := by rw [ByteArray.size_extract]; omega
 clear htl
 clear hm hng hQ
 go_enter Tryz.func13,Tryz.ntmps13
 go_wp2_with fail
 refine (Tryz.strings_HasPrefix s ⟨#[45]⟩ w).mono ?_
 rintro e w1 ⟨rfl,hw1⟩
 have hw2 := hw1.symm; subst hw2; clear hw1
 rw [HNG.out]
 go_wp2_with fail
 generalize s.extract 1 s.size=t at *
 refine (Rm t w HM.out (by omega)).mono ?_
 rintro e w1 ⟨hb1,⟨hbar,cap,rfl,hc1,hc2,hcell⟩ | ⟨i,a,b,hbar,rfl,hca,hcb,ha,hb,has,hbs⟩⟩
 ·have HB1 := Qb hb1
  obtain ⟨hup,hlo,hl1⟩ := Bx hbar
  have HUP : Hid (Xc (QG s.data.toList)=t.data.toList∧ZV (ZC (QG s.data.toList))=true∧dv (ZC (QG s.data.toList))=1) := by
   rw [← HTL.out]
   exact ⟨hup,hlo,hl1⟩
  have hlw : w.heap.size < w1.heap.size := Xr hcell
  clear hb1 hbar hup hlo hl1
  rcases hd : ZV t.data.toList with _ | _
  ·have HD := Qb hd
   clear hd
   go_wp2_with fail
   refine (Qx t w1 (by omega)).mono ?_
   rintro e w2 ⟨hb_w2,rfl⟩
   rw [HD.out]
   have HCw2 := Qb (Qp (Below.refl _ _) hb_w2)
   clear hb_w2
   go_wp2
   go_ret
   exact ⟨Below.new (Qp HB1.out HCw2.out) _,_,rfl,((Qp HB1.out HCw2.out)).size,by rw [← HQ.out,Mf (by rw [HUP.out.1]; exact HD.out)]; exact RV.nought _⟩
  ·have HD := Qb hd
   clear hd
   go_wp2_with fail
   refine (Qx t w1 (by omega)).mono ?_
   rintro e w2 ⟨hb_w2,rfl⟩
   rw [HD.out]
   have HCw2 := Qb (Qp (Below.refl _ _) hb_w2)
   clear hb_w2
   have hcell2 := (HCw2.out.cell (p := ⟨w.heap.size,0,none⟩) hlw).trans hcell
   have hlw2 : w.heap.size < w2.heap.size := Xr hcell2
   go_wp2_with fail
   refine (Jm (s := t) (Blk.new w2 _ _) HD.out (by omega)).mono ?_
   rintro e w5 ⟨rfl,hs5,ho5⟩
   have H5 := Qb (And.intro (QQ (Below.new (Qp HB1.out HCw2.out) _) hs5 (Qp HB1.out HCw2.out).size) ho5)
   clear hs5 ho5
   go_wp2_with fail
   refine (Zw 1 (by decide) w5).mono ?_
   rintro e w6 ⟨hb6,gd,rfl,hgd,ho6⟩
   have H6 := Qb (And.intro (Qp H5.out.1 hb6) (And.intro (H5.out.2.below hb6) ho6))
   clear hb6 ho6
   go_wp2_with fail
   refine (Zi (z := (dv t.data.toList : Int)) (b := 1) (Blk.new w6 _ _) (by simp [Qk]) (Own2.iv (Zx _ H6.out.2.1)) (Own2.iv (Zx _ H6.out.2.2)) (by decide) (by rw [Int.natAbs_natCast]; exact Qq (k := K) (JU HD.out (by omega) (by omega)) (by omega)) (Qq (k := 1) (by decide) (by decide))).mono ?_
   rintro e w8 ⟨rfl,hs8,hr8⟩
   have H8 := Qb (And.intro (QQ (Below.new H6.out.1 _) hs8 H6.out.1.size) hr8)
   clear hs8 hr8
   obtain ⟨a1,l1,c1,a2,l2,c2,hk8,_,_⟩ := H8.out.2
   have HK8 := Qb hk8
   clear hk8
   have FR : Hid (QS (K+1) (mkRat (dv t.data.toList : Int) (1))) := QS.mkr (by rw [Int.natAbs_natCast]; exact JU HD.out (by omega) (by omega)) (Nat.one_lt_two_pow (by omega))
   go_wp2_with fail
   refine (Ia HK8.out (by simp [Qk]) H8.out.2 FR.out (by omega)).mono ?_
   rintro e w9 ⟨rfl,hs9,hr9⟩
   have H9 := Qb (And.intro (QQ H8.out.1 hs9 H6.out.1.size) hr9)
   clear hs9 hr9
   go_wp2
   go_ret
   exact ⟨H9.out.1,_,rfl,H6.out.1.size,by rw [← HQ.out,Ht HNG2.out (by rw [HUP.out.1]; exact HD.out) HUP.out.2.1,HUP.out.1,HUP.out.2.2]; exact H9.out.2⟩
 ·have HB1 := Qb hb1
  have HUP : Hid (Xc (QG s.data.toList)=a.data.toList∧ZC (QG s.data.toList)=b.data.toList) := by
   rw [← HTL.out]
   exact ⟨ha.symm,hb.symm⟩
  have hlw : w.heap.size < w1.heap.size := Xr hca
  clear hb1 hbar ha hb
  rcases hd : ZV a.data.toList with _ | _
  ·have HD := Qb hd
   clear hd
   go_wp2_with fail
   refine (Qx a w1 (by omega)).mono ?_
   rintro e w2 ⟨hb_w2,rfl⟩
   rw [HD.out]
   have HCw2 := Qb (Qp (Below.refl _ _) hb_w2)
   clear hb_w2
   go_wp2
   go_ret
   exact ⟨Below.new (Qp HB1.out HCw2.out) _,_,rfl,((Qp HB1.out HCw2.out)).size,by rw [← HQ.out,Mf (by rw [HUP.out.1]; exact HD.out)]; exact RV.nought _⟩
  ·have HD := Qb hd
   clear hd
   rcases hd2 : ZV b.data.toList with _ | _
   ·have HD2 := Qb hd2
    clear hd2
    go_wp2_with fail
    refine (Qx a w1 (by omega)).mono ?_
    rintro e w2 ⟨hb_w2,rfl⟩
    rw [HD.out]
    have HCw2 := Qb (Qp (Below.refl _ _) hb_w2)
    clear hb_w2
    have hcb2 := (HCw2.out.cell (p := ⟨w.heap.size,1,none⟩) hlw).trans hcb
    go_wp2_with fail
    refine (Qx b w2 (by omega)).mono ?_
    rintro e w3 ⟨hb_w3,rfl⟩
    rw [HD2.out]
    have HCw3 := Qb (Qp HCw2.out hb_w3)
    clear hb_w3
    go_wp2
    go_ret
    exact ⟨Below.new (Qp HB1.out HCw3.out) _,_,rfl,((Qp HB1.out HCw3.out)).size,by rw [← HQ.out,Lp (by rw [HUP.out.2]; exact HD2.out)]; exact RV.nought _⟩
   ·have HD2 := Qb hd2
    clear hd2
    by_cases hz : dv b.data.toList=0
    ·have HZ : Hid ((Lib.trimB b.data.toList 48).isEmpty=true) := by
      show _=_
      rw [List.isEmpty_iff,Wl,Ir (JP HD2.out)]
      exact hz
     have HZ0 := Qb hz
     clear hz
     go_wp2_with fail
     refine (Qx a w1 (by omega)).mono ?_
     rintro e w2 ⟨hb_w2,rfl⟩
     rw [HD.out]
     have HCw2 := Qb (Qp (Below.refl _ _) hb_w2)
     clear hb_w2
     have hcb2 := (HCw2.out.cell (p := ⟨w.heap.size,1,none⟩) hlw).trans hcb
     go_wp2_with fail
     refine (Qx b w2 (by omega)).mono ?_
     rintro e w3 ⟨hb_w3,rfl⟩
     rw [HD2.out]
     have HCw3 := Qb (Qp HCw2.out hb_w3)
     clear hb_w3
     have hcb3 := (HCw3.out.cell (p := ⟨w.heap.size,1,none⟩) hlw).trans hcb
     go_wp2_with fail
     refine (Tryz.strings_Trim_one b 48 (by decide) w3 (by omega)).mono ?_
     obtain ⟨tb,htb⟩ : ∃ tb : ByteArray,(⟨(Lib.trimB b.data.toList 48).toArray⟩ : ByteArray)=tb := ⟨_,rfl⟩
     have hem : tb.toList.isEmpty=true := by
      rw [emp,← htb]
      exact HZ.out
     rw [htb]
     clear htb
     rintro e w4 ⟨rfl,hw4⟩
     have HCw4 : Hid (Below w1.heap.size w1 w4) := by
      rcases hw4 with rfl | rfl
      ·exact HCw3.out
      ·exact Below.drew HCw3.out
     clear hw4
     go_wp2
     go_ret
     exact ⟨Below.new (Qp HB1.out HCw4.out) _,_,rfl,((Qp HB1.out HCw4.out)).size,by rw [← HQ.out,GI (by rw [HUP.out.2]; exact HZ0.out)]; exact RV.nought _⟩
    ·have HZ : Hid ((Lib.trimB b.data.toList 48).isEmpty=false) := by
      show _=_
      rw [List.isEmpty_eq_false_iff,Ne,Wl,Ir (JP HD2.out)]
      exact hz
     have HZ0 : Hid (0 < dv b.data.toList) := Nat.pos_of_ne_zero hz
     clear hz
     go_wp2_with fail
     refine (Qx a w1 (by omega)).mono ?_
     rintro e w2 ⟨hb_w2,rfl⟩
     rw [HD.out]
     have HCw2 := Qb (Qp (Below.refl _ _) hb_w2)
     clear hb_w2
     have hcb2 := (HCw2.out.cell (p := ⟨w.heap.size,1,none⟩) hlw).trans hcb
     go_wp2_with fail
     refine (Qx b w2 (by omega)).mono ?_
     rintro e w3 ⟨hb_w3,rfl⟩
     rw [HD2.out]
     have HCw3 := Qb (Qp HCw2.out hb_w3)
     clear hb_w3
     have hcb3 := (HCw3.out.cell (p := ⟨w.heap.size,1,none⟩) hlw).trans hcb
     go_wp2_with fail
     refine (Tryz.strings_Trim_one b 48 (by decide) w3 (by omega)).mono ?_
     obtain ⟨tb,htb⟩ : ∃ tb : ByteArray,(⟨(Lib.trimB b.data.toList 48).toArray⟩ : ByteArray)=tb := ⟨_,rfl⟩
     have hem : tb.toList.isEmpty=false := by
      rw [emp,← htb]
      exact HZ.out
     rw [htb]
     clear htb
     rintro e w4 ⟨rfl,hw4⟩
     have HCw4 : Hid (Below w1.heap.size w1 w4) := by
      rcases hw4 with rfl | rfl
      ·exact HCw3.out
      ·exact Below.drew HCw3.out
     clear hw4
     have hca4 := (HCw4.out.cell (p := ⟨w.heap.size,0,none⟩) hlw).trans hca
     have hlw4 : w.heap.size < w4.heap.size := Xr hca4
     go_wp2_with fail
     refine (Jm (s := a) (Blk.new w4 _ _) HD.out (by omega)).mono ?_
     rintro e w5 ⟨rfl,hs5,ho5⟩
     have H5 := Qb (And.intro (QQ (Below.new HCw4.out _) hs5 HCw4.out.size) ho5)
     clear hs5 ho5
     go_wp2_with fail
     refine (Zw 1 (by decide) w5).mono ?_
     rintro e w6 ⟨hb6,gd,rfl,hgd,ho6⟩
     have H6 := Qb (And.intro (Qp H5.out.1 hb6) (H5.out.2.below hb6))
     have hcb6 := (H6.out.1.cell (p := ⟨w.heap.size,1,none⟩) hlw).trans hcb
     have hlw6 : w.heap.size < w6.heap.size := Xr hcb6
     clear hb6 ho6
     go_wp2_with fail
     refine (Jm (s := b) (Blk.new w6 _ _) HD2.out (by omega)).mono ?_
     rintro e w7 ⟨rfl,hs7,ho7⟩
     have H7 := Qb (And.intro (Qp HB1.out (QQ (Below.new H6.out.1 _) hs7 H6.out.1.size)) (And.intro (Ut hs7 (FD (Blk.new w6 _ _)) (Zx _ H6.out.2) (by have := H6.out.2.lt; omega)) ho7))
     clear hs7 ho7
     go_wp2_with fail
     refine (Zi (z := (dv a.data.toList : Int)) (b := dv b.data.toList) (Blk.new w7 _ _) (by simp [Qk]) (Own2.iv (Zx _ H7.out.2.1)) (Own2.iv (Zx _ H7.out.2.2)) HZ0.out (by rw [Int.natAbs_natCast]; exact Qq (k := K) (JU HD.out (by omega) (by omega)) (by omega)) (Qq (k := K) (JU HD2.out (by omega) (by omega)) (by omega))).mono ?_
     rintro e w8 ⟨rfl,hs8,hr8⟩
     have H8 := Qb (And.intro (QQ (Below.new H7.out.1 _) hs8 H7.out.1.size) hr8)
     clear hs8 hr8
     obtain ⟨a1,l1,c1,a2,l2,c2,hk8,_,_⟩ := H8.out.2
     have HK8 := Qb hk8
     clear hk8
     have FR : Hid (QS (K+1) (mkRat (dv a.data.toList : Int) (dv b.data.toList))) := QS.mkr (by rw [Int.natAbs_natCast]; exact JU HD.out (by omega) (by omega)) (JU HD2.out (by omega) (by omega))
     go_wp2_with fail
     refine (Ia HK8.out (by simp [Qk]) H8.out.2 FR.out (by omega)).mono ?_
     rintro e w9 ⟨rfl,hs9,hr9⟩
     have H9 := Qb (And.intro (QQ H8.out.1 hs9 H7.out.1.size) hr9)
     clear hs9 hr9
     go_wp2
     go_ret
     exact ⟨H9.out.1,_,rfl,H7.out.1.size,by rw [← HQ.out,Ht HNG2.out (by rw [HUP.out.1]; exact HD.out) (by rw [HUP.out.2]; exact HD2.out),HUP.out.1,HUP.out.2]; exact H9.out.2⟩
theorem SK (s : ByteArray) (w : World) (hm : MaxL w) (hs : s.size≤4294967280) :
  Calls Tryz.prog 13 #[.string s] w fun e w' => Below w.heap.size w w'∧∃ g,e=.returned (.pointer (some ⟨g,0,none⟩))∧w.heap.size≤g∧RV w' g (rd s.data.toList) := by
 rcases h : Uk s.data.toList with _ | _
 ·exact EE s w hm hs h
 ·exact EY s w hm hs h
end Go.Proofs.YthhnabccdehmgaaGreatDoor
/- RB -/
namespace Go.Proofs.YthhnabccdehmgaaGreatDoor
open Go.RowKit Cx
attribute [local go_sem ↓] Go.wp_at_zero Go.wp_at_succ
def PR (w : World) (v : Value) (q : Rat) : Prop := ∃ g,v=.pointer (some ⟨g,0,none⟩)∧RV w g q
theorem RV.part {w : World} {g : Nat} {q : Rat} (h : RV w g q) : ∃ y0 y1 y2 y3,Blk w g #[y0,y1,y2,y3] 34∧(#[y0,y1,y2,y3] : Array Value).all Qk=true := by
 obtain ⟨a1,l1,c1,a2,l2,c2,h0,_⟩ := h
 exact ⟨_,_,_,_,h0,by simp [Qk]⟩
theorem DQ {w : World} {px py : Value} {x y : Rat} {k l : Nat} (hx : PR w px x) (hy : PR w py y) (fx : QS k x) (fy : QS l y) (hkl : k+l+1≤35184372088640) :
  Calls Tryz.prog 112 #[px,py] w fun e w' => Below w.heap.size w w'∧∃ v,e=.returned v∧PR w' v (x - y) := by
 obtain ⟨gx,rfl,hx⟩ := hx
 obtain ⟨gy,rfl,hy⟩ := hy
 have HX := Qb hx
 have HY := Qb hy
 clear hx hy
 go_enter Tryz.func112,Tryz.ntmps112
 go_wp2_with fail
 refine (Dt (Blk.new w _ _) (by simp [Qk]) (HX.out.below (Qg _ _)) (HY.out.below (Qg _ _)) fx fy hkl).mono ?_
 rintro e w1 ⟨rfl,hs,hr⟩
 have H1 := Qb (And.intro (QQ (Qg _ _) hs (Nat.le_refl _)) hr)
 clear hs hr
 go_wp2
 go_ret
 exact ⟨H1.out.1,_,rfl,_,rfl,H1.out.2⟩
def Ea (w : World) (v : Value) (qs : List Rat) : Prop :=
 ∃ b off cap,v=.slice (some ⟨b,off,none⟩) qs.length cap∧b < w.heap.size∧∀ (j : Nat) (hj : j < qs.length),∃ p,w.cell? ⟨b,off+j,none⟩=some p∧PR w p (qs[j]'hj)
theorem Fm {b off n cap k : Nat} (hk : k < n) (wx : World) : (Instr.indexAt 85 (.slice (some ⟨b,off,none⟩) n cap) (.int .i64 k)).run Tryz.prog wx=.ok (.pointer (some ⟨b,off+k,none⟩)) wx := by
 have he : Tryz.prog.elem 85=28 := by simp [Program.elem,Tryz.underlying85]
 rw [run_indexAt_slice (h := by rw [he]; exact Tryz.underlying85),if_pos (by omega),he,Tryz.sizeOf28]
 simp [Result.andThen,Addr.add]
theorem Bb {w : World} {b off cap : Nat} {qs : List Rat} (h : Ea w (.slice (some ⟨b,off,none⟩) qs.length cap) qs) {K : Nat} (f : ∀ q ∈ qs,QS K q) (hn : qs.length≤2000000) (hk : qs.length*(K+1)+1≤35184372088640) :
  Calls Tryz.prog 9 #[.slice (some ⟨b,off,none⟩) qs.length cap] w fun e w' => Below w.heap.size w w'∧∃ v,e=.returned v∧PR w' v (rsum qs) := by
 have HR := Qd h
 have F := Qd f
 have HK := Qd hk
 clear h f hk
 go_enter Tryz.func9,Tryz.ntmps9
 go_wp2
 go_loopw [9] (fun i wr => ∃ k : Nat,k≤qs.length∧i=.int .i64 (k : Int)∧Below w.heap.size w wr∧RV wr w.heap.size (rsum (qs.take k))) (fun i _ => qs.length - (intOf i).toNat)
 case atStart =>
  refine ⟨0,Nat.zero_le _,rfl,Qg _ _,?_⟩
  rw [List.take_zero]
  exact RV.nought _
 case round =>
  obtain ⟨k,hkl,rfl,hbel,hq⟩ := hrel
  have HQ := Qb hq
  have HBL := Qb hbel
  clear hq hbel
  by_cases hend : k=qs.length
  ·subst hend
   go_wp2
   go_ret
   exact ⟨HBL.out,_,rfl,_,rfl,by have := HQ.out; rwa [List.take_length] at this⟩
  ·have hlt : k < qs.length := by omega
   have hidx := Fm (b := b) (off := off) (cap := cap) hlt
   obtain ⟨b',off',cap',e,hbl,hcells⟩ := HR.out
   cases e
   obtain ⟨p,hp,gx,rfl,hx⟩ := hcells k hlt
   have z0 := (HBL.out.cell (p := ⟨b,off+k,none⟩) hbl).trans hp
   have HX := Qb (hx.below HBL.out)
   have FS := Qd (QS.rsum F.out k)
   have FQ := Qd (F.out _ (List.getElem_mem hlt))
   have HKK : Hid (k*(K+1)+1+K+1≤35184372088640) := by
    have h1 := HK.out
    have h2 : (k+1)*(K+1)≤qs.length*(K+1) := Nat.mul_le_mul_right _ hlt
    rw [Nat.succ_mul] at h2
    show _≤_
    omega
   have HE := Qb (IM hlt)
   clear hp hx hcells
   obtain ⟨y0,y1,y2,y3,hkb,hno⟩ := RV.part HQ.out
   have HKB := Qb (And.intro hkb hno)
   clear hkb hno
   go_wp2_with fail
   refine (Ps HKB.out.1 HKB.out.2 HQ.out HX.out FS.out FQ.out HKK.out).mono ?_
   rintro e w2 ⟨rfl,hs,hr⟩
   have H2 := Qb (And.intro (QQ HBL.out hs (Nat.le_refl _)) hr)
   clear hs hr
   go_wp2
   go_roundw
   case rel => exact ⟨k+1,hlt,by go_num,H2.out.1,by rw [HE.out]; exact H2.out.2⟩
   case measure => simp [intOf]; omega
theorem Ie {w : World} {v : Value} {qs : List Rat} (h : Ea w v qs) {K : Nat} (f : ∀ q ∈ qs,QS K q) (hn : qs.length≤2000000) (hk : qs.length*(K+1)+1≤35184372088640) :
  Calls Tryz.prog 9 #[v] w fun e w' => Below w.heap.size w w'∧∃ v',e=.returned v'∧PR w' v' (rsum qs) := by
 have h' := h
 obtain ⟨b,off,cap,rfl,_⟩ := h
 exact Bb h' f hn hk
def rprod (qs : List Rat) : Rat := qs.foldl (fun a q => a*q) 1
theorem KA {qs : List Rat} {k : Nat} (h : k < qs.length) : rprod (qs.take (k+1))=rprod (qs.take k)*qs[k] := by
 unfold rprod
 rw [List.take_succ_eq_append_getElem h,List.foldl_append]
 rfl
theorem QS.rprod {K : Nat} : ∀ {qs : List Rat} (_ : ∀ q ∈ qs,QS K q) (k : Nat),QS (k*(K+1)+1) (rprod (qs.take k))
 | qs,_,0 => by
  rw [List.take_zero]
  exact QS.mono (k := 1) ⟨by decide,by decide⟩ (by omega)
 | qs,h,k+1 => by
  have ih := QS.rprod h k
  by_cases hk : k < qs.length
  ·rw [KA hk]
   refine (ih.mul (h _ (List.getElem_mem hk))).mono ?_
   rw [Nat.succ_mul]; omega
  ·rw [List.take_of_length_le (by omega)]
   rw [List.take_of_length_le (by omega)] at ih
   exact ih.mono (by rw [Nat.succ_mul]; omega)
theorem Sg {w : World} {b off cap : Nat} {qs : List Rat} (h : Ea w (.slice (some ⟨b,off,none⟩) qs.length cap) qs) {K : Nat} (f : ∀ q ∈ qs,QS K q) (hn : qs.length≤2000000) (hk : qs.length*(K+1)+1≤35184372088640) :
  Calls Tryz.prog 14 #[.slice (some ⟨b,off,none⟩) qs.length cap] w fun e w' => Below w.heap.size w w'∧∃ v,e=.returned v∧PR w' v (rprod qs) := by
 have HR := Qd h
 have F := Qd f
 have HK := Qd hk
 clear h f hk
 go_enter Tryz.func14,Tryz.ntmps14
 go_wp2_with fail
 refine (Ou 1 (by decide) w).mono ?_
 rintro e w0 ⟨hb0,g0,rfl,hg0,hr0⟩
 have H0 := Qb (And.intro hb0 hr0)
 clear hb0 hr0
 go_wp2
 go_loopw [9] (fun i wr => ∃ k : Nat,k≤qs.length∧i=.int .i64 (k : Int)∧Below w.heap.size w wr∧RV wr g0 (rprod (qs.take k))) (fun i _ => qs.length - (intOf i).toNat)
 case atStart =>
  refine ⟨0,Nat.zero_le _,rfl,H0.out.1,?_⟩
  rw [List.take_zero]
  exact H0.out.2
 case round =>
  obtain ⟨k,hkl,rfl,hbel,hq⟩ := hrel
  have HQ := Qb hq
  have HBL := Qb hbel
  clear hq hbel
  by_cases hend : k=qs.length
  ·subst hend
   go_wp2
   go_ret
   exact ⟨HBL.out,_,rfl,_,rfl,by have := HQ.out; rwa [List.take_length] at this⟩
  ·have hlt : k < qs.length := by omega
   have hidx := Fm (b := b) (off := off) (cap := cap) hlt
   obtain ⟨b',off',cap',e,hbl,hcells⟩ := HR.out
   cases e
   obtain ⟨p,hp,gx,rfl,hx⟩ := hcells k hlt
   have z0 := (HBL.out.cell (p := ⟨b,off+k,none⟩) hbl).trans hp
   have HX := Qb (hx.below HBL.out)
   have FS := Qd (QS.rprod F.out k)
   have FQ := Qd (F.out _ (List.getElem_mem hlt))
   have HKK : Hid (k*(K+1)+1+K+1≤35184372088640) := by
    have h1 := HK.out
    have h2 : (k+1)*(K+1)≤qs.length*(K+1) := Nat.mul_le_mul_right _ hlt
    rw [Nat.succ_mul] at h2
    show _≤_
    omega
   have HE := Qb (KA hlt)
   clear hp hx hcells
   obtain ⟨y0,y1,y2,y3,hkb,hno⟩ := RV.part HQ.out
   have HKB := Qb (And.intro hkb hno)
   clear hkb hno
   go_wp2_with fail
   refine (Db HKB.out.1 HKB.out.2 HQ.out HX.out FS.out FQ.out HKK.out).mono ?_
   rintro e w2 ⟨rfl,hs,hr⟩
   have H2 := Qb (And.intro (QQ HBL.out hs hg0) hr)
   clear hs hr
   go_wp2
   go_roundw
   case rel => exact ⟨k+1,hlt,by go_num,H2.out.1,by rw [HE.out]; exact H2.out.2⟩
   case measure => simp [intOf]; omega
theorem DI {w : World} {v : Value} {qs : List Rat} (h : Ea w v qs) {K : Nat} (f : ∀ q ∈ qs,QS K q) (hn : qs.length≤2000000) (hk : qs.length*(K+1)+1≤35184372088640) :
  Calls Tryz.prog 14 #[v] w fun e w' => Below w.heap.size w w'∧∃ v',e=.returned v'∧PR w' v' (rprod qs) := by
 have h' := h
 obtain ⟨b,off,cap,rfl,_⟩ := h
 exact Sg h' f hn hk
end Go.Proofs.YthhnabccdehmgaaGreatDoor
/- RC -/
namespace Go.Proofs.YthhnabccdehmgaaGreatDoor
open Go.RowKit Cx
attribute [local go_sem ↓] Go.wp_at_zero Go.wp_at_succ
end Go.Proofs.YthhnabccdehmgaaGreatDoor
/- RD -/
namespace Go.Proofs.YthhnabccdehmgaaGreatDoor
open Go.RowKit Cx
attribute [local go_sem ↓] Go.wp_at_zero Go.wp_at_succ
end Go.Proofs.YthhnabccdehmgaaGreatDoor
/- RF -/
namespace Go.Proofs.YthhnabccdehmgaaGreatDoor
open Go.RowKit Cx
attribute [local go_sem ↓] Go.wp_at_zero Go.wp_at_succ
theorem Il (x y : Rat) : (x.num*(y.den : Int)=y.num*(x.den : Int)) ↔ x=y := by
 constructor
 ·intro h
  have := (Rat.mkRat_eq_iff (n₁ := x.num) (n₂ := y.num) x.den_nz y.den_nz).2 h
  rwa [Rat.mkRat_self,Rat.mkRat_self] at this
 ·rintro rfl
  rfl
theorem Ib {w : World} {gx gy : Nat} {x y : Rat} {k l : Nat} (hx : RV w gx x) (hy : RV w gy y) (fx : QS k x) (fy : QS l y) (hkl : k+l+1≤35184372088640) :
  Calls Tryz.prog 25 #[.pointer (some ⟨gx,0,none⟩),.pointer (some ⟨gy,0,none⟩)] w fun e w' => Below w.heap.size w w'∧∃ c : Int,e=.returned (.int .i64 c)∧(c < 0 ↔ x.num*(y.den : Int) < y.num*(x.den : Int))∧(c=0 ↔ x=y) := by
 have LX := Qb hx.lt
 have LY := Qb hy.lt
 have HX := Qb hx
 have HY := Qb hy
 have SX := Qb (Zo fx (by omega))
 have SY := Qb (Zo fy (by omega))
 have DX := Qb (Zp fx (by omega))
 have DY := Qb (Zp fy (by omega))
 have SXY := Qb (ZZ fx fy hkl)
 have SYX := Qb (ZZ fy fx (by omega))
 clear hx hy fx fy
 go_enter Tryz.func25,Tryz.ntmps25
 go_wp2_with fail
 refine (QW HX.out).mono ?_
 rintro e wa ⟨hba,pa,rfl,hva,_⟩
 have HA := Qb (And.intro hba hva)
 clear hba hva
 go_wp2_with fail
 refine (QW (HY.out.below HA.out.1)).mono ?_
 rintro e wb ⟨hbb,pb,rfl,hvb,_⟩
 have HB := Qb (And.intro (Qp HA.out.1 hbb) (And.intro (HA.out.2.below hbb) hvb))
 clear hbb hvb
 go_wp2_with fail
 refine (Yr HB.out.2.1 HB.out.2.2 DX.out DY.out).mono ?_
 rintro e wc ⟨hbc,c,rfl,_,hc0⟩
 have HC := Qb (Qp HB.out.1 hbc)
 have HC0 := Qb hc0
 clear hbc hc0
 by_cases hcz : c=0
 ·subst hcz
  have hden : (x.den : Int)=y.den := HC0.out.1 rfl
  have HD := Qb hden
  clear hden
  go_wp2_with fail
  go_region_held3 (fun _ => True) (trivial)
   (first
    | (go_at_call 64; refine (Yr (RV.num (HX.out.below (Qp HC.out (by repeat' first | with_reducible exact Below.refl _ _ | with_reducible refine Below.drew ?_)))) (RV.num (HY.out.below (Qp HC.out (by repeat' first | with_reducible exact Below.refl _ _ | with_reducible refine Below.drew ?_)))) SX.out SY.out).mono ?_; rintro e wd ⟨hbd,c,rfl,h1,h2⟩; have hbe : Below wc.heap.size wc wd := Qp (by repeat' first | with_reducible exact Below.refl _ _ | with_reducible refine Below.drew ?_) hbd)
    )
  all_goals
   go_wp2
   go_ret
   have hp : (0 : Int) < y.den := by have := y.den_pos; omega
   refine ⟨Qp HC.out hbe,c,rfl,?_,?_⟩
   ·rw [h1,HD.out]
    exact (Int.mul_lt_mul_right hp).symm
   ·rw [h2,← Il,HD.out]
    exact (Int.mul_eq_mul_right_iff (by omega)).symm
 ·have hcb : (c == 0)=false := beq_eq_false_iff_ne.mpr hcz
  go_wp2_with fail
  have HXC := Qb (HX.out.below HC.out)
  have HYC := Qb (HY.out.below HC.out)
  have LXC := Qb HXC.out.lt
  have LYC := Qb HYC.out.lt
  go_region_held3 (fun _ => True) (trivial)
   (first
    | (go_at_call_of 60 (Value.pointer (some { block := gy,off := 0 })); refine (QW (HYC.out.below (by repeat' first | with_reducible exact Below.refl _ _ | with_reducible refine Below.new ?_ _ | with_reducible refine Below.drew ?_))).mono ?_; rintro e w1 ⟨hb1,p1,rfl,hv1,hap1⟩; have hbl1 : Below wc.heap.size wc w1 := Qp (by repeat' first | with_reducible exact Below.refl _ _ | with_reducible refine Below.new ?_ _ | with_reducible refine Below.drew ?_) hb1)
    | (go_at_call_of 16 (Value.pointer (some { block := gx,off := 0 })); have q0 := LXC.out; have q00 := LYC.out; have e1 := hb1.size; have d1 := hbl1.size; (try simp at e1); refine (Zf (by repeat' first | ((with_reducible refine JD ?_); (first | with_reducible rfl | (simp; done))) | with_reducible exact Blk.new _ _ _ | with_reducible refine Jj _ ?_ | with_reducible refine ZY ?_ | with_reducible refine Ze hb1 ?_ | (first | omega | (simp; done) | (simp; omega))) (RV.num (HXC.out.below (by repeat' first | with_reducible exact hbl1 | with_reducible exact Below.refl _ _ | with_reducible refine Below.new ?_ _ | with_reducible refine Below.drew ?_))) (show IV _ p1 (y.den : Int) from (by repeat' first | with_reducible exact hv1 | with_reducible refine Yl _ ?_ | with_reducible refine Xg ?_)) (ZI (by (first | omega | (simp; done) | (simp; omega)))) (by first | (refine hv1.apart ?_; (first | omega | (simp; done) | (simp; omega))) | (refine hap1 _ ?_ ?_ <;> (first | omega | (simp; done) | (simp; omega)))) SX.out DY.out).mono ?_; clear q0 q00 e1 d1; rintro e w2 ⟨rfl,hs2,ho2,hh2⟩; have hbl2 : Below wc.heap.size wc w2 := QQ (by repeat' first | with_reducible exact hbl1 | with_reducible exact Below.refl _ _ | with_reducible refine Below.new ?_ _ | with_reducible refine Below.drew ?_) hs2 (by have d1 := hbl1.size; (first | omega | (simp; done) | (simp; omega))))
    | (go_at_call_of 60 (Value.pointer (some { block := gx,off := 0 })); refine (QW (HXC.out.below (by repeat' first | with_reducible exact hbl2 | with_reducible exact hbl1 | with_reducible exact Below.refl _ _ | with_reducible refine Below.new ?_ _ | with_reducible refine Below.drew ?_))).mono ?_; rintro e w3 ⟨hb3,p3,rfl,hv3,hap3⟩; have hbl3 : Below wc.heap.size wc w3 := Qp (by repeat' first | with_reducible exact hbl2 | with_reducible exact hbl1 | with_reducible exact Below.refl _ _ | with_reducible refine Below.new ?_ _ | with_reducible refine Below.drew ?_) hb3)
    | (go_at_call_of 16 (Value.pointer (some { block := gy,off := 0 })); have q0 := LXC.out; have q00 := LYC.out; have e1 := hb1.size; have d1 := hbl1.size; (try simp at e1); have e2 := hs2.size; have d2 := hbl2.size; (try simp at e2); have e3 := hb3.size; have d3 := hbl3.size; (try simp at e3); have o2 := ho2.lt; refine (Zf (by repeat' first | ((with_reducible refine JD ?_); (first | with_reducible rfl | (simp; done))) | with_reducible exact Blk.new _ _ _ | with_reducible refine Jj _ ?_ | with_reducible refine ZY ?_ | with_reducible refine Ze hb3 ?_ | with_reducible refine XP hs2 ?_ ?_ | with_reducible refine Ze hb1 ?_ | (first | omega | (simp; done) | (simp; omega))) (RV.num (HYC.out.below (by repeat' first | with_reducible exact hbl3 | with_reducible exact hbl2 | with_reducible exact hbl1 | with_reducible exact Below.refl _ _ | with_reducible refine Below.new ?_ _ | with_reducible refine Below.drew ?_))) (show IV _ p3 (x.den : Int) from (by repeat' first | with_reducible exact hv3 | with_reducible refine Yl _ ?_ | with_reducible refine Xg ?_)) (ZI (by (first | omega | (simp; done) | (simp; omega)))) (by first | (refine hv3.apart ?_; (first | omega | (simp; done) | (simp; omega))) | (refine hap3 _ ?_ ?_ <;> (first | omega | (simp; done) | (simp; omega)))) SY.out DX.out).mono ?_; clear q0 q00 e1 d1 e2 d2 e3 d3 o2; rintro e w4 ⟨rfl,hs4,ho4,hh4⟩; have hbl4 : Below wc.heap.size wc w4 := QQ (by repeat' first | with_reducible exact hbl3 | with_reducible exact hbl2 | with_reducible exact hbl1 | with_reducible exact Below.refl _ _ | with_reducible refine Below.new ?_ _ | with_reducible refine Below.drew ?_) hs4 (by have d1 := hbl1.size; have d2 := hbl2.size; have d3 := hbl3.size; (first | omega | (simp; done) | (simp; omega))))
    | (go_at_call 64; have q0 := LXC.out; have q00 := LYC.out; have e1 := hb1.size; have d1 := hbl1.size; (try simp at e1); have e2 := hs2.size; have d2 := hbl2.size; (try simp at e2); have e3 := hb3.size; have d3 := hbl3.size; (try simp at e3); have e4 := hs4.size; have d4 := hbl4.size; (try simp at e4); have o2 := ho2.lt; have o4 := ho4.lt; refine (Yr (Own2.iv (by repeat' first | with_reducible exact ho2 | with_reducible refine Zx _ ?_ | with_reducible refine JI ?_ | with_reducible refine Ut hs4 hh4 ?_ ?_ | with_reducible refine OA hb3 ?_ | (first | omega | (simp; done) | (simp; omega)))) (Own2.iv (by repeat' first | with_reducible exact ho4 | with_reducible refine Zx _ ?_ | with_reducible refine JI ?_ | (first | omega | (simp; done) | (simp; omega)))) SXY.out SYX.out).mono ?_; clear q0 q00 e1 d1 e2 d2 e3 d3 e4 d4 o2 o4; rintro e w5 ⟨hb5,c5,rfl,hc5,hz5⟩; have hbl5 : Below wc.heap.size wc w5 := Qp (by repeat' first | with_reducible exact hbl4 | with_reducible exact hbl3 | with_reducible exact hbl2 | with_reducible exact hbl1 | with_reducible exact Below.refl _ _ | with_reducible refine Below.new ?_ _ | with_reducible refine Below.drew ?_) hb5)
    )
  all_goals
   go_wp2
   go_ret
   exact ⟨Qp HC.out hbl5,_,rfl,hc5,hz5.trans (Il x y)⟩
theorem Fv {w : World} {px py : Value} {x y : Rat} {k l : Nat} (hx : PR w px x) (hy : PR w py y) (fx : QS k x) (fy : QS l y) (hkl : k+l+1≤35184372088640) :
  Calls Tryz.prog 20 #[px,py] w fun e w' => Below w.heap.size w w'∧e=.returned (.bool (decide (x=y))) := by
 obtain ⟨gx,rfl,hx⟩ := hx
 obtain ⟨gy,rfl,hy⟩ := hy
 have h := Ib hx hy fx fy hkl
 clear hx hy fx fy
 go_enter Tryz.func20,Tryz.ntmps20
 go_wp2_with fail
 refine h.mono ?_
 rintro e w1 ⟨hb,c,rfl,_,hc⟩
 have HE : Hid ((c == 0)=decide (x=y)) := by
  show _=_
  by_cases e : x=y
  ·rw [decide_eq_true e,beq_iff_eq]; exact hc.2 e
  ·rw [decide_eq_false e,beq_eq_false_iff_ne]; exact fun h => e (hc.1 h)
 have HB := Qb hb
 clear hb hc
 go_wp2
 go_ret
 exact ⟨HB.out,by rw [← HE.out]; rfl⟩
end Go.Proofs.YthhnabccdehmgaaGreatDoor
/- RG -/
namespace Go.Proofs.YthhnabccdehmgaaGreatDoor
open Go.RowKit Cx
attribute [local go_sem ↓] Go.wp_at_zero Go.wp_at_succ
end Go.Proofs.YthhnabccdehmgaaGreatDoor
/- RK -/
namespace Go.Proofs.YthhnabccdehmgaaGreatDoor
open Go.RowKit Cx
attribute [local go_sem ↓] Go.wp_at_zero Go.wp_at_succ
def right (s : ByteArray) : Prop := tx (rd s.data.toList)=s.data.toList
end Go.Proofs.YthhnabccdehmgaaGreatDoor
/- BQU -/
namespace Go.Proofs.YthhnabccdehmgaaGreatDoor
open Go.RowKit Cx
attribute [local go_sem ↓] Go.wp_at_zero Go.wp_at_succ
theorem NZ (x y : Rat) (n : Nat) (hy : y.num=(n : Int)) : x / y=mkRat (x.num*(y.den : Int)) (x.den*n) := by
 have e : y⁻¹=mkRat (y.den : Int) n := by
  rw [Rat.inv_def,hy]
  rfl
 rw [Rat.div_def,e]
 conv => lhs; rw [← Rat.mkRat_self x]
 exact Rat.mkRat_mul_mkRat ..
theorem Dp {w : World} {g gx gy : Nat} {y0 y1 y2 y3 : Value} {x y : Rat} {k l : Nat} (hk : Blk w g #[y0,y1,y2,y3] 34) (hno : (#[y0,y1,y2,y3] : Array Value).all Qk=true) (hx : RV w gx x) (hy : RV w gy y) (fx : QS k x) (fy : QS l y) (hkl : k+l+1≤35184372088640) {n : Nat} (hyn : y.num=(n : Int)) (hn : 0 < n) :
  Calls Tryz.prog 42 #[.pointer (some ⟨g,0,none⟩),.pointer (some ⟨gx,0,none⟩),.pointer (some ⟨gy,0,none⟩)] w fun e w' => e=.returned (.pointer (some ⟨g,0,none⟩))∧Save g w w'∧RV w' g (x / y) := by
 have LX := Qb hx.lt
 have LY := Qb hy.lt
 have LG := Qb hk.lt
 have HX := Qb hx
 have HY := Qb hy
 have HK := Qb hk
 have SX := Qb (Zo fx (by omega))
 have SY := Qb (Zo fy (by omega))
 have DX := Qb (Zp fx (by omega))
 have DY := Qb (Zp fy (by omega))
 have SXY := Qb (ZZ fx fy hkl)
 have SD : Hid (Small (x.den*n)) := by
  show Small _
  have h1 := fy.num
  rw [hyn,Int.natAbs_natCast] at h1
  exact Qq (k := k+l) (by rw [Nat.pow_add]; exact Nat.mul_lt_mul_of_lt_of_lt fx.den h1) (by omega)
 have HQ := Qb (NZ x y n hyn)
 have HD0 : Hid (0 < x.den*n) := Nat.mul_pos x.den_pos hn
 have HYN : Hid ((x.den : Int)*y.num=((x.den*n : Nat) : Int)) := by show _=_; rw [hyn,Int.natCast_mul]
 clear hx hy hk fx fy hyn
 go_enter Tryz.func42,Tryz.ntmps42
 go_wp2_with fail
 go_region_held3 (fun _ => True) (trivial)
  (first
   | (go_at_call_of 60 (Value.pointer (some { block := gy,off := 0 })); refine (QW (HY.out.below (by repeat' first | with_reducible exact Below.refl _ _ | with_reducible refine Below.new ?_ _ | with_reducible refine Below.drew ?_))).mono ?_; rintro e w1 ⟨hb1,p1,rfl,hv1,hap1⟩; have hbl1 : Below w.heap.size w w1 := Qp (by repeat' first | with_reducible exact Below.refl _ _ | with_reducible refine Below.new ?_ _ | with_reducible refine Below.drew ?_) hb1)
   | (go_at_call_of 16 (Value.pointer (some { block := gx,off := 0 })); have q0 := LX.out; have q00 := LY.out; have e1 := hb1.size; have d1 := hbl1.size; (try simp at e1); refine (Zf (by repeat' first | ((with_reducible refine JD ?_); (first | with_reducible rfl | (simp; done))) | with_reducible exact Blk.new _ _ _ | with_reducible refine Jj _ ?_ | with_reducible refine ZY ?_ | with_reducible refine Ze hb1 ?_ | (first | omega | (simp; done) | (simp; omega))) (RV.num (HX.out.below (by repeat' first | with_reducible exact hbl1 | with_reducible exact Below.refl _ _ | with_reducible refine Below.new ?_ _ | with_reducible refine Below.drew ?_))) (show IV _ p1 (y.den : Int) from (by repeat' first | with_reducible exact hv1 | with_reducible refine Yl _ ?_ | with_reducible refine Xg ?_)) (ZI (by (first | omega | (simp; done) | (simp; omega)))) (by first | (refine hv1.apart ?_; (first | omega | (simp; done) | (simp; omega))) | (refine hap1 _ ?_ ?_ <;> (first | omega | (simp; done) | (simp; omega)))) SX.out DY.out).mono ?_; clear q0 q00 e1 d1; rintro e w2 ⟨rfl,hs2,ho2,hh2⟩; have hbl2 : Below w.heap.size w w2 := QQ (by repeat' first | with_reducible exact hbl1 | with_reducible exact Below.refl _ _ | with_reducible refine Below.new ?_ _ | with_reducible refine Below.drew ?_) hs2 (by have d1 := hbl1.size; (first | omega | (simp; done) | (simp; omega))))
   | (go_at_call_of 60 (Value.pointer (some { block := gx,off := 0 })); refine (QW (HX.out.below (by repeat' first | with_reducible exact hbl2 | with_reducible exact hbl1 | with_reducible exact Below.refl _ _ | with_reducible refine Below.new ?_ _ | with_reducible refine Below.drew ?_))).mono ?_; rintro e w3 ⟨hb3,p3,rfl,hv3,hap3⟩; have hbl3 : Below w.heap.size w w3 := Qp (by repeat' first | with_reducible exact hbl2 | with_reducible exact hbl1 | with_reducible exact Below.refl _ _ | with_reducible refine Below.new ?_ _ | with_reducible refine Below.drew ?_) hb3)
   | (go_at_call_of 16 (Value.pointer (some { block := gy,off := 0 })); have q0 := LX.out; have q00 := LY.out; have e1 := hb1.size; have d1 := hbl1.size; (try simp at e1); have e2 := hs2.size; have d2 := hbl2.size; (try simp at e2); have e3 := hb3.size; have d3 := hbl3.size; (try simp at e3); have o2 := ho2.lt; refine (Zf (by repeat' first | ((with_reducible refine JD ?_); (first | with_reducible rfl | (simp; done))) | with_reducible exact Blk.new _ _ _ | with_reducible refine Jj _ ?_ | with_reducible refine ZY ?_ | with_reducible refine Ze hb3 ?_ | with_reducible refine XP hs2 ?_ ?_ | with_reducible refine Ze hb1 ?_ | (first | omega | (simp; done) | (simp; omega))) (show IV _ p3 (x.den : Int) from (by repeat' first | with_reducible exact hv3 | with_reducible refine Yl _ ?_ | with_reducible refine Xg ?_)) (RV.num (HY.out.below (by repeat' first | with_reducible exact hbl3 | with_reducible exact hbl2 | with_reducible exact hbl1 | with_reducible exact Below.refl _ _ | with_reducible refine Below.new ?_ _ | with_reducible refine Below.drew ?_))) (by first | (refine hv3.apart ?_; (first | omega | (simp; done) | (simp; omega))) | (refine hap3 _ ?_ ?_ <;> (first | omega | (simp; done) | (simp; omega)))) (ZI (by (first | omega | (simp; done) | (simp; omega)))) DX.out SY.out).mono ?_; clear q0 q00 e1 d1 e2 d2 e3 d3 o2; rintro e w4 ⟨rfl,hs4,ho4,hh4⟩; rw [HYN.out] at ho4; have hbl4 : Below w.heap.size w w4 := QQ (by repeat' first | with_reducible exact hbl3 | with_reducible exact hbl2 | with_reducible exact hbl1 | with_reducible exact Below.refl _ _ | with_reducible refine Below.new ?_ _ | with_reducible refine Below.drew ?_) hs4 (by have d1 := hbl1.size; have d2 := hbl2.size; have d3 := hbl3.size; (first | omega | (simp; done) | (simp; omega))))
   | (go_at_call 40; have q0 := LX.out; have q00 := LY.out; have e1 := hb1.size; have d1 := hbl1.size; (try simp at e1); have e2 := hs2.size; have d2 := hbl2.size; (try simp at e2); have e3 := hb3.size; have d3 := hbl3.size; (try simp at e3); have e4 := hs4.size; have d4 := hbl4.size; (try simp at e4); have o2 := ho2.lt; have o4 := ho4.lt; refine (Zi (z := x.num*(y.den : Int)) (b := x.den*n) (HK.out.below (by repeat' first | with_reducible exact hbl4 | with_reducible exact hbl3 | with_reducible exact hbl2 | with_reducible exact hbl1 | with_reducible exact Below.refl _ _ | with_reducible refine Below.new ?_ _ | with_reducible refine Below.drew ?_) LG.out) hno (Own2.iv (by repeat' first | with_reducible exact ho2 | with_reducible refine Zx _ ?_ | with_reducible refine JI ?_ | with_reducible refine Ut hs4 hh4 ?_ ?_ | with_reducible refine OA hb3 ?_ | (first | omega | (simp; done) | (simp; omega)))) (Own2.iv (by repeat' first | with_reducible exact ho4 | with_reducible refine Zx _ ?_ | with_reducible refine JI ?_ | (first | omega | (simp; done) | (simp; omega)))) HD0.out SXY.out SD.out).mono ?_; clear q0 q00 e1 d1 e2 d2 e3 d3 e4 d4 o2 o4; rintro e w5 ⟨rfl,hs5,hr5⟩; have hbk : Below w.heap.size w _ := (by repeat' first | with_reducible exact hbl4 | with_reducible exact hbl3 | with_reducible exact hbl2 | with_reducible exact hbl1 | with_reducible exact Below.refl _ _ | with_reducible refine Below.new ?_ _ | with_reducible refine Below.drew ?_); have hsv5 := (Save.of (g := g) hbk).trans hs5)
   )
 all_goals
  go_wp2
  go_ret
  exact ⟨rfl,hsv5,by rw [HQ.out]; exact hr5⟩
theorem Oz {w : World} {px py : Value} {x y : Rat} {k l : Nat} (hx : PR w px x) (hy : PR w py y) (fx : QS k x) (fy : QS l y) (hkl : k+l+1≤35184372088640) {n : Nat} (hyn : y.num=(n : Int)) (hn : 0 < n) :
  Calls Tryz.prog 10 #[px,py] w fun e w' => Below w.heap.size w w'∧∃ v,e=.returned v∧PR w' v (x / y) := by
 obtain ⟨gx,rfl,hx⟩ := hx
 obtain ⟨gy,rfl,hy⟩ := hy
 have HX := Qb hx
 have HY := Qb hy
 have HYN := Qb hyn
 clear hx hy hyn
 go_enter Tryz.func10,Tryz.ntmps10
 go_wp2_with fail
 refine (Dp (Blk.new w _ _) (by simp [Qk]) (HX.out.below (Qg _ _)) (HY.out.below (Qg _ _)) fx fy hkl HYN.out hn).mono ?_
 rintro e w1 ⟨rfl,hs,hr⟩
 have H1 := Qb (And.intro (QQ (Qg _ _) hs (Nat.le_refl _)) hr)
 clear hs hr
 go_wp2
 go_ret
 exact ⟨H1.out.1,_,rfl,_,rfl,H1.out.2⟩
end Go.Proofs.YthhnabccdehmgaaGreatDoor
/- BGC -/
namespace Go.Proofs.YthhnabccdehmgaaGreatDoor
open Go.RowKit Cx
attribute [local go_sem ↓] Go.wp_at_zero Go.wp_at_succ
end Go.Proofs.YthhnabccdehmgaaGreatDoor
/- BGD -/
namespace Go.Proofs.YthhnabccdehmgaaGreatDoor
open Go.RowKit Cx
attribute [local go_sem ↓] Go.wp_at_zero Go.wp_at_succ
end Go.Proofs.YthhnabccdehmgaaGreatDoor
/- BGE -/
namespace Go.Proofs.YthhnabccdehmgaaGreatDoor
open Go.RowKit Cx
attribute [local go_sem ↓] Go.wp_at_zero Go.wp_at_succ
end Go.Proofs.YthhnabccdehmgaaGreatDoor
/- BPL -/
namespace Go.Proofs.YthhnabccdehmgaaGreatDoor
open Go.RowKit Cx
attribute [local go_sem ↓] Go.wp_at_zero Go.wp_at_succ
end Go.Proofs.YthhnabccdehmgaaGreatDoor
/- RBS -/
namespace Go.Proofs.YthhnabccdehmgaaGreatDoor
open Go.RowKit Cx
theorem PE (s : ByteArray) (w : World) (hm : MaxL w) (hs : s.size≤4294967280) :
  Calls Tryz.prog 13 #[.string s] w fun e w' => Below w.heap.size w w'∧∃ v,e=.returned v∧PR w' v (rd s.data.toList) := by
 refine (SK s w hm hs).mono ?_
 rintro e w' ⟨hb,g,rfl,_,h⟩
 exact ⟨hb,_,rfl,_,rfl,h⟩
end Go.Proofs.YthhnabccdehmgaaGreatDoor
/- BPM -/
namespace Go.Proofs.YthhnabccdehmgaaGreatDoor
open Go.RowKit Cx
attribute [local go_sem ↓] Go.wp_at_zero Go.wp_at_succ
end Go.Proofs.YthhnabccdehmgaaGreatDoor
/- BPN -/
namespace Go.Proofs.YthhnabccdehmgaaGreatDoor
open Go.RowKit Cx
attribute [local go_sem ↓] Go.wp_at_zero Go.wp_at_succ
end Go.Proofs.YthhnabccdehmgaaGreatDoor
/- MathZ -/
namespace Cx
end Cx
/- VQ -/
namespace Cx
theorem Er (b : Bool) (n : Nat) : (sg b n).natAbs=n := by cases b <;> simp [sg]
theorem Lk (G M : Nat) (f : Bool) (q : Rat) : (pl G M f q).num=sg (decide (q.num < 0) != f) (q.num.natAbs / G*(M / q.den))∧(pl G M f q).den=1 := ⟨rfl,rfl⟩
theorem AF {qs : List Rat} {q : Rat} (h : q ∈ qs) : (q*fac qs).den=1 := by
 rw [← Np h]
 exact (Lk _ _ _ _).2
theorem AR {qs : List Rat} {q : Rat} (h : q ∈ qs) : (q*fac qs).num.natAbs=q.num.natAbs / gN qs*(lD qs / q.den) := by
 rw [← Np h,(Lk _ _ _ _).1,Er]
end Cx
namespace Go.Proofs.YthhnabccdehmgaaGreatDoor
open Go.RowKit Cx
attribute [local go_sem ↓] Go.wp_at_zero Go.wp_at_succ
end Go.Proofs.YthhnabccdehmgaaGreatDoor
/- VS -/
namespace Go.Proofs.YthhnabccdehmgaaGreatDoor
open Go.RowKit Cx
def nbS : List Nat := [34,32]
theorem NatN.gr {w w' : World} {v : Value} {n : Nat} (hg : Gr nbS w w') (h : NatN w v n) : NatN w' v n := by
 obtain ⟨l,⟨hl,⟨rfl,ao,cap,rfl⟩ | ⟨b,off,cap,rfl,hc,hm,hlt,hseg⟩⟩,t,rfl⟩ := h
 ·exact ⟨[],NatV.nil _ _ _,t,rfl⟩
 ·by_cases h0 : l.length=0
  ·have := List.length_eq_zero_iff.1 h0
   subst this
   exact ⟨[],NatV.nil _ _ _,t,rfl⟩
  ·have hn : ¬ Bxd nbS w b := by
    rintro ⟨cs,t',hb,_,hno⟩
    have h1 := hseg 0 (by omega)
    rw [Nat.add_zero,hb.cell off] at h1
    have := hno _ (List.mem_of_getElem? h1)
    simp [okV,notLm] at this
   refine ⟨l,⟨hl,Or.inr ⟨b,off,cap,rfl,hc,hm,Nat.lt_of_lt_of_le hlt hg.size,fun j hj => ?_⟩⟩,t,rfl⟩
   have : w'.cell? ⟨b,off+j,none⟩=w.cell? ⟨b,off+j,none⟩ := by simp [World.cell?,hg.block b hlt hn]
   rw [this]
   exact hseg j hj
theorem Blk.gr {w w' : World} {g : Nat} {cs : Array Value} {t : TypeId} (hg : Gr nbS w w') (h : Blk w g cs t) (ht : Xd t nbS=true) : Blk w' g cs t := by
 have hn : ¬ Bxd nbS w g := by
  rintro ⟨cs',t',hb,hT,_⟩
  have e := h
  unfold Blk at e
  unfold Bk at hb
  rw [hb] at e
  cases e
  rw [ht] at hT
  cases hT
 exact (hg.block g h.lt hn).trans h
theorem RV.gr {w w' : World} {g : Nat} {q : Rat} (hg : Gr nbS w w') (h : RV w g q) : RV w' g q := by
 obtain ⟨a1,l1,c1,a2,l2,c2,h0,h1,h2⟩ := h
 refine ⟨a1,l1,c1,a2,l2,c2,h0.gr hg (by decide),h1.gr hg,?_⟩
 rcases h2 with h2 | h2
 ·exact Or.inl (h2.gr hg)
 ·exact Or.inr h2
theorem NatN.okv {w : World} {v : Value} {n : Nat} (h : NatN w v n) : okV v=true := by
 obtain ⟨l,⟨hl,⟨rfl,ao,cap,rfl⟩ | ⟨b,off,cap,rfl,_⟩⟩,_⟩ := h <;> rfl
def XS (k : Nat) (q : Rat) : Fct nbS := match k with
 | 0 => ⟨fun v w => PR w v q,fun hg ⟨g,e,h⟩ => ⟨g,e,h.gr hg⟩,fun ⟨g,e,_⟩ => by rw [e]; rfl⟩
 | 1 => ⟨fun v _ => v=.bool (decide (q.num < 0)),fun _ h => h,fun h => by rw [h]; rfl⟩
 | 2 => ⟨fun v w => NatN w v q.num.natAbs,fun hg h => h.gr hg,fun h => h.okv⟩
 | 3 => ⟨fun v w => NatN w v (if q.den=1 then 0 else q.den),fun hg h => h.gr hg,fun h => h.okv⟩
 | 4 => ⟨fun v _ => v=.int .i64 (QH q),fun _ h => h,fun h => by rw [h]; rfl⟩
 | 5 => ⟨fun v _ => ∃ c : Int,v=.int .i64 c∧(c=0 ↔ q=0)∧(c < 0 ↔ q < 0),fun _ h => h,fun ⟨c,h,_⟩ => by rw [h]; rfl⟩
 | 6 => ⟨fun v _ => ∃ n : Int,v=.int .i64 n∧((n : Int) : Rat)=q,fun _ h => h,fun ⟨c,h,_⟩ => by rw [h]; rfl⟩
 | 7 => ⟨fun v _ => ∃ c : Int,v=.int .i64 c∧(c=0 ↔ q=0),fun _ h => h,fun ⟨c,h,_⟩ => by rw [h]; rfl⟩
 | _ => ⟨fun _ _ => False,fun _ h => h,fun h => h.elim⟩
def Yn (q : Rat) : ByteArray := ⟨(tx q).toArray⟩
def evS (q : Nat→Rat) (σ : Nat→ByteArray) : Ev nbS := ⟨q,σ,XS,Yn⟩
theorem Pc {q q' : Rat} (h : Yn q=Yn q') : q=q' := by
 have : tx q=tx q' := by
  have := congrArg (fun s : ByteArray => s.data.toList) h
  simpa [Yn] using this
 rw [← Mn q,this,Mn]
theorem NW (q : Rat) : Jg (Yn q) ≠ [] := by
 intro h
 have : tx q=[] := by simpa [Jg,Yn] using h
 have e := Mn q
 rw [this] at e
 have h0 : q=0 := e.symm
 rw [h0] at this
 exact absurd this (by decide +kernel)
section
variable {q : Nat→Rat} {σ : Nat→ByteArray} {K : List (FuncId × List AC)} {γ : Nat→Option Nat} {w : World}
theorem Gw {v : Value} {a : Nat} (h : QV w v (q a)) : avOn (cOn (evS q σ) K γ w) (q1 a) v := by
 obtain ⟨vu,vl,rfl,h1,h2⟩ := h
 exact Mw (vs := [.bool (decide ((q a).num < 0)),vu,vl]) ⟨rfl,h1,h2,trivial⟩
theorem DZ {S : Sx} {cs : List AC} {vs : List Value} {a : Nat} (hz : ∀ i,S.nd 0 [0,0,1]=some i→q i=0) (hn : Mj S cs=some a) (hA : A2 (cOn (evS q σ) K γ w) cs vs) : QV w (.agg vs.toArray) (q a)∧vs.length=3 := by
 unfold Mj at hn
 split at hn
 ·rename_i x y z
  match vs,hA with
  | [u,v,t],⟨h1,h2,h3,_⟩ =>
   refine ⟨?_,rfl⟩
   split at hn
   ·rename_i b hb
    simp only [Option.bind_eq_some_iff,ifO_some,Bool.and_eq_true,Nat.beq_eq] at hn
    obtain ⟨c,g1,d,g2,⟨e1,e2⟩,e3⟩ := hn
    cases e3
    subst e1 e2
    have k1 : u=.bool (decide ((q a).num < 0)) := Vk (E := evS q σ) hb h1
    have k2 : NatN w v (q a).num.natAbs := Vk (E := evS q σ) g1 h2
    have k3 : NatN w t (if (q a).den=1 then 0 else (q a).den) := Vk (E := evS q σ) g2 h3
    exact ⟨v,t,by rw [k1],k2,k3⟩
   ·rw [ifO_some] at hn
    obtain ⟨g1,g2⟩ := hn
    rw [hz a g2]
    unfold isZ3 at g1
    split at g1
    ·rename_i e
     cases e
     have k1 : u=.bool false := h1.1
     have k2 : v=.slice none 0 0 := h2.1
     have k3 : t=.slice none 0 0 := h3.1
     rw [k1,k2,k3]
     exact ⟨_,_,rfl,NatN.nil _ _ _,NatN.nil _ _ _⟩
    ·cases g1
 ·cases hn
theorem Yd {S : Sx} {x : AV} {v : Value} {a : Nat} (hz : ∀ i,S.nd 0 [0,0,1]=some i→q i=0) (hn : qN S x=some a) (hx : avOn (cOn (evS q σ) K γ w) x v) : QV w v (q a) := by
 unfold qN at hn
 rw [Option.bind_eq_some_iff] at hn
 obtain ⟨cs,h1,h2⟩ := hn
 obtain ⟨vs,rfl,hA⟩ := Om h1 hx
 exact (DZ hz h2 hA).1
theorem It {x : AV} {v : Value} {a : Nat} (hn : rN x=some a) (hx : avOn (cOn (evS q σ) K γ w) x v) : PR w v (q a) := by
 unfold rN at hn
 rw [Option.bind_eq_some_iff] at hn
 obtain ⟨c,h1,h2⟩ := hn
 exact Vk (E := evS q σ) h2 (Za h1 hx)
theorem Na {v : Value} {a : Nat} (h : PR w v (q a)) : avOn (cOn (evS q σ) K γ w) (r1 a) v := Zg h
theorem t_on {s : ByteArray} {a : Nat} (h : s.data.toList=tx (q a)) : avOn (cOn (evS q σ) K γ w) (t1 a) (.string s) := by
 refine Zg ?_
 show Value.string s=.string (Yn (q a))
 congr 1
 exact ByteArray.ext (Array.ext' (by simpa [Yn] using h))
theorem Hu {S : Sx} {a : Nat} (hk : ∀ r,S.kn 5 a 0=some r→(r=0→q a < 0)∧(r=1→q a=0)∧(r=2→0 < q a)) : avOn (cOn (evS q σ) K γ w) (Sa S a) (.int .i64 (QH (q a))) := by
 unfold Sa
 split
 ·rename_i e
  have := (hk _ e).1 rfl
  rw [show QH (q a)=-1 by unfold QH; rw [if_pos this]]
  exact Zg ⟨rfl,rfl⟩
 ·rename_i e
  have := (hk _ e).2.1 rfl
  rw [show QH (q a)=0 by unfold QH; rw [this]; decide]
  exact Zg ⟨rfl,rfl⟩
 ·rename_i e
  have := (hk _ e).2.2 rfl
  rw [show QH (q a)=1 by unfold QH; rw [if_neg (by grind),if_neg (by grind)]]
  exact Zg ⟨rfl,rfl⟩
 ·exact Zg (show (XS 4 (q a)).on _ w from rfl)
theorem RP (x : Rat) : x.num < 0 ↔ x < 0 := by
 rw [← Rat.not_le,← Rat.num_nonneg]
 omega
theorem SI (x : Rat) : QH x=(if x.num=0 then 0 else if x.num < 0 then -1 else 1) := by
 unfold QH
 by_cases h0 : x=0
 ·subst h0
  decide
 ·have hn : x.num ≠ 0 := fun e => h0 (Rat.num_eq_zero.1 e)
  rw [if_neg hn]
  by_cases hl : x < 0
  ·rw [if_pos hl,if_pos ((RP x).2 hl)]
  ·rw [if_neg hl,if_neg h0,if_neg (fun e => hl ((RP x).1 e))]
end
end Go.Proofs.YthhnabccdehmgaaGreatDoor
/- BNN -/
namespace Go.Proofs.YthhnabccdehmgaaGreatDoor
open Go.RowKit Cx
attribute [local go_sem ↓] Go.wp_at_zero Go.wp_at_succ
theorem Ez {w0 w w1 : World} {g : Nat} {a1 a2 : Option Addr} {l1 c1 l2 c2 b : Nat} {z : Int} (hd : Below w0.heap.size w0 w) (hk : Blk w0 g #[.bool (decide (-z < 0)),.slice a1 l1 c1,.bool true,.slice a2 l2 c2] 34) (hb : NatN w0 (.slice a2 l2 c2) b) (h1 : Gave w g 0 z w1) :
  ∃ a3 l3 c3,Blk w1 g #[.bool (decide (z < 0)),.slice a3 l3 c3,.bool true,.slice a2 l2 c2] 34∧NatN w1 (.slice a3 l3 c3) z.natAbs∧NatN w1 (.slice a2 l2 c2) b∧Save g w0 w1 := by
 obtain ⟨u,ao,n,c,hbl,rfl,hn⟩ := h1
 have hb0 := hk.below hd hk.lt
 have hb1 := hb0.below hbl hb0.lt
 have hb2 := (hb1.set 1 (.slice ao n c)).set 0 (.bool (decide (z < 0)))
 have hh1 : XY u g := ⟨_,_,hb1,by simp [Qk]⟩
 exact ⟨ao,n,c,by simpa using hb2,hn.two hh1 rfl,((hb.below hd).below hbl).two hh1 rfl,(((Save.of hd).trans (Save.of hbl)).set _ _).set _ _⟩
theorem CR {w0 w w1 : World} {g : Nat} {a1 a2 : Option Addr} {l1 c1 l2 c2 b n0 : Nat} {x : Bool} (hd : Below w0.heap.size w0 w) (hk : Blk w0 g #[.bool x,.slice a1 l1 c1,.bool true,.slice a2 l2 c2] 34) (ha : NatN w0 (.slice a1 l1 c1) n0) (h1 : Gave w g 2 (b : Int) w1) :
  ∃ a3 l3 c3,Blk w1 g #[.bool x,.slice a1 l1 c1,.bool false,.slice a3 l3 c3] 34∧NatN w1 (.slice a1 l1 c1) n0∧NatN w1 (.slice a3 l3 c3) b∧Save g w0 w1 := by
 obtain ⟨u,ao,n,c,hbl,rfl,hn⟩ := h1
 have hb0 := hk.below hd hk.lt
 have hb1 := hb0.below hbl hb0.lt
 have hb2 := (hb1.set 3 (.slice ao n c)).set 2 (.bool (decide (((b : Nat) : Int) < 0)))
 have hh1 : XY u g := ⟨_,_,hb1,by simp [Qk]⟩
 refine ⟨ao,n,c,by rw [ID] at hb2 ⊢; simpa using hb2,((ha.below hd).below hbl).two hh1 rfl,?_,(((Save.of hd).trans (Save.of hbl)).set _ _).set _ _⟩
 have := hn.two (i := 3) (j := 2) (x := .slice ao n c) (y := .bool (decide (((b : Nat) : Int) < 0))) hh1 rfl
 rwa [Int.natAbs_natCast] at this
theorem Blk.at20 {w : World} {g : Nat} {x0 x1 x2 x3 : Value} {t : TypeId} (h : Blk w g #[x0,x1,x2,x3] t) : At2 w g 0 := ⟨⟨_,h.cell 0⟩,⟨_,h.cell 1⟩,h.frozen 0,h.frozen 1,h.lt⟩
theorem Blk.at22 {w : World} {g : Nat} {x0 x1 x2 x3 : Value} {t : TypeId} (h : Blk w g #[x0,x1,x2,x3] t) : At2 w g 2 := ⟨⟨_,h.cell 2⟩,⟨_,h.cell 3⟩,h.frozen 2,h.frozen 3,h.lt⟩
theorem Blk.iv0 {w : World} {g : Nat} {z : Int} {a1 : Option Addr} {l1 c1 : Nat} {x2 x3 : Value} {t : TypeId} (h : Blk w g #[.bool (decide (z < 0)),.slice a1 l1 c1,x2,x3] t) (hn : NatN w (.slice a1 l1 c1) z.natAbs) : IV w (.pointer (some ⟨g,0,none⟩)) z := ⟨g,0,a1,l1,c1,rfl,h.cell 0,h.cell 1,hn,h.lt⟩
theorem Blk.iv2 {w : World} {g b : Nat} {a1 : Option Addr} {l1 c1 : Nat} {x0 x1 : Value} {t : TypeId} (h : Blk w g #[x0,x1,.bool true,.slice a1 l1 c1] t) (hn : NatN w (.slice a1 l1 c1) b) (hb : 0 < b) : IV w (.pointer (some ⟨g,2,none⟩)) (-(b : Int)) := by
 refine ⟨g,2,a1,l1,c1,rfl,?_,h.cell 3,by rw [Int.natAbs_neg,Int.natAbs_natCast]; exact hn,h.lt⟩
 have e : decide (-(b : Int) < 0)=true := decide_eq_true (by omega)
 rw [e]
 exact h.cell 2
theorem Py {w0 : World} {g : Nat} {a01 a02 : Option Addr} {l01 c01 l02 c02 b : Nat} {z : Int} (hk0 : Blk w0 g #[.bool (decide (-z < 0)),.slice a01 l01 c01,.bool true,.slice a02 l02 c02] 34) (ha0 : NatN w0 (.slice a01 l01 c01) (-z).natAbs) (hb00 : NatN w0 (.slice a02 l02 c02) b) (hb0 : 0 < b) (sa0 : Small z.natAbs) (sb : Small b) :
  Calls Tryz.prog 85 #[.pointer (some ⟨g,0,none⟩)] w0 fun e w' => e=.returned (.pointer (some ⟨g,0,none⟩))∧Save g w0 w'∧RV w' g (mkRat z b) := by
 obtain ⟨_,_,_,eb,_,_,hbz0⟩ := QL hb00
 cases eb
 have hl02 : l02 ≠ 0 := fun h => by have := hbz0.1 h; omega
 have hne0 : ((l02 : Int) == 0)=false := beq_eq_false_iff_ne.mpr (by omega)
 have HK0 := Qb hk0
 have HA0 := Qb ha0
 have HB0 := Qb hb00
 have SA0 := Qb sa0
 have SB0 := Qb sb
 obtain ⟨u0,u1,u2,u3⟩ : w0.cell? ⟨g,0,none⟩=_∧w0.cell? ⟨g,1,none⟩=_∧w0.cell? ⟨g,2,none⟩=_∧w0.cell? ⟨g,3,none⟩=_ := ⟨hk0.cell 0,hk0.cell 1,hk0.cell 2,hk0.cell 3⟩
 clear hk0 ha0 hb00 sa0 sb hbz0 hl02
 go_enter Tryz.func85,Tryz.ntmps85
 go_wp2_with fail
 go_region_held3 (fun _ => True) (trivial)
  (first
   | (go_at_call 109; refine (Up (x := -z) (w := w0.drew) (Blk.at20 (HK0.out.below (Below.drew (Below.refl _ _)) HK0.out.lt)) (Blk.iv0 (HK0.out.below (Below.drew (Below.refl _ _)) HK0.out.lt) (HA0.out.below (Below.drew (Below.refl _ _)))) (by rw [Int.natAbs_neg]; exact SA0.out)).mono ?_; rintro e w01 ⟨rfl,hg01⟩)
   )
 rw [Int.neg_neg] at hg01
 obtain ⟨a1,l1,c1,hk1,hn1,hb1,hs1⟩ := Ez (Below.drew (Below.refl _ _)) HK0.out HB0.out hg01
 have HK1 := Qb hk1
 have HN1 := Qb hn1
 have HB1 := Qb hb1
 have HS1 := Qb hs1
 clear hk1 hn1 hb1 hs1 hg01 HB0 HA0 HK0 u0 u1 u2 u3
 go_wp2_with fail
 go_region_held3 (fun _ => True) (trivial)
  (first
   | (go_at_call 109; refine (Up (x := -(b : Int)) (w := w01.drew) (Blk.at22 (HK1.out.below (Below.drew (Below.refl _ _)) HK1.out.lt)) (Blk.iv2 (HK1.out.below (Below.drew (Below.refl _ _)) HK1.out.lt) (HB1.out.below (Below.drew (Below.refl _ _))) hb0) (by rw [Int.natAbs_neg,Int.natAbs_natCast]; exact SB0.out)).mono ?_; rintro e w ⟨rfl,hg02⟩)
   )
 rw [Int.neg_neg] at hg02
 obtain ⟨a2,l2,c2,hk,ha,hb,hs2⟩ := CR (Below.drew (Below.refl _ _)) HK1.out HN1.out hg02
 have HSV := Qb (HS1.out.trans hs2)
 have sa := SA0.out
 have sb := SB0.out
 clear hg02 hs2 HK1 HN1 HB1 HS1 SA0 SB0
 obtain ⟨_,_,_,ea,hal,habig,haz⟩ := QL ha
 obtain ⟨_,_,_,eb,hbl,hbbig,hbz⟩ := QL hb
 cases ea
 cases eb
 have hl2 : l2 ≠ 0 := fun h => by have := hbz.1 h; omega
 have hne : ((l2 : Int) == 0)=false := beq_eq_false_iff_ne.mpr (by omega)
 have HK := Qb hk
 have HA := Qb ha
 have HB := Qb hb
 have SA := Qb sa
 have SB := Qb sb
 have HZ := Qb haz
 obtain ⟨x0,x1,x2,x3⟩ : w.cell? ⟨g,0,none⟩=_∧w.cell? ⟨g,1,none⟩=_∧w.cell? ⟨g,2,none⟩=_∧w.cell? ⟨g,3,none⟩=_ := ⟨hk.cell 0,hk.cell 1,hk.cell 2,hk.cell 3⟩
 clear hk ha hb sa sb habig hbbig haz hbz
 by_cases h1 : l1=0
 ·have hz : z=0 := by have := HZ.out.1 h1; omega
  subst h1
  subst hz
  have hat : At2 w g 2 := ⟨⟨_,HK.out.cell 2⟩,⟨_,HK.out.cell 3⟩,HK.out.frozen 2,HK.out.frozen 3,HK.out.lt⟩
  have HAT := Qb hat
  clear hat
  go_wp2_with fail
  refine (YF 1 (by decide) HAT.out).mono ?_
  rintro e w1 ⟨rfl,wz,ao,n,c,hbl1,rfl,hn⟩
  have HN := Qb hn
  have HB1 := Qb hbl1
  clear hn hbl1
  go_wp2
  go_ret
  have hkz := HK.out.below HB1.out HK.out.lt
  refine ⟨rfl,HSV.out.trans (((Save.of HB1.out).set _ _).set _ _),a1,0,c1,ao,n,c,?_,?_,Or.inl ?_⟩
  ·have := (hkz.set 3 (.slice ao n c)).set 2 (.bool (decide (((1 : Nat) : Int) < 0)))
   simpa using this
  ·have := (HA.out.below HB1.out).two (g := g) (i := 3) (j := 2) (x := .slice ao n c) (y := .bool (decide (((1 : Nat) : Int) < 0))) ⟨_,_,hkz,by simp [Qk]⟩ rfl
   simpa using this
  ·have := HN.out.two (g := g) (i := 3) (j := 2) (x := .slice ao n c) (y := .bool (decide (((1 : Nat) : Int) < 0))) ⟨_,_,hkz,by simp [Qk]⟩ rfl
   simpa using this
 ·have hne1 : ((l1 : Int) == 0)=false := beq_eq_false_iff_ne.mpr (by omega)
  by_cases hone : b=1
  ·have hl21 : l2=1 := by
    by_cases h : l2=1
    ·exact h
    ·exact absurd hone (XL HB.out h)
   subst hl21
   obtain ⟨b3,o3,hi3,hc3,hlt3,hs3⟩ := Jy HB.out
   rw [hone] at hc3
   go_wp2
   go_ret
   refine ⟨rfl,HSV.out,RV.mk hb0 HK.out ?_ ?_⟩
   ·rw [hone,Nat.gcd_one_right,Nat.div_one]; exact HA.out
   ·rw [show b / Nat.gcd z.natAbs b=b by rw [hone,Nat.gcd_one_right,Nat.div_one]]; exact HB.out
  ·by_cases hl21 : l2=1
   ·subst hl21
    obtain ⟨b3,o3,hi3,hc3,hlt3,hs3⟩ := Jy HB.out
    have hne3 : ((b : Int) == 1)=false := beq_eq_false_iff_ne.mpr (by omega)
    go_wp2_with fail
    have HS : Hid (∀ w',Below w.heap.size w w'→w'.cell? ⟨g,1,none⟩=some (.slice a1 l1 c1)∧w'.cell? ⟨g,3,none⟩=some (.slice a2 1 c2)) := fun w' hb => ⟨(HK.out.below hb HK.out.lt).cell 1,(HK.out.below hb HK.out.lt).cell 3⟩
    go_region_held3 (fun w' => w'.cell? ⟨g,1,none⟩=some (.slice a1 l1 c1)∧w'.cell? ⟨g,3,none⟩=some (.slice a2 1 c2)) (first | go_keep | exact hs1)
     (first
      | (go_at_call 130; refine (Xh (w := w.drew) (HA.out.below (Below.drew (Below.refl _ _))) (HB.out.below (Below.drew (Below.refl _ _))) SA.out SB.out).mono ?_; rintro e w1 ⟨hb0',vg,rfl,hvg⟩; obtain ⟨ag,lg,cg,rfl,hgl,_,hgz⟩ := QL hvg; have hb1 : Below w.heap.size w w1 := (Below.drew (Below.refl _ w)).trans hb0'; have hs1 := HS.out w1 hb1; clear hb0'))
    clear hs1
    have HG := Qb hvg
    have HB1 := Qb hb1
    have HK1 := Qb (HK.out.below hb1 HK.out.lt)
    obtain ⟨k0,k1,k2,k3⟩ : w1.cell? ⟨g,0,none⟩=_∧w1.cell? ⟨g,1,none⟩=_∧w1.cell? ⟨g,2,none⟩=_∧w1.cell? ⟨g,3,none⟩=_ := ⟨HK1.out.cell 0,HK1.out.cell 1,HK1.out.cell 2,HK1.out.cell 3⟩
    have hG0 : 0 < Nat.gcd z.natAbs b := Nat.gcd_pos_of_pos_right _ hb0
    have HSG : Hid (Small (Nat.gcd z.natAbs b)) := Yz SB.out (Nat.le_of_dvd hb0 (Nat.gcd_dvd_right _ _))
    clear hvg hb1 hgz x0 x1 x2 x3
    by_cases hg1 : Nat.gcd z.natAbs b=1
    ·have hlg : lg=1 := by
      by_cases h : lg=1
      ·exact h
      ·exact absurd hg1 (XL HG.out h)
     subst hlg
     obtain ⟨b4,o4,hi4,hc4,hlt4,hs4⟩ := Jy HG.out
     rw [hg1] at hc4
     go_wp2
     go_ret
     refine ⟨rfl,HSV.out.trans (Save.of HB1.out),RV.mk hb0 HK1.out ?_ ?_⟩
     ·rw [hg1,Nat.div_one]; exact HA.out.below HB1.out
     ·rw [hg1,Nat.div_one]; exact HB.out.below HB1.out
    ·by_cases hlg : lg=1
     ·subst hlg
      obtain ⟨b4,o4,hi4,hc4,hlt4,hs4⟩ := Jy HG.out
      have hne4 : ((Nat.gcd z.natAbs b : Int) == 1)=false := beq_eq_false_iff_ne.mpr (by omega)
      go_wp2_with fail
      refine (QO (HA.out.below HB1.out) HG.out SA.out HSG.out hG0).mono ?_
      rintro e w2 ⟨hb2,vp,vr,rfl,hvp,_⟩
      obtain ⟨ap,lp,cp,rfl,hpl,_,_⟩ := QL hvp
      have hbl2 := HB1.out.trans (hb2.mono HB1.out.size)
      have HP := Qb hvp
      have HG2 := Qb (HG.out.below hb2)
      have HK2 := Qb (HK1.out.below hb2 HK1.out.lt)
      have HB2 := Qb hbl2
      obtain ⟨m0,m1,m2,m3⟩ : w2.cell? ⟨g,0,none⟩=_∧w2.cell? ⟨g,1,none⟩=_∧w2.cell? ⟨g,2,none⟩=_∧w2.cell? ⟨g,3,none⟩=_ := ⟨HK2.out.cell 0,HK2.out.cell 1,HK2.out.cell 2,HK2.out.cell 3⟩
      clear hvp hb2 hbl2 k0 k1 k2 k3
      go_wp2_with fail
      refine (QO (HB.out.below HB2.out) HG2.out SB.out HSG.out hG0).mono ?_
      rintro e w3 ⟨hb3,vq,vr2,rfl,hvq,_⟩
      obtain ⟨aq,lq,cq,rfl,hql,_,_⟩ := QL hvq
      have HQ := Qb hvq
      have HP3 := Qb (HP.out.below hb3)
      have HK3 := Qb (HK2.out.below hb3 HK2.out.lt)
      have HB3 := Qb (HB2.out.trans (hb3.mono HB2.out.size))
      have q1 := HK3.out.cell 1
      have f1 := HK3.out.frozen 1
      have HK4 := Qb (HK3.out.set 1 (.slice ap lp cp))
      have q3 := HK4.out.cell 3
      have f3 := HK4.out.frozen 3
      clear hvq hb3 m0 m1 m2 m3
      go_wp2
      go_ret
      have hh : XY w3 g := ⟨_,_,HK3.out,by simp [Qk]⟩
      refine ⟨rfl,HSV.out.trans (((Save.of HB3.out).set _ _).set _ _),RV.mk hb0 (by have := HK4.out.set 3 (.slice aq lq cq); simpa using this) (HP3.out.two hh rfl) (HQ.out.two hh rfl)⟩
     ·have hne4 : ((lg : Int) == 1)=false := beq_eq_false_iff_ne.mpr (by omega)
      go_wp2_with fail
      refine (QO (HA.out.below HB1.out) HG.out SA.out HSG.out hG0).mono ?_
      rintro e w2 ⟨hb2,vp,vr,rfl,hvp,_⟩
      obtain ⟨ap,lp,cp,rfl,hpl,_,_⟩ := QL hvp
      have hbl2 := HB1.out.trans (hb2.mono HB1.out.size)
      have HP := Qb hvp
      have HG2 := Qb (HG.out.below hb2)
      have HK2 := Qb (HK1.out.below hb2 HK1.out.lt)
      have HB2 := Qb hbl2
      obtain ⟨m0,m1,m2,m3⟩ : w2.cell? ⟨g,0,none⟩=_∧w2.cell? ⟨g,1,none⟩=_∧w2.cell? ⟨g,2,none⟩=_∧w2.cell? ⟨g,3,none⟩=_ := ⟨HK2.out.cell 0,HK2.out.cell 1,HK2.out.cell 2,HK2.out.cell 3⟩
      clear hvp hb2 hbl2 k0 k1 k2 k3
      go_wp2_with fail
      refine (QO (HB.out.below HB2.out) HG2.out SB.out HSG.out hG0).mono ?_
      rintro e w3 ⟨hb3,vq,vr2,rfl,hvq,_⟩
      obtain ⟨aq,lq,cq,rfl,hql,_,_⟩ := QL hvq
      have HQ := Qb hvq
      have HP3 := Qb (HP.out.below hb3)
      have HK3 := Qb (HK2.out.below hb3 HK2.out.lt)
      have HB3 := Qb (HB2.out.trans (hb3.mono HB2.out.size))
      have q1 := HK3.out.cell 1
      have f1 := HK3.out.frozen 1
      have HK4 := Qb (HK3.out.set 1 (.slice ap lp cp))
      have q3 := HK4.out.cell 3
      have f3 := HK4.out.frozen 3
      clear hvq hb3 m0 m1 m2 m3
      go_wp2
      go_ret
      have hh : XY w3 g := ⟨_,_,HK3.out,by simp [Qk]⟩
      refine ⟨rfl,HSV.out.trans (((Save.of HB3.out).set _ _).set _ _),RV.mk hb0 (by have := HK4.out.set 3 (.slice aq lq cq); simpa using this) (HP3.out.two hh rfl) (HQ.out.two hh rfl)⟩
   ·have hne3 : ((l2 : Int) == 1)=false := beq_eq_false_iff_ne.mpr (by omega)
    go_wp2_with fail
    have HS : Hid (∀ w',Below w.heap.size w w'→w'.cell? ⟨g,1,none⟩=some (.slice a1 l1 c1)∧w'.cell? ⟨g,3,none⟩=some (.slice a2 l2 c2)) := fun w' hb => ⟨(HK.out.below hb HK.out.lt).cell 1,(HK.out.below hb HK.out.lt).cell 3⟩
    go_region_held3 (fun w' => w'.cell? ⟨g,1,none⟩=some (.slice a1 l1 c1)∧w'.cell? ⟨g,3,none⟩=some (.slice a2 l2 c2)) (first | go_keep | exact hs1)
     (first
      | (go_at_call 130; refine (Xh (w := w.drew) (HA.out.below (Below.drew (Below.refl _ _))) (HB.out.below (Below.drew (Below.refl _ _))) SA.out SB.out).mono ?_; rintro e w1 ⟨hb0',vg,rfl,hvg⟩; obtain ⟨ag,lg,cg,rfl,hgl,_,hgz⟩ := QL hvg; have hb1 : Below w.heap.size w w1 := (Below.drew (Below.refl _ w)).trans hb0'; have hs1 := HS.out w1 hb1; clear hb0'))
    clear hs1
    have HG := Qb hvg
    have HB1 := Qb hb1
    have HK1 := Qb (HK.out.below hb1 HK.out.lt)
    obtain ⟨k0,k1,k2,k3⟩ : w1.cell? ⟨g,0,none⟩=_∧w1.cell? ⟨g,1,none⟩=_∧w1.cell? ⟨g,2,none⟩=_∧w1.cell? ⟨g,3,none⟩=_ := ⟨HK1.out.cell 0,HK1.out.cell 1,HK1.out.cell 2,HK1.out.cell 3⟩
    have hG0 : 0 < Nat.gcd z.natAbs b := Nat.gcd_pos_of_pos_right _ hb0
    have HSG : Hid (Small (Nat.gcd z.natAbs b)) := Yz SB.out (Nat.le_of_dvd hb0 (Nat.gcd_dvd_right _ _))
    clear hvg hb1 hgz x0 x1 x2 x3
    by_cases hg1 : Nat.gcd z.natAbs b=1
    ·have hlg : lg=1 := by
      by_cases h : lg=1
      ·exact h
      ·exact absurd hg1 (XL HG.out h)
     subst hlg
     obtain ⟨b4,o4,hi4,hc4,hlt4,hs4⟩ := Jy HG.out
     rw [hg1] at hc4
     go_wp2
     go_ret
     refine ⟨rfl,HSV.out.trans (Save.of HB1.out),RV.mk hb0 HK1.out ?_ ?_⟩
     ·rw [hg1,Nat.div_one]; exact HA.out.below HB1.out
     ·rw [hg1,Nat.div_one]; exact HB.out.below HB1.out
    ·by_cases hlg : lg=1
     ·subst hlg
      obtain ⟨b4,o4,hi4,hc4,hlt4,hs4⟩ := Jy HG.out
      have hne4 : ((Nat.gcd z.natAbs b : Int) == 1)=false := beq_eq_false_iff_ne.mpr (by omega)
      go_wp2_with fail
      refine (QO (HA.out.below HB1.out) HG.out SA.out HSG.out hG0).mono ?_
      rintro e w2 ⟨hb2,vp,vr,rfl,hvp,_⟩
      obtain ⟨ap,lp,cp,rfl,hpl,_,_⟩ := QL hvp
      have hbl2 := HB1.out.trans (hb2.mono HB1.out.size)
      have HP := Qb hvp
      have HG2 := Qb (HG.out.below hb2)
      have HK2 := Qb (HK1.out.below hb2 HK1.out.lt)
      have HB2 := Qb hbl2
      obtain ⟨m0,m1,m2,m3⟩ : w2.cell? ⟨g,0,none⟩=_∧w2.cell? ⟨g,1,none⟩=_∧w2.cell? ⟨g,2,none⟩=_∧w2.cell? ⟨g,3,none⟩=_ := ⟨HK2.out.cell 0,HK2.out.cell 1,HK2.out.cell 2,HK2.out.cell 3⟩
      clear hvp hb2 hbl2 k0 k1 k2 k3
      go_wp2_with fail
      refine (QO (HB.out.below HB2.out) HG2.out SB.out HSG.out hG0).mono ?_
      rintro e w3 ⟨hb3,vq,vr2,rfl,hvq,_⟩
      obtain ⟨aq,lq,cq,rfl,hql,_,_⟩ := QL hvq
      have HQ := Qb hvq
      have HP3 := Qb (HP.out.below hb3)
      have HK3 := Qb (HK2.out.below hb3 HK2.out.lt)
      have HB3 := Qb (HB2.out.trans (hb3.mono HB2.out.size))
      have q1 := HK3.out.cell 1
      have f1 := HK3.out.frozen 1
      have HK4 := Qb (HK3.out.set 1 (.slice ap lp cp))
      have q3 := HK4.out.cell 3
      have f3 := HK4.out.frozen 3
      clear hvq hb3 m0 m1 m2 m3
      go_wp2
      go_ret
      have hh : XY w3 g := ⟨_,_,HK3.out,by simp [Qk]⟩
      refine ⟨rfl,HSV.out.trans (((Save.of HB3.out).set _ _).set _ _),RV.mk hb0 (by have := HK4.out.set 3 (.slice aq lq cq); simpa using this) (HP3.out.two hh rfl) (HQ.out.two hh rfl)⟩
     ·have hne4 : ((lg : Int) == 1)=false := beq_eq_false_iff_ne.mpr (by omega)
      go_wp2_with fail
      refine (QO (HA.out.below HB1.out) HG.out SA.out HSG.out hG0).mono ?_
      rintro e w2 ⟨hb2,vp,vr,rfl,hvp,_⟩
      obtain ⟨ap,lp,cp,rfl,hpl,_,_⟩ := QL hvp
      have hbl2 := HB1.out.trans (hb2.mono HB1.out.size)
      have HP := Qb hvp
      have HG2 := Qb (HG.out.below hb2)
      have HK2 := Qb (HK1.out.below hb2 HK1.out.lt)
      have HB2 := Qb hbl2
      obtain ⟨m0,m1,m2,m3⟩ : w2.cell? ⟨g,0,none⟩=_∧w2.cell? ⟨g,1,none⟩=_∧w2.cell? ⟨g,2,none⟩=_∧w2.cell? ⟨g,3,none⟩=_ := ⟨HK2.out.cell 0,HK2.out.cell 1,HK2.out.cell 2,HK2.out.cell 3⟩
      clear hvp hb2 hbl2 k0 k1 k2 k3
      go_wp2_with fail
      refine (QO (HB.out.below HB2.out) HG2.out SB.out HSG.out hG0).mono ?_
      rintro e w3 ⟨hb3,vq,vr2,rfl,hvq,_⟩
      obtain ⟨aq,lq,cq,rfl,hql,_,_⟩ := QL hvq
      have HQ := Qb hvq
      have HP3 := Qb (HP.out.below hb3)
      have HK3 := Qb (HK2.out.below hb3 HK2.out.lt)
      have HB3 := Qb (HB2.out.trans (hb3.mono HB2.out.size))
      have q1 := HK3.out.cell 1
      have f1 := HK3.out.frozen 1
      have HK4 := Qb (HK3.out.set 1 (.slice ap lp cp))
      have q3 := HK4.out.cell 3
      have f3 := HK4.out.frozen 3
      clear hvq hb3 m0 m1 m2 m3
      go_wp2
      go_ret
      have hh : XY w3 g := ⟨_,_,HK3.out,by simp [Qk]⟩
      refine ⟨rfl,HSV.out.trans (((Save.of HB3.out).set _ _).set _ _),RV.mk hb0 (by have := HK4.out.set 3 (.slice aq lq cq); simpa using this) (HP3.out.two hh rfl) (HQ.out.two hh rfl)⟩
end Go.Proofs.YthhnabccdehmgaaGreatDoor
/- BNO -/
namespace Go.Proofs.YthhnabccdehmgaaGreatDoor
open Go.RowKit Cx
attribute [local go_sem ↓] Go.wp_at_zero Go.wp_at_succ
theorem Td {w : World} {g : Nat} {y0 y1 y2 y3 : Value} {pa pb : Value} {z : Int} {b : Nat} (hk : Blk w g #[y0,y1,y2,y3] 34) (hno : (#[y0,y1,y2,y3] : Array Value).all Qk=true) (ha : IV w pa z) (hb : IV w pb (-(b : Int))) (hb0 : 0 < b) (sa : Small z.natAbs) (sb : Small b) :
  Calls Tryz.prog 40 #[.pointer (some ⟨g,0,none⟩),pa,pb] w fun e w' => e=.returned (.pointer (some ⟨g,0,none⟩))∧Save g w w'∧RV w' g (mkRat (-z) b) := by
 have HA := Qb ha
 have HB := Qb hb
 obtain ⟨g2,o2,a2,n2,c2,rfl,z0,z1,z2,zl⟩ := hb
 have hn2 : n2 ≠ 0 := fun h => by
  obtain ⟨_,_,_,e,_,_,hz⟩ := QL z2
  cases e
  have := hz.1 h
  omega
 have hne : ((n2 : Int) == 0)=false := beq_eq_false_iff_ne.mpr (by omega)
 have HK := Qb hk
 have SA := Qb sa
 have SB := Qb sb
 clear hk ha sa sb z2
 go_enter Tryz.func40,Tryz.ntmps40
 go_wp2_with fail
 have hkp := Blk.new w #[.bool false,.slice none 0 0] 32
 have hbp := Qg w (.cells #[.bool false,.slice none 0 0] 32)
 refine (XE (At2.blk hkp) (HA.out.below hbp) (HA.out.apart (Nat.le_refl _)) SA.out).mono ?_
 rintro e w1 ⟨rfl,hg⟩
 obtain ⟨ho,hbl⟩ := hg.own hkp
 have hb1 := hbp.trans (hbl _ (Nat.le_refl _) hbp.size)
 obtain ⟨gp,hgp⟩ : ∃ gp,gp=w.heap.size := ⟨_,rfl⟩
 rw [← hgp] at ho ⊢
 have HOP := Qb ho
 have HB1 := Qb hb1
 have HGP := Qb hgp
 clear ho hbl hg hkp hbp hb1 hgp
 go_wp2_with fail
 have hkq := Blk.new w1 #[.bool false,.slice none 0 0] 32
 have hbq := Qg w1 (.cells #[.bool false,.slice none 0 0] 32)
 have HBq : Hid (Below w.heap.size w (w1.alloc (.cells #[.bool false,.slice none 0 0] 32))) := HB1.out.trans (hbq.mono HB1.out.size)
 refine (XE (x := -(b : Int)) (At2.blk hkq) (HB.out.below HBq.out) (HB.out.apart HB1.out.size) (by rw [Int.natAbs_neg,Int.natAbs_natCast]; exact SB.out)).mono ?_
 rintro e w2 ⟨rfl,hg⟩
 obtain ⟨ho,hbl⟩ := hg.own hkq
 have hb2 := hbq.trans (hbl _ (Nat.le_refl _) hbq.size)
 have HGQ : Hid (w.heap.size≤w1.heap.size) := HB1.out.size
 obtain ⟨gq,hgq⟩ : ∃ gq,gq=w1.heap.size := ⟨_,rfl⟩
 rw [← hgq] at ho HGQ ⊢
 have HOQ := Qb ho
 have HOP2 := Qb (HOP.out.below hb2)
 have HB2 := Qb (HB1.out.trans (hb2.mono HB1.out.size))
 have HK2 := Qb (HK.out.below HB2.out HK.out.lt)
 have HNG : Hid (g ≠ gp∧g ≠ gq) := by
  have h1 := HK.out.lt
  have h2 := HGQ.out
  have h3 := HGP.out
  constructor <;> omega
 clear ho hbl hg hkq hbq hb2 hgq
 obtain ⟨ap,np,cp,kp,hnp⟩ := HOP2.out
 obtain ⟨aq,nq,cq,kq,hnq⟩ := HOQ.out
 have HNP := Qb hnp
 have HNQ := Qb hnq
 obtain ⟨p0,p1,_⟩ := kp.all2
 obtain ⟨m0,m1,m2,m3⟩ : w2.cell? ⟨g,0,none⟩=_∧w2.cell? ⟨g,1,none⟩=_∧w2.frozen? ⟨g,0,none⟩=_∧w2.frozen? ⟨g,1,none⟩=_ := ⟨HK2.out.cell 0,HK2.out.cell 1,HK2.out.frozen 0,HK2.out.frozen 1⟩
 have HKA := Qb ((HK2.out.set 0 (.bool (decide (z < 0)))).set 1 (.slice ap np cp))
 obtain ⟨r0,r1,r2,r3⟩ : ((w2.setCell ⟨g,0,none⟩ (.bool (decide (z < 0)))).setCell ⟨g,1,none⟩ (.slice ap np cp)).cell? ⟨g,2,none⟩=_∧((w2.setCell ⟨g,0,none⟩ (.bool (decide (z < 0)))).setCell ⟨g,1,none⟩ (.slice ap np cp)).cell? ⟨g,3,none⟩=_∧((w2.setCell ⟨g,0,none⟩ (.bool (decide (z < 0)))).setCell ⟨g,1,none⟩ (.slice ap np cp)).frozen? ⟨g,2,none⟩=_∧((w2.setCell ⟨g,0,none⟩ (.bool (decide (z < 0)))).setCell ⟨g,1,none⟩ (.slice ap np cp)).frozen? ⟨g,3,none⟩=_ := ⟨HKA.out.cell 2,HKA.out.cell 3,HKA.out.frozen 2,HKA.out.frozen 3⟩
 have q0 : ((w2.setCell ⟨g,0,none⟩ (.bool (decide (z < 0)))).setCell ⟨g,1,none⟩ (.slice ap np cp)).cell? ⟨gq,0,none⟩=_ := (Zs HNG.out.2.symm).trans (kq.cell 0)
 have q1 : ((w2.setCell ⟨g,0,none⟩ (.bool (decide (z < 0)))).setCell ⟨g,1,none⟩ (.slice ap np cp)).cell? ⟨gq,1,none⟩=_ := (Zs HNG.out.2.symm).trans (kq.cell 1)
 clear hnp hnq kp kq
 go_wp2_with fail
 have HKB := Qb ((HKA.out.set 2 (.bool true)).set 3 (.slice aq nq cq))
 have hno2 : (#[y0,y1,y2,y3] : Array Value).all Qk=true := hno
 have hh : XY w2 g := ⟨_,_,HK2.out,hno2⟩
 have hh2 : XY ((w2.setCell ⟨g,0,none⟩ (.bool (decide (z < 0)))).setCell ⟨g,1,none⟩ (.slice ap np cp)) g := ⟨_,_,HKA.out,JE (JE hno2 0 rfl) 1 rfl⟩
 have h1 := (HNP.out.two (i := 0) (j := 1) (x := .bool (decide (z < 0))) (y := .slice ap np cp) hh rfl).two (i := 2) (j := 3) (x := .bool true) (y := .slice aq nq cq) hh2 rfl
 have h2 := (HNQ.out.two (i := 0) (j := 1) (x := .bool (decide (z < 0))) (y := .slice ap np cp) hh rfl).two (i := 2) (j := 3) (x := .bool true) (y := .slice aq nq cq) hh2 rfl
 have hs : Save g w ((((w2.setCell ⟨g,0,none⟩ (.bool (decide (z < 0)))).setCell ⟨g,1,none⟩ (.slice ap np cp)).setCell ⟨g,2,none⟩ (.bool true)).setCell ⟨g,3,none⟩ (.slice aq nq cq)) := ((((Save.of HB2.out).set _ _).set _ _).set _ _).set _ _
 have HSV := Qb hs
 rw [Int.natAbs_neg,Int.natAbs_natCast] at h2
 have hkb : Blk ((((w2.setCell ⟨g,0,none⟩ (.bool (decide (z < 0)))).setCell ⟨g,1,none⟩ (.slice ap np cp)).setCell ⟨g,2,none⟩ (.bool true)).setCell ⟨g,3,none⟩ (.slice aq nq cq)) g #[.bool (decide (z < 0)),.slice ap np cp,.bool true,.slice aq nq cq] 34 := by
  exact HKB.out
 refine (Py (z := -z) (b := b) (by rw [Int.neg_neg]; exact hkb) (by rw [Int.neg_neg]; exact h1) h2 hb0 (by rw [Int.natAbs_neg]; exact SA.out) SB.out).mono ?_
 rintro e w5 ⟨rfl,hsv,hrv⟩
 have HR := Qb (And.intro (HSV.out.trans hsv) hrv)
 clear hsv hrv hs h1 h2 hh hh2
 go_wp2
 go_ret
 exact ⟨rfl,HR.out.1,HR.out.2⟩
theorem MT (x y : Rat) (n : Nat) (hy : y.num=-(n : Int)) : x / y=mkRat (-(x.num*(y.den : Int))) (x.den*n) := by
 have h1 : (-y).num=(n : Int) := by rw [Rat.neg_num,hy,Int.neg_neg]
 have h2 := NZ x (-y) n h1
 have h3 : x / y=-(x / -y) := by
  have h4 : (-y)⁻¹=-(y⁻¹) := by
   by_cases h0 : y=0
   ·subst h0
    decide +kernel
   ·refine Rat.inv_eq_of_mul_eq_one ?_
    rw [Rat.neg_mul,Rat.mul_neg,Rat.neg_neg]
    exact Rat.mul_inv_cancel y h0
  rw [Rat.div_def,Rat.div_def,h4,Rat.mul_neg,Rat.neg_neg]
 rw [h3,h2,Rat.neg_mkRat,Rat.neg_den]
theorem RT {w : World} {g gx gy : Nat} {y0 y1 y2 y3 : Value} {x y : Rat} {k l : Nat} (hk : Blk w g #[y0,y1,y2,y3] 34) (hno : (#[y0,y1,y2,y3] : Array Value).all Qk=true) (hx : RV w gx x) (hy : RV w gy y) (fx : QS k x) (fy : QS l y) (hkl : k+l+1≤35184372088640) {n : Nat} (hyn : y.num=-(n : Int)) (hn : 0 < n) :
  Calls Tryz.prog 42 #[.pointer (some ⟨g,0,none⟩),.pointer (some ⟨gx,0,none⟩),.pointer (some ⟨gy,0,none⟩)] w fun e w' => e=.returned (.pointer (some ⟨g,0,none⟩))∧Save g w w'∧RV w' g (x / y) := by
 have LX := Qb hx.lt
 have LY := Qb hy.lt
 have LG := Qb hk.lt
 have HX := Qb hx
 have HY := Qb hy
 have HK := Qb hk
 have SX := Qb (Zo fx (by omega))
 have SY := Qb (Zo fy (by omega))
 have DX := Qb (Zp fx (by omega))
 have DY := Qb (Zp fy (by omega))
 have SXY := Qb (ZZ fx fy hkl)
 have SD : Hid (Small (x.den*n)) := by
  show Small _
  have h1 := fy.num
  rw [hyn,Int.natAbs_neg,Int.natAbs_natCast] at h1
  exact Qq (k := k+l) (by rw [Nat.pow_add]; exact Nat.mul_lt_mul_of_lt_of_lt fx.den h1) (by omega)
 have HQ := Qb (MT x y n hyn)
 have HD0 : Hid (0 < x.den*n) := Nat.mul_pos x.den_pos hn
 have HYN : Hid ((x.den : Int)*y.num=-((x.den*n : Nat) : Int)) := by show _=_; rw [hyn,Int.natCast_mul,Int.mul_neg]
 clear hx hy hk fx fy hyn
 go_enter Tryz.func42,Tryz.ntmps42
 go_wp2_with fail
 go_region_held3 (fun _ => True) (trivial)
  (first
   | (go_at_call_of 60 (Value.pointer (some { block := gy,off := 0 })); refine (QW (HY.out.below (by repeat' first | with_reducible exact Below.refl _ _ | with_reducible refine Below.new ?_ _ | with_reducible refine Below.drew ?_))).mono ?_; rintro e w1 ⟨hb1,p1,rfl,hv1,hap1⟩; have hbl1 : Below w.heap.size w w1 := Qp (by repeat' first | with_reducible exact Below.refl _ _ | with_reducible refine Below.new ?_ _ | with_reducible refine Below.drew ?_) hb1)
   | (go_at_call_of 16 (Value.pointer (some { block := gx,off := 0 })); have q0 := LX.out; have q00 := LY.out; have e1 := hb1.size; have d1 := hbl1.size; (try simp at e1); refine (Zf (by repeat' first | ((with_reducible refine JD ?_); (first | with_reducible rfl | (simp; done))) | with_reducible exact Blk.new _ _ _ | with_reducible refine Jj _ ?_ | with_reducible refine ZY ?_ | with_reducible refine Ze hb1 ?_ | (first | omega | (simp; done) | (simp; omega))) (RV.num (HX.out.below (by repeat' first | with_reducible exact hbl1 | with_reducible exact Below.refl _ _ | with_reducible refine Below.new ?_ _ | with_reducible refine Below.drew ?_))) (show IV _ p1 (y.den : Int) from (by repeat' first | with_reducible exact hv1 | with_reducible refine Yl _ ?_ | with_reducible refine Xg ?_)) (ZI (by (first | omega | (simp; done) | (simp; omega)))) (by first | (refine hv1.apart ?_; (first | omega | (simp; done) | (simp; omega))) | (refine hap1 _ ?_ ?_ <;> (first | omega | (simp; done) | (simp; omega)))) SX.out DY.out).mono ?_; clear q0 q00 e1 d1; rintro e w2 ⟨rfl,hs2,ho2,hh2⟩; have hbl2 : Below w.heap.size w w2 := QQ (by repeat' first | with_reducible exact hbl1 | with_reducible exact Below.refl _ _ | with_reducible refine Below.new ?_ _ | with_reducible refine Below.drew ?_) hs2 (by have d1 := hbl1.size; (first | omega | (simp; done) | (simp; omega))))
   | (go_at_call_of 60 (Value.pointer (some { block := gx,off := 0 })); refine (QW (HX.out.below (by repeat' first | with_reducible exact hbl2 | with_reducible exact hbl1 | with_reducible exact Below.refl _ _ | with_reducible refine Below.new ?_ _ | with_reducible refine Below.drew ?_))).mono ?_; rintro e w3 ⟨hb3,p3,rfl,hv3,hap3⟩; have hbl3 : Below w.heap.size w w3 := Qp (by repeat' first | with_reducible exact hbl2 | with_reducible exact hbl1 | with_reducible exact Below.refl _ _ | with_reducible refine Below.new ?_ _ | with_reducible refine Below.drew ?_) hb3)
   | (go_at_call_of 16 (Value.pointer (some { block := gy,off := 0 })); have q0 := LX.out; have q00 := LY.out; have e1 := hb1.size; have d1 := hbl1.size; (try simp at e1); have e2 := hs2.size; have d2 := hbl2.size; (try simp at e2); have e3 := hb3.size; have d3 := hbl3.size; (try simp at e3); have o2 := ho2.lt; refine (Zf (by repeat' first | ((with_reducible refine JD ?_); (first | with_reducible rfl | (simp; done))) | with_reducible exact Blk.new _ _ _ | with_reducible refine Jj _ ?_ | with_reducible refine ZY ?_ | with_reducible refine Ze hb3 ?_ | with_reducible refine XP hs2 ?_ ?_ | with_reducible refine Ze hb1 ?_ | (first | omega | (simp; done) | (simp; omega))) (show IV _ p3 (x.den : Int) from (by repeat' first | with_reducible exact hv3 | with_reducible refine Yl _ ?_ | with_reducible refine Xg ?_)) (RV.num (HY.out.below (by repeat' first | with_reducible exact hbl3 | with_reducible exact hbl2 | with_reducible exact hbl1 | with_reducible exact Below.refl _ _ | with_reducible refine Below.new ?_ _ | with_reducible refine Below.drew ?_))) (by first | (refine hv3.apart ?_; (first | omega | (simp; done) | (simp; omega))) | (refine hap3 _ ?_ ?_ <;> (first | omega | (simp; done) | (simp; omega)))) (ZI (by (first | omega | (simp; done) | (simp; omega)))) DX.out SY.out).mono ?_; clear q0 q00 e1 d1 e2 d2 e3 d3 o2; rintro e w4 ⟨rfl,hs4,ho4,hh4⟩; rw [HYN.out] at ho4; have hbl4 : Below w.heap.size w w4 := QQ (by repeat' first | with_reducible exact hbl3 | with_reducible exact hbl2 | with_reducible exact hbl1 | with_reducible exact Below.refl _ _ | with_reducible refine Below.new ?_ _ | with_reducible refine Below.drew ?_) hs4 (by have d1 := hbl1.size; have d2 := hbl2.size; have d3 := hbl3.size; (first | omega | (simp; done) | (simp; omega))))
   | (go_at_call 40; have q0 := LX.out; have q00 := LY.out; have e1 := hb1.size; have d1 := hbl1.size; (try simp at e1); have e2 := hs2.size; have d2 := hbl2.size; (try simp at e2); have e3 := hb3.size; have d3 := hbl3.size; (try simp at e3); have e4 := hs4.size; have d4 := hbl4.size; (try simp at e4); have o2 := ho2.lt; have o4 := ho4.lt; refine (Td (z := x.num*(y.den : Int)) (b := x.den*n) (HK.out.below (by repeat' first | with_reducible exact hbl4 | with_reducible exact hbl3 | with_reducible exact hbl2 | with_reducible exact hbl1 | with_reducible exact Below.refl _ _ | with_reducible refine Below.new ?_ _ | with_reducible refine Below.drew ?_) LG.out) hno (Own2.iv (by repeat' first | with_reducible exact ho2 | with_reducible refine Zx _ ?_ | with_reducible refine JI ?_ | with_reducible refine Ut hs4 hh4 ?_ ?_ | with_reducible refine OA hb3 ?_ | (first | omega | (simp; done) | (simp; omega)))) (Own2.iv (by repeat' first | with_reducible exact ho4 | with_reducible refine Zx _ ?_ | with_reducible refine JI ?_ | (first | omega | (simp; done) | (simp; omega)))) HD0.out SXY.out SD.out).mono ?_; clear q0 q00 e1 d1 e2 d2 e3 d3 e4 d4 o2 o4; rintro e w5 ⟨rfl,hs5,hr5⟩; have hbk : Below w.heap.size w _ := (by repeat' first | with_reducible exact hbl4 | with_reducible exact hbl3 | with_reducible exact hbl2 | with_reducible exact hbl1 | with_reducible exact Below.refl _ _ | with_reducible refine Below.new ?_ _ | with_reducible refine Below.drew ?_); have hsv5 := (Save.of (g := g) hbk).trans hs5)
   )
 all_goals
  go_wp2
  go_ret
  exact ⟨rfl,hsv5,by rw [HQ.out]; exact hr5⟩
theorem RQ {w : World} {px py : Value} {x y : Rat} {k l : Nat} (hx : PR w px x) (hy : PR w py y) (fx : QS k x) (fy : QS l y) (hkl : k+l+1≤35184372088640) {n : Nat} (hyn : y.num=-(n : Int)) (hn : 0 < n) :
  Calls Tryz.prog 10 #[px,py] w fun e w' => Below w.heap.size w w'∧∃ v,e=.returned v∧PR w' v (x / y) := by
 obtain ⟨gx,rfl,hx⟩ := hx
 obtain ⟨gy,rfl,hy⟩ := hy
 have HX := Qb hx
 have HY := Qb hy
 have HYN := Qb hyn
 clear hx hy hyn
 go_enter Tryz.func10,Tryz.ntmps10
 go_wp2_with fail
 refine (RT (Blk.new w _ _) (by simp [Qk]) (HX.out.below (Qg _ _)) (HY.out.below (Qg _ _)) fx fy hkl HYN.out hn).mono ?_
 rintro e w1 ⟨rfl,hs,hr⟩
 have H1 := Qb (And.intro (QQ (Qg _ _) hs (Nat.le_refl _)) hr)
 clear hs hr
 go_wp2
 go_ret
 exact ⟨H1.out.1,_,rfl,_,rfl,H1.out.2⟩
theorem Gu {w : World} {g : Nat} {y0 y1 y2 y3 : Value} {pa pb : Value} (hk : Blk w g #[y0,y1,y2,y3] 34) (hno : (#[y0,y1,y2,y3] : Array Value).all Qk=true) (hb : IV w pb 0) :
  Calls Tryz.prog 40 #[.pointer (some ⟨g,0,none⟩),pa,pb] w fun e w' => e=.returned (.pointer (some ⟨g,0,none⟩))∧Save g w w'∧RV w' g 0 := by
 obtain ⟨g2,o2,a2,n2,c2,rfl,z0,z1,z2,zl⟩ := hb
 have hn2 : n2=0 := by
  obtain ⟨_,_,_,e,_,_,hz⟩ := QL z2
  cases e
  exact hz.2 rfl
 subst hn2
 have HK := Qb hk
 have S0 : Hid (Small ((0 : Int)).natAbs) := Qq (k := 1) (by decide) (by decide)
 have S1 : Hid (Small 1) := Qq (k := 1) (by decide) (by decide)
 clear hk z2
 go_enter Tryz.func40,Tryz.ntmps40
 go_wp2_with fail
 have hkp := Blk.new w #[.bool false,.slice none 0 0] 32
 have hbp := Qg w (.cells #[.bool false,.slice none 0 0] 32)
 refine (Zw 1 (by decide) _).mono ?_
 rintro e w1 ⟨hb1,g1,rfl,hg1,ho1⟩
 have HB1 := Qb (hbp.trans (hb1.mono hbp.size))
 have HO1 := Qb ho1
 have HI : Hid (IV w1 (.pointer (some ⟨w.heap.size,0,none⟩)) 0) := by
  have hk1 := hkp.below hb1 hkp.lt
  exact ⟨w.heap.size,0,none,0,0,rfl,hk1.cell 0,hk1.cell 1,⟨[],NatV.nil _ _ _,Or.inl rfl,rfl⟩,hk1.lt⟩
 clear hb1 ho1 hkp hbp
 go_wp2_with fail
 refine (Zi (z := 0) (b := 1) (HK.out.below HB1.out HK.out.lt) hno HI.out HO1.out.iv (by decide) S0.out S1.out).mono ?_
 rintro e w2 ⟨rfl,hs,hr⟩
 have HR := Qb (And.intro ((Save.of HB1.out).trans hs) hr)
 clear hs hr
 go_wp2
 go_ret
 exact ⟨rfl,HR.out.1,by have := HR.out.2; rwa [show mkRat 0 1=0 by decide +kernel] at this⟩
theorem Gs {w : World} {g gx gy : Nat} {y0 y1 y2 y3 : Value} {x y : Rat} {k l : Nat} (hk : Blk w g #[y0,y1,y2,y3] 34) (hno : (#[y0,y1,y2,y3] : Array Value).all Qk=true) (hx : RV w gx x) (hy : RV w gy y) (fx : QS k x) (fy : QS l y) (hkl : k+l+1≤35184372088640) (hyn : y.num=0) :
  Calls Tryz.prog 42 #[.pointer (some ⟨g,0,none⟩),.pointer (some ⟨gx,0,none⟩),.pointer (some ⟨gy,0,none⟩)] w fun e w' => e=.returned (.pointer (some ⟨g,0,none⟩))∧Save g w w'∧RV w' g (x / y) := by
 have LX := Qb hx.lt
 have LY := Qb hy.lt
 have LG := Qb hk.lt
 have HX := Qb hx
 have HY := Qb hy
 have HK := Qb hk
 have SX := Qb (Zo fx (by omega))
 have SY := Qb (Zo fy (by omega))
 have DX := Qb (Zp fx (by omega))
 have DY := Qb (Zp fy (by omega))
 have SXY := Qb (ZZ fx fy hkl)
 have HQ : Hid (x / y=0) := by show _=_; rw [Rat.num_eq_zero.1 hyn,Rat.div_def,Rat.inv_zero,Rat.mul_zero]
 have HYN : Hid ((x.den : Int)*y.num=0) := by show _=_; rw [hyn,Int.mul_zero]
 clear hx hy hk fx fy hyn
 go_enter Tryz.func42,Tryz.ntmps42
 go_wp2_with fail
 go_region_held3 (fun _ => True) (trivial)
  (first
   | (go_at_call_of 60 (Value.pointer (some { block := gy,off := 0 })); refine (QW (HY.out.below (by repeat' first | with_reducible exact Below.refl _ _ | with_reducible refine Below.new ?_ _ | with_reducible refine Below.drew ?_))).mono ?_; rintro e w1 ⟨hb1,p1,rfl,hv1,hap1⟩; have hbl1 : Below w.heap.size w w1 := Qp (by repeat' first | with_reducible exact Below.refl _ _ | with_reducible refine Below.new ?_ _ | with_reducible refine Below.drew ?_) hb1)
   | (go_at_call_of 16 (Value.pointer (some { block := gx,off := 0 })); have q0 := LX.out; have q00 := LY.out; have e1 := hb1.size; have d1 := hbl1.size; (try simp at e1); refine (Zf (by repeat' first | ((with_reducible refine JD ?_); (first | with_reducible rfl | (simp; done))) | with_reducible exact Blk.new _ _ _ | with_reducible refine Jj _ ?_ | with_reducible refine ZY ?_ | with_reducible refine Ze hb1 ?_ | (first | omega | (simp; done) | (simp; omega))) (RV.num (HX.out.below (by repeat' first | with_reducible exact hbl1 | with_reducible exact Below.refl _ _ | with_reducible refine Below.new ?_ _ | with_reducible refine Below.drew ?_))) (show IV _ p1 (y.den : Int) from (by repeat' first | with_reducible exact hv1 | with_reducible refine Yl _ ?_ | with_reducible refine Xg ?_)) (ZI (by (first | omega | (simp; done) | (simp; omega)))) (by first | (refine hv1.apart ?_; (first | omega | (simp; done) | (simp; omega))) | (refine hap1 _ ?_ ?_ <;> (first | omega | (simp; done) | (simp; omega)))) SX.out DY.out).mono ?_; clear q0 q00 e1 d1; rintro e w2 ⟨rfl,hs2,ho2,hh2⟩; have hbl2 : Below w.heap.size w w2 := QQ (by repeat' first | with_reducible exact hbl1 | with_reducible exact Below.refl _ _ | with_reducible refine Below.new ?_ _ | with_reducible refine Below.drew ?_) hs2 (by have d1 := hbl1.size; (first | omega | (simp; done) | (simp; omega))))
   | (go_at_call_of 60 (Value.pointer (some { block := gx,off := 0 })); refine (QW (HX.out.below (by repeat' first | with_reducible exact hbl2 | with_reducible exact hbl1 | with_reducible exact Below.refl _ _ | with_reducible refine Below.new ?_ _ | with_reducible refine Below.drew ?_))).mono ?_; rintro e w3 ⟨hb3,p3,rfl,hv3,hap3⟩; have hbl3 : Below w.heap.size w w3 := Qp (by repeat' first | with_reducible exact hbl2 | with_reducible exact hbl1 | with_reducible exact Below.refl _ _ | with_reducible refine Below.new ?_ _ | with_reducible refine Below.drew ?_) hb3)
   | (go_at_call_of 16 (Value.pointer (some { block := gy,off := 0 })); have q0 := LX.out; have q00 := LY.out; have e1 := hb1.size; have d1 := hbl1.size; (try simp at e1); have e2 := hs2.size; have d2 := hbl2.size; (try simp at e2); have e3 := hb3.size; have d3 := hbl3.size; (try simp at e3); have o2 := ho2.lt; refine (Zf (by repeat' first | ((with_reducible refine JD ?_); (first | with_reducible rfl | (simp; done))) | with_reducible exact Blk.new _ _ _ | with_reducible refine Jj _ ?_ | with_reducible refine ZY ?_ | with_reducible refine Ze hb3 ?_ | with_reducible refine XP hs2 ?_ ?_ | with_reducible refine Ze hb1 ?_ | (first | omega | (simp; done) | (simp; omega))) (show IV _ p3 (x.den : Int) from (by repeat' first | with_reducible exact hv3 | with_reducible refine Yl _ ?_ | with_reducible refine Xg ?_)) (RV.num (HY.out.below (by repeat' first | with_reducible exact hbl3 | with_reducible exact hbl2 | with_reducible exact hbl1 | with_reducible exact Below.refl _ _ | with_reducible refine Below.new ?_ _ | with_reducible refine Below.drew ?_))) (by first | (refine hv3.apart ?_; (first | omega | (simp; done) | (simp; omega))) | (refine hap3 _ ?_ ?_ <;> (first | omega | (simp; done) | (simp; omega)))) (ZI (by (first | omega | (simp; done) | (simp; omega)))) DX.out SY.out).mono ?_; clear q0 q00 e1 d1 e2 d2 e3 d3 o2; rintro e w4 ⟨rfl,hs4,ho4,hh4⟩; rw [HYN.out] at ho4; have hbl4 : Below w.heap.size w w4 := QQ (by repeat' first | with_reducible exact hbl3 | with_reducible exact hbl2 | with_reducible exact hbl1 | with_reducible exact Below.refl _ _ | with_reducible refine Below.new ?_ _ | with_reducible refine Below.drew ?_) hs4 (by have d1 := hbl1.size; have d2 := hbl2.size; have d3 := hbl3.size; (first | omega | (simp; done) | (simp; omega))))
   | (go_at_call 40; have q0 := LX.out; have q00 := LY.out; have e1 := hb1.size; have d1 := hbl1.size; (try simp at e1); have e2 := hs2.size; have d2 := hbl2.size; (try simp at e2); have e3 := hb3.size; have d3 := hbl3.size; (try simp at e3); have e4 := hs4.size; have d4 := hbl4.size; (try simp at e4); have o2 := ho2.lt; have o4 := ho4.lt; refine (Gu (HK.out.below (by repeat' first | with_reducible exact hbl4 | with_reducible exact hbl3 | with_reducible exact hbl2 | with_reducible exact hbl1 | with_reducible exact Below.refl _ _ | with_reducible refine Below.new ?_ _ | with_reducible refine Below.drew ?_) LG.out) hno (Own2.iv (by repeat' first | with_reducible exact ho4 | with_reducible refine Zx _ ?_ | with_reducible refine JI ?_ | (first | omega | (simp; done) | (simp; omega))))).mono ?_; clear q0 q00 e1 d1 e2 d2 e3 d3 e4 d4 o2 o4; rintro e w5 ⟨rfl,hs5,hr5⟩; have hbk : Below w.heap.size w _ := (by repeat' first | with_reducible exact hbl4 | with_reducible exact hbl3 | with_reducible exact hbl2 | with_reducible exact hbl1 | with_reducible exact Below.refl _ _ | with_reducible refine Below.new ?_ _ | with_reducible refine Below.drew ?_); have hsv5 := (Save.of (g := g) hbk).trans hs5)
   )
 all_goals
  go_wp2
  go_ret
  exact ⟨rfl,hsv5,by rw [HQ.out]; exact hr5⟩
theorem KV {w : World} {px py : Value} {x y : Rat} {k l : Nat} (hx : PR w px x) (hy : PR w py y) (fx : QS k x) (fy : QS l y) (hkl : k+l+1≤35184372088640) (hyn : y.num=0) :
  Calls Tryz.prog 10 #[px,py] w fun e w' => Below w.heap.size w w'∧∃ v,e=.returned v∧PR w' v (x / y) := by
 obtain ⟨gx,rfl,hx⟩ := hx
 obtain ⟨gy,rfl,hy⟩ := hy
 have HX := Qb hx
 have HY := Qb hy
 have HYN := Qb hyn
 clear hx hy hyn
 go_enter Tryz.func10,Tryz.ntmps10
 go_wp2_with fail
 refine (Gs (Blk.new w _ _) (by simp [Qk]) (HX.out.below (Qg _ _)) (HY.out.below (Qg _ _)) fx fy hkl HYN.out).mono ?_
 rintro e w1 ⟨rfl,hs,hr⟩
 have H1 := Qb (And.intro (QQ (Qg _ _) hs (Nat.le_refl _)) hr)
 clear hs hr
 go_wp2
 go_ret
 exact ⟨H1.out.1,_,rfl,_,rfl,H1.out.2⟩
theorem Te {w : World} {px py : Value} {x y : Rat} {k l : Nat} (hx : PR w px x) (hy : PR w py y) (fx : QS k x) (fy : QS l y) (hkl : k+l+1≤35184372088640) :
  Calls Tryz.prog 10 #[px,py] w fun e w' => Below w.heap.size w w'∧∃ v,e=.returned v∧PR w' v (x / y) := by
 rcases Int.lt_trichotomy y.num 0 with h | h | h
 ·exact RQ hx hy fx fy hkl (n := (-y.num).toNat) (by omega) (by omega)
 ·exact KV hx hy fx fy hkl h
 ·exact Oz hx hy fx fy hkl (n := y.num.toNat) (by omega) (by omega)
end Go.Proofs.YthhnabccdehmgaaGreatDoor
/- BNM -/
namespace Go.Proofs.YthhnabccdehmgaaGreatDoor
open Go.RowKit Cx
attribute [local go_sem ↓] Go.wp_at_zero Go.wp_at_succ
theorem Ik {w : World} {g o : Nat} (x : Nat) (h0 : 0 < x) (hx : x < 9223372036854775808) (h : At2 w g o) :
  Calls Tryz.prog 66 #[.pointer (some ⟨g,o,none⟩),.int .i64 (-(x : Int))] w fun e w' => e=.returned (.pointer (some ⟨g,o,none⟩))∧Gave w g o (-(x : Int)) w' := by
 have H := Qb h
 clear h
 have hneg : (-(x : Int) < 0) := by omega
 go_enter Tryz.func66,Tryz.ntmps66
 go_wp2_with fail
 rw [GM x h0 hx]
 refine (ZA x w (by omega)).mono ?_
 rintro e w1 ⟨hb1,v1,rfl,hv1⟩
 obtain ⟨ao,n,c,rfl,hn,_,hnz⟩ := QL hv1
 have hn0 : 0 < n := by
  refine Nat.pos_of_ne_zero fun q => ?_
  have := hnz.1 q
  omega
 have HV := Qb hv1
 have HB := Qb hb1
 have HN := Qb hn0
 clear hv1 hb1 hnz hn0
 go_wp2_with fail
 refine (JL (n := n) (ao := ao) (c := c) true (H.out.below HB.out)).mono ?_
 rintro e w2 ⟨rfl,rfl⟩
 go_wp2
 go_ret
 refine ⟨rfl,w1,ao,n,c,HB.out,?_,by rw [Int.natAbs_neg,Int.natAbs_natCast]; exact HV.out⟩
 rw [decide_eq_true HN.out,decide_eq_true hneg]
theorem RU (x : Nat) (h0 : 0 < x) (hx : x < 9223372036854775808) (w : World) :
  Calls Tryz.prog 27 #[.int .i64 (-(x : Int))] w fun e w' => Below w.heap.size w w'∧∃ g,e=.returned (.pointer (some ⟨g,0,none⟩))∧w.heap.size≤g∧Own2 w' g (-(x : Int)) := by
 have hk := Blk.new w #[.bool false,.slice none 0 0] 32
 have hb := Qg w (.cells #[.bool false,.slice none 0 0] 32)
 go_enter Tryz.func27,Tryz.ntmps27
 go_wp2_with fail
 refine (Ik x h0 hx (At2.blk hk)).mono ?_
 rintro e w2 ⟨rfl,hg⟩
 obtain ⟨ho,hbl⟩ := hg.own hk
 have HO := Qb ho
 have HB := Qb (hb.trans (hbl _ (Nat.le_refl _) hb.size))
 clear ho hbl hg hk hb
 go_wp2
 go_ret
 exact ⟨HB.out,w.heap.size,rfl,Nat.le_refl _,HO.out⟩
theorem UT {w : World} {g : Nat} {y0 y1 y2 y3 : Value} (n : Nat) (h0 : 0 < n) (hn : n < 9223372036854775808) (hk : Blk w g #[y0,y1,y2,y3] 34) (hno : (#[y0,y1,y2,y3] : Array Value).all Qk=true) :
  Calls Tryz.prog 8 #[.pointer (some ⟨g,0,none⟩),.int .i64 (-(n : Int))] w fun e w' => e=.returned (.pointer (some ⟨g,0,none⟩))∧Save g w w'∧RV w' g ((-(n : Int) : Int) : Rat) := by
 have HK := Qb hk
 have LG := Qb hk.lt
 have SN : Hid (Small ((-(n : Int))).natAbs) := by
  show Small _
  rw [Int.natAbs_neg,Int.natAbs_natCast]
  exact Qq (k := 63) hn (by decide)
 have S1 : Hid (Small 1) := Qq (k := 1) (by decide) (by decide)
 clear hk
 go_enter Tryz.func8,Tryz.ntmps8
 go_wp2_with fail
 refine (RU n h0 hn w).mono ?_
 rintro e w1 ⟨hb1,g1,rfl,hg1,ho1⟩
 have HO1 := Qb ho1
 have HB1 := Qb hb1
 clear ho1 hb1
 go_wp2_with fail
 refine (Zw 1 (by decide) w1).mono ?_
 rintro e w2 ⟨hb2,g2,rfl,hg2,ho2⟩
 have HO2 := Qb ho2
 have HO1' := Qb (HO1.out.below hb2)
 have HB2 := Qb (HB1.out.trans (hb2.mono HB1.out.size))
 clear ho2 hb2
 go_wp2_with fail
 refine (Zi (z := -(n : Int)) (b := 1) (HK.out.below HB2.out LG.out) hno HO1'.out.iv HO2.out.iv (by decide) SN.out S1.out).mono ?_
 rintro e w3 ⟨rfl,hs,hr⟩
 rw [Rat.mkRat_one] at hr
 have HR := Qb (And.intro ((Save.of HB2.out).trans hs) hr)
 clear hs hr
 go_wp2
 go_ret
 exact ⟨rfl,HR.out.1,HR.out.2⟩
theorem Ga (n : Nat) (h0 : 0 < n) (hn : n < 9223372036854775808) (w : World) :
  Calls Tryz.prog 7 #[.int .i64 (-(n : Int))] w fun e w' => Below w.heap.size w w'∧∃ g,e=.returned (.pointer (some ⟨g,0,none⟩))∧w.heap.size≤g∧RV w' g ((-(n : Int) : Int) : Rat) := by
 have hk := Blk.new w #[.bool false,.slice none 0 0,.bool false,.slice none 0 0] 34
 have hb := Qg w (.cells #[.bool false,.slice none 0 0,.bool false,.slice none 0 0] 34)
 go_enter Tryz.func7,Tryz.ntmps7
 go_wp2_with fail
 refine (UT n h0 hn hk (by simp [Qk])).mono ?_
 rintro e w1 ⟨rfl,hs,hr⟩
 have HR := Qb (And.intro (hb.trans (hs.below (Nat.le_refl _) hb.size)) hr)
 clear hs hr hb hk
 go_wp2
 go_ret
 exact ⟨HR.out.1,w.heap.size,rfl,Nat.le_refl _,HR.out.2⟩
theorem Bf (z : Int) (h1 : -9223372036854775808 < z) (h2 : z < 9223372036854775808) (w : World) :
  Calls Tryz.prog 7 #[.int .i64 z] w fun e w' => Below w.heap.size w w'∧∃ g,e=.returned (.pointer (some ⟨g,0,none⟩))∧w.heap.size≤g∧RV w' g (z : Rat) := by
 by_cases hz : 0≤z
 ·obtain ⟨n,rfl⟩ := Int.eq_ofNat_of_zero_le hz
  exact Ou n (by omega) w
 ·obtain ⟨n,hn⟩ := Int.eq_ofNat_of_zero_le (a := -z) (by omega)
  obtain rfl : z=-(n : Int) := by omega
  exact Ga n (by omega) (by omega) w
end Go.Proofs.YthhnabccdehmgaaGreatDoor
/- WHL -/
namespace Go.Proofs.YthhnabccdehmgaaGreatDoor
open Go.RowKit Cx
theorem Lg (n : Nat) (h : n < 4611686018427387904) : QS 64 (n : Rat) := ⟨by rw [Rat.num_natCast]; simp; omega,by simp⟩
theorem DV {w : World} {v : Value} {a : Rat} (h : QV w v a) (h0 : a=0) :
  Calls Tryz.prog 77 #[v] w fun e w' => Below w.heap.size w w'∧e=.returned (.int .i64 0) := by
 subst h0
 exact Oc h
theorem MZ {w : World} {v : Value} {n : Nat} (h : QV w v (n : Rat)) (hn : n < 4611686018427387904) :
  Calls Tryz.prog 125 #[v] w fun e w' => Below w.heap.size w w'∧e=.returned (.tuple #[.int .i64 n,.bool true]) := by
 have HQ := Qd h
 obtain ⟨d,rfl⟩ := JF h
 obtain ⟨vu,vl,e,h1,_⟩ := h
 have e1 := Array.mk.inj (Value.agg.inj e)
 simp only [List.cons.injEq,Value.bool.injEq,and_true] at e1
 obtain ⟨hneg,hu,hlow⟩ := e1
 clear hlow
 rw [← hu,Rat.num_natCast,Int.natAbs_natCast] at h1
 rw [Rat.num_natCast] at hneg
 have hneg : d.n=false := by rw [hneg]; simp
 have hlen : d.nu≤2 := by
  obtain ⟨l,hv,ht,hval⟩ := h1
  have hl : l.length≤2 := UZ ht (by rw [hval]; simp [pw]; omega)
  obtain ⟨_,⟨rfl,ao,cap,e2⟩ | ⟨b,off,cap,e2,_⟩⟩ := hv
  ·injection e2 with _ e3 _
   omega
  ·injection e2 with _ e3 _
   omega
 have HN := Qd h1
 clear h1 hu e
 rw [hneg] at HQ ⊢
 clear hneg
 obtain ⟨hb0,hk0,hsz⟩ := DE w #[.bool false,.slice d.u d.nu d.cu,.slice d.l d.nl d.cl] 63
 have HB0 := Qd hb0
 have HSZ := Qd hsz
 have HK0 := Qd hk0
 clear hb0 hsz hk0
 have hw1 : IntKind.i64.wrap (n : Int)=(n : Int) := by rw [IntKind.wrap_i64]; omega
 go_enter Tryz.func125,Tryz.ntmps125
 go_wp2_with fail
 generalize (w.alloc (.cells #[.bool false,.slice d.u d.nu d.cu,.slice d.l d.nl d.cl] 63))=W0 at *
 have HS : Hid (∀ w',Below W0.heap.size W0 w'→w'.cell? ⟨w.heap.size,0,none⟩=some (.bool false)∧w'.cell? ⟨w.heap.size,1,none⟩=some (.slice d.u d.nu d.cu)∧w'.cell? ⟨w.heap.size,2,none⟩=some (.slice d.l d.nl d.cl)) := fun w' hb => ⟨(HK0.out.below hb (by rw [HSZ.out]; omega)).cell 0,(HK0.out.below hb (by rw [HSZ.out]; omega)).cell 1,(HK0.out.below hb (by rw [HSZ.out]; omega)).cell 2⟩
 obtain ⟨z0,z1,z2⟩ := HS.out W0 (Below.refl _ _)
 go_wp2_with fail
 refine (Yb (HN.out.below HB0.out) (by omega)).mono ?_
 rintro e w1 ⟨rfl,rfl⟩
 go_wp2_with fail
 go_region_held3 (fun w' => w'.cell? ⟨w.heap.size,0,none⟩=some (.bool false)∧w'.cell? ⟨w.heap.size,1,none⟩=some (.slice d.u d.nu d.cu)∧w'.cell? ⟨w.heap.size,2,none⟩=some (.slice d.l d.nl d.cl)) (first | go_keep | exact hk2 | exact hk3 | exact hk4)
  (first
   | (go_at_call_of 28 (Value.int .i64 (n : Int)); refine (Ov (n : Int) (by omega) (by omega) _).mono ?_; rintro e w2 ⟨hb2,v2,rfl,hv2⟩; have hbl2 : Below w1.heap.size w1 w2 := (Below.drew (Below.refl _ w1)).trans hb2; have hk2 := HS.out w2 hbl2)
   | (go_at_call 124; refine (Rl hv2 ((HQ.out.below HB0.out).below hbl2) (Lg n hn) (Lg n hn) (by decide)).mono ?_; rintro e w3 ⟨hb3,v3,rfl,hv3⟩; have hbl3 := hbl2.trans (hb3.mono hbl2.size); have hk3 := HS.out w3 hbl3)
   | (go_at_call 77; refine (DV hv3 Rat.sub_self).mono ?_; rintro e w4 ⟨hb4,rfl⟩; have hbl4 := hbl3.trans (hb4.mono hbl3.size); have hk4 := HS.out w4 hbl4)
   )
 all_goals
  go_wp2
  exact bodyPost_ret (v := .tuple #[.int .i64 n,.bool true]) (by simp [results,Tryz.results125,go_sem]) rfl ⟨HB0.out.trans (hbl4.mono HB0.out.size),rfl⟩
end Go.Proofs.YthhnabccdehmgaaGreatDoor
