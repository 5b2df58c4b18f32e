/- Part 12 of the walks and of the mathematics under them: BU. -/
import Derived.Test.YtnhplfjlhdpgoaaGreatDoorA10
set_option maxHeartbeats 16000000
set_option maxRecDepth 100000
/- BU -/
namespace Go.Proofs.YtnhplfjlhdpgoaaGreatDoor
open Go.RowKit Cx
attribute [local go_sem ↓] Go.wp_at_zero Go.wp_at_succ
theorem DM {w : World} {g gx gy : Nat} {y0 y1 y2 y3 : Value} {x y : Rat} {k l : Nat} (hk : Blk w g #[y0,y1,y2,y3] 35) (hno : (#[y0,y1,y2,y3] : Array Value).all Qm=true) (hx : RV w gx x) (hy : RV w gy y) (fx : QS k x) (fy : QS l y) (hkl : k+l+1≤35184372088640) :
  Calls Tryz.prog 43 #[.pointer (some ⟨g,0,none⟩),.pointer (some ⟨gx,0,none⟩),.pointer (some ⟨gy,0,none⟩)] w fun e w' => e=.returned (.pointer (some ⟨g,0,none⟩))∧Save g w w'∧RV w' g (x - y) := by
 have LX := Qb hx.lt
 have LY := Qb hy.lt
 have LG := Qb hk.lt
 have HX := Qb hx
 have HY := Qb hy
 have HK := Qb hk
 have SX := Qb (XK fx (by omega))
 have SY := Qb (XK fy (by omega))
 have DX := Qb (Yu fx (by omega))
 have DY := Qb (Yu fy (by omega))
 have SXY := Qb (Ve fx fy hkl)
 have SYX := Qb (Ve fy fx (by omega))
 have SN := Qb (KP fx fy hkl)
 have SD : Hid (Small (x.den*y.den)) := Qs (k := k+l) (by rw [Nat.pow_add]; exact Nat.mul_lt_mul_of_lt_of_lt fx.den fy.den) (by omega)
 have HQ := Qb (DD x y)
 have HD0 : Hid (0 < x.den*y.den) := Nat.mul_pos x.den_pos y.den_pos
 clear hx hy hk fx fy
 go_enter Tryz.func43,Tryz.ntmps43
 go_wp2_with fail
 go_cut [7] (fun v wc => ∃ gn,v=.pointer (some ⟨gn,0,none⟩)∧Below w.heap.size w wc∧Own2 wc gn (x.num*(y.den : Int) - y.num*(x.den : Int))∧w.heap.size≤gn)
 case first =>
  go_region_held3 (fun _ => True) (trivial)
   (first
    | (go_at_call_of 42 (Value.pointer (some { block := gy,off := 0 })); refine (ZR (HY.out.below (by repeat' first | with_reducible exact Below.refl _ _ | with_reducible refine Below.new ?_ _ | with_reducible refine Below.drew ?_))).mono ?_; rintro e w1 ⟨hb1,p1,rfl,hv1,hap1⟩; have hbl1 : Below w.heap.size w w1 := Qq (by repeat' first | with_reducible exact Below.refl _ _ | with_reducible refine Below.new ?_ _ | with_reducible refine Below.drew ?_) hb1)
    | (go_at_call_of 22 (Value.pointer (some { block := gx,off := 0 })); have q0 := LX.out; have q00 := LY.out; have e1 := hb1.size; have d1 := hbl1.size; (try simp at e1); refine (YE (by repeat' first | (refine TN ?_; (first | with_reducible rfl | (simp; done))) | with_reducible exact Blk.new _ _ _ | with_reducible refine Io _ ?_ | with_reducible refine Wl ?_ | with_reducible refine Xr hb1 ?_ | (first | omega | (simp; done) | (simp; omega))) (RV.num (HX.out.below (by repeat' first | with_reducible exact hbl1 | with_reducible exact Below.refl _ _ | with_reducible refine Below.new ?_ _ | with_reducible refine Below.drew ?_))) (show IV _ p1 (y.den : Int) from (by repeat' first | with_reducible exact hv1 | with_reducible refine Dp _ ?_ | with_reducible refine Tp ?_)) (Vr (by (first | omega | (simp; done) | (simp; omega)))) (by first | (refine hv1.apart ?_; (first | omega | (simp; done) | (simp; omega))) | (refine hap1 _ ?_ ?_ <;> (first | omega | (simp; done) | (simp; omega)))) SX.out DY.out).mono ?_; clear q0 q00 e1 d1; rintro e w2 ⟨rfl,hs2,ho2,hh2⟩; have hbl2 : Below w.heap.size w w2 := ZC (by repeat' first | with_reducible exact hbl1 | with_reducible exact Below.refl _ _ | with_reducible refine Below.new ?_ _ | with_reducible refine Below.drew ?_) hs2 (by have d1 := hbl1.size; (first | omega | (simp; done) | (simp; omega))))
    | (go_at_call_of 42 (Value.pointer (some { block := gx,off := 0 })); refine (ZR (HX.out.below (by repeat' first | with_reducible exact hbl2 | with_reducible exact hbl1 | with_reducible exact Below.refl _ _ | with_reducible refine Below.new ?_ _ | with_reducible refine Below.drew ?_))).mono ?_; rintro e w3 ⟨hb3,p3,rfl,hv3,hap3⟩; have hbl3 : Below w.heap.size w w3 := Qq (by repeat' first | with_reducible exact hbl2 | with_reducible exact hbl1 | with_reducible exact Below.refl _ _ | with_reducible refine Below.new ?_ _ | with_reducible refine Below.drew ?_) hb3)
    | (go_at_call_of 22 (Value.pointer (some { block := gy,off := 0 })); have q0 := LX.out; have q00 := LY.out; have e1 := hb1.size; have d1 := hbl1.size; (try simp at e1); have e2 := hs2.size; have d2 := hbl2.size; (try simp at e2); have e3 := hb3.size; have d3 := hbl3.size; (try simp at e3); have o2 := ho2.lt; refine (YE (by repeat' first | (refine TN ?_; (first | with_reducible rfl | (simp; done))) | with_reducible exact Blk.new _ _ _ | with_reducible refine Io _ ?_ | with_reducible refine Wl ?_ | with_reducible refine Xr hb3 ?_ | with_reducible refine TL hs2 ?_ ?_ | with_reducible refine Xr hb1 ?_ | (first | omega | (simp; done) | (simp; omega))) (RV.num (HY.out.below (by repeat' first | with_reducible exact hbl3 | with_reducible exact hbl2 | with_reducible exact hbl1 | with_reducible exact Below.refl _ _ | with_reducible refine Below.new ?_ _ | with_reducible refine Below.drew ?_))) (show IV _ p3 (x.den : Int) from (by repeat' first | with_reducible exact hv3 | with_reducible refine Dp _ ?_ | with_reducible refine Tp ?_)) (Vr (by (first | omega | (simp; done) | (simp; omega)))) (by first | (refine hv3.apart ?_; (first | omega | (simp; done) | (simp; omega))) | (refine hap3 _ ?_ ?_ <;> (first | omega | (simp; done) | (simp; omega)))) SY.out DX.out).mono ?_; clear q0 q00 e1 d1 e2 d2 e3 d3 o2; rintro e w4 ⟨rfl,hs4,ho4,hh4⟩; have hbl4 : Below w.heap.size w w4 := ZC (by repeat' first | with_reducible exact hbl3 | with_reducible exact hbl2 | with_reducible exact hbl1 | with_reducible exact Below.refl _ _ | with_reducible refine Below.new ?_ _ | with_reducible refine Below.drew ?_) hs4 (by have d1 := hbl1.size; have d2 := hbl2.size; have d3 := hbl3.size; (first | omega | (simp; done) | (simp; omega))))
    | (go_at_call 95; have q0 := LX.out; have q00 := LY.out; have e1 := hb1.size; have d1 := hbl1.size; (try simp at e1); have e2 := hs2.size; have d2 := hbl2.size; (try simp at e2); have e3 := hb3.size; have d3 := hbl3.size; (try simp at e3); have e4 := hs4.size; have d4 := hbl4.size; (try simp at e4); have o2 := ho2.lt; have o4 := ho4.lt; refine (CD (by repeat' first | (refine TN ?_; (first | with_reducible rfl | (simp; done))) | with_reducible exact Blk.new _ _ _ | with_reducible refine Io _ ?_ | with_reducible refine Wl ?_ | with_reducible refine TL hs4 ?_ ?_ | with_reducible refine Xr hb3 ?_ | with_reducible refine TL hs2 ?_ ?_ | with_reducible refine Xr hb1 ?_ | (first | omega | (simp; done) | (simp; omega))) (Own2.iv (by repeat' first | with_reducible exact ho2 | with_reducible refine JE _ ?_ | with_reducible refine OU ?_ | with_reducible refine Tw hs4 hh4 ?_ ?_ | with_reducible refine MY hb3 ?_ | (first | omega | (simp; done) | (simp; omega)))) (Own2.iv (by repeat' first | with_reducible exact ho4 | with_reducible refine JE _ ?_ | with_reducible refine OU ?_ | (first | omega | (simp; done) | (simp; omega)))) (Vr (by (first | omega | (simp; done) | (simp; omega)))) (Vr (by (first | omega | (simp; done) | (simp; omega)))) SXY.out SYX.out).mono ?_; clear q0 q00 e1 d1 e2 d2 e3 d3 e4 d4 o2 o4; rintro e w5 ⟨rfl,hs5,ho5,hh5⟩; have hge := ge_at (w := w) hs5 (by have d1 := hbl1.size; have d2 := hbl2.size; have d3 := hbl3.size; have d4 := hbl4.size; (first | omega | (simp; done) | (simp; omega))); have hbl5 : Below w.heap.size w w5 := ZC (by repeat' first | with_reducible exact hbl4 | with_reducible exact hbl3 | with_reducible exact hbl2 | with_reducible exact hbl1 | with_reducible exact Below.refl _ _ | with_reducible refine Below.new ?_ _ | with_reducible refine Below.drew ?_) hs5 hge)
    )
  all_goals
   go_wp2_with fail
   go_meet
   exact ⟨_,rfl,hbl5,ho5,hge⟩
 case rest =>
  obtain ⟨gn,rfl,hbc,hon,hgn⟩ := hcut
  have HBC := Qb hbc
  have HON := Qb hon
  have hLN := hon.lt
  have hSZ := hbc.size
  clear hbc hon
  have q0 := LX.out
  have q00 := LY.out
  go_wp2_with fail
  refine (ZR (HX.out.below (Below.new HBC.out _))).mono ?_
  rintro e w1 ⟨hb1,p1,rfl,hv1,hap1⟩
  have hc1 : Below wc.heap.size wc w1 := Qq (Below.new (Below.refl _ _) _) hb1
  have B1 := Qb (And.intro hb1 (And.intro hv1 (And.intro hap1 hc1)))
  clear hb1 hv1 hap1 hc1
  go_wp2_with fail
  refine (ZR (HY.out.below (Qq HBC.out B1.out.2.2.2))).mono ?_
  rintro e w2 ⟨hb2,p2,rfl,hv2,hap2⟩
  have hc2 : Below wc.heap.size wc w2 := Qq B1.out.2.2.2 hb2
  have B2 := Qb (And.intro hb2 (And.intro hv2 (And.intro hap2 hc2)))
  clear hb2 hv2 hap2 hc2
  go_wp2_with fail
  refine (YE (Xr B2.out.1 (Xr B1.out.1 (Blk.new _ _ _))) (show IV _ p1 (x.den : Int) from iv_bel B2.out.1 B1.out.2.1) (show IV _ p2 (y.den : Int) from B2.out.2.1) (B1.out.2.2.1 _ (by omega) (by simp)) (B2.out.2.2.1 _ (by omega) (by have := B1.out.1.size; simp at this; omega)) DX.out DY.out).mono ?_
  rintro e w3 ⟨rfl,hs3,ho3,hh3⟩
  have hc3 : Below wc.heap.size wc w3 := ZC B2.out.2.2.2 hs3 (Nat.le_refl _)
  have hon3 : Own2 w3 gn (x.num*(y.den : Int) - y.num*(x.den : Int)) := HON.out.below hc3
  have B3 := Qb (And.intro hc3 (And.intro hon3 ho3))
  clear hs3 ho3 hh3 hc3 hon3
  go_wp2_with fail
  refine (Jo (z := (x.num*(y.den : Int) - y.num*(x.den : Int))) (b := x.den*y.den) (HK.out.below (Qq HBC.out B3.out.1) LG.out) hno (Own2.iv B3.out.2.1) (by have := B3.out.2.2.iv; rwa [← Int.natCast_mul] at this) HD0.out SN.out SD.out).mono ?_
  rintro e w5 ⟨rfl,hs5,hr5⟩
  go_wp2
  go_ret
  exact ⟨rfl,(Save.of (Qq HBC.out B3.out.1)).trans hs5,by rw [HQ.out]; exact hr5⟩
end Go.Proofs.YtnhplfjlhdpgoaaGreatDoor
