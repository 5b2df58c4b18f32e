/- The law, over its runs. -/
import Derived.Test.YtjfodeihndjpjaaGreatDoorLMTRB1
import Derived.Test.YtjfodeihndjpjaaGreatDoorLMTRB2
import Derived.Test.YtjfodeihndjpjaaGreatDoorLMTRB3
set_option maxHeartbeats 16000000
set_option maxRecDepth 100000
namespace Go.Proofs.YtjfodeihndjpjaaGreatDoor
open Go.RowKit Cx
variable {q : Nat→Rat} {σ : Nat→ByteArray}
theorem tR_An {a b : Prop} (x : a) (y : b) : a∧b := ⟨x,y⟩
theorem tR_leaf {M : Memo} {H : List (Nat × Nat × Nat × Nat)} {K : List (FuncId × List AC)} {k : Nat} {q : Nat→Rat} {σ : Nat→ByteArray} {args : List AV} {vs : List Value} {w : World} (hr : (callD (sx Tryz.prog tR_N H K tR_L tR_C tR_Z (prC [8])) tR_cs M k [] 3 args [] 0).map (·.1)=some (kB true)) (hσ : ∀ j,(σ j).size≤1048576) (hq : ∀ (a : Nat) nd,tR_N[a]? = some nd→q a=valN σ q nd) (h0 : ∀ a,tR_N.length≤a→q a=0) (hH : hAll q H) (hp : PreS w) (hM : MemoAll tR_N tR_L tR_C tR_Z q σ [8] w M) (hA : ∀ K,A2 (avOn (cOn (evS q σ) K (fun _ => none) w)) args vs) : Calls Tryz.prog 3 vs.toArray w fun e w' => Below w.heap.size w w'∧e=.returned (.bool true) :=
 run_toldD' k (hy_ofW hσ tR_wf tR_sz tR_lt tR_cn hq h0 hH) (by simp [closed_turned]) (by kernel_rfl) hp hM hr (hA K)
theorem tR_leafC {H : List (Nat × Nat × Nat × Nat)} {K : List (FuncId × List AC)} {k : Nat} {q : Nat→Rat} {σ : Nat→ByteArray} {args : List AV} {vs : List Value} {w : World} (hr : (callC (sx Tryz.prog tR_N H K tR_L tR_C tR_Z (prC [8])) tR_cs k [] 3 args [] 0).map (·.1)=some (kB true)) (hσ : ∀ j,(σ j).size≤1048576) (hq : ∀ (a : Nat) nd,tR_N[a]? = some nd→q a=valN σ q nd) (h0 : ∀ a,tR_N.length≤a→q a=0) (hH : hAll q H) (hp : PreS w) (hA : ∀ K,A2 (avOn (cOn (evS q σ) K (fun _ => none) w)) args vs) : Calls Tryz.prog 3 vs.toArray w fun e w' => Below w.heap.size w w'∧e=.returned (.bool true) :=
 run_toldC' k (hy_ofW hσ tR_wf tR_sz tR_lt tR_cn hq h0 hH) (by simp [closed_turned]) (by kernel_rfl) hr hp (hA K)
theorem tR_walk {w : World} {cx cz cr ga gb gc gd vx vz : ByteArray}  (scx : cx.size≤1048576) (scz : cz.size≤1048576) (scr : cr.size≤1048576) (sga : ga.size≤1048576) (sgb : gb.size≤1048576) (sgc : gc.size≤1048576) (sgd : gd.size≤1048576) (svx : vx.size≤1048576) (svz : vz.size≤1048576) (tab : Tab w) (mx : MaxL w) :
  Calls Tryz.prog 3 #[.agg #[.string cx,.string cz,.string cr],.agg #[.string ga,.string gb,.string gc,.string gd],.agg #[.string vx,.string vz]] w fun e w' => Below w.heap.size w w'∧e=.returned (.bool true) := by
 have hσ : ∀ j,(sgOf [cx,cz,cr,ga,gb,gc,gd,vx,vz] j).size≤1048576 := sgOf_size (by simp [scx,scz,scr,sga,sgb,sgc,sgd,svx,svz])
 obtain ⟨q,hq,h0⟩ := nodes_exist (sgOf [cx,cz,cr,ga,gb,gc,gd,vx,vz]) tR_N tR_wf
 have hA : ∀ K,A2 (avOn (cOn (evS q (sgOf [cx,cz,cr,ga,gb,gc,gd,vx,vz])) K (fun _ => none) w)) [(false,[(true,[.inr (2,0,0,0,0),.inr (2,1,0,0,0),.inr (2,2,0,0,0)])]),(false,[(true,[.inr (2,3,0,0,0),.inr (2,4,0,0,0),.inr (2,5,0,0,0),.inr (2,6,0,0,0)])]),(false,[(true,[.inr (2,7,0,0,0),.inr (2,8,0,0,0)])])] [.agg #[.string cx,.string cz,.string cr],.agg #[.string ga,.string gb,.string gc,.string gd],.agg #[.string vx,.string vz]] := fun K => ⟨⟨⟨[.string cx,.string cz,.string cr],rfl,rfl,rfl,rfl,trivial⟩,trivial⟩,⟨⟨[.string ga,.string gb,.string gc,.string gd],rfl,rfl,rfl,rfl,rfl,trivial⟩,trivial⟩,⟨⟨[.string vx,.string vz],rfl,rfl,rfl,trivial⟩,trivial⟩,trivial⟩
 have Q328 : q 328=0 ↔ (((((((((q 282=0∧q 285=0)∧q 288=0)∧q 291=0)∧q 294=0)∧q 297=0)∧q 300=0)∧q 303=0)∧q 306=0)∧q 309=0) := (sq_next (sq_next (sq_next (sq_next (sq_next (sq_next (sq_next (sq_next (sq_next (sq_first (hq 310 _ rfl)) (hq 311 _ rfl) (hq 312 _ rfl)) (hq 313 _ rfl) (hq 314 _ rfl)) (hq 315 _ rfl) (hq 316 _ rfl)) (hq 317 _ rfl) (hq 318 _ rfl)) (hq 319 _ rfl) (hq 320 _ rfl)) (hq 321 _ rfl) (hq 322 _ rfl)) (hq 323 _ rfl) (hq 324 _ rfl)) (hq 325 _ rfl) (hq 326 _ rfl)) (hq 327 _ rfl) (hq 328 _ rfl)).2
 by_cases a_2_2_0 : 0 < q 2
 ·
  by_cases a_2_13_0 : 0 < q 13
  ·
   by_cases b3 : q 3=0
   ·
    by_cases b4 : q 4=0
    ·
     have gT := tR_T hq a_2_2_0 a_2_13_0
     have b5 : ¬ (q 5=0) := gT.2.2.2.2.2.2.1 b3 b4
     by_cases b140 : q 140=0
     ·
      have b141 : q 141=0 := gT.2.2.2.2.2.2.2.1 b3 b140 b4
      have b142 : ¬ (q 142=0) := gT.2.2.2.2.2.2.2.2.2.1 b140 b141
      have b79 : q 79=0 := gT.1 b140
      have b124 : q 124=0 := gT.2.2.1 b141
      have b125 : ¬ (q 125=0) := gT.2.2.2.2.2.1 b142
      have b279 : ¬ (q 279=0) := gT.2.2.2.2.2.2.2.2.2.2.2.1
      have b328 : q 328=0 := Q328.2 ⟨⟨⟨⟨⟨⟨⟨⟨⟨gT.2.2.2.2.2.2.2.2.2.2.2.2.1,gT.2.2.2.2.2.2.2.2.2.2.2.2.2.1⟩,gT.2.2.2.2.2.2.2.2.2.2.2.2.2.2.1⟩,gT.2.2.2.2.2.2.2.2.2.2.2.2.2.2.2.1⟩,gT.2.2.2.2.2.2.2.2.2.2.2.2.2.2.2.2.1⟩,gT.2.2.2.2.2.2.2.2.2.2.2.2.2.2.2.2.2.1⟩,gT.2.2.2.2.2.2.2.2.2.2.2.2.2.2.2.2.2.2.1⟩,gT.2.2.2.2.2.2.2.2.2.2.2.2.2.2.2.2.2.2.2.1⟩,gT.2.2.2.2.2.2.2.2.2.2.2.2.2.2.2.2.2.2.2.2.1⟩,gT.2.2.2.2.2.2.2.2.2.2.2.2.2.2.2.2.2.2.2.2.2.1⟩
      by_cases b331 : q 331=0
      ·
       by_cases b332 : q 332=0
       ·
        have hH : hAll q tR_H0 := (tR_An (hT a_2_2_0) (tR_An (hT a_2_13_0) (tR_An (hT b3) (tR_An (hT b4) (tR_An (hF b5) (tR_An (hT b140) (tR_An (hT b141) (tR_An (hF b142) (tR_An (hT b79) (tR_An (hT b124) (tR_An (hF b125) (tR_An (hF b279) (tR_An (hT b328) (tR_An (hT b331) (tR_An (hT b332) trivial)))))))))))))))
        exact tR_leaf tR_r0 hσ hq h0 hH ⟨tab,mx⟩ (tR_memoG hσ hq h0 ⟨tab,mx⟩) hA
       ·
        have b349 : ¬ (q 349=0) := gT.2.2.2.2.2.2.2.2.2.2.2.2.2.2.2.2.2.2.2.2.2.2.2.2 b3 b4 b140 b332
        have b358 : ¬ (q 358=0) := gT.2.2.2.2.2.2.2.2.2.2.2.2.2.2.2.2.2.2.2.2.2.2.2.1 (fun h => b332 h.2) b349
        have hH : hAll q tR_H1 := (tR_An (hT a_2_2_0) (tR_An (hT a_2_13_0) (tR_An (hT b3) (tR_An (hT b4) (tR_An (hF b5) (tR_An (hT b140) (tR_An (hT b141) (tR_An (hF b142) (tR_An (hT b79) (tR_An (hT b124) (tR_An (hF b125) (tR_An (hF b279) (tR_An (hT b328) (tR_An (hT b331) (tR_An (hF b332) (tR_An (hF b349) (tR_An (hF b358) trivial)))))))))))))))))
        exact tR_leaf tR_r1 hσ hq h0 hH ⟨tab,mx⟩ (tR_memoG hσ hq h0 ⟨tab,mx⟩) hA
      ·
       by_cases b349 : q 349=0
       ·
        have b358 : q 358=0 := gT.2.2.2.2.2.2.2.2.2.2.2.2.2.2.2.2.2.2.2.2.2.2.1 (fun h => b331 h.1) b349
        have hH : hAll q tR_H2 := (tR_An (hT a_2_2_0) (tR_An (hT a_2_13_0) (tR_An (hT b3) (tR_An (hT b4) (tR_An (hF b5) (tR_An (hT b140) (tR_An (hT b141) (tR_An (hF b142) (tR_An (hT b79) (tR_An (hT b124) (tR_An (hF b125) (tR_An (hF b279) (tR_An (hT b328) (tR_An (hF b331) (tR_An (hT b349) (tR_An (hT b358) trivial))))))))))))))))
        exact tR_leaf tR_r2 hσ hq h0 hH ⟨tab,mx⟩ (tR_memoG hσ hq h0 ⟨tab,mx⟩) hA
       ·
        have b358 : ¬ (q 358=0) := gT.2.2.2.2.2.2.2.2.2.2.2.2.2.2.2.2.2.2.2.2.2.2.2.1 (fun h => b331 h.1) b349
        have hH : hAll q tR_H3 := (tR_An (hT a_2_2_0) (tR_An (hT a_2_13_0) (tR_An (hT b3) (tR_An (hT b4) (tR_An (hF b5) (tR_An (hT b140) (tR_An (hT b141) (tR_An (hF b142) (tR_An (hT b79) (tR_An (hT b124) (tR_An (hF b125) (tR_An (hF b279) (tR_An (hT b328) (tR_An (hF b331) (tR_An (hF b349) (tR_An (hF b358) trivial))))))))))))))))
        exact tR_leaf tR_r3 hσ hq h0 hH ⟨tab,mx⟩ (tR_memoG hσ hq h0 ⟨tab,mx⟩) hA
     ·
      have a_2_364_0 : 0 < q 364 := gT.2.2.2.2.2.2.2.2.2.2.1
      have b79 : ¬ (q 79=0) := gT.2.1 b140
      have b279 : ¬ (q 279=0) := gT.2.2.2.2.2.2.2.2.2.2.2.1
      have b328 : q 328=0 := Q328.2 ⟨⟨⟨⟨⟨⟨⟨⟨⟨gT.2.2.2.2.2.2.2.2.2.2.2.2.1,gT.2.2.2.2.2.2.2.2.2.2.2.2.2.1⟩,gT.2.2.2.2.2.2.2.2.2.2.2.2.2.2.1⟩,gT.2.2.2.2.2.2.2.2.2.2.2.2.2.2.2.1⟩,gT.2.2.2.2.2.2.2.2.2.2.2.2.2.2.2.2.1⟩,gT.2.2.2.2.2.2.2.2.2.2.2.2.2.2.2.2.2.1⟩,gT.2.2.2.2.2.2.2.2.2.2.2.2.2.2.2.2.2.2.1⟩,gT.2.2.2.2.2.2.2.2.2.2.2.2.2.2.2.2.2.2.2.1⟩,gT.2.2.2.2.2.2.2.2.2.2.2.2.2.2.2.2.2.2.2.2.1⟩,gT.2.2.2.2.2.2.2.2.2.2.2.2.2.2.2.2.2.2.2.2.2.1⟩
      by_cases b331 : q 331=0
      ·
       by_cases b332 : q 332=0
       ·
        have hH : hAll q tR_H4 := (tR_An (hT a_2_2_0) (tR_An (hT a_2_13_0) (tR_An (hT b3) (tR_An (hT b4) (tR_An (hF b5) (tR_An (hF b140) (tR_An (hT a_2_364_0) (tR_An (hF b79) (tR_An (hF b279) (tR_An (hT b328) (tR_An (hT b331) (tR_An (hT b332) trivial))))))))))))
        exact tR_leaf tR_r4 hσ hq h0 hH ⟨tab,mx⟩ (tR_memoG hσ hq h0 ⟨tab,mx⟩) hA
       ·
        by_cases b349 : q 349=0
        ·
         have b358 : q 358=0 := gT.2.2.2.2.2.2.2.2.2.2.2.2.2.2.2.2.2.2.2.2.2.2.1 (fun h => b332 h.2) b349
         have hH : hAll q tR_H5 := (tR_An (hT a_2_2_0) (tR_An (hT a_2_13_0) (tR_An (hT b3) (tR_An (hT b4) (tR_An (hF b5) (tR_An (hF b140) (tR_An (hT a_2_364_0) (tR_An (hF b79) (tR_An (hF b279) (tR_An (hT b328) (tR_An (hT b331) (tR_An (hF b332) (tR_An (hT b349) (tR_An (hT b358) trivial))))))))))))))
         exact tR_leaf tR_r5 hσ hq h0 hH ⟨tab,mx⟩ (tR_memoG hσ hq h0 ⟨tab,mx⟩) hA
        ·
         have b358 : ¬ (q 358=0) := gT.2.2.2.2.2.2.2.2.2.2.2.2.2.2.2.2.2.2.2.2.2.2.2.1 (fun h => b332 h.2) b349
         have hH : hAll q tR_H6 := (tR_An (hT a_2_2_0) (tR_An (hT a_2_13_0) (tR_An (hT b3) (tR_An (hT b4) (tR_An (hF b5) (tR_An (hF b140) (tR_An (hT a_2_364_0) (tR_An (hF b79) (tR_An (hF b279) (tR_An (hT b328) (tR_An (hT b331) (tR_An (hF b332) (tR_An (hF b349) (tR_An (hF b358) trivial))))))))))))))
         exact tR_leaf tR_r6 hσ hq h0 hH ⟨tab,mx⟩ (tR_memoG hσ hq h0 ⟨tab,mx⟩) hA
      ·
       by_cases b349 : q 349=0
       ·
        have b358 : q 358=0 := gT.2.2.2.2.2.2.2.2.2.2.2.2.2.2.2.2.2.2.2.2.2.2.1 (fun h => b331 h.1) b349
        have hH : hAll q tR_H7 := (tR_An (hT a_2_2_0) (tR_An (hT a_2_13_0) (tR_An (hT b3) (tR_An (hT b4) (tR_An (hF b5) (tR_An (hF b140) (tR_An (hT a_2_364_0) (tR_An (hF b79) (tR_An (hF b279) (tR_An (hT b328) (tR_An (hF b331) (tR_An (hT b349) (tR_An (hT b358) trivial)))))))))))))
        exact tR_leaf tR_r7 hσ hq h0 hH ⟨tab,mx⟩ (tR_memoG hσ hq h0 ⟨tab,mx⟩) hA
       ·
        have b358 : ¬ (q 358=0) := gT.2.2.2.2.2.2.2.2.2.2.2.2.2.2.2.2.2.2.2.2.2.2.2.1 (fun h => b331 h.1) b349
        have hH : hAll q tR_H8 := (tR_An (hT a_2_2_0) (tR_An (hT a_2_13_0) (tR_An (hT b3) (tR_An (hT b4) (tR_An (hF b5) (tR_An (hF b140) (tR_An (hT a_2_364_0) (tR_An (hF b79) (tR_An (hF b279) (tR_An (hT b328) (tR_An (hF b331) (tR_An (hF b349) (tR_An (hF b358) trivial)))))))))))))
        exact tR_leaf tR_r8 hσ hq h0 hH ⟨tab,mx⟩ (tR_memoG hσ hq h0 ⟨tab,mx⟩) hA
    ·
     by_cases b140 : q 140=0
     ·
      have gT := tR_T hq a_2_2_0 a_2_13_0
      have b141 : ¬ (q 141=0) := gT.2.2.2.2.2.2.2.2.1 b3 b140 b4
      have b79 : q 79=0 := gT.1 b140
      have b124 : ¬ (q 124=0) := gT.2.2.2.1 b141
      have b279 : ¬ (q 279=0) := gT.2.2.2.2.2.2.2.2.2.2.2.1
      have b328 : q 328=0 := Q328.2 ⟨⟨⟨⟨⟨⟨⟨⟨⟨gT.2.2.2.2.2.2.2.2.2.2.2.2.1,gT.2.2.2.2.2.2.2.2.2.2.2.2.2.1⟩,gT.2.2.2.2.2.2.2.2.2.2.2.2.2.2.1⟩,gT.2.2.2.2.2.2.2.2.2.2.2.2.2.2.2.1⟩,gT.2.2.2.2.2.2.2.2.2.2.2.2.2.2.2.2.1⟩,gT.2.2.2.2.2.2.2.2.2.2.2.2.2.2.2.2.2.1⟩,gT.2.2.2.2.2.2.2.2.2.2.2.2.2.2.2.2.2.2.1⟩,gT.2.2.2.2.2.2.2.2.2.2.2.2.2.2.2.2.2.2.2.1⟩,gT.2.2.2.2.2.2.2.2.2.2.2.2.2.2.2.2.2.2.2.2.1⟩,gT.2.2.2.2.2.2.2.2.2.2.2.2.2.2.2.2.2.2.2.2.2.1⟩
      by_cases b331 : q 331=0
      ·
       by_cases b332 : q 332=0
       ·
        have hH : hAll q tR_H9 := (tR_An (hT a_2_2_0) (tR_An (hT a_2_13_0) (tR_An (hT b3) (tR_An (hF b4) (tR_An (hT b140) (tR_An (hF b141) (tR_An (hT b79) (tR_An (hF b124) (tR_An (hF b279) (tR_An (hT b328) (tR_An (hT b331) (tR_An (hT b332) trivial))))))))))))
        exact tR_leaf tR_r9 hσ hq h0 hH ⟨tab,mx⟩ (tR_memoG hσ hq h0 ⟨tab,mx⟩) hA
       ·
        by_cases b349 : q 349=0
        ·
         have b358 : q 358=0 := gT.2.2.2.2.2.2.2.2.2.2.2.2.2.2.2.2.2.2.2.2.2.2.1 (fun h => b332 h.2) b349
         have hH : hAll q tR_H10 := (tR_An (hT a_2_2_0) (tR_An (hT a_2_13_0) (tR_An (hT b3) (tR_An (hF b4) (tR_An (hT b140) (tR_An (hF b141) (tR_An (hT b79) (tR_An (hF b124) (tR_An (hF b279) (tR_An (hT b328) (tR_An (hT b331) (tR_An (hF b332) (tR_An (hT b349) (tR_An (hT b358) trivial))))))))))))))
         exact tR_leaf tR_r10 hσ hq h0 hH ⟨tab,mx⟩ (tR_memoG hσ hq h0 ⟨tab,mx⟩) hA
        ·
         have b358 : ¬ (q 358=0) := gT.2.2.2.2.2.2.2.2.2.2.2.2.2.2.2.2.2.2.2.2.2.2.2.1 (fun h => b332 h.2) b349
         have hH : hAll q tR_H11 := (tR_An (hT a_2_2_0) (tR_An (hT a_2_13_0) (tR_An (hT b3) (tR_An (hF b4) (tR_An (hT b140) (tR_An (hF b141) (tR_An (hT b79) (tR_An (hF b124) (tR_An (hF b279) (tR_An (hT b328) (tR_An (hT b331) (tR_An (hF b332) (tR_An (hF b349) (tR_An (hF b358) trivial))))))))))))))
         exact tR_leaf tR_r11 hσ hq h0 hH ⟨tab,mx⟩ (tR_memoG hσ hq h0 ⟨tab,mx⟩) hA
      ·
       by_cases b349 : q 349=0
       ·
        have b358 : q 358=0 := gT.2.2.2.2.2.2.2.2.2.2.2.2.2.2.2.2.2.2.2.2.2.2.1 (fun h => b331 h.1) b349
        have hH : hAll q tR_H12 := (tR_An (hT a_2_2_0) (tR_An (hT a_2_13_0) (tR_An (hT b3) (tR_An (hF b4) (tR_An (hT b140) (tR_An (hF b141) (tR_An (hT b79) (tR_An (hF b124) (tR_An (hF b279) (tR_An (hT b328) (tR_An (hF b331) (tR_An (hT b349) (tR_An (hT b358) trivial)))))))))))))
        exact tR_leaf tR_r12 hσ hq h0 hH ⟨tab,mx⟩ (tR_memoG hσ hq h0 ⟨tab,mx⟩) hA
       ·
        have b358 : ¬ (q 358=0) := gT.2.2.2.2.2.2.2.2.2.2.2.2.2.2.2.2.2.2.2.2.2.2.2.1 (fun h => b331 h.1) b349
        have hH : hAll q tR_H13 := (tR_An (hT a_2_2_0) (tR_An (hT a_2_13_0) (tR_An (hT b3) (tR_An (hF b4) (tR_An (hT b140) (tR_An (hF b141) (tR_An (hT b79) (tR_An (hF b124) (tR_An (hF b279) (tR_An (hT b328) (tR_An (hF b331) (tR_An (hF b349) (tR_An (hF b358) trivial)))))))))))))
        exact tR_leaf tR_r13 hσ hq h0 hH ⟨tab,mx⟩ (tR_memoG hσ hq h0 ⟨tab,mx⟩) hA
     ·
      have gT := tR_T hq a_2_2_0 a_2_13_0
      have a_2_364_0 : 0 < q 364 := gT.2.2.2.2.2.2.2.2.2.2.1
      have b79 : ¬ (q 79=0) := gT.2.1 b140
      have b279 : ¬ (q 279=0) := gT.2.2.2.2.2.2.2.2.2.2.2.1
      have b328 : q 328=0 := Q328.2 ⟨⟨⟨⟨⟨⟨⟨⟨⟨gT.2.2.2.2.2.2.2.2.2.2.2.2.1,gT.2.2.2.2.2.2.2.2.2.2.2.2.2.1⟩,gT.2.2.2.2.2.2.2.2.2.2.2.2.2.2.1⟩,gT.2.2.2.2.2.2.2.2.2.2.2.2.2.2.2.1⟩,gT.2.2.2.2.2.2.2.2.2.2.2.2.2.2.2.2.1⟩,gT.2.2.2.2.2.2.2.2.2.2.2.2.2.2.2.2.2.1⟩,gT.2.2.2.2.2.2.2.2.2.2.2.2.2.2.2.2.2.2.1⟩,gT.2.2.2.2.2.2.2.2.2.2.2.2.2.2.2.2.2.2.2.1⟩,gT.2.2.2.2.2.2.2.2.2.2.2.2.2.2.2.2.2.2.2.2.1⟩,gT.2.2.2.2.2.2.2.2.2.2.2.2.2.2.2.2.2.2.2.2.2.1⟩
      by_cases b331 : q 331=0
      ·
       by_cases b332 : q 332=0
       ·
        have hH : hAll q tR_H14 := (tR_An (hT a_2_2_0) (tR_An (hT a_2_13_0) (tR_An (hT b3) (tR_An (hF b4) (tR_An (hF b140) (tR_An (hT a_2_364_0) (tR_An (hF b79) (tR_An (hF b279) (tR_An (hT b328) (tR_An (hT b331) (tR_An (hT b332) trivial)))))))))))
        exact tR_leaf tR_r14 hσ hq h0 hH ⟨tab,mx⟩ (tR_memoG hσ hq h0 ⟨tab,mx⟩) hA
       ·
        by_cases b349 : q 349=0
        ·
         have b358 : q 358=0 := gT.2.2.2.2.2.2.2.2.2.2.2.2.2.2.2.2.2.2.2.2.2.2.1 (fun h => b332 h.2) b349
         have hH : hAll q tR_H15 := (tR_An (hT a_2_2_0) (tR_An (hT a_2_13_0) (tR_An (hT b3) (tR_An (hF b4) (tR_An (hF b140) (tR_An (hT a_2_364_0) (tR_An (hF b79) (tR_An (hF b279) (tR_An (hT b328) (tR_An (hT b331) (tR_An (hF b332) (tR_An (hT b349) (tR_An (hT b358) trivial)))))))))))))
         exact tR_leaf tR_r15 hσ hq h0 hH ⟨tab,mx⟩ (tR_memoG hσ hq h0 ⟨tab,mx⟩) hA
        ·
         have b358 : ¬ (q 358=0) := gT.2.2.2.2.2.2.2.2.2.2.2.2.2.2.2.2.2.2.2.2.2.2.2.1 (fun h => b332 h.2) b349
         have hH : hAll q tR_H16 := (tR_An (hT a_2_2_0) (tR_An (hT a_2_13_0) (tR_An (hT b3) (tR_An (hF b4) (tR_An (hF b140) (tR_An (hT a_2_364_0) (tR_An (hF b79) (tR_An (hF b279) (tR_An (hT b328) (tR_An (hT b331) (tR_An (hF b332) (tR_An (hF b349) (tR_An (hF b358) trivial)))))))))))))
         exact tR_leaf tR_r16 hσ hq h0 hH ⟨tab,mx⟩ (tR_memoG hσ hq h0 ⟨tab,mx⟩) hA
      ·
       by_cases b349 : q 349=0
       ·
        have b358 : q 358=0 := gT.2.2.2.2.2.2.2.2.2.2.2.2.2.2.2.2.2.2.2.2.2.2.1 (fun h => b331 h.1) b349
        have hH : hAll q tR_H17 := (tR_An (hT a_2_2_0) (tR_An (hT a_2_13_0) (tR_An (hT b3) (tR_An (hF b4) (tR_An (hF b140) (tR_An (hT a_2_364_0) (tR_An (hF b79) (tR_An (hF b279) (tR_An (hT b328) (tR_An (hF b331) (tR_An (hT b349) (tR_An (hT b358) trivial))))))))))))
        exact tR_leaf tR_r17 hσ hq h0 hH ⟨tab,mx⟩ (tR_memoG hσ hq h0 ⟨tab,mx⟩) hA
       ·
        have b358 : ¬ (q 358=0) := gT.2.2.2.2.2.2.2.2.2.2.2.2.2.2.2.2.2.2.2.2.2.2.2.1 (fun h => b331 h.1) b349
        have hH : hAll q tR_H18 := (tR_An (hT a_2_2_0) (tR_An (hT a_2_13_0) (tR_An (hT b3) (tR_An (hF b4) (tR_An (hF b140) (tR_An (hT a_2_364_0) (tR_An (hF b79) (tR_An (hF b279) (tR_An (hT b328) (tR_An (hF b331) (tR_An (hF b349) (tR_An (hF b358) trivial))))))))))))
        exact tR_leaf tR_r18 hσ hq h0 hH ⟨tab,mx⟩ (tR_memoG hσ hq h0 ⟨tab,mx⟩) hA
   ·
    by_cases b140 : q 140=0
    ·
     by_cases b141 : q 141=0
     ·
      have gT := tR_T hq a_2_2_0 a_2_13_0
      have b142 : ¬ (q 142=0) := gT.2.2.2.2.2.2.2.2.2.1 b140 b141
      have b79 : q 79=0 := gT.1 b140
      have b124 : q 124=0 := gT.2.2.1 b141
      have b125 : ¬ (q 125=0) := gT.2.2.2.2.2.1 b142
      have b279 : ¬ (q 279=0) := gT.2.2.2.2.2.2.2.2.2.2.2.1
      have b328 : q 328=0 := Q328.2 ⟨⟨⟨⟨⟨⟨⟨⟨⟨gT.2.2.2.2.2.2.2.2.2.2.2.2.1,gT.2.2.2.2.2.2.2.2.2.2.2.2.2.1⟩,gT.2.2.2.2.2.2.2.2.2.2.2.2.2.2.1⟩,gT.2.2.2.2.2.2.2.2.2.2.2.2.2.2.2.1⟩,gT.2.2.2.2.2.2.2.2.2.2.2.2.2.2.2.2.1⟩,gT.2.2.2.2.2.2.2.2.2.2.2.2.2.2.2.2.2.1⟩,gT.2.2.2.2.2.2.2.2.2.2.2.2.2.2.2.2.2.2.1⟩,gT.2.2.2.2.2.2.2.2.2.2.2.2.2.2.2.2.2.2.2.1⟩,gT.2.2.2.2.2.2.2.2.2.2.2.2.2.2.2.2.2.2.2.2.1⟩,gT.2.2.2.2.2.2.2.2.2.2.2.2.2.2.2.2.2.2.2.2.2.1⟩
      by_cases b331 : q 331=0
      ·
       by_cases b332 : q 332=0
       ·
        have hH : hAll q tR_H19 := (tR_An (hT a_2_2_0) (tR_An (hT a_2_13_0) (tR_An (hF b3) (tR_An (hT b140) (tR_An (hT b141) (tR_An (hF b142) (tR_An (hT b79) (tR_An (hT b124) (tR_An (hF b125) (tR_An (hF b279) (tR_An (hT b328) (tR_An (hT b331) (tR_An (hT b332) trivial)))))))))))))
        exact tR_leaf tR_r19 hσ hq h0 hH ⟨tab,mx⟩ (tR_memoG hσ hq h0 ⟨tab,mx⟩) hA
       ·
        by_cases b349 : q 349=0
        ·
         have b358 : q 358=0 := gT.2.2.2.2.2.2.2.2.2.2.2.2.2.2.2.2.2.2.2.2.2.2.1 (fun h => b332 h.2) b349
         have hH : hAll q tR_H20 := (tR_An (hT a_2_2_0) (tR_An (hT a_2_13_0) (tR_An (hF b3) (tR_An (hT b140) (tR_An (hT b141) (tR_An (hF b142) (tR_An (hT b79) (tR_An (hT b124) (tR_An (hF b125) (tR_An (hF b279) (tR_An (hT b328) (tR_An (hT b331) (tR_An (hF b332) (tR_An (hT b349) (tR_An (hT b358) trivial)))))))))))))))
         exact tR_leaf tR_r20 hσ hq h0 hH ⟨tab,mx⟩ (tR_memoG hσ hq h0 ⟨tab,mx⟩) hA
        ·
         have b358 : ¬ (q 358=0) := gT.2.2.2.2.2.2.2.2.2.2.2.2.2.2.2.2.2.2.2.2.2.2.2.1 (fun h => b332 h.2) b349
         have hH : hAll q tR_H21 := (tR_An (hT a_2_2_0) (tR_An (hT a_2_13_0) (tR_An (hF b3) (tR_An (hT b140) (tR_An (hT b141) (tR_An (hF b142) (tR_An (hT b79) (tR_An (hT b124) (tR_An (hF b125) (tR_An (hF b279) (tR_An (hT b328) (tR_An (hT b331) (tR_An (hF b332) (tR_An (hF b349) (tR_An (hF b358) trivial)))))))))))))))
         exact tR_leaf tR_r21 hσ hq h0 hH ⟨tab,mx⟩ (tR_memoG hσ hq h0 ⟨tab,mx⟩) hA
      ·
       by_cases b349 : q 349=0
       ·
        have b358 : q 358=0 := gT.2.2.2.2.2.2.2.2.2.2.2.2.2.2.2.2.2.2.2.2.2.2.1 (fun h => b331 h.1) b349
        have hH : hAll q tR_H22 := (tR_An (hT a_2_2_0) (tR_An (hT a_2_13_0) (tR_An (hF b3) (tR_An (hT b140) (tR_An (hT b141) (tR_An (hF b142) (tR_An (hT b79) (tR_An (hT b124) (tR_An (hF b125) (tR_An (hF b279) (tR_An (hT b328) (tR_An (hF b331) (tR_An (hT b349) (tR_An (hT b358) trivial))))))))))))))
        exact tR_leaf tR_r22 hσ hq h0 hH ⟨tab,mx⟩ (tR_memoG hσ hq h0 ⟨tab,mx⟩) hA
       ·
        have b358 : ¬ (q 358=0) := gT.2.2.2.2.2.2.2.2.2.2.2.2.2.2.2.2.2.2.2.2.2.2.2.1 (fun h => b331 h.1) b349
        have hH : hAll q tR_H23 := (tR_An (hT a_2_2_0) (tR_An (hT a_2_13_0) (tR_An (hF b3) (tR_An (hT b140) (tR_An (hT b141) (tR_An (hF b142) (tR_An (hT b79) (tR_An (hT b124) (tR_An (hF b125) (tR_An (hF b279) (tR_An (hT b328) (tR_An (hF b331) (tR_An (hF b349) (tR_An (hF b358) trivial))))))))))))))
        exact tR_leaf tR_r23 hσ hq h0 hH ⟨tab,mx⟩ (tR_memoG hσ hq h0 ⟨tab,mx⟩) hA
     ·
      have gT := tR_T hq a_2_2_0 a_2_13_0
      have b79 : q 79=0 := gT.1 b140
      have b124 : ¬ (q 124=0) := gT.2.2.2.1 b141
      have b279 : ¬ (q 279=0) := gT.2.2.2.2.2.2.2.2.2.2.2.1
      have b328 : q 328=0 := Q328.2 ⟨⟨⟨⟨⟨⟨⟨⟨⟨gT.2.2.2.2.2.2.2.2.2.2.2.2.1,gT.2.2.2.2.2.2.2.2.2.2.2.2.2.1⟩,gT.2.2.2.2.2.2.2.2.2.2.2.2.2.2.1⟩,gT.2.2.2.2.2.2.2.2.2.2.2.2.2.2.2.1⟩,gT.2.2.2.2.2.2.2.2.2.2.2.2.2.2.2.2.1⟩,gT.2.2.2.2.2.2.2.2.2.2.2.2.2.2.2.2.2.1⟩,gT.2.2.2.2.2.2.2.2.2.2.2.2.2.2.2.2.2.2.1⟩,gT.2.2.2.2.2.2.2.2.2.2.2.2.2.2.2.2.2.2.2.1⟩,gT.2.2.2.2.2.2.2.2.2.2.2.2.2.2.2.2.2.2.2.2.1⟩,gT.2.2.2.2.2.2.2.2.2.2.2.2.2.2.2.2.2.2.2.2.2.1⟩
      by_cases b331 : q 331=0
      ·
       by_cases b332 : q 332=0
       ·
        have hH : hAll q tR_H24 := (tR_An (hT a_2_2_0) (tR_An (hT a_2_13_0) (tR_An (hF b3) (tR_An (hT b140) (tR_An (hF b141) (tR_An (hT b79) (tR_An (hF b124) (tR_An (hF b279) (tR_An (hT b328) (tR_An (hT b331) (tR_An (hT b332) trivial)))))))))))
        exact tR_leaf tR_r24 hσ hq h0 hH ⟨tab,mx⟩ (tR_memoG hσ hq h0 ⟨tab,mx⟩) hA
       ·
        by_cases b349 : q 349=0
        ·
         have b358 : q 358=0 := gT.2.2.2.2.2.2.2.2.2.2.2.2.2.2.2.2.2.2.2.2.2.2.1 (fun h => b332 h.2) b349
         have hH : hAll q tR_H25 := (tR_An (hT a_2_2_0) (tR_An (hT a_2_13_0) (tR_An (hF b3) (tR_An (hT b140) (tR_An (hF b141) (tR_An (hT b79) (tR_An (hF b124) (tR_An (hF b279) (tR_An (hT b328) (tR_An (hT b331) (tR_An (hF b332) (tR_An (hT b349) (tR_An (hT b358) trivial)))))))))))))
         exact tR_leaf tR_r25 hσ hq h0 hH ⟨tab,mx⟩ (tR_memoG hσ hq h0 ⟨tab,mx⟩) hA
        ·
         have b358 : ¬ (q 358=0) := gT.2.2.2.2.2.2.2.2.2.2.2.2.2.2.2.2.2.2.2.2.2.2.2.1 (fun h => b332 h.2) b349
         have hH : hAll q tR_H26 := (tR_An (hT a_2_2_0) (tR_An (hT a_2_13_0) (tR_An (hF b3) (tR_An (hT b140) (tR_An (hF b141) (tR_An (hT b79) (tR_An (hF b124) (tR_An (hF b279) (tR_An (hT b328) (tR_An (hT b331) (tR_An (hF b332) (tR_An (hF b349) (tR_An (hF b358) trivial)))))))))))))
         exact tR_leaf tR_r26 hσ hq h0 hH ⟨tab,mx⟩ (tR_memoG hσ hq h0 ⟨tab,mx⟩) hA
      ·
       by_cases b349 : q 349=0
       ·
        have b358 : q 358=0 := gT.2.2.2.2.2.2.2.2.2.2.2.2.2.2.2.2.2.2.2.2.2.2.1 (fun h => b331 h.1) b349
        have hH : hAll q tR_H27 := (tR_An (hT a_2_2_0) (tR_An (hT a_2_13_0) (tR_An (hF b3) (tR_An (hT b140) (tR_An (hF b141) (tR_An (hT b79) (tR_An (hF b124) (tR_An (hF b279) (tR_An (hT b328) (tR_An (hF b331) (tR_An (hT b349) (tR_An (hT b358) trivial))))))))))))
        exact tR_leaf tR_r27 hσ hq h0 hH ⟨tab,mx⟩ (tR_memoG hσ hq h0 ⟨tab,mx⟩) hA
       ·
        have b358 : ¬ (q 358=0) := gT.2.2.2.2.2.2.2.2.2.2.2.2.2.2.2.2.2.2.2.2.2.2.2.1 (fun h => b331 h.1) b349
        have hH : hAll q tR_H28 := (tR_An (hT a_2_2_0) (tR_An (hT a_2_13_0) (tR_An (hF b3) (tR_An (hT b140) (tR_An (hF b141) (tR_An (hT b79) (tR_An (hF b124) (tR_An (hF b279) (tR_An (hT b328) (tR_An (hF b331) (tR_An (hF b349) (tR_An (hF b358) trivial))))))))))))
        exact tR_leaf tR_r28 hσ hq h0 hH ⟨tab,mx⟩ (tR_memoG hσ hq h0 ⟨tab,mx⟩) hA
    ·
     have gT := tR_T hq a_2_2_0 a_2_13_0
     have a_2_364_0 : 0 < q 364 := gT.2.2.2.2.2.2.2.2.2.2.1
     have b79 : ¬ (q 79=0) := gT.2.1 b140
     have b279 : ¬ (q 279=0) := gT.2.2.2.2.2.2.2.2.2.2.2.1
     have b328 : q 328=0 := Q328.2 ⟨⟨⟨⟨⟨⟨⟨⟨⟨gT.2.2.2.2.2.2.2.2.2.2.2.2.1,gT.2.2.2.2.2.2.2.2.2.2.2.2.2.1⟩,gT.2.2.2.2.2.2.2.2.2.2.2.2.2.2.1⟩,gT.2.2.2.2.2.2.2.2.2.2.2.2.2.2.2.1⟩,gT.2.2.2.2.2.2.2.2.2.2.2.2.2.2.2.2.1⟩,gT.2.2.2.2.2.2.2.2.2.2.2.2.2.2.2.2.2.1⟩,gT.2.2.2.2.2.2.2.2.2.2.2.2.2.2.2.2.2.2.1⟩,gT.2.2.2.2.2.2.2.2.2.2.2.2.2.2.2.2.2.2.2.1⟩,gT.2.2.2.2.2.2.2.2.2.2.2.2.2.2.2.2.2.2.2.2.1⟩,gT.2.2.2.2.2.2.2.2.2.2.2.2.2.2.2.2.2.2.2.2.2.1⟩
     by_cases b331 : q 331=0
     ·
      by_cases b332 : q 332=0
      ·
       have hH : hAll q tR_H29 := (tR_An (hT a_2_2_0) (tR_An (hT a_2_13_0) (tR_An (hF b3) (tR_An (hF b140) (tR_An (hT a_2_364_0) (tR_An (hF b79) (tR_An (hF b279) (tR_An (hT b328) (tR_An (hT b331) (tR_An (hT b332) trivial))))))))))
       exact tR_leaf tR_r29 hσ hq h0 hH ⟨tab,mx⟩ (tR_memoG hσ hq h0 ⟨tab,mx⟩) hA
      ·
       by_cases b349 : q 349=0
       ·
        have b358 : q 358=0 := gT.2.2.2.2.2.2.2.2.2.2.2.2.2.2.2.2.2.2.2.2.2.2.1 (fun h => b332 h.2) b349
        have hH : hAll q tR_H30 := (tR_An (hT a_2_2_0) (tR_An (hT a_2_13_0) (tR_An (hF b3) (tR_An (hF b140) (tR_An (hT a_2_364_0) (tR_An (hF b79) (tR_An (hF b279) (tR_An (hT b328) (tR_An (hT b331) (tR_An (hF b332) (tR_An (hT b349) (tR_An (hT b358) trivial))))))))))))
        exact tR_leaf tR_r30 hσ hq h0 hH ⟨tab,mx⟩ (tR_memoG hσ hq h0 ⟨tab,mx⟩) hA
       ·
        have b358 : ¬ (q 358=0) := gT.2.2.2.2.2.2.2.2.2.2.2.2.2.2.2.2.2.2.2.2.2.2.2.1 (fun h => b332 h.2) b349
        have hH : hAll q tR_H31 := (tR_An (hT a_2_2_0) (tR_An (hT a_2_13_0) (tR_An (hF b3) (tR_An (hF b140) (tR_An (hT a_2_364_0) (tR_An (hF b79) (tR_An (hF b279) (tR_An (hT b328) (tR_An (hT b331) (tR_An (hF b332) (tR_An (hF b349) (tR_An (hF b358) trivial))))))))))))
        exact tR_leaf tR_r31 hσ hq h0 hH ⟨tab,mx⟩ (tR_memoG hσ hq h0 ⟨tab,mx⟩) hA
     ·
      by_cases b349 : q 349=0
      ·
       have b358 : q 358=0 := gT.2.2.2.2.2.2.2.2.2.2.2.2.2.2.2.2.2.2.2.2.2.2.1 (fun h => b331 h.1) b349
       have hH : hAll q tR_H32 := (tR_An (hT a_2_2_0) (tR_An (hT a_2_13_0) (tR_An (hF b3) (tR_An (hF b140) (tR_An (hT a_2_364_0) (tR_An (hF b79) (tR_An (hF b279) (tR_An (hT b328) (tR_An (hF b331) (tR_An (hT b349) (tR_An (hT b358) trivial)))))))))))
       exact tR_leaf tR_r32 hσ hq h0 hH ⟨tab,mx⟩ (tR_memoG hσ hq h0 ⟨tab,mx⟩) hA
      ·
       have b358 : ¬ (q 358=0) := gT.2.2.2.2.2.2.2.2.2.2.2.2.2.2.2.2.2.2.2.2.2.2.2.1 (fun h => b331 h.1) b349
       have hH : hAll q tR_H33 := (tR_An (hT a_2_2_0) (tR_An (hT a_2_13_0) (tR_An (hF b3) (tR_An (hF b140) (tR_An (hT a_2_364_0) (tR_An (hF b79) (tR_An (hF b279) (tR_An (hT b328) (tR_An (hF b331) (tR_An (hF b349) (tR_An (hF b358) trivial)))))))))))
       exact tR_leaf tR_r33 hσ hq h0 hH ⟨tab,mx⟩ (tR_memoG hσ hq h0 ⟨tab,mx⟩) hA
  ·
   by_cases b3 : q 3=0
   ·
    have gS := tR_S hq a_2_13_0 b3
    have b4 : q 4=0 := gS.1
    have b5 : q 5=0 := gS.2
    have hH : hAll q tR_H34 := (tR_An (hT a_2_2_0) (tR_An (hF a_2_13_0) (tR_An (hT b3) (tR_An (hT b4) (tR_An (hT b5) trivial)))))
    exact tR_leaf tR_r34 hσ hq h0 hH ⟨tab,mx⟩ (tR_memoG hσ hq h0 ⟨tab,mx⟩) hA
   ·
    have hH : hAll q tR_H35 := (tR_An (hT a_2_2_0) (tR_An (hF a_2_13_0) (tR_An (hF b3) trivial)))
    exact tR_leaf tR_r35 hσ hq h0 hH ⟨tab,mx⟩ (tR_memoG hσ hq h0 ⟨tab,mx⟩) hA
 ·
  have hH : hAll q tR_H36 := (tR_An (hF a_2_2_0) trivial)
  exact tR_leaf tR_r36 hσ hq h0 hH ⟨tab,mx⟩ (tR_memoG hσ hq h0 ⟨tab,mx⟩) hA
end Go.Proofs.YtjfodeihndjpjaaGreatDoor
