/- The law, over its runs. -/
import Derived.Test.YtjfodeihndjpjaaGreatDoorLMPKB1
import Derived.Test.YtjfodeihndjpjaaGreatDoorLMPKB2
import Derived.Test.YtjfodeihndjpjaaGreatDoorLMPKB3
import Derived.Test.YtjfodeihndjpjaaGreatDoorLMPKB4
set_option maxHeartbeats 16000000
set_option maxRecDepth 100000
namespace Go.Proofs.YtjfodeihndjpjaaGreatDoor
open Go.RowKit Cx
variable {q : Nat→Rat} {σ : Nat→ByteArray}
theorem pK_An {a b : Prop} (x : a) (y : b) : a∧b := ⟨x,y⟩
theorem pK_leaf {M : Memo} {H : List (Nat × Nat × Nat × Nat)} {K : List (FuncId × List AC)} {k : Nat} {q : Nat→Rat} {σ : Nat→ByteArray} {args : List AV} {vs : List Value} {w : World} (hr : (callD (sx Tryz.prog pK_N H K pK_L pK_C pK_Z (prC [43])) pK_cs M k [] 6 args [] 0).map (·.1)=some (kB true)) (hσ : ∀ j,(σ j).size≤1048576) (hq : ∀ (a : Nat) nd,pK_N[a]? = some nd→q a=valN σ q nd) (h0 : ∀ a,pK_N.length≤a→q a=0) (hH : hAll q H) (hp : PreS w) (hM : MemoAll pK_N pK_L pK_C pK_Z q σ [43] w M) (hA : ∀ K,A2 (avOn (cOn (evS q σ) K (fun _ => none) w)) args vs) : Calls Tryz.prog 6 vs.toArray w fun e w' => Below w.heap.size w w'∧e=.returned (.bool true) :=
 run_toldD' k (hy_ofW hσ pK_wf pK_sz pK_lt pK_cn hq h0 hH) (by simp [closed_projected]) (by kernel_rfl) hp hM hr (hA K)
theorem pK_leafC {H : List (Nat × Nat × Nat × Nat)} {K : List (FuncId × List AC)} {k : Nat} {q : Nat→Rat} {σ : Nat→ByteArray} {args : List AV} {vs : List Value} {w : World} (hr : (callC (sx Tryz.prog pK_N H K pK_L pK_C pK_Z (prC [43])) pK_cs k [] 6 args [] 0).map (·.1)=some (kB true)) (hσ : ∀ j,(σ j).size≤1048576) (hq : ∀ (a : Nat) nd,pK_N[a]? = some nd→q a=valN σ q nd) (h0 : ∀ a,pK_N.length≤a→q a=0) (hH : hAll q H) (hp : PreS w) (hA : ∀ K,A2 (avOn (cOn (evS q σ) K (fun _ => none) w)) args vs) : Calls Tryz.prog 6 vs.toArray w fun e w' => Below w.heap.size w w'∧e=.returned (.bool true) :=
 run_toldC' k (hy_ofW hσ pK_wf pK_sz pK_lt pK_cn hq h0 hH) (by simp [closed_projected]) (by kernel_rfl) hr hp (hA K)
theorem pK_walk {w : World} {ka kb kc kd ke kf kg kh ki sa sb sc ta tb tc ma mb na nb la lb lc : ByteArray}  (ska : ka.size≤1048576) (skb : kb.size≤1048576) (skc : kc.size≤1048576) (skd : kd.size≤1048576) (ske : ke.size≤1048576) (skf : kf.size≤1048576) (skg : kg.size≤1048576) (skh : kh.size≤1048576) (ski : ki.size≤1048576) (ssa : sa.size≤1048576) (ssb : sb.size≤1048576) (ssc : sc.size≤1048576) (sta : ta.size≤1048576) (stb : tb.size≤1048576) (stc : tc.size≤1048576) (sma : ma.size≤1048576) (smb : mb.size≤1048576) (sna : na.size≤1048576) (snb : nb.size≤1048576) (sla : la.size≤1048576) (slb : lb.size≤1048576) (slc : lc.size≤1048576) (tab : Tab w) (mx : MaxL w) :
  Calls Tryz.prog 6 #[.agg #[.string ka,.string kb,.string kc,.string kd,.string ke,.string kf,.string kg,.string kh,.string ki],.agg #[.string sa,.string sb,.string sc],.agg #[.string ta,.string tb,.string tc],.agg #[.string ma,.string mb],.agg #[.string na,.string nb],.agg #[.string la,.string lb,.string lc]] w fun e w' => Below w.heap.size w w'∧e=.returned (.bool true) := by
 have hσ : ∀ j,(sgOf [ka,kb,kc,kd,ke,kf,kg,kh,ki,sa,sb,sc,ta,tb,tc,ma,mb,na,nb,la,lb,lc] j).size≤1048576 := sgOf_size (by simp [ska,skb,skc,skd,ske,skf,skg,skh,ski,ssa,ssb,ssc,sta,stb,stc,sma,smb,sna,snb,sla,slb,slc])
 obtain ⟨q,hq,h0⟩ := nodes_exist (sgOf [ka,kb,kc,kd,ke,kf,kg,kh,ki,sa,sb,sc,ta,tb,tc,ma,mb,na,nb,la,lb,lc]) pK_N pK_wf
 have hA : ∀ K,A2 (avOn (cOn (evS q (sgOf [ka,kb,kc,kd,ke,kf,kg,kh,ki,sa,sb,sc,ta,tb,tc,ma,mb,na,nb,la,lb,lc])) K (fun _ => none) w)) [(false,[(true,[.inr (2,0,0,0,0),.inr (2,1,0,0,0),.inr (2,2,0,0,0),.inr (2,3,0,0,0),.inr (2,4,0,0,0),.inr (2,5,0,0,0),.inr (2,6,0,0,0),.inr (2,7,0,0,0),.inr (2,8,0,0,0)])]),(false,[(true,[.inr (2,9,0,0,0),.inr (2,10,0,0,0),.inr (2,11,0,0,0)])]),(false,[(true,[.inr (2,12,0,0,0),.inr (2,13,0,0,0),.inr (2,14,0,0,0)])]),(false,[(true,[.inr (2,15,0,0,0),.inr (2,16,0,0,0)])]),(false,[(true,[.inr (2,17,0,0,0),.inr (2,18,0,0,0)])]),(false,[(true,[.inr (2,19,0,0,0),.inr (2,20,0,0,0),.inr (2,21,0,0,0)])])] [.agg #[.string ka,.string kb,.string kc,.string kd,.string ke,.string kf,.string kg,.string kh,.string ki],.agg #[.string sa,.string sb,.string sc],.agg #[.string ta,.string tb,.string tc],.agg #[.string ma,.string mb],.agg #[.string na,.string nb],.agg #[.string la,.string lb,.string lc]] := fun K => ⟨⟨⟨[.string ka,.string kb,.string kc,.string kd,.string ke,.string kf,.string kg,.string kh,.string ki],rfl,rfl,rfl,rfl,rfl,rfl,rfl,rfl,rfl,rfl,trivial⟩,trivial⟩,⟨⟨[.string sa,.string sb,.string sc],rfl,rfl,rfl,rfl,trivial⟩,trivial⟩,⟨⟨[.string ta,.string tb,.string tc],rfl,rfl,rfl,rfl,trivial⟩,trivial⟩,⟨⟨[.string ma,.string mb],rfl,rfl,rfl,trivial⟩,trivial⟩,⟨⟨[.string na,.string nb],rfl,rfl,rfl,trivial⟩,trivial⟩,⟨⟨[.string la,.string lb,.string lc],rfl,rfl,rfl,rfl,trivial⟩,trivial⟩,trivial⟩
 by_cases b32 : q 32=0
 ·
  by_cases b66 : q 66=0
  ·
   have hH : hAll q pK_H0 := (pK_An (hT b32) (pK_An (hT b66) trivial))
   exact pK_leaf pK_r0 hσ hq h0 hH ⟨tab,mx⟩ (pK_memoG hσ hq h0 ⟨tab,mx⟩) hA
  ·
   have hH : hAll q pK_H1 := (pK_An (hT b32) (pK_An (hF b66) trivial))
   exact pK_leaf pK_r1 hσ hq h0 hH ⟨tab,mx⟩ (pK_memoG hσ hq h0 ⟨tab,mx⟩) hA
 ·
  by_cases b74 : q 74=0
  ·
   by_cases b66 : q 66=0
   ·
    have hH : hAll q pK_H2 := (pK_An (hF b32) (pK_An (hT b74) (pK_An (hT b66) trivial)))
    exact pK_leaf pK_r2 hσ hq h0 hH ⟨tab,mx⟩ (pK_memoG hσ hq h0 ⟨tab,mx⟩) hA
   ·
    have hH : hAll q pK_H3 := (pK_An (hF b32) (pK_An (hT b74) (pK_An (hF b66) trivial)))
    exact pK_leaf pK_r3 hσ hq h0 hH ⟨tab,mx⟩ (pK_memoG hσ hq h0 ⟨tab,mx⟩) hA
  ·
   by_cases b112 : q 112=0
   ·
    by_cases b66 : q 66=0
    ·
     have hH : hAll q pK_H4 := (pK_An (hF b32) (pK_An (hF b74) (pK_An (hT b112) (pK_An (hT b66) trivial))))
     exact pK_leaf pK_r4 hσ hq h0 hH ⟨tab,mx⟩ (pK_memoG hσ hq h0 ⟨tab,mx⟩) hA
    ·
     by_cases b138 : q 138=0
     ·
      have hH : hAll q pK_H5 := (pK_An (hF b32) (pK_An (hF b74) (pK_An (hT b112) (pK_An (hF b66) (pK_An (hT b138) trivial)))))
      exact pK_leaf pK_r5 hσ hq h0 hH ⟨tab,mx⟩ (pK_memoG hσ hq h0 ⟨tab,mx⟩) hA
     ·
      by_cases b167 : q 167=0
      ·
       have hH : hAll q pK_H6 := (pK_An (hF b32) (pK_An (hF b74) (pK_An (hT b112) (pK_An (hF b66) (pK_An (hF b138) (pK_An (hT b167) trivial))))))
       exact pK_leaf pK_r6 hσ hq h0 hH ⟨tab,mx⟩ (pK_memoG hσ hq h0 ⟨tab,mx⟩) hA
      ·
       have gQa := (pK_Qa hq (pK_Pa hq b32).2 (pK_T hq b66))
       have b196 : ¬ (q 196=0) := gQa.2
       have gQb := (pK_Qb hq (pK_Pb hq b74).2 (pK_T hq b66))
       have b204 : ¬ (q 204=0) := gQb.2
       have gXab := pK_Xab hq (pK_T hq b66) (pK_Qa hq (pK_Pa hq b32).2 (pK_T hq b66)).1 (pK_Qb hq (pK_Pb hq b74).2 (pK_T hq b66)).1
       have b221 : q 221=0 := gXab.2 b112
       by_cases b229 : q 229=0
       ·
        have hH : hAll q pK_H7 := (pK_An (hF b32) (pK_An (hF b74) (pK_An (hT b112) (pK_An (hF b66) (pK_An (hF b138) (pK_An (hF b167) (pK_An (hF b196) (pK_An (hF b204) (pK_An (hT b221) (pK_An (hT b229) trivial))))))))))
        exact pK_leaf pK_r7 hσ hq h0 hH ⟨tab,mx⟩ (pK_memoG hσ hq h0 ⟨tab,mx⟩) hA
       ·
        by_cases b238 : q 238=0
        ·
         have gQl := (pK_Ql hq (pK_Pl hq b229).2 (pK_T hq b66))
         have b282 : ¬ (q 282=0) := gQl.2
         have gO := pK_O hq (pK_T hq b66) (pK_Qa hq (pK_Pa hq b32).2 (pK_T hq b66)).1 (pK_Ql hq (pK_Pl hq b229).2 (pK_T hq b66)).1
         have b291 : q 291=0 := gO.2 b238
         have hH : hAll q pK_H8 := (pK_An (hF b32) (pK_An (hF b74) (pK_An (hT b112) (pK_An (hF b66) (pK_An (hF b138) (pK_An (hF b167) (pK_An (hF b196) (pK_An (hF b204) (pK_An (hT b221) (pK_An (hF b229) (pK_An (hT b238) (pK_An (hF b282) (pK_An (hT b291) trivial)))))))))))))
         exact pK_leaf pK_r8 hσ hq h0 hH ⟨tab,mx⟩ (pK_memoG hσ hq h0 ⟨tab,mx⟩) hA
        ·
         have gQl := (pK_Ql hq (pK_Pl hq b229).2 (pK_T hq b66))
         have b282 : ¬ (q 282=0) := gQl.2
         have gO := pK_O hq (pK_T hq b66) (pK_Qa hq (pK_Pa hq b32).2 (pK_T hq b66)).1 (pK_Ql hq (pK_Pl hq b229).2 (pK_T hq b66)).1
         have b291 : ¬ (q 291=0) := gO.1 b238
         have hH : hAll q pK_H9 := (pK_An (hF b32) (pK_An (hF b74) (pK_An (hT b112) (pK_An (hF b66) (pK_An (hF b138) (pK_An (hF b167) (pK_An (hF b196) (pK_An (hF b204) (pK_An (hT b221) (pK_An (hF b229) (pK_An (hF b238) (pK_An (hF b282) (pK_An (hF b291) trivial)))))))))))))
         exact pK_leaf pK_r9 hσ hq h0 hH ⟨tab,mx⟩ (pK_memoG hσ hq h0 ⟨tab,mx⟩) hA
   ·
    by_cases b138 : q 138=0
    ·
     by_cases b66 : q 66=0
     ·
      have hH : hAll q pK_H10 := (pK_An (hF b32) (pK_An (hF b74) (pK_An (hF b112) (pK_An (hT b138) (pK_An (hT b66) trivial)))))
      exact pK_leaf pK_r10 hσ hq h0 hH ⟨tab,mx⟩ (pK_memoG hσ hq h0 ⟨tab,mx⟩) hA
     ·
      have hH : hAll q pK_H11 := (pK_An (hF b32) (pK_An (hF b74) (pK_An (hF b112) (pK_An (hT b138) (pK_An (hF b66) trivial)))))
      exact pK_leaf pK_r11 hσ hq h0 hH ⟨tab,mx⟩ (pK_memoG hσ hq h0 ⟨tab,mx⟩) hA
    ·
     by_cases b305 : q 305=0
     ·
      by_cases b66 : q 66=0
      ·
       have hH : hAll q pK_H12 := (pK_An (hF b32) (pK_An (hF b74) (pK_An (hF b112) (pK_An (hF b138) (pK_An (hT b305) (pK_An (hT b66) trivial))))))
       exact pK_leaf pK_r12 hσ hq h0 hH ⟨tab,mx⟩ (pK_memoG hσ hq h0 ⟨tab,mx⟩) hA
      ·
       by_cases b167 : q 167=0
       ·
        have hH : hAll q pK_H13 := (pK_An (hF b32) (pK_An (hF b74) (pK_An (hF b112) (pK_An (hF b138) (pK_An (hT b305) (pK_An (hF b66) (pK_An (hT b167) trivial)))))))
        exact pK_leaf pK_r13 hσ hq h0 hH ⟨tab,mx⟩ (pK_memoG hσ hq h0 ⟨tab,mx⟩) hA
       ·
        have gQa := (pK_Qa hq (pK_Pa hq b32).2 (pK_T hq b66))
        have b196 : ¬ (q 196=0) := gQa.2
        have gQb := (pK_Qb hq (pK_Pb hq b74).2 (pK_T hq b66))
        have b204 : ¬ (q 204=0) := gQb.2
        have gXab := pK_Xab hq (pK_T hq b66) (pK_Qa hq (pK_Pa hq b32).2 (pK_T hq b66)).1 (pK_Qb hq (pK_Pb hq b74).2 (pK_T hq b66)).1
        have b221 : ¬ (q 221=0) := gXab.1 b112
        have gQc := (pK_Qc hq (pK_Pc hq b138).2 (pK_T hq b66))
        have b310 : ¬ (q 310=0) := gQc.2
        have gXac := pK_Xac hq (pK_T hq b66) (pK_Qa hq (pK_Pa hq b32).2 (pK_T hq b66)).1 (pK_Qc hq (pK_Pc hq b138).2 (pK_T hq b66)).1
        have b327 : q 327=0 := gXac.2 b305
        by_cases b229 : q 229=0
        ·
         have hH : hAll q pK_H14 := (pK_An (hF b32) (pK_An (hF b74) (pK_An (hF b112) (pK_An (hF b138) (pK_An (hT b305) (pK_An (hF b66) (pK_An (hF b167) (pK_An (hF b196) (pK_An (hF b204) (pK_An (hF b221) (pK_An (hF b310) (pK_An (hT b327) (pK_An (hT b229) trivial)))))))))))))
         exact pK_leaf pK_r14 hσ hq h0 hH ⟨tab,mx⟩ (pK_memoG hσ hq h0 ⟨tab,mx⟩) hA
        ·
         by_cases b238 : q 238=0
         ·
          have gQl := (pK_Ql hq (pK_Pl hq b229).2 (pK_T hq b66))
          have b282 : ¬ (q 282=0) := gQl.2
          have gO := pK_O hq (pK_T hq b66) (pK_Qa hq (pK_Pa hq b32).2 (pK_T hq b66)).1 (pK_Ql hq (pK_Pl hq b229).2 (pK_T hq b66)).1
          have b291 : q 291=0 := gO.2 b238
          have hH : hAll q pK_H15 := (pK_An (hF b32) (pK_An (hF b74) (pK_An (hF b112) (pK_An (hF b138) (pK_An (hT b305) (pK_An (hF b66) (pK_An (hF b167) (pK_An (hF b196) (pK_An (hF b204) (pK_An (hF b221) (pK_An (hF b310) (pK_An (hT b327) (pK_An (hF b229) (pK_An (hT b238) (pK_An (hF b282) (pK_An (hT b291) trivial))))))))))))))))
          exact pK_leaf pK_r15 hσ hq h0 hH ⟨tab,mx⟩ (pK_memoG hσ hq h0 ⟨tab,mx⟩) hA
         ·
          have gQl := (pK_Ql hq (pK_Pl hq b229).2 (pK_T hq b66))
          have b282 : ¬ (q 282=0) := gQl.2
          have gO := pK_O hq (pK_T hq b66) (pK_Qa hq (pK_Pa hq b32).2 (pK_T hq b66)).1 (pK_Ql hq (pK_Pl hq b229).2 (pK_T hq b66)).1
          have b291 : ¬ (q 291=0) := gO.1 b238
          have hH : hAll q pK_H16 := (pK_An (hF b32) (pK_An (hF b74) (pK_An (hF b112) (pK_An (hF b138) (pK_An (hT b305) (pK_An (hF b66) (pK_An (hF b167) (pK_An (hF b196) (pK_An (hF b204) (pK_An (hF b221) (pK_An (hF b310) (pK_An (hT b327) (pK_An (hF b229) (pK_An (hF b238) (pK_An (hF b282) (pK_An (hF b291) trivial))))))))))))))))
          exact pK_leaf pK_r16 hσ hq h0 hH ⟨tab,mx⟩ (pK_memoG hσ hq h0 ⟨tab,mx⟩) hA
     ·
      by_cases b341 : q 341=0
      ·
       by_cases b66 : q 66=0
       ·
        have hH : hAll q pK_H17 := (pK_An (hF b32) (pK_An (hF b74) (pK_An (hF b112) (pK_An (hF b138) (pK_An (hF b305) (pK_An (hT b341) (pK_An (hT b66) trivial)))))))
        exact pK_leaf pK_r17 hσ hq h0 hH ⟨tab,mx⟩ (pK_memoG hσ hq h0 ⟨tab,mx⟩) hA
       ·
        by_cases b167 : q 167=0
        ·
         have hH : hAll q pK_H18 := (pK_An (hF b32) (pK_An (hF b74) (pK_An (hF b112) (pK_An (hF b138) (pK_An (hF b305) (pK_An (hT b341) (pK_An (hF b66) (pK_An (hT b167) trivial))))))))
         exact pK_leaf pK_r18 hσ hq h0 hH ⟨tab,mx⟩ (pK_memoG hσ hq h0 ⟨tab,mx⟩) hA
        ·
         have gQa := (pK_Qa hq (pK_Pa hq b32).2 (pK_T hq b66))
         have b196 : ¬ (q 196=0) := gQa.2
         have gQb := (pK_Qb hq (pK_Pb hq b74).2 (pK_T hq b66))
         have b204 : ¬ (q 204=0) := gQb.2
         have gXab := pK_Xab hq (pK_T hq b66) (pK_Qa hq (pK_Pa hq b32).2 (pK_T hq b66)).1 (pK_Qb hq (pK_Pb hq b74).2 (pK_T hq b66)).1
         have b221 : ¬ (q 221=0) := gXab.1 b112
         have gQc := (pK_Qc hq (pK_Pc hq b138).2 (pK_T hq b66))
         have b310 : ¬ (q 310=0) := gQc.2
         have gXac := pK_Xac hq (pK_T hq b66) (pK_Qa hq (pK_Pa hq b32).2 (pK_T hq b66)).1 (pK_Qc hq (pK_Pc hq b138).2 (pK_T hq b66)).1
         have b327 : ¬ (q 327=0) := gXac.1 b305
         have gXbc := pK_Xbc hq (pK_T hq b66) (pK_Qb hq (pK_Pb hq b74).2 (pK_T hq b66)).1 (pK_Qc hq (pK_Pc hq b138).2 (pK_T hq b66)).1
         have b355 : q 355=0 := gXbc.2 b341
         by_cases b229 : q 229=0
         ·
          have hH : hAll q pK_H19 := (pK_An (hF b32) (pK_An (hF b74) (pK_An (hF b112) (pK_An (hF b138) (pK_An (hF b305) (pK_An (hT b341) (pK_An (hF b66) (pK_An (hF b167) (pK_An (hF b196) (pK_An (hF b204) (pK_An (hF b221) (pK_An (hF b310) (pK_An (hF b327) (pK_An (hT b355) (pK_An (hT b229) trivial)))))))))))))))
          exact pK_leaf pK_r19 hσ hq h0 hH ⟨tab,mx⟩ (pK_memoG hσ hq h0 ⟨tab,mx⟩) hA
         ·
          by_cases b238 : q 238=0
          ·
           have gQl := (pK_Ql hq (pK_Pl hq b229).2 (pK_T hq b66))
           have b282 : ¬ (q 282=0) := gQl.2
           have gO := pK_O hq (pK_T hq b66) (pK_Qa hq (pK_Pa hq b32).2 (pK_T hq b66)).1 (pK_Ql hq (pK_Pl hq b229).2 (pK_T hq b66)).1
           have b291 : q 291=0 := gO.2 b238
           have hH : hAll q pK_H20 := (pK_An (hF b32) (pK_An (hF b74) (pK_An (hF b112) (pK_An (hF b138) (pK_An (hF b305) (pK_An (hT b341) (pK_An (hF b66) (pK_An (hF b167) (pK_An (hF b196) (pK_An (hF b204) (pK_An (hF b221) (pK_An (hF b310) (pK_An (hF b327) (pK_An (hT b355) (pK_An (hF b229) (pK_An (hT b238) (pK_An (hF b282) (pK_An (hT b291) trivial))))))))))))))))))
           exact pK_leaf pK_r20 hσ hq h0 hH ⟨tab,mx⟩ (pK_memoG hσ hq h0 ⟨tab,mx⟩) hA
          ·
           have gQl := (pK_Ql hq (pK_Pl hq b229).2 (pK_T hq b66))
           have b282 : ¬ (q 282=0) := gQl.2
           have gO := pK_O hq (pK_T hq b66) (pK_Qa hq (pK_Pa hq b32).2 (pK_T hq b66)).1 (pK_Ql hq (pK_Pl hq b229).2 (pK_T hq b66)).1
           have b291 : ¬ (q 291=0) := gO.1 b238
           have hH : hAll q pK_H21 := (pK_An (hF b32) (pK_An (hF b74) (pK_An (hF b112) (pK_An (hF b138) (pK_An (hF b305) (pK_An (hT b341) (pK_An (hF b66) (pK_An (hF b167) (pK_An (hF b196) (pK_An (hF b204) (pK_An (hF b221) (pK_An (hF b310) (pK_An (hF b327) (pK_An (hT b355) (pK_An (hF b229) (pK_An (hF b238) (pK_An (hF b282) (pK_An (hF b291) trivial))))))))))))))))))
           exact pK_leaf pK_r21 hσ hq h0 hH ⟨tab,mx⟩ (pK_memoG hσ hq h0 ⟨tab,mx⟩) hA
      ·
       by_cases b167 : q 167=0
       ·
        by_cases b66 : q 66=0
        ·
         have hH : hAll q pK_H22 := (pK_An (hF b32) (pK_An (hF b74) (pK_An (hF b112) (pK_An (hF b138) (pK_An (hF b305) (pK_An (hF b341) (pK_An (hT b167) (pK_An (hT b66) trivial))))))))
         exact pK_leaf pK_r22 hσ hq h0 hH ⟨tab,mx⟩ (pK_memoG hσ hq h0 ⟨tab,mx⟩) hA
        ·
         have hH : hAll q pK_H23 := (pK_An (hF b32) (pK_An (hF b74) (pK_An (hF b112) (pK_An (hF b138) (pK_An (hF b305) (pK_An (hF b341) (pK_An (hT b167) (pK_An (hF b66) trivial))))))))
         exact pK_leaf pK_r23 hσ hq h0 hH ⟨tab,mx⟩ (pK_memoG hσ hq h0 ⟨tab,mx⟩) hA
       ·
        by_cases b369 : q 369=0
        ·
         by_cases b66 : q 66=0
         ·
          have hH : hAll q pK_H24 := (pK_An (hF b32) (pK_An (hF b74) (pK_An (hF b112) (pK_An (hF b138) (pK_An (hF b305) (pK_An (hF b341) (pK_An (hF b167) (pK_An (hT b369) (pK_An (hT b66) trivial)))))))))
          exact pK_leaf pK_r24 hσ hq h0 hH ⟨tab,mx⟩ (pK_memoG hσ hq h0 ⟨tab,mx⟩) hA
         ·
          have gQa := (pK_Qa hq (pK_Pa hq b32).2 (pK_T hq b66))
          have b196 : ¬ (q 196=0) := gQa.2
          have gQb := (pK_Qb hq (pK_Pb hq b74).2 (pK_T hq b66))
          have b204 : ¬ (q 204=0) := gQb.2
          have gXab := pK_Xab hq (pK_T hq b66) (pK_Qa hq (pK_Pa hq b32).2 (pK_T hq b66)).1 (pK_Qb hq (pK_Pb hq b74).2 (pK_T hq b66)).1
          have b221 : ¬ (q 221=0) := gXab.1 b112
          have gQc := (pK_Qc hq (pK_Pc hq b138).2 (pK_T hq b66))
          have b310 : ¬ (q 310=0) := gQc.2
          have gXac := pK_Xac hq (pK_T hq b66) (pK_Qa hq (pK_Pa hq b32).2 (pK_T hq b66)).1 (pK_Qc hq (pK_Pc hq b138).2 (pK_T hq b66)).1
          have b327 : ¬ (q 327=0) := gXac.1 b305
          have gXbc := pK_Xbc hq (pK_T hq b66) (pK_Qb hq (pK_Pb hq b74).2 (pK_T hq b66)).1 (pK_Qc hq (pK_Pc hq b138).2 (pK_T hq b66)).1
          have b355 : ¬ (q 355=0) := gXbc.1 b341
          have gQd := (pK_Qd hq (pK_Pd hq b167).2 (pK_T hq b66))
          have b374 : ¬ (q 374=0) := gQd.2
          have gXad := pK_Xad hq (pK_T hq b66) (pK_Qa hq (pK_Pa hq b32).2 (pK_T hq b66)).1 (pK_Qd hq (pK_Pd hq b167).2 (pK_T hq b66)).1
          have b391 : q 391=0 := gXad.2 b369
          by_cases b229 : q 229=0
          ·
           have hH : hAll q pK_H25 := (pK_An (hF b32) (pK_An (hF b74) (pK_An (hF b112) (pK_An (hF b138) (pK_An (hF b305) (pK_An (hF b341) (pK_An (hF b167) (pK_An (hT b369) (pK_An (hF b66) (pK_An (hF b196) (pK_An (hF b204) (pK_An (hF b221) (pK_An (hF b310) (pK_An (hF b327) (pK_An (hF b355) (pK_An (hF b374) (pK_An (hT b391) (pK_An (hT b229) trivial))))))))))))))))))
           exact pK_leaf pK_r25 hσ hq h0 hH ⟨tab,mx⟩ (pK_memoG hσ hq h0 ⟨tab,mx⟩) hA
          ·
           by_cases b238 : q 238=0
           ·
            have gQl := (pK_Ql hq (pK_Pl hq b229).2 (pK_T hq b66))
            have b282 : ¬ (q 282=0) := gQl.2
            have gO := pK_O hq (pK_T hq b66) (pK_Qa hq (pK_Pa hq b32).2 (pK_T hq b66)).1 (pK_Ql hq (pK_Pl hq b229).2 (pK_T hq b66)).1
            have b291 : q 291=0 := gO.2 b238
            have hH : hAll q pK_H26 := (pK_An (hF b32) (pK_An (hF b74) (pK_An (hF b112) (pK_An (hF b138) (pK_An (hF b305) (pK_An (hF b341) (pK_An (hF b167) (pK_An (hT b369) (pK_An (hF b66) (pK_An (hF b196) (pK_An (hF b204) (pK_An (hF b221) (pK_An (hF b310) (pK_An (hF b327) (pK_An (hF b355) (pK_An (hF b374) (pK_An (hT b391) (pK_An (hF b229) (pK_An (hT b238) (pK_An (hF b282) (pK_An (hT b291) trivial)))))))))))))))))))))
            exact pK_leaf pK_r26 hσ hq h0 hH ⟨tab,mx⟩ (pK_memo26 hσ hq h0 hH ⟨tab,mx⟩) hA
           ·
            have gQl := (pK_Ql hq (pK_Pl hq b229).2 (pK_T hq b66))
            have b282 : ¬ (q 282=0) := gQl.2
            have gO := pK_O hq (pK_T hq b66) (pK_Qa hq (pK_Pa hq b32).2 (pK_T hq b66)).1 (pK_Ql hq (pK_Pl hq b229).2 (pK_T hq b66)).1
            have b291 : ¬ (q 291=0) := gO.1 b238
            have hH : hAll q pK_H27 := (pK_An (hF b32) (pK_An (hF b74) (pK_An (hF b112) (pK_An (hF b138) (pK_An (hF b305) (pK_An (hF b341) (pK_An (hF b167) (pK_An (hT b369) (pK_An (hF b66) (pK_An (hF b196) (pK_An (hF b204) (pK_An (hF b221) (pK_An (hF b310) (pK_An (hF b327) (pK_An (hF b355) (pK_An (hF b374) (pK_An (hT b391) (pK_An (hF b229) (pK_An (hF b238) (pK_An (hF b282) (pK_An (hF b291) trivial)))))))))))))))))))))
            exact pK_leaf pK_r27 hσ hq h0 hH ⟨tab,mx⟩ (pK_memo27 hσ hq h0 hH ⟨tab,mx⟩) hA
        ·
         by_cases b405 : q 405=0
         ·
          by_cases b66 : q 66=0
          ·
           have hH : hAll q pK_H28 := (pK_An (hF b32) (pK_An (hF b74) (pK_An (hF b112) (pK_An (hF b138) (pK_An (hF b305) (pK_An (hF b341) (pK_An (hF b167) (pK_An (hF b369) (pK_An (hT b405) (pK_An (hT b66) trivial))))))))))
           exact pK_leaf pK_r28 hσ hq h0 hH ⟨tab,mx⟩ (pK_memoG hσ hq h0 ⟨tab,mx⟩) hA
          ·
           have gQa := (pK_Qa hq (pK_Pa hq b32).2 (pK_T hq b66))
           have b196 : ¬ (q 196=0) := gQa.2
           have gQb := (pK_Qb hq (pK_Pb hq b74).2 (pK_T hq b66))
           have b204 : ¬ (q 204=0) := gQb.2
           have gXab := pK_Xab hq (pK_T hq b66) (pK_Qa hq (pK_Pa hq b32).2 (pK_T hq b66)).1 (pK_Qb hq (pK_Pb hq b74).2 (pK_T hq b66)).1
           have b221 : ¬ (q 221=0) := gXab.1 b112
           have gQc := (pK_Qc hq (pK_Pc hq b138).2 (pK_T hq b66))
           have b310 : ¬ (q 310=0) := gQc.2
           have gXac := pK_Xac hq (pK_T hq b66) (pK_Qa hq (pK_Pa hq b32).2 (pK_T hq b66)).1 (pK_Qc hq (pK_Pc hq b138).2 (pK_T hq b66)).1
           have b327 : ¬ (q 327=0) := gXac.1 b305
           have gXbc := pK_Xbc hq (pK_T hq b66) (pK_Qb hq (pK_Pb hq b74).2 (pK_T hq b66)).1 (pK_Qc hq (pK_Pc hq b138).2 (pK_T hq b66)).1
           have b355 : ¬ (q 355=0) := gXbc.1 b341
           have gQd := (pK_Qd hq (pK_Pd hq b167).2 (pK_T hq b66))
           have b374 : ¬ (q 374=0) := gQd.2
           have gXad := pK_Xad hq (pK_T hq b66) (pK_Qa hq (pK_Pa hq b32).2 (pK_T hq b66)).1 (pK_Qd hq (pK_Pd hq b167).2 (pK_T hq b66)).1
           have b391 : ¬ (q 391=0) := gXad.1 b369
           have gXbd := pK_Xbd hq (pK_T hq b66) (pK_Qb hq (pK_Pb hq b74).2 (pK_T hq b66)).1 (pK_Qd hq (pK_Pd hq b167).2 (pK_T hq b66)).1
           have b419 : q 419=0 := gXbd.2 b405
           by_cases b229 : q 229=0
           ·
            have hH : hAll q pK_H29 := (pK_An (hF b32) (pK_An (hF b74) (pK_An (hF b112) (pK_An (hF b138) (pK_An (hF b305) (pK_An (hF b341) (pK_An (hF b167) (pK_An (hF b369) (pK_An (hT b405) (pK_An (hF b66) (pK_An (hF b196) (pK_An (hF b204) (pK_An (hF b221) (pK_An (hF b310) (pK_An (hF b327) (pK_An (hF b355) (pK_An (hF b374) (pK_An (hF b391) (pK_An (hT b419) (pK_An (hT b229) trivial))))))))))))))))))))
            exact pK_leaf pK_r29 hσ hq h0 hH ⟨tab,mx⟩ (pK_memoG hσ hq h0 ⟨tab,mx⟩) hA
           ·
            by_cases b238 : q 238=0
            ·
             have gQl := (pK_Ql hq (pK_Pl hq b229).2 (pK_T hq b66))
             have b282 : ¬ (q 282=0) := gQl.2
             have gO := pK_O hq (pK_T hq b66) (pK_Qa hq (pK_Pa hq b32).2 (pK_T hq b66)).1 (pK_Ql hq (pK_Pl hq b229).2 (pK_T hq b66)).1
             have b291 : q 291=0 := gO.2 b238
             have hH : hAll q pK_H30 := (pK_An (hF b32) (pK_An (hF b74) (pK_An (hF b112) (pK_An (hF b138) (pK_An (hF b305) (pK_An (hF b341) (pK_An (hF b167) (pK_An (hF b369) (pK_An (hT b405) (pK_An (hF b66) (pK_An (hF b196) (pK_An (hF b204) (pK_An (hF b221) (pK_An (hF b310) (pK_An (hF b327) (pK_An (hF b355) (pK_An (hF b374) (pK_An (hF b391) (pK_An (hT b419) (pK_An (hF b229) (pK_An (hT b238) (pK_An (hF b282) (pK_An (hT b291) trivial)))))))))))))))))))))))
             exact pK_leaf pK_r30 hσ hq h0 hH ⟨tab,mx⟩ (pK_memo30 hσ hq h0 hH ⟨tab,mx⟩) hA
            ·
             have gQl := (pK_Ql hq (pK_Pl hq b229).2 (pK_T hq b66))
             have b282 : ¬ (q 282=0) := gQl.2
             have gO := pK_O hq (pK_T hq b66) (pK_Qa hq (pK_Pa hq b32).2 (pK_T hq b66)).1 (pK_Ql hq (pK_Pl hq b229).2 (pK_T hq b66)).1
             have b291 : ¬ (q 291=0) := gO.1 b238
             have hH : hAll q pK_H31 := (pK_An (hF b32) (pK_An (hF b74) (pK_An (hF b112) (pK_An (hF b138) (pK_An (hF b305) (pK_An (hF b341) (pK_An (hF b167) (pK_An (hF b369) (pK_An (hT b405) (pK_An (hF b66) (pK_An (hF b196) (pK_An (hF b204) (pK_An (hF b221) (pK_An (hF b310) (pK_An (hF b327) (pK_An (hF b355) (pK_An (hF b374) (pK_An (hF b391) (pK_An (hT b419) (pK_An (hF b229) (pK_An (hF b238) (pK_An (hF b282) (pK_An (hF b291) trivial)))))))))))))))))))))))
             exact pK_leaf pK_r31 hσ hq h0 hH ⟨tab,mx⟩ (pK_memo31 hσ hq h0 hH ⟨tab,mx⟩) hA
         ·
          by_cases b433 : q 433=0
          ·
           by_cases b66 : q 66=0
           ·
            have hH : hAll q pK_H32 := (pK_An (hF b32) (pK_An (hF b74) (pK_An (hF b112) (pK_An (hF b138) (pK_An (hF b305) (pK_An (hF b341) (pK_An (hF b167) (pK_An (hF b369) (pK_An (hF b405) (pK_An (hT b433) (pK_An (hT b66) trivial)))))))))))
            exact pK_leaf pK_r32 hσ hq h0 hH ⟨tab,mx⟩ (pK_memoG hσ hq h0 ⟨tab,mx⟩) hA
           ·
            have gQa := (pK_Qa hq (pK_Pa hq b32).2 (pK_T hq b66))
            have b196 : ¬ (q 196=0) := gQa.2
            have gQb := (pK_Qb hq (pK_Pb hq b74).2 (pK_T hq b66))
            have b204 : ¬ (q 204=0) := gQb.2
            have gXab := pK_Xab hq (pK_T hq b66) (pK_Qa hq (pK_Pa hq b32).2 (pK_T hq b66)).1 (pK_Qb hq (pK_Pb hq b74).2 (pK_T hq b66)).1
            have b221 : ¬ (q 221=0) := gXab.1 b112
            have gQc := (pK_Qc hq (pK_Pc hq b138).2 (pK_T hq b66))
            have b310 : ¬ (q 310=0) := gQc.2
            have gXac := pK_Xac hq (pK_T hq b66) (pK_Qa hq (pK_Pa hq b32).2 (pK_T hq b66)).1 (pK_Qc hq (pK_Pc hq b138).2 (pK_T hq b66)).1
            have b327 : ¬ (q 327=0) := gXac.1 b305
            have gXbc := pK_Xbc hq (pK_T hq b66) (pK_Qb hq (pK_Pb hq b74).2 (pK_T hq b66)).1 (pK_Qc hq (pK_Pc hq b138).2 (pK_T hq b66)).1
            have b355 : ¬ (q 355=0) := gXbc.1 b341
            have gQd := (pK_Qd hq (pK_Pd hq b167).2 (pK_T hq b66))
            have b374 : ¬ (q 374=0) := gQd.2
            have gXad := pK_Xad hq (pK_T hq b66) (pK_Qa hq (pK_Pa hq b32).2 (pK_T hq b66)).1 (pK_Qd hq (pK_Pd hq b167).2 (pK_T hq b66)).1
            have b391 : ¬ (q 391=0) := gXad.1 b369
            have gXbd := pK_Xbd hq (pK_T hq b66) (pK_Qb hq (pK_Pb hq b74).2 (pK_T hq b66)).1 (pK_Qd hq (pK_Pd hq b167).2 (pK_T hq b66)).1
            have b419 : ¬ (q 419=0) := gXbd.1 b405
            have gXcd := pK_Xcd hq (pK_T hq b66) (pK_Qc hq (pK_Pc hq b138).2 (pK_T hq b66)).1 (pK_Qd hq (pK_Pd hq b167).2 (pK_T hq b66)).1
            have b447 : q 447=0 := gXcd.2 b433
            by_cases b229 : q 229=0
            ·
             have hH : hAll q pK_H33 := (pK_An (hF b32) (pK_An (hF b74) (pK_An (hF b112) (pK_An (hF b138) (pK_An (hF b305) (pK_An (hF b341) (pK_An (hF b167) (pK_An (hF b369) (pK_An (hF b405) (pK_An (hT b433) (pK_An (hF b66) (pK_An (hF b196) (pK_An (hF b204) (pK_An (hF b221) (pK_An (hF b310) (pK_An (hF b327) (pK_An (hF b355) (pK_An (hF b374) (pK_An (hF b391) (pK_An (hF b419) (pK_An (hT b447) (pK_An (hT b229) trivial))))))))))))))))))))))
             exact pK_leaf pK_r33 hσ hq h0 hH ⟨tab,mx⟩ (pK_memoG hσ hq h0 ⟨tab,mx⟩) hA
            ·
             by_cases b238 : q 238=0
             ·
              have gQl := (pK_Ql hq (pK_Pl hq b229).2 (pK_T hq b66))
              have b282 : ¬ (q 282=0) := gQl.2
              have gO := pK_O hq (pK_T hq b66) (pK_Qa hq (pK_Pa hq b32).2 (pK_T hq b66)).1 (pK_Ql hq (pK_Pl hq b229).2 (pK_T hq b66)).1
              have b291 : q 291=0 := gO.2 b238
              have hH : hAll q pK_H34 := (pK_An (hF b32) (pK_An (hF b74) (pK_An (hF b112) (pK_An (hF b138) (pK_An (hF b305) (pK_An (hF b341) (pK_An (hF b167) (pK_An (hF b369) (pK_An (hF b405) (pK_An (hT b433) (pK_An (hF b66) (pK_An (hF b196) (pK_An (hF b204) (pK_An (hF b221) (pK_An (hF b310) (pK_An (hF b327) (pK_An (hF b355) (pK_An (hF b374) (pK_An (hF b391) (pK_An (hF b419) (pK_An (hT b447) (pK_An (hF b229) (pK_An (hT b238) (pK_An (hF b282) (pK_An (hT b291) trivial)))))))))))))))))))))))))
              exact pK_leaf pK_r34 hσ hq h0 hH ⟨tab,mx⟩ (pK_memo34 hσ hq h0 hH ⟨tab,mx⟩) hA
             ·
              have gQl := (pK_Ql hq (pK_Pl hq b229).2 (pK_T hq b66))
              have b282 : ¬ (q 282=0) := gQl.2
              have gO := pK_O hq (pK_T hq b66) (pK_Qa hq (pK_Pa hq b32).2 (pK_T hq b66)).1 (pK_Ql hq (pK_Pl hq b229).2 (pK_T hq b66)).1
              have b291 : ¬ (q 291=0) := gO.1 b238
              have hH : hAll q pK_H35 := (pK_An (hF b32) (pK_An (hF b74) (pK_An (hF b112) (pK_An (hF b138) (pK_An (hF b305) (pK_An (hF b341) (pK_An (hF b167) (pK_An (hF b369) (pK_An (hF b405) (pK_An (hT b433) (pK_An (hF b66) (pK_An (hF b196) (pK_An (hF b204) (pK_An (hF b221) (pK_An (hF b310) (pK_An (hF b327) (pK_An (hF b355) (pK_An (hF b374) (pK_An (hF b391) (pK_An (hF b419) (pK_An (hT b447) (pK_An (hF b229) (pK_An (hF b238) (pK_An (hF b282) (pK_An (hF b291) trivial)))))))))))))))))))))))))
              exact pK_leaf pK_r35 hσ hq h0 hH ⟨tab,mx⟩ (pK_memo35 hσ hq h0 hH ⟨tab,mx⟩) hA
          ·
           have gDc := pK_Dc hq (pK_Pa hq b32).1 (pK_Pb hq b74).1 (pK_Pc hq b138).1
           have b453 : q 453=0 := gDc
           have gDd := pK_Dd hq (pK_Pa hq b32).1 (pK_Pb hq b74).1 (pK_Pd hq b167).1
           have b459 : q 459=0 := gDd
           by_cases b66 : q 66=0
           ·
            have hH : hAll q pK_H36 := (pK_An (hF b32) (pK_An (hF b74) (pK_An (hF b112) (pK_An (hF b138) (pK_An (hF b305) (pK_An (hF b341) (pK_An (hF b167) (pK_An (hF b369) (pK_An (hF b405) (pK_An (hF b433) (pK_An (hT b453) (pK_An (hT b459) (pK_An (hT b66) trivial)))))))))))))
            exact pK_leaf pK_r36 hσ hq h0 hH ⟨tab,mx⟩ (pK_memoG hσ hq h0 ⟨tab,mx⟩) hA
           ·
            have gQa := (pK_Qa hq (pK_Pa hq b32).2 (pK_T hq b66))
            have b196 : ¬ (q 196=0) := gQa.2
            have gQb := (pK_Qb hq (pK_Pb hq b74).2 (pK_T hq b66))
            have b204 : ¬ (q 204=0) := gQb.2
            have gXab := pK_Xab hq (pK_T hq b66) (pK_Qa hq (pK_Pa hq b32).2 (pK_T hq b66)).1 (pK_Qb hq (pK_Pb hq b74).2 (pK_T hq b66)).1
            have b221 : ¬ (q 221=0) := gXab.1 b112
            have gQc := (pK_Qc hq (pK_Pc hq b138).2 (pK_T hq b66))
            have b310 : ¬ (q 310=0) := gQc.2
            have gXac := pK_Xac hq (pK_T hq b66) (pK_Qa hq (pK_Pa hq b32).2 (pK_T hq b66)).1 (pK_Qc hq (pK_Pc hq b138).2 (pK_T hq b66)).1
            have b327 : ¬ (q 327=0) := gXac.1 b305
            have gXbc := pK_Xbc hq (pK_T hq b66) (pK_Qb hq (pK_Pb hq b74).2 (pK_T hq b66)).1 (pK_Qc hq (pK_Pc hq b138).2 (pK_T hq b66)).1
            have b355 : ¬ (q 355=0) := gXbc.1 b341
            have gQd := (pK_Qd hq (pK_Pd hq b167).2 (pK_T hq b66))
            have b374 : ¬ (q 374=0) := gQd.2
            have gXad := pK_Xad hq (pK_T hq b66) (pK_Qa hq (pK_Pa hq b32).2 (pK_T hq b66)).1 (pK_Qd hq (pK_Pd hq b167).2 (pK_T hq b66)).1
            have b391 : ¬ (q 391=0) := gXad.1 b369
            have gXbd := pK_Xbd hq (pK_T hq b66) (pK_Qb hq (pK_Pb hq b74).2 (pK_T hq b66)).1 (pK_Qd hq (pK_Pd hq b167).2 (pK_T hq b66)).1
            have b419 : ¬ (q 419=0) := gXbd.1 b405
            have gXcd := pK_Xcd hq (pK_T hq b66) (pK_Qc hq (pK_Pc hq b138).2 (pK_T hq b66)).1 (pK_Qd hq (pK_Pd hq b167).2 (pK_T hq b66)).1
            have b447 : ¬ (q 447=0) := gXcd.1 b433
            have gEc := pK_Ec hq (pK_Pa hq b32).1 (pK_Pb hq b74).1 (pK_Pc hq b138).1 (pK_Qa hq (pK_Pa hq b32).2 (pK_T hq b66)).1 (pK_Qb hq (pK_Pb hq b74).2 (pK_T hq b66)).1 (pK_Qc hq (pK_Pc hq b138).2 (pK_T hq b66)).1
            have b510 : q 510=0 := gEc
            have gEd := pK_Ed hq (pK_Pa hq b32).1 (pK_Pb hq b74).1 (pK_Pd hq b167).1 (pK_Qa hq (pK_Pa hq b32).2 (pK_T hq b66)).1 (pK_Qb hq (pK_Pb hq b74).2 (pK_T hq b66)).1 (pK_Qd hq (pK_Pd hq b167).2 (pK_T hq b66)).1
            have b516 : q 516=0 := gEd
            have gR := pK_R hq (pK_Pa hq b32).1 (pK_Pb hq b74).1 (pK_Pc hq b138).1 (pK_Pd hq b167).1 (pK_Qa hq (pK_Pa hq b32).2 (pK_T hq b66)).1 (pK_Qb hq (pK_Pb hq b74).2 (pK_T hq b66)).1 (pK_Qc hq (pK_Pc hq b138).2 (pK_T hq b66)).1 (pK_Qd hq (pK_Pd hq b167).2 (pK_T hq b66)).1 b112 b221 b341 b369
            have a_3_504_561 : q 504=q 561 := gR
            by_cases b229 : q 229=0
            ·
             have hH : hAll q pK_H37 := (pK_An (hF b32) (pK_An (hF b74) (pK_An (hF b112) (pK_An (hF b138) (pK_An (hF b305) (pK_An (hF b341) (pK_An (hF b167) (pK_An (hF b369) (pK_An (hF b405) (pK_An (hF b433) (pK_An (hT b453) (pK_An (hT b459) (pK_An (hF b66) (pK_An (hF b196) (pK_An (hF b204) (pK_An (hF b221) (pK_An (hF b310) (pK_An (hF b327) (pK_An (hF b355) (pK_An (hF b374) (pK_An (hF b391) (pK_An (hF b419) (pK_An (hF b447) (pK_An (hT b510) (pK_An (hT b516) (pK_An (hT a_3_504_561) (pK_An (hT b229) trivial)))))))))))))))))))))))))))
             exact pK_leaf pK_r37 hσ hq h0 hH ⟨tab,mx⟩ (pK_memo37 hσ hq h0 hH ⟨tab,mx⟩) hA
            ·
             by_cases b238 : q 238=0
             ·
              have gQl := (pK_Ql hq (pK_Pl hq b229).2 (pK_T hq b66))
              have b282 : ¬ (q 282=0) := gQl.2
              have gO := pK_O hq (pK_T hq b66) (pK_Qa hq (pK_Pa hq b32).2 (pK_T hq b66)).1 (pK_Ql hq (pK_Pl hq b229).2 (pK_T hq b66)).1
              have b291 : q 291=0 := gO.2 b238
              have hH : hAll q pK_H38 := (pK_An (hF b32) (pK_An (hF b74) (pK_An (hF b112) (pK_An (hF b138) (pK_An (hF b305) (pK_An (hF b341) (pK_An (hF b167) (pK_An (hF b369) (pK_An (hF b405) (pK_An (hF b433) (pK_An (hT b453) (pK_An (hT b459) (pK_An (hF b66) (pK_An (hF b196) (pK_An (hF b204) (pK_An (hF b221) (pK_An (hF b310) (pK_An (hF b327) (pK_An (hF b355) (pK_An (hF b374) (pK_An (hF b391) (pK_An (hF b419) (pK_An (hF b447) (pK_An (hT b510) (pK_An (hT b516) (pK_An (hT a_3_504_561) (pK_An (hF b229) (pK_An (hT b238) (pK_An (hF b282) (pK_An (hT b291) trivial))))))))))))))))))))))))))))))
              exact pK_leaf pK_r38 hσ hq h0 hH ⟨tab,mx⟩ (pK_memo38 hσ hq h0 hH ⟨tab,mx⟩) hA
             ·
              have gQl := (pK_Ql hq (pK_Pl hq b229).2 (pK_T hq b66))
              have b282 : ¬ (q 282=0) := gQl.2
              have gO := pK_O hq (pK_T hq b66) (pK_Qa hq (pK_Pa hq b32).2 (pK_T hq b66)).1 (pK_Ql hq (pK_Pl hq b229).2 (pK_T hq b66)).1
              have b291 : ¬ (q 291=0) := gO.1 b238
              have hH : hAll q pK_H39 := (pK_An (hF b32) (pK_An (hF b74) (pK_An (hF b112) (pK_An (hF b138) (pK_An (hF b305) (pK_An (hF b341) (pK_An (hF b167) (pK_An (hF b369) (pK_An (hF b405) (pK_An (hF b433) (pK_An (hT b453) (pK_An (hT b459) (pK_An (hF b66) (pK_An (hF b196) (pK_An (hF b204) (pK_An (hF b221) (pK_An (hF b310) (pK_An (hF b327) (pK_An (hF b355) (pK_An (hF b374) (pK_An (hF b391) (pK_An (hF b419) (pK_An (hF b447) (pK_An (hT b510) (pK_An (hT b516) (pK_An (hT a_3_504_561) (pK_An (hF b229) (pK_An (hF b238) (pK_An (hF b282) (pK_An (hF b291) trivial))))))))))))))))))))))))))))))
              exact pK_leaf pK_r39 hσ hq h0 hH ⟨tab,mx⟩ (pK_memo39 hσ hq h0 hH ⟨tab,mx⟩) hA
end Go.Proofs.YtjfodeihndjpjaaGreatDoor
