/- The law, over its runs. -/
import Derived.Test.YtkafcpodhflhpaaGreatDoorLMKUB1
import Derived.Test.YtkafcpodhflhpaaGreatDoorLMKUB2
import Derived.Test.YtkafcpodhflhpaaGreatDoorLMKUB3
import Derived.Test.YtkafcpodhflhpaaGreatDoorLMKUB4
import Derived.Test.YtkafcpodhflhpaaGreatDoorLMKUB5
import Derived.Test.YtkafcpodhflhpaaGreatDoorLMKUB6
import Derived.Test.YtkafcpodhflhpaaGreatDoorLMKUB7
set_option maxHeartbeats 16000000
set_option maxRecDepth 100000
namespace Go.Proofs.YtkafcpodhflhpaaGreatDoor
open Go.RowKit Cx
variable {q : Nat→Rat} {σ : Nat→ByteArray}
theorem kU_mxG {H : List (Nat × Nat × Nat × Nat)} {q : Nat→Rat} {σ : Nat→ByteArray} {w : World} (hσ : ∀ j,(σ j).size≤1048576) (hq : ∀ (a : Nat) nd,kU_N[a]? = some nd→q a=valN σ q nd) (h0 : ∀ a,kU_N.length≤a→q a=0) (hp : PreS w) : MemoXOk (sx Tryz.prog kU_N H kU_KK kU_L kU_C kU_Z (prC [14])) (evS q σ) w kU_B := by
 have Y : Hy kU_N [] kU_L kU_C kU_Z q σ := hy_ofA hσ kU_wf kU_sz kU_lt kU_cn hq h0 (show hAll q [] from trivial)
 have hc : ∀ f ∈ [14],Closed f := by simp [closed_coned]
 have hm : (Tryz.prog).follows .mixedOrders=true := by kernel_rfl
 have r : MemoXOk (sx Tryz.prog kU_N [] kU_KK kU_L kU_C kU_Z (prC [14])) (evS q σ) w kU_B := (memoX_chkJ (M := []) Y hc hm hp memoAll_nil 2 (B := kU_B.drop 0) kU_b0 (memoX_chkJ (M := []) Y hc hm hp memoAll_nil 1 (B := kU_B.drop 2) kU_b1 (memoX_chkJ (M := []) Y hc hm hp memoAll_nil 1 (B := kU_B.drop 3) kU_b2 (memoX_chkJ (M := []) Y hc hm hp memoAll_nil 1 (B := kU_B.drop 4) kU_b3 (memoX_chkJ (M := []) Y hc hm hp memoAll_nil 1 (B := kU_B.drop 5) kU_b4 (memoX_chkJ (M := []) Y hc hm hp memoAll_nil 2 (B := kU_B.drop 6) kU_b5 (memoX_chkJ (M := []) Y hc hm hp memoAll_nil 1 (B := kU_B.drop 8) kU_b6 (memoX_chkJ (M := []) Y hc hm hp memoAll_nil 1 (B := kU_B.drop 9) kU_b7 (memoX_chkJ (M := []) Y hc hm hp memoAll_nil 1 (B := kU_B.drop 10) kU_b8 (memoX_chkJ (M := []) Y hc hm hp memoAll_nil 1 (B := kU_B.drop 11) kU_b9 (memoX_chkJ (M := []) Y hc hm hp memoAll_nil 2 (B := kU_B.drop 12) kU_b10 (memoX_chkJ (M := []) Y hc hm hp memoAll_nil 1 (B := kU_B.drop 14) kU_b11 (memoX_chkJ (M := []) Y hc hm hp memoAll_nil 1 (B := kU_B.drop 15) kU_b12 (memoX_chkJ (M := []) Y hc hm hp memoAll_nil 1 (B := kU_B.drop 16) kU_b13 (memoX_chkJ (M := []) Y hc hm hp memoAll_nil 1 (B := kU_B.drop 17) kU_b14 (memoX_chkJ (M := []) Y hc hm hp memoAll_nil 2 (B := kU_B.drop 18) kU_b15 (memoX_chkJ (M := []) Y hc hm hp memoAll_nil 1 (B := kU_B.drop 20) kU_b16 (memoX_chkJ (M := []) Y hc hm hp memoAll_nil 1 (B := kU_B.drop 21) kU_b17 (memoX_chkJ (M := []) Y hc hm hp memoAll_nil 1 (B := kU_B.drop 22) kU_b18 (memoX_chkJ (M := []) Y hc hm hp memoAll_nil 1 (B := kU_B.drop 23) kU_b19 (memoX_chkJ (M := []) Y hc hm hp memoAll_nil 2 (B := kU_B.drop 24) kU_b20 (memoX_chkJ (M := []) Y hc hm hp memoAll_nil 1 (B := kU_B.drop 26) kU_b21 (memoX_chkJ (M := []) Y hc hm hp memoAll_nil 1 (B := kU_B.drop 27) kU_b22 (memoX_chkJ (M := []) Y hc hm hp memoAll_nil 1 (B := kU_B.drop 28) kU_b23 (memoX_chkJ (M := []) Y hc hm hp memoAll_nil 1 (B := kU_B.drop 29) kU_b24 (memoX_chkJ (M := []) Y hc hm hp memoAll_nil 2 (B := kU_B.drop 30) kU_b25 (memoX_chkJ (M := []) Y hc hm hp memoAll_nil 1 (B := kU_B.drop 32) kU_b26 (memoX_chkJ (M := []) Y hc hm hp memoAll_nil 1 (B := kU_B.drop 33) kU_b27 (memoX_chkJ (M := []) Y hc hm hp memoAll_nil 1 (B := kU_B.drop 34) kU_b28 (memoX_chkJ (M := []) Y hc hm hp memoAll_nil 1 (B := kU_B.drop 35) kU_b29 memoX_nil))))))))))))))))))))))))))))))
 exact r
theorem kU_An {a b : Prop} (x : a) (y : b) : a∧b := ⟨x,y⟩
theorem kU_leafJ {H : List (Nat × Nat × Nat × Nat)} {K : List (FuncId × List AC)} {k : Nat} {q : Nat→Rat} {σ : Nat→ByteArray} {args : List AV} {vs : List Value} {w : World} {M : Memo} {B : MemoX} (hr : (callJ (sx Tryz.prog kU_N H K kU_L kU_C kU_Z (prC [14])) kU_cs M B 13 k [] 3 args [] 0).map (·.1)=some (kB true)) (hσ : ∀ j,(σ j).size≤1048576) (hq : ∀ (a : Nat) nd,kU_N[a]? = some nd→q a=valN σ q nd) (h0 : ∀ a,kU_N.length≤a→q a=0) (hH : hAll q H) (hp : PreS w) (hM : MemoAll kU_N kU_L kU_C kU_Z q σ [14] w M) (hB : MemoXOk (sx Tryz.prog kU_N H K kU_L kU_C kU_Z (prC [14])) (evS q σ) w B) (hA : ∀ K,A2 (avOn (cOn (evS q σ) K (fun _ => none) w)) args vs) : Calls Tryz.prog 3 vs.toArray w fun e w' => Below w.heap.size w w'∧e=.returned (.bool true) :=
 run_toldJ' k (hy_ofA hσ kU_wf kU_sz kU_lt kU_cn hq h0 hH) (by simp [closed_coned]) (by kernel_rfl) hp hM hB hr (hA K)
theorem kU_walk {w : World} {lax laz lbx lbz lcx lcz ldx ldz lex lez : ByteArray}  (slax : lax.size≤1048576) (slaz : laz.size≤1048576) (slbx : lbx.size≤1048576) (slbz : lbz.size≤1048576) (slcx : lcx.size≤1048576) (slcz : lcz.size≤1048576) (sldx : ldx.size≤1048576) (sldz : ldz.size≤1048576) (slex : lex.size≤1048576) (slez : lez.size≤1048576) (tab : Tab w) (mx : MaxL w) :
  Calls Tryz.prog 3 #[.agg #[.string lax,.string laz,.string lbx,.string lbz,.string lcx,.string lcz,.string ldx,.string ldz,.string lex,.string lez]] w fun e w' => Below w.heap.size w w'∧e=.returned (.bool true) := by
 have hσ : ∀ j,(sgOf [lax,laz,lbx,lbz,lcx,lcz,ldx,ldz,lex,lez] j).size≤1048576 := sgOf_size (by simp [slax,slaz,slbx,slbz,slcx,slcz,sldx,sldz,slex,slez])
 obtain ⟨q,hq,h0⟩ := nodes_exist (sgOf [lax,laz,lbx,lbz,lcx,lcz,ldx,ldz,lex,lez]) kU_N kU_wf
 have hA : ∀ K,A2 (avOn (cOn (evS q (sgOf [lax,laz,lbx,lbz,lcx,lcz,ldx,ldz,lex,lez])) K (fun _ => none) w)) [(false,[(true,[.inr (2,0,0,0,0),.inr (2,1,0,0,0),.inr (2,2,0,0,0),.inr (2,3,0,0,0),.inr (2,4,0,0,0),.inr (2,5,0,0,0),.inr (2,6,0,0,0),.inr (2,7,0,0,0),.inr (2,8,0,0,0),.inr (2,9,0,0,0)])])] [.agg #[.string lax,.string laz,.string lbx,.string lbz,.string lcx,.string lcz,.string ldx,.string ldz,.string lex,.string lez]] := fun K => ⟨⟨⟨[.string lax,.string laz,.string lbx,.string lbz,.string lcx,.string lcz,.string ldx,.string ldz,.string lex,.string lez],rfl,rfl,rfl,rfl,rfl,rfl,rfl,rfl,rfl,rfl,rfl,trivial⟩,trivial⟩,trivial⟩
 have E2 : q 2=1 := (hq 2 _ rfl).trans kU_c2
 have E11 : q 11=q 1*q 2 := hq 11 _ rfl
 have E12 : q 12=q 2*q 4 := hq 12 _ rfl
 have E13 : q 13=q 11-q 12 := hq 13 _ rfl
 have E14 : q 14=q 2*q 3 := hq 14 _ rfl
 have E15 : q 15=q 0*q 2 := hq 15 _ rfl
 have E16 : q 16=q 14-q 15 := hq 16 _ rfl
 have E17 : q 17=q 0*q 4 := hq 17 _ rfl
 have E18 : q 18=q 1*q 3 := hq 18 _ rfl
 have E19 : q 19=q 17-q 18 := hq 19 _ rfl
 have E20 : q 20=q 6*q 2 := hq 20 _ rfl
 have E21 : q 21=q 2*q 8 := hq 21 _ rfl
 have E22 : q 22=q 20-q 21 := hq 22 _ rfl
 have E23 : q 23=q 2*q 7 := hq 23 _ rfl
 have E24 : q 24=q 5*q 2 := hq 24 _ rfl
 have E25 : q 25=q 23-q 24 := hq 25 _ rfl
 have E26 : q 26=q 5*q 8 := hq 26 _ rfl
 have E27 : q 27=q 6*q 7 := hq 27 _ rfl
 have E28 : q 28=q 26-q 27 := hq 28 _ rfl
 have E29 : q 29=q 13*q 22 := hq 29 _ rfl
 have E30 : q 30=q 13*q 25 := hq 30 _ rfl
 have E31 : q 31=q 16*q 22 := hq 31 _ rfl
 have E32 : q 32=q 30+q 31 := hq 32 _ rfl
 have E33 : q 33=q 16*q 25 := hq 33 _ rfl
 have E34 : q 34=q 13*q 28 := hq 34 _ rfl
 have E35 : q 35=q 19*q 22 := hq 35 _ rfl
 have E36 : q 36=q 34+q 35 := hq 36 _ rfl
 have E37 : q 37=q 16*q 28 := hq 37 _ rfl
 have E38 : q 38=q 19*q 25 := hq 38 _ rfl
 have E39 : q 39=q 37+q 38 := hq 39 _ rfl
 have E40 : q 40=q 19*q 28 := hq 40 _ rfl
 have E41 : q 41=q 2*q 6 := hq 41 _ rfl
 have E42 : q 42=q 11-q 41 := hq 42 _ rfl
 have E43 : q 43=q 2*q 5 := hq 43 _ rfl
 have E44 : q 44=q 43-q 15 := hq 44 _ rfl
 have E45 : q 45=q 0*q 6 := hq 45 _ rfl
 have E46 : q 46=q 1*q 5 := hq 46 _ rfl
 have E47 : q 47=q 45-q 46 := hq 47 _ rfl
 have E48 : q 48=q 4*q 2 := hq 48 _ rfl
 have E49 : q 49=q 48-q 21 := hq 49 _ rfl
 have E50 : q 50=q 3*q 2 := hq 50 _ rfl
 have E51 : q 51=q 23-q 50 := hq 51 _ rfl
 have E52 : q 52=q 3*q 8 := hq 52 _ rfl
 have E53 : q 53=q 4*q 7 := hq 53 _ rfl
 have E54 : q 54=q 52-q 53 := hq 54 _ rfl
 have E55 : q 55=q 42*q 49 := hq 55 _ rfl
 have E56 : q 56=q 42*q 51 := hq 56 _ rfl
 have E57 : q 57=q 44*q 49 := hq 57 _ rfl
 have E58 : q 58=q 56+q 57 := hq 58 _ rfl
 have E59 : q 59=q 44*q 51 := hq 59 _ rfl
 have E60 : q 60=q 42*q 54 := hq 60 _ rfl
 have E61 : q 61=q 47*q 49 := hq 61 _ rfl
 have E62 : q 62=q 60+q 61 := hq 62 _ rfl
 have E63 : q 63=q 44*q 54 := hq 63 _ rfl
 have E64 : q 64=q 47*q 51 := hq 64 _ rfl
 have E65 : q 65=q 63+q 64 := hq 65 _ rfl
 have E66 : q 66=q 47*q 54 := hq 66 _ rfl
 have E67 : q 67=2 := (hq 67 _ rfl).trans kU_c67
 have E68 : q 68=q 29*q 67 := hq 68 _ rfl
 have E69 : q 69=q 33*q 67 := hq 69 _ rfl
 have E70 : q 70=q 40*q 67 := hq 70 _ rfl
 have E71 : q 71=q 68*q 9 := hq 71 _ rfl
 have E72 : q 72=0 := (hq 72 _ rfl).trans kU_c72
 have E73 : q 73=q 72+q 71 := hq 73 _ rfl
 have E74 : q 74=q 32*q 10 := hq 74 _ rfl
 have E75 : q 75=q 73+q 74 := hq 75 _ rfl
 have E76 : q 76=q 36*q 2 := hq 76 _ rfl
 have E77 : q 77=q 75+q 76 := hq 77 _ rfl
 have E78 : q 78=q 32*q 9 := hq 78 _ rfl
 have E79 : q 79=q 72+q 78 := hq 79 _ rfl
 have E80 : q 80=q 69*q 10 := hq 80 _ rfl
 have E81 : q 81=q 79+q 80 := hq 81 _ rfl
 have E82 : q 82=q 39*q 2 := hq 82 _ rfl
 have E83 : q 83=q 81+q 82 := hq 83 _ rfl
 have E84 : q 84=q 36*q 9 := hq 84 _ rfl
 have E85 : q 85=q 72+q 84 := hq 85 _ rfl
 have E86 : q 86=q 39*q 10 := hq 86 _ rfl
 have E87 : q 87=q 85+q 86 := hq 87 _ rfl
 have E88 : q 88=q 70*q 2 := hq 88 _ rfl
 have E89 : q 89=q 87+q 88 := hq 89 _ rfl
 have E90 : q 90=q 9*q 77 := hq 90 _ rfl
 have E91 : q 91=q 72+q 90 := hq 91 _ rfl
 have E92 : q 92=q 10*q 83 := hq 92 _ rfl
 have E93 : q 93=q 91+q 92 := hq 93 _ rfl
 have E94 : q 94=q 2*q 89 := hq 94 _ rfl
 have E95 : q 95=q 93+q 94 := hq 95 _ rfl
 have E96 : q 96=q 55*q 67 := hq 96 _ rfl
 have E97 : q 97=q 59*q 67 := hq 97 _ rfl
 have E98 : q 98=q 66*q 67 := hq 98 _ rfl
 have E99 : q 99=q 96*q 9 := hq 99 _ rfl
 have E100 : q 100=q 72+q 99 := hq 100 _ rfl
 have E101 : q 101=q 58*q 10 := hq 101 _ rfl
 have E102 : q 102=q 100+q 101 := hq 102 _ rfl
 have E103 : q 103=q 62*q 2 := hq 103 _ rfl
 have E104 : q 104=q 102+q 103 := hq 104 _ rfl
 have E105 : q 105=q 58*q 9 := hq 105 _ rfl
 have E106 : q 106=q 72+q 105 := hq 106 _ rfl
 have E107 : q 107=q 97*q 10 := hq 107 _ rfl
 have E108 : q 108=q 106+q 107 := hq 108 _ rfl
 have E109 : q 109=q 65*q 2 := hq 109 _ rfl
 have E110 : q 110=q 108+q 109 := hq 110 _ rfl
 have E111 : q 111=q 62*q 9 := hq 111 _ rfl
 have E112 : q 112=q 72+q 111 := hq 112 _ rfl
 have E113 : q 113=q 65*q 10 := hq 113 _ rfl
 have E114 : q 114=q 112+q 113 := hq 114 _ rfl
 have E115 : q 115=q 98*q 2 := hq 115 _ rfl
 have E116 : q 116=q 114+q 115 := hq 116 _ rfl
 have E117 : q 117=q 9*q 104 := hq 117 _ rfl
 have E118 : q 118=q 72+q 117 := hq 118 _ rfl
 have E119 : q 119=q 10*q 110 := hq 119 _ rfl
 have E120 : q 120=q 118+q 119 := hq 120 _ rfl
 have E121 : q 121=q 2*q 116 := hq 121 _ rfl
 have E122 : q 122=q 120+q 121 := hq 122 _ rfl
 have E123 : q 123=q 29*q 122 := hq 123 _ rfl
 have E124 : q 124=q 55*q 95 := hq 124 _ rfl
 have E125 : q 125=q 123-q 124 := hq 125 _ rfl
 have E126 : q 126=q 32*q 122 := hq 126 _ rfl
 have E127 : q 127=q 58*q 95 := hq 127 _ rfl
 have E128 : q 128=q 126-q 127 := hq 128 _ rfl
 have E129 : q 129=q 33*q 122 := hq 129 _ rfl
 have E130 : q 130=q 59*q 95 := hq 130 _ rfl
 have E131 : q 131=q 129-q 130 := hq 131 _ rfl
 have E132 : q 132=q 36*q 122 := hq 132 _ rfl
 have E133 : q 133=q 62*q 95 := hq 133 _ rfl
 have E134 : q 134=q 132-q 133 := hq 134 _ rfl
 have E135 : q 135=q 39*q 122 := hq 135 _ rfl
 have E136 : q 136=q 65*q 95 := hq 136 _ rfl
 have E137 : q 137=q 135-q 136 := hq 137 _ rfl
 have E138 : q 138=q 40*q 122 := hq 138 _ rfl
 have E139 : q 139=q 66*q 95 := hq 139 _ rfl
 have E140 : q 140=q 138-q 139 := hq 140 _ rfl
 have Q149 : q 149=0 ↔ ((((q 125=0∧q 128=0)∧q 131=0)∧q 134=0)∧q 137=0) := (sq_next (sq_next (sq_next (sq_next (sq_first (hq 141 _ rfl)) (hq 142 _ rfl) (hq 143 _ rfl)) (hq 144 _ rfl) (hq 145 _ rfl)) (hq 146 _ rfl) (hq 147 _ rfl)) (hq 148 _ rfl) (hq 149 _ rfl)).2
 have Q693 : q 693=0 ↔ (((((q 125=0∧q 128=0)∧q 131=0)∧q 134=0)∧q 137=0)∧q 140=0) := (sq_next (sq_next (sq_next (sq_next (sq_next (sq_first (hq 141 _ rfl)) (hq 142 _ rfl) (hq 143 _ rfl)) (hq 144 _ rfl) (hq 145 _ rfl)) (hq 146 _ rfl) (hq 147 _ rfl)) (hq 148 _ rfl) (hq 149 _ rfl)) (hq 692 _ rfl) (hq 693 _ rfl)).2
 by_cases b149 : q 149=0
 ·
  have gA := kU_AA hq (kU_DD hq).1 (kU_DD hq).2.1 (kU_DD hq).2.2.1 (kU_DD hq).2.2.2.1 (kU_DD hq).2.2.2.2.1 (kU_DD hq).2.2.2.2.2 (kU_P0 hq (kU_QQ0 hq)) b149
  have b346 : q 346=0 := gA.1
  have b460 : q 460=0 := gA.2.1
  have b528 : q 528=0 := gA.2.2.1
  have b567 : q 567=0 := gA.2.2.2.1
  have b589 : q 589=0 := gA.2.2.2.2.1
  have b601 : q 601=0 := gA.2.2.2.2.2
  exact kU_leafJ kU_r0 hσ hq h0 (kU_An (hT b149) (kU_An (hT b346) (kU_An (hT b460) (kU_An (hT b528) (kU_An (hT b567) (kU_An (hT b589) (kU_An (hT b601) trivial))))))) ⟨tab,mx⟩ (kU_memoG hσ hq h0 ⟨tab,mx⟩) (kU_mxG hσ hq h0 ⟨tab,mx⟩) hA
 ·
  by_cases b346 : q 346=0
  ·
   by_cases b460 : q 460=0
   ·
    have gF := kU_F hq (kU_DD hq).1 (kU_DD hq).2.1 (kU_DD hq).2.2.1 (kU_P0 hq (kU_QQ0 hq)) (kU_P1 hq (kU_QQ1 hq)) (kU_P2 hq (kU_QQ2 hq)) (kU_P4 hq (kU_QQ4 hq)) (kU_O hq) b149 b346 b460
    have b528 : ¬ (q 528=0) := gF
    have gV0 := kU_V0 hq (kU_P0 hq (kU_QQ0 hq))
    have b627 : q 627=0 := gV0
    have gV1 := kU_V1 hq (kU_P1 hq (kU_QQ1 hq))
    have b643 : q 643=0 := gV1
    have gV2 := kU_V2 hq (kU_P2 hq (kU_QQ2 hq))
    have b659 : q 659=0 := gV2
    have gV3 := kU_V3 hq (kU_P3 hq (kU_QQ3 hq))
    have b675 : q 675=0 := gV3
    have gV4 := kU_V4 hq (kU_P4 hq (kU_QQ4 hq))
    have b691 : q 691=0 := gV4
    have b693 : ¬ (q 693=0) := kU_f1 E2 E11 E12 E13 E14 E15 E16 E17 E18 E19 E20 E21 E22 E23 E24 E25 E26 E27 E28 E29 E30 E31 E32 E33 E34 E35 E36 E37 E38 E39 E40 E41 E42 E43 E44 E45 E46 E47 E48 E49 E50 E51 E52 E53 E54 E55 E56 E57 E58 E59 E60 E61 E62 E63 E64 E65 E66 E67 E68 E69 E70 E71 E72 E73 E74 E75 E76 E77 E78 E79 E80 E81 E82 E83 E84 E85 E86 E87 E88 E89 E90 E91 E92 E93 E94 E95 E96 E97 E98 E99 E100 E101 E102 E103 E104 E105 E106 E107 E108 E109 E110 E111 E112 E113 E114 E115 E116 E117 E118 E119 E120 E121 E122 E123 E124 E125 E126 E127 E128 E129 E130 E131 E132 E133 E134 E135 E136 E137 E138 E139 E140 Q149 Q693 b149
    have gW := kU_W hq b149
    have b702 : ¬ (q 702=0) := gW
    exact kU_leafJ kU_r1 hσ hq h0 (kU_An (hF b149) (kU_An (hT b346) (kU_An (hT b460) (kU_An (hF b528) (kU_An (hT b627) (kU_An (hT b643) (kU_An (hT b659) (kU_An (hT b675) (kU_An (hT b691) (kU_An (hF b693) (kU_An (hF b702) trivial))))))))))) ⟨tab,mx⟩ (kU_memoG hσ hq h0 ⟨tab,mx⟩) (kU_mxG hσ hq h0 ⟨tab,mx⟩) hA
   ·
    have gV0 := kU_V0 hq (kU_P0 hq (kU_QQ0 hq))
    have b627 : q 627=0 := gV0
    have gV1 := kU_V1 hq (kU_P1 hq (kU_QQ1 hq))
    have b643 : q 643=0 := gV1
    have gV2 := kU_V2 hq (kU_P2 hq (kU_QQ2 hq))
    have b659 : q 659=0 := gV2
    have gV3 := kU_V3 hq (kU_P3 hq (kU_QQ3 hq))
    have b675 : q 675=0 := gV3
    have gV4 := kU_V4 hq (kU_P4 hq (kU_QQ4 hq))
    have b691 : q 691=0 := gV4
    have b693 : ¬ (q 693=0) := kU_f1 E2 E11 E12 E13 E14 E15 E16 E17 E18 E19 E20 E21 E22 E23 E24 E25 E26 E27 E28 E29 E30 E31 E32 E33 E34 E35 E36 E37 E38 E39 E40 E41 E42 E43 E44 E45 E46 E47 E48 E49 E50 E51 E52 E53 E54 E55 E56 E57 E58 E59 E60 E61 E62 E63 E64 E65 E66 E67 E68 E69 E70 E71 E72 E73 E74 E75 E76 E77 E78 E79 E80 E81 E82 E83 E84 E85 E86 E87 E88 E89 E90 E91 E92 E93 E94 E95 E96 E97 E98 E99 E100 E101 E102 E103 E104 E105 E106 E107 E108 E109 E110 E111 E112 E113 E114 E115 E116 E117 E118 E119 E120 E121 E122 E123 E124 E125 E126 E127 E128 E129 E130 E131 E132 E133 E134 E135 E136 E137 E138 E139 E140 Q149 Q693 b149
    have gW := kU_W hq b149
    have b702 : ¬ (q 702=0) := gW
    exact kU_leafJ kU_r2 hσ hq h0 (kU_An (hF b149) (kU_An (hT b346) (kU_An (hF b460) (kU_An (hT b627) (kU_An (hT b643) (kU_An (hT b659) (kU_An (hT b675) (kU_An (hT b691) (kU_An (hF b693) (kU_An (hF b702) trivial)))))))))) ⟨tab,mx⟩ (kU_memoG hσ hq h0 ⟨tab,mx⟩) (kU_mxG hσ hq h0 ⟨tab,mx⟩) hA
  ·
   have gV0 := kU_V0 hq (kU_P0 hq (kU_QQ0 hq))
   have b627 : q 627=0 := gV0
   have gV1 := kU_V1 hq (kU_P1 hq (kU_QQ1 hq))
   have b643 : q 643=0 := gV1
   have gV2 := kU_V2 hq (kU_P2 hq (kU_QQ2 hq))
   have b659 : q 659=0 := gV2
   have gV3 := kU_V3 hq (kU_P3 hq (kU_QQ3 hq))
   have b675 : q 675=0 := gV3
   have gV4 := kU_V4 hq (kU_P4 hq (kU_QQ4 hq))
   have b691 : q 691=0 := gV4
   have b693 : ¬ (q 693=0) := kU_f1 E2 E11 E12 E13 E14 E15 E16 E17 E18 E19 E20 E21 E22 E23 E24 E25 E26 E27 E28 E29 E30 E31 E32 E33 E34 E35 E36 E37 E38 E39 E40 E41 E42 E43 E44 E45 E46 E47 E48 E49 E50 E51 E52 E53 E54 E55 E56 E57 E58 E59 E60 E61 E62 E63 E64 E65 E66 E67 E68 E69 E70 E71 E72 E73 E74 E75 E76 E77 E78 E79 E80 E81 E82 E83 E84 E85 E86 E87 E88 E89 E90 E91 E92 E93 E94 E95 E96 E97 E98 E99 E100 E101 E102 E103 E104 E105 E106 E107 E108 E109 E110 E111 E112 E113 E114 E115 E116 E117 E118 E119 E120 E121 E122 E123 E124 E125 E126 E127 E128 E129 E130 E131 E132 E133 E134 E135 E136 E137 E138 E139 E140 Q149 Q693 b149
   have gW := kU_W hq b149
   have b702 : ¬ (q 702=0) := gW
   exact kU_leafJ kU_r3 hσ hq h0 (kU_An (hF b149) (kU_An (hF b346) (kU_An (hT b627) (kU_An (hT b643) (kU_An (hT b659) (kU_An (hT b675) (kU_An (hT b691) (kU_An (hF b693) (kU_An (hF b702) trivial))))))))) ⟨tab,mx⟩ (kU_memoG hσ hq h0 ⟨tab,mx⟩) (kU_mxG hσ hq h0 ⟨tab,mx⟩) hA
end Go.Proofs.YtkafcpodhflhpaaGreatDoor
