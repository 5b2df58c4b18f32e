/- Part 13 of the walks and of the mathematics under them: MPLE CSL. -/
import Derived.Test.YtiiaejmkkflpgaaGreatDoorA12
import Derived.Test.YtiiaejmkkflpgaaGreatDoorRows
import Derived.Test.YtiiaejmkkflpgaaGreatDoorA1
import Derived.ProofKit
import Derived.OpenShut
import Derived.ChangeSame
import Derived.ChangeStays
import Derived.Deep.Slices
import Derived.Below
set_option maxHeartbeats 16000000
set_option maxRecDepth 100000
/- MPLE -/
namespace Go.Proofs.YtiiaejmkkflpgaaGreatDoor
open Go.RowKit Cx
theorem lei_ne {k n : Nat} {a c d : Rat} (h : ¬ k=n) (ha : a=(((k : Nat) : Int) : Rat)) (hc : c=(((n : Nat) : Int) : Rat)) (hd : d=a - c) : ¬ d=0 := fun e => by
 have : (((k : Nat) : Int) : Rat)=(((n : Nat) : Int) : Rat) := by grind
 have := Rat.intCast_inj.1 this
 omega
def leiN0 : List Nd := [(0,[0,0,1])]
def leiZ0 : List Nat := [2]
def leiPr : List (FuncId × Nat) := (prC [8]).filter fun x => !Nat.beq x.2 9
theorem lei0 : (callB (sx Tryz.prog leiN0 [(0,0,0,1)] [] [] [] leiZ0 (hnd leiPr)) 5 4 [v1 (empC 0),v1 (empC 0),vA [.inr (2,0,0,0,0),.inr (2,1,0,0,0)]] [] 0).map (·.1)=some (kB true) := by kernel_rfl
theorem lei_0 {w : World} {o0 o1 : Option Addr} {m0 m1 : Nat} {px py : ByteArray} (hx : px.size≤1048576) (hy : py.size≤1048576) (hp : PreS w) : Calls Tryz.prog 4 #[.slice o0 0 m0,.slice o1 0 m1,.agg #[.string px,.string py]] w fun e w' => Below w.heap.size w w'∧e=.returned (.bool true) := by
 obtain ⟨q,hq,h0⟩ := nodes_exist (sgOf [px,py]) leiN0 (by kernel_rfl)
 exact run_toldH 5 (hy_of (H := [(0,0,0,1)]) (sgOf_size (by simp [hx,hy])) (by kernel_rfl) (by kernel_rfl) rfl rfl hq h0 ⟨hT ((hq 0 _ rfl).trans leiZ),trivial⟩) leiCl (by kernel_rfl) (fun _ h => (List.mem_filter.1 h).1) lei0 hp (noHand rfl)
  ⟨⟨⟨⟨o0,m0,rfl,fun e => by cases e⟩,trivial⟩,trivial⟩,⟨⟨⟨o1,m1,rfl,fun e => by cases e⟩,trivial⟩,trivial⟩,⟨⟨[.string px,.string py],rfl,rfl,rfl,trivial⟩,trivial⟩,trivial⟩
def leiNM : List Nd := [(1,[0]),(1,[1]),(0,[0,16,1]),(3,[0,2])]
theorem leiM : (callB (sx Tryz.prog leiNM [(2,3,0,1)] [] [] [] [4194309,4194309,6,4194316] (hnd (prC [8]))) 3 4 [v1 (.inr (10,0,0,0,0)),v1 (.inr (10,1,0,0,0)),vA [.inr (2,2,0,0,0),.inr (2,3,0,0,0)]] [] 0).map (·.1)=some (kB true) := by kernel_rfl
theorem lei16 : cst 0 16 1=(((16 : Nat) : Int) : Rat) := by decide +kernel
theorem lei_many {w : World} {o0 o1 : Option Addr} {k0 m0 k1 m1 : Nat} {px py : ByteArray} (hk : 16 < k0) (s0 : (tellS (((k0 : Nat) : Int) : Rat)).size≤1048576) (s1 : (tellS (((k1 : Nat) : Int) : Rat)).size≤1048576) (hx : px.size≤1048576) (hy : py.size≤1048576) (hp : PreS w) :
  Calls Tryz.prog 4 #[.slice o0 k0 m0,.slice o1 k1 m1,.agg #[.string px,.string py]] w fun e w' => Below w.heap.size w w'∧e=.returned (.bool true) := by
 obtain ⟨q,hq,h0⟩ := nodes_exist (sgOf [tellS (((k0 : Nat) : Int) : Rat),tellS (((k1 : Nat) : Int) : Rat),px,py]) leiNM (by kernel_rfl)
 have e0 : q 0=(((k0 : Nat) : Int) : Rat) := (hq 0 _ rfl).trans (rd_tx _)
 have e1 : q 1=(((k1 : Nat) : Int) : Rat) := (hq 1 _ rfl).trans (rd_tx _)
 have e3 : 0 < q 3 := by
  rw [show q 3=q 0 - q 2 from hq 3 _ rfl,e0,show q 2=(((16 : Nat) : Int) : Rat) from (hq 2 _ rfl).trans lei16]
  have : (((16 : Nat) : Int) : Rat) < (((k0 : Nat) : Int) : Rat) := Rat.intCast_lt_intCast.2 (by omega)
  grind
 exact run_toldH 3 (hy_of (H := [(2,3,0,1)]) (sgOf_size (by simp [hx,hy,s0,s1])) (by kernel_rfl) (by kernel_rfl) rfl rfl hq h0 ⟨hT e3,trivial⟩) leiCl (by kernel_rfl) (fun _ h => h) leiM hp (noHand rfl)
  ⟨⟨⟨⟨o0,k0,m0,rfl,fun _ => ⟨_,rfl,e0.symm⟩⟩,trivial⟩,trivial⟩,⟨⟨⟨o1,k1,m1,rfl,fun _ => ⟨_,rfl,e1.symm⟩⟩,trivial⟩,trivial⟩,⟨⟨[.string px,.string py],rfl,rfl,rfl,trivial⟩,trivial⟩,trivial⟩
theorem leiC0 : (callB (sx Tryz.prog [(1,[0]),(0,[0,0,1]),(3,[0,1])] [(0,2,0,0)] [] [] [] [4194309,2,4194312] (hnd (prC [8]))) 3 4 [v1 (empC 0),v1 (.inr (10,0,0,0,0)),vA [.inr (2,1,0,0,0),.inr (2,2,0,0,0)]] [] 0).map (·.1)=some (kB true) := by kernel_rfl
theorem lei_count0 {w : World} {o0 : Option Addr} {o1 : Option Addr} {m0 k1 m1 : Nat} {px py : ByteArray} (hk : ¬ k1=0) (s1 : (tellS (((k1 : Nat) : Int) : Rat)).size≤1048576) (hx : px.size≤1048576) (hy : py.size≤1048576) (hp : PreS w) :
  Calls Tryz.prog 4 #[.slice o0 0 m0,.slice o1 k1 m1,.agg #[.string px,.string py]] w fun e w' => Below w.heap.size w w'∧e=.returned (.bool true) := by
 obtain ⟨q,hq,h0⟩ := nodes_exist (sgOf [tellS (((k1 : Nat) : Int) : Rat),px,py]) [(1,[0]),(0,[0,0,1]),(3,[0,1])] (by kernel_rfl)
 have e1 : q 0=(((k1 : Nat) : Int) : Rat) := (hq 0 _ rfl).trans (rd_tx _)
 have e3 : ¬ q 2=0 := lei_ne hk e1 ((hq 1 _ rfl).trans (show cst 0 0 1=(((0 : Nat) : Int) : Rat) by decide +kernel)) (hq 2 _ rfl)
 exact run_toldH 3 (hy_of (H := [(0,2,0,0)]) (sgOf_size (by simp [hx,hy,s1])) (by kernel_rfl) (by kernel_rfl) rfl rfl hq h0 ⟨hF e3,trivial⟩) leiCl (by kernel_rfl) (fun _ h => h) leiC0 hp (noHand rfl)
  ⟨⟨⟨⟨o0,m0,rfl,fun e => by cases e⟩,trivial⟩,trivial⟩,⟨⟨⟨o1,k1,m1,rfl,fun _ => ⟨_,rfl,e1.symm⟩⟩,trivial⟩,trivial⟩,⟨⟨[.string px,.string py],rfl,rfl,rfl,trivial⟩,trivial⟩,trivial⟩
theorem leiC1 (a0 : Addr) (m0 : Nat) : (callB (sx Tryz.prog [(1,[0]),(0,[0,1,1]),(3,[0,1])] [(0,2,0,0)] (hK1 1 a0 m0) [] [] [4194309,2,4194312] (hnd (prC [8]))) 3 4 [v1 (.inr (8,0,0,1,0)),v1 (.inr (10,0,0,0,0)),vA [.inr (2,1,0,0,0),.inr (2,2,0,0,0)]] [] 0).map (·.1)=some (kB true) := by kernel_rfl
theorem lei_count1 {w : World} {a0 : Addr} {o1 : Option Addr} {m0 k1 m1 : Nat} {px py : ByteArray} (hk : ¬ k1=1) (hb : a0.block < w.heap.size) (s1 : (tellS (((k1 : Nat) : Int) : Rat)).size≤1048576) (hx : px.size≤1048576) (hy : py.size≤1048576) (hp : PreS w) :
  Calls Tryz.prog 4 #[.slice (some a0) 1 m0,.slice o1 k1 m1,.agg #[.string px,.string py]] w fun e w' => Below w.heap.size w w'∧e=.returned (.bool true) := by
 obtain ⟨q,hq,h0⟩ := nodes_exist (sgOf [tellS (((k1 : Nat) : Int) : Rat),px,py]) [(1,[0]),(0,[0,1,1]),(3,[0,1])] (by kernel_rfl)
 have e1 : q 0=(((k1 : Nat) : Int) : Rat) := (hq 0 _ rfl).trans (rd_tx _)
 have e3 : ¬ q 2=0 := lei_ne hk e1 ((hq 1 _ rfl).trans (show cst 0 1 1=(((1 : Nat) : Int) : Rat) by decide +kernel)) (hq 2 _ rfl)
 exact run_toldH 3 (hy_of (H := [(0,2,0,0)]) (sgOf_size (by simp [hx,hy,s1])) (by kernel_rfl) (by kernel_rfl) rfl rfl hq h0 ⟨hF e3,trivial⟩) leiCl (by kernel_rfl) (fun _ h => h) (leiC1 a0 m0) hp (hand1 hb)
  ⟨⟨⟨⟨0,a0,1,m0,_,m0,rfl,rfl⟩,trivial⟩,trivial⟩,⟨⟨⟨o1,k1,m1,rfl,fun _ => ⟨_,rfl,e1.symm⟩⟩,trivial⟩,trivial⟩,⟨⟨[.string px,.string py],rfl,rfl,rfl,trivial⟩,trivial⟩,trivial⟩
theorem leiC2 (a0 : Addr) (m0 : Nat) : (callB (sx Tryz.prog [(1,[0]),(0,[0,2,1]),(3,[0,1])] [(0,2,0,0)] (hK1 2 a0 m0) [] [] [4194309,3,4194313] (hnd (prC [8]))) 3 4 [v1 (.inr (8,0,0,2,0)),v1 (.inr (10,0,0,0,0)),vA [.inr (2,1,0,0,0),.inr (2,2,0,0,0)]] [] 0).map (·.1)=some (kB true) := by kernel_rfl
theorem lei_count2 {w : World} {a0 : Addr} {o1 : Option Addr} {m0 k1 m1 : Nat} {px py : ByteArray} (hk : ¬ k1=2) (hb : a0.block < w.heap.size) (s1 : (tellS (((k1 : Nat) : Int) : Rat)).size≤1048576) (hx : px.size≤1048576) (hy : py.size≤1048576) (hp : PreS w) :
  Calls Tryz.prog 4 #[.slice (some a0) 2 m0,.slice o1 k1 m1,.agg #[.string px,.string py]] w fun e w' => Below w.heap.size w w'∧e=.returned (.bool true) := by
 obtain ⟨q,hq,h0⟩ := nodes_exist (sgOf [tellS (((k1 : Nat) : Int) : Rat),px,py]) [(1,[0]),(0,[0,2,1]),(3,[0,1])] (by kernel_rfl)
 have e1 : q 0=(((k1 : Nat) : Int) : Rat) := (hq 0 _ rfl).trans (rd_tx _)
 have e3 : ¬ q 2=0 := lei_ne hk e1 ((hq 1 _ rfl).trans (show cst 0 2 1=(((2 : Nat) : Int) : Rat) by decide +kernel)) (hq 2 _ rfl)
 exact run_toldH 3 (hy_of (H := [(0,2,0,0)]) (sgOf_size (by simp [hx,hy,s1])) (by kernel_rfl) (by kernel_rfl) rfl rfl hq h0 ⟨hF e3,trivial⟩) leiCl (by kernel_rfl) (fun _ h => h) (leiC2 a0 m0) hp (hand1 hb)
  ⟨⟨⟨⟨0,a0,2,m0,_,m0,rfl,rfl⟩,trivial⟩,trivial⟩,⟨⟨⟨o1,k1,m1,rfl,fun _ => ⟨_,rfl,e1.symm⟩⟩,trivial⟩,trivial⟩,⟨⟨[.string px,.string py],rfl,rfl,rfl,trivial⟩,trivial⟩,trivial⟩
theorem leiC3 (a0 : Addr) (m0 : Nat) : (callB (sx Tryz.prog [(1,[0]),(0,[0,3,1]),(3,[0,1])] [(0,2,0,0)] (hK1 3 a0 m0) [] [] [4194309,3,4194313] (hnd (prC [8]))) 3 4 [v1 (.inr (8,0,0,3,0)),v1 (.inr (10,0,0,0,0)),vA [.inr (2,1,0,0,0),.inr (2,2,0,0,0)]] [] 0).map (·.1)=some (kB true) := by kernel_rfl
theorem lei_count3 {w : World} {a0 : Addr} {o1 : Option Addr} {m0 k1 m1 : Nat} {px py : ByteArray} (hk : ¬ k1=3) (hb : a0.block < w.heap.size) (s1 : (tellS (((k1 : Nat) : Int) : Rat)).size≤1048576) (hx : px.size≤1048576) (hy : py.size≤1048576) (hp : PreS w) :
  Calls Tryz.prog 4 #[.slice (some a0) 3 m0,.slice o1 k1 m1,.agg #[.string px,.string py]] w fun e w' => Below w.heap.size w w'∧e=.returned (.bool true) := by
 obtain ⟨q,hq,h0⟩ := nodes_exist (sgOf [tellS (((k1 : Nat) : Int) : Rat),px,py]) [(1,[0]),(0,[0,3,1]),(3,[0,1])] (by kernel_rfl)
 have e1 : q 0=(((k1 : Nat) : Int) : Rat) := (hq 0 _ rfl).trans (rd_tx _)
 have e3 : ¬ q 2=0 := lei_ne hk e1 ((hq 1 _ rfl).trans (show cst 0 3 1=(((3 : Nat) : Int) : Rat) by decide +kernel)) (hq 2 _ rfl)
 exact run_toldH 3 (hy_of (H := [(0,2,0,0)]) (sgOf_size (by simp [hx,hy,s1])) (by kernel_rfl) (by kernel_rfl) rfl rfl hq h0 ⟨hF e3,trivial⟩) leiCl (by kernel_rfl) (fun _ h => h) (leiC3 a0 m0) hp (hand1 hb)
  ⟨⟨⟨⟨0,a0,3,m0,_,m0,rfl,rfl⟩,trivial⟩,trivial⟩,⟨⟨⟨o1,k1,m1,rfl,fun _ => ⟨_,rfl,e1.symm⟩⟩,trivial⟩,trivial⟩,⟨⟨[.string px,.string py],rfl,rfl,rfl,trivial⟩,trivial⟩,trivial⟩
theorem leiC4 (a0 : Addr) (m0 : Nat) : (callB (sx Tryz.prog [(1,[0]),(0,[0,4,1]),(3,[0,1])] [(0,2,0,0)] (hK1 4 a0 m0) [] [] [4194309,4,4194314] (hnd (prC [8]))) 3 4 [v1 (.inr (8,0,0,4,0)),v1 (.inr (10,0,0,0,0)),vA [.inr (2,1,0,0,0),.inr (2,2,0,0,0)]] [] 0).map (·.1)=some (kB true) := by kernel_rfl
theorem lei_count4 {w : World} {a0 : Addr} {o1 : Option Addr} {m0 k1 m1 : Nat} {px py : ByteArray} (hk : ¬ k1=4) (hb : a0.block < w.heap.size) (s1 : (tellS (((k1 : Nat) : Int) : Rat)).size≤1048576) (hx : px.size≤1048576) (hy : py.size≤1048576) (hp : PreS w) :
  Calls Tryz.prog 4 #[.slice (some a0) 4 m0,.slice o1 k1 m1,.agg #[.string px,.string py]] w fun e w' => Below w.heap.size w w'∧e=.returned (.bool true) := by
 obtain ⟨q,hq,h0⟩ := nodes_exist (sgOf [tellS (((k1 : Nat) : Int) : Rat),px,py]) [(1,[0]),(0,[0,4,1]),(3,[0,1])] (by kernel_rfl)
 have e1 : q 0=(((k1 : Nat) : Int) : Rat) := (hq 0 _ rfl).trans (rd_tx _)
 have e3 : ¬ q 2=0 := lei_ne hk e1 ((hq 1 _ rfl).trans (show cst 0 4 1=(((4 : Nat) : Int) : Rat) by decide +kernel)) (hq 2 _ rfl)
 exact run_toldH 3 (hy_of (H := [(0,2,0,0)]) (sgOf_size (by simp [hx,hy,s1])) (by kernel_rfl) (by kernel_rfl) rfl rfl hq h0 ⟨hF e3,trivial⟩) leiCl (by kernel_rfl) (fun _ h => h) (leiC4 a0 m0) hp (hand1 hb)
  ⟨⟨⟨⟨0,a0,4,m0,_,m0,rfl,rfl⟩,trivial⟩,trivial⟩,⟨⟨⟨o1,k1,m1,rfl,fun _ => ⟨_,rfl,e1.symm⟩⟩,trivial⟩,trivial⟩,⟨⟨[.string px,.string py],rfl,rfl,rfl,trivial⟩,trivial⟩,trivial⟩
theorem leiC5 (a0 : Addr) (m0 : Nat) : (callB (sx Tryz.prog [(1,[0]),(0,[0,5,1]),(3,[0,1])] [(0,2,0,0)] (hK1 5 a0 m0) [] [] [4194309,4,4194314] (hnd (prC [8]))) 3 4 [v1 (.inr (8,0,0,5,0)),v1 (.inr (10,0,0,0,0)),vA [.inr (2,1,0,0,0),.inr (2,2,0,0,0)]] [] 0).map (·.1)=some (kB true) := by kernel_rfl
theorem lei_count5 {w : World} {a0 : Addr} {o1 : Option Addr} {m0 k1 m1 : Nat} {px py : ByteArray} (hk : ¬ k1=5) (hb : a0.block < w.heap.size) (s1 : (tellS (((k1 : Nat) : Int) : Rat)).size≤1048576) (hx : px.size≤1048576) (hy : py.size≤1048576) (hp : PreS w) :
  Calls Tryz.prog 4 #[.slice (some a0) 5 m0,.slice o1 k1 m1,.agg #[.string px,.string py]] w fun e w' => Below w.heap.size w w'∧e=.returned (.bool true) := by
 obtain ⟨q,hq,h0⟩ := nodes_exist (sgOf [tellS (((k1 : Nat) : Int) : Rat),px,py]) [(1,[0]),(0,[0,5,1]),(3,[0,1])] (by kernel_rfl)
 have e1 : q 0=(((k1 : Nat) : Int) : Rat) := (hq 0 _ rfl).trans (rd_tx _)
 have e3 : ¬ q 2=0 := lei_ne hk e1 ((hq 1 _ rfl).trans (show cst 0 5 1=(((5 : Nat) : Int) : Rat) by decide +kernel)) (hq 2 _ rfl)
 exact run_toldH 3 (hy_of (H := [(0,2,0,0)]) (sgOf_size (by simp [hx,hy,s1])) (by kernel_rfl) (by kernel_rfl) rfl rfl hq h0 ⟨hF e3,trivial⟩) leiCl (by kernel_rfl) (fun _ h => h) (leiC5 a0 m0) hp (hand1 hb)
  ⟨⟨⟨⟨0,a0,5,m0,_,m0,rfl,rfl⟩,trivial⟩,trivial⟩,⟨⟨⟨o1,k1,m1,rfl,fun _ => ⟨_,rfl,e1.symm⟩⟩,trivial⟩,trivial⟩,⟨⟨[.string px,.string py],rfl,rfl,rfl,trivial⟩,trivial⟩,trivial⟩
theorem leiC6 (a0 : Addr) (m0 : Nat) : (callB (sx Tryz.prog [(1,[0]),(0,[0,6,1]),(3,[0,1])] [(0,2,0,0)] (hK1 6 a0 m0) [] [] [4194309,4,4194314] (hnd (prC [8]))) 3 4 [v1 (.inr (8,0,0,6,0)),v1 (.inr (10,0,0,0,0)),vA [.inr (2,1,0,0,0),.inr (2,2,0,0,0)]] [] 0).map (·.1)=some (kB true) := by kernel_rfl
theorem lei_count6 {w : World} {a0 : Addr} {o1 : Option Addr} {m0 k1 m1 : Nat} {px py : ByteArray} (hk : ¬ k1=6) (hb : a0.block < w.heap.size) (s1 : (tellS (((k1 : Nat) : Int) : Rat)).size≤1048576) (hx : px.size≤1048576) (hy : py.size≤1048576) (hp : PreS w) :
  Calls Tryz.prog 4 #[.slice (some a0) 6 m0,.slice o1 k1 m1,.agg #[.string px,.string py]] w fun e w' => Below w.heap.size w w'∧e=.returned (.bool true) := by
 obtain ⟨q,hq,h0⟩ := nodes_exist (sgOf [tellS (((k1 : Nat) : Int) : Rat),px,py]) [(1,[0]),(0,[0,6,1]),(3,[0,1])] (by kernel_rfl)
 have e1 : q 0=(((k1 : Nat) : Int) : Rat) := (hq 0 _ rfl).trans (rd_tx _)
 have e3 : ¬ q 2=0 := lei_ne hk e1 ((hq 1 _ rfl).trans (show cst 0 6 1=(((6 : Nat) : Int) : Rat) by decide +kernel)) (hq 2 _ rfl)
 exact run_toldH 3 (hy_of (H := [(0,2,0,0)]) (sgOf_size (by simp [hx,hy,s1])) (by kernel_rfl) (by kernel_rfl) rfl rfl hq h0 ⟨hF e3,trivial⟩) leiCl (by kernel_rfl) (fun _ h => h) (leiC6 a0 m0) hp (hand1 hb)
  ⟨⟨⟨⟨0,a0,6,m0,_,m0,rfl,rfl⟩,trivial⟩,trivial⟩,⟨⟨⟨o1,k1,m1,rfl,fun _ => ⟨_,rfl,e1.symm⟩⟩,trivial⟩,trivial⟩,⟨⟨[.string px,.string py],rfl,rfl,rfl,trivial⟩,trivial⟩,trivial⟩
theorem leiC7 (a0 : Addr) (m0 : Nat) : (callB (sx Tryz.prog [(1,[0]),(0,[0,7,1]),(3,[0,1])] [(0,2,0,0)] (hK1 7 a0 m0) [] [] [4194309,4,4194314] (hnd (prC [8]))) 3 4 [v1 (.inr (8,0,0,7,0)),v1 (.inr (10,0,0,0,0)),vA [.inr (2,1,0,0,0),.inr (2,2,0,0,0)]] [] 0).map (·.1)=some (kB true) := by kernel_rfl
theorem lei_count7 {w : World} {a0 : Addr} {o1 : Option Addr} {m0 k1 m1 : Nat} {px py : ByteArray} (hk : ¬ k1=7) (hb : a0.block < w.heap.size) (s1 : (tellS (((k1 : Nat) : Int) : Rat)).size≤1048576) (hx : px.size≤1048576) (hy : py.size≤1048576) (hp : PreS w) :
  Calls Tryz.prog 4 #[.slice (some a0) 7 m0,.slice o1 k1 m1,.agg #[.string px,.string py]] w fun e w' => Below w.heap.size w w'∧e=.returned (.bool true) := by
 obtain ⟨q,hq,h0⟩ := nodes_exist (sgOf [tellS (((k1 : Nat) : Int) : Rat),px,py]) [(1,[0]),(0,[0,7,1]),(3,[0,1])] (by kernel_rfl)
 have e1 : q 0=(((k1 : Nat) : Int) : Rat) := (hq 0 _ rfl).trans (rd_tx _)
 have e3 : ¬ q 2=0 := lei_ne hk e1 ((hq 1 _ rfl).trans (show cst 0 7 1=(((7 : Nat) : Int) : Rat) by decide +kernel)) (hq 2 _ rfl)
 exact run_toldH 3 (hy_of (H := [(0,2,0,0)]) (sgOf_size (by simp [hx,hy,s1])) (by kernel_rfl) (by kernel_rfl) rfl rfl hq h0 ⟨hF e3,trivial⟩) leiCl (by kernel_rfl) (fun _ h => h) (leiC7 a0 m0) hp (hand1 hb)
  ⟨⟨⟨⟨0,a0,7,m0,_,m0,rfl,rfl⟩,trivial⟩,trivial⟩,⟨⟨⟨o1,k1,m1,rfl,fun _ => ⟨_,rfl,e1.symm⟩⟩,trivial⟩,trivial⟩,⟨⟨[.string px,.string py],rfl,rfl,rfl,trivial⟩,trivial⟩,trivial⟩
theorem leiC8 (a0 : Addr) (m0 : Nat) : (callB (sx Tryz.prog [(1,[0]),(0,[0,8,1]),(3,[0,1])] [(0,2,0,0)] (hK1 8 a0 m0) [] [] [4194309,5,4194315] (hnd (prC [8]))) 3 4 [v1 (.inr (8,0,0,8,0)),v1 (.inr (10,0,0,0,0)),vA [.inr (2,1,0,0,0),.inr (2,2,0,0,0)]] [] 0).map (·.1)=some (kB true) := by kernel_rfl
theorem lei_count8 {w : World} {a0 : Addr} {o1 : Option Addr} {m0 k1 m1 : Nat} {px py : ByteArray} (hk : ¬ k1=8) (hb : a0.block < w.heap.size) (s1 : (tellS (((k1 : Nat) : Int) : Rat)).size≤1048576) (hx : px.size≤1048576) (hy : py.size≤1048576) (hp : PreS w) :
  Calls Tryz.prog 4 #[.slice (some a0) 8 m0,.slice o1 k1 m1,.agg #[.string px,.string py]] w fun e w' => Below w.heap.size w w'∧e=.returned (.bool true) := by
 obtain ⟨q,hq,h0⟩ := nodes_exist (sgOf [tellS (((k1 : Nat) : Int) : Rat),px,py]) [(1,[0]),(0,[0,8,1]),(3,[0,1])] (by kernel_rfl)
 have e1 : q 0=(((k1 : Nat) : Int) : Rat) := (hq 0 _ rfl).trans (rd_tx _)
 have e3 : ¬ q 2=0 := lei_ne hk e1 ((hq 1 _ rfl).trans (show cst 0 8 1=(((8 : Nat) : Int) : Rat) by decide +kernel)) (hq 2 _ rfl)
 exact run_toldH 3 (hy_of (H := [(0,2,0,0)]) (sgOf_size (by simp [hx,hy,s1])) (by kernel_rfl) (by kernel_rfl) rfl rfl hq h0 ⟨hF e3,trivial⟩) leiCl (by kernel_rfl) (fun _ h => h) (leiC8 a0 m0) hp (hand1 hb)
  ⟨⟨⟨⟨0,a0,8,m0,_,m0,rfl,rfl⟩,trivial⟩,trivial⟩,⟨⟨⟨o1,k1,m1,rfl,fun _ => ⟨_,rfl,e1.symm⟩⟩,trivial⟩,trivial⟩,⟨⟨[.string px,.string py],rfl,rfl,rfl,trivial⟩,trivial⟩,trivial⟩
theorem leiC9 (a0 : Addr) (m0 : Nat) : (callB (sx Tryz.prog [(1,[0]),(0,[0,9,1]),(3,[0,1])] [(0,2,0,0)] (hK1 9 a0 m0) [] [] [4194309,5,4194315] (hnd (prC [8]))) 3 4 [v1 (.inr (8,0,0,9,0)),v1 (.inr (10,0,0,0,0)),vA [.inr (2,1,0,0,0),.inr (2,2,0,0,0)]] [] 0).map (·.1)=some (kB true) := by kernel_rfl
theorem lei_count9 {w : World} {a0 : Addr} {o1 : Option Addr} {m0 k1 m1 : Nat} {px py : ByteArray} (hk : ¬ k1=9) (hb : a0.block < w.heap.size) (s1 : (tellS (((k1 : Nat) : Int) : Rat)).size≤1048576) (hx : px.size≤1048576) (hy : py.size≤1048576) (hp : PreS w) :
  Calls Tryz.prog 4 #[.slice (some a0) 9 m0,.slice o1 k1 m1,.agg #[.string px,.string py]] w fun e w' => Below w.heap.size w w'∧e=.returned (.bool true) := by
 obtain ⟨q,hq,h0⟩ := nodes_exist (sgOf [tellS (((k1 : Nat) : Int) : Rat),px,py]) [(1,[0]),(0,[0,9,1]),(3,[0,1])] (by kernel_rfl)
 have e1 : q 0=(((k1 : Nat) : Int) : Rat) := (hq 0 _ rfl).trans (rd_tx _)
 have e3 : ¬ q 2=0 := lei_ne hk e1 ((hq 1 _ rfl).trans (show cst 0 9 1=(((9 : Nat) : Int) : Rat) by decide +kernel)) (hq 2 _ rfl)
 exact run_toldH 3 (hy_of (H := [(0,2,0,0)]) (sgOf_size (by simp [hx,hy,s1])) (by kernel_rfl) (by kernel_rfl) rfl rfl hq h0 ⟨hF e3,trivial⟩) leiCl (by kernel_rfl) (fun _ h => h) (leiC9 a0 m0) hp (hand1 hb)
  ⟨⟨⟨⟨0,a0,9,m0,_,m0,rfl,rfl⟩,trivial⟩,trivial⟩,⟨⟨⟨o1,k1,m1,rfl,fun _ => ⟨_,rfl,e1.symm⟩⟩,trivial⟩,trivial⟩,⟨⟨[.string px,.string py],rfl,rfl,rfl,trivial⟩,trivial⟩,trivial⟩
theorem leiC10 (a0 : Addr) (m0 : Nat) : (callB (sx Tryz.prog [(1,[0]),(0,[0,10,1]),(3,[0,1])] [(0,2,0,0)] (hK1 10 a0 m0) [] [] [4194309,5,4194315] (hnd (prC [8]))) 3 4 [v1 (.inr (8,0,0,10,0)),v1 (.inr (10,0,0,0,0)),vA [.inr (2,1,0,0,0),.inr (2,2,0,0,0)]] [] 0).map (·.1)=some (kB true) := by kernel_rfl
theorem lei_count10 {w : World} {a0 : Addr} {o1 : Option Addr} {m0 k1 m1 : Nat} {px py : ByteArray} (hk : ¬ k1=10) (hb : a0.block < w.heap.size) (s1 : (tellS (((k1 : Nat) : Int) : Rat)).size≤1048576) (hx : px.size≤1048576) (hy : py.size≤1048576) (hp : PreS w) :
  Calls Tryz.prog 4 #[.slice (some a0) 10 m0,.slice o1 k1 m1,.agg #[.string px,.string py]] w fun e w' => Below w.heap.size w w'∧e=.returned (.bool true) := by
 obtain ⟨q,hq,h0⟩ := nodes_exist (sgOf [tellS (((k1 : Nat) : Int) : Rat),px,py]) [(1,[0]),(0,[0,10,1]),(3,[0,1])] (by kernel_rfl)
 have e1 : q 0=(((k1 : Nat) : Int) : Rat) := (hq 0 _ rfl).trans (rd_tx _)
 have e3 : ¬ q 2=0 := lei_ne hk e1 ((hq 1 _ rfl).trans (show cst 0 10 1=(((10 : Nat) : Int) : Rat) by decide +kernel)) (hq 2 _ rfl)
 exact run_toldH 3 (hy_of (H := [(0,2,0,0)]) (sgOf_size (by simp [hx,hy,s1])) (by kernel_rfl) (by kernel_rfl) rfl rfl hq h0 ⟨hF e3,trivial⟩) leiCl (by kernel_rfl) (fun _ h => h) (leiC10 a0 m0) hp (hand1 hb)
  ⟨⟨⟨⟨0,a0,10,m0,_,m0,rfl,rfl⟩,trivial⟩,trivial⟩,⟨⟨⟨o1,k1,m1,rfl,fun _ => ⟨_,rfl,e1.symm⟩⟩,trivial⟩,trivial⟩,⟨⟨[.string px,.string py],rfl,rfl,rfl,trivial⟩,trivial⟩,trivial⟩
theorem leiC11 (a0 : Addr) (m0 : Nat) : (callB (sx Tryz.prog [(1,[0]),(0,[0,11,1]),(3,[0,1])] [(0,2,0,0)] (hK1 11 a0 m0) [] [] [4194309,5,4194315] (hnd (prC [8]))) 3 4 [v1 (.inr (8,0,0,11,0)),v1 (.inr (10,0,0,0,0)),vA [.inr (2,1,0,0,0),.inr (2,2,0,0,0)]] [] 0).map (·.1)=some (kB true) := by kernel_rfl
theorem lei_count11 {w : World} {a0 : Addr} {o1 : Option Addr} {m0 k1 m1 : Nat} {px py : ByteArray} (hk : ¬ k1=11) (hb : a0.block < w.heap.size) (s1 : (tellS (((k1 : Nat) : Int) : Rat)).size≤1048576) (hx : px.size≤1048576) (hy : py.size≤1048576) (hp : PreS w) :
  Calls Tryz.prog 4 #[.slice (some a0) 11 m0,.slice o1 k1 m1,.agg #[.string px,.string py]] w fun e w' => Below w.heap.size w w'∧e=.returned (.bool true) := by
 obtain ⟨q,hq,h0⟩ := nodes_exist (sgOf [tellS (((k1 : Nat) : Int) : Rat),px,py]) [(1,[0]),(0,[0,11,1]),(3,[0,1])] (by kernel_rfl)
 have e1 : q 0=(((k1 : Nat) : Int) : Rat) := (hq 0 _ rfl).trans (rd_tx _)
 have e3 : ¬ q 2=0 := lei_ne hk e1 ((hq 1 _ rfl).trans (show cst 0 11 1=(((11 : Nat) : Int) : Rat) by decide +kernel)) (hq 2 _ rfl)
 exact run_toldH 3 (hy_of (H := [(0,2,0,0)]) (sgOf_size (by simp [hx,hy,s1])) (by kernel_rfl) (by kernel_rfl) rfl rfl hq h0 ⟨hF e3,trivial⟩) leiCl (by kernel_rfl) (fun _ h => h) (leiC11 a0 m0) hp (hand1 hb)
  ⟨⟨⟨⟨0,a0,11,m0,_,m0,rfl,rfl⟩,trivial⟩,trivial⟩,⟨⟨⟨o1,k1,m1,rfl,fun _ => ⟨_,rfl,e1.symm⟩⟩,trivial⟩,trivial⟩,⟨⟨[.string px,.string py],rfl,rfl,rfl,trivial⟩,trivial⟩,trivial⟩
theorem leiC12 (a0 : Addr) (m0 : Nat) : (callB (sx Tryz.prog [(1,[0]),(0,[0,12,1]),(3,[0,1])] [(0,2,0,0)] (hK1 12 a0 m0) [] [] [4194309,5,4194315] (hnd (prC [8]))) 3 4 [v1 (.inr (8,0,0,12,0)),v1 (.inr (10,0,0,0,0)),vA [.inr (2,1,0,0,0),.inr (2,2,0,0,0)]] [] 0).map (·.1)=some (kB true) := by kernel_rfl
theorem lei_count12 {w : World} {a0 : Addr} {o1 : Option Addr} {m0 k1 m1 : Nat} {px py : ByteArray} (hk : ¬ k1=12) (hb : a0.block < w.heap.size) (s1 : (tellS (((k1 : Nat) : Int) : Rat)).size≤1048576) (hx : px.size≤1048576) (hy : py.size≤1048576) (hp : PreS w) :
  Calls Tryz.prog 4 #[.slice (some a0) 12 m0,.slice o1 k1 m1,.agg #[.string px,.string py]] w fun e w' => Below w.heap.size w w'∧e=.returned (.bool true) := by
 obtain ⟨q,hq,h0⟩ := nodes_exist (sgOf [tellS (((k1 : Nat) : Int) : Rat),px,py]) [(1,[0]),(0,[0,12,1]),(3,[0,1])] (by kernel_rfl)
 have e1 : q 0=(((k1 : Nat) : Int) : Rat) := (hq 0 _ rfl).trans (rd_tx _)
 have e3 : ¬ q 2=0 := lei_ne hk e1 ((hq 1 _ rfl).trans (show cst 0 12 1=(((12 : Nat) : Int) : Rat) by decide +kernel)) (hq 2 _ rfl)
 exact run_toldH 3 (hy_of (H := [(0,2,0,0)]) (sgOf_size (by simp [hx,hy,s1])) (by kernel_rfl) (by kernel_rfl) rfl rfl hq h0 ⟨hF e3,trivial⟩) leiCl (by kernel_rfl) (fun _ h => h) (leiC12 a0 m0) hp (hand1 hb)
  ⟨⟨⟨⟨0,a0,12,m0,_,m0,rfl,rfl⟩,trivial⟩,trivial⟩,⟨⟨⟨o1,k1,m1,rfl,fun _ => ⟨_,rfl,e1.symm⟩⟩,trivial⟩,trivial⟩,⟨⟨[.string px,.string py],rfl,rfl,rfl,trivial⟩,trivial⟩,trivial⟩
theorem leiC13 (a0 : Addr) (m0 : Nat) : (callB (sx Tryz.prog [(1,[0]),(0,[0,13,1]),(3,[0,1])] [(0,2,0,0)] (hK1 13 a0 m0) [] [] [4194309,5,4194315] (hnd (prC [8]))) 3 4 [v1 (.inr (8,0,0,13,0)),v1 (.inr (10,0,0,0,0)),vA [.inr (2,1,0,0,0),.inr (2,2,0,0,0)]] [] 0).map (·.1)=some (kB true) := by kernel_rfl
theorem lei_count13 {w : World} {a0 : Addr} {o1 : Option Addr} {m0 k1 m1 : Nat} {px py : ByteArray} (hk : ¬ k1=13) (hb : a0.block < w.heap.size) (s1 : (tellS (((k1 : Nat) : Int) : Rat)).size≤1048576) (hx : px.size≤1048576) (hy : py.size≤1048576) (hp : PreS w) :
  Calls Tryz.prog 4 #[.slice (some a0) 13 m0,.slice o1 k1 m1,.agg #[.string px,.string py]] w fun e w' => Below w.heap.size w w'∧e=.returned (.bool true) := by
 obtain ⟨q,hq,h0⟩ := nodes_exist (sgOf [tellS (((k1 : Nat) : Int) : Rat),px,py]) [(1,[0]),(0,[0,13,1]),(3,[0,1])] (by kernel_rfl)
 have e1 : q 0=(((k1 : Nat) : Int) : Rat) := (hq 0 _ rfl).trans (rd_tx _)
 have e3 : ¬ q 2=0 := lei_ne hk e1 ((hq 1 _ rfl).trans (show cst 0 13 1=(((13 : Nat) : Int) : Rat) by decide +kernel)) (hq 2 _ rfl)
 exact run_toldH 3 (hy_of (H := [(0,2,0,0)]) (sgOf_size (by simp [hx,hy,s1])) (by kernel_rfl) (by kernel_rfl) rfl rfl hq h0 ⟨hF e3,trivial⟩) leiCl (by kernel_rfl) (fun _ h => h) (leiC13 a0 m0) hp (hand1 hb)
  ⟨⟨⟨⟨0,a0,13,m0,_,m0,rfl,rfl⟩,trivial⟩,trivial⟩,⟨⟨⟨o1,k1,m1,rfl,fun _ => ⟨_,rfl,e1.symm⟩⟩,trivial⟩,trivial⟩,⟨⟨[.string px,.string py],rfl,rfl,rfl,trivial⟩,trivial⟩,trivial⟩
theorem leiC14 (a0 : Addr) (m0 : Nat) : (callB (sx Tryz.prog [(1,[0]),(0,[0,14,1]),(3,[0,1])] [(0,2,0,0)] (hK1 14 a0 m0) [] [] [4194309,5,4194315] (hnd (prC [8]))) 3 4 [v1 (.inr (8,0,0,14,0)),v1 (.inr (10,0,0,0,0)),vA [.inr (2,1,0,0,0),.inr (2,2,0,0,0)]] [] 0).map (·.1)=some (kB true) := by kernel_rfl
theorem lei_count14 {w : World} {a0 : Addr} {o1 : Option Addr} {m0 k1 m1 : Nat} {px py : ByteArray} (hk : ¬ k1=14) (hb : a0.block < w.heap.size) (s1 : (tellS (((k1 : Nat) : Int) : Rat)).size≤1048576) (hx : px.size≤1048576) (hy : py.size≤1048576) (hp : PreS w) :
  Calls Tryz.prog 4 #[.slice (some a0) 14 m0,.slice o1 k1 m1,.agg #[.string px,.string py]] w fun e w' => Below w.heap.size w w'∧e=.returned (.bool true) := by
 obtain ⟨q,hq,h0⟩ := nodes_exist (sgOf [tellS (((k1 : Nat) : Int) : Rat),px,py]) [(1,[0]),(0,[0,14,1]),(3,[0,1])] (by kernel_rfl)
 have e1 : q 0=(((k1 : Nat) : Int) : Rat) := (hq 0 _ rfl).trans (rd_tx _)
 have e3 : ¬ q 2=0 := lei_ne hk e1 ((hq 1 _ rfl).trans (show cst 0 14 1=(((14 : Nat) : Int) : Rat) by decide +kernel)) (hq 2 _ rfl)
 exact run_toldH 3 (hy_of (H := [(0,2,0,0)]) (sgOf_size (by simp [hx,hy,s1])) (by kernel_rfl) (by kernel_rfl) rfl rfl hq h0 ⟨hF e3,trivial⟩) leiCl (by kernel_rfl) (fun _ h => h) (leiC14 a0 m0) hp (hand1 hb)
  ⟨⟨⟨⟨0,a0,14,m0,_,m0,rfl,rfl⟩,trivial⟩,trivial⟩,⟨⟨⟨o1,k1,m1,rfl,fun _ => ⟨_,rfl,e1.symm⟩⟩,trivial⟩,trivial⟩,⟨⟨[.string px,.string py],rfl,rfl,rfl,trivial⟩,trivial⟩,trivial⟩
theorem leiC15 (a0 : Addr) (m0 : Nat) : (callB (sx Tryz.prog [(1,[0]),(0,[0,15,1]),(3,[0,1])] [(0,2,0,0)] (hK1 15 a0 m0) [] [] [4194309,5,4194315] (hnd (prC [8]))) 3 4 [v1 (.inr (8,0,0,15,0)),v1 (.inr (10,0,0,0,0)),vA [.inr (2,1,0,0,0),.inr (2,2,0,0,0)]] [] 0).map (·.1)=some (kB true) := by kernel_rfl
theorem lei_count15 {w : World} {a0 : Addr} {o1 : Option Addr} {m0 k1 m1 : Nat} {px py : ByteArray} (hk : ¬ k1=15) (hb : a0.block < w.heap.size) (s1 : (tellS (((k1 : Nat) : Int) : Rat)).size≤1048576) (hx : px.size≤1048576) (hy : py.size≤1048576) (hp : PreS w) :
  Calls Tryz.prog 4 #[.slice (some a0) 15 m0,.slice o1 k1 m1,.agg #[.string px,.string py]] w fun e w' => Below w.heap.size w w'∧e=.returned (.bool true) := by
 obtain ⟨q,hq,h0⟩ := nodes_exist (sgOf [tellS (((k1 : Nat) : Int) : Rat),px,py]) [(1,[0]),(0,[0,15,1]),(3,[0,1])] (by kernel_rfl)
 have e1 : q 0=(((k1 : Nat) : Int) : Rat) := (hq 0 _ rfl).trans (rd_tx _)
 have e3 : ¬ q 2=0 := lei_ne hk e1 ((hq 1 _ rfl).trans (show cst 0 15 1=(((15 : Nat) : Int) : Rat) by decide +kernel)) (hq 2 _ rfl)
 exact run_toldH 3 (hy_of (H := [(0,2,0,0)]) (sgOf_size (by simp [hx,hy,s1])) (by kernel_rfl) (by kernel_rfl) rfl rfl hq h0 ⟨hF e3,trivial⟩) leiCl (by kernel_rfl) (fun _ h => h) (leiC15 a0 m0) hp (hand1 hb)
  ⟨⟨⟨⟨0,a0,15,m0,_,m0,rfl,rfl⟩,trivial⟩,trivial⟩,⟨⟨⟨o1,k1,m1,rfl,fun _ => ⟨_,rfl,e1.symm⟩⟩,trivial⟩,trivial⟩,⟨⟨[.string px,.string py],rfl,rfl,rfl,trivial⟩,trivial⟩,trivial⟩
theorem leiC16 (a0 : Addr) (m0 : Nat) : (callB (sx Tryz.prog [(1,[0]),(0,[0,16,1]),(3,[0,1])] [(0,2,0,0)] (hK1 16 a0 m0) [] [] [4194309,6,4194316] (hnd (prC [8]))) 3 4 [v1 (.inr (8,0,0,16,0)),v1 (.inr (10,0,0,0,0)),vA [.inr (2,1,0,0,0),.inr (2,2,0,0,0)]] [] 0).map (·.1)=some (kB true) := by kernel_rfl
theorem lei_count16 {w : World} {a0 : Addr} {o1 : Option Addr} {m0 k1 m1 : Nat} {px py : ByteArray} (hk : ¬ k1=16) (hb : a0.block < w.heap.size) (s1 : (tellS (((k1 : Nat) : Int) : Rat)).size≤1048576) (hx : px.size≤1048576) (hy : py.size≤1048576) (hp : PreS w) :
  Calls Tryz.prog 4 #[.slice (some a0) 16 m0,.slice o1 k1 m1,.agg #[.string px,.string py]] w fun e w' => Below w.heap.size w w'∧e=.returned (.bool true) := by
 obtain ⟨q,hq,h0⟩ := nodes_exist (sgOf [tellS (((k1 : Nat) : Int) : Rat),px,py]) [(1,[0]),(0,[0,16,1]),(3,[0,1])] (by kernel_rfl)
 have e1 : q 0=(((k1 : Nat) : Int) : Rat) := (hq 0 _ rfl).trans (rd_tx _)
 have e3 : ¬ q 2=0 := lei_ne hk e1 ((hq 1 _ rfl).trans (show cst 0 16 1=(((16 : Nat) : Int) : Rat) by decide +kernel)) (hq 2 _ rfl)
 exact run_toldH 3 (hy_of (H := [(0,2,0,0)]) (sgOf_size (by simp [hx,hy,s1])) (by kernel_rfl) (by kernel_rfl) rfl rfl hq h0 ⟨hF e3,trivial⟩) leiCl (by kernel_rfl) (fun _ h => h) (leiC16 a0 m0) hp (hand1 hb)
  ⟨⟨⟨⟨0,a0,16,m0,_,m0,rfl,rfl⟩,trivial⟩,trivial⟩,⟨⟨⟨o1,k1,m1,rfl,fun _ => ⟨_,rfl,e1.symm⟩⟩,trivial⟩,trivial⟩,⟨⟨[.string px,.string py],rfl,rfl,rfl,trivial⟩,trivial⟩,trivial⟩
end Go.Proofs.YtiiaejmkkflpgaaGreatDoor
/- CSL -/
namespace Go.Proofs.YtiiaejmkkflpgaaGreatDoor
open Go.ChangeShapes Go.WideShapes Go.ChangeAt Go.RowKit Go.Deep
section
variable {H : Type} {enc : TypeId × Value→H} {P : Program}
theorem all_again (hk : Kids P (· < P.types.size)) (hz : ∀ t e,t < P.types.size→P.underlying t=some (.slice e)→0 < P.cellsOf e) {W W' : World} (hb : Below W.heap.size W W') {sp : Nat→Bool} : ∀ {ts : List TypeId} {vs : List Value} {ds : List (DataW H)} {ps : List MemPlace},(∀ t ∈ ts,t < P.types.size) →
  DataW.TrodAll enc P W 0 (fun _ => true) true ts vs ds ps→(∀ p ∈ ps,sp p.block=true)→DataW.TrodAll enc P W' 0 sp true ts vs ds ps
 | [],vs,ds,ps,_,h,_ => by
  obtain ⟨rfl,rfl,rfl⟩ := trodAll_nil h
  exact trodAll_mk0
 | t :: ts,vs,ds,ps,hts,h,hs => by
  have hlt := h.lt
  obtain ⟨v,vs',d,ds',p,q,rfl,rfl,rfl,⟨n,h1⟩,h2⟩ := trodAll_cons h
  refine trodAll_cons_mk ⟨n,?_⟩ (all_again hk hz hb (fun u hu => hts u (List.mem_cons_of_mem _ hu)) h2 fun x hx => hs x (List.mem_append_right _ hx))
  exact DataW.trod_stays hk (fun {t e} a b => hz t e a b) (fun e => by cases e) (hts t List.mem_cons_self) h1 (fun x hx => hb.same (hlt x (List.mem_append_left _ hx))) fun x hx => hs x (List.mem_append_left _ hx)
theorem post_old {f : Func} {s : ChangeSpec} {apart fresh handsOn again : Bool} {W W' : World} {args : Array Value} {v : Value} {ds gs : List (DataW H)} {ps : List MemPlace} (hW : DataW.Whole enc P f.params.toList s.vars apart W args.toList ds gs ps) (hb : Below W.heap.size W W')
  (hr : ∀ (b : Nat) (sp : Nat→Bool) (hd : Bool),DataW.TrodAll enc P W' b sp hd f.resultTypes.toList (v.resultList f.resultTypes.size) (s.fn H (ds ++ gs)).results [])
  (ha : ∀ sp : Nat→Bool,(∀ p ∈ ps,sp p.block=true)→DataW.TrodAll enc P W' 0 sp true f.params.toList args.toList (s.fn H (ds ++ gs)).args ps)
  (hv : ∀ sp : Nat→Bool,DataW.TrodVars enc P W' sp s.vars (s.fn H (ds ++ gs)).vars [])
  (ho : ∀ (j : Nat) (t : TypeId) (r : Value),f.resultTypes[j]? = some t→(v.resultList f.resultTypes.size)[j]? = some r→Value.okWide P W' .any 0 t r) :
  s.post enc P f apart fresh handsOn again W args v W' := by
 have hlt := hW.lt
 have old : ∀ p ∈ ps,(fun b => decide (b < W.heap.size)) p.block=true := fun p hp => decide_eq_true (hlt p hp)
 have hW' := hW
 obtain ⟨_,_,_,_,_,z,n⟩ := hW'
 have e : ([] ++ ps) ++ []=ps := by simp
 refine ⟨ds,gs,ps,[],ps,[],hW,hr _ _ _,ha _ old,hv _,World.keptBut_mono (fun p hp => ⟨hp,Or.inr (Or.inl hp)⟩) (hb.frame (· ∈ ps)),fun _ => ⟨ho,_,_,([] ++ ps) ++ [],⟨[] ++ ps,[],trodAll_append (ha _ fun _ _ => rfl) (hr _ _ _),hv _,rfl,fun b o hp => ?_,fun h => ?_⟩,fun p hp _ => ?_⟩⟩
 ·rw [e] at hp
  rw [hb.frozen (p := ⟨b,o,none⟩) (hlt _ hp)]
  exact z b o hp
 ·rw [e]
  exact n h
 ·rw [e] at hp
  simpa using hp
end
theorem bulk_mem {H : Type} {d : DataW H} : ∀ {l : List (DataW H)},d ∈ l→Rows.uptoBulk d≤Rows.uptoBulkAll l
 | [],h => by cases h
 | x :: l,h => by
  rw [Rows.uptoBulkAll]
  rcases List.mem_cons.1 h with rfl | h
  ·omega
  ·have := bulk_mem h
   omega
theorem flat_get {k : Nat} {f : Nat→List ByteArray} : ∀ {n : Nat},(∀ i,i < n→(f i).length=k)→((List.range n).flatMap f).length=n*k∧∀ (i : Nat) s,((List.range n).flatMap f)[i]? = some s→∃ a b,a < n∧b < k∧i=a*k+b∧(f a)[b]? = some s
 | 0,_ => ⟨by simp,fun i s h => by simp at h⟩
 | n+1,hf => by
  obtain ⟨h1,h2⟩ := flat_get (n := n) fun i hi => hf i (by omega)
  have hn := hf n (by omega)
  rw [List.range_succ,List.flatMap_append]
  refine ⟨by rw [List.length_append,h1]; simp [hn,Nat.add_mul],fun i s h => ?_⟩
  by_cases hi : i < n*k
  ·rw [List.getElem?_append_left (by omega)] at h
   obtain ⟨a,b,g1,g2,g3,g4⟩ := h2 i s h
   exact ⟨a,b,by omega,g2,g3,g4⟩
  ·rw [List.getElem?_append_right (by omega),h1] at h
   simp only [List.flatMap_cons,List.flatMap_nil,List.append_nil] at h
   have := (List.getElem?_eq_some_iff.1 h).1
   exact ⟨n,i - n*k,by omega,by omega,by omega,h⟩
def Texts (w : World) (k B : Nat) (v : Value) (l : List ByteArray) : Prop := (∀ s ∈ l,s.size≤B) ∧
 ((v=.slice none 0 0∧l=[]) ∨ ∃ a n c,v=.slice (some a) n c∧n≤maxLen∧l.length=k*n∧(0 < n→a.block < w.heap.size)∧∀ (i : Nat) s,l[i]? = some s→w.cell? (a.add i)=some (.string s))
theorem cell_block {w : World} {a : Addr} {v : Value} (h : w.cell? a=some v) : a.block < w.heap.size := by
 unfold World.cell? at h
 cases e : w.heap[a.block]? with
 | none => rw [e] at h; cases h
 | some o => exact (Array.getElem?_eq_some_iff.1 e).1
theorem open_texts {H : Type} {enc : TypeId × Value→H} {P : Program} {w : World} {base : Nat} {t e : TypeId} {k : Nat} {v : Value} {d : DataW H} {ps : List MemPlace} (ht : P.underlying t=some (.slice e)) (hk : P.cellsOf e=k) (h0 : 0 < k)
  (hel : ∀ (n : Nat) (cs : List Value) (x : DataW H × List MemPlace),cs.length=k→DataW.trod enc P w 0 (fun _ => true) true n e cs=some x→∃ ss : List ByteArray,cs=ss.map Value.string∧∀ s ∈ ss,s.size≤Rows.uptoBulk x.1)
  (hv : Value.okWide P w .any base t v) (h : DataW.Trod enc P w 0 (fun _ => true) true t v d ps) : ∃ l,Texts w k (Rows.uptoBulk d) v l := by
 obtain ⟨a0,len0,cap0,rfl⟩ := okWide_slice ht hv
 obtain ⟨fuel,hf⟩ := h
 rcases open_slice ht hf with ⟨hc,_⟩ | ⟨a,len,cap,m,n,D,Pl,hc,_,hl,hm,hmm,hx,hD⟩
 ·refine ⟨[],fun s hs => (by cases hs),Or.inl ⟨?_,rfl⟩⟩
  have := List.cons.inj (show ([Value.slice a0 len0 cap0] : List Value)=_ from hc)
  exact this.1
 ·have hv' : Value.slice a0 len0 cap0=.slice (some a) len cap := (List.cons.inj (show ([Value.slice a0 len0 cap0] : List Value)=_ from hc)).1
  have hd := (Prod.mk.inj hx).1
  rw [hk] at hD
  have hmc : m=cap := by simpa using hmm
  obtain ⟨f,hF⟩ := choose_lt (α := List ByteArray) (n := len) (p := fun i ss => ss.length=k∧(∀ (j : Nat) s,ss[j]? = some s→w.cell? (a.add (i*k+j))=some (.string s))∧∀ s ∈ ss,s.size≤Rows.uptoBulk (D i)) fun i hi => by
   obtain ⟨cs',g1,g2⟩ := hD i (by omega)
   obtain ⟨_,g3,g4⟩ := World.cells?_some g1
   obtain ⟨ss,rfl,g5⟩ := hel n cs' _ g3 g2
   refine ⟨ss,by simpa using g3,fun j s hj => ?_,g5⟩
   have hj' : j < k := by
    have := (List.getElem?_eq_some_iff.1 hj).1
    simp at g3
    omega
   have := g4 j hj'
   rw [List.getElem?_map,hj] at this
   rw [← Cx.add_add]
   exact this
  obtain ⟨q1,q2⟩ := flat_get (k := k) (f := f) (n := len) fun i hi => (hF i hi).1
  refine ⟨(List.range len).flatMap f,fun s hs => ?_,Or.inr ⟨a,len,cap,hv',by omega,by rw [q1,Nat.mul_comm],fun hp => ?_,fun i s hi => ?_⟩⟩
  ·obtain ⟨i,hi⟩ := List.getElem?_of_mem hs
   obtain ⟨x,y,g1,g2,_,g4⟩ := q2 i s hi
   have b1 := (hF x g1).2.2 s (List.mem_of_getElem? g4)
   have b2 := bulk_mem (d := D x) (l := (List.range len).map D) (List.mem_map.2 ⟨x,List.mem_range.2 g1,rfl⟩)
   rw [hd,Rows.uptoBulk]
   omega
  ·have g := hF 0 hp
   have : (f 0)[0]? = some (f 0)[0] := List.getElem?_eq_getElem (by omega)
   have := cell_block (g.2.1 0 _ this)
   rwa [Cx.add_block] at this
  ·obtain ⟨x,y,g1,g2,rfl,g4⟩ := q2 i s hi
   exact (hF x g1).2.1 y s g4
end Go.Proofs.YtiiaejmkkflpgaaGreatDoor
