/- Part 13 of the walks and of the mathematics under them: MPMF. -/
import Derived.Test.YtdiibbgbbajpeaaGreatDoorA12
set_option maxHeartbeats 16000000
set_option maxRecDepth 100000
/- MPMF -/
namespace Go.Proofs.YtdiibbgbbajpeaaGreatDoor
open Go Go.RowKit Cx
theorem mea_some {w : World} {B : Nat} {o1 : Option Addr} {a0 : Addr} {n0 m0 n1 m1 : Nat} {l ws : List ByteArray} (l0 : l.length=2*n0) (l1 : ws.length=1*n1) (g0 : 0 < n0→a0.block < w.heap.size) (hS : ∀ s ∈ l ++ (ws ++ []),s.size≤1048576)
  (c0 : ∀ (i : Nat) s,l[i]? = some s→w.cell? (a0.add i)=some (.string s)) (h1 : (o1=none∧n1=0) ∨ ∃ a1,o1=some a1∧(0 < n1→a1.block < w.heap.size)∧∀ (i : Nat) s,ws[i]? = some s→w.cell? (a1.add i)=some (.string s)) (hB : B≤1048576) (t : Texts w 1 B (.slice o1 n1 m1) ws) (hp : PreS w) :
  Calls Tryz.prog 3 #[.slice (some a0) n0 m0,.slice o1 n1 m1] w fun e w' => Below w.heap.size w w'∧e=.returned (.bool true) := by
 by_cases h16 : 16 < n0
 ·exact mea_many h16 hB t hp
 by_cases hk : n1=n0
 ·subst hk
  rcases h1 with ⟨rfl,rfl⟩ | ⟨a1,rfl,g1,c1⟩
  ·exact mea_0 hp
  have : n1=0 ∨ n1=1 ∨ n1=2 ∨ n1=3 ∨ n1=4 ∨ n1=5 ∨ n1=6 ∨ n1=7 ∨ n1=8 ∨ n1=9 ∨ n1=10 ∨ n1=11 ∨ n1=12 ∨ n1=13 ∨ n1=14 ∨ n1=15 ∨ n1=16 := by omega
  rcases this with rfl | rfl | rfl | rfl | rfl | rfl | rfl | rfl | rfl | rfl | rfl | rfl | rfl | rfl | rfl | rfl | rfl
  ·exact mea_0 hp
  ·exact mea_1 ⟨l0,by simpa using l1,hS,g0 (by decide),g1 (by decide),c0,c1⟩ hp
  ·exact mea_2 ⟨l0,by simpa using l1,hS,g0 (by decide),g1 (by decide),c0,c1⟩ hp
  ·exact mea_3 ⟨l0,by simpa using l1,hS,g0 (by decide),g1 (by decide),c0,c1⟩ hp
  ·exact mea_4 ⟨l0,by simpa using l1,hS,g0 (by decide),g1 (by decide),c0,c1⟩ hp
  ·exact mea_5 ⟨l0,by simpa using l1,hS,g0 (by decide),g1 (by decide),c0,c1⟩ hp
  ·exact mea_6 ⟨l0,by simpa using l1,hS,g0 (by decide),g1 (by decide),c0,c1⟩ hp
  ·exact mea_7 ⟨l0,by simpa using l1,hS,g0 (by decide),g1 (by decide),c0,c1⟩ hp
  ·exact mea_8 ⟨l0,by simpa using l1,hS,g0 (by decide),g1 (by decide),c0,c1⟩ hp
  ·exact mea_9 ⟨l0,by simpa using l1,hS,g0 (by decide),g1 (by decide),c0,c1⟩ hp
  ·exact mea_10 ⟨l0,by simpa using l1,hS,g0 (by decide),g1 (by decide),c0,c1⟩ hp
  ·exact mea_11 ⟨l0,by simpa using l1,hS,g0 (by decide),g1 (by decide),c0,c1⟩ hp
  ·exact mea_12 ⟨l0,by simpa using l1,hS,g0 (by decide),g1 (by decide),c0,c1⟩ hp
  ·exact mea_13 ⟨l0,by simpa using l1,hS,g0 (by decide),g1 (by decide),c0,c1⟩ hp
  ·exact mea_14 ⟨l0,by simpa using l1,hS,g0 (by decide),g1 (by decide),c0,c1⟩ hp
  ·exact mea_15 ⟨l0,by simpa using l1,hS,g0 (by decide),g1 (by decide),c0,c1⟩ hp
  ·exact mea_16 ⟨l0,by simpa using l1,hS,g0 (by decide),g1 (by decide),c0,c1⟩ hp
 ·exact mea_count h16 hk hB t hp
theorem mea_walk {w : World} {B B' : Nat} {v0 v1 : Value} {l ws : List ByteArray} (hB : B≤1048576) (hB' : B'≤1048576) (t0 : Texts w 2 B v0 l) (t1 : Texts w 1 B' v1 ws) (hp : PreS w) :
  Calls Tryz.prog 3 #[v0,v1] w fun e w' => Below w.heap.size w w'∧e=.returned (.bool true) := by
 have t1' := t1
 obtain ⟨⟨b0,_⟩,t0⟩ := t0
 obtain ⟨⟨b1,_⟩,t1⟩ := t1
 have hS : ∀ s ∈ l ++ (ws ++ []),s.size≤1048576 := fun s hs => by
  simp only [List.mem_append,List.not_mem_nil,or_false] at hs
  rcases hs with h | h
  ·exact Nat.le_trans (b0 s h) hB
  ·exact Nat.le_trans (b1 s h) hB'
 rcases t0 with ⟨rfl,rfl⟩ | ⟨a0,n0,m0,rfl,z0,l0,g0,c0⟩
 ·rcases t1 with ⟨rfl,rfl⟩ | ⟨a1,n1,m1,rfl,z1,l1,g1,c1⟩
  ·exact mea_0 hp
  ·by_cases hk : n1=0
   ·subst hk
    exact mea_0 hp
   ·exact mea_count (by decide) hk hB' t1' hp
 ·rcases t1 with ⟨rfl,rfl⟩ | ⟨a1,n1,m1,rfl,z1,l1,g1,c1⟩
  ·exact mea_some l0 rfl g0 hS c0 (Or.inl ⟨rfl,rfl⟩) hB' t1' hp
  ·exact mea_some l0 l1 g0 hS c0 (Or.inr ⟨a1,rfl,g1,c1⟩) hB' t1' hp
end Go.Proofs.YtdiibbgbbajpeaaGreatDoor
