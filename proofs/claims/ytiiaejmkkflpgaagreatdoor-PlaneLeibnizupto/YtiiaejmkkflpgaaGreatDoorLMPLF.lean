/- Part 14 of the walks and of the mathematics under them: MPLF. -/
import Derived.Test.YtiiaejmkkflpgaaGreatDoorA12
import Derived.Test.YtiiaejmkkflpgaaGreatDoorA13
set_option maxHeartbeats 16000000
set_option maxRecDepth 100000
/- MPLF -/
namespace Go.Proofs.YtiiaejmkkflpgaaGreatDoor
open Go Go.RowKit Cx
theorem len_size {n : Nat} (h : n≤maxLen) : (tellS (((n : Nat) : Int) : Rat)).size≤1048576 := int_size (by
 have a : IntKind.i64.min=-9223372036854775808 := by decide +kernel
 have b : IntKind.i64.max=9223372036854775807 := by decide +kernel
 have c : maxLen=9223372036854775807 := by decide +kernel
 rw [c] at h
 simp [Lit.wf,a,b]
 omega)
theorem lei_some {w : World} {o1 : Option Addr} {a0 : Addr} {n0 m0 n1 m1 : Nat} {l ws : List ByteArray} {px py : ByteArray} (z0 : n0≤maxLen) (z1 : n1≤maxLen) (l0 : l.length=2*n0) (l1 : ws.length=1*n1) (g0 : 0 < n0→a0.block < w.heap.size) (hS : ∀ s ∈ l ++ (ws ++ [px,py]),s.size≤1048576) (hx : px.size≤1048576) (hy : py.size≤1048576)
  (c0 : ∀ (i : Nat) s,l[i]? = some s→w.cell? (a0.add i)=some (.string s)) (h1 : (o1=none∧n1=0) ∨ ∃ a1,o1=some a1∧(0 < n1→a1.block < w.heap.size)∧∀ (i : Nat) s,ws[i]? = some s→w.cell? (a1.add i)=some (.string s)) (hp : PreS w) :
  Calls Tryz.prog 4 #[.slice (some a0) n0 m0,.slice o1 n1 m1,.agg #[.string px,.string py]] w fun e w' => Below w.heap.size w w'∧e=.returned (.bool true) := by
 have s0 := len_size z0
 have s1 := len_size z1
 by_cases h16 : 16 < n0
 ·exact lei_many h16 s0 s1 hx hy hp
 rcases h1 with ⟨rfl,rfl⟩ | ⟨a1,rfl,g1,c1⟩
 ·have : n0=0 ∨ n0=1 ∨ n0=2 ∨ n0=3 ∨ n0=4 ∨ n0=5 ∨ n0=6 ∨ n0=7 ∨ n0=8 ∨ n0=9 ∨ n0=10 ∨ n0=11 ∨ n0=12 ∨ n0=13 ∨ n0=14 ∨ n0=15 ∨ n0=16 := by omega
  rcases this with rfl | rfl | rfl | rfl | rfl | rfl | rfl | rfl | rfl | rfl | rfl | rfl | rfl | rfl | rfl | rfl | rfl
  ·exact lei_0 hx hy hp
  ·exact lei_count1 (by decide) (g0 (by decide)) s1 hx hy hp
  ·exact lei_count2 (by decide) (g0 (by decide)) s1 hx hy hp
  ·exact lei_count3 (by decide) (g0 (by decide)) s1 hx hy hp
  ·exact lei_count4 (by decide) (g0 (by decide)) s1 hx hy hp
  ·exact lei_count5 (by decide) (g0 (by decide)) s1 hx hy hp
  ·exact lei_count6 (by decide) (g0 (by decide)) s1 hx hy hp
  ·exact lei_count7 (by decide) (g0 (by decide)) s1 hx hy hp
  ·exact lei_count8 (by decide) (g0 (by decide)) s1 hx hy hp
  ·exact lei_count9 (by decide) (g0 (by decide)) s1 hx hy hp
  ·exact lei_count10 (by decide) (g0 (by decide)) s1 hx hy hp
  ·exact lei_count11 (by decide) (g0 (by decide)) s1 hx hy hp
  ·exact lei_count12 (by decide) (g0 (by decide)) s1 hx hy hp
  ·exact lei_count13 (by decide) (g0 (by decide)) s1 hx hy hp
  ·exact lei_count14 (by decide) (g0 (by decide)) s1 hx hy hp
  ·exact lei_count15 (by decide) (g0 (by decide)) s1 hx hy hp
  ·exact lei_count16 (by decide) (g0 (by decide)) s1 hx hy hp
 have : n0=0 ∨ n0=1 ∨ n0=2 ∨ n0=3 ∨ n0=4 ∨ n0=5 ∨ n0=6 ∨ n0=7 ∨ n0=8 ∨ n0=9 ∨ n0=10 ∨ n0=11 ∨ n0=12 ∨ n0=13 ∨ n0=14 ∨ n0=15 ∨ n0=16 := by omega
 rcases this with rfl | rfl | rfl | rfl | rfl | rfl | rfl | rfl | rfl | rfl | rfl | rfl | rfl | rfl | rfl | rfl | rfl
 ·by_cases hk : n1=0
  ·subst hk
   exact lei_0 hx hy hp
  ·exact lei_count0 hk s1 hx hy hp
 ·by_cases hk : n1=1
  ·subst hk
   exact lei_1 ⟨l0,by simpa using l1,hS,g0 (by decide),g1 (by decide),c0,c1⟩ hp
  ·exact lei_count1 hk (g0 (by decide)) s1 hx hy hp
 ·by_cases hk : n1=2
  ·subst hk
   exact lei_2 ⟨l0,by simpa using l1,hS,g0 (by decide),g1 (by decide),c0,c1⟩ hp
  ·exact lei_count2 hk (g0 (by decide)) s1 hx hy hp
 ·by_cases hk : n1=3
  ·subst hk
   exact lei_3 ⟨l0,by simpa using l1,hS,g0 (by decide),g1 (by decide),c0,c1⟩ hp
  ·exact lei_count3 hk (g0 (by decide)) s1 hx hy hp
 ·by_cases hk : n1=4
  ·subst hk
   exact lei_4 ⟨l0,by simpa using l1,hS,g0 (by decide),g1 (by decide),c0,c1⟩ hp
  ·exact lei_count4 hk (g0 (by decide)) s1 hx hy hp
 ·by_cases hk : n1=5
  ·subst hk
   exact lei_5 ⟨l0,by simpa using l1,hS,g0 (by decide),g1 (by decide),c0,c1⟩ hp
  ·exact lei_count5 hk (g0 (by decide)) s1 hx hy hp
 ·by_cases hk : n1=6
  ·subst hk
   exact lei_6 ⟨l0,by simpa using l1,hS,g0 (by decide),g1 (by decide),c0,c1⟩ hp
  ·exact lei_count6 hk (g0 (by decide)) s1 hx hy hp
 ·by_cases hk : n1=7
  ·subst hk
   exact lei_7 ⟨l0,by simpa using l1,hS,g0 (by decide),g1 (by decide),c0,c1⟩ hp
  ·exact lei_count7 hk (g0 (by decide)) s1 hx hy hp
 ·by_cases hk : n1=8
  ·subst hk
   exact lei_8 ⟨l0,by simpa using l1,hS,g0 (by decide),g1 (by decide),c0,c1⟩ hp
  ·exact lei_count8 hk (g0 (by decide)) s1 hx hy hp
 ·by_cases hk : n1=9
  ·subst hk
   exact lei_9 ⟨l0,by simpa using l1,hS,g0 (by decide),g1 (by decide),c0,c1⟩ hp
  ·exact lei_count9 hk (g0 (by decide)) s1 hx hy hp
 ·by_cases hk : n1=10
  ·subst hk
   exact lei_10 ⟨l0,by simpa using l1,hS,g0 (by decide),g1 (by decide),c0,c1⟩ hp
  ·exact lei_count10 hk (g0 (by decide)) s1 hx hy hp
 ·by_cases hk : n1=11
  ·subst hk
   exact lei_11 ⟨l0,by simpa using l1,hS,g0 (by decide),g1 (by decide),c0,c1⟩ hp
  ·exact lei_count11 hk (g0 (by decide)) s1 hx hy hp
 ·by_cases hk : n1=12
  ·subst hk
   exact lei_12 ⟨l0,by simpa using l1,hS,g0 (by decide),g1 (by decide),c0,c1⟩ hp
  ·exact lei_count12 hk (g0 (by decide)) s1 hx hy hp
 ·by_cases hk : n1=13
  ·subst hk
   exact lei_13 ⟨l0,by simpa using l1,hS,g0 (by decide),g1 (by decide),c0,c1⟩ hp
  ·exact lei_count13 hk (g0 (by decide)) s1 hx hy hp
 ·by_cases hk : n1=14
  ·subst hk
   exact lei_14 ⟨l0,by simpa using l1,hS,g0 (by decide),g1 (by decide),c0,c1⟩ hp
  ·exact lei_count14 hk (g0 (by decide)) s1 hx hy hp
 ·by_cases hk : n1=15
  ·subst hk
   exact lei_15 ⟨l0,by simpa using l1,hS,g0 (by decide),g1 (by decide),c0,c1⟩ hp
  ·exact lei_count15 hk (g0 (by decide)) s1 hx hy hp
 ·by_cases hk : n1=16
  ·subst hk
   exact lei_16 ⟨l0,by simpa using l1,hS,g0 (by decide),g1 (by decide),c0,c1⟩ hp
  ·exact lei_count16 hk (g0 (by decide)) s1 hx hy hp
theorem lei_walk {w : World} {B B' : Nat} {v0 v1 : Value} {l ws : List ByteArray} {px py : ByteArray} (hB : B≤1048576) (hB' : B'≤1048576) (t0 : Texts w 2 B v0 l) (t1 : Texts w 1 B' v1 ws) (hx : px.size≤1048576) (hy : py.size≤1048576) (hp : PreS w) :
  Calls Tryz.prog 4 #[v0,v1,.agg #[.string px,.string py]] w fun e w' => Below w.heap.size w w'∧e=.returned (.bool true) := by
 obtain ⟨b0,t0⟩ := t0
 obtain ⟨b1,t1⟩ := t1
 have hS : ∀ s ∈ l ++ (ws ++ [px,py]),s.size≤1048576 := fun s hs => by
  simp only [List.mem_append,List.mem_cons,List.not_mem_nil,or_false] at hs
  rcases hs with h | h | rfl | rfl
  ·exact Nat.le_trans (b0 s h) hB
  ·exact Nat.le_trans (b1 s h) hB'
  ·exact hx
  ·exact hy
 rcases t0 with ⟨rfl,rfl⟩ | ⟨a0,n0,m0,rfl,z0,l0,g0,c0⟩
 ·rcases t1 with ⟨rfl,rfl⟩ | ⟨a1,n1,m1,rfl,z1,l1,g1,c1⟩
  ·exact lei_0 hx hy hp
  ·by_cases hk : n1=0
   ·subst hk
    exact lei_0 hx hy hp
   ·exact lei_count0 hk (len_size z1) hx hy hp
 ·rcases t1 with ⟨rfl,rfl⟩ | ⟨a1,n1,m1,rfl,z1,l1,g1,c1⟩
  ·exact lei_some z0 (Nat.zero_le _) l0 rfl g0 hS hx hy c0 (Or.inl ⟨rfl,rfl⟩) hp
  ·exact lei_some z0 z1 l0 l1 g0 hS hx hy c0 (Or.inr ⟨a1,rfl,g1,c1⟩) hp
end Go.Proofs.YtiiaejmkkflpgaaGreatDoor
