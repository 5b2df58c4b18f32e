/- Part 16 of the walks and of the mathematics under them: CFgridded MGB. -/
import Derived.Test.YtnhplfjlhdpgoaaGreatDoorA14
import Derived.Test.YtnhplfjlhdpgoaaGreatDoorA15
set_option maxHeartbeats 16000000
set_option maxRecDepth 100000
/- CFgridded -/
namespace Go.Proofs.YtnhplfjlhdpgoaaGreatDoor
open Go.RowKit Cx
theorem KZ : Closed 6 :=
 FC (N := [(0,[0,3,1]),(0,[0,1,1]),(0,[0,0,1]),(2,[1,1]),(2,[2,1]),(3,[3,0]),(2,[1,3]),(2,[2,4]),(3,[6,0]),(2,[1,6]),(2,[2,7]),(3,[9,0]),(2,[6,3]),(2,[7,4]),(3,[12,0]),(2,[3,1]),(2,[4,1]),(3,[15,0]),(2,[3,15]),(2,[4,16]),(3,[18,0]),(2,[15,1]),(2,[16,1]),(3,[21,0]),(6,[2,1]),(6,[7,6]),(6,[4,3]),(6,[16,15]),(6,[1,1]),(0,[0,5,3]),(9,[29]),(10,[29]),(11,[30,31]),(4,[31,32]),(3,[30,33]),(11,[31,34]),(4,[34,35]),(3,[31,36]),(11,[34,37]),(4,[37,38]),(3,[34,39]),(3,[38,1]),(4,[2,1]),(4,[1,1]),(2,[1,42]),(2,[2,43]),(2,[44,2]),(2,[45,1]),(6,[47,46]),(4,[44,1]),(4,[45,1]),(2,[2,49]),(2,[1,50]),(2,[51,44]),(2,[52,45]),(6,[54,53]),(4,[51,1]),(4,[52,1]),(2,[44,56]),(2,[45,57]),(2,[58,51]),(2,[59,52]),(6,[61,60]),(0,[0,5,1]),(9,[1]),(10,[1]),(3,[65,1]),(9,[2]),(10,[2]),(3,[68,1]),(9,[63]),(10,[63]),(3,[71,1]),(4,[2,63]),(3,[43,73]),(4,[2,2]),(2,[43,75]),(4,[1,63]),(2,[77,42]),(4,[63,63]),(2,[79,43]),(3,[76,80]),(0,[0,2,1]),(4,[78,82]),(3,[76,83]),(4,[76,82]),(11,[84,85]),(5,[86]),(4,[1,87]),(4,[2,87]),(3,[63,88]),(3,[1,89]),(4,[76,87]),(3,[78,92]),(2,[78,93]),(4,[94,87]),(3,[80,95]),(3,[76,96]),(4,[93,82]),(3,[76,98]),(11,[99,85]),(5,[100]),(0,[0,7,5]),(9,[102]),(10,[102]),(11,[103,104]),(4,[104,105]),(3,[103,106]),(11,[104,107]),(4,[107,108]),(3,[104,109]),(11,[107,110]),(4,[110,111]),(3,[107,112]),(4,[2,105]),(4,[1,105]),(2,[1,114]),(2,[2,115]),(4,[116,108]),(4,[117,108]),(2,[2,118]),(2,[1,119]),(4,[120,111]),(4,[121,111]),(2,[116,122]),(2,[117,123]),(6,[117,116]),(6,[121,120]),(6,[125,124]),(0,[0,1,3]),(0,[0,1,2]),(0,[0,2,3]),(0,[0,3,2])]) (H := [(2,5,0,0),(2,8,0,0),(2,11,0,1),(2,14,0,1),(2,17,0,0),(2,20,0,1),(2,23,0,1),(2,29,0,1),(0,31,0,0),(0,34,0,0),(0,37,0,0),(0,40,0,1),(3,32,1,1),(3,35,1,1),(3,41,1,1),(0,66,0,1),(0,69,0,1),(0,72,0,1),(0,74,0,0),(2,81,0,0),(0,87,0,0),(2,97,0,0),(0,101,0,1),(0,104,0,0),(0,107,0,0),(0,110,0,0),(0,113,0,1),(4,24,2,1),(4,25,129,1),(4,26,130,1),(4,27,131,1),(4,28,1,1),(4,62,29,1),(4,1,1,1),(4,2,2,1),(4,90,2,1),(4,91,1,1),(4,126,1,1),(4,127,132,1),(4,128,102,1)]) (K := [(120,[.inr (3,0,0,0,0),.inr (3,7,0,0,0),.inr (3,6,0,0,0)]),(58,[.inr (3,97,0,0,0),.inr (3,96,0,0,0)]),(58,[.inr (3,219,0,0,0),.inr (3,218,0,0,0)])]) (L := [([53,47,51],29),([49],1),([48],2),([53],63),([55,47,53],102),([49,47,51],129),([49,47,50],130),([50,47,51],131),([51,47,50],132)]) (C := [([48],2),([49,47,51],129),([49,47,50],130),([50,47,51],131),([49],1),([53,47,51],29),([51,47,50],132),([55,47,53],102)]) (Z := [3,2,2,5,5,9,8,8,12,11,11,15,14,14,18,8,8,12,14,14,18,11,11,15,4,16,10,16,4,4,4,4,8,12,17,21,38,43,60,103,121,63,4,4,7,7,10,10,20,9,9,12,12,20,20,40,14,14,22,22,35,35,70,4,2,2,5,2,2,5,4,4,7,6,11,4,9,6,11,8,13,23,3,14,24,12,36,36,38,38,43,41,45,57,69,105,119,129,60,70,82,82,4,4,4,8,12,17,21,38,43,60,103,121,10,10,13,13,34,34,37,37,97,97,111,111,26,74,222,3,3,3,3]) (cl := []) 8 (fun _ h => by cases h) (by kernel_rfl) (by kernel_rfl) (by kernel_rfl) (by kernel_rfl) (by kernel_rfl) (by kernel_rfl) (by kernel_rfl)
end Go.Proofs.YtnhplfjlhdpgoaaGreatDoor
/- MGB -/
namespace Go.Proofs.YtnhplfjlhdpgoaaGreatDoor
open Go Go.RowKit Cx
theorem UZ : Con Tryz.prog QZ 6 [] (Bo true) := fun w vs hp h => by
 match vs,h with
 | [],_ => exact (KZ w hp).mono fun e w' ⟨hb,e1⟩ => ⟨hb,_,e1,rfl⟩
section
variable {Q : Exit→Act→World→Prop} {w0 : World} {n : Nat} {tm : List (Nat × Fact)} {bx : List (Nat × TypeId × Fact)} {a0 : Act} {wr : World} {os : List Oper} {pl : List Plan}
theorem step_np {i : Nat} {o : Oper} {xT yT : TypeId} {x y : Operand} (ho : os[i]? = some o) (hp : pl[i]? = some (.pure (Jus (.bool false)))) (hw : JM w0 bx a0 wr os pl o true) (hop : o.op=.binOp .gtr xT x y yT) (hx : Opn w0 bx a0 wr os pl i o x Np) (hy : Opn w0 bx a0 wr os pl i o y (Jus (.int .i64 0))) : AStep Tryz.prog Q os a0 (RInv w0 bx a0 wr os pl) i o := Zg ho hp hw fun d τ w hri hd hn => by
 obtain ⟨c,ex,hc⟩ := hx d τ w hri hd hn
 have ey : (Qi a0 τ 0 os).eval y=.int .i64 0 := hy d τ w hri hd hn
 refine ⟨.bool false,w,?_,Below.refl _ _,rfl⟩
 unfold execOp
 rw [hop]
 show (do pure (Next.value (← (do eqGuard .gtr xT x y ((Qi a0 τ 0 os).eval x) ((Qi a0 τ 0 os).eval y); binOp .gtr xT ((Qi a0 τ 0 os).eval x) ((Qi a0 τ 0 os).eval y) : Sem Value))) : Sem Next).run Tryz.prog w=_
 rw [ex,ey]
 have h := CW hc xT x y w
 revert h
 generalize (do eqGuard .gtr xT x y (.int .i64 c) (.int .i64 0); binOp .gtr xT (.int .i64 c) (.int .i64 0) : Sem Value)=s
 intro h
 simp [go_sem,h]
end
theorem Ik (vs : Array Value) (w : World) : (callFunc 12 vs).run Tryz.prog w=.ok (.enter 12 vs) w := QY Tryz.func12 (by kernel_rfl) (by kernel_rfl) vs w
theorem UG (vs : Array Value) (w : World) : (callFunc 19 vs).run Tryz.prog w=.ok (.enter 19 vs) w := QY Tryz.func19 (by kernel_rfl) (by kernel_rfl) vs w
theorem YT (vs : Array Value) (w : World) : (callFunc 20 vs).run Tryz.prog w=.ok (.enter 20 vs) w := QY Tryz.func20 (by kernel_rfl) (by kernel_rfl) vs w
theorem Hi {w : World} {s : ByteArray} {q : Rat} (hrd : Cx.rd s.data.toList=q) (hs60 : s.size≤60) (hp : QZ w) : Calls Tryz.prog 4 #[.string s] w fun e w' => Below w.heap.size w w'∧e=.returned (.bool true) := by
 have fq : QS 245 q := by
  rw [← hrd]
  refine QS.mono (QS.rd _) ?_
  have : s.data.toList.length=s.size := Array.length_toList
  omega
 have hl2 : ∀ z ∈ cf q.num q.den,z.natAbs < 2 ^ 245 := TY (q.den+1) _ _ (by omega) fq.num fq.den
 have hl1 : (cf q.num q.den).length≤490 := Dh 245 _ _ fq.den
 have hlen : (QJ q).length≤490 := by rw [XJ]; exact hl1
 have hpos : 0 < (QJ q).length := by rw [XJ]; exact List.length_pos_iff.2 (Sr q.den_nz)
 have hne0 : ¬ ((QJ q).length : Int)=0 := by omega
 have hlast : (QJ q)[(QJ q).length - 1]? = some (txB q) := by
  have := Gk (q := q) (k := (QJ q).length - 1) (by omega)
  rwa [aI_last] at this
 refine Jk (w0 := w) (n := 75) (Fs := [Tx s]) (vs := [.string s]) (bx := []) Tryz.func4 rfl rfl (Nat.le_of_ble_eq_true rfl) (Below.refl _ _) ⟨rfl,trivial⟩ (fun k G t F h => by simp at h) List.nodup_nil ?_
 intro a0 S0
 have HPRE : ∀ w',Below w.heap.size w w'→QZ w' := fun w' hb => Jb hp hb
 refine wp_seq ?_
 refine Qn [.pure (Bo false)] ⟨S0,by decide +kernel⟩ (by kernel_rfl) (by kernel_rfl) rfl (by kernel_rfl) ?_ ?_
 ·intro C
  refine ASteps.cons ?_ (ASteps.nil)
  ·exact Qk rfl rfl (Qa rfl) rfl (Qp _)
 intro γ a1 w1 Z1 S1
 replace S1 : AS w 75 [(2,Bo false),(0,Tx (s))] [] a1 w1 := cast (by kernel_rfl) (S1.keep [0,2])
 clear S0
 refine Qe ?_
 refine wp_seq ?_
 refine JF 1 ?_
 refine Zd [.pure (Tx (s))] ⟨S1,by decide +kernel⟩ (by kernel_rfl) (by kernel_rfl) rfl (by kernel_rfl) ?_ ?_
 ·intro C
  refine ASteps.cons ?_ (ASteps.nil)
  ·exact Qj rfl rfl (Qa rfl) rfl (Qg C 1 (by kernel_rfl) rfl)
 intro γ a2 w2 Z2 S2
 replace S2 : AS w 75 [(12,Tx (s)),(2,Bo false),(0,Tx (s))] [] a2 w2 := cast (by kernel_rfl) (S2.keep [0,2,12])
 clear S1
 refine Qe ?_
 refine Zw rfl rfl IF ?_
 rw [show (#[Operand.tmp 12] : Array Operand).map a2.eval=#[.string s] from by simp [S2.val 0 rfl]]
 refine (Ez hrd hs60 (HPRE _ S2.bel)).mono ?_
 rintro _ wn ⟨hbn,vn,rfl,hO⟩
 refine ⟨_,rfl,?_⟩
 have hN : Below w.heap.size w wn := S2.bel.trans (hbn.mono S2.bel.size)
 have HI : (HiT wn (QJ q)).on vn wn := hiT_own hO wn
 have S3 := (S2.call (t := 13) (F := Tup [HiT wn (QJ q),In (0)]) (nbx := []) rfl hbn ⟨[vn,.int .i64 0],rfl,HI,rfl,trivial⟩ (fun j G t F hj => by simp at hj) List.nodup_nil).restart
 replace HPRE : ∀ w2,Below wn.heap.size wn w2→QZ w2 := fun w2 hb => Jb (HPRE wn hN) hb
 obtain ⟨a3,ea3⟩ : ∃ a : Act,a=a2.put (some 13) (.tuple #[vn,.int .i64 0]) := ⟨_,rfl⟩
 rw [← ea3] at S3
 show wpList _ _ _ _ (a2.put (some 13) _) wn
 rw [← ea3]
 replace S3 : AS wn 75 [(13,Tup [HiT wn (QJ q),In (0)]),(2,Bo false),(0,Tx (s))] [] a3 wn := cast (by kernel_rfl) (S3.keep [13,2,0])
 clear S2 ea3
 obtain ⟨w3,hw3⟩ : ∃ w2 : World,w2=wn := ⟨_,rfl⟩
 replace S3 : AS wn 75 [(13,Tup [HiT wn (QJ q),In (0)]),(2,Bo false),(0,Tx (s))] [] a3 w3 := by rw [hw3]; exact S3
 rw [← hw3]
 clear hw3
 refine Zn 2 ?_
 refine Zd [.pure (Tup [HiT wn (QJ q),In (0)]),.pure (HiT wn (QJ q)),.pure (In (0)),.pure (HiT wn (QJ q)),.pure (In (0))] ⟨S3,by decide +kernel⟩ (by kernel_rfl) (by kernel_rfl) rfl (by kernel_rfl) ?_ ?_
 ·intro C
  refine ASteps.cons ?_ (ASteps.cons ?_ (ASteps.cons ?_ (ASteps.cons ?_ (ASteps.cons ?_ (ASteps.nil)))))
  ·exact Qj rfl rfl (Qa rfl) rfl (Qg C 0 (by kernel_rfl) rfl)
  ·exact QX (k := 0) rfl rfl (Qa rfl) rfl (Qc C 0 0 rfl rfl rfl rfl rfl rfl) rfl
  ·exact QX (k := 1) rfl rfl (Qa rfl) rfl (Qc C 0 0 rfl rfl rfl rfl rfl rfl) rfl
  ·exact Qk rfl rfl (Qa rfl) rfl (Qc C 1 0 rfl rfl rfl rfl rfl rfl)
  ·exact Qk rfl rfl (Qa rfl) rfl (Qc C 2 0 rfl rfl rfl rfl rfl rfl)
 intro γ a4 w4 Z4 S4
 replace S4 : AS wn 75 [(4,In (0)),(3,HiT wn (QJ q)),(2,Bo false),(0,Tx (s))] [] a4 w4 := cast (by kernel_rfl) (S4.keep [0,2,3,4])
 clear S3
 refine Qe ?_
 refine wp_seq ?_
 refine wp_seq ?_
 refine Qn [.pure (Bo true),.pure (Bo false),.pure (Bo false),.pure (In (0)),.pure (Bo false),.pure (Bo false)] ⟨S4,by decide +kernel⟩ (by kernel_rfl) (by kernel_rfl) rfl (by kernel_rfl) ?_ ?_
 ·intro C
  refine ASteps.cons ?_ (ASteps.cons ?_ (ASteps.cons ?_ (ASteps.cons ?_ (ASteps.cons ?_ (ASteps.cons ?_ (ASteps.nil))))))
  ·exact Ql HPRE rfl rfl (Qa rfl) rfl Jz Opns.nil (UZ)
  ·exact Sj true rfl rfl (Qa rfl) rfl (Qc C 0 0 rfl rfl rfl rfl rfl rfl)
  ·exact Qj rfl rfl (Qa rfl) rfl (Qc C 1 0 rfl rfl rfl rfl rfl rfl)
  ·exact Qj rfl rfl (Zp C 2 0 false rfl rfl rfl rfl rfl rfl rfl) rfl (Qg C 0 (by kernel_rfl) rfl)
  ·exact QU rfl rfl (Zp C 2 1 false rfl rfl rfl rfl rfl rfl rfl) rfl (Qc C 3 0 rfl rfl rfl rfl rfl rfl) (Qp _) (Xk _ _ _ _ _ _ rfl)
  ·exact Yz false rfl rfl (Qa rfl) rfl (Qc C 2 0 rfl rfl rfl rfl rfl rfl) (Qc C 4 1 rfl rfl rfl rfl rfl rfl)
 intro γ a5 w5 Z5 S5
 replace S5 : AS wn 75 [(21,Bo false),(3,HiT wn (QJ q)),(2,Bo false),(0,Tx (s))] [] a5 w5 := cast (by kernel_rfl) (S5.keep [0,2,3,21])
 clear S4
 refine Qe ?_
 refine wp_cond_false (S5.val 0 rfl) ?_
 refine wp_skip ?_
 refine Qe ?_
 refine wp_seq ?_
 refine Qn [.pure (Tx (s)),.pure (Rt q),.pure (Rt q)] ⟨S5,by decide +kernel⟩ (by kernel_rfl) (by kernel_rfl) rfl (by kernel_rfl) ?_ ?_
 ·intro C
  refine ASteps.cons ?_ (ASteps.cons ?_ (ASteps.cons ?_ (ASteps.nil)))
  ·exact Qj rfl rfl (Qa rfl) rfl (Qg C 3 (by kernel_rfl) rfl)
  ·exact Ql HPRE rfl rfl (Qa rfl) rfl XL (Opns.cons (Qc C 0 0 rfl rfl rfl rfl rfl rfl) Opns.nil) ((AA (by omega) hrd))
  ·exact Qk rfl rfl (Qa rfl) rfl (Qc C 1 0 rfl rfl rfl rfl rfl rfl)
 intro γ a6 w6 Z6 S6
 replace S6 : AS wn 75 [(5,Rt q),(3,HiT wn (QJ q)),(2,Bo false)] [] a6 w6 := cast (by kernel_rfl) (S6.keep [2,3,5])
 clear S5
 refine Qe ?_
 refine wp_seq ?_
 refine wp_seq ?_
 refine Qn [.pure (HiT wn (QJ q)),.pure (In ((QJ q).length)),.pure (Bo false),.pure (Bo false),.pure (HiT wn (QJ q)),.pure (HiT wn (QJ q)),.pure (In ((QJ q).length)),.pure (In ((QJ q).length - 1)),.pure (CiT wn (txB q)),.pure (Tx (txB q)),.pure (Rt q),.pure (Tx (txB q)),.pure (Bo false),.pure (Bo false)] ⟨S6,by decide +kernel⟩ (by kernel_rfl) (by kernel_rfl) rfl (by kernel_rfl) ?_ ?_
 ·intro C
  refine ASteps.cons ?_ (ASteps.cons ?_ (ASteps.cons ?_ (ASteps.cons ?_ (ASteps.cons ?_ (ASteps.cons ?_ (ASteps.cons ?_ (ASteps.cons ?_ (ASteps.cons ?_ (ASteps.cons ?_ (ASteps.cons ?_ (ASteps.cons ?_ (ASteps.cons ?_ (ASteps.cons ?_ (ASteps.nil))))))))))))))
  ·exact Qj rfl rfl (Qa rfl) rfl (Qg C 1 (by kernel_rfl) rfl)
  ·exact Uy rfl rfl (Qa rfl) rfl (Qc C 0 0 rfl rfl rfl rfl rfl rfl) Tryz.underlying23
  ·exact QU rfl rfl (Qa rfl) rfl (Qc C 1 0 rfl rfl rfl rfl rfl rfl) (Qp _) (Bu _ _ _ _ _ _ (decide_eq_false hne0))
  ·exact Qj rfl rfl (Qa rfl) rfl (Qc C 2 0 rfl rfl rfl rfl rfl rfl)
  ·exact Qj rfl rfl (Zp C 3 0 false rfl rfl rfl rfl rfl rfl rfl) rfl (Qg C 1 (by kernel_rfl) rfl)
  ·exact Qj rfl rfl (Zp C 3 0 false rfl rfl rfl rfl rfl rfl rfl) rfl (Qg C 1 (by kernel_rfl) rfl)
  ·exact Uy rfl rfl (Zp C 3 1 false rfl rfl rfl rfl rfl rfl rfl) rfl (Qc C 5 0 rfl rfl rfl rfl rfl rfl) Tryz.underlying23
  ·exact QU rfl rfl (Zp C 3 1 false rfl rfl rfl rfl rfl rfl rfl) rfl (Qc C 6 0 rfl rfl rfl rfl rfl rfl) (Qp _) (Bd _ _ _ _ _ _ (Ux (by omega) (by omega)))
  ·exact OB ((QJ q).length - 1) (by omega) hlast rfl rfl (Zp C 3 2 false rfl rfl rfl rfl rfl rfl rfl) rfl (Qc C 4 0 rfl rfl rfl rfl rfl rfl) (Qc C 7 1 rfl rfl rfl rfl rfl rfl) (fun a n c w h => ltT.idx a n c w h)
  ·exact Wb rfl rfl (Zp C 3 1 false rfl rfl rfl rfl rfl rfl rfl) rfl (Qc C 8 0 rfl rfl rfl rfl rfl rfl) ltT.load
  ·exact Qj rfl rfl (Zp C 3 0 false rfl rfl rfl rfl rfl rfl rfl) rfl (Qg C 0 (by kernel_rfl) rfl)
  ·exact Ql HPRE rfl rfl (Zp C 3 1 false rfl rfl rfl rfl rfl rfl rfl) rfl Te (Opns.cons (Qc C 10 0 rfl rfl rfl rfl rfl rfl) Opns.nil) ((con_TB fq (by decide)))
  ·exact QU rfl rfl (Zp C 3 2 false rfl rfl rfl rfl rfl rfl rfl) rfl (Qc C 9 0 rfl rfl rfl rfl rfl rfl) (Qc C 11 1 rfl rfl rfl rfl rfl rfl) (PP rfl)
  ·exact Yz false rfl rfl (Qa rfl) rfl (Qc C 3 0 rfl rfl rfl rfl rfl rfl) (Qc C 12 1 rfl rfl rfl rfl rfl rfl)
 intro γ a7 w7 Z7 S7
 replace S7 : AS wn 75 [(38,Bo false),(5,Rt q),(3,HiT wn (QJ q)),(2,Bo false)] [] a7 w7 := cast (by kernel_rfl) (S7.keep [2,3,5,38])
 clear S6
 refine Qe ?_
 refine wp_cond_false (S7.val 0 rfl) ?_
 refine wp_skip ?_
 refine Qe ?_
 refine wp_seq ?_
 refine wp_seq ?_
 refine Qn [.pure (In (0))] ⟨S7,by decide +kernel⟩ (by kernel_rfl) (by kernel_rfl) rfl (by kernel_rfl) ?_ ?_
 ·intro C
  refine ASteps.cons ?_ (ASteps.nil)
  ·exact Qk rfl rfl (Qa rfl) rfl (Qp _)
 intro γ a8 w8 Z8 S8
 replace S8 : AS wn 75 [(6,In (0)),(5,Rt q),(3,HiT wn (QJ q)),(2,Bo false)] [] a8 w8 := cast (by kernel_rfl) (S8.keep [2,3,5,6])
 clear S7
 refine Qe ?_
 refine wp_block ?_
 refine wp_loop (fun a w' => ∃ k : Nat,(k < (QJ q).length)∧AS wn 75 [(6,In (k)),(5,Rt q),(3,HiT wn (QJ q))] [] a w') (fun a _ => (QJ q).length - (intOf (a.tmps.getD 6 undef)).toNat) ⟨0,hpos,cast (by kernel_rfl) (S8.keep [6,5,3])⟩ ?_
 clear S8
 intro a9 w9 hI9
 obtain ⟨k,hk,S9⟩ := hI9
 have hM : a9.tmps.getD 6 undef=.int .i64 (k : Int) := S9.val 0 rfl
 refine wp_seq ?_
 refine wp_seq ?_
 by_cases h1 : (k+1 : Int) < (QJ q).length
 ·
  refine Qn [.pure (In (k)),.pure (In (k+1)),.pure (HiT wn (QJ q)),.pure (In ((QJ q).length)),.pure (Bo true)] ⟨S9,by decide +kernel⟩ (by kernel_rfl) (by kernel_rfl) rfl (by kernel_rfl) ?_ ?_
  ·intro C
   refine ASteps.cons ?_ (ASteps.cons ?_ (ASteps.cons ?_ (ASteps.cons ?_ (ASteps.cons ?_ (ASteps.nil)))))
   ·exact Qj rfl rfl (Qa rfl) rfl (Qg C 0 (by kernel_rfl) rfl)
   ·exact QU rfl rfl (Qa rfl) rfl (Qc C 0 0 rfl rfl rfl rfl rfl rfl) (Qp _) (Xp _ _ _ _ _ _ (Ux (by omega) (by omega)))
   ·exact Qj rfl rfl (Qa rfl) rfl (Qg C 2 (by kernel_rfl) rfl)
   ·exact Uy rfl rfl (Qa rfl) rfl (Qc C 2 0 rfl rfl rfl rfl rfl rfl) Tryz.underlying23
   ·exact QU rfl rfl (Qa rfl) rfl (Qc C 1 0 rfl rfl rfl rfl rfl rfl) (Qc C 3 1 rfl rfl rfl rfl rfl rfl) (Xg _ _ _ _ _ _ (decide_eq_true h1))
  intro γ a10 w10 Z10 S10
  replace S10 : AS wn 75 [(43,Bo true),(6,In (k)),(5,Rt q),(3,HiT wn (QJ q))] [] a10 w10 := cast (by kernel_rfl) (S10.keep [3,5,6,43])
  clear S9
  refine Qe ?_
  refine wp_cond_true (S10.val 0 rfl) ?_
  refine wp_skip ?_
  refine Qe ?_
  refine wp_seq ?_
  refine wp_block ?_
  refine wp_seq ?_
  have hk1 := Gk (q := q) (k := k) (by omega)
  have hk2 := Gk (q := q) (k := k+1) (by omega)
  have fa1 : QS 241084 (aI q k) := Sh hl2 hl1 (by rw [← XJ]; omega)
  have fa2 : QS 241084 (aI q (k+1)) := Sh hl2 hl1 (by rw [← XJ]; omega)
  have hle := aI_near (q := q) (k := k) (by omega)
  have fabs := qs_abs (QS.sub fq fa1)
  have fmk := qs_mk fa1.den fa2.den
  have sd1 : Small ((aI q k).den : Int).natAbs := by rw [Int.natAbs_natCast]; exact Qs fa1.den (by decide)
  have sd2 : Small ((aI q (k+1)).den : Int).natAbs := by rw [Int.natAbs_natCast]; exact Qs fa2.den (by decide)
  have hfb0 : 0 < (aI q k).den*(aI q (k+1)).den := Nat.mul_pos (aI q k).den_pos (aI q (k+1)).den_pos
  have sfb : Small ((aI q k).den*(aI q (k+1)).den) := YB fa1.den fa2.den (by decide)
  refine Qn [.pure (HiT wn (QJ q)),.pure (In (k)),.pure (CiT wn (txB (aI q k))),.pure (Tx (txB (aI q k))),.pure (Rt (aI q k)),.pure (HiT wn (QJ q)),.pure (In (k)),.pure (In (k+1)),.pure (CiT wn (txB (aI q (k+1)))),.pure (Tx (txB (aI q (k+1)))),.pure (Rt (aI q (k+1))),.pure (Rt (aI q k)),.pure (Rt (aI q (k+1)))] ⟨S10,by decide +kernel⟩ (by kernel_rfl) (by kernel_rfl) rfl (by kernel_rfl) ?_ ?_
  ·intro C
   refine ASteps.cons ?_ (ASteps.cons ?_ (ASteps.cons ?_ (ASteps.cons ?_ (ASteps.cons ?_ (ASteps.cons ?_ (ASteps.cons ?_ (ASteps.cons ?_ (ASteps.cons ?_ (ASteps.cons ?_ (ASteps.cons ?_ (ASteps.cons ?_ (ASteps.cons ?_ (ASteps.nil)))))))))))))
   ·exact Qj rfl rfl (Qa rfl) rfl (Qg C 3 (by kernel_rfl) rfl)
   ·exact Qj rfl rfl (Qa rfl) rfl (Qg C 1 (by kernel_rfl) rfl)
   ·exact OB k rfl hk1 rfl rfl (Qa rfl) rfl (Qc C 0 0 rfl rfl rfl rfl rfl rfl) (Qc C 1 1 rfl rfl rfl rfl rfl rfl) (fun a n c w h => ltT.idx a n c w h)
   ·exact Wb rfl rfl (Qa rfl) rfl (Qc C 2 0 rfl rfl rfl rfl rfl rfl) ltT.load
   ·exact Ql HPRE rfl rfl (Qa rfl) rfl XL (Opns.cons (Qc C 3 0 rfl rfl rfl rfl rfl rfl) Opns.nil) ((MC fa1 (by decide)))
   ·exact Qj rfl rfl (Qa rfl) rfl (Qg C 3 (by kernel_rfl) rfl)
   ·exact Qj rfl rfl (Qa rfl) rfl (Qg C 1 (by kernel_rfl) rfl)
   ·exact QU rfl rfl (Qa rfl) rfl (Qc C 6 0 rfl rfl rfl rfl rfl rfl) (Qp _) (Xp _ _ _ _ _ _ (Ux (by omega) (by omega)))
   ·exact OB (k+1) (by omega) hk2 rfl rfl (Qa rfl) rfl (Qc C 5 0 rfl rfl rfl rfl rfl rfl) (Qc C 7 1 rfl rfl rfl rfl rfl rfl) (fun a n c w h => ltT.idx a n c w h)
   ·exact Wb rfl rfl (Qa rfl) rfl (Qc C 8 0 rfl rfl rfl rfl rfl rfl) ltT.load
   ·exact Ql HPRE rfl rfl (Qa rfl) rfl XL (Opns.cons (Qc C 9 0 rfl rfl rfl rfl rfl rfl) Opns.nil) ((MC fa2 (by decide)))
   ·exact Qk rfl rfl (Qa rfl) rfl (Qc C 4 0 rfl rfl rfl rfl rfl rfl)
   ·exact Qk rfl rfl (Qa rfl) rfl (Qc C 10 0 rfl rfl rfl rfl rfl rfl)
  intro γ a11 w11 Z11 S11
  replace S11 : AS wn 75 [(8,Rt (aI q (k+1))),(7,Rt (aI q k)),(6,In (k)),(5,Rt q),(3,HiT wn (QJ q))] [] a11 w11 := cast (by kernel_rfl) (S11.keep [3,5,6,7,8])
  clear S10
  refine Qe ?_
  refine wp_seq ?_
  refine wp_region_lit ?_
  refine Ob rfl rfl ?_
  have hbn := Qh w11 (.cells #[.bool false,.slice none 0 0,.bool false,.slice none 0 0] 35)
  have hW12 : wn.heap.size≤w11.heap.size := S11.bel.size
  have S12 : AS wn 75 [(57,Dr w11.heap.size),(8,Rb w11.heap.size (aI q (k+1))),(7,Rb w11.heap.size (aI q k)),(6,In (k)),(5,Rb w11.heap.size q),(3,HiT wn (QJ q))] [] (a11.put (some 57) (.pointer (some ⟨w11.heap.size,0,none⟩))) (w11.alloc (.cells #[.bool false,.slice none 0 0,.bool false,.slice none 0 0] 35)) := S11.put (by decide) (S11.bel.trans (hbn.mono S11.bel.size)) ⟨rfl,Blk.new _ _ _⟩ (by simp) (Qu (KN (S11.fact 0 rfl) hbn) (Qu (KN (S11.fact 1 rfl) hbn) (Qu ((In (k) : Fact).st (Grows.of hbn) (S11.fact 2 rfl)) (Qu (KN (S11.fact 3 rfl) hbn) (Qu ((HiT wn (QJ q) : Fact).st (Grows.of hbn) (S11.fact 4 rfl)) Uu))))) Uq S11.dis
  generalize hGe12 : w11.heap.size=G12 at *
  obtain ⟨a12,ea12⟩ : ∃ a : Act,a=a11.put (some 57) (.pointer (some ⟨G12,0,none⟩)) := ⟨_,rfl⟩
  obtain ⟨w12,ew12⟩ : ∃ w' : World,w'=w11.alloc (.cells #[.bool false,.slice none 0 0,.bool false,.slice none 0 0] 35) := ⟨_,rfl⟩
  show wpList _ _ _ _ (a11.put (some 57) (.pointer (some ⟨G12,0,none⟩))) _
  rw [← ea12,← ew12]
  rw [← ea12,← ew12] at S12
  clear S11 ea12 ew12 hbn hGe12
  refine Is 2 ?_
  refine Zn 1 ?_
  refine Zd [.pure (Rb G12 q),.pure (Rb G12 (aI q k))] ⟨S12,by decide +kernel⟩ (by kernel_rfl) (by kernel_rfl) rfl (by kernel_rfl) ?_ ?_
  ·intro C
   refine ASteps.cons ?_ (ASteps.cons ?_ (ASteps.nil))
   ·exact Qj rfl rfl (Qa rfl) rfl (Qg C 4 (by kernel_rfl) rfl)
   ·exact Qj rfl rfl (Qa rfl) rfl (Qg C 2 (by kernel_rfl) rfl)
  intro γ a13 w13 Z13 S13
  replace S13 : AS wn 75 [(59,Rb G12 (aI q k)),(58,Rb G12 q),(57,Dr G12),(8,Rb G12 (aI q (k+1))),(7,Rb G12 (aI q k)),(6,In (k)),(5,Rb G12 q),(3,HiT wn (QJ q))] [] a13 w13 := cast (by kernel_rfl) (S13.keep [3,5,6,7,8,57,58,59])
  clear S12
  refine Qe ?_
  refine Zw rfl rfl Ik ?_
  have hx0 : (Rt q).on (a13.eval (.tmp 58)) w13 := (IH (S13.fact 1 rfl))
  have hy0 : (Rt (aI q k)).on (a13.eval (.tmp 59)) w13 := (IH (S13.fact 0 rfl))
  rw [show (#[Operand.tmp 58,Operand.tmp 59] : Array Operand).map a13.eval=#[a13.eval (.tmp 58),a13.eval (.tmp 59)] from by simp]
  refine (Fp hx0 hy0 fq fa1 (by decide)).mono ?_
  rintro _ wc ⟨hbc,vc,rfl,hvc⟩
  refine ⟨vc,rfl,?_⟩
  have S14 : AS wn 75 [(60,Rt (q - (aI q k))),(57,Dr G12),(8,Rb G12 (aI q (k+1))),(7,Rb G12 (aI q k)),(6,In (k)),(5,Rb G12 q),(3,HiT wn (QJ q))] [] (a13.put (some 60) (vc)) wc := S13.put (by decide) (S13.bel.trans (hbc.mono S13.bel.size)) hvc (by simp) (Qu ((Dr G12 : Fact).st (Grows.of hbc) (S13.fact 2 rfl)) (Qu ((Rb G12 (aI q (k+1)) : Fact).st (Grows.of hbc) (S13.fact 3 rfl)) (Qu ((Rb G12 (aI q k) : Fact).st (Grows.of hbc) (S13.fact 4 rfl)) (Qu ((In (k) : Fact).st (Grows.of hbc) (S13.fact 5 rfl)) (Qu ((Rb G12 q : Fact).st (Grows.of hbc) (S13.fact 6 rfl)) (Qu ((HiT wn (QJ q) : Fact).st (Grows.of hbc) (S13.fact 7 rfl)) Uu)))))) Uq S13.dis
  obtain ⟨a14,ea14⟩ : ∃ a : Act,a=a13.put (some 60) (vc) := ⟨_,rfl⟩
  obtain ⟨w14,ew14⟩ : ∃ w' : World,w'=wc := ⟨_,rfl⟩
  subst ew14
  show wpList _ _ _ _ (a13.put (some 60) (vc)) _
  rw [← ea14]
  rw [← ea14] at S14
  clear S13 ea14 hx0 hy0 hbc hvc
  refine Zw rfl rfl UG ?_
  have hz0 : (Dr G12).on (a14.eval (.tmp 57)) w14 := S14.fact 1 rfl
  obtain ⟨gx,hx1,hx2⟩ := (show (Rt (q - (aI q k))).on (a14.eval (.tmp 60)) w14 from (S14.fact 0 rfl))
  have hh : YU w14 G12 := ⟨_,_,hz0.2,by simp [Qm]⟩
  rw [show (#[Operand.tmp 57,Operand.tmp 60] : Array Operand).map a14.eval=#[.pointer (some ⟨G12,0,none⟩),.pointer (some ⟨gx,0,none⟩)] from by simp [hz0.1,hx1]]
  refine (Dz hz0.2 (by simp [Qm]) hx2 (QS.sub fq fa1) (by decide)).mono ?_
  rintro _ wc ⟨rfl,hsv,hrv⟩
  refine ⟨_,rfl,?_⟩
  have hGw : wn.heap.size≤G12 := by omega
  have S15 : AS wn 75 [(61,Rt (Yf (q - (aI q k)))),(8,Rt (aI q (k+1))),(7,Rt (aI q k)),(6,In (k)),(5,Rt q),(3,HiT wn (QJ q))] [] (a14.put (some 61) (.pointer (some ⟨G12,0,none⟩))) wc := S14.put (by decide) (S14.bel.trans (hsv.below hGw S14.bel.size)) ⟨G12,rfl,hrv⟩ (by simp) (Qu (IH (UB (S14.fact 2 rfl) (by omega) hh hsv)) (Qu (IH (UB (S14.fact 3 rfl) (by omega) hh hsv)) (Qu (show (In (k)).on _ _ from (S14.fact 4 rfl)) (Qu (IH (UB (S14.fact 5 rfl) (by omega) hh hsv)) (Qu (show (HiT wn (QJ q)).on _ _ from (S14.fact 6 rfl)) Uu))))) Uq S14.dis
  obtain ⟨a15,ea15⟩ : ∃ a : Act,a=a14.put (some 61) (.pointer (some ⟨G12,0,none⟩)) := ⟨_,rfl⟩
  obtain ⟨w15,ew15⟩ : ∃ w' : World,w'=wc := ⟨_,rfl⟩
  subst ew15
  show wpList _ _ _ _ (a14.put (some 61) (.pointer (some ⟨G12,0,none⟩))) _
  rw [← ea15]
  rw [← ea15] at S15
  clear S14 ea15 hz0 hh hsv hrv hx1 hx2
  refine Zn 5 ?_
  refine Zd [.pure (Rt (Yf (q - (aI q k))))] ⟨S15,by decide +kernel⟩ (by kernel_rfl) (by kernel_rfl) rfl (by kernel_rfl) ?_ ?_
  ·intro C
   refine ASteps.cons ?_ (ASteps.nil)
   ·exact Qk rfl rfl (Qa rfl) rfl (Qg C 0 (by kernel_rfl) rfl)
  intro γ a16 w16 Z16 S16
  replace S16 : AS wn 75 [(9,Rt (Yf (q - (aI q k)))),(8,Rt (aI q (k+1))),(7,Rt (aI q k)),(6,In (k)),(5,Rt q),(3,HiT wn (QJ q))] [] a16 w16 := cast (by kernel_rfl) (S16.keep [3,5,6,7,8,9])
  clear S15
  refine Qe ?_
  refine wp_seq ?_
  refine wp_region_lit ?_
  refine Ob rfl rfl ?_
  have hbn := Qh w16 (.cells #[.bool false,.slice none 0 0,.bool false,.slice none 0 0] 35)
  have hW17 : wn.heap.size≤w16.heap.size := S16.bel.size
  have S17 : AS wn 75 [(62,Dr w16.heap.size),(9,Rb w16.heap.size (Yf (q - (aI q k)))),(8,Rb w16.heap.size (aI q (k+1))),(7,Rb w16.heap.size (aI q k)),(6,In (k)),(5,Rb w16.heap.size q),(3,HiT wn (QJ q))] [] (a16.put (some 62) (.pointer (some ⟨w16.heap.size,0,none⟩))) (w16.alloc (.cells #[.bool false,.slice none 0 0,.bool false,.slice none 0 0] 35)) := S16.put (by decide) (S16.bel.trans (hbn.mono S16.bel.size)) ⟨rfl,Blk.new _ _ _⟩ (by simp) (Qu (KN (S16.fact 0 rfl) hbn) (Qu (KN (S16.fact 1 rfl) hbn) (Qu (KN (S16.fact 2 rfl) hbn) (Qu ((In (k) : Fact).st (Grows.of hbn) (S16.fact 3 rfl)) (Qu (KN (S16.fact 4 rfl) hbn) (Qu ((HiT wn (QJ q) : Fact).st (Grows.of hbn) (S16.fact 5 rfl)) Uu)))))) Uq S16.dis
  generalize hGe17 : w16.heap.size=G17 at *
  obtain ⟨a17,ea17⟩ : ∃ a : Act,a=a16.put (some 62) (.pointer (some ⟨G17,0,none⟩)) := ⟨_,rfl⟩
  obtain ⟨w17,ew17⟩ : ∃ w' : World,w'=w16.alloc (.cells #[.bool false,.slice none 0 0,.bool false,.slice none 0 0] 35) := ⟨_,rfl⟩
  show wpList _ _ _ _ (a16.put (some 62) (.pointer (some ⟨G17,0,none⟩))) _
  rw [← ea17,← ew17]
  rw [← ea17,← ew17] at S17
  clear S16 ea17 ew17 hbn hGe17
  refine Is 1 ?_
  refine Zn 1 ?_
  refine Zd [.pure (Iv (((1 : Nat) : Int)))] ⟨S17,by decide +kernel⟩ (by kernel_rfl) (by kernel_rfl) rfl (by kernel_rfl) ?_ ?_
  ·intro C
   refine ASteps.cons ?_ (ASteps.nil)
   ·exact Ql HPRE rfl rfl (Qa rfl) rfl Wa (Opns.cons (Qp _) Opns.nil) ((CM (n := 1) (by decide)))
  intro γ a18 w18 Z18 S18
  replace S18 : AS wn 75 [(63,Iv (((1 : Nat) : Int))),(62,Dr G17),(9,Rb G17 (Yf (q - (aI q k)))),(8,Rb G17 (aI q (k+1))),(7,Rb G17 (aI q k)),(6,In (k)),(5,Rb G17 q),(3,HiT wn (QJ q))] [] a18 w18 := cast (by kernel_rfl) (S18.keep [3,5,6,7,8,9,62,63])
  clear S17
  refine Qe ?_
  refine GM rfl rfl ?_
  have hbn := Qh w18 (.cells #[.bool false,.slice none 0 0] 33)
  have hD19_62 : G17 < w18.heap.size := (show (Dr G17).on _ _ from S18.fact 1 rfl).2.lt
  have hW19 : wn.heap.size≤w18.heap.size := S18.bel.size
  have S19 : AS wn 75 [(64,Di w18.heap.size),(63,Ib w18.heap.size (((1 : Nat) : Int))),(62,Dr G17),(9,Rb G17 (Yf (q - (aI q k)))),(8,Rb G17 (aI q (k+1))),(7,Rb G17 (aI q k)),(6,In (k)),(5,Rb G17 q),(3,HiT wn (QJ q))] [] (a18.put (some 64) (.pointer (some ⟨w18.heap.size,0,none⟩))) (w18.alloc (.cells #[.bool false,.slice none 0 0] 33)) := S18.put (by decide) (S18.bel.trans (hbn.mono S18.bel.size)) ⟨rfl,Blk.new _ _ _⟩ (by simp) (Qu (ib_of (S18.fact 0 rfl) hbn) (Qu ((Dr G17 : Fact).st (Grows.of hbn) (S18.fact 1 rfl)) (Qu ((Rb G17 (Yf (q - (aI q k))) : Fact).st (Grows.of hbn) (S18.fact 2 rfl)) (Qu ((Rb G17 (aI q (k+1)) : Fact).st (Grows.of hbn) (S18.fact 3 rfl)) (Qu ((Rb G17 (aI q k) : Fact).st (Grows.of hbn) (S18.fact 4 rfl)) (Qu ((In (k) : Fact).st (Grows.of hbn) (S18.fact 5 rfl)) (Qu ((Rb G17 q : Fact).st (Grows.of hbn) (S18.fact 6 rfl)) (Qu ((HiT wn (QJ q) : Fact).st (Grows.of hbn) (S18.fact 7 rfl)) Uu)))))))) Uq S18.dis
  generalize hGe19 : w18.heap.size=G19 at *
  obtain ⟨a19,ea19⟩ : ∃ a : Act,a=a18.put (some 64) (.pointer (some ⟨G19,0,none⟩)) := ⟨_,rfl⟩
  obtain ⟨w19,ew19⟩ : ∃ w' : World,w'=w18.alloc (.cells #[.bool false,.slice none 0 0] 33) := ⟨_,rfl⟩
  show wpList _ _ _ _ (a18.put (some 64) (.pointer (some ⟨G19,0,none⟩))) _
  rw [← ea19,← ew19]
  rw [← ea19,← ew19] at S19
  clear S18 ea19 ew19 hbn hGe19
  refine Is 1 ?_
  refine Zn 3 ?_
  refine Zd [.pure (Rb G17 (aI q k))] ⟨S19,by decide +kernel⟩ (by kernel_rfl) (by kernel_rfl) rfl (by kernel_rfl) ?_ ?_
  ·intro C
   refine ASteps.cons ?_ (ASteps.nil)
   ·exact Qj rfl rfl (Qa rfl) rfl (Qg C 5 (by kernel_rfl) rfl)
  intro γ a20 w20 Z20 S20
  replace S20 : AS wn 75 [(65,Rb G17 (aI q k)),(64,Di G19),(63,Ib G19 (((1 : Nat) : Int))),(62,Dr G17),(9,Rb G17 (Yf (q - (aI q k)))),(8,Rb G17 (aI q (k+1))),(6,In (k)),(5,Rb G17 q),(3,HiT wn (QJ q))] [] a20 w20 := cast (by kernel_rfl) (S20.keep [3,5,6,8,9,62,63,64,65])
  clear S19
  refine Qe ?_
  refine Zw rfl rfl Xq ?_
  have hx0 : (Rt (aI q k)).on (a20.eval (.tmp 65)) w20 := IH (S20.fact 0 rfl)
  obtain ⟨gx,hx1,hx2⟩ := hx0
  rw [show (#[Operand.tmp 65] : Array Operand).map a20.eval=#[.pointer (some ⟨gx,0,none⟩)] from by simp [hx1]]
  refine (Tb hx2 fa1 (by decide)).mono ?_
  rintro _ wc ⟨hbc,gc,rfl,hgc,hoc⟩
  refine ⟨_,rfl,?_⟩
  have hD21_64 : G19 < w20.heap.size := (show (Di G19).on _ _ from S20.fact 1 rfl).2.lt
  have hD21_62 : G17 < w20.heap.size := (show (Dr G17).on _ _ from S20.fact 3 rfl).2.lt
  have S21 : AS wn 75 [(66,Ia w20.heap.size (((aI q k).den : Int))),(64,Di G19),(63,Ib G19 (((1 : Nat) : Int))),(62,Dr G17),(9,Rb G17 (Yf (q - (aI q k)))),(8,Rb G17 (aI q (k+1))),(6,In (k)),(5,Rb G17 q),(3,HiT wn (QJ q))] [] (a20.put (some 66) (.pointer (some ⟨gc,0,none⟩))) wc := S20.put (by decide) (S20.bel.trans (hbc.mono S20.bel.size)) ⟨gc,rfl,hgc,hoc⟩ (by simp) (Qu ((Di G19 : Fact).st (Grows.of hbc) (S20.fact 1 rfl)) (Qu ((Ib G19 (((1 : Nat) : Int)) : Fact).st (Grows.of hbc) (S20.fact 2 rfl)) (Qu ((Dr G17 : Fact).st (Grows.of hbc) (S20.fact 3 rfl)) (Qu ((Rb G17 (Yf (q - (aI q k))) : Fact).st (Grows.of hbc) (S20.fact 4 rfl)) (Qu ((Rb G17 (aI q (k+1)) : Fact).st (Grows.of hbc) (S20.fact 5 rfl)) (Qu ((In (k) : Fact).st (Grows.of hbc) (S20.fact 6 rfl)) (Qu ((Rb G17 q : Fact).st (Grows.of hbc) (S20.fact 7 rfl)) (Qu ((HiT wn (QJ q) : Fact).st (Grows.of hbc) (S20.fact 8 rfl)) Uu)))))))) Uq S20.dis
  generalize hBe21 : w20.heap.size=B21 at *
  obtain ⟨a21,ea21⟩ : ∃ a : Act,a=a20.put (some 66) (.pointer (some ⟨gc,0,none⟩)) := ⟨_,rfl⟩
  obtain ⟨w21,ew21⟩ : ∃ w' : World,w'=wc := ⟨_,rfl⟩
  subst ew21
  show wpList _ _ _ _ (a20.put (some 66) (.pointer (some ⟨gc,0,none⟩))) _
  rw [← ea21]
  rw [← ea21] at S21
  clear S20 ea21 hx1 hx2 hbc hgc hoc hBe21
  refine Is 1 ?_
  refine Zn 5 ?_
  refine Zd [.pure (Rb G17 (aI q (k+1)))] ⟨S21,by decide +kernel⟩ (by kernel_rfl) (by kernel_rfl) rfl (by kernel_rfl) ?_ ?_
  ·intro C
   refine ASteps.cons ?_ (ASteps.nil)
   ·exact Qj rfl rfl (Qa rfl) rfl (Qg C 5 (by kernel_rfl) rfl)
  intro γ a22 w22 Z22 S22
  replace S22 : AS wn 75 [(67,Rb G17 (aI q (k+1))),(66,Ia B21 (((aI q k).den : Int))),(64,Di G19),(63,Ib G19 (((1 : Nat) : Int))),(62,Dr G17),(9,Rb G17 (Yf (q - (aI q k)))),(6,In (k)),(5,Rb G17 q),(3,HiT wn (QJ q))] [] a22 w22 := cast (by kernel_rfl) (S22.keep [3,5,6,9,62,63,64,66,67])
  clear S21
  refine Qe ?_
  refine Zw rfl rfl Xq ?_
  have hx0 : (Rt (aI q (k+1))).on (a22.eval (.tmp 67)) w22 := IH (S22.fact 0 rfl)
  obtain ⟨gx,hx1,hx2⟩ := hx0
  rw [show (#[Operand.tmp 67] : Array Operand).map a22.eval=#[.pointer (some ⟨gx,0,none⟩)] from by simp [hx1]]
  refine (Tb hx2 fa2 (by decide)).mono ?_
  rintro _ wc ⟨hbc,gc,rfl,hgc,hoc⟩
  refine ⟨_,rfl,?_⟩
  have hD23_64 : G19 < w22.heap.size := (show (Di G19).on _ _ from S22.fact 2 rfl).2.lt
  have hD23_62 : G17 < w22.heap.size := (show (Dr G17).on _ _ from S22.fact 4 rfl).2.lt
  have S23 : AS wn 75 [(68,Ia w22.heap.size (((aI q (k+1)).den : Int))),(66,Ia B21 (((aI q k).den : Int))),(64,Di G19),(63,Ib G19 (((1 : Nat) : Int))),(62,Dr G17),(9,Rb G17 (Yf (q - (aI q k)))),(6,In (k)),(5,Rb G17 q),(3,HiT wn (QJ q))] [] (a22.put (some 68) (.pointer (some ⟨gc,0,none⟩))) wc := S22.put (by decide) (S22.bel.trans (hbc.mono S22.bel.size)) ⟨gc,rfl,hgc,hoc⟩ (by simp) (Qu ((Ia B21 (((aI q k).den : Int)) : Fact).st (Grows.of hbc) (S22.fact 1 rfl)) (Qu ((Di G19 : Fact).st (Grows.of hbc) (S22.fact 2 rfl)) (Qu ((Ib G19 (((1 : Nat) : Int)) : Fact).st (Grows.of hbc) (S22.fact 3 rfl)) (Qu ((Dr G17 : Fact).st (Grows.of hbc) (S22.fact 4 rfl)) (Qu ((Rb G17 (Yf (q - (aI q k))) : Fact).st (Grows.of hbc) (S22.fact 5 rfl)) (Qu ((In (k) : Fact).st (Grows.of hbc) (S22.fact 6 rfl)) (Qu ((Rb G17 q : Fact).st (Grows.of hbc) (S22.fact 7 rfl)) (Qu ((HiT wn (QJ q) : Fact).st (Grows.of hbc) (S22.fact 8 rfl)) Uu)))))))) Uq S22.dis
  generalize hBe23 : w22.heap.size=B23 at *
  obtain ⟨a23,ea23⟩ : ∃ a : Act,a=a22.put (some 68) (.pointer (some ⟨gc,0,none⟩)) := ⟨_,rfl⟩
  obtain ⟨w23,ew23⟩ : ∃ w' : World,w'=wc := ⟨_,rfl⟩
  subst ew23
  show wpList _ _ _ _ (a22.put (some 68) (.pointer (some ⟨gc,0,none⟩))) _
  rw [← ea23]
  rw [← ea23] at S23
  clear S22 ea23 hx1 hx2 hbc hgc hoc hBe23
  refine Zw rfl rfl UI ?_
  have hz0 : (Di G19).on (a23.eval (.tmp 64)) w23 := S23.fact 2 rfl
  have hblk := hz0.2
  have hh : YU w23 G19 := ⟨_,_,hblk,by simp [Qm]⟩
  rw [show (#[Operand.tmp 64,Operand.tmp 66,Operand.tmp 68] : Array Operand).map a23.eval=#[.pointer (some ⟨G19,0,none⟩),a23.eval (.tmp 66),a23.eval (.tmp 68)] from by simp [hz0.1]]
  refine (IA (At2.blk hblk) (MW (iv_ia (S23.fact 1 rfl))) (MW (iv_ia (S23.fact 0 rfl))) (Sk (S23.fact 1 rfl) (by omega)) (Sk (S23.fact 0 rfl) (by omega)) sd1 sd2).mono ?_
  rintro _ wc ⟨rfl,hgv⟩
  refine ⟨_,rfl,?_⟩
  have hsv := hgv.save
  obtain ⟨hoc,hbl⟩ := hgv.own hblk
  have hGw : wn.heap.size≤G19 := by omega
  have S24 : AS wn 75 [(69,Ig G19 (((aI q k).den : Int)*((aI q (k+1)).den : Int))),(63,Ib G19 (((1 : Nat) : Int))),(62,Dr G17),(9,Rb G17 (Yf (q - (aI q k)))),(6,In (k)),(5,Rb G17 q),(3,HiT wn (QJ q))] [] (a23.put (some 69) (.pointer (some ⟨G19,0,none⟩))) wc := S23.put (by decide) (S23.bel.trans (hsv.below hGw S23.bel.size)) ⟨rfl,hoc⟩ (by simp) (Qu (ib_save (S23.fact 3 rfl) (by omega) hh hsv) (Qu (dr_save (S23.fact 4 rfl) (by omega) hsv) (Qu (UB (S23.fact 5 rfl) (by omega) hh hsv) (Qu (show (In (k)).on _ _ from (S23.fact 6 rfl)) (Qu (UB (S23.fact 7 rfl) (by omega) hh hsv) (Qu (show (HiT wn (QJ q)).on _ _ from (S23.fact 8 rfl)) Uu)))))) Uq S23.dis
  obtain ⟨a24,ea24⟩ : ∃ a : Act,a=a23.put (some 69) (.pointer (some ⟨G19,0,none⟩)) := ⟨_,rfl⟩
  obtain ⟨w24,ew24⟩ : ∃ w' : World,w'=wc := ⟨_,rfl⟩
  subst ew24
  show wpList _ _ _ _ (a23.put (some 69) (.pointer (some ⟨G19,0,none⟩))) _
  rw [← ea24]
  rw [← ea24] at S24
  clear S23 ea24 hblk hh hgv hsv hoc hbl
  refine Zw rfl rfl YT ?_
  have hz0 : (Dr G17).on (a24.eval (.tmp 62)) w24 := S24.fact 2 rfl
  have hh : YU w24 G17 := ⟨_,_,hz0.2,by simp [Qm]⟩
  have hpx : IV w24 (a24.eval (.tmp 63)) 1 := (MW (iv_ib (S24.fact 1 rfl)))
  have hpy : IV w24 (a24.eval (.tmp 69)) ((((aI q k).den*(aI q (k+1)).den : Nat)) : Int) := by rw [Int.natCast_mul]; exact (MW (iv_ig (S24.fact 0 rfl)))
  rw [show (#[Operand.tmp 62,Operand.tmp 63,Operand.tmp 69] : Array Operand).map a24.eval=#[.pointer (some ⟨G17,0,none⟩),a24.eval (.tmp 63),a24.eval (.tmp 69)] from by simp [hz0.1]]
  refine (Jo hz0.2 (by simp [Qm]) hpx hpy hfb0 (Qs (k := 1) (by decide) (by decide)) sfb).mono ?_
  rintro _ wc ⟨rfl,hsv,hrv⟩
  refine ⟨_,rfl,?_⟩
  have hGw : wn.heap.size≤G17 := by omega
  have S25 : AS wn 75 [(70,Rt (mkRat 1 ((aI q k).den*(aI q (k+1)).den))),(9,Rt (Yf (q - (aI q k)))),(6,In (k)),(5,Rt q),(3,HiT wn (QJ q))] [] (a24.put (some 70) (.pointer (some ⟨G17,0,none⟩))) wc := S24.put (by decide) (S24.bel.trans (hsv.below hGw S24.bel.size)) ⟨G17,rfl,hrv⟩ (by simp) (Qu (IH (UB (S24.fact 3 rfl) (by omega) hh hsv)) (Qu (show (In (k)).on _ _ from (S24.fact 4 rfl)) (Qu (IH (UB (S24.fact 5 rfl) (by omega) hh hsv)) (Qu (show (HiT wn (QJ q)).on _ _ from (S24.fact 6 rfl)) Uu)))) Uq S24.dis
  obtain ⟨a25,ea25⟩ : ∃ a : Act,a=a24.put (some 70) (.pointer (some ⟨G17,0,none⟩)) := ⟨_,rfl⟩
  obtain ⟨w25,ew25⟩ : ∃ w' : World,w'=wc := ⟨_,rfl⟩
  subst ew25
  show wpList _ _ _ _ (a24.put (some 70) (.pointer (some ⟨G17,0,none⟩))) _
  rw [← ea25]
  rw [← ea25] at S25
  clear S24 ea25 hz0 hh hpx hpy hsv hrv
  refine Zn 9 ?_
  refine Zd [.pure (Rt (mkRat 1 ((aI q k).den*(aI q (k+1)).den)))] ⟨S25,by decide +kernel⟩ (by kernel_rfl) (by kernel_rfl) rfl (by kernel_rfl) ?_ ?_
  ·intro C
   refine ASteps.cons ?_ (ASteps.nil)
   ·exact Qk rfl rfl (Qa rfl) rfl (Qg C 0 (by kernel_rfl) rfl)
  intro γ a26 w26 Z26 S26
  replace S26 : AS wn 75 [(10,Rt (mkRat 1 ((aI q k).den*(aI q (k+1)).den))),(9,Rt (Yf (q - (aI q k)))),(6,In (k)),(5,Rt q),(3,HiT wn (QJ q))] [] a26 w26 := cast (by kernel_rfl) (S26.keep [3,5,6,9,10])
  clear S25
  refine Qe ?_
  refine wp_seq ?_
  refine Qn [.pure (Rt (Yf (q - (aI q k)))),.pure (Rt (mkRat 1 ((aI q k).den*(aI q (k+1)).den))),.pure (Np),.pure (Bo false)] ⟨S26,by decide +kernel⟩ (by kernel_rfl) (by kernel_rfl) rfl (by kernel_rfl) ?_ ?_
  ·intro C
   refine ASteps.cons ?_ (ASteps.cons ?_ (ASteps.cons ?_ (ASteps.cons ?_ (ASteps.nil))))
   ·exact Qj rfl rfl (Qa rfl) rfl (Qg C 1 (by kernel_rfl) rfl)
   ·exact Qj rfl rfl (Qa rfl) rfl (Qg C 0 (by kernel_rfl) rfl)
   ·exact Ql HPRE rfl rfl (Qa rfl) rfl UF (Opns.cons (Qc C 0 0 rfl rfl rfl rfl rfl rfl) (Opns.cons (Qc C 1 1 rfl rfl rfl rfl rfl rfl) Opns.nil)) ((NW hle fabs fmk (by decide)))
   ·exact step_np rfl rfl (Qa rfl) rfl (Qc C 2 0 rfl rfl rfl rfl rfl rfl) (Qp _)
  intro γ a27 w27 Z27 S27
  replace S27 : AS wn 75 [(74,Bo false),(6,In (k)),(5,Rt q),(3,HiT wn (QJ q))] [] a27 w27 := cast (by kernel_rfl) (S27.keep [3,5,6,74])
  clear S26
  refine Qe ?_
  refine wp_cond_false (S27.val 0 rfl) ?_
  refine wp_skip ?_
  refine XB ?_
  refine Qe ?_
  refine Qn [.pure (In (k)),.pure (In (k+1)),.pure (In (k+1))] ⟨S27,by decide +kernel⟩ (by kernel_rfl) (by kernel_rfl) rfl (by kernel_rfl) ?_ ?_
  ·intro C
   refine ASteps.cons ?_ (ASteps.cons ?_ (ASteps.cons ?_ (ASteps.nil)))
   ·exact Qj rfl rfl (Qa rfl) rfl (Tu C 2 1 1 rfl rfl rfl rfl rfl rfl rfl)
   ·exact QU rfl rfl (Qa rfl) rfl (Qc C 0 0 rfl rfl rfl rfl rfl rfl) (Qp _) (Xp _ _ _ _ _ _ (Ux (by omega) (by omega)))
   ·exact Qk rfl rfl (Qa rfl) rfl (Qc C 1 0 rfl rfl rfl rfl rfl rfl)
  intro γ a28 w28 Z28 S28
  replace S28 : AS wn 75 [(6,In (k+1)),(5,Rt q),(3,HiT wn (QJ q))] [] a28 w28 := cast (by kernel_rfl) (S28.keep [3,5,6])
  clear S27
  refine Qe ?_
  refine ⟨⟨k+1,by omega,cast (by kernel_rfl) ((S28.pick [0,1,2]).takeB 0)⟩,?_⟩
  show (QJ q).length - (intOf (a28.tmps.getD 6 undef)).toNat < (QJ q).length - (intOf (a9.tmps.getD 6 undef)).toNat
  rw [hM,show a28.tmps.getD 6 undef=.int .i64 ((k : Int)+1) from S28.val 0 rfl]
  simp only [intOf]
  omega
 ·
  refine Qn [.pure (In (k)),.pure (In (k+1)),.pure (HiT wn (QJ q)),.pure (In ((QJ q).length)),.pure (Bo false)] ⟨S9,by decide +kernel⟩ (by kernel_rfl) (by kernel_rfl) rfl (by kernel_rfl) ?_ ?_
  ·intro C
   refine ASteps.cons ?_ (ASteps.cons ?_ (ASteps.cons ?_ (ASteps.cons ?_ (ASteps.cons ?_ (ASteps.nil)))))
   ·exact Qj rfl rfl (Qa rfl) rfl (Qg C 0 (by kernel_rfl) rfl)
   ·exact QU rfl rfl (Qa rfl) rfl (Qc C 0 0 rfl rfl rfl rfl rfl rfl) (Qp _) (Xp _ _ _ _ _ _ (Ux (by omega) (by omega)))
   ·exact Qj rfl rfl (Qa rfl) rfl (Qg C 2 (by kernel_rfl) rfl)
   ·exact Uy rfl rfl (Qa rfl) rfl (Qc C 2 0 rfl rfl rfl rfl rfl rfl) Tryz.underlying23
   ·exact QU rfl rfl (Qa rfl) rfl (Qc C 1 0 rfl rfl rfl rfl rfl rfl) (Qc C 3 1 rfl rfl rfl rfl rfl rfl) (Xg _ _ _ _ _ _ (decide_eq_false h1))
  intro γ a29 w29 Z29 S29
  replace S29 : AS wn 75 [(43,Bo false),(6,In (k)),(5,Rt q),(3,HiT wn (QJ q))] [] a29 w29 := cast (by kernel_rfl) (S29.keep [3,5,6,43])
  clear S9
  refine Qe ?_
  refine wp_cond_false (S29.val 0 rfl) ?_
  refine wp_exit ?_
  refine Xh ?_
  refine Xh ?_
  refine Yr ?_
  refine Qe ?_
  refine wp_seq ?_
  refine Qn [.pure (Bo true)] ⟨S29,by decide +kernel⟩ (by kernel_rfl) (by kernel_rfl) rfl (by kernel_rfl) ?_ ?_
  ·intro C
   refine ASteps.cons ?_ (ASteps.nil)
   ·exact Qk rfl rfl (Qa rfl) rfl (Qp _)
  intro γ a30 w30 Z30 S30
  replace S30 : AS wn 75 [(2,Bo true)] [] a30 w30 := cast (by kernel_rfl) (S30.keep [2])
  clear S29
  refine Qe ?_
  refine wp_ret ?_
  exact S30.ret 0 rfl rfl fun v hv => ⟨hN.trans (S30.bel.mono hN.size),by rw [show v=_ from hv]⟩
theorem EI {w : World} {s : ByteArray} (hs60 : ¬ s.size≤60) (hp : QZ w) : Calls Tryz.prog 5 #[.string s] w fun e w' => Below w.heap.size w w'∧e=.returned (.tuple #[.slice none 0 0,.int .i64 2]) := by
 have h60 : (60 : Int) < s.size := by omega
 refine Jk (w0 := w) (n := 35) (Fs := [Tx s]) (vs := [.string s]) (bx := []) Tryz.func5 rfl rfl (Nat.le_of_ble_eq_true rfl) (Below.refl _ _) ⟨rfl,trivial⟩ (fun k G t F h => by simp at h) List.nodup_nil ?_
 intro a0 S0
 have HPRE : ∀ w',Below w.heap.size w w'→QZ w' := fun w' hb => Jb hp hb
 refine wp_seq ?_
 refine Qn [.pure (Jus (.slice none 0 0)),.pure (In (0))] ⟨S0,by decide +kernel⟩ (by kernel_rfl) (by kernel_rfl) rfl (by kernel_rfl) ?_ ?_
 ·intro C
  refine ASteps.cons ?_ (ASteps.cons ?_ (ASteps.nil))
  ·exact Qk rfl rfl (Qa rfl) rfl (Qp _)
  ·exact Qk rfl rfl (Qa rfl) rfl (Qp _)
 intro γ a1 w1 Z1 S1
 replace S1 : AS w 35 [(3,In (0)),(2,Jus (.slice none 0 0)),(0,Tx (s))] [] a1 w1 := cast (by kernel_rfl) (S1.keep [0,2,3])
 clear S0
 refine Qe ?_
 refine wp_seq ?_
 refine wp_seq ?_
 refine Qn [.pure (Tx (s)),.pure (In (s.size)),.pure (Bo true)] ⟨S1,by decide +kernel⟩ (by kernel_rfl) (by kernel_rfl) rfl (by kernel_rfl) ?_ ?_
 ·intro C
  refine ASteps.cons ?_ (ASteps.cons ?_ (ASteps.cons ?_ (ASteps.nil)))
  ·exact Qj rfl rfl (Qa rfl) rfl (Qg C 2 (by kernel_rfl) rfl)
  ·exact PD rfl rfl (Qa rfl) rfl (Qc C 0 0 rfl rfl rfl rfl rfl rfl) Tryz.underlying22
  ·exact QU rfl rfl (Qa rfl) rfl (Qc C 1 0 rfl rfl rfl rfl rfl rfl) (Qp _) (UT _ _ _ _ _ _ (decide_eq_true h60))
 intro γ a2 w2 Z2 S2
 replace S2 : AS w 35 [(12,Bo true),(3,In (0)),(2,Jus (.slice none 0 0)),(0,Tx (s))] [] a2 w2 := cast (by kernel_rfl) (S2.keep [0,2,3,12])
 clear S1
 refine Qe ?_
 refine wp_cond_true (S2.val 0 rfl) ?_
 refine wp_seq ?_
 refine Qn [.pure (Jus (.slice none 0 0)),.pure (In (2))] ⟨S2,by decide +kernel⟩ (by kernel_rfl) (by kernel_rfl) rfl (by kernel_rfl) ?_ ?_
 ·intro C
  refine ASteps.cons ?_ (ASteps.cons ?_ (ASteps.nil))
  ·exact Qk rfl rfl (Qa rfl) rfl (Qp _)
  ·exact Qk rfl rfl (Qa rfl) rfl (Qp _)
 intro γ a3 w3 Z3 S3
 replace S3 : AS w 35 [(3,In (2)),(2,Jus (.slice none 0 0)),(0,Tx (s))] [] a3 w3 := cast (by kernel_rfl) (S3.keep [0,2,3])
 clear S2
 refine Qe ?_
 refine wp_ret ?_
 refine Im ?_
 exact S3.retTT 1 0 rfl rfl rfl fun v' v2 hv hv2 => ⟨S3.bel,by rw [show v'=_ from hv,show v2=_ from hv2]⟩
theorem Gm {s : ByteArray} (hs60 : ¬ s.size≤60) : Con Tryz.prog QZ 5 [Tx s] (Tup [Jus (.slice none 0 0),In 2]) := fun w vs hp hall => by
 obtain ⟨v0,rfl,h1⟩ := Xu hall
 cases h1
 exact (EI hs60 hp).mono fun e w' ⟨hb,e1⟩ => ⟨hb,_,e1,[.slice none 0 0,.int .i64 2],rfl,rfl,rfl,trivial⟩
theorem NQ {w : World} {s : ByteArray} (hs60 : ¬ s.size≤60) (hp : QZ w) : Calls Tryz.prog 4 #[.string s] w fun e w' => Below w.heap.size w w'∧e=.returned (.bool true) := by
 refine Jk (w0 := w) (n := 75) (Fs := [Tx s]) (vs := [.string s]) (bx := []) Tryz.func4 rfl rfl (Nat.le_of_ble_eq_true rfl) (Below.refl _ _) ⟨rfl,trivial⟩ (fun k G t F h => by simp at h) List.nodup_nil ?_
 intro a0 S0
 have HPRE : ∀ w',Below w.heap.size w w'→QZ w' := fun w' hb => Jb hp hb
 refine wp_seq ?_
 refine Qn [.pure (Bo false)] ⟨S0,by decide +kernel⟩ (by kernel_rfl) (by kernel_rfl) rfl (by kernel_rfl) ?_ ?_
 ·intro C
  refine ASteps.cons ?_ (ASteps.nil)
  ·exact Qk rfl rfl (Qa rfl) rfl (Qp _)
 intro γ a1 w1 Z1 S1
 replace S1 : AS w 75 [(2,Bo false),(0,Tx (s))] [] a1 w1 := cast (by kernel_rfl) (S1.keep [0,2])
 clear S0
 refine Qe ?_
 refine wp_seq ?_
 refine Qn [.pure (Tx (s)),.pure (Tup [Jus (.slice none 0 0),In (2)]),.pure (Tup [Jus (.slice none 0 0),In (2)]),.pure (Jus (.slice none 0 0)),.pure (In (2)),.pure (Jus (.slice none 0 0)),.pure (In (2))] ⟨S1,by decide +kernel⟩ (by kernel_rfl) (by kernel_rfl) rfl (by kernel_rfl) ?_ ?_
 ·intro C
  refine ASteps.cons ?_ (ASteps.cons ?_ (ASteps.cons ?_ (ASteps.cons ?_ (ASteps.cons ?_ (ASteps.cons ?_ (ASteps.cons ?_ (ASteps.nil)))))))
  ·exact Qj rfl rfl (Qa rfl) rfl (Qg C 1 (by kernel_rfl) rfl)
  ·exact Ql HPRE rfl rfl (Qa rfl) rfl IF (Opns.cons (Qc C 0 0 rfl rfl rfl rfl rfl rfl) Opns.nil) ((Gm hs60))
  ·exact Qj rfl rfl (Qa rfl) rfl (Qc C 1 0 rfl rfl rfl rfl rfl rfl)
  ·exact QX (k := 0) rfl rfl (Qa rfl) rfl (Qc C 2 0 rfl rfl rfl rfl rfl rfl) rfl
  ·exact QX (k := 1) rfl rfl (Qa rfl) rfl (Qc C 2 0 rfl rfl rfl rfl rfl rfl) rfl
  ·exact Qk rfl rfl (Qa rfl) rfl (Qc C 3 0 rfl rfl rfl rfl rfl rfl)
  ·exact Qk rfl rfl (Qa rfl) rfl (Qc C 4 0 rfl rfl rfl rfl rfl rfl)
 intro γ a2 w2 Z2 S2
 replace S2 : AS w 75 [(4,In (2)),(3,Jus (.slice none 0 0)),(2,Bo false),(0,Tx (s))] [] a2 w2 := cast (by kernel_rfl) (S2.keep [0,2,3,4])
 clear S1
 refine Qe ?_
 refine wp_seq ?_
 refine wp_seq ?_
 refine Qn [.pure (Bo true),.pure (Bo false),.pure (Bo false),.pure (In (2)),.pure (Bo true),.pure (Bo true)] ⟨S2,by decide +kernel⟩ (by kernel_rfl) (by kernel_rfl) rfl (by kernel_rfl) ?_ ?_
 ·intro C
  refine ASteps.cons ?_ (ASteps.cons ?_ (ASteps.cons ?_ (ASteps.cons ?_ (ASteps.cons ?_ (ASteps.cons ?_ (ASteps.nil))))))
  ·exact Ql HPRE rfl rfl (Qa rfl) rfl Jz Opns.nil (UZ)
  ·exact Sj true rfl rfl (Qa rfl) rfl (Qc C 0 0 rfl rfl rfl rfl rfl rfl)
  ·exact Qj rfl rfl (Qa rfl) rfl (Qc C 1 0 rfl rfl rfl rfl rfl rfl)
  ·exact Qj rfl rfl (Zp C 2 0 false rfl rfl rfl rfl rfl rfl rfl) rfl (Qg C 0 (by kernel_rfl) rfl)
  ·exact QU rfl rfl (Zp C 2 1 false rfl rfl rfl rfl rfl rfl rfl) rfl (Qc C 3 0 rfl rfl rfl rfl rfl rfl) (Qp _) (Xk _ _ _ _ _ _ rfl)
  ·exact Yz false rfl rfl (Qa rfl) rfl (Qc C 2 0 rfl rfl rfl rfl rfl rfl) (Qc C 4 1 rfl rfl rfl rfl rfl rfl)
 intro γ a3 w3 Z3 S3
 replace S3 : AS w 75 [(21,Bo true),(3,Jus (.slice none 0 0)),(2,Bo false),(0,Tx (s))] [] a3 w3 := cast (by kernel_rfl) (S3.keep [0,2,3,21])
 clear S2
 refine Qe ?_
 refine wp_cond_true (S3.val 0 rfl) ?_
 refine wp_seq ?_
 refine Qn [.pure (Bo true),.pure (Bo true)] ⟨S3,by decide +kernel⟩ (by kernel_rfl) (by kernel_rfl) rfl (by kernel_rfl) ?_ ?_
 ·intro C
  refine ASteps.cons ?_ (ASteps.cons ?_ (ASteps.nil))
  ·exact Ql HPRE rfl rfl (Qa rfl) rfl Jz Opns.nil (UZ)
  ·exact Qk rfl rfl (Qa rfl) rfl (Qc C 0 0 rfl rfl rfl rfl rfl rfl)
 intro γ a4 w4 Z4 S4
 replace S4 : AS w 75 [(2,Bo true),(3,Jus (.slice none 0 0)),(0,Tx (s))] [] a4 w4 := cast (by kernel_rfl) (S4.keep [0,2,3])
 clear S3
 refine Qe ?_
 refine wp_ret ?_
 refine Im ?_
 exact S4.ret 0 rfl rfl fun v hv => ⟨S4.bel,by rw [show v=_ from hv]⟩
theorem gb_walk {w : World} {s : ByteArray} (tab : Tab w) (mx : MaxL w) : Calls Tryz.prog 4 #[.string s] w fun e w' => Below w.heap.size w w'∧e=.returned (.bool true) := by
 by_cases h : s.size≤60
 ·exact Hi rfl h ⟨tab,mx⟩
 ·exact NQ h ⟨tab,mx⟩
end Go.Proofs.YtnhplfjlhdpgoaaGreatDoor
