/- Part 15 of the walks and of the mathematics under them: GBL EQL. -/
import Derived.Test.YtnhplfjlhdpgoaaGreatDoorA14
import Derived.Test.YtnhplfjlhdpgoaaGreatDoorA10
set_option maxHeartbeats 16000000
set_option maxRecDepth 100000
/- GBL -/
namespace Go.Proofs.YtnhplfjlhdpgoaaGreatDoor
open Go Go.RowKit Cx
def HiT (w0 : World) (l : List ByteArray) : Fact := ⟨fun v _ => ∃ ao c,v=.slice ao l.length c∧∀ (i : Nat) s,l[i]? = some s→∃ p,ao=some p∧p.block < w0.heap.size∧w0.cell? (p.add i)=some (.string s),fun _ h => h⟩
def CiT (w0 : World) (s : ByteArray) : Fact := ⟨fun v _ => ∃ p,v=.pointer (some p)∧p.block < w0.heap.size∧w0.cell? p=some (.string s),fun _ h => h⟩
theorem hiT_own {w : World} {B : Nat} {Gs : List Nat} {v : Value} {l : List ByteArray} (h : OwnL 22 1 false (fun s : ByteArray => Tx s) w B Gs v l) (w' : World) : (HiT w l).on v w' := by
 rcases h with ⟨rfl,rfl⟩ | ⟨g,cap,cs,us,rfl,h1,h2,h3,h4,h5,h6⟩
 ·exact ⟨none,0,rfl,fun i s hi => by simp at hi⟩
 ·refine ⟨_,_,rfl,fun i s hi => ⟨_,rfl,h3.lt,?_⟩⟩
  obtain ⟨r,k1,k2,k3⟩ := h4.get hi
  match r,k1 with
  | [c],_ =>
   have e : c=.string s := k2
   have := k3 0 c rfl
   rw [Wn,h3.cell]
   rw [Nat.mul_one,Nat.add_zero] at this
   rw [List.getElem?_append_left (List.getElem?_eq_some_iff.1 this).1,this,e]
section
variable {P : Program} {Q : Exit→Act→World→Prop} {w0 : World} {n : Nat} {tm : List (Nat × Fact)} {bx : List (Nat × TypeId × Fact)} {a0 : Act} {wr : World} {os : List Oper} {pl : List Plan}
theorem Uy {i : Nat} {o : Oper} {x : Operand} {t e : TypeId} {l : List ByteArray} {w1 : World} (ho : os[i]? = some o) (hp : pl[i]? = some (.pure (Jus (.int .i64 l.length)))) (hw : JM w0 bx a0 wr os pl o true) (hop : o.op=.call { callee := .builtin .len,args := #[x],argTypes := #[t] })
  (hx : Opn w0 bx a0 wr os pl i o x (HiT w1 l)) (hu : P.underlying t=some (.slice e)) : AStep P Q os a0 (RInv w0 bx a0 wr os pl) i o := Zg ho hp hw fun d τ w hr hd hn => by
 obtain ⟨ao,c,ev,_⟩ := hx d τ w hr hd hn
 refine ⟨_,w,?_,Below.refl _ _,rfl⟩
 unfold execOp
 rw [hop]
 show (resolve (Qi a0 τ 0 os).eval _ o.type >>= fun d => invoke d.target d.args).run P w=_
 unfold resolve
 show (Builtin.len_ #[t] o.type (#[x].map (Qi a0 τ 0 os).eval) >>= fun v => pure (Next.value v) : Sem Next).run P w=_
 have e4 : (Builtin.len_ #[t] o.type (#[x].map (Qi a0 τ 0 os).eval)).run P w=.ok (.int .i64 (l.length : Nat)) w := by
  unfold Builtin.len_
  simp only [List.map_toArray,List.map_cons,List.map_nil,ev]
  show (Go.underlying t >>= _ : Sem Value).run _ _=_
  rw [Sem.run_bind,Qr hu]
  rfl
 rw [Sem.run_bind,e4]
 rfl
theorem OB {i : Nat} {o : Oper} {x y : Operand} {t : TypeId} {l : List ByteArray} {w1 : World} {K : Int} (k : Nat) {s : ByteArray} (hK : K=(k : Int)) (hk : l[k]? = some s) (ho : os[i]? = some o) (hp : pl[i]? = some (.pure (CiT w1 s))) (hw : JM w0 bx a0 wr os pl o true) (hop : o.op=.indexAddr t x y)
  (hx : Opn w0 bx a0 wr os pl i o x (HiT w1 l)) (hy : Opn w0 bx a0 wr os pl i o y (Jus (.int .i64 K))) (hr0 : ∀ (a : Addr) (n c : Nat) (w : World),k < n→(Instr.indexAt t (.slice (some a) n c) (.int .i64 k)).run P w=.ok (.pointer (some (a.add (k*1)))) w) : AStep P Q os a0 (RInv w0 bx a0 wr os pl) i o := Zg ho hp hw fun d τ w hr hd hn => by
 subst hK
 obtain ⟨ao,c,ev,hc⟩ := hx d τ w hr hd hn
 obtain ⟨p,rfl,h1,h2⟩ := hc k s hk
 have hy' : (Qi a0 τ 0 os).eval y=.int .i64 k := hy d τ w hr hd hn
 refine ⟨.pointer (some (p.add k)),w,?_,Below.refl _ _,p.add k,rfl,by rw [Cx.add_block]; exact h1,h2⟩
 unfold execOp
 rw [hop]
 show (do pure (Next.value (← Instr.indexAt t ((Qi a0 τ 0 os).eval x) ((Qi a0 τ 0 os).eval y))) : Sem Next).run P w=_
 rw [ev,hy']
 have h := hr0 p l.length c w (List.getElem?_eq_some_iff.1 hk).1
 rw [Nat.mul_one] at h
 revert h
 generalize Instr.indexAt t (.slice (some p) l.length c) (.int .i64 k)=s
 intro h
 simp [go_sem,h]
theorem Wb {i : Nat} {o : Oper} {x : Operand} {t : TypeId} {s : ByteArray} (ho : os[i]? = some o) (hp : pl[i]? = some (.pure (Jus (.string s)))) (hw : JM w0 bx a0 wr os pl o true) (hop : o.op=.load t x)
  (hx : Opn w0 bx a0 wr os pl i o x (CiT w0 s)) (hr0 : ∀ (a : Addr) (r : List Value) (w : World),r.length=1→(∀ (j : Nat) u,r[j]? = some u→w.cell? (a.add j)=some u)→(Instr.loadAt t (.pointer (some a))).run P w=.ok (elV false r) w) : AStep P Q os a0 (RInv w0 bx a0 wr os pl) i o := Zg ho hp hw fun d τ w hr hd hn => by
 obtain ⟨p,ev,h1,h2⟩ := hx d τ w hr hd hn
 refine ⟨_,w,?_,Below.refl _ _,rfl⟩
 unfold execOp
 rw [hop]
 show (do pure (Next.value (← Instr.loadAt t ((Qi a0 τ 0 os).eval x))) : Sem Next).run P w=_
 rw [ev]
 have h := hr0 p [.string s] w rfl fun j u hj => by
  match j,hj with
  | 0,hj =>
   have e : Value.string s=u := by simpa using hj
   rw [← e]
   exact (hr.bel.cell (p := p) h1).trans h2
 revert h
 generalize Instr.loadAt t (.pointer (some p))=s
 intro h
 have h' : s.run P w=.ok _ w := h
 simp [go_sem,h']
 rfl
end
theorem AS.restart {w0 : World} {n : Nat} {tm : List (Nat × Fact)} {a : Act} {w : World} (h : AS w0 n tm [] a w) : AS w n tm [] a w := ⟨Below.refl _ _,h.siz,h.nod,h.tmp,fun k G t Fs hk => by simp at hk,List.nodup_nil⟩
def aI (q : Rat) (k : Nat) : Rat := yI ((cf q.num q.den).take (k+1))
theorem Sh {q : Rat} (hl2 : ∀ z ∈ cf q.num q.den,z.natAbs < 2 ^ 245) (hl1 : (cf q.num q.den).length≤490) {k : Nat} (hk : k < (cf q.num q.den).length) : QS 241084 (aI q k) := by
 have h := Df hl2 hl1 (k+1)
 have e := OJ (Dg (q.den+1) q.num q.den (by omega)) hk
 unfold aI
 rw [← e]
 exact QS.mono (QS.div h.2.1 h.1) (by decide)
theorem Gk {q : Rat} {k : Nat} (hk : k < (QJ q).length) : (QJ q)[k]? = some (txB (aI q k)) := by
 rw [XJ] at hk
 exact Nn hk
theorem aI_last (q : Rat) : aI q ((QJ q).length - 1)=q := by
 have hne := Sr (a := q.num) q.den_nz
 have hlen : 0 < (cf q.num q.den).length := List.length_pos_iff.2 hne
 unfold aI
 rw [XJ,show (cf q.num q.den).length - 1+1=(cf q.num q.den).length by omega,List.take_length]
 exact Lb (q.den+1) q (by omega)
theorem aI_near {q : Rat} {k : Nat} (hk : k+1 < (QJ q).length) : Yf (q - aI q k)≤mkRat 1 ((aI q k).den*(aI q (k+1)).den) := by
 rw [XJ] at hk
 have ht := Dg (q.den+1) q.num q.den (by omega)
 have e1 := OJ ht (i := k) (by omega)
 have e2 := OJ ht (i := k+1) hk
 have d1 := Bn ht (i := k) (by omega)
 have d2 := Bn ht (i := k+1) hk
 have p1 := (WD ht (k := k) (by omega)).1
 have p2 : 1≤(Zc (cf q.num q.den) (k+2)).1 := (WD ht (k := k+1) hk).1
 have hf := Lw ht hk
 rw [Lb (q.den+1) q (by omega),e1] at hf
 rw [e1] at d1
 rw [e2] at d2
 have em : mkRat 1 ((aI q k).den*(aI q (k+1)).den)=1 / (hB1 (cf q.num q.den) (k+1)*hB1 (cf q.num q.den) (k+2)) := by
  unfold aI
  rw [d1,d2,Rat.mkRat_eq_div]
  unfold hB1
  have c1 : ((((Zc (cf q.num q.den) (k+1)).1.toNat : Nat) : Int))=(Zc (cf q.num q.den) (k+1)).1 := Int.toNat_of_nonneg (by omega)
  have c2 : ((((Zc (cf q.num q.den) (k+2)).1.toNat : Nat) : Int))=(Zc (cf q.num q.den) (k+2)).1 := Int.toNat_of_nonneg (by omega)
  rw [← Rat.intCast_mul,← c1,← c2]
  rfl
 rw [em]
 unfold Yf
 split
 ·exact hf.2
 ·exact hf.1
theorem con_TB {x : Rat} {k : Nat} (fx : QS k x) (h : k≤35184372088640) : Con Tryz.prog QZ 17 [Rt x] (Tx (txB x)) := fun w vs hp hall => by
 refine (con_T fx h w vs hp hall).mono ?_
 rintro e w' ⟨hb,v,e1,s,rfl,hs⟩
 refine ⟨hb,_,e1,?_⟩
 show Value.string s=.string (txB x)
 congr 1
 unfold txB
 rw [← hs]
theorem MC {x : Rat} {k : Nat} (f : QS k x) (hk : 2*k+4≤4294967280) : Con Tryz.prog QZ 7 [Tx (txB x)] (Rt x) := fun w vs hp hall => by
 obtain ⟨v0,rfl,h1⟩ := Xu hall
 exact con_OfT f hk w [v0] hp ⟨⟨txB x,h1,by simp [txB]⟩,trivial⟩
theorem AA {s : ByteArray} {x : Rat} (hs : s.size≤4294967280) (hx : Cx.rd s.data.toList=x) : Con Tryz.prog QZ 7 [Tx s] (Rt x) := hx ▸ con_Of hs
def Np : Fact := ⟨fun v _ => ∃ c : Int,v=.int .i64 c∧c≤0,fun _ h => h⟩
theorem NW {x y : Rat} {k l : Nat} (hxy : x≤y) (fx : QS k x) (fy : QS l y) (h : k+l+1≤35184372088640) : Con Tryz.prog QZ 23 [Rt x,Rt y] Np := fun w vs hp hall => by
 obtain ⟨v0,v1,rfl,⟨gx,rfl,hx⟩,gy,rfl,hy⟩ := Yi hall
 refine (DE hx hy fx fy h).mono ?_
 rintro _ w' ⟨hb,c,rfl,h1,h2⟩
 refine ⟨hb,_,rfl,c,rfl,?_⟩
 by_cases e : x=y
 ·have := h2.2 e
  omega
 ·have h3 : x < y := Rat.lt_of_le_of_ne hxy e
  have := h1.2 ((Rat.lt_iff x y).1 h3)
  omega
theorem CW {c : Int} (h : c≤0) (T : TypeId) (x y : Operand) (w : World) : (do eqGuard .gtr T x y (.int .i64 c) (.int .i64 0); binOp .gtr T (.int .i64 c) (.int .i64 0) : Sem Value).run Tryz.prog w=.ok (.bool false) w := UT T x y c 0 false (decide_eq_false (by omega)) w
theorem qs_abs {x : Rat} {k : Nat} (h : QS k x) : QS k (Yf x) := ⟨by rw [Kr,Int.natAbs_natCast]; exact h.num,by rw [Ch]; exact h.den⟩
theorem qs_mk {a b k l : Nat} (ha : a < 2 ^ k) (hb : b < 2 ^ l) : QS (k+l+1) (mkRat 1 (a*b)) := by
 have h : a*b < 2 ^ (k+l) := by
  rw [Nat.pow_add]
  exact Nat.mul_lt_mul'' ha hb
 have h2 : 2 ^ (k+l+1)=2 ^ (k+l)+2 ^ (k+l) := by rw [Nat.pow_succ]; omega
 have h3 := Nat.two_pow_pos (k+l)
 exact QS.mkr (by show 1 < _; omega) (by omega)
end Go.Proofs.YtnhplfjlhdpgoaaGreatDoor
/- EQL -/
namespace Go.Proofs.YtnhplfjlhdpgoaaGreatDoor
open Go Go.RowKit Cx
theorem PP {T : TypeId} {x y : Operand} {a b : ByteArray} (h : a=b) (w : World) : (do eqGuard .neq T x y (.string a) (.string b); binOp .neq T (.string a) (.string b) : Sem Value).run Tryz.prog w=.ok (.bool false) w := by
 subst h
 simp [go_sem]
end Go.Proofs.YtnhplfjlhdpgoaaGreatDoor
