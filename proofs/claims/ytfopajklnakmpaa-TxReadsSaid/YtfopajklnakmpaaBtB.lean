/- What functions of the program come to: own work. -/
import Derived.Test.YtfopajklnakmpaaBtA
namespace Go.Eng
open Go
variable {E : Nat → Option Fn} {X : Orc}
set_option linter.unusedSimpArgs false
set_option linter.unusedVariables false
/-! transactions as an argument -/
structure InQ where
  tx : List Nat
  n : Nat
  l : List Nat
  q : Nat
structure InQ.ok (o : InQ) : Prop where
  lt : o.tx.length = 32
  bt : byt o.tx = true
  n1 : o.n < 4294967296
  bl : byt o.l = true
  q1 : o.q < 4294967296
def InAt (h : H) (o : InQ) (p : List V) : Prop := ∃ a,p = ofI .u8 o.tx ++ [.int .u32 (o.n : Int),.slice a o.l.length none 1,.int .u32 (o.q : Int)] ∧ SrcH h a 1 o.l
def InsH (h : H) (a : Option (Nat × Nat)) (ops : List InQ) : Prop := ∃ parts,Al2 (InAt h) ops parts ∧ (ops = [] ∨ ∃ k md,a = some (k,0) ∧ k < h.next ∧ h.get k = some (.cells parts.flatten md))
structure OutQ where
  v : Int
  l : List Nat
structure OutQ.ok (o : OutQ) : Prop where
  v0 : -9223372036854775808 ≤ o.v
  v1 : o.v < 9223372036854775808
  bl : byt o.l = true
def OutAt (h : H) (o : OutQ) (p : List V) : Prop := ∃ a,p = [.int .i64 o.v,.slice a o.l.length none 1] ∧ SrcH h a 1 o.l
def OutsH (h : H) (a : Option (Nat × Nat)) (ops : List OutQ) : Prop := ∃ parts,Al2 (OutAt h) ops parts ∧ (ops = [] ∨ ∃ k md,a = some (k,0) ∧ k < h.next ∧ h.get k = some (.cells parts.flatten md))
section
variable {Hh : Type} {enc : TypeId × Value → Hh} {P : Program} {W : World} {spare : Nat → Bool} {held : Bool} {base : Nat}
end
end Go.Eng
namespace Go.Eng
open Go
variable {E : Nat → Option Fn} {X : Orc}
set_option linter.unusedSimpArgs false
set_option linter.unusedVariables false
section
variable {Hh : Type} {enc : TypeId × Value → Hh} {P : Program} {W : World} {spare : Nat → Bool} {held : Bool} {base : Nat}
/-- a transaction's cells -/
structure TxQ where
  ver : Nat
  ins : List InQ
  outs : List OutQ
  lock : Nat
structure TxQ.ok (t : TxQ) : Prop where
  v1 : t.ver < 4294967296
  io : ∀ o ∈ t.ins,o.ok
  oo : ∀ o ∈ t.outs,o.ok
  l1 : t.lock < 4294967296
def TxAt (h : H) (t : TxQ) (vs : List V) : Prop := ∃ a b,vs = [.int .u32 (t.ver : Int),.slice a t.ins.length none 35,.slice b t.outs.length none 2,.int .u32 (t.lock : Int)] ∧ InsH h a t.ins ∧ OutsH h b t.outs
end
end Go.Eng
namespace Go.Eng
open Go
variable {E : Nat → Option Fn} {X : Orc}
set_option linter.unusedSimpArgs false
set_option linter.unusedVariables false
/-! a pen,and blocks S that its writing does not touch -/
structure PenS (S : Nat → Prop) (pn : Nat) (w : List Nat) (h : H) : Prop where
  pe : ∃ a,PenH pn w a h ∧ ∀ q o,a = some (q,o) → ¬ S q
  ne : ¬ S pn
  lt : ∀ j,S j → j < h.next
def PsR (S : Nat → Prop) (pn : Nat) (w : List Nat) (h h' : H) : Prop := PenS S pn w h' ∧ h.next ≤ h'.next ∧ ∀ j,S j → h'.get j = h.get j
theorem PenS.kp {S : Nat → Prop} {h h' : H} {pn : Nat} {w : List Nat} (p : PenS S pn w h) (k : Kp h h') : PenS S pn w h' := by
  obtain ⟨⟨a,pe,ge⟩,ne,lt⟩ := p
  exact ⟨⟨a,pe.kp k,ge⟩,ne,fun j hj => by have := lt j hj; have := k.1; omega⟩
theorem PenS.step {S : Nat → Prop} {h h' : H} {pn : Nat} {w' : List Nat} {a a' : Option (Nat × Nat)} (ge : ∀ q o,a = some (q,o) → ¬ S q) (ne : ¬ S pn) (lt : ∀ j,S j → j < h.next) (pe' : PenH pn w' a' h') (f : Fr pn a h a' h') : PsR S pn w' h h' := by
  have k2 := f.nx
  refine ⟨⟨⟨a',pe',fun q o e hS => ?_⟩,ne,fun j hj => by have := lt j hj; omega⟩,k2,fun j hj => f.fr j (lt j hj) (fun e => ne (e ▸ hj)) (fun e => ge _ _ e hj)⟩
  rcases f.ow with e1 | ⟨q',e1,e2⟩
  · rw [e1] at e; exact ge _ _ e hS
  · rw [e1] at e; cases e; have := lt _ hS; omega
theorem PenS.size (e : EnSize E) (x : NoSize X) (M : Nat) (hM : 10 < M) {S : Nat → Prop} {h : H} {pn : Nat} {w : List Nat} (p : PenS S pn w h) (n : Nat) (hn : n < 18446744073709551616) (hw : w.length ≤ 80000000) :
    ∃ h',callX E X (M + 5) (.fn k_octet_Pen_Size) [.ptr (some (pn,0)),.int .u64 (n : Int)] h = some (.int .i64 0,h') ∧ PsR S pn (w ++ sizV n) h h' := by
  obtain ⟨⟨a,pe,ge⟩,ne,lt⟩ := p
  obtain ⟨h',a',r,p',f⟩ := sizev_go e x M pn n hM hn w hw a h pe
  exact ⟨h',r,PenS.step ge ne lt p' f⟩
/-- bytes that lie in S -/
def SrcS (S : Nat → Prop) (h : H) (a : Option (Nat × Nat)) (e : Nat) (l : List Nat) : Prop := l = [] ∨ ∃ bi off vs m,a = some (bi,off) ∧ e = 1 ∧ S bi ∧ bi < h.next ∧ h.get bi = some (.cells vs m) ∧ off + l.length ≤ vs.length ∧ (vs.drop off).take l.length = ofI .u8 l
theorem SrcS.src {S : Nat → Prop} {h : H} {a : Option (Nat × Nat)} {e : Nat} {l : List Nat} (s : SrcS S h a e l) : SrcH h a e l := by
  rcases s with s | ⟨bi,off,vs,m,e1,e2,hk,hb,g,hl,hv⟩
  · exact .inl s
  · exact .inr ⟨bi,off,vs,m,e1,e2,hb,g,hl,hv⟩
theorem SrcS.part {S : Nat → Prop} {h : H} {pn : Nat} {a b : Option (Nat × Nat)} {c : Option Nat} {e : Nat} {l : List Nat} (s : SrcS S h b e l) (ge : ∀ q o,a = some (q,o) → ¬ S q) (ne : ¬ S pn) : PartOk pn a h (b,c,e,l) := by
  refine ⟨s.src,fun hne q o eq => ?_⟩
  rcases s with s | ⟨bi,off,vs,m,e1,e2,hk,_⟩
  · exact absurd s hne
  · simp only at eq
    rw [e1] at eq; cases eq
    exact ⟨fun e => ne (e ▸ hk),fun e => ge _ _ e hk⟩
theorem PenS.bytes (e : EnPen E) (x : NoSize X) (xb : ∀ a h,X (.fn k_octet_Pen_Bytes) a h = none) (xr : ∀ a h,X (.fn k_octet_Pen_Raw) a h = none) (M : Nat) (hM : 10 < M) {S : Nat → Prop} {h : H} {pn : Nat} {w : List Nat} (p : PenS S pn w h) (l : List Nat) (hl : l.length ≤ 15000000) (hw : w.length ≤ 80000000) (b : Option (Nat × Nat)) (c : Option Nat) (ez : Nat) (src : SrcS S h b ez l) :
    ∃ h',callX E X (M + 6) (.fn k_octet_Pen_Bytes) [.ptr (some (pn,0)),.slice b l.length c ez] h = some (.int .i64 0,h') ∧ PsR S pn (w ++ (sizV l.length ++ l)) h h' := by
  obtain ⟨⟨a,pe,ge⟩,ne,lt⟩ := p
  obtain ⟨h',a',r,p',f⟩ := bytesv_go e.si e.by_ e.rw_ x xb xr M pn hM w l hw hl b c ez a h pe (src.part ge ne)
  exact ⟨h',r,PenS.step ge ne lt p' f⟩
theorem SrcS.mono {S S' : Nat → Prop} {h h' : H} {a : Option (Nat × Nat)} {e : Nat} {l : List Nat} (s : SrcS S h a e l) (hn : h.next ≤ h'.next) (k : ∀ j,S j → h'.get j = h.get j) (w : ∀ j,S j → S' j) : SrcS S' h' a e l := by
  rcases s with s | ⟨bi,off,vs,m,e1,e2,hk,hb,g,hl,hv⟩
  · exact .inl s
  · exact .inr ⟨bi,off,vs,m,e1,e2,w _ hk,by omega,by rw [k _ hk,g],hl,hv⟩
theorem SrcH.s {h : H} {a : Option (Nat × Nat)} {e : Nat} {l : List Nat} (s : SrcH h a e l) : SrcS (fun j => j < h.next) h a e l := by
  rcases s with s | ⟨bi,off,vs,m,e1,e2,hb,g,hl,hv⟩
  · exact .inl s
  · exact .inr ⟨bi,off,vs,m,e1,e2,hb,hb,g,hl,hv⟩
/-! rows that can be read,of anything; they lie in S -/
def RowG {α : Type} (S : Nat → Prop) (sz : Nat) (A : (Nat → Prop) → H → α → List V → Prop) (h : H) (ops : List α) (a : Option (Nat × Nat)) (e : Nat) : Prop := ops = [] ∨ ∃ q off vs md,a = some (q,off) ∧ e = sz ∧ S q ∧ q < h.next ∧ h.get q = some (.cells vs md) ∧ off + ops.length * sz ≤ vs.length ∧ ∀ (i : Nat) (o : α),ops[i]? = some o → A S h o ((vs.drop (off + i * sz)).take sz)
theorem RowG.mono {α : Type} {S S' : Nat → Prop} {sz : Nat} {A : (Nat → Prop) → H → α → List V → Prop} {h h' : H} {ops : List α} {a : Option (Nat × Nat)} {e : Nat} (r : RowG S sz A h ops a e) (hn : h.next ≤ h'.next) (k : ∀ j,S j → h'.get j = h.get j) (w : ∀ j,S j → S' j) (am : ∀ o p,A S h o p → A S' h' o p) : RowG S' sz A h' ops a e := by
  rcases r with r | ⟨q,off,vs,md,e1,e2,hs,hq,g,hl,at_⟩
  · exact .inl r
  · exact .inr ⟨q,off,vs,md,e1,e2,w _ hs,by omega,by rw [k _ hs,g],hl,fun i o ho => am _ _ (at_ i o ho)⟩
theorem rowG_of {α : Type} {sz : Nat} {A : (Nat → Prop) → H → α → List V → Prop} {h : H} {ops : List α} {parts : List (List V)} (hA : ∀ o p,A (fun j => j < h.next) h o p → p.length = sz) (al : Al2 (A (fun j => j < h.next) h) ops parts) (a : Option (Nat × Nat)) (t : ops = [] ∨ ∃ k md,a = some (k,0) ∧ k < h.next ∧ h.get k = some (.cells parts.flatten md)) : RowG (fun j => j < h.next) sz A h ops a sz := by
  have pl : ∀ p ∈ parts,p.length = sz := by
    clear t
    induction al with
    | nil => intro p hp; cases hp
    | cons h1 _ ih => intro p hp; rcases List.mem_cons.1 hp with rfl | hp
                      · exact hA _ _ h1
                      · exact ih p hp
  rcases t with t | ⟨k,md,rfl,hk,g⟩
  · exact .inl t
  · refine .inr ⟨k,0,_,md,rfl,rfl,hk,hk,g,by rw [flat_len (k := sz) pl,al.len]; omega,fun i o ho => ?_⟩
    obtain ⟨p,hp,hap⟩ := al.get i o ho
    rw [Nat.zero_add,flat_get pl i _ hp]; exact hap
def inV (o : InQ) (b : Option (Nat × Nat)) (cb : Option Nat) (eb : Nat) : List V := ofI .u8 o.tx ++ [.int .u32 (o.n : Int),.slice b o.l.length cb eb,.int .u32 (o.q : Int)]
def InC (S : Nat → Prop) (h : H) (o : InQ) (p : List V) : Prop := ∃ b cb eb,p = inV o b cb eb ∧ SrcS S h b eb o.l ∧ o.tx.length = 32
def OutC (S : Nat → Prop) (h : H) (o : OutQ) (p : List V) : Prop := ∃ b cb eb,p = [.int .i64 o.v,.slice b o.l.length cb eb] ∧ SrcS S h b eb o.l
theorem InC.mono {S S' : Nat → Prop} {h h' : H} {o : InQ} {p : List V} (r : InC S h o p) (hn : h.next ≤ h'.next) (k : ∀ j,S j → h'.get j = h.get j) (w : ∀ j,S j → S' j) : InC S' h' o p := by
  obtain ⟨b,cb,eb,e,s,l⟩ := r
  exact ⟨b,cb,eb,e,s.mono hn k w,l⟩
theorem OutC.mono {S S' : Nat → Prop} {h h' : H} {o : OutQ} {p : List V} (r : OutC S h o p) (hn : h.next ≤ h'.next) (k : ∀ j,S j → h'.get j = h.get j) (w : ∀ j,S j → S' j) : OutC S' h' o p := by
  obtain ⟨b,cb,eb,e,s⟩ := r
  exact ⟨b,cb,eb,e,s.mono hn k w⟩
theorem InsH.row {h : H} {a : Option (Nat × Nat)} {ops : List InQ} (r : InsH h a ops) (ok : ∀ o ∈ ops,o.ok) : RowG (fun j => j < h.next) 35 InC h ops a 35 := by
  obtain ⟨parts,al,t⟩ := r
  have al2 : Al2 (InC (fun j => j < h.next) h) ops parts := by
    clear t
    induction al with
    | nil => exact .nil
    | cons h1 _ ih =>
      obtain ⟨b,e,s⟩ := h1
      exact .cons ⟨b,none,1,e,s.s,(ok _ (List.mem_cons_self ..)).lt⟩ (ih (fun o ho => ok o (List.mem_cons_of_mem _ ho)))
  exact rowG_of (fun o p h => by
    obtain ⟨b,cb,eb,e,_,l⟩ := h
    rw [e]; unfold inV; rw [List.length_append,ofI_len,l]; rfl) al2 a t
theorem OutsH.row {h : H} {a : Option (Nat × Nat)} {ops : List OutQ} (r : OutsH h a ops) : RowG (fun j => j < h.next) 2 OutC h ops a 2 := by
  obtain ⟨parts,al,t⟩ := r
  have al2 : Al2 (OutC (fun j => j < h.next) h) ops parts := by
    clear t
    induction al with
    | nil => exact .nil
    | cons h1 _ ih =>
      obtain ⟨b,e,s⟩ := h1
      exact .cons ⟨b,none,1,e,s.s⟩ ih
  exact rowG_of (fun o p h => by
    obtain ⟨b,cb,eb,e,_⟩ := h
    rw [e]; rfl) al2 a t
/-- an item's cells,as they are loaded -/
theorem row_at {α : Type} {S : Nat → Prop} {sz : Nat} {A : (Nat → Prop) → H → α → List V → Prop} {h : H} {ops : List α} {a : Option (Nat × Nat)} {e : Nat} (r : RowG S sz A h ops a e) (i : Nat) (o : α) (ho : ops[i]? = some o) : ∃ q off vs md P,a = some (q,off) ∧ e = sz ∧ S q ∧ h.get q = some (.cells vs md) ∧ A S h o P ∧ loadE (some (.cells vs md)) (some sz) (off + i * sz) = some (.agg P) := by
  rcases r with r | ⟨q,off,vs,md,e1,e2,hs,hq,g,hl,at_⟩
  · rw [r] at ho; simp at ho
  · have hi := (List.getElem?_eq_some_iff.1 ho).1
    have hle : (i + 1) * sz ≤ ops.length * sz := Nat.mul_le_mul_right _ hi
    rw [Nat.add_mul,Nat.one_mul] at hle
    refine ⟨q,off,vs,md,_,e1,e2,hs,g,at_ i o ho,?_⟩
    rw [m_loadN,readN_of vs _ _ (by omega)]
/-! an input,taken out of its row -/
theorem inV_len (o : InQ) (b : Option (Nat × Nat)) (cb : Option Nat) (eb : Nat) (l : o.tx.length = 32) : (inV o b cb eb).length = 35 := by
  unfold inV; rw [List.length_append,ofI_len,l]; rfl
theorem inV_n (o : InQ) (b : Option (Nat × Nat)) (cb : Option Nat) (eb : Nat) (l : o.tx.length = 32) : (inV o b cb eb)[32]? = some (.int .u32 (o.n : Int)) ∧ (inV o b cb eb)[33]? = some (.slice b o.l.length cb eb) ∧ (inV o b cb eb)[34]? = some (.int .u32 (o.q : Int)) := by
  unfold inV
  have h : (ofI .u8 o.tx).length = 32 := by rw [ofI_len,l]
  refine ⟨?_,?_,?_⟩ <;> rw [List.getElem?_append_right (by omega),h] <;> rfl
/-- the bytes of an input,of an output,of a transaction -/
def inB (o : InQ) : List Nat := o.tx ++ leN 4 o.n ++ (sizV o.l.length ++ o.l) ++ leN 4 o.q
def outB (o : OutQ) : List Nat := leN 8 (o.v % 18446744073709551616).toNat ++ (sizV o.l.length ++ o.l)
def txB (t : TxQ) : List Nat := leN 4 t.ver ++ sizV t.ins.length ++ (t.ins.map inB).flatten ++ sizV t.outs.length ++ (t.outs.map outB).flatten ++ leN 4 t.lock
end Go.Eng
namespace Go.Eng
open Go
variable {E : Nat → Option Fn} {X : Orc}
set_option linter.unusedSimpArgs false
set_option linter.unusedVariables false
end Go.Eng
namespace Go.Eng
open Go
variable {E : Nat → Option Fn} {X : Orc}
set_option linter.unusedSimpArgs false
set_option linter.unusedVariables false
end Go.Eng
namespace Go.Eng
open Go
variable {E : Nat → Option Fn} {X : Orc}
set_option linter.unusedSimpArgs false
set_option linter.unusedVariables false
theorem inB_len (o : InQ) (ok : o.ok) (hl : o.l.length ≤ 2100) : (inB o).length ≤ 2200 := by
  unfold inB
  have := sizV_le o.l.length
  have := ok.lt
  simp only [List.length_append,leN_len]; omega
theorem outB_len (o : OutQ) (hl : o.l.length ≤ 2100) : (outB o).length ≤ 2200 := by
  unfold outB
  have := sizV_le o.l.length
  simp only [List.length_append,leN_len]; omega
theorem flat_le {α : Type} (f : α → List Nat) (k : Nat) (l : List α) (h : ∀ o ∈ l,(f o).length ≤ k) : (l.map f).flatten.length ≤ k * l.length := by
  induction l with
  | nil => exact Nat.zero_le _
  | cons a r ih =>
    have h1 := h a (List.mem_cons_self ..)
    have h2 := ih (fun o ho => h o (List.mem_cons_of_mem _ ho))
    rw [List.map_cons,List.flatten_cons,List.length_append,List.length_cons,Nat.mul_succ]; omega
structure NoTe (X : Orc) : Prop where
  si : NoSize X
  fi : NoFix X
  by_ : ∀ a h,X (.fn k_octet_Pen_Bytes) a h = none
  rw_ : ∀ a h,X (.fn k_octet_Pen_Raw) a h = none
  al : ∀ a h,X (.fn k_octet_Pen_All) a h = none
  en : ∀ a h,X (.fn k_tx_Encode) a h = none
end Go.Eng
