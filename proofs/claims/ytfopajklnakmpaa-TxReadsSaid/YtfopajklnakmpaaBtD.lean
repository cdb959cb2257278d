/- What functions of the program come to: own work. -/
import Derived.Test.YtfopajklnakmpaaBtC
namespace Go.Eng
open Go
variable {E : Nat → Option Fn} {X : Orc}
set_option linter.unusedSimpArgs false
set_option linter.unusedVariables false
/-! cells of one item: so many,plain -/
def Fit (sz : Nat) (P : List V) : Prop := P.length = sz ∧ P.all plainV = true
theorem fit_st {sz : Nat} {P : List V} (f : Fit sz P) (h : H) (i : Nat) : storeV h sz (.ptr (some (i,0))) (.agg P) = storeE (h.get i) h i 0 P := m_storeA h sz i 0 _ (by rw [f.1,f.2,Nat.beq_refl]; rfl)
theorem fit_put {sz : Nat} {P : List V} (f : Fit sz P) (h : H) (i : Nat) (vs : List V) (lv : vs.length = sz) : storeE (some (.cells vs .rw)) h i 0 P = some (h.put i (.cells P .rw)) := by
  rw [m_storeE _ _ _ _ _ (by rw [f.1,lv]; omega),w_zero,List.drop_eq_nil_of_le (by rw [f.1,lv]; omega),List.append_nil]
theorem fit_ld {sz : Nat} {P : List V} (f : Fit sz P) (m : Md) : loadE (some (.cells P m)) (some sz) 0 = some (.agg P) := by
  rw [m_loadN,readN_of _ _ _ (by rw [f.1]; omega),List.drop_zero,List.take_of_length_le (by rw [f.1]; omega)]
theorem InC.fit {S : Nat → Prop} {h : H} {o : InQ} {p : List V} (r : InC S h o p) : Fit 35 p := by
  obtain ⟨b,cb,eb,rfl,_,l⟩ := r
  refine ⟨inV_len o b cb eb l,?_⟩
  unfold inV; rw [List.all_append,plain_ofI]; rfl
theorem OutC.fit {S : Nat → Prop} {h : H} {o : OutQ} {p : List V} (r : OutC S h o p) : Fit 2 p := by
  obtain ⟨b,cb,eb,rfl,_⟩ := r
  exact ⟨rfl,rfl⟩
instance : DecidableEq InQ := fun a b => decidable_of_iff (a.tx = b.tx ∧ a.n = b.n ∧ a.l = b.l ∧ a.q = b.q) (by cases a; cases b; simp)
instance : DecidableEq OutQ := fun a b => decidable_of_iff (a.v = b.v ∧ a.l = b.l) (by cases a; cases b; simp)
end Go.Eng
namespace Go.Eng
open Go
variable {E : Nat → Option Fn} {X : Orc}
set_option linter.unusedSimpArgs false
set_option linter.unusedVariables false
end Go.Eng
namespace Go.Eng
open Go
variable {E : Nat → Option Fn} {X : Orc}
set_option linter.unusedSimpArgs false
set_option linter.unusedVariables false
def opV (tx : List Nat) (n : Nat) : V := .agg (ofI .u8 tx ++ [.int .u32 (n : Int)])
structure NoTs (X : Orc) : Prop where
  sa : ∀ a h,X (.fn k_tx_Same) a h = none
  si : ∀ a h,X (.fn k_tx_sameIn) a h = none
  so : ∀ a h,X (.fn k_tx_sameOut) a h = none
  be : ∀ a h,X (.fn k_bytes_Equal) a h = none
  ei : ∀ a h,X (.fn k_slices_EqualFunc_api_In_api_In_api_In_api_In) a h = none
  eo : ∀ a h,X (.fn k_slices_EqualFunc_api_Out_api_Out_api_Out_api_Out) a h = none
def txV (t : TxQ) (a b : Option (Nat × Nat)) (ca cb : Option Nat) (ea eb : Nat) : List V := [.int .u32 (t.ver : Int),.slice a t.ins.length ca ea,.slice b t.outs.length cb eb,.int .u32 (t.lock : Int)]
instance : DecidableEq TxQ := fun a b => decidable_of_iff (a.ver = b.ver ∧ a.lock = b.lock ∧ a.ins = b.ins ∧ a.outs = b.outs) (by cases a; cases b; simp; intro _; constructor <;> intro h <;> simp_all)
/-- a transaction's cells,and what they point to -/
def TxC (S : Nat → Prop) (h : H) (t : TxQ) (p : List V) : Prop := ∃ a b ca cb ea eb,p = txV t a b ca cb ea eb ∧ RowG S 35 InC h t.ins a ea ∧ RowG S 2 OutC h t.outs b eb
theorem TxC.mono {S S' : Nat → Prop} {h h' : H} {t : TxQ} {p : List V} (r : TxC S h t p) (hn : h.next ≤ h'.next) (k : ∀ j,S j → h'.get j = h.get j) (w : ∀ j,S j → S' j) : TxC S' h' t p := by
  obtain ⟨a,b,ca,cb,ea,eb,e,ra,rb⟩ := r
  exact ⟨a,b,ca,cb,ea,eb,e,ra.mono hn k w (fun o p r => r.mono hn k w),rb.mono hn k w (fun o p r => r.mono hn k w)⟩
theorem TxC.kp {h h' : H} {t : TxQ} {p : List V} (r : TxC (fun j => j < h.next) h t p) (k : Kp h h') : TxC (fun j => j < h'.next) h' t p :=
  r.mono k.1 k.2 (fun j hj => by have := k.1; have : j < h.next := hj; show j < h'.next; omega)
theorem TxC.fit {S : Nat → Prop} {h : H} {t : TxQ} {p : List V} (r : TxC S h t p) : Fit 4 p := by
  obtain ⟨a,b,ca,cb,ea,eb,rfl,_⟩ := r
  exact ⟨rfl,rfl⟩
end Go.Eng
namespace Go.Eng
open Go
variable {E : Nat → Option Fn} {X : Orc}
set_option linter.unusedSimpArgs false
set_option linter.unusedVariables false
/-! what an item asks of its relation -/
structure ItA {α : Type} (sz : Nat) (A : (Nat → Prop) → H → α → List V → Prop) : Prop where
  mono : ∀ {S S' : Nat → Prop} {h h' : H} {o : α} {p : List V},A S h o p → h.next ≤ h'.next → (∀ j,S j → j < h.next → h'.get j = h.get j) → (∀ j,S j → j < h.next → S' j) → A S' h' o p
  fit : ∀ {S : Nat → Prop} {h : H} {o : α} {p : List V},A S h o p → Fit sz p
theorem SrcS.mono2 {S S' : Nat → Prop} {h h' : H} {a : Option (Nat × Nat)} {e : Nat} {l : List Nat} (s : SrcS S h a e l) (hn : h.next ≤ h'.next) (k : ∀ j,S j → j < h.next → h'.get j = h.get j) (w : ∀ j,S j → j < h.next → S' j) : SrcS S' h' a e l := by
  rcases s with s | ⟨bi,off,vs,m,e1,e2,hk,hb,g,hl,hv⟩
  · exact .inl s
  · exact .inr ⟨bi,off,vs,m,e1,e2,w _ hk hb,by omega,by rw [k _ hk hb,g],hl,hv⟩
theorem RowG.mono2 {α : Type} {S S' : Nat → Prop} {sz : Nat} {A : (Nat → Prop) → H → α → List V → Prop} (it : ItA sz A) {h h' : H} {ops : List α} {a : Option (Nat × Nat)} {e : Nat} (r : RowG S sz A h ops a e) (hn : h.next ≤ h'.next) (k : ∀ j,S j → j < h.next → h'.get j = h.get j) (w : ∀ j,S j → j < h.next → S' j) : RowG S' sz A h' ops a e := by
  rcases r with r | ⟨q,off,vs,md,e1,e2,hs,hq,g,hl,at_⟩
  · exact .inl r
  · exact .inr ⟨q,off,vs,md,e1,e2,w _ hs hq,by omega,by rw [k _ hs hq,g],hl,fun i o ho => it.mono (at_ i o ho) hn k w⟩
theorem itIn : ItA 35 InC := ⟨fun r hn k w => by
  obtain ⟨b,cb,eb,e,s,l⟩ := r
  exact ⟨b,cb,eb,e,s.mono2 hn k w,l⟩,fun r => r.fit⟩
theorem itOut : ItA 2 OutC := ⟨fun r hn k w => by
  obtain ⟨b,cb,eb,e,s⟩ := r
  exact ⟨b,cb,eb,e,s.mono2 hn k w⟩,fun r => r.fit⟩
theorem itTx : ItA 4 TxC := ⟨fun r hn k w => by
  obtain ⟨a,b,ca,cb,ea,eb,e,ra,rb⟩ := r
  exact ⟨a,b,ca,cb,ea,eb,e,ra.mono2 itIn hn k w,rb.mono2 itOut hn k w⟩,fun r => r.fit⟩
/-! a row that grows: what its items point to lies in K,and not in the row -/
def RowF {α : Type} (K : Nat → Prop) (lo sz : Nat) (A : (Nat → Prop) → H → α → List V → Prop) (h : H) (ops : List α) (a : Option (Nat × Nat)) (c : Option Nat) (e : Nat) : Prop := (ops = [] ∧ a = none ∧ c = some 0 ∧ e = 0) ∨ (0 < ops.length ∧ ∃ q md parts,a = some (q,0) ∧ c = none ∧ e = sz ∧ h.get q = some (.cells parts.flatten md) ∧ Al2 (A (fun j => K j ∧ j ≠ q) h) ops parts ∧ isRo md = false ∧ lo ≤ q ∧ q < h.next)
theorem RowF.nil {α : Type} (K : Nat → Prop) (lo sz : Nat) (A : (Nat → Prop) → H → α → List V → Prop) (h : H) : RowF K lo sz A h [] none (some 0) 0 := .inl ⟨rfl,rfl,rfl,rfl⟩
theorem RowF.mono {α : Type} {K : Nat → Prop} {lo sz : Nat} {A : (Nat → Prop) → H → α → List V → Prop} (it : ItA sz A) {h h' : H} {ops : List α} {a : Option (Nat × Nat)} {c : Option Nat} {e : Nat} (r : RowF K lo sz A h ops a c e) (hn : h.next ≤ h'.next) (k : ∀ i,K i → i < h.next → h'.get i = h.get i) (kl : ∀ q o,a = some (q,o) → h'.get q = h.get q) : RowF K lo sz A h' ops a c e := by
  rcases r with r | ⟨h1,q,md,ps,e1,e2,e3,g,al,hm,hl,hq⟩
  · exact .inl r
  · exact .inr ⟨h1,q,md,ps,e1,e2,e3,by rw [kl _ _ e1,g],al.imp (fun _ _ x => it.mono x hn (fun i hk hi => k i hk.1 hi) (fun _ h _ => h)),hm,hl,by omega⟩
theorem RowF.lt {α : Type} {K : Nat → Prop} {lo sz : Nat} {A : (Nat → Prop) → H → α → List V → Prop} {h : H} {ops : List α} {a : Option (Nat × Nat)} {c : Option Nat} {e : Nat} (r : RowF K lo sz A h ops a c e) {q z : Nat} (ea : a = some (q,z)) : lo ≤ q ∧ q < h.next ∧ z = 0 := by
  rcases r with ⟨_,h1,_⟩ | ⟨_,q',_,_,h1,_,_,_,_,_,hl,hq⟩
  · rw [h1] at ea; cases ea
  · rw [h1] at ea; cases ea; exact ⟨hl,hq,rfl⟩
theorem it_len {α : Type} {sz : Nat} {A : (Nat → Prop) → H → α → List V → Prop} (it : ItA sz A) {S : Nat → Prop} {h : H} {ops : List α} {parts : List (List V)} (al : Al2 (A S h) ops parts) : ∀ p ∈ parts,p.length = sz := by
  induction al with
  | nil => intro p hp; cases hp
  | cons h1 _ ih => intro p hp; rcases List.mem_cons.1 hp with rfl | hp
                    · exact (it.fit h1).1
                    · exact ih p hp
theorem RowF.row {α : Type} {K : Nat → Prop} {lo sz : Nat} {A : (Nat → Prop) → H → α → List V → Prop} (it : ItA sz A) {h : H} {ops : List α} {a : Option (Nat × Nat)} {c : Option Nat} {e : Nat} (r : RowF K lo sz A h ops a c e) : RowG (fun j => K j ∨ lo ≤ j) sz A h ops a e := by
  rcases r with r | ⟨h1,q,md,ps,e1,e2,e3,g,al,hm,hl,hq⟩
  · exact .inl r.1
  · refine .inr ⟨q,0,_,md,e1,e3,.inr hl,hq,g,by rw [flat_len (k := sz) (it_len it al),al.len]; omega,fun i o ho => ?_⟩
    obtain ⟨p,hp,hap⟩ := al.get i o ho
    rw [Nat.zero_add,flat_get (it_len it al) i _ hp]
    exact it.mono hap (Nat.le_refl _) (fun _ _ _ => rfl) (fun j hj _ => .inl hj.1)
theorem Al2.snoc' {α β : Type} {p : α → β → Prop} {as : List α} {bs : List β} (h : Al2 p as bs) {a : α} {b : β} (x : p a b) : Al2 p (as ++ [a]) (bs ++ [b]) := by
  induction h with
  | nil => exact .cons x .nil
  | cons h1 _ ih => exact .cons h1 ih
theorem rowF_app {α : Type} {sz : Nat} {A : (Nat → Prop) → H → α → List V → Prop} (it : ItA sz A) (hsz : 0 < sz) (bs : Nat) (hbs : bs ≤ 100000) (K : Nat → Prop) (lo : Nat) (h : H) (hlo : lo ≤ h.next) (ops : List α) (hd : ops.length ≤ 100000000) (a : Option (Nat × Nat)) (c : Option Nat) (e : Nat) (r : RowF K lo sz A h ops a c e) (o : α) (P : List V) (hs : A (fun j => K j ∧ a ≠ some (j,0)) h o P) :
    ∃ h',appendC h sz bs (.slice a ops.length c e) (some (1,P)) = some (.slice (some (h.next,0)) (ops.length + 1) none sz,h') ∧ RowF K lo sz A h' (ops ++ [o]) (some (h.next,0)) none sz ∧ h'.next = h.next + 1 ∧ ∀ i,i < h.next → a ≠ some (i,0) → h'.get i = h.get i := by
  have lP := (it.fit hs).1
  have pl := (it.fit hs).2
  rcases r with ⟨rfl,rfl,rfl,rfl⟩ | ⟨h1,q,md,ps,rfl,rfl,e3,g,al,hm,hl,hq⟩
  · have k : Kp h (h.new (.cells P .rw)) := Kp.new _ _
    refine ⟨h.new (.cells P .rw),?_,.inr ⟨by simp,h.next,.rw,[P],rfl,rfl,rfl,by rw [h_new_same]; simp,.cons (it.mono hs k.1 (fun i _ hi => k.2 i hi) (fun i hk hi => ⟨hk.1,by omega⟩)) .nil,rfl,hlo,Nat.lt_succ_self _⟩,rfl,fun i hi _ => h_new_ne _ _ (by omega)⟩
    unfold appendC
    simp only [List.length_nil]
    have r : (roomy (0 + 1) bs && (Nat.beq 0 sz || (none : Option (Nat × Nat)).isNone) && P.all plainV) = true := by
      rw [pl]; have : roomy (0 + 1) bs = true := by simp [roomy]; omega
      rw [this]; simp
    rw [r]
    rfl
  · have e3' := e3.symm
    subst e3'
    have lp : ps.flatten.length = ops.length * sz := by rw [flat_len (k := sz) (it_len it al),al.len]
    have nx : ((h.del q).new (.cells (ps.flatten ++ P) .sh)).next = h.next + 1 := by simp only [h_next_new,h_next_del]
    have fr : ∀ i,i < h.next → i ≠ q → ((h.del q).new (.cells (ps.flatten ++ P) .sh)).get i = h.get i := fun i hi hne => by
      rw [h_new_ne _ _ (by rw [h_next_del]; omega),h_del_ne _ (fun e => hne e.symm)]
    have al2 : Al2 (A (fun j => K j ∧ j ≠ h.next) ((h.del q).new (.cells (ps.flatten ++ P) .sh))) (ops ++ [o]) (ps ++ [P]) := by
      have one : A (fun j => K j ∧ j ≠ h.next) ((h.del q).new (.cells (ps.flatten ++ P) .sh)) o P := it.mono hs (by rw [nx]; omega) (fun i hk hi => fr i hi (fun e => hk.2 (by rw [e]))) (fun i hk hi => ⟨hk.1,by omega⟩)
      have al3 : Al2 (A (fun j => K j ∧ j ≠ h.next) ((h.del q).new (.cells (ps.flatten ++ P) .sh))) ops ps := al.imp (fun o' p' y => it.mono y (by rw [nx]; omega) (fun i hk hi => fr i hi hk.2) (fun i hk hi => ⟨hk.1,by omega⟩))
      exact al3.snoc' one
    refine ⟨(h.del q).new (.cells (ps.flatten ++ P) .sh),?_,.inr ⟨by simp,h.next,.sh,ps ++ [P],rfl,rfl,rfl,by rw [h_new_same' _ _ (by rw [h_next_del])]; simp,al2,rfl,hlo,by rw [nx]; omega⟩,nx,fun i hi hne => fr i hi (fun e => hne (by rw [e]))⟩
    unfold appendC
    simp only
    have r : (roomy (ops.length + 1) bs && (Nat.beq sz sz || (some (q,0) : Option (Nat × Nat)).isNone) && P.all plainV) = true := by
      rw [pl,Nat.beq_refl]
      have : roomy (ops.length + 1) bs = true := by
        simp [roomy]
        have : (ops.length + 1) * bs ≤ 100000001 * 100000 := Nat.mul_le_mul (by omega) hbs
        omega
      rw [this]; rfl
    have f : fullC none (ops.length + 1) = false := rfl
    have rd := readN_of ps.flatten 0 (ops.length * sz) (by omega)
    rw [List.drop_zero,List.take_of_length_le (by omega)] at rd
    rw [r]
    simp only [_root_.cond_true,g,f]
    cases md with
    | ro => cases hm
    | rw => simp only [rd]
    | sh => simp only [rd]
theorem src_1 (h : H) {sz : Nat} {P : List V} (f : Fit sz P) (hsz : 0 < sz) : srcCells (h.new (.cells P .rw)) sz (.slice (some (h.next,0)) 1 (some 1) sz) = some (1,P) := by
  have rd := readN_of P 0 ((0 + 1) * sz) (by rw [f.1]; omega)
  rw [List.drop_zero,List.take_of_length_le (by rw [f.1]; omega)] at rd
  rw [m_src,h_new_same]
  unfold srcE
  simp only [rd]
end Go.Eng
namespace Go.Eng
open Go
variable {E : Nat → Option Fn} {X : Orc}
set_option linter.unusedSimpArgs false
set_option linter.unusedVariables false
/-! the reader: its place,and whether it has failed -/
structure RdH (ep rp : Nat) (l : List Nat) (a : Option (Nat × Nat)) (s : Nat × Bool) (h : H) : Prop where
  y : EyeH ep l s.1 a h
  g : h.get rp = some (.cells [.ptr (some (ep,0)),.bool s.2] .rw)
  lt : rp < h.next
  ne : rp ≠ ep
  na : ∀ o,a ≠ some (rp,o)
def Kr (ep rp : Nat) (h h' : H) : Prop := h.next ≤ h'.next ∧ ∀ j,j < h.next → j ≠ ep → j ≠ rp → h'.get j = h.get j
theorem Kr.refl (ep rp : Nat) (h : H) : Kr ep rp h h := ⟨Nat.le_refl _,fun _ _ _ _ => rfl⟩
theorem Kr.trans {ep rp : Nat} {h h' h'' : H} (a : Kr ep rp h h') (b : Kr ep rp h' h'') : Kr ep rp h h'' := ⟨Nat.le_trans a.1 b.1,fun j hj h1 h2 => by rw [b.2 j (Nat.lt_of_lt_of_le hj a.1) h1 h2,a.2 j hj h1 h2]⟩
theorem Kp.kr {ep rp : Nat} {h h' : H} (k : Kp h h') : Kr ep rp h h' := ⟨k.1,fun j hj _ _ => k.2 j hj⟩
theorem RdH.kp {ep rp : Nat} {l : List Nat} {a : Option (Nat × Nat)} {s : Nat × Bool} {h h' : H} (r : RdH ep rp l a s h) (k : Kp h h') : RdH ep rp l a s h' := ⟨r.y.kp k,by rw [k.2 _ r.lt,r.g],Nat.lt_of_lt_of_le r.lt k.1,r.ne,r.na⟩
/-- the eye's own work -/
theorem RdH.eye {ep rp : Nat} {l : List Nat} {a : Option (Nat × Nat)} {s : Nat × Bool} {h h' : H} (r : RdH ep rp l a s h) (k : Kq ep h h') (n : Nat) (y : EyeH ep l n a h') : RdH ep rp l a (n,s.2) h' ∧ Kr ep rp h h' :=
  ⟨⟨y,by rw [k.2 _ r.lt r.ne,r.g],Nat.lt_of_lt_of_le r.lt k.1,r.ne,r.na⟩,k.1,fun j hj h1 _ => k.2 j hj h1⟩
structure EnRr (E : Nat → Option Fn) : Prop where
  ey : EnEye E
  lo : E k_octet_Look = some f_octet_Look
  no : E k_tx_reader_note = some f_tx_reader_note
  wo : E k_tx_reader_word = some f_tx_reader_word
  ha : E k_tx_reader_hash = some f_tx_reader_hash
  sc : E k_tx_reader_script = some f_tx_reader_script
  in_ : E k_tx_reader_in = some f_tx_reader_in
  ou : E k_tx_reader_out = some f_tx_reader_out
  li : E k_tx_list_api_In = some f_tx_list_api_In
  lt : E k_tx_list_api_Out = some f_tx_list_api_Out
  rd : E k_tx_read = some f_tx_read
  fi : E k_tx_First = some f_tx_First
  de : E k_tx_Decode = some f_tx_Decode
structure NoRr (X : Orc) : Prop where
  ey : NoEye X
  lo : ∀ a h,X (.fn k_octet_Look) a h = none
  no : ∀ a h,X (.fn k_tx_reader_note) a h = none
  wo : ∀ a h,X (.fn k_tx_reader_word) a h = none
  ha : ∀ a h,X (.fn k_tx_reader_hash) a h = none
  sc : ∀ a h,X (.fn k_tx_reader_script) a h = none
  in_ : ∀ a h,X (.fn k_tx_reader_in) a h = none
  ou : ∀ a h,X (.fn k_tx_reader_out) a h = none
  li : ∀ a h,X (.fn k_tx_list_api_In) a h = none
  lt : ∀ a h,X (.fn k_tx_list_api_Out) a h = none
  rd : ∀ a h,X (.fn k_tx_read) a h = none
  fi : ∀ a h,X (.fn k_tx_First) a h = none
  de : ∀ a h,X (.fn k_tx_Decode) a h = none
theorem note_go (e : EnRr E) (x : NoRr X) (N : Nat) (er : Nat) (ep rp : Nat) (l : List Nat) (a : Option (Nat × Nat)) (s : Nat × Bool) (h : H) (r : RdH ep rp l a s h) :
    ∃ h',callX E X (N + 1) (.fn k_tx_reader_note) [.ptr (some (rp,0)),.int .i64 (er : Int)] h = some (.tup [],h') ∧ RdH ep rp l a (s.1,s.2 || decide (er ≠ 0)) h' ∧ Kr ep rp h h' ∧ h'.next = h.next := by
  rw [x_cfn e.no _ _ (Nat.le_of_ble_eq_true rfl) (x.no _ _)]
  have g := r.g
  by_cases he : er = 0
  · subst he
    have z : decide ((((0 : Nat) : Int)) = 0) = true := rfl
    refine ⟨h,?_,?_,Kr.refl _ _ _,rfl⟩
    · simp (config := {maxSteps := 2000000}) (disch := first | omega | (simp only [List.length_cons,List.length_nil,List.length_append,List.length_drop]; omega)) only [Bool.not_true,Nat.zero_add,Int.cast_ofNat_Int,s_res0,↓s_skip,↓s_ops,↓s_seq,↓s_cond,↓s_nil,↓s_op,↓s_bindS,s_bindS,↓s_bindE,s_bindE,s_norm,↓s_condV,s_condV,↓s_getp,↓s_get,↓s_con,↓s_list0,↓s_list1,↓s_mov,↓s_bin,s_same,b_neq,s_end',s_res0,↓iteN_true,↓iteN_false,iteN_true,iteN_false,Nat.zero_add,decide_true,Bool.not_true]
      try rfl
    · obtain ⟨n,b⟩ := s
      have : (b || decide ((0 : Nat) ≠ 0)) = b := by simp
      rw [this]; exact r
  · have z : decide (((er : Int)) = 0) = false := decide_eq_false (by omega)
    refine ⟨h.put rp (.cells [.ptr (some (ep,0)),.bool true] .rw),?_,?_,⟨Nat.le_refl _,fun j hj h1 h2 => h_put_ne _ _ (fun e => h2 e.symm)⟩,rfl⟩
    · simp (config := {maxSteps := 2000000}) (disch := first | omega | (simp only [List.length_cons,List.length_nil,List.length_append,List.length_drop]; omega)) only [z,Bool.not_false,g,m_storeB,↓s_nilchk,x_nilchk,↓x_fieldAddr,x_fieldV,↓s_nilchk,x_nilchk,Nat.zero_add,↓m_st,m_stE,m_storeE,w_zero,w_succ,List.length_cons,List.length_nil,List.drop_succ_cons,List.drop_nil,s_res0,↓s_ops,↓s_seq,↓s_cond,↓s_nil,↓s_op,↓s_bindS,s_bindS,↓s_bindE,s_bindE,s_norm,↓s_condV,s_condV,↓s_getp,↓s_get,↓s_con,↓s_list0,↓s_list1,↓s_mov,↓s_bin,s_same,b_neq,s_end',s_res0,↓iteN_true,↓iteN_false,iteN_true,iteN_false,Nat.zero_add,List.append_nil,Nat.reduceEqDiff,decide_true,decide_false,Bool.not_false]
      try rfl
    · have e1 : (s.2 || decide (er ≠ 0)) = true := by rw [decide_eq_true he,Bool.or_true]
      rw [e1]
      exact ⟨r.y.mono (Nat.le_refl _) (h_put_ne _ _ r.ne) (fun q hq ea => h_put_ne _ _ (fun e' => r.na 0 (by rw [ea,e']))),h_put_same _ _ _,r.lt,r.ne,r.na⟩
def rdW (l : List Nat) (s : Nat × Bool) : Nat × Nat × Bool := ((eyFix 4 l s.1).1,(eyFix 4 l s.1).2.2,s.2 || decide ((eyFix 4 l s.1).2.1 ≠ 0))
theorem eyFix_lt (k : Nat) (hk : k = 4 ∨ k = 8) (l : List Nat) (bl : byt l = true) (n : Nat) : (eyFix (k : Int) l n).1 < 256 ^ k := by
  have hz : sizedI (k : Int) = true := by rcases hk with rfl | rfl <;> rfl
  unfold eyFix
  rw [if_pos hz]
  split
  · have := numV_lt ((l.drop n).take k) (byt_take (byt_drop bl n) k)
    rw [Int.toNat_natCast]
    refine Nat.lt_of_lt_of_le this (Nat.pow_le_pow_right (by omega) ?_)
    rw [List.length_take]; omega
  · exact Nat.pow_pos (by omega)
theorem word_go (e : EnRr E) (x : NoRr X) (N : Nat) (ep rp : Nat) (l : List Nat) (bl : byt l = true) (hl : l.length ≤ 100000000) (a : Option (Nat × Nat)) (s : Nat × Bool) (h : H) (r : RdH ep rp l a s h) :
    ∃ h',callX E X (N + 13) (.fn k_tx_reader_word) [.ptr (some (rp,0))] h = some (.int .u32 ((rdW l s).1 : Nat),h') ∧ RdH ep rp l a (rdW l s).2 h' ∧ Kr ep rp h h' := by
  rw [x_cfn e.wo _ _ (Nat.le_of_ble_eq_true rfl) (x.wo _ _)]
  obtain ⟨h1,r1,k1,y1⟩ := eyfix_go e.ey x.ey N ep 4 l bl hl s.1 a h r.y
  obtain ⟨rd1,kr1⟩ := r.eye k1 _ y1
  obtain ⟨h2,r2,rd2,kr2,_⟩ := note_go e x (N + 11) (eyFix 4 l s.1).2.1 ep rp l a _ h1 rd1
  replace r2 : callX E X (N + 12) (.fn k_tx_reader_note) _ h1 = _ := r2
  have lt := eyFix_lt 4 (.inl rfl) l bl s.1
  have w : wr .u32 ((eyFix 4 l s.1).1 : Int) = ((eyFix 4 l s.1).1 : Int) := wr_u32 (by simp at lt; omega)
  have g := r.g
  refine ⟨h2,?_,rd2,kr1.trans kr2⟩
  unfold rdW
  simp only
  generalize (eyFix 4 l s.1).1 = v at *
  generalize (eyFix 4 l s.1).2.1 = er at *
  simp (config := {maxSteps := 2000000}) (disch := first | omega | (simp only [List.length_cons,List.length_nil,List.length_append,List.length_drop]; omega)) only [g,r1,r2,w,↓s_nilchk,x_nilchk,↓x_conv,x_convV,↓x_conv,x_convV,↓x_fieldAddr,x_fieldV,↓s_nilchk,x_nilchk,Nat.add_zero,↓s_load,m_load,↓m_load1,m_load1,s_res0,↓s_ops,↓s_seq,↓s_ret,↓s_nil,↓s_op,↓s_bindS,s_bindS,↓s_bindE,s_bindE,s_norm,↓s_getp,↓s_get,↓s_con,↓s_os0,↓s_os1,↓s_list0,↓s_list1,↓s_mov,↓s_call,↓s_ext,s_same,s_end,s_res0,s_res1,s_tup1,↓iteN_true,↓iteN_false,iteN_true,iteN_false,Nat.reduceEqDiff,decide_true,decide_false,List.getElem?_cons_zero,List.getElem?_cons_succ]
  try rfl
def rdS (l : List Nat) (s : Nat × Bool) : List Nat × Nat × Bool := ((eyByt 2000 l s.1).1,(eyByt 2000 l s.1).2.2,s.2 || decide ((eyByt 2000 l s.1).2.1 ≠ 0))
theorem script_go (e : EnRr E) (x : NoRr X) (K : Nat) (ep rp : Nat) (l : List Nat) (bl : byt l = true) (hl : l.length ≤ 100000000) (a : Option (Nat × Nat)) (s : Nat × Bool) (h : H) (r : RdH ep rp l a s h) :
    ∃ h' b cb eb,callX E X (K + 18) (.fn k_tx_reader_script) [.ptr (some (rp,0))] h = some (.slice b (rdS l s).1.length cb eb,h') ∧ RdH ep rp l a (rdS l s).2 h' ∧ Kr ep rp h h' ∧ Wb h' (rdS l s).1 b cb eb ∧ ∀ q o,b = some (q,o) → h.next ≤ q := by
  rw [x_cfn e.sc _ _ (Nat.le_of_ble_eq_true rfl) (x.sc _ _)]
  obtain ⟨h1,b,cb,eb,r1,nq,y1⟩ := eybyt_go e.ey x.ey K ep 2000 (by omega) l bl hl s.1 a h r.y
  obtain ⟨rd1,kr1⟩ := r.eye nq.kq _ y1
  obtain ⟨h2,r2,rd2,kr2,n2⟩ := note_go e x (K + 16) (eyByt 2000 l s.1).2.1 ep rp l a _ h1 rd1
  replace r2 : callX E X (K + 17) (.fn k_tx_reader_note) _ h1 = _ := r2
  have g := r.g
  have ge := nq.ge
  have wb2 : Wb h2 (rdS l s).1 b cb eb := nq.wb.mono kr2.1 (fun q hq eq => by
    have h1' := ge q 0 eq
    have h2' := r.y.lt
    have h3' := r.lt
    exact kr2.2 q hq (by omega) (by omega))
  refine ⟨h2,b,cb,eb,?_,rd2,kr1.trans kr2,wb2,ge⟩
  unfold rdS
  simp only
  generalize (eyByt 2000 l s.1).1.length = v at *
  generalize (eyByt 2000 l s.1).2.1 = er at *
  simp (config := {maxSteps := 2000000}) (disch := first | omega | (simp only [List.length_cons,List.length_nil,List.length_append,List.length_drop]; omega)) only [g,r1,r2,↓s_nilchk,x_nilchk,↓x_fieldAddr,x_fieldV,↓s_nilchk,x_nilchk,Nat.add_zero,↓s_load,m_load,↓m_load1,m_load1,s_res0,↓s_ops,↓s_seq,↓s_ret,↓s_nil,↓s_op,↓s_bindS,s_bindS,↓s_bindE,s_bindE,s_norm,↓s_getp,↓s_get,↓s_con,↓s_os0,↓s_os1,↓s_list0,↓s_list1,↓s_mov,↓s_call,↓s_ext,s_same,s_end,s_res0,s_res1,s_tup1,↓iteN_true,↓iteN_false,iteN_true,iteN_false,Nat.reduceEqDiff,decide_true,decide_false,List.getElem?_cons_zero,List.getElem?_cons_succ]
  try rfl
end Go.Eng
namespace Go.Eng
open Go
variable {E : Nat → Option Fn} {X : Orc}
set_option linter.unusedSimpArgs false
set_option linter.unusedVariables false
def rdH (l : List Nat) (s : Nat × Bool) : List Nat × Nat × Bool := (if (eyRaw 32 l s.1).1 = [] then List.replicate 32 0 else (eyRaw 32 l s.1).1,(eyRaw 32 l s.1).2.2,s.2 || decide ((eyRaw 32 l s.1).2.1 ≠ 0))
theorem eyRaw_c (l : List Nat) (n : Nat) : (eyRaw 32 l n).1 = [] ∨ (eyRaw 32 l n).1.length = 32 := by
  unfold eyRaw
  rw [if_neg (by omega)]
  split
  · right
    have : (32 : Int).toNat = 32 := rfl
    rw [this] at *
    rw [List.length_take,List.length_drop]; omega
  · exact .inl rfl
theorem rdH_len (l : List Nat) (s : Nat × Bool) : (rdH l s).1.length = 32 := by
  unfold rdH
  simp only
  split
  · exact List.length_replicate
  · rename_i h
    rcases eyRaw_c l s.1 with h' | h'
    · exact absurd h' h
    · exact h'
theorem hash_go (e : EnRr E) (x : NoRr X) (N : Nat) (ep rp : Nat) (l : List Nat) (hl : l.length ≤ 100000000) (a : Option (Nat × Nat)) (s : Nat × Bool) (h : H) (r : RdH ep rp l a s h) :
    ∃ h',callX E X (N + 4) (.fn k_tx_reader_hash) [.ptr (some (rp,0))] h = some (.agg (ofI .u8 (rdH l s).1),h') ∧ RdH ep rp l a (rdH l s).2 h' ∧ Kr ep rp h h' := by
  rw [x_cfn e.ha _ _ (Nat.le_of_ble_eq_true rfl) (x.ha _ _)]
  rw [← z32e]
  obtain ⟨Z,eZ⟩ : ∃ Z,ofI .u8 (List.replicate 32 0) = Z := ⟨_,rfl⟩
  rw [eZ]
  have ltr := r.lt
  have lte := r.y.lt
  obtain ⟨h2,eh2⟩ : ∃ h2,(h.new (.cells Z .rw)).new (.cells Z .rw) = h2 := ⟨_,rfl⟩
  have k2 : Kp h h2 := by rw [← eh2]; (repeat (first | exact Kp.refl _ | refine Kp.put ?_ _ (by first | omega | (simp only [h_next_put,h_next_new,h_next_del]; omega)) | refine Kp.del ?_ (by first | omega | (simp only [h_next_put,h_next_new,h_next_del]; omega)) | refine Kp.trans ?_ (Kp.new _ _)))
  have n2 : h2.next = h.next + 2 := by rw [← eh2]; rfl
  have g21 : h2.get h.next = some (.cells Z .rw) := by rw [← eh2]; (simp (disch := omega) only [h_new_get,h_next_new,Nat.add_eq_left,decide_true,decide_false,iteN_true,iteN_false,reduceCtorEq,]; try rfl)
  have g22 : h2.get (h.next + 1) = some (.cells Z .rw) := by rw [← eh2]; (simp (disch := omega) only [h_new_get,h_next_new,decide_true,iteN_true,]; try rfl)
  have r2 := r.kp k2
  obtain ⟨h3,b,cb,eb,c3,nq,y3⟩ := eyraw_go e.ey x.ey N ep 32 l hl s.1 a h2 r2.y
  obtain ⟨r3,kr3⟩ := r2.eye nq.kq _ y3
  obtain ⟨h4,c4,r4,kr4,n4⟩ := note_go e x (N + 2) (eyRaw 32 l s.1).2.1 ep rp l a _ h3 r3
  replace c4 : callX E X (N + 3) (.fn k_tx_reader_note) _ h3 = _ := c4
  have kr24 := kr3.trans kr4
  have kn := kr24.1
  have wb4 : Wb h4 (eyRaw 32 l s.1).1 b cb eb := nq.wb.mono kr4.1 (fun q hq eq => by
    have h1' := nq.ge q 0 eq
    exact kr4.2 q hq (by omega) (by omega))
  have g41 : h4.get h.next = some (.cells Z .rw) := by rw [kr24.2 _ (by omega) (by omega) (by omega),g21]
  have g42 : h4.get (h.next + 1) = some (.cells Z .rw) := by rw [kr24.2 _ (by omega) (by omega) (by omega),g22]
  have gr2 := r2.g
  have sc := wb4.src.cellz cb
  have lH := rdH_len l s
  have key : ∃ h5,copyE 1 (.slice (some (h.next + 1,0)) 32 (some 32) 1) (some ((eyRaw 32 l s.1).1.length,ofI .u8 (eyRaw 32 l s.1).1)) h4 = some (.int .i64 ((eyRaw 32 l s.1).1.length : Int),h5) ∧ h5.next = h4.next ∧ h5.get (h.next + 1) = some (.cells (ofI .u8 (rdH l s).1) .rw) ∧ ∀ j,j ≠ h.next + 1 → h5.get j = h4.get j := by
    by_cases hz : (eyRaw 32 l s.1).1 = []
    · refine ⟨h4,by rw [hz]; rfl,rfl,?_,fun _ _ => rfl⟩
      rw [g42,← eZ]; unfold rdH; simp only; rw [if_pos hz]
    · have h32 := (eyRaw_c l s.1).resolve_left hz
      have := copy_bytes h4 (h.next + 1) 0 32 (some 32) (eyRaw 32 l s.1).1 Z .rw rfl g42 hz (by omega) (by rw [← eZ,ofI_len,List.length_replicate]; omega)
      rw [h32] at this ⊢
      refine ⟨_,this,rfl,?_,fun j hj => h_put_ne _ _ (fun e => hj e.symm)⟩
      rw [h_put_same,← eZ,List.take_of_length_le (by rw [h32]; omega),wrAll _ _ _ (by rw [List.length_replicate,h32])]
      unfold rdH; simp only; rw [if_neg hz]
  obtain ⟨h5,cp,n5,g5,f5⟩ := key
  have g51 : h5.get h.next = some (.cells Z .rw) := by rw [f5 _ (by omega),g41]
  have sl : ∀ h : H,slcB (some (.cells Z .rw)) 32 1 (h4.next) 0 none none h = some (.slice (some (h4.next,0)) 32 (some 32) 1,h) := fun h => slcB_nn Z .rw 32 h4.next 0 h (by rw [← eZ,ofI_len,List.length_replicate]; omega)
  have sl' : ∀ i (h : H),slcB (some (.cells Z .rw)) 32 1 i 0 none none h = some (.slice (some (i,0)) 32 (some 32) 1,h) := fun i h => slcB_nn Z .rw 32 i 0 h (by rw [← eZ,ofI_len,List.length_replicate]; omega)
  have ld : ∀ m,loadE (some (.cells (ofI .u8 (rdH l s).1) m)) (some 32) 0 = some (.agg (ofI .u8 (rdH l s).1)) := fun m => by rw [m_loadN,x_readAll _ 32 (by rw [ofI_len,lH])]
  have st : ∀ h i,storeV h 32 (.ptr (some (i,0))) (.agg (ofI .u8 (rdH l s).1)) = storeE (h.get i) h i 0 (ofI .u8 (rdH l s).1) := fun h i => st32 h i 0 _ lH
  have pu : ∀ h i,storeE (some (.cells Z .rw)) h i 0 (ofI .u8 (rdH l s).1) = some (h.put i (.cells (ofI .u8 (rdH l s).1) .rw)) := fun h i => by
    rw [m_storeE _ _ _ _ _ (by rw [← eZ,ofI_len,ofI_len,lH,List.length_replicate]; omega),← eZ,wrAll _ _ _ (by rw [List.length_replicate,lH])]
  refine ⟨h5.put h.next (.cells (ofI .u8 (rdH l s).1) .rw),?_,?_,?_⟩
  · have e2 : (rdH l s).1 = (rdH l s).1 := rfl
    generalize (rdH l s).1 = W at *
    generalize (eyRaw 32 l s.1).1.length = n at *
    generalize ofI .u8 (eyRaw 32 l s.1).1 = src at *
    generalize (eyRaw 32 l s.1).2.1 = er at *
    generalize ofI .u8 W = WV at *
    simp (config := {maxSteps := 2000000}) (disch := first | omega | (simp only [List.length_cons,List.length_nil,List.length_append,List.length_drop]; omega)) only [eh2,gr2,c3,c4,↓x_slcA,x_slcAE,x_M0,g42,sl',↓x_copy,sc,cp,g5,g51,ld,st,pu,↓s_nilchk,x_nilchk,↓x_fieldAddr,x_fieldV,↓s_nilchk,x_nilchk,Nat.add_zero,↓h_put_get,h_next_new,↓s_load,m_load,↓m_load1,m_load1,↓m_st,m_stE,↓s_alloc,s_resc,s_consR,s_res0,↓s_ops,↓s_seq,↓s_ret,↓s_nil,↓s_op,↓s_bindS,s_bindS,↓s_bindE,s_bindE,s_norm,↓s_getp,↓s_getp0,↓s_get,↓s_con,↓s_os0,↓s_os1,↓s_list0,↓s_list1,↓s_mov,↓s_call,↓s_ext,s_same,s_end,s_res0,s_tup1,↓iteN_true,↓iteN_false,iteN_true,iteN_false,Nat.reduceEqDiff,decide_true,decide_false,List.getElem?_cons_zero,List.getElem?_cons_succ]
    try rfl
  · have k45 : Kp h3 h3 := Kp.refl _
    refine ⟨r4.y.mono (by show h4.next ≤ h5.next; omega) ?_ ?_,?_,by show rp < h5.next; have := r4.lt; omega,r4.ne,r4.na⟩
    · rw [h_put_ne _ _ (by omega),f5 _ (by omega)]
    · intro q hq eq
      have := r.y.alt eq
      rw [h_put_ne _ _ (by omega),f5 _ (by omega)]
    · rw [h_put_ne _ _ (by omega),f5 _ (by omega)]; exact r4.g
  · refine ⟨by show h.next ≤ h5.next; omega,fun j hj h1 h2' => ?_⟩
    rw [h_put_ne _ _ (by omega),f5 _ (by omega),kr24.2 j (by omega) h1 h2',k2.2 j hj]
end Go.Eng
namespace Go.Eng
open Go
variable {E : Nat → Option Fn} {X : Orc}
set_option linter.unusedSimpArgs false
set_option linter.unusedVariables false
theorem Wb.srcS {h : H} {w : List Nat} {a : Option (Nat × Nat)} {c : Option Nat} {e lo : Nat} (s : Wb h w a c e) (ge : ∀ q o,a = some (q,o) → lo ≤ q) : SrcS (fun j => lo ≤ j) h a e w := by
  rcases s with ⟨h1,_⟩ | ⟨_,q,md,e1,_,e3,g,hm,hq⟩
  · exact .inl h1
  · exact .inr ⟨q,0,_,md,e1,e3,ge _ _ e1,hq,g,by rw [ofI_len]; omega,by rw [List.drop_zero]; exact List.take_of_length_le (by rw [ofI_len]; exact Nat.le_refl _)⟩
def Z33 : List V := [.int .u8 0,.int .u8 0,.int .u8 0,.int .u8 0,.int .u8 0,.int .u8 0,.int .u8 0,.int .u8 0,.int .u8 0,.int .u8 0,.int .u8 0,.int .u8 0,.int .u8 0,.int .u8 0,.int .u8 0,.int .u8 0,.int .u8 0,.int .u8 0,.int .u8 0,.int .u8 0,.int .u8 0,.int .u8 0,.int .u8 0,.int .u8 0,.int .u8 0,.int .u8 0,.int .u8 0,.int .u8 0,.int .u8 0,.int .u8 0,.int .u8 0,.int .u8 0,.int .u32 0]
def Z35 : List V := [.int .u8 0,.int .u8 0,.int .u8 0,.int .u8 0,.int .u8 0,.int .u8 0,.int .u8 0,.int .u8 0,.int .u8 0,.int .u8 0,.int .u8 0,.int .u8 0,.int .u8 0,.int .u8 0,.int .u8 0,.int .u8 0,.int .u8 0,.int .u8 0,.int .u8 0,.int .u8 0,.int .u8 0,.int .u8 0,.int .u8 0,.int .u8 0,.int .u8 0,.int .u8 0,.int .u8 0,.int .u8 0,.int .u8 0,.int .u8 0,.int .u8 0,.int .u8 0,.int .u32 0,.slice none 0 (some 0) 0,.int .u32 0]
theorem fill33 (tx : List Nat) (ht : tx.length = 32) (n : Nat) : fillV Z33 [(0,32,.agg (ofI .u8 tx)),(32,1,.int .u32 (n : Int))] = some (ofI .u8 tx ++ [.int .u32 (n : Int)]) := by
  have lz : Z33.length = 33 := rfl
  have c : (V.agg (ofI .u8 tx)).cells = ofI .u8 tx := rfl
  rw [x_fill1 _ _ _ _ _ (by rw [c,ofI_len,ht,lz]; rfl),c,w_zero,ofI_len,ht]
  obtain ⟨z,ez⟩ : ∃ z,Z33.drop 32 = [z] := ⟨_,rfl⟩
  rw [ez,x_filli _ _ _ _ _ (by rw [List.length_append,ofI_len,ht]; simp),x_fill0,writeN_eq _ _ _ (by rw [List.length_append,ofI_len,ht]; omega),List.take_left' (by rw [ofI_len,ht]),List.drop_eq_nil_of_le (by simp [ofI_len,ht]),List.append_nil]
theorem fill35 (o : InQ) (ht : o.tx.length = 32) (b : Option (Nat × Nat)) (cb : Option Nat) (eb : Nat) : fillV Z35 [(0,33,opV o.tx o.n),(33,1,.slice b o.l.length cb eb),(34,1,.int .u32 (o.q : Int))] = some (inV o b cb eb) := by
  have lz : Z35.length = 35 := rfl
  have c : (opV o.tx o.n).cells = ofI .u8 o.tx ++ [.int .u32 (o.n : Int)] := rfl
  obtain ⟨A,eA⟩ : ∃ A,ofI .u8 o.tx ++ [.int .u32 (o.n : Int)] = A := ⟨_,rfl⟩
  have lA : A.length = 33 := by rw [← eA,List.length_append,ofI_len,ht]; rfl
  rw [eA] at c
  rw [x_fill1 _ _ _ _ _ (by rw [c,lA,lz]; rfl),c,w_zero,lA]
  obtain ⟨z,y,ez⟩ : ∃ z y,Z35.drop 33 = [z,y] := ⟨_,_,rfl⟩
  rw [ez,x_fills _ _ _ _ _ _ _ (by rw [List.length_append,lA]; simp),writeN_eq _ _ _ (by rw [List.length_append,lA]; omega),List.take_left' lA]
  have d : (A ++ [z,y]).drop (33 + [V.slice b o.l.length cb eb].length) = [y] := by
    show List.drop 34 (A ++ [z,y]) = _
    rw [List.drop_append,lA,List.drop_eq_nil_of_le (by omega)]; rfl
  rw [d,x_filli _ _ _ _ _ (by simp [lA]),x_fill0,writeN_eq _ _ _ (by simp [lA]),List.take_left' (by simp [lA]),List.drop_eq_nil_of_le (by simp [lA]),List.append_nil]
  unfold inV
  rw [← eA]; simp
def rxI (l : List Nat) (s : Nat × Bool) : InQ × Nat × Bool := (⟨(rdH l s).1,(rdW l (rdH l s).2).1,(rdS l (rdW l (rdH l s).2).2).1,(rdW l (rdS l (rdW l (rdH l s).2).2).2).1⟩,(rdW l (rdS l (rdW l (rdH l s).2).2).2).2)
theorem in_go (e : EnRr E) (x : NoRr X) (K : Nat) (ep rp : Nat) (l : List Nat) (bl : byt l = true) (hl : l.length ≤ 100000000) (a : Option (Nat × Nat)) (s : Nat × Bool) (h : H) (r : RdH ep rp l a s h) :
    ∃ h' P,callX E X (K + 19) (.fn k_tx_reader_in) [.ptr (some (rp,0))] h = some (.agg P,h') ∧ RdH ep rp l a (rxI l s).2 h' ∧ Kr ep rp h h' ∧ InC (fun j => h.next ≤ j) h' (rxI l s).1 P := by
  rw [x_cfn e.in_ _ _ (Nat.le_of_ble_eq_true rfl) (x.in_ _ _)]
  rw [show ([.int .u8 0,.int .u8 0,.int .u8 0,.int .u8 0,.int .u8 0,.int .u8 0,.int .u8 0,.int .u8 0,.int .u8 0,.int .u8 0,.int .u8 0,.int .u8 0,.int .u8 0,.int .u8 0,.int .u8 0,.int .u8 0,.int .u8 0,.int .u8 0,.int .u8 0,.int .u8 0,.int .u8 0,.int .u8 0,.int .u8 0,.int .u8 0,.int .u8 0,.int .u8 0,.int .u8 0,.int .u8 0,.int .u8 0,.int .u8 0,.int .u8 0,.int .u8 0,.int .u32 0] : List V) = Z33 from rfl,show ([.int .u8 0,.int .u8 0,.int .u8 0,.int .u8 0,.int .u8 0,.int .u8 0,.int .u8 0,.int .u8 0,.int .u8 0,.int .u8 0,.int .u8 0,.int .u8 0,.int .u8 0,.int .u8 0,.int .u8 0,.int .u8 0,.int .u8 0,.int .u8 0,.int .u8 0,.int .u8 0,.int .u8 0,.int .u8 0,.int .u8 0,.int .u8 0,.int .u8 0,.int .u8 0,.int .u8 0,.int .u8 0,.int .u8 0,.int .u8 0,.int .u8 0,.int .u8 0,.int .u32 0,.slice none 0 (some 0) 0,.int .u32 0] : List V) = Z35 from rfl]
  have lz : Z35.length = 35 := rfl
  obtain ⟨Z,eZ⟩ : ∃ Z,Z35 = Z := ⟨_,rfl⟩
  have ltr := r.lt
  have lte := r.y.lt
  have k1 : Kp h (h.new (.cells Z35 .rw)) := Kp.new _ _
  obtain ⟨h1,eh1⟩ : ∃ h1,h.new (.cells Z35 .rw) = h1 := ⟨_,rfl⟩
  have g1 : h1.get h.next = some (.cells Z35 .rw) := by rw [← eh1]; exact h_new_same _ _
  have n1 : h1.next = h.next + 1 := by rw [← eh1]; rfl
  rw [eh1] at k1
  have r1 := r.kp k1
  obtain ⟨h2,c2,r2,kr2⟩ := hash_go e x (K + 14) ep rp l hl a s h1 r1
  obtain ⟨h3,c3,r3,kr3⟩ := word_go e x (K + 5) ep rp l bl hl a _ h2 r2
  obtain ⟨h4,b,cb,eb,c4,r4,kr4,wb4,ge4⟩ := script_go e x K ep rp l bl hl a _ h3 r3
  obtain ⟨h5,c5,r5,kr5⟩ := word_go e x (K + 5) ep rp l bl hl a _ h4 r4
  replace c2 : callX E X (K + 18) (.fn k_tx_reader_hash) _ h1 = _ := c2
  replace c3 : callX E X (K + 18) (.fn k_tx_reader_word) _ h2 = _ := c3
  replace c5 : callX E X (K + 18) (.fn k_tx_reader_word) _ h4 = _ := c5
  have lH : (rxI l s).1.tx.length = 32 := rdH_len l s
  have n12 := kr2.1
  have n23 := kr3.1
  have n34 := kr4.1
  have n45 := kr5.1
  have kr15 := ((kr2.trans kr3).trans kr4).trans kr5
  have g5 : h5.get h.next = some (.cells Z35 .rw) := by rw [kr15.2 _ (by omega) (by omega) (by omega),g1]
  have wb5 : Wb h5 (rxI l s).1.l b cb eb := wb4.mono n45 (fun q hq eq => by
    have := ge4 q 0 eq
    exact kr5.2 q hq (by omega) (by omega))
  have ic : InC (fun j => h.next ≤ j) h5 (rxI l s).1 (inV (rxI l s).1 b cb eb) := ⟨b,cb,eb,rfl,wb5.srcS (fun q o eq => by have := ge4 q o eq; omega),lH⟩
  have ic6 : InC (fun j => h.next ≤ j) (h5.put h.next (.cells (inV (rxI l s).1 b cb eb) .rw)) (rxI l s).1 (inV (rxI l s).1 b cb eb) := by
    obtain ⟨_,_,_,_,s6,_⟩ := ic
    refine ⟨b,cb,eb,rfl,?_,lH⟩
    have := wb5.mono (h' := h5.put h.next (.cells (inV (rxI l s).1 b cb eb) .rw)) (Nat.le_refl _) (fun q hq eq => h_put_ne _ _ (by have := ge4 q 0 eq; omega))
    exact this.srcS (fun q o eq => by have := ge4 q o eq; omega)
  have f33 := fill33 (rxI l s).1.tx lH (rxI l s).1.n
  have f35 := fill35 (rxI l s).1 lH b cb eb
  have st := fun h i => fit_st ic.fit h i
  have pu := fun h i => fit_put ic.fit h i Z35 lz
  have ld := fun m => fit_ld ic.fit m
  refine ⟨h5.put h.next (.cells (inV (rxI l s).1 b cb eb) .rw),inV (rxI l s).1 b cb eb,?_,?_,?_,ic6⟩
  · replace c2 : callX E X (K + 18) (.fn k_tx_reader_hash) _ h1 = some (.agg (ofI .u8 (rxI l s).1.tx),h2) := c2
    replace c3 : callX E X (K + 18) (.fn k_tx_reader_word) _ h2 = some (.int .u32 ((rxI l s).1.n : Nat),h3) := c3
    replace c4 : callX E X (K + 18) (.fn k_tx_reader_script) _ h3 = some (.slice b (rxI l s).1.l.length cb eb,h4) := c4
    replace c5 : callX E X (K + 18) (.fn k_tx_reader_word) _ h4 = some (.int .u32 ((rxI l s).1.q : Nat),h5) := c5
    clear r2 r3 r4 r5 wb4 wb5 ic ic6
    generalize (rxI l s).1 = o at *
    generalize inV o b cb eb = P at *
    generalize o.l.length = n at *
    unfold opV at f35
    generalize ofI .u8 o.tx ++ [.int .u32 (o.n : Int)] = P33 at *
    generalize ofI .u8 o.tx = P32 at *
    generalize Z33 = z33 at *
    generalize Z35 = z35 at *
    simp (config := {maxSteps := 2000000}) (disch := first | omega | (simp only [List.length_cons,List.length_nil,List.length_append,List.length_drop]; omega)) only [eh1,c2,c3,c4,c5,f33,f35,st,pu,ld,g5,↓x_build,x_aggO,↓h_put_get,m_load,↓m_st,m_stE,↓s_alloc,↓x_P0,↓x_P1,s_resc,s_consR,s_res0,↓s_ops,↓s_seq,↓s_ret,↓s_nil,↓s_op,↓s_bindS,s_bindS,↓s_bindE,s_bindE,s_norm,↓s_getp,↓s_getp0,↓s_get,↓s_os0,↓s_os1,↓s_list0,↓s_list1,↓s_mov,↓s_call,s_same,s_end,s_res0,s_tup1,↓iteN_true,↓iteN_false,iteN_true,iteN_false,Nat.reduceEqDiff,decide_true,decide_false]
    try rfl
  · refine ⟨r5.y.mono (Nat.le_refl _) (h_put_ne _ _ (by omega)) (fun q hq eq => h_put_ne _ _ (by have := r.y.alt eq; omega)),by rw [h_put_ne _ _ (by omega)]; exact r5.g,r5.lt,r5.ne,r5.na⟩
  · refine ⟨by show h.next ≤ h5.next; omega,fun j hj a1 a2 => ?_⟩
    rw [h_put_ne _ _ (by omega),kr15.2 j (by omega) a1 a2,k1.2 j hj]
end Go.Eng
