/- What functions of the program come to: own work. -/
import Derived.Test.YtfopajklnakmpaaBtYd
namespace Go.Eng
open Go
variable {E : Nat → Option Fn} {X : Orc}
set_option linter.unusedSimpArgs false
set_option linter.unusedVariables false
/-! what is written over: blocks of bytes from B on,and nothing else -/
def ByB (h : H) (k n : Nat) : Prop := ∃ l m,h.get k = some (.cells (ofI .u8 l) m) ∧ isRo m = false ∧ l.length = n
structure SpX (B : Nat) (h0 h : H) : Prop where
  by_ : ∀ k n,B ≤ k → ByB h0 k n → ByB h k n
  fr : ∀ k,(k < B ∨ ∀ n,¬ ByB h0 k n) → h.get k = h0.get k
  nx : h.next = h0.next
theorem SpX.refl (B : Nat) (h : H) : SpX B h h := ⟨fun _ _ _ b => b,fun _ _ => rfl,rfl⟩
theorem SpX.put {B : Nat} {h0 h : H} (s : SpX B h0 h) {k n j : Nat} {l : List Nat} {m : Md} (hk : B ≤ k) (b0 : ByB h0 k n) (g : h.get k = some (.cells (ofI .u8 l) m)) (hm : isRo m = false) (y : Nat) : SpX B h0 (h.put k (.cells ((ofI .u8 l).set j (.int .u8 (y : Int))) m)) := by
  refine ⟨fun q n' hq hb => ?_,fun q hq => ?_,s.nx⟩
  · by_cases e : q = k
    · subst e
      obtain ⟨l2,m2,g2,hm2,h2⟩ := s.by_ q n' hq hb
      rw [g] at g2
      have : ofI .u8 l = ofI .u8 l2 ∧ m = m2 := by simp only [Option.some.injEq,Blk.cells.injEq] at g2; exact g2
      refine ⟨l.set j y,m,by rw [h_put_same,ofI_set],hm,?_⟩
      rw [List.length_set,← h2,← ofI_len .u8 l,this.1,ofI_len]
    · obtain ⟨l2,m2,g2,r⟩ := s.by_ q n' hq hb
      exact ⟨l2,m2,by rw [h_put_ne _ _ (Ne.symm e),g2],r⟩
  · have : k ≠ q := by
      intro e; subst e
      rcases hq with h | h
      · omega
      · exact h _ b0
    rw [h_put_ne _ _ this,s.fr q hq]
theorem stMd' (vs l : List V) (md : Md) (hm : isRo md = false) (h : H) (i o : Nat) (hl : o + l.length ≤ vs.length) : storeE (some (.cells vs md)) h i o l = some (h.put i (.cells (writeN vs o l) md)) := by
  cases md with
  | ro => cases hm
  | rw => exact m_storeE _ _ _ _ _ hl
  | sh => exact m_storeEs _ _ _ _ _ hl
def ScX (B : Nat) (h0 : H) (l : Nat) (bi : Option (Nat × Nat)) (ei : Nat) : Prop := l = 0 ∨ ∃ k,bi = some (k,0) ∧ ei = 1 ∧ B ≤ k ∧ ByB h0 k l
structure KX (pd : Nat) (v0 v3 : V) (T : Tr V) : Prop where
  k0 : evO T (.t 0) = v0
  k3 : evO T (.t 3) = v3
  k4 : evO T (.t 4) = .ptr (some (pd,0))

structure SxIn (B pd : Nat) (v0 v3 : V) (n : Nat) (h0 : H) (i l j : Nat) (T : Tr V) (h : H) : Prop where
  k : KX pd v0 v3 T
  ti : evO T (.t 14) = .int .i64 (i : Int)
  tn : evO T (.t 81) = .int .i64 (n : Int)
  tk : evO T (.t 82) = .int .i64 (i : Int)
  tl : evO T (.t 91) = .int .i64 (l : Int)
  tc : evO T (.t 92) = .int .i64 (j : Int)
  sp : SpX B h0 h
theorem sxIn_in (Q : Orc) (mm : Nat) (B pd : Nat) (P : List V) (v0 v3 : V) (n : Nat) (hn : n ≤ 1000) (h0 : H) (gp : h0.get pd = some (.cells P .rw)) (np : ∀ n,¬ ByB h0 pd n) (q off : Nat) (cs : List V) (md : Md) (gq : h0.get q = some (.cells cs md)) (nq : ∀ n,¬ ByB h0 q n) (cc : Option Nat) (hP : P[1]? = some (.slice (some (q,off)) n cc 35)) (i : Nat) (hi : i < n) (l : Nat) (hl : l ≤ 100000) (bi : Option (Nat × Nat)) (ci : Option Nat) (ei : Nat) (cg : cs[off + (i * 35 + 33)]? = some (.slice bi l ci ei)) (sc : ScX B h0 l bi ei) :
    ∀ j T h,j < l → SxIn B pd v0 v3 n h0 i l j T h → ∃ T' h',evC Q 143 mm none L_purserlaw06_TxReads_0 ⟨T,[],h⟩ = some (.normal,⟨T',[],h'⟩) ∧ SxIn B pd v0 v3 n h0 i l (j + 1) T' h' := by
  intro j T h hj ⟨⟨k0,k3,k4⟩,ti,tn,tk,tl,tc,sp⟩
  rcases sc with s0 | ⟨k,rfl,rfl,hk,b0⟩
  · omega
  obtain ⟨w,m,gk,hm,lw⟩ := sp.by_ k l hk b0
  have gp' : h.get pd = some (.cells P .rw) := by rw [sp.fr pd (.inr np),gp]
  have gq' : h.get q = some (.cells cs md) := by rw [sp.fr q (.inr nq),gq]
  have c0 : decide ((j : Int) < (l : Int)) = true := decide_eq_true (by omega)
  have wi : wr .i64 ((j : Int) + 1) = ((j + 1 : Nat) : Int) := by rw [wr_i64 (by omega)]; omega
  have ix : idx (i : Int) n = some i := idxn hi
  have iy : idx (j : Int) l = some j := idxn hj
  have hx : (ofI .u8 w)[j]? = some (.int .u8 (w.getD j 0 : Nat)) := ofI_get _ _ _ (by omega)
  obtain ⟨y,ey⟩ : ∃ y : Nat,wr .u8 ((w.getD j 0 : Nat) + 1 : Int) = (y : Int) := ⟨(w.getD j 0 + 1) % 256,by rw [wr_eq]; simp [IntKind.wrap,IntKind.bits,IntKind.signed]⟩
  have st : ∀ h',storeE (some (.cells (ofI .u8 w) m)) h' k j [.int .u8 (y : Int)] = some (h'.put k (.cells ((ofI .u8 w).set j (.int .u8 (y : Int))) m)) := fun h' => by
    rw [stMd' _ _ _ hm _ _ _ (by rw [ofI_len]; simp only [List.length_cons,List.length_nil]; omega),writeN_set _ _ _ (by rw [ofI_len]; omega)]
  have sp2 := sp.put (j := j) hk b0 gk hm y
  obtain ⟨h2,eh2⟩ : ∃ h2,h.put k (.cells ((ofI .u8 w).set j (.int .u8 (y : Int))) m) = h2 := ⟨_,rfl⟩
  rw [eh2] at sp2
  generalize ofI .u8 w = W at *
  generalize w.getD j 0 = z at *
  exact ⟨_,h2,by
    simp (config := {maxSteps := 2000000}) (disch := first | omega | (simp only [List.length_cons,List.length_nil,List.length_append,List.length_drop]; omega)) only [L_purserlaw06_TxReads_0,k4,ti,tl,tc,gp',hP,c0,wi,ix,iy,gq',cg,gk,hx,ey,st,eh2,m_load1,m_storeI,↓x_fieldAddr,x_fieldV,Nat.zero_add,Nat.mul_one,Nat.add_assoc,↓s_load,m_load,↓m_load1,m_load1,↓m_st,m_stE,m_storeI,↓x_idxS,x_idxSE,x_addrE,↓s_skip,↓s_ops,↓s_seq,↓s_cond,↓s_block,↓s_nil,↓s_op,↓s_bindS,s_bindS,↓s_bindE,s_bindE,s_norm,↓s_condV,s_condV,s_block_normal,↓s_getp,↓s_getp0,↓s_con,↓s_mov,↓s_bin,s_same,b_lss,b_add,↓iteN_true,↓iteN_false,iteN_true,iteN_false,Nat.zero_add,Nat.reduceEqDiff,decide_true,decide_false]
    exact rfl,⟨(by (simp only [s_getp,s_getp0,Nat.reduceEqDiff,decide_false,iteN_false,k0]; try rfl)),(by (simp only [s_getp,s_getp0,Nat.reduceEqDiff,decide_false,iteN_false,k3]; try rfl)),(by (simp only [s_getp,s_getp0,Nat.reduceEqDiff,decide_false,iteN_false,k4]; try rfl))⟩,(by (simp only [s_getp,s_getp0,Nat.reduceEqDiff,decide_false,iteN_false,ti]; try rfl)),(by (simp only [s_getp,s_getp0,Nat.reduceEqDiff,decide_false,iteN_false,tn]; try rfl)),(by (simp only [s_getp,s_getp0,Nat.reduceEqDiff,decide_false,iteN_false,tk]; try rfl)),(by (simp only [s_getp,s_getp0,Nat.reduceEqDiff,decide_false,iteN_false,tl]; try rfl)),(by (simp only [s_getp,decide_true,iteN_true]; try rfl)),sp2⟩
structure SyIn (B pd : Nat) (v0 v3 : V) (n : Nat) (h0 : H) (i : Nat) (T : Tr V) (h : H) : Prop where
  k : KX pd v0 v3 T
  tn : evO T (.t 81) = .int .i64 (n : Int)
  tk : evO T (.t 82) = .int .i64 (i : Int)
  sp : SpX B h0 h
theorem sxIn_out (Q : Orc) (mm : Nat) (hmm : 100001 < mm) (B pd : Nat) (P : List V) (v0 v3 : V) (n : Nat) (hn : n ≤ 1000) (h0 : H) (gp : h0.get pd = some (.cells P .rw)) (np : ∀ n,¬ ByB h0 pd n) (q off : Nat) (cs : List V) (md : Md) (gq : h0.get q = some (.cells cs md)) (nq : ∀ n,¬ ByB h0 q n) (cc : Option Nat) (hP : P[1]? = some (.slice (some (q,off)) n cc 35)) (at_ : ∀ i,i < n → ∃ bi l ci ei,cs[off + (i * 35 + 33)]? = some (.slice bi l ci ei) ∧ l ≤ 100000 ∧ ScX B h0 l bi ei) :
    ∀ i T h,i < n → SyIn B pd v0 v3 n h0 i T h → ∃ T' h',evC Q 143 mm none L_purserlaw06_TxReads_1 ⟨T,[],h⟩ = some (.normal,⟨T',[],h'⟩) ∧ SyIn B pd v0 v3 n h0 (i + 1) T' h' := by
  intro i T h hi ⟨⟨k0,k3,k4⟩,tn,tk,sp⟩
  obtain ⟨bi,l,ci,ei,cg,hl,sc⟩ := at_ i hi
  have gp' : h.get pd = some (.cells P .rw) := by rw [sp.fr pd (.inr np),gp]
  have gq' : h.get q = some (.cells cs md) := by rw [sp.fr q (.inr nq),gq]
  have c0 : decide ((i : Int) < (n : Int)) = true := decide_eq_true (by omega)
  have wi : wr .i64 ((i : Int) + 1) = ((i + 1 : Nat) : Int) := by rw [wr_i64 (by omega)]; omega
  have ix : idx (i : Int) n = some i := idxn hi
  have fin : ∀ T,SxIn B pd v0 v3 n h0 i l 0 T h → ∃ T' h',bindE (blockE 1 (blockE 2 (loopN (evC Q 143 mm none L_purserlaw06_TxReads_0) mm ⟨T,[],h⟩))) (evC Q 143 mm none R_purserlaw06_TxReads_0) = some (.normal,⟨T',[],h'⟩) ∧ SyIn B pd v0 v3 n h0 (i + 1) T' h' := by
    intro T1 I1
    obtain ⟨T2,h2,rr,⟨⟨k0,k3,k4⟩,ti,tn,tk,tl,tc,sp2⟩⟩ := loop_go (f := evC Q 143 mm none L_purserlaw06_TxReads_0) (SxIn B pd v0 v3 n h0 i l) l (.exit 2) (by intro h; cases h) (SxIn B pd v0 v3 n h0 i l l) (fun j T h hj I => sxIn_in Q mm B pd P v0 v3 n hn h0 gp np q off cs md gq nq cc hP i hi l hl bi ci ei cg sc j T h hj I) (fun T h' I => by
      obtain ⟨⟨k0,k3,k4⟩,ti,tn,tk,tl,tc,sp2⟩ := I
      have c1 : decide ((l : Int) < (l : Int)) = false := decide_eq_false (by omega)
      exact ⟨_,h',by
        simp (config := {maxSteps := 2000000}) (disch := first | omega | (simp only [List.length_cons,List.length_nil,List.length_append,List.length_drop]; omega)) only [L_purserlaw06_TxReads_0,tl,tc,c1,↓s_ops,↓s_seq,↓s_cond,↓s_exit,↓s_nil,↓s_op,↓s_bindS,s_bindS,↓s_bindE,s_bindE,s_bindE_exit,s_norm,↓s_condV,s_condV,↓s_getp,↓s_bin,s_same,b_lss,↓iteN_true,↓iteN_false,iteN_true,iteN_false,decide_true]
        exact rfl,⟨⟨(by (simp only [s_getp,Nat.reduceEqDiff,decide_false,iteN_false,k0]; try rfl)),(by (simp only [s_getp,Nat.reduceEqDiff,decide_false,iteN_false,k3]; try rfl)),(by (simp only [s_getp,Nat.reduceEqDiff,decide_false,iteN_false,k4]; try rfl))⟩,(by (simp only [s_getp,Nat.reduceEqDiff,decide_false,iteN_false,ti]; try rfl)),(by (simp only [s_getp,Nat.reduceEqDiff,decide_false,iteN_false,tn]; try rfl)),(by (simp only [s_getp,Nat.reduceEqDiff,decide_false,iteN_false,tk]; try rfl)),(by (simp only [s_getp,Nat.reduceEqDiff,decide_false,iteN_false,tl]; try rfl)),(by (simp only [s_getp,Nat.reduceEqDiff,decide_false,iteN_false,tc]; try rfl)),sp2⟩⟩) l 0 (by omega) mm (by omega) T1 h I1
    rw [rr]
    exact ⟨_,h2,by
      simp (config := {maxSteps := 2000000}) (disch := first | omega | (simp only [List.length_cons,List.length_nil,List.length_append,List.length_drop]; omega)) only [R_purserlaw06_TxReads_0,tk,wi,↓s_ops,↓s_nil,↓s_op,↓s_bindS,s_bindS,↓s_bindE,s_bindE,s_norm,s_block_normal,s_block_exit,↓s_getp,↓s_con,↓s_mov,↓s_bin,s_same,b_add,↓iteN_true,iteN_true,decide_true,if_true]
      exact rfl,⟨⟨(by (simp only [s_getp,Nat.reduceEqDiff,decide_false,iteN_false,k0]; try rfl)),(by (simp only [s_getp,Nat.reduceEqDiff,decide_false,iteN_false,k3]; try rfl)),(by (simp only [s_getp,Nat.reduceEqDiff,decide_false,iteN_false,k4]; try rfl))⟩,(by (simp only [s_getp,Nat.reduceEqDiff,decide_false,iteN_false,tn]; try rfl)),(by (simp only [s_getp,decide_true,iteN_true]; try rfl)),sp2⟩⟩
  obtain ⟨R,eR⟩ : ∃ R,R_purserlaw06_TxReads_0 = R := ⟨_,rfl⟩
  obtain ⟨Lo,eLo⟩ : ∃ R,L_purserlaw06_TxReads_0 = R := ⟨_,rfl⟩
  rw [eR,eLo] at fin
  have fin' := fun T q0 q1 q2 q3 q4 q5 q6 q7 => fin T ⟨⟨q0,q1,q2⟩,q3,q4,q5,q6,q7,sp⟩
  clear fin
  unfold L_purserlaw06_TxReads_1
  rw [eR,eLo]
  simp (config := {maxSteps := 2000000}) (disch := first | omega | (simp only [List.length_cons,List.length_nil,List.length_append,List.length_drop]; omega)) only [k4,tn,tk,gp',hP,c0,ix,gq',cg,m_load1,↓s_len,x_lenS,↓x_fieldAddr,x_fieldV,Nat.zero_add,↓l_loop,Nat.add_assoc,↓s_load,m_load,↓m_load1,m_load1,↓x_idxS,x_idxSE,x_addrE,x_lenS,↓s_len,↓s_skip,↓s_ops,↓s_seq,↓s_cond,↓s_block,↓s_nil,↓s_op,↓s_bindS,s_bindS,↓s_bindE,s_bindE,s_norm,↓s_condV,s_condV,↓s_getp,↓s_con,↓s_mov,↓s_bin,s_same,b_lss,↓iteN_true,↓iteN_false,iteN_true,iteN_false,Nat.zero_add,Nat.reduceEqDiff,decide_true,decide_false]
  exact fin' _ (by (simp only [s_getp,Nat.reduceEqDiff,decide_false,iteN_false,k0]; try rfl)) (by (simp only [s_getp,Nat.reduceEqDiff,decide_false,iteN_false,k3]; try rfl)) (by (simp only [s_getp,Nat.reduceEqDiff,decide_false,iteN_false,k4]; try rfl)) (by (simp only [s_getp,Nat.reduceEqDiff,decide_false,decide_true,iteN_false,iteN_true]; try rfl)) (by (simp only [s_getp,Nat.reduceEqDiff,decide_false,iteN_false,tn]; try rfl)) (by (simp only [s_getp,Nat.reduceEqDiff,decide_false,iteN_false,tk]; try rfl)) (by (simp only [s_getp,Nat.reduceEqDiff,decide_false,decide_true,iteN_false,iteN_true]; try rfl)) (by (simp only [s_getp,decide_true,iteN_true]; try rfl))

structure SxOut (B pd : Nat) (v0 v3 : V) (n : Nat) (h0 : H) (i l j : Nat) (T : Tr V) (h : H) : Prop where
  k : KX pd v0 v3 T
  ti : evO T (.t 16) = .int .i64 (i : Int)
  tn : evO T (.t 110) = .int .i64 (n : Int)
  tk : evO T (.t 111) = .int .i64 (i : Int)
  tl : evO T (.t 120) = .int .i64 (l : Int)
  tc : evO T (.t 121) = .int .i64 (j : Int)
  sp : SpX B h0 h
theorem sxOut_in (Q : Orc) (mm : Nat) (B pd : Nat) (P : List V) (v0 v3 : V) (n : Nat) (hn : n ≤ 1000) (h0 : H) (gp : h0.get pd = some (.cells P .rw)) (np : ∀ n,¬ ByB h0 pd n) (q off : Nat) (cs : List V) (md : Md) (gq : h0.get q = some (.cells cs md)) (nq : ∀ n,¬ ByB h0 q n) (cc : Option Nat) (hP : P[2]? = some (.slice (some (q,off)) n cc 2)) (i : Nat) (hi : i < n) (l : Nat) (hl : l ≤ 100000) (bi : Option (Nat × Nat)) (ci : Option Nat) (ei : Nat) (cg : cs[off + (i * 2 + 1)]? = some (.slice bi l ci ei)) (sc : ScX B h0 l bi ei) :
    ∀ j T h,j < l → SxOut B pd v0 v3 n h0 i l j T h → ∃ T' h',evC Q 143 mm none L_purserlaw06_TxReads_2 ⟨T,[],h⟩ = some (.normal,⟨T',[],h'⟩) ∧ SxOut B pd v0 v3 n h0 i l (j + 1) T' h' := by
  intro j T h hj ⟨⟨k0,k3,k4⟩,ti,tn,tk,tl,tc,sp⟩
  rcases sc with s0 | ⟨k,rfl,rfl,hk,b0⟩
  · omega
  obtain ⟨w,m,gk,hm,lw⟩ := sp.by_ k l hk b0
  have gp' : h.get pd = some (.cells P .rw) := by rw [sp.fr pd (.inr np),gp]
  have gq' : h.get q = some (.cells cs md) := by rw [sp.fr q (.inr nq),gq]
  have c0 : decide ((j : Int) < (l : Int)) = true := decide_eq_true (by omega)
  have wi : wr .i64 ((j : Int) + 1) = ((j + 1 : Nat) : Int) := by rw [wr_i64 (by omega)]; omega
  have ix : idx (i : Int) n = some i := idxn hi
  have iy : idx (j : Int) l = some j := idxn hj
  have hx : (ofI .u8 w)[j]? = some (.int .u8 (w.getD j 0 : Nat)) := ofI_get _ _ _ (by omega)
  obtain ⟨y,ey⟩ : ∃ y : Nat,wr .u8 ((w.getD j 0 : Nat) + 1 : Int) = (y : Int) := ⟨(w.getD j 0 + 1) % 256,by rw [wr_eq]; simp [IntKind.wrap,IntKind.bits,IntKind.signed]⟩
  have st : ∀ h',storeE (some (.cells (ofI .u8 w) m)) h' k j [.int .u8 (y : Int)] = some (h'.put k (.cells ((ofI .u8 w).set j (.int .u8 (y : Int))) m)) := fun h' => by
    rw [stMd' _ _ _ hm _ _ _ (by rw [ofI_len]; simp only [List.length_cons,List.length_nil]; omega),writeN_set _ _ _ (by rw [ofI_len]; omega)]
  have sp2 := sp.put (j := j) hk b0 gk hm y
  obtain ⟨h2,eh2⟩ : ∃ h2,h.put k (.cells ((ofI .u8 w).set j (.int .u8 (y : Int))) m) = h2 := ⟨_,rfl⟩
  rw [eh2] at sp2
  generalize ofI .u8 w = W at *
  generalize w.getD j 0 = z at *
  exact ⟨_,h2,by
    simp (config := {maxSteps := 2000000}) (disch := first | omega | (simp only [List.length_cons,List.length_nil,List.length_append,List.length_drop]; omega)) only [L_purserlaw06_TxReads_2,k4,ti,tl,tc,gp',hP,c0,wi,ix,iy,gq',cg,gk,hx,ey,st,eh2,m_load1,m_storeI,↓x_fieldAddr,x_fieldV,Nat.zero_add,Nat.mul_one,Nat.add_assoc,↓s_load,m_load,↓m_load1,m_load1,↓m_st,m_stE,m_storeI,↓x_idxS,x_idxSE,x_addrE,↓s_skip,↓s_ops,↓s_seq,↓s_cond,↓s_block,↓s_nil,↓s_op,↓s_bindS,s_bindS,↓s_bindE,s_bindE,s_norm,↓s_condV,s_condV,s_block_normal,↓s_getp,↓s_getp0,↓s_con,↓s_mov,↓s_bin,s_same,b_lss,b_add,↓iteN_true,↓iteN_false,iteN_true,iteN_false,Nat.zero_add,Nat.reduceEqDiff,decide_true,decide_false]
    exact rfl,⟨(by (simp only [s_getp,s_getp0,Nat.reduceEqDiff,decide_false,iteN_false,k0]; try rfl)),(by (simp only [s_getp,s_getp0,Nat.reduceEqDiff,decide_false,iteN_false,k3]; try rfl)),(by (simp only [s_getp,s_getp0,Nat.reduceEqDiff,decide_false,iteN_false,k4]; try rfl))⟩,(by (simp only [s_getp,s_getp0,Nat.reduceEqDiff,decide_false,iteN_false,ti]; try rfl)),(by (simp only [s_getp,s_getp0,Nat.reduceEqDiff,decide_false,iteN_false,tn]; try rfl)),(by (simp only [s_getp,s_getp0,Nat.reduceEqDiff,decide_false,iteN_false,tk]; try rfl)),(by (simp only [s_getp,s_getp0,Nat.reduceEqDiff,decide_false,iteN_false,tl]; try rfl)),(by (simp only [s_getp,decide_true,iteN_true]; try rfl)),sp2⟩
structure SyOut (B pd : Nat) (v0 v3 : V) (n : Nat) (h0 : H) (i : Nat) (T : Tr V) (h : H) : Prop where
  k : KX pd v0 v3 T
  tn : evO T (.t 110) = .int .i64 (n : Int)
  tk : evO T (.t 111) = .int .i64 (i : Int)
  sp : SpX B h0 h
theorem sxOut_out (Q : Orc) (mm : Nat) (hmm : 100001 < mm) (B pd : Nat) (P : List V) (v0 v3 : V) (n : Nat) (hn : n ≤ 1000) (h0 : H) (gp : h0.get pd = some (.cells P .rw)) (np : ∀ n,¬ ByB h0 pd n) (q off : Nat) (cs : List V) (md : Md) (gq : h0.get q = some (.cells cs md)) (nq : ∀ n,¬ ByB h0 q n) (cc : Option Nat) (hP : P[2]? = some (.slice (some (q,off)) n cc 2)) (at_ : ∀ i,i < n → ∃ bi l ci ei,cs[off + (i * 2 + 1)]? = some (.slice bi l ci ei) ∧ l ≤ 100000 ∧ ScX B h0 l bi ei) :
    ∀ i T h,i < n → SyOut B pd v0 v3 n h0 i T h → ∃ T' h',evC Q 143 mm none L_purserlaw06_TxReads_3 ⟨T,[],h⟩ = some (.normal,⟨T',[],h'⟩) ∧ SyOut B pd v0 v3 n h0 (i + 1) T' h' := by
  intro i T h hi ⟨⟨k0,k3,k4⟩,tn,tk,sp⟩
  obtain ⟨bi,l,ci,ei,cg,hl,sc⟩ := at_ i hi
  have gp' : h.get pd = some (.cells P .rw) := by rw [sp.fr pd (.inr np),gp]
  have gq' : h.get q = some (.cells cs md) := by rw [sp.fr q (.inr nq),gq]
  have c0 : decide ((i : Int) < (n : Int)) = true := decide_eq_true (by omega)
  have wi : wr .i64 ((i : Int) + 1) = ((i + 1 : Nat) : Int) := by rw [wr_i64 (by omega)]; omega
  have ix : idx (i : Int) n = some i := idxn hi
  have fin : ∀ T,SxOut B pd v0 v3 n h0 i l 0 T h → ∃ T' h',bindE (blockE 5 (blockE 6 (loopN (evC Q 143 mm none L_purserlaw06_TxReads_2) mm ⟨T,[],h⟩))) (evC Q 143 mm none R_purserlaw06_TxReads_1) = some (.normal,⟨T',[],h'⟩) ∧ SyOut B pd v0 v3 n h0 (i + 1) T' h' := by
    intro T1 I1
    obtain ⟨T2,h2,rr,⟨⟨k0,k3,k4⟩,ti,tn,tk,tl,tc,sp2⟩⟩ := loop_go (f := evC Q 143 mm none L_purserlaw06_TxReads_2) (SxOut B pd v0 v3 n h0 i l) l (.exit 6) (by intro h; cases h) (SxOut B pd v0 v3 n h0 i l l) (fun j T h hj I => sxOut_in Q mm B pd P v0 v3 n hn h0 gp np q off cs md gq nq cc hP i hi l hl bi ci ei cg sc j T h hj I) (fun T h' I => by
      obtain ⟨⟨k0,k3,k4⟩,ti,tn,tk,tl,tc,sp2⟩ := I
      have c1 : decide ((l : Int) < (l : Int)) = false := decide_eq_false (by omega)
      exact ⟨_,h',by
        simp (config := {maxSteps := 2000000}) (disch := first | omega | (simp only [List.length_cons,List.length_nil,List.length_append,List.length_drop]; omega)) only [L_purserlaw06_TxReads_2,tl,tc,c1,↓s_ops,↓s_seq,↓s_cond,↓s_exit,↓s_nil,↓s_op,↓s_bindS,s_bindS,↓s_bindE,s_bindE,s_bindE_exit,s_norm,↓s_condV,s_condV,↓s_getp,↓s_bin,s_same,b_lss,↓iteN_true,↓iteN_false,iteN_true,iteN_false,decide_true]
        exact rfl,⟨⟨(by (simp only [s_getp,Nat.reduceEqDiff,decide_false,iteN_false,k0]; try rfl)),(by (simp only [s_getp,Nat.reduceEqDiff,decide_false,iteN_false,k3]; try rfl)),(by (simp only [s_getp,Nat.reduceEqDiff,decide_false,iteN_false,k4]; try rfl))⟩,(by (simp only [s_getp,Nat.reduceEqDiff,decide_false,iteN_false,ti]; try rfl)),(by (simp only [s_getp,Nat.reduceEqDiff,decide_false,iteN_false,tn]; try rfl)),(by (simp only [s_getp,Nat.reduceEqDiff,decide_false,iteN_false,tk]; try rfl)),(by (simp only [s_getp,Nat.reduceEqDiff,decide_false,iteN_false,tl]; try rfl)),(by (simp only [s_getp,Nat.reduceEqDiff,decide_false,iteN_false,tc]; try rfl)),sp2⟩⟩) l 0 (by omega) mm (by omega) T1 h I1
    rw [rr]
    exact ⟨_,h2,by
      simp (config := {maxSteps := 2000000}) (disch := first | omega | (simp only [List.length_cons,List.length_nil,List.length_append,List.length_drop]; omega)) only [R_purserlaw06_TxReads_1,tk,wi,↓s_ops,↓s_nil,↓s_op,↓s_bindS,s_bindS,↓s_bindE,s_bindE,s_norm,s_block_normal,s_block_exit,↓s_getp,↓s_con,↓s_mov,↓s_bin,s_same,b_add,↓iteN_true,iteN_true,decide_true,if_true]
      exact rfl,⟨⟨(by (simp only [s_getp,Nat.reduceEqDiff,decide_false,iteN_false,k0]; try rfl)),(by (simp only [s_getp,Nat.reduceEqDiff,decide_false,iteN_false,k3]; try rfl)),(by (simp only [s_getp,Nat.reduceEqDiff,decide_false,iteN_false,k4]; try rfl))⟩,(by (simp only [s_getp,Nat.reduceEqDiff,decide_false,iteN_false,tn]; try rfl)),(by (simp only [s_getp,decide_true,iteN_true]; try rfl)),sp2⟩⟩
  obtain ⟨R,eR⟩ : ∃ R,R_purserlaw06_TxReads_1 = R := ⟨_,rfl⟩
  obtain ⟨Lo,eLo⟩ : ∃ R,L_purserlaw06_TxReads_2 = R := ⟨_,rfl⟩
  rw [eR,eLo] at fin
  have fin' := fun T q0 q1 q2 q3 q4 q5 q6 q7 => fin T ⟨⟨q0,q1,q2⟩,q3,q4,q5,q6,q7,sp⟩
  clear fin
  unfold L_purserlaw06_TxReads_3
  rw [eR,eLo]
  simp (config := {maxSteps := 2000000}) (disch := first | omega | (simp only [List.length_cons,List.length_nil,List.length_append,List.length_drop]; omega)) only [k4,tn,tk,gp',hP,c0,ix,gq',cg,m_load1,↓s_len,x_lenS,↓x_fieldAddr,x_fieldV,Nat.zero_add,↓l_loop,Nat.add_assoc,↓s_load,m_load,↓m_load1,m_load1,↓x_idxS,x_idxSE,x_addrE,x_lenS,↓s_len,↓s_skip,↓s_ops,↓s_seq,↓s_cond,↓s_block,↓s_nil,↓s_op,↓s_bindS,s_bindS,↓s_bindE,s_bindE,s_norm,↓s_condV,s_condV,↓s_getp,↓s_con,↓s_mov,↓s_bin,s_same,b_lss,↓iteN_true,↓iteN_false,iteN_true,iteN_false,Nat.zero_add,Nat.reduceEqDiff,decide_true,decide_false]
  exact fin' _ (by (simp only [s_getp,Nat.reduceEqDiff,decide_false,iteN_false,k0]; try rfl)) (by (simp only [s_getp,Nat.reduceEqDiff,decide_false,iteN_false,k3]; try rfl)) (by (simp only [s_getp,Nat.reduceEqDiff,decide_false,iteN_false,k4]; try rfl)) (by (simp only [s_getp,Nat.reduceEqDiff,decide_false,decide_true,iteN_false,iteN_true]; try rfl)) (by (simp only [s_getp,Nat.reduceEqDiff,decide_false,iteN_false,tn]; try rfl)) (by (simp only [s_getp,Nat.reduceEqDiff,decide_false,iteN_false,tk]; try rfl)) (by (simp only [s_getp,Nat.reduceEqDiff,decide_false,decide_true,iteN_false,iteN_true]; try rfl)) (by (simp only [s_getp,decide_true,iteN_true]; try rfl))
end Go.Eng
namespace Go.Eng
open Go
variable {E : Nat → Option Fn} {X : Orc}
set_option linter.unusedSimpArgs false
set_option linter.unusedVariables false
/-- bytes in new memory,and one more behind them (something new may come between) -/
theorem own7 (h : H) (b : List Nat) (hl : b.length ≤ 100000) : ∃ v h1,appendC (h.new (.cells [] .rw)) 1 1 (.slice (some (h.next,0)) 0 (some 0) 1) (some (b.length,ofI .u8 b)) = some (v,h1) ∧ Kp h h1 ∧
    ∀ h2,Kp h1 h2 → ∃ q h3,appendC h2 1 1 v (some (1,ofI .u8 [7])) = some (.slice (some (q,0)) (b.length + 1) none 1,h3) ∧ Kp h h3 ∧ SrcH h3 (some (q,0)) 1 (b ++ [7]) ∧ h.next ≤ q ∧ q < h3.next := by
  by_cases hb : b = []
  · subst hb
    have e0 : appendC (h.new (.cells [] .rw)) 1 1 (.slice (some (h.next,0)) 0 (some 0) 1) (some (([] : List Nat).length,ofI .u8 [])) = some (.slice (some (h.next,0)) 0 (some 0) 1,h.new (.cells [] .rw)) := appN _ _ _ _ _ _
    refine ⟨.slice (some (h.next,0)) 0 (some 0) 1,h.new (.cells [] .rw),e0,Kp.new _ _,fun h2 k2 => ?_⟩
    have n1 : (h.new (.cells [] .rw)).next = h.next + 1 := rfl
    have kn := k2.1
    have g : h2.get h.next = some (.cells [] .rw) := by rw [k2.2 _ (by omega)]; exact h_new_same _ _
    have k02 : Kp h h2 := (Kp.new h (.cells [] .rw)).trans k2
    refine ⟨h2.next,h2.new (.cells (ofI .u8 [7]) .rw),?_,k02.trans (Kp.new _ _),.inr ⟨h2.next,0,_,.rw,rfl,rfl,Nat.lt_succ_self _,h_new_same _ _,by rw [ofI_len]; simp,by rw [List.drop_zero]; exact List.take_of_length_le (by rw [ofI_len]; exact Nat.le_refl _)⟩,by omega,Nat.lt_succ_self _⟩
    unfold appendC
    simp only
    have r : (roomy (0 + 1) 1 && (Nat.beq 1 1 || (some (h.next,0) : Option (Nat × Nat)).isNone) && (ofI .u8 [7]).all plainV) = true := rfl
    have f : fullC (some 0) (0 + 1) = true := rfl
    rw [r]
    simp only [_root_.cond_true,g,f]
    have rd : readN ([] : List V) 0 (0 * 1) = some [] := rfl
    simp only [rd,List.nil_append,Nat.zero_add]
    rfl
  · obtain ⟨n,hn⟩ : ∃ n,b.length = n + 1 := ⟨b.length - 1,by have := List.length_pos_iff.2 hb; omega⟩
    have e0 := app_row h 1 1 b.length (ofI .u8 b) (by omega) (by simp [roomy]; omega) (plain_ofI _ _)
    obtain ⟨h1,eh1⟩ : ∃ h1,(h.new (.cells [] .rw)).new (.cells (ofI .u8 b) .rw) = h1 := ⟨_,rfl⟩
    rw [eh1] at e0
    have k1 : Kp h h1 := by rw [← eh1]; (repeat (first | exact Kp.refl _ | refine Kp.put ?_ _ (by first | omega | (simp only [h_next_put,h_next_new,h_next_del]; omega)) | refine Kp.del ?_ (by first | omega | (simp only [h_next_put,h_next_new,h_next_del]; omega)) | refine Kp.trans ?_ (Kp.new _ _)))
    have n1 : h1.next = h.next + 2 := by rw [← eh1]; rfl
    have wb : Wb h1 b (some (h.next + 1,0)) none 1 := .inr ⟨by omega,h.next + 1,.rw,rfl,rfl,rfl,by rw [← eh1]; exact h_new_same _ _,rfl,by omega⟩
    refine ⟨_,h1,e0,k1,fun h2 k2 => ?_⟩
    have kn := k2.1
    obtain ⟨a',c',e',h3,r,wb3,nx,fr,ow⟩ := ap_wb h2 b [7] (some (h.next + 1,0)) none 1 (wb.kp k2) (by simp; omega)
    rcases id wb3 with ⟨h0,_⟩ | ⟨_,q,md,e1,e2,e3,g3,hm,hq⟩
    · simp at h0
    · subst e1 e2 e3
      have hql : h.next ≤ q := by
        rcases ow with o | o
        · cases o; omega
        · cases o; omega
      have r' : appendC h2 1 1 (.slice (some (h.next + 1,0)) b.length none 1) (some (1,ofI .u8 [7])) = some (.slice (some (q,0)) (b.length + 1) none 1,h3) := by rw [List.length_append] at r; exact r
      exact ⟨q,h3,r',⟨by omega,fun j hj => by rw [fr j (by omega) (by intro hh; cases hh; omega),k2.2 _ (by omega),k1.2 _ hj]⟩,wb3.src,hql,hq⟩
end Go.Eng
namespace Go.Eng
open Go
variable {E : Nat → Option Fn} {X : Orc}
set_option linter.unusedSimpArgs false
set_option linter.unusedVariables false
def tx0 : TxQ := ⟨0,[],[],0⟩
theorem tx0_ok : tx0.ok := by constructor <;> simp [tx0]
theorem tx0_gt : gtOk tx0 := ⟨by simp [tx0],by simp [tx0],by simp [tx0],by simp [tx0]⟩
theorem tx0_X (S : Nat → Prop) (h : H) : TxX S h tx0 Z4 := ⟨none,none,some 0,some 0,0,0,rfl,.inl rfl,.inl rfl⟩
theorem pair_first (er : EnRr E) (xr : NoRr X) (ed : EnDr E) (xd : NoDr X) (N : Nat) (hN : 100 < N) (l : List Nat) (bl : byt l = true) (hl : l.length ≤ 100000000) :
    ∃ (t : TxQ) (n z : Int),t.ok ∧ gtOk t ∧ (∀ h a0 c0 e0,(l ≠ [] → c0 = none ∧ e0 = 1) → SrcH h a0 e0 l → ∃ h' P,callX E X (N + 25) (.fn k_tx_First) [.slice a0 l.length c0 e0] h = some (.tup [.agg P,.int .i64 n,.int .i64 z],h') ∧ Kp h h' ∧ TxX (fun j => h.next ≤ j) h' t P) ∧
      (∀ h a0,SrcH h a0 1 l → ∃ h' P,callX E X (N + 25) (.fn k_purserref06_First) [.slice a0 l.length none 1] h = some (.tup [.agg P,.int .i64 n,.int .i64 z],h') ∧ Kp h h' ∧ TxC (fun j => h.next ≤ j) h' t P) := by
  cases f : (rxT l).2.2 with
  | false =>
    obtain ⟨_,_,ok,ck⟩ := t_at l bl f
    refine ⟨(rxT l).1,((rxT l).2.1 : Nat),0,ok,gt_of ck,fun h a0 c0 e0 hc src => ?_,fun h a0 src => ?_⟩
    · obtain ⟨h',P,r,k,tx,_,_⟩ := txfirst_gow er xr (N + 3) (by omega) l bl hl a0 c0 e0 hc h src
      rw [rdRes_t l P f] at r
      exact ⟨h',P,r,k,tx⟩
    · rcases dfirst_go ed xd N hN l bl hl a0 h src with ⟨_,_,h',a,b,ca,cb,ea,eb,r,k,ra,rb⟩ | ⟨f',_⟩
      · refine ⟨h',_,r,k,a,b,ca,cb,ea,eb,rfl,?_,?_⟩
        · exact (ra.row itIn).mono2 itIn (Nat.le_refl _) (fun _ _ _ => rfl) (fun j hj _ => by rcases hj with hj | hj <;> exact hj)
        · exact (rb.row itOut).mono2 itOut (Nat.le_refl _) (fun _ _ _ => rfl) (fun j hj _ => by rcases hj with hj | hj <;> exact hj)
      · rw [f] at f'; cases f'
  | true =>
    refine ⟨tx0,0,60,tx0_ok,tx0_gt,fun h a0 c0 e0 hc src => ?_,fun h a0 src => ?_⟩
    · obtain ⟨h',P,r,k,tx,_,_⟩ := txfirst_gow er xr (N + 3) (by omega) l bl hl a0 c0 e0 hc h src
      rw [rdRes_f l P f] at r
      exact ⟨h',Z4,r,k,tx0_X _ _⟩
    · rcases dfirst_go ed xd N hN l bl hl a0 h src with ⟨f',_⟩ | ⟨_,h',r,k⟩
      · rw [f] at f'; cases f'
      · exact ⟨h',Z4,r,k,(tx0_X _ _).c⟩
theorem pair_dec (er : EnRr E) (xr : NoRr X) (ed : EnDr E) (xd : NoDr X) (N : Nat) (hN : 100 < N) (l : List Nat) (bl : byt l = true) (hl : l.length ≤ 100000000) :
    ∃ (t : TxQ) (z : Int),t.ok ∧ gtOk t ∧ (∀ h a0 c0 e0,(l ≠ [] → c0 = none ∧ e0 = 1) → SrcH h a0 e0 l → ∃ h' P,callX E X (N + 26) (.fn k_tx_Decode) [.slice a0 l.length c0 e0] h = some (.tup [.agg P,.int .i64 z],h') ∧ Kp h h' ∧ TxC (fun j => h.next ≤ j) h' t P) ∧
      (∀ h a0,SrcH h a0 1 l → ∃ h' P,callX E X (N + 26) (.fn k_purserref06_Decode) [.slice a0 l.length none 1] h = some (.tup [.agg P,.int .i64 z],h') ∧ Kp h h' ∧ TxC (fun j => h.next ≤ j) h' t P) := by
  by_cases f : (rxT l).2 = (l.length,false)
  · obtain ⟨_,_,ok,ck⟩ := t_at l bl (by rw [f])
    refine ⟨(rxT l).1,0,ok,gt_of ck,fun h a0 c0 e0 hc src => ?_,fun h a0 src => ?_⟩
    · obtain ⟨h',k,⟨_,P,r,tx⟩ | ⟨f',_⟩⟩ := txdecode_go er xr (N + 3) (by omega) l bl hl a0 c0 e0 hc h src
      · exact ⟨h',P,r,k,tx⟩
      · exact absurd f f'
    · obtain ⟨h',k,⟨_,P,r,tx⟩ | ⟨f',_⟩⟩ := ddecode_go ed xd N hN l bl hl a0 h src
      · exact ⟨h',P,r,k,tx⟩
      · exact absurd f f'
  · refine ⟨tx0,60,tx0_ok,tx0_gt,fun h a0 c0 e0 hc src => ?_,fun h a0 src => ?_⟩
    · obtain ⟨h',k,⟨f',_⟩ | ⟨_,r⟩⟩ := txdecode_go er xr (N + 3) (by omega) l bl hl a0 c0 e0 hc h src
      · exact absurd f' f
      · exact ⟨h',Z4,r,k,(tx0_X _ _).c⟩
    · obtain ⟨h',k,⟨f',_⟩ | ⟨_,r⟩⟩ := ddecode_go ed xd N hN l bl hl a0 h src
      · exact absurd f' f
      · exact ⟨h',Z4,r,k,(tx0_X _ _).c⟩
end Go.Eng
namespace Go.Eng
open Go
variable {E : Nat → Option Fn} {X : Orc}
set_option linter.unusedSimpArgs false
set_option linter.unusedVariables false
theorem noB_u32 (h : H) (k : Nat) (x : Int) (r : List V) (md : Md) (g : h.get k = some (.cells (.int .u32 x :: r) md)) : ∀ n,¬ ByB h k n := by
  rintro n ⟨l,m,g2,_,_⟩
  rw [g] at g2
  simp only [Option.some.injEq,Blk.cells.injEq] at g2
  cases l with
  | nil => exact absurd g2.1 (by simp [ofI])
  | cons a t => have := g2.1; simp [ofI] at this
theorem noB_slc (h : H) (k j : Nat) (vs : List V) (md : Md) (g : h.get k = some (.cells vs md)) (a : Option (Nat × Nat)) (n : Nat) (c : Option Nat) (e : Nat) (hj : vs[j]? = some (.slice a n c e)) : ∀ n,¬ ByB h k n := by
  rintro n' ⟨l,m,g2,_,_⟩
  rw [g] at g2
  simp only [Option.some.injEq,Blk.cells.injEq] at g2
  rw [g2.1] at hj
  by_cases hl : j < l.length
  · rw [ofI_get _ _ _ hl] at hj; cases hj
  · rw [List.getElem?_eq_none (by rw [ofI_len]; omega)] at hj; cases hj
theorem scX_of {B : Nat} {h : H} {a : Option (Nat × Nat)} {e : Nat} {l : List Nat} (s : SrcX (fun j => B ≤ j) h a e l) : ScX B h l.length a e := by
  rcases s with s | ⟨bi,m,e1,e2,hk,hb,g,hm⟩
  · left; rw [s]; rfl
  · exact .inr ⟨bi,e1,e2,hk,l,m,g,hm,rfl⟩
theorem rowIn_at {B : Nat} {h : H} {ops : List InQ} {q off : Nat} {vs : List V} (at_ : ∀ (i : Nat) (o : InQ),ops[i]? = some o → InX (fun j => B ≤ j) h o ((vs.drop (off + i * 35)).take 35)) (sc : ∀ o ∈ ops,o.l.length ≤ 2100) : ∀ i,i < ops.length → ∃ bi l ci ei,vs[off + (i * 35 + 33)]? = some (.slice bi l ci ei) ∧ l ≤ 100000 ∧ ScX B h l bi ei := by
  intro i hi
  have ho := List.getElem?_eq_getElem hi
  obtain ⟨b,cb,eb,e,s,l32⟩ := at_ i _ ho
  have m := sc _ (List.mem_of_getElem? ho)
  refine ⟨b,_,cb,eb,?_,by omega,scX_of s⟩
  have := congrArg (fun z : List V => z[33]?) e
  replace this : ((vs.drop (off + i * 35)).take 35)[33]? = (inV ops[i] b cb eb)[33]? := this
  rw [inV_33 _ b cb eb l32,List.getElem?_take_of_lt (by omega),List.getElem?_drop] at this
  rw [← this]; congr 1
theorem rowOut_at {B : Nat} {h : H} {ops : List OutQ} {q off : Nat} {vs : List V} (at_ : ∀ (i : Nat) (o : OutQ),ops[i]? = some o → OutX (fun j => B ≤ j) h o ((vs.drop (off + i * 2)).take 2)) (sc : ∀ o ∈ ops,o.l.length ≤ 2100) : ∀ i,i < ops.length → ∃ bi l ci ei,vs[off + (i * 2 + 1)]? = some (.slice bi l ci ei) ∧ l ≤ 100000 ∧ ScX B h l bi ei := by
  intro i hi
  have ho := List.getElem?_eq_getElem hi
  obtain ⟨b,cb,eb,e,s⟩ := at_ i _ ho
  have m := sc _ (List.mem_of_getElem? ho)
  refine ⟨b,_,cb,eb,?_,by omega,scX_of s⟩
  have : ((vs.drop (off + i * 2)).take 2)[1]? = ([.int .i64 ops[i].v,.slice b ops[i].l.length cb eb] : List V)[1]? := by rw [e]
  rw [List.getElem?_take_of_lt (by omega),List.getElem?_drop] at this
  rw [show off + (i * 2 + 1) = off + i * 2 + 1 by omega,this]; rfl
/-- both loops -/
theorem sxBoth_go (Q : Orc) (mm : Nat) (hmm : 200001 < mm) (B pd : Nat) (t : TxQ) (gok : gtOk t) (v0 v3 : V) (P : List V) (h0 : H) (gp : h0.get pd = some (.cells P .rw)) (tx : TxX (fun j => B ≤ j) h0 t P) (T : Tr V) (k : KX pd v0 v3 T) (tn : evO T (.t 81) = .int .i64 (t.ins.length : Int)) (tk : evO T (.t 82) = .int .i64 ((0 : Nat) : Int))
    (Rr : Option (Ex × St) → Prop) (rest : ∀ T h,KX pd v0 v3 T → SpX B h0 h → Rr (evC Q 143 mm none R_purserlaw06_TxReads_2 ⟨T,[],h⟩)) :
    Rr (bindE (blockE 0 (loopN (evC Q 143 mm none L_purserlaw06_TxReads_1) mm ⟨T,[],h0⟩)) (evC Q 143 mm none R_purserlaw06_TxReads_3)) := by
  obtain ⟨a,b,ca,cb,ea,eb,eP,ra,rb⟩ := tx
  obtain ⟨gi,go_,si,so⟩ := gok
  have np : ∀ n,¬ ByB h0 pd n := by rw [eP] at gp; exact noB_u32 _ _ _ _ _ gp
  have P1 : P[1]? = some (.slice a t.ins.length ca ea) := by rw [eP]; rfl
  have P2 : P[2]? = some (.slice b t.outs.length cb eb) := by rw [eP]; rfl
  have stepI : ∀ i T h,i < t.ins.length → SyIn B pd v0 v3 t.ins.length h0 i T h → ∃ T' h',evC Q 143 mm none L_purserlaw06_TxReads_1 ⟨T,[],h⟩ = some (.normal,⟨T',[],h'⟩) ∧ SyIn B pd v0 v3 t.ins.length h0 (i + 1) T' h' := by
    rcases ra with e | ⟨q,off,vs,md,e1,e2,hs,hq,gq,hl,at_⟩
    · intro i T h hi; rw [e] at hi; simp at hi
    · subst e1 e2
      intro i T h hi
      have A := rowIn_at (q := q) at_ si
      obtain ⟨bi,l,ci,ei,c33,_⟩ := A i hi
      exact sxIn_out Q mm (by omega) B pd P v0 v3 _ (by omega) h0 gp np q off vs md gq (noB_slc _ _ _ _ _ gq _ _ _ _ c33) ca P1 A i T h hi
  have stepO : ∀ i T h,i < t.outs.length → SyOut B pd v0 v3 t.outs.length h0 i T h → ∃ T' h',evC Q 143 mm none L_purserlaw06_TxReads_3 ⟨T,[],h⟩ = some (.normal,⟨T',[],h'⟩) ∧ SyOut B pd v0 v3 t.outs.length h0 (i + 1) T' h' := by
    rcases rb with e | ⟨q,off,vs,md,e1,e2,hs,hq,gq,hl,at_⟩
    · intro i T h hi; rw [e] at hi; simp at hi
    · subst e1 e2
      intro i T h hi
      have A := rowOut_at (q := q) at_ so
      obtain ⟨bi,l,ci,ei,c33,_⟩ := A i hi
      exact sxOut_out Q mm (by omega) B pd P v0 v3 _ (by omega) h0 gp np q off vs md gq (noB_slc _ _ _ _ _ gq _ _ _ _ c33) cb P2 A i T h hi
  obtain ⟨T1,h1,rr,⟨⟨k0,k3,k4⟩,tn1,tk1,sp1⟩⟩ := loop_go (f := evC Q 143 mm none L_purserlaw06_TxReads_1) (SyIn B pd v0 v3 t.ins.length h0) t.ins.length (.exit 0) (by intro h; cases h) (SyIn B pd v0 v3 t.ins.length h0 t.ins.length) stepI (fun T h I => by
    obtain ⟨⟨k0,k3,k4⟩,tn,tk,sp⟩ := I
    have c1 : decide ((t.ins.length : Int) < (t.ins.length : Int)) = false := decide_eq_false (by omega)
    exact ⟨_,h,by
      simp (config := {maxSteps := 2000000}) (disch := first | omega | (simp only [List.length_cons,List.length_nil,List.length_append,List.length_drop]; omega)) only [L_purserlaw06_TxReads_1,tn,tk,c1,↓s_ops,↓s_seq,↓s_cond,↓s_exit,↓s_nil,↓s_op,↓s_bindS,s_bindS,↓s_bindE,s_bindE,s_bindE_exit,s_norm,↓s_condV,s_condV,↓s_getp,↓s_bin,s_same,b_lss,↓iteN_true,↓iteN_false,iteN_true,iteN_false,decide_true]
      exact rfl,⟨⟨(by (simp only [s_getp,Nat.reduceEqDiff,decide_false,iteN_false,k0]; try rfl)),(by (simp only [s_getp,Nat.reduceEqDiff,decide_false,iteN_false,k3]; try rfl)),(by (simp only [s_getp,Nat.reduceEqDiff,decide_false,iteN_false,k4]; try rfl))⟩,(by (simp only [s_getp,Nat.reduceEqDiff,decide_false,iteN_false,tn]; try rfl)),(by (simp only [s_getp,Nat.reduceEqDiff,decide_false,iteN_false,tk]; try rfl)),sp⟩⟩) t.ins.length 0 (by omega) mm (by omega) T h0 ⟨k,tn,tk,SpX.refl _ _⟩
  rw [rr]
  have gp1 : h1.get pd = some (.cells P .rw) := by rw [sp1.fr pd (.inr np),gp]
  have fin : ∀ T,SyOut B pd v0 v3 t.outs.length h0 0 T h1 → Rr (bindE (blockE 4 (loopN (evC Q 143 mm none L_purserlaw06_TxReads_3) mm ⟨T,[],h1⟩)) (evC Q 143 mm none R_purserlaw06_TxReads_2)) := by
    intro T2 I2
    obtain ⟨T3,h3,rr3,⟨k',tn3,tk3,sp3⟩⟩ := loop_go (f := evC Q 143 mm none L_purserlaw06_TxReads_3) (SyOut B pd v0 v3 t.outs.length h0) t.outs.length (.exit 4) (by intro h; cases h) (SyOut B pd v0 v3 t.outs.length h0 t.outs.length) stepO (fun T h I => by
      obtain ⟨⟨k0,k3,k4⟩,tn,tk,sp⟩ := I
      have c1 : decide ((t.outs.length : Int) < (t.outs.length : Int)) = false := decide_eq_false (by omega)
      exact ⟨_,h,by
        simp (config := {maxSteps := 2000000}) (disch := first | omega | (simp only [List.length_cons,List.length_nil,List.length_append,List.length_drop]; omega)) only [L_purserlaw06_TxReads_3,tn,tk,c1,↓s_ops,↓s_seq,↓s_cond,↓s_exit,↓s_nil,↓s_op,↓s_bindS,s_bindS,↓s_bindE,s_bindE,s_bindE_exit,s_norm,↓s_condV,s_condV,↓s_getp,↓s_bin,s_same,b_lss,↓iteN_true,↓iteN_false,iteN_true,iteN_false,decide_true]
        exact rfl,⟨⟨(by (simp only [s_getp,Nat.reduceEqDiff,decide_false,iteN_false,k0]; try rfl)),(by (simp only [s_getp,Nat.reduceEqDiff,decide_false,iteN_false,k3]; try rfl)),(by (simp only [s_getp,Nat.reduceEqDiff,decide_false,iteN_false,k4]; try rfl))⟩,(by (simp only [s_getp,Nat.reduceEqDiff,decide_false,iteN_false,tn]; try rfl)),(by (simp only [s_getp,Nat.reduceEqDiff,decide_false,iteN_false,tk]; try rfl)),sp⟩⟩) t.outs.length 0 (by omega) mm (by omega) T2 h1 I2
    rw [rr3]
    exact rest T3 h3 k' sp3
  obtain ⟨R,eR⟩ : ∃ R,R_purserlaw06_TxReads_2 = R := ⟨_,rfl⟩
  obtain ⟨Lo,eLo⟩ : ∃ R,L_purserlaw06_TxReads_3 = R := ⟨_,rfl⟩
  rw [eR,eLo] at fin
  have fin' := fun T q0 q1 q2 q3 q4 => fin T ⟨⟨q0,q1,q2⟩,q3,q4,sp1⟩
  clear fin
  unfold R_purserlaw06_TxReads_3
  rw [eR,eLo]
  simp (config := {maxSteps := 2000000}) (disch := first | omega | (simp only [List.length_cons,List.length_nil,List.length_append,List.length_drop]; omega)) only [k4,gp1,P2,m_load1,↓s_len,x_lenS,↓x_fieldAddr,x_fieldV,Nat.zero_add,↓l_loop,↓s_load,m_load,↓m_load1,m_load1,x_lenS,↓s_len,↓s_ops,↓s_seq,↓s_block,↓s_nil,↓s_op,↓s_bindS,s_bindS,↓s_bindE,s_bindE,s_norm,s_block_exit,↓s_getp,↓s_con,↓s_mov,s_same,↓iteN_true,iteN_true,Nat.zero_add,decide_true,if_true]
  exact fin' _ (by (simp only [s_getp,Nat.reduceEqDiff,decide_false,iteN_false,k0]; try rfl)) (by (simp only [s_getp,Nat.reduceEqDiff,decide_false,iteN_false,k3]; try rfl)) (by (simp only [s_getp,Nat.reduceEqDiff,decide_false,iteN_false,k4]; try rfl)) (by (simp only [s_getp,Nat.reduceEqDiff,decide_false,decide_true,iteN_false,iteN_true]; try rfl)) (by (simp only [s_getp,decide_true,iteN_true]; try rfl))
end Go.Eng
namespace Go.Eng
open Go
variable {E : Nat → Option Fn} {X : Orc}
set_option linter.unusedSimpArgs false
set_option linter.unusedVariables false
structure EnTr (E : Nat → Option Fn) : Prop where
  rr : EnRr E
  dr : EnDr E
  db : EnDb E
theorem noRr_x : NoRr noX := by repeat' (first | exact fun _ _ => rfl | exact fun _ _ _ => rfl | exact fun _ => rfl | constructor)
theorem noDr_x : NoDr noX := by repeat' (first | exact fun _ _ => rfl | exact fun _ _ _ => rfl | exact fun _ => rfl | constructor)
theorem noDb_x : NoDb noX := by repeat' (first | exact fun _ _ => rfl | exact fun _ _ _ => rfl | exact fun _ => rfl | constructor)
set_option maxRecDepth 100000 in
set_option maxHeartbeats 4000000 in
theorem law_TxReads (e : EnTr E) (el : E k_purserlaw06_TxReads = some f_purserlaw06_TxReads) (M : Nat) (hM : 2000000 < M) (l : List Nat) (bl : byt l = true) (a : Option (Nat × Nat)) (h : H) (src : SrcH h a 1 l) :
    ∃ h2,callX E noX (M + 200) (.fn k_purserlaw06_TxReads) [.slice a l.length none 1] h = some (.bool true,h2) := by
  rw [x_cfn el _ _ (Nat.le_of_ble_eq_true rfl) rfl]
  rw [show ([.int .u32 0,.slice none 0 (some 0) 0,.slice none 0 (some 0) 0,.int .u32 0] : List V) = Z4 from rfl]
  by_cases hl : 5000 < l.length
  · have d1 : decide ((5000 : Int) < (l.length : Int)) = true := decide_eq_true (by omega)
    simp (config := {maxSteps := 2000000}) (disch := first | omega | (simp only [List.length_cons,List.length_nil,List.length_append,List.length_drop]; omega)) only [d1,↓s_len,x_lenS,x_lenS,↓s_len,s_res0,↓s_ops,↓s_seq,↓s_cond,↓s_ret,↓s_nil,↓s_op,↓s_bindS,s_bindS,↓s_bindE,s_bindE,s_bindE_ret,s_norm,↓s_condV,s_condV,↓s_getp,↓s_get,↓s_con,↓s_list0,↓s_list1,↓s_mov,↓s_bin,s_same,b_gtr,s_end,s_res0,s_res1,s_tup1,↓iteN_true,↓iteN_false,iteN_true,iteN_false,Nat.reduceEqDiff,decide_true,decide_false]
    exact ⟨_,rfl⟩
  have d1 : decide ((5000 : Int) < (l.length : Int)) = false := decide_eq_false (by omega)
  obtain ⟨v,h1,r1,k1,own⟩ := own7 h l (by omega)
  have sc0 : srcCells (h.new (.cells [] .rw)) 1 (.slice a l.length none 1) = some (l.length,ofI .u8 l) := (src.mono (Kp.new _ _)).cellz none
  obtain ⟨hN,ehN⟩ : ∃ hN,h.new (.cells [] .rw) = hN := ⟨_,rfl⟩
  rw [ehN] at r1 sc0
  obtain ⟨h2,eh2⟩ : ∃ h2,h1.new (.cells [.int .u8 7] .rw) = h2 := ⟨_,rfl⟩
  have k2 : Kp h1 h2 := by rw [← eh2]; exact Kp.new _ _
  have sc7 : srcCells h2 1 (.slice (some (h1.next,0)) 1 (some 1) 1) = some (1,ofI .u8 [7]) := by rw [← eh2,m_src,h_new_same]; rfl
  obtain ⟨q,h3,r3,k3,s3,lq,qlt⟩ := own h2 k2
  have so : SrcH h3 (some (q,0)) 1 l := by
    have := s3.take l.length
    rw [List.take_left' rfl] at this; exact this
  have sv : slcV 1 none (some (.int .i64 (l.length : Int))) none (.slice (some (q,0)) (l.length + 1) none 1) = some (.slice (some (q,0)) l.length none 1) := slcV_hiU _ _ _ _ _ (by omega)
  obtain ⟨t,n,z,ok,gok,cF,dF⟩ := pair_first (X := noX) e.rr noRr_x e.dr noDr_x (M + 174) (by omega) l bl (by omega)
  obtain ⟨u,z2,uok,guk,cD,dD⟩ := pair_dec (X := noX) e.rr noRr_x e.dr noDr_x (M + 173) (by omega) l bl (by omega)
  obtain ⟨h4,P1,r4,k4,x4⟩ := cF h3 (some (q,0)) none 1 (fun _ => ⟨rfl,rfl⟩) so
  replace r4 : callX E noX (M + 199) (.fn k_tx_First) _ h3 = _ := r4
  have kn4 := k4.1
  obtain ⟨p1,ep1⟩ : ∃ p,h4.next = p := ⟨_,rfl⟩
  obtain ⟨g4,eg4⟩ : ∃ g,(h4.new (.cells Z4 .rw)).put p1 (.cells P1 .rw) = g := ⟨_,rfl⟩
  have kg4 : Kp h4 g4 := by rw [← eg4]; (repeat (first | exact Kp.refl _ | refine Kp.put ?_ _ (by first | omega | (simp only [h_next_put,h_next_new,h_next_del]; omega)) | refine Kp.del ?_ (by first | omega | (simp only [h_next_put,h_next_new,h_next_del]; omega)) | refine Kp.trans ?_ (Kp.new _ _)))
  have n4 : g4.next = p1 + 1 := by rw [← eg4,← ep1]; rfl
  have gd4 : g4.get p1 = some (.cells P1 .rw) := by rw [← eg4]; exact h_put_same _ _ _
  have gz4 : (h4.new (.cells Z4 .rw)).get p1 = some (.cells Z4 .rw) := by rw [← ep1]; exact h_new_same _ _
  have st1 := fun h i => fit_st x4.fit h i
  have pu1 := fun h i => fit_put x4.fit h i Z4 rfl
  have ld1 := fun m => fit_ld x4.fit m
  have K34 : Kp h3 g4 := k4.trans kg4
  obtain ⟨h5,P2,r5,k5,x5⟩ := dF g4 a (src.mono (k3.trans K34))
  replace r5 : callX E noX (M + 199) (.fn k_purserref06_First) _ g4 = _ := r5
  have kn5 := k5.1
  obtain ⟨p2,ep2⟩ : ∃ p,h5.next = p := ⟨_,rfl⟩
  obtain ⟨g5,eg5⟩ : ∃ g,(h5.new (.cells Z4 .rw)).put p2 (.cells P2 .rw) = g := ⟨_,rfl⟩
  have kg5 : Kp h5 g5 := by rw [← eg5]; (repeat (first | exact Kp.refl _ | refine Kp.put ?_ _ (by first | omega | (simp only [h_next_put,h_next_new,h_next_del]; omega)) | refine Kp.del ?_ (by first | omega | (simp only [h_next_put,h_next_new,h_next_del]; omega)) | refine Kp.trans ?_ (Kp.new _ _)))
  have n5 : g5.next = p2 + 1 := by rw [← eg5,← ep2]; rfl
  have gd5 : g5.get p2 = some (.cells P2 .rw) := by rw [← eg5]; exact h_put_same _ _ _
  have gz5 : (h5.new (.cells Z4 .rw)).get p2 = some (.cells Z4 .rw) := by rw [← ep2]; exact h_new_same _ _
  have st2 := fun h i => fit_st x5.fit h i
  have pu2 := fun h i => fit_put x5.fit h i Z4 rfl
  have ld2 := fun m => fit_ld x5.fit m
  have K45 : Kp g4 g5 := k5.trans kg5
  obtain ⟨h6,P3,r6,k6,x6⟩ := cD g5 (some (q,0)) none 1 (fun _ => ⟨rfl,rfl⟩) (so.mono (K34.trans K45))
  replace r6 : callX E noX (M + 199) (.fn k_tx_Decode) _ g5 = _ := r6
  have kn6 := k6.1
  obtain ⟨p3,ep3⟩ : ∃ p,h6.next = p := ⟨_,rfl⟩
  obtain ⟨g6,eg6⟩ : ∃ g,(h6.new (.cells Z4 .rw)).put p3 (.cells P3 .rw) = g := ⟨_,rfl⟩
  have kg6 : Kp h6 g6 := by rw [← eg6]; (repeat (first | exact Kp.refl _ | refine Kp.put ?_ _ (by first | omega | (simp only [h_next_put,h_next_new,h_next_del]; omega)) | refine Kp.del ?_ (by first | omega | (simp only [h_next_put,h_next_new,h_next_del]; omega)) | refine Kp.trans ?_ (Kp.new _ _)))
  have n6 : g6.next = p3 + 1 := by rw [← eg6,← ep3]; rfl
  have gd6 : g6.get p3 = some (.cells P3 .rw) := by rw [← eg6]; exact h_put_same _ _ _
  have gz6 : (h6.new (.cells Z4 .rw)).get p3 = some (.cells Z4 .rw) := by rw [← ep3]; exact h_new_same _ _
  have st3 := fun h i => fit_st x6.fit h i
  have pu3 := fun h i => fit_put x6.fit h i Z4 rfl
  have ld3 := fun m => fit_ld x6.fit m
  have K56 : Kp g5 g6 := k6.trans kg6
  obtain ⟨h7,P4,r7,k7,x7⟩ := dD g6 a (src.mono (((k3.trans K34).trans K45).trans K56))
  replace r7 : callX E noX (M + 199) (.fn k_purserref06_Decode) _ g6 = _ := r7
  have kn7 := k7.1
  obtain ⟨p4,ep4⟩ : ∃ p,h7.next = p := ⟨_,rfl⟩
  obtain ⟨g7,eg7⟩ : ∃ g,(h7.new (.cells Z4 .rw)).put p4 (.cells P4 .rw) = g := ⟨_,rfl⟩
  have kg7 : Kp h7 g7 := by rw [← eg7]; (repeat (first | exact Kp.refl _ | refine Kp.put ?_ _ (by first | omega | (simp only [h_next_put,h_next_new,h_next_del]; omega)) | refine Kp.del ?_ (by first | omega | (simp only [h_next_put,h_next_new,h_next_del]; omega)) | refine Kp.trans ?_ (Kp.new _ _)))
  have n7 : g7.next = p4 + 1 := by rw [← eg7,← ep4]; rfl
  have gd7 : g7.get p4 = some (.cells P4 .rw) := by rw [← eg7]; exact h_put_same _ _ _
  have gz7 : (h7.new (.cells Z4 .rw)).get p4 = some (.cells Z4 .rw) := by rw [← ep4]; exact h_new_same _ _
  have st4 := fun h i => fit_st x7.fit h i
  have pu4 := fun h i => fit_put x7.fit h i Z4 rfl
  have ld4 := fun m => fit_ld x7.fit m
  have K67 : Kp g6 g7 := k7.trans kg7
  have K47 : Kp g4 g7 := (K45.trans K56).trans K67
  have K57 : Kp g5 g7 := K56.trans K67
  have c1 : TxC (fun j => j < g7.next) g7 t P1 := itTx.mono x4.c (by have := kg4.1; have := K47.1; omega) (fun j _ hj => by rw [K47.2 _ (by have := kg4.1; omega),kg4.2 _ hj]) (fun j _ hj => by have := kg4.1; have := K47.1; omega)
  have c2 : TxC (fun j => j < g7.next) g7 t P2 := itTx.mono x5 (by have := kg5.1; have := K57.1; omega) (fun j _ hj => by rw [K57.2 _ (by have := kg5.1; omega),kg5.2 _ hj]) (fun j _ hj => by have := kg5.1; have := K57.1; omega)
  obtain ⟨h8,r8,k8⟩ := dsame6_go e.db noDb_x (M + 175) (by omega) t t ok ok gok gok P1 P2 g7 c1 c2
  replace r8 : callX E noX (M + 199) (.fn k_purserref06_Same) _ g7 = _ := r8
  rw [decide_eq_true rfl] at r8
  have K78 : Kp g7 h8 := k8
  have c3 : TxC (fun j => j < h8.next) h8 u P3 := itTx.mono x6 (by have := kg6.1; have := K67.1; have := k8.1; omega) (fun j _ hj => by rw [k8.2 _ (by have := kg6.1; have := K67.1; omega),K67.2 _ (by have := kg6.1; omega),kg6.2 _ hj]) (fun j _ hj => by have := kg6.1; have := K67.1; have := k8.1; omega)
  have c4 : TxC (fun j => j < h8.next) h8 u P4 := itTx.mono x7 (by have := kg7.1; have := k8.1; omega) (fun j _ hj => by rw [k8.2 _ (by have := kg7.1; omega),kg7.2 _ hj]) (fun j _ hj => by have := kg7.1; have := k8.1; omega)
  obtain ⟨h9,r9,k9⟩ := dsame6_go e.db noDb_x (M + 175) (by omega) u u uok uok guk guk P3 P4 h8 c3 c4
  replace r9 : callX E noX (M + 199) (.fn k_purserref06_Same) _ h8 = _ := r9
  rw [decide_eq_true rfl] at r9
  have K49 : Kp g4 h9 := (K47.trans k8).trans k9
  have K39 : Kp h3 h9 := K34.trans K49
  have x9 : TxX (fun j => h3.next ≤ j) h9 t P1 := itTxX.mono x4 (by have := kg4.1; have := K49.1; omega) (fun j _ hj => by rw [K49.2 _ (by have := kg4.1; omega),kg4.2 _ hj]) (fun j hj _ => hj)
  have gp9 : h9.get p1 = some (.cells P1 .rw) := by rw [K49.2 _ (by omega),gd4]
  have i71 : g7.get p1 = some (.cells P1 .rw) := by rw [K47.2 _ (by omega),gd4]
  have i72 : g7.get p2 = some (.cells P2 .rw) := by rw [K57.2 _ (by omega),gd5]
  have i83 : h8.get p3 = some (.cells P3 .rw) := by rw [k8.2 _ (by have := K67.1; omega),K67.2 _ (by omega),gd6]
  have i84 : h8.get p4 = some (.cells P4 .rw) := by rw [k8.2 _ (by omega),gd7]
  obtain ⟨ra,rb,rca,rcb,rea,reb,eP1,_,_⟩ := id x9
  have P11 : P1[1]? = some (.slice ra t.ins.length rca rea) := by rw [eP1]; rfl
  have fin := fun T k tn tk => sxBoth_go (callX E noX (M + 199)) (M + 199) (by omega) h3.next p1 t gok (.slice a l.length none 1) (.slice (some (q,0)) (l.length + 1) none 1) P1 h9 gp9 x9 T k tn tk (fun r => ∃ h2,fnEnd [.tmp 2] r = some (.bool true,h2)) (fun T h' ⟨k0,k3',k4'⟩ sp => by
    have K9 : ∀ j,j < h3.next → h'.get j = h3.get j := fun j hj => by rw [sp.fr j (.inl hj),K39.2 _ hj]
    have nn : h3.next ≤ h'.next := by rw [sp.nx]; exact K39.1
    have k3f : Kp h3 h' := ⟨nn,K9⟩
    have sO := str_src (s3.mono k3f) (byt_app bl (by rfl : byt [7] = true)) none
    have sB := str_src (src.mono (k3.trans k3f)) bl none
    rw [List.length_append,show ([7] : List Nat).length = 1 from rfl] at sO
    refine ⟨h',?_⟩
    have ds : decide (l ++ [7] = l ++ [7]) = true := decide_eq_true rfl
    have sa : ∀ e h,binV .add e h (.str l) (.str [7]) = some (.str (l ++ [7])) := fun e h => b_sadd e h l [7] (by simp; omega)
    generalize l.length = len at *
    simp (config := {maxSteps := 2000000}) (disch := first | omega | (simp only [List.length_cons,List.length_nil,List.length_append,List.length_drop]; omega)) only [R_purserlaw06_TxReads_2,k0,k3',sO,sB,sa,b_seq,↓ns_b2s,s_res0,↓s_ops,↓s_seq,↓s_ret,↓s_nil,↓s_op,↓s_bindS,s_bindS,↓s_bindE,s_bindE,s_norm,↓s_getp,↓s_con,↓s_mov,↓s_bin,s_same,s_end,s_res0,s_res1,s_tup1,↓iteN_true,↓iteN_false,iteN_true,iteN_false,Nat.reduceEqDiff,decide_true,decide_false]
    try rfl)
  obtain ⟨R,eR⟩ : ∃ R,R_purserlaw06_TxReads_3 = R := ⟨_,rfl⟩
  obtain ⟨Lo,eLo⟩ : ∃ R,L_purserlaw06_TxReads_1 = R := ⟨_,rfl⟩
  rw [eR,eLo] at fin ⊢
  have fin' := fun T q0 q1 q2 q3 q4 => fin T ⟨q0,q1,q2⟩ q3 q4
  have dd : ∀ v : Int,decide (v = v) = true := fun v => decide_eq_true rfl
  clear fin cF dF cD dD own eP1 x9 c1 c2 c3 c4 x4 x5 x6 x7
  generalize Z4 = z4 at *
  generalize l.length = len at *
  simp (config := {maxSteps := 2000000}) (disch := first | omega | (simp only [List.length_cons,List.length_nil,List.length_append,List.length_drop]; omega)) only [d1,ehN,sc0,r1,eh2,sc7,r3,sv,r4,ep1,eg4,st1,pu1,ld1,r5,ep2,eg5,st2,pu2,ld2,r6,ep3,eg6,st3,pu3,ld3,r7,ep4,eg7,st4,pu4,ld4,i71,i72,r8,i83,i84,r9,gp9,P11,Bool.not_true,↓x_slcS,same,x_M0,x_M1,↓s_append,↓s_len,x_lenS,↓x_fieldAddr,x_fieldV,Nat.zero_add,↓l_loop,↓l_succ,↓h_new_get,↓s_load,m_load,↓m_load1,m_load1,↓m_st,m_stE,w_zero,↓s_alloc,x_lenS,↓s_len,↓x_buildS,x_buildE,↓x_P0,↓x_P1,x_fill0,x_filli,List.length_cons,List.length_nil,List.drop_succ_cons,List.drop_nil,↓s_skip,↓s_ops,↓s_seq,↓s_cond,↓s_block,↓s_nil,↓s_op,↓s_opg,↓s_wanted',↓s_wantV,s_wantV,↓s_bindS,s_bindS,↓s_bindE,s_bindE,s_norm,↓s_condV,s_condV,↓s_getp,↓s_getp0,↓s_get,↓s_con,↓s_os0,↓s_os1,↓s_list0,↓s_list1,↓s_mov,↓s_pick,↓s_pickE,s_pickE,↓s_bin,↓s_un,↓s_call,↓s_ext,b_neq,b_gtr,u_not,↓iteN_true,↓iteN_false,iteN_true,iteN_false,Nat.zero_add,List.append_nil,Nat.reduceEqDiff,decide_true,decide_false,Bool.not_true,List.getElem?_cons_zero,List.getElem?_cons_succ,beq_self_eq_true]
  exact fin' _ (by (simp only [s_getp,s_getp0,Nat.reduceEqDiff,decide_false,iteN_false]; try rfl)) (by (simp only [s_getp,s_getp0,Nat.reduceEqDiff,decide_false,decide_true,iteN_false,iteN_true]; try rfl)) (by (simp only [s_getp,s_getp0,Nat.reduceEqDiff,decide_false,decide_true,iteN_false,iteN_true]; try rfl)) (by (simp only [s_getp,Nat.reduceEqDiff,decide_false,decide_true,iteN_false,iteN_true]; try rfl)) (by (simp only [s_getp,decide_true,iteN_true]; try rfl))
end Go.Eng
