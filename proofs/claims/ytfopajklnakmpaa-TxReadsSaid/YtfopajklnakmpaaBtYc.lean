/- What functions of the program come to: own work. -/
import Derived.Test.YtfopajklnakmpaaBtYb
namespace Go.Eng
open Go
variable {E : Nat → Option Fn} {X : Orc}
set_option linter.unusedSimpArgs false
set_option linter.unusedVariables false
/-- what First says -/
def DFp (l : List Nat) (h : H) (r : Option (V × H)) : Prop :=
    ((rxT l).2.2 = false ∧ (rxT l).2.1 ≤ l.length ∧ ∃ h' a b ca cb ea eb,r = some (.tup [.agg (txV (rxT l).1 a b ca cb ea eb),.int .i64 ((rxT l).2.1 : Nat),.int .i64 0],h') ∧ Kp h h' ∧ RowF (fun j => h.next ≤ j) h.next 35 InC h' (rxT l).1.ins a ca ea ∧ RowF (fun j => h.next ≤ j) h.next 2 OutC h' (rxT l).1.outs b cb eb) ∨
    ((rxT l).2.2 = true ∧ ∃ h',r = some (.tup [.agg Z4,.int .i64 0,.int .i64 60],h') ∧ Kp h h')
/-- from the outputs on -/
theorem dfB_go (e : EnDr E) (x : NoDr X) (N m : Nat) (hN : 40 < N) (hm : 50 < m) (l : List Nat) (bl : byt l = true) (hl : l.length ≤ 100000000) (a0 : Option (Nat × Nat)) (r2 w : Nat) (hrw : r2 ≠ w) (h0 : H) (hr : h0.next ≤ r2) (hw : h0.next ≤ w) (src0 : SrcH h0 a0 1 l) (lo : Nat) (hlr : r2 < lo) (hlw : w < lo)
    (a : Option (Nat × Nat)) (ca : Option Nat) (ea : Nat) (T : Tr V) (h : H) (kp : Kp h0 h) (hlo : lo ≤ h.next)
    (f2 : (rx2 l).2.2 = false) (la : (rx2 l).2.1 ≤ l.length) (v1 : (rx1 l).1 < 4294967296)
    (t0 : evO T (.t 0) = .slice a0 l.length none 1) (t2 : evO T (.t 2) = .ptr (some (r2,0))) (t5 : evO T (.t 5) = .ptr (some (w,0))) (t6 : evO T (.t 6) = .int .u64 ((rx1 l).1 : Nat)) (t7 : evO T (.t 7) = .int .i64 ((rx2 l).2.1 : Nat))
    (gw : h.get w = some (.cells [.int .u32 0,.slice a (rx2 l).1.length ca ea,.slice none 0 (some 0) 0,.int .u32 0] .rw)) (gr : h.get r2 = some (.cells Z4 .rw))
    (row : RowF (fun j => lo ≤ j) lo 35 InC h (rx2 l).1 a ca ea) :
    DFp l h0 (fnEnd [.cell 2 (some 4),.tmp 3,.tmp 4] (evC (callX E X (N + 24)) 125 m none R_purserref06_First_1 ⟨T,[],h⟩)) := by
  have kn := kp.1
  obtain ⟨h4,r4,k4⟩ := rgetsize_go e.rg x.rg (N + 2) l bl hl (rx2 l).2.1 la a0 h (src0.mono kp)
  replace r4 : callX E X (N + 24) (.fn k_purserref01_GetSize) _ h = _ := r4
  have kn4 := k4.1
  have la4 := eySiz_le l bl (rx2 l).2.1 la
  have sB : (rx2 l).2 = ((rx2 l).2.1,false) := by rw [← f2]
  have hB : rxB l (rx2 l).2 = ((eySiz l (rx2 l).2.1).2.2,decide ((eySiz l (rx2 l).2.1).2.1 ≠ 0) || (decide ((eySiz l (rx2 l).2.1).1 < 1) || decide (50 < (eySiz l (rx2 l).2.1).1))) := by unfold rxB; rw [f2,Bool.false_or]
  have h3 : rx3 l = rxR (rxO l) ([],rxB l (rx2 l).2) (eySiz l (rx2 l).2.1).1 := rfl
  obtain ⟨⟨n,es,at4⟩,ev⟩ : ∃ z,eySiz l (rx2 l).2.1 = z := ⟨_,rfl⟩
  rw [ev] at r4 la4 hB h3
  simp only at r4 la4 hB h3
  have g4w := k4.2 w (by omega)
  rw [gw] at g4w
  have g4r := k4.2 r2 (by omega)
  rw [gr] at g4r
  have e4 : ([.int .u32 0,.slice none 0 (some 0) 0,.slice none 0 (some 0) 0,.int .u32 0] : List V) = Z4 := rfl
  have st4 := fun h i => fit_st fitZ4 h i
  have pu4 := fun h i => fit_put fitZ4 h i Z4 rfl
  have ld4 := fun m => fit_ld fitZ4 m
  have fz : fillV Z4 [] = some Z4 := rfl
  have kE : Kp h0 (h4.put r2 (.cells Z4 .rw)) := ⟨by show h0.next ≤ h4.next; omega,fun j hj => by rw [h_put_ne _ _ (by omega),k4.2 _ (by omega),kp.2 _ hj]⟩
  have bad : (es ≠ 0 ∨ n < 1 ∨ 50 < n) → (rxT l).2.2 = true := fun hh => rxT_3 l (rxL_fail rxO l _ (by
    rw [hB]
    rcases hh with h | h | h <;> simp [h]))
  by_cases he : es = 0
  rotate_left
  · refine Or.inr ⟨bad (.inl he),h4.put r2 (.cells Z4 .rw),?_,kE⟩
    have d1 : decide ((es : Int) = 0) = false := decide_eq_false (by omega)
    unfold R_purserref06_First_1
    rw [e4]
    generalize Z4 = z4 at *
    generalize l.length = len at *
    simp (config := {maxSteps := 2000000}) (disch := first | omega | (simp only [List.length_cons,List.length_nil,List.length_append,List.length_drop]; omega)) only [t0,t2,t7,r4,d1,g4r,st4,pu4,ld4,fz,Bool.not_false,↓x_build,x_aggO,↓h_put_get,m_load,↓m_st,m_stE,↓x_P0,s_resc,s_consR,s_res0,↓s_ops,↓s_seq,↓s_cond,↓s_ret,↓s_nil,↓s_op,↓s_opg,↓s_wanted',↓s_wantV,s_wantV,beq_false,↓s_bindS,s_bindS,↓s_bindE,s_bindE,s_bindE_ret,s_norm,↓s_condV,s_condV,↓s_getp,↓s_getp0,↓s_con,↓s_os0,↓s_os1,↓s_mov,↓s_pick,↓s_pickE,s_pickE,↓s_bin,↓s_call,↓s_ext,s_same,b_neq,s_end,s_res0,s_res1,s_tup2,↓iteN_true,↓iteN_false,iteN_true,iteN_false,Nat.reduceEqDiff,decide_true,decide_false,Bool.not_true,Bool.not_false,List.getElem?_cons_zero,List.getElem?_cons_succ]
    try rfl
  subst he
  have d1 : decide (((0 : Nat) : Int) = 0) = true := rfl
  by_cases hn1 : n < 1
  · refine Or.inr ⟨bad (.inr (.inl hn1)),h4.put r2 (.cells Z4 .rw),?_,kE⟩
    have d2 : decide ((n : Int) < 1) = true := decide_eq_true (by omega)
    unfold R_purserref06_First_1
    rw [e4]
    generalize Z4 = z4 at *
    generalize l.length = len at *
    simp (config := {maxSteps := 2000000}) (disch := first | omega | (simp only [List.length_cons,List.length_nil,List.length_append,List.length_drop]; omega)) only [t0,t2,t7,r4,d2,g4r,st4,pu4,ld4,fz,Bool.not_true,↓x_build,x_aggO,↓h_put_get,m_load,↓m_st,m_stE,↓x_P0,Int.cast_ofNat_Int,s_resc,s_consR,s_res0,↓s_ops,↓s_seq,↓s_cond,↓s_ret,↓s_nil,↓s_op,↓s_opg,↓s_wanted',↓s_wantV,s_wantV,beq_false,↓s_bindS,s_bindS,↓s_bindE,s_bindE,s_bindE_ret,s_norm,↓s_condV,s_condV,↓s_getp,↓s_getp0,↓s_con,↓s_os0,↓s_os1,↓s_mov,↓s_pick,↓s_pickE,s_pickE,↓s_bin,↓s_call,↓s_ext,s_same,b_neq,b_lss,s_end,s_res0,s_res1,s_tup2,↓iteN_true,↓iteN_false,iteN_true,iteN_false,Nat.reduceEqDiff,decide_true,decide_false,Bool.not_true,List.getElem?_cons_zero,List.getElem?_cons_succ,beq_self_eq_true]
    try rfl
  have d2 : decide ((n : Int) < 1) = false := decide_eq_false (by omega)
  by_cases hn2 : 50 < n
  · refine Or.inr ⟨bad (.inr (.inr hn2)),h4.put r2 (.cells Z4 .rw),?_,kE⟩
    have d3 : decide ((50 : Int) < (n : Int)) = true := decide_eq_true (by omega)
    unfold R_purserref06_First_1
    rw [e4]
    generalize Z4 = z4 at *
    generalize l.length = len at *
    simp (config := {maxSteps := 2000000}) (disch := first | omega | (simp only [List.length_cons,List.length_nil,List.length_append,List.length_drop]; omega)) only [t0,t2,t7,r4,d2,d3,g4r,st4,pu4,ld4,fz,Bool.not_true,↓x_build,x_aggO,↓h_put_get,m_load,↓m_st,m_stE,↓x_P0,Int.cast_ofNat_Int,s_resc,s_consR,s_res0,↓s_ops,↓s_seq,↓s_cond,↓s_ret,↓s_nil,↓s_op,↓s_opg,↓s_wanted',↓s_wantV,s_wantV,↓s_bindS,s_bindS,↓s_bindE,s_bindE,s_bindE_ret,s_norm,↓s_condV,s_condV,↓s_getp,↓s_getp0,↓s_con,↓s_os0,↓s_os1,↓s_mov,↓s_pick,↓s_pickE,s_pickE,↓s_bin,↓s_call,↓s_ext,s_same,b_neq,b_lss,b_gtr,s_end,s_res0,s_res1,s_tup2,↓iteN_true,↓iteN_false,iteN_true,iteN_false,Nat.reduceEqDiff,decide_true,decide_false,Bool.not_true,List.getElem?_cons_zero,List.getElem?_cons_succ,beq_self_eq_true]
    try rfl
  have d3 : decide ((50 : Int) < (n : Int)) = false := decide_eq_false (by omega)
  rw [show (decide ((0 : Nat) ≠ 0) || (decide (n < 1) || decide (50 < n))) = false by simp; omega] at hB
  rw [hB] at h3
  have k04 : Kp h0 h4 := kp.trans k4
  have src4 := src0.mono k04
  have lne : l ≠ [] := fun hh => by
    rw [hh] at ev
    have : eySiz [] (rx2 ([] : List Nat)).2.1 = (0,10,(rx2 ([] : List Nat)).2.1) := by unfold eySiz; rw [List.drop_nil]; rfl
    rw [this] at ev; cases ev
  have aw : ∀ q o,a0 = some (q,o) → q ≠ w := fun q o eq => by
    rcases src0 with hh | ⟨bi,off,vs,md,h1,h2,h3,_⟩
    · exact absurd hh lne
    · rw [h1] at eq; cases eq; omega
  have row4 : RowF (fun j => lo ≤ j) lo 35 InC h4 (rx2 l).1 a ca ea := row.mono itIn (by omega) (fun j hj hn => k4.2 _ hn) (fun q' o' eq => by
    have := row.lt eq
    exact k4.2 _ (by omega))
  have fin : ∀ T,DfO a0 l.length r2 w (.int .u64 ((rx1 l).1 : Nat)) n (.int .u32 0) (.slice a (rx2 l).1.length ca ea) (.int .u32 0) h4 [] at4 T h4 → DFp l h0 (fnEnd [.cell 2 (some 4),.tmp 3,.tmp 4] (bindE (blockE 2 (loopN (evC (callX E X (N + 24)) 125 m none L_purserref06_First_1) m ⟨T,[],h4⟩)) (evC (callX E X (N + 24)) 125 m none R_purserref06_First_0))) := by
    intro T1 I
    have LL := dfO_loop e x N m hN hm l bl hl a0 r2 w (.int .u64 ((rx1 l).1 : Nat)) n (by omega) (.int .u32 0) (.slice a (rx2 l).1.length ca ea) (.int .u32 0) h4 src4 (by omega) (by omega) hrw g4r aw at4 la4 T1 h4 I
    rw [← h3] at LL
    rcases LL with ⟨f3,la3,l3,T2,h5,rr,J⟩ | ⟨f3,T2,h5,rr,t2,t3,t4,g5,n5,fr5⟩
    · rw [rr]
      obtain ⟨t0,t2,t5,t6,t7,t9,ti,⟨b,cb,eb,gw5,row5⟩,n5,fr5⟩ := J
      have k05 : Kp h0 h5 := ⟨by omega,fun j hj => by rw [fr5 _ (by omega) (by omega),k04.2 _ hj]⟩
      have g5r : h5.get r2 = some (.cells Z4 .rw) := by rw [fr5 _ (by omega) hrw,g4r]
      have s4 : (rx3 l).2 = ((rx3 l).2.1,false) := by rw [← f3]
      have e4' : rx4 l = ((eyFix 4 l (rx3 l).2.1).1,(eyFix 4 l (rx3 l).2.1).2.2,decide ((eyFix 4 l (rx3 l).2.1).2.1 ≠ 0)) := by
        show rdW l (rx3 l).2 = _
        unfold rdW
        rw [f3,Bool.false_or]
      have simpB : ∀ r,bindE (blockE 2 (some (.exit 2,⟨T2,[],h5⟩))) r = r ⟨T2,[],h5⟩ := fun r => rfl
      rw [simpB]
      have rA : RowF (fun j => lo ≤ j) lo 35 InC h5 (rx2 l).1 a ca ea :=
        row4.mono (h' := h5) itIn (by omega) (fun j hj hn => fr5 _ hn (by have : lo ≤ j := hj; omega)) (fun q' o' eq => by have := row4.lt eq; exact fr5 _ (by omega) (by omega))
      rcases dfC_go e x N m l bl hl a0 r2 w hrw (rx1 l).1 v1 a b (rx2 l).1.length (rx3 l).1.length ca cb ea eb (rx3 l).2.1 la3 T2 h5 (src0.mono k05) t0 t2 t5 t6 t7 gw5 g5r with ⟨z,h6,r6,n6,f6⟩ | ⟨z,h6,r6,n6,f6⟩
      · rw [r6]
        have k56 : ∀ j,h0.next ≤ j → True := fun _ _ => trivial
        have la5 := eyFix_le 4 l (rx3 l).2.1 la3
        refine Or.inl ⟨by show (rx4 l).2.2 = false; rw [e4',z]; rfl,by show (rx4 l).2.1 ≤ _; rw [e4']; exact la5,h6,a,b,ca,cb,ea,eb,?_,⟨by omega,fun j hj => by rw [f6 _ (by omega) (by omega),k05.2 _ hj]⟩,?_,?_⟩
        · have e1 : (rxT l).1 = ⟨(rx1 l).1,(rx2 l).1,(rx3 l).1,(rx4 l).1⟩ := rfl
          have e2 : (rxT l).2.1 = (rx4 l).2.1 := rfl
          rw [e1,e2,e4']
          rfl
        · exact (rA.mono (h' := h6) itIn (by omega) (fun j hj hn => f6 _ (by have : lo ≤ j := hj; omega) (by have : lo ≤ j := hj; omega)) (fun q' o' eq => by have := rA.lt eq; exact f6 _ (by omega) (by omega))).weak itIn (by omega) (fun j hj => by have : lo ≤ j := hj; omega)
        · exact (row5.mono (h' := h6) itOut (by omega) (fun j hj hn => f6 _ (by have : h4.next ≤ j := hj; omega) (by have : h4.next ≤ j := hj; omega)) (fun q' o' eq => by have := row5.lt eq; exact f6 _ (by omega) (by omega))).weak itOut (by omega) (fun j hj => by have : h4.next ≤ j := hj; omega)
      · rw [r6]
        exact Or.inr ⟨by show (rx4 l).2.2 = true; rw [e4']; simp [z],h6,rfl,⟨by omega,fun j hj => by rw [f6 _ (by omega) (by omega),k05.2 _ hj]⟩⟩
    · rw [rr]
      refine Or.inr ⟨rxT_3 l f3,h5,?_,⟨by omega,fun j hj => by rw [fr5 _ (by omega) (by omega) (by omega),k04.2 _ hj]⟩⟩
      simp (config := {maxSteps := 2000000}) (disch := first | omega | (simp only [List.length_cons,List.length_nil,List.length_append,List.length_drop]; omega)) only [t2,t3,t4,g5,ld4,m_load,s_resc,s_consR,s_res0,s_bindE_ret,s_block_ret,s_end,s_res0,s_res1,s_tup2]
      try rfl
  obtain ⟨R,eR⟩ : ∃ R,R_purserref06_First_0 = R := ⟨_,rfl⟩
  obtain ⟨Lo,eLo⟩ : ∃ R,L_purserref06_First_1 = R := ⟨_,rfl⟩
  rw [eR,eLo] at fin
  unfold R_purserref06_First_1
  rw [eR,eLo,e4]
  have fin' := fun T q0 q2 q5 q6 q7 q9 qi => fin T ⟨q0,q2,q5,q6,q7,q9,qi,⟨none,some 0,0,g4w,.nil _ _ _ _ _⟩,Nat.le_refl _,fun _ _ _ => rfl⟩
  clear fin bad
  generalize Z4 = z4 at *
  generalize (rx2 l).1.length = l2 at *
  simp (config := {maxSteps := 2000000}) (disch := first | omega | (simp only [List.length_cons,List.length_nil,List.length_append,List.length_drop]; omega)) only [t0,t7,r4,d2,d3,Bool.not_true,↓l_loop,Int.cast_ofNat_Int,↓s_skip,↓s_ops,↓s_seq,↓s_cond,↓s_block,↓s_nil,↓s_op,↓s_opg,↓s_wanted',↓s_wantV,s_wantV,↓s_bindS,s_bindS,↓s_bindE,s_bindE,s_norm,↓s_condV,s_condV,↓s_getp,↓s_con,↓s_os0,↓s_os1,↓s_mov,↓s_pick,↓s_pickE,s_pickE,↓s_bin,↓s_call,↓s_ext,s_same,b_neq,b_lss,b_gtr,↓iteN_true,↓iteN_false,iteN_true,iteN_false,Nat.reduceEqDiff,decide_true,decide_false,Bool.not_true,List.getElem?_cons_zero,List.getElem?_cons_succ,beq_self_eq_true]
  exact fin' _ (by (simp only [s_getp,Nat.reduceEqDiff,decide_false,iteN_false,t0]; try rfl)) (by (simp only [s_getp,Nat.reduceEqDiff,decide_false,iteN_false,t2]; try rfl)) (by (simp only [s_getp,Nat.reduceEqDiff,decide_false,iteN_false,t5]; try rfl)) (by (simp only [s_getp,Nat.reduceEqDiff,decide_false,iteN_false,t6]; try rfl)) (by (simp only [s_getp,Nat.reduceEqDiff,decide_false,decide_true,iteN_false,iteN_true]; try rfl)) (by (simp only [s_getp,Nat.reduceEqDiff,decide_false,decide_true,iteN_false,iteN_true]; try rfl)) (by (simp only [s_getp,decide_true,iteN_true]; try rfl))
end Go.Eng
namespace Go.Eng
open Go
variable {E : Nat → Option Fn} {X : Orc}
set_option linter.unusedSimpArgs false
set_option linter.unusedVariables false
theorem dfirst_go (e : EnDr E) (x : NoDr X) (N : Nat) (hN : 100 < N) (l : List Nat) (bl : byt l = true) (hl : l.length ≤ 100000000) (a0 : Option (Nat × Nat)) (h : H) (src : SrcH h a0 1 l) :
    DFp l h (callX E X (N + 25) (.fn k_purserref06_First) [.slice a0 l.length none 1] h) := by
  rw [x_cfn e.fi _ _ (Nat.le_of_ble_eq_true rfl) (x.fi _ _)]
  have e4 : ([.int .u32 0,.slice none 0 (some 0) 0,.slice none 0 (some 0) 0,.int .u32 0] : List V) = Z4 := rfl
  rw [e4]
  have st4 := fun h i => fit_st fitZ4 h i
  have pu4 := fun h i => fit_put fitZ4 h i Z4 rfl
  have ld4 := fun m => fit_ld fitZ4 m
  have fz : fillV Z4 [] = some Z4 := rfl
  obtain ⟨r2,er2⟩ : ∃ r,h.next = r := ⟨_,rfl⟩
  obtain ⟨hA,ehA⟩ : ∃ hA,(h.new (.cells Z4 .rw)).new (.cells Z4 .rw) = hA := ⟨_,rfl⟩
  have kA : Kp h hA := by rw [← ehA]; (repeat (first | exact Kp.refl _ | refine Kp.put ?_ _ (by first | omega | (simp only [h_next_put,h_next_new,h_next_del]; omega)) | refine Kp.del ?_ (by first | omega | (simp only [h_next_put,h_next_new,h_next_del]; omega)) | refine Kp.trans ?_ (Kp.new _ _)))
  have nA : hA.next = r2 + 2 := by rw [← ehA,← er2]; rfl
  have gA1 : hA.get r2 = some (.cells Z4 .rw) := by rw [← ehA,← er2]; (simp (disch := omega) only [h_new_get,h_next_new,Nat.add_eq_left,decide_true,decide_false,iteN_true,iteN_false,reduceCtorEq,]; try rfl)
  have gA2 : hA.get (r2 + 1) = some (.cells Z4 .rw) := by rw [← ehA,← er2]; (simp (disch := omega) only [h_new_get,h_next_new,decide_true,iteN_true,]; try rfl)
  obtain ⟨hB,ehB⟩ : ∃ hB,hA.put (r2 + 1) (.cells Z4 .rw) = hB := ⟨_,rfl⟩
  have nB : hB.next = r2 + 2 := by rw [← ehB]; exact nA
  have kB : Kp h hB := ⟨by omega,fun j hj => by rw [← ehB,h_put_ne _ _ (by omega),kA.2 _ hj]⟩
  have gB1 : hB.get r2 = some (.cells Z4 .rw) := by rw [← ehB,h_put_ne _ _ (by omega),gA1]
  have gB2 : hB.get (r2 + 1) = some (.cells Z4 .rw) := by rw [← ehB]; exact h_put_same _ _ _
  have srcB := src.mono kB
  have r1 := rgetfix_go e.rg x.rg (N + 3) 4 l bl hl 0 (Nat.zero_le _) a0 hB srcB
  replace r1 : callX E X (N + 24) (.fn k_purserref01_GetFixed) _ hB = _ := r1
  have la1 := eyFix_le 4 l 0 (Nat.zero_le _)
  have v1 := eyFix_lt 4 (.inl rfl) l bl 0
  have x1 : rx1 l = ((eyFix 4 l 0).1,(eyFix 4 l 0).2.2,decide ((eyFix 4 l 0).2.1 ≠ 0)) := by unfold rx1 rdW; rw [Bool.false_or]
  obtain ⟨⟨n1,er1,at1⟩,ev1⟩ : ∃ z,eyFix 4 l 0 = z := ⟨_,rfl⟩
  have ev1' : eyFix ((4 : Nat) : Int) l 0 = (n1,er1,at1) := ev1
  rw [ev1'] at v1
  rw [ev1] at r1 la1 x1
  simp only at r1 la1 x1 v1
  replace r1 : callX E X (N + 24) (.fn k_purserref01_GetFixed) [.slice a0 l.length none 1,.int .i64 0,.int .i64 4] hB = _ := r1
  have v1' : n1 < 4294967296 := by have : (256 : Nat) ^ 4 = 4294967296 := rfl; omega
  by_cases h1e : er1 = 0
  rotate_left
  · refine Or.inr ⟨rxT_1 l (by rw [x1]; simp [h1e]),hB.put r2 (.cells Z4 .rw),?_,⟨by show h.next ≤ hB.next; omega,fun j hj => by rw [h_put_ne _ _ (by omega),kB.2 _ hj]⟩⟩
    have d1 : decide ((er1 : Int) = 0) = false := decide_eq_false (by omega)
    generalize Z4 = z4 at *
    generalize l.length = len at *
    simp (config := {maxSteps := 2000000}) (disch := first | omega | (simp only [List.length_cons,List.length_nil,List.length_append,List.length_drop]; omega)) only [er2,ehA,gA2,ehB,r1,d1,gB1,st4,pu4,ld4,fz,Bool.not_false,↓x_build,x_aggO,↓h_put_get,h_next_new,m_load,↓m_st,m_stE,↓s_alloc,↓x_P0,s_resc,s_consR,s_res0,↓s_ops,↓s_seq,↓s_cond,↓s_ret,↓s_nil,↓s_op,↓s_bindS,s_bindS,↓s_bindE,s_bindE,s_bindE_ret,s_norm,↓s_condV,s_condV,↓s_getp,↓s_getp0,↓s_get,↓s_con,↓s_os0,↓s_os1,↓s_list0,↓s_list1,↓s_mov,↓s_bin,↓s_call,↓s_ext,s_same,b_neq,s_end,s_res0,s_res1,s_tup2,↓iteN_true,↓iteN_false,iteN_true,iteN_false,Nat.reduceEqDiff,decide_true,decide_false,Bool.not_false,List.getElem?_cons_zero,List.getElem?_cons_succ]
    try rfl
  subst h1e
  have d1 : decide (((0 : Nat) : Int) = 0) = true := rfl
  obtain ⟨h2,r2',k2⟩ := rgetsize_go e.rg x.rg (N + 2) l bl hl at1 la1 a0 hB srcB
  replace r2' : callX E X (N + 24) (.fn k_purserref01_GetSize) _ hB = _ := r2'
  have kn2 := k2.1
  have la2 := eySiz_le l bl at1 la1
  have x1s : (rx1 l).2 = (at1,false) := by rw [x1]; rfl
  have hS : rxB l (rx1 l).2 = ((eySiz l at1).2.2,decide ((eySiz l at1).2.1 ≠ 0) || (decide ((eySiz l at1).1 < 1) || decide (50 < (eySiz l at1).1))) := by unfold rxB; rw [x1s,Bool.false_or]
  have h3 : rx2 l = rxR (rxI l) ([],rxB l (rx1 l).2) (eySiz l (rx1 l).2.1).1 := rfl
  rw [x1s] at h3 hS
  simp only at h3 hS
  obtain ⟨⟨n,es,at2⟩,ev⟩ : ∃ z,eySiz l at1 = z := ⟨_,rfl⟩
  rw [ev] at r2' la2 hS h3
  simp only at r2' la2 hS h3
  have g21 : h2.get r2 = some (.cells Z4 .rw) := by rw [k2.2 _ (by omega),gB1]
  have g22 : h2.get (r2 + 1) = some (.cells Z4 .rw) := by rw [k2.2 _ (by omega),gB2]
  have kE : Kp h (h2.put r2 (.cells Z4 .rw)) := ⟨by show h.next ≤ h2.next; omega,fun j hj => by rw [h_put_ne _ _ (by omega),k2.2 _ (by omega),kB.2 _ hj]⟩
  have bad : (es ≠ 0 ∨ n < 1 ∨ 50 < n) → (rxT l).2.2 = true := fun hh => rxT_2 l (rxL_fail rxI l _ (by
    rw [x1s,hS]
    rcases hh with h | h | h <;> simp [h]))
  by_cases he : es = 0
  rotate_left
  · refine Or.inr ⟨bad (.inl he),h2.put r2 (.cells Z4 .rw),?_,kE⟩
    have d2 : decide ((es : Int) = 0) = false := decide_eq_false (by omega)
    generalize Z4 = z4 at *
    generalize l.length = len at *
    simp (config := {maxSteps := 2000000}) (disch := first | omega | (simp only [List.length_cons,List.length_nil,List.length_append,List.length_drop]; omega)) only [er2,ehA,gA2,ehB,r1,r2',d2,g21,st4,pu4,ld4,fz,Bool.not_true,Bool.not_false,↓x_build,x_aggO,↓h_put_get,h_next_new,m_load,↓m_st,m_stE,↓s_alloc,↓x_P0,Int.cast_ofNat_Int,s_resc,s_consR,s_res0,↓s_skip,↓s_ops,↓s_seq,↓s_cond,↓s_ret,↓s_nil,↓s_op,↓s_opg,↓s_wanted',↓s_wantV,s_wantV,beq_false,↓s_bindS,s_bindS,↓s_bindE,s_bindE,s_bindE_ret,s_norm,↓s_condV,s_condV,↓s_getp,↓s_getp0,↓s_get,↓s_con,↓s_os0,↓s_os1,↓s_list0,↓s_list1,↓s_mov,↓s_pick,↓s_pickE,s_pickE,↓s_bin,↓s_call,↓s_ext,s_same,b_neq,s_end,s_res0,s_res1,s_tup2,↓iteN_true,↓iteN_false,iteN_true,iteN_false,Nat.reduceEqDiff,decide_true,decide_false,Bool.not_true,Bool.not_false,List.getElem?_cons_zero,List.getElem?_cons_succ]
    try rfl
  subst he
  by_cases hn1 : n < 1
  · refine Or.inr ⟨bad (.inr (.inl hn1)),h2.put r2 (.cells Z4 .rw),?_,kE⟩
    have d2 : decide ((n : Int) < 1) = true := decide_eq_true (by omega)
    generalize Z4 = z4 at *
    generalize l.length = len at *
    simp (config := {maxSteps := 2000000}) (disch := first | omega | (simp only [List.length_cons,List.length_nil,List.length_append,List.length_drop]; omega)) only [er2,ehA,gA2,ehB,r1,r2',d2,g21,st4,pu4,ld4,fz,Bool.not_true,↓x_build,x_aggO,↓h_put_get,h_next_new,m_load,↓m_st,m_stE,↓s_alloc,↓x_P0,Int.cast_ofNat_Int,s_resc,s_consR,s_res0,↓s_skip,↓s_ops,↓s_seq,↓s_cond,↓s_ret,↓s_nil,↓s_op,↓s_opg,↓s_wanted',↓s_wantV,s_wantV,beq_false,↓s_bindS,s_bindS,↓s_bindE,s_bindE,s_bindE_ret,s_norm,↓s_condV,s_condV,↓s_getp,↓s_getp0,↓s_get,↓s_con,↓s_os0,↓s_os1,↓s_list0,↓s_list1,↓s_mov,↓s_pick,↓s_pickE,s_pickE,↓s_bin,↓s_call,↓s_ext,s_same,b_neq,b_lss,s_end,s_res0,s_res1,s_tup2,↓iteN_true,↓iteN_false,iteN_true,iteN_false,Nat.reduceEqDiff,decide_true,decide_false,Bool.not_true,List.getElem?_cons_zero,List.getElem?_cons_succ,beq_self_eq_true]
    try rfl
  have d2 : decide ((n : Int) < 1) = false := decide_eq_false (by omega)
  by_cases hn2 : 50 < n
  · refine Or.inr ⟨bad (.inr (.inr hn2)),h2.put r2 (.cells Z4 .rw),?_,kE⟩
    have d3 : decide ((50 : Int) < (n : Int)) = true := decide_eq_true (by omega)
    generalize Z4 = z4 at *
    generalize l.length = len at *
    simp (config := {maxSteps := 2000000}) (disch := first | omega | (simp only [List.length_cons,List.length_nil,List.length_append,List.length_drop]; omega)) only [er2,ehA,gA2,ehB,r1,r2',d2,d3,g21,st4,pu4,ld4,fz,Bool.not_true,↓x_build,x_aggO,↓h_put_get,h_next_new,m_load,↓m_st,m_stE,↓s_alloc,↓x_P0,Int.cast_ofNat_Int,s_resc,s_consR,s_res0,↓s_skip,↓s_ops,↓s_seq,↓s_cond,↓s_ret,↓s_nil,↓s_op,↓s_opg,↓s_wanted',↓s_wantV,s_wantV,↓s_bindS,s_bindS,↓s_bindE,s_bindE,s_bindE_ret,s_norm,↓s_condV,s_condV,↓s_getp,↓s_getp0,↓s_get,↓s_con,↓s_os0,↓s_os1,↓s_list0,↓s_list1,↓s_mov,↓s_pick,↓s_pickE,s_pickE,↓s_bin,↓s_call,↓s_ext,s_same,b_neq,b_lss,b_gtr,s_end,s_res0,s_res1,s_tup2,↓iteN_true,↓iteN_false,iteN_true,iteN_false,Nat.reduceEqDiff,decide_true,decide_false,Bool.not_true,List.getElem?_cons_zero,List.getElem?_cons_succ,beq_self_eq_true]
    try rfl
  have d3 : decide ((50 : Int) < (n : Int)) = false := decide_eq_false (by omega)
  rw [show (decide ((0 : Nat) ≠ 0) || (decide (n < 1) || decide (50 < n))) = false by simp; omega] at hS
  rw [hS] at h3
  have k02 : Kp h h2 := kB.trans k2
  have src2 := src.mono k02
  have lne : l ≠ [] := fun hh => by
    rw [hh] at ev
    have : eySiz [] at1 = (0,10,at1) := by unfold eySiz; rw [List.drop_nil]; rfl
    rw [this] at ev; cases ev
  have aw : ∀ q o,a0 = some (q,o) → q ≠ r2 + 1 := fun q o eq => by
    rcases src with hh | ⟨bi,off,vs,md,h1,h2,h3,_⟩
    · exact absurd hh lne
    · rw [h1] at eq; cases eq; omega
  have fin : ∀ T,DfI a0 l.length r2 (r2 + 1) (.int .u64 (n1 : Int)) n (.int .u32 0) (.slice none 0 (some 0) 0) (.int .u32 0) h2 [] at2 T h2 → DFp l h (fnEnd [.cell 2 (some 4),.tmp 3,.tmp 4] (bindE (blockE 0 (loopN (evC (callX E X (N + 24)) 125 (N + 24) none L_purserref06_First_0) (N + 24) ⟨T,[],h2⟩)) (evC (callX E X (N + 24)) 125 (N + 24) none R_purserref06_First_1))) := by
    intro T1 I
    have LL := dfI_loop e x N (N + 24) (by omega) (by omega) l bl hl a0 r2 (r2 + 1) (.int .u64 (n1 : Int)) n (by omega) (.int .u32 0) (.slice none 0 (some 0) 0) (.int .u32 0) h2 src2 (by omega) (by omega) (by omega) g21 aw at2 la2 T1 h2 I
    rw [← h3] at LL
    rcases LL with ⟨f2,la,l2,T2,h5,rr,J⟩ | ⟨f2,T2,h5,rr,t2,t3,t4,g5,n5,fr5⟩
    · rw [rr]
      obtain ⟨t0,t2,t5,t6,t7,t9,ti,⟨a,c,ez,gw5,row5⟩,n5,fr5⟩ := J
      have simpB : ∀ r,bindE (blockE 0 (some (.exit 0,⟨T2,[],h5⟩))) r = r ⟨T2,[],h5⟩ := fun r => rfl
      rw [simpB]
      have k05 : Kp h h5 := ⟨by omega,fun j hj => by rw [fr5 _ (by omega) (by omega),k02.2 _ hj]⟩
      exact dfB_go e x N (N + 24) (by omega) (by omega) l bl hl a0 r2 (r2 + 1) (by omega) h (by omega) (by omega) src h2.next (by omega) (by omega) a c ez T2 h5 k05 n5 f2 la (by rw [x1]; exact v1') t0 t2 t5 (by rw [t6,x1]) t7 gw5 (by rw [fr5 _ (by omega) (by omega),g21]) row5
    · rw [rr]
      refine Or.inr ⟨rxT_2 l f2,h5,?_,⟨by omega,fun j hj => by rw [fr5 _ (by omega) (by omega) (by omega),k02.2 _ hj]⟩⟩
      simp (config := {maxSteps := 2000000}) (disch := first | omega | (simp only [List.length_cons,List.length_nil,List.length_append,List.length_drop]; omega)) only [t2,t3,t4,g5,ld4,m_load,s_resc,s_consR,s_res0,s_bindE_ret,s_block_ret,s_end,s_res0,s_res1,s_tup2]
      try rfl
  obtain ⟨R,eR⟩ : ∃ R,R_purserref06_First_1 = R := ⟨_,rfl⟩
  obtain ⟨Lo,eLo⟩ : ∃ R,L_purserref06_First_0 = R := ⟨_,rfl⟩
  rw [eR,eLo] at fin ⊢
  have fin' := fun T q0 q2 q5 q6 q7 q9 qi => fin T ⟨q0,q2,q5,q6,q7,q9,qi,⟨none,some 0,0,g22,.nil _ _ _ _ _⟩,Nat.le_refl _,fun _ _ _ => rfl⟩
  clear fin bad
  generalize Z4 = z4 at *
  simp (config := {maxSteps := 2000000}) (disch := first | omega | (simp only [List.length_cons,List.length_nil,List.length_append,List.length_drop]; omega)) only [er2,ehA,gA2,ehB,r1,r2',d2,d3,st4,pu4,fz,Bool.not_true,↓x_build,x_aggO,↓l_loop,↓l_succ,h_next_new,↓m_st,m_stE,↓s_alloc,↓x_P0,Int.cast_ofNat_Int,↓s_skip,↓s_ops,↓s_seq,↓s_cond,↓s_block,↓s_nil,↓s_op,↓s_opg,↓s_wanted',↓s_wantV,s_wantV,↓s_bindS,s_bindS,↓s_bindE,s_bindE,s_norm,↓s_condV,s_condV,↓s_getp,↓s_getp0,↓s_get,↓s_con,↓s_os0,↓s_os1,↓s_list0,↓s_list1,↓s_mov,↓s_pick,↓s_pickE,s_pickE,↓s_bin,↓s_call,↓s_ext,s_same,b_neq,b_lss,b_gtr,↓iteN_true,↓iteN_false,iteN_true,iteN_false,Nat.reduceEqDiff,decide_true,decide_false,Bool.not_true,List.getElem?_cons_zero,List.getElem?_cons_succ,beq_self_eq_true]
  exact fin' _ (by (simp only [s_getp,s_getp0,Nat.reduceEqDiff,decide_false,iteN_false]; try rfl)) (by (simp only [s_getp,s_getp0,Nat.reduceEqDiff,decide_false,decide_true,iteN_false,iteN_true]; try rfl)) (by (simp only [s_getp,s_getp0,Nat.reduceEqDiff,decide_false,decide_true,iteN_false,iteN_true]; try rfl)) (by (simp only [s_getp,Nat.reduceEqDiff,decide_false,decide_true,iteN_false,iteN_true]; try rfl)) (by (simp only [s_getp,Nat.reduceEqDiff,decide_false,decide_true,iteN_false,iteN_true]; try rfl)) (by (simp only [s_getp,Nat.reduceEqDiff,decide_false,decide_true,iteN_false,iteN_true]; try rfl)) (by (simp only [s_getp,decide_true,iteN_true]; try rfl))
end Go.Eng
namespace Go.Eng
open Go
variable {E : Nat → Option Fn} {X : Orc}
set_option linter.unusedSimpArgs false
set_option linter.unusedVariables false
theorem ddecode_go (e : EnDr E) (x : NoDr X) (N : Nat) (hN : 100 < N) (l : List Nat) (bl : byt l = true) (hl : l.length ≤ 100000000) (a0 : Option (Nat × Nat)) (h : H) (src : SrcH h a0 1 l) :
    ∃ h',Kp h h' ∧ (((rxT l).2 = (l.length,false) ∧ ∃ P,callX E X (N + 26) (.fn k_purserref06_Decode) [.slice a0 l.length none 1] h = some (.tup [.agg P,.int .i64 0],h') ∧ TxC (fun j => h.next ≤ j) h' (rxT l).1 P) ∨ ((rxT l).2 ≠ (l.length,false) ∧ callX E X (N + 26) (.fn k_purserref06_Decode) [.slice a0 l.length none 1] h = some (.tup [.agg Z4,.int .i64 60],h'))) := by
  rw [x_cfn e.de _ _ (Nat.le_of_ble_eq_true rfl) (x.de _ _)]
  rw [show ([.int .u32 0,.slice none 0 (some 0) 0,.slice none 0 (some 0) 0,.int .u32 0] : List V) = Z4 from rfl]
  have st4 := fun h i => fit_st fitZ4 h i
  have pu4 := fun h i => fit_put fitZ4 h i Z4 rfl
  have ld4 := fun m => fit_ld fitZ4 m
  have fz : fillV Z4 [] = some Z4 := rfl
  obtain ⟨hA,ehA⟩ : ∃ hA,h.new (.cells Z4 .rw) = hA := ⟨_,rfl⟩
  have kA : Kp h hA := by rw [← ehA]; exact Kp.new _ _
  have nA : hA.next = h.next + 1 := by rw [← ehA]; rfl
  have gA : hA.get h.next = some (.cells Z4 .rw) := by rw [← ehA]; exact h_new_same _ _
  have y0 : decide ((0 : Int) = 0) = true := rfl
  have y6 : decide ((60 : Int) = 0) = false := rfl
  rcases dfirst_go e x N hN l bl hl a0 hA (src.mono kA) with ⟨f,la,h1,a,b,ca,cb,ea,eb,r1,k1,rowA,rowB⟩ | ⟨f,h1,r1,k1⟩
  · obtain ⟨q,eq⟩ : ∃ q,h1.next = q := ⟨_,rfl⟩
    obtain ⟨P,eP⟩ : ∃ P,txV (rxT l).1 a b ca cb ea eb = P := ⟨_,rfl⟩
    rw [eP] at r1
    have fP : Fit 4 P := by rw [← eP]; exact ⟨rfl,rfl⟩
    have stP := fun h i => fit_st fP h i
    have puP := fun h i => fit_put fP h i Z4 rfl
    have ldP := fun m => fit_ld fP m
    have kn1 := k1.1
    have gz : (h1.new (.cells Z4 .rw)).get q = some (.cells Z4 .rw) := by rw [← eq]; exact h_new_same _ _
    obtain ⟨h3,eh3⟩ : ∃ h3,(h1.new (.cells Z4 .rw)).put q (.cells P .rw) = h3 := ⟨_,rfl⟩
    have k3 : Kp h1 h3 := by rw [← eh3]; (repeat (first | exact Kp.refl _ | refine Kp.put ?_ _ (by first | omega | (simp only [h_next_put,h_next_new,h_next_del]; omega)) | refine Kp.del ?_ (by first | omega | (simp only [h_next_put,h_next_new,h_next_del]; omega)) | refine Kp.trans ?_ (Kp.new _ _)))
    have n3 : h3.next = h1.next + 1 := by rw [← eh3]; rfl
    have g3 : h3.get q = some (.cells P .rw) := by rw [← eh3]; exact h_put_same _ _ _
    have g3r : h3.get h.next = some (.cells Z4 .rw) := by rw [k3.2 _ (by omega),k1.2 _ (by omega),gA]
    by_cases he : (rxT l).2.1 = l.length
    · have d1 : decide ((((rxT l).2.1 : Nat) : Int) = (l.length : Int)) = true := decide_eq_true (by omega)
      refine ⟨h3.put h.next (.cells P .rw),⟨by show h.next ≤ h3.next; omega,fun j hj => by rw [h_put_ne _ _ (by omega),k3.2 _ (by omega),k1.2 _ (by omega),kA.2 _ hj]⟩,.inl ⟨by rw [← he,← f],P,?_,?_⟩⟩
      · generalize Z4 = z4 at *
        generalize (rxT l).2.1 = at1 at *
        generalize l.length = len at *
        simp (config := {maxSteps := 2000000}) (disch := first | omega | (simp only [List.length_cons,List.length_nil,List.length_append,List.length_drop]; omega)) only [ehA,r1,eq,stP,puP,eh3,d1,g3,ldP,g3r,Bool.not_true,↓s_len,x_lenS,↓h_put_get,↓h_new_get,↓s_load,m_load,↓m_st,m_stE,↓s_alloc,x_lenS,↓s_len,s_resc,s_consR,s_res0,↓s_skip,↓s_ops,↓s_seq,↓s_cond,↓s_ret,↓s_nil,↓s_op,↓s_opg,↓s_wanted',↓s_wantV,s_wantV,↓s_bindS,s_bindS,↓s_bindE,s_bindE,s_norm,↓s_condV,s_condV,↓s_getp,↓s_getp0,↓s_get,↓s_con,↓s_os0,↓s_os1,↓s_list0,↓s_list1,↓s_mov,↓s_pick,↓s_pickE,s_pickE,↓s_bin,↓s_call,↓s_ext,s_same,b_neq,s_end,s_res0,s_res1,s_tup2,↓iteN_true,↓iteN_false,iteN_true,iteN_false,Nat.reduceEqDiff,decide_true,decide_false,Bool.not_true,List.getElem?_cons_zero,List.getElem?_cons_succ,beq_self_eq_true]
        try rfl
      · have kk : ∀ j,hA.next ≤ j → j < h1.next → (h3.put h.next (.cells P .rw)).get j = h1.get j := fun j h1' h2' => by rw [h_put_ne _ _ (by omega),k3.2 _ h2']
        have nn : h1.next ≤ (h3.put h.next (.cells P .rw)).next := by show h1.next ≤ h3.next; omega
        have ra := (rowA.row itIn).mono2 (S' := fun j => h.next ≤ j) itIn nn (fun j hj hn => kk j (by rcases hj with hj | hj <;> exact hj) hn) (fun j hj _ => by rcases hj with hj | hj <;> omega)
        have rb := (rowB.row itOut).mono2 (S' := fun j => h.next ≤ j) itOut nn (fun j hj hn => kk j (by rcases hj with hj | hj <;> exact hj) hn) (fun j hj _ => by rcases hj with hj | hj <;> omega)
        exact ⟨a,b,ca,cb,ea,eb,eP.symm,ra,rb⟩
    · have d1 : decide ((((rxT l).2.1 : Nat) : Int) = (l.length : Int)) = false := decide_eq_false (by omega)
      refine ⟨h3.put h.next (.cells Z4 .rw),⟨by show h.next ≤ h3.next; omega,fun j hj => by rw [h_put_ne _ _ (by omega),k3.2 _ (by omega),k1.2 _ (by omega),kA.2 _ hj]⟩,.inr ⟨fun hh => he (by rw [hh]),?_⟩⟩
      generalize Z4 = z4 at *
      generalize (rxT l).2.1 = at1 at *
      generalize l.length = len at *
      simp (config := {maxSteps := 2000000}) (disch := first | omega | (simp only [List.length_cons,List.length_nil,List.length_append,List.length_drop]; omega)) only [ehA,r1,eq,stP,puP,eh3,d1,g3r,st4,pu4,ld4,fz,Bool.not_true,Bool.not_false,↓x_build,x_aggO,↓s_len,x_lenS,↓h_put_get,↓h_new_get,m_load,↓m_st,m_stE,↓s_alloc,x_lenS,↓s_len,↓x_P0,s_resc,s_consR,s_res0,↓s_ops,↓s_seq,↓s_cond,↓s_ret,↓s_nil,↓s_op,↓s_opg,↓s_wanted',↓s_wantV,s_wantV,↓s_bindS,s_bindS,↓s_bindE,s_bindE,s_bindE_ret,s_norm,↓s_condV,s_condV,↓s_getp,↓s_getp0,↓s_get,↓s_con,↓s_os0,↓s_os1,↓s_list0,↓s_list1,↓s_mov,↓s_pick,↓s_pickE,s_pickE,↓s_bin,↓s_call,↓s_ext,s_same,b_neq,s_end,s_res0,s_res1,s_tup2,↓iteN_true,↓iteN_false,iteN_true,iteN_false,Nat.reduceEqDiff,decide_true,decide_false,Bool.not_true,Bool.not_false,List.getElem?_cons_zero,List.getElem?_cons_succ,beq_self_eq_true]
      try rfl
  · obtain ⟨q,eq⟩ : ∃ q,h1.next = q := ⟨_,rfl⟩
    have kn1 := k1.1
    have gz : (h1.new (.cells Z4 .rw)).get q = some (.cells Z4 .rw) := by rw [← eq]; exact h_new_same _ _
    obtain ⟨h3,eh3⟩ : ∃ h3,(h1.new (.cells Z4 .rw)).put q (.cells Z4 .rw) = h3 := ⟨_,rfl⟩
    have k3 : Kp h1 h3 := by rw [← eh3]; (repeat (first | exact Kp.refl _ | refine Kp.put ?_ _ (by first | omega | (simp only [h_next_put,h_next_new,h_next_del]; omega)) | refine Kp.del ?_ (by first | omega | (simp only [h_next_put,h_next_new,h_next_del]; omega)) | refine Kp.trans ?_ (Kp.new _ _)))
    have n3 : h3.next = h1.next + 1 := by rw [← eh3]; rfl
    have g3r : h3.get h.next = some (.cells Z4 .rw) := by rw [k3.2 _ (by omega),k1.2 _ (by omega),gA]
    refine ⟨h3.put h.next (.cells Z4 .rw),⟨by show h.next ≤ h3.next; omega,fun j hj => by rw [h_put_ne _ _ (by omega),k3.2 _ (by omega),k1.2 _ (by omega),kA.2 _ hj]⟩,.inr ⟨(fun hh => by rw [hh] at f; cases f),?_⟩⟩
    generalize Z4 = z4 at *
    generalize l.length = len at *
    simp (config := {maxSteps := 2000000}) (disch := first | omega | (simp only [List.length_cons,List.length_nil,List.length_append,List.length_drop]; omega)) only [ehA,r1,eq,st4,pu4,ld4,eh3,g3r,fz,Bool.not_true,Bool.not_false,↓x_build,x_aggO,↓h_put_get,↓h_new_get,m_load,↓m_st,m_stE,↓s_alloc,↓x_P0,Int.reduceEq,s_resc,s_consR,s_res0,↓s_ops,↓s_seq,↓s_cond,↓s_ret,↓s_nil,↓s_op,↓s_opg,↓s_wanted',↓s_wantV,s_wantV,beq_false,↓s_bindS,s_bindS,↓s_bindE,s_bindE,s_bindE_ret,s_norm,↓s_condV,s_condV,↓s_getp,↓s_getp0,↓s_get,↓s_con,↓s_os0,↓s_os1,↓s_list0,↓s_list1,↓s_mov,↓s_pick,↓s_pickE,s_pickE,↓s_bin,↓s_call,↓s_ext,s_same,b_neq,s_end,s_res0,s_res1,s_tup2,↓iteN_true,↓iteN_false,iteN_true,iteN_false,Nat.reduceEqDiff,decide_true,decide_false,Bool.not_true,Bool.not_false,List.getElem?_cons_zero,List.getElem?_cons_succ]
    try rfl
end Go.Eng
namespace Go.Eng
open Go
variable {E : Nat → Option Fn} {X : Orc}
set_option linter.unusedSimpArgs false
set_option linter.unusedVariables false
/-- bytes that are a whole block,which may be written over -/
def SrcX (S : Nat → Prop) (h : H) (a : Option (Nat × Nat)) (e : Nat) (l : List Nat) : Prop := l = [] ∨ ∃ bi m,a = some (bi,0) ∧ e = 1 ∧ S bi ∧ bi < h.next ∧ h.get bi = some (.cells (ofI .u8 l) m) ∧ isRo m = false
theorem SrcX.s {S : Nat → Prop} {h : H} {a : Option (Nat × Nat)} {e : Nat} {l : List Nat} (s : SrcX S h a e l) : SrcS S h a e l := by
  rcases s with s | ⟨bi,m,e1,e2,hk,hb,g,_⟩
  · exact .inl s
  · exact .inr ⟨bi,0,_,m,e1,e2,hk,hb,g,by rw [ofI_len]; omega,by rw [List.drop_zero]; exact List.take_of_length_le (by rw [ofI_len]; exact Nat.le_refl _)⟩
theorem SrcX.mono2 {S S' : Nat → Prop} {h h' : H} {a : Option (Nat × Nat)} {e : Nat} {l : List Nat} (s : SrcX S h a e l) (hn : h.next ≤ h'.next) (k : ∀ j,S j → j < h.next → h'.get j = h.get j) (w : ∀ j,S j → j < h.next → S' j) : SrcX S' h' a e l := by
  rcases s with s | ⟨bi,m,e1,e2,hk,hb,g,hm⟩
  · exact .inl s
  · exact .inr ⟨bi,m,e1,e2,w _ hk hb,by omega,by rw [k _ hk hb,g],hm⟩
theorem Wb.srcX {h : H} {w : List Nat} {a : Option (Nat × Nat)} {c : Option Nat} {e lo : Nat} (s : Wb h w a c e) (ge : ∀ q o,a = some (q,o) → lo ≤ q) : SrcX (fun j => lo ≤ j) h a e w := by
  rcases s with ⟨h1,_⟩ | ⟨_,q,md,e1,_,e3,g,hm,hq⟩
  · exact .inl h1
  · exact .inr ⟨q,md,e1,e3,ge _ _ e1,hq,g,hm⟩
def InX (S : Nat → Prop) (h : H) (o : InQ) (p : List V) : Prop := ∃ b cb eb,p = inV o b cb eb ∧ SrcX S h b eb o.l ∧ o.tx.length = 32
def OutX (S : Nat → Prop) (h : H) (o : OutQ) (p : List V) : Prop := ∃ b cb eb,p = [.int .i64 o.v,.slice b o.l.length cb eb] ∧ SrcX S h b eb o.l
theorem InX.c {S : Nat → Prop} {h : H} {o : InQ} {p : List V} (r : InX S h o p) : InC S h o p := by
  obtain ⟨b,cb,eb,e,s,l⟩ := r
  exact ⟨b,cb,eb,e,s.s,l⟩
theorem OutX.c {S : Nat → Prop} {h : H} {o : OutQ} {p : List V} (r : OutX S h o p) : OutC S h o p := by
  obtain ⟨b,cb,eb,e,s⟩ := r
  exact ⟨b,cb,eb,e,s.s⟩
theorem InX.mono2 {S S' : Nat → Prop} {h h' : H} {o : InQ} {p : List V} (r : InX S h o p) (hn : h.next ≤ h'.next) (k : ∀ j,S j → j < h.next → h'.get j = h.get j) (w : ∀ j,S j → j < h.next → S' j) : InX S' h' o p := by
  obtain ⟨b,cb,eb,e,s,l⟩ := r
  exact ⟨b,cb,eb,e,s.mono2 hn k w,l⟩
theorem OutX.mono2 {S S' : Nat → Prop} {h h' : H} {o : OutQ} {p : List V} (r : OutX S h o p) (hn : h.next ≤ h'.next) (k : ∀ j,S j → j < h.next → h'.get j = h.get j) (w : ∀ j,S j → j < h.next → S' j) : OutX S' h' o p := by
  obtain ⟨b,cb,eb,e,s⟩ := r
  exact ⟨b,cb,eb,e,s.mono2 hn k w⟩
theorem InX.fit {S : Nat → Prop} {h : H} {o : InQ} {p : List V} (r : InX S h o p) : Fit 35 p := r.c.fit
theorem OutX.fit {S : Nat → Prop} {h : H} {o : OutQ} {p : List V} (r : OutX S h o p) : Fit 2 p := r.c.fit
theorem itInX : ItA 35 InX := ⟨fun r hn k w => r.mono2 hn k w,fun r => r.fit⟩
theorem itOutX : ItA 2 OutX := ⟨fun r hn k w => r.mono2 hn k w,fun r => r.fit⟩
def TxX (S : Nat → Prop) (h : H) (t : TxQ) (p : List V) : Prop := ∃ a b ca cb ea eb,p = txV t a b ca cb ea eb ∧ RowG S 35 InX h t.ins a ea ∧ RowG S 2 OutX h t.outs b eb
theorem TxX.c {S : Nat → Prop} {h : H} {t : TxQ} {p : List V} (r : TxX S h t p) : TxC S h t p := by
  obtain ⟨a,b,ca,cb,ea,eb,e,ra,rb⟩ := r
  refine ⟨a,b,ca,cb,ea,eb,e,?_,?_⟩
  · rcases ra with r | ⟨q,off,vs,md,e1,e2,hs,hq,g,hl,at_⟩
    · exact .inl r
    · exact .inr ⟨q,off,vs,md,e1,e2,hs,hq,g,hl,fun i o ho => (at_ i o ho).c⟩
  · rcases rb with r | ⟨q,off,vs,md,e1,e2,hs,hq,g,hl,at_⟩
    · exact .inl r
    · exact .inr ⟨q,off,vs,md,e1,e2,hs,hq,g,hl,fun i o ho => (at_ i o ho).c⟩
theorem TxX.fit {S : Nat → Prop} {h : H} {t : TxQ} {p : List V} (r : TxX S h t p) : Fit 4 p := r.c.fit
theorem itTxX : ItA 4 TxX := ⟨fun r hn k w => by
  obtain ⟨a,b,ca,cb,ea,eb,e,ra,rb⟩ := r
  exact ⟨a,b,ca,cb,ea,eb,e,ra.mono2 itInX hn k w,rb.mono2 itOutX hn k w⟩,fun r => r.fit⟩
theorem TxX.mono {S S' : Nat → Prop} {h h' : H} {t : TxQ} {p : List V} (r : TxX S h t p) (hn : h.next ≤ h'.next) (k : ∀ j,S j → h'.get j = h.get j) (w : ∀ j,S j → S' j) : TxX S' h' t p := itTxX.mono r hn (fun j hj _ => k j hj) (fun j hj _ => w j hj)
theorem in_gow (e : EnRr E) (x : NoRr X) (K : Nat) (ep rp : Nat) (l : List Nat) (bl : byt l = true) (hl : l.length ≤ 100000000) (a : Option (Nat × Nat)) (s : Nat × Bool) (h : H) (r : RdH ep rp l a s h) :
    ∃ h' P,callX E X (K + 19) (.fn k_tx_reader_in) [.ptr (some (rp,0))] h = some (.agg P,h') ∧ RdH ep rp l a (rxI l s).2 h' ∧ Kr ep rp h h' ∧ InX (fun j => h.next ≤ j) h' (rxI l s).1 P := by
  rw [x_cfn e.in_ _ _ (Nat.le_of_ble_eq_true rfl) (x.in_ _ _)]
  rw [show ([.int .u8 0,.int .u8 0,.int .u8 0,.int .u8 0,.int .u8 0,.int .u8 0,.int .u8 0,.int .u8 0,.int .u8 0,.int .u8 0,.int .u8 0,.int .u8 0,.int .u8 0,.int .u8 0,.int .u8 0,.int .u8 0,.int .u8 0,.int .u8 0,.int .u8 0,.int .u8 0,.int .u8 0,.int .u8 0,.int .u8 0,.int .u8 0,.int .u8 0,.int .u8 0,.int .u8 0,.int .u8 0,.int .u8 0,.int .u8 0,.int .u8 0,.int .u8 0,.int .u32 0] : List V) = Z33 from rfl,show ([.int .u8 0,.int .u8 0,.int .u8 0,.int .u8 0,.int .u8 0,.int .u8 0,.int .u8 0,.int .u8 0,.int .u8 0,.int .u8 0,.int .u8 0,.int .u8 0,.int .u8 0,.int .u8 0,.int .u8 0,.int .u8 0,.int .u8 0,.int .u8 0,.int .u8 0,.int .u8 0,.int .u8 0,.int .u8 0,.int .u8 0,.int .u8 0,.int .u8 0,.int .u8 0,.int .u8 0,.int .u8 0,.int .u8 0,.int .u8 0,.int .u8 0,.int .u8 0,.int .u32 0,.slice none 0 (some 0) 0,.int .u32 0] : List V) = Z35 from rfl]
  have lz : Z35.length = 35 := rfl
  obtain ⟨Z,eZ⟩ : ∃ Z,Z35 = Z := ⟨_,rfl⟩
  have ltr := r.lt
  have lte := r.y.lt
  have k1 : Kp h (h.new (.cells Z35 .rw)) := Kp.new _ _
  obtain ⟨h1,eh1⟩ : ∃ h1,h.new (.cells Z35 .rw) = h1 := ⟨_,rfl⟩
  have g1 : h1.get h.next = some (.cells Z35 .rw) := by rw [← eh1]; exact h_new_same _ _
  have n1 : h1.next = h.next + 1 := by rw [← eh1]; rfl
  rw [eh1] at k1
  have r1 := r.kp k1
  obtain ⟨h2,c2,r2,kr2⟩ := hash_go e x (K + 14) ep rp l hl a s h1 r1
  obtain ⟨h3,c3,r3,kr3⟩ := word_go e x (K + 5) ep rp l bl hl a _ h2 r2
  obtain ⟨h4,b,cb,eb,c4,r4,kr4,wb4,ge4⟩ := script_go e x K ep rp l bl hl a _ h3 r3
  obtain ⟨h5,c5,r5,kr5⟩ := word_go e x (K + 5) ep rp l bl hl a _ h4 r4
  replace c2 : callX E X (K + 18) (.fn k_tx_reader_hash) _ h1 = _ := c2
  replace c3 : callX E X (K + 18) (.fn k_tx_reader_word) _ h2 = _ := c3
  replace c5 : callX E X (K + 18) (.fn k_tx_reader_word) _ h4 = _ := c5
  have lH : (rxI l s).1.tx.length = 32 := rdH_len l s
  have n12 := kr2.1
  have n23 := kr3.1
  have n34 := kr4.1
  have n45 := kr5.1
  have kr15 := ((kr2.trans kr3).trans kr4).trans kr5
  have g5 : h5.get h.next = some (.cells Z35 .rw) := by rw [kr15.2 _ (by omega) (by omega) (by omega),g1]
  have wb5 : Wb h5 (rxI l s).1.l b cb eb := wb4.mono n45 (fun q hq eq => by
    have := ge4 q 0 eq
    exact kr5.2 q hq (by omega) (by omega))
  have ic : InX (fun j => h.next ≤ j) h5 (rxI l s).1 (inV (rxI l s).1 b cb eb) := ⟨b,cb,eb,rfl,wb5.srcX (fun q o eq => by have := ge4 q o eq; omega),lH⟩
  have ic6 : InX (fun j => h.next ≤ j) (h5.put h.next (.cells (inV (rxI l s).1 b cb eb) .rw)) (rxI l s).1 (inV (rxI l s).1 b cb eb) := by
    obtain ⟨_,_,_,_,s6,_⟩ := ic
    refine ⟨b,cb,eb,rfl,?_,lH⟩
    have := wb5.mono (h' := h5.put h.next (.cells (inV (rxI l s).1 b cb eb) .rw)) (Nat.le_refl _) (fun q hq eq => h_put_ne _ _ (by have := ge4 q 0 eq; omega))
    exact this.srcX (fun q o eq => by have := ge4 q o eq; omega)
  have f33 := fill33 (rxI l s).1.tx lH (rxI l s).1.n
  have f35 := fill35 (rxI l s).1 lH b cb eb
  have st := fun h i => fit_st ic.fit h i
  have pu := fun h i => fit_put ic.fit h i Z35 lz
  have ld := fun m => fit_ld ic.fit m
  refine ⟨h5.put h.next (.cells (inV (rxI l s).1 b cb eb) .rw),inV (rxI l s).1 b cb eb,?_,?_,?_,ic6⟩
  · replace c2 : callX E X (K + 18) (.fn k_tx_reader_hash) _ h1 = some (.agg (ofI .u8 (rxI l s).1.tx),h2) := c2
    replace c3 : callX E X (K + 18) (.fn k_tx_reader_word) _ h2 = some (.int .u32 ((rxI l s).1.n : Nat),h3) := c3
    replace c4 : callX E X (K + 18) (.fn k_tx_reader_script) _ h3 = some (.slice b (rxI l s).1.l.length cb eb,h4) := c4
    replace c5 : callX E X (K + 18) (.fn k_tx_reader_word) _ h4 = some (.int .u32 ((rxI l s).1.q : Nat),h5) := c5
    clear r2 r3 r4 r5 wb4 wb5 ic ic6
    generalize (rxI l s).1 = o at *
    generalize inV o b cb eb = P at *
    generalize o.l.length = n at *
    unfold opV at f35
    generalize ofI .u8 o.tx ++ [.int .u32 (o.n : Int)] = P33 at *
    generalize ofI .u8 o.tx = P32 at *
    generalize Z33 = z33 at *
    generalize Z35 = z35 at *
    simp (config := {maxSteps := 2000000}) (disch := first | omega | (simp only [List.length_cons,List.length_nil,List.length_append,List.length_drop]; omega)) only [eh1,c2,c3,c4,c5,f33,f35,st,pu,ld,g5,↓x_build,x_aggO,↓h_put_get,m_load,↓m_st,m_stE,↓s_alloc,↓x_P0,↓x_P1,s_resc,s_consR,s_res0,↓s_ops,↓s_seq,↓s_ret,↓s_nil,↓s_op,↓s_bindS,s_bindS,↓s_bindE,s_bindE,s_norm,↓s_getp,↓s_getp0,↓s_get,↓s_os0,↓s_os1,↓s_list0,↓s_list1,↓s_mov,↓s_call,s_same,s_end,s_res0,s_tup1,↓iteN_true,↓iteN_false,iteN_true,iteN_false,Nat.reduceEqDiff,decide_true,decide_false]
    try rfl
  · refine ⟨r5.y.mono (Nat.le_refl _) (h_put_ne _ _ (by omega)) (fun q hq eq => h_put_ne _ _ (by have := r.y.alt eq; omega)),by rw [h_put_ne _ _ (by omega)]; exact r5.g,r5.lt,r5.ne,r5.na⟩
  · refine ⟨by show h.next ≤ h5.next; omega,fun j hj a1 a2 => ?_⟩
    rw [h_put_ne _ _ (by omega),kr15.2 j (by omega) a1 a2,k1.2 j hj]
theorem out_gow (e : EnRr E) (x : NoRr X) (K : Nat) (ep rp : Nat) (l : List Nat) (bl : byt l = true) (hl : l.length ≤ 100000000) (a : Option (Nat × Nat)) (s : Nat × Bool) (h : H) (r : RdH ep rp l a s h) :
    ∃ h' P,callX E X (K + 19) (.fn k_tx_reader_out) [.ptr (some (rp,0))] h = some (.agg P,h') ∧ RdH ep rp l a (rxO l s).2 h' ∧ Kr ep rp h h' ∧ OutX (fun j => h.next ≤ j) h' (rxO l s).1 P := by
  rw [x_cfn e.ou _ _ (Nat.le_of_ble_eq_true rfl) (x.ou _ _)]
  have ltr := r.lt
  have lte := r.y.lt
  obtain ⟨h1,eh1⟩ : ∃ h1,h.new (.cells [.int .i64 0,.slice none 0 (some 0) 0] .rw) = h1 := ⟨_,rfl⟩
  have k1 : Kp h h1 := by rw [← eh1]; exact Kp.new _ _
  have g1 : h1.get h.next = some (.cells [.int .i64 0,.slice none 0 (some 0) 0] .rw) := by rw [← eh1]; exact h_new_same _ _
  have n1 : h1.next = h.next + 1 := by rw [← eh1]; rfl
  have r1 := r.kp k1
  obtain ⟨h2,c2,k2,y2⟩ := eyfix_go e.ey x.ey (K + 6) ep 8 l bl hl s.1 a h1 r1.y
  obtain ⟨r2,kr2⟩ := r1.eye k2 _ y2
  obtain ⟨h3,c3,r3,kr3,_⟩ := note_go e x (K + 17) (eyFix 8 l s.1).2.1 ep rp l a _ h2 r2
  obtain ⟨h4,b,cb,eb,c4,r4,kr4,wb4,ge4⟩ := script_go e x K ep rp l bl hl a _ h3 r3
  replace c2 : callX E X (K + 18) (.fn k_octet_Eye_Fixed) _ h1 = _ := c2
  replace c3 : callX E X (K + 18) (.fn k_tx_reader_note) _ h2 = _ := c3
  have n12 := kr2.1
  have n23 := kr3.1
  have n34 := kr4.1
  have kr14 := (kr2.trans kr3).trans kr4
  have g4 : h4.get h.next = some (.cells [.int .i64 0,.slice none 0 (some 0) 0] .rw) := by rw [kr14.2 _ (by omega) (by omega) (by omega),g1]
  have gr1 := r1.g
  have w : wr .i64 ((eyFix 8 l s.1).1 : Int) = (rxO l s).1.v := rfl
  have oc : OutX (fun j => h.next ≤ j) (h4.put h.next (.cells [.int .i64 (rxO l s).1.v,.slice b (rxO l s).1.l.length cb eb] .rw)) (rxO l s).1 [.int .i64 (rxO l s).1.v,.slice b (rxO l s).1.l.length cb eb] := by
    refine ⟨b,cb,eb,rfl,?_⟩
    have := wb4.mono (h' := h4.put h.next (.cells [.int .i64 (rxO l s).1.v,.slice b (rxO l s).1.l.length cb eb] .rw)) (Nat.le_refl _) (fun q hq eq => h_put_ne _ _ (by have := ge4 q 0 eq; omega))
    exact this.srcX (fun q o eq => by have := ge4 q o eq; omega)
  have fi : Fit 2 [.int .i64 (rxO l s).1.v,.slice b (rxO l s).1.l.length cb eb] := ⟨rfl,rfl⟩
  have st := fun h i => fit_st fi h i
  have pu := fun h i => fit_put fi h i [.int .i64 0,.slice none 0 (some 0) 0] rfl
  have ld := fun m => fit_ld fi m
  refine ⟨h4.put h.next (.cells [.int .i64 (rxO l s).1.v,.slice b (rxO l s).1.l.length cb eb] .rw),_,?_,?_,?_,oc⟩
  · replace c4 : callX E X (K + 18) (.fn k_tx_reader_script) _ h3 = some (.slice b (rxO l s).1.l.length cb eb,h4) := c4
    clear r2 r3 r4 wb4 oc fi
    generalize (eyFix 8 l s.1).1 = n at *
    generalize (eyFix 8 l s.1).2.1 = er at *
    generalize (rxO l s).1.v = vv at *
    generalize (rxO l s).1.l.length = ll at *
    simp (config := {maxSteps := 2000000}) (disch := first | omega | (simp only [List.length_cons,List.length_nil,List.length_append,List.length_drop]; omega)) only [eh1,gr1,c2,c3,c4,w,st,pu,ld,g4,↓x_conv,x_convV,↓x_build,x_aggO,↓s_nilchk,x_nilchk,↓x_conv,x_convV,↓x_fieldAddr,x_fieldV,↓s_nilchk,x_nilchk,Nat.zero_add,Nat.add_zero,↓h_put_get,↓s_load,m_load,↓m_load1,m_load1,↓m_st,m_stE,w_zero,w_succ,↓s_alloc,↓x_P0,↓x_P1,x_fill0,x_filli,x_fills,List.length_cons,List.length_nil,List.cons_append,List.drop_succ_cons,List.drop_zero,List.drop_nil,List.nil_append,s_resc,s_consR,s_res0,↓s_ops,↓s_seq,↓s_ret,↓s_nil,↓s_op,↓s_bindS,s_bindS,↓s_bindE,s_bindE,s_norm,↓s_getp,↓s_getp0,↓s_get,↓s_con,↓s_os0,↓s_os1,↓s_list0,↓s_list1,↓s_mov,↓s_call,↓s_ext,s_same,s_end,s_res0,s_tup1,↓iteN_true,↓iteN_false,iteN_true,iteN_false,Nat.zero_add,List.nil_append,List.append_nil,Nat.reduceEqDiff,decide_true,decide_false,List.getElem?_cons_zero,List.getElem?_cons_succ]
    try rfl
  · refine ⟨r4.y.mono (Nat.le_refl _) (h_put_ne _ _ (by omega)) (fun q hq eq => h_put_ne _ _ (by have := r.y.alt eq; omega)),by rw [h_put_ne _ _ (by omega)]; exact r4.g,r4.lt,r4.ne,r4.na⟩
  · refine ⟨by show h.next ≤ h4.next; omega,fun j hj a1 a2 => ?_⟩
    rw [h_put_ne _ _ (by omega),kr14.2 j (by omega) a1 a2,k1.2 j hj]
/-! a list of items: items are read as long as nothing failed -/
end Go.Eng
