/- What functions of the program come to: own work. -/
import Derived.Test.YtnhjmgkmjgfiiaaSgE
namespace Go.Eng
open Go
variable {E : Nat → Option Fn} {X : Orc}
set_option linter.unusedSimpArgs false
set_option linter.unusedVariables false
/-! the order of groups -/
def orB (may : List (List Rq)) (k : Nat) : Nat → List Nat
  | 0 => []
  | i + 1 => if i = k then orB may k i else match may[i]? with
    | some g => orB may k i ++ sgB (1 + i) g
    | none => orB may k i
theorem orB_at (may : List (List Rq)) (k i : Nat) (g : List Rq) (hg : may[i]? = some g) (hne : i ≠ k) : orB may k (i + 1) = orB may k i ++ sgB (1 + i) g := by
  show (if i = k then _ else _) = _
  rw [if_neg hne,hg]
theorem orB_k (may : List (List Rq)) (k : Nat) : orB may k (k + 1) = orB may k k := by
  show (if k = k then _ else _) = _
  rw [if_pos rfl]
theorem orB_lo (may : List (List Rq)) (k : Nat) : ∀ i,i ≤ k → i ≤ may.length → orB may k i = gsB 1 (may.take i) := by
  intro i
  induction i with
  | zero => intro _ _; rfl
  | succ i ih =>
    intro h1 h2
    have hg := List.getElem?_eq_getElem (show i < may.length by omega)
    rw [orB_at may k i _ hg (by omega),ih (by omega) (by omega),gsB_succ 1 may i _ hg]
theorem orB_hi (may : List (List Rq)) (k : Nat) (hk : k < may.length) : ∀ i,k < i → i ≤ may.length → orB may k i = gsB 1 (may.take k) ++ gsB (k + 2) ((may.take i).drop (k + 1)) := by
  intro i
  induction i with
  | zero => intro h; omega
  | succ i ih =>
    intro h1 h2
    by_cases e : i = k
    · subst e
      rw [orB_k,orB_lo may i i (Nat.le_refl _) (by omega)]
      have : (may.take (i + 1)).drop (i + 1) = [] := List.drop_eq_nil_of_le (by rw [List.length_take]; omega)
      rw [this]
      show _ = _ ++ []
      rw [List.append_nil]
    · have hg := List.getElem?_eq_getElem (show i < may.length by omega)
      rw [orB_at may k i _ hg e,ih (by omega) (by omega),List.append_assoc]
      congr 1
      rw [List.take_add_one,hg,List.drop_append_of_le_length (by rw [List.length_take]; omega)]
      show _ = gsB (k + 2) ((may.take i).drop (k + 1) ++ [_])
      rw [gsB_snoc,List.length_drop,List.length_take,show k + 2 + (min i may.length - (k + 1)) = 1 + i by omega]
theorem orB_len (may : List (List Rq)) (k : Nat) (hs : ∀ g ∈ may,g.length ≤ 60 ∧ ∀ o ∈ g,¬ 500 < o.l.length) : ∀ i,(orB may k i).length ≤ 31000 * i := by
  intro i
  induction i with
  | zero => exact Nat.zero_le _
  | succ i ih =>
    rw [Nat.mul_succ]
    by_cases hik : i = k
    · rw [hik,orB_k]; rw [hik] at ih; omega
    · cases hg : may[i]? with
      | none =>
        have : orB may k (i + 1) = orB may k i := by
          show (if i = k then _ else _) = _
          rw [if_neg hik,hg]
        rw [this]; omega
      | some g =>
        have := sgB_small (1 + i) g (hs g (List.mem_of_getElem? hg)).1 (hs g (List.mem_of_getElem? hg)).2
        rw [orB_at may k i g hg hik,List.length_append]; omega
structure OrI (may : List (List Rq)) (k : Nat) (v7 : V) (h0 : H) (i : Nat) (T : Tr V) (h : H) : Prop where
  il : i ≤ may.length
  t5 : evO T (.t 5) = .bool true
  t7 : evO T (.t 7) = v7
  t8 : evO T (.t 8) = .int .i64 (k : Int)
  t39 : evO T (.t 39) = .int .i64 (may.length : Int)
  t40 : evO T (.t 40) = .int .i64 (i : Int)
  st : ∃ a c e,evO T (.t 9) = .slice a (orB may k i).length c e ∧ Nw h0 h (orB may k i) a c e
theorem or_step (e : EnSg E) (x : NoSg X) (M : Nat) (hM : 1000000 < M) (m : Nat) (may : List (List Rq)) (hl : may.length ≤ 20) (hs : ∀ g ∈ may,g.length ≤ 60 ∧ ∀ o ∈ g,¬ 500 < o.l.length) (ok : ∀ g ∈ may,∀ o ∈ g,o.ok) (hok : ∀ i g,may[i]? = some g → sgOk (1 + i) g = true) (k : Nat) (hk : k < may.length) (am : Option (Nat × Nat)) (cm_ : Option Nat) (em : Nat) (h0 : H) (K : Nat → Prop) (row : GsK K h0 may am em) (i : Nat) (hi : i < may.length) (T : Tr V) (h : H) (I : OrI may k (.slice am may.length cm_ em) h0 i T h) :
    ∃ T' h',evC (callX E X (M + 26)) 93 m none L_purserlaw17_SegmentOrder_0 ⟨T,[],h⟩ = some (.normal,⟨T',[],h'⟩) ∧ OrI may k (.slice am may.length cm_ em) h0 (i + 1) T' h' := by
  obtain ⟨_,t5,t7,t8,t39,t40,⟨a,c,eo,t9,nw⟩⟩ := I
  have hg : may[i]? = some may[i] := List.getElem?_eq_getElem hi
  have gm := List.mem_of_getElem? hg
  obtain ⟨hl6,hs5⟩ := hs _ gm
  have sok := hok i _ hg
  have okg := ok _ gm
  have oa := orB_at may k i _ hg
  have ol := orB_len may k hs i
  obtain ⟨q,off,vs,md,b,cb,eb,rfl,rfl,hq,gq0,cg,rg,_⟩ := gs_at (row.kp nw.kp) i _ hg
  generalize may[i] = g at *
  have c0 : decide ((i : Int) < (may.length : Int)) = true := decide_eq_true (by omega)
  have wi : wr .i64 ((i : Int) + 1) = ((i + 1 : Nat) : Int) := by rw [wr_i64 (by omega)]; omega
  have wu : wr .u64 (i : Int) = (i : Int) := u64n _ (by omega)
  have wn : wr .u64 ((i : Int) + 1) = ((1 + i : Nat) : Int) := by rw [wr_u64 (by omega)]; omega
  have ix : idx (i : Int) may.length = some i := idxn hi
  have rBs := rB_small g hs5
  obtain ⟨h1,a2,c2,e2,r1,nw1⟩ := segenc_go e x (M + 3) (by omega) (1 + i) (by omega) g (by omega) okg (fun o ho => by have := hs5 o ho; omega) (by omega) b cb eb h rg.row
  unfold sgR at r1 nw1
  rw [if_pos sok] at r1 nw1
  simp only at r1 nw1
  have smB := sgB_small (1 + i) g hl6 hs5
  replace r1 : callX E X (M + 26) (.fn k_segment_Encode) [.int .u64 ((1 + i : Nat) : Int),.slice b g.length cb eb] h = some (.tup [.slice a2 (sgB (1 + i) g).length c2 e2,.int .i64 0],h1) := r1
  have i1 : i + 1 ≤ may.length := hi
  have z0 : decide ((0 : Int) = 0) = true := rfl
  obtain ⟨n,en⟩ : ∃ n,may.length = n := ⟨_,rfl⟩
  by_cases hik : i = k
  · subst hik
    have d0 : decide ((i : Int) = (i : Int)) = true := decide_eq_true rfl
    have eo1 := orB_k may i
    obtain ⟨O,eO⟩ : ∃ O,orB may i i = O := ⟨_,rfl⟩
    rw [eO] at eo1 t9 nw
    obtain ⟨nn,enn⟩ : ∃ n,1 + i = n := ⟨_,rfl⟩
    rw [enn] at wn r1
    obtain ⟨gl,egl⟩ : ∃ n,g.length = n := ⟨_,rfl⟩
    rw [egl] at cg r1
    obtain ⟨BL,eBL⟩ : ∃ n,(sgB nn g).length = n := ⟨_,rfl⟩
    rw [eBL] at r1
    obtain ⟨OL,eOL⟩ : ∃ n,O.length = n := ⟨_,rfl⟩
    rw [eOL] at t9
    rw [en] at t7 t39 c0 ix
    obtain ⟨T',r,u5,u7,u8,u39,u40,u9⟩ : ∃ T',evC (callX E X (M + 26)) 93 m none L_purserlaw17_SegmentOrder_0 ⟨T,[],h⟩ = some (.normal,⟨T',[],h1⟩) ∧ evO T' (.t 5) = .bool true ∧ evO T' (.t 7) = .slice (some (q,off)) n cm_ 1 ∧ evO T' (.t 8) = .int .i64 (i : Int) ∧ evO T' (.t 39) = .int .i64 (n : Int) ∧ evO T' (.t 40) = .int .i64 ((i + 1 : Nat) : Int) ∧ evO T' (.t 9) = .slice a OL c eo := by
      exact ⟨_,by
        simp (config := {maxSteps := 2000000}) (disch := first | omega | (simp only [List.length_cons,List.length_nil,List.length_append,List.length_drop]; omega)) only [L_purserlaw17_SegmentOrder_0,t5,t7,t8,t39,t40,t9,gq0,cg,c0,wi,ix,wu,wn,r1,z0,d0,↓s_append,↓s_len,x_lenS,↓b_xor32,↓b_and32,↓b_or32,↓u_not32,b_xor32,b_and32,b_or32,u_not32,w32ad,↓x_conv,x_convV,↓x_fieldAddr,x_fieldV,↓s_nilchk,x_nilchk,Nat.zero_add,Nat.add_zero,Nat.mul_one,↓s_evD,↓s_dnil,↓s_dL,↓s_dLg,↓s_dR,↓s_dRg,↓s_dRj,↓s_dRjg,↓s_dB,↓s_dBg,↓s_dAlloc,↓s_bindD,s_bindD,s_finD,s_finDx,s_addP0,s_addP1,s_addB,s_lookP,↓s_bump0,↓s_bump_get,s_bump_next,s_ok0,↓s_ok1,s_okR0,↓s_okR1,↓s_okE,s_okE,s_okE1,s_nth0,s_nthS,Nat.add_zero,Bool.and_self,Bool.and_true,Bool.true_and,↓l_loop,↓l_succ,↓l_normal,l_normal,l_exit,l_ret,l_iteN,↓h_put_get,↓h_new_get,↓h_del_get,h_next_put,h_next_new,h_next_del,Nat.add_assoc,Nat.add_eq_left,Nat.left_eq_add,Nat.add_left_cancel_iff,↓s_load,m_load,↓m_load1,m_load1,↓m_st,m_stE,m_storeI,m_storeE,w_zero,w_succ,↓s_alloc,↓x_idxA,↓x_idxS,x_idxAE,x_idxSE,x_addrE,x_idx,x_lenS,↓s_len,↓x_buildS,x_buildE,↓x_P0,↓x_P1,x_fill0,x_filli,x_fills,x_fillb,c_int,List.length_cons,List.length_nil,List.cons_append,List.drop_succ_cons,List.drop_zero,List.drop_nil,List.nil_append,Int.reduceAdd,Int.reduceToNat,Int.reduceLT,Int.reduceLE,Nat.reduceAdd,Nat.reduceMul,Nat.reduceLeDiff,Int.reduceEq,Int.reduceSub,Int.cast_ofNat_Int,s_resc,s_consR,m_load4,m_store4,s_res0,↓s_skip,↓s_ops,↓s_dops,↓s_seq,↓s_cond,↓s_block,↓s_exit,↓s_ret,↓s_scope,↓s_nil,↓s_op,↓s_opg,↓s_wanted',↓s_wantV,s_wantV,s_wantV0,beq_true,beq_false,↓s_bindS,s_bindS,↓s_bindE,s_bindE,s_bindE_ret,s_bindE_exit,s_bindE_iteN,s_norm,↓s_condV,s_condV,s_block_ret,s_block_normal,s_block_exit,s_block_iteN,↓s_getp,↓s_getp0,↓s_get,s_get0,↓s_con,↓s_fn,↓s_os0,↓s_os1,↓s_list0,↓s_list1,↓s_mov,↓s_pick,↓s_pickE,s_pickE,↓s_bin,↓s_un,↓s_minmax,↓s_call,↓s_callv,↓s_callV,↓s_ext,s_same,b_eql,b_neq,b_lss,b_leq,b_gtr,b_geq,b_add,b_sub,b_mul,b_eqlb,b_neqb,b_fnil,b_fnil',b_fnil2,b_fnil2',u_neg,u_not,m_two,s_end,s_end',s_end_iteN,s_res0,s_res1,s_tup1,s_tup2,↓iteN_true,↓iteN_false,iteN_true,iteN_false,Nat.zero_add,List.nil_append,List.append_nil,Nat.reduceEqDiff,reduceIte,decide_true,decide_false,Bool.not_true,Bool.not_false,List.getElem?_cons_zero,List.getElem?_cons_succ,Bool.false_eq_true,if_true,if_false,beq_self_eq_true]
        exact rfl,(by (simp only [s_getp,s_getp0,Nat.reduceEqDiff,decide_false,decide_true,iteN_false,iteN_true,t5]; try rfl)),(by (simp only [s_getp,s_getp0,Nat.reduceEqDiff,decide_false,decide_true,iteN_false,iteN_true,t7]; try rfl)),(by (simp only [s_getp,s_getp0,Nat.reduceEqDiff,decide_false,decide_true,iteN_false,iteN_true,t8]; try rfl)),(by (simp only [s_getp,s_getp0,Nat.reduceEqDiff,decide_false,decide_true,iteN_false,iteN_true,t39]; try rfl)),(by (simp only [s_getp,s_getp0,Nat.reduceEqDiff,decide_false,decide_true,iteN_false,iteN_true,t40]; try rfl)),(by (simp only [s_getp,s_getp0,Nat.reduceEqDiff,decide_false,decide_true,iteN_false,iteN_true,t9]; try rfl))⟩
    exact ⟨T',h1,r,i1,u5,by rw [en]; exact u7,u8,by rw [en]; exact u39,u40,a,c,eo,by rw [eo1,eOL]; exact u9,by rw [eo1]; exact nw.more nw1.kp⟩
  · have d0 : decide ((i : Int) = (k : Int)) = false := decide_eq_false (by omega)
    have oa := oa hik
    obtain ⟨a3,c3,e3,h2,ap,nw2,n2,f2,o2⟩ := (nw.more nw1.kp).ap (sgB (1 + i) g) (by omega)
    have sc := nw1.wb.src.cellz c2
    rw [← oa] at ap nw2
    obtain ⟨O1,eO1⟩ : ∃ O,(orB may k (i + 1)).length = O := ⟨_,rfl⟩
    rw [eO1] at ap
    obtain ⟨nn,enn⟩ : ∃ n,1 + i = n := ⟨_,rfl⟩
    rw [enn] at wn r1 sc ap
    obtain ⟨gl,egl⟩ : ∃ n,g.length = n := ⟨_,rfl⟩
    rw [egl] at cg r1
    obtain ⟨BL,eBL⟩ : ∃ n,(sgB nn g).length = n := ⟨_,rfl⟩
    obtain ⟨CB,eCB⟩ : ∃ n,ofI .u8 (sgB nn g) = n := ⟨_,rfl⟩
    rw [eBL] at r1 sc ap
    rw [eCB] at sc ap
    obtain ⟨OL,eOL⟩ : ∃ n,(orB may k i).length = n := ⟨_,rfl⟩
    rw [eOL] at t9 ap
    rw [en] at t7 t39 c0 ix
    obtain ⟨T',r,u5,u7,u8,u39,u40,u9⟩ : ∃ T',evC (callX E X (M + 26)) 93 m none L_purserlaw17_SegmentOrder_0 ⟨T,[],h⟩ = some (.normal,⟨T',[],h2⟩) ∧ evO T' (.t 5) = .bool true ∧ evO T' (.t 7) = .slice (some (q,off)) n cm_ 1 ∧ evO T' (.t 8) = .int .i64 (k : Int) ∧ evO T' (.t 39) = .int .i64 (n : Int) ∧ evO T' (.t 40) = .int .i64 ((i + 1 : Nat) : Int) ∧ evO T' (.t 9) = .slice a3 O1 c3 e3 := by
      exact ⟨_,by
        simp (config := {maxSteps := 2000000}) (disch := first | omega | (simp only [List.length_cons,List.length_nil,List.length_append,List.length_drop]; omega)) only [L_purserlaw17_SegmentOrder_0,t5,t7,t8,t39,t40,t9,gq0,cg,c0,wi,ix,wu,wn,r1,z0,d0,sc,ap,↓s_append,↓s_len,x_lenS,↓b_xor32,↓b_and32,↓b_or32,↓u_not32,b_xor32,b_and32,b_or32,u_not32,w32ad,↓x_conv,x_convV,↓x_fieldAddr,x_fieldV,↓s_nilchk,x_nilchk,Nat.zero_add,Nat.add_zero,Nat.mul_one,↓s_evD,↓s_dnil,↓s_dL,↓s_dLg,↓s_dR,↓s_dRg,↓s_dRj,↓s_dRjg,↓s_dB,↓s_dBg,↓s_dAlloc,↓s_bindD,s_bindD,s_finD,s_finDx,s_addP0,s_addP1,s_addB,s_lookP,↓s_bump0,↓s_bump_get,s_bump_next,s_ok0,↓s_ok1,s_okR0,↓s_okR1,↓s_okE,s_okE,s_okE1,s_nth0,s_nthS,Nat.add_zero,Bool.and_self,Bool.and_true,Bool.true_and,↓l_loop,↓l_succ,↓l_normal,l_normal,l_exit,l_ret,l_iteN,↓h_put_get,↓h_new_get,↓h_del_get,h_next_put,h_next_new,h_next_del,Nat.add_assoc,Nat.add_eq_left,Nat.left_eq_add,Nat.add_left_cancel_iff,↓s_load,m_load,↓m_load1,m_load1,↓m_st,m_stE,m_storeI,m_storeE,w_zero,w_succ,↓s_alloc,↓x_idxA,↓x_idxS,x_idxAE,x_idxSE,x_addrE,x_idx,x_lenS,↓s_len,↓x_buildS,x_buildE,↓x_P0,↓x_P1,x_fill0,x_filli,x_fills,x_fillb,c_int,List.length_cons,List.length_nil,List.cons_append,List.drop_succ_cons,List.drop_zero,List.drop_nil,List.nil_append,Int.reduceAdd,Int.reduceToNat,Int.reduceLT,Int.reduceLE,Nat.reduceAdd,Nat.reduceMul,Nat.reduceLeDiff,Int.reduceEq,Int.reduceSub,Int.cast_ofNat_Int,s_resc,s_consR,m_load4,m_store4,s_res0,↓s_skip,↓s_ops,↓s_dops,↓s_seq,↓s_cond,↓s_block,↓s_exit,↓s_ret,↓s_scope,↓s_nil,↓s_op,↓s_opg,↓s_wanted',↓s_wantV,s_wantV,s_wantV0,beq_true,beq_false,↓s_bindS,s_bindS,↓s_bindE,s_bindE,s_bindE_ret,s_bindE_exit,s_bindE_iteN,s_norm,↓s_condV,s_condV,s_block_ret,s_block_normal,s_block_exit,s_block_iteN,↓s_getp,↓s_getp0,↓s_get,s_get0,↓s_con,↓s_fn,↓s_os0,↓s_os1,↓s_list0,↓s_list1,↓s_mov,↓s_pick,↓s_pickE,s_pickE,↓s_bin,↓s_un,↓s_minmax,↓s_call,↓s_callv,↓s_callV,↓s_ext,s_same,b_eql,b_neq,b_lss,b_leq,b_gtr,b_geq,b_add,b_sub,b_mul,b_eqlb,b_neqb,b_fnil,b_fnil',b_fnil2,b_fnil2',u_neg,u_not,m_two,s_end,s_end',s_end_iteN,s_res0,s_res1,s_tup1,s_tup2,↓iteN_true,↓iteN_false,iteN_true,iteN_false,Nat.zero_add,List.nil_append,List.append_nil,Nat.reduceEqDiff,reduceIte,decide_true,decide_false,Bool.not_true,Bool.not_false,List.getElem?_cons_zero,List.getElem?_cons_succ,Bool.false_eq_true,if_true,if_false,beq_self_eq_true]
        exact rfl,(by (simp only [s_getp,s_getp0,Nat.reduceEqDiff,decide_false,decide_true,iteN_false,iteN_true,t5]; try rfl)),(by (simp only [s_getp,s_getp0,Nat.reduceEqDiff,decide_false,decide_true,iteN_false,iteN_true,t7]; try rfl)),(by (simp only [s_getp,s_getp0,Nat.reduceEqDiff,decide_false,decide_true,iteN_false,iteN_true,t8]; try rfl)),(by (simp only [s_getp,s_getp0,Nat.reduceEqDiff,decide_false,decide_true,iteN_false,iteN_true,t39]; try rfl)),(by (simp only [s_getp,s_getp0,Nat.reduceEqDiff,decide_false,decide_true,iteN_false,iteN_true,t40]; try rfl)),(by (simp only [s_getp,s_getp0,Nat.reduceEqDiff,decide_false,decide_true,iteN_false,iteN_true,t9]; try rfl))⟩
    exact ⟨T',h2,r,i1,u5,by rw [en]; exact u7,u8,by rw [en]; exact u39,u40,a3,c3,e3,by rw [eO1]; exact u9,nw2⟩
end Go.Eng
namespace Go.Eng
open Go
variable {E : Nat → Option Fn} {X : Orc}
set_option linter.unusedSimpArgs false
set_option linter.unusedVariables false
theorem gg_no {gs : List (List Rq)} (h : ggR gs = false) : gs.length ≤ 20 ∧ ∀ g ∈ gs,g.length ≤ 60 ∧ ∀ o ∈ g,¬ 500 < o.l.length := by
  unfold ggR at h
  rw [Bool.or_eq_false_iff] at h
  refine ⟨by have := of_decide_eq_false h.1; omega,fun g hg => ?_⟩
  have h2 := List.any_eq_false.1 h.2 g hg
  have h3 : grR g = false := by simpa using h2
  unfold grR at h3
  rw [Bool.or_eq_false_iff] at h3
  exact ⟨by have := of_decide_eq_false h3.1; omega,fun o ho => by have := List.any_eq_false.1 h3.2 o ho; simpa using this⟩
/-- what is read where one group is left out -/
theorem or_read (may : List (List Rq)) (hl : may.length ≤ 20) (hok : ∀ i g,may[i]? = some g → sgOk (1 + i) g = true) (k : Nat) (hk : k < may.length) : srR (orB may k may.length) 1 = (may.take k,(gsB 1 (may.take k)).length) := by
  have e := orB_hi may k hk may.length hk (Nat.le_refl _)
  rw [List.take_of_length_le (Nat.le_refl _)] at e
  have lt : (may.take k).length = k := by rw [List.length_take]; omega
  have ge := gsB_ge (may.take k) 1
  rw [lt] at ge
  unfold srR
  have hz : (orB may k may.length).drop 0 = gsB 1 (may.take k) ++ gsB (k + 2) (may.drop (k + 1)) := by rw [List.drop_zero,e]
  have el := congrArg List.length e
  rw [List.length_append] at el
  have := gr_join (orB may k may.length) (may.take k) 1 0 _ ((orB may k may.length).length + 1) (Nat.zero_le _) hz (fun i g h => by
    rw [List.getElem?_take] at h
    by_cases hi : i < k
    · rw [if_pos hi] at h; exact hok i g h
    · rw [if_neg hi] at h; cases h) (Nat.le_refl _) (by omega) (by
    rw [lt]
    cases hd : may.drop (k + 1) with
    | nil => exact ga_nil _ _
    | cons g r =>
      have hg : may[k + 1]? = some g := by
        have : (may.drop (k + 1))[0]? = some g := by rw [hd]; rfl
        rw [List.getElem?_drop] at this
        exact this
      have so := hok (k + 1) g hg
      rw [show 1 + (k + 1) = k + 2 by omega] at so
      have sg := sgB_ge (k + 2) g
      have l2 : (gsB (k + 2) (may.drop (k + 1))).length = (sgB (k + 2) g).length + (gsB (k + 2 + 1) r).length := by
        rw [hd]; show (sgB (k + 2) g ++ gsB (k + 2 + 1) r).length = _; rw [List.length_append]
      show gaV (1 + k) _ (sgB (k + 2) g ++ gsB (k + 2 + 1) r) [] = none
      exact ga_other (1 + k) (k + 2) (by omega) (by omega) (by omega) g so _ _ (by omega)) (by omega)
  rw [this,Nat.zero_add]
set_option maxRecDepth 100000 in
set_option maxHeartbeats 4000000 in
theorem law_SegmentOrder (e : EnSg E) (el : E k_purserlaw17_SegmentOrder = some f_purserlaw17_SegmentOrder) (M : Nat) (hM : 1000000 < M) (gs : List (List Rq)) (ok : ∀ g ∈ gs,∀ o ∈ g,o.ok) (hb : gs.length < 9223372036854775807) (hbg : ∀ g ∈ gs,g.length < 9223372036854775807) (x : Nat) (x1 : x < 256) (a0 : Option (Nat × Nat)) (h : H) (oh : GgsH h a0 gs) :
    ∃ h2,callX E (alR k_purserlaw17_alive) (M + 27) (.fn k_purserlaw17_SegmentOrder) [.slice a0 gs.length none 1,.int .u8 (x : Int)] h = some (.bool true,h2) := by
  rw [x_cfn el _ _ (Nat.le_of_ble_eq_true rfl) rfl]
  have xs : NoSg (alR k_purserlaw17_alive) := al_sg
  have al : ∀ h,callX E (alR k_purserlaw17_alive) (M + 26) (.fn k_purserlaw17_alive) [] h = some (.bool true,h) := fun h => x_known rfl
  have row := oh.row
  have gr := great7_go e xs (M + 24) (by omega) gs hb hbg a0 none 1 h _ row
  replace gr : callX E (alR k_purserlaw17_alive) (M + 26) (.fn k_purserref17_Great) [.slice a0 gs.length none 1] h = _ := gr
  have y1 : decide ((0 : Int) < 1) = true := rfl
  have y0 : decide ((0 : Int) < 0) = false := rfl
  cases hgr : ggR gs with
  | true =>
    rw [hgr,if_pos rfl] at gr
    generalize gs.length = L at *
    simp (config := {maxSteps := 2000000}) (disch := first | omega | rfl | (simp only [ofI_len,List.length_append,List.length_take,List.length_drop,List.length_cons,List.length_nil,List.length_replicate,List.length_set]; done) | (simp only [ofI_len,List.length_append,List.length_take,List.length_drop,List.length_cons,List.length_nil,List.length_replicate,List.length_set]; omega)) only [al,gr,y1,↓s_len,x_lenS,↓b_xor32,↓b_and32,↓b_or32,↓u_not32,b_xor32,b_and32,b_or32,u_not32,w32ad,↓x_conv,x_convV,↓x_fieldAddr,x_fieldV,↓s_nilchk,x_nilchk,Nat.zero_add,Nat.add_zero,Nat.mul_one,↓s_evD,↓s_dnil,↓s_dL,↓s_dLg,↓s_dR,↓s_dRg,↓s_dRj,↓s_dRjg,↓s_dB,↓s_dBg,↓s_dAlloc,↓s_bindD,s_bindD,s_finD,s_finDx,s_addP0,s_addP1,s_addB,s_lookP,↓s_bump0,↓s_bump_get,s_bump_next,s_ok0,↓s_ok1,s_okR0,↓s_okR1,↓s_okE,s_okE,s_okE1,s_nth0,s_nthS,Nat.add_zero,Bool.and_self,Bool.and_true,Bool.true_and,↓l_loop,↓l_succ,↓l_normal,l_normal,l_exit,l_ret,l_iteN,↓h_put_get,↓h_new_get,↓h_del_get,h_next_put,h_next_new,h_next_del,Nat.add_assoc,Nat.add_eq_left,Nat.left_eq_add,Nat.add_left_cancel_iff,↓s_load,m_load,↓m_load1,m_load1,↓m_st,m_stE,m_storeI,m_storeE,w_zero,w_succ,↓s_alloc,↓x_idxA,↓x_idxS,x_idxAE,x_idxSE,x_addrE,x_idx,x_lenS,↓s_len,↓x_buildS,x_buildE,↓x_P0,↓x_P1,x_fill0,x_filli,x_fills,x_fillb,c_int,List.length_cons,List.length_nil,List.cons_append,List.drop_succ_cons,List.drop_zero,List.drop_nil,List.nil_append,Int.reduceAdd,Int.reduceToNat,Int.reduceLT,Int.reduceLE,Nat.reduceAdd,Nat.reduceMul,Nat.reduceLeDiff,Int.reduceEq,Int.reduceSub,Int.cast_ofNat_Int,s_resc,s_consR,m_load4,m_store4,s_res0,↓s_skip,↓s_ops,↓s_dops,↓s_seq,↓s_cond,↓s_block,↓s_exit,↓s_ret,↓s_scope,↓s_nil,↓s_op,↓s_opg,↓s_wanted',↓s_wantV,s_wantV,s_wantV0,beq_true,beq_false,↓s_bindS,s_bindS,↓s_bindE,s_bindE,s_bindE_ret,s_bindE_exit,s_bindE_iteN,s_norm,↓s_condV,s_condV,s_block_ret,s_block_normal,s_block_exit,s_block_iteN,↓s_getp,↓s_getp0,↓s_get,s_get0,↓s_con,↓s_fn,↓s_os0,↓s_os1,↓s_list0,↓s_list1,↓s_mov,↓s_pick,↓s_pickE,s_pickE,↓s_bin,↓s_un,↓s_minmax,↓s_call,↓s_callv,↓s_callV,↓s_ext,s_same,b_eql,b_neq,b_lss,b_leq,b_gtr,b_geq,b_add,b_sub,b_mul,b_eqlb,b_neqb,b_fnil,b_fnil',b_fnil2,b_fnil2',u_neg,u_not,m_two,s_end,s_end',s_end_iteN,s_res0,s_res1,s_tup1,s_tup2,↓iteN_true,↓iteN_false,iteN_true,iteN_false,Nat.zero_add,List.nil_append,List.append_nil,Nat.reduceEqDiff,reduceIte,decide_true,decide_false,Bool.not_true,Bool.not_false,List.getElem?_cons_zero,List.getElem?_cons_succ,Bool.false_eq_true,if_true,if_false,beq_self_eq_true]
    exact ⟨_,rfl⟩
  | false =>
  rw [hgr,if_neg (by simp)] at gr
  obtain ⟨hl,hs⟩ := gg_no hgr
  clear hgr
  obtain ⟨h1,a1,c1,e1,am,cm_,em,r1,nw1,rowM⟩ := written_go e xs (M + 2) (by omega) 1 gs hl hs ok (by omega) a0 none 1 h row
  have wok := wrV_ok 1 gs hs
  generalize wrV 1 gs = W at *
  obtain ⟨W1,may⟩ := W
  simp only at r1 nw1 rowM
  replace r1 : callX E (alR k_purserlaw17_alive) (M + 26) (.fn k_purserlaw17_written) [.int .u64 1,.slice a0 gs.length none 1] h = some (.tup [.slice a1 W1.length c1 e1,.slice am may.length cm_ em],h1) := r1
  have cnt : may.length ≤ gs.length := wok.cnt
  have hok : ∀ i g,may[i]? = some g → sgOk (1 + i) g = true := wok.ok
  have hsm : ∀ g ∈ may,g.length ≤ 60 ∧ ∀ o ∈ g,¬ 500 < o.l.length := fun g hg => hs g (wok.mem g hg)
  have okm : ∀ g ∈ may,∀ o ∈ g,o.ok := fun g hg => ok g (wok.mem g hg)
  clear wok
  by_cases hz : may.length = 0
  · have z0 : decide ((0 : Int) = 0) = true := rfl
    rw [hz] at r1
    generalize W1.length = wl at *
    generalize gs.length = L at *
    simp (config := {maxSteps := 2000000}) (disch := first | omega | rfl | (simp only [ofI_len,List.length_append,List.length_take,List.length_drop,List.length_cons,List.length_nil,List.length_replicate,List.length_set]; done) | (simp only [ofI_len,List.length_append,List.length_take,List.length_drop,List.length_cons,List.length_nil,List.length_replicate,List.length_set]; omega)) only [al,gr,y0,r1,z0,↓s_len,x_lenS,↓b_xor32,↓b_and32,↓b_or32,↓u_not32,b_xor32,b_and32,b_or32,u_not32,w32ad,↓x_conv,x_convV,↓x_fieldAddr,x_fieldV,↓s_nilchk,x_nilchk,Nat.zero_add,Nat.add_zero,Nat.mul_one,↓s_evD,↓s_dnil,↓s_dL,↓s_dLg,↓s_dR,↓s_dRg,↓s_dRj,↓s_dRjg,↓s_dB,↓s_dBg,↓s_dAlloc,↓s_bindD,s_bindD,s_finD,s_finDx,s_addP0,s_addP1,s_addB,s_lookP,↓s_bump0,↓s_bump_get,s_bump_next,s_ok0,↓s_ok1,s_okR0,↓s_okR1,↓s_okE,s_okE,s_okE1,s_nth0,s_nthS,Nat.add_zero,Bool.and_self,Bool.and_true,Bool.true_and,↓l_loop,↓l_succ,↓l_normal,l_normal,l_exit,l_ret,l_iteN,↓h_put_get,↓h_new_get,↓h_del_get,h_next_put,h_next_new,h_next_del,Nat.add_assoc,Nat.add_eq_left,Nat.left_eq_add,Nat.add_left_cancel_iff,↓s_load,m_load,↓m_load1,m_load1,↓m_st,m_stE,m_storeI,m_storeE,w_zero,w_succ,↓s_alloc,↓x_idxA,↓x_idxS,x_idxAE,x_idxSE,x_addrE,x_idx,x_lenS,↓s_len,↓x_buildS,x_buildE,↓x_P0,↓x_P1,x_fill0,x_filli,x_fills,x_fillb,c_int,List.length_cons,List.length_nil,List.cons_append,List.drop_succ_cons,List.drop_zero,List.drop_nil,List.nil_append,Int.reduceAdd,Int.reduceToNat,Int.reduceLT,Int.reduceLE,Nat.reduceAdd,Nat.reduceMul,Nat.reduceLeDiff,Int.reduceEq,Int.reduceSub,Int.cast_ofNat_Int,s_resc,s_consR,m_load4,m_store4,s_res0,↓s_skip,↓s_ops,↓s_dops,↓s_seq,↓s_cond,↓s_block,↓s_exit,↓s_ret,↓s_scope,↓s_nil,↓s_op,↓s_opg,↓s_wanted',↓s_wantV,s_wantV,s_wantV0,beq_true,beq_false,↓s_bindS,s_bindS,↓s_bindE,s_bindE,s_bindE_ret,s_bindE_exit,s_bindE_iteN,s_norm,↓s_condV,s_condV,s_block_ret,s_block_normal,s_block_exit,s_block_iteN,↓s_getp,↓s_getp0,↓s_get,s_get0,↓s_con,↓s_fn,↓s_os0,↓s_os1,↓s_list0,↓s_list1,↓s_mov,↓s_pick,↓s_pickE,s_pickE,↓s_bin,↓s_un,↓s_minmax,↓s_call,↓s_callv,↓s_callV,↓s_ext,s_same,b_eql,b_neq,b_lss,b_leq,b_gtr,b_geq,b_add,b_sub,b_mul,b_eqlb,b_neqb,b_fnil,b_fnil',b_fnil2,b_fnil2',u_neg,u_not,m_two,s_end,s_end',s_end_iteN,s_res0,s_res1,s_tup1,s_tup2,↓iteN_true,↓iteN_false,iteN_true,iteN_false,Nat.zero_add,List.nil_append,List.append_nil,Nat.reduceEqDiff,reduceIte,decide_true,decide_false,Bool.not_true,Bool.not_false,List.getElem?_cons_zero,List.getElem?_cons_succ,Bool.false_eq_true,if_true,if_false,beq_self_eq_true]
    exact ⟨_,rfl⟩
  have z0 : decide ((may.length : Int) = 0) = false := decide_eq_false (by omega)
  obtain ⟨k,ek⟩ : ∃ k,x % may.length = k := ⟨_,rfl⟩
  have hk : k < may.length := by rw [← ek]; exact Nat.mod_lt _ (by omega)
  have wx : wr .i64 (x : Int) = (x : Int) := wr_i64 (by omega)
  have rem : ∀ (e : EqK) (h : H),binV .rem e h (.int .i64 (x : Int)) (.int .i64 (may.length : Int)) = some (.int .i64 (k : Int)) := fun e h => by
    rw [b_rem _ _ _ _ _ (by omega),← ek]; rfl
  have fin : ∀ T,OrI may k (.slice am may.length cm_ em) h1 0 T h1 → ∃ h2,fnEnd [.tmp 4] (bindE (blockE 0 (loopN (evC (callX E (alR k_purserlaw17_alive) (M + 26)) 93 (M + 26) none L_purserlaw17_SegmentOrder_0) (M + 26) ⟨T,[],h1⟩)) (evC (callX E (alR k_purserlaw17_alive) (M + 26)) 93 (M + 26) none R_purserlaw17_SegmentOrder_0)) = some (.bool true,h2) := by
    intro T I
    obtain ⟨T',h',rr,J⟩ := loop_go (f := evC (callX E (alR k_purserlaw17_alive) (M + 26)) 93 (M + 26) none L_purserlaw17_SegmentOrder_0) (OrI may k (.slice am may.length cm_ em) h1) may.length (.exit 0) (by intro h; cases h) (OrI may k (.slice am may.length cm_ em) h1 may.length) (fun i T h' hi I => or_step e xs M hM _ may (by omega) hsm okm hok k hk am cm_ em h1 _ rowM.gs i hi T h' I) (fun T h' I => by
      obtain ⟨il,t5,t7,t8,t39,t40,⟨a,c,eo,t9,nw⟩⟩ := I
      have c0 : decide ((may.length : Int) < (may.length : Int)) = false := decide_eq_false (by omega)
      obtain ⟨O,eO⟩ : ∃ O,(orB may k may.length).length = O := ⟨_,rfl⟩
      rw [eO] at t9
      obtain ⟨n,en⟩ : ∃ n,may.length = n := ⟨_,rfl⟩
      rw [en] at t7 t39 t40 c0
      exact ⟨_,h',by
        simp (config := {maxSteps := 2000000}) (disch := first | omega | (simp only [List.length_cons,List.length_nil,List.length_append,List.length_drop]; omega)) only [L_purserlaw17_SegmentOrder_0,t39,t40,c0,↓s_len,x_lenS,↓b_xor32,↓b_and32,↓b_or32,↓u_not32,b_xor32,b_and32,b_or32,u_not32,w32ad,↓x_conv,x_convV,↓x_fieldAddr,x_fieldV,↓s_nilchk,x_nilchk,Nat.zero_add,Nat.add_zero,Nat.mul_one,↓l_loop,↓l_succ,↓l_normal,l_normal,l_exit,l_ret,l_iteN,↓h_put_get,↓h_new_get,↓h_del_get,h_next_put,h_next_new,h_next_del,Nat.add_assoc,Nat.add_eq_left,Nat.left_eq_add,Nat.add_left_cancel_iff,↓s_load,m_load,↓m_load1,m_load1,↓m_st,m_stE,m_storeI,m_storeE,w_zero,w_succ,↓s_alloc,↓x_idxA,↓x_idxS,x_idxAE,x_idxSE,x_addrE,x_idx,x_lenS,↓s_len,↓x_buildS,x_buildE,↓x_P0,↓x_P1,x_fill0,x_filli,x_fills,x_fillb,c_int,List.length_cons,List.length_nil,List.cons_append,List.drop_succ_cons,List.drop_zero,List.drop_nil,List.nil_append,Int.reduceAdd,Int.reduceToNat,Int.reduceLT,Int.reduceLE,Nat.reduceAdd,Nat.reduceMul,Nat.reduceLeDiff,Int.reduceEq,Int.reduceSub,Int.cast_ofNat_Int,s_resc,s_consR,m_load4,m_store4,s_res0,↓s_skip,↓s_ops,↓s_dops,↓s_seq,↓s_cond,↓s_block,↓s_exit,↓s_ret,↓s_scope,↓s_nil,↓s_op,↓s_opg,↓s_wanted',↓s_wantV,s_wantV,s_wantV0,beq_true,beq_false,↓s_bindS,s_bindS,↓s_bindE,s_bindE,s_bindE_ret,s_bindE_exit,s_bindE_iteN,s_norm,↓s_condV,s_condV,s_block_ret,s_block_normal,s_block_exit,s_block_iteN,↓s_getp,↓s_getp0,↓s_get,s_get0,↓s_con,↓s_fn,↓s_os0,↓s_os1,↓s_list0,↓s_list1,↓s_mov,↓s_pick,↓s_pickE,s_pickE,↓s_bin,↓s_un,↓s_minmax,↓s_call,↓s_callv,↓s_callV,↓s_ext,s_same,b_eql,b_neq,b_lss,b_leq,b_gtr,b_geq,b_add,b_sub,b_mul,b_eqlb,b_neqb,b_fnil,b_fnil',b_fnil2,b_fnil2',u_neg,u_not,m_two,s_end,s_end',s_end_iteN,s_res0,s_res1,s_tup1,s_tup2,↓iteN_true,↓iteN_false,iteN_true,iteN_false,Nat.zero_add,List.nil_append,List.append_nil,Nat.reduceEqDiff,reduceIte,decide_true,decide_false,Bool.not_true,Bool.not_false,List.getElem?_cons_zero,List.getElem?_cons_succ,Bool.false_eq_true,if_true,if_false,beq_self_eq_true]
        exact rfl,⟨il,(by (simp only [s_getp,s_getp0,Nat.reduceEqDiff,decide_false,decide_true,iteN_false,iteN_true,t5]; try rfl)),by rw [en]; exact (by (simp only [s_getp,s_getp0,Nat.reduceEqDiff,decide_false,decide_true,iteN_false,iteN_true,t7]; try rfl)),(by (simp only [s_getp,s_getp0,Nat.reduceEqDiff,decide_false,decide_true,iteN_false,iteN_true,t8]; try rfl)),by rw [en]; exact (by (simp only [s_getp,s_getp0,Nat.reduceEqDiff,decide_false,decide_true,iteN_false,iteN_true,t39]; try rfl)),by rw [en]; exact (by (simp only [s_getp,s_getp0,Nat.reduceEqDiff,decide_false,decide_true,iteN_false,iteN_true,t40]; try rfl)),⟨a,c,eo,by rw [eO]; exact (by (simp only [s_getp,s_getp0,Nat.reduceEqDiff,decide_false,decide_true,iteN_false,iteN_true,t9]; try rfl)),nw⟩⟩⟩) may.length 0 (by omega) (M + 26) (by omega) T h1 I
    rw [rr]
    obtain ⟨il,t5,t7,t8,t39,t40,⟨a,c,eo,t9,nw⟩⟩ := J
    have ol := orB_len may k hsm may.length
    have bo : byt (orB may k may.length) = true := by
      rw [orB_hi may k hk may.length hk (Nat.le_refl _),List.take_of_length_le (Nat.le_refl _)]
      have b0 := gsB_byt may 1 hok okm
      refine byt_app ?_ ?_
      · rw [gsB_split 1 may k _ (List.getElem?_eq_getElem hk)] at b0
        exact byt_iff.2 (fun x hx => byt_iff.1 b0 x (List.mem_append_left _ hx))
      · refine gsB_byt _ _ (fun i g hg => ?_) (fun g hg => okm g (List.mem_of_mem_drop hg))
        rw [List.getElem?_drop] at hg
        have := hok _ g hg
        rw [show k + 2 + i = 1 + (k + 1 + i) by omega]; exact this
    obtain ⟨h2,ar,cr,er,r2,k2,rowR⟩ := segread_go e xs M hM (orB may k may.length) bo (by omega) 1 (by omega) a c eo (SB.of_wb nw.wb) h' nw.wb.src
    rw [or_read may (by omega) hok k hk] at r2 rowR
    simp only at r2 rowR
    have lt : (may.take k).length = k := by rw [List.length_take]; omega
    rw [lt] at r2
    have kp2 := nw.kp.trans k2
    have rowM2 := rowM.kp kp2
    obtain ⟨cs,sl⟩ := rowM2.hi k .i64 (by omega)
    have oks : ∀ g ∈ may.take k,g.length ≤ 1000000 ∧ g.length < M + 24 ∧ ∀ o ∈ g,o.ok := fun g hg => by
      have := hsm g (List.mem_of_mem_take hg)
      exact ⟨by omega,by omega,okm g (List.mem_of_mem_take hg)⟩
    have r3 := same7_go e xs (M + 24) (may.take k) (may.take k) (by omega) (by omega) (by omega) oks (fun g hg => ⟨by have := (oks g hg).1; omega,(oks g hg).2.2⟩) ar am cr cs er 1 h2 _ _ rowR.gs (rowM2.gs.take k).e1
    rw [decide_eq_true rfl,lt] at r3
    replace r3 : callX E (alR k_purserlaw17_alive) (M + 26) (.fn k_purserref17_Same) [.slice ar k cr er,.slice am k cs 1] h2 = _ := r3
    have hgk : may[k]? = some may[k] := List.getElem?_eq_getElem hk
    have gm := List.mem_of_getElem? hgk
    obtain ⟨q,off,vs,md,b,cb,eb,rfl,rfl,hq,gq,cg,rg,_⟩ := gs_at rowM2.gs k _ hgk
    have okk := okm _ gm
    have lk := (hsm _ gm).1
    generalize may[k] = g at *
    have r4 := dsame_go e.sa xs.sa (M + 25) g g (by omega) (by omega) (by omega) okk okk b b cb cb eb eb h2 rg.row rg.row
    rw [decide_eq_true rfl] at r4
    replace r4 : callX E (alR k_purserlaw17_alive) (M + 26) (.fn k_purserref16_Same) [.slice b g.length cb eb,.slice b g.length cb eb] h2 = _ := r4
    replace r2 : callX E (alR k_purserlaw17_alive) (M + 26) (.fn k_segment_Read) [.slice a (orB may k may.length).length c eo,.int .u64 1] h' = _ := r2
    have ix : idx (k : Int) may.length = some k := idxn hk
    have q1 : decide ((k : Int) = (k : Int)) = true := decide_eq_true rfl
    generalize (gsB 1 (may.take k)).length = rw_ at *
    generalize (orB may k may.length).length = OL at *
    generalize g.length = gl at *
    obtain ⟨n,en⟩ : ∃ n,may.length = n := ⟨_,rfl⟩
    rw [en] at t7 ix sl
    simp (config := {maxSteps := 2000000}) (disch := first | omega | rfl | (simp only [ofI_len,List.length_append,List.length_take,List.length_drop,List.length_cons,List.length_nil,List.length_replicate,List.length_set]; done) | (simp only [ofI_len,List.length_append,List.length_take,List.length_drop,List.length_cons,List.length_nil,List.length_replicate,List.length_set]; omega)) only [R_purserlaw17_SegmentOrder_0,t5,t7,t8,t9,r2,r3,r4,gq,cg,ix,sl,q1,↓x_slcS,x_M0,x_M1,↓s_len,x_lenS,↓b_xor32,↓b_and32,↓b_or32,↓u_not32,b_xor32,b_and32,b_or32,u_not32,w32ad,↓x_conv,x_convV,↓x_fieldAddr,x_fieldV,↓s_nilchk,x_nilchk,Nat.zero_add,Nat.add_zero,Nat.mul_one,↓s_evD,↓s_dnil,↓s_dL,↓s_dLg,↓s_dR,↓s_dRg,↓s_dRj,↓s_dRjg,↓s_dB,↓s_dBg,↓s_dAlloc,↓s_bindD,s_bindD,s_finD,s_finDx,s_addP0,s_addP1,s_addB,s_lookP,↓s_bump0,↓s_bump_get,s_bump_next,s_ok0,↓s_ok1,s_okR0,↓s_okR1,↓s_okE,s_okE,s_okE1,s_nth0,s_nthS,Nat.add_zero,Bool.and_self,Bool.and_true,Bool.true_and,↓l_loop,↓l_succ,↓l_normal,l_normal,l_exit,l_ret,l_iteN,↓h_put_get,↓h_new_get,↓h_del_get,h_next_put,h_next_new,h_next_del,Nat.add_assoc,Nat.add_eq_left,Nat.left_eq_add,Nat.add_left_cancel_iff,↓s_load,m_load,↓m_load1,m_load1,↓m_st,m_stE,m_storeI,m_storeE,w_zero,w_succ,↓s_alloc,↓x_idxA,↓x_idxS,x_idxAE,x_idxSE,x_addrE,x_idx,x_lenS,↓s_len,↓x_buildS,x_buildE,↓x_P0,↓x_P1,x_fill0,x_filli,x_fills,x_fillb,c_int,List.length_cons,List.length_nil,List.cons_append,List.drop_succ_cons,List.drop_zero,List.drop_nil,List.nil_append,Int.reduceAdd,Int.reduceToNat,Int.reduceLT,Int.reduceLE,Nat.reduceAdd,Nat.reduceMul,Nat.reduceLeDiff,Int.reduceEq,Int.reduceSub,Int.cast_ofNat_Int,s_resc,s_consR,m_load4,m_store4,s_res0,↓s_skip,↓s_ops,↓s_dops,↓s_seq,↓s_cond,↓s_block,↓s_exit,↓s_ret,↓s_scope,↓s_nil,↓s_op,↓s_opg,↓s_wanted',↓s_wantV,s_wantV,s_wantV0,beq_true,beq_false,↓s_bindS,s_bindS,↓s_bindE,s_bindE,s_bindE_ret,s_bindE_exit,s_bindE_iteN,s_norm,↓s_condV,s_condV,s_block_ret,s_block_normal,s_block_exit,s_block_iteN,↓s_getp,↓s_getp0,↓s_get,s_get0,↓s_con,↓s_fn,↓s_os0,↓s_os1,↓s_list0,↓s_list1,↓s_mov,↓s_pick,↓s_pickE,s_pickE,↓s_bin,↓s_un,↓s_minmax,↓s_call,↓s_callv,↓s_callV,↓s_ext,s_same,b_eql,b_neq,b_lss,b_leq,b_gtr,b_geq,b_add,b_sub,b_mul,b_eqlb,b_neqb,b_fnil,b_fnil',b_fnil2,b_fnil2',u_neg,u_not,m_two,s_end,s_end',s_end_iteN,s_res0,s_res1,s_tup1,s_tup2,↓iteN_true,↓iteN_false,iteN_true,iteN_false,Nat.zero_add,List.nil_append,List.append_nil,Nat.reduceEqDiff,reduceIte,decide_true,decide_false,Bool.not_true,Bool.not_false,List.getElem?_cons_zero,List.getElem?_cons_succ,Bool.false_eq_true,if_true,if_false,beq_self_eq_true]
    exact ⟨_,rfl⟩
  obtain ⟨R,eR⟩ : ∃ R,R_purserlaw17_SegmentOrder_0 = R := ⟨_,rfl⟩
  obtain ⟨Lo,eL⟩ : ∃ R,L_purserlaw17_SegmentOrder_0 = R := ⟨_,rfl⟩
  rw [eR,eL] at fin ⊢
  have fin' := fun T q5 q7 q8 q39 q40 q9 => fin T ⟨Nat.zero_le _,q5,q7,q8,q39,q40,none,some 0,0,q9,⟨Kp.refl _,.nil _,fun _ _ e => by cases e⟩⟩
  clear fin
  have l0 : (orB may k 0).length = 0 := rfl
  rw [l0] at fin'
  obtain ⟨n,en⟩ : ∃ n,may.length = n := ⟨_,rfl⟩
  rw [en] at r1 z0 rem fin'
  generalize W1.length = wl at *
  generalize gs.length = L at *
  simp (config := {maxSteps := 2000000}) (disch := first | omega | rfl | (simp only [ofI_len,List.length_append,List.length_take,List.length_drop,List.length_cons,List.length_nil,List.length_replicate,List.length_set]; done) | (simp only [ofI_len,List.length_append,List.length_take,List.length_drop,List.length_cons,List.length_nil,List.length_replicate,List.length_set]; omega)) only [al,gr,y0,r1,z0,wx,rem,↓s_len,x_lenS,↓b_xor32,↓b_and32,↓b_or32,↓u_not32,b_xor32,b_and32,b_or32,u_not32,w32ad,↓x_conv,x_convV,↓x_fieldAddr,x_fieldV,↓s_nilchk,x_nilchk,Nat.zero_add,Nat.add_zero,Nat.mul_one,↓s_evD,↓s_dnil,↓s_dL,↓s_dLg,↓s_dR,↓s_dRg,↓s_dRj,↓s_dRjg,↓s_dB,↓s_dBg,↓s_dAlloc,↓s_bindD,s_bindD,s_finD,s_finDx,s_addP0,s_addP1,s_addB,s_lookP,↓s_bump0,↓s_bump_get,s_bump_next,s_ok0,↓s_ok1,s_okR0,↓s_okR1,↓s_okE,s_okE,s_okE1,s_nth0,s_nthS,Nat.add_zero,Bool.and_self,Bool.and_true,Bool.true_and,↓l_loop,↓l_succ,↓l_normal,l_normal,l_exit,l_ret,l_iteN,↓h_put_get,↓h_new_get,↓h_del_get,h_next_put,h_next_new,h_next_del,Nat.add_assoc,Nat.add_eq_left,Nat.left_eq_add,Nat.add_left_cancel_iff,↓s_load,m_load,↓m_load1,m_load1,↓m_st,m_stE,m_storeI,m_storeE,w_zero,w_succ,↓s_alloc,↓x_idxA,↓x_idxS,x_idxAE,x_idxSE,x_addrE,x_idx,x_lenS,↓s_len,↓x_buildS,x_buildE,↓x_P0,↓x_P1,x_fill0,x_filli,x_fills,x_fillb,c_int,List.length_cons,List.length_nil,List.cons_append,List.drop_succ_cons,List.drop_zero,List.drop_nil,List.nil_append,Int.reduceAdd,Int.reduceToNat,Int.reduceLT,Int.reduceLE,Nat.reduceAdd,Nat.reduceMul,Nat.reduceLeDiff,Int.reduceEq,Int.reduceSub,Int.cast_ofNat_Int,s_resc,s_consR,m_load4,m_store4,s_res0,↓s_skip,↓s_ops,↓s_dops,↓s_seq,↓s_cond,↓s_block,↓s_exit,↓s_ret,↓s_scope,↓s_nil,↓s_op,↓s_opg,↓s_wanted',↓s_wantV,s_wantV,s_wantV0,beq_true,beq_false,↓s_bindS,s_bindS,↓s_bindE,s_bindE,s_bindE_ret,s_bindE_exit,s_bindE_iteN,s_norm,↓s_condV,s_condV,s_block_ret,s_block_normal,s_block_exit,s_block_iteN,↓s_getp,↓s_getp0,↓s_get,s_get0,↓s_con,↓s_fn,↓s_os0,↓s_os1,↓s_list0,↓s_list1,↓s_mov,↓s_pick,↓s_pickE,s_pickE,↓s_bin,↓s_un,↓s_minmax,↓s_call,↓s_callv,↓s_callV,↓s_ext,s_same,b_eql,b_neq,b_lss,b_leq,b_gtr,b_geq,b_add,b_sub,b_mul,b_eqlb,b_neqb,b_fnil,b_fnil',b_fnil2,b_fnil2',u_neg,u_not,m_two,s_end,s_end',s_end_iteN,s_res0,s_res1,s_tup1,s_tup2,↓iteN_true,↓iteN_false,iteN_true,iteN_false,Nat.zero_add,List.nil_append,List.append_nil,Nat.reduceEqDiff,reduceIte,decide_true,decide_false,Bool.not_true,Bool.not_false,List.getElem?_cons_zero,List.getElem?_cons_succ,Bool.false_eq_true,if_true,if_false,beq_self_eq_true]
  exact fin' _ (by (simp only [s_getp,s_getp0,Nat.reduceEqDiff,decide_false,decide_true,iteN_false,iteN_true,eR]; try rfl)) (by (simp only [s_getp,s_getp0,Nat.reduceEqDiff,decide_false,decide_true,iteN_false,iteN_true,eR]; try rfl)) (by (simp only [s_getp,s_getp0,Nat.reduceEqDiff,decide_false,decide_true,iteN_false,iteN_true,eR]; try rfl)) (by (simp only [s_getp,s_getp0,Nat.reduceEqDiff,decide_false,decide_true,iteN_false,iteN_true,eR]; try rfl)) (by (simp only [s_getp,s_getp0,Nat.reduceEqDiff,decide_false,decide_true,iteN_false,iteN_true,eR]; try rfl)) (by (simp only [s_getp,s_getp0,Nat.reduceEqDiff,decide_false,decide_true,iteN_false,iteN_true,eR]; try rfl))
end Go.Eng
