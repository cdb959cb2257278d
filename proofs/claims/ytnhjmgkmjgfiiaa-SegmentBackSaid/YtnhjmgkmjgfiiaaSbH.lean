/- What functions of the program come to: own work. -/
import Derived.Test.YtnhjmgkmjgfiiaaSbE
namespace Go.Eng
open Go
variable {E : Nat → Option Fn} {X : Orc}
set_option linter.unusedSimpArgs false
set_option linter.unusedVariables false
theorem gg_no {gs : List (List Rq)} (h : ggR gs = false) : gs.length ≤ 20 ∧ ∀ g ∈ gs,g.length ≤ 60 ∧ ∀ o ∈ g,¬ 500 < o.l.length := by
  unfold ggR at h
  rw [Bool.or_eq_false_iff] at h
  refine ⟨by have := of_decide_eq_false h.1; omega,fun g hg => ?_⟩
  have h2 := List.any_eq_false.1 h.2 g hg
  have h3 : grR g = false := by simpa using h2
  unfold grR at h3
  rw [Bool.or_eq_false_iff] at h3
  exact ⟨by have := of_decide_eq_false h3.1; omega,fun o ho => by have := List.any_eq_false.1 h3.2 o ho; simpa using this⟩
end Go.Eng
namespace Go.Eng
open Go
variable {E : Nat → Option Fn} {X : Orc}
set_option linter.unusedSimpArgs false
set_option linter.unusedVariables false
structure BkI (may : List (List Rq)) (f cut : Nat) (v10 v14 v15 : V) (h0 : H) (i : Nat) (T : Tr V) (h : H) : Prop where
  il : i ≤ may.length
  t7 : evO T (.t 7) = .bool true
  t8 : evO T (.t 8) = .int .u64 (f : Int)
  t10 : evO T (.t 10) = v10
  t13 : evO T (.t 13) = .int .i64 (cut : Int)
  t14 : evO T (.t 14) = v14
  t15 : evO T (.t 15) = v15
  t16 : evO T (.t 16) = .int .i64 (i : Int)
  t17 : evO T (.t 17) = .int .i64 ((gsB f (may.take i)).length : Int)
  kp : Kp h0 h
theorem gs_len (may : List (List Rq)) (f : Nat) (hs : ∀ g ∈ may,g.length ≤ 60 ∧ ∀ o ∈ g,¬ 500 < o.l.length) : ∀ i,i ≤ may.length → (gsB f (may.take i)).length ≤ 31000 * i := by
  intro i
  induction i with
  | zero => intro _; exact Nat.zero_le _
  | succ i ih =>
    intro hi
    have hg := List.getElem?_eq_getElem (show i < may.length by omega)
    have gm := List.mem_of_getElem? hg
    have := sgB_small (f + i) _ (hs _ gm).1 (hs _ gm).2
    have := ih (by omega)
    rw [Nat.mul_succ,gsB_succ f may i _ hg,List.length_append]; omega
theorem bk_round (e : EnSg E) (x : NoSg X) (M : Nat) (hM : 1000000 < M) (m : Nat) (may : List (List Rq)) (hl : may.length ≤ 20) (hs : ∀ g ∈ may,g.length ≤ 60 ∧ ∀ o ∈ g,¬ 500 < o.l.length) (ok : ∀ g ∈ may,∀ o ∈ g,o.ok) (f : Nat) (hf : f + 20 < 18446744073709551616) (hok : ∀ i g,may[i]? = some g → sgOk (f + i) g = true) (cut : Nat) (am : Option (Nat × Nat)) (cm_ : Option Nat) (em : Nat) (v14 v15 : V) (h0 : H) (K : Nat → Prop) (row : GsK K h0 may am em) (i : Nat) (T : Tr V) (h : H) (I : BkI may f cut (.slice am may.length cm_ em) v14 v15 h0 i T h) :
    (∀ g,may[i]? = some g → (gsB f (may.take (i + 1))).length ≤ cut → ∃ T' h',evC (callX E X (M + 26)) 117 m none L_purserlaw17_SegmentBack_0 ⟨T,[],h⟩ = some (.normal,⟨T',[],h'⟩) ∧ BkI may f cut (.slice am may.length cm_ em) v14 v15 h0 (i + 1) T' h') ∧
    ((∀ g,may[i]? = some g → cut < (gsB f (may.take (i + 1))).length) → ∃ T' h',evC (callX E X (M + 26)) 117 m none L_purserlaw17_SegmentBack_0 ⟨T,[],h⟩ = some (.exit 0,⟨T',[],h'⟩) ∧ BkI may f cut (.slice am may.length cm_ em) v14 v15 h0 i T' h') := by
  obtain ⟨il,t7,t8,t10,t13,t14,t15,t16,t17,kp⟩ := I
  have gl := gs_len may f hs i il
  have one : ∀ g,may[i]? = some g → ∃ q off vs md b cb eb h1 a2 c2 e2,am = some (q,off) ∧ em = 1 ∧ h.get q = some (.cells vs md) ∧ vs[off + i]? = some (V.slice b g.length cb eb) ∧ i < may.length ∧ callX E X (M + 26) (.fn k_segment_Encode) [.int .u64 ((f + i : Nat) : Int),.slice b g.length cb eb] h = some (.tup [.slice a2 (sgB (f + i) g).length c2 e2,.int .i64 0],h1) ∧ Kp h h1 ∧ (gsB f (may.take (i + 1))).length = (gsB f (may.take i)).length + (sgB (f + i) g).length ∧ (sgB (f + i) g).length ≤ 31000 := fun g hg => by
    have gm := List.mem_of_getElem? hg
    obtain ⟨hl6,hs5⟩ := hs _ gm
    have sok := hok i _ hg
    obtain ⟨q,off,vs,md,b,cb,eb,e1,e2,hq,gq0,cg,rg,_⟩ := gs_at (row.kp kp) i _ hg
    have rBs := rB_small g hs5
    have hi := (List.getElem?_eq_some_iff.1 hg).1
    obtain ⟨h1,a2,c2,e2',r1,nw1⟩ := segenc_go e x (M + 3) (by omega) (f + i) (by omega) g (by omega) (ok _ gm) (fun o ho => by have := hs5 o ho; omega) (by omega) b cb eb h rg.row
    unfold sgR at r1 nw1
    rw [if_pos sok] at r1 nw1
    exact ⟨q,off,vs,md,b,cb,eb,h1,a2,c2,e2',e1,e2,gq0,cg,hi,r1,nw1.kp,by rw [gsB_succ f may i g hg,List.length_append],sgB_small _ g hl6 hs5⟩
  generalize hR : (gsB f (may.take i)).length = r at *
  have wu : wr .u64 (i : Int) = (i : Int) := u64n _ (by omega)
  have wn : wr .u64 ((f : Int) + (i : Int)) = ((f + i : Nat) : Int) := by rw [wr_u64 (by omega)]; omega
  have z0 : decide ((0 : Int) = 0) = true := rfl
  constructor
  · intro g hg hc
    obtain ⟨q,off,vs,md,b,cb,eb,h1,a2,c2,e2,rfl,rfl,gq,cg,hi,r1,k1,e1,sm⟩ := one g hg
    rw [e1] at hc
    have c0 : decide ((i : Int) < (may.length : Int)) = true := decide_eq_true (by omega)
    have ix : idx (i : Int) may.length = some i := idxn hi
    have w2 : wr .i64 ((r : Int) + ((sgB (f + i) g).length : Int)) = ((r + (sgB (f + i) g).length : Nat) : Int) := by rw [wr_i64 (by omega)]; omega
    have w3 : wr .i64 ((i : Int) + 1) = ((i + 1 : Nat) : Int) := by rw [wr_i64 (by omega)]; omega
    have d1 : decide ((cut : Int) < ((r + (sgB (f + i) g).length : Nat) : Int)) = false := decide_eq_false (by omega)
    have i1 : i + 1 ≤ may.length := hi
    obtain ⟨n,en⟩ : ∃ n,may.length = n := ⟨_,rfl⟩
    rw [en] at t10 c0 ix
    obtain ⟨nn,enn⟩ : ∃ y,f + i = y := ⟨_,rfl⟩
    rw [enn] at wn r1 w2 d1 e1
    obtain ⟨gl_,egl⟩ : ∃ y,g.length = y := ⟨_,rfl⟩
    rw [egl] at cg r1
    obtain ⟨r2,er2⟩ : ∃ y,r + (sgB nn g).length = y := ⟨_,rfl⟩
    rw [er2] at w2 d1 e1
    obtain ⟨BL,eBL⟩ : ∃ y,(sgB nn g).length = y := ⟨_,rfl⟩
    rw [eBL] at r1 w2
    obtain ⟨T',rr,u7,u8,u10,u13,u14,u15,u16,u17⟩ : ∃ T',evC (callX E X (M + 26)) 117 m none L_purserlaw17_SegmentBack_0 ⟨T,[],h⟩ = some (.normal,⟨T',[],h1⟩) ∧ evO T' (.t 7) = .bool true ∧ evO T' (.t 8) = .int .u64 (f : Int) ∧ evO T' (.t 10) = .slice (some (q,off)) n cm_ 1 ∧ evO T' (.t 13) = .int .i64 (cut : Int) ∧ evO T' (.t 14) = v14 ∧ evO T' (.t 15) = v15 ∧ evO T' (.t 16) = .int .i64 ((i + 1 : Nat) : Int) ∧ evO T' (.t 17) = .int .i64 (r2 : Int) := by
      exact ⟨_,by
        simp (config := {maxSteps := 2000000}) (disch := first | omega | (simp only [List.length_cons,List.length_nil,List.length_append,List.length_drop]; omega)) only [L_purserlaw17_SegmentBack_0,t8,t10,t13,t16,t17,gq,cg,c0,ix,wu,wn,w2,w3,d1,r1,z0,↓s_len,x_lenS,↓b_xor32,↓b_and32,↓b_or32,↓u_not32,b_xor32,b_and32,b_or32,u_not32,w32ad,↓x_conv,x_convV,↓x_fieldAddr,x_fieldV,↓s_nilchk,x_nilchk,Nat.zero_add,Nat.add_zero,Nat.mul_one,↓l_loop,↓l_succ,↓l_normal,l_normal,l_exit,l_ret,l_iteN,↓h_put_get,↓h_new_get,↓h_del_get,h_next_put,h_next_new,h_next_del,Nat.add_assoc,Nat.add_eq_left,Nat.left_eq_add,Nat.add_left_cancel_iff,↓s_load,m_load,↓m_load1,m_load1,↓m_st,m_stE,m_storeI,m_storeE,w_zero,w_succ,↓s_alloc,↓x_idxA,↓x_idxS,x_idxAE,x_idxSE,x_addrE,x_idx,x_lenS,↓s_len,↓x_buildS,x_buildE,↓x_P0,↓x_P1,x_fill0,x_filli,x_fills,x_fillb,c_int,List.length_cons,List.length_nil,List.cons_append,List.drop_succ_cons,List.drop_zero,List.drop_nil,List.nil_append,Int.reduceAdd,Int.reduceToNat,Int.reduceLT,Int.reduceLE,Nat.reduceAdd,Nat.reduceMul,Nat.reduceLeDiff,Int.reduceEq,Int.reduceSub,Int.cast_ofNat_Int,s_resc,s_consR,m_load4,m_store4,s_res0,↓s_skip,↓s_ops,↓s_dops,↓s_seq,↓s_cond,↓s_block,↓s_exit,↓s_ret,↓s_scope,↓s_nil,↓s_op,↓s_opg,↓s_wanted',↓s_wantV,s_wantV,s_wantV0,beq_true,beq_false,↓s_bindS,s_bindS,↓s_bindE,s_bindE,s_bindE_ret,s_bindE_exit,s_bindE_iteN,s_norm,↓s_condV,s_condV,s_block_ret,s_block_normal,s_block_exit,s_block_iteN,↓s_getp,↓s_getp0,↓s_get,s_get0,↓s_con,↓s_fn,↓s_os0,↓s_os1,↓s_list0,↓s_list1,↓s_mov,↓s_pick,↓s_pickE,s_pickE,↓s_bin,↓s_un,↓s_minmax,↓s_call,↓s_callv,↓s_callV,↓s_ext,s_same,b_eql,b_neq,b_lss,b_leq,b_gtr,b_geq,b_add,b_sub,b_mul,b_eqlb,b_neqb,b_fnil,b_fnil',b_fnil2,b_fnil2',u_neg,u_not,m_two,s_end,s_end',s_end_iteN,s_res0,s_res1,s_tup1,s_tup2,↓iteN_true,↓iteN_false,iteN_true,iteN_false,Nat.zero_add,List.nil_append,List.append_nil,Nat.reduceEqDiff,reduceIte,decide_true,decide_false,Bool.not_true,Bool.not_false,List.getElem?_cons_zero,List.getElem?_cons_succ,Bool.false_eq_true,if_true,if_false,beq_self_eq_true]
        exact rfl,(by (simp only [s_getp,s_getp0,Nat.reduceEqDiff,decide_false,decide_true,iteN_false,iteN_true,t7]; try rfl)),(by (simp only [s_getp,s_getp0,Nat.reduceEqDiff,decide_false,decide_true,iteN_false,iteN_true,t8]; try rfl)),(by (simp only [s_getp,s_getp0,Nat.reduceEqDiff,decide_false,decide_true,iteN_false,iteN_true,t10]; try rfl)),(by (simp only [s_getp,s_getp0,Nat.reduceEqDiff,decide_false,decide_true,iteN_false,iteN_true,t13]; try rfl)),(by (simp only [s_getp,s_getp0,Nat.reduceEqDiff,decide_false,decide_true,iteN_false,iteN_true,t14]; try rfl)),(by (simp only [s_getp,s_getp0,Nat.reduceEqDiff,decide_false,decide_true,iteN_false,iteN_true,t15]; try rfl)),(by (simp only [s_getp,s_getp0,Nat.reduceEqDiff,decide_false,decide_true,iteN_false,iteN_true,t16]; try rfl)),(by (simp only [s_getp,s_getp0,Nat.reduceEqDiff,decide_false,decide_true,iteN_false,iteN_true,t17]; try rfl))⟩
    exact ⟨T',h1,rr,i1,u7,u8,by rw [en]; exact u10,u13,u14,u15,u16,by rw [e1]; exact u17,kp.trans k1⟩
  · intro hc
    cases hg : may[i]? with
    | none =>
      have hi : may.length ≤ i := List.getElem?_eq_none_iff.1 hg
      have c0 : decide ((i : Int) < (may.length : Int)) = false := decide_eq_false (by omega)
      obtain ⟨n,en⟩ : ∃ n,may.length = n := ⟨_,rfl⟩
      rw [en] at t10 c0
      exact ⟨_,h,by
        simp (config := {maxSteps := 2000000}) (disch := first | omega | (simp only [List.length_cons,List.length_nil,List.length_append,List.length_drop]; omega)) only [L_purserlaw17_SegmentBack_0,t8,t10,t13,t16,t17,c0,↓s_len,x_lenS,↓b_xor32,↓b_and32,↓b_or32,↓u_not32,b_xor32,b_and32,b_or32,u_not32,w32ad,↓x_conv,x_convV,↓x_fieldAddr,x_fieldV,↓s_nilchk,x_nilchk,Nat.zero_add,Nat.add_zero,Nat.mul_one,↓l_loop,↓l_succ,↓l_normal,l_normal,l_exit,l_ret,l_iteN,↓h_put_get,↓h_new_get,↓h_del_get,h_next_put,h_next_new,h_next_del,Nat.add_assoc,Nat.add_eq_left,Nat.left_eq_add,Nat.add_left_cancel_iff,↓s_load,m_load,↓m_load1,m_load1,↓m_st,m_stE,m_storeI,m_storeE,w_zero,w_succ,↓s_alloc,↓x_idxA,↓x_idxS,x_idxAE,x_idxSE,x_addrE,x_idx,x_lenS,↓s_len,↓x_buildS,x_buildE,↓x_P0,↓x_P1,x_fill0,x_filli,x_fills,x_fillb,c_int,List.length_cons,List.length_nil,List.cons_append,List.drop_succ_cons,List.drop_zero,List.drop_nil,List.nil_append,Int.reduceAdd,Int.reduceToNat,Int.reduceLT,Int.reduceLE,Nat.reduceAdd,Nat.reduceMul,Nat.reduceLeDiff,Int.reduceEq,Int.reduceSub,Int.cast_ofNat_Int,s_resc,s_consR,m_load4,m_store4,s_res0,↓s_skip,↓s_ops,↓s_dops,↓s_seq,↓s_cond,↓s_block,↓s_exit,↓s_ret,↓s_scope,↓s_nil,↓s_op,↓s_opg,↓s_wanted',↓s_wantV,s_wantV,s_wantV0,beq_true,beq_false,↓s_bindS,s_bindS,↓s_bindE,s_bindE,s_bindE_ret,s_bindE_exit,s_bindE_iteN,s_norm,↓s_condV,s_condV,s_block_ret,s_block_normal,s_block_exit,s_block_iteN,↓s_getp,↓s_getp0,↓s_get,s_get0,↓s_con,↓s_fn,↓s_os0,↓s_os1,↓s_list0,↓s_list1,↓s_mov,↓s_pick,↓s_pickE,s_pickE,↓s_bin,↓s_un,↓s_minmax,↓s_call,↓s_callv,↓s_callV,↓s_ext,s_same,b_eql,b_neq,b_lss,b_leq,b_gtr,b_geq,b_add,b_sub,b_mul,b_eqlb,b_neqb,b_fnil,b_fnil',b_fnil2,b_fnil2',u_neg,u_not,m_two,s_end,s_end',s_end_iteN,s_res0,s_res1,s_tup1,s_tup2,↓iteN_true,↓iteN_false,iteN_true,iteN_false,Nat.zero_add,List.nil_append,List.append_nil,Nat.reduceEqDiff,reduceIte,decide_true,decide_false,Bool.not_true,Bool.not_false,List.getElem?_cons_zero,List.getElem?_cons_succ,Bool.false_eq_true,if_true,if_false,beq_self_eq_true]
        exact rfl,il,(by (simp only [s_getp,s_getp0,Nat.reduceEqDiff,decide_false,decide_true,iteN_false,iteN_true,t7]; try rfl)),(by (simp only [s_getp,s_getp0,Nat.reduceEqDiff,decide_false,decide_true,iteN_false,iteN_true,t8]; try rfl)),by rw [en]; exact (by (simp only [s_getp,s_getp0,Nat.reduceEqDiff,decide_false,decide_true,iteN_false,iteN_true,t10]; try rfl)),(by (simp only [s_getp,s_getp0,Nat.reduceEqDiff,decide_false,decide_true,iteN_false,iteN_true,t13]; try rfl)),(by (simp only [s_getp,s_getp0,Nat.reduceEqDiff,decide_false,decide_true,iteN_false,iteN_true,t14]; try rfl)),(by (simp only [s_getp,s_getp0,Nat.reduceEqDiff,decide_false,decide_true,iteN_false,iteN_true,t15]; try rfl)),(by (simp only [s_getp,s_getp0,Nat.reduceEqDiff,decide_false,decide_true,iteN_false,iteN_true,t16]; try rfl)),by rw [hR]; exact (by (simp only [s_getp,s_getp0,Nat.reduceEqDiff,decide_false,decide_true,iteN_false,iteN_true,t17]; try rfl)),kp⟩
    | some g =>
      have hc := hc g hg
      obtain ⟨q,off,vs,md,b,cb,eb,h1,a2,c2,e2,rfl,rfl,gq,cg,hi,r1,k1,e1,sm⟩ := one g hg
      rw [e1] at hc
      have c0 : decide ((i : Int) < (may.length : Int)) = true := decide_eq_true (by omega)
      have ix : idx (i : Int) may.length = some i := idxn hi
      have w2 : wr .i64 ((r : Int) + ((sgB (f + i) g).length : Int)) = ((r + (sgB (f + i) g).length : Nat) : Int) := by rw [wr_i64 (by omega)]; omega
      have d1 : decide ((cut : Int) < ((r + (sgB (f + i) g).length : Nat) : Int)) = true := decide_eq_true (by omega)
      obtain ⟨n,en⟩ : ∃ n,may.length = n := ⟨_,rfl⟩
      rw [en] at t10 c0 ix
      obtain ⟨nn,enn⟩ : ∃ y,f + i = y := ⟨_,rfl⟩
      rw [enn] at wn r1 w2 d1
      obtain ⟨gl_,egl⟩ : ∃ y,g.length = y := ⟨_,rfl⟩
      rw [egl] at cg r1
      obtain ⟨r2,er2⟩ : ∃ y,r + (sgB nn g).length = y := ⟨_,rfl⟩
      rw [er2] at w2 d1
      obtain ⟨BL,eBL⟩ : ∃ y,(sgB nn g).length = y := ⟨_,rfl⟩
      rw [eBL] at r1 w2
      exact ⟨_,h1,by
        simp (config := {maxSteps := 2000000}) (disch := first | omega | (simp only [List.length_cons,List.length_nil,List.length_append,List.length_drop]; omega)) only [L_purserlaw17_SegmentBack_0,t8,t10,t13,t16,t17,gq,cg,c0,ix,wu,wn,w2,d1,r1,z0,↓s_len,x_lenS,↓b_xor32,↓b_and32,↓b_or32,↓u_not32,b_xor32,b_and32,b_or32,u_not32,w32ad,↓x_conv,x_convV,↓x_fieldAddr,x_fieldV,↓s_nilchk,x_nilchk,Nat.zero_add,Nat.add_zero,Nat.mul_one,↓l_loop,↓l_succ,↓l_normal,l_normal,l_exit,l_ret,l_iteN,↓h_put_get,↓h_new_get,↓h_del_get,h_next_put,h_next_new,h_next_del,Nat.add_assoc,Nat.add_eq_left,Nat.left_eq_add,Nat.add_left_cancel_iff,↓s_load,m_load,↓m_load1,m_load1,↓m_st,m_stE,m_storeI,m_storeE,w_zero,w_succ,↓s_alloc,↓x_idxA,↓x_idxS,x_idxAE,x_idxSE,x_addrE,x_idx,x_lenS,↓s_len,↓x_buildS,x_buildE,↓x_P0,↓x_P1,x_fill0,x_filli,x_fills,x_fillb,c_int,List.length_cons,List.length_nil,List.cons_append,List.drop_succ_cons,List.drop_zero,List.drop_nil,List.nil_append,Int.reduceAdd,Int.reduceToNat,Int.reduceLT,Int.reduceLE,Nat.reduceAdd,Nat.reduceMul,Nat.reduceLeDiff,Int.reduceEq,Int.reduceSub,Int.cast_ofNat_Int,s_resc,s_consR,m_load4,m_store4,s_res0,↓s_skip,↓s_ops,↓s_dops,↓s_seq,↓s_cond,↓s_block,↓s_exit,↓s_ret,↓s_scope,↓s_nil,↓s_op,↓s_opg,↓s_wanted',↓s_wantV,s_wantV,s_wantV0,beq_true,beq_false,↓s_bindS,s_bindS,↓s_bindE,s_bindE,s_bindE_ret,s_bindE_exit,s_bindE_iteN,s_norm,↓s_condV,s_condV,s_block_ret,s_block_normal,s_block_exit,s_block_iteN,↓s_getp,↓s_getp0,↓s_get,s_get0,↓s_con,↓s_fn,↓s_os0,↓s_os1,↓s_list0,↓s_list1,↓s_mov,↓s_pick,↓s_pickE,s_pickE,↓s_bin,↓s_un,↓s_minmax,↓s_call,↓s_callv,↓s_callV,↓s_ext,s_same,b_eql,b_neq,b_lss,b_leq,b_gtr,b_geq,b_add,b_sub,b_mul,b_eqlb,b_neqb,b_fnil,b_fnil',b_fnil2,b_fnil2',u_neg,u_not,m_two,s_end,s_end',s_end_iteN,s_res0,s_res1,s_tup1,s_tup2,↓iteN_true,↓iteN_false,iteN_true,iteN_false,Nat.zero_add,List.nil_append,List.append_nil,Nat.reduceEqDiff,reduceIte,decide_true,decide_false,Bool.not_true,Bool.not_false,List.getElem?_cons_zero,List.getElem?_cons_succ,Bool.false_eq_true,if_true,if_false,beq_self_eq_true]
        exact rfl,il,(by (simp only [s_getp,s_getp0,Nat.reduceEqDiff,decide_false,decide_true,iteN_false,iteN_true,t7]; try rfl)),(by (simp only [s_getp,s_getp0,Nat.reduceEqDiff,decide_false,decide_true,iteN_false,iteN_true,t8]; try rfl)),by rw [en]; exact (by (simp only [s_getp,s_getp0,Nat.reduceEqDiff,decide_false,decide_true,iteN_false,iteN_true,t10]; try rfl)),(by (simp only [s_getp,s_getp0,Nat.reduceEqDiff,decide_false,decide_true,iteN_false,iteN_true,t13]; try rfl)),(by (simp only [s_getp,s_getp0,Nat.reduceEqDiff,decide_false,decide_true,iteN_false,iteN_true,t14]; try rfl)),(by (simp only [s_getp,s_getp0,Nat.reduceEqDiff,decide_false,decide_true,iteN_false,iteN_true,t15]; try rfl)),(by (simp only [s_getp,s_getp0,Nat.reduceEqDiff,decide_false,decide_true,iteN_false,iteN_true,t16]; try rfl)),by rw [hR]; exact (by (simp only [s_getp,s_getp0,Nat.reduceEqDiff,decide_false,decide_true,iteN_false,iteN_true,t17]; try rfl)),kp.trans k1⟩
set_option maxRecDepth 100000 in
set_option maxHeartbeats 4000000 in
theorem law_SegmentBack (e : EnSg E) (el : E k_purserlaw17_SegmentBack = some f_purserlaw17_SegmentBack) (M : Nat) (hM : 1000000 < M) (gs : List (List Rq)) (ok : ∀ g ∈ gs,∀ o ∈ g,o.ok) (hb : gs.length < 9223372036854775807) (hbg : ∀ g ∈ gs,g.length < 9223372036854775807) (num : Nat) (hnum : num < 4294967296) (x : Nat) (x1 : x < 65536) (a0 : Option (Nat × Nat)) (h : H) (oh : GgsH h a0 gs) :
    ∃ h2,callX E (alR k_purserlaw17_alive) (M + 27) (.fn k_purserlaw17_SegmentBack) [.slice a0 gs.length none 1,.int .u32 (num : Int),.int .u16 (x : Int)] h = some (.bool true,h2) := by
  rw [x_cfn el _ _ (Nat.le_of_ble_eq_true rfl) rfl]
  have xs : NoSg (alR k_purserlaw17_alive) := al_sg
  have al : ∀ h,callX E (alR k_purserlaw17_alive) (M + 26) (.fn k_purserlaw17_alive) [] h = some (.bool true,h) := fun h => x_known rfl
  have row := oh.row
  have gr := great7_go e xs (M + 24) (by omega) gs hb hbg a0 none 1 h _ row
  replace gr : callX E (alR k_purserlaw17_alive) (M + 26) (.fn k_purserref17_Great) [.slice a0 gs.length none 1] h = _ := gr
  have y1 : decide ((0 : Int) < 1) = true := rfl
  have y0 : decide ((0 : Int) < 0) = false := rfl
  have wf1 : wr .u64 (num : Int) = (num : Int) := u64n _ (by omega)
  obtain ⟨f,ef⟩ : ∃ f,num + 1 = f := ⟨_,rfl⟩
  have wf2 : wr .u64 ((num : Int) + 1) = (f : Int) := by rw [wr_u64 (by omega)]; omega
  cases hgr : ggR gs with
  | true =>
    rw [hgr,if_pos rfl] at gr
    generalize gs.length = L at *
    simp (config := {maxSteps := 2000000}) (disch := first | omega | rfl | (simp only [ofI_len,List.length_append,List.length_take,List.length_drop,List.length_cons,List.length_nil,List.length_replicate,List.length_set]; done) | (simp only [ofI_len,List.length_append,List.length_take,List.length_drop,List.length_cons,List.length_nil,List.length_replicate,List.length_set]; omega)) only [al,gr,y1,wf1,wf2,↓s_len,x_lenS,↓b_xor32,↓b_and32,↓b_or32,↓u_not32,b_xor32,b_and32,b_or32,u_not32,w32ad,↓x_conv,x_convV,↓x_fieldAddr,x_fieldV,↓s_nilchk,x_nilchk,Nat.zero_add,Nat.add_zero,Nat.mul_one,↓s_evD,↓s_dnil,↓s_dL,↓s_dLg,↓s_dR,↓s_dRg,↓s_dRj,↓s_dRjg,↓s_dB,↓s_dBg,↓s_dAlloc,↓s_bindD,s_bindD,s_finD,s_finDx,s_addP0,s_addP1,s_addB,s_lookP,↓s_bump0,↓s_bump_get,s_bump_next,s_ok0,↓s_ok1,s_okR0,↓s_okR1,↓s_okE,s_okE,s_okE1,s_nth0,s_nthS,Nat.add_zero,Bool.and_self,Bool.and_true,Bool.true_and,↓l_loop,↓l_succ,↓l_normal,l_normal,l_exit,l_ret,l_iteN,↓h_put_get,↓h_new_get,↓h_del_get,h_next_put,h_next_new,h_next_del,Nat.add_assoc,Nat.add_eq_left,Nat.left_eq_add,Nat.add_left_cancel_iff,↓s_load,m_load,↓m_load1,m_load1,↓m_st,m_stE,m_storeI,m_storeE,w_zero,w_succ,↓s_alloc,↓x_idxA,↓x_idxS,x_idxAE,x_idxSE,x_addrE,x_idx,x_lenS,↓s_len,↓x_buildS,x_buildE,↓x_P0,↓x_P1,x_fill0,x_filli,x_fills,x_fillb,c_int,List.length_cons,List.length_nil,List.cons_append,List.drop_succ_cons,List.drop_zero,List.drop_nil,List.nil_append,Int.reduceAdd,Int.reduceToNat,Int.reduceLT,Int.reduceLE,Nat.reduceAdd,Nat.reduceMul,Nat.reduceLeDiff,Int.reduceEq,Int.reduceSub,Int.cast_ofNat_Int,s_resc,s_consR,m_load4,m_store4,s_res0,↓s_skip,↓s_ops,↓s_dops,↓s_seq,↓s_cond,↓s_block,↓s_exit,↓s_ret,↓s_scope,↓s_nil,↓s_op,↓s_opg,↓s_wanted',↓s_wantV,s_wantV,s_wantV0,beq_true,beq_false,↓s_bindS,s_bindS,↓s_bindE,s_bindE,s_bindE_ret,s_bindE_exit,s_bindE_iteN,s_norm,↓s_condV,s_condV,s_block_ret,s_block_normal,s_block_exit,s_block_iteN,↓s_getp,↓s_getp0,↓s_get,s_get0,↓s_con,↓s_fn,↓s_os0,↓s_os1,↓s_list0,↓s_list1,↓s_mov,↓s_pick,↓s_pickE,s_pickE,↓s_bin,↓s_un,↓s_minmax,↓s_call,↓s_callv,↓s_callV,↓s_ext,s_same,b_eql,b_neq,b_lss,b_leq,b_gtr,b_geq,b_add,b_sub,b_mul,b_eqlb,b_neqb,b_fnil,b_fnil',b_fnil2,b_fnil2',u_neg,u_not,m_two,s_end,s_end',s_end_iteN,s_res0,s_res1,s_tup1,s_tup2,↓iteN_true,↓iteN_false,iteN_true,iteN_false,Nat.zero_add,List.nil_append,List.append_nil,Nat.reduceEqDiff,reduceIte,decide_true,decide_false,Bool.not_true,Bool.not_false,List.getElem?_cons_zero,List.getElem?_cons_succ,Bool.false_eq_true,if_true,if_false,beq_self_eq_true]
    exact ⟨_,rfl⟩
  | false =>
  rw [hgr,if_neg (by simp)] at gr
  obtain ⟨hl,hs⟩ := gg_no hgr
  clear hgr
  obtain ⟨h1,a1,c1,e1,am,cm_,em,r1,nw1,rowM⟩ := written_go e xs (M + 2) (by omega) f gs hl hs ok (by omega) a0 none 1 h row
  have wok := wrV_ok f gs hs
  generalize wrV f gs = W at *
  obtain ⟨W1,may⟩ := W
  simp only at r1 nw1 rowM
  replace r1 : callX E (alR k_purserlaw17_alive) (M + 26) (.fn k_purserlaw17_written) [.int .u64 (f : Int),.slice a0 gs.length none 1] h = some (.tup [.slice a1 W1.length c1 e1,.slice am may.length cm_ em],h1) := r1
  have cnt : may.length ≤ gs.length := wok.cnt
  have hok : ∀ i g,may[i]? = some g → sgOk (f + i) g = true := wok.ok
  have hsm : ∀ g ∈ may,g.length ≤ 60 ∧ ∀ o ∈ g,¬ 500 < o.l.length := fun g hg => hs g (wok.mem g hg)
  have okm : ∀ g ∈ may,∀ o ∈ g,o.ok := fun g hg => ok g (wok.mem g hg)
  have eW : W1 = gsB f may := wok.b
  subst eW
  clear wok
  have hml : may.length ≤ 20 := by omega
  have bw := gsB_byt may f hok okm
  have gl := gs_len may f hsm may.length (Nat.le_refl _)
  rw [List.take_length] at gl
  have gge := gsB_ge may f
  -- all of them
  obtain ⟨h2,ar,cr,er,r2,k2,rowR⟩ := segread_go e xs M hM (gsB f may) bw (by omega) f (by omega) a1 c1 e1 (SB.of_wb nw1.wb) h1 nw1.wb.src
  have jo : srR (gsB f may) f = (may,(gsB f may).length) := by
    unfold srR
    have := gr_join (gsB f may) may f 0 [] ((gsB f may).length + 1) (Nat.zero_le _) (by rw [List.drop_zero,List.append_nil]) hok (by omega) (by omega) (ga_nil _ _) (by omega)
    rw [this,Nat.zero_add]
  rw [jo] at r2 rowR
  simp only at r2 rowR
  replace r2 : callX E (alR k_purserlaw17_alive) (M + 26) (.fn k_segment_Read) [.slice a1 (gsB f may).length c1 e1,.int .u64 (f : Int)] h1 = _ := r2
  have oks : ∀ g ∈ may,g.length ≤ 1000000 ∧ g.length < M + 24 ∧ ∀ o ∈ g,o.ok := fun g hg => by
    have := hsm g hg
    exact ⟨by omega,by omega,okm g hg⟩
  have rowM2 := rowM.kp k2
  have r3 := same7_go e xs (M + 24) may may (by omega) (by omega) (by omega) oks (fun g hg => ⟨by have := (oks g hg).1; omega,(oks g hg).2.2⟩) ar am cr cm_ er em h2 _ _ rowR.gs rowM2.gs
  rw [decide_eq_true rfl] at r3
  replace r3 : callX E (alR k_purserlaw17_alive) (M + 26) (.fn k_purserref17_Same) [.slice ar may.length cr er,.slice am may.length cm_ em] h2 = _ := r3
  obtain ⟨B,eB⟩ : ∃ B,(gsB f may).length = B := ⟨_,rfl⟩
  have q0 : decide ((B : Int) = (B : Int)) = true := decide_eq_true rfl
  obtain ⟨cut,ecut⟩ : ∃ c,x % (B + 1) = c := ⟨_,rfl⟩
  have hcut : cut ≤ B := by have := Nat.mod_lt x (show 0 < B + 1 by omega); omega
  have wx : wr .i64 (x : Int) = (x : Int) := wr_i64 (by omega)
  have wB : wr .i64 ((B : Int) + 1) = ((B + 1 : Nat) : Int) := by rw [wr_i64 (by omega)]; omega
  have rem : ∀ (e : EqK) (h : H),binV .rem e h (.int .i64 (x : Int)) (.int .i64 ((B + 1 : Nat) : Int)) = some (.int .i64 (cut : Int)) := fun e h => by
    rw [b_rem _ _ _ _ _ (by omega),← ecut]; rfl
  -- the first of them
  have wb2 := nw1.wb.kp k2
  obtain ⟨c8,sl8⟩ := wb2.hiR cut .i64 (by omega)
  have sb8 : SB ((gsB f may).take cut) a1 c8 1 := ⟨fun hne => by
    rcases wb2 with ⟨q1,_⟩ | ⟨_,q,md,q2,q3,q4,_⟩
    · rw [q1] at hne; simp at hne
    · rw [q2,q3,q4,slcV_hiA _ _ _ _ (by omega)] at sl8; cases sl8; rfl,fun _ => .inl rfl⟩
  have lt8 : ((gsB f may).take cut).length = cut := by rw [List.length_take]; omega
  obtain ⟨w,hw,nw,bw'⟩ := first_not (fun i => i < may.length ∧ (gsB f (may.take (i + 1))).length ≤ cut) may.length (by omega)
  have hw1 : (gsB f (may.take w)).length ≤ cut := by
    cases w with
    | zero => simp [gsB]
    | succ w => exact (bw' w (by omega)).2
  have hw2 : ∀ g,may[w]? = some g → cut < (gsB f (may.take (w + 1))).length := fun o ho => by
    have := (List.getElem?_eq_some_iff.1 ho).1
    exact Nat.lt_of_not_le (fun hc => nw ⟨this,hc⟩)
  have lw : (may.take w).length = w := by rw [List.length_take]; omega
  have gew := gsB_ge (may.take w) f
  rw [lw] at gew
  obtain ⟨h3,a4,c4,e4,r4,k4,row4⟩ := segread_go e xs M hM ((gsB f may).take cut) (byt_take bw _) (by omega) f (by omega) a1 c8 1 sb8 h2 ((wb2.src.take cut).e1)
  have jc : srR ((gsB f may).take cut) f = (may.take w,(gsB f (may.take w)).length) := by
    unfold srR
    exact gs_cut f may hok okm (by omega) (by omega) w cut hw (by omega) hw1 hw2 _ (by omega)
  rw [jc,lt8] at r4
  rw [jc] at row4
  simp only at r4 row4
  rw [lw] at r4
  replace r4 : callX E (alR k_purserlaw17_alive) (M + 26) (.fn k_segment_Read) [.slice a1 cut c8 1,.int .u64 (f : Int)] h2 = _ := r4
  have rowM4 := rowM2.kp k4
  have fin : ∀ T,BkI may f cut (.slice am may.length cm_ em) (.slice a4 w c4 e4) (.int .i64 ((gsB f (may.take w)).length : Int)) h3 0 T h3 → ∃ h2,fnEnd [.tmp 6] (bindE (blockE 0 (loopN (evC (callX E (alR k_purserlaw17_alive) (M + 26)) 117 (M + 26) none L_purserlaw17_SegmentBack_0) (M + 26) ⟨T,[],h3⟩)) (evC (callX E (alR k_purserlaw17_alive) (M + 26)) 117 (M + 26) none R_purserlaw17_SegmentBack_0)) = some (.bool true,h2) := by
    intro T I
    have round := fun i T h' I => bk_round e xs M hM (M + 26) may hml hsm okm f (by omega) hok cut am cm_ em (.slice a4 w c4 e4) (.int .i64 ((gsB f (may.take w)).length : Int)) h3 _ rowM4.gs i T h' I
    obtain ⟨T',h',rr,J⟩ := loop_go (f := evC (callX E (alR k_purserlaw17_alive) (M + 26)) 117 (M + 26) none L_purserlaw17_SegmentBack_0) (BkI may f cut (.slice am may.length cm_ em) (.slice a4 w c4 e4) (.int .i64 ((gsB f (may.take w)).length : Int)) h3) w (.exit 0) (by intro h; cases h) (BkI may f cut (.slice am may.length cm_ em) (.slice a4 w c4 e4) (.int .i64 ((gsB f (may.take w)).length : Int)) h3 w) (fun i T h' hi I => (round i T h' I).1 _ (List.getElem?_eq_getElem (by omega)) (bw' i hi).2) (fun T h' I => (round w T h' I).2 hw2) w 0 (by omega) (M + 26) (by omega) T h3 I
    rw [rr]
    obtain ⟨il,t7,t8,t10,t13,t14,t15,t16,t17,kp⟩ := J
    have rowM5 := rowM4.kp kp
    obtain ⟨cs,sl⟩ := rowM5.hi w .i64 hw
    have oks2 : ∀ g ∈ may.take w,g.length ≤ 1000000 ∧ g.length < M + 24 ∧ ∀ o ∈ g,o.ok := fun g hg => oks g (List.mem_of_mem_take hg)
    have r5 := same7_go e xs (M + 24) (may.take w) (may.take w) (by omega) (by omega) (by omega) oks2 (fun g hg => ⟨by have := (oks2 g hg).1; omega,(oks2 g hg).2.2⟩) a4 am c4 cs e4 1 h' _ _ (row4.kp kp).gs (rowM5.gs.take w).e1
    rw [decide_eq_true rfl,lw] at r5
    replace r5 : callX E (alR k_purserlaw17_alive) (M + 26) (.fn k_purserref17_Same) [.slice a4 w c4 e4,.slice am w cs 1] h' = _ := r5
    have q2 : decide ((w : Int) = (w : Int)) = true := decide_eq_true rfl
    have q3 : decide (((gsB f (may.take w)).length : Int) = ((gsB f (may.take w)).length : Int)) = true := decide_eq_true rfl
    generalize (gsB f (may.take w)).length = rw_ at *
    generalize may.length = L at *
    simp (config := {maxSteps := 2000000}) (disch := first | omega | rfl | (simp only [ofI_len,List.length_append,List.length_take,List.length_drop,List.length_cons,List.length_nil,List.length_replicate,List.length_set]; done) | (simp only [ofI_len,List.length_append,List.length_take,List.length_drop,List.length_cons,List.length_nil,List.length_replicate,List.length_set]; omega)) only [R_purserlaw17_SegmentBack_0,t7,t8,t10,t13,t14,t15,t16,t17,r5,sl,q2,q3,↓x_slcS,x_M0,x_M1,↓s_len,x_lenS,↓b_xor32,↓b_and32,↓b_or32,↓u_not32,b_xor32,b_and32,b_or32,u_not32,w32ad,↓x_conv,x_convV,↓x_fieldAddr,x_fieldV,↓s_nilchk,x_nilchk,Nat.zero_add,Nat.add_zero,Nat.mul_one,↓s_evD,↓s_dnil,↓s_dL,↓s_dLg,↓s_dR,↓s_dRg,↓s_dRj,↓s_dRjg,↓s_dB,↓s_dBg,↓s_dAlloc,↓s_bindD,s_bindD,s_finD,s_finDx,s_addP0,s_addP1,s_addB,s_lookP,↓s_bump0,↓s_bump_get,s_bump_next,s_ok0,↓s_ok1,s_okR0,↓s_okR1,↓s_okE,s_okE,s_okE1,s_nth0,s_nthS,Nat.add_zero,Bool.and_self,Bool.and_true,Bool.true_and,↓l_loop,↓l_succ,↓l_normal,l_normal,l_exit,l_ret,l_iteN,↓h_put_get,↓h_new_get,↓h_del_get,h_next_put,h_next_new,h_next_del,Nat.add_assoc,Nat.add_eq_left,Nat.left_eq_add,Nat.add_left_cancel_iff,↓s_load,m_load,↓m_load1,m_load1,↓m_st,m_stE,m_storeI,m_storeE,w_zero,w_succ,↓s_alloc,↓x_idxA,↓x_idxS,x_idxAE,x_idxSE,x_addrE,x_idx,x_lenS,↓s_len,↓x_buildS,x_buildE,↓x_P0,↓x_P1,x_fill0,x_filli,x_fills,x_fillb,c_int,List.length_cons,List.length_nil,List.cons_append,List.drop_succ_cons,List.drop_zero,List.drop_nil,List.nil_append,Int.reduceAdd,Int.reduceToNat,Int.reduceLT,Int.reduceLE,Nat.reduceAdd,Nat.reduceMul,Nat.reduceLeDiff,Int.reduceEq,Int.reduceSub,Int.cast_ofNat_Int,s_resc,s_consR,m_load4,m_store4,s_res0,↓s_skip,↓s_ops,↓s_dops,↓s_seq,↓s_cond,↓s_block,↓s_exit,↓s_ret,↓s_scope,↓s_nil,↓s_op,↓s_opg,↓s_wanted',↓s_wantV,s_wantV,s_wantV0,beq_true,beq_false,↓s_bindS,s_bindS,↓s_bindE,s_bindE,s_bindE_ret,s_bindE_exit,s_bindE_iteN,s_norm,↓s_condV,s_condV,s_block_ret,s_block_normal,s_block_exit,s_block_iteN,↓s_getp,↓s_getp0,↓s_get,s_get0,↓s_con,↓s_fn,↓s_os0,↓s_os1,↓s_list0,↓s_list1,↓s_mov,↓s_pick,↓s_pickE,s_pickE,↓s_bin,↓s_un,↓s_minmax,↓s_call,↓s_callv,↓s_callV,↓s_ext,s_same,b_eql,b_neq,b_lss,b_leq,b_gtr,b_geq,b_add,b_sub,b_mul,b_eqlb,b_neqb,b_fnil,b_fnil',b_fnil2,b_fnil2',u_neg,u_not,m_two,s_end,s_end',s_end_iteN,s_res0,s_res1,s_tup1,s_tup2,↓iteN_true,↓iteN_false,iteN_true,iteN_false,Nat.zero_add,List.nil_append,List.append_nil,Nat.reduceEqDiff,reduceIte,decide_true,decide_false,Bool.not_true,Bool.not_false,List.getElem?_cons_zero,List.getElem?_cons_succ,Bool.false_eq_true,if_true,if_false,beq_self_eq_true]
    exact ⟨_,rfl⟩
  obtain ⟨R,eR⟩ : ∃ R,R_purserlaw17_SegmentBack_0 = R := ⟨_,rfl⟩
  obtain ⟨Lo,eL⟩ : ∃ R,L_purserlaw17_SegmentBack_0 = R := ⟨_,rfl⟩
  rw [eR,eL] at fin ⊢
  have fin' := fun T q7 q8 q10 q13 q14 q15 q16 q17 => fin T ⟨Nat.zero_le _,q7,q8,q10,q13,q14,q15,q16,q17,Kp.refl _⟩
  clear fin
  have l0 : (gsB f (may.take 0)).length = 0 := rfl
  rw [l0] at fin'
  rw [eB] at r1 r2 sl8
  obtain ⟨B1,eB1⟩ : ∃ b,B + 1 = b := ⟨_,rfl⟩
  rw [eB1] at wB rem
  generalize (gsB f (may.take w)).length = rw_ at *
  obtain ⟨n,en⟩ : ∃ n,may.length = n := ⟨_,rfl⟩
  rw [en] at r1 r2 r3 fin'
  generalize gs.length = L at *
  simp (config := {maxSteps := 2000000}) (disch := first | omega | rfl | (simp only [ofI_len,List.length_append,List.length_take,List.length_drop,List.length_cons,List.length_nil,List.length_replicate,List.length_set]; done) | (simp only [ofI_len,List.length_append,List.length_take,List.length_drop,List.length_cons,List.length_nil,List.length_replicate,List.length_set]; omega)) only [al,gr,y0,wf1,wf2,r1,r2,r3,q0,wx,wB,rem,sl8,r4,↓x_slcS,x_M0,x_M1,↓s_len,x_lenS,↓b_xor32,↓b_and32,↓b_or32,↓u_not32,b_xor32,b_and32,b_or32,u_not32,w32ad,↓x_conv,x_convV,↓x_fieldAddr,x_fieldV,↓s_nilchk,x_nilchk,Nat.zero_add,Nat.add_zero,Nat.mul_one,↓s_evD,↓s_dnil,↓s_dL,↓s_dLg,↓s_dR,↓s_dRg,↓s_dRj,↓s_dRjg,↓s_dB,↓s_dBg,↓s_dAlloc,↓s_bindD,s_bindD,s_finD,s_finDx,s_addP0,s_addP1,s_addB,s_lookP,↓s_bump0,↓s_bump_get,s_bump_next,s_ok0,↓s_ok1,s_okR0,↓s_okR1,↓s_okE,s_okE,s_okE1,s_nth0,s_nthS,Nat.add_zero,Bool.and_self,Bool.and_true,Bool.true_and,↓l_loop,↓l_succ,↓l_normal,l_normal,l_exit,l_ret,l_iteN,↓h_put_get,↓h_new_get,↓h_del_get,h_next_put,h_next_new,h_next_del,Nat.add_assoc,Nat.add_eq_left,Nat.left_eq_add,Nat.add_left_cancel_iff,↓s_load,m_load,↓m_load1,m_load1,↓m_st,m_stE,m_storeI,m_storeE,w_zero,w_succ,↓s_alloc,↓x_idxA,↓x_idxS,x_idxAE,x_idxSE,x_addrE,x_idx,x_lenS,↓s_len,↓x_buildS,x_buildE,↓x_P0,↓x_P1,x_fill0,x_filli,x_fills,x_fillb,c_int,List.length_cons,List.length_nil,List.cons_append,List.drop_succ_cons,List.drop_zero,List.drop_nil,List.nil_append,Int.reduceAdd,Int.reduceToNat,Int.reduceLT,Int.reduceLE,Nat.reduceAdd,Nat.reduceMul,Nat.reduceLeDiff,Int.reduceEq,Int.reduceSub,Int.cast_ofNat_Int,s_resc,s_consR,m_load4,m_store4,s_res0,↓s_skip,↓s_ops,↓s_dops,↓s_seq,↓s_cond,↓s_block,↓s_exit,↓s_ret,↓s_scope,↓s_nil,↓s_op,↓s_opg,↓s_wanted',↓s_wantV,s_wantV,s_wantV0,beq_true,beq_false,↓s_bindS,s_bindS,↓s_bindE,s_bindE,s_bindE_ret,s_bindE_exit,s_bindE_iteN,s_norm,↓s_condV,s_condV,s_block_ret,s_block_normal,s_block_exit,s_block_iteN,↓s_getp,↓s_getp0,↓s_get,s_get0,↓s_con,↓s_fn,↓s_os0,↓s_os1,↓s_list0,↓s_list1,↓s_mov,↓s_pick,↓s_pickE,s_pickE,↓s_bin,↓s_un,↓s_minmax,↓s_call,↓s_callv,↓s_callV,↓s_ext,s_same,b_eql,b_neq,b_lss,b_leq,b_gtr,b_geq,b_add,b_sub,b_mul,b_eqlb,b_neqb,b_fnil,b_fnil',b_fnil2,b_fnil2',u_neg,u_not,m_two,s_end,s_end',s_end_iteN,s_res0,s_res1,s_tup1,s_tup2,↓iteN_true,↓iteN_false,iteN_true,iteN_false,Nat.zero_add,List.nil_append,List.append_nil,Nat.reduceEqDiff,reduceIte,decide_true,decide_false,Bool.not_true,Bool.not_false,List.getElem?_cons_zero,List.getElem?_cons_succ,Bool.false_eq_true,if_true,if_false,beq_self_eq_true]
  exact fin' _ (by (simp only [s_getp,s_getp0,Nat.reduceEqDiff,decide_false,decide_true,iteN_false,iteN_true,eR]; try rfl)) (by (simp only [s_getp,s_getp0,Nat.reduceEqDiff,decide_false,decide_true,iteN_false,iteN_true,eR]; try rfl)) (by (simp only [s_getp,s_getp0,Nat.reduceEqDiff,decide_false,decide_true,iteN_false,iteN_true,eR]; try rfl)) (by (simp only [s_getp,s_getp0,Nat.reduceEqDiff,decide_false,decide_true,iteN_false,iteN_true,eR]; try rfl)) (by (simp only [s_getp,s_getp0,Nat.reduceEqDiff,decide_false,decide_true,iteN_false,iteN_true,eR]; try rfl)) (by (simp only [s_getp,s_getp0,Nat.reduceEqDiff,decide_false,decide_true,iteN_false,iteN_true,eR]; try rfl)) (by (simp only [s_getp,s_getp0,Nat.reduceEqDiff,decide_false,decide_true,iteN_false,iteN_true,eR]; try rfl)) (by (simp only [s_getp,s_getp0,Nat.reduceEqDiff,decide_false,decide_true,iteN_false,iteN_true,eR]; try rfl))
end Go.Eng
