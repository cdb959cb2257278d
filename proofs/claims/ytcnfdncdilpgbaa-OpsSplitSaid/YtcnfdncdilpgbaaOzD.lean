/- What functions of the program come to: own work. -/
import Derived.Test.YtcnfdncdilpgbaaOzC
namespace Go.Eng
open Go
variable {E : Nat → Option Fn} {X : Orc}
set_option linter.unusedSimpArgs false
set_option linter.unusedVariables false
theorem rp_loop (e : EnRo E) (x : NoRo X) (M m : Nat) (s : List Nat) (bs : byt s = true) (hs : s.length ≤ 1000000) (a : Option (Nat × Nat)) (h0 : H) (src : SrcH h0 a 1 s) :
    ∀ (n g : Nat) (dn : List Oq) (at_ : Nat) (T : Tr V) (h : H), s.length - at_ ≤ n → n < g → at_ ≤ s.length → dn.length ≤ at_ → RpI (.slice a s.length none 1) dn at_ h0 T h →
    ∃ ex T' h', loopN (evC (callX E X (M + 1)) 97 m none L_purserref10_Split_0) g ⟨T, [], h⟩ = some (ex, ⟨T', [], h'⟩) ∧ ((at_ + (spV n (s.drop at_)).2 = s.length ∧ ex = .exit 0 ∧ RpI (.slice a s.length none 1) (dn ++ (spV n (s.drop at_)).1) s.length h0 T' h') ∨ (at_ + (spV n (s.drop at_)).2 < s.length ∧ ex = .ret ∧ RpE T' ∧ Kp h0 h')) := by
  have stop : ∀ (n : Nat) (dn : List Oq) (T : Tr V) (h : H), RpI (.slice a s.length none 1) dn s.length h0 T h → ∃ T' h', evC (callX E X (M + 1)) 97 m none L_purserref10_Split_0 ⟨T, [], h⟩ = some (.exit 0, ⟨T', [], h'⟩) ∧ RpI (.slice a s.length none 1) dn s.length h0 T' h' := by
    intro n dn T h ⟨t0, ⟨ar, cr, er, t4, row⟩, t5, kp⟩
    have c0 : decide ((s.length : Int) < (s.length : Int)) = false := decide_eq_false (by omega)
    obtain ⟨sl, esl⟩ : ∃ n, s.length = n := ⟨_, rfl⟩
    obtain ⟨dl, edl⟩ : ∃ n, dn.length = n := ⟨_, rfl⟩
    rw [esl] at t0 t5 c0
    rw [edl] at t4
    exact ⟨_, h, by
      simp (config := {maxSteps := 2000000}) (disch := first | omega | (simp only [List.length_cons, List.length_nil, List.length_append, List.length_drop]; omega)) only [L_purserref10_Split_0, t0, t5, c0, ↓s_len, x_lenS, ↓b_xor32, ↓b_and32, ↓b_or32, ↓u_not32, b_xor32, b_and32, b_or32, u_not32, w32ad, ↓x_conv, x_convV, ↓x_fieldAddr, x_fieldV, ↓s_nilchk, x_nilchk, Nat.zero_add, Nat.add_zero, Nat.mul_one, ↓l_loop, ↓l_succ, ↓l_normal, l_normal, l_exit, l_ret, l_iteN, ↓h_put_get, ↓h_new_get, ↓h_del_get, h_next_put, h_next_new, h_next_del, Nat.add_assoc, Nat.add_eq_left, Nat.left_eq_add, Nat.add_left_cancel_iff, ↓s_load, m_load, ↓m_load1, m_load1, ↓m_st, m_stE, m_storeI, m_storeE, w_zero, w_succ, ↓s_alloc, ↓x_idxA, ↓x_idxS, x_idxAE, x_idxSE, x_addrE, x_idx, x_lenS, ↓s_len, ↓x_buildS, x_buildE, ↓x_P0, ↓x_P1, x_fill0, x_filli, x_fills, x_fillb, c_int, List.length_cons, List.length_nil, List.cons_append, List.drop_succ_cons, List.drop_zero, List.drop_nil, List.nil_append, Int.reduceAdd, Int.reduceToNat, Int.reduceLT, Int.reduceLE, Nat.reduceAdd, Nat.reduceMul, Nat.reduceLeDiff, Int.reduceEq, Int.reduceSub, Int.cast_ofNat_Int, s_resc, s_consR, m_load4, m_store4, s_res0, ↓s_skip, ↓s_ops, ↓s_dops, ↓s_seq, ↓s_cond, ↓s_block, ↓s_exit, ↓s_ret, ↓s_scope, ↓s_nil, ↓s_op, ↓s_opg, ↓s_wanted', ↓s_wantV, s_wantV, s_wantV0, beq_true, beq_false, ↓s_bindS, s_bindS, ↓s_bindE, s_bindE, s_bindE_ret, s_bindE_exit, s_bindE_iteN, s_norm, ↓s_condV, s_condV, s_block_ret, s_block_normal, s_block_exit, s_block_iteN, ↓s_getp, ↓s_getp0, ↓s_get, s_get0, ↓s_con, ↓s_fn, ↓s_os0, ↓s_os1, ↓s_list0, ↓s_list1, ↓s_mov, ↓s_pick, ↓s_pickE, s_pickE, ↓s_bin, ↓s_un, ↓s_minmax, ↓s_call, ↓s_callv, ↓s_callV, ↓s_ext, s_same, b_eql, b_neq, b_lss, b_leq, b_gtr, b_geq, b_add, b_sub, b_mul, b_eqlb, b_neqb, b_fnil, b_fnil', b_fnil2, b_fnil2', u_neg, u_not, m_two, s_end, s_end', s_end_iteN, s_res0, s_res1, s_tup1, s_tup2, ↓iteN_true, ↓iteN_false, iteN_true, iteN_false, Nat.zero_add, List.nil_append, List.append_nil, Nat.reduceEqDiff, reduceIte, decide_true, decide_false, Bool.not_true, Bool.not_false, List.getElem?_cons_zero, List.getElem?_cons_succ, Bool.false_eq_true, if_true, if_false, beq_self_eq_true]
      exact rfl, by rw [esl]; exact (by (simp only [s_getp, s_getp0, Nat.reduceEqDiff, decide_false, decide_true, iteN_false, iteN_true, t0]; try rfl)), ⟨ar, cr, er, by rw [edl]; exact (by (simp only [s_getp, s_getp0, Nat.reduceEqDiff, decide_false, decide_true, iteN_false, iteN_true, t4]; try rfl)), row⟩, by rw [esl]; exact (by (simp only [s_getp, s_getp0, Nat.reduceEqDiff, decide_false, decide_true, iteN_false, iteN_true, t5]; try rfl)), kp⟩
  intro n
  induction n with
  | zero =>
    intro g dn at_ T h hn hg hat hdn I
    obtain ⟨g, rfl⟩ : ∃ k, g = k + 1 := ⟨g - 1, by omega⟩
    obtain rfl : at_ = s.length := by omega
    obtain ⟨T', h', r, J⟩ := stop 0 dn T h I
    refine ⟨.exit 0, T', h', by rw [l_succ, r]; rfl, .inl ⟨rfl, rfl, ?_⟩⟩
    show RpI _ (dn ++ []) _ _ _ _
    rw [List.append_nil]; exact J
  | succ n ih =>
    intro g dn at_ T h hn hg hat hdn I
    obtain ⟨g, rfl⟩ : ∃ k, g = k + 1 := ⟨g - 1, by omega⟩
    by_cases e0 : at_ = s.length
    · subst e0
      obtain ⟨T', h', r, J⟩ := stop 0 dn T h I
      rw [List.drop_length]
      refine ⟨.exit 0, T', h', by rw [l_succ, r]; rfl, .inl ⟨rfl, rfl, ?_⟩⟩
      show RpI _ (dn ++ []) _ _ _ _
      rw [List.append_nil]; exact J
    · obtain ⟨T', h', q1, q2⟩ := rp_step e x M m s bs hs a h0 src dn (by omega) at_ (by omega) T h I
      rw [sp_succ]
      cases hf : fstV (s.drop at_) with
      | none =>
        obtain ⟨r, q, k⟩ := q1 hf
        refine ⟨.ret, T', h', by rw [l_succ, r]; rfl, .inr ⟨?_, rfl, q, k⟩⟩
        show at_ + 0 < _
        omega
      | some z =>
        obtain ⟨o, k⟩ := z
        obtain ⟨r, J⟩ := q2 o k hf
        obtain ⟨f1, f2, f3, f4, f5, f6⟩ := fst_of _ (byt_drop bs _) o k hf
        rw [List.length_drop] at f3
        obtain ⟨ex, T2, h2, r2, q⟩ := ih g (dn ++ [o]) (at_ + k) T' h' (by omega) (by omega) (by omega) (by rw [List.length_append]; simp; omega) J
        refine ⟨ex, T2, h2, by rw [l_succ, r, l_normal]; exact r2, ?_⟩
        simp only
        rw [List.append_assoc] at q
        rw [List.drop_drop, ← Nat.add_assoc]
        exact q
theorem rsplit_go (e : EnRo E) (x : NoRo X) (es : E k_purserref10_Split = some f_purserref10_Split) (xs : ∀ a h, X (.fn k_purserref10_Split) a h = none) (M : Nat) (s : List Nat) (bs : byt s = true) (hs : s.length ≤ 1000000) (hM : s.length < M) (a : Option (Nat × Nat)) (h : H) (src : SrcH h a 1 s) :
    ∃ h' ar cr er, callX E X (M + 2) (.fn k_purserref10_Split) [.slice a s.length none 1] h = some (.tup [.slice ar (spR s).1.length cr er, .int .i64 ((spR s).2 : Int)], h') ∧ Kp h h' ∧ RowF h.next h' (spR s).1 ar cr er := by
  rw [x_cfn es _ _ (Nat.le_of_ble_eq_true rfl) (xs _ _)]
  have fin : ∀ T, RpI (.slice a s.length none 1) [] 0 h T h → ∃ h' ar cr er, fnEnd [.tmp 2, .tmp 3] (bindE (blockE 0 (loopN (evC (callX E X (M + 1)) 97 (M + 1) none L_purserref10_Split_0) (M + 1) ⟨T, [], h⟩)) (evC (callX E X (M + 1)) 97 (M + 1) none R_purserref10_Split_0)) = some (.tup [.slice ar (spR s).1.length cr er, .int .i64 ((spR s).2 : Int)], h') ∧ Kp h h' ∧ RowF h.next h' (spR s).1 ar cr er := by
    intro T I
    obtain ⟨ex, T', h', r, q⟩ := rp_loop e x M (M + 1) s bs hs a h src s.length (M + 1) [] 0 T h (by omega) (by omega) (by omega) (by simp) I
    rw [List.drop_zero, Nat.zero_add, List.nil_append] at q
    rw [r]
    unfold spR
    rcases q with ⟨q1, rfl, J⟩ | ⟨q1, rfl, ⟨u2, u3⟩, k⟩
    · rw [if_neg (by omega)]
      obtain ⟨t0, ⟨ar, cr, er, t4, row⟩, t5, kp⟩ := J
      refine ⟨h', ar, cr, er, ?_, kp, row⟩
      simp only
      generalize (spV s.length s).1.length = dl at *
      simp (config := {maxSteps := 2000000}) (disch := first | omega | (simp only [List.length_cons, List.length_nil, List.length_append, List.length_drop]; omega)) only [R_purserref10_Split_0, t4, ↓b_xor32, ↓b_and32, ↓b_or32, ↓u_not32, b_xor32, b_and32, b_or32, u_not32, w32ad, ↓x_conv, x_convV, ↓x_fieldAddr, x_fieldV, ↓s_nilchk, x_nilchk, Nat.zero_add, Nat.add_zero, Nat.mul_one, ↓l_loop, ↓l_succ, ↓l_normal, l_normal, l_exit, l_ret, l_iteN, ↓h_put_get, ↓h_new_get, ↓h_del_get, h_next_put, h_next_new, h_next_del, Nat.add_assoc, Nat.add_eq_left, Nat.left_eq_add, Nat.add_left_cancel_iff, ↓s_load, m_load, ↓m_load1, m_load1, ↓m_st, m_stE, m_storeI, m_storeE, w_zero, w_succ, ↓s_alloc, ↓x_idxA, ↓x_idxS, x_idxAE, x_idxSE, x_addrE, x_idx, x_lenS, ↓s_len, ↓x_buildS, x_buildE, ↓x_P0, ↓x_P1, x_fill0, x_filli, x_fills, x_fillb, c_int, List.length_cons, List.length_nil, List.cons_append, List.drop_succ_cons, List.drop_zero, List.drop_nil, List.nil_append, Int.reduceAdd, Int.reduceToNat, Int.reduceLT, Int.reduceLE, Nat.reduceAdd, Nat.reduceMul, Nat.reduceLeDiff, Int.reduceEq, Int.reduceSub, Int.cast_ofNat_Int, s_resc, s_consR, m_load4, m_store4, s_res0, ↓s_skip, ↓s_ops, ↓s_dops, ↓s_seq, ↓s_cond, ↓s_block, ↓s_exit, ↓s_ret, ↓s_scope, ↓s_nil, ↓s_op, ↓s_opg, ↓s_wanted', ↓s_wantV, s_wantV, s_wantV0, beq_true, beq_false, ↓s_bindS, s_bindS, ↓s_bindE, s_bindE, s_bindE_ret, s_bindE_exit, s_bindE_iteN, s_norm, ↓s_condV, s_condV, s_block_ret, s_block_normal, s_block_exit, s_block_iteN, ↓s_getp, ↓s_getp0, ↓s_get, s_get0, ↓s_con, ↓s_fn, ↓s_os0, ↓s_os1, ↓s_list0, ↓s_list1, ↓s_mov, ↓s_pick, ↓s_pickE, s_pickE, ↓s_bin, ↓s_un, ↓s_minmax, ↓s_call, ↓s_callv, ↓s_callV, ↓s_ext, s_same, b_eql, b_neq, b_lss, b_leq, b_gtr, b_geq, b_add, b_sub, b_mul, b_eqlb, b_neqb, b_fnil, b_fnil', b_fnil2, b_fnil2', u_neg, u_not, m_two, s_end, s_end', s_end_iteN, s_res0, s_res1, s_tup1, s_tup2, ↓iteN_true, ↓iteN_false, iteN_true, iteN_false, Nat.zero_add, List.nil_append, List.append_nil, Nat.reduceEqDiff, reduceIte, decide_true, decide_false, Bool.not_true, Bool.not_false, List.getElem?_cons_zero, List.getElem?_cons_succ, Bool.false_eq_true, if_true, if_false, beq_self_eq_true]
      try rfl
    · rw [if_pos q1]
      refine ⟨h', none, some 0, 0, ?_, k, .inl ⟨rfl, rfl, rfl, rfl⟩⟩
      simp (config := {maxSteps := 2000000}) (disch := first | omega | (simp only [List.length_cons, List.length_nil, List.length_append, List.length_drop]; omega)) only [u2, u3, ↓b_xor32, ↓b_and32, ↓b_or32, ↓u_not32, b_xor32, b_and32, b_or32, u_not32, w32ad, ↓x_conv, x_convV, ↓x_fieldAddr, x_fieldV, ↓s_nilchk, x_nilchk, Nat.zero_add, Nat.add_zero, Nat.mul_one, ↓l_loop, ↓l_succ, ↓l_normal, l_normal, l_exit, l_ret, l_iteN, ↓h_put_get, ↓h_new_get, ↓h_del_get, h_next_put, h_next_new, h_next_del, Nat.add_assoc, Nat.add_eq_left, Nat.left_eq_add, Nat.add_left_cancel_iff, ↓s_load, m_load, ↓m_load1, m_load1, ↓m_st, m_stE, m_storeI, m_storeE, w_zero, w_succ, ↓s_alloc, ↓x_idxA, ↓x_idxS, x_idxAE, x_idxSE, x_addrE, x_idx, x_lenS, ↓s_len, ↓x_buildS, x_buildE, ↓x_P0, ↓x_P1, x_fill0, x_filli, x_fills, x_fillb, c_int, List.length_cons, List.length_nil, List.cons_append, List.drop_succ_cons, List.drop_zero, List.drop_nil, List.nil_append, Int.reduceAdd, Int.reduceToNat, Int.reduceLT, Int.reduceLE, Nat.reduceAdd, Nat.reduceMul, Nat.reduceLeDiff, Int.reduceEq, Int.reduceSub, Int.cast_ofNat_Int, s_resc, s_consR, m_load4, m_store4, s_res0, ↓s_skip, ↓s_ops, ↓s_dops, ↓s_seq, ↓s_cond, ↓s_block, ↓s_exit, ↓s_ret, ↓s_scope, ↓s_nil, ↓s_op, ↓s_opg, ↓s_wanted', ↓s_wantV, s_wantV, s_wantV0, beq_true, beq_false, ↓s_bindS, s_bindS, ↓s_bindE, s_bindE, s_bindE_ret, s_bindE_exit, s_bindE_iteN, s_norm, ↓s_condV, s_condV, s_block_ret, s_block_normal, s_block_exit, s_block_iteN, ↓s_getp, ↓s_getp0, ↓s_get, s_get0, ↓s_con, ↓s_fn, ↓s_os0, ↓s_os1, ↓s_list0, ↓s_list1, ↓s_mov, ↓s_pick, ↓s_pickE, s_pickE, ↓s_bin, ↓s_un, ↓s_minmax, ↓s_call, ↓s_callv, ↓s_callV, ↓s_ext, s_same, b_eql, b_neq, b_lss, b_leq, b_gtr, b_geq, b_add, b_sub, b_mul, b_eqlb, b_neqb, b_fnil, b_fnil', b_fnil2, b_fnil2', u_neg, u_not, m_two, s_end, s_end', s_end_iteN, s_res0, s_res1, s_tup1, s_tup2, ↓iteN_true, ↓iteN_false, iteN_true, iteN_false, Nat.zero_add, List.nil_append, List.append_nil, Nat.reduceEqDiff, reduceIte, decide_true, decide_false, Bool.not_true, Bool.not_false, List.getElem?_cons_zero, List.getElem?_cons_succ, Bool.false_eq_true, if_true, if_false, beq_self_eq_true]
      try rfl
  obtain ⟨R, eR⟩ : ∃ R, R_purserref10_Split_0 = R := ⟨_, rfl⟩
  obtain ⟨Lo, eL⟩ : ∃ R, L_purserref10_Split_0 = R := ⟨_, rfl⟩
  rw [eR, eL] at fin ⊢
  obtain ⟨sl, esl⟩ : ∃ n, s.length = n := ⟨_, rfl⟩
  rw [esl] at ⊢
  simp (config := {maxSteps := 2000000}) (disch := first | omega | (simp only [List.length_cons, List.length_nil, List.length_append, List.length_drop]; omega)) only [↓b_xor32, ↓b_and32, ↓b_or32, ↓u_not32, b_xor32, b_and32, b_or32, u_not32, w32ad, ↓x_conv, x_convV, ↓x_fieldAddr, x_fieldV, ↓s_nilchk, x_nilchk, Nat.zero_add, Nat.add_zero, Nat.mul_one, ↓l_loop, ↓l_succ, ↓l_normal, l_normal, l_exit, l_ret, l_iteN, ↓h_put_get, ↓h_new_get, ↓h_del_get, h_next_put, h_next_new, h_next_del, Nat.add_assoc, Nat.add_eq_left, Nat.left_eq_add, Nat.add_left_cancel_iff, ↓s_load, m_load, ↓m_load1, m_load1, ↓m_st, m_stE, m_storeI, m_storeE, w_zero, w_succ, ↓s_alloc, ↓x_idxA, ↓x_idxS, x_idxAE, x_idxSE, x_addrE, x_idx, x_lenS, ↓s_len, ↓x_buildS, x_buildE, ↓x_P0, ↓x_P1, x_fill0, x_filli, x_fills, x_fillb, c_int, List.length_cons, List.length_nil, List.cons_append, List.drop_succ_cons, List.drop_zero, List.drop_nil, List.nil_append, Int.reduceAdd, Int.reduceToNat, Int.reduceLT, Int.reduceLE, Nat.reduceAdd, Nat.reduceMul, Nat.reduceLeDiff, Int.reduceEq, Int.reduceSub, Int.cast_ofNat_Int, s_resc, s_consR, m_load4, m_store4, s_res0, ↓s_skip, ↓s_ops, ↓s_dops, ↓s_seq, ↓s_cond, ↓s_block, ↓s_exit, ↓s_ret, ↓s_scope, ↓s_nil, ↓s_op, ↓s_opg, ↓s_wanted', ↓s_wantV, s_wantV, s_wantV0, beq_true, beq_false, ↓s_bindS, s_bindS, ↓s_bindE, s_bindE, s_bindE_ret, s_bindE_exit, s_bindE_iteN, s_norm, ↓s_condV, s_condV, s_block_ret, s_block_normal, s_block_exit, s_block_iteN, ↓s_getp, ↓s_getp0, ↓s_get, s_get0, ↓s_con, ↓s_fn, ↓s_os0, ↓s_os1, ↓s_list0, ↓s_list1, ↓s_mov, ↓s_pick, ↓s_pickE, s_pickE, ↓s_bin, ↓s_un, ↓s_minmax, ↓s_call, ↓s_callv, ↓s_callV, ↓s_ext, s_same, b_eql, b_neq, b_lss, b_leq, b_gtr, b_geq, b_add, b_sub, b_mul, b_eqlb, b_neqb, b_fnil, b_fnil', b_fnil2, b_fnil2', u_neg, u_not, m_two, s_end, s_end', s_end_iteN, s_res0, s_res1, s_tup1, s_tup2, ↓iteN_true, ↓iteN_false, iteN_true, iteN_false, Nat.zero_add, List.nil_append, List.append_nil, Nat.reduceEqDiff, reduceIte, decide_true, decide_false, Bool.not_true, Bool.not_false, List.getElem?_cons_zero, List.getElem?_cons_succ, Bool.false_eq_true, if_true, if_false, beq_self_eq_true]
  exact fin _ ⟨by rw [esl]; exact (by (simp only [s_getp, s_getp0, Nat.reduceEqDiff, decide_false, decide_true, iteN_false, iteN_true, eL]; try rfl)), ⟨none, some 0, 0, (by (simp only [s_getp, s_getp0, Nat.reduceEqDiff, decide_false, decide_true, iteN_false, iteN_true, eL]; try rfl)), .inl ⟨rfl, rfl, rfl, rfl⟩⟩, (by (simp only [s_getp, s_getp0, Nat.reduceEqDiff, decide_false, decide_true, iteN_false, iteN_true, eL]; try rfl)), Kp.refl _⟩
theorem ps_sp : ∀ n (b : List Nat), byt b = true → b.length ≤ n → (psV n b = b.length ↔ (spV n b).2 = b.length ∧ ∀ o ∈ (spV n b).1, (valV o).isSome = true) := by
  intro n
  induction n with
  | zero =>
    intro b _ h
    obtain rfl : b = [] := List.length_eq_zero_iff.1 (by omega)
    exact ⟨fun _ => ⟨rfl, fun o ho => by cases ho⟩, fun _ => rfl⟩
  | succ n ih =>
    intro b bb h
    rw [ps_succ, sp_succ]
    cases hf : fstV b with
    | none => exact ⟨fun h => ⟨h, fun o ho => by cases ho⟩, fun h => h.1⟩
    | some z =>
      obtain ⟨o, k⟩ := z
      obtain ⟨f1, f2, f3, f4, f5, f6⟩ := fst_of b bb o k hf
      have i := ih (b.drop k) (byt_drop bb _) (by rw [List.length_drop]; omega)
      rw [List.length_drop] at i
      simp only
      by_cases hv : (valV o).isSome = true
      · rw [if_pos hv]
        constructor
        · intro h1
          obtain ⟨i1, i2⟩ := i.1 (by omega)
          exact ⟨by omega, fun o' ho => by rcases List.mem_cons.1 ho with rfl | ho; exact hv; exact i2 o' ho⟩
        · intro ⟨h1, h2⟩
          have := i.2 ⟨by omega, fun o' ho => h2 o' (List.mem_cons_of_mem _ ho)⟩
          omega
      · rw [if_neg hv]
        exact ⟨fun h1 => by omega, fun ⟨_, h2⟩ => absurd (h2 o (List.mem_cons_self ..)) hv⟩
structure RuI (v : V) (h0 : H) (i : Nat) (T : Tr V) (h : H) : Prop where
  t3 : evO T (.t 3) = v
  t5 : evO T (.t 5) = .int .i64 (i : Int)
  kp : Kp h0 h
theorem ru_step (e : EnRo E) (x : NoRo X) (M m : Nat) (dn : List Oq) (hd : dn.length ≤ 1000000) (ok : ∀ o ∈ dn, o.ok ∧ o.l.length ≤ 1000000) (a : Option (Nat × Nat)) (c : Option Nat) (ez : Nat) (h0 : H) (row : RowS h0 dn a ez) (i : Nat) (o : Oq) (ho : dn[i]? = some o) (T : Tr V) (h : H) (I : RuI (.slice a dn.length c ez) h0 i T h) :
    ∃ T' h', ((valV o).isSome = true → evC (callX E X (M + 2)) 31 m none L_purserref10_Pushes_0 ⟨T, [], h⟩ = some (.normal, ⟨T', [], h'⟩) ∧ RuI (.slice a dn.length c ez) h0 (i + 1) T' h') ∧ ((valV o).isSome = false → evC (callX E X (M + 2)) 31 m none L_purserref10_Pushes_0 ⟨T, [], h⟩ = some (.ret, ⟨T', [], h'⟩) ∧ evO T' (.t 2) = .bool false ∧ Kp h0 h') := by
  have hi : i < dn.length := (List.getElem?_eq_some_iff.1 ho).1
  obtain ⟨t3, t5, kp⟩ := I
  obtain ⟨ok1, ok2⟩ := ok o (List.mem_of_getElem? ho)
  have c0 : decide ((i : Int) < (dn.length : Int)) = true := decide_eq_true (by omega)
  have wi : wr .i64 ((i : Int) + 1) = ((i + 1 : Nat) : Int) := by rw [wr_i64 (by omega)]; omega
  have ix : idx (i : Int) dn.length = some i := idxn hi
  rcases row with r | ⟨q, off, vs, md, rfl, rfl, hq, gq', hl, at_⟩
  · rw [r] at ho; simp at ho
  obtain ⟨b, cb, eb, e3, sb⟩ := at_ i o ho
  have ld : loadE (some (.cells vs md)) (some 2) (off + i * 2) = some (.agg [.int .u8 (o.code : Int), .slice b o.l.length cb eb]) := by rw [m_loadN, readN_of _ _ _ (by omega), e3]
  have gv : h.get q = some (.cells vs md) := by rw [kp.2 _ hq, gq']
  obtain ⟨h1, a1, c1, e1, r1, k1, _⟩ := rvalue_go e x M o ok1 ok2 b cb eb h (sb.mono kp)
  generalize ((valV o).getD []).length = wl at *
  generalize o.l.length = ol at *
  generalize dn.length = n at *
  cases hv : (valV o).isSome with
  | true =>
    rw [hv] at r1
    obtain ⟨T', r, u3, u5⟩ : ∃ T', evC (callX E X (M + 2)) 31 m none L_purserref10_Pushes_0 ⟨T, [], h⟩ = some (.normal, ⟨T', [], h1⟩) ∧ evO T' (.t 3) = .slice (some (q, off)) n c 2 ∧ evO T' (.t 5) = .int .i64 ((i + 1 : Nat) : Int) := by
      exact ⟨_, by
        simp (config := {maxSteps := 2000000}) (disch := first | omega | (simp only [List.length_cons, List.length_nil, List.length_append, List.length_drop]; omega)) only [L_purserref10_Pushes_0, t3, t5, gv, ld, r1, c0, ix, wi, ↓s_len, x_lenS, ↓b_xor32, ↓b_and32, ↓b_or32, ↓u_not32, b_xor32, b_and32, b_or32, u_not32, w32ad, ↓x_conv, x_convV, ↓x_fieldAddr, x_fieldV, ↓s_nilchk, x_nilchk, Nat.zero_add, Nat.add_zero, Nat.mul_one, ↓s_evD, ↓s_dnil, ↓s_dL, ↓s_dLg, ↓s_dR, ↓s_dRg, ↓s_dRj, ↓s_dRjg, ↓s_dB, ↓s_dBg, ↓s_dAlloc, ↓s_bindD, s_bindD, s_finD, s_finDx, s_addP0, s_addP1, s_addB, s_lookP, ↓s_bump0, ↓s_bump_get, s_bump_next, s_ok0, ↓s_ok1, s_okR0, ↓s_okR1, ↓s_okE, s_okE, s_okE1, s_nth0, s_nthS, Nat.add_zero, Bool.and_self, Bool.and_true, Bool.true_and, ↓l_loop, ↓l_succ, ↓l_normal, l_normal, l_exit, l_ret, l_iteN, ↓h_put_get, ↓h_new_get, ↓h_del_get, h_next_put, h_next_new, h_next_del, Nat.add_assoc, Nat.add_eq_left, Nat.left_eq_add, Nat.add_left_cancel_iff, ↓s_load, m_load, ↓m_load1, m_load1, ↓m_st, m_stE, m_storeI, m_storeE, w_zero, w_succ, ↓s_alloc, ↓x_idxA, ↓x_idxS, x_idxAE, x_idxSE, x_addrE, x_idx, x_lenS, ↓s_len, ↓x_buildS, x_buildE, ↓x_P0, ↓x_P1, x_fill0, x_filli, x_fills, x_fillb, c_int, List.length_cons, List.length_nil, List.cons_append, List.drop_succ_cons, List.drop_zero, List.drop_nil, List.nil_append, Int.reduceAdd, Int.reduceToNat, Int.reduceLT, Int.reduceLE, Nat.reduceAdd, Nat.reduceMul, Nat.reduceLeDiff, Int.reduceEq, Int.reduceSub, Int.cast_ofNat_Int, s_resc, s_consR, m_load4, m_store4, s_res0, ↓s_skip, ↓s_ops, ↓s_dops, ↓s_seq, ↓s_cond, ↓s_block, ↓s_exit, ↓s_ret, ↓s_scope, ↓s_nil, ↓s_op, ↓s_opg, ↓s_wanted', ↓s_wantV, s_wantV, s_wantV0, beq_true, beq_false, ↓s_bindS, s_bindS, ↓s_bindE, s_bindE, s_bindE_ret, s_bindE_exit, s_bindE_iteN, s_norm, ↓s_condV, s_condV, s_block_ret, s_block_normal, s_block_exit, s_block_iteN, ↓s_getp, ↓s_getp0, ↓s_get, s_get0, ↓s_con, ↓s_fn, ↓s_os0, ↓s_os1, ↓s_list0, ↓s_list1, ↓s_mov, ↓s_pick, ↓s_pickE, s_pickE, ↓s_bin, ↓s_un, ↓s_minmax, ↓s_call, ↓s_callv, ↓s_callV, ↓s_ext, s_same, b_eql, b_neq, b_lss, b_leq, b_gtr, b_geq, b_add, b_sub, b_mul, b_eqlb, b_neqb, b_fnil, b_fnil', b_fnil2, b_fnil2', u_neg, u_not, m_two, s_end, s_end', s_end_iteN, s_res0, s_res1, s_tup1, s_tup2, ↓iteN_true, ↓iteN_false, iteN_true, iteN_false, Nat.zero_add, List.nil_append, List.append_nil, Nat.reduceEqDiff, reduceIte, decide_true, decide_false, Bool.not_true, Bool.not_false, List.getElem?_cons_zero, List.getElem?_cons_succ, Bool.false_eq_true, if_true, if_false, beq_self_eq_true]
        exact rfl, (by (simp only [s_getp, s_getp0, Nat.reduceEqDiff, decide_false, decide_true, iteN_false, iteN_true, t3]; try rfl)), (by (simp only [s_getp, s_getp0, Nat.reduceEqDiff, decide_false, decide_true, iteN_false, iteN_true, t5]; try rfl))⟩
    exact ⟨T', h1, fun _ => ⟨r, u3, u5, kp.trans k1⟩, fun h => by cases h⟩
  | false =>
    rw [hv] at r1
    obtain ⟨T', r, u2⟩ : ∃ T', evC (callX E X (M + 2)) 31 m none L_purserref10_Pushes_0 ⟨T, [], h⟩ = some (.ret, ⟨T', [], h1⟩) ∧ evO T' (.t 2) = .bool false := by
      exact ⟨_, by
        simp (config := {maxSteps := 2000000}) (disch := first | omega | (simp only [List.length_cons, List.length_nil, List.length_append, List.length_drop]; omega)) only [L_purserref10_Pushes_0, t3, t5, gv, ld, r1, c0, ix, wi, ↓s_len, x_lenS, ↓b_xor32, ↓b_and32, ↓b_or32, ↓u_not32, b_xor32, b_and32, b_or32, u_not32, w32ad, ↓x_conv, x_convV, ↓x_fieldAddr, x_fieldV, ↓s_nilchk, x_nilchk, Nat.zero_add, Nat.add_zero, Nat.mul_one, ↓s_evD, ↓s_dnil, ↓s_dL, ↓s_dLg, ↓s_dR, ↓s_dRg, ↓s_dRj, ↓s_dRjg, ↓s_dB, ↓s_dBg, ↓s_dAlloc, ↓s_bindD, s_bindD, s_finD, s_finDx, s_addP0, s_addP1, s_addB, s_lookP, ↓s_bump0, ↓s_bump_get, s_bump_next, s_ok0, ↓s_ok1, s_okR0, ↓s_okR1, ↓s_okE, s_okE, s_okE1, s_nth0, s_nthS, Nat.add_zero, Bool.and_self, Bool.and_true, Bool.true_and, ↓l_loop, ↓l_succ, ↓l_normal, l_normal, l_exit, l_ret, l_iteN, ↓h_put_get, ↓h_new_get, ↓h_del_get, h_next_put, h_next_new, h_next_del, Nat.add_assoc, Nat.add_eq_left, Nat.left_eq_add, Nat.add_left_cancel_iff, ↓s_load, m_load, ↓m_load1, m_load1, ↓m_st, m_stE, m_storeI, m_storeE, w_zero, w_succ, ↓s_alloc, ↓x_idxA, ↓x_idxS, x_idxAE, x_idxSE, x_addrE, x_idx, x_lenS, ↓s_len, ↓x_buildS, x_buildE, ↓x_P0, ↓x_P1, x_fill0, x_filli, x_fills, x_fillb, c_int, List.length_cons, List.length_nil, List.cons_append, List.drop_succ_cons, List.drop_zero, List.drop_nil, List.nil_append, Int.reduceAdd, Int.reduceToNat, Int.reduceLT, Int.reduceLE, Nat.reduceAdd, Nat.reduceMul, Nat.reduceLeDiff, Int.reduceEq, Int.reduceSub, Int.cast_ofNat_Int, s_resc, s_consR, m_load4, m_store4, s_res0, ↓s_skip, ↓s_ops, ↓s_dops, ↓s_seq, ↓s_cond, ↓s_block, ↓s_exit, ↓s_ret, ↓s_scope, ↓s_nil, ↓s_op, ↓s_opg, ↓s_wanted', ↓s_wantV, s_wantV, s_wantV0, beq_true, beq_false, ↓s_bindS, s_bindS, ↓s_bindE, s_bindE, s_bindE_ret, s_bindE_exit, s_bindE_iteN, s_norm, ↓s_condV, s_condV, s_block_ret, s_block_normal, s_block_exit, s_block_iteN, ↓s_getp, ↓s_getp0, ↓s_get, s_get0, ↓s_con, ↓s_fn, ↓s_os0, ↓s_os1, ↓s_list0, ↓s_list1, ↓s_mov, ↓s_pick, ↓s_pickE, s_pickE, ↓s_bin, ↓s_un, ↓s_minmax, ↓s_call, ↓s_callv, ↓s_callV, ↓s_ext, s_same, b_eql, b_neq, b_lss, b_leq, b_gtr, b_geq, b_add, b_sub, b_mul, b_eqlb, b_neqb, b_fnil, b_fnil', b_fnil2, b_fnil2', u_neg, u_not, m_two, s_end, s_end', s_end_iteN, s_res0, s_res1, s_tup1, s_tup2, ↓iteN_true, ↓iteN_false, iteN_true, iteN_false, Nat.zero_add, List.nil_append, List.append_nil, Nat.reduceEqDiff, reduceIte, decide_true, decide_false, Bool.not_true, Bool.not_false, List.getElem?_cons_zero, List.getElem?_cons_succ, Bool.false_eq_true, if_true, if_false, beq_self_eq_true]
        exact rfl, (by (simp only [s_getp, s_getp0, Nat.reduceEqDiff, decide_false, decide_true, iteN_false, iteN_true, t3]; try rfl))⟩
    exact ⟨T', h1, fun h => (by cases h), fun _ => ⟨r, u2, kp.trans k1⟩⟩
theorem val_or (ops : List Oq) : (∀ o ∈ ops, (valV o).isSome = true) ∨ ∃ (j : Nat) (o : Oq), ops[j]? = some o ∧ (valV o).isSome = false ∧ ∀ (i : Nat) (o' : Oq), i < j → ops[i]? = some o' → (valV o').isSome = true := by
  induction ops with
  | nil => exact .inl (fun o ho => by cases ho)
  | cons a r ih =>
    cases ha : (valV a).isSome with
    | false => exact .inr ⟨0, a, rfl, ha, fun i o' hi => by omega⟩
    | true =>
      rcases ih with ih | ⟨j, o, h1, h2, h3⟩
      · exact .inl (fun o ho => by rcases List.mem_cons.1 ho with rfl | ho; exact ha; exact ih o ho)
      · refine .inr ⟨j + 1, o, by simpa using h1, h2, fun i o' hi ho => ?_⟩
        cases i with
        | zero => simp at ho; subst ho; exact ha
        | succ i => simp at ho; exact h3 i o' (by omega) ho
theorem sp_small : ∀ n (b : List Nat), byt b = true → ∀ o ∈ (spV n b).1, o.l.length ≤ b.length := by
  intro n
  induction n with
  | zero => intro b _ o ho; cases ho
  | succ n ih =>
    intro b bb o ho
    rw [sp_succ] at ho
    cases hf : fstV b with
    | none => rw [hf] at ho; cases ho
    | some z =>
      obtain ⟨o1, k⟩ := z
      rw [hf] at ho
      obtain ⟨f1, f2, f3, f4, f5, f6⟩ := fst_of b bb o1 k hf
      rcases List.mem_cons.1 ho with rfl | ho
      · omega
      · have := ih (b.drop k) (byt_drop bb _) o ho
        rw [List.length_drop] at this; omega
theorem sp_few : ∀ n (b : List Nat), byt b = true → (spV n b).1.length ≤ (spV n b).2 := by
  intro n
  induction n with
  | zero => intro b _; exact Nat.le_refl _
  | succ n ih =>
    intro b bb
    rw [sp_succ]
    cases hf : fstV b with
    | none => exact Nat.le_refl _
    | some z =>
      obtain ⟨o1, k⟩ := z
      obtain ⟨f1, f2, f3, f4, f5, f6⟩ := fst_of b bb o1 k hf
      have := ih (b.drop k) (byt_drop bb _)
      simp only [List.length_cons]
      omega
theorem spR_ok (s : List Nat) (bs : byt s = true) : (∀ o ∈ (spR s).1, o.ok ∧ o.l.length ≤ s.length) ∧ (spR s).1.length ≤ s.length := by
  unfold spR
  split
  · exact ⟨(fun o ho => by cases ho), Nat.zero_le _⟩
  · have h1 := sp_of s.length s bs
    have h2 := sp_few s.length s bs
    exact ⟨fun o ho => ⟨(h1.1 o ho).2, sp_small s.length s bs o ho⟩, by show (spV s.length s).1.length ≤ _; omega⟩
theorem rpushes_go (e : EnRo E) (x : NoRo X) (es : E k_purserref10_Split = some f_purserref10_Split) (xs : ∀ a h, X (.fn k_purserref10_Split) a h = none) (ep : E k_purserref10_Pushes = some f_purserref10_Pushes) (xp : ∀ a h, X (.fn k_purserref10_Pushes) a h = none) (M : Nat) (s : List Nat) (bs : byt s = true) (hs : s.length ≤ 1000000) (hM : s.length < M) (a : Option (Nat × Nat)) (h : H) (src : SrcH h a 1 s) :
    ∃ h', callX E X (M + 3) (.fn k_purserref10_Pushes) [.slice a s.length none 1] h = some (.bool (decide (psV s.length s = s.length)), h') ∧ Kp h h' := by
  rw [x_cfn ep _ _ (Nat.le_of_ble_eq_true rfl) (xp _ _)]
  obtain ⟨h1, ar, cr, er, r1, k1, row1⟩ := rsplit_go e x es xs M s bs hs hM a h src
  have pd := ps_sp s.length s bs (Nat.le_refl _)
  have so := (sp_of s.length s bs).2.2
  obtain ⟨okd, lnd⟩ := spR_ok s bs
  unfold spR at r1 row1 okd lnd
  by_cases cw : (spV s.length s).2 < s.length
  · rw [if_pos cw] at r1
    rw [decide_eq_false (fun h => by have := (pd.1 h).1; omega)]
    have z1 : decide ((100 : Int) = 0) = false := rfl
    refine ⟨h1, ?_, k1⟩
    simp only [List.length_nil] at r1
    generalize s.length = sl at *
    replace r1 : callX E X (M + 2) (.fn k_purserref10_Split) [.slice a sl none 1] h = some (.tup [.slice ar 0 cr er, .int .i64 100], h1) := r1
    obtain ⟨Lo, eL⟩ : ∃ R, L_purserref10_Pushes_0 = R := ⟨_, rfl⟩
    rw [eL]
    simp (config := {maxSteps := 2000000}) (disch := first | omega | (simp only [List.length_cons, List.length_nil, List.length_append, List.length_drop]; omega)) only [r1, z1, ↓b_xor32, ↓b_and32, ↓b_or32, ↓u_not32, b_xor32, b_and32, b_or32, u_not32, w32ad, ↓x_conv, x_convV, ↓x_fieldAddr, x_fieldV, ↓s_nilchk, x_nilchk, Nat.zero_add, Nat.add_zero, Nat.mul_one, ↓l_loop, ↓l_succ, ↓l_normal, l_normal, l_exit, l_ret, l_iteN, ↓h_put_get, ↓h_new_get, ↓h_del_get, h_next_put, h_next_new, h_next_del, Nat.add_assoc, Nat.add_eq_left, Nat.left_eq_add, Nat.add_left_cancel_iff, ↓s_load, m_load, ↓m_load1, m_load1, ↓m_st, m_stE, m_storeI, m_storeE, w_zero, w_succ, ↓s_alloc, ↓x_idxA, ↓x_idxS, x_idxAE, x_idxSE, x_addrE, x_idx, x_lenS, ↓s_len, ↓x_buildS, x_buildE, ↓x_P0, ↓x_P1, x_fill0, x_filli, x_fills, x_fillb, c_int, List.length_cons, List.length_nil, List.cons_append, List.drop_succ_cons, List.drop_zero, List.drop_nil, List.nil_append, Int.reduceAdd, Int.reduceToNat, Int.reduceLT, Int.reduceLE, Nat.reduceAdd, Nat.reduceMul, Nat.reduceLeDiff, Int.reduceEq, Int.reduceSub, Int.cast_ofNat_Int, s_resc, s_consR, m_load4, m_store4, s_res0, ↓s_skip, ↓s_ops, ↓s_dops, ↓s_seq, ↓s_cond, ↓s_block, ↓s_exit, ↓s_ret, ↓s_scope, ↓s_nil, ↓s_op, ↓s_opg, ↓s_wanted', ↓s_wantV, s_wantV, s_wantV0, beq_true, beq_false, ↓s_bindS, s_bindS, ↓s_bindE, s_bindE, s_bindE_ret, s_bindE_exit, s_bindE_iteN, s_norm, ↓s_condV, s_condV, s_block_ret, s_block_normal, s_block_exit, s_block_iteN, ↓s_getp, ↓s_getp0, ↓s_get, s_get0, ↓s_con, ↓s_fn, ↓s_os0, ↓s_os1, ↓s_list0, ↓s_list1, ↓s_mov, ↓s_pick, ↓s_pickE, s_pickE, ↓s_bin, ↓s_un, ↓s_minmax, ↓s_call, ↓s_callv, ↓s_callV, ↓s_ext, s_same, b_eql, b_neq, b_lss, b_leq, b_gtr, b_geq, b_add, b_sub, b_mul, b_eqlb, b_neqb, b_fnil, b_fnil', b_fnil2, b_fnil2', u_neg, u_not, m_two, s_end, s_end', s_end_iteN, s_res0, s_res1, s_tup1, s_tup2, ↓iteN_true, ↓iteN_false, iteN_true, iteN_false, Nat.zero_add, List.nil_append, List.append_nil, Nat.reduceEqDiff, reduceIte, decide_true, decide_false, Bool.not_true, Bool.not_false, List.getElem?_cons_zero, List.getElem?_cons_succ, Bool.false_eq_true, if_true, if_false, beq_self_eq_true]
    try rfl
  · rw [if_neg cw] at r1 row1 okd lnd
    have ew : (spV s.length s).2 = s.length := by omega
    obtain ⟨dn, edn⟩ : ∃ d, (spV s.length s).1 = d := ⟨_, rfl⟩
    rw [edn] at r1 row1 okd lnd pd
    have pd2 : decide (psV s.length s = s.length) = decide (∀ o ∈ dn, (valV o).isSome = true) := by
      rw [decide_eq_decide, pd]
      exact ⟨fun h => h.2, fun h => ⟨ew, h⟩⟩
    rw [pd2]
    simp only at r1 okd lnd
    have z0 : decide ((0 : Int) = 0) = true := rfl
    replace r1 : callX E X (M + 2) (.fn k_purserref10_Split) [.slice a s.length none 1] h = some (.tup [.slice ar dn.length cr er, .int .i64 0], h1) := r1
    have fin : ∀ T, RuI (.slice ar dn.length cr er) h1 0 T h1 → ∃ h', fnEnd [.tmp 2] (bindE (blockE 0 (loopN (evC (callX E X (M + 2)) 31 (M + 2) none L_purserref10_Pushes_0) (M + 2) ⟨T, [], h1⟩)) (evC (callX E X (M + 2)) 31 (M + 2) none R_purserref10_Pushes_0)) = some (.bool (decide (∀ o ∈ dn, (valV o).isSome = true)), h') ∧ Kp h h' := by
      intro T I
      rcases val_or dn with hv | ⟨j, o, ho, vo, hb⟩
      · rw [decide_eq_true hv]
        obtain ⟨T', h', rr, kp⟩ := loop_go (f := evC (callX E X (M + 2)) 31 (M + 2) none L_purserref10_Pushes_0) (fun i T h => RuI (.slice ar dn.length cr er) h1 i T h) dn.length (.exit 0) (by intro h; cases h) (fun _ h' => Kp h1 h') (fun i T h' hi I => by
          obtain ⟨o, ho⟩ : ∃ o, dn[i]? = some o := ⟨_, List.getElem?_eq_getElem hi⟩
          obtain ⟨T', h2, q, _⟩ := ru_step e x M (M + 2) dn (by omega) (fun o ho => ⟨(okd o ho).1, by have := (okd o ho).2; omega⟩) ar cr er h1 row1.row i o ho T h' I
          exact ⟨T', h2, q (hv o (List.mem_of_getElem? ho))⟩) (fun T h' I => by
          obtain ⟨t3, t5, kp⟩ := I
          have c0 : decide ((dn.length : Int) < (dn.length : Int)) = false := decide_eq_false (by omega)
          generalize dn.length = n at *
          exact ⟨_, h', by
            simp (config := {maxSteps := 2000000}) (disch := first | omega | (simp only [List.length_cons, List.length_nil, List.length_append, List.length_drop]; omega)) only [L_purserref10_Pushes_0, t3, t5, c0, ↓s_len, x_lenS, ↓b_xor32, ↓b_and32, ↓b_or32, ↓u_not32, b_xor32, b_and32, b_or32, u_not32, w32ad, ↓x_conv, x_convV, ↓x_fieldAddr, x_fieldV, ↓s_nilchk, x_nilchk, Nat.zero_add, Nat.add_zero, Nat.mul_one, ↓l_loop, ↓l_succ, ↓l_normal, l_normal, l_exit, l_ret, l_iteN, ↓h_put_get, ↓h_new_get, ↓h_del_get, h_next_put, h_next_new, h_next_del, Nat.add_assoc, Nat.add_eq_left, Nat.left_eq_add, Nat.add_left_cancel_iff, ↓s_load, m_load, ↓m_load1, m_load1, ↓m_st, m_stE, m_storeI, m_storeE, w_zero, w_succ, ↓s_alloc, ↓x_idxA, ↓x_idxS, x_idxAE, x_idxSE, x_addrE, x_idx, x_lenS, ↓s_len, ↓x_buildS, x_buildE, ↓x_P0, ↓x_P1, x_fill0, x_filli, x_fills, x_fillb, c_int, List.length_cons, List.length_nil, List.cons_append, List.drop_succ_cons, List.drop_zero, List.drop_nil, List.nil_append, Int.reduceAdd, Int.reduceToNat, Int.reduceLT, Int.reduceLE, Nat.reduceAdd, Nat.reduceMul, Nat.reduceLeDiff, Int.reduceEq, Int.reduceSub, Int.cast_ofNat_Int, s_resc, s_consR, m_load4, m_store4, s_res0, ↓s_skip, ↓s_ops, ↓s_dops, ↓s_seq, ↓s_cond, ↓s_block, ↓s_exit, ↓s_ret, ↓s_scope, ↓s_nil, ↓s_op, ↓s_opg, ↓s_wanted', ↓s_wantV, s_wantV, s_wantV0, beq_true, beq_false, ↓s_bindS, s_bindS, ↓s_bindE, s_bindE, s_bindE_ret, s_bindE_exit, s_bindE_iteN, s_norm, ↓s_condV, s_condV, s_block_ret, s_block_normal, s_block_exit, s_block_iteN, ↓s_getp, ↓s_getp0, ↓s_get, s_get0, ↓s_con, ↓s_fn, ↓s_os0, ↓s_os1, ↓s_list0, ↓s_list1, ↓s_mov, ↓s_pick, ↓s_pickE, s_pickE, ↓s_bin, ↓s_un, ↓s_minmax, ↓s_call, ↓s_callv, ↓s_callV, ↓s_ext, s_same, b_eql, b_neq, b_lss, b_leq, b_gtr, b_geq, b_add, b_sub, b_mul, b_eqlb, b_neqb, b_fnil, b_fnil', b_fnil2, b_fnil2', u_neg, u_not, m_two, s_end, s_end', s_end_iteN, s_res0, s_res1, s_tup1, s_tup2, ↓iteN_true, ↓iteN_false, iteN_true, iteN_false, Nat.zero_add, List.nil_append, List.append_nil, Nat.reduceEqDiff, reduceIte, decide_true, decide_false, Bool.not_true, Bool.not_false, List.getElem?_cons_zero, List.getElem?_cons_succ, Bool.false_eq_true, if_true, if_false, beq_self_eq_true]
            exact rfl, kp⟩) dn.length 0 (by omega) (M + 2) (by omega) T h1 I
        rw [rr]
        refine ⟨h', ?_, k1.trans kp⟩
        simp (config := {maxSteps := 2000000}) (disch := first | omega | (simp only [List.length_cons, List.length_nil, List.length_append, List.length_drop]; omega)) only [R_purserref10_Pushes_0, ↓b_xor32, ↓b_and32, ↓b_or32, ↓u_not32, b_xor32, b_and32, b_or32, u_not32, w32ad, ↓x_conv, x_convV, ↓x_fieldAddr, x_fieldV, ↓s_nilchk, x_nilchk, Nat.zero_add, Nat.add_zero, Nat.mul_one, ↓l_loop, ↓l_succ, ↓l_normal, l_normal, l_exit, l_ret, l_iteN, ↓h_put_get, ↓h_new_get, ↓h_del_get, h_next_put, h_next_new, h_next_del, Nat.add_assoc, Nat.add_eq_left, Nat.left_eq_add, Nat.add_left_cancel_iff, ↓s_load, m_load, ↓m_load1, m_load1, ↓m_st, m_stE, m_storeI, m_storeE, w_zero, w_succ, ↓s_alloc, ↓x_idxA, ↓x_idxS, x_idxAE, x_idxSE, x_addrE, x_idx, x_lenS, ↓s_len, ↓x_buildS, x_buildE, ↓x_P0, ↓x_P1, x_fill0, x_filli, x_fills, x_fillb, c_int, List.length_cons, List.length_nil, List.cons_append, List.drop_succ_cons, List.drop_zero, List.drop_nil, List.nil_append, Int.reduceAdd, Int.reduceToNat, Int.reduceLT, Int.reduceLE, Nat.reduceAdd, Nat.reduceMul, Nat.reduceLeDiff, Int.reduceEq, Int.reduceSub, Int.cast_ofNat_Int, s_resc, s_consR, m_load4, m_store4, s_res0, ↓s_skip, ↓s_ops, ↓s_dops, ↓s_seq, ↓s_cond, ↓s_block, ↓s_exit, ↓s_ret, ↓s_scope, ↓s_nil, ↓s_op, ↓s_opg, ↓s_wanted', ↓s_wantV, s_wantV, s_wantV0, beq_true, beq_false, ↓s_bindS, s_bindS, ↓s_bindE, s_bindE, s_bindE_ret, s_bindE_exit, s_bindE_iteN, s_norm, ↓s_condV, s_condV, s_block_ret, s_block_normal, s_block_exit, s_block_iteN, ↓s_getp, ↓s_getp0, ↓s_get, s_get0, ↓s_con, ↓s_fn, ↓s_os0, ↓s_os1, ↓s_list0, ↓s_list1, ↓s_mov, ↓s_pick, ↓s_pickE, s_pickE, ↓s_bin, ↓s_un, ↓s_minmax, ↓s_call, ↓s_callv, ↓s_callV, ↓s_ext, s_same, b_eql, b_neq, b_lss, b_leq, b_gtr, b_geq, b_add, b_sub, b_mul, b_eqlb, b_neqb, b_fnil, b_fnil', b_fnil2, b_fnil2', u_neg, u_not, m_two, s_end, s_end', s_end_iteN, s_res0, s_res1, s_tup1, s_tup2, ↓iteN_true, ↓iteN_false, iteN_true, iteN_false, Nat.zero_add, List.nil_append, List.append_nil, Nat.reduceEqDiff, reduceIte, decide_true, decide_false, Bool.not_true, Bool.not_false, List.getElem?_cons_zero, List.getElem?_cons_succ, Bool.false_eq_true, if_true, if_false, beq_self_eq_true]
        try rfl
      · rw [decide_eq_false (fun h => by have := h o (List.mem_of_getElem? ho); rw [vo] at this; cases this)]
        have hj : j < dn.length := (List.getElem?_eq_some_iff.1 ho).1
        obtain ⟨T', h', rr, u2, kp⟩ := loop_go (f := evC (callX E X (M + 2)) 31 (M + 2) none L_purserref10_Pushes_0) (fun i T h => RuI (.slice ar dn.length cr er) h1 i T h) j .ret (by intro h; cases h) (fun T h' => evO T (.t 2) = .bool false ∧ Kp h1 h') (fun i T h' hi I => by
          obtain ⟨o', ho'⟩ : ∃ o, dn[i]? = some o := ⟨_, List.getElem?_eq_getElem (by omega)⟩
          obtain ⟨T', h2, q, _⟩ := ru_step e x M (M + 2) dn (by omega) (fun o ho => ⟨(okd o ho).1, by have := (okd o ho).2; omega⟩) ar cr er h1 row1.row i o' ho' T h' I
          exact ⟨T', h2, q (hb i o' hi ho')⟩) (fun T h' I => by
          obtain ⟨T', h2, _, q⟩ := ru_step e x M (M + 2) dn (by omega) (fun o ho => ⟨(okd o ho).1, by have := (okd o ho).2; omega⟩) ar cr er h1 row1.row j o ho T h' I
          obtain ⟨q1, q2, q3⟩ := q vo
          exact ⟨T', h2, q1, q2, q3⟩) j 0 (by omega) (M + 2) (by omega) T h1 I
        rw [rr]
        refine ⟨h', ?_, k1.trans kp⟩
        simp (config := {maxSteps := 2000000}) (disch := first | omega | (simp only [List.length_cons, List.length_nil, List.length_append, List.length_drop]; omega)) only [u2, ↓b_xor32, ↓b_and32, ↓b_or32, ↓u_not32, b_xor32, b_and32, b_or32, u_not32, w32ad, ↓x_conv, x_convV, ↓x_fieldAddr, x_fieldV, ↓s_nilchk, x_nilchk, Nat.zero_add, Nat.add_zero, Nat.mul_one, ↓l_loop, ↓l_succ, ↓l_normal, l_normal, l_exit, l_ret, l_iteN, ↓h_put_get, ↓h_new_get, ↓h_del_get, h_next_put, h_next_new, h_next_del, Nat.add_assoc, Nat.add_eq_left, Nat.left_eq_add, Nat.add_left_cancel_iff, ↓s_load, m_load, ↓m_load1, m_load1, ↓m_st, m_stE, m_storeI, m_storeE, w_zero, w_succ, ↓s_alloc, ↓x_idxA, ↓x_idxS, x_idxAE, x_idxSE, x_addrE, x_idx, x_lenS, ↓s_len, ↓x_buildS, x_buildE, ↓x_P0, ↓x_P1, x_fill0, x_filli, x_fills, x_fillb, c_int, List.length_cons, List.length_nil, List.cons_append, List.drop_succ_cons, List.drop_zero, List.drop_nil, List.nil_append, Int.reduceAdd, Int.reduceToNat, Int.reduceLT, Int.reduceLE, Nat.reduceAdd, Nat.reduceMul, Nat.reduceLeDiff, Int.reduceEq, Int.reduceSub, Int.cast_ofNat_Int, s_resc, s_consR, m_load4, m_store4, s_res0, ↓s_skip, ↓s_ops, ↓s_dops, ↓s_seq, ↓s_cond, ↓s_block, ↓s_exit, ↓s_ret, ↓s_scope, ↓s_nil, ↓s_op, ↓s_opg, ↓s_wanted', ↓s_wantV, s_wantV, s_wantV0, beq_true, beq_false, ↓s_bindS, s_bindS, ↓s_bindE, s_bindE, s_bindE_ret, s_bindE_exit, s_bindE_iteN, s_norm, ↓s_condV, s_condV, s_block_ret, s_block_normal, s_block_exit, s_block_iteN, ↓s_getp, ↓s_getp0, ↓s_get, s_get0, ↓s_con, ↓s_fn, ↓s_os0, ↓s_os1, ↓s_list0, ↓s_list1, ↓s_mov, ↓s_pick, ↓s_pickE, s_pickE, ↓s_bin, ↓s_un, ↓s_minmax, ↓s_call, ↓s_callv, ↓s_callV, ↓s_ext, s_same, b_eql, b_neq, b_lss, b_leq, b_gtr, b_geq, b_add, b_sub, b_mul, b_eqlb, b_neqb, b_fnil, b_fnil', b_fnil2, b_fnil2', u_neg, u_not, m_two, s_end, s_end', s_end_iteN, s_res0, s_res1, s_tup1, s_tup2, ↓iteN_true, ↓iteN_false, iteN_true, iteN_false, Nat.zero_add, List.nil_append, List.append_nil, Nat.reduceEqDiff, reduceIte, decide_true, decide_false, Bool.not_true, Bool.not_false, List.getElem?_cons_zero, List.getElem?_cons_succ, Bool.false_eq_true, if_true, if_false, beq_self_eq_true]
        try rfl
    obtain ⟨R, eR⟩ : ∃ R, R_purserref10_Pushes_0 = R := ⟨_, rfl⟩
    obtain ⟨Lo, eL⟩ : ∃ R, L_purserref10_Pushes_0 = R := ⟨_, rfl⟩
    rw [eR, eL] at fin ⊢
    obtain ⟨n, en⟩ : ∃ n, dn.length = n := ⟨_, rfl⟩
    obtain ⟨sl, esl⟩ : ∃ n, s.length = n := ⟨_, rfl⟩
    rw [en] at r1 fin
    rw [esl] at r1 ⊢
    simp (config := {maxSteps := 2000000}) (disch := first | omega | (simp only [List.length_cons, List.length_nil, List.length_append, List.length_drop]; omega)) only [r1, z0, Bool.not_true, ↓b_xor32, ↓b_and32, ↓b_or32, ↓u_not32, b_xor32, b_and32, b_or32, u_not32, w32ad, ↓x_conv, x_convV, ↓x_fieldAddr, x_fieldV, ↓s_nilchk, x_nilchk, Nat.zero_add, Nat.add_zero, Nat.mul_one, ↓l_loop, ↓l_succ, ↓l_normal, l_normal, l_exit, l_ret, l_iteN, ↓h_put_get, ↓h_new_get, ↓h_del_get, h_next_put, h_next_new, h_next_del, Nat.add_assoc, Nat.add_eq_left, Nat.left_eq_add, Nat.add_left_cancel_iff, ↓s_load, m_load, ↓m_load1, m_load1, ↓m_st, m_stE, m_storeI, m_storeE, w_zero, w_succ, ↓s_alloc, ↓x_idxA, ↓x_idxS, x_idxAE, x_idxSE, x_addrE, x_idx, x_lenS, ↓s_len, ↓x_buildS, x_buildE, ↓x_P0, ↓x_P1, x_fill0, x_filli, x_fills, x_fillb, c_int, List.length_cons, List.length_nil, List.cons_append, List.drop_succ_cons, List.drop_zero, List.drop_nil, List.nil_append, Int.reduceAdd, Int.reduceToNat, Int.reduceLT, Int.reduceLE, Nat.reduceAdd, Nat.reduceMul, Nat.reduceLeDiff, Int.reduceEq, Int.reduceSub, Int.cast_ofNat_Int, s_resc, s_consR, m_load4, m_store4, s_res0, ↓s_skip, ↓s_ops, ↓s_dops, ↓s_seq, ↓s_cond, ↓s_block, ↓s_exit, ↓s_ret, ↓s_scope, ↓s_nil, ↓s_op, ↓s_opg, ↓s_wanted', ↓s_wantV, s_wantV, s_wantV0, beq_true, beq_false, ↓s_bindS, s_bindS, ↓s_bindE, s_bindE, s_bindE_ret, s_bindE_exit, s_bindE_iteN, s_norm, ↓s_condV, s_condV, s_block_ret, s_block_normal, s_block_exit, s_block_iteN, ↓s_getp, ↓s_getp0, ↓s_get, s_get0, ↓s_con, ↓s_fn, ↓s_os0, ↓s_os1, ↓s_list0, ↓s_list1, ↓s_mov, ↓s_pick, ↓s_pickE, s_pickE, ↓s_bin, ↓s_un, ↓s_minmax, ↓s_call, ↓s_callv, ↓s_callV, ↓s_ext, s_same, b_eql, b_neq, b_lss, b_leq, b_gtr, b_geq, b_add, b_sub, b_mul, b_eqlb, b_neqb, b_fnil, b_fnil', b_fnil2, b_fnil2', u_neg, u_not, m_two, s_end, s_end', s_end_iteN, s_res0, s_res1, s_tup1, s_tup2, ↓iteN_true, ↓iteN_false, iteN_true, iteN_false, Nat.zero_add, List.nil_append, List.append_nil, Nat.reduceEqDiff, reduceIte, decide_true, decide_false, Bool.not_true, Bool.not_false, List.getElem?_cons_zero, List.getElem?_cons_succ, Bool.false_eq_true, if_true, if_false, beq_self_eq_true]
    exact fin _ ⟨(by (simp only [s_getp, s_getp0, Nat.reduceEqDiff, decide_false, decide_true, iteN_false, iteN_true, z0]; try rfl)), (by (simp only [s_getp, s_getp0, Nat.reduceEqDiff, decide_false, decide_true, iteN_false, iteN_true, z0]; try rfl)), Kp.refl _⟩
def bnV (s : List Nat) : Bool := decide (520 < s.length) || (decide (0 < s.length) && decide (s.getD 0 0 = 106))
theorem burnt_go2 (eb : E k_ops_Burnt = some f_ops_Burnt) (xb : ∀ a h, X (.fn k_ops_Burnt) a h = none) (er : E k_purserref10_Burnt = some f_purserref10_Burnt) (xr : ∀ a h, X (.fn k_purserref10_Burnt) a h = none) (N : Nat) (s : List Nat) (hs : s.length ≤ 1000000) (a : Option (Nat × Nat)) (c : Option Nat) (ez : Nat) (h : H) (src : SrcH h a ez s) :
    callX E X (N + 1) (.fn k_ops_Burnt) [.slice a s.length c ez] h = some (.bool (bnV s), h) ∧ callX E X (N + 1) (.fn k_purserref10_Burnt) [.slice a s.length c ez] h = some (.bool (bnV s), h) := by
  rw [x_cfn eb _ _ (Nat.le_of_ble_eq_true rfl) (xb _ _), x_cfn er _ _ (Nat.le_of_ble_eq_true rfl) (xr _ _)]
  unfold bnV
  by_cases c1 : 520 < s.length
  · have d1 : decide ((520 : Int) < (s.length : Int)) = true := decide_eq_true (by omega)
    rw [decide_eq_true c1, Bool.true_or]
    generalize s.length = n at *
    constructor
    · simp (config := {maxSteps := 2000000}) (disch := first | omega | (simp only [List.length_cons, List.length_nil, List.length_append, List.length_drop]; omega)) only [d1, ↓s_len, x_lenS, ↓b_xor32, ↓b_and32, ↓b_or32, ↓u_not32, b_xor32, b_and32, b_or32, u_not32, w32ad, ↓x_conv, x_convV, ↓x_fieldAddr, x_fieldV, ↓s_nilchk, x_nilchk, Nat.zero_add, Nat.add_zero, Nat.mul_one, ↓s_evD, ↓s_dnil, ↓s_dL, ↓s_dLg, ↓s_dR, ↓s_dRg, ↓s_dRj, ↓s_dRjg, ↓s_dB, ↓s_dBg, ↓s_dAlloc, ↓s_bindD, s_bindD, s_finD, s_finDx, s_addP0, s_addP1, s_addB, s_lookP, ↓s_bump0, ↓s_bump_get, s_bump_next, s_ok0, ↓s_ok1, s_okR0, ↓s_okR1, ↓s_okE, s_okE, s_okE1, s_nth0, s_nthS, Nat.add_zero, Bool.and_self, Bool.and_true, Bool.true_and, ↓l_loop, ↓l_succ, ↓l_normal, l_normal, l_exit, l_ret, l_iteN, ↓h_put_get, ↓h_new_get, ↓h_del_get, h_next_put, h_next_new, h_next_del, Nat.add_assoc, Nat.add_eq_left, Nat.left_eq_add, Nat.add_left_cancel_iff, ↓s_load, m_load, ↓m_load1, m_load1, ↓m_st, m_stE, m_storeI, m_storeE, w_zero, w_succ, ↓s_alloc, ↓x_idxA, ↓x_idxS, x_idxAE, x_idxSE, x_addrE, x_idx, x_lenS, ↓s_len, ↓x_buildS, x_buildE, ↓x_P0, ↓x_P1, x_fill0, x_filli, x_fills, x_fillb, c_int, List.length_cons, List.length_nil, List.cons_append, List.drop_succ_cons, List.drop_zero, List.drop_nil, List.nil_append, Int.reduceAdd, Int.reduceToNat, Int.reduceLT, Int.reduceLE, Nat.reduceAdd, Nat.reduceMul, Nat.reduceLeDiff, Int.reduceEq, Int.reduceSub, Int.cast_ofNat_Int, s_resc, s_consR, m_load4, m_store4, s_res0, ↓s_skip, ↓s_ops, ↓s_dops, ↓s_seq, ↓s_cond, ↓s_block, ↓s_exit, ↓s_ret, ↓s_scope, ↓s_nil, ↓s_op, ↓s_opg, ↓s_wanted', ↓s_wantV, s_wantV, s_wantV0, beq_true, beq_false, ↓s_bindS, s_bindS, ↓s_bindE, s_bindE, s_bindE_ret, s_bindE_exit, s_bindE_iteN, s_norm, ↓s_condV, s_condV, s_block_ret, s_block_normal, s_block_exit, s_block_iteN, ↓s_getp, ↓s_getp0, ↓s_get, s_get0, ↓s_con, ↓s_fn, ↓s_os0, ↓s_os1, ↓s_list0, ↓s_list1, ↓s_mov, ↓s_pick, ↓s_pickE, s_pickE, ↓s_bin, ↓s_un, ↓s_minmax, ↓s_call, ↓s_callv, ↓s_callV, ↓s_ext, s_same, b_eql, b_neq, b_lss, b_leq, b_gtr, b_geq, b_add, b_sub, b_mul, b_eqlb, b_neqb, b_fnil, b_fnil', b_fnil2, b_fnil2', u_neg, u_not, m_two, s_end, s_end', s_end_iteN, s_res0, s_res1, s_tup1, s_tup2, ↓iteN_true, ↓iteN_false, iteN_true, iteN_false, Nat.zero_add, List.nil_append, List.append_nil, Nat.reduceEqDiff, reduceIte, decide_true, decide_false, Bool.not_true, Bool.not_false, List.getElem?_cons_zero, List.getElem?_cons_succ, Bool.false_eq_true, if_true, if_false, beq_self_eq_true]
    · simp (config := {maxSteps := 2000000}) (disch := first | omega | (simp only [List.length_cons, List.length_nil, List.length_append, List.length_drop]; omega)) only [d1, ↓s_len, x_lenS, ↓b_xor32, ↓b_and32, ↓b_or32, ↓u_not32, b_xor32, b_and32, b_or32, u_not32, w32ad, ↓x_conv, x_convV, ↓x_fieldAddr, x_fieldV, ↓s_nilchk, x_nilchk, Nat.zero_add, Nat.add_zero, Nat.mul_one, ↓s_evD, ↓s_dnil, ↓s_dL, ↓s_dLg, ↓s_dR, ↓s_dRg, ↓s_dRj, ↓s_dRjg, ↓s_dB, ↓s_dBg, ↓s_dAlloc, ↓s_bindD, s_bindD, s_finD, s_finDx, s_addP0, s_addP1, s_addB, s_lookP, ↓s_bump0, ↓s_bump_get, s_bump_next, s_ok0, ↓s_ok1, s_okR0, ↓s_okR1, ↓s_okE, s_okE, s_okE1, s_nth0, s_nthS, Nat.add_zero, Bool.and_self, Bool.and_true, Bool.true_and, ↓l_loop, ↓l_succ, ↓l_normal, l_normal, l_exit, l_ret, l_iteN, ↓h_put_get, ↓h_new_get, ↓h_del_get, h_next_put, h_next_new, h_next_del, Nat.add_assoc, Nat.add_eq_left, Nat.left_eq_add, Nat.add_left_cancel_iff, ↓s_load, m_load, ↓m_load1, m_load1, ↓m_st, m_stE, m_storeI, m_storeE, w_zero, w_succ, ↓s_alloc, ↓x_idxA, ↓x_idxS, x_idxAE, x_idxSE, x_addrE, x_idx, x_lenS, ↓s_len, ↓x_buildS, x_buildE, ↓x_P0, ↓x_P1, x_fill0, x_filli, x_fills, x_fillb, c_int, List.length_cons, List.length_nil, List.cons_append, List.drop_succ_cons, List.drop_zero, List.drop_nil, List.nil_append, Int.reduceAdd, Int.reduceToNat, Int.reduceLT, Int.reduceLE, Nat.reduceAdd, Nat.reduceMul, Nat.reduceLeDiff, Int.reduceEq, Int.reduceSub, Int.cast_ofNat_Int, s_resc, s_consR, m_load4, m_store4, s_res0, ↓s_skip, ↓s_ops, ↓s_dops, ↓s_seq, ↓s_cond, ↓s_block, ↓s_exit, ↓s_ret, ↓s_scope, ↓s_nil, ↓s_op, ↓s_opg, ↓s_wanted', ↓s_wantV, s_wantV, s_wantV0, beq_true, beq_false, ↓s_bindS, s_bindS, ↓s_bindE, s_bindE, s_bindE_ret, s_bindE_exit, s_bindE_iteN, s_norm, ↓s_condV, s_condV, s_block_ret, s_block_normal, s_block_exit, s_block_iteN, ↓s_getp, ↓s_getp0, ↓s_get, s_get0, ↓s_con, ↓s_fn, ↓s_os0, ↓s_os1, ↓s_list0, ↓s_list1, ↓s_mov, ↓s_pick, ↓s_pickE, s_pickE, ↓s_bin, ↓s_un, ↓s_minmax, ↓s_call, ↓s_callv, ↓s_callV, ↓s_ext, s_same, b_eql, b_neq, b_lss, b_leq, b_gtr, b_geq, b_add, b_sub, b_mul, b_eqlb, b_neqb, b_fnil, b_fnil', b_fnil2, b_fnil2', u_neg, u_not, m_two, s_end, s_end', s_end_iteN, s_res0, s_res1, s_tup1, s_tup2, ↓iteN_true, ↓iteN_false, iteN_true, iteN_false, Nat.zero_add, List.nil_append, List.append_nil, Nat.reduceEqDiff, reduceIte, decide_true, decide_false, Bool.not_true, Bool.not_false, List.getElem?_cons_zero, List.getElem?_cons_succ, Bool.false_eq_true, if_true, if_false, beq_self_eq_true]
  · have d1 : decide ((520 : Int) < (s.length : Int)) = false := decide_eq_false (by omega)
    rw [decide_eq_false c1, Bool.false_or]
    by_cases c2 : s = []
    · subst c2
      have d2 : decide ((0 : Int) < ((0 : Nat) : Int)) = false := rfl
      have d1' : decide ((520 : Int) < ((0 : Nat) : Int)) = false := rfl
      rw [List.length_nil]
      show _ = some (V.bool false, h) ∧ _ = some (V.bool false, h)
      constructor
      · simp (config := {maxSteps := 2000000}) (disch := first | omega | (simp only [List.length_cons, List.length_nil, List.length_append, List.length_drop]; omega)) only [d1', d2, ↓s_len, x_lenS, ↓b_xor32, ↓b_and32, ↓b_or32, ↓u_not32, b_xor32, b_and32, b_or32, u_not32, w32ad, ↓x_conv, x_convV, ↓x_fieldAddr, x_fieldV, ↓s_nilchk, x_nilchk, Nat.zero_add, Nat.add_zero, Nat.mul_one, ↓s_evD, ↓s_dnil, ↓s_dL, ↓s_dLg, ↓s_dR, ↓s_dRg, ↓s_dRj, ↓s_dRjg, ↓s_dB, ↓s_dBg, ↓s_dAlloc, ↓s_bindD, s_bindD, s_finD, s_finDx, s_addP0, s_addP1, s_addB, s_lookP, ↓s_bump0, ↓s_bump_get, s_bump_next, s_ok0, ↓s_ok1, s_okR0, ↓s_okR1, ↓s_okE, s_okE, s_okE1, s_nth0, s_nthS, Nat.add_zero, Bool.and_self, Bool.and_true, Bool.true_and, ↓l_loop, ↓l_succ, ↓l_normal, l_normal, l_exit, l_ret, l_iteN, ↓h_put_get, ↓h_new_get, ↓h_del_get, h_next_put, h_next_new, h_next_del, Nat.add_assoc, Nat.add_eq_left, Nat.left_eq_add, Nat.add_left_cancel_iff, ↓s_load, m_load, ↓m_load1, m_load1, ↓m_st, m_stE, m_storeI, m_storeE, w_zero, w_succ, ↓s_alloc, ↓x_idxA, ↓x_idxS, x_idxAE, x_idxSE, x_addrE, x_idx, x_lenS, ↓s_len, ↓x_buildS, x_buildE, ↓x_P0, ↓x_P1, x_fill0, x_filli, x_fills, x_fillb, c_int, List.length_cons, List.length_nil, List.cons_append, List.drop_succ_cons, List.drop_zero, List.drop_nil, List.nil_append, Int.reduceAdd, Int.reduceToNat, Int.reduceLT, Int.reduceLE, Nat.reduceAdd, Nat.reduceMul, Nat.reduceLeDiff, Int.reduceEq, Int.reduceSub, Int.cast_ofNat_Int, s_resc, s_consR, m_load4, m_store4, s_res0, ↓s_skip, ↓s_ops, ↓s_dops, ↓s_seq, ↓s_cond, ↓s_block, ↓s_exit, ↓s_ret, ↓s_scope, ↓s_nil, ↓s_op, ↓s_opg, ↓s_wanted', ↓s_wantV, s_wantV, s_wantV0, beq_true, beq_false, ↓s_bindS, s_bindS, ↓s_bindE, s_bindE, s_bindE_ret, s_bindE_exit, s_bindE_iteN, s_norm, ↓s_condV, s_condV, s_block_ret, s_block_normal, s_block_exit, s_block_iteN, ↓s_getp, ↓s_getp0, ↓s_get, s_get0, ↓s_con, ↓s_fn, ↓s_os0, ↓s_os1, ↓s_list0, ↓s_list1, ↓s_mov, ↓s_pick, ↓s_pickE, s_pickE, ↓s_bin, ↓s_un, ↓s_minmax, ↓s_call, ↓s_callv, ↓s_callV, ↓s_ext, s_same, b_eql, b_neq, b_lss, b_leq, b_gtr, b_geq, b_add, b_sub, b_mul, b_eqlb, b_neqb, b_fnil, b_fnil', b_fnil2, b_fnil2', u_neg, u_not, m_two, s_end, s_end', s_end_iteN, s_res0, s_res1, s_tup1, s_tup2, ↓iteN_true, ↓iteN_false, iteN_true, iteN_false, Nat.zero_add, List.nil_append, List.append_nil, Nat.reduceEqDiff, reduceIte, decide_true, decide_false, Bool.not_true, Bool.not_false, List.getElem?_cons_zero, List.getElem?_cons_succ, Bool.false_eq_true, if_true, if_false, beq_self_eq_true]
        try rfl
      · simp (config := {maxSteps := 2000000}) (disch := first | omega | (simp only [List.length_cons, List.length_nil, List.length_append, List.length_drop]; omega)) only [d1', d2, ↓s_len, x_lenS, ↓b_xor32, ↓b_and32, ↓b_or32, ↓u_not32, b_xor32, b_and32, b_or32, u_not32, w32ad, ↓x_conv, x_convV, ↓x_fieldAddr, x_fieldV, ↓s_nilchk, x_nilchk, Nat.zero_add, Nat.add_zero, Nat.mul_one, ↓s_evD, ↓s_dnil, ↓s_dL, ↓s_dLg, ↓s_dR, ↓s_dRg, ↓s_dRj, ↓s_dRjg, ↓s_dB, ↓s_dBg, ↓s_dAlloc, ↓s_bindD, s_bindD, s_finD, s_finDx, s_addP0, s_addP1, s_addB, s_lookP, ↓s_bump0, ↓s_bump_get, s_bump_next, s_ok0, ↓s_ok1, s_okR0, ↓s_okR1, ↓s_okE, s_okE, s_okE1, s_nth0, s_nthS, Nat.add_zero, Bool.and_self, Bool.and_true, Bool.true_and, ↓l_loop, ↓l_succ, ↓l_normal, l_normal, l_exit, l_ret, l_iteN, ↓h_put_get, ↓h_new_get, ↓h_del_get, h_next_put, h_next_new, h_next_del, Nat.add_assoc, Nat.add_eq_left, Nat.left_eq_add, Nat.add_left_cancel_iff, ↓s_load, m_load, ↓m_load1, m_load1, ↓m_st, m_stE, m_storeI, m_storeE, w_zero, w_succ, ↓s_alloc, ↓x_idxA, ↓x_idxS, x_idxAE, x_idxSE, x_addrE, x_idx, x_lenS, ↓s_len, ↓x_buildS, x_buildE, ↓x_P0, ↓x_P1, x_fill0, x_filli, x_fills, x_fillb, c_int, List.length_cons, List.length_nil, List.cons_append, List.drop_succ_cons, List.drop_zero, List.drop_nil, List.nil_append, Int.reduceAdd, Int.reduceToNat, Int.reduceLT, Int.reduceLE, Nat.reduceAdd, Nat.reduceMul, Nat.reduceLeDiff, Int.reduceEq, Int.reduceSub, Int.cast_ofNat_Int, s_resc, s_consR, m_load4, m_store4, s_res0, ↓s_skip, ↓s_ops, ↓s_dops, ↓s_seq, ↓s_cond, ↓s_block, ↓s_exit, ↓s_ret, ↓s_scope, ↓s_nil, ↓s_op, ↓s_opg, ↓s_wanted', ↓s_wantV, s_wantV, s_wantV0, beq_true, beq_false, ↓s_bindS, s_bindS, ↓s_bindE, s_bindE, s_bindE_ret, s_bindE_exit, s_bindE_iteN, s_norm, ↓s_condV, s_condV, s_block_ret, s_block_normal, s_block_exit, s_block_iteN, ↓s_getp, ↓s_getp0, ↓s_get, s_get0, ↓s_con, ↓s_fn, ↓s_os0, ↓s_os1, ↓s_list0, ↓s_list1, ↓s_mov, ↓s_pick, ↓s_pickE, s_pickE, ↓s_bin, ↓s_un, ↓s_minmax, ↓s_call, ↓s_callv, ↓s_callV, ↓s_ext, s_same, b_eql, b_neq, b_lss, b_leq, b_gtr, b_geq, b_add, b_sub, b_mul, b_eqlb, b_neqb, b_fnil, b_fnil', b_fnil2, b_fnil2', u_neg, u_not, m_two, s_end, s_end', s_end_iteN, s_res0, s_res1, s_tup1, s_tup2, ↓iteN_true, ↓iteN_false, iteN_true, iteN_false, Nat.zero_add, List.nil_append, List.append_nil, Nat.reduceEqDiff, reduceIte, decide_true, decide_false, Bool.not_true, Bool.not_false, List.getElem?_cons_zero, List.getElem?_cons_succ, Bool.false_eq_true, if_true, if_false, beq_self_eq_true]
        try rfl
    · have ln : 0 < s.length := List.length_pos_iff.2 c2
      obtain ⟨bi, off, vs, md, rfl, rfl, h3, h4, h5, h6⟩ := src.resolve_left c2
      have d2 : decide ((0 : Int) < (s.length : Int)) = true := decide_eq_true (by omega)
      have cg0 : vs[off]? = some (.int .u8 (s.getD 0 0 : Nat)) := src_at (h := h) (a := none) (bi := bi) h6 0 ln
      have ix0 : idx (0 : Int) s.length = some 0 := by
        have := idxn (i := 0) (L := s.length) ln
        exact this
      rw [decide_eq_true ln, Bool.true_and]
      obtain ⟨y, ey⟩ : ∃ y, s.getD 0 0 = y := ⟨_, rfl⟩
      rw [ey] at cg0 ⊢
      have d3 : decide ((y : Int) = 106) = decide (y = 106) := by rw [decide_eq_decide]; omega
      generalize decide (y = 106) = q at *
      generalize s.length = n at *
      constructor
      · simp (config := {maxSteps := 2000000}) (disch := first | omega | (simp only [List.length_cons, List.length_nil, List.length_append, List.length_drop]; omega)) only [d1, d2, d3, h4, cg0, ix0, ↓s_len, x_lenS, ↓b_xor32, ↓b_and32, ↓b_or32, ↓u_not32, b_xor32, b_and32, b_or32, u_not32, w32ad, ↓x_conv, x_convV, ↓x_fieldAddr, x_fieldV, ↓s_nilchk, x_nilchk, Nat.zero_add, Nat.add_zero, Nat.mul_one, ↓s_evD, ↓s_dnil, ↓s_dL, ↓s_dLg, ↓s_dR, ↓s_dRg, ↓s_dRj, ↓s_dRjg, ↓s_dB, ↓s_dBg, ↓s_dAlloc, ↓s_bindD, s_bindD, s_finD, s_finDx, s_addP0, s_addP1, s_addB, s_lookP, ↓s_bump0, ↓s_bump_get, s_bump_next, s_ok0, ↓s_ok1, s_okR0, ↓s_okR1, ↓s_okE, s_okE, s_okE1, s_nth0, s_nthS, Nat.add_zero, Bool.and_self, Bool.and_true, Bool.true_and, ↓l_loop, ↓l_succ, ↓l_normal, l_normal, l_exit, l_ret, l_iteN, ↓h_put_get, ↓h_new_get, ↓h_del_get, h_next_put, h_next_new, h_next_del, Nat.add_assoc, Nat.add_eq_left, Nat.left_eq_add, Nat.add_left_cancel_iff, ↓s_load, m_load, ↓m_load1, m_load1, ↓m_st, m_stE, m_storeI, m_storeE, w_zero, w_succ, ↓s_alloc, ↓x_idxA, ↓x_idxS, x_idxAE, x_idxSE, x_addrE, x_idx, x_lenS, ↓s_len, ↓x_buildS, x_buildE, ↓x_P0, ↓x_P1, x_fill0, x_filli, x_fills, x_fillb, c_int, List.length_cons, List.length_nil, List.cons_append, List.drop_succ_cons, List.drop_zero, List.drop_nil, List.nil_append, Int.reduceAdd, Int.reduceToNat, Int.reduceLT, Int.reduceLE, Nat.reduceAdd, Nat.reduceMul, Nat.reduceLeDiff, Int.reduceEq, Int.reduceSub, Int.cast_ofNat_Int, s_resc, s_consR, m_load4, m_store4, s_res0, ↓s_skip, ↓s_ops, ↓s_dops, ↓s_seq, ↓s_cond, ↓s_block, ↓s_exit, ↓s_ret, ↓s_scope, ↓s_nil, ↓s_op, ↓s_opg, ↓s_wanted', ↓s_wantV, s_wantV, s_wantV0, beq_true, beq_false, ↓s_bindS, s_bindS, ↓s_bindE, s_bindE, s_bindE_ret, s_bindE_exit, s_bindE_iteN, s_norm, ↓s_condV, s_condV, s_block_ret, s_block_normal, s_block_exit, s_block_iteN, ↓s_getp, ↓s_getp0, ↓s_get, s_get0, ↓s_con, ↓s_fn, ↓s_os0, ↓s_os1, ↓s_list0, ↓s_list1, ↓s_mov, ↓s_pick, ↓s_pickE, s_pickE, ↓s_bin, ↓s_un, ↓s_minmax, ↓s_call, ↓s_callv, ↓s_callV, ↓s_ext, s_same, b_eql, b_neq, b_lss, b_leq, b_gtr, b_geq, b_add, b_sub, b_mul, b_eqlb, b_neqb, b_fnil, b_fnil', b_fnil2, b_fnil2', u_neg, u_not, m_two, s_end, s_end', s_end_iteN, s_res0, s_res1, s_tup1, s_tup2, ↓iteN_true, ↓iteN_false, iteN_true, iteN_false, Nat.zero_add, List.nil_append, List.append_nil, Nat.reduceEqDiff, reduceIte, decide_true, decide_false, Bool.not_true, Bool.not_false, List.getElem?_cons_zero, List.getElem?_cons_succ, Bool.false_eq_true, if_true, if_false, beq_self_eq_true]
      · simp (config := {maxSteps := 2000000}) (disch := first | omega | (simp only [List.length_cons, List.length_nil, List.length_append, List.length_drop]; omega)) only [d1, d2, d3, h4, cg0, ix0, ↓s_len, x_lenS, ↓b_xor32, ↓b_and32, ↓b_or32, ↓u_not32, b_xor32, b_and32, b_or32, u_not32, w32ad, ↓x_conv, x_convV, ↓x_fieldAddr, x_fieldV, ↓s_nilchk, x_nilchk, Nat.zero_add, Nat.add_zero, Nat.mul_one, ↓s_evD, ↓s_dnil, ↓s_dL, ↓s_dLg, ↓s_dR, ↓s_dRg, ↓s_dRj, ↓s_dRjg, ↓s_dB, ↓s_dBg, ↓s_dAlloc, ↓s_bindD, s_bindD, s_finD, s_finDx, s_addP0, s_addP1, s_addB, s_lookP, ↓s_bump0, ↓s_bump_get, s_bump_next, s_ok0, ↓s_ok1, s_okR0, ↓s_okR1, ↓s_okE, s_okE, s_okE1, s_nth0, s_nthS, Nat.add_zero, Bool.and_self, Bool.and_true, Bool.true_and, ↓l_loop, ↓l_succ, ↓l_normal, l_normal, l_exit, l_ret, l_iteN, ↓h_put_get, ↓h_new_get, ↓h_del_get, h_next_put, h_next_new, h_next_del, Nat.add_assoc, Nat.add_eq_left, Nat.left_eq_add, Nat.add_left_cancel_iff, ↓s_load, m_load, ↓m_load1, m_load1, ↓m_st, m_stE, m_storeI, m_storeE, w_zero, w_succ, ↓s_alloc, ↓x_idxA, ↓x_idxS, x_idxAE, x_idxSE, x_addrE, x_idx, x_lenS, ↓s_len, ↓x_buildS, x_buildE, ↓x_P0, ↓x_P1, x_fill0, x_filli, x_fills, x_fillb, c_int, List.length_cons, List.length_nil, List.cons_append, List.drop_succ_cons, List.drop_zero, List.drop_nil, List.nil_append, Int.reduceAdd, Int.reduceToNat, Int.reduceLT, Int.reduceLE, Nat.reduceAdd, Nat.reduceMul, Nat.reduceLeDiff, Int.reduceEq, Int.reduceSub, Int.cast_ofNat_Int, s_resc, s_consR, m_load4, m_store4, s_res0, ↓s_skip, ↓s_ops, ↓s_dops, ↓s_seq, ↓s_cond, ↓s_block, ↓s_exit, ↓s_ret, ↓s_scope, ↓s_nil, ↓s_op, ↓s_opg, ↓s_wanted', ↓s_wantV, s_wantV, s_wantV0, beq_true, beq_false, ↓s_bindS, s_bindS, ↓s_bindE, s_bindE, s_bindE_ret, s_bindE_exit, s_bindE_iteN, s_norm, ↓s_condV, s_condV, s_block_ret, s_block_normal, s_block_exit, s_block_iteN, ↓s_getp, ↓s_getp0, ↓s_get, s_get0, ↓s_con, ↓s_fn, ↓s_os0, ↓s_os1, ↓s_list0, ↓s_list1, ↓s_mov, ↓s_pick, ↓s_pickE, s_pickE, ↓s_bin, ↓s_un, ↓s_minmax, ↓s_call, ↓s_callv, ↓s_callV, ↓s_ext, s_same, b_eql, b_neq, b_lss, b_leq, b_gtr, b_geq, b_add, b_sub, b_mul, b_eqlb, b_neqb, b_fnil, b_fnil', b_fnil2, b_fnil2', u_neg, u_not, m_two, s_end, s_end', s_end_iteN, s_res0, s_res1, s_tup1, s_tup2, ↓iteN_true, ↓iteN_false, iteN_true, iteN_false, Nat.zero_add, List.nil_append, List.append_nil, Nat.reduceEqDiff, reduceIte, decide_true, decide_false, Bool.not_true, Bool.not_false, List.getElem?_cons_zero, List.getElem?_cons_succ, Bool.false_eq_true, if_true, if_false, beq_self_eq_true]
end Go.Eng
namespace Go.Eng
open Go
variable {E : Nat → Option Fn} {X : Orc}
set_option linter.unusedSimpArgs false
set_option linter.unusedVariables false
/-- a row whose data may be written over: of each only how long it is -/
structure WrI (q : Nat) (vs : List V) (md : Md) (dn : List Oq) (lo : Nat) (h0 h : H) : Prop where
  gq : h.get q = some (.cells vs md)
  fr : ∀ j, j < lo → h.get j = h0.get j
  nx : h.next = h0.next
  dt : ∀ i o, dn[i]? = some o → ∃ b cb eb, vs[0 + (i * 2 + 1)]? = some (.slice b o.l.length cb eb) ∧ (o.l ≠ [] → ∃ d cur m', b = some (d, 0) ∧ eb = 1 ∧ h.get d = some (.cells (ofI .u8 cur) m') ∧ isRo m' = false ∧ o.l.length ≤ cur.length ∧ d ≠ q ∧ lo ≤ d)
theorem RowF.wr {lo : Nat} {h : H} {dn : List Oq} {a : Option (Nat × Nat)} {c : Option Nat} {e : Nat} (r : RowF lo h dn a c e) (hne : dn ≠ []) : ∃ q vs md, a = some (q, 0) ∧ c = none ∧ e = 2 ∧ lo ≤ q ∧ WrI q vs md dn lo h h := by
  rcases r with ⟨r, _⟩ | ⟨h1, q, md, ps, e1, e2, e3, g, al, hm, hq, hl⟩
  · exact absurd r hne
  · refine ⟨q, _, md, e1, e2, e3, hl, ⟨g, fun _ _ => rfl, rfl, fun i o ho => ?_⟩⟩
    obtain ⟨p, hp, b, cb, eb, rfl, s, d⟩ := al.get i o ho
    have h1 := flat_cell (k := 2) (al_len2 al) i _ hp 1 (by omega)
    refine ⟨b, cb, eb, by rw [Nat.zero_add]; exact h1, fun hne => ?_⟩
    rcases s with s | ⟨q', m', f1, f2, f3, f4, f5⟩
    · exact absurd s hne
    · obtain ⟨d1, d2⟩ := d hne q' 0 f1
      exact ⟨q', _, m', f1, f2, f3, f4, Nat.le_refl _, d2, d1⟩
theorem WrI.put {q : Nat} {vs : List V} {md : Md} {dn : List Oq} {lo : Nat} {h0 h : H} (w : WrI q vs md dn lo h0 h) (d : Nat) (cur cur' : List Nat) (m' : Md) (hd : d ≠ q) (hl : lo ≤ d) (g : h.get d = some (.cells (ofI .u8 cur) m')) (lc : cur'.length = cur.length) : WrI q vs md dn lo h0 (h.put d (.cells (ofI .u8 cur') m')) := by
  refine ⟨by rw [h_put_ne _ _ hd, w.gq], fun j hj => by rw [h_put_ne _ _ (by omega), w.fr j hj], w.nx, fun i o ho => ?_⟩
  obtain ⟨b, cb, eb, e1, e2⟩ := w.dt i o ho
  refine ⟨b, cb, eb, e1, fun hne => ?_⟩
  obtain ⟨d2, cur2, m2, f1, f2, f3, f4, f5, f6, f7⟩ := e2 hne
  by_cases hdd : d2 = d
  · subst hdd
    rw [g] at f3
    obtain ⟨h1, hm⟩ := Blk.cells.inj (Option.some.inj f3)
    have hcl : cur.length = cur2.length := by
      have := congrArg List.length h1
      rw [ofI_len, ofI_len] at this; exact this
    exact ⟨d2, cur', m', f1, f2, h_put_same _ _ _, by rw [hm]; exact f4, by omega, f6, f7⟩
  · exact ⟨d2, cur2, m2, f1, f2, by rw [h_put_ne _ _ (Ne.symm hdd), f3], f4, f5, f6, f7⟩
structure SiI (v va vo : V) (n i ol : Nat) (q : Nat) (vs : List V) (md : Md) (dn : List Oq) (lo : Nat) (h0 : H) (k : Nat) (T : Tr V) (h : H) : Prop where
  il : k ≤ ol
  t0 : evO T (.t 0) = va
  t3 : evO T (.t 3) = vo
  t4 : evO T (.t 4) = v
  t8 : evO T (.t 8) = .int .i64 (i : Int)
  t61 : evO T (.t 61) = .int .i64 (n : Int)
  t62 : evO T (.t 62) = .int .i64 (i : Int)
  t70 : evO T (.t 70) = .int .i64 (ol : Int)
  t71 : evO T (.t 71) = .int .i64 (k : Int)
  w : WrI q vs md dn lo h0 h
theorem si_step (Q : Orc) (m : Nat) (va vo : V) (q : Nat) (vs : List V) (md : Md) (dn : List Oq) (hd : dn.length ≤ 1000000) (lo : Nat) (h0 : H) (i : Nat) (o : Oq) (ho : dn[i]? = some o) (hol : o.l.length ≤ 1000000) :
    ∀ k T h, k < o.l.length → SiI (.slice (some (q, 0)) dn.length none 2) va vo dn.length i o.l.length q vs md dn lo h0 k T h → ∃ T' h', evC Q 92 m none L_purserlaw10_OpsSplit_0 ⟨T, [], h⟩ = some (.normal, ⟨T', [], h'⟩) ∧ SiI (.slice (some (q, 0)) dn.length none 2) va vo dn.length i o.l.length q vs md dn lo h0 (k + 1) T' h' := by
  intro k T h hk ⟨_, t0, t3, t4, t8, t61, t62, t70, t71, w⟩
  have hi : i < dn.length := (List.getElem?_eq_some_iff.1 ho).1
  have c0 : decide ((k : Int) < (o.l.length : Int)) = true := decide_eq_true (by omega)
  have wi : wr .i64 ((k : Int) + 1) = ((k + 1 : Nat) : Int) := by rw [wr_i64 (by omega)]; omega
  have ixi : idx (i : Int) dn.length = some i := idxn hi
  have ixk : idx (k : Int) o.l.length = some k := idxn hk
  obtain ⟨b, cb, eb, cg, dt⟩ := w.dt i o ho
  obtain ⟨d, cur, m', rfl, rfl, gd, hm, hlc, hdq, hld⟩ := dt (fun h => by rw [h] at hk; cases hk)
  have gq := w.gq
  have ck : (ofI .u8 cur)[0 + k]? = some (.int .u8 (cur.getD k 0 : Nat)) := by rw [Nat.zero_add]; exact ofI_get _ _ _ (by omega)
  have w8 : wr .u8 (((cur.getD k 0 : Nat) : Int) + 1) = (((cur.getD k 0 + 1) % 256 : Nat) : Int) := w8n (cur.getD k 0 + 1)
  generalize cur.getD k 0 = y at *
  generalize (y + 1) % 256 = y' at *
  have ste := fun (h : H) (v : V) => stAny .u8 cur [v] m' hm h d k (by simp only [List.length_cons, List.length_nil]; omega)
  have su := wr1I .u8 cur k y' (by omega)
  have k1 : k + 1 ≤ o.l.length := hk
  have wp := w.put d cur (cur.set k y') m' hdq hld gd (by rw [List.length_set])
  rw [Nat.zero_add] at cg ck
  obtain ⟨n, en⟩ : ∃ n, dn.length = n := ⟨_, rfl⟩
  obtain ⟨ol, eol⟩ : ∃ n, o.l.length = n := ⟨_, rfl⟩
  rw [en] at t4 t61 ixi
  rw [eol] at t70 c0 ixk cg
  exact ⟨_, _, by
    simp (config := {maxSteps := 2000000}) (disch := first | omega | (simp only [List.length_cons, List.length_nil, List.length_append, List.length_drop]; omega)) only [L_purserlaw10_OpsSplit_0, t0, t3, t4, t8, t61, t62, t70, t71, gq, gd, cg, ck, c0, wi, ixi, ixk, w8, ste, su, ↓s_len, x_lenS, ↓b_xor32, ↓b_and32, ↓b_or32, ↓u_not32, b_xor32, b_and32, b_or32, u_not32, w32ad, ↓x_conv, x_convV, ↓x_fieldAddr, x_fieldV, ↓s_nilchk, x_nilchk, Nat.zero_add, Nat.add_zero, Nat.mul_one, ↓l_loop, ↓l_succ, ↓l_normal, l_normal, l_exit, l_ret, l_iteN, ↓h_put_get, ↓h_new_get, ↓h_del_get, h_next_put, h_next_new, h_next_del, Nat.add_assoc, Nat.add_eq_left, Nat.left_eq_add, Nat.add_left_cancel_iff, ↓s_load, m_load, ↓m_load1, m_load1, ↓m_st, m_stE, m_storeI, w_zero, w_succ, ↓s_alloc, ↓x_idxA, ↓x_idxS, x_idxAE, x_idxSE, x_addrE, x_idx, x_lenS, ↓s_len, ↓x_buildS, x_buildE, ↓x_P0, ↓x_P1, x_fill0, x_filli, x_fills, x_fillb, c_int, List.length_cons, List.length_nil, List.cons_append, List.drop_succ_cons, List.drop_zero, List.drop_nil, List.nil_append, Int.reduceAdd, Int.reduceToNat, Int.reduceLT, Int.reduceLE, Nat.reduceAdd, Nat.reduceMul, Nat.reduceLeDiff, Int.reduceEq, Int.reduceSub, Int.cast_ofNat_Int, s_resc, s_consR, m_load4, m_store4, s_res0, ↓s_skip, ↓s_ops, ↓s_dops, ↓s_seq, ↓s_cond, ↓s_block, ↓s_exit, ↓s_ret, ↓s_scope, ↓s_nil, ↓s_op, ↓s_opg, ↓s_wanted', ↓s_wantV, s_wantV, s_wantV0, beq_true, beq_false, ↓s_bindS, s_bindS, ↓s_bindE, s_bindE, s_bindE_ret, s_bindE_exit, s_bindE_iteN, s_norm, ↓s_condV, s_condV, s_block_ret, s_block_normal, s_block_exit, s_block_iteN, ↓s_getp, ↓s_getp0, ↓s_get, s_get0, ↓s_con, ↓s_fn, ↓s_os0, ↓s_os1, ↓s_list0, ↓s_list1, ↓s_mov, ↓s_pick, ↓s_pickE, s_pickE, ↓s_bin, ↓s_un, ↓s_minmax, ↓s_call, ↓s_callv, ↓s_callV, ↓s_ext, s_same, b_eql, b_neq, b_lss, b_leq, b_gtr, b_geq, b_add, b_sub, b_mul, b_eqlb, b_neqb, b_fnil, b_fnil', b_fnil2, b_fnil2', u_neg, u_not, m_two, s_end, s_end', s_end_iteN, s_res0, s_res1, s_tup1, s_tup2, ↓iteN_true, ↓iteN_false, iteN_true, iteN_false, Nat.zero_add, List.nil_append, List.append_nil, Nat.reduceEqDiff, reduceIte, decide_true, decide_false, Bool.not_true, Bool.not_false, List.getElem?_cons_zero, List.getElem?_cons_succ, Bool.false_eq_true, if_true, if_false, beq_self_eq_true]
    exact rfl, ⟨k1, (by (simp only [s_getp, s_getp0, Nat.reduceEqDiff, decide_false, decide_true, iteN_false, iteN_true, t0]; try rfl)), (by (simp only [s_getp, s_getp0, Nat.reduceEqDiff, decide_false, decide_true, iteN_false, iteN_true, t3]; try rfl)), by rw [en]; exact (by (simp only [s_getp, s_getp0, Nat.reduceEqDiff, decide_false, decide_true, iteN_false, iteN_true, t4]; try rfl)), (by (simp only [s_getp, s_getp0, Nat.reduceEqDiff, decide_false, decide_true, iteN_false, iteN_true, t8]; try rfl)), by rw [en]; exact (by (simp only [s_getp, s_getp0, Nat.reduceEqDiff, decide_false, decide_true, iteN_false, iteN_true, t61]; try rfl)), (by (simp only [s_getp, s_getp0, Nat.reduceEqDiff, decide_false, decide_true, iteN_false, iteN_true, t62]; try rfl)), by rw [eol]; exact (by (simp only [s_getp, s_getp0, Nat.reduceEqDiff, decide_false, decide_true, iteN_false, iteN_true, t70]; try rfl)), (by (simp only [s_getp, s_getp0, Nat.reduceEqDiff, decide_false, decide_true, iteN_false, iteN_true, t71]; try rfl)), wp⟩⟩
structure SoI (v va vo : V) (n : Nat) (q : Nat) (vs : List V) (md : Md) (dn : List Oq) (lo : Nat) (h0 : H) (i : Nat) (T : Tr V) (h : H) : Prop where
  il : i ≤ n
  t0 : evO T (.t 0) = va
  t3 : evO T (.t 3) = vo
  t4 : evO T (.t 4) = v
  t61 : evO T (.t 61) = .int .i64 (n : Int)
  t62 : evO T (.t 62) = .int .i64 (i : Int)
  w : WrI q vs md dn lo h0 h
theorem so_step (Q : Orc) (m : Nat) (va vo : V) (q : Nat) (vs : List V) (md : Md) (dn : List Oq) (hd : dn.length ≤ 1000000) (lo : Nat) (h0 : H) (hol : ∀ o ∈ dn, o.l.length ≤ 1000000) (hm : ∀ o ∈ dn, o.l.length < m) :
    ∀ i T h, i < dn.length → SoI (.slice (some (q, 0)) dn.length none 2) va vo dn.length q vs md dn lo h0 i T h → ∃ T' h', evC Q 92 m none L_purserlaw10_OpsSplit_1 ⟨T, [], h⟩ = some (.normal, ⟨T', [], h'⟩) ∧ SoI (.slice (some (q, 0)) dn.length none 2) va vo dn.length q vs md dn lo h0 (i + 1) T' h' := by
  intro i T0 h hi ⟨_, t0, t3, t4, t61, t62, w⟩
  obtain ⟨o, ho⟩ : ∃ o, dn[i]? = some o := ⟨_, List.getElem?_eq_getElem hi⟩
  have om := List.mem_of_getElem? ho
  have c0 : decide ((i : Int) < (dn.length : Int)) = true := decide_eq_true (by omega)
  have wi : wr .i64 ((i : Int) + 1) = ((i + 1 : Nat) : Int) := by rw [wr_i64 (by omega)]; omega
  have ixi : idx (i : Int) dn.length = some i := idxn hi
  obtain ⟨b, cb, eb, cg, _⟩ := w.dt i o ho
  rw [Nat.zero_add] at cg
  have gq := w.gq
  have i1 : i + 1 ≤ dn.length := hi
  have fin : ∀ T, SiI (.slice (some (q, 0)) dn.length none 2) va vo dn.length i o.l.length q vs md dn lo h0 0 T h → ∃ T' h', bindE (blockE 1 (blockE 2 (loopN (evC Q 92 m none L_purserlaw10_OpsSplit_0) m ⟨T, [], h⟩))) (evC Q 92 m none R_purserlaw10_OpsSplit_0) = some (.normal, ⟨T', [], h'⟩) ∧ SoI (.slice (some (q, 0)) dn.length none 2) va vo dn.length q vs md dn lo h0 (i + 1) T' h' := by
    intro T I
    obtain ⟨T3, h3, rr, J⟩ := loop_go (f := evC Q 92 m none L_purserlaw10_OpsSplit_0) (SiI (.slice (some (q, 0)) dn.length none 2) va vo dn.length i o.l.length q vs md dn lo h0) o.l.length (.exit 2) (by intro h; cases h) (SiI (.slice (some (q, 0)) dn.length none 2) va vo dn.length i o.l.length q vs md dn lo h0 o.l.length) (si_step Q m va vo q vs md dn hd lo h0 i o ho (hol o om)) (fun T h' I => by
      obtain ⟨il, t0, t3, t4, t8, t61, t62, t70, t71, w⟩ := I
      have c0 : decide ((o.l.length : Int) < (o.l.length : Int)) = false := decide_eq_false (by omega)
      obtain ⟨n, en⟩ : ∃ n, dn.length = n := ⟨_, rfl⟩
      obtain ⟨ol, eol⟩ : ∃ n, o.l.length = n := ⟨_, rfl⟩
      rw [en] at t4 t61
      rw [eol] at t70 t71 c0
      exact ⟨_, _, by
        simp (config := {maxSteps := 2000000}) (disch := first | omega | (simp only [List.length_cons, List.length_nil, List.length_append, List.length_drop]; omega)) only [L_purserlaw10_OpsSplit_0, t70, t71, c0, ↓b_xor32, ↓b_and32, ↓b_or32, ↓u_not32, b_xor32, b_and32, b_or32, u_not32, w32ad, ↓x_conv, x_convV, ↓x_fieldAddr, x_fieldV, ↓s_nilchk, x_nilchk, Nat.zero_add, Nat.add_zero, Nat.mul_one, ↓l_loop, ↓l_succ, ↓l_normal, l_normal, l_exit, l_ret, l_iteN, ↓h_put_get, ↓h_new_get, ↓h_del_get, h_next_put, h_next_new, h_next_del, Nat.add_assoc, Nat.add_eq_left, Nat.left_eq_add, Nat.add_left_cancel_iff, ↓s_load, m_load, ↓m_load1, m_load1, ↓m_st, m_stE, m_storeI, m_storeE, w_zero, w_succ, ↓s_alloc, ↓x_idxA, ↓x_idxS, x_idxAE, x_idxSE, x_addrE, x_idx, x_lenS, ↓s_len, ↓x_buildS, x_buildE, ↓x_P0, ↓x_P1, x_fill0, x_filli, x_fills, x_fillb, c_int, List.length_cons, List.length_nil, List.cons_append, List.drop_succ_cons, List.drop_zero, List.drop_nil, List.nil_append, Int.reduceAdd, Int.reduceToNat, Int.reduceLT, Int.reduceLE, Nat.reduceAdd, Nat.reduceMul, Nat.reduceLeDiff, Int.reduceEq, Int.reduceSub, Int.cast_ofNat_Int, s_resc, s_consR, m_load4, m_store4, s_res0, ↓s_skip, ↓s_ops, ↓s_dops, ↓s_seq, ↓s_cond, ↓s_block, ↓s_exit, ↓s_ret, ↓s_scope, ↓s_nil, ↓s_op, ↓s_opg, ↓s_wanted', ↓s_wantV, s_wantV, s_wantV0, beq_true, beq_false, ↓s_bindS, s_bindS, ↓s_bindE, s_bindE, s_bindE_ret, s_bindE_exit, s_bindE_iteN, s_norm, ↓s_condV, s_condV, s_block_ret, s_block_normal, s_block_exit, s_block_iteN, ↓s_getp, ↓s_getp0, ↓s_get, s_get0, ↓s_con, ↓s_fn, ↓s_os0, ↓s_os1, ↓s_list0, ↓s_list1, ↓s_mov, ↓s_pick, ↓s_pickE, s_pickE, ↓s_bin, ↓s_un, ↓s_minmax, ↓s_call, ↓s_callv, ↓s_callV, ↓s_ext, s_same, b_eql, b_neq, b_lss, b_leq, b_gtr, b_geq, b_add, b_sub, b_mul, b_eqlb, b_neqb, b_fnil, b_fnil', b_fnil2, b_fnil2', u_neg, u_not, m_two, s_end, s_end', s_end_iteN, s_res0, s_res1, s_tup1, s_tup2, ↓iteN_true, ↓iteN_false, iteN_true, iteN_false, Nat.zero_add, List.nil_append, List.append_nil, Nat.reduceEqDiff, reduceIte, decide_true, decide_false, Bool.not_true, Bool.not_false, List.getElem?_cons_zero, List.getElem?_cons_succ, Bool.false_eq_true, if_true, if_false, beq_self_eq_true]
        exact rfl, ⟨il, (by (simp only [s_getp, s_getp0, Nat.reduceEqDiff, decide_false, decide_true, iteN_false, iteN_true, t0]; try rfl)), (by (simp only [s_getp, s_getp0, Nat.reduceEqDiff, decide_false, decide_true, iteN_false, iteN_true, t3]; try rfl)), by rw [en]; exact (by (simp only [s_getp, s_getp0, Nat.reduceEqDiff, decide_false, decide_true, iteN_false, iteN_true, t4]; try rfl)), (by (simp only [s_getp, s_getp0, Nat.reduceEqDiff, decide_false, decide_true, iteN_false, iteN_true, t8]; try rfl)), by rw [en]; exact (by (simp only [s_getp, s_getp0, Nat.reduceEqDiff, decide_false, decide_true, iteN_false, iteN_true, t61]; try rfl)), (by (simp only [s_getp, s_getp0, Nat.reduceEqDiff, decide_false, decide_true, iteN_false, iteN_true, t62]; try rfl)), by rw [eol]; exact (by (simp only [s_getp, s_getp0, Nat.reduceEqDiff, decide_false, decide_true, iteN_false, iteN_true, t70]; try rfl)), by rw [eol]; exact (by (simp only [s_getp, s_getp0, Nat.reduceEqDiff, decide_false, decide_true, iteN_false, iteN_true, t71]; try rfl)), w⟩⟩) o.l.length 0 (by omega) m (hm o om) T h I
    rw [rr]
    obtain ⟨_, t0, t3, t4, t8, t61, t62, t70, t71, w⟩ := J
    obtain ⟨n, en⟩ : ∃ n, dn.length = n := ⟨_, rfl⟩
    rw [en] at t4 t61
    exact ⟨_, h3, by
      simp (config := {maxSteps := 2000000}) (disch := first | omega | (simp only [List.length_cons, List.length_nil, List.length_append, List.length_drop]; omega)) only [R_purserlaw10_OpsSplit_0, t0, t3, t4, t61, t62, wi, ↓b_xor32, ↓b_and32, ↓b_or32, ↓u_not32, b_xor32, b_and32, b_or32, u_not32, w32ad, ↓x_conv, x_convV, ↓x_fieldAddr, x_fieldV, ↓s_nilchk, x_nilchk, Nat.zero_add, Nat.add_zero, Nat.mul_one, ↓l_loop, ↓l_succ, ↓l_normal, l_normal, l_exit, l_ret, l_iteN, ↓h_put_get, ↓h_new_get, ↓h_del_get, h_next_put, h_next_new, h_next_del, Nat.add_assoc, Nat.add_eq_left, Nat.left_eq_add, Nat.add_left_cancel_iff, ↓s_load, m_load, ↓m_load1, m_load1, ↓m_st, m_stE, m_storeI, m_storeE, w_zero, w_succ, ↓s_alloc, ↓x_idxA, ↓x_idxS, x_idxAE, x_idxSE, x_addrE, x_idx, x_lenS, ↓s_len, ↓x_buildS, x_buildE, ↓x_P0, ↓x_P1, x_fill0, x_filli, x_fills, x_fillb, c_int, List.length_cons, List.length_nil, List.cons_append, List.drop_succ_cons, List.drop_zero, List.drop_nil, List.nil_append, Int.reduceAdd, Int.reduceToNat, Int.reduceLT, Int.reduceLE, Nat.reduceAdd, Nat.reduceMul, Nat.reduceLeDiff, Int.reduceEq, Int.reduceSub, Int.cast_ofNat_Int, s_resc, s_consR, m_load4, m_store4, s_res0, ↓s_skip, ↓s_ops, ↓s_dops, ↓s_seq, ↓s_cond, ↓s_block, ↓s_exit, ↓s_ret, ↓s_scope, ↓s_nil, ↓s_op, ↓s_opg, ↓s_wanted', ↓s_wantV, s_wantV, s_wantV0, beq_true, beq_false, ↓s_bindS, s_bindS, ↓s_bindE, s_bindE, s_bindE_ret, s_bindE_exit, s_bindE_iteN, s_norm, ↓s_condV, s_condV, s_block_ret, s_block_normal, s_block_exit, s_block_iteN, ↓s_getp, ↓s_getp0, ↓s_get, s_get0, ↓s_con, ↓s_fn, ↓s_os0, ↓s_os1, ↓s_list0, ↓s_list1, ↓s_mov, ↓s_pick, ↓s_pickE, s_pickE, ↓s_bin, ↓s_un, ↓s_minmax, ↓s_call, ↓s_callv, ↓s_callV, ↓s_ext, s_same, b_eql, b_neq, b_lss, b_leq, b_gtr, b_geq, b_add, b_sub, b_mul, b_eqlb, b_neqb, b_fnil, b_fnil', b_fnil2, b_fnil2', u_neg, u_not, m_two, s_end, s_end', s_end_iteN, s_res0, s_res1, s_tup1, s_tup2, ↓iteN_true, ↓iteN_false, iteN_true, iteN_false, Nat.zero_add, List.nil_append, List.append_nil, Nat.reduceEqDiff, reduceIte, decide_true, decide_false, Bool.not_true, Bool.not_false, List.getElem?_cons_zero, List.getElem?_cons_succ, Bool.false_eq_true, if_true, if_false, beq_self_eq_true]
      exact rfl, ⟨i1, (by (simp only [s_getp, s_getp0, Nat.reduceEqDiff, decide_false, decide_true, iteN_false, iteN_true, t0]; try rfl)), (by (simp only [s_getp, s_getp0, Nat.reduceEqDiff, decide_false, decide_true, iteN_false, iteN_true, t3]; try rfl)), by rw [en]; exact (by (simp only [s_getp, s_getp0, Nat.reduceEqDiff, decide_false, decide_true, iteN_false, iteN_true, t4]; try rfl)), by rw [en]; exact (by (simp only [s_getp, s_getp0, Nat.reduceEqDiff, decide_false, decide_true, iteN_false, iteN_true, t61]; try rfl)), (by (simp only [s_getp, s_getp0, Nat.reduceEqDiff, decide_false, decide_true, iteN_false, iteN_true, t62]; try rfl)), w⟩⟩
  obtain ⟨R0, eR0⟩ : ∃ R, R_purserlaw10_OpsSplit_0 = R := ⟨_, rfl⟩
  obtain ⟨Lo, eL⟩ : ∃ R, L_purserlaw10_OpsSplit_0 = R := ⟨_, rfl⟩
  obtain ⟨n, en⟩ : ∃ n, dn.length = n := ⟨_, rfl⟩
  obtain ⟨ol, eol⟩ : ∃ n, o.l.length = n := ⟨_, rfl⟩
  obtain ⟨T, I, ec⟩ : ∃ T, SiI (.slice (some (q, 0)) dn.length none 2) va vo dn.length i o.l.length q vs md dn lo h0 0 T h ∧ evC Q 92 m none L_purserlaw10_OpsSplit_1 ⟨T0, [], h⟩ = bindE (blockE 1 (blockE 2 (loopN (evC Q 92 m none Lo) m ⟨T, [], h⟩))) (evC Q 92 m none R0) := by
    rw [en] at t4 t61 c0 ixi
    rw [eol] at cg
    refine ⟨_, ?_, by
      unfold L_purserlaw10_OpsSplit_1
      rw [eR0, eL]
      simp (config := {maxSteps := 2000000}) (disch := first | omega | (simp only [List.length_cons, List.length_nil, List.length_append, List.length_drop]; omega)) only [t0, t3, t4, t61, t62, gq, cg, c0, ixi, ↓s_len, x_lenS, ↓b_xor32, ↓b_and32, ↓b_or32, ↓u_not32, b_xor32, b_and32, b_or32, u_not32, w32ad, ↓x_conv, x_convV, ↓x_fieldAddr, x_fieldV, ↓s_nilchk, x_nilchk, Nat.zero_add, Nat.add_zero, Nat.mul_one, ↓l_loop, ↓l_succ, ↓l_normal, l_normal, l_exit, l_ret, l_iteN, ↓h_put_get, ↓h_new_get, ↓h_del_get, h_next_put, h_next_new, h_next_del, Nat.add_assoc, Nat.add_eq_left, Nat.left_eq_add, Nat.add_left_cancel_iff, ↓s_load, m_load, ↓m_load1, m_load1, ↓m_st, m_stE, m_storeI, m_storeE, w_zero, w_succ, ↓s_alloc, ↓x_idxA, ↓x_idxS, x_idxAE, x_idxSE, x_addrE, x_idx, x_lenS, ↓s_len, ↓x_buildS, x_buildE, ↓x_P0, ↓x_P1, x_fill0, x_filli, x_fills, x_fillb, c_int, List.length_cons, List.length_nil, List.cons_append, List.drop_succ_cons, List.drop_zero, List.drop_nil, List.nil_append, Int.reduceAdd, Int.reduceToNat, Int.reduceLT, Int.reduceLE, Nat.reduceAdd, Nat.reduceMul, Nat.reduceLeDiff, Int.reduceEq, Int.reduceSub, Int.cast_ofNat_Int, s_resc, s_consR, m_load4, m_store4, s_res0, ↓s_skip, ↓s_ops, ↓s_dops, ↓s_seq, ↓s_cond, ↓s_block, ↓s_exit, ↓s_ret, ↓s_scope, ↓s_nil, ↓s_op, ↓s_opg, ↓s_wanted', ↓s_wantV, s_wantV, s_wantV0, beq_true, beq_false, ↓s_bindS, s_bindS, ↓s_bindE, s_bindE, s_bindE_ret, s_bindE_exit, s_bindE_iteN, s_norm, ↓s_condV, s_condV, s_block_ret, s_block_normal, s_block_exit, s_block_iteN, ↓s_getp, ↓s_getp0, ↓s_get, s_get0, ↓s_con, ↓s_fn, ↓s_os0, ↓s_os1, ↓s_list0, ↓s_list1, ↓s_mov, ↓s_pick, ↓s_pickE, s_pickE, ↓s_bin, ↓s_un, ↓s_minmax, ↓s_call, ↓s_callv, ↓s_callV, ↓s_ext, s_same, b_eql, b_neq, b_lss, b_leq, b_gtr, b_geq, b_add, b_sub, b_mul, b_eqlb, b_neqb, b_fnil, b_fnil', b_fnil2, b_fnil2', u_neg, u_not, m_two, s_end, s_end', s_end_iteN, s_res0, s_res1, s_tup1, s_tup2, ↓iteN_true, ↓iteN_false, iteN_true, iteN_false, Nat.zero_add, List.nil_append, List.append_nil, Nat.reduceEqDiff, reduceIte, decide_true, decide_false, Bool.not_true, Bool.not_false, List.getElem?_cons_zero, List.getElem?_cons_succ, Bool.false_eq_true, if_true, if_false, beq_self_eq_true]
      exact rfl⟩
    exact ⟨Nat.zero_le _, (by (simp only [s_getp, s_getp0, Nat.reduceEqDiff, decide_false, decide_true, iteN_false, iteN_true, t0]; try rfl)), (by (simp only [s_getp, s_getp0, Nat.reduceEqDiff, decide_false, decide_true, iteN_false, iteN_true, t3]; try rfl)), by rw [en]; exact (by (simp only [s_getp, s_getp0, Nat.reduceEqDiff, decide_false, decide_true, iteN_false, iteN_true, t4]; try rfl)), (by (simp only [s_getp, s_getp0, Nat.reduceEqDiff, decide_false, decide_true, iteN_false, iteN_true, t0]; try rfl)), by rw [en]; exact (by (simp only [s_getp, s_getp0, Nat.reduceEqDiff, decide_false, decide_true, iteN_false, iteN_true, t61]; try rfl)), (by (simp only [s_getp, s_getp0, Nat.reduceEqDiff, decide_false, decide_true, iteN_false, iteN_true, t62]; try rfl)), by rw [eol]; exact (by (simp only [s_getp, s_getp0, Nat.reduceEqDiff, decide_false, decide_true, iteN_false, iteN_true, t0]; try rfl)), (by (simp only [s_getp, s_getp0, Nat.reduceEqDiff, decide_false, decide_true, iteN_false, iteN_true, t0]; try rfl)), w⟩
  rw [ec, ← eR0, ← eL]
  exact fin T I
structure EnOs (E : Nat → Option Fn) : Prop where
  op : EnOp E
  ro : EnRo E
  va : E k_ops_Value = some f_ops_Value
  ps : E k_ops_Pushes = some f_ops_Pushes
  bu : E k_ops_Burnt = some f_ops_Burnt
  rs : E k_purserref10_Split = some f_purserref10_Split
  rp : E k_purserref10_Pushes = some f_purserref10_Pushes
  rb : E k_purserref10_Burnt = some f_purserref10_Burnt
structure NoOs (X : Orc) : Prop where
  op : NoOp X
  ro : NoRo X
  va : ∀ a h, X (.fn k_ops_Value) a h = none
  ps : ∀ a h, X (.fn k_ops_Pushes) a h = none
  bu : ∀ a h, X (.fn k_ops_Burnt) a h = none
  rs : ∀ a h, X (.fn k_purserref10_Split) a h = none
  rp : ∀ a h, X (.fn k_purserref10_Pushes) a h = none
  rb : ∀ a h, X (.fn k_purserref10_Burnt) a h = none
theorem no_os : NoOs noX := ⟨⟨fun _ _ => rfl, fun _ _ => rfl, fun _ _ => rfl, fun _ _ => rfl, fun _ _ => rfl, fun _ _ => rfl, fun _ _ => rfl, fun _ _ => rfl, fun _ _ => rfl, fun _ _ => rfl, fun _ _ => rfl, fun _ _ => rfl, fun _ _ _ => rfl⟩, ⟨fun _ _ => rfl, fun _ _ => rfl, fun _ _ => rfl, fun _ _ => rfl, fun _ _ => rfl, fun _ _ => rfl, fun _ _ => rfl⟩, fun _ _ => rfl, fun _ _ => rfl, fun _ _ => rfl, fun _ _ => rfl, fun _ _ => rfl, fun _ _ => rfl⟩
set_option maxRecDepth 100000 in
set_option maxHeartbeats 4000000 in
theorem law_OpsSplit (e : EnOs E) (x : NoOs X) (el : E k_purserlaw10_OpsSplit = some f_purserlaw10_OpsSplit) (xl : ∀ a h, X (.fn k_purserlaw10_OpsSplit) a h = none) (N : Nat) (hN : 100000 ≤ N) (s : List Nat) (bs : byt s = true) (hsl : s.length < 9223372036854775807) (a : Option (Nat × Nat)) (h : H) (ss : SrcH h a 1 s) :
    ∃ h2, callX E X (N + 201) (.fn k_purserlaw10_OpsSplit) [.slice a s.length none 1] h = some (.bool true, h2) := by
  rw [x_cfn el _ _ (Nat.le_of_ble_eq_true rfl) (xl _ _)]
  by_cases hs : 70000 < s.length
  · have d0 : decide ((70000 : Int) < (s.length : Int)) = true := decide_eq_true (by omega)
    generalize s.length = sl at *
    simp (config := {maxSteps := 2000000}) (disch := first | omega | rfl | (simp only [ofI_len, List.length_append, List.length_take, List.length_drop, List.length_cons, List.length_nil, List.length_replicate, List.length_set]; done) | (simp only [ofI_len, List.length_append, List.length_take, List.length_drop, List.length_cons, List.length_nil, List.length_replicate, List.length_set]; omega)) only [d0, ↓s_len, x_lenS, ↓b_xor32, ↓b_and32, ↓b_or32, ↓u_not32, b_xor32, b_and32, b_or32, u_not32, w32ad, ↓x_conv, x_convV, ↓x_fieldAddr, x_fieldV, ↓s_nilchk, x_nilchk, Nat.zero_add, Nat.add_zero, Nat.mul_one, ↓s_evD, ↓s_dnil, ↓s_dL, ↓s_dLg, ↓s_dR, ↓s_dRg, ↓s_dRj, ↓s_dRjg, ↓s_dB, ↓s_dBg, ↓s_dAlloc, ↓s_bindD, s_bindD, s_finD, s_finDx, s_addP0, s_addP1, s_addB, s_lookP, ↓s_bump0, ↓s_bump_get, s_bump_next, s_ok0, ↓s_ok1, s_okR0, ↓s_okR1, ↓s_okE, s_okE, s_okE1, s_nth0, s_nthS, Nat.add_zero, Bool.and_self, Bool.and_true, Bool.true_and, ↓l_loop, ↓l_succ, ↓l_normal, l_normal, l_exit, l_ret, l_iteN, ↓h_put_get, ↓h_new_get, ↓h_del_get, h_next_put, h_next_new, h_next_del, Nat.add_assoc, Nat.add_eq_left, Nat.left_eq_add, Nat.add_left_cancel_iff, ↓s_load, m_load, ↓m_load1, m_load1, ↓m_st, m_stE, m_storeI, m_storeE, ↓s_alloc, ↓x_idxA, ↓x_idxS, x_idxAE, x_idxSE, x_addrE, x_idx, x_lenS, ↓s_len, ↓x_buildS, x_buildE, ↓x_P0, ↓x_P1, x_fill0, x_filli, x_fills, x_fillb, c_int, List.length_cons, List.length_nil, List.cons_append, List.drop_succ_cons, List.drop_zero, List.drop_nil, List.nil_append, Int.reduceAdd, Int.reduceToNat, Int.reduceLT, Int.reduceLE, Nat.reduceAdd, Nat.reduceMul, Nat.reduceLeDiff, Int.reduceEq, Int.reduceSub, Int.cast_ofNat_Int, s_resc, s_consR, m_load4, m_store4, s_res0, ↓s_skip, ↓s_ops, ↓s_dops, ↓s_seq, ↓s_cond, ↓s_block, ↓s_exit, ↓s_ret, ↓s_scope, ↓s_nil, ↓s_op, ↓s_opg, ↓s_wanted', ↓s_wantV, s_wantV, s_wantV0, beq_true, beq_false, ↓s_bindS, s_bindS, ↓s_bindE, s_bindE, s_bindE_ret, s_bindE_exit, s_bindE_iteN, s_norm, ↓s_condV, s_condV, s_block_ret, s_block_normal, s_block_exit, s_block_iteN, ↓s_getp, ↓s_getp0, ↓s_get, s_get0, ↓s_con, ↓s_fn, ↓s_os0, ↓s_os1, ↓s_list0, ↓s_list1, ↓s_mov, ↓s_pick, ↓s_pickE, s_pickE, ↓s_bin, ↓s_un, ↓s_minmax, ↓s_call, ↓s_callv, ↓s_callV, ↓s_ext, s_same, b_eql, b_neq, b_lss, b_leq, b_gtr, b_geq, b_add, b_sub, b_mul, b_eqlb, b_neqb, b_fnil, b_fnil', b_fnil2, b_fnil2', u_neg, u_not, m_two, s_end, s_end', s_end_iteN, s_res0, s_res1, s_tup1, s_tup2, ↓iteN_true, ↓iteN_false, iteN_true, iteN_false, Nat.zero_add, List.nil_append, List.append_nil, Nat.reduceEqDiff, reduceIte, decide_true, decide_false, Bool.not_true, Bool.not_false, List.getElem?_cons_zero, List.getElem?_cons_succ, Bool.false_eq_true, if_true, if_false, beq_self_eq_true]
    exact ⟨_, rfl⟩
  have d0 : decide ((70000 : Int) < (s.length : Int)) = false := decide_eq_false (by omega)
  have sc0 := (ss.mono (Kp.new h (.cells [] .rw))).cellz none
  obtain ⟨v1, hA, p, md, hB, ap1, nA, kA, ap2, kB, hp, hpB, gp⟩ := own_byte h s 7 (by omega)
  have sc1 : srcCells (hA.new (.cells [.int .u8 7] .rw)) 1 (.slice (some (hA.next, 0)) 1 (some 1) 1) = some (1, [.int .u8 7]) := src1 hA 7
  replace ap2 : appendC (hA.new (.cells [.int .u8 7] .rw)) 1 1 v1 (some (1, [.int .u8 7])) = _ := ap2
  have b7 : byt (s ++ [7]) = true := byt_app bs rfl
  have l7 : (s ++ [7]).length = s.length + 1 := by simp
  have sown : SrcH hB (some (p, 0)) 1 (s ++ [7]) := .inr ⟨p, 0, _, md, rfl, rfl, hpB, gp, by rw [ofI_len]; omega, by rw [List.drop_zero]; exact List.take_of_length_le (by rw [ofI_len]; exact Nat.le_refl _)⟩
  have sv : slcV 1 none (some (.int .i64 (s.length : Int))) none (.slice (some (p, 0)) (s.length + 1) none 1) = some (.slice (some (p, 0)) s.length none 1) := slcV_hiU _ _ _ _ _ (by omega)
  have so := sown.take s.length
  rw [List.take_left' rfl] at so
  obtain ⟨h1, a1, c1, e1, r1, k1, row1⟩ := split_go e.op x.op (N + 187) s bs (by omega) (by omega) (some (p, 0)) none 1 (fun _ => rfl) hB so
  obtain ⟨h2, a2, c2, e2, r2, k2, row2⟩ := rsplit_go e.ro x.ro e.rs x.rs (N + 198) s bs (by omega) (by omega) a h1 ((ss.mono kB).mono k1)
  obtain ⟨okd, lnd⟩ := spR_ok s bs
  obtain ⟨dn, edn⟩ : ∃ d, (spR s).1 = d := ⟨_, rfl⟩
  obtain ⟨en, een⟩ : ∃ d, (spR s).2 = d := ⟨_, rfl⟩
  rw [edn] at r1 row1 r2 row2 okd lnd
  rw [een] at r1 r2
  have r3 := rsame_go e.ro x.ro (N + 199) dn dn (by omega) (by omega) (by omega) (fun o ho => (okd o ho).1) (fun o ho => (okd o ho).1) a1 a2 c1 c2 e1 e2 h2 (row1.row.mono k2) row2.row
  rw [decide_eq_true rfl] at r3
  have kB2 := k1.trans k2
  obtain ⟨h4, r4, k4⟩ := pushes_go e.op x.op e.va x.va e.ps x.ps (N + 187) s bs (by omega) (by omega) (some (p, 0)) none 1 (fun _ => rfl) h2 (so.mono kB2)
  obtain ⟨h5, r5, k5⟩ := rpushes_go e.ro x.ro e.rs x.rs e.rp x.rp (N + 197) s bs (by omega) (by omega) a h4 (((ss.mono kB).mono kB2).mono k4)
  have kB5 := kB2.trans (k4.trans k5)
  obtain ⟨r6, _⟩ := burnt_go2 e.bu x.bu e.rb x.rb (N + 199) s (by omega) (some (p, 0)) none 1 h5 (so.mono kB5)
  obtain ⟨_, r7⟩ := burnt_go2 e.bu x.bu e.rb x.rb (N + 199) s (by omega) a none 1 h5 ((ss.mono kB).mono kB5)
  have ei : decide ((en : Int) = (en : Int)) = true := decide_eq_true rfl
  obtain ⟨pb, epb⟩ : ∃ b, decide (psV s.length s = s.length) = b := ⟨_, rfl⟩
  rw [epb] at r4 r5
  have q1 : (pb == pb) = true := by cases pb <;> rfl
  have q2 : (bnV s == bnV s) = true := by cases bnV s <;> rfl
  generalize bnV s = bb at *
  have row5 : RowF hB.next h5 dn a1 c1 e1 := row1.kp (k2.trans (k4.trans k5))
  have fend : ∀ (T : Tr V) (h6 : H), evO T (.t 3) = .slice (some (p, 0)) (s.length + 1) none 1 → evO T (.t 0) = .slice a s.length none 1 → (∀ j, j < hB.next → h6.get j = h5.get j) → hB.next ≤ h6.next → ∃ h2, fnEnd [.tmp 2] (evC (callX E X (N + 200)) 92 (N + 200) none R_purserlaw10_OpsSplit_1 ⟨T, [], h6⟩) = some (.bool true, h2) := by
    intro T h6 t3 t0 fr n6
    have f6 : ∀ j, j < hB.next → h6.get j = hB.get j := fun j hj => by rw [fr j hj, kB5.2 _ hj]
    have kB6 : Kp hB h6 := ⟨n6, f6⟩
    have s1 := str_src (sown.mono kB6) b7 none
    rw [l7] at s1
    have s2 := str_src ((ss.mono kB).mono kB6) bs none
    have ad := fun e h => b_sadd e h s [7] (by simp; omega)
    have sq : decide (s ++ [7] = s ++ [7]) = true := decide_eq_true rfl
    generalize s.length + 1 = sl1 at *
    generalize s.length = sl at *
    simp (config := {maxSteps := 2000000}) (disch := first | omega | rfl | (simp only [ofI_len, List.length_append, List.length_take, List.length_drop, List.length_cons, List.length_nil, List.length_replicate, List.length_set]; done) | (simp only [ofI_len, List.length_append, List.length_take, List.length_drop, List.length_cons, List.length_nil, List.length_replicate, List.length_set]; omega)) only [R_purserlaw10_OpsSplit_1, t0, t3, s1, s2, ad, b_seq, sq, ↓ns_b2s, ↓s_len, x_lenS, ↓b_xor32, ↓b_and32, ↓b_or32, ↓u_not32, b_xor32, b_and32, b_or32, u_not32, w32ad, ↓x_conv, x_convV, ↓x_fieldAddr, x_fieldV, ↓s_nilchk, x_nilchk, Nat.zero_add, Nat.add_zero, Nat.mul_one, ↓s_evD, ↓s_dnil, ↓s_dL, ↓s_dLg, ↓s_dR, ↓s_dRg, ↓s_dRj, ↓s_dRjg, ↓s_dB, ↓s_dBg, ↓s_dAlloc, ↓s_bindD, s_bindD, s_finD, s_finDx, s_addP0, s_addP1, s_addB, s_lookP, ↓s_bump0, ↓s_bump_get, s_bump_next, s_ok0, ↓s_ok1, s_okR0, ↓s_okR1, ↓s_okE, s_okE, s_okE1, s_nth0, s_nthS, Nat.add_zero, Bool.and_self, Bool.and_true, Bool.true_and, ↓l_loop, ↓l_succ, ↓l_normal, l_normal, l_exit, l_ret, l_iteN, ↓h_put_get, ↓h_new_get, ↓h_del_get, h_next_put, h_next_new, h_next_del, Nat.add_assoc, Nat.add_eq_left, Nat.left_eq_add, Nat.add_left_cancel_iff, ↓s_load, m_load, ↓m_load1, m_load1, ↓m_st, m_stE, m_storeI, m_storeE, w_zero, w_succ, ↓s_alloc, ↓x_idxA, ↓x_idxS, x_idxAE, x_idxSE, x_addrE, x_idx, x_lenS, ↓s_len, ↓x_buildS, x_buildE, ↓x_P0, ↓x_P1, x_fill0, x_filli, x_fills, x_fillb, c_int, List.length_cons, List.length_nil, List.cons_append, List.drop_succ_cons, List.drop_zero, List.drop_nil, List.nil_append, Int.reduceAdd, Int.reduceToNat, Int.reduceLT, Int.reduceLE, Nat.reduceAdd, Nat.reduceMul, Nat.reduceLeDiff, Int.reduceEq, Int.reduceSub, Int.cast_ofNat_Int, s_resc, s_consR, m_load4, m_store4, s_res0, ↓s_skip, ↓s_ops, ↓s_dops, ↓s_seq, ↓s_cond, ↓s_block, ↓s_exit, ↓s_ret, ↓s_scope, ↓s_nil, ↓s_op, ↓s_opg, ↓s_wanted', ↓s_wantV, s_wantV, s_wantV0, beq_true, beq_false, ↓s_bindS, s_bindS, ↓s_bindE, s_bindE, s_bindE_ret, s_bindE_exit, s_bindE_iteN, s_norm, ↓s_condV, s_condV, s_block_ret, s_block_normal, s_block_exit, s_block_iteN, ↓s_getp, ↓s_getp0, ↓s_get, s_get0, ↓s_con, ↓s_fn, ↓s_os0, ↓s_os1, ↓s_list0, ↓s_list1, ↓s_mov, ↓s_pick, ↓s_pickE, s_pickE, ↓s_bin, ↓s_un, ↓s_minmax, ↓s_call, ↓s_callv, ↓s_callV, ↓s_ext, s_same, b_eql, b_neq, b_lss, b_leq, b_gtr, b_geq, b_add, b_sub, b_mul, b_eqlb, b_neqb, b_fnil, b_fnil', b_fnil2, b_fnil2', u_neg, u_not, m_two, s_end, s_end', s_end_iteN, s_res0, s_res1, s_tup1, s_tup2, ↓iteN_true, ↓iteN_false, iteN_true, iteN_false, Nat.zero_add, List.nil_append, List.append_nil, Nat.reduceEqDiff, reduceIte, decide_true, decide_false, Bool.not_true, Bool.not_false, List.getElem?_cons_zero, List.getElem?_cons_succ, Bool.false_eq_true, if_true, if_false, beq_self_eq_true]
    exact ⟨_, rfl⟩
  have n5 : hB.next ≤ h5.next := kB5.1
  have fin : ∀ T, evO T (.t 0) = .slice a s.length none 1 → evO T (.t 3) = .slice (some (p, 0)) (s.length + 1) none 1 → evO T (.t 4) = .slice a1 dn.length c1 e1 → evO T (.t 61) = .int .i64 (dn.length : Int) → evO T (.t 62) = .int .i64 0 → ∃ h2, fnEnd [.tmp 2] (bindE (blockE 0 (loopN (evC (callX E X (N + 200)) 92 (N + 200) none L_purserlaw10_OpsSplit_1) (N + 200) ⟨T, [], h5⟩)) (evC (callX E X (N + 200)) 92 (N + 200) none R_purserlaw10_OpsSplit_1)) = some (.bool true, h2) := by
    intro T u0 u3 u4 u61 u62
    by_cases hne : dn = []
    · subst hne
      have c0 : decide ((0 : Int) < ((0 : Nat) : Int)) = false := rfl
      rw [List.length_nil] at u61
      obtain ⟨T', r, w0, w3⟩ : ∃ T', loopN (evC (callX E X (N + 200)) 92 (N + 200) none L_purserlaw10_OpsSplit_1) (N + 200) ⟨T, [], h5⟩ = some (.exit 0, ⟨T', [], h5⟩) ∧ evO T' (.t 0) = .slice a s.length none 1 ∧ evO T' (.t 3) = .slice (some (p, 0)) (s.length + 1) none 1 := by
        obtain ⟨g, eg⟩ : ∃ g, N + 200 = g + 1 := ⟨N + 199, rfl⟩
        generalize s.length = sl at *
        have c1' : decide ((0 : Int) < 0) = false := rfl
        have st : ∃ T', evC (callX E X (N + 200)) 92 (N + 200) none L_purserlaw10_OpsSplit_1 ⟨T, [], h5⟩ = some (.exit 0, ⟨T', [], h5⟩) ∧ evO T' (.t 0) = .slice a sl none 1 ∧ evO T' (.t 3) = .slice (some (p, 0)) (sl + 1) none 1 := by
          exact ⟨_, by
            simp (config := {maxSteps := 2000000}) (disch := first | omega | (simp only [List.length_cons, List.length_nil, List.length_append, List.length_drop]; omega)) only [L_purserlaw10_OpsSplit_1, u61, u62, c0, c1', ↓b_xor32, ↓b_and32, ↓b_or32, ↓u_not32, b_xor32, b_and32, b_or32, u_not32, w32ad, ↓x_conv, x_convV, ↓x_fieldAddr, x_fieldV, ↓s_nilchk, x_nilchk, Nat.zero_add, Nat.add_zero, Nat.mul_one, ↓l_loop, ↓l_succ, ↓l_normal, l_normal, l_exit, l_ret, l_iteN, ↓h_put_get, ↓h_new_get, ↓h_del_get, h_next_put, h_next_new, h_next_del, Nat.add_assoc, Nat.add_eq_left, Nat.left_eq_add, Nat.add_left_cancel_iff, ↓s_load, m_load, ↓m_load1, m_load1, ↓m_st, m_stE, m_storeI, m_storeE, w_zero, w_succ, ↓s_alloc, ↓x_idxA, ↓x_idxS, x_idxAE, x_idxSE, x_addrE, x_idx, x_lenS, ↓s_len, ↓x_buildS, x_buildE, ↓x_P0, ↓x_P1, x_fill0, x_filli, x_fills, x_fillb, c_int, List.length_cons, List.length_nil, List.cons_append, List.drop_succ_cons, List.drop_zero, List.drop_nil, List.nil_append, Int.reduceAdd, Int.reduceToNat, Int.reduceLT, Int.reduceLE, Nat.reduceAdd, Nat.reduceMul, Nat.reduceLeDiff, Int.reduceEq, Int.reduceSub, Int.cast_ofNat_Int, s_resc, s_consR, m_load4, m_store4, s_res0, ↓s_skip, ↓s_ops, ↓s_dops, ↓s_seq, ↓s_cond, ↓s_block, ↓s_exit, ↓s_ret, ↓s_scope, ↓s_nil, ↓s_op, ↓s_opg, ↓s_wanted', ↓s_wantV, s_wantV, s_wantV0, beq_true, beq_false, ↓s_bindS, s_bindS, ↓s_bindE, s_bindE, s_bindE_ret, s_bindE_exit, s_bindE_iteN, s_norm, ↓s_condV, s_condV, s_block_ret, s_block_normal, s_block_exit, s_block_iteN, ↓s_getp, ↓s_getp0, ↓s_get, s_get0, ↓s_con, ↓s_fn, ↓s_os0, ↓s_os1, ↓s_list0, ↓s_list1, ↓s_mov, ↓s_pick, ↓s_pickE, s_pickE, ↓s_bin, ↓s_un, ↓s_minmax, ↓s_call, ↓s_callv, ↓s_callV, ↓s_ext, s_same, b_eql, b_neq, b_lss, b_leq, b_gtr, b_geq, b_add, b_sub, b_mul, b_eqlb, b_neqb, b_fnil, b_fnil', b_fnil2, b_fnil2', u_neg, u_not, m_two, s_end, s_end', s_end_iteN, s_res0, s_res1, s_tup1, s_tup2, ↓iteN_true, ↓iteN_false, iteN_true, iteN_false, Nat.zero_add, List.nil_append, List.append_nil, Nat.reduceEqDiff, reduceIte, decide_true, decide_false, Bool.not_true, Bool.not_false, List.getElem?_cons_zero, List.getElem?_cons_succ, Bool.false_eq_true, if_true, if_false, beq_self_eq_true]
            exact rfl, (by (simp only [s_getp, s_getp0, Nat.reduceEqDiff, decide_false, decide_true, iteN_false, iteN_true, u0]; try rfl)), (by (simp only [s_getp, s_getp0, Nat.reduceEqDiff, decide_false, decide_true, iteN_false, iteN_true, u3]; try rfl))⟩
        obtain ⟨T', r, w0, w3⟩ := st
        refine ⟨T', ?_, w0, w3⟩
        rw [show loopN (evC (callX E X (N + 200)) 92 (N + 200) none L_purserlaw10_OpsSplit_1) (N + 200) = loopN (evC (callX E X (N + 200)) 92 (N + 200) none L_purserlaw10_OpsSplit_1) (g + 1) by rw [eg], l_succ, r]
        rfl
      rw [r]
      obtain ⟨h7, r7⟩ := fend T' h5 w3 w0 (fun _ _ => rfl) n5
      exact ⟨h7, r7⟩
    · obtain ⟨q, vs, md2, rfl, rfl, rfl, hq, w⟩ := row5.wr hne
      obtain ⟨T', h', rr, J⟩ := loop_go (f := evC (callX E X (N + 200)) 92 (N + 200) none L_purserlaw10_OpsSplit_1) (SoI (.slice (some (q, 0)) dn.length none 2) (.slice a s.length none 1) (.slice (some (p, 0)) (s.length + 1) none 1) dn.length q vs md2 dn hB.next h5) dn.length (.exit 0) (by intro h; cases h) (SoI (.slice (some (q, 0)) dn.length none 2) (.slice a s.length none 1) (.slice (some (p, 0)) (s.length + 1) none 1) dn.length q vs md2 dn hB.next h5 dn.length) (so_step _ (N + 200) _ _ q vs md2 dn (by omega) hB.next h5 (fun o ho => by have := (okd o ho).2; omega) (fun o ho => by have := (okd o ho).2; omega)) (fun T h' I => by
        obtain ⟨il, t0, t3, t4, t61, t62, w⟩ := I
        have c0 : decide ((dn.length : Int) < (dn.length : Int)) = false := decide_eq_false (by omega)
        obtain ⟨n, en'⟩ : ∃ n, dn.length = n := ⟨_, rfl⟩
        obtain ⟨sl, esl⟩ : ∃ n, s.length = n := ⟨_, rfl⟩
        rw [en'] at t4 t61 t62 c0
        rw [esl] at t0 t3
        exact ⟨_, _, by
          simp (config := {maxSteps := 2000000}) (disch := first | omega | (simp only [List.length_cons, List.length_nil, List.length_append, List.length_drop]; omega)) only [L_purserlaw10_OpsSplit_1, t61, t62, c0, ↓b_xor32, ↓b_and32, ↓b_or32, ↓u_not32, b_xor32, b_and32, b_or32, u_not32, w32ad, ↓x_conv, x_convV, ↓x_fieldAddr, x_fieldV, ↓s_nilchk, x_nilchk, Nat.zero_add, Nat.add_zero, Nat.mul_one, ↓l_loop, ↓l_succ, ↓l_normal, l_normal, l_exit, l_ret, l_iteN, ↓h_put_get, ↓h_new_get, ↓h_del_get, h_next_put, h_next_new, h_next_del, Nat.add_assoc, Nat.add_eq_left, Nat.left_eq_add, Nat.add_left_cancel_iff, ↓s_load, m_load, ↓m_load1, m_load1, ↓m_st, m_stE, m_storeI, m_storeE, w_zero, w_succ, ↓s_alloc, ↓x_idxA, ↓x_idxS, x_idxAE, x_idxSE, x_addrE, x_idx, x_lenS, ↓s_len, ↓x_buildS, x_buildE, ↓x_P0, ↓x_P1, x_fill0, x_filli, x_fills, x_fillb, c_int, List.length_cons, List.length_nil, List.cons_append, List.drop_succ_cons, List.drop_zero, List.drop_nil, List.nil_append, Int.reduceAdd, Int.reduceToNat, Int.reduceLT, Int.reduceLE, Nat.reduceAdd, Nat.reduceMul, Nat.reduceLeDiff, Int.reduceEq, Int.reduceSub, Int.cast_ofNat_Int, s_resc, s_consR, m_load4, m_store4, s_res0, ↓s_skip, ↓s_ops, ↓s_dops, ↓s_seq, ↓s_cond, ↓s_block, ↓s_exit, ↓s_ret, ↓s_scope, ↓s_nil, ↓s_op, ↓s_opg, ↓s_wanted', ↓s_wantV, s_wantV, s_wantV0, beq_true, beq_false, ↓s_bindS, s_bindS, ↓s_bindE, s_bindE, s_bindE_ret, s_bindE_exit, s_bindE_iteN, s_norm, ↓s_condV, s_condV, s_block_ret, s_block_normal, s_block_exit, s_block_iteN, ↓s_getp, ↓s_getp0, ↓s_get, s_get0, ↓s_con, ↓s_fn, ↓s_os0, ↓s_os1, ↓s_list0, ↓s_list1, ↓s_mov, ↓s_pick, ↓s_pickE, s_pickE, ↓s_bin, ↓s_un, ↓s_minmax, ↓s_call, ↓s_callv, ↓s_callV, ↓s_ext, s_same, b_eql, b_neq, b_lss, b_leq, b_gtr, b_geq, b_add, b_sub, b_mul, b_eqlb, b_neqb, b_fnil, b_fnil', b_fnil2, b_fnil2', u_neg, u_not, m_two, s_end, s_end', s_end_iteN, s_res0, s_res1, s_tup1, s_tup2, ↓iteN_true, ↓iteN_false, iteN_true, iteN_false, Nat.zero_add, List.nil_append, List.append_nil, Nat.reduceEqDiff, reduceIte, decide_true, decide_false, Bool.not_true, Bool.not_false, List.getElem?_cons_zero, List.getElem?_cons_succ, Bool.false_eq_true, if_true, if_false, beq_self_eq_true]
          exact rfl, ⟨il, by rw [esl]; exact (by (simp only [s_getp, s_getp0, Nat.reduceEqDiff, decide_false, decide_true, iteN_false, iteN_true, t0]; try rfl)), by rw [esl]; exact (by (simp only [s_getp, s_getp0, Nat.reduceEqDiff, decide_false, decide_true, iteN_false, iteN_true, t3]; try rfl)), by rw [en']; exact (by (simp only [s_getp, s_getp0, Nat.reduceEqDiff, decide_false, decide_true, iteN_false, iteN_true, t4]; try rfl)), by rw [en']; exact (by (simp only [s_getp, s_getp0, Nat.reduceEqDiff, decide_false, decide_true, iteN_false, iteN_true, t61]; try rfl)), by rw [en']; exact (by (simp only [s_getp, s_getp0, Nat.reduceEqDiff, decide_false, decide_true, iteN_false, iteN_true, t62]; try rfl)), w⟩⟩) dn.length 0 (by omega) (N + 200) (by omega) T h5 ⟨Nat.zero_le _, u0, u3, u4, u61, u62, w⟩
      rw [rr]
      have nx := J.w.nx
      obtain ⟨h7, r7⟩ := fend T' h' J.t3 J.t0 J.w.fr (by omega)
      exact ⟨h7, r7⟩
  obtain ⟨R, eR⟩ : ∃ R, R_purserlaw10_OpsSplit_1 = R := ⟨_, rfl⟩
  obtain ⟨Lo, eL⟩ : ∃ R, L_purserlaw10_OpsSplit_1 = R := ⟨_, rfl⟩
  rw [eR, eL] at fin ⊢
  replace r1 : callX E X (N + 200) (.fn k_ops_Split) [.slice (some (p, 0)) s.length none 1] hB = _ := r1
  replace r2 : callX E X (N + 200) (.fn k_purserref10_Split) [.slice a s.length none 1] h1 = _ := r2
  replace r3 : callX E X (N + 200) (.fn k_purserref10_Same) [.slice a1 dn.length c1 e1, .slice a2 dn.length c2 e2] h2 = _ := r3
  replace r4 : callX E X (N + 200) (.fn k_ops_Pushes) [.slice (some (p, 0)) s.length none 1] h2 = _ := r4
  replace r5 : callX E X (N + 200) (.fn k_purserref10_Pushes) [.slice a s.length none 1] h4 = _ := r5
  replace r6 : callX E X (N + 200) (.fn k_ops_Burnt) [.slice (some (p, 0)) s.length none 1] h5 = _ := r6
  replace r7 : callX E X (N + 200) (.fn k_purserref10_Burnt) [.slice a s.length none 1] h5 = _ := r7
  obtain ⟨n, en'⟩ : ∃ n, dn.length = n := ⟨_, rfl⟩
  obtain ⟨sl, esl⟩ : ∃ n, s.length = n := ⟨_, rfl⟩
  rw [en'] at r1 r2 r3 fin
  rw [esl] at r1 r2 r4 r5 r6 r7 sc0 ap1 ap2 sv d0 fin ⊢
  simp (config := {maxSteps := 2000000}) (disch := first | omega | rfl | (simp only [ofI_len, List.length_append, List.length_take, List.length_drop, List.length_cons, List.length_nil, List.length_replicate, List.length_set]; done) | (simp only [ofI_len, List.length_append, List.length_take, List.length_drop, List.length_cons, List.length_nil, List.length_replicate, List.length_set]; omega)) only [d0, sc0, ap1, sc1, ap2, sv, r1, r2, r3, ei, r4, r5, q1, r6, r7, q2, b_neqb, Bool.not_true, ↓x_slcS, x_M0, x_M1, ↓s_append, ↓s_len, x_lenS, ↓b_xor32, ↓b_and32, ↓b_or32, ↓u_not32, b_xor32, b_and32, b_or32, u_not32, w32ad, ↓x_conv, x_convV, ↓x_fieldAddr, x_fieldV, ↓s_nilchk, x_nilchk, Nat.zero_add, Nat.add_zero, Nat.mul_one, ↓s_evD, ↓s_dnil, ↓s_dL, ↓s_dLg, ↓s_dR, ↓s_dRg, ↓s_dRj, ↓s_dRjg, ↓s_dB, ↓s_dBg, ↓s_dAlloc, ↓s_bindD, s_bindD, s_finD, s_finDx, s_addP0, s_addP1, s_addB, s_lookP, ↓s_bump0, ↓s_bump_get, s_bump_next, s_ok0, ↓s_ok1, s_okR0, ↓s_okR1, ↓s_okE, s_okE, s_okE1, s_nth0, s_nthS, Nat.add_zero, Bool.and_self, Bool.and_true, Bool.true_and, ↓l_loop, ↓l_succ, ↓l_normal, l_normal, l_exit, l_ret, l_iteN, ↓h_put_get, ↓h_new_get, ↓h_del_get, h_next_put, h_next_new, h_next_del, Nat.add_assoc, Nat.add_eq_left, Nat.left_eq_add, Nat.add_left_cancel_iff, ↓s_load, m_load, ↓m_load1, m_load1, ↓m_st, m_stE, m_storeI, m_storeE, w_zero, w_succ, ↓s_alloc, ↓x_idxA, ↓x_idxS, x_idxAE, x_idxSE, x_addrE, x_idx, x_lenS, ↓s_len, ↓x_buildS, x_buildE, ↓x_P0, ↓x_P1, x_fill0, x_filli, x_fills, x_fillb, c_int, List.length_cons, List.length_nil, List.cons_append, List.drop_succ_cons, List.drop_zero, List.drop_nil, List.nil_append, Int.reduceAdd, Int.reduceToNat, Int.reduceLT, Int.reduceLE, Nat.reduceAdd, Nat.reduceMul, Nat.reduceLeDiff, Int.reduceEq, Int.reduceSub, Int.cast_ofNat_Int, s_resc, s_consR, m_load4, m_store4, s_res0, ↓s_skip, ↓s_ops, ↓s_dops, ↓s_seq, ↓s_cond, ↓s_block, ↓s_exit, ↓s_ret, ↓s_scope, ↓s_nil, ↓s_op, ↓s_opg, ↓s_wanted', ↓s_wantV, s_wantV, s_wantV0, beq_true, beq_false, ↓s_bindS, s_bindS, ↓s_bindE, s_bindE, s_bindE_ret, s_bindE_exit, s_bindE_iteN, s_norm, ↓s_condV, s_condV, s_block_ret, s_block_normal, s_block_exit, s_block_iteN, ↓s_getp, ↓s_getp0, ↓s_get, s_get0, ↓s_con, ↓s_fn, ↓s_os0, ↓s_os1, ↓s_list0, ↓s_list1, ↓s_mov, ↓s_pick, ↓s_pickE, s_pickE, ↓s_bin, ↓s_un, ↓s_minmax, ↓s_call, ↓s_callv, ↓s_callV, ↓s_ext, s_same, b_eql, b_neq, b_lss, b_leq, b_gtr, b_geq, b_add, b_sub, b_mul, b_eqlb, b_neqb, b_fnil, b_fnil', b_fnil2, b_fnil2', u_neg, u_not, m_two, s_end, s_end', s_end_iteN, s_res0, s_res1, s_tup1, s_tup2, ↓iteN_true, ↓iteN_false, iteN_true, iteN_false, Nat.zero_add, List.nil_append, List.append_nil, Nat.reduceEqDiff, reduceIte, decide_true, decide_false, Bool.not_true, Bool.not_false, List.getElem?_cons_zero, List.getElem?_cons_succ, Bool.false_eq_true, if_true, if_false, beq_self_eq_true]
  exact fin _ (by (simp only [s_getp, s_getp0, Nat.reduceEqDiff, decide_false, decide_true, iteN_false, iteN_true, d0]; try rfl)) (by (simp only [s_getp, s_getp0, Nat.reduceEqDiff, decide_false, decide_true, iteN_false, iteN_true, d0]; try rfl)) (by (simp only [s_getp, s_getp0, Nat.reduceEqDiff, decide_false, decide_true, iteN_false, iteN_true, d0]; try rfl)) (by (simp only [s_getp, s_getp0, Nat.reduceEqDiff, decide_false, decide_true, iteN_false, iteN_true, d0]; try rfl)) (by (simp only [s_getp, s_getp0, Nat.reduceEqDiff, decide_false, decide_true, iteN_false, iteN_true, d0]; try rfl))
end Go.Eng
