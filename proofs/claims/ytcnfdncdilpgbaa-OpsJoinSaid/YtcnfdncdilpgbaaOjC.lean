/- What functions of the program come to: own work. -/
import Derived.Test.YtcnfdncdilpgbaaOjB
namespace Go.Eng
open Go
variable {E : Nat → Option Fn} {X : Orc}
set_option linter.unusedSimpArgs false
set_option linter.unusedVariables false
/-! the document's answers -/
structure EnRo (E : Nat → Option Fn) : Prop where
  may : E k_purserref10_may = some f_purserref10_may
  by_ : E k_purserref10_bytes = some f_purserref10_bytes
  jo : E k_purserref10_Join = some f_purserref10_Join
  sa : E k_purserref10_Same = some f_purserref10_Same
  va : E k_purserref10_Value = some f_purserref10_Value
  pu : E k_purserref10_Push = some f_purserref10_Push
  tw : E k_purserref01_Twin = some f_purserref01_Twin
structure NoRo (X : Orc) : Prop where
  may : ∀ a h, X (.fn k_purserref10_may) a h = none
  by_ : ∀ a h, X (.fn k_purserref10_bytes) a h = none
  jo : ∀ a h, X (.fn k_purserref10_Join) a h = none
  sa : ∀ a h, X (.fn k_purserref10_Same) a h = none
  va : ∀ a h, X (.fn k_purserref10_Value) a h = none
  pu : ∀ a h, X (.fn k_purserref10_Push) a h = none
  tw : ∀ a h, X (.fn k_purserref01_Twin) a h = none
theorem rmay_go (e : EnRo E) (x : NoRo X) (N : Nat) (o : Oq) (hc : o.code < 256) (hl : o.l.length < 9223372036854775807) (a : Option (Nat × Nat)) (c : Option Nat) (ez : Nat) (h : H) :
    ∃ h', callX E X (N + 1) (.fn k_purserref10_may) [.agg [.int .u8 (o.code : Int), .slice a o.l.length c ez]] h = some (.bool (okO o), h') ∧ Kp h h' := by
  rw [x_cfn e.may _ _ (Nat.le_of_ble_eq_true rfl) (x.may _ _)]
  obtain ⟨h1, e1⟩ : ∃ h1, h.new (.cells [.int .u8 (o.code : Int), .slice a o.l.length c ez] .rw) = h1 := ⟨_, rfl⟩
  have g1 : h1.get h.next = some (.cells [.int .u8 (o.code : Int), .slice a o.l.length c ez] .rw) := by rw [← e1]; exact h_new_same _ _
  refine ⟨h1, ?_, by rw [← e1]; exact Kp.new _ _⟩
  have ca : ∀ l : List V, (V.agg l).cells = l := fun _ => rfl
  unfold okO
  obtain ⟨cd, l⟩ := o
  simp only at hc hl g1 e1 ⊢
  generalize l.length = n at *
  have wc : wr .i64 (cd : Int) = (cd : Int) := wr_i64 (by omega)
  by_cases c6 : cd = 76
  · rw [if_pos c6]
    have d0 : decide ((1 : Int) ≤ (cd : Int)) = true := decide_eq_true (by omega)
    have d0' : decide ((cd : Int) ≤ 75) = false := decide_eq_false (by omega)
    have d1 : decide ((cd : Int) = 76) = true := decide_eq_true (by omega)
    have d2 : decide ((n : Int) ≤ 255) = decide (n ≤ 255) := by rw [decide_eq_decide]; omega
    generalize decide (n ≤ 255) = q at *
    simp (config := {maxSteps := 2000000}) (disch := first | omega | (simp only [List.length_cons, List.length_nil, List.length_append, List.length_drop]; omega)) only [ca, e1, g1, d0, d0', d1, d2, ↓s_box, ↓s_len, x_lenS, ↓b_xor32, ↓b_and32, ↓b_or32, ↓u_not32, b_xor32, b_and32, b_or32, u_not32, w32ad, ↓x_conv, x_convV, ↓x_fieldAddr, x_fieldV, ↓s_nilchk, x_nilchk, Nat.zero_add, Nat.add_zero, Nat.mul_one, ↓s_evD, ↓s_dnil, ↓s_dL, ↓s_dLg, ↓s_dR, ↓s_dRg, ↓s_dRj, ↓s_dRjg, ↓s_dB, ↓s_dBg, ↓s_dAlloc, ↓s_bindD, s_bindD, s_finD, s_finDx, s_addP0, s_addP1, s_addB, s_lookP, ↓s_bump0, ↓s_bump_get, s_bump_next, s_ok0, ↓s_ok1, s_okR0, ↓s_okR1, ↓s_okE, s_okE, s_okE1, s_nth0, s_nthS, Nat.add_zero, Bool.and_self, Bool.and_true, Bool.true_and, ↓l_loop, ↓l_succ, ↓l_normal, l_normal, l_exit, l_ret, l_iteN, ↓h_put_get, ↓h_new_get, ↓h_del_get, h_next_put, h_next_new, h_next_del, Nat.add_assoc, Nat.add_eq_left, Nat.left_eq_add, Nat.add_left_cancel_iff, ↓s_load, m_load, ↓m_load1, m_load1, ↓m_st, m_stE, m_storeI, m_storeE, w_zero, w_succ, ↓s_alloc, ↓x_idxA, ↓x_idxS, x_idxAE, x_idxSE, x_addrE, x_idx, x_lenS, ↓s_len, ↓x_buildS, x_buildE, ↓x_P0, ↓x_P1, x_fill0, x_filli, x_fills, x_fillb, c_int, List.length_cons, List.length_nil, List.cons_append, List.drop_succ_cons, List.drop_zero, List.drop_nil, List.nil_append, Int.reduceAdd, Int.reduceToNat, Int.reduceLT, Int.reduceLE, Nat.reduceAdd, Nat.reduceMul, Nat.reduceLeDiff, Int.reduceEq, Int.reduceSub, Int.cast_ofNat_Int, s_resc, s_consR, m_load4, m_store4, s_res0, ↓s_skip, ↓s_ops, ↓s_dops, ↓s_seq, ↓s_cond, ↓s_block, ↓s_exit, ↓s_ret, ↓s_scope, ↓s_nil, ↓s_op, ↓s_opg, ↓s_wanted', ↓s_wantV, s_wantV, s_wantV0, beq_true, beq_false, ↓s_bindS, s_bindS, ↓s_bindE, s_bindE, s_bindE_ret, s_bindE_exit, s_bindE_iteN, s_norm, ↓s_condV, s_condV, s_block_ret, s_block_normal, s_block_exit, s_block_iteN, ↓s_getp, ↓s_getp0, ↓s_get, s_get0, ↓s_con, ↓s_fn, ↓s_os0, ↓s_os1, ↓s_list0, ↓s_list1, ↓s_mov, ↓s_pick, ↓s_pickE, s_pickE, ↓s_bin, ↓s_un, ↓s_minmax, ↓s_call, ↓s_callv, ↓s_callV, ↓s_ext, s_same, b_eql, b_neq, b_lss, b_leq, b_gtr, b_geq, b_add, b_sub, b_mul, b_eqlb, b_neqb, b_fnil, b_fnil', b_fnil2, b_fnil2', u_neg, u_not, m_two, s_end, s_end', s_end_iteN, s_res0, s_res1, s_tup1, s_tup2, ↓iteN_true, ↓iteN_false, iteN_true, iteN_false, Nat.zero_add, List.nil_append, List.append_nil, Nat.reduceEqDiff, reduceIte, decide_true, decide_false, Bool.not_true, Bool.not_false, List.getElem?_cons_zero, List.getElem?_cons_succ, Bool.false_eq_true, if_true, if_false, beq_self_eq_true]
  · have d1 : decide ((cd : Int) = 76) = false := decide_eq_false (by omega)
    rw [if_neg c6]
    by_cases c7 : cd = 77
    · rw [if_pos c7]
      have d0 : decide ((1 : Int) ≤ (cd : Int)) = true := decide_eq_true (by omega)
      have d0' : decide ((cd : Int) ≤ 75) = false := decide_eq_false (by omega)
      have d2 : decide ((cd : Int) = 77) = true := decide_eq_true (by omega)
      have d3 : decide ((n : Int) ≤ 65535) = decide (n ≤ 65535) := by rw [decide_eq_decide]; omega
      generalize decide (n ≤ 65535) = q at *
      simp (config := {maxSteps := 2000000}) (disch := first | omega | (simp only [List.length_cons, List.length_nil, List.length_append, List.length_drop]; omega)) only [ca, e1, g1, d0, d0', d1, d2, d3, ↓s_box, ↓s_len, x_lenS, ↓b_xor32, ↓b_and32, ↓b_or32, ↓u_not32, b_xor32, b_and32, b_or32, u_not32, w32ad, ↓x_conv, x_convV, ↓x_fieldAddr, x_fieldV, ↓s_nilchk, x_nilchk, Nat.zero_add, Nat.add_zero, Nat.mul_one, ↓s_evD, ↓s_dnil, ↓s_dL, ↓s_dLg, ↓s_dR, ↓s_dRg, ↓s_dRj, ↓s_dRjg, ↓s_dB, ↓s_dBg, ↓s_dAlloc, ↓s_bindD, s_bindD, s_finD, s_finDx, s_addP0, s_addP1, s_addB, s_lookP, ↓s_bump0, ↓s_bump_get, s_bump_next, s_ok0, ↓s_ok1, s_okR0, ↓s_okR1, ↓s_okE, s_okE, s_okE1, s_nth0, s_nthS, Nat.add_zero, Bool.and_self, Bool.and_true, Bool.true_and, ↓l_loop, ↓l_succ, ↓l_normal, l_normal, l_exit, l_ret, l_iteN, ↓h_put_get, ↓h_new_get, ↓h_del_get, h_next_put, h_next_new, h_next_del, Nat.add_assoc, Nat.add_eq_left, Nat.left_eq_add, Nat.add_left_cancel_iff, ↓s_load, m_load, ↓m_load1, m_load1, ↓m_st, m_stE, m_storeI, m_storeE, w_zero, w_succ, ↓s_alloc, ↓x_idxA, ↓x_idxS, x_idxAE, x_idxSE, x_addrE, x_idx, x_lenS, ↓s_len, ↓x_buildS, x_buildE, ↓x_P0, ↓x_P1, x_fill0, x_filli, x_fills, x_fillb, c_int, List.length_cons, List.length_nil, List.cons_append, List.drop_succ_cons, List.drop_zero, List.drop_nil, List.nil_append, Int.reduceAdd, Int.reduceToNat, Int.reduceLT, Int.reduceLE, Nat.reduceAdd, Nat.reduceMul, Nat.reduceLeDiff, Int.reduceEq, Int.reduceSub, Int.cast_ofNat_Int, s_resc, s_consR, m_load4, m_store4, s_res0, ↓s_skip, ↓s_ops, ↓s_dops, ↓s_seq, ↓s_cond, ↓s_block, ↓s_exit, ↓s_ret, ↓s_scope, ↓s_nil, ↓s_op, ↓s_opg, ↓s_wanted', ↓s_wantV, s_wantV, s_wantV0, beq_true, beq_false, ↓s_bindS, s_bindS, ↓s_bindE, s_bindE, s_bindE_ret, s_bindE_exit, s_bindE_iteN, s_norm, ↓s_condV, s_condV, s_block_ret, s_block_normal, s_block_exit, s_block_iteN, ↓s_getp, ↓s_getp0, ↓s_get, s_get0, ↓s_con, ↓s_fn, ↓s_os0, ↓s_os1, ↓s_list0, ↓s_list1, ↓s_mov, ↓s_pick, ↓s_pickE, s_pickE, ↓s_bin, ↓s_un, ↓s_minmax, ↓s_call, ↓s_callv, ↓s_callV, ↓s_ext, s_same, b_eql, b_neq, b_lss, b_leq, b_gtr, b_geq, b_add, b_sub, b_mul, b_eqlb, b_neqb, b_fnil, b_fnil', b_fnil2, b_fnil2', u_neg, u_not, m_two, s_end, s_end', s_end_iteN, s_res0, s_res1, s_tup1, s_tup2, ↓iteN_true, ↓iteN_false, iteN_true, iteN_false, Nat.zero_add, List.nil_append, List.append_nil, Nat.reduceEqDiff, reduceIte, decide_true, decide_false, Bool.not_true, Bool.not_false, List.getElem?_cons_zero, List.getElem?_cons_succ, Bool.false_eq_true, if_true, if_false, beq_self_eq_true]
    · have d2 : decide ((cd : Int) = 77) = false := decide_eq_false (by omega)
      rw [if_neg c7]
      by_cases c5 : cd ≤ 75
      · rw [if_pos c5]
        by_cases c0 : cd = 0
        · subst c0
          have d0 : decide ((1 : Int) ≤ ((0 : Nat) : Int)) = false := rfl
          have d1' : decide (((0 : Nat) : Int) = 76) = false := rfl
          have d2' : decide (((0 : Nat) : Int) = 77) = false := rfl
          have d4 : decide ((n : Int) = 0) = decide (n = 0) := by rw [decide_eq_decide]; omega
          have e1' : h.new (.cells [.int .u8 0, .slice a n c ez] .rw) = h1 := e1
          have g1' : h1.get h.next = some (.cells [.int .u8 0, .slice a n c ez] .rw) := g1
          show _ = some (V.bool (decide (n = 0)), h1)
          generalize decide (n = 0) = q at *
          simp (config := {maxSteps := 2000000}) (disch := first | omega | (simp only [List.length_cons, List.length_nil, List.length_append, List.length_drop]; omega)) only [ca, e1', g1', d4, ↓s_box, ↓s_len, x_lenS, Int.cast_ofNat_Int, ↓b_xor32, ↓b_and32, ↓b_or32, ↓u_not32, b_xor32, b_and32, b_or32, u_not32, w32ad, ↓x_conv, x_convV, ↓x_fieldAddr, x_fieldV, ↓s_nilchk, x_nilchk, Nat.zero_add, Nat.add_zero, Nat.mul_one, ↓s_evD, ↓s_dnil, ↓s_dL, ↓s_dLg, ↓s_dR, ↓s_dRg, ↓s_dRj, ↓s_dRjg, ↓s_dB, ↓s_dBg, ↓s_dAlloc, ↓s_bindD, s_bindD, s_finD, s_finDx, s_addP0, s_addP1, s_addB, s_lookP, ↓s_bump0, ↓s_bump_get, s_bump_next, s_ok0, ↓s_ok1, s_okR0, ↓s_okR1, ↓s_okE, s_okE, s_okE1, s_nth0, s_nthS, Nat.add_zero, Bool.and_self, Bool.and_true, Bool.true_and, ↓l_loop, ↓l_succ, ↓l_normal, l_normal, l_exit, l_ret, l_iteN, ↓h_put_get, ↓h_new_get, ↓h_del_get, h_next_put, h_next_new, h_next_del, Nat.add_assoc, Nat.add_eq_left, Nat.left_eq_add, Nat.add_left_cancel_iff, ↓s_load, m_load, ↓m_load1, m_load1, ↓m_st, m_stE, m_storeI, m_storeE, w_zero, w_succ, ↓s_alloc, ↓x_idxA, ↓x_idxS, x_idxAE, x_idxSE, x_addrE, x_idx, x_lenS, ↓s_len, ↓x_buildS, x_buildE, ↓x_P0, ↓x_P1, x_fill0, x_filli, x_fills, x_fillb, c_int, List.length_cons, List.length_nil, List.cons_append, List.drop_succ_cons, List.drop_zero, List.drop_nil, List.nil_append, Int.reduceAdd, Int.reduceToNat, Int.reduceLT, Int.reduceLE, Nat.reduceAdd, Nat.reduceMul, Nat.reduceLeDiff, Int.reduceEq, Int.reduceSub, Int.cast_ofNat_Int, s_resc, s_consR, m_load4, m_store4, s_res0, ↓s_skip, ↓s_ops, ↓s_dops, ↓s_seq, ↓s_cond, ↓s_block, ↓s_exit, ↓s_ret, ↓s_scope, ↓s_nil, ↓s_op, ↓s_opg, ↓s_wanted', ↓s_wantV, s_wantV, s_wantV0, beq_true, beq_false, ↓s_bindS, s_bindS, ↓s_bindE, s_bindE, s_bindE_ret, s_bindE_exit, s_bindE_iteN, s_norm, ↓s_condV, s_condV, s_block_ret, s_block_normal, s_block_exit, s_block_iteN, ↓s_getp, ↓s_getp0, ↓s_get, s_get0, ↓s_con, ↓s_fn, ↓s_os0, ↓s_os1, ↓s_list0, ↓s_list1, ↓s_mov, ↓s_pick, ↓s_pickE, s_pickE, ↓s_bin, ↓s_un, ↓s_minmax, ↓s_call, ↓s_callv, ↓s_callV, ↓s_ext, s_same, b_eql, b_neq, b_lss, b_leq, b_gtr, b_geq, b_add, b_sub, b_mul, b_eqlb, b_neqb, b_fnil, b_fnil', b_fnil2, b_fnil2', u_neg, u_not, m_two, s_end, s_end', s_end_iteN, s_res0, s_res1, s_tup1, s_tup2, ↓iteN_true, ↓iteN_false, iteN_true, iteN_false, Nat.zero_add, List.nil_append, List.append_nil, Nat.reduceEqDiff, reduceIte, decide_true, decide_false, Bool.not_true, Bool.not_false, List.getElem?_cons_zero, List.getElem?_cons_succ, Bool.false_eq_true, if_true, if_false, beq_self_eq_true]
        · have d0 : decide ((1 : Int) ≤ (cd : Int)) = true := decide_eq_true (by omega)
          have d3 : decide ((cd : Int) ≤ 75) = true := decide_eq_true (by omega)
          have d4 : decide ((n : Int) = (cd : Int)) = decide (n = cd) := by rw [decide_eq_decide]; omega
          generalize decide (n = cd) = q at *
          simp (config := {maxSteps := 2000000}) (disch := first | omega | (simp only [List.length_cons, List.length_nil, List.length_append, List.length_drop]; omega)) only [ca, e1, g1, d0, d1, d2, d3, d4, wc, ↓s_box, ↓s_len, x_lenS, ↓b_xor32, ↓b_and32, ↓b_or32, ↓u_not32, b_xor32, b_and32, b_or32, u_not32, w32ad, ↓x_conv, x_convV, ↓x_fieldAddr, x_fieldV, ↓s_nilchk, x_nilchk, Nat.zero_add, Nat.add_zero, Nat.mul_one, ↓s_evD, ↓s_dnil, ↓s_dL, ↓s_dLg, ↓s_dR, ↓s_dRg, ↓s_dRj, ↓s_dRjg, ↓s_dB, ↓s_dBg, ↓s_dAlloc, ↓s_bindD, s_bindD, s_finD, s_finDx, s_addP0, s_addP1, s_addB, s_lookP, ↓s_bump0, ↓s_bump_get, s_bump_next, s_ok0, ↓s_ok1, s_okR0, ↓s_okR1, ↓s_okE, s_okE, s_okE1, s_nth0, s_nthS, Nat.add_zero, Bool.and_self, Bool.and_true, Bool.true_and, ↓l_loop, ↓l_succ, ↓l_normal, l_normal, l_exit, l_ret, l_iteN, ↓h_put_get, ↓h_new_get, ↓h_del_get, h_next_put, h_next_new, h_next_del, Nat.add_assoc, Nat.add_eq_left, Nat.left_eq_add, Nat.add_left_cancel_iff, ↓s_load, m_load, ↓m_load1, m_load1, ↓m_st, m_stE, m_storeI, m_storeE, w_zero, w_succ, ↓s_alloc, ↓x_idxA, ↓x_idxS, x_idxAE, x_idxSE, x_addrE, x_idx, x_lenS, ↓s_len, ↓x_buildS, x_buildE, ↓x_P0, ↓x_P1, x_fill0, x_filli, x_fills, x_fillb, c_int, List.length_cons, List.length_nil, List.cons_append, List.drop_succ_cons, List.drop_zero, List.drop_nil, List.nil_append, Int.reduceAdd, Int.reduceToNat, Int.reduceLT, Int.reduceLE, Nat.reduceAdd, Nat.reduceMul, Nat.reduceLeDiff, Int.reduceEq, Int.reduceSub, Int.cast_ofNat_Int, s_resc, s_consR, m_load4, m_store4, s_res0, ↓s_skip, ↓s_ops, ↓s_dops, ↓s_seq, ↓s_cond, ↓s_block, ↓s_exit, ↓s_ret, ↓s_scope, ↓s_nil, ↓s_op, ↓s_opg, ↓s_wanted', ↓s_wantV, s_wantV, s_wantV0, beq_true, beq_false, ↓s_bindS, s_bindS, ↓s_bindE, s_bindE, s_bindE_ret, s_bindE_exit, s_bindE_iteN, s_norm, ↓s_condV, s_condV, s_block_ret, s_block_normal, s_block_exit, s_block_iteN, ↓s_getp, ↓s_getp0, ↓s_get, s_get0, ↓s_con, ↓s_fn, ↓s_os0, ↓s_os1, ↓s_list0, ↓s_list1, ↓s_mov, ↓s_pick, ↓s_pickE, s_pickE, ↓s_bin, ↓s_un, ↓s_minmax, ↓s_call, ↓s_callv, ↓s_callV, ↓s_ext, s_same, b_eql, b_neq, b_lss, b_leq, b_gtr, b_geq, b_add, b_sub, b_mul, b_eqlb, b_neqb, b_fnil, b_fnil', b_fnil2, b_fnil2', u_neg, u_not, m_two, s_end, s_end', s_end_iteN, s_res0, s_res1, s_tup1, s_tup2, ↓iteN_true, ↓iteN_false, iteN_true, iteN_false, Nat.zero_add, List.nil_append, List.append_nil, Nat.reduceEqDiff, reduceIte, decide_true, decide_false, Bool.not_true, Bool.not_false, List.getElem?_cons_zero, List.getElem?_cons_succ, Bool.false_eq_true, if_true, if_false, beq_self_eq_true]
      · rw [if_neg c5]
        have d0 : decide ((1 : Int) ≤ (cd : Int)) = true := decide_eq_true (by omega)
        have d3 : decide ((cd : Int) ≤ 75) = false := decide_eq_false (by omega)
        have d4 : decide ((n : Int) = 0) = decide (n = 0) := by rw [decide_eq_decide]; omega
        generalize decide (n = 0) = q at *
        simp (config := {maxSteps := 2000000}) (disch := first | omega | (simp only [List.length_cons, List.length_nil, List.length_append, List.length_drop]; omega)) only [ca, e1, g1, d0, d1, d2, d3, d4, wc, ↓s_box, ↓s_len, x_lenS, ↓b_xor32, ↓b_and32, ↓b_or32, ↓u_not32, b_xor32, b_and32, b_or32, u_not32, w32ad, ↓x_conv, x_convV, ↓x_fieldAddr, x_fieldV, ↓s_nilchk, x_nilchk, Nat.zero_add, Nat.add_zero, Nat.mul_one, ↓s_evD, ↓s_dnil, ↓s_dL, ↓s_dLg, ↓s_dR, ↓s_dRg, ↓s_dRj, ↓s_dRjg, ↓s_dB, ↓s_dBg, ↓s_dAlloc, ↓s_bindD, s_bindD, s_finD, s_finDx, s_addP0, s_addP1, s_addB, s_lookP, ↓s_bump0, ↓s_bump_get, s_bump_next, s_ok0, ↓s_ok1, s_okR0, ↓s_okR1, ↓s_okE, s_okE, s_okE1, s_nth0, s_nthS, Nat.add_zero, Bool.and_self, Bool.and_true, Bool.true_and, ↓l_loop, ↓l_succ, ↓l_normal, l_normal, l_exit, l_ret, l_iteN, ↓h_put_get, ↓h_new_get, ↓h_del_get, h_next_put, h_next_new, h_next_del, Nat.add_assoc, Nat.add_eq_left, Nat.left_eq_add, Nat.add_left_cancel_iff, ↓s_load, m_load, ↓m_load1, m_load1, ↓m_st, m_stE, m_storeI, m_storeE, w_zero, w_succ, ↓s_alloc, ↓x_idxA, ↓x_idxS, x_idxAE, x_idxSE, x_addrE, x_idx, x_lenS, ↓s_len, ↓x_buildS, x_buildE, ↓x_P0, ↓x_P1, x_fill0, x_filli, x_fills, x_fillb, c_int, List.length_cons, List.length_nil, List.cons_append, List.drop_succ_cons, List.drop_zero, List.drop_nil, List.nil_append, Int.reduceAdd, Int.reduceToNat, Int.reduceLT, Int.reduceLE, Nat.reduceAdd, Nat.reduceMul, Nat.reduceLeDiff, Int.reduceEq, Int.reduceSub, Int.cast_ofNat_Int, s_resc, s_consR, m_load4, m_store4, s_res0, ↓s_skip, ↓s_ops, ↓s_dops, ↓s_seq, ↓s_cond, ↓s_block, ↓s_exit, ↓s_ret, ↓s_scope, ↓s_nil, ↓s_op, ↓s_opg, ↓s_wanted', ↓s_wantV, s_wantV, s_wantV0, beq_true, beq_false, ↓s_bindS, s_bindS, ↓s_bindE, s_bindE, s_bindE_ret, s_bindE_exit, s_bindE_iteN, s_norm, ↓s_condV, s_condV, s_block_ret, s_block_normal, s_block_exit, s_block_iteN, ↓s_getp, ↓s_getp0, ↓s_get, s_get0, ↓s_con, ↓s_fn, ↓s_os0, ↓s_os1, ↓s_list0, ↓s_list1, ↓s_mov, ↓s_pick, ↓s_pickE, s_pickE, ↓s_bin, ↓s_un, ↓s_minmax, ↓s_call, ↓s_callv, ↓s_callV, ↓s_ext, s_same, b_eql, b_neq, b_lss, b_leq, b_gtr, b_geq, b_add, b_sub, b_mul, b_eqlb, b_neqb, b_fnil, b_fnil', b_fnil2, b_fnil2', u_neg, u_not, m_two, s_end, s_end', s_end_iteN, s_res0, s_res1, s_tup1, s_tup2, ↓iteN_true, ↓iteN_false, iteN_true, iteN_false, Nat.zero_add, List.nil_append, List.append_nil, Nat.reduceEqDiff, reduceIte, decide_true, decide_false, Bool.not_true, Bool.not_false, List.getElem?_cons_zero, List.getElem?_cons_succ, Bool.false_eq_true, if_true, if_false, beq_self_eq_true]
theorem lnB_76 (n : Nat) : lnB 76 n = [n % 256] := rfl
theorem lnB_77 (n : Nat) : lnB 77 n = [n % 256, n / 256 % 256] := rfl
theorem rbytes_go (e : EnRo E) (x : NoRo X) (N : Nat) (o : Oq) (hc : o.code < 256) (hl : o.l.length ≤ 900000) (a : Option (Nat × Nat)) (c : Option Nat) (ez : Nat) (h : H) (src : SrcH h a ez o.l) :
    ∃ h' a2 c2 e2, callX E X (N + 1) (.fn k_purserref10_bytes) [.agg [.int .u8 (o.code : Int), .slice a o.l.length c ez]] h = some (.slice a2 (oB o).length c2 e2, h') ∧ Kp h h' ∧ SrcH h' a2 e2 (oB o) := by
  rw [x_cfn e.by_ _ _ (Nat.le_of_ble_eq_true rfl) (x.by_ _ _)]
  have ca : ∀ l : List V, (V.agg l).cells = l := fun _ => rfl
  obtain ⟨h1, e1⟩ : ∃ h1, h.new (.cells [.int .u8 (o.code : Int), .slice a o.l.length c ez] .rw) = h1 := ⟨_, rfl⟩
  have k1 : Kp h h1 := by rw [← e1]; exact Kp.new _ _
  have n1 : h1.next = h.next + 1 := by rw [← e1]; rfl
  have g1 : h1.get h.next = some (.cells [.int .u8 (o.code : Int), .slice a o.l.length c ez] .rw) := by rw [← e1]; exact h_new_same _ _
  obtain ⟨h2, e2⟩ : ∃ h2, h1.new (.cells [.int .u8 (o.code : Int)] .rw) = h2 := ⟨_, rfl⟩
  have k2 : Kp h1 h2 := by rw [← e2]; exact Kp.new _ _
  have n2 : h2.next = h1.next + 1 := by rw [← e2]; rfl
  have g2 : h2.get h.next = some (.cells [.int .u8 (o.code : Int), .slice a o.l.length c ez] .rw) := by rw [k2.2 _ (by omega), g1]
  have sz2 : SzH h2 [o.code] (some (h1.next, 0)) (some 1) 1 := .inr ⟨o.code, h1.next, rfl, rfl, rfl, rfl, by rw [← e2]; exact h_new_same _ _, by omega⟩
  by_cases c6 : o.code = 76
  · have d1 : decide ((o.code : Int) = 76) = true := decide_eq_true (by omega)
    have d2 : decide ((o.code : Int) = 77) = false := decide_eq_false (by omega)
    obtain ⟨y, ey⟩ : ∃ y, o.l.length % 256 = y := ⟨_, rfl⟩
    have w8 : wr .u8 (o.l.length : Int) = (y : Int) := by rw [w8n, ey]
    obtain ⟨h3, e3⟩ : ∃ h3, h2.new (.cells [.int .u8 (y : Int)] .rw) = h3 := ⟨_, rfl⟩
    have k3 : Kp h2 h3 := by rw [← e3]; exact Kp.new _ _
    have sc3 : srcCells h3 1 (.slice (some (h2.next, 0)) 1 (some 1) 1) = some (1, ofI .u8 [y]) := by rw [← e3]; exact src1 h2 y
    have sz3 : SzH h3 [o.code] (some (h1.next, 0)) (some 1) 1 := .inr ⟨o.code, h1.next, rfl, rfl, rfl, rfl, by rw [k3.2 _ (by omega), ← e2]; exact h_new_same _ _, by have := k3.1; omega⟩
    obtain ⟨a4, c4, e4, h4, ap4, sz4, n4, f4, o4⟩ := ap_sz h3 [o.code] [y] _ _ _ sz3 (by simp)
    replace ap4 : appendC h3 1 1 (.slice (some (h1.next, 0)) 1 (some 1) 1) (some (1, ofI .u8 [y])) = some (.slice a4 2 c4 e4, h4) := ap4
    have kn3 := k3.1
    have fr4 : ∀ i, i < h1.next → h4.get i = h3.get i := fun i hi => f4 i (by omega) (fun e => by have := (Prod.mk.inj (Option.some.inj e)).1; omega)
    have g4 : h4.get h.next = some (.cells [.int .u8 (o.code : Int), .slice a o.l.length c ez] .rw) := by rw [fr4 _ (by omega), k3.2 _ (by omega), g2]
    have k14 : Kp h1 h4 := ⟨by omega, fun i hi => by rw [fr4 i hi, k3.2 _ (by omega), k2.2 _ hi]⟩
    have sc5 := ((src.mono k1).mono k14).cellz c
    obtain ⟨a5, c5, e5, h5, ap5, sz5, n5, f5, o5⟩ := ap_sz h4 [o.code, y] o.l a4 c4 e4 sz4 (by simp; omega)
    have eo : oB o = [o.code, y] ++ o.l := by unfold oB; rw [c6, lnB_76, ey]; rfl
    replace ap5 : appendC h4 1 1 (.slice a4 2 c4 e4) (some (o.l.length, ofI .u8 o.l)) = _ := ap5
    rw [← eo] at ap5 sz5
    have na4 : ∀ i, i < h1.next → a4 ≠ some (i, 0) := fun i hi e => by
      rcases o4 with o4 | o4
      · rw [o4] at e; have := (Prod.mk.inj (Option.some.inj e)).1; omega
      · rw [o4] at e; have := (Prod.mk.inj (Option.some.inj e)).1; omega
    refine ⟨h5, a5, c5, e5, ?_, ⟨by omega, fun i hi => by rw [f5 i (by omega) (na4 i (by omega)), k14.2 _ (by omega), k1.2 _ hi]⟩, sz5.src⟩
    obtain ⟨N5, eN5⟩ : ∃ n, (oB o).length = n := ⟨_, rfl⟩
    rw [eN5] at ap5 ⊢
    generalize o.l.length = n at *
    simp (config := {maxSteps := 2000000}) (disch := first | omega | (simp only [List.length_cons, List.length_nil, List.length_append, List.length_drop]; omega)) only [ca, e1, g1, e2, g2, e3, g4, d1, d2, w8, sc3, ap4, sc5, ap5, ↓s_box, ↓s_append, ↓s_len, x_lenS, ↓b_xor32, ↓b_and32, ↓b_or32, ↓u_not32, b_xor32, b_and32, b_or32, u_not32, w32ad, ↓x_conv, x_convV, ↓x_fieldAddr, x_fieldV, ↓s_nilchk, x_nilchk, Nat.zero_add, Nat.add_zero, Nat.mul_one, ↓s_evD, ↓s_dnil, ↓s_dL, ↓s_dLg, ↓s_dR, ↓s_dRg, ↓s_dRj, ↓s_dRjg, ↓s_dB, ↓s_dBg, ↓s_dAlloc, ↓s_bindD, s_bindD, s_finD, s_finDx, s_addP0, s_addP1, s_addB, s_lookP, ↓s_bump0, ↓s_bump_get, s_bump_next, s_ok0, ↓s_ok1, s_okR0, ↓s_okR1, ↓s_okE, s_okE, s_okE1, s_nth0, s_nthS, Nat.add_zero, Bool.and_self, Bool.and_true, Bool.true_and, ↓l_loop, ↓l_succ, ↓l_normal, l_normal, l_exit, l_ret, l_iteN, ↓h_put_get, ↓h_new_get, ↓h_del_get, h_next_put, h_next_new, h_next_del, Nat.add_assoc, Nat.add_eq_left, Nat.left_eq_add, Nat.add_left_cancel_iff, ↓s_load, m_load, ↓m_load1, m_load1, ↓m_st, m_stE, m_storeI, m_storeE, w_zero, w_succ, ↓s_alloc, ↓x_idxA, ↓x_idxS, x_idxAE, x_idxSE, x_addrE, x_idx, x_lenS, ↓s_len, ↓x_buildS, x_buildE, ↓x_P0, ↓x_P1, x_fill0, x_filli, x_fills, x_fillb, c_int, List.length_cons, List.length_nil, List.cons_append, List.drop_succ_cons, List.drop_zero, List.drop_nil, List.nil_append, Int.reduceAdd, Int.reduceToNat, Int.reduceLT, Int.reduceLE, Nat.reduceAdd, Nat.reduceMul, Nat.reduceLeDiff, Int.reduceEq, Int.reduceSub, Int.cast_ofNat_Int, s_resc, s_consR, m_load4, m_store4, s_res0, ↓s_skip, ↓s_ops, ↓s_dops, ↓s_seq, ↓s_cond, ↓s_block, ↓s_exit, ↓s_ret, ↓s_scope, ↓s_nil, ↓s_op, ↓s_opg, ↓s_wanted', ↓s_wantV, s_wantV, s_wantV0, beq_true, beq_false, ↓s_bindS, s_bindS, ↓s_bindE, s_bindE, s_bindE_ret, s_bindE_exit, s_bindE_iteN, s_norm, ↓s_condV, s_condV, s_block_ret, s_block_normal, s_block_exit, s_block_iteN, ↓s_getp, ↓s_getp0, ↓s_get, s_get0, ↓s_con, ↓s_fn, ↓s_os0, ↓s_os1, ↓s_list0, ↓s_list1, ↓s_mov, ↓s_pick, ↓s_pickE, s_pickE, ↓s_bin, ↓s_un, ↓s_minmax, ↓s_call, ↓s_callv, ↓s_callV, ↓s_ext, s_same, b_eql, b_neq, b_lss, b_leq, b_gtr, b_geq, b_add, b_sub, b_mul, b_eqlb, b_neqb, b_fnil, b_fnil', b_fnil2, b_fnil2', u_neg, u_not, m_two, s_end, s_end', s_end_iteN, s_res0, s_res1, s_tup1, s_tup2, ↓iteN_true, ↓iteN_false, iteN_true, iteN_false, Nat.zero_add, List.nil_append, List.append_nil, Nat.reduceEqDiff, reduceIte, decide_true, decide_false, Bool.not_true, Bool.not_false, List.getElem?_cons_zero, List.getElem?_cons_succ, Bool.false_eq_true, if_true, if_false, beq_self_eq_true]
  · have d1 : decide ((o.code : Int) = 76) = false := decide_eq_false (by omega)
    by_cases c7 : o.code = 77
    · have d2 : decide ((o.code : Int) = 77) = true := decide_eq_true (by omega)
      obtain ⟨y, ey⟩ : ∃ y, o.l.length % 256 = y := ⟨_, rfl⟩
      obtain ⟨z, ez'⟩ : ∃ y, o.l.length / 256 = y := ⟨_, rfl⟩
      obtain ⟨z', ez''⟩ : ∃ y, z % 256 = y := ⟨_, rfl⟩
      have rm : ∀ (e : EqK) (h : H), binV .rem e h (.int .i64 (o.l.length : Int)) (.int .i64 256) = some (.int .i64 (y : Int)) := fun e h => by
        rw [← ey]
        rw [b_rem _ _ _ _ _ (by omega)]; rfl
      have qu : ∀ (e : EqK) (h : H), binV .quo e h (.int .i64 (o.l.length : Int)) (.int .i64 256) = some (.int .i64 (z : Int)) := fun e h => by
        rw [← ez']
        rw [b_quo _ _ _ _ _ (by omega), show Int.tdiv (o.l.length : Int) 256 = ((o.l.length / 256 : Nat) : Int) from rfl, wr_i64 (by omega)]
      have w8 : wr .u8 (y : Int) = (y : Int) := by rw [w8n, Nat.mod_eq_of_lt (by omega)]
      have w9 : wr .u8 (z : Int) = (z' : Int) := by rw [w8n, ez'']
      obtain ⟨h3, e3⟩ : ∃ h3, h2.new (.cells [.int .u8 (y : Int), .int .u8 (z' : Int)] .rw) = h3 := ⟨_, rfl⟩
      have k3 : Kp h2 h3 := by rw [← e3]; exact Kp.new _ _
      have sc3 : srcCells h3 1 (.slice (some (h2.next, 0)) 2 (some 2) 1) = some (2, ofI .u8 [y, z']) := by rw [← e3, m_src, h_new_same]; rfl
      have sz3 : SzH h3 [o.code] (some (h1.next, 0)) (some 1) 1 := .inr ⟨o.code, h1.next, rfl, rfl, rfl, rfl, by rw [k3.2 _ (by omega), ← e2]; exact h_new_same _ _, by have := k3.1; omega⟩
      obtain ⟨a4, c4, e4, h4, ap4, sz4, n4, f4, o4⟩ := ap_sz h3 [o.code] [y, z'] _ _ _ sz3 (by simp)
      replace ap4 : appendC h3 1 1 (.slice (some (h1.next, 0)) 1 (some 1) 1) (some (2, ofI .u8 [y, z'])) = some (.slice a4 3 c4 e4, h4) := ap4
      have kn3 := k3.1
      have fr4 : ∀ i, i < h1.next → h4.get i = h3.get i := fun i hi => f4 i (by omega) (fun e => by have := (Prod.mk.inj (Option.some.inj e)).1; omega)
      have g4 : h4.get h.next = some (.cells [.int .u8 (o.code : Int), .slice a o.l.length c ez] .rw) := by rw [fr4 _ (by omega), k3.2 _ (by omega), g2]
      have k14 : Kp h1 h4 := ⟨by omega, fun i hi => by rw [fr4 i hi, k3.2 _ (by omega), k2.2 _ hi]⟩
      have sc5 := ((src.mono k1).mono k14).cellz c
      obtain ⟨a5, c5, e5, h5, ap5, sz5, n5, f5, o5⟩ := ap_sz h4 [o.code, y, z'] o.l a4 c4 e4 sz4 (by simp; omega)
      have eo : oB o = [o.code, y, z'] ++ o.l := by unfold oB; rw [c7, lnB_77, ey, ez', ez'']; rfl
      replace ap5 : appendC h4 1 1 (.slice a4 3 c4 e4) (some (o.l.length, ofI .u8 o.l)) = _ := ap5
      rw [← eo] at ap5 sz5
      have na4 : ∀ i, i < h1.next → a4 ≠ some (i, 0) := fun i hi e => by
        rcases o4 with o4 | o4
        · rw [o4] at e; have := (Prod.mk.inj (Option.some.inj e)).1; omega
        · rw [o4] at e; have := (Prod.mk.inj (Option.some.inj e)).1; omega
      refine ⟨h5, a5, c5, e5, ?_, ⟨by omega, fun i hi => by rw [f5 i (by omega) (na4 i (by omega)), k14.2 _ (by omega), k1.2 _ hi]⟩, sz5.src⟩
      obtain ⟨N5, eN5⟩ : ∃ n, (oB o).length = n := ⟨_, rfl⟩
      rw [eN5] at ap5 ⊢
      generalize o.l.length = n at *
      simp (config := {maxSteps := 2000000}) (disch := first | omega | (simp only [List.length_cons, List.length_nil, List.length_append, List.length_drop]; omega)) only [ca, e1, g1, e2, g2, e3, g4, d1, d2, rm, qu, w8, w9, sc3, ap4, sc5, ap5, ↓s_box, ↓s_append, ↓s_len, x_lenS, ↓b_xor32, ↓b_and32, ↓b_or32, ↓u_not32, b_xor32, b_and32, b_or32, u_not32, w32ad, ↓x_conv, x_convV, ↓x_fieldAddr, x_fieldV, ↓s_nilchk, x_nilchk, Nat.zero_add, Nat.add_zero, Nat.mul_one, ↓s_evD, ↓s_dnil, ↓s_dL, ↓s_dLg, ↓s_dR, ↓s_dRg, ↓s_dRj, ↓s_dRjg, ↓s_dB, ↓s_dBg, ↓s_dAlloc, ↓s_bindD, s_bindD, s_finD, s_finDx, s_addP0, s_addP1, s_addB, s_lookP, ↓s_bump0, ↓s_bump_get, s_bump_next, s_ok0, ↓s_ok1, s_okR0, ↓s_okR1, ↓s_okE, s_okE, s_okE1, s_nth0, s_nthS, Nat.add_zero, Bool.and_self, Bool.and_true, Bool.true_and, ↓l_loop, ↓l_succ, ↓l_normal, l_normal, l_exit, l_ret, l_iteN, ↓h_put_get, ↓h_new_get, ↓h_del_get, h_next_put, h_next_new, h_next_del, Nat.add_assoc, Nat.add_eq_left, Nat.left_eq_add, Nat.add_left_cancel_iff, ↓s_load, m_load, ↓m_load1, m_load1, ↓m_st, m_stE, m_storeI, m_storeE, w_zero, w_succ, ↓s_alloc, ↓x_idxA, ↓x_idxS, x_idxAE, x_idxSE, x_addrE, x_idx, x_lenS, ↓s_len, ↓x_buildS, x_buildE, ↓x_P0, ↓x_P1, x_fill0, x_filli, x_fills, x_fillb, c_int, List.length_cons, List.length_nil, List.cons_append, List.drop_succ_cons, List.drop_zero, List.drop_nil, List.nil_append, Int.reduceAdd, Int.reduceToNat, Int.reduceLT, Int.reduceLE, Nat.reduceAdd, Nat.reduceMul, Nat.reduceLeDiff, Int.reduceEq, Int.reduceSub, Int.cast_ofNat_Int, s_resc, s_consR, m_load4, m_store4, s_res0, ↓s_skip, ↓s_ops, ↓s_dops, ↓s_seq, ↓s_cond, ↓s_block, ↓s_exit, ↓s_ret, ↓s_scope, ↓s_nil, ↓s_op, ↓s_opg, ↓s_wanted', ↓s_wantV, s_wantV, s_wantV0, beq_true, beq_false, ↓s_bindS, s_bindS, ↓s_bindE, s_bindE, s_bindE_ret, s_bindE_exit, s_bindE_iteN, s_norm, ↓s_condV, s_condV, s_block_ret, s_block_normal, s_block_exit, s_block_iteN, ↓s_getp, ↓s_getp0, ↓s_get, s_get0, ↓s_con, ↓s_fn, ↓s_os0, ↓s_os1, ↓s_list0, ↓s_list1, ↓s_mov, ↓s_pick, ↓s_pickE, s_pickE, ↓s_bin, ↓s_un, ↓s_minmax, ↓s_call, ↓s_callv, ↓s_callV, ↓s_ext, s_same, b_eql, b_neq, b_lss, b_leq, b_gtr, b_geq, b_add, b_sub, b_mul, b_eqlb, b_neqb, b_fnil, b_fnil', b_fnil2, b_fnil2', u_neg, u_not, m_two, s_end, s_end', s_end_iteN, s_res0, s_res1, s_tup1, s_tup2, ↓iteN_true, ↓iteN_false, iteN_true, iteN_false, Nat.zero_add, List.nil_append, List.append_nil, Nat.reduceEqDiff, reduceIte, decide_true, decide_false, Bool.not_true, Bool.not_false, List.getElem?_cons_zero, List.getElem?_cons_succ, Bool.false_eq_true, if_true, if_false, beq_self_eq_true]
    · have d2 : decide ((o.code : Int) = 77) = false := decide_eq_false (by omega)
      have sc5 := ((src.mono k1).mono k2).cellz c
      obtain ⟨a5, c5, e5, h5, ap5, sz5, n5, f5, o5⟩ := ap_sz h2 [o.code] o.l _ _ _ sz2 (by simp; omega)
      have eo : oB o = [o.code] ++ o.l := by unfold oB lnB; rw [if_neg c7, if_neg c6]; rfl
      replace ap5 : appendC h2 1 1 (.slice (some (h1.next, 0)) 1 (some 1) 1) (some (o.l.length, ofI .u8 o.l)) = _ := ap5
      rw [← eo] at ap5 sz5
      refine ⟨h5, a5, c5, e5, ?_, ⟨by omega, fun i hi => by rw [f5 i (by omega) (fun e => by have := (Prod.mk.inj (Option.some.inj e)).1; omega), k2.2 _ (by omega), k1.2 _ hi]⟩, sz5.src⟩
      obtain ⟨N5, eN5⟩ : ∃ n, (oB o).length = n := ⟨_, rfl⟩
      rw [eN5] at ap5 ⊢
      generalize o.l.length = n at *
      simp (config := {maxSteps := 2000000}) (disch := first | omega | (simp only [List.length_cons, List.length_nil, List.length_append, List.length_drop]; omega)) only [ca, e1, g1, e2, g2, d1, d2, sc5, ap5, ↓s_box, ↓s_append, ↓s_len, x_lenS, ↓b_xor32, ↓b_and32, ↓b_or32, ↓u_not32, b_xor32, b_and32, b_or32, u_not32, w32ad, ↓x_conv, x_convV, ↓x_fieldAddr, x_fieldV, ↓s_nilchk, x_nilchk, Nat.zero_add, Nat.add_zero, Nat.mul_one, ↓s_evD, ↓s_dnil, ↓s_dL, ↓s_dLg, ↓s_dR, ↓s_dRg, ↓s_dRj, ↓s_dRjg, ↓s_dB, ↓s_dBg, ↓s_dAlloc, ↓s_bindD, s_bindD, s_finD, s_finDx, s_addP0, s_addP1, s_addB, s_lookP, ↓s_bump0, ↓s_bump_get, s_bump_next, s_ok0, ↓s_ok1, s_okR0, ↓s_okR1, ↓s_okE, s_okE, s_okE1, s_nth0, s_nthS, Nat.add_zero, Bool.and_self, Bool.and_true, Bool.true_and, ↓l_loop, ↓l_succ, ↓l_normal, l_normal, l_exit, l_ret, l_iteN, ↓h_put_get, ↓h_new_get, ↓h_del_get, h_next_put, h_next_new, h_next_del, Nat.add_assoc, Nat.add_eq_left, Nat.left_eq_add, Nat.add_left_cancel_iff, ↓s_load, m_load, ↓m_load1, m_load1, ↓m_st, m_stE, m_storeI, m_storeE, w_zero, w_succ, ↓s_alloc, ↓x_idxA, ↓x_idxS, x_idxAE, x_idxSE, x_addrE, x_idx, x_lenS, ↓s_len, ↓x_buildS, x_buildE, ↓x_P0, ↓x_P1, x_fill0, x_filli, x_fills, x_fillb, c_int, List.length_cons, List.length_nil, List.cons_append, List.drop_succ_cons, List.drop_zero, List.drop_nil, List.nil_append, Int.reduceAdd, Int.reduceToNat, Int.reduceLT, Int.reduceLE, Nat.reduceAdd, Nat.reduceMul, Nat.reduceLeDiff, Int.reduceEq, Int.reduceSub, Int.cast_ofNat_Int, s_resc, s_consR, m_load4, m_store4, s_res0, ↓s_skip, ↓s_ops, ↓s_dops, ↓s_seq, ↓s_cond, ↓s_block, ↓s_exit, ↓s_ret, ↓s_scope, ↓s_nil, ↓s_op, ↓s_opg, ↓s_wanted', ↓s_wantV, s_wantV, s_wantV0, beq_true, beq_false, ↓s_bindS, s_bindS, ↓s_bindE, s_bindE, s_bindE_ret, s_bindE_exit, s_bindE_iteN, s_norm, ↓s_condV, s_condV, s_block_ret, s_block_normal, s_block_exit, s_block_iteN, ↓s_getp, ↓s_getp0, ↓s_get, s_get0, ↓s_con, ↓s_fn, ↓s_os0, ↓s_os1, ↓s_list0, ↓s_list1, ↓s_mov, ↓s_pick, ↓s_pickE, s_pickE, ↓s_bin, ↓s_un, ↓s_minmax, ↓s_call, ↓s_callv, ↓s_callV, ↓s_ext, s_same, b_eql, b_neq, b_lss, b_leq, b_gtr, b_geq, b_add, b_sub, b_mul, b_eqlb, b_neqb, b_fnil, b_fnil', b_fnil2, b_fnil2', u_neg, u_not, m_two, s_end, s_end', s_end_iteN, s_res0, s_res1, s_tup1, s_tup2, ↓iteN_true, ↓iteN_false, iteN_true, iteN_false, Nat.zero_add, List.nil_append, List.append_nil, Nat.reduceEqDiff, reduceIte, decide_true, decide_false, Bool.not_true, Bool.not_false, List.getElem?_cons_zero, List.getElem?_cons_succ, Bool.false_eq_true, if_true, if_false, beq_self_eq_true]
end Go.Eng
namespace Go.Eng
open Go
variable {E : Nat → Option Fn} {X : Orc}
set_option linter.unusedSimpArgs false
set_option linter.unusedVariables false
structure RjI (v : V) (ops : List Oq) (h0 : H) (i : Nat) (T : Tr V) (h : H) : Prop where
  il : i ≤ ops.length
  t0 : evO T (.t 0) = v
  t5 : evO T (.t 5) = .int .i64 (i : Int)
  st : ∃ a c e, evO T (.t 4) = .slice a (wB (ops.take i)).length c e ∧ Nw h0 h (wB (ops.take i)) a c e
theorem oB_in (ops : List Oq) (i : Nat) (o : Oq) (ho : ops[i]? = some o) : (wB (ops.take i)).length + (oB o).length ≤ (wB ops).length := by
  have := wB_succ ops i o ho
  have h2 := wB_take_le ops (i + 1)
  rw [this, List.length_append] at h2; omega
theorem rj_step (e : EnRo E) (x : NoRo X) (M m : Nat) (ops : List Oq) (hl : ops.length ≤ 1000000) (hw : (wB ops).length ≤ 800000) (hc : ∀ o ∈ ops, o.code < 256) (a : Option (Nat × Nat)) (c : Option Nat) (ez : Nat) (h0 : H) (row : RowS h0 ops a ez) (i : Nat) (o : Oq) (ho : ops[i]? = some o) (T : Tr V) (h : H) (I : RjI (.slice a ops.length c ez) ops h0 i T h) :
    ∃ T' h', (okO o = true → evC (callX E X (M + 1)) 28 m none L_purserref10_Join_0 ⟨T, [], h⟩ = some (.normal, ⟨T', [], h'⟩) ∧ RjI (.slice a ops.length c ez) ops h0 (i + 1) T' h') ∧ (okO o = false → evC (callX E X (M + 1)) 28 m none L_purserref10_Join_0 ⟨T, [], h⟩ = some (.ret, ⟨T', [], h'⟩) ∧ evO T' (.t 2) = .slice none 0 (some 0) 0 ∧ evO T' (.t 3) = .int .i64 100 ∧ Kp h0 h') := by
  have hi : i < ops.length := (List.getElem?_eq_some_iff.1 ho).1
  obtain ⟨_, t0, t5, ⟨aw, cw, ew, t4, nw⟩⟩ := I
  have c0 : decide ((i : Int) < (ops.length : Int)) = true := decide_eq_true (by omega)
  have wi : wr .i64 ((i : Int) + 1) = ((i + 1 : Nat) : Int) := by rw [wr_i64 (by omega)]; omega
  have ix : idx (i : Int) ops.length = some i := idxn hi
  have hcode := hc o (List.mem_of_getElem? ho)
  obtain ⟨q, off, vs, md, b, cb, eb, rfl, rfl, hq, gq', ld, sb, _⟩ := row_at row i o ho
  have gv : h.get q = some (.cells vs md) := by rw [nw.kp.2 _ hq, gq']
  have oin := oB_in ops i o ho
  have ob := oB_len o
  obtain ⟨h1, rv, k1⟩ := rmay_go e x M o hcode (by omega) b cb eb h
  have gv1 : h1.get q = some (.cells vs md) := by rw [(nw.kp.trans k1).2 _ hq, gq']
  have i1 : i + 1 ≤ ops.length := hi
  cases hv : okO o with
  | false =>
    rw [hv] at rv
    obtain ⟨T', r, u2, u3⟩ : ∃ T', evC (callX E X (M + 1)) 28 m none L_purserref10_Join_0 ⟨T, [], h⟩ = some (.ret, ⟨T', [], h1⟩) ∧ evO T' (.t 2) = .slice none 0 (some 0) 0 ∧ evO T' (.t 3) = .int .i64 100 := by
      generalize ops.length = on at *
      generalize o.l.length = ol at *
      exact ⟨_, by
        simp (config := {maxSteps := 2000000}) (disch := first | omega | (simp only [List.length_cons, List.length_nil, List.length_append, List.length_drop]; omega)) only [L_purserref10_Join_0, t0, t4, t5, gv, ld, rv, c0, ix, ↓s_len, x_lenS, ↓b_xor32, ↓b_and32, ↓b_or32, ↓u_not32, b_xor32, b_and32, b_or32, u_not32, w32ad, ↓x_conv, x_convV, ↓x_fieldAddr, x_fieldV, ↓s_nilchk, x_nilchk, Nat.zero_add, Nat.add_zero, Nat.mul_one, ↓s_evD, ↓s_dnil, ↓s_dL, ↓s_dLg, ↓s_dR, ↓s_dRg, ↓s_dRj, ↓s_dRjg, ↓s_dB, ↓s_dBg, ↓s_dAlloc, ↓s_bindD, s_bindD, s_finD, s_finDx, s_addP0, s_addP1, s_addB, s_lookP, ↓s_bump0, ↓s_bump_get, s_bump_next, s_ok0, ↓s_ok1, s_okR0, ↓s_okR1, ↓s_okE, s_okE, s_okE1, s_nth0, s_nthS, Nat.add_zero, Bool.and_self, Bool.and_true, Bool.true_and, ↓l_loop, ↓l_succ, ↓l_normal, l_normal, l_exit, l_ret, l_iteN, ↓h_put_get, ↓h_new_get, ↓h_del_get, h_next_put, h_next_new, h_next_del, Nat.add_assoc, Nat.add_eq_left, Nat.left_eq_add, Nat.add_left_cancel_iff, ↓s_load, m_load, ↓m_load1, m_load1, ↓m_st, m_stE, m_storeI, m_storeE, w_zero, w_succ, ↓s_alloc, ↓x_idxA, ↓x_idxS, x_idxAE, x_idxSE, x_addrE, x_idx, x_lenS, ↓s_len, ↓x_buildS, x_buildE, ↓x_P0, ↓x_P1, x_fill0, x_filli, x_fills, x_fillb, c_int, List.length_cons, List.length_nil, List.cons_append, List.drop_succ_cons, List.drop_zero, List.drop_nil, List.nil_append, Int.reduceAdd, Int.reduceToNat, Int.reduceLT, Int.reduceLE, Nat.reduceAdd, Nat.reduceMul, Nat.reduceLeDiff, Int.reduceEq, Int.reduceSub, Int.cast_ofNat_Int, s_resc, s_consR, m_load4, m_store4, s_res0, ↓s_skip, ↓s_ops, ↓s_dops, ↓s_seq, ↓s_cond, ↓s_block, ↓s_exit, ↓s_ret, ↓s_scope, ↓s_nil, ↓s_op, ↓s_opg, ↓s_wanted', ↓s_wantV, s_wantV, s_wantV0, beq_true, beq_false, ↓s_bindS, s_bindS, ↓s_bindE, s_bindE, s_bindE_ret, s_bindE_exit, s_bindE_iteN, s_norm, ↓s_condV, s_condV, s_block_ret, s_block_normal, s_block_exit, s_block_iteN, ↓s_getp, ↓s_getp0, ↓s_get, s_get0, ↓s_con, ↓s_fn, ↓s_os0, ↓s_os1, ↓s_list0, ↓s_list1, ↓s_mov, ↓s_pick, ↓s_pickE, s_pickE, ↓s_bin, ↓s_un, ↓s_minmax, ↓s_call, ↓s_callv, ↓s_callV, ↓s_ext, s_same, b_eql, b_neq, b_lss, b_leq, b_gtr, b_geq, b_add, b_sub, b_mul, b_eqlb, b_neqb, b_fnil, b_fnil', b_fnil2, b_fnil2', u_neg, u_not, m_two, s_end, s_end', s_end_iteN, s_res0, s_res1, s_tup1, s_tup2, ↓iteN_true, ↓iteN_false, iteN_true, iteN_false, Nat.zero_add, List.nil_append, List.append_nil, Nat.reduceEqDiff, reduceIte, decide_true, decide_false, Bool.not_true, Bool.not_false, List.getElem?_cons_zero, List.getElem?_cons_succ, Bool.false_eq_true, if_true, if_false, beq_self_eq_true]
        exact rfl, (by (simp only [s_getp, s_getp0, Nat.reduceEqDiff, decide_false, decide_true, iteN_false, iteN_true, t0]; try rfl)), (by (simp only [s_getp, s_getp0, Nat.reduceEqDiff, decide_false, decide_true, iteN_false, iteN_true, t0]; try rfl))⟩
    exact ⟨T', h1, fun h => (by cases h), fun _ => ⟨r, u2, u3, nw.kp.trans k1⟩⟩
  | true =>
    rw [hv] at rv
    obtain ⟨h2, a2, c2, e2, r2, k2, s2⟩ := rbytes_go e x M o hcode (by omega) b cb eb h1 ((sb.mono nw.kp).mono k1)
    have sc := s2.cellz c2
    obtain ⟨a3, c3, e3, h3, ap3, nw3, _, _, _⟩ := ((nw.more k1).more k2).ap (oB o) (by omega)
    rw [← wB_succ ops i o ho] at ap3 nw3
    obtain ⟨N1, eN1⟩ : ∃ n, (wB (ops.take i)).length = n := ⟨_, rfl⟩
    obtain ⟨N2, eN2⟩ : ∃ n, (wB (ops.take (i + 1))).length = n := ⟨_, rfl⟩
    obtain ⟨N3, eN3⟩ : ∃ n, (oB o).length = n := ⟨_, rfl⟩
    obtain ⟨on, eon⟩ : ∃ n, ops.length = n := ⟨_, rfl⟩
    obtain ⟨ol, eol⟩ : ∃ n, o.l.length = n := ⟨_, rfl⟩
    rw [eN1] at t4 ap3
    rw [eN2] at ap3
    rw [eN3] at r2 sc ap3
    rw [eon] at t0 c0 ix
    rw [eol] at ld rv r2
    obtain ⟨T', r, u0, u4, u5⟩ : ∃ T', evC (callX E X (M + 1)) 28 m none L_purserref10_Join_0 ⟨T, [], h⟩ = some (.normal, ⟨T', [], h3⟩) ∧ evO T' (.t 0) = .slice (some (q, off)) on c 2 ∧ evO T' (.t 4) = .slice a3 N2 c3 e3 ∧ evO T' (.t 5) = .int .i64 ((i + 1 : Nat) : Int) := by
      exact ⟨_, by
        simp (config := {maxSteps := 2000000}) (disch := first | omega | (simp only [List.length_cons, List.length_nil, List.length_append, List.length_drop]; omega)) only [L_purserref10_Join_0, t0, t4, t5, gv, gv1, ld, rv, r2, sc, ap3, c0, ix, wi, ↓s_append, ↓s_len, x_lenS, ↓b_xor32, ↓b_and32, ↓b_or32, ↓u_not32, b_xor32, b_and32, b_or32, u_not32, w32ad, ↓x_conv, x_convV, ↓x_fieldAddr, x_fieldV, ↓s_nilchk, x_nilchk, Nat.zero_add, Nat.add_zero, Nat.mul_one, ↓s_evD, ↓s_dnil, ↓s_dL, ↓s_dLg, ↓s_dR, ↓s_dRg, ↓s_dRj, ↓s_dRjg, ↓s_dB, ↓s_dBg, ↓s_dAlloc, ↓s_bindD, s_bindD, s_finD, s_finDx, s_addP0, s_addP1, s_addB, s_lookP, ↓s_bump0, ↓s_bump_get, s_bump_next, s_ok0, ↓s_ok1, s_okR0, ↓s_okR1, ↓s_okE, s_okE, s_okE1, s_nth0, s_nthS, Nat.add_zero, Bool.and_self, Bool.and_true, Bool.true_and, ↓l_loop, ↓l_succ, ↓l_normal, l_normal, l_exit, l_ret, l_iteN, ↓h_put_get, ↓h_new_get, ↓h_del_get, h_next_put, h_next_new, h_next_del, Nat.add_assoc, Nat.add_eq_left, Nat.left_eq_add, Nat.add_left_cancel_iff, ↓s_load, m_load, ↓m_load1, m_load1, ↓m_st, m_stE, m_storeI, m_storeE, w_zero, w_succ, ↓s_alloc, ↓x_idxA, ↓x_idxS, x_idxAE, x_idxSE, x_addrE, x_idx, x_lenS, ↓s_len, ↓x_buildS, x_buildE, ↓x_P0, ↓x_P1, x_fill0, x_filli, x_fills, x_fillb, c_int, List.length_cons, List.length_nil, List.cons_append, List.drop_succ_cons, List.drop_zero, List.drop_nil, List.nil_append, Int.reduceAdd, Int.reduceToNat, Int.reduceLT, Int.reduceLE, Nat.reduceAdd, Nat.reduceMul, Nat.reduceLeDiff, Int.reduceEq, Int.reduceSub, Int.cast_ofNat_Int, s_resc, s_consR, m_load4, m_store4, s_res0, ↓s_skip, ↓s_ops, ↓s_dops, ↓s_seq, ↓s_cond, ↓s_block, ↓s_exit, ↓s_ret, ↓s_scope, ↓s_nil, ↓s_op, ↓s_opg, ↓s_wanted', ↓s_wantV, s_wantV, s_wantV0, beq_true, beq_false, ↓s_bindS, s_bindS, ↓s_bindE, s_bindE, s_bindE_ret, s_bindE_exit, s_bindE_iteN, s_norm, ↓s_condV, s_condV, s_block_ret, s_block_normal, s_block_exit, s_block_iteN, ↓s_getp, ↓s_getp0, ↓s_get, s_get0, ↓s_con, ↓s_fn, ↓s_os0, ↓s_os1, ↓s_list0, ↓s_list1, ↓s_mov, ↓s_pick, ↓s_pickE, s_pickE, ↓s_bin, ↓s_un, ↓s_minmax, ↓s_call, ↓s_callv, ↓s_callV, ↓s_ext, s_same, b_eql, b_neq, b_lss, b_leq, b_gtr, b_geq, b_add, b_sub, b_mul, b_eqlb, b_neqb, b_fnil, b_fnil', b_fnil2, b_fnil2', u_neg, u_not, m_two, s_end, s_end', s_end_iteN, s_res0, s_res1, s_tup1, s_tup2, ↓iteN_true, ↓iteN_false, iteN_true, iteN_false, Nat.zero_add, List.nil_append, List.append_nil, Nat.reduceEqDiff, reduceIte, decide_true, decide_false, Bool.not_true, Bool.not_false, List.getElem?_cons_zero, List.getElem?_cons_succ, Bool.false_eq_true, if_true, if_false, beq_self_eq_true]
        exact rfl, (by (simp only [s_getp, s_getp0, Nat.reduceEqDiff, decide_false, decide_true, iteN_false, iteN_true, t0]; try rfl)), (by (simp only [s_getp, s_getp0, Nat.reduceEqDiff, decide_false, decide_true, iteN_false, iteN_true, t0]; try rfl)), (by (simp only [s_getp, s_getp0, Nat.reduceEqDiff, decide_false, decide_true, iteN_false, iteN_true, t0]; try rfl))⟩
    exact ⟨T', h3, fun _ => ⟨r, i1, by rw [eon]; exact u0, u5, a3, c3, e3, by rw [eN2]; exact u4, nw3⟩, fun h => by cases h⟩
theorem rjoin_go (e : EnRo E) (x : NoRo X) (M : Nat) (ops : List Oq) (hl : ops.length ≤ 1000000) (hM : ops.length < M) (hw : (wB ops).length ≤ 800000) (hc : ∀ o ∈ ops, o.code < 256) (a : Option (Nat × Nat)) (c : Option Nat) (ez : Nat) (h : H) (row : RowS h ops a ez) :
    ∃ h' a2 c2 e2, callX E X (M + 2) (.fn k_purserref10_Join) [.slice a ops.length c ez] h = some (.tup [.slice a2 (joR ops).1.length c2 e2, .int .i64 ((joR ops).2 : Int)], h') ∧ Nw h h' (joR ops).1 a2 c2 e2 := by
  rw [x_cfn e.jo _ _ (Nat.le_of_ble_eq_true rfl) (x.jo _ _)]
  have fin : ∀ T, RjI (.slice a ops.length c ez) ops h 0 T h → ∃ h' a2 c2 e2, fnEnd [.tmp 2, .tmp 3] (bindE (blockE 0 (loopN (evC (callX E X (M + 1)) 28 (M + 1) none L_purserref10_Join_0) (M + 1) ⟨T, [], h⟩)) (evC (callX E X (M + 1)) 28 (M + 1) none R_purserref10_Join_0)) = some (.tup [.slice a2 (joR ops).1.length c2 e2, .int .i64 ((joR ops).2 : Int)], h') ∧ Nw h h' (joR ops).1 a2 c2 e2 := by
    intro T I
    unfold joR
    rcases ok_or ops with ok | ⟨j, o, ho, vo, hb⟩
    · rw [if_pos (List.all_eq_true.2 ok)]
      obtain ⟨T', h', rr, J⟩ := loop_go (f := evC (callX E X (M + 1)) 28 (M + 1) none L_purserref10_Join_0) (RjI (.slice a ops.length c ez) ops h) ops.length (.exit 0) (by intro h; cases h) (RjI (.slice a ops.length c ez) ops h ops.length) (fun i T h' hi I => by
        obtain ⟨o, ho⟩ : ∃ o, ops[i]? = some o := ⟨_, List.getElem?_eq_getElem hi⟩
        obtain ⟨T', h2, q, _⟩ := rj_step e x M (M + 1) ops hl hw hc a c ez h row i o ho T h' I
        exact ⟨T', h2, q (ok o (List.mem_of_getElem? ho))⟩) (fun T h' I => by
        obtain ⟨il, t0, t5, ⟨aw, cw, ew, t4, nw⟩⟩ := I
        have c0 : decide ((ops.length : Int) < (ops.length : Int)) = false := decide_eq_false (by omega)
        obtain ⟨N1, eN1⟩ : ∃ n, (wB (ops.take ops.length)).length = n := ⟨_, rfl⟩
        rw [eN1] at t4
        obtain ⟨on, eon⟩ : ∃ n, ops.length = n := ⟨_, rfl⟩
        rw [eon] at t0 t5 c0
        exact ⟨_, _, by
          simp (config := {maxSteps := 2000000}) (disch := first | omega | (simp only [List.length_cons, List.length_nil, List.length_append, List.length_drop]; omega)) only [L_purserref10_Join_0, t0, t5, c0, ↓s_len, x_lenS, ↓b_xor32, ↓b_and32, ↓b_or32, ↓u_not32, b_xor32, b_and32, b_or32, u_not32, w32ad, ↓x_conv, x_convV, ↓x_fieldAddr, x_fieldV, ↓s_nilchk, x_nilchk, Nat.zero_add, Nat.add_zero, Nat.mul_one, ↓l_loop, ↓l_succ, ↓l_normal, l_normal, l_exit, l_ret, l_iteN, ↓h_put_get, ↓h_new_get, ↓h_del_get, h_next_put, h_next_new, h_next_del, Nat.add_assoc, Nat.add_eq_left, Nat.left_eq_add, Nat.add_left_cancel_iff, ↓s_load, m_load, ↓m_load1, m_load1, ↓m_st, m_stE, m_storeI, m_storeE, w_zero, w_succ, ↓s_alloc, ↓x_idxA, ↓x_idxS, x_idxAE, x_idxSE, x_addrE, x_idx, x_lenS, ↓s_len, ↓x_buildS, x_buildE, ↓x_P0, ↓x_P1, x_fill0, x_filli, x_fills, x_fillb, c_int, List.length_cons, List.length_nil, List.cons_append, List.drop_succ_cons, List.drop_zero, List.drop_nil, List.nil_append, Int.reduceAdd, Int.reduceToNat, Int.reduceLT, Int.reduceLE, Nat.reduceAdd, Nat.reduceMul, Nat.reduceLeDiff, Int.reduceEq, Int.reduceSub, Int.cast_ofNat_Int, s_resc, s_consR, m_load4, m_store4, s_res0, ↓s_skip, ↓s_ops, ↓s_dops, ↓s_seq, ↓s_cond, ↓s_block, ↓s_exit, ↓s_ret, ↓s_scope, ↓s_nil, ↓s_op, ↓s_opg, ↓s_wanted', ↓s_wantV, s_wantV, s_wantV0, beq_true, beq_false, ↓s_bindS, s_bindS, ↓s_bindE, s_bindE, s_bindE_ret, s_bindE_exit, s_bindE_iteN, s_norm, ↓s_condV, s_condV, s_block_ret, s_block_normal, s_block_exit, s_block_iteN, ↓s_getp, ↓s_getp0, ↓s_get, s_get0, ↓s_con, ↓s_fn, ↓s_os0, ↓s_os1, ↓s_list0, ↓s_list1, ↓s_mov, ↓s_pick, ↓s_pickE, s_pickE, ↓s_bin, ↓s_un, ↓s_minmax, ↓s_call, ↓s_callv, ↓s_callV, ↓s_ext, s_same, b_eql, b_neq, b_lss, b_leq, b_gtr, b_geq, b_add, b_sub, b_mul, b_eqlb, b_neqb, b_fnil, b_fnil', b_fnil2, b_fnil2', u_neg, u_not, m_two, s_end, s_end', s_end_iteN, s_res0, s_res1, s_tup1, s_tup2, ↓iteN_true, ↓iteN_false, iteN_true, iteN_false, Nat.zero_add, List.nil_append, List.append_nil, Nat.reduceEqDiff, reduceIte, decide_true, decide_false, Bool.not_true, Bool.not_false, List.getElem?_cons_zero, List.getElem?_cons_succ, Bool.false_eq_true, if_true, if_false, beq_self_eq_true]
          exact rfl, ⟨il, by rw [eon]; exact (by (simp only [s_getp, s_getp0, Nat.reduceEqDiff, decide_false, decide_true, iteN_false, iteN_true, t0]; try rfl)), by rw [eon]; exact (by (simp only [s_getp, s_getp0, Nat.reduceEqDiff, decide_false, decide_true, iteN_false, iteN_true, t5]; try rfl)), ⟨aw, cw, ew, by rw [eN1]; exact (by (simp only [s_getp, s_getp0, Nat.reduceEqDiff, decide_false, decide_true, iteN_false, iteN_true, t4]; try rfl)), nw⟩⟩⟩) ops.length 0 (by omega) (M + 1) (by omega) T h I
      rw [rr]
      obtain ⟨_, t0, t5, ⟨aw, cw, ew, t4, nw⟩⟩ := J
      rw [List.take_length] at t4 nw
      refine ⟨h', aw, cw, ew, ?_, nw⟩
      simp only
      obtain ⟨N1, eN1⟩ : ∃ n, (wB ops).length = n := ⟨_, rfl⟩
      rw [eN1] at t4 ⊢
      simp (config := {maxSteps := 2000000}) (disch := first | omega | (simp only [List.length_cons, List.length_nil, List.length_append, List.length_drop]; omega)) only [R_purserref10_Join_0, t4, ↓b_xor32, ↓b_and32, ↓b_or32, ↓u_not32, b_xor32, b_and32, b_or32, u_not32, w32ad, ↓x_conv, x_convV, ↓x_fieldAddr, x_fieldV, ↓s_nilchk, x_nilchk, Nat.zero_add, Nat.add_zero, Nat.mul_one, ↓l_loop, ↓l_succ, ↓l_normal, l_normal, l_exit, l_ret, l_iteN, ↓h_put_get, ↓h_new_get, ↓h_del_get, h_next_put, h_next_new, h_next_del, Nat.add_assoc, Nat.add_eq_left, Nat.left_eq_add, Nat.add_left_cancel_iff, ↓s_load, m_load, ↓m_load1, m_load1, ↓m_st, m_stE, m_storeI, m_storeE, w_zero, w_succ, ↓s_alloc, ↓x_idxA, ↓x_idxS, x_idxAE, x_idxSE, x_addrE, x_idx, x_lenS, ↓s_len, ↓x_buildS, x_buildE, ↓x_P0, ↓x_P1, x_fill0, x_filli, x_fills, x_fillb, c_int, List.length_cons, List.length_nil, List.cons_append, List.drop_succ_cons, List.drop_zero, List.drop_nil, List.nil_append, Int.reduceAdd, Int.reduceToNat, Int.reduceLT, Int.reduceLE, Nat.reduceAdd, Nat.reduceMul, Nat.reduceLeDiff, Int.reduceEq, Int.reduceSub, Int.cast_ofNat_Int, s_resc, s_consR, m_load4, m_store4, s_res0, ↓s_skip, ↓s_ops, ↓s_dops, ↓s_seq, ↓s_cond, ↓s_block, ↓s_exit, ↓s_ret, ↓s_scope, ↓s_nil, ↓s_op, ↓s_opg, ↓s_wanted', ↓s_wantV, s_wantV, s_wantV0, beq_true, beq_false, ↓s_bindS, s_bindS, ↓s_bindE, s_bindE, s_bindE_ret, s_bindE_exit, s_bindE_iteN, s_norm, ↓s_condV, s_condV, s_block_ret, s_block_normal, s_block_exit, s_block_iteN, ↓s_getp, ↓s_getp0, ↓s_get, s_get0, ↓s_con, ↓s_fn, ↓s_os0, ↓s_os1, ↓s_list0, ↓s_list1, ↓s_mov, ↓s_pick, ↓s_pickE, s_pickE, ↓s_bin, ↓s_un, ↓s_minmax, ↓s_call, ↓s_callv, ↓s_callV, ↓s_ext, s_same, b_eql, b_neq, b_lss, b_leq, b_gtr, b_geq, b_add, b_sub, b_mul, b_eqlb, b_neqb, b_fnil, b_fnil', b_fnil2, b_fnil2', u_neg, u_not, m_two, s_end, s_end', s_end_iteN, s_res0, s_res1, s_tup1, s_tup2, ↓iteN_true, ↓iteN_false, iteN_true, iteN_false, Nat.zero_add, List.nil_append, List.append_nil, Nat.reduceEqDiff, reduceIte, decide_true, decide_false, Bool.not_true, Bool.not_false, List.getElem?_cons_zero, List.getElem?_cons_succ, Bool.false_eq_true, if_true, if_false, beq_self_eq_true]
      try rfl
    · rw [if_neg (fun h => by have := List.all_eq_true.1 h o (List.mem_of_getElem? ho); rw [vo] at this; cases this)]
      have hj : j < ops.length := (List.getElem?_eq_some_iff.1 ho).1
      obtain ⟨T', h', rr, t2, t3, k⟩ := loop_go (f := evC (callX E X (M + 1)) 28 (M + 1) none L_purserref10_Join_0) (RjI (.slice a ops.length c ez) ops h) j .ret (by intro h; cases h) (fun T' h' => evO T' (.t 2) = .slice none 0 (some 0) 0 ∧ evO T' (.t 3) = .int .i64 100 ∧ Kp h h') (fun i T h' hi I => by
        obtain ⟨o', ho'⟩ : ∃ o, ops[i]? = some o := ⟨_, List.getElem?_eq_getElem (by omega)⟩
        obtain ⟨T', h2, q, _⟩ := rj_step e x M (M + 1) ops hl hw hc a c ez h row i o' ho' T h' I
        exact ⟨T', h2, q (hb i o' hi ho')⟩) (fun T h' I => by
        obtain ⟨T', h2, _, q⟩ := rj_step e x M (M + 1) ops hl hw hc a c ez h row j o ho T h' I
        obtain ⟨q1, q2, q3, q4⟩ := q vo
        exact ⟨T', h2, q1, q2, q3, q4⟩) j 0 (by omega) (M + 1) (by omega) T h I
      rw [rr]
      refine ⟨h', none, some 0, 0, ?_, ⟨k, .nil _, fun _ _ e => by cases e⟩⟩
      simp (config := {maxSteps := 2000000}) (disch := first | omega | (simp only [List.length_cons, List.length_nil, List.length_append, List.length_drop]; omega)) only [t2, t3, ↓b_xor32, ↓b_and32, ↓b_or32, ↓u_not32, b_xor32, b_and32, b_or32, u_not32, w32ad, ↓x_conv, x_convV, ↓x_fieldAddr, x_fieldV, ↓s_nilchk, x_nilchk, Nat.zero_add, Nat.add_zero, Nat.mul_one, ↓l_loop, ↓l_succ, ↓l_normal, l_normal, l_exit, l_ret, l_iteN, ↓h_put_get, ↓h_new_get, ↓h_del_get, h_next_put, h_next_new, h_next_del, Nat.add_assoc, Nat.add_eq_left, Nat.left_eq_add, Nat.add_left_cancel_iff, ↓s_load, m_load, ↓m_load1, m_load1, ↓m_st, m_stE, m_storeI, m_storeE, w_zero, w_succ, ↓s_alloc, ↓x_idxA, ↓x_idxS, x_idxAE, x_idxSE, x_addrE, x_idx, x_lenS, ↓s_len, ↓x_buildS, x_buildE, ↓x_P0, ↓x_P1, x_fill0, x_filli, x_fills, x_fillb, c_int, List.length_cons, List.length_nil, List.cons_append, List.drop_succ_cons, List.drop_zero, List.drop_nil, List.nil_append, Int.reduceAdd, Int.reduceToNat, Int.reduceLT, Int.reduceLE, Nat.reduceAdd, Nat.reduceMul, Nat.reduceLeDiff, Int.reduceEq, Int.reduceSub, Int.cast_ofNat_Int, s_resc, s_consR, m_load4, m_store4, s_res0, ↓s_skip, ↓s_ops, ↓s_dops, ↓s_seq, ↓s_cond, ↓s_block, ↓s_exit, ↓s_ret, ↓s_scope, ↓s_nil, ↓s_op, ↓s_opg, ↓s_wanted', ↓s_wantV, s_wantV, s_wantV0, beq_true, beq_false, ↓s_bindS, s_bindS, ↓s_bindE, s_bindE, s_bindE_ret, s_bindE_exit, s_bindE_iteN, s_norm, ↓s_condV, s_condV, s_block_ret, s_block_normal, s_block_exit, s_block_iteN, ↓s_getp, ↓s_getp0, ↓s_get, s_get0, ↓s_con, ↓s_fn, ↓s_os0, ↓s_os1, ↓s_list0, ↓s_list1, ↓s_mov, ↓s_pick, ↓s_pickE, s_pickE, ↓s_bin, ↓s_un, ↓s_minmax, ↓s_call, ↓s_callv, ↓s_callV, ↓s_ext, s_same, b_eql, b_neq, b_lss, b_leq, b_gtr, b_geq, b_add, b_sub, b_mul, b_eqlb, b_neqb, b_fnil, b_fnil', b_fnil2, b_fnil2', u_neg, u_not, m_two, s_end, s_end', s_end_iteN, s_res0, s_res1, s_tup1, s_tup2, ↓iteN_true, ↓iteN_false, iteN_true, iteN_false, Nat.zero_add, List.nil_append, List.append_nil, Nat.reduceEqDiff, reduceIte, decide_true, decide_false, Bool.not_true, Bool.not_false, List.getElem?_cons_zero, List.getElem?_cons_succ, Bool.false_eq_true, if_true, if_false, beq_self_eq_true]
      try rfl
  obtain ⟨R, eR⟩ : ∃ R, R_purserref10_Join_0 = R := ⟨_, rfl⟩
  obtain ⟨Lo, eL⟩ : ∃ R, L_purserref10_Join_0 = R := ⟨_, rfl⟩
  rw [eR, eL] at fin ⊢
  obtain ⟨on, eon⟩ : ∃ n, ops.length = n := ⟨_, rfl⟩
  rw [eon] at ⊢
  simp (config := {maxSteps := 2000000}) (disch := first | omega | (simp only [List.length_cons, List.length_nil, List.length_append, List.length_drop]; omega)) only [↓s_len, x_lenS, ↓b_xor32, ↓b_and32, ↓b_or32, ↓u_not32, b_xor32, b_and32, b_or32, u_not32, w32ad, ↓x_conv, x_convV, ↓x_fieldAddr, x_fieldV, ↓s_nilchk, x_nilchk, Nat.zero_add, Nat.add_zero, Nat.mul_one, ↓l_loop, ↓l_succ, ↓l_normal, l_normal, l_exit, l_ret, l_iteN, ↓h_put_get, ↓h_new_get, ↓h_del_get, h_next_put, h_next_new, h_next_del, Nat.add_assoc, Nat.add_eq_left, Nat.left_eq_add, Nat.add_left_cancel_iff, ↓s_load, m_load, ↓m_load1, m_load1, ↓m_st, m_stE, m_storeI, m_storeE, w_zero, w_succ, ↓s_alloc, ↓x_idxA, ↓x_idxS, x_idxAE, x_idxSE, x_addrE, x_idx, x_lenS, ↓s_len, ↓x_buildS, x_buildE, ↓x_P0, ↓x_P1, x_fill0, x_filli, x_fills, x_fillb, c_int, List.length_cons, List.length_nil, List.cons_append, List.drop_succ_cons, List.drop_zero, List.drop_nil, List.nil_append, Int.reduceAdd, Int.reduceToNat, Int.reduceLT, Int.reduceLE, Nat.reduceAdd, Nat.reduceMul, Nat.reduceLeDiff, Int.reduceEq, Int.reduceSub, Int.cast_ofNat_Int, s_resc, s_consR, m_load4, m_store4, s_res0, ↓s_skip, ↓s_ops, ↓s_dops, ↓s_seq, ↓s_cond, ↓s_block, ↓s_exit, ↓s_ret, ↓s_scope, ↓s_nil, ↓s_op, ↓s_opg, ↓s_wanted', ↓s_wantV, s_wantV, s_wantV0, beq_true, beq_false, ↓s_bindS, s_bindS, ↓s_bindE, s_bindE, s_bindE_ret, s_bindE_exit, s_bindE_iteN, s_norm, ↓s_condV, s_condV, s_block_ret, s_block_normal, s_block_exit, s_block_iteN, ↓s_getp, ↓s_getp0, ↓s_get, s_get0, ↓s_con, ↓s_fn, ↓s_os0, ↓s_os1, ↓s_list0, ↓s_list1, ↓s_mov, ↓s_pick, ↓s_pickE, s_pickE, ↓s_bin, ↓s_un, ↓s_minmax, ↓s_call, ↓s_callv, ↓s_callV, ↓s_ext, s_same, b_eql, b_neq, b_lss, b_leq, b_gtr, b_geq, b_add, b_sub, b_mul, b_eqlb, b_neqb, b_fnil, b_fnil', b_fnil2, b_fnil2', u_neg, u_not, m_two, s_end, s_end', s_end_iteN, s_res0, s_res1, s_tup1, s_tup2, ↓iteN_true, ↓iteN_false, iteN_true, iteN_false, Nat.zero_add, List.nil_append, List.append_nil, Nat.reduceEqDiff, reduceIte, decide_true, decide_false, Bool.not_true, Bool.not_false, List.getElem?_cons_zero, List.getElem?_cons_succ, Bool.false_eq_true, if_true, if_false, beq_self_eq_true]
  exact fin _ ⟨Nat.zero_le _, by rw [eon]; exact (by (simp only [s_getp, s_getp0, Nat.reduceEqDiff, decide_false, decide_true, iteN_false, iteN_true, eL]; try rfl)), (by (simp only [s_getp, s_getp0, Nat.reduceEqDiff, decide_false, decide_true, iteN_false, iteN_true, eL]; try rfl)), ⟨none, some 0, 0, by rw [List.take_zero]; exact (by (simp only [s_getp, s_getp0, Nat.reduceEqDiff, decide_false, decide_true, iteN_false, iteN_true, eL]; try rfl)), by rw [List.take_zero]; exact ⟨Kp.refl _, .nil _, fun _ _ e => by cases e⟩⟩⟩
/-- the cells of an operation in a row -/
theorem row_at2 {h : H} {ops : List Oq} {a : Option (Nat × Nat)} {e : Nat} (r : RowS h ops a e) (i : Nat) (o : Oq) (ho : ops[i]? = some o) : ∃ q off vs md b cb eb, a = some (q, off) ∧ e = 2 ∧ q < h.next ∧ h.get q = some (.cells vs md) ∧ vs[off + i * 2]? = some (.int .u8 (o.code : Int)) ∧ vs[off + (i * 2 + 1)]? = some (.slice b o.l.length cb eb) ∧ SrcH h b eb o.l := by
  rcases r with r | ⟨q, off, vs, md, e1, e2, hq, g, hl, at_⟩
  · rw [r] at ho; simp at ho
  · obtain ⟨b, cb, eb, e3, s⟩ := at_ i o ho
    have h0 : ((vs.drop (off + i * 2)).take 2)[0]? = some (.int .u8 (o.code : Int)) := by rw [e3]; rfl
    have h1 : ((vs.drop (off + i * 2)).take 2)[1]? = some (.slice b o.l.length cb eb) := by rw [e3]; rfl
    rw [List.getElem?_take_of_lt (by omega), List.getElem?_drop] at h0 h1
    exact ⟨q, off, vs, md, b, cb, eb, e1, e2, hq, g, h0, by rw [Nat.add_assoc] at h1; exact h1, s⟩
structure RsI (va vb : V) (n : Nat) (h0 : H) (i : Nat) (T : Tr V) (h : H) : Prop where
  il : i ≤ n
  t0 : evO T (.t 0) = va
  t1 : evO T (.t 1) = vb
  t5 : evO T (.t 5) = .int .i64 (i : Int)
  hh : h = h0
theorem rs_round (Q : Orc) (m : Nat) (as bs : List Oq) (hl : as.length = bs.length) (hn : as.length ≤ 1000000) (ok : ∀ o ∈ as, o.ok) (pk : ∀ o ∈ bs, o.ok) (a b : Option (Nat × Nat)) (c d : Option Nat) (ea eb : Nat) (h0 : H) (ra : RowS h0 as a ea) (rb : RowS h0 bs b eb) (i : Nat) (T : Tr V) (h : H) (o p : Oq) (ho : as[i]? = some o) (hp : bs[i]? = some p) (I : RsI (.slice a as.length c ea) (.slice b bs.length d eb) as.length h0 i T h) :
    ∃ T', (o = p → evC Q 43 m none L_purserref10_Same_0 ⟨T, [], h⟩ = some (.normal, ⟨T', [], h⟩) ∧ RsI (.slice a as.length c ea) (.slice b bs.length d eb) as.length h0 (i + 1) T' h) ∧ (o ≠ p → evC Q 43 m none L_purserref10_Same_0 ⟨T, [], h⟩ = some (.ret, ⟨T', [], h⟩) ∧ evO T' (.t 4) = .bool false) := by
  have hi : i < as.length := (List.getElem?_eq_some_iff.1 ho).1
  obtain ⟨_, t0, t1, t5, rfl⟩ := I
  have c0 : decide ((i : Int) < (as.length : Int)) = true := decide_eq_true (by omega)
  have wi : wr .i64 ((i : Int) + 1) = ((i + 1 : Nat) : Int) := by rw [wr_i64 (by omega)]; omega
  have ix : idx (i : Int) as.length = some i := idxn hi
  have ix2 : idx (i : Int) bs.length = some i := idxn (by omega)
  obtain ⟨q, off, vs, md, b1, cb1, eb1, rfl, rfl, hq, gq', cg0, cg1, sb⟩ := row_at2 ra i o ho
  obtain ⟨q2, off2, vs2, md2, b2, cb2, eb2, rfl, rfl, hq2, gq2, cg2, cg3, sb2⟩ := row_at2 rb i p hp
  have ok1 := ok o (List.mem_of_getElem? ho)
  have pk1 := pk p (List.mem_of_getElem? hp)
  have s1 := str_src sb ok1.bl cb1
  have s2 := str_src sb2 pk1.bl cb2
  have i1 : i + 1 ≤ as.length := hi
  obtain ⟨n, en⟩ : ∃ n, as.length = n := ⟨_, rfl⟩
  obtain ⟨n2, en2⟩ : ∃ n, bs.length = n := ⟨_, rfl⟩
  obtain ⟨l1, el1⟩ : ∃ n, o.l.length = n := ⟨_, rfl⟩
  obtain ⟨l2, el2⟩ : ∃ n, p.l.length = n := ⟨_, rfl⟩
  rw [en] at t0 c0 ix
  rw [en2] at t1 ix2
  rw [el1] at cg1 s1
  rw [el2] at cg3 s2
  by_cases ec : o.code = p.code
  · have d0 : decide ((o.code : Int) = (p.code : Int)) = true := decide_eq_true (by omega)
    by_cases elo : o.l = p.l
    · have eo : o = p := by cases o; cases p; simp_all
      have d1 : decide (o.l = p.l) = true := decide_eq_true elo
      obtain ⟨T', r, u0, u1, u5⟩ : ∃ T', evC Q 43 m none L_purserref10_Same_0 ⟨T, [], h⟩ = some (.normal, ⟨T', [], h⟩) ∧ evO T' (.t 0) = .slice (some (q, off)) n c 2 ∧ evO T' (.t 1) = .slice (some (q2, off2)) n2 d 2 ∧ evO T' (.t 5) = .int .i64 ((i + 1 : Nat) : Int) := by
        exact ⟨_, by
          simp (config := {maxSteps := 2000000}) (disch := first | omega | (simp only [List.length_cons, List.length_nil, List.length_append, List.length_drop]; omega)) only [L_purserref10_Same_0, t0, t1, t5, gq', gq2, cg0, cg1, cg2, cg3, s1, s2, d0, d1, c0, wi, ix, ix2, b_sneq, Bool.not_true, ↓ns_b2s, ↓s_len, x_lenS, ↓b_xor32, ↓b_and32, ↓b_or32, ↓u_not32, b_xor32, b_and32, b_or32, u_not32, w32ad, ↓x_conv, x_convV, ↓x_fieldAddr, x_fieldV, ↓s_nilchk, x_nilchk, Nat.zero_add, Nat.add_zero, Nat.mul_one, ↓s_evD, ↓s_dnil, ↓s_dL, ↓s_dLg, ↓s_dR, ↓s_dRg, ↓s_dRj, ↓s_dRjg, ↓s_dB, ↓s_dBg, ↓s_dAlloc, ↓s_bindD, s_bindD, s_finD, s_finDx, s_addP0, s_addP1, s_addB, s_lookP, ↓s_bump0, ↓s_bump_get, s_bump_next, s_ok0, ↓s_ok1, s_okR0, ↓s_okR1, ↓s_okE, s_okE, s_okE1, s_nth0, s_nthS, Nat.add_zero, Bool.and_self, Bool.and_true, Bool.true_and, ↓l_loop, ↓l_succ, ↓l_normal, l_normal, l_exit, l_ret, l_iteN, ↓h_put_get, ↓h_new_get, ↓h_del_get, h_next_put, h_next_new, h_next_del, Nat.add_assoc, Nat.add_eq_left, Nat.left_eq_add, Nat.add_left_cancel_iff, ↓s_load, m_load, ↓m_load1, m_load1, ↓m_st, m_stE, m_storeI, m_storeE, w_zero, w_succ, ↓s_alloc, ↓x_idxA, ↓x_idxS, x_idxAE, x_idxSE, x_addrE, x_idx, x_lenS, ↓s_len, ↓x_buildS, x_buildE, ↓x_P0, ↓x_P1, x_fill0, x_filli, x_fills, x_fillb, c_int, List.length_cons, List.length_nil, List.cons_append, List.drop_succ_cons, List.drop_zero, List.drop_nil, List.nil_append, Int.reduceAdd, Int.reduceToNat, Int.reduceLT, Int.reduceLE, Nat.reduceAdd, Nat.reduceMul, Nat.reduceLeDiff, Int.reduceEq, Int.reduceSub, Int.cast_ofNat_Int, s_resc, s_consR, m_load4, m_store4, s_res0, ↓s_skip, ↓s_ops, ↓s_dops, ↓s_seq, ↓s_cond, ↓s_block, ↓s_exit, ↓s_ret, ↓s_scope, ↓s_nil, ↓s_op, ↓s_opg, ↓s_wanted', ↓s_wantV, s_wantV, s_wantV0, beq_true, beq_false, ↓s_bindS, s_bindS, ↓s_bindE, s_bindE, s_bindE_ret, s_bindE_exit, s_bindE_iteN, s_norm, ↓s_condV, s_condV, s_block_ret, s_block_normal, s_block_exit, s_block_iteN, ↓s_getp, ↓s_getp0, ↓s_get, s_get0, ↓s_con, ↓s_fn, ↓s_os0, ↓s_os1, ↓s_list0, ↓s_list1, ↓s_mov, ↓s_pick, ↓s_pickE, s_pickE, ↓s_bin, ↓s_un, ↓s_minmax, ↓s_call, ↓s_callv, ↓s_callV, ↓s_ext, s_same, b_eql, b_neq, b_lss, b_leq, b_gtr, b_geq, b_add, b_sub, b_mul, b_eqlb, b_neqb, b_fnil, b_fnil', b_fnil2, b_fnil2', u_neg, u_not, m_two, s_end, s_end', s_end_iteN, s_res0, s_res1, s_tup1, s_tup2, ↓iteN_true, ↓iteN_false, iteN_true, iteN_false, Nat.zero_add, List.nil_append, List.append_nil, Nat.reduceEqDiff, reduceIte, decide_true, decide_false, Bool.not_true, Bool.not_false, List.getElem?_cons_zero, List.getElem?_cons_succ, Bool.false_eq_true, if_true, if_false, beq_self_eq_true]
          exact rfl, (by (simp only [s_getp, s_getp0, Nat.reduceEqDiff, decide_false, decide_true, iteN_false, iteN_true, t0]; try rfl)), (by (simp only [s_getp, s_getp0, Nat.reduceEqDiff, decide_false, decide_true, iteN_false, iteN_true, t1]; try rfl)), (by (simp only [s_getp, s_getp0, Nat.reduceEqDiff, decide_false, decide_true, iteN_false, iteN_true, t5]; try rfl))⟩
      exact ⟨T', fun _ => ⟨r, i1, by rw [en]; exact u0, by rw [en2]; exact u1, u5, rfl⟩, fun h => absurd eo h⟩
    · have hne : o ≠ p := fun h => elo (by rw [h])
      have d1 : decide (o.l = p.l) = false := decide_eq_false elo
      obtain ⟨T', r, u4⟩ : ∃ T', evC Q 43 m none L_purserref10_Same_0 ⟨T, [], h⟩ = some (.ret, ⟨T', [], h⟩) ∧ evO T' (.t 4) = .bool false := by
        exact ⟨_, by
          simp (config := {maxSteps := 2000000}) (disch := first | omega | (simp only [List.length_cons, List.length_nil, List.length_append, List.length_drop]; omega)) only [L_purserref10_Same_0, t0, t1, t5, gq', gq2, cg0, cg1, cg2, cg3, s1, s2, d0, d1, c0, wi, ix, ix2, b_sneq, Bool.not_true, Bool.not_false, ↓ns_b2s, ↓s_len, x_lenS, ↓b_xor32, ↓b_and32, ↓b_or32, ↓u_not32, b_xor32, b_and32, b_or32, u_not32, w32ad, ↓x_conv, x_convV, ↓x_fieldAddr, x_fieldV, ↓s_nilchk, x_nilchk, Nat.zero_add, Nat.add_zero, Nat.mul_one, ↓s_evD, ↓s_dnil, ↓s_dL, ↓s_dLg, ↓s_dR, ↓s_dRg, ↓s_dRj, ↓s_dRjg, ↓s_dB, ↓s_dBg, ↓s_dAlloc, ↓s_bindD, s_bindD, s_finD, s_finDx, s_addP0, s_addP1, s_addB, s_lookP, ↓s_bump0, ↓s_bump_get, s_bump_next, s_ok0, ↓s_ok1, s_okR0, ↓s_okR1, ↓s_okE, s_okE, s_okE1, s_nth0, s_nthS, Nat.add_zero, Bool.and_self, Bool.and_true, Bool.true_and, ↓l_loop, ↓l_succ, ↓l_normal, l_normal, l_exit, l_ret, l_iteN, ↓h_put_get, ↓h_new_get, ↓h_del_get, h_next_put, h_next_new, h_next_del, Nat.add_assoc, Nat.add_eq_left, Nat.left_eq_add, Nat.add_left_cancel_iff, ↓s_load, m_load, ↓m_load1, m_load1, ↓m_st, m_stE, m_storeI, m_storeE, w_zero, w_succ, ↓s_alloc, ↓x_idxA, ↓x_idxS, x_idxAE, x_idxSE, x_addrE, x_idx, x_lenS, ↓s_len, ↓x_buildS, x_buildE, ↓x_P0, ↓x_P1, x_fill0, x_filli, x_fills, x_fillb, c_int, List.length_cons, List.length_nil, List.cons_append, List.drop_succ_cons, List.drop_zero, List.drop_nil, List.nil_append, Int.reduceAdd, Int.reduceToNat, Int.reduceLT, Int.reduceLE, Nat.reduceAdd, Nat.reduceMul, Nat.reduceLeDiff, Int.reduceEq, Int.reduceSub, Int.cast_ofNat_Int, s_resc, s_consR, m_load4, m_store4, s_res0, ↓s_skip, ↓s_ops, ↓s_dops, ↓s_seq, ↓s_cond, ↓s_block, ↓s_exit, ↓s_ret, ↓s_scope, ↓s_nil, ↓s_op, ↓s_opg, ↓s_wanted', ↓s_wantV, s_wantV, s_wantV0, beq_true, beq_false, ↓s_bindS, s_bindS, ↓s_bindE, s_bindE, s_bindE_ret, s_bindE_exit, s_bindE_iteN, s_norm, ↓s_condV, s_condV, s_block_ret, s_block_normal, s_block_exit, s_block_iteN, ↓s_getp, ↓s_getp0, ↓s_get, s_get0, ↓s_con, ↓s_fn, ↓s_os0, ↓s_os1, ↓s_list0, ↓s_list1, ↓s_mov, ↓s_pick, ↓s_pickE, s_pickE, ↓s_bin, ↓s_un, ↓s_minmax, ↓s_call, ↓s_callv, ↓s_callV, ↓s_ext, s_same, b_eql, b_neq, b_lss, b_leq, b_gtr, b_geq, b_add, b_sub, b_mul, b_eqlb, b_neqb, b_fnil, b_fnil', b_fnil2, b_fnil2', u_neg, u_not, m_two, s_end, s_end', s_end_iteN, s_res0, s_res1, s_tup1, s_tup2, ↓iteN_true, ↓iteN_false, iteN_true, iteN_false, Nat.zero_add, List.nil_append, List.append_nil, Nat.reduceEqDiff, reduceIte, decide_true, decide_false, Bool.not_true, Bool.not_false, List.getElem?_cons_zero, List.getElem?_cons_succ, Bool.false_eq_true, if_true, if_false, beq_self_eq_true]
          exact rfl, (by (simp only [s_getp, s_getp0, Nat.reduceEqDiff, decide_false, decide_true, iteN_false, iteN_true, t0]; try rfl))⟩
      exact ⟨T', fun h => absurd h hne, fun _ => ⟨r, u4⟩⟩
  · have hne : o ≠ p := fun h => ec (by rw [h])
    have d0 : decide ((o.code : Int) = (p.code : Int)) = false := decide_eq_false (by omega)
    obtain ⟨T', r, u4⟩ : ∃ T', evC Q 43 m none L_purserref10_Same_0 ⟨T, [], h⟩ = some (.ret, ⟨T', [], h⟩) ∧ evO T' (.t 4) = .bool false := by
      exact ⟨_, by
        simp (config := {maxSteps := 2000000}) (disch := first | omega | (simp only [List.length_cons, List.length_nil, List.length_append, List.length_drop]; omega)) only [L_purserref10_Same_0, t0, t1, t5, gq', gq2, cg0, cg1, cg2, cg3, s1, s2, d0, c0, wi, ix, ix2, b_sneq, Bool.not_true, Bool.not_false, ↓ns_b2s, ↓s_len, x_lenS, ↓b_xor32, ↓b_and32, ↓b_or32, ↓u_not32, b_xor32, b_and32, b_or32, u_not32, w32ad, ↓x_conv, x_convV, ↓x_fieldAddr, x_fieldV, ↓s_nilchk, x_nilchk, Nat.zero_add, Nat.add_zero, Nat.mul_one, ↓s_evD, ↓s_dnil, ↓s_dL, ↓s_dLg, ↓s_dR, ↓s_dRg, ↓s_dRj, ↓s_dRjg, ↓s_dB, ↓s_dBg, ↓s_dAlloc, ↓s_bindD, s_bindD, s_finD, s_finDx, s_addP0, s_addP1, s_addB, s_lookP, ↓s_bump0, ↓s_bump_get, s_bump_next, s_ok0, ↓s_ok1, s_okR0, ↓s_okR1, ↓s_okE, s_okE, s_okE1, s_nth0, s_nthS, Nat.add_zero, Bool.and_self, Bool.and_true, Bool.true_and, ↓l_loop, ↓l_succ, ↓l_normal, l_normal, l_exit, l_ret, l_iteN, ↓h_put_get, ↓h_new_get, ↓h_del_get, h_next_put, h_next_new, h_next_del, Nat.add_assoc, Nat.add_eq_left, Nat.left_eq_add, Nat.add_left_cancel_iff, ↓s_load, m_load, ↓m_load1, m_load1, ↓m_st, m_stE, m_storeI, m_storeE, w_zero, w_succ, ↓s_alloc, ↓x_idxA, ↓x_idxS, x_idxAE, x_idxSE, x_addrE, x_idx, x_lenS, ↓s_len, ↓x_buildS, x_buildE, ↓x_P0, ↓x_P1, x_fill0, x_filli, x_fills, x_fillb, c_int, List.length_cons, List.length_nil, List.cons_append, List.drop_succ_cons, List.drop_zero, List.drop_nil, List.nil_append, Int.reduceAdd, Int.reduceToNat, Int.reduceLT, Int.reduceLE, Nat.reduceAdd, Nat.reduceMul, Nat.reduceLeDiff, Int.reduceEq, Int.reduceSub, Int.cast_ofNat_Int, s_resc, s_consR, m_load4, m_store4, s_res0, ↓s_skip, ↓s_ops, ↓s_dops, ↓s_seq, ↓s_cond, ↓s_block, ↓s_exit, ↓s_ret, ↓s_scope, ↓s_nil, ↓s_op, ↓s_opg, ↓s_wanted', ↓s_wantV, s_wantV, s_wantV0, beq_true, beq_false, ↓s_bindS, s_bindS, ↓s_bindE, s_bindE, s_bindE_ret, s_bindE_exit, s_bindE_iteN, s_norm, ↓s_condV, s_condV, s_block_ret, s_block_normal, s_block_exit, s_block_iteN, ↓s_getp, ↓s_getp0, ↓s_get, s_get0, ↓s_con, ↓s_fn, ↓s_os0, ↓s_os1, ↓s_list0, ↓s_list1, ↓s_mov, ↓s_pick, ↓s_pickE, s_pickE, ↓s_bin, ↓s_un, ↓s_minmax, ↓s_call, ↓s_callv, ↓s_callV, ↓s_ext, s_same, b_eql, b_neq, b_lss, b_leq, b_gtr, b_geq, b_add, b_sub, b_mul, b_eqlb, b_neqb, b_fnil, b_fnil', b_fnil2, b_fnil2', u_neg, u_not, m_two, s_end, s_end', s_end_iteN, s_res0, s_res1, s_tup1, s_tup2, ↓iteN_true, ↓iteN_false, iteN_true, iteN_false, Nat.zero_add, List.nil_append, List.append_nil, Nat.reduceEqDiff, reduceIte, decide_true, decide_false, Bool.not_true, Bool.not_false, List.getElem?_cons_zero, List.getElem?_cons_succ, Bool.false_eq_true, if_true, if_false, beq_self_eq_true]
        exact rfl, (by (simp only [s_getp, s_getp0, Nat.reduceEqDiff, decide_false, decide_true, iteN_false, iteN_true, t0]; try rfl))⟩
    exact ⟨T', fun h => absurd h hne, fun _ => ⟨r, u4⟩⟩
theorem rsame_go (e : EnRo E) (x : NoRo X) (M : Nat) (as bs : List Oq) (hn : as.length ≤ 1000000) (hM : as.length < M) (hbn : bs.length < 9223372036854775807) (ok : ∀ o ∈ as, o.ok) (pk : ∀ o ∈ bs, o.ok) (a b : Option (Nat × Nat)) (c d : Option Nat) (ea eb : Nat) (h : H) (ra : RowS h as a ea) (rb : RowS h bs b eb) :
    callX E X (M + 1) (.fn k_purserref10_Same) [.slice a as.length c ea, .slice b bs.length d eb] h = some (.bool (decide (as = bs)), h) := by
  rw [x_cfn e.sa _ _ (Nat.le_of_ble_eq_true rfl) (x.sa _ _)]
  by_cases hl : as.length = bs.length
  · have fin : ∀ T, RsI (.slice a as.length c ea) (.slice b bs.length d eb) as.length h 0 T h → fnEnd [.tmp 4] (bindE (blockE 0 (loopN (evC (callX E X M) 43 M none L_purserref10_Same_0) M ⟨T, [], h⟩)) (evC (callX E X M) 43 M none R_purserref10_Same_0)) = some (.bool (decide (as = bs)), h) := by
      intro T I
      have get : ∀ i, i < as.length → ∃ o p, as[i]? = some o ∧ bs[i]? = some p := fun i hi => ⟨_, _, List.getElem?_eq_getElem hi, List.getElem?_eq_getElem (by omega)⟩
      rcases eq_or as bs hl with eab | ⟨j, o, p, h1, h2, h3, h4⟩
      · rw [decide_eq_true eab]
        obtain ⟨T', h', rr, kp⟩ := loop_go (f := evC (callX E X M) 43 M none L_purserref10_Same_0) (RsI (.slice a as.length c ea) (.slice b bs.length d eb) as.length h) as.length (.exit 0) (by intro h; cases h) (fun _ h' => h' = h) (fun i T h' hi I => by
          obtain ⟨o, p, ho, hp⟩ := get i hi
          obtain ⟨T', q, _⟩ := rs_round (callX E X M) M as bs hl hn ok pk a b c d ea eb h ra rb i T h' o p ho hp I
          rw [eab, hp] at ho
          cases ho
          exact ⟨T', h', q rfl⟩) (fun T h' I => by
          obtain ⟨il, t0, t1, t5, hh⟩ := I
          have c0 : decide ((as.length : Int) < (as.length : Int)) = false := decide_eq_false (by omega)
          generalize as.length = n at *
          exact ⟨_, h', by
            simp (config := {maxSteps := 2000000}) (disch := first | omega | (simp only [List.length_cons, List.length_nil, List.length_append, List.length_drop]; omega)) only [L_purserref10_Same_0, t0, t5, c0, ↓s_len, x_lenS, ↓b_xor32, ↓b_and32, ↓b_or32, ↓u_not32, b_xor32, b_and32, b_or32, u_not32, w32ad, ↓x_conv, x_convV, ↓x_fieldAddr, x_fieldV, ↓s_nilchk, x_nilchk, Nat.zero_add, Nat.add_zero, Nat.mul_one, ↓l_loop, ↓l_succ, ↓l_normal, l_normal, l_exit, l_ret, l_iteN, ↓h_put_get, ↓h_new_get, ↓h_del_get, h_next_put, h_next_new, h_next_del, Nat.add_assoc, Nat.add_eq_left, Nat.left_eq_add, Nat.add_left_cancel_iff, ↓s_load, m_load, ↓m_load1, m_load1, ↓m_st, m_stE, m_storeI, m_storeE, w_zero, w_succ, ↓s_alloc, ↓x_idxA, ↓x_idxS, x_idxAE, x_idxSE, x_addrE, x_idx, x_lenS, ↓s_len, ↓x_buildS, x_buildE, ↓x_P0, ↓x_P1, x_fill0, x_filli, x_fills, x_fillb, c_int, List.length_cons, List.length_nil, List.cons_append, List.drop_succ_cons, List.drop_zero, List.drop_nil, List.nil_append, Int.reduceAdd, Int.reduceToNat, Int.reduceLT, Int.reduceLE, Nat.reduceAdd, Nat.reduceMul, Nat.reduceLeDiff, Int.reduceEq, Int.reduceSub, Int.cast_ofNat_Int, s_resc, s_consR, m_load4, m_store4, s_res0, ↓s_skip, ↓s_ops, ↓s_dops, ↓s_seq, ↓s_cond, ↓s_block, ↓s_exit, ↓s_ret, ↓s_scope, ↓s_nil, ↓s_op, ↓s_opg, ↓s_wanted', ↓s_wantV, s_wantV, s_wantV0, beq_true, beq_false, ↓s_bindS, s_bindS, ↓s_bindE, s_bindE, s_bindE_ret, s_bindE_exit, s_bindE_iteN, s_norm, ↓s_condV, s_condV, s_block_ret, s_block_normal, s_block_exit, s_block_iteN, ↓s_getp, ↓s_getp0, ↓s_get, s_get0, ↓s_con, ↓s_fn, ↓s_os0, ↓s_os1, ↓s_list0, ↓s_list1, ↓s_mov, ↓s_pick, ↓s_pickE, s_pickE, ↓s_bin, ↓s_un, ↓s_minmax, ↓s_call, ↓s_callv, ↓s_callV, ↓s_ext, s_same, b_eql, b_neq, b_lss, b_leq, b_gtr, b_geq, b_add, b_sub, b_mul, b_eqlb, b_neqb, b_fnil, b_fnil', b_fnil2, b_fnil2', u_neg, u_not, m_two, s_end, s_end', s_end_iteN, s_res0, s_res1, s_tup1, s_tup2, ↓iteN_true, ↓iteN_false, iteN_true, iteN_false, Nat.zero_add, List.nil_append, List.append_nil, Nat.reduceEqDiff, reduceIte, decide_true, decide_false, Bool.not_true, Bool.not_false, List.getElem?_cons_zero, List.getElem?_cons_succ, Bool.false_eq_true, if_true, if_false, beq_self_eq_true]
            exact rfl, hh⟩) as.length 0 (by omega) M (by omega) T h I
        rw [rr, kp]
        simp (config := {maxSteps := 2000000}) (disch := first | omega | (simp only [List.length_cons, List.length_nil, List.length_append, List.length_drop]; omega)) only [R_purserref10_Same_0, ↓b_xor32, ↓b_and32, ↓b_or32, ↓u_not32, b_xor32, b_and32, b_or32, u_not32, w32ad, ↓x_conv, x_convV, ↓x_fieldAddr, x_fieldV, ↓s_nilchk, x_nilchk, Nat.zero_add, Nat.add_zero, Nat.mul_one, ↓l_loop, ↓l_succ, ↓l_normal, l_normal, l_exit, l_ret, l_iteN, ↓h_put_get, ↓h_new_get, ↓h_del_get, h_next_put, h_next_new, h_next_del, Nat.add_assoc, Nat.add_eq_left, Nat.left_eq_add, Nat.add_left_cancel_iff, ↓s_load, m_load, ↓m_load1, m_load1, ↓m_st, m_stE, m_storeI, m_storeE, w_zero, w_succ, ↓s_alloc, ↓x_idxA, ↓x_idxS, x_idxAE, x_idxSE, x_addrE, x_idx, x_lenS, ↓s_len, ↓x_buildS, x_buildE, ↓x_P0, ↓x_P1, x_fill0, x_filli, x_fills, x_fillb, c_int, List.length_cons, List.length_nil, List.cons_append, List.drop_succ_cons, List.drop_zero, List.drop_nil, List.nil_append, Int.reduceAdd, Int.reduceToNat, Int.reduceLT, Int.reduceLE, Nat.reduceAdd, Nat.reduceMul, Nat.reduceLeDiff, Int.reduceEq, Int.reduceSub, Int.cast_ofNat_Int, s_resc, s_consR, m_load4, m_store4, s_res0, ↓s_skip, ↓s_ops, ↓s_dops, ↓s_seq, ↓s_cond, ↓s_block, ↓s_exit, ↓s_ret, ↓s_scope, ↓s_nil, ↓s_op, ↓s_opg, ↓s_wanted', ↓s_wantV, s_wantV, s_wantV0, beq_true, beq_false, ↓s_bindS, s_bindS, ↓s_bindE, s_bindE, s_bindE_ret, s_bindE_exit, s_bindE_iteN, s_norm, ↓s_condV, s_condV, s_block_ret, s_block_normal, s_block_exit, s_block_iteN, ↓s_getp, ↓s_getp0, ↓s_get, s_get0, ↓s_con, ↓s_fn, ↓s_os0, ↓s_os1, ↓s_list0, ↓s_list1, ↓s_mov, ↓s_pick, ↓s_pickE, s_pickE, ↓s_bin, ↓s_un, ↓s_minmax, ↓s_call, ↓s_callv, ↓s_callV, ↓s_ext, s_same, b_eql, b_neq, b_lss, b_leq, b_gtr, b_geq, b_add, b_sub, b_mul, b_eqlb, b_neqb, b_fnil, b_fnil', b_fnil2, b_fnil2', u_neg, u_not, m_two, s_end, s_end', s_end_iteN, s_res0, s_res1, s_tup1, s_tup2, ↓iteN_true, ↓iteN_false, iteN_true, iteN_false, Nat.zero_add, List.nil_append, List.append_nil, Nat.reduceEqDiff, reduceIte, decide_true, decide_false, Bool.not_true, Bool.not_false, List.getElem?_cons_zero, List.getElem?_cons_succ, Bool.false_eq_true, if_true, if_false, beq_self_eq_true]
      · have hne : as ≠ bs := fun e => h3 (by rw [e, h2] at h1; cases h1; rfl)
        rw [decide_eq_false hne]
        have hj : j < as.length := (List.getElem?_eq_some_iff.1 h1).1
        obtain ⟨T', h', rr, u4, kp⟩ := loop_go (f := evC (callX E X M) 43 M none L_purserref10_Same_0) (RsI (.slice a as.length c ea) (.slice b bs.length d eb) as.length h) j .ret (by intro h; cases h) (fun T h' => evO T (.t 4) = .bool false ∧ h' = h) (fun i T h' hi I => by
          obtain ⟨o, p, ho, hp⟩ := get i (by omega)
          obtain ⟨T', q, _⟩ := rs_round (callX E X M) M as bs hl hn ok pk a b c d ea eb h ra rb i T h' o p ho hp I
          exact ⟨T', h', q (h4 i o p hi ho hp)⟩) (fun T h' I => by
          obtain ⟨T', _, q⟩ := rs_round (callX E X M) M as bs hl hn ok pk a b c d ea eb h ra rb j T h' o p h1 h2 I
          obtain ⟨q1, q2⟩ := q h3
          exact ⟨T', h', q1, q2, I.hh⟩) j 0 (by omega) M (by omega) T h I
        rw [rr, kp]
        simp (config := {maxSteps := 2000000}) (disch := first | omega | (simp only [List.length_cons, List.length_nil, List.length_append, List.length_drop]; omega)) only [u4, ↓b_xor32, ↓b_and32, ↓b_or32, ↓u_not32, b_xor32, b_and32, b_or32, u_not32, w32ad, ↓x_conv, x_convV, ↓x_fieldAddr, x_fieldV, ↓s_nilchk, x_nilchk, Nat.zero_add, Nat.add_zero, Nat.mul_one, ↓l_loop, ↓l_succ, ↓l_normal, l_normal, l_exit, l_ret, l_iteN, ↓h_put_get, ↓h_new_get, ↓h_del_get, h_next_put, h_next_new, h_next_del, Nat.add_assoc, Nat.add_eq_left, Nat.left_eq_add, Nat.add_left_cancel_iff, ↓s_load, m_load, ↓m_load1, m_load1, ↓m_st, m_stE, m_storeI, m_storeE, w_zero, w_succ, ↓s_alloc, ↓x_idxA, ↓x_idxS, x_idxAE, x_idxSE, x_addrE, x_idx, x_lenS, ↓s_len, ↓x_buildS, x_buildE, ↓x_P0, ↓x_P1, x_fill0, x_filli, x_fills, x_fillb, c_int, List.length_cons, List.length_nil, List.cons_append, List.drop_succ_cons, List.drop_zero, List.drop_nil, List.nil_append, Int.reduceAdd, Int.reduceToNat, Int.reduceLT, Int.reduceLE, Nat.reduceAdd, Nat.reduceMul, Nat.reduceLeDiff, Int.reduceEq, Int.reduceSub, Int.cast_ofNat_Int, s_resc, s_consR, m_load4, m_store4, s_res0, ↓s_skip, ↓s_ops, ↓s_dops, ↓s_seq, ↓s_cond, ↓s_block, ↓s_exit, ↓s_ret, ↓s_scope, ↓s_nil, ↓s_op, ↓s_opg, ↓s_wanted', ↓s_wantV, s_wantV, s_wantV0, beq_true, beq_false, ↓s_bindS, s_bindS, ↓s_bindE, s_bindE, s_bindE_ret, s_bindE_exit, s_bindE_iteN, s_norm, ↓s_condV, s_condV, s_block_ret, s_block_normal, s_block_exit, s_block_iteN, ↓s_getp, ↓s_getp0, ↓s_get, s_get0, ↓s_con, ↓s_fn, ↓s_os0, ↓s_os1, ↓s_list0, ↓s_list1, ↓s_mov, ↓s_pick, ↓s_pickE, s_pickE, ↓s_bin, ↓s_un, ↓s_minmax, ↓s_call, ↓s_callv, ↓s_callV, ↓s_ext, s_same, b_eql, b_neq, b_lss, b_leq, b_gtr, b_geq, b_add, b_sub, b_mul, b_eqlb, b_neqb, b_fnil, b_fnil', b_fnil2, b_fnil2', u_neg, u_not, m_two, s_end, s_end', s_end_iteN, s_res0, s_res1, s_tup1, s_tup2, ↓iteN_true, ↓iteN_false, iteN_true, iteN_false, Nat.zero_add, List.nil_append, List.append_nil, Nat.reduceEqDiff, reduceIte, decide_true, decide_false, Bool.not_true, Bool.not_false, List.getElem?_cons_zero, List.getElem?_cons_succ, Bool.false_eq_true, if_true, if_false, beq_self_eq_true]
    have c1 : (!decide ((as.length : Int) = (bs.length : Int))) = false := by rw [decide_eq_true (by omega)]; rfl
    obtain ⟨R, eR⟩ : ∃ R, R_purserref10_Same_0 = R := ⟨_, rfl⟩
    obtain ⟨Lo, eL⟩ : ∃ R, L_purserref10_Same_0 = R := ⟨_, rfl⟩
    rw [eR, eL] at fin ⊢
    obtain ⟨n, en⟩ : ∃ n, as.length = n := ⟨_, rfl⟩
    obtain ⟨n2, en2⟩ : ∃ n, bs.length = n := ⟨_, rfl⟩
    rw [en, en2] at c1 fin ⊢
    simp (config := {maxSteps := 2000000}) (disch := first | omega | (simp only [List.length_cons, List.length_nil, List.length_append, List.length_drop]; omega)) only [c1, ↓s_len, x_lenS, ↓b_xor32, ↓b_and32, ↓b_or32, ↓u_not32, b_xor32, b_and32, b_or32, u_not32, w32ad, ↓x_conv, x_convV, ↓x_fieldAddr, x_fieldV, ↓s_nilchk, x_nilchk, Nat.zero_add, Nat.add_zero, Nat.mul_one, ↓l_loop, ↓l_succ, ↓l_normal, l_normal, l_exit, l_ret, l_iteN, ↓h_put_get, ↓h_new_get, ↓h_del_get, h_next_put, h_next_new, h_next_del, Nat.add_assoc, Nat.add_eq_left, Nat.left_eq_add, Nat.add_left_cancel_iff, ↓s_load, m_load, ↓m_load1, m_load1, ↓m_st, m_stE, m_storeI, m_storeE, w_zero, w_succ, ↓s_alloc, ↓x_idxA, ↓x_idxS, x_idxAE, x_idxSE, x_addrE, x_idx, x_lenS, ↓s_len, ↓x_buildS, x_buildE, ↓x_P0, ↓x_P1, x_fill0, x_filli, x_fills, x_fillb, c_int, List.length_cons, List.length_nil, List.cons_append, List.drop_succ_cons, List.drop_zero, List.drop_nil, List.nil_append, Int.reduceAdd, Int.reduceToNat, Int.reduceLT, Int.reduceLE, Nat.reduceAdd, Nat.reduceMul, Nat.reduceLeDiff, Int.reduceEq, Int.reduceSub, Int.cast_ofNat_Int, s_resc, s_consR, m_load4, m_store4, s_res0, ↓s_skip, ↓s_ops, ↓s_dops, ↓s_seq, ↓s_cond, ↓s_block, ↓s_exit, ↓s_ret, ↓s_scope, ↓s_nil, ↓s_op, ↓s_opg, ↓s_wanted', ↓s_wantV, s_wantV, s_wantV0, beq_true, beq_false, ↓s_bindS, s_bindS, ↓s_bindE, s_bindE, s_bindE_ret, s_bindE_exit, s_bindE_iteN, s_norm, ↓s_condV, s_condV, s_block_ret, s_block_normal, s_block_exit, s_block_iteN, ↓s_getp, ↓s_getp0, ↓s_get, s_get0, ↓s_con, ↓s_fn, ↓s_os0, ↓s_os1, ↓s_list0, ↓s_list1, ↓s_mov, ↓s_pick, ↓s_pickE, s_pickE, ↓s_bin, ↓s_un, ↓s_minmax, ↓s_call, ↓s_callv, ↓s_callV, ↓s_ext, s_same, b_eql, b_neq, b_lss, b_leq, b_gtr, b_geq, b_add, b_sub, b_mul, b_eqlb, b_neqb, b_fnil, b_fnil', b_fnil2, b_fnil2', u_neg, u_not, m_two, s_end, s_end', s_end_iteN, s_res0, s_res1, s_tup1, s_tup2, ↓iteN_true, ↓iteN_false, iteN_true, iteN_false, Nat.zero_add, List.nil_append, List.append_nil, Nat.reduceEqDiff, reduceIte, decide_true, decide_false, Bool.not_true, Bool.not_false, List.getElem?_cons_zero, List.getElem?_cons_succ, Bool.false_eq_true, if_true, if_false, beq_self_eq_true]
    exact fin _ ⟨Nat.zero_le _, (by (simp only [s_getp, s_getp0, Nat.reduceEqDiff, decide_false, decide_true, iteN_false, iteN_true, c1]; try rfl)), (by (simp only [s_getp, s_getp0, Nat.reduceEqDiff, decide_false, decide_true, iteN_false, iteN_true, c1]; try rfl)), (by (simp only [s_getp, s_getp0, Nat.reduceEqDiff, decide_false, decide_true, iteN_false, iteN_true, c1]; try rfl)), rfl⟩
  · rw [decide_eq_false (fun e => hl (by rw [e]))]
    have c1 : (!decide ((as.length : Int) = (bs.length : Int))) = true := by rw [decide_eq_false (by omega)]; rfl
    obtain ⟨Lo, eL⟩ : ∃ R, L_purserref10_Same_0 = R := ⟨_, rfl⟩
    rw [eL]
    generalize as.length = n at *
    generalize bs.length = n2 at *
    simp (config := {maxSteps := 2000000}) (disch := first | omega | (simp only [List.length_cons, List.length_nil, List.length_append, List.length_drop]; omega)) only [c1, ↓s_len, x_lenS, ↓b_xor32, ↓b_and32, ↓b_or32, ↓u_not32, b_xor32, b_and32, b_or32, u_not32, w32ad, ↓x_conv, x_convV, ↓x_fieldAddr, x_fieldV, ↓s_nilchk, x_nilchk, Nat.zero_add, Nat.add_zero, Nat.mul_one, ↓l_loop, ↓l_succ, ↓l_normal, l_normal, l_exit, l_ret, l_iteN, ↓h_put_get, ↓h_new_get, ↓h_del_get, h_next_put, h_next_new, h_next_del, Nat.add_assoc, Nat.add_eq_left, Nat.left_eq_add, Nat.add_left_cancel_iff, ↓s_load, m_load, ↓m_load1, m_load1, ↓m_st, m_stE, m_storeI, m_storeE, w_zero, w_succ, ↓s_alloc, ↓x_idxA, ↓x_idxS, x_idxAE, x_idxSE, x_addrE, x_idx, x_lenS, ↓s_len, ↓x_buildS, x_buildE, ↓x_P0, ↓x_P1, x_fill0, x_filli, x_fills, x_fillb, c_int, List.length_cons, List.length_nil, List.cons_append, List.drop_succ_cons, List.drop_zero, List.drop_nil, List.nil_append, Int.reduceAdd, Int.reduceToNat, Int.reduceLT, Int.reduceLE, Nat.reduceAdd, Nat.reduceMul, Nat.reduceLeDiff, Int.reduceEq, Int.reduceSub, Int.cast_ofNat_Int, s_resc, s_consR, m_load4, m_store4, s_res0, ↓s_skip, ↓s_ops, ↓s_dops, ↓s_seq, ↓s_cond, ↓s_block, ↓s_exit, ↓s_ret, ↓s_scope, ↓s_nil, ↓s_op, ↓s_opg, ↓s_wanted', ↓s_wantV, s_wantV, s_wantV0, beq_true, beq_false, ↓s_bindS, s_bindS, ↓s_bindE, s_bindE, s_bindE_ret, s_bindE_exit, s_bindE_iteN, s_norm, ↓s_condV, s_condV, s_block_ret, s_block_normal, s_block_exit, s_block_iteN, ↓s_getp, ↓s_getp0, ↓s_get, s_get0, ↓s_con, ↓s_fn, ↓s_os0, ↓s_os1, ↓s_list0, ↓s_list1, ↓s_mov, ↓s_pick, ↓s_pickE, s_pickE, ↓s_bin, ↓s_un, ↓s_minmax, ↓s_call, ↓s_callv, ↓s_callV, ↓s_ext, s_same, b_eql, b_neq, b_lss, b_leq, b_gtr, b_geq, b_add, b_sub, b_mul, b_eqlb, b_neqb, b_fnil, b_fnil', b_fnil2, b_fnil2', u_neg, u_not, m_two, s_end, s_end', s_end_iteN, s_res0, s_res1, s_tup1, s_tup2, ↓iteN_true, ↓iteN_false, iteN_true, iteN_false, Nat.zero_add, List.nil_append, List.append_nil, Nat.reduceEqDiff, reduceIte, decide_true, decide_false, Bool.not_true, Bool.not_false, List.getElem?_cons_zero, List.getElem?_cons_succ, Bool.false_eq_true, if_true, if_false, beq_self_eq_true]
theorem rvalue_go (e : EnRo E) (x : NoRo X) (N : Nat) (o : Oq) (ok : o.ok) (hl : o.l.length ≤ 1000000) (a : Option (Nat × Nat)) (c : Option Nat) (ez : Nat) (h : H) (src : SrcH h a ez o.l) :
    ∃ h' a2 c2 e2, callX E X (N + 2) (.fn k_purserref10_Value) [.agg [.int .u8 (o.code : Int), .slice a o.l.length c ez]] h = some (.tup [.slice a2 ((valV o).getD []).length c2 e2, .bool (valV o).isSome], h') ∧ Kp h h' ∧ SrcH h' a2 e2 ((valV o).getD []) := by
  rw [x_cfn e.va _ _ (Nat.le_of_ble_eq_true rfl) (x.va _ _)]
  have ca : ∀ l : List V, (V.agg l).cells = l := fun _ => rfl
  have hc := ok.cl
  obtain ⟨hA, eA⟩ : ∃ hA, h.new (.cells [.int .u8 (o.code : Int), .slice a o.l.length c ez] .rw) = hA := ⟨_, rfl⟩
  have kA : Kp h hA := by rw [← eA]; exact Kp.new _ _
  have nA : hA.next = h.next + 1 := by rw [← eA]; rfl
  have gA : hA.get h.next = some (.cells [.int .u8 (o.code : Int), .slice a o.l.length c ez] .rw) := by rw [← eA]; exact h_new_same _ _
  obtain ⟨hB, rv, kB⟩ := rmay_go e x N o hc (by omega) a c ez hA
  have gB : hB.get h.next = some (.cells [.int .u8 (o.code : Int), .slice a o.l.length c ez] .rw) := by rw [kB.2 _ (by omega), gA]
  have kAB := kA.trans kB
  unfold valV
  cases hv : okO o with
  | false =>
    rw [hv] at rv
    rw [if_pos rfl]
    refine ⟨hB, none, some 0, 0, ?_, kAB, .inl rfl⟩
    show _ = some (V.tup [.slice none ([] : List Nat).length (some 0) 0, .bool false], hB)
    rw [List.length_nil]
    generalize o.l.length = n at *
    simp (config := {maxSteps := 2000000}) (disch := first | omega | (simp only [List.length_cons, List.length_nil, List.length_append, List.length_drop]; omega)) only [ca, eA, gA, rv, ld2, ↓s_box, ↓b_xor32, ↓b_and32, ↓b_or32, ↓u_not32, b_xor32, b_and32, b_or32, u_not32, w32ad, ↓x_conv, x_convV, ↓x_fieldAddr, x_fieldV, ↓s_nilchk, x_nilchk, Nat.zero_add, Nat.add_zero, Nat.mul_one, ↓s_evD, ↓s_dnil, ↓s_dL, ↓s_dLg, ↓s_dR, ↓s_dRg, ↓s_dRj, ↓s_dRjg, ↓s_dB, ↓s_dBg, ↓s_dAlloc, ↓s_bindD, s_bindD, s_finD, s_finDx, s_addP0, s_addP1, s_addB, s_lookP, ↓s_bump0, ↓s_bump_get, s_bump_next, s_ok0, ↓s_ok1, s_okR0, ↓s_okR1, ↓s_okE, s_okE, s_okE1, s_nth0, s_nthS, Nat.add_zero, Bool.and_self, Bool.and_true, Bool.true_and, ↓l_loop, ↓l_succ, ↓l_normal, l_normal, l_exit, l_ret, l_iteN, ↓h_put_get, ↓h_new_get, ↓h_del_get, h_next_put, h_next_new, h_next_del, Nat.add_assoc, Nat.add_eq_left, Nat.left_eq_add, Nat.add_left_cancel_iff, ↓s_load, m_load, ↓m_load1, m_load1, ↓m_st, m_stE, m_storeI, m_storeE, w_zero, w_succ, ↓s_alloc, ↓x_idxA, ↓x_idxS, x_idxAE, x_idxSE, x_addrE, x_idx, x_lenS, ↓s_len, ↓x_buildS, x_buildE, ↓x_P0, ↓x_P1, x_fill0, x_filli, x_fills, x_fillb, c_int, List.length_cons, List.length_nil, List.cons_append, List.drop_succ_cons, List.drop_zero, List.drop_nil, List.nil_append, Int.reduceAdd, Int.reduceToNat, Int.reduceLT, Int.reduceLE, Nat.reduceAdd, Nat.reduceMul, Nat.reduceLeDiff, Int.reduceEq, Int.reduceSub, Int.cast_ofNat_Int, s_resc, s_consR, m_load4, m_store4, s_res0, ↓s_skip, ↓s_ops, ↓s_dops, ↓s_seq, ↓s_cond, ↓s_block, ↓s_exit, ↓s_ret, ↓s_scope, ↓s_nil, ↓s_op, ↓s_opg, ↓s_wanted', ↓s_wantV, s_wantV, s_wantV0, beq_true, beq_false, ↓s_bindS, s_bindS, ↓s_bindE, s_bindE, s_bindE_ret, s_bindE_exit, s_bindE_iteN, s_norm, ↓s_condV, s_condV, s_block_ret, s_block_normal, s_block_exit, s_block_iteN, ↓s_getp, ↓s_getp0, ↓s_get, s_get0, ↓s_con, ↓s_fn, ↓s_os0, ↓s_os1, ↓s_list0, ↓s_list1, ↓s_mov, ↓s_pick, ↓s_pickE, s_pickE, ↓s_bin, ↓s_un, ↓s_minmax, ↓s_call, ↓s_callv, ↓s_callV, ↓s_ext, s_same, b_eql, b_neq, b_lss, b_leq, b_gtr, b_geq, b_add, b_sub, b_mul, b_eqlb, b_neqb, b_fnil, b_fnil', b_fnil2, b_fnil2', u_neg, u_not, m_two, s_end, s_end', s_end_iteN, s_res0, s_res1, s_tup1, s_tup2, ↓iteN_true, ↓iteN_false, iteN_true, iteN_false, Nat.zero_add, List.nil_append, List.append_nil, Nat.reduceEqDiff, reduceIte, decide_true, decide_false, Bool.not_true, Bool.not_false, List.getElem?_cons_zero, List.getElem?_cons_succ, Bool.false_eq_true, if_true, if_false, beq_self_eq_true]
    try rfl
  | true =>
    rw [hv] at rv
    rw [if_neg (by simp)]
    by_cases c1 : o.code ≤ 77
    · rw [if_pos c1]
      have d1 : decide ((o.code : Int) < 78) = true := decide_eq_true (by omega)
      obtain ⟨b, cb, eb, hC, rb, nb⟩ := twinv_go e.tw x.tw N o.l hl a c ez hB (src.mono kAB)
      refine ⟨hC, b, cb, eb, ?_, kAB.trans nb.kp, nb.wb.src⟩
      show _ = some (V.tup [.slice b o.l.length cb eb, .bool true], hC)
      generalize o.l.length = n at *
      simp (config := {maxSteps := 2000000}) (disch := first | omega | (simp only [List.length_cons, List.length_nil, List.length_append, List.length_drop]; omega)) only [ca, eA, gA, gB, rv, rb, d1, ld2, ↓s_box, ↓b_xor32, ↓b_and32, ↓b_or32, ↓u_not32, b_xor32, b_and32, b_or32, u_not32, w32ad, ↓x_conv, x_convV, ↓x_fieldAddr, x_fieldV, ↓s_nilchk, x_nilchk, Nat.zero_add, Nat.add_zero, Nat.mul_one, ↓s_evD, ↓s_dnil, ↓s_dL, ↓s_dLg, ↓s_dR, ↓s_dRg, ↓s_dRj, ↓s_dRjg, ↓s_dB, ↓s_dBg, ↓s_dAlloc, ↓s_bindD, s_bindD, s_finD, s_finDx, s_addP0, s_addP1, s_addB, s_lookP, ↓s_bump0, ↓s_bump_get, s_bump_next, s_ok0, ↓s_ok1, s_okR0, ↓s_okR1, ↓s_okE, s_okE, s_okE1, s_nth0, s_nthS, Nat.add_zero, Bool.and_self, Bool.and_true, Bool.true_and, ↓l_loop, ↓l_succ, ↓l_normal, l_normal, l_exit, l_ret, l_iteN, ↓h_put_get, ↓h_new_get, ↓h_del_get, h_next_put, h_next_new, h_next_del, Nat.add_assoc, Nat.add_eq_left, Nat.left_eq_add, Nat.add_left_cancel_iff, ↓s_load, m_load, ↓m_load1, m_load1, ↓m_st, m_stE, m_storeI, m_storeE, w_zero, w_succ, ↓s_alloc, ↓x_idxA, ↓x_idxS, x_idxAE, x_idxSE, x_addrE, x_idx, x_lenS, ↓s_len, ↓x_buildS, x_buildE, ↓x_P0, ↓x_P1, x_fill0, x_filli, x_fills, x_fillb, c_int, List.length_cons, List.length_nil, List.cons_append, List.drop_succ_cons, List.drop_zero, List.drop_nil, List.nil_append, Int.reduceAdd, Int.reduceToNat, Int.reduceLT, Int.reduceLE, Nat.reduceAdd, Nat.reduceMul, Nat.reduceLeDiff, Int.reduceEq, Int.reduceSub, Int.cast_ofNat_Int, s_resc, s_consR, m_load4, m_store4, s_res0, ↓s_skip, ↓s_ops, ↓s_dops, ↓s_seq, ↓s_cond, ↓s_block, ↓s_exit, ↓s_ret, ↓s_scope, ↓s_nil, ↓s_op, ↓s_opg, ↓s_wanted', ↓s_wantV, s_wantV, s_wantV0, beq_true, beq_false, ↓s_bindS, s_bindS, ↓s_bindE, s_bindE, s_bindE_ret, s_bindE_exit, s_bindE_iteN, s_norm, ↓s_condV, s_condV, s_block_ret, s_block_normal, s_block_exit, s_block_iteN, ↓s_getp, ↓s_getp0, ↓s_get, s_get0, ↓s_con, ↓s_fn, ↓s_os0, ↓s_os1, ↓s_list0, ↓s_list1, ↓s_mov, ↓s_pick, ↓s_pickE, s_pickE, ↓s_bin, ↓s_un, ↓s_minmax, ↓s_call, ↓s_callv, ↓s_callV, ↓s_ext, s_same, b_eql, b_neq, b_lss, b_leq, b_gtr, b_geq, b_add, b_sub, b_mul, b_eqlb, b_neqb, b_fnil, b_fnil', b_fnil2, b_fnil2', u_neg, u_not, m_two, s_end, s_end', s_end_iteN, s_res0, s_res1, s_tup1, s_tup2, ↓iteN_true, ↓iteN_false, iteN_true, iteN_false, Nat.zero_add, List.nil_append, List.append_nil, Nat.reduceEqDiff, reduceIte, decide_true, decide_false, Bool.not_true, Bool.not_false, List.getElem?_cons_zero, List.getElem?_cons_succ, Bool.false_eq_true, if_true, if_false, beq_self_eq_true]
      try rfl
    · rw [if_neg c1]
      have d1 : decide ((o.code : Int) < 78) = false := decide_eq_false (by omega)
      by_cases c2 : o.code = 79
      · rw [if_pos c2]
        have d2 : decide ((o.code : Int) = 79) = true := decide_eq_true (by omega)
        refine ⟨hB.new (.cells (ofI .u8 [129]) .rw), some (hB.next, 0), some 1, 1, ?_, kAB.trans (Kp.new _ _), .inr ⟨hB.next, 0, _, .rw, rfl, rfl, Nat.lt_succ_self _, h_new_same _ _, by simp [ofI_len], rfl⟩⟩
        show _ = some (V.tup [.slice (some (hB.next, 0)) 1 (some 1) 1, .bool true], hB.new (.cells [.int .u8 129] .rw))
        generalize o.l.length = n at *
        simp (config := {maxSteps := 2000000}) (disch := first | omega | (simp only [List.length_cons, List.length_nil, List.length_append, List.length_drop]; omega)) only [ca, eA, gA, gB, rv, d1, d2, ld2, ↓s_box, ↓b_xor32, ↓b_and32, ↓b_or32, ↓u_not32, b_xor32, b_and32, b_or32, u_not32, w32ad, ↓x_conv, x_convV, ↓x_fieldAddr, x_fieldV, ↓s_nilchk, x_nilchk, Nat.zero_add, Nat.add_zero, Nat.mul_one, ↓s_evD, ↓s_dnil, ↓s_dL, ↓s_dLg, ↓s_dR, ↓s_dRg, ↓s_dRj, ↓s_dRjg, ↓s_dB, ↓s_dBg, ↓s_dAlloc, ↓s_bindD, s_bindD, s_finD, s_finDx, s_addP0, s_addP1, s_addB, s_lookP, ↓s_bump0, ↓s_bump_get, s_bump_next, s_ok0, ↓s_ok1, s_okR0, ↓s_okR1, ↓s_okE, s_okE, s_okE1, s_nth0, s_nthS, Nat.add_zero, Bool.and_self, Bool.and_true, Bool.true_and, ↓l_loop, ↓l_succ, ↓l_normal, l_normal, l_exit, l_ret, l_iteN, ↓h_put_get, ↓h_new_get, ↓h_del_get, h_next_put, h_next_new, h_next_del, Nat.add_assoc, Nat.add_eq_left, Nat.left_eq_add, Nat.add_left_cancel_iff, ↓s_load, m_load, ↓m_load1, m_load1, ↓m_st, m_stE, m_storeI, m_storeE, w_zero, w_succ, ↓s_alloc, ↓x_idxA, ↓x_idxS, x_idxAE, x_idxSE, x_addrE, x_idx, x_lenS, ↓s_len, ↓x_buildS, x_buildE, ↓x_P0, ↓x_P1, x_fill0, x_filli, x_fills, x_fillb, c_int, List.length_cons, List.length_nil, List.cons_append, List.drop_succ_cons, List.drop_zero, List.drop_nil, List.nil_append, Int.reduceAdd, Int.reduceToNat, Int.reduceLT, Int.reduceLE, Nat.reduceAdd, Nat.reduceMul, Nat.reduceLeDiff, Int.reduceEq, Int.reduceSub, Int.cast_ofNat_Int, s_resc, s_consR, m_load4, m_store4, s_res0, ↓s_skip, ↓s_ops, ↓s_dops, ↓s_seq, ↓s_cond, ↓s_block, ↓s_exit, ↓s_ret, ↓s_scope, ↓s_nil, ↓s_op, ↓s_opg, ↓s_wanted', ↓s_wantV, s_wantV, s_wantV0, beq_true, beq_false, ↓s_bindS, s_bindS, ↓s_bindE, s_bindE, s_bindE_ret, s_bindE_exit, s_bindE_iteN, s_norm, ↓s_condV, s_condV, s_block_ret, s_block_normal, s_block_exit, s_block_iteN, ↓s_getp, ↓s_getp0, ↓s_get, s_get0, ↓s_con, ↓s_fn, ↓s_os0, ↓s_os1, ↓s_list0, ↓s_list1, ↓s_mov, ↓s_pick, ↓s_pickE, s_pickE, ↓s_bin, ↓s_un, ↓s_minmax, ↓s_call, ↓s_callv, ↓s_callV, ↓s_ext, s_same, b_eql, b_neq, b_lss, b_leq, b_gtr, b_geq, b_add, b_sub, b_mul, b_eqlb, b_neqb, b_fnil, b_fnil', b_fnil2, b_fnil2', u_neg, u_not, m_two, s_end, s_end', s_end_iteN, s_res0, s_res1, s_tup1, s_tup2, ↓iteN_true, ↓iteN_false, iteN_true, iteN_false, Nat.zero_add, List.nil_append, List.append_nil, Nat.reduceEqDiff, reduceIte, decide_true, decide_false, Bool.not_true, Bool.not_false, List.getElem?_cons_zero, List.getElem?_cons_succ, Bool.false_eq_true, if_true, if_false, beq_self_eq_true]
        try rfl
      · rw [if_neg c2]
        have d2 : decide ((o.code : Int) = 79) = false := decide_eq_false (by omega)
        by_cases c3 : 81 ≤ o.code
        · have d3 : decide ((80 : Int) < (o.code : Int)) = true := decide_eq_true (by omega)
          by_cases c4 : o.code ≤ 96
          · rw [if_pos ⟨c3, c4⟩]
            have d4 : decide ((o.code : Int) < 97) = true := decide_eq_true (by omega)
            have w1 : wr .u8 ((o.code : Int) - 80) = ((o.code - 80 : Nat) : Int) := by rw [show (o.code : Int) - 80 = ((o.code - 80 : Nat) : Int) by omega, w8n, Nat.mod_eq_of_lt (by omega)]
            refine ⟨hB.new (.cells (ofI .u8 [o.code - 80]) .rw), some (hB.next, 0), some 1, 1, ?_, kAB.trans (Kp.new _ _), .inr ⟨hB.next, 0, _, .rw, rfl, rfl, Nat.lt_succ_self _, h_new_same _ _, by simp [ofI_len], rfl⟩⟩
            show _ = some (V.tup [.slice (some (hB.next, 0)) 1 (some 1) 1, .bool true], hB.new (.cells [.int .u8 ((o.code - 80 : Nat) : Int)] .rw))
            generalize o.l.length = n at *
            generalize o.code - 80 = y0 at *
            simp (config := {maxSteps := 2000000}) (disch := first | omega | (simp only [List.length_cons, List.length_nil, List.length_append, List.length_drop]; omega)) only [ca, eA, gA, gB, rv, d1, d2, d3, d4, w1, ld2, ↓s_box, ↓b_xor32, ↓b_and32, ↓b_or32, ↓u_not32, b_xor32, b_and32, b_or32, u_not32, w32ad, ↓x_conv, x_convV, ↓x_fieldAddr, x_fieldV, ↓s_nilchk, x_nilchk, Nat.zero_add, Nat.add_zero, Nat.mul_one, ↓s_evD, ↓s_dnil, ↓s_dL, ↓s_dLg, ↓s_dR, ↓s_dRg, ↓s_dRj, ↓s_dRjg, ↓s_dB, ↓s_dBg, ↓s_dAlloc, ↓s_bindD, s_bindD, s_finD, s_finDx, s_addP0, s_addP1, s_addB, s_lookP, ↓s_bump0, ↓s_bump_get, s_bump_next, s_ok0, ↓s_ok1, s_okR0, ↓s_okR1, ↓s_okE, s_okE, s_okE1, s_nth0, s_nthS, Nat.add_zero, Bool.and_self, Bool.and_true, Bool.true_and, ↓l_loop, ↓l_succ, ↓l_normal, l_normal, l_exit, l_ret, l_iteN, ↓h_put_get, ↓h_new_get, ↓h_del_get, h_next_put, h_next_new, h_next_del, Nat.add_assoc, Nat.add_eq_left, Nat.left_eq_add, Nat.add_left_cancel_iff, ↓s_load, m_load, ↓m_load1, m_load1, ↓m_st, m_stE, m_storeI, m_storeE, w_zero, w_succ, ↓s_alloc, ↓x_idxA, ↓x_idxS, x_idxAE, x_idxSE, x_addrE, x_idx, x_lenS, ↓s_len, ↓x_buildS, x_buildE, ↓x_P0, ↓x_P1, x_fill0, x_filli, x_fills, x_fillb, c_int, List.length_cons, List.length_nil, List.cons_append, List.drop_succ_cons, List.drop_zero, List.drop_nil, List.nil_append, Int.reduceAdd, Int.reduceToNat, Int.reduceLT, Int.reduceLE, Nat.reduceAdd, Nat.reduceMul, Nat.reduceLeDiff, Int.reduceEq, Int.reduceSub, Int.cast_ofNat_Int, s_resc, s_consR, m_load4, m_store4, s_res0, ↓s_skip, ↓s_ops, ↓s_dops, ↓s_seq, ↓s_cond, ↓s_block, ↓s_exit, ↓s_ret, ↓s_scope, ↓s_nil, ↓s_op, ↓s_opg, ↓s_wanted', ↓s_wantV, s_wantV, s_wantV0, beq_true, beq_false, ↓s_bindS, s_bindS, ↓s_bindE, s_bindE, s_bindE_ret, s_bindE_exit, s_bindE_iteN, s_norm, ↓s_condV, s_condV, s_block_ret, s_block_normal, s_block_exit, s_block_iteN, ↓s_getp, ↓s_getp0, ↓s_get, s_get0, ↓s_con, ↓s_fn, ↓s_os0, ↓s_os1, ↓s_list0, ↓s_list1, ↓s_mov, ↓s_pick, ↓s_pickE, s_pickE, ↓s_bin, ↓s_un, ↓s_minmax, ↓s_call, ↓s_callv, ↓s_callV, ↓s_ext, s_same, b_eql, b_neq, b_lss, b_leq, b_gtr, b_geq, b_add, b_sub, b_mul, b_eqlb, b_neqb, b_fnil, b_fnil', b_fnil2, b_fnil2', u_neg, u_not, m_two, s_end, s_end', s_end_iteN, s_res0, s_res1, s_tup1, s_tup2, ↓iteN_true, ↓iteN_false, iteN_true, iteN_false, Nat.zero_add, List.nil_append, List.append_nil, Nat.reduceEqDiff, reduceIte, decide_true, decide_false, Bool.not_true, Bool.not_false, List.getElem?_cons_zero, List.getElem?_cons_succ, Bool.false_eq_true, if_true, if_false, beq_self_eq_true]
            try rfl
          · rw [if_neg (fun h => c4 h.2)]
            have d4 : decide ((o.code : Int) < 97) = false := decide_eq_false (by omega)
            refine ⟨hB, none, some 0, 0, ?_, kAB, .inl rfl⟩
            show _ = some (V.tup [.slice none ([] : List Nat).length (some 0) 0, .bool false], hB)
            rw [List.length_nil]
            generalize o.l.length = n at *
            simp (config := {maxSteps := 2000000}) (disch := first | omega | (simp only [List.length_cons, List.length_nil, List.length_append, List.length_drop]; omega)) only [ca, eA, gA, gB, rv, d1, d2, d3, d4, ld2, ↓s_box, ↓b_xor32, ↓b_and32, ↓b_or32, ↓u_not32, b_xor32, b_and32, b_or32, u_not32, w32ad, ↓x_conv, x_convV, ↓x_fieldAddr, x_fieldV, ↓s_nilchk, x_nilchk, Nat.zero_add, Nat.add_zero, Nat.mul_one, ↓s_evD, ↓s_dnil, ↓s_dL, ↓s_dLg, ↓s_dR, ↓s_dRg, ↓s_dRj, ↓s_dRjg, ↓s_dB, ↓s_dBg, ↓s_dAlloc, ↓s_bindD, s_bindD, s_finD, s_finDx, s_addP0, s_addP1, s_addB, s_lookP, ↓s_bump0, ↓s_bump_get, s_bump_next, s_ok0, ↓s_ok1, s_okR0, ↓s_okR1, ↓s_okE, s_okE, s_okE1, s_nth0, s_nthS, Nat.add_zero, Bool.and_self, Bool.and_true, Bool.true_and, ↓l_loop, ↓l_succ, ↓l_normal, l_normal, l_exit, l_ret, l_iteN, ↓h_put_get, ↓h_new_get, ↓h_del_get, h_next_put, h_next_new, h_next_del, Nat.add_assoc, Nat.add_eq_left, Nat.left_eq_add, Nat.add_left_cancel_iff, ↓s_load, m_load, ↓m_load1, m_load1, ↓m_st, m_stE, m_storeI, m_storeE, w_zero, w_succ, ↓s_alloc, ↓x_idxA, ↓x_idxS, x_idxAE, x_idxSE, x_addrE, x_idx, x_lenS, ↓s_len, ↓x_buildS, x_buildE, ↓x_P0, ↓x_P1, x_fill0, x_filli, x_fills, x_fillb, c_int, List.length_cons, List.length_nil, List.cons_append, List.drop_succ_cons, List.drop_zero, List.drop_nil, List.nil_append, Int.reduceAdd, Int.reduceToNat, Int.reduceLT, Int.reduceLE, Nat.reduceAdd, Nat.reduceMul, Nat.reduceLeDiff, Int.reduceEq, Int.reduceSub, Int.cast_ofNat_Int, s_resc, s_consR, m_load4, m_store4, s_res0, ↓s_skip, ↓s_ops, ↓s_dops, ↓s_seq, ↓s_cond, ↓s_block, ↓s_exit, ↓s_ret, ↓s_scope, ↓s_nil, ↓s_op, ↓s_opg, ↓s_wanted', ↓s_wantV, s_wantV, s_wantV0, beq_true, beq_false, ↓s_bindS, s_bindS, ↓s_bindE, s_bindE, s_bindE_ret, s_bindE_exit, s_bindE_iteN, s_norm, ↓s_condV, s_condV, s_block_ret, s_block_normal, s_block_exit, s_block_iteN, ↓s_getp, ↓s_getp0, ↓s_get, s_get0, ↓s_con, ↓s_fn, ↓s_os0, ↓s_os1, ↓s_list0, ↓s_list1, ↓s_mov, ↓s_pick, ↓s_pickE, s_pickE, ↓s_bin, ↓s_un, ↓s_minmax, ↓s_call, ↓s_callv, ↓s_callV, ↓s_ext, s_same, b_eql, b_neq, b_lss, b_leq, b_gtr, b_geq, b_add, b_sub, b_mul, b_eqlb, b_neqb, b_fnil, b_fnil', b_fnil2, b_fnil2', u_neg, u_not, m_two, s_end, s_end', s_end_iteN, s_res0, s_res1, s_tup1, s_tup2, ↓iteN_true, ↓iteN_false, iteN_true, iteN_false, Nat.zero_add, List.nil_append, List.append_nil, Nat.reduceEqDiff, reduceIte, decide_true, decide_false, Bool.not_true, Bool.not_false, List.getElem?_cons_zero, List.getElem?_cons_succ, Bool.false_eq_true, if_true, if_false, beq_self_eq_true]
            try rfl
        · rw [if_neg (fun h => c3 h.1)]
          have d3 : decide ((80 : Int) < (o.code : Int)) = false := decide_eq_false (by omega)
          refine ⟨hB, none, some 0, 0, ?_, kAB, .inl rfl⟩
          show _ = some (V.tup [.slice none ([] : List Nat).length (some 0) 0, .bool false], hB)
          rw [List.length_nil]
          generalize o.l.length = n at *
          simp (config := {maxSteps := 2000000}) (disch := first | omega | (simp only [List.length_cons, List.length_nil, List.length_append, List.length_drop]; omega)) only [ca, eA, gA, gB, rv, d1, d2, d3, ld2, ↓s_box, ↓b_xor32, ↓b_and32, ↓b_or32, ↓u_not32, b_xor32, b_and32, b_or32, u_not32, w32ad, ↓x_conv, x_convV, ↓x_fieldAddr, x_fieldV, ↓s_nilchk, x_nilchk, Nat.zero_add, Nat.add_zero, Nat.mul_one, ↓s_evD, ↓s_dnil, ↓s_dL, ↓s_dLg, ↓s_dR, ↓s_dRg, ↓s_dRj, ↓s_dRjg, ↓s_dB, ↓s_dBg, ↓s_dAlloc, ↓s_bindD, s_bindD, s_finD, s_finDx, s_addP0, s_addP1, s_addB, s_lookP, ↓s_bump0, ↓s_bump_get, s_bump_next, s_ok0, ↓s_ok1, s_okR0, ↓s_okR1, ↓s_okE, s_okE, s_okE1, s_nth0, s_nthS, Nat.add_zero, Bool.and_self, Bool.and_true, Bool.true_and, ↓l_loop, ↓l_succ, ↓l_normal, l_normal, l_exit, l_ret, l_iteN, ↓h_put_get, ↓h_new_get, ↓h_del_get, h_next_put, h_next_new, h_next_del, Nat.add_assoc, Nat.add_eq_left, Nat.left_eq_add, Nat.add_left_cancel_iff, ↓s_load, m_load, ↓m_load1, m_load1, ↓m_st, m_stE, m_storeI, m_storeE, w_zero, w_succ, ↓s_alloc, ↓x_idxA, ↓x_idxS, x_idxAE, x_idxSE, x_addrE, x_idx, x_lenS, ↓s_len, ↓x_buildS, x_buildE, ↓x_P0, ↓x_P1, x_fill0, x_filli, x_fills, x_fillb, c_int, List.length_cons, List.length_nil, List.cons_append, List.drop_succ_cons, List.drop_zero, List.drop_nil, List.nil_append, Int.reduceAdd, Int.reduceToNat, Int.reduceLT, Int.reduceLE, Nat.reduceAdd, Nat.reduceMul, Nat.reduceLeDiff, Int.reduceEq, Int.reduceSub, Int.cast_ofNat_Int, s_resc, s_consR, m_load4, m_store4, s_res0, ↓s_skip, ↓s_ops, ↓s_dops, ↓s_seq, ↓s_cond, ↓s_block, ↓s_exit, ↓s_ret, ↓s_scope, ↓s_nil, ↓s_op, ↓s_opg, ↓s_wanted', ↓s_wantV, s_wantV, s_wantV0, beq_true, beq_false, ↓s_bindS, s_bindS, ↓s_bindE, s_bindE, s_bindE_ret, s_bindE_exit, s_bindE_iteN, s_norm, ↓s_condV, s_condV, s_block_ret, s_block_normal, s_block_exit, s_block_iteN, ↓s_getp, ↓s_getp0, ↓s_get, s_get0, ↓s_con, ↓s_fn, ↓s_os0, ↓s_os1, ↓s_list0, ↓s_list1, ↓s_mov, ↓s_pick, ↓s_pickE, s_pickE, ↓s_bin, ↓s_un, ↓s_minmax, ↓s_call, ↓s_callv, ↓s_callV, ↓s_ext, s_same, b_eql, b_neq, b_lss, b_leq, b_gtr, b_geq, b_add, b_sub, b_mul, b_eqlb, b_neqb, b_fnil, b_fnil', b_fnil2, b_fnil2', u_neg, u_not, m_two, s_end, s_end', s_end_iteN, s_res0, s_res1, s_tup1, s_tup2, ↓iteN_true, ↓iteN_false, iteN_true, iteN_false, Nat.zero_add, List.nil_append, List.append_nil, Nat.reduceEqDiff, reduceIte, decide_true, decide_false, Bool.not_true, Bool.not_false, List.getElem?_cons_zero, List.getElem?_cons_succ, Bool.false_eq_true, if_true, if_false, beq_self_eq_true]
          try rfl
end Go.Eng
namespace Go.Eng
open Go
variable {E : Nat → Option Fn} {X : Orc}
set_option linter.unusedSimpArgs false
set_option linter.unusedVariables false
theorem rpush_go (e : EnRo E) (x : NoRo X) (N : Nat) (l : List Nat) (hl : l.length ≤ 1000000) (a : Option (Nat × Nat)) (c : Option Nat) (ez : Nat) (h : H) (src : SrcH h a ez l) :
    ∃ h' a2 c2 e2, callX E X (N + 2) (.fn k_purserref10_Push) [.slice a l.length c ez] h = some (.tup [.agg [.int .u8 ((pushR l).1.code : Int), .slice a2 (pushR l).1.l.length c2 e2], .int .i64 ((pushR l).2 : Int)], h') ∧ Kp h h' ∧ SrcH h' a2 e2 (pushR l).1.l ∧ ((pushR l).1.l ≠ [] → ∀ q z, a2 = some (q, z) → h.next ≤ q) := by
  rw [x_cfn e.pu _ _ (Nat.le_of_ble_eq_true rfl) (x.pu _ _)]
  obtain ⟨hA, eA⟩ : ∃ hA, h.new (.cells [.int .u8 0, .slice none 0 (some 0) 0] .rw) = hA := ⟨_, rfl⟩
  have kA : Kp h hA := by rw [← eA]; exact Kp.new _ _
  have nA : hA.next = h.next + 1 := by rw [← eA]; rfl
  have gA : hA.get h.next = some (.cells [.int .u8 0, .slice none 0 (some 0) 0] .rw) := by rw [← eA]; exact h_new_same _ _
  unfold pushR
  by_cases c1 : 65535 < l.length
  · rw [if_pos c1]
    have d1 : decide ((65535 : Int) < (l.length : Int)) = true := decide_eq_true (by omega)
    refine ⟨hA.put h.next (.cells [.int .u8 0, .slice none 0 (some 0) 0] .rw), none, some 0, 0, ?_, kA.put _ (Nat.le_refl _), .inl rfl, fun h => absurd rfl h⟩
    simp only [List.length_nil]
    generalize l.length = n at *
    simp (config := {maxSteps := 2000000}) (disch := first | omega | (simp only [List.length_cons, List.length_nil, List.length_append, List.length_drop]; omega)) only [eA, gA, d1, st2, st2r, ld2, x_build, x_aggO, x_P0, x_P1, x_fill0, x_fills, x_fillb, x_filli, ↓s_len, x_lenS, ↓b_xor32, ↓b_and32, ↓b_or32, ↓u_not32, b_xor32, b_and32, b_or32, u_not32, w32ad, ↓x_conv, x_convV, ↓x_fieldAddr, x_fieldV, ↓s_nilchk, x_nilchk, Nat.zero_add, Nat.add_zero, Nat.mul_one, ↓l_loop, ↓l_succ, ↓l_normal, l_normal, l_exit, l_ret, l_iteN, ↓h_put_get, ↓h_new_get, ↓h_del_get, h_next_put, h_next_new, h_next_del, Nat.add_assoc, Nat.add_eq_left, Nat.left_eq_add, Nat.add_left_cancel_iff, ↓s_load, m_load, ↓m_load1, m_load1, ↓m_st, m_stE, m_storeI, m_storeE, w_zero, w_succ, ↓s_alloc, ↓x_idxA, ↓x_idxS, x_idxAE, x_idxSE, x_addrE, x_idx, x_lenS, ↓s_len, ↓x_buildS, x_buildE, ↓x_P0, ↓x_P1, x_fill0, x_filli, x_fills, x_fillb, c_int, List.length_cons, List.length_nil, List.cons_append, List.drop_succ_cons, List.drop_zero, List.drop_nil, List.nil_append, Int.reduceAdd, Int.reduceToNat, Int.reduceLT, Int.reduceLE, Nat.reduceAdd, Nat.reduceMul, Nat.reduceLeDiff, Int.reduceEq, Int.reduceSub, Int.cast_ofNat_Int, s_resc, s_consR, m_load4, m_store4, s_res0, ↓s_skip, ↓s_ops, ↓s_dops, ↓s_seq, ↓s_cond, ↓s_block, ↓s_exit, ↓s_ret, ↓s_scope, ↓s_nil, ↓s_op, ↓s_opg, ↓s_wanted', ↓s_wantV, s_wantV, s_wantV0, beq_true, beq_false, ↓s_bindS, s_bindS, ↓s_bindE, s_bindE, s_bindE_ret, s_bindE_exit, s_bindE_iteN, s_norm, ↓s_condV, s_condV, s_block_ret, s_block_normal, s_block_exit, s_block_iteN, ↓s_getp, ↓s_getp0, ↓s_get, s_get0, ↓s_con, ↓s_fn, ↓s_os0, ↓s_os1, ↓s_list0, ↓s_list1, ↓s_mov, ↓s_pick, ↓s_pickE, s_pickE, ↓s_bin, ↓s_un, ↓s_minmax, ↓s_call, ↓s_callv, ↓s_callV, ↓s_ext, s_same, b_eql, b_neq, b_lss, b_leq, b_gtr, b_geq, b_add, b_sub, b_mul, b_eqlb, b_neqb, b_fnil, b_fnil', b_fnil2, b_fnil2', u_neg, u_not, m_two, s_end, s_end', s_end_iteN, s_res0, s_res1, s_tup1, s_tup2, ↓iteN_true, ↓iteN_false, iteN_true, iteN_false, Nat.zero_add, List.nil_append, List.append_nil, Nat.reduceEqDiff, reduceIte, decide_true, decide_false, Bool.not_true, Bool.not_false, List.getElem?_cons_zero, List.getElem?_cons_succ, Bool.false_eq_true, if_true, if_false, beq_self_eq_true]
    try rfl
  · rw [if_neg c1]
    have d1 : decide ((65535 : Int) < (l.length : Int)) = false := decide_eq_false (by omega)
    obtain ⟨b, cb, eb, hB, rb, nb⟩ := twinv_go e.tw x.tw N l hl a c ez hA (src.mono kA)
    have kB := nb.kp
    obtain ⟨hC, eC⟩ : ∃ hC, (hB.new (.cells [.int .u8 0, .slice none 0 (some 0) 0] .rw)).put hB.next (.cells [.int .u8 77, .slice b l.length cb eb] .rw) = hC := ⟨_, rfl⟩
    have kC : Kp hB hC := by rw [← eC]; (repeat (first | exact Kp.refl _ | refine Kp.put ?_ _ (by first | omega | (simp only [h_next_put, h_next_new, h_next_del]; omega)) | refine Kp.del ?_ (by first | omega | (simp only [h_next_put, h_next_new, h_next_del]; omega)) | refine Kp.trans ?_ (Kp.new _ _)))
    have kBn := kB.1
    have nC : hC.next = hB.next + 1 := by rw [← eC]; rfl
    have gC0 : hC.get h.next = some (.cells [.int .u8 0, .slice none 0 (some 0) 0] .rw) := by rw [kC.2 _ (by omega), kB.2 _ (by omega), gA]
    have gC1 : hC.get hB.next = some (.cells [.int .u8 77, .slice b l.length cb eb] .rw) := by rw [← eC]; exact h_put_same _ _ _
    have kAC := kA.trans (kB.trans kC)
    have z1 : (hB.next = h.next) = False := by simp; omega
    have fin : ∀ (hD hX : H) (cd : Nat), Eqx hB.next hC hX → hD = hX.put h.next (.cells [.int .u8 (cd : Int), .slice b l.length cb eb] .rw) → Kp h hD ∧ SrcH hD b eb l ∧ (l ≠ [] → ∀ q z, b = some (q, z) → h.next ≤ q) ∧ hD.get h.next = some (.cells [.int .u8 (cd : Int), .slice b l.length cb eb] .rw) := by
      intro hD hX cd q eD
      refine ⟨⟨by rw [eD]; show h.next ≤ hX.next; rw [q.1]; omega, fun i hi => by rw [eD, h_put_ne _ _ (by omega), q.2 _ (by omega), kAC.2 _ hi]⟩, ?_, fun _ q z eq => by have := nb.ge q z eq; omega, by rw [eD]; exact h_put_same _ _ _⟩
      by_cases hne : l = []
      · exact .inl hne
      · rcases nb.wb.src with s | ⟨bi, off, vs, m, f1, f2, f3, f4, f5, f6⟩
        · exact .inl s
        · have g1 := nb.ge _ _ f1
          exact .inr ⟨bi, off, vs, m, f1, f2, by rw [eD]; show bi < hX.next; rw [q.1]; omega, by rw [eD, h_put_ne _ _ (by omega), q.2 _ (by omega), kC.2 _ f3, f4], f5, f6⟩
    unfold mkP pcV
    by_cases c2 : l.length ≤ 75
    · rw [if_pos c2]
      have d2 : decide ((l.length : Int) < 256) = true := decide_eq_true (by omega)
      have d3 : decide ((l.length : Int) < 76) = true := decide_eq_true (by omega)
      have w2 : wr .u8 (l.length : Int) = (l.length : Int) := by rw [w8n, Nat.mod_eq_of_lt (by omega)]
      obtain ⟨hX, eX⟩ : ∃ hX, (hC.put hB.next (.cells [.int .u8 76, .slice b l.length cb eb] .rw)).put hB.next (.cells [.int .u8 (l.length : Int), .slice b l.length cb eb] .rw) = hX := ⟨_, rfl⟩
      obtain ⟨hD, eD⟩ : ∃ hD, hX.put h.next (.cells [.int .u8 (l.length : Int), .slice b l.length cb eb] .rw) = hD := ⟨_, rfl⟩
      obtain ⟨f1, f2, f3, f4⟩ := fin hD hX l.length (by rw [← eX]; exact ((Eqx.refl _ _).put _).put _) eD.symm
      have gX0 : hX.get h.next = some (.cells [.int .u8 0, .slice none 0 (some 0) 0] .rw) := by rw [← eX, h_put_ne _ _ (by omega), h_put_ne _ _ (by omega), gC0]
      have gX1 : hX.get hB.next = some (.cells [.int .u8 (l.length : Int), .slice b l.length cb eb] .rw) := by rw [← eX]; exact h_put_same _ _ _
      refine ⟨hD, b, cb, eb, ?_, f1, f2, f3⟩
      simp only
      generalize l.length = n at *
      simp (config := {maxSteps := 2000000}) (disch := first | omega | (simp only [List.length_cons, List.length_nil, List.length_append, List.length_drop]; omega)) only [eA, gA, rb, eC, gC0, gC1, gX0, gX1, d1, d2, d3, w2, eX, eD, f4, z1, st2, st2r, st1, ld2, x_build, x_aggO, x_P0, x_P1, x_fill0, x_fills, x_fillb, x_filli, ↓s_len, x_lenS, ↓b_xor32, ↓b_and32, ↓b_or32, ↓u_not32, b_xor32, b_and32, b_or32, u_not32, w32ad, ↓x_conv, x_convV, ↓x_fieldAddr, x_fieldV, ↓s_nilchk, x_nilchk, Nat.zero_add, Nat.add_zero, Nat.mul_one, ↓l_loop, ↓l_succ, ↓l_normal, l_normal, l_exit, l_ret, l_iteN, ↓h_put_get, ↓h_new_get, ↓h_del_get, h_next_put, h_next_new, h_next_del, Nat.add_assoc, Nat.add_eq_left, Nat.left_eq_add, Nat.add_left_cancel_iff, ↓s_load, m_load, ↓m_load1, m_load1, ↓m_st, m_stE, m_storeI, m_storeE, w_zero, w_succ, ↓s_alloc, ↓x_idxA, ↓x_idxS, x_idxAE, x_idxSE, x_addrE, x_idx, x_lenS, ↓s_len, ↓x_buildS, x_buildE, ↓x_P0, ↓x_P1, x_fill0, x_filli, x_fills, x_fillb, c_int, List.length_cons, List.length_nil, List.cons_append, List.drop_succ_cons, List.drop_zero, List.drop_nil, List.nil_append, Int.reduceAdd, Int.reduceToNat, Int.reduceLT, Int.reduceLE, Nat.reduceAdd, Nat.reduceMul, Nat.reduceLeDiff, Int.reduceEq, Int.reduceSub, Int.cast_ofNat_Int, s_resc, s_consR, m_load4, m_store4, s_res0, ↓s_skip, ↓s_ops, ↓s_dops, ↓s_seq, ↓s_cond, ↓s_block, ↓s_exit, ↓s_ret, ↓s_scope, ↓s_nil, ↓s_op, ↓s_opg, ↓s_wanted', ↓s_wantV, s_wantV, s_wantV0, beq_true, beq_false, ↓s_bindS, s_bindS, ↓s_bindE, s_bindE, s_bindE_ret, s_bindE_exit, s_bindE_iteN, s_norm, ↓s_condV, s_condV, s_block_ret, s_block_normal, s_block_exit, s_block_iteN, ↓s_getp, ↓s_getp0, ↓s_get, s_get0, ↓s_con, ↓s_fn, ↓s_os0, ↓s_os1, ↓s_list0, ↓s_list1, ↓s_mov, ↓s_pick, ↓s_pickE, s_pickE, ↓s_bin, ↓s_un, ↓s_minmax, ↓s_call, ↓s_callv, ↓s_callV, ↓s_ext, s_same, b_eql, b_neq, b_lss, b_leq, b_gtr, b_geq, b_add, b_sub, b_mul, b_eqlb, b_neqb, b_fnil, b_fnil', b_fnil2, b_fnil2', u_neg, u_not, m_two, s_end, s_end', s_end_iteN, s_res0, s_res1, s_tup1, s_tup2, ↓iteN_true, ↓iteN_false, iteN_true, iteN_false, Nat.zero_add, List.nil_append, List.append_nil, Nat.reduceEqDiff, reduceIte, decide_true, decide_false, Bool.not_true, Bool.not_false, List.getElem?_cons_zero, List.getElem?_cons_succ, Bool.false_eq_true, if_true, if_false, beq_self_eq_true]
      try rfl
    · rw [if_neg c2]
      have d3 : decide ((l.length : Int) < 76) = false := decide_eq_false (by omega)
      by_cases c3 : l.length ≤ 255
      · rw [if_pos c3]
        have d2 : decide ((l.length : Int) < 256) = true := decide_eq_true (by omega)
        obtain ⟨hX, eX⟩ : ∃ hX, hC.put hB.next (.cells [.int .u8 76, .slice b l.length cb eb] .rw) = hX := ⟨_, rfl⟩
        obtain ⟨hD, eD⟩ : ∃ hD, hX.put h.next (.cells [.int .u8 76, .slice b l.length cb eb] .rw) = hD := ⟨_, rfl⟩
        obtain ⟨f1, f2, f3, f4⟩ := fin hD hX 76 (by rw [← eX]; exact (Eqx.refl _ _).put _) eD.symm
        replace f4 : hD.get h.next = some (.cells [.int .u8 76, .slice b l.length cb eb] .rw) := f4
        have gX0 : hX.get h.next = some (.cells [.int .u8 0, .slice none 0 (some 0) 0] .rw) := by rw [← eX, h_put_ne _ _ (by omega), gC0]
        have gX1 : hX.get hB.next = some (.cells [.int .u8 76, .slice b l.length cb eb] .rw) := by rw [← eX]; exact h_put_same _ _ _
        refine ⟨hD, b, cb, eb, ?_, f1, f2, f3⟩
        simp only
        generalize l.length = n at *
        simp (config := {maxSteps := 2000000}) (disch := first | omega | (simp only [List.length_cons, List.length_nil, List.length_append, List.length_drop]; omega)) only [eA, gA, rb, eC, gC0, gC1, gX0, gX1, d1, d2, d3, eX, eD, f4, z1, st2, st2r, st1, ld2, x_build, x_aggO, x_P0, x_P1, x_fill0, x_fills, x_fillb, x_filli, ↓s_len, x_lenS, ↓b_xor32, ↓b_and32, ↓b_or32, ↓u_not32, b_xor32, b_and32, b_or32, u_not32, w32ad, ↓x_conv, x_convV, ↓x_fieldAddr, x_fieldV, ↓s_nilchk, x_nilchk, Nat.zero_add, Nat.add_zero, Nat.mul_one, ↓l_loop, ↓l_succ, ↓l_normal, l_normal, l_exit, l_ret, l_iteN, ↓h_put_get, ↓h_new_get, ↓h_del_get, h_next_put, h_next_new, h_next_del, Nat.add_assoc, Nat.add_eq_left, Nat.left_eq_add, Nat.add_left_cancel_iff, ↓s_load, m_load, ↓m_load1, m_load1, ↓m_st, m_stE, m_storeI, m_storeE, w_zero, w_succ, ↓s_alloc, ↓x_idxA, ↓x_idxS, x_idxAE, x_idxSE, x_addrE, x_idx, x_lenS, ↓s_len, ↓x_buildS, x_buildE, ↓x_P0, ↓x_P1, x_fill0, x_filli, x_fills, x_fillb, c_int, List.length_cons, List.length_nil, List.cons_append, List.drop_succ_cons, List.drop_zero, List.drop_nil, List.nil_append, Int.reduceAdd, Int.reduceToNat, Int.reduceLT, Int.reduceLE, Nat.reduceAdd, Nat.reduceMul, Nat.reduceLeDiff, Int.reduceEq, Int.reduceSub, Int.cast_ofNat_Int, s_resc, s_consR, m_load4, m_store4, s_res0, ↓s_skip, ↓s_ops, ↓s_dops, ↓s_seq, ↓s_cond, ↓s_block, ↓s_exit, ↓s_ret, ↓s_scope, ↓s_nil, ↓s_op, ↓s_opg, ↓s_wanted', ↓s_wantV, s_wantV, s_wantV0, beq_true, beq_false, ↓s_bindS, s_bindS, ↓s_bindE, s_bindE, s_bindE_ret, s_bindE_exit, s_bindE_iteN, s_norm, ↓s_condV, s_condV, s_block_ret, s_block_normal, s_block_exit, s_block_iteN, ↓s_getp, ↓s_getp0, ↓s_get, s_get0, ↓s_con, ↓s_fn, ↓s_os0, ↓s_os1, ↓s_list0, ↓s_list1, ↓s_mov, ↓s_pick, ↓s_pickE, s_pickE, ↓s_bin, ↓s_un, ↓s_minmax, ↓s_call, ↓s_callv, ↓s_callV, ↓s_ext, s_same, b_eql, b_neq, b_lss, b_leq, b_gtr, b_geq, b_add, b_sub, b_mul, b_eqlb, b_neqb, b_fnil, b_fnil', b_fnil2, b_fnil2', u_neg, u_not, m_two, s_end, s_end', s_end_iteN, s_res0, s_res1, s_tup1, s_tup2, ↓iteN_true, ↓iteN_false, iteN_true, iteN_false, Nat.zero_add, List.nil_append, List.append_nil, Nat.reduceEqDiff, reduceIte, decide_true, decide_false, Bool.not_true, Bool.not_false, List.getElem?_cons_zero, List.getElem?_cons_succ, Bool.false_eq_true, if_true, if_false, beq_self_eq_true]
        try rfl
      · rw [if_neg c3]
        have d2 : decide ((l.length : Int) < 256) = false := decide_eq_false (by omega)
        obtain ⟨hD, eD⟩ : ∃ hD, hC.put h.next (.cells [.int .u8 77, .slice b l.length cb eb] .rw) = hD := ⟨_, rfl⟩
        obtain ⟨f1, f2, f3, f4⟩ := fin hD hC 77 (Eqx.refl _ _) eD.symm
        replace f4 : hD.get h.next = some (.cells [.int .u8 77, .slice b l.length cb eb] .rw) := f4
        refine ⟨hD, b, cb, eb, ?_, f1, f2, f3⟩
        simp only
        generalize l.length = n at *
        simp (config := {maxSteps := 2000000}) (disch := first | omega | (simp only [List.length_cons, List.length_nil, List.length_append, List.length_drop]; omega)) only [eA, gA, rb, eC, gC0, gC1, d1, d2, d3, eD, f4, z1, st2, st2r, st1, ld2, x_build, x_aggO, x_P0, x_P1, x_fill0, x_fills, x_fillb, x_filli, ↓s_len, x_lenS, ↓b_xor32, ↓b_and32, ↓b_or32, ↓u_not32, b_xor32, b_and32, b_or32, u_not32, w32ad, ↓x_conv, x_convV, ↓x_fieldAddr, x_fieldV, ↓s_nilchk, x_nilchk, Nat.zero_add, Nat.add_zero, Nat.mul_one, ↓l_loop, ↓l_succ, ↓l_normal, l_normal, l_exit, l_ret, l_iteN, ↓h_put_get, ↓h_new_get, ↓h_del_get, h_next_put, h_next_new, h_next_del, Nat.add_assoc, Nat.add_eq_left, Nat.left_eq_add, Nat.add_left_cancel_iff, ↓s_load, m_load, ↓m_load1, m_load1, ↓m_st, m_stE, m_storeI, m_storeE, w_zero, w_succ, ↓s_alloc, ↓x_idxA, ↓x_idxS, x_idxAE, x_idxSE, x_addrE, x_idx, x_lenS, ↓s_len, ↓x_buildS, x_buildE, ↓x_P0, ↓x_P1, x_fill0, x_filli, x_fills, x_fillb, c_int, List.length_cons, List.length_nil, List.cons_append, List.drop_succ_cons, List.drop_zero, List.drop_nil, List.nil_append, Int.reduceAdd, Int.reduceToNat, Int.reduceLT, Int.reduceLE, Nat.reduceAdd, Nat.reduceMul, Nat.reduceLeDiff, Int.reduceEq, Int.reduceSub, Int.cast_ofNat_Int, s_resc, s_consR, m_load4, m_store4, s_res0, ↓s_skip, ↓s_ops, ↓s_dops, ↓s_seq, ↓s_cond, ↓s_block, ↓s_exit, ↓s_ret, ↓s_scope, ↓s_nil, ↓s_op, ↓s_opg, ↓s_wanted', ↓s_wantV, s_wantV, s_wantV0, beq_true, beq_false, ↓s_bindS, s_bindS, ↓s_bindE, s_bindE, s_bindE_ret, s_bindE_exit, s_bindE_iteN, s_norm, ↓s_condV, s_condV, s_block_ret, s_block_normal, s_block_exit, s_block_iteN, ↓s_getp, ↓s_getp0, ↓s_get, s_get0, ↓s_con, ↓s_fn, ↓s_os0, ↓s_os1, ↓s_list0, ↓s_list1, ↓s_mov, ↓s_pick, ↓s_pickE, s_pickE, ↓s_bin, ↓s_un, ↓s_minmax, ↓s_call, ↓s_callv, ↓s_callV, ↓s_ext, s_same, b_eql, b_neq, b_lss, b_leq, b_gtr, b_geq, b_add, b_sub, b_mul, b_eqlb, b_neqb, b_fnil, b_fnil', b_fnil2, b_fnil2', u_neg, u_not, m_two, s_end, s_end', s_end_iteN, s_res0, s_res1, s_tup1, s_tup2, ↓iteN_true, ↓iteN_false, iteN_true, iteN_false, Nat.zero_add, List.nil_append, List.append_nil, Nat.reduceEqDiff, reduceIte, decide_true, decide_false, Bool.not_true, Bool.not_false, List.getElem?_cons_zero, List.getElem?_cons_succ, Bool.false_eq_true, if_true, if_false, beq_self_eq_true]
        try rfl
structure EnOj (E : Nat → Option Fn) : Prop where
  op : EnOp E
  ro : EnRo E
  pu : E k_ops_Push = some f_ops_Push
  va : E k_ops_Value = some f_ops_Value
  gr : E k_purserlaw10_great = some f_purserlaw10_great
structure NoOj (X : Orc) : Prop where
  op : NoOp X
  ro : NoRo X
  pu : ∀ a h, X (.fn k_ops_Push) a h = none
  va : ∀ a h, X (.fn k_ops_Value) a h = none
  gr : ∀ a h, X (.fn k_purserlaw10_great) a h = none
/-- the statement's walk over operations -/
structure OjI (va vp : V) (n : Nat) (h0 : H) (i : Nat) (T : Tr V) (h : H) : Prop where
  il : i ≤ n
  t0 : evO T (.t 0) = va
  t2 : evO T (.t 2) = vp
  t71 : evO T (.t 71) = .int .i64 (n : Int)
  t72 : evO T (.t 72) = .int .i64 (i : Int)
  kp : Kp h0 h
theorem oj_step (e : EnOj E) (x : NoOj X) (M m : Nat) (ops : List Oq) (hl : ops.length ≤ 1000000) (ok : ∀ o ∈ ops, o.ok) (hol : ∀ o ∈ ops, o.l.length ≤ 100000) (hm : 100010 < m) (a : Option (Nat × Nat)) (c : Option Nat) (ez : Nat) (vp : V) (h0 : H) (row : RowS h0 ops a ez) (i : Nat) (T0 : Tr V) (h : H) (hi : i < ops.length) (I : OjI (.slice a ops.length c ez) vp ops.length h0 i T0 h) :
    ∃ T' h', evC (callX E X (M + 2)) 163 m none L_purserlaw10_OpsJoin_1 ⟨T0, [], h⟩ = some (.normal, ⟨T', [], h'⟩) ∧ OjI (.slice a ops.length c ez) vp ops.length h0 (i + 1) T' h' := by
  obtain ⟨_, t0, t2, t71, t72, kp⟩ := I
  have c0 : decide ((i : Int) < (ops.length : Int)) = true := decide_eq_true (by omega)
  have wi : wr .i64 ((i : Int) + 1) = ((i + 1 : Nat) : Int) := by rw [wr_i64 (by omega)]; omega
  have ix : idx (i : Int) ops.length = some i := idxn hi
  obtain ⟨o, ho⟩ : ∃ o, ops[i]? = some o := ⟨_, List.getElem?_eq_getElem hi⟩
  have om := List.mem_of_getElem? ho
  have oko := ok o om
  have lo := hol o om
  obtain ⟨q, off, vs, md, b, cb, eb, rfl, rfl, hq, gq', ld, sb, cg⟩ := row_at row i o ho
  rw [Nat.add_assoc] at cg
  have hqn : q < h.next := Nat.lt_of_lt_of_le hq kp.1
  have gv : h.get q = some (.cells vs md) := by rw [kp.2 _ hq, gq']
  have sw := str_src (sb.mono kp) oko.bl cb
  obtain ⟨h1, a1, c1, e1, r1, k1, ow1, ge1⟩ := valueO_go e.op x.op e.va x.va M o oko (by omega) b cb eb h (sb.mono kp)
  have gv1 : h1.get q = some (.cells vs md) := by rw [k1.2 _ hqn, gv]
  obtain ⟨h2, a2, c2, e2, r2, k2, s2⟩ := rvalue_go e.ro x.ro M o oko (by omega) b cb eb h1 ((sb.mono kp).mono k1)
  obtain ⟨w, ew⟩ : ∃ w, (valV o).getD [] = w := ⟨_, rfl⟩
  rw [ew] at r1 r2 ow1 s2 ge1
  have bw : byt w = true := by
    rw [← ew]
    unfold valV
    split
    · rfl
    · split
      · exact oko.bl
      · split
        · rfl
        · split
          · exact byt_iff.2 (fun y hy => by rcases List.mem_singleton.1 hy with rfl; have := oko.cl; omega)
          · rfl
  have lw : w.length ≤ 100000 := by
    rw [← ew]
    unfold valV
    split
    · exact Nat.zero_le _
    · split
      · exact lo
      · split
        · show 1 ≤ _; omega
        · split
          · show 1 ≤ _; omega
          · exact Nat.zero_le _
  have ow2 := ow1.kp k2
  have st1' := str_src ow2.src bw c1
  have st2' := str_src s2 bw c2
  have sq : decide (w = w) = true := decide_eq_true rfl
  have bq : ((valV o).isSome == (valV o).isSome) = true := by cases (valV o).isSome <;> rfl
  generalize (valV o).isSome = is at *
  have k02 := kp.trans (k1.trans k2)
  have i1 : i + 1 ≤ ops.length := hi
  have kn1 := k1.1
  have kn2 := k2.1
  have kn0 := kp.1
  have fin : ∀ T, evO T (.t 13) = .slice a1 w.length c1 e1 → evO T (.t 108) = .int .i64 (w.length : Int) → evO T (.t 109) = .int .i64 0 → evO T (.t 0) = .slice (some (q, off)) ops.length c 2 → evO T (.t 2) = vp → evO T (.t 11) = .int .i64 (i : Int) → evO T (.t 12) = .str o.l → evO T (.t 71) = .int .i64 (ops.length : Int) → evO T (.t 72) = .int .i64 (i : Int) →
      ∃ T' h', bindE (blockE 1 (bindE (blockE 2 (loopN (evC (callX E X (M + 2)) 163 m none L_purserlaw10_OpsJoin_0) m ⟨T, [], h2⟩)) (evC (callX E X (M + 2)) 163 m none R_purserlaw10_OpsJoin_0))) (evC (callX E X (M + 2)) 163 m none R_purserlaw10_OpsJoin_1) = some (.normal, ⟨T', [], h'⟩) ∧ OjI (.slice (some (q, off)) ops.length c 2) vp ops.length h0 (i + 1) T' h' := by
    intro T u13 u108 u109 u0 u2 u11 u12 u71 u72
    obtain ⟨T3, h3, rr, ⟨n3, f3⟩, w0, w2, w11, w12, w71, w72⟩ := oj0_go (callX E X (M + 2)) m T h2 w (by omega) (by omega) a1 c1 e1 ow2 u13 u108 u109
    rw [rr]
    rw [u0] at w0
    rw [u2] at w2
    rw [u11] at w11
    rw [u12] at w12
    rw [u71] at w71
    rw [u72] at w72
    have fr3 : ∀ j, j < h.next → h3.get j = h2.get j := fun j hj => f3 j (fun hw e => by have := ge1 hw j 0 e; omega)
    have k03 : Kp h0 h3 := ⟨by have := k02.1; omega, fun j hj => by rw [fr3 j (by omega), k02.2 _ hj]⟩
    have gv3 : h3.get q = some (.cells vs md) := by rw [k03.2 _ hq, gq']
    have sw3 := str_src (sb.mono k03) oko.bl cb
    have sl : decide (o.l = o.l) = true := decide_eq_true rfl
    obtain ⟨ol, eol⟩ : ∃ n, o.l.length = n := ⟨_, rfl⟩
    obtain ⟨on, eon⟩ : ∃ n, ops.length = n := ⟨_, rfl⟩
    rw [eol] at cg sw3
    rw [eon] at w0 w71 ix
    exact ⟨_, h3, by
      simp (config := {maxSteps := 2000000}) (disch := first | omega | (simp only [List.length_cons, List.length_nil, List.length_append, List.length_drop]; omega)) only [R_purserlaw10_OpsJoin_0, R_purserlaw10_OpsJoin_1, w0, w2, w11, w12, w71, w72, gv3, cg, sw3, sl, ix, wi, b_sneq, Bool.not_true, ↓ns_b2s, ↓s_len, x_lenS, ↓b_xor32, ↓b_and32, ↓b_or32, ↓u_not32, b_xor32, b_and32, b_or32, u_not32, w32ad, ↓x_conv, x_convV, ↓x_fieldAddr, x_fieldV, ↓s_nilchk, x_nilchk, Nat.zero_add, Nat.add_zero, Nat.mul_one, ↓s_evD, ↓s_dnil, ↓s_dL, ↓s_dLg, ↓s_dR, ↓s_dRg, ↓s_dRj, ↓s_dRjg, ↓s_dB, ↓s_dBg, ↓s_dAlloc, ↓s_bindD, s_bindD, s_finD, s_finDx, s_addP0, s_addP1, s_addB, s_lookP, ↓s_bump0, ↓s_bump_get, s_bump_next, s_ok0, ↓s_ok1, s_okR0, ↓s_okR1, ↓s_okE, s_okE, s_okE1, s_nth0, s_nthS, Nat.add_zero, Bool.and_self, Bool.and_true, Bool.true_and, ↓l_loop, ↓l_succ, ↓l_normal, l_normal, l_exit, l_ret, l_iteN, ↓h_put_get, ↓h_new_get, ↓h_del_get, h_next_put, h_next_new, h_next_del, Nat.add_assoc, Nat.add_eq_left, Nat.left_eq_add, Nat.add_left_cancel_iff, ↓s_load, m_load, ↓m_load1, m_load1, ↓m_st, m_stE, m_storeI, m_storeE, w_zero, w_succ, ↓s_alloc, ↓x_idxA, ↓x_idxS, x_idxAE, x_idxSE, x_addrE, x_idx, x_lenS, ↓s_len, ↓x_buildS, x_buildE, ↓x_P0, ↓x_P1, x_fill0, x_filli, x_fills, x_fillb, c_int, List.length_cons, List.length_nil, List.cons_append, List.drop_succ_cons, List.drop_zero, List.drop_nil, List.nil_append, Int.reduceAdd, Int.reduceToNat, Int.reduceLT, Int.reduceLE, Nat.reduceAdd, Nat.reduceMul, Nat.reduceLeDiff, Int.reduceEq, Int.reduceSub, Int.cast_ofNat_Int, s_resc, s_consR, m_load4, m_store4, s_res0, ↓s_skip, ↓s_ops, ↓s_dops, ↓s_seq, ↓s_cond, ↓s_block, ↓s_exit, ↓s_ret, ↓s_scope, ↓s_nil, ↓s_op, ↓s_opg, ↓s_wanted', ↓s_wantV, s_wantV, s_wantV0, beq_true, beq_false, ↓s_bindS, s_bindS, ↓s_bindE, s_bindE, s_bindE_ret, s_bindE_exit, s_bindE_iteN, s_norm, ↓s_condV, s_condV, s_block_ret, s_block_normal, s_block_exit, s_block_iteN, ↓s_getp, ↓s_getp0, ↓s_get, s_get0, ↓s_con, ↓s_fn, ↓s_os0, ↓s_os1, ↓s_list0, ↓s_list1, ↓s_mov, ↓s_pick, ↓s_pickE, s_pickE, ↓s_bin, ↓s_un, ↓s_minmax, ↓s_call, ↓s_callv, ↓s_callV, ↓s_ext, s_same, b_eql, b_neq, b_lss, b_leq, b_gtr, b_geq, b_add, b_sub, b_mul, b_eqlb, b_neqb, b_fnil, b_fnil', b_fnil2, b_fnil2', u_neg, u_not, m_two, s_end, s_end', s_end_iteN, s_res0, s_res1, s_tup1, s_tup2, ↓iteN_true, ↓iteN_false, iteN_true, iteN_false, Nat.zero_add, List.nil_append, List.append_nil, Nat.reduceEqDiff, reduceIte, decide_true, decide_false, Bool.not_true, Bool.not_false, List.getElem?_cons_zero, List.getElem?_cons_succ, Bool.false_eq_true, if_true, if_false, beq_self_eq_true]
      exact rfl, ⟨i1, by rw [eon]; exact (by (simp only [s_getp, s_getp0, Nat.reduceEqDiff, decide_false, decide_true, iteN_false, iteN_true, w0]; try rfl)), (by (simp only [s_getp, s_getp0, Nat.reduceEqDiff, decide_false, decide_true, iteN_false, iteN_true, w2]; try rfl)), by rw [eon]; exact (by (simp only [s_getp, s_getp0, Nat.reduceEqDiff, decide_false, decide_true, iteN_false, iteN_true, w71]; try rfl)), (by (simp only [s_getp, s_getp0, Nat.reduceEqDiff, decide_false, decide_true, iteN_false, iteN_true, w72]; try rfl)), k03⟩⟩
  obtain ⟨R0, eR0⟩ : ∃ R, R_purserlaw10_OpsJoin_0 = R := ⟨_, rfl⟩
  obtain ⟨R1, eR1⟩ : ∃ R, R_purserlaw10_OpsJoin_1 = R := ⟨_, rfl⟩
  obtain ⟨Lo, eL⟩ : ∃ R, L_purserlaw10_OpsJoin_0 = R := ⟨_, rfl⟩
  obtain ⟨T, u13, u108, u109, u0, u2, u11, u12, u71, u72, ec⟩ : ∃ T, evO T (.t 13) = .slice a1 w.length c1 e1 ∧ evO T (.t 108) = .int .i64 (w.length : Int) ∧ evO T (.t 109) = .int .i64 0 ∧ evO T (.t 0) = .slice (some (q, off)) ops.length c 2 ∧ evO T (.t 2) = vp ∧ evO T (.t 11) = .int .i64 (i : Int) ∧ evO T (.t 12) = .str o.l ∧ evO T (.t 71) = .int .i64 (ops.length : Int) ∧ evO T (.t 72) = .int .i64 (i : Int) ∧ evC (callX E X (M + 2)) 163 m none L_purserlaw10_OpsJoin_1 ⟨T0, [], h⟩ = bindE (blockE 1 (bindE (blockE 2 (loopN (evC (callX E X (M + 2)) 163 m none Lo) m ⟨T, [], h2⟩)) (evC (callX E X (M + 2)) 163 m none R0))) (evC (callX E X (M + 2)) 163 m none R1) := by
    obtain ⟨ol, eol⟩ : ∃ n, o.l.length = n := ⟨_, rfl⟩
    obtain ⟨on, eon⟩ : ∃ n, ops.length = n := ⟨_, rfl⟩
    obtain ⟨wn, ewn⟩ : ∃ n, w.length = n := ⟨_, rfl⟩
    rw [eol] at cg sw ld r1 r2
    rw [eon] at t0 t71 c0 ix ⊢
    rw [ewn] at r1 r2 st1' st2' ⊢
    refine ⟨_, ?_, ?_, ?_, ?_, ?_, ?_, ?_, ?_, ?_, by
      unfold L_purserlaw10_OpsJoin_1
      rw [eR0, eR1, eL]
      simp (config := {maxSteps := 2000000}) (disch := first | omega | (simp only [List.length_cons, List.length_nil, List.length_append, List.length_drop]; omega)) only [t0, t2, t71, t72, gv, gv1, cg, ld, sw, r1, r2, st1', st2', sq, bq, c0, ix, b_sneq, b_neqb, Bool.not_true, ↓ns_b2s, ↓s_len, x_lenS, ↓b_xor32, ↓b_and32, ↓b_or32, ↓u_not32, b_xor32, b_and32, b_or32, u_not32, w32ad, ↓x_conv, x_convV, ↓x_fieldAddr, x_fieldV, ↓s_nilchk, x_nilchk, Nat.zero_add, Nat.add_zero, Nat.mul_one, ↓s_evD, ↓s_dnil, ↓s_dL, ↓s_dLg, ↓s_dR, ↓s_dRg, ↓s_dRj, ↓s_dRjg, ↓s_dB, ↓s_dBg, ↓s_dAlloc, ↓s_bindD, s_bindD, s_finD, s_finDx, s_addP0, s_addP1, s_addB, s_lookP, ↓s_bump0, ↓s_bump_get, s_bump_next, s_ok0, ↓s_ok1, s_okR0, ↓s_okR1, ↓s_okE, s_okE, s_okE1, s_nth0, s_nthS, Nat.add_zero, Bool.and_self, Bool.and_true, Bool.true_and, ↓l_loop, ↓l_succ, ↓l_normal, l_normal, l_exit, l_ret, l_iteN, ↓h_put_get, ↓h_new_get, ↓h_del_get, h_next_put, h_next_new, h_next_del, Nat.add_assoc, Nat.add_eq_left, Nat.left_eq_add, Nat.add_left_cancel_iff, ↓s_load, m_load, ↓m_load1, m_load1, ↓m_st, m_stE, m_storeI, m_storeE, w_zero, w_succ, ↓s_alloc, ↓x_idxA, ↓x_idxS, x_idxAE, x_idxSE, x_addrE, x_idx, x_lenS, ↓s_len, ↓x_buildS, x_buildE, ↓x_P0, ↓x_P1, x_fill0, x_filli, x_fills, x_fillb, c_int, List.length_cons, List.length_nil, List.cons_append, List.drop_succ_cons, List.drop_zero, List.drop_nil, List.nil_append, Int.reduceAdd, Int.reduceToNat, Int.reduceLT, Int.reduceLE, Nat.reduceAdd, Nat.reduceMul, Nat.reduceLeDiff, Int.reduceEq, Int.reduceSub, Int.cast_ofNat_Int, s_resc, s_consR, m_load4, m_store4, s_res0, ↓s_skip, ↓s_ops, ↓s_dops, ↓s_seq, ↓s_cond, ↓s_block, ↓s_exit, ↓s_ret, ↓s_scope, ↓s_nil, ↓s_op, ↓s_opg, ↓s_wanted', ↓s_wantV, s_wantV, s_wantV0, beq_true, beq_false, ↓s_bindS, s_bindS, ↓s_bindE, s_bindE, s_bindE_ret, s_bindE_exit, s_bindE_iteN, s_norm, ↓s_condV, s_condV, s_block_ret, s_block_normal, s_block_exit, s_block_iteN, ↓s_getp, ↓s_getp0, ↓s_get, s_get0, ↓s_con, ↓s_fn, ↓s_os0, ↓s_os1, ↓s_list0, ↓s_list1, ↓s_mov, ↓s_pick, ↓s_pickE, s_pickE, ↓s_bin, ↓s_un, ↓s_minmax, ↓s_call, ↓s_callv, ↓s_callV, ↓s_ext, s_same, b_eql, b_neq, b_lss, b_leq, b_gtr, b_geq, b_add, b_sub, b_mul, b_eqlb, b_neqb, b_fnil, b_fnil', b_fnil2, b_fnil2', u_neg, u_not, m_two, s_end, s_end', s_end_iteN, s_res0, s_res1, s_tup1, s_tup2, ↓iteN_true, ↓iteN_false, iteN_true, iteN_false, Nat.zero_add, List.nil_append, List.append_nil, Nat.reduceEqDiff, reduceIte, decide_true, decide_false, Bool.not_true, Bool.not_false, List.getElem?_cons_zero, List.getElem?_cons_succ, Bool.false_eq_true, if_true, if_false, beq_self_eq_true]
      exact rfl⟩
    all_goals (simp only [s_getp, s_getp0, Nat.reduceEqDiff, decide_false, decide_true, iteN_false, iteN_true, t0, t2, t71, t72]; try rfl)
  rw [ec, ← eR0, ← eR1, ← eL]
  exact fin T u13 u108 u109 u0 u2 u11 u12 u71 u72
end Go.Eng
namespace Go.Eng
open Go
variable {E : Nat → Option Fn} {X : Orc}
set_option linter.unusedSimpArgs false
set_option linter.unusedVariables false
/-- a row of one -/
theorem rowOne (h : H) (q : Nat) (md : Md) (o : Oq) (b : Option (Nat × Nat)) (cb : Option Nat) (eb : Nat) (hq : q < h.next) (g : h.get q = some (.cells [.int .u8 (o.code : Int), .slice b o.l.length cb eb] md)) (s : SrcH h b eb o.l) : RowS h [o] (some (q, 0)) 2 :=
  .inr ⟨q, 0, _, md, rfl, rfl, hq, g, by simp, fun i o' ho => by
    cases i with
    | zero => simp at ho; subst ho; exact ⟨b, cb, eb, rfl, s⟩
    | succ i => simp at ho⟩
theorem pushR_ok (p : List Nat) (bp : byt p = true) : (pushR p).1.ok := by
  unfold pushR
  split
  · exact ⟨by show 0 < 256; omega, rfl⟩
  · exact ⟨by show pcV p.length < 256; unfold pcV; split <;> (try split) <;> omega, bp⟩
theorem joR_byt (ops : List Oq) (ok : ∀ o ∈ ops, o.ok) : byt (joR ops).1 = true := by
  unfold joR
  split
  · exact wB_byt ops ok
  · rfl

theorem no_oj : NoOj noX := ⟨⟨fun _ _ => rfl, fun _ _ => rfl, fun _ _ => rfl, fun _ _ => rfl, fun _ _ => rfl, fun _ _ => rfl, fun _ _ => rfl, fun _ _ => rfl, fun _ _ => rfl, fun _ _ => rfl, fun _ _ => rfl, fun _ _ => rfl, fun _ _ _ => rfl⟩, ⟨fun _ _ => rfl, fun _ _ => rfl, fun _ _ => rfl, fun _ _ => rfl, fun _ _ => rfl, fun _ _ => rfl, fun _ _ => rfl⟩, fun _ _ => rfl, fun _ _ => rfl, fun _ _ => rfl⟩
/-- the last part: the operation that pushes, of bytes that are written over then -/
theorem oj_tail (e : EnOj E) (x : NoOj X) (M m : Nat) (hM : 10 < M) (hm : 100010 < m) (p : List Nat) (bp : byt p = true) (hp : p.length ≤ 100000) (a : Option (Nat × Nat)) (c : Option Nat) (ez : Nat) (T : Tr V) (h : H) (ps : SrcH h a ez p) (t2 : evO T (.t 2) = .slice a p.length c ez) :
    ∃ h2, fnEnd [.tmp 6] (evC (callX E X (M + 2)) 163 m none R_purserlaw10_OpsJoin_3 ⟨T, [], h⟩) = some (.bool true, h2) := by
  have sp := (ps.mono (Kp.new h (.cells [] .rw))).cellz c
  obtain ⟨a1, c1, e1, hA, ap, kA, owA, geA⟩ := app_bO h p (by omega)
  obtain ⟨hB, a2, c2, e2, rB, kB, sB, geB⟩ := push_go e.op x.op e.pu x.pu M p (by omega) a1 c1 e1 hA owA.src
  obtain ⟨o, eo⟩ : ∃ o, (pushR p).1 = o := ⟨_, rfl⟩
  obtain ⟨en, een⟩ : ∃ o, (pushR p).2 = o := ⟨_, rfl⟩
  have oko := pushR_ok p bp
  rw [eo] at rB sB geB oko
  rw [een] at rB
  obtain ⟨hC, eC⟩ : ∃ hC, (hB.new (.cells [.int .u8 0, .slice none 0 (some 0) 0] .rw)).put hB.next (.cells [.int .u8 (o.code : Int), .slice a2 o.l.length c2 e2] .rw) = hC := ⟨_, rfl⟩
  have kC : Kp hB hC := by rw [← eC]; (repeat (first | exact Kp.refl _ | refine Kp.put ?_ _ (by first | omega | (simp only [h_next_put, h_next_new, h_next_del]; omega)) | refine Kp.del ?_ (by first | omega | (simp only [h_next_put, h_next_new, h_next_del]; omega)) | refine Kp.trans ?_ (Kp.new _ _)))
  have nC : hC.next = hB.next + 1 := by rw [← eC]; rfl
  have gC : hC.get hB.next = some (.cells [.int .u8 (o.code : Int), .slice a2 o.l.length c2 e2] .rw) := by rw [← eC]; exact h_put_same _ _ _
  have k0C : Kp h hC := kA.trans (kB.trans kC)
  obtain ⟨hD, a3, c3, e3, rD, kD, sD, geD⟩ := rpush_go e.ro x.ro M p (by omega) a c ez hC (ps.mono k0C)
  rw [eo] at rD sD geD
  rw [een] at rD
  obtain ⟨hE, eE⟩ : ∃ hE, (hD.new (.cells [.int .u8 0, .slice none 0 (some 0) 0] .rw)).put hD.next (.cells [.int .u8 (o.code : Int), .slice a3 o.l.length c3 e3] .rw) = hE := ⟨_, rfl⟩
  have kE : Kp hD hE := by rw [← eE]; (repeat (first | exact Kp.refl _ | refine Kp.put ?_ _ (by first | omega | (simp only [h_next_put, h_next_new, h_next_del]; omega)) | refine Kp.del ?_ (by first | omega | (simp only [h_next_put, h_next_new, h_next_del]; omega)) | refine Kp.trans ?_ (Kp.new _ _)))
  have nE : hE.next = hD.next + 1 := by rw [← eE]; rfl
  have gE1 : hE.get hD.next = some (.cells [.int .u8 (o.code : Int), .slice a3 o.l.length c3 e3] .rw) := by rw [← eE]; exact h_put_same _ _ _
  have knA := kA.1
  have knB := kB.1
  have knD := kD.1
  have gE0 : hE.get hB.next = some (.cells [.int .u8 (o.code : Int), .slice a2 o.l.length c2 e2] .rw) := by rw [kE.2 _ (by omega), kD.2 _ (by omega), gC]
  have kAE : Kp hA hE := kB.trans (kC.trans (kD.trans kE))
  have owE := owA.kp kAE
  have lt1 : p ≠ [] → ∀ j z, a1 = some (j, z) → j < hA.next := fun hne j z e => by
    rcases owA with s | ⟨q, md, f1, _, _, _, hq⟩
    · exact absurd s hne
    · rw [f1] at e; cases e; exact hq
  have sBE : SrcH hE a2 e2 o.l := ((sB.mono kC).mono kD).mono kE
  have sDE : SrcH hE a3 e3 o.l := sD.mono kE
  have fin : ∀ T, evO T (.t 18) = .slice a1 p.length c1 e1 → evO T (.t 142) = .int .i64 (p.length : Int) → evO T (.t 143) = .int .i64 0 → evO T (.t 19) = .ptr (some (hB.next, 0)) → evO T (.t 20) = .int .i64 (en : Int) → evO T (.t 21) = .ptr (some (hD.next, 0)) → evO T (.t 22) = .int .i64 (en : Int) →
      ∃ h2, fnEnd [.tmp 6] (bindE (blockE 4 (loopN (evC (callX E X (M + 2)) 163 m none L_purserlaw10_OpsJoin_2) m ⟨T, [], hE⟩)) (evC (callX E X (M + 2)) 163 m none R_purserlaw10_OpsJoin_2)) = some (.bool true, h2) := by
    intro T u18 u142 u143 u19 u20 u21 u22
    obtain ⟨T3, hF, rr, ⟨nF, fF⟩, w19, w20, w21, w22⟩ := oj2_go (callX E X (M + 2)) m T hE p (by omega) (by omega) a1 c1 e1 owE u18 u142 u143
    rw [rr]
    rw [u19] at w19
    rw [u20] at w20
    rw [u21] at w21
    rw [u22] at w22
    have fr : ∀ j, hA.next ≤ j → hF.get j = hE.get j := fun j hj => fF j (fun hne e => by have := lt1 hne j 0 e; omega)
    have up : ∀ (b : Option (Nat × Nat)) (eb : Nat), SrcH hE b eb o.l → (o.l ≠ [] → ∀ q z, b = some (q, z) → hA.next ≤ q) → SrcH hF b eb o.l := fun b eb s g => by
      by_cases ol : o.l = []
      · exact .inl ol
      · rcases s with s | ⟨bi, off, vs, m, f1, f2, f3, f4, f5, f6⟩
        · exact .inl s
        · exact .inr ⟨bi, off, vs, m, f1, f2, by omega, by rw [fr _ (g ol bi off f1), f4], f5, f6⟩
    have sF1 := up a2 e2 sBE geB
    have sF2 := up a3 e3 sDE (fun hne q z eq => by have := geD hne q z eq; omega)
    have gF0 : hF.get hB.next = some (.cells [.int .u8 (o.code : Int), .slice a2 o.l.length c2 e2] .rw) := by rw [fr _ (by omega), gE0]
    have gF1 : hF.get hD.next = some (.cells [.int .u8 (o.code : Int), .slice a3 o.l.length c3 e3] .rw) := by rw [fr _ (by omega), gE1]
    obtain ⟨hG, eG⟩ : ∃ hG, hF.new (.cells [.int .u8 (o.code : Int), .slice a2 o.l.length c2 e2] .rw) = hG := ⟨_, rfl⟩
    have kG : Kp hF hG := by rw [← eG]; exact Kp.new _ _
    have nG : hG.next = hF.next + 1 := by rw [← eG]; rfl
    have gG : hG.get hF.next = some (.cells [.int .u8 (o.code : Int), .slice a2 o.l.length c2 e2] .rw) := by rw [← eG]; exact h_new_same _ _
    have gG1 : hG.get hD.next = some (.cells [.int .u8 (o.code : Int), .slice a3 o.l.length c3 e3] .rw) := by rw [kG.2 _ (by omega), gF1]
    obtain ⟨hH, eH⟩ : ∃ hH, hG.new (.cells [.int .u8 (o.code : Int), .slice a3 o.l.length c3 e3] .rw) = hH := ⟨_, rfl⟩
    have kH : Kp hG hH := by rw [← eH]; exact Kp.new _ _
    have nH : hH.next = hG.next + 1 := by rw [← eH]; rfl
    have gH0 : hH.get hF.next = some (.cells [.int .u8 (o.code : Int), .slice a2 o.l.length c2 e2] .rw) := by rw [kH.2 _ (by omega), gG]
    have gH1 : hH.get hG.next = some (.cells [.int .u8 (o.code : Int), .slice a3 o.l.length c3 e3] .rw) := by rw [← eH]; exact h_new_same _ _
    have rs := rsame_go e.ro x.ro (M + 1) [o] [o] (by simp) (by simp; omega) (by simp) (fun y hy => by rcases List.mem_singleton.1 hy with rfl; exact oko) (fun y hy => by rcases List.mem_singleton.1 hy with rfl; exact oko) (some (hF.next, 0)) (some (hG.next, 0)) (some 1) (some 1) 2 2 hH (rowOne hH hF.next .rw o a2 c2 e2 (by omega) gH0 ((sF1.mono kG).mono kH)) (rowOne hH hG.next .rw o a3 c3 e3 (by omega) gH1 ((sF2.mono kG).mono kH))
    rw [decide_eq_true rfl] at rs
    replace rs : callX E X (M + 2) (.fn k_purserref10_Same) [.slice (some (hF.next, 0)) 1 (some 1) 2, .slice (some (hG.next, 0)) 1 (some 1) 2] hH = some (.bool true, hH) := rs
    have ei : decide ((en : Int) = (en : Int)) = true := decide_eq_true rfl
    obtain ⟨ol, eol⟩ : ∃ n, o.l.length = n := ⟨_, rfl⟩
    rw [eol] at gF0 gG1 eG eH
    simp (config := {maxSteps := 2000000}) (disch := first | omega | rfl | (simp only [ofI_len, List.length_append, List.length_take, List.length_drop, List.length_cons, List.length_nil, List.length_replicate, List.length_set]; done) | (simp only [ofI_len, List.length_append, List.length_take, List.length_drop, List.length_cons, List.length_nil, List.length_replicate, List.length_set]; omega)) only [R_purserlaw10_OpsJoin_2, w19, w20, w21, w22, gF0, eG, gG1, eH, rs, ei, ld2, fl2, ↓s_len, x_lenS, ↓b_xor32, ↓b_and32, ↓b_or32, ↓u_not32, b_xor32, b_and32, b_or32, u_not32, w32ad, ↓x_conv, x_convV, ↓x_fieldAddr, x_fieldV, ↓s_nilchk, x_nilchk, Nat.zero_add, Nat.add_zero, Nat.mul_one, ↓s_evD, ↓s_dnil, ↓s_dL, ↓s_dLg, ↓s_dR, ↓s_dRg, ↓s_dRj, ↓s_dRjg, ↓s_dB, ↓s_dBg, ↓s_dAlloc, ↓s_bindD, s_bindD, s_finD, s_finDx, s_addP0, s_addP1, s_addB, s_lookP, ↓s_bump0, ↓s_bump_get, s_bump_next, s_ok0, ↓s_ok1, s_okR0, ↓s_okR1, ↓s_okE, s_okE, s_okE1, s_nth0, s_nthS, Nat.add_zero, Bool.and_self, Bool.and_true, Bool.true_and, ↓l_loop, ↓l_succ, ↓l_normal, l_normal, l_exit, l_ret, l_iteN, ↓h_put_get, ↓h_new_get, ↓h_del_get, h_next_put, h_next_new, h_next_del, Nat.add_assoc, Nat.add_eq_left, Nat.left_eq_add, Nat.add_left_cancel_iff, ↓s_load, m_load, ↓m_load1, m_load1, ↓m_st, m_stE, m_storeI, m_storeE, w_zero, w_succ, ↓s_alloc, ↓x_idxA, ↓x_idxS, x_idxAE, x_idxSE, x_addrE, x_idx, x_lenS, ↓s_len, ↓x_buildS, x_buildE, ↓x_P0, ↓x_P1, x_fill0, x_filli, x_fills, x_fillb, c_int, List.length_cons, List.length_nil, List.cons_append, List.drop_succ_cons, List.drop_zero, List.drop_nil, List.nil_append, Int.reduceAdd, Int.reduceToNat, Int.reduceLT, Int.reduceLE, Nat.reduceAdd, Nat.reduceMul, Nat.reduceLeDiff, Int.reduceEq, Int.reduceSub, Int.cast_ofNat_Int, s_resc, s_consR, m_load4, m_store4, s_res0, ↓s_skip, ↓s_ops, ↓s_dops, ↓s_seq, ↓s_cond, ↓s_block, ↓s_exit, ↓s_ret, ↓s_scope, ↓s_nil, ↓s_op, ↓s_opg, ↓s_wanted', ↓s_wantV, s_wantV, s_wantV0, beq_true, beq_false, ↓s_bindS, s_bindS, ↓s_bindE, s_bindE, s_bindE_ret, s_bindE_exit, s_bindE_iteN, s_norm, ↓s_condV, s_condV, s_block_ret, s_block_normal, s_block_exit, s_block_iteN, ↓s_getp, ↓s_getp0, ↓s_get, s_get0, ↓s_con, ↓s_fn, ↓s_os0, ↓s_os1, ↓s_list0, ↓s_list1, ↓s_mov, ↓s_pick, ↓s_pickE, s_pickE, ↓s_bin, ↓s_un, ↓s_minmax, ↓s_call, ↓s_callv, ↓s_callV, ↓s_ext, s_same, b_eql, b_neq, b_lss, b_leq, b_gtr, b_geq, b_add, b_sub, b_mul, b_eqlb, b_neqb, b_fnil, b_fnil', b_fnil2, b_fnil2', u_neg, u_not, m_two, s_end, s_end', s_end_iteN, s_res0, s_res1, s_tup1, s_tup2, ↓iteN_true, ↓iteN_false, iteN_true, iteN_false, Nat.zero_add, List.nil_append, List.append_nil, Nat.reduceEqDiff, reduceIte, decide_true, decide_false, Bool.not_true, Bool.not_false, List.getElem?_cons_zero, List.getElem?_cons_succ, Bool.false_eq_true, if_true, if_false, beq_self_eq_true]
    exact ⟨_, rfl⟩
  obtain ⟨R2, eR2⟩ : ∃ R, R_purserlaw10_OpsJoin_2 = R := ⟨_, rfl⟩
  obtain ⟨Lo, eL⟩ : ∃ R, L_purserlaw10_OpsJoin_2 = R := ⟨_, rfl⟩
  rw [eR2, eL] at fin
  obtain ⟨T', u18, u142, u143, u19, u20, u21, u22, ec⟩ : ∃ T', evO T' (.t 18) = .slice a1 p.length c1 e1 ∧ evO T' (.t 142) = .int .i64 (p.length : Int) ∧ evO T' (.t 143) = .int .i64 0 ∧ evO T' (.t 19) = .ptr (some (hB.next, 0)) ∧ evO T' (.t 20) = .int .i64 (en : Int) ∧ evO T' (.t 21) = .ptr (some (hD.next, 0)) ∧ evO T' (.t 22) = .int .i64 (en : Int) ∧ evC (callX E X (M + 2)) 163 m none R_purserlaw10_OpsJoin_3 ⟨T, [], h⟩ = bindE (blockE 4 (loopN (evC (callX E X (M + 2)) 163 m none Lo) m ⟨T', [], hE⟩)) (evC (callX E X (M + 2)) 163 m none R2) := by
    obtain ⟨ol, eol⟩ : ∃ n, o.l.length = n := ⟨_, rfl⟩
    obtain ⟨pn, epn⟩ : ∃ n, p.length = n := ⟨_, rfl⟩
    rw [eol] at rB rD eC eE
    rw [epn] at t2 sp ap rB rD ⊢
    refine ⟨_, ?_, ?_, ?_, ?_, ?_, ?_, ?_, by
      unfold R_purserlaw10_OpsJoin_3
      rw [eR2, eL]
      simp (config := {maxSteps := 2000000}) (disch := first | omega | (simp only [List.length_cons, List.length_nil, List.length_append, List.length_drop]; omega)) only [t2, sp, ap, rB, eC, rD, eE, st2, st2r, ↓s_append, ↓s_len, x_lenS, ↓b_xor32, ↓b_and32, ↓b_or32, ↓u_not32, b_xor32, b_and32, b_or32, u_not32, w32ad, ↓x_conv, x_convV, ↓x_fieldAddr, x_fieldV, ↓s_nilchk, x_nilchk, Nat.zero_add, Nat.add_zero, Nat.mul_one, ↓s_evD, ↓s_dnil, ↓s_dL, ↓s_dLg, ↓s_dR, ↓s_dRg, ↓s_dRj, ↓s_dRjg, ↓s_dB, ↓s_dBg, ↓s_dAlloc, ↓s_bindD, s_bindD, s_finD, s_finDx, s_addP0, s_addP1, s_addB, s_lookP, ↓s_bump0, ↓s_bump_get, s_bump_next, s_ok0, ↓s_ok1, s_okR0, ↓s_okR1, ↓s_okE, s_okE, s_okE1, s_nth0, s_nthS, Nat.add_zero, Bool.and_self, Bool.and_true, Bool.true_and, ↓l_loop, ↓l_succ, ↓l_normal, l_normal, l_exit, l_ret, l_iteN, ↓h_put_get, ↓h_new_get, ↓h_del_get, h_next_put, h_next_new, h_next_del, Nat.add_assoc, Nat.add_eq_left, Nat.left_eq_add, Nat.add_left_cancel_iff, ↓s_load, m_load, ↓m_load1, m_load1, ↓m_st, m_stE, m_storeI, m_storeE, w_zero, w_succ, ↓s_alloc, ↓x_idxA, ↓x_idxS, x_idxAE, x_idxSE, x_addrE, x_idx, x_lenS, ↓s_len, ↓x_buildS, x_buildE, ↓x_P0, ↓x_P1, x_fill0, x_filli, x_fills, x_fillb, c_int, List.length_cons, List.length_nil, List.cons_append, List.drop_succ_cons, List.drop_zero, List.drop_nil, List.nil_append, Int.reduceAdd, Int.reduceToNat, Int.reduceLT, Int.reduceLE, Nat.reduceAdd, Nat.reduceMul, Nat.reduceLeDiff, Int.reduceEq, Int.reduceSub, Int.cast_ofNat_Int, s_resc, s_consR, m_load4, m_store4, s_res0, ↓s_skip, ↓s_ops, ↓s_dops, ↓s_seq, ↓s_cond, ↓s_block, ↓s_exit, ↓s_ret, ↓s_scope, ↓s_nil, ↓s_op, ↓s_opg, ↓s_wanted', ↓s_wantV, s_wantV, s_wantV0, beq_true, beq_false, ↓s_bindS, s_bindS, ↓s_bindE, s_bindE, s_bindE_ret, s_bindE_exit, s_bindE_iteN, s_norm, ↓s_condV, s_condV, s_block_ret, s_block_normal, s_block_exit, s_block_iteN, ↓s_getp, ↓s_getp0, ↓s_get, s_get0, ↓s_con, ↓s_fn, ↓s_os0, ↓s_os1, ↓s_list0, ↓s_list1, ↓s_mov, ↓s_pick, ↓s_pickE, s_pickE, ↓s_bin, ↓s_un, ↓s_minmax, ↓s_call, ↓s_callv, ↓s_callV, ↓s_ext, s_same, b_eql, b_neq, b_lss, b_leq, b_gtr, b_geq, b_add, b_sub, b_mul, b_eqlb, b_neqb, b_fnil, b_fnil', b_fnil2, b_fnil2', u_neg, u_not, m_two, s_end, s_end', s_end_iteN, s_res0, s_res1, s_tup1, s_tup2, ↓iteN_true, ↓iteN_false, iteN_true, iteN_false, Nat.zero_add, List.nil_append, List.append_nil, Nat.reduceEqDiff, reduceIte, decide_true, decide_false, Bool.not_true, Bool.not_false, List.getElem?_cons_zero, List.getElem?_cons_succ, Bool.false_eq_true, if_true, if_false, beq_self_eq_true]
      exact rfl⟩
    all_goals (simp only [s_getp, s_getp0, Nat.reduceEqDiff, decide_false, decide_true, iteN_false, iteN_true, t2]; try rfl)
  rw [ec]
  exact fin T' u18 u142 u143 u19 u20 u21 u22
set_option maxRecDepth 100000 in
set_option maxHeartbeats 4000000 in
theorem law_OpsJoin (e : EnOj E) (x : NoOj X) (el : E k_purserlaw10_OpsJoin = some f_purserlaw10_OpsJoin) (xl : ∀ a h, X (.fn k_purserlaw10_OpsJoin) a h = none) (N : Nat) (hN : 110000 ≤ N) (ops ms : List Oq) (ok : ∀ o ∈ ops, o.ok) (okm : ∀ o ∈ ms, o.ok) (B : Nat) (hB : B ≤ 140737488351232) (hlB : ops.length ≤ B) (hsB : ∀ o ∈ ops, o.l.length ≤ B) (hlm : ms.length ≤ B) (hsm : ∀ o ∈ ms, o.l.length ≤ B) (p : List Nat) (bp : byt p = true) (a0 a1 a2 : Option (Nat × Nat)) (h : H) (oh : OqsH h a0 ops) (mh : OqsH h a1 ms) (ps : SrcH h a2 1 p) :
    ∃ h2, callX E X (N + ops.length + ms.length + 201) (.fn k_purserlaw10_OpsJoin) [.slice a0 ops.length none 2, .slice a1 ms.length none 2, .slice a2 p.length none 1] h = some (.bool true, h2) := by
  rw [x_cfn el _ _ (Nat.le_of_ble_eq_true rfl) (xl _ _)]
  have row := oh.row
  have rom := mh.row
  have gr := greatq_go e.gr x.gr (N + ms.length + 174) a0 none 2 ops B hB hlB hsB h row
  rw [show N + ms.length + 174 + ops.length + 26 = N + ops.length + ms.length + 200 by omega] at gr
  have gm := greatq_go e.gr x.gr (N + ops.length + 174) a1 none 2 ms B hB hlm hsm h rom
  rw [show N + ops.length + 174 + ms.length + 26 = N + ops.length + ms.length + 200 by omega] at gm
  have hF0 : ops.length + ms.length + 110000 ≤ N + ops.length + ms.length := by omega
  generalize hF : N + ops.length + ms.length = F at *
  cases hgr : greatQ ops with
  | true =>
    rw [hgr] at gr
    generalize ops.length = L at *
    generalize ms.length = Lm at *
    generalize p.length = pl at *
    simp (config := {maxSteps := 2000000}) (disch := first | omega | rfl | (simp only [ofI_len, List.length_append, List.length_take, List.length_drop, List.length_cons, List.length_nil, List.length_replicate, List.length_set]; done) | (simp only [ofI_len, List.length_append, List.length_take, List.length_drop, List.length_cons, List.length_nil, List.length_replicate, List.length_set]; omega)) only [gr, ↓s_len, x_lenS, ↓b_xor32, ↓b_and32, ↓b_or32, ↓u_not32, b_xor32, b_and32, b_or32, u_not32, w32ad, ↓x_conv, x_convV, ↓x_fieldAddr, x_fieldV, ↓s_nilchk, x_nilchk, Nat.zero_add, Nat.add_zero, Nat.mul_one, ↓s_evD, ↓s_dnil, ↓s_dL, ↓s_dLg, ↓s_dR, ↓s_dRg, ↓s_dRj, ↓s_dRjg, ↓s_dB, ↓s_dBg, ↓s_dAlloc, ↓s_bindD, s_bindD, s_finD, s_finDx, s_addP0, s_addP1, s_addB, s_lookP, ↓s_bump0, ↓s_bump_get, s_bump_next, s_ok0, ↓s_ok1, s_okR0, ↓s_okR1, ↓s_okE, s_okE, s_okE1, s_nth0, s_nthS, Nat.add_zero, Bool.and_self, Bool.and_true, Bool.true_and, ↓l_loop, ↓l_succ, ↓l_normal, l_normal, l_exit, l_ret, l_iteN, ↓h_put_get, ↓h_new_get, ↓h_del_get, h_next_put, h_next_new, h_next_del, Nat.add_assoc, Nat.add_eq_left, Nat.left_eq_add, Nat.add_left_cancel_iff, ↓s_load, m_load, ↓m_load1, m_load1, ↓m_st, m_stE, m_storeI, m_storeE, ↓s_alloc, ↓x_idxA, ↓x_idxS, x_idxAE, x_idxSE, x_addrE, x_idx, x_lenS, ↓s_len, ↓x_buildS, x_buildE, ↓x_P0, ↓x_P1, x_fill0, x_filli, x_fills, x_fillb, c_int, List.length_cons, List.length_nil, List.cons_append, List.drop_succ_cons, List.drop_zero, List.drop_nil, List.nil_append, Int.reduceAdd, Int.reduceToNat, Int.reduceLT, Int.reduceLE, Nat.reduceAdd, Nat.reduceMul, Nat.reduceLeDiff, Int.reduceEq, Int.reduceSub, Int.cast_ofNat_Int, s_resc, s_consR, m_load4, m_store4, s_res0, ↓s_skip, ↓s_ops, ↓s_dops, ↓s_seq, ↓s_cond, ↓s_block, ↓s_exit, ↓s_ret, ↓s_scope, ↓s_nil, ↓s_op, ↓s_opg, ↓s_wanted', ↓s_wantV, s_wantV, s_wantV0, beq_true, beq_false, ↓s_bindS, s_bindS, ↓s_bindE, s_bindE, s_bindE_ret, s_bindE_exit, s_bindE_iteN, s_norm, ↓s_condV, s_condV, s_block_ret, s_block_normal, s_block_exit, s_block_iteN, ↓s_getp, ↓s_getp0, ↓s_get, s_get0, ↓s_con, ↓s_fn, ↓s_os0, ↓s_os1, ↓s_list0, ↓s_list1, ↓s_mov, ↓s_pick, ↓s_pickE, s_pickE, ↓s_bin, ↓s_un, ↓s_minmax, ↓s_call, ↓s_callv, ↓s_callV, ↓s_ext, s_same, b_eql, b_neq, b_lss, b_leq, b_gtr, b_geq, b_add, b_sub, b_mul, b_eqlb, b_neqb, b_fnil, b_fnil', b_fnil2, b_fnil2', u_neg, u_not, m_two, s_end, s_end', s_end_iteN, s_res0, s_res1, s_tup1, s_tup2, ↓iteN_true, ↓iteN_false, iteN_true, iteN_false, Nat.zero_add, List.nil_append, List.append_nil, Nat.reduceEqDiff, reduceIte, decide_true, decide_false, Bool.not_true, Bool.not_false, List.getElem?_cons_zero, List.getElem?_cons_succ, Bool.false_eq_true, if_true, if_false, beq_self_eq_true]
    exact ⟨_, rfl⟩
  | false =>
  rw [hgr] at gr
  cases hgm : greatQ ms with
  | true =>
    rw [hgm] at gm
    generalize ops.length = L at *
    generalize ms.length = Lm at *
    generalize p.length = pl at *
    simp (config := {maxSteps := 2000000}) (disch := first | omega | rfl | (simp only [ofI_len, List.length_append, List.length_take, List.length_drop, List.length_cons, List.length_nil, List.length_replicate, List.length_set]; done) | (simp only [ofI_len, List.length_append, List.length_take, List.length_drop, List.length_cons, List.length_nil, List.length_replicate, List.length_set]; omega)) only [gr, gm, ↓s_len, x_lenS, ↓b_xor32, ↓b_and32, ↓b_or32, ↓u_not32, b_xor32, b_and32, b_or32, u_not32, w32ad, ↓x_conv, x_convV, ↓x_fieldAddr, x_fieldV, ↓s_nilchk, x_nilchk, Nat.zero_add, Nat.add_zero, Nat.mul_one, ↓s_evD, ↓s_dnil, ↓s_dL, ↓s_dLg, ↓s_dR, ↓s_dRg, ↓s_dRj, ↓s_dRjg, ↓s_dB, ↓s_dBg, ↓s_dAlloc, ↓s_bindD, s_bindD, s_finD, s_finDx, s_addP0, s_addP1, s_addB, s_lookP, ↓s_bump0, ↓s_bump_get, s_bump_next, s_ok0, ↓s_ok1, s_okR0, ↓s_okR1, ↓s_okE, s_okE, s_okE1, s_nth0, s_nthS, Nat.add_zero, Bool.and_self, Bool.and_true, Bool.true_and, ↓l_loop, ↓l_succ, ↓l_normal, l_normal, l_exit, l_ret, l_iteN, ↓h_put_get, ↓h_new_get, ↓h_del_get, h_next_put, h_next_new, h_next_del, Nat.add_assoc, Nat.add_eq_left, Nat.left_eq_add, Nat.add_left_cancel_iff, ↓s_load, m_load, ↓m_load1, m_load1, ↓m_st, m_stE, m_storeI, m_storeE, ↓s_alloc, ↓x_idxA, ↓x_idxS, x_idxAE, x_idxSE, x_addrE, x_idx, x_lenS, ↓s_len, ↓x_buildS, x_buildE, ↓x_P0, ↓x_P1, x_fill0, x_filli, x_fills, x_fillb, c_int, List.length_cons, List.length_nil, List.cons_append, List.drop_succ_cons, List.drop_zero, List.drop_nil, List.nil_append, Int.reduceAdd, Int.reduceToNat, Int.reduceLT, Int.reduceLE, Nat.reduceAdd, Nat.reduceMul, Nat.reduceLeDiff, Int.reduceEq, Int.reduceSub, Int.cast_ofNat_Int, s_resc, s_consR, m_load4, m_store4, s_res0, ↓s_skip, ↓s_ops, ↓s_dops, ↓s_seq, ↓s_cond, ↓s_block, ↓s_exit, ↓s_ret, ↓s_scope, ↓s_nil, ↓s_op, ↓s_opg, ↓s_wanted', ↓s_wantV, s_wantV, s_wantV0, beq_true, beq_false, ↓s_bindS, s_bindS, ↓s_bindE, s_bindE, s_bindE_ret, s_bindE_exit, s_bindE_iteN, s_norm, ↓s_condV, s_condV, s_block_ret, s_block_normal, s_block_exit, s_block_iteN, ↓s_getp, ↓s_getp0, ↓s_get, s_get0, ↓s_con, ↓s_fn, ↓s_os0, ↓s_os1, ↓s_list0, ↓s_list1, ↓s_mov, ↓s_pick, ↓s_pickE, s_pickE, ↓s_bin, ↓s_un, ↓s_minmax, ↓s_call, ↓s_callv, ↓s_callV, ↓s_ext, s_same, b_eql, b_neq, b_lss, b_leq, b_gtr, b_geq, b_add, b_sub, b_mul, b_eqlb, b_neqb, b_fnil, b_fnil', b_fnil2, b_fnil2', u_neg, u_not, m_two, s_end, s_end', s_end_iteN, s_res0, s_res1, s_tup1, s_tup2, ↓iteN_true, ↓iteN_false, iteN_true, iteN_false, Nat.zero_add, List.nil_append, List.append_nil, Nat.reduceEqDiff, reduceIte, decide_true, decide_false, Bool.not_true, Bool.not_false, List.getElem?_cons_zero, List.getElem?_cons_succ, Bool.false_eq_true, if_true, if_false, beq_self_eq_true]
    exact ⟨_, rfl⟩
  | false =>
  rw [hgm] at gm
  by_cases hp : 70000 < p.length
  · have d0 : decide ((70000 : Int) < (p.length : Int)) = true := decide_eq_true (by omega)
    generalize ops.length = L at *
    generalize ms.length = Lm at *
    generalize p.length = pl at *
    simp (config := {maxSteps := 2000000}) (disch := first | omega | rfl | (simp only [ofI_len, List.length_append, List.length_take, List.length_drop, List.length_cons, List.length_nil, List.length_replicate, List.length_set]; done) | (simp only [ofI_len, List.length_append, List.length_take, List.length_drop, List.length_cons, List.length_nil, List.length_replicate, List.length_set]; omega)) only [gr, gm, d0, ↓s_len, x_lenS, ↓b_xor32, ↓b_and32, ↓b_or32, ↓u_not32, b_xor32, b_and32, b_or32, u_not32, w32ad, ↓x_conv, x_convV, ↓x_fieldAddr, x_fieldV, ↓s_nilchk, x_nilchk, Nat.zero_add, Nat.add_zero, Nat.mul_one, ↓s_evD, ↓s_dnil, ↓s_dL, ↓s_dLg, ↓s_dR, ↓s_dRg, ↓s_dRj, ↓s_dRjg, ↓s_dB, ↓s_dBg, ↓s_dAlloc, ↓s_bindD, s_bindD, s_finD, s_finDx, s_addP0, s_addP1, s_addB, s_lookP, ↓s_bump0, ↓s_bump_get, s_bump_next, s_ok0, ↓s_ok1, s_okR0, ↓s_okR1, ↓s_okE, s_okE, s_okE1, s_nth0, s_nthS, Nat.add_zero, Bool.and_self, Bool.and_true, Bool.true_and, ↓l_loop, ↓l_succ, ↓l_normal, l_normal, l_exit, l_ret, l_iteN, ↓h_put_get, ↓h_new_get, ↓h_del_get, h_next_put, h_next_new, h_next_del, Nat.add_assoc, Nat.add_eq_left, Nat.left_eq_add, Nat.add_left_cancel_iff, ↓s_load, m_load, ↓m_load1, m_load1, ↓m_st, m_stE, m_storeI, m_storeE, ↓s_alloc, ↓x_idxA, ↓x_idxS, x_idxAE, x_idxSE, x_addrE, x_idx, x_lenS, ↓s_len, ↓x_buildS, x_buildE, ↓x_P0, ↓x_P1, x_fill0, x_filli, x_fills, x_fillb, c_int, List.length_cons, List.length_nil, List.cons_append, List.drop_succ_cons, List.drop_zero, List.drop_nil, List.nil_append, Int.reduceAdd, Int.reduceToNat, Int.reduceLT, Int.reduceLE, Nat.reduceAdd, Nat.reduceMul, Nat.reduceLeDiff, Int.reduceEq, Int.reduceSub, Int.cast_ofNat_Int, s_resc, s_consR, m_load4, m_store4, s_res0, ↓s_skip, ↓s_ops, ↓s_dops, ↓s_seq, ↓s_cond, ↓s_block, ↓s_exit, ↓s_ret, ↓s_scope, ↓s_nil, ↓s_op, ↓s_opg, ↓s_wanted', ↓s_wantV, s_wantV, s_wantV0, beq_true, beq_false, ↓s_bindS, s_bindS, ↓s_bindE, s_bindE, s_bindE_ret, s_bindE_exit, s_bindE_iteN, s_norm, ↓s_condV, s_condV, s_block_ret, s_block_normal, s_block_exit, s_block_iteN, ↓s_getp, ↓s_getp0, ↓s_get, s_get0, ↓s_con, ↓s_fn, ↓s_os0, ↓s_os1, ↓s_list0, ↓s_list1, ↓s_mov, ↓s_pick, ↓s_pickE, s_pickE, ↓s_bin, ↓s_un, ↓s_minmax, ↓s_call, ↓s_callv, ↓s_callV, ↓s_ext, s_same, b_eql, b_neq, b_lss, b_leq, b_gtr, b_geq, b_add, b_sub, b_mul, b_eqlb, b_neqb, b_fnil, b_fnil', b_fnil2, b_fnil2', u_neg, u_not, m_two, s_end, s_end', s_end_iteN, s_res0, s_res1, s_tup1, s_tup2, ↓iteN_true, ↓iteN_false, iteN_true, iteN_false, Nat.zero_add, List.nil_append, List.append_nil, Nat.reduceEqDiff, reduceIte, decide_true, decide_false, Bool.not_true, Bool.not_false, List.getElem?_cons_zero, List.getElem?_cons_succ, Bool.false_eq_true, if_true, if_false, beq_self_eq_true]
    exact ⟨_, rfl⟩
  have d0 : decide ((70000 : Int) < (p.length : Int)) = false := decide_eq_false (by omega)
  unfold greatQ at hgr hgm
  rw [Bool.or_eq_false_iff] at hgr hgm
  have hl : ops.length ≤ 100 := by have := of_decide_eq_false hgr.1; omega
  have hg : gq ops ≤ 70000 := by have := of_decide_eq_false hgr.2; omega
  have hlm' : ms.length ≤ 100 := by have := of_decide_eq_false hgm.1; omega
  clear hgr hgm
  have wl := wB_le ops
  have hc : ∀ o ∈ ops, o.code < 256 := fun o ho => (ok o ho).cl
  have hol : ∀ o ∈ ops, o.l.length ≤ 100000 := fun o ho => by have := gq_mem ops o ho; omega
  obtain ⟨h1, b1, c1, e1, r1, nw1⟩ := join_go e.op x.op (F + 198) ops (by omega) (by omega) (by omega) (by omega) hc a0 none 2 h row
  obtain ⟨h2, b2, c2, e2, r2, nw2⟩ := rjoin_go e.ro x.ro (F + 198) ops (by omega) (by omega) (by omega) hc a0 none 2 h1 (row.mono nw1.kp)
  have bw := joR_byt ops ok
  obtain ⟨w, ew⟩ : ∃ w, (joR ops).1 = w := ⟨_, rfl⟩
  obtain ⟨en, een⟩ : ∃ w, (joR ops).2 = w := ⟨_, rfl⟩
  rw [ew] at r1 r2 nw1 nw2 bw
  rw [een] at r1 r2
  have s1 := str_src (nw1.wb.src.mono nw2.kp) bw c1
  have s2 := str_src nw2.wb.src bw c2
  have k02 := nw1.kp.trans nw2.kp
  have sq : decide (w = w) = true := decide_eq_true rfl
  have eq1 : decide ((en : Int) = (en : Int)) = true := decide_eq_true rfl
  obtain ⟨h3, r3, k3⟩ := same_go e.op x.op (F + 195) ops ms (by omega) (by omega) (by omega) ok okm a0 a1 none none 2 2 h2 (row.mono k02) (rom.mono k02)
  have k03 := k02.trans k3
  have r4 := rsame_go e.ro x.ro (F + 199) ops ms (by omega) (by omega) (by omega) ok okm a0 a1 none none 2 2 h3 (row.mono k03) (rom.mono k03)
  obtain ⟨h5, r5, k5⟩ := same_go e.op x.op (F + 195) ops ops (by omega) (by omega) (by omega) ok ok a0 a0 none none 2 2 h3 (row.mono k03) (row.mono k03)
  rw [decide_eq_true rfl] at r5
  have k05 := k03.trans k5
  obtain ⟨sb, esb⟩ : ∃ b, decide (ops = ms) = b := ⟨_, rfl⟩
  rw [esb] at r3 r4
  have bq : (sb == sb) = true := by cases sb <;> rfl
  replace r1 : callX E X (F + 200) (.fn k_ops_Join) [.slice a0 ops.length none 2] h = _ := r1
  replace r2 : callX E X (F + 200) (.fn k_purserref10_Join) [.slice a0 ops.length none 2] h1 = _ := r2
  replace r3 : callX E X (F + 200) (.fn k_ops_Same) [.slice a0 ops.length none 2, .slice a1 ms.length none 2] h2 = _ := r3
  replace r4 : callX E X (F + 200) (.fn k_purserref10_Same) [.slice a0 ops.length none 2, .slice a1 ms.length none 2] h3 = _ := r4
  replace r5 : callX E X (F + 200) (.fn k_ops_Same) [.slice a0 ops.length none 2, .slice a0 ops.length none 2] h3 = _ := r5
  have fin : ∀ T, OjI (.slice a0 ops.length none 2) (.slice a2 p.length none 1) ops.length h5 0 T h5 → ∃ h2, fnEnd [.tmp 6] (bindE (blockE 0 (loopN (evC (callX E X (F + 200)) 163 (F + 200) none L_purserlaw10_OpsJoin_1) (F + 200) ⟨T, [], h5⟩)) (evC (callX E X (F + 200)) 163 (F + 200) none R_purserlaw10_OpsJoin_3)) = some (.bool true, h2) := by
    intro T I
    obtain ⟨T', h', rr, J⟩ := loop_go (f := evC (callX E X (F + 200)) 163 (F + 200) none L_purserlaw10_OpsJoin_1) (OjI (.slice a0 ops.length none 2) (.slice a2 p.length none 1) ops.length h5) ops.length (.exit 0) (by intro h; cases h) (OjI (.slice a0 ops.length none 2) (.slice a2 p.length none 1) ops.length h5 ops.length) (fun i T h' hi I => oj_step e x (F + 198) (F + 200) ops (by omega) ok hol (by omega) a0 none 2 (.slice a2 p.length none 1) h5 (row.mono k05) i T h' hi I) (fun T h' I => by
      obtain ⟨il, t0, t2, t71, t72, kp⟩ := I
      have c0 : decide ((ops.length : Int) < (ops.length : Int)) = false := decide_eq_false (by omega)
      obtain ⟨n, en'⟩ : ∃ n, ops.length = n := ⟨_, rfl⟩
      obtain ⟨pl, epl⟩ : ∃ n, p.length = n := ⟨_, rfl⟩
      rw [en'] at t0 t71 t72 c0
      rw [epl] at t2
      exact ⟨_, _, by
        simp (config := {maxSteps := 2000000}) (disch := first | omega | (simp only [List.length_cons, List.length_nil, List.length_append, List.length_drop]; omega)) only [L_purserlaw10_OpsJoin_1, t71, t72, c0, ↓b_xor32, ↓b_and32, ↓b_or32, ↓u_not32, b_xor32, b_and32, b_or32, u_not32, w32ad, ↓x_conv, x_convV, ↓x_fieldAddr, x_fieldV, ↓s_nilchk, x_nilchk, Nat.zero_add, Nat.add_zero, Nat.mul_one, ↓l_loop, ↓l_succ, ↓l_normal, l_normal, l_exit, l_ret, l_iteN, ↓h_put_get, ↓h_new_get, ↓h_del_get, h_next_put, h_next_new, h_next_del, Nat.add_assoc, Nat.add_eq_left, Nat.left_eq_add, Nat.add_left_cancel_iff, ↓s_load, m_load, ↓m_load1, m_load1, ↓m_st, m_stE, m_storeI, m_storeE, w_zero, w_succ, ↓s_alloc, ↓x_idxA, ↓x_idxS, x_idxAE, x_idxSE, x_addrE, x_idx, x_lenS, ↓s_len, ↓x_buildS, x_buildE, ↓x_P0, ↓x_P1, x_fill0, x_filli, x_fills, x_fillb, c_int, List.length_cons, List.length_nil, List.cons_append, List.drop_succ_cons, List.drop_zero, List.drop_nil, List.nil_append, Int.reduceAdd, Int.reduceToNat, Int.reduceLT, Int.reduceLE, Nat.reduceAdd, Nat.reduceMul, Nat.reduceLeDiff, Int.reduceEq, Int.reduceSub, Int.cast_ofNat_Int, s_resc, s_consR, m_load4, m_store4, s_res0, ↓s_skip, ↓s_ops, ↓s_dops, ↓s_seq, ↓s_cond, ↓s_block, ↓s_exit, ↓s_ret, ↓s_scope, ↓s_nil, ↓s_op, ↓s_opg, ↓s_wanted', ↓s_wantV, s_wantV, s_wantV0, beq_true, beq_false, ↓s_bindS, s_bindS, ↓s_bindE, s_bindE, s_bindE_ret, s_bindE_exit, s_bindE_iteN, s_norm, ↓s_condV, s_condV, s_block_ret, s_block_normal, s_block_exit, s_block_iteN, ↓s_getp, ↓s_getp0, ↓s_get, s_get0, ↓s_con, ↓s_fn, ↓s_os0, ↓s_os1, ↓s_list0, ↓s_list1, ↓s_mov, ↓s_pick, ↓s_pickE, s_pickE, ↓s_bin, ↓s_un, ↓s_minmax, ↓s_call, ↓s_callv, ↓s_callV, ↓s_ext, s_same, b_eql, b_neq, b_lss, b_leq, b_gtr, b_geq, b_add, b_sub, b_mul, b_eqlb, b_neqb, b_fnil, b_fnil', b_fnil2, b_fnil2', u_neg, u_not, m_two, s_end, s_end', s_end_iteN, s_res0, s_res1, s_tup1, s_tup2, ↓iteN_true, ↓iteN_false, iteN_true, iteN_false, Nat.zero_add, List.nil_append, List.append_nil, Nat.reduceEqDiff, reduceIte, decide_true, decide_false, Bool.not_true, Bool.not_false, List.getElem?_cons_zero, List.getElem?_cons_succ, Bool.false_eq_true, if_true, if_false, beq_self_eq_true]
        exact rfl, ⟨il, by rw [en']; exact (by (simp only [s_getp, s_getp0, Nat.reduceEqDiff, decide_false, decide_true, iteN_false, iteN_true, t0]; try rfl)), by rw [epl]; exact (by (simp only [s_getp, s_getp0, Nat.reduceEqDiff, decide_false, decide_true, iteN_false, iteN_true, t2]; try rfl)), by rw [en']; exact (by (simp only [s_getp, s_getp0, Nat.reduceEqDiff, decide_false, decide_true, iteN_false, iteN_true, t71]; try rfl)), by rw [en']; exact (by (simp only [s_getp, s_getp0, Nat.reduceEqDiff, decide_false, decide_true, iteN_false, iteN_true, t72]; try rfl)), kp⟩⟩) ops.length 0 (by omega) (F + 200) (by omega) T h5 I
    rw [rr]
    obtain ⟨h6, r6⟩ := oj_tail e x (F + 198) (F + 200) (by omega) (by omega) p bp (by omega) a2 none 1 T' h' (ps.mono (k05.trans J.kp)) J.t2
    exact ⟨h6, r6⟩
  obtain ⟨R, eR⟩ : ∃ R, R_purserlaw10_OpsJoin_3 = R := ⟨_, rfl⟩
  obtain ⟨Lo, eL⟩ : ∃ R, L_purserlaw10_OpsJoin_1 = R := ⟨_, rfl⟩
  rw [eR, eL] at fin ⊢
  obtain ⟨n, eon⟩ : ∃ n, ops.length = n := ⟨_, rfl⟩
  obtain ⟨mn, emn⟩ : ∃ n, ms.length = n := ⟨_, rfl⟩
  obtain ⟨pl, epl⟩ : ∃ n, p.length = n := ⟨_, rfl⟩
  obtain ⟨wn, ewn⟩ : ∃ n, w.length = n := ⟨_, rfl⟩
  rw [eon] at gr r1 r2 r3 r4 r5 fin ⊢
  rw [emn] at gm r3 r4 ⊢
  rw [epl] at d0 fin ⊢
  rw [ewn] at r1 r2 s1 s2
  simp (config := {maxSteps := 2000000}) (disch := first | omega | rfl | (simp only [ofI_len, List.length_append, List.length_take, List.length_drop, List.length_cons, List.length_nil, List.length_replicate, List.length_set]; done) | (simp only [ofI_len, List.length_append, List.length_take, List.length_drop, List.length_cons, List.length_nil, List.length_replicate, List.length_set]; omega)) only [gr, gm, d0, r1, r2, s1, s2, sq, eq1, r3, r4, r5, bq, b_sneq, b_neqb, Bool.not_true, ↓ns_b2s, ↓s_len, x_lenS, ↓b_xor32, ↓b_and32, ↓b_or32, ↓u_not32, b_xor32, b_and32, b_or32, u_not32, w32ad, ↓x_conv, x_convV, ↓x_fieldAddr, x_fieldV, ↓s_nilchk, x_nilchk, Nat.zero_add, Nat.add_zero, Nat.mul_one, ↓s_evD, ↓s_dnil, ↓s_dL, ↓s_dLg, ↓s_dR, ↓s_dRg, ↓s_dRj, ↓s_dRjg, ↓s_dB, ↓s_dBg, ↓s_dAlloc, ↓s_bindD, s_bindD, s_finD, s_finDx, s_addP0, s_addP1, s_addB, s_lookP, ↓s_bump0, ↓s_bump_get, s_bump_next, s_ok0, ↓s_ok1, s_okR0, ↓s_okR1, ↓s_okE, s_okE, s_okE1, s_nth0, s_nthS, Nat.add_zero, Bool.and_self, Bool.and_true, Bool.true_and, ↓l_loop, ↓l_succ, ↓l_normal, l_normal, l_exit, l_ret, l_iteN, ↓h_put_get, ↓h_new_get, ↓h_del_get, h_next_put, h_next_new, h_next_del, Nat.add_assoc, Nat.add_eq_left, Nat.left_eq_add, Nat.add_left_cancel_iff, ↓s_load, m_load, ↓m_load1, m_load1, ↓m_st, m_stE, m_storeI, m_storeE, ↓s_alloc, ↓x_idxA, ↓x_idxS, x_idxAE, x_idxSE, x_addrE, x_idx, x_lenS, ↓s_len, ↓x_buildS, x_buildE, ↓x_P0, ↓x_P1, x_fill0, x_filli, x_fills, x_fillb, c_int, List.length_cons, List.length_nil, List.cons_append, List.drop_succ_cons, List.drop_zero, List.drop_nil, List.nil_append, Int.reduceAdd, Int.reduceToNat, Int.reduceLT, Int.reduceLE, Nat.reduceAdd, Nat.reduceMul, Nat.reduceLeDiff, Int.reduceEq, Int.reduceSub, Int.cast_ofNat_Int, s_resc, s_consR, m_load4, m_store4, s_res0, ↓s_skip, ↓s_ops, ↓s_dops, ↓s_seq, ↓s_cond, ↓s_block, ↓s_exit, ↓s_ret, ↓s_scope, ↓s_nil, ↓s_op, ↓s_opg, ↓s_wanted', ↓s_wantV, s_wantV, s_wantV0, beq_true, beq_false, ↓s_bindS, s_bindS, ↓s_bindE, s_bindE, s_bindE_ret, s_bindE_exit, s_bindE_iteN, s_norm, ↓s_condV, s_condV, s_block_ret, s_block_normal, s_block_exit, s_block_iteN, ↓s_getp, ↓s_getp0, ↓s_get, s_get0, ↓s_con, ↓s_fn, ↓s_os0, ↓s_os1, ↓s_list0, ↓s_list1, ↓s_mov, ↓s_pick, ↓s_pickE, s_pickE, ↓s_bin, ↓s_un, ↓s_minmax, ↓s_call, ↓s_callv, ↓s_callV, ↓s_ext, s_same, b_eql, b_neq, b_lss, b_leq, b_gtr, b_geq, b_add, b_sub, b_mul, b_eqlb, b_neqb, b_fnil, b_fnil', b_fnil2, b_fnil2', u_neg, u_not, m_two, s_end, s_end', s_end_iteN, s_res0, s_res1, s_tup1, s_tup2, ↓iteN_true, ↓iteN_false, iteN_true, iteN_false, Nat.zero_add, List.nil_append, List.append_nil, Nat.reduceEqDiff, reduceIte, decide_true, decide_false, Bool.not_true, Bool.not_false, List.getElem?_cons_zero, List.getElem?_cons_succ, Bool.false_eq_true, if_true, if_false, beq_self_eq_true]
  exact fin _ ⟨Nat.zero_le _, (by (simp only [s_getp, s_getp0, Nat.reduceEqDiff, decide_false, decide_true, iteN_false, iteN_true, d0]; try rfl)), (by (simp only [s_getp, s_getp0, Nat.reduceEqDiff, decide_false, decide_true, iteN_false, iteN_true, d0]; try rfl)), (by (simp only [s_getp, s_getp0, Nat.reduceEqDiff, decide_false, decide_true, iteN_false, iteN_true, d0]; try rfl)), (by (simp only [s_getp, s_getp0, Nat.reduceEqDiff, decide_false, decide_true, iteN_false, iteN_true, d0]; try rfl)), Kp.refl _⟩
end Go.Eng
