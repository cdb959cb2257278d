/- What the law comes to: own work. -/
import Derived.Test.YtlmggfeapmhhmaaWdD
import Derived.Test.YtlmggfeapmhhmaaWdL
namespace Go.Eng
open Go
variable {E : Nat → Option Fn}
set_option linter.unusedSimpArgs false
set_option linter.unusedVariables false
set_option maxHeartbeats 8000000 in
set_option maxRecDepth 20000 in
theorem law_WideDivided (n : Nat) (e : E k_purserlaw03_WideDivided = some f_purserlaw03_WideDivided) (hk : offW k_purserlaw03_alive = false) (hx : ∀ args h, lawX k_purserlaw03_alive (.fn k_purserlaw03_WideDivided) args h = none) (a b c : Nat) (ha : a < M256) (hb : b < M256) (hc : c < M256) :
    ∃ h2, callX E (lawX k_purserlaw03_alive) (n + 2) (.fn k_purserlaw03_WideDivided) [Wd a, Wd b, Wd c] (mkH [] 0) = some (.bool true, h2) := by
  rw [x_cfn e _ _ (Nat.le_of_ble_eq_true rfl) (hx _ _)]
  have W := lawX_WQ (E := E) (n := n) hk
  have hal : ∀ h, callX E (lawX k_purserlaw03_alive) (n + 1) (.fn k_purserlaw03_alive) [] h = some (.bool true, h) := fun h => x_known (lawX_alive _ h)
  have n0 : (mkH [] 0).next = 0 := rfl
  have dz : ∀ h y, y < M256 → binV .eql (.flat [.i, .i, .i, .i]) h (Wd y) (Wd y) = some (.bool true) := fun h y hy => by rw [b_eqW h y y hy hy, decide_eq_true rfl]
  have mz : (0 : Nat) < M256 := by decide
  by_cases h0 : b = 0
  · subst h0
    have d1 := fun h => W.Div h a 0 ha mz
    simp only [if_true] at d1
    have z := fun h => dz h 0 mz
    have z0 := fun h => b_eqW0 h 0 mz
    rw [decide_eq_true rfl] at z0
    simp (config := {maxSteps := 1000000}) (disch := first | omega | (simp only [List.length_cons, List.length_nil, List.length_append, List.length_drop]; omega)) only [n0, hal, d1, z, z0, ↓s_box, ↓x_build, x_aggO, w_cells, w_load, w_store, w_st4, w_stW, w_write, w_write', ↓l_loop, ↓l_succ, ↓l_normal, l_normal, l_exit, l_ret, l_iteN, ↓h_put_get, ↓h_new_get, ↓h_del_get, h_next_put, h_next_new, h_next_del, Nat.add_assoc, Nat.add_eq_left, Nat.left_eq_add, Nat.add_left_cancel_iff, ↓s_load, m_load, ↓m_load1, m_load1, ↓m_st, m_stE, m_storeI, m_storeE, w_succ, ↓s_alloc, ↓x_idxA, ↓x_idxS, x_idxAE, x_idxSE, x_addrE, x_idx, x_lenS, ↓s_len, ↓x_buildS, x_buildE, ↓x_P0, ↓x_P1, x_fill0, x_filli, x_fills, x_fillb, c_int, List.length_cons, List.length_nil, List.cons_append, List.drop_succ_cons, List.drop_zero, List.drop_nil, List.nil_append, Int.reduceAdd, Int.reduceToNat, Int.reduceLT, Int.reduceLE, Nat.reduceAdd, Nat.reduceMul, Nat.reduceLeDiff, Int.reduceEq, Int.reduceSub, Int.cast_ofNat_Int, s_resc, s_consR, m_load4, m_store4, s_res0, ↓s_skip, ↓s_ops, ↓s_dops, ↓s_seq, ↓s_cond, ↓s_block, ↓s_exit, ↓s_ret, ↓s_scope, ↓s_nil, ↓s_op, ↓s_opg, ↓s_wanted', ↓s_wantV, s_wantV, s_wantV0, beq_true, beq_false, ↓s_bindS, s_bindS, ↓s_bindE, s_bindE, s_bindE_ret, s_bindE_exit, s_bindE_iteN, s_norm, ↓s_condV, s_condV, s_block_ret, s_block_normal, s_block_exit, s_block_iteN, ↓s_getp, ↓s_getp0, ↓s_get, s_get0, ↓s_con, ↓s_fn, ↓s_os0, ↓s_os1, ↓s_list0, ↓s_list1, ↓s_mov, ↓s_pick, ↓s_pickE, s_pickE, ↓s_bin, ↓s_un, ↓s_minmax, ↓s_call, ↓s_callv, ↓s_callV, ↓s_ext, s_same, b_eql, b_neq, b_lss, b_leq, b_gtr, b_geq, b_add, b_sub, b_mul, b_eqlb, b_neqb, b_fnil, b_fnil', b_fnil2, b_fnil2', u_neg, u_not, m_two, s_end, s_end', s_end_iteN, s_res0, s_res1, s_tup1, s_tup2, ↓iteN_true, ↓iteN_false, iteN_true, iteN_false, Nat.zero_add, List.nil_append, List.append_nil, Nat.reduceEqDiff, reduceIte, decide_true, decide_false, Bool.not_true, Bool.not_false, List.getElem?_cons_zero, List.getElem?_cons_succ, Bool.false_eq_true, if_true, if_false, beq_self_eq_true]
    exact ⟨_, rfl⟩
  · have b0 : 0 < b := by omega
    have d1 := fun h => W.Div h a b ha hb
    have d2 := fun h => W.Div h c b hc hb
    simp only [if_neg h0] at d1 d2
    have dm := Nat.div_add_mod a b
    have dl : a / b ≤ a := Nat.div_le_self _ _
    have cl : c / b ≤ c := Nat.div_le_self _ _
    have ml : a % b < b := Nat.mod_lt _ b0
    have cml : c % b < b := Nat.mod_lt _ b0
    have pl : a / b * b ≤ a := Nat.div_mul_le_self a b
    obtain ⟨q, eq⟩ : ∃ q, a / b = q := ⟨_, rfl⟩
    obtain ⟨r, er⟩ : ∃ r, a % b = r := ⟨_, rfl⟩
    obtain ⟨s, es⟩ : ∃ s, c % b = s := ⟨_, rfl⟩
    obtain ⟨t, et⟩ : ∃ t, c / b = t := ⟨_, rfl⟩
    rw [Nat.mul_comm] at dm
    rw [eq, er] at dm d1
    rw [eq] at dl pl
    rw [er] at ml
    rw [es] at cml
    rw [et] at cl
    rw [es, et] at d2
    have m1 := fun h => W.Mul h q b (by omega) hb
    rw [Nat.mod_eq_of_lt (show q * b < 115792089237316195423570985008687907853269984665640564039457584007913129639936 from Nat.lt_of_le_of_lt pl ha), Nat.div_eq_of_lt (show q * b < 115792089237316195423570985008687907853269984665640564039457584007913129639936 from Nat.lt_of_le_of_lt pl ha)] at m1
    have a1 := fun h => W.Add h (q * b) r (Nat.lt_of_le_of_lt pl ha) (by omega)
    rw [dm, decide_eq_false (by unfold M256 at ha; omega)] at a1
    have c1 := fun h => W.Cmp h r b (by omega) hb
    rw [w_cmp_lt ml] at c1
    have z0 := fun h => b_neW0 h 0 mz
    rw [decide_eq_true rfl] at z0
    have zb := fun h => b_eqW0 h b hb
    rw [decide_eq_false h0] at zb
    have za := fun h => b_neW h a a ha ha
    rw [decide_eq_true rfl] at za
    obtain ⟨u, eu⟩ : ∃ u, a * b % 115792089237316195423570985008687907853269984665640564039457584007913129639936 = u := ⟨_, rfl⟩
    obtain ⟨v, ev⟩ : ∃ v, a * b / 115792089237316195423570985008687907853269984665640564039457584007913129639936 = v := ⟨_, rfl⟩
    have ul : u < M256 := by rw [← eu]; exact Nat.mod_lt _ (by decide)
    have vl : v < M256 := by rw [← ev]; unfold M256 at *; exact Nat.div_lt_of_lt_mul (Nat.mul_lt_mul'' ha hb)
    have m2 := fun h => W.Mul h a b ha hb
    rw [eu, ev] at m2
    have a2 := fun h => W.Add h u s ul (by omega)
    by_cases hv : v = 0
    · subst hv
      have ab : a * b = u := by
        have := Nat.div_add_mod (a * b) 115792089237316195423570985008687907853269984665640564039457584007913129639936
        rw [ev, eu] at this; omega
      by_cases ho : 115792089237316195423570985008687907853269984665640564039457584007913129639936 ≤ u + s
      · rw [decide_eq_true ho] at a2
        simp (config := {maxSteps := 1000000}) (disch := first | omega | (simp only [List.length_cons, List.length_nil, List.length_append, List.length_drop]; omega)) only [n0, hal, d1, d2, m1, m2, a1, a2, c1, z0, zb, za, ↓s_box, ↓x_build, x_aggO, w_cells, w_load, w_store, w_st4, w_stW, w_write, w_write', ↓l_loop, ↓l_succ, ↓l_normal, l_normal, l_exit, l_ret, l_iteN, ↓h_put_get, ↓h_new_get, ↓h_del_get, h_next_put, h_next_new, h_next_del, Nat.add_assoc, Nat.add_eq_left, Nat.left_eq_add, Nat.add_left_cancel_iff, ↓s_load, m_load, ↓m_load1, m_load1, ↓m_st, m_stE, m_storeI, m_storeE, w_succ, ↓s_alloc, ↓x_idxA, ↓x_idxS, x_idxAE, x_idxSE, x_addrE, x_idx, x_lenS, ↓s_len, ↓x_buildS, x_buildE, ↓x_P0, ↓x_P1, x_fill0, x_filli, x_fills, x_fillb, c_int, List.length_cons, List.length_nil, List.cons_append, List.drop_succ_cons, List.drop_zero, List.drop_nil, List.nil_append, Int.reduceAdd, Int.reduceToNat, Int.reduceLT, Int.reduceLE, Nat.reduceAdd, Nat.reduceMul, Nat.reduceLeDiff, Int.reduceEq, Int.reduceSub, Int.cast_ofNat_Int, s_resc, s_consR, m_load4, m_store4, s_res0, ↓s_skip, ↓s_ops, ↓s_dops, ↓s_seq, ↓s_cond, ↓s_block, ↓s_exit, ↓s_ret, ↓s_scope, ↓s_nil, ↓s_op, ↓s_opg, ↓s_wanted', ↓s_wantV, s_wantV, s_wantV0, beq_true, beq_false, ↓s_bindS, s_bindS, ↓s_bindE, s_bindE, s_bindE_ret, s_bindE_exit, s_bindE_iteN, s_norm, ↓s_condV, s_condV, s_block_ret, s_block_normal, s_block_exit, s_block_iteN, ↓s_getp, ↓s_getp0, ↓s_get, s_get0, ↓s_con, ↓s_fn, ↓s_os0, ↓s_os1, ↓s_list0, ↓s_list1, ↓s_mov, ↓s_pick, ↓s_pickE, s_pickE, ↓s_bin, ↓s_un, ↓s_minmax, ↓s_call, ↓s_callv, ↓s_callV, ↓s_ext, s_same, b_eql, b_neq, b_lss, b_leq, b_gtr, b_geq, b_add, b_sub, b_mul, b_eqlb, b_neqb, b_fnil, b_fnil', b_fnil2, b_fnil2', u_neg, u_not, m_two, s_end, s_end', s_end_iteN, s_res0, s_res1, s_tup1, s_tup2, ↓iteN_true, ↓iteN_false, iteN_true, iteN_false, Nat.zero_add, List.nil_append, List.append_nil, Nat.reduceEqDiff, reduceIte, decide_true, decide_false, Bool.not_true, Bool.not_false, List.getElem?_cons_zero, List.getElem?_cons_succ, Bool.false_eq_true, if_true, if_false, beq_self_eq_true]
        exact ⟨_, rfl⟩
      · rw [decide_eq_false ho] at a2
        have d3 := fun h => W.Div h (u + s) b (by unfold M256; omega) hb
        have q3 : (u + s) / b = a := by rw [← ab, Nat.add_comm, Nat.add_mul_div_right _ _ b0, Nat.div_eq_of_lt cml, Nat.zero_add]
        have r3 : (u + s) % b = s := by rw [← ab, Nat.add_comm, Nat.add_mul_mod_self_right, Nat.mod_eq_of_lt cml]
        simp only [if_neg h0, q3, r3] at d3
        have ea := fun h => dz h a ha
        have esq := fun h => dz h s (by omega)
        simp (config := {maxSteps := 1000000}) (disch := first | omega | (simp only [List.length_cons, List.length_nil, List.length_append, List.length_drop]; omega)) only [n0, hal, d1, d2, d3, m1, m2, a1, a2, c1, z0, zb, za, ea, esq, ↓s_box, ↓x_build, x_aggO, w_cells, w_load, w_store, w_st4, w_stW, w_write, w_write', ↓l_loop, ↓l_succ, ↓l_normal, l_normal, l_exit, l_ret, l_iteN, ↓h_put_get, ↓h_new_get, ↓h_del_get, h_next_put, h_next_new, h_next_del, Nat.add_assoc, Nat.add_eq_left, Nat.left_eq_add, Nat.add_left_cancel_iff, ↓s_load, m_load, ↓m_load1, m_load1, ↓m_st, m_stE, m_storeI, m_storeE, w_succ, ↓s_alloc, ↓x_idxA, ↓x_idxS, x_idxAE, x_idxSE, x_addrE, x_idx, x_lenS, ↓s_len, ↓x_buildS, x_buildE, ↓x_P0, ↓x_P1, x_fill0, x_filli, x_fills, x_fillb, c_int, List.length_cons, List.length_nil, List.cons_append, List.drop_succ_cons, List.drop_zero, List.drop_nil, List.nil_append, Int.reduceAdd, Int.reduceToNat, Int.reduceLT, Int.reduceLE, Nat.reduceAdd, Nat.reduceMul, Nat.reduceLeDiff, Int.reduceEq, Int.reduceSub, Int.cast_ofNat_Int, s_resc, s_consR, m_load4, m_store4, s_res0, ↓s_skip, ↓s_ops, ↓s_dops, ↓s_seq, ↓s_cond, ↓s_block, ↓s_exit, ↓s_ret, ↓s_scope, ↓s_nil, ↓s_op, ↓s_opg, ↓s_wanted', ↓s_wantV, s_wantV, s_wantV0, beq_true, beq_false, ↓s_bindS, s_bindS, ↓s_bindE, s_bindE, s_bindE_ret, s_bindE_exit, s_bindE_iteN, s_norm, ↓s_condV, s_condV, s_block_ret, s_block_normal, s_block_exit, s_block_iteN, ↓s_getp, ↓s_getp0, ↓s_get, s_get0, ↓s_con, ↓s_fn, ↓s_os0, ↓s_os1, ↓s_list0, ↓s_list1, ↓s_mov, ↓s_pick, ↓s_pickE, s_pickE, ↓s_bin, ↓s_un, ↓s_minmax, ↓s_call, ↓s_callv, ↓s_callV, ↓s_ext, s_same, b_eql, b_neq, b_lss, b_leq, b_gtr, b_geq, b_add, b_sub, b_mul, b_eqlb, b_neqb, b_fnil, b_fnil', b_fnil2, b_fnil2', u_neg, u_not, m_two, s_end, s_end', s_end_iteN, s_res0, s_res1, s_tup1, s_tup2, ↓iteN_true, ↓iteN_false, iteN_true, iteN_false, Nat.zero_add, List.nil_append, List.append_nil, Nat.reduceEqDiff, reduceIte, decide_true, decide_false, Bool.not_true, Bool.not_false, List.getElem?_cons_zero, List.getElem?_cons_succ, Bool.false_eq_true, if_true, if_false, beq_self_eq_true]
        exact ⟨_, rfl⟩
    · have zv := fun h => b_neW0 h v vl
      rw [decide_eq_false hv] at zv
      simp (config := {maxSteps := 1000000}) (disch := first | omega | (simp only [List.length_cons, List.length_nil, List.length_append, List.length_drop]; omega)) only [n0, hal, d1, d2, m1, m2, a1, a2, c1, z0, zb, za, zv, ↓s_box, ↓x_build, x_aggO, w_cells, w_load, w_store, w_st4, w_stW, w_write, w_write', ↓l_loop, ↓l_succ, ↓l_normal, l_normal, l_exit, l_ret, l_iteN, ↓h_put_get, ↓h_new_get, ↓h_del_get, h_next_put, h_next_new, h_next_del, Nat.add_assoc, Nat.add_eq_left, Nat.left_eq_add, Nat.add_left_cancel_iff, ↓s_load, m_load, ↓m_load1, m_load1, ↓m_st, m_stE, m_storeI, m_storeE, w_succ, ↓s_alloc, ↓x_idxA, ↓x_idxS, x_idxAE, x_idxSE, x_addrE, x_idx, x_lenS, ↓s_len, ↓x_buildS, x_buildE, ↓x_P0, ↓x_P1, x_fill0, x_filli, x_fills, x_fillb, c_int, List.length_cons, List.length_nil, List.cons_append, List.drop_succ_cons, List.drop_zero, List.drop_nil, List.nil_append, Int.reduceAdd, Int.reduceToNat, Int.reduceLT, Int.reduceLE, Nat.reduceAdd, Nat.reduceMul, Nat.reduceLeDiff, Int.reduceEq, Int.reduceSub, Int.cast_ofNat_Int, s_resc, s_consR, m_load4, m_store4, s_res0, ↓s_skip, ↓s_ops, ↓s_dops, ↓s_seq, ↓s_cond, ↓s_block, ↓s_exit, ↓s_ret, ↓s_scope, ↓s_nil, ↓s_op, ↓s_opg, ↓s_wanted', ↓s_wantV, s_wantV, s_wantV0, beq_true, beq_false, ↓s_bindS, s_bindS, ↓s_bindE, s_bindE, s_bindE_ret, s_bindE_exit, s_bindE_iteN, s_norm, ↓s_condV, s_condV, s_block_ret, s_block_normal, s_block_exit, s_block_iteN, ↓s_getp, ↓s_getp0, ↓s_get, s_get0, ↓s_con, ↓s_fn, ↓s_os0, ↓s_os1, ↓s_list0, ↓s_list1, ↓s_mov, ↓s_pick, ↓s_pickE, s_pickE, ↓s_bin, ↓s_un, ↓s_minmax, ↓s_call, ↓s_callv, ↓s_callV, ↓s_ext, s_same, b_eql, b_neq, b_lss, b_leq, b_gtr, b_geq, b_add, b_sub, b_mul, b_eqlb, b_neqb, b_fnil, b_fnil', b_fnil2, b_fnil2', u_neg, u_not, m_two, s_end, s_end', s_end_iteN, s_res0, s_res1, s_tup1, s_tup2, ↓iteN_true, ↓iteN_false, iteN_true, iteN_false, Nat.zero_add, List.nil_append, List.append_nil, Nat.reduceEqDiff, reduceIte, decide_true, decide_false, Bool.not_true, Bool.not_false, List.getElem?_cons_zero, List.getElem?_cons_succ, Bool.false_eq_true, if_true, if_false, beq_self_eq_true]
      exact ⟨_, rfl⟩
end Go.Eng
