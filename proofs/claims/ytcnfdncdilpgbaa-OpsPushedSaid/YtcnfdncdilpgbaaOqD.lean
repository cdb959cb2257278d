/- What functions of the program come to: own work. -/
import Derived.Test.YtcnfdncdilpgbaaOqC
namespace Go.Eng
open Go
variable {E : Nat → Option Fn} {X : Orc}
set_option linter.unusedSimpArgs false
set_option linter.unusedVariables false
def pcV (n : Nat) : Nat := if n ≤ 75 then n else if n ≤ 255 then 76 else 77
/-- the operation that pushes -/
def mkP (l : List Nat) : Oq := ⟨pcV l.length, l⟩
def pushR (l : List Nat) : Oq × Nat := if 65535 < l.length then (⟨0, []⟩, 100) else (mkP l, 0)
theorem st1 (u v : V) (h : H) (i : Nat) (x : Int) : storeE (some (.cells [u, v] .rw)) h i 0 [.int .u8 x] = some (h.put i (.cells [.int .u8 x, v] .rw)) := m_storeE _ _ _ _ _ (by show 0 + 1 ≤ 2; omega)
theorem push_go (e : EnOp E) (x : NoOp X) (ep : E k_ops_Push = some f_ops_Push) (xp : ∀ a h, X (.fn k_ops_Push) a h = none) (N : Nat) (l : List Nat) (hl : l.length ≤ 1000000) (a : Option (Nat × Nat)) (c : Option Nat) (ez : Nat) (h : H) (src : SrcH h a ez l) :
    ∃ h' a2 c2 e2, callX E X (N + 2) (.fn k_ops_Push) [.slice a l.length c ez] h = some (.tup [.agg [.int .u8 ((pushR l).1.code : Int), .slice a2 (pushR l).1.l.length c2 e2], .int .i64 ((pushR l).2 : Int)], h') ∧ Kp h h' ∧ SrcH h' a2 e2 (pushR l).1.l ∧ ((pushR l).1.l ≠ [] → ∀ q z, a2 = some (q, z) → h.next ≤ q) := by
  rw [x_cfn ep _ _ (Nat.le_of_ble_eq_true rfl) (xp _ _)]
  obtain ⟨hA, eA⟩ : ∃ hA, h.new (.cells [.int .u8 0, .slice none 0 (some 0) 0] .rw) = hA := ⟨_, rfl⟩
  have kA : Kp h hA := by rw [← eA]; exact Kp.new _ _
  have nA : hA.next = h.next + 1 := by rw [← eA]; rfl
  have gA : hA.get h.next = some (.cells [.int .u8 0, .slice none 0 (some 0) 0] .rw) := by rw [← eA]; exact h_new_same _ _
  have sA := src.mono kA
  obtain ⟨hB, b, cb, eb, rb, kB, sb, gb⟩ := clone_go e x N l hl a c ez hA sA (fun hn => sA.nn hn)
  obtain ⟨hC, eC⟩ : ∃ hC, (hB.new (.cells [.int .u8 0, .slice none 0 (some 0) 0] .rw)).put hB.next (.cells [.int .u8 77, .slice b l.length cb eb] .rw) = hC := ⟨_, rfl⟩
  have kC : Kp hB hC := by rw [← eC]; (repeat (first | exact Kp.refl _ | refine Kp.put ?_ _ (by first | omega | (simp only [h_next_put, h_next_new, h_next_del]; omega)) | refine Kp.del ?_ (by first | omega | (simp only [h_next_put, h_next_new, h_next_del]; omega)) | refine Kp.trans ?_ (Kp.new _ _)))
  have kBn := kB.1
  have gC0 : hC.get h.next = some (.cells [.int .u8 0, .slice none 0 (some 0) 0] .rw) := by rw [kC.2 _ (by omega), kB.2 _ (by omega), gA]
  have gC1 : hC.get hB.next = some (.cells [.int .u8 77, .slice b l.length cb eb] .rw) := by rw [← eC]; exact h_put_same _ _ _
  have kAC := kA.trans (kB.trans kC)
  have ln : ∀ q z, b = some (q, z) → l ≠ [] → q < hB.next := fun q z eq hne => by
    rcases sb with s | ⟨bi, off, vs, m, f1, f2, f3, _⟩
    · exact absurd s hne
    · rw [f1] at eq; cases eq; exact f3
  unfold pushR
  by_cases c1 : 65535 < l.length
  · rw [if_pos c1]
    have d1 : decide ((65535 : Int) < (l.length : Int)) = true := decide_eq_true (by omega)
    refine ⟨hC.put h.next (.cells [.int .u8 0, .slice none 0 (some 0) 0] .rw), none, some 0, 0, ?_, kAC.put _ (Nat.le_refl _), .inl rfl, fun h => absurd rfl h⟩
    simp only [List.length_nil]
    generalize l.length = n at *
    simp (config := {maxSteps := 2000000}) (disch := first | omega | (simp only [List.length_cons, List.length_nil, List.length_append, List.length_drop]; omega)) only [eA, rb, eC, gC0, d1, st2, st2r, ld2, x_build, x_aggO, x_P0, x_P1, x_fill0, x_fills, x_fillb, x_filli, ↓s_len, x_lenS, ↓b_xor32, ↓b_and32, ↓b_or32, ↓u_not32, b_xor32, b_and32, b_or32, u_not32, w32ad, ↓x_conv, x_convV, ↓x_fieldAddr, x_fieldV, ↓s_nilchk, x_nilchk, Nat.zero_add, Nat.add_zero, Nat.mul_one, ↓l_loop, ↓l_succ, ↓l_normal, l_normal, l_exit, l_ret, l_iteN, ↓h_put_get, ↓h_new_get, ↓h_del_get, h_next_put, h_next_new, h_next_del, Nat.add_assoc, Nat.add_eq_left, Nat.left_eq_add, Nat.add_left_cancel_iff, ↓s_load, m_load, ↓m_load1, m_load1, ↓m_st, m_stE, m_storeI, m_storeE, w_zero, w_succ, ↓s_alloc, ↓x_idxA, ↓x_idxS, x_idxAE, x_idxSE, x_addrE, x_idx, x_lenS, ↓s_len, ↓x_buildS, x_buildE, ↓x_P0, ↓x_P1, x_fill0, x_filli, x_fills, x_fillb, c_int, List.length_cons, List.length_nil, List.cons_append, List.drop_succ_cons, List.drop_zero, List.drop_nil, List.nil_append, Int.reduceAdd, Int.reduceToNat, Int.reduceLT, Int.reduceLE, Nat.reduceAdd, Nat.reduceMul, Nat.reduceLeDiff, Int.reduceEq, Int.reduceSub, Int.cast_ofNat_Int, s_resc, s_consR, m_load4, m_store4, s_res0, ↓s_skip, ↓s_ops, ↓s_dops, ↓s_seq, ↓s_cond, ↓s_block, ↓s_exit, ↓s_ret, ↓s_scope, ↓s_nil, ↓s_op, ↓s_opg, ↓s_wanted', ↓s_wantV, s_wantV, s_wantV0, beq_true, beq_false, ↓s_bindS, s_bindS, ↓s_bindE, s_bindE, s_bindE_ret, s_bindE_exit, s_bindE_iteN, s_norm, ↓s_condV, s_condV, s_block_ret, s_block_normal, s_block_exit, s_block_iteN, ↓s_getp, ↓s_getp0, ↓s_get, s_get0, ↓s_con, ↓s_fn, ↓s_os0, ↓s_os1, ↓s_list0, ↓s_list1, ↓s_mov, ↓s_pick, ↓s_pickE, s_pickE, ↓s_bin, ↓s_un, ↓s_minmax, ↓s_call, ↓s_callv, ↓s_callV, ↓s_ext, s_same, b_eql, b_neq, b_lss, b_leq, b_gtr, b_geq, b_add, b_sub, b_mul, b_eqlb, b_neqb, b_fnil, b_fnil', b_fnil2, b_fnil2', u_neg, u_not, m_two, s_end, s_end', s_end_iteN, s_res0, s_res1, s_tup1, s_tup2, ↓iteN_true, ↓iteN_false, iteN_true, iteN_false, Nat.zero_add, List.nil_append, List.append_nil, Nat.reduceEqDiff, reduceIte, decide_true, decide_false, Bool.not_true, Bool.not_false, List.getElem?_cons_zero, List.getElem?_cons_succ, Bool.false_eq_true, if_true, if_false, beq_self_eq_true]
    try rfl
  · rw [if_neg c1]
    have d1 : decide ((65535 : Int) < (l.length : Int)) = false := decide_eq_false (by omega)
    have fin : ∀ (cd : Nat) (hD : H), hD = (hC.put hB.next (.cells [.int .u8 (cd : Int), .slice b l.length cb eb] .rw)).put h.next (.cells [.int .u8 (cd : Int), .slice b l.length cb eb] .rw) → Kp h hD ∧ SrcH hD b eb l ∧ (l ≠ [] → ∀ q z, b = some (q, z) → h.next ≤ q) ∧ hD.get h.next = some (.cells [.int .u8 (cd : Int), .slice b l.length cb eb] .rw) := by
      intro cd hD eD
      refine ⟨by rw [eD]; exact (kAC.put _ (by omega)).put _ (Nat.le_refl _), ?_, fun _ q z eq => by have := gb q z eq; omega, by rw [eD]; exact h_put_same _ _ _⟩
      by_cases hne : l = []
      · exact .inl hne
      · rcases sb with s | ⟨bi, off, vs, m, f1, f2, f3, f4, f5, f6⟩
        · exact .inl s
        · have g1 := gb _ _ f1
          exact .inr ⟨bi, off, vs, m, f1, f2, by rw [eD]; show bi < hC.next; have := kC.1; omega, by rw [eD, h_put_ne _ _ (by omega), h_put_ne _ _ (by omega), kC.2 _ f3, f4], f5, f6⟩
    unfold mkP pcV
    by_cases c2 : l.length ≤ 75
    · rw [if_pos c2]
      have d2 : decide ((l.length : Int) ≤ 75) = true := decide_eq_true (by omega)
      have w2 : wr .u8 (l.length : Int) = (l.length : Int) := by rw [w8n, Nat.mod_eq_of_lt (by omega)]
      obtain ⟨hD, eD⟩ : ∃ hD, (hC.put hB.next (.cells [.int .u8 (l.length : Int), .slice b l.length cb eb] .rw)).put h.next (.cells [.int .u8 (l.length : Int), .slice b l.length cb eb] .rw) = hD := ⟨_, rfl⟩
      obtain ⟨f1, f2, f3, f4⟩ := fin l.length hD eD.symm
      refine ⟨hD, b, cb, eb, ?_, f1, f2, f3⟩
      have z1 : (hB.next = h.next) = False := by simp; omega
      simp only
      generalize l.length = n at *
      simp (config := {maxSteps := 2000000}) (disch := first | omega | (simp only [List.length_cons, List.length_nil, List.length_append, List.length_drop]; omega)) only [eA, rb, eC, gC0, gC1, d1, d2, w2, eD, f4, z1, st2, st2r, st1, ld2, x_build, x_aggO, x_P0, x_P1, x_fill0, x_fills, x_fillb, x_filli, ↓s_len, x_lenS, ↓b_xor32, ↓b_and32, ↓b_or32, ↓u_not32, b_xor32, b_and32, b_or32, u_not32, w32ad, ↓x_conv, x_convV, ↓x_fieldAddr, x_fieldV, ↓s_nilchk, x_nilchk, Nat.zero_add, Nat.add_zero, Nat.mul_one, ↓l_loop, ↓l_succ, ↓l_normal, l_normal, l_exit, l_ret, l_iteN, ↓h_put_get, ↓h_new_get, ↓h_del_get, h_next_put, h_next_new, h_next_del, Nat.add_assoc, Nat.add_eq_left, Nat.left_eq_add, Nat.add_left_cancel_iff, ↓s_load, m_load, ↓m_load1, m_load1, ↓m_st, m_stE, m_storeI, m_storeE, w_zero, w_succ, ↓s_alloc, ↓x_idxA, ↓x_idxS, x_idxAE, x_idxSE, x_addrE, x_idx, x_lenS, ↓s_len, ↓x_buildS, x_buildE, ↓x_P0, ↓x_P1, x_fill0, x_filli, x_fills, x_fillb, c_int, List.length_cons, List.length_nil, List.cons_append, List.drop_succ_cons, List.drop_zero, List.drop_nil, List.nil_append, Int.reduceAdd, Int.reduceToNat, Int.reduceLT, Int.reduceLE, Nat.reduceAdd, Nat.reduceMul, Nat.reduceLeDiff, Int.reduceEq, Int.reduceSub, Int.cast_ofNat_Int, s_resc, s_consR, m_load4, m_store4, s_res0, ↓s_skip, ↓s_ops, ↓s_dops, ↓s_seq, ↓s_cond, ↓s_block, ↓s_exit, ↓s_ret, ↓s_scope, ↓s_nil, ↓s_op, ↓s_opg, ↓s_wanted', ↓s_wantV, s_wantV, s_wantV0, beq_true, beq_false, ↓s_bindS, s_bindS, ↓s_bindE, s_bindE, s_bindE_ret, s_bindE_exit, s_bindE_iteN, s_norm, ↓s_condV, s_condV, s_block_ret, s_block_normal, s_block_exit, s_block_iteN, ↓s_getp, ↓s_getp0, ↓s_get, s_get0, ↓s_con, ↓s_fn, ↓s_os0, ↓s_os1, ↓s_list0, ↓s_list1, ↓s_mov, ↓s_pick, ↓s_pickE, s_pickE, ↓s_bin, ↓s_un, ↓s_minmax, ↓s_call, ↓s_callv, ↓s_callV, ↓s_ext, s_same, b_eql, b_neq, b_lss, b_leq, b_gtr, b_geq, b_add, b_sub, b_mul, b_eqlb, b_neqb, b_fnil, b_fnil', b_fnil2, b_fnil2', u_neg, u_not, m_two, s_end, s_end', s_end_iteN, s_res0, s_res1, s_tup1, s_tup2, ↓iteN_true, ↓iteN_false, iteN_true, iteN_false, Nat.zero_add, List.nil_append, List.append_nil, Nat.reduceEqDiff, reduceIte, decide_true, decide_false, Bool.not_true, Bool.not_false, List.getElem?_cons_zero, List.getElem?_cons_succ, Bool.false_eq_true, if_true, if_false, beq_self_eq_true]
      try rfl
    · rw [if_neg c2]
      have d2 : decide ((l.length : Int) ≤ 75) = false := decide_eq_false (by omega)
      by_cases c3 : l.length ≤ 255
      · rw [if_pos c3]
        have d3 : decide ((l.length : Int) ≤ 255) = true := decide_eq_true (by omega)
        obtain ⟨hD, eD⟩ : ∃ hD, (hC.put hB.next (.cells [.int .u8 76, .slice b l.length cb eb] .rw)).put h.next (.cells [.int .u8 76, .slice b l.length cb eb] .rw) = hD := ⟨_, rfl⟩
        obtain ⟨f1, f2, f3, f4⟩ := fin 76 hD eD.symm
        refine ⟨hD, b, cb, eb, ?_, f1, f2, f3⟩
        have z1 : (hB.next = h.next) = False := by simp; omega
        replace f4 : hD.get h.next = some (.cells [.int .u8 76, .slice b l.length cb eb] .rw) := f4
        simp only
        generalize l.length = n at *
        simp (config := {maxSteps := 2000000}) (disch := first | omega | (simp only [List.length_cons, List.length_nil, List.length_append, List.length_drop]; omega)) only [eA, rb, eC, gC0, gC1, d1, d2, d3, eD, f4, z1, st2, st2r, st1, ld2, x_build, x_aggO, x_P0, x_P1, x_fill0, x_fills, x_fillb, x_filli, ↓s_len, x_lenS, ↓b_xor32, ↓b_and32, ↓b_or32, ↓u_not32, b_xor32, b_and32, b_or32, u_not32, w32ad, ↓x_conv, x_convV, ↓x_fieldAddr, x_fieldV, ↓s_nilchk, x_nilchk, Nat.zero_add, Nat.add_zero, Nat.mul_one, ↓l_loop, ↓l_succ, ↓l_normal, l_normal, l_exit, l_ret, l_iteN, ↓h_put_get, ↓h_new_get, ↓h_del_get, h_next_put, h_next_new, h_next_del, Nat.add_assoc, Nat.add_eq_left, Nat.left_eq_add, Nat.add_left_cancel_iff, ↓s_load, m_load, ↓m_load1, m_load1, ↓m_st, m_stE, m_storeI, m_storeE, w_zero, w_succ, ↓s_alloc, ↓x_idxA, ↓x_idxS, x_idxAE, x_idxSE, x_addrE, x_idx, x_lenS, ↓s_len, ↓x_buildS, x_buildE, ↓x_P0, ↓x_P1, x_fill0, x_filli, x_fills, x_fillb, c_int, List.length_cons, List.length_nil, List.cons_append, List.drop_succ_cons, List.drop_zero, List.drop_nil, List.nil_append, Int.reduceAdd, Int.reduceToNat, Int.reduceLT, Int.reduceLE, Nat.reduceAdd, Nat.reduceMul, Nat.reduceLeDiff, Int.reduceEq, Int.reduceSub, Int.cast_ofNat_Int, s_resc, s_consR, m_load4, m_store4, s_res0, ↓s_skip, ↓s_ops, ↓s_dops, ↓s_seq, ↓s_cond, ↓s_block, ↓s_exit, ↓s_ret, ↓s_scope, ↓s_nil, ↓s_op, ↓s_opg, ↓s_wanted', ↓s_wantV, s_wantV, s_wantV0, beq_true, beq_false, ↓s_bindS, s_bindS, ↓s_bindE, s_bindE, s_bindE_ret, s_bindE_exit, s_bindE_iteN, s_norm, ↓s_condV, s_condV, s_block_ret, s_block_normal, s_block_exit, s_block_iteN, ↓s_getp, ↓s_getp0, ↓s_get, s_get0, ↓s_con, ↓s_fn, ↓s_os0, ↓s_os1, ↓s_list0, ↓s_list1, ↓s_mov, ↓s_pick, ↓s_pickE, s_pickE, ↓s_bin, ↓s_un, ↓s_minmax, ↓s_call, ↓s_callv, ↓s_callV, ↓s_ext, s_same, b_eql, b_neq, b_lss, b_leq, b_gtr, b_geq, b_add, b_sub, b_mul, b_eqlb, b_neqb, b_fnil, b_fnil', b_fnil2, b_fnil2', u_neg, u_not, m_two, s_end, s_end', s_end_iteN, s_res0, s_res1, s_tup1, s_tup2, ↓iteN_true, ↓iteN_false, iteN_true, iteN_false, Nat.zero_add, List.nil_append, List.append_nil, Nat.reduceEqDiff, reduceIte, decide_true, decide_false, Bool.not_true, Bool.not_false, List.getElem?_cons_zero, List.getElem?_cons_succ, Bool.false_eq_true, if_true, if_false, beq_self_eq_true]
        try rfl
      · rw [if_neg c3]
        have d3 : decide ((l.length : Int) ≤ 255) = false := decide_eq_false (by omega)
        obtain ⟨hD, eD⟩ : ∃ hD, hC.put h.next (.cells [.int .u8 77, .slice b l.length cb eb] .rw) = hD := ⟨_, rfl⟩
        have f4 : hD.get h.next = some (.cells [.int .u8 77, .slice b l.length cb eb] .rw) := by rw [← eD]; exact h_put_same _ _ _
        refine ⟨hD, b, cb, eb, ?_, by rw [← eD]; exact kAC.put _ (Nat.le_refl _), ?_, fun _ q z eq => by have := gb q z eq; omega⟩
        · have z1 : (hB.next = h.next) = False := by simp; omega
          simp only
          generalize l.length = n at *
          simp (config := {maxSteps := 2000000}) (disch := first | omega | (simp only [List.length_cons, List.length_nil, List.length_append, List.length_drop]; omega)) only [eA, rb, eC, gC0, gC1, d1, d2, d3, eD, f4, z1, st2, st2r, st1, ld2, x_build, x_aggO, x_P0, x_P1, x_fill0, x_fills, x_fillb, x_filli, ↓s_len, x_lenS, ↓b_xor32, ↓b_and32, ↓b_or32, ↓u_not32, b_xor32, b_and32, b_or32, u_not32, w32ad, ↓x_conv, x_convV, ↓x_fieldAddr, x_fieldV, ↓s_nilchk, x_nilchk, Nat.zero_add, Nat.add_zero, Nat.mul_one, ↓l_loop, ↓l_succ, ↓l_normal, l_normal, l_exit, l_ret, l_iteN, ↓h_put_get, ↓h_new_get, ↓h_del_get, h_next_put, h_next_new, h_next_del, Nat.add_assoc, Nat.add_eq_left, Nat.left_eq_add, Nat.add_left_cancel_iff, ↓s_load, m_load, ↓m_load1, m_load1, ↓m_st, m_stE, m_storeI, m_storeE, w_zero, w_succ, ↓s_alloc, ↓x_idxA, ↓x_idxS, x_idxAE, x_idxSE, x_addrE, x_idx, x_lenS, ↓s_len, ↓x_buildS, x_buildE, ↓x_P0, ↓x_P1, x_fill0, x_filli, x_fills, x_fillb, c_int, List.length_cons, List.length_nil, List.cons_append, List.drop_succ_cons, List.drop_zero, List.drop_nil, List.nil_append, Int.reduceAdd, Int.reduceToNat, Int.reduceLT, Int.reduceLE, Nat.reduceAdd, Nat.reduceMul, Nat.reduceLeDiff, Int.reduceEq, Int.reduceSub, Int.cast_ofNat_Int, s_resc, s_consR, m_load4, m_store4, s_res0, ↓s_skip, ↓s_ops, ↓s_dops, ↓s_seq, ↓s_cond, ↓s_block, ↓s_exit, ↓s_ret, ↓s_scope, ↓s_nil, ↓s_op, ↓s_opg, ↓s_wanted', ↓s_wantV, s_wantV, s_wantV0, beq_true, beq_false, ↓s_bindS, s_bindS, ↓s_bindE, s_bindE, s_bindE_ret, s_bindE_exit, s_bindE_iteN, s_norm, ↓s_condV, s_condV, s_block_ret, s_block_normal, s_block_exit, s_block_iteN, ↓s_getp, ↓s_getp0, ↓s_get, s_get0, ↓s_con, ↓s_fn, ↓s_os0, ↓s_os1, ↓s_list0, ↓s_list1, ↓s_mov, ↓s_pick, ↓s_pickE, s_pickE, ↓s_bin, ↓s_un, ↓s_minmax, ↓s_call, ↓s_callv, ↓s_callV, ↓s_ext, s_same, b_eql, b_neq, b_lss, b_leq, b_gtr, b_geq, b_add, b_sub, b_mul, b_eqlb, b_neqb, b_fnil, b_fnil', b_fnil2, b_fnil2', u_neg, u_not, m_two, s_end, s_end', s_end_iteN, s_res0, s_res1, s_tup1, s_tup2, ↓iteN_true, ↓iteN_false, iteN_true, iteN_false, Nat.zero_add, List.nil_append, List.append_nil, Nat.reduceEqDiff, reduceIte, decide_true, decide_false, Bool.not_true, Bool.not_false, List.getElem?_cons_zero, List.getElem?_cons_succ, Bool.false_eq_true, if_true, if_false, beq_self_eq_true]
          try rfl
        · simp only
          by_cases hne : l = []
          · exact .inl hne
          · rcases sb with s | ⟨bi, off, vs, m, f1, f2, f3, f4, f5, f6⟩
            · exact .inl s
            · have g1 := gb _ _ f1
              exact .inr ⟨bi, off, vs, m, f1, f2, by rw [← eD]; show bi < hC.next; have := kC.1; omega, by rw [← eD, h_put_ne _ _ (by omega), kC.2 _ f3, f4], f5, f6⟩
/-- what an operation pushes -/
def valV (o : Oq) : Option (List Nat) := if okO o = false then none else if o.code ≤ 77 then some o.l else if o.code = 79 then some [129] else if 81 ≤ o.code ∧ o.code ≤ 96 then some [o.code - 80] else none
theorem value_go (e : EnOp E) (x : NoOp X) (ev : E k_ops_Value = some f_ops_Value) (xv : ∀ a h, X (.fn k_ops_Value) a h = none) (N : Nat) (o : Oq) (ok : o.ok) (hl : o.l.length ≤ 1000000) (a : Option (Nat × Nat)) (c : Option Nat) (ez : Nat) (h : H) (src : SrcH h a ez o.l) :
    ∃ h' a2 c2 e2, callX E X (N + 2) (.fn k_ops_Value) [.agg [.int .u8 (o.code : Int), .slice a o.l.length c ez]] h = some (.tup [.slice a2 ((valV o).getD []).length c2 e2, .bool (valV o).isSome], h') ∧ Kp h h' ∧ SrcH h' a2 e2 ((valV o).getD []) ∧ ((valV o).getD [] ≠ [] → ∀ q z, a2 = some (q, z) → h.next ≤ q) := by
  rw [x_cfn ev _ _ (Nat.le_of_ble_eq_true rfl) (xv _ _)]
  have ca : ∀ l : List V, (V.agg l).cells = l := fun _ => rfl
  have hc := ok.cl
  obtain ⟨hA, eA⟩ : ∃ hA, h.new (.cells [.int .u8 (o.code : Int), .slice a o.l.length c ez] .rw) = hA := ⟨_, rfl⟩
  have kA : Kp h hA := by rw [← eA]; exact Kp.new _ _
  have nA : hA.next = h.next + 1 := by rw [← eA]; rfl
  have gA : hA.get h.next = some (.cells [.int .u8 (o.code : Int), .slice a o.l.length c ez] .rw) := by rw [← eA]; exact h_new_same _ _
  obtain ⟨hB, rv, kB⟩ := valid_go e x N o hc (by omega) a c ez hA
  have gB : hB.get h.next = some (.cells [.int .u8 (o.code : Int), .slice a o.l.length c ez] .rw) := by rw [kB.2 _ (by omega), gA]
  have kAB := kA.trans kB
  have kBn := kB.1
  unfold valV
  cases hv : okO o with
  | false =>
    rw [hv] at rv
    rw [if_pos rfl]
    refine ⟨hB, none, some 0, 0, ?_, kAB, .inl rfl, fun h => absurd rfl h⟩
    show _ = some (V.tup [.slice none ([] : List Nat).length (some 0) 0, .bool false], hB)
    rw [List.length_nil]
    generalize o.l.length = n at *
    simp (config := {maxSteps := 2000000}) (disch := first | omega | (simp only [List.length_cons, List.length_nil, List.length_append, List.length_drop]; omega)) only [ca, eA, gA, rv, ld2, ↓s_box, ↓b_xor32, ↓b_and32, ↓b_or32, ↓u_not32, b_xor32, b_and32, b_or32, u_not32, w32ad, ↓x_conv, x_convV, ↓x_fieldAddr, x_fieldV, ↓s_nilchk, x_nilchk, Nat.zero_add, Nat.add_zero, Nat.mul_one, ↓s_evD, ↓s_dnil, ↓s_dL, ↓s_dLg, ↓s_dR, ↓s_dRg, ↓s_dRj, ↓s_dRjg, ↓s_dB, ↓s_dBg, ↓s_dAlloc, ↓s_bindD, s_bindD, s_finD, s_finDx, s_addP0, s_addP1, s_addB, s_lookP, ↓s_bump0, ↓s_bump_get, s_bump_next, s_ok0, ↓s_ok1, s_okR0, ↓s_okR1, ↓s_okE, s_okE, s_okE1, s_nth0, s_nthS, Nat.add_zero, Bool.and_self, Bool.and_true, Bool.true_and, ↓l_loop, ↓l_succ, ↓l_normal, l_normal, l_exit, l_ret, l_iteN, ↓h_put_get, ↓h_new_get, ↓h_del_get, h_next_put, h_next_new, h_next_del, Nat.add_assoc, Nat.add_eq_left, Nat.left_eq_add, Nat.add_left_cancel_iff, ↓s_load, m_load, ↓m_load1, m_load1, ↓m_st, m_stE, m_storeI, m_storeE, w_zero, w_succ, ↓s_alloc, ↓x_idxA, ↓x_idxS, x_idxAE, x_idxSE, x_addrE, x_idx, x_lenS, ↓s_len, ↓x_buildS, x_buildE, ↓x_P0, ↓x_P1, x_fill0, x_filli, x_fills, x_fillb, c_int, List.length_cons, List.length_nil, List.cons_append, List.drop_succ_cons, List.drop_zero, List.drop_nil, List.nil_append, Int.reduceAdd, Int.reduceToNat, Int.reduceLT, Int.reduceLE, Nat.reduceAdd, Nat.reduceMul, Nat.reduceLeDiff, Int.reduceEq, Int.reduceSub, Int.cast_ofNat_Int, s_resc, s_consR, m_load4, m_store4, s_res0, ↓s_skip, ↓s_ops, ↓s_dops, ↓s_seq, ↓s_cond, ↓s_block, ↓s_exit, ↓s_ret, ↓s_scope, ↓s_nil, ↓s_op, ↓s_opg, ↓s_wanted', ↓s_wantV, s_wantV, s_wantV0, beq_true, beq_false, ↓s_bindS, s_bindS, ↓s_bindE, s_bindE, s_bindE_ret, s_bindE_exit, s_bindE_iteN, s_norm, ↓s_condV, s_condV, s_block_ret, s_block_normal, s_block_exit, s_block_iteN, ↓s_getp, ↓s_getp0, ↓s_get, s_get0, ↓s_con, ↓s_fn, ↓s_os0, ↓s_os1, ↓s_list0, ↓s_list1, ↓s_mov, ↓s_pick, ↓s_pickE, s_pickE, ↓s_bin, ↓s_un, ↓s_minmax, ↓s_call, ↓s_callv, ↓s_callV, ↓s_ext, s_same, b_eql, b_neq, b_lss, b_leq, b_gtr, b_geq, b_add, b_sub, b_mul, b_eqlb, b_neqb, b_fnil, b_fnil', b_fnil2, b_fnil2', u_neg, u_not, m_two, s_end, s_end', s_end_iteN, s_res0, s_res1, s_tup1, s_tup2, ↓iteN_true, ↓iteN_false, iteN_true, iteN_false, Nat.zero_add, List.nil_append, List.append_nil, Nat.reduceEqDiff, reduceIte, decide_true, decide_false, Bool.not_true, Bool.not_false, List.getElem?_cons_zero, List.getElem?_cons_succ, Bool.false_eq_true, if_true, if_false, beq_self_eq_true]
    try rfl
  | true =>
    rw [hv] at rv
    rw [if_neg (by simp)]
    by_cases c1 : o.code ≤ 77
    · rw [if_pos c1]
      have d1 : decide ((o.code : Int) ≤ 77) = true := decide_eq_true (by omega)
      have sB := src.mono kAB
      obtain ⟨hC, b, cb, eb, rb, kC, sb, gb⟩ := clone_go e x N o.l hl a c ez hB sB (fun hn => sB.nn hn)
      refine ⟨hC, b, cb, eb, ?_, kAB.trans kC, sb, fun _ q z eq => by have := gb q z eq; omega⟩
      show _ = some (V.tup [.slice b o.l.length cb eb, .bool true], hC)
      generalize o.l.length = n at *
      simp (config := {maxSteps := 2000000}) (disch := first | omega | (simp only [List.length_cons, List.length_nil, List.length_append, List.length_drop]; omega)) only [ca, eA, gA, gB, rv, rb, d1, ld2, ↓s_box, ↓b_xor32, ↓b_and32, ↓b_or32, ↓u_not32, b_xor32, b_and32, b_or32, u_not32, w32ad, ↓x_conv, x_convV, ↓x_fieldAddr, x_fieldV, ↓s_nilchk, x_nilchk, Nat.zero_add, Nat.add_zero, Nat.mul_one, ↓s_evD, ↓s_dnil, ↓s_dL, ↓s_dLg, ↓s_dR, ↓s_dRg, ↓s_dRj, ↓s_dRjg, ↓s_dB, ↓s_dBg, ↓s_dAlloc, ↓s_bindD, s_bindD, s_finD, s_finDx, s_addP0, s_addP1, s_addB, s_lookP, ↓s_bump0, ↓s_bump_get, s_bump_next, s_ok0, ↓s_ok1, s_okR0, ↓s_okR1, ↓s_okE, s_okE, s_okE1, s_nth0, s_nthS, Nat.add_zero, Bool.and_self, Bool.and_true, Bool.true_and, ↓l_loop, ↓l_succ, ↓l_normal, l_normal, l_exit, l_ret, l_iteN, ↓h_put_get, ↓h_new_get, ↓h_del_get, h_next_put, h_next_new, h_next_del, Nat.add_assoc, Nat.add_eq_left, Nat.left_eq_add, Nat.add_left_cancel_iff, ↓s_load, m_load, ↓m_load1, m_load1, ↓m_st, m_stE, m_storeI, m_storeE, w_zero, w_succ, ↓s_alloc, ↓x_idxA, ↓x_idxS, x_idxAE, x_idxSE, x_addrE, x_idx, x_lenS, ↓s_len, ↓x_buildS, x_buildE, ↓x_P0, ↓x_P1, x_fill0, x_filli, x_fills, x_fillb, c_int, List.length_cons, List.length_nil, List.cons_append, List.drop_succ_cons, List.drop_zero, List.drop_nil, List.nil_append, Int.reduceAdd, Int.reduceToNat, Int.reduceLT, Int.reduceLE, Nat.reduceAdd, Nat.reduceMul, Nat.reduceLeDiff, Int.reduceEq, Int.reduceSub, Int.cast_ofNat_Int, s_resc, s_consR, m_load4, m_store4, s_res0, ↓s_skip, ↓s_ops, ↓s_dops, ↓s_seq, ↓s_cond, ↓s_block, ↓s_exit, ↓s_ret, ↓s_scope, ↓s_nil, ↓s_op, ↓s_opg, ↓s_wanted', ↓s_wantV, s_wantV, s_wantV0, beq_true, beq_false, ↓s_bindS, s_bindS, ↓s_bindE, s_bindE, s_bindE_ret, s_bindE_exit, s_bindE_iteN, s_norm, ↓s_condV, s_condV, s_block_ret, s_block_normal, s_block_exit, s_block_iteN, ↓s_getp, ↓s_getp0, ↓s_get, s_get0, ↓s_con, ↓s_fn, ↓s_os0, ↓s_os1, ↓s_list0, ↓s_list1, ↓s_mov, ↓s_pick, ↓s_pickE, s_pickE, ↓s_bin, ↓s_un, ↓s_minmax, ↓s_call, ↓s_callv, ↓s_callV, ↓s_ext, s_same, b_eql, b_neq, b_lss, b_leq, b_gtr, b_geq, b_add, b_sub, b_mul, b_eqlb, b_neqb, b_fnil, b_fnil', b_fnil2, b_fnil2', u_neg, u_not, m_two, s_end, s_end', s_end_iteN, s_res0, s_res1, s_tup1, s_tup2, ↓iteN_true, ↓iteN_false, iteN_true, iteN_false, Nat.zero_add, List.nil_append, List.append_nil, Nat.reduceEqDiff, reduceIte, decide_true, decide_false, Bool.not_true, Bool.not_false, List.getElem?_cons_zero, List.getElem?_cons_succ, Bool.false_eq_true, if_true, if_false, beq_self_eq_true]
      try rfl
    · rw [if_neg c1]
      have d1 : decide ((o.code : Int) ≤ 77) = false := decide_eq_false (by omega)
      by_cases c2 : o.code = 79
      · rw [if_pos c2]
        have d2 : decide ((o.code : Int) = 79) = true := decide_eq_true (by omega)
        refine ⟨hB.new (.cells (ofI .u8 [129]) .rw), some (hB.next, 0), some 1, 1, ?_, kAB.trans (Kp.new _ _), .inr ⟨hB.next, 0, _, .rw, rfl, rfl, Nat.lt_succ_self _, h_new_same _ _, by simp [ofI_len], rfl⟩, fun _ q z eq => by cases eq; omega⟩
        show _ = some (V.tup [.slice (some (hB.next, 0)) 1 (some 1) 1, .bool true], hB.new (.cells [.int .u8 129] .rw))
        generalize o.l.length = n at *
        simp (config := {maxSteps := 2000000}) (disch := first | omega | (simp only [List.length_cons, List.length_nil, List.length_append, List.length_drop]; omega)) only [ca, eA, gA, gB, rv, d1, d2, ld2, ↓s_box, ↓b_xor32, ↓b_and32, ↓b_or32, ↓u_not32, b_xor32, b_and32, b_or32, u_not32, w32ad, ↓x_conv, x_convV, ↓x_fieldAddr, x_fieldV, ↓s_nilchk, x_nilchk, Nat.zero_add, Nat.add_zero, Nat.mul_one, ↓s_evD, ↓s_dnil, ↓s_dL, ↓s_dLg, ↓s_dR, ↓s_dRg, ↓s_dRj, ↓s_dRjg, ↓s_dB, ↓s_dBg, ↓s_dAlloc, ↓s_bindD, s_bindD, s_finD, s_finDx, s_addP0, s_addP1, s_addB, s_lookP, ↓s_bump0, ↓s_bump_get, s_bump_next, s_ok0, ↓s_ok1, s_okR0, ↓s_okR1, ↓s_okE, s_okE, s_okE1, s_nth0, s_nthS, Nat.add_zero, Bool.and_self, Bool.and_true, Bool.true_and, ↓l_loop, ↓l_succ, ↓l_normal, l_normal, l_exit, l_ret, l_iteN, ↓h_put_get, ↓h_new_get, ↓h_del_get, h_next_put, h_next_new, h_next_del, Nat.add_assoc, Nat.add_eq_left, Nat.left_eq_add, Nat.add_left_cancel_iff, ↓s_load, m_load, ↓m_load1, m_load1, ↓m_st, m_stE, m_storeI, m_storeE, w_zero, w_succ, ↓s_alloc, ↓x_idxA, ↓x_idxS, x_idxAE, x_idxSE, x_addrE, x_idx, x_lenS, ↓s_len, ↓x_buildS, x_buildE, ↓x_P0, ↓x_P1, x_fill0, x_filli, x_fills, x_fillb, c_int, List.length_cons, List.length_nil, List.cons_append, List.drop_succ_cons, List.drop_zero, List.drop_nil, List.nil_append, Int.reduceAdd, Int.reduceToNat, Int.reduceLT, Int.reduceLE, Nat.reduceAdd, Nat.reduceMul, Nat.reduceLeDiff, Int.reduceEq, Int.reduceSub, Int.cast_ofNat_Int, s_resc, s_consR, m_load4, m_store4, s_res0, ↓s_skip, ↓s_ops, ↓s_dops, ↓s_seq, ↓s_cond, ↓s_block, ↓s_exit, ↓s_ret, ↓s_scope, ↓s_nil, ↓s_op, ↓s_opg, ↓s_wanted', ↓s_wantV, s_wantV, s_wantV0, beq_true, beq_false, ↓s_bindS, s_bindS, ↓s_bindE, s_bindE, s_bindE_ret, s_bindE_exit, s_bindE_iteN, s_norm, ↓s_condV, s_condV, s_block_ret, s_block_normal, s_block_exit, s_block_iteN, ↓s_getp, ↓s_getp0, ↓s_get, s_get0, ↓s_con, ↓s_fn, ↓s_os0, ↓s_os1, ↓s_list0, ↓s_list1, ↓s_mov, ↓s_pick, ↓s_pickE, s_pickE, ↓s_bin, ↓s_un, ↓s_minmax, ↓s_call, ↓s_callv, ↓s_callV, ↓s_ext, s_same, b_eql, b_neq, b_lss, b_leq, b_gtr, b_geq, b_add, b_sub, b_mul, b_eqlb, b_neqb, b_fnil, b_fnil', b_fnil2, b_fnil2', u_neg, u_not, m_two, s_end, s_end', s_end_iteN, s_res0, s_res1, s_tup1, s_tup2, ↓iteN_true, ↓iteN_false, iteN_true, iteN_false, Nat.zero_add, List.nil_append, List.append_nil, Nat.reduceEqDiff, reduceIte, decide_true, decide_false, Bool.not_true, Bool.not_false, List.getElem?_cons_zero, List.getElem?_cons_succ, Bool.false_eq_true, if_true, if_false, beq_self_eq_true]
        try rfl
      · rw [if_neg c2]
        have d2 : decide ((o.code : Int) = 79) = false := decide_eq_false (by omega)
        by_cases c3 : 81 ≤ o.code
        · have d3 : decide ((81 : Int) ≤ (o.code : Int)) = true := decide_eq_true (by omega)
          by_cases c4 : o.code ≤ 96
          · rw [if_pos ⟨c3, c4⟩]
            have d4 : decide ((o.code : Int) ≤ 96) = true := decide_eq_true (by omega)
            have w1 : wr .u8 ((o.code : Int) - 81) = ((o.code - 81 : Nat) : Int) := by rw [show (o.code : Int) - 81 = ((o.code - 81 : Nat) : Int) by omega, w8n, Nat.mod_eq_of_lt (by omega)]
            have w2 : wr .u8 (((o.code - 81 : Nat) : Int) + 1) = ((o.code - 80 : Nat) : Int) := by rw [show ((o.code - 81 : Nat) : Int) + 1 = ((o.code - 80 : Nat) : Int) by omega, w8n, Nat.mod_eq_of_lt (by omega)]
            refine ⟨hB.new (.cells (ofI .u8 [o.code - 80]) .rw), some (hB.next, 0), some 1, 1, ?_, kAB.trans (Kp.new _ _), .inr ⟨hB.next, 0, _, .rw, rfl, rfl, Nat.lt_succ_self _, h_new_same _ _, by simp [ofI_len], rfl⟩, fun _ q z eq => by cases eq; omega⟩
            show _ = some (V.tup [.slice (some (hB.next, 0)) 1 (some 1) 1, .bool true], hB.new (.cells [.int .u8 ((o.code - 80 : Nat) : Int)] .rw))
            generalize o.l.length = n at *
            generalize o.code - 81 = y1 at *
            generalize o.code - 80 = y0 at *
            simp (config := {maxSteps := 2000000}) (disch := first | omega | (simp only [List.length_cons, List.length_nil, List.length_append, List.length_drop]; omega)) only [ca, eA, gA, gB, rv, d1, d2, d3, d4, w1, w2, ld2, ↓s_box, ↓b_xor32, ↓b_and32, ↓b_or32, ↓u_not32, b_xor32, b_and32, b_or32, u_not32, w32ad, ↓x_conv, x_convV, ↓x_fieldAddr, x_fieldV, ↓s_nilchk, x_nilchk, Nat.zero_add, Nat.add_zero, Nat.mul_one, ↓s_evD, ↓s_dnil, ↓s_dL, ↓s_dLg, ↓s_dR, ↓s_dRg, ↓s_dRj, ↓s_dRjg, ↓s_dB, ↓s_dBg, ↓s_dAlloc, ↓s_bindD, s_bindD, s_finD, s_finDx, s_addP0, s_addP1, s_addB, s_lookP, ↓s_bump0, ↓s_bump_get, s_bump_next, s_ok0, ↓s_ok1, s_okR0, ↓s_okR1, ↓s_okE, s_okE, s_okE1, s_nth0, s_nthS, Nat.add_zero, Bool.and_self, Bool.and_true, Bool.true_and, ↓l_loop, ↓l_succ, ↓l_normal, l_normal, l_exit, l_ret, l_iteN, ↓h_put_get, ↓h_new_get, ↓h_del_get, h_next_put, h_next_new, h_next_del, Nat.add_assoc, Nat.add_eq_left, Nat.left_eq_add, Nat.add_left_cancel_iff, ↓s_load, m_load, ↓m_load1, m_load1, ↓m_st, m_stE, m_storeI, m_storeE, w_zero, w_succ, ↓s_alloc, ↓x_idxA, ↓x_idxS, x_idxAE, x_idxSE, x_addrE, x_idx, x_lenS, ↓s_len, ↓x_buildS, x_buildE, ↓x_P0, ↓x_P1, x_fill0, x_filli, x_fills, x_fillb, c_int, List.length_cons, List.length_nil, List.cons_append, List.drop_succ_cons, List.drop_zero, List.drop_nil, List.nil_append, Int.reduceAdd, Int.reduceToNat, Int.reduceLT, Int.reduceLE, Nat.reduceAdd, Nat.reduceMul, Nat.reduceLeDiff, Int.reduceEq, Int.reduceSub, Int.cast_ofNat_Int, s_resc, s_consR, m_load4, m_store4, s_res0, ↓s_skip, ↓s_ops, ↓s_dops, ↓s_seq, ↓s_cond, ↓s_block, ↓s_exit, ↓s_ret, ↓s_scope, ↓s_nil, ↓s_op, ↓s_opg, ↓s_wanted', ↓s_wantV, s_wantV, s_wantV0, beq_true, beq_false, ↓s_bindS, s_bindS, ↓s_bindE, s_bindE, s_bindE_ret, s_bindE_exit, s_bindE_iteN, s_norm, ↓s_condV, s_condV, s_block_ret, s_block_normal, s_block_exit, s_block_iteN, ↓s_getp, ↓s_getp0, ↓s_get, s_get0, ↓s_con, ↓s_fn, ↓s_os0, ↓s_os1, ↓s_list0, ↓s_list1, ↓s_mov, ↓s_pick, ↓s_pickE, s_pickE, ↓s_bin, ↓s_un, ↓s_minmax, ↓s_call, ↓s_callv, ↓s_callV, ↓s_ext, s_same, b_eql, b_neq, b_lss, b_leq, b_gtr, b_geq, b_add, b_sub, b_mul, b_eqlb, b_neqb, b_fnil, b_fnil', b_fnil2, b_fnil2', u_neg, u_not, m_two, s_end, s_end', s_end_iteN, s_res0, s_res1, s_tup1, s_tup2, ↓iteN_true, ↓iteN_false, iteN_true, iteN_false, Nat.zero_add, List.nil_append, List.append_nil, Nat.reduceEqDiff, reduceIte, decide_true, decide_false, Bool.not_true, Bool.not_false, List.getElem?_cons_zero, List.getElem?_cons_succ, Bool.false_eq_true, if_true, if_false, beq_self_eq_true]
            try rfl
          · rw [if_neg (fun h => c4 h.2)]
            have d4 : decide ((o.code : Int) ≤ 96) = false := decide_eq_false (by omega)
            refine ⟨hB, none, some 0, 0, ?_, kAB, .inl rfl, fun h => absurd rfl h⟩
            show _ = some (V.tup [.slice none ([] : List Nat).length (some 0) 0, .bool false], hB)
            rw [List.length_nil]
            generalize o.l.length = n at *
            simp (config := {maxSteps := 2000000}) (disch := first | omega | (simp only [List.length_cons, List.length_nil, List.length_append, List.length_drop]; omega)) only [ca, eA, gA, gB, rv, d1, d2, d3, d4, ld2, ↓s_box, ↓b_xor32, ↓b_and32, ↓b_or32, ↓u_not32, b_xor32, b_and32, b_or32, u_not32, w32ad, ↓x_conv, x_convV, ↓x_fieldAddr, x_fieldV, ↓s_nilchk, x_nilchk, Nat.zero_add, Nat.add_zero, Nat.mul_one, ↓s_evD, ↓s_dnil, ↓s_dL, ↓s_dLg, ↓s_dR, ↓s_dRg, ↓s_dRj, ↓s_dRjg, ↓s_dB, ↓s_dBg, ↓s_dAlloc, ↓s_bindD, s_bindD, s_finD, s_finDx, s_addP0, s_addP1, s_addB, s_lookP, ↓s_bump0, ↓s_bump_get, s_bump_next, s_ok0, ↓s_ok1, s_okR0, ↓s_okR1, ↓s_okE, s_okE, s_okE1, s_nth0, s_nthS, Nat.add_zero, Bool.and_self, Bool.and_true, Bool.true_and, ↓l_loop, ↓l_succ, ↓l_normal, l_normal, l_exit, l_ret, l_iteN, ↓h_put_get, ↓h_new_get, ↓h_del_get, h_next_put, h_next_new, h_next_del, Nat.add_assoc, Nat.add_eq_left, Nat.left_eq_add, Nat.add_left_cancel_iff, ↓s_load, m_load, ↓m_load1, m_load1, ↓m_st, m_stE, m_storeI, m_storeE, w_zero, w_succ, ↓s_alloc, ↓x_idxA, ↓x_idxS, x_idxAE, x_idxSE, x_addrE, x_idx, x_lenS, ↓s_len, ↓x_buildS, x_buildE, ↓x_P0, ↓x_P1, x_fill0, x_filli, x_fills, x_fillb, c_int, List.length_cons, List.length_nil, List.cons_append, List.drop_succ_cons, List.drop_zero, List.drop_nil, List.nil_append, Int.reduceAdd, Int.reduceToNat, Int.reduceLT, Int.reduceLE, Nat.reduceAdd, Nat.reduceMul, Nat.reduceLeDiff, Int.reduceEq, Int.reduceSub, Int.cast_ofNat_Int, s_resc, s_consR, m_load4, m_store4, s_res0, ↓s_skip, ↓s_ops, ↓s_dops, ↓s_seq, ↓s_cond, ↓s_block, ↓s_exit, ↓s_ret, ↓s_scope, ↓s_nil, ↓s_op, ↓s_opg, ↓s_wanted', ↓s_wantV, s_wantV, s_wantV0, beq_true, beq_false, ↓s_bindS, s_bindS, ↓s_bindE, s_bindE, s_bindE_ret, s_bindE_exit, s_bindE_iteN, s_norm, ↓s_condV, s_condV, s_block_ret, s_block_normal, s_block_exit, s_block_iteN, ↓s_getp, ↓s_getp0, ↓s_get, s_get0, ↓s_con, ↓s_fn, ↓s_os0, ↓s_os1, ↓s_list0, ↓s_list1, ↓s_mov, ↓s_pick, ↓s_pickE, s_pickE, ↓s_bin, ↓s_un, ↓s_minmax, ↓s_call, ↓s_callv, ↓s_callV, ↓s_ext, s_same, b_eql, b_neq, b_lss, b_leq, b_gtr, b_geq, b_add, b_sub, b_mul, b_eqlb, b_neqb, b_fnil, b_fnil', b_fnil2, b_fnil2', u_neg, u_not, m_two, s_end, s_end', s_end_iteN, s_res0, s_res1, s_tup1, s_tup2, ↓iteN_true, ↓iteN_false, iteN_true, iteN_false, Nat.zero_add, List.nil_append, List.append_nil, Nat.reduceEqDiff, reduceIte, decide_true, decide_false, Bool.not_true, Bool.not_false, List.getElem?_cons_zero, List.getElem?_cons_succ, Bool.false_eq_true, if_true, if_false, beq_self_eq_true]
            try rfl
        · rw [if_neg (fun h => c3 h.1)]
          have d3 : decide ((81 : Int) ≤ (o.code : Int)) = false := decide_eq_false (by omega)
          refine ⟨hB, none, some 0, 0, ?_, kAB, .inl rfl, fun h => absurd rfl h⟩
          show _ = some (V.tup [.slice none ([] : List Nat).length (some 0) 0, .bool false], hB)
          rw [List.length_nil]
          generalize o.l.length = n at *
          simp (config := {maxSteps := 2000000}) (disch := first | omega | (simp only [List.length_cons, List.length_nil, List.length_append, List.length_drop]; omega)) only [ca, eA, gA, gB, rv, d1, d2, d3, ld2, ↓s_box, ↓b_xor32, ↓b_and32, ↓b_or32, ↓u_not32, b_xor32, b_and32, b_or32, u_not32, w32ad, ↓x_conv, x_convV, ↓x_fieldAddr, x_fieldV, ↓s_nilchk, x_nilchk, Nat.zero_add, Nat.add_zero, Nat.mul_one, ↓s_evD, ↓s_dnil, ↓s_dL, ↓s_dLg, ↓s_dR, ↓s_dRg, ↓s_dRj, ↓s_dRjg, ↓s_dB, ↓s_dBg, ↓s_dAlloc, ↓s_bindD, s_bindD, s_finD, s_finDx, s_addP0, s_addP1, s_addB, s_lookP, ↓s_bump0, ↓s_bump_get, s_bump_next, s_ok0, ↓s_ok1, s_okR0, ↓s_okR1, ↓s_okE, s_okE, s_okE1, s_nth0, s_nthS, Nat.add_zero, Bool.and_self, Bool.and_true, Bool.true_and, ↓l_loop, ↓l_succ, ↓l_normal, l_normal, l_exit, l_ret, l_iteN, ↓h_put_get, ↓h_new_get, ↓h_del_get, h_next_put, h_next_new, h_next_del, Nat.add_assoc, Nat.add_eq_left, Nat.left_eq_add, Nat.add_left_cancel_iff, ↓s_load, m_load, ↓m_load1, m_load1, ↓m_st, m_stE, m_storeI, m_storeE, w_zero, w_succ, ↓s_alloc, ↓x_idxA, ↓x_idxS, x_idxAE, x_idxSE, x_addrE, x_idx, x_lenS, ↓s_len, ↓x_buildS, x_buildE, ↓x_P0, ↓x_P1, x_fill0, x_filli, x_fills, x_fillb, c_int, List.length_cons, List.length_nil, List.cons_append, List.drop_succ_cons, List.drop_zero, List.drop_nil, List.nil_append, Int.reduceAdd, Int.reduceToNat, Int.reduceLT, Int.reduceLE, Nat.reduceAdd, Nat.reduceMul, Nat.reduceLeDiff, Int.reduceEq, Int.reduceSub, Int.cast_ofNat_Int, s_resc, s_consR, m_load4, m_store4, s_res0, ↓s_skip, ↓s_ops, ↓s_dops, ↓s_seq, ↓s_cond, ↓s_block, ↓s_exit, ↓s_ret, ↓s_scope, ↓s_nil, ↓s_op, ↓s_opg, ↓s_wanted', ↓s_wantV, s_wantV, s_wantV0, beq_true, beq_false, ↓s_bindS, s_bindS, ↓s_bindE, s_bindE, s_bindE_ret, s_bindE_exit, s_bindE_iteN, s_norm, ↓s_condV, s_condV, s_block_ret, s_block_normal, s_block_exit, s_block_iteN, ↓s_getp, ↓s_getp0, ↓s_get, s_get0, ↓s_con, ↓s_fn, ↓s_os0, ↓s_os1, ↓s_list0, ↓s_list1, ↓s_mov, ↓s_pick, ↓s_pickE, s_pickE, ↓s_bin, ↓s_un, ↓s_minmax, ↓s_call, ↓s_callv, ↓s_callV, ↓s_ext, s_same, b_eql, b_neq, b_lss, b_leq, b_gtr, b_geq, b_add, b_sub, b_mul, b_eqlb, b_neqb, b_fnil, b_fnil', b_fnil2, b_fnil2', u_neg, u_not, m_two, s_end, s_end', s_end_iteN, s_res0, s_res1, s_tup1, s_tup2, ↓iteN_true, ↓iteN_false, iteN_true, iteN_false, Nat.zero_add, List.nil_append, List.append_nil, Nat.reduceEqDiff, reduceIte, decide_true, decide_false, Bool.not_true, Bool.not_false, List.getElem?_cons_zero, List.getElem?_cons_succ, Bool.false_eq_true, if_true, if_false, beq_self_eq_true]
          try rfl
end Go.Eng
namespace Go.Eng
open Go
variable {E : Nat → Option Fn} {X : Orc}
set_option linter.unusedSimpArgs false
set_option linter.unusedVariables false
/-- how far a script is pushes only -/
def psV : Nat → List Nat → Nat
  | 0, _ => 0
  | n + 1, b => match fstV b with
    | none => 0
    | some (o, k) => if (valV o).isSome = true then k + psV n (b.drop k) else 0
theorem ps_succ (n : Nat) (b : List Nat) : psV (n + 1) b = (match fstV b with
    | none => 0
    | some (o, k) => if (valV o).isSome = true then k + psV n (b.drop k) else 0) := rfl
/-- an operation that is told to Pushes -/
theorem py2_go (e : EnOp E) (x : NoOp X) (ev : E k_ops_Value = some f_ops_Value) (xv : ∀ a h, X (.fn k_ops_Value) a h = none) (M L p3 D lo : Nat) (T0 : Tr V) (t3 : evO T0 (.t 3) = .ptr (some (p3, 0))) (hp3 : p3 < lo) (hL : L < lo) (zL3 : L ≠ p3) (h : H) (hlo : lo ≤ h.next) (n0 : Int)
    (g3 : h.get p3 = some (.cells [.int .i64 n0] .rw)) (gL : h.get L = some (.loop 0 none 24 T0 [10, 11] A_ops_Pushes_0 B_ops_Pushes_0 D))
    (o : Oq) (ok : o.ok) (ol : o.l.length ≤ 1000000) (b : Option (Nat × Nat)) (cb : Option Nat) (eb : Nat) (hs : SrcH h b eb o.l) (hb : o.l ≠ [] → ∀ q z, b = some (q, z) → q ≠ L) (at' : Nat) :
    ∃ h', h.next ≤ h'.next ∧ (∀ i, i < lo → i ≠ p3 → i ≠ L → h'.get i = h.get i) ∧ ((valV o).isSome = true → callX E X (M + 3) (.yld L) [.int .i64 (at' : Int), .agg [.int .u8 (o.code : Int), .slice b o.l.length cb eb]] h = some (.bool true, h') ∧ h'.get p3 = some (.cells [.int .i64 (at' : Int)] .rw) ∧ h'.get L = some (.loop 0 none 24 T0 [10, 11] A_ops_Pushes_0 B_ops_Pushes_0 D)) ∧
      ((valV o).isSome = false → callX E X (M + 3) (.yld L) [.int .i64 (at' : Int), .agg [.int .u8 (o.code : Int), .slice b o.l.length cb eb]] h = some (.bool false, h') ∧ h'.get p3 = some (.cells [.int .i64 n0] .rw) ∧ h'.get L = some (.loop 2 (some (.exit 0)) 24 T0 [10, 11] A_ops_Pushes_0 B_ops_Pushes_0 D)) := by
  have yx : callX E X (M + 3) (.yld L) [.int .i64 (at' : Int), .agg [.int .u8 (o.code : Int), .slice b o.l.length cb eb]] h = cYld (callX E X (M + 2)) (M + 2) L [.int .i64 (at' : Int), .agg [.int .u8 (o.code : Int), .slice b o.l.length cb eb]] h := x_yld (x.yld _ _ _)
  rw [yx]
  have y3 : (L = p3) = False := by simp; omega
  have y3' : (p3 = L) = False := by simp; omega
  obtain ⟨hA, eA⟩ : ∃ hA, (h.new (.cells [.int .u8 0, .slice none 0 (some 0) 0] .rw)).put h.next (.cells [.int .u8 (o.code : Int), .slice b o.l.length cb eb] .rw) = hA := ⟨_, rfl⟩
  have nA : hA.next = h.next + 1 := by rw [← eA]; rfl
  have kA : Kp h hA := by rw [← eA]; (repeat (first | exact Kp.refl _ | refine Kp.put ?_ _ (by first | omega | (simp only [h_next_put, h_next_new, h_next_del]; omega)) | refine Kp.del ?_ (by first | omega | (simp only [h_next_put, h_next_new, h_next_del]; omega)) | refine Kp.trans ?_ (Kp.new _ _)))
  have gA : hA.get h.next = some (.cells [.int .u8 (o.code : Int), .slice b o.l.length cb eb] .rw) := by rw [← eA]; exact h_put_same _ _ _
  have gAL : hA.get L = some (.loop 0 none 24 T0 [10, 11] A_ops_Pushes_0 B_ops_Pushes_0 D) := by rw [kA.2 _ (by omega), gL]
  obtain ⟨hB, eB⟩ : ∃ hB, hA.put L (.loop 1 none 24 T0 [10, 11] A_ops_Pushes_0 B_ops_Pushes_0 D) = hB := ⟨_, rfl⟩
  have nB : hB.next = h.next + 1 := by rw [← eB]; exact nA
  have fB : ∀ i, i < h.next → i ≠ L → hB.get i = h.get i := fun i hi hne => by rw [← eB, h_put_ne _ _ (Ne.symm hne), kA.2 _ hi]
  have gB : hB.get h.next = some (.cells [.int .u8 (o.code : Int), .slice b o.l.length cb eb] .rw) := by rw [← eB, h_put_ne _ _ (by omega), gA]
  have gBL : hB.get L = some (.loop 1 none 24 T0 [10, 11] A_ops_Pushes_0 B_ops_Pushes_0 D) := by rw [← eB]; exact h_put_same _ _ _
  have hsB : SrcH hB b eb o.l := by
    by_cases ol : o.l = []
    · exact .inl ol
    · rcases hs with s | ⟨bi, off, vs, m, f1, f2, f3, f4, f5, f6⟩
      · exact .inl s
      · exact .inr ⟨bi, off, vs, m, f1, f2, by omega, by rw [fB _ f3 (hb ol bi off f1), f4], f5, f6⟩
  obtain ⟨hC, a2, c2, e2, rv, kC, _, _⟩ := value_go e x ev xv M o ok ol b cb eb hB hsB
  have kCn := kC.1
  have gC3 : hC.get p3 = some (.cells [.int .i64 n0] .rw) := by rw [kC.2 _ (by omega), fB _ (by omega) (Ne.symm zL3), g3]
  have gCL : hC.get L = some (.loop 1 none 24 T0 [10, 11] A_ops_Pushes_0 B_ops_Pushes_0 D) := by rw [kC.2 _ (by omega), gBL]
  have z1 : (h.next = L) = False := by simp; omega
  cases hv : (valV o).isSome with
  | true =>
    rw [hv] at rv
    obtain ⟨hE, eE⟩ : ∃ hE, (hC.put p3 (.cells [.int .i64 (at' : Int)] .rw)).put L (.loop 0 none 24 T0 [10, 11] A_ops_Pushes_0 B_ops_Pushes_0 D) = hE := ⟨_, rfl⟩
    refine ⟨hE, by rw [← eE]; show h.next ≤ hC.next; omega, fun i hi n3 nL => by rw [← eE, h_put_ne _ _ (Ne.symm nL), h_put_ne _ _ (Ne.symm n3), kC.2 _ (by omega), fB _ (by omega) nL], fun _ => ⟨?_, by rw [← eE]; (simp (disch := omega) only [l_loop, l_succ, l_normal, l_normal, l_exit, l_ret, l_iteN, h_put_get, h_new_get, h_del_get, h_next_put, h_next_new, h_next_del, Nat.add_assoc, Nat.add_eq_left, Nat.left_eq_add, Nat.add_left_cancel_iff, s_load, m_load, m_load1, m_load1, m_st, m_stE, m_storeI, m_storeE, w_zero, w_succ, s_alloc, x_idxA, x_idxS, x_idxAE, x_idxSE, x_addrE, x_idx, x_lenS, s_len, x_buildS, x_buildE, x_P0, x_P1, x_fill0, x_filli, x_fills, x_fillb, c_int, List.length_cons, List.length_nil, List.cons_append, List.drop_succ_cons, List.drop_zero, List.drop_nil, List.nil_append, Int.reduceAdd, Int.reduceToNat, Int.reduceLT, Int.reduceLE, Nat.reduceAdd, Nat.reduceMul, Nat.reduceLeDiff, Int.reduceEq, Int.reduceSub, Int.cast_ofNat_Int, s_resc, s_consR, m_load4, m_store4, s_res0, decide_true, decide_false, iteN_true, iteN_false, Nat.reduceEqDiff, Nat.reduceAdd, reduceCtorEq, y3]; try rfl), by rw [← eE]; exact h_put_same _ _ _⟩, fun h => by cases h⟩
    simp (config := {maxSteps := 2000000}) (disch := first | omega | (simp only [List.length_cons, List.length_nil, List.length_append, List.length_drop]; omega)) only [g3, gL, t3, y3, y3', z1, st2, st2r, ld2, eA, gAL, eB, gB, rv, gC3, gCL, eE, y_cyld, y_ready, y_set2, y_mid, y_busy, y_end, y_done, y_jn, y_je, Option.isNone_none, Option.isNone_some, ↓u_A_ops_Pushes_0, ↓u_B_ops_Pushes_0, ↓b_xor32, ↓b_and32, ↓b_or32, ↓u_not32, b_xor32, b_and32, b_or32, u_not32, w32ad, ↓x_conv, x_convV, ↓x_fieldAddr, x_fieldV, ↓s_nilchk, x_nilchk, Nat.zero_add, Nat.add_zero, Nat.mul_one, ↓s_evD, ↓s_dnil, ↓s_dL, ↓s_dLg, ↓s_dR, ↓s_dRg, ↓s_dRj, ↓s_dRjg, ↓s_dB, ↓s_dBg, ↓s_dAlloc, ↓s_bindD, s_bindD, s_finD, s_finDx, s_addP0, s_addP1, s_addB, s_lookP, ↓s_bump0, ↓s_bump_get, s_bump_next, s_ok0, ↓s_ok1, s_okR0, ↓s_okR1, ↓s_okE, s_okE, s_okE1, s_nth0, s_nthS, Nat.add_zero, Bool.and_self, Bool.and_true, Bool.true_and, ↓l_loop, ↓l_succ, ↓l_normal, l_normal, l_exit, l_ret, l_iteN, ↓h_put_get, ↓h_new_get, ↓h_del_get, h_next_put, h_next_new, h_next_del, Nat.add_assoc, Nat.add_eq_left, Nat.left_eq_add, Nat.add_left_cancel_iff, ↓s_load, m_load, ↓m_load1, m_load1, ↓m_st, m_stE, m_storeI, m_storeE, w_zero, w_succ, ↓s_alloc, ↓x_idxA, ↓x_idxS, x_idxAE, x_idxSE, x_addrE, x_idx, x_lenS, ↓s_len, ↓x_buildS, x_buildE, ↓x_P0, ↓x_P1, x_fill0, x_filli, x_fills, x_fillb, c_int, List.length_cons, List.length_nil, List.cons_append, List.drop_succ_cons, List.drop_zero, List.drop_nil, List.nil_append, Int.reduceAdd, Int.reduceToNat, Int.reduceLT, Int.reduceLE, Nat.reduceAdd, Nat.reduceMul, Nat.reduceLeDiff, Int.reduceEq, Int.reduceSub, Int.cast_ofNat_Int, s_resc, s_consR, m_load4, m_store4, s_res0, ↓s_skip, ↓s_ops, ↓s_dops, ↓s_seq, ↓s_cond, ↓s_block, ↓s_exit, ↓s_ret, ↓s_scope, ↓s_nil, ↓s_op, ↓s_opg, ↓s_wanted', ↓s_wantV, s_wantV, s_wantV0, beq_true, beq_false, ↓s_bindS, s_bindS, ↓s_bindE, s_bindE, s_bindE_ret, s_bindE_exit, s_bindE_iteN, s_norm, ↓s_condV, s_condV, s_block_ret, s_block_normal, s_block_exit, s_block_iteN, ↓s_getp, ↓s_getp0, ↓s_get, s_get0, ↓s_con, ↓s_fn, ↓s_os0, ↓s_os1, ↓s_list0, ↓s_list1, ↓s_mov, ↓s_pick, ↓s_pickE, s_pickE, ↓s_bin, ↓s_un, ↓s_minmax, ↓s_call, ↓s_callv, ↓s_callV, ↓s_ext, s_same, b_eql, b_neq, b_lss, b_leq, b_gtr, b_geq, b_add, b_sub, b_mul, b_eqlb, b_neqb, b_fnil, b_fnil', b_fnil2, b_fnil2', u_neg, u_not, m_two, s_end, s_end', s_end_iteN, s_res0, s_res1, s_tup1, s_tup2, ↓iteN_true, ↓iteN_false, iteN_true, iteN_false, Nat.zero_add, List.nil_append, List.append_nil, Nat.reduceEqDiff, reduceIte, decide_true, decide_false, Bool.not_true, Bool.not_false, List.getElem?_cons_zero, List.getElem?_cons_succ, Bool.false_eq_true, if_true, if_false, beq_self_eq_true]
  | false =>
    rw [hv] at rv
    obtain ⟨hE, eE⟩ : ∃ hE, hC.put L (.loop 2 (some (.exit 0)) 24 T0 [10, 11] A_ops_Pushes_0 B_ops_Pushes_0 D) = hE := ⟨_, rfl⟩
    refine ⟨hE, by rw [← eE]; show h.next ≤ hC.next; omega, fun i hi n3 nL => by rw [← eE, h_put_ne _ _ (Ne.symm nL), kC.2 _ (by omega), fB _ (by omega) nL], fun h => (by cases h), fun _ => ⟨?_, by rw [← eE, h_put_ne _ _ zL3, gC3], by rw [← eE]; exact h_put_same _ _ _⟩⟩
    simp (config := {maxSteps := 2000000}) (disch := first | omega | (simp only [List.length_cons, List.length_nil, List.length_append, List.length_drop]; omega)) only [g3, gL, t3, y3, y3', z1, st2, st2r, ld2, eA, gAL, eB, gB, rv, gC3, gCL, eE, y_cyld, y_ready, y_set2, y_mid, y_busy, y_end, y_done, y_jn, y_je, Option.isNone_none, Option.isNone_some, ↓u_A_ops_Pushes_0, ↓u_B_ops_Pushes_0, ↓b_xor32, ↓b_and32, ↓b_or32, ↓u_not32, b_xor32, b_and32, b_or32, u_not32, w32ad, ↓x_conv, x_convV, ↓x_fieldAddr, x_fieldV, ↓s_nilchk, x_nilchk, Nat.zero_add, Nat.add_zero, Nat.mul_one, ↓s_evD, ↓s_dnil, ↓s_dL, ↓s_dLg, ↓s_dR, ↓s_dRg, ↓s_dRj, ↓s_dRjg, ↓s_dB, ↓s_dBg, ↓s_dAlloc, ↓s_bindD, s_bindD, s_finD, s_finDx, s_addP0, s_addP1, s_addB, s_lookP, ↓s_bump0, ↓s_bump_get, s_bump_next, s_ok0, ↓s_ok1, s_okR0, ↓s_okR1, ↓s_okE, s_okE, s_okE1, s_nth0, s_nthS, Nat.add_zero, Bool.and_self, Bool.and_true, Bool.true_and, ↓l_loop, ↓l_succ, ↓l_normal, l_normal, l_exit, l_ret, l_iteN, ↓h_put_get, ↓h_new_get, ↓h_del_get, h_next_put, h_next_new, h_next_del, Nat.add_assoc, Nat.add_eq_left, Nat.left_eq_add, Nat.add_left_cancel_iff, ↓s_load, m_load, ↓m_load1, m_load1, ↓m_st, m_stE, m_storeI, m_storeE, w_zero, w_succ, ↓s_alloc, ↓x_idxA, ↓x_idxS, x_idxAE, x_idxSE, x_addrE, x_idx, x_lenS, ↓s_len, ↓x_buildS, x_buildE, ↓x_P0, ↓x_P1, x_fill0, x_filli, x_fills, x_fillb, c_int, List.length_cons, List.length_nil, List.cons_append, List.drop_succ_cons, List.drop_zero, List.drop_nil, List.nil_append, Int.reduceAdd, Int.reduceToNat, Int.reduceLT, Int.reduceLE, Nat.reduceAdd, Nat.reduceMul, Nat.reduceLeDiff, Int.reduceEq, Int.reduceSub, Int.cast_ofNat_Int, s_resc, s_consR, m_load4, m_store4, s_res0, ↓s_skip, ↓s_ops, ↓s_dops, ↓s_seq, ↓s_cond, ↓s_block, ↓s_exit, ↓s_ret, ↓s_scope, ↓s_nil, ↓s_op, ↓s_opg, ↓s_wanted', ↓s_wantV, s_wantV, s_wantV0, beq_true, beq_false, ↓s_bindS, s_bindS, ↓s_bindE, s_bindE, s_bindE_ret, s_bindE_exit, s_bindE_iteN, s_norm, ↓s_condV, s_condV, s_block_ret, s_block_normal, s_block_exit, s_block_iteN, ↓s_getp, ↓s_getp0, ↓s_get, s_get0, ↓s_con, ↓s_fn, ↓s_os0, ↓s_os1, ↓s_list0, ↓s_list1, ↓s_mov, ↓s_pick, ↓s_pickE, s_pickE, ↓s_bin, ↓s_un, ↓s_minmax, ↓s_call, ↓s_callv, ↓s_callV, ↓s_ext, s_same, b_eql, b_neq, b_lss, b_leq, b_gtr, b_geq, b_add, b_sub, b_mul, b_eqlb, b_neqb, b_fnil, b_fnil', b_fnil2, b_fnil2', u_neg, u_not, m_two, s_end, s_end', s_end_iteN, s_res0, s_res1, s_tup1, s_tup2, ↓iteN_true, ↓iteN_false, iteN_true, iteN_false, Nat.zero_add, List.nil_append, List.append_nil, Nat.reduceEqDiff, reduceIte, decide_true, decide_false, Bool.not_true, Bool.not_false, List.getElem?_cons_zero, List.getElem?_cons_succ, Bool.false_eq_true, if_true, if_false, beq_self_eq_true]
structure PuI (hB : H) (L p3 lo D : Nat) (T0 : Tr V) (at_ : Nat) (h : H) : Prop where
  g3 : h.get p3 = some (.cells [.int .i64 (at_ : Int)] .rw)
  gL : h.get L = some (.loop 0 none 24 T0 [10, 11] A_ops_Pushes_0 B_ops_Pushes_0 D)
  nx : lo ≤ h.next
  fr : ∀ i, i < lo → i ≠ p3 → i ≠ L → h.get i = hB.get i
theorem PuI.kp {hB : H} {L p3 lo D : Nat} {T0 : Tr V} {at_ : Nat} {h h' : H} (s : PuI hB L p3 lo D T0 at_ h) (hp3 : p3 < lo) (hL : L < lo) (k : Kp h h') : PuI hB L p3 lo D T0 at_ h' := by
  obtain ⟨g3, gL, nx, fr⟩ := s
  have := k.1
  exact ⟨by rw [k.2 _ (by omega), g3], by rw [k.2 _ (by omega), gL], by omega, fun i h1 h2 h3 => by rw [k.2 _ (by omega), fr i h1 h2 h3]⟩
/-- the walk is over -/
structure PuE (hB : H) (L p3 lo D : Nat) (T0 : Tr V) (w : Nat) (h : H) : Prop where
  g3 : h.get p3 = some (.cells [.int .i64 (w : Int)] .rw)
  gL : h.get L = some (.loop 0 none 24 T0 [10, 11] A_ops_Pushes_0 B_ops_Pushes_0 D) ∨ h.get L = some (.loop 2 (some (.exit 0)) 24 T0 [10, 11] A_ops_Pushes_0 B_ops_Pushes_0 D)
  nx : lo ≤ h.next
  fr : ∀ i, i < lo → i ≠ p3 → i ≠ L → h.get i = hB.get i
theorem PuI.e {hB : H} {L p3 lo D : Nat} {T0 : Tr V} {w : Nat} {h : H} (s : PuI hB L p3 lo D T0 w h) : PuE hB L p3 lo D T0 w h := ⟨s.g3, .inl s.gL, s.nx, s.fr⟩
theorem walk2_go (e : EnOp E) (x : NoOp X) (ev : E k_ops_Value = some f_ops_Value) (xv : ∀ a h, X (.fn k_ops_Value) a h = none) (M : Nat) (hB : H) (L p3 ps lo D : Nat) (T0 : Tr V) (t3' : evO T0 (.t 3) = .ptr (some (p3, 0))) (hp3 : p3 < lo) (hL : L < lo) (hps : ps < lo) (zL3 : L ≠ p3) (s3 : ps ≠ p3) (sL : ps ≠ L)
    (s : List Nat) (bs : byt s = true) (hs : s.length ≤ 1000000) (a : Option (Nat × Nat)) (c : Option Nat) (ez : Nat) (hcn : s ≠ [] → c = none) (md : Md) (gs : hB.get ps = some (.cells [.slice a s.length c ez] md)) (src : ∀ h : H, lo ≤ h.next → (∀ i, i < lo → i ≠ p3 → i ≠ L → h.get i = hB.get i) → SrcH h a ez s) :
    ∀ (n g : Nat) (at_ : Nat) (T : Tr V) (h : H), s.length - at_ ≤ n → n < g → at_ ≤ s.length → evO T (.t 0) = .yld L → evO T (.t 1) = .ptr (some (ps, 0)) → evO T (.t 3) = .int .i64 (at_ : Int) → PuI hB L p3 lo D T0 at_ h →
    ∃ ex T' h', loopN (evC (callX E X (M + 10)) 31 (M + 10) none L_ops_operations_1_0) g ⟨T, [], h⟩ = some (ex, ⟨T', [], h'⟩) ∧ (ex = .exit 0 ∨ ex = .ret) ∧ PuE hB L p3 lo D T0 (at_ + psV n (s.drop at_)) h' ∧ h.next ≤ h'.next := by
  intro n
  induction n with
  | zero =>
    intro g at_ T h hn hg hat t0 t1 t3 I
    obtain ⟨g, rfl⟩ : ∃ k, g = k + 1 := ⟨g - 1, by omega⟩
    have c0 : decide ((at_ : Int) < (s.length : Int)) = false := decide_eq_false (by omega)
    have gs' : h.get ps = some (.cells [.slice a s.length c ez] md) := by rw [I.fr _ hps s3 sL, gs]
    rw [l_succ]
    obtain ⟨sl, esl⟩ : ∃ k, s.length = k := ⟨_, rfl⟩
    rw [esl] at gs' c0
    refine ⟨.exit 0, _, h, by
      simp (config := {maxSteps := 2000000}) (disch := first | omega | (simp only [List.length_cons, List.length_nil, List.length_append, List.length_drop]; omega)) only [L_ops_operations_1_0, t0, t1, t3, gs', c0, ↓s_len, x_lenS, ↓b_xor32, ↓b_and32, ↓b_or32, ↓u_not32, b_xor32, b_and32, b_or32, u_not32, w32ad, ↓x_conv, x_convV, ↓x_fieldAddr, x_fieldV, ↓s_nilchk, x_nilchk, Nat.zero_add, Nat.add_zero, Nat.mul_one, ↓l_loop, ↓l_succ, ↓l_normal, l_normal, l_exit, l_ret, l_iteN, ↓h_put_get, ↓h_new_get, ↓h_del_get, h_next_put, h_next_new, h_next_del, Nat.add_assoc, Nat.add_eq_left, Nat.left_eq_add, Nat.add_left_cancel_iff, ↓s_load, m_load, ↓m_load1, m_load1, ↓m_st, m_stE, m_storeI, m_storeE, w_zero, w_succ, ↓s_alloc, ↓x_idxA, ↓x_idxS, x_idxAE, x_idxSE, x_addrE, x_idx, x_lenS, ↓s_len, ↓x_buildS, x_buildE, ↓x_P0, ↓x_P1, x_fill0, x_filli, x_fills, x_fillb, c_int, List.length_cons, List.length_nil, List.cons_append, List.drop_succ_cons, List.drop_zero, List.drop_nil, List.nil_append, Int.reduceAdd, Int.reduceToNat, Int.reduceLT, Int.reduceLE, Nat.reduceAdd, Nat.reduceMul, Nat.reduceLeDiff, Int.reduceEq, Int.reduceSub, Int.cast_ofNat_Int, s_resc, s_consR, m_load4, m_store4, s_res0, ↓s_skip, ↓s_ops, ↓s_dops, ↓s_seq, ↓s_cond, ↓s_block, ↓s_exit, ↓s_ret, ↓s_scope, ↓s_nil, ↓s_op, ↓s_opg, ↓s_wanted', ↓s_wantV, s_wantV, s_wantV0, beq_true, beq_false, ↓s_bindS, s_bindS, ↓s_bindE, s_bindE, s_bindE_ret, s_bindE_exit, s_bindE_iteN, s_norm, ↓s_condV, s_condV, s_block_ret, s_block_normal, s_block_exit, s_block_iteN, ↓s_getp, ↓s_getp0, ↓s_get, s_get0, ↓s_con, ↓s_fn, ↓s_os0, ↓s_os1, ↓s_list0, ↓s_list1, ↓s_mov, ↓s_pick, ↓s_pickE, s_pickE, ↓s_bin, ↓s_un, ↓s_minmax, ↓s_call, ↓s_callv, ↓s_callV, ↓s_ext, s_same, b_eql, b_neq, b_lss, b_leq, b_gtr, b_geq, b_add, b_sub, b_mul, b_eqlb, b_neqb, b_fnil, b_fnil', b_fnil2, b_fnil2', u_neg, u_not, m_two, s_end, s_end', s_end_iteN, s_res0, s_res1, s_tup1, s_tup2, ↓iteN_true, ↓iteN_false, iteN_true, iteN_false, Nat.zero_add, List.nil_append, List.append_nil, Nat.reduceEqDiff, reduceIte, decide_true, decide_false, Bool.not_true, Bool.not_false, List.getElem?_cons_zero, List.getElem?_cons_succ, Bool.false_eq_true, if_true, if_false, beq_self_eq_true]
      exact rfl, .inl rfl, I.e, Nat.le_refl _⟩
  | succ n ih =>
    intro g at_ T h hn hg hat t0 t1 t3 I
    obtain ⟨g, rfl⟩ : ∃ k, g = k + 1 := ⟨g - 1, by omega⟩
    have gs' : h.get ps = some (.cells [.slice a s.length c ez] md) := by rw [I.fr _ hps s3 sL, gs]
    by_cases e0 : at_ = s.length
    · have c0 : decide ((at_ : Int) < (s.length : Int)) = false := decide_eq_false (by omega)
      rw [l_succ]
      have e1 : at_ + psV (n + 1) (s.drop at_) = at_ := by rw [e0, List.drop_length]; rfl
      rw [e1]
      obtain ⟨sl, esl⟩ : ∃ k, s.length = k := ⟨_, rfl⟩
      rw [esl] at gs' c0
      exact ⟨.exit 0, _, h, by
        simp (config := {maxSteps := 2000000}) (disch := first | omega | (simp only [List.length_cons, List.length_nil, List.length_append, List.length_drop]; omega)) only [L_ops_operations_1_0, t0, t1, t3, gs', c0, ↓s_len, x_lenS, ↓b_xor32, ↓b_and32, ↓b_or32, ↓u_not32, b_xor32, b_and32, b_or32, u_not32, w32ad, ↓x_conv, x_convV, ↓x_fieldAddr, x_fieldV, ↓s_nilchk, x_nilchk, Nat.zero_add, Nat.add_zero, Nat.mul_one, ↓l_loop, ↓l_succ, ↓l_normal, l_normal, l_exit, l_ret, l_iteN, ↓h_put_get, ↓h_new_get, ↓h_del_get, h_next_put, h_next_new, h_next_del, Nat.add_assoc, Nat.add_eq_left, Nat.left_eq_add, Nat.add_left_cancel_iff, ↓s_load, m_load, ↓m_load1, m_load1, ↓m_st, m_stE, m_storeI, m_storeE, w_zero, w_succ, ↓s_alloc, ↓x_idxA, ↓x_idxS, x_idxAE, x_idxSE, x_addrE, x_idx, x_lenS, ↓s_len, ↓x_buildS, x_buildE, ↓x_P0, ↓x_P1, x_fill0, x_filli, x_fills, x_fillb, c_int, List.length_cons, List.length_nil, List.cons_append, List.drop_succ_cons, List.drop_zero, List.drop_nil, List.nil_append, Int.reduceAdd, Int.reduceToNat, Int.reduceLT, Int.reduceLE, Nat.reduceAdd, Nat.reduceMul, Nat.reduceLeDiff, Int.reduceEq, Int.reduceSub, Int.cast_ofNat_Int, s_resc, s_consR, m_load4, m_store4, s_res0, ↓s_skip, ↓s_ops, ↓s_dops, ↓s_seq, ↓s_cond, ↓s_block, ↓s_exit, ↓s_ret, ↓s_scope, ↓s_nil, ↓s_op, ↓s_opg, ↓s_wanted', ↓s_wantV, s_wantV, s_wantV0, beq_true, beq_false, ↓s_bindS, s_bindS, ↓s_bindE, s_bindE, s_bindE_ret, s_bindE_exit, s_bindE_iteN, s_norm, ↓s_condV, s_condV, s_block_ret, s_block_normal, s_block_exit, s_block_iteN, ↓s_getp, ↓s_getp0, ↓s_get, s_get0, ↓s_con, ↓s_fn, ↓s_os0, ↓s_os1, ↓s_list0, ↓s_list1, ↓s_mov, ↓s_pick, ↓s_pickE, s_pickE, ↓s_bin, ↓s_un, ↓s_minmax, ↓s_call, ↓s_callv, ↓s_callV, ↓s_ext, s_same, b_eql, b_neq, b_lss, b_leq, b_gtr, b_geq, b_add, b_sub, b_mul, b_eqlb, b_neqb, b_fnil, b_fnil', b_fnil2, b_fnil2', u_neg, u_not, m_two, s_end, s_end', s_end_iteN, s_res0, s_res1, s_tup1, s_tup2, ↓iteN_true, ↓iteN_false, iteN_true, iteN_false, Nat.zero_add, List.nil_append, List.append_nil, Nat.reduceEqDiff, reduceIte, decide_true, decide_false, Bool.not_true, Bool.not_false, List.getElem?_cons_zero, List.getElem?_cons_succ, Bool.false_eq_true, if_true, if_false, beq_self_eq_true]
        exact rfl, .inl rfl, I.e, Nat.le_refl _⟩
    · have c0 : decide ((at_ : Int) < (s.length : Int)) = true := decide_eq_true (by omega)
      have hne : s ≠ [] := fun h => by rw [h] at e0 hat; simp at e0 hat; omega
      obtain rfl := hcn hne
      have sr := src h I.nx I.fr
      obtain rfl : ez = 1 := by
        rcases sr with s | ⟨_, _, _, _, _, f2, _⟩
        · exact absurd s hne
        · exact f2
      have sv : slcV 1 (some (.int .i64 (at_ : Int))) none none (.slice a s.length none 1) = some (.slice (upA a at_) (s.length - at_) none 1) := slcV_loA _ _ _ _ hat
      have hd : s.drop at_ ≠ [] := fun h => by have := congrArg List.length h; rw [List.length_drop] at this; simp at this; omega
      have bd : byt (s.drop at_) = true := byt_drop bs _
      obtain ⟨h1, k1, fr⟩ := first_go e x M (s.drop at_) bd hd (by rw [List.length_drop]; omega) (upA a at_) h (sr.drop at_)
      rw [List.length_drop] at fr
      have I1 := I.kp hp3 hL k1
      have gs1 : h1.get ps = some (.cells [.slice a s.length none 1] md) := by rw [I1.fr _ hps s3 sL, gs]
      rw [ps_succ]
      cases hf : fstV (s.drop at_) with
      | none =>
        rw [hf] at fr
        replace fr : callX E X (M + 10) (.fn k_ops_first) [.slice (upA a at_) (s.length - at_) none 1] h = some (.tup [.agg [.int .u8 0, .slice none 0 (some 0) 0], .int .i64 0, .bool false], h1) := fr
        have wz : wr .i64 ((at_ : Int) + 0) = (at_ : Int) := by rw [wr_i64 (by omega)]; omega
        rw [l_succ]
        obtain ⟨sd, esd⟩ : ∃ k, s.length - at_ = k := ⟨_, rfl⟩
        rw [esd] at sv fr
        obtain ⟨sl, esl⟩ : ∃ k, s.length = k := ⟨_, rfl⟩
        rw [esl] at gs' gs1 c0 sv
        refine ⟨.ret, _, _, by
          simp (config := {maxSteps := 2000000}) (disch := first | omega | (simp only [List.length_cons, List.length_nil, List.length_append, List.length_drop]; omega)) only [L_ops_operations_1_0, t0, t1, t3, gs', gs1, sv, fr, wz, c0, st2, st2r, ld2, ↓x_slcS, x_M1, x_M0, ↓s_len, x_lenS, ↓b_xor32, ↓b_and32, ↓b_or32, ↓u_not32, b_xor32, b_and32, b_or32, u_not32, w32ad, ↓x_conv, x_convV, ↓x_fieldAddr, x_fieldV, ↓s_nilchk, x_nilchk, Nat.zero_add, Nat.add_zero, Nat.mul_one, ↓s_evD, ↓s_dnil, ↓s_dL, ↓s_dLg, ↓s_dR, ↓s_dRg, ↓s_dRj, ↓s_dRjg, ↓s_dB, ↓s_dBg, ↓s_dAlloc, ↓s_bindD, s_bindD, s_finD, s_finDx, s_addP0, s_addP1, s_addB, s_lookP, ↓s_bump0, ↓s_bump_get, s_bump_next, s_ok0, ↓s_ok1, s_okR0, ↓s_okR1, ↓s_okE, s_okE, s_okE1, s_nth0, s_nthS, Nat.add_zero, Bool.and_self, Bool.and_true, Bool.true_and, ↓l_loop, ↓l_succ, ↓l_normal, l_normal, l_exit, l_ret, l_iteN, ↓h_put_get, ↓h_new_get, ↓h_del_get, h_next_put, h_next_new, h_next_del, Nat.add_assoc, Nat.add_eq_left, Nat.left_eq_add, Nat.add_left_cancel_iff, ↓s_load, m_load, ↓m_load1, m_load1, ↓m_st, m_stE, m_storeI, m_storeE, w_zero, w_succ, ↓s_alloc, ↓x_idxA, ↓x_idxS, x_idxAE, x_idxSE, x_addrE, x_idx, x_lenS, ↓s_len, ↓x_buildS, x_buildE, ↓x_P0, ↓x_P1, x_fill0, x_filli, x_fills, x_fillb, c_int, List.length_cons, List.length_nil, List.cons_append, List.drop_succ_cons, List.drop_zero, List.drop_nil, List.nil_append, Int.reduceAdd, Int.reduceToNat, Int.reduceLT, Int.reduceLE, Nat.reduceAdd, Nat.reduceMul, Nat.reduceLeDiff, Int.reduceEq, Int.reduceSub, Int.cast_ofNat_Int, s_resc, s_consR, m_load4, m_store4, s_res0, ↓s_skip, ↓s_ops, ↓s_dops, ↓s_seq, ↓s_cond, ↓s_block, ↓s_exit, ↓s_ret, ↓s_scope, ↓s_nil, ↓s_op, ↓s_opg, ↓s_wanted', ↓s_wantV, s_wantV, s_wantV0, beq_true, beq_false, ↓s_bindS, s_bindS, ↓s_bindE, s_bindE, s_bindE_ret, s_bindE_exit, s_bindE_iteN, s_norm, ↓s_condV, s_condV, s_block_ret, s_block_normal, s_block_exit, s_block_iteN, ↓s_getp, ↓s_getp0, ↓s_get, s_get0, ↓s_con, ↓s_fn, ↓s_os0, ↓s_os1, ↓s_list0, ↓s_list1, ↓s_mov, ↓s_pick, ↓s_pickE, s_pickE, ↓s_bin, ↓s_un, ↓s_minmax, ↓s_call, ↓s_callv, ↓s_callV, ↓s_ext, s_same, b_eql, b_neq, b_lss, b_leq, b_gtr, b_geq, b_add, b_sub, b_mul, b_eqlb, b_neqb, b_fnil, b_fnil', b_fnil2, b_fnil2', u_neg, u_not, m_two, s_end, s_end', s_end_iteN, s_res0, s_res1, s_tup1, s_tup2, ↓iteN_true, ↓iteN_false, iteN_true, iteN_false, Nat.zero_add, List.nil_append, List.append_nil, Nat.reduceEqDiff, reduceIte, decide_true, decide_false, Bool.not_true, Bool.not_false, List.getElem?_cons_zero, List.getElem?_cons_succ, Bool.false_eq_true, if_true, if_false, beq_self_eq_true]
          exact rfl, .inr rfl, ?_, ?_⟩
        · simp only
          rw [Nat.add_zero]
          exact (I1.kp hp3 hL (by (repeat (first | exact Kp.refl _ | refine Kp.put ?_ _ (by first | omega | (simp only [h_next_put, h_next_new, h_next_del]; omega)) | refine Kp.del ?_ (by first | omega | (simp only [h_next_put, h_next_new, h_next_del]; omega)) | refine Kp.trans ?_ (Kp.new _ _))))).e
        · have := k1.1; simp only [h_next_put, h_next_new]; omega
      | some z =>
        obtain ⟨o, k⟩ := z
        rw [hf] at fr
        obtain ⟨a2, c2, e2, r1, s2, ge2⟩ := fr
        obtain ⟨f1, f2, f3, f4, f5, f6⟩ := fst_of _ bd o k hf
        rw [List.length_drop] at f3
        have wk : wr .i64 ((at_ : Int) + (k : Int)) = ((at_ + k : Nat) : Int) := by rw [wr_i64 (by omega)]; omega
        obtain ⟨h2, eh2⟩ : ∃ h2, (h1.new (.cells [.int .u8 0, .slice none 0 (some 0) 0] .rw)).put h1.next (.cells [.int .u8 (o.code : Int), .slice a2 o.l.length c2 e2] .rw) = h2 := ⟨_, rfl⟩
        have k2 : Kp h1 h2 := by rw [← eh2]; (repeat (first | exact Kp.refl _ | refine Kp.put ?_ _ (by first | omega | (simp only [h_next_put, h_next_new, h_next_del]; omega)) | refine Kp.del ?_ (by first | omega | (simp only [h_next_put, h_next_new, h_next_del]; omega)) | refine Kp.trans ?_ (Kp.new _ _)))
        have g2 : h2.get h1.next = some (.cells [.int .u8 (o.code : Int), .slice a2 o.l.length c2 e2] .rw) := by rw [← eh2]; exact h_put_same _ _ _
        have I2 := I1.kp hp3 hL k2
        obtain ⟨h3, yn, yfr, yt, yf⟩ := py2_go e x ev xv (M + 7) L p3 D lo T0 t3' hp3 hL zL3 h2 I2.nx (at_ : Int) I2.g3 I2.gL o f5 (by omega) a2 c2 e2 (s2.mono k2) (fun _ q z eq => by have := ge2 q z eq; have := I.nx; omega) (at_ + k)
        have hnx : h.next ≤ h3.next := by have := k1.1; have := k2.1; omega
        have nx3 : lo ≤ h3.next := by have := I.nx; omega
        have fr3 : ∀ i, i < lo → i ≠ p3 → i ≠ L → h3.get i = hB.get i := fun i h1 h2 h3 => by rw [yfr i h1 h2 h3, I2.fr i h1 h2 h3]
        simp only
        cases hv : (valV o).isSome with
        | true =>
          obtain ⟨yr, y3, yL⟩ := yt hv
          have I3 : PuI hB L p3 lo D T0 (at_ + k) h3 := ⟨y3, yL, nx3, fr3⟩
          obtain ⟨T1, eT, u0, u1, u3⟩ : ∃ T1, evC (callX E X (M + 10)) 31 (M + 10) none L_ops_operations_1_0 ⟨T, [], h⟩ = some (.normal, ⟨T1, [], h3⟩) ∧ evO T1 (.t 0) = .yld L ∧ evO T1 (.t 1) = .ptr (some (ps, 0)) ∧ evO T1 (.t 3) = .int .i64 ((at_ + k : Nat) : Int) := by
            obtain ⟨sd, esd⟩ : ∃ k, s.length - at_ = k := ⟨_, rfl⟩
            rw [esd] at sv r1
            obtain ⟨sl, esl⟩ : ∃ k, s.length = k := ⟨_, rfl⟩
            rw [esl] at gs' gs1 c0 sv
            obtain ⟨ak, eak⟩ : ∃ q, at_ + k = q := ⟨_, rfl⟩
            rw [eak] at wk yr ⊢
            refine ⟨_, by
              simp (config := {maxSteps := 2000000}) (disch := first | omega | (simp only [List.length_cons, List.length_nil, List.length_append, List.length_drop]; omega)) only [L_ops_operations_1_0, t0, t1, t3, gs', sv, r1, wk, c0, eh2, g2, yr, st2, st2r, ld2, s_callVy, ↓x_slcS, x_M1, x_M0, ↓s_len, x_lenS, ↓b_xor32, ↓b_and32, ↓b_or32, ↓u_not32, b_xor32, b_and32, b_or32, u_not32, w32ad, ↓x_conv, x_convV, ↓x_fieldAddr, x_fieldV, ↓s_nilchk, x_nilchk, Nat.zero_add, Nat.add_zero, Nat.mul_one, ↓s_evD, ↓s_dnil, ↓s_dL, ↓s_dLg, ↓s_dR, ↓s_dRg, ↓s_dRj, ↓s_dRjg, ↓s_dB, ↓s_dBg, ↓s_dAlloc, ↓s_bindD, s_bindD, s_finD, s_finDx, s_addP0, s_addP1, s_addB, s_lookP, ↓s_bump0, ↓s_bump_get, s_bump_next, s_ok0, ↓s_ok1, s_okR0, ↓s_okR1, ↓s_okE, s_okE, s_okE1, s_nth0, s_nthS, Nat.add_zero, Bool.and_self, Bool.and_true, Bool.true_and, ↓l_loop, ↓l_succ, ↓l_normal, l_normal, l_exit, l_ret, l_iteN, ↓h_put_get, ↓h_new_get, ↓h_del_get, h_next_put, h_next_new, h_next_del, Nat.add_assoc, Nat.add_eq_left, Nat.left_eq_add, Nat.add_left_cancel_iff, ↓s_load, m_load, ↓m_load1, m_load1, ↓m_st, m_stE, m_storeI, m_storeE, w_zero, w_succ, ↓s_alloc, ↓x_idxA, ↓x_idxS, x_idxAE, x_idxSE, x_addrE, x_idx, x_lenS, ↓s_len, ↓x_buildS, x_buildE, ↓x_P0, ↓x_P1, x_fill0, x_filli, x_fills, x_fillb, c_int, List.length_cons, List.length_nil, List.cons_append, List.drop_succ_cons, List.drop_zero, List.drop_nil, List.nil_append, Int.reduceAdd, Int.reduceToNat, Int.reduceLT, Int.reduceLE, Nat.reduceAdd, Nat.reduceMul, Nat.reduceLeDiff, Int.reduceEq, Int.reduceSub, Int.cast_ofNat_Int, s_resc, s_consR, m_load4, m_store4, s_res0, ↓s_skip, ↓s_ops, ↓s_dops, ↓s_seq, ↓s_cond, ↓s_block, ↓s_exit, ↓s_ret, ↓s_scope, ↓s_nil, ↓s_op, ↓s_opg, ↓s_wanted', ↓s_wantV, s_wantV, s_wantV0, beq_true, beq_false, ↓s_bindS, s_bindS, ↓s_bindE, s_bindE, s_bindE_ret, s_bindE_exit, s_bindE_iteN, s_norm, ↓s_condV, s_condV, s_block_ret, s_block_normal, s_block_exit, s_block_iteN, ↓s_getp, ↓s_getp0, ↓s_get, s_get0, ↓s_con, ↓s_fn, ↓s_os0, ↓s_os1, ↓s_list0, ↓s_list1, ↓s_mov, ↓s_pick, ↓s_pickE, s_pickE, ↓s_bin, ↓s_un, ↓s_minmax, ↓s_call, ↓s_callv, ↓s_callV, ↓s_ext, s_same, b_eql, b_neq, b_lss, b_leq, b_gtr, b_geq, b_add, b_sub, b_mul, b_eqlb, b_neqb, b_fnil, b_fnil', b_fnil2, b_fnil2', u_neg, u_not, m_two, s_end, s_end', s_end_iteN, s_res0, s_res1, s_tup1, s_tup2, ↓iteN_true, ↓iteN_false, iteN_true, iteN_false, Nat.zero_add, List.nil_append, List.append_nil, Nat.reduceEqDiff, reduceIte, decide_true, decide_false, Bool.not_true, Bool.not_false, List.getElem?_cons_zero, List.getElem?_cons_succ, Bool.false_eq_true, if_true, if_false, beq_self_eq_true]
              exact rfl, (by (simp only [s_getp, s_getp0, Nat.reduceEqDiff, decide_false, decide_true, iteN_false, iteN_true, t0]; try rfl)), (by (simp only [s_getp, s_getp0, Nat.reduceEqDiff, decide_false, decide_true, iteN_false, iteN_true, t1]; try rfl)), (by (simp only [s_getp, s_getp0, Nat.reduceEqDiff, decide_false, decide_true, iteN_false, iteN_true, t3]; try rfl))⟩
          obtain ⟨ex, T', h', r, q1, q2, q3⟩ := ih g (at_ + k) T1 h3 (by omega) (by omega) (by omega) u0 u1 u3 I3
          refine ⟨ex, T', h', by rw [l_succ, eT, l_normal]; exact r, q1, ?_, by omega⟩
          rw [if_pos rfl, List.drop_drop]
          rw [Nat.add_assoc] at q2
          exact q2
        | false =>
          obtain ⟨yr, y3, yL⟩ := yf hv
          rw [if_neg (by simp), Nat.add_zero]
          rw [l_succ]
          obtain ⟨sd, esd⟩ : ∃ k, s.length - at_ = k := ⟨_, rfl⟩
          rw [esd] at sv r1
          obtain ⟨sl, esl⟩ : ∃ k, s.length = k := ⟨_, rfl⟩
          rw [esl] at gs' gs1 c0 sv
          exact ⟨.ret, _, h3, by
            simp (config := {maxSteps := 2000000}) (disch := first | omega | (simp only [List.length_cons, List.length_nil, List.length_append, List.length_drop]; omega)) only [L_ops_operations_1_0, t0, t1, t3, gs', sv, r1, wk, c0, eh2, g2, yr, st2, st2r, ld2, s_callVy, ↓x_slcS, x_M1, x_M0, ↓s_len, x_lenS, ↓b_xor32, ↓b_and32, ↓b_or32, ↓u_not32, b_xor32, b_and32, b_or32, u_not32, w32ad, ↓x_conv, x_convV, ↓x_fieldAddr, x_fieldV, ↓s_nilchk, x_nilchk, Nat.zero_add, Nat.add_zero, Nat.mul_one, ↓s_evD, ↓s_dnil, ↓s_dL, ↓s_dLg, ↓s_dR, ↓s_dRg, ↓s_dRj, ↓s_dRjg, ↓s_dB, ↓s_dBg, ↓s_dAlloc, ↓s_bindD, s_bindD, s_finD, s_finDx, s_addP0, s_addP1, s_addB, s_lookP, ↓s_bump0, ↓s_bump_get, s_bump_next, s_ok0, ↓s_ok1, s_okR0, ↓s_okR1, ↓s_okE, s_okE, s_okE1, s_nth0, s_nthS, Nat.add_zero, Bool.and_self, Bool.and_true, Bool.true_and, ↓l_loop, ↓l_succ, ↓l_normal, l_normal, l_exit, l_ret, l_iteN, ↓h_put_get, ↓h_new_get, ↓h_del_get, h_next_put, h_next_new, h_next_del, Nat.add_assoc, Nat.add_eq_left, Nat.left_eq_add, Nat.add_left_cancel_iff, ↓s_load, m_load, ↓m_load1, m_load1, ↓m_st, m_stE, m_storeI, m_storeE, w_zero, w_succ, ↓s_alloc, ↓x_idxA, ↓x_idxS, x_idxAE, x_idxSE, x_addrE, x_idx, x_lenS, ↓s_len, ↓x_buildS, x_buildE, ↓x_P0, ↓x_P1, x_fill0, x_filli, x_fills, x_fillb, c_int, List.length_cons, List.length_nil, List.cons_append, List.drop_succ_cons, List.drop_zero, List.drop_nil, List.nil_append, Int.reduceAdd, Int.reduceToNat, Int.reduceLT, Int.reduceLE, Nat.reduceAdd, Nat.reduceMul, Nat.reduceLeDiff, Int.reduceEq, Int.reduceSub, Int.cast_ofNat_Int, s_resc, s_consR, m_load4, m_store4, s_res0, ↓s_skip, ↓s_ops, ↓s_dops, ↓s_seq, ↓s_cond, ↓s_block, ↓s_exit, ↓s_ret, ↓s_scope, ↓s_nil, ↓s_op, ↓s_opg, ↓s_wanted', ↓s_wantV, s_wantV, s_wantV0, beq_true, beq_false, ↓s_bindS, s_bindS, ↓s_bindE, s_bindE, s_bindE_ret, s_bindE_exit, s_bindE_iteN, s_norm, ↓s_condV, s_condV, s_block_ret, s_block_normal, s_block_exit, s_block_iteN, ↓s_getp, ↓s_getp0, ↓s_get, s_get0, ↓s_con, ↓s_fn, ↓s_os0, ↓s_os1, ↓s_list0, ↓s_list1, ↓s_mov, ↓s_pick, ↓s_pickE, s_pickE, ↓s_bin, ↓s_un, ↓s_minmax, ↓s_call, ↓s_callv, ↓s_callV, ↓s_ext, s_same, b_eql, b_neq, b_lss, b_leq, b_gtr, b_geq, b_add, b_sub, b_mul, b_eqlb, b_neqb, b_fnil, b_fnil', b_fnil2, b_fnil2', u_neg, u_not, m_two, s_end, s_end', s_end_iteN, s_res0, s_res1, s_tup1, s_tup2, ↓iteN_true, ↓iteN_false, iteN_true, iteN_false, Nat.zero_add, List.nil_append, List.append_nil, Nat.reduceEqDiff, reduceIte, decide_true, decide_false, Bool.not_true, Bool.not_false, List.getElem?_cons_zero, List.getElem?_cons_succ, Bool.false_eq_true, if_true, if_false, beq_self_eq_true]
            exact rfl, .inr rfl, ⟨y3, .inr yL, nx3, fr3⟩, hnx⟩
theorem pushes_go (e : EnOp E) (x : NoOp X) (ev : E k_ops_Value = some f_ops_Value) (xv : ∀ a h, X (.fn k_ops_Value) a h = none) (ep : E k_ops_Pushes = some f_ops_Pushes) (xp : ∀ a h, X (.fn k_ops_Pushes) a h = none) (M : Nat) (s : List Nat) (bs : byt s = true) (hs : s.length ≤ 1000000) (hM : s.length < M) (a : Option (Nat × Nat)) (c : Option Nat) (ez : Nat) (hcn : s ≠ [] → c = none) (h : H) (src : SrcH h a ez s) :
    ∃ h', callX E X (M + 13) (.fn k_ops_Pushes) [.slice a s.length c ez] h = some (.bool (decide (psV s.length s = s.length)), h') ∧ Kp h h' := by
  rw [x_cfn ep _ _ (Nat.le_of_ble_eq_true rfl) (xp _ _)]
  have hg := fun h => ops_go e x (M + 11) a s.length c ez h
  obtain ⟨hA, eA⟩ : ∃ hA, ((h.new (.cells [.int .i64 0] .rw)).put h.next (.cells [.int .i64 0] .rw)).new (.cells [.slice a s.length c ez] .rw) = hA := ⟨_, rfl⟩
  have nA : hA.next = h.next + 2 := by rw [← eA]; rfl
  have gA1 : hA.get h.next = some (.cells [.int .i64 0] .rw) := by rw [← eA]; (simp (disch := omega) only [l_loop, l_succ, l_normal, l_normal, l_exit, l_ret, l_iteN, h_put_get, h_new_get, h_del_get, h_next_put, h_next_new, h_next_del, Nat.add_assoc, Nat.add_eq_left, Nat.left_eq_add, Nat.add_left_cancel_iff, s_load, m_load, m_load1, m_load1, m_st, m_stE, m_storeI, m_storeE, w_zero, w_succ, s_alloc, x_idxA, x_idxS, x_idxAE, x_idxSE, x_addrE, x_idx, x_lenS, s_len, x_buildS, x_buildE, x_P0, x_P1, x_fill0, x_filli, x_fills, x_fillb, c_int, List.length_cons, List.length_nil, List.cons_append, List.drop_succ_cons, List.drop_zero, List.drop_nil, List.nil_append, Int.reduceAdd, Int.reduceToNat, Int.reduceLT, Int.reduceLE, Nat.reduceAdd, Nat.reduceMul, Nat.reduceLeDiff, Int.reduceEq, Int.reduceSub, Int.cast_ofNat_Int, s_resc, s_consR, m_load4, m_store4, s_res0, decide_true, decide_false, iteN_true, iteN_false, Nat.reduceEqDiff, Nat.reduceAdd, reduceCtorEq, ]; try rfl)
  have gA2 : hA.get (h.next + 1) = some (.cells [.slice a s.length c ez] .rw) := by rw [← eA]; (simp (disch := omega) only [l_loop, l_succ, l_normal, l_normal, l_exit, l_ret, l_iteN, h_put_get, h_new_get, h_del_get, h_next_put, h_next_new, h_next_del, Nat.add_assoc, Nat.add_eq_left, Nat.left_eq_add, Nat.add_left_cancel_iff, s_load, m_load, m_load1, m_load1, m_st, m_stE, m_storeI, m_storeE, w_zero, w_succ, s_alloc, x_idxA, x_idxS, x_idxAE, x_idxSE, x_addrE, x_idx, x_lenS, s_len, x_buildS, x_buildE, x_P0, x_P1, x_fill0, x_filli, x_fills, x_fillb, c_int, List.length_cons, List.length_nil, List.cons_append, List.drop_succ_cons, List.drop_zero, List.drop_nil, List.nil_append, Int.reduceAdd, Int.reduceToNat, Int.reduceLT, Int.reduceLE, Nat.reduceAdd, Nat.reduceMul, Nat.reduceLeDiff, Int.reduceEq, Int.reduceSub, Int.cast_ofNat_Int, s_resc, s_consR, m_load4, m_store4, s_res0, decide_true, decide_false, iteN_true, iteN_false, Nat.reduceEqDiff, Nat.reduceAdd, reduceCtorEq, ]; try rfl)
  have kA : Kp h hA := by rw [← eA]; (repeat (first | exact Kp.refl _ | refine Kp.put ?_ _ (by first | omega | (simp only [h_next_put, h_next_new, h_next_del]; omega)) | refine Kp.del ?_ (by first | omega | (simp only [h_next_put, h_next_new, h_next_del]; omega)) | refine Kp.trans ?_ (Kp.new _ _)))
  have fin : ∀ T0, evO T0 (.t 0) = .slice a s.length c ez → evO T0 (.t 3) = .ptr (some (h.next, 0)) → ∃ h', fnEnd [.tmp 2] (bindE (blockE 0 (rangeEnd (h.next + 3) T0 [h.next + 2] (callF (callX E X (M + 12)) (.yld (h.next + 3)) (.fn k_ops_operations_1 [] [.ptr (some (h.next + 1, 0))]) ((hA.new .defers).new (.loop 0 none 24 T0 [10, 11] A_ops_Pushes_0 B_ops_Pushes_0 (h.next + 2)))))) (evC (callX E X (M + 12)) 24 (M + 12) none R_ops_Pushes_0)) = some (.bool (decide (psV s.length s = s.length)), h') ∧ Kp h h' := by
    intro T0 t0 t3
    obtain ⟨hB, eB⟩ : ∃ hB, (hA.new .defers).new (.loop 0 none 24 T0 [10, 11] A_ops_Pushes_0 B_ops_Pushes_0 (h.next + 2)) = hB := ⟨_, rfl⟩
    have nB : hB.next = h.next + 4 := by rw [← eB]; simp only [h_next_new, nA]
    have kB : Kp hA hB := by rw [← eB]; exact (Kp.new _ _).trans (Kp.new _ _)
    have gB3 : hB.get (h.next + 2) = some .defers := by rw [← eB, h_new_ne _ _ (by rw [h_next_new, nA]; omega)]; exact h_new_same' _ _ nA
    have gB4 : hB.get (h.next + 3) = some (.loop 0 none 24 T0 [10, 11] A_ops_Pushes_0 B_ops_Pushes_0 (h.next + 2)) := by rw [← eB]; exact h_new_same' _ _ (by rw [h_next_new, nA])
    have gB1 : hB.get h.next = some (.cells [.int .i64 0] .rw) := by rw [kB.2 _ (by omega), gA1]
    have gB2 : hB.get (h.next + 1) = some (.cells [.slice a s.length c ez] .rw) := by rw [kB.2 _ (by omega), gA2]
    have sb : ∀ h2 : H, h.next + 4 ≤ h2.next → (∀ i, i < h.next + 4 → i ≠ h.next → i ≠ h.next + 3 → h2.get i = hB.get i) → SrcH h2 a ez s := fun h2 n2 f2 => by
      rcases src with s0 | ⟨bi, off, vs, m, h1, h2', h3, h4, h5, h6⟩
      · exact .inl s0
      · exact .inr ⟨bi, off, vs, m, h1, h2', by omega, by rw [f2 _ (by omega) (by omega) (by omega), kB.2 _ (by omega), kA.2 _ h3, h4], h5, h6⟩
    obtain ⟨hC, r, I, nC⟩ : ∃ h', callX E X (M + 12) (.fn k_ops_operations_1) [.yld (h.next + 3), .ptr (some (h.next + 1, 0))] hB = some (.tup [], h') ∧ PuE hB (h.next + 3) h.next (h.next + 4) (h.next + 2) T0 (psV s.length s) h' ∧ hB.next ≤ h'.next := by
      rw [x_cfn e.op1 _ _ (Nat.le_of_ble_eq_true rfl) (x.op1 _ _)]
      have fin2 : ∀ T, evO T (.t 0) = .yld (h.next + 3) → evO T (.t 1) = .ptr (some (h.next + 1, 0)) → evO T (.t 3) = .int .i64 0 → ∃ h', fnEnd [] (blockE 0 (loopN (evC (callX E X (M + 11)) 31 (M + 11) none L_ops_operations_1_0) (M + 11) ⟨T, [], hB⟩)) = some (.tup [], h') ∧ PuE hB (h.next + 3) h.next (h.next + 4) (h.next + 2) T0 (psV s.length s) h' ∧ hB.next ≤ h'.next := by
        intro T u0 u1 u3
        obtain ⟨ex, T', h', r, q1, q2, q3⟩ := walk2_go e x ev xv (M + 1) hB (h.next + 3) h.next (h.next + 1) (h.next + 4) (h.next + 2) T0 t3 (by omega) (by omega) (by omega) (by omega) (by omega) (by omega) s bs hs a c ez hcn .rw gB2 sb s.length (M + 11) 0 T hB (by omega) (by omega) (by omega) u0 u1 u3 ⟨gB1, gB4, by omega, fun _ _ _ _ => rfl⟩
        rw [List.drop_zero, Nat.zero_add] at q2
        refine ⟨h', ?_, q2, q3⟩
        rw [r]
        rcases q1 with rfl | rfl
        · rfl
        · rfl
      obtain ⟨Lo, eL⟩ : ∃ R, L_ops_operations_1_0 = R := ⟨_, rfl⟩
      rw [eL] at fin2 ⊢
      simp (config := {maxSteps := 2000000}) (disch := first | omega | (simp only [List.length_cons, List.length_nil, List.length_append, List.length_drop]; omega)) only [↓b_xor32, ↓b_and32, ↓b_or32, ↓u_not32, b_xor32, b_and32, b_or32, u_not32, w32ad, ↓x_conv, x_convV, ↓x_fieldAddr, x_fieldV, ↓s_nilchk, x_nilchk, Nat.zero_add, Nat.add_zero, Nat.mul_one, ↓l_loop, ↓l_succ, ↓l_normal, l_normal, l_exit, l_ret, l_iteN, ↓h_put_get, ↓h_new_get, ↓h_del_get, h_next_put, h_next_new, h_next_del, Nat.add_assoc, Nat.add_eq_left, Nat.left_eq_add, Nat.add_left_cancel_iff, ↓s_load, m_load, ↓m_load1, m_load1, ↓m_st, m_stE, m_storeI, m_storeE, w_zero, w_succ, ↓s_alloc, ↓x_idxA, ↓x_idxS, x_idxAE, x_idxSE, x_addrE, x_idx, x_lenS, ↓s_len, ↓x_buildS, x_buildE, ↓x_P0, ↓x_P1, x_fill0, x_filli, x_fills, x_fillb, c_int, List.length_cons, List.length_nil, List.cons_append, List.drop_succ_cons, List.drop_zero, List.drop_nil, List.nil_append, Int.reduceAdd, Int.reduceToNat, Int.reduceLT, Int.reduceLE, Nat.reduceAdd, Nat.reduceMul, Nat.reduceLeDiff, Int.reduceEq, Int.reduceSub, Int.cast_ofNat_Int, s_resc, s_consR, m_load4, m_store4, s_res0, ↓s_skip, ↓s_ops, ↓s_dops, ↓s_seq, ↓s_cond, ↓s_block, ↓s_exit, ↓s_ret, ↓s_scope, ↓s_nil, ↓s_op, ↓s_opg, ↓s_wanted', ↓s_wantV, s_wantV, s_wantV0, beq_true, beq_false, ↓s_bindS, s_bindS, ↓s_bindE, s_bindE, s_bindE_ret, s_bindE_exit, s_bindE_iteN, s_norm, ↓s_condV, s_condV, s_block_ret, s_block_normal, s_block_exit, s_block_iteN, ↓s_getp, ↓s_getp0, ↓s_get, s_get0, ↓s_con, ↓s_fn, ↓s_os0, ↓s_os1, ↓s_list0, ↓s_list1, ↓s_mov, ↓s_pick, ↓s_pickE, s_pickE, ↓s_bin, ↓s_un, ↓s_minmax, ↓s_call, ↓s_callv, ↓s_callV, ↓s_ext, s_same, b_eql, b_neq, b_lss, b_leq, b_gtr, b_geq, b_add, b_sub, b_mul, b_eqlb, b_neqb, b_fnil, b_fnil', b_fnil2, b_fnil2', u_neg, u_not, m_two, s_end, s_end', s_end_iteN, s_res0, s_res1, s_tup1, s_tup2, ↓iteN_true, ↓iteN_false, iteN_true, iteN_false, Nat.zero_add, List.nil_append, List.append_nil, Nat.reduceEqDiff, reduceIte, decide_true, decide_false, Bool.not_true, Bool.not_false, List.getElem?_cons_zero, List.getElem?_cons_succ, Bool.false_eq_true, if_true, if_false, beq_self_eq_true]
      exact fin2 _ (by (simp only [s_getp, s_getp0, Nat.reduceEqDiff, decide_false, decide_true, iteN_false, iteN_true, eL]; try rfl)) (by (simp only [s_getp, s_getp0, Nat.reduceEqDiff, decide_false, decide_true, iteN_false, iteN_true, eL]; try rfl)) (by (simp only [s_getp, s_getp0, Nat.reduceEqDiff, decide_false, decide_true, iteN_false, iteN_true, eL]; try rfl))
    obtain ⟨gC1, gC4, _, fr⟩ := I
    have gC3 : hC.get (h.next + 2) = some .defers := by rw [fr _ (by omega) (by omega) (by omega), gB3]
    have z2 : (h.next + 3 = h.next + 2) = False := by simp
    have z2' : (h.next + 2 = h.next + 3) = False := by simp
    have z3 : (h.next + 3 = h.next) = False := by simp
    have z4 : (h.next + 2 = h.next) = False := by simp
    rw [eB]
    obtain ⟨hD, eD⟩ : ∃ hD, (hC.del (h.next + 3)).del (h.next + 2) = hD := ⟨_, rfl⟩
    have nD : hD.next = hC.next := by rw [← eD]; rfl
    have kD : Kp h hD := ⟨by omega, fun i hi => by rw [← eD, h_del_ne _ (by omega), h_del_ne _ (by omega), fr _ (by omega) (by omega) (by omega), kB.2 _ (by omega), kA.2 _ hi]⟩
    have c0 : decide (((psV s.length s : Nat) : Int) = (s.length : Int)) = decide (psV s.length s = s.length) := by rw [decide_eq_decide]; omega
    refine ⟨hD, ?_, kD⟩
    generalize decide (psV s.length s = s.length) = Q at *
    generalize psV s.length s = w at *
    generalize s.length = sl at *
    rcases gC4 with gC4 | gC4
    · simp (config := {maxSteps := 2000000}) (disch := first | omega | (simp only [List.length_cons, List.length_nil, List.length_append, List.length_drop]; omega)) only [s_callF, List.nil_append, List.cons_append, r, t0, t3, gC1, gC3, gC4, z2, z2', z3, z4, eD, c0, R_ops_Pushes_0, e_tup0, r_end, r_0, r_2, r_jn, r_je, e_ret, d_cons, d_yes, d_nil, e_some, ↓s_len, x_lenS, ↓b_xor32, ↓b_and32, ↓b_or32, ↓u_not32, b_xor32, b_and32, b_or32, u_not32, w32ad, ↓x_conv, x_convV, ↓x_fieldAddr, x_fieldV, ↓s_nilchk, x_nilchk, Nat.zero_add, Nat.add_zero, Nat.mul_one, ↓l_loop, ↓l_succ, ↓l_normal, l_normal, l_exit, l_ret, l_iteN, ↓h_put_get, ↓h_new_get, ↓h_del_get, h_next_put, h_next_new, h_next_del, Nat.add_assoc, Nat.add_eq_left, Nat.left_eq_add, Nat.add_left_cancel_iff, ↓s_load, m_load, ↓m_load1, m_load1, ↓m_st, m_stE, m_storeI, m_storeE, w_zero, w_succ, ↓s_alloc, ↓x_idxA, ↓x_idxS, x_idxAE, x_idxSE, x_addrE, x_idx, x_lenS, ↓s_len, ↓x_buildS, x_buildE, ↓x_P0, ↓x_P1, x_fill0, x_filli, x_fills, x_fillb, c_int, List.length_cons, List.length_nil, List.cons_append, List.drop_succ_cons, List.drop_zero, List.drop_nil, List.nil_append, Int.reduceAdd, Int.reduceToNat, Int.reduceLT, Int.reduceLE, Nat.reduceAdd, Nat.reduceMul, Nat.reduceLeDiff, Int.reduceEq, Int.reduceSub, Int.cast_ofNat_Int, s_resc, s_consR, m_load4, m_store4, s_res0, ↓s_skip, ↓s_ops, ↓s_dops, ↓s_seq, ↓s_cond, ↓s_block, ↓s_exit, ↓s_ret, ↓s_scope, ↓s_nil, ↓s_op, ↓s_opg, ↓s_wanted', ↓s_wantV, s_wantV, s_wantV0, beq_true, beq_false, ↓s_bindS, s_bindS, ↓s_bindE, s_bindE, s_bindE_ret, s_bindE_exit, s_bindE_iteN, s_norm, ↓s_condV, s_condV, s_block_ret, s_block_normal, s_block_exit, s_block_iteN, ↓s_getp, ↓s_getp0, ↓s_get, s_get0, ↓s_con, ↓s_fn, ↓s_os0, ↓s_os1, ↓s_list0, ↓s_list1, ↓s_mov, ↓s_pick, ↓s_pickE, s_pickE, ↓s_bin, ↓s_un, ↓s_minmax, ↓s_call, ↓s_callv, ↓s_callV, ↓s_ext, s_same, b_eql, b_neq, b_lss, b_leq, b_gtr, b_geq, b_add, b_sub, b_mul, b_eqlb, b_neqb, b_fnil, b_fnil', b_fnil2, b_fnil2', u_neg, u_not, m_two, s_end, s_end', s_end_iteN, s_res0, s_res1, s_tup1, s_tup2, ↓iteN_true, ↓iteN_false, iteN_true, iteN_false, Nat.zero_add, List.nil_append, List.append_nil, Nat.reduceEqDiff, reduceIte, decide_true, decide_false, Bool.not_true, Bool.not_false, List.getElem?_cons_zero, List.getElem?_cons_succ, Bool.false_eq_true, if_true, if_false, beq_self_eq_true]
      try rfl
    · simp (config := {maxSteps := 2000000}) (disch := first | omega | (simp only [List.length_cons, List.length_nil, List.length_append, List.length_drop]; omega)) only [s_callF, List.nil_append, List.cons_append, r, t0, t3, gC1, gC3, gC4, z2, z2', z3, z4, eD, c0, R_ops_Pushes_0, e_tup0, r_end, r_0, r_2, r_jn, r_je, e_ret, d_cons, d_yes, d_nil, e_some, ↓s_len, x_lenS, ↓b_xor32, ↓b_and32, ↓b_or32, ↓u_not32, b_xor32, b_and32, b_or32, u_not32, w32ad, ↓x_conv, x_convV, ↓x_fieldAddr, x_fieldV, ↓s_nilchk, x_nilchk, Nat.zero_add, Nat.add_zero, Nat.mul_one, ↓l_loop, ↓l_succ, ↓l_normal, l_normal, l_exit, l_ret, l_iteN, ↓h_put_get, ↓h_new_get, ↓h_del_get, h_next_put, h_next_new, h_next_del, Nat.add_assoc, Nat.add_eq_left, Nat.left_eq_add, Nat.add_left_cancel_iff, ↓s_load, m_load, ↓m_load1, m_load1, ↓m_st, m_stE, m_storeI, m_storeE, w_zero, w_succ, ↓s_alloc, ↓x_idxA, ↓x_idxS, x_idxAE, x_idxSE, x_addrE, x_idx, x_lenS, ↓s_len, ↓x_buildS, x_buildE, ↓x_P0, ↓x_P1, x_fill0, x_filli, x_fills, x_fillb, c_int, List.length_cons, List.length_nil, List.cons_append, List.drop_succ_cons, List.drop_zero, List.drop_nil, List.nil_append, Int.reduceAdd, Int.reduceToNat, Int.reduceLT, Int.reduceLE, Nat.reduceAdd, Nat.reduceMul, Nat.reduceLeDiff, Int.reduceEq, Int.reduceSub, Int.cast_ofNat_Int, s_resc, s_consR, m_load4, m_store4, s_res0, ↓s_skip, ↓s_ops, ↓s_dops, ↓s_seq, ↓s_cond, ↓s_block, ↓s_exit, ↓s_ret, ↓s_scope, ↓s_nil, ↓s_op, ↓s_opg, ↓s_wanted', ↓s_wantV, s_wantV, s_wantV0, beq_true, beq_false, ↓s_bindS, s_bindS, ↓s_bindE, s_bindE, s_bindE_ret, s_bindE_exit, s_bindE_iteN, s_norm, ↓s_condV, s_condV, s_block_ret, s_block_normal, s_block_exit, s_block_iteN, ↓s_getp, ↓s_getp0, ↓s_get, s_get0, ↓s_con, ↓s_fn, ↓s_os0, ↓s_os1, ↓s_list0, ↓s_list1, ↓s_mov, ↓s_pick, ↓s_pickE, s_pickE, ↓s_bin, ↓s_un, ↓s_minmax, ↓s_call, ↓s_callv, ↓s_callV, ↓s_ext, s_same, b_eql, b_neq, b_lss, b_leq, b_gtr, b_geq, b_add, b_sub, b_mul, b_eqlb, b_neqb, b_fnil, b_fnil', b_fnil2, b_fnil2', u_neg, u_not, m_two, s_end, s_end', s_end_iteN, s_res0, s_res1, s_tup1, s_tup2, ↓iteN_true, ↓iteN_false, iteN_true, iteN_false, Nat.zero_add, List.nil_append, List.append_nil, Nat.reduceEqDiff, reduceIte, decide_true, decide_false, Bool.not_true, Bool.not_false, List.getElem?_cons_zero, List.getElem?_cons_succ, Bool.false_eq_true, if_true, if_false, beq_self_eq_true]
      try rfl
  obtain ⟨R, eR⟩ : ∃ R, R_ops_Pushes_0 = R := ⟨_, rfl⟩
  rw [eR] at fin ⊢
  obtain ⟨sl, esl⟩ : ∃ n, s.length = n := ⟨_, rfl⟩
  rw [esl] at hg eA fin ⊢
  simp (config := {maxSteps := 2000000}) (disch := first | omega | (simp only [List.length_cons, List.length_nil, List.length_append, List.length_drop]; omega)) only [hg, eA, nA, s_scope, ↓s_box, ↓s_range, c_ptr, ↓b_xor32, ↓b_and32, ↓b_or32, ↓u_not32, b_xor32, b_and32, b_or32, u_not32, w32ad, ↓x_conv, x_convV, ↓x_fieldAddr, x_fieldV, ↓s_nilchk, x_nilchk, Nat.zero_add, Nat.add_zero, Nat.mul_one, ↓l_loop, ↓l_succ, ↓l_normal, l_normal, l_exit, l_ret, l_iteN, ↓h_put_get, ↓h_new_get, ↓h_del_get, h_next_put, h_next_new, h_next_del, Nat.add_assoc, Nat.add_eq_left, Nat.left_eq_add, Nat.add_left_cancel_iff, ↓s_load, m_load, ↓m_load1, m_load1, ↓m_st, m_stE, m_storeI, m_storeE, w_zero, w_succ, ↓s_alloc, ↓x_idxA, ↓x_idxS, x_idxAE, x_idxSE, x_addrE, x_idx, x_lenS, ↓s_len, ↓x_buildS, x_buildE, ↓x_P0, ↓x_P1, x_fill0, x_filli, x_fills, x_fillb, c_int, List.length_cons, List.length_nil, List.cons_append, List.drop_succ_cons, List.drop_zero, List.drop_nil, List.nil_append, Int.reduceAdd, Int.reduceToNat, Int.reduceLT, Int.reduceLE, Nat.reduceAdd, Nat.reduceMul, Nat.reduceLeDiff, Int.reduceEq, Int.reduceSub, Int.cast_ofNat_Int, s_resc, s_consR, m_load4, m_store4, s_res0, ↓s_skip, ↓s_ops, ↓s_dops, ↓s_seq, ↓s_cond, ↓s_block, ↓s_exit, ↓s_ret, ↓s_scope, ↓s_nil, ↓s_op, ↓s_opg, ↓s_wanted', ↓s_wantV, s_wantV, s_wantV0, beq_true, beq_false, ↓s_bindS, s_bindS, ↓s_bindE, s_bindE, s_bindE_ret, s_bindE_exit, s_bindE_iteN, s_norm, ↓s_condV, s_condV, s_block_ret, s_block_normal, s_block_exit, s_block_iteN, ↓s_getp, ↓s_getp0, ↓s_get, s_get0, ↓s_con, ↓s_fn, ↓s_os0, ↓s_os1, ↓s_list0, ↓s_list1, ↓s_mov, ↓s_pick, ↓s_pickE, s_pickE, ↓s_bin, ↓s_un, ↓s_minmax, ↓s_call, ↓s_callv, ↓s_callV, ↓s_ext, s_same, b_eql, b_neq, b_lss, b_leq, b_gtr, b_geq, b_add, b_sub, b_mul, b_eqlb, b_neqb, b_fnil, b_fnil', b_fnil2, b_fnil2', u_neg, u_not, m_two, s_end, s_end', s_end_iteN, s_res0, s_res1, s_tup1, s_tup2, ↓iteN_true, ↓iteN_false, iteN_true, iteN_false, Nat.zero_add, List.nil_append, List.append_nil, Nat.reduceEqDiff, reduceIte, decide_true, decide_false, Bool.not_true, Bool.not_false, List.getElem?_cons_zero, List.getElem?_cons_succ, Bool.false_eq_true, if_true, if_false, beq_self_eq_true]
  exact fin _ (by (simp only [s_getp, s_getp0, Nat.reduceEqDiff, decide_false, decide_true, iteN_false, iteN_true, nA]; try rfl)) (by (simp only [s_getp, s_getp0, Nat.reduceEqDiff, decide_false, decide_true, iteN_false, iteN_true, nA]; try rfl))
end Go.Eng
namespace Go.Eng
open Go
variable {E : Nat → Option Fn} {X : Orc}
set_option linter.unusedSimpArgs false
set_option linter.unusedVariables false
def LsAt (h : H) (o : List Nat) (p : List V) : Prop := ∃ a, p = [.slice a o.length none 1] ∧ SrcH h a 1 o
/-- a row of texts, as an argument -/
def LsH (h : H) (a : Option (Nat × Nat)) (ops : List (List Nat)) : Prop := ∃ parts, Al2 (LsAt h) ops parts ∧ (ops = [] ∨ ∃ k md, a = some (k, 0) ∧ k < h.next ∧ h.get k = some (.cells parts.flatten md))
def LsR (ops : List (List Nat)) (h : H) (vs : List V) : Prop := ∃ a, vs = [.slice a ops.length none 1] ∧ LsH h a ops
section
variable {Hh : Type} {enc : TypeId × Value → Hh} {P : Program} {W : World} {spare : Nat → Bool} {held : Bool} {base : Nat}
theorem trod_bss {t e eb : TypeId}  (ht : P.underlying t = some (.slice e)) (he : P.underlying e = some (.slice eb)) (hb : P.underlying eb = some (.int .u8)) (hc : P.cellsOf eb = 1) (hce : P.cellsOf e = 1)
    {v : Value} {d : DataW Hh} {p : List MemPlace} (h : DataW.Trod enc P W base spare held t v d p) :
    ∃ ops : List (List Nat), (∀ o ∈ ops, byt o = true) ∧ (P.bytesOf e = 24 → P.bytesOf eb = 1 → ∀ B, (∀ n ∈ d.weights P t, n ≤ B) → ops.length ≤ B ∧ ∀ o ∈ ops, o.length ≤ B) ∧ ∀ n, Rd (absD P (n + 4) t d) (LsR ops) := by
  have one : ∀ (g : Nat) (cs : List Value) (x : DataW Hh × List MemPlace), DataW.trod enc P W base spare held g e cs = some x → ∃ o : List Nat, (byt o = true ∧ (P.bytesOf eb = 1 → ∀ B, (∀ n ∈ x.1.weights P e, n ≤ B) → o.length ≤ B)) ∧ ∀ n, Rd (absD P (n + 3) e x.1) (fun h vs => LsAt h o vs) := by
    intro g cs x hx
    obtain ⟨l, bl, wt, r3⟩ := trod_u8s' he hb hc hx
    exact ⟨l, ⟨bl, fun h1' B hB => wt h1' B hB⟩, fun j => r3 (j + 1)⟩
  obtain ⟨f, hf⟩ := h
  rcases DataW.trod_slice ht hf with ⟨_, hx⟩ | ⟨ad, len, cap, elems, rest, n, _, _, hx, _, _, _, hl, hi, _, _⟩
  · have hd : d = .nil := congrArg Prod.fst hx
    subst hd
    refine ⟨[], (fun o ho => by cases ho), (fun _ _ _ _ => ⟨Nat.zero_le _, fun o ho => by cases ho⟩), fun n nx => ?_⟩
    obtain ⟨vs, bl, n1, e1, l1, k1⟩ := rd_nil (Hh := Hh) (n + 3) ht nx
    exact ⟨vs, bl, n1, e1, l1, fun h hh => ⟨none, by rw [k1 h hh, hce]; rfl, [], .nil, .inl rfl⟩⟩
  · have hd : d = .slice (elems.map (·.1)) (rest.map (·.1)) := congrArg Prod.fst hx
    obtain ⟨ops, al⟩ := gather (p := fun (x : DataW Hh × List MemPlace) (o : List Nat) => (byt o = true ∧ (P.bytesOf eb = 1 → ∀ B, (∀ n ∈ x.1.weights P e, n ≤ B) → o.length ≤ B)) ∧ ∀ n, Rd (absD P (n + 3) e x.1) (fun h vs => LsAt h o vs)) elems (fun y hy => by
      obtain ⟨i, hi1, hi2⟩ := List.getElem_of_mem hy
      have hi3 : elems[i]? = some y := by rw [List.getElem?_eq_getElem hi1, hi2]
      have h4 := (hi i (by omega)).trans hi3
      simp only [Option.bind_eq_some_iff] at h4
      obtain ⟨cs, _, h5⟩ := h4
      exact one _ _ _ h5)
    refine ⟨ops, fun o ho => ?_, fun h24 hb1 B hB => ?_, fun n nx => ?_⟩
    · clear hl hi hx hd hf
      induction al with
      | nil => cases ho
      | cons h1 _ ih => rcases List.mem_cons.1 ho with rfl | ho
                        · exact h1.1.1
                        · exact ih ho
    · have hB' : ∀ n ∈ ((elems.map (·.1)).length + (rest.map (·.1)).length) * P.bytesOf e :: DataW.weightsAll P e (elems.map (·.1)), n ≤ B := by
        intro n hn
        apply hB n
        rw [hd]
        simp only [DataW.weights, ht, List.mem_cons, List.mem_append] at hn ⊢
        rcases hn with h | h
        · exact .inl h
        · exact .inr (.inl h)
      refine ⟨?_, fun o ho => ?_⟩
      · have := hB' _ (List.mem_cons_self ..)
        rw [h24, List.length_map, al.len] at this; omega
      · have hB2 : ∀ n ∈ DataW.weightsAll P e (elems.map (·.1)), n ≤ B := fun n hn => hB' n (List.mem_cons_of_mem _ hn)
        clear hl hi hx hd hf hB hB'
        induction al with
        | nil => cases ho
        | cons h1 _ ih =>
          simp only [List.map_cons, DataW.weightsAll, List.mem_append] at hB2
          rcases List.mem_cons.1 ho with rfl | ho
          · exact h1.1.2 hb1 B (fun n hn => hB2 n (.inl hn))
          · exact ih ho (fun n hn => hB2 n (.inr hn))
    · have al2 : Al2 (fun (dd : DataW Hh) R => Rd (absD P (n + 3) e dd) R) (elems.map (·.1)) (ops.map (fun o h vs => LsAt h o vs)) := by
        clear hl hi hx hd hf
        induction al with
        | nil => exact .nil
        | cons h1 _ ih => exact .cons (h1.2 n) ih
      obtain ⟨vs, bl, n1, e1, l1, k1⟩ := rd_slice (Hh := Hh) (n + 3) ht (elems.map (·.1)) (rest.map (·.1)) al2 nx
      rw [hd]
      refine ⟨vs, bl, n1, e1, l1, fun h hh => ?_⟩
      obtain ⟨ad2, parts, ev, al3, t⟩ := k1 h hh
      have le : (elems.map (·.1)).length = ops.length := by rw [List.length_map]; exact al.len
      refine ⟨ad2, by rw [ev, le, hce], parts, ?_, ?_⟩
      · have conv : ∀ (os : List (List Nat)) (ps : List (List V)), Al2 (fun (R : H → List V → Prop) p => R h p) (os.map (fun o h vs => LsAt h o vs)) ps → Al2 (LsAt h) os ps := by
          intro os
          induction os with
          | nil => intro ps a; cases a; exact .nil
          | cons o os ih => intro ps a; cases a with | cons a1 a2 => exact .cons a1 (ih _ a2)
        exact conv _ _ al3
      · rcases t with t | ⟨k, t1, t2, t3⟩
        · left
          rw [t] at le
          exact List.length_eq_zero_iff.1 le.symm
        · exact .inr ⟨k, .ro, t1, t2, t3⟩
end
theorem ls_len {h : H} {ops : List (List Nat)} {parts : List (List V)} (al : Al2 (LsAt h) ops parts) : ∀ p ∈ parts, p.length = 1 := by
  induction al with
  | nil => intro p hp; cases hp
  | cons h1 _ ih => intro p hp; rcases List.mem_cons.1 hp with rfl | hp
                    · obtain ⟨a, rfl, _⟩ := h1; rfl
                    · exact ih p hp
theorem LsH.at {h : H} {a : Option (Nat × Nat)} {ls : List (List Nat)} (x : LsH h a ls) (i : Nat) (l : List Nat) (ho : ls[i]? = some l) : ∃ q vs md b, a = some (q, 0) ∧ q < h.next ∧ h.get q = some (.cells vs md) ∧ vs[i]? = some (.slice b l.length none 1) ∧ SrcH h b 1 l := by
  obtain ⟨parts, al, t⟩ := x
  obtain ⟨p, hp, b, rfl, s⟩ := al.get i l ho
  rcases t with t | ⟨k, md, t1, t2, t3⟩
  · rw [t] at ho; simp at ho
  · have := flat_cell (k := 1) (ls_len al) i _ hp 0 (by omega)
    rw [Nat.mul_one, Nat.add_zero] at this
    exact ⟨k, _, md, b, t1, t2, t3, this, s⟩
end Go.Eng
namespace Go.Eng
open Go
variable {E : Nat → Option Fn} {X : Orc}
set_option linter.unusedSimpArgs false
set_option linter.unusedVariables false
structure EnPu (E : Nat → Option Fn) : Prop where
  op : EnOp E
  pu : E k_ops_Push = some f_ops_Push
  va : E k_ops_Value = some f_ops_Value
  ps : E k_ops_Pushes = some f_ops_Pushes
structure NoPu (X : Orc) : Prop where
  op : NoOp X
  pu : ∀ a h, X (.fn k_ops_Push) a h = none
  va : ∀ a h, X (.fn k_ops_Value) a h = none
  ps : ∀ a h, X (.fn k_ops_Pushes) a h = none
theorem mkP_ok (l : List Nat) (bl : byt l = true) : (mkP l).ok := ⟨by show pcV l.length < 256; unfold pcV; split <;> (try split) <;> omega, bl⟩
theorem mkP_may (l : List Nat) (h : l.length ≤ 65535) : okO (mkP l) = true := by
  unfold okO mkP pcV
  simp only
  by_cases c1 : l.length ≤ 75
  · rw [if_pos c1, if_neg (by omega), if_neg (by omega), if_pos c1]; exact decide_eq_true rfl
  · rw [if_neg c1]
    by_cases c2 : l.length ≤ 255
    · rw [if_pos c2, if_pos rfl]; exact decide_eq_true c2
    · rw [if_neg c2, if_neg (by decide), if_pos rfl]; exact decide_eq_true h
theorem mkP_val (l : List Nat) (h : l.length ≤ 65535) : valV (mkP l) = some l := by
  unfold valV
  rw [mkP_may l h, if_neg (by simp), if_pos (by show pcV l.length ≤ 77; unfold pcV; split <;> (try split) <;> omega)]
  rfl
theorem joR1 (o : Oq) (h : okO o = true) : joR [o] = (oB o, 0) := by
  unfold joR
  rw [if_pos (by simp [h]), wB_one]
theorem joR0 (o : Oq) (h : okO o = false) : joR [o] = ([], 100) := by
  unfold joR
  rw [if_neg (by simp [h])]
theorem cnQ_ne (c : Nat) (h : c ≠ 77) : cnQ c ≤ 1 := by unfold cnQ; rw [if_neg h]; split <;> omega
/-- a row of one -/
theorem row1 (h : H) (q : Nat) (md : Md) (o : Oq) (b : Option (Nat × Nat)) (cb : Option Nat) (eb : Nat) (hq : q < h.next) (g : h.get q = some (.cells [.int .u8 (o.code : Int), .slice b o.l.length cb eb] md)) (s : SrcH h b eb o.l) : RowS h [o] (some (q, 0)) 2 :=
  .inr ⟨q, 0, _, md, rfl, rfl, hq, g, by simp, fun i o' ho => by
    cases i with
    | zero => simp at ho; subst ho; exact ⟨b, cb, eb, rfl, s⟩
    | succ i => simp at ho⟩
structure PK (va v6 v12 : V) (cd n i pb q78 : Nat) (h1 : H) (k : Nat) (T : Tr V) (h : H) : Prop where
  il : k ≤ 2
  t0 : evO T (.t 0) = va
  t1 : evO T (.t 1) = .int .u8 (cd : Int)
  t5 : evO T (.t 5) = .bool true
  t6 : evO T (.t 6) = v6
  t7 : evO T (.t 7) = .int .i64 (i : Int)
  t8 : evO T (.t 8) = .ptr (some (pb, 0))
  t12 : evO T (.t 12) = v12
  t13 : evO T (.t 13) = .int .i64 0
  t32 : evO T (.t 32) = .int .i64 (n : Int)
  t33 : evO T (.t 33) = .int .i64 (i : Int)
  t78 : evO T (.t 78) = .slice (some (q78, 0)) 2 (some 2) 1
  t79 : evO T (.t 79) = .int .i64 2
  t80 : evO T (.t 80) = .int .i64 (k : Int)
  kp : Kp h1 h
theorem pk_step (e : EnPu E) (x : NoPu X) (M m : Nat) (hM : 10 < M) (v6 : V) (a12 : Option (Nat × Nat)) (c12 : Option Nat) (e12 : Nat) (cd i pb q78 : Nat) (ls : List (List Nat)) (hl3 : ls.length ≤ 3) (a : Option (Nat × Nat)) (l : List Nat) (bl : byt l = true) (hl : l.length ≤ 2000) (hil : ls[i]? = some l) (h1 : H) (q : Nat) (vs : List V) (md : Md) (b : Option (Nat × Nat)) (ea : a = some (q, 0)) (hq : q < h1.next) (gq' : h1.get q = some (.cells vs md)) (cg : vs[i]? = some (.slice b l.length none 1)) (sb : SrcH h1 b 1 l)
    (hq7 : q78 < h1.next) (g7 : h1.get q78 = some (.cells [.int .u8 76, .int .u8 77] .rw)) :
    ∀ k T h, k < 2 → PK (.slice a ls.length none 1) v6 (.slice a12 (oB (mkP l)).length c12 e12) cd ls.length i pb q78 h1 k T h → ∃ T' h', evC (callX E X (M + 2)) 151 m none L_purserlaw10_OpsPushed_0 ⟨T, [], h⟩ = some (.normal, ⟨T', [], h'⟩) ∧ PK (.slice a ls.length none 1) v6 (.slice a12 (oB (mkP l)).length c12 e12) cd ls.length i pb q78 h1 (k + 1) T' h' := by
  intro k T h hk ⟨_, t0, t1, t5, t6, t7, t8, t12, t13, t32, t33, t78, t79, t80, kp⟩
  subst ea
  have hi : i < ls.length := (List.getElem?_eq_some_iff.1 hil).1
  have c0 : decide ((k : Int) < 2) = true := decide_eq_true (by omega)
  have wi : wr .i64 ((k : Int) + 1) = ((k + 1 : Nat) : Int) := by rw [wr_i64 (by omega)]; omega
  have ixk : idx (k : Int) 2 = some k := idxn hk
  have ix : idx (i : Int) ls.length = some i := idxn hi
  have gv : h.get q = some (.cells vs md) := by rw [kp.2 _ hq, gq']
  have gz : h.get q78 = some (.cells [.int .u8 76, .int .u8 77] .rw) := by rw [kp.2 _ hq7, g7]
  obtain ⟨ck, hck, ek⟩ : ∃ ck : Nat, (ck = 76 ∨ ck = 77) ∧ ([V.int .u8 76, V.int .u8 77])[k]? = some (.int .u8 (ck : Int)) := by
    match k, hk with
    | 0, _ => exact ⟨76, .inl rfl, rfl⟩
    | 1, _ => exact ⟨77, .inr rfl, rfl⟩
  obtain ⟨h2, e2⟩ : ∃ h2, h.new (.cells [.int .u8 (ck : Int), .slice b l.length none 1] .rw) = h2 := ⟨_, rfl⟩
  have k2 : Kp h h2 := by rw [← e2]; exact Kp.new _ _
  have n2 : h2.next = h.next + 1 := by rw [← e2]; rfl
  have g2 : h2.get h.next = some (.cells [.int .u8 (ck : Int), .slice b l.length none 1] .rw) := by rw [← e2]; exact h_new_same _ _
  have r2 := row1 h2 h.next .rw ⟨ck, l⟩ b none 1 (by omega) g2 ((sb.mono kp).mono k2)
  have lw : (wB [(⟨ck, l⟩ : Oq)]).length ≤ 800000 := by rw [wB_one, oB_len]; have := cnQ_le ck; show 1 + cnQ ck + l.length ≤ _; omega
  obtain ⟨h3, a3, c3, e3, r3, nw3⟩ := join_go e.op x.op M [(⟨ck, l⟩ : Oq)] (by simp) (by simp; omega) (by omega) lw (fun o ho => by rcases List.mem_singleton.1 ho with rfl; show ck < 256; omega) (some (h.next, 0)) (some 1) 2 h2 r2
  have k03 := kp.trans (k2.trans nw3.kp)
  have k1 : k + 1 ≤ 2 := hk
  replace r3 : callX E X (M + 2) (.fn k_ops_Join) [.slice (some (h.next, 0)) 1 (some 1) 2] h2 = _ := r3
  have z0 : decide ((0 : Int) = 0) = true := rfl
  have z1 : decide ((100 : Int) = 0) = false := rfl
  cases ho : okO ⟨ck, l⟩ with
  | false =>
    rw [joR0 _ ho] at r3
    simp only [List.length_nil] at r3
    obtain ⟨N12, eN12⟩ : ∃ n, (oB (mkP l)).length = n := ⟨_, rfl⟩
    obtain ⟨ll, ell⟩ : ∃ n, l.length = n := ⟨_, rfl⟩
    obtain ⟨n, en⟩ : ∃ n, ls.length = n := ⟨_, rfl⟩
    rw [eN12] at t12
    rw [ell] at cg e2
    rw [en] at t0 t32 ix
    exact ⟨_, h3, by
      simp (config := {maxSteps := 2000000}) (disch := first | omega | (simp only [List.length_cons, List.length_nil, List.length_append, List.length_drop]; omega)) only [L_purserlaw10_OpsPushed_0, t0, t1, t5, t6, t7, t8, t12, t13, t32, t33, t78, t79, t80, gv, gz, cg, ek, c0, wi, ix, ixk, e2, r3, z0, z1, fl2, x_build, x_aggO, x_P0, x_P1, x_fill0, x_fills, x_fillb, x_filli, Bool.not_true, ↓s_append, ↓s_len, x_lenS, ↓b_xor32, ↓b_and32, ↓b_or32, ↓u_not32, b_xor32, b_and32, b_or32, u_not32, w32ad, ↓x_conv, x_convV, ↓x_fieldAddr, x_fieldV, ↓s_nilchk, x_nilchk, Nat.zero_add, Nat.add_zero, Nat.mul_one, ↓s_evD, ↓s_dnil, ↓s_dL, ↓s_dLg, ↓s_dR, ↓s_dRg, ↓s_dRj, ↓s_dRjg, ↓s_dB, ↓s_dBg, ↓s_dAlloc, ↓s_bindD, s_bindD, s_finD, s_finDx, s_addP0, s_addP1, s_addB, s_lookP, ↓s_bump0, ↓s_bump_get, s_bump_next, s_ok0, ↓s_ok1, s_okR0, ↓s_okR1, ↓s_okE, s_okE, s_okE1, s_nth0, s_nthS, Nat.add_zero, Bool.and_self, Bool.and_true, Bool.true_and, ↓l_loop, ↓l_succ, ↓l_normal, l_normal, l_exit, l_ret, l_iteN, ↓h_put_get, ↓h_new_get, ↓h_del_get, h_next_put, h_next_new, h_next_del, Nat.add_assoc, Nat.add_eq_left, Nat.left_eq_add, Nat.add_left_cancel_iff, ↓s_load, m_load, ↓m_load1, m_load1, ↓m_st, m_stE, m_storeI, m_storeE, w_zero, w_succ, ↓s_alloc, ↓x_idxA, ↓x_idxS, x_idxAE, x_idxSE, x_addrE, x_idx, x_lenS, ↓s_len, ↓x_buildS, x_buildE, ↓x_P0, ↓x_P1, x_fill0, x_filli, x_fills, x_fillb, c_int, List.length_cons, List.length_nil, List.cons_append, List.drop_succ_cons, List.drop_zero, List.drop_nil, List.nil_append, Int.reduceAdd, Int.reduceToNat, Int.reduceLT, Int.reduceLE, Nat.reduceAdd, Nat.reduceMul, Nat.reduceLeDiff, Int.reduceEq, Int.reduceSub, Int.cast_ofNat_Int, s_resc, s_consR, m_load4, m_store4, s_res0, ↓s_skip, ↓s_ops, ↓s_dops, ↓s_seq, ↓s_cond, ↓s_block, ↓s_exit, ↓s_ret, ↓s_scope, ↓s_nil, ↓s_op, ↓s_opg, ↓s_wanted', ↓s_wantV, s_wantV, s_wantV0, beq_true, beq_false, ↓s_bindS, s_bindS, ↓s_bindE, s_bindE, s_bindE_ret, s_bindE_exit, s_bindE_iteN, s_norm, ↓s_condV, s_condV, s_block_ret, s_block_normal, s_block_exit, s_block_iteN, ↓s_getp, ↓s_getp0, ↓s_get, s_get0, ↓s_con, ↓s_fn, ↓s_os0, ↓s_os1, ↓s_list0, ↓s_list1, ↓s_mov, ↓s_pick, ↓s_pickE, s_pickE, ↓s_bin, ↓s_un, ↓s_minmax, ↓s_call, ↓s_callv, ↓s_callV, ↓s_ext, s_same, b_eql, b_neq, b_lss, b_leq, b_gtr, b_geq, b_add, b_sub, b_mul, b_eqlb, b_neqb, b_fnil, b_fnil', b_fnil2, b_fnil2', u_neg, u_not, m_two, s_end, s_end', s_end_iteN, s_res0, s_res1, s_tup1, s_tup2, ↓iteN_true, ↓iteN_false, iteN_true, iteN_false, Nat.zero_add, List.nil_append, List.append_nil, Nat.reduceEqDiff, reduceIte, decide_true, decide_false, Bool.not_true, Bool.not_false, List.getElem?_cons_zero, List.getElem?_cons_succ, Bool.false_eq_true, if_true, if_false, beq_self_eq_true]
      exact rfl, ⟨k1, by rw [en]; exact (by (simp only [s_getp, s_getp0, Nat.reduceEqDiff, decide_false, decide_true, iteN_false, iteN_true, t0]; try rfl)), (by (simp only [s_getp, s_getp0, Nat.reduceEqDiff, decide_false, decide_true, iteN_false, iteN_true, t1]; try rfl)), (by (simp only [s_getp, s_getp0, Nat.reduceEqDiff, decide_false, decide_true, iteN_false, iteN_true, t5]; try rfl)), (by (simp only [s_getp, s_getp0, Nat.reduceEqDiff, decide_false, decide_true, iteN_false, iteN_true, t6]; try rfl)), (by (simp only [s_getp, s_getp0, Nat.reduceEqDiff, decide_false, decide_true, iteN_false, iteN_true, t7]; try rfl)), (by (simp only [s_getp, s_getp0, Nat.reduceEqDiff, decide_false, decide_true, iteN_false, iteN_true, t8]; try rfl)), by rw [eN12]; exact (by (simp only [s_getp, s_getp0, Nat.reduceEqDiff, decide_false, decide_true, iteN_false, iteN_true, t12]; try rfl)), (by (simp only [s_getp, s_getp0, Nat.reduceEqDiff, decide_false, decide_true, iteN_false, iteN_true, t13]; try rfl)), by rw [en]; exact (by (simp only [s_getp, s_getp0, Nat.reduceEqDiff, decide_false, decide_true, iteN_false, iteN_true, t32]; try rfl)), (by (simp only [s_getp, s_getp0, Nat.reduceEqDiff, decide_false, decide_true, iteN_false, iteN_true, t33]; try rfl)), (by (simp only [s_getp, s_getp0, Nat.reduceEqDiff, decide_false, decide_true, iteN_false, iteN_true, t78]; try rfl)), (by (simp only [s_getp, s_getp0, Nat.reduceEqDiff, decide_false, decide_true, iteN_false, iteN_true, t79]; try rfl)), (by (simp only [s_getp, s_getp0, Nat.reduceEqDiff, decide_false, decide_true, iteN_false, iteN_true, t80]; try rfl)), k03⟩⟩
  | true =>
    rw [joR1 _ ho] at r3
    simp only at r3
    have le : (oB (mkP l)).length ≤ (oB ⟨ck, l⟩).length := by
      rw [oB_len, oB_len]
      show 1 + cnQ (pcV l.length) + l.length ≤ 1 + cnQ ck + l.length
      have h1 : cnQ (pcV l.length) ≤ cnQ ck := by
        rcases hck with rfl | rfl
        · unfold okO at ho
          have := of_decide_eq_true (show decide (l.length ≤ 255) = true from ho)
          exact cnQ_ne _ (by unfold pcV; split; omega; first | decide | (rw [if_pos this]; decide))
        · exact cnQ_le _
      omega
    have d1 : decide (((oB ⟨ck, l⟩).length : Int) < ((oB (mkP l)).length : Int)) = false := decide_eq_false (by omega)
    obtain ⟨N12, eN12⟩ : ∃ n, (oB (mkP l)).length = n := ⟨_, rfl⟩
    obtain ⟨N3, eN3⟩ : ∃ n, (oB ⟨ck, l⟩).length = n := ⟨_, rfl⟩
    obtain ⟨ll, ell⟩ : ∃ n, l.length = n := ⟨_, rfl⟩
    obtain ⟨n, en⟩ : ∃ n, ls.length = n := ⟨_, rfl⟩
    rw [eN3] at r3 d1
    rw [eN12] at t12 d1
    rw [ell] at cg e2
    rw [en] at t0 t32 ix
    exact ⟨_, h3, by
      simp (config := {maxSteps := 2000000}) (disch := first | omega | (simp only [List.length_cons, List.length_nil, List.length_append, List.length_drop]; omega)) only [L_purserlaw10_OpsPushed_0, t0, t1, t5, t6, t7, t8, t12, t13, t32, t33, t78, t79, t80, gv, gz, cg, ek, c0, wi, ix, ixk, e2, r3, z0, z1, d1, fl2, x_build, x_aggO, x_P0, x_P1, x_fill0, x_fills, x_fillb, x_filli, Bool.not_true, ↓s_append, ↓s_len, x_lenS, ↓b_xor32, ↓b_and32, ↓b_or32, ↓u_not32, b_xor32, b_and32, b_or32, u_not32, w32ad, ↓x_conv, x_convV, ↓x_fieldAddr, x_fieldV, ↓s_nilchk, x_nilchk, Nat.zero_add, Nat.add_zero, Nat.mul_one, ↓s_evD, ↓s_dnil, ↓s_dL, ↓s_dLg, ↓s_dR, ↓s_dRg, ↓s_dRj, ↓s_dRjg, ↓s_dB, ↓s_dBg, ↓s_dAlloc, ↓s_bindD, s_bindD, s_finD, s_finDx, s_addP0, s_addP1, s_addB, s_lookP, ↓s_bump0, ↓s_bump_get, s_bump_next, s_ok0, ↓s_ok1, s_okR0, ↓s_okR1, ↓s_okE, s_okE, s_okE1, s_nth0, s_nthS, Nat.add_zero, Bool.and_self, Bool.and_true, Bool.true_and, ↓l_loop, ↓l_succ, ↓l_normal, l_normal, l_exit, l_ret, l_iteN, ↓h_put_get, ↓h_new_get, ↓h_del_get, h_next_put, h_next_new, h_next_del, Nat.add_assoc, Nat.add_eq_left, Nat.left_eq_add, Nat.add_left_cancel_iff, ↓s_load, m_load, ↓m_load1, m_load1, ↓m_st, m_stE, m_storeI, m_storeE, w_zero, w_succ, ↓s_alloc, ↓x_idxA, ↓x_idxS, x_idxAE, x_idxSE, x_addrE, x_idx, x_lenS, ↓s_len, ↓x_buildS, x_buildE, ↓x_P0, ↓x_P1, x_fill0, x_filli, x_fills, x_fillb, c_int, List.length_cons, List.length_nil, List.cons_append, List.drop_succ_cons, List.drop_zero, List.drop_nil, List.nil_append, Int.reduceAdd, Int.reduceToNat, Int.reduceLT, Int.reduceLE, Nat.reduceAdd, Nat.reduceMul, Nat.reduceLeDiff, Int.reduceEq, Int.reduceSub, Int.cast_ofNat_Int, s_resc, s_consR, m_load4, m_store4, s_res0, ↓s_skip, ↓s_ops, ↓s_dops, ↓s_seq, ↓s_cond, ↓s_block, ↓s_exit, ↓s_ret, ↓s_scope, ↓s_nil, ↓s_op, ↓s_opg, ↓s_wanted', ↓s_wantV, s_wantV, s_wantV0, beq_true, beq_false, ↓s_bindS, s_bindS, ↓s_bindE, s_bindE, s_bindE_ret, s_bindE_exit, s_bindE_iteN, s_norm, ↓s_condV, s_condV, s_block_ret, s_block_normal, s_block_exit, s_block_iteN, ↓s_getp, ↓s_getp0, ↓s_get, s_get0, ↓s_con, ↓s_fn, ↓s_os0, ↓s_os1, ↓s_list0, ↓s_list1, ↓s_mov, ↓s_pick, ↓s_pickE, s_pickE, ↓s_bin, ↓s_un, ↓s_minmax, ↓s_call, ↓s_callv, ↓s_callV, ↓s_ext, s_same, b_eql, b_neq, b_lss, b_leq, b_gtr, b_geq, b_add, b_sub, b_mul, b_eqlb, b_neqb, b_fnil, b_fnil', b_fnil2, b_fnil2', u_neg, u_not, m_two, s_end, s_end', s_end_iteN, s_res0, s_res1, s_tup1, s_tup2, ↓iteN_true, ↓iteN_false, iteN_true, iteN_false, Nat.zero_add, List.nil_append, List.append_nil, Nat.reduceEqDiff, reduceIte, decide_true, decide_false, Bool.not_true, Bool.not_false, List.getElem?_cons_zero, List.getElem?_cons_succ, Bool.false_eq_true, if_true, if_false, beq_self_eq_true]
      exact rfl, ⟨k1, by rw [en]; exact (by (simp only [s_getp, s_getp0, Nat.reduceEqDiff, decide_false, decide_true, iteN_false, iteN_true, t0]; try rfl)), (by (simp only [s_getp, s_getp0, Nat.reduceEqDiff, decide_false, decide_true, iteN_false, iteN_true, t1]; try rfl)), (by (simp only [s_getp, s_getp0, Nat.reduceEqDiff, decide_false, decide_true, iteN_false, iteN_true, t5]; try rfl)), (by (simp only [s_getp, s_getp0, Nat.reduceEqDiff, decide_false, decide_true, iteN_false, iteN_true, t6]; try rfl)), (by (simp only [s_getp, s_getp0, Nat.reduceEqDiff, decide_false, decide_true, iteN_false, iteN_true, t7]; try rfl)), (by (simp only [s_getp, s_getp0, Nat.reduceEqDiff, decide_false, decide_true, iteN_false, iteN_true, t8]; try rfl)), by rw [eN12]; exact (by (simp only [s_getp, s_getp0, Nat.reduceEqDiff, decide_false, decide_true, iteN_false, iteN_true, t12]; try rfl)), (by (simp only [s_getp, s_getp0, Nat.reduceEqDiff, decide_false, decide_true, iteN_false, iteN_true, t13]; try rfl)), by rw [en]; exact (by (simp only [s_getp, s_getp0, Nat.reduceEqDiff, decide_false, decide_true, iteN_false, iteN_true, t32]; try rfl)), (by (simp only [s_getp, s_getp0, Nat.reduceEqDiff, decide_false, decide_true, iteN_false, iteN_true, t33]; try rfl)), (by (simp only [s_getp, s_getp0, Nat.reduceEqDiff, decide_false, decide_true, iteN_false, iteN_true, t78]; try rfl)), (by (simp only [s_getp, s_getp0, Nat.reduceEqDiff, decide_false, decide_true, iteN_false, iteN_true, t79]; try rfl)), (by (simp only [s_getp, s_getp0, Nat.reduceEqDiff, decide_false, decide_true, iteN_false, iteN_true, t80]; try rfl)), k03⟩⟩
/-- the statement's walk over texts -/
structure PuL (va : V) (ls : List (List Nat)) (cd : Nat) (h0 : H) (i : Nat) (T : Tr V) (h : H) : Prop where
  il : i ≤ ls.length
  t0 : evO T (.t 0) = va
  t1 : evO T (.t 1) = .int .u8 (cd : Int)
  t5 : evO T (.t 5) = .bool true
  t32 : evO T (.t 32) = .int .i64 (ls.length : Int)
  t33 : evO T (.t 33) = .int .i64 (i : Int)
  st : ∃ a c e, evO T (.t 6) = .slice a i c e ∧ RowF h0.next h ((ls.take i).map mkP) a c e
  kp : Kp h0 h
  sm : ∀ l ∈ ls.take i, l.length ≤ 2000
theorem pi_bad (Q : Orc) (m : Nat) (cd : Nat) (ls : List (List Nat)) (hl3 : ls.length ≤ 3) (a : Option (Nat × Nat)) (h0 : H) (lh : LsH h0 a ls) (hls : ∀ l ∈ ls, l.length < 9223372036854775807) (i : Nat) (l : List Nat) (hil : ls[i]? = some l) (hl : 2000 < l.length) (T : Tr V) (h : H) (I : PuL (.slice a ls.length none 1) ls cd h0 i T h) :
    ∃ T' h', evC Q 151 m none L_purserlaw10_OpsPushed_1 ⟨T, [], h⟩ = some (.ret, ⟨T', [], h'⟩) ∧ evO T' (.t 4) = .bool true := by
  obtain ⟨_, t0, t1, t5, t32, t33, ⟨a6, c6, e6, t6, row⟩, kp, sm⟩ := I
  have hi : i < ls.length := (List.getElem?_eq_some_iff.1 hil).1
  have c0 : decide ((i : Int) < (ls.length : Int)) = true := decide_eq_true (by omega)
  have ix : idx (i : Int) ls.length = some i := idxn hi
  obtain ⟨q, vs, md, b, rfl, hq, gq', cg, sb⟩ := lh.at i l hil
  have gv : h.get q = some (.cells vs md) := by rw [kp.2 _ hq, gq']
  have d0 : decide ((2000 : Int) < (l.length : Int)) = true := decide_eq_true (by omega)
  generalize l.length = ll at *
  generalize ls.length = n at *
  exact ⟨_, h, by
    simp (config := {maxSteps := 2000000}) (disch := first | omega | (simp only [List.length_cons, List.length_nil, List.length_append, List.length_drop]; omega)) only [L_purserlaw10_OpsPushed_1, t0, t1, t5, t6, t32, t33, gv, cg, c0, ix, d0, ↓s_len, x_lenS, ↓b_xor32, ↓b_and32, ↓b_or32, ↓u_not32, b_xor32, b_and32, b_or32, u_not32, w32ad, ↓x_conv, x_convV, ↓x_fieldAddr, x_fieldV, ↓s_nilchk, x_nilchk, Nat.zero_add, Nat.add_zero, Nat.mul_one, ↓s_evD, ↓s_dnil, ↓s_dL, ↓s_dLg, ↓s_dR, ↓s_dRg, ↓s_dRj, ↓s_dRjg, ↓s_dB, ↓s_dBg, ↓s_dAlloc, ↓s_bindD, s_bindD, s_finD, s_finDx, s_addP0, s_addP1, s_addB, s_lookP, ↓s_bump0, ↓s_bump_get, s_bump_next, s_ok0, ↓s_ok1, s_okR0, ↓s_okR1, ↓s_okE, s_okE, s_okE1, s_nth0, s_nthS, Nat.add_zero, Bool.and_self, Bool.and_true, Bool.true_and, ↓l_loop, ↓l_succ, ↓l_normal, l_normal, l_exit, l_ret, l_iteN, ↓h_put_get, ↓h_new_get, ↓h_del_get, h_next_put, h_next_new, h_next_del, Nat.add_assoc, Nat.add_eq_left, Nat.left_eq_add, Nat.add_left_cancel_iff, ↓s_load, m_load, ↓m_load1, m_load1, ↓m_st, m_stE, m_storeI, m_storeE, w_zero, w_succ, ↓s_alloc, ↓x_idxA, ↓x_idxS, x_idxAE, x_idxSE, x_addrE, x_idx, x_lenS, ↓s_len, ↓x_buildS, x_buildE, ↓x_P0, ↓x_P1, x_fill0, x_filli, x_fills, x_fillb, c_int, List.length_cons, List.length_nil, List.cons_append, List.drop_succ_cons, List.drop_zero, List.drop_nil, List.nil_append, Int.reduceAdd, Int.reduceToNat, Int.reduceLT, Int.reduceLE, Nat.reduceAdd, Nat.reduceMul, Nat.reduceLeDiff, Int.reduceEq, Int.reduceSub, Int.cast_ofNat_Int, s_resc, s_consR, m_load4, m_store4, s_res0, ↓s_skip, ↓s_ops, ↓s_dops, ↓s_seq, ↓s_cond, ↓s_block, ↓s_exit, ↓s_ret, ↓s_scope, ↓s_nil, ↓s_op, ↓s_opg, ↓s_wanted', ↓s_wantV, s_wantV, s_wantV0, beq_true, beq_false, ↓s_bindS, s_bindS, ↓s_bindE, s_bindE, s_bindE_ret, s_bindE_exit, s_bindE_iteN, s_norm, ↓s_condV, s_condV, s_block_ret, s_block_normal, s_block_exit, s_block_iteN, ↓s_getp, ↓s_getp0, ↓s_get, s_get0, ↓s_con, ↓s_fn, ↓s_os0, ↓s_os1, ↓s_list0, ↓s_list1, ↓s_mov, ↓s_pick, ↓s_pickE, s_pickE, ↓s_bin, ↓s_un, ↓s_minmax, ↓s_call, ↓s_callv, ↓s_callV, ↓s_ext, s_same, b_eql, b_neq, b_lss, b_leq, b_gtr, b_geq, b_add, b_sub, b_mul, b_eqlb, b_neqb, b_fnil, b_fnil', b_fnil2, b_fnil2', u_neg, u_not, m_two, s_end, s_end', s_end_iteN, s_res0, s_res1, s_tup1, s_tup2, ↓iteN_true, ↓iteN_false, iteN_true, iteN_false, Nat.zero_add, List.nil_append, List.append_nil, Nat.reduceEqDiff, reduceIte, decide_true, decide_false, Bool.not_true, Bool.not_false, List.getElem?_cons_zero, List.getElem?_cons_succ, Bool.false_eq_true, if_true, if_false, beq_self_eq_true]
    exact rfl, (by (simp only [s_getp, s_getp0, Nat.reduceEqDiff, decide_false, decide_true, iteN_false, iteN_true, t0]; try rfl))⟩
theorem pi_step (e : EnPu E) (x : NoPu X) (M m : Nat) (hM : 10 < M) (hm : 5 < m) (cd : Nat) (ls : List (List Nat)) (hl3 : ls.length ≤ 3) (a : Option (Nat × Nat)) (h0 : H) (lh : LsH h0 a ls) (i : Nat) (l : List Nat) (hil : ls[i]? = some l) (hl : l.length ≤ 2000) (bl : byt l = true) (T0 : Tr V) (h : H) (I : PuL (.slice a ls.length none 1) ls cd h0 i T0 h) :
    ∃ T' h', evC (callX E X (M + 2)) 151 m none L_purserlaw10_OpsPushed_1 ⟨T0, [], h⟩ = some (.normal, ⟨T', [], h'⟩) ∧ PuL (.slice a ls.length none 1) ls cd h0 (i + 1) T' h' := by
  obtain ⟨_, t0, t1, t5, t32, t33, ⟨a6, c6, e6, t6, row⟩, kp, sm⟩ := I
  have hi : i < ls.length := (List.getElem?_eq_some_iff.1 hil).1
  have c0 : decide ((i : Int) < (ls.length : Int)) = true := decide_eq_true (by omega)
  have wi : wr .i64 ((i : Int) + 1) = ((i + 1 : Nat) : Int) := by rw [wr_i64 (by omega)]; omega
  have ix : idx (i : Int) ls.length = some i := idxn hi
  obtain ⟨q, vs, md, b, rfl, hq, gq', cg, sb⟩ := lh.at i l hil
  have gv : h.get q = some (.cells vs md) := by rw [kp.2 _ hq, gq']
  have d0 : decide ((2000 : Int) < (l.length : Int)) = false := decide_eq_false (by omega)
  have z0 : decide ((0 : Int) = 0) = true := rfl
  -- push
  obtain ⟨h1, a2, c2, e2, r1, k1, s1, ge1⟩ := push_go e.op x.op e.pu x.pu M l (by omega) b none 1 h (sb.mono kp)
  have epr : pushR l = (mkP l, 0) := by unfold pushR; rw [if_neg (by omega)]
  rw [epr] at r1 s1 ge1
  simp only at r1 s1 ge1
  have eml : (mkP l).l = l := rfl
  obtain ⟨h2, eh2⟩ : ∃ h2, (h1.new (.cells [.int .u8 0, .slice none 0 (some 0) 0] .rw)).put h1.next (.cells [.int .u8 ((mkP l).code : Int), .slice a2 (mkP l).l.length c2 e2] .rw) = h2 := ⟨_, rfl⟩
  have k2 : Kp h1 h2 := by rw [← eh2]; (repeat (first | exact Kp.refl _ | refine Kp.put ?_ _ (by first | omega | (simp only [h_next_put, h_next_new, h_next_del]; omega)) | refine Kp.del ?_ (by first | omega | (simp only [h_next_put, h_next_new, h_next_del]; omega)) | refine Kp.trans ?_ (Kp.new _ _)))
  have n2 : h2.next = h1.next + 1 := by rw [← eh2]; rfl
  have g2 : h2.get h1.next = some (.cells [.int .u8 ((mkP l).code : Int), .slice a2 (mkP l).l.length c2 e2] .rw) := by rw [← eh2]; exact h_put_same _ _ _
  have s2 : SrcH h2 a2 e2 (mkP l).l := s1.mono k2
  obtain ⟨h3, a3, c3, e3, r3, k3, s3, _⟩ := value_go e.op x.op e.va x.va M (mkP l) (mkP_ok l bl) (by rw [eml]; omega) a2 c2 e2 h2 s2
  rw [mkP_val l (by omega)] at r3 s3
  simp only [Option.getD_some, Option.isSome_some] at r3 s3
  have g3 : h3.get h1.next = some (.cells [.int .u8 ((mkP l).code : Int), .slice a2 (mkP l).l.length c2 e2] .rw) := by rw [k3.2 _ (by omega), g2]
  have st3 := str_src s3 bl c3
  have k03 := kp.trans (k1.trans (k2.trans k3))
  have stl := str_src (sb.mono k03) bl none
  have gv1 : h1.get q = some (.cells vs md) := by rw [(kp.trans k1).2 _ hq, gq']
  have gv2 : h2.get q = some (.cells vs md) := by rw [(kp.trans (k1.trans k2)).2 _ hq, gq']
  have gv3 : h3.get q = some (.cells vs md) := by rw [k03.2 _ hq, gq']
  have sq : decide (l = l) = true := decide_eq_true rfl
  have kn1 := k1.1
  have kn3 := k3.1
  obtain ⟨h4, eh4⟩ : ∃ h4, h3.new (.cells [.int .u8 ((mkP l).code : Int), .slice a2 (mkP l).l.length c2 e2] .rw) = h4 := ⟨_, rfl⟩
  have k4 : Kp h3 h4 := by rw [← eh4]; exact Kp.new _ _
  have n4 : h4.next = h3.next + 1 := by rw [← eh4]; rfl
  have g4 : h4.get h3.next = some (.cells [.int .u8 ((mkP l).code : Int), .slice a2 (mkP l).l.length c2 e2] .rw) := by rw [← eh4]; exact h_new_same _ _
  have lw : (wB [mkP l]).length ≤ 800000 := by rw [wB_one, oB_len]; have := cnQ_le (mkP l).code; rw [eml]; omega
  obtain ⟨h5, a5, c5, e5, r5, nw5⟩ := join_go e.op x.op M [mkP l] (by simp) (by simp; omega) (by omega) lw (fun o ho => by rcases List.mem_singleton.1 ho with rfl; exact (mkP_ok l bl).cl) (some (h3.next, 0)) (some 1) 2 h4 (row1 h4 h3.next .rw (mkP l) a2 c2 e2 (by omega) g4 ((s2.mono k3).mono k4))
  rw [joR1 _ (mkP_may l (by omega))] at r5
  simp only at r5
  replace r5 : callX E X (M + 2) (.fn k_ops_Join) [.slice (some (h3.next, 0)) 1 (some 1) 2] h4 = _ := r5
  obtain ⟨h6, eh6⟩ : ∃ h6, h5.new (.cells [.int .u8 76, .int .u8 77] .rw) = h6 := ⟨_, rfl⟩
  have k6 : Kp h5 h6 := by rw [← eh6]; exact Kp.new _ _
  have n6 : h6.next = h5.next + 1 := by rw [← eh6]; rfl
  have g6 : h6.get h5.next = some (.cells [.int .u8 76, .int .u8 77] .rw) := by rw [← eh6]; exact h_new_same _ _
  have k36 : Kp h3 h6 := k4.trans (nw5.kp.trans k6)
  have k06 := k03.trans k36
  have i1 : i + 1 ≤ ls.length := hi
  have tk : (ls.take (i + 1)).map mkP = (ls.take i).map mkP ++ [mkP l] := by rw [List.take_add_one, hil, List.map_append]; rfl
  have lt : ((ls.take i).map mkP).length = i := by rw [List.length_map, List.length_take]; omega
  have fin : ∀ T, PK (.slice (some (q, 0)) ls.length none 1) (.slice a6 i c6 e6) (.slice a5 (oB (mkP l)).length c5 e5) cd ls.length i h1.next h5.next h6 0 T h6 → ∃ T' h', bindE (blockE 1 (bindE (blockE 2 (loopN (evC (callX E X (M + 2)) 151 m none L_purserlaw10_OpsPushed_0) m ⟨T, [], h6⟩)) (evC (callX E X (M + 2)) 151 m none R_purserlaw10_OpsPushed_0))) (evC (callX E X (M + 2)) 151 m none R_purserlaw10_OpsPushed_1) = some (.normal, ⟨T', [], h'⟩) ∧ PuL (.slice (some (q, 0)) ls.length none 1) ls cd h0 (i + 1) T' h' := by
    intro T I
    obtain ⟨T7, h7, rr, J⟩ := loop_go (f := evC (callX E X (M + 2)) 151 m none L_purserlaw10_OpsPushed_0) (PK (.slice (some (q, 0)) ls.length none 1) (.slice a6 i c6 e6) (.slice a5 (oB (mkP l)).length c5 e5) cd ls.length i h1.next h5.next h6) 2 (.exit 2) (by intro h; cases h) (PK (.slice (some (q, 0)) ls.length none 1) (.slice a6 i c6 e6) (.slice a5 (oB (mkP l)).length c5 e5) cd ls.length i h1.next h5.next h6 2) (pk_step e x M m hM _ a5 c5 e5 cd i h1.next h5.next ls hl3 (some (q, 0)) l bl hl hil h6 q vs md b rfl (Nat.lt_of_lt_of_le hq k06.1) (by rw [k06.2 _ hq, gq']) cg (sb.mono k06) (by omega) g6) (fun T h' I => by
      obtain ⟨il, t0, t1, t5, t6, t7, t8, t12, t13, t32, t33, t78, t79, t80, kp⟩ := I
      have c0 : decide (((2 : Nat) : Int) < 2) = false := rfl
      obtain ⟨N12, eN12⟩ : ∃ n, (oB (mkP l)).length = n := ⟨_, rfl⟩
      obtain ⟨n, en⟩ : ∃ n, ls.length = n := ⟨_, rfl⟩
      rw [eN12] at t12
      rw [en] at t0 t32
      exact ⟨_, _, by
        simp (config := {maxSteps := 2000000}) (disch := first | omega | (simp only [List.length_cons, List.length_nil, List.length_append, List.length_drop]; omega)) only [L_purserlaw10_OpsPushed_0, t79, t80, c0, ↓b_xor32, ↓b_and32, ↓b_or32, ↓u_not32, b_xor32, b_and32, b_or32, u_not32, w32ad, ↓x_conv, x_convV, ↓x_fieldAddr, x_fieldV, ↓s_nilchk, x_nilchk, Nat.zero_add, Nat.add_zero, Nat.mul_one, ↓l_loop, ↓l_succ, ↓l_normal, l_normal, l_exit, l_ret, l_iteN, ↓h_put_get, ↓h_new_get, ↓h_del_get, h_next_put, h_next_new, h_next_del, Nat.add_assoc, Nat.add_eq_left, Nat.left_eq_add, Nat.add_left_cancel_iff, ↓s_load, m_load, ↓m_load1, m_load1, ↓m_st, m_stE, m_storeI, m_storeE, w_zero, w_succ, ↓s_alloc, ↓x_idxA, ↓x_idxS, x_idxAE, x_idxSE, x_addrE, x_idx, x_lenS, ↓s_len, ↓x_buildS, x_buildE, ↓x_P0, ↓x_P1, x_fill0, x_filli, x_fills, x_fillb, c_int, List.length_cons, List.length_nil, List.cons_append, List.drop_succ_cons, List.drop_zero, List.drop_nil, List.nil_append, Int.reduceAdd, Int.reduceToNat, Int.reduceLT, Int.reduceLE, Nat.reduceAdd, Nat.reduceMul, Nat.reduceLeDiff, Int.reduceEq, Int.reduceSub, Int.cast_ofNat_Int, s_resc, s_consR, m_load4, m_store4, s_res0, ↓s_skip, ↓s_ops, ↓s_dops, ↓s_seq, ↓s_cond, ↓s_block, ↓s_exit, ↓s_ret, ↓s_scope, ↓s_nil, ↓s_op, ↓s_opg, ↓s_wanted', ↓s_wantV, s_wantV, s_wantV0, beq_true, beq_false, ↓s_bindS, s_bindS, ↓s_bindE, s_bindE, s_bindE_ret, s_bindE_exit, s_bindE_iteN, s_norm, ↓s_condV, s_condV, s_block_ret, s_block_normal, s_block_exit, s_block_iteN, ↓s_getp, ↓s_getp0, ↓s_get, s_get0, ↓s_con, ↓s_fn, ↓s_os0, ↓s_os1, ↓s_list0, ↓s_list1, ↓s_mov, ↓s_pick, ↓s_pickE, s_pickE, ↓s_bin, ↓s_un, ↓s_minmax, ↓s_call, ↓s_callv, ↓s_callV, ↓s_ext, s_same, b_eql, b_neq, b_lss, b_leq, b_gtr, b_geq, b_add, b_sub, b_mul, b_eqlb, b_neqb, b_fnil, b_fnil', b_fnil2, b_fnil2', u_neg, u_not, m_two, s_end, s_end', s_end_iteN, s_res0, s_res1, s_tup1, s_tup2, ↓iteN_true, ↓iteN_false, iteN_true, iteN_false, Nat.zero_add, List.nil_append, List.append_nil, Nat.reduceEqDiff, reduceIte, decide_true, decide_false, Bool.not_true, Bool.not_false, List.getElem?_cons_zero, List.getElem?_cons_succ, Bool.false_eq_true, if_true, if_false, beq_self_eq_true]
        exact rfl, ⟨il, by rw [en]; exact (by (simp only [s_getp, s_getp0, Nat.reduceEqDiff, decide_false, decide_true, iteN_false, iteN_true, t0]; try rfl)), (by (simp only [s_getp, s_getp0, Nat.reduceEqDiff, decide_false, decide_true, iteN_false, iteN_true, t1]; try rfl)), (by (simp only [s_getp, s_getp0, Nat.reduceEqDiff, decide_false, decide_true, iteN_false, iteN_true, t5]; try rfl)), (by (simp only [s_getp, s_getp0, Nat.reduceEqDiff, decide_false, decide_true, iteN_false, iteN_true, t6]; try rfl)), (by (simp only [s_getp, s_getp0, Nat.reduceEqDiff, decide_false, decide_true, iteN_false, iteN_true, t7]; try rfl)), (by (simp only [s_getp, s_getp0, Nat.reduceEqDiff, decide_false, decide_true, iteN_false, iteN_true, t8]; try rfl)), by rw [eN12]; exact (by (simp only [s_getp, s_getp0, Nat.reduceEqDiff, decide_false, decide_true, iteN_false, iteN_true, t12]; try rfl)), (by (simp only [s_getp, s_getp0, Nat.reduceEqDiff, decide_false, decide_true, iteN_false, iteN_true, t13]; try rfl)), by rw [en]; exact (by (simp only [s_getp, s_getp0, Nat.reduceEqDiff, decide_false, decide_true, iteN_false, iteN_true, t32]; try rfl)), (by (simp only [s_getp, s_getp0, Nat.reduceEqDiff, decide_false, decide_true, iteN_false, iteN_true, t33]; try rfl)), (by (simp only [s_getp, s_getp0, Nat.reduceEqDiff, decide_false, decide_true, iteN_false, iteN_true, t78]; try rfl)), (by (simp only [s_getp, s_getp0, Nat.reduceEqDiff, decide_false, decide_true, iteN_false, iteN_true, t79]; try rfl)), (by (simp only [s_getp, s_getp0, Nat.reduceEqDiff, decide_false, decide_true, iteN_false, iteN_true, t80]; try rfl)), kp⟩⟩) 2 0 (by omega) m (by omega) T h6 I
    rw [rr]
    obtain ⟨_, t0, t1, t5, t6, t7, t8, t12, t13, t32, t33, t78, t79, t80, kp7⟩ := J
    have k37 := k36.trans kp7
    have g7 : h7.get h1.next = some (.cells [.int .u8 ((mkP l).code : Int), .slice a2 (mkP l).l.length c2 e2] .rw) := by rw [k37.2 _ (by omega), g3]
    have kn7 := k37.1
    obtain ⟨h8, eh8⟩ : ∃ h8, h7.new (.cells [.int .u8 ((mkP l).code : Int), .slice a2 (mkP l).l.length c2 e2] .rw) = h8 := ⟨_, rfl⟩
    have k8 : Kp h7 h8 := by rw [← eh8]; exact Kp.new _ _
    have sc8 := src_q h7 .u8 ((mkP l).code : Int) a2 (mkP l).l.length c2 e2
    rw [eh8] at sc8
    have kh8 : Kp h h8 := k1.trans (k2.trans (k3.trans (k37.trans k8)))
    have rowH := row.kp kh8
    have kn0 := kp.1
    obtain ⟨h9, ap9, row9, n9, f9⟩ := ap_row h0.next h8 (by have := kh8.1; omega) _ (by rw [lt]; omega) a6 c6 e6 rowH (mkP l) a2 c2 e2 ((s2.mono k3).mono (k37.trans k8)) (fun hne q' z eq => by
      have := ge1 hne q' z eq
      refine ⟨by omega, fun e => ?_⟩
      have := (row.lt e).2
      omega)
    rw [← tk] at row9
    rw [lt] at ap9
    have kf : Kp h0 h9 := ⟨by have := kh8.1; omega, fun j hj => by rw [f9 _ (by have := kh8.1; omega) (fun e => by have := (row.lt e).1; omega), (kp.trans kh8).2 _ hj]⟩
    obtain ⟨ml, eml2⟩ : ∃ n, (mkP l).l.length = n := ⟨_, rfl⟩
    obtain ⟨mc, emc⟩ : ∃ n, (mkP l).code = n := ⟨_, rfl⟩
    rw [eml2, emc] at g7 sc8 ap9 eh8
    obtain ⟨n, en⟩ : ∃ n, ls.length = n := ⟨_, rfl⟩
    rw [en] at t0 t32
    exact ⟨_, h9, by
      simp (config := {maxSteps := 2000000}) (disch := first | omega | (simp only [List.length_cons, List.length_nil, List.length_append, List.length_drop]; omega)) only [R_purserlaw10_OpsPushed_0, R_purserlaw10_OpsPushed_1, t0, t1, t5, t6, t8, t32, t33, g7, ld2, fl2, eh8, sc8, ap9, wi, ↓s_append, ↓s_len, x_lenS, ↓b_xor32, ↓b_and32, ↓b_or32, ↓u_not32, b_xor32, b_and32, b_or32, u_not32, w32ad, ↓x_conv, x_convV, ↓x_fieldAddr, x_fieldV, ↓s_nilchk, x_nilchk, Nat.zero_add, Nat.add_zero, Nat.mul_one, ↓l_loop, ↓l_succ, ↓l_normal, l_normal, l_exit, l_ret, l_iteN, ↓h_put_get, ↓h_new_get, ↓h_del_get, h_next_put, h_next_new, h_next_del, Nat.add_assoc, Nat.add_eq_left, Nat.left_eq_add, Nat.add_left_cancel_iff, ↓s_load, m_load, ↓m_load1, m_load1, ↓m_st, m_stE, m_storeI, m_storeE, w_zero, w_succ, ↓s_alloc, ↓x_idxA, ↓x_idxS, x_idxAE, x_idxSE, x_addrE, x_idx, x_lenS, ↓s_len, ↓x_buildS, x_buildE, ↓x_P0, ↓x_P1, x_fill0, x_filli, x_fills, x_fillb, c_int, List.length_cons, List.length_nil, List.cons_append, List.drop_succ_cons, List.drop_zero, List.drop_nil, List.nil_append, Int.reduceAdd, Int.reduceToNat, Int.reduceLT, Int.reduceLE, Nat.reduceAdd, Nat.reduceMul, Nat.reduceLeDiff, Int.reduceEq, Int.reduceSub, Int.cast_ofNat_Int, s_resc, s_consR, m_load4, m_store4, s_res0, ↓s_skip, ↓s_ops, ↓s_dops, ↓s_seq, ↓s_cond, ↓s_block, ↓s_exit, ↓s_ret, ↓s_scope, ↓s_nil, ↓s_op, ↓s_opg, ↓s_wanted', ↓s_wantV, s_wantV, s_wantV0, beq_true, beq_false, ↓s_bindS, s_bindS, ↓s_bindE, s_bindE, s_bindE_ret, s_bindE_exit, s_bindE_iteN, s_norm, ↓s_condV, s_condV, s_block_ret, s_block_normal, s_block_exit, s_block_iteN, ↓s_getp, ↓s_getp0, ↓s_get, s_get0, ↓s_con, ↓s_fn, ↓s_os0, ↓s_os1, ↓s_list0, ↓s_list1, ↓s_mov, ↓s_pick, ↓s_pickE, s_pickE, ↓s_bin, ↓s_un, ↓s_minmax, ↓s_call, ↓s_callv, ↓s_callV, ↓s_ext, s_same, b_eql, b_neq, b_lss, b_leq, b_gtr, b_geq, b_add, b_sub, b_mul, b_eqlb, b_neqb, b_fnil, b_fnil', b_fnil2, b_fnil2', u_neg, u_not, m_two, s_end, s_end', s_end_iteN, s_res0, s_res1, s_tup1, s_tup2, ↓iteN_true, ↓iteN_false, iteN_true, iteN_false, Nat.zero_add, List.nil_append, List.append_nil, Nat.reduceEqDiff, reduceIte, decide_true, decide_false, Bool.not_true, Bool.not_false, List.getElem?_cons_zero, List.getElem?_cons_succ, Bool.false_eq_true, if_true, if_false, beq_self_eq_true]
      exact rfl, ⟨i1, by rw [en]; exact (by (simp only [s_getp, s_getp0, Nat.reduceEqDiff, decide_false, decide_true, iteN_false, iteN_true, t0]; try rfl)), (by (simp only [s_getp, s_getp0, Nat.reduceEqDiff, decide_false, decide_true, iteN_false, iteN_true, t1]; try rfl)), (by (simp only [s_getp, s_getp0, Nat.reduceEqDiff, decide_false, decide_true, iteN_false, iteN_true, t5]; try rfl)), by rw [en]; exact (by (simp only [s_getp, s_getp0, Nat.reduceEqDiff, decide_false, decide_true, iteN_false, iteN_true, t32]; try rfl)), (by (simp only [s_getp, s_getp0, Nat.reduceEqDiff, decide_false, decide_true, iteN_false, iteN_true, t33]; try rfl)), ⟨_, _, _, (by (simp only [s_getp, s_getp0, Nat.reduceEqDiff, decide_false, decide_true, iteN_false, iteN_true, t6]; try rfl)), row9⟩, kf, fun y hy => by
        rw [List.take_add_one, hil] at hy
        rcases List.mem_append.1 hy with hy | hy
        · exact sm y hy
        · rcases List.mem_singleton.1 hy with rfl; exact hl⟩⟩
  obtain ⟨R0, eR0⟩ : ∃ R, R_purserlaw10_OpsPushed_0 = R := ⟨_, rfl⟩
  obtain ⟨R1, eR1⟩ : ∃ R, R_purserlaw10_OpsPushed_1 = R := ⟨_, rfl⟩
  obtain ⟨Lo, eL⟩ : ∃ R, L_purserlaw10_OpsPushed_0 = R := ⟨_, rfl⟩
  obtain ⟨n, en⟩ : ∃ n, ls.length = n := ⟨_, rfl⟩
  obtain ⟨ml, eml2⟩ : ∃ n, (mkP l).l.length = n := ⟨_, rfl⟩
  obtain ⟨mc, emc⟩ : ∃ n, (mkP l).code = n := ⟨_, rfl⟩
  obtain ⟨ll, ell⟩ : ∃ n, l.length = n := ⟨_, rfl⟩
  obtain ⟨N5, eN5⟩ : ∃ n, (oB (mkP l)).length = n := ⟨_, rfl⟩
  obtain ⟨T, I, ec⟩ : ∃ T, PK (.slice (some (q, 0)) ls.length none 1) (.slice a6 i c6 e6) (.slice a5 (oB (mkP l)).length c5 e5) cd ls.length i h1.next h5.next h6 0 T h6 ∧ evC (callX E X (M + 2)) 151 m none L_purserlaw10_OpsPushed_1 ⟨T0, [], h⟩ = bindE (blockE 1 (bindE (blockE 2 (loopN (evC (callX E X (M + 2)) 151 m none Lo) m ⟨T, [], h6⟩)) (evC (callX E X (M + 2)) 151 m none R0))) (evC (callX E X (M + 2)) 151 m none R1) := by
    rw [en] at t0 t32 c0 ix
    rw [emc, eml2] at r1 eh2 g2 g3 r3 eh4
    rw [eN5] at r5
    rw [ell] at r1 r3 cg d0 st3 stl
    refine ⟨_, ?_, by
      unfold L_purserlaw10_OpsPushed_1
      rw [eR0, eR1, eL]
      simp (config := {maxSteps := 2000000}) (disch := first | omega | (simp only [List.length_cons, List.length_nil, List.length_append, List.length_drop]; omega)) only [t0, t1, t5, t6, t32, t33, gv, gv1, gv2, gv3, cg, d0, r1, eh2, g2, r3, g3, st3, stl, sq, eh4, r5, eh6, c0, ix, z0, st2, st2r, ld2, fl2, b_sneq, Bool.not_true, ↓ns_b2s, ↓s_append, ↓s_len, x_lenS, ↓b_xor32, ↓b_and32, ↓b_or32, ↓u_not32, b_xor32, b_and32, b_or32, u_not32, w32ad, ↓x_conv, x_convV, ↓x_fieldAddr, x_fieldV, ↓s_nilchk, x_nilchk, Nat.zero_add, Nat.add_zero, Nat.mul_one, ↓s_evD, ↓s_dnil, ↓s_dL, ↓s_dLg, ↓s_dR, ↓s_dRg, ↓s_dRj, ↓s_dRjg, ↓s_dB, ↓s_dBg, ↓s_dAlloc, ↓s_bindD, s_bindD, s_finD, s_finDx, s_addP0, s_addP1, s_addB, s_lookP, ↓s_bump0, ↓s_bump_get, s_bump_next, s_ok0, ↓s_ok1, s_okR0, ↓s_okR1, ↓s_okE, s_okE, s_okE1, s_nth0, s_nthS, Nat.add_zero, Bool.and_self, Bool.and_true, Bool.true_and, ↓l_loop, ↓l_succ, ↓l_normal, l_normal, l_exit, l_ret, l_iteN, ↓h_put_get, ↓h_new_get, ↓h_del_get, h_next_put, h_next_new, h_next_del, Nat.add_assoc, Nat.add_eq_left, Nat.left_eq_add, Nat.add_left_cancel_iff, ↓s_load, m_load, ↓m_load1, m_load1, ↓m_st, m_stE, m_storeI, m_storeE, w_zero, w_succ, ↓s_alloc, ↓x_idxA, ↓x_idxS, x_idxAE, x_idxSE, x_addrE, x_idx, x_lenS, ↓s_len, ↓x_buildS, x_buildE, ↓x_P0, ↓x_P1, x_fill0, x_filli, x_fills, x_fillb, c_int, List.length_cons, List.length_nil, List.cons_append, List.drop_succ_cons, List.drop_zero, List.drop_nil, List.nil_append, Int.reduceAdd, Int.reduceToNat, Int.reduceLT, Int.reduceLE, Nat.reduceAdd, Nat.reduceMul, Nat.reduceLeDiff, Int.reduceEq, Int.reduceSub, Int.cast_ofNat_Int, s_resc, s_consR, m_load4, m_store4, s_res0, ↓s_skip, ↓s_ops, ↓s_dops, ↓s_seq, ↓s_cond, ↓s_block, ↓s_exit, ↓s_ret, ↓s_scope, ↓s_nil, ↓s_op, ↓s_opg, ↓s_wanted', ↓s_wantV, s_wantV, s_wantV0, beq_true, beq_false, ↓s_bindS, s_bindS, ↓s_bindE, s_bindE, s_bindE_ret, s_bindE_exit, s_bindE_iteN, s_norm, ↓s_condV, s_condV, s_block_ret, s_block_normal, s_block_exit, s_block_iteN, ↓s_getp, ↓s_getp0, ↓s_get, s_get0, ↓s_con, ↓s_fn, ↓s_os0, ↓s_os1, ↓s_list0, ↓s_list1, ↓s_mov, ↓s_pick, ↓s_pickE, s_pickE, ↓s_bin, ↓s_un, ↓s_minmax, ↓s_call, ↓s_callv, ↓s_callV, ↓s_ext, s_same, b_eql, b_neq, b_lss, b_leq, b_gtr, b_geq, b_add, b_sub, b_mul, b_eqlb, b_neqb, b_fnil, b_fnil', b_fnil2, b_fnil2', u_neg, u_not, m_two, s_end, s_end', s_end_iteN, s_res0, s_res1, s_tup1, s_tup2, ↓iteN_true, ↓iteN_false, iteN_true, iteN_false, Nat.zero_add, List.nil_append, List.append_nil, Nat.reduceEqDiff, reduceIte, decide_true, decide_false, Bool.not_true, Bool.not_false, List.getElem?_cons_zero, List.getElem?_cons_succ, Bool.false_eq_true, if_true, if_false, beq_self_eq_true]
      exact rfl⟩
    exact ⟨Nat.zero_le _, by rw [en]; exact (by (simp only [s_getp, s_getp0, Nat.reduceEqDiff, decide_false, decide_true, iteN_false, iteN_true, t0]; try rfl)), (by (simp only [s_getp, s_getp0, Nat.reduceEqDiff, decide_false, decide_true, iteN_false, iteN_true, t1]; try rfl)), (by (simp only [s_getp, s_getp0, Nat.reduceEqDiff, decide_false, decide_true, iteN_false, iteN_true, t5]; try rfl)), (by (simp only [s_getp, s_getp0, Nat.reduceEqDiff, decide_false, decide_true, iteN_false, iteN_true, t6]; try rfl)), (by (simp only [s_getp, s_getp0, Nat.reduceEqDiff, decide_false, decide_true, iteN_false, iteN_true, t33]; try rfl)), (by (simp only [s_getp, s_getp0, Nat.reduceEqDiff, decide_false, decide_true, iteN_false, iteN_true, t0]; try rfl)), by rw [eN5]; exact (by (simp only [s_getp, s_getp0, Nat.reduceEqDiff, decide_false, decide_true, iteN_false, iteN_true, t0]; try rfl)), (by (simp only [s_getp, s_getp0, Nat.reduceEqDiff, decide_false, decide_true, iteN_false, iteN_true, t0]; try rfl)), by rw [en]; exact (by (simp only [s_getp, s_getp0, Nat.reduceEqDiff, decide_false, decide_true, iteN_false, iteN_true, t32]; try rfl)), (by (simp only [s_getp, s_getp0, Nat.reduceEqDiff, decide_false, decide_true, iteN_false, iteN_true, t33]; try rfl)), (by (simp only [s_getp, s_getp0, Nat.reduceEqDiff, decide_false, decide_true, iteN_false, iteN_true, t0]; try rfl)), (by (simp only [s_getp, s_getp0, Nat.reduceEqDiff, decide_false, decide_true, iteN_false, iteN_true, t0]; try rfl)), (by (simp only [s_getp, s_getp0, Nat.reduceEqDiff, decide_false, decide_true, iteN_false, iteN_true, t0]; try rfl)), Kp.refl _⟩
  rw [ec, ← eR0, ← eR1, ← eL]
  exact fin T I
end Go.Eng
namespace Go.Eng
open Go
variable {E : Nat → Option Fn} {X : Orc}
set_option linter.unusedSimpArgs false
set_option linter.unusedVariables false
theorem ps_fuel : ∀ n m (b : List Nat), byt b = true → b.length ≤ n → b.length ≤ m → psV n b = psV m b := by
  intro n
  induction n with
  | zero =>
    intro m b _ h _
    obtain rfl : b = [] := List.length_eq_zero_iff.1 (by omega)
    cases m with
    | zero => rfl
    | succ m => rfl
  | succ n ih =>
    intro m b bb h1 h2
    cases m with
    | zero =>
      obtain rfl : b = [] := List.length_eq_zero_iff.1 (by omega)
      rfl
    | succ m =>
      rw [ps_succ, ps_succ]
      cases hf : fstV b with
      | none => rfl
      | some z =>
        obtain ⟨o, k⟩ := z
        obtain ⟨_, _, _, k1, _⟩ := fst_of b bb o k hf
        simp only
        rw [ih m (b.drop k) (byt_drop bb _) (by rw [List.length_drop]; omega) (by rw [List.length_drop]; omega)]
theorem ps_join : ∀ (ops : List Oq) (n : Nat) (r : List Nat), (∀ o ∈ ops, okO o = true ∧ (valV o).isSome = true) → psV (ops.length + n) (wB ops ++ r) = (wB ops).length + psV n r := by
  intro ops
  induction ops with
  | nil => intro n r _; rw [List.length_nil, Nat.zero_add]; show psV n r = _; simp [wB]
  | cons o s ih =>
    intro n r h
    obtain ⟨h1, h2⟩ := h o (List.mem_cons_self ..)
    rw [show (o :: s).length + n = (s.length + n) + 1 by rw [List.length_cons]; omega, wB_cons, List.append_assoc, ps_succ, fst_ok o h1]
    simp only
    rw [if_pos h2, List.drop_left' rfl, ih n r (fun x hx => h x (List.mem_cons_of_mem _ hx)), List.length_append, Nat.add_assoc]
theorem ps_all (ops : List Oq) (ok : ∀ o ∈ ops, o.ok) (h : ∀ o ∈ ops, okO o = true ∧ (valV o).isSome = true) (r : List Nat) (br : byt r = true) : psV (wB ops ++ r).length (wB ops ++ r) = (wB ops).length + psV r.length r := by
  have bw := byt_app (wB_byt ops ok) br
  rw [ps_fuel (wB ops ++ r).length (ops.length + ((wB ops).length + r.length)) _ bw (Nat.le_refl _) (by rw [List.length_append]; omega), ps_join ops _ r h, ps_fuel ((wB ops).length + r.length) r.length r br (by omega) (Nat.le_refl _)]
theorem ps_one (cd : Nat) (h : cd = 0 ∨ 77 < cd) : psV 1 [cd] = if (valV ⟨cd, []⟩).isSome = true then 1 else 0 := by
  have c0 : cnQ cd = 0 := by unfold cnQ; rw [if_neg (by omega), if_neg (by omega)]
  have r0 : rdN cd [] = 0 := by
    unfold rdN
    rcases h with rfl | h
    · rfl
    · rw [if_neg (by omega), if_neg (by omega), if_neg (by omega)]
  have f1 : fstV [cd] = some (⟨cd, []⟩, 1) := by
    rw [fst_cons, c0, r0]; rfl
  rw [ps_succ, f1]
  simp only
  split
  · rfl
  · rfl
set_option maxRecDepth 100000 in
set_option maxHeartbeats 4000000 in
theorem law_OpsPushed (e : EnPu E) (el : E k_purserlaw10_OpsPushed = some f_purserlaw10_OpsPushed) (N : Nat) (hN : 10000 ≤ N) (ls : List (List Nat)) (bl : ∀ l ∈ ls, byt l = true) (cd : Nat) (hcd : cd < 256) (hlen : ls.length < 9223372036854775807) (hls : ∀ l ∈ ls, l.length < 9223372036854775807) (a : Option (Nat × Nat)) (h : H) (lh : LsH h a ls) :
    ∃ h2, callX E (alX k_purserlaw10_alive) (N + 201) (.fn k_purserlaw10_OpsPushed) [.slice a ls.length none 1, .int .u8 (cd : Int)] h = some (.bool true, h2) := by
  rw [x_cfn el _ _ (Nat.le_of_ble_eq_true rfl) rfl]
  have x : NoPu (alX k_purserlaw10_alive) := ⟨al_op, fun _ _ => rfl, fun _ _ => rfl, fun _ _ => rfl⟩
  have al : ∀ h, callX E (alX k_purserlaw10_alive) (N + 200) (.fn k_purserlaw10_alive) [] h = some (.bool true, h) := fun h => x_known (pureX_yes h rfl)
  by_cases h3 : 3 < ls.length
  · have d0 : decide ((3 : Int) < (ls.length : Int)) = true := decide_eq_true (by omega)
    generalize ls.length = n at *
    simp (config := {maxSteps := 2000000}) (disch := first | omega | rfl | (simp only [ofI_len, List.length_append, List.length_take, List.length_drop, List.length_cons, List.length_nil, List.length_replicate, List.length_set]; done) | (simp only [ofI_len, List.length_append, List.length_take, List.length_drop, List.length_cons, List.length_nil, List.length_replicate, List.length_set]; omega)) only [al, d0, ↓s_len, x_lenS, ↓b_xor32, ↓b_and32, ↓b_or32, ↓u_not32, b_xor32, b_and32, b_or32, u_not32, w32ad, ↓x_conv, x_convV, ↓x_fieldAddr, x_fieldV, ↓s_nilchk, x_nilchk, Nat.zero_add, Nat.add_zero, Nat.mul_one, ↓s_evD, ↓s_dnil, ↓s_dL, ↓s_dLg, ↓s_dR, ↓s_dRg, ↓s_dRj, ↓s_dRjg, ↓s_dB, ↓s_dBg, ↓s_dAlloc, ↓s_bindD, s_bindD, s_finD, s_finDx, s_addP0, s_addP1, s_addB, s_lookP, ↓s_bump0, ↓s_bump_get, s_bump_next, s_ok0, ↓s_ok1, s_okR0, ↓s_okR1, ↓s_okE, s_okE, s_okE1, s_nth0, s_nthS, Nat.add_zero, Bool.and_self, Bool.and_true, Bool.true_and, ↓l_loop, ↓l_succ, ↓l_normal, l_normal, l_exit, l_ret, l_iteN, ↓h_put_get, ↓h_new_get, ↓h_del_get, h_next_put, h_next_new, h_next_del, Nat.add_assoc, Nat.add_eq_left, Nat.left_eq_add, Nat.add_left_cancel_iff, ↓s_load, m_load, ↓m_load1, m_load1, ↓m_st, m_stE, m_storeI, m_storeE, ↓s_alloc, ↓x_idxA, ↓x_idxS, x_idxAE, x_idxSE, x_addrE, x_idx, x_lenS, ↓s_len, ↓x_buildS, x_buildE, ↓x_P0, ↓x_P1, x_fill0, x_filli, x_fills, x_fillb, c_int, List.length_cons, List.length_nil, List.cons_append, List.drop_succ_cons, List.drop_zero, List.drop_nil, List.nil_append, Int.reduceAdd, Int.reduceToNat, Int.reduceLT, Int.reduceLE, Nat.reduceAdd, Nat.reduceMul, Nat.reduceLeDiff, Int.reduceEq, Int.reduceSub, Int.cast_ofNat_Int, s_resc, s_consR, m_load4, m_store4, s_res0, ↓s_skip, ↓s_ops, ↓s_dops, ↓s_seq, ↓s_cond, ↓s_block, ↓s_exit, ↓s_ret, ↓s_scope, ↓s_nil, ↓s_op, ↓s_opg, ↓s_wanted', ↓s_wantV, s_wantV, s_wantV0, beq_true, beq_false, ↓s_bindS, s_bindS, ↓s_bindE, s_bindE, s_bindE_ret, s_bindE_exit, s_bindE_iteN, s_norm, ↓s_condV, s_condV, s_block_ret, s_block_normal, s_block_exit, s_block_iteN, ↓s_getp, ↓s_getp0, ↓s_get, s_get0, ↓s_con, ↓s_fn, ↓s_os0, ↓s_os1, ↓s_list0, ↓s_list1, ↓s_mov, ↓s_pick, ↓s_pickE, s_pickE, ↓s_bin, ↓s_un, ↓s_minmax, ↓s_call, ↓s_callv, ↓s_callV, ↓s_ext, s_same, b_eql, b_neq, b_lss, b_leq, b_gtr, b_geq, b_add, b_sub, b_mul, b_eqlb, b_neqb, b_fnil, b_fnil', b_fnil2, b_fnil2', u_neg, u_not, m_two, s_end, s_end', s_end_iteN, s_res0, s_res1, s_tup1, s_tup2, ↓iteN_true, ↓iteN_false, iteN_true, iteN_false, Nat.zero_add, List.nil_append, List.append_nil, Nat.reduceEqDiff, reduceIte, decide_true, decide_false, Bool.not_true, Bool.not_false, List.getElem?_cons_zero, List.getElem?_cons_succ, Bool.false_eq_true, if_true, if_false, beq_self_eq_true]
    exact ⟨_, rfl⟩
  have d0 : decide ((3 : Int) < (ls.length : Int)) = false := decide_eq_false (by omega)
  have fin : ∀ T, PuL (.slice a ls.length none 1) ls cd h 0 T h → ∃ h2, fnEnd [.tmp 4] (bindE (blockE 0 (loopN (evC (callX E (alX k_purserlaw10_alive) (N + 200)) 151 (N + 200) none L_purserlaw10_OpsPushed_1) (N + 200) ⟨T, [], h⟩)) (evC (callX E (alX k_purserlaw10_alive) (N + 200)) 151 (N + 200) none R_purserlaw10_OpsPushed_2)) = some (.bool true, h2) := by
    intro T I
    have dec : (∀ l ∈ ls, l.length ≤ 2000) ∨ ∃ (j : Nat) (l : List Nat), ls[j]? = some l ∧ 2000 < l.length ∧ ∀ (i : Nat) (l' : List Nat), i < j → ls[i]? = some l' → l'.length ≤ 2000 := by
      clear bl hls lh I h3 d0 hlen
      induction ls with
      | nil => exact .inl (fun l hl => by cases hl)
      | cons a r ih =>
        by_cases ha : a.length ≤ 2000
        · rcases ih with ih | ⟨j, l, h1, h2, h3⟩
          · exact .inl (fun l hl => by rcases List.mem_cons.1 hl with rfl | hl; exact ha; exact ih l hl)
          · refine .inr ⟨j + 1, l, by simpa using h1, h2, fun i l' hi hl' => ?_⟩
            cases i with
            | zero => simp at hl'; subst hl'; exact ha
            | succ i => simp at hl'; exact h3 i l' (by omega) hl'
        · exact .inr ⟨0, a, rfl, by omega, fun i _ hi => by omega⟩
    rcases dec with sm | ⟨j, l, hj, hl, hb⟩
    · obtain ⟨T', h', rr, J⟩ := loop_go (f := evC (callX E (alX k_purserlaw10_alive) (N + 200)) 151 (N + 200) none L_purserlaw10_OpsPushed_1) (PuL (.slice a ls.length none 1) ls cd h) ls.length (.exit 0) (by intro h; cases h) (PuL (.slice a ls.length none 1) ls cd h ls.length) (fun i T h' hi I => by
        obtain ⟨l, hil⟩ : ∃ l, ls[i]? = some l := ⟨_, List.getElem?_eq_getElem hi⟩
        have ml := List.mem_of_getElem? hil
        exact pi_step e x (N + 198) (N + 200) (by omega) (by omega) cd ls (by omega) a h lh i l hil (sm l ml) (bl l ml) T h' I) (fun T h' I => by
        obtain ⟨il, t0, t1, t5, t32, t33, ⟨a6, c6, e6, t6, row⟩, kp, sm'⟩ := I
        have c0 : decide ((ls.length : Int) < (ls.length : Int)) = false := decide_eq_false (by omega)
        obtain ⟨n, en⟩ : ∃ n, ls.length = n := ⟨_, rfl⟩
        rw [en] at t0 t6 t32 t33 c0
        exact ⟨_, _, by
          simp (config := {maxSteps := 2000000}) (disch := first | omega | (simp only [List.length_cons, List.length_nil, List.length_append, List.length_drop]; omega)) only [L_purserlaw10_OpsPushed_1, t32, t33, c0, ↓b_xor32, ↓b_and32, ↓b_or32, ↓u_not32, b_xor32, b_and32, b_or32, u_not32, w32ad, ↓x_conv, x_convV, ↓x_fieldAddr, x_fieldV, ↓s_nilchk, x_nilchk, Nat.zero_add, Nat.add_zero, Nat.mul_one, ↓l_loop, ↓l_succ, ↓l_normal, l_normal, l_exit, l_ret, l_iteN, ↓h_put_get, ↓h_new_get, ↓h_del_get, h_next_put, h_next_new, h_next_del, Nat.add_assoc, Nat.add_eq_left, Nat.left_eq_add, Nat.add_left_cancel_iff, ↓s_load, m_load, ↓m_load1, m_load1, ↓m_st, m_stE, m_storeI, m_storeE, w_zero, w_succ, ↓s_alloc, ↓x_idxA, ↓x_idxS, x_idxAE, x_idxSE, x_addrE, x_idx, x_lenS, ↓s_len, ↓x_buildS, x_buildE, ↓x_P0, ↓x_P1, x_fill0, x_filli, x_fills, x_fillb, c_int, List.length_cons, List.length_nil, List.cons_append, List.drop_succ_cons, List.drop_zero, List.drop_nil, List.nil_append, Int.reduceAdd, Int.reduceToNat, Int.reduceLT, Int.reduceLE, Nat.reduceAdd, Nat.reduceMul, Nat.reduceLeDiff, Int.reduceEq, Int.reduceSub, Int.cast_ofNat_Int, s_resc, s_consR, m_load4, m_store4, s_res0, ↓s_skip, ↓s_ops, ↓s_dops, ↓s_seq, ↓s_cond, ↓s_block, ↓s_exit, ↓s_ret, ↓s_scope, ↓s_nil, ↓s_op, ↓s_opg, ↓s_wanted', ↓s_wantV, s_wantV, s_wantV0, beq_true, beq_false, ↓s_bindS, s_bindS, ↓s_bindE, s_bindE, s_bindE_ret, s_bindE_exit, s_bindE_iteN, s_norm, ↓s_condV, s_condV, s_block_ret, s_block_normal, s_block_exit, s_block_iteN, ↓s_getp, ↓s_getp0, ↓s_get, s_get0, ↓s_con, ↓s_fn, ↓s_os0, ↓s_os1, ↓s_list0, ↓s_list1, ↓s_mov, ↓s_pick, ↓s_pickE, s_pickE, ↓s_bin, ↓s_un, ↓s_minmax, ↓s_call, ↓s_callv, ↓s_callV, ↓s_ext, s_same, b_eql, b_neq, b_lss, b_leq, b_gtr, b_geq, b_add, b_sub, b_mul, b_eqlb, b_neqb, b_fnil, b_fnil', b_fnil2, b_fnil2', u_neg, u_not, m_two, s_end, s_end', s_end_iteN, s_res0, s_res1, s_tup1, s_tup2, ↓iteN_true, ↓iteN_false, iteN_true, iteN_false, Nat.zero_add, List.nil_append, List.append_nil, Nat.reduceEqDiff, reduceIte, decide_true, decide_false, Bool.not_true, Bool.not_false, List.getElem?_cons_zero, List.getElem?_cons_succ, Bool.false_eq_true, if_true, if_false, beq_self_eq_true]
          exact rfl, ⟨il, by rw [en]; exact (by (simp only [s_getp, s_getp0, Nat.reduceEqDiff, decide_false, decide_true, iteN_false, iteN_true, t0]; try rfl)), (by (simp only [s_getp, s_getp0, Nat.reduceEqDiff, decide_false, decide_true, iteN_false, iteN_true, t1]; try rfl)), (by (simp only [s_getp, s_getp0, Nat.reduceEqDiff, decide_false, decide_true, iteN_false, iteN_true, t5]; try rfl)), by rw [en]; exact (by (simp only [s_getp, s_getp0, Nat.reduceEqDiff, decide_false, decide_true, iteN_false, iteN_true, t32]; try rfl)), by rw [en]; exact (by (simp only [s_getp, s_getp0, Nat.reduceEqDiff, decide_false, decide_true, iteN_false, iteN_true, t33]; try rfl)), ⟨a6, c6, e6, by rw [en]; exact (by (simp only [s_getp, s_getp0, Nat.reduceEqDiff, decide_false, decide_true, iteN_false, iteN_true, t6]; try rfl)), row⟩, kp, sm'⟩⟩) ls.length 0 (by omega) (N + 200) (by omega) T h I
      rw [rr]
      obtain ⟨_, t0, t1, t5, t32, t33, ⟨a6, c6, e6, t6, row⟩, kp, _⟩ := J
      rw [List.take_length] at row
      obtain ⟨all, eall⟩ : ∃ x, ls.map mkP = x := ⟨_, rfl⟩
      rw [eall] at row
      have la : all.length = ls.length := by rw [← eall, List.length_map]
      have oka : ∀ o ∈ all, o.ok := fun o ho => by
        rw [← eall] at ho
        obtain ⟨l, hl, rfl⟩ := List.mem_map.1 ho
        exact mkP_ok l (bl l hl)
      have ova : ∀ o ∈ all, okO o = true ∧ (valV o).isSome = true := fun o ho => by
        rw [← eall] at ho
        obtain ⟨l, hl, rfl⟩ := List.mem_map.1 ho
        have := sm l hl
        exact ⟨mkP_may l (by omega), by rw [mkP_val l (by omega)]; rfl⟩
      have gqa : ∀ o ∈ all, o.l.length ≤ 2000 := fun o ho => by
        rw [← eall] at ho
        obtain ⟨l, hl, rfl⟩ := List.mem_map.1 ho
        exact sm l hl
      have gl := gq_le all 2000 gqa
      have wl := wB_le all
      have ba := wB_byt all oka
      have lw : (wB all).length ≤ 7000 := by rw [la] at gl wl; have : ls.length * 2000 ≤ 3 * 2000 := Nat.mul_le_mul_right _ (by omega); omega
      obtain ⟨h1, a1, c1, e1, r1, nw1⟩ := join_go e.op x.op (N + 198) all (by omega) (by omega) (by omega) (by omega) (fun o ho => (oka o ho).cl) a6 c6 e6 h' row.row
      have hja : joR all = (wB all, 0) := by unfold joR; rw [if_pos (List.all_eq_true.2 (fun o ho => (ova o ho).1))]
      rw [hja, la] at r1
      rw [hja] at nw1
      simp only at r1 nw1
      obtain ⟨h2, a2, c2, e2, r2, k2, _, _⟩ := value_go e.op x.op e.va x.va (N + 198) ⟨cd, []⟩ ⟨hcd, rfl⟩ (by simp) none (some 0) 0 h1 (.inl rfl)
      simp only [List.length_nil] at r2
      have nwk := nw1.more k2
      have cn : ∀ {w : List Nat} {aa : Option (Nat × Nat)} {cc : Option Nat} {ee : Nat} {hh : H}, Wb hh w aa cc ee → w ≠ [] → cc = none := fun w hne => by
        rcases w with ⟨w1, _⟩ | ⟨_, _, _, _, w3, _⟩
        · exact absurd w1 hne
        · exact w3
      obtain ⟨h3', r3, k3⟩ := pushes_go e.op x.op e.va x.va e.ps x.ps (N + 187) (wB all) ba (by omega) (by omega) a1 c1 e1 (cn nw1.wb) h2 nwk.wb.src
      have p1 : psV (wB all).length (wB all) = (wB all).length := by
        have := ps_all all oka ova [] rfl
        rw [List.append_nil] at this
        rw [this]; rfl
      rw [decide_eq_true p1] at r3
      have z0 : decide ((0 : Int) = 0) = true := rfl
      replace r3 : callX E (alX k_purserlaw10_alive) (N + 200) (.fn k_ops_Pushes) [.slice a1 (wB all).length c1 e1] h2 = _ := r3
      obtain ⟨vl, evl⟩ : ∃ v, ((valV ⟨cd, []⟩).getD []).length = v := ⟨_, rfl⟩
      rw [evl] at r2
      by_cases hc : 1 ≤ cd ∧ cd ≤ 77
      · have d1 : decide ((1 : Int) ≤ (cd : Int)) = true := decide_eq_true (by omega)
        have d2 : decide ((cd : Int) ≤ 77) = true := decide_eq_true (by omega)
        generalize (wB all).length = W at *
        generalize (valV ⟨cd, []⟩).isSome = pu at *
        generalize ls.length = n at *
        simp (config := {maxSteps := 2000000}) (disch := first | omega | rfl | (simp only [ofI_len, List.length_append, List.length_take, List.length_drop, List.length_cons, List.length_nil, List.length_replicate, List.length_set]; done) | (simp only [ofI_len, List.length_append, List.length_take, List.length_drop, List.length_cons, List.length_nil, List.length_replicate, List.length_set]; omega)) only [R_purserlaw10_OpsPushed_2, t1, t5, t6, r1, r2, r3, z0, d1, d2, x_build, x_aggO, x_P0, x_P1, x_fill0, x_fills, x_fillb, x_filli, w_c0, ↓s_append, ↓s_len, x_lenS, ↓b_xor32, ↓b_and32, ↓b_or32, ↓u_not32, b_xor32, b_and32, b_or32, u_not32, w32ad, ↓x_conv, x_convV, ↓x_fieldAddr, x_fieldV, ↓s_nilchk, x_nilchk, Nat.zero_add, Nat.add_zero, Nat.mul_one, ↓s_evD, ↓s_dnil, ↓s_dL, ↓s_dLg, ↓s_dR, ↓s_dRg, ↓s_dRj, ↓s_dRjg, ↓s_dB, ↓s_dBg, ↓s_dAlloc, ↓s_bindD, s_bindD, s_finD, s_finDx, s_addP0, s_addP1, s_addB, s_lookP, ↓s_bump0, ↓s_bump_get, s_bump_next, s_ok0, ↓s_ok1, s_okR0, ↓s_okR1, ↓s_okE, s_okE, s_okE1, s_nth0, s_nthS, Nat.add_zero, Bool.and_self, Bool.and_true, Bool.true_and, ↓l_loop, ↓l_succ, ↓l_normal, l_normal, l_exit, l_ret, l_iteN, ↓h_put_get, ↓h_new_get, ↓h_del_get, h_next_put, h_next_new, h_next_del, Nat.add_assoc, Nat.add_eq_left, Nat.left_eq_add, Nat.add_left_cancel_iff, ↓s_load, m_load, ↓m_load1, m_load1, ↓m_st, m_stE, m_storeI, m_storeE, w_zero, w_succ, ↓s_alloc, ↓x_idxA, ↓x_idxS, x_idxAE, x_idxSE, x_addrE, x_idx, x_lenS, ↓s_len, ↓x_buildS, x_buildE, ↓x_P0, ↓x_P1, x_fill0, x_filli, x_fills, x_fillb, c_int, List.length_cons, List.length_nil, List.cons_append, List.drop_succ_cons, List.drop_zero, List.drop_nil, List.nil_append, Int.reduceAdd, Int.reduceToNat, Int.reduceLT, Int.reduceLE, Nat.reduceAdd, Nat.reduceMul, Nat.reduceLeDiff, Int.reduceEq, Int.reduceSub, Int.cast_ofNat_Int, s_resc, s_consR, m_load4, m_store4, s_res0, ↓s_skip, ↓s_ops, ↓s_dops, ↓s_seq, ↓s_cond, ↓s_block, ↓s_exit, ↓s_ret, ↓s_scope, ↓s_nil, ↓s_op, ↓s_opg, ↓s_wanted', ↓s_wantV, s_wantV, s_wantV0, beq_true, beq_false, ↓s_bindS, s_bindS, ↓s_bindE, s_bindE, s_bindE_ret, s_bindE_exit, s_bindE_iteN, s_norm, ↓s_condV, s_condV, s_block_ret, s_block_normal, s_block_exit, s_block_iteN, ↓s_getp, ↓s_getp0, ↓s_get, s_get0, ↓s_con, ↓s_fn, ↓s_os0, ↓s_os1, ↓s_list0, ↓s_list1, ↓s_mov, ↓s_pick, ↓s_pickE, s_pickE, ↓s_bin, ↓s_un, ↓s_minmax, ↓s_call, ↓s_callv, ↓s_callV, ↓s_ext, s_same, b_eql, b_neq, b_lss, b_leq, b_gtr, b_geq, b_add, b_sub, b_mul, b_eqlb, b_neqb, b_fnil, b_fnil', b_fnil2, b_fnil2', u_neg, u_not, m_two, s_end, s_end', s_end_iteN, s_res0, s_res1, s_tup1, s_tup2, ↓iteN_true, ↓iteN_false, iteN_true, iteN_false, Nat.zero_add, List.nil_append, List.append_nil, Nat.reduceEqDiff, reduceIte, decide_true, decide_false, Bool.not_true, Bool.not_false, List.getElem?_cons_zero, List.getElem?_cons_succ, Bool.false_eq_true, if_true, if_false, beq_self_eq_true]
        exact ⟨_, rfl⟩
      · have hz : cd = 0 ∨ 77 < cd := by omega
        obtain ⟨h4, e4⟩ : ∃ h4, h3'.new (.cells [.int .u8 (cd : Int)] .rw) = h4 := ⟨_, rfl⟩
        have k4 : Kp h3' h4 := by rw [← e4]; exact Kp.new _ _
        have sc4 : srcCells h4 1 (.slice (some (h3'.next, 0)) 1 (some 1) 1) = some (1, ofI .u8 [cd]) := by rw [← e4]; exact src1 h3' cd
        obtain ⟨a5, c5, e5, h5, ap5, nw5, _, _, _⟩ := ((nwk.more k3).more k4).ap [cd] (by simp; omega)
        have b5 : byt (wB all ++ [cd]) = true := byt_app ba (byt_iff.2 (fun y hy => by rcases List.mem_singleton.1 hy with rfl; exact hcd))
        have l5 : (wB all ++ [cd]).length = (wB all).length + 1 := by simp
        obtain ⟨h6, r6, k6⟩ := pushes_go e.op x.op e.va x.va e.ps x.ps (N + 187) (wB all ++ [cd]) b5 (by omega) (by omega) a5 c5 e5 (cn nw5.wb) h5 nw5.wb.src
        have p2 : decide (psV (wB all ++ [cd]).length (wB all ++ [cd]) = (wB all ++ [cd]).length) = (valV ⟨cd, []⟩).isSome := by
          rw [ps_all all oka ova [cd] (byt_iff.2 (fun y hy => by rcases List.mem_singleton.1 hy with rfl; exact hcd)), l5]
          show decide ((wB all).length + psV 1 [cd] = _) = _
          rw [ps_one cd hz]
          cases (valV ⟨cd, []⟩).isSome with
          | true => rw [if_pos rfl]; exact decide_eq_true rfl
          | false => rw [if_neg (by simp)]; exact decide_eq_false (by omega)
        rw [p2] at r6
        replace r6 : callX E (alX k_purserlaw10_alive) (N + 200) (.fn k_ops_Pushes) [.slice a5 (wB all ++ [cd]).length c5 e5] h5 = _ := r6
        replace ap5 : appendC h4 1 1 (.slice a1 (wB all).length c1 e1) (some (1, ofI .u8 [cd])) = _ := ap5
        generalize (wB all ++ [cd]).length = W5 at *
        generalize (wB all).length = W at *
        generalize (valV ⟨cd, []⟩).isSome = pu at *
        generalize ls.length = n at *
        have eqb : ∀ e h, binV .eql (.bool) h (.bool e) (.bool e) = some (.bool true) := fun e h => by cases e <;> rfl
        rcases hz with hz | hz
        · have d1 : decide ((1 : Int) ≤ (cd : Int)) = false := decide_eq_false (by omega)
          simp (config := {maxSteps := 2000000}) (disch := first | omega | rfl | (simp only [ofI_len, List.length_append, List.length_take, List.length_drop, List.length_cons, List.length_nil, List.length_replicate, List.length_set]; done) | (simp only [ofI_len, List.length_append, List.length_take, List.length_drop, List.length_cons, List.length_nil, List.length_replicate, List.length_set]; omega)) only [R_purserlaw10_OpsPushed_2, t1, t5, t6, r1, r2, r3, z0, d1, e4, sc4, ap5, r6, eqb, x_build, x_aggO, x_P0, x_P1, x_fill0, x_fills, x_fillb, x_filli, w_c0, ↓s_append, ↓s_len, x_lenS, ↓b_xor32, ↓b_and32, ↓b_or32, ↓u_not32, b_xor32, b_and32, b_or32, u_not32, w32ad, ↓x_conv, x_convV, ↓x_fieldAddr, x_fieldV, ↓s_nilchk, x_nilchk, Nat.zero_add, Nat.add_zero, Nat.mul_one, ↓s_evD, ↓s_dnil, ↓s_dL, ↓s_dLg, ↓s_dR, ↓s_dRg, ↓s_dRj, ↓s_dRjg, ↓s_dB, ↓s_dBg, ↓s_dAlloc, ↓s_bindD, s_bindD, s_finD, s_finDx, s_addP0, s_addP1, s_addB, s_lookP, ↓s_bump0, ↓s_bump_get, s_bump_next, s_ok0, ↓s_ok1, s_okR0, ↓s_okR1, ↓s_okE, s_okE, s_okE1, s_nth0, s_nthS, Nat.add_zero, Bool.and_self, Bool.and_true, Bool.true_and, ↓l_loop, ↓l_succ, ↓l_normal, l_normal, l_exit, l_ret, l_iteN, ↓h_put_get, ↓h_new_get, ↓h_del_get, h_next_put, h_next_new, h_next_del, Nat.add_assoc, Nat.add_eq_left, Nat.left_eq_add, Nat.add_left_cancel_iff, ↓s_load, m_load, ↓m_load1, m_load1, ↓m_st, m_stE, m_storeI, m_storeE, w_zero, w_succ, ↓s_alloc, ↓x_idxA, ↓x_idxS, x_idxAE, x_idxSE, x_addrE, x_idx, x_lenS, ↓s_len, ↓x_buildS, x_buildE, ↓x_P0, ↓x_P1, x_fill0, x_filli, x_fills, x_fillb, c_int, List.length_cons, List.length_nil, List.cons_append, List.drop_succ_cons, List.drop_zero, List.drop_nil, List.nil_append, Int.reduceAdd, Int.reduceToNat, Int.reduceLT, Int.reduceLE, Nat.reduceAdd, Nat.reduceMul, Nat.reduceLeDiff, Int.reduceEq, Int.reduceSub, Int.cast_ofNat_Int, s_resc, s_consR, m_load4, m_store4, s_res0, ↓s_skip, ↓s_ops, ↓s_dops, ↓s_seq, ↓s_cond, ↓s_block, ↓s_exit, ↓s_ret, ↓s_scope, ↓s_nil, ↓s_op, ↓s_opg, ↓s_wanted', ↓s_wantV, s_wantV, s_wantV0, beq_true, beq_false, ↓s_bindS, s_bindS, ↓s_bindE, s_bindE, s_bindE_ret, s_bindE_exit, s_bindE_iteN, s_norm, ↓s_condV, s_condV, s_block_ret, s_block_normal, s_block_exit, s_block_iteN, ↓s_getp, ↓s_getp0, ↓s_get, s_get0, ↓s_con, ↓s_fn, ↓s_os0, ↓s_os1, ↓s_list0, ↓s_list1, ↓s_mov, ↓s_pick, ↓s_pickE, s_pickE, ↓s_bin, ↓s_un, ↓s_minmax, ↓s_call, ↓s_callv, ↓s_callV, ↓s_ext, s_same, b_eql, b_neq, b_lss, b_leq, b_gtr, b_geq, b_add, b_sub, b_mul, b_eqlb, b_neqb, b_fnil, b_fnil', b_fnil2, b_fnil2', u_neg, u_not, m_two, s_end, s_end', s_end_iteN, s_res0, s_res1, s_tup1, s_tup2, ↓iteN_true, ↓iteN_false, iteN_true, iteN_false, Nat.zero_add, List.nil_append, List.append_nil, Nat.reduceEqDiff, reduceIte, decide_true, decide_false, Bool.not_true, Bool.not_false, List.getElem?_cons_zero, List.getElem?_cons_succ, Bool.false_eq_true, if_true, if_false, beq_self_eq_true]
          exact ⟨_, rfl⟩
        · have d1 : decide ((1 : Int) ≤ (cd : Int)) = true := decide_eq_true (by omega)
          have d2 : decide ((cd : Int) ≤ 77) = false := decide_eq_false (by omega)
          simp (config := {maxSteps := 2000000}) (disch := first | omega | rfl | (simp only [ofI_len, List.length_append, List.length_take, List.length_drop, List.length_cons, List.length_nil, List.length_replicate, List.length_set]; done) | (simp only [ofI_len, List.length_append, List.length_take, List.length_drop, List.length_cons, List.length_nil, List.length_replicate, List.length_set]; omega)) only [R_purserlaw10_OpsPushed_2, t1, t5, t6, r1, r2, r3, z0, d1, d2, e4, sc4, ap5, r6, eqb, x_build, x_aggO, x_P0, x_P1, x_fill0, x_fills, x_fillb, x_filli, w_c0, ↓s_append, ↓s_len, x_lenS, ↓b_xor32, ↓b_and32, ↓b_or32, ↓u_not32, b_xor32, b_and32, b_or32, u_not32, w32ad, ↓x_conv, x_convV, ↓x_fieldAddr, x_fieldV, ↓s_nilchk, x_nilchk, Nat.zero_add, Nat.add_zero, Nat.mul_one, ↓s_evD, ↓s_dnil, ↓s_dL, ↓s_dLg, ↓s_dR, ↓s_dRg, ↓s_dRj, ↓s_dRjg, ↓s_dB, ↓s_dBg, ↓s_dAlloc, ↓s_bindD, s_bindD, s_finD, s_finDx, s_addP0, s_addP1, s_addB, s_lookP, ↓s_bump0, ↓s_bump_get, s_bump_next, s_ok0, ↓s_ok1, s_okR0, ↓s_okR1, ↓s_okE, s_okE, s_okE1, s_nth0, s_nthS, Nat.add_zero, Bool.and_self, Bool.and_true, Bool.true_and, ↓l_loop, ↓l_succ, ↓l_normal, l_normal, l_exit, l_ret, l_iteN, ↓h_put_get, ↓h_new_get, ↓h_del_get, h_next_put, h_next_new, h_next_del, Nat.add_assoc, Nat.add_eq_left, Nat.left_eq_add, Nat.add_left_cancel_iff, ↓s_load, m_load, ↓m_load1, m_load1, ↓m_st, m_stE, m_storeI, m_storeE, w_zero, w_succ, ↓s_alloc, ↓x_idxA, ↓x_idxS, x_idxAE, x_idxSE, x_addrE, x_idx, x_lenS, ↓s_len, ↓x_buildS, x_buildE, ↓x_P0, ↓x_P1, x_fill0, x_filli, x_fills, x_fillb, c_int, List.length_cons, List.length_nil, List.cons_append, List.drop_succ_cons, List.drop_zero, List.drop_nil, List.nil_append, Int.reduceAdd, Int.reduceToNat, Int.reduceLT, Int.reduceLE, Nat.reduceAdd, Nat.reduceMul, Nat.reduceLeDiff, Int.reduceEq, Int.reduceSub, Int.cast_ofNat_Int, s_resc, s_consR, m_load4, m_store4, s_res0, ↓s_skip, ↓s_ops, ↓s_dops, ↓s_seq, ↓s_cond, ↓s_block, ↓s_exit, ↓s_ret, ↓s_scope, ↓s_nil, ↓s_op, ↓s_opg, ↓s_wanted', ↓s_wantV, s_wantV, s_wantV0, beq_true, beq_false, ↓s_bindS, s_bindS, ↓s_bindE, s_bindE, s_bindE_ret, s_bindE_exit, s_bindE_iteN, s_norm, ↓s_condV, s_condV, s_block_ret, s_block_normal, s_block_exit, s_block_iteN, ↓s_getp, ↓s_getp0, ↓s_get, s_get0, ↓s_con, ↓s_fn, ↓s_os0, ↓s_os1, ↓s_list0, ↓s_list1, ↓s_mov, ↓s_pick, ↓s_pickE, s_pickE, ↓s_bin, ↓s_un, ↓s_minmax, ↓s_call, ↓s_callv, ↓s_callV, ↓s_ext, s_same, b_eql, b_neq, b_lss, b_leq, b_gtr, b_geq, b_add, b_sub, b_mul, b_eqlb, b_neqb, b_fnil, b_fnil', b_fnil2, b_fnil2', u_neg, u_not, m_two, s_end, s_end', s_end_iteN, s_res0, s_res1, s_tup1, s_tup2, ↓iteN_true, ↓iteN_false, iteN_true, iteN_false, Nat.zero_add, List.nil_append, List.append_nil, Nat.reduceEqDiff, reduceIte, decide_true, decide_false, Bool.not_true, Bool.not_false, List.getElem?_cons_zero, List.getElem?_cons_succ, Bool.false_eq_true, if_true, if_false, beq_self_eq_true]
          exact ⟨_, rfl⟩
    · have hjl : j < ls.length := (List.getElem?_eq_some_iff.1 hj).1
      obtain ⟨T', h', rr, u4⟩ := loop_go (f := evC (callX E (alX k_purserlaw10_alive) (N + 200)) 151 (N + 200) none L_purserlaw10_OpsPushed_1) (PuL (.slice a ls.length none 1) ls cd h) j .ret (by intro h; cases h) (fun T _ => evO T (.t 4) = .bool true) (fun i T h' hi I => by
        obtain ⟨l, hil⟩ : ∃ l, ls[i]? = some l := ⟨_, List.getElem?_eq_getElem (by omega)⟩
        have ml := List.mem_of_getElem? hil
        exact pi_step e x (N + 198) (N + 200) (by omega) (by omega) cd ls (by omega) a h lh i l hil (hb i l hi hil) (bl l ml) T h' I) (fun T h' I => pi_bad _ (N + 200) cd ls (by omega) a h lh hls j l hj hl T h' I) j 0 (by omega) (N + 200) (by omega) T h I
      rw [rr]
      simp (config := {maxSteps := 2000000}) (disch := first | omega | rfl | (simp only [ofI_len, List.length_append, List.length_take, List.length_drop, List.length_cons, List.length_nil, List.length_replicate, List.length_set]; done) | (simp only [ofI_len, List.length_append, List.length_take, List.length_drop, List.length_cons, List.length_nil, List.length_replicate, List.length_set]; omega)) only [u4, ↓b_xor32, ↓b_and32, ↓b_or32, ↓u_not32, b_xor32, b_and32, b_or32, u_not32, w32ad, ↓x_conv, x_convV, ↓x_fieldAddr, x_fieldV, ↓s_nilchk, x_nilchk, Nat.zero_add, Nat.add_zero, Nat.mul_one, ↓l_loop, ↓l_succ, ↓l_normal, l_normal, l_exit, l_ret, l_iteN, ↓h_put_get, ↓h_new_get, ↓h_del_get, h_next_put, h_next_new, h_next_del, Nat.add_assoc, Nat.add_eq_left, Nat.left_eq_add, Nat.add_left_cancel_iff, ↓s_load, m_load, ↓m_load1, m_load1, ↓m_st, m_stE, m_storeI, m_storeE, w_zero, w_succ, ↓s_alloc, ↓x_idxA, ↓x_idxS, x_idxAE, x_idxSE, x_addrE, x_idx, x_lenS, ↓s_len, ↓x_buildS, x_buildE, ↓x_P0, ↓x_P1, x_fill0, x_filli, x_fills, x_fillb, c_int, List.length_cons, List.length_nil, List.cons_append, List.drop_succ_cons, List.drop_zero, List.drop_nil, List.nil_append, Int.reduceAdd, Int.reduceToNat, Int.reduceLT, Int.reduceLE, Nat.reduceAdd, Nat.reduceMul, Nat.reduceLeDiff, Int.reduceEq, Int.reduceSub, Int.cast_ofNat_Int, s_resc, s_consR, m_load4, m_store4, s_res0, ↓s_skip, ↓s_ops, ↓s_dops, ↓s_seq, ↓s_cond, ↓s_block, ↓s_exit, ↓s_ret, ↓s_scope, ↓s_nil, ↓s_op, ↓s_opg, ↓s_wanted', ↓s_wantV, s_wantV, s_wantV0, beq_true, beq_false, ↓s_bindS, s_bindS, ↓s_bindE, s_bindE, s_bindE_ret, s_bindE_exit, s_bindE_iteN, s_norm, ↓s_condV, s_condV, s_block_ret, s_block_normal, s_block_exit, s_block_iteN, ↓s_getp, ↓s_getp0, ↓s_get, s_get0, ↓s_con, ↓s_fn, ↓s_os0, ↓s_os1, ↓s_list0, ↓s_list1, ↓s_mov, ↓s_pick, ↓s_pickE, s_pickE, ↓s_bin, ↓s_un, ↓s_minmax, ↓s_call, ↓s_callv, ↓s_callV, ↓s_ext, s_same, b_eql, b_neq, b_lss, b_leq, b_gtr, b_geq, b_add, b_sub, b_mul, b_eqlb, b_neqb, b_fnil, b_fnil', b_fnil2, b_fnil2', u_neg, u_not, m_two, s_end, s_end', s_end_iteN, s_res0, s_res1, s_tup1, s_tup2, ↓iteN_true, ↓iteN_false, iteN_true, iteN_false, Nat.zero_add, List.nil_append, List.append_nil, Nat.reduceEqDiff, reduceIte, decide_true, decide_false, Bool.not_true, Bool.not_false, List.getElem?_cons_zero, List.getElem?_cons_succ, Bool.false_eq_true, if_true, if_false, beq_self_eq_true]
      exact ⟨_, rfl⟩
  obtain ⟨R, eR⟩ : ∃ R, R_purserlaw10_OpsPushed_2 = R := ⟨_, rfl⟩
  obtain ⟨Lo, eL⟩ : ∃ R, L_purserlaw10_OpsPushed_1 = R := ⟨_, rfl⟩
  rw [eR, eL] at fin ⊢
  obtain ⟨n, en⟩ : ∃ n, ls.length = n := ⟨_, rfl⟩
  rw [en] at d0 fin ⊢
  simp (config := {maxSteps := 2000000}) (disch := first | omega | rfl | (simp only [ofI_len, List.length_append, List.length_take, List.length_drop, List.length_cons, List.length_nil, List.length_replicate, List.length_set]; done) | (simp only [ofI_len, List.length_append, List.length_take, List.length_drop, List.length_cons, List.length_nil, List.length_replicate, List.length_set]; omega)) only [al, d0, ↓s_len, x_lenS, ↓b_xor32, ↓b_and32, ↓b_or32, ↓u_not32, b_xor32, b_and32, b_or32, u_not32, w32ad, ↓x_conv, x_convV, ↓x_fieldAddr, x_fieldV, ↓s_nilchk, x_nilchk, Nat.zero_add, Nat.add_zero, Nat.mul_one, ↓s_evD, ↓s_dnil, ↓s_dL, ↓s_dLg, ↓s_dR, ↓s_dRg, ↓s_dRj, ↓s_dRjg, ↓s_dB, ↓s_dBg, ↓s_dAlloc, ↓s_bindD, s_bindD, s_finD, s_finDx, s_addP0, s_addP1, s_addB, s_lookP, ↓s_bump0, ↓s_bump_get, s_bump_next, s_ok0, ↓s_ok1, s_okR0, ↓s_okR1, ↓s_okE, s_okE, s_okE1, s_nth0, s_nthS, Nat.add_zero, Bool.and_self, Bool.and_true, Bool.true_and, ↓l_loop, ↓l_succ, ↓l_normal, l_normal, l_exit, l_ret, l_iteN, ↓h_put_get, ↓h_new_get, ↓h_del_get, h_next_put, h_next_new, h_next_del, Nat.add_assoc, Nat.add_eq_left, Nat.left_eq_add, Nat.add_left_cancel_iff, ↓s_load, m_load, ↓m_load1, m_load1, ↓m_st, m_stE, m_storeI, m_storeE, ↓s_alloc, ↓x_idxA, ↓x_idxS, x_idxAE, x_idxSE, x_addrE, x_idx, x_lenS, ↓s_len, ↓x_buildS, x_buildE, ↓x_P0, ↓x_P1, x_fill0, x_filli, x_fills, x_fillb, c_int, List.length_cons, List.length_nil, List.cons_append, List.drop_succ_cons, List.drop_zero, List.drop_nil, List.nil_append, Int.reduceAdd, Int.reduceToNat, Int.reduceLT, Int.reduceLE, Nat.reduceAdd, Nat.reduceMul, Nat.reduceLeDiff, Int.reduceEq, Int.reduceSub, Int.cast_ofNat_Int, s_resc, s_consR, m_load4, m_store4, s_res0, ↓s_skip, ↓s_ops, ↓s_dops, ↓s_seq, ↓s_cond, ↓s_block, ↓s_exit, ↓s_ret, ↓s_scope, ↓s_nil, ↓s_op, ↓s_opg, ↓s_wanted', ↓s_wantV, s_wantV, s_wantV0, beq_true, beq_false, ↓s_bindS, s_bindS, ↓s_bindE, s_bindE, s_bindE_ret, s_bindE_exit, s_bindE_iteN, s_norm, ↓s_condV, s_condV, s_block_ret, s_block_normal, s_block_exit, s_block_iteN, ↓s_getp, ↓s_getp0, ↓s_get, s_get0, ↓s_con, ↓s_fn, ↓s_os0, ↓s_os1, ↓s_list0, ↓s_list1, ↓s_mov, ↓s_pick, ↓s_pickE, s_pickE, ↓s_bin, ↓s_un, ↓s_minmax, ↓s_call, ↓s_callv, ↓s_callV, ↓s_ext, s_same, b_eql, b_neq, b_lss, b_leq, b_gtr, b_geq, b_add, b_sub, b_mul, b_eqlb, b_neqb, b_fnil, b_fnil', b_fnil2, b_fnil2', u_neg, u_not, m_two, s_end, s_end', s_end_iteN, s_res0, s_res1, s_tup1, s_tup2, ↓iteN_true, ↓iteN_false, iteN_true, iteN_false, Nat.zero_add, List.nil_append, List.append_nil, Nat.reduceEqDiff, reduceIte, decide_true, decide_false, Bool.not_true, Bool.not_false, List.getElem?_cons_zero, List.getElem?_cons_succ, Bool.false_eq_true, if_true, if_false, beq_self_eq_true]
  exact fin _ ⟨Nat.zero_le _, (by (simp only [s_getp, s_getp0, Nat.reduceEqDiff, decide_false, decide_true, iteN_false, iteN_true, d0]; try rfl)), (by (simp only [s_getp, s_getp0, Nat.reduceEqDiff, decide_false, decide_true, iteN_false, iteN_true, d0]; try rfl)), (by (simp only [s_getp, s_getp0, Nat.reduceEqDiff, decide_false, decide_true, iteN_false, iteN_true, d0]; try rfl)), by rw [en]; exact (by (simp only [s_getp, s_getp0, Nat.reduceEqDiff, decide_false, decide_true, iteN_false, iteN_true, d0]; try rfl)), (by (simp only [s_getp, s_getp0, Nat.reduceEqDiff, decide_false, decide_true, iteN_false, iteN_true, d0]; try rfl)), ⟨none, some 0, 0, (by (simp only [s_getp, s_getp0, Nat.reduceEqDiff, decide_false, decide_true, iteN_false, iteN_true, d0]; try rfl)), .inl ⟨rfl, rfl, rfl, rfl⟩⟩, Kp.refl _, fun _ h => by cases h⟩
end Go.Eng
