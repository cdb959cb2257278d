/- What functions of the program come to: own work. -/
import Derived.Test.YtcgfhdhjanmgaaaMpI
namespace Go.Eng
open Go
variable {E : Nat → Option Fn} {X : Orc}
set_option linter.unusedSimpArgs false
set_option linter.unusedVariables false
/-- how many levels stand above so many -/
def dpN (n : Nat) : Nat := if h : n ≤ 1 then 0 else dpN ((n + 1) / 2) + 1
termination_by n
theorem dpN_1 (n : Nat) (h : n ≤ 1) : dpN n = 0 := by rw [dpN, dif_pos h]
theorem dpN_up (n : Nat) (h : 1 < n) : dpN n = dpN ((n + 1) / 2) + 1 := by rw [dpN, dif_neg (by omega)]
theorem dpN_le : ∀ (k n : Nat), n ≤ 2 ^ k → dpN n ≤ k := by
  intro k
  induction k with
  | zero => intro n h; rw [dpN_1 n (by simpa using h)]; exact Nat.le_refl _
  | succ k ih =>
    intro n h
    by_cases h1 : n ≤ 1
    · rw [dpN_1 n h1]; exact Nat.zero_le _
    · rw [dpN_up n (by omega)]
      rw [Nat.pow_succ] at h
      have := ih ((n + 1) / 2) (by omega)
      omega
theorem le_dpN : ∀ (k n : Nat), n ≤ k → n ≤ 2 ^ dpN n := by
  intro k
  induction k with
  | zero => intro n h; have := Nat.two_pow_pos (dpN n); omega
  | succ k ih =>
    intro n h
    by_cases h1 : n ≤ 1
    · have := Nat.two_pow_pos (dpN n); omega
    · rw [dpN_up n (by omega), Nat.pow_succ]
      have := ih ((n + 1) / 2) (by omega)
      omega
theorem brL_len : ∀ (k : Nat) (l : List (List Nat)) (n : Nat), l.length ≤ k → (brL l n).length = dpN l.length := by
  intro k
  induction k with
  | zero => intro l n h; rw [brL, dif_pos (by omega), dpN_1 _ (by omega)]; rfl
  | succ k ih =>
    intro l n h
    by_cases h1 : l.length ≤ 1
    · rw [brL, dif_pos h1, dpN_1 _ h1]; rfl
    · rw [brL_up l n (by omega), dpN_up _ (by omega), List.length_cons, ih (up l) (n / 2) (by rw [up_len]; omega), up_len]
theorem fold_rt : ∀ (k : Nat) (l : List (List Nat)) (i : Nat) (a : List Nat), l.length ≤ k → (∀ o ∈ l, o.length = 32) → l[i]? = some a → foldL a i (brL l i) = rtL l := by
  intro k
  induction k with
  | zero => intro l i a h _ hi; have := (List.getElem?_eq_some_iff.1 hi).1; omega
  | succ k ih =>
    intro l i a h h32 hi
    have hil := (List.getElem?_eq_some_iff.1 hi).1
    by_cases h1 : l.length ≤ 1
    · obtain ⟨x, rfl⟩ := List.length_eq_one_iff.1 (show l.length = 1 by omega)
      have : i = 0 := by simp at hil; exact hil
      subst this
      simp at hi; subst hi
      rw [brL_1, rtL_1]; rfl
    · have ha := h32 a (List.mem_of_getElem? hi)
      rw [brL_up l i (by omega), rtL_up l (by omega)]
      have pl := prs_len _ l rfl
      obtain ⟨j, ej⟩ : ∃ j, i / 2 = j := ⟨_, rfl⟩
      have key : (prs l)[j]? = some (if i % 2 = 1 then sibL (prs l) i ++ a else a ++ sibL (prs l) i) := by
        by_cases ho : i % 2 = 1
        · rw [if_pos ho]
          have hb : l[2 * j]? = some (l[2 * j]'(by omega)) := List.getElem?_eq_getElem (by omega)
          have pg := prs_get j l _ hb
          have hb32 := h32 _ (List.mem_of_getElem? hb)
          obtain ⟨b, eb⟩ : ∃ b, l[2 * j]'(by omega) = b := ⟨_, rfl⟩
          rw [eb] at pg hb32
          rw [show 2 * j + 1 = i by omega, hi] at pg
          have sb : sibL (prs l) i = b := by
            unfold sibL
            rw [if_pos ho, ej, List.getD_eq_getElem?_getD, pg]
            show (b ++ a).take 32 = b
            exact List.take_left' hb32
          rw [sb, pg]; rfl
        · rw [if_neg ho]
          have hb : l[2 * j]? = some a := by rw [show 2 * j = i by omega]; exact hi
          have pg := prs_get j l _ hb
          have sb : sibL (prs l) i = (l[2 * j + 1]?).getD a := by
            unfold sibL
            rw [if_neg ho, ej, List.getD_eq_getElem?_getD, pg]
            show (a ++ _).drop 32 = _
            exact List.drop_left' ha
          rw [sb, pg]
      show foldL (tw (if i % 2 = 1 then sibL (prs l) i ++ a else a ++ sibL (prs l) i)) (i / 2) (brL (up l) (i / 2)) = rtL (up l)
      rw [ej]
      refine ih (up l) j _ (by rw [up_len]; omega) (up_all l) ?_
      unfold up
      rw [List.getElem?_map, key]; rfl
theorem brL_all : ∀ (k : Nat) (l : List (List Nat)) (n : Nat), l.length ≤ k → (∀ o ∈ l, o.length = 32) → n < l.length → ∀ o ∈ brL l n, o.length = 32 := by
  intro k
  induction k with
  | zero => intro l n h _ hn; omega
  | succ k ih =>
    intro l n h h32 hn o ho
    by_cases h1 : l.length ≤ 1
    · rw [brL, dif_pos h1] at ho; cases ho
    · rw [brL_up l n (by omega)] at ho
      have pl := prs_len _ l rfl
      have ul := up_len l
      rcases List.mem_cons.1 ho with rfl | ho
      · have hp : (prs l)[n / 2]? = some ((prs l)[n / 2]'(by omega)) := List.getElem?_eq_getElem (by omega)
        have h64 := prs_all h32 _ (List.mem_of_getElem? hp)
        unfold sibL
        rw [List.getD_eq_getElem?_getD, hp]
        split <;> simp [h64]
      · exact ih (up l) (n / 2) (by omega) (up_all l) (by omega) o ho
theorem depth_loop (Q : Orc) (m : Nat) (h : H) : ∀ (k n d : Nat), n ≤ 2 ^ k → n < 9223372036854775808 → d + k < 1000 → ∀ g, k < g → ∀ T, evO T (.t 0) = .int .i64 (n : Int) → evO T (.t 3) = .int .i64 (d : Int) →
    ∃ T', loopN (evC Q 13 m none L_merkle_Depth_0) g ⟨T, [], h⟩ = some (.exit 0, ⟨T', [], h⟩) ∧ evO T' (.t 3) = .int .i64 ((d + dpN n : Nat) : Int) := by
  intro k
  induction k with
  | zero =>
    intro n d h1 h2 h3 g hg T t0 t3
    obtain ⟨g, rfl⟩ : ∃ j, g = j + 1 := ⟨g - 1, by omega⟩
    have hn : n ≤ 1 := by simpa using h1
    have c0 : decide ((1 : Int) < (n : Int)) = false := decide_eq_false (by omega)
    rw [l_succ]
    refine ⟨_, by
      simp (config := {maxSteps := 2000000}) (disch := first | omega | (simp only [List.length_cons, List.length_nil, List.length_append, List.length_drop]; omega)) only [L_merkle_Depth_0, t0, c0, ↓b_xor32, ↓b_and32, ↓b_or32, ↓u_not32, b_xor32, b_and32, b_or32, u_not32, w32ad, ↓x_conv, x_convV, ↓x_fieldAddr, x_fieldV, ↓s_nilchk, x_nilchk, Nat.zero_add, Nat.add_zero, Nat.mul_one, ↓l_loop, ↓l_succ, ↓l_normal, l_normal, l_exit, l_ret, l_iteN, ↓h_put_get, ↓h_new_get, ↓h_del_get, h_next_put, h_next_new, h_next_del, Nat.add_assoc, Nat.add_eq_left, Nat.left_eq_add, Nat.add_left_cancel_iff, ↓s_load, m_load, ↓m_load1, m_load1, ↓m_st, m_stE, m_storeI, m_storeE, w_zero, w_succ, ↓s_alloc, ↓x_idxA, ↓x_idxS, x_idxAE, x_idxSE, x_addrE, x_idx, x_lenS, ↓s_len, ↓x_buildS, x_buildE, ↓x_P0, ↓x_P1, x_fill0, x_filli, x_fills, x_fillb, c_int, List.length_cons, List.length_nil, List.cons_append, List.drop_succ_cons, List.drop_zero, List.drop_nil, List.nil_append, Int.reduceAdd, Int.reduceToNat, Int.reduceLT, Int.reduceLE, Nat.reduceAdd, Nat.reduceMul, Nat.reduceLeDiff, Int.reduceEq, Int.reduceSub, Int.cast_ofNat_Int, s_resc, s_consR, m_load4, m_store4, s_res0, ↓s_skip, ↓s_ops, ↓s_dops, ↓s_seq, ↓s_cond, ↓s_block, ↓s_exit, ↓s_ret, ↓s_scope, ↓s_nil, ↓s_op, ↓s_opg, ↓s_wanted', ↓s_wantV, s_wantV, s_wantV0, beq_true, beq_false, ↓s_bindS, s_bindS, ↓s_bindE, s_bindE, s_bindE_ret, s_bindE_exit, s_bindE_iteN, s_norm, ↓s_condV, s_condV, s_block_ret, s_block_normal, s_block_exit, s_block_iteN, ↓s_getp, ↓s_getp0, ↓s_get, s_get0, ↓s_con, ↓s_fn, ↓s_os0, ↓s_os1, ↓s_list0, ↓s_list1, ↓s_mov, ↓s_pick, ↓s_pickE, s_pickE, ↓s_bin, ↓s_un, ↓s_minmax, ↓s_call, ↓s_callv, ↓s_callV, ↓s_ext, s_same, b_eql, b_neq, b_lss, b_leq, b_gtr, b_geq, b_add, b_sub, b_mul, b_eqlb, b_neqb, b_fnil, b_fnil', b_fnil2, b_fnil2', u_neg, u_not, m_two, s_end, s_end', s_end_iteN, s_res0, s_res1, s_tup1, s_tup2, ↓iteN_true, ↓iteN_false, iteN_true, iteN_false, Nat.zero_add, List.nil_append, List.append_nil, Nat.reduceEqDiff, reduceIte, decide_true, decide_false, Bool.not_true, Bool.not_false, List.getElem?_cons_zero, List.getElem?_cons_succ, Bool.false_eq_true, if_true, if_false, beq_self_eq_true]
      exact rfl, by rw [dpN_1 n hn]; (simp only [s_getp, s_getp0, Nat.reduceEqDiff, decide_false, decide_true, iteN_false, iteN_true, t3]; try rfl)⟩
  | succ k ih =>
    intro n d h1 h2 h3 g hg T t0 t3
    obtain ⟨g, rfl⟩ : ∃ j, g = j + 1 := ⟨g - 1, by omega⟩
    rw [l_succ]
    by_cases hn : n ≤ 1
    · have c0 : decide ((1 : Int) < (n : Int)) = false := decide_eq_false (by omega)
      refine ⟨_, by
        simp (config := {maxSteps := 2000000}) (disch := first | omega | (simp only [List.length_cons, List.length_nil, List.length_append, List.length_drop]; omega)) only [L_merkle_Depth_0, t0, c0, ↓b_xor32, ↓b_and32, ↓b_or32, ↓u_not32, b_xor32, b_and32, b_or32, u_not32, w32ad, ↓x_conv, x_convV, ↓x_fieldAddr, x_fieldV, ↓s_nilchk, x_nilchk, Nat.zero_add, Nat.add_zero, Nat.mul_one, ↓l_loop, ↓l_succ, ↓l_normal, l_normal, l_exit, l_ret, l_iteN, ↓h_put_get, ↓h_new_get, ↓h_del_get, h_next_put, h_next_new, h_next_del, Nat.add_assoc, Nat.add_eq_left, Nat.left_eq_add, Nat.add_left_cancel_iff, ↓s_load, m_load, ↓m_load1, m_load1, ↓m_st, m_stE, m_storeI, m_storeE, w_zero, w_succ, ↓s_alloc, ↓x_idxA, ↓x_idxS, x_idxAE, x_idxSE, x_addrE, x_idx, x_lenS, ↓s_len, ↓x_buildS, x_buildE, ↓x_P0, ↓x_P1, x_fill0, x_filli, x_fills, x_fillb, c_int, List.length_cons, List.length_nil, List.cons_append, List.drop_succ_cons, List.drop_zero, List.drop_nil, List.nil_append, Int.reduceAdd, Int.reduceToNat, Int.reduceLT, Int.reduceLE, Nat.reduceAdd, Nat.reduceMul, Nat.reduceLeDiff, Int.reduceEq, Int.reduceSub, Int.cast_ofNat_Int, s_resc, s_consR, m_load4, m_store4, s_res0, ↓s_skip, ↓s_ops, ↓s_dops, ↓s_seq, ↓s_cond, ↓s_block, ↓s_exit, ↓s_ret, ↓s_scope, ↓s_nil, ↓s_op, ↓s_opg, ↓s_wanted', ↓s_wantV, s_wantV, s_wantV0, beq_true, beq_false, ↓s_bindS, s_bindS, ↓s_bindE, s_bindE, s_bindE_ret, s_bindE_exit, s_bindE_iteN, s_norm, ↓s_condV, s_condV, s_block_ret, s_block_normal, s_block_exit, s_block_iteN, ↓s_getp, ↓s_getp0, ↓s_get, s_get0, ↓s_con, ↓s_fn, ↓s_os0, ↓s_os1, ↓s_list0, ↓s_list1, ↓s_mov, ↓s_pick, ↓s_pickE, s_pickE, ↓s_bin, ↓s_un, ↓s_minmax, ↓s_call, ↓s_callv, ↓s_callV, ↓s_ext, s_same, b_eql, b_neq, b_lss, b_leq, b_gtr, b_geq, b_add, b_sub, b_mul, b_eqlb, b_neqb, b_fnil, b_fnil', b_fnil2, b_fnil2', u_neg, u_not, m_two, s_end, s_end', s_end_iteN, s_res0, s_res1, s_tup1, s_tup2, ↓iteN_true, ↓iteN_false, iteN_true, iteN_false, Nat.zero_add, List.nil_append, List.append_nil, Nat.reduceEqDiff, reduceIte, decide_true, decide_false, Bool.not_true, Bool.not_false, List.getElem?_cons_zero, List.getElem?_cons_succ, Bool.false_eq_true, if_true, if_false, beq_self_eq_true]
        exact rfl, by rw [dpN_1 n hn]; (simp only [s_getp, s_getp0, Nat.reduceEqDiff, decide_false, decide_true, iteN_false, iteN_true, t3]; try rfl)⟩
    · have c0 : decide ((1 : Int) < (n : Int)) = true := decide_eq_true (by omega)
      have qu : ∀ e h, binV .quo e h (.int .i64 (n : Int)) (.int .i64 2) = some (.int .i64 ((n / 2 : Nat) : Int)) := fun e h => by
        rw [b_quo _ _ _ _ _ (by omega), show Int.tdiv (n : Int) 2 = ((n / 2 : Nat) : Int) from rfl, wr_i64 (by omega)]
      have w1 : wr .i64 ((n : Int) - ((n / 2 : Nat) : Int)) = (((n + 1) / 2 : Nat) : Int) := by rw [wr_i64 (by omega)]; omega
      have w2 : wr .i64 ((d : Int) + 1) = ((d + 1 : Nat) : Int) := by rw [wr_i64 (by omega)]; omega
      rw [Nat.pow_succ] at h1
      have go : ∃ T1, evC Q 13 m none L_merkle_Depth_0 ⟨T, [], h⟩ = some (.normal, ⟨T1, [], h⟩) ∧ evO T1 (.t 0) = .int .i64 (((n + 1) / 2 : Nat) : Int) ∧ evO T1 (.t 3) = .int .i64 ((d + 1 : Nat) : Int) := by
        refine ⟨_, by
          simp (config := {maxSteps := 2000000}) (disch := first | omega | (simp only [List.length_cons, List.length_nil, List.length_append, List.length_drop]; omega)) only [L_merkle_Depth_0, t0, t3, c0, qu, w1, w2, ↓b_xor32, ↓b_and32, ↓b_or32, ↓u_not32, b_xor32, b_and32, b_or32, u_not32, w32ad, ↓x_conv, x_convV, ↓x_fieldAddr, x_fieldV, ↓s_nilchk, x_nilchk, Nat.zero_add, Nat.add_zero, Nat.mul_one, ↓l_loop, ↓l_succ, ↓l_normal, l_normal, l_exit, l_ret, l_iteN, ↓h_put_get, ↓h_new_get, ↓h_del_get, h_next_put, h_next_new, h_next_del, Nat.add_assoc, Nat.add_eq_left, Nat.left_eq_add, Nat.add_left_cancel_iff, ↓s_load, m_load, ↓m_load1, m_load1, ↓m_st, m_stE, m_storeI, m_storeE, w_zero, w_succ, ↓s_alloc, ↓x_idxA, ↓x_idxS, x_idxAE, x_idxSE, x_addrE, x_idx, x_lenS, ↓s_len, ↓x_buildS, x_buildE, ↓x_P0, ↓x_P1, x_fill0, x_filli, x_fills, x_fillb, c_int, List.length_cons, List.length_nil, List.cons_append, List.drop_succ_cons, List.drop_zero, List.drop_nil, List.nil_append, Int.reduceAdd, Int.reduceToNat, Int.reduceLT, Int.reduceLE, Nat.reduceAdd, Nat.reduceMul, Nat.reduceLeDiff, Int.reduceEq, Int.reduceSub, Int.cast_ofNat_Int, s_resc, s_consR, m_load4, m_store4, s_res0, ↓s_skip, ↓s_ops, ↓s_dops, ↓s_seq, ↓s_cond, ↓s_block, ↓s_exit, ↓s_ret, ↓s_scope, ↓s_nil, ↓s_op, ↓s_opg, ↓s_wanted', ↓s_wantV, s_wantV, s_wantV0, beq_true, beq_false, ↓s_bindS, s_bindS, ↓s_bindE, s_bindE, s_bindE_ret, s_bindE_exit, s_bindE_iteN, s_norm, ↓s_condV, s_condV, s_block_ret, s_block_normal, s_block_exit, s_block_iteN, ↓s_getp, ↓s_getp0, ↓s_get, s_get0, ↓s_con, ↓s_fn, ↓s_os0, ↓s_os1, ↓s_list0, ↓s_list1, ↓s_mov, ↓s_pick, ↓s_pickE, s_pickE, ↓s_bin, ↓s_un, ↓s_minmax, ↓s_call, ↓s_callv, ↓s_callV, ↓s_ext, s_same, b_eql, b_neq, b_lss, b_leq, b_gtr, b_geq, b_add, b_sub, b_mul, b_eqlb, b_neqb, b_fnil, b_fnil', b_fnil2, b_fnil2', u_neg, u_not, m_two, s_end, s_end', s_end_iteN, s_res0, s_res1, s_tup1, s_tup2, ↓iteN_true, ↓iteN_false, iteN_true, iteN_false, Nat.zero_add, List.nil_append, List.append_nil, Nat.reduceEqDiff, reduceIte, decide_true, decide_false, Bool.not_true, Bool.not_false, List.getElem?_cons_zero, List.getElem?_cons_succ, Bool.false_eq_true, if_true, if_false, beq_self_eq_true]
          exact rfl, (by (simp only [s_getp, s_getp0, Nat.reduceEqDiff, decide_false, decide_true, iteN_false, iteN_true, t0]; try rfl)), (by (simp only [s_getp, s_getp0, Nat.reduceEqDiff, decide_false, decide_true, iteN_false, iteN_true, t3]; try rfl))⟩
      obtain ⟨T1, r, u0, u3⟩ := go
      obtain ⟨T', r2, e2⟩ := ih ((n + 1) / 2) (d + 1) (by omega) (by omega) (by omega) g (by omega) T1 u0 u3
      refine ⟨T', by rw [r, l_normal]; exact r2, ?_⟩
      rw [e2, dpN_up n (by omega), show d + 1 + dpN ((n + 1) / 2) = d + (dpN ((n + 1) / 2) + 1) by omega]
theorem depth_go (e : E k_merkle_Depth = some f_merkle_Depth) (x : ∀ a h, X (.fn k_merkle_Depth) a h = none) (N : Nat) (hN : 100 < N) (n : Nat) (hn : n < 9223372036854775808) (h : H) :
    callX E X (N + 1) (.fn k_merkle_Depth) [.int .i64 (n : Int)] h = some (.int .i64 (dpN n : Int), h) := by
  rw [x_cfn e _ _ (Nat.le_of_ble_eq_true rfl) (x _ _)]
  have fin : ∀ T, evO T (.t 0) = .int .i64 (n : Int) → evO T (.t 3) = .int .i64 ((0 : Nat) : Int) → fnEnd [.tmp 2] (bindE (blockE 0 (loopN (evC (callX E X N) 13 N none L_merkle_Depth_0) N ⟨T, [], h⟩)) (evC (callX E X N) 13 N none R_merkle_Depth_0)) = some (.int .i64 (dpN n : Int), h) := by
    intro T t0 t3
    obtain ⟨T', r, u3⟩ := depth_loop (callX E X N) N h 63 n 0 (by have : (2 : Nat) ^ 63 = 9223372036854775808 := rfl; omega) hn (by omega) N (by omega) T t0 t3
    rw [Nat.zero_add] at u3
    rw [r]
    simp (config := {maxSteps := 2000000}) (disch := first | omega | (simp only [List.length_cons, List.length_nil, List.length_append, List.length_drop]; omega)) only [R_merkle_Depth_0, u3, ↓b_xor32, ↓b_and32, ↓b_or32, ↓u_not32, b_xor32, b_and32, b_or32, u_not32, w32ad, ↓x_conv, x_convV, ↓x_fieldAddr, x_fieldV, ↓s_nilchk, x_nilchk, Nat.zero_add, Nat.add_zero, Nat.mul_one, ↓l_loop, ↓l_succ, ↓l_normal, l_normal, l_exit, l_ret, l_iteN, ↓h_put_get, ↓h_new_get, ↓h_del_get, h_next_put, h_next_new, h_next_del, Nat.add_assoc, Nat.add_eq_left, Nat.left_eq_add, Nat.add_left_cancel_iff, ↓s_load, m_load, ↓m_load1, m_load1, ↓m_st, m_stE, m_storeI, m_storeE, w_zero, w_succ, ↓s_alloc, ↓x_idxA, ↓x_idxS, x_idxAE, x_idxSE, x_addrE, x_idx, x_lenS, ↓s_len, ↓x_buildS, x_buildE, ↓x_P0, ↓x_P1, x_fill0, x_filli, x_fills, x_fillb, c_int, List.length_cons, List.length_nil, List.cons_append, List.drop_succ_cons, List.drop_zero, List.drop_nil, List.nil_append, Int.reduceAdd, Int.reduceToNat, Int.reduceLT, Int.reduceLE, Nat.reduceAdd, Nat.reduceMul, Nat.reduceLeDiff, Int.reduceEq, Int.reduceSub, Int.cast_ofNat_Int, s_resc, s_consR, m_load4, m_store4, s_res0, ↓s_skip, ↓s_ops, ↓s_dops, ↓s_seq, ↓s_cond, ↓s_block, ↓s_exit, ↓s_ret, ↓s_scope, ↓s_nil, ↓s_op, ↓s_opg, ↓s_wanted', ↓s_wantV, s_wantV, s_wantV0, beq_true, beq_false, ↓s_bindS, s_bindS, ↓s_bindE, s_bindE, s_bindE_ret, s_bindE_exit, s_bindE_iteN, s_norm, ↓s_condV, s_condV, s_block_ret, s_block_normal, s_block_exit, s_block_iteN, ↓s_getp, ↓s_getp0, ↓s_get, s_get0, ↓s_con, ↓s_fn, ↓s_os0, ↓s_os1, ↓s_list0, ↓s_list1, ↓s_mov, ↓s_pick, ↓s_pickE, s_pickE, ↓s_bin, ↓s_un, ↓s_minmax, ↓s_call, ↓s_callv, ↓s_callV, ↓s_ext, s_same, b_eql, b_neq, b_lss, b_leq, b_gtr, b_geq, b_add, b_sub, b_mul, b_eqlb, b_neqb, b_fnil, b_fnil', b_fnil2, b_fnil2', u_neg, u_not, m_two, s_end, s_end', s_end_iteN, s_res0, s_res1, s_tup1, s_tup2, ↓iteN_true, ↓iteN_false, iteN_true, iteN_false, Nat.zero_add, List.nil_append, List.append_nil, Nat.reduceEqDiff, reduceIte, decide_true, decide_false, Bool.not_true, Bool.not_false, List.getElem?_cons_zero, List.getElem?_cons_succ, Bool.false_eq_true, if_true, if_false, beq_self_eq_true]
  obtain ⟨R, eR⟩ : ∃ R, R_merkle_Depth_0 = R := ⟨_, rfl⟩
  obtain ⟨Lo, eL⟩ : ∃ R, L_merkle_Depth_0 = R := ⟨_, rfl⟩
  rw [eR, eL] at fin ⊢
  simp (config := {maxSteps := 2000000}) (disch := first | omega | (simp only [List.length_cons, List.length_nil, List.length_append, List.length_drop]; omega)) only [↓b_xor32, ↓b_and32, ↓b_or32, ↓u_not32, b_xor32, b_and32, b_or32, u_not32, w32ad, ↓x_conv, x_convV, ↓x_fieldAddr, x_fieldV, ↓s_nilchk, x_nilchk, Nat.zero_add, Nat.add_zero, Nat.mul_one, ↓l_loop, ↓l_succ, ↓l_normal, l_normal, l_exit, l_ret, l_iteN, ↓h_put_get, ↓h_new_get, ↓h_del_get, h_next_put, h_next_new, h_next_del, Nat.add_assoc, Nat.add_eq_left, Nat.left_eq_add, Nat.add_left_cancel_iff, ↓s_load, m_load, ↓m_load1, m_load1, ↓m_st, m_stE, m_storeI, m_storeE, w_zero, w_succ, ↓s_alloc, ↓x_idxA, ↓x_idxS, x_idxAE, x_idxSE, x_addrE, x_idx, x_lenS, ↓s_len, ↓x_buildS, x_buildE, ↓x_P0, ↓x_P1, x_fill0, x_filli, x_fills, x_fillb, c_int, List.length_cons, List.length_nil, List.cons_append, List.drop_succ_cons, List.drop_zero, List.drop_nil, List.nil_append, Int.reduceAdd, Int.reduceToNat, Int.reduceLT, Int.reduceLE, Nat.reduceAdd, Nat.reduceMul, Nat.reduceLeDiff, Int.reduceEq, Int.reduceSub, Int.cast_ofNat_Int, s_resc, s_consR, m_load4, m_store4, s_res0, ↓s_skip, ↓s_ops, ↓s_dops, ↓s_seq, ↓s_cond, ↓s_block, ↓s_exit, ↓s_ret, ↓s_scope, ↓s_nil, ↓s_op, ↓s_opg, ↓s_wanted', ↓s_wantV, s_wantV, s_wantV0, beq_true, beq_false, ↓s_bindS, s_bindS, ↓s_bindE, s_bindE, s_bindE_ret, s_bindE_exit, s_bindE_iteN, s_norm, ↓s_condV, s_condV, s_block_ret, s_block_normal, s_block_exit, s_block_iteN, ↓s_getp, ↓s_getp0, ↓s_get, s_get0, ↓s_con, ↓s_fn, ↓s_os0, ↓s_os1, ↓s_list0, ↓s_list1, ↓s_mov, ↓s_pick, ↓s_pickE, s_pickE, ↓s_bin, ↓s_un, ↓s_minmax, ↓s_call, ↓s_callv, ↓s_callV, ↓s_ext, s_same, b_eql, b_neq, b_lss, b_leq, b_gtr, b_geq, b_add, b_sub, b_mul, b_eqlb, b_neqb, b_fnil, b_fnil', b_fnil2, b_fnil2', u_neg, u_not, m_two, s_end, s_end', s_end_iteN, s_res0, s_res1, s_tup1, s_tup2, ↓iteN_true, ↓iteN_false, iteN_true, iteN_false, Nat.zero_add, List.nil_append, List.append_nil, Nat.reduceEqDiff, reduceIte, decide_true, decide_false, Bool.not_true, Bool.not_false, List.getElem?_cons_zero, List.getElem?_cons_succ, Bool.false_eq_true, if_true, if_false, beq_self_eq_true]
  exact fin _ (by (simp only [s_getp, s_getp0, Nat.reduceEqDiff, decide_false, decide_true, iteN_false, iteN_true, s_list1, s_list0, s_get]; try rfl)) (by (simp only [s_getp, s_getp0, Nat.reduceEqDiff, decide_false, decide_true, iteN_false, iteN_true, s_list1, s_list0, s_get]; try rfl))
end Go.Eng
namespace Go.Eng
open Go
variable {E : Nat → Option Fn} {X : Orc}
set_option linter.unusedSimpArgs false
set_option linter.unusedVariables false
theorem RowB.set {k : Nat} {vs : List V} {L : List (List Nat)} (r : RowB k vs L) (i : Nat) (hi : i < L.length) (x : List Nat) (hx : x.length = k) : RowB k (writeN vs (i * k) (ofI .u8 x)) (L.set i x) := by
  have mi := mul_le (k := k) hi
  have hl := r.1
  have wl : (writeN vs (i * k) (ofI .u8 x)).length = vs.length := writeN_len _ _ _ (by rw [ofI_len, hx]; omega)
  refine ⟨by rw [wl, List.length_set]; exact hl, fun j o ho => ?_⟩
  rw [writeN_eq _ _ _ (by omega), ofI_len, hx]
  have l1 : (vs.take (i * k)).length = i * k := by rw [List.length_take]; omega
  by_cases hj : j = i
  · subst hj
    rw [List.getElem?_set_self hi] at ho
    cases ho
    refine ⟨?_, hx⟩
    rw [List.append_assoc, List.drop_left' l1, List.take_left' (by rw [ofI_len, hx])]
  · rw [List.getElem?_set_ne (Ne.symm hj)] at ho
    obtain ⟨h1, h2⟩ := r.2 j o ho
    have hjl := (List.getElem?_eq_some_iff.1 ho).1
    refine ⟨?_, h2⟩
    rw [← h1]
    by_cases hlt : j < i
    · have mj := mul_le (k := k) hlt
      rw [List.append_assoc, List.drop_append_of_le_length (by omega), List.take_append_of_le_length (by rw [List.length_drop]; omega), List.drop_take, List.take_take, Nat.min_eq_left (by omega)]
    · have mj := mul_le (k := k) (show i < j by omega)
      have ll : (vs.take (i * k) ++ ofI .u8 x).length = i * k + k := by rw [List.length_append, l1, ofI_len, hx]
      rw [List.drop_append, ll, List.drop_eq_nil_of_le (by rw [ll]; exact mj), List.nil_append, List.drop_drop, show i * k + k + (j * k - (i * k + k)) = j * k by omega]
theorem stMd (vs l : List V) (md : Md) (hm : isRo md = false) (h : H) (i o : Nat) (hl : o + l.length ≤ vs.length) : storeE (some (.cells vs md)) h i o l = some (h.put i (.cells (writeN vs o l) md)) := by
  cases md with
  | ro => cases hm
  | rw => exact m_storeE _ _ _ _ _ hl
  | sh => exact m_storeEs _ _ _ _ _ hl
theorem noBr_st : NoBrm (stX k_purserlaw08_alive) := by repeat' (first | exact fun _ _ => rfl | exact fun _ _ _ => rfl | exact fun _ => rfl | constructor)
theorem noFo_st : NoFo (stX k_purserlaw08_alive) := by repeat' (first | exact fun _ _ => rfl | exact fun _ _ _ => rfl | exact fun _ => rfl | constructor)
theorem noFd_st : NoFd (stX k_purserlaw08_alive) := by repeat' (first | exact fun _ _ => rfl | exact fun _ _ _ => rfl | exact fun _ => rfl | constructor)
structure EnPv (E : Nat → Option Fn) : Prop where
  rt : EnRt E
  br : EnBr E
  fo : EnFo E
  fd : EnFd E
  dp : E k_merkle_Depth = some f_merkle_Depth
structure PvI (q off p r w : Nat) (len : Nat) (h0 : H) (i : Nat) (T : Tr V) (h : H) : Prop where
  t0 : evO T (.t 0) = .slice (some (q, off)) len none 32
  t2 : evO T (.t 2) = .int .u8 (w : Int)
  t4 : evO T (.t 4) = .ptr (some (p, 0))
  t7 : evO T (.t 7) = .bool true
  t8 : evO T (.t 8) = .ptr (some (r, 0))
  t42 : evO T (.t 42) = .int .i64 (len : Int)
  t43 : evO T (.t 43) = .int .i64 (i : Int)
  nx : h0.next ≤ h.next
  fr : ∀ j, j < h0.next → h.get j = h0.get j
set_option maxHeartbeats 2000000 in
theorem pv_step (e : EnPv E) (M m q off p r w : Nat) (hM : 1000 < M) (hw : w < 256) (l : List (List Nat)) (h32 : ∀ o ∈ l, o.length = 32) (hl : 0 < l.length) (hl2 : l.length ≤ 40) (oth : List Nat) (ho : oth.length = 32) (h0 : H) (hq : q < h0.next) (hp : p < h0.next) (hr : r < h0.next) (vs : List V) (md : Md) (gq : h0.get q = some (.cells vs md)) (rb : RowB 32 (vs.drop off) l) (gp : h0.get p = some (.cells (ofI .u8 oth) .rw)) (gr : h0.get r = some (.cells (ofI .u8 (rtL l)) .rw)) :
    ∀ i T h, i < l.length → PvI q off p r w l.length h0 i T h → ∃ T' h', evC (callX E (stX k_purserlaw08_alive) (M + 19)) 137 m none L_purserlaw08_MerkleProves_0 ⟨T, [], h⟩ = some (.normal, ⟨T', [], h'⟩) ∧ PvI q off p r w l.length h0 (i + 1) T' h' := by
  intro i T h hi ⟨t0, t2, t4, t7, t8, t42, t43, nx, fr⟩
  have hx := hasTw_st (E := E) k_purserlaw08_alive
  have hA : l[i]? = some l[i] := List.getElem?_eq_getElem hi
  obtain ⟨A, eA⟩ : ∃ A, l[i] = A := ⟨_, rfl⟩
  rw [eA] at hA
  clear eA
  have hA32 := h32 A (List.mem_of_getElem? hA)
  have lA := rowB_ld rb hA (by decide) md
  have bl := brL_len l.length l i (Nat.le_refl _)
  have d6 := dpN_le 6 l.length (by have : (2 : Nat) ^ 6 = 64 := rfl; omega)
  have ile := le_dpN l.length l.length (Nat.le_refl _)
  have frt := fold_rt l.length l i A (Nat.le_refl _) h32 hA
  have ball := brL_all l.length l i (Nat.le_refl _) h32 hi
  have gqh : h.get q = some (.cells vs md) := by rw [fr _ hq, gq]
  have gph : h.get p = some (.cells (ofI .u8 oth) .rw) := by rw [fr _ hp, gp]
  have grh : h.get r = some (.cells (ofI .u8 (rtL l)) .rw) := by rw [fr _ hr, gr]
  obtain ⟨h1, a, c, ez, r1, k1, g1, cn⟩ := branch_go e.br noBr_st hx (M + 8) (by omega) l (by omega) i hi h q off none vs md (fun _ h => by cases h) (by omega) gqh rb
  replace r1 : callX E (stX k_purserlaw08_alive) (M + 19) (.fn k_merkle_Branch) _ h = _ := r1
  obtain ⟨br, ebr⟩ : ∃ b, brL l i = b := ⟨_, rfl⟩
  rw [ebr] at r1 g1 cn bl frt ball
  obtain ⟨dp, edp⟩ : ∃ d, dpN l.length = d := ⟨_, rfl⟩
  rw [edp] at bl d6 ile
  have S1 := g1.hs
  obtain ⟨h2, r2, k2⟩ := fold_go e.fo noFo_st hx (M + 12) (by omega) A hA32 i br (by omega) (by rw [bl]; omega) a c ez h1 S1
  replace r2 : callX E (stX k_purserlaw08_alive) (M + 19) (.fn k_merkle_Fold) _ h1 = _ := r2
  rw [frt] at r2
  obtain ⟨g2, c2⟩ := cel h2 (rtL l)
  have S2 := (S1.mono k2).mono c2.kp
  obtain ⟨h3, r3, k3⟩ := fold_go e.fo noFo_st hx (M + 12) (by omega) oth ho i br (by omega) (by rw [bl]; omega) a c ez g2 S2
  replace r3 : callX E (stX k_purserlaw08_alive) (M + 19) (.fn k_merkle_Fold) _ g2 = _ := r3
  obtain ⟨fy, efy⟩ : ∃ y, foldL oth i br = y := ⟨_, rfl⟩
  have lfy : fy.length = 32 := by rw [← efy]; exact foldL_len _ _ _ ho
  rw [efy] at r3
  obtain ⟨g3, c3⟩ := cel h3 fy
  have S3 := (S2.mono k3).mono c3.kp
  have r4 := fun h => depth_go e.dp (X := stX k_purserlaw08_alive) (fun _ _ => rfl) (M + 18) (by omega) l.length (by omega) h
  rw [edp] at r4
  obtain ⟨h4, r5, k4⟩ := folded_go e.fd noFd_st hx (M + 12) (by omega) oth ho i br (by omega) (by omega) a c ez g3 S3
  replace r5 : callX E (stX k_purserlaw08_alive) (M + 19) (.fn k_purserlaw08_folded) _ g3 = _ := r5
  rw [efy] at r5
  have lr := rtL_len l.length l (Nat.le_refl _) hl h32
  have K1 := k1.1
  have K2 := k2.1
  have K3 := k3.1
  have K4 := k4.1
  have x2 := c2.nx
  have x3 := c3.nx
  have KK : Kp h h4 := ((((k1.trans k2).trans c2.kp).trans k3).trans c3.kp).trans k4
  have KG : Kp h g3 := (((k1.trans k2).trans c2.kp).trans k3).trans c3.kp
  have K12 : Kp h g2 := (k1.trans k2).trans c2.kp
  have gq1 : h1.get q = some (.cells vs md) := by rw [k1.2 _ (by omega), gqh]
  have gp2 : g2.get p = some (.cells (ofI .u8 oth) .rw) := by rw [K12.2 _ (by omega), gph]
  have gp3 : g3.get p = some (.cells (ofI .u8 oth) .rw) := by rw [KG.2 _ (by omega), gph]
  have gp4 : h4.get p = some (.cells (ofI .u8 oth) .rw) := by rw [KK.2 _ (by omega), gph]
  have gr3 : g3.get r = some (.cells (ofI .u8 (rtL l)) .rw) := by rw [KG.2 _ (by omega), grh]
  have gr4 : h4.get r = some (.cells (ofI .u8 (rtL l)) .rw) := by rw [KK.2 _ (by omega), grh]
  have gx3 : g3.get h2.next = some (.cells (ofI .u8 (rtL l)) .rw) := by rw [c3.kp.2 _ (by omega), k3.2 _ (by omega), c2.gt]
  have gx4 : h4.get h2.next = some (.cells (ofI .u8 (rtL l)) .rw) := by rw [k4.2 _ (by omega), gx3]
  have gy3 := c3.gt
  have gy4 : h4.get h3.next = some (.cells (ofI .u8 fy) .rw) := by rw [k4.2 _ (by omega), gy3]
  have nqr := fun h => neq32 h (rtL l) (rtL l) lr lr
  have nqy := fun h => neq32 h fy fy lfy lfy
  have dtr : (!decide (rtL l = rtL l)) = false := by rw [decide_eq_true rfl]; rfl
  have dty : (!decide (fy = fy)) = false := by rw [decide_eq_true rfl]; rfl
  rw [dtr] at nqr
  rw [dty] at nqy
  have z0 : decide ((0 : Int) = 0) = true := rfl
  have c0 : decide ((i : Int) < (l.length : Int)) = true := decide_eq_true (by omega)
  have wi : wr .i64 ((i : Int) + 1) = ((i + 1 : Nat) : Int) := by rw [wr_i64 (by omega)]; omega
  have ix : idx (i : Int) l.length = some i := idxn hi
  have dd : decide ((dp : Int) = (dp : Int)) = true := decide_eq_true rfl
  obtain ⟨Z3, eZ3⟩ : ∃ Z, ofI .u8 (List.replicate 32 0) = Z := ⟨_, rfl⟩
  have al3 : ∀ (Q : Orc) (T : Tr V) (h : H), Eng.step (.alloc [.int .u8 0, .int .u8 0, .int .u8 0, .int .u8 0, .int .u8 0, .int .u8 0, .int .u8 0, .int .u8 0, .int .u8 0, .int .u8 0, .int .u8 0, .int .u8 0, .int .u8 0, .int .u8 0, .int .u8 0, .int .u8 0, .int .u8 0, .int .u8 0, .int .u8 0, .int .u8 0, .int .u8 0, .int .u8 0, .int .u8 0, .int .u8 0, .int .u8 0, .int .u8 0, .int .u8 0, .int .u8 0, .int .u8 0, .int .u8 0, .int .u8 0, .int .u8 0]) Q T h = some (.ptr (some (h.next, 0)), h.new (.cells Z3 .rw)) := fun Q T h => by rw [← eZ3]; rfl
  have puG : ∀ (l : List Nat) (_ : l.length = 32) h i, storeE (some (.cells Z3 .rw)) h i 0 (ofI .u8 l) = some (h.put i (.cells (ofI .u8 l) .rw)) := fun l hl h i => by
    rw [m_storeE _ _ _ _ _ (by rw [← eZ3, ofI_len, ofI_len, hl, List.length_replicate]; omega), ← eZ3, wrAll _ _ _ (by rw [List.length_replicate, hl])]
  have stG : ∀ (l : List Nat) (_ : l.length = 32) h i o, storeV h 32 (.ptr (some (i, o))) (.agg (ofI .u8 l)) = storeE (h.get i) h i o (ofI .u8 l) := fun l hl h i o => st32 h i o _ hl
  have ldG : ∀ (l : List Nat) (_ : l.length = 32) m, loadE (some (.cells (ofI .u8 l) m)) (some 32) 0 = some (.agg (ofI .u8 l)) := fun l hl m => by rw [m_loadN, x_readAll _ 32 (by rw [ofI_len, hl])]
  have st1 := stG _ lr
  have st2 := stG _ lfy
  have st3 := stG _ ho
  have pu1 := puG _ lr
  have pu2 := puG _ lfy
  have ld1 := ldG _ lr
  have ld2 := ldG _ lfy
  have ld3 := ldG _ ho
  have q2 := c2.eq
  have q3 := c3.eq
  rw [eZ3] at q2 q3
  have bq1 := aggI_beq .u8 (rtL l)
  have bq2 := aggI_beq .u8 fy
  have bq3 := aggI_beq .u8 oth
  have bqA := aggI_beq .u8 A
  rw [bl] at r1 r2 r3 r5
  by_cases hz : dp = 0
  · have dz : decide ((dp : Int) = 0) = true := decide_eq_true (by omega)
    clear stG ldG puG
    generalize ofI .u8 (rtL l) = CR at *
    generalize ofI .u8 fy = CY at *
    generalize ofI .u8 oth = CO at *
    generalize ofI .u8 A = CA at *
    refine ⟨_, h4, by
      simp (config := {maxSteps := 2000000}) (disch := first | omega | (simp only [List.length_cons, List.length_nil, List.length_append, List.length_drop]; omega)) only [L_purserlaw08_MerkleProves_0, t0, t2, t4, t7, t8, t42, t43, c0, wi, ix, r1, gq1, lA, r2, r3, r4, r5, ↓al3, q2, q3, gp2, gp3, gp4, gr3, gr4, gx3, gx4, gy3, gy4, nqr, nqy, z0, dd, dz, st1, st2, pu1, pu2, ld1, ld2, ld3, bq1, bq2, bq3, bqA, ↓s_len, x_lenS, ↓b_xor32, ↓b_and32, ↓b_or32, ↓u_not32, b_xor32, b_and32, b_or32, u_not32, w32ad, ↓x_conv, x_convV, ↓x_fieldAddr, x_fieldV, ↓s_nilchk, x_nilchk, Nat.zero_add, Nat.add_zero, Nat.mul_one, ↓s_evD, ↓s_dnil, ↓s_dL, ↓s_dLg, ↓s_dR, ↓s_dRg, ↓s_dRj, ↓s_dRjg, ↓s_dB, ↓s_dBg, ↓s_dAlloc, ↓s_bindD, s_bindD, s_finD, s_finDx, s_addP0, s_addP1, s_addB, s_lookP, ↓s_bump0, ↓s_bump_get, s_bump_next, s_ok0, ↓s_ok1, s_okR0, ↓s_okR1, ↓s_okE, s_okE, s_okE1, s_nth0, s_nthS, Nat.add_zero, Bool.and_self, Bool.and_true, Bool.true_and, ↓l_loop, ↓l_succ, ↓l_normal, l_normal, l_exit, l_ret, l_iteN, ↓h_put_get, ↓h_new_get, ↓h_del_get, h_next_put, h_next_new, h_next_del, Nat.add_assoc, Nat.add_eq_left, Nat.left_eq_add, Nat.add_left_cancel_iff, ↓s_load, m_load, ↓m_load1, m_load1, ↓m_st, m_stE, m_storeI, m_storeE, w_zero, w_succ, ↓s_alloc, ↓x_idxA, ↓x_idxS, x_idxAE, x_idxSE, x_addrE, x_idx, x_lenS, ↓s_len, ↓x_buildS, x_buildE, ↓x_P0, ↓x_P1, x_fill0, x_filli, x_fills, x_fillb, c_int, List.length_cons, List.length_nil, List.cons_append, List.drop_succ_cons, List.drop_zero, List.drop_nil, List.nil_append, Int.reduceAdd, Int.reduceToNat, Int.reduceLT, Int.reduceLE, Nat.reduceAdd, Nat.reduceMul, Nat.reduceLeDiff, Int.reduceEq, Int.reduceSub, Int.cast_ofNat_Int, s_resc, s_consR, m_load4, m_store4, s_res0, ↓s_skip, ↓s_ops, ↓s_dops, ↓s_seq, ↓s_cond, ↓s_block, ↓s_exit, ↓s_ret, ↓s_scope, ↓s_nil, ↓s_op, ↓s_opg, ↓s_wanted', ↓s_wantV, s_wantV, s_wantV0, beq_true, beq_false, ↓s_bindS, s_bindS, ↓s_bindE, s_bindE, s_bindE_ret, s_bindE_exit, s_bindE_iteN, s_norm, ↓s_condV, s_condV, s_block_ret, s_block_normal, s_block_exit, s_block_iteN, ↓s_getp, ↓s_getp0, ↓s_get, s_get0, ↓s_con, ↓s_fn, ↓s_os0, ↓s_os1, ↓s_list0, ↓s_list1, ↓s_mov, ↓s_pick, ↓s_pickE, s_pickE, ↓s_bin, ↓s_un, ↓s_minmax, ↓s_call, ↓s_callv, ↓s_callV, ↓s_ext, s_same, b_eql, b_neq, b_lss, b_leq, b_gtr, b_geq, b_add, b_sub, b_mul, b_eqlb, b_neqb, b_fnil, b_fnil', b_fnil2, b_fnil2', u_neg, u_not, m_two, s_end, s_end', s_end_iteN, s_res0, s_res1, s_tup1, s_tup2, ↓iteN_true, ↓iteN_false, iteN_true, iteN_false, Nat.zero_add, List.nil_append, List.append_nil, Nat.reduceEqDiff, reduceIte, decide_true, decide_false, Bool.not_true, Bool.not_false, List.getElem?_cons_zero, List.getElem?_cons_succ, Bool.false_eq_true, if_true, if_false, beq_self_eq_true]
      exact rfl, (by (simp only [s_getp, s_getp0, Nat.reduceEqDiff, decide_false, decide_true, iteN_false, iteN_true, t0]; try rfl)), (by (simp only [s_getp, s_getp0, Nat.reduceEqDiff, decide_false, decide_true, iteN_false, iteN_true, t2]; try rfl)), (by (simp only [s_getp, s_getp0, Nat.reduceEqDiff, decide_false, decide_true, iteN_false, iteN_true, t4]; try rfl)), (by (simp only [s_getp, s_getp0, Nat.reduceEqDiff, decide_false, decide_true, iteN_false, iteN_true, t7]; try rfl)), (by (simp only [s_getp, s_getp0, Nat.reduceEqDiff, decide_false, decide_true, iteN_false, iteN_true, t8]; try rfl)), (by (simp only [s_getp, s_getp0, Nat.reduceEqDiff, decide_false, decide_true, iteN_false, iteN_true, t42]; try rfl)), (by (simp only [s_getp, s_getp0, Nat.reduceEqDiff, decide_false, decide_true, iteN_false, iteN_true, t43]; try rfl)), by omega, fun j hj => by rw [KK.2 _ (by omega), fr _ hj]⟩
  · have dz : decide ((dp : Int) = 0) = false := decide_eq_false (by omega)
    have hne : br ≠ [] := by intro hh; rw [hh, List.length_nil] at bl; omega
    have hc : c = none := cn.resolve_left hne
    subst hc
    rcases g1 with ⟨e0, _⟩ | ⟨qb, vb, mb, rfl, _, _, _, hlo, hqb, gqb, hmb, rbb⟩
    · exact absurd e0 hne
    obtain ⟨k, ek⟩ : ∃ k, w % dp = k := ⟨_, rfl⟩
    have hk : k < dp := by rw [← ek]; exact Nat.mod_lt _ (by omega)
    have ww : wr .i64 (w : Int) = (w : Int) := wr_i64 (by omega)
    have re : ∀ e h, binV .rem e h (.int .i64 (w : Int)) (.int .i64 (dp : Int)) = some (.int .i64 (k : Int)) := fun e h => by
      rw [b_rem _ _ _ _ _ (by omega), ← ek]; rfl
    have ik : idx (k : Int) dp = some k := idxn hk
    have KB : Kp h1 h4 := (((k2.trans c2.kp).trans k3).trans c3.kp).trans k4
    have gqb4 : h4.get qb = some (.cells vb mb) := by rw [KB.2 _ hqb, gqb]
    have mk := mul_le (k := 32) (show k < br.length by omega)
    have rbl := rbb.1
    obtain ⟨h5, e5⟩ : ∃ h5, h4.put qb (.cells (writeN vb (k * 32) (ofI .u8 oth)) mb) = h5 := ⟨_, rfl⟩
    have sb := fun (h : H) => stMd vb (ofI .u8 oth) mb hmb h qb (k * 32) (by rw [ofI_len, ho]; omega)
    have n5 : h5.next = h4.next := by rw [← e5]; rfl
    have f5 : ∀ j, j ≠ qb → h5.get j = h4.get j := fun j hj => by rw [← e5, h_put_ne _ _ (Ne.symm hj)]
    have rb5 := rbb.set k (by omega) oth ho
    have S5 : HsR 32 h5 (some (qb, 0)) ez (br.set k oth) := .inr ⟨qb, 0, _, mb, rfl, by assumption, by omega, by rw [← e5]; exact h_put_same _ _ _, by rw [List.drop_zero]; exact rb5⟩
    have bl5 : (br.set k oth).length = dp := by rw [List.length_set, bl]
    obtain ⟨h6, r6, k6⟩ := fold_go e.fo noFo_st hx (M + 12) (by omega) A hA32 i (br.set k oth) (by omega) (by rw [bl5]; omega) (some (qb, 0)) none ez h5 S5
    replace r6 : callX E (stX k_purserlaw08_alive) (M + 19) (.fn k_merkle_Fold) _ h5 = _ := r6
    obtain ⟨fz, efz⟩ : ∃ y, foldL A i (br.set k oth) = y := ⟨_, rfl⟩
    have lfz : fz.length = 32 := by rw [← efz]; exact foldL_len _ _ _ hA32
    rw [efz] at r6
    obtain ⟨g6, c6⟩ := cel h6 fz
    have S6 := (S5.mono k6).mono c6.kp
    obtain ⟨h7, r7, k7⟩ := folded_go e.fd noFd_st hx (M + 12) (by omega) A hA32 i (br.set k oth) (by omega) (by omega) (some (qb, 0)) none ez g6 S6
    replace r7 : callX E (stX k_purserlaw08_alive) (M + 19) (.fn k_purserlaw08_folded) _ g6 = _ := r7
    rw [efz] at r7
    have K6 := k6.1
    have K7 := k7.1
    have x6 := c6.nx
    have gq5 : h5.get q = some (.cells vs md) := by rw [f5 _ (by omega), KK.2 _ (by omega), gqh]
    have gq6 : g6.get q = some (.cells vs md) := by rw [c6.kp.2 _ (by omega), k6.2 _ (by omega), gq5]
    have gq7 : h7.get q = some (.cells vs md) := by rw [k7.2 _ (by omega), gq6]
    have gz6 := c6.gt
    have gz7 : h7.get h6.next = some (.cells (ofI .u8 fz) .rw) := by rw [k7.2 _ (by omega), gz6]
    have nqz := fun h => neq32 h fz fz lfz lfz
    have dtz : (!decide (fz = fz)) = false := by rw [decide_eq_true rfl]; rfl
    rw [dtz] at nqz
    have st6 := stG _ lfz
    have pu6 := puG _ lfz
    have ld6 := ldG _ lfz
    have q6 := c6.eq
    rw [eZ3] at q6
    have bq6 := aggI_beq .u8 fz
    rw [bl5] at r6 r7
    have fin : ∀ j, j < h0.next → h7.get j = h0.get j := fun j hj => by rw [k7.2 _ (by omega), c6.kp.2 _ (by omega), k6.2 _ (by omega), f5 _ (by omega), KK.2 _ (by omega), fr _ hj]
    clear stG ldG puG
    generalize ofI .u8 (rtL l) = CR at *
    generalize ofI .u8 fy = CY at *
    generalize ofI .u8 fz = CZ at *
    generalize ofI .u8 oth = CO at *
    generalize ofI .u8 A = CA at *
    refine ⟨_, h7, by
      simp (config := {maxSteps := 2000000}) (disch := first | omega | (simp only [List.length_cons, List.length_nil, List.length_append, List.length_drop]; omega)) only [L_purserlaw08_MerkleProves_0, t0, t2, t4, t7, t8, t42, t43, c0, wi, ix, r1, gq1, lA, r2, r3, r4, r5, r6, r7, ↓al3, q2, q3, q6, gp2, gp3, gp4, gr3, gr4, gx3, gx4, gy3, gy4, gq5, gq6, gq7, gz6, gz7, gqb4, sb, e5, nqr, nqy, nqz, z0, dd, dz, ww, re, ik, st1, st2, st3, st6, pu1, pu2, pu6, ld1, ld2, ld3, ld6, bq1, bq2, bq3, bq6, bqA, ↓s_len, x_lenS, ↓b_xor32, ↓b_and32, ↓b_or32, ↓u_not32, b_xor32, b_and32, b_or32, u_not32, w32ad, ↓x_conv, x_convV, ↓x_fieldAddr, x_fieldV, ↓s_nilchk, x_nilchk, Nat.zero_add, Nat.add_zero, Nat.mul_one, ↓s_evD, ↓s_dnil, ↓s_dL, ↓s_dLg, ↓s_dR, ↓s_dRg, ↓s_dRj, ↓s_dRjg, ↓s_dB, ↓s_dBg, ↓s_dAlloc, ↓s_bindD, s_bindD, s_finD, s_finDx, s_addP0, s_addP1, s_addB, s_lookP, ↓s_bump0, ↓s_bump_get, s_bump_next, s_ok0, ↓s_ok1, s_okR0, ↓s_okR1, ↓s_okE, s_okE, s_okE1, s_nth0, s_nthS, Nat.add_zero, Bool.and_self, Bool.and_true, Bool.true_and, ↓l_loop, ↓l_succ, ↓l_normal, l_normal, l_exit, l_ret, l_iteN, ↓h_put_get, ↓h_new_get, ↓h_del_get, h_next_put, h_next_new, h_next_del, Nat.add_assoc, Nat.add_eq_left, Nat.left_eq_add, Nat.add_left_cancel_iff, ↓s_load, m_load, ↓m_load1, m_load1, ↓m_st, m_stE, m_storeI, m_storeE, w_zero, w_succ, ↓s_alloc, ↓x_idxA, ↓x_idxS, x_idxAE, x_idxSE, x_addrE, x_idx, x_lenS, ↓s_len, ↓x_buildS, x_buildE, ↓x_P0, ↓x_P1, x_fill0, x_filli, x_fills, x_fillb, c_int, List.length_cons, List.length_nil, List.cons_append, List.drop_succ_cons, List.drop_zero, List.drop_nil, List.nil_append, Int.reduceAdd, Int.reduceToNat, Int.reduceLT, Int.reduceLE, Nat.reduceAdd, Nat.reduceMul, Nat.reduceLeDiff, Int.reduceEq, Int.reduceSub, Int.cast_ofNat_Int, s_resc, s_consR, m_load4, m_store4, s_res0, ↓s_skip, ↓s_ops, ↓s_dops, ↓s_seq, ↓s_cond, ↓s_block, ↓s_exit, ↓s_ret, ↓s_scope, ↓s_nil, ↓s_op, ↓s_opg, ↓s_wanted', ↓s_wantV, s_wantV, s_wantV0, beq_true, beq_false, ↓s_bindS, s_bindS, ↓s_bindE, s_bindE, s_bindE_ret, s_bindE_exit, s_bindE_iteN, s_norm, ↓s_condV, s_condV, s_block_ret, s_block_normal, s_block_exit, s_block_iteN, ↓s_getp, ↓s_getp0, ↓s_get, s_get0, ↓s_con, ↓s_fn, ↓s_os0, ↓s_os1, ↓s_list0, ↓s_list1, ↓s_mov, ↓s_pick, ↓s_pickE, s_pickE, ↓s_bin, ↓s_un, ↓s_minmax, ↓s_call, ↓s_callv, ↓s_callV, ↓s_ext, s_same, b_eql, b_neq, b_lss, b_leq, b_gtr, b_geq, b_add, b_sub, b_mul, b_eqlb, b_neqb, b_fnil, b_fnil', b_fnil2, b_fnil2', u_neg, u_not, m_two, s_end, s_end', s_end_iteN, s_res0, s_res1, s_tup1, s_tup2, ↓iteN_true, ↓iteN_false, iteN_true, iteN_false, Nat.zero_add, List.nil_append, List.append_nil, Nat.reduceEqDiff, reduceIte, decide_true, decide_false, Bool.not_true, Bool.not_false, List.getElem?_cons_zero, List.getElem?_cons_succ, Bool.false_eq_true, if_true, if_false, beq_self_eq_true]
      exact rfl, (by (simp only [s_getp, s_getp0, Nat.reduceEqDiff, decide_false, decide_true, iteN_false, iteN_true, t0]; try rfl)), (by (simp only [s_getp, s_getp0, Nat.reduceEqDiff, decide_false, decide_true, iteN_false, iteN_true, t2]; try rfl)), (by (simp only [s_getp, s_getp0, Nat.reduceEqDiff, decide_false, decide_true, iteN_false, iteN_true, t4]; try rfl)), (by (simp only [s_getp, s_getp0, Nat.reduceEqDiff, decide_false, decide_true, iteN_false, iteN_true, t7]; try rfl)), (by (simp only [s_getp, s_getp0, Nat.reduceEqDiff, decide_false, decide_true, iteN_false, iteN_true, t8]; try rfl)), (by (simp only [s_getp, s_getp0, Nat.reduceEqDiff, decide_false, decide_true, iteN_false, iteN_true, t42]; try rfl)), (by (simp only [s_getp, s_getp0, Nat.reduceEqDiff, decide_false, decide_true, iteN_false, iteN_true, t43]; try rfl)), by omega, fin⟩
end Go.Eng
namespace Go.Eng
open Go
variable {E : Nat → Option Fn} {X : Orc}
set_option linter.unusedSimpArgs false
set_option linter.unusedVariables false
theorem law_MerkleProves (e : EnPv E) (el : E k_purserlaw08_MerkleProves = some f_purserlaw08_MerkleProves) (M : Nat) (hM : 1000 < M) (l : List (List Nat)) (ok : ∀ o ∈ l, o.length = 32 ∧ byt o = true) (hl : l.length < 4611686018427387904) (oth : List Nat) (ho : oth.length = 32) (w : Nat) (hw : w < 256) (a : Option (Nat × Nat)) (h : H) (S : HsR 32 h a 32 l) :
    ∃ h2, callX E (stX k_purserlaw08_alive) (M + 20) (.fn k_purserlaw08_MerkleProves) [.slice a l.length none 32, .agg (ofI .u8 oth), .int .u8 (w : Int)] h = some (.bool true, h2) := by
  rw [x_cfn el _ _ (Nat.le_of_ble_eq_true rfl) rfl]
  have al : ∀ h, callX E (stX k_purserlaw08_alive) (M + 19) (.fn k_purserlaw08_alive) [] h = some (.bool true, h) := fun h => x_known rfl
  have hx := hasTw_st (E := E) k_purserlaw08_alive
  have ca' : ∀ l : List V, (V.agg l).cells = l := fun _ => rfl
  obtain ⟨len, elen⟩ : ∃ n, l.length = n := ⟨_, rfl⟩
  rw [elen] at hl ⊢
  have nt : (!true) = false := rfl
  obtain ⟨b, eb⟩ : ∃ b, h.next = b := ⟨_, rfl⟩
  obtain ⟨h1, e1⟩ : ∃ h1, h.new (.cells (ofI .u8 oth) .rw) = h1 := ⟨_, rfl⟩
  have n1 : h1.next = b + 1 := by rw [← e1, ← eb]; rfl
  have k1 : Kp h h1 := by rw [← e1]; (repeat (first | exact Kp.refl _ | refine Kp.put ?_ _ (by first | omega | (simp only [h_next_put, h_next_new, h_next_del]; omega)) | refine Kp.del ?_ (by first | omega | (simp only [h_next_put, h_next_new, h_next_del]; omega)) | refine Kp.trans ?_ (Kp.new _ _)))
  have g1 : h1.get b = some (.cells (ofI .u8 oth) .rw) := by rw [← e1, ← eb]; exact h_new_same _ _
  by_cases s1 : len = 0
  · have d1 : decide ((len : Int) = 0) = true := decide_eq_true (by omega)
    generalize ofI .u8 oth = CO at *
    exact ⟨h1, by
      simp (config := {maxSteps := 2000000}) (disch := first | omega | (simp only [List.length_cons, List.length_nil, List.length_append, List.length_drop]; omega)) only [ca', e1, al, d1, ↓s_len, x_lenS, ↓s_box, ↓b_xor32, ↓b_and32, ↓b_or32, ↓u_not32, b_xor32, b_and32, b_or32, u_not32, w32ad, ↓x_conv, x_convV, ↓x_fieldAddr, x_fieldV, ↓s_nilchk, x_nilchk, Nat.zero_add, Nat.add_zero, Nat.mul_one, ↓l_loop, ↓l_succ, ↓l_normal, l_normal, l_exit, l_ret, l_iteN, ↓h_put_get, ↓h_new_get, ↓h_del_get, h_next_put, h_next_new, h_next_del, Nat.add_assoc, Nat.add_eq_left, Nat.left_eq_add, Nat.add_left_cancel_iff, ↓s_load, m_load, ↓m_load1, m_load1, ↓m_st, m_stE, m_storeI, m_storeE, w_zero, w_succ, ↓s_alloc, ↓x_idxA, ↓x_idxS, x_idxAE, x_idxSE, x_addrE, x_idx, x_lenS, ↓s_len, ↓x_buildS, x_buildE, ↓x_P0, ↓x_P1, x_fill0, x_filli, x_fills, x_fillb, c_int, List.length_cons, List.length_nil, List.cons_append, List.drop_succ_cons, List.drop_zero, List.drop_nil, List.nil_append, Int.reduceAdd, Int.reduceToNat, Int.reduceLT, Int.reduceLE, Nat.reduceAdd, Nat.reduceMul, Nat.reduceLeDiff, Int.reduceEq, Int.reduceSub, Int.cast_ofNat_Int, s_resc, s_consR, m_load4, m_store4, s_res0, ↓s_skip, ↓s_ops, ↓s_dops, ↓s_seq, ↓s_cond, ↓s_block, ↓s_exit, ↓s_ret, ↓s_scope, ↓s_nil, ↓s_op, ↓s_opg, ↓s_wanted', ↓s_wantV, s_wantV, s_wantV0, beq_true, beq_false, ↓s_bindS, s_bindS, ↓s_bindE, s_bindE, s_bindE_ret, s_bindE_exit, s_bindE_iteN, s_norm, ↓s_condV, s_condV, s_block_ret, s_block_normal, s_block_exit, s_block_iteN, ↓s_getp, ↓s_getp0, ↓s_get, s_get0, ↓s_con, ↓s_fn, ↓s_os0, ↓s_os1, ↓s_list0, ↓s_list1, ↓s_mov, ↓s_pick, ↓s_pickE, s_pickE, ↓s_bin, ↓s_un, ↓s_minmax, ↓s_call, ↓s_callv, ↓s_callV, ↓s_ext, s_same, b_eql, b_neq, b_lss, b_leq, b_gtr, b_geq, b_add, b_sub, b_mul, b_eqlb, b_neqb, b_fnil, b_fnil', b_fnil2, b_fnil2', u_neg, u_not, m_two, s_end, s_end', s_end_iteN, s_res0, s_res1, s_tup1, s_tup2, ↓iteN_true, ↓iteN_false, iteN_true, iteN_false, Nat.zero_add, List.nil_append, List.append_nil, Nat.reduceEqDiff, reduceIte, decide_true, decide_false, Bool.not_true, Bool.not_false, List.getElem?_cons_zero, List.getElem?_cons_succ, Bool.false_eq_true, if_true, if_false, beq_self_eq_true]⟩
  have d1 : decide ((len : Int) = 0) = false := decide_eq_false (by omega)
  by_cases s2 : 40 < len
  · have d2 : decide ((40 : Int) < (len : Int)) = true := decide_eq_true (by omega)
    generalize ofI .u8 oth = CO at *
    exact ⟨h1, by
      simp (config := {maxSteps := 2000000}) (disch := first | omega | (simp only [List.length_cons, List.length_nil, List.length_append, List.length_drop]; omega)) only [ca', e1, al, d1, d2, ↓s_len, x_lenS, ↓s_box, ↓b_xor32, ↓b_and32, ↓b_or32, ↓u_not32, b_xor32, b_and32, b_or32, u_not32, w32ad, ↓x_conv, x_convV, ↓x_fieldAddr, x_fieldV, ↓s_nilchk, x_nilchk, Nat.zero_add, Nat.add_zero, Nat.mul_one, ↓l_loop, ↓l_succ, ↓l_normal, l_normal, l_exit, l_ret, l_iteN, ↓h_put_get, ↓h_new_get, ↓h_del_get, h_next_put, h_next_new, h_next_del, Nat.add_assoc, Nat.add_eq_left, Nat.left_eq_add, Nat.add_left_cancel_iff, ↓s_load, m_load, ↓m_load1, m_load1, ↓m_st, m_stE, m_storeI, m_storeE, w_zero, w_succ, ↓s_alloc, ↓x_idxA, ↓x_idxS, x_idxAE, x_idxSE, x_addrE, x_idx, x_lenS, ↓s_len, ↓x_buildS, x_buildE, ↓x_P0, ↓x_P1, x_fill0, x_filli, x_fills, x_fillb, c_int, List.length_cons, List.length_nil, List.cons_append, List.drop_succ_cons, List.drop_zero, List.drop_nil, List.nil_append, Int.reduceAdd, Int.reduceToNat, Int.reduceLT, Int.reduceLE, Nat.reduceAdd, Nat.reduceMul, Nat.reduceLeDiff, Int.reduceEq, Int.reduceSub, Int.cast_ofNat_Int, s_resc, s_consR, m_load4, m_store4, s_res0, ↓s_skip, ↓s_ops, ↓s_dops, ↓s_seq, ↓s_cond, ↓s_block, ↓s_exit, ↓s_ret, ↓s_scope, ↓s_nil, ↓s_op, ↓s_opg, ↓s_wanted', ↓s_wantV, s_wantV, s_wantV0, beq_true, beq_false, ↓s_bindS, s_bindS, ↓s_bindE, s_bindE, s_bindE_ret, s_bindE_exit, s_bindE_iteN, s_norm, ↓s_condV, s_condV, s_block_ret, s_block_normal, s_block_exit, s_block_iteN, ↓s_getp, ↓s_getp0, ↓s_get, s_get0, ↓s_con, ↓s_fn, ↓s_os0, ↓s_os1, ↓s_list0, ↓s_list1, ↓s_mov, ↓s_pick, ↓s_pickE, s_pickE, ↓s_bin, ↓s_un, ↓s_minmax, ↓s_call, ↓s_callv, ↓s_callV, ↓s_ext, s_same, b_eql, b_neq, b_lss, b_leq, b_gtr, b_geq, b_add, b_sub, b_mul, b_eqlb, b_neqb, b_fnil, b_fnil', b_fnil2, b_fnil2', u_neg, u_not, m_two, s_end, s_end', s_end_iteN, s_res0, s_res1, s_tup1, s_tup2, ↓iteN_true, ↓iteN_false, iteN_true, iteN_false, Nat.zero_add, List.nil_append, List.append_nil, Nat.reduceEqDiff, reduceIte, decide_true, decide_false, Bool.not_true, Bool.not_false, List.getElem?_cons_zero, List.getElem?_cons_succ, Bool.false_eq_true, if_true, if_false, beq_self_eq_true]⟩
  have d2 : decide ((40 : Int) < (len : Int)) = false := decide_eq_false (by omega)
  rcases S with S | ⟨q, off, vs, md, rfl, _, hq, gq, rb⟩
  · rw [S, List.length_nil] at elen; omega
  have gq1 : h1.get q = some (.cells vs md) := by rw [k1.2 _ hq, gq]
  obtain ⟨h2, r2, k2⟩ := rootH e.rt hx (M + 8) (by omega) l (by omega) (by omega) h1 q off len elen vs md (by omega) gq1 rb
  replace r2 : callX E (stX k_purserlaw08_alive) (M + 19) (.fn k_merkle_Root) _ h1 = _ := r2
  obtain ⟨g2, c2⟩ := cel h2 (rtL l)
  have K2 := k2.1
  have x2 := c2.nx
  have lr := rtL_len len l (by omega) (by omega) (fun o ho => (ok o ho).1)
  have KG := k2.trans c2.kp
  obtain ⟨Z3, eZ3⟩ : ∃ Z, ofI .u8 (List.replicate 32 0) = Z := ⟨_, rfl⟩
  have al3 : ∀ (Q : Orc) (T : Tr V) (h : H), Eng.step (.alloc [.int .u8 0, .int .u8 0, .int .u8 0, .int .u8 0, .int .u8 0, .int .u8 0, .int .u8 0, .int .u8 0, .int .u8 0, .int .u8 0, .int .u8 0, .int .u8 0, .int .u8 0, .int .u8 0, .int .u8 0, .int .u8 0, .int .u8 0, .int .u8 0, .int .u8 0, .int .u8 0, .int .u8 0, .int .u8 0, .int .u8 0, .int .u8 0, .int .u8 0, .int .u8 0, .int .u8 0, .int .u8 0, .int .u8 0, .int .u8 0, .int .u8 0, .int .u8 0]) Q T h = some (.ptr (some (h.next, 0)), h.new (.cells Z3 .rw)) := fun Q T h => by rw [← eZ3]; rfl
  have pu : ∀ h i, storeE (some (.cells Z3 .rw)) h i 0 (ofI .u8 (rtL l)) = some (h.put i (.cells (ofI .u8 (rtL l)) .rw)) := fun h i => by
    rw [m_storeE _ _ _ _ _ (by rw [← eZ3, ofI_len, ofI_len, lr, List.length_replicate]; omega), ← eZ3, wrAll _ _ _ (by rw [List.length_replicate, lr])]
  have st : ∀ h i, storeV h 32 (.ptr (some (i, 0))) (.agg (ofI .u8 (rtL l))) = storeE (h.get i) h i 0 (ofI .u8 (rtL l)) := fun h i => st32 h i 0 _ lr
  have q2 := c2.eq
  rw [eZ3] at q2
  have z0 : decide ((0 : Int) = 0) = true := rfl
  have fin : ∀ T, evO T (.t 0) = .slice (some (q, off)) len none 32 → evO T (.t 2) = .int .u8 (w : Int) → evO T (.t 4) = .ptr (some (b, 0)) → evO T (.t 7) = .bool true → evO T (.t 8) = .ptr (some (h2.next, 0)) → evO T (.t 42) = .int .i64 (len : Int) → evO T (.t 43) = .int .i64 ((0 : Nat) : Int) →
      ∃ h', fnEnd [.tmp 6] (bindE (blockE 0 (loopN (evC (callX E (stX k_purserlaw08_alive) (M + 19)) 137 (M + 19) none L_purserlaw08_MerkleProves_0) (M + 19) ⟨T, [], g2⟩)) (evC (callX E (stX k_purserlaw08_alive) (M + 19)) 137 (M + 19) none R_purserlaw08_MerkleProves_0)) = some (.bool true, h') := by
    intro T t0 t2 t4 t7 t8 t42 t43
    subst elen
    obtain ⟨T', h', r, J⟩ := loop_go (PvI q off b h2.next w l.length g2) l.length (.exit 0) (by intro h; cases h) (PvI q off b h2.next w l.length g2 l.length) (pv_step e M (M + 19) q off b h2.next w hM hw l (fun o ho => (ok o ho).1) (by omega) (by omega) oth ho g2 (by omega) (by omega) (by omega) vs md (by rw [KG.2 _ (by omega), gq1]) rb (by rw [KG.2 _ (by omega), g1]) c2.gt) (fun T h' I => by
      obtain ⟨t0, t2, t4, t7, t8, t42, t43, nx, fr⟩ := I
      have c0 : decide ((l.length : Int) < (l.length : Int)) = false := decide_eq_false (by omega)
      refine ⟨_, h', by
        simp (config := {maxSteps := 2000000}) (disch := first | omega | (simp only [List.length_cons, List.length_nil, List.length_append, List.length_drop]; omega)) only [L_purserlaw08_MerkleProves_0, t42, t43, c0, ↓b_xor32, ↓b_and32, ↓b_or32, ↓u_not32, b_xor32, b_and32, b_or32, u_not32, w32ad, ↓x_conv, x_convV, ↓x_fieldAddr, x_fieldV, ↓s_nilchk, x_nilchk, Nat.zero_add, Nat.add_zero, Nat.mul_one, ↓l_loop, ↓l_succ, ↓l_normal, l_normal, l_exit, l_ret, l_iteN, ↓h_put_get, ↓h_new_get, ↓h_del_get, h_next_put, h_next_new, h_next_del, Nat.add_assoc, Nat.add_eq_left, Nat.left_eq_add, Nat.add_left_cancel_iff, ↓s_load, m_load, ↓m_load1, m_load1, ↓m_st, m_stE, m_storeI, m_storeE, w_zero, w_succ, ↓s_alloc, ↓x_idxA, ↓x_idxS, x_idxAE, x_idxSE, x_addrE, x_idx, x_lenS, ↓s_len, ↓x_buildS, x_buildE, ↓x_P0, ↓x_P1, x_fill0, x_filli, x_fills, x_fillb, c_int, List.length_cons, List.length_nil, List.cons_append, List.drop_succ_cons, List.drop_zero, List.drop_nil, List.nil_append, Int.reduceAdd, Int.reduceToNat, Int.reduceLT, Int.reduceLE, Nat.reduceAdd, Nat.reduceMul, Nat.reduceLeDiff, Int.reduceEq, Int.reduceSub, Int.cast_ofNat_Int, s_resc, s_consR, m_load4, m_store4, s_res0, ↓s_skip, ↓s_ops, ↓s_dops, ↓s_seq, ↓s_cond, ↓s_block, ↓s_exit, ↓s_ret, ↓s_scope, ↓s_nil, ↓s_op, ↓s_opg, ↓s_wanted', ↓s_wantV, s_wantV, s_wantV0, beq_true, beq_false, ↓s_bindS, s_bindS, ↓s_bindE, s_bindE, s_bindE_ret, s_bindE_exit, s_bindE_iteN, s_norm, ↓s_condV, s_condV, s_block_ret, s_block_normal, s_block_exit, s_block_iteN, ↓s_getp, ↓s_getp0, ↓s_get, s_get0, ↓s_con, ↓s_fn, ↓s_os0, ↓s_os1, ↓s_list0, ↓s_list1, ↓s_mov, ↓s_pick, ↓s_pickE, s_pickE, ↓s_bin, ↓s_un, ↓s_minmax, ↓s_call, ↓s_callv, ↓s_callV, ↓s_ext, s_same, b_eql, b_neq, b_lss, b_leq, b_gtr, b_geq, b_add, b_sub, b_mul, b_eqlb, b_neqb, b_fnil, b_fnil', b_fnil2, b_fnil2', u_neg, u_not, m_two, s_end, s_end', s_end_iteN, s_res0, s_res1, s_tup1, s_tup2, ↓iteN_true, ↓iteN_false, iteN_true, iteN_false, Nat.zero_add, List.nil_append, List.append_nil, Nat.reduceEqDiff, reduceIte, decide_true, decide_false, Bool.not_true, Bool.not_false, List.getElem?_cons_zero, List.getElem?_cons_succ, Bool.false_eq_true, if_true, if_false, beq_self_eq_true]
        exact rfl, ⟨(by (simp only [s_getp, s_getp0, Nat.reduceEqDiff, decide_false, decide_true, iteN_false, iteN_true, t0]; try rfl)), (by (simp only [s_getp, s_getp0, Nat.reduceEqDiff, decide_false, decide_true, iteN_false, iteN_true, t2]; try rfl)), (by (simp only [s_getp, s_getp0, Nat.reduceEqDiff, decide_false, decide_true, iteN_false, iteN_true, t4]; try rfl)), (by (simp only [s_getp, s_getp0, Nat.reduceEqDiff, decide_false, decide_true, iteN_false, iteN_true, t7]; try rfl)), (by (simp only [s_getp, s_getp0, Nat.reduceEqDiff, decide_false, decide_true, iteN_false, iteN_true, t8]; try rfl)), (by (simp only [s_getp, s_getp0, Nat.reduceEqDiff, decide_false, decide_true, iteN_false, iteN_true, t42]; try rfl)), (by (simp only [s_getp, s_getp0, Nat.reduceEqDiff, decide_false, decide_true, iteN_false, iteN_true, t43]; try rfl)), nx, fr⟩⟩) l.length 0 (by omega) (M + 19) (by omega) T g2 ⟨t0, t2, t4, t7, t8, t42, t43, Nat.le_refl _, fun _ _ => rfl⟩
    rw [r]
    have u7 := J.t7
    exact ⟨h', by
      simp (config := {maxSteps := 2000000}) (disch := first | omega | (simp only [List.length_cons, List.length_nil, List.length_append, List.length_drop]; omega)) only [R_purserlaw08_MerkleProves_0, u7, ↓b_xor32, ↓b_and32, ↓b_or32, ↓u_not32, b_xor32, b_and32, b_or32, u_not32, w32ad, ↓x_conv, x_convV, ↓x_fieldAddr, x_fieldV, ↓s_nilchk, x_nilchk, Nat.zero_add, Nat.add_zero, Nat.mul_one, ↓l_loop, ↓l_succ, ↓l_normal, l_normal, l_exit, l_ret, l_iteN, ↓h_put_get, ↓h_new_get, ↓h_del_get, h_next_put, h_next_new, h_next_del, Nat.add_assoc, Nat.add_eq_left, Nat.left_eq_add, Nat.add_left_cancel_iff, ↓s_load, m_load, ↓m_load1, m_load1, ↓m_st, m_stE, m_storeI, m_storeE, w_zero, w_succ, ↓s_alloc, ↓x_idxA, ↓x_idxS, x_idxAE, x_idxSE, x_addrE, x_idx, x_lenS, ↓s_len, ↓x_buildS, x_buildE, ↓x_P0, ↓x_P1, x_fill0, x_filli, x_fills, x_fillb, c_int, List.length_cons, List.length_nil, List.cons_append, List.drop_succ_cons, List.drop_zero, List.drop_nil, List.nil_append, Int.reduceAdd, Int.reduceToNat, Int.reduceLT, Int.reduceLE, Nat.reduceAdd, Nat.reduceMul, Nat.reduceLeDiff, Int.reduceEq, Int.reduceSub, Int.cast_ofNat_Int, s_resc, s_consR, m_load4, m_store4, s_res0, ↓s_skip, ↓s_ops, ↓s_dops, ↓s_seq, ↓s_cond, ↓s_block, ↓s_exit, ↓s_ret, ↓s_scope, ↓s_nil, ↓s_op, ↓s_opg, ↓s_wanted', ↓s_wantV, s_wantV, s_wantV0, beq_true, beq_false, ↓s_bindS, s_bindS, ↓s_bindE, s_bindE, s_bindE_ret, s_bindE_exit, s_bindE_iteN, s_norm, ↓s_condV, s_condV, s_block_ret, s_block_normal, s_block_exit, s_block_iteN, ↓s_getp, ↓s_getp0, ↓s_get, s_get0, ↓s_con, ↓s_fn, ↓s_os0, ↓s_os1, ↓s_list0, ↓s_list1, ↓s_mov, ↓s_pick, ↓s_pickE, s_pickE, ↓s_bin, ↓s_un, ↓s_minmax, ↓s_call, ↓s_callv, ↓s_callV, ↓s_ext, s_same, b_eql, b_neq, b_lss, b_leq, b_gtr, b_geq, b_add, b_sub, b_mul, b_eqlb, b_neqb, b_fnil, b_fnil', b_fnil2, b_fnil2', u_neg, u_not, m_two, s_end, s_end', s_end_iteN, s_res0, s_res1, s_tup1, s_tup2, ↓iteN_true, ↓iteN_false, iteN_true, iteN_false, Nat.zero_add, List.nil_append, List.append_nil, Nat.reduceEqDiff, reduceIte, decide_true, decide_false, Bool.not_true, Bool.not_false, List.getElem?_cons_zero, List.getElem?_cons_succ, Bool.false_eq_true, if_true, if_false, beq_self_eq_true]⟩
  obtain ⟨R, eR⟩ : ∃ R, R_purserlaw08_MerkleProves_0 = R := ⟨_, rfl⟩
  obtain ⟨Lo, eL⟩ : ∃ R, L_purserlaw08_MerkleProves_0 = R := ⟨_, rfl⟩
  rw [eR, eL] at fin ⊢
  generalize ofI .u8 (rtL l) = CR at *
  generalize ofI .u8 oth = CO at *
  simp (config := {maxSteps := 2000000}) (disch := first | omega | (simp only [List.length_cons, List.length_nil, List.length_append, List.length_drop]; omega)) only [ca', eb, e1, al, d1, d2, r2, ↓al3, st, pu, q2, z0, ↓s_len, x_lenS, ↓s_box, ↓b_xor32, ↓b_and32, ↓b_or32, ↓u_not32, b_xor32, b_and32, b_or32, u_not32, w32ad, ↓x_conv, x_convV, ↓x_fieldAddr, x_fieldV, ↓s_nilchk, x_nilchk, Nat.zero_add, Nat.add_zero, Nat.mul_one, ↓l_loop, ↓l_succ, ↓l_normal, l_normal, l_exit, l_ret, l_iteN, ↓h_put_get, ↓h_new_get, ↓h_del_get, h_next_put, h_next_new, h_next_del, Nat.add_assoc, Nat.add_eq_left, Nat.left_eq_add, Nat.add_left_cancel_iff, ↓s_load, m_load, ↓m_load1, m_load1, ↓m_st, m_stE, m_storeI, m_storeE, w_zero, w_succ, ↓s_alloc, ↓x_idxA, ↓x_idxS, x_idxAE, x_idxSE, x_addrE, x_idx, x_lenS, ↓s_len, ↓x_buildS, x_buildE, ↓x_P0, ↓x_P1, x_fill0, x_filli, x_fills, x_fillb, c_int, List.length_cons, List.length_nil, List.cons_append, List.drop_succ_cons, List.drop_zero, List.drop_nil, List.nil_append, Int.reduceAdd, Int.reduceToNat, Int.reduceLT, Int.reduceLE, Nat.reduceAdd, Nat.reduceMul, Nat.reduceLeDiff, Int.reduceEq, Int.reduceSub, Int.cast_ofNat_Int, s_resc, s_consR, m_load4, m_store4, s_res0, ↓s_skip, ↓s_ops, ↓s_dops, ↓s_seq, ↓s_cond, ↓s_block, ↓s_exit, ↓s_ret, ↓s_scope, ↓s_nil, ↓s_op, ↓s_opg, ↓s_wanted', ↓s_wantV, s_wantV, s_wantV0, beq_true, beq_false, ↓s_bindS, s_bindS, ↓s_bindE, s_bindE, s_bindE_ret, s_bindE_exit, s_bindE_iteN, s_norm, ↓s_condV, s_condV, s_block_ret, s_block_normal, s_block_exit, s_block_iteN, ↓s_getp, ↓s_getp0, ↓s_get, s_get0, ↓s_con, ↓s_fn, ↓s_os0, ↓s_os1, ↓s_list0, ↓s_list1, ↓s_mov, ↓s_pick, ↓s_pickE, s_pickE, ↓s_bin, ↓s_un, ↓s_minmax, ↓s_call, ↓s_callv, ↓s_callV, ↓s_ext, s_same, b_eql, b_neq, b_lss, b_leq, b_gtr, b_geq, b_add, b_sub, b_mul, b_eqlb, b_neqb, b_fnil, b_fnil', b_fnil2, b_fnil2', u_neg, u_not, m_two, s_end, s_end', s_end_iteN, s_res0, s_res1, s_tup1, s_tup2, ↓iteN_true, ↓iteN_false, iteN_true, iteN_false, Nat.zero_add, List.nil_append, List.append_nil, Nat.reduceEqDiff, reduceIte, decide_true, decide_false, Bool.not_true, Bool.not_false, List.getElem?_cons_zero, List.getElem?_cons_succ, Bool.false_eq_true, if_true, if_false, beq_self_eq_true]
  exact fin _ (by (simp only [s_getp, s_getp0, Nat.reduceEqDiff, decide_false, decide_true, iteN_false, iteN_true, s_get, n1]; try rfl)) (by (simp only [s_getp, s_getp0, Nat.reduceEqDiff, decide_false, decide_true, iteN_false, iteN_true, s_get, n1]; try rfl)) (by (simp only [s_getp, s_getp0, Nat.reduceEqDiff, decide_false, decide_true, iteN_false, iteN_true, s_get, n1]; try rfl)) (by (simp only [s_getp, s_getp0, Nat.reduceEqDiff, decide_false, decide_true, iteN_false, iteN_true, s_get, n1]; try rfl)) (by (simp only [s_getp, s_getp0, Nat.reduceEqDiff, decide_false, decide_true, iteN_false, iteN_true, s_get, n1]; try rfl)) (by (simp only [s_getp, s_getp0, Nat.reduceEqDiff, decide_false, decide_true, iteN_false, iteN_true, s_get, n1]; try rfl)) (by (simp only [s_getp, s_getp0, Nat.reduceEqDiff, decide_false, decide_true, iteN_false, iteN_true, s_get, n1]; try rfl))
end Go.Eng
