/- What functions of the program come to: own work. -/
import Derived.Test.YtniiddgjepkmeaaNnE
namespace Go.Eng
open Go
variable {E : Nat → Option Fn}
set_option linter.unusedSimpArgs false
set_option linter.unusedVariables false
/-- what a round of the reference's loop has -/
structure BI (m : Nat) (neg : Bool) (ds : List Nat) (h0 : H) (T : Tr V) (h : H) : Prop where
  t0 : evO T (.t 0) = .int .i64 (m : Int)
  t4 : evO T (.t 4) = .bool neg
  nx : h0.next ≤ h.next
  kp : ∀ j, j < h0.next → h.get j = h0.get j
  sl : (ds = [] ∧ evO T (.t 3) = .slice none 0 (some 0) 0) ∨ (∃ p md, h0.next ≤ p ∧ p < h.next ∧ isRo md = false ∧ ds ≠ [] ∧ evO T (.t 3) = .slice (some (p, 0)) ds.length none 1 ∧ h.get p = some (.cells (ofBytes ds) md))
theorem b_more {Q : Orc} {n : Nat} (m : Nat) (hm : m ≠ 0) (hmM : m < 9223372036854775808) (neg : Bool) (ds : List Nat) (hds : ds.length ≤ 100) (h0 : H) (T : Tr V) (h : H) (I : BI m neg ds h0 T h) :
    ∃ T' h', evC Q 47 n none bLoop ⟨T, [], h⟩ = some (.normal, ⟨T', [], h'⟩) ∧ BI (m / 256) neg (ds ++ [m % 256]) h0 T' h' := by
  obtain ⟨t0, t4, nx, kp, hs⟩ := I
  obtain ⟨lo, elo⟩ : ∃ lo, m % 256 = lo := ⟨_, rfl⟩
  obtain ⟨up, eup⟩ : ∃ up, m / 256 = up := ⟨_, rfl⟩
  have rm : ∀ e h, binV .rem e h (.int .i64 (m : Int)) (.int .i64 256) = some (.int .i64 (lo : Int)) := fun e h => by
    rw [b_rem _ _ _ _ 256 (by decide), ← elo, show (m : Int).tmod 256 = ((m % 256 : Nat) : Int) from rfl]
  have qu : ∀ e h, binV .quo e h (.int .i64 (m : Int)) (.int .i64 256) = some (.int .i64 (up : Int)) := fun e h => by
    rw [b_quo _ _ _ _ 256 (by decide), ← eup, show (m : Int).tdiv 256 = ((m / 256 : Nat) : Int) from rfl, wr_i64n _ (by omega)]
  have wl : wr .u8 (lo : Int) = (lo : Int) := by
    rw [wr_eq]
    simp only [IntKind.wrap, IntKind.bits, IntKind.signed]
    simp
    omega
  have c0 : decide ((0 : Int) < (m : Int)) = true := decide_eq_true (by omega)
  rw [elo, eup]
  rcases hs with ⟨rfl, t3⟩ | ⟨p, md, p4, pn, hmd, hne, t3, bp⟩
  · refine ⟨_, _, by
      simp (config := {maxSteps := 1000000}) (disch := first | omega | (simp only [List.length_cons, List.length_nil, List.length_append, List.length_drop]; omega)) only [bLoop, t0, t3, rm, qu, wl, c0, ↓x_conv, x_convV, ↓s_append, m_src, m_src1, m_app0, m_app, ↓l_loop, ↓l_succ, ↓l_normal, l_normal, l_exit, l_ret, l_iteN, ↓h_put_get, ↓h_new_get, ↓h_del_get, h_next_put, h_next_new, h_next_del, Nat.add_assoc, Nat.add_eq_left, Nat.left_eq_add, Nat.add_left_cancel_iff, ↓s_load, m_load, ↓m_load1, m_load1, ↓m_st, m_stE, m_storeI, m_storeE, w_zero, w_succ, ↓s_alloc, ↓x_idxA, ↓x_idxS, x_idxAE, x_idxSE, x_addrE, x_idx, x_lenS, ↓s_len, ↓x_buildS, x_buildE, ↓x_P0, ↓x_P1, x_fill0, x_filli, x_fills, x_fillb, c_int, List.length_cons, List.length_nil, List.cons_append, List.drop_succ_cons, List.drop_zero, List.drop_nil, List.nil_append, Int.reduceAdd, Int.reduceToNat, Int.reduceLT, Int.reduceLE, Nat.reduceAdd, Nat.reduceMul, Nat.reduceLeDiff, Int.reduceEq, Int.reduceSub, Int.cast_ofNat_Int, s_resc, s_consR, m_load4, m_store4, s_res0, ↓s_skip, ↓s_ops, ↓s_dops, ↓s_seq, ↓s_cond, ↓s_block, ↓s_exit, ↓s_ret, ↓s_scope, ↓s_nil, ↓s_op, ↓s_opg, ↓s_wanted', ↓s_wantV, s_wantV, s_wantV0, beq_true, beq_false, ↓s_bindS, s_bindS, ↓s_bindE, s_bindE, s_bindE_ret, s_bindE_exit, s_bindE_iteN, s_norm, ↓s_condV, s_condV, s_block_ret, s_block_normal, s_block_exit, s_block_iteN, ↓s_getp, ↓s_getp0, ↓s_get, s_get0, ↓s_con, ↓s_fn, ↓s_os0, ↓s_os1, ↓s_list0, ↓s_list1, ↓s_mov, ↓s_pick, ↓s_pickE, s_pickE, ↓s_bin, ↓s_un, ↓s_minmax, ↓s_call, ↓s_callv, ↓s_callV, ↓s_ext, s_same, b_eql, b_neq, b_lss, b_leq, b_gtr, b_geq, b_add, b_sub, b_mul, b_eqlb, b_neqb, b_fnil, b_fnil', b_fnil2, b_fnil2', u_neg, u_not, m_two, s_end, s_end', s_end_iteN, s_res0, s_res1, s_tup1, s_tup2, ↓iteN_true, ↓iteN_false, iteN_true, iteN_false, Nat.zero_add, List.nil_append, List.append_nil, Nat.reduceEqDiff, reduceIte, decide_true, decide_false, Bool.not_true, Bool.not_false, List.getElem?_cons_zero, List.getElem?_cons_succ, Bool.false_eq_true, if_true, if_false, beq_self_eq_true]
      exact rfl, ⟨by simp only [s_getp, s_getp0, Nat.reduceEqDiff, decide_false, decide_true, iteN_false, iteN_true], by simp only [s_getp, s_getp0, Nat.reduceEqDiff, decide_false, decide_true, iteN_false, iteN_true, t4], by simp only [h_next_new]; omega, fun j hj => ?_, .inr ⟨h.next + 1, .rw, by omega, by simp only [h_next_new]; omega, rfl, by simp, by simp only [s_getp, s_getp0, Nat.reduceEqDiff, decide_false, decide_true, iteN_false, iteN_true, List.nil_append, List.length_cons, List.length_nil, h_next_new], ?_⟩⟩⟩
    · rw [h_new_ne _ _ (by rw [h_next_new]; omega), h_new_ne _ _ (by omega), kp j hj]
    · simp only [h_new_get, h_next_new, decide_true, iteN_true]; rfl
  · have rd : readN (ofBytes ds) 0 ds.length = some (ofBytes ds) := x_readAll _ _ (ofBytes_len ds)
    have ap := fun (h : H) (i : Nat) (new : List V) => m_appE (ofBytes ds) md hmd h i ds.length new _ rd
    have pe : (h.next = p) = False := by simp; omega
    have pe1 : (h.next + 1 = p) = False := by simp; omega
    refine ⟨_, _, by
      simp (config := {maxSteps := 1000000}) (disch := first | omega | (simp only [List.length_cons, List.length_nil, List.length_append, List.length_drop]; omega)) only [bLoop, t0, t3, rm, qu, wl, c0, bp, ap, pe, pe1, ↓x_conv, x_convV, ↓s_append, m_src, m_src1, m_app0, m_app, ↓l_loop, ↓l_succ, ↓l_normal, l_normal, l_exit, l_ret, l_iteN, ↓h_put_get, ↓h_new_get, ↓h_del_get, h_next_put, h_next_new, h_next_del, Nat.add_assoc, Nat.add_eq_left, Nat.left_eq_add, Nat.add_left_cancel_iff, ↓s_load, m_load, ↓m_load1, m_load1, ↓m_st, m_stE, m_storeI, m_storeE, w_zero, w_succ, ↓s_alloc, ↓x_idxA, ↓x_idxS, x_idxAE, x_idxSE, x_addrE, x_idx, x_lenS, ↓s_len, ↓x_buildS, x_buildE, ↓x_P0, ↓x_P1, x_fill0, x_filli, x_fills, x_fillb, c_int, List.length_cons, List.length_nil, List.cons_append, List.drop_succ_cons, List.drop_zero, List.drop_nil, List.nil_append, Int.reduceAdd, Int.reduceToNat, Int.reduceLT, Int.reduceLE, Nat.reduceAdd, Nat.reduceMul, Nat.reduceLeDiff, Int.reduceEq, Int.reduceSub, Int.cast_ofNat_Int, s_resc, s_consR, m_load4, m_store4, s_res0, ↓s_skip, ↓s_ops, ↓s_dops, ↓s_seq, ↓s_cond, ↓s_block, ↓s_exit, ↓s_ret, ↓s_scope, ↓s_nil, ↓s_op, ↓s_opg, ↓s_wanted', ↓s_wantV, s_wantV, s_wantV0, beq_true, beq_false, ↓s_bindS, s_bindS, ↓s_bindE, s_bindE, s_bindE_ret, s_bindE_exit, s_bindE_iteN, s_norm, ↓s_condV, s_condV, s_block_ret, s_block_normal, s_block_exit, s_block_iteN, ↓s_getp, ↓s_getp0, ↓s_get, s_get0, ↓s_con, ↓s_fn, ↓s_os0, ↓s_os1, ↓s_list0, ↓s_list1, ↓s_mov, ↓s_pick, ↓s_pickE, s_pickE, ↓s_bin, ↓s_un, ↓s_minmax, ↓s_call, ↓s_callv, ↓s_callV, ↓s_ext, s_same, b_eql, b_neq, b_lss, b_leq, b_gtr, b_geq, b_add, b_sub, b_mul, b_eqlb, b_neqb, b_fnil, b_fnil', b_fnil2, b_fnil2', u_neg, u_not, m_two, s_end, s_end', s_end_iteN, s_res0, s_res1, s_tup1, s_tup2, ↓iteN_true, ↓iteN_false, iteN_true, iteN_false, Nat.zero_add, List.nil_append, List.append_nil, Nat.reduceEqDiff, reduceIte, decide_true, decide_false, Bool.not_true, Bool.not_false, List.getElem?_cons_zero, List.getElem?_cons_succ, Bool.false_eq_true, if_true, if_false, beq_self_eq_true]
      exact rfl, ⟨by simp only [s_getp, s_getp0, Nat.reduceEqDiff, decide_false, decide_true, iteN_false, iteN_true], by simp only [s_getp, s_getp0, Nat.reduceEqDiff, decide_false, decide_true, iteN_false, iteN_true, t4], by simp only [h_next_new, h_next_del]; omega, fun j hj => ?_, .inr ⟨h.next + 1, .sh, by omega, by simp only [h_next_new, h_next_del]; omega, rfl, by simp, by simp only [s_getp, s_getp0, Nat.reduceEqDiff, decide_false, decide_true, iteN_false, iteN_true, List.length_append, List.length_cons, List.length_nil, h_next_new, h_next_del], ?_⟩⟩⟩
    · rw [h_new_ne _ _ (by rw [h_next_del, h_next_new]; omega), h_del_ne _ (by omega), h_new_ne _ _ (by omega), kp j hj]
    · simp only [h_new_get, h_next_new, h_next_del, decide_true, iteN_true, ofBytes_app]; rfl
theorem b_stop {Q : Orc} {n : Nat} (neg : Bool) (ds : List Nat) (h0 : H) (T : Tr V) (h : H) (I : BI 0 neg ds h0 T h) :
    ∃ T', evC Q 47 n none bLoop ⟨T, [], h⟩ = some (.exit 0, ⟨T', [], h⟩) ∧ BI 0 neg ds h0 T' h := by
  obtain ⟨t0, t4, nx, kp, hs⟩ := I
  have c0 : decide ((0 : Int) < ((0 : Nat) : Int)) = false := rfl
  refine ⟨_, by
    simp (config := {maxSteps := 1000000}) (disch := first | omega | (simp only [List.length_cons, List.length_nil, List.length_append, List.length_drop]; omega)) only [bLoop, t0, c0, ↓l_loop, ↓l_succ, ↓l_normal, l_normal, l_exit, l_ret, l_iteN, ↓h_put_get, ↓h_new_get, ↓h_del_get, h_next_put, h_next_new, h_next_del, Nat.add_assoc, Nat.add_eq_left, Nat.left_eq_add, Nat.add_left_cancel_iff, ↓s_load, m_load, ↓m_load1, m_load1, ↓m_st, m_stE, m_storeI, m_storeE, w_zero, w_succ, ↓s_alloc, ↓x_idxA, ↓x_idxS, x_idxAE, x_idxSE, x_addrE, x_idx, x_lenS, ↓s_len, ↓x_buildS, x_buildE, ↓x_P0, ↓x_P1, x_fill0, x_filli, x_fills, x_fillb, c_int, List.length_cons, List.length_nil, List.cons_append, List.drop_succ_cons, List.drop_zero, List.drop_nil, List.nil_append, Int.reduceAdd, Int.reduceToNat, Int.reduceLT, Int.reduceLE, Nat.reduceAdd, Nat.reduceMul, Nat.reduceLeDiff, Int.reduceEq, Int.reduceSub, Int.cast_ofNat_Int, s_resc, s_consR, m_load4, m_store4, s_res0, ↓s_skip, ↓s_ops, ↓s_dops, ↓s_seq, ↓s_cond, ↓s_block, ↓s_exit, ↓s_ret, ↓s_scope, ↓s_nil, ↓s_op, ↓s_opg, ↓s_wanted', ↓s_wantV, s_wantV, s_wantV0, beq_true, beq_false, ↓s_bindS, s_bindS, ↓s_bindE, s_bindE, s_bindE_ret, s_bindE_exit, s_bindE_iteN, s_norm, ↓s_condV, s_condV, s_block_ret, s_block_normal, s_block_exit, s_block_iteN, ↓s_getp, ↓s_getp0, ↓s_get, s_get0, ↓s_con, ↓s_fn, ↓s_os0, ↓s_os1, ↓s_list0, ↓s_list1, ↓s_mov, ↓s_pick, ↓s_pickE, s_pickE, ↓s_bin, ↓s_un, ↓s_minmax, ↓s_call, ↓s_callv, ↓s_callV, ↓s_ext, s_same, b_eql, b_neq, b_lss, b_leq, b_gtr, b_geq, b_add, b_sub, b_mul, b_eqlb, b_neqb, b_fnil, b_fnil', b_fnil2, b_fnil2', u_neg, u_not, m_two, s_end, s_end', s_end_iteN, s_res0, s_res1, s_tup1, s_tup2, ↓iteN_true, ↓iteN_false, iteN_true, iteN_false, Nat.zero_add, List.nil_append, List.append_nil, Nat.reduceEqDiff, reduceIte, decide_true, decide_false, Bool.not_true, Bool.not_false, List.getElem?_cons_zero, List.getElem?_cons_succ, Bool.false_eq_true, if_true, if_false, beq_self_eq_true]
    exact rfl, ⟨by simp only [s_getp, s_getp0, Nat.reduceEqDiff, decide_false, decide_true, iteN_false, iteN_true, t0], by simp only [s_getp, s_getp0, Nat.reduceEqDiff, decide_false, decide_true, iteN_false, iteN_true, t4], nx, kp, by simp only [s_getp, s_getp0, Nat.reduceEqDiff, decide_false, decide_true, iteN_false, iteN_true]; exact hs⟩⟩
theorem b_loop {Q : Orc} {n : Nat} (neg : Bool) (h0 : H) : ∀ (k m : Nat), m < 256 ^ k → k ≤ 7 → ∀ (g : Nat), k < g → ∀ (ds : List Nat) (T : Tr V) (h : H), ds.length + k ≤ 50 → BI m neg ds h0 T h →
    ∃ T' h', loopN (evC Q 47 n none bLoop) g ⟨T, [], h⟩ = some (.exit 0, ⟨T', [], h'⟩) ∧ BI 0 neg (ds ++ digs k m) h0 T' h' := by
  intro k
  induction k with
  | zero =>
    intro m hm _ g hg ds T h _ I
    obtain ⟨g, rfl⟩ : ∃ j, g = j + 1 := ⟨g - 1, by omega⟩
    have : m = 0 := by simpa using hm
    subst this
    obtain ⟨T', r1, r2⟩ := b_stop (Q := Q) (n := n) neg ds h0 T h I
    exact ⟨T', h, by rw [l_succ, r1, l_exit], by simpa [digs] using r2⟩
  | succ k ih =>
    intro m hm hk g hg ds T h hl I
    obtain ⟨g, rfl⟩ : ∃ j, g = j + 1 := ⟨g - 1, by omega⟩
    cases m with
    | zero =>
      obtain ⟨T', r1, r2⟩ := b_stop (Q := Q) (n := n) neg ds h0 T h I
      exact ⟨T', h, by rw [l_succ, r1, l_exit], by simpa [digs] using r2⟩
    | succ m =>
      have hM : m + 1 < 9223372036854775808 := by
        have : 256 ^ (k + 1) ≤ 256 ^ 7 := Nat.pow_le_pow_right (by omega) (by omega)
        have e7 : (256 : Nat) ^ 7 = 72057594037927936 := rfl
        omega
      obtain ⟨T1, h1, r1, r2⟩ := b_more (Q := Q) (n := n) (m + 1) (by omega) hM neg ds (by omega) h0 T h I
      obtain ⟨T2, h2, r3, r4⟩ := ih ((m + 1) / 256) (Nat.div_lt_of_lt_mul (by rw [Nat.pow_succ, Nat.mul_comm] at hm; exact hm)) (by omega) g (by omega) _ _ _ (by rw [List.length_append]; simp only [List.length_cons, List.length_nil]; omega) r2
      refine ⟨T2, h2, by rw [l_succ, r1, l_normal]; exact r3, ?_⟩
      rw [List.append_assoc] at r4
      exact r4
end Go.Eng
namespace Go.Eng
open Go
variable {E : Nat → Option Fn}
set_option linter.unusedSimpArgs false
set_option linter.unusedVariables false
theorem bt_nil {Q : Orc} {n : Nat} (neg : Bool) (h0 : H) (T : Tr V) (h : H) (I : BI 0 neg [] h0 T h) : fnEnd [.tmp 2] (evC Q 47 n none bTail ⟨T, [], h⟩) = some (.slice none 0 (some 0) 0, h) := by
  obtain ⟨t0, t4, nx, kp, hs⟩ := I
  rcases hs with ⟨_, t3⟩ | ⟨p, md, _, _, _, hne, _⟩
  · simp (config := {maxSteps := 1000000}) (disch := first | omega | (simp only [List.length_cons, List.length_nil, List.length_append, List.length_drop]; omega)) only [bTail, t3, ↓s_len, x_lenS, ↓l_loop, ↓l_succ, ↓l_normal, l_normal, l_exit, l_ret, l_iteN, ↓h_put_get, ↓h_new_get, ↓h_del_get, h_next_put, h_next_new, h_next_del, Nat.add_assoc, Nat.add_eq_left, Nat.left_eq_add, Nat.add_left_cancel_iff, ↓s_load, m_load, ↓m_load1, m_load1, ↓m_st, m_stE, m_storeI, m_storeE, w_zero, w_succ, ↓s_alloc, ↓x_idxA, ↓x_idxS, x_idxAE, x_idxSE, x_addrE, x_idx, x_lenS, ↓s_len, ↓x_buildS, x_buildE, ↓x_P0, ↓x_P1, x_fill0, x_filli, x_fills, x_fillb, c_int, List.length_cons, List.length_nil, List.cons_append, List.drop_succ_cons, List.drop_zero, List.drop_nil, List.nil_append, Int.reduceAdd, Int.reduceToNat, Int.reduceLT, Int.reduceLE, Nat.reduceAdd, Nat.reduceMul, Nat.reduceLeDiff, Int.reduceEq, Int.reduceSub, Int.cast_ofNat_Int, s_resc, s_consR, m_load4, m_store4, s_res0, ↓s_skip, ↓s_ops, ↓s_dops, ↓s_seq, ↓s_cond, ↓s_block, ↓s_exit, ↓s_ret, ↓s_scope, ↓s_nil, ↓s_op, ↓s_opg, ↓s_wanted', ↓s_wantV, s_wantV, s_wantV0, beq_true, beq_false, ↓s_bindS, s_bindS, ↓s_bindE, s_bindE, s_bindE_ret, s_bindE_exit, s_bindE_iteN, s_norm, ↓s_condV, s_condV, s_block_ret, s_block_normal, s_block_exit, s_block_iteN, ↓s_getp, ↓s_getp0, ↓s_get, s_get0, ↓s_con, ↓s_fn, ↓s_os0, ↓s_os1, ↓s_list0, ↓s_list1, ↓s_mov, ↓s_pick, ↓s_pickE, s_pickE, ↓s_bin, ↓s_un, ↓s_minmax, ↓s_call, ↓s_callv, ↓s_callV, ↓s_ext, s_same, b_eql, b_neq, b_lss, b_leq, b_gtr, b_geq, b_add, b_sub, b_mul, b_eqlb, b_neqb, b_fnil, b_fnil', b_fnil2, b_fnil2', u_neg, u_not, m_two, s_end, s_end', s_end_iteN, s_res0, s_res1, s_tup1, s_tup2, ↓iteN_true, ↓iteN_false, iteN_true, iteN_false, Nat.zero_add, List.nil_append, List.append_nil, Nat.reduceEqDiff, reduceIte, decide_true, decide_false, Bool.not_true, Bool.not_false, List.getElem?_cons_zero, List.getElem?_cons_succ, Bool.false_eq_true, if_true, if_false, beq_self_eq_true]
  · exact absurd rfl hne
theorem bt_some {Q : Orc} {n : Nat} (neg : Bool) (i : List Nat) (d : Nat) (hd : d < 256) (hi : i.length ≤ 50) (h0 : H) (T : Tr V) (h : H) (I : BI 0 neg (i ++ [d]) h0 T h) :
    ∃ p' md' h', fnEnd [.tmp 2] (evC Q 47 n none bTail ⟨T, [], h⟩) = some (.slice (some (p', 0)) (sgn (i ++ [d]) neg).length none 1, h') ∧ isRo md' = false ∧ h'.get p' = some (.cells (ofBytes (sgn (i ++ [d]) neg)) md') ∧ h0.next ≤ p' ∧ p' < h'.next ∧ h0.next ≤ h'.next ∧ (∀ j, j < h0.next → h'.get j = h0.get j) := by
  obtain ⟨t0, t4, nx, kp, hs⟩ := I
  rcases hs with ⟨he, _⟩ | ⟨p, md, p4, hp, hmd, hne, t3, bp⟩
  · simp at he
  rw [sgn_app]
  obtain ⟨L, eL⟩ : ∃ L, i.length = L := ⟨_, rfl⟩
  have ln : (i ++ [d]).length = L + 1 := by rw [List.length_append, eL]; rfl
  obtain ⟨w, ew⟩ : ∃ w, ofBytes i = w := ⟨_, rfl⟩
  have wL : w.length = L := by rw [← ew, ofBytes_len, eL]
  have ec : ofBytes (i ++ [d]) = w ++ [.int .u8 (d : Int)] := by rw [ofBytes_app, ew]; rfl
  rw [ec] at bp
  rw [ln] at t3
  have c0 : decide (((L + 1 : Nat) : Int) = 0) = false := decide_eq_false (by omega)
  have lt : wr .i64 (((L + 1 : Nat) : Int) - 1) = (L : Int) := by rw [wr_i64 (by omega)]; omega
  have tn : (L : Int).toNat = L := Int.toNat_natCast L
  have g1 : (w ++ [V.int .u8 (d : Int)])[L]? = some (.int .u8 (d : Int)) := by rw [← wL]; exact get_app _ _
  have idx1 : idx (L : Int) (L + 1) = some L := by rw [x_idx (by omega) (by omega), tn]
  have ltk : h0.next ≤ p := p4
  by_cases hlt : d < 128
  · simp only [if_pos hlt]
    have cg : decide ((128 : Int) ≤ (d : Int)) = false := decide_eq_false (by omega)
    cases neg with
    | false =>
      refine ⟨p, md, h, ?_, hmd, by rw [bp, ← ec]; rfl, p4, hp, nx, kp⟩
      simp (config := {maxSteps := 1000000}) (disch := first | omega | (simp only [List.length_cons, List.length_nil, List.length_append, List.length_drop]; omega)) only [bTail, t3, t4, c0, lt, tn, bp, g1, cg, idx1, Nat.mul_one, ↓s_len, x_lenS, ↓l_loop, ↓l_succ, ↓l_normal, l_normal, l_exit, l_ret, l_iteN, ↓h_put_get, ↓h_new_get, ↓h_del_get, h_next_put, h_next_new, h_next_del, Nat.add_assoc, Nat.add_eq_left, Nat.left_eq_add, Nat.add_left_cancel_iff, ↓s_load, m_load, ↓m_load1, m_load1, ↓m_st, m_stE, m_storeI, m_storeE, w_zero, w_succ, ↓s_alloc, ↓x_idxA, ↓x_idxS, x_idxAE, x_idxSE, x_addrE, x_idx, x_lenS, ↓s_len, ↓x_buildS, x_buildE, ↓x_P0, ↓x_P1, x_fill0, x_filli, x_fills, x_fillb, c_int, List.length_cons, List.length_nil, List.cons_append, List.drop_succ_cons, List.drop_zero, List.drop_nil, List.nil_append, Int.reduceAdd, Int.reduceToNat, Int.reduceLT, Int.reduceLE, Nat.reduceAdd, Nat.reduceMul, Nat.reduceLeDiff, Int.reduceEq, Int.reduceSub, Int.cast_ofNat_Int, s_resc, s_consR, m_load4, m_store4, s_res0, ↓s_skip, ↓s_ops, ↓s_dops, ↓s_seq, ↓s_cond, ↓s_block, ↓s_exit, ↓s_ret, ↓s_scope, ↓s_nil, ↓s_op, ↓s_opg, ↓s_wanted', ↓s_wantV, s_wantV, s_wantV0, beq_true, beq_false, ↓s_bindS, s_bindS, ↓s_bindE, s_bindE, s_bindE_ret, s_bindE_exit, s_bindE_iteN, s_norm, ↓s_condV, s_condV, s_block_ret, s_block_normal, s_block_exit, s_block_iteN, ↓s_getp, ↓s_getp0, ↓s_get, s_get0, ↓s_con, ↓s_fn, ↓s_os0, ↓s_os1, ↓s_list0, ↓s_list1, ↓s_mov, ↓s_pick, ↓s_pickE, s_pickE, ↓s_bin, ↓s_un, ↓s_minmax, ↓s_call, ↓s_callv, ↓s_callV, ↓s_ext, s_same, b_eql, b_neq, b_lss, b_leq, b_gtr, b_geq, b_add, b_sub, b_mul, b_eqlb, b_neqb, b_fnil, b_fnil', b_fnil2, b_fnil2', u_neg, u_not, m_two, s_end, s_end', s_end_iteN, s_res0, s_res1, s_tup1, s_tup2, ↓iteN_true, ↓iteN_false, iteN_true, iteN_false, Nat.zero_add, List.nil_append, List.append_nil, Nat.reduceEqDiff, reduceIte, decide_true, decide_false, Bool.not_true, Bool.not_false, List.getElem?_cons_zero, List.getElem?_cons_succ, Bool.false_eq_true, if_true, if_false, beq_self_eq_true]
      rw [List.length_append, eL]; rfl
    | true =>
      have ad : wr .u8 ((d : Int) + 128) = ((d + 128 : Nat) : Int) := by
        rw [wr_eq]
        simp only [IntKind.wrap, IntKind.bits, IntKind.signed]
        simp
        omega
      have wn : writeN (w ++ [V.int .u8 (d : Int)]) L [.int .u8 ((d + 128 : Nat) : Int)] = w ++ [.int .u8 ((d + 128 : Nat) : Int)] := by rw [← wL]; exact writeN_app _ _ _
      have st : ∀ (x : H), storeE (some (.cells (w ++ [V.int .u8 (d : Int)]) md)) x p L [.int .u8 ((d + 128 : Nat) : Int)] = some (x.put p (.cells (w ++ [.int .u8 ((d + 128 : Nat) : Int)]) md)) := by
        intro x
        have hle : L + [V.int .u8 ((d + 128 : Nat) : Int)].length ≤ (w ++ [V.int .u8 (d : Int)]).length := by simp only [List.length_append, List.length_cons, List.length_nil, wL]; omega
        cases md with
        | ro => cases hmd
        | rw => rw [m_storeE _ _ _ _ _ hle, wn]
        | sh => rw [m_storeEs _ _ _ _ _ hle, wn]
      refine ⟨p, md, h.put p (.cells (w ++ [.int .u8 ((d + 128 : Nat) : Int)]) md), ?_, hmd, by rw [h_put_same, ofBytes_app, ew]; rfl, p4, hp, nx, fun j hj => by rw [h_put_ne _ _ (by omega), kp j hj]⟩
      simp (config := {maxSteps := 1000000}) (disch := first | omega | (simp only [List.length_cons, List.length_nil, List.length_append, List.length_drop]; omega)) only [bTail, t3, t4, c0, lt, tn, bp, g1, cg, ad, st, idx1, Nat.mul_one, ↓s_len, x_lenS, ↓l_loop, ↓l_succ, ↓l_normal, l_normal, l_exit, l_ret, l_iteN, ↓h_put_get, ↓h_new_get, ↓h_del_get, h_next_put, h_next_new, h_next_del, Nat.add_assoc, Nat.add_eq_left, Nat.left_eq_add, Nat.add_left_cancel_iff, ↓s_load, m_load, ↓m_load1, m_load1, ↓m_st, m_stE, m_storeI, w_zero, w_succ, ↓s_alloc, ↓x_idxA, ↓x_idxS, x_idxAE, x_idxSE, x_addrE, x_idx, x_lenS, ↓s_len, ↓x_buildS, x_buildE, ↓x_P0, ↓x_P1, x_fill0, x_filli, x_fills, x_fillb, c_int, List.length_cons, List.length_nil, List.cons_append, List.drop_succ_cons, List.drop_zero, List.drop_nil, List.nil_append, Int.reduceAdd, Int.reduceToNat, Int.reduceLT, Int.reduceLE, Nat.reduceAdd, Nat.reduceMul, Nat.reduceLeDiff, Int.reduceEq, Int.reduceSub, Int.cast_ofNat_Int, s_resc, s_consR, m_load4, m_store4, s_res0, ↓s_skip, ↓s_ops, ↓s_dops, ↓s_seq, ↓s_cond, ↓s_block, ↓s_exit, ↓s_ret, ↓s_scope, ↓s_nil, ↓s_op, ↓s_opg, ↓s_wanted', ↓s_wantV, s_wantV, s_wantV0, beq_true, beq_false, ↓s_bindS, s_bindS, ↓s_bindE, s_bindE, s_bindE_ret, s_bindE_exit, s_bindE_iteN, s_norm, ↓s_condV, s_condV, s_block_ret, s_block_normal, s_block_exit, s_block_iteN, ↓s_getp, ↓s_getp0, ↓s_get, s_get0, ↓s_con, ↓s_fn, ↓s_os0, ↓s_os1, ↓s_list0, ↓s_list1, ↓s_mov, ↓s_pick, ↓s_pickE, s_pickE, ↓s_bin, ↓s_un, ↓s_minmax, ↓s_call, ↓s_callv, ↓s_callV, ↓s_ext, s_same, b_eql, b_neq, b_lss, b_leq, b_gtr, b_geq, b_add, b_sub, b_mul, b_eqlb, b_neqb, b_fnil, b_fnil', b_fnil2, b_fnil2', u_neg, u_not, m_two, s_end, s_end', s_end_iteN, s_res0, s_res1, s_tup1, s_tup2, ↓iteN_true, ↓iteN_false, iteN_true, iteN_false, Nat.zero_add, List.nil_append, List.append_nil, Nat.reduceEqDiff, reduceIte, decide_true, decide_false, Bool.not_true, Bool.not_false, List.getElem?_cons_zero, List.getElem?_cons_succ, Bool.false_eq_true, if_true, if_false, beq_self_eq_true]
      rw [List.length_append, eL]; rfl
  · simp only [if_neg hlt]
    have cg : decide ((128 : Int) ≤ (d : Int)) = true := decide_eq_true (by omega)
    have pe : (h.next = p) = False := by simp; omega
    have pe1 : (h.next + 1 = p) = False := by simp; omega
    have rd : readN (w ++ [V.int .u8 (d : Int)]) 0 (L + 1) = some (w ++ [V.int .u8 (d : Int)]) := x_readAll _ _ (by simp only [List.length_append, List.length_cons, List.length_nil, wL])
    have ap := fun (h : H) (i : Nat) (new : List V) => m_appE (w ++ [V.int .u8 (d : Int)]) md hmd h i (L + 1) new _ rd
    have pn1 : (p = h.next + 1) = False := by simp; omega
    have l1 : wr .i64 ((L : Int) + 1) = ((L + 1 : Nat) : Int) := by rw [wr_i64 (by omega)]; omega
    cases neg with
    | false =>
      refine ⟨h.next + 1, .sh, ((h.new (.cells [.int .u8 0] .rw)).del p).new (.cells (w ++ [.int .u8 (d : Int)] ++ [.int .u8 0]) .sh), ?_, rfl, ?_, by omega, by simp only [h_next_new, h_next_del]; omega, by simp only [h_next_new, h_next_del]; omega, fun j hj => ?_⟩
      · simp (config := {maxSteps := 1000000}) (disch := first | omega | (simp only [List.length_cons, List.length_nil, List.length_append, List.length_drop]; omega)) only [bTail, t3, t4, c0, lt, l1, tn, bp, g1, cg, idx1, pe, pe1, rd, ap, ↓s_append, m_src, m_src1, m_app, Nat.mul_one, ↓s_len, x_lenS, ↓l_loop, ↓l_succ, ↓l_normal, l_normal, l_exit, l_ret, l_iteN, ↓h_put_get, ↓h_new_get, ↓h_del_get, h_next_put, h_next_new, h_next_del, Nat.add_assoc, Nat.add_eq_left, Nat.left_eq_add, Nat.add_left_cancel_iff, ↓s_load, m_load, ↓m_load1, m_load1, ↓m_st, m_stE, m_storeI, m_storeE, w_zero, w_succ, ↓s_alloc, ↓x_idxA, ↓x_idxS, x_idxAE, x_idxSE, x_addrE, x_idx, x_lenS, ↓s_len, ↓x_buildS, x_buildE, ↓x_P0, ↓x_P1, x_fill0, x_filli, x_fills, x_fillb, c_int, List.length_cons, List.length_nil, List.cons_append, List.drop_succ_cons, List.drop_zero, List.drop_nil, List.nil_append, Int.reduceAdd, Int.reduceToNat, Int.reduceLT, Int.reduceLE, Nat.reduceAdd, Nat.reduceMul, Nat.reduceLeDiff, Int.reduceEq, Int.reduceSub, Int.cast_ofNat_Int, s_resc, s_consR, m_load4, m_store4, s_res0, ↓s_skip, ↓s_ops, ↓s_dops, ↓s_seq, ↓s_cond, ↓s_block, ↓s_exit, ↓s_ret, ↓s_scope, ↓s_nil, ↓s_op, ↓s_opg, ↓s_wanted', ↓s_wantV, s_wantV, s_wantV0, beq_true, beq_false, ↓s_bindS, s_bindS, ↓s_bindE, s_bindE, s_bindE_ret, s_bindE_exit, s_bindE_iteN, s_norm, ↓s_condV, s_condV, s_block_ret, s_block_normal, s_block_exit, s_block_iteN, ↓s_getp, ↓s_getp0, ↓s_get, s_get0, ↓s_con, ↓s_fn, ↓s_os0, ↓s_os1, ↓s_list0, ↓s_list1, ↓s_mov, ↓s_pick, ↓s_pickE, s_pickE, ↓s_bin, ↓s_un, ↓s_minmax, ↓s_call, ↓s_callv, ↓s_callV, ↓s_ext, s_same, b_eql, b_neq, b_lss, b_leq, b_gtr, b_geq, b_add, b_sub, b_mul, b_eqlb, b_neqb, b_fnil, b_fnil', b_fnil2, b_fnil2', u_neg, u_not, m_two, s_end, s_end', s_end_iteN, s_res0, s_res1, s_tup1, s_tup2, ↓iteN_true, ↓iteN_false, iteN_true, iteN_false, Nat.zero_add, List.nil_append, List.append_nil, Nat.reduceEqDiff, reduceIte, decide_true, decide_false, Bool.not_true, Bool.not_false, List.getElem?_cons_zero, List.getElem?_cons_succ, Bool.false_eq_true, if_true, if_false, beq_self_eq_true]
        rw [List.length_append, eL]; rfl
      · have : (h.next + 1 = h.next + 1) = True := by simp
        simp only [h_new_get, h_del_get, h_next_new, h_next_del, this, decide_true, iteN_true, ofBytes_app, ew, List.append_assoc]; rfl
      · rw [h_new_ne _ _ (by simp only [h_next_new, h_next_del]; omega), h_del_ne _ (by omega), h_new_ne _ _ (by omega), kp j hj]
    | true =>
      have g2 : ((w ++ [V.int .u8 (d : Int)]) ++ [V.int .u8 0])[L + 1]? = some (.int .u8 0) := by
        have := get_app (w ++ [V.int .u8 (d : Int)]) (V.int .u8 0)
        simp only [List.length_append, List.length_cons, List.length_nil, wL] at this
        exact this
      have tn2 : ((L + 1 : Nat) : Int).toNat = L + 1 := Int.toNat_natCast _
      have idx2 : idx ((L + 1 : Nat) : Int) (L + 1 + 1) = some (L + 1) := by rw [x_idx (by omega) (by omega), tn2]
      have ad : wr .u8 (0 + 128) = 128 := rfl
      have ad2 : wr .u8 128 = 128 := rfl
      have st : ∀ (x : H) (q : Nat), storeE (some (.cells ((w ++ [V.int .u8 (d : Int)]) ++ [V.int .u8 0]) .sh)) x q (L + 1) [.int .u8 128] = some (x.put q (.cells ((w ++ [.int .u8 (d : Int)]) ++ [.int .u8 128]) .sh)) := by
        intro x q
        have hle : L + 1 + [V.int .u8 128].length ≤ ((w ++ [V.int .u8 (d : Int)]) ++ [V.int .u8 0]).length := by simp only [List.length_append, List.length_cons, List.length_nil, wL]; omega
        have wn := writeN_app (w ++ [V.int .u8 (d : Int)]) (V.int .u8 0) (V.int .u8 128)
        simp only [List.length_append, List.length_cons, List.length_nil, wL] at wn
        rw [m_storeEs _ _ _ _ _ hle, wn]
      refine ⟨h.next + 1, .sh, (((h.new (.cells [.int .u8 0] .rw)).del p).new (.cells (w ++ [.int .u8 (d : Int)] ++ [.int .u8 0]) .sh)).put (h.next + 1) (.cells (w ++ [.int .u8 (d : Int)] ++ [.int .u8 128]) .sh), ?_, rfl, ?_, by omega, by simp only [h_next_put, h_next_new, h_next_del]; omega, by simp only [h_next_put, h_next_new, h_next_del]; omega, fun j hj => ?_⟩
      · simp (config := {maxSteps := 1000000}) (disch := first | omega | (simp only [List.length_cons, List.length_nil, List.length_append, List.length_drop]; omega)) only [bTail, t3, t4, c0, lt, l1, tn, tn2, bp, g1, g2, cg, ad, ad2, st, idx1, idx2, pe, pe1, rd, ap, ↓s_append, m_src, m_src1, m_app, Nat.mul_one, ↓s_len, x_lenS, ↓l_loop, ↓l_succ, ↓l_normal, l_normal, l_exit, l_ret, l_iteN, ↓h_put_get, ↓h_new_get, ↓h_del_get, h_next_put, h_next_new, h_next_del, Nat.add_assoc, Nat.add_eq_left, Nat.left_eq_add, Nat.add_left_cancel_iff, ↓s_load, m_load, ↓m_load1, m_load1, ↓m_st, m_stE, m_storeI, w_zero, w_succ, ↓s_alloc, ↓x_idxA, ↓x_idxS, x_idxAE, x_idxSE, x_addrE, x_idx, x_lenS, ↓s_len, ↓x_buildS, x_buildE, ↓x_P0, ↓x_P1, x_fill0, x_filli, x_fills, x_fillb, c_int, List.length_cons, List.length_nil, List.cons_append, List.drop_succ_cons, List.drop_zero, List.drop_nil, List.nil_append, Int.reduceAdd, Int.reduceToNat, Int.reduceLT, Int.reduceLE, Nat.reduceAdd, Nat.reduceMul, Nat.reduceLeDiff, Int.reduceEq, Int.reduceSub, Int.cast_ofNat_Int, s_resc, s_consR, m_load4, m_store4, s_res0, ↓s_skip, ↓s_ops, ↓s_dops, ↓s_seq, ↓s_cond, ↓s_block, ↓s_exit, ↓s_ret, ↓s_scope, ↓s_nil, ↓s_op, ↓s_opg, ↓s_wanted', ↓s_wantV, s_wantV, s_wantV0, beq_true, beq_false, ↓s_bindS, s_bindS, ↓s_bindE, s_bindE, s_bindE_ret, s_bindE_exit, s_bindE_iteN, s_norm, ↓s_condV, s_condV, s_block_ret, s_block_normal, s_block_exit, s_block_iteN, ↓s_getp, ↓s_getp0, ↓s_get, s_get0, ↓s_con, ↓s_fn, ↓s_os0, ↓s_os1, ↓s_list0, ↓s_list1, ↓s_mov, ↓s_pick, ↓s_pickE, s_pickE, ↓s_bin, ↓s_un, ↓s_minmax, ↓s_call, ↓s_callv, ↓s_callV, ↓s_ext, s_same, b_eql, b_neq, b_lss, b_leq, b_gtr, b_geq, b_add, b_sub, b_mul, b_eqlb, b_neqb, b_fnil, b_fnil', b_fnil2, b_fnil2', u_neg, u_not, m_two, s_end, s_end', s_end_iteN, s_res0, s_res1, s_tup1, s_tup2, ↓iteN_true, ↓iteN_false, iteN_true, iteN_false, Nat.zero_add, List.nil_append, List.append_nil, Nat.reduceEqDiff, reduceIte, decide_true, decide_false, Bool.not_true, Bool.not_false, List.getElem?_cons_zero, List.getElem?_cons_succ, Bool.false_eq_true, if_true, if_false, beq_self_eq_true]
        rw [List.length_append, eL]; rfl
      · have : (h.next + 1 = h.next + 1) = True := by simp
        simp only [h_put_get, h_new_get, h_del_get, h_next_new, h_next_del, this, decide_true, iteN_true, ofBytes_app, ew, List.append_assoc]; rfl
      · rw [h_put_ne _ _ (by omega), h_new_ne _ _ (by simp only [h_next_new, h_next_del]; omega), h_del_ne _ (by omega), h_new_ne _ _ (by omega), kp j hj]
theorem f_bytes : f_purserref11_Bytes = ⟨47, [.tmp 2],
  .seq (.ops [⟨(some 2), .mov (.c (.slice none 0 (some 0) 0)), none⟩])
  (.seq (.ops [⟨(some 3), .mov (.c (.slice none 0 (some 0) 0)), none⟩])
  (.seq (.ops [⟨(some 6), .mov (.t 0), none⟩,
     ⟨(some 7), .bin .lss .no (.t 6) (.c (.int .i64 0)), none⟩,
     ⟨(some 4), .mov (.t 7), none⟩])
  (.seq (.seq (.ops [⟨(some 8), .mov (.t 4), none⟩])
   (.cond (.t 8)
    (.ops [⟨(some 9), .mov (.t 0), none⟩,
       ⟨(some 10), .un .neg (.t 9), none⟩,
       ⟨(some 0), .mov (.t 10), none⟩])
    (.skip)))
  (.seq (.block 0 (.loop bLoop)) bTail))))⟩ := rfl
/-- the reference's bytes of a number -/
theorem b_fin {X : Orc} (N : Nat) (n : Int) (hn : -549755813887 ≤ n ∧ n ≤ 549755813887) (h : H) (T : Tr V) (t0 : evO T (.t 0) = .int .i64 (n.natAbs : Int)) (t4 : evO T (.t 4) = .bool (decide (n < 0))) (t3 : evO T (.t 3) = .slice none 0 (some 0) 0) :
    (n = 0 ∧ ∃ h', fnEnd [.tmp 2] (evC (callX E X (N + 8)) 47 (N + 8) none (.seq (.block 0 (.loop bLoop)) bTail) ⟨T, [], h⟩) = some (.slice none 0 (some 0) 0, h') ∧ h.next ≤ h'.next ∧ (∀ j, j < h.next → h'.get j = h.get j)) ∨
    (n ≠ 0 ∧ ∃ p' md' h', fnEnd [.tmp 2] (evC (callX E X (N + 8)) 47 (N + 8) none (.seq (.block 0 (.loop bLoop)) bTail) ⟨T, [], h⟩) = some (.slice (some (p', 0)) (enc n).length none 1, h') ∧ isRo md' = false ∧ h'.get p' = some (.cells (ofBytes (enc n)) md') ∧ h.next ≤ p' ∧ p' < h'.next ∧ h.next ≤ h'.next ∧ (∀ j, j < h.next → h'.get j = h.get j)) := by
  have p5 : (256 : Nat) ^ 5 = 1099511627776 := rfl
  obtain ⟨T', h', r, I⟩ := b_loop (Q := callX E X (N + 8)) (n := N + 8) (decide (n < 0)) h 5 n.natAbs (by omega) (by omega) (N + 8) (by omega) [] T h (by simp) ⟨t0, t4, Nat.le_refl _, fun _ _ => rfl, .inl ⟨rfl, t3⟩⟩
  rw [List.nil_append] at I
  have run : evC (callX E X (N + 8)) 47 (N + 8) none (.seq (.block 0 (.loop bLoop)) bTail) ⟨T, [], h⟩ = evC (callX E X (N + 8)) 47 (N + 8) none bTail ⟨T', [], h'⟩ := by
    rw [s_seq, s_block, s_loop, r, s_block_exit]
    simp only [if_true]
    rfl
  rw [run]
  by_cases h0 : n = 0
  · refine .inl ⟨h0, h', ?_, I.nx, I.kp⟩
    have hdg : digs 5 n.natAbs = [] := by rw [h0]; rfl
    rw [hdg] at I
    exact bt_nil _ h T' h' I
  · refine .inr ⟨h0, ?_⟩
    obtain ⟨i, d, e, d0, d1, hl, _⟩ := digs_last 5 n.natAbs (by omega) (by omega)
    have ee : enc n = sgn (i ++ [d]) (decide (n < 0)) := by unfold enc; rw [e]
    rw [ee]
    rw [e] at I
    exact bt_some _ i d d1 (by omega) h T' h' I
theorem sp_Bytes {X : Orc} (e : E k_purserref11_Bytes = some f_purserref11_Bytes) (hx : ∀ args h, X (.fn k_purserref11_Bytes) args h = none) (N : Nat) (n : Int) (hn : -549755813887 ≤ n ∧ n ≤ 549755813887) (h : H) :
    (n = 0 ∧ ∃ h', callX E X (N + 9) (.fn k_purserref11_Bytes) [.int .i64 n] h = some (.slice none 0 (some 0) 0, h') ∧ h.next ≤ h'.next ∧ (∀ j, j < h.next → h'.get j = h.get j)) ∨
    (n ≠ 0 ∧ ∃ p' md' h', callX E X (N + 9) (.fn k_purserref11_Bytes) [.int .i64 n] h = some (.slice (some (p', 0)) (enc n).length none 1, h') ∧ isRo md' = false ∧ h'.get p' = some (.cells (ofBytes (enc n)) md') ∧ h.next ≤ p' ∧ p' < h'.next ∧ h.next ≤ h'.next ∧ (∀ j, j < h.next → h'.get j = h.get j)) := by
  rw [f_bytes] at e
  rw [x_cfn e _ _ (Nat.le_of_ble_eq_true rfl) (hx _ _)]
  obtain ⟨R, eR⟩ : ∃ R, C.seq (.block 0 (.loop bLoop)) bTail = R := ⟨_, rfl⟩
  rw [eR]
  have fin := fun T => b_fin (E := E) (X := X) N n hn h T
  rw [eR] at fin
  cases hneg : decide (n < 0) with
  | true =>
    have hn0 : n < 0 := of_decide_eq_true hneg
    have w1 : wr .i64 (0 - n) = (n.natAbs : Int) := by rw [wr_i64 (by omega)]; omega
    rw [hneg] at fin
    simp (config := {maxSteps := 1000000}) (disch := first | omega | (simp only [List.length_cons, List.length_nil, List.length_append, List.length_drop]; omega)) only [hneg, w1, ↓l_loop, ↓l_succ, ↓l_normal, l_normal, l_exit, l_ret, l_iteN, ↓h_put_get, ↓h_new_get, ↓h_del_get, h_next_put, h_next_new, h_next_del, Nat.add_assoc, Nat.add_eq_left, Nat.left_eq_add, Nat.add_left_cancel_iff, ↓s_load, m_load, ↓m_load1, m_load1, ↓m_st, m_stE, m_storeI, m_storeE, w_zero, w_succ, ↓s_alloc, ↓x_idxA, ↓x_idxS, x_idxAE, x_idxSE, x_addrE, x_idx, x_lenS, ↓s_len, ↓x_buildS, x_buildE, ↓x_P0, ↓x_P1, x_fill0, x_filli, x_fills, x_fillb, c_int, List.length_cons, List.length_nil, List.cons_append, List.drop_succ_cons, List.drop_zero, List.drop_nil, List.nil_append, Int.reduceAdd, Int.reduceToNat, Int.reduceLT, Int.reduceLE, Nat.reduceAdd, Nat.reduceMul, Nat.reduceLeDiff, Int.reduceEq, Int.reduceSub, Int.cast_ofNat_Int, s_resc, s_consR, m_load4, m_store4, s_res0, ↓s_skip, ↓s_ops, ↓s_dops, ↓s_seq, ↓s_cond, ↓s_block, ↓s_exit, ↓s_ret, ↓s_scope, ↓s_nil, ↓s_op, ↓s_opg, ↓s_wanted', ↓s_wantV, s_wantV, s_wantV0, beq_true, beq_false, ↓s_bindS, s_bindS, ↓s_bindE, s_bindE, s_bindE_ret, s_bindE_exit, s_bindE_iteN, s_norm, ↓s_condV, s_condV, s_block_ret, s_block_normal, s_block_exit, s_block_iteN, ↓s_getp, ↓s_getp0, ↓s_get, s_get0, ↓s_con, ↓s_fn, ↓s_os0, ↓s_os1, ↓s_list0, ↓s_list1, ↓s_mov, ↓s_pick, ↓s_pickE, s_pickE, ↓s_bin, ↓s_un, ↓s_minmax, ↓s_call, ↓s_callv, ↓s_callV, ↓s_ext, s_same, b_eql, b_neq, b_lss, b_leq, b_gtr, b_geq, b_add, b_sub, b_mul, b_eqlb, b_neqb, b_fnil, b_fnil', b_fnil2, b_fnil2', u_neg, u_not, m_two, s_end, s_end', s_end_iteN, s_res0, s_res1, s_tup1, s_tup2, ↓iteN_true, ↓iteN_false, iteN_true, iteN_false, Nat.zero_add, List.nil_append, List.append_nil, Nat.reduceEqDiff, reduceIte, decide_true, decide_false, Bool.not_true, Bool.not_false, List.getElem?_cons_zero, List.getElem?_cons_succ, Bool.false_eq_true, if_true, if_false, beq_self_eq_true]
    exact fin _ (by simp only [s_getp, s_getp0, Nat.reduceEqDiff, decide_false, decide_true, iteN_false, iteN_true]) (by simp only [s_getp, s_getp0, Nat.reduceEqDiff, decide_false, decide_true, iteN_false, iteN_true]) (by simp only [s_getp, s_getp0, Nat.reduceEqDiff, decide_false, decide_true, iteN_false, iteN_true])
  | false =>
    have hn0 : ¬ n < 0 := of_decide_eq_false hneg
    have w1 : n = (n.natAbs : Int) := by omega
    rw [hneg] at fin
    simp (config := {maxSteps := 1000000}) (disch := first | omega | (simp only [List.length_cons, List.length_nil, List.length_append, List.length_drop]; omega)) only [hneg, ↓l_loop, ↓l_succ, ↓l_normal, l_normal, l_exit, l_ret, l_iteN, ↓h_put_get, ↓h_new_get, ↓h_del_get, h_next_put, h_next_new, h_next_del, Nat.add_assoc, Nat.add_eq_left, Nat.left_eq_add, Nat.add_left_cancel_iff, ↓s_load, m_load, ↓m_load1, m_load1, ↓m_st, m_stE, m_storeI, m_storeE, w_zero, w_succ, ↓s_alloc, ↓x_idxA, ↓x_idxS, x_idxAE, x_idxSE, x_addrE, x_idx, x_lenS, ↓s_len, ↓x_buildS, x_buildE, ↓x_P0, ↓x_P1, x_fill0, x_filli, x_fills, x_fillb, c_int, List.length_cons, List.length_nil, List.cons_append, List.drop_succ_cons, List.drop_zero, List.drop_nil, List.nil_append, Int.reduceAdd, Int.reduceToNat, Int.reduceLT, Int.reduceLE, Nat.reduceAdd, Nat.reduceMul, Nat.reduceLeDiff, Int.reduceEq, Int.reduceSub, Int.cast_ofNat_Int, s_resc, s_consR, m_load4, m_store4, s_res0, ↓s_skip, ↓s_ops, ↓s_dops, ↓s_seq, ↓s_cond, ↓s_block, ↓s_exit, ↓s_ret, ↓s_scope, ↓s_nil, ↓s_op, ↓s_opg, ↓s_wanted', ↓s_wantV, s_wantV, s_wantV0, beq_true, beq_false, ↓s_bindS, s_bindS, ↓s_bindE, s_bindE, s_bindE_ret, s_bindE_exit, s_bindE_iteN, s_norm, ↓s_condV, s_condV, s_block_ret, s_block_normal, s_block_exit, s_block_iteN, ↓s_getp, ↓s_getp0, ↓s_get, s_get0, ↓s_con, ↓s_fn, ↓s_os0, ↓s_os1, ↓s_list0, ↓s_list1, ↓s_mov, ↓s_pick, ↓s_pickE, s_pickE, ↓s_bin, ↓s_un, ↓s_minmax, ↓s_call, ↓s_callv, ↓s_callV, ↓s_ext, s_same, b_eql, b_neq, b_lss, b_leq, b_gtr, b_geq, b_add, b_sub, b_mul, b_eqlb, b_neqb, b_fnil, b_fnil', b_fnil2, b_fnil2', u_neg, u_not, m_two, s_end, s_end', s_end_iteN, s_res0, s_res1, s_tup1, s_tup2, ↓iteN_true, ↓iteN_false, iteN_true, iteN_false, Nat.zero_add, List.nil_append, List.append_nil, Nat.reduceEqDiff, reduceIte, decide_true, decide_false, Bool.not_true, Bool.not_false, List.getElem?_cons_zero, List.getElem?_cons_succ, Bool.false_eq_true, if_true, if_false, beq_self_eq_true]
    exact fin _ (by simp only [s_getp, s_getp0, Nat.reduceEqDiff, decide_false, decide_true, iteN_false, iteN_true]; rw [← w1]; rfl) (by simp only [s_getp, s_getp0, Nat.reduceEqDiff, decide_false, decide_true, iteN_false, iteN_true]) (by simp only [s_getp, s_getp0, Nat.reduceEqDiff, decide_false, decide_true, iteN_false, iteN_true])
end Go.Eng
namespace Go.Eng
open Go
variable {E : Nat → Option Fn}
set_option linter.unusedSimpArgs false
set_option linter.unusedVariables false
theorem ofB_get (l : List Nat) (i d : Nat) (h : l[i]? = some d) : (ofBytes l)[i]? = some (.int .u8 (d : Int)) := by
  induction l generalizing i with
  | nil => simp at h
  | cons a r ih =>
    cases i with
    | zero => simp at h; subst h; rfl
    | succ i => simp at h; exact ih i h
theorem tru_step (l : List Nat) (i d : Nat) (h : l[i]? = some d) : tru (l.drop i) = if i + 1 = l.length then nz (d % 128) else (nz d || tru (l.drop (i + 1))) := by
  have hi : i < l.length := (List.getElem?_eq_some_iff.1 h).1
  have hd : l.drop i = d :: l.drop (i + 1) := by
    rw [List.drop_eq_getElem_cons hi]
    congr 1
    rw [List.getElem?_eq_getElem hi] at h
    exact Option.some.inj h
  rw [hd]
  split
  · rename_i e
    rw [List.drop_eq_nil_of_le (by omega)]
    rfl
  · rename_i e
    cases hr : l.drop (i + 1) with
    | nil => have := congrArg List.length hr; rw [List.length_drop, List.length_nil] at this; omega
    | cons a r => rfl
/-- a round of True has -/
structure TI (i L : Nat) (cp : Option Nat) (T : Tr V) : Prop where
  t0 : evO T (.t 0) = .slice (some (0, 0)) L cp 1
  t5 : evO T (.t 5) = .slice (some (0, 0)) L cp 1
  t6 : evO T (.t 6) = .int .i64 (L : Int)
  t7 : evO T (.t 7) = .int .i64 (i : Int)
theorem t_loop {Q : Orc} {n : Nat} (l : List Nat) (hb : ∀ x ∈ l, x < 256) (L : Nat) (hL : l.length = L) (h100 : L ≤ 1000) (cp : Option Nat) (md : Md) (h : H) (hg : h.get 0 = some (.cells (ofBytes l) md)) : ∀ (k i : Nat), i + k = L → ∀ (g : Nat), k < g → ∀ (T : Tr V), TI i L cp T →
    ∃ T', loopN (evC Q 22 n none tLoop) g ⟨T, [], h⟩ = some (if tru (l.drop i) then .ret else .exit 0, ⟨T', [], h⟩) ∧ (tru (l.drop i) = true → evO T' (.t 2) = .bool true) := by
  intro k
  induction k with
  | zero =>
    intro i hi g hgk T I
    obtain ⟨g, rfl⟩ : ∃ j, g = j + 1 := ⟨g - 1, by omega⟩
    obtain ⟨t0, t5, t6, t7⟩ := I
    rw [List.drop_eq_nil_of_le (by omega)]
    have c0 : decide ((i : Int) < (L : Int)) = false := decide_eq_false (by omega)
    rw [l_succ]
    refine ⟨_, by
      simp (config := {maxSteps := 1000000}) (disch := first | omega | (simp only [List.length_cons, List.length_nil, List.length_append, List.length_drop]; omega)) only [tLoop, t6, t7, c0, tru, ↓l_loop, ↓l_succ, ↓l_normal, l_normal, l_exit, l_ret, l_iteN, ↓h_put_get, ↓h_new_get, ↓h_del_get, h_next_put, h_next_new, h_next_del, Nat.add_assoc, Nat.add_eq_left, Nat.left_eq_add, Nat.add_left_cancel_iff, ↓s_load, m_load, ↓m_load1, m_load1, ↓m_st, m_stE, m_storeI, m_storeE, w_zero, w_succ, ↓s_alloc, ↓x_idxA, ↓x_idxS, x_idxAE, x_idxSE, x_addrE, x_idx, x_lenS, ↓s_len, ↓x_buildS, x_buildE, ↓x_P0, ↓x_P1, x_fill0, x_filli, x_fills, x_fillb, c_int, List.length_cons, List.length_nil, List.cons_append, List.drop_succ_cons, List.drop_zero, List.drop_nil, List.nil_append, Int.reduceAdd, Int.reduceToNat, Int.reduceLT, Int.reduceLE, Nat.reduceAdd, Nat.reduceMul, Nat.reduceLeDiff, Int.reduceEq, Int.reduceSub, Int.cast_ofNat_Int, s_resc, s_consR, m_load4, m_store4, s_res0, ↓s_skip, ↓s_ops, ↓s_dops, ↓s_seq, ↓s_cond, ↓s_block, ↓s_exit, ↓s_ret, ↓s_scope, ↓s_nil, ↓s_op, ↓s_opg, ↓s_wanted', ↓s_wantV, s_wantV, s_wantV0, beq_true, beq_false, ↓s_bindS, s_bindS, ↓s_bindE, s_bindE, s_bindE_ret, s_bindE_exit, s_bindE_iteN, s_norm, ↓s_condV, s_condV, s_block_ret, s_block_normal, s_block_exit, s_block_iteN, ↓s_getp, ↓s_getp0, ↓s_get, s_get0, ↓s_con, ↓s_fn, ↓s_os0, ↓s_os1, ↓s_list0, ↓s_list1, ↓s_mov, ↓s_pick, ↓s_pickE, s_pickE, ↓s_bin, ↓s_un, ↓s_minmax, ↓s_call, ↓s_callv, ↓s_callV, ↓s_ext, s_same, b_eql, b_neq, b_lss, b_leq, b_gtr, b_geq, b_add, b_sub, b_mul, b_eqlb, b_neqb, b_fnil, b_fnil', b_fnil2, b_fnil2', u_neg, u_not, m_two, s_end, s_end', s_end_iteN, s_res0, s_res1, s_tup1, s_tup2, ↓iteN_true, ↓iteN_false, iteN_true, iteN_false, Nat.zero_add, List.nil_append, List.append_nil, Nat.reduceEqDiff, reduceIte, decide_true, decide_false, Bool.not_true, Bool.not_false, List.getElem?_cons_zero, List.getElem?_cons_succ, Bool.false_eq_true, if_true, if_false, beq_self_eq_true]
      exact rfl, fun h => by cases h⟩
  | succ k ih =>
    intro i hi g hgk T I
    obtain ⟨g, rfl⟩ : ∃ j, g = j + 1 := ⟨g - 1, by omega⟩
    obtain ⟨t0, t5, t6, t7⟩ := I
    obtain ⟨d, hd⟩ : ∃ d, l[i]? = some d := ⟨_, List.getElem?_eq_getElem (by omega)⟩
    have hd256 : d < 256 := hb d (List.mem_of_getElem? hd)
    have gd := ofB_get l i d hd
    have c0 : decide ((i : Int) < (L : Int)) = true := decide_eq_true (by omega)
    have idx1 : idx (i : Int) L = some i := by rw [x_idx (by omega) (by omega), Int.toNat_natCast]
    have lt : wr .i64 ((L : Int) - 1) = (L : Int) - 1 := wr_i64 (by omega)
    have l1 : wr .i64 ((i : Int) + 1) = ((i + 1 : Nat) : Int) := by rw [wr_i64 (by omega)]; omega
    have an := fun e h => b_andNot8 e h d hd256
    rw [tru_step l i d hd, hL, l_succ]
    by_cases hlast : i + 1 = L
    · have c1 : decide ((i : Int) = (L : Int) - 1) = true := decide_eq_true (by omega)
      rw [if_pos hlast]
      cases hz : nz (d % 128) with
      | true =>
        have c2 : decide (((d % 128 : Nat) : Int) = 0) = false := by unfold nz at hz; simpa using hz
        refine ⟨_, by
          simp (config := {maxSteps := 1000000}) (disch := first | omega | (simp only [List.length_cons, List.length_nil, List.length_append, List.length_drop]; omega)) only [tLoop, t0, t5, t6, t7, c0, c1, c2, lt, idx1, hg, gd, an, Nat.mul_one, ↓s_len, x_lenS, ↓l_loop, ↓l_succ, ↓l_normal, l_normal, l_exit, l_ret, l_iteN, ↓h_put_get, ↓h_new_get, ↓h_del_get, h_next_put, h_next_new, h_next_del, Nat.add_assoc, Nat.add_eq_left, Nat.left_eq_add, Nat.add_left_cancel_iff, ↓s_load, m_load, ↓m_load1, m_load1, ↓m_st, m_stE, m_storeI, m_storeE, w_zero, w_succ, ↓s_alloc, ↓x_idxA, ↓x_idxS, x_idxAE, x_idxSE, x_addrE, x_idx, x_lenS, ↓s_len, ↓x_buildS, x_buildE, ↓x_P0, ↓x_P1, x_fill0, x_filli, x_fills, x_fillb, c_int, List.length_cons, List.length_nil, List.cons_append, List.drop_succ_cons, List.drop_zero, List.drop_nil, List.nil_append, Int.reduceAdd, Int.reduceToNat, Int.reduceLT, Int.reduceLE, Nat.reduceAdd, Nat.reduceMul, Nat.reduceLeDiff, Int.reduceEq, Int.reduceSub, Int.cast_ofNat_Int, s_resc, s_consR, m_load4, m_store4, s_res0, ↓s_skip, ↓s_ops, ↓s_dops, ↓s_seq, ↓s_cond, ↓s_block, ↓s_exit, ↓s_ret, ↓s_scope, ↓s_nil, ↓s_op, ↓s_opg, ↓s_wanted', ↓s_wantV, s_wantV, s_wantV0, beq_true, beq_false, ↓s_bindS, s_bindS, ↓s_bindE, s_bindE, s_bindE_ret, s_bindE_exit, s_bindE_iteN, s_norm, ↓s_condV, s_condV, s_block_ret, s_block_normal, s_block_exit, s_block_iteN, ↓s_getp, ↓s_getp0, ↓s_get, s_get0, ↓s_con, ↓s_fn, ↓s_os0, ↓s_os1, ↓s_list0, ↓s_list1, ↓s_mov, ↓s_pick, ↓s_pickE, s_pickE, ↓s_bin, ↓s_un, ↓s_minmax, ↓s_call, ↓s_callv, ↓s_callV, ↓s_ext, s_same, b_eql, b_neq, b_lss, b_leq, b_gtr, b_geq, b_add, b_sub, b_mul, b_eqlb, b_neqb, b_fnil, b_fnil', b_fnil2, b_fnil2', u_neg, u_not, m_two, s_end, s_end', s_end_iteN, s_res0, s_res1, s_tup1, s_tup2, ↓iteN_true, ↓iteN_false, iteN_true, iteN_false, Nat.zero_add, List.nil_append, List.append_nil, Nat.reduceEqDiff, reduceIte, decide_true, decide_false, Bool.not_true, Bool.not_false, List.getElem?_cons_zero, List.getElem?_cons_succ, Bool.false_eq_true, if_true, if_false, beq_self_eq_true]
          exact rfl, fun _ => by simp only [s_getp, s_getp0, Nat.reduceEqDiff, decide_false, decide_true, iteN_false, iteN_true]⟩
      | false =>
        have c2 : decide (((d % 128 : Nat) : Int) = 0) = true := by unfold nz at hz; simpa using hz
        obtain ⟨T1, q1, q2⟩ : ∃ T1, evC Q 22 n none tLoop ⟨T, [], h⟩ = some (.normal, ⟨T1, [], h⟩) ∧ TI (i + 1) L cp T1 := by
          refine ⟨_, by
            simp (config := {maxSteps := 1000000}) (disch := first | omega | (simp only [List.length_cons, List.length_nil, List.length_append, List.length_drop]; omega)) only [tLoop, t0, t5, t6, t7, c0, c1, c2, lt, l1, idx1, hg, gd, an, Nat.mul_one, ↓s_len, x_lenS, ↓l_loop, ↓l_succ, ↓l_normal, l_normal, l_exit, l_ret, l_iteN, ↓h_put_get, ↓h_new_get, ↓h_del_get, h_next_put, h_next_new, h_next_del, Nat.add_assoc, Nat.add_eq_left, Nat.left_eq_add, Nat.add_left_cancel_iff, ↓s_load, m_load, ↓m_load1, m_load1, ↓m_st, m_stE, m_storeI, m_storeE, w_zero, w_succ, ↓s_alloc, ↓x_idxA, ↓x_idxS, x_idxAE, x_idxSE, x_addrE, x_idx, x_lenS, ↓s_len, ↓x_buildS, x_buildE, ↓x_P0, ↓x_P1, x_fill0, x_filli, x_fills, x_fillb, c_int, List.length_cons, List.length_nil, List.cons_append, List.drop_succ_cons, List.drop_zero, List.drop_nil, List.nil_append, Int.reduceAdd, Int.reduceToNat, Int.reduceLT, Int.reduceLE, Nat.reduceAdd, Nat.reduceMul, Nat.reduceLeDiff, Int.reduceEq, Int.reduceSub, Int.cast_ofNat_Int, s_resc, s_consR, m_load4, m_store4, s_res0, ↓s_skip, ↓s_ops, ↓s_dops, ↓s_seq, ↓s_cond, ↓s_block, ↓s_exit, ↓s_ret, ↓s_scope, ↓s_nil, ↓s_op, ↓s_opg, ↓s_wanted', ↓s_wantV, s_wantV, s_wantV0, beq_true, beq_false, ↓s_bindS, s_bindS, ↓s_bindE, s_bindE, s_bindE_ret, s_bindE_exit, s_bindE_iteN, s_norm, ↓s_condV, s_condV, s_block_ret, s_block_normal, s_block_exit, s_block_iteN, ↓s_getp, ↓s_getp0, ↓s_get, s_get0, ↓s_con, ↓s_fn, ↓s_os0, ↓s_os1, ↓s_list0, ↓s_list1, ↓s_mov, ↓s_pick, ↓s_pickE, s_pickE, ↓s_bin, ↓s_un, ↓s_minmax, ↓s_call, ↓s_callv, ↓s_callV, ↓s_ext, s_same, b_eql, b_neq, b_lss, b_leq, b_gtr, b_geq, b_add, b_sub, b_mul, b_eqlb, b_neqb, b_fnil, b_fnil', b_fnil2, b_fnil2', u_neg, u_not, m_two, s_end, s_end', s_end_iteN, s_res0, s_res1, s_tup1, s_tup2, ↓iteN_true, ↓iteN_false, iteN_true, iteN_false, Nat.zero_add, List.nil_append, List.append_nil, Nat.reduceEqDiff, reduceIte, decide_true, decide_false, Bool.not_true, Bool.not_false, List.getElem?_cons_zero, List.getElem?_cons_succ, Bool.false_eq_true, if_true, if_false, beq_self_eq_true]
            exact rfl, ⟨by simp only [s_getp, s_getp0, Nat.reduceEqDiff, decide_false, decide_true, iteN_false, iteN_true, t0, t5, t6], by simp only [s_getp, s_getp0, Nat.reduceEqDiff, decide_false, decide_true, iteN_false, iteN_true, t0, t5, t6], by simp only [s_getp, s_getp0, Nat.reduceEqDiff, decide_false, decide_true, iteN_false, iteN_true, t0, t5, t6], by simp only [s_getp, s_getp0, Nat.reduceEqDiff, decide_false, decide_true, iteN_false, iteN_true, t0, t5, t6]⟩⟩
        obtain ⟨T', r1, r2⟩ := ih (i + 1) (by omega) g (by omega) T1 q2
        rw [List.drop_eq_nil_of_le (by omega)] at r1
        exact ⟨T', by rw [q1, l_normal]; exact r1, fun h => by cases h⟩
    · have c1 : decide ((i : Int) = (L : Int) - 1) = false := decide_eq_false (by omega)
      rw [if_neg hlast]
      cases hz : nz d with
      | true =>
        have c2 : decide ((d : Int) = 0) = false := by unfold nz at hz; simpa using hz
        simp only [Bool.true_or, if_true]
        refine ⟨_, by
          simp (config := {maxSteps := 1000000}) (disch := first | omega | (simp only [List.length_cons, List.length_nil, List.length_append, List.length_drop]; omega)) only [tLoop, t0, t5, t6, t7, c0, c1, c2, lt, idx1, hg, gd, Nat.mul_one, ↓s_len, x_lenS, ↓l_loop, ↓l_succ, ↓l_normal, l_normal, l_exit, l_ret, l_iteN, ↓h_put_get, ↓h_new_get, ↓h_del_get, h_next_put, h_next_new, h_next_del, Nat.add_assoc, Nat.add_eq_left, Nat.left_eq_add, Nat.add_left_cancel_iff, ↓s_load, m_load, ↓m_load1, m_load1, ↓m_st, m_stE, m_storeI, m_storeE, w_zero, w_succ, ↓s_alloc, ↓x_idxA, ↓x_idxS, x_idxAE, x_idxSE, x_addrE, x_idx, x_lenS, ↓s_len, ↓x_buildS, x_buildE, ↓x_P0, ↓x_P1, x_fill0, x_filli, x_fills, x_fillb, c_int, List.length_cons, List.length_nil, List.cons_append, List.drop_succ_cons, List.drop_zero, List.drop_nil, List.nil_append, Int.reduceAdd, Int.reduceToNat, Int.reduceLT, Int.reduceLE, Nat.reduceAdd, Nat.reduceMul, Nat.reduceLeDiff, Int.reduceEq, Int.reduceSub, Int.cast_ofNat_Int, s_resc, s_consR, m_load4, m_store4, s_res0, ↓s_skip, ↓s_ops, ↓s_dops, ↓s_seq, ↓s_cond, ↓s_block, ↓s_exit, ↓s_ret, ↓s_scope, ↓s_nil, ↓s_op, ↓s_opg, ↓s_wanted', ↓s_wantV, s_wantV, s_wantV0, beq_true, beq_false, ↓s_bindS, s_bindS, ↓s_bindE, s_bindE, s_bindE_ret, s_bindE_exit, s_bindE_iteN, s_norm, ↓s_condV, s_condV, s_block_ret, s_block_normal, s_block_exit, s_block_iteN, ↓s_getp, ↓s_getp0, ↓s_get, s_get0, ↓s_con, ↓s_fn, ↓s_os0, ↓s_os1, ↓s_list0, ↓s_list1, ↓s_mov, ↓s_pick, ↓s_pickE, s_pickE, ↓s_bin, ↓s_un, ↓s_minmax, ↓s_call, ↓s_callv, ↓s_callV, ↓s_ext, s_same, b_eql, b_neq, b_lss, b_leq, b_gtr, b_geq, b_add, b_sub, b_mul, b_eqlb, b_neqb, b_fnil, b_fnil', b_fnil2, b_fnil2', u_neg, u_not, m_two, s_end, s_end', s_end_iteN, s_res0, s_res1, s_tup1, s_tup2, ↓iteN_true, ↓iteN_false, iteN_true, iteN_false, Nat.zero_add, List.nil_append, List.append_nil, Nat.reduceEqDiff, reduceIte, decide_true, decide_false, Bool.not_true, Bool.not_false, List.getElem?_cons_zero, List.getElem?_cons_succ, Bool.false_eq_true, if_true, if_false, beq_self_eq_true]
          exact rfl, fun _ => by simp only [s_getp, s_getp0, Nat.reduceEqDiff, decide_false, decide_true, iteN_false, iteN_true]⟩
      | false =>
        have c2 : decide ((d : Int) = 0) = true := by unfold nz at hz; simpa using hz
        obtain ⟨T1, q1, q2⟩ : ∃ T1, evC Q 22 n none tLoop ⟨T, [], h⟩ = some (.normal, ⟨T1, [], h⟩) ∧ TI (i + 1) L cp T1 := by
          refine ⟨_, by
            simp (config := {maxSteps := 1000000}) (disch := first | omega | (simp only [List.length_cons, List.length_nil, List.length_append, List.length_drop]; omega)) only [tLoop, t0, t5, t6, t7, c0, c1, c2, lt, l1, idx1, hg, gd, Nat.mul_one, ↓s_len, x_lenS, ↓l_loop, ↓l_succ, ↓l_normal, l_normal, l_exit, l_ret, l_iteN, ↓h_put_get, ↓h_new_get, ↓h_del_get, h_next_put, h_next_new, h_next_del, Nat.add_assoc, Nat.add_eq_left, Nat.left_eq_add, Nat.add_left_cancel_iff, ↓s_load, m_load, ↓m_load1, m_load1, ↓m_st, m_stE, m_storeI, m_storeE, w_zero, w_succ, ↓s_alloc, ↓x_idxA, ↓x_idxS, x_idxAE, x_idxSE, x_addrE, x_idx, x_lenS, ↓s_len, ↓x_buildS, x_buildE, ↓x_P0, ↓x_P1, x_fill0, x_filli, x_fills, x_fillb, c_int, List.length_cons, List.length_nil, List.cons_append, List.drop_succ_cons, List.drop_zero, List.drop_nil, List.nil_append, Int.reduceAdd, Int.reduceToNat, Int.reduceLT, Int.reduceLE, Nat.reduceAdd, Nat.reduceMul, Nat.reduceLeDiff, Int.reduceEq, Int.reduceSub, Int.cast_ofNat_Int, s_resc, s_consR, m_load4, m_store4, s_res0, ↓s_skip, ↓s_ops, ↓s_dops, ↓s_seq, ↓s_cond, ↓s_block, ↓s_exit, ↓s_ret, ↓s_scope, ↓s_nil, ↓s_op, ↓s_opg, ↓s_wanted', ↓s_wantV, s_wantV, s_wantV0, beq_true, beq_false, ↓s_bindS, s_bindS, ↓s_bindE, s_bindE, s_bindE_ret, s_bindE_exit, s_bindE_iteN, s_norm, ↓s_condV, s_condV, s_block_ret, s_block_normal, s_block_exit, s_block_iteN, ↓s_getp, ↓s_getp0, ↓s_get, s_get0, ↓s_con, ↓s_fn, ↓s_os0, ↓s_os1, ↓s_list0, ↓s_list1, ↓s_mov, ↓s_pick, ↓s_pickE, s_pickE, ↓s_bin, ↓s_un, ↓s_minmax, ↓s_call, ↓s_callv, ↓s_callV, ↓s_ext, s_same, b_eql, b_neq, b_lss, b_leq, b_gtr, b_geq, b_add, b_sub, b_mul, b_eqlb, b_neqb, b_fnil, b_fnil', b_fnil2, b_fnil2', u_neg, u_not, m_two, s_end, s_end', s_end_iteN, s_res0, s_res1, s_tup1, s_tup2, ↓iteN_true, ↓iteN_false, iteN_true, iteN_false, Nat.zero_add, List.nil_append, List.append_nil, Nat.reduceEqDiff, reduceIte, decide_true, decide_false, Bool.not_true, Bool.not_false, List.getElem?_cons_zero, List.getElem?_cons_succ, Bool.false_eq_true, if_true, if_false, beq_self_eq_true]
            exact rfl, ⟨by simp only [s_getp, s_getp0, Nat.reduceEqDiff, decide_false, decide_true, iteN_false, iteN_true, t0, t5, t6], by simp only [s_getp, s_getp0, Nat.reduceEqDiff, decide_false, decide_true, iteN_false, iteN_true, t0, t5, t6], by simp only [s_getp, s_getp0, Nat.reduceEqDiff, decide_false, decide_true, iteN_false, iteN_true, t0, t5, t6], by simp only [s_getp, s_getp0, Nat.reduceEqDiff, decide_false, decide_true, iteN_false, iteN_true, t0, t5, t6]⟩⟩
        obtain ⟨T', r1, r2⟩ := ih (i + 1) (by omega) g (by omega) T1 q2
        simp only [Bool.false_or]
        exact ⟨T', by rw [q1, l_normal]; exact r1, r2⟩
end Go.Eng
namespace Go.Eng
open Go
variable {E : Nat → Option Fn}
set_option linter.unusedSimpArgs false
set_option linter.unusedVariables false
def fRest : C := .seq (.ops [⟨(some 2), .mov (.c (.bool false)), none⟩]) (.ret)
theorem t_fin {Q : Orc} {n : Nat} (hn : 101 < n) (l : List Nat) (hb : ∀ x ∈ l, x < 256) (L : Nat) (hL : l.length = L) (h100 : L ≤ 100) (cp : Option Nat) (md : Md) (h : H) (hg : h.get 0 = some (.cells (ofBytes l) md)) (T : Tr V) (I : TI 0 L cp T) :
    fnEnd [.tmp 2] (bindE (evC Q 22 n none (.block 0 (.loop tLoop)) ⟨T, [], h⟩) (evC Q 22 n none fRest)) = some (.bool (tru l), h) := by
  obtain ⟨T', r1, r2⟩ := t_loop (Q := Q) (n := n) l hb L hL (by omega) cp md h hg L 0 (by omega) n (by omega) T I
  rw [List.drop_zero] at r1 r2
  rw [s_block, s_loop, r1]
  cases ht : tru l with
  | true =>
    rw [ht] at r2
    have t2 := r2 rfl
    simp (config := {maxSteps := 1000000}) (disch := first | omega | (simp only [List.length_cons, List.length_nil, List.length_append, List.length_drop]; omega)) only [t2, fRest, s_block_ret, ↓s_skip, ↓s_ops, ↓s_dops, ↓s_seq, ↓s_cond, ↓s_block, ↓s_exit, ↓s_ret, ↓s_scope, ↓s_nil, ↓s_op, ↓s_opg, ↓s_wanted', ↓s_wantV, s_wantV, s_wantV0, beq_true, beq_false, ↓s_bindS, s_bindS, ↓s_bindE, s_bindE, s_bindE_ret, s_bindE_exit, s_bindE_iteN, s_norm, ↓s_condV, s_condV, s_block_ret, s_block_normal, s_block_exit, s_block_iteN, ↓s_getp, ↓s_getp0, ↓s_get, s_get0, ↓s_con, ↓s_fn, ↓s_os0, ↓s_os1, ↓s_list0, ↓s_list1, ↓s_mov, ↓s_pick, ↓s_pickE, s_pickE, ↓s_bin, ↓s_un, ↓s_minmax, ↓s_call, ↓s_callv, ↓s_callV, ↓s_ext, s_same, b_eql, b_neq, b_lss, b_leq, b_gtr, b_geq, b_add, b_sub, b_mul, b_eqlb, b_neqb, b_fnil, b_fnil', b_fnil2, b_fnil2', u_neg, u_not, m_two, s_end, s_end', s_end_iteN, s_res0, s_res1, s_tup1, s_tup2, ↓iteN_true, ↓iteN_false, iteN_true, iteN_false, Nat.zero_add, List.nil_append, List.append_nil, Nat.reduceEqDiff, reduceIte, decide_true, decide_false, Bool.not_true, Bool.not_false, List.getElem?_cons_zero, List.getElem?_cons_succ, Bool.false_eq_true, if_true, if_false, beq_self_eq_true]
  | false =>
    simp (config := {maxSteps := 1000000}) (disch := first | omega | (simp only [List.length_cons, List.length_nil, List.length_append, List.length_drop]; omega)) only [fRest, s_block_exit, ↓s_skip, ↓s_ops, ↓s_dops, ↓s_seq, ↓s_cond, ↓s_block, ↓s_exit, ↓s_ret, ↓s_scope, ↓s_nil, ↓s_op, ↓s_opg, ↓s_wanted', ↓s_wantV, s_wantV, s_wantV0, beq_true, beq_false, ↓s_bindS, s_bindS, ↓s_bindE, s_bindE, s_bindE_ret, s_bindE_exit, s_bindE_iteN, s_norm, ↓s_condV, s_condV, s_block_ret, s_block_normal, s_block_exit, s_block_iteN, ↓s_getp, ↓s_getp0, ↓s_get, s_get0, ↓s_con, ↓s_fn, ↓s_os0, ↓s_os1, ↓s_list0, ↓s_list1, ↓s_mov, ↓s_pick, ↓s_pickE, s_pickE, ↓s_bin, ↓s_un, ↓s_minmax, ↓s_call, ↓s_callv, ↓s_callV, ↓s_ext, s_same, b_eql, b_neq, b_lss, b_leq, b_gtr, b_geq, b_add, b_sub, b_mul, b_eqlb, b_neqb, b_fnil, b_fnil', b_fnil2, b_fnil2', u_neg, u_not, m_two, s_end, s_end', s_end_iteN, s_res0, s_res1, s_tup1, s_tup2, ↓iteN_true, ↓iteN_false, iteN_true, iteN_false, Nat.zero_add, List.nil_append, List.append_nil, Nat.reduceEqDiff, reduceIte, decide_true, decide_false, Bool.not_true, Bool.not_false, List.getElem?_cons_zero, List.getElem?_cons_succ, Bool.false_eq_true, if_true, if_false, beq_self_eq_true]
theorem f_true : f_num_True = ⟨22, [.tmp 2],
  .seq (.ops [⟨(some 2), .mov (.c (.bool false)), none⟩])
  (.seq (.seq (.ops [⟨(some 5), .mov (.t 0), none⟩,
      ⟨(some 6), .len false (.t 5), none⟩,
      ⟨(some 7), .mov (.c (.int .i64 0)), none⟩])
   (.block 0 (.loop tLoop)))
  fRest)⟩ := rfl
theorem tG (e : E k_num_True = some f_num_True) (N : Nat) (l : List Nat) (hb : ∀ x ∈ l, x < 256) (L : Nat) (hL : l.length = L) (h100 : L ≤ 100) (cp : Option Nat) (md : Md) (h : H) (hg : h.get 0 = some (.cells (ofBytes l) md)) : callX E noX (N + 110) (.fn k_num_True) [.slice (some (0, 0)) L cp 1] h = some (.bool (tru l), h) := by
  rw [f_true] at e
  rw [x_cfn e _ _ (Nat.le_of_ble_eq_true rfl) rfl]
  have fin := t_fin (Q := callX E noX (N + 109)) (n := N + 109) (by omega) l hb L hL h100 cp md h hg
  obtain ⟨R, eR⟩ : ∃ R, C.block 0 (.loop tLoop) = R := ⟨_, rfl⟩
  obtain ⟨F, eF⟩ : ∃ F, fRest = F := ⟨_, rfl⟩
  rw [eR, eF] at fin ⊢
  simp (config := {maxSteps := 1000000}) (disch := first | omega | (simp only [List.length_cons, List.length_nil, List.length_append, List.length_drop]; omega)) only [↓s_len, x_lenS, ↓s_skip, ↓s_ops, ↓s_dops, ↓s_seq, ↓s_cond, ↓s_block, ↓s_exit, ↓s_ret, ↓s_scope, ↓s_nil, ↓s_op, ↓s_opg, ↓s_wanted', ↓s_wantV, s_wantV, s_wantV0, beq_true, beq_false, ↓s_bindS, s_bindS, ↓s_bindE, s_bindE, s_bindE_ret, s_bindE_exit, s_bindE_iteN, s_norm, ↓s_condV, s_condV, s_block_ret, s_block_normal, s_block_exit, s_block_iteN, ↓s_getp, ↓s_getp0, ↓s_get, s_get0, ↓s_con, ↓s_fn, ↓s_os0, ↓s_os1, ↓s_list0, ↓s_list1, ↓s_mov, ↓s_pick, ↓s_pickE, s_pickE, ↓s_bin, ↓s_un, ↓s_minmax, ↓s_call, ↓s_callv, ↓s_callV, ↓s_ext, s_same, b_eql, b_neq, b_lss, b_leq, b_gtr, b_geq, b_add, b_sub, b_mul, b_eqlb, b_neqb, b_fnil, b_fnil', b_fnil2, b_fnil2', u_neg, u_not, m_two, s_end, s_end', s_end_iteN, s_res0, s_res1, s_tup1, s_tup2, ↓iteN_true, ↓iteN_false, iteN_true, iteN_false, Nat.zero_add, List.nil_append, List.append_nil, Nat.reduceEqDiff, reduceIte, decide_true, decide_false, Bool.not_true, Bool.not_false, List.getElem?_cons_zero, List.getElem?_cons_succ, Bool.false_eq_true, if_true, if_false, beq_self_eq_true]
  exact fin _ ⟨by (simp only [s_getp, s_getp0, Nat.reduceEqDiff, decide_false, decide_true, iteN_false, iteN_true]; try rfl), by (simp only [s_getp, s_getp0, Nat.reduceEqDiff, decide_false, decide_true, iteN_false, iteN_true]; try rfl), by (simp only [s_getp, s_getp0, Nat.reduceEqDiff, decide_false, decide_true, iteN_false, iteN_true]; try rfl), by (simp only [s_getp, s_getp0, Nat.reduceEqDiff, decide_false, decide_true, iteN_false, iteN_true]; try rfl)⟩
/-- the reference's True: a round has -/
structure RI (i L : Nat) (cp : Option Nat) (T : Tr V) : Prop where
  t0 : evO T (.t 0) = .slice (some (0, 0)) L cp 1
  t3 : evO T (.t 3) = .int .i64 (i : Int)
theorem r_loop {Q : Orc} {n : Nat} (l : List Nat) (hb : ∀ x ∈ l, x < 256) (L : Nat) (hL : l.length = L) (h100 : L ≤ 1000) (cp : Option Nat) (md : Md) (h : H) (hg : h.get 0 = some (.cells (ofBytes l) md)) : ∀ (k i : Nat), i + k = L → ∀ (g : Nat), k < g → ∀ (T : Tr V), RI i L cp T →
    ∃ T' x, loopN (evC Q 27 n none rLoop) g ⟨T, [], h⟩ = some (x, ⟨T', [], h⟩) ∧ ((x = .ret ∧ evO T' (.t 2) = .bool (tru (l.drop i))) ∨ (x = .exit 0 ∧ tru (l.drop i) = false)) := by
  intro k
  induction k with
  | zero =>
    intro i hi g hgk T I
    obtain ⟨g, rfl⟩ : ∃ j, g = j + 1 := ⟨g - 1, by omega⟩
    obtain ⟨t0, t3⟩ := I
    rw [List.drop_eq_nil_of_le (by omega)]
    have c0 : decide ((i : Int) < (L : Int)) = false := decide_eq_false (by omega)
    rw [l_succ]
    refine ⟨_, _, by
      simp (config := {maxSteps := 1000000}) (disch := first | omega | (simp only [List.length_cons, List.length_nil, List.length_append, List.length_drop]; omega)) only [rLoop, t0, t3, c0, ↓s_len, x_lenS, ↓l_loop, ↓l_succ, ↓l_normal, l_normal, l_exit, l_ret, l_iteN, ↓h_put_get, ↓h_new_get, ↓h_del_get, h_next_put, h_next_new, h_next_del, Nat.add_assoc, Nat.add_eq_left, Nat.left_eq_add, Nat.add_left_cancel_iff, ↓s_load, m_load, ↓m_load1, m_load1, ↓m_st, m_stE, m_storeI, m_storeE, w_zero, w_succ, ↓s_alloc, ↓x_idxA, ↓x_idxS, x_idxAE, x_idxSE, x_addrE, x_idx, x_lenS, ↓s_len, ↓x_buildS, x_buildE, ↓x_P0, ↓x_P1, x_fill0, x_filli, x_fills, x_fillb, c_int, List.length_cons, List.length_nil, List.cons_append, List.drop_succ_cons, List.drop_zero, List.drop_nil, List.nil_append, Int.reduceAdd, Int.reduceToNat, Int.reduceLT, Int.reduceLE, Nat.reduceAdd, Nat.reduceMul, Nat.reduceLeDiff, Int.reduceEq, Int.reduceSub, Int.cast_ofNat_Int, s_resc, s_consR, m_load4, m_store4, s_res0, ↓s_skip, ↓s_ops, ↓s_dops, ↓s_seq, ↓s_cond, ↓s_block, ↓s_exit, ↓s_ret, ↓s_scope, ↓s_nil, ↓s_op, ↓s_opg, ↓s_wanted', ↓s_wantV, s_wantV, s_wantV0, beq_true, beq_false, ↓s_bindS, s_bindS, ↓s_bindE, s_bindE, s_bindE_ret, s_bindE_exit, s_bindE_iteN, s_norm, ↓s_condV, s_condV, s_block_ret, s_block_normal, s_block_exit, s_block_iteN, ↓s_getp, ↓s_getp0, ↓s_get, s_get0, ↓s_con, ↓s_fn, ↓s_os0, ↓s_os1, ↓s_list0, ↓s_list1, ↓s_mov, ↓s_pick, ↓s_pickE, s_pickE, ↓s_bin, ↓s_un, ↓s_minmax, ↓s_call, ↓s_callv, ↓s_callV, ↓s_ext, s_same, b_eql, b_neq, b_lss, b_leq, b_gtr, b_geq, b_add, b_sub, b_mul, b_eqlb, b_neqb, b_fnil, b_fnil', b_fnil2, b_fnil2', u_neg, u_not, m_two, s_end, s_end', s_end_iteN, s_res0, s_res1, s_tup1, s_tup2, ↓iteN_true, ↓iteN_false, iteN_true, iteN_false, Nat.zero_add, List.nil_append, List.append_nil, Nat.reduceEqDiff, reduceIte, decide_true, decide_false, Bool.not_true, Bool.not_false, List.getElem?_cons_zero, List.getElem?_cons_succ, Bool.false_eq_true, if_true, if_false, beq_self_eq_true]
      exact rfl, .inr ⟨rfl, rfl⟩⟩
  | succ k ih =>
    intro i hi g hgk T I
    obtain ⟨g, rfl⟩ : ∃ j, g = j + 1 := ⟨g - 1, by omega⟩
    obtain ⟨t0, t3⟩ := I
    obtain ⟨d, hd⟩ : ∃ d, l[i]? = some d := ⟨_, List.getElem?_eq_getElem (by omega)⟩
    have hd256 : d < 256 := hb d (List.mem_of_getElem? hd)
    have gd := ofB_get l i d hd
    have c0 : decide ((i : Int) < (L : Int)) = true := decide_eq_true (by omega)
    have idx1 : idx (i : Int) L = some i := by rw [x_idx (by omega) (by omega), Int.toNat_natCast]
    have lt : wr .i64 ((L : Int) - 1) = (L : Int) - 1 := wr_i64 (by omega)
    have l1 : wr .i64 ((i : Int) + 1) = ((i + 1 : Nat) : Int) := by rw [wr_i64 (by omega)]; omega
    rw [tru_step l i d hd, hL, l_succ]
    have nextR : ∀ T1, evC Q 27 n none rLoop ⟨T, [], h⟩ = some (.normal, ⟨T1, [], h⟩) → RI (i + 1) L cp T1 → ∀ b, tru (l.drop (i + 1)) = b → ∃ T' x, loopE (evC Q 27 n none rLoop ⟨T, [], h⟩) (loopN (evC Q 27 n none rLoop) g) = some (x, ⟨T', [], h⟩) ∧ ((x = .ret ∧ evO T' (.t 2) = .bool b) ∨ (x = .exit 0 ∧ b = false)) := by
      intro T1 q1 q2 b hb
      obtain ⟨T', x, r1, r2⟩ := ih (i + 1) (by omega) g (by omega) T1 q2
      rw [hb] at r2
      exact ⟨T', x, by rw [q1, l_normal]; exact r1, r2⟩
    by_cases hz : d = 0
    · subst hz
      have hv : (if i + 1 = L then nz (0 % 128) else (nz 0 || tru (l.drop (i + 1)))) = tru (l.drop (i + 1)) := by
        split
        · rw [List.drop_eq_nil_of_le (by omega)]; rfl
        · rfl
      rw [hv]
      have c1 : decide (((0 : Nat) : Int) = 128) = false := rfl
      have c2 : decide (((0 : Nat) : Int) = 0) = true := rfl
      refine nextR _ (by
        simp (config := {maxSteps := 1000000}) (disch := first | omega | (simp only [List.length_cons, List.length_nil, List.length_append, List.length_drop]; omega)) only [rLoop, t0, t3, c0, c1, c2, lt, l1, idx1, hg, gd, Nat.mul_one, ↓s_len, x_lenS, ↓l_loop, ↓l_succ, ↓l_normal, l_normal, l_exit, l_ret, l_iteN, ↓h_put_get, ↓h_new_get, ↓h_del_get, h_next_put, h_next_new, h_next_del, Nat.add_assoc, Nat.add_eq_left, Nat.left_eq_add, Nat.add_left_cancel_iff, ↓s_load, m_load, ↓m_load1, m_load1, ↓m_st, m_stE, m_storeI, m_storeE, w_zero, w_succ, ↓s_alloc, ↓x_idxA, ↓x_idxS, x_idxAE, x_idxSE, x_addrE, x_idx, x_lenS, ↓s_len, ↓x_buildS, x_buildE, ↓x_P0, ↓x_P1, x_fill0, x_filli, x_fills, x_fillb, c_int, List.length_cons, List.length_nil, List.cons_append, List.drop_succ_cons, List.drop_zero, List.drop_nil, List.nil_append, Int.reduceAdd, Int.reduceToNat, Int.reduceLT, Int.reduceLE, Nat.reduceAdd, Nat.reduceMul, Nat.reduceLeDiff, Int.reduceEq, Int.reduceSub, Int.cast_ofNat_Int, s_resc, s_consR, m_load4, m_store4, s_res0, ↓s_skip, ↓s_ops, ↓s_dops, ↓s_seq, ↓s_cond, ↓s_block, ↓s_exit, ↓s_ret, ↓s_scope, ↓s_nil, ↓s_op, ↓s_opg, ↓s_wanted', ↓s_wantV, s_wantV, s_wantV0, beq_true, beq_false, ↓s_bindS, s_bindS, ↓s_bindE, s_bindE, s_bindE_ret, s_bindE_exit, s_bindE_iteN, s_norm, ↓s_condV, s_condV, s_block_ret, s_block_normal, s_block_exit, s_block_iteN, ↓s_getp, ↓s_getp0, ↓s_get, s_get0, ↓s_con, ↓s_fn, ↓s_os0, ↓s_os1, ↓s_list0, ↓s_list1, ↓s_mov, ↓s_pick, ↓s_pickE, s_pickE, ↓s_bin, ↓s_un, ↓s_minmax, ↓s_call, ↓s_callv, ↓s_callV, ↓s_ext, s_same, b_eql, b_neq, b_lss, b_leq, b_gtr, b_geq, b_add, b_sub, b_mul, b_eqlb, b_neqb, b_fnil, b_fnil', b_fnil2, b_fnil2', u_neg, u_not, m_two, s_end, s_end', s_end_iteN, s_res0, s_res1, s_tup1, s_tup2, ↓iteN_true, ↓iteN_false, iteN_true, iteN_false, Nat.zero_add, List.nil_append, List.append_nil, Nat.reduceEqDiff, reduceIte, decide_true, decide_false, Bool.not_true, Bool.not_false, List.getElem?_cons_zero, List.getElem?_cons_succ, Bool.false_eq_true, if_true, if_false, beq_self_eq_true]
        exact rfl) ⟨by simp only [s_getp, s_getp0, Nat.reduceEqDiff, decide_false, decide_true, iteN_false, iteN_true, t0, t3], by simp only [s_getp, s_getp0, Nat.reduceEqDiff, decide_false, decide_true, iteN_false, iteN_true, t0, t3]⟩ _ rfl
    · have c2 : decide ((d : Int) = 0) = false := decide_eq_false (by omega)
      by_cases h128 : d = 128
      · subst h128
        have c1 : decide (((128 : Nat) : Int) = 128) = true := rfl
        by_cases hlast : i + 1 = L
        · have c3 : decide ((i : Int) = (L : Int) - 1) = true := decide_eq_true (by omega)
          rw [if_pos hlast]
          refine ⟨_, _, by
            simp (config := {maxSteps := 1000000}) (disch := first | omega | (simp only [List.length_cons, List.length_nil, List.length_append, List.length_drop]; omega)) only [rLoop, t0, t3, c0, c1, c2, c3, lt, l1, idx1, hg, gd, Nat.mul_one, ↓s_len, x_lenS, ↓l_loop, ↓l_succ, ↓l_normal, l_normal, l_exit, l_ret, l_iteN, ↓h_put_get, ↓h_new_get, ↓h_del_get, h_next_put, h_next_new, h_next_del, Nat.add_assoc, Nat.add_eq_left, Nat.left_eq_add, Nat.add_left_cancel_iff, ↓s_load, m_load, ↓m_load1, m_load1, ↓m_st, m_stE, m_storeI, m_storeE, w_zero, w_succ, ↓s_alloc, ↓x_idxA, ↓x_idxS, x_idxAE, x_idxSE, x_addrE, x_idx, x_lenS, ↓s_len, ↓x_buildS, x_buildE, ↓x_P0, ↓x_P1, x_fill0, x_filli, x_fills, x_fillb, c_int, List.length_cons, List.length_nil, List.cons_append, List.drop_succ_cons, List.drop_zero, List.drop_nil, List.nil_append, Int.reduceAdd, Int.reduceToNat, Int.reduceLT, Int.reduceLE, Nat.reduceAdd, Nat.reduceMul, Nat.reduceLeDiff, Int.reduceEq, Int.reduceSub, Int.cast_ofNat_Int, s_resc, s_consR, m_load4, m_store4, s_res0, ↓s_skip, ↓s_ops, ↓s_dops, ↓s_seq, ↓s_cond, ↓s_block, ↓s_exit, ↓s_ret, ↓s_scope, ↓s_nil, ↓s_op, ↓s_opg, ↓s_wanted', ↓s_wantV, s_wantV, s_wantV0, beq_true, beq_false, ↓s_bindS, s_bindS, ↓s_bindE, s_bindE, s_bindE_ret, s_bindE_exit, s_bindE_iteN, s_norm, ↓s_condV, s_condV, s_block_ret, s_block_normal, s_block_exit, s_block_iteN, ↓s_getp, ↓s_getp0, ↓s_get, s_get0, ↓s_con, ↓s_fn, ↓s_os0, ↓s_os1, ↓s_list0, ↓s_list1, ↓s_mov, ↓s_pick, ↓s_pickE, s_pickE, ↓s_bin, ↓s_un, ↓s_minmax, ↓s_call, ↓s_callv, ↓s_callV, ↓s_ext, s_same, b_eql, b_neq, b_lss, b_leq, b_gtr, b_geq, b_add, b_sub, b_mul, b_eqlb, b_neqb, b_fnil, b_fnil', b_fnil2, b_fnil2', u_neg, u_not, m_two, s_end, s_end', s_end_iteN, s_res0, s_res1, s_tup1, s_tup2, ↓iteN_true, ↓iteN_false, iteN_true, iteN_false, Nat.zero_add, List.nil_append, List.append_nil, Nat.reduceEqDiff, reduceIte, decide_true, decide_false, Bool.not_true, Bool.not_false, List.getElem?_cons_zero, List.getElem?_cons_succ, Bool.false_eq_true, if_true, if_false, beq_self_eq_true]
            exact rfl, .inl ⟨rfl, by simp only [s_getp, s_getp0, Nat.reduceEqDiff, decide_false, decide_true, iteN_false, iteN_true, t0, t3]; rfl⟩⟩
        · have c3 : decide ((i : Int) = (L : Int) - 1) = false := decide_eq_false (by omega)
          rw [if_neg hlast]
          refine ⟨_, _, by
            simp (config := {maxSteps := 1000000}) (disch := first | omega | (simp only [List.length_cons, List.length_nil, List.length_append, List.length_drop]; omega)) only [rLoop, t0, t3, c0, c1, c2, c3, lt, l1, idx1, hg, gd, Nat.mul_one, ↓s_len, x_lenS, ↓l_loop, ↓l_succ, ↓l_normal, l_normal, l_exit, l_ret, l_iteN, ↓h_put_get, ↓h_new_get, ↓h_del_get, h_next_put, h_next_new, h_next_del, Nat.add_assoc, Nat.add_eq_left, Nat.left_eq_add, Nat.add_left_cancel_iff, ↓s_load, m_load, ↓m_load1, m_load1, ↓m_st, m_stE, m_storeI, m_storeE, w_zero, w_succ, ↓s_alloc, ↓x_idxA, ↓x_idxS, x_idxAE, x_idxSE, x_addrE, x_idx, x_lenS, ↓s_len, ↓x_buildS, x_buildE, ↓x_P0, ↓x_P1, x_fill0, x_filli, x_fills, x_fillb, c_int, List.length_cons, List.length_nil, List.cons_append, List.drop_succ_cons, List.drop_zero, List.drop_nil, List.nil_append, Int.reduceAdd, Int.reduceToNat, Int.reduceLT, Int.reduceLE, Nat.reduceAdd, Nat.reduceMul, Nat.reduceLeDiff, Int.reduceEq, Int.reduceSub, Int.cast_ofNat_Int, s_resc, s_consR, m_load4, m_store4, s_res0, ↓s_skip, ↓s_ops, ↓s_dops, ↓s_seq, ↓s_cond, ↓s_block, ↓s_exit, ↓s_ret, ↓s_scope, ↓s_nil, ↓s_op, ↓s_opg, ↓s_wanted', ↓s_wantV, s_wantV, s_wantV0, beq_true, beq_false, ↓s_bindS, s_bindS, ↓s_bindE, s_bindE, s_bindE_ret, s_bindE_exit, s_bindE_iteN, s_norm, ↓s_condV, s_condV, s_block_ret, s_block_normal, s_block_exit, s_block_iteN, ↓s_getp, ↓s_getp0, ↓s_get, s_get0, ↓s_con, ↓s_fn, ↓s_os0, ↓s_os1, ↓s_list0, ↓s_list1, ↓s_mov, ↓s_pick, ↓s_pickE, s_pickE, ↓s_bin, ↓s_un, ↓s_minmax, ↓s_call, ↓s_callv, ↓s_callV, ↓s_ext, s_same, b_eql, b_neq, b_lss, b_leq, b_gtr, b_geq, b_add, b_sub, b_mul, b_eqlb, b_neqb, b_fnil, b_fnil', b_fnil2, b_fnil2', u_neg, u_not, m_two, s_end, s_end', s_end_iteN, s_res0, s_res1, s_tup1, s_tup2, ↓iteN_true, ↓iteN_false, iteN_true, iteN_false, Nat.zero_add, List.nil_append, List.append_nil, Nat.reduceEqDiff, reduceIte, decide_true, decide_false, Bool.not_true, Bool.not_false, List.getElem?_cons_zero, List.getElem?_cons_succ, Bool.false_eq_true, if_true, if_false, beq_self_eq_true]
            exact rfl, .inl ⟨rfl, by simp only [s_getp, s_getp0, Nat.reduceEqDiff, decide_false, decide_true, iteN_false, iteN_true, t0, t3]; rfl⟩⟩
      · have c1 : decide ((d : Int) = 128) = false := decide_eq_false (by omega)
        have hv : (if i + 1 = L then nz (d % 128) else (nz d || tru (l.drop (i + 1)))) = true := by
          split
          · exact nz_pos (by omega)
          · rw [nz_pos hz]; rfl
        rw [hv]
        refine ⟨_, _, by
          simp (config := {maxSteps := 1000000}) (disch := first | omega | (simp only [List.length_cons, List.length_nil, List.length_append, List.length_drop]; omega)) only [rLoop, t0, t3, c0, c1, c2, lt, l1, idx1, hg, gd, Nat.mul_one, ↓s_len, x_lenS, ↓l_loop, ↓l_succ, ↓l_normal, l_normal, l_exit, l_ret, l_iteN, ↓h_put_get, ↓h_new_get, ↓h_del_get, h_next_put, h_next_new, h_next_del, Nat.add_assoc, Nat.add_eq_left, Nat.left_eq_add, Nat.add_left_cancel_iff, ↓s_load, m_load, ↓m_load1, m_load1, ↓m_st, m_stE, m_storeI, m_storeE, w_zero, w_succ, ↓s_alloc, ↓x_idxA, ↓x_idxS, x_idxAE, x_idxSE, x_addrE, x_idx, x_lenS, ↓s_len, ↓x_buildS, x_buildE, ↓x_P0, ↓x_P1, x_fill0, x_filli, x_fills, x_fillb, c_int, List.length_cons, List.length_nil, List.cons_append, List.drop_succ_cons, List.drop_zero, List.drop_nil, List.nil_append, Int.reduceAdd, Int.reduceToNat, Int.reduceLT, Int.reduceLE, Nat.reduceAdd, Nat.reduceMul, Nat.reduceLeDiff, Int.reduceEq, Int.reduceSub, Int.cast_ofNat_Int, s_resc, s_consR, m_load4, m_store4, s_res0, ↓s_skip, ↓s_ops, ↓s_dops, ↓s_seq, ↓s_cond, ↓s_block, ↓s_exit, ↓s_ret, ↓s_scope, ↓s_nil, ↓s_op, ↓s_opg, ↓s_wanted', ↓s_wantV, s_wantV, s_wantV0, beq_true, beq_false, ↓s_bindS, s_bindS, ↓s_bindE, s_bindE, s_bindE_ret, s_bindE_exit, s_bindE_iteN, s_norm, ↓s_condV, s_condV, s_block_ret, s_block_normal, s_block_exit, s_block_iteN, ↓s_getp, ↓s_getp0, ↓s_get, s_get0, ↓s_con, ↓s_fn, ↓s_os0, ↓s_os1, ↓s_list0, ↓s_list1, ↓s_mov, ↓s_pick, ↓s_pickE, s_pickE, ↓s_bin, ↓s_un, ↓s_minmax, ↓s_call, ↓s_callv, ↓s_callV, ↓s_ext, s_same, b_eql, b_neq, b_lss, b_leq, b_gtr, b_geq, b_add, b_sub, b_mul, b_eqlb, b_neqb, b_fnil, b_fnil', b_fnil2, b_fnil2', u_neg, u_not, m_two, s_end, s_end', s_end_iteN, s_res0, s_res1, s_tup1, s_tup2, ↓iteN_true, ↓iteN_false, iteN_true, iteN_false, Nat.zero_add, List.nil_append, List.append_nil, Nat.reduceEqDiff, reduceIte, decide_true, decide_false, Bool.not_true, Bool.not_false, List.getElem?_cons_zero, List.getElem?_cons_succ, Bool.false_eq_true, if_true, if_false, beq_self_eq_true]
          exact rfl, .inl ⟨rfl, by simp only [s_getp, s_getp0, Nat.reduceEqDiff, decide_false, decide_true, iteN_false, iteN_true, t0, t3]⟩⟩
theorem r_fin {Q : Orc} {n : Nat} (hn : 101 < n) (l : List Nat) (hb : ∀ x ∈ l, x < 256) (L : Nat) (hL : l.length = L) (h100 : L ≤ 100) (cp : Option Nat) (md : Md) (h : H) (hg : h.get 0 = some (.cells (ofBytes l) md)) (T : Tr V) (I : RI 0 L cp T) :
    fnEnd [.tmp 2] (bindE (evC Q 27 n none (.block 0 (.loop rLoop)) ⟨T, [], h⟩) (evC Q 27 n none fRest)) = some (.bool (tru l), h) := by
  obtain ⟨T', x, r1, r2⟩ := r_loop (Q := Q) (n := n) l hb L hL (by omega) cp md h hg L 0 (by omega) n (by omega) T I
  rw [List.drop_zero] at r2
  rw [s_block, s_loop, r1]
  rcases r2 with ⟨rfl, t2⟩ | ⟨rfl, ht⟩
  · simp (config := {maxSteps := 1000000}) (disch := first | omega | (simp only [List.length_cons, List.length_nil, List.length_append, List.length_drop]; omega)) only [t2, fRest, s_block_ret, ↓s_skip, ↓s_ops, ↓s_dops, ↓s_seq, ↓s_cond, ↓s_block, ↓s_exit, ↓s_ret, ↓s_scope, ↓s_nil, ↓s_op, ↓s_opg, ↓s_wanted', ↓s_wantV, s_wantV, s_wantV0, beq_true, beq_false, ↓s_bindS, s_bindS, ↓s_bindE, s_bindE, s_bindE_ret, s_bindE_exit, s_bindE_iteN, s_norm, ↓s_condV, s_condV, s_block_ret, s_block_normal, s_block_exit, s_block_iteN, ↓s_getp, ↓s_getp0, ↓s_get, s_get0, ↓s_con, ↓s_fn, ↓s_os0, ↓s_os1, ↓s_list0, ↓s_list1, ↓s_mov, ↓s_pick, ↓s_pickE, s_pickE, ↓s_bin, ↓s_un, ↓s_minmax, ↓s_call, ↓s_callv, ↓s_callV, ↓s_ext, s_same, b_eql, b_neq, b_lss, b_leq, b_gtr, b_geq, b_add, b_sub, b_mul, b_eqlb, b_neqb, b_fnil, b_fnil', b_fnil2, b_fnil2', u_neg, u_not, m_two, s_end, s_end', s_end_iteN, s_res0, s_res1, s_tup1, s_tup2, ↓iteN_true, ↓iteN_false, iteN_true, iteN_false, Nat.zero_add, List.nil_append, List.append_nil, Nat.reduceEqDiff, reduceIte, decide_true, decide_false, Bool.not_true, Bool.not_false, List.getElem?_cons_zero, List.getElem?_cons_succ, Bool.false_eq_true, if_true, if_false, beq_self_eq_true]
  · rw [ht]
    simp (config := {maxSteps := 1000000}) (disch := first | omega | (simp only [List.length_cons, List.length_nil, List.length_append, List.length_drop]; omega)) only [fRest, s_block_exit, ↓s_skip, ↓s_ops, ↓s_dops, ↓s_seq, ↓s_cond, ↓s_block, ↓s_exit, ↓s_ret, ↓s_scope, ↓s_nil, ↓s_op, ↓s_opg, ↓s_wanted', ↓s_wantV, s_wantV, s_wantV0, beq_true, beq_false, ↓s_bindS, s_bindS, ↓s_bindE, s_bindE, s_bindE_ret, s_bindE_exit, s_bindE_iteN, s_norm, ↓s_condV, s_condV, s_block_ret, s_block_normal, s_block_exit, s_block_iteN, ↓s_getp, ↓s_getp0, ↓s_get, s_get0, ↓s_con, ↓s_fn, ↓s_os0, ↓s_os1, ↓s_list0, ↓s_list1, ↓s_mov, ↓s_pick, ↓s_pickE, s_pickE, ↓s_bin, ↓s_un, ↓s_minmax, ↓s_call, ↓s_callv, ↓s_callV, ↓s_ext, s_same, b_eql, b_neq, b_lss, b_leq, b_gtr, b_geq, b_add, b_sub, b_mul, b_eqlb, b_neqb, b_fnil, b_fnil', b_fnil2, b_fnil2', u_neg, u_not, m_two, s_end, s_end', s_end_iteN, s_res0, s_res1, s_tup1, s_tup2, ↓iteN_true, ↓iteN_false, iteN_true, iteN_false, Nat.zero_add, List.nil_append, List.append_nil, Nat.reduceEqDiff, reduceIte, decide_true, decide_false, Bool.not_true, Bool.not_false, List.getElem?_cons_zero, List.getElem?_cons_succ, Bool.false_eq_true, if_true, if_false, beq_self_eq_true]
theorem f_rtrue : f_purserref11_True = ⟨27, [.tmp 2],
  .seq (.ops [⟨(some 2), .mov (.c (.bool false)), none⟩])
  (.seq (.seq (.ops [⟨(some 3), .mov (.c (.int .i64 0)), none⟩])
   (.block 0 (.loop rLoop)))
  fRest)⟩ := rfl
theorem rG (e : E k_purserref11_True = some f_purserref11_True) (N : Nat) (l : List Nat) (hb : ∀ x ∈ l, x < 256) (L : Nat) (hL : l.length = L) (h100 : L ≤ 100) (cp : Option Nat) (md : Md) (h : H) (hg : h.get 0 = some (.cells (ofBytes l) md)) : callX E noX (N + 110) (.fn k_purserref11_True) [.slice (some (0, 0)) L cp 1] h = some (.bool (tru l), h) := by
  rw [f_rtrue] at e
  rw [x_cfn e _ _ (Nat.le_of_ble_eq_true rfl) rfl]
  have fin := r_fin (Q := callX E noX (N + 109)) (n := N + 109) (by omega) l hb L hL h100 cp md h hg
  obtain ⟨R, eR⟩ : ∃ R, C.block 0 (.loop rLoop) = R := ⟨_, rfl⟩
  obtain ⟨F, eF⟩ : ∃ F, fRest = F := ⟨_, rfl⟩
  rw [eR, eF] at fin ⊢
  simp (config := {maxSteps := 1000000}) (disch := first | omega | (simp only [List.length_cons, List.length_nil, List.length_append, List.length_drop]; omega)) only [↓s_len, x_lenS, ↓s_skip, ↓s_ops, ↓s_dops, ↓s_seq, ↓s_cond, ↓s_block, ↓s_exit, ↓s_ret, ↓s_scope, ↓s_nil, ↓s_op, ↓s_opg, ↓s_wanted', ↓s_wantV, s_wantV, s_wantV0, beq_true, beq_false, ↓s_bindS, s_bindS, ↓s_bindE, s_bindE, s_bindE_ret, s_bindE_exit, s_bindE_iteN, s_norm, ↓s_condV, s_condV, s_block_ret, s_block_normal, s_block_exit, s_block_iteN, ↓s_getp, ↓s_getp0, ↓s_get, s_get0, ↓s_con, ↓s_fn, ↓s_os0, ↓s_os1, ↓s_list0, ↓s_list1, ↓s_mov, ↓s_pick, ↓s_pickE, s_pickE, ↓s_bin, ↓s_un, ↓s_minmax, ↓s_call, ↓s_callv, ↓s_callV, ↓s_ext, s_same, b_eql, b_neq, b_lss, b_leq, b_gtr, b_geq, b_add, b_sub, b_mul, b_eqlb, b_neqb, b_fnil, b_fnil', b_fnil2, b_fnil2', u_neg, u_not, m_two, s_end, s_end', s_end_iteN, s_res0, s_res1, s_tup1, s_tup2, ↓iteN_true, ↓iteN_false, iteN_true, iteN_false, Nat.zero_add, List.nil_append, List.append_nil, Nat.reduceEqDiff, reduceIte, decide_true, decide_false, Bool.not_true, Bool.not_false, List.getElem?_cons_zero, List.getElem?_cons_succ, Bool.false_eq_true, if_true, if_false, beq_self_eq_true]
  exact fin _ ⟨by (simp only [s_getp, s_getp0, Nat.reduceEqDiff, decide_false, decide_true, iteN_false, iteN_true]; try rfl), by (simp only [s_getp, s_getp0, Nat.reduceEqDiff, decide_false, decide_true, iteN_false, iteN_true]; try rfl)⟩
theorem rt0 (e : E k_purserref11_True = some f_purserref11_True) (N : Nat) (a : Option (Nat × Nat)) (c : Option Nat) (z : Nat) (h : H) : callX E noX (N + 2) (.fn k_purserref11_True) [.slice a 0 c z] h = some (.bool false, h) := by
  rw [x_cfn e _ _ (Nat.le_of_ble_eq_true rfl) rfl]
  have c1 : decide ((0:Int) < ((0:Nat):Int)) = false := rfl
  simp (config := {maxSteps := 1000000}) (disch := first | omega | (simp only [List.length_cons, List.length_nil, List.length_append, List.length_drop]; omega)) only [c1, ↓s_len, x_lenS, ↓l_loop, ↓l_succ, ↓l_normal, l_normal, l_exit, l_ret, l_iteN, ↓h_put_get, ↓h_new_get, ↓h_del_get, h_next_put, h_next_new, h_next_del, Nat.add_assoc, Nat.add_eq_left, Nat.left_eq_add, Nat.add_left_cancel_iff, ↓s_load, m_load, ↓m_load1, m_load1, ↓m_st, m_stE, m_storeI, m_storeE, w_zero, w_succ, ↓s_alloc, ↓x_idxA, ↓x_idxS, x_idxAE, x_idxSE, x_addrE, x_idx, x_lenS, ↓s_len, ↓x_buildS, x_buildE, ↓x_P0, ↓x_P1, x_fill0, x_filli, x_fills, x_fillb, c_int, List.length_cons, List.length_nil, List.cons_append, List.drop_succ_cons, List.drop_zero, List.drop_nil, List.nil_append, Int.reduceAdd, Int.reduceToNat, Int.reduceLT, Int.reduceLE, Nat.reduceAdd, Nat.reduceMul, Nat.reduceLeDiff, Int.reduceEq, Int.reduceSub, Int.cast_ofNat_Int, s_resc, s_consR, m_load4, m_store4, s_res0, ↓s_skip, ↓s_ops, ↓s_dops, ↓s_seq, ↓s_cond, ↓s_block, ↓s_exit, ↓s_ret, ↓s_scope, ↓s_nil, ↓s_op, ↓s_opg, ↓s_wanted', ↓s_wantV, s_wantV, s_wantV0, beq_true, beq_false, ↓s_bindS, s_bindS, ↓s_bindE, s_bindE, s_bindE_ret, s_bindE_exit, s_bindE_iteN, s_norm, ↓s_condV, s_condV, s_block_ret, s_block_normal, s_block_exit, s_block_iteN, ↓s_getp, ↓s_getp0, ↓s_get, s_get0, ↓s_con, ↓s_fn, ↓s_os0, ↓s_os1, ↓s_list0, ↓s_list1, ↓s_mov, ↓s_pick, ↓s_pickE, s_pickE, ↓s_bin, ↓s_un, ↓s_minmax, ↓s_call, ↓s_callv, ↓s_callV, ↓s_ext, s_same, b_eql, b_neq, b_lss, b_leq, b_gtr, b_geq, b_add, b_sub, b_mul, b_eqlb, b_neqb, b_fnil, b_fnil', b_fnil2, b_fnil2', u_neg, u_not, m_two, s_end, s_end', s_end_iteN, s_res0, s_res1, s_tup1, s_tup2, ↓iteN_true, ↓iteN_false, iteN_true, iteN_false, Nat.zero_add, List.nil_append, List.append_nil, Nat.reduceEqDiff, reduceIte, decide_true, decide_false, Bool.not_true, Bool.not_false, List.getElem?_cons_zero, List.getElem?_cons_succ, Bool.false_eq_true, if_true, if_false, beq_self_eq_true]
def truG (l : List Nat) : Option V := if decide (l.length ≤ 100) && byt l then some (.bool (tru l)) else none
theorem truG_ok {P : Program} {g : Gn} (hE : Link P g E) (e : E k_num_True = some f_num_True) : QOk P g (bytesX k_num_True truG) := by
  refine bytesX_ok (callX_ok hE noX_ok 110) ?_
  intro l v hs
  unfold truG at hs
  split at hs
  · rename_i hb
    cases hs
    simp only [Bool.and_eq_true, decide_eq_true_eq, byt_iff] at hb
    refine ⟨rfl, ?_, fun _ cp => ⟨_, tG e 0 l hb.2 l.length rfl hb.1 cp .ro _ rfl⟩⟩
    intro h0 a c z
    subst h0
    exact ⟨_, tr0 e 108 a c z _⟩
  · cases hs
theorem rtruG_ok {P : Program} {g : Gn} (hE : Link P g E) (e : E k_purserref11_True = some f_purserref11_True) : QOk P g (bytesX k_purserref11_True truG) := by
  refine bytesX_ok (callX_ok hE noX_ok 110) ?_
  intro l v hs
  unfold truG at hs
  split at hs
  · rename_i hb
    cases hs
    simp only [Bool.and_eq_true, decide_eq_true_eq, byt_iff] at hb
    refine ⟨rfl, ?_, fun _ cp => ⟨_, rG e 0 l hb.2 l.length rfl hb.1 cp .ro _ rfl⟩⟩
    intro h0 a c z
    subst h0
    exact ⟨_, rt0 e 108 a c z _⟩
  · cases hs
end Go.Eng
