/- What functions of the program come to: own work. -/
import Derived.Test.YtniiddgjepkmeaaNnI
namespace Go.Eng
open Go
variable {E : Nat → Option Fn}
set_option linter.unusedSimpArgs false
set_option linter.unusedVariables false
theorem renc_out (e : E k_purserref11_Encode = some f_purserref11_Encode) (N : Nat) (n : Int) (hn : ¬ (-549755813887 ≤ n ∧ n ≤ 549755813887)) : callX E noX (N + 1) (.fn k_purserref11_Encode) [.int .i64 n] H.empty = some (.tup [.slice none 0 (some 0) 0, .int .i64 110], H.empty) := by
  rw [x_cfn e _ _ (Nat.le_of_ble_eq_true rfl) rfl]
  by_cases c : n ≤ -549755813888
  · have c1 : decide (n ≤ -549755813888) = true := decide_eq_true c
    simp (config := {maxSteps := 1000000}) (disch := first | omega | (simp only [List.length_cons, List.length_nil, List.length_append, List.length_drop]; omega)) only [c1, ↓l_loop, ↓l_succ, ↓l_normal, l_normal, l_exit, l_ret, l_iteN, ↓h_put_get, ↓h_new_get, ↓h_del_get, h_next_put, h_next_new, h_next_del, Nat.add_assoc, Nat.add_eq_left, Nat.left_eq_add, Nat.add_left_cancel_iff, ↓s_load, m_load, ↓m_load1, m_load1, ↓m_st, m_stE, m_storeI, m_storeE, w_zero, w_succ, ↓s_alloc, ↓x_idxA, ↓x_idxS, x_idxAE, x_idxSE, x_addrE, x_idx, x_lenS, ↓s_len, ↓x_buildS, x_buildE, ↓x_P0, ↓x_P1, x_fill0, x_filli, x_fills, x_fillb, c_int, List.length_cons, List.length_nil, List.cons_append, List.drop_succ_cons, List.drop_zero, List.drop_nil, List.nil_append, Int.reduceAdd, Int.reduceToNat, Int.reduceLT, Int.reduceLE, Nat.reduceAdd, Nat.reduceMul, Nat.reduceLeDiff, Int.reduceEq, Int.reduceSub, Int.cast_ofNat_Int, s_resc, s_consR, m_load4, m_store4, s_res0, ↓s_skip, ↓s_ops, ↓s_dops, ↓s_seq, ↓s_cond, ↓s_block, ↓s_exit, ↓s_ret, ↓s_scope, ↓s_nil, ↓s_op, ↓s_opg, ↓s_wanted', ↓s_wantV, s_wantV, s_wantV0, beq_true, beq_false, ↓s_bindS, s_bindS, ↓s_bindE, s_bindE, s_bindE_ret, s_bindE_exit, s_bindE_iteN, s_norm, ↓s_condV, s_condV, s_block_ret, s_block_normal, s_block_exit, s_block_iteN, ↓s_getp, ↓s_getp0, ↓s_get, s_get0, ↓s_con, ↓s_fn, ↓s_os0, ↓s_os1, ↓s_list0, ↓s_list1, ↓s_mov, ↓s_pick, ↓s_pickE, s_pickE, ↓s_bin, ↓s_un, ↓s_minmax, ↓s_call, ↓s_callv, ↓s_callV, ↓s_ext, s_same, b_eql, b_neq, b_lss, b_leq, b_gtr, b_geq, b_add, b_sub, b_mul, b_eqlb, b_neqb, b_fnil, b_fnil', b_fnil2, b_fnil2', u_neg, u_not, m_two, s_end, s_end', s_end_iteN, s_res0, s_res1, s_tup1, s_tup2, ↓iteN_true, ↓iteN_false, iteN_true, iteN_false, Nat.zero_add, List.nil_append, List.append_nil, Nat.reduceEqDiff, reduceIte, decide_true, decide_false, Bool.not_true, Bool.not_false, List.getElem?_cons_zero, List.getElem?_cons_succ, Bool.false_eq_true, if_true, if_false, beq_self_eq_true]
  · have c1 : decide (n ≤ -549755813888) = false := decide_eq_false c
    have c2 : decide (549755813888 ≤ n) = true := decide_eq_true (by omega)
    simp (config := {maxSteps := 1000000}) (disch := first | omega | (simp only [List.length_cons, List.length_nil, List.length_append, List.length_drop]; omega)) only [c1, c2, ↓l_loop, ↓l_succ, ↓l_normal, l_normal, l_exit, l_ret, l_iteN, ↓h_put_get, ↓h_new_get, ↓h_del_get, h_next_put, h_next_new, h_next_del, Nat.add_assoc, Nat.add_eq_left, Nat.left_eq_add, Nat.add_left_cancel_iff, ↓s_load, m_load, ↓m_load1, m_load1, ↓m_st, m_stE, m_storeI, m_storeE, w_zero, w_succ, ↓s_alloc, ↓x_idxA, ↓x_idxS, x_idxAE, x_idxSE, x_addrE, x_idx, x_lenS, ↓s_len, ↓x_buildS, x_buildE, ↓x_P0, ↓x_P1, x_fill0, x_filli, x_fills, x_fillb, c_int, List.length_cons, List.length_nil, List.cons_append, List.drop_succ_cons, List.drop_zero, List.drop_nil, List.nil_append, Int.reduceAdd, Int.reduceToNat, Int.reduceLT, Int.reduceLE, Nat.reduceAdd, Nat.reduceMul, Nat.reduceLeDiff, Int.reduceEq, Int.reduceSub, Int.cast_ofNat_Int, s_resc, s_consR, m_load4, m_store4, s_res0, ↓s_skip, ↓s_ops, ↓s_dops, ↓s_seq, ↓s_cond, ↓s_block, ↓s_exit, ↓s_ret, ↓s_scope, ↓s_nil, ↓s_op, ↓s_opg, ↓s_wanted', ↓s_wantV, s_wantV, s_wantV0, beq_true, beq_false, ↓s_bindS, s_bindS, ↓s_bindE, s_bindE, s_bindE_ret, s_bindE_exit, s_bindE_iteN, s_norm, ↓s_condV, s_condV, s_block_ret, s_block_normal, s_block_exit, s_block_iteN, ↓s_getp, ↓s_getp0, ↓s_get, s_get0, ↓s_con, ↓s_fn, ↓s_os0, ↓s_os1, ↓s_list0, ↓s_list1, ↓s_mov, ↓s_pick, ↓s_pickE, s_pickE, ↓s_bin, ↓s_un, ↓s_minmax, ↓s_call, ↓s_callv, ↓s_callV, ↓s_ext, s_same, b_eql, b_neq, b_lss, b_leq, b_gtr, b_geq, b_add, b_sub, b_mul, b_eqlb, b_neqb, b_fnil, b_fnil', b_fnil2, b_fnil2', u_neg, u_not, m_two, s_end, s_end', s_end_iteN, s_res0, s_res1, s_tup1, s_tup2, ↓iteN_true, ↓iteN_false, iteN_true, iteN_false, Nat.zero_add, List.nil_append, List.append_nil, Nat.reduceEqDiff, reduceIte, decide_true, decide_false, Bool.not_true, Bool.not_false, List.getElem?_cons_zero, List.getElem?_cons_succ, Bool.false_eq_true, if_true, if_false, beq_self_eq_true]
theorem encRX_ok {P : Program} {g : Gn} (hE : Link P g E) (e : E k_purserref11_Encode = some f_purserref11_Encode) (eB : E k_purserref11_Bytes = some f_purserref11_Bytes) : QOk P g (newX k_purserref11_Encode encS) := by
  refine newX_ok (callX_ok hE noX_ok 12) ?_
  intro args c e' hs
  unfold encS at hs
  split at hs
  · rename_i n
    split at hs
    · rename_i hin
      have hin' : -549755813887 ≤ n ∧ n ≤ 549755813887 := of_decide_eq_true hin
      cases hs
      have c1 : decide (n ≤ -549755813888) = false := decide_eq_false (by omega)
      have c2 : decide (549755813888 ≤ n) = false := decide_eq_false (by omega)
      refine ⟨rfl, datas_ofBytes _, rfl, ?_⟩
      rcases sp_Bytes (X := noX) eB (fun _ _ => rfl) 2 n hin' H.empty with ⟨rfl, h', r, _⟩ | ⟨h0, p, md, h', r, r1, r2, _⟩
      · refine .inl ⟨rfl, h', ?_⟩
        rw [x_cfn e _ _ (Nat.le_of_ble_eq_true rfl) rfl]
        simp (config := {maxSteps := 1000000}) (disch := first | omega | (simp only [List.length_cons, List.length_nil, List.length_append, List.length_drop]; omega)) only [r, c1, c2, ↓l_loop, ↓l_succ, ↓l_normal, l_normal, l_exit, l_ret, l_iteN, ↓h_put_get, ↓h_new_get, ↓h_del_get, h_next_put, h_next_new, h_next_del, Nat.add_assoc, Nat.add_eq_left, Nat.left_eq_add, Nat.add_left_cancel_iff, ↓s_load, m_load, ↓m_load1, m_load1, ↓m_st, m_stE, m_storeI, m_storeE, w_zero, w_succ, ↓s_alloc, ↓x_idxA, ↓x_idxS, x_idxAE, x_idxSE, x_addrE, x_idx, x_lenS, ↓s_len, ↓x_buildS, x_buildE, ↓x_P0, ↓x_P1, x_fill0, x_filli, x_fills, x_fillb, c_int, List.length_cons, List.length_nil, List.cons_append, List.drop_succ_cons, List.drop_zero, List.drop_nil, List.nil_append, Int.reduceAdd, Int.reduceToNat, Int.reduceLT, Int.reduceLE, Nat.reduceAdd, Nat.reduceMul, Nat.reduceLeDiff, Int.reduceEq, Int.reduceSub, Int.cast_ofNat_Int, s_resc, s_consR, m_load4, m_store4, s_res0, ↓s_skip, ↓s_ops, ↓s_dops, ↓s_seq, ↓s_cond, ↓s_block, ↓s_exit, ↓s_ret, ↓s_scope, ↓s_nil, ↓s_op, ↓s_opg, ↓s_wanted', ↓s_wantV, s_wantV, s_wantV0, beq_true, beq_false, ↓s_bindS, s_bindS, ↓s_bindE, s_bindE, s_bindE_ret, s_bindE_exit, s_bindE_iteN, s_norm, ↓s_condV, s_condV, s_block_ret, s_block_normal, s_block_exit, s_block_iteN, ↓s_getp, ↓s_getp0, ↓s_get, s_get0, ↓s_con, ↓s_fn, ↓s_os0, ↓s_os1, ↓s_list0, ↓s_list1, ↓s_mov, ↓s_pick, ↓s_pickE, s_pickE, ↓s_bin, ↓s_un, ↓s_minmax, ↓s_call, ↓s_callv, ↓s_callV, ↓s_ext, s_same, b_eql, b_neq, b_lss, b_leq, b_gtr, b_geq, b_add, b_sub, b_mul, b_eqlb, b_neqb, b_fnil, b_fnil', b_fnil2, b_fnil2', u_neg, u_not, m_two, s_end, s_end', s_end_iteN, s_res0, s_res1, s_tup1, s_tup2, ↓iteN_true, ↓iteN_false, iteN_true, iteN_false, Nat.zero_add, List.nil_append, List.append_nil, Nat.reduceEqDiff, reduceIte, decide_true, decide_false, Bool.not_true, Bool.not_false, List.getElem?_cons_zero, List.getElem?_cons_succ, Bool.false_eq_true, if_true, if_false, beq_self_eq_true]
      · refine .inr ⟨?_, p, md, h', ?_, r1, r2⟩
        · intro hq
          obtain ⟨_, _, hne, _⟩ := enc_facts n hin' h0
          cases hq2 : enc n with
          | nil => exact hne hq2
          | cons a r => rw [hq2] at hq; cases hq
        · rw [x_cfn e _ _ (Nat.le_of_ble_eq_true rfl) rfl]
          simp (config := {maxSteps := 1000000}) (disch := first | omega | (simp only [List.length_cons, List.length_nil, List.length_append, List.length_drop]; omega)) only [r, c1, c2, ↓l_loop, ↓l_succ, ↓l_normal, l_normal, l_exit, l_ret, l_iteN, ↓h_put_get, ↓h_new_get, ↓h_del_get, h_next_put, h_next_new, h_next_del, Nat.add_assoc, Nat.add_eq_left, Nat.left_eq_add, Nat.add_left_cancel_iff, ↓s_load, m_load, ↓m_load1, m_load1, ↓m_st, m_stE, m_storeI, m_storeE, w_zero, w_succ, ↓s_alloc, ↓x_idxA, ↓x_idxS, x_idxAE, x_idxSE, x_addrE, x_idx, x_lenS, ↓s_len, ↓x_buildS, x_buildE, ↓x_P0, ↓x_P1, x_fill0, x_filli, x_fills, x_fillb, c_int, List.length_cons, List.length_nil, List.cons_append, List.drop_succ_cons, List.drop_zero, List.drop_nil, List.nil_append, Int.reduceAdd, Int.reduceToNat, Int.reduceLT, Int.reduceLE, Nat.reduceAdd, Nat.reduceMul, Nat.reduceLeDiff, Int.reduceEq, Int.reduceSub, Int.cast_ofNat_Int, s_resc, s_consR, m_load4, m_store4, s_res0, ↓s_skip, ↓s_ops, ↓s_dops, ↓s_seq, ↓s_cond, ↓s_block, ↓s_exit, ↓s_ret, ↓s_scope, ↓s_nil, ↓s_op, ↓s_opg, ↓s_wanted', ↓s_wantV, s_wantV, s_wantV0, beq_true, beq_false, ↓s_bindS, s_bindS, ↓s_bindE, s_bindE, s_bindE_ret, s_bindE_exit, s_bindE_iteN, s_norm, ↓s_condV, s_condV, s_block_ret, s_block_normal, s_block_exit, s_block_iteN, ↓s_getp, ↓s_getp0, ↓s_get, s_get0, ↓s_con, ↓s_fn, ↓s_os0, ↓s_os1, ↓s_list0, ↓s_list1, ↓s_mov, ↓s_pick, ↓s_pickE, s_pickE, ↓s_bin, ↓s_un, ↓s_minmax, ↓s_call, ↓s_callv, ↓s_callV, ↓s_ext, s_same, b_eql, b_neq, b_lss, b_leq, b_gtr, b_geq, b_add, b_sub, b_mul, b_eqlb, b_neqb, b_fnil, b_fnil', b_fnil2, b_fnil2', u_neg, u_not, m_two, s_end, s_end', s_end_iteN, s_res0, s_res1, s_tup1, s_tup2, ↓iteN_true, ↓iteN_false, iteN_true, iteN_false, Nat.zero_add, List.nil_append, List.append_nil, Nat.reduceEqDiff, reduceIte, decide_true, decide_false, Bool.not_true, Bool.not_false, List.getElem?_cons_zero, List.getElem?_cons_succ, Bool.false_eq_true, if_true, if_false, beq_self_eq_true]
          rw [ofBytes_len]
    · rename_i hin
      have hin' : ¬ (-549755813887 ≤ n ∧ n ≤ 549755813887) := fun h => hin (decide_eq_true h)
      cases hs
      exact ⟨rfl, rfl, rfl, .inl ⟨rfl, _, renc_out e 11 n hin'⟩⟩
  · cases hs
theorem beq_bs (l : List Nat) : (V.str l).beq (V.str l) = true := by
  show strEq l l = true
  rw [strEq_dec, decide_eq_true rfl]
theorem b_sneq (e : EqK) (h : H) (a b : List Nat) : binV .neq e h (.str a) (.str b) = some (.bool (!decide (a = b))) := by
  rw [← strEq_dec]; rfl
def decR (m : Int) (l : List Nat) : V := if enc m = l then .tup [.int .i64 m, .int .i64 0] else .tup [.int .i64 0, .int .i64 110]
theorem decR_is (l : List Nat) (hl : l.length ≤ 4) : decR (numN l) l = decV l := by unfold decR decV; simp only [hl, true_and]
def dSign : C := (.seq (.ops [⟨(some 41), .mov (.t 6), none⟩])
   (.cond (.t 41)
    (.ops [⟨(some 42), .mov (.t 4), none⟩,
       ⟨(some 43), .un .neg (.t 42), none⟩,
       ⟨(some 4), .mov (.t 43), none⟩])
    (.skip)))
theorem d_tail {X : Orc} (eB : E k_purserref11_Bytes = some f_purserref11_Bytes) (hx : ∀ args h, X (.fn k_purserref11_Bytes) args h = none) (N : Nat) (l : List Nat) (hb : ∀ x ∈ l, x < 256) (L : Nat) (hl : l.length = L) (cp : Option Nat) (a : Option (Nat × Nat)) (h : H)
    (hs0 : ∀ h', (∀ j, j < h.next → h'.get j = h.get j) → b2sV h' (.slice a L cp 1) = some (.str l)) (g : Nat) (neg : Bool) (m : Int) (hg : g ≤ 2147483647) (hm : m = if neg then -(g : Int) else (g : Int))
    (T : Tr V) (t0 : evO T (.t 0) = .slice a L cp 1) (t4 : evO T (.t 4) = .int .i64 (g : Int)) (t6 : evO T (.t 6) = .bool neg) :
    ∃ h', fnEnd [.tmp 2, .tmp 3] (evC (callX E X (N + 9)) 51 (N + 9) none dTail ⟨T, [], h⟩) = some (decR m l, h') := by
  have hin : -549755813887 ≤ m ∧ m ≤ 549755813887 := by cases neg <;> simp at hm <;> omega
  have w : wr .i64 (0 - (g : Int)) = -(g : Int) := by rw [wr_i64 (by omega)]; omega
  unfold decR
  rcases sp_Bytes (X := X) eB hx N m hin h with ⟨h0, h', r, _, k⟩ | ⟨h0, p, md, h', r, r1, r2, _, _, _, k⟩
  · have s1 := hs0 h' k
    have s00 := hs0 h (fun _ _ => rfl)
    refine ⟨h', ?_⟩
    have e0 : enc m = [] := by rw [h0]; rfl
    rw [e0]
    by_cases hq : [] = l
    · rw [if_pos hq]
      have dq : decide (([] : List Nat) = l) = true := decide_eq_true hq
      cases neg with
      | false =>
        simp only [Bool.false_eq_true, if_false] at hm
        rw [hm] at r ⊢
        simp (config := {maxSteps := 1000000}) (disch := first | omega | (simp only [List.length_cons, List.length_nil, List.length_append, List.length_drop]; omega)) only [dTail, t0, t4, t6, r, s1, s00, dq, b_sneq, ↓ns_b2s, nx_bs0, beq_bs, ↓s_evD, ↓s_dnil, ↓s_dL, ↓s_dLg, ↓s_dR, ↓s_dRg, ↓s_dRj, ↓s_dRjg, ↓s_dB, ↓s_dBg, ↓s_dAlloc, ↓s_bindD, s_bindD, s_finD, s_finDx, s_addP0, s_addP1, s_addB, s_lookP, ↓s_bump0, ↓s_bump_get, s_bump_next, s_ok0, ↓s_ok1, s_okR0, ↓s_okR1, ↓s_okE, s_okE, s_okE1, s_nth0, s_nthS, Nat.add_zero, Bool.and_self, Bool.and_true, Bool.true_and, ↓l_loop, ↓l_succ, ↓l_normal, l_normal, l_exit, l_ret, l_iteN, ↓h_put_get, ↓h_new_get, ↓h_del_get, h_next_put, h_next_new, h_next_del, Nat.add_assoc, Nat.add_eq_left, Nat.left_eq_add, Nat.add_left_cancel_iff, ↓s_load, m_load, ↓m_load1, m_load1, ↓m_st, m_stE, m_storeI, m_storeE, w_zero, w_succ, ↓s_alloc, ↓x_idxA, ↓x_idxS, x_idxAE, x_idxSE, x_addrE, x_idx, x_lenS, ↓s_len, ↓x_buildS, x_buildE, ↓x_P0, ↓x_P1, x_fill0, x_filli, x_fills, x_fillb, c_int, List.length_cons, List.length_nil, List.cons_append, List.drop_succ_cons, List.drop_zero, List.drop_nil, List.nil_append, Int.reduceAdd, Int.reduceToNat, Int.reduceLT, Int.reduceLE, Nat.reduceAdd, Nat.reduceMul, Nat.reduceLeDiff, Int.reduceEq, Int.reduceSub, Int.cast_ofNat_Int, s_resc, s_consR, m_load4, m_store4, s_res0, ↓s_skip, ↓s_ops, ↓s_dops, ↓s_seq, ↓s_cond, ↓s_block, ↓s_exit, ↓s_ret, ↓s_scope, ↓s_nil, ↓s_op, ↓s_opg, ↓s_wanted', ↓s_wantV, s_wantV, s_wantV0, beq_true, beq_false, ↓s_bindS, s_bindS, ↓s_bindE, s_bindE, s_bindE_ret, s_bindE_exit, s_bindE_iteN, s_norm, ↓s_condV, s_condV, s_block_ret, s_block_normal, s_block_exit, s_block_iteN, ↓s_getp, ↓s_getp0, ↓s_get, s_get0, ↓s_con, ↓s_fn, ↓s_os0, ↓s_os1, ↓s_list0, ↓s_list1, ↓s_mov, ↓s_pick, ↓s_pickE, s_pickE, ↓s_bin, ↓s_un, ↓s_minmax, ↓s_call, ↓s_callv, ↓s_callV, ↓s_ext, s_same, b_eql, b_neq, b_lss, b_leq, b_gtr, b_geq, b_add, b_sub, b_mul, b_eqlb, b_neqb, b_fnil, b_fnil', b_fnil2, b_fnil2', u_neg, u_not, m_two, s_end, s_end', s_end_iteN, s_res0, s_res1, s_tup1, s_tup2, ↓iteN_true, ↓iteN_false, iteN_true, iteN_false, Nat.zero_add, List.nil_append, List.append_nil, Nat.reduceEqDiff, reduceIte, decide_true, decide_false, Bool.not_true, Bool.not_false, List.getElem?_cons_zero, List.getElem?_cons_succ, Bool.false_eq_true, if_true, if_false, beq_self_eq_true]
      | true =>
        simp only [if_true] at hm
        rw [hm] at r ⊢
        simp (config := {maxSteps := 1000000}) (disch := first | omega | (simp only [List.length_cons, List.length_nil, List.length_append, List.length_drop]; omega)) only [dTail, t0, t4, t6, w, r, s1, s00, dq, b_sneq, ↓ns_b2s, nx_bs0, beq_bs, ↓s_evD, ↓s_dnil, ↓s_dL, ↓s_dLg, ↓s_dR, ↓s_dRg, ↓s_dRj, ↓s_dRjg, ↓s_dB, ↓s_dBg, ↓s_dAlloc, ↓s_bindD, s_bindD, s_finD, s_finDx, s_addP0, s_addP1, s_addB, s_lookP, ↓s_bump0, ↓s_bump_get, s_bump_next, s_ok0, ↓s_ok1, s_okR0, ↓s_okR1, ↓s_okE, s_okE, s_okE1, s_nth0, s_nthS, Nat.add_zero, Bool.and_self, Bool.and_true, Bool.true_and, ↓l_loop, ↓l_succ, ↓l_normal, l_normal, l_exit, l_ret, l_iteN, ↓h_put_get, ↓h_new_get, ↓h_del_get, h_next_put, h_next_new, h_next_del, Nat.add_assoc, Nat.add_eq_left, Nat.left_eq_add, Nat.add_left_cancel_iff, ↓s_load, m_load, ↓m_load1, m_load1, ↓m_st, m_stE, m_storeI, m_storeE, w_zero, w_succ, ↓s_alloc, ↓x_idxA, ↓x_idxS, x_idxAE, x_idxSE, x_addrE, x_idx, x_lenS, ↓s_len, ↓x_buildS, x_buildE, ↓x_P0, ↓x_P1, x_fill0, x_filli, x_fills, x_fillb, c_int, List.length_cons, List.length_nil, List.cons_append, List.drop_succ_cons, List.drop_zero, List.drop_nil, List.nil_append, Int.reduceAdd, Int.reduceToNat, Int.reduceLT, Int.reduceLE, Nat.reduceAdd, Nat.reduceMul, Nat.reduceLeDiff, Int.reduceEq, Int.reduceSub, Int.cast_ofNat_Int, s_resc, s_consR, m_load4, m_store4, s_res0, ↓s_skip, ↓s_ops, ↓s_dops, ↓s_seq, ↓s_cond, ↓s_block, ↓s_exit, ↓s_ret, ↓s_scope, ↓s_nil, ↓s_op, ↓s_opg, ↓s_wanted', ↓s_wantV, s_wantV, s_wantV0, beq_true, beq_false, ↓s_bindS, s_bindS, ↓s_bindE, s_bindE, s_bindE_ret, s_bindE_exit, s_bindE_iteN, s_norm, ↓s_condV, s_condV, s_block_ret, s_block_normal, s_block_exit, s_block_iteN, ↓s_getp, ↓s_getp0, ↓s_get, s_get0, ↓s_con, ↓s_fn, ↓s_os0, ↓s_os1, ↓s_list0, ↓s_list1, ↓s_mov, ↓s_pick, ↓s_pickE, s_pickE, ↓s_bin, ↓s_un, ↓s_minmax, ↓s_call, ↓s_callv, ↓s_callV, ↓s_ext, s_same, b_eql, b_neq, b_lss, b_leq, b_gtr, b_geq, b_add, b_sub, b_mul, b_eqlb, b_neqb, b_fnil, b_fnil', b_fnil2, b_fnil2', u_neg, u_not, m_two, s_end, s_end', s_end_iteN, s_res0, s_res1, s_tup1, s_tup2, ↓iteN_true, ↓iteN_false, iteN_true, iteN_false, Nat.zero_add, List.nil_append, List.append_nil, Nat.reduceEqDiff, reduceIte, decide_true, decide_false, Bool.not_true, Bool.not_false, List.getElem?_cons_zero, List.getElem?_cons_succ, Bool.false_eq_true, if_true, if_false, beq_self_eq_true]
    · rw [if_neg hq]
      have dq : decide (([] : List Nat) = l) = false := decide_eq_false hq
      cases neg with
      | false =>
        simp only [Bool.false_eq_true, if_false] at hm
        rw [hm] at r
        simp (config := {maxSteps := 1000000}) (disch := first | omega | (simp only [List.length_cons, List.length_nil, List.length_append, List.length_drop]; omega)) only [dTail, t0, t4, t6, r, s1, s00, dq, b_sneq, ↓ns_b2s, nx_bs0, beq_bs, ↓s_evD, ↓s_dnil, ↓s_dL, ↓s_dLg, ↓s_dR, ↓s_dRg, ↓s_dRj, ↓s_dRjg, ↓s_dB, ↓s_dBg, ↓s_dAlloc, ↓s_bindD, s_bindD, s_finD, s_finDx, s_addP0, s_addP1, s_addB, s_lookP, ↓s_bump0, ↓s_bump_get, s_bump_next, s_ok0, ↓s_ok1, s_okR0, ↓s_okR1, ↓s_okE, s_okE, s_okE1, s_nth0, s_nthS, Nat.add_zero, Bool.and_self, Bool.and_true, Bool.true_and, ↓l_loop, ↓l_succ, ↓l_normal, l_normal, l_exit, l_ret, l_iteN, ↓h_put_get, ↓h_new_get, ↓h_del_get, h_next_put, h_next_new, h_next_del, Nat.add_assoc, Nat.add_eq_left, Nat.left_eq_add, Nat.add_left_cancel_iff, ↓s_load, m_load, ↓m_load1, m_load1, ↓m_st, m_stE, m_storeI, m_storeE, w_zero, w_succ, ↓s_alloc, ↓x_idxA, ↓x_idxS, x_idxAE, x_idxSE, x_addrE, x_idx, x_lenS, ↓s_len, ↓x_buildS, x_buildE, ↓x_P0, ↓x_P1, x_fill0, x_filli, x_fills, x_fillb, c_int, List.length_cons, List.length_nil, List.cons_append, List.drop_succ_cons, List.drop_zero, List.drop_nil, List.nil_append, Int.reduceAdd, Int.reduceToNat, Int.reduceLT, Int.reduceLE, Nat.reduceAdd, Nat.reduceMul, Nat.reduceLeDiff, Int.reduceEq, Int.reduceSub, Int.cast_ofNat_Int, s_resc, s_consR, m_load4, m_store4, s_res0, ↓s_skip, ↓s_ops, ↓s_dops, ↓s_seq, ↓s_cond, ↓s_block, ↓s_exit, ↓s_ret, ↓s_scope, ↓s_nil, ↓s_op, ↓s_opg, ↓s_wanted', ↓s_wantV, s_wantV, s_wantV0, beq_true, beq_false, ↓s_bindS, s_bindS, ↓s_bindE, s_bindE, s_bindE_ret, s_bindE_exit, s_bindE_iteN, s_norm, ↓s_condV, s_condV, s_block_ret, s_block_normal, s_block_exit, s_block_iteN, ↓s_getp, ↓s_getp0, ↓s_get, s_get0, ↓s_con, ↓s_fn, ↓s_os0, ↓s_os1, ↓s_list0, ↓s_list1, ↓s_mov, ↓s_pick, ↓s_pickE, s_pickE, ↓s_bin, ↓s_un, ↓s_minmax, ↓s_call, ↓s_callv, ↓s_callV, ↓s_ext, s_same, b_eql, b_neq, b_lss, b_leq, b_gtr, b_geq, b_add, b_sub, b_mul, b_eqlb, b_neqb, b_fnil, b_fnil', b_fnil2, b_fnil2', u_neg, u_not, m_two, s_end, s_end', s_end_iteN, s_res0, s_res1, s_tup1, s_tup2, ↓iteN_true, ↓iteN_false, iteN_true, iteN_false, Nat.zero_add, List.nil_append, List.append_nil, Nat.reduceEqDiff, reduceIte, decide_true, decide_false, Bool.not_true, Bool.not_false, List.getElem?_cons_zero, List.getElem?_cons_succ, Bool.false_eq_true, if_true, if_false, beq_self_eq_true]
      | true =>
        simp only [if_true] at hm
        rw [hm] at r
        simp (config := {maxSteps := 1000000}) (disch := first | omega | (simp only [List.length_cons, List.length_nil, List.length_append, List.length_drop]; omega)) only [dTail, t0, t4, t6, w, r, s1, s00, dq, b_sneq, ↓ns_b2s, nx_bs0, beq_bs, ↓s_evD, ↓s_dnil, ↓s_dL, ↓s_dLg, ↓s_dR, ↓s_dRg, ↓s_dRj, ↓s_dRjg, ↓s_dB, ↓s_dBg, ↓s_dAlloc, ↓s_bindD, s_bindD, s_finD, s_finDx, s_addP0, s_addP1, s_addB, s_lookP, ↓s_bump0, ↓s_bump_get, s_bump_next, s_ok0, ↓s_ok1, s_okR0, ↓s_okR1, ↓s_okE, s_okE, s_okE1, s_nth0, s_nthS, Nat.add_zero, Bool.and_self, Bool.and_true, Bool.true_and, ↓l_loop, ↓l_succ, ↓l_normal, l_normal, l_exit, l_ret, l_iteN, ↓h_put_get, ↓h_new_get, ↓h_del_get, h_next_put, h_next_new, h_next_del, Nat.add_assoc, Nat.add_eq_left, Nat.left_eq_add, Nat.add_left_cancel_iff, ↓s_load, m_load, ↓m_load1, m_load1, ↓m_st, m_stE, m_storeI, m_storeE, w_zero, w_succ, ↓s_alloc, ↓x_idxA, ↓x_idxS, x_idxAE, x_idxSE, x_addrE, x_idx, x_lenS, ↓s_len, ↓x_buildS, x_buildE, ↓x_P0, ↓x_P1, x_fill0, x_filli, x_fills, x_fillb, c_int, List.length_cons, List.length_nil, List.cons_append, List.drop_succ_cons, List.drop_zero, List.drop_nil, List.nil_append, Int.reduceAdd, Int.reduceToNat, Int.reduceLT, Int.reduceLE, Nat.reduceAdd, Nat.reduceMul, Nat.reduceLeDiff, Int.reduceEq, Int.reduceSub, Int.cast_ofNat_Int, s_resc, s_consR, m_load4, m_store4, s_res0, ↓s_skip, ↓s_ops, ↓s_dops, ↓s_seq, ↓s_cond, ↓s_block, ↓s_exit, ↓s_ret, ↓s_scope, ↓s_nil, ↓s_op, ↓s_opg, ↓s_wanted', ↓s_wantV, s_wantV, s_wantV0, beq_true, beq_false, ↓s_bindS, s_bindS, ↓s_bindE, s_bindE, s_bindE_ret, s_bindE_exit, s_bindE_iteN, s_norm, ↓s_condV, s_condV, s_block_ret, s_block_normal, s_block_exit, s_block_iteN, ↓s_getp, ↓s_getp0, ↓s_get, s_get0, ↓s_con, ↓s_fn, ↓s_os0, ↓s_os1, ↓s_list0, ↓s_list1, ↓s_mov, ↓s_pick, ↓s_pickE, s_pickE, ↓s_bin, ↓s_un, ↓s_minmax, ↓s_call, ↓s_callv, ↓s_callV, ↓s_ext, s_same, b_eql, b_neq, b_lss, b_leq, b_gtr, b_geq, b_add, b_sub, b_mul, b_eqlb, b_neqb, b_fnil, b_fnil', b_fnil2, b_fnil2', u_neg, u_not, m_two, s_end, s_end', s_end_iteN, s_res0, s_res1, s_tup1, s_tup2, ↓iteN_true, ↓iteN_false, iteN_true, iteN_false, Nat.zero_add, List.nil_append, List.append_nil, Nat.reduceEqDiff, reduceIte, decide_true, decide_false, Bool.not_true, Bool.not_false, List.getElem?_cons_zero, List.getElem?_cons_succ, Bool.false_eq_true, if_true, if_false, beq_self_eq_true]
  · have s1 := hs0 h' k
    have s00 := hs0 h (fun _ _ => rfl)
    obtain ⟨_, _, _, hlt⟩ := enc_facts m hin h0
    have hlen := enc_len m hin h0
    obtain ⟨K, eK⟩ : ∃ K, (enc m).length - 1 = K := ⟨_, rfl⟩
    rw [eK] at hlen
    rw [hlen] at r
    have ns := fun md => nsE_of (enc m) hlt md (K + 1) hlen
    refine ⟨h', ?_⟩
    obtain ⟨q, eq⟩ : ∃ q, enc m = q := ⟨_, rfl⟩
    rw [eq] at r2 ns ⊢
    by_cases hq : q = l
    · rw [if_pos hq]
      have dq : decide (q = l) = true := decide_eq_true hq
      cases neg with
      | false =>
        simp only [Bool.false_eq_true, if_false] at hm
        rw [hm] at r ⊢
        simp (config := {maxSteps := 1000000}) (disch := first | omega | (simp only [List.length_cons, List.length_nil, List.length_append, List.length_drop]; omega)) only [dTail, t0, t4, t6, r, r2, ns, s1, s00, dq, b_sneq, ↓ns_b2s, nx_bs1, beq_bs, ↓s_evD, ↓s_dnil, ↓s_dL, ↓s_dLg, ↓s_dR, ↓s_dRg, ↓s_dRj, ↓s_dRjg, ↓s_dB, ↓s_dBg, ↓s_dAlloc, ↓s_bindD, s_bindD, s_finD, s_finDx, s_addP0, s_addP1, s_addB, s_lookP, ↓s_bump0, ↓s_bump_get, s_bump_next, s_ok0, ↓s_ok1, s_okR0, ↓s_okR1, ↓s_okE, s_okE, s_okE1, s_nth0, s_nthS, Nat.add_zero, Bool.and_self, Bool.and_true, Bool.true_and, ↓l_loop, ↓l_succ, ↓l_normal, l_normal, l_exit, l_ret, l_iteN, ↓h_put_get, ↓h_new_get, ↓h_del_get, h_next_put, h_next_new, h_next_del, Nat.add_assoc, Nat.add_eq_left, Nat.left_eq_add, Nat.add_left_cancel_iff, ↓s_load, m_load, ↓m_load1, m_load1, ↓m_st, m_stE, m_storeI, m_storeE, w_zero, w_succ, ↓s_alloc, ↓x_idxA, ↓x_idxS, x_idxAE, x_idxSE, x_addrE, x_idx, x_lenS, ↓s_len, ↓x_buildS, x_buildE, ↓x_P0, ↓x_P1, x_fill0, x_filli, x_fills, x_fillb, c_int, List.length_cons, List.length_nil, List.cons_append, List.drop_succ_cons, List.drop_zero, List.drop_nil, List.nil_append, Int.reduceAdd, Int.reduceToNat, Int.reduceLT, Int.reduceLE, Nat.reduceAdd, Nat.reduceMul, Nat.reduceLeDiff, Int.reduceEq, Int.reduceSub, Int.cast_ofNat_Int, s_resc, s_consR, m_load4, m_store4, s_res0, ↓s_skip, ↓s_ops, ↓s_dops, ↓s_seq, ↓s_cond, ↓s_block, ↓s_exit, ↓s_ret, ↓s_scope, ↓s_nil, ↓s_op, ↓s_opg, ↓s_wanted', ↓s_wantV, s_wantV, s_wantV0, beq_true, beq_false, ↓s_bindS, s_bindS, ↓s_bindE, s_bindE, s_bindE_ret, s_bindE_exit, s_bindE_iteN, s_norm, ↓s_condV, s_condV, s_block_ret, s_block_normal, s_block_exit, s_block_iteN, ↓s_getp, ↓s_getp0, ↓s_get, s_get0, ↓s_con, ↓s_fn, ↓s_os0, ↓s_os1, ↓s_list0, ↓s_list1, ↓s_mov, ↓s_pick, ↓s_pickE, s_pickE, ↓s_bin, ↓s_un, ↓s_minmax, ↓s_call, ↓s_callv, ↓s_callV, ↓s_ext, s_same, b_eql, b_neq, b_lss, b_leq, b_gtr, b_geq, b_add, b_sub, b_mul, b_eqlb, b_neqb, b_fnil, b_fnil', b_fnil2, b_fnil2', u_neg, u_not, m_two, s_end, s_end', s_end_iteN, s_res0, s_res1, s_tup1, s_tup2, ↓iteN_true, ↓iteN_false, iteN_true, iteN_false, Nat.zero_add, List.nil_append, List.append_nil, Nat.reduceEqDiff, reduceIte, decide_true, decide_false, Bool.not_true, Bool.not_false, List.getElem?_cons_zero, List.getElem?_cons_succ, Bool.false_eq_true, if_true, if_false, beq_self_eq_true]
      | true =>
        simp only [if_true] at hm
        rw [hm] at r ⊢
        simp (config := {maxSteps := 1000000}) (disch := first | omega | (simp only [List.length_cons, List.length_nil, List.length_append, List.length_drop]; omega)) only [dTail, t0, t4, t6, w, r, r2, ns, s1, s00, dq, b_sneq, ↓ns_b2s, nx_bs1, beq_bs, ↓s_evD, ↓s_dnil, ↓s_dL, ↓s_dLg, ↓s_dR, ↓s_dRg, ↓s_dRj, ↓s_dRjg, ↓s_dB, ↓s_dBg, ↓s_dAlloc, ↓s_bindD, s_bindD, s_finD, s_finDx, s_addP0, s_addP1, s_addB, s_lookP, ↓s_bump0, ↓s_bump_get, s_bump_next, s_ok0, ↓s_ok1, s_okR0, ↓s_okR1, ↓s_okE, s_okE, s_okE1, s_nth0, s_nthS, Nat.add_zero, Bool.and_self, Bool.and_true, Bool.true_and, ↓l_loop, ↓l_succ, ↓l_normal, l_normal, l_exit, l_ret, l_iteN, ↓h_put_get, ↓h_new_get, ↓h_del_get, h_next_put, h_next_new, h_next_del, Nat.add_assoc, Nat.add_eq_left, Nat.left_eq_add, Nat.add_left_cancel_iff, ↓s_load, m_load, ↓m_load1, m_load1, ↓m_st, m_stE, m_storeI, m_storeE, w_zero, w_succ, ↓s_alloc, ↓x_idxA, ↓x_idxS, x_idxAE, x_idxSE, x_addrE, x_idx, x_lenS, ↓s_len, ↓x_buildS, x_buildE, ↓x_P0, ↓x_P1, x_fill0, x_filli, x_fills, x_fillb, c_int, List.length_cons, List.length_nil, List.cons_append, List.drop_succ_cons, List.drop_zero, List.drop_nil, List.nil_append, Int.reduceAdd, Int.reduceToNat, Int.reduceLT, Int.reduceLE, Nat.reduceAdd, Nat.reduceMul, Nat.reduceLeDiff, Int.reduceEq, Int.reduceSub, Int.cast_ofNat_Int, s_resc, s_consR, m_load4, m_store4, s_res0, ↓s_skip, ↓s_ops, ↓s_dops, ↓s_seq, ↓s_cond, ↓s_block, ↓s_exit, ↓s_ret, ↓s_scope, ↓s_nil, ↓s_op, ↓s_opg, ↓s_wanted', ↓s_wantV, s_wantV, s_wantV0, beq_true, beq_false, ↓s_bindS, s_bindS, ↓s_bindE, s_bindE, s_bindE_ret, s_bindE_exit, s_bindE_iteN, s_norm, ↓s_condV, s_condV, s_block_ret, s_block_normal, s_block_exit, s_block_iteN, ↓s_getp, ↓s_getp0, ↓s_get, s_get0, ↓s_con, ↓s_fn, ↓s_os0, ↓s_os1, ↓s_list0, ↓s_list1, ↓s_mov, ↓s_pick, ↓s_pickE, s_pickE, ↓s_bin, ↓s_un, ↓s_minmax, ↓s_call, ↓s_callv, ↓s_callV, ↓s_ext, s_same, b_eql, b_neq, b_lss, b_leq, b_gtr, b_geq, b_add, b_sub, b_mul, b_eqlb, b_neqb, b_fnil, b_fnil', b_fnil2, b_fnil2', u_neg, u_not, m_two, s_end, s_end', s_end_iteN, s_res0, s_res1, s_tup1, s_tup2, ↓iteN_true, ↓iteN_false, iteN_true, iteN_false, Nat.zero_add, List.nil_append, List.append_nil, Nat.reduceEqDiff, reduceIte, decide_true, decide_false, Bool.not_true, Bool.not_false, List.getElem?_cons_zero, List.getElem?_cons_succ, Bool.false_eq_true, if_true, if_false, beq_self_eq_true]
    · rw [if_neg hq]
      have dq : decide (q = l) = false := decide_eq_false hq
      cases neg with
      | false =>
        simp only [Bool.false_eq_true, if_false] at hm
        rw [hm] at r
        simp (config := {maxSteps := 1000000}) (disch := first | omega | (simp only [List.length_cons, List.length_nil, List.length_append, List.length_drop]; omega)) only [dTail, t0, t4, t6, r, r2, ns, s1, s00, dq, b_sneq, ↓ns_b2s, nx_bs1, beq_bs, ↓s_evD, ↓s_dnil, ↓s_dL, ↓s_dLg, ↓s_dR, ↓s_dRg, ↓s_dRj, ↓s_dRjg, ↓s_dB, ↓s_dBg, ↓s_dAlloc, ↓s_bindD, s_bindD, s_finD, s_finDx, s_addP0, s_addP1, s_addB, s_lookP, ↓s_bump0, ↓s_bump_get, s_bump_next, s_ok0, ↓s_ok1, s_okR0, ↓s_okR1, ↓s_okE, s_okE, s_okE1, s_nth0, s_nthS, Nat.add_zero, Bool.and_self, Bool.and_true, Bool.true_and, ↓l_loop, ↓l_succ, ↓l_normal, l_normal, l_exit, l_ret, l_iteN, ↓h_put_get, ↓h_new_get, ↓h_del_get, h_next_put, h_next_new, h_next_del, Nat.add_assoc, Nat.add_eq_left, Nat.left_eq_add, Nat.add_left_cancel_iff, ↓s_load, m_load, ↓m_load1, m_load1, ↓m_st, m_stE, m_storeI, m_storeE, w_zero, w_succ, ↓s_alloc, ↓x_idxA, ↓x_idxS, x_idxAE, x_idxSE, x_addrE, x_idx, x_lenS, ↓s_len, ↓x_buildS, x_buildE, ↓x_P0, ↓x_P1, x_fill0, x_filli, x_fills, x_fillb, c_int, List.length_cons, List.length_nil, List.cons_append, List.drop_succ_cons, List.drop_zero, List.drop_nil, List.nil_append, Int.reduceAdd, Int.reduceToNat, Int.reduceLT, Int.reduceLE, Nat.reduceAdd, Nat.reduceMul, Nat.reduceLeDiff, Int.reduceEq, Int.reduceSub, Int.cast_ofNat_Int, s_resc, s_consR, m_load4, m_store4, s_res0, ↓s_skip, ↓s_ops, ↓s_dops, ↓s_seq, ↓s_cond, ↓s_block, ↓s_exit, ↓s_ret, ↓s_scope, ↓s_nil, ↓s_op, ↓s_opg, ↓s_wanted', ↓s_wantV, s_wantV, s_wantV0, beq_true, beq_false, ↓s_bindS, s_bindS, ↓s_bindE, s_bindE, s_bindE_ret, s_bindE_exit, s_bindE_iteN, s_norm, ↓s_condV, s_condV, s_block_ret, s_block_normal, s_block_exit, s_block_iteN, ↓s_getp, ↓s_getp0, ↓s_get, s_get0, ↓s_con, ↓s_fn, ↓s_os0, ↓s_os1, ↓s_list0, ↓s_list1, ↓s_mov, ↓s_pick, ↓s_pickE, s_pickE, ↓s_bin, ↓s_un, ↓s_minmax, ↓s_call, ↓s_callv, ↓s_callV, ↓s_ext, s_same, b_eql, b_neq, b_lss, b_leq, b_gtr, b_geq, b_add, b_sub, b_mul, b_eqlb, b_neqb, b_fnil, b_fnil', b_fnil2, b_fnil2', u_neg, u_not, m_two, s_end, s_end', s_end_iteN, s_res0, s_res1, s_tup1, s_tup2, ↓iteN_true, ↓iteN_false, iteN_true, iteN_false, Nat.zero_add, List.nil_append, List.append_nil, Nat.reduceEqDiff, reduceIte, decide_true, decide_false, Bool.not_true, Bool.not_false, List.getElem?_cons_zero, List.getElem?_cons_succ, Bool.false_eq_true, if_true, if_false, beq_self_eq_true]
      | true =>
        simp only [if_true] at hm
        rw [hm] at r
        simp (config := {maxSteps := 1000000}) (disch := first | omega | (simp only [List.length_cons, List.length_nil, List.length_append, List.length_drop]; omega)) only [dTail, t0, t4, t6, w, r, r2, ns, s1, s00, dq, b_sneq, ↓ns_b2s, nx_bs1, beq_bs, ↓s_evD, ↓s_dnil, ↓s_dL, ↓s_dLg, ↓s_dR, ↓s_dRg, ↓s_dRj, ↓s_dRjg, ↓s_dB, ↓s_dBg, ↓s_dAlloc, ↓s_bindD, s_bindD, s_finD, s_finDx, s_addP0, s_addP1, s_addB, s_lookP, ↓s_bump0, ↓s_bump_get, s_bump_next, s_ok0, ↓s_ok1, s_okR0, ↓s_okR1, ↓s_okE, s_okE, s_okE1, s_nth0, s_nthS, Nat.add_zero, Bool.and_self, Bool.and_true, Bool.true_and, ↓l_loop, ↓l_succ, ↓l_normal, l_normal, l_exit, l_ret, l_iteN, ↓h_put_get, ↓h_new_get, ↓h_del_get, h_next_put, h_next_new, h_next_del, Nat.add_assoc, Nat.add_eq_left, Nat.left_eq_add, Nat.add_left_cancel_iff, ↓s_load, m_load, ↓m_load1, m_load1, ↓m_st, m_stE, m_storeI, m_storeE, w_zero, w_succ, ↓s_alloc, ↓x_idxA, ↓x_idxS, x_idxAE, x_idxSE, x_addrE, x_idx, x_lenS, ↓s_len, ↓x_buildS, x_buildE, ↓x_P0, ↓x_P1, x_fill0, x_filli, x_fills, x_fillb, c_int, List.length_cons, List.length_nil, List.cons_append, List.drop_succ_cons, List.drop_zero, List.drop_nil, List.nil_append, Int.reduceAdd, Int.reduceToNat, Int.reduceLT, Int.reduceLE, Nat.reduceAdd, Nat.reduceMul, Nat.reduceLeDiff, Int.reduceEq, Int.reduceSub, Int.cast_ofNat_Int, s_resc, s_consR, m_load4, m_store4, s_res0, ↓s_skip, ↓s_ops, ↓s_dops, ↓s_seq, ↓s_cond, ↓s_block, ↓s_exit, ↓s_ret, ↓s_scope, ↓s_nil, ↓s_op, ↓s_opg, ↓s_wanted', ↓s_wantV, s_wantV, s_wantV0, beq_true, beq_false, ↓s_bindS, s_bindS, ↓s_bindE, s_bindE, s_bindE_ret, s_bindE_exit, s_bindE_iteN, s_norm, ↓s_condV, s_condV, s_block_ret, s_block_normal, s_block_exit, s_block_iteN, ↓s_getp, ↓s_getp0, ↓s_get, s_get0, ↓s_con, ↓s_fn, ↓s_os0, ↓s_os1, ↓s_list0, ↓s_list1, ↓s_mov, ↓s_pick, ↓s_pickE, s_pickE, ↓s_bin, ↓s_un, ↓s_minmax, ↓s_call, ↓s_callv, ↓s_callV, ↓s_ext, s_same, b_eql, b_neq, b_lss, b_leq, b_gtr, b_geq, b_add, b_sub, b_mul, b_eqlb, b_neqb, b_fnil, b_fnil', b_fnil2, b_fnil2', u_neg, u_not, m_two, s_end, s_end', s_end_iteN, s_res0, s_res1, s_tup1, s_tup2, ↓iteN_true, ↓iteN_false, iteN_true, iteN_false, Nat.zero_add, List.nil_append, List.append_nil, Nat.reduceEqDiff, reduceIte, decide_true, decide_false, Bool.not_true, Bool.not_false, List.getElem?_cons_zero, List.getElem?_cons_succ, Bool.false_eq_true, if_true, if_false, beq_self_eq_true]
end Go.Eng
namespace Go.Eng
open Go
variable {E : Nat → Option Fn}
set_option linter.unusedSimpArgs false
set_option linter.unusedVariables false
theorem f_rdec : f_purserref11_Decode = ⟨51, [.tmp 2, .tmp 3],
  .seq (.ops [⟨(some 2), .mov (.c (.int .i64 0)), none⟩,
     ⟨(some 3), .mov (.c (.int .i64 0)), none⟩])
  (.seq (.seq (.ops [⟨(some 9), .mov (.t 0), none⟩,
      ⟨(some 10), .len false (.t 9), none⟩,
      ⟨(some 11), .bin .gtr .no (.t 10) (.c (.int .i64 4)), none⟩])
   (.cond (.t 11)
    (.seq (.ops [⟨(some 2), .mov (.c (.int .i64 0)), none⟩,
        ⟨(some 3), .mov (.c (.int .i64 110)), none⟩])
     (.ret))
    (.skip)))
  (.seq (.ops [⟨(some 4), .mov (.c (.int .i64 0)), none⟩])
  (.seq (.ops [⟨(some 5), .mov (.c (.int .i64 1)), none⟩])
  (.seq (.ops [⟨(some 6), .mov (.c (.bool false)), none⟩])
  (.seq (.seq (.ops [⟨(some 7), .mov (.c (.int .i64 0)), none⟩])
   (.block 0 (.loop dLoop)))
  dTail)))))⟩ := rfl
theorem rd_big (e : E k_purserref11_Decode = some f_purserref11_Decode) (N L : Nat) (hL : 4 < L) (a : Option (Nat × Nat)) (c : Option Nat) (z : Nat) (h : H) : callX E noX (N + 1) (.fn k_purserref11_Decode) [.slice a L c z] h = some (.tup [.int .i64 0, .int .i64 110], h) := by
  rw [x_cfn e _ _ (Nat.le_of_ble_eq_true rfl) rfl]
  have c1 : decide ((4 : Int) < (L : Int)) = true := decide_eq_true (by omega)
  simp (config := {maxSteps := 1000000}) (disch := first | omega | (simp only [List.length_cons, List.length_nil, List.length_append, List.length_drop]; omega)) only [c1, ↓s_len, x_lenS, ↓l_loop, ↓l_succ, ↓l_normal, l_normal, l_exit, l_ret, l_iteN, ↓h_put_get, ↓h_new_get, ↓h_del_get, h_next_put, h_next_new, h_next_del, Nat.add_assoc, Nat.add_eq_left, Nat.left_eq_add, Nat.add_left_cancel_iff, ↓s_load, m_load, ↓m_load1, m_load1, ↓m_st, m_stE, m_storeI, m_storeE, w_zero, w_succ, ↓s_alloc, ↓x_idxA, ↓x_idxS, x_idxAE, x_idxSE, x_addrE, x_idx, x_lenS, ↓s_len, ↓x_buildS, x_buildE, ↓x_P0, ↓x_P1, x_fill0, x_filli, x_fills, x_fillb, c_int, List.length_cons, List.length_nil, List.cons_append, List.drop_succ_cons, List.drop_zero, List.drop_nil, List.nil_append, Int.reduceAdd, Int.reduceToNat, Int.reduceLT, Int.reduceLE, Nat.reduceAdd, Nat.reduceMul, Nat.reduceLeDiff, Int.reduceEq, Int.reduceSub, Int.cast_ofNat_Int, s_resc, s_consR, m_load4, m_store4, s_res0, ↓s_skip, ↓s_ops, ↓s_dops, ↓s_seq, ↓s_cond, ↓s_block, ↓s_exit, ↓s_ret, ↓s_scope, ↓s_nil, ↓s_op, ↓s_opg, ↓s_wanted', ↓s_wantV, s_wantV, s_wantV0, beq_true, beq_false, ↓s_bindS, s_bindS, ↓s_bindE, s_bindE, s_bindE_ret, s_bindE_exit, s_bindE_iteN, s_norm, ↓s_condV, s_condV, s_block_ret, s_block_normal, s_block_exit, s_block_iteN, ↓s_getp, ↓s_getp0, ↓s_get, s_get0, ↓s_con, ↓s_fn, ↓s_os0, ↓s_os1, ↓s_list0, ↓s_list1, ↓s_mov, ↓s_pick, ↓s_pickE, s_pickE, ↓s_bin, ↓s_un, ↓s_minmax, ↓s_call, ↓s_callv, ↓s_callV, ↓s_ext, s_same, b_eql, b_neq, b_lss, b_leq, b_gtr, b_geq, b_add, b_sub, b_mul, b_eqlb, b_neqb, b_fnil, b_fnil', b_fnil2, b_fnil2', u_neg, u_not, m_two, s_end, s_end', s_end_iteN, s_res0, s_res1, s_tup1, s_tup2, ↓iteN_true, ↓iteN_false, iteN_true, iteN_false, Nat.zero_add, List.nil_append, List.append_nil, Nat.reduceEqDiff, reduceIte, decide_true, decide_false, Bool.not_true, Bool.not_false, List.getElem?_cons_zero, List.getElem?_cons_succ, Bool.false_eq_true, if_true, if_false, beq_self_eq_true]
theorem d_tail0 {X : Orc} (eB : E k_purserref11_Bytes = some f_purserref11_Bytes) (hx : ∀ args h, X (.fn k_purserref11_Bytes) args h = none) (N : Nat) (cp : Option Nat) (a : Option (Nat × Nat)) (z : Nat) (h : H)
    (T : Tr V) (t0 : evO T (.t 0) = .slice a 0 cp z) (t4 : evO T (.t 4) = .int .i64 0) (t6 : evO T (.t 6) = .bool false) :
    ∃ h', fnEnd [.tmp 2, .tmp 3] (evC (callX E X (N + 9)) 51 (N + 9) none dTail ⟨T, [], h⟩) = some (decR 0 [], h') := by
  rcases sp_Bytes (X := X) eB hx N 0 (by omega) h with ⟨_, h', r, _, k⟩ | ⟨h0, _⟩
  · have s1 : ∀ h, b2sV h (.slice a 0 cp z) = some (.str []) := fun h => by cases a <;> rfl
    have dq : decide (([] : List Nat) = []) = true := rfl
    refine ⟨h', ?_⟩
    have : decR 0 [] = .tup [.int .i64 0, .int .i64 0] := rfl
    rw [this]
    simp (config := {maxSteps := 1000000}) (disch := first | omega | (simp only [List.length_cons, List.length_nil, List.length_append, List.length_drop]; omega)) only [dTail, t0, t4, t6, r, s1, dq, b_sneq, ↓ns_b2s, nx_bs0, beq_bs, ↓s_evD, ↓s_dnil, ↓s_dL, ↓s_dLg, ↓s_dR, ↓s_dRg, ↓s_dRj, ↓s_dRjg, ↓s_dB, ↓s_dBg, ↓s_dAlloc, ↓s_bindD, s_bindD, s_finD, s_finDx, s_addP0, s_addP1, s_addB, s_lookP, ↓s_bump0, ↓s_bump_get, s_bump_next, s_ok0, ↓s_ok1, s_okR0, ↓s_okR1, ↓s_okE, s_okE, s_okE1, s_nth0, s_nthS, Nat.add_zero, Bool.and_self, Bool.and_true, Bool.true_and, ↓l_loop, ↓l_succ, ↓l_normal, l_normal, l_exit, l_ret, l_iteN, ↓h_put_get, ↓h_new_get, ↓h_del_get, h_next_put, h_next_new, h_next_del, Nat.add_assoc, Nat.add_eq_left, Nat.left_eq_add, Nat.add_left_cancel_iff, ↓s_load, m_load, ↓m_load1, m_load1, ↓m_st, m_stE, m_storeI, m_storeE, w_zero, w_succ, ↓s_alloc, ↓x_idxA, ↓x_idxS, x_idxAE, x_idxSE, x_addrE, x_idx, x_lenS, ↓s_len, ↓x_buildS, x_buildE, ↓x_P0, ↓x_P1, x_fill0, x_filli, x_fills, x_fillb, c_int, List.length_cons, List.length_nil, List.cons_append, List.drop_succ_cons, List.drop_zero, List.drop_nil, List.nil_append, Int.reduceAdd, Int.reduceToNat, Int.reduceLT, Int.reduceLE, Nat.reduceAdd, Nat.reduceMul, Nat.reduceLeDiff, Int.reduceEq, Int.reduceSub, Int.cast_ofNat_Int, s_resc, s_consR, m_load4, m_store4, s_res0, ↓s_skip, ↓s_ops, ↓s_dops, ↓s_seq, ↓s_cond, ↓s_block, ↓s_exit, ↓s_ret, ↓s_scope, ↓s_nil, ↓s_op, ↓s_opg, ↓s_wanted', ↓s_wantV, s_wantV, s_wantV0, beq_true, beq_false, ↓s_bindS, s_bindS, ↓s_bindE, s_bindE, s_bindE_ret, s_bindE_exit, s_bindE_iteN, s_norm, ↓s_condV, s_condV, s_block_ret, s_block_normal, s_block_exit, s_block_iteN, ↓s_getp, ↓s_getp0, ↓s_get, s_get0, ↓s_con, ↓s_fn, ↓s_os0, ↓s_os1, ↓s_list0, ↓s_list1, ↓s_mov, ↓s_pick, ↓s_pickE, s_pickE, ↓s_bin, ↓s_un, ↓s_minmax, ↓s_call, ↓s_callv, ↓s_callV, ↓s_ext, s_same, b_eql, b_neq, b_lss, b_leq, b_gtr, b_geq, b_add, b_sub, b_mul, b_eqlb, b_neqb, b_fnil, b_fnil', b_fnil2, b_fnil2', u_neg, u_not, m_two, s_end, s_end', s_end_iteN, s_res0, s_res1, s_tup1, s_tup2, ↓iteN_true, ↓iteN_false, iteN_true, iteN_false, Nat.zero_add, List.nil_append, List.append_nil, Nat.reduceEqDiff, reduceIte, decide_true, decide_false, Bool.not_true, Bool.not_false, List.getElem?_cons_zero, List.getElem?_cons_succ, Bool.false_eq_true, if_true, if_false, beq_self_eq_true]
  · exact absurd rfl h0
set_option maxHeartbeats 4000000 in
theorem rd0 (e : E k_purserref11_Decode = some f_purserref11_Decode) (eB : E k_purserref11_Bytes = some f_purserref11_Bytes) (N : Nat) (aa : Option (Nat × Nat)) (cp : Option Nat) (z : Nat) (h : H) : ∃ h', callX E noX (N + 20) (.fn k_purserref11_Decode) [.slice aa 0 cp z] h = some (decV [], h') := by
  rw [← decR_is [] (by simp)]
  rw [f_rdec] at e
  rw [x_cfn e _ _ (Nat.le_of_ble_eq_true rfl) rfl]
  have fin := d_tail0 (X := noX) eB (fun _ _ => rfl) (N + 10) cp aa z h
  obtain ⟨F, eF⟩ : ∃ F, dTail = F := ⟨_, rfl⟩
  rw [eF] at fin ⊢
  have c1 : decide ((4:Int) < 0) = false := rfl
  have c2 : decide ((0:Int) < 0) = false := rfl
  simp (config := {maxSteps := 1000000}) (disch := first | omega | (simp only [List.length_cons, List.length_nil, List.length_append, List.length_drop]; omega)) only [dLoop, c1, c2, ↓s_len, x_lenS, ↓l_loop, ↓l_succ, ↓l_normal, l_normal, l_exit, l_ret, l_iteN, ↓h_put_get, ↓h_new_get, ↓h_del_get, h_next_put, h_next_new, h_next_del, Nat.add_assoc, Nat.add_eq_left, Nat.left_eq_add, Nat.add_left_cancel_iff, ↓s_load, m_load, ↓m_load1, m_load1, ↓m_st, m_stE, m_storeI, m_storeE, w_zero, w_succ, ↓s_alloc, ↓x_idxA, ↓x_idxS, x_idxAE, x_idxSE, x_addrE, x_idx, x_lenS, ↓s_len, ↓x_buildS, x_buildE, ↓x_P0, ↓x_P1, x_fill0, x_filli, x_fills, x_fillb, c_int, List.length_cons, List.length_nil, List.cons_append, List.drop_succ_cons, List.drop_zero, List.drop_nil, List.nil_append, Int.reduceAdd, Int.reduceToNat, Int.reduceLT, Int.reduceLE, Nat.reduceAdd, Nat.reduceMul, Nat.reduceLeDiff, Int.reduceEq, Int.reduceSub, Int.cast_ofNat_Int, s_resc, s_consR, m_load4, m_store4, s_res0, ↓s_skip, ↓s_ops, ↓s_dops, ↓s_seq, ↓s_cond, ↓s_block, ↓s_exit, ↓s_ret, ↓s_scope, ↓s_nil, ↓s_op, ↓s_opg, ↓s_wanted', ↓s_wantV, s_wantV, s_wantV0, beq_true, beq_false, ↓s_bindS, s_bindS, ↓s_bindE, s_bindE, s_bindE_ret, s_bindE_exit, s_bindE_iteN, s_norm, ↓s_condV, s_condV, s_block_ret, s_block_normal, s_block_exit, s_block_iteN, ↓s_getp, ↓s_getp0, ↓s_get, s_get0, ↓s_con, ↓s_fn, ↓s_os0, ↓s_os1, ↓s_list0, ↓s_list1, ↓s_mov, ↓s_pick, ↓s_pickE, s_pickE, ↓s_bin, ↓s_un, ↓s_minmax, ↓s_call, ↓s_callv, ↓s_callV, ↓s_ext, s_same, b_eql, b_neq, b_lss, b_leq, b_gtr, b_geq, b_add, b_sub, b_mul, b_eqlb, b_neqb, b_fnil, b_fnil', b_fnil2, b_fnil2', u_neg, u_not, m_two, s_end, s_end', s_end_iteN, s_res0, s_res1, s_tup1, s_tup2, ↓iteN_true, ↓iteN_false, iteN_true, iteN_false, Nat.zero_add, List.nil_append, List.append_nil, Nat.reduceEqDiff, reduceIte, decide_true, decide_false, Bool.not_true, Bool.not_false, List.getElem?_cons_zero, List.getElem?_cons_succ, Bool.false_eq_true, if_true, if_false, beq_self_eq_true]
  exact fin _ (by (simp only [s_getp, s_getp0, Nat.reduceEqDiff, decide_false, decide_true, iteN_false, iteN_true]; try rfl)) (by (simp only [s_getp, s_getp0, Nat.reduceEqDiff, decide_false, decide_true, iteN_false, iteN_true]; try rfl)) (by (simp only [s_getp, s_getp0, Nat.reduceEqDiff, decide_false, decide_true, iteN_false, iteN_true]; try rfl))
theorem mulI (v c : Nat) (hv : v < 256) (hc : c ≤ 16777216) (e : EqK) (h : H) : binV .mul e h (.int .i64 (v : Int)) (.int .i64 (c : Int)) = some (.int .i64 ((v * c : Nat) : Int)) := by
  have hq : v * c ≤ 255 * 16777216 := Nat.mul_le_mul (by omega) hc
  rw [b_mul, show (v : Int) * (c : Int) = ((v * c : Nat) : Int) from by simp, wr_i64n _ (by omega)]
theorem mul1 (v : Nat) (hv : v < 256) (e : EqK) (h : H) : binV .mul e h (.int .i64 (v : Int)) (.int .i64 1) = some (.int .i64 (v : Int)) := by
  have := mulI v 1 hv (by omega) e h
  rw [Nat.mul_one] at this
  exact this
theorem addI (x y p : Nat) (hp : x + y = p) (hs : p < 9223372036854775808) (e : EqK) (h : H) : binV .add e h (.int .i64 (x : Int)) (.int .i64 (y : Int)) = some (.int .i64 (p : Int)) := by
  rw [b_add, show (x : Int) + (y : Int) = (p : Int) from by omega, wr_i64n _ hs]
theorem add0 (y : Nat) (hs : y < 256) (e : EqK) (h : H) : binV .add e h (.int .i64 0) (.int .i64 (y : Int)) = some (.int .i64 (y : Int)) := addI 0 y y (Nat.zero_add y) (by omega) e h
theorem subI (b t : Nat) (h1 : b - 128 = t) (h2 : 128 ≤ b) (h3 : b < 256) (e : EqK) (h : H) : binV .sub e h (.int .i64 (b : Int)) (.int .i64 128) = some (.int .i64 (t : Int)) := by
  rw [b_sub, show (b : Int) - 128 = (t : Int) from by omega, wr_i64n _ (by omega)]
theorem geI (b : Nat) (x : Bool) (h1 : decide (128 ≤ b) = x) (e : EqK) (h : H) : binV .geq e h (.int .i64 (b : Int)) (.int .i64 128) = some (.bool x) := by
  rw [b_geq, ← h1]
  congr 2
  exact decide_eq_decide.2 (by omega)
theorem cvI (b : Nat) (h : b < 256) : ∀ _ : Bool, wr .i64 (b : Int) = (b : Int) := fun _ => wr_i64n _ (by omega)
theorem cvV (b : Nat) (h : b < 256) (k : IntKind) : convV .i64 (.int k (b : Int)) = some (.int .i64 (b : Int)) := by
  rw [x_convV, wr_i64n _ (by omega)]
theorem pb2 (a b p : Nat) (ha : a < 256) (hb : b < 256) (h : a + b * 256 = p) : p < 65536 := by omega
theorem pb3 (a b p : Nat) (ha : a < 65536) (hb : b < 256) (h : a + b * 65536 = p) : p < 16777216 := by omega
theorem pb4 (a b p : Nat) (ha : a < 16777216) (hb : b < 128) (h : a + b * 16777216 = p) : p ≤ 2147483647 := by omega
theorem s128 (b : Nat) (h : b < 256) (h2 : 128 ≤ b) : b % 128 = b - 128 := by omega
set_option maxHeartbeats 1000000 in
theorem rd1 (e : E k_purserref11_Decode = some f_purserref11_Decode) (eB : E k_purserref11_Bytes = some f_purserref11_Bytes) (N : Nat) (a : Nat) (ha : a < 256) (cp : Option Nat) : ∃ h', callX E noX (N + 20) (.fn k_purserref11_Decode) [.slice (some (0, 0)) 1 cp 1] (mkH [(0, ofBytes [a])] 1) = some (decV [a], h') := by
  rw [← decR_is [a] (by simp)]
  rw [f_rdec] at e
  rw [x_cfn e _ _ (Nat.le_of_ble_eq_true rfl) rfl]
  have hball : ∀ x ∈ [a], x < 256 := by simp [ha]
  obtain ⟨H0, eH⟩ : ∃ H0, mkH [(0, ofBytes [a])] 1 = H0 := ⟨_, rfl⟩
  have gl : H0.get 0 = some (.cells [.int .u8 (a : Int)] .ro) := by rw [← eH]; rfl
  have hnx : H0.next = 1 := by rw [← eH]; rfl
  rw [eH]
  have hs0 : ∀ h', (∀ j, j < H0.next → h'.get j = H0.get j) → b2sV h' (.slice (some (0, 0)) 1 cp 1) = some (.str [a]) := by
    intro h' hk
    rw [nx_bs1, hk 0 (by rw [hnx]; exact Nat.one_pos), gl]
    exact nsE_of [a] hball .ro 1 rfl
  have fin := fun g neg m hg hm T => d_tail (X := noX) eB (fun _ _ => rfl) (N + 10) [a] hball 1 rfl cp (some (0, 0)) H0 hs0 g neg m hg hm T
  obtain ⟨F, eF⟩ : ∃ F, dTail = F := ⟨_, rfl⟩
  rw [eF] at fin ⊢
  obtain ⟨m, emm⟩ : ∃ m, numN [a] = m := ⟨_, rfl⟩
  rw [emm]
  have i0 : ∀ e h, binV .add e h (.int .i64 0) (.int .i64 1) = some (.int .i64 1) := fun _ _ => rfl
  have n0 : ∀ e h, binV .sub e h (.int .i64 1) (.int .i64 1) = some (.int .i64 0) := fun _ _ => rfl
  have u0 : ∀ e h, binV .mul e h (.int .i64 1) (.int .i64 256) = some (.int .i64 256) := fun _ _ => rfl
  have i1 : ∀ e h, binV .add e h (.int .i64 1) (.int .i64 1) = some (.int .i64 2) := fun _ _ => rfl
  have n1 : ∀ e h, binV .sub e h (.int .i64 2) (.int .i64 1) = some (.int .i64 1) := fun _ _ => rfl
  have u1 : ∀ e h, binV .mul e h (.int .i64 256) (.int .i64 256) = some (.int .i64 65536) := fun _ _ => rfl
  have i2 : ∀ e h, binV .add e h (.int .i64 2) (.int .i64 1) = some (.int .i64 3) := fun _ _ => rfl
  have n2 : ∀ e h, binV .sub e h (.int .i64 3) (.int .i64 1) = some (.int .i64 2) := fun _ _ => rfl
  have u2 : ∀ e h, binV .mul e h (.int .i64 65536) (.int .i64 256) = some (.int .i64 16777216) := fun _ _ => rfl
  have i3 : ∀ e h, binV .add e h (.int .i64 3) (.int .i64 1) = some (.int .i64 4) := fun _ _ => rfl
  have n3 : ∀ e h, binV .sub e h (.int .i64 4) (.int .i64 1) = some (.int .i64 3) := fun _ _ => rfl
  have u3 : ∀ e h, binV .mul e h (.int .i64 16777216) (.int .i64 256) = some (.int .i64 4294967296) := fun _ _ => rfl
  have xa := cvV a ha
  by_cases hlt : a < 128
  · have cg := geI a false (decide_eq_false (Nat.not_le_of_lt hlt))
    have ed : a % 128 = a := Nat.mod_eq_of_lt hlt
    have m0 := mul1 a ha
    have a0 := add0 a ha
    have em : magN [a] = a := by simp only [magN, ed]
    have hm : m = if false then -(a : Int) else (a : Int) := by
      rw [← emm]
      show (if negN [a] then -(magN [a] : Int) else (magN [a] : Int)) = _
      rw [em, show negN [a] = false from decide_eq_false (Nat.not_le_of_lt hlt)]
    simp (config := {maxSteps := 1000000}) (disch := first | omega | (simp only [List.length_cons, List.length_nil, List.length_append, List.length_drop]; omega)) only [dLoop, gl, cg, i0, n0, u0, i1, n1, u1, i2, n2, u2, i3, n3, u3, xa, m0, a0, ↓x_conv, ↓s_len, x_lenS, ↓l_loop, ↓l_succ, ↓l_normal, l_normal, l_exit, l_ret, l_iteN, ↓h_put_get, ↓h_new_get, ↓h_del_get, h_next_put, h_next_new, h_next_del, Nat.add_assoc, Nat.add_eq_left, Nat.left_eq_add, Nat.add_left_cancel_iff, ↓s_load, m_load, ↓m_load1, m_load1, ↓m_st, m_stE, m_storeI, m_storeE, w_zero, w_succ, ↓s_alloc, ↓x_idxA, ↓x_idxS, x_idxAE, x_idxSE, x_addrE, x_idx, x_lenS, ↓s_len, ↓x_buildS, x_buildE, ↓x_P0, ↓x_P1, x_fill0, x_filli, x_fills, x_fillb, c_int, List.length_cons, List.length_nil, List.cons_append, List.drop_succ_cons, List.drop_zero, List.drop_nil, List.nil_append, Int.reduceAdd, Int.reduceToNat, Int.reduceLT, Int.reduceLE, Nat.reduceAdd, Nat.reduceMul, Nat.reduceLeDiff, Int.reduceEq, Int.reduceSub, Int.cast_ofNat_Int, s_resc, s_consR, m_load4, m_store4, s_res0, ↓s_skip, ↓s_ops, ↓s_dops, ↓s_seq, ↓s_cond, ↓s_block, ↓s_exit, ↓s_ret, ↓s_scope, ↓s_nil, ↓s_op, ↓s_opg, ↓s_wanted', ↓s_wantV, s_wantV, s_wantV0, beq_true, beq_false, ↓s_bindS, s_bindS, ↓s_bindE, s_bindE, s_bindE_ret, s_bindE_exit, s_bindE_iteN, s_norm, ↓s_condV, s_condV, s_block_ret, s_block_normal, s_block_exit, s_block_iteN, ↓s_getp, ↓s_getp0, ↓s_get, s_get0, ↓s_con, ↓s_fn, ↓s_os0, ↓s_os1, ↓s_list0, ↓s_list1, ↓s_mov, ↓s_pick, ↓s_pickE, s_pickE, ↓s_bin, ↓s_un, ↓s_minmax, ↓s_call, ↓s_callv, ↓s_callV, ↓s_ext, s_same, b_eql, b_neq, b_lss, b_leq, b_gtr, b_eqlb, b_neqb, b_fnil, b_fnil', b_fnil2, b_fnil2', u_neg, u_not, m_two, s_end, s_end', s_end_iteN, s_res0, s_res1, s_tup1, s_tup2, ↓iteN_true, ↓iteN_false, iteN_true, iteN_false, Nat.zero_add, List.nil_append, List.append_nil, Nat.reduceEqDiff, reduceIte, decide_true, decide_false, Bool.not_true, Bool.not_false, List.getElem?_cons_zero, List.getElem?_cons_succ, Bool.false_eq_true, if_true, if_false, beq_self_eq_true]
    exact fin a false m (Nat.le_of_lt (Nat.lt_trans ha (by decide))) hm _ (by (simp only [s_getp, s_getp0, Nat.reduceEqDiff, decide_false, decide_true, iteN_false, iteN_true]; try rfl)) (by (simp only [s_getp, s_getp0, Nat.reduceEqDiff, decide_false, decide_true, iteN_false, iteN_true]; try rfl)) (by (simp only [s_getp, s_getp0, Nat.reduceEqDiff, decide_false, decide_true, iteN_false, iteN_true]; try rfl))
  · have hge : 128 ≤ a := Nat.le_of_not_lt hlt
    have cg := geI a true (decide_eq_true hge)
    obtain ⟨t, et⟩ : ∃ t, a - 128 = t := ⟨_, rfl⟩
    have ht8 : t < 128 := by omega
    have ht : t < 256 := Nat.lt_trans ht8 (by decide)
    have st := subI a t et hge ha
    have ed : a % 128 = t := by rw [s128 a ha hge, et]
    have m0 := mul1 t ht
    have a0 := add0 t ht
    have em : magN [a] = t := by simp only [magN, ed]
    have hm : m = if true then -(t : Int) else (t : Int) := by
      rw [← emm]
      show (if negN [a] then -(magN [a] : Int) else (magN [a] : Int)) = _
      rw [em, show negN [a] = true from decide_eq_true hge]
    simp (config := {maxSteps := 1000000}) (disch := first | omega | (simp only [List.length_cons, List.length_nil, List.length_append, List.length_drop]; omega)) only [dLoop, gl, cg, i0, n0, u0, i1, n1, u1, i2, n2, u2, i3, n3, u3, xa, st, m0, a0, ↓x_conv, ↓s_len, x_lenS, ↓l_loop, ↓l_succ, ↓l_normal, l_normal, l_exit, l_ret, l_iteN, ↓h_put_get, ↓h_new_get, ↓h_del_get, h_next_put, h_next_new, h_next_del, Nat.add_assoc, Nat.add_eq_left, Nat.left_eq_add, Nat.add_left_cancel_iff, ↓s_load, m_load, ↓m_load1, m_load1, ↓m_st, m_stE, m_storeI, m_storeE, w_zero, w_succ, ↓s_alloc, ↓x_idxA, ↓x_idxS, x_idxAE, x_idxSE, x_addrE, x_idx, x_lenS, ↓s_len, ↓x_buildS, x_buildE, ↓x_P0, ↓x_P1, x_fill0, x_filli, x_fills, x_fillb, c_int, List.length_cons, List.length_nil, List.cons_append, List.drop_succ_cons, List.drop_zero, List.drop_nil, List.nil_append, Int.reduceAdd, Int.reduceToNat, Int.reduceLT, Int.reduceLE, Nat.reduceAdd, Nat.reduceMul, Nat.reduceLeDiff, Int.reduceEq, Int.reduceSub, Int.cast_ofNat_Int, s_resc, s_consR, m_load4, m_store4, s_res0, ↓s_skip, ↓s_ops, ↓s_dops, ↓s_seq, ↓s_cond, ↓s_block, ↓s_exit, ↓s_ret, ↓s_scope, ↓s_nil, ↓s_op, ↓s_opg, ↓s_wanted', ↓s_wantV, s_wantV, s_wantV0, beq_true, beq_false, ↓s_bindS, s_bindS, ↓s_bindE, s_bindE, s_bindE_ret, s_bindE_exit, s_bindE_iteN, s_norm, ↓s_condV, s_condV, s_block_ret, s_block_normal, s_block_exit, s_block_iteN, ↓s_getp, ↓s_getp0, ↓s_get, s_get0, ↓s_con, ↓s_fn, ↓s_os0, ↓s_os1, ↓s_list0, ↓s_list1, ↓s_mov, ↓s_pick, ↓s_pickE, s_pickE, ↓s_bin, ↓s_un, ↓s_minmax, ↓s_call, ↓s_callv, ↓s_callV, ↓s_ext, s_same, b_eql, b_neq, b_lss, b_leq, b_gtr, b_eqlb, b_neqb, b_fnil, b_fnil', b_fnil2, b_fnil2', u_neg, u_not, m_two, s_end, s_end', s_end_iteN, s_res0, s_res1, s_tup1, s_tup2, ↓iteN_true, ↓iteN_false, iteN_true, iteN_false, Nat.zero_add, List.nil_append, List.append_nil, Nat.reduceEqDiff, reduceIte, decide_true, decide_false, Bool.not_true, Bool.not_false, List.getElem?_cons_zero, List.getElem?_cons_succ, Bool.false_eq_true, if_true, if_false, beq_self_eq_true]
    exact fin t true m (Nat.le_of_lt (Nat.lt_trans ht (by decide))) hm _ (by (simp only [s_getp, s_getp0, Nat.reduceEqDiff, decide_false, decide_true, iteN_false, iteN_true]; try rfl)) (by (simp only [s_getp, s_getp0, Nat.reduceEqDiff, decide_false, decide_true, iteN_false, iteN_true]; try rfl)) (by (simp only [s_getp, s_getp0, Nat.reduceEqDiff, decide_false, decide_true, iteN_false, iteN_true]; try rfl))
set_option maxHeartbeats 1000000 in
theorem rd2 (e : E k_purserref11_Decode = some f_purserref11_Decode) (eB : E k_purserref11_Bytes = some f_purserref11_Bytes) (N : Nat) (a b : Nat) (ha : a < 256) (hb : b < 256) (cp : Option Nat) : ∃ h', callX E noX (N + 20) (.fn k_purserref11_Decode) [.slice (some (0, 0)) 2 cp 1] (mkH [(0, ofBytes [a, b])] 1) = some (decV [a, b], h') := by
  rw [← decR_is [a, b] (by simp)]
  rw [f_rdec] at e
  rw [x_cfn e _ _ (Nat.le_of_ble_eq_true rfl) rfl]
  have hball : ∀ x ∈ [a, b], x < 256 := by simp [ha, hb]
  obtain ⟨H0, eH⟩ : ∃ H0, mkH [(0, ofBytes [a, b])] 1 = H0 := ⟨_, rfl⟩
  have gl : H0.get 0 = some (.cells [.int .u8 (a : Int), .int .u8 (b : Int)] .ro) := by rw [← eH]; rfl
  have hnx : H0.next = 1 := by rw [← eH]; rfl
  rw [eH]
  have hs0 : ∀ h', (∀ j, j < H0.next → h'.get j = H0.get j) → b2sV h' (.slice (some (0, 0)) 2 cp 1) = some (.str [a, b]) := by
    intro h' hk
    rw [nx_bs1, hk 0 (by rw [hnx]; exact Nat.one_pos), gl]
    exact nsE_of [a, b] hball .ro 2 rfl
  have fin := fun g neg m hg hm T => d_tail (X := noX) eB (fun _ _ => rfl) (N + 10) [a, b] hball 2 rfl cp (some (0, 0)) H0 hs0 g neg m hg hm T
  obtain ⟨F, eF⟩ : ∃ F, dTail = F := ⟨_, rfl⟩
  rw [eF] at fin ⊢
  obtain ⟨m, emm⟩ : ∃ m, numN [a, b] = m := ⟨_, rfl⟩
  rw [emm]
  have i0 : ∀ e h, binV .add e h (.int .i64 0) (.int .i64 1) = some (.int .i64 1) := fun _ _ => rfl
  have n0 : ∀ e h, binV .sub e h (.int .i64 1) (.int .i64 1) = some (.int .i64 0) := fun _ _ => rfl
  have u0 : ∀ e h, binV .mul e h (.int .i64 1) (.int .i64 256) = some (.int .i64 256) := fun _ _ => rfl
  have i1 : ∀ e h, binV .add e h (.int .i64 1) (.int .i64 1) = some (.int .i64 2) := fun _ _ => rfl
  have n1 : ∀ e h, binV .sub e h (.int .i64 2) (.int .i64 1) = some (.int .i64 1) := fun _ _ => rfl
  have u1 : ∀ e h, binV .mul e h (.int .i64 256) (.int .i64 256) = some (.int .i64 65536) := fun _ _ => rfl
  have i2 : ∀ e h, binV .add e h (.int .i64 2) (.int .i64 1) = some (.int .i64 3) := fun _ _ => rfl
  have n2 : ∀ e h, binV .sub e h (.int .i64 3) (.int .i64 1) = some (.int .i64 2) := fun _ _ => rfl
  have u2 : ∀ e h, binV .mul e h (.int .i64 65536) (.int .i64 256) = some (.int .i64 16777216) := fun _ _ => rfl
  have i3 : ∀ e h, binV .add e h (.int .i64 3) (.int .i64 1) = some (.int .i64 4) := fun _ _ => rfl
  have n3 : ∀ e h, binV .sub e h (.int .i64 4) (.int .i64 1) = some (.int .i64 3) := fun _ _ => rfl
  have u3 : ∀ e h, binV .mul e h (.int .i64 16777216) (.int .i64 256) = some (.int .i64 4294967296) := fun _ _ => rfl
  have xa := cvV a ha
  have xb := cvV b hb
  by_cases hlt : b < 128
  · have cg := geI b false (decide_eq_false (Nat.not_le_of_lt hlt))
    have ed : b % 128 = b := Nat.mod_eq_of_lt hlt
    have m0 := mul1 a ha
    have a0 := add0 a ha
    have m1 : ∀ e h, binV .mul e h (.int .i64 (b : Int)) (.int .i64 256) = some (.int .i64 ((b * 256 : Nat) : Int)) := fun e h => mulI b 256 hb (by decide) e h
    obtain ⟨p1, ep1⟩ : ∃ p, a + b * 256 = p := ⟨_, rfl⟩
    have hp1 := pb2 a b p1 ha hb ep1
    have a1 := addI a (b * 256) p1 ep1 (Nat.lt_trans hp1 (by decide))
    have em : magN [a, b] = p1 := by simp only [magN, ed, ep1]
    have hm : m = if false then -(p1 : Int) else (p1 : Int) := by
      rw [← emm]
      show (if negN [a, b] then -(magN [a, b] : Int) else (magN [a, b] : Int)) = _
      rw [em, show negN [a, b] = false from decide_eq_false (Nat.not_le_of_lt hlt)]
    simp (config := {maxSteps := 1000000}) (disch := first | omega | (simp only [List.length_cons, List.length_nil, List.length_append, List.length_drop]; omega)) only [dLoop, gl, cg, i0, n0, u0, i1, n1, u1, i2, n2, u2, i3, n3, u3, xa, xb, m0, a0, m1, a1, ↓x_conv, ↓s_len, x_lenS, ↓l_loop, ↓l_succ, ↓l_normal, l_normal, l_exit, l_ret, l_iteN, ↓h_put_get, ↓h_new_get, ↓h_del_get, h_next_put, h_next_new, h_next_del, Nat.add_assoc, Nat.add_eq_left, Nat.left_eq_add, Nat.add_left_cancel_iff, ↓s_load, m_load, ↓m_load1, m_load1, ↓m_st, m_stE, m_storeI, m_storeE, w_zero, w_succ, ↓s_alloc, ↓x_idxA, ↓x_idxS, x_idxAE, x_idxSE, x_addrE, x_idx, x_lenS, ↓s_len, ↓x_buildS, x_buildE, ↓x_P0, ↓x_P1, x_fill0, x_filli, x_fills, x_fillb, c_int, List.length_cons, List.length_nil, List.cons_append, List.drop_succ_cons, List.drop_zero, List.drop_nil, List.nil_append, Int.reduceAdd, Int.reduceToNat, Int.reduceLT, Int.reduceLE, Nat.reduceAdd, Nat.reduceMul, Nat.reduceLeDiff, Int.reduceEq, Int.reduceSub, Int.cast_ofNat_Int, s_resc, s_consR, m_load4, m_store4, s_res0, ↓s_skip, ↓s_ops, ↓s_dops, ↓s_seq, ↓s_cond, ↓s_block, ↓s_exit, ↓s_ret, ↓s_scope, ↓s_nil, ↓s_op, ↓s_opg, ↓s_wanted', ↓s_wantV, s_wantV, s_wantV0, beq_true, beq_false, ↓s_bindS, s_bindS, ↓s_bindE, s_bindE, s_bindE_ret, s_bindE_exit, s_bindE_iteN, s_norm, ↓s_condV, s_condV, s_block_ret, s_block_normal, s_block_exit, s_block_iteN, ↓s_getp, ↓s_getp0, ↓s_get, s_get0, ↓s_con, ↓s_fn, ↓s_os0, ↓s_os1, ↓s_list0, ↓s_list1, ↓s_mov, ↓s_pick, ↓s_pickE, s_pickE, ↓s_bin, ↓s_un, ↓s_minmax, ↓s_call, ↓s_callv, ↓s_callV, ↓s_ext, s_same, b_eql, b_neq, b_lss, b_leq, b_gtr, b_eqlb, b_neqb, b_fnil, b_fnil', b_fnil2, b_fnil2', u_neg, u_not, m_two, s_end, s_end', s_end_iteN, s_res0, s_res1, s_tup1, s_tup2, ↓iteN_true, ↓iteN_false, iteN_true, iteN_false, Nat.zero_add, List.nil_append, List.append_nil, Nat.reduceEqDiff, reduceIte, decide_true, decide_false, Bool.not_true, Bool.not_false, List.getElem?_cons_zero, List.getElem?_cons_succ, Bool.false_eq_true, if_true, if_false, beq_self_eq_true]
    exact fin p1 false m (Nat.le_of_lt (Nat.lt_trans hp1 (by decide))) hm _ (by (simp only [s_getp, s_getp0, Nat.reduceEqDiff, decide_false, decide_true, iteN_false, iteN_true]; try rfl)) (by (simp only [s_getp, s_getp0, Nat.reduceEqDiff, decide_false, decide_true, iteN_false, iteN_true]; try rfl)) (by (simp only [s_getp, s_getp0, Nat.reduceEqDiff, decide_false, decide_true, iteN_false, iteN_true]; try rfl))
  · have hge : 128 ≤ b := Nat.le_of_not_lt hlt
    have cg := geI b true (decide_eq_true hge)
    obtain ⟨t, et⟩ : ∃ t, b - 128 = t := ⟨_, rfl⟩
    have ht8 : t < 128 := by omega
    have ht : t < 256 := Nat.lt_trans ht8 (by decide)
    have st := subI b t et hge hb
    have ed : b % 128 = t := by rw [s128 b hb hge, et]
    have m0 := mul1 a ha
    have a0 := add0 a ha
    have m1 : ∀ e h, binV .mul e h (.int .i64 (t : Int)) (.int .i64 256) = some (.int .i64 ((t * 256 : Nat) : Int)) := fun e h => mulI t 256 ht (by decide) e h
    obtain ⟨p1, ep1⟩ : ∃ p, a + t * 256 = p := ⟨_, rfl⟩
    have hp1 := pb2 a t p1 ha ht ep1
    have a1 := addI a (t * 256) p1 ep1 (Nat.lt_trans hp1 (by decide))
    have em : magN [a, b] = p1 := by simp only [magN, ed, ep1]
    have hm : m = if true then -(p1 : Int) else (p1 : Int) := by
      rw [← emm]
      show (if negN [a, b] then -(magN [a, b] : Int) else (magN [a, b] : Int)) = _
      rw [em, show negN [a, b] = true from decide_eq_true hge]
    simp (config := {maxSteps := 1000000}) (disch := first | omega | (simp only [List.length_cons, List.length_nil, List.length_append, List.length_drop]; omega)) only [dLoop, gl, cg, i0, n0, u0, i1, n1, u1, i2, n2, u2, i3, n3, u3, xa, xb, st, m0, a0, m1, a1, ↓x_conv, ↓s_len, x_lenS, ↓l_loop, ↓l_succ, ↓l_normal, l_normal, l_exit, l_ret, l_iteN, ↓h_put_get, ↓h_new_get, ↓h_del_get, h_next_put, h_next_new, h_next_del, Nat.add_assoc, Nat.add_eq_left, Nat.left_eq_add, Nat.add_left_cancel_iff, ↓s_load, m_load, ↓m_load1, m_load1, ↓m_st, m_stE, m_storeI, m_storeE, w_zero, w_succ, ↓s_alloc, ↓x_idxA, ↓x_idxS, x_idxAE, x_idxSE, x_addrE, x_idx, x_lenS, ↓s_len, ↓x_buildS, x_buildE, ↓x_P0, ↓x_P1, x_fill0, x_filli, x_fills, x_fillb, c_int, List.length_cons, List.length_nil, List.cons_append, List.drop_succ_cons, List.drop_zero, List.drop_nil, List.nil_append, Int.reduceAdd, Int.reduceToNat, Int.reduceLT, Int.reduceLE, Nat.reduceAdd, Nat.reduceMul, Nat.reduceLeDiff, Int.reduceEq, Int.reduceSub, Int.cast_ofNat_Int, s_resc, s_consR, m_load4, m_store4, s_res0, ↓s_skip, ↓s_ops, ↓s_dops, ↓s_seq, ↓s_cond, ↓s_block, ↓s_exit, ↓s_ret, ↓s_scope, ↓s_nil, ↓s_op, ↓s_opg, ↓s_wanted', ↓s_wantV, s_wantV, s_wantV0, beq_true, beq_false, ↓s_bindS, s_bindS, ↓s_bindE, s_bindE, s_bindE_ret, s_bindE_exit, s_bindE_iteN, s_norm, ↓s_condV, s_condV, s_block_ret, s_block_normal, s_block_exit, s_block_iteN, ↓s_getp, ↓s_getp0, ↓s_get, s_get0, ↓s_con, ↓s_fn, ↓s_os0, ↓s_os1, ↓s_list0, ↓s_list1, ↓s_mov, ↓s_pick, ↓s_pickE, s_pickE, ↓s_bin, ↓s_un, ↓s_minmax, ↓s_call, ↓s_callv, ↓s_callV, ↓s_ext, s_same, b_eql, b_neq, b_lss, b_leq, b_gtr, b_eqlb, b_neqb, b_fnil, b_fnil', b_fnil2, b_fnil2', u_neg, u_not, m_two, s_end, s_end', s_end_iteN, s_res0, s_res1, s_tup1, s_tup2, ↓iteN_true, ↓iteN_false, iteN_true, iteN_false, Nat.zero_add, List.nil_append, List.append_nil, Nat.reduceEqDiff, reduceIte, decide_true, decide_false, Bool.not_true, Bool.not_false, List.getElem?_cons_zero, List.getElem?_cons_succ, Bool.false_eq_true, if_true, if_false, beq_self_eq_true]
    exact fin p1 true m (Nat.le_of_lt (Nat.lt_trans hp1 (by decide))) hm _ (by (simp only [s_getp, s_getp0, Nat.reduceEqDiff, decide_false, decide_true, iteN_false, iteN_true]; try rfl)) (by (simp only [s_getp, s_getp0, Nat.reduceEqDiff, decide_false, decide_true, iteN_false, iteN_true]; try rfl)) (by (simp only [s_getp, s_getp0, Nat.reduceEqDiff, decide_false, decide_true, iteN_false, iteN_true]; try rfl))
set_option maxHeartbeats 1000000 in
theorem rd3 (e : E k_purserref11_Decode = some f_purserref11_Decode) (eB : E k_purserref11_Bytes = some f_purserref11_Bytes) (N : Nat) (a b c : Nat) (ha : a < 256) (hb : b < 256) (hc : c < 256) (cp : Option Nat) : ∃ h', callX E noX (N + 20) (.fn k_purserref11_Decode) [.slice (some (0, 0)) 3 cp 1] (mkH [(0, ofBytes [a, b, c])] 1) = some (decV [a, b, c], h') := by
  rw [← decR_is [a, b, c] (by simp)]
  rw [f_rdec] at e
  rw [x_cfn e _ _ (Nat.le_of_ble_eq_true rfl) rfl]
  have hball : ∀ x ∈ [a, b, c], x < 256 := by simp [ha, hb, hc]
  obtain ⟨H0, eH⟩ : ∃ H0, mkH [(0, ofBytes [a, b, c])] 1 = H0 := ⟨_, rfl⟩
  have gl : H0.get 0 = some (.cells [.int .u8 (a : Int), .int .u8 (b : Int), .int .u8 (c : Int)] .ro) := by rw [← eH]; rfl
  have hnx : H0.next = 1 := by rw [← eH]; rfl
  rw [eH]
  have hs0 : ∀ h', (∀ j, j < H0.next → h'.get j = H0.get j) → b2sV h' (.slice (some (0, 0)) 3 cp 1) = some (.str [a, b, c]) := by
    intro h' hk
    rw [nx_bs1, hk 0 (by rw [hnx]; exact Nat.one_pos), gl]
    exact nsE_of [a, b, c] hball .ro 3 rfl
  have fin := fun g neg m hg hm T => d_tail (X := noX) eB (fun _ _ => rfl) (N + 10) [a, b, c] hball 3 rfl cp (some (0, 0)) H0 hs0 g neg m hg hm T
  obtain ⟨F, eF⟩ : ∃ F, dTail = F := ⟨_, rfl⟩
  rw [eF] at fin ⊢
  obtain ⟨m, emm⟩ : ∃ m, numN [a, b, c] = m := ⟨_, rfl⟩
  rw [emm]
  have i0 : ∀ e h, binV .add e h (.int .i64 0) (.int .i64 1) = some (.int .i64 1) := fun _ _ => rfl
  have n0 : ∀ e h, binV .sub e h (.int .i64 1) (.int .i64 1) = some (.int .i64 0) := fun _ _ => rfl
  have u0 : ∀ e h, binV .mul e h (.int .i64 1) (.int .i64 256) = some (.int .i64 256) := fun _ _ => rfl
  have i1 : ∀ e h, binV .add e h (.int .i64 1) (.int .i64 1) = some (.int .i64 2) := fun _ _ => rfl
  have n1 : ∀ e h, binV .sub e h (.int .i64 2) (.int .i64 1) = some (.int .i64 1) := fun _ _ => rfl
  have u1 : ∀ e h, binV .mul e h (.int .i64 256) (.int .i64 256) = some (.int .i64 65536) := fun _ _ => rfl
  have i2 : ∀ e h, binV .add e h (.int .i64 2) (.int .i64 1) = some (.int .i64 3) := fun _ _ => rfl
  have n2 : ∀ e h, binV .sub e h (.int .i64 3) (.int .i64 1) = some (.int .i64 2) := fun _ _ => rfl
  have u2 : ∀ e h, binV .mul e h (.int .i64 65536) (.int .i64 256) = some (.int .i64 16777216) := fun _ _ => rfl
  have i3 : ∀ e h, binV .add e h (.int .i64 3) (.int .i64 1) = some (.int .i64 4) := fun _ _ => rfl
  have n3 : ∀ e h, binV .sub e h (.int .i64 4) (.int .i64 1) = some (.int .i64 3) := fun _ _ => rfl
  have u3 : ∀ e h, binV .mul e h (.int .i64 16777216) (.int .i64 256) = some (.int .i64 4294967296) := fun _ _ => rfl
  have xa := cvV a ha
  have xb := cvV b hb
  have xc := cvV c hc
  by_cases hlt : c < 128
  · have cg := geI c false (decide_eq_false (Nat.not_le_of_lt hlt))
    have ed : c % 128 = c := Nat.mod_eq_of_lt hlt
    have m0 := mul1 a ha
    have a0 := add0 a ha
    have m1 : ∀ e h, binV .mul e h (.int .i64 (b : Int)) (.int .i64 256) = some (.int .i64 ((b * 256 : Nat) : Int)) := fun e h => mulI b 256 hb (by decide) e h
    obtain ⟨p1, ep1⟩ : ∃ p, a + b * 256 = p := ⟨_, rfl⟩
    have hp1 := pb2 a b p1 ha hb ep1
    have a1 := addI a (b * 256) p1 ep1 (Nat.lt_trans hp1 (by decide))
    have m2 : ∀ e h, binV .mul e h (.int .i64 (c : Int)) (.int .i64 65536) = some (.int .i64 ((c * 65536 : Nat) : Int)) := fun e h => mulI c 65536 hc (by decide) e h
    obtain ⟨p2, ep2⟩ : ∃ p, p1 + c * 65536 = p := ⟨_, rfl⟩
    have hp2 := pb3 p1 c p2 hp1 hc ep2
    have a2 := addI p1 (c * 65536) p2 ep2 (Nat.lt_trans hp2 (by decide))
    have em : magN [a, b, c] = p2 := by simp only [magN, ed, ep1, ep2]
    have hm : m = if false then -(p2 : Int) else (p2 : Int) := by
      rw [← emm]
      show (if negN [a, b, c] then -(magN [a, b, c] : Int) else (magN [a, b, c] : Int)) = _
      rw [em, show negN [a, b, c] = false from decide_eq_false (Nat.not_le_of_lt hlt)]
    simp (config := {maxSteps := 1000000}) (disch := first | omega | (simp only [List.length_cons, List.length_nil, List.length_append, List.length_drop]; omega)) only [dLoop, gl, cg, i0, n0, u0, i1, n1, u1, i2, n2, u2, i3, n3, u3, xa, xb, xc, m0, a0, m1, a1, m2, a2, ↓x_conv, ↓s_len, x_lenS, ↓l_loop, ↓l_succ, ↓l_normal, l_normal, l_exit, l_ret, l_iteN, ↓h_put_get, ↓h_new_get, ↓h_del_get, h_next_put, h_next_new, h_next_del, Nat.add_assoc, Nat.add_eq_left, Nat.left_eq_add, Nat.add_left_cancel_iff, ↓s_load, m_load, ↓m_load1, m_load1, ↓m_st, m_stE, m_storeI, m_storeE, w_zero, w_succ, ↓s_alloc, ↓x_idxA, ↓x_idxS, x_idxAE, x_idxSE, x_addrE, x_idx, x_lenS, ↓s_len, ↓x_buildS, x_buildE, ↓x_P0, ↓x_P1, x_fill0, x_filli, x_fills, x_fillb, c_int, List.length_cons, List.length_nil, List.cons_append, List.drop_succ_cons, List.drop_zero, List.drop_nil, List.nil_append, Int.reduceAdd, Int.reduceToNat, Int.reduceLT, Int.reduceLE, Nat.reduceAdd, Nat.reduceMul, Nat.reduceLeDiff, Int.reduceEq, Int.reduceSub, Int.cast_ofNat_Int, s_resc, s_consR, m_load4, m_store4, s_res0, ↓s_skip, ↓s_ops, ↓s_dops, ↓s_seq, ↓s_cond, ↓s_block, ↓s_exit, ↓s_ret, ↓s_scope, ↓s_nil, ↓s_op, ↓s_opg, ↓s_wanted', ↓s_wantV, s_wantV, s_wantV0, beq_true, beq_false, ↓s_bindS, s_bindS, ↓s_bindE, s_bindE, s_bindE_ret, s_bindE_exit, s_bindE_iteN, s_norm, ↓s_condV, s_condV, s_block_ret, s_block_normal, s_block_exit, s_block_iteN, ↓s_getp, ↓s_getp0, ↓s_get, s_get0, ↓s_con, ↓s_fn, ↓s_os0, ↓s_os1, ↓s_list0, ↓s_list1, ↓s_mov, ↓s_pick, ↓s_pickE, s_pickE, ↓s_bin, ↓s_un, ↓s_minmax, ↓s_call, ↓s_callv, ↓s_callV, ↓s_ext, s_same, b_eql, b_neq, b_lss, b_leq, b_gtr, b_eqlb, b_neqb, b_fnil, b_fnil', b_fnil2, b_fnil2', u_neg, u_not, m_two, s_end, s_end', s_end_iteN, s_res0, s_res1, s_tup1, s_tup2, ↓iteN_true, ↓iteN_false, iteN_true, iteN_false, Nat.zero_add, List.nil_append, List.append_nil, Nat.reduceEqDiff, reduceIte, decide_true, decide_false, Bool.not_true, Bool.not_false, List.getElem?_cons_zero, List.getElem?_cons_succ, Bool.false_eq_true, if_true, if_false, beq_self_eq_true]
    exact fin p2 false m (Nat.le_of_lt (Nat.lt_trans hp2 (by decide))) hm _ (by (simp only [s_getp, s_getp0, Nat.reduceEqDiff, decide_false, decide_true, iteN_false, iteN_true]; try rfl)) (by (simp only [s_getp, s_getp0, Nat.reduceEqDiff, decide_false, decide_true, iteN_false, iteN_true]; try rfl)) (by (simp only [s_getp, s_getp0, Nat.reduceEqDiff, decide_false, decide_true, iteN_false, iteN_true]; try rfl))
  · have hge : 128 ≤ c := Nat.le_of_not_lt hlt
    have cg := geI c true (decide_eq_true hge)
    obtain ⟨t, et⟩ : ∃ t, c - 128 = t := ⟨_, rfl⟩
    have ht8 : t < 128 := by omega
    have ht : t < 256 := Nat.lt_trans ht8 (by decide)
    have st := subI c t et hge hc
    have ed : c % 128 = t := by rw [s128 c hc hge, et]
    have m0 := mul1 a ha
    have a0 := add0 a ha
    have m1 : ∀ e h, binV .mul e h (.int .i64 (b : Int)) (.int .i64 256) = some (.int .i64 ((b * 256 : Nat) : Int)) := fun e h => mulI b 256 hb (by decide) e h
    obtain ⟨p1, ep1⟩ : ∃ p, a + b * 256 = p := ⟨_, rfl⟩
    have hp1 := pb2 a b p1 ha hb ep1
    have a1 := addI a (b * 256) p1 ep1 (Nat.lt_trans hp1 (by decide))
    have m2 : ∀ e h, binV .mul e h (.int .i64 (t : Int)) (.int .i64 65536) = some (.int .i64 ((t * 65536 : Nat) : Int)) := fun e h => mulI t 65536 ht (by decide) e h
    obtain ⟨p2, ep2⟩ : ∃ p, p1 + t * 65536 = p := ⟨_, rfl⟩
    have hp2 := pb3 p1 t p2 hp1 ht ep2
    have a2 := addI p1 (t * 65536) p2 ep2 (Nat.lt_trans hp2 (by decide))
    have em : magN [a, b, c] = p2 := by simp only [magN, ed, ep1, ep2]
    have hm : m = if true then -(p2 : Int) else (p2 : Int) := by
      rw [← emm]
      show (if negN [a, b, c] then -(magN [a, b, c] : Int) else (magN [a, b, c] : Int)) = _
      rw [em, show negN [a, b, c] = true from decide_eq_true hge]
    simp (config := {maxSteps := 1000000}) (disch := first | omega | (simp only [List.length_cons, List.length_nil, List.length_append, List.length_drop]; omega)) only [dLoop, gl, cg, i0, n0, u0, i1, n1, u1, i2, n2, u2, i3, n3, u3, xa, xb, xc, st, m0, a0, m1, a1, m2, a2, ↓x_conv, ↓s_len, x_lenS, ↓l_loop, ↓l_succ, ↓l_normal, l_normal, l_exit, l_ret, l_iteN, ↓h_put_get, ↓h_new_get, ↓h_del_get, h_next_put, h_next_new, h_next_del, Nat.add_assoc, Nat.add_eq_left, Nat.left_eq_add, Nat.add_left_cancel_iff, ↓s_load, m_load, ↓m_load1, m_load1, ↓m_st, m_stE, m_storeI, m_storeE, w_zero, w_succ, ↓s_alloc, ↓x_idxA, ↓x_idxS, x_idxAE, x_idxSE, x_addrE, x_idx, x_lenS, ↓s_len, ↓x_buildS, x_buildE, ↓x_P0, ↓x_P1, x_fill0, x_filli, x_fills, x_fillb, c_int, List.length_cons, List.length_nil, List.cons_append, List.drop_succ_cons, List.drop_zero, List.drop_nil, List.nil_append, Int.reduceAdd, Int.reduceToNat, Int.reduceLT, Int.reduceLE, Nat.reduceAdd, Nat.reduceMul, Nat.reduceLeDiff, Int.reduceEq, Int.reduceSub, Int.cast_ofNat_Int, s_resc, s_consR, m_load4, m_store4, s_res0, ↓s_skip, ↓s_ops, ↓s_dops, ↓s_seq, ↓s_cond, ↓s_block, ↓s_exit, ↓s_ret, ↓s_scope, ↓s_nil, ↓s_op, ↓s_opg, ↓s_wanted', ↓s_wantV, s_wantV, s_wantV0, beq_true, beq_false, ↓s_bindS, s_bindS, ↓s_bindE, s_bindE, s_bindE_ret, s_bindE_exit, s_bindE_iteN, s_norm, ↓s_condV, s_condV, s_block_ret, s_block_normal, s_block_exit, s_block_iteN, ↓s_getp, ↓s_getp0, ↓s_get, s_get0, ↓s_con, ↓s_fn, ↓s_os0, ↓s_os1, ↓s_list0, ↓s_list1, ↓s_mov, ↓s_pick, ↓s_pickE, s_pickE, ↓s_bin, ↓s_un, ↓s_minmax, ↓s_call, ↓s_callv, ↓s_callV, ↓s_ext, s_same, b_eql, b_neq, b_lss, b_leq, b_gtr, b_eqlb, b_neqb, b_fnil, b_fnil', b_fnil2, b_fnil2', u_neg, u_not, m_two, s_end, s_end', s_end_iteN, s_res0, s_res1, s_tup1, s_tup2, ↓iteN_true, ↓iteN_false, iteN_true, iteN_false, Nat.zero_add, List.nil_append, List.append_nil, Nat.reduceEqDiff, reduceIte, decide_true, decide_false, Bool.not_true, Bool.not_false, List.getElem?_cons_zero, List.getElem?_cons_succ, Bool.false_eq_true, if_true, if_false, beq_self_eq_true]
    exact fin p2 true m (Nat.le_of_lt (Nat.lt_trans hp2 (by decide))) hm _ (by (simp only [s_getp, s_getp0, Nat.reduceEqDiff, decide_false, decide_true, iteN_false, iteN_true]; try rfl)) (by (simp only [s_getp, s_getp0, Nat.reduceEqDiff, decide_false, decide_true, iteN_false, iteN_true]; try rfl)) (by (simp only [s_getp, s_getp0, Nat.reduceEqDiff, decide_false, decide_true, iteN_false, iteN_true]; try rfl))
set_option maxHeartbeats 1000000 in
theorem rd4 (e : E k_purserref11_Decode = some f_purserref11_Decode) (eB : E k_purserref11_Bytes = some f_purserref11_Bytes) (N : Nat) (a b c d : Nat) (ha : a < 256) (hb : b < 256) (hc : c < 256) (hd : d < 256) (cp : Option Nat) : ∃ h', callX E noX (N + 20) (.fn k_purserref11_Decode) [.slice (some (0, 0)) 4 cp 1] (mkH [(0, ofBytes [a, b, c, d])] 1) = some (decV [a, b, c, d], h') := by
  rw [← decR_is [a, b, c, d] (by simp)]
  rw [f_rdec] at e
  rw [x_cfn e _ _ (Nat.le_of_ble_eq_true rfl) rfl]
  have hball : ∀ x ∈ [a, b, c, d], x < 256 := by simp [ha, hb, hc, hd]
  obtain ⟨H0, eH⟩ : ∃ H0, mkH [(0, ofBytes [a, b, c, d])] 1 = H0 := ⟨_, rfl⟩
  have gl : H0.get 0 = some (.cells [.int .u8 (a : Int), .int .u8 (b : Int), .int .u8 (c : Int), .int .u8 (d : Int)] .ro) := by rw [← eH]; rfl
  have hnx : H0.next = 1 := by rw [← eH]; rfl
  rw [eH]
  have hs0 : ∀ h', (∀ j, j < H0.next → h'.get j = H0.get j) → b2sV h' (.slice (some (0, 0)) 4 cp 1) = some (.str [a, b, c, d]) := by
    intro h' hk
    rw [nx_bs1, hk 0 (by rw [hnx]; exact Nat.one_pos), gl]
    exact nsE_of [a, b, c, d] hball .ro 4 rfl
  have fin := fun g neg m hg hm T => d_tail (X := noX) eB (fun _ _ => rfl) (N + 10) [a, b, c, d] hball 4 rfl cp (some (0, 0)) H0 hs0 g neg m hg hm T
  obtain ⟨F, eF⟩ : ∃ F, dTail = F := ⟨_, rfl⟩
  rw [eF] at fin ⊢
  obtain ⟨m, emm⟩ : ∃ m, numN [a, b, c, d] = m := ⟨_, rfl⟩
  rw [emm]
  have i0 : ∀ e h, binV .add e h (.int .i64 0) (.int .i64 1) = some (.int .i64 1) := fun _ _ => rfl
  have n0 : ∀ e h, binV .sub e h (.int .i64 1) (.int .i64 1) = some (.int .i64 0) := fun _ _ => rfl
  have u0 : ∀ e h, binV .mul e h (.int .i64 1) (.int .i64 256) = some (.int .i64 256) := fun _ _ => rfl
  have i1 : ∀ e h, binV .add e h (.int .i64 1) (.int .i64 1) = some (.int .i64 2) := fun _ _ => rfl
  have n1 : ∀ e h, binV .sub e h (.int .i64 2) (.int .i64 1) = some (.int .i64 1) := fun _ _ => rfl
  have u1 : ∀ e h, binV .mul e h (.int .i64 256) (.int .i64 256) = some (.int .i64 65536) := fun _ _ => rfl
  have i2 : ∀ e h, binV .add e h (.int .i64 2) (.int .i64 1) = some (.int .i64 3) := fun _ _ => rfl
  have n2 : ∀ e h, binV .sub e h (.int .i64 3) (.int .i64 1) = some (.int .i64 2) := fun _ _ => rfl
  have u2 : ∀ e h, binV .mul e h (.int .i64 65536) (.int .i64 256) = some (.int .i64 16777216) := fun _ _ => rfl
  have i3 : ∀ e h, binV .add e h (.int .i64 3) (.int .i64 1) = some (.int .i64 4) := fun _ _ => rfl
  have n3 : ∀ e h, binV .sub e h (.int .i64 4) (.int .i64 1) = some (.int .i64 3) := fun _ _ => rfl
  have u3 : ∀ e h, binV .mul e h (.int .i64 16777216) (.int .i64 256) = some (.int .i64 4294967296) := fun _ _ => rfl
  have xa := cvV a ha
  have xb := cvV b hb
  have xc := cvV c hc
  have xd := cvV d hd
  by_cases hlt : d < 128
  · have cg := geI d false (decide_eq_false (Nat.not_le_of_lt hlt))
    have ed : d % 128 = d := Nat.mod_eq_of_lt hlt
    have m0 := mul1 a ha
    have a0 := add0 a ha
    have m1 : ∀ e h, binV .mul e h (.int .i64 (b : Int)) (.int .i64 256) = some (.int .i64 ((b * 256 : Nat) : Int)) := fun e h => mulI b 256 hb (by decide) e h
    obtain ⟨p1, ep1⟩ : ∃ p, a + b * 256 = p := ⟨_, rfl⟩
    have hp1 := pb2 a b p1 ha hb ep1
    have a1 := addI a (b * 256) p1 ep1 (Nat.lt_trans hp1 (by decide))
    have m2 : ∀ e h, binV .mul e h (.int .i64 (c : Int)) (.int .i64 65536) = some (.int .i64 ((c * 65536 : Nat) : Int)) := fun e h => mulI c 65536 hc (by decide) e h
    obtain ⟨p2, ep2⟩ : ∃ p, p1 + c * 65536 = p := ⟨_, rfl⟩
    have hp2 := pb3 p1 c p2 hp1 hc ep2
    have a2 := addI p1 (c * 65536) p2 ep2 (Nat.lt_trans hp2 (by decide))
    have m3 : ∀ e h, binV .mul e h (.int .i64 (d : Int)) (.int .i64 16777216) = some (.int .i64 ((d * 16777216 : Nat) : Int)) := fun e h => mulI d 16777216 hd (by decide) e h
    obtain ⟨p3, ep3⟩ : ∃ p, p2 + d * 16777216 = p := ⟨_, rfl⟩
    have hp3 := pb4 p2 d p3 hp2 hlt ep3
    have a3 := addI p2 (d * 16777216) p3 ep3 (Nat.lt_of_le_of_lt hp3 (by decide))
    have em : magN [a, b, c, d] = p3 := by simp only [magN, ed, ep1, ep2, ep3]
    have hm : m = if false then -(p3 : Int) else (p3 : Int) := by
      rw [← emm]
      show (if negN [a, b, c, d] then -(magN [a, b, c, d] : Int) else (magN [a, b, c, d] : Int)) = _
      rw [em, show negN [a, b, c, d] = false from decide_eq_false (Nat.not_le_of_lt hlt)]
    simp (config := {maxSteps := 1000000}) (disch := first | omega | (simp only [List.length_cons, List.length_nil, List.length_append, List.length_drop]; omega)) only [dLoop, gl, cg, i0, n0, u0, i1, n1, u1, i2, n2, u2, i3, n3, u3, xa, xb, xc, xd, m0, a0, m1, a1, m2, a2, m3, a3, ↓x_conv, ↓s_len, x_lenS, ↓l_loop, ↓l_succ, ↓l_normal, l_normal, l_exit, l_ret, l_iteN, ↓h_put_get, ↓h_new_get, ↓h_del_get, h_next_put, h_next_new, h_next_del, Nat.add_assoc, Nat.add_eq_left, Nat.left_eq_add, Nat.add_left_cancel_iff, ↓s_load, m_load, ↓m_load1, m_load1, ↓m_st, m_stE, m_storeI, m_storeE, w_zero, w_succ, ↓s_alloc, ↓x_idxA, ↓x_idxS, x_idxAE, x_idxSE, x_addrE, x_idx, x_lenS, ↓s_len, ↓x_buildS, x_buildE, ↓x_P0, ↓x_P1, x_fill0, x_filli, x_fills, x_fillb, c_int, List.length_cons, List.length_nil, List.cons_append, List.drop_succ_cons, List.drop_zero, List.drop_nil, List.nil_append, Int.reduceAdd, Int.reduceToNat, Int.reduceLT, Int.reduceLE, Nat.reduceAdd, Nat.reduceMul, Nat.reduceLeDiff, Int.reduceEq, Int.reduceSub, Int.cast_ofNat_Int, s_resc, s_consR, m_load4, m_store4, s_res0, ↓s_skip, ↓s_ops, ↓s_dops, ↓s_seq, ↓s_cond, ↓s_block, ↓s_exit, ↓s_ret, ↓s_scope, ↓s_nil, ↓s_op, ↓s_opg, ↓s_wanted', ↓s_wantV, s_wantV, s_wantV0, beq_true, beq_false, ↓s_bindS, s_bindS, ↓s_bindE, s_bindE, s_bindE_ret, s_bindE_exit, s_bindE_iteN, s_norm, ↓s_condV, s_condV, s_block_ret, s_block_normal, s_block_exit, s_block_iteN, ↓s_getp, ↓s_getp0, ↓s_get, s_get0, ↓s_con, ↓s_fn, ↓s_os0, ↓s_os1, ↓s_list0, ↓s_list1, ↓s_mov, ↓s_pick, ↓s_pickE, s_pickE, ↓s_bin, ↓s_un, ↓s_minmax, ↓s_call, ↓s_callv, ↓s_callV, ↓s_ext, s_same, b_eql, b_neq, b_lss, b_leq, b_gtr, b_eqlb, b_neqb, b_fnil, b_fnil', b_fnil2, b_fnil2', u_neg, u_not, m_two, s_end, s_end', s_end_iteN, s_res0, s_res1, s_tup1, s_tup2, ↓iteN_true, ↓iteN_false, iteN_true, iteN_false, Nat.zero_add, List.nil_append, List.append_nil, Nat.reduceEqDiff, reduceIte, decide_true, decide_false, Bool.not_true, Bool.not_false, List.getElem?_cons_zero, List.getElem?_cons_succ, Bool.false_eq_true, if_true, if_false, beq_self_eq_true]
    exact fin p3 false m (hp3) hm _ (by (simp only [s_getp, s_getp0, Nat.reduceEqDiff, decide_false, decide_true, iteN_false, iteN_true]; try rfl)) (by (simp only [s_getp, s_getp0, Nat.reduceEqDiff, decide_false, decide_true, iteN_false, iteN_true]; try rfl)) (by (simp only [s_getp, s_getp0, Nat.reduceEqDiff, decide_false, decide_true, iteN_false, iteN_true]; try rfl))
  · have hge : 128 ≤ d := Nat.le_of_not_lt hlt
    have cg := geI d true (decide_eq_true hge)
    obtain ⟨t, et⟩ : ∃ t, d - 128 = t := ⟨_, rfl⟩
    have ht8 : t < 128 := by omega
    have ht : t < 256 := Nat.lt_trans ht8 (by decide)
    have st := subI d t et hge hd
    have ed : d % 128 = t := by rw [s128 d hd hge, et]
    have m0 := mul1 a ha
    have a0 := add0 a ha
    have m1 : ∀ e h, binV .mul e h (.int .i64 (b : Int)) (.int .i64 256) = some (.int .i64 ((b * 256 : Nat) : Int)) := fun e h => mulI b 256 hb (by decide) e h
    obtain ⟨p1, ep1⟩ : ∃ p, a + b * 256 = p := ⟨_, rfl⟩
    have hp1 := pb2 a b p1 ha hb ep1
    have a1 := addI a (b * 256) p1 ep1 (Nat.lt_trans hp1 (by decide))
    have m2 : ∀ e h, binV .mul e h (.int .i64 (c : Int)) (.int .i64 65536) = some (.int .i64 ((c * 65536 : Nat) : Int)) := fun e h => mulI c 65536 hc (by decide) e h
    obtain ⟨p2, ep2⟩ : ∃ p, p1 + c * 65536 = p := ⟨_, rfl⟩
    have hp2 := pb3 p1 c p2 hp1 hc ep2
    have a2 := addI p1 (c * 65536) p2 ep2 (Nat.lt_trans hp2 (by decide))
    have m3 : ∀ e h, binV .mul e h (.int .i64 (t : Int)) (.int .i64 16777216) = some (.int .i64 ((t * 16777216 : Nat) : Int)) := fun e h => mulI t 16777216 ht (by decide) e h
    obtain ⟨p3, ep3⟩ : ∃ p, p2 + t * 16777216 = p := ⟨_, rfl⟩
    have hp3 := pb4 p2 t p3 hp2 ht8 ep3
    have a3 := addI p2 (t * 16777216) p3 ep3 (Nat.lt_of_le_of_lt hp3 (by decide))
    have em : magN [a, b, c, d] = p3 := by simp only [magN, ed, ep1, ep2, ep3]
    have hm : m = if true then -(p3 : Int) else (p3 : Int) := by
      rw [← emm]
      show (if negN [a, b, c, d] then -(magN [a, b, c, d] : Int) else (magN [a, b, c, d] : Int)) = _
      rw [em, show negN [a, b, c, d] = true from decide_eq_true hge]
    simp (config := {maxSteps := 1000000}) (disch := first | omega | (simp only [List.length_cons, List.length_nil, List.length_append, List.length_drop]; omega)) only [dLoop, gl, cg, i0, n0, u0, i1, n1, u1, i2, n2, u2, i3, n3, u3, xa, xb, xc, xd, st, m0, a0, m1, a1, m2, a2, m3, a3, ↓x_conv, ↓s_len, x_lenS, ↓l_loop, ↓l_succ, ↓l_normal, l_normal, l_exit, l_ret, l_iteN, ↓h_put_get, ↓h_new_get, ↓h_del_get, h_next_put, h_next_new, h_next_del, Nat.add_assoc, Nat.add_eq_left, Nat.left_eq_add, Nat.add_left_cancel_iff, ↓s_load, m_load, ↓m_load1, m_load1, ↓m_st, m_stE, m_storeI, m_storeE, w_zero, w_succ, ↓s_alloc, ↓x_idxA, ↓x_idxS, x_idxAE, x_idxSE, x_addrE, x_idx, x_lenS, ↓s_len, ↓x_buildS, x_buildE, ↓x_P0, ↓x_P1, x_fill0, x_filli, x_fills, x_fillb, c_int, List.length_cons, List.length_nil, List.cons_append, List.drop_succ_cons, List.drop_zero, List.drop_nil, List.nil_append, Int.reduceAdd, Int.reduceToNat, Int.reduceLT, Int.reduceLE, Nat.reduceAdd, Nat.reduceMul, Nat.reduceLeDiff, Int.reduceEq, Int.reduceSub, Int.cast_ofNat_Int, s_resc, s_consR, m_load4, m_store4, s_res0, ↓s_skip, ↓s_ops, ↓s_dops, ↓s_seq, ↓s_cond, ↓s_block, ↓s_exit, ↓s_ret, ↓s_scope, ↓s_nil, ↓s_op, ↓s_opg, ↓s_wanted', ↓s_wantV, s_wantV, s_wantV0, beq_true, beq_false, ↓s_bindS, s_bindS, ↓s_bindE, s_bindE, s_bindE_ret, s_bindE_exit, s_bindE_iteN, s_norm, ↓s_condV, s_condV, s_block_ret, s_block_normal, s_block_exit, s_block_iteN, ↓s_getp, ↓s_getp0, ↓s_get, s_get0, ↓s_con, ↓s_fn, ↓s_os0, ↓s_os1, ↓s_list0, ↓s_list1, ↓s_mov, ↓s_pick, ↓s_pickE, s_pickE, ↓s_bin, ↓s_un, ↓s_minmax, ↓s_call, ↓s_callv, ↓s_callV, ↓s_ext, s_same, b_eql, b_neq, b_lss, b_leq, b_gtr, b_eqlb, b_neqb, b_fnil, b_fnil', b_fnil2, b_fnil2', u_neg, u_not, m_two, s_end, s_end', s_end_iteN, s_res0, s_res1, s_tup1, s_tup2, ↓iteN_true, ↓iteN_false, iteN_true, iteN_false, Nat.zero_add, List.nil_append, List.append_nil, Nat.reduceEqDiff, reduceIte, decide_true, decide_false, Bool.not_true, Bool.not_false, List.getElem?_cons_zero, List.getElem?_cons_succ, Bool.false_eq_true, if_true, if_false, beq_self_eq_true]
    exact fin p3 true m (hp3) hm _ (by (simp only [s_getp, s_getp0, Nat.reduceEqDiff, decide_false, decide_true, iteN_false, iteN_true]; try rfl)) (by (simp only [s_getp, s_getp0, Nat.reduceEqDiff, decide_false, decide_true, iteN_false, iteN_true]; try rfl)) (by (simp only [s_getp, s_getp0, Nat.reduceEqDiff, decide_false, decide_true, iteN_false, iteN_true]; try rfl))
theorem rdecX_ok {P : Program} {g : Gn} (hE : Link P g E) (e : E k_purserref11_Decode = some f_purserref11_Decode) (eB : E k_purserref11_Bytes = some f_purserref11_Bytes) : QOk P g (bytesX k_purserref11_Decode decS) := by
  refine bytesX_ok (callX_ok hE noX_ok 20) ?_
  intro l v hs
  unfold decS at hs
  split at hs
  · rename_i hb
    cases hs
    rw [byt_iff] at hb
    refine ⟨by unfold decV; split <;> rfl, ?_, ?_⟩
    · intro h0 a c z
      subst h0
      exact rd0 e eB 0 a c z _
    · intro hne cp
      by_cases hl : l.length ≤ 4
      · match l, hb, hl, hne with
        | [a], hb, _, _ => exact rd1 e eB 0 a (hb a (by simp)) cp
        | [a, b], hb, _, _ => exact rd2 e eB 0 a b (hb a (by simp)) (hb b (by simp)) cp
        | [a, b, c], hb, _, _ => exact rd3 e eB 0 a b c (hb a (by simp)) (hb b (by simp)) (hb c (by simp)) cp
        | [a, b, c, d], hb, _, _ => exact rd4 e eB 0 a b c d (hb a (by simp)) (hb b (by simp)) (hb c (by simp)) (hb d (by simp)) cp
        | _ :: _ :: _ :: _ :: _ :: _, _, hl, _ => exact absurd hl (by simp)
      · have : decV l = .tup [.int .i64 0, .int .i64 110] := by unfold decV; rw [if_neg (fun h => hl h.1)]
        rw [this]
        exact ⟨_, rd_big e 19 l.length (by omega) (some (0, 0)) cp 1 _⟩
  · cases hs
end Go.Eng
