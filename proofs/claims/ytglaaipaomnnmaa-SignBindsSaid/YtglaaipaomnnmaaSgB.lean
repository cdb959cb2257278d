/- What functions of the program come to: own work. -/
import Derived.Test.YtglaaipaomnnmaaSgA
namespace Go.Eng
open Go
variable {E : Nat → Option Fn} {X : Orc}
set_option linter.unusedSimpArgs false
set_option linter.unusedVariables false
/-- what is asked of the pieces that lie in a list -/
structure Mt (h : H) (q n : Nat) (cs : List V) (v : Nat → V) (L : Nat → List Nat) : Prop where
  gq : ∃ m, h.get q = some (.cells cs m)
  cell : ∀ i, i < n → cs[i]? = some (v i)
  str : ∀ i, i < n → b2sV h (v i) = some (.str (L i))
  rd : ∀ i, i < n → rdB h (v i) = some (L i)
  len : ∀ i, i < n → (L i).length ≤ 100000
  sl : ∀ i, ∃ a l c e, v i = .slice a l c e
theorem vbeq_slice (a : Option (Nat × Nat)) (l : Nat) (c : Option Nat) (e : Nat) : V.beq (.slice a l c e) (.slice a l c e) = true := by unfold V.beq; simp
def pairB (L : Nat → List Nat) (i k : Nat) : Bool := !decide (L i = L k) && decide (shaV (L i) = shaV (L k))
structure MtI (q n : Nat) (cap : Option Nat) (i k : Nat) (T : Tr V) : Prop where
  t0 : evO T (.t 0) = .slice (some (q, 0)) n cap 1
  t3 : evO T (.t 3) = .int .i64 (i : Int)
  t4 : evO T (.t 4) = .int .i64 (k : Int)
  t6 : evO T (.t 6) = .int .i64 (n : Int)
  t7 : evO T (.t 7) = .int .i64 (i : Int)
theorem meet_in (hx : HasOf X) (N g0 q n : Nat) (hn : n < 1000) (cap : Option Nat) (cs : List V) (v : Nat → V) (L : Nat → List Nat) (h : H) (M : Mt h q n cs v L) (i : Nat) (hi : i < n) : ∀ (j k : Nat), k + j = i → ∀ g, j < g → ∀ T, MtI q n cap i k T →
    (∃ T', loopN (evC (callX E X (N + 1)) 40 g0 none L_purserlaw09_meet_0) g ⟨T, [], h⟩ = some (.ret, ⟨T', [], h⟩) ∧ evO T' (.t 2) = .bool true ∧ ∃ k', k' < i ∧ pairB L i k' = true) ∨
    (∃ T', loopN (evC (callX E X (N + 1)) 40 g0 none L_purserlaw09_meet_0) g ⟨T, [], h⟩ = some (.exit 2, ⟨T', [], h⟩) ∧ MtI q n cap i i T' ∧ ∀ k', k ≤ k' → k' < i → pairB L i k' = false) := by
  intro j
  induction j with
  | zero =>
    intro k hk g hg T I
    obtain ⟨g, rfl⟩ : ∃ x, g = x + 1 := ⟨g - 1, by omega⟩
    obtain rfl : k = i := by omega
    obtain ⟨t0, t3, t4, t6, t7⟩ := I
    have c0 : decide ((k : Int) < (k : Int)) = false := decide_eq_false (by omega)
    right
    rw [l_succ]
    refine ⟨_, by
      simp (config := {maxSteps := 2000000}) (disch := first | omega | (simp only [List.length_cons, List.length_nil, List.length_append, List.length_drop]; omega)) only [L_purserlaw09_meet_0, t3, t4, c0, ↓b_xor32, ↓b_and32, ↓b_or32, ↓u_not32, b_xor32, b_and32, b_or32, u_not32, w32ad, ↓x_conv, x_convV, ↓x_fieldAddr, x_fieldV, ↓s_nilchk, x_nilchk, Nat.zero_add, Nat.add_zero, Nat.mul_one, ↓l_loop, ↓l_succ, ↓l_normal, l_normal, l_exit, l_ret, l_iteN, ↓h_put_get, ↓h_new_get, ↓h_del_get, h_next_put, h_next_new, h_next_del, Nat.add_assoc, Nat.add_eq_left, Nat.left_eq_add, Nat.add_left_cancel_iff, ↓s_load, m_load, ↓m_load1, m_load1, ↓m_st, m_stE, m_storeI, m_storeE, w_zero, w_succ, ↓s_alloc, ↓x_idxA, ↓x_idxS, x_idxAE, x_idxSE, x_addrE, x_idx, x_lenS, ↓s_len, ↓x_buildS, x_buildE, ↓x_P0, ↓x_P1, x_fill0, x_filli, x_fills, x_fillb, c_int, List.length_cons, List.length_nil, List.cons_append, List.drop_succ_cons, List.drop_zero, List.drop_nil, List.nil_append, Int.reduceAdd, Int.reduceToNat, Int.reduceLT, Int.reduceLE, Nat.reduceAdd, Nat.reduceMul, Nat.reduceLeDiff, Int.reduceEq, Int.reduceSub, Int.cast_ofNat_Int, s_resc, s_consR, m_load4, m_store4, s_res0, ↓s_skip, ↓s_ops, ↓s_dops, ↓s_seq, ↓s_cond, ↓s_block, ↓s_exit, ↓s_ret, ↓s_scope, ↓s_nil, ↓s_op, ↓s_opg, ↓s_wanted', ↓s_wantV, s_wantV, s_wantV0, beq_true, beq_false, ↓s_bindS, s_bindS, ↓s_bindE, s_bindE, s_bindE_ret, s_bindE_exit, s_bindE_iteN, s_norm, ↓s_condV, s_condV, s_block_ret, s_block_normal, s_block_exit, s_block_iteN, ↓s_getp, ↓s_getp0, ↓s_get, s_get0, ↓s_con, ↓s_fn, ↓s_os0, ↓s_os1, ↓s_list0, ↓s_list1, ↓s_mov, ↓s_pick, ↓s_pickE, s_pickE, ↓s_bin, ↓s_un, ↓s_minmax, ↓s_call, ↓s_callv, ↓s_callV, ↓s_ext, s_same, b_eql, b_neq, b_lss, b_leq, b_gtr, b_geq, b_add, b_sub, b_mul, b_eqlb, b_neqb, b_fnil, b_fnil', b_fnil2, b_fnil2', u_neg, u_not, m_two, s_end, s_end', s_end_iteN, s_res0, s_res1, s_tup1, s_tup2, ↓iteN_true, ↓iteN_false, iteN_true, iteN_false, Nat.zero_add, List.nil_append, List.append_nil, Nat.reduceEqDiff, reduceIte, decide_true, decide_false, Bool.not_true, Bool.not_false, List.getElem?_cons_zero, List.getElem?_cons_succ, Bool.false_eq_true, if_true, if_false, beq_self_eq_true]
      exact rfl, ⟨(by (simp only [s_getp, s_getp0, Nat.reduceEqDiff, decide_false, decide_true, iteN_false, iteN_true, t0]; try rfl)), (by (simp only [s_getp, s_getp0, Nat.reduceEqDiff, decide_false, decide_true, iteN_false, iteN_true, t3]; try rfl)), (by (simp only [s_getp, s_getp0, Nat.reduceEqDiff, decide_false, decide_true, iteN_false, iteN_true, t4]; try rfl)), (by (simp only [s_getp, s_getp0, Nat.reduceEqDiff, decide_false, decide_true, iteN_false, iteN_true, t6]; try rfl)), (by (simp only [s_getp, s_getp0, Nat.reduceEqDiff, decide_false, decide_true, iteN_false, iteN_true, t7]; try rfl))⟩, fun k' h1 h2 => by omega⟩
  | succ j ih =>
    intro k hk g hg T I
    obtain ⟨g, rfl⟩ : ∃ x, g = x + 1 := ⟨g - 1, by omega⟩
    obtain ⟨t0, t3, t4, t6, t7⟩ := I
    have hk' : k < i := by omega
    have c0 : decide ((k : Int) < (i : Int)) = true := decide_eq_true (by omega)
    obtain ⟨md, gq⟩ := M.gq
    have x1 : idx (i : Int) n = some i := idxn hi
    have x2 : idx (k : Int) n = some k := idxn (by omega)
    have ci := M.cell i hi
    have ck := M.cell k (by omega)
    have si := M.str i hi
    have sk := M.str k (by omega)
    have oi : callX E X (N + 1) (.fn k_sha_Of) [v i] h = some (.agg (ofI .u8 (shaV (L i))), h) := x_known (hx _ _ _ _ (M.rd i hi) (by unfold ofS; rw [decide_eq_true (M.len i hi)]; rfl))
    have ok : callX E X (N + 1) (.fn k_sha_Of) [v k] h = some (.agg (ofI .u8 (shaV (L k))), h) := x_known (hx _ _ _ _ (M.rd k (by omega)) (by unfold ofS; rw [decide_eq_true (M.len k (by omega))]; rfl))
    have wk : wr .i64 ((k : Int) + 1) = ((k + 1 : Nat) : Int) := by rw [wr_i64 (by omega)]; omega
    have e32 : ∀ h, binV .eql (.flat [.i, .i, .i, .i, .i, .i, .i, .i, .i, .i, .i, .i, .i, .i, .i, .i, .i, .i, .i, .i, .i, .i, .i, .i, .i, .i, .i, .i, .i, .i, .i, .i]) h (.agg (ofI .u8 (shaV (L i)))) (.agg (ofI .u8 (shaV (L k)))) = some (.bool (decide (shaV (L i) = shaV (L k)))) := fun h => eq32 h _ _ (shaV_len _) (shaV_len _)
    have hp : pairB L i k = (!decide (L i = L k) && decide (shaV (L i) = shaV (L k))) := rfl
    have vb : ∀ w, V.beq (v w) (v w) = true := fun w => by obtain ⟨a, l, c, e, hv⟩ := M.sl w; rw [hv]; exact vbeq_slice a l c e
    rw [l_succ]
    have cont : pairB L i k = false → ∀ T1, evC (callX E X (N + 1)) 40 g0 none L_purserlaw09_meet_0 ⟨T, [], h⟩ = some (.normal, ⟨T1, [], h⟩) → MtI q n cap i (k + 1) T1 →
      (∃ T', loopE (evC (callX E X (N + 1)) 40 g0 none L_purserlaw09_meet_0 ⟨T, [], h⟩) (loopN (evC (callX E X (N + 1)) 40 g0 none L_purserlaw09_meet_0) g) = some (.ret, ⟨T', [], h⟩) ∧ evO T' (.t 2) = .bool true ∧ ∃ k', k' < i ∧ pairB L i k' = true) ∨
      (∃ T', loopE (evC (callX E X (N + 1)) 40 g0 none L_purserlaw09_meet_0 ⟨T, [], h⟩) (loopN (evC (callX E X (N + 1)) 40 g0 none L_purserlaw09_meet_0) g) = some (.exit 2, ⟨T', [], h⟩) ∧ MtI q n cap i i T' ∧ ∀ k', k ≤ k' → k' < i → pairB L i k' = false) := by
      intro hf T1 e1 I1
      rw [e1, l_normal]
      rcases ih (k + 1) (by omega) g (by omega) T1 I1 with ⟨T', r1, r2, r3⟩ | ⟨T', r1, r2, r3⟩
      · exact .inl ⟨T', r1, r2, r3⟩
      · refine .inr ⟨T', r1, r2, fun k' h1 h2 => ?_⟩
        by_cases hkk : k' = k
        · rw [hkk]; exact hf
        · exact r3 k' (by omega) h2
    by_cases d1 : L i = L k
    · have b1 : decide (L i = L k) = true := decide_eq_true d1
      refine cont (by rw [hp, b1]; rfl) _ (by
        simp (config := {maxSteps := 2000000}) (disch := first | omega | (simp only [List.length_cons, List.length_nil, List.length_append, List.length_drop]; omega)) only [L_purserlaw09_meet_0, t0, t3, t4, c0, gq, x1, x2, ci, ck, si, sk, b1, wk, ↓ns_b2s, b_sneq, ↓b_xor32, ↓b_and32, ↓b_or32, ↓u_not32, b_xor32, b_and32, b_or32, u_not32, w32ad, ↓x_conv, x_convV, ↓x_fieldAddr, x_fieldV, ↓s_nilchk, x_nilchk, Nat.zero_add, Nat.add_zero, Nat.mul_one, ↓s_evD, ↓s_dnil, ↓s_dL, ↓s_dLg, ↓s_dR, ↓s_dRg, ↓s_dRj, ↓s_dRjg, ↓s_dB, ↓s_dBg, ↓s_dAlloc, ↓s_bindD, s_bindD, s_finD, s_finDx, s_addP0, s_addP1, s_addB, s_lookP, ↓s_bump0, ↓s_bump_get, s_bump_next, s_ok0, ↓s_ok1, s_okR0, ↓s_okR1, ↓s_okE, s_okE, s_okE1, s_nth0, s_nthS, Nat.add_zero, Bool.and_self, Bool.and_true, Bool.true_and, ↓l_loop, ↓l_succ, ↓l_normal, l_normal, l_exit, l_ret, l_iteN, ↓h_put_get, ↓h_new_get, ↓h_del_get, h_next_put, h_next_new, h_next_del, Nat.add_assoc, Nat.add_eq_left, Nat.left_eq_add, Nat.add_left_cancel_iff, ↓s_load, m_load, ↓m_load1, m_load1, ↓m_st, m_stE, m_storeI, m_storeE, w_zero, w_succ, ↓s_alloc, ↓x_idxA, ↓x_idxS, x_idxAE, x_idxSE, x_addrE, x_idx, x_lenS, ↓s_len, ↓x_buildS, x_buildE, ↓x_P0, ↓x_P1, x_fill0, x_filli, x_fills, x_fillb, c_int, List.length_cons, List.length_nil, List.cons_append, List.drop_succ_cons, List.drop_zero, List.drop_nil, List.nil_append, Int.reduceAdd, Int.reduceToNat, Int.reduceLT, Int.reduceLE, Nat.reduceAdd, Nat.reduceMul, Nat.reduceLeDiff, Int.reduceEq, Int.reduceSub, Int.cast_ofNat_Int, s_resc, s_consR, m_load4, m_store4, s_res0, ↓s_skip, ↓s_ops, ↓s_dops, ↓s_seq, ↓s_cond, ↓s_block, ↓s_exit, ↓s_ret, ↓s_scope, ↓s_nil, ↓s_op, ↓s_opg, ↓s_wanted', ↓s_wantV, s_wantV, s_wantV0, beq_true, beq_false, ↓s_bindS, s_bindS, ↓s_bindE, s_bindE, s_bindE_ret, s_bindE_exit, s_bindE_iteN, s_norm, ↓s_condV, s_condV, s_block_ret, s_block_normal, s_block_exit, s_block_iteN, ↓s_getp, ↓s_getp0, ↓s_get, s_get0, ↓s_con, ↓s_fn, ↓s_os0, ↓s_os1, ↓s_list0, ↓s_list1, ↓s_mov, ↓s_pick, ↓s_pickE, s_pickE, ↓s_bin, ↓s_un, ↓s_minmax, ↓s_call, ↓s_callv, ↓s_callV, ↓s_ext, s_same, b_eql, b_neq, b_lss, b_leq, b_gtr, b_geq, b_add, b_sub, b_mul, b_eqlb, b_neqb, b_fnil, b_fnil', b_fnil2, b_fnil2', u_neg, u_not, m_two, s_end, s_end', s_end_iteN, s_res0, s_res1, s_tup1, s_tup2, ↓iteN_true, ↓iteN_false, iteN_true, iteN_false, Nat.zero_add, List.nil_append, List.append_nil, Nat.reduceEqDiff, reduceIte, decide_true, decide_false, Bool.not_true, Bool.not_false, List.getElem?_cons_zero, List.getElem?_cons_succ, Bool.false_eq_true, if_true, if_false, beq_self_eq_true]
        exact rfl) ⟨(by (simp only [s_getp, s_getp0, Nat.reduceEqDiff, decide_false, decide_true, iteN_false, iteN_true, t0]; try rfl)), (by (simp only [s_getp, s_getp0, Nat.reduceEqDiff, decide_false, decide_true, iteN_false, iteN_true, t3]; try rfl)), (by (simp only [s_getp, s_getp0, Nat.reduceEqDiff, decide_false, decide_true, iteN_false, iteN_true, t4]; try rfl)), (by (simp only [s_getp, s_getp0, Nat.reduceEqDiff, decide_false, decide_true, iteN_false, iteN_true, t6]; try rfl)), (by (simp only [s_getp, s_getp0, Nat.reduceEqDiff, decide_false, decide_true, iteN_false, iteN_true, t7]; try rfl))⟩
    · have b1 : decide (L i = L k) = false := decide_eq_false d1
      by_cases d2 : shaV (L i) = shaV (L k)
      · have b2 : decide (shaV (L i) = shaV (L k)) = true := decide_eq_true d2
        left
        refine ⟨_, by
          simp (config := {maxSteps := 2000000}) (disch := first | omega | (simp only [List.length_cons, List.length_nil, List.length_append, List.length_drop]; omega)) only [L_purserlaw09_meet_0, t0, t3, t4, c0, gq, x1, x2, ci, ck, si, sk, b1, b2, oi, ok, e32, wk, vb, ↓ns_b2s, b_sneq, ↓b_xor32, ↓b_and32, ↓b_or32, ↓u_not32, b_xor32, b_and32, b_or32, u_not32, w32ad, ↓x_conv, x_convV, ↓x_fieldAddr, x_fieldV, ↓s_nilchk, x_nilchk, Nat.zero_add, Nat.add_zero, Nat.mul_one, ↓s_evD, ↓s_dnil, ↓s_dL, ↓s_dLg, ↓s_dR, ↓s_dRg, ↓s_dRj, ↓s_dRjg, ↓s_dB, ↓s_dBg, ↓s_dAlloc, ↓s_bindD, s_bindD, s_finD, s_finDx, s_addP0, s_addP1, s_addB, s_lookP, ↓s_bump0, ↓s_bump_get, s_bump_next, s_ok0, ↓s_ok1, s_okR0, ↓s_okR1, ↓s_okE, s_okE, s_okE1, s_nth0, s_nthS, Nat.add_zero, Bool.and_self, Bool.and_true, Bool.true_and, ↓l_loop, ↓l_succ, ↓l_normal, l_normal, l_exit, l_ret, l_iteN, ↓h_put_get, ↓h_new_get, ↓h_del_get, h_next_put, h_next_new, h_next_del, Nat.add_assoc, Nat.add_eq_left, Nat.left_eq_add, Nat.add_left_cancel_iff, ↓s_load, m_load, ↓m_load1, m_load1, ↓m_st, m_stE, m_storeI, m_storeE, w_zero, w_succ, ↓s_alloc, ↓x_idxA, ↓x_idxS, x_idxAE, x_idxSE, x_addrE, x_idx, x_lenS, ↓s_len, ↓x_buildS, x_buildE, ↓x_P0, ↓x_P1, x_fill0, x_filli, x_fills, x_fillb, c_int, List.length_cons, List.length_nil, List.cons_append, List.drop_succ_cons, List.drop_zero, List.drop_nil, List.nil_append, Int.reduceAdd, Int.reduceToNat, Int.reduceLT, Int.reduceLE, Nat.reduceAdd, Nat.reduceMul, Nat.reduceLeDiff, Int.reduceEq, Int.reduceSub, Int.cast_ofNat_Int, s_resc, s_consR, m_load4, m_store4, s_res0, ↓s_skip, ↓s_ops, ↓s_dops, ↓s_seq, ↓s_cond, ↓s_block, ↓s_exit, ↓s_ret, ↓s_scope, ↓s_nil, ↓s_op, ↓s_opg, ↓s_wanted', ↓s_wantV, s_wantV, s_wantV0, beq_true, beq_false, ↓s_bindS, s_bindS, ↓s_bindE, s_bindE, s_bindE_ret, s_bindE_exit, s_bindE_iteN, s_norm, ↓s_condV, s_condV, s_block_ret, s_block_normal, s_block_exit, s_block_iteN, ↓s_getp, ↓s_getp0, ↓s_get, s_get0, ↓s_con, ↓s_fn, ↓s_os0, ↓s_os1, ↓s_list0, ↓s_list1, ↓s_mov, ↓s_pick, ↓s_pickE, s_pickE, ↓s_bin, ↓s_un, ↓s_minmax, ↓s_call, ↓s_callv, ↓s_callV, ↓s_ext, s_same, b_eql, b_neq, b_lss, b_leq, b_gtr, b_geq, b_add, b_sub, b_mul, b_eqlb, b_neqb, b_fnil, b_fnil', b_fnil2, b_fnil2', u_neg, u_not, m_two, s_end, s_end', s_end_iteN, s_res0, s_res1, s_tup1, s_tup2, ↓iteN_true, ↓iteN_false, iteN_true, iteN_false, Nat.zero_add, List.nil_append, List.append_nil, Nat.reduceEqDiff, reduceIte, decide_true, decide_false, Bool.not_true, Bool.not_false, List.getElem?_cons_zero, List.getElem?_cons_succ, Bool.false_eq_true, if_true, if_false, beq_self_eq_true]
          exact rfl, (by (simp only [s_getp, s_getp0, Nat.reduceEqDiff, decide_false, decide_true, iteN_false, iteN_true, t0]; try rfl)), k, hk', by rw [hp, b1, b2]; rfl⟩
      · have b2 : decide (shaV (L i) = shaV (L k)) = false := decide_eq_false d2
        refine cont (by rw [hp, b1, b2]; rfl) _ (by
          simp (config := {maxSteps := 2000000}) (disch := first | omega | (simp only [List.length_cons, List.length_nil, List.length_append, List.length_drop]; omega)) only [L_purserlaw09_meet_0, t0, t3, t4, c0, gq, x1, x2, ci, ck, si, sk, b1, b2, oi, ok, e32, wk, vb, ↓ns_b2s, b_sneq, ↓b_xor32, ↓b_and32, ↓b_or32, ↓u_not32, b_xor32, b_and32, b_or32, u_not32, w32ad, ↓x_conv, x_convV, ↓x_fieldAddr, x_fieldV, ↓s_nilchk, x_nilchk, Nat.zero_add, Nat.add_zero, Nat.mul_one, ↓s_evD, ↓s_dnil, ↓s_dL, ↓s_dLg, ↓s_dR, ↓s_dRg, ↓s_dRj, ↓s_dRjg, ↓s_dB, ↓s_dBg, ↓s_dAlloc, ↓s_bindD, s_bindD, s_finD, s_finDx, s_addP0, s_addP1, s_addB, s_lookP, ↓s_bump0, ↓s_bump_get, s_bump_next, s_ok0, ↓s_ok1, s_okR0, ↓s_okR1, ↓s_okE, s_okE, s_okE1, s_nth0, s_nthS, Nat.add_zero, Bool.and_self, Bool.and_true, Bool.true_and, ↓l_loop, ↓l_succ, ↓l_normal, l_normal, l_exit, l_ret, l_iteN, ↓h_put_get, ↓h_new_get, ↓h_del_get, h_next_put, h_next_new, h_next_del, Nat.add_assoc, Nat.add_eq_left, Nat.left_eq_add, Nat.add_left_cancel_iff, ↓s_load, m_load, ↓m_load1, m_load1, ↓m_st, m_stE, m_storeI, m_storeE, w_zero, w_succ, ↓s_alloc, ↓x_idxA, ↓x_idxS, x_idxAE, x_idxSE, x_addrE, x_idx, x_lenS, ↓s_len, ↓x_buildS, x_buildE, ↓x_P0, ↓x_P1, x_fill0, x_filli, x_fills, x_fillb, c_int, List.length_cons, List.length_nil, List.cons_append, List.drop_succ_cons, List.drop_zero, List.drop_nil, List.nil_append, Int.reduceAdd, Int.reduceToNat, Int.reduceLT, Int.reduceLE, Nat.reduceAdd, Nat.reduceMul, Nat.reduceLeDiff, Int.reduceEq, Int.reduceSub, Int.cast_ofNat_Int, s_resc, s_consR, m_load4, m_store4, s_res0, ↓s_skip, ↓s_ops, ↓s_dops, ↓s_seq, ↓s_cond, ↓s_block, ↓s_exit, ↓s_ret, ↓s_scope, ↓s_nil, ↓s_op, ↓s_opg, ↓s_wanted', ↓s_wantV, s_wantV, s_wantV0, beq_true, beq_false, ↓s_bindS, s_bindS, ↓s_bindE, s_bindE, s_bindE_ret, s_bindE_exit, s_bindE_iteN, s_norm, ↓s_condV, s_condV, s_block_ret, s_block_normal, s_block_exit, s_block_iteN, ↓s_getp, ↓s_getp0, ↓s_get, s_get0, ↓s_con, ↓s_fn, ↓s_os0, ↓s_os1, ↓s_list0, ↓s_list1, ↓s_mov, ↓s_pick, ↓s_pickE, s_pickE, ↓s_bin, ↓s_un, ↓s_minmax, ↓s_call, ↓s_callv, ↓s_callV, ↓s_ext, s_same, b_eql, b_neq, b_lss, b_leq, b_gtr, b_geq, b_add, b_sub, b_mul, b_eqlb, b_neqb, b_fnil, b_fnil', b_fnil2, b_fnil2', u_neg, u_not, m_two, s_end, s_end', s_end_iteN, s_res0, s_res1, s_tup1, s_tup2, ↓iteN_true, ↓iteN_false, iteN_true, iteN_false, Nat.zero_add, List.nil_append, List.append_nil, Nat.reduceEqDiff, reduceIte, decide_true, decide_false, Bool.not_true, Bool.not_false, List.getElem?_cons_zero, List.getElem?_cons_succ, Bool.false_eq_true, if_true, if_false, beq_self_eq_true]
          exact rfl) ⟨(by (simp only [s_getp, s_getp0, Nat.reduceEqDiff, decide_false, decide_true, iteN_false, iteN_true, t0]; try rfl)), (by (simp only [s_getp, s_getp0, Nat.reduceEqDiff, decide_false, decide_true, iteN_false, iteN_true, t3]; try rfl)), (by (simp only [s_getp, s_getp0, Nat.reduceEqDiff, decide_false, decide_true, iteN_false, iteN_true, t4]; try rfl)), (by (simp only [s_getp, s_getp0, Nat.reduceEqDiff, decide_false, decide_true, iteN_false, iteN_true, t6]; try rfl)), (by (simp only [s_getp, s_getp0, Nat.reduceEqDiff, decide_false, decide_true, iteN_false, iteN_true, t7]; try rfl))⟩
structure MtO (q n : Nat) (cap : Option Nat) (i : Nat) (T : Tr V) : Prop where
  t0 : evO T (.t 0) = .slice (some (q, 0)) n cap 1
  t6 : evO T (.t 6) = .int .i64 (n : Int)
  t7 : evO T (.t 7) = .int .i64 (i : Int)
theorem meet_out (hx : HasOf X) (N q n : Nat) (hn : n < 1000) (cap : Option Nat) (cs : List V) (v : Nat → V) (L : Nat → List Nat) (h : H) (M : Mt h q n cs v L) : ∀ (j i : Nat), i + j = n → ∀ g, j < g → ∀ T, MtO q n cap i T →
    (∃ T', loopN (evC (callX E X (N + 1001)) 40 (N + 1001) none L_purserlaw09_meet_1) g ⟨T, [], h⟩ = some (.ret, ⟨T', [], h⟩) ∧ evO T' (.t 2) = .bool true ∧ ∃ i' k', k' < i' ∧ i' < n ∧ pairB L i' k' = true) ∨
    (∃ T', loopN (evC (callX E X (N + 1001)) 40 (N + 1001) none L_purserlaw09_meet_1) g ⟨T, [], h⟩ = some (.exit 0, ⟨T', [], h⟩) ∧ ∀ i' k', i ≤ i' → i' < n → k' < i' → pairB L i' k' = false) := by
  intro j
  induction j with
  | zero =>
    intro i hi g hg T I
    obtain ⟨g, rfl⟩ : ∃ x, g = x + 1 := ⟨g - 1, by omega⟩
    obtain rfl : i = n := by omega
    obtain ⟨t0, t6, t7⟩ := I
    have c0 : decide ((i : Int) < (i : Int)) = false := decide_eq_false (by omega)
    right
    rw [l_succ]
    refine ⟨_, by
      simp (config := {maxSteps := 2000000}) (disch := first | omega | (simp only [List.length_cons, List.length_nil, List.length_append, List.length_drop]; omega)) only [L_purserlaw09_meet_1, t6, t7, c0, ↓b_xor32, ↓b_and32, ↓b_or32, ↓u_not32, b_xor32, b_and32, b_or32, u_not32, w32ad, ↓x_conv, x_convV, ↓x_fieldAddr, x_fieldV, ↓s_nilchk, x_nilchk, Nat.zero_add, Nat.add_zero, Nat.mul_one, ↓l_loop, ↓l_succ, ↓l_normal, l_normal, l_exit, l_ret, l_iteN, ↓h_put_get, ↓h_new_get, ↓h_del_get, h_next_put, h_next_new, h_next_del, Nat.add_assoc, Nat.add_eq_left, Nat.left_eq_add, Nat.add_left_cancel_iff, ↓s_load, m_load, ↓m_load1, m_load1, ↓m_st, m_stE, m_storeI, m_storeE, w_zero, w_succ, ↓s_alloc, ↓x_idxA, ↓x_idxS, x_idxAE, x_idxSE, x_addrE, x_idx, x_lenS, ↓s_len, ↓x_buildS, x_buildE, ↓x_P0, ↓x_P1, x_fill0, x_filli, x_fills, x_fillb, c_int, List.length_cons, List.length_nil, List.cons_append, List.drop_succ_cons, List.drop_zero, List.drop_nil, List.nil_append, Int.reduceAdd, Int.reduceToNat, Int.reduceLT, Int.reduceLE, Nat.reduceAdd, Nat.reduceMul, Nat.reduceLeDiff, Int.reduceEq, Int.reduceSub, Int.cast_ofNat_Int, s_resc, s_consR, m_load4, m_store4, s_res0, ↓s_skip, ↓s_ops, ↓s_dops, ↓s_seq, ↓s_cond, ↓s_block, ↓s_exit, ↓s_ret, ↓s_scope, ↓s_nil, ↓s_op, ↓s_opg, ↓s_wanted', ↓s_wantV, s_wantV, s_wantV0, beq_true, beq_false, ↓s_bindS, s_bindS, ↓s_bindE, s_bindE, s_bindE_ret, s_bindE_exit, s_bindE_iteN, s_norm, ↓s_condV, s_condV, s_block_ret, s_block_normal, s_block_exit, s_block_iteN, ↓s_getp, ↓s_getp0, ↓s_get, s_get0, ↓s_con, ↓s_fn, ↓s_os0, ↓s_os1, ↓s_list0, ↓s_list1, ↓s_mov, ↓s_pick, ↓s_pickE, s_pickE, ↓s_bin, ↓s_un, ↓s_minmax, ↓s_call, ↓s_callv, ↓s_callV, ↓s_ext, s_same, b_eql, b_neq, b_lss, b_leq, b_gtr, b_geq, b_add, b_sub, b_mul, b_eqlb, b_neqb, b_fnil, b_fnil', b_fnil2, b_fnil2', u_neg, u_not, m_two, s_end, s_end', s_end_iteN, s_res0, s_res1, s_tup1, s_tup2, ↓iteN_true, ↓iteN_false, iteN_true, iteN_false, Nat.zero_add, List.nil_append, List.append_nil, Nat.reduceEqDiff, reduceIte, decide_true, decide_false, Bool.not_true, Bool.not_false, List.getElem?_cons_zero, List.getElem?_cons_succ, Bool.false_eq_true, if_true, if_false, beq_self_eq_true]
      exact rfl, fun i' k' h1 h2 => by omega⟩
  | succ j ih =>
    intro i hi g hg T I
    obtain ⟨g, rfl⟩ : ∃ x, g = x + 1 := ⟨g - 1, by omega⟩
    obtain ⟨t0, t6, t7⟩ := I
    have hin : i < n := by omega
    have c0 : decide ((i : Int) < (n : Int)) = true := decide_eq_true (by omega)
    have wi : wr .i64 ((i : Int) + 1) = ((i + 1 : Nat) : Int) := by rw [wr_i64 (by omega)]; omega
    rw [l_succ]
    have In := fun T I => meet_in hx (E := E) (N + 1000) (N + 1001) q n hn cap cs v L h M i hin i 0 (by omega) (N + 1001) (by omega) T I
    obtain ⟨Li, eLi⟩ : ∃ l, L_purserlaw09_meet_0 = l := ⟨_, rfl⟩
    rw [eLi] at In
    have st : ∃ T1, MtI q n cap i 0 T1 ∧ evC (callX E X (N + 1001)) 40 (N + 1001) none L_purserlaw09_meet_1 ⟨T, [], h⟩ = bindE (blockE 1 (blockE 2 (loopN (evC (callX E X (N + 1001)) 40 (N + 1001) none Li) (N + 1001) ⟨T1, [], h⟩))) (evC (callX E X (N + 1001)) 40 (N + 1001) none R_purserlaw09_meet_0) := by
      obtain ⟨R, eR⟩ : ∃ l, R_purserlaw09_meet_0 = l := ⟨_, rfl⟩
      rw [eR]
      refine ⟨_, ?_, by
        simp (config := {maxSteps := 2000000}) (disch := first | omega | (simp only [List.length_cons, List.length_nil, List.length_append, List.length_drop]; omega)) only [L_purserlaw09_meet_1, eLi, eR, t0, t6, t7, c0, ↓b_xor32, ↓b_and32, ↓b_or32, ↓u_not32, b_xor32, b_and32, b_or32, u_not32, w32ad, ↓x_conv, x_convV, ↓x_fieldAddr, x_fieldV, ↓s_nilchk, x_nilchk, Nat.zero_add, Nat.add_zero, Nat.mul_one, ↓l_loop, ↓l_succ, ↓l_normal, l_normal, l_exit, l_ret, l_iteN, ↓h_put_get, ↓h_new_get, ↓h_del_get, h_next_put, h_next_new, h_next_del, Nat.add_assoc, Nat.add_eq_left, Nat.left_eq_add, Nat.add_left_cancel_iff, ↓s_load, m_load, ↓m_load1, m_load1, ↓m_st, m_stE, m_storeI, m_storeE, w_zero, w_succ, ↓s_alloc, ↓x_idxA, ↓x_idxS, x_idxAE, x_idxSE, x_addrE, x_idx, x_lenS, ↓s_len, ↓x_buildS, x_buildE, ↓x_P0, ↓x_P1, x_fill0, x_filli, x_fills, x_fillb, c_int, List.length_cons, List.length_nil, List.cons_append, List.drop_succ_cons, List.drop_zero, List.drop_nil, List.nil_append, Int.reduceAdd, Int.reduceToNat, Int.reduceLT, Int.reduceLE, Nat.reduceAdd, Nat.reduceMul, Nat.reduceLeDiff, Int.reduceEq, Int.reduceSub, Int.cast_ofNat_Int, s_resc, s_consR, m_load4, m_store4, s_res0, ↓s_skip, ↓s_ops, ↓s_dops, ↓s_seq, ↓s_cond, ↓s_block, ↓s_exit, ↓s_ret, ↓s_scope, ↓s_nil, ↓s_op, ↓s_opg, ↓s_wanted', ↓s_wantV, s_wantV, s_wantV0, beq_true, beq_false, ↓s_bindS, s_bindS, ↓s_bindE, s_bindE, s_bindE_ret, s_bindE_exit, s_bindE_iteN, s_norm, ↓s_condV, s_condV, s_block_ret, s_block_normal, s_block_exit, s_block_iteN, ↓s_getp, ↓s_getp0, ↓s_get, s_get0, ↓s_con, ↓s_fn, ↓s_os0, ↓s_os1, ↓s_list0, ↓s_list1, ↓s_mov, ↓s_pick, ↓s_pickE, s_pickE, ↓s_bin, ↓s_un, ↓s_minmax, ↓s_call, ↓s_callv, ↓s_callV, ↓s_ext, s_same, b_eql, b_neq, b_lss, b_leq, b_gtr, b_geq, b_add, b_sub, b_mul, b_eqlb, b_neqb, b_fnil, b_fnil', b_fnil2, b_fnil2', u_neg, u_not, m_two, s_end, s_end', s_end_iteN, s_res0, s_res1, s_tup1, s_tup2, ↓iteN_true, ↓iteN_false, iteN_true, iteN_false, Nat.zero_add, List.nil_append, List.append_nil, Nat.reduceEqDiff, reduceIte, decide_true, decide_false, Bool.not_true, Bool.not_false, List.getElem?_cons_zero, List.getElem?_cons_succ, Bool.false_eq_true, if_true, if_false, beq_self_eq_true]
        exact rfl⟩
      exact ⟨(by (simp only [s_getp, s_getp0, Nat.reduceEqDiff, decide_false, decide_true, iteN_false, iteN_true, t0]; try rfl)), (by (simp only [s_getp, s_getp0, Nat.reduceEqDiff, decide_false, decide_true, iteN_false, iteN_true, t0]; try rfl)), (by (simp only [s_getp, s_getp0, Nat.reduceEqDiff, decide_false, decide_true, iteN_false, iteN_true, t0]; try rfl)), (by (simp only [s_getp, s_getp0, Nat.reduceEqDiff, decide_false, decide_true, iteN_false, iteN_true, t6]; try rfl)), (by (simp only [s_getp, s_getp0, Nat.reduceEqDiff, decide_false, decide_true, iteN_false, iteN_true, t7]; try rfl))⟩
    obtain ⟨T1, I1, e1⟩ := st
    rw [e1]
    rcases In T1 I1 with ⟨T2, r1, r2, k', hk, hp⟩ | ⟨T2, r1, I2, hp⟩
    · left
      rw [r1]
      exact ⟨T2, rfl, r2, i, k', hk, hin, hp⟩
    · obtain ⟨u0, u3, u4, u6, u7⟩ := I2
      have st2 : ∃ T3, bindE (blockE 1 (blockE 2 (loopN (evC (callX E X (N + 1001)) 40 (N + 1001) none Li) (N + 1001) ⟨T1, [], h⟩))) (evC (callX E X (N + 1001)) 40 (N + 1001) none R_purserlaw09_meet_0) = some (.normal, ⟨T3, [], h⟩) ∧ MtO q n cap (i + 1) T3 := by
        rw [r1]
        refine ⟨_, by
          simp (config := {maxSteps := 2000000}) (disch := first | omega | (simp only [List.length_cons, List.length_nil, List.length_append, List.length_drop]; omega)) only [R_purserlaw09_meet_0, u7, wi, ↓b_xor32, ↓b_and32, ↓b_or32, ↓u_not32, b_xor32, b_and32, b_or32, u_not32, w32ad, ↓x_conv, x_convV, ↓x_fieldAddr, x_fieldV, ↓s_nilchk, x_nilchk, Nat.zero_add, Nat.add_zero, Nat.mul_one, ↓l_loop, ↓l_succ, ↓l_normal, l_normal, l_exit, l_ret, l_iteN, ↓h_put_get, ↓h_new_get, ↓h_del_get, h_next_put, h_next_new, h_next_del, Nat.add_assoc, Nat.add_eq_left, Nat.left_eq_add, Nat.add_left_cancel_iff, ↓s_load, m_load, ↓m_load1, m_load1, ↓m_st, m_stE, m_storeI, m_storeE, w_zero, w_succ, ↓s_alloc, ↓x_idxA, ↓x_idxS, x_idxAE, x_idxSE, x_addrE, x_idx, x_lenS, ↓s_len, ↓x_buildS, x_buildE, ↓x_P0, ↓x_P1, x_fill0, x_filli, x_fills, x_fillb, c_int, List.length_cons, List.length_nil, List.cons_append, List.drop_succ_cons, List.drop_zero, List.drop_nil, List.nil_append, Int.reduceAdd, Int.reduceToNat, Int.reduceLT, Int.reduceLE, Nat.reduceAdd, Nat.reduceMul, Nat.reduceLeDiff, Int.reduceEq, Int.reduceSub, Int.cast_ofNat_Int, s_resc, s_consR, m_load4, m_store4, s_res0, ↓s_skip, ↓s_ops, ↓s_dops, ↓s_seq, ↓s_cond, ↓s_block, ↓s_exit, ↓s_ret, ↓s_scope, ↓s_nil, ↓s_op, ↓s_opg, ↓s_wanted', ↓s_wantV, s_wantV, s_wantV0, beq_true, beq_false, ↓s_bindS, s_bindS, ↓s_bindE, s_bindE, s_bindE_ret, s_bindE_exit, s_bindE_iteN, s_norm, ↓s_condV, s_condV, s_block_ret, s_block_normal, s_block_exit, s_block_iteN, ↓s_getp, ↓s_getp0, ↓s_get, s_get0, ↓s_con, ↓s_fn, ↓s_os0, ↓s_os1, ↓s_list0, ↓s_list1, ↓s_mov, ↓s_pick, ↓s_pickE, s_pickE, ↓s_bin, ↓s_un, ↓s_minmax, ↓s_call, ↓s_callv, ↓s_callV, ↓s_ext, s_same, b_eql, b_neq, b_lss, b_leq, b_gtr, b_geq, b_add, b_sub, b_mul, b_eqlb, b_neqb, b_fnil, b_fnil', b_fnil2, b_fnil2', u_neg, u_not, m_two, s_end, s_end', s_end_iteN, s_res0, s_res1, s_tup1, s_tup2, ↓iteN_true, ↓iteN_false, iteN_true, iteN_false, Nat.zero_add, List.nil_append, List.append_nil, Nat.reduceEqDiff, reduceIte, decide_true, decide_false, Bool.not_true, Bool.not_false, List.getElem?_cons_zero, List.getElem?_cons_succ, Bool.false_eq_true, if_true, if_false, beq_self_eq_true]
          exact rfl, ⟨(by (simp only [s_getp, s_getp0, Nat.reduceEqDiff, decide_false, decide_true, iteN_false, iteN_true, u0]; try rfl)), (by (simp only [s_getp, s_getp0, Nat.reduceEqDiff, decide_false, decide_true, iteN_false, iteN_true, u6]; try rfl)), (by (simp only [s_getp, s_getp0, Nat.reduceEqDiff, decide_false, decide_true, iteN_false, iteN_true, u7]; try rfl))⟩⟩
      obtain ⟨T3, e3, I3⟩ := st2
      rw [e3, l_normal]
      rcases ih (i + 1) (by omega) g (by omega) T3 I3 with ⟨T', s1, s2, s3⟩ | ⟨T', s1, s2⟩
      · exact .inl ⟨T', s1, s2, s3⟩
      · refine .inr ⟨T', s1, fun i' k' h1 h2 h3 => ?_⟩
        by_cases hii : i' = i
        · rw [hii] at h3 ⊢; exact hp k' (by omega) h3
        · exact s2 i' k' (by omega) h2 h3
theorem meet_go (hx : HasOf X) (e : E k_purserlaw09_meet = some f_purserlaw09_meet) (x : ∀ a h, X (.fn k_purserlaw09_meet) a h = none) (N q n : Nat) (hn : n < 1000) (cap : Option Nat) (cs : List V) (v : Nat → V) (L : Nat → List Nat) (h : H) (M : Mt h q n cs v L) :
    (callX E X (N + 1002) (.fn k_purserlaw09_meet) [.slice (some (q, 0)) n cap 1] h = some (.bool true, h) ∧ ∃ i k, k < i ∧ i < n ∧ pairB L i k = true) ∨
    (callX E X (N + 1002) (.fn k_purserlaw09_meet) [.slice (some (q, 0)) n cap 1] h = some (.bool false, h) ∧ ∀ i k, i < n → k < i → pairB L i k = false) := by
  rw [x_cfn e _ _ (Nat.le_of_ble_eq_true rfl) (x _ _)]
  have fin : ∀ T, MtO q n cap 0 T → (fnEnd [.tmp 2] (bindE (blockE 0 (loopN (evC (callX E X (N + 1001)) 40 (N + 1001) none L_purserlaw09_meet_1) (N + 1001) ⟨T, [], h⟩)) (evC (callX E X (N + 1001)) 40 (N + 1001) none R_purserlaw09_meet_1)) = some (.bool true, h) ∧ ∃ i k, k < i ∧ i < n ∧ pairB L i k = true) ∨
     (fnEnd [.tmp 2] (bindE (blockE 0 (loopN (evC (callX E X (N + 1001)) 40 (N + 1001) none L_purserlaw09_meet_1) (N + 1001) ⟨T, [], h⟩)) (evC (callX E X (N + 1001)) 40 (N + 1001) none R_purserlaw09_meet_1)) = some (.bool false, h) ∧ ∀ i k, i < n → k < i → pairB L i k = false) := by
    intro T I
    rcases meet_out hx (E := E) N q n hn cap cs v L h M n 0 (by omega) (N + 1001) (by omega) T I with ⟨T', r1, r2, i', k', a, b, c⟩ | ⟨T', r1, r2⟩
    · left
      rw [r1]
      refine ⟨?_, i', k', a, b, c⟩
      simp (config := {maxSteps := 2000000}) (disch := first | omega | (simp only [List.length_cons, List.length_nil, List.length_append, List.length_drop]; omega)) only [r2, ↓s_skip, ↓s_ops, ↓s_dops, ↓s_seq, ↓s_cond, ↓s_block, ↓s_exit, ↓s_ret, ↓s_scope, ↓s_nil, ↓s_op, ↓s_opg, ↓s_wanted', ↓s_wantV, s_wantV, s_wantV0, beq_true, beq_false, ↓s_bindS, s_bindS, ↓s_bindE, s_bindE, s_bindE_ret, s_bindE_exit, s_bindE_iteN, s_norm, ↓s_condV, s_condV, s_block_ret, s_block_normal, s_block_exit, s_block_iteN, ↓s_getp, ↓s_getp0, ↓s_get, s_get0, ↓s_con, ↓s_fn, ↓s_os0, ↓s_os1, ↓s_list0, ↓s_list1, ↓s_mov, ↓s_pick, ↓s_pickE, s_pickE, ↓s_bin, ↓s_un, ↓s_minmax, ↓s_call, ↓s_callv, ↓s_callV, ↓s_ext, s_same, b_eql, b_neq, b_lss, b_leq, b_gtr, b_geq, b_add, b_sub, b_mul, b_eqlb, b_neqb, b_fnil, b_fnil', b_fnil2, b_fnil2', u_neg, u_not, m_two, s_end, s_end', s_end_iteN, s_res0, s_res1, s_tup1, s_tup2, ↓iteN_true, ↓iteN_false, iteN_true, iteN_false, Nat.zero_add, List.nil_append, List.append_nil, Nat.reduceEqDiff, reduceIte, decide_true, decide_false, Bool.not_true, Bool.not_false, List.getElem?_cons_zero, List.getElem?_cons_succ, Bool.false_eq_true, if_true, if_false, beq_self_eq_true]
    · right
      rw [r1]
      refine ⟨?_, fun i k hi hk => r2 i k (by omega) hi hk⟩
      simp (config := {maxSteps := 2000000}) (disch := first | omega | (simp only [List.length_cons, List.length_nil, List.length_append, List.length_drop]; omega)) only [R_purserlaw09_meet_1, ↓s_skip, ↓s_ops, ↓s_dops, ↓s_seq, ↓s_cond, ↓s_block, ↓s_exit, ↓s_ret, ↓s_scope, ↓s_nil, ↓s_op, ↓s_opg, ↓s_wanted', ↓s_wantV, s_wantV, s_wantV0, beq_true, beq_false, ↓s_bindS, s_bindS, ↓s_bindE, s_bindE, s_bindE_ret, s_bindE_exit, s_bindE_iteN, s_norm, ↓s_condV, s_condV, s_block_ret, s_block_normal, s_block_exit, s_block_iteN, ↓s_getp, ↓s_getp0, ↓s_get, s_get0, ↓s_con, ↓s_fn, ↓s_os0, ↓s_os1, ↓s_list0, ↓s_list1, ↓s_mov, ↓s_pick, ↓s_pickE, s_pickE, ↓s_bin, ↓s_un, ↓s_minmax, ↓s_call, ↓s_callv, ↓s_callV, ↓s_ext, s_same, b_eql, b_neq, b_lss, b_leq, b_gtr, b_geq, b_add, b_sub, b_mul, b_eqlb, b_neqb, b_fnil, b_fnil', b_fnil2, b_fnil2', u_neg, u_not, m_two, s_end, s_end', s_end_iteN, s_res0, s_res1, s_tup1, s_tup2, ↓iteN_true, ↓iteN_false, iteN_true, iteN_false, Nat.zero_add, List.nil_append, List.append_nil, Nat.reduceEqDiff, reduceIte, decide_true, decide_false, Bool.not_true, Bool.not_false, List.getElem?_cons_zero, List.getElem?_cons_succ, Bool.false_eq_true, if_true, if_false, beq_self_eq_true]
  obtain ⟨R, eR⟩ : ∃ R, R_purserlaw09_meet_1 = R := ⟨_, rfl⟩
  obtain ⟨Lo, eL⟩ : ∃ R, L_purserlaw09_meet_1 = R := ⟨_, rfl⟩
  rw [eR, eL] at fin ⊢
  simp (config := {maxSteps := 2000000}) (disch := first | omega | (simp only [List.length_cons, List.length_nil, List.length_append, List.length_drop]; omega)) only [↓b_xor32, ↓b_and32, ↓b_or32, ↓u_not32, b_xor32, b_and32, b_or32, u_not32, w32ad, ↓x_conv, x_convV, ↓x_fieldAddr, x_fieldV, ↓s_nilchk, x_nilchk, Nat.zero_add, Nat.add_zero, Nat.mul_one, ↓l_loop, ↓l_succ, ↓l_normal, l_normal, l_exit, l_ret, l_iteN, ↓h_put_get, ↓h_new_get, ↓h_del_get, h_next_put, h_next_new, h_next_del, Nat.add_assoc, Nat.add_eq_left, Nat.left_eq_add, Nat.add_left_cancel_iff, ↓s_load, m_load, ↓m_load1, m_load1, ↓m_st, m_stE, m_storeI, m_storeE, w_zero, w_succ, ↓s_alloc, ↓x_idxA, ↓x_idxS, x_idxAE, x_idxSE, x_addrE, x_idx, x_lenS, ↓s_len, ↓x_buildS, x_buildE, ↓x_P0, ↓x_P1, x_fill0, x_filli, x_fills, x_fillb, c_int, List.length_cons, List.length_nil, List.cons_append, List.drop_succ_cons, List.drop_zero, List.drop_nil, List.nil_append, Int.reduceAdd, Int.reduceToNat, Int.reduceLT, Int.reduceLE, Nat.reduceAdd, Nat.reduceMul, Nat.reduceLeDiff, Int.reduceEq, Int.reduceSub, Int.cast_ofNat_Int, s_resc, s_consR, m_load4, m_store4, s_res0, ↓s_skip, ↓s_ops, ↓s_dops, ↓s_seq, ↓s_cond, ↓s_block, ↓s_exit, ↓s_ret, ↓s_scope, ↓s_nil, ↓s_op, ↓s_opg, ↓s_wanted', ↓s_wantV, s_wantV, s_wantV0, beq_true, beq_false, ↓s_bindS, s_bindS, ↓s_bindE, s_bindE, s_bindE_ret, s_bindE_exit, s_bindE_iteN, s_norm, ↓s_condV, s_condV, s_block_ret, s_block_normal, s_block_exit, s_block_iteN, ↓s_getp, ↓s_getp0, ↓s_get, s_get0, ↓s_con, ↓s_fn, ↓s_os0, ↓s_os1, ↓s_list0, ↓s_list1, ↓s_mov, ↓s_pick, ↓s_pickE, s_pickE, ↓s_bin, ↓s_un, ↓s_minmax, ↓s_call, ↓s_callv, ↓s_callV, ↓s_ext, s_same, b_eql, b_neq, b_lss, b_leq, b_gtr, b_geq, b_add, b_sub, b_mul, b_eqlb, b_neqb, b_fnil, b_fnil', b_fnil2, b_fnil2', u_neg, u_not, m_two, s_end, s_end', s_end_iteN, s_res0, s_res1, s_tup1, s_tup2, ↓iteN_true, ↓iteN_false, iteN_true, iteN_false, Nat.zero_add, List.nil_append, List.append_nil, Nat.reduceEqDiff, reduceIte, decide_true, decide_false, Bool.not_true, Bool.not_false, List.getElem?_cons_zero, List.getElem?_cons_succ, Bool.false_eq_true, if_true, if_false, beq_self_eq_true]
  exact fin _ ⟨(by (simp only [s_getp, s_getp0, Nat.reduceEqDiff, decide_false, decide_true, iteN_false, iteN_true, eR]; try rfl)), (by (simp only [s_getp, s_getp0, Nat.reduceEqDiff, decide_false, decide_true, iteN_false, iteN_true, eR]; try rfl)), (by (simp only [s_getp, s_getp0, Nat.reduceEqDiff, decide_false, decide_true, iteN_false, iteN_true, eR]; try rfl))⟩
end Go.Eng
namespace Go.Eng
open Go
variable {E : Nat → Option Fn} {X : Orc}
set_option linter.unusedSimpArgs false
set_option linter.unusedVariables false
def x8 (a b : Nat) : Nat := Nat.xor (a % 256) (b % 256)
theorem b_xor8 (e : EqK) (h : H) (a b : Nat) : binV .xor e h (.int .u8 (a : Int)) (.int .u8 (b : Int)) = some (.int .u8 (x8 a b : Nat)) := by
  have e1 : binV .xor e h (.int .u8 (a : Int)) (.int .u8 (b : Int)) = some (.int .u8 (asK .u8 (x8 a b))) := rfl
  have hl : x8 a b < 2 ^ 8 := Nat.xor_lt_two_pow (Nat.mod_lt _ (by decide)) (Nat.mod_lt _ (by decide))
  rw [e1]; unfold asK; rw [cond_blt, if_pos (by simp only [half]; omega)]; rfl
theorem x8_ne (a b : Nat) (ha : a < 256) (hb : b < 256) (h0 : b ≠ 0) : x8 a b ≠ a := by
  intro h
  unfold x8 at h
  rw [Nat.mod_eq_of_lt ha, Nat.mod_eq_of_lt hb] at h
  have h1 : a ^^^ b = a := h
  have h2 : a ^^^ (a ^^^ b) = b := by rw [← Nat.xor_assoc, Nat.xor_self, Nat.zero_xor]
  rw [h1, Nat.xor_self] at h2
  exact h0 h2.symm
theorem stIs (k : IntKind) (l : List Nat) (c : List V) (h : H) (i off : Nat) (hl : off + c.length ≤ l.length) : storeE (some (.cells (ofI k l) .sh)) h i off c = some (h.put i (.cells (writeN (ofI k l) off c) .sh)) := m_storeEs _ _ _ _ _ (by rw [ofI_len]; exact hl)
theorem shaV_byt (l : List Nat) : byt (shaV l) = true := by
  have : ∀ st i, byt (outN st i) = true := by
    intro st i
    induction i with
    | zero => rfl
    | succ i ih =>
      rw [byt_iff] at ih ⊢
      intro x hx
      unfold outN at hx
      rcases List.mem_append.1 hx with h | h
      · rcases List.mem_append.1 h with h | h
        · exact ih x (List.mem_of_mem_take h)
        · simp only [be4, List.mem_cons, List.not_mem_nil, or_false] at h; omega
      · exact ih x (List.mem_of_mem_drop h)
  exact this _ _
set_option maxRecDepth 100000 in
theorem law_SignTurned (k N : Nat) (e : E k_purserlaw09_SignTurned = some f_purserlaw09_SignTurned) (em : E k_purserlaw09_meet = some f_purserlaw09_meet) (hk : k = k_purserlaw09_alive) (hx : ∀ a h, sgX k (.fn k_purserlaw09_SignTurned) a h = none) (hxm : ∀ a h, sgX k (.fn k_purserlaw09_meet) a h = none) (hal : ∀ h, sgX k (.fn k) [] h = some (.bool true, h)) (s d : List Nat) (hs : s.length = 32) (hd : d.length = 32) (bs : byt s = true) (at_ by_ : Nat) (hat : at_ < 256) (hby : by_ < 256) (h : H) :
    ∃ h2, callX E (sgX k) (N + 1003) (.fn k_purserlaw09_SignTurned) [.agg (ofI .u8 s), .agg (ofI .u8 d), .int .u8 (at_ : Int), .int .u8 (by_ : Int)] h = some (.bool true, h2) := by
  rw [x_cfn e _ _ (Nat.le_of_ble_eq_true rfl) (hx _ _)]
  have al := fun h => r_alive (E := E) k (N + 1001) h (hal h)
  rw [hk] at al
  have hp := fun s h => r_pub (E := E) k (N + 1001) s h
  have hsg := fun s d h => r_sign (E := E) k (N + 1001) s d h
  have his := fun i oi j oj cp cs d h => r_is (E := E) k (N + 1001) i oi j oj cp cs d h
  have mt := fun q n hn cap cs v L h M => meet_go (E := E) (sg_has k) em hxm N q n hn cap cs v L h M
  rw [hk] at hp hsg his
  simp only [hk] at mt
  rw [hk, ← z32e]
  have c64 : decide ((64 : Int) = 64) = true := rfl
  have wat : wr .i64 (at_ : Int) = (at_ : Int) := w64n (by omega)
  obtain ⟨n, en⟩ : ∃ n, at_ % 96 = n := ⟨_, rfl⟩
  have ra : ∀ e h, binV .rem e h (.int .i64 (at_ : Int)) (.int .i64 96) = some (.int .i64 (n : Int)) := fun e h => by rw [b_rem _ _ _ _ _ (by omega), ← en]; rfl
  by_cases h0 : by_ = 0
  · have c0 : decide ((by_ : Int) = 0) = true := decide_eq_true (by omega)
    simp (config := {maxSteps := 2000000}) (disch := first | omega | rfl | (simp only [ofI_len, shaV_len, List.length_append, List.length_take, List.length_drop, List.length_cons, List.length_nil, List.length_replicate, List.length_set]; done) | (simp only [ofI_len, shaV_len, List.length_append, List.length_take, List.length_drop, List.length_cons, List.length_nil, List.length_replicate, List.length_set]; omega)) only [hs, hd, al, hp, hsg, c0, c64, vbeq_I, ↓s_dBuildS, s_dbE, rdI, ofI_get, m_src, m_src0, srcI, ldI, ld1I, wrAll, wrI, wr1I, stI, st32, take_all, drop_all, List.take_zero, List.drop_zero, List.nil_append, List.append_nil, appF_of, appFI, appF0, appU_of, appUIw, appUIs, app0, appN, eq32, neq32, ↓s_append, ↓x_copy, ↓x_slcA, x_slcAE, slcB_nn, slcB_hi, slcB_lo, slcB_lh, slcV_nn, slcV_hiU, slcV_hiC, slcV_lo, slcV_loL, slcV_hiUL, slcV_hiCL, slcV_mxL, slcB_hiL, slcB_loL, subC_some, subC_none, ↓x_slcS, x_bnd0, x_M1, x_M0, x_lenA, ofQ_some, Nat.sub_zero, ofI_len, shaV_len, ↓s_box, c_agg, List.length_append, List.length_cons, List.length_nil, Nat.reduceLeDiff, Nat.reduceSub, List.length_replicate, ↓b_xor32, ↓b_and32, ↓b_or32, ↓u_not32, b_xor32, b_and32, b_or32, u_not32, w32ad, ↓x_conv, x_convV, ↓x_fieldAddr, x_fieldV, ↓s_nilchk, x_nilchk, Nat.zero_add, Nat.add_zero, Nat.mul_one, ↓s_evD, ↓s_dnil, ↓s_dL, ↓s_dLg, ↓s_dR, ↓s_dRg, ↓s_dRj, ↓s_dRjg, ↓s_dB, ↓s_dBg, ↓s_dAlloc, ↓s_bindD, s_bindD, s_finD, s_finDx, s_addP0, s_addP1, s_addB, s_lookP, ↓s_bump0, ↓s_bump_get, s_bump_next, s_ok0, ↓s_ok1, s_okR0, ↓s_okR1, ↓s_okE, s_okE, s_okE1, s_nth0, s_nthS, Nat.add_zero, Bool.and_self, Bool.and_true, Bool.true_and, ↓l_loop, ↓l_succ, ↓l_normal, l_normal, l_exit, l_ret, l_iteN, ↓h_put_get, ↓h_new_get, ↓h_del_get, h_next_put, h_next_new, h_next_del, Nat.add_assoc, Nat.add_eq_left, Nat.left_eq_add, Nat.add_left_cancel_iff, ↓s_load, m_load, ↓m_load1, m_load1, ↓m_st, m_stE, m_storeI, m_storeE, ↓s_alloc, ↓x_idxA, ↓x_idxS, x_idxAE, x_idxSE, x_addrE, x_idx, x_lenS, ↓s_len, ↓x_buildS, x_buildE, ↓x_P0, ↓x_P1, x_fill0, x_filli, x_fills, x_fillb, c_int, List.length_cons, List.length_nil, List.cons_append, List.drop_succ_cons, List.drop_zero, List.drop_nil, List.nil_append, Int.reduceAdd, Int.reduceToNat, Int.reduceLT, Int.reduceLE, Nat.reduceAdd, Nat.reduceMul, Nat.reduceLeDiff, Int.reduceEq, Int.reduceSub, Int.cast_ofNat_Int, s_resc, s_consR, m_load4, m_store4, s_res0, ↓s_skip, ↓s_ops, ↓s_dops, ↓s_seq, ↓s_cond, ↓s_block, ↓s_exit, ↓s_ret, ↓s_scope, ↓s_nil, ↓s_op, ↓s_opg, ↓s_wanted', ↓s_wantV, s_wantV, s_wantV0, beq_true, beq_false, ↓s_bindS, s_bindS, ↓s_bindE, s_bindE, s_bindE_ret, s_bindE_exit, s_bindE_iteN, s_norm, ↓s_condV, s_condV, s_block_ret, s_block_normal, s_block_exit, s_block_iteN, ↓s_getp, ↓s_getp0, ↓s_get, s_get0, ↓s_con, ↓s_fn, ↓s_os0, ↓s_os1, ↓s_list0, ↓s_list1, ↓s_mov, ↓s_pick, ↓s_pickE, s_pickE, ↓s_bin, ↓s_un, ↓s_minmax, ↓s_call, ↓s_callv, ↓s_callV, ↓s_ext, s_same, b_eql, b_neq, b_lss, b_leq, b_gtr, b_geq, b_add, b_sub, b_mul, b_eqlb, b_neqb, b_fnil, b_fnil', b_fnil2, b_fnil2', u_neg, u_not, m_two, s_end, s_end', s_end_iteN, s_res0, s_res1, s_tup1, s_tup2, ↓iteN_true, ↓iteN_false, iteN_true, iteN_false, Nat.zero_add, List.nil_append, List.append_nil, Nat.reduceEqDiff, reduceIte, decide_true, decide_false, Bool.not_true, Bool.not_false, List.getElem?_cons_zero, List.getElem?_cons_succ, Bool.false_eq_true, if_true, if_false, beq_self_eq_true]
    exact ⟨_, rfl⟩
  · have c0 : decide ((by_ : Int) = 0) = false := decide_eq_false (by omega)
    by_cases h64 : n < 64
    · have c1 : decide ((n : Int) < 64) = true := decide_eq_true (by omega)
      have ix : idx (n : Int) 64 = some n := idxn h64
      obtain ⟨g, eg⟩ : ∃ g, s ++ shaV (s ++ d) = g := ⟨_, rfl⟩
      have hg : g.length = 64 := by rw [← eg, List.length_append, hs, shaV_len]
      obtain ⟨g', eg'⟩ : ∃ g', g.set n (x8 (g.getD n 0) by_) = g' := ⟨_, rfl⟩
      have hg' : g'.length = 64 := by rw [← eg', List.length_set]; exact hg
      have bg : byt g = true := by
        rw [← eg, byt_iff]
        intro x hx
        rcases List.mem_append.1 hx with h | h
        · exact byt_iff.1 bs x h
        · exact byt_iff.1 (shaV_byt _) x h
      have hgn : g.getD n 0 < 256 := byt_iff.1 bg _ (by rw [List.getD_eq_getElem?_getD, List.getElem?_eq_getElem (by omega)]; exact List.getElem_mem _)
      have xne := x8_ne (g.getD n 0) by_ hgn hby h0
      have hx8 : x8 (g.getD n 0) by_ < 256 := Nat.xor_lt_two_pow (n := 8) (Nat.mod_lt _ (by decide)) (Nat.mod_lt _ (by decide))
      have bg' : byt g' = true := by
        rw [← eg', byt_iff]
        intro x hx
        rcases List.mem_or_eq_of_mem_set hx with h | h
        · exact byt_iff.1 bg x h
        · rw [h]; exact hx8
      have tk : g.take 32 = s := by rw [← eg]; exact List.take_left' hs
      have dk : g.drop 32 = shaV (s ++ d) := by rw [← eg]; exact List.drop_left' hs
      obtain ⟨hm, ehm⟩ : ∃ hm, ((bump 1 (((((bump 1 ((h.new (.cells (ofI .u8 s) .rw)).new (.cells (ofI .u8 d) .rw))).new (.cells (ofI .u8 g) .sh)).put (h.next + 2) (.cells (ofI .u8 (List.replicate 32 0)) .rw)).put (h.next + 2) (.cells (ofI .u8 (shaV s)) .rw)).put (h.next + 3) (.cells (ofI .u8 g') .sh))).put (h.next + 4) (.cells [.slice (some (h.next, 0)) 32 (some 32) 1, .slice (some (h.next + 3, 0)) 32 none 1] .rw)) = hm := ⟨_, rfl⟩
      have m0 : hm.get h.next = some (.cells (ofI .u8 s) .rw) := by rw [← ehm]; (simp (disch := omega) only [l_loop, l_succ, l_normal, l_normal, l_exit, l_ret, l_iteN, h_put_get, h_new_get, h_del_get, h_next_put, h_next_new, h_next_del, Nat.add_assoc, Nat.add_eq_left, Nat.left_eq_add, Nat.add_left_cancel_iff, s_load, m_load, m_load1, m_load1, m_st, m_stE, m_storeI, m_storeE, w_zero, w_succ, s_alloc, x_idxA, x_idxS, x_idxAE, x_idxSE, x_addrE, x_idx, x_lenS, s_len, x_buildS, x_buildE, x_P0, x_P1, x_fill0, x_filli, x_fills, x_fillb, c_int, List.length_cons, List.length_nil, List.cons_append, List.drop_succ_cons, List.drop_zero, List.drop_nil, List.nil_append, Int.reduceAdd, Int.reduceToNat, Int.reduceLT, Int.reduceLE, Nat.reduceAdd, Nat.reduceMul, Nat.reduceLeDiff, Int.reduceEq, Int.reduceSub, Int.cast_ofNat_Int, s_resc, s_consR, m_load4, m_store4, s_res0, decide_true, decide_false, iteN_true, iteN_false, Nat.reduceEqDiff, Nat.reduceAdd, reduceCtorEq, s_bump_get, s_bump_next]; try rfl)
      have m1 : hm.get (h.next + 1) = some (.cells (ofI .u8 d) .rw) := by rw [← ehm]; (simp (disch := omega) only [l_loop, l_succ, l_normal, l_normal, l_exit, l_ret, l_iteN, h_put_get, h_new_get, h_del_get, h_next_put, h_next_new, h_next_del, Nat.add_assoc, Nat.add_eq_left, Nat.left_eq_add, Nat.add_left_cancel_iff, s_load, m_load, m_load1, m_load1, m_st, m_stE, m_storeI, m_storeE, w_zero, w_succ, s_alloc, x_idxA, x_idxS, x_idxAE, x_idxSE, x_addrE, x_idx, x_lenS, s_len, x_buildS, x_buildE, x_P0, x_P1, x_fill0, x_filli, x_fills, x_fillb, c_int, List.length_cons, List.length_nil, List.cons_append, List.drop_succ_cons, List.drop_zero, List.drop_nil, List.nil_append, Int.reduceAdd, Int.reduceToNat, Int.reduceLT, Int.reduceLE, Nat.reduceAdd, Nat.reduceMul, Nat.reduceLeDiff, Int.reduceEq, Int.reduceSub, Int.cast_ofNat_Int, s_resc, s_consR, m_load4, m_store4, s_res0, decide_true, decide_false, iteN_true, iteN_false, Nat.reduceEqDiff, Nat.reduceAdd, reduceCtorEq, s_bump_get, s_bump_next]; try rfl)
      have m2 : hm.get (h.next + 2) = some (.cells (ofI .u8 (shaV s)) .rw) := by rw [← ehm]; (simp (disch := omega) only [l_loop, l_succ, l_normal, l_normal, l_exit, l_ret, l_iteN, h_put_get, h_new_get, h_del_get, h_next_put, h_next_new, h_next_del, Nat.add_assoc, Nat.add_eq_left, Nat.left_eq_add, Nat.add_left_cancel_iff, s_load, m_load, m_load1, m_load1, m_st, m_stE, m_storeI, m_storeE, w_zero, w_succ, s_alloc, x_idxA, x_idxS, x_idxAE, x_idxSE, x_addrE, x_idx, x_lenS, s_len, x_buildS, x_buildE, x_P0, x_P1, x_fill0, x_filli, x_fills, x_fillb, c_int, List.length_cons, List.length_nil, List.cons_append, List.drop_succ_cons, List.drop_zero, List.drop_nil, List.nil_append, Int.reduceAdd, Int.reduceToNat, Int.reduceLT, Int.reduceLE, Nat.reduceAdd, Nat.reduceMul, Nat.reduceLeDiff, Int.reduceEq, Int.reduceSub, Int.cast_ofNat_Int, s_resc, s_consR, m_load4, m_store4, s_res0, decide_true, decide_false, iteN_true, iteN_false, Nat.reduceEqDiff, Nat.reduceAdd, reduceCtorEq, s_bump_get, s_bump_next]; try rfl)
      have m3 : hm.get (h.next + 3) = some (.cells (ofI .u8 g') .sh) := by rw [← ehm]; (simp (disch := omega) only [l_loop, l_succ, l_normal, l_normal, l_exit, l_ret, l_iteN, h_put_get, h_new_get, h_del_get, h_next_put, h_next_new, h_next_del, Nat.add_assoc, Nat.add_eq_left, Nat.left_eq_add, Nat.add_left_cancel_iff, s_load, m_load, m_load1, m_load1, m_st, m_stE, m_storeI, m_storeE, w_zero, w_succ, s_alloc, x_idxA, x_idxS, x_idxAE, x_idxSE, x_addrE, x_idx, x_lenS, s_len, x_buildS, x_buildE, x_P0, x_P1, x_fill0, x_filli, x_fills, x_fillb, c_int, List.length_cons, List.length_nil, List.cons_append, List.drop_succ_cons, List.drop_zero, List.drop_nil, List.nil_append, Int.reduceAdd, Int.reduceToNat, Int.reduceLT, Int.reduceLE, Nat.reduceAdd, Nat.reduceMul, Nat.reduceLeDiff, Int.reduceEq, Int.reduceSub, Int.cast_ofNat_Int, s_resc, s_consR, m_load4, m_store4, s_res0, decide_true, decide_false, iteN_true, iteN_false, Nat.reduceEqDiff, Nat.reduceAdd, reduceCtorEq, s_bump_get, s_bump_next]; try rfl)
      have m4 : hm.get (h.next + 4) = some (.cells [.slice (some (h.next, 0)) 32 (some 32) 1, .slice (some (h.next + 3, 0)) 32 none 1] .rw) := by rw [← ehm]; (simp (disch := omega) only [l_loop, l_succ, l_normal, l_normal, l_exit, l_ret, l_iteN, h_put_get, h_new_get, h_del_get, h_next_put, h_next_new, h_next_del, Nat.add_assoc, Nat.add_eq_left, Nat.left_eq_add, Nat.add_left_cancel_iff, s_load, m_load, m_load1, m_load1, m_st, m_stE, m_storeI, m_storeE, w_zero, w_succ, s_alloc, x_idxA, x_idxS, x_idxAE, x_idxSE, x_addrE, x_idx, x_lenS, s_len, x_buildS, x_buildE, x_P0, x_P1, x_fill0, x_filli, x_fills, x_fillb, c_int, List.length_cons, List.length_nil, List.cons_append, List.drop_succ_cons, List.drop_zero, List.drop_nil, List.nil_append, Int.reduceAdd, Int.reduceToNat, Int.reduceLT, Int.reduceLE, Nat.reduceAdd, Nat.reduceMul, Nat.reduceLeDiff, Int.reduceEq, Int.reduceSub, Int.cast_ofNat_Int, s_resc, s_consR, m_load4, m_store4, s_res0, decide_true, decide_false, iteN_true, iteN_false, Nat.reduceEqDiff, Nat.reduceAdd, reduceCtorEq, s_bump_get, s_bump_next]; try rfl)
      have M : Mt hm (h.next + 4) 2 [.slice (some (h.next, 0)) 32 (some 32) 1, .slice (some (h.next + 3, 0)) 32 none 1] (fun i => if i = 0 then .slice (some (h.next, 0)) 32 (some 32) 1 else .slice (some (h.next + 3, 0)) 32 none 1) (fun i => if i = 0 then s else g'.take 32) := by
        refine ⟨⟨_, m4⟩, ?_, ?_, ?_, ?_, ?_⟩
        · intro i hi; match i, hi with | 0, _ => rfl | 1, _ => rfl
        · intro i hi
          match i, hi with
          | 0, _ => simp only [if_true]; rw [nx_bs1, m0, nsI _ bs _ _ _ (by omega), List.drop_zero, take_all _ _ (by omega)]
          | 1, _ => simp only [Nat.one_ne_zero, if_false]; rw [nx_bs1, m3, nsI _ bg' _ _ _ (by omega), List.drop_zero]
        · intro i hi
          match i, hi with
          | 0, _ => simp only [if_true]; show rdC 32 0 (hm.get h.next) = _; rw [m0, rdI _ _ _ _ (by omega), List.drop_zero, take_all _ _ (by omega)]
          | 1, _ => simp only [Nat.one_ne_zero, if_false]; show rdC 32 0 (hm.get (h.next + 3)) = _; rw [m3, rdI _ _ _ _ (by omega), List.drop_zero]
        · intro i hi
          match i, hi with
          | 0, _ => simp only [if_true]; omega
          | 1, _ => simp only [Nat.one_ne_zero, if_false, List.length_take]; omega
        · intro i; split <;> exact ⟨_, _, _, _, rfl⟩
      rcases mt (h.next + 4) 2 (by omega) (some 2) _ _ _ hm M with ⟨r, i, j, hj, hi, hpp⟩ | ⟨r, hnp⟩
      · simp (config := {maxSteps := 2000000}) (disch := first | omega | rfl | (simp only [ofI_len, shaV_len, List.length_append, List.length_take, List.length_drop, List.length_cons, List.length_nil, List.length_replicate, List.length_set]; done) | (simp only [ofI_len, shaV_len, List.length_append, List.length_take, List.length_drop, List.length_cons, List.length_nil, List.length_replicate, List.length_set]; omega)) only [hs, hd, hg, hg', eg, eg', al, hp, hsg, his, c0, c1, c64, wat, ra, ix, ehm, w_c0, w_succ, r, m0, m1, m2, m3, isQ_none, stIs, b_xor8, ↓x_s2a, s2a_of, vbeq_I, ↓s_dBuildS, s_dbE, rdI, ofI_get, m_src, m_src0, srcI, ldI, ld1I, wrAll, wrI, wr1I, stI, st32, take_all, drop_all, List.take_zero, List.drop_zero, List.nil_append, List.append_nil, appF_of, appFI, appF0, appU_of, appUIw, appUIs, app0, appN, eq32, neq32, ↓s_append, ↓x_copy, ↓x_slcA, x_slcAE, slcB_nn, slcB_hi, slcB_lo, slcB_lh, slcV_nn, slcV_hiU, slcV_hiC, slcV_lo, slcV_loL, slcV_hiUL, slcV_hiCL, slcV_mxL, slcB_hiL, slcB_loL, subC_some, subC_none, ↓x_slcS, x_bnd0, x_M1, x_M0, x_lenA, ofQ_some, Nat.sub_zero, ofI_len, shaV_len, ↓s_box, c_agg, List.length_append, List.length_cons, List.length_nil, Nat.reduceLeDiff, Nat.reduceSub, List.length_replicate, ↓b_xor32, ↓b_and32, ↓b_or32, ↓u_not32, b_xor32, b_and32, b_or32, u_not32, w32ad, ↓x_conv, x_convV, ↓x_fieldAddr, x_fieldV, ↓s_nilchk, x_nilchk, Nat.zero_add, Nat.add_zero, Nat.mul_one, ↓s_evD, ↓s_dnil, ↓s_dL, ↓s_dLg, ↓s_dR, ↓s_dRg, ↓s_dRj, ↓s_dRjg, ↓s_dB, ↓s_dBg, ↓s_dAlloc, ↓s_bindD, s_bindD, s_finD, s_finDx, s_addP0, s_addP1, s_addB, s_lookP, ↓s_bump0, ↓s_bump_get, s_bump_next, s_ok0, ↓s_ok1, s_okR0, ↓s_okR1, ↓s_okE, s_okE, s_okE1, s_nth0, s_nthS, Nat.add_zero, Bool.and_self, Bool.and_true, Bool.true_and, ↓l_loop, ↓l_succ, ↓l_normal, l_normal, l_exit, l_ret, l_iteN, ↓h_put_get, ↓h_new_get, ↓h_del_get, h_next_put, h_next_new, h_next_del, Nat.add_assoc, Nat.add_eq_left, Nat.left_eq_add, Nat.add_left_cancel_iff, ↓s_load, m_load, ↓m_load1, m_load1, ↓m_st, m_stE, m_storeI, m_storeE, ↓s_alloc, ↓x_idxA, ↓x_idxS, x_idxAE, x_idxSE, x_addrE, x_idx, x_lenS, ↓s_len, ↓x_buildS, x_buildE, ↓x_P0, ↓x_P1, x_fill0, x_filli, x_fills, x_fillb, c_int, List.length_cons, List.length_nil, List.cons_append, List.drop_succ_cons, List.drop_zero, List.drop_nil, List.nil_append, Int.reduceAdd, Int.reduceToNat, Int.reduceLT, Int.reduceLE, Nat.reduceAdd, Nat.reduceMul, Nat.reduceLeDiff, Int.reduceEq, Int.reduceSub, Int.cast_ofNat_Int, s_resc, s_consR, m_load4, m_store4, s_res0, ↓s_skip, ↓s_ops, ↓s_dops, ↓s_seq, ↓s_cond, ↓s_block, ↓s_exit, ↓s_ret, ↓s_scope, ↓s_nil, ↓s_op, ↓s_opg, ↓s_wanted', ↓s_wantV, s_wantV, s_wantV0, beq_true, beq_false, ↓s_bindS, s_bindS, ↓s_bindE, s_bindE, s_bindE_ret, s_bindE_exit, s_bindE_iteN, s_norm, ↓s_condV, s_condV, s_block_ret, s_block_normal, s_block_exit, s_block_iteN, ↓s_getp, ↓s_getp0, ↓s_get, s_get0, ↓s_con, ↓s_fn, ↓s_os0, ↓s_os1, ↓s_list0, ↓s_list1, ↓s_mov, ↓s_pick, ↓s_pickE, s_pickE, ↓s_bin, ↓s_un, ↓s_minmax, ↓s_call, ↓s_callv, ↓s_callV, ↓s_ext, s_same, b_eql, b_neq, b_lss, b_leq, b_gtr, b_geq, b_add, b_sub, b_mul, b_eqlb, b_neqb, b_fnil, b_fnil', b_fnil2, b_fnil2', u_neg, u_not, m_two, s_end, s_end', s_end_iteN, s_res0, s_res1, s_tup1, s_tup2, ↓iteN_true, ↓iteN_false, iteN_true, iteN_false, Nat.zero_add, List.nil_append, List.append_nil, Nat.reduceEqDiff, reduceIte, decide_true, decide_false, Bool.not_true, Bool.not_false, List.getElem?_cons_zero, List.getElem?_cons_succ, Bool.false_eq_true, if_true, if_false, beq_self_eq_true]
        exact ⟨_, rfl⟩
      · have h10 := hnp 1 0 (by omega) (by omega)
        have iv : isV (shaV s) g' d = false := by
          unfold isV
          simp only [pairB, Nat.one_ne_zero, if_false, if_true, Bool.and_eq_false_iff, Bool.not_eq_false', decide_eq_true_eq, decide_eq_false_iff_not] at h10
          simp only [Bool.and_eq_false_iff, decide_eq_false_iff_not]
          by_cases hn : n < 32
          · rcases h10 with q | q
            · exfalso
              have e1 : (g'.take 32).getD n 0 = x8 (g.getD n 0) by_ := by
                rw [List.getD_eq_getElem?_getD, List.getElem?_take_of_lt hn, ← eg', List.getElem?_set_self (by omega)]; rfl
              have e2 : s.getD n 0 = g.getD n 0 := by
                rw [← tk, List.getD_eq_getElem?_getD, List.getElem?_take_of_lt hn, ← List.getD_eq_getElem?_getD]
              rw [q, e2] at e1
              exact xne e1.symm
            · exact .inl q
          · right
            intro q
            have e0 : g'.take 32 = s := by rw [← eg', List.take_set_of_le (by omega), tk]
            have e3 : g'.drop 32 = g.drop 32 := by rw [← q, e0, dk]
            have e4 : (g'.drop 32).getD (n - 32) 0 = x8 (g.getD n 0) by_ := by
              rw [List.getD_eq_getElem?_getD, List.getElem?_drop, show 32 + (n - 32) = n by omega, ← eg', List.getElem?_set_self (by omega)]; rfl
            have e5 : (g.drop 32).getD (n - 32) 0 = g.getD n 0 := by
              rw [List.getD_eq_getElem?_getD, List.getElem?_drop, show 32 + (n - 32) = n by omega, ← List.getD_eq_getElem?_getD]
            rw [e3, e5] at e4
            exact xne e4.symm
        simp (config := {maxSteps := 2000000}) (disch := first | omega | rfl | (simp only [ofI_len, shaV_len, List.length_append, List.length_take, List.length_drop, List.length_cons, List.length_nil, List.length_replicate, List.length_set]; done) | (simp only [ofI_len, shaV_len, List.length_append, List.length_take, List.length_drop, List.length_cons, List.length_nil, List.length_replicate, List.length_set]; omega)) only [hs, hd, hg, hg', eg, eg', al, hp, hsg, his, c0, c1, c64, wat, ra, ix, ehm, w_c0, w_succ, r, m0, m1, m2, m3, iv, isQ_none, stIs, b_xor8, ↓x_s2a, s2a_of, vbeq_I, ↓s_dBuildS, s_dbE, rdI, ofI_get, m_src, m_src0, srcI, ldI, ld1I, wrAll, wrI, wr1I, stI, st32, take_all, drop_all, List.take_zero, List.drop_zero, List.nil_append, List.append_nil, appF_of, appFI, appF0, appU_of, appUIw, appUIs, app0, appN, eq32, neq32, ↓s_append, ↓x_copy, ↓x_slcA, x_slcAE, slcB_nn, slcB_hi, slcB_lo, slcB_lh, slcV_nn, slcV_hiU, slcV_hiC, slcV_lo, slcV_loL, slcV_hiUL, slcV_hiCL, slcV_mxL, slcB_hiL, slcB_loL, subC_some, subC_none, ↓x_slcS, x_bnd0, x_M1, x_M0, x_lenA, ofQ_some, Nat.sub_zero, ofI_len, shaV_len, ↓s_box, c_agg, List.length_append, List.length_cons, List.length_nil, Nat.reduceLeDiff, Nat.reduceSub, List.length_replicate, ↓b_xor32, ↓b_and32, ↓b_or32, ↓u_not32, b_xor32, b_and32, b_or32, u_not32, w32ad, ↓x_conv, x_convV, ↓x_fieldAddr, x_fieldV, ↓s_nilchk, x_nilchk, Nat.zero_add, Nat.add_zero, Nat.mul_one, ↓s_evD, ↓s_dnil, ↓s_dL, ↓s_dLg, ↓s_dR, ↓s_dRg, ↓s_dRj, ↓s_dRjg, ↓s_dB, ↓s_dBg, ↓s_dAlloc, ↓s_bindD, s_bindD, s_finD, s_finDx, s_addP0, s_addP1, s_addB, s_lookP, ↓s_bump0, ↓s_bump_get, s_bump_next, s_ok0, ↓s_ok1, s_okR0, ↓s_okR1, ↓s_okE, s_okE, s_okE1, s_nth0, s_nthS, Nat.add_zero, Bool.and_self, Bool.and_true, Bool.true_and, ↓l_loop, ↓l_succ, ↓l_normal, l_normal, l_exit, l_ret, l_iteN, ↓h_put_get, ↓h_new_get, ↓h_del_get, h_next_put, h_next_new, h_next_del, Nat.add_assoc, Nat.add_eq_left, Nat.left_eq_add, Nat.add_left_cancel_iff, ↓s_load, m_load, ↓m_load1, m_load1, ↓m_st, m_stE, m_storeI, m_storeE, ↓s_alloc, ↓x_idxA, ↓x_idxS, x_idxAE, x_idxSE, x_addrE, x_idx, x_lenS, ↓s_len, ↓x_buildS, x_buildE, ↓x_P0, ↓x_P1, x_fill0, x_filli, x_fills, x_fillb, c_int, List.length_cons, List.length_nil, List.cons_append, List.drop_succ_cons, List.drop_zero, List.drop_nil, List.nil_append, Int.reduceAdd, Int.reduceToNat, Int.reduceLT, Int.reduceLE, Nat.reduceAdd, Nat.reduceMul, Nat.reduceLeDiff, Int.reduceEq, Int.reduceSub, Int.cast_ofNat_Int, s_resc, s_consR, m_load4, m_store4, s_res0, ↓s_skip, ↓s_ops, ↓s_dops, ↓s_seq, ↓s_cond, ↓s_block, ↓s_exit, ↓s_ret, ↓s_scope, ↓s_nil, ↓s_op, ↓s_opg, ↓s_wanted', ↓s_wantV, s_wantV, s_wantV0, beq_true, beq_false, ↓s_bindS, s_bindS, ↓s_bindE, s_bindE, s_bindE_ret, s_bindE_exit, s_bindE_iteN, s_norm, ↓s_condV, s_condV, s_block_ret, s_block_normal, s_block_exit, s_block_iteN, ↓s_getp, ↓s_getp0, ↓s_get, s_get0, ↓s_con, ↓s_fn, ↓s_os0, ↓s_os1, ↓s_list0, ↓s_list1, ↓s_mov, ↓s_pick, ↓s_pickE, s_pickE, ↓s_bin, ↓s_un, ↓s_minmax, ↓s_call, ↓s_callv, ↓s_callV, ↓s_ext, s_same, b_eql, b_neq, b_lss, b_leq, b_gtr, b_geq, b_add, b_sub, b_mul, b_eqlb, b_neqb, b_fnil, b_fnil', b_fnil2, b_fnil2', u_neg, u_not, m_two, s_end, s_end', s_end_iteN, s_res0, s_res1, s_tup1, s_tup2, ↓iteN_true, ↓iteN_false, iteN_true, iteN_false, Nat.zero_add, List.nil_append, List.append_nil, Nat.reduceEqDiff, reduceIte, decide_true, decide_false, Bool.not_true, Bool.not_false, List.getElem?_cons_zero, List.getElem?_cons_succ, Bool.false_eq_true, if_true, if_false, beq_self_eq_true]
        exact ⟨_, rfl⟩
    · have c1 : decide ((n : Int) < 64) = false := decide_eq_false (by omega)
      have hn96 : n < 96 := by omega
      have wn : wr .i64 ((n : Int) - 64) = ((n - 64 : Nat) : Int) := by rw [wr_i64 (by omega)]; omega
      have ix : idx ((n - 64 : Nat) : Int) 32 = some (n - 64) := idxn (by omega)
      obtain ⟨g, eg⟩ : ∃ g, s ++ shaV (s ++ d) = g := ⟨_, rfl⟩
      have hg : g.length = 64 := by rw [← eg, List.length_append, hs, shaV_len]
      obtain ⟨K, eK⟩ : ∃ K, shaV s = K := ⟨_, rfl⟩
      have hK : K.length = 32 := by rw [← eK]; exact shaV_len _
      obtain ⟨K', eK'⟩ : ∃ g', K.set (n - 64) (x8 (K.getD (n - 64) 0) by_) = g' := ⟨_, rfl⟩
      have hK' : K'.length = 32 := by rw [← eK', List.length_set]; exact hK
      have bK : byt K = true := by rw [← eK]; exact shaV_byt _
      have hKn : K.getD (n - 64) 0 < 256 := byt_iff.1 bK _ (by rw [List.getD_eq_getElem?_getD, List.getElem?_eq_getElem (by omega)]; exact List.getElem_mem _)
      have xne := x8_ne (K.getD (n - 64) 0) by_ hKn hby h0
      have tk : g.take 32 = s := by rw [← eg]; exact List.take_left' hs
      have iv : isV K' g d = false := by
        unfold isV
        rw [tk, eK]
        simp only [Bool.and_eq_false_iff, decide_eq_false_iff_not]
        left
        intro q
        have e1 : K'.getD (n - 64) 0 = x8 (K.getD (n - 64) 0) by_ := by
          rw [List.getD_eq_getElem?_getD, ← eK', List.getElem?_set_self (by omega)]; rfl
        rw [← q] at e1
        exact xne e1.symm
      simp (config := {maxSteps := 2000000}) (disch := first | omega | rfl | (simp only [ofI_len, shaV_len, List.length_append, List.length_take, List.length_drop, List.length_cons, List.length_nil, List.length_replicate, List.length_set]; done) | (simp only [ofI_len, shaV_len, List.length_append, List.length_take, List.length_drop, List.length_cons, List.length_nil, List.length_replicate, List.length_set]; omega)) only [hs, hd, hg, hK, hK', eg, eK, eK', al, hp, hsg, his, c0, c1, c64, wat, ra, wn, ix, iv, isQ_none, stIs, b_xor8, ↓x_s2a, s2a_of, vbeq_I, ↓s_dBuildS, s_dbE, rdI, ofI_get, m_src, m_src0, srcI, ldI, ld1I, wrAll, wrI, wr1I, stI, st32, take_all, drop_all, List.take_zero, List.drop_zero, List.nil_append, List.append_nil, appF_of, appFI, appF0, appU_of, appUIw, appUIs, app0, appN, eq32, neq32, ↓s_append, ↓x_copy, ↓x_slcA, x_slcAE, slcB_nn, slcB_hi, slcB_lo, slcB_lh, slcV_nn, slcV_hiU, slcV_hiC, slcV_lo, slcV_loL, slcV_hiUL, slcV_hiCL, slcV_mxL, slcB_hiL, slcB_loL, subC_some, subC_none, ↓x_slcS, x_bnd0, x_M1, x_M0, x_lenA, ofQ_some, Nat.sub_zero, ofI_len, shaV_len, ↓s_box, c_agg, List.length_append, List.length_cons, List.length_nil, Nat.reduceLeDiff, Nat.reduceSub, List.length_replicate, ↓b_xor32, ↓b_and32, ↓b_or32, ↓u_not32, b_xor32, b_and32, b_or32, u_not32, w32ad, ↓x_conv, x_convV, ↓x_fieldAddr, x_fieldV, ↓s_nilchk, x_nilchk, Nat.zero_add, Nat.add_zero, Nat.mul_one, ↓s_evD, ↓s_dnil, ↓s_dL, ↓s_dLg, ↓s_dR, ↓s_dRg, ↓s_dRj, ↓s_dRjg, ↓s_dB, ↓s_dBg, ↓s_dAlloc, ↓s_bindD, s_bindD, s_finD, s_finDx, s_addP0, s_addP1, s_addB, s_lookP, ↓s_bump0, ↓s_bump_get, s_bump_next, s_ok0, ↓s_ok1, s_okR0, ↓s_okR1, ↓s_okE, s_okE, s_okE1, s_nth0, s_nthS, Nat.add_zero, Bool.and_self, Bool.and_true, Bool.true_and, ↓l_loop, ↓l_succ, ↓l_normal, l_normal, l_exit, l_ret, l_iteN, ↓h_put_get, ↓h_new_get, ↓h_del_get, h_next_put, h_next_new, h_next_del, Nat.add_assoc, Nat.add_eq_left, Nat.left_eq_add, Nat.add_left_cancel_iff, ↓s_load, m_load, ↓m_load1, m_load1, ↓m_st, m_stE, m_storeI, m_storeE, ↓s_alloc, ↓x_idxA, ↓x_idxS, x_idxAE, x_idxSE, x_addrE, x_idx, x_lenS, ↓s_len, ↓x_buildS, x_buildE, ↓x_P0, ↓x_P1, x_fill0, x_filli, x_fills, x_fillb, c_int, List.length_cons, List.length_nil, List.cons_append, List.drop_succ_cons, List.drop_zero, List.drop_nil, List.nil_append, Int.reduceAdd, Int.reduceToNat, Int.reduceLT, Int.reduceLE, Nat.reduceAdd, Nat.reduceMul, Nat.reduceLeDiff, Int.reduceEq, Int.reduceSub, Int.cast_ofNat_Int, s_resc, s_consR, m_load4, m_store4, s_res0, ↓s_skip, ↓s_ops, ↓s_dops, ↓s_seq, ↓s_cond, ↓s_block, ↓s_exit, ↓s_ret, ↓s_scope, ↓s_nil, ↓s_op, ↓s_opg, ↓s_wanted', ↓s_wantV, s_wantV, s_wantV0, beq_true, beq_false, ↓s_bindS, s_bindS, ↓s_bindE, s_bindE, s_bindE_ret, s_bindE_exit, s_bindE_iteN, s_norm, ↓s_condV, s_condV, s_block_ret, s_block_normal, s_block_exit, s_block_iteN, ↓s_getp, ↓s_getp0, ↓s_get, s_get0, ↓s_con, ↓s_fn, ↓s_os0, ↓s_os1, ↓s_list0, ↓s_list1, ↓s_mov, ↓s_pick, ↓s_pickE, s_pickE, ↓s_bin, ↓s_un, ↓s_minmax, ↓s_call, ↓s_callv, ↓s_callV, ↓s_ext, s_same, b_eql, b_neq, b_lss, b_leq, b_gtr, b_geq, b_add, b_sub, b_mul, b_eqlb, b_neqb, b_fnil, b_fnil', b_fnil2, b_fnil2', u_neg, u_not, m_two, s_end, s_end', s_end_iteN, s_res0, s_res1, s_tup1, s_tup2, ↓iteN_true, ↓iteN_false, iteN_true, iteN_false, Nat.zero_add, List.nil_append, List.append_nil, Nat.reduceEqDiff, reduceIte, decide_true, decide_false, Bool.not_true, Bool.not_false, List.getElem?_cons_zero, List.getElem?_cons_succ, Bool.false_eq_true, if_true, if_false, beq_self_eq_true]
      exact ⟨_, rfl⟩
end Go.Eng
