/- What functions of the program come to: own work. -/
import Derived.Test.YtcnfdncdilpgbaaOjA
namespace Go.Eng
open Go
variable {E : Nat → Option Fn} {X : Orc}
set_option linter.unusedSimpArgs false
set_option linter.unusedVariables false
theorem bequal_go (e : EnOp E) (x : NoOp X) (N : Nat) (l m : List Nat) (bl : byt l = true) (bm : byt m = true) (a b : Option (Nat × Nat)) (c d : Option Nat) (ea eb : Nat) (h : H) (sl : SrcH h a ea l) (sm : SrcH h b eb m) :
    callX E X (N + 1) (.fn k_bytes_Equal) [.slice a l.length c ea, .slice b m.length d eb] h = some (.bool (decide (l = m)), h) := by
  rw [x_cfn e.be _ _ (Nat.le_of_ble_eq_true rfl) (x.be _ _)]
  have s1 := str_src sl bl c
  have s2 := str_src sm bm d
  generalize l.length = n at *
  generalize m.length = k at *
  simp (config := {maxSteps := 2000000}) (disch := first | omega | (simp only [List.length_cons, List.length_nil, List.length_append, List.length_drop]; omega)) only [s1, s2, b_seq, ↓ns_b2s, ↓b_xor32, ↓b_and32, ↓b_or32, ↓u_not32, b_xor32, b_and32, b_or32, u_not32, w32ad, ↓x_conv, x_convV, ↓x_fieldAddr, x_fieldV, ↓s_nilchk, x_nilchk, Nat.zero_add, Nat.add_zero, Nat.mul_one, ↓l_loop, ↓l_succ, ↓l_normal, l_normal, l_exit, l_ret, l_iteN, ↓h_put_get, ↓h_new_get, ↓h_del_get, h_next_put, h_next_new, h_next_del, Nat.add_assoc, Nat.add_eq_left, Nat.left_eq_add, Nat.add_left_cancel_iff, ↓s_load, m_load, ↓m_load1, m_load1, ↓m_st, m_stE, m_storeI, m_storeE, w_zero, w_succ, ↓s_alloc, ↓x_idxA, ↓x_idxS, x_idxAE, x_idxSE, x_addrE, x_idx, x_lenS, ↓s_len, ↓x_buildS, x_buildE, ↓x_P0, ↓x_P1, x_fill0, x_filli, x_fills, x_fillb, c_int, List.length_cons, List.length_nil, List.cons_append, List.drop_succ_cons, List.drop_zero, List.drop_nil, List.nil_append, Int.reduceAdd, Int.reduceToNat, Int.reduceLT, Int.reduceLE, Nat.reduceAdd, Nat.reduceMul, Nat.reduceLeDiff, Int.reduceEq, Int.reduceSub, Int.cast_ofNat_Int, s_resc, s_consR, m_load4, m_store4, s_res0, ↓s_skip, ↓s_ops, ↓s_dops, ↓s_seq, ↓s_cond, ↓s_block, ↓s_exit, ↓s_ret, ↓s_scope, ↓s_nil, ↓s_op, ↓s_opg, ↓s_wanted', ↓s_wantV, s_wantV, s_wantV0, beq_true, beq_false, ↓s_bindS, s_bindS, ↓s_bindE, s_bindE, s_bindE_ret, s_bindE_exit, s_bindE_iteN, s_norm, ↓s_condV, s_condV, s_block_ret, s_block_normal, s_block_exit, s_block_iteN, ↓s_getp, ↓s_getp0, ↓s_get, s_get0, ↓s_con, ↓s_fn, ↓s_os0, ↓s_os1, ↓s_list0, ↓s_list1, ↓s_mov, ↓s_pick, ↓s_pickE, s_pickE, ↓s_bin, ↓s_un, ↓s_minmax, ↓s_call, ↓s_callv, ↓s_callV, ↓s_ext, s_same, b_eql, b_neq, b_lss, b_leq, b_gtr, b_geq, b_add, b_sub, b_mul, b_eqlb, b_neqb, b_fnil, b_fnil', b_fnil2, b_fnil2', u_neg, u_not, m_two, s_end, s_end', s_end_iteN, s_res0, s_res1, s_tup1, s_tup2, ↓iteN_true, ↓iteN_false, iteN_true, iteN_false, Nat.zero_add, List.nil_append, List.append_nil, Nat.reduceEqDiff, reduceIte, decide_true, decide_false, Bool.not_true, Bool.not_false, List.getElem?_cons_zero, List.getElem?_cons_succ, Bool.false_eq_true, if_true, if_false, beq_self_eq_true]
theorem sameOp_go (e : EnOp E) (x : NoOp X) (N : Nat) (o p : Oq) (ok : o.ok) (pk : p.ok) (a b : Option (Nat × Nat)) (c d : Option Nat) (ea eb : Nat) (h : H) (so : SrcH h a ea o.l) (sp : SrcH h b eb p.l) :
    ∃ h', callX E X (N + 2) (.fn k_ops_sameOp) [.agg [.int .u8 (o.code : Int), .slice a o.l.length c ea], .agg [.int .u8 (p.code : Int), .slice b p.l.length d eb]] h = some (.bool (decide (o = p)), h') ∧ Kp h h' := by
  rw [x_cfn e.so _ _ (Nat.le_of_ble_eq_true rfl) (x.so _ _)]
  have ca : ∀ l : List V, (V.agg l).cells = l := fun _ => rfl
  obtain ⟨hA, eA⟩ : ∃ hA, (h.new (.cells [.int .u8 (o.code : Int), .slice a o.l.length c ea] .rw)).new (.cells [.int .u8 (p.code : Int), .slice b p.l.length d eb] .rw) = hA := ⟨_, rfl⟩
  have kA : Kp h hA := by rw [← eA]; (repeat (first | exact Kp.refl _ | refine Kp.put ?_ _ (by first | omega | (simp only [h_next_put, h_next_new, h_next_del]; omega)) | refine Kp.del ?_ (by first | omega | (simp only [h_next_put, h_next_new, h_next_del]; omega)) | refine Kp.trans ?_ (Kp.new _ _)))
  have g1 : hA.get h.next = some (.cells [.int .u8 (o.code : Int), .slice a o.l.length c ea] .rw) := by rw [← eA]; (simp (disch := omega) only [l_loop, l_succ, l_normal, l_normal, l_exit, l_ret, l_iteN, h_put_get, h_new_get, h_del_get, h_next_put, h_next_new, h_next_del, Nat.add_assoc, Nat.add_eq_left, Nat.left_eq_add, Nat.add_left_cancel_iff, s_load, m_load, m_load1, m_load1, m_st, m_stE, m_storeI, m_storeE, w_zero, w_succ, s_alloc, x_idxA, x_idxS, x_idxAE, x_idxSE, x_addrE, x_idx, x_lenS, s_len, x_buildS, x_buildE, x_P0, x_P1, x_fill0, x_filli, x_fills, x_fillb, c_int, List.length_cons, List.length_nil, List.cons_append, List.drop_succ_cons, List.drop_zero, List.drop_nil, List.nil_append, Int.reduceAdd, Int.reduceToNat, Int.reduceLT, Int.reduceLE, Nat.reduceAdd, Nat.reduceMul, Nat.reduceLeDiff, Int.reduceEq, Int.reduceSub, Int.cast_ofNat_Int, s_resc, s_consR, m_load4, m_store4, s_res0, decide_true, decide_false, iteN_true, iteN_false, Nat.reduceEqDiff, Nat.reduceAdd, reduceCtorEq, ]; try rfl)
  have g2 : hA.get (h.next + 1) = some (.cells [.int .u8 (p.code : Int), .slice b p.l.length d eb] .rw) := by rw [← eA]; (simp (disch := omega) only [l_loop, l_succ, l_normal, l_normal, l_exit, l_ret, l_iteN, h_put_get, h_new_get, h_del_get, h_next_put, h_next_new, h_next_del, Nat.add_assoc, Nat.add_eq_left, Nat.left_eq_add, Nat.add_left_cancel_iff, s_load, m_load, m_load1, m_load1, m_st, m_stE, m_storeI, m_storeE, w_zero, w_succ, s_alloc, x_idxA, x_idxS, x_idxAE, x_idxSE, x_addrE, x_idx, x_lenS, s_len, x_buildS, x_buildE, x_P0, x_P1, x_fill0, x_filli, x_fills, x_fillb, c_int, List.length_cons, List.length_nil, List.cons_append, List.drop_succ_cons, List.drop_zero, List.drop_nil, List.nil_append, Int.reduceAdd, Int.reduceToNat, Int.reduceLT, Int.reduceLE, Nat.reduceAdd, Nat.reduceMul, Nat.reduceLeDiff, Int.reduceEq, Int.reduceSub, Int.cast_ofNat_Int, s_resc, s_consR, m_load4, m_store4, s_res0, decide_true, decide_false, iteN_true, iteN_false, Nat.reduceEqDiff, Nat.reduceAdd, reduceCtorEq, ]; try rfl)
  refine ⟨hA, ?_, kA⟩
  have rb := bequal_go e x N o.l p.l ok.bl pk.bl a b c d ea eb hA (so.mono kA) (sp.mono kA)
  have oc := ok.cl
  have pc := pk.cl
  by_cases ec : o.code = p.code
  · have c0 : decide ((o.code : Int) = (p.code : Int)) = true := decide_eq_true (by omega)
    have er : decide (o.l = p.l) = decide (o = p) := by
      rw [decide_eq_decide]
      constructor
      · intro h; cases o; cases p; simp_all
      · intro h; rw [h]
    rw [er] at rb
    generalize o.l.length = n at *
    generalize p.l.length = k at *
    simp (config := {maxSteps := 2000000}) (disch := first | omega | (simp only [List.length_cons, List.length_nil, List.length_append, List.length_drop]; omega)) only [ca, eA, g1, g2, rb, c0, ↓s_box, ↓b_xor32, ↓b_and32, ↓b_or32, ↓u_not32, b_xor32, b_and32, b_or32, u_not32, w32ad, ↓x_conv, x_convV, ↓x_fieldAddr, x_fieldV, ↓s_nilchk, x_nilchk, Nat.zero_add, Nat.add_zero, Nat.mul_one, ↓s_evD, ↓s_dnil, ↓s_dL, ↓s_dLg, ↓s_dR, ↓s_dRg, ↓s_dRj, ↓s_dRjg, ↓s_dB, ↓s_dBg, ↓s_dAlloc, ↓s_bindD, s_bindD, s_finD, s_finDx, s_addP0, s_addP1, s_addB, s_lookP, ↓s_bump0, ↓s_bump_get, s_bump_next, s_ok0, ↓s_ok1, s_okR0, ↓s_okR1, ↓s_okE, s_okE, s_okE1, s_nth0, s_nthS, Nat.add_zero, Bool.and_self, Bool.and_true, Bool.true_and, ↓l_loop, ↓l_succ, ↓l_normal, l_normal, l_exit, l_ret, l_iteN, ↓h_put_get, ↓h_new_get, ↓h_del_get, h_next_put, h_next_new, h_next_del, Nat.add_assoc, Nat.add_eq_left, Nat.left_eq_add, Nat.add_left_cancel_iff, ↓s_load, m_load, ↓m_load1, m_load1, ↓m_st, m_stE, m_storeI, m_storeE, w_zero, w_succ, ↓s_alloc, ↓x_idxA, ↓x_idxS, x_idxAE, x_idxSE, x_addrE, x_idx, x_lenS, ↓s_len, ↓x_buildS, x_buildE, ↓x_P0, ↓x_P1, x_fill0, x_filli, x_fills, x_fillb, c_int, List.length_cons, List.length_nil, List.cons_append, List.drop_succ_cons, List.drop_zero, List.drop_nil, List.nil_append, Int.reduceAdd, Int.reduceToNat, Int.reduceLT, Int.reduceLE, Nat.reduceAdd, Nat.reduceMul, Nat.reduceLeDiff, Int.reduceEq, Int.reduceSub, Int.cast_ofNat_Int, s_resc, s_consR, m_load4, m_store4, s_res0, ↓s_skip, ↓s_ops, ↓s_dops, ↓s_seq, ↓s_cond, ↓s_block, ↓s_exit, ↓s_ret, ↓s_scope, ↓s_nil, ↓s_op, ↓s_opg, ↓s_wanted', ↓s_wantV, s_wantV, s_wantV0, beq_true, beq_false, ↓s_bindS, s_bindS, ↓s_bindE, s_bindE, s_bindE_ret, s_bindE_exit, s_bindE_iteN, s_norm, ↓s_condV, s_condV, s_block_ret, s_block_normal, s_block_exit, s_block_iteN, ↓s_getp, ↓s_getp0, ↓s_get, s_get0, ↓s_con, ↓s_fn, ↓s_os0, ↓s_os1, ↓s_list0, ↓s_list1, ↓s_mov, ↓s_pick, ↓s_pickE, s_pickE, ↓s_bin, ↓s_un, ↓s_minmax, ↓s_call, ↓s_callv, ↓s_callV, ↓s_ext, s_same, b_eql, b_neq, b_lss, b_leq, b_gtr, b_geq, b_add, b_sub, b_mul, b_eqlb, b_neqb, b_fnil, b_fnil', b_fnil2, b_fnil2', u_neg, u_not, m_two, s_end, s_end', s_end_iteN, s_res0, s_res1, s_tup1, s_tup2, ↓iteN_true, ↓iteN_false, iteN_true, iteN_false, Nat.zero_add, List.nil_append, List.append_nil, Nat.reduceEqDiff, reduceIte, decide_true, decide_false, Bool.not_true, Bool.not_false, List.getElem?_cons_zero, List.getElem?_cons_succ, Bool.false_eq_true, if_true, if_false, beq_self_eq_true]
  · have c0 : decide ((o.code : Int) = (p.code : Int)) = false := decide_eq_false (by omega)
    rw [decide_eq_false (fun h => ec (by rw [h]))]
    generalize o.l.length = n at *
    generalize p.l.length = k at *
    simp (config := {maxSteps := 2000000}) (disch := first | omega | (simp only [List.length_cons, List.length_nil, List.length_append, List.length_drop]; omega)) only [ca, eA, g1, g2, c0, ↓s_box, ↓b_xor32, ↓b_and32, ↓b_or32, ↓u_not32, b_xor32, b_and32, b_or32, u_not32, w32ad, ↓x_conv, x_convV, ↓x_fieldAddr, x_fieldV, ↓s_nilchk, x_nilchk, Nat.zero_add, Nat.add_zero, Nat.mul_one, ↓s_evD, ↓s_dnil, ↓s_dL, ↓s_dLg, ↓s_dR, ↓s_dRg, ↓s_dRj, ↓s_dRjg, ↓s_dB, ↓s_dBg, ↓s_dAlloc, ↓s_bindD, s_bindD, s_finD, s_finDx, s_addP0, s_addP1, s_addB, s_lookP, ↓s_bump0, ↓s_bump_get, s_bump_next, s_ok0, ↓s_ok1, s_okR0, ↓s_okR1, ↓s_okE, s_okE, s_okE1, s_nth0, s_nthS, Nat.add_zero, Bool.and_self, Bool.and_true, Bool.true_and, ↓l_loop, ↓l_succ, ↓l_normal, l_normal, l_exit, l_ret, l_iteN, ↓h_put_get, ↓h_new_get, ↓h_del_get, h_next_put, h_next_new, h_next_del, Nat.add_assoc, Nat.add_eq_left, Nat.left_eq_add, Nat.add_left_cancel_iff, ↓s_load, m_load, ↓m_load1, m_load1, ↓m_st, m_stE, m_storeI, m_storeE, w_zero, w_succ, ↓s_alloc, ↓x_idxA, ↓x_idxS, x_idxAE, x_idxSE, x_addrE, x_idx, x_lenS, ↓s_len, ↓x_buildS, x_buildE, ↓x_P0, ↓x_P1, x_fill0, x_filli, x_fills, x_fillb, c_int, List.length_cons, List.length_nil, List.cons_append, List.drop_succ_cons, List.drop_zero, List.drop_nil, List.nil_append, Int.reduceAdd, Int.reduceToNat, Int.reduceLT, Int.reduceLE, Nat.reduceAdd, Nat.reduceMul, Nat.reduceLeDiff, Int.reduceEq, Int.reduceSub, Int.cast_ofNat_Int, s_resc, s_consR, m_load4, m_store4, s_res0, ↓s_skip, ↓s_ops, ↓s_dops, ↓s_seq, ↓s_cond, ↓s_block, ↓s_exit, ↓s_ret, ↓s_scope, ↓s_nil, ↓s_op, ↓s_opg, ↓s_wanted', ↓s_wantV, s_wantV, s_wantV0, beq_true, beq_false, ↓s_bindS, s_bindS, ↓s_bindE, s_bindE, s_bindE_ret, s_bindE_exit, s_bindE_iteN, s_norm, ↓s_condV, s_condV, s_block_ret, s_block_normal, s_block_exit, s_block_iteN, ↓s_getp, ↓s_getp0, ↓s_get, s_get0, ↓s_con, ↓s_fn, ↓s_os0, ↓s_os1, ↓s_list0, ↓s_list1, ↓s_mov, ↓s_pick, ↓s_pickE, s_pickE, ↓s_bin, ↓s_un, ↓s_minmax, ↓s_call, ↓s_callv, ↓s_callV, ↓s_ext, s_same, b_eql, b_neq, b_lss, b_leq, b_gtr, b_geq, b_add, b_sub, b_mul, b_eqlb, b_neqb, b_fnil, b_fnil', b_fnil2, b_fnil2', u_neg, u_not, m_two, s_end, s_end', s_end_iteN, s_res0, s_res1, s_tup1, s_tup2, ↓iteN_true, ↓iteN_false, iteN_true, iteN_false, Nat.zero_add, List.nil_append, List.append_nil, Nat.reduceEqDiff, reduceIte, decide_true, decide_false, Bool.not_true, Bool.not_false, List.getElem?_cons_zero, List.getElem?_cons_succ, Bool.false_eq_true, if_true, if_false, beq_self_eq_true]
structure EqI (va vb : V) (n : Nat) (h0 : H) (i : Nat) (T : Tr V) (h : H) : Prop where
  il : i ≤ n
  t1 : evO T (.t 1) = vb
  t2 : evO T (.t 2) = .fn k_ops_sameOp [] []
  t15 : evO T (.t 15) = va
  t16 : evO T (.t 16) = .int .i64 (n : Int)
  t17 : evO T (.t 17) = .int .i64 (i : Int)
  kp : Kp h0 h
theorem ei_round (e : EnOp E) (x : NoOp X) (M m : Nat) (as bs : List Oq) (hl : as.length = bs.length) (hn : as.length ≤ 1000000) (ok : ∀ o ∈ as, o.ok) (pk : ∀ o ∈ bs, o.ok) (a b : Option (Nat × Nat)) (c d : Option Nat) (ea eb : Nat) (h0 : H) (ra : RowS h0 as a ea) (rb : RowS h0 bs b eb) (i : Nat) (T : Tr V) (h : H) (o p : Oq) (ho : as[i]? = some o) (hp : bs[i]? = some p) (I : EqI (.slice a as.length c ea) (.slice b bs.length d eb) as.length h0 i T h) :
    ∃ T' h', Kp h0 h' ∧ (o = p → evC (callX E X (M + 3)) 32 m none L_slices_EqualFunc_api_Op_api_Op_api_Op_api_Op_0 ⟨T, [], h⟩ = some (.normal, ⟨T', [], h'⟩) ∧ EqI (.slice a as.length c ea) (.slice b bs.length d eb) as.length h0 (i + 1) T' h') ∧ (o ≠ p → evC (callX E X (M + 3)) 32 m none L_slices_EqualFunc_api_Op_api_Op_api_Op_api_Op_0 ⟨T, [], h⟩ = some (.ret, ⟨T', [], h'⟩) ∧ evO T' (.t 6) = .bool false) := by
  have hi : i < as.length := (List.getElem?_eq_some_iff.1 ho).1
  obtain ⟨_, t1, t2, t15, t16, t17, kp⟩ := I
  have c0 : decide ((i : Int) < (as.length : Int)) = true := decide_eq_true (by omega)
  have wi : wr .i64 ((i : Int) + 1) = ((i + 1 : Nat) : Int) := by rw [wr_i64 (by omega)]; omega
  have ix : idx (i : Int) as.length = some i := idxn hi
  have ix2 : idx (i : Int) bs.length = some i := idxn (by omega)
  obtain ⟨q, off, vs, md, b1, cb1, eb1, rfl, rfl, hq, gq', ld, sb, _⟩ := row_at ra i o ho
  obtain ⟨q2, off2, vs2, md2, b2, cb2, eb2, rfl, rfl, hq2, gq2, lo2, sb2, _⟩ := row_at rb i p hp
  obtain ⟨h1, eh1⟩ : ∃ h1, (h.new (.cells [.int .u8 0, .slice none 0 (some 0) 0] .rw)).put h.next (.cells [.int .u8 (o.code : Int), .slice b1 o.l.length cb1 eb1] .rw) = h1 := ⟨_, rfl⟩
  have k1 : Kp h h1 := by rw [← eh1]; (repeat (first | exact Kp.refl _ | refine Kp.put ?_ _ (by first | omega | (simp only [h_next_put, h_next_new, h_next_del]; omega)) | refine Kp.del ?_ (by first | omega | (simp only [h_next_put, h_next_new, h_next_del]; omega)) | refine Kp.trans ?_ (Kp.new _ _)))
  have n1 : h1.next = h.next + 1 := by rw [← eh1]; rfl
  have g1 : h1.get h.next = some (.cells [.int .u8 (o.code : Int), .slice b1 o.l.length cb1 eb1] .rw) := by rw [← eh1]; exact h_put_same _ _ _
  obtain ⟨h2, eh2⟩ : ∃ h2, (h1.new (.cells [.int .u8 0, .slice none 0 (some 0) 0] .rw)).put h1.next (.cells [.int .u8 (p.code : Int), .slice b2 p.l.length cb2 eb2] .rw) = h2 := ⟨_, rfl⟩
  have k2 : Kp h1 h2 := by rw [← eh2]; (repeat (first | exact Kp.refl _ | refine Kp.put ?_ _ (by first | omega | (simp only [h_next_put, h_next_new, h_next_del]; omega)) | refine Kp.del ?_ (by first | omega | (simp only [h_next_put, h_next_new, h_next_del]; omega)) | refine Kp.trans ?_ (Kp.new _ _)))
  have g21 : h2.get h.next = some (.cells [.int .u8 (o.code : Int), .slice b1 o.l.length cb1 eb1] .rw) := by rw [k2.2 _ (by omega), g1]
  have g22 : h2.get h1.next = some (.cells [.int .u8 (p.code : Int), .slice b2 p.l.length cb2 eb2] .rw) := by rw [← eh2]; exact h_put_same _ _ _
  have k02 := kp.trans (k1.trans k2)
  have gva : h.get q = some (.cells vs md) := by rw [kp.2 _ hq, gq']
  have gvb : h1.get q2 = some (.cells vs2 md2) := by rw [(kp.trans k1).2 _ hq2, gq2]
  obtain ⟨h3, rs, k3⟩ := sameOp_go e x (M + 1) o p (ok o (List.mem_of_getElem? ho)) (pk p (List.mem_of_getElem? hp)) b1 b2 cb1 cb2 eb1 eb2 h2 (sb.mono k02) (sb2.mono k02)
  have i1 : i + 1 ≤ as.length := hi
  obtain ⟨n, en⟩ : ∃ n, as.length = n := ⟨_, rfl⟩
  obtain ⟨n2, en2⟩ : ∃ n, bs.length = n := ⟨_, rfl⟩
  obtain ⟨l1, el1⟩ : ∃ n, o.l.length = n := ⟨_, rfl⟩
  obtain ⟨l2, el2⟩ : ∃ n, p.l.length = n := ⟨_, rfl⟩
  rw [en] at t15 t16 c0 ix
  rw [en2] at t1 ix2
  rw [el1] at g21 ld rs eh1
  rw [el2] at g22 lo2 rs eh2
  by_cases eo : o = p
  · rw [decide_eq_true eo] at rs
    obtain ⟨T', r, u1, u2, u15, u16, u17⟩ : ∃ T', evC (callX E X (M + 3)) 32 m none L_slices_EqualFunc_api_Op_api_Op_api_Op_api_Op_0 ⟨T, [], h⟩ = some (.normal, ⟨T', [], h3⟩) ∧ evO T' (.t 1) = .slice (some (q2, off2)) n2 d 2 ∧ evO T' (.t 2) = .fn k_ops_sameOp [] [] ∧ evO T' (.t 15) = .slice (some (q, off)) n c 2 ∧ evO T' (.t 16) = .int .i64 (n : Int) ∧ evO T' (.t 17) = .int .i64 ((i + 1 : Nat) : Int) := by
      exact ⟨_, by
        simp (config := {maxSteps := 2000000}) (disch := first | omega | (simp only [List.length_cons, List.length_nil, List.length_append, List.length_drop]; omega)) only [L_slices_EqualFunc_api_Op_api_Op_api_Op_api_Op_0, t1, t2, t15, t16, t17, gva, gvb, ld, lo2, eh1, eh2, g21, g22, rs, c0, wi, ix, ix2, st2, st2r, ld2, List.nil_append, List.append_nil, ↓b_xor32, ↓b_and32, ↓b_or32, ↓u_not32, b_xor32, b_and32, b_or32, u_not32, w32ad, ↓x_conv, x_convV, ↓x_fieldAddr, x_fieldV, ↓s_nilchk, x_nilchk, Nat.zero_add, Nat.add_zero, Nat.mul_one, ↓s_evD, ↓s_dnil, ↓s_dL, ↓s_dLg, ↓s_dR, ↓s_dRg, ↓s_dRj, ↓s_dRjg, ↓s_dB, ↓s_dBg, ↓s_dAlloc, ↓s_bindD, s_bindD, s_finD, s_finDx, s_addP0, s_addP1, s_addB, s_lookP, ↓s_bump0, ↓s_bump_get, s_bump_next, s_ok0, ↓s_ok1, s_okR0, ↓s_okR1, ↓s_okE, s_okE, s_okE1, s_nth0, s_nthS, Nat.add_zero, Bool.and_self, Bool.and_true, Bool.true_and, ↓l_loop, ↓l_succ, ↓l_normal, l_normal, l_exit, l_ret, l_iteN, ↓h_put_get, ↓h_new_get, ↓h_del_get, h_next_put, h_next_new, h_next_del, Nat.add_assoc, Nat.add_eq_left, Nat.left_eq_add, Nat.add_left_cancel_iff, ↓s_load, m_load, ↓m_load1, m_load1, ↓m_st, m_stE, m_storeI, m_storeE, w_zero, w_succ, ↓s_alloc, ↓x_idxA, ↓x_idxS, x_idxAE, x_idxSE, x_addrE, x_idx, x_lenS, ↓s_len, ↓x_buildS, x_buildE, ↓x_P0, ↓x_P1, x_fill0, x_filli, x_fills, x_fillb, c_int, List.length_cons, List.length_nil, List.cons_append, List.drop_succ_cons, List.drop_zero, List.drop_nil, List.nil_append, Int.reduceAdd, Int.reduceToNat, Int.reduceLT, Int.reduceLE, Nat.reduceAdd, Nat.reduceMul, Nat.reduceLeDiff, Int.reduceEq, Int.reduceSub, Int.cast_ofNat_Int, s_resc, s_consR, m_load4, m_store4, s_res0, ↓s_skip, ↓s_ops, ↓s_dops, ↓s_seq, ↓s_cond, ↓s_block, ↓s_exit, ↓s_ret, ↓s_scope, ↓s_nil, ↓s_op, ↓s_opg, ↓s_wanted', ↓s_wantV, s_wantV, s_wantV0, beq_true, beq_false, ↓s_bindS, s_bindS, ↓s_bindE, s_bindE, s_bindE_ret, s_bindE_exit, s_bindE_iteN, s_norm, ↓s_condV, s_condV, s_block_ret, s_block_normal, s_block_exit, s_block_iteN, ↓s_getp, ↓s_getp0, ↓s_get, s_get0, ↓s_con, ↓s_fn, ↓s_os0, ↓s_os1, ↓s_list0, ↓s_list1, ↓s_mov, ↓s_pick, ↓s_pickE, s_pickE, ↓s_bin, ↓s_un, ↓s_minmax, ↓s_call, ↓s_callv, ↓s_callV, ↓s_ext, s_same, b_eql, b_neq, b_lss, b_leq, b_gtr, b_geq, b_add, b_sub, b_mul, b_eqlb, b_neqb, b_fnil, b_fnil', b_fnil2, b_fnil2', u_neg, u_not, m_two, s_end, s_end', s_end_iteN, s_res0, s_res1, s_tup1, s_tup2, ↓iteN_true, ↓iteN_false, iteN_true, iteN_false, Nat.zero_add, List.nil_append, List.append_nil, Nat.reduceEqDiff, reduceIte, decide_true, decide_false, Bool.not_true, Bool.not_false, List.getElem?_cons_zero, List.getElem?_cons_succ, Bool.false_eq_true, if_true, if_false, beq_self_eq_true]
        exact rfl, (by (simp only [s_getp, s_getp0, Nat.reduceEqDiff, decide_false, decide_true, iteN_false, iteN_true, t1]; try rfl)), (by (simp only [s_getp, s_getp0, Nat.reduceEqDiff, decide_false, decide_true, iteN_false, iteN_true, t2]; try rfl)), (by (simp only [s_getp, s_getp0, Nat.reduceEqDiff, decide_false, decide_true, iteN_false, iteN_true, t15]; try rfl)), (by (simp only [s_getp, s_getp0, Nat.reduceEqDiff, decide_false, decide_true, iteN_false, iteN_true, t16]; try rfl)), (by (simp only [s_getp, s_getp0, Nat.reduceEqDiff, decide_false, decide_true, iteN_false, iteN_true, t17]; try rfl))⟩
    exact ⟨T', h3, k02.trans k3, fun _ => ⟨r, i1, by rw [en2]; exact u1, u2, by rw [en]; exact u15, by rw [en]; exact u16, u17, k02.trans k3⟩, fun h => absurd eo h⟩
  · rw [decide_eq_false eo] at rs
    obtain ⟨T', r, u6⟩ : ∃ T', evC (callX E X (M + 3)) 32 m none L_slices_EqualFunc_api_Op_api_Op_api_Op_api_Op_0 ⟨T, [], h⟩ = some (.ret, ⟨T', [], h3⟩) ∧ evO T' (.t 6) = .bool false := by
      exact ⟨_, by
        simp (config := {maxSteps := 2000000}) (disch := first | omega | (simp only [List.length_cons, List.length_nil, List.length_append, List.length_drop]; omega)) only [L_slices_EqualFunc_api_Op_api_Op_api_Op_api_Op_0, t1, t2, t15, t16, t17, gva, gvb, ld, lo2, eh1, eh2, g21, g22, rs, c0, wi, ix, ix2, st2, st2r, ld2, List.nil_append, List.append_nil, ↓b_xor32, ↓b_and32, ↓b_or32, ↓u_not32, b_xor32, b_and32, b_or32, u_not32, w32ad, ↓x_conv, x_convV, ↓x_fieldAddr, x_fieldV, ↓s_nilchk, x_nilchk, Nat.zero_add, Nat.add_zero, Nat.mul_one, ↓s_evD, ↓s_dnil, ↓s_dL, ↓s_dLg, ↓s_dR, ↓s_dRg, ↓s_dRj, ↓s_dRjg, ↓s_dB, ↓s_dBg, ↓s_dAlloc, ↓s_bindD, s_bindD, s_finD, s_finDx, s_addP0, s_addP1, s_addB, s_lookP, ↓s_bump0, ↓s_bump_get, s_bump_next, s_ok0, ↓s_ok1, s_okR0, ↓s_okR1, ↓s_okE, s_okE, s_okE1, s_nth0, s_nthS, Nat.add_zero, Bool.and_self, Bool.and_true, Bool.true_and, ↓l_loop, ↓l_succ, ↓l_normal, l_normal, l_exit, l_ret, l_iteN, ↓h_put_get, ↓h_new_get, ↓h_del_get, h_next_put, h_next_new, h_next_del, Nat.add_assoc, Nat.add_eq_left, Nat.left_eq_add, Nat.add_left_cancel_iff, ↓s_load, m_load, ↓m_load1, m_load1, ↓m_st, m_stE, m_storeI, m_storeE, w_zero, w_succ, ↓s_alloc, ↓x_idxA, ↓x_idxS, x_idxAE, x_idxSE, x_addrE, x_idx, x_lenS, ↓s_len, ↓x_buildS, x_buildE, ↓x_P0, ↓x_P1, x_fill0, x_filli, x_fills, x_fillb, c_int, List.length_cons, List.length_nil, List.cons_append, List.drop_succ_cons, List.drop_zero, List.drop_nil, List.nil_append, Int.reduceAdd, Int.reduceToNat, Int.reduceLT, Int.reduceLE, Nat.reduceAdd, Nat.reduceMul, Nat.reduceLeDiff, Int.reduceEq, Int.reduceSub, Int.cast_ofNat_Int, s_resc, s_consR, m_load4, m_store4, s_res0, ↓s_skip, ↓s_ops, ↓s_dops, ↓s_seq, ↓s_cond, ↓s_block, ↓s_exit, ↓s_ret, ↓s_scope, ↓s_nil, ↓s_op, ↓s_opg, ↓s_wanted', ↓s_wantV, s_wantV, s_wantV0, beq_true, beq_false, ↓s_bindS, s_bindS, ↓s_bindE, s_bindE, s_bindE_ret, s_bindE_exit, s_bindE_iteN, s_norm, ↓s_condV, s_condV, s_block_ret, s_block_normal, s_block_exit, s_block_iteN, ↓s_getp, ↓s_getp0, ↓s_get, s_get0, ↓s_con, ↓s_fn, ↓s_os0, ↓s_os1, ↓s_list0, ↓s_list1, ↓s_mov, ↓s_pick, ↓s_pickE, s_pickE, ↓s_bin, ↓s_un, ↓s_minmax, ↓s_call, ↓s_callv, ↓s_callV, ↓s_ext, s_same, b_eql, b_neq, b_lss, b_leq, b_gtr, b_geq, b_add, b_sub, b_mul, b_eqlb, b_neqb, b_fnil, b_fnil', b_fnil2, b_fnil2', u_neg, u_not, m_two, s_end, s_end', s_end_iteN, s_res0, s_res1, s_tup1, s_tup2, ↓iteN_true, ↓iteN_false, iteN_true, iteN_false, Nat.zero_add, List.nil_append, List.append_nil, Nat.reduceEqDiff, reduceIte, decide_true, decide_false, Bool.not_true, Bool.not_false, List.getElem?_cons_zero, List.getElem?_cons_succ, Bool.false_eq_true, if_true, if_false, beq_self_eq_true]
        exact rfl, (by (simp only [s_getp, s_getp0, Nat.reduceEqDiff, decide_false, decide_true, iteN_false, iteN_true, t1]; try rfl))⟩
    exact ⟨T', h3, k02.trans k3, fun h => absurd h eo, fun _ => ⟨r, u6⟩⟩
theorem eq_or : ∀ (as bs : List Oq), as.length = bs.length → as = bs ∨ ∃ (j : Nat) (o p : Oq), as[j]? = some o ∧ bs[j]? = some p ∧ o ≠ p ∧ ∀ (i : Nat) (o' p' : Oq), i < j → as[i]? = some o' → bs[i]? = some p' → o' = p' := by
  intro as
  induction as with
  | nil => intro bs h; left; exact (List.length_eq_zero_iff.1 h.symm).symm
  | cons a r ih =>
    intro bs h
    cases bs with
    | nil => cases h
    | cons b s =>
      by_cases ab : a = b
      · rcases ih s (by simpa using h) with e | ⟨j, o, p, h1, h2, h3, h4⟩
        · left; rw [ab, e]
        · refine .inr ⟨j + 1, o, p, by simpa using h1, by simpa using h2, h3, fun i o' p' hi ho hp => ?_⟩
          cases i with
          | zero => simp at ho hp; rw [← ho, ← hp]; exact ab
          | succ i => simp at ho hp; exact h4 i o' p' (by omega) ho hp
      · exact .inr ⟨0, a, b, rfl, rfl, ab, fun i _ _ hi => by omega⟩
theorem same_go (e : EnOp E) (x : NoOp X) (M : Nat) (as bs : List Oq) (hn : as.length ≤ 1000000) (hM : as.length < M) (hbn : bs.length < 9223372036854775807) (ok : ∀ o ∈ as, o.ok) (pk : ∀ o ∈ bs, o.ok) (a b : Option (Nat × Nat)) (c d : Option Nat) (ea eb : Nat) (h : H) (ra : RowS h as a ea) (rb : RowS h bs b eb) :
    ∃ h', callX E X (M + 5) (.fn k_ops_Same) [.slice a as.length c ea, .slice b bs.length d eb] h = some (.bool (decide (as = bs)), h') ∧ Kp h h' := by
  have eqf : ∃ h', callX E X (M + 4) (.fn k_slices_EqualFunc_api_Op_api_Op_api_Op_api_Op) [.slice a as.length c ea, .slice b bs.length d eb, .fn k_ops_sameOp [] []] h = some (.bool (decide (as = bs)), h') ∧ Kp h h' := by
    rw [x_cfn e.ef _ _ (Nat.le_of_ble_eq_true rfl) (x.ef _ _)]
    by_cases hl : as.length = bs.length
    · have fin : ∀ T, EqI (.slice a as.length c ea) (.slice b bs.length d eb) as.length h 0 T h → ∃ h', fnEnd [.tmp 6] (bindE (blockE 0 (loopN (evC (callX E X (M + 3)) 32 (M + 3) none L_slices_EqualFunc_api_Op_api_Op_api_Op_api_Op_0) (M + 3) ⟨T, [], h⟩)) (evC (callX E X (M + 3)) 32 (M + 3) none R_slices_EqualFunc_api_Op_api_Op_api_Op_api_Op_0)) = some (.bool (decide (as = bs)), h') ∧ Kp h h' := by
        intro T I
        have get : ∀ i, i < as.length → ∃ o p, as[i]? = some o ∧ bs[i]? = some p := fun i hi => ⟨_, _, List.getElem?_eq_getElem hi, List.getElem?_eq_getElem (by omega)⟩
        rcases eq_or as bs hl with eab | ⟨j, o, p, h1, h2, h3, h4⟩
        · rw [decide_eq_true eab]
          obtain ⟨T', h', rr, kp⟩ := loop_go (f := evC (callX E X (M + 3)) 32 (M + 3) none L_slices_EqualFunc_api_Op_api_Op_api_Op_api_Op_0) (EqI (.slice a as.length c ea) (.slice b bs.length d eb) as.length h) as.length (.exit 0) (by intro h; cases h) (fun _ h' => Kp h h') (fun i T h' hi I => by
            obtain ⟨o, p, ho, hp⟩ := get i hi
            obtain ⟨T', h2, _, q, _⟩ := ei_round e x M (M + 3) as bs hl hn ok pk a b c d ea eb h ra rb i T h' o p ho hp I
            rw [eab, hp] at ho
            cases ho
            exact ⟨T', h2, q rfl⟩) (fun T h' I => by
            obtain ⟨il, t1, t2, t15, t16, t17, kp⟩ := I
            have c0 : decide ((as.length : Int) < (as.length : Int)) = false := decide_eq_false (by omega)
            exact ⟨_, _, by
              simp (config := {maxSteps := 2000000}) (disch := first | omega | (simp only [List.length_cons, List.length_nil, List.length_append, List.length_drop]; omega)) only [L_slices_EqualFunc_api_Op_api_Op_api_Op_api_Op_0, t16, t17, c0, ↓b_xor32, ↓b_and32, ↓b_or32, ↓u_not32, b_xor32, b_and32, b_or32, u_not32, w32ad, ↓x_conv, x_convV, ↓x_fieldAddr, x_fieldV, ↓s_nilchk, x_nilchk, Nat.zero_add, Nat.add_zero, Nat.mul_one, ↓l_loop, ↓l_succ, ↓l_normal, l_normal, l_exit, l_ret, l_iteN, ↓h_put_get, ↓h_new_get, ↓h_del_get, h_next_put, h_next_new, h_next_del, Nat.add_assoc, Nat.add_eq_left, Nat.left_eq_add, Nat.add_left_cancel_iff, ↓s_load, m_load, ↓m_load1, m_load1, ↓m_st, m_stE, m_storeI, m_storeE, w_zero, w_succ, ↓s_alloc, ↓x_idxA, ↓x_idxS, x_idxAE, x_idxSE, x_addrE, x_idx, x_lenS, ↓s_len, ↓x_buildS, x_buildE, ↓x_P0, ↓x_P1, x_fill0, x_filli, x_fills, x_fillb, c_int, List.length_cons, List.length_nil, List.cons_append, List.drop_succ_cons, List.drop_zero, List.drop_nil, List.nil_append, Int.reduceAdd, Int.reduceToNat, Int.reduceLT, Int.reduceLE, Nat.reduceAdd, Nat.reduceMul, Nat.reduceLeDiff, Int.reduceEq, Int.reduceSub, Int.cast_ofNat_Int, s_resc, s_consR, m_load4, m_store4, s_res0, ↓s_skip, ↓s_ops, ↓s_dops, ↓s_seq, ↓s_cond, ↓s_block, ↓s_exit, ↓s_ret, ↓s_scope, ↓s_nil, ↓s_op, ↓s_opg, ↓s_wanted', ↓s_wantV, s_wantV, s_wantV0, beq_true, beq_false, ↓s_bindS, s_bindS, ↓s_bindE, s_bindE, s_bindE_ret, s_bindE_exit, s_bindE_iteN, s_norm, ↓s_condV, s_condV, s_block_ret, s_block_normal, s_block_exit, s_block_iteN, ↓s_getp, ↓s_getp0, ↓s_get, s_get0, ↓s_con, ↓s_fn, ↓s_os0, ↓s_os1, ↓s_list0, ↓s_list1, ↓s_mov, ↓s_pick, ↓s_pickE, s_pickE, ↓s_bin, ↓s_un, ↓s_minmax, ↓s_call, ↓s_callv, ↓s_callV, ↓s_ext, s_same, b_eql, b_neq, b_lss, b_leq, b_gtr, b_geq, b_add, b_sub, b_mul, b_eqlb, b_neqb, b_fnil, b_fnil', b_fnil2, b_fnil2', u_neg, u_not, m_two, s_end, s_end', s_end_iteN, s_res0, s_res1, s_tup1, s_tup2, ↓iteN_true, ↓iteN_false, iteN_true, iteN_false, Nat.zero_add, List.nil_append, List.append_nil, Nat.reduceEqDiff, reduceIte, decide_true, decide_false, Bool.not_true, Bool.not_false, List.getElem?_cons_zero, List.getElem?_cons_succ, Bool.false_eq_true, if_true, if_false, beq_self_eq_true]
              exact rfl, kp⟩) as.length 0 (by omega) (M + 3) (by omega) T h I
          rw [rr]
          refine ⟨h', ?_, kp⟩
          simp (config := {maxSteps := 2000000}) (disch := first | omega | (simp only [List.length_cons, List.length_nil, List.length_append, List.length_drop]; omega)) only [R_slices_EqualFunc_api_Op_api_Op_api_Op_api_Op_0, ↓b_xor32, ↓b_and32, ↓b_or32, ↓u_not32, b_xor32, b_and32, b_or32, u_not32, w32ad, ↓x_conv, x_convV, ↓x_fieldAddr, x_fieldV, ↓s_nilchk, x_nilchk, Nat.zero_add, Nat.add_zero, Nat.mul_one, ↓l_loop, ↓l_succ, ↓l_normal, l_normal, l_exit, l_ret, l_iteN, ↓h_put_get, ↓h_new_get, ↓h_del_get, h_next_put, h_next_new, h_next_del, Nat.add_assoc, Nat.add_eq_left, Nat.left_eq_add, Nat.add_left_cancel_iff, ↓s_load, m_load, ↓m_load1, m_load1, ↓m_st, m_stE, m_storeI, m_storeE, w_zero, w_succ, ↓s_alloc, ↓x_idxA, ↓x_idxS, x_idxAE, x_idxSE, x_addrE, x_idx, x_lenS, ↓s_len, ↓x_buildS, x_buildE, ↓x_P0, ↓x_P1, x_fill0, x_filli, x_fills, x_fillb, c_int, List.length_cons, List.length_nil, List.cons_append, List.drop_succ_cons, List.drop_zero, List.drop_nil, List.nil_append, Int.reduceAdd, Int.reduceToNat, Int.reduceLT, Int.reduceLE, Nat.reduceAdd, Nat.reduceMul, Nat.reduceLeDiff, Int.reduceEq, Int.reduceSub, Int.cast_ofNat_Int, s_resc, s_consR, m_load4, m_store4, s_res0, ↓s_skip, ↓s_ops, ↓s_dops, ↓s_seq, ↓s_cond, ↓s_block, ↓s_exit, ↓s_ret, ↓s_scope, ↓s_nil, ↓s_op, ↓s_opg, ↓s_wanted', ↓s_wantV, s_wantV, s_wantV0, beq_true, beq_false, ↓s_bindS, s_bindS, ↓s_bindE, s_bindE, s_bindE_ret, s_bindE_exit, s_bindE_iteN, s_norm, ↓s_condV, s_condV, s_block_ret, s_block_normal, s_block_exit, s_block_iteN, ↓s_getp, ↓s_getp0, ↓s_get, s_get0, ↓s_con, ↓s_fn, ↓s_os0, ↓s_os1, ↓s_list0, ↓s_list1, ↓s_mov, ↓s_pick, ↓s_pickE, s_pickE, ↓s_bin, ↓s_un, ↓s_minmax, ↓s_call, ↓s_callv, ↓s_callV, ↓s_ext, s_same, b_eql, b_neq, b_lss, b_leq, b_gtr, b_geq, b_add, b_sub, b_mul, b_eqlb, b_neqb, b_fnil, b_fnil', b_fnil2, b_fnil2', u_neg, u_not, m_two, s_end, s_end', s_end_iteN, s_res0, s_res1, s_tup1, s_tup2, ↓iteN_true, ↓iteN_false, iteN_true, iteN_false, Nat.zero_add, List.nil_append, List.append_nil, Nat.reduceEqDiff, reduceIte, decide_true, decide_false, Bool.not_true, Bool.not_false, List.getElem?_cons_zero, List.getElem?_cons_succ, Bool.false_eq_true, if_true, if_false, beq_self_eq_true]
          try rfl
        · have hne : as ≠ bs := fun e => h3 (by rw [e, h2] at h1; cases h1; rfl)
          rw [decide_eq_false hne]
          have hj : j < as.length := (List.getElem?_eq_some_iff.1 h1).1
          obtain ⟨T', h', rr, u6, kp⟩ := loop_go (f := evC (callX E X (M + 3)) 32 (M + 3) none L_slices_EqualFunc_api_Op_api_Op_api_Op_api_Op_0) (EqI (.slice a as.length c ea) (.slice b bs.length d eb) as.length h) j .ret (by intro h; cases h) (fun T h' => evO T (.t 6) = .bool false ∧ Kp h h') (fun i T h' hi I => by
            obtain ⟨o, p, ho, hp⟩ := get i (by omega)
            obtain ⟨T', h2, _, q, _⟩ := ei_round e x M (M + 3) as bs hl hn ok pk a b c d ea eb h ra rb i T h' o p ho hp I
            exact ⟨T', h2, q (h4 i o p hi ho hp)⟩) (fun T h' I => by
            obtain ⟨T', h2', k, _, q⟩ := ei_round e x M (M + 3) as bs hl hn ok pk a b c d ea eb h ra rb j T h' o p h1 h2 I
            obtain ⟨q1, q2⟩ := q h3
            exact ⟨T', h2', q1, q2, k⟩) j 0 (by omega) (M + 3) (by omega) T h I
          rw [rr]
          refine ⟨h', ?_, kp⟩
          simp (config := {maxSteps := 2000000}) (disch := first | omega | (simp only [List.length_cons, List.length_nil, List.length_append, List.length_drop]; omega)) only [u6, ↓b_xor32, ↓b_and32, ↓b_or32, ↓u_not32, b_xor32, b_and32, b_or32, u_not32, w32ad, ↓x_conv, x_convV, ↓x_fieldAddr, x_fieldV, ↓s_nilchk, x_nilchk, Nat.zero_add, Nat.add_zero, Nat.mul_one, ↓l_loop, ↓l_succ, ↓l_normal, l_normal, l_exit, l_ret, l_iteN, ↓h_put_get, ↓h_new_get, ↓h_del_get, h_next_put, h_next_new, h_next_del, Nat.add_assoc, Nat.add_eq_left, Nat.left_eq_add, Nat.add_left_cancel_iff, ↓s_load, m_load, ↓m_load1, m_load1, ↓m_st, m_stE, m_storeI, m_storeE, w_zero, w_succ, ↓s_alloc, ↓x_idxA, ↓x_idxS, x_idxAE, x_idxSE, x_addrE, x_idx, x_lenS, ↓s_len, ↓x_buildS, x_buildE, ↓x_P0, ↓x_P1, x_fill0, x_filli, x_fills, x_fillb, c_int, List.length_cons, List.length_nil, List.cons_append, List.drop_succ_cons, List.drop_zero, List.drop_nil, List.nil_append, Int.reduceAdd, Int.reduceToNat, Int.reduceLT, Int.reduceLE, Nat.reduceAdd, Nat.reduceMul, Nat.reduceLeDiff, Int.reduceEq, Int.reduceSub, Int.cast_ofNat_Int, s_resc, s_consR, m_load4, m_store4, s_res0, ↓s_skip, ↓s_ops, ↓s_dops, ↓s_seq, ↓s_cond, ↓s_block, ↓s_exit, ↓s_ret, ↓s_scope, ↓s_nil, ↓s_op, ↓s_opg, ↓s_wanted', ↓s_wantV, s_wantV, s_wantV0, beq_true, beq_false, ↓s_bindS, s_bindS, ↓s_bindE, s_bindE, s_bindE_ret, s_bindE_exit, s_bindE_iteN, s_norm, ↓s_condV, s_condV, s_block_ret, s_block_normal, s_block_exit, s_block_iteN, ↓s_getp, ↓s_getp0, ↓s_get, s_get0, ↓s_con, ↓s_fn, ↓s_os0, ↓s_os1, ↓s_list0, ↓s_list1, ↓s_mov, ↓s_pick, ↓s_pickE, s_pickE, ↓s_bin, ↓s_un, ↓s_minmax, ↓s_call, ↓s_callv, ↓s_callV, ↓s_ext, s_same, b_eql, b_neq, b_lss, b_leq, b_gtr, b_geq, b_add, b_sub, b_mul, b_eqlb, b_neqb, b_fnil, b_fnil', b_fnil2, b_fnil2', u_neg, u_not, m_two, s_end, s_end', s_end_iteN, s_res0, s_res1, s_tup1, s_tup2, ↓iteN_true, ↓iteN_false, iteN_true, iteN_false, Nat.zero_add, List.nil_append, List.append_nil, Nat.reduceEqDiff, reduceIte, decide_true, decide_false, Bool.not_true, Bool.not_false, List.getElem?_cons_zero, List.getElem?_cons_succ, Bool.false_eq_true, if_true, if_false, beq_self_eq_true]
          try rfl
      have c1 : (!decide ((as.length : Int) = (bs.length : Int))) = false := by rw [decide_eq_true (by omega)]; rfl
      obtain ⟨R, eR⟩ : ∃ R, R_slices_EqualFunc_api_Op_api_Op_api_Op_api_Op_0 = R := ⟨_, rfl⟩
      obtain ⟨Lo, eL⟩ : ∃ R, L_slices_EqualFunc_api_Op_api_Op_api_Op_api_Op_0 = R := ⟨_, rfl⟩
      rw [eR, eL] at fin ⊢
      obtain ⟨n, en⟩ : ∃ n, as.length = n := ⟨_, rfl⟩
      obtain ⟨n2, en2⟩ : ∃ n, bs.length = n := ⟨_, rfl⟩
      rw [en, en2] at c1 fin ⊢
      simp (config := {maxSteps := 2000000}) (disch := first | omega | (simp only [List.length_cons, List.length_nil, List.length_append, List.length_drop]; omega)) only [c1, ↓s_len, x_lenS, ↓b_xor32, ↓b_and32, ↓b_or32, ↓u_not32, b_xor32, b_and32, b_or32, u_not32, w32ad, ↓x_conv, x_convV, ↓x_fieldAddr, x_fieldV, ↓s_nilchk, x_nilchk, Nat.zero_add, Nat.add_zero, Nat.mul_one, ↓l_loop, ↓l_succ, ↓l_normal, l_normal, l_exit, l_ret, l_iteN, ↓h_put_get, ↓h_new_get, ↓h_del_get, h_next_put, h_next_new, h_next_del, Nat.add_assoc, Nat.add_eq_left, Nat.left_eq_add, Nat.add_left_cancel_iff, ↓s_load, m_load, ↓m_load1, m_load1, ↓m_st, m_stE, m_storeI, m_storeE, w_zero, w_succ, ↓s_alloc, ↓x_idxA, ↓x_idxS, x_idxAE, x_idxSE, x_addrE, x_idx, x_lenS, ↓s_len, ↓x_buildS, x_buildE, ↓x_P0, ↓x_P1, x_fill0, x_filli, x_fills, x_fillb, c_int, List.length_cons, List.length_nil, List.cons_append, List.drop_succ_cons, List.drop_zero, List.drop_nil, List.nil_append, Int.reduceAdd, Int.reduceToNat, Int.reduceLT, Int.reduceLE, Nat.reduceAdd, Nat.reduceMul, Nat.reduceLeDiff, Int.reduceEq, Int.reduceSub, Int.cast_ofNat_Int, s_resc, s_consR, m_load4, m_store4, s_res0, ↓s_skip, ↓s_ops, ↓s_dops, ↓s_seq, ↓s_cond, ↓s_block, ↓s_exit, ↓s_ret, ↓s_scope, ↓s_nil, ↓s_op, ↓s_opg, ↓s_wanted', ↓s_wantV, s_wantV, s_wantV0, beq_true, beq_false, ↓s_bindS, s_bindS, ↓s_bindE, s_bindE, s_bindE_ret, s_bindE_exit, s_bindE_iteN, s_norm, ↓s_condV, s_condV, s_block_ret, s_block_normal, s_block_exit, s_block_iteN, ↓s_getp, ↓s_getp0, ↓s_get, s_get0, ↓s_con, ↓s_fn, ↓s_os0, ↓s_os1, ↓s_list0, ↓s_list1, ↓s_mov, ↓s_pick, ↓s_pickE, s_pickE, ↓s_bin, ↓s_un, ↓s_minmax, ↓s_call, ↓s_callv, ↓s_callV, ↓s_ext, s_same, b_eql, b_neq, b_lss, b_leq, b_gtr, b_geq, b_add, b_sub, b_mul, b_eqlb, b_neqb, b_fnil, b_fnil', b_fnil2, b_fnil2', u_neg, u_not, m_two, s_end, s_end', s_end_iteN, s_res0, s_res1, s_tup1, s_tup2, ↓iteN_true, ↓iteN_false, iteN_true, iteN_false, Nat.zero_add, List.nil_append, List.append_nil, Nat.reduceEqDiff, reduceIte, decide_true, decide_false, Bool.not_true, Bool.not_false, List.getElem?_cons_zero, List.getElem?_cons_succ, Bool.false_eq_true, if_true, if_false, beq_self_eq_true]
      exact fin _ ⟨Nat.zero_le _, (by (simp only [s_getp, s_getp0, Nat.reduceEqDiff, decide_false, decide_true, iteN_false, iteN_true, c1]; try rfl)), (by (simp only [s_getp, s_getp0, Nat.reduceEqDiff, decide_false, decide_true, iteN_false, iteN_true, c1]; try rfl)), (by (simp only [s_getp, s_getp0, Nat.reduceEqDiff, decide_false, decide_true, iteN_false, iteN_true, c1]; try rfl)), (by (simp only [s_getp, s_getp0, Nat.reduceEqDiff, decide_false, decide_true, iteN_false, iteN_true, c1]; try rfl)), (by (simp only [s_getp, s_getp0, Nat.reduceEqDiff, decide_false, decide_true, iteN_false, iteN_true, c1]; try rfl)), Kp.refl _⟩
    · rw [decide_eq_false (fun e => hl (by rw [e]))]
      have c1 : (!decide ((as.length : Int) = (bs.length : Int))) = true := by rw [decide_eq_false (by omega)]; rfl
      refine ⟨h, ?_, Kp.refl _⟩
      obtain ⟨Lo, eL⟩ : ∃ R, L_slices_EqualFunc_api_Op_api_Op_api_Op_api_Op_0 = R := ⟨_, rfl⟩
      rw [eL]
      generalize as.length = n at *
      generalize bs.length = n2 at *
      simp (config := {maxSteps := 2000000}) (disch := first | omega | (simp only [List.length_cons, List.length_nil, List.length_append, List.length_drop]; omega)) only [c1, ↓s_len, x_lenS, ↓b_xor32, ↓b_and32, ↓b_or32, ↓u_not32, b_xor32, b_and32, b_or32, u_not32, w32ad, ↓x_conv, x_convV, ↓x_fieldAddr, x_fieldV, ↓s_nilchk, x_nilchk, Nat.zero_add, Nat.add_zero, Nat.mul_one, ↓l_loop, ↓l_succ, ↓l_normal, l_normal, l_exit, l_ret, l_iteN, ↓h_put_get, ↓h_new_get, ↓h_del_get, h_next_put, h_next_new, h_next_del, Nat.add_assoc, Nat.add_eq_left, Nat.left_eq_add, Nat.add_left_cancel_iff, ↓s_load, m_load, ↓m_load1, m_load1, ↓m_st, m_stE, m_storeI, m_storeE, w_zero, w_succ, ↓s_alloc, ↓x_idxA, ↓x_idxS, x_idxAE, x_idxSE, x_addrE, x_idx, x_lenS, ↓s_len, ↓x_buildS, x_buildE, ↓x_P0, ↓x_P1, x_fill0, x_filli, x_fills, x_fillb, c_int, List.length_cons, List.length_nil, List.cons_append, List.drop_succ_cons, List.drop_zero, List.drop_nil, List.nil_append, Int.reduceAdd, Int.reduceToNat, Int.reduceLT, Int.reduceLE, Nat.reduceAdd, Nat.reduceMul, Nat.reduceLeDiff, Int.reduceEq, Int.reduceSub, Int.cast_ofNat_Int, s_resc, s_consR, m_load4, m_store4, s_res0, ↓s_skip, ↓s_ops, ↓s_dops, ↓s_seq, ↓s_cond, ↓s_block, ↓s_exit, ↓s_ret, ↓s_scope, ↓s_nil, ↓s_op, ↓s_opg, ↓s_wanted', ↓s_wantV, s_wantV, s_wantV0, beq_true, beq_false, ↓s_bindS, s_bindS, ↓s_bindE, s_bindE, s_bindE_ret, s_bindE_exit, s_bindE_iteN, s_norm, ↓s_condV, s_condV, s_block_ret, s_block_normal, s_block_exit, s_block_iteN, ↓s_getp, ↓s_getp0, ↓s_get, s_get0, ↓s_con, ↓s_fn, ↓s_os0, ↓s_os1, ↓s_list0, ↓s_list1, ↓s_mov, ↓s_pick, ↓s_pickE, s_pickE, ↓s_bin, ↓s_un, ↓s_minmax, ↓s_call, ↓s_callv, ↓s_callV, ↓s_ext, s_same, b_eql, b_neq, b_lss, b_leq, b_gtr, b_geq, b_add, b_sub, b_mul, b_eqlb, b_neqb, b_fnil, b_fnil', b_fnil2, b_fnil2', u_neg, u_not, m_two, s_end, s_end', s_end_iteN, s_res0, s_res1, s_tup1, s_tup2, ↓iteN_true, ↓iteN_false, iteN_true, iteN_false, Nat.zero_add, List.nil_append, List.append_nil, Nat.reduceEqDiff, reduceIte, decide_true, decide_false, Bool.not_true, Bool.not_false, List.getElem?_cons_zero, List.getElem?_cons_succ, Bool.false_eq_true, if_true, if_false, beq_self_eq_true]
      try rfl
  obtain ⟨h', r, k⟩ := eqf
  rw [x_cfn e.sa _ _ (Nat.le_of_ble_eq_true rfl) (x.sa _ _)]
  refine ⟨h', ?_, k⟩
  generalize as.length = n at *
  generalize bs.length = n2 at *
  generalize decide (as = bs) = w at *
  simp (config := {maxSteps := 2000000}) (disch := first | omega | (simp only [List.length_cons, List.length_nil, List.length_append, List.length_drop]; omega)) only [r, ↓b_xor32, ↓b_and32, ↓b_or32, ↓u_not32, b_xor32, b_and32, b_or32, u_not32, w32ad, ↓x_conv, x_convV, ↓x_fieldAddr, x_fieldV, ↓s_nilchk, x_nilchk, Nat.zero_add, Nat.add_zero, Nat.mul_one, ↓l_loop, ↓l_succ, ↓l_normal, l_normal, l_exit, l_ret, l_iteN, ↓h_put_get, ↓h_new_get, ↓h_del_get, h_next_put, h_next_new, h_next_del, Nat.add_assoc, Nat.add_eq_left, Nat.left_eq_add, Nat.add_left_cancel_iff, ↓s_load, m_load, ↓m_load1, m_load1, ↓m_st, m_stE, m_storeI, m_storeE, w_zero, w_succ, ↓s_alloc, ↓x_idxA, ↓x_idxS, x_idxAE, x_idxSE, x_addrE, x_idx, x_lenS, ↓s_len, ↓x_buildS, x_buildE, ↓x_P0, ↓x_P1, x_fill0, x_filli, x_fills, x_fillb, c_int, List.length_cons, List.length_nil, List.cons_append, List.drop_succ_cons, List.drop_zero, List.drop_nil, List.nil_append, Int.reduceAdd, Int.reduceToNat, Int.reduceLT, Int.reduceLE, Nat.reduceAdd, Nat.reduceMul, Nat.reduceLeDiff, Int.reduceEq, Int.reduceSub, Int.cast_ofNat_Int, s_resc, s_consR, m_load4, m_store4, s_res0, ↓s_skip, ↓s_ops, ↓s_dops, ↓s_seq, ↓s_cond, ↓s_block, ↓s_exit, ↓s_ret, ↓s_scope, ↓s_nil, ↓s_op, ↓s_opg, ↓s_wanted', ↓s_wantV, s_wantV, s_wantV0, beq_true, beq_false, ↓s_bindS, s_bindS, ↓s_bindE, s_bindE, s_bindE_ret, s_bindE_exit, s_bindE_iteN, s_norm, ↓s_condV, s_condV, s_block_ret, s_block_normal, s_block_exit, s_block_iteN, ↓s_getp, ↓s_getp0, ↓s_get, s_get0, ↓s_con, ↓s_fn, ↓s_os0, ↓s_os1, ↓s_list0, ↓s_list1, ↓s_mov, ↓s_pick, ↓s_pickE, s_pickE, ↓s_bin, ↓s_un, ↓s_minmax, ↓s_call, ↓s_callv, ↓s_callV, ↓s_ext, s_same, b_eql, b_neq, b_lss, b_leq, b_gtr, b_geq, b_add, b_sub, b_mul, b_eqlb, b_neqb, b_fnil, b_fnil', b_fnil2, b_fnil2', u_neg, u_not, m_two, s_end, s_end', s_end_iteN, s_res0, s_res1, s_tup1, s_tup2, ↓iteN_true, ↓iteN_false, iteN_true, iteN_false, Nat.zero_add, List.nil_append, List.append_nil, Nat.reduceEqDiff, reduceIte, decide_true, decide_false, Bool.not_true, Bool.not_false, List.getElem?_cons_zero, List.getElem?_cons_succ, Bool.false_eq_true, if_true, if_false, beq_self_eq_true]
end Go.Eng
namespace Go.Eng
open Go
variable {E : Nat → Option Fn} {X : Orc}
set_option linter.unusedSimpArgs false
set_option linter.unusedVariables false
def OqAt (h : H) (o : Oq) (p : List V) : Prop := ∃ a, p = [.int .u8 (o.code : Int), .slice a o.l.length none 1] ∧ SrcH h a 1 o.l
/-- a row of operations, as an argument -/
def OqsH (h : H) (a : Option (Nat × Nat)) (ops : List Oq) : Prop := ∃ parts, Al2 (OqAt h) ops parts ∧ (ops = [] ∨ ∃ k md, a = some (k, 0) ∧ k < h.next ∧ h.get k = some (.cells parts.flatten md))
def OqsR (ops : List Oq) (h : H) (vs : List V) : Prop := ∃ a, vs = [.slice a ops.length none 2] ∧ OqsH h a ops
theorem xs2 {α : Type} {xs : List α} (h : xs.length = 2) : ∃ a b, xs = [a, b] := by
  match xs, h with
  | [a, b], _ => exact ⟨a, b, rfl⟩
section
variable {Hh : Type} {enc : TypeId × Value → Hh} {P : Program} {W : World} {spare : Nat → Bool} {held : Bool} {base : Nat}
theorem trod_oqs {t e eb : TypeId} {f0 f1 : Field} (ht : P.underlying t = some (.slice e)) (he : P.underlying e = some (.struct #[f0, f1])) (h0 : P.underlying f0.type = some (.int .u8)) (h1 : P.underlying f1.type = some (.slice eb)) (hb : P.underlying eb = some (.int .u8)) (hc : P.cellsOf eb = 1) (hce : P.cellsOf e = 2)
    {v : Value} {d : DataW Hh} {p : List MemPlace} (h : DataW.Trod enc P W base spare held t v d p) :
    ∃ ops : List Oq, (∀ o ∈ ops, o.ok) ∧ (P.bytesOf e = 32 → P.bytesOf eb = 1 → ∀ B, (∀ n ∈ d.weights P t, n ≤ B) → ops.length ≤ B ∧ ∀ o ∈ ops, o.l.length ≤ B) ∧ ∀ n, Rd (absD P (n + 4) t d) (OqsR ops) := by
  have one : ∀ (g : Nat) (cs : List Value) (x : DataW Hh × List MemPlace), DataW.trod enc P W base spare held g e cs = some x → ∃ o : Oq, (o.ok ∧ (P.bytesOf eb = 1 → ∀ B, (∀ n ∈ x.1.weights P e, n ≤ B) → o.l.length ≤ B)) ∧ ∀ n, Rd (absD P (n + 3) e x.1) (fun h vs => OqAt h o vs) := by
    intro g cs x hx
    obtain ⟨xs, m, _, rfl, _, hl, hf⟩ := DataW.trod_struct he hx
    obtain ⟨x0, x1, rfl⟩ := xs2 hl
    obtain ⟨k, _, e0, w0⟩ := DataW.trod_int h0 (hf 0 f0 rfl)
    obtain ⟨l, bl, wt, r3⟩ := trod_u8s' h1 hb hc (hf 1 f1 rfl)
    simp [Lit.wf, IntKind.min, IntKind.max, IntKind.signed, IntKind.bits] at w0
    obtain ⟨n, rfl⟩ := Int.eq_ofNat_of_zero_le w0.1
    refine ⟨⟨n, l⟩, ⟨⟨by have := w0.2; show n < _; omega, bl⟩, fun h1' B hB => wt h1' B (fun m hm => hB m ?_)⟩, fun j => ?_⟩
    · show m ∈ DataW.weights P e (.agg [x0.1, x1.1])
      simp only [DataW.weights, he, List.map_cons, List.map_nil, DataW.weightsEach, List.mem_append]
      exact .inr (.inl hm)
    have hz := rd_struct (Hh := Hh) (j + 2) he [x0.1, x1.1] rfl (Rs := [_, _]) (.cons (by rw [e0]; exact rd_int (j + 1) h0 (n : Int)) (.cons (r3 j) .nil))
    intro nx
    obtain ⟨vs, bls, n1, q1, q2, q3⟩ := hz nx
    refine ⟨vs, bls, n1, q1, q2, fun h hh => ?_⟩
    obtain ⟨parts, rfl, al⟩ := q3 h hh
    cases al with | cons a0 al => cases al with | cons a3 al =>
    cases al
    obtain ⟨a, e3, sr⟩ := a3
    exact ⟨a, by rw [a0, e3]; rfl, sr⟩
  obtain ⟨f, hf⟩ := h
  rcases DataW.trod_slice ht hf with ⟨_, hx⟩ | ⟨ad, len, cap, elems, rest, n, _, _, hx, _, _, _, hl, hi, _, _⟩
  · have hd : d = .nil := congrArg Prod.fst hx
    subst hd
    refine ⟨[], (fun o ho => by cases ho), (fun _ _ _ _ => ⟨Nat.zero_le _, fun o ho => by cases ho⟩), fun n nx => ?_⟩
    obtain ⟨vs, bl, n1, e1, l1, k1⟩ := rd_nil (Hh := Hh) (n + 3) ht nx
    exact ⟨vs, bl, n1, e1, l1, fun h hh => ⟨none, by rw [k1 h hh, hce]; rfl, [], .nil, .inl rfl⟩⟩
  · have hd : d = .slice (elems.map (·.1)) (rest.map (·.1)) := congrArg Prod.fst hx
    obtain ⟨ops, al⟩ := gather (p := fun (x : DataW Hh × List MemPlace) (o : Oq) => (o.ok ∧ (P.bytesOf eb = 1 → ∀ B, (∀ n ∈ x.1.weights P e, n ≤ B) → o.l.length ≤ B)) ∧ ∀ n, Rd (absD P (n + 3) e x.1) (fun h vs => OqAt h o vs)) elems (fun y hy => by
      obtain ⟨i, hi1, hi2⟩ := List.getElem_of_mem hy
      have hi3 : elems[i]? = some y := by rw [List.getElem?_eq_getElem hi1, hi2]
      have h4 := (hi i (by omega)).trans hi3
      simp only [Option.bind_eq_some_iff] at h4
      obtain ⟨cs, _, h5⟩ := h4
      exact one _ _ _ h5)
    refine ⟨ops, fun o ho => ?_, fun h32 hb1 B hB => ?_, fun n nx => ?_⟩
    · clear hl hi hx hd hf
      induction al with
      | nil => cases ho
      | cons h1 _ ih => rcases List.mem_cons.1 ho with rfl | ho
                        · exact h1.1.1
                        · exact ih ho
    · have hB' : ∀ n ∈ ((elems.map (·.1)).length + (rest.map (·.1)).length) * P.bytesOf e :: DataW.weightsAll P e (elems.map (·.1)), n ≤ B := by
        intro n hn
        apply hB n
        rw [hd]
        simp only [DataW.weights, ht, List.mem_cons, List.mem_append] at hn ⊢
        rcases hn with h | h
        · exact .inl h
        · exact .inr (.inl h)
      refine ⟨?_, fun o ho => ?_⟩
      · have := hB' _ (List.mem_cons_self ..)
        rw [h32, List.length_map, al.len] at this; omega
      · have hB2 : ∀ n ∈ DataW.weightsAll P e (elems.map (·.1)), n ≤ B := fun n hn => hB' n (List.mem_cons_of_mem _ hn)
        clear hl hi hx hd hf hB hB'
        induction al with
        | nil => cases ho
        | cons h1 _ ih =>
          simp only [List.map_cons, DataW.weightsAll, List.mem_append] at hB2
          rcases List.mem_cons.1 ho with rfl | ho
          · exact h1.1.2 hb1 B (fun n hn => hB2 n (.inl hn))
          · exact ih ho (fun n hn => hB2 n (.inr hn))
    · have al2 : Al2 (fun (dd : DataW Hh) R => Rd (absD P (n + 3) e dd) R) (elems.map (·.1)) (ops.map (fun o h vs => OqAt h o vs)) := by
        clear hl hi hx hd hf
        induction al with
        | nil => exact .nil
        | cons h1 _ ih => exact .cons (h1.2 n) ih
      obtain ⟨vs, bl, n1, e1, l1, k1⟩ := rd_slice (Hh := Hh) (n + 3) ht (elems.map (·.1)) (rest.map (·.1)) al2 nx
      rw [hd]
      refine ⟨vs, bl, n1, e1, l1, fun h hh => ?_⟩
      obtain ⟨ad2, parts, ev, al3, t⟩ := k1 h hh
      have le : (elems.map (·.1)).length = ops.length := by rw [List.length_map]; exact al.len
      refine ⟨ad2, by rw [ev, le, hce], parts, ?_, ?_⟩
      · have conv : ∀ (os : List Oq) (ps : List (List V)), Al2 (fun (R : H → List V → Prop) p => R h p) (os.map (fun o h vs => OqAt h o vs)) ps → Al2 (OqAt h) os ps := by
          intro os
          induction os with
          | nil => intro ps a; cases a; exact .nil
          | cons o os ih => intro ps a; cases a with | cons a1 a2 => exact .cons a1 (ih _ a2)
        exact conv _ _ al3
      · rcases t with t | ⟨k, t1, t2, t3⟩
        · left
          rw [t] at le
          exact List.length_eq_zero_iff.1 le.symm
        · exact .inr ⟨k, .ro, t1, t2, t3⟩
end
theorem oq_len {h : H} {ops : List Oq} {parts : List (List V)} (al : Al2 (OqAt h) ops parts) : ∀ p ∈ parts, p.length = 2 := by
  induction al with
  | nil => intro p hp; cases hp
  | cons h1 _ ih => intro p hp; rcases List.mem_cons.1 hp with rfl | hp
                    · obtain ⟨a, rfl, _⟩ := h1; rfl
                    · exact ih p hp
theorem OqsH.row {h : H} {a : Option (Nat × Nat)} {ops : List Oq} (x : OqsH h a ops) : RowS h ops a 2 := by
  obtain ⟨parts, al, t⟩ := x
  rcases t with t | ⟨k, md, t1, t2, t3⟩
  · exact .inl t
  · refine .inr ⟨k, 0, _, md, t1, rfl, t2, t3, by rw [flat_len (k := 2) (oq_len al), al.len]; omega, fun i o ho => ?_⟩
    obtain ⟨p, hp, b, rfl, s⟩ := al.get i o ho
    exact ⟨b, none, 1, by rw [Nat.zero_add]; exact flat_get (oq_len al) i _ hp, s⟩
/-! statements: are operations great -/
theorem gq_take (ops : List Oq) (i : Nat) (o : Oq) (h : ops[i]? = some o) : gq (ops.take (i + 1)) = gq (ops.take i) + o.l.length := by
  induction ops generalizing i with
  | nil => simp at h
  | cons a r ih =>
    cases i with
    | zero => simp at h; subst h; simp [gq]
    | succ i => simp at h; rw [List.take_succ_cons, List.take_succ_cons]; simp only [gq]; rw [ih i h]; omega
theorem gq_le (ops : List Oq) (B : Nat) (h : ∀ o ∈ ops, o.l.length ≤ B) : gq ops ≤ ops.length * B := by
  induction ops with
  | nil => simp [gq]
  | cons a r ih =>
    have h1 := ih (fun o ho => h o (List.mem_cons_of_mem _ ho))
    have h2 := h a (List.mem_cons_self ..)
    simp only [gq, List.length_cons, Nat.succ_mul]; omega
structure GqI (v : V) (ops : List Oq) (h0 : H) (i : Nat) (T : Tr V) (h : H) : Prop where
  il : i ≤ ops.length
  t0 : evO T (.t 0) = v
  t3 : ∃ s : Int, evO T (.t 3) = .int .i64 s ∧ (ops.length ≤ 100 → s = (gq (ops.take i) : Nat))
  t6 : evO T (.t 6) = .int .i64 (ops.length : Int)
  t7 : evO T (.t 7) = .int .i64 (i : Int)
  hh : h = h0
theorem gq_step (Q : Orc) (m : Nat) (a : Option (Nat × Nat)) (c : Option Nat) (ez : Nat) (ops : List Oq) (B : Nat) (hB : B ≤ 140737488351232) (hl : ops.length ≤ B) (hs : ∀ o ∈ ops, o.l.length ≤ B) (h0 : H) (rw_ : RowS h0 ops a ez) : ∀ i T h, i < ops.length → GqI (.slice a ops.length c ez) ops h0 i T h → ∃ T' h', evC Q 26 m none L_purserlaw10_great_0 ⟨T, [], h⟩ = some (.normal, ⟨T', [], h'⟩) ∧ GqI (.slice a ops.length c ez) ops h0 (i + 1) T' h' := by
  intro i T h hi ⟨_, t0, ⟨s, t3, e3⟩, t6, t7, hh⟩
  subst hh
  have c0 : decide ((i : Int) < (ops.length : Int)) = true := decide_eq_true (by omega)
  have wi : wr .i64 ((i : Int) + 1) = ((i + 1 : Nat) : Int) := by rw [wr_i64 (by omega)]; omega
  have ix : idx (i : Int) ops.length = some i := idxn hi
  obtain ⟨o, ho⟩ : ∃ o, ops[i]? = some o := ⟨_, List.getElem?_eq_getElem hi⟩
  have om := List.mem_of_getElem? ho
  obtain ⟨q, off, vs, md, b, cb, eb, rfl, rfl, hq, g, _, _, cg⟩ := row_at rw_ i o ho
  have gt := gq_take ops i o ho
  rw [Nat.add_assoc] at cg
  have g1 : ops.length ≤ 100 → gq (ops.take (i + 1)) ≤ 100 * B := fun h => by
    have := gq_le (ops.take (i + 1)) B (fun x hx => hs x (List.mem_of_mem_take hx))
    have h2 : (ops.take (i + 1)).length ≤ 100 := by rw [List.length_take]; omega
    exact Nat.le_trans this (Nat.mul_le_mul_right _ h2)
  obtain ⟨w, ew⟩ : ∃ w, wr .i64 (s + (o.l.length : Int)) = w := ⟨_, rfl⟩
  have e4 : ops.length ≤ 100 → w = (gq (ops.take (i + 1)) : Nat) := fun h => by
    have := g1 h
    have := e3 h
    rw [← ew, this, gt]
    rw [wr_i64 (by omega)]; omega
  have i1 : i + 1 ≤ ops.length := hi
  obtain ⟨n, en⟩ : ∃ n, ops.length = n := ⟨_, rfl⟩
  rw [en] at t0 t6 c0 ix
  refine ⟨_, _, by
    simp (config := {maxSteps := 2000000}) (disch := first | omega | (simp only [List.length_cons, List.length_nil, List.length_append, List.length_drop]; omega)) only [L_purserlaw10_great_0, t0, t3, t6, t7, g, cg, c0, wi, ix, ew, ↓s_len, x_lenS, ↓b_xor32, ↓b_and32, ↓b_or32, ↓u_not32, b_xor32, b_and32, b_or32, u_not32, w32ad, ↓x_conv, x_convV, ↓x_fieldAddr, x_fieldV, ↓s_nilchk, x_nilchk, Nat.zero_add, Nat.add_zero, Nat.mul_one, ↓l_loop, ↓l_succ, ↓l_normal, l_normal, l_exit, l_ret, l_iteN, ↓h_put_get, ↓h_new_get, ↓h_del_get, h_next_put, h_next_new, h_next_del, Nat.add_assoc, Nat.add_eq_left, Nat.left_eq_add, Nat.add_left_cancel_iff, ↓s_load, m_load, ↓m_load1, m_load1, ↓m_st, m_stE, m_storeI, m_storeE, w_zero, w_succ, ↓s_alloc, ↓x_idxA, ↓x_idxS, x_idxAE, x_idxSE, x_addrE, x_idx, x_lenS, ↓s_len, ↓x_buildS, x_buildE, ↓x_P0, ↓x_P1, x_fill0, x_filli, x_fills, x_fillb, c_int, List.length_cons, List.length_nil, List.cons_append, List.drop_succ_cons, List.drop_zero, List.drop_nil, List.nil_append, Int.reduceAdd, Int.reduceToNat, Int.reduceLT, Int.reduceLE, Nat.reduceAdd, Nat.reduceMul, Nat.reduceLeDiff, Int.reduceEq, Int.reduceSub, Int.cast_ofNat_Int, s_resc, s_consR, m_load4, m_store4, s_res0, ↓s_skip, ↓s_ops, ↓s_dops, ↓s_seq, ↓s_cond, ↓s_block, ↓s_exit, ↓s_ret, ↓s_scope, ↓s_nil, ↓s_op, ↓s_opg, ↓s_wanted', ↓s_wantV, s_wantV, s_wantV0, beq_true, beq_false, ↓s_bindS, s_bindS, ↓s_bindE, s_bindE, s_bindE_ret, s_bindE_exit, s_bindE_iteN, s_norm, ↓s_condV, s_condV, s_block_ret, s_block_normal, s_block_exit, s_block_iteN, ↓s_getp, ↓s_getp0, ↓s_get, s_get0, ↓s_con, ↓s_fn, ↓s_os0, ↓s_os1, ↓s_list0, ↓s_list1, ↓s_mov, ↓s_pick, ↓s_pickE, s_pickE, ↓s_bin, ↓s_un, ↓s_minmax, ↓s_call, ↓s_callv, ↓s_callV, ↓s_ext, s_same, b_eql, b_neq, b_lss, b_leq, b_gtr, b_geq, b_add, b_sub, b_mul, b_eqlb, b_neqb, b_fnil, b_fnil', b_fnil2, b_fnil2', u_neg, u_not, m_two, s_end, s_end', s_end_iteN, s_res0, s_res1, s_tup1, s_tup2, ↓iteN_true, ↓iteN_false, iteN_true, iteN_false, Nat.zero_add, List.nil_append, List.append_nil, Nat.reduceEqDiff, reduceIte, decide_true, decide_false, Bool.not_true, Bool.not_false, List.getElem?_cons_zero, List.getElem?_cons_succ, Bool.false_eq_true, if_true, if_false, beq_self_eq_true]
    exact rfl, ⟨i1, by rw [en]; exact (by (simp only [s_getp, s_getp0, Nat.reduceEqDiff, decide_false, decide_true, iteN_false, iteN_true, t0]; try rfl)), ⟨w, (by (simp only [s_getp, s_getp0, Nat.reduceEqDiff, decide_false, decide_true, iteN_false, iteN_true, t3]; try rfl)), e4⟩, by rw [en]; exact (by (simp only [s_getp, s_getp0, Nat.reduceEqDiff, decide_false, decide_true, iteN_false, iteN_true, t6]; try rfl)), (by (simp only [s_getp, s_getp0, Nat.reduceEqDiff, decide_false, decide_true, iteN_false, iteN_true, t7]; try rfl)), rfl⟩⟩
def greatQ (ops : List Oq) : Bool := decide (100 < ops.length) || decide (70000 < gq ops)
theorem greatq_go (e : E k_purserlaw10_great = some f_purserlaw10_great) (x : ∀ a h, X (.fn k_purserlaw10_great) a h = none) (N : Nat) (a : Option (Nat × Nat)) (c : Option Nat) (ez : Nat) (ops : List Oq) (B : Nat) (hB : B ≤ 140737488351232) (hl : ops.length ≤ B) (hs : ∀ o ∈ ops, o.l.length ≤ B) (h : H) (rw_ : RowS h ops a ez) :
    callX E X (N + ops.length + 26) (.fn k_purserlaw10_great) [.slice a ops.length c ez] h = some (.bool (greatQ ops), h) := by
  rw [x_cfn e _ _ (Nat.le_of_ble_eq_true rfl) (x _ _)]
  have fin : ∀ T, GqI (.slice a ops.length c ez) ops h 0 T h → fnEnd [.tmp 2] (bindE (blockE 0 (loopN (evC (callX E X (N + ops.length + 25)) 26 (N + ops.length + 25) none L_purserlaw10_great_0) (N + ops.length + 25) ⟨T, [], h⟩)) (evC (callX E X (N + ops.length + 25)) 26 (N + ops.length + 25) none R_purserlaw10_great_0)) = some (.bool (greatQ ops), h) := by
    intro T I
    obtain ⟨T', h', r, t0, ⟨s, t3, e3⟩, hh⟩ := loop_go (f := evC (callX E X (N + ops.length + 25)) 26 (N + ops.length + 25) none L_purserlaw10_great_0) (GqI (.slice a ops.length c ez) ops h) ops.length (.exit 0) (by intro h; cases h) (fun T h' => evO T (.t 0) = .slice a ops.length c ez ∧ (∃ s : Int, evO T (.t 3) = .int .i64 s ∧ (ops.length ≤ 100 → s = (gq ops : Nat))) ∧ h' = h) (gq_step _ _ a c ez ops B hB hl hs h rw_) (fun T h' I => by
      obtain ⟨il, t0, ⟨s, t3, e3⟩, t6, t7, hh⟩ := I
      rw [List.take_length] at e3
      have c0 : decide ((ops.length : Int) < (ops.length : Int)) = false := decide_eq_false (by omega)
      refine ⟨_, _, by
        simp (config := {maxSteps := 2000000}) (disch := first | omega | (simp only [List.length_cons, List.length_nil, List.length_append, List.length_drop]; omega)) only [L_purserlaw10_great_0, t6, t7, c0, ↓b_xor32, ↓b_and32, ↓b_or32, ↓u_not32, b_xor32, b_and32, b_or32, u_not32, w32ad, ↓x_conv, x_convV, ↓x_fieldAddr, x_fieldV, ↓s_nilchk, x_nilchk, Nat.zero_add, Nat.add_zero, Nat.mul_one, ↓l_loop, ↓l_succ, ↓l_normal, l_normal, l_exit, l_ret, l_iteN, ↓h_put_get, ↓h_new_get, ↓h_del_get, h_next_put, h_next_new, h_next_del, Nat.add_assoc, Nat.add_eq_left, Nat.left_eq_add, Nat.add_left_cancel_iff, ↓s_load, m_load, ↓m_load1, m_load1, ↓m_st, m_stE, m_storeI, m_storeE, w_zero, w_succ, ↓s_alloc, ↓x_idxA, ↓x_idxS, x_idxAE, x_idxSE, x_addrE, x_idx, x_lenS, ↓s_len, ↓x_buildS, x_buildE, ↓x_P0, ↓x_P1, x_fill0, x_filli, x_fills, x_fillb, c_int, List.length_cons, List.length_nil, List.cons_append, List.drop_succ_cons, List.drop_zero, List.drop_nil, List.nil_append, Int.reduceAdd, Int.reduceToNat, Int.reduceLT, Int.reduceLE, Nat.reduceAdd, Nat.reduceMul, Nat.reduceLeDiff, Int.reduceEq, Int.reduceSub, Int.cast_ofNat_Int, s_resc, s_consR, m_load4, m_store4, s_res0, ↓s_skip, ↓s_ops, ↓s_dops, ↓s_seq, ↓s_cond, ↓s_block, ↓s_exit, ↓s_ret, ↓s_scope, ↓s_nil, ↓s_op, ↓s_opg, ↓s_wanted', ↓s_wantV, s_wantV, s_wantV0, beq_true, beq_false, ↓s_bindS, s_bindS, ↓s_bindE, s_bindE, s_bindE_ret, s_bindE_exit, s_bindE_iteN, s_norm, ↓s_condV, s_condV, s_block_ret, s_block_normal, s_block_exit, s_block_iteN, ↓s_getp, ↓s_getp0, ↓s_get, s_get0, ↓s_con, ↓s_fn, ↓s_os0, ↓s_os1, ↓s_list0, ↓s_list1, ↓s_mov, ↓s_pick, ↓s_pickE, s_pickE, ↓s_bin, ↓s_un, ↓s_minmax, ↓s_call, ↓s_callv, ↓s_callV, ↓s_ext, s_same, b_eql, b_neq, b_lss, b_leq, b_gtr, b_geq, b_add, b_sub, b_mul, b_eqlb, b_neqb, b_fnil, b_fnil', b_fnil2, b_fnil2', u_neg, u_not, m_two, s_end, s_end', s_end_iteN, s_res0, s_res1, s_tup1, s_tup2, ↓iteN_true, ↓iteN_false, iteN_true, iteN_false, Nat.zero_add, List.nil_append, List.append_nil, Nat.reduceEqDiff, reduceIte, decide_true, decide_false, Bool.not_true, Bool.not_false, List.getElem?_cons_zero, List.getElem?_cons_succ, Bool.false_eq_true, if_true, if_false, beq_self_eq_true]
        exact rfl, (by (simp only [s_getp, s_getp0, Nat.reduceEqDiff, decide_false, decide_true, iteN_false, iteN_true, t0]; try rfl)), ⟨s, (by (simp only [s_getp, s_getp0, Nat.reduceEqDiff, decide_false, decide_true, iteN_false, iteN_true, t3]; try rfl)), e3⟩, hh⟩) ops.length 0 (by omega) (N + ops.length + 25) (by omega) T h I
    rw [r, hh]
    unfold greatQ
    by_cases c : 100 < ops.length
    · have c1 : decide ((100 : Int) < (ops.length : Int)) = true := decide_eq_true (by omega)
      rw [decide_eq_true c, Bool.true_or]
      simp (config := {maxSteps := 2000000}) (disch := first | omega | (simp only [List.length_cons, List.length_nil, List.length_append, List.length_drop]; omega)) only [R_purserlaw10_great_0, t0, t3, c1, ↓s_len, x_lenS, ↓b_xor32, ↓b_and32, ↓b_or32, ↓u_not32, b_xor32, b_and32, b_or32, u_not32, w32ad, ↓x_conv, x_convV, ↓x_fieldAddr, x_fieldV, ↓s_nilchk, x_nilchk, Nat.zero_add, Nat.add_zero, Nat.mul_one, ↓l_loop, ↓l_succ, ↓l_normal, l_normal, l_exit, l_ret, l_iteN, ↓h_put_get, ↓h_new_get, ↓h_del_get, h_next_put, h_next_new, h_next_del, Nat.add_assoc, Nat.add_eq_left, Nat.left_eq_add, Nat.add_left_cancel_iff, ↓s_load, m_load, ↓m_load1, m_load1, ↓m_st, m_stE, m_storeI, m_storeE, w_zero, w_succ, ↓s_alloc, ↓x_idxA, ↓x_idxS, x_idxAE, x_idxSE, x_addrE, x_idx, x_lenS, ↓s_len, ↓x_buildS, x_buildE, ↓x_P0, ↓x_P1, x_fill0, x_filli, x_fills, x_fillb, c_int, List.length_cons, List.length_nil, List.cons_append, List.drop_succ_cons, List.drop_zero, List.drop_nil, List.nil_append, Int.reduceAdd, Int.reduceToNat, Int.reduceLT, Int.reduceLE, Nat.reduceAdd, Nat.reduceMul, Nat.reduceLeDiff, Int.reduceEq, Int.reduceSub, Int.cast_ofNat_Int, s_resc, s_consR, m_load4, m_store4, s_res0, ↓s_skip, ↓s_ops, ↓s_dops, ↓s_seq, ↓s_cond, ↓s_block, ↓s_exit, ↓s_ret, ↓s_scope, ↓s_nil, ↓s_op, ↓s_opg, ↓s_wanted', ↓s_wantV, s_wantV, s_wantV0, beq_true, beq_false, ↓s_bindS, s_bindS, ↓s_bindE, s_bindE, s_bindE_ret, s_bindE_exit, s_bindE_iteN, s_norm, ↓s_condV, s_condV, s_block_ret, s_block_normal, s_block_exit, s_block_iteN, ↓s_getp, ↓s_getp0, ↓s_get, s_get0, ↓s_con, ↓s_fn, ↓s_os0, ↓s_os1, ↓s_list0, ↓s_list1, ↓s_mov, ↓s_pick, ↓s_pickE, s_pickE, ↓s_bin, ↓s_un, ↓s_minmax, ↓s_call, ↓s_callv, ↓s_callV, ↓s_ext, s_same, b_eql, b_neq, b_lss, b_leq, b_gtr, b_geq, b_add, b_sub, b_mul, b_eqlb, b_neqb, b_fnil, b_fnil', b_fnil2, b_fnil2', u_neg, u_not, m_two, s_end, s_end', s_end_iteN, s_res0, s_res1, s_tup1, s_tup2, ↓iteN_true, ↓iteN_false, iteN_true, iteN_false, Nat.zero_add, List.nil_append, List.append_nil, Nat.reduceEqDiff, reduceIte, decide_true, decide_false, Bool.not_true, Bool.not_false, List.getElem?_cons_zero, List.getElem?_cons_succ, Bool.false_eq_true, if_true, if_false, beq_self_eq_true]
    · have c1 : decide ((100 : Int) < (ops.length : Int)) = false := decide_eq_false (by omega)
      rw [decide_eq_false c, Bool.false_or]
      have e4 := e3 (by omega)
      have c2 : decide ((70000 : Int) < s) = decide (70000 < gq ops) := by rw [decide_eq_decide]; omega
      generalize decide (70000 < gq ops) = q at *
      simp (config := {maxSteps := 2000000}) (disch := first | omega | (simp only [List.length_cons, List.length_nil, List.length_append, List.length_drop]; omega)) only [R_purserlaw10_great_0, t0, t3, c1, c2, ↓s_len, x_lenS, ↓b_xor32, ↓b_and32, ↓b_or32, ↓u_not32, b_xor32, b_and32, b_or32, u_not32, w32ad, ↓x_conv, x_convV, ↓x_fieldAddr, x_fieldV, ↓s_nilchk, x_nilchk, Nat.zero_add, Nat.add_zero, Nat.mul_one, ↓l_loop, ↓l_succ, ↓l_normal, l_normal, l_exit, l_ret, l_iteN, ↓h_put_get, ↓h_new_get, ↓h_del_get, h_next_put, h_next_new, h_next_del, Nat.add_assoc, Nat.add_eq_left, Nat.left_eq_add, Nat.add_left_cancel_iff, ↓s_load, m_load, ↓m_load1, m_load1, ↓m_st, m_stE, m_storeI, m_storeE, w_zero, w_succ, ↓s_alloc, ↓x_idxA, ↓x_idxS, x_idxAE, x_idxSE, x_addrE, x_idx, x_lenS, ↓s_len, ↓x_buildS, x_buildE, ↓x_P0, ↓x_P1, x_fill0, x_filli, x_fills, x_fillb, c_int, List.length_cons, List.length_nil, List.cons_append, List.drop_succ_cons, List.drop_zero, List.drop_nil, List.nil_append, Int.reduceAdd, Int.reduceToNat, Int.reduceLT, Int.reduceLE, Nat.reduceAdd, Nat.reduceMul, Nat.reduceLeDiff, Int.reduceEq, Int.reduceSub, Int.cast_ofNat_Int, s_resc, s_consR, m_load4, m_store4, s_res0, ↓s_skip, ↓s_ops, ↓s_dops, ↓s_seq, ↓s_cond, ↓s_block, ↓s_exit, ↓s_ret, ↓s_scope, ↓s_nil, ↓s_op, ↓s_opg, ↓s_wanted', ↓s_wantV, s_wantV, s_wantV0, beq_true, beq_false, ↓s_bindS, s_bindS, ↓s_bindE, s_bindE, s_bindE_ret, s_bindE_exit, s_bindE_iteN, s_norm, ↓s_condV, s_condV, s_block_ret, s_block_normal, s_block_exit, s_block_iteN, ↓s_getp, ↓s_getp0, ↓s_get, s_get0, ↓s_con, ↓s_fn, ↓s_os0, ↓s_os1, ↓s_list0, ↓s_list1, ↓s_mov, ↓s_pick, ↓s_pickE, s_pickE, ↓s_bin, ↓s_un, ↓s_minmax, ↓s_call, ↓s_callv, ↓s_callV, ↓s_ext, s_same, b_eql, b_neq, b_lss, b_leq, b_gtr, b_geq, b_add, b_sub, b_mul, b_eqlb, b_neqb, b_fnil, b_fnil', b_fnil2, b_fnil2', u_neg, u_not, m_two, s_end, s_end', s_end_iteN, s_res0, s_res1, s_tup1, s_tup2, ↓iteN_true, ↓iteN_false, iteN_true, iteN_false, Nat.zero_add, List.nil_append, List.append_nil, Nat.reduceEqDiff, reduceIte, decide_true, decide_false, Bool.not_true, Bool.not_false, List.getElem?_cons_zero, List.getElem?_cons_succ, Bool.false_eq_true, if_true, if_false, beq_self_eq_true]
  obtain ⟨R, eR⟩ : ∃ R, R_purserlaw10_great_0 = R := ⟨_, rfl⟩
  obtain ⟨Lo, eL⟩ : ∃ R, L_purserlaw10_great_0 = R := ⟨_, rfl⟩
  rw [eR, eL] at fin ⊢
  simp (config := {maxSteps := 2000000}) (disch := first | omega | (simp only [List.length_cons, List.length_nil, List.length_append, List.length_drop]; omega)) only [↓s_len, x_lenS, ↓b_xor32, ↓b_and32, ↓b_or32, ↓u_not32, b_xor32, b_and32, b_or32, u_not32, w32ad, ↓x_conv, x_convV, ↓x_fieldAddr, x_fieldV, ↓s_nilchk, x_nilchk, Nat.zero_add, Nat.add_zero, Nat.mul_one, ↓l_loop, ↓l_succ, ↓l_normal, l_normal, l_exit, l_ret, l_iteN, ↓h_put_get, ↓h_new_get, ↓h_del_get, h_next_put, h_next_new, h_next_del, Nat.add_assoc, Nat.add_eq_left, Nat.left_eq_add, Nat.add_left_cancel_iff, ↓s_load, m_load, ↓m_load1, m_load1, ↓m_st, m_stE, m_storeI, m_storeE, w_zero, w_succ, ↓s_alloc, ↓x_idxA, ↓x_idxS, x_idxAE, x_idxSE, x_addrE, x_idx, x_lenS, ↓s_len, ↓x_buildS, x_buildE, ↓x_P0, ↓x_P1, x_fill0, x_filli, x_fills, x_fillb, c_int, List.length_cons, List.length_nil, List.cons_append, List.drop_succ_cons, List.drop_zero, List.drop_nil, List.nil_append, Int.reduceAdd, Int.reduceToNat, Int.reduceLT, Int.reduceLE, Nat.reduceAdd, Nat.reduceMul, Nat.reduceLeDiff, Int.reduceEq, Int.reduceSub, Int.cast_ofNat_Int, s_resc, s_consR, m_load4, m_store4, s_res0, ↓s_skip, ↓s_ops, ↓s_dops, ↓s_seq, ↓s_cond, ↓s_block, ↓s_exit, ↓s_ret, ↓s_scope, ↓s_nil, ↓s_op, ↓s_opg, ↓s_wanted', ↓s_wantV, s_wantV, s_wantV0, beq_true, beq_false, ↓s_bindS, s_bindS, ↓s_bindE, s_bindE, s_bindE_ret, s_bindE_exit, s_bindE_iteN, s_norm, ↓s_condV, s_condV, s_block_ret, s_block_normal, s_block_exit, s_block_iteN, ↓s_getp, ↓s_getp0, ↓s_get, s_get0, ↓s_con, ↓s_fn, ↓s_os0, ↓s_os1, ↓s_list0, ↓s_list1, ↓s_mov, ↓s_pick, ↓s_pickE, s_pickE, ↓s_bin, ↓s_un, ↓s_minmax, ↓s_call, ↓s_callv, ↓s_callV, ↓s_ext, s_same, b_eql, b_neq, b_lss, b_leq, b_gtr, b_geq, b_add, b_sub, b_mul, b_eqlb, b_neqb, b_fnil, b_fnil', b_fnil2, b_fnil2', u_neg, u_not, m_two, s_end, s_end', s_end_iteN, s_res0, s_res1, s_tup1, s_tup2, ↓iteN_true, ↓iteN_false, iteN_true, iteN_false, Nat.zero_add, List.nil_append, List.append_nil, Nat.reduceEqDiff, reduceIte, decide_true, decide_false, Bool.not_true, Bool.not_false, List.getElem?_cons_zero, List.getElem?_cons_succ, Bool.false_eq_true, if_true, if_false, beq_self_eq_true]
  exact fin _ ⟨by omega, (by (simp only [s_getp, s_getp0, Nat.reduceEqDiff, decide_false, decide_true, iteN_false, iteN_true, eL]; try rfl)), ⟨0, (by (simp only [s_getp, s_getp0, Nat.reduceEqDiff, decide_false, decide_true, iteN_false, iteN_true, eL]; try rfl)), fun _ => rfl⟩, (by (simp only [s_getp, s_getp0, Nat.reduceEqDiff, decide_false, decide_true, iteN_false, iteN_true, eL]; try rfl)), (by (simp only [s_getp, s_getp0, Nat.reduceEqDiff, decide_false, decide_true, iteN_false, iteN_true, eL]; try rfl)), rfl⟩
/-! parts of rows, and two texts one behind the other -/
theorem RowF.hi {lo : Nat} {h : H} {dn : List Oq} {a : Option (Nat × Nat)} {c : Option Nat} {e : Nat} (r : RowF lo h dn a c e) (n : Nat) (k : IntKind) (hn : n ≤ dn.length) : ∃ c', slcV 2 none (some (.int k (n : Int))) none (.slice a dn.length c e) = some (.slice a n c' 2) := by
  rcases r with ⟨rfl, rfl, rfl, rfl⟩ | ⟨_, q, md, ps, rfl, rfl, rfl, _⟩
  · rw [List.length_nil] at hn
    obtain rfl : n = 0 := by omega
    exact ⟨some 0, rfl⟩
  · refine ⟨none, ?_⟩
    have e1 : slcV 2 none (some (.int k (n : Int))) none (.slice (some (q, 0)) dn.length none 2) = (match bnd (some (.int k (n : Int))) dn.length dn.length with
      | some b => (match bnd none 0 b with | some l => some (.slice (upA (some (q, 0)) (l * 2)) (b - l) (subC none l) 2) | none => none)
      | none => none) := rfl
    rw [e1, x_bnd _ _ _ _ hn]
    rfl
theorem RowF.los {lo : Nat} {h : H} {dn : List Oq} {a : Option (Nat × Nat)} {c : Option Nat} {e : Nat} (r : RowF lo h dn a c e) (n : Nat) (k : IntKind) (hn : n ≤ dn.length) : ∃ c', slcV 2 (some (.int k (n : Int))) none none (.slice a dn.length c e) = some (.slice (upA a (n * 2)) (dn.length - n) c' 2) := by
  rcases r with ⟨rfl, rfl, rfl, rfl⟩ | ⟨_, q, md, ps, rfl, rfl, rfl, _⟩
  · rw [List.length_nil] at hn
    obtain rfl : n = 0 := by omega
    exact ⟨some 0, rfl⟩
  · refine ⟨none, ?_⟩
    have e1 : slcV 2 (some (.int k (n : Int))) none none (.slice (some (q, 0)) dn.length none 2) = (match bnd none dn.length dn.length with
      | some b => (match bnd (some (.int k (n : Int))) 0 b with | some l => some (.slice (upA (some (q, 0)) (l * 2)) (b - l) (subC none l) 2) | none => none)
      | none => none) := rfl
    rw [e1, x_bnd0]
    simp only
    rw [x_bnd _ _ _ _ hn]
    rfl
theorem RowS.e2 {h : H} {ops : List Oq} {a : Option (Nat × Nat)} {e : Nat} (r : RowS h ops a e) : RowS h ops a 2 := by
  rcases r with r | ⟨q, off, vs, md, e1, e2, t⟩
  · exact .inl r
  · exact .inr ⟨q, off, vs, md, e1, rfl, t⟩
theorem app_2 (h : H) (b s : List Nat) (hl : b.length + s.length ≤ 1000000) : ∃ v h1 a c e h', appendC (h.new (.cells [] .rw)) 1 1 (.slice (some (h.next, 0)) 0 (some 0) 1) (some (b.length, ofI .u8 b)) = some (v, h1) ∧ Kp h h1 ∧ appendC h1 1 1 v (some (s.length, ofI .u8 s)) = some (.slice a (b ++ s).length c e, h') ∧ Kp h h' ∧ SrcH h' a e (b ++ s) ∧ (b ++ s ≠ [] → c = none) := by
  by_cases hb : b = []
  · subst hb
    have e0 : appendC (h.new (.cells [] .rw)) 1 1 (.slice (some (h.next, 0)) 0 (some 0) 1) (some (([] : List Nat).length, ofI .u8 [])) = some (.slice (some (h.next, 0)) 0 (some 0) 1, h.new (.cells [] .rw)) := appN _ _ _ _ _ _
    refine ⟨.slice (some (h.next, 0)) 0 (some 0) 1, h.new (.cells [] .rw), ?_⟩
    cases hn : s.length with
    | zero =>
      have l0 : s = [] := List.length_eq_zero_iff.1 hn
      subst l0
      exact ⟨some (h.next, 0), some 0, 1, _, e0, Kp.new _ _, appN _ _ _ _ _ _, Kp.new _ _, .inl rfl, fun h => absurd rfl h⟩
    | succ n =>
      obtain ⟨h1, e1⟩ : ∃ h1, h.new (.cells [] .rw) = h1 := ⟨_, rfl⟩
      have g : h1.get h.next = some (.cells [] .rw) := by rw [← e1]; exact h_new_same _ _
      have k1 : Kp h h1 := by rw [← e1]; exact Kp.new _ _
      rw [e1] at e0 ⊢
      refine ⟨some (h1.next, 0), none, 1, h1.new (.cells (ofI .u8 s) .rw), e0, k1, ?_, k1.trans (Kp.new _ _), .inr ⟨h1.next, 0, _, .rw, rfl, rfl, Nat.lt_succ_self _, h_new_same _ _, by rw [ofI_len]; simp, by rw [List.drop_zero]; exact List.take_of_length_le (by rw [ofI_len]; exact Nat.le_refl _)⟩, fun _ => rfl⟩
      rw [List.nil_append, hn]
      unfold appendC
      simp only
      have r : (roomy (0 + (n + 1)) 1 && (Nat.beq 1 1 || (some (h.next, 0) : Option (Nat × Nat)).isNone) && (ofI .u8 s).all plainV) = true := by
        rw [plain_ofI]; have : roomy (0 + (n + 1)) 1 = true := by simp [roomy]; simp at hl; omega
        rw [this]; rfl
      have f : fullC (some 0) (0 + (n + 1)) = true := by
        show Nat.blt 0 (0 + (n + 1)) = true
        simp
      rw [r]
      simp only [_root_.cond_true, g, f]
      have rd : readN ([] : List V) 0 (0 * 1) = some [] := rfl
      simp only [rd, List.nil_append, Nat.zero_add]
  · obtain ⟨n, hn⟩ : ∃ n, b.length = n + 1 := ⟨b.length - 1, by have := List.length_pos_iff.2 hb; omega⟩
    obtain ⟨h1, e1⟩ : ∃ h1, h.new (.cells [] .rw) = h1 := ⟨_, rfl⟩
    have g : h1.get h.next = some (.cells [] .rw) := by rw [← e1]; exact h_new_same _ _
    have k1 : Kp h h1 := by rw [← e1]; exact Kp.new _ _
    have n1 := k1.1
    have wb : Wb (h1.new (.cells (ofI .u8 b) .rw)) b (some (h1.next, 0)) none 1 := .inr ⟨by omega, h1.next, .rw, rfl, rfl, rfl, h_new_same _ _, rfl, Nat.lt_succ_self _⟩
    obtain ⟨a', c', e', h', r2, wb2, nx, fr, ow⟩ := ap_wb _ b s _ _ _ wb hl
    refine ⟨.slice (some (h1.next, 0)) b.length none 1, h1.new (.cells (ofI .u8 b) .rw), a', c', e', h', ?_, k1.trans (Kp.new _ _), r2, ⟨by have : (h1.new (.cells (ofI .u8 b) .rw)).next = h1.next + 1 := rfl; omega, fun i hi => by rw [fr i (by have : (h1.new (.cells (ofI .u8 b) .rw)).next = h1.next + 1 := rfl; omega) (fun e => by cases e; omega), h_new_ne _ _ (by omega), k1.2 _ hi]⟩, wb2.src, fun hne => ?_⟩
    · rw [e1, hn]
      unfold appendC
      simp only
      have r : (roomy (0 + (n + 1)) 1 && (Nat.beq 1 1 || (some (h.next, 0) : Option (Nat × Nat)).isNone) && (ofI .u8 b).all plainV) = true := by
        rw [plain_ofI]; have : roomy (0 + (n + 1)) 1 = true := by simp [roomy]; omega
        rw [this]; rfl
      have f : fullC (some 0) (0 + (n + 1)) = true := by
        show Nat.blt 0 (0 + (n + 1)) = true
        simp
      rw [r]
      simp only [_root_.cond_true, g, f]
      have rd : readN ([] : List V) 0 (0 * 1) = some [] := rfl
      simp only [rd, List.nil_append, Nat.zero_add]
    · rcases wb2 with ⟨w1, _⟩ | ⟨_, _, _, _, w3, _⟩
      · exact absurd w1 hne
      · exact w3
end Go.Eng
namespace Go.Eng
open Go
variable {E : Nat → Option Fn} {X : Orc}
set_option linter.unusedSimpArgs false
set_option linter.unusedVariables false
def pcV (n : Nat) : Nat := if n ≤ 75 then n else if n ≤ 255 then 76 else 77
/-- the operation that pushes -/
def mkP (l : List Nat) : Oq := ⟨pcV l.length, l⟩
def pushR (l : List Nat) : Oq × Nat := if 65535 < l.length then (⟨0, []⟩, 100) else (mkP l, 0)
theorem st1 (u v : V) (h : H) (i : Nat) (x : Int) : storeE (some (.cells [u, v] .rw)) h i 0 [.int .u8 x] = some (h.put i (.cells [.int .u8 x, v] .rw)) := m_storeE _ _ _ _ _ (by show 0 + 1 ≤ 2; omega)
theorem push_go (e : EnOp E) (x : NoOp X) (ep : E k_ops_Push = some f_ops_Push) (xp : ∀ a h, X (.fn k_ops_Push) a h = none) (N : Nat) (l : List Nat) (hl : l.length ≤ 1000000) (a : Option (Nat × Nat)) (c : Option Nat) (ez : Nat) (h : H) (src : SrcH h a ez l) :
    ∃ h' a2 c2 e2, callX E X (N + 2) (.fn k_ops_Push) [.slice a l.length c ez] h = some (.tup [.agg [.int .u8 ((pushR l).1.code : Int), .slice a2 (pushR l).1.l.length c2 e2], .int .i64 ((pushR l).2 : Int)], h') ∧ Kp h h' ∧ SrcH h' a2 e2 (pushR l).1.l ∧ ((pushR l).1.l ≠ [] → ∀ q z, a2 = some (q, z) → h.next ≤ q) := by
  rw [x_cfn ep _ _ (Nat.le_of_ble_eq_true rfl) (xp _ _)]
  obtain ⟨hA, eA⟩ : ∃ hA, h.new (.cells [.int .u8 0, .slice none 0 (some 0) 0] .rw) = hA := ⟨_, rfl⟩
  have kA : Kp h hA := by rw [← eA]; exact Kp.new _ _
  have nA : hA.next = h.next + 1 := by rw [← eA]; rfl
  have gA : hA.get h.next = some (.cells [.int .u8 0, .slice none 0 (some 0) 0] .rw) := by rw [← eA]; exact h_new_same _ _
  have sA := src.mono kA
  obtain ⟨hB, b, cb, eb, rb, kB, sb, gb⟩ := clone_go e x N l hl a c ez hA sA (fun hn => sA.nn hn)
  obtain ⟨hC, eC⟩ : ∃ hC, (hB.new (.cells [.int .u8 0, .slice none 0 (some 0) 0] .rw)).put hB.next (.cells [.int .u8 77, .slice b l.length cb eb] .rw) = hC := ⟨_, rfl⟩
  have kC : Kp hB hC := by rw [← eC]; (repeat (first | exact Kp.refl _ | refine Kp.put ?_ _ (by first | omega | (simp only [h_next_put, h_next_new, h_next_del]; omega)) | refine Kp.del ?_ (by first | omega | (simp only [h_next_put, h_next_new, h_next_del]; omega)) | refine Kp.trans ?_ (Kp.new _ _)))
  have kBn := kB.1
  have gC0 : hC.get h.next = some (.cells [.int .u8 0, .slice none 0 (some 0) 0] .rw) := by rw [kC.2 _ (by omega), kB.2 _ (by omega), gA]
  have gC1 : hC.get hB.next = some (.cells [.int .u8 77, .slice b l.length cb eb] .rw) := by rw [← eC]; exact h_put_same _ _ _
  have kAC := kA.trans (kB.trans kC)
  have ln : ∀ q z, b = some (q, z) → l ≠ [] → q < hB.next := fun q z eq hne => by
    rcases sb with s | ⟨bi, off, vs, m, f1, f2, f3, _⟩
    · exact absurd s hne
    · rw [f1] at eq; cases eq; exact f3
  unfold pushR
  by_cases c1 : 65535 < l.length
  · rw [if_pos c1]
    have d1 : decide ((65535 : Int) < (l.length : Int)) = true := decide_eq_true (by omega)
    refine ⟨hC.put h.next (.cells [.int .u8 0, .slice none 0 (some 0) 0] .rw), none, some 0, 0, ?_, kAC.put _ (Nat.le_refl _), .inl rfl, fun h => absurd rfl h⟩
    simp only [List.length_nil]
    generalize l.length = n at *
    simp (config := {maxSteps := 2000000}) (disch := first | omega | (simp only [List.length_cons, List.length_nil, List.length_append, List.length_drop]; omega)) only [eA, rb, eC, gC0, d1, st2, st2r, ld2, x_build, x_aggO, x_P0, x_P1, x_fill0, x_fills, x_fillb, x_filli, ↓s_len, x_lenS, ↓b_xor32, ↓b_and32, ↓b_or32, ↓u_not32, b_xor32, b_and32, b_or32, u_not32, w32ad, ↓x_conv, x_convV, ↓x_fieldAddr, x_fieldV, ↓s_nilchk, x_nilchk, Nat.zero_add, Nat.add_zero, Nat.mul_one, ↓l_loop, ↓l_succ, ↓l_normal, l_normal, l_exit, l_ret, l_iteN, ↓h_put_get, ↓h_new_get, ↓h_del_get, h_next_put, h_next_new, h_next_del, Nat.add_assoc, Nat.add_eq_left, Nat.left_eq_add, Nat.add_left_cancel_iff, ↓s_load, m_load, ↓m_load1, m_load1, ↓m_st, m_stE, m_storeI, m_storeE, w_zero, w_succ, ↓s_alloc, ↓x_idxA, ↓x_idxS, x_idxAE, x_idxSE, x_addrE, x_idx, x_lenS, ↓s_len, ↓x_buildS, x_buildE, ↓x_P0, ↓x_P1, x_fill0, x_filli, x_fills, x_fillb, c_int, List.length_cons, List.length_nil, List.cons_append, List.drop_succ_cons, List.drop_zero, List.drop_nil, List.nil_append, Int.reduceAdd, Int.reduceToNat, Int.reduceLT, Int.reduceLE, Nat.reduceAdd, Nat.reduceMul, Nat.reduceLeDiff, Int.reduceEq, Int.reduceSub, Int.cast_ofNat_Int, s_resc, s_consR, m_load4, m_store4, s_res0, ↓s_skip, ↓s_ops, ↓s_dops, ↓s_seq, ↓s_cond, ↓s_block, ↓s_exit, ↓s_ret, ↓s_scope, ↓s_nil, ↓s_op, ↓s_opg, ↓s_wanted', ↓s_wantV, s_wantV, s_wantV0, beq_true, beq_false, ↓s_bindS, s_bindS, ↓s_bindE, s_bindE, s_bindE_ret, s_bindE_exit, s_bindE_iteN, s_norm, ↓s_condV, s_condV, s_block_ret, s_block_normal, s_block_exit, s_block_iteN, ↓s_getp, ↓s_getp0, ↓s_get, s_get0, ↓s_con, ↓s_fn, ↓s_os0, ↓s_os1, ↓s_list0, ↓s_list1, ↓s_mov, ↓s_pick, ↓s_pickE, s_pickE, ↓s_bin, ↓s_un, ↓s_minmax, ↓s_call, ↓s_callv, ↓s_callV, ↓s_ext, s_same, b_eql, b_neq, b_lss, b_leq, b_gtr, b_geq, b_add, b_sub, b_mul, b_eqlb, b_neqb, b_fnil, b_fnil', b_fnil2, b_fnil2', u_neg, u_not, m_two, s_end, s_end', s_end_iteN, s_res0, s_res1, s_tup1, s_tup2, ↓iteN_true, ↓iteN_false, iteN_true, iteN_false, Nat.zero_add, List.nil_append, List.append_nil, Nat.reduceEqDiff, reduceIte, decide_true, decide_false, Bool.not_true, Bool.not_false, List.getElem?_cons_zero, List.getElem?_cons_succ, Bool.false_eq_true, if_true, if_false, beq_self_eq_true]
    try rfl
  · rw [if_neg c1]
    have d1 : decide ((65535 : Int) < (l.length : Int)) = false := decide_eq_false (by omega)
    have fin : ∀ (cd : Nat) (hD : H), hD = (hC.put hB.next (.cells [.int .u8 (cd : Int), .slice b l.length cb eb] .rw)).put h.next (.cells [.int .u8 (cd : Int), .slice b l.length cb eb] .rw) → Kp h hD ∧ SrcH hD b eb l ∧ (l ≠ [] → ∀ q z, b = some (q, z) → h.next ≤ q) ∧ hD.get h.next = some (.cells [.int .u8 (cd : Int), .slice b l.length cb eb] .rw) := by
      intro cd hD eD
      refine ⟨by rw [eD]; exact (kAC.put _ (by omega)).put _ (Nat.le_refl _), ?_, fun _ q z eq => by have := gb q z eq; omega, by rw [eD]; exact h_put_same _ _ _⟩
      by_cases hne : l = []
      · exact .inl hne
      · rcases sb with s | ⟨bi, off, vs, m, f1, f2, f3, f4, f5, f6⟩
        · exact .inl s
        · have g1 := gb _ _ f1
          exact .inr ⟨bi, off, vs, m, f1, f2, by rw [eD]; show bi < hC.next; have := kC.1; omega, by rw [eD, h_put_ne _ _ (by omega), h_put_ne _ _ (by omega), kC.2 _ f3, f4], f5, f6⟩
    unfold mkP pcV
    by_cases c2 : l.length ≤ 75
    · rw [if_pos c2]
      have d2 : decide ((l.length : Int) ≤ 75) = true := decide_eq_true (by omega)
      have w2 : wr .u8 (l.length : Int) = (l.length : Int) := by rw [w8n, Nat.mod_eq_of_lt (by omega)]
      obtain ⟨hD, eD⟩ : ∃ hD, (hC.put hB.next (.cells [.int .u8 (l.length : Int), .slice b l.length cb eb] .rw)).put h.next (.cells [.int .u8 (l.length : Int), .slice b l.length cb eb] .rw) = hD := ⟨_, rfl⟩
      obtain ⟨f1, f2, f3, f4⟩ := fin l.length hD eD.symm
      refine ⟨hD, b, cb, eb, ?_, f1, f2, f3⟩
      have z1 : (hB.next = h.next) = False := by simp; omega
      simp only
      generalize l.length = n at *
      simp (config := {maxSteps := 2000000}) (disch := first | omega | (simp only [List.length_cons, List.length_nil, List.length_append, List.length_drop]; omega)) only [eA, rb, eC, gC0, gC1, d1, d2, w2, eD, f4, z1, st2, st2r, st1, ld2, x_build, x_aggO, x_P0, x_P1, x_fill0, x_fills, x_fillb, x_filli, ↓s_len, x_lenS, ↓b_xor32, ↓b_and32, ↓b_or32, ↓u_not32, b_xor32, b_and32, b_or32, u_not32, w32ad, ↓x_conv, x_convV, ↓x_fieldAddr, x_fieldV, ↓s_nilchk, x_nilchk, Nat.zero_add, Nat.add_zero, Nat.mul_one, ↓l_loop, ↓l_succ, ↓l_normal, l_normal, l_exit, l_ret, l_iteN, ↓h_put_get, ↓h_new_get, ↓h_del_get, h_next_put, h_next_new, h_next_del, Nat.add_assoc, Nat.add_eq_left, Nat.left_eq_add, Nat.add_left_cancel_iff, ↓s_load, m_load, ↓m_load1, m_load1, ↓m_st, m_stE, m_storeI, m_storeE, w_zero, w_succ, ↓s_alloc, ↓x_idxA, ↓x_idxS, x_idxAE, x_idxSE, x_addrE, x_idx, x_lenS, ↓s_len, ↓x_buildS, x_buildE, ↓x_P0, ↓x_P1, x_fill0, x_filli, x_fills, x_fillb, c_int, List.length_cons, List.length_nil, List.cons_append, List.drop_succ_cons, List.drop_zero, List.drop_nil, List.nil_append, Int.reduceAdd, Int.reduceToNat, Int.reduceLT, Int.reduceLE, Nat.reduceAdd, Nat.reduceMul, Nat.reduceLeDiff, Int.reduceEq, Int.reduceSub, Int.cast_ofNat_Int, s_resc, s_consR, m_load4, m_store4, s_res0, ↓s_skip, ↓s_ops, ↓s_dops, ↓s_seq, ↓s_cond, ↓s_block, ↓s_exit, ↓s_ret, ↓s_scope, ↓s_nil, ↓s_op, ↓s_opg, ↓s_wanted', ↓s_wantV, s_wantV, s_wantV0, beq_true, beq_false, ↓s_bindS, s_bindS, ↓s_bindE, s_bindE, s_bindE_ret, s_bindE_exit, s_bindE_iteN, s_norm, ↓s_condV, s_condV, s_block_ret, s_block_normal, s_block_exit, s_block_iteN, ↓s_getp, ↓s_getp0, ↓s_get, s_get0, ↓s_con, ↓s_fn, ↓s_os0, ↓s_os1, ↓s_list0, ↓s_list1, ↓s_mov, ↓s_pick, ↓s_pickE, s_pickE, ↓s_bin, ↓s_un, ↓s_minmax, ↓s_call, ↓s_callv, ↓s_callV, ↓s_ext, s_same, b_eql, b_neq, b_lss, b_leq, b_gtr, b_geq, b_add, b_sub, b_mul, b_eqlb, b_neqb, b_fnil, b_fnil', b_fnil2, b_fnil2', u_neg, u_not, m_two, s_end, s_end', s_end_iteN, s_res0, s_res1, s_tup1, s_tup2, ↓iteN_true, ↓iteN_false, iteN_true, iteN_false, Nat.zero_add, List.nil_append, List.append_nil, Nat.reduceEqDiff, reduceIte, decide_true, decide_false, Bool.not_true, Bool.not_false, List.getElem?_cons_zero, List.getElem?_cons_succ, Bool.false_eq_true, if_true, if_false, beq_self_eq_true]
      try rfl
    · rw [if_neg c2]
      have d2 : decide ((l.length : Int) ≤ 75) = false := decide_eq_false (by omega)
      by_cases c3 : l.length ≤ 255
      · rw [if_pos c3]
        have d3 : decide ((l.length : Int) ≤ 255) = true := decide_eq_true (by omega)
        obtain ⟨hD, eD⟩ : ∃ hD, (hC.put hB.next (.cells [.int .u8 76, .slice b l.length cb eb] .rw)).put h.next (.cells [.int .u8 76, .slice b l.length cb eb] .rw) = hD := ⟨_, rfl⟩
        obtain ⟨f1, f2, f3, f4⟩ := fin 76 hD eD.symm
        refine ⟨hD, b, cb, eb, ?_, f1, f2, f3⟩
        have z1 : (hB.next = h.next) = False := by simp; omega
        replace f4 : hD.get h.next = some (.cells [.int .u8 76, .slice b l.length cb eb] .rw) := f4
        simp only
        generalize l.length = n at *
        simp (config := {maxSteps := 2000000}) (disch := first | omega | (simp only [List.length_cons, List.length_nil, List.length_append, List.length_drop]; omega)) only [eA, rb, eC, gC0, gC1, d1, d2, d3, eD, f4, z1, st2, st2r, st1, ld2, x_build, x_aggO, x_P0, x_P1, x_fill0, x_fills, x_fillb, x_filli, ↓s_len, x_lenS, ↓b_xor32, ↓b_and32, ↓b_or32, ↓u_not32, b_xor32, b_and32, b_or32, u_not32, w32ad, ↓x_conv, x_convV, ↓x_fieldAddr, x_fieldV, ↓s_nilchk, x_nilchk, Nat.zero_add, Nat.add_zero, Nat.mul_one, ↓l_loop, ↓l_succ, ↓l_normal, l_normal, l_exit, l_ret, l_iteN, ↓h_put_get, ↓h_new_get, ↓h_del_get, h_next_put, h_next_new, h_next_del, Nat.add_assoc, Nat.add_eq_left, Nat.left_eq_add, Nat.add_left_cancel_iff, ↓s_load, m_load, ↓m_load1, m_load1, ↓m_st, m_stE, m_storeI, m_storeE, w_zero, w_succ, ↓s_alloc, ↓x_idxA, ↓x_idxS, x_idxAE, x_idxSE, x_addrE, x_idx, x_lenS, ↓s_len, ↓x_buildS, x_buildE, ↓x_P0, ↓x_P1, x_fill0, x_filli, x_fills, x_fillb, c_int, List.length_cons, List.length_nil, List.cons_append, List.drop_succ_cons, List.drop_zero, List.drop_nil, List.nil_append, Int.reduceAdd, Int.reduceToNat, Int.reduceLT, Int.reduceLE, Nat.reduceAdd, Nat.reduceMul, Nat.reduceLeDiff, Int.reduceEq, Int.reduceSub, Int.cast_ofNat_Int, s_resc, s_consR, m_load4, m_store4, s_res0, ↓s_skip, ↓s_ops, ↓s_dops, ↓s_seq, ↓s_cond, ↓s_block, ↓s_exit, ↓s_ret, ↓s_scope, ↓s_nil, ↓s_op, ↓s_opg, ↓s_wanted', ↓s_wantV, s_wantV, s_wantV0, beq_true, beq_false, ↓s_bindS, s_bindS, ↓s_bindE, s_bindE, s_bindE_ret, s_bindE_exit, s_bindE_iteN, s_norm, ↓s_condV, s_condV, s_block_ret, s_block_normal, s_block_exit, s_block_iteN, ↓s_getp, ↓s_getp0, ↓s_get, s_get0, ↓s_con, ↓s_fn, ↓s_os0, ↓s_os1, ↓s_list0, ↓s_list1, ↓s_mov, ↓s_pick, ↓s_pickE, s_pickE, ↓s_bin, ↓s_un, ↓s_minmax, ↓s_call, ↓s_callv, ↓s_callV, ↓s_ext, s_same, b_eql, b_neq, b_lss, b_leq, b_gtr, b_geq, b_add, b_sub, b_mul, b_eqlb, b_neqb, b_fnil, b_fnil', b_fnil2, b_fnil2', u_neg, u_not, m_two, s_end, s_end', s_end_iteN, s_res0, s_res1, s_tup1, s_tup2, ↓iteN_true, ↓iteN_false, iteN_true, iteN_false, Nat.zero_add, List.nil_append, List.append_nil, Nat.reduceEqDiff, reduceIte, decide_true, decide_false, Bool.not_true, Bool.not_false, List.getElem?_cons_zero, List.getElem?_cons_succ, Bool.false_eq_true, if_true, if_false, beq_self_eq_true]
        try rfl
      · rw [if_neg c3]
        have d3 : decide ((l.length : Int) ≤ 255) = false := decide_eq_false (by omega)
        obtain ⟨hD, eD⟩ : ∃ hD, hC.put h.next (.cells [.int .u8 77, .slice b l.length cb eb] .rw) = hD := ⟨_, rfl⟩
        have f4 : hD.get h.next = some (.cells [.int .u8 77, .slice b l.length cb eb] .rw) := by rw [← eD]; exact h_put_same _ _ _
        refine ⟨hD, b, cb, eb, ?_, by rw [← eD]; exact kAC.put _ (Nat.le_refl _), ?_, fun _ q z eq => by have := gb q z eq; omega⟩
        · have z1 : (hB.next = h.next) = False := by simp; omega
          simp only
          generalize l.length = n at *
          simp (config := {maxSteps := 2000000}) (disch := first | omega | (simp only [List.length_cons, List.length_nil, List.length_append, List.length_drop]; omega)) only [eA, rb, eC, gC0, gC1, d1, d2, d3, eD, f4, z1, st2, st2r, st1, ld2, x_build, x_aggO, x_P0, x_P1, x_fill0, x_fills, x_fillb, x_filli, ↓s_len, x_lenS, ↓b_xor32, ↓b_and32, ↓b_or32, ↓u_not32, b_xor32, b_and32, b_or32, u_not32, w32ad, ↓x_conv, x_convV, ↓x_fieldAddr, x_fieldV, ↓s_nilchk, x_nilchk, Nat.zero_add, Nat.add_zero, Nat.mul_one, ↓l_loop, ↓l_succ, ↓l_normal, l_normal, l_exit, l_ret, l_iteN, ↓h_put_get, ↓h_new_get, ↓h_del_get, h_next_put, h_next_new, h_next_del, Nat.add_assoc, Nat.add_eq_left, Nat.left_eq_add, Nat.add_left_cancel_iff, ↓s_load, m_load, ↓m_load1, m_load1, ↓m_st, m_stE, m_storeI, m_storeE, w_zero, w_succ, ↓s_alloc, ↓x_idxA, ↓x_idxS, x_idxAE, x_idxSE, x_addrE, x_idx, x_lenS, ↓s_len, ↓x_buildS, x_buildE, ↓x_P0, ↓x_P1, x_fill0, x_filli, x_fills, x_fillb, c_int, List.length_cons, List.length_nil, List.cons_append, List.drop_succ_cons, List.drop_zero, List.drop_nil, List.nil_append, Int.reduceAdd, Int.reduceToNat, Int.reduceLT, Int.reduceLE, Nat.reduceAdd, Nat.reduceMul, Nat.reduceLeDiff, Int.reduceEq, Int.reduceSub, Int.cast_ofNat_Int, s_resc, s_consR, m_load4, m_store4, s_res0, ↓s_skip, ↓s_ops, ↓s_dops, ↓s_seq, ↓s_cond, ↓s_block, ↓s_exit, ↓s_ret, ↓s_scope, ↓s_nil, ↓s_op, ↓s_opg, ↓s_wanted', ↓s_wantV, s_wantV, s_wantV0, beq_true, beq_false, ↓s_bindS, s_bindS, ↓s_bindE, s_bindE, s_bindE_ret, s_bindE_exit, s_bindE_iteN, s_norm, ↓s_condV, s_condV, s_block_ret, s_block_normal, s_block_exit, s_block_iteN, ↓s_getp, ↓s_getp0, ↓s_get, s_get0, ↓s_con, ↓s_fn, ↓s_os0, ↓s_os1, ↓s_list0, ↓s_list1, ↓s_mov, ↓s_pick, ↓s_pickE, s_pickE, ↓s_bin, ↓s_un, ↓s_minmax, ↓s_call, ↓s_callv, ↓s_callV, ↓s_ext, s_same, b_eql, b_neq, b_lss, b_leq, b_gtr, b_geq, b_add, b_sub, b_mul, b_eqlb, b_neqb, b_fnil, b_fnil', b_fnil2, b_fnil2', u_neg, u_not, m_two, s_end, s_end', s_end_iteN, s_res0, s_res1, s_tup1, s_tup2, ↓iteN_true, ↓iteN_false, iteN_true, iteN_false, Nat.zero_add, List.nil_append, List.append_nil, Nat.reduceEqDiff, reduceIte, decide_true, decide_false, Bool.not_true, Bool.not_false, List.getElem?_cons_zero, List.getElem?_cons_succ, Bool.false_eq_true, if_true, if_false, beq_self_eq_true]
          try rfl
        · simp only
          by_cases hne : l = []
          · exact .inl hne
          · rcases sb with s | ⟨bi, off, vs, m, f1, f2, f3, f4, f5, f6⟩
            · exact .inl s
            · have g1 := gb _ _ f1
              exact .inr ⟨bi, off, vs, m, f1, f2, by rw [← eD]; show bi < hC.next; have := kC.1; omega, by rw [← eD, h_put_ne _ _ (by omega), kC.2 _ f3, f4], f5, f6⟩
/-- what an operation pushes -/
def valV (o : Oq) : Option (List Nat) := if okO o = false then none else if o.code ≤ 77 then some o.l else if o.code = 79 then some [129] else if 81 ≤ o.code ∧ o.code ≤ 96 then some [o.code - 80] else none
theorem value_go (e : EnOp E) (x : NoOp X) (ev : E k_ops_Value = some f_ops_Value) (xv : ∀ a h, X (.fn k_ops_Value) a h = none) (N : Nat) (o : Oq) (ok : o.ok) (hl : o.l.length ≤ 1000000) (a : Option (Nat × Nat)) (c : Option Nat) (ez : Nat) (h : H) (src : SrcH h a ez o.l) :
    ∃ h' a2 c2 e2, callX E X (N + 2) (.fn k_ops_Value) [.agg [.int .u8 (o.code : Int), .slice a o.l.length c ez]] h = some (.tup [.slice a2 ((valV o).getD []).length c2 e2, .bool (valV o).isSome], h') ∧ Kp h h' ∧ SrcH h' a2 e2 ((valV o).getD []) ∧ ((valV o).getD [] ≠ [] → ∀ q z, a2 = some (q, z) → h.next ≤ q) := by
  rw [x_cfn ev _ _ (Nat.le_of_ble_eq_true rfl) (xv _ _)]
  have ca : ∀ l : List V, (V.agg l).cells = l := fun _ => rfl
  have hc := ok.cl
  obtain ⟨hA, eA⟩ : ∃ hA, h.new (.cells [.int .u8 (o.code : Int), .slice a o.l.length c ez] .rw) = hA := ⟨_, rfl⟩
  have kA : Kp h hA := by rw [← eA]; exact Kp.new _ _
  have nA : hA.next = h.next + 1 := by rw [← eA]; rfl
  have gA : hA.get h.next = some (.cells [.int .u8 (o.code : Int), .slice a o.l.length c ez] .rw) := by rw [← eA]; exact h_new_same _ _
  obtain ⟨hB, rv, kB⟩ := valid_go e x N o hc (by omega) a c ez hA
  have gB : hB.get h.next = some (.cells [.int .u8 (o.code : Int), .slice a o.l.length c ez] .rw) := by rw [kB.2 _ (by omega), gA]
  have kAB := kA.trans kB
  have kBn := kB.1
  unfold valV
  cases hv : okO o with
  | false =>
    rw [hv] at rv
    rw [if_pos rfl]
    refine ⟨hB, none, some 0, 0, ?_, kAB, .inl rfl, fun h => absurd rfl h⟩
    show _ = some (V.tup [.slice none ([] : List Nat).length (some 0) 0, .bool false], hB)
    rw [List.length_nil]
    generalize o.l.length = n at *
    simp (config := {maxSteps := 2000000}) (disch := first | omega | (simp only [List.length_cons, List.length_nil, List.length_append, List.length_drop]; omega)) only [ca, eA, gA, rv, ld2, ↓s_box, ↓b_xor32, ↓b_and32, ↓b_or32, ↓u_not32, b_xor32, b_and32, b_or32, u_not32, w32ad, ↓x_conv, x_convV, ↓x_fieldAddr, x_fieldV, ↓s_nilchk, x_nilchk, Nat.zero_add, Nat.add_zero, Nat.mul_one, ↓s_evD, ↓s_dnil, ↓s_dL, ↓s_dLg, ↓s_dR, ↓s_dRg, ↓s_dRj, ↓s_dRjg, ↓s_dB, ↓s_dBg, ↓s_dAlloc, ↓s_bindD, s_bindD, s_finD, s_finDx, s_addP0, s_addP1, s_addB, s_lookP, ↓s_bump0, ↓s_bump_get, s_bump_next, s_ok0, ↓s_ok1, s_okR0, ↓s_okR1, ↓s_okE, s_okE, s_okE1, s_nth0, s_nthS, Nat.add_zero, Bool.and_self, Bool.and_true, Bool.true_and, ↓l_loop, ↓l_succ, ↓l_normal, l_normal, l_exit, l_ret, l_iteN, ↓h_put_get, ↓h_new_get, ↓h_del_get, h_next_put, h_next_new, h_next_del, Nat.add_assoc, Nat.add_eq_left, Nat.left_eq_add, Nat.add_left_cancel_iff, ↓s_load, m_load, ↓m_load1, m_load1, ↓m_st, m_stE, m_storeI, m_storeE, w_zero, w_succ, ↓s_alloc, ↓x_idxA, ↓x_idxS, x_idxAE, x_idxSE, x_addrE, x_idx, x_lenS, ↓s_len, ↓x_buildS, x_buildE, ↓x_P0, ↓x_P1, x_fill0, x_filli, x_fills, x_fillb, c_int, List.length_cons, List.length_nil, List.cons_append, List.drop_succ_cons, List.drop_zero, List.drop_nil, List.nil_append, Int.reduceAdd, Int.reduceToNat, Int.reduceLT, Int.reduceLE, Nat.reduceAdd, Nat.reduceMul, Nat.reduceLeDiff, Int.reduceEq, Int.reduceSub, Int.cast_ofNat_Int, s_resc, s_consR, m_load4, m_store4, s_res0, ↓s_skip, ↓s_ops, ↓s_dops, ↓s_seq, ↓s_cond, ↓s_block, ↓s_exit, ↓s_ret, ↓s_scope, ↓s_nil, ↓s_op, ↓s_opg, ↓s_wanted', ↓s_wantV, s_wantV, s_wantV0, beq_true, beq_false, ↓s_bindS, s_bindS, ↓s_bindE, s_bindE, s_bindE_ret, s_bindE_exit, s_bindE_iteN, s_norm, ↓s_condV, s_condV, s_block_ret, s_block_normal, s_block_exit, s_block_iteN, ↓s_getp, ↓s_getp0, ↓s_get, s_get0, ↓s_con, ↓s_fn, ↓s_os0, ↓s_os1, ↓s_list0, ↓s_list1, ↓s_mov, ↓s_pick, ↓s_pickE, s_pickE, ↓s_bin, ↓s_un, ↓s_minmax, ↓s_call, ↓s_callv, ↓s_callV, ↓s_ext, s_same, b_eql, b_neq, b_lss, b_leq, b_gtr, b_geq, b_add, b_sub, b_mul, b_eqlb, b_neqb, b_fnil, b_fnil', b_fnil2, b_fnil2', u_neg, u_not, m_two, s_end, s_end', s_end_iteN, s_res0, s_res1, s_tup1, s_tup2, ↓iteN_true, ↓iteN_false, iteN_true, iteN_false, Nat.zero_add, List.nil_append, List.append_nil, Nat.reduceEqDiff, reduceIte, decide_true, decide_false, Bool.not_true, Bool.not_false, List.getElem?_cons_zero, List.getElem?_cons_succ, Bool.false_eq_true, if_true, if_false, beq_self_eq_true]
    try rfl
  | true =>
    rw [hv] at rv
    rw [if_neg (by simp)]
    by_cases c1 : o.code ≤ 77
    · rw [if_pos c1]
      have d1 : decide ((o.code : Int) ≤ 77) = true := decide_eq_true (by omega)
      have sB := src.mono kAB
      obtain ⟨hC, b, cb, eb, rb, kC, sb, gb⟩ := clone_go e x N o.l hl a c ez hB sB (fun hn => sB.nn hn)
      refine ⟨hC, b, cb, eb, ?_, kAB.trans kC, sb, fun _ q z eq => by have := gb q z eq; omega⟩
      show _ = some (V.tup [.slice b o.l.length cb eb, .bool true], hC)
      generalize o.l.length = n at *
      simp (config := {maxSteps := 2000000}) (disch := first | omega | (simp only [List.length_cons, List.length_nil, List.length_append, List.length_drop]; omega)) only [ca, eA, gA, gB, rv, rb, d1, ld2, ↓s_box, ↓b_xor32, ↓b_and32, ↓b_or32, ↓u_not32, b_xor32, b_and32, b_or32, u_not32, w32ad, ↓x_conv, x_convV, ↓x_fieldAddr, x_fieldV, ↓s_nilchk, x_nilchk, Nat.zero_add, Nat.add_zero, Nat.mul_one, ↓s_evD, ↓s_dnil, ↓s_dL, ↓s_dLg, ↓s_dR, ↓s_dRg, ↓s_dRj, ↓s_dRjg, ↓s_dB, ↓s_dBg, ↓s_dAlloc, ↓s_bindD, s_bindD, s_finD, s_finDx, s_addP0, s_addP1, s_addB, s_lookP, ↓s_bump0, ↓s_bump_get, s_bump_next, s_ok0, ↓s_ok1, s_okR0, ↓s_okR1, ↓s_okE, s_okE, s_okE1, s_nth0, s_nthS, Nat.add_zero, Bool.and_self, Bool.and_true, Bool.true_and, ↓l_loop, ↓l_succ, ↓l_normal, l_normal, l_exit, l_ret, l_iteN, ↓h_put_get, ↓h_new_get, ↓h_del_get, h_next_put, h_next_new, h_next_del, Nat.add_assoc, Nat.add_eq_left, Nat.left_eq_add, Nat.add_left_cancel_iff, ↓s_load, m_load, ↓m_load1, m_load1, ↓m_st, m_stE, m_storeI, m_storeE, w_zero, w_succ, ↓s_alloc, ↓x_idxA, ↓x_idxS, x_idxAE, x_idxSE, x_addrE, x_idx, x_lenS, ↓s_len, ↓x_buildS, x_buildE, ↓x_P0, ↓x_P1, x_fill0, x_filli, x_fills, x_fillb, c_int, List.length_cons, List.length_nil, List.cons_append, List.drop_succ_cons, List.drop_zero, List.drop_nil, List.nil_append, Int.reduceAdd, Int.reduceToNat, Int.reduceLT, Int.reduceLE, Nat.reduceAdd, Nat.reduceMul, Nat.reduceLeDiff, Int.reduceEq, Int.reduceSub, Int.cast_ofNat_Int, s_resc, s_consR, m_load4, m_store4, s_res0, ↓s_skip, ↓s_ops, ↓s_dops, ↓s_seq, ↓s_cond, ↓s_block, ↓s_exit, ↓s_ret, ↓s_scope, ↓s_nil, ↓s_op, ↓s_opg, ↓s_wanted', ↓s_wantV, s_wantV, s_wantV0, beq_true, beq_false, ↓s_bindS, s_bindS, ↓s_bindE, s_bindE, s_bindE_ret, s_bindE_exit, s_bindE_iteN, s_norm, ↓s_condV, s_condV, s_block_ret, s_block_normal, s_block_exit, s_block_iteN, ↓s_getp, ↓s_getp0, ↓s_get, s_get0, ↓s_con, ↓s_fn, ↓s_os0, ↓s_os1, ↓s_list0, ↓s_list1, ↓s_mov, ↓s_pick, ↓s_pickE, s_pickE, ↓s_bin, ↓s_un, ↓s_minmax, ↓s_call, ↓s_callv, ↓s_callV, ↓s_ext, s_same, b_eql, b_neq, b_lss, b_leq, b_gtr, b_geq, b_add, b_sub, b_mul, b_eqlb, b_neqb, b_fnil, b_fnil', b_fnil2, b_fnil2', u_neg, u_not, m_two, s_end, s_end', s_end_iteN, s_res0, s_res1, s_tup1, s_tup2, ↓iteN_true, ↓iteN_false, iteN_true, iteN_false, Nat.zero_add, List.nil_append, List.append_nil, Nat.reduceEqDiff, reduceIte, decide_true, decide_false, Bool.not_true, Bool.not_false, List.getElem?_cons_zero, List.getElem?_cons_succ, Bool.false_eq_true, if_true, if_false, beq_self_eq_true]
      try rfl
    · rw [if_neg c1]
      have d1 : decide ((o.code : Int) ≤ 77) = false := decide_eq_false (by omega)
      by_cases c2 : o.code = 79
      · rw [if_pos c2]
        have d2 : decide ((o.code : Int) = 79) = true := decide_eq_true (by omega)
        refine ⟨hB.new (.cells (ofI .u8 [129]) .rw), some (hB.next, 0), some 1, 1, ?_, kAB.trans (Kp.new _ _), .inr ⟨hB.next, 0, _, .rw, rfl, rfl, Nat.lt_succ_self _, h_new_same _ _, by simp [ofI_len], rfl⟩, fun _ q z eq => by cases eq; omega⟩
        show _ = some (V.tup [.slice (some (hB.next, 0)) 1 (some 1) 1, .bool true], hB.new (.cells [.int .u8 129] .rw))
        generalize o.l.length = n at *
        simp (config := {maxSteps := 2000000}) (disch := first | omega | (simp only [List.length_cons, List.length_nil, List.length_append, List.length_drop]; omega)) only [ca, eA, gA, gB, rv, d1, d2, ld2, ↓s_box, ↓b_xor32, ↓b_and32, ↓b_or32, ↓u_not32, b_xor32, b_and32, b_or32, u_not32, w32ad, ↓x_conv, x_convV, ↓x_fieldAddr, x_fieldV, ↓s_nilchk, x_nilchk, Nat.zero_add, Nat.add_zero, Nat.mul_one, ↓s_evD, ↓s_dnil, ↓s_dL, ↓s_dLg, ↓s_dR, ↓s_dRg, ↓s_dRj, ↓s_dRjg, ↓s_dB, ↓s_dBg, ↓s_dAlloc, ↓s_bindD, s_bindD, s_finD, s_finDx, s_addP0, s_addP1, s_addB, s_lookP, ↓s_bump0, ↓s_bump_get, s_bump_next, s_ok0, ↓s_ok1, s_okR0, ↓s_okR1, ↓s_okE, s_okE, s_okE1, s_nth0, s_nthS, Nat.add_zero, Bool.and_self, Bool.and_true, Bool.true_and, ↓l_loop, ↓l_succ, ↓l_normal, l_normal, l_exit, l_ret, l_iteN, ↓h_put_get, ↓h_new_get, ↓h_del_get, h_next_put, h_next_new, h_next_del, Nat.add_assoc, Nat.add_eq_left, Nat.left_eq_add, Nat.add_left_cancel_iff, ↓s_load, m_load, ↓m_load1, m_load1, ↓m_st, m_stE, m_storeI, m_storeE, w_zero, w_succ, ↓s_alloc, ↓x_idxA, ↓x_idxS, x_idxAE, x_idxSE, x_addrE, x_idx, x_lenS, ↓s_len, ↓x_buildS, x_buildE, ↓x_P0, ↓x_P1, x_fill0, x_filli, x_fills, x_fillb, c_int, List.length_cons, List.length_nil, List.cons_append, List.drop_succ_cons, List.drop_zero, List.drop_nil, List.nil_append, Int.reduceAdd, Int.reduceToNat, Int.reduceLT, Int.reduceLE, Nat.reduceAdd, Nat.reduceMul, Nat.reduceLeDiff, Int.reduceEq, Int.reduceSub, Int.cast_ofNat_Int, s_resc, s_consR, m_load4, m_store4, s_res0, ↓s_skip, ↓s_ops, ↓s_dops, ↓s_seq, ↓s_cond, ↓s_block, ↓s_exit, ↓s_ret, ↓s_scope, ↓s_nil, ↓s_op, ↓s_opg, ↓s_wanted', ↓s_wantV, s_wantV, s_wantV0, beq_true, beq_false, ↓s_bindS, s_bindS, ↓s_bindE, s_bindE, s_bindE_ret, s_bindE_exit, s_bindE_iteN, s_norm, ↓s_condV, s_condV, s_block_ret, s_block_normal, s_block_exit, s_block_iteN, ↓s_getp, ↓s_getp0, ↓s_get, s_get0, ↓s_con, ↓s_fn, ↓s_os0, ↓s_os1, ↓s_list0, ↓s_list1, ↓s_mov, ↓s_pick, ↓s_pickE, s_pickE, ↓s_bin, ↓s_un, ↓s_minmax, ↓s_call, ↓s_callv, ↓s_callV, ↓s_ext, s_same, b_eql, b_neq, b_lss, b_leq, b_gtr, b_geq, b_add, b_sub, b_mul, b_eqlb, b_neqb, b_fnil, b_fnil', b_fnil2, b_fnil2', u_neg, u_not, m_two, s_end, s_end', s_end_iteN, s_res0, s_res1, s_tup1, s_tup2, ↓iteN_true, ↓iteN_false, iteN_true, iteN_false, Nat.zero_add, List.nil_append, List.append_nil, Nat.reduceEqDiff, reduceIte, decide_true, decide_false, Bool.not_true, Bool.not_false, List.getElem?_cons_zero, List.getElem?_cons_succ, Bool.false_eq_true, if_true, if_false, beq_self_eq_true]
        try rfl
      · rw [if_neg c2]
        have d2 : decide ((o.code : Int) = 79) = false := decide_eq_false (by omega)
        by_cases c3 : 81 ≤ o.code
        · have d3 : decide ((81 : Int) ≤ (o.code : Int)) = true := decide_eq_true (by omega)
          by_cases c4 : o.code ≤ 96
          · rw [if_pos ⟨c3, c4⟩]
            have d4 : decide ((o.code : Int) ≤ 96) = true := decide_eq_true (by omega)
            have w1 : wr .u8 ((o.code : Int) - 81) = ((o.code - 81 : Nat) : Int) := by rw [show (o.code : Int) - 81 = ((o.code - 81 : Nat) : Int) by omega, w8n, Nat.mod_eq_of_lt (by omega)]
            have w2 : wr .u8 (((o.code - 81 : Nat) : Int) + 1) = ((o.code - 80 : Nat) : Int) := by rw [show ((o.code - 81 : Nat) : Int) + 1 = ((o.code - 80 : Nat) : Int) by omega, w8n, Nat.mod_eq_of_lt (by omega)]
            refine ⟨hB.new (.cells (ofI .u8 [o.code - 80]) .rw), some (hB.next, 0), some 1, 1, ?_, kAB.trans (Kp.new _ _), .inr ⟨hB.next, 0, _, .rw, rfl, rfl, Nat.lt_succ_self _, h_new_same _ _, by simp [ofI_len], rfl⟩, fun _ q z eq => by cases eq; omega⟩
            show _ = some (V.tup [.slice (some (hB.next, 0)) 1 (some 1) 1, .bool true], hB.new (.cells [.int .u8 ((o.code - 80 : Nat) : Int)] .rw))
            generalize o.l.length = n at *
            generalize o.code - 81 = y1 at *
            generalize o.code - 80 = y0 at *
            simp (config := {maxSteps := 2000000}) (disch := first | omega | (simp only [List.length_cons, List.length_nil, List.length_append, List.length_drop]; omega)) only [ca, eA, gA, gB, rv, d1, d2, d3, d4, w1, w2, ld2, ↓s_box, ↓b_xor32, ↓b_and32, ↓b_or32, ↓u_not32, b_xor32, b_and32, b_or32, u_not32, w32ad, ↓x_conv, x_convV, ↓x_fieldAddr, x_fieldV, ↓s_nilchk, x_nilchk, Nat.zero_add, Nat.add_zero, Nat.mul_one, ↓s_evD, ↓s_dnil, ↓s_dL, ↓s_dLg, ↓s_dR, ↓s_dRg, ↓s_dRj, ↓s_dRjg, ↓s_dB, ↓s_dBg, ↓s_dAlloc, ↓s_bindD, s_bindD, s_finD, s_finDx, s_addP0, s_addP1, s_addB, s_lookP, ↓s_bump0, ↓s_bump_get, s_bump_next, s_ok0, ↓s_ok1, s_okR0, ↓s_okR1, ↓s_okE, s_okE, s_okE1, s_nth0, s_nthS, Nat.add_zero, Bool.and_self, Bool.and_true, Bool.true_and, ↓l_loop, ↓l_succ, ↓l_normal, l_normal, l_exit, l_ret, l_iteN, ↓h_put_get, ↓h_new_get, ↓h_del_get, h_next_put, h_next_new, h_next_del, Nat.add_assoc, Nat.add_eq_left, Nat.left_eq_add, Nat.add_left_cancel_iff, ↓s_load, m_load, ↓m_load1, m_load1, ↓m_st, m_stE, m_storeI, m_storeE, w_zero, w_succ, ↓s_alloc, ↓x_idxA, ↓x_idxS, x_idxAE, x_idxSE, x_addrE, x_idx, x_lenS, ↓s_len, ↓x_buildS, x_buildE, ↓x_P0, ↓x_P1, x_fill0, x_filli, x_fills, x_fillb, c_int, List.length_cons, List.length_nil, List.cons_append, List.drop_succ_cons, List.drop_zero, List.drop_nil, List.nil_append, Int.reduceAdd, Int.reduceToNat, Int.reduceLT, Int.reduceLE, Nat.reduceAdd, Nat.reduceMul, Nat.reduceLeDiff, Int.reduceEq, Int.reduceSub, Int.cast_ofNat_Int, s_resc, s_consR, m_load4, m_store4, s_res0, ↓s_skip, ↓s_ops, ↓s_dops, ↓s_seq, ↓s_cond, ↓s_block, ↓s_exit, ↓s_ret, ↓s_scope, ↓s_nil, ↓s_op, ↓s_opg, ↓s_wanted', ↓s_wantV, s_wantV, s_wantV0, beq_true, beq_false, ↓s_bindS, s_bindS, ↓s_bindE, s_bindE, s_bindE_ret, s_bindE_exit, s_bindE_iteN, s_norm, ↓s_condV, s_condV, s_block_ret, s_block_normal, s_block_exit, s_block_iteN, ↓s_getp, ↓s_getp0, ↓s_get, s_get0, ↓s_con, ↓s_fn, ↓s_os0, ↓s_os1, ↓s_list0, ↓s_list1, ↓s_mov, ↓s_pick, ↓s_pickE, s_pickE, ↓s_bin, ↓s_un, ↓s_minmax, ↓s_call, ↓s_callv, ↓s_callV, ↓s_ext, s_same, b_eql, b_neq, b_lss, b_leq, b_gtr, b_geq, b_add, b_sub, b_mul, b_eqlb, b_neqb, b_fnil, b_fnil', b_fnil2, b_fnil2', u_neg, u_not, m_two, s_end, s_end', s_end_iteN, s_res0, s_res1, s_tup1, s_tup2, ↓iteN_true, ↓iteN_false, iteN_true, iteN_false, Nat.zero_add, List.nil_append, List.append_nil, Nat.reduceEqDiff, reduceIte, decide_true, decide_false, Bool.not_true, Bool.not_false, List.getElem?_cons_zero, List.getElem?_cons_succ, Bool.false_eq_true, if_true, if_false, beq_self_eq_true]
            try rfl
          · rw [if_neg (fun h => c4 h.2)]
            have d4 : decide ((o.code : Int) ≤ 96) = false := decide_eq_false (by omega)
            refine ⟨hB, none, some 0, 0, ?_, kAB, .inl rfl, fun h => absurd rfl h⟩
            show _ = some (V.tup [.slice none ([] : List Nat).length (some 0) 0, .bool false], hB)
            rw [List.length_nil]
            generalize o.l.length = n at *
            simp (config := {maxSteps := 2000000}) (disch := first | omega | (simp only [List.length_cons, List.length_nil, List.length_append, List.length_drop]; omega)) only [ca, eA, gA, gB, rv, d1, d2, d3, d4, ld2, ↓s_box, ↓b_xor32, ↓b_and32, ↓b_or32, ↓u_not32, b_xor32, b_and32, b_or32, u_not32, w32ad, ↓x_conv, x_convV, ↓x_fieldAddr, x_fieldV, ↓s_nilchk, x_nilchk, Nat.zero_add, Nat.add_zero, Nat.mul_one, ↓s_evD, ↓s_dnil, ↓s_dL, ↓s_dLg, ↓s_dR, ↓s_dRg, ↓s_dRj, ↓s_dRjg, ↓s_dB, ↓s_dBg, ↓s_dAlloc, ↓s_bindD, s_bindD, s_finD, s_finDx, s_addP0, s_addP1, s_addB, s_lookP, ↓s_bump0, ↓s_bump_get, s_bump_next, s_ok0, ↓s_ok1, s_okR0, ↓s_okR1, ↓s_okE, s_okE, s_okE1, s_nth0, s_nthS, Nat.add_zero, Bool.and_self, Bool.and_true, Bool.true_and, ↓l_loop, ↓l_succ, ↓l_normal, l_normal, l_exit, l_ret, l_iteN, ↓h_put_get, ↓h_new_get, ↓h_del_get, h_next_put, h_next_new, h_next_del, Nat.add_assoc, Nat.add_eq_left, Nat.left_eq_add, Nat.add_left_cancel_iff, ↓s_load, m_load, ↓m_load1, m_load1, ↓m_st, m_stE, m_storeI, m_storeE, w_zero, w_succ, ↓s_alloc, ↓x_idxA, ↓x_idxS, x_idxAE, x_idxSE, x_addrE, x_idx, x_lenS, ↓s_len, ↓x_buildS, x_buildE, ↓x_P0, ↓x_P1, x_fill0, x_filli, x_fills, x_fillb, c_int, List.length_cons, List.length_nil, List.cons_append, List.drop_succ_cons, List.drop_zero, List.drop_nil, List.nil_append, Int.reduceAdd, Int.reduceToNat, Int.reduceLT, Int.reduceLE, Nat.reduceAdd, Nat.reduceMul, Nat.reduceLeDiff, Int.reduceEq, Int.reduceSub, Int.cast_ofNat_Int, s_resc, s_consR, m_load4, m_store4, s_res0, ↓s_skip, ↓s_ops, ↓s_dops, ↓s_seq, ↓s_cond, ↓s_block, ↓s_exit, ↓s_ret, ↓s_scope, ↓s_nil, ↓s_op, ↓s_opg, ↓s_wanted', ↓s_wantV, s_wantV, s_wantV0, beq_true, beq_false, ↓s_bindS, s_bindS, ↓s_bindE, s_bindE, s_bindE_ret, s_bindE_exit, s_bindE_iteN, s_norm, ↓s_condV, s_condV, s_block_ret, s_block_normal, s_block_exit, s_block_iteN, ↓s_getp, ↓s_getp0, ↓s_get, s_get0, ↓s_con, ↓s_fn, ↓s_os0, ↓s_os1, ↓s_list0, ↓s_list1, ↓s_mov, ↓s_pick, ↓s_pickE, s_pickE, ↓s_bin, ↓s_un, ↓s_minmax, ↓s_call, ↓s_callv, ↓s_callV, ↓s_ext, s_same, b_eql, b_neq, b_lss, b_leq, b_gtr, b_geq, b_add, b_sub, b_mul, b_eqlb, b_neqb, b_fnil, b_fnil', b_fnil2, b_fnil2', u_neg, u_not, m_two, s_end, s_end', s_end_iteN, s_res0, s_res1, s_tup1, s_tup2, ↓iteN_true, ↓iteN_false, iteN_true, iteN_false, Nat.zero_add, List.nil_append, List.append_nil, Nat.reduceEqDiff, reduceIte, decide_true, decide_false, Bool.not_true, Bool.not_false, List.getElem?_cons_zero, List.getElem?_cons_succ, Bool.false_eq_true, if_true, if_false, beq_self_eq_true]
            try rfl
        · rw [if_neg (fun h => c3 h.1)]
          have d3 : decide ((81 : Int) ≤ (o.code : Int)) = false := decide_eq_false (by omega)
          refine ⟨hB, none, some 0, 0, ?_, kAB, .inl rfl, fun h => absurd rfl h⟩
          show _ = some (V.tup [.slice none ([] : List Nat).length (some 0) 0, .bool false], hB)
          rw [List.length_nil]
          generalize o.l.length = n at *
          simp (config := {maxSteps := 2000000}) (disch := first | omega | (simp only [List.length_cons, List.length_nil, List.length_append, List.length_drop]; omega)) only [ca, eA, gA, gB, rv, d1, d2, d3, ld2, ↓s_box, ↓b_xor32, ↓b_and32, ↓b_or32, ↓u_not32, b_xor32, b_and32, b_or32, u_not32, w32ad, ↓x_conv, x_convV, ↓x_fieldAddr, x_fieldV, ↓s_nilchk, x_nilchk, Nat.zero_add, Nat.add_zero, Nat.mul_one, ↓s_evD, ↓s_dnil, ↓s_dL, ↓s_dLg, ↓s_dR, ↓s_dRg, ↓s_dRj, ↓s_dRjg, ↓s_dB, ↓s_dBg, ↓s_dAlloc, ↓s_bindD, s_bindD, s_finD, s_finDx, s_addP0, s_addP1, s_addB, s_lookP, ↓s_bump0, ↓s_bump_get, s_bump_next, s_ok0, ↓s_ok1, s_okR0, ↓s_okR1, ↓s_okE, s_okE, s_okE1, s_nth0, s_nthS, Nat.add_zero, Bool.and_self, Bool.and_true, Bool.true_and, ↓l_loop, ↓l_succ, ↓l_normal, l_normal, l_exit, l_ret, l_iteN, ↓h_put_get, ↓h_new_get, ↓h_del_get, h_next_put, h_next_new, h_next_del, Nat.add_assoc, Nat.add_eq_left, Nat.left_eq_add, Nat.add_left_cancel_iff, ↓s_load, m_load, ↓m_load1, m_load1, ↓m_st, m_stE, m_storeI, m_storeE, w_zero, w_succ, ↓s_alloc, ↓x_idxA, ↓x_idxS, x_idxAE, x_idxSE, x_addrE, x_idx, x_lenS, ↓s_len, ↓x_buildS, x_buildE, ↓x_P0, ↓x_P1, x_fill0, x_filli, x_fills, x_fillb, c_int, List.length_cons, List.length_nil, List.cons_append, List.drop_succ_cons, List.drop_zero, List.drop_nil, List.nil_append, Int.reduceAdd, Int.reduceToNat, Int.reduceLT, Int.reduceLE, Nat.reduceAdd, Nat.reduceMul, Nat.reduceLeDiff, Int.reduceEq, Int.reduceSub, Int.cast_ofNat_Int, s_resc, s_consR, m_load4, m_store4, s_res0, ↓s_skip, ↓s_ops, ↓s_dops, ↓s_seq, ↓s_cond, ↓s_block, ↓s_exit, ↓s_ret, ↓s_scope, ↓s_nil, ↓s_op, ↓s_opg, ↓s_wanted', ↓s_wantV, s_wantV, s_wantV0, beq_true, beq_false, ↓s_bindS, s_bindS, ↓s_bindE, s_bindE, s_bindE_ret, s_bindE_exit, s_bindE_iteN, s_norm, ↓s_condV, s_condV, s_block_ret, s_block_normal, s_block_exit, s_block_iteN, ↓s_getp, ↓s_getp0, ↓s_get, s_get0, ↓s_con, ↓s_fn, ↓s_os0, ↓s_os1, ↓s_list0, ↓s_list1, ↓s_mov, ↓s_pick, ↓s_pickE, s_pickE, ↓s_bin, ↓s_un, ↓s_minmax, ↓s_call, ↓s_callv, ↓s_callV, ↓s_ext, s_same, b_eql, b_neq, b_lss, b_leq, b_gtr, b_geq, b_add, b_sub, b_mul, b_eqlb, b_neqb, b_fnil, b_fnil', b_fnil2, b_fnil2', u_neg, u_not, m_two, s_end, s_end', s_end_iteN, s_res0, s_res1, s_tup1, s_tup2, ↓iteN_true, ↓iteN_false, iteN_true, iteN_false, Nat.zero_add, List.nil_append, List.append_nil, Nat.reduceEqDiff, reduceIte, decide_true, decide_false, Bool.not_true, Bool.not_false, List.getElem?_cons_zero, List.getElem?_cons_succ, Bool.false_eq_true, if_true, if_false, beq_self_eq_true]
          try rfl
end Go.Eng
namespace Go.Eng
open Go
variable {E : Nat → Option Fn} {X : Orc}
set_option linter.unusedSimpArgs false
set_option linter.unusedVariables false
/-- a slice of bytes that may be written over -/
def Ow (h : H) (w : List Nat) (a : Option (Nat × Nat)) (e : Nat) : Prop := w = [] ∨ ∃ q md, a = some (q, 0) ∧ e = 1 ∧ h.get q = some (.cells (ofI .u8 w) md) ∧ isRo md = false ∧ q < h.next
theorem Ow.src {h : H} {w : List Nat} {a : Option (Nat × Nat)} {e : Nat} (s : Ow h w a e) : SrcH h a e w := by
  rcases s with s | ⟨q, md, rfl, rfl, g, _, hq⟩
  · exact .inl s
  · exact .inr ⟨q, 0, _, md, rfl, rfl, hq, g, by rw [ofI_len]; omega, by rw [List.drop_zero]; exact List.take_of_length_le (by rw [ofI_len]; exact Nat.le_refl _)⟩
theorem Ow.kp {h h' : H} {w : List Nat} {a : Option (Nat × Nat)} {e : Nat} (s : Ow h w a e) (k : Kp h h') : Ow h' w a e := by
  rcases s with s | ⟨q, md, e1, e2, g, hm, hq⟩
  · exact .inl s
  · exact .inr ⟨q, md, e1, e2, by rw [k.2 _ hq, g], hm, Nat.lt_of_lt_of_le hq k.1⟩
theorem app_bO (h : H) (l : List Nat) (hl : l.length ≤ 1000000) : ∃ a c e h', appendC (h.new (.cells [] .rw)) 1 1 (.slice (some (h.next, 0)) 0 (some 0) 1) (some (l.length, ofI .u8 l)) = some (.slice a l.length c e, h') ∧ Kp h h' ∧ Ow h' l a e ∧ (∀ q z, a = some (q, z) → h.next ≤ q) := by
  have k1 : Kp h (h.new (.cells [] .rw)) := Kp.new _ _
  cases hn : l.length with
  | zero =>
    have l0 : l = [] := List.length_eq_zero_iff.1 hn
    exact ⟨some (h.next, 0), some 0, 1, _, by rw [l0]; exact appN _ _ _ _ _ _, k1, .inl l0, fun q z e => by cases e; exact Nat.le_refl _⟩
  | succ n =>
    have g : (h.new (.cells [] .rw)).get h.next = some (.cells [] .rw) := h_new_same _ _
    have nx : (h.new (.cells [] .rw)).next = h.next + 1 := rfl
    obtain ⟨h1, e1⟩ : ∃ h1, h.new (.cells [] .rw) = h1 := ⟨_, rfl⟩
    rw [e1] at g k1 nx ⊢
    refine ⟨some (h1.next, 0), none, 1, h1.new (.cells (ofI .u8 l) .rw), ?_, k1.trans (Kp.new _ _), .inr ⟨h1.next, .rw, rfl, rfl, h_new_same _ _, rfl, Nat.lt_succ_self _⟩, fun q z e => by cases e; omega⟩
    unfold appendC
    simp only
    have r : (roomy (0 + (n + 1)) 1 && (Nat.beq 1 1 || (some (h.next, 0) : Option (Nat × Nat)).isNone) && (ofI .u8 l).all plainV) = true := by
      rw [plain_ofI]; have : roomy (0 + (n + 1)) 1 = true := by simp [roomy]; omega
      rw [this]; rfl
    have f : fullC (some 0) (0 + (n + 1)) = true := by
      show Nat.blt 0 (0 + (n + 1)) = true
      simp
    rw [r]
    simp only [_root_.cond_true, g, f]
    have rd : readN ([] : List V) 0 (0 * 1) = some [] := rfl
    simp only [rd, List.nil_append, Nat.zero_add]
theorem cloneO_go (e : EnOp E) (x : NoOp X) (N : Nat) (l : List Nat) (hl : l.length ≤ 1000000) (a : Option (Nat × Nat)) (c : Option Nat) (ez : Nat) (h : H) (src : SrcH h a ez l) (hn : a = none → l = []) :
    ∃ h' a2 c2 e2, callX E X (N + 1) (.fn k_bytes_Clone) [.slice a l.length c ez] h = some (.slice a2 l.length c2 e2, h') ∧ Kp h h' ∧ Ow h' l a2 e2 ∧ (∀ q z, a2 = some (q, z) → h.next ≤ q) := by
  rw [x_cfn e.cl _ _ (Nat.le_of_ble_eq_true rfl) (x.cl _ _)]
  have q := fun h => eqnil h a l.length c ez
  cases a with
  | none =>
    obtain rfl := hn rfl
    refine ⟨h, none, some 0, 0, ?_, Kp.refl _, .inl rfl, fun _ _ e => by cases e⟩
    rw [List.length_nil]
    have q0 := fun h => eqnil h none 0 c ez
    simp (config := {maxSteps := 2000000}) (disch := first | omega | (simp only [List.length_cons, List.length_nil, List.length_append, List.length_drop]; omega)) only [q0, Option.isNone_none, ↓b_xor32, ↓b_and32, ↓b_or32, ↓u_not32, b_xor32, b_and32, b_or32, u_not32, w32ad, ↓x_conv, x_convV, ↓x_fieldAddr, x_fieldV, ↓s_nilchk, x_nilchk, Nat.zero_add, Nat.add_zero, Nat.mul_one, ↓l_loop, ↓l_succ, ↓l_normal, l_normal, l_exit, l_ret, l_iteN, ↓h_put_get, ↓h_new_get, ↓h_del_get, h_next_put, h_next_new, h_next_del, Nat.add_assoc, Nat.add_eq_left, Nat.left_eq_add, Nat.add_left_cancel_iff, ↓s_load, m_load, ↓m_load1, m_load1, ↓m_st, m_stE, m_storeI, m_storeE, w_zero, w_succ, ↓s_alloc, ↓x_idxA, ↓x_idxS, x_idxAE, x_idxSE, x_addrE, x_idx, x_lenS, ↓s_len, ↓x_buildS, x_buildE, ↓x_P0, ↓x_P1, x_fill0, x_filli, x_fills, x_fillb, c_int, List.length_cons, List.length_nil, List.cons_append, List.drop_succ_cons, List.drop_zero, List.drop_nil, List.nil_append, Int.reduceAdd, Int.reduceToNat, Int.reduceLT, Int.reduceLE, Nat.reduceAdd, Nat.reduceMul, Nat.reduceLeDiff, Int.reduceEq, Int.reduceSub, Int.cast_ofNat_Int, s_resc, s_consR, m_load4, m_store4, s_res0, ↓s_skip, ↓s_ops, ↓s_dops, ↓s_seq, ↓s_cond, ↓s_block, ↓s_exit, ↓s_ret, ↓s_scope, ↓s_nil, ↓s_op, ↓s_opg, ↓s_wanted', ↓s_wantV, s_wantV, s_wantV0, beq_true, beq_false, ↓s_bindS, s_bindS, ↓s_bindE, s_bindE, s_bindE_ret, s_bindE_exit, s_bindE_iteN, s_norm, ↓s_condV, s_condV, s_block_ret, s_block_normal, s_block_exit, s_block_iteN, ↓s_getp, ↓s_getp0, ↓s_get, s_get0, ↓s_con, ↓s_fn, ↓s_os0, ↓s_os1, ↓s_list0, ↓s_list1, ↓s_mov, ↓s_pick, ↓s_pickE, s_pickE, ↓s_bin, ↓s_un, ↓s_minmax, ↓s_call, ↓s_callv, ↓s_callV, ↓s_ext, s_same, b_eql, b_neq, b_lss, b_leq, b_gtr, b_geq, b_add, b_sub, b_mul, b_eqlb, b_neqb, b_fnil, b_fnil', b_fnil2, b_fnil2', u_neg, u_not, m_two, s_end, s_end', s_end_iteN, s_res0, s_res1, s_tup1, s_tup2, ↓iteN_true, ↓iteN_false, iteN_true, iteN_false, Nat.zero_add, List.nil_append, List.append_nil, Nat.reduceEqDiff, reduceIte, decide_true, decide_false, Bool.not_true, Bool.not_false, List.getElem?_cons_zero, List.getElem?_cons_succ, Bool.false_eq_true, if_true, if_false, beq_self_eq_true]
    try rfl
  | some p =>
    have k1 : Kp h (h.new (.cells [] .rw)) := Kp.new _ _
    have sc := (src.mono k1).cellz c
    obtain ⟨a2, c2, e2, h', ap, k, s, g⟩ := app_bO h l hl
    refine ⟨h', a2, c2, e2, ?_, k, s, g⟩
    obtain ⟨n, en⟩ : ∃ n, l.length = n := ⟨_, rfl⟩
    rw [en] at sc ap q ⊢
    simp (config := {maxSteps := 2000000}) (disch := first | omega | (simp only [List.length_cons, List.length_nil, List.length_append, List.length_drop]; omega)) only [q, Option.isNone_some, sc, ap, ↓s_append, ↓b_xor32, ↓b_and32, ↓b_or32, ↓u_not32, b_xor32, b_and32, b_or32, u_not32, w32ad, ↓x_conv, x_convV, ↓x_fieldAddr, x_fieldV, ↓s_nilchk, x_nilchk, Nat.zero_add, Nat.add_zero, Nat.mul_one, ↓l_loop, ↓l_succ, ↓l_normal, l_normal, l_exit, l_ret, l_iteN, ↓h_put_get, ↓h_new_get, ↓h_del_get, h_next_put, h_next_new, h_next_del, Nat.add_assoc, Nat.add_eq_left, Nat.left_eq_add, Nat.add_left_cancel_iff, ↓s_load, m_load, ↓m_load1, m_load1, ↓m_st, m_stE, m_storeI, m_storeE, w_zero, w_succ, ↓s_alloc, ↓x_idxA, ↓x_idxS, x_idxAE, x_idxSE, x_addrE, x_idx, x_lenS, ↓s_len, ↓x_buildS, x_buildE, ↓x_P0, ↓x_P1, x_fill0, x_filli, x_fills, x_fillb, c_int, List.length_cons, List.length_nil, List.cons_append, List.drop_succ_cons, List.drop_zero, List.drop_nil, List.nil_append, Int.reduceAdd, Int.reduceToNat, Int.reduceLT, Int.reduceLE, Nat.reduceAdd, Nat.reduceMul, Nat.reduceLeDiff, Int.reduceEq, Int.reduceSub, Int.cast_ofNat_Int, s_resc, s_consR, m_load4, m_store4, s_res0, ↓s_skip, ↓s_ops, ↓s_dops, ↓s_seq, ↓s_cond, ↓s_block, ↓s_exit, ↓s_ret, ↓s_scope, ↓s_nil, ↓s_op, ↓s_opg, ↓s_wanted', ↓s_wantV, s_wantV, s_wantV0, beq_true, beq_false, ↓s_bindS, s_bindS, ↓s_bindE, s_bindE, s_bindE_ret, s_bindE_exit, s_bindE_iteN, s_norm, ↓s_condV, s_condV, s_block_ret, s_block_normal, s_block_exit, s_block_iteN, ↓s_getp, ↓s_getp0, ↓s_get, s_get0, ↓s_con, ↓s_fn, ↓s_os0, ↓s_os1, ↓s_list0, ↓s_list1, ↓s_mov, ↓s_pick, ↓s_pickE, s_pickE, ↓s_bin, ↓s_un, ↓s_minmax, ↓s_call, ↓s_callv, ↓s_callV, ↓s_ext, s_same, b_eql, b_neq, b_lss, b_leq, b_gtr, b_geq, b_add, b_sub, b_mul, b_eqlb, b_neqb, b_fnil, b_fnil', b_fnil2, b_fnil2', u_neg, u_not, m_two, s_end, s_end', s_end_iteN, s_res0, s_res1, s_tup1, s_tup2, ↓iteN_true, ↓iteN_false, iteN_true, iteN_false, Nat.zero_add, List.nil_append, List.append_nil, Nat.reduceEqDiff, reduceIte, decide_true, decide_false, Bool.not_true, Bool.not_false, List.getElem?_cons_zero, List.getElem?_cons_succ, Bool.false_eq_true, if_true, if_false, beq_self_eq_true]
    try rfl
theorem valueO_go (e : EnOp E) (x : NoOp X) (ev : E k_ops_Value = some f_ops_Value) (xv : ∀ a h, X (.fn k_ops_Value) a h = none) (N : Nat) (o : Oq) (ok : o.ok) (hl : o.l.length ≤ 1000000) (a : Option (Nat × Nat)) (c : Option Nat) (ez : Nat) (h : H) (src : SrcH h a ez o.l) :
    ∃ h' a2 c2 e2, callX E X (N + 2) (.fn k_ops_Value) [.agg [.int .u8 (o.code : Int), .slice a o.l.length c ez]] h = some (.tup [.slice a2 ((valV o).getD []).length c2 e2, .bool (valV o).isSome], h') ∧ Kp h h' ∧ Ow h' ((valV o).getD []) a2 e2 ∧ ((valV o).getD [] ≠ [] → ∀ q z, a2 = some (q, z) → h.next ≤ q) := by
  rw [x_cfn ev _ _ (Nat.le_of_ble_eq_true rfl) (xv _ _)]
  have ca : ∀ l : List V, (V.agg l).cells = l := fun _ => rfl
  have hc := ok.cl
  obtain ⟨hA, eA⟩ : ∃ hA, h.new (.cells [.int .u8 (o.code : Int), .slice a o.l.length c ez] .rw) = hA := ⟨_, rfl⟩
  have kA : Kp h hA := by rw [← eA]; exact Kp.new _ _
  have nA : hA.next = h.next + 1 := by rw [← eA]; rfl
  have gA : hA.get h.next = some (.cells [.int .u8 (o.code : Int), .slice a o.l.length c ez] .rw) := by rw [← eA]; exact h_new_same _ _
  obtain ⟨hB, rv, kB⟩ := valid_go e x N o hc (by omega) a c ez hA
  have gB : hB.get h.next = some (.cells [.int .u8 (o.code : Int), .slice a o.l.length c ez] .rw) := by rw [kB.2 _ (by omega), gA]
  have kAB := kA.trans kB
  have kBn := kB.1
  unfold valV
  cases hv : okO o with
  | false =>
    rw [hv] at rv
    rw [if_pos rfl]
    refine ⟨hB, none, some 0, 0, ?_, kAB, .inl rfl, fun h => absurd rfl h⟩
    show _ = some (V.tup [.slice none ([] : List Nat).length (some 0) 0, .bool false], hB)
    rw [List.length_nil]
    generalize o.l.length = n at *
    simp (config := {maxSteps := 2000000}) (disch := first | omega | (simp only [List.length_cons, List.length_nil, List.length_append, List.length_drop]; omega)) only [ca, eA, gA, rv, ld2, ↓s_box, ↓b_xor32, ↓b_and32, ↓b_or32, ↓u_not32, b_xor32, b_and32, b_or32, u_not32, w32ad, ↓x_conv, x_convV, ↓x_fieldAddr, x_fieldV, ↓s_nilchk, x_nilchk, Nat.zero_add, Nat.add_zero, Nat.mul_one, ↓s_evD, ↓s_dnil, ↓s_dL, ↓s_dLg, ↓s_dR, ↓s_dRg, ↓s_dRj, ↓s_dRjg, ↓s_dB, ↓s_dBg, ↓s_dAlloc, ↓s_bindD, s_bindD, s_finD, s_finDx, s_addP0, s_addP1, s_addB, s_lookP, ↓s_bump0, ↓s_bump_get, s_bump_next, s_ok0, ↓s_ok1, s_okR0, ↓s_okR1, ↓s_okE, s_okE, s_okE1, s_nth0, s_nthS, Nat.add_zero, Bool.and_self, Bool.and_true, Bool.true_and, ↓l_loop, ↓l_succ, ↓l_normal, l_normal, l_exit, l_ret, l_iteN, ↓h_put_get, ↓h_new_get, ↓h_del_get, h_next_put, h_next_new, h_next_del, Nat.add_assoc, Nat.add_eq_left, Nat.left_eq_add, Nat.add_left_cancel_iff, ↓s_load, m_load, ↓m_load1, m_load1, ↓m_st, m_stE, m_storeI, m_storeE, w_zero, w_succ, ↓s_alloc, ↓x_idxA, ↓x_idxS, x_idxAE, x_idxSE, x_addrE, x_idx, x_lenS, ↓s_len, ↓x_buildS, x_buildE, ↓x_P0, ↓x_P1, x_fill0, x_filli, x_fills, x_fillb, c_int, List.length_cons, List.length_nil, List.cons_append, List.drop_succ_cons, List.drop_zero, List.drop_nil, List.nil_append, Int.reduceAdd, Int.reduceToNat, Int.reduceLT, Int.reduceLE, Nat.reduceAdd, Nat.reduceMul, Nat.reduceLeDiff, Int.reduceEq, Int.reduceSub, Int.cast_ofNat_Int, s_resc, s_consR, m_load4, m_store4, s_res0, ↓s_skip, ↓s_ops, ↓s_dops, ↓s_seq, ↓s_cond, ↓s_block, ↓s_exit, ↓s_ret, ↓s_scope, ↓s_nil, ↓s_op, ↓s_opg, ↓s_wanted', ↓s_wantV, s_wantV, s_wantV0, beq_true, beq_false, ↓s_bindS, s_bindS, ↓s_bindE, s_bindE, s_bindE_ret, s_bindE_exit, s_bindE_iteN, s_norm, ↓s_condV, s_condV, s_block_ret, s_block_normal, s_block_exit, s_block_iteN, ↓s_getp, ↓s_getp0, ↓s_get, s_get0, ↓s_con, ↓s_fn, ↓s_os0, ↓s_os1, ↓s_list0, ↓s_list1, ↓s_mov, ↓s_pick, ↓s_pickE, s_pickE, ↓s_bin, ↓s_un, ↓s_minmax, ↓s_call, ↓s_callv, ↓s_callV, ↓s_ext, s_same, b_eql, b_neq, b_lss, b_leq, b_gtr, b_geq, b_add, b_sub, b_mul, b_eqlb, b_neqb, b_fnil, b_fnil', b_fnil2, b_fnil2', u_neg, u_not, m_two, s_end, s_end', s_end_iteN, s_res0, s_res1, s_tup1, s_tup2, ↓iteN_true, ↓iteN_false, iteN_true, iteN_false, Nat.zero_add, List.nil_append, List.append_nil, Nat.reduceEqDiff, reduceIte, decide_true, decide_false, Bool.not_true, Bool.not_false, List.getElem?_cons_zero, List.getElem?_cons_succ, Bool.false_eq_true, if_true, if_false, beq_self_eq_true]
    try rfl
  | true =>
    rw [hv] at rv
    rw [if_neg (by simp)]
    by_cases c1 : o.code ≤ 77
    · rw [if_pos c1]
      have d1 : decide ((o.code : Int) ≤ 77) = true := decide_eq_true (by omega)
      have sB := src.mono kAB
      obtain ⟨hC, b, cb, eb, rb, kC, sb, gb⟩ := cloneO_go e x N o.l hl a c ez hB sB (fun hn => sB.nn hn)
      refine ⟨hC, b, cb, eb, ?_, kAB.trans kC, sb, fun _ q z eq => by have := gb q z eq; omega⟩
      show _ = some (V.tup [.slice b o.l.length cb eb, .bool true], hC)
      generalize o.l.length = n at *
      simp (config := {maxSteps := 2000000}) (disch := first | omega | (simp only [List.length_cons, List.length_nil, List.length_append, List.length_drop]; omega)) only [ca, eA, gA, gB, rv, rb, d1, ld2, ↓s_box, ↓b_xor32, ↓b_and32, ↓b_or32, ↓u_not32, b_xor32, b_and32, b_or32, u_not32, w32ad, ↓x_conv, x_convV, ↓x_fieldAddr, x_fieldV, ↓s_nilchk, x_nilchk, Nat.zero_add, Nat.add_zero, Nat.mul_one, ↓s_evD, ↓s_dnil, ↓s_dL, ↓s_dLg, ↓s_dR, ↓s_dRg, ↓s_dRj, ↓s_dRjg, ↓s_dB, ↓s_dBg, ↓s_dAlloc, ↓s_bindD, s_bindD, s_finD, s_finDx, s_addP0, s_addP1, s_addB, s_lookP, ↓s_bump0, ↓s_bump_get, s_bump_next, s_ok0, ↓s_ok1, s_okR0, ↓s_okR1, ↓s_okE, s_okE, s_okE1, s_nth0, s_nthS, Nat.add_zero, Bool.and_self, Bool.and_true, Bool.true_and, ↓l_loop, ↓l_succ, ↓l_normal, l_normal, l_exit, l_ret, l_iteN, ↓h_put_get, ↓h_new_get, ↓h_del_get, h_next_put, h_next_new, h_next_del, Nat.add_assoc, Nat.add_eq_left, Nat.left_eq_add, Nat.add_left_cancel_iff, ↓s_load, m_load, ↓m_load1, m_load1, ↓m_st, m_stE, m_storeI, m_storeE, w_zero, w_succ, ↓s_alloc, ↓x_idxA, ↓x_idxS, x_idxAE, x_idxSE, x_addrE, x_idx, x_lenS, ↓s_len, ↓x_buildS, x_buildE, ↓x_P0, ↓x_P1, x_fill0, x_filli, x_fills, x_fillb, c_int, List.length_cons, List.length_nil, List.cons_append, List.drop_succ_cons, List.drop_zero, List.drop_nil, List.nil_append, Int.reduceAdd, Int.reduceToNat, Int.reduceLT, Int.reduceLE, Nat.reduceAdd, Nat.reduceMul, Nat.reduceLeDiff, Int.reduceEq, Int.reduceSub, Int.cast_ofNat_Int, s_resc, s_consR, m_load4, m_store4, s_res0, ↓s_skip, ↓s_ops, ↓s_dops, ↓s_seq, ↓s_cond, ↓s_block, ↓s_exit, ↓s_ret, ↓s_scope, ↓s_nil, ↓s_op, ↓s_opg, ↓s_wanted', ↓s_wantV, s_wantV, s_wantV0, beq_true, beq_false, ↓s_bindS, s_bindS, ↓s_bindE, s_bindE, s_bindE_ret, s_bindE_exit, s_bindE_iteN, s_norm, ↓s_condV, s_condV, s_block_ret, s_block_normal, s_block_exit, s_block_iteN, ↓s_getp, ↓s_getp0, ↓s_get, s_get0, ↓s_con, ↓s_fn, ↓s_os0, ↓s_os1, ↓s_list0, ↓s_list1, ↓s_mov, ↓s_pick, ↓s_pickE, s_pickE, ↓s_bin, ↓s_un, ↓s_minmax, ↓s_call, ↓s_callv, ↓s_callV, ↓s_ext, s_same, b_eql, b_neq, b_lss, b_leq, b_gtr, b_geq, b_add, b_sub, b_mul, b_eqlb, b_neqb, b_fnil, b_fnil', b_fnil2, b_fnil2', u_neg, u_not, m_two, s_end, s_end', s_end_iteN, s_res0, s_res1, s_tup1, s_tup2, ↓iteN_true, ↓iteN_false, iteN_true, iteN_false, Nat.zero_add, List.nil_append, List.append_nil, Nat.reduceEqDiff, reduceIte, decide_true, decide_false, Bool.not_true, Bool.not_false, List.getElem?_cons_zero, List.getElem?_cons_succ, Bool.false_eq_true, if_true, if_false, beq_self_eq_true]
      try rfl
    · rw [if_neg c1]
      have d1 : decide ((o.code : Int) ≤ 77) = false := decide_eq_false (by omega)
      by_cases c2 : o.code = 79
      · rw [if_pos c2]
        have d2 : decide ((o.code : Int) = 79) = true := decide_eq_true (by omega)
        refine ⟨hB.new (.cells (ofI .u8 [129]) .rw), some (hB.next, 0), some 1, 1, ?_, kAB.trans (Kp.new _ _), .inr ⟨hB.next, .rw, rfl, rfl, h_new_same _ _, rfl, Nat.lt_succ_self _⟩, fun _ q z eq => by cases eq; omega⟩
        show _ = some (V.tup [.slice (some (hB.next, 0)) 1 (some 1) 1, .bool true], hB.new (.cells [.int .u8 129] .rw))
        generalize o.l.length = n at *
        simp (config := {maxSteps := 2000000}) (disch := first | omega | (simp only [List.length_cons, List.length_nil, List.length_append, List.length_drop]; omega)) only [ca, eA, gA, gB, rv, d1, d2, ld2, ↓s_box, ↓b_xor32, ↓b_and32, ↓b_or32, ↓u_not32, b_xor32, b_and32, b_or32, u_not32, w32ad, ↓x_conv, x_convV, ↓x_fieldAddr, x_fieldV, ↓s_nilchk, x_nilchk, Nat.zero_add, Nat.add_zero, Nat.mul_one, ↓s_evD, ↓s_dnil, ↓s_dL, ↓s_dLg, ↓s_dR, ↓s_dRg, ↓s_dRj, ↓s_dRjg, ↓s_dB, ↓s_dBg, ↓s_dAlloc, ↓s_bindD, s_bindD, s_finD, s_finDx, s_addP0, s_addP1, s_addB, s_lookP, ↓s_bump0, ↓s_bump_get, s_bump_next, s_ok0, ↓s_ok1, s_okR0, ↓s_okR1, ↓s_okE, s_okE, s_okE1, s_nth0, s_nthS, Nat.add_zero, Bool.and_self, Bool.and_true, Bool.true_and, ↓l_loop, ↓l_succ, ↓l_normal, l_normal, l_exit, l_ret, l_iteN, ↓h_put_get, ↓h_new_get, ↓h_del_get, h_next_put, h_next_new, h_next_del, Nat.add_assoc, Nat.add_eq_left, Nat.left_eq_add, Nat.add_left_cancel_iff, ↓s_load, m_load, ↓m_load1, m_load1, ↓m_st, m_stE, m_storeI, m_storeE, w_zero, w_succ, ↓s_alloc, ↓x_idxA, ↓x_idxS, x_idxAE, x_idxSE, x_addrE, x_idx, x_lenS, ↓s_len, ↓x_buildS, x_buildE, ↓x_P0, ↓x_P1, x_fill0, x_filli, x_fills, x_fillb, c_int, List.length_cons, List.length_nil, List.cons_append, List.drop_succ_cons, List.drop_zero, List.drop_nil, List.nil_append, Int.reduceAdd, Int.reduceToNat, Int.reduceLT, Int.reduceLE, Nat.reduceAdd, Nat.reduceMul, Nat.reduceLeDiff, Int.reduceEq, Int.reduceSub, Int.cast_ofNat_Int, s_resc, s_consR, m_load4, m_store4, s_res0, ↓s_skip, ↓s_ops, ↓s_dops, ↓s_seq, ↓s_cond, ↓s_block, ↓s_exit, ↓s_ret, ↓s_scope, ↓s_nil, ↓s_op, ↓s_opg, ↓s_wanted', ↓s_wantV, s_wantV, s_wantV0, beq_true, beq_false, ↓s_bindS, s_bindS, ↓s_bindE, s_bindE, s_bindE_ret, s_bindE_exit, s_bindE_iteN, s_norm, ↓s_condV, s_condV, s_block_ret, s_block_normal, s_block_exit, s_block_iteN, ↓s_getp, ↓s_getp0, ↓s_get, s_get0, ↓s_con, ↓s_fn, ↓s_os0, ↓s_os1, ↓s_list0, ↓s_list1, ↓s_mov, ↓s_pick, ↓s_pickE, s_pickE, ↓s_bin, ↓s_un, ↓s_minmax, ↓s_call, ↓s_callv, ↓s_callV, ↓s_ext, s_same, b_eql, b_neq, b_lss, b_leq, b_gtr, b_geq, b_add, b_sub, b_mul, b_eqlb, b_neqb, b_fnil, b_fnil', b_fnil2, b_fnil2', u_neg, u_not, m_two, s_end, s_end', s_end_iteN, s_res0, s_res1, s_tup1, s_tup2, ↓iteN_true, ↓iteN_false, iteN_true, iteN_false, Nat.zero_add, List.nil_append, List.append_nil, Nat.reduceEqDiff, reduceIte, decide_true, decide_false, Bool.not_true, Bool.not_false, List.getElem?_cons_zero, List.getElem?_cons_succ, Bool.false_eq_true, if_true, if_false, beq_self_eq_true]
        try rfl
      · rw [if_neg c2]
        have d2 : decide ((o.code : Int) = 79) = false := decide_eq_false (by omega)
        by_cases c3 : 81 ≤ o.code
        · have d3 : decide ((81 : Int) ≤ (o.code : Int)) = true := decide_eq_true (by omega)
          by_cases c4 : o.code ≤ 96
          · rw [if_pos ⟨c3, c4⟩]
            have d4 : decide ((o.code : Int) ≤ 96) = true := decide_eq_true (by omega)
            have w1 : wr .u8 ((o.code : Int) - 81) = ((o.code - 81 : Nat) : Int) := by rw [show (o.code : Int) - 81 = ((o.code - 81 : Nat) : Int) by omega, w8n, Nat.mod_eq_of_lt (by omega)]
            have w2 : wr .u8 (((o.code - 81 : Nat) : Int) + 1) = ((o.code - 80 : Nat) : Int) := by rw [show ((o.code - 81 : Nat) : Int) + 1 = ((o.code - 80 : Nat) : Int) by omega, w8n, Nat.mod_eq_of_lt (by omega)]
            refine ⟨hB.new (.cells (ofI .u8 [o.code - 80]) .rw), some (hB.next, 0), some 1, 1, ?_, kAB.trans (Kp.new _ _), .inr ⟨hB.next, .rw, rfl, rfl, h_new_same _ _, rfl, Nat.lt_succ_self _⟩, fun _ q z eq => by cases eq; omega⟩
            show _ = some (V.tup [.slice (some (hB.next, 0)) 1 (some 1) 1, .bool true], hB.new (.cells [.int .u8 ((o.code - 80 : Nat) : Int)] .rw))
            generalize o.l.length = n at *
            generalize o.code - 81 = y1 at *
            generalize o.code - 80 = y0 at *
            simp (config := {maxSteps := 2000000}) (disch := first | omega | (simp only [List.length_cons, List.length_nil, List.length_append, List.length_drop]; omega)) only [ca, eA, gA, gB, rv, d1, d2, d3, d4, w1, w2, ld2, ↓s_box, ↓b_xor32, ↓b_and32, ↓b_or32, ↓u_not32, b_xor32, b_and32, b_or32, u_not32, w32ad, ↓x_conv, x_convV, ↓x_fieldAddr, x_fieldV, ↓s_nilchk, x_nilchk, Nat.zero_add, Nat.add_zero, Nat.mul_one, ↓s_evD, ↓s_dnil, ↓s_dL, ↓s_dLg, ↓s_dR, ↓s_dRg, ↓s_dRj, ↓s_dRjg, ↓s_dB, ↓s_dBg, ↓s_dAlloc, ↓s_bindD, s_bindD, s_finD, s_finDx, s_addP0, s_addP1, s_addB, s_lookP, ↓s_bump0, ↓s_bump_get, s_bump_next, s_ok0, ↓s_ok1, s_okR0, ↓s_okR1, ↓s_okE, s_okE, s_okE1, s_nth0, s_nthS, Nat.add_zero, Bool.and_self, Bool.and_true, Bool.true_and, ↓l_loop, ↓l_succ, ↓l_normal, l_normal, l_exit, l_ret, l_iteN, ↓h_put_get, ↓h_new_get, ↓h_del_get, h_next_put, h_next_new, h_next_del, Nat.add_assoc, Nat.add_eq_left, Nat.left_eq_add, Nat.add_left_cancel_iff, ↓s_load, m_load, ↓m_load1, m_load1, ↓m_st, m_stE, m_storeI, m_storeE, w_zero, w_succ, ↓s_alloc, ↓x_idxA, ↓x_idxS, x_idxAE, x_idxSE, x_addrE, x_idx, x_lenS, ↓s_len, ↓x_buildS, x_buildE, ↓x_P0, ↓x_P1, x_fill0, x_filli, x_fills, x_fillb, c_int, List.length_cons, List.length_nil, List.cons_append, List.drop_succ_cons, List.drop_zero, List.drop_nil, List.nil_append, Int.reduceAdd, Int.reduceToNat, Int.reduceLT, Int.reduceLE, Nat.reduceAdd, Nat.reduceMul, Nat.reduceLeDiff, Int.reduceEq, Int.reduceSub, Int.cast_ofNat_Int, s_resc, s_consR, m_load4, m_store4, s_res0, ↓s_skip, ↓s_ops, ↓s_dops, ↓s_seq, ↓s_cond, ↓s_block, ↓s_exit, ↓s_ret, ↓s_scope, ↓s_nil, ↓s_op, ↓s_opg, ↓s_wanted', ↓s_wantV, s_wantV, s_wantV0, beq_true, beq_false, ↓s_bindS, s_bindS, ↓s_bindE, s_bindE, s_bindE_ret, s_bindE_exit, s_bindE_iteN, s_norm, ↓s_condV, s_condV, s_block_ret, s_block_normal, s_block_exit, s_block_iteN, ↓s_getp, ↓s_getp0, ↓s_get, s_get0, ↓s_con, ↓s_fn, ↓s_os0, ↓s_os1, ↓s_list0, ↓s_list1, ↓s_mov, ↓s_pick, ↓s_pickE, s_pickE, ↓s_bin, ↓s_un, ↓s_minmax, ↓s_call, ↓s_callv, ↓s_callV, ↓s_ext, s_same, b_eql, b_neq, b_lss, b_leq, b_gtr, b_geq, b_add, b_sub, b_mul, b_eqlb, b_neqb, b_fnil, b_fnil', b_fnil2, b_fnil2', u_neg, u_not, m_two, s_end, s_end', s_end_iteN, s_res0, s_res1, s_tup1, s_tup2, ↓iteN_true, ↓iteN_false, iteN_true, iteN_false, Nat.zero_add, List.nil_append, List.append_nil, Nat.reduceEqDiff, reduceIte, decide_true, decide_false, Bool.not_true, Bool.not_false, List.getElem?_cons_zero, List.getElem?_cons_succ, Bool.false_eq_true, if_true, if_false, beq_self_eq_true]
            try rfl
          · rw [if_neg (fun h => c4 h.2)]
            have d4 : decide ((o.code : Int) ≤ 96) = false := decide_eq_false (by omega)
            refine ⟨hB, none, some 0, 0, ?_, kAB, .inl rfl, fun h => absurd rfl h⟩
            show _ = some (V.tup [.slice none ([] : List Nat).length (some 0) 0, .bool false], hB)
            rw [List.length_nil]
            generalize o.l.length = n at *
            simp (config := {maxSteps := 2000000}) (disch := first | omega | (simp only [List.length_cons, List.length_nil, List.length_append, List.length_drop]; omega)) only [ca, eA, gA, gB, rv, d1, d2, d3, d4, ld2, ↓s_box, ↓b_xor32, ↓b_and32, ↓b_or32, ↓u_not32, b_xor32, b_and32, b_or32, u_not32, w32ad, ↓x_conv, x_convV, ↓x_fieldAddr, x_fieldV, ↓s_nilchk, x_nilchk, Nat.zero_add, Nat.add_zero, Nat.mul_one, ↓s_evD, ↓s_dnil, ↓s_dL, ↓s_dLg, ↓s_dR, ↓s_dRg, ↓s_dRj, ↓s_dRjg, ↓s_dB, ↓s_dBg, ↓s_dAlloc, ↓s_bindD, s_bindD, s_finD, s_finDx, s_addP0, s_addP1, s_addB, s_lookP, ↓s_bump0, ↓s_bump_get, s_bump_next, s_ok0, ↓s_ok1, s_okR0, ↓s_okR1, ↓s_okE, s_okE, s_okE1, s_nth0, s_nthS, Nat.add_zero, Bool.and_self, Bool.and_true, Bool.true_and, ↓l_loop, ↓l_succ, ↓l_normal, l_normal, l_exit, l_ret, l_iteN, ↓h_put_get, ↓h_new_get, ↓h_del_get, h_next_put, h_next_new, h_next_del, Nat.add_assoc, Nat.add_eq_left, Nat.left_eq_add, Nat.add_left_cancel_iff, ↓s_load, m_load, ↓m_load1, m_load1, ↓m_st, m_stE, m_storeI, m_storeE, w_zero, w_succ, ↓s_alloc, ↓x_idxA, ↓x_idxS, x_idxAE, x_idxSE, x_addrE, x_idx, x_lenS, ↓s_len, ↓x_buildS, x_buildE, ↓x_P0, ↓x_P1, x_fill0, x_filli, x_fills, x_fillb, c_int, List.length_cons, List.length_nil, List.cons_append, List.drop_succ_cons, List.drop_zero, List.drop_nil, List.nil_append, Int.reduceAdd, Int.reduceToNat, Int.reduceLT, Int.reduceLE, Nat.reduceAdd, Nat.reduceMul, Nat.reduceLeDiff, Int.reduceEq, Int.reduceSub, Int.cast_ofNat_Int, s_resc, s_consR, m_load4, m_store4, s_res0, ↓s_skip, ↓s_ops, ↓s_dops, ↓s_seq, ↓s_cond, ↓s_block, ↓s_exit, ↓s_ret, ↓s_scope, ↓s_nil, ↓s_op, ↓s_opg, ↓s_wanted', ↓s_wantV, s_wantV, s_wantV0, beq_true, beq_false, ↓s_bindS, s_bindS, ↓s_bindE, s_bindE, s_bindE_ret, s_bindE_exit, s_bindE_iteN, s_norm, ↓s_condV, s_condV, s_block_ret, s_block_normal, s_block_exit, s_block_iteN, ↓s_getp, ↓s_getp0, ↓s_get, s_get0, ↓s_con, ↓s_fn, ↓s_os0, ↓s_os1, ↓s_list0, ↓s_list1, ↓s_mov, ↓s_pick, ↓s_pickE, s_pickE, ↓s_bin, ↓s_un, ↓s_minmax, ↓s_call, ↓s_callv, ↓s_callV, ↓s_ext, s_same, b_eql, b_neq, b_lss, b_leq, b_gtr, b_geq, b_add, b_sub, b_mul, b_eqlb, b_neqb, b_fnil, b_fnil', b_fnil2, b_fnil2', u_neg, u_not, m_two, s_end, s_end', s_end_iteN, s_res0, s_res1, s_tup1, s_tup2, ↓iteN_true, ↓iteN_false, iteN_true, iteN_false, Nat.zero_add, List.nil_append, List.append_nil, Nat.reduceEqDiff, reduceIte, decide_true, decide_false, Bool.not_true, Bool.not_false, List.getElem?_cons_zero, List.getElem?_cons_succ, Bool.false_eq_true, if_true, if_false, beq_self_eq_true]
            try rfl
        · rw [if_neg (fun h => c3 h.1)]
          have d3 : decide ((81 : Int) ≤ (o.code : Int)) = false := decide_eq_false (by omega)
          refine ⟨hB, none, some 0, 0, ?_, kAB, .inl rfl, fun h => absurd rfl h⟩
          show _ = some (V.tup [.slice none ([] : List Nat).length (some 0) 0, .bool false], hB)
          rw [List.length_nil]
          generalize o.l.length = n at *
          simp (config := {maxSteps := 2000000}) (disch := first | omega | (simp only [List.length_cons, List.length_nil, List.length_append, List.length_drop]; omega)) only [ca, eA, gA, gB, rv, d1, d2, d3, ld2, ↓s_box, ↓b_xor32, ↓b_and32, ↓b_or32, ↓u_not32, b_xor32, b_and32, b_or32, u_not32, w32ad, ↓x_conv, x_convV, ↓x_fieldAddr, x_fieldV, ↓s_nilchk, x_nilchk, Nat.zero_add, Nat.add_zero, Nat.mul_one, ↓s_evD, ↓s_dnil, ↓s_dL, ↓s_dLg, ↓s_dR, ↓s_dRg, ↓s_dRj, ↓s_dRjg, ↓s_dB, ↓s_dBg, ↓s_dAlloc, ↓s_bindD, s_bindD, s_finD, s_finDx, s_addP0, s_addP1, s_addB, s_lookP, ↓s_bump0, ↓s_bump_get, s_bump_next, s_ok0, ↓s_ok1, s_okR0, ↓s_okR1, ↓s_okE, s_okE, s_okE1, s_nth0, s_nthS, Nat.add_zero, Bool.and_self, Bool.and_true, Bool.true_and, ↓l_loop, ↓l_succ, ↓l_normal, l_normal, l_exit, l_ret, l_iteN, ↓h_put_get, ↓h_new_get, ↓h_del_get, h_next_put, h_next_new, h_next_del, Nat.add_assoc, Nat.add_eq_left, Nat.left_eq_add, Nat.add_left_cancel_iff, ↓s_load, m_load, ↓m_load1, m_load1, ↓m_st, m_stE, m_storeI, m_storeE, w_zero, w_succ, ↓s_alloc, ↓x_idxA, ↓x_idxS, x_idxAE, x_idxSE, x_addrE, x_idx, x_lenS, ↓s_len, ↓x_buildS, x_buildE, ↓x_P0, ↓x_P1, x_fill0, x_filli, x_fills, x_fillb, c_int, List.length_cons, List.length_nil, List.cons_append, List.drop_succ_cons, List.drop_zero, List.drop_nil, List.nil_append, Int.reduceAdd, Int.reduceToNat, Int.reduceLT, Int.reduceLE, Nat.reduceAdd, Nat.reduceMul, Nat.reduceLeDiff, Int.reduceEq, Int.reduceSub, Int.cast_ofNat_Int, s_resc, s_consR, m_load4, m_store4, s_res0, ↓s_skip, ↓s_ops, ↓s_dops, ↓s_seq, ↓s_cond, ↓s_block, ↓s_exit, ↓s_ret, ↓s_scope, ↓s_nil, ↓s_op, ↓s_opg, ↓s_wanted', ↓s_wantV, s_wantV, s_wantV0, beq_true, beq_false, ↓s_bindS, s_bindS, ↓s_bindE, s_bindE, s_bindE_ret, s_bindE_exit, s_bindE_iteN, s_norm, ↓s_condV, s_condV, s_block_ret, s_block_normal, s_block_exit, s_block_iteN, ↓s_getp, ↓s_getp0, ↓s_get, s_get0, ↓s_con, ↓s_fn, ↓s_os0, ↓s_os1, ↓s_list0, ↓s_list1, ↓s_mov, ↓s_pick, ↓s_pickE, s_pickE, ↓s_bin, ↓s_un, ↓s_minmax, ↓s_call, ↓s_callv, ↓s_callV, ↓s_ext, s_same, b_eql, b_neq, b_lss, b_leq, b_gtr, b_geq, b_add, b_sub, b_mul, b_eqlb, b_neqb, b_fnil, b_fnil', b_fnil2, b_fnil2', u_neg, u_not, m_two, s_end, s_end', s_end_iteN, s_res0, s_res1, s_tup1, s_tup2, ↓iteN_true, ↓iteN_false, iteN_true, iteN_false, Nat.zero_add, List.nil_append, List.append_nil, Nat.reduceEqDiff, reduceIte, decide_true, decide_false, Bool.not_true, Bool.not_false, List.getElem?_cons_zero, List.getElem?_cons_succ, Bool.false_eq_true, if_true, if_false, beq_self_eq_true]
          try rfl
theorem stAny (k : IntKind) (l : List Nat) (c : List V) (md : Md) (hm : isRo md = false) (h : H) (i off : Nat) (hl : off + c.length ≤ l.length) : storeE (some (.cells (ofI k l) md)) h i off c = some (h.put i (.cells (writeN (ofI k l) off c) md)) := by
  cases md with
  | ro => cases hm
  | rw => exact m_storeE _ _ _ _ _ (by rw [ofI_len]; exact hl)
  | sh => exact m_storeEs _ _ _ _ _ (by rw [ofI_len]; exact hl)
/-- what Size of the document answers: a slice that is its own, or a row of one -/
def SzH (h : H) (w : List Nat) (a : Option (Nat × Nat)) (c : Option Nat) (e : Nat) : Prop := Wb h w a c e ∨ ∃ y q, w = [y] ∧ a = some (q, 0) ∧ c = some 1 ∧ e = 1 ∧ h.get q = some (.cells (ofI .u8 w) .rw) ∧ q < h.next
theorem SzH.src {h : H} {w : List Nat} {a : Option (Nat × Nat)} {c : Option Nat} {e : Nat} (s : SzH h w a c e) : SrcH h a e w := by
  rcases s with s | ⟨y, q, rfl, rfl, rfl, rfl, g, hq⟩
  · exact s.src
  · exact .inr ⟨q, 0, _, .rw, rfl, rfl, hq, g, by rw [ofI_len]; omega, by rw [List.drop_zero]; exact List.take_of_length_le (by rw [ofI_len]; exact Nat.le_refl _)⟩
theorem app11 (h : H) (q y n : Nat) (l : List Nat) (hl : l.length = n + 1) (hn : n ≤ 1000000) (g : h.get q = some (.cells (ofI .u8 [y]) .rw)) : appendC h 1 1 (.slice (some (q, 0)) 1 (some 1) 1) (some (n + 1, ofI .u8 l)) = some (.slice (some (h.next, 0)) (1 + (n + 1)) none 1, h.new (.cells (ofI .u8 (y :: l)) .rw)) := by
  unfold appendC
  simp only
  have r : (roomy (1 + (n + 1)) 1 && (Nat.beq 1 1 || (some (q, 0) : Option (Nat × Nat)).isNone) && (ofI .u8 l).all plainV) = true := by
    rw [plain_ofI]; have : roomy (1 + (n + 1)) 1 = true := by simp [roomy]; omega
    rw [this]; rfl
  have f : fullC (some 1) (1 + (n + 1)) = true := by
    show Nat.blt 1 (1 + (n + 1)) = true
    simp
  rw [r]
  simp only [_root_.cond_true, g, f]
  rfl
theorem ap_sz (h : H) (w l : List Nat) (a : Option (Nat × Nat)) (c : Option Nat) (e : Nat) (s : SzH h w a c e) (hl : w.length + l.length ≤ 1000000) :
    ∃ a' c' e' h', appendC h 1 1 (.slice a w.length c e) (some (l.length, ofI .u8 l)) = some (.slice a' (w ++ l).length c' e', h') ∧ SzH h' (w ++ l) a' c' e' ∧ h.next ≤ h'.next ∧ (∀ i, i < h.next → a ≠ some (i, 0) → h'.get i = h.get i) ∧ (a' = a ∨ a' = some (h.next, 0)) := by
  rcases s with s | ⟨y, q, rfl, rfl, rfl, rfl, g, hq⟩
  · obtain ⟨a', c', e', h', r, wb, n1, f1, o1⟩ := ap_wb h w l a c e s hl
    exact ⟨a', c', e', h', r, .inl wb, n1, f1, o1⟩
  · cases hn : l.length with
    | zero =>
      obtain rfl : l = [] := List.length_eq_zero_iff.1 hn
      exact ⟨_, _, _, _, appN _ _ _ _ _ _, .inr ⟨y, q, rfl, rfl, rfl, rfl, g, hq⟩, Nat.le_refl _, fun _ _ _ => rfl, .inl rfl⟩
    | succ n =>
      have ap := app11 h q y n l hn (by rw [hn] at hl; simp at hl; omega) g
      refine ⟨_, _, _, _, by rw [show ([y] ++ l).length = 1 + (n + 1) by simp [hn]; omega]; exact ap, .inl (.inr ⟨by simp, h.next, .rw, rfl, rfl, rfl, h_new_same _ _, rfl, Nat.lt_succ_self _⟩), Nat.le_succ _, fun i hi _ => h_new_ne _ _ (by omega), .inr rfl⟩
theorem twinv_go (e : E k_purserref01_Twin = some f_purserref01_Twin) (x : ∀ a h, X (.fn k_purserref01_Twin) a h = none) (N : Nat) (l : List Nat) (hl : l.length ≤ 1000000) (a : Option (Nat × Nat)) (c : Option Nat) (ez : Nat) (h : H) (src : SrcH h a ez l) :
    ∃ ao co eo h', callX E X (N + 1) (.fn k_purserref01_Twin) [.slice a l.length c ez] h = some (.slice ao l.length co eo, h') ∧ Nw h h' l ao co eo := by
  rw [x_cfn e _ _ (Nat.le_of_ble_eq_true rfl) (x _ _)]
  have sc := src.cellz c
  obtain ⟨a2, c2, e2, h', ap, nw⟩ := app_nw h l hl
  refine ⟨a2, c2, e2, h', ?_, nw⟩
  obtain ⟨n, en⟩ : ∃ n, l.length = n := ⟨_, rfl⟩
  rw [en] at sc ap ⊢
  simp (config := {maxSteps := 2000000}) (disch := first | omega | (simp only [List.length_cons, List.length_nil, List.length_append, List.length_drop]; omega)) only [sc, ap, ↓s_append, ↓b_xor32, ↓b_and32, ↓b_or32, ↓u_not32, b_xor32, b_and32, b_or32, u_not32, w32ad, ↓x_conv, x_convV, ↓x_fieldAddr, x_fieldV, ↓s_nilchk, x_nilchk, Nat.zero_add, Nat.add_zero, Nat.mul_one, ↓l_loop, ↓l_succ, ↓l_normal, l_normal, l_exit, l_ret, l_iteN, ↓h_put_get, ↓h_new_get, ↓h_del_get, h_next_put, h_next_new, h_next_del, Nat.add_assoc, Nat.add_eq_left, Nat.left_eq_add, Nat.add_left_cancel_iff, ↓s_load, m_load, ↓m_load1, m_load1, ↓m_st, m_stE, m_storeI, m_storeE, w_zero, w_succ, ↓s_alloc, ↓x_idxA, ↓x_idxS, x_idxAE, x_idxSE, x_addrE, x_idx, x_lenS, ↓s_len, ↓x_buildS, x_buildE, ↓x_P0, ↓x_P1, x_fill0, x_filli, x_fills, x_fillb, c_int, List.length_cons, List.length_nil, List.cons_append, List.drop_succ_cons, List.drop_zero, List.drop_nil, List.nil_append, Int.reduceAdd, Int.reduceToNat, Int.reduceLT, Int.reduceLE, Nat.reduceAdd, Nat.reduceMul, Nat.reduceLeDiff, Int.reduceEq, Int.reduceSub, Int.cast_ofNat_Int, s_resc, s_consR, m_load4, m_store4, s_res0, ↓s_skip, ↓s_ops, ↓s_dops, ↓s_seq, ↓s_cond, ↓s_block, ↓s_exit, ↓s_ret, ↓s_scope, ↓s_nil, ↓s_op, ↓s_opg, ↓s_wanted', ↓s_wantV, s_wantV, s_wantV0, beq_true, beq_false, ↓s_bindS, s_bindS, ↓s_bindE, s_bindE, s_bindE_ret, s_bindE_exit, s_bindE_iteN, s_norm, ↓s_condV, s_condV, s_block_ret, s_block_normal, s_block_exit, s_block_iteN, ↓s_getp, ↓s_getp0, ↓s_get, s_get0, ↓s_con, ↓s_fn, ↓s_os0, ↓s_os1, ↓s_list0, ↓s_list1, ↓s_mov, ↓s_pick, ↓s_pickE, s_pickE, ↓s_bin, ↓s_un, ↓s_minmax, ↓s_call, ↓s_callv, ↓s_callV, ↓s_ext, s_same, b_eql, b_neq, b_lss, b_leq, b_gtr, b_geq, b_add, b_sub, b_mul, b_eqlb, b_neqb, b_fnil, b_fnil', b_fnil2, b_fnil2', u_neg, u_not, m_two, s_end, s_end', s_end_iteN, s_res0, s_res1, s_tup1, s_tup2, ↓iteN_true, ↓iteN_false, iteN_true, iteN_false, Nat.zero_add, List.nil_append, List.append_nil, Nat.reduceEqDiff, reduceIte, decide_true, decide_false, Bool.not_true, Bool.not_false, List.getElem?_cons_zero, List.getElem?_cons_succ, Bool.false_eq_true, if_true, if_false, beq_self_eq_true]
end Go.Eng
namespace Go.Eng
open Go
variable {E : Nat → Option Fn} {X : Orc}
set_option linter.unusedSimpArgs false
set_option linter.unusedVariables false

structure oj0I (T0 : Tr V) (q len : Nat) (md : Md) (h0 : H) (i : Nat) (T : Tr V) (h : H) : Prop where
  il : i ≤ len
  ts : evO T (.t 13) = evO T0 (.t 13)
  tn : evO T (.t 108) = .int .i64 (len : Int)
  ti : evO T (.t 109) = .int .i64 (i : Int)
  k0 : evO T (.t 0) = evO T0 (.t 0)
  k2 : evO T (.t 2) = evO T0 (.t 2)
  k11 : evO T (.t 11) = evO T0 (.t 11)
  k12 : evO T (.t 12) = evO T0 (.t 12)
  k71 : evO T (.t 71) = evO T0 (.t 71)
  k72 : evO T (.t 72) = evO T0 (.t 72)
  g : ∃ cur, h.get q = some (.cells (ofI .u8 cur) md) ∧ cur.length = len
  eq : Eqx q h0 h
/-- every byte of a slice is one greater behind it: nothing else is another one -/
theorem oj0_go (Q : Orc) (m : Nat) (T0 : Tr V) (h0 : H) (w : List Nat) (hw : w.length ≤ 1000000) (hm : w.length < m) (a : Option (Nat × Nat)) (c : Option Nat) (e : Nat) (wb : Ow h0 w a e) (ts : evO T0 (.t 13) = .slice a w.length c e) (tn : evO T0 (.t 108) = .int .i64 (w.length : Int)) (ti : evO T0 (.t 109) = .int .i64 0) :
    ∃ T' h', loopN (evC Q 163 m none L_purserlaw10_OpsJoin_0) m ⟨T0, [], h0⟩ = some (.exit 2, ⟨T', [], h'⟩) ∧ (h'.next = h0.next ∧ ∀ j, (w ≠ [] → a ≠ some (j, 0)) → h'.get j = h0.get j) ∧ evO T' (.t 0) = evO T0 (.t 0) ∧ evO T' (.t 2) = evO T0 (.t 2) ∧ evO T' (.t 11) = evO T0 (.t 11) ∧ evO T' (.t 12) = evO T0 (.t 12) ∧ evO T' (.t 71) = evO T0 (.t 71) ∧ evO T' (.t 72) = evO T0 (.t 72) := by
  rcases (show w = [] ∨ (w ≠ [] ∧ Ow h0 w a e) from (Classical.em (w = [])).imp id (fun h => ⟨h, wb⟩)) with rfl | ⟨hne, wb⟩
  · obtain ⟨m, rfl⟩ : ∃ k, m = k + 1 := ⟨m - 1, by omega⟩
    rw [l_succ]
    have c0 : decide ((0 : Int) < ((0 : Nat) : Int)) = false := rfl
    have c1 : decide ((0 : Int) < 0) = false := rfl
    rw [List.length_nil] at tn
    refine ⟨_, h0, by
      simp (config := {maxSteps := 2000000}) (disch := first | omega | (simp only [List.length_cons, List.length_nil, List.length_append, List.length_drop]; omega)) only [L_purserlaw10_OpsJoin_0, tn, ti, c0, c1, ↓b_xor32, ↓b_and32, ↓b_or32, ↓u_not32, b_xor32, b_and32, b_or32, u_not32, w32ad, ↓x_conv, x_convV, ↓x_fieldAddr, x_fieldV, ↓s_nilchk, x_nilchk, Nat.zero_add, Nat.add_zero, Nat.mul_one, ↓l_loop, ↓l_succ, ↓l_normal, l_normal, l_exit, l_ret, l_iteN, ↓h_put_get, ↓h_new_get, ↓h_del_get, h_next_put, h_next_new, h_next_del, Nat.add_assoc, Nat.add_eq_left, Nat.left_eq_add, Nat.add_left_cancel_iff, ↓s_load, m_load, ↓m_load1, m_load1, ↓m_st, m_stE, m_storeI, m_storeE, w_zero, w_succ, ↓s_alloc, ↓x_idxA, ↓x_idxS, x_idxAE, x_idxSE, x_addrE, x_idx, x_lenS, ↓s_len, ↓x_buildS, x_buildE, ↓x_P0, ↓x_P1, x_fill0, x_filli, x_fills, x_fillb, c_int, List.length_cons, List.length_nil, List.cons_append, List.drop_succ_cons, List.drop_zero, List.drop_nil, List.nil_append, Int.reduceAdd, Int.reduceToNat, Int.reduceLT, Int.reduceLE, Nat.reduceAdd, Nat.reduceMul, Nat.reduceLeDiff, Int.reduceEq, Int.reduceSub, Int.cast_ofNat_Int, s_resc, s_consR, m_load4, m_store4, s_res0, ↓s_skip, ↓s_ops, ↓s_dops, ↓s_seq, ↓s_cond, ↓s_block, ↓s_exit, ↓s_ret, ↓s_scope, ↓s_nil, ↓s_op, ↓s_opg, ↓s_wanted', ↓s_wantV, s_wantV, s_wantV0, beq_true, beq_false, ↓s_bindS, s_bindS, ↓s_bindE, s_bindE, s_bindE_ret, s_bindE_exit, s_bindE_iteN, s_norm, ↓s_condV, s_condV, s_block_ret, s_block_normal, s_block_exit, s_block_iteN, ↓s_getp, ↓s_getp0, ↓s_get, s_get0, ↓s_con, ↓s_fn, ↓s_os0, ↓s_os1, ↓s_list0, ↓s_list1, ↓s_mov, ↓s_pick, ↓s_pickE, s_pickE, ↓s_bin, ↓s_un, ↓s_minmax, ↓s_call, ↓s_callv, ↓s_callV, ↓s_ext, s_same, b_eql, b_neq, b_lss, b_leq, b_gtr, b_geq, b_add, b_sub, b_mul, b_eqlb, b_neqb, b_fnil, b_fnil', b_fnil2, b_fnil2', u_neg, u_not, m_two, s_end, s_end', s_end_iteN, s_res0, s_res1, s_tup1, s_tup2, ↓iteN_true, ↓iteN_false, iteN_true, iteN_false, Nat.zero_add, List.nil_append, List.append_nil, Nat.reduceEqDiff, reduceIte, decide_true, decide_false, Bool.not_true, Bool.not_false, List.getElem?_cons_zero, List.getElem?_cons_succ, Bool.false_eq_true, if_true, if_false, beq_self_eq_true]
      exact rfl, ⟨rfl, fun _ _ => rfl⟩, by (simp only [s_getp, s_getp0, Nat.reduceEqDiff, decide_false, decide_true, iteN_false, iteN_true]), by (simp only [s_getp, s_getp0, Nat.reduceEqDiff, decide_false, decide_true, iteN_false, iteN_true]), by (simp only [s_getp, s_getp0, Nat.reduceEqDiff, decide_false, decide_true, iteN_false, iteN_true]), by (simp only [s_getp, s_getp0, Nat.reduceEqDiff, decide_false, decide_true, iteN_false, iteN_true]), by (simp only [s_getp, s_getp0, Nat.reduceEqDiff, decide_false, decide_true, iteN_false, iteN_true]), by (simp only [s_getp, s_getp0, Nat.reduceEqDiff, decide_false, decide_true, iteN_false, iteN_true])⟩
  · obtain ⟨q, md, rfl, rfl, g, hmd, hq⟩ := wb.resolve_left hne
    obtain ⟨T', h', r, J⟩ := loop_go (f := evC Q 163 m none L_purserlaw10_OpsJoin_0) (oj0I T0 q w.length md h0) w.length (.exit 2) (by intro h; cases h) (oj0I T0 q w.length md h0 w.length) (fun i T h hi I => by
      obtain ⟨_, t1, t2, t3, k0, k2, k11, k12, k71, k72, ⟨cur, gq, lc⟩, eq⟩ := I
      have t1' := t1.trans ts
      have c0 : decide ((i : Int) < (w.length : Int)) = true := decide_eq_true (by omega)
      have wi : wr .i64 ((i : Int) + 1) = ((i + 1 : Nat) : Int) := by rw [wr_i64 (by omega)]; omega
      have ix : idx (i : Int) w.length = some i := idxn hi
      have cg : (ofI .u8 cur)[i]? = some (.int .u8 (cur.getD i 0 : Nat)) := ofI_get _ _ _ (by omega)
      have w8 : wr .u8 (((cur.getD i 0 : Nat) : Int) + 1) = (((cur.getD i 0 + 1) % 256 : Nat) : Int) := w8n (cur.getD i 0 + 1)
      generalize cur.getD i 0 = y at *
      generalize (y + 1) % 256 = y' at *
      have ste := fun (h : H) (v : V) => stAny .u8 cur [v] md hmd h q i (by simp only [List.length_cons, List.length_nil]; omega)
      have su := wr1I .u8 cur i y' (by omega)
      have i1 : i + 1 ≤ w.length := hi
      have ls : (cur.set i y').length = w.length := by rw [List.length_set, lc]
      obtain ⟨n, en⟩ : ∃ n, w.length = n := ⟨_, rfl⟩
      rw [en] at t1' t2 c0 ix
      refine ⟨_, _, by
        simp (config := {maxSteps := 2000000}) (disch := first | omega | (simp only [List.length_cons, List.length_nil, List.length_append, List.length_drop]; omega)) only [L_purserlaw10_OpsJoin_0, t1', t2, t3, gq, cg, c0, wi, ix, w8, ste, su, ↓b_xor32, ↓b_and32, ↓b_or32, ↓u_not32, b_xor32, b_and32, b_or32, u_not32, w32ad, ↓x_conv, x_convV, ↓x_fieldAddr, x_fieldV, ↓s_nilchk, x_nilchk, Nat.zero_add, Nat.add_zero, Nat.mul_one, ↓l_loop, ↓l_succ, ↓l_normal, l_normal, l_exit, l_ret, l_iteN, ↓h_put_get, ↓h_new_get, ↓h_del_get, h_next_put, h_next_new, h_next_del, Nat.add_assoc, Nat.add_eq_left, Nat.left_eq_add, Nat.add_left_cancel_iff, ↓s_load, m_load, ↓m_load1, m_load1, ↓m_st, m_stE, m_storeI, w_zero, w_succ, ↓s_alloc, ↓x_idxA, ↓x_idxS, x_idxAE, x_idxSE, x_addrE, x_idx, x_lenS, ↓s_len, ↓x_buildS, x_buildE, ↓x_P0, ↓x_P1, x_fill0, x_filli, x_fills, x_fillb, c_int, List.length_cons, List.length_nil, List.cons_append, List.drop_succ_cons, List.drop_zero, List.drop_nil, List.nil_append, Int.reduceAdd, Int.reduceToNat, Int.reduceLT, Int.reduceLE, Nat.reduceAdd, Nat.reduceMul, Nat.reduceLeDiff, Int.reduceEq, Int.reduceSub, Int.cast_ofNat_Int, s_resc, s_consR, m_load4, m_store4, s_res0, ↓s_skip, ↓s_ops, ↓s_dops, ↓s_seq, ↓s_cond, ↓s_block, ↓s_exit, ↓s_ret, ↓s_scope, ↓s_nil, ↓s_op, ↓s_opg, ↓s_wanted', ↓s_wantV, s_wantV, s_wantV0, beq_true, beq_false, ↓s_bindS, s_bindS, ↓s_bindE, s_bindE, s_bindE_ret, s_bindE_exit, s_bindE_iteN, s_norm, ↓s_condV, s_condV, s_block_ret, s_block_normal, s_block_exit, s_block_iteN, ↓s_getp, ↓s_getp0, ↓s_get, s_get0, ↓s_con, ↓s_fn, ↓s_os0, ↓s_os1, ↓s_list0, ↓s_list1, ↓s_mov, ↓s_pick, ↓s_pickE, s_pickE, ↓s_bin, ↓s_un, ↓s_minmax, ↓s_call, ↓s_callv, ↓s_callV, ↓s_ext, s_same, b_eql, b_neq, b_lss, b_leq, b_gtr, b_geq, b_add, b_sub, b_mul, b_eqlb, b_neqb, b_fnil, b_fnil', b_fnil2, b_fnil2', u_neg, u_not, m_two, s_end, s_end', s_end_iteN, s_res0, s_res1, s_tup1, s_tup2, ↓iteN_true, ↓iteN_false, iteN_true, iteN_false, Nat.zero_add, List.nil_append, List.append_nil, Nat.reduceEqDiff, reduceIte, decide_true, decide_false, Bool.not_true, Bool.not_false, List.getElem?_cons_zero, List.getElem?_cons_succ, Bool.false_eq_true, if_true, if_false, beq_self_eq_true]
        exact rfl, ⟨i1, Eq.trans (by (simp only [s_getp, s_getp0, Nat.reduceEqDiff, decide_false, decide_true, iteN_false, iteN_true])) t1, by rw [en]; exact Eq.trans (by (simp only [s_getp, s_getp0, Nat.reduceEqDiff, decide_false, decide_true, iteN_false, iteN_true])) t2, (by (simp only [s_getp, s_getp0, Nat.reduceEqDiff, decide_false, decide_true, iteN_false, iteN_true, t3]; try rfl)), Eq.trans (by (simp only [s_getp, s_getp0, Nat.reduceEqDiff, decide_false, decide_true, iteN_false, iteN_true])) k0, Eq.trans (by (simp only [s_getp, s_getp0, Nat.reduceEqDiff, decide_false, decide_true, iteN_false, iteN_true])) k2, Eq.trans (by (simp only [s_getp, s_getp0, Nat.reduceEqDiff, decide_false, decide_true, iteN_false, iteN_true])) k11, Eq.trans (by (simp only [s_getp, s_getp0, Nat.reduceEqDiff, decide_false, decide_true, iteN_false, iteN_true])) k12, Eq.trans (by (simp only [s_getp, s_getp0, Nat.reduceEqDiff, decide_false, decide_true, iteN_false, iteN_true])) k71, Eq.trans (by (simp only [s_getp, s_getp0, Nat.reduceEqDiff, decide_false, decide_true, iteN_false, iteN_true])) k72, ⟨cur.set i y', h_put_same _ _ _, ls⟩, eq.put _⟩⟩) (fun T h I => by
      obtain ⟨il, t1, t2, t3, k0, k2, k11, k12, k71, k72, gq, eq⟩ := I
      have c0 : decide ((w.length : Int) < (w.length : Int)) = false := decide_eq_false (by omega)
      refine ⟨_, _, by
        simp (config := {maxSteps := 2000000}) (disch := first | omega | (simp only [List.length_cons, List.length_nil, List.length_append, List.length_drop]; omega)) only [L_purserlaw10_OpsJoin_0, t2, t3, c0, ↓b_xor32, ↓b_and32, ↓b_or32, ↓u_not32, b_xor32, b_and32, b_or32, u_not32, w32ad, ↓x_conv, x_convV, ↓x_fieldAddr, x_fieldV, ↓s_nilchk, x_nilchk, Nat.zero_add, Nat.add_zero, Nat.mul_one, ↓l_loop, ↓l_succ, ↓l_normal, l_normal, l_exit, l_ret, l_iteN, ↓h_put_get, ↓h_new_get, ↓h_del_get, h_next_put, h_next_new, h_next_del, Nat.add_assoc, Nat.add_eq_left, Nat.left_eq_add, Nat.add_left_cancel_iff, ↓s_load, m_load, ↓m_load1, m_load1, ↓m_st, m_stE, m_storeI, m_storeE, w_zero, w_succ, ↓s_alloc, ↓x_idxA, ↓x_idxS, x_idxAE, x_idxSE, x_addrE, x_idx, x_lenS, ↓s_len, ↓x_buildS, x_buildE, ↓x_P0, ↓x_P1, x_fill0, x_filli, x_fills, x_fillb, c_int, List.length_cons, List.length_nil, List.cons_append, List.drop_succ_cons, List.drop_zero, List.drop_nil, List.nil_append, Int.reduceAdd, Int.reduceToNat, Int.reduceLT, Int.reduceLE, Nat.reduceAdd, Nat.reduceMul, Nat.reduceLeDiff, Int.reduceEq, Int.reduceSub, Int.cast_ofNat_Int, s_resc, s_consR, m_load4, m_store4, s_res0, ↓s_skip, ↓s_ops, ↓s_dops, ↓s_seq, ↓s_cond, ↓s_block, ↓s_exit, ↓s_ret, ↓s_scope, ↓s_nil, ↓s_op, ↓s_opg, ↓s_wanted', ↓s_wantV, s_wantV, s_wantV0, beq_true, beq_false, ↓s_bindS, s_bindS, ↓s_bindE, s_bindE, s_bindE_ret, s_bindE_exit, s_bindE_iteN, s_norm, ↓s_condV, s_condV, s_block_ret, s_block_normal, s_block_exit, s_block_iteN, ↓s_getp, ↓s_getp0, ↓s_get, s_get0, ↓s_con, ↓s_fn, ↓s_os0, ↓s_os1, ↓s_list0, ↓s_list1, ↓s_mov, ↓s_pick, ↓s_pickE, s_pickE, ↓s_bin, ↓s_un, ↓s_minmax, ↓s_call, ↓s_callv, ↓s_callV, ↓s_ext, s_same, b_eql, b_neq, b_lss, b_leq, b_gtr, b_geq, b_add, b_sub, b_mul, b_eqlb, b_neqb, b_fnil, b_fnil', b_fnil2, b_fnil2', u_neg, u_not, m_two, s_end, s_end', s_end_iteN, s_res0, s_res1, s_tup1, s_tup2, ↓iteN_true, ↓iteN_false, iteN_true, iteN_false, Nat.zero_add, List.nil_append, List.append_nil, Nat.reduceEqDiff, reduceIte, decide_true, decide_false, Bool.not_true, Bool.not_false, List.getElem?_cons_zero, List.getElem?_cons_succ, Bool.false_eq_true, if_true, if_false, beq_self_eq_true]
        exact rfl, ⟨il, Eq.trans (by (simp only [s_getp, s_getp0, Nat.reduceEqDiff, decide_false, decide_true, iteN_false, iteN_true])) t1, Eq.trans (by (simp only [s_getp, s_getp0, Nat.reduceEqDiff, decide_false, decide_true, iteN_false, iteN_true])) t2, Eq.trans (by (simp only [s_getp, s_getp0, Nat.reduceEqDiff, decide_false, decide_true, iteN_false, iteN_true])) t3, Eq.trans (by (simp only [s_getp, s_getp0, Nat.reduceEqDiff, decide_false, decide_true, iteN_false, iteN_true])) k0, Eq.trans (by (simp only [s_getp, s_getp0, Nat.reduceEqDiff, decide_false, decide_true, iteN_false, iteN_true])) k2, Eq.trans (by (simp only [s_getp, s_getp0, Nat.reduceEqDiff, decide_false, decide_true, iteN_false, iteN_true])) k11, Eq.trans (by (simp only [s_getp, s_getp0, Nat.reduceEqDiff, decide_false, decide_true, iteN_false, iteN_true])) k12, Eq.trans (by (simp only [s_getp, s_getp0, Nat.reduceEqDiff, decide_false, decide_true, iteN_false, iteN_true])) k71, Eq.trans (by (simp only [s_getp, s_getp0, Nat.reduceEqDiff, decide_false, decide_true, iteN_false, iteN_true])) k72, gq, eq⟩⟩) w.length 0 (by omega) m (by omega) T0 h0 ⟨by omega, rfl, tn, ti, rfl, rfl, rfl, rfl, rfl, rfl, ⟨w, g, rfl⟩, .refl _ _⟩
    exact ⟨T', h', r, ⟨J.eq.1, fun j hj => J.eq.2 j (fun e => hj hne (by rw [e]))⟩, J.k0, J.k2, J.k11, J.k12, J.k71, J.k72⟩

structure oj2I (T0 : Tr V) (q len : Nat) (md : Md) (h0 : H) (i : Nat) (T : Tr V) (h : H) : Prop where
  il : i ≤ len
  ts : evO T (.t 18) = evO T0 (.t 18)
  tn : evO T (.t 142) = .int .i64 (len : Int)
  ti : evO T (.t 143) = .int .i64 (i : Int)
  k19 : evO T (.t 19) = evO T0 (.t 19)
  k20 : evO T (.t 20) = evO T0 (.t 20)
  k21 : evO T (.t 21) = evO T0 (.t 21)
  k22 : evO T (.t 22) = evO T0 (.t 22)
  g : ∃ cur, h.get q = some (.cells (ofI .u8 cur) md) ∧ cur.length = len
  eq : Eqx q h0 h
/-- every byte of a slice is one greater behind it: nothing else is another one -/
theorem oj2_go (Q : Orc) (m : Nat) (T0 : Tr V) (h0 : H) (w : List Nat) (hw : w.length ≤ 1000000) (hm : w.length < m) (a : Option (Nat × Nat)) (c : Option Nat) (e : Nat) (wb : Ow h0 w a e) (ts : evO T0 (.t 18) = .slice a w.length c e) (tn : evO T0 (.t 142) = .int .i64 (w.length : Int)) (ti : evO T0 (.t 143) = .int .i64 0) :
    ∃ T' h', loopN (evC Q 163 m none L_purserlaw10_OpsJoin_2) m ⟨T0, [], h0⟩ = some (.exit 4, ⟨T', [], h'⟩) ∧ (h'.next = h0.next ∧ ∀ j, (w ≠ [] → a ≠ some (j, 0)) → h'.get j = h0.get j) ∧ evO T' (.t 19) = evO T0 (.t 19) ∧ evO T' (.t 20) = evO T0 (.t 20) ∧ evO T' (.t 21) = evO T0 (.t 21) ∧ evO T' (.t 22) = evO T0 (.t 22) := by
  rcases (show w = [] ∨ (w ≠ [] ∧ Ow h0 w a e) from (Classical.em (w = [])).imp id (fun h => ⟨h, wb⟩)) with rfl | ⟨hne, wb⟩
  · obtain ⟨m, rfl⟩ : ∃ k, m = k + 1 := ⟨m - 1, by omega⟩
    rw [l_succ]
    have c0 : decide ((0 : Int) < ((0 : Nat) : Int)) = false := rfl
    have c1 : decide ((0 : Int) < 0) = false := rfl
    rw [List.length_nil] at tn
    refine ⟨_, h0, by
      simp (config := {maxSteps := 2000000}) (disch := first | omega | (simp only [List.length_cons, List.length_nil, List.length_append, List.length_drop]; omega)) only [L_purserlaw10_OpsJoin_2, tn, ti, c0, c1, ↓b_xor32, ↓b_and32, ↓b_or32, ↓u_not32, b_xor32, b_and32, b_or32, u_not32, w32ad, ↓x_conv, x_convV, ↓x_fieldAddr, x_fieldV, ↓s_nilchk, x_nilchk, Nat.zero_add, Nat.add_zero, Nat.mul_one, ↓l_loop, ↓l_succ, ↓l_normal, l_normal, l_exit, l_ret, l_iteN, ↓h_put_get, ↓h_new_get, ↓h_del_get, h_next_put, h_next_new, h_next_del, Nat.add_assoc, Nat.add_eq_left, Nat.left_eq_add, Nat.add_left_cancel_iff, ↓s_load, m_load, ↓m_load1, m_load1, ↓m_st, m_stE, m_storeI, m_storeE, w_zero, w_succ, ↓s_alloc, ↓x_idxA, ↓x_idxS, x_idxAE, x_idxSE, x_addrE, x_idx, x_lenS, ↓s_len, ↓x_buildS, x_buildE, ↓x_P0, ↓x_P1, x_fill0, x_filli, x_fills, x_fillb, c_int, List.length_cons, List.length_nil, List.cons_append, List.drop_succ_cons, List.drop_zero, List.drop_nil, List.nil_append, Int.reduceAdd, Int.reduceToNat, Int.reduceLT, Int.reduceLE, Nat.reduceAdd, Nat.reduceMul, Nat.reduceLeDiff, Int.reduceEq, Int.reduceSub, Int.cast_ofNat_Int, s_resc, s_consR, m_load4, m_store4, s_res0, ↓s_skip, ↓s_ops, ↓s_dops, ↓s_seq, ↓s_cond, ↓s_block, ↓s_exit, ↓s_ret, ↓s_scope, ↓s_nil, ↓s_op, ↓s_opg, ↓s_wanted', ↓s_wantV, s_wantV, s_wantV0, beq_true, beq_false, ↓s_bindS, s_bindS, ↓s_bindE, s_bindE, s_bindE_ret, s_bindE_exit, s_bindE_iteN, s_norm, ↓s_condV, s_condV, s_block_ret, s_block_normal, s_block_exit, s_block_iteN, ↓s_getp, ↓s_getp0, ↓s_get, s_get0, ↓s_con, ↓s_fn, ↓s_os0, ↓s_os1, ↓s_list0, ↓s_list1, ↓s_mov, ↓s_pick, ↓s_pickE, s_pickE, ↓s_bin, ↓s_un, ↓s_minmax, ↓s_call, ↓s_callv, ↓s_callV, ↓s_ext, s_same, b_eql, b_neq, b_lss, b_leq, b_gtr, b_geq, b_add, b_sub, b_mul, b_eqlb, b_neqb, b_fnil, b_fnil', b_fnil2, b_fnil2', u_neg, u_not, m_two, s_end, s_end', s_end_iteN, s_res0, s_res1, s_tup1, s_tup2, ↓iteN_true, ↓iteN_false, iteN_true, iteN_false, Nat.zero_add, List.nil_append, List.append_nil, Nat.reduceEqDiff, reduceIte, decide_true, decide_false, Bool.not_true, Bool.not_false, List.getElem?_cons_zero, List.getElem?_cons_succ, Bool.false_eq_true, if_true, if_false, beq_self_eq_true]
      exact rfl, ⟨rfl, fun _ _ => rfl⟩, by (simp only [s_getp, s_getp0, Nat.reduceEqDiff, decide_false, decide_true, iteN_false, iteN_true]), by (simp only [s_getp, s_getp0, Nat.reduceEqDiff, decide_false, decide_true, iteN_false, iteN_true]), by (simp only [s_getp, s_getp0, Nat.reduceEqDiff, decide_false, decide_true, iteN_false, iteN_true]), by (simp only [s_getp, s_getp0, Nat.reduceEqDiff, decide_false, decide_true, iteN_false, iteN_true])⟩
  · obtain ⟨q, md, rfl, rfl, g, hmd, hq⟩ := wb.resolve_left hne
    obtain ⟨T', h', r, J⟩ := loop_go (f := evC Q 163 m none L_purserlaw10_OpsJoin_2) (oj2I T0 q w.length md h0) w.length (.exit 4) (by intro h; cases h) (oj2I T0 q w.length md h0 w.length) (fun i T h hi I => by
      obtain ⟨_, t1, t2, t3, k19, k20, k21, k22, ⟨cur, gq, lc⟩, eq⟩ := I
      have t1' := t1.trans ts
      have c0 : decide ((i : Int) < (w.length : Int)) = true := decide_eq_true (by omega)
      have wi : wr .i64 ((i : Int) + 1) = ((i + 1 : Nat) : Int) := by rw [wr_i64 (by omega)]; omega
      have ix : idx (i : Int) w.length = some i := idxn hi
      have cg : (ofI .u8 cur)[i]? = some (.int .u8 (cur.getD i 0 : Nat)) := ofI_get _ _ _ (by omega)
      have w8 : wr .u8 (((cur.getD i 0 : Nat) : Int) + 1) = (((cur.getD i 0 + 1) % 256 : Nat) : Int) := w8n (cur.getD i 0 + 1)
      generalize cur.getD i 0 = y at *
      generalize (y + 1) % 256 = y' at *
      have ste := fun (h : H) (v : V) => stAny .u8 cur [v] md hmd h q i (by simp only [List.length_cons, List.length_nil]; omega)
      have su := wr1I .u8 cur i y' (by omega)
      have i1 : i + 1 ≤ w.length := hi
      have ls : (cur.set i y').length = w.length := by rw [List.length_set, lc]
      obtain ⟨n, en⟩ : ∃ n, w.length = n := ⟨_, rfl⟩
      rw [en] at t1' t2 c0 ix
      refine ⟨_, _, by
        simp (config := {maxSteps := 2000000}) (disch := first | omega | (simp only [List.length_cons, List.length_nil, List.length_append, List.length_drop]; omega)) only [L_purserlaw10_OpsJoin_2, t1', t2, t3, gq, cg, c0, wi, ix, w8, ste, su, ↓b_xor32, ↓b_and32, ↓b_or32, ↓u_not32, b_xor32, b_and32, b_or32, u_not32, w32ad, ↓x_conv, x_convV, ↓x_fieldAddr, x_fieldV, ↓s_nilchk, x_nilchk, Nat.zero_add, Nat.add_zero, Nat.mul_one, ↓l_loop, ↓l_succ, ↓l_normal, l_normal, l_exit, l_ret, l_iteN, ↓h_put_get, ↓h_new_get, ↓h_del_get, h_next_put, h_next_new, h_next_del, Nat.add_assoc, Nat.add_eq_left, Nat.left_eq_add, Nat.add_left_cancel_iff, ↓s_load, m_load, ↓m_load1, m_load1, ↓m_st, m_stE, m_storeI, w_zero, w_succ, ↓s_alloc, ↓x_idxA, ↓x_idxS, x_idxAE, x_idxSE, x_addrE, x_idx, x_lenS, ↓s_len, ↓x_buildS, x_buildE, ↓x_P0, ↓x_P1, x_fill0, x_filli, x_fills, x_fillb, c_int, List.length_cons, List.length_nil, List.cons_append, List.drop_succ_cons, List.drop_zero, List.drop_nil, List.nil_append, Int.reduceAdd, Int.reduceToNat, Int.reduceLT, Int.reduceLE, Nat.reduceAdd, Nat.reduceMul, Nat.reduceLeDiff, Int.reduceEq, Int.reduceSub, Int.cast_ofNat_Int, s_resc, s_consR, m_load4, m_store4, s_res0, ↓s_skip, ↓s_ops, ↓s_dops, ↓s_seq, ↓s_cond, ↓s_block, ↓s_exit, ↓s_ret, ↓s_scope, ↓s_nil, ↓s_op, ↓s_opg, ↓s_wanted', ↓s_wantV, s_wantV, s_wantV0, beq_true, beq_false, ↓s_bindS, s_bindS, ↓s_bindE, s_bindE, s_bindE_ret, s_bindE_exit, s_bindE_iteN, s_norm, ↓s_condV, s_condV, s_block_ret, s_block_normal, s_block_exit, s_block_iteN, ↓s_getp, ↓s_getp0, ↓s_get, s_get0, ↓s_con, ↓s_fn, ↓s_os0, ↓s_os1, ↓s_list0, ↓s_list1, ↓s_mov, ↓s_pick, ↓s_pickE, s_pickE, ↓s_bin, ↓s_un, ↓s_minmax, ↓s_call, ↓s_callv, ↓s_callV, ↓s_ext, s_same, b_eql, b_neq, b_lss, b_leq, b_gtr, b_geq, b_add, b_sub, b_mul, b_eqlb, b_neqb, b_fnil, b_fnil', b_fnil2, b_fnil2', u_neg, u_not, m_two, s_end, s_end', s_end_iteN, s_res0, s_res1, s_tup1, s_tup2, ↓iteN_true, ↓iteN_false, iteN_true, iteN_false, Nat.zero_add, List.nil_append, List.append_nil, Nat.reduceEqDiff, reduceIte, decide_true, decide_false, Bool.not_true, Bool.not_false, List.getElem?_cons_zero, List.getElem?_cons_succ, Bool.false_eq_true, if_true, if_false, beq_self_eq_true]
        exact rfl, ⟨i1, Eq.trans (by (simp only [s_getp, s_getp0, Nat.reduceEqDiff, decide_false, decide_true, iteN_false, iteN_true])) t1, by rw [en]; exact Eq.trans (by (simp only [s_getp, s_getp0, Nat.reduceEqDiff, decide_false, decide_true, iteN_false, iteN_true])) t2, (by (simp only [s_getp, s_getp0, Nat.reduceEqDiff, decide_false, decide_true, iteN_false, iteN_true, t3]; try rfl)), Eq.trans (by (simp only [s_getp, s_getp0, Nat.reduceEqDiff, decide_false, decide_true, iteN_false, iteN_true])) k19, Eq.trans (by (simp only [s_getp, s_getp0, Nat.reduceEqDiff, decide_false, decide_true, iteN_false, iteN_true])) k20, Eq.trans (by (simp only [s_getp, s_getp0, Nat.reduceEqDiff, decide_false, decide_true, iteN_false, iteN_true])) k21, Eq.trans (by (simp only [s_getp, s_getp0, Nat.reduceEqDiff, decide_false, decide_true, iteN_false, iteN_true])) k22, ⟨cur.set i y', h_put_same _ _ _, ls⟩, eq.put _⟩⟩) (fun T h I => by
      obtain ⟨il, t1, t2, t3, k19, k20, k21, k22, gq, eq⟩ := I
      have c0 : decide ((w.length : Int) < (w.length : Int)) = false := decide_eq_false (by omega)
      refine ⟨_, _, by
        simp (config := {maxSteps := 2000000}) (disch := first | omega | (simp only [List.length_cons, List.length_nil, List.length_append, List.length_drop]; omega)) only [L_purserlaw10_OpsJoin_2, t2, t3, c0, ↓b_xor32, ↓b_and32, ↓b_or32, ↓u_not32, b_xor32, b_and32, b_or32, u_not32, w32ad, ↓x_conv, x_convV, ↓x_fieldAddr, x_fieldV, ↓s_nilchk, x_nilchk, Nat.zero_add, Nat.add_zero, Nat.mul_one, ↓l_loop, ↓l_succ, ↓l_normal, l_normal, l_exit, l_ret, l_iteN, ↓h_put_get, ↓h_new_get, ↓h_del_get, h_next_put, h_next_new, h_next_del, Nat.add_assoc, Nat.add_eq_left, Nat.left_eq_add, Nat.add_left_cancel_iff, ↓s_load, m_load, ↓m_load1, m_load1, ↓m_st, m_stE, m_storeI, m_storeE, w_zero, w_succ, ↓s_alloc, ↓x_idxA, ↓x_idxS, x_idxAE, x_idxSE, x_addrE, x_idx, x_lenS, ↓s_len, ↓x_buildS, x_buildE, ↓x_P0, ↓x_P1, x_fill0, x_filli, x_fills, x_fillb, c_int, List.length_cons, List.length_nil, List.cons_append, List.drop_succ_cons, List.drop_zero, List.drop_nil, List.nil_append, Int.reduceAdd, Int.reduceToNat, Int.reduceLT, Int.reduceLE, Nat.reduceAdd, Nat.reduceMul, Nat.reduceLeDiff, Int.reduceEq, Int.reduceSub, Int.cast_ofNat_Int, s_resc, s_consR, m_load4, m_store4, s_res0, ↓s_skip, ↓s_ops, ↓s_dops, ↓s_seq, ↓s_cond, ↓s_block, ↓s_exit, ↓s_ret, ↓s_scope, ↓s_nil, ↓s_op, ↓s_opg, ↓s_wanted', ↓s_wantV, s_wantV, s_wantV0, beq_true, beq_false, ↓s_bindS, s_bindS, ↓s_bindE, s_bindE, s_bindE_ret, s_bindE_exit, s_bindE_iteN, s_norm, ↓s_condV, s_condV, s_block_ret, s_block_normal, s_block_exit, s_block_iteN, ↓s_getp, ↓s_getp0, ↓s_get, s_get0, ↓s_con, ↓s_fn, ↓s_os0, ↓s_os1, ↓s_list0, ↓s_list1, ↓s_mov, ↓s_pick, ↓s_pickE, s_pickE, ↓s_bin, ↓s_un, ↓s_minmax, ↓s_call, ↓s_callv, ↓s_callV, ↓s_ext, s_same, b_eql, b_neq, b_lss, b_leq, b_gtr, b_geq, b_add, b_sub, b_mul, b_eqlb, b_neqb, b_fnil, b_fnil', b_fnil2, b_fnil2', u_neg, u_not, m_two, s_end, s_end', s_end_iteN, s_res0, s_res1, s_tup1, s_tup2, ↓iteN_true, ↓iteN_false, iteN_true, iteN_false, Nat.zero_add, List.nil_append, List.append_nil, Nat.reduceEqDiff, reduceIte, decide_true, decide_false, Bool.not_true, Bool.not_false, List.getElem?_cons_zero, List.getElem?_cons_succ, Bool.false_eq_true, if_true, if_false, beq_self_eq_true]
        exact rfl, ⟨il, Eq.trans (by (simp only [s_getp, s_getp0, Nat.reduceEqDiff, decide_false, decide_true, iteN_false, iteN_true])) t1, Eq.trans (by (simp only [s_getp, s_getp0, Nat.reduceEqDiff, decide_false, decide_true, iteN_false, iteN_true])) t2, Eq.trans (by (simp only [s_getp, s_getp0, Nat.reduceEqDiff, decide_false, decide_true, iteN_false, iteN_true])) t3, Eq.trans (by (simp only [s_getp, s_getp0, Nat.reduceEqDiff, decide_false, decide_true, iteN_false, iteN_true])) k19, Eq.trans (by (simp only [s_getp, s_getp0, Nat.reduceEqDiff, decide_false, decide_true, iteN_false, iteN_true])) k20, Eq.trans (by (simp only [s_getp, s_getp0, Nat.reduceEqDiff, decide_false, decide_true, iteN_false, iteN_true])) k21, Eq.trans (by (simp only [s_getp, s_getp0, Nat.reduceEqDiff, decide_false, decide_true, iteN_false, iteN_true])) k22, gq, eq⟩⟩) w.length 0 (by omega) m (by omega) T0 h0 ⟨by omega, rfl, tn, ti, rfl, rfl, rfl, rfl, ⟨w, g, rfl⟩, .refl _ _⟩
    exact ⟨T', h', r, ⟨J.eq.1, fun j hj => J.eq.2 j (fun e => hj hne (by rw [e]))⟩, J.k19, J.k20, J.k21, J.k22⟩
end Go.Eng
