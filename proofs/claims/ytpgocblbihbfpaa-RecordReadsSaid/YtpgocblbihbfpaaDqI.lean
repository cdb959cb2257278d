/- What functions of the program come to: own work. -/
import Derived.Test.YtpgocblbihbfpaaDqE
namespace Go.Eng
open Go
variable {E : Nat → Option Fn} {X : Orc}
set_option linter.unusedSimpArgs false
set_option linter.unusedVariables false
theorem rr_at2 {h : H} {ops : List Rq} {a : Option (Nat × Nat)} {e : Nat} (r : RrS h ops a e) (i : Nat) (o : Rq) (ho : ops[i]? = some o) : ∃ q off vs md b cb eb, a = some (q, off) ∧ e = 2 ∧ q < h.next ∧ h.get q = some (.cells vs md) ∧ vs[off + i * 2]? = some (.int .i64 o.kind) ∧ vs[off + (i * 2 + 1)]? = some (.slice b o.l.length cb eb) ∧ SrcH h b eb o.l := by
  rcases r with r | ⟨q, off, vs, md, e1, e2, hq, g, hl, at_⟩
  · rw [r] at ho; simp at ho
  · obtain ⟨b, cb, eb, e3, s⟩ := at_ i o ho
    have h0 : ((vs.drop (off + i * 2)).take 2)[0]? = some (.int .i64 o.kind) := by rw [e3]; rfl
    have h1 : ((vs.drop (off + i * 2)).take 2)[1]? = some (.slice b o.l.length cb eb) := by rw [e3]; rfl
    rw [List.getElem?_take_of_lt (by omega), List.getElem?_drop] at h0 h1
    exact ⟨q, off, vs, md, b, cb, eb, e1, e2, hq, g, h0, by rw [Nat.add_assoc] at h1; exact h1, s⟩
structure DsI (va vb : V) (n : Nat) (h0 : H) (i : Nat) (T : Tr V) (h : H) : Prop where
  il : i ≤ n
  t0 : evO T (.t 0) = va
  t1 : evO T (.t 1) = vb
  t5 : evO T (.t 5) = .int .i64 (i : Int)
  hh : h = h0
theorem ds_round (Q : Orc) (m : Nat) (as bs : List Rq) (hl : as.length = bs.length) (hn : as.length ≤ 1000000) (ok : ∀ o ∈ as, o.ok) (pk : ∀ o ∈ bs, o.ok) (a b : Option (Nat × Nat)) (c d : Option Nat) (ea eb : Nat) (h0 : H) (ra : RrS h0 as a ea) (rb : RrS h0 bs b eb) (i : Nat) (T : Tr V) (h : H) (o p : Rq) (ho : as[i]? = some o) (hp : bs[i]? = some p) (I : DsI (.slice a as.length c ea) (.slice b bs.length d eb) as.length h0 i T h) :
    ∃ T', (o = p → evC Q 43 m none L_purserref16_Same_0 ⟨T, [], h⟩ = some (.normal, ⟨T', [], h⟩) ∧ DsI (.slice a as.length c ea) (.slice b bs.length d eb) as.length h0 (i + 1) T' h) ∧ (o ≠ p → evC Q 43 m none L_purserref16_Same_0 ⟨T, [], h⟩ = some (.ret, ⟨T', [], h⟩) ∧ evO T' (.t 4) = .bool false) := by
  have hi : i < as.length := (List.getElem?_eq_some_iff.1 ho).1
  obtain ⟨_, t0, t1, t5, rfl⟩ := I
  have c0 : decide ((i : Int) < (as.length : Int)) = true := decide_eq_true (by omega)
  have wi : wr .i64 ((i : Int) + 1) = ((i + 1 : Nat) : Int) := by rw [wr_i64 (by omega)]; omega
  have ix : idx (i : Int) as.length = some i := idxn hi
  have ix2 : idx (i : Int) bs.length = some i := idxn (by omega)
  obtain ⟨q, off, vs, md, b1, cb1, eb1, rfl, rfl, hq, gq', cg0, cg1, sb⟩ := rr_at2 ra i o ho
  obtain ⟨q2, off2, vs2, md2, b2, cb2, eb2, rfl, rfl, hq2, gq2, cg2, cg3, sb2⟩ := rr_at2 rb i p hp
  have ok1 := ok o (List.mem_of_getElem? ho)
  have pk1 := pk p (List.mem_of_getElem? hp)
  have s1 := str_src sb ok1.bl cb1
  have s2 := str_src sb2 pk1.bl cb2
  have i1 : i + 1 ≤ as.length := hi
  obtain ⟨n, en⟩ : ∃ n, as.length = n := ⟨_, rfl⟩
  obtain ⟨n2, en2⟩ : ∃ n, bs.length = n := ⟨_, rfl⟩
  obtain ⟨l1, el1⟩ : ∃ n, o.l.length = n := ⟨_, rfl⟩
  obtain ⟨l2, el2⟩ : ∃ n, p.l.length = n := ⟨_, rfl⟩
  rw [en] at t0 c0 ix
  rw [en2] at t1 ix2
  rw [el1] at cg1 s1
  rw [el2] at cg3 s2
  by_cases ec : o.kind = p.kind
  · have d0 : decide (o.kind = p.kind) = true := decide_eq_true ec
    by_cases elo : o.l = p.l
    · have eo : o = p := by cases o; cases p; simp_all
      have d1 : decide (o.l = p.l) = true := decide_eq_true elo
      obtain ⟨T', r, u0, u1, u5⟩ : ∃ T', evC Q 43 m none L_purserref16_Same_0 ⟨T, [], h⟩ = some (.normal, ⟨T', [], h⟩) ∧ evO T' (.t 0) = .slice (some (q, off)) n c 2 ∧ evO T' (.t 1) = .slice (some (q2, off2)) n2 d 2 ∧ evO T' (.t 5) = .int .i64 ((i + 1 : Nat) : Int) := by
        exact ⟨_, by
          simp (config := {maxSteps := 2000000}) (disch := first | omega | (simp only [List.length_cons, List.length_nil, List.length_append, List.length_drop]; omega)) only [L_purserref16_Same_0, t0, t1, t5, gq', gq2, cg0, cg1, cg2, cg3, s1, s2, d0, d1, c0, wi, ix, ix2, b_sneq, Bool.not_true, ↓ns_b2s, ↓s_len, x_lenS, ↓b_xor32, ↓b_and32, ↓b_or32, ↓u_not32, b_xor32, b_and32, b_or32, u_not32, w32ad, ↓x_conv, x_convV, ↓x_fieldAddr, x_fieldV, ↓s_nilchk, x_nilchk, Nat.zero_add, Nat.add_zero, Nat.mul_one, ↓s_evD, ↓s_dnil, ↓s_dL, ↓s_dLg, ↓s_dR, ↓s_dRg, ↓s_dRj, ↓s_dRjg, ↓s_dB, ↓s_dBg, ↓s_dAlloc, ↓s_bindD, s_bindD, s_finD, s_finDx, s_addP0, s_addP1, s_addB, s_lookP, ↓s_bump0, ↓s_bump_get, s_bump_next, s_ok0, ↓s_ok1, s_okR0, ↓s_okR1, ↓s_okE, s_okE, s_okE1, s_nth0, s_nthS, Nat.add_zero, Bool.and_self, Bool.and_true, Bool.true_and, ↓l_loop, ↓l_succ, ↓l_normal, l_normal, l_exit, l_ret, l_iteN, ↓h_put_get, ↓h_new_get, ↓h_del_get, h_next_put, h_next_new, h_next_del, Nat.add_assoc, Nat.add_eq_left, Nat.left_eq_add, Nat.add_left_cancel_iff, ↓s_load, m_load, ↓m_load1, m_load1, ↓m_st, m_stE, m_storeI, m_storeE, w_zero, w_succ, ↓s_alloc, ↓x_idxA, ↓x_idxS, x_idxAE, x_idxSE, x_addrE, x_idx, x_lenS, ↓s_len, ↓x_buildS, x_buildE, ↓x_P0, ↓x_P1, x_fill0, x_filli, x_fills, x_fillb, c_int, List.length_cons, List.length_nil, List.cons_append, List.drop_succ_cons, List.drop_zero, List.drop_nil, List.nil_append, Int.reduceAdd, Int.reduceToNat, Int.reduceLT, Int.reduceLE, Nat.reduceAdd, Nat.reduceMul, Nat.reduceLeDiff, Int.reduceEq, Int.reduceSub, Int.cast_ofNat_Int, s_resc, s_consR, m_load4, m_store4, s_res0, ↓s_skip, ↓s_ops, ↓s_dops, ↓s_seq, ↓s_cond, ↓s_block, ↓s_exit, ↓s_ret, ↓s_scope, ↓s_nil, ↓s_op, ↓s_opg, ↓s_wanted', ↓s_wantV, s_wantV, s_wantV0, beq_true, beq_false, ↓s_bindS, s_bindS, ↓s_bindE, s_bindE, s_bindE_ret, s_bindE_exit, s_bindE_iteN, s_norm, ↓s_condV, s_condV, s_block_ret, s_block_normal, s_block_exit, s_block_iteN, ↓s_getp, ↓s_getp0, ↓s_get, s_get0, ↓s_con, ↓s_fn, ↓s_os0, ↓s_os1, ↓s_list0, ↓s_list1, ↓s_mov, ↓s_pick, ↓s_pickE, s_pickE, ↓s_bin, ↓s_un, ↓s_minmax, ↓s_call, ↓s_callv, ↓s_callV, ↓s_ext, s_same, b_eql, b_neq, b_lss, b_leq, b_gtr, b_geq, b_add, b_sub, b_mul, b_eqlb, b_neqb, b_fnil, b_fnil', b_fnil2, b_fnil2', u_neg, u_not, m_two, s_end, s_end', s_end_iteN, s_res0, s_res1, s_tup1, s_tup2, ↓iteN_true, ↓iteN_false, iteN_true, iteN_false, Nat.zero_add, List.nil_append, List.append_nil, Nat.reduceEqDiff, reduceIte, decide_true, decide_false, Bool.not_true, Bool.not_false, List.getElem?_cons_zero, List.getElem?_cons_succ, Bool.false_eq_true, if_true, if_false, beq_self_eq_true]
          exact rfl, (by (simp only [s_getp, s_getp0, Nat.reduceEqDiff, decide_false, decide_true, iteN_false, iteN_true, t0]; try rfl)), (by (simp only [s_getp, s_getp0, Nat.reduceEqDiff, decide_false, decide_true, iteN_false, iteN_true, t1]; try rfl)), (by (simp only [s_getp, s_getp0, Nat.reduceEqDiff, decide_false, decide_true, iteN_false, iteN_true, t5]; try rfl))⟩
      exact ⟨T', fun _ => ⟨r, i1, by rw [en]; exact u0, by rw [en2]; exact u1, u5, rfl⟩, fun h => absurd eo h⟩
    · have hne : o ≠ p := fun h => elo (by rw [h])
      have d1 : decide (o.l = p.l) = false := decide_eq_false elo
      obtain ⟨T', r, u4⟩ : ∃ T', evC Q 43 m none L_purserref16_Same_0 ⟨T, [], h⟩ = some (.ret, ⟨T', [], h⟩) ∧ evO T' (.t 4) = .bool false := by
        exact ⟨_, by
          simp (config := {maxSteps := 2000000}) (disch := first | omega | (simp only [List.length_cons, List.length_nil, List.length_append, List.length_drop]; omega)) only [L_purserref16_Same_0, t0, t1, t5, gq', gq2, cg0, cg1, cg2, cg3, s1, s2, d0, d1, c0, wi, ix, ix2, b_sneq, Bool.not_true, Bool.not_false, ↓ns_b2s, ↓s_len, x_lenS, ↓b_xor32, ↓b_and32, ↓b_or32, ↓u_not32, b_xor32, b_and32, b_or32, u_not32, w32ad, ↓x_conv, x_convV, ↓x_fieldAddr, x_fieldV, ↓s_nilchk, x_nilchk, Nat.zero_add, Nat.add_zero, Nat.mul_one, ↓s_evD, ↓s_dnil, ↓s_dL, ↓s_dLg, ↓s_dR, ↓s_dRg, ↓s_dRj, ↓s_dRjg, ↓s_dB, ↓s_dBg, ↓s_dAlloc, ↓s_bindD, s_bindD, s_finD, s_finDx, s_addP0, s_addP1, s_addB, s_lookP, ↓s_bump0, ↓s_bump_get, s_bump_next, s_ok0, ↓s_ok1, s_okR0, ↓s_okR1, ↓s_okE, s_okE, s_okE1, s_nth0, s_nthS, Nat.add_zero, Bool.and_self, Bool.and_true, Bool.true_and, ↓l_loop, ↓l_succ, ↓l_normal, l_normal, l_exit, l_ret, l_iteN, ↓h_put_get, ↓h_new_get, ↓h_del_get, h_next_put, h_next_new, h_next_del, Nat.add_assoc, Nat.add_eq_left, Nat.left_eq_add, Nat.add_left_cancel_iff, ↓s_load, m_load, ↓m_load1, m_load1, ↓m_st, m_stE, m_storeI, m_storeE, w_zero, w_succ, ↓s_alloc, ↓x_idxA, ↓x_idxS, x_idxAE, x_idxSE, x_addrE, x_idx, x_lenS, ↓s_len, ↓x_buildS, x_buildE, ↓x_P0, ↓x_P1, x_fill0, x_filli, x_fills, x_fillb, c_int, List.length_cons, List.length_nil, List.cons_append, List.drop_succ_cons, List.drop_zero, List.drop_nil, List.nil_append, Int.reduceAdd, Int.reduceToNat, Int.reduceLT, Int.reduceLE, Nat.reduceAdd, Nat.reduceMul, Nat.reduceLeDiff, Int.reduceEq, Int.reduceSub, Int.cast_ofNat_Int, s_resc, s_consR, m_load4, m_store4, s_res0, ↓s_skip, ↓s_ops, ↓s_dops, ↓s_seq, ↓s_cond, ↓s_block, ↓s_exit, ↓s_ret, ↓s_scope, ↓s_nil, ↓s_op, ↓s_opg, ↓s_wanted', ↓s_wantV, s_wantV, s_wantV0, beq_true, beq_false, ↓s_bindS, s_bindS, ↓s_bindE, s_bindE, s_bindE_ret, s_bindE_exit, s_bindE_iteN, s_norm, ↓s_condV, s_condV, s_block_ret, s_block_normal, s_block_exit, s_block_iteN, ↓s_getp, ↓s_getp0, ↓s_get, s_get0, ↓s_con, ↓s_fn, ↓s_os0, ↓s_os1, ↓s_list0, ↓s_list1, ↓s_mov, ↓s_pick, ↓s_pickE, s_pickE, ↓s_bin, ↓s_un, ↓s_minmax, ↓s_call, ↓s_callv, ↓s_callV, ↓s_ext, s_same, b_eql, b_neq, b_lss, b_leq, b_gtr, b_geq, b_add, b_sub, b_mul, b_eqlb, b_neqb, b_fnil, b_fnil', b_fnil2, b_fnil2', u_neg, u_not, m_two, s_end, s_end', s_end_iteN, s_res0, s_res1, s_tup1, s_tup2, ↓iteN_true, ↓iteN_false, iteN_true, iteN_false, Nat.zero_add, List.nil_append, List.append_nil, Nat.reduceEqDiff, reduceIte, decide_true, decide_false, Bool.not_true, Bool.not_false, List.getElem?_cons_zero, List.getElem?_cons_succ, Bool.false_eq_true, if_true, if_false, beq_self_eq_true]
          exact rfl, (by (simp only [s_getp, s_getp0, Nat.reduceEqDiff, decide_false, decide_true, iteN_false, iteN_true, t0]; try rfl))⟩
      exact ⟨T', fun h => absurd h hne, fun _ => ⟨r, u4⟩⟩
  · have hne : o ≠ p := fun h => ec (by rw [h])
    have d0 : decide (o.kind = p.kind) = false := decide_eq_false ec
    obtain ⟨T', r, u4⟩ : ∃ T', evC Q 43 m none L_purserref16_Same_0 ⟨T, [], h⟩ = some (.ret, ⟨T', [], h⟩) ∧ evO T' (.t 4) = .bool false := by
      exact ⟨_, by
        simp (config := {maxSteps := 2000000}) (disch := first | omega | (simp only [List.length_cons, List.length_nil, List.length_append, List.length_drop]; omega)) only [L_purserref16_Same_0, t0, t1, t5, gq', gq2, cg0, cg1, cg2, cg3, s1, s2, d0, c0, wi, ix, ix2, b_sneq, Bool.not_true, Bool.not_false, ↓ns_b2s, ↓s_len, x_lenS, ↓b_xor32, ↓b_and32, ↓b_or32, ↓u_not32, b_xor32, b_and32, b_or32, u_not32, w32ad, ↓x_conv, x_convV, ↓x_fieldAddr, x_fieldV, ↓s_nilchk, x_nilchk, Nat.zero_add, Nat.add_zero, Nat.mul_one, ↓s_evD, ↓s_dnil, ↓s_dL, ↓s_dLg, ↓s_dR, ↓s_dRg, ↓s_dRj, ↓s_dRjg, ↓s_dB, ↓s_dBg, ↓s_dAlloc, ↓s_bindD, s_bindD, s_finD, s_finDx, s_addP0, s_addP1, s_addB, s_lookP, ↓s_bump0, ↓s_bump_get, s_bump_next, s_ok0, ↓s_ok1, s_okR0, ↓s_okR1, ↓s_okE, s_okE, s_okE1, s_nth0, s_nthS, Nat.add_zero, Bool.and_self, Bool.and_true, Bool.true_and, ↓l_loop, ↓l_succ, ↓l_normal, l_normal, l_exit, l_ret, l_iteN, ↓h_put_get, ↓h_new_get, ↓h_del_get, h_next_put, h_next_new, h_next_del, Nat.add_assoc, Nat.add_eq_left, Nat.left_eq_add, Nat.add_left_cancel_iff, ↓s_load, m_load, ↓m_load1, m_load1, ↓m_st, m_stE, m_storeI, m_storeE, w_zero, w_succ, ↓s_alloc, ↓x_idxA, ↓x_idxS, x_idxAE, x_idxSE, x_addrE, x_idx, x_lenS, ↓s_len, ↓x_buildS, x_buildE, ↓x_P0, ↓x_P1, x_fill0, x_filli, x_fills, x_fillb, c_int, List.length_cons, List.length_nil, List.cons_append, List.drop_succ_cons, List.drop_zero, List.drop_nil, List.nil_append, Int.reduceAdd, Int.reduceToNat, Int.reduceLT, Int.reduceLE, Nat.reduceAdd, Nat.reduceMul, Nat.reduceLeDiff, Int.reduceEq, Int.reduceSub, Int.cast_ofNat_Int, s_resc, s_consR, m_load4, m_store4, s_res0, ↓s_skip, ↓s_ops, ↓s_dops, ↓s_seq, ↓s_cond, ↓s_block, ↓s_exit, ↓s_ret, ↓s_scope, ↓s_nil, ↓s_op, ↓s_opg, ↓s_wanted', ↓s_wantV, s_wantV, s_wantV0, beq_true, beq_false, ↓s_bindS, s_bindS, ↓s_bindE, s_bindE, s_bindE_ret, s_bindE_exit, s_bindE_iteN, s_norm, ↓s_condV, s_condV, s_block_ret, s_block_normal, s_block_exit, s_block_iteN, ↓s_getp, ↓s_getp0, ↓s_get, s_get0, ↓s_con, ↓s_fn, ↓s_os0, ↓s_os1, ↓s_list0, ↓s_list1, ↓s_mov, ↓s_pick, ↓s_pickE, s_pickE, ↓s_bin, ↓s_un, ↓s_minmax, ↓s_call, ↓s_callv, ↓s_callV, ↓s_ext, s_same, b_eql, b_neq, b_lss, b_leq, b_gtr, b_geq, b_add, b_sub, b_mul, b_eqlb, b_neqb, b_fnil, b_fnil', b_fnil2, b_fnil2', u_neg, u_not, m_two, s_end, s_end', s_end_iteN, s_res0, s_res1, s_tup1, s_tup2, ↓iteN_true, ↓iteN_false, iteN_true, iteN_false, Nat.zero_add, List.nil_append, List.append_nil, Nat.reduceEqDiff, reduceIte, decide_true, decide_false, Bool.not_true, Bool.not_false, List.getElem?_cons_zero, List.getElem?_cons_succ, Bool.false_eq_true, if_true, if_false, beq_self_eq_true]
        exact rfl, (by (simp only [s_getp, s_getp0, Nat.reduceEqDiff, decide_false, decide_true, iteN_false, iteN_true, t0]; try rfl))⟩
    exact ⟨T', fun h => absurd h hne, fun _ => ⟨r, u4⟩⟩
theorem dsame_go (e : E k_purserref16_Same = some f_purserref16_Same) (x : ∀ a h, X (.fn k_purserref16_Same) a h = none) (M : Nat) (as bs : List Rq) (hn : as.length ≤ 1000000) (hM : as.length < M) (hbn : bs.length < 9223372036854775807) (ok : ∀ o ∈ as, o.ok) (pk : ∀ o ∈ bs, o.ok) (a b : Option (Nat × Nat)) (c d : Option Nat) (ea eb : Nat) (h : H) (ra : RrS h as a ea) (rb : RrS h bs b eb) :
    callX E X (M + 1) (.fn k_purserref16_Same) [.slice a as.length c ea, .slice b bs.length d eb] h = some (.bool (decide (as = bs)), h) := by
  rw [x_cfn e _ _ (Nat.le_of_ble_eq_true rfl) (x _ _)]
  by_cases hl : as.length = bs.length
  · have fin : ∀ T, DsI (.slice a as.length c ea) (.slice b bs.length d eb) as.length h 0 T h → fnEnd [.tmp 4] (bindE (blockE 0 (loopN (evC (callX E X M) 43 M none L_purserref16_Same_0) M ⟨T, [], h⟩)) (evC (callX E X M) 43 M none R_purserref16_Same_0)) = some (.bool (decide (as = bs)), h) := by
      intro T I
      have get : ∀ i, i < as.length → ∃ o p, as[i]? = some o ∧ bs[i]? = some p := fun i hi => ⟨_, _, List.getElem?_eq_getElem hi, List.getElem?_eq_getElem (by omega)⟩
      rcases eq_or as bs hl with eab | ⟨j, o, p, h1, h2, h3, h4⟩
      · rw [decide_eq_true eab]
        obtain ⟨T', h', rr, kp⟩ := loop_go (f := evC (callX E X M) 43 M none L_purserref16_Same_0) (DsI (.slice a as.length c ea) (.slice b bs.length d eb) as.length h) as.length (.exit 0) (by intro h; cases h) (fun _ h' => h' = h) (fun i T h' hi I => by
          obtain ⟨o, p, ho, hp⟩ := get i hi
          obtain ⟨T', q, _⟩ := ds_round (callX E X M) M as bs hl hn ok pk a b c d ea eb h ra rb i T h' o p ho hp I
          rw [eab, hp] at ho
          cases ho
          exact ⟨T', h', q rfl⟩) (fun T h' I => by
          obtain ⟨il, t0, t1, t5, hh⟩ := I
          have c0 : decide ((as.length : Int) < (as.length : Int)) = false := decide_eq_false (by omega)
          generalize as.length = n at *
          exact ⟨_, h', by
            simp (config := {maxSteps := 2000000}) (disch := first | omega | (simp only [List.length_cons, List.length_nil, List.length_append, List.length_drop]; omega)) only [L_purserref16_Same_0, t0, t5, c0, ↓s_len, x_lenS, ↓b_xor32, ↓b_and32, ↓b_or32, ↓u_not32, b_xor32, b_and32, b_or32, u_not32, w32ad, ↓x_conv, x_convV, ↓x_fieldAddr, x_fieldV, ↓s_nilchk, x_nilchk, Nat.zero_add, Nat.add_zero, Nat.mul_one, ↓l_loop, ↓l_succ, ↓l_normal, l_normal, l_exit, l_ret, l_iteN, ↓h_put_get, ↓h_new_get, ↓h_del_get, h_next_put, h_next_new, h_next_del, Nat.add_assoc, Nat.add_eq_left, Nat.left_eq_add, Nat.add_left_cancel_iff, ↓s_load, m_load, ↓m_load1, m_load1, ↓m_st, m_stE, m_storeI, m_storeE, w_zero, w_succ, ↓s_alloc, ↓x_idxA, ↓x_idxS, x_idxAE, x_idxSE, x_addrE, x_idx, x_lenS, ↓s_len, ↓x_buildS, x_buildE, ↓x_P0, ↓x_P1, x_fill0, x_filli, x_fills, x_fillb, c_int, List.length_cons, List.length_nil, List.cons_append, List.drop_succ_cons, List.drop_zero, List.drop_nil, List.nil_append, Int.reduceAdd, Int.reduceToNat, Int.reduceLT, Int.reduceLE, Nat.reduceAdd, Nat.reduceMul, Nat.reduceLeDiff, Int.reduceEq, Int.reduceSub, Int.cast_ofNat_Int, s_resc, s_consR, m_load4, m_store4, s_res0, ↓s_skip, ↓s_ops, ↓s_dops, ↓s_seq, ↓s_cond, ↓s_block, ↓s_exit, ↓s_ret, ↓s_scope, ↓s_nil, ↓s_op, ↓s_opg, ↓s_wanted', ↓s_wantV, s_wantV, s_wantV0, beq_true, beq_false, ↓s_bindS, s_bindS, ↓s_bindE, s_bindE, s_bindE_ret, s_bindE_exit, s_bindE_iteN, s_norm, ↓s_condV, s_condV, s_block_ret, s_block_normal, s_block_exit, s_block_iteN, ↓s_getp, ↓s_getp0, ↓s_get, s_get0, ↓s_con, ↓s_fn, ↓s_os0, ↓s_os1, ↓s_list0, ↓s_list1, ↓s_mov, ↓s_pick, ↓s_pickE, s_pickE, ↓s_bin, ↓s_un, ↓s_minmax, ↓s_call, ↓s_callv, ↓s_callV, ↓s_ext, s_same, b_eql, b_neq, b_lss, b_leq, b_gtr, b_geq, b_add, b_sub, b_mul, b_eqlb, b_neqb, b_fnil, b_fnil', b_fnil2, b_fnil2', u_neg, u_not, m_two, s_end, s_end', s_end_iteN, s_res0, s_res1, s_tup1, s_tup2, ↓iteN_true, ↓iteN_false, iteN_true, iteN_false, Nat.zero_add, List.nil_append, List.append_nil, Nat.reduceEqDiff, reduceIte, decide_true, decide_false, Bool.not_true, Bool.not_false, List.getElem?_cons_zero, List.getElem?_cons_succ, Bool.false_eq_true, if_true, if_false, beq_self_eq_true]
            exact rfl, hh⟩) as.length 0 (by omega) M (by omega) T h I
        rw [rr, kp]
        simp (config := {maxSteps := 2000000}) (disch := first | omega | (simp only [List.length_cons, List.length_nil, List.length_append, List.length_drop]; omega)) only [R_purserref16_Same_0, ↓b_xor32, ↓b_and32, ↓b_or32, ↓u_not32, b_xor32, b_and32, b_or32, u_not32, w32ad, ↓x_conv, x_convV, ↓x_fieldAddr, x_fieldV, ↓s_nilchk, x_nilchk, Nat.zero_add, Nat.add_zero, Nat.mul_one, ↓l_loop, ↓l_succ, ↓l_normal, l_normal, l_exit, l_ret, l_iteN, ↓h_put_get, ↓h_new_get, ↓h_del_get, h_next_put, h_next_new, h_next_del, Nat.add_assoc, Nat.add_eq_left, Nat.left_eq_add, Nat.add_left_cancel_iff, ↓s_load, m_load, ↓m_load1, m_load1, ↓m_st, m_stE, m_storeI, m_storeE, w_zero, w_succ, ↓s_alloc, ↓x_idxA, ↓x_idxS, x_idxAE, x_idxSE, x_addrE, x_idx, x_lenS, ↓s_len, ↓x_buildS, x_buildE, ↓x_P0, ↓x_P1, x_fill0, x_filli, x_fills, x_fillb, c_int, List.length_cons, List.length_nil, List.cons_append, List.drop_succ_cons, List.drop_zero, List.drop_nil, List.nil_append, Int.reduceAdd, Int.reduceToNat, Int.reduceLT, Int.reduceLE, Nat.reduceAdd, Nat.reduceMul, Nat.reduceLeDiff, Int.reduceEq, Int.reduceSub, Int.cast_ofNat_Int, s_resc, s_consR, m_load4, m_store4, s_res0, ↓s_skip, ↓s_ops, ↓s_dops, ↓s_seq, ↓s_cond, ↓s_block, ↓s_exit, ↓s_ret, ↓s_scope, ↓s_nil, ↓s_op, ↓s_opg, ↓s_wanted', ↓s_wantV, s_wantV, s_wantV0, beq_true, beq_false, ↓s_bindS, s_bindS, ↓s_bindE, s_bindE, s_bindE_ret, s_bindE_exit, s_bindE_iteN, s_norm, ↓s_condV, s_condV, s_block_ret, s_block_normal, s_block_exit, s_block_iteN, ↓s_getp, ↓s_getp0, ↓s_get, s_get0, ↓s_con, ↓s_fn, ↓s_os0, ↓s_os1, ↓s_list0, ↓s_list1, ↓s_mov, ↓s_pick, ↓s_pickE, s_pickE, ↓s_bin, ↓s_un, ↓s_minmax, ↓s_call, ↓s_callv, ↓s_callV, ↓s_ext, s_same, b_eql, b_neq, b_lss, b_leq, b_gtr, b_geq, b_add, b_sub, b_mul, b_eqlb, b_neqb, b_fnil, b_fnil', b_fnil2, b_fnil2', u_neg, u_not, m_two, s_end, s_end', s_end_iteN, s_res0, s_res1, s_tup1, s_tup2, ↓iteN_true, ↓iteN_false, iteN_true, iteN_false, Nat.zero_add, List.nil_append, List.append_nil, Nat.reduceEqDiff, reduceIte, decide_true, decide_false, Bool.not_true, Bool.not_false, List.getElem?_cons_zero, List.getElem?_cons_succ, Bool.false_eq_true, if_true, if_false, beq_self_eq_true]
      · have hne : as ≠ bs := fun e => h3 (by rw [e, h2] at h1; cases h1; rfl)
        rw [decide_eq_false hne]
        have hj : j < as.length := (List.getElem?_eq_some_iff.1 h1).1
        obtain ⟨T', h', rr, u4, kp⟩ := loop_go (f := evC (callX E X M) 43 M none L_purserref16_Same_0) (DsI (.slice a as.length c ea) (.slice b bs.length d eb) as.length h) j .ret (by intro h; cases h) (fun T h' => evO T (.t 4) = .bool false ∧ h' = h) (fun i T h' hi I => by
          obtain ⟨o, p, ho, hp⟩ := get i (by omega)
          obtain ⟨T', q, _⟩ := ds_round (callX E X M) M as bs hl hn ok pk a b c d ea eb h ra rb i T h' o p ho hp I
          exact ⟨T', h', q (h4 i o p hi ho hp)⟩) (fun T h' I => by
          obtain ⟨T', _, q⟩ := ds_round (callX E X M) M as bs hl hn ok pk a b c d ea eb h ra rb j T h' o p h1 h2 I
          obtain ⟨q1, q2⟩ := q h3
          exact ⟨T', h', q1, q2, I.hh⟩) j 0 (by omega) M (by omega) T h I
        rw [rr, kp]
        simp (config := {maxSteps := 2000000}) (disch := first | omega | (simp only [List.length_cons, List.length_nil, List.length_append, List.length_drop]; omega)) only [u4, ↓b_xor32, ↓b_and32, ↓b_or32, ↓u_not32, b_xor32, b_and32, b_or32, u_not32, w32ad, ↓x_conv, x_convV, ↓x_fieldAddr, x_fieldV, ↓s_nilchk, x_nilchk, Nat.zero_add, Nat.add_zero, Nat.mul_one, ↓l_loop, ↓l_succ, ↓l_normal, l_normal, l_exit, l_ret, l_iteN, ↓h_put_get, ↓h_new_get, ↓h_del_get, h_next_put, h_next_new, h_next_del, Nat.add_assoc, Nat.add_eq_left, Nat.left_eq_add, Nat.add_left_cancel_iff, ↓s_load, m_load, ↓m_load1, m_load1, ↓m_st, m_stE, m_storeI, m_storeE, w_zero, w_succ, ↓s_alloc, ↓x_idxA, ↓x_idxS, x_idxAE, x_idxSE, x_addrE, x_idx, x_lenS, ↓s_len, ↓x_buildS, x_buildE, ↓x_P0, ↓x_P1, x_fill0, x_filli, x_fills, x_fillb, c_int, List.length_cons, List.length_nil, List.cons_append, List.drop_succ_cons, List.drop_zero, List.drop_nil, List.nil_append, Int.reduceAdd, Int.reduceToNat, Int.reduceLT, Int.reduceLE, Nat.reduceAdd, Nat.reduceMul, Nat.reduceLeDiff, Int.reduceEq, Int.reduceSub, Int.cast_ofNat_Int, s_resc, s_consR, m_load4, m_store4, s_res0, ↓s_skip, ↓s_ops, ↓s_dops, ↓s_seq, ↓s_cond, ↓s_block, ↓s_exit, ↓s_ret, ↓s_scope, ↓s_nil, ↓s_op, ↓s_opg, ↓s_wanted', ↓s_wantV, s_wantV, s_wantV0, beq_true, beq_false, ↓s_bindS, s_bindS, ↓s_bindE, s_bindE, s_bindE_ret, s_bindE_exit, s_bindE_iteN, s_norm, ↓s_condV, s_condV, s_block_ret, s_block_normal, s_block_exit, s_block_iteN, ↓s_getp, ↓s_getp0, ↓s_get, s_get0, ↓s_con, ↓s_fn, ↓s_os0, ↓s_os1, ↓s_list0, ↓s_list1, ↓s_mov, ↓s_pick, ↓s_pickE, s_pickE, ↓s_bin, ↓s_un, ↓s_minmax, ↓s_call, ↓s_callv, ↓s_callV, ↓s_ext, s_same, b_eql, b_neq, b_lss, b_leq, b_gtr, b_geq, b_add, b_sub, b_mul, b_eqlb, b_neqb, b_fnil, b_fnil', b_fnil2, b_fnil2', u_neg, u_not, m_two, s_end, s_end', s_end_iteN, s_res0, s_res1, s_tup1, s_tup2, ↓iteN_true, ↓iteN_false, iteN_true, iteN_false, Nat.zero_add, List.nil_append, List.append_nil, Nat.reduceEqDiff, reduceIte, decide_true, decide_false, Bool.not_true, Bool.not_false, List.getElem?_cons_zero, List.getElem?_cons_succ, Bool.false_eq_true, if_true, if_false, beq_self_eq_true]
    have c1 : (!decide ((as.length : Int) = (bs.length : Int))) = false := by rw [decide_eq_true (by omega)]; rfl
    obtain ⟨R, eR⟩ : ∃ R, R_purserref16_Same_0 = R := ⟨_, rfl⟩
    obtain ⟨Lo, eL⟩ : ∃ R, L_purserref16_Same_0 = R := ⟨_, rfl⟩
    rw [eR, eL] at fin ⊢
    obtain ⟨n, en⟩ : ∃ n, as.length = n := ⟨_, rfl⟩
    obtain ⟨n2, en2⟩ : ∃ n, bs.length = n := ⟨_, rfl⟩
    rw [en, en2] at c1 fin ⊢
    simp (config := {maxSteps := 2000000}) (disch := first | omega | (simp only [List.length_cons, List.length_nil, List.length_append, List.length_drop]; omega)) only [c1, ↓s_len, x_lenS, ↓b_xor32, ↓b_and32, ↓b_or32, ↓u_not32, b_xor32, b_and32, b_or32, u_not32, w32ad, ↓x_conv, x_convV, ↓x_fieldAddr, x_fieldV, ↓s_nilchk, x_nilchk, Nat.zero_add, Nat.add_zero, Nat.mul_one, ↓l_loop, ↓l_succ, ↓l_normal, l_normal, l_exit, l_ret, l_iteN, ↓h_put_get, ↓h_new_get, ↓h_del_get, h_next_put, h_next_new, h_next_del, Nat.add_assoc, Nat.add_eq_left, Nat.left_eq_add, Nat.add_left_cancel_iff, ↓s_load, m_load, ↓m_load1, m_load1, ↓m_st, m_stE, m_storeI, m_storeE, w_zero, w_succ, ↓s_alloc, ↓x_idxA, ↓x_idxS, x_idxAE, x_idxSE, x_addrE, x_idx, x_lenS, ↓s_len, ↓x_buildS, x_buildE, ↓x_P0, ↓x_P1, x_fill0, x_filli, x_fills, x_fillb, c_int, List.length_cons, List.length_nil, List.cons_append, List.drop_succ_cons, List.drop_zero, List.drop_nil, List.nil_append, Int.reduceAdd, Int.reduceToNat, Int.reduceLT, Int.reduceLE, Nat.reduceAdd, Nat.reduceMul, Nat.reduceLeDiff, Int.reduceEq, Int.reduceSub, Int.cast_ofNat_Int, s_resc, s_consR, m_load4, m_store4, s_res0, ↓s_skip, ↓s_ops, ↓s_dops, ↓s_seq, ↓s_cond, ↓s_block, ↓s_exit, ↓s_ret, ↓s_scope, ↓s_nil, ↓s_op, ↓s_opg, ↓s_wanted', ↓s_wantV, s_wantV, s_wantV0, beq_true, beq_false, ↓s_bindS, s_bindS, ↓s_bindE, s_bindE, s_bindE_ret, s_bindE_exit, s_bindE_iteN, s_norm, ↓s_condV, s_condV, s_block_ret, s_block_normal, s_block_exit, s_block_iteN, ↓s_getp, ↓s_getp0, ↓s_get, s_get0, ↓s_con, ↓s_fn, ↓s_os0, ↓s_os1, ↓s_list0, ↓s_list1, ↓s_mov, ↓s_pick, ↓s_pickE, s_pickE, ↓s_bin, ↓s_un, ↓s_minmax, ↓s_call, ↓s_callv, ↓s_callV, ↓s_ext, s_same, b_eql, b_neq, b_lss, b_leq, b_gtr, b_geq, b_add, b_sub, b_mul, b_eqlb, b_neqb, b_fnil, b_fnil', b_fnil2, b_fnil2', u_neg, u_not, m_two, s_end, s_end', s_end_iteN, s_res0, s_res1, s_tup1, s_tup2, ↓iteN_true, ↓iteN_false, iteN_true, iteN_false, Nat.zero_add, List.nil_append, List.append_nil, Nat.reduceEqDiff, reduceIte, decide_true, decide_false, Bool.not_true, Bool.not_false, List.getElem?_cons_zero, List.getElem?_cons_succ, Bool.false_eq_true, if_true, if_false, beq_self_eq_true]
    exact fin _ ⟨Nat.zero_le _, (by (simp only [s_getp, s_getp0, Nat.reduceEqDiff, decide_false, decide_true, iteN_false, iteN_true, c1]; try rfl)), (by (simp only [s_getp, s_getp0, Nat.reduceEqDiff, decide_false, decide_true, iteN_false, iteN_true, c1]; try rfl)), (by (simp only [s_getp, s_getp0, Nat.reduceEqDiff, decide_false, decide_true, iteN_false, iteN_true, c1]; try rfl)), rfl⟩
  · rw [decide_eq_false (fun e => hl (by rw [e]))]
    have c1 : (!decide ((as.length : Int) = (bs.length : Int))) = true := by rw [decide_eq_false (by omega)]; rfl
    obtain ⟨Lo, eL⟩ : ∃ R, L_purserref16_Same_0 = R := ⟨_, rfl⟩
    rw [eL]
    generalize as.length = n at *
    generalize bs.length = n2 at *
    simp (config := {maxSteps := 2000000}) (disch := first | omega | (simp only [List.length_cons, List.length_nil, List.length_append, List.length_drop]; omega)) only [c1, ↓s_len, x_lenS, ↓b_xor32, ↓b_and32, ↓b_or32, ↓u_not32, b_xor32, b_and32, b_or32, u_not32, w32ad, ↓x_conv, x_convV, ↓x_fieldAddr, x_fieldV, ↓s_nilchk, x_nilchk, Nat.zero_add, Nat.add_zero, Nat.mul_one, ↓l_loop, ↓l_succ, ↓l_normal, l_normal, l_exit, l_ret, l_iteN, ↓h_put_get, ↓h_new_get, ↓h_del_get, h_next_put, h_next_new, h_next_del, Nat.add_assoc, Nat.add_eq_left, Nat.left_eq_add, Nat.add_left_cancel_iff, ↓s_load, m_load, ↓m_load1, m_load1, ↓m_st, m_stE, m_storeI, m_storeE, w_zero, w_succ, ↓s_alloc, ↓x_idxA, ↓x_idxS, x_idxAE, x_idxSE, x_addrE, x_idx, x_lenS, ↓s_len, ↓x_buildS, x_buildE, ↓x_P0, ↓x_P1, x_fill0, x_filli, x_fills, x_fillb, c_int, List.length_cons, List.length_nil, List.cons_append, List.drop_succ_cons, List.drop_zero, List.drop_nil, List.nil_append, Int.reduceAdd, Int.reduceToNat, Int.reduceLT, Int.reduceLE, Nat.reduceAdd, Nat.reduceMul, Nat.reduceLeDiff, Int.reduceEq, Int.reduceSub, Int.cast_ofNat_Int, s_resc, s_consR, m_load4, m_store4, s_res0, ↓s_skip, ↓s_ops, ↓s_dops, ↓s_seq, ↓s_cond, ↓s_block, ↓s_exit, ↓s_ret, ↓s_scope, ↓s_nil, ↓s_op, ↓s_opg, ↓s_wanted', ↓s_wantV, s_wantV, s_wantV0, beq_true, beq_false, ↓s_bindS, s_bindS, ↓s_bindE, s_bindE, s_bindE_ret, s_bindE_exit, s_bindE_iteN, s_norm, ↓s_condV, s_condV, s_block_ret, s_block_normal, s_block_exit, s_block_iteN, ↓s_getp, ↓s_getp0, ↓s_get, s_get0, ↓s_con, ↓s_fn, ↓s_os0, ↓s_os1, ↓s_list0, ↓s_list1, ↓s_mov, ↓s_pick, ↓s_pickE, s_pickE, ↓s_bin, ↓s_un, ↓s_minmax, ↓s_call, ↓s_callv, ↓s_callV, ↓s_ext, s_same, b_eql, b_neq, b_lss, b_leq, b_gtr, b_geq, b_add, b_sub, b_mul, b_eqlb, b_neqb, b_fnil, b_fnil', b_fnil2, b_fnil2', u_neg, u_not, m_two, s_end, s_end', s_end_iteN, s_res0, s_res1, s_tup1, s_tup2, ↓iteN_true, ↓iteN_false, iteN_true, iteN_false, Nat.zero_add, List.nil_append, List.append_nil, Nat.reduceEqDiff, reduceIte, decide_true, decide_false, Bool.not_true, Bool.not_false, List.getElem?_cons_zero, List.getElem?_cons_succ, Bool.false_eq_true, if_true, if_false, beq_self_eq_true]
end Go.Eng
namespace Go.Eng
open Go
variable {E : Nat → Option Fn} {X : Orc}
set_option linter.unusedSimpArgs false
set_option linter.unusedVariables false
theorem u8k (k : Nat) (h : k < 256) : wr .u8 (k : Int) = (k : Int) := by rw [w8n, Nat.mod_eq_of_lt h]
theorem lit1 (h : H) (k n : Nat) (l : List Nat) (hl : l.length = n + 1) (hn : n ≤ 1000000) : appendC (h.new (.cells [.int .u8 (k : Int)] .rw)) 1 1 (.slice (some (h.next, 0)) 1 (some 1) 1) (some (n + 1, ofI .u8 l)) = some (.slice (some (h.next + 1, 0)) (n + 2) none 1, (h.new (.cells [.int .u8 (k : Int)] .rw)).new (.cells (ofI .u8 (k :: l)) .rw)) := by
  rw [appF_of _ _ _ _ _ _ _ _ (by omega) (by omega), h_new_same]
  have := appFI .u8 [k] l .rw (h.new (.cells [.int .u8 (k : Int)] .rw)) 0 1 (n + 1) (by show 0 + 1 ≤ 1; omega)
  rw [show 1 + (n + 1) = n + 2 by omega] at this
  exact this
theorem done_go (ef : E k_purserref16_One = some f_purserref16_One) (xf : ∀ a h, X (.fn k_purserref16_One) a h = none) (e : EnCm E) (x : NoCm X) (N : Nat) (o : Rq) (hv : rqOk o = true) (ok : o.ok) (hl : o.l.length ≤ 50000) (a : Option (Nat × Nat)) (c : Option Nat) (ez : Nat) (h : H) (src : SrcH h a ez o.l) :
    ∃ h' a' c' e', callX E X (N + 50101) (.fn k_purserref16_One) [.agg [.int .i64 o.kind, .slice a o.l.length c ez]] h = some (.slice a' (rqB o).length c' e', h') ∧ Nw h h' (rqB o) a' c' e' := by
  rw [x_cfn ef _ _ (Nat.le_of_ble_eq_true rfl) (xf _ _)]
  have ca : ∀ l : List V, (V.agg l).cells = l := fun _ => rfl
  have hv' := hv
  unfold rqOk at hv'
  simp only [Bool.and_eq_true, decide_eq_true_eq] at hv'
  obtain ⟨⟨k0, k1⟩, _⟩ := hv'
  obtain ⟨kn, ekn⟩ := Int.eq_ofNat_of_zero_le k0
  obtain ⟨hA, eA⟩ : ∃ hA, h.new (.cells [.int .i64 (kn : Int), .slice a o.l.length c ez] .rw) = hA := ⟨_, rfl⟩
  have kA : Kp h hA := by rw [← eA]; exact Kp.new _ _
  have nA : hA.next = h.next + 1 := by rw [← eA]; rfl
  have gA : hA.get h.next = some (.cells [.int .i64 (kn : Int), .slice a o.l.length c ez] .rw) := by rw [← eA]; exact h_new_same _ _
  obtain ⟨fe, fb⟩ := fix4 o.l.length (by omega)
  obtain ⟨hB, aB, cB, eB, rB', nwB⟩ := rfixed_go e.rf x.rf (N + 50080) 4 o.l.length (by omega) hA
  rw [fe, fb, leN_len] at rB'
  rw [fb] at nwB
  have scB := (nwB.wb.src.mono (Kp.new hB (.cells [.int .u8 (kn : Int)] .rw))).cellz cB
  rw [leN_len] at scB
  have ap := lit1 hB kn 3 (leN 4 o.l.length) (leN_len _ _) (by omega)
  obtain ⟨hC, eC⟩ : ∃ hC, (hB.new (.cells [.int .u8 (kn : Int)] .rw)).new (.cells (ofI .u8 (kn :: leN 4 o.l.length)) .rw) = hC := ⟨_, rfl⟩
  have kC : Kp hB hC := by rw [← eC]; (repeat (first | exact Kp.refl _ | refine Kp.put ?_ _ (by first | omega | (simp only [h_next_put, h_next_new, h_next_del]; omega)) | refine Kp.del ?_ (by first | omega | (simp only [h_next_put, h_next_new, h_next_del]; omega)) | refine Kp.trans ?_ (Kp.new _ _)))
  rw [eC] at ap
  have sC : SrcH hC (some (hB.next + 1, 0)) 1 (kn :: leN 4 o.l.length) := .inr ⟨hB.next + 1, 0, _, .rw, rfl, rfl, by rw [← eC]; exact Nat.lt_succ_self _, by rw [← eC]; exact h_new_same _ _, by rw [ofI_len]; omega, by rw [List.drop_zero]; exact List.take_of_length_le (by rw [ofI_len]; exact Nat.le_refl _)⟩
  have l5 : (kn :: leN 4 o.l.length).length = 5 := by rw [List.length_cons, leN_len]
  have b5 : byt (kn :: leN 4 o.l.length) = true := byt_iff.2 (fun y hy => by
    rcases List.mem_cons.1 hy with rfl | hy
    · omega
    · exact byt_iff.1 (leN_byt 4 _) y hy)
  obtain ⟨hD, aD, cD, eD, rD, nwD⟩ := rmark_go e x N (kn :: leN 4 o.l.length) b5 (by omega) (some (hB.next + 1, 0)) none 1 hC sC
  have kAD : Kp hA hD := nwB.kp.trans (kC.trans nwD.kp)
  have gB : hB.get h.next = some (.cells [.int .i64 (kn : Int), .slice a o.l.length c ez] .rw) := by rw [nwB.kp.2 _ (by omega), gA]
  have gD : hD.get h.next = some (.cells [.int .i64 (kn : Int), .slice a o.l.length c ez] .rw) := by rw [kAD.2 _ (by omega), gA]
  obtain ⟨hE, aE, cE, eE, rE, nwE⟩ := rmark_go e x N o.l ok.bl hl a c ez hD ((src.mono kA).mono kAD)
  have scE := nwE.wb.src.cellz cE
  have w5 : (kn :: leN 4 o.l.length ++ leN 4 (onV 0 (kn :: leN 4 o.l.length))).length = 9 := by rw [List.length_append, l5, leN_len]
  rw [l5, w5] at rD
  have wbD := nwD.wb.kp nwE.kp
  obtain ⟨aF, cF, eF, hF, ap2, wbF, nF, fF, oF⟩ := ap_wb hE _ (o.l ++ leN 4 (onV 0 o.l)) aD cD eD wbD (by rw [w5, List.length_append, leN_len]; omega)
  have eq : kn :: leN 4 o.l.length ++ leN 4 (onV 0 (kn :: leN 4 o.l.length)) ++ (o.l ++ leN 4 (onV 0 o.l)) = rqB o := by
    unfold rqB mkB4; rw [show o.kind.toNat = kn by rw [ekn]; rfl]
  rw [eq] at ap2 wbF
  rw [w5] at ap2
  have k0E : Kp h hE := kA.trans (kAD.trans nwE.kp)
  have geD : ∀ q z, aD = some (q, z) → h.next < q := fun q z e => by have := nwD.ge q z e; have := nwB.kp.1; have := kC.1; omega
  refine ⟨hF, aF, cF, eF, ?_, ⟨⟨by have := k0E.1; omega, fun j hj => by rw [fF j (by have := k0E.1; omega) (fun e => by have := geD _ _ e; omega), k0E.2 _ hj]⟩, wbF, fun q z e => by
    rcases oF with w | w
    · rw [w] at e; have := geD q z e; omega
    · rw [w] at e; cases e; exact k0E.1⟩⟩
  have w8 := u8k kn (by omega)
  have wu : wr .u64 (o.l.length : Int) = (o.l.length : Int) := u64n _ (by omega)
  rw [ekn]
  obtain ⟨W, eW⟩ : ∃ W, (o.l ++ leN 4 (onV 0 o.l)).length = W := ⟨_, rfl⟩
  rw [eW] at rE scE ap2
  obtain ⟨R, eR⟩ : ∃ W, (rqB o).length = W := ⟨_, rfl⟩
  rw [eR] at ap2 ⊢
  obtain ⟨ol, eol⟩ : ∃ W, o.l.length = W := ⟨_, rfl⟩
  obtain ⟨C4, eC4⟩ : ∃ W, ofI .u8 (leN 4 o.l.length) = W := ⟨_, rfl⟩
  rw [eC4] at scB ap
  obtain ⟨C5, eC5⟩ : ∃ W, ofI .u8 (o.l ++ leN 4 (onV 0 o.l)) = W := ⟨_, rfl⟩
  rw [eC5] at scE ap2
  rw [eol] at eA gA gB gD rB' rE wu ⊢
  replace rD : callX E X (N + 50100) (.fn k_purserref02_Mark) [.slice (some (hB.next + 1, 0)) 5 none 1] hC = _ := rD
  replace ap : appendC (hB.new (.cells [.int .u8 (kn : Int)] .rw)) 1 1 (.slice (some (hB.next, 0)) 1 (some 1) 1) (some (4, C4)) = some (.slice (some (hB.next + 1, 0)) 5 none 1, hC) := ap
  replace rB' : callX E X (N + 50100) (.fn k_purserref01_Fixed) [.int .i64 4, .int .u64 (ol : Int)] hA = _ := rB'
  simp (config := {maxSteps := 2000000}) (disch := first | omega | (simp only [List.length_cons, List.length_nil, List.length_append, List.length_drop]; omega)) only [ca, eA, gA, gB, gD, w8, wu, rB', scB, ap, rD, rE, scE, ap2, x_build, ↓s_append, ↓s_box, ↓s_len, x_lenS, ↓b_xor32, ↓b_and32, ↓b_or32, ↓u_not32, b_xor32, b_and32, b_or32, u_not32, w32ad, ↓x_conv, x_convV, ↓x_fieldAddr, x_fieldV, ↓s_nilchk, x_nilchk, Nat.zero_add, Nat.add_zero, Nat.mul_one, ↓l_loop, ↓l_succ, ↓l_normal, l_normal, l_exit, l_ret, l_iteN, ↓h_put_get, ↓h_new_get, ↓h_del_get, h_next_put, h_next_new, h_next_del, Nat.add_assoc, Nat.add_eq_left, Nat.left_eq_add, Nat.add_left_cancel_iff, ↓s_load, m_load, ↓m_load1, m_load1, ↓m_st, m_stE, m_storeI, m_storeE, w_zero, w_succ, ↓s_alloc, ↓x_idxA, ↓x_idxS, x_idxAE, x_idxSE, x_addrE, x_idx, x_lenS, ↓s_len, ↓x_buildS, x_buildE, ↓x_P0, ↓x_P1, x_fill0, x_filli, x_fills, x_fillb, c_int, List.length_cons, List.length_nil, List.cons_append, List.drop_succ_cons, List.drop_zero, List.drop_nil, List.nil_append, Int.reduceAdd, Int.reduceToNat, Int.reduceLT, Int.reduceLE, Nat.reduceAdd, Nat.reduceMul, Nat.reduceLeDiff, Int.reduceEq, Int.reduceSub, Int.cast_ofNat_Int, s_resc, s_consR, m_load4, m_store4, s_res0, ↓s_skip, ↓s_ops, ↓s_dops, ↓s_seq, ↓s_cond, ↓s_block, ↓s_exit, ↓s_ret, ↓s_scope, ↓s_nil, ↓s_op, ↓s_opg, ↓s_wanted', ↓s_wantV, s_wantV, s_wantV0, beq_true, beq_false, ↓s_bindS, s_bindS, ↓s_bindE, s_bindE, s_bindE_ret, s_bindE_exit, s_bindE_iteN, s_norm, ↓s_condV, s_condV, s_block_ret, s_block_normal, s_block_exit, s_block_iteN, ↓s_getp, ↓s_getp0, ↓s_get, s_get0, ↓s_con, ↓s_fn, ↓s_os0, ↓s_os1, ↓s_list0, ↓s_list1, ↓s_mov, ↓s_pick, ↓s_pickE, s_pickE, ↓s_bin, ↓s_un, ↓s_minmax, ↓s_call, ↓s_callv, ↓s_callV, ↓s_ext, s_same, b_eql, b_neq, b_lss, b_leq, b_gtr, b_geq, b_add, b_sub, b_mul, b_eqlb, b_neqb, b_fnil, b_fnil', b_fnil2, b_fnil2', u_neg, u_not, m_two, s_end, s_end', s_end_iteN, s_res0, s_res1, s_tup1, s_tup2, ↓iteN_true, ↓iteN_false, iteN_true, iteN_false, Nat.zero_add, List.nil_append, List.append_nil, Nat.reduceEqDiff, reduceIte, decide_true, decide_false, Bool.not_true, Bool.not_false, List.getElem?_cons_zero, List.getElem?_cons_succ, Bool.false_eq_true, if_true, if_false, beq_self_eq_true]
end Go.Eng
namespace Go.Eng
open Go
variable {E : Nat → Option Fn} {X : Orc}
set_option linter.unusedSimpArgs false
set_option linter.unusedVariables false
theorem Nw.ap {h0 h : H} {w : List Nat} {a : Option (Nat × Nat)} {c : Option Nat} {e : Nat} (n : Nw h0 h w a c e) (l : List Nat) (hl : w.length + l.length ≤ 1000000) : ∃ a' c' e' h', appendC h 1 1 (.slice a w.length c e) (some (l.length, ofI .u8 l)) = some (.slice a' (w ++ l).length c' e', h') ∧ Nw h0 h' (w ++ l) a' c' e' ∧ h.next ≤ h'.next ∧ (∀ i, i < h.next → a ≠ some (i, 0) → h'.get i = h.get i) ∧ (a' = a ∨ a' = some (h.next, 0)) := by
  obtain ⟨a', c', e', h', r, wb, nx, fr, ow⟩ := ap_wb h w l a c e n.wb hl
  have k := n.kp.1
  refine ⟨a', c', e', h', r, ⟨⟨by omega, fun i hi => by rw [fr i (by omega) (fun e => by have := n.ge _ _ e; omega), n.kp.2 _ hi]⟩, wb, fun q z e => ?_⟩, nx, fr, ow⟩
  rcases ow with o | o
  · exact n.ge q z (by rw [← o]; exact e)
  · rw [o] at e; cases e; exact k
structure EnRo (E : Nat → Option Fn) : Prop where
  cm : EnCm E
  ck : E k_purserref16_Check = some f_purserref16_Check
  on : E k_purserref16_One = some f_purserref16_One
  en : E k_purserref16_Encode = some f_purserref16_Encode
  tw : E k_purserref16_Twin = some f_purserref16_Twin
  sa : E k_purserref16_Same = some f_purserref16_Same
  gr : E k_purserref16_Great = some f_purserref16_Great
structure NoRo (X : Orc) : Prop where
  cm : NoCm X
  ck : ∀ a h, X (.fn k_purserref16_Check) a h = none
  on : ∀ a h, X (.fn k_purserref16_One) a h = none
  en : ∀ a h, X (.fn k_purserref16_Encode) a h = none
  tw : ∀ a h, X (.fn k_purserref16_Twin) a h = none
  sa : ∀ a h, X (.fn k_purserref16_Same) a h = none
  gr : ∀ a h, X (.fn k_purserref16_Great) a h = none
end Go.Eng
namespace Go.Eng
open Go
variable {E : Nat → Option Fn} {X : Orc}
set_option linter.unusedSimpArgs false
set_option linter.unusedVariables false
structure EnRg (E : Nat → Option Fn) : Prop where
  rf : EnRf E
  nm : E k_purserref01_Number = some f_purserref01_Number
structure NoRg (X : Orc) : Prop where
  rf : NoRf X
  nm : ∀ a h, X (.fn k_purserref01_Number) a h = none
theorem numV_snoc (a : List Nat) (b : Nat) : numV (a ++ [b]) = numV a + b * 256 ^ a.length := by
  induction a with
  | nil => show 0 * 256 + b = 0 + b * 1; omega
  | cons x r ih =>
    show numV (r ++ [b]) * 256 + x = (numV r * 256 + x) + b * 256 ^ (r.length + 1)
    rw [ih, Nat.pow_succ, Nat.add_mul, ← Nat.mul_assoc]; omega
theorem takeD (l : List Nat) (i : Nat) (h : i < l.length) : l.take (i + 1) = l.take i ++ [l.getD i 0] := by
  rw [List.take_add_one, List.getElem?_eq_getElem h, List.getD_eq_getElem?_getD, List.getElem?_eq_getElem h]; rfl
structure RNI (a : Option (Nat × Nat)) (c : Option Nat) (ez : Nat) (l : List Nat) (h0 : H) (i : Nat) (T : Tr V) (h : H) : Prop where
  il : i ≤ l.length
  t0 : evO T (.t 0) = .slice a l.length c ez
  t3 : evO T (.t 3) = .int .u64 (numV (l.take i) : Nat)
  t4 : evO T (.t 4) = .int .i64 (i : Int)
  hh : h = h0
theorem rnumber_go (e : EnRg E) (x : NoRg X) (N : Nat) (a : Option (Nat × Nat)) (c : Option Nat) (ez : Nat) (l : List Nat) (bl : byt l = true) (hl : l.length ≤ 8) (h : H) (src : SrcH h a ez l) :
    callX E X (N + 20) (.fn k_purserref01_Number) [.slice a l.length c ez] h = some (.int .u64 (numV l : Nat), h) := by
  rw [x_cfn e.nm _ _ (Nat.le_of_ble_eq_true rfl) (x.nm _ _)]
  have fin : ∀ T, RNI a c ez l h 0 T h → fnEnd [.tmp 2] (bindE (blockE 0 (loopN (evC (callX E X (N + 19)) 22 (N + 19) none L_purserref01_Number_0) (N + 19) ⟨T, [], h⟩)) (evC (callX E X (N + 19)) 22 (N + 19) none R_purserref01_Number_0)) = some (.int .u64 (numV l : Nat), h) := by
    intro T I
    obtain ⟨T', h', r, t3, hh⟩ := loop_go (f := evC (callX E X (N + 19)) 22 (N + 19) none L_purserref01_Number_0) (RNI a c ez l h) l.length (.exit 0) (by intro h; cases h) (fun T h' => evO T (.t 3) = .int .u64 (numV l : Nat) ∧ h' = h) (fun i T h' hi I => by
      obtain ⟨_, t0, t3, t4, hh⟩ := I
      subst hh
      obtain ⟨bi, off, vs, md, rfl, rfl, h3, h4, h5, h6⟩ := src.resolve_left (fun h => by rw [h] at hi; cases hi)
      have c0 : decide ((i : Int) < (l.length : Int)) = true := decide_eq_true (by omega)
      have wi : wr .i64 ((i : Int) + 1) = ((i + 1 : Nat) : Int) := by rw [wr_i64 (by omega)]; omega
      have ix : idx (i : Int) l.length = some i := idxn hi
      have cg : vs[off + i]? = some (.int .u8 (l.getD i 0 : Nat)) := by
        have : ((vs.drop off).take l.length)[i]? = (ofI .u8 l)[i]? := by rw [h6]
        rw [List.getElem?_take_of_lt hi, List.getElem?_drop, ofI_get _ _ _ hi] at this
        exact this
      have r1 := power_go e.rf.pw x.rf.pw (N + 9) i (by omega) h'
      have ns : numV (l.take (i + 1)) = numV (l.take i) + l.getD i 0 * 256 ^ i := by
        rw [takeD l i hi, numV_snoc, List.length_take, Nat.min_eq_left (by omega)]
      have nl := numV_lt8 (l.take (i + 1)) (byt_take bl _) (by rw [List.length_take]; omega)
      have i1 : i + 1 ≤ l.length := hi
      obtain ⟨n2, en2⟩ : ∃ n, numV (l.take (i + 1)) = n := ⟨_, rfl⟩
      rw [en2] at ns nl
      have yl : l.getD i 0 < 256 := by
        rw [List.getD_eq_getElem?_getD, List.getElem?_eq_getElem hi]; exact byt_iff.1 bl _ (List.getElem_mem hi)
      generalize numV (l.take i) = n at *
      generalize l.getD i 0 = y at *
      generalize 256 ^ i = p at *
      obtain ⟨yp, eyp⟩ : ∃ z, y * p = z := ⟨_, rfl⟩
      rw [eyp] at ns
      have wy : wr .u64 (y : Int) = (y : Int) := u64n _ (by omega)
      have w1 : wr .u64 ((y : Int) * (p : Int)) = (yp : Int) := by rw [← eyp, ← Int.natCast_mul, u64n _ (by omega)]
      have w2 : wr .u64 ((n : Int) + (yp : Int)) = (n2 : Int) := by rw [show (n : Int) + (yp : Int) = ((n2 : Nat) : Int) by omega]; exact u64n _ nl
      refine ⟨_, h', by
        simp (config := {maxSteps := 2000000}) (disch := first | omega | (simp only [List.length_cons, List.length_nil, List.length_append, List.length_drop]; omega)) only [L_purserref01_Number_0, t0, t3, t4, h4, cg, c0, wi, ix, r1, wy, w1, w2, vbeq_int, ↓s_len, x_lenS, ↓b_xor32, ↓b_and32, ↓b_or32, ↓u_not32, b_xor32, b_and32, b_or32, u_not32, w32ad, ↓x_conv, x_convV, ↓x_fieldAddr, x_fieldV, ↓s_nilchk, x_nilchk, Nat.zero_add, Nat.add_zero, Nat.mul_one, ↓s_evD, ↓s_dnil, ↓s_dL, ↓s_dLg, ↓s_dR, ↓s_dRg, ↓s_dRj, ↓s_dRjg, ↓s_dB, ↓s_dBg, ↓s_dAlloc, ↓s_bindD, s_bindD, s_finD, s_finDx, s_addP0, s_addP1, s_addB, s_lookP, ↓s_bump0, ↓s_bump_get, s_bump_next, s_ok0, ↓s_ok1, s_okR0, ↓s_okR1, ↓s_okE, s_okE, s_okE1, s_nth0, s_nthS, Nat.add_zero, Bool.and_self, Bool.and_true, Bool.true_and, ↓l_loop, ↓l_succ, ↓l_normal, l_normal, l_exit, l_ret, l_iteN, ↓h_put_get, ↓h_new_get, ↓h_del_get, h_next_put, h_next_new, h_next_del, Nat.add_assoc, Nat.add_eq_left, Nat.left_eq_add, Nat.add_left_cancel_iff, ↓s_load, m_load, ↓m_load1, m_load1, ↓m_st, m_stE, m_storeI, m_storeE, w_zero, w_succ, ↓s_alloc, ↓x_idxA, ↓x_idxS, x_idxAE, x_idxSE, x_addrE, x_idx, x_lenS, ↓s_len, ↓x_buildS, x_buildE, ↓x_P0, ↓x_P1, x_fill0, x_filli, x_fills, x_fillb, c_int, List.length_cons, List.length_nil, List.cons_append, List.drop_succ_cons, List.drop_zero, List.drop_nil, List.nil_append, Int.reduceAdd, Int.reduceToNat, Int.reduceLT, Int.reduceLE, Nat.reduceAdd, Nat.reduceMul, Nat.reduceLeDiff, Int.reduceEq, Int.reduceSub, Int.cast_ofNat_Int, s_resc, s_consR, m_load4, m_store4, s_res0, ↓s_skip, ↓s_ops, ↓s_dops, ↓s_seq, ↓s_cond, ↓s_block, ↓s_exit, ↓s_ret, ↓s_scope, ↓s_nil, ↓s_op, ↓s_opg, ↓s_wanted', ↓s_wantV, s_wantV, s_wantV0, beq_true, beq_false, ↓s_bindS, s_bindS, ↓s_bindE, s_bindE, s_bindE_ret, s_bindE_exit, s_bindE_iteN, s_norm, ↓s_condV, s_condV, s_block_ret, s_block_normal, s_block_exit, s_block_iteN, ↓s_getp, ↓s_getp0, ↓s_get, s_get0, ↓s_con, ↓s_fn, ↓s_os0, ↓s_os1, ↓s_list0, ↓s_list1, ↓s_mov, ↓s_pick, ↓s_pickE, s_pickE, ↓s_bin, ↓s_un, ↓s_minmax, ↓s_call, ↓s_callv, ↓s_callV, ↓s_ext, s_same, b_eql, b_neq, b_lss, b_leq, b_gtr, b_geq, b_add, b_sub, b_mul, b_eqlb, b_neqb, b_fnil, b_fnil', b_fnil2, b_fnil2', u_neg, u_not, m_two, s_end, s_end', s_end_iteN, s_res0, s_res1, s_tup1, s_tup2, ↓iteN_true, ↓iteN_false, iteN_true, iteN_false, Nat.zero_add, List.nil_append, List.append_nil, Nat.reduceEqDiff, reduceIte, decide_true, decide_false, Bool.not_true, Bool.not_false, List.getElem?_cons_zero, List.getElem?_cons_succ, Bool.false_eq_true, if_true, if_false, beq_self_eq_true]
        exact rfl, ⟨i1, (by (simp only [s_getp, s_getp0, Nat.reduceEqDiff, decide_false, decide_true, iteN_false, iteN_true, t0]; try rfl)), by rw [en2]; exact (by (simp only [s_getp, s_getp0, Nat.reduceEqDiff, decide_false, decide_true, iteN_false, iteN_true, t3]; try rfl)), (by (simp only [s_getp, s_getp0, Nat.reduceEqDiff, decide_false, decide_true, iteN_false, iteN_true, t4]; try rfl)), rfl⟩⟩) (fun T h' I => by
      obtain ⟨il, t0, t3, t4, hh⟩ := I
      rw [List.take_length] at t3
      have c0 : decide ((l.length : Int) < (l.length : Int)) = false := decide_eq_false (by omega)
      refine ⟨_, _, by
        simp (config := {maxSteps := 2000000}) (disch := first | omega | (simp only [List.length_cons, List.length_nil, List.length_append, List.length_drop]; omega)) only [L_purserref01_Number_0, t0, t4, c0, ↓s_len, x_lenS, ↓b_xor32, ↓b_and32, ↓b_or32, ↓u_not32, b_xor32, b_and32, b_or32, u_not32, w32ad, ↓x_conv, x_convV, ↓x_fieldAddr, x_fieldV, ↓s_nilchk, x_nilchk, Nat.zero_add, Nat.add_zero, Nat.mul_one, ↓l_loop, ↓l_succ, ↓l_normal, l_normal, l_exit, l_ret, l_iteN, ↓h_put_get, ↓h_new_get, ↓h_del_get, h_next_put, h_next_new, h_next_del, Nat.add_assoc, Nat.add_eq_left, Nat.left_eq_add, Nat.add_left_cancel_iff, ↓s_load, m_load, ↓m_load1, m_load1, ↓m_st, m_stE, m_storeI, m_storeE, w_zero, w_succ, ↓s_alloc, ↓x_idxA, ↓x_idxS, x_idxAE, x_idxSE, x_addrE, x_idx, x_lenS, ↓s_len, ↓x_buildS, x_buildE, ↓x_P0, ↓x_P1, x_fill0, x_filli, x_fills, x_fillb, c_int, List.length_cons, List.length_nil, List.cons_append, List.drop_succ_cons, List.drop_zero, List.drop_nil, List.nil_append, Int.reduceAdd, Int.reduceToNat, Int.reduceLT, Int.reduceLE, Nat.reduceAdd, Nat.reduceMul, Nat.reduceLeDiff, Int.reduceEq, Int.reduceSub, Int.cast_ofNat_Int, s_resc, s_consR, m_load4, m_store4, s_res0, ↓s_skip, ↓s_ops, ↓s_dops, ↓s_seq, ↓s_cond, ↓s_block, ↓s_exit, ↓s_ret, ↓s_scope, ↓s_nil, ↓s_op, ↓s_opg, ↓s_wanted', ↓s_wantV, s_wantV, s_wantV0, beq_true, beq_false, ↓s_bindS, s_bindS, ↓s_bindE, s_bindE, s_bindE_ret, s_bindE_exit, s_bindE_iteN, s_norm, ↓s_condV, s_condV, s_block_ret, s_block_normal, s_block_exit, s_block_iteN, ↓s_getp, ↓s_getp0, ↓s_get, s_get0, ↓s_con, ↓s_fn, ↓s_os0, ↓s_os1, ↓s_list0, ↓s_list1, ↓s_mov, ↓s_pick, ↓s_pickE, s_pickE, ↓s_bin, ↓s_un, ↓s_minmax, ↓s_call, ↓s_callv, ↓s_callV, ↓s_ext, s_same, b_eql, b_neq, b_lss, b_leq, b_gtr, b_geq, b_add, b_sub, b_mul, b_eqlb, b_neqb, b_fnil, b_fnil', b_fnil2, b_fnil2', u_neg, u_not, m_two, s_end, s_end', s_end_iteN, s_res0, s_res1, s_tup1, s_tup2, ↓iteN_true, ↓iteN_false, iteN_true, iteN_false, Nat.zero_add, List.nil_append, List.append_nil, Nat.reduceEqDiff, reduceIte, decide_true, decide_false, Bool.not_true, Bool.not_false, List.getElem?_cons_zero, List.getElem?_cons_succ, Bool.false_eq_true, if_true, if_false, beq_self_eq_true]
        exact rfl, (by (simp only [s_getp, s_getp0, Nat.reduceEqDiff, decide_false, decide_true, iteN_false, iteN_true, t3]; try rfl)), hh⟩) l.length 0 (by omega) (N + 19) (by omega) T h I
    rw [r, hh]
    simp (config := {maxSteps := 2000000}) (disch := first | omega | (simp only [List.length_cons, List.length_nil, List.length_append, List.length_drop]; omega)) only [R_purserref01_Number_0, t3, ↓b_xor32, ↓b_and32, ↓b_or32, ↓u_not32, b_xor32, b_and32, b_or32, u_not32, w32ad, ↓x_conv, x_convV, ↓x_fieldAddr, x_fieldV, ↓s_nilchk, x_nilchk, Nat.zero_add, Nat.add_zero, Nat.mul_one, ↓l_loop, ↓l_succ, ↓l_normal, l_normal, l_exit, l_ret, l_iteN, ↓h_put_get, ↓h_new_get, ↓h_del_get, h_next_put, h_next_new, h_next_del, Nat.add_assoc, Nat.add_eq_left, Nat.left_eq_add, Nat.add_left_cancel_iff, ↓s_load, m_load, ↓m_load1, m_load1, ↓m_st, m_stE, m_storeI, m_storeE, w_zero, w_succ, ↓s_alloc, ↓x_idxA, ↓x_idxS, x_idxAE, x_idxSE, x_addrE, x_idx, x_lenS, ↓s_len, ↓x_buildS, x_buildE, ↓x_P0, ↓x_P1, x_fill0, x_filli, x_fills, x_fillb, c_int, List.length_cons, List.length_nil, List.cons_append, List.drop_succ_cons, List.drop_zero, List.drop_nil, List.nil_append, Int.reduceAdd, Int.reduceToNat, Int.reduceLT, Int.reduceLE, Nat.reduceAdd, Nat.reduceMul, Nat.reduceLeDiff, Int.reduceEq, Int.reduceSub, Int.cast_ofNat_Int, s_resc, s_consR, m_load4, m_store4, s_res0, ↓s_skip, ↓s_ops, ↓s_dops, ↓s_seq, ↓s_cond, ↓s_block, ↓s_exit, ↓s_ret, ↓s_scope, ↓s_nil, ↓s_op, ↓s_opg, ↓s_wanted', ↓s_wantV, s_wantV, s_wantV0, beq_true, beq_false, ↓s_bindS, s_bindS, ↓s_bindE, s_bindE, s_bindE_ret, s_bindE_exit, s_bindE_iteN, s_norm, ↓s_condV, s_condV, s_block_ret, s_block_normal, s_block_exit, s_block_iteN, ↓s_getp, ↓s_getp0, ↓s_get, s_get0, ↓s_con, ↓s_fn, ↓s_os0, ↓s_os1, ↓s_list0, ↓s_list1, ↓s_mov, ↓s_pick, ↓s_pickE, s_pickE, ↓s_bin, ↓s_un, ↓s_minmax, ↓s_call, ↓s_callv, ↓s_callV, ↓s_ext, s_same, b_eql, b_neq, b_lss, b_leq, b_gtr, b_geq, b_add, b_sub, b_mul, b_eqlb, b_neqb, b_fnil, b_fnil', b_fnil2, b_fnil2', u_neg, u_not, m_two, s_end, s_end', s_end_iteN, s_res0, s_res1, s_tup1, s_tup2, ↓iteN_true, ↓iteN_false, iteN_true, iteN_false, Nat.zero_add, List.nil_append, List.append_nil, Nat.reduceEqDiff, reduceIte, decide_true, decide_false, Bool.not_true, Bool.not_false, List.getElem?_cons_zero, List.getElem?_cons_succ, Bool.false_eq_true, if_true, if_false, beq_self_eq_true]
  obtain ⟨R, eR⟩ : ∃ R, R_purserref01_Number_0 = R := ⟨_, rfl⟩
  obtain ⟨Lo, eL⟩ : ∃ R, L_purserref01_Number_0 = R := ⟨_, rfl⟩
  rw [eR, eL] at fin ⊢
  simp (config := {maxSteps := 2000000}) (disch := first | omega | (simp only [List.length_cons, List.length_nil, List.length_append, List.length_drop]; omega)) only [↓b_xor32, ↓b_and32, ↓b_or32, ↓u_not32, b_xor32, b_and32, b_or32, u_not32, w32ad, ↓x_conv, x_convV, ↓x_fieldAddr, x_fieldV, ↓s_nilchk, x_nilchk, Nat.zero_add, Nat.add_zero, Nat.mul_one, ↓l_loop, ↓l_succ, ↓l_normal, l_normal, l_exit, l_ret, l_iteN, ↓h_put_get, ↓h_new_get, ↓h_del_get, h_next_put, h_next_new, h_next_del, Nat.add_assoc, Nat.add_eq_left, Nat.left_eq_add, Nat.add_left_cancel_iff, ↓s_load, m_load, ↓m_load1, m_load1, ↓m_st, m_stE, m_storeI, m_storeE, w_zero, w_succ, ↓s_alloc, ↓x_idxA, ↓x_idxS, x_idxAE, x_idxSE, x_addrE, x_idx, x_lenS, ↓s_len, ↓x_buildS, x_buildE, ↓x_P0, ↓x_P1, x_fill0, x_filli, x_fills, x_fillb, c_int, List.length_cons, List.length_nil, List.cons_append, List.drop_succ_cons, List.drop_zero, List.drop_nil, List.nil_append, Int.reduceAdd, Int.reduceToNat, Int.reduceLT, Int.reduceLE, Nat.reduceAdd, Nat.reduceMul, Nat.reduceLeDiff, Int.reduceEq, Int.reduceSub, Int.cast_ofNat_Int, s_resc, s_consR, m_load4, m_store4, s_res0, ↓s_skip, ↓s_ops, ↓s_dops, ↓s_seq, ↓s_cond, ↓s_block, ↓s_exit, ↓s_ret, ↓s_scope, ↓s_nil, ↓s_op, ↓s_opg, ↓s_wanted', ↓s_wantV, s_wantV, s_wantV0, beq_true, beq_false, ↓s_bindS, s_bindS, ↓s_bindE, s_bindE, s_bindE_ret, s_bindE_exit, s_bindE_iteN, s_norm, ↓s_condV, s_condV, s_block_ret, s_block_normal, s_block_exit, s_block_iteN, ↓s_getp, ↓s_getp0, ↓s_get, s_get0, ↓s_con, ↓s_fn, ↓s_os0, ↓s_os1, ↓s_list0, ↓s_list1, ↓s_mov, ↓s_pick, ↓s_pickE, s_pickE, ↓s_bin, ↓s_un, ↓s_minmax, ↓s_call, ↓s_callv, ↓s_callV, ↓s_ext, s_same, b_eql, b_neq, b_lss, b_leq, b_gtr, b_geq, b_add, b_sub, b_mul, b_eqlb, b_neqb, b_fnil, b_fnil', b_fnil2, b_fnil2', u_neg, u_not, m_two, s_end, s_end', s_end_iteN, s_res0, s_res1, s_tup1, s_tup2, ↓iteN_true, ↓iteN_false, iteN_true, iteN_false, Nat.zero_add, List.nil_append, List.append_nil, Nat.reduceEqDiff, reduceIte, decide_true, decide_false, Bool.not_true, Bool.not_false, List.getElem?_cons_zero, List.getElem?_cons_succ, Bool.false_eq_true, if_true, if_false, beq_self_eq_true]
  exact fin _ ⟨by omega, (by (simp only [s_getp, s_getp0, Nat.reduceEqDiff, decide_false, decide_true, iteN_false, iteN_true, eL]; try rfl)), by rw [List.take_zero]; show _ = V.int .u64 ((0 : Nat) : Int); exact (by (simp only [s_getp, s_getp0, Nat.reduceEqDiff, decide_false, decide_true, iteN_false, iteN_true, eL]; try rfl)), (by (simp only [s_getp, s_getp0, Nat.reduceEqDiff, decide_false, decide_true, iteN_false, iteN_true, eL]; try rfl)), rfl⟩
end Go.Eng
namespace Go.Eng
open Go
variable {E : Nat → Option Fn} {X : Orc}
set_option linter.unusedSimpArgs false
set_option linter.unusedVariables false
theorem src_atR {h : H} {a : Option (Nat × Nat)} {l : List Nat} {bi off : Nat} {vs : List V} (h6 : (vs.drop off).take l.length = ofI .u8 l) (i : Nat) (hi : i < l.length) : vs[off + i]? = some (.int .u8 (l.getD i 0 : Nat)) := by
  have : ((vs.drop off).take l.length)[i]? = (ofI .u8 l)[i]? := by rw [h6]
  rw [List.getElem?_take_of_lt hi, List.getElem?_drop, ofI_get _ _ _ hi] at this
  exact this
theorem getD_dropR (l : List Nat) (n i : Nat) : (l.drop n).getD i 0 = l.getD (n + i) 0 := by
  rw [List.getD_eq_getElem?_getD, List.getD_eq_getElem?_getD, List.getElem?_drop]
theorem vb_str (l : List Nat) : (V.str l).beq (V.str l) = true := by
  unfold V.beq; rw [strEq_dec]; simp
def ddR (E : Nat → Option Fn) (X : Orc) (N : Nat) (h : H) (v : V) (at_ : Nat) (h' : H) : Option (Rq × Nat) → Prop
  | none => callX E X N (.fn k_purserref16_Decode) [v, .int .i64 (at_ : Int)] h = some (.tup [.agg [.int .i64 0, .slice none 0 (some 0) 0], .int .i64 0, .int .i64 160], h')
  | some (o, k) => ∃ a2 c2 e2, callX E X N (.fn k_purserref16_Decode) [v, .int .i64 (at_ : Int)] h = some (.tup [.agg [.int .i64 o.kind, .slice a2 o.l.length c2 e2], .int .i64 ((at_ + k : Nat) : Int), .int .i64 0], h') ∧ Wb h' o.l a2 c2 e2 ∧ ∀ q z, a2 = some (q, z) → h.next < q
theorem ddecode_bad (ed : E k_purserref16_Decode = some f_purserref16_Decode) (xd : ∀ a h, X (.fn k_purserref16_Decode) a h = none) (N : Nat) (n : Nat) (hn : n ≤ 1000000) (at_ : Int) (hat : at_ < 0 ∨ (n : Int) < at_ ∨ (n : Int) < at_ + 13) (a : Option (Nat × Nat)) (c : Option Nat) (ez : Nat) (h : H) :
    ∃ h', Kp h h' ∧ callX E X (N + 2) (.fn k_purserref16_Decode) [.slice a n c ez, .int .i64 at_] h = some (.tup [.agg [.int .i64 0, .slice none 0 (some 0) 0], .int .i64 0, .int .i64 160], h') := by
  obtain ⟨hA, eA⟩ : ∃ hA, h.new (.cells [.int .i64 0, .slice none 0 (some 0) 0] .rw) = hA := ⟨_, rfl⟩
  have kA : Kp h hA := by rw [← eA]; exact Kp.new _ _
  have gA : hA.get h.next = some (.cells [.int .i64 0, .slice none 0 (some 0) 0] .rw) := by rw [← eA]; exact h_new_same _ _
  obtain ⟨hF, eF⟩ : ∃ hF, hA.put h.next (.cells [.int .i64 0, .slice none 0 (some 0) 0] .rw) = hF := ⟨_, rfl⟩
  have kF : Kp h hF := by rw [← eF]; exact kA.put _ (Nat.le_refl _)
  have gF : hF.get h.next = some (.cells [.int .i64 0, .slice none 0 (some 0) 0] .rw) := by rw [← eF]; exact h_put_same _ _ _
  refine ⟨hF, kF, ?_⟩
  rw [x_cfn ed _ _ (Nat.le_of_ble_eq_true rfl) (xd _ _)]
  by_cases h0 : at_ < 0
  · have c0 : decide (at_ < 0) = true := decide_eq_true h0
    simp (config := {maxSteps := 2000000}) (disch := first | omega | (simp only [List.length_cons, List.length_nil, List.length_append, List.length_drop]; omega)) only [eA, gA, c0, eF, gF, st2i, st2ir, ld2, x_build, x_aggO, x_P0, x_P1, x_fill0, x_fills, x_fillb, x_filli, ↓x_slcS, x_M0, x_M1, ↓s_len, x_lenS, ↓b_xor32, ↓b_and32, ↓b_or32, ↓u_not32, b_xor32, b_and32, b_or32, u_not32, w32ad, ↓x_conv, x_convV, ↓x_fieldAddr, x_fieldV, ↓s_nilchk, x_nilchk, Nat.zero_add, Nat.add_zero, Nat.mul_one, ↓s_evD, ↓s_dnil, ↓s_dL, ↓s_dLg, ↓s_dR, ↓s_dRg, ↓s_dRj, ↓s_dRjg, ↓s_dB, ↓s_dBg, ↓s_dAlloc, ↓s_bindD, s_bindD, s_finD, s_finDx, s_addP0, s_addP1, s_addB, s_lookP, ↓s_bump0, ↓s_bump_get, s_bump_next, s_ok0, ↓s_ok1, s_okR0, ↓s_okR1, ↓s_okE, s_okE, s_okE1, s_nth0, s_nthS, Nat.add_zero, Bool.and_self, Bool.and_true, Bool.true_and, ↓l_loop, ↓l_succ, ↓l_normal, l_normal, l_exit, l_ret, l_iteN, ↓h_put_get, ↓h_new_get, ↓h_del_get, h_next_put, h_next_new, h_next_del, Nat.add_assoc, Nat.add_eq_left, Nat.left_eq_add, Nat.add_left_cancel_iff, ↓s_load, m_load, ↓m_load1, m_load1, ↓m_st, m_stE, m_storeI, m_storeE, w_zero, w_succ, ↓s_alloc, ↓x_idxA, ↓x_idxS, x_idxAE, x_idxSE, x_addrE, x_idx, x_lenS, ↓s_len, ↓x_buildS, x_buildE, ↓x_P0, ↓x_P1, x_fill0, x_filli, x_fills, x_fillb, c_int, List.length_cons, List.length_nil, List.cons_append, List.drop_succ_cons, List.drop_zero, List.drop_nil, List.nil_append, Int.reduceAdd, Int.reduceToNat, Int.reduceLT, Int.reduceLE, Nat.reduceAdd, Nat.reduceMul, Nat.reduceLeDiff, Int.reduceEq, Int.reduceSub, Int.cast_ofNat_Int, s_resc, s_consR, m_load4, m_store4, s_res0, ↓s_skip, ↓s_ops, ↓s_dops, ↓s_seq, ↓s_cond, ↓s_block, ↓s_exit, ↓s_ret, ↓s_scope, ↓s_nil, ↓s_op, ↓s_opg, ↓s_wanted', ↓s_wantV, s_wantV, s_wantV0, beq_true, beq_false, ↓s_bindS, s_bindS, ↓s_bindE, s_bindE, s_bindE_ret, s_bindE_exit, s_bindE_iteN, s_norm, ↓s_condV, s_condV, s_block_ret, s_block_normal, s_block_exit, s_block_iteN, ↓s_getp, ↓s_getp0, ↓s_get, s_get0, ↓s_con, ↓s_fn, ↓s_os0, ↓s_os1, ↓s_list0, ↓s_list1, ↓s_mov, ↓s_pick, ↓s_pickE, s_pickE, ↓s_bin, ↓s_un, ↓s_minmax, ↓s_call, ↓s_callv, ↓s_callV, ↓s_ext, s_same, b_eql, b_neq, b_lss, b_leq, b_gtr, b_geq, b_add, b_sub, b_mul, b_eqlb, b_neqb, b_fnil, b_fnil', b_fnil2, b_fnil2', u_neg, u_not, m_two, s_end, s_end', s_end_iteN, s_res0, s_res1, s_tup1, s_tup2, ↓iteN_true, ↓iteN_false, iteN_true, iteN_false, Nat.zero_add, List.nil_append, List.append_nil, Nat.reduceEqDiff, reduceIte, decide_true, decide_false, Bool.not_true, Bool.not_false, List.getElem?_cons_zero, List.getElem?_cons_succ, Bool.false_eq_true, if_true, if_false, beq_self_eq_true]
    try rfl
  · have c0 : decide (at_ < 0) = false := decide_eq_false h0
    by_cases h1 : (n : Int) < at_
    · have c1 : decide ((n : Int) < at_) = true := decide_eq_true h1
      simp (config := {maxSteps := 2000000}) (disch := first | omega | (simp only [List.length_cons, List.length_nil, List.length_append, List.length_drop]; omega)) only [eA, gA, c0, c1, eF, gF, st2i, st2ir, ld2, x_build, x_aggO, x_P0, x_P1, x_fill0, x_fills, x_fillb, x_filli, ↓x_slcS, x_M0, x_M1, ↓s_len, x_lenS, ↓b_xor32, ↓b_and32, ↓b_or32, ↓u_not32, b_xor32, b_and32, b_or32, u_not32, w32ad, ↓x_conv, x_convV, ↓x_fieldAddr, x_fieldV, ↓s_nilchk, x_nilchk, Nat.zero_add, Nat.add_zero, Nat.mul_one, ↓s_evD, ↓s_dnil, ↓s_dL, ↓s_dLg, ↓s_dR, ↓s_dRg, ↓s_dRj, ↓s_dRjg, ↓s_dB, ↓s_dBg, ↓s_dAlloc, ↓s_bindD, s_bindD, s_finD, s_finDx, s_addP0, s_addP1, s_addB, s_lookP, ↓s_bump0, ↓s_bump_get, s_bump_next, s_ok0, ↓s_ok1, s_okR0, ↓s_okR1, ↓s_okE, s_okE, s_okE1, s_nth0, s_nthS, Nat.add_zero, Bool.and_self, Bool.and_true, Bool.true_and, ↓l_loop, ↓l_succ, ↓l_normal, l_normal, l_exit, l_ret, l_iteN, ↓h_put_get, ↓h_new_get, ↓h_del_get, h_next_put, h_next_new, h_next_del, Nat.add_assoc, Nat.add_eq_left, Nat.left_eq_add, Nat.add_left_cancel_iff, ↓s_load, m_load, ↓m_load1, m_load1, ↓m_st, m_stE, m_storeI, m_storeE, w_zero, w_succ, ↓s_alloc, ↓x_idxA, ↓x_idxS, x_idxAE, x_idxSE, x_addrE, x_idx, x_lenS, ↓s_len, ↓x_buildS, x_buildE, ↓x_P0, ↓x_P1, x_fill0, x_filli, x_fills, x_fillb, c_int, List.length_cons, List.length_nil, List.cons_append, List.drop_succ_cons, List.drop_zero, List.drop_nil, List.nil_append, Int.reduceAdd, Int.reduceToNat, Int.reduceLT, Int.reduceLE, Nat.reduceAdd, Nat.reduceMul, Nat.reduceLeDiff, Int.reduceEq, Int.reduceSub, Int.cast_ofNat_Int, s_resc, s_consR, m_load4, m_store4, s_res0, ↓s_skip, ↓s_ops, ↓s_dops, ↓s_seq, ↓s_cond, ↓s_block, ↓s_exit, ↓s_ret, ↓s_scope, ↓s_nil, ↓s_op, ↓s_opg, ↓s_wanted', ↓s_wantV, s_wantV, s_wantV0, beq_true, beq_false, ↓s_bindS, s_bindS, ↓s_bindE, s_bindE, s_bindE_ret, s_bindE_exit, s_bindE_iteN, s_norm, ↓s_condV, s_condV, s_block_ret, s_block_normal, s_block_exit, s_block_iteN, ↓s_getp, ↓s_getp0, ↓s_get, s_get0, ↓s_con, ↓s_fn, ↓s_os0, ↓s_os1, ↓s_list0, ↓s_list1, ↓s_mov, ↓s_pick, ↓s_pickE, s_pickE, ↓s_bin, ↓s_un, ↓s_minmax, ↓s_call, ↓s_callv, ↓s_callV, ↓s_ext, s_same, b_eql, b_neq, b_lss, b_leq, b_gtr, b_geq, b_add, b_sub, b_mul, b_eqlb, b_neqb, b_fnil, b_fnil', b_fnil2, b_fnil2', u_neg, u_not, m_two, s_end, s_end', s_end_iteN, s_res0, s_res1, s_tup1, s_tup2, ↓iteN_true, ↓iteN_false, iteN_true, iteN_false, Nat.zero_add, List.nil_append, List.append_nil, Nat.reduceEqDiff, reduceIte, decide_true, decide_false, Bool.not_true, Bool.not_false, List.getElem?_cons_zero, List.getElem?_cons_succ, Bool.false_eq_true, if_true, if_false, beq_self_eq_true]
      try rfl
    · have c1 : decide ((n : Int) < at_) = false := decide_eq_false h1
      have w1 : wr .i64 ((n : Int) - at_) = (n : Int) - at_ := wr_i64 (by omega)
      have c2 : decide ((n : Int) - at_ < 13) = true := decide_eq_true (by omega)
      simp (config := {maxSteps := 2000000}) (disch := first | omega | (simp only [List.length_cons, List.length_nil, List.length_append, List.length_drop]; omega)) only [eA, gA, c0, c1, w1, c2, eF, gF, st2i, st2ir, ld2, x_build, x_aggO, x_P0, x_P1, x_fill0, x_fills, x_fillb, x_filli, ↓x_slcS, x_M0, x_M1, ↓s_len, x_lenS, ↓b_xor32, ↓b_and32, ↓b_or32, ↓u_not32, b_xor32, b_and32, b_or32, u_not32, w32ad, ↓x_conv, x_convV, ↓x_fieldAddr, x_fieldV, ↓s_nilchk, x_nilchk, Nat.zero_add, Nat.add_zero, Nat.mul_one, ↓s_evD, ↓s_dnil, ↓s_dL, ↓s_dLg, ↓s_dR, ↓s_dRg, ↓s_dRj, ↓s_dRjg, ↓s_dB, ↓s_dBg, ↓s_dAlloc, ↓s_bindD, s_bindD, s_finD, s_finDx, s_addP0, s_addP1, s_addB, s_lookP, ↓s_bump0, ↓s_bump_get, s_bump_next, s_ok0, ↓s_ok1, s_okR0, ↓s_okR1, ↓s_okE, s_okE, s_okE1, s_nth0, s_nthS, Nat.add_zero, Bool.and_self, Bool.and_true, Bool.true_and, ↓l_loop, ↓l_succ, ↓l_normal, l_normal, l_exit, l_ret, l_iteN, ↓h_put_get, ↓h_new_get, ↓h_del_get, h_next_put, h_next_new, h_next_del, Nat.add_assoc, Nat.add_eq_left, Nat.left_eq_add, Nat.add_left_cancel_iff, ↓s_load, m_load, ↓m_load1, m_load1, ↓m_st, m_stE, m_storeI, m_storeE, w_zero, w_succ, ↓s_alloc, ↓x_idxA, ↓x_idxS, x_idxAE, x_idxSE, x_addrE, x_idx, x_lenS, ↓s_len, ↓x_buildS, x_buildE, ↓x_P0, ↓x_P1, x_fill0, x_filli, x_fills, x_fillb, c_int, List.length_cons, List.length_nil, List.cons_append, List.drop_succ_cons, List.drop_zero, List.drop_nil, List.nil_append, Int.reduceAdd, Int.reduceToNat, Int.reduceLT, Int.reduceLE, Nat.reduceAdd, Nat.reduceMul, Nat.reduceLeDiff, Int.reduceEq, Int.reduceSub, Int.cast_ofNat_Int, s_resc, s_consR, m_load4, m_store4, s_res0, ↓s_skip, ↓s_ops, ↓s_dops, ↓s_seq, ↓s_cond, ↓s_block, ↓s_exit, ↓s_ret, ↓s_scope, ↓s_nil, ↓s_op, ↓s_opg, ↓s_wanted', ↓s_wantV, s_wantV, s_wantV0, beq_true, beq_false, ↓s_bindS, s_bindS, ↓s_bindE, s_bindE, s_bindE_ret, s_bindE_exit, s_bindE_iteN, s_norm, ↓s_condV, s_condV, s_block_ret, s_block_normal, s_block_exit, s_block_iteN, ↓s_getp, ↓s_getp0, ↓s_get, s_get0, ↓s_con, ↓s_fn, ↓s_os0, ↓s_os1, ↓s_list0, ↓s_list1, ↓s_mov, ↓s_pick, ↓s_pickE, s_pickE, ↓s_bin, ↓s_un, ↓s_minmax, ↓s_call, ↓s_callv, ↓s_callV, ↓s_ext, s_same, b_eql, b_neq, b_lss, b_leq, b_gtr, b_geq, b_add, b_sub, b_mul, b_eqlb, b_neqb, b_fnil, b_fnil', b_fnil2, b_fnil2', u_neg, u_not, m_two, s_end, s_end', s_end_iteN, s_res0, s_res1, s_tup1, s_tup2, ↓iteN_true, ↓iteN_false, iteN_true, iteN_false, Nat.zero_add, List.nil_append, List.append_nil, Nat.reduceEqDiff, reduceIte, decide_true, decide_false, Bool.not_true, Bool.not_false, List.getElem?_cons_zero, List.getElem?_cons_succ, Bool.false_eq_true, if_true, if_false, beq_self_eq_true]
      try rfl
theorem dc_is (b : List Nat) (bb : byt b = true) (h13 : 13 ≤ b.length) (n : Nat) (en : numV ((b.drop 1).take 4) = n) : dcV b = if 200000 < n ∨ b.length < 13 + n then none else if rqB ⟨(b.getD 0 0 : Nat), (b.drop 9).take n⟩ = b.take (13 + n) then some (⟨(b.getD 0 0 : Nat), (b.drop 9).take n⟩, 13 + n) else none := by
  by_cases c1 : 200000 < n ∨ b.length < 13 + n
  · rw [if_pos c1]
    unfold dcV
    rw [if_neg (by omega), en]
    by_cases c2 : barE (b.take 9) ≠ 0
    · rw [if_pos c2]
    · rw [if_neg c2]
      by_cases c3 : 200000 < n
      · rw [if_pos c3]
      · rw [if_neg c3, if_pos (by omega)]
  · rw [if_neg c1]
    have ll : ((b.drop 9).take n).length = n := by rw [List.length_take, List.length_drop]; omega
    have y0 : b.getD 0 0 < 256 := bytD bb 0
    have rok : rqOk ⟨(b.getD 0 0 : Nat), (b.drop 9).take n⟩ = true := by
      unfold rqOk
      simp only [Bool.and_eq_true, decide_eq_true_eq]
      exact ⟨⟨by omega, by omega⟩, by rw [ll]; omega⟩
    by_cases c2 : rqB ⟨(b.getD 0 0 : Nat), (b.drop 9).take n⟩ = b.take (13 + n)
    · rw [if_pos c2]
      have e : b = rqB ⟨(b.getD 0 0 : Nat), (b.drop 9).take n⟩ ++ b.drop (13 + n) := by rw [c2, List.take_append_drop]
      have d := dc_ok ⟨(b.getD 0 0 : Nat), (b.drop 9).take n⟩ rok (fun l => onV_lt 0 l) (b.drop (13 + n))
      rw [← e, rqB_len] at d
      simp only [ll] at d
      exact d
    · rw [if_neg c2]
      cases hd : dcV b with
      | none => rfl
      | some z =>
        obtain ⟨o, k⟩ := z
        exfalso
        obtain ⟨f1, f2, f3, f4, f5⟩ := dc_of b bb o k hd
        unfold dcV at hd
        rw [if_neg (by omega)] at hd
        by_cases d2 : barE (b.take 9) ≠ 0
        · rw [if_pos d2] at hd; cases hd
        rw [if_neg d2, en, if_neg (by omega), if_neg (by omega)] at hd
        by_cases d5 : barE ((b.drop 9).take (n + 4)) ≠ 0
        · rw [if_pos d5] at hd; cases hd
        rw [if_neg d5] at hd
        simp only [Option.some.injEq, Prod.mk.injEq] at hd
        obtain ⟨rfl, rfl⟩ := hd
        exact c2 f3.symm
set_option maxRecDepth 100000 in
set_option maxHeartbeats 1000000 in
theorem ddecode_ok (ed : E k_purserref16_Decode = some f_purserref16_Decode) (xd : ∀ a h, X (.fn k_purserref16_Decode) a h = none) (e : EnRo E) (x : NoRo X) (eg : EnRg E) (xg : NoRg X) (N : Nat) (s : List Nat) (bs : byt s = true) (hs : s.length ≤ 50000) (at_ : Nat) (hat : at_ + 13 ≤ s.length) (a : Option (Nat × Nat)) (h : H) (src : SrcH h a 1 s) :
    ∃ h', Kp h h' ∧ ddR E X (N + 50103) h (.slice a s.length none 1) at_ h' (dcV (s.drop at_)) := by
  obtain ⟨b, eb⟩ : ∃ b, s.drop at_ = b := ⟨_, rfl⟩
  have lb : b.length = s.length - at_ := by rw [← eb, List.length_drop]
  have bb : byt b = true := by rw [← eb]; exact byt_drop bs _
  rw [eb]
  obtain ⟨n, en⟩ : ∃ n, numV ((b.drop 1).take 4) = n := ⟨_, rfl⟩
  rw [dc_is b bb (by omega) n en]
  obtain ⟨hA, eA⟩ : ∃ hA, h.new (.cells [.int .i64 0, .slice none 0 (some 0) 0] .rw) = hA := ⟨_, rfl⟩
  have kA : Kp h hA := by rw [← eA]; exact Kp.new _ _
  have nA : hA.next = h.next + 1 := by rw [← eA]; rfl
  have gA : hA.get h.next = some (.cells [.int .i64 0, .slice none 0 (some 0) 0] .rw) := by rw [← eA]; exact h_new_same _ _
  have c0 : decide ((at_ : Int) < 0) = false := decide_eq_false (by omega)
  have c1 : decide ((s.length : Int) < (at_ : Int)) = false := decide_eq_false (by omega)
  have w1 : wr .i64 ((s.length : Int) - (at_ : Int)) = ((b.length : Nat) : Int) := by rw [wr_i64 (by omega)]; omega
  have c2 : decide ((b.length : Int) < 13) = false := decide_eq_false (by omega)
  have w2 : wr .i64 ((at_ : Int) + 1) = ((at_ + 1 : Nat) : Int) := by rw [wr_i64 (by omega)]; omega
  have w3 : wr .i64 ((at_ : Int) + 5) = ((at_ + 5 : Nat) : Int) := by rw [wr_i64 (by omega)]; omega
  have sv1 : slcV 1 (some (.int .i64 ((at_ + 1 : Nat) : Int))) (some (.int .i64 ((at_ + 5 : Nat) : Int))) none (.slice a s.length none 1) = some (.slice (upA a (at_ + 1)) 4 none 1) := by
    rw [slcV_lhA _ _ _ _ _ _ (by omega) (by omega), show at_ + 5 - (at_ + 1) = 4 by omega]
  have e4 : (s.drop (at_ + 1)).take 4 = (b.drop 1).take 4 := by rw [← eb, List.drop_drop]
  have l4 : ((b.drop 1).take 4).length = 4 := by rw [List.length_take, List.length_drop]; omega
  have rN := rnumber_go eg xg (N + 50082) (upA a (at_ + 1)) none 1 ((b.drop 1).take 4) (byt_take (byt_drop bb _) _) (by omega) hA (by rw [← e4]; exact ((src.mono kA).drop _).take _)
  rw [l4, en] at rN
  replace rN : callX E X (N + 50102) (.fn k_purserref01_Number) [.slice (upA a (at_ + 1)) 4 none 1] hA = _ := rN
  have nl : n < 4294967296 := by have := numV_lt ((b.drop 1).take 4) (byt_take (byt_drop bb _) _); rw [l4, en] at this; exact this
  obtain ⟨hF, eF⟩ : ∃ hF, hA.put h.next (.cells [.int .i64 0, .slice none 0 (some 0) 0] .rw) = hF := ⟨_, rfl⟩
  have kF : Kp h hF := by rw [← eF]; exact kA.put _ (Nat.le_refl _)
  have gF : hF.get h.next = some (.cells [.int .i64 0, .slice none 0 (some 0) 0] .rw) := by rw [← eF]; exact h_put_same _ _ _
  have w4 : wr .i64 ((b.length : Int) - 13) = ((b.length - 13 : Nat) : Int) := by rw [wr_i64 (by omega)]; omega
  have w5 : wr .u64 ((b.length - 13 : Nat) : Int) = ((b.length - 13 : Nat) : Int) := u64n _ (by omega)
  by_cases h1 : 200000 < n ∨ b.length < 13 + n
  · rw [if_pos h1]
    refine ⟨hF, kF, ?_⟩
    show callX E X (N + 50103) _ _ _ = _
    rw [x_cfn ed _ _ (Nat.le_of_ble_eq_true rfl) (xd _ _)]
    by_cases h2 : 200000 < n
    · have c3 : decide ((200000 : Int) < (n : Int)) = true := decide_eq_true (by omega)
      generalize s.length = sl at *
      generalize b.length = bl at *
      generalize upA a (at_ + 1) = ua at *
      simp (config := {maxSteps := 2000000}) (disch := first | omega | (simp only [List.length_cons, List.length_nil, List.length_append, List.length_drop]; omega)) only [eA, gA, c0, c1, w1, c2, w2, w3, sv1, rN, c3, eF, gF, st2i, st2ir, ld2, x_build, x_aggO, x_P0, x_P1, x_fill0, x_fills, x_fillb, x_filli, ↓x_slcS, x_M0, x_M1, ↓s_len, x_lenS, ↓b_xor32, ↓b_and32, ↓b_or32, ↓u_not32, b_xor32, b_and32, b_or32, u_not32, w32ad, ↓x_conv, x_convV, ↓x_fieldAddr, x_fieldV, ↓s_nilchk, x_nilchk, Nat.zero_add, Nat.add_zero, Nat.mul_one, ↓s_evD, ↓s_dnil, ↓s_dL, ↓s_dLg, ↓s_dR, ↓s_dRg, ↓s_dRj, ↓s_dRjg, ↓s_dB, ↓s_dBg, ↓s_dAlloc, ↓s_bindD, s_bindD, s_finD, s_finDx, s_addP0, s_addP1, s_addB, s_lookP, ↓s_bump0, ↓s_bump_get, s_bump_next, s_ok0, ↓s_ok1, s_okR0, ↓s_okR1, ↓s_okE, s_okE, s_okE1, s_nth0, s_nthS, Nat.add_zero, Bool.and_self, Bool.and_true, Bool.true_and, ↓l_loop, ↓l_succ, ↓l_normal, l_normal, l_exit, l_ret, l_iteN, ↓h_put_get, ↓h_new_get, ↓h_del_get, h_next_put, h_next_new, h_next_del, Nat.add_assoc, Nat.add_eq_left, Nat.left_eq_add, Nat.add_left_cancel_iff, ↓s_load, m_load, ↓m_load1, m_load1, ↓m_st, m_stE, m_storeI, m_storeE, w_zero, w_succ, ↓s_alloc, ↓x_idxA, ↓x_idxS, x_idxAE, x_idxSE, x_addrE, x_idx, x_lenS, ↓s_len, ↓x_buildS, x_buildE, ↓x_P0, ↓x_P1, x_fill0, x_filli, x_fills, x_fillb, c_int, List.length_cons, List.length_nil, List.cons_append, List.drop_succ_cons, List.drop_zero, List.drop_nil, List.nil_append, Int.reduceAdd, Int.reduceToNat, Int.reduceLT, Int.reduceLE, Nat.reduceAdd, Nat.reduceMul, Nat.reduceLeDiff, Int.reduceEq, Int.reduceSub, Int.cast_ofNat_Int, s_resc, s_consR, m_load4, m_store4, s_res0, ↓s_skip, ↓s_ops, ↓s_dops, ↓s_seq, ↓s_cond, ↓s_block, ↓s_exit, ↓s_ret, ↓s_scope, ↓s_nil, ↓s_op, ↓s_opg, ↓s_wanted', ↓s_wantV, s_wantV, s_wantV0, beq_true, beq_false, ↓s_bindS, s_bindS, ↓s_bindE, s_bindE, s_bindE_ret, s_bindE_exit, s_bindE_iteN, s_norm, ↓s_condV, s_condV, s_block_ret, s_block_normal, s_block_exit, s_block_iteN, ↓s_getp, ↓s_getp0, ↓s_get, s_get0, ↓s_con, ↓s_fn, ↓s_os0, ↓s_os1, ↓s_list0, ↓s_list1, ↓s_mov, ↓s_pick, ↓s_pickE, s_pickE, ↓s_bin, ↓s_un, ↓s_minmax, ↓s_call, ↓s_callv, ↓s_callV, ↓s_ext, s_same, b_eql, b_neq, b_lss, b_leq, b_gtr, b_geq, b_add, b_sub, b_mul, b_eqlb, b_neqb, b_fnil, b_fnil', b_fnil2, b_fnil2', u_neg, u_not, m_two, s_end, s_end', s_end_iteN, s_res0, s_res1, s_tup1, s_tup2, ↓iteN_true, ↓iteN_false, iteN_true, iteN_false, Nat.zero_add, List.nil_append, List.append_nil, Nat.reduceEqDiff, reduceIte, decide_true, decide_false, Bool.not_true, Bool.not_false, List.getElem?_cons_zero, List.getElem?_cons_succ, Bool.false_eq_true, if_true, if_false, beq_self_eq_true]
      try rfl
    · have c3 : decide ((200000 : Int) < (n : Int)) = false := decide_eq_false (by omega)
      have c4 : decide (((b.length - 13 : Nat) : Int) < (n : Int)) = true := decide_eq_true (by omega)
      generalize b.length - 13 = bl13 at *
      generalize s.length = sl at *
      generalize b.length = bl at *
      generalize upA a (at_ + 1) = ua at *
      simp (config := {maxSteps := 2000000}) (disch := first | omega | (simp only [List.length_cons, List.length_nil, List.length_append, List.length_drop]; omega)) only [eA, gA, c0, c1, w1, c2, w2, w3, sv1, rN, c3, w4, w5, c4, eF, gF, st2i, st2ir, ld2, x_build, x_aggO, x_P0, x_P1, x_fill0, x_fills, x_fillb, x_filli, ↓x_slcS, x_M0, x_M1, ↓s_len, x_lenS, ↓b_xor32, ↓b_and32, ↓b_or32, ↓u_not32, b_xor32, b_and32, b_or32, u_not32, w32ad, ↓x_conv, x_convV, ↓x_fieldAddr, x_fieldV, ↓s_nilchk, x_nilchk, Nat.zero_add, Nat.add_zero, Nat.mul_one, ↓s_evD, ↓s_dnil, ↓s_dL, ↓s_dLg, ↓s_dR, ↓s_dRg, ↓s_dRj, ↓s_dRjg, ↓s_dB, ↓s_dBg, ↓s_dAlloc, ↓s_bindD, s_bindD, s_finD, s_finDx, s_addP0, s_addP1, s_addB, s_lookP, ↓s_bump0, ↓s_bump_get, s_bump_next, s_ok0, ↓s_ok1, s_okR0, ↓s_okR1, ↓s_okE, s_okE, s_okE1, s_nth0, s_nthS, Nat.add_zero, Bool.and_self, Bool.and_true, Bool.true_and, ↓l_loop, ↓l_succ, ↓l_normal, l_normal, l_exit, l_ret, l_iteN, ↓h_put_get, ↓h_new_get, ↓h_del_get, h_next_put, h_next_new, h_next_del, Nat.add_assoc, Nat.add_eq_left, Nat.left_eq_add, Nat.add_left_cancel_iff, ↓s_load, m_load, ↓m_load1, m_load1, ↓m_st, m_stE, m_storeI, m_storeE, w_zero, w_succ, ↓s_alloc, ↓x_idxA, ↓x_idxS, x_idxAE, x_idxSE, x_addrE, x_idx, x_lenS, ↓s_len, ↓x_buildS, x_buildE, ↓x_P0, ↓x_P1, x_fill0, x_filli, x_fills, x_fillb, c_int, List.length_cons, List.length_nil, List.cons_append, List.drop_succ_cons, List.drop_zero, List.drop_nil, List.nil_append, Int.reduceAdd, Int.reduceToNat, Int.reduceLT, Int.reduceLE, Nat.reduceAdd, Nat.reduceMul, Nat.reduceLeDiff, Int.reduceEq, Int.reduceSub, Int.cast_ofNat_Int, s_resc, s_consR, m_load4, m_store4, s_res0, ↓s_skip, ↓s_ops, ↓s_dops, ↓s_seq, ↓s_cond, ↓s_block, ↓s_exit, ↓s_ret, ↓s_scope, ↓s_nil, ↓s_op, ↓s_opg, ↓s_wanted', ↓s_wantV, s_wantV, s_wantV0, beq_true, beq_false, ↓s_bindS, s_bindS, ↓s_bindE, s_bindE, s_bindE_ret, s_bindE_exit, s_bindE_iteN, s_norm, ↓s_condV, s_condV, s_block_ret, s_block_normal, s_block_exit, s_block_iteN, ↓s_getp, ↓s_getp0, ↓s_get, s_get0, ↓s_con, ↓s_fn, ↓s_os0, ↓s_os1, ↓s_list0, ↓s_list1, ↓s_mov, ↓s_pick, ↓s_pickE, s_pickE, ↓s_bin, ↓s_un, ↓s_minmax, ↓s_call, ↓s_callv, ↓s_callV, ↓s_ext, s_same, b_eql, b_neq, b_lss, b_leq, b_gtr, b_geq, b_add, b_sub, b_mul, b_eqlb, b_neqb, b_fnil, b_fnil', b_fnil2, b_fnil2', u_neg, u_not, m_two, s_end, s_end', s_end_iteN, s_res0, s_res1, s_tup1, s_tup2, ↓iteN_true, ↓iteN_false, iteN_true, iteN_false, Nat.zero_add, List.nil_append, List.append_nil, Nat.reduceEqDiff, reduceIte, decide_true, decide_false, Bool.not_true, Bool.not_false, List.getElem?_cons_zero, List.getElem?_cons_succ, Bool.false_eq_true, if_true, if_false, beq_self_eq_true]
      try rfl
  · rw [if_neg h1]
    have c3 : decide ((200000 : Int) < (n : Int)) = false := decide_eq_false (by omega)
    have c4 : decide (((b.length - 13 : Nat) : Int) < (n : Int)) = false := decide_eq_false (by omega)
    have hn0 : s ≠ [] := fun h => by rw [h] at hat; simp at hat
    rcases src with s0 | ⟨bi, off, vs, md, rfl, _, hbi, gs, hvl, hvs⟩
    · exact absurd s0 hn0
    have src : SrcH h (some (bi, off)) 1 s := .inr ⟨bi, off, vs, md, rfl, rfl, hbi, gs, hvl, hvs⟩
    have cb := src_atR (h := h) (a := none) (bi := bi) hvs at_ (by omega)
    have e0 : s.getD at_ 0 = b.getD 0 0 := by rw [← eb, getD_dropR, Nat.add_zero]
    rw [e0] at cb
    have y0 : b.getD 0 0 < 256 := bytD bb 0
    obtain ⟨y, ey⟩ : ∃ y, b.getD 0 0 = y := ⟨_, rfl⟩
    rw [ey] at cb y0 ⊢
    obtain ⟨l, el⟩ : ∃ l, (b.drop 9).take n = l := ⟨_, rfl⟩
    have ll : l.length = n := by rw [← el, List.length_take, List.length_drop]; omega
    have bl : byt l = true := by rw [← el]; exact byt_take (byt_drop bb _) _
    rw [el]
    have w6 : wr .i64 ((at_ : Int) + 13) = ((at_ + 13 : Nat) : Int) := by rw [wr_i64 (by omega)]; omega
    have w7 : wr .i64 (n : Int) = (n : Int) := wr_i64 (by omega)
    have w8 : wr .i64 (((at_ + 13 : Nat) : Int) + (n : Int)) = ((at_ + (13 + n) : Nat) : Int) := by rw [wr_i64 (by omega)]; omega
    have w9 : wr .i64 (y : Int) = (y : Int) := wr_i64 (by omega)
    have w10 : wr .i64 ((at_ : Int) + 9) = ((at_ + 9 : Nat) : Int) := by rw [wr_i64 (by omega)]; omega
    have w11 : wr .i64 (((at_ + (13 + n) : Nat) : Int) - 4) = ((at_ + 9 + n : Nat) : Int) := by rw [wr_i64 (by omega)]; omega
    obtain ⟨A9, eA9⟩ : ∃ z, at_ + 9 + n = z := ⟨_, rfl⟩
    rw [eA9] at w11
    have ix : idx (at_ : Int) s.length = some at_ := idxn (by omega)
    have sv2 : slcV 1 (some (.int .i64 ((at_ + 9 : Nat) : Int))) (some (.int .i64 (A9 : Int))) none (.slice (some (bi, off)) s.length none 1) = some (.slice (upA (some (bi, off)) (at_ + 9)) n none 1) := by
      rw [slcV_lhA _ _ _ _ _ _ (by omega) (by omega), ← eA9, Nat.add_sub_cancel_left]
    have e9 : (s.drop (at_ + 9)).take n = l := by rw [← el, ← eb, List.drop_drop]
    have kb : Kp hA (bump 1 hA) := ⟨by show hA.next ≤ hA.next + 1; omega, fun _ _ => rfl⟩
    have nb : (bump 1 hA).next = hA.next + 1 := rfl
    obtain ⟨a1, c1', z1, h2, r2, nw2⟩ := twinv_go e.cm.rf.tw x.cm.rf.tw (N + 50101) l (by omega) (upA (some (bi, off)) (at_ + 9)) none 1 (bump 1 hA) (by rw [← e9]; exact ((src.mono (kA.trans kb)).drop _).take _)
    rw [ll] at r2
    have k2 : Kp hA h2 := kb.trans nw2.kp
    have kn2 := nw2.kp.1
    have gbA : hA.get bi = some (.cells vs md) := by rw [kA.2 _ hbi, gs]
    have gb2 : h2.get bi = some (.cells vs md) := by rw [k2.2 _ (by omega), kA.2 _ hbi, gs]
    have vb8 : (V.int .u8 (y : Int)).beq (V.int .u8 (y : Int)) = true := by unfold V.beq; rw [kindEq_self, ieq_dec]; simp
    obtain ⟨h3, eh3⟩ : ∃ h3, (h2.put hA.next (.cells [.int .i64 0, .slice none 0 (some 0) 0] .rw)).put hA.next (.cells [.int .i64 (y : Int), .slice a1 n c1' z1] .rw) = h3 := ⟨_, rfl⟩
    have k3 : Kp hA h3 := by rw [← eh3]; exact (k2.put _ (Nat.le_refl _)).put _ (Nat.le_refl _)
    have n3 : h3.next = h2.next := by rw [← eh3]; rfl
    have g3 : h3.get hA.next = some (.cells [.int .i64 (y : Int), .slice a1 n c1' z1] .rw) := by rw [← eh3]; exact h_put_same _ _ _
    have ge1 : ∀ q z, a1 = some (q, z) → hA.next < q := fun q z e => by have := nw2.ge q z e; omega
    have wb3 : Wb h3 l a1 c1' z1 := nw2.wb.mono (by omega) (fun q hq e => by rw [← eh3, h_put_ne _ _ (by have := ge1 q 0 e; omega), h_put_ne _ _ (by have := ge1 q 0 e; omega)])
    have rok : rqOk ⟨(y : Nat), l⟩ = true := by
      unfold rqOk
      simp only [Bool.and_eq_true, decide_eq_true_eq]
      exact ⟨⟨by omega, by omega⟩, by omega⟩
    obtain ⟨h4, a4, c4, z4, r4, nw4⟩ := done_go e.on x.on e.cm x.cm (N + 1) ⟨(y : Nat), l⟩ rok ⟨by show (-9223372036854775808 : Int) ≤ (y : Int); omega, by show (y : Int) < _; omega, bl⟩ (by show l.length ≤ _; omega) a1 c1' z1 h3 wb3.src
    rw [rqB_len] at r4
    simp only [ll] at r4
    have kn4 := nw4.kp.1
    have g4 : h4.get hA.next = some (.cells [.int .i64 (y : Int), .slice a1 n c1' z1] .rw) := by rw [nw4.kp.2 _ (by omega), g3]
    have g4r : h4.get h.next = some (.cells [.int .i64 0, .slice none 0 (some 0) 0] .rw) := by rw [nw4.kp.2 _ (by omega), k3.2 _ (by omega), gA]
    have st4 := str_src nw4.wb.src (rqB_byt _ rok ⟨by show (-9223372036854775808 : Int) ≤ (y : Int); omega, by show (y : Int) < _; omega, bl⟩) c4
    rw [rqB_len] at st4
    simp only [ll] at st4
    have ePar : (s.drop at_).take (13 + n) = b.take (13 + n) := by rw [eb]
    obtain ⟨AN, eAN⟩ : ∃ z, at_ + (13 + n) = z := ⟨_, rfl⟩
    rw [eAN] at w8 w11
    have sv3 : slcV 1 (some (.int .i64 (at_ : Int))) (some (.int .i64 (AN : Int))) none (.slice (some (bi, off)) s.length none 1) = some (.slice (upA (some (bi, off)) at_) (13 + n) none 1) := by
      rw [slcV_lhA _ _ _ _ _ _ (by omega) (by omega), ← eAN, Nat.add_sub_cancel_left]
    have lbt : (b.take (13 + n)).length = 13 + n := by rw [List.length_take]; omega
    have s3 := fun hh (k : Kp h hh) => str_src (((src.mono k).drop at_).take (13 + n)) (byt_take (byt_drop bs _) _) none
    rw [ePar, lbt] at s3
    have s33 := s3 h3 (kA.trans k3)
    have s34 := s3 h4 (kA.trans (k3.trans nw4.kp))
    by_cases hq : rqB ⟨(y : Nat), l⟩ = b.take (13 + n)
    · rw [if_pos hq]
      have d1 : decide (rqB ⟨(y : Nat), l⟩ = b.take (13 + n)) = true := decide_eq_true hq
      obtain ⟨h5, eh5⟩ : ∃ h5, h4.put h.next (.cells [.int .i64 (y : Int), .slice a1 n c1' z1] .rw) = h5 := ⟨_, rfl⟩
      have g5 : h5.get h.next = some (.cells [.int .i64 (y : Int), .slice a1 n c1' z1] .rw) := by rw [← eh5]; exact h_put_same _ _ _
      refine ⟨h5, by rw [← eh5]; exact (kA.trans (k3.trans nw4.kp)).put _ (Nat.le_refl _), a1, c1', z1, ?_, ?_, fun q z e => by have := ge1 q z e; omega⟩
      · rw [x_cfn ed _ _ (Nat.le_of_ble_eq_true rfl) (xd _ _)]
        simp only [ll]
        rw [eAN]
        generalize rqB ⟨(y : Nat), l⟩ = RB at *
        generalize b.take (13 + n) = BT at *
        generalize b.length - 13 = bl13 at *
        generalize s.length = sl at *
        generalize b.length = bl at *
        obtain ⟨ua, eua⟩ : ∃ u, upA (some (bi, off)) (at_ + 1) = u := ⟨_, rfl⟩
        obtain ⟨ub, eub⟩ : ∃ u, upA (some (bi, off)) (at_ + 9) = u := ⟨_, rfl⟩
        obtain ⟨uc, euc⟩ : ∃ u, upA (some (bi, off)) at_ = u := ⟨_, rfl⟩
        rw [eua] at sv1 rN
        rw [eub] at sv2 r2
        rw [euc] at sv3 s33 s34
        simp (config := {maxSteps := 2000000}) (disch := first | omega | (simp only [List.length_cons, List.length_nil, List.length_append, List.length_drop]; omega)) only [eA, gA, c0, c1, w1, c2, w2, w3, sv1, rN, c3, w4, w5, c4, w6, w7, w8, w9, w10, w11, ix, gbA, gb2, cb, vb8, vb_str, sv2, r2, nb, eh3, g3, r4, g4, g4r, st4, sv3, s33, s34, d1, eh5, g5, b_sneq, Bool.not_true, ↓ns_b2s, st2i, st2ir, ld2, x_build, x_aggO, x_P0, x_P1, x_fill0, x_fills, x_fillb, x_filli, ↓x_slcS, x_M0, x_M1, ↓s_len, x_lenS, ↓b_xor32, ↓b_and32, ↓b_or32, ↓u_not32, b_xor32, b_and32, b_or32, u_not32, w32ad, ↓x_conv, x_convV, ↓x_fieldAddr, x_fieldV, ↓s_nilchk, x_nilchk, Nat.zero_add, Nat.add_zero, Nat.mul_one, ↓s_evD, ↓s_dnil, ↓s_dL, ↓s_dLg, ↓s_dR, ↓s_dRg, ↓s_dRj, ↓s_dRjg, ↓s_dB, ↓s_dBg, ↓s_dAlloc, ↓s_bindD, s_bindD, s_finD, s_finDx, s_addP0, s_addP1, s_addB, s_lookP, ↓s_bump0, ↓s_bump_get, s_bump_next, s_ok0, ↓s_ok1, s_okR0, ↓s_okR1, ↓s_okE, s_okE, s_okE1, s_nth0, s_nthS, Nat.add_zero, Bool.and_self, Bool.and_true, Bool.true_and, ↓l_loop, ↓l_succ, ↓l_normal, l_normal, l_exit, l_ret, l_iteN, ↓h_put_get, ↓h_new_get, ↓h_del_get, h_next_put, h_next_new, h_next_del, Nat.add_assoc, Nat.add_eq_left, Nat.left_eq_add, Nat.add_left_cancel_iff, ↓s_load, m_load, ↓m_load1, m_load1, ↓m_st, m_stE, m_storeI, m_storeE, w_zero, w_succ, ↓s_alloc, ↓x_idxA, ↓x_idxS, x_idxAE, x_idxSE, x_addrE, x_idx, x_lenS, ↓s_len, ↓x_buildS, x_buildE, ↓x_P0, ↓x_P1, x_fill0, x_filli, x_fills, x_fillb, c_int, List.length_cons, List.length_nil, List.cons_append, List.drop_succ_cons, List.drop_zero, List.drop_nil, List.nil_append, Int.reduceAdd, Int.reduceToNat, Int.reduceLT, Int.reduceLE, Nat.reduceAdd, Nat.reduceMul, Nat.reduceLeDiff, Int.reduceEq, Int.reduceSub, Int.cast_ofNat_Int, s_resc, s_consR, m_load4, m_store4, s_res0, ↓s_skip, ↓s_ops, ↓s_dops, ↓s_seq, ↓s_cond, ↓s_block, ↓s_exit, ↓s_ret, ↓s_scope, ↓s_nil, ↓s_op, ↓s_opg, ↓s_wanted', ↓s_wantV, s_wantV, s_wantV0, beq_true, beq_false, ↓s_bindS, s_bindS, ↓s_bindE, s_bindE, s_bindE_ret, s_bindE_exit, s_bindE_iteN, s_norm, ↓s_condV, s_condV, s_block_ret, s_block_normal, s_block_exit, s_block_iteN, ↓s_getp, ↓s_getp0, ↓s_get, s_get0, ↓s_con, ↓s_fn, ↓s_os0, ↓s_os1, ↓s_list0, ↓s_list1, ↓s_mov, ↓s_pick, ↓s_pickE, s_pickE, ↓s_bin, ↓s_un, ↓s_minmax, ↓s_call, ↓s_callv, ↓s_callV, ↓s_ext, s_same, b_eql, b_neq, b_lss, b_leq, b_gtr, b_geq, b_add, b_sub, b_mul, b_eqlb, b_neqb, b_fnil, b_fnil', b_fnil2, b_fnil2', u_neg, u_not, m_two, s_end, s_end', s_end_iteN, s_res0, s_res1, s_tup1, s_tup2, ↓iteN_true, ↓iteN_false, iteN_true, iteN_false, Nat.zero_add, List.nil_append, List.append_nil, Nat.reduceEqDiff, reduceIte, decide_true, decide_false, Bool.not_true, Bool.not_false, List.getElem?_cons_zero, List.getElem?_cons_succ, Bool.false_eq_true, if_true, if_false, beq_self_eq_true]
        try rfl
      · exact (wb3.kp nw4.kp).mono (by rw [← eh5]; exact Nat.le_refl _) (fun q hq e => by rw [← eh5, h_put_ne _ _ (by have := ge1 q 0 e; omega)])
    · rw [if_neg hq]
      have d1 : decide (rqB ⟨(y : Nat), l⟩ = b.take (13 + n)) = false := decide_eq_false hq
      obtain ⟨h5, eh5⟩ : ∃ h5, h4.put h.next (.cells [.int .i64 0, .slice none 0 (some 0) 0] .rw) = h5 := ⟨_, rfl⟩
      have g5 : h5.get h.next = some (.cells [.int .i64 0, .slice none 0 (some 0) 0] .rw) := by rw [← eh5]; exact h_put_same _ _ _
      refine ⟨h5, by rw [← eh5]; exact (kA.trans (k3.trans nw4.kp)).put _ (Nat.le_refl _), ?_⟩
      show callX E X (N + 50103) _ _ _ = _
      rw [x_cfn ed _ _ (Nat.le_of_ble_eq_true rfl) (xd _ _)]
      generalize rqB ⟨(y : Nat), l⟩ = RB at *
      generalize b.take (13 + n) = BT at *
      generalize b.length - 13 = bl13 at *
      generalize s.length = sl at *
      generalize b.length = bl at *
      obtain ⟨ua, eua⟩ : ∃ u, upA (some (bi, off)) (at_ + 1) = u := ⟨_, rfl⟩
      obtain ⟨ub, eub⟩ : ∃ u, upA (some (bi, off)) (at_ + 9) = u := ⟨_, rfl⟩
      obtain ⟨uc, euc⟩ : ∃ u, upA (some (bi, off)) at_ = u := ⟨_, rfl⟩
      rw [eua] at sv1 rN
      rw [eub] at sv2 r2
      rw [euc] at sv3 s33 s34
      simp (config := {maxSteps := 2000000}) (disch := first | omega | (simp only [List.length_cons, List.length_nil, List.length_append, List.length_drop]; omega)) only [eA, gA, c0, c1, w1, c2, w2, w3, sv1, rN, c3, w4, w5, c4, w6, w7, w8, w9, w10, w11, ix, gbA, gb2, cb, vb8, vb_str, sv2, r2, nb, eh3, g3, r4, g4, g4r, st4, sv3, s33, s34, d1, eh5, g5, b_sneq, Bool.not_false, ↓ns_b2s, st2i, st2ir, ld2, x_build, x_aggO, x_P0, x_P1, x_fill0, x_fills, x_fillb, x_filli, ↓x_slcS, x_M0, x_M1, ↓s_len, x_lenS, ↓b_xor32, ↓b_and32, ↓b_or32, ↓u_not32, b_xor32, b_and32, b_or32, u_not32, w32ad, ↓x_conv, x_convV, ↓x_fieldAddr, x_fieldV, ↓s_nilchk, x_nilchk, Nat.zero_add, Nat.add_zero, Nat.mul_one, ↓s_evD, ↓s_dnil, ↓s_dL, ↓s_dLg, ↓s_dR, ↓s_dRg, ↓s_dRj, ↓s_dRjg, ↓s_dB, ↓s_dBg, ↓s_dAlloc, ↓s_bindD, s_bindD, s_finD, s_finDx, s_addP0, s_addP1, s_addB, s_lookP, ↓s_bump0, ↓s_bump_get, s_bump_next, s_ok0, ↓s_ok1, s_okR0, ↓s_okR1, ↓s_okE, s_okE, s_okE1, s_nth0, s_nthS, Nat.add_zero, Bool.and_self, Bool.and_true, Bool.true_and, ↓l_loop, ↓l_succ, ↓l_normal, l_normal, l_exit, l_ret, l_iteN, ↓h_put_get, ↓h_new_get, ↓h_del_get, h_next_put, h_next_new, h_next_del, Nat.add_assoc, Nat.add_eq_left, Nat.left_eq_add, Nat.add_left_cancel_iff, ↓s_load, m_load, ↓m_load1, m_load1, ↓m_st, m_stE, m_storeI, m_storeE, w_zero, w_succ, ↓s_alloc, ↓x_idxA, ↓x_idxS, x_idxAE, x_idxSE, x_addrE, x_idx, x_lenS, ↓s_len, ↓x_buildS, x_buildE, ↓x_P0, ↓x_P1, x_fill0, x_filli, x_fills, x_fillb, c_int, List.length_cons, List.length_nil, List.cons_append, List.drop_succ_cons, List.drop_zero, List.drop_nil, List.nil_append, Int.reduceAdd, Int.reduceToNat, Int.reduceLT, Int.reduceLE, Nat.reduceAdd, Nat.reduceMul, Nat.reduceLeDiff, Int.reduceEq, Int.reduceSub, Int.cast_ofNat_Int, s_resc, s_consR, m_load4, m_store4, s_res0, ↓s_skip, ↓s_ops, ↓s_dops, ↓s_seq, ↓s_cond, ↓s_block, ↓s_exit, ↓s_ret, ↓s_scope, ↓s_nil, ↓s_op, ↓s_opg, ↓s_wanted', ↓s_wantV, s_wantV, s_wantV0, beq_true, beq_false, ↓s_bindS, s_bindS, ↓s_bindE, s_bindE, s_bindE_ret, s_bindE_exit, s_bindE_iteN, s_norm, ↓s_condV, s_condV, s_block_ret, s_block_normal, s_block_exit, s_block_iteN, ↓s_getp, ↓s_getp0, ↓s_get, s_get0, ↓s_con, ↓s_fn, ↓s_os0, ↓s_os1, ↓s_list0, ↓s_list1, ↓s_mov, ↓s_pick, ↓s_pickE, s_pickE, ↓s_bin, ↓s_un, ↓s_minmax, ↓s_call, ↓s_callv, ↓s_callV, ↓s_ext, s_same, b_eql, b_neq, b_lss, b_leq, b_gtr, b_geq, b_add, b_sub, b_mul, b_eqlb, b_neqb, b_fnil, b_fnil', b_fnil2, b_fnil2', u_neg, u_not, m_two, s_end, s_end', s_end_iteN, s_res0, s_res1, s_tup1, s_tup2, ↓iteN_true, ↓iteN_false, iteN_true, iteN_false, Nat.zero_add, List.nil_append, List.append_nil, Nat.reduceEqDiff, reduceIte, decide_true, decide_false, Bool.not_true, Bool.not_false, List.getElem?_cons_zero, List.getElem?_cons_succ, Bool.false_eq_true, if_true, if_false, beq_self_eq_true]
      try rfl
end Go.Eng
namespace Go.Eng
open Go
variable {E : Nat → Option Fn} {X : Orc}
set_option linter.unusedSimpArgs false
set_option linter.unusedVariables false
structure EnRa (E : Nat → Option Fn) : Prop where
  ro : EnRo E
  rg : EnRg E
  de : E k_purserref16_Decode = some f_purserref16_Decode
  al : E k_purserref16_All = some f_purserref16_All
structure NoRa (X : Orc) : Prop where
  ro : NoRo X
  rg : NoRg X
  de : ∀ a h, X (.fn k_purserref16_Decode) a h = none
  al : ∀ a h, X (.fn k_purserref16_All) a h = none
theorem ddecode_go (e : EnRa E) (x : NoRa X) (N : Nat) (s : List Nat) (bs : byt s = true) (hs : s.length ≤ 50000) (at_ : Nat) (hat : at_ ≤ s.length) (a : Option (Nat × Nat)) (h : H) (src : SrcH h a 1 s) :
    ∃ h', Kp h h' ∧ ddR E X (N + 50103) h (.slice a s.length none 1) at_ h' (dcV (s.drop at_)) := by
  by_cases h13 : at_ + 13 ≤ s.length
  · exact ddecode_ok e.de x.de e.ro x.ro e.rg x.rg N s bs hs at_ h13 a h src
  · obtain ⟨h', k, r⟩ := ddecode_bad e.de x.de (N + 50101) s.length (by omega) (at_ : Int) (by omega) a none 1 h
    have : dcV (s.drop at_) = none := by unfold dcV; rw [if_pos (by rw [List.length_drop]; omega)]
    rw [this]
    exact ⟨h', k, r⟩
structure DaI (v : V) (dn : List Rq) (at_ cnt : Nat) (h0 : H) (T : Tr V) (h : H) : Prop where
  t0 : evO T (.t 0) = v
  t1 : evO T (.t 1) = .int .i64 (at_ : Int)
  t6 : ∃ a c e, evO T (.t 6) = .slice a dn.length c e ∧ RrF h0.next h dn a c e
  t7 : evO T (.t 7) = .int .i64 (cnt : Int)
  kp : Kp h0 h
theorem da_loop (e : EnRa E) (x : NoRa X) (N m : Nat) (s : List Nat) (bs : byt s = true) (hs : s.length ≤ 50000) (a : Option (Nat × Nat)) (h0 : H) (src : SrcH h0 a 1 s) :
    ∀ (n g : Nat) (dn : List Rq) (at_ cnt : Nat) (T : Tr V) (h : H), s.length - at_ ≤ n → n + 1 < g → at_ ≤ s.length → cnt ≤ at_ → dn.length ≤ at_ → DaI (.slice a s.length none 1) dn at_ cnt h0 T h →
    ∃ T' h' cnt', loopN (evC (callX E X (N + 50103)) 41 m none L_purserref16_All_0) g ⟨T, [], h⟩ = some (.exit 0, ⟨T', [], h'⟩) ∧ DaI (.slice a s.length none 1) (dn ++ (rdV n (s.drop at_)).1) (at_ + (rdV n (s.drop at_)).2) cnt' h0 T' h' := by
  have z0 : decide ((0 : Int) = 0) = true := rfl
  have z1 : decide ((160 : Int) = 0) = false := rfl
  have stop : ∀ (dn : List Rq) (at_ cnt : Nat) (T : Tr V) (h : H), at_ ≤ s.length → cnt ≤ at_ → DaI (.slice a s.length none 1) dn at_ cnt h0 T h → dcV (s.drop at_) = none → ∃ T' h', evC (callX E X (N + 50103)) 41 m none L_purserref16_All_0 ⟨T, [], h⟩ = some (.exit 0, ⟨T', [], h'⟩) ∧ DaI (.slice a s.length none 1) dn at_ cnt h0 T' h' := by
    intro dn at_ cnt T h hat hcn ⟨t0, t1, ⟨ar, cr, er, t6, row⟩, t7, kp⟩ hd
    obtain ⟨h1, k1, r1⟩ := ddecode_go e x N s bs hs at_ hat a h (src.mono kp)
    rw [hd] at r1
    replace r1 : callX E X (N + 50103) (.fn k_purserref16_Decode) [.slice a s.length none 1, .int .i64 (at_ : Int)] h = some (.tup [.agg [.int .i64 0, .slice none 0 (some 0) 0], .int .i64 0, .int .i64 160], h1) := r1
    have c0 : decide ((cnt : Int) ≤ (s.length : Int)) = true := decide_eq_true (by omega)
    obtain ⟨h2, eh2⟩ : ∃ h2, (h1.new (.cells [.int .i64 0, .slice none 0 (some 0) 0] .rw)).put h1.next (.cells [.int .i64 0, .slice none 0 (some 0) 0] .rw) = h2 := ⟨_, rfl⟩
    have k2 : Kp h h2 := k1.trans (by rw [← eh2]; (repeat (first | exact Kp.refl _ | refine Kp.put ?_ _ (by first | omega | (simp only [h_next_put, h_next_new, h_next_del]; omega)) | refine Kp.del ?_ (by first | omega | (simp only [h_next_put, h_next_new, h_next_del]; omega)) | refine Kp.trans ?_ (Kp.new _ _))))
    obtain ⟨sl, esl⟩ : ∃ n, s.length = n := ⟨_, rfl⟩
    obtain ⟨dl, edl⟩ : ∃ n, dn.length = n := ⟨_, rfl⟩
    rw [esl] at t0 r1 c0
    rw [edl] at t6
    exact ⟨_, h2, by
      simp (config := {maxSteps := 2000000}) (disch := first | omega | (simp only [List.length_cons, List.length_nil, List.length_append, List.length_drop]; omega)) only [L_purserref16_All_0, t0, t1, t7, r1, c0, z1, eh2, st2i, st2ir, ld2, Bool.not_false, ↓s_len, x_lenS, ↓b_xor32, ↓b_and32, ↓b_or32, ↓u_not32, b_xor32, b_and32, b_or32, u_not32, w32ad, ↓x_conv, x_convV, ↓x_fieldAddr, x_fieldV, ↓s_nilchk, x_nilchk, Nat.zero_add, Nat.add_zero, Nat.mul_one, ↓l_loop, ↓l_succ, ↓l_normal, l_normal, l_exit, l_ret, l_iteN, ↓h_put_get, ↓h_new_get, ↓h_del_get, h_next_put, h_next_new, h_next_del, Nat.add_assoc, Nat.add_eq_left, Nat.left_eq_add, Nat.add_left_cancel_iff, ↓s_load, m_load, ↓m_load1, m_load1, ↓m_st, m_stE, m_storeI, m_storeE, w_zero, w_succ, ↓s_alloc, ↓x_idxA, ↓x_idxS, x_idxAE, x_idxSE, x_addrE, x_idx, x_lenS, ↓s_len, ↓x_buildS, x_buildE, ↓x_P0, ↓x_P1, x_fill0, x_filli, x_fills, x_fillb, c_int, List.length_cons, List.length_nil, List.cons_append, List.drop_succ_cons, List.drop_zero, List.drop_nil, List.nil_append, Int.reduceAdd, Int.reduceToNat, Int.reduceLT, Int.reduceLE, Nat.reduceAdd, Nat.reduceMul, Nat.reduceLeDiff, Int.reduceEq, Int.reduceSub, Int.cast_ofNat_Int, s_resc, s_consR, m_load4, m_store4, s_res0, ↓s_skip, ↓s_ops, ↓s_dops, ↓s_seq, ↓s_cond, ↓s_block, ↓s_exit, ↓s_ret, ↓s_scope, ↓s_nil, ↓s_op, ↓s_opg, ↓s_wanted', ↓s_wantV, s_wantV, s_wantV0, beq_true, beq_false, ↓s_bindS, s_bindS, ↓s_bindE, s_bindE, s_bindE_ret, s_bindE_exit, s_bindE_iteN, s_norm, ↓s_condV, s_condV, s_block_ret, s_block_normal, s_block_exit, s_block_iteN, ↓s_getp, ↓s_getp0, ↓s_get, s_get0, ↓s_con, ↓s_fn, ↓s_os0, ↓s_os1, ↓s_list0, ↓s_list1, ↓s_mov, ↓s_pick, ↓s_pickE, s_pickE, ↓s_bin, ↓s_un, ↓s_minmax, ↓s_call, ↓s_callv, ↓s_callV, ↓s_ext, s_same, b_eql, b_neq, b_lss, b_leq, b_gtr, b_geq, b_add, b_sub, b_mul, b_eqlb, b_neqb, b_fnil, b_fnil', b_fnil2, b_fnil2', u_neg, u_not, m_two, s_end, s_end', s_end_iteN, s_res0, s_res1, s_tup1, s_tup2, ↓iteN_true, ↓iteN_false, iteN_true, iteN_false, Nat.zero_add, List.nil_append, List.append_nil, Nat.reduceEqDiff, reduceIte, decide_true, decide_false, Bool.not_true, Bool.not_false, List.getElem?_cons_zero, List.getElem?_cons_succ, Bool.false_eq_true, if_true, if_false, beq_self_eq_true]
      exact rfl, by rw [esl]; exact (by (simp only [s_getp, s_getp0, Nat.reduceEqDiff, decide_false, decide_true, iteN_false, iteN_true, t0]; try rfl)), (by (simp only [s_getp, s_getp0, Nat.reduceEqDiff, decide_false, decide_true, iteN_false, iteN_true, t1]; try rfl)), ⟨ar, cr, er, by rw [edl]; exact (by (simp only [s_getp, s_getp0, Nat.reduceEqDiff, decide_false, decide_true, iteN_false, iteN_true, t6]; try rfl)), row.kp k2⟩, (by (simp only [s_getp, s_getp0, Nat.reduceEqDiff, decide_false, decide_true, iteN_false, iteN_true, t7]; try rfl)), kp.trans k2⟩
  have small : ∀ at_, at_ ≤ s.length → s.length - at_ = 0 → dcV (s.drop at_) = none := fun at_ h1 h2 => by
    unfold dcV
    rw [if_pos (by rw [List.length_drop]; omega)]
  intro n
  induction n with
  | zero =>
    intro g dn at_ cnt T h hn hg hat hcn hdn I
    obtain ⟨g, rfl⟩ : ∃ k, g = k + 1 := ⟨g - 1, by omega⟩
    obtain ⟨T', h', r, J⟩ := stop dn at_ cnt T h hat hcn I (small at_ hat (by omega))
    refine ⟨T', h', cnt, by rw [l_succ, r]; rfl, ?_⟩
    show DaI _ (dn ++ []) (at_ + 0) cnt h0 T' h'
    rw [List.append_nil]; exact J
  | succ n ih =>
    intro g dn at_ cnt T h hn hg hat hcn hdn I
    obtain ⟨g, rfl⟩ : ∃ k, g = k + 1 := ⟨g - 1, by omega⟩
    rw [rd_succ]
    cases hf : dcV (s.drop at_) with
    | none =>
      obtain ⟨T', h', r, J⟩ := stop dn at_ cnt T h hat hcn I hf
      refine ⟨T', h', cnt, by rw [l_succ, r]; rfl, ?_⟩
      show DaI _ (dn ++ []) (at_ + 0) cnt h0 T' h'
      rw [List.append_nil]; exact J
    | some z =>
      obtain ⟨o, k⟩ := z
      obtain ⟨t0, t1, ⟨ar, cr, er, t6, row⟩, t7, kp⟩ := I
      obtain ⟨h1, k1, r1⟩ := ddecode_go e x N s bs hs at_ hat a h (src.mono kp)
      rw [hf] at r1
      obtain ⟨a2, c2, e2, r1, wb2, ge2⟩ := r1
      obtain ⟨f1, f2, f3, f4, f5⟩ := dc_of _ (byt_drop bs _) o k hf
      rw [List.length_drop] at f5
      have c0 : decide ((cnt : Int) ≤ (s.length : Int)) = true := decide_eq_true (by omega)
      have wc : wr .i64 ((cnt : Int) + 1) = ((cnt + 1 : Nat) : Int) := by rw [wr_i64 (by omega)]; omega
      obtain ⟨h2, eh2⟩ : ∃ h2, (h1.new (.cells [.int .i64 0, .slice none 0 (some 0) 0] .rw)).put h1.next (.cells [.int .i64 o.kind, .slice a2 o.l.length c2 e2] .rw) = h2 := ⟨_, rfl⟩
      have k12 : Kp h1 h2 := by rw [← eh2]; (repeat (first | exact Kp.refl _ | refine Kp.put ?_ _ (by first | omega | (simp only [h_next_put, h_next_new, h_next_del]; omega)) | refine Kp.del ?_ (by first | omega | (simp only [h_next_put, h_next_new, h_next_del]; omega)) | refine Kp.trans ?_ (Kp.new _ _)))
      have g2 : h2.get h1.next = some (.cells [.int .i64 o.kind, .slice a2 o.l.length c2 e2] .rw) := by rw [← eh2]; exact h_put_same _ _ _
      obtain ⟨h3, eh3⟩ : ∃ h3, h2.new (.cells [.int .i64 o.kind, .slice a2 o.l.length c2 e2] .rw) = h3 := ⟨_, rfl⟩
      have k23 : Kp h2 h3 := by rw [← eh3]; exact Kp.new _ _
      have k13 := k12.trans k23
      have k03 := k1.trans k13
      have kn := kp.1
      have kn1 := k1.1
      have kn3 := k13.1
      obtain ⟨h4, ap, row4, n4, f4'⟩ := rap_row h0.next h3 (by omega) dn (by omega) ar cr er (row.kp k03) o a2 c2 e2 (wb2.ow.kp k13) (fun _ q z eq => ⟨by have := ge2 q z eq; omega, fun e => by have := (row.lt e).2; have := ge2 q z eq; omega⟩)
      have sc := src_r h2 .i64 o.kind a2 o.l.length c2 e2
      rw [eh3] at sc
      have k04 : Kp h0 h4 := ⟨by omega, fun j hj => by rw [f4' j (by omega) (fun e => by have := (row.lt e).1; omega), k03.2 _ (by omega), kp.2 _ hj]⟩
      obtain ⟨T1, eT, I1⟩ : ∃ T1, evC (callX E X (N + 50103)) 41 m none L_purserref16_All_0 ⟨T, [], h⟩ = some (.normal, ⟨T1, [], h4⟩) ∧ DaI (.slice a s.length none 1) (dn ++ [o]) (at_ + k) (cnt + 1) h0 T1 h4 := by
        have ll : (dn ++ [o]).length = dn.length + 1 := by rw [List.length_append]; rfl
        obtain ⟨sl, esl⟩ : ∃ n, s.length = n := ⟨_, rfl⟩
        obtain ⟨dl, edl⟩ : ∃ n, dn.length = n := ⟨_, rfl⟩
        obtain ⟨ol, eol⟩ : ∃ n, o.l.length = n := ⟨_, rfl⟩
        obtain ⟨ak, eak⟩ : ∃ n, at_ + k = n := ⟨_, rfl⟩
        rw [esl] at t0 r1 c0
        rw [edl] at t6 ap ll
        rw [eol] at r1 eh2 g2 eh3 ap sc
        rw [eak] at r1
        exact ⟨_, by
          simp (config := {maxSteps := 2000000}) (disch := first | omega | (simp only [List.length_cons, List.length_nil, List.length_append, List.length_drop]; omega)) only [L_purserref16_All_0, t0, t1, t6, t7, r1, c0, z0, wc, eh2, g2, eh3, fl2, sc, ap, st2i, st2ir, ld2, ↓s_append, Bool.not_true, ↓s_len, x_lenS, ↓b_xor32, ↓b_and32, ↓b_or32, ↓u_not32, b_xor32, b_and32, b_or32, u_not32, w32ad, ↓x_conv, x_convV, ↓x_fieldAddr, x_fieldV, ↓s_nilchk, x_nilchk, Nat.zero_add, Nat.add_zero, Nat.mul_one, ↓l_loop, ↓l_succ, ↓l_normal, l_normal, l_exit, l_ret, l_iteN, ↓h_put_get, ↓h_new_get, ↓h_del_get, h_next_put, h_next_new, h_next_del, Nat.add_assoc, Nat.add_eq_left, Nat.left_eq_add, Nat.add_left_cancel_iff, ↓s_load, m_load, ↓m_load1, m_load1, ↓m_st, m_stE, m_storeI, m_storeE, w_zero, w_succ, ↓s_alloc, ↓x_idxA, ↓x_idxS, x_idxAE, x_idxSE, x_addrE, x_idx, x_lenS, ↓s_len, ↓x_buildS, x_buildE, ↓x_P0, ↓x_P1, x_fill0, x_filli, x_fills, x_fillb, c_int, List.length_cons, List.length_nil, List.cons_append, List.drop_succ_cons, List.drop_zero, List.drop_nil, List.nil_append, Int.reduceAdd, Int.reduceToNat, Int.reduceLT, Int.reduceLE, Nat.reduceAdd, Nat.reduceMul, Nat.reduceLeDiff, Int.reduceEq, Int.reduceSub, Int.cast_ofNat_Int, s_resc, s_consR, m_load4, m_store4, s_res0, ↓s_skip, ↓s_ops, ↓s_dops, ↓s_seq, ↓s_cond, ↓s_block, ↓s_exit, ↓s_ret, ↓s_scope, ↓s_nil, ↓s_op, ↓s_opg, ↓s_wanted', ↓s_wantV, s_wantV, s_wantV0, beq_true, beq_false, ↓s_bindS, s_bindS, ↓s_bindE, s_bindE, s_bindE_ret, s_bindE_exit, s_bindE_iteN, s_norm, ↓s_condV, s_condV, s_block_ret, s_block_normal, s_block_exit, s_block_iteN, ↓s_getp, ↓s_getp0, ↓s_get, s_get0, ↓s_con, ↓s_fn, ↓s_os0, ↓s_os1, ↓s_list0, ↓s_list1, ↓s_mov, ↓s_pick, ↓s_pickE, s_pickE, ↓s_bin, ↓s_un, ↓s_minmax, ↓s_call, ↓s_callv, ↓s_callV, ↓s_ext, s_same, b_eql, b_neq, b_lss, b_leq, b_gtr, b_geq, b_add, b_sub, b_mul, b_eqlb, b_neqb, b_fnil, b_fnil', b_fnil2, b_fnil2', u_neg, u_not, m_two, s_end, s_end', s_end_iteN, s_res0, s_res1, s_tup1, s_tup2, ↓iteN_true, ↓iteN_false, iteN_true, iteN_false, Nat.zero_add, List.nil_append, List.append_nil, Nat.reduceEqDiff, reduceIte, decide_true, decide_false, Bool.not_true, Bool.not_false, List.getElem?_cons_zero, List.getElem?_cons_succ, Bool.false_eq_true, if_true, if_false, beq_self_eq_true]
          exact rfl, by rw [esl]; exact (by (simp only [s_getp, s_getp0, Nat.reduceEqDiff, decide_false, decide_true, iteN_false, iteN_true, t0]; try rfl)), by rw [eak]; exact (by (simp only [s_getp, s_getp0, Nat.reduceEqDiff, decide_false, decide_true, iteN_false, iteN_true, t1]; try rfl)), ⟨_, _, _, by rw [ll]; exact (by (simp only [s_getp, s_getp0, Nat.reduceEqDiff, decide_false, decide_true, iteN_false, iteN_true, t6]; try rfl)), row4⟩, (by (simp only [s_getp, s_getp0, Nat.reduceEqDiff, decide_false, decide_true, iteN_false, iteN_true, t7]; try rfl)), k04⟩
      obtain ⟨T', h', cnt', r, J⟩ := ih g (dn ++ [o]) (at_ + k) (cnt + 1) T1 h4 (by omega) (by omega) (by omega) (by omega) (by rw [List.length_append]; simp; omega) I1
      refine ⟨T', h', cnt', by rw [l_succ, eT, l_normal]; exact r, ?_⟩
      simp only
      rw [List.append_assoc] at J
      rw [List.drop_drop] at *
      rw [show [o] ++ (rdV n (s.drop (at_ + k))).1 = o :: (rdV n (s.drop (at_ + k))).1 from rfl, Nat.add_assoc] at J
      exact J
theorem dall_go (e : EnRa E) (x : NoRa X) (N : Nat) (s : List Nat) (bs : byt s = true) (hs : s.length ≤ 50000) (at_ : Int) (a : Option (Nat × Nat)) (h : H) (src : SrcH h a 1 s) :
    ∃ h' ar cr er, callX E X (N + 50104) (.fn k_purserref16_All) [.slice a s.length none 1, .int .i64 at_] h = some (.tup [.slice ar (raR s at_).1.length cr er, .int .i64 ((raR s at_).2 : Int)], h') ∧ Kp h h' ∧ RrF h.next h' (raR s at_).1 ar cr er := by
  rw [x_cfn e.al _ _ (Nat.le_of_ble_eq_true rfl) (x.al _ _)]
  unfold raR
  by_cases hc : 0 ≤ at_ ∧ at_ ≤ s.length
  · rw [if_pos hc]
    obtain ⟨n, rfl⟩ := Int.eq_ofNat_of_zero_le hc.1
    rw [Int.toNat_natCast]
    have hn : n ≤ s.length := by omega
    have c0 : decide ((n : Int) < 0) = false := decide_eq_false (by omega)
    have c1 : decide ((s.length : Int) < (n : Int)) = false := decide_eq_false (by omega)
    have fin : ∀ T, DaI (.slice a s.length none 1) [] n 0 h T h → ∃ h' ar cr er, fnEnd [.tmp 4, .tmp 5] (bindE (blockE 0 (loopN (evC (callX E X (N + 50103)) 41 (N + 50103) none L_purserref16_All_0) (N + 50103) ⟨T, [], h⟩)) (evC (callX E X (N + 50103)) 41 (N + 50103) none R_purserref16_All_0)) = some (.tup [.slice ar (rdV s.length (s.drop n)).1.length cr er, .int .i64 ((n + (rdV s.length (s.drop n)).2 : Nat) : Int)], h') ∧ Kp h h' ∧ RrF h.next h' (rdV s.length (s.drop n)).1 ar cr er := by
      intro T I
      obtain ⟨T', h', cnt', rr, J⟩ := da_loop e x N (N + 50103) s bs hs a h src s.length (N + 50103) [] n 0 T h (by omega) (by omega) hn (by omega) (by simp) I
      rw [List.nil_append] at J
      obtain ⟨t0, t1, ⟨ar, cr, er, t6, row⟩, t7, kp⟩ := J
      rw [rr]
      refine ⟨h', ar, cr, er, ?_, kp, row⟩
      generalize (rdV s.length (s.drop n)).1.length = dl at *
      generalize n + (rdV s.length (s.drop n)).2 = an at *
      simp (config := {maxSteps := 2000000}) (disch := first | omega | (simp only [List.length_cons, List.length_nil, List.length_append, List.length_drop]; omega)) only [R_purserref16_All_0, t1, t6, ↓b_xor32, ↓b_and32, ↓b_or32, ↓u_not32, b_xor32, b_and32, b_or32, u_not32, w32ad, ↓x_conv, x_convV, ↓x_fieldAddr, x_fieldV, ↓s_nilchk, x_nilchk, Nat.zero_add, Nat.add_zero, Nat.mul_one, ↓l_loop, ↓l_succ, ↓l_normal, l_normal, l_exit, l_ret, l_iteN, ↓h_put_get, ↓h_new_get, ↓h_del_get, h_next_put, h_next_new, h_next_del, Nat.add_assoc, Nat.add_eq_left, Nat.left_eq_add, Nat.add_left_cancel_iff, ↓s_load, m_load, ↓m_load1, m_load1, ↓m_st, m_stE, m_storeI, m_storeE, w_zero, w_succ, ↓s_alloc, ↓x_idxA, ↓x_idxS, x_idxAE, x_idxSE, x_addrE, x_idx, x_lenS, ↓s_len, ↓x_buildS, x_buildE, ↓x_P0, ↓x_P1, x_fill0, x_filli, x_fills, x_fillb, c_int, List.length_cons, List.length_nil, List.cons_append, List.drop_succ_cons, List.drop_zero, List.drop_nil, List.nil_append, Int.reduceAdd, Int.reduceToNat, Int.reduceLT, Int.reduceLE, Nat.reduceAdd, Nat.reduceMul, Nat.reduceLeDiff, Int.reduceEq, Int.reduceSub, Int.cast_ofNat_Int, s_resc, s_consR, m_load4, m_store4, s_res0, ↓s_skip, ↓s_ops, ↓s_dops, ↓s_seq, ↓s_cond, ↓s_block, ↓s_exit, ↓s_ret, ↓s_scope, ↓s_nil, ↓s_op, ↓s_opg, ↓s_wanted', ↓s_wantV, s_wantV, s_wantV0, beq_true, beq_false, ↓s_bindS, s_bindS, ↓s_bindE, s_bindE, s_bindE_ret, s_bindE_exit, s_bindE_iteN, s_norm, ↓s_condV, s_condV, s_block_ret, s_block_normal, s_block_exit, s_block_iteN, ↓s_getp, ↓s_getp0, ↓s_get, s_get0, ↓s_con, ↓s_fn, ↓s_os0, ↓s_os1, ↓s_list0, ↓s_list1, ↓s_mov, ↓s_pick, ↓s_pickE, s_pickE, ↓s_bin, ↓s_un, ↓s_minmax, ↓s_call, ↓s_callv, ↓s_callV, ↓s_ext, s_same, b_eql, b_neq, b_lss, b_leq, b_gtr, b_geq, b_add, b_sub, b_mul, b_eqlb, b_neqb, b_fnil, b_fnil', b_fnil2, b_fnil2', u_neg, u_not, m_two, s_end, s_end', s_end_iteN, s_res0, s_res1, s_tup1, s_tup2, ↓iteN_true, ↓iteN_false, iteN_true, iteN_false, Nat.zero_add, List.nil_append, List.append_nil, Nat.reduceEqDiff, reduceIte, decide_true, decide_false, Bool.not_true, Bool.not_false, List.getElem?_cons_zero, List.getElem?_cons_succ, Bool.false_eq_true, if_true, if_false, beq_self_eq_true]
      try rfl
    obtain ⟨R, eR⟩ : ∃ R, R_purserref16_All_0 = R := ⟨_, rfl⟩
    obtain ⟨Lo, eL⟩ : ∃ R, L_purserref16_All_0 = R := ⟨_, rfl⟩
    rw [eR, eL] at fin ⊢
    have fin' := fun T q0 q1 q6 q7 => fin T ⟨q0, q1, ⟨none, some 0, 0, q6, .inl ⟨rfl, rfl, rfl, rfl⟩⟩, q7, Kp.refl _⟩
    clear fin
    rw [show ([] : List Rq).length = 0 from rfl] at fin'
    obtain ⟨RV, eRV⟩ : ∃ z, rdV s.length (s.drop n) = z := ⟨_, rfl⟩
    rw [eRV] at fin' ⊢
    generalize s.length = sl at *
    simp (config := {maxSteps := 2000000}) (disch := first | omega | (simp only [List.length_cons, List.length_nil, List.length_append, List.length_drop]; omega)) only [c0, c1, ↓s_len, x_lenS, ↓b_xor32, ↓b_and32, ↓b_or32, ↓u_not32, b_xor32, b_and32, b_or32, u_not32, w32ad, ↓x_conv, x_convV, ↓x_fieldAddr, x_fieldV, ↓s_nilchk, x_nilchk, Nat.zero_add, Nat.add_zero, Nat.mul_one, ↓l_loop, ↓l_succ, ↓l_normal, l_normal, l_exit, l_ret, l_iteN, ↓h_put_get, ↓h_new_get, ↓h_del_get, h_next_put, h_next_new, h_next_del, Nat.add_assoc, Nat.add_eq_left, Nat.left_eq_add, Nat.add_left_cancel_iff, ↓s_load, m_load, ↓m_load1, m_load1, ↓m_st, m_stE, m_storeI, m_storeE, w_zero, w_succ, ↓s_alloc, ↓x_idxA, ↓x_idxS, x_idxAE, x_idxSE, x_addrE, x_idx, x_lenS, ↓s_len, ↓x_buildS, x_buildE, ↓x_P0, ↓x_P1, x_fill0, x_filli, x_fills, x_fillb, c_int, List.length_cons, List.length_nil, List.cons_append, List.drop_succ_cons, List.drop_zero, List.drop_nil, List.nil_append, Int.reduceAdd, Int.reduceToNat, Int.reduceLT, Int.reduceLE, Nat.reduceAdd, Nat.reduceMul, Nat.reduceLeDiff, Int.reduceEq, Int.reduceSub, Int.cast_ofNat_Int, s_resc, s_consR, m_load4, m_store4, s_res0, ↓s_skip, ↓s_ops, ↓s_dops, ↓s_seq, ↓s_cond, ↓s_block, ↓s_exit, ↓s_ret, ↓s_scope, ↓s_nil, ↓s_op, ↓s_opg, ↓s_wanted', ↓s_wantV, s_wantV, s_wantV0, beq_true, beq_false, ↓s_bindS, s_bindS, ↓s_bindE, s_bindE, s_bindE_ret, s_bindE_exit, s_bindE_iteN, s_norm, ↓s_condV, s_condV, s_block_ret, s_block_normal, s_block_exit, s_block_iteN, ↓s_getp, ↓s_getp0, ↓s_get, s_get0, ↓s_con, ↓s_fn, ↓s_os0, ↓s_os1, ↓s_list0, ↓s_list1, ↓s_mov, ↓s_pick, ↓s_pickE, s_pickE, ↓s_bin, ↓s_un, ↓s_minmax, ↓s_call, ↓s_callv, ↓s_callV, ↓s_ext, s_same, b_eql, b_neq, b_lss, b_leq, b_gtr, b_geq, b_add, b_sub, b_mul, b_eqlb, b_neqb, b_fnil, b_fnil', b_fnil2, b_fnil2', u_neg, u_not, m_two, s_end, s_end', s_end_iteN, s_res0, s_res1, s_tup1, s_tup2, ↓iteN_true, ↓iteN_false, iteN_true, iteN_false, Nat.zero_add, List.nil_append, List.append_nil, Nat.reduceEqDiff, reduceIte, decide_true, decide_false, Bool.not_true, Bool.not_false, List.getElem?_cons_zero, List.getElem?_cons_succ, Bool.false_eq_true, if_true, if_false, beq_self_eq_true]
    exact fin' _ (by (simp only [s_getp, s_getp0, Nat.reduceEqDiff, decide_false, decide_true, iteN_false, iteN_true, eR]; try rfl)) (by (simp only [s_getp, s_getp0, Nat.reduceEqDiff, decide_false, decide_true, iteN_false, iteN_true, eR]; try rfl)) (by (simp only [s_getp, s_getp0, Nat.reduceEqDiff, decide_false, decide_true, iteN_false, iteN_true, eR]; try rfl)) (by (simp only [s_getp, s_getp0, Nat.reduceEqDiff, decide_false, decide_true, iteN_false, iteN_true, eR]; try rfl))
  · rw [if_neg hc]
    refine ⟨h, none, some 0, 0, ?_, Kp.refl _, .inl ⟨rfl, rfl, rfl, rfl⟩⟩
    rcases (show at_ < 0 ∨ (s.length : Int) < at_ by omega) with h0 | h0
    · have c0 : decide (at_ < 0) = true := decide_eq_true h0
      generalize s.length = sl at *
      simp (config := {maxSteps := 2000000}) (disch := first | omega | (simp only [List.length_cons, List.length_nil, List.length_append, List.length_drop]; omega)) only [c0, ↓s_len, x_lenS, ↓b_xor32, ↓b_and32, ↓b_or32, ↓u_not32, b_xor32, b_and32, b_or32, u_not32, w32ad, ↓x_conv, x_convV, ↓x_fieldAddr, x_fieldV, ↓s_nilchk, x_nilchk, Nat.zero_add, Nat.add_zero, Nat.mul_one, ↓l_loop, ↓l_succ, ↓l_normal, l_normal, l_exit, l_ret, l_iteN, ↓h_put_get, ↓h_new_get, ↓h_del_get, h_next_put, h_next_new, h_next_del, Nat.add_assoc, Nat.add_eq_left, Nat.left_eq_add, Nat.add_left_cancel_iff, ↓s_load, m_load, ↓m_load1, m_load1, ↓m_st, m_stE, m_storeI, m_storeE, w_zero, w_succ, ↓s_alloc, ↓x_idxA, ↓x_idxS, x_idxAE, x_idxSE, x_addrE, x_idx, x_lenS, ↓s_len, ↓x_buildS, x_buildE, ↓x_P0, ↓x_P1, x_fill0, x_filli, x_fills, x_fillb, c_int, List.length_cons, List.length_nil, List.cons_append, List.drop_succ_cons, List.drop_zero, List.drop_nil, List.nil_append, Int.reduceAdd, Int.reduceToNat, Int.reduceLT, Int.reduceLE, Nat.reduceAdd, Nat.reduceMul, Nat.reduceLeDiff, Int.reduceEq, Int.reduceSub, Int.cast_ofNat_Int, s_resc, s_consR, m_load4, m_store4, s_res0, ↓s_skip, ↓s_ops, ↓s_dops, ↓s_seq, ↓s_cond, ↓s_block, ↓s_exit, ↓s_ret, ↓s_scope, ↓s_nil, ↓s_op, ↓s_opg, ↓s_wanted', ↓s_wantV, s_wantV, s_wantV0, beq_true, beq_false, ↓s_bindS, s_bindS, ↓s_bindE, s_bindE, s_bindE_ret, s_bindE_exit, s_bindE_iteN, s_norm, ↓s_condV, s_condV, s_block_ret, s_block_normal, s_block_exit, s_block_iteN, ↓s_getp, ↓s_getp0, ↓s_get, s_get0, ↓s_con, ↓s_fn, ↓s_os0, ↓s_os1, ↓s_list0, ↓s_list1, ↓s_mov, ↓s_pick, ↓s_pickE, s_pickE, ↓s_bin, ↓s_un, ↓s_minmax, ↓s_call, ↓s_callv, ↓s_callV, ↓s_ext, s_same, b_eql, b_neq, b_lss, b_leq, b_gtr, b_geq, b_add, b_sub, b_mul, b_eqlb, b_neqb, b_fnil, b_fnil', b_fnil2, b_fnil2', u_neg, u_not, m_two, s_end, s_end', s_end_iteN, s_res0, s_res1, s_tup1, s_tup2, ↓iteN_true, ↓iteN_false, iteN_true, iteN_false, Nat.zero_add, List.nil_append, List.append_nil, Nat.reduceEqDiff, reduceIte, decide_true, decide_false, Bool.not_true, Bool.not_false, List.getElem?_cons_zero, List.getElem?_cons_succ, Bool.false_eq_true, if_true, if_false, beq_self_eq_true]
      try rfl
    · have c0 : decide (at_ < 0) = false := decide_eq_false (by omega)
      have c1 : decide ((s.length : Int) < at_) = true := decide_eq_true h0
      generalize s.length = sl at *
      simp (config := {maxSteps := 2000000}) (disch := first | omega | (simp only [List.length_cons, List.length_nil, List.length_append, List.length_drop]; omega)) only [c0, c1, ↓s_len, x_lenS, ↓b_xor32, ↓b_and32, ↓b_or32, ↓u_not32, b_xor32, b_and32, b_or32, u_not32, w32ad, ↓x_conv, x_convV, ↓x_fieldAddr, x_fieldV, ↓s_nilchk, x_nilchk, Nat.zero_add, Nat.add_zero, Nat.mul_one, ↓l_loop, ↓l_succ, ↓l_normal, l_normal, l_exit, l_ret, l_iteN, ↓h_put_get, ↓h_new_get, ↓h_del_get, h_next_put, h_next_new, h_next_del, Nat.add_assoc, Nat.add_eq_left, Nat.left_eq_add, Nat.add_left_cancel_iff, ↓s_load, m_load, ↓m_load1, m_load1, ↓m_st, m_stE, m_storeI, m_storeE, w_zero, w_succ, ↓s_alloc, ↓x_idxA, ↓x_idxS, x_idxAE, x_idxSE, x_addrE, x_idx, x_lenS, ↓s_len, ↓x_buildS, x_buildE, ↓x_P0, ↓x_P1, x_fill0, x_filli, x_fills, x_fillb, c_int, List.length_cons, List.length_nil, List.cons_append, List.drop_succ_cons, List.drop_zero, List.drop_nil, List.nil_append, Int.reduceAdd, Int.reduceToNat, Int.reduceLT, Int.reduceLE, Nat.reduceAdd, Nat.reduceMul, Nat.reduceLeDiff, Int.reduceEq, Int.reduceSub, Int.cast_ofNat_Int, s_resc, s_consR, m_load4, m_store4, s_res0, ↓s_skip, ↓s_ops, ↓s_dops, ↓s_seq, ↓s_cond, ↓s_block, ↓s_exit, ↓s_ret, ↓s_scope, ↓s_nil, ↓s_op, ↓s_opg, ↓s_wanted', ↓s_wantV, s_wantV, s_wantV0, beq_true, beq_false, ↓s_bindS, s_bindS, ↓s_bindE, s_bindE, s_bindE_ret, s_bindE_exit, s_bindE_iteN, s_norm, ↓s_condV, s_condV, s_block_ret, s_block_normal, s_block_exit, s_block_iteN, ↓s_getp, ↓s_getp0, ↓s_get, s_get0, ↓s_con, ↓s_fn, ↓s_os0, ↓s_os1, ↓s_list0, ↓s_list1, ↓s_mov, ↓s_pick, ↓s_pickE, s_pickE, ↓s_bin, ↓s_un, ↓s_minmax, ↓s_call, ↓s_callv, ↓s_callV, ↓s_ext, s_same, b_eql, b_neq, b_lss, b_leq, b_gtr, b_geq, b_add, b_sub, b_mul, b_eqlb, b_neqb, b_fnil, b_fnil', b_fnil2, b_fnil2', u_neg, u_not, m_two, s_end, s_end', s_end_iteN, s_res0, s_res1, s_tup1, s_tup2, ↓iteN_true, ↓iteN_false, iteN_true, iteN_false, Nat.zero_add, List.nil_append, List.append_nil, Nat.reduceEqDiff, reduceIte, decide_true, decide_false, Bool.not_true, Bool.not_false, List.getElem?_cons_zero, List.getElem?_cons_succ, Bool.false_eq_true, if_true, if_false, beq_self_eq_true]
      try rfl
end Go.Eng
namespace Go.Eng
open Go
variable {E : Nat → Option Fn} {X : Orc}
set_option linter.unusedSimpArgs false
set_option linter.unusedVariables false
theorem writeN_setV : ∀ (vs : List V) (off : Nat) (v : V), off < vs.length → writeN vs off [v] = vs.set off v := by
  intro vs
  induction vs with
  | nil => intro off v h; simp at h
  | cons x r ih =>
    intro off v h
    cases off with
    | zero => rfl
    | succ o => show x :: writeN r o [v] = x :: r.set o v; rw [ih o v (by simpa using h)]
theorem stAnyV (vs c : List V) (md : Md) (hmd : isRo md = false) (h : H) (i off : Nat) (hl : off + c.length ≤ vs.length) : storeE (some (.cells vs md)) h i off c = some (h.put i (.cells (writeN vs off c) md)) := by
  unfold storeE
  cases md with
  | ro => cases hmd
  | rw => simp only [show Nat.ble (off + c.length) vs.length = true from Nat.ble_eq_true_of_le hl, _root_.cond_true]
  | sh => simp only [show Nat.ble (off + c.length) vs.length = true from Nat.ble_eq_true_of_le hl, _root_.cond_true]
/-- a row whose cells and data may be written over: of each only how long it is -/
structure WsI (q : Nat) (md : Md) (dn : List Rq) (K : Nat → Prop) (h0 h : H) : Prop where
  g : ∃ vs, h.get q = some (.cells vs md) ∧ dn.length * 2 ≤ vs.length ∧ ∀ i o, dn[i]? = some o → ∃ b cb eb, vs[i * 2 + 1]? = some (.slice b o.l.length cb eb) ∧ (o.l ≠ [] → ∃ d cur m', b = some (d, 0) ∧ eb = 1 ∧ h.get d = some (.cells (ofI .u8 cur) m') ∧ isRo m' = false ∧ o.l.length ≤ cur.length ∧ d ≠ q ∧ ¬ K d)
  fr : ∀ j, K j → h.get j = h0.get j
  nx : h.next = h0.next
theorem WsI.put {q : Nat} {md : Md} {dn : List Rq} {K : Nat → Prop} {h0 h : H} (w : WsI q md dn K h0 h) (d : Nat) (cur cur' : List Nat) (m' : Md) (hd : d ≠ q) (hl : ¬ K d) (g : h.get d = some (.cells (ofI .u8 cur) m')) (lc : cur'.length = cur.length) (hm' : isRo m' = false) : WsI q md dn K h0 (h.put d (.cells (ofI .u8 cur') m')) := by
  obtain ⟨vs, gq, lv, dt⟩ := w.g
  refine ⟨⟨vs, by rw [h_put_ne _ _ hd, gq], lv, fun i o ho => ?_⟩, fun j hj => by rw [h_put_ne _ _ (by rintro rfl; exact hl hj), w.fr j hj], w.nx⟩
  obtain ⟨b, cb, eb, e1, e2⟩ := dt i o ho
  refine ⟨b, cb, eb, e1, fun hne => ?_⟩
  obtain ⟨d2, cur2, m2, f1, f2, f3, f4, f5, f6, f7⟩ := e2 hne
  by_cases hdd : d2 = d
  · subst hdd
    rw [g] at f3
    obtain ⟨h1, hm⟩ := Blk.cells.inj (Option.some.inj f3)
    have hcl : cur.length = cur2.length := by
      have := congrArg List.length h1
      rw [ofI_len, ofI_len] at this; exact this
    exact ⟨d2, cur', m', f1, f2, h_put_same _ _ _, by rw [hm]; exact f4, by omega, f6, f7⟩
  · exact ⟨d2, cur2, m2, f1, f2, by rw [h_put_ne _ _ (Ne.symm hdd), f3], f4, f5, f6, f7⟩
theorem WsI.kind {q : Nat} {md : Md} {dn : List Rq} {K : Nat → Prop} {h0 h : H} (w : WsI q md dn K h0 h) (hlo : ¬ K q) (vs : List V) (gq : h.get q = some (.cells vs md)) (i : Nat) (v : V) : WsI q md dn K h0 (h.put q (.cells (vs.set (i * 2) v) md)) := by
  obtain ⟨vs', gq', lv, dt⟩ := w.g
  rw [gq] at gq'
  obtain ⟨rfl, _⟩ := Blk.cells.inj (Option.some.inj gq')
  refine ⟨⟨_, h_put_same _ _ _, by rw [List.length_set]; exact lv, fun j o ho => ?_⟩, fun j hj => by rw [h_put_ne _ _ (by rintro rfl; exact hlo hj), w.fr j hj], w.nx⟩
  obtain ⟨b, cb, eb, e1, e2⟩ := dt j o ho
  refine ⟨b, cb, eb, by rw [List.getElem?_set_ne (by omega)]; exact e1, fun hne => ?_⟩
  obtain ⟨d2, cur2, m2, f1, f2, f3, f4, f5, f6, f7⟩ := e2 hne
  exact ⟨d2, cur2, m2, f1, f2, by rw [h_put_ne _ _ (Ne.symm f6), f3], f4, f5, f6, f7⟩
structure S0I (v : V) (n i ol : Nat) (q : Nat) (md : Md) (dn : List Rq) (K : Nat → Prop) (h0 : H) (k : Nat) (T : Tr V) (h : H) : Prop where
  il : k ≤ ol
  t0 : evO T (.t 0) = v
  t2 : evO T (.t 2) = .int .i64 (i : Int)
  t5 : evO T (.t 5) = .int .i64 (n : Int)
  t6 : evO T (.t 6) = .int .i64 (i : Int)
  t14 : evO T (.t 14) = .int .i64 (ol : Int)
  t15 : evO T (.t 15) = .int .i64 (k : Int)
  w : WsI q md dn K h0 h
theorem s0_step (Q : Orc) (m : Nat) (q : Nat) (md : Md) (dn : List Rq) (hd : dn.length ≤ 1000000) (c : Option Nat) (K : Nat → Prop) (h0 : H) (i : Nat) (o : Rq) (ho : dn[i]? = some o) (hol : o.l.length ≤ 1000000) :
    ∀ k T h, k < o.l.length → S0I (.slice (some (q, 0)) dn.length c 2) dn.length i o.l.length q md dn K h0 k T h → ∃ T' h', evC Q 40 m none L_purserlaw16_spoil_0 ⟨T, [], h⟩ = some (.normal, ⟨T', [], h'⟩) ∧ S0I (.slice (some (q, 0)) dn.length c 2) dn.length i o.l.length q md dn K h0 (k + 1) T' h' := by
  intro k T h hk ⟨_, t0, t2, t5, t6, t14, t15, w⟩
  have hi : i < dn.length := (List.getElem?_eq_some_iff.1 ho).1
  have c0 : decide ((k : Int) < (o.l.length : Int)) = true := decide_eq_true (by omega)
  have wi : wr .i64 ((k : Int) + 1) = ((k + 1 : Nat) : Int) := by rw [wr_i64 (by omega)]; omega
  have ixi : idx (i : Int) dn.length = some i := idxn hi
  have ixk : idx (k : Int) o.l.length = some k := idxn hk
  obtain ⟨vs, gq, lv, dt⟩ := w.g
  obtain ⟨b, cb, eb, cg, dt⟩ := dt i o ho
  obtain ⟨d, cur, m', rfl, rfl, gd, hm, hlc, hdq, hld⟩ := dt (fun h => by rw [h] at hk; simp at hk)
  have ck : (ofI .u8 cur)[k]? = some (.int .u8 (cur.getD k 0 : Nat)) := ofI_get _ _ _ (by omega)
  have w8 : wr .u8 (((cur.getD k 0 : Nat) : Int) + 1) = (((cur.getD k 0 + 1) % 256 : Nat) : Int) := w8n (cur.getD k 0 + 1)
  generalize cur.getD k 0 = y at *
  generalize (y + 1) % 256 = y' at *
  have ste := fun (h : H) (v : V) => stAnyR .u8 cur [v] m' hm h d k (by simp only [List.length_cons, List.length_nil]; omega)
  have su := wr1I .u8 cur k y' (by omega)
  have k1 : k + 1 ≤ o.l.length := hk
  have wp := w.put d cur (cur.set k y') m' hdq hld gd (by rw [List.length_set]) hm
  obtain ⟨n, en⟩ : ∃ n, dn.length = n := ⟨_, rfl⟩
  obtain ⟨ol, eol⟩ : ∃ n, o.l.length = n := ⟨_, rfl⟩
  rw [en] at t0 t5 ixi
  rw [eol] at t14 c0 ixk cg
  exact ⟨_, _, by
    simp (config := {maxSteps := 2000000}) (disch := first | omega | (simp only [List.length_cons, List.length_nil, List.length_append, List.length_drop]; omega)) only [L_purserlaw16_spoil_0, t0, t2, t5, t6, t14, t15, gq, gd, cg, ck, c0, wi, ixi, ixk, w8, ste, su, ↓s_len, x_lenS, ↓b_xor32, ↓b_and32, ↓b_or32, ↓u_not32, b_xor32, b_and32, b_or32, u_not32, w32ad, ↓x_conv, x_convV, ↓x_fieldAddr, x_fieldV, ↓s_nilchk, x_nilchk, Nat.zero_add, Nat.add_zero, Nat.mul_one, ↓s_evD, ↓s_dnil, ↓s_dL, ↓s_dLg, ↓s_dR, ↓s_dRg, ↓s_dRj, ↓s_dRjg, ↓s_dB, ↓s_dBg, ↓s_dAlloc, ↓s_bindD, s_bindD, s_finD, s_finDx, s_addP0, s_addP1, s_addB, s_lookP, ↓s_bump0, ↓s_bump_get, s_bump_next, s_ok0, ↓s_ok1, s_okR0, ↓s_okR1, ↓s_okE, s_okE, s_okE1, s_nth0, s_nthS, Nat.add_zero, Bool.and_self, Bool.and_true, Bool.true_and, ↓l_loop, ↓l_succ, ↓l_normal, l_normal, l_exit, l_ret, l_iteN, ↓h_put_get, ↓h_new_get, ↓h_del_get, h_next_put, h_next_new, h_next_del, Nat.add_assoc, Nat.add_eq_left, Nat.left_eq_add, Nat.add_left_cancel_iff, ↓s_load, m_load, ↓m_load1, m_load1, ↓m_st, m_stE, m_storeI, w_zero, w_succ, ↓s_alloc, ↓x_idxA, ↓x_idxS, x_idxAE, x_idxSE, x_addrE, x_idx, x_lenS, ↓s_len, ↓x_buildS, x_buildE, ↓x_P0, ↓x_P1, x_fill0, x_filli, x_fills, x_fillb, c_int, List.length_cons, List.length_nil, List.cons_append, List.drop_succ_cons, List.drop_zero, List.drop_nil, List.nil_append, Int.reduceAdd, Int.reduceToNat, Int.reduceLT, Int.reduceLE, Nat.reduceAdd, Nat.reduceMul, Nat.reduceLeDiff, Int.reduceEq, Int.reduceSub, Int.cast_ofNat_Int, s_resc, s_consR, m_load4, m_store4, s_res0, ↓s_skip, ↓s_ops, ↓s_dops, ↓s_seq, ↓s_cond, ↓s_block, ↓s_exit, ↓s_ret, ↓s_scope, ↓s_nil, ↓s_op, ↓s_opg, ↓s_wanted', ↓s_wantV, s_wantV, s_wantV0, beq_true, beq_false, ↓s_bindS, s_bindS, ↓s_bindE, s_bindE, s_bindE_ret, s_bindE_exit, s_bindE_iteN, s_norm, ↓s_condV, s_condV, s_block_ret, s_block_normal, s_block_exit, s_block_iteN, ↓s_getp, ↓s_getp0, ↓s_get, s_get0, ↓s_con, ↓s_fn, ↓s_os0, ↓s_os1, ↓s_list0, ↓s_list1, ↓s_mov, ↓s_pick, ↓s_pickE, s_pickE, ↓s_bin, ↓s_un, ↓s_minmax, ↓s_call, ↓s_callv, ↓s_callV, ↓s_ext, s_same, b_eql, b_neq, b_lss, b_leq, b_gtr, b_geq, b_add, b_sub, b_mul, b_eqlb, b_neqb, b_fnil, b_fnil', b_fnil2, b_fnil2', u_neg, u_not, m_two, s_end, s_end', s_end_iteN, s_res0, s_res1, s_tup1, s_tup2, ↓iteN_true, ↓iteN_false, iteN_true, iteN_false, Nat.zero_add, List.nil_append, List.append_nil, Nat.reduceEqDiff, reduceIte, decide_true, decide_false, Bool.not_true, Bool.not_false, List.getElem?_cons_zero, List.getElem?_cons_succ, Bool.false_eq_true, if_true, if_false, beq_self_eq_true]
    exact rfl, ⟨k1, by rw [en]; exact (by (simp only [s_getp, s_getp0, Nat.reduceEqDiff, decide_false, decide_true, iteN_false, iteN_true, t0]; try rfl)), (by (simp only [s_getp, s_getp0, Nat.reduceEqDiff, decide_false, decide_true, iteN_false, iteN_true, t2]; try rfl)), by rw [en]; exact (by (simp only [s_getp, s_getp0, Nat.reduceEqDiff, decide_false, decide_true, iteN_false, iteN_true, t5]; try rfl)), (by (simp only [s_getp, s_getp0, Nat.reduceEqDiff, decide_false, decide_true, iteN_false, iteN_true, t6]; try rfl)), by rw [eol]; exact (by (simp only [s_getp, s_getp0, Nat.reduceEqDiff, decide_false, decide_true, iteN_false, iteN_true, t14]; try rfl)), (by (simp only [s_getp, s_getp0, Nat.reduceEqDiff, decide_false, decide_true, iteN_false, iteN_true, t15]; try rfl)), wp⟩⟩
structure S1I (v : V) (n : Nat) (q : Nat) (md : Md) (dn : List Rq) (K : Nat → Prop) (h0 : H) (i : Nat) (T : Tr V) (h : H) : Prop where
  il : i ≤ n
  t0 : evO T (.t 0) = v
  t5 : evO T (.t 5) = .int .i64 (n : Int)
  t6 : evO T (.t 6) = .int .i64 (i : Int)
  w : WsI q md dn K h0 h
theorem s1_step (Q : Orc) (m : Nat) (q : Nat) (md : Md) (hmd : isRo md = false) (dn : List Rq) (hd : dn.length ≤ 1000000) (c : Option Nat) (K : Nat → Prop) (hlo : ¬ K q) (h0 : H) (hol : ∀ o ∈ dn, o.l.length ≤ 1000000) (hm : ∀ o ∈ dn, o.l.length < m) :
    ∀ i T h, i < dn.length → S1I (.slice (some (q, 0)) dn.length c 2) dn.length q md dn K h0 i T h → ∃ T' h', evC Q 40 m none L_purserlaw16_spoil_1 ⟨T, [], h⟩ = some (.normal, ⟨T', [], h'⟩) ∧ S1I (.slice (some (q, 0)) dn.length c 2) dn.length q md dn K h0 (i + 1) T' h' := by
  intro i T0 h hi ⟨_, t0, t5, t6, w⟩
  obtain ⟨o, ho⟩ : ∃ o, dn[i]? = some o := ⟨_, List.getElem?_eq_getElem hi⟩
  have om := List.mem_of_getElem? ho
  have c0 : decide ((i : Int) < (dn.length : Int)) = true := decide_eq_true (by omega)
  have wi : wr .i64 ((i : Int) + 1) = ((i + 1 : Nat) : Int) := by rw [wr_i64 (by omega)]; omega
  have ixi : idx (i : Int) dn.length = some i := idxn hi
  obtain ⟨vs, gq, lv, dt⟩ := w.g
  obtain ⟨b, cb, eb, cg, _⟩ := dt i o ho
  have i1 : i + 1 ≤ dn.length := hi
  have fin : ∀ T, S0I (.slice (some (q, 0)) dn.length c 2) dn.length i o.l.length q md dn K h0 0 T h → ∃ T' h', bindE (blockE 1 (bindE (blockE 2 (loopN (evC Q 40 m none L_purserlaw16_spoil_0) m ⟨T, [], h⟩)) (evC Q 40 m none R_purserlaw16_spoil_0))) (evC Q 40 m none R_purserlaw16_spoil_1) = some (.normal, ⟨T', [], h'⟩) ∧ S1I (.slice (some (q, 0)) dn.length c 2) dn.length q md dn K h0 (i + 1) T' h' := by
    intro T I
    obtain ⟨T3, h3, rr, J⟩ := loop_go (f := evC Q 40 m none L_purserlaw16_spoil_0) (S0I (.slice (some (q, 0)) dn.length c 2) dn.length i o.l.length q md dn K h0) o.l.length (.exit 2) (by intro h; cases h) (S0I (.slice (some (q, 0)) dn.length c 2) dn.length i o.l.length q md dn K h0 o.l.length) (fun k T h hk I => s0_step Q m q md dn hd c K h0 i o ho (hol o om) k T h hk I) (fun T h I => by
      obtain ⟨il, t0, t2, t5, t6, t14, t15, w⟩ := I
      have c0 : decide ((o.l.length : Int) < (o.l.length : Int)) = false := decide_eq_false (by omega)
      obtain ⟨n, en⟩ : ∃ n, dn.length = n := ⟨_, rfl⟩
      obtain ⟨ol, eol⟩ : ∃ n, o.l.length = n := ⟨_, rfl⟩
      rw [en] at t0 t5
      rw [eol] at t14 t15 c0
      exact ⟨_, _, by
        simp (config := {maxSteps := 2000000}) (disch := first | omega | (simp only [List.length_cons, List.length_nil, List.length_append, List.length_drop]; omega)) only [L_purserlaw16_spoil_0, t14, t15, c0, ↓b_xor32, ↓b_and32, ↓b_or32, ↓u_not32, b_xor32, b_and32, b_or32, u_not32, w32ad, ↓x_conv, x_convV, ↓x_fieldAddr, x_fieldV, ↓s_nilchk, x_nilchk, Nat.zero_add, Nat.add_zero, Nat.mul_one, ↓l_loop, ↓l_succ, ↓l_normal, l_normal, l_exit, l_ret, l_iteN, ↓h_put_get, ↓h_new_get, ↓h_del_get, h_next_put, h_next_new, h_next_del, Nat.add_assoc, Nat.add_eq_left, Nat.left_eq_add, Nat.add_left_cancel_iff, ↓s_load, m_load, ↓m_load1, m_load1, ↓m_st, m_stE, m_storeI, m_storeE, w_zero, w_succ, ↓s_alloc, ↓x_idxA, ↓x_idxS, x_idxAE, x_idxSE, x_addrE, x_idx, x_lenS, ↓s_len, ↓x_buildS, x_buildE, ↓x_P0, ↓x_P1, x_fill0, x_filli, x_fills, x_fillb, c_int, List.length_cons, List.length_nil, List.cons_append, List.drop_succ_cons, List.drop_zero, List.drop_nil, List.nil_append, Int.reduceAdd, Int.reduceToNat, Int.reduceLT, Int.reduceLE, Nat.reduceAdd, Nat.reduceMul, Nat.reduceLeDiff, Int.reduceEq, Int.reduceSub, Int.cast_ofNat_Int, s_resc, s_consR, m_load4, m_store4, s_res0, ↓s_skip, ↓s_ops, ↓s_dops, ↓s_seq, ↓s_cond, ↓s_block, ↓s_exit, ↓s_ret, ↓s_scope, ↓s_nil, ↓s_op, ↓s_opg, ↓s_wanted', ↓s_wantV, s_wantV, s_wantV0, beq_true, beq_false, ↓s_bindS, s_bindS, ↓s_bindE, s_bindE, s_bindE_ret, s_bindE_exit, s_bindE_iteN, s_norm, ↓s_condV, s_condV, s_block_ret, s_block_normal, s_block_exit, s_block_iteN, ↓s_getp, ↓s_getp0, ↓s_get, s_get0, ↓s_con, ↓s_fn, ↓s_os0, ↓s_os1, ↓s_list0, ↓s_list1, ↓s_mov, ↓s_pick, ↓s_pickE, s_pickE, ↓s_bin, ↓s_un, ↓s_minmax, ↓s_call, ↓s_callv, ↓s_callV, ↓s_ext, s_same, b_eql, b_neq, b_lss, b_leq, b_gtr, b_geq, b_add, b_sub, b_mul, b_eqlb, b_neqb, b_fnil, b_fnil', b_fnil2, b_fnil2', u_neg, u_not, m_two, s_end, s_end', s_end_iteN, s_res0, s_res1, s_tup1, s_tup2, ↓iteN_true, ↓iteN_false, iteN_true, iteN_false, Nat.zero_add, List.nil_append, List.append_nil, Nat.reduceEqDiff, reduceIte, decide_true, decide_false, Bool.not_true, Bool.not_false, List.getElem?_cons_zero, List.getElem?_cons_succ, Bool.false_eq_true, if_true, if_false, beq_self_eq_true]
        exact rfl, ⟨il, by rw [en]; exact (by (simp only [s_getp, s_getp0, Nat.reduceEqDiff, decide_false, decide_true, iteN_false, iteN_true, t0]; try rfl)), (by (simp only [s_getp, s_getp0, Nat.reduceEqDiff, decide_false, decide_true, iteN_false, iteN_true, t2]; try rfl)), by rw [en]; exact (by (simp only [s_getp, s_getp0, Nat.reduceEqDiff, decide_false, decide_true, iteN_false, iteN_true, t5]; try rfl)), (by (simp only [s_getp, s_getp0, Nat.reduceEqDiff, decide_false, decide_true, iteN_false, iteN_true, t6]; try rfl)), by rw [eol]; exact (by (simp only [s_getp, s_getp0, Nat.reduceEqDiff, decide_false, decide_true, iteN_false, iteN_true, t14]; try rfl)), by rw [eol]; exact (by (simp only [s_getp, s_getp0, Nat.reduceEqDiff, decide_false, decide_true, iteN_false, iteN_true, t15]; try rfl)), w⟩⟩) o.l.length 0 (by omega) m (hm o om) T h I
    rw [rr]
    obtain ⟨_, t0, t2, t5, t6, t14, t15, w3⟩ := J
    obtain ⟨vs3, gq3, lv3, _⟩ := w3.g
    have wk := w3.kind hlo vs3 gq3 i (.int .i64 (-1))
    have ste := fun (h : H) => stAnyV vs3 [.int .i64 (-1)] md hmd h q (i * 2) (by show i * 2 + 1 ≤ _; omega)
    have su := writeN_setV vs3 (i * 2) (.int .i64 (-1)) (by omega)
    obtain ⟨n, en⟩ : ∃ n, dn.length = n := ⟨_, rfl⟩
    rw [en] at t0 t5 ixi
    exact ⟨_, _, by
      simp (config := {maxSteps := 2000000}) (disch := first | omega | (simp only [List.length_cons, List.length_nil, List.length_append, List.length_drop]; omega)) only [R_purserlaw16_spoil_0, R_purserlaw16_spoil_1, t0, t2, t5, t6, gq3, ixi, ste, su, wi, ↓b_xor32, ↓b_and32, ↓b_or32, ↓u_not32, b_xor32, b_and32, b_or32, u_not32, w32ad, ↓x_conv, x_convV, ↓x_fieldAddr, x_fieldV, ↓s_nilchk, x_nilchk, Nat.zero_add, Nat.add_zero, Nat.mul_one, ↓l_loop, ↓l_succ, ↓l_normal, l_normal, l_exit, l_ret, l_iteN, ↓h_put_get, ↓h_new_get, ↓h_del_get, h_next_put, h_next_new, h_next_del, Nat.add_assoc, Nat.add_eq_left, Nat.left_eq_add, Nat.add_left_cancel_iff, ↓s_load, m_load, ↓m_load1, m_load1, ↓m_st, m_stE, m_storeI, w_zero, w_succ, ↓s_alloc, ↓x_idxA, ↓x_idxS, x_idxAE, x_idxSE, x_addrE, x_idx, x_lenS, ↓s_len, ↓x_buildS, x_buildE, ↓x_P0, ↓x_P1, x_fill0, x_filli, x_fills, x_fillb, c_int, List.length_cons, List.length_nil, List.cons_append, List.drop_succ_cons, List.drop_zero, List.drop_nil, List.nil_append, Int.reduceAdd, Int.reduceToNat, Int.reduceLT, Int.reduceLE, Nat.reduceAdd, Nat.reduceMul, Nat.reduceLeDiff, Int.reduceEq, Int.reduceSub, Int.cast_ofNat_Int, s_resc, s_consR, m_load4, m_store4, s_res0, ↓s_skip, ↓s_ops, ↓s_dops, ↓s_seq, ↓s_cond, ↓s_block, ↓s_exit, ↓s_ret, ↓s_scope, ↓s_nil, ↓s_op, ↓s_opg, ↓s_wanted', ↓s_wantV, s_wantV, s_wantV0, beq_true, beq_false, ↓s_bindS, s_bindS, ↓s_bindE, s_bindE, s_bindE_ret, s_bindE_exit, s_bindE_iteN, s_norm, ↓s_condV, s_condV, s_block_ret, s_block_normal, s_block_exit, s_block_iteN, ↓s_getp, ↓s_getp0, ↓s_get, s_get0, ↓s_con, ↓s_fn, ↓s_os0, ↓s_os1, ↓s_list0, ↓s_list1, ↓s_mov, ↓s_pick, ↓s_pickE, s_pickE, ↓s_bin, ↓s_un, ↓s_minmax, ↓s_call, ↓s_callv, ↓s_callV, ↓s_ext, s_same, b_eql, b_neq, b_lss, b_leq, b_gtr, b_geq, b_add, b_sub, b_mul, b_eqlb, b_neqb, b_fnil, b_fnil', b_fnil2, b_fnil2', u_neg, u_not, m_two, s_end, s_end', s_end_iteN, s_res0, s_res1, s_tup1, s_tup2, ↓iteN_true, ↓iteN_false, iteN_true, iteN_false, Nat.zero_add, List.nil_append, List.append_nil, Nat.reduceEqDiff, reduceIte, decide_true, decide_false, Bool.not_true, Bool.not_false, List.getElem?_cons_zero, List.getElem?_cons_succ, Bool.false_eq_true, if_true, if_false, beq_self_eq_true]
      exact rfl, ⟨i1, by rw [en]; exact (by (simp only [s_getp, s_getp0, Nat.reduceEqDiff, decide_false, decide_true, iteN_false, iteN_true, t0]; try rfl)), by rw [en]; exact (by (simp only [s_getp, s_getp0, Nat.reduceEqDiff, decide_false, decide_true, iteN_false, iteN_true, t5]; try rfl)), (by (simp only [s_getp, s_getp0, Nat.reduceEqDiff, decide_false, decide_true, iteN_false, iteN_true, t6]; try rfl)), wk⟩⟩
  obtain ⟨R0, eR0⟩ : ∃ R, R_purserlaw16_spoil_0 = R := ⟨_, rfl⟩
  obtain ⟨R1, eR1⟩ : ∃ R, R_purserlaw16_spoil_1 = R := ⟨_, rfl⟩
  obtain ⟨Lo, eL⟩ : ∃ R, L_purserlaw16_spoil_0 = R := ⟨_, rfl⟩
  rw [eR0, eR1, eL] at fin
  have fin' := fun T q0 q2 q5 q6 q14 q15 => fin T ⟨Nat.zero_le _, q0, q2, q5, q6, q14, q15, w⟩
  clear fin
  obtain ⟨n, en⟩ : ∃ n, dn.length = n := ⟨_, rfl⟩
  obtain ⟨ol, eol⟩ : ∃ n, o.l.length = n := ⟨_, rfl⟩
  rw [en] at t0 t5 c0 ixi fin' ⊢
  rw [eol] at cg fin'
  simp (config := {maxSteps := 2000000}) (disch := first | omega | (simp only [List.length_cons, List.length_nil, List.length_append, List.length_drop]; omega)) only [L_purserlaw16_spoil_1, eR0, eR1, eL, t0, t5, t6, gq, cg, c0, ixi, ↓s_len, x_lenS, ↓b_xor32, ↓b_and32, ↓b_or32, ↓u_not32, b_xor32, b_and32, b_or32, u_not32, w32ad, ↓x_conv, x_convV, ↓x_fieldAddr, x_fieldV, ↓s_nilchk, x_nilchk, Nat.zero_add, Nat.add_zero, Nat.mul_one, ↓l_loop, ↓l_succ, ↓l_normal, l_normal, l_exit, l_ret, l_iteN, ↓h_put_get, ↓h_new_get, ↓h_del_get, h_next_put, h_next_new, h_next_del, Nat.add_assoc, Nat.add_eq_left, Nat.left_eq_add, Nat.add_left_cancel_iff, ↓s_load, m_load, ↓m_load1, m_load1, ↓m_st, m_stE, m_storeI, m_storeE, w_zero, w_succ, ↓s_alloc, ↓x_idxA, ↓x_idxS, x_idxAE, x_idxSE, x_addrE, x_idx, x_lenS, ↓s_len, ↓x_buildS, x_buildE, ↓x_P0, ↓x_P1, x_fill0, x_filli, x_fills, x_fillb, c_int, List.length_cons, List.length_nil, List.cons_append, List.drop_succ_cons, List.drop_zero, List.drop_nil, List.nil_append, Int.reduceAdd, Int.reduceToNat, Int.reduceLT, Int.reduceLE, Nat.reduceAdd, Nat.reduceMul, Nat.reduceLeDiff, Int.reduceEq, Int.reduceSub, Int.cast_ofNat_Int, s_resc, s_consR, m_load4, m_store4, s_res0, ↓s_skip, ↓s_ops, ↓s_dops, ↓s_seq, ↓s_cond, ↓s_block, ↓s_exit, ↓s_ret, ↓s_scope, ↓s_nil, ↓s_op, ↓s_opg, ↓s_wanted', ↓s_wantV, s_wantV, s_wantV0, beq_true, beq_false, ↓s_bindS, s_bindS, ↓s_bindE, s_bindE, s_bindE_ret, s_bindE_exit, s_bindE_iteN, s_norm, ↓s_condV, s_condV, s_block_ret, s_block_normal, s_block_exit, s_block_iteN, ↓s_getp, ↓s_getp0, ↓s_get, s_get0, ↓s_con, ↓s_fn, ↓s_os0, ↓s_os1, ↓s_list0, ↓s_list1, ↓s_mov, ↓s_pick, ↓s_pickE, s_pickE, ↓s_bin, ↓s_un, ↓s_minmax, ↓s_call, ↓s_callv, ↓s_callV, ↓s_ext, s_same, b_eql, b_neq, b_lss, b_leq, b_gtr, b_geq, b_add, b_sub, b_mul, b_eqlb, b_neqb, b_fnil, b_fnil', b_fnil2, b_fnil2', u_neg, u_not, m_two, s_end, s_end', s_end_iteN, s_res0, s_res1, s_tup1, s_tup2, ↓iteN_true, ↓iteN_false, iteN_true, iteN_false, Nat.zero_add, List.nil_append, List.append_nil, Nat.reduceEqDiff, reduceIte, decide_true, decide_false, Bool.not_true, Bool.not_false, List.getElem?_cons_zero, List.getElem?_cons_succ, Bool.false_eq_true, if_true, if_false, beq_self_eq_true]
  exact fin' _ (by (simp only [s_getp, s_getp0, Nat.reduceEqDiff, decide_false, decide_true, iteN_false, iteN_true, t0]; try rfl)) (by (simp only [s_getp, s_getp0, Nat.reduceEqDiff, decide_false, decide_true, iteN_false, iteN_true, t0]; try rfl)) (by (simp only [s_getp, s_getp0, Nat.reduceEqDiff, decide_false, decide_true, iteN_false, iteN_true, t5]; try rfl)) (by (simp only [s_getp, s_getp0, Nat.reduceEqDiff, decide_false, decide_true, iteN_false, iteN_true, t6]; try rfl)) (by (simp only [s_getp, s_getp0, Nat.reduceEqDiff, decide_false, decide_true, iteN_false, iteN_true, t0]; try rfl)) (by (simp only [s_getp, s_getp0, Nat.reduceEqDiff, decide_false, decide_true, iteN_false, iteN_true, t0]; try rfl))
theorem spoil_go (es : E k_purserlaw16_spoil = some f_purserlaw16_spoil) (xs : ∀ a h, X (.fn k_purserlaw16_spoil) a h = none) (M : Nat) (dn : List Rq) (hd : dn.length ≤ 1000000) (hol : ∀ o ∈ dn, o.l.length ≤ 1000000) (hm : ∀ o ∈ dn, o.l.length < M) (hM : dn.length < M) (a : Option (Nat × Nat)) (c : Option Nat) (e : Nat) (K : Nat → Prop) (h : H) (hw : dn = [] ∨ ∃ q md, a = some (q, 0) ∧ e = 2 ∧ isRo md = false ∧ ¬ K q ∧ WsI q md dn K h h) :
    ∃ h', callX E X (M + 1) (.fn k_purserlaw16_spoil) [.slice a dn.length c e] h = some (.tup [], h') ∧ h'.next = h.next ∧ ∀ j, K j → h'.get j = h.get j := by
  rw [x_cfn es _ _ (Nat.le_of_ble_eq_true rfl) (xs _ _)]
  rcases hw with rfl | ⟨q, md, rfl, rfl, hmd, hlo, w⟩
  · refine ⟨h, ?_, rfl, fun _ _ => rfl⟩
    have c0 : decide ((0 : Int) < ((0 : Nat) : Int)) = false := rfl
    have c1 : decide ((0 : Int) < 0) = false := rfl
    obtain ⟨M, rfl⟩ : ∃ k, M = k + 1 := ⟨M - 1, by omega⟩
    rw [List.length_nil]
    simp (config := {maxSteps := 2000000}) (disch := first | omega | (simp only [List.length_cons, List.length_nil, List.length_append, List.length_drop]; omega)) only [L_purserlaw16_spoil_1, c0, c1, ↓s_len, x_lenS, ↓b_xor32, ↓b_and32, ↓b_or32, ↓u_not32, b_xor32, b_and32, b_or32, u_not32, w32ad, ↓x_conv, x_convV, ↓x_fieldAddr, x_fieldV, ↓s_nilchk, x_nilchk, Nat.zero_add, Nat.add_zero, Nat.mul_one, ↓l_loop, ↓l_succ, ↓l_normal, l_normal, l_exit, l_ret, l_iteN, ↓h_put_get, ↓h_new_get, ↓h_del_get, h_next_put, h_next_new, h_next_del, Nat.add_assoc, Nat.add_eq_left, Nat.left_eq_add, Nat.add_left_cancel_iff, ↓s_load, m_load, ↓m_load1, m_load1, ↓m_st, m_stE, m_storeI, m_storeE, w_zero, w_succ, ↓s_alloc, ↓x_idxA, ↓x_idxS, x_idxAE, x_idxSE, x_addrE, x_idx, x_lenS, ↓s_len, ↓x_buildS, x_buildE, ↓x_P0, ↓x_P1, x_fill0, x_filli, x_fills, x_fillb, c_int, List.length_cons, List.length_nil, List.cons_append, List.drop_succ_cons, List.drop_zero, List.drop_nil, List.nil_append, Int.reduceAdd, Int.reduceToNat, Int.reduceLT, Int.reduceLE, Nat.reduceAdd, Nat.reduceMul, Nat.reduceLeDiff, Int.reduceEq, Int.reduceSub, Int.cast_ofNat_Int, s_resc, s_consR, m_load4, m_store4, s_res0, ↓s_skip, ↓s_ops, ↓s_dops, ↓s_seq, ↓s_cond, ↓s_block, ↓s_exit, ↓s_ret, ↓s_scope, ↓s_nil, ↓s_op, ↓s_opg, ↓s_wanted', ↓s_wantV, s_wantV, s_wantV0, beq_true, beq_false, ↓s_bindS, s_bindS, ↓s_bindE, s_bindE, s_bindE_ret, s_bindE_exit, s_bindE_iteN, s_norm, ↓s_condV, s_condV, s_block_ret, s_block_normal, s_block_exit, s_block_iteN, ↓s_getp, ↓s_getp0, ↓s_get, s_get0, ↓s_con, ↓s_fn, ↓s_os0, ↓s_os1, ↓s_list0, ↓s_list1, ↓s_mov, ↓s_pick, ↓s_pickE, s_pickE, ↓s_bin, ↓s_un, ↓s_minmax, ↓s_call, ↓s_callv, ↓s_callV, ↓s_ext, s_same, b_eql, b_neq, b_lss, b_leq, b_gtr, b_geq, b_add, b_sub, b_mul, b_eqlb, b_neqb, b_fnil, b_fnil', b_fnil2, b_fnil2', u_neg, u_not, m_two, s_end, s_end', s_end_iteN, s_res0, s_res1, s_tup1, s_tup2, ↓iteN_true, ↓iteN_false, iteN_true, iteN_false, Nat.zero_add, List.nil_append, List.append_nil, Nat.reduceEqDiff, reduceIte, decide_true, decide_false, Bool.not_true, Bool.not_false, List.getElem?_cons_zero, List.getElem?_cons_succ, Bool.false_eq_true, if_true, if_false, beq_self_eq_true]
    try rfl
  · have fin : ∀ T, S1I (.slice (some (q, 0)) dn.length c 2) dn.length q md dn K h 0 T h → ∃ h', fnEnd [] (blockE 0 (loopN (evC (callX E X M) 40 M none L_purserlaw16_spoil_1) M ⟨T, [], h⟩)) = some (.tup [], h') ∧ h'.next = h.next ∧ ∀ j, K j → h'.get j = h.get j := by
      intro T I
      obtain ⟨T3, h3, rr, J⟩ := loop_go (f := evC (callX E X M) 40 M none L_purserlaw16_spoil_1) (S1I (.slice (some (q, 0)) dn.length c 2) dn.length q md dn K h) dn.length (.exit 0) (by intro h; cases h) (fun _ h' => WsI q md dn K h h') (fun i T h' hi I => s1_step _ M q md hmd dn hd c K hlo h hol hm i T h' hi I) (fun T h' I => by
        obtain ⟨il, t0, t5, t6, w⟩ := I
        have c0 : decide ((dn.length : Int) < (dn.length : Int)) = false := decide_eq_false (by omega)
        generalize dn.length = n at *
        exact ⟨_, _, by
          simp (config := {maxSteps := 2000000}) (disch := first | omega | (simp only [List.length_cons, List.length_nil, List.length_append, List.length_drop]; omega)) only [L_purserlaw16_spoil_1, t5, t6, c0, ↓b_xor32, ↓b_and32, ↓b_or32, ↓u_not32, b_xor32, b_and32, b_or32, u_not32, w32ad, ↓x_conv, x_convV, ↓x_fieldAddr, x_fieldV, ↓s_nilchk, x_nilchk, Nat.zero_add, Nat.add_zero, Nat.mul_one, ↓l_loop, ↓l_succ, ↓l_normal, l_normal, l_exit, l_ret, l_iteN, ↓h_put_get, ↓h_new_get, ↓h_del_get, h_next_put, h_next_new, h_next_del, Nat.add_assoc, Nat.add_eq_left, Nat.left_eq_add, Nat.add_left_cancel_iff, ↓s_load, m_load, ↓m_load1, m_load1, ↓m_st, m_stE, m_storeI, m_storeE, w_zero, w_succ, ↓s_alloc, ↓x_idxA, ↓x_idxS, x_idxAE, x_idxSE, x_addrE, x_idx, x_lenS, ↓s_len, ↓x_buildS, x_buildE, ↓x_P0, ↓x_P1, x_fill0, x_filli, x_fills, x_fillb, c_int, List.length_cons, List.length_nil, List.cons_append, List.drop_succ_cons, List.drop_zero, List.drop_nil, List.nil_append, Int.reduceAdd, Int.reduceToNat, Int.reduceLT, Int.reduceLE, Nat.reduceAdd, Nat.reduceMul, Nat.reduceLeDiff, Int.reduceEq, Int.reduceSub, Int.cast_ofNat_Int, s_resc, s_consR, m_load4, m_store4, s_res0, ↓s_skip, ↓s_ops, ↓s_dops, ↓s_seq, ↓s_cond, ↓s_block, ↓s_exit, ↓s_ret, ↓s_scope, ↓s_nil, ↓s_op, ↓s_opg, ↓s_wanted', ↓s_wantV, s_wantV, s_wantV0, beq_true, beq_false, ↓s_bindS, s_bindS, ↓s_bindE, s_bindE, s_bindE_ret, s_bindE_exit, s_bindE_iteN, s_norm, ↓s_condV, s_condV, s_block_ret, s_block_normal, s_block_exit, s_block_iteN, ↓s_getp, ↓s_getp0, ↓s_get, s_get0, ↓s_con, ↓s_fn, ↓s_os0, ↓s_os1, ↓s_list0, ↓s_list1, ↓s_mov, ↓s_pick, ↓s_pickE, s_pickE, ↓s_bin, ↓s_un, ↓s_minmax, ↓s_call, ↓s_callv, ↓s_callV, ↓s_ext, s_same, b_eql, b_neq, b_lss, b_leq, b_gtr, b_geq, b_add, b_sub, b_mul, b_eqlb, b_neqb, b_fnil, b_fnil', b_fnil2, b_fnil2', u_neg, u_not, m_two, s_end, s_end', s_end_iteN, s_res0, s_res1, s_tup1, s_tup2, ↓iteN_true, ↓iteN_false, iteN_true, iteN_false, Nat.zero_add, List.nil_append, List.append_nil, Nat.reduceEqDiff, reduceIte, decide_true, decide_false, Bool.not_true, Bool.not_false, List.getElem?_cons_zero, List.getElem?_cons_succ, Bool.false_eq_true, if_true, if_false, beq_self_eq_true]
          exact rfl, w⟩) dn.length 0 (by omega) M (by omega) T h I
      rw [rr]
      exact ⟨h3, rfl, J.nx, J.fr⟩
    obtain ⟨Lo, eL⟩ : ∃ R, L_purserlaw16_spoil_1 = R := ⟨_, rfl⟩
    rw [eL] at fin ⊢
    have fin' := fun T q0 q5 q6 => fin T ⟨Nat.zero_le _, q0, q5, q6, w⟩
    clear fin
    generalize dn.length = n at *
    simp (config := {maxSteps := 2000000}) (disch := first | omega | (simp only [List.length_cons, List.length_nil, List.length_append, List.length_drop]; omega)) only [↓s_len, x_lenS, ↓b_xor32, ↓b_and32, ↓b_or32, ↓u_not32, b_xor32, b_and32, b_or32, u_not32, w32ad, ↓x_conv, x_convV, ↓x_fieldAddr, x_fieldV, ↓s_nilchk, x_nilchk, Nat.zero_add, Nat.add_zero, Nat.mul_one, ↓l_loop, ↓l_succ, ↓l_normal, l_normal, l_exit, l_ret, l_iteN, ↓h_put_get, ↓h_new_get, ↓h_del_get, h_next_put, h_next_new, h_next_del, Nat.add_assoc, Nat.add_eq_left, Nat.left_eq_add, Nat.add_left_cancel_iff, ↓s_load, m_load, ↓m_load1, m_load1, ↓m_st, m_stE, m_storeI, m_storeE, w_zero, w_succ, ↓s_alloc, ↓x_idxA, ↓x_idxS, x_idxAE, x_idxSE, x_addrE, x_idx, x_lenS, ↓s_len, ↓x_buildS, x_buildE, ↓x_P0, ↓x_P1, x_fill0, x_filli, x_fills, x_fillb, c_int, List.length_cons, List.length_nil, List.cons_append, List.drop_succ_cons, List.drop_zero, List.drop_nil, List.nil_append, Int.reduceAdd, Int.reduceToNat, Int.reduceLT, Int.reduceLE, Nat.reduceAdd, Nat.reduceMul, Nat.reduceLeDiff, Int.reduceEq, Int.reduceSub, Int.cast_ofNat_Int, s_resc, s_consR, m_load4, m_store4, s_res0, ↓s_skip, ↓s_ops, ↓s_dops, ↓s_seq, ↓s_cond, ↓s_block, ↓s_exit, ↓s_ret, ↓s_scope, ↓s_nil, ↓s_op, ↓s_opg, ↓s_wanted', ↓s_wantV, s_wantV, s_wantV0, beq_true, beq_false, ↓s_bindS, s_bindS, ↓s_bindE, s_bindE, s_bindE_ret, s_bindE_exit, s_bindE_iteN, s_norm, ↓s_condV, s_condV, s_block_ret, s_block_normal, s_block_exit, s_block_iteN, ↓s_getp, ↓s_getp0, ↓s_get, s_get0, ↓s_con, ↓s_fn, ↓s_os0, ↓s_os1, ↓s_list0, ↓s_list1, ↓s_mov, ↓s_pick, ↓s_pickE, s_pickE, ↓s_bin, ↓s_un, ↓s_minmax, ↓s_call, ↓s_callv, ↓s_callV, ↓s_ext, s_same, b_eql, b_neq, b_lss, b_leq, b_gtr, b_geq, b_add, b_sub, b_mul, b_eqlb, b_neqb, b_fnil, b_fnil', b_fnil2, b_fnil2', u_neg, u_not, m_two, s_end, s_end', s_end_iteN, s_res0, s_res1, s_tup1, s_tup2, ↓iteN_true, ↓iteN_false, iteN_true, iteN_false, Nat.zero_add, List.nil_append, List.append_nil, Nat.reduceEqDiff, reduceIte, decide_true, decide_false, Bool.not_true, Bool.not_false, List.getElem?_cons_zero, List.getElem?_cons_succ, Bool.false_eq_true, if_true, if_false, beq_self_eq_true]
    exact fin' _ (by (simp only [s_getp, s_getp0, Nat.reduceEqDiff, decide_false, decide_true, iteN_false, iteN_true, eL]; try rfl)) (by (simp only [s_getp, s_getp0, Nat.reduceEqDiff, decide_false, decide_true, iteN_false, iteN_true, eL]; try rfl)) (by (simp only [s_getp, s_getp0, Nat.reduceEqDiff, decide_false, decide_true, iteN_false, iteN_true, eL]; try rfl))
theorem RrF.ws {lo : Nat} {h : H} {dn : List Rq} {a : Option (Nat × Nat)} {c : Option Nat} {e : Nat} (r : RrF lo h dn a c e) : dn = [] ∨ ∃ q md, a = some (q, 0) ∧ e = 2 ∧ isRo md = false ∧ ¬ (fun j => j < lo) q ∧ WsI q md dn (fun j => j < lo) h h := by
  rcases r with ⟨r, _⟩ | ⟨h1, q, md, ps, e1, e2, e3, g, al, hm, hq, hl⟩
  · exact .inl r
  · refine .inr ⟨q, md, e1, e3, hm, Nat.not_lt_of_le hl, ⟨⟨_, g, by rw [flat_len (k := 2) (ral_len2 al), al.len]; exact Nat.le_refl _, fun i o ho => ?_⟩, fun _ _ => rfl, rfl⟩⟩
    obtain ⟨p, hp, b, cb, eb, rfl, s, d⟩ := al.get i o ho
    have h1 := flat_cell (k := 2) (ral_len2 al) i _ hp 1 (by omega)
    refine ⟨b, cb, eb, h1, fun hne => ?_⟩
    rcases s with s | ⟨q', m', f1, f2, f3, f4, f5⟩
    · exact absurd s hne
    · obtain ⟨d1, d2⟩ := d hne q' 0 f1
      exact ⟨q', _, m', f1, f2, f3, f4, Nat.le_refl _, d2, Nat.not_lt_of_le d1⟩
end Go.Eng
namespace Go.Eng
open Go
variable {E : Nat → Option Fn} {X : Orc}
set_option linter.unusedSimpArgs false
set_option linter.unusedVariables false
/-- what Decode answers, at any place -/
def dzR (s : List Nat) (at_ : Int) : Rq × Nat × Nat := if 0 ≤ at_ ∧ at_ ≤ s.length then (match dcV (s.drop at_.toNat) with
  | some (o, k) => (o, at_.toNat + k, 0)
  | none => (⟨0, []⟩, 0, 160)) else (⟨0, []⟩, 0, 160)
theorem dz_ok (s : List Nat) (bs : byt s = true) (at_ : Int) : (dzR s at_).1.ok ∧ (dzR s at_).1.l.length ≤ s.length := by
  have z : (⟨0, []⟩ : Rq).ok := ⟨by decide, by decide, rfl⟩
  unfold dzR
  by_cases hc : 0 ≤ at_ ∧ at_ ≤ s.length
  · rw [if_pos hc]
    cases hd : dcV (s.drop at_.toNat) with
    | none => exact ⟨z, Nat.zero_le _⟩
    | some q =>
      obtain ⟨o, k⟩ := q
      obtain ⟨f1, f2, f3, f4, f5⟩ := dc_of _ (byt_drop bs _) o k hd
      rw [List.length_drop] at f5
      exact ⟨f2, by show o.l.length ≤ _; omega⟩
  · rw [if_neg hc]; exact ⟨z, Nat.zero_le _⟩
theorem decAny (e : EnRd E) (x : NoRd X) (M : Nat) (hM : 50100 < M) (s : List Nat) (bs : byt s = true) (hs : s.length ≤ 50000) (at_ : Int) (a : Option (Nat × Nat)) (c : Option Nat) (ez : Nat) (sb : SB s a c ez) (h : H) (src : SrcH h a ez s) :
    ∃ h' a2 c2 e2, callX E X (M + 22) (.fn k_record_Decode) [.slice a s.length c ez, .int .i64 at_] h = some (.tup [.agg [.int .i64 (dzR s at_).1.kind, .slice a2 (dzR s at_).1.l.length c2 e2], .int .i64 ((dzR s at_).2.1 : Int), .int .i64 ((dzR s at_).2.2 : Int)], h') ∧ Kp h h' ∧ Wb h' (dzR s at_).1.l a2 c2 e2 ∧ ∀ q z, a2 = some (q, z) → h.next < q := by
  unfold dzR
  by_cases hc : 0 ≤ at_ ∧ at_ ≤ s.length
  · rw [if_pos hc]
    obtain ⟨n, rfl⟩ := Int.eq_ofNat_of_zero_le hc.1
    rw [Int.toNat_natCast]
    obtain ⟨h', k, r⟩ := decode_goB e.de e.rh e.cm x.cm x.de x.rh M hM s bs hs n (by omega) a c ez sb h src
    cases hd : dcV (s.drop n) with
    | none =>
      rw [hd] at r
      exact ⟨h', none, some 0, 0, r, k, .nil _, fun _ _ e => by cases e⟩
    | some q =>
      obtain ⟨o, j⟩ := q
      rw [hd] at r
      obtain ⟨a2, c2, e2, r, wb, ge⟩ := r
      exact ⟨h', a2, c2, e2, r, k, wb, ge⟩
  · rw [if_neg hc]
    obtain ⟨h', k, r⟩ := decode_bad e.de x.de (M + 20) s.length at_ (by omega) a c ez h
    exact ⟨h', none, some 0, 0, r, k, .nil _, fun _ _ e => by cases e⟩
theorem ddecAny (e : EnRa E) (x : NoRa X) (N : Nat) (s : List Nat) (bs : byt s = true) (hs : s.length ≤ 50000) (at_ : Int) (a : Option (Nat × Nat)) (h : H) (src : SrcH h a 1 s) :
    ∃ h' a2 c2 e2, callX E X (N + 50103) (.fn k_purserref16_Decode) [.slice a s.length none 1, .int .i64 at_] h = some (.tup [.agg [.int .i64 (dzR s at_).1.kind, .slice a2 (dzR s at_).1.l.length c2 e2], .int .i64 ((dzR s at_).2.1 : Int), .int .i64 ((dzR s at_).2.2 : Int)], h') ∧ Kp h h' ∧ Wb h' (dzR s at_).1.l a2 c2 e2 ∧ ∀ q z, a2 = some (q, z) → h.next < q := by
  unfold dzR
  by_cases hc : 0 ≤ at_ ∧ at_ ≤ s.length
  · rw [if_pos hc]
    obtain ⟨n, rfl⟩ := Int.eq_ofNat_of_zero_le hc.1
    rw [Int.toNat_natCast]
    obtain ⟨h', k, r⟩ := ddecode_go e x N s bs hs n (by omega) a h src
    cases hd : dcV (s.drop n) with
    | none =>
      rw [hd] at r
      exact ⟨h', none, some 0, 0, r, k, .nil _, fun _ _ e => by cases e⟩
    | some q =>
      obtain ⟨o, j⟩ := q
      rw [hd] at r
      obtain ⟨a2, c2, e2, r, wb, ge⟩ := r
      exact ⟨h', a2, c2, e2, r, k, wb, ge⟩
  · rw [if_neg hc]
    obtain ⟨h', k, r⟩ := ddecode_bad e.de x.de (N + 50101) s.length (by omega) at_ (by omega) a none 1 h
    exact ⟨h', none, some 0, 0, r, k, .nil _, fun _ _ e => by cases e⟩
theorem lit_row (h : H) (q : Nat) (o : Rq) (a : Option (Nat × Nat)) (c : Option Nat) (e : Nat) (md : Md) (g : h.get q = some (.cells [.int .i64 o.kind, .slice a o.l.length c e] md)) (hq : q < h.next) (s : SrcH h a e o.l) : RrS h [o] (some (q, 0)) 2 :=
  .inr ⟨q, 0, _, md, rfl, rfl, hq, g, by show 0 + 1 * 2 ≤ 2; omega, fun i o' ho => by
    cases i with
    | zero => cases ho; exact ⟨a, c, e, rfl, s⟩
    | succ i => simp at ho⟩
theorem raR_ok (s : List Nat) (bs : byt s = true) (at_ : Int) : (∀ o ∈ (raR s at_).1, o.ok ∧ o.l.length ≤ s.length) ∧ (raR s at_).1.length ≤ s.length := by
  unfold raR
  by_cases hc : 0 ≤ at_ ∧ at_ ≤ s.length
  · rw [if_pos hc]
    obtain ⟨f1, f2, f3, f4, f5⟩ := rd_of s.length (s.drop at_.toNat) (byt_drop bs _) (by rw [List.length_drop]; omega)
    rw [List.length_drop] at f1 f5
    exact ⟨fun o ho => ⟨(f1 o ho).2.1, by have := (f1 o ho).2.2; omega⟩, by show (rdV s.length (s.drop at_.toNat)).1.length ≤ _; omega⟩
  · rw [if_neg hc]; exact ⟨fun o ho => (by cases ho), Nat.zero_le _⟩
theorem WsI.kp {q : Nat} {md : Md} {dn : List Rq} {K K' : Nat → Prop} {h h' : H} (w : WsI q md dn K h h) (hq : h'.get q = h.get q) (hd : ∀ d, ¬ K d → d ≠ q → h'.get d = h.get d) (hK : ∀ d, K' d → K d) : WsI q md dn K' h' h' := by
  obtain ⟨vs, gq, lv, dt⟩ := w.g
  refine ⟨⟨vs, by rw [hq, gq], lv, fun i o ho => ?_⟩, fun _ _ => rfl, rfl⟩
  obtain ⟨b, cb, eb, e1, e2⟩ := dt i o ho
  refine ⟨b, cb, eb, e1, fun hne => ?_⟩
  obtain ⟨d2, cur2, m2, f1, f2, f3, f4, f5, f6, f7⟩ := e2 hne
  exact ⟨d2, cur2, m2, f1, f2, by rw [hd d2 f7 f6, f3], f4, f5, f6, fun k => f7 (hK _ k)⟩
theorem lit_ws (h : H) (q : Nat) (o : Rq) (a : Option (Nat × Nat)) (c : Option Nat) (e : Nat) (g : h.get q = some (.cells [.int .i64 o.kind, .slice a o.l.length c e] .rw)) (w : Wb h o.l a c e) (nq : ∀ d z, a = some (d, z) → d ≠ q) :
    WsI q .rw [o] (fun j => j ≠ q ∧ a ≠ some (j, 0)) h h := by
  refine ⟨⟨_, g, by show 1 * 2 ≤ 2; omega, fun i o' ho => ?_⟩, fun _ _ => rfl, rfl⟩
  cases i with
  | succ i => simp at ho
  | zero =>
    cases ho
    refine ⟨a, c, e, rfl, fun hne => ?_⟩
    rcases w with ⟨w1, _⟩ | ⟨_, d, m, f1, f2, f3, f4, f5, f6⟩
    · exact absurd w1 hne
    · exact ⟨d, _, m, f1, f3, f4, f5, Nat.le_refl _, nq d 0 f1, fun hK => hK.2 f1⟩
set_option maxRecDepth 100000 in
set_option maxHeartbeats 4000000 in
theorem law_RecordReads (e : EnRd E) (xr : NoRd X) (ea : EnRa E) (xa : NoRa X) (esp : E k_purserlaw16_spoil = some f_purserlaw16_spoil) (xsp : ∀ a h, X (.fn k_purserlaw16_spoil) a h = none) (el : E k_purserlaw16_RecordReads = some f_purserlaw16_RecordReads) (xl : ∀ a h, X (.fn k_purserlaw16_RecordReads) a h = none) (M : Nat) (hM : 110000 < M) (s : List Nat) (bs : byt s = true) (at_ : Int) (a0 : Option (Nat × Nat)) (h : H) (ss : SrcH h a0 1 s) :
    ∃ h2, callX E X (M + 26) (.fn k_purserlaw16_RecordReads) [.slice a0 s.length none 1, .int .i64 at_] h = some (.bool true, h2) := by
  rw [x_cfn el _ _ (Nat.le_of_ble_eq_true rfl) (xl _ _)]
  by_cases hs : 20000 < s.length
  · have d0 : decide ((20000 : Int) < (s.length : Int)) = true := decide_eq_true (by omega)
    generalize s.length = sl at *
    simp (config := {maxSteps := 2000000}) (disch := first | omega | rfl | (simp only [ofI_len, List.length_append, List.length_take, List.length_drop, List.length_cons, List.length_nil, List.length_replicate, List.length_set]; done) | (simp only [ofI_len, List.length_append, List.length_take, List.length_drop, List.length_cons, List.length_nil, List.length_replicate, List.length_set]; omega)) only [d0, ↓s_len, x_lenS, ↓b_xor32, ↓b_and32, ↓b_or32, ↓u_not32, b_xor32, b_and32, b_or32, u_not32, w32ad, ↓x_conv, x_convV, ↓x_fieldAddr, x_fieldV, ↓s_nilchk, x_nilchk, Nat.zero_add, Nat.add_zero, Nat.mul_one, ↓s_evD, ↓s_dnil, ↓s_dL, ↓s_dLg, ↓s_dR, ↓s_dRg, ↓s_dRj, ↓s_dRjg, ↓s_dB, ↓s_dBg, ↓s_dAlloc, ↓s_bindD, s_bindD, s_finD, s_finDx, s_addP0, s_addP1, s_addB, s_lookP, ↓s_bump0, ↓s_bump_get, s_bump_next, s_ok0, ↓s_ok1, s_okR0, ↓s_okR1, ↓s_okE, s_okE, s_okE1, s_nth0, s_nthS, Nat.add_zero, Bool.and_self, Bool.and_true, Bool.true_and, ↓l_loop, ↓l_succ, ↓l_normal, l_normal, l_exit, l_ret, l_iteN, ↓h_put_get, ↓h_new_get, ↓h_del_get, h_next_put, h_next_new, h_next_del, Nat.add_assoc, Nat.add_eq_left, Nat.left_eq_add, Nat.add_left_cancel_iff, ↓s_load, m_load, ↓m_load1, m_load1, ↓m_st, m_stE, m_storeI, m_storeE, w_zero, w_succ, ↓s_alloc, ↓x_idxA, ↓x_idxS, x_idxAE, x_idxSE, x_addrE, x_idx, x_lenS, ↓s_len, ↓x_buildS, x_buildE, ↓x_P0, ↓x_P1, x_fill0, x_filli, x_fills, x_fillb, c_int, List.length_cons, List.length_nil, List.cons_append, List.drop_succ_cons, List.drop_zero, List.drop_nil, List.nil_append, Int.reduceAdd, Int.reduceToNat, Int.reduceLT, Int.reduceLE, Nat.reduceAdd, Nat.reduceMul, Nat.reduceLeDiff, Int.reduceEq, Int.reduceSub, Int.cast_ofNat_Int, s_resc, s_consR, m_load4, m_store4, s_res0, ↓s_skip, ↓s_ops, ↓s_dops, ↓s_seq, ↓s_cond, ↓s_block, ↓s_exit, ↓s_ret, ↓s_scope, ↓s_nil, ↓s_op, ↓s_opg, ↓s_wanted', ↓s_wantV, s_wantV, s_wantV0, beq_true, beq_false, ↓s_bindS, s_bindS, ↓s_bindE, s_bindE, s_bindE_ret, s_bindE_exit, s_bindE_iteN, s_norm, ↓s_condV, s_condV, s_block_ret, s_block_normal, s_block_exit, s_block_iteN, ↓s_getp, ↓s_getp0, ↓s_get, s_get0, ↓s_con, ↓s_fn, ↓s_os0, ↓s_os1, ↓s_list0, ↓s_list1, ↓s_mov, ↓s_pick, ↓s_pickE, s_pickE, ↓s_bin, ↓s_un, ↓s_minmax, ↓s_call, ↓s_callv, ↓s_callV, ↓s_ext, s_same, b_eql, b_neq, b_lss, b_leq, b_gtr, b_geq, b_add, b_sub, b_mul, b_eqlb, b_neqb, b_fnil, b_fnil', b_fnil2, b_fnil2', u_neg, u_not, m_two, s_end, s_end', s_end_iteN, s_res0, s_res1, s_tup1, s_tup2, ↓iteN_true, ↓iteN_false, iteN_true, iteN_false, Nat.zero_add, List.nil_append, List.append_nil, Nat.reduceEqDiff, reduceIte, decide_true, decide_false, Bool.not_true, Bool.not_false, List.getElem?_cons_zero, List.getElem?_cons_succ, Bool.false_eq_true, if_true, if_false, beq_self_eq_true]
    exact ⟨_, rfl⟩
  have d0 : decide ((20000 : Int) < (s.length : Int)) = false := decide_eq_false (by omega)
  have sa := ea.ro.sa
  have xsa := xa.ro.sa
  obtain ⟨ao, co, eo, h1, r1, nw1⟩ := twinv_go ea.ro.cm.rf.tw xa.ro.cm.rf.tw (M + 24) s (by omega) a0 none 1 h ss
  obtain ⟨h2, a2, c2, e2, r2, k2, wb2, ge2⟩ := decAny e xr (M + 3) (by omega) s bs (by omega) at_ ao co eo (SB.of_wb nw1.wb) h1 nw1.wb.src
  obtain ⟨okD, lD⟩ := dz_ok s bs at_
  obtain ⟨okR, lR⟩ := raR_ok s bs at_
  obtain ⟨D, eD⟩ : ∃ D, dzR s at_ = D := ⟨_, rfl⟩
  obtain ⟨R, eR⟩ : ∃ D, raR s at_ = D := ⟨_, rfl⟩
  rw [eD] at r2 wb2 okD lD
  rw [eR] at okR lR
  obtain ⟨h3, eh3⟩ : ∃ h3, (h2.new (.cells [.int .i64 0, .slice none 0 (some 0) 0] .rw)).put h2.next (.cells [.int .i64 D.1.kind, .slice a2 D.1.l.length c2 e2] .rw) = h3 := ⟨_, rfl⟩
  have k23 : Kp h2 h3 := by rw [← eh3]; (repeat (first | exact Kp.refl _ | refine Kp.put ?_ _ (by first | omega | (simp only [h_next_put, h_next_new, h_next_del]; omega)) | refine Kp.del ?_ (by first | omega | (simp only [h_next_put, h_next_new, h_next_del]; omega)) | refine Kp.trans ?_ (Kp.new _ _)))
  have n3 : h3.next = h2.next + 1 := by rw [← eh3]; rfl
  have g3 : h3.get h2.next = some (.cells [.int .i64 D.1.kind, .slice a2 D.1.l.length c2 e2] .rw) := by rw [← eh3]; exact h_put_same _ _ _
  have k03 : Kp h h3 := (nw1.kp.trans k2).trans k23
  obtain ⟨h4, a4, c4, e4, r4, k4, wb4, ge4⟩ := ddecAny ea xa (M - 50078) s bs (by omega) at_ a0 h3 (ss.mono k03)
  rw [show M - 50078 + 50103 = M + 25 by omega, eD] at r4
  rw [eD] at wb4
  obtain ⟨h5, eh5⟩ : ∃ h5, (h4.new (.cells [.int .i64 0, .slice none 0 (some 0) 0] .rw)).put h4.next (.cells [.int .i64 D.1.kind, .slice a4 D.1.l.length c4 e4] .rw) = h5 := ⟨_, rfl⟩
  have k45 : Kp h4 h5 := by rw [← eh5]; (repeat (first | exact Kp.refl _ | refine Kp.put ?_ _ (by first | omega | (simp only [h_next_put, h_next_new, h_next_del]; omega)) | refine Kp.del ?_ (by first | omega | (simp only [h_next_put, h_next_new, h_next_del]; omega)) | refine Kp.trans ?_ (Kp.new _ _)))
  have n5 : h5.next = h4.next + 1 := by rw [← eh5]; rfl
  have g5 : h5.get h4.next = some (.cells [.int .i64 D.1.kind, .slice a4 D.1.l.length c4 e4] .rw) := by rw [← eh5]; exact h_put_same _ _ _
  have k35 : Kp h3 h5 := k4.trans k45
  have k15 : Kp h1 h5 := (k2.trans k23).trans k35
  obtain ⟨h6, a6, c6, e6, r6, k6, row6⟩ := all_go e xr M (by omega) s bs (by omega) at_ ao co eo (SB.of_wb nw1.wb) h5 (nw1.wb.kp k15).src
  have k05 : Kp h h5 := k03.trans k35
  obtain ⟨h7, a7, c7, e7, r7, k7, row7⟩ := dall_go ea xa (M - 50079) s bs (by omega) at_ a0 h6 (ss.mono (k05.trans k6))
  rw [show M - 50079 + 50104 = M + 25 by omega, eR] at r7
  rw [eR] at r6 row6 row7
  have k57 : Kp h5 h7 := k6.trans k7
  have k37 : Kp h3 h7 := k35.trans k57
  have kn1 := nw1.kp.1
  have kn2 := k2.1
  have kn4 := k4.1
  have kn6 := k6.1
  have kn7 := k7.1
  have g37 : h7.get h2.next = some (.cells [.int .i64 D.1.kind, .slice a2 D.1.l.length c2 e2] .rw) := by rw [k37.2 _ (by omega), g3]
  have g57 : h7.get h4.next = some (.cells [.int .i64 D.1.kind, .slice a4 D.1.l.length c4 e4] .rw) := by rw [k57.2 _ (by omega), g5]
  -- the rows of one
  obtain ⟨h8, eh8⟩ : ∃ h8, h7.new (.cells [.int .i64 D.1.kind, .slice a2 D.1.l.length c2 e2] .rw) = h8 := ⟨_, rfl⟩
  have k78 : Kp h7 h8 := by rw [← eh8]; exact Kp.new _ _
  have n8 : h8.next = h7.next + 1 := by rw [← eh8]; rfl
  have g8 : h8.get h7.next = some (.cells [.int .i64 D.1.kind, .slice a2 D.1.l.length c2 e2] .rw) := by rw [← eh8]; exact h_new_same _ _
  have g58 : h8.get h4.next = some (.cells [.int .i64 D.1.kind, .slice a4 D.1.l.length c4 e4] .rw) := by rw [k78.2 _ (by omega), g57]
  obtain ⟨h9, eh9⟩ : ∃ h9, h8.new (.cells [.int .i64 D.1.kind, .slice a4 D.1.l.length c4 e4] .rw) = h9 := ⟨_, rfl⟩
  have k89 : Kp h8 h9 := by rw [← eh9]; exact Kp.new _ _
  have n9 : h9.next = h8.next + 1 := by rw [← eh9]; rfl
  have g9 : h9.get h8.next = some (.cells [.int .i64 D.1.kind, .slice a4 D.1.l.length c4 e4] .rw) := by rw [← eh9]; exact h_new_same _ _
  have k79 := k78.trans k89
  have k29 : Kp h2 h9 := (k23.trans k37).trans k79
  have k49 : Kp h4 h9 := (k45.trans k57).trans k79
  have rA : RrS h9 [D.1] (some (h7.next, 0)) 2 := lit_row h9 h7.next D.1 a2 c2 e2 .rw (by rw [k89.2 _ (by omega), g8]) (by omega) (wb2.kp k29).src
  have rB' : RrS h9 [D.1] (some (h8.next, 0)) 2 := lit_row h9 h8.next D.1 a4 c4 e4 .rw g9 (by omega) (wb4.kp k49).src
  have ok1 : ∀ o ∈ [D.1], o.ok := fun o ho => by rcases List.mem_singleton.1 ho with rfl; exact okD
  have q1 := dsame_go sa xsa (M + 24) [D.1] [D.1] (by show 1 ≤ _; omega) (by show 1 < _; omega) (by show 1 < _; omega) ok1 ok1 (some (h7.next, 0)) (some (h8.next, 0)) (some 1) (some 1) 2 2 h9 rA rB'
  rw [decide_eq_true rfl] at q1
  have q2 := dsame_go sa xsa (M + 24) R.1 R.1 (by omega) (by omega) (by omega) (fun o ho => (okR o ho).1) (fun o ho => (okR o ho).1) a6 a7 c6 c7 e6 e7 h9 (row6.row.mono (k7.trans k79)) (row7.row.mono k79)
  rw [decide_eq_true rfl] at q2
  have g39 : h9.get h2.next = some (.cells [.int .i64 D.1.kind, .slice a2 D.1.l.length c2 e2] .rw) := by rw [k79.2 _ (by omega), g37]
  -- what is written over
  obtain ⟨h10, eh10⟩ : ∃ h10, h9.new (.cells [.int .i64 D.1.kind, .slice a2 D.1.l.length c2 e2] .rw) = h10 := ⟨_, rfl⟩
  have k910 : Kp h9 h10 := by rw [← eh10]; exact Kp.new _ _
  have n10 : h10.next = h9.next + 1 := by rw [← eh10]; rfl
  have g10 : h10.get h9.next = some (.cells [.int .i64 D.1.kind, .slice a2 D.1.l.length c2 e2] .rw) := by rw [← eh10]; exact h_new_same _ _
  have wbX : Wb h10 D.1.l a2 c2 e2 := (wb2.kp k29).kp k910
  have ltX : ∀ d z, a2 = some (d, z) → d < h2.next := fun d z e => wb2.lt e
  obtain ⟨h11, r11, n11, f11⟩ := spoil_go esp xsp (M + 24) [D.1] (by show 1 ≤ _; omega) (fun o ho => by rcases List.mem_singleton.1 ho with rfl; omega) (fun o ho => by rcases List.mem_singleton.1 ho with rfl; omega) (by show 1 < _; omega) (some (h9.next, 0)) (some 1) 2 (fun j => j ≠ h9.next ∧ a2 ≠ some (j, 0)) h10 (.inr ⟨h9.next, .rw, rfl, rfl, rfl, fun h => h.1 rfl, lit_ws h10 h9.next D.1 a2 c2 e2 g10 wbX (fun d z e => by have := ltX d z e; omega)⟩)
  have row6' : RrF h5.next h10 R.1 a6 c6 e6 := ((row6.kp k7).kp k79).kp k910
  have same11 : ∀ j, h5.next ≤ j → j < h9.next → h11.get j = h10.get j := fun j h1 h2 => f11 j ⟨by omega, fun e => by have := ltX _ _ e; omega⟩
  have row6'' : RrF h5.next h11 R.1 a6 c6 e6 := by
    have lt6 : ∀ q z, a6 = some (q, z) → q < h9.next := fun q z e => by have := (row6.lt e).2; have := k79.1; omega
    rcases row6 with r | ⟨w1, q, md, ps, w2, w3, w4, g, al, hm, hq, hl⟩
    · exact .inl r
    · have kk : ∀ j, h5.next ≤ j → j < h6.next → h11.get j = h6.get j := fun j j1 j2 => by rw [same11 j j1 (by have := k79.1; omega), k910.2 _ (by have := k79.1; omega), k79.2 _ (by omega), k7.2 _ j2]
      exact .inr ⟨w1, q, md, ps, w2, w3, w4, by rw [kk q hl hq, g], al.imp (fun o p y => y.mono (by have := k79.1; omega) (fun i i1 i2 _ => kk i i1 i2)), hm, by have := k79.1; omega, hl⟩
  obtain ⟨h12, r12, n12, f12⟩ := spoil_go esp xsp (M + 24) R.1 (by omega) (fun o ho => by have := (okR o ho).2; omega) (fun o ho => by have := (okR o ho).2; omega) (by omega) a6 c6 e6 (fun j => j < h5.next) h11 (by
    rcases row6''.ws with w | ⟨q, md, w1, w2, w3, w4, w5⟩
    · exact .inl w
    · exact .inr ⟨q, md, w1, w2, w3, w4, w5⟩)
  have fin : ∀ j, j < h1.next → h12.get j = h1.get j := fun j hj => by
    rw [f12 j (by omega), f11 j ⟨by have := k79.1; omega, fun e => by have := ge2 _ _ e; omega⟩, k910.2 _ (by have := k79.1; omega), k79.2 _ (by omega), k57.2 _ (by omega), k15.2 _ hj]
  have k1e : Kp h1 h12 := ⟨by have := k79.1; omega, fin⟩
  have t1 := str_src (nw1.wb.kp k1e).src bs co
  have t2 := str_src (ss.mono (nw1.kp.trans k1e)) bs none
  have q3 : decide ((D.2.1 : Int) = (D.2.1 : Int)) = true := decide_eq_true rfl
  have q4 : decide ((D.2.2 : Int) = (D.2.2 : Int)) = true := decide_eq_true rfl
  have q5 : decide ((R.2 : Int) = (R.2 : Int)) = true := decide_eq_true rfl
  have q6 : decide (s = s) = true := decide_eq_true rfl
  replace q1 : callX E X (M + 25) (.fn k_purserref16_Same) [.slice (some (h7.next, 0)) 1 (some 1) 2, .slice (some (h8.next, 0)) 1 (some 1) 2] h9 = some (.bool true, h9) := q1
  replace r11 : callX E X (M + 25) (.fn k_purserlaw16_spoil) [.slice (some (h9.next, 0)) 1 (some 1) 2] h10 = _ := r11
  generalize D.1.l.length = dl at *
  generalize D.1.kind = dk at *
  generalize D.2.1 = dx at *
  generalize D.2.2 = dy at *
  generalize R.1.length = rl at *
  generalize R.2 = ry at *
  generalize s.length = sl at *
  simp (config := {maxSteps := 2000000}) (disch := first | omega | rfl | (simp only [ofI_len, List.length_append, List.length_take, List.length_drop, List.length_cons, List.length_nil, List.length_replicate, List.length_set]; done) | (simp only [ofI_len, List.length_append, List.length_take, List.length_drop, List.length_cons, List.length_nil, List.length_replicate, List.length_set]; omega)) only [d0, r1, r2, eh3, g3, r4, eh5, g5, r6, r7, g37, eh8, g58, eh9, q1, q2, q3, q4, q5, q6, g39, eh10, r11, r12, t1, t2, fl2, st2i, st2ir, ld2, b_seq, ↓ns_b2s, Bool.not_true, ↓s_len, x_lenS, ↓b_xor32, ↓b_and32, ↓b_or32, ↓u_not32, b_xor32, b_and32, b_or32, u_not32, w32ad, ↓x_conv, x_convV, ↓x_fieldAddr, x_fieldV, ↓s_nilchk, x_nilchk, Nat.zero_add, Nat.add_zero, Nat.mul_one, ↓s_evD, ↓s_dnil, ↓s_dL, ↓s_dLg, ↓s_dR, ↓s_dRg, ↓s_dRj, ↓s_dRjg, ↓s_dB, ↓s_dBg, ↓s_dAlloc, ↓s_bindD, s_bindD, s_finD, s_finDx, s_addP0, s_addP1, s_addB, s_lookP, ↓s_bump0, ↓s_bump_get, s_bump_next, s_ok0, ↓s_ok1, s_okR0, ↓s_okR1, ↓s_okE, s_okE, s_okE1, s_nth0, s_nthS, Nat.add_zero, Bool.and_self, Bool.and_true, Bool.true_and, ↓l_loop, ↓l_succ, ↓l_normal, l_normal, l_exit, l_ret, l_iteN, ↓h_put_get, ↓h_new_get, ↓h_del_get, h_next_put, h_next_new, h_next_del, Nat.add_assoc, Nat.add_eq_left, Nat.left_eq_add, Nat.add_left_cancel_iff, ↓s_load, m_load, ↓m_load1, m_load1, ↓m_st, m_stE, m_storeI, m_storeE, w_zero, w_succ, ↓s_alloc, ↓x_idxA, ↓x_idxS, x_idxAE, x_idxSE, x_addrE, x_idx, x_lenS, ↓s_len, ↓x_buildS, x_buildE, ↓x_P0, ↓x_P1, x_fill0, x_filli, x_fills, x_fillb, c_int, List.length_cons, List.length_nil, List.cons_append, List.drop_succ_cons, List.drop_zero, List.drop_nil, List.nil_append, Int.reduceAdd, Int.reduceToNat, Int.reduceLT, Int.reduceLE, Nat.reduceAdd, Nat.reduceMul, Nat.reduceLeDiff, Int.reduceEq, Int.reduceSub, Int.cast_ofNat_Int, s_resc, s_consR, m_load4, m_store4, s_res0, ↓s_skip, ↓s_ops, ↓s_dops, ↓s_seq, ↓s_cond, ↓s_block, ↓s_exit, ↓s_ret, ↓s_scope, ↓s_nil, ↓s_op, ↓s_opg, ↓s_wanted', ↓s_wantV, s_wantV, s_wantV0, beq_true, beq_false, ↓s_bindS, s_bindS, ↓s_bindE, s_bindE, s_bindE_ret, s_bindE_exit, s_bindE_iteN, s_norm, ↓s_condV, s_condV, s_block_ret, s_block_normal, s_block_exit, s_block_iteN, ↓s_getp, ↓s_getp0, ↓s_get, s_get0, ↓s_con, ↓s_fn, ↓s_os0, ↓s_os1, ↓s_list0, ↓s_list1, ↓s_mov, ↓s_pick, ↓s_pickE, s_pickE, ↓s_bin, ↓s_un, ↓s_minmax, ↓s_call, ↓s_callv, ↓s_callV, ↓s_ext, s_same, b_eql, b_neq, b_lss, b_leq, b_gtr, b_geq, b_add, b_sub, b_mul, b_eqlb, b_neqb, b_fnil, b_fnil', b_fnil2, b_fnil2', u_neg, u_not, m_two, s_end, s_end', s_end_iteN, s_res0, s_res1, s_tup1, s_tup2, ↓iteN_true, ↓iteN_false, iteN_true, iteN_false, Nat.zero_add, List.nil_append, List.append_nil, Nat.reduceEqDiff, reduceIte, decide_true, decide_false, Bool.not_true, Bool.not_false, List.getElem?_cons_zero, List.getElem?_cons_succ, Bool.false_eq_true, if_true, if_false, beq_self_eq_true]
  exact ⟨_, rfl⟩
end Go.Eng
