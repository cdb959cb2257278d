/- What functions of the program come to: own work. -/
import Derived.Test.YtcnfdncdilpgbaaOqB
namespace Go.Eng
open Go
variable {E : Nat → Option Fn} {X : Orc}
set_option linter.unusedSimpArgs false
set_option linter.unusedVariables false
noncomputable def alX (k : Nat) : Orc := pureX k aliveS
theorem al_op : NoOp (alX k_purserlaw10_alive) := ⟨fun _ _ => rfl, fun _ _ => rfl, fun _ _ => rfl, fun _ _ => rfl, fun _ _ => rfl, fun _ _ => rfl, fun _ _ => rfl, fun _ _ => rfl, fun _ _ => rfl, fun _ _ => rfl, fun _ _ => rfl, fun _ _ => rfl, fun _ _ _ => rfl⟩
theorem spJ (ops : List Oq) (ok : ∀ o ∈ ops, o.ok) (hv : ∀ o ∈ ops, okO o = true) (s : List Nat) (bs : byt s = true) : spR (wB ops ++ s) = if (spV s.length s).2 < s.length then ([], 100) else (ops ++ (spV s.length s).1, 0) := by
  have bw := byt_app (wB_byt ops ok) bs
  have h1 := sp_fuel (wB ops ++ s).length (ops.length + ((wB ops).length + s.length)) (wB ops ++ s) bw (Nat.le_refl _) (by rw [List.length_append]; omega)
  have h2 := sp_join ops ((wB ops).length + s.length) s hv
  have h3 := sp_fuel ((wB ops).length + s.length) s.length s bs (by omega) (Nat.le_refl _)
  rw [h3] at h2
  rw [h2] at h1
  unfold spR
  rw [h1, List.length_append]
  simp only
  by_cases c : (spV s.length s).2 < s.length
  · rw [if_pos c, if_pos (by omega)]
  · rw [if_neg c, if_neg (by omega)]
theorem spN (ops : List Oq) (ok : ∀ o ∈ ops, o.ok) (hv : ∀ o ∈ ops, okO o = true) : spR (wB ops) = (ops, 0) := by
  have := spJ ops ok hv [] rfl
  rw [List.append_nil] at this
  rw [this]
  show (if (spV 0 []).2 < 0 then _ else _) = _
  rw [if_neg (by omega)]
  show (ops ++ [], 0) = _
  rw [List.append_nil]
set_option maxRecDepth 100000 in
set_option maxHeartbeats 4000000 in
theorem law_OpsBack (e : EnOp E) (eg : E k_purserlaw10_great = some f_purserlaw10_great) (el : E k_purserlaw10_OpsBack = some f_purserlaw10_OpsBack) (N : Nat) (hN : 90000 ≤ N) (s : List Nat) (bs : byt s = true) (ops : List Oq) (ok : ∀ o ∈ ops, o.ok) (B : Nat) (hB : B ≤ 140737488351232) (hlB : ops.length ≤ B) (hsB : ∀ o ∈ ops, o.l.length ≤ B) (a0 a1 : Option (Nat × Nat)) (h : H) (ss : SrcH h a0 1 s) (oh : OqsH h a1 ops) :
    ∃ h2, callX E (alX k_purserlaw10_alive) (N + ops.length + 201) (.fn k_purserlaw10_OpsBack) [.slice a0 s.length none 1, .slice a1 ops.length none 2] h = some (.bool true, h2) := by
  rw [x_cfn el _ _ (Nat.le_of_ble_eq_true rfl) rfl]
  have x : NoOp (alX k_purserlaw10_alive) := al_op
  have al : ∀ h, callX E (alX k_purserlaw10_alive) (N + ops.length + 200) (.fn k_purserlaw10_alive) [] h = some (.bool true, h) := fun h => x_known (pureX_yes h rfl)
  have row := oh.row
  have gr := greatq_go (X := alX k_purserlaw10_alive) eg (fun _ _ => rfl) (N + 174) a1 none 2 ops B hB hlB hsB h row
  rw [show N + 174 + ops.length + 26 = N + ops.length + 200 by omega] at gr
  have hF0 : ops.length + 90000 ≤ N + ops.length := by omega
  generalize hF : N + ops.length = F at *
  by_cases hs : 5000 < s.length
  · have d0 : decide ((5000 : Int) < (s.length : Int)) = true := decide_eq_true (by omega)
    generalize s.length = sl at *
    generalize ops.length = L at *
    simp (config := {maxSteps := 2000000}) (disch := first | omega | rfl | (simp only [ofI_len, List.length_append, List.length_take, List.length_drop, List.length_cons, List.length_nil, List.length_replicate, List.length_set]; done) | (simp only [ofI_len, List.length_append, List.length_take, List.length_drop, List.length_cons, List.length_nil, List.length_replicate, List.length_set]; omega)) only [al, d0, ↓s_len, x_lenS, ↓b_xor32, ↓b_and32, ↓b_or32, ↓u_not32, b_xor32, b_and32, b_or32, u_not32, w32ad, ↓x_conv, x_convV, ↓x_fieldAddr, x_fieldV, ↓s_nilchk, x_nilchk, Nat.zero_add, Nat.add_zero, Nat.mul_one, ↓s_evD, ↓s_dnil, ↓s_dL, ↓s_dLg, ↓s_dR, ↓s_dRg, ↓s_dRj, ↓s_dRjg, ↓s_dB, ↓s_dBg, ↓s_dAlloc, ↓s_bindD, s_bindD, s_finD, s_finDx, s_addP0, s_addP1, s_addB, s_lookP, ↓s_bump0, ↓s_bump_get, s_bump_next, s_ok0, ↓s_ok1, s_okR0, ↓s_okR1, ↓s_okE, s_okE, s_okE1, s_nth0, s_nthS, Nat.add_zero, Bool.and_self, Bool.and_true, Bool.true_and, ↓l_loop, ↓l_succ, ↓l_normal, l_normal, l_exit, l_ret, l_iteN, ↓h_put_get, ↓h_new_get, ↓h_del_get, h_next_put, h_next_new, h_next_del, Nat.add_assoc, Nat.add_eq_left, Nat.left_eq_add, Nat.add_left_cancel_iff, ↓s_load, m_load, ↓m_load1, m_load1, ↓m_st, m_stE, m_storeI, m_storeE, ↓s_alloc, ↓x_idxA, ↓x_idxS, x_idxAE, x_idxSE, x_addrE, x_idx, x_lenS, ↓s_len, ↓x_buildS, x_buildE, ↓x_P0, ↓x_P1, x_fill0, x_filli, x_fills, x_fillb, c_int, List.length_cons, List.length_nil, List.cons_append, List.drop_succ_cons, List.drop_zero, List.drop_nil, List.nil_append, Int.reduceAdd, Int.reduceToNat, Int.reduceLT, Int.reduceLE, Nat.reduceAdd, Nat.reduceMul, Nat.reduceLeDiff, Int.reduceEq, Int.reduceSub, Int.cast_ofNat_Int, s_resc, s_consR, m_load4, m_store4, s_res0, ↓s_skip, ↓s_ops, ↓s_dops, ↓s_seq, ↓s_cond, ↓s_block, ↓s_exit, ↓s_ret, ↓s_scope, ↓s_nil, ↓s_op, ↓s_opg, ↓s_wanted', ↓s_wantV, s_wantV, s_wantV0, beq_true, beq_false, ↓s_bindS, s_bindS, ↓s_bindE, s_bindE, s_bindE_ret, s_bindE_exit, s_bindE_iteN, s_norm, ↓s_condV, s_condV, s_block_ret, s_block_normal, s_block_exit, s_block_iteN, ↓s_getp, ↓s_getp0, ↓s_get, s_get0, ↓s_con, ↓s_fn, ↓s_os0, ↓s_os1, ↓s_list0, ↓s_list1, ↓s_mov, ↓s_pick, ↓s_pickE, s_pickE, ↓s_bin, ↓s_un, ↓s_minmax, ↓s_call, ↓s_callv, ↓s_callV, ↓s_ext, s_same, b_eql, b_neq, b_lss, b_leq, b_gtr, b_geq, b_add, b_sub, b_mul, b_eqlb, b_neqb, b_fnil, b_fnil', b_fnil2, b_fnil2', u_neg, u_not, m_two, s_end, s_end', s_end_iteN, s_res0, s_res1, s_tup1, s_tup2, ↓iteN_true, ↓iteN_false, iteN_true, iteN_false, Nat.zero_add, List.nil_append, List.append_nil, Nat.reduceEqDiff, reduceIte, decide_true, decide_false, Bool.not_true, Bool.not_false, List.getElem?_cons_zero, List.getElem?_cons_succ, Bool.false_eq_true, if_true, if_false, beq_self_eq_true]
    exact ⟨_, rfl⟩
  have d0 : decide ((5000 : Int) < (s.length : Int)) = false := decide_eq_false (by omega)
  cases hgr : greatQ ops with
  | true =>
    rw [hgr] at gr
    generalize s.length = sl at *
    generalize ops.length = L at *
    simp (config := {maxSteps := 2000000}) (disch := first | omega | rfl | (simp only [ofI_len, List.length_append, List.length_take, List.length_drop, List.length_cons, List.length_nil, List.length_replicate, List.length_set]; done) | (simp only [ofI_len, List.length_append, List.length_take, List.length_drop, List.length_cons, List.length_nil, List.length_replicate, List.length_set]; omega)) only [al, gr, d0, ↓s_len, x_lenS, ↓b_xor32, ↓b_and32, ↓b_or32, ↓u_not32, b_xor32, b_and32, b_or32, u_not32, w32ad, ↓x_conv, x_convV, ↓x_fieldAddr, x_fieldV, ↓s_nilchk, x_nilchk, Nat.zero_add, Nat.add_zero, Nat.mul_one, ↓s_evD, ↓s_dnil, ↓s_dL, ↓s_dLg, ↓s_dR, ↓s_dRg, ↓s_dRj, ↓s_dRjg, ↓s_dB, ↓s_dBg, ↓s_dAlloc, ↓s_bindD, s_bindD, s_finD, s_finDx, s_addP0, s_addP1, s_addB, s_lookP, ↓s_bump0, ↓s_bump_get, s_bump_next, s_ok0, ↓s_ok1, s_okR0, ↓s_okR1, ↓s_okE, s_okE, s_okE1, s_nth0, s_nthS, Nat.add_zero, Bool.and_self, Bool.and_true, Bool.true_and, ↓l_loop, ↓l_succ, ↓l_normal, l_normal, l_exit, l_ret, l_iteN, ↓h_put_get, ↓h_new_get, ↓h_del_get, h_next_put, h_next_new, h_next_del, Nat.add_assoc, Nat.add_eq_left, Nat.left_eq_add, Nat.add_left_cancel_iff, ↓s_load, m_load, ↓m_load1, m_load1, ↓m_st, m_stE, m_storeI, m_storeE, ↓s_alloc, ↓x_idxA, ↓x_idxS, x_idxAE, x_idxSE, x_addrE, x_idx, x_lenS, ↓s_len, ↓x_buildS, x_buildE, ↓x_P0, ↓x_P1, x_fill0, x_filli, x_fills, x_fillb, c_int, List.length_cons, List.length_nil, List.cons_append, List.drop_succ_cons, List.drop_zero, List.drop_nil, List.nil_append, Int.reduceAdd, Int.reduceToNat, Int.reduceLT, Int.reduceLE, Nat.reduceAdd, Nat.reduceMul, Nat.reduceLeDiff, Int.reduceEq, Int.reduceSub, Int.cast_ofNat_Int, s_resc, s_consR, m_load4, m_store4, s_res0, ↓s_skip, ↓s_ops, ↓s_dops, ↓s_seq, ↓s_cond, ↓s_block, ↓s_exit, ↓s_ret, ↓s_scope, ↓s_nil, ↓s_op, ↓s_opg, ↓s_wanted', ↓s_wantV, s_wantV, s_wantV0, beq_true, beq_false, ↓s_bindS, s_bindS, ↓s_bindE, s_bindE, s_bindE_ret, s_bindE_exit, s_bindE_iteN, s_norm, ↓s_condV, s_condV, s_block_ret, s_block_normal, s_block_exit, s_block_iteN, ↓s_getp, ↓s_getp0, ↓s_get, s_get0, ↓s_con, ↓s_fn, ↓s_os0, ↓s_os1, ↓s_list0, ↓s_list1, ↓s_mov, ↓s_pick, ↓s_pickE, s_pickE, ↓s_bin, ↓s_un, ↓s_minmax, ↓s_call, ↓s_callv, ↓s_callV, ↓s_ext, s_same, b_eql, b_neq, b_lss, b_leq, b_gtr, b_geq, b_add, b_sub, b_mul, b_eqlb, b_neqb, b_fnil, b_fnil', b_fnil2, b_fnil2', u_neg, u_not, m_two, s_end, s_end', s_end_iteN, s_res0, s_res1, s_tup1, s_tup2, ↓iteN_true, ↓iteN_false, iteN_true, iteN_false, Nat.zero_add, List.nil_append, List.append_nil, Nat.reduceEqDiff, reduceIte, decide_true, decide_false, Bool.not_true, Bool.not_false, List.getElem?_cons_zero, List.getElem?_cons_succ, Bool.false_eq_true, if_true, if_false, beq_self_eq_true]
    exact ⟨_, rfl⟩
  | false =>
  rw [hgr] at gr
  unfold greatQ at hgr
  rw [Bool.or_eq_false_iff] at hgr
  have hl : ops.length ≤ 100 := by have := of_decide_eq_false hgr.1; omega
  have hg : gq ops ≤ 70000 := by have := of_decide_eq_false hgr.2; omega
  clear hgr
  have wl := wB_le ops
  have bw := wB_byt ops ok
  obtain ⟨h1, ar, cr, er, r1, k1, row1⟩ := split_go e x (F + 187) s bs (by omega) (by omega) a0 none 1 (fun _ => rfl) h ss
  replace r1 : callX E (alX k_purserlaw10_alive) (F + 200) (.fn k_ops_Split) [.slice a0 s.length none 1] h = _ := r1
  obtain ⟨okA, wA, leA⟩ := sp_of s.length s bs
  have z0 : decide ((0 : Int) = 0) = true := rfl
  have z1 : decide ((100 : Int) = 0) = false := rfl
  have z2 : decide ((100 : Int) = 100) = true := rfl
  have sJ : ∀ hv, spR (wB ops ++ s) = _ := fun hv => spJ ops ok hv s bs
  obtain ⟨A, eA⟩ : ∃ A, (spV s.length s).1 = A := ⟨_, rfl⟩
  obtain ⟨w, ew⟩ : ∃ w, (spV s.length s).2 = w := ⟨_, rfl⟩
  have spe : spR s = if w < s.length then ([], 100) else (A, 0) := by unfold spR; rw [eA, ew]
  rw [eA, ew] at sJ
  rw [eA] at okA wA
  rw [ew] at wA leA
  have lA := wB_ge A
  rw [wA, List.length_take] at lA
  -- what follows the first part
  have half : ∀ h2, Kp h h2 → ∃ h3 a3 c3 e3, callX E (alX k_purserlaw10_alive) (F + 200) (.fn k_ops_Join) [.slice a1 ops.length none 2] h2 = some (.tup [.slice a3 (joR ops).1.length c3 e3, .int .i64 ((joR ops).2 : Int)], h3) ∧ Nw h2 h3 (joR ops).1 a3 c3 e3 := fun h2 k2 => join_go e x (F + 198) ops (by omega) (by omega) (by omega) (by omega) (fun o ho => (ok o ho).cl) a1 none 2 h2 (row.mono k2)
  by_cases cw : w < s.length
  · rw [if_pos cw] at spe
    rw [spe] at r1 row1
    simp only [List.length_nil] at r1
    obtain ⟨h3, a3, c3, e3, r3, nw3⟩ := half h1 k1
    cases hall : ops.all okO with
    | false =>
      unfold joR at r3
      rw [hall, if_neg (by simp)] at r3
      simp only [List.length_nil] at r3
      have l0 : decide (((0 : Nat) : Int) = 0) = true := rfl
      generalize s.length = sl at *
      generalize ops.length = L at *
      simp (config := {maxSteps := 2000000}) (disch := first | omega | rfl | (simp only [ofI_len, List.length_append, List.length_take, List.length_drop, List.length_cons, List.length_nil, List.length_replicate, List.length_set]; done) | (simp only [ofI_len, List.length_append, List.length_take, List.length_drop, List.length_cons, List.length_nil, List.length_replicate, List.length_set]; omega)) only [al, gr, d0, r1, r3, z0, z1, z2, l0, ↓s_len, x_lenS, ↓b_xor32, ↓b_and32, ↓b_or32, ↓u_not32, b_xor32, b_and32, b_or32, u_not32, w32ad, ↓x_conv, x_convV, ↓x_fieldAddr, x_fieldV, ↓s_nilchk, x_nilchk, Nat.zero_add, Nat.add_zero, Nat.mul_one, ↓s_evD, ↓s_dnil, ↓s_dL, ↓s_dLg, ↓s_dR, ↓s_dRg, ↓s_dRj, ↓s_dRjg, ↓s_dB, ↓s_dBg, ↓s_dAlloc, ↓s_bindD, s_bindD, s_finD, s_finDx, s_addP0, s_addP1, s_addB, s_lookP, ↓s_bump0, ↓s_bump_get, s_bump_next, s_ok0, ↓s_ok1, s_okR0, ↓s_okR1, ↓s_okE, s_okE, s_okE1, s_nth0, s_nthS, Nat.add_zero, Bool.and_self, Bool.and_true, Bool.true_and, ↓l_loop, ↓l_succ, ↓l_normal, l_normal, l_exit, l_ret, l_iteN, ↓h_put_get, ↓h_new_get, ↓h_del_get, h_next_put, h_next_new, h_next_del, Nat.add_assoc, Nat.add_eq_left, Nat.left_eq_add, Nat.add_left_cancel_iff, ↓s_load, m_load, ↓m_load1, m_load1, ↓m_st, m_stE, m_storeI, m_storeE, ↓s_alloc, ↓x_idxA, ↓x_idxS, x_idxAE, x_idxSE, x_addrE, x_idx, x_lenS, ↓s_len, ↓x_buildS, x_buildE, ↓x_P0, ↓x_P1, x_fill0, x_filli, x_fills, x_fillb, c_int, List.length_cons, List.length_nil, List.cons_append, List.drop_succ_cons, List.drop_zero, List.drop_nil, List.nil_append, Int.reduceAdd, Int.reduceToNat, Int.reduceLT, Int.reduceLE, Nat.reduceAdd, Nat.reduceMul, Nat.reduceLeDiff, Int.reduceEq, Int.reduceSub, Int.cast_ofNat_Int, s_resc, s_consR, m_load4, m_store4, s_res0, ↓s_skip, ↓s_ops, ↓s_dops, ↓s_seq, ↓s_cond, ↓s_block, ↓s_exit, ↓s_ret, ↓s_scope, ↓s_nil, ↓s_op, ↓s_opg, ↓s_wanted', ↓s_wantV, s_wantV, s_wantV0, beq_true, beq_false, ↓s_bindS, s_bindS, ↓s_bindE, s_bindE, s_bindE_ret, s_bindE_exit, s_bindE_iteN, s_norm, ↓s_condV, s_condV, s_block_ret, s_block_normal, s_block_exit, s_block_iteN, ↓s_getp, ↓s_getp0, ↓s_get, s_get0, ↓s_con, ↓s_fn, ↓s_os0, ↓s_os1, ↓s_list0, ↓s_list1, ↓s_mov, ↓s_pick, ↓s_pickE, s_pickE, ↓s_bin, ↓s_un, ↓s_minmax, ↓s_call, ↓s_callv, ↓s_callV, ↓s_ext, s_same, b_eql, b_neq, b_lss, b_leq, b_gtr, b_geq, b_add, b_sub, b_mul, b_eqlb, b_neqb, b_fnil, b_fnil', b_fnil2, b_fnil2', u_neg, u_not, m_two, s_end, s_end', s_end_iteN, s_res0, s_res1, s_tup1, s_tup2, ↓iteN_true, ↓iteN_false, iteN_true, iteN_false, Nat.zero_add, List.nil_append, List.append_nil, Nat.reduceEqDiff, reduceIte, decide_true, decide_false, Bool.not_true, Bool.not_false, List.getElem?_cons_zero, List.getElem?_cons_succ, Bool.false_eq_true, if_true, if_false, beq_self_eq_true]
      exact ⟨_, rfl⟩
    | true =>
      have hv := List.all_eq_true.1 hall
      unfold joR at r3 nw3
      rw [hall, if_pos rfl] at r3 nw3
      simp only at r3 nw3
      have sR := sJ hv
      rw [if_pos cw] at sR
      obtain ⟨h4, a4, c4, e4, r4, k4, row4⟩ := split_go e x (F + 187) (wB ops) bw (by omega) (by omega) a3 c3 e3 (fun hne => by
        rcases nw3.wb with ⟨w1, _⟩ | ⟨_, _, _, _, w3, _⟩
        · exact absurd w1 hne
        · exact w3) h3 nw3.wb.src
      rw [spN ops ok hv] at r4 row4
      simp only at r4 row4
      obtain ⟨v5, h5, a6, c6, e6, h6, ap5, k5, ap6, k6, s6, cn6⟩ := app_2 h4 (wB ops) s (by omega)
      have sc5 := ((nw3.wb.src.mono k4).mono (Kp.new h4 (.cells [] .rw))).cellz c3
      have sc6 := (((((ss.mono k1).mono nw3.kp).mono k4).mono k5)).cellz none
      obtain ⟨h7, a7, c7, e7, r7, k7, row7⟩ := split_go e x (F + 187) (wB ops ++ s) (byt_app bw bs) (by rw [List.length_append]; omega) (by rw [List.length_append]; omega) a6 c6 e6 cn6 h6 s6
      rw [sR] at r7 row7
      simp only [List.length_nil] at r7
      have k07 : Kp h h7 := (((k1.trans nw3.kp).trans k4).trans k6).trans k7
      obtain ⟨h8, r8, k8⟩ := same_go e x (F + 195) ops ops (by omega) (by omega) (by omega) ok ok a4 a1 c4 none e4 2 h7 ((row4.row.mono k6).mono k7) (row.mono k07)
      rw [decide_eq_true rfl] at r8
      replace r4 : callX E (alX k_purserlaw10_alive) (F + 200) (.fn k_ops_Split) [.slice a3 (wB ops).length c3 e3] h3 = _ := r4
      replace r7 : callX E (alX k_purserlaw10_alive) (F + 200) (.fn k_ops_Split) [.slice a6 (wB ops ++ s).length c6 e6] h6 = _ := r7
      replace r8 : callX E (alX k_purserlaw10_alive) (F + 200) (.fn k_ops_Same) [.slice a4 ops.length c4 e4, .slice a1 ops.length none 2] h7 = _ := r8
      generalize (wB ops ++ s).length = WS at *
      generalize (wB ops).length = WL at *
      generalize s.length = sl at *
      generalize ops.length = L at *
      simp (config := {maxSteps := 2000000}) (disch := first | omega | rfl | (simp only [ofI_len, List.length_append, List.length_take, List.length_drop, List.length_cons, List.length_nil, List.length_replicate, List.length_set]; done) | (simp only [ofI_len, List.length_append, List.length_take, List.length_drop, List.length_cons, List.length_nil, List.length_replicate, List.length_set]; omega)) only [al, gr, d0, r1, r3, r4, sc5, ap5, sc6, ap6, r7, r8, z0, z1, z2, ↓s_append, ↓s_len, x_lenS, ↓b_xor32, ↓b_and32, ↓b_or32, ↓u_not32, b_xor32, b_and32, b_or32, u_not32, w32ad, ↓x_conv, x_convV, ↓x_fieldAddr, x_fieldV, ↓s_nilchk, x_nilchk, Nat.zero_add, Nat.add_zero, Nat.mul_one, ↓s_evD, ↓s_dnil, ↓s_dL, ↓s_dLg, ↓s_dR, ↓s_dRg, ↓s_dRj, ↓s_dRjg, ↓s_dB, ↓s_dBg, ↓s_dAlloc, ↓s_bindD, s_bindD, s_finD, s_finDx, s_addP0, s_addP1, s_addB, s_lookP, ↓s_bump0, ↓s_bump_get, s_bump_next, s_ok0, ↓s_ok1, s_okR0, ↓s_okR1, ↓s_okE, s_okE, s_okE1, s_nth0, s_nthS, Nat.add_zero, Bool.and_self, Bool.and_true, Bool.true_and, ↓l_loop, ↓l_succ, ↓l_normal, l_normal, l_exit, l_ret, l_iteN, ↓h_put_get, ↓h_new_get, ↓h_del_get, h_next_put, h_next_new, h_next_del, Nat.add_assoc, Nat.add_eq_left, Nat.left_eq_add, Nat.add_left_cancel_iff, ↓s_load, m_load, ↓m_load1, m_load1, ↓m_st, m_stE, m_storeI, m_storeE, ↓s_alloc, ↓x_idxA, ↓x_idxS, x_idxAE, x_idxSE, x_addrE, x_idx, x_lenS, ↓s_len, ↓x_buildS, x_buildE, ↓x_P0, ↓x_P1, x_fill0, x_filli, x_fills, x_fillb, c_int, List.length_cons, List.length_nil, List.cons_append, List.drop_succ_cons, List.drop_zero, List.drop_nil, List.nil_append, Int.reduceAdd, Int.reduceToNat, Int.reduceLT, Int.reduceLE, Nat.reduceAdd, Nat.reduceMul, Nat.reduceLeDiff, Int.reduceEq, Int.reduceSub, Int.cast_ofNat_Int, s_resc, s_consR, m_load4, m_store4, s_res0, ↓s_skip, ↓s_ops, ↓s_dops, ↓s_seq, ↓s_cond, ↓s_block, ↓s_exit, ↓s_ret, ↓s_scope, ↓s_nil, ↓s_op, ↓s_opg, ↓s_wanted', ↓s_wantV, s_wantV, s_wantV0, beq_true, beq_false, ↓s_bindS, s_bindS, ↓s_bindE, s_bindE, s_bindE_ret, s_bindE_exit, s_bindE_iteN, s_norm, ↓s_condV, s_condV, s_block_ret, s_block_normal, s_block_exit, s_block_iteN, ↓s_getp, ↓s_getp0, ↓s_get, s_get0, ↓s_con, ↓s_fn, ↓s_os0, ↓s_os1, ↓s_list0, ↓s_list1, ↓s_mov, ↓s_pick, ↓s_pickE, s_pickE, ↓s_bin, ↓s_un, ↓s_minmax, ↓s_call, ↓s_callv, ↓s_callV, ↓s_ext, s_same, b_eql, b_neq, b_lss, b_leq, b_gtr, b_geq, b_add, b_sub, b_mul, b_eqlb, b_neqb, b_fnil, b_fnil', b_fnil2, b_fnil2', u_neg, u_not, m_two, s_end, s_end', s_end_iteN, s_res0, s_res1, s_tup1, s_tup2, ↓iteN_true, ↓iteN_false, iteN_true, iteN_false, Nat.zero_add, List.nil_append, List.append_nil, Nat.reduceEqDiff, reduceIte, decide_true, decide_false, Bool.not_true, Bool.not_false, List.getElem?_cons_zero, List.getElem?_cons_succ, Bool.false_eq_true, if_true, if_false, beq_self_eq_true]
      exact ⟨_, rfl⟩
  · rw [if_neg cw] at spe
    rw [spe] at r1 row1
    simp only at r1 row1
    have wA2 : wB A = s := by rw [wA]; exact List.take_of_length_le (by omega)
    have hallA : A.all okO = true := List.all_eq_true.2 (fun o ho => (okA o ho).1)
    have okA2 : ∀ o ∈ A, o.ok := fun o ho => (okA o ho).2
    obtain ⟨h2, a2, c2, e2, r2, nw2⟩ := join_go e x (F + 198) A (by omega) (by omega) (by omega) (by rw [wA2]; omega) (fun o ho => (okA2 o ho).cl) ar cr er h1 row1.row
    unfold joR at r2 nw2
    rw [hallA, if_pos rfl, wA2] at r2 nw2
    simp only at r2 nw2
    have st2' := str_src nw2.wb.src bs c2
    have st0 := str_src ((ss.mono k1).mono nw2.kp) bs none
    have k02 := k1.trans nw2.kp
    have sq : decide (s = s) = true := decide_eq_true rfl
    replace r2 : callX E (alX k_purserlaw10_alive) (F + 200) (.fn k_ops_Join) [.slice ar A.length cr er] h1 = _ := r2
    obtain ⟨h3, a3, c3, e3, r3, nw3⟩ := half h2 k02
    cases hall : ops.all okO with
    | false =>
      unfold joR at r3
      rw [hall, if_neg (by simp)] at r3
      simp only [List.length_nil] at r3
      have l0 : decide (((0 : Nat) : Int) = 0) = true := rfl
      generalize s.length = sl at *
      generalize ops.length = L at *
      generalize A.length = AL at *
      simp (config := {maxSteps := 2000000}) (disch := first | omega | rfl | (simp only [ofI_len, List.length_append, List.length_take, List.length_drop, List.length_cons, List.length_nil, List.length_replicate, List.length_set]; done) | (simp only [ofI_len, List.length_append, List.length_take, List.length_drop, List.length_cons, List.length_nil, List.length_replicate, List.length_set]; omega)) only [al, gr, d0, r1, r2, r3, st2', st0, sq, z0, z1, z2, l0, b_sneq, Bool.not_true, ↓ns_b2s, ↓s_len, x_lenS, ↓b_xor32, ↓b_and32, ↓b_or32, ↓u_not32, b_xor32, b_and32, b_or32, u_not32, w32ad, ↓x_conv, x_convV, ↓x_fieldAddr, x_fieldV, ↓s_nilchk, x_nilchk, Nat.zero_add, Nat.add_zero, Nat.mul_one, ↓s_evD, ↓s_dnil, ↓s_dL, ↓s_dLg, ↓s_dR, ↓s_dRg, ↓s_dRj, ↓s_dRjg, ↓s_dB, ↓s_dBg, ↓s_dAlloc, ↓s_bindD, s_bindD, s_finD, s_finDx, s_addP0, s_addP1, s_addB, s_lookP, ↓s_bump0, ↓s_bump_get, s_bump_next, s_ok0, ↓s_ok1, s_okR0, ↓s_okR1, ↓s_okE, s_okE, s_okE1, s_nth0, s_nthS, Nat.add_zero, Bool.and_self, Bool.and_true, Bool.true_and, ↓l_loop, ↓l_succ, ↓l_normal, l_normal, l_exit, l_ret, l_iteN, ↓h_put_get, ↓h_new_get, ↓h_del_get, h_next_put, h_next_new, h_next_del, Nat.add_assoc, Nat.add_eq_left, Nat.left_eq_add, Nat.add_left_cancel_iff, ↓s_load, m_load, ↓m_load1, m_load1, ↓m_st, m_stE, m_storeI, m_storeE, ↓s_alloc, ↓x_idxA, ↓x_idxS, x_idxAE, x_idxSE, x_addrE, x_idx, x_lenS, ↓s_len, ↓x_buildS, x_buildE, ↓x_P0, ↓x_P1, x_fill0, x_filli, x_fills, x_fillb, c_int, List.length_cons, List.length_nil, List.cons_append, List.drop_succ_cons, List.drop_zero, List.drop_nil, List.nil_append, Int.reduceAdd, Int.reduceToNat, Int.reduceLT, Int.reduceLE, Nat.reduceAdd, Nat.reduceMul, Nat.reduceLeDiff, Int.reduceEq, Int.reduceSub, Int.cast_ofNat_Int, s_resc, s_consR, m_load4, m_store4, s_res0, ↓s_skip, ↓s_ops, ↓s_dops, ↓s_seq, ↓s_cond, ↓s_block, ↓s_exit, ↓s_ret, ↓s_scope, ↓s_nil, ↓s_op, ↓s_opg, ↓s_wanted', ↓s_wantV, s_wantV, s_wantV0, beq_true, beq_false, ↓s_bindS, s_bindS, ↓s_bindE, s_bindE, s_bindE_ret, s_bindE_exit, s_bindE_iteN, s_norm, ↓s_condV, s_condV, s_block_ret, s_block_normal, s_block_exit, s_block_iteN, ↓s_getp, ↓s_getp0, ↓s_get, s_get0, ↓s_con, ↓s_fn, ↓s_os0, ↓s_os1, ↓s_list0, ↓s_list1, ↓s_mov, ↓s_pick, ↓s_pickE, s_pickE, ↓s_bin, ↓s_un, ↓s_minmax, ↓s_call, ↓s_callv, ↓s_callV, ↓s_ext, s_same, b_eql, b_neq, b_lss, b_leq, b_gtr, b_geq, b_add, b_sub, b_mul, b_eqlb, b_neqb, b_fnil, b_fnil', b_fnil2, b_fnil2', u_neg, u_not, m_two, s_end, s_end', s_end_iteN, s_res0, s_res1, s_tup1, s_tup2, ↓iteN_true, ↓iteN_false, iteN_true, iteN_false, Nat.zero_add, List.nil_append, List.append_nil, Nat.reduceEqDiff, reduceIte, decide_true, decide_false, Bool.not_true, Bool.not_false, List.getElem?_cons_zero, List.getElem?_cons_succ, Bool.false_eq_true, if_true, if_false, beq_self_eq_true]
      exact ⟨_, rfl⟩
    | true =>
      have hv := List.all_eq_true.1 hall
      unfold joR at r3 nw3
      rw [hall, if_pos rfl] at r3 nw3
      simp only at r3 nw3
      have sR := sJ hv
      rw [if_neg cw] at sR
      obtain ⟨h4, a4, c4, e4, r4, k4, row4⟩ := split_go e x (F + 187) (wB ops) bw (by omega) (by omega) a3 c3 e3 (fun hne => by
        rcases nw3.wb with ⟨w1, _⟩ | ⟨_, _, _, _, w3, _⟩
        · exact absurd w1 hne
        · exact w3) h3 nw3.wb.src
      rw [spN ops ok hv] at r4 row4
      simp only at r4 row4
      obtain ⟨v5, h5, a6, c6, e6, h6, ap5, k5, ap6, k6, s6, cn6⟩ := app_2 h4 (wB ops) s (by omega)
      have sc5 := ((nw3.wb.src.mono k4).mono (Kp.new h4 (.cells [] .rw))).cellz c3
      have sc6 := (((((ss.mono k02).mono nw3.kp).mono k4).mono k5)).cellz none
      obtain ⟨h7, a7, c7, e7, r7, k7, row7⟩ := split_go e x (F + 187) (wB ops ++ s) (byt_app bw bs) (by rw [List.length_append]; omega) (by rw [List.length_append]; omega) a6 c6 e6 cn6 h6 s6
      rw [sR] at r7 row7
      simp only at r7 row7
      have k37 : Kp h3 h7 := (k4.trans k6).trans k7
      have k07 : Kp h h7 := (k02.trans nw3.kp).trans k37
      obtain ⟨h8, r8, k8⟩ := same_go e x (F + 195) ops ops (by omega) (by omega) (by omega) ok ok a4 a1 c4 none e4 2 h7 ((row4.row.mono k6).mono k7) (row.mono k07)
      rw [decide_eq_true rfl] at r8
      have lO : (ops ++ A).length = ops.length + A.length := List.length_append
      obtain ⟨c9, sl9⟩ := row7.hi ops.length .i64 (by omega)
      obtain ⟨c10, sl10⟩ := row7.los ops.length .i64 (by omega)
      have rs7 := row7.row.e2.mono k8
      have rs9 := rs7.take ops.length
      rw [List.take_left' rfl] at rs9
      have rs10 := rs7.drop ops.length
      rw [List.drop_left' rfl] at rs10
      obtain ⟨h9, r9, k9⟩ := same_go e x (F + 195) ops ops (by omega) (by omega) (by omega) ok ok a7 a1 c9 none 2 2 h8 rs9 (row.mono (k07.trans k8))
      rw [decide_eq_true rfl] at r9
      obtain ⟨h10, r10, k10⟩ := same_go e x (F + 195) A A (by omega) (by omega) (by omega) okA2 okA2 (upA a7 (ops.length * 2)) ar c10 cr 2 er h9 (rs10.mono k9) ((row1.row.mono (((nw2.kp.trans nw3.kp).trans k37).trans k8)).mono k9)
      rw [decide_eq_true rfl] at r10
      rw [lO, Nat.add_sub_cancel_left] at sl10
      rw [lO] at sl9 r7
      have wL : wr .i64 ((ops.length : Int) + (A.length : Int)) = ((ops.length + A.length : Nat) : Int) := by rw [wr_i64 (by omega)]; omega
      have eL : decide (((ops.length + A.length : Nat) : Int) = ((ops.length + A.length : Nat) : Int)) = true := decide_eq_true rfl
      replace r4 : callX E (alX k_purserlaw10_alive) (F + 200) (.fn k_ops_Split) [.slice a3 (wB ops).length c3 e3] h3 = _ := r4
      replace r7 : callX E (alX k_purserlaw10_alive) (F + 200) (.fn k_ops_Split) [.slice a6 (wB ops ++ s).length c6 e6] h6 = _ := r7
      replace r8 : callX E (alX k_purserlaw10_alive) (F + 200) (.fn k_ops_Same) [.slice a4 ops.length c4 e4, .slice a1 ops.length none 2] h7 = _ := r8
      replace r9 : callX E (alX k_purserlaw10_alive) (F + 200) (.fn k_ops_Same) [.slice a7 ops.length c9 2, .slice a1 ops.length none 2] h8 = _ := r9
      replace r10 : callX E (alX k_purserlaw10_alive) (F + 200) (.fn k_ops_Same) [.slice (upA a7 (ops.length * 2)) A.length c10 2, .slice ar A.length cr er] h9 = _ := r10
      generalize (wB ops ++ s).length = WS at *
      generalize (wB ops).length = WL at *
      generalize s.length = sl at *
      generalize upA a7 (ops.length * 2) = ua at *
      generalize ops.length + A.length = LA at *
      generalize ops.length = L at *
      generalize A.length = AL at *
      simp (config := {maxSteps := 2000000}) (disch := first | omega | rfl | (simp only [ofI_len, List.length_append, List.length_take, List.length_drop, List.length_cons, List.length_nil, List.length_replicate, List.length_set]; done) | (simp only [ofI_len, List.length_append, List.length_take, List.length_drop, List.length_cons, List.length_nil, List.length_replicate, List.length_set]; omega)) only [al, gr, d0, r1, r2, r3, r4, st2', st0, sq, sc5, ap5, sc6, ap6, r7, r8, r9, r10, sl9, sl10, wL, eL, z0, z1, z2, b_sneq, Bool.not_true, ↓ns_b2s, ↓x_slcS, x_M0, x_M1, ↓s_append, ↓s_len, x_lenS, ↓b_xor32, ↓b_and32, ↓b_or32, ↓u_not32, b_xor32, b_and32, b_or32, u_not32, w32ad, ↓x_conv, x_convV, ↓x_fieldAddr, x_fieldV, ↓s_nilchk, x_nilchk, Nat.zero_add, Nat.add_zero, Nat.mul_one, ↓s_evD, ↓s_dnil, ↓s_dL, ↓s_dLg, ↓s_dR, ↓s_dRg, ↓s_dRj, ↓s_dRjg, ↓s_dB, ↓s_dBg, ↓s_dAlloc, ↓s_bindD, s_bindD, s_finD, s_finDx, s_addP0, s_addP1, s_addB, s_lookP, ↓s_bump0, ↓s_bump_get, s_bump_next, s_ok0, ↓s_ok1, s_okR0, ↓s_okR1, ↓s_okE, s_okE, s_okE1, s_nth0, s_nthS, Nat.add_zero, Bool.and_self, Bool.and_true, Bool.true_and, ↓l_loop, ↓l_succ, ↓l_normal, l_normal, l_exit, l_ret, l_iteN, ↓h_put_get, ↓h_new_get, ↓h_del_get, h_next_put, h_next_new, h_next_del, Nat.add_assoc, Nat.add_eq_left, Nat.left_eq_add, Nat.add_left_cancel_iff, ↓s_load, m_load, ↓m_load1, m_load1, ↓m_st, m_stE, m_storeI, m_storeE, ↓s_alloc, ↓x_idxA, ↓x_idxS, x_idxAE, x_idxSE, x_addrE, x_idx, x_lenS, ↓s_len, ↓x_buildS, x_buildE, ↓x_P0, ↓x_P1, x_fill0, x_filli, x_fills, x_fillb, c_int, List.length_cons, List.length_nil, List.cons_append, List.drop_succ_cons, List.drop_zero, List.drop_nil, List.nil_append, Int.reduceAdd, Int.reduceToNat, Int.reduceLT, Int.reduceLE, Nat.reduceAdd, Nat.reduceMul, Nat.reduceLeDiff, Int.reduceEq, Int.reduceSub, Int.cast_ofNat_Int, s_resc, s_consR, m_load4, m_store4, s_res0, ↓s_skip, ↓s_ops, ↓s_dops, ↓s_seq, ↓s_cond, ↓s_block, ↓s_exit, ↓s_ret, ↓s_scope, ↓s_nil, ↓s_op, ↓s_opg, ↓s_wanted', ↓s_wantV, s_wantV, s_wantV0, beq_true, beq_false, ↓s_bindS, s_bindS, ↓s_bindE, s_bindE, s_bindE_ret, s_bindE_exit, s_bindE_iteN, s_norm, ↓s_condV, s_condV, s_block_ret, s_block_normal, s_block_exit, s_block_iteN, ↓s_getp, ↓s_getp0, ↓s_get, s_get0, ↓s_con, ↓s_fn, ↓s_os0, ↓s_os1, ↓s_list0, ↓s_list1, ↓s_mov, ↓s_pick, ↓s_pickE, s_pickE, ↓s_bin, ↓s_un, ↓s_minmax, ↓s_call, ↓s_callv, ↓s_callV, ↓s_ext, s_same, b_eql, b_neq, b_lss, b_leq, b_gtr, b_geq, b_add, b_sub, b_mul, b_eqlb, b_neqb, b_fnil, b_fnil', b_fnil2, b_fnil2', u_neg, u_not, m_two, s_end, s_end', s_end_iteN, s_res0, s_res1, s_tup1, s_tup2, ↓iteN_true, ↓iteN_false, iteN_true, iteN_false, Nat.zero_add, List.nil_append, List.append_nil, Nat.reduceEqDiff, reduceIte, decide_true, decide_false, Bool.not_true, Bool.not_false, List.getElem?_cons_zero, List.getElem?_cons_succ, Bool.false_eq_true, if_true, if_false, beq_self_eq_true]
      exact ⟨_, rfl⟩
end Go.Eng
