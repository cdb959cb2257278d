/- What functions of the program come to: own work. -/
import Derived.Test.YtgjoaeefnknpfaaOcA
namespace Go.Eng
open Go
variable {E : Nat → Option Fn} {X : Orc}
set_option linter.unusedSimpArgs false
set_option linter.unusedVariables false
noncomputable def alX (k : Nat) : Orc := pureX k aliveS
theorem al_wid : NoWid (alX k_purserlaw01_alive) := ⟨fun _ _ => rfl, fun _ _ => rfl, fun _ _ => rfl, fun _ _ _ => rfl⟩
theorem al_put : NoPut (alX k_purserlaw01_alive) := ⟨fun _ _ => rfl, al_wid⟩
theorem al_fix : NoFix (alX k_purserlaw01_alive) := ⟨fun _ _ => rfl, fun _ _ => rfl, al_put⟩
theorem al_size : NoSize (alX k_purserlaw01_alive) := ⟨fun _ _ => rfl, fun _ _ => rfl, fun _ _ => rfl, al_put⟩
theorem al_eye : NoEye (alX k_purserlaw01_alive) := ⟨fun _ _ => rfl, fun _ _ => rfl, fun _ _ => rfl, fun _ _ => rfl, fun _ _ => rfl, fun _ _ => rfl, fun _ _ => rfl, fun _ _ => rfl, fun _ _ => rfl, fun _ _ => rfl, fun _ _ => rfl, fun _ _ => rfl, fun _ _ => rfl, al_wid⟩
structure EnPen (E : Nat → Option Fn) : Prop where
  fi : EnFix E
  si : EnSize E
  by_ : E k_octet_Pen_Bytes = some f_octet_Pen_Bytes
  rw_ : E k_octet_Pen_Raw = some f_octet_Pen_Raw
  al : E k_octet_Pen_All = some f_octet_Pen_All
set_option maxRecDepth 100000 in
set_option maxHeartbeats 4000000 in
theorem law_OctetShort (ep : EnPen E) (ey : EnEye E) (ek : E k_octet_Look = some f_octet_Look) (el : E k_purserlaw01_OctetShort = some f_purserlaw01_OctetShort) (N : Nat) (b : List Nat) (bb : byt b = true) (a : Option (Nat × Nat)) (most : Int) (hm : most < 9223372036854775808) (h : H) (src : SrcH h a 1 b) :
    ∃ h2, callX E (alX k_purserlaw01_alive) (N + 101) (.fn k_purserlaw01_OctetShort) [.slice a b.length none 1, .int .i64 most] h = some (.bool true, h2) := by
  rw [x_cfn el _ _ (Nat.le_of_ble_eq_true rfl) rfl]
  have al : ∀ h, callX E (alX k_purserlaw01_alive) (N + 100) (.fn k_purserlaw01_alive) [] h = some (.bool true, h) := fun h => x_known (pureX_yes h rfl)
  by_cases hb : 20000 < b.length
  · have c1 : decide ((20000 : Int) < (b.length : Int)) = true := decide_eq_true (by omega)
    simp (config := {maxSteps := 2000000}) (disch := first | omega | rfl | (simp only [ofI_len, List.length_append, List.length_take, List.length_drop, List.length_cons, List.length_nil, List.length_replicate, List.length_set]; done) | (simp only [ofI_len, List.length_append, List.length_take, List.length_drop, List.length_cons, List.length_nil, List.length_replicate, List.length_set]; omega)) only [al, c1, ↓s_len, x_lenS, ↓b_xor32, ↓b_and32, ↓b_or32, ↓u_not32, b_xor32, b_and32, b_or32, u_not32, w32ad, ↓x_conv, x_convV, ↓x_fieldAddr, x_fieldV, ↓s_nilchk, x_nilchk, Nat.zero_add, Nat.add_zero, Nat.mul_one, ↓l_loop, ↓l_succ, ↓l_normal, l_normal, l_exit, l_ret, l_iteN, ↓h_put_get, ↓h_new_get, ↓h_del_get, h_next_put, h_next_new, h_next_del, Nat.add_assoc, Nat.add_eq_left, Nat.left_eq_add, Nat.add_left_cancel_iff, ↓s_load, m_load, ↓m_load1, m_load1, ↓m_st, m_stE, m_storeI, m_storeE, ↓s_alloc, ↓x_idxA, ↓x_idxS, x_idxAE, x_idxSE, x_addrE, x_idx, x_lenS, ↓s_len, ↓x_buildS, x_buildE, ↓x_P0, ↓x_P1, x_fill0, x_filli, x_fills, x_fillb, c_int, List.length_cons, List.length_nil, List.cons_append, List.drop_succ_cons, List.drop_zero, List.drop_nil, List.nil_append, Int.reduceAdd, Int.reduceToNat, Int.reduceLT, Int.reduceLE, Nat.reduceAdd, Nat.reduceMul, Nat.reduceLeDiff, Int.reduceEq, Int.reduceSub, Int.cast_ofNat_Int, s_resc, s_consR, m_load4, m_store4, s_res0, ↓s_skip, ↓s_ops, ↓s_dops, ↓s_seq, ↓s_cond, ↓s_block, ↓s_exit, ↓s_ret, ↓s_scope, ↓s_nil, ↓s_op, ↓s_opg, ↓s_wanted', ↓s_wantV, s_wantV, s_wantV0, beq_true, beq_false, ↓s_bindS, s_bindS, ↓s_bindE, s_bindE, s_bindE_ret, s_bindE_exit, s_bindE_iteN, s_norm, ↓s_condV, s_condV, s_block_ret, s_block_normal, s_block_exit, s_block_iteN, ↓s_getp, ↓s_getp0, ↓s_get, s_get0, ↓s_con, ↓s_fn, ↓s_os0, ↓s_os1, ↓s_list0, ↓s_list1, ↓s_mov, ↓s_pick, ↓s_pickE, s_pickE, ↓s_bin, ↓s_un, ↓s_minmax, ↓s_call, ↓s_callv, ↓s_callV, ↓s_ext, s_same, b_eql, b_neq, b_lss, b_leq, b_gtr, b_geq, b_add, b_sub, b_mul, b_eqlb, b_neqb, b_fnil, b_fnil', b_fnil2, b_fnil2', u_neg, u_not, m_two, s_end, s_end', s_end_iteN, s_res0, s_res1, s_tup1, s_tup2, ↓iteN_true, ↓iteN_false, iteN_true, iteN_false, Nat.zero_add, List.nil_append, List.append_nil, Nat.reduceEqDiff, reduceIte, decide_true, decide_false, Bool.not_true, Bool.not_false, List.getElem?_cons_zero, List.getElem?_cons_succ, Bool.false_eq_true, if_true, if_false, beq_self_eq_true]
    exact ⟨_, rfl⟩
  have c1 : decide ((20000 : Int) < (b.length : Int)) = false := decide_eq_false (by omega)
  obtain ⟨h1, p1, a1, r1, k1, q1, y1, g1⟩ := look_go (X := alX k_purserlaw01_alive) ek (fun _ _ => rfl) (N + 99) b (by omega) a none 1 h src
  obtain ⟨h2, p2, a2, r2, k2, q2, y2, g2⟩ := look_go (X := alX k_purserlaw01_alive) ek (fun _ _ => rfl) (N + 99) b (by omega) a none 1 h1 (src.mono k1)
  have l1 := y1.lt
  have l2 := y2.lt
  obtain ⟨h3, r3, k3, y3, n3⟩ := eysiz_go ey al_eye (N + 83) p1 b bb (by omega) 0 a1 h2 (y1.kp k2)
  have y23 := y2.kq k3 (by omega) (fun o e => by have := g2 _ _ e; omega)
  obtain ⟨h4, ax, cx, ex, r4, nq4, y4⟩ := eybyt_go ey al_eye (N + 83) p2 most hm b bb (by omega) 0 a2 h3 y23
  have y34 := y3.kq nq4.kq (by omega) (fun o e => by have := y1.alt e; omega)
  obtain ⟨h5, e5⟩ : ∃ h5, (h4.new (.cells [.slice none 0 (some 0) 0] .rw)).new (.cells [.slice none 0 (some 0) 0] .rw) = h5 := ⟨_, rfl⟩
  have k5 : Kp h4 h5 := by rw [← e5]; (repeat (first | exact Kp.refl _ | refine Kp.put ?_ _ (by first | omega | (simp only [h_next_put, h_next_new, h_next_del]; omega)) | refine Kp.del ?_ (by first | omega | (simp only [h_next_put, h_next_new, h_next_del]; omega)) | refine Kp.trans ?_ (Kp.new _ _)))
  have n5 : h5.next = h4.next + 2 := by rw [← e5]; rfl
  have pP : PenH h4.next [] none h5 := .new _ _ (by omega) (by rw [← e5]; (simp (disch := omega) only [l_loop, l_succ, l_normal, l_normal, l_exit, l_ret, l_iteN, h_put_get, h_new_get, h_del_get, h_next_put, h_next_new, h_next_del, Nat.add_assoc, Nat.add_eq_left, Nat.left_eq_add, Nat.add_left_cancel_iff, s_load, m_load, m_load1, m_load1, m_st, m_stE, m_storeI, m_storeE, w_zero, w_succ, s_alloc, x_idxA, x_idxS, x_idxAE, x_idxSE, x_addrE, x_idx, x_lenS, s_len, x_buildS, x_buildE, x_P0, x_P1, x_fill0, x_filli, x_fills, x_fillb, c_int, List.length_cons, List.length_nil, List.cons_append, List.drop_succ_cons, List.drop_zero, List.drop_nil, List.nil_append, Int.reduceAdd, Int.reduceToNat, Int.reduceLT, Int.reduceLE, Nat.reduceAdd, Nat.reduceMul, Nat.reduceLeDiff, Int.reduceEq, Int.reduceSub, Int.cast_ofNat_Int, s_resc, s_consR, m_load4, m_store4, s_res0, decide_true, decide_false, iteN_true, iteN_false, Nat.reduceEqDiff, Nat.reduceAdd, reduceCtorEq, ]; try rfl))
  have pQ : PenH (h4.next + 1) [] none h5 := .new _ _ (by omega) (by rw [← e5]; (simp (disch := omega) only [l_loop, l_succ, l_normal, l_normal, l_exit, l_ret, l_iteN, h_put_get, h_new_get, h_del_get, h_next_put, h_next_new, h_next_del, Nat.add_assoc, Nat.add_eq_left, Nat.left_eq_add, Nat.add_left_cancel_iff, s_load, m_load, m_load1, m_load1, m_st, m_stE, m_storeI, m_storeE, w_zero, w_succ, s_alloc, x_idxA, x_idxS, x_idxAE, x_idxSE, x_addrE, x_idx, x_lenS, s_len, x_buildS, x_buildE, x_P0, x_P1, x_fill0, x_filli, x_fills, x_fillb, c_int, List.length_cons, List.length_nil, List.cons_append, List.drop_succ_cons, List.drop_zero, List.drop_nil, List.nil_append, Int.reduceAdd, Int.reduceToNat, Int.reduceLT, Int.reduceLE, Nat.reduceAdd, Nat.reduceMul, Nat.reduceLeDiff, Int.reduceEq, Int.reduceSub, Int.cast_ofNat_Int, s_resc, s_consR, m_load4, m_store4, s_res0, decide_true, decide_false, iteN_true, iteN_false, Nat.reduceEqDiff, Nat.reduceAdd, reduceCtorEq, ]; try rfl))
  have kq24 : Kp h h4 := by
    have := k1.1; have := k2.1; have := k3.1; have := nq4.kq.1
    refine ⟨by omega, fun j hj => ?_⟩
    rw [nq4.kq.2 _ (by omega) (by omega), k3.2 _ (by omega) (by omega), k2.2 _ (by omega), k1.2 _ hj]
  have sb5 := src.mono (kq24.trans k5)
  have h45 := k5.1
  -- the rest, for what was written
  have tail : ∀ (h7 : H) (w v : List Nat) (aP aQ : Option (Nat × Nat)) (at1 at2 : Nat) (T : Tr V), w = b.take at1 → v = b.take at2 → at1 ≤ b.length → at2 ≤ b.length → PenH h4.next w aP h7 → PenH (h4.next + 1) v aQ h7 → EyeH p1 b at1 a1 h7 → EyeH p2 b at2 a2 h7 → SrcH h7 a 1 b →
      ∃ h9 h8 c1 e1 c2 e2 o1 o2, callX E (alX k_purserlaw01_alive) (N + 100) (.fn k_octet_Pen_All) [.ptr (some (h4.next, 0))] h7 = some (.slice o1 at1 c1 e1, h8) ∧
        callX E (alX k_purserlaw01_alive) (N + 100) (.fn k_octet_Pen_All) [.ptr (some (h4.next + 1, 0))] h8 = some (.slice o2 at2 c2 e2, h9) ∧
        callX E (alX k_purserlaw01_alive) (N + 100) (.fn k_octet_Eye_Left) [.ptr (some (p1, 0))] h9 = some (.int .i64 ((b.length - at1 : Nat) : Int), h9) ∧
        callX E (alX k_purserlaw01_alive) (N + 100) (.fn k_octet_Eye_Left) [.ptr (some (p2, 0))] h9 = some (.int .i64 ((b.length - at2 : Nat) : Int), h9) ∧
        (∀ hh, Kp h9 hh → b2sV hh (.slice o1 at1 c1 e1) = some (.str w) ∧ b2sV hh (.slice o2 at2 c2 e2) = some (.str v) ∧ b2sV hh (.slice a at1 none 1) = some (.str w) ∧ b2sV hh (.slice a at2 none 1) = some (.str v)) ∧ Kp h7 h9 := by
    intro h7 w v aP aQ at1 at2 T ew ev l1 l2 pp pq yy1 yy2 ss
    have lw : w.length = at1 := by rw [ew, List.length_take]; omega
    have lv : v.length = at2 := by rw [ev, List.length_take]; omega
    obtain ⟨o1, c1, e1, h8, s1, nw1⟩ := allv_go (X := alX k_purserlaw01_alive) ep.al (fun _ _ => rfl) (N + 99) h4.next w (by omega) aP h7 pp
    obtain ⟨o2, c2, e2, h9, s2, nw2⟩ := allv_go (X := alX k_purserlaw01_alive) ep.al (fun _ _ => rfl) (N + 99) (h4.next + 1) v (by omega) aQ h8 (pq.kp nw1.kp)
    have kk := nw1.kp.trans nw2.kp
    have s3 := left_go ey al_eye (N + 98) p1 b (by omega) at1 a1 h9 (yy1.kp kk)
    have s4 := left_go ey al_eye (N + 98) p2 b (by omega) at2 a2 h9 (yy2.kp kk)
    rw [lw] at s1
    rw [lv] at s2
    refine ⟨h9, h8, c1, e1, c2, e2, o1, o2, s1, s2, s3, s4, fun hh k => ⟨?_, ?_, ?_, ?_⟩, kk⟩
    · have := str_src ((nw1.wb.kp nw2.kp).kp k).src (by rw [ew]; exact byt_take bb _) c1
      rw [lw] at this; exact this
    · have := str_src (nw2.wb.kp k).src (by rw [ev]; exact byt_take bb _) c2
      rw [lv] at this; exact this
    · have := str_src ((ss.mono (kk.trans k)).take at1) (byt_take bb _) none
      rw [← ew, lw] at this; exact this
    · have := str_src ((ss.mono (kk.trans k)).take at2) (byt_take bb _) none
      rw [← ev, lv] at this; exact this
  have c2 : ∀ at1, at1 ≤ b.length → wr .i64 ((b.length : Int) - ((b.length - at1 : Nat) : Int)) = (at1 : Int) := fun at1 hl => by rw [wr_i64 (by omega)]; omega
  have sv : ∀ at1, at1 ≤ b.length → slcV 1 none (some (.int .i64 (at1 : Int))) none (.slice a b.length none 1) = some (.slice a at1 none 1) := fun at1 hl => slcV_hiA _ _ _ _ hl
  cases hc : comV b with
  | none =>
    have e1 : eySiz b 0 = (0, 10, 0) := by unfold eySiz; rw [List.drop_zero, hc]
    have e2 : eyByt most b 0 = ([], 10, 0) := by unfold eyByt; rw [List.drop_zero, hc]
    rw [e1] at r3 y3 y34
    rw [e2] at r4 y4
    simp only [List.length_nil] at r4
    obtain ⟨h9, h8, c3, e3, c4, e4, o1, o2, s1, s2, s3, s4, st, k9⟩ := tail h5 [] [] none none 0 0 .e rfl rfl (Nat.zero_le _) (Nat.zero_le _) pP pQ (y34.kp k5) (y4.kp k5) sb5
    obtain ⟨st1, st2, st3, st4⟩ := st h9 (Kp.refl _)
    have c20 := c2 0 (Nat.zero_le _)
    have sv0 := sv 0 (Nat.zero_le _)
    replace r1 : callX E (alX k_purserlaw01_alive) (N + 100) (.fn k_octet_Look) [.slice a b.length none 1] h = some (.ptr (some (p1, 0)), h1) := r1
    replace r2 : callX E (alX k_purserlaw01_alive) (N + 100) (.fn k_octet_Look) [.slice a b.length none 1] h1 = some (.ptr (some (p2, 0)), h2) := r2
    replace r3 : callX E (alX k_purserlaw01_alive) (N + 100) (.fn k_octet_Eye_Size) [.ptr (some (p1, 0))] h2 = some (.tup [.int .u64 0, .int .i64 10], h3) := r3
    replace r4 : callX E (alX k_purserlaw01_alive) (N + 100) (.fn k_octet_Eye_Bytes) [.ptr (some (p2, 0)), .int .i64 most] h3 = some (.tup [.slice ax 0 cx ex, .int .i64 10], h4) := r4
    generalize b.length = n at *
    simp only [Nat.sub_zero] at s3 s4 c20
    have sv0' : slcV 1 none (some (.int .i64 0)) none (.slice a n none 1) = some (.slice a 0 none 1) := sv0
    simp (config := {maxSteps := 2000000}) (disch := first | omega | rfl | (simp only [ofI_len, List.length_append, List.length_take, List.length_drop, List.length_cons, List.length_nil, List.length_replicate, List.length_set]; done) | (simp only [ofI_len, List.length_append, List.length_take, List.length_drop, List.length_cons, List.length_nil, List.length_replicate, List.length_set]; omega)) only [al, c1, r1, r2, r3, r4, e5, s1, s2, s3, s4, st1, st2, st3, st4, c20, sv0', ↓ns_b2s, b_seq, vbeq_str, ↓x_slcS, x_M0, x_M1, ↓s_len, x_lenS, ↓b_xor32, ↓b_and32, ↓b_or32, ↓u_not32, b_xor32, b_and32, b_or32, u_not32, w32ad, ↓x_conv, x_convV, ↓x_fieldAddr, x_fieldV, ↓s_nilchk, x_nilchk, Nat.zero_add, Nat.add_zero, Nat.mul_one, ↓s_evD, ↓s_dnil, ↓s_dL, ↓s_dLg, ↓s_dR, ↓s_dRg, ↓s_dRj, ↓s_dRjg, ↓s_dB, ↓s_dBg, ↓s_dAlloc, ↓s_bindD, s_bindD, s_finD, s_finDx, s_addP0, s_addP1, s_addB, s_lookP, ↓s_bump0, ↓s_bump_get, s_bump_next, s_ok0, ↓s_ok1, s_okR0, ↓s_okR1, ↓s_okE, s_okE, s_okE1, s_nth0, s_nthS, Nat.add_zero, Bool.and_self, Bool.and_true, Bool.true_and, ↓l_loop, ↓l_succ, ↓l_normal, l_normal, l_exit, l_ret, l_iteN, ↓h_put_get, ↓h_new_get, ↓h_del_get, h_next_put, h_next_new, h_next_del, Nat.add_assoc, Nat.add_eq_left, Nat.left_eq_add, Nat.add_left_cancel_iff, ↓s_load, m_load, ↓m_load1, m_load1, ↓m_st, m_stE, m_storeI, m_storeE, w_zero, w_succ, ↓s_alloc, ↓x_idxA, ↓x_idxS, x_idxAE, x_idxSE, x_addrE, x_idx, x_lenS, ↓s_len, ↓x_buildS, x_buildE, ↓x_P0, ↓x_P1, x_fill0, x_filli, x_fills, x_fillb, c_int, List.length_cons, List.length_nil, List.cons_append, List.drop_succ_cons, List.drop_zero, List.drop_nil, List.nil_append, Int.reduceAdd, Int.reduceToNat, Int.reduceLT, Int.reduceLE, Nat.reduceAdd, Nat.reduceMul, Nat.reduceLeDiff, Int.reduceEq, Int.reduceSub, Int.cast_ofNat_Int, s_resc, s_consR, m_load4, m_store4, s_res0, ↓s_skip, ↓s_ops, ↓s_dops, ↓s_seq, ↓s_cond, ↓s_block, ↓s_exit, ↓s_ret, ↓s_scope, ↓s_nil, ↓s_op, ↓s_opg, ↓s_wanted', ↓s_wantV, s_wantV, s_wantV0, beq_true, beq_false, ↓s_bindS, s_bindS, ↓s_bindE, s_bindE, s_bindE_ret, s_bindE_exit, s_bindE_iteN, s_norm, ↓s_condV, s_condV, s_block_ret, s_block_normal, s_block_exit, s_block_iteN, ↓s_getp, ↓s_getp0, ↓s_get, s_get0, ↓s_con, ↓s_fn, ↓s_os0, ↓s_os1, ↓s_list0, ↓s_list1, ↓s_mov, ↓s_pick, ↓s_pickE, s_pickE, ↓s_bin, ↓s_un, ↓s_minmax, ↓s_call, ↓s_callv, ↓s_callV, ↓s_ext, s_same, b_eql, b_neq, b_lss, b_leq, b_gtr, b_geq, b_add, b_sub, b_mul, b_eqlb, b_neqb, b_fnil, b_fnil', b_fnil2, b_fnil2', u_neg, u_not, m_two, s_end, s_end', s_end_iteN, s_res0, s_res1, s_tup1, s_tup2, ↓iteN_true, ↓iteN_false, iteN_true, iteN_false, Nat.zero_add, List.nil_append, List.append_nil, Nat.reduceEqDiff, reduceIte, decide_true, decide_false, Bool.not_true, Bool.not_false, List.getElem?_cons_zero, List.getElem?_cons_succ, Bool.false_eq_true, if_true, if_false, beq_self_eq_true]
    exact ⟨_, rfl⟩
  | some z =>
    obtain ⟨n, u⟩ := z
    obtain ⟨f1, f2, f3, f4⟩ := com_siz b bb n u hc
    have e1 : eySiz b 0 = (n, 0, u) := by unfold eySiz; rw [List.drop_zero, hc]; simp
    rw [e1] at r3 y3 y34
    obtain ⟨h6, aP, r6, p6, fr6⟩ := sizev_go ep.si al_size (N + 95) h4.next n (by omega) f4 [] (by simp) none h5 pP
    rw [List.nil_append] at p6
    have pQ6 := pQ.other fr6 (by omega) (by simp) (fun q e => by cases e)
    have y1_6 : EyeH p1 b u a1 h6 := (y34.kp k5).mono fr6.nx (fr6.fr _ (by have := y34.lt; omega) (by have := y34.lt; omega) (by simp)) (fun q hq e => fr6.fr _ hq (by have := y34.alt e; omega) (by simp))
    have y2_6 := (y4.kp k5).mono fr6.nx (fr6.fr _ (by have := y4.lt; omega) (by have := y4.lt; omega) (by simp)) (fun q hq e => fr6.fr _ hq (by have := y4.alt e; omega) (by simp))
    have sb6 := sb5.fr fr6 (fun hl q o e => ⟨by
      rcases src with hs | ⟨bi, off, vs, m, e1, _, e3, _⟩
      · exact absurd hs hl
      · rw [e1] at e; cases e; have := kq24.1; omega, by simp⟩)
    replace r1 : callX E (alX k_purserlaw01_alive) (N + 100) (.fn k_octet_Look) [.slice a b.length none 1] h = some (.ptr (some (p1, 0)), h1) := r1
    replace r2 : callX E (alX k_purserlaw01_alive) (N + 100) (.fn k_octet_Look) [.slice a b.length none 1] h1 = some (.ptr (some (p2, 0)), h2) := r2
    replace r3 : callX E (alX k_purserlaw01_alive) (N + 100) (.fn k_octet_Eye_Size) [.ptr (some (p1, 0))] h2 = some (.tup [.int .u64 (n : Int), .int .i64 0], h3) := r3
    replace r6 : callX E (alX k_purserlaw01_alive) (N + 100) (.fn k_octet_Pen_Size) [.ptr (some (h4.next, 0)), .int .u64 (n : Int)] h5 = some (.int .i64 0, h6) := r6
    by_cases hc2 : most < 0 ∨ most < (n : Int) ∨ b.length - 0 - u < n
    · have e2 : eyByt most b 0 = ([], 10, 0) := by unfold eyByt; rw [List.drop_zero, hc]; simp only; rw [if_pos hc2]
      rw [e2] at r4 y4 y2_6
      simp only [List.length_nil] at r4
      obtain ⟨h9, h8, c3, e3, c4, e4, o1, o2, s1, s2, s3, s4, st, k9⟩ := tail h6 (sizV n) [] aP none u 0 .e f1 rfl f3 (Nat.zero_le _) p6 pQ6 y1_6 y2_6 sb6
      obtain ⟨h10, r10, k10⟩ := compactn_go ey.cp ey.wi al_eye.cp al_wid (N + 96) n (by omega) f4 h9
      replace r10 : callX E (alX k_purserlaw01_alive) (N + 100) (.fn k_octet_Compact) [.int .u64 (n : Int)] h9 = some (.int .i64 (cplV n : Nat), h10) := r10
      obtain ⟨st1, st2, st3, st4⟩ := st h9 (Kp.refl _)
      have c20 := c2 0 (Nat.zero_le _)
      have c2u := c2 u f3
      have sv0 := sv 0 (Nat.zero_le _)
      have svu := sv u f3
      rw [← f2] at r10
      replace r4 : callX E (alX k_purserlaw01_alive) (N + 100) (.fn k_octet_Eye_Bytes) [.ptr (some (p2, 0)), .int .i64 most] h3 = some (.tup [.slice ax 0 cx ex, .int .i64 10], h4) := r4
      have sv0' : slcV 1 none (some (.int .i64 0)) none (.slice a b.length none 1) = some (.slice a 0 none 1) := sv0
      simp only [Nat.sub_zero] at s4 c20
      generalize b.length - u = d at *
      generalize b.length = m at *
      simp (config := {maxSteps := 2000000}) (disch := first | omega | rfl | (simp only [ofI_len, List.length_append, List.length_take, List.length_drop, List.length_cons, List.length_nil, List.length_replicate, List.length_set]; done) | (simp only [ofI_len, List.length_append, List.length_take, List.length_drop, List.length_cons, List.length_nil, List.length_replicate, List.length_set]; omega)) only [al, c1, r1, r2, r3, r4, e5, r6, r10, s1, s2, s3, s4, st1, st2, st3, st4, c20, c2u, sv0', svu, ↓ns_b2s, b_seq, vbeq_str, ↓x_slcS, x_M0, x_M1, ↓s_len, x_lenS, ↓b_xor32, ↓b_and32, ↓b_or32, ↓u_not32, b_xor32, b_and32, b_or32, u_not32, w32ad, ↓x_conv, x_convV, ↓x_fieldAddr, x_fieldV, ↓s_nilchk, x_nilchk, Nat.zero_add, Nat.add_zero, Nat.mul_one, ↓s_evD, ↓s_dnil, ↓s_dL, ↓s_dLg, ↓s_dR, ↓s_dRg, ↓s_dRj, ↓s_dRjg, ↓s_dB, ↓s_dBg, ↓s_dAlloc, ↓s_bindD, s_bindD, s_finD, s_finDx, s_addP0, s_addP1, s_addB, s_lookP, ↓s_bump0, ↓s_bump_get, s_bump_next, s_ok0, ↓s_ok1, s_okR0, ↓s_okR1, ↓s_okE, s_okE, s_okE1, s_nth0, s_nthS, Nat.add_zero, Bool.and_self, Bool.and_true, Bool.true_and, ↓l_loop, ↓l_succ, ↓l_normal, l_normal, l_exit, l_ret, l_iteN, ↓h_put_get, ↓h_new_get, ↓h_del_get, h_next_put, h_next_new, h_next_del, Nat.add_assoc, Nat.add_eq_left, Nat.left_eq_add, Nat.add_left_cancel_iff, ↓s_load, m_load, ↓m_load1, m_load1, ↓m_st, m_stE, m_storeI, m_storeE, w_zero, w_succ, ↓s_alloc, ↓x_idxA, ↓x_idxS, x_idxAE, x_idxSE, x_addrE, x_idx, x_lenS, ↓s_len, ↓x_buildS, x_buildE, ↓x_P0, ↓x_P1, x_fill0, x_filli, x_fills, x_fillb, c_int, List.length_cons, List.length_nil, List.cons_append, List.drop_succ_cons, List.drop_zero, List.drop_nil, List.nil_append, Int.reduceAdd, Int.reduceToNat, Int.reduceLT, Int.reduceLE, Nat.reduceAdd, Nat.reduceMul, Nat.reduceLeDiff, Int.reduceEq, Int.reduceSub, Int.cast_ofNat_Int, s_resc, s_consR, m_load4, m_store4, s_res0, ↓s_skip, ↓s_ops, ↓s_dops, ↓s_seq, ↓s_cond, ↓s_block, ↓s_exit, ↓s_ret, ↓s_scope, ↓s_nil, ↓s_op, ↓s_opg, ↓s_wanted', ↓s_wantV, s_wantV, s_wantV0, beq_true, beq_false, ↓s_bindS, s_bindS, ↓s_bindE, s_bindE, s_bindE_ret, s_bindE_exit, s_bindE_iteN, s_norm, ↓s_condV, s_condV, s_block_ret, s_block_normal, s_block_exit, s_block_iteN, ↓s_getp, ↓s_getp0, ↓s_get, s_get0, ↓s_con, ↓s_fn, ↓s_os0, ↓s_os1, ↓s_list0, ↓s_list1, ↓s_mov, ↓s_pick, ↓s_pickE, s_pickE, ↓s_bin, ↓s_un, ↓s_minmax, ↓s_call, ↓s_callv, ↓s_callV, ↓s_ext, s_same, b_eql, b_neq, b_lss, b_leq, b_gtr, b_geq, b_add, b_sub, b_mul, b_eqlb, b_neqb, b_fnil, b_fnil', b_fnil2, b_fnil2', u_neg, u_not, m_two, s_end, s_end', s_end_iteN, s_res0, s_res1, s_tup1, s_tup2, ↓iteN_true, ↓iteN_false, iteN_true, iteN_false, Nat.zero_add, List.nil_append, List.append_nil, Nat.reduceEqDiff, reduceIte, decide_true, decide_false, Bool.not_true, Bool.not_false, List.getElem?_cons_zero, List.getElem?_cons_succ, Bool.false_eq_true, if_true, if_false, beq_self_eq_true]
      exact ⟨_, rfl⟩
    · have lx : ((b.drop u).take n).length = n := by rw [List.length_take, List.length_drop]; omega
      have e2 : eyByt most b 0 = ((b.drop u).take n, 0, u + n) := by unfold eyByt; rw [List.drop_zero, hc]; simp only; rw [if_neg hc2]; simp
      rw [e2] at r4 y4 nq4 y2_6
      simp only at r4 y4 nq4 y2_6
      have s5 := nq4.wb.src
      have pok : PartOk (h4.next + 1) none h6 (ax, cx, ex, (b.drop u).take n) := ⟨(s5.mono k5).fr fr6 (fun hl q o e => ⟨by have := nq4.wb.lt e; omega, by simp⟩), fun hl q o e => ⟨by have := nq4.wb.lt e; omega, by simp⟩⟩
      obtain ⟨h7, aQ, r7, p7, fr7⟩ := bytesv_go ep.si ep.by_ ep.rw_ al_size (fun _ _ => rfl) (fun _ _ => rfl) (N + 94) (h4.next + 1) (by omega) [] ((b.drop u).take n) (by simp) (by omega) ax cx ex none h6 pQ6 pok
      rw [List.nil_append, lx] at p7
      rw [lx] at r4 r7
      have ev : sizV n ++ (b.drop u).take n = b.take (u + n) := by rw [f1, List.take_add]
      have n56 := fr6.nx
      have p67 := p6.other fr7 (by omega) (by simp) (fun q e => by
        refine ⟨?_, by simp⟩
        rcases fr6.ow with e' | ⟨q', e', hq⟩
        · rw [e'] at e; cases e
        · rw [e'] at e; cases e; omega)
      have y1_7 : EyeH p1 b u a1 h7 := y1_6.mono fr7.nx (fr7.fr _ y1_6.lt (by have := y34.lt; omega) (by simp)) (fun q hq e => fr7.fr _ hq (by have := y34.alt e; omega) (by simp))
      have y2_7 := y2_6.mono fr7.nx (fr7.fr _ y2_6.lt (by have := y4.lt; omega) (by simp)) (fun q hq e => fr7.fr _ hq (by have := y4.alt e; omega) (by simp))
      have sb7 := sb6.fr fr7 (fun hl q o e => ⟨by
        rcases src with hs | ⟨bi, off, vs, m, e1, _, e3, _⟩
        · exact absurd hs hl
        · rw [e1] at e; cases e; have := kq24.1; omega, by simp⟩)
      obtain ⟨h9, h8, c3, e3, c4, e4, o1, o2, s1, s2, s3, s4, st, k9⟩ := tail h7 (sizV n) (sizV n ++ (b.drop u).take n) aP aQ u (u + n) .e f1 ev f3 (by omega) p67 p7 y1_7 y2_7 sb7
      obtain ⟨h10, r10, k10⟩ := compactn_go ey.cp ey.wi al_eye.cp al_wid (N + 96) n (by omega) f4 h9
      replace r10 : callX E (alX k_purserlaw01_alive) (N + 100) (.fn k_octet_Compact) [.int .u64 (n : Int)] h9 = some (.int .i64 (cplV n : Nat), h10) := r10
      obtain ⟨st1, st2, st3, st4⟩ := st h9 (Kp.refl _)
      have c2u := c2 u f3
      have c2n := c2 (u + n) (by omega)
      have svu := sv u f3
      have svn := sv (u + n) (by omega)
      rw [← f2] at r10
      have wn : wr .u64 (n : Int) = (n : Int) := u64n _ f4
      have cm : decide ((n : Int) ≤ most) = true := decide_eq_true (by omega)
      replace r4 : callX E (alX k_purserlaw01_alive) (N + 100) (.fn k_octet_Eye_Bytes) [.ptr (some (p2, 0)), .int .i64 most] h3 = some (.tup [.slice ax n cx ex, .int .i64 0], h4) := r4
      replace r7 : callX E (alX k_purserlaw01_alive) (N + 100) (.fn k_octet_Pen_Bytes) [.ptr (some (h4.next + 1, 0)), .slice ax n cx ex] h6 = some (.int .i64 0, h7) := r7
      generalize b.length - u = d at *
      generalize b.length - (u + n) = d2 at *
      generalize b.length = m at *
      generalize u + n = z at *
      simp (config := {maxSteps := 2000000}) (disch := first | omega | rfl | (simp only [ofI_len, List.length_append, List.length_take, List.length_drop, List.length_cons, List.length_nil, List.length_replicate, List.length_set]; done) | (simp only [ofI_len, List.length_append, List.length_take, List.length_drop, List.length_cons, List.length_nil, List.length_replicate, List.length_set]; omega)) only [al, c1, r1, r2, r3, r4, e5, r6, r7, r10, s1, s2, s3, s4, st1, st2, st3, st4, c2n, c2u, svn, svu, wn, cm, ↓ns_b2s, b_seq, vbeq_str, ↓x_slcS, x_M0, x_M1, ↓s_len, x_lenS, ↓b_xor32, ↓b_and32, ↓b_or32, ↓u_not32, b_xor32, b_and32, b_or32, u_not32, w32ad, ↓x_conv, x_convV, ↓x_fieldAddr, x_fieldV, ↓s_nilchk, x_nilchk, Nat.zero_add, Nat.add_zero, Nat.mul_one, ↓s_evD, ↓s_dnil, ↓s_dL, ↓s_dLg, ↓s_dR, ↓s_dRg, ↓s_dRj, ↓s_dRjg, ↓s_dB, ↓s_dBg, ↓s_dAlloc, ↓s_bindD, s_bindD, s_finD, s_finDx, s_addP0, s_addP1, s_addB, s_lookP, ↓s_bump0, ↓s_bump_get, s_bump_next, s_ok0, ↓s_ok1, s_okR0, ↓s_okR1, ↓s_okE, s_okE, s_okE1, s_nth0, s_nthS, Nat.add_zero, Bool.and_self, Bool.and_true, Bool.true_and, ↓l_loop, ↓l_succ, ↓l_normal, l_normal, l_exit, l_ret, l_iteN, ↓h_put_get, ↓h_new_get, ↓h_del_get, h_next_put, h_next_new, h_next_del, Nat.add_assoc, Nat.add_eq_left, Nat.left_eq_add, Nat.add_left_cancel_iff, ↓s_load, m_load, ↓m_load1, m_load1, ↓m_st, m_stE, m_storeI, m_storeE, w_zero, w_succ, ↓s_alloc, ↓x_idxA, ↓x_idxS, x_idxAE, x_idxSE, x_addrE, x_idx, x_lenS, ↓s_len, ↓x_buildS, x_buildE, ↓x_P0, ↓x_P1, x_fill0, x_filli, x_fills, x_fillb, c_int, List.length_cons, List.length_nil, List.cons_append, List.drop_succ_cons, List.drop_zero, List.drop_nil, List.nil_append, Int.reduceAdd, Int.reduceToNat, Int.reduceLT, Int.reduceLE, Nat.reduceAdd, Nat.reduceMul, Nat.reduceLeDiff, Int.reduceEq, Int.reduceSub, Int.cast_ofNat_Int, s_resc, s_consR, m_load4, m_store4, s_res0, ↓s_skip, ↓s_ops, ↓s_dops, ↓s_seq, ↓s_cond, ↓s_block, ↓s_exit, ↓s_ret, ↓s_scope, ↓s_nil, ↓s_op, ↓s_opg, ↓s_wanted', ↓s_wantV, s_wantV, s_wantV0, beq_true, beq_false, ↓s_bindS, s_bindS, ↓s_bindE, s_bindE, s_bindE_ret, s_bindE_exit, s_bindE_iteN, s_norm, ↓s_condV, s_condV, s_block_ret, s_block_normal, s_block_exit, s_block_iteN, ↓s_getp, ↓s_getp0, ↓s_get, s_get0, ↓s_con, ↓s_fn, ↓s_os0, ↓s_os1, ↓s_list0, ↓s_list1, ↓s_mov, ↓s_pick, ↓s_pickE, s_pickE, ↓s_bin, ↓s_un, ↓s_minmax, ↓s_call, ↓s_callv, ↓s_callV, ↓s_ext, s_same, b_eql, b_neq, b_lss, b_leq, b_gtr, b_geq, b_add, b_sub, b_mul, b_eqlb, b_neqb, b_fnil, b_fnil', b_fnil2, b_fnil2', u_neg, u_not, m_two, s_end, s_end', s_end_iteN, s_res0, s_res1, s_tup1, s_tup2, ↓iteN_true, ↓iteN_false, iteN_true, iteN_false, Nat.zero_add, List.nil_append, List.append_nil, Nat.reduceEqDiff, reduceIte, decide_true, decide_false, Bool.not_true, Bool.not_false, List.getElem?_cons_zero, List.getElem?_cons_succ, Bool.false_eq_true, if_true, if_false, beq_self_eq_true]
      exact ⟨_, rfl⟩
end Go.Eng
