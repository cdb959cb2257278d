/- What functions of the program come to: own work. -/
import Derived.Test.YtglaaipaomnnmaaShE
import Derived.Test.YtglaaipaomnnmaaSkF
namespace Go.Eng
open Go
variable {E : Nat → Option Fn} {X : Orc}
set_option linter.unusedSimpArgs false
set_option linter.unusedVariables false
structure EnSign (E : Nat → Option Fn) : Prop where
  pub : E k_sign_Public = some f_sign_Public
  sign : E k_sign_Sign = some f_sign_Sign
  seal_ : E k_sign_seal = some f_sign_seal
  is_ : E k_sign_Is = some f_sign_Is
structure NoSign (X : Orc) : Prop where
  pub : ∀ a h, X (.fn k_sign_Public) a h = none
  sign : ∀ a h, X (.fn k_sign_Sign) a h = none
  seal_ : ∀ a h, X (.fn k_sign_seal) a h = none
  is_ : ∀ a h, X (.fn k_sign_Is) a h = none
theorem pub_go (e : EnSign E) (x : NoSign X) (hx : HasOf X) (N : Nat) (s : List Nat) (hs : s.length = 32) (h : H) : ∃ h', callX E X (N + 2) (.fn k_sign_Public) [.agg (ofI .u8 s)] h = some (.agg (ofI .u8 (shaV s)), h') ∧ Kp h h' := by
  rw [x_cfn e.pub _ _ (Nat.le_of_ble_eq_true rfl) (x.pub _ _)]
  have fo := fun i off n c h => x_ofQ (E := E) hx N i off n c h
  have lv := shaV_len s
  rw [← z32e]
  simp (config := {maxSteps := 2000000}) (disch := first | omega | rfl | (simp only [ofI_len, shaV_len, List.length_append, List.length_take, List.length_drop, List.length_cons, List.length_nil, List.length_replicate, List.length_set]; done) | (simp only [ofI_len, shaV_len, List.length_append, List.length_take, List.length_drop, List.length_cons, List.length_nil, List.length_replicate, List.length_set]; omega)) only [hs, ↓fo, ↓s_dBuildS, s_dbE, rdI, ofI_get, m_src, m_src0, srcI, ldI, ld1I, wrAll, wrI, wr1I, stI, st32, take_all, drop_all, List.take_zero, List.drop_zero, List.nil_append, List.append_nil, appF_of, appFI, appF0, appU_of, appUIw, appUIs, app0, appN, eq32, neq32, ↓s_append, ↓x_copy, ↓x_slcA, x_slcAE, slcB_nn, slcB_hi, slcB_lo, slcB_lh, slcV_nn, slcV_hiU, slcV_hiC, slcV_lo, slcV_loL, slcV_hiUL, slcV_hiCL, slcV_mxL, slcB_hiL, slcB_loL, subC_some, subC_none, ↓x_slcS, x_bnd0, x_M1, x_M0, x_lenA, ofQ_some, Nat.sub_zero, ofI_len, shaV_len, ↓s_box, c_agg, List.length_append, List.length_cons, List.length_nil, Nat.reduceLeDiff, Nat.reduceSub, List.length_replicate, ↓b_xor32, ↓b_and32, ↓b_or32, ↓u_not32, b_xor32, b_and32, b_or32, u_not32, w32ad, ↓x_conv, x_convV, ↓x_fieldAddr, x_fieldV, ↓s_nilchk, x_nilchk, Nat.zero_add, Nat.add_zero, Nat.mul_one, ↓l_loop, ↓l_succ, ↓l_normal, l_normal, l_exit, l_ret, l_iteN, ↓h_put_get, ↓h_new_get, ↓h_del_get, h_next_put, h_next_new, h_next_del, Nat.add_assoc, Nat.add_eq_left, Nat.left_eq_add, Nat.add_left_cancel_iff, ↓s_load, m_load, ↓m_load1, m_load1, ↓m_st, m_stE, m_storeI, m_storeE, ↓s_alloc, ↓x_idxA, ↓x_idxS, x_idxAE, x_idxSE, x_addrE, x_idx, x_lenS, ↓s_len, ↓x_buildS, x_buildE, ↓x_P0, ↓x_P1, x_fill0, x_filli, x_fills, x_fillb, c_int, List.length_cons, List.length_nil, List.cons_append, List.drop_succ_cons, List.drop_zero, List.drop_nil, List.nil_append, Int.reduceAdd, Int.reduceToNat, Int.reduceLT, Int.reduceLE, Nat.reduceAdd, Nat.reduceMul, Nat.reduceLeDiff, Int.reduceEq, Int.reduceSub, Int.cast_ofNat_Int, s_resc, s_consR, m_load4, m_store4, s_res0, ↓s_skip, ↓s_ops, ↓s_dops, ↓s_seq, ↓s_cond, ↓s_block, ↓s_exit, ↓s_ret, ↓s_scope, ↓s_nil, ↓s_op, ↓s_opg, ↓s_wanted', ↓s_wantV, s_wantV, s_wantV0, beq_true, beq_false, ↓s_bindS, s_bindS, ↓s_bindE, s_bindE, s_bindE_ret, s_bindE_exit, s_bindE_iteN, s_norm, ↓s_condV, s_condV, s_block_ret, s_block_normal, s_block_exit, s_block_iteN, ↓s_getp, ↓s_getp0, ↓s_get, s_get0, ↓s_con, ↓s_fn, ↓s_os0, ↓s_os1, ↓s_list0, ↓s_list1, ↓s_mov, ↓s_pick, ↓s_pickE, s_pickE, ↓s_bin, ↓s_un, ↓s_minmax, ↓s_call, ↓s_callv, ↓s_callV, ↓s_ext, s_same, b_eql, b_neq, b_lss, b_leq, b_gtr, b_geq, b_add, b_sub, b_mul, b_eqlb, b_neqb, b_fnil, b_fnil', b_fnil2, b_fnil2', u_neg, u_not, m_two, s_end, s_end', s_end_iteN, s_res0, s_res1, s_tup1, s_tup2, ↓iteN_true, ↓iteN_false, iteN_true, iteN_false, Nat.zero_add, List.nil_append, List.append_nil, Nat.reduceEqDiff, reduceIte, decide_true, decide_false, Bool.not_true, Bool.not_false, List.getElem?_cons_zero, List.getElem?_cons_succ, Bool.false_eq_true, if_true, if_false, beq_self_eq_true]
  exact ⟨_, rfl, by (repeat (first | exact Kp.refl _ | refine Kp.put ?_ _ (by first | omega | (simp only [h_next_put, h_next_new, h_next_del]; omega)) | refine Kp.del ?_ (by first | omega | (simp only [h_next_put, h_next_new, h_next_del]; omega)) | refine Kp.trans ?_ (Kp.new _ _)))⟩
theorem seal_go (e : EnSign E) (x : NoSign X) (hx : HasOf X) (N : Nat) (s d : List Nat) (hs : s.length = 32) (hd : d.length = 32) (h : H) (i off : Nat) (l : List Nat) (m : Md) (hi : i < h.next) (hg : h.get i = some (.cells (ofI .u8 l) m)) (ho : off + 32 ≤ l.length) (hl : (l.drop off).take 32 = s) :
    ∃ h', callX E X (N + 2) (.fn k_sign_seal) [.slice (some (i, off)) 32 (some 32) 1, .agg (ofI .u8 d)] h = some (.agg (ofI .u8 (shaV (s ++ d))), h') ∧ Kp h h' := by
  rw [x_cfn e.seal_ _ _ (Nat.le_of_ble_eq_true rfl) (x.seal_ _ _)]
  have fo := fun i off n c h => x_ofQ (E := E) hx N i off n c h
  have lv := shaV_len (s ++ d)
  rw [← z32e]
  have n1 : (h.next = i) = False := by simp; omega
  have n2 : (h.next + 1 = i) = False := by simp; omega
  simp (config := {maxSteps := 2000000}) (disch := first | omega | rfl | (simp only [ofI_len, shaV_len, List.length_append, List.length_take, List.length_drop, List.length_cons, List.length_nil, List.length_replicate, List.length_set]; done) | (simp only [ofI_len, shaV_len, List.length_append, List.length_take, List.length_drop, List.length_cons, List.length_nil, List.length_replicate, List.length_set]; omega)) only [hs, hd, hg, hl, n1, n2, ↓fo, ↓s_dBuildS, s_dbE, rdI, ofI_get, m_src, m_src0, srcI, ldI, ld1I, wrAll, wrI, wr1I, stI, st32, take_all, drop_all, List.take_zero, List.drop_zero, List.nil_append, List.append_nil, appF_of, appFI, appF0, appU_of, appUIw, appUIs, app0, appN, eq32, neq32, ↓s_append, ↓x_copy, ↓x_slcA, x_slcAE, slcB_nn, slcB_hi, slcB_lo, slcB_lh, slcV_nn, slcV_hiU, slcV_hiC, slcV_lo, slcV_loL, slcV_hiUL, slcV_hiCL, slcV_mxL, slcB_hiL, slcB_loL, subC_some, subC_none, ↓x_slcS, x_bnd0, x_M1, x_M0, x_lenA, ofQ_some, Nat.sub_zero, ofI_len, shaV_len, ↓s_box, c_agg, List.length_append, List.length_cons, List.length_nil, Nat.reduceLeDiff, Nat.reduceSub, List.length_replicate, ↓b_xor32, ↓b_and32, ↓b_or32, ↓u_not32, b_xor32, b_and32, b_or32, u_not32, w32ad, ↓x_conv, x_convV, ↓x_fieldAddr, x_fieldV, ↓s_nilchk, x_nilchk, Nat.zero_add, Nat.add_zero, Nat.mul_one, ↓l_loop, ↓l_succ, ↓l_normal, l_normal, l_exit, l_ret, l_iteN, ↓h_put_get, ↓h_new_get, ↓h_del_get, h_next_put, h_next_new, h_next_del, Nat.add_assoc, Nat.add_eq_left, Nat.left_eq_add, Nat.add_left_cancel_iff, ↓s_load, m_load, ↓m_load1, m_load1, ↓m_st, m_stE, m_storeI, m_storeE, ↓s_alloc, ↓x_idxA, ↓x_idxS, x_idxAE, x_idxSE, x_addrE, x_idx, x_lenS, ↓s_len, ↓x_buildS, x_buildE, ↓x_P0, ↓x_P1, x_fill0, x_filli, x_fills, x_fillb, c_int, List.length_cons, List.length_nil, List.cons_append, List.drop_succ_cons, List.drop_zero, List.drop_nil, List.nil_append, Int.reduceAdd, Int.reduceToNat, Int.reduceLT, Int.reduceLE, Nat.reduceAdd, Nat.reduceMul, Nat.reduceLeDiff, Int.reduceEq, Int.reduceSub, Int.cast_ofNat_Int, s_resc, s_consR, m_load4, m_store4, s_res0, ↓s_skip, ↓s_ops, ↓s_dops, ↓s_seq, ↓s_cond, ↓s_block, ↓s_exit, ↓s_ret, ↓s_scope, ↓s_nil, ↓s_op, ↓s_opg, ↓s_wanted', ↓s_wantV, s_wantV, s_wantV0, beq_true, beq_false, ↓s_bindS, s_bindS, ↓s_bindE, s_bindE, s_bindE_ret, s_bindE_exit, s_bindE_iteN, s_norm, ↓s_condV, s_condV, s_block_ret, s_block_normal, s_block_exit, s_block_iteN, ↓s_getp, ↓s_getp0, ↓s_get, s_get0, ↓s_con, ↓s_fn, ↓s_os0, ↓s_os1, ↓s_list0, ↓s_list1, ↓s_mov, ↓s_pick, ↓s_pickE, s_pickE, ↓s_bin, ↓s_un, ↓s_minmax, ↓s_call, ↓s_callv, ↓s_callV, ↓s_ext, s_same, b_eql, b_neq, b_lss, b_leq, b_gtr, b_geq, b_add, b_sub, b_mul, b_eqlb, b_neqb, b_fnil, b_fnil', b_fnil2, b_fnil2', u_neg, u_not, m_two, s_end, s_end', s_end_iteN, s_res0, s_res1, s_tup1, s_tup2, ↓iteN_true, ↓iteN_false, iteN_true, iteN_false, Nat.zero_add, List.nil_append, List.append_nil, Nat.reduceEqDiff, reduceIte, decide_true, decide_false, Bool.not_true, Bool.not_false, List.getElem?_cons_zero, List.getElem?_cons_succ, Bool.false_eq_true, if_true, if_false, beq_self_eq_true]
  exact ⟨_, rfl, by (repeat (first | exact Kp.refl _ | refine Kp.put ?_ _ (by first | omega | (simp only [h_next_put, h_next_new, h_next_del]; omega)) | refine Kp.del ?_ (by first | omega | (simp only [h_next_put, h_next_new, h_next_del]; omega)) | refine Kp.trans ?_ (Kp.new _ _)))⟩
/-- a signature's bytes -/
theorem sign_go (e : EnSign E) (x : NoSign X) (hx : HasOf X) (N : Nat) (s d : List Nat) (hs : s.length = 32) (hd : d.length = 32) (h : H) :
    ∃ h', callX E X (N + 4) (.fn k_sign_Sign) [.agg (ofI .u8 s), .agg (ofI .u8 d)] h = some (.slice (some (h.next + 2, 0)) 64 (some 64) 1, h') ∧ Kp h h' ∧ h.next + 3 ≤ h'.next ∧ h'.get (h.next + 2) = some (.cells (ofI .u8 (s ++ shaV (s ++ d))) .rw) := by
  rw [x_cfn e.sign _ _ (Nat.le_of_ble_eq_true rfl) (x.sign _ _)]
  have lv := shaV_len (s ++ d)
  have mk : ∀ h, mksE [.int .u8 0] 1 (.int .i64 64) (.int .i64 64) h = _ := fun h => mkslice_n h .u8 .i64 64 (by omega)
  have cp : ∀ (h : H) (i off c : Nat) (cc : Option Nat) (b : List Nat) (l : List Nat), b.length = 32 → 32 ≤ c → off + 32 ≤ l.length → h.get i = some (.cells (ofI .u8 l) .rw) → copyE 1 (.slice (some (i, off)) c cc 1) (some (32, ofI .u8 b)) h = some (.int .i64 32, h.put i (.cells (ofI .u8 (l.take off ++ b ++ l.drop (off + 32))) .rw)) := by
    intro h i off c cc b l hb hc ho hg
    have := copy_bytes h i off c cc b _ .rw rfl hg (by intro h; rw [h] at hb; cases hb) (by omega) (by rw [ofI_len, hb, Nat.min_eq_left hc]; exact ho)
    rw [hb, Nat.min_eq_left hc, take_all b 32 (by omega), wrI _ _ _ _ (by omega), hb] at this
    exact this
  obtain ⟨h1, e1⟩ : ∃ h1, (((h.new (.cells (ofI .u8 s) .rw)).new (.cells (ofI .u8 d) .rw)).new (.cells (ofI .u8 (List.replicate 64 0)) .rw)) = h1 := ⟨_, rfl⟩
  have n1 : h1.next = h.next + 3 := by rw [← e1]; rfl
  have g1 : h1.get (h.next + 2) = some (.cells (ofI .u8 (List.replicate 64 0)) .rw) := by rw [← e1]; exact h_new_same' _ _ rfl
  have g0 : h1.get h.next = some (.cells (ofI .u8 s) .rw) := by rw [← e1, h_new_ne _ _ (by simp only [h_next_new]; omega), h_new_ne _ _ (by simp only [h_next_new]; omega), h_new_same]
  have gd : h1.get (h.next + 1) = some (.cells (ofI .u8 d) .rw) := by rw [← e1, h_new_ne _ _ (by simp only [h_next_new]; omega)]; exact h_new_same' _ _ rfl
  have c1 := cp h1 (h.next + 2) 0 64 (some 64) s (List.replicate 64 0) hs (by omega) (by simp) g1
  have z1 : (List.replicate 64 0).take 0 ++ s ++ (List.replicate 64 0).drop (0 + 32) = s ++ List.replicate 32 0 := by simp
  rw [z1] at c1
  obtain ⟨h2, e2⟩ : ∃ h2, h1.put (h.next + 2) (.cells (ofI .u8 (s ++ List.replicate 32 0)) .rw) = h2 := ⟨_, rfl⟩
  rw [e2] at c1
  have n2 : h2.next = h.next + 3 := by rw [← e2]; exact n1
  have g20 : h2.get h.next = some (.cells (ofI .u8 s) .rw) := by rw [← e2, h_put_ne _ _ (by omega), g0]
  have g2d : h2.get (h.next + 1) = some (.cells (ofI .u8 d) .rw) := by rw [← e2, h_put_ne _ _ (by omega), gd]
  have g22 : h2.get (h.next + 2) = some (.cells (ofI .u8 (s ++ List.replicate 32 0)) .rw) := by rw [← e2, h_put_same]
  obtain ⟨h3, e3⟩ : ∃ h3, bump 1 h2 = h3 := ⟨_, rfl⟩
  have n3 : h3.next = h.next + 4 := by rw [← e3, s_bump_next, n2]
  have b3 : ∀ i, h3.get i = h2.get i := fun i => by rw [← e3]; rfl
  have g30 := (b3 h.next).trans g20
  have g3d := (b3 (h.next + 1)).trans g2d
  obtain ⟨h4, r4, k4⟩ := seal_go e x hx (N + 1) s d hs hd h3 h.next 0 s .rw (by omega) (by rw [b3, g20]) (by omega) (by rw [List.drop_zero, take_all _ _ (by omega)])
  have g4 : ∀ i, i < h.next + 3 → h4.get i = h2.get i := fun i hi => by rw [k4.2 _ (by omega), b3]
  have n4 : h.next + 4 ≤ h4.next := by rw [← n3]; exact k4.1
  have g40 := (g4 h.next (by omega)).trans g20
  have g4d := (g4 (h.next + 1) (by omega)).trans g2d
  have g42 := (g4 (h.next + 2) (by omega)).trans g22
  obtain ⟨h5, e5⟩ : ∃ h5, (h4.put (h.next + 3) (.cells (ofI .u8 (List.replicate 32 0)) .rw)).put (h.next + 3) (.cells (ofI .u8 (shaV (s ++ d))) .rw) = h5 := ⟨_, rfl⟩
  have g52 : h5.get (h.next + 2) = some (.cells (ofI .u8 (s ++ List.replicate 32 0)) .rw) := by rw [← e5, h_put_ne _ _ (by omega), h_put_ne _ _ (by omega), g42]
  have g53 : h5.get (h.next + 3) = some (.cells (ofI .u8 (shaV (s ++ d))) .rw) := by rw [← e5, h_put_same]
  have c5 := cp h5 (h.next + 2) 32 32 (some 32) (shaV (s ++ d)) (s ++ List.replicate 32 0) lv (by omega) (by simp [hs]) g52
  have z5 : (s ++ List.replicate 32 0).take 32 ++ shaV (s ++ d) ++ (s ++ List.replicate 32 0).drop (32 + 32) = s ++ shaV (s ++ d) := by
    rw [List.take_left' hs, drop_all _ _ (by simp [hs]), List.append_nil]
  rw [z5] at c5
  rw [← z32e]
  simp (config := {maxSteps := 2000000}) (disch := first | omega | rfl | (simp only [ofI_len, shaV_len, List.length_append, List.length_take, List.length_drop, List.length_cons, List.length_nil, List.length_replicate, List.length_set]; done) | (simp only [ofI_len, shaV_len, List.length_append, List.length_take, List.length_drop, List.length_cons, List.length_nil, List.length_replicate, List.length_set]; omega)) only [hs, hd, e1, n1, g0, g1, gd, c1, e2, n2, g20, g2d, g22, e3, n3, g30, g3d, r4, g40, g4d, g42, e5, g52, g53, c5, lv, ↓x_mkslice, mk, ↓s_dBuildS, s_dbE, rdI, ofI_get, m_src, m_src0, srcI, ldI, ld1I, wrAll, wrI, wr1I, stI, st32, take_all, drop_all, List.take_zero, List.drop_zero, List.nil_append, List.append_nil, appF_of, appFI, appF0, appU_of, appUIw, appUIs, app0, appN, eq32, neq32, ↓s_append, ↓x_copy, ↓x_slcA, x_slcAE, slcB_nn, slcB_hi, slcB_lo, slcB_lh, slcV_nn, slcV_hiU, slcV_hiC, slcV_lo, slcV_loL, slcV_hiUL, slcV_hiCL, slcV_mxL, slcB_hiL, slcB_loL, subC_some, subC_none, ↓x_slcS, x_bnd0, x_M1, x_M0, x_lenA, ofQ_some, Nat.sub_zero, ofI_len, shaV_len, ↓s_box, c_agg, List.length_append, List.length_cons, List.length_nil, Nat.reduceLeDiff, Nat.reduceSub, List.length_replicate, ↓b_xor32, ↓b_and32, ↓b_or32, ↓u_not32, b_xor32, b_and32, b_or32, u_not32, w32ad, ↓x_conv, x_convV, ↓x_fieldAddr, x_fieldV, ↓s_nilchk, x_nilchk, Nat.zero_add, Nat.add_zero, Nat.mul_one, ↓s_evD, ↓s_dnil, ↓s_dL, ↓s_dLg, ↓s_dR, ↓s_dRg, ↓s_dRj, ↓s_dRjg, ↓s_dB, ↓s_dBg, ↓s_dAlloc, ↓s_bindD, s_bindD, s_finD, s_finDx, s_addP0, s_addP1, s_addB, s_lookP, ↓s_bump0, ↓s_bump_get, s_bump_next, s_ok0, ↓s_ok1, s_okR0, ↓s_okR1, ↓s_okE, s_okE, s_okE1, s_nth0, s_nthS, Nat.add_zero, Bool.and_self, Bool.and_true, Bool.true_and, ↓l_loop, ↓l_succ, ↓l_normal, l_normal, l_exit, l_ret, l_iteN, ↓h_put_get, ↓h_new_get, ↓h_del_get, h_next_put, h_next_new, h_next_del, Nat.add_assoc, Nat.add_eq_left, Nat.left_eq_add, Nat.add_left_cancel_iff, ↓s_load, m_load, ↓m_load1, m_load1, ↓m_st, m_stE, m_storeI, m_storeE, ↓s_alloc, ↓x_idxA, ↓x_idxS, x_idxAE, x_idxSE, x_addrE, x_idx, x_lenS, ↓s_len, ↓x_buildS, x_buildE, ↓x_P0, ↓x_P1, x_fill0, x_filli, x_fills, x_fillb, c_int, List.length_cons, List.length_nil, List.cons_append, List.drop_succ_cons, List.drop_zero, List.drop_nil, List.nil_append, Int.reduceAdd, Int.reduceToNat, Int.reduceLT, Int.reduceLE, Nat.reduceAdd, Nat.reduceMul, Nat.reduceLeDiff, Int.reduceEq, Int.reduceSub, Int.cast_ofNat_Int, s_resc, s_consR, m_load4, m_store4, s_res0, ↓s_skip, ↓s_ops, ↓s_dops, ↓s_seq, ↓s_cond, ↓s_block, ↓s_exit, ↓s_ret, ↓s_scope, ↓s_nil, ↓s_op, ↓s_opg, ↓s_wanted', ↓s_wantV, s_wantV, s_wantV0, beq_true, beq_false, ↓s_bindS, s_bindS, ↓s_bindE, s_bindE, s_bindE_ret, s_bindE_exit, s_bindE_iteN, s_norm, ↓s_condV, s_condV, s_block_ret, s_block_normal, s_block_exit, s_block_iteN, ↓s_getp, ↓s_getp0, ↓s_get, s_get0, ↓s_con, ↓s_fn, ↓s_os0, ↓s_os1, ↓s_list0, ↓s_list1, ↓s_mov, ↓s_pick, ↓s_pickE, s_pickE, ↓s_bin, ↓s_un, ↓s_minmax, ↓s_call, ↓s_callv, ↓s_callV, ↓s_ext, s_same, b_eql, b_neq, b_lss, b_leq, b_gtr, b_geq, b_add, b_sub, b_mul, b_eqlb, b_neqb, b_fnil, b_fnil', b_fnil2, b_fnil2', u_neg, u_not, m_two, s_end, s_end', s_end_iteN, s_res0, s_res1, s_tup1, s_tup2, ↓iteN_true, ↓iteN_false, iteN_true, iteN_false, Nat.zero_add, List.nil_append, List.append_nil, Nat.reduceEqDiff, reduceIte, decide_true, decide_false, Bool.not_true, Bool.not_false, List.getElem?_cons_zero, List.getElem?_cons_succ, Bool.false_eq_true, if_true, if_false, beq_self_eq_true]
  have k05 : Kp h h5 := by
    refine ⟨by rw [← e5]; simp only [h_next_put]; omega, fun i hi => ?_⟩
    rw [← e5, h_put_ne _ _ (by omega), h_put_ne _ _ (by omega), g4 i (by omega), ← e2, h_put_ne _ _ (by omega), ← e1, h_new_ne _ _ (by simp only [h_next_new]; omega), h_new_ne _ _ (by simp only [h_next_new]; omega), h_new_ne _ _ (by omega)]
  exact ⟨_, rfl, k05.put _ (by omega), by rw [h_next_put, ← e5]; simp only [h_next_put]; omega, h_put_same _ _ _⟩
theorem is_go (e : EnSign E) (x : NoSign X) (hx : HasOf X) (N : Nat) (i oi j oj : Nat) (li lj p g d : List Nat) (mi mj : Md) (cp cs : Option Nat) (h : H) (hi : i < h.next) (hj : j < h.next) (gi : h.get i = some (.cells (ofI .u8 li) mi)) (gj : h.get j = some (.cells (ofI .u8 lj) mj))
    (li1 : oi + 32 ≤ li.length) (lj1 : oj + 64 ≤ lj.length) (ei : (li.drop oi).take 32 = p) (ej : (lj.drop oj).take 64 = g) (hd : d.length = 32) (hcs : 64 ≤ cs.getD 64) :
    ∃ h', callX E X (N + 4) (.fn k_sign_Is) [.slice (some (i, oi)) 32 cp 1, .slice (some (j, oj)) 64 cs 1, .agg (ofI .u8 d)] h = some (.bool (decide (shaV (g.take 32) = p) && decide (shaV (g.take 32 ++ d) = g.drop 32)), h') ∧ Kp h h' := by
  rw [x_cfn e.is_ _ _ (Nat.le_of_ble_eq_true rfl) (x.is_ _ _)]
  have hg : g.length = 64 := by rw [← ej, List.length_take, List.length_drop]; omega
  have hp : p.length = 32 := by rw [← ei, List.length_take, List.length_drop]; omega
  have fo := fun i off n c h => x_ofQ (E := E) hx (N + 2) i off n c h
  obtain ⟨h1, e1⟩ : ∃ h1, h.new (.cells (ofI .u8 d) .rw) = h1 := ⟨_, rfl⟩
  have n1 : h1.next = h.next + 1 := by rw [← e1]; rfl
  have gd : h1.get h.next = some (.cells (ofI .u8 d) .rw) := by rw [← e1, h_new_same]
  have g1i : h1.get i = some (.cells (ofI .u8 li) mi) := by rw [← e1, h_new_ne _ _ (by omega), gi]
  have g1j : h1.get j = some (.cells (ofI .u8 lj) mj) := by rw [← e1, h_new_ne _ _ (by omega), gj]
  have t32 : (lj.drop oj).take 32 = g.take 32 := by rw [← ej, List.take_take, Nat.min_eq_left (by omega)]
  have d32 : (lj.drop (oj + 32)).take 32 = g.drop 32 := by rw [← ej, List.drop_take, List.drop_drop]
  have lt : (g.take 32).length = 32 := by rw [List.length_take]; omega
  have ld : (g.drop 32).length = 32 := by rw [List.length_drop]; omega
  have rd1 : rdC 32 oj (some (.cells (ofI .u8 lj) mj)) = some (g.take 32) := by rw [rdI _ _ _ _ (by omega), t32]
  have ld1 : loadE (some (.cells (ofI .u8 li) mi)) (some 32) oi = some (.agg (ofI .u8 p)) := by rw [ldI _ _ _ _ _ (by omega), ei]
  have ld2 : loadE (some (.cells (ofI .u8 lj) mj)) (some 32) (oj + 32) = some (.agg (ofI .u8 (g.drop 32))) := by rw [ldI _ _ _ _ _ (by omega), d32]
  have ld3 : loadE (some (.cells (ofI .u8 d) .rw)) (some 32) 0 = some (.agg (ofI .u8 d)) := by rw [ldI _ _ _ _ _ (by omega), List.drop_zero, take_all _ _ (by omega)]
  obtain ⟨h2, r2, k2⟩ := seal_go e x hx (N + 1) (g.take 32) d lt hd h1 j oj lj mj (by omega) g1j (by omega) t32
  have g2j : h2.get j = some (.cells (ofI .u8 lj) mj) := by rw [k2.2 _ (by omega), g1j]
  have k12 : Kp h h2 := (by rw [← e1]; exact Kp.new _ _ : Kp h h1).trans k2
  have k1 : Kp h h1 := by rw [← e1]; exact Kp.new _ _
  have c32 : decide ((32 : Int) = 32) = true := rfl
  have c64 : decide ((64 : Int) = 64) = true := rfl
  have mx : slcV 1 none (some (.int .i64 32)) (some (.int .i64 32)) (.slice (some (j, oj)) 64 cs 1) = some (.slice (some (j, oj)) 32 (some 32) 1) := slcV_mxL 64 32 32 cs j oj .i64 .i64 (Nat.le_refl _) (by show 32 ≤ cs.getD 64; omega)
  have lo : slcV 1 (some (.int .i64 32)) none none (.slice (some (j, oj)) 64 cs 1) = some (.slice (some (j, oj + 32)) 32 (subC cs 32) 1) := slcV_loL 64 32 cs j oj .i64 (by show 32 ≤ 64; omega)
  have s1 : s2aV 32 (.slice (some (i, oi)) 32 cp 1) = some (.ptr (some (i, oi))) := s2a_of 31 _ _ _ _ (by omega)
  have s2 : s2aV 32 (.slice (some (j, oj + 32)) 32 (subC cs 32) 1) = some (.ptr (some (j, oj + 32))) := s2a_of 31 _ _ _ _ (by omega)
  obtain ⟨a, ea⟩ : ∃ a, g.take 32 = a := ⟨_, rfl⟩
  obtain ⟨b, eb⟩ : ∃ b, g.drop 32 = b := ⟨_, rfl⟩
  rw [ea, eb]
  rw [ea] at lt rd1 r2
  rw [eb] at ld ld2
  have q1 : ∀ h, binV .eql (.flat [.i, .i, .i, .i, .i, .i, .i, .i, .i, .i, .i, .i, .i, .i, .i, .i, .i, .i, .i, .i, .i, .i, .i, .i, .i, .i, .i, .i, .i, .i, .i, .i]) h (.agg (ofI .u8 (shaV a))) (.agg (ofI .u8 p)) = some (.bool (decide (shaV a = p))) := fun h => eq32 h _ _ (shaV_len _) hp
  have q2 : ∀ h, binV .eql (.flat [.i, .i, .i, .i, .i, .i, .i, .i, .i, .i, .i, .i, .i, .i, .i, .i, .i, .i, .i, .i, .i, .i, .i, .i, .i, .i, .i, .i, .i, .i, .i, .i]) h (.agg (ofI .u8 (shaV (a ++ d)))) (.agg (ofI .u8 b)) = some (.bool (decide (shaV (a ++ d) = b))) := fun h => eq32 h _ _ (shaV_len _) ld
  obtain ⟨w1, ew1⟩ : ∃ w, decide (shaV a = p) = w := ⟨_, rfl⟩
  rw [ew1] at q1 ⊢
  cases w1 with
  | false =>
    simp (config := {maxSteps := 2000000}) (disch := first | omega | rfl | (simp only [ofI_len, shaV_len, List.length_append, List.length_take, List.length_drop, List.length_cons, List.length_nil, List.length_replicate, List.length_set]; done) | (simp only [ofI_len, shaV_len, List.length_append, List.length_take, List.length_drop, List.length_cons, List.length_nil, List.length_replicate, List.length_set]; omega)) only [e1, n1, gd, g1i, g1j, rd1, ld1, ld2, ld3, fo, r2, g2j, c32, c64, mx, lo, s1, s2, q1, q2, ↓x_s2a, vbeq_I, ofQ_some, lt, ↓b_xor32, ↓b_and32, ↓b_or32, ↓u_not32, b_xor32, b_and32, b_or32, u_not32, w32ad, ↓x_conv, x_convV, ↓x_fieldAddr, x_fieldV, ↓s_nilchk, x_nilchk, Nat.zero_add, Nat.add_zero, Nat.mul_one, ↓s_evD, ↓s_dnil, ↓s_dL, ↓s_dLg, ↓s_dR, ↓s_dRg, ↓s_dRj, ↓s_dRjg, ↓s_dB, ↓s_dBg, ↓s_dAlloc, ↓s_bindD, s_bindD, s_finD, s_finDx, s_addP0, s_addP1, s_addB, s_lookP, ↓s_bump0, ↓s_bump_get, s_bump_next, s_ok0, ↓s_ok1, s_okR0, ↓s_okR1, ↓s_okE, s_okE, s_okE1, s_nth0, s_nthS, Nat.add_zero, Bool.and_self, Bool.and_true, Bool.true_and, ↓l_loop, ↓l_succ, ↓l_normal, l_normal, l_exit, l_ret, l_iteN, ↓h_put_get, ↓h_new_get, ↓h_del_get, h_next_put, h_next_new, h_next_del, Nat.add_assoc, Nat.add_eq_left, Nat.left_eq_add, Nat.add_left_cancel_iff, ↓s_load, m_load, ↓m_load1, m_load1, ↓m_st, m_stE, m_storeI, m_storeE, ↓s_alloc, ↓x_idxA, ↓x_idxS, x_idxAE, x_idxSE, x_addrE, x_idx, x_lenS, ↓s_len, ↓x_buildS, x_buildE, ↓x_P0, ↓x_P1, x_fill0, x_filli, x_fills, x_fillb, c_int, List.length_cons, List.length_nil, List.cons_append, List.drop_succ_cons, List.drop_zero, List.drop_nil, List.nil_append, Int.reduceAdd, Int.reduceToNat, Int.reduceLT, Int.reduceLE, Nat.reduceAdd, Nat.reduceMul, Nat.reduceLeDiff, Int.reduceEq, Int.reduceSub, Int.cast_ofNat_Int, s_resc, s_consR, m_load4, m_store4, s_res0, ↓s_skip, ↓s_ops, ↓s_dops, ↓s_seq, ↓s_cond, ↓s_block, ↓s_exit, ↓s_ret, ↓s_scope, ↓s_nil, ↓s_op, ↓s_opg, ↓s_wanted', ↓s_wantV, s_wantV, s_wantV0, beq_true, beq_false, ↓s_bindS, s_bindS, ↓s_bindE, s_bindE, s_bindE_ret, s_bindE_exit, s_bindE_iteN, s_norm, ↓s_condV, s_condV, s_block_ret, s_block_normal, s_block_exit, s_block_iteN, ↓s_getp, ↓s_getp0, ↓s_get, s_get0, ↓s_con, ↓s_fn, ↓s_os0, ↓s_os1, ↓s_list0, ↓s_list1, ↓s_mov, ↓s_pick, ↓s_pickE, s_pickE, ↓s_bin, ↓s_un, ↓s_minmax, ↓s_call, ↓s_callv, ↓s_callV, ↓s_ext, s_same, b_eql, b_neq, b_lss, b_leq, b_gtr, b_geq, b_add, b_sub, b_mul, b_eqlb, b_neqb, b_fnil, b_fnil', b_fnil2, b_fnil2', u_neg, u_not, m_two, s_end, s_end', s_end_iteN, s_res0, s_res1, s_tup1, s_tup2, ↓iteN_true, ↓iteN_false, iteN_true, iteN_false, Nat.zero_add, List.nil_append, List.append_nil, Nat.reduceEqDiff, reduceIte, decide_true, decide_false, Bool.not_true, Bool.not_false, List.getElem?_cons_zero, List.getElem?_cons_succ, Bool.false_eq_true, if_true, if_false, beq_self_eq_true, ↓s_box, c_agg, ↓x_slcS, x_M1, x_M0, Bool.false_and, Bool.true_and]
    exact ⟨_, rfl, k1⟩
  | true =>
    simp (config := {maxSteps := 2000000}) (disch := first | omega | rfl | (simp only [ofI_len, shaV_len, List.length_append, List.length_take, List.length_drop, List.length_cons, List.length_nil, List.length_replicate, List.length_set]; done) | (simp only [ofI_len, shaV_len, List.length_append, List.length_take, List.length_drop, List.length_cons, List.length_nil, List.length_replicate, List.length_set]; omega)) only [e1, n1, gd, g1i, g1j, rd1, ld1, ld2, ld3, fo, r2, g2j, c32, c64, mx, lo, s1, s2, q1, q2, ↓x_s2a, vbeq_I, ofQ_some, lt, ↓b_xor32, ↓b_and32, ↓b_or32, ↓u_not32, b_xor32, b_and32, b_or32, u_not32, w32ad, ↓x_conv, x_convV, ↓x_fieldAddr, x_fieldV, ↓s_nilchk, x_nilchk, Nat.zero_add, Nat.add_zero, Nat.mul_one, ↓s_evD, ↓s_dnil, ↓s_dL, ↓s_dLg, ↓s_dR, ↓s_dRg, ↓s_dRj, ↓s_dRjg, ↓s_dB, ↓s_dBg, ↓s_dAlloc, ↓s_bindD, s_bindD, s_finD, s_finDx, s_addP0, s_addP1, s_addB, s_lookP, ↓s_bump0, ↓s_bump_get, s_bump_next, s_ok0, ↓s_ok1, s_okR0, ↓s_okR1, ↓s_okE, s_okE, s_okE1, s_nth0, s_nthS, Nat.add_zero, Bool.and_self, Bool.and_true, Bool.true_and, ↓l_loop, ↓l_succ, ↓l_normal, l_normal, l_exit, l_ret, l_iteN, ↓h_put_get, ↓h_new_get, ↓h_del_get, h_next_put, h_next_new, h_next_del, Nat.add_assoc, Nat.add_eq_left, Nat.left_eq_add, Nat.add_left_cancel_iff, ↓s_load, m_load, ↓m_load1, m_load1, ↓m_st, m_stE, m_storeI, m_storeE, ↓s_alloc, ↓x_idxA, ↓x_idxS, x_idxAE, x_idxSE, x_addrE, x_idx, x_lenS, ↓s_len, ↓x_buildS, x_buildE, ↓x_P0, ↓x_P1, x_fill0, x_filli, x_fills, x_fillb, c_int, List.length_cons, List.length_nil, List.cons_append, List.drop_succ_cons, List.drop_zero, List.drop_nil, List.nil_append, Int.reduceAdd, Int.reduceToNat, Int.reduceLT, Int.reduceLE, Nat.reduceAdd, Nat.reduceMul, Nat.reduceLeDiff, Int.reduceEq, Int.reduceSub, Int.cast_ofNat_Int, s_resc, s_consR, m_load4, m_store4, s_res0, ↓s_skip, ↓s_ops, ↓s_dops, ↓s_seq, ↓s_cond, ↓s_block, ↓s_exit, ↓s_ret, ↓s_scope, ↓s_nil, ↓s_op, ↓s_opg, ↓s_wanted', ↓s_wantV, s_wantV, s_wantV0, beq_true, beq_false, ↓s_bindS, s_bindS, ↓s_bindE, s_bindE, s_bindE_ret, s_bindE_exit, s_bindE_iteN, s_norm, ↓s_condV, s_condV, s_block_ret, s_block_normal, s_block_exit, s_block_iteN, ↓s_getp, ↓s_getp0, ↓s_get, s_get0, ↓s_con, ↓s_fn, ↓s_os0, ↓s_os1, ↓s_list0, ↓s_list1, ↓s_mov, ↓s_pick, ↓s_pickE, s_pickE, ↓s_bin, ↓s_un, ↓s_minmax, ↓s_call, ↓s_callv, ↓s_callV, ↓s_ext, s_same, b_eql, b_neq, b_lss, b_leq, b_gtr, b_geq, b_add, b_sub, b_mul, b_eqlb, b_neqb, b_fnil, b_fnil', b_fnil2, b_fnil2', u_neg, u_not, m_two, s_end, s_end', s_end_iteN, s_res0, s_res1, s_tup1, s_tup2, ↓iteN_true, ↓iteN_false, iteN_true, iteN_false, Nat.zero_add, List.nil_append, List.append_nil, Nat.reduceEqDiff, reduceIte, decide_true, decide_false, Bool.not_true, Bool.not_false, List.getElem?_cons_zero, List.getElem?_cons_succ, Bool.false_eq_true, if_true, if_false, beq_self_eq_true, ↓s_box, c_agg, ↓x_slcS, x_M1, x_M0, Bool.false_and, Bool.true_and]
    exact ⟨_, rfl, k12⟩
end Go.Eng
namespace Go.Eng
open Go
variable {E : Nat → Option Fn} {X : Orc}
set_option linter.unusedSimpArgs false
set_option linter.unusedVariables false
/-! sign.Public -/
def pubS : List V → Option V
  | [.agg cs] => match unB cs with
    | some l => match is32 l with
      | true => some (.agg (ofI .u8 (shaV l)))
      | false => none
    | none => none
  | _ => none
theorem ofX1_sign : NoSign ofX1 := ⟨fun _ _ => rfl, fun _ _ => rfl, fun _ _ => rfl, fun _ _ => rfl⟩
theorem pubX_ok {P : Program} {g : Gn} (hE : Link P g E) (e : EnSign E) (hO : QOk P g ofX1) : QOk P g (pureX k_sign_Public pubS) := by
  refine pureX_ok (callX_ok hE hO (0 + 2)) ?_
  intro args v hs
  unfold pubS at hs
  split at hs
  · rename_i cs
    split at hs
    · rename_i l hl
      have hcs := unB_I hl
      subst hcs
      split at hs
      · rename_i hi
        cases hs
        have h32 := is32_iff.1 hi
        obtain ⟨h', r, _⟩ := pub_go e ofX1_sign ofX1_has 0 l h32 H.empty
        exact ⟨by simp only [datas, dataV, datas_ofI, Bool.and_self], by simp only [dataV, datas_ofI], h', r⟩
      · cases hs
    · cases hs
  · cases hs
/-! sign.Is -/
def isV (p g d : List Nat) : Bool := decide (shaV (g.take 32) = p) && decide (shaV (g.take 32 ++ d) = g.drop 32)
noncomputable def isR (cs : Option Nat) (p g d : Option (List Nat)) : Option V := match p with
  | some p => match g with
    | some g => match d with
      | some d => match is32 d && Nat.ble 64 (cs.getD 64) with
        | true => some (.bool (isV p g d))
        | false => none
      | none => none
    | none => none
  | none => none
@[congr] theorem isR_congr {cs : Option Nat} {p p' g g' d d' : Option (List Nat)} (e1 : p = p') (e2 : g = g') (e3 : d = d') : isR cs p g d = isR cs p' g' d' := by rw [e1, e2, e3]
noncomputable def isX : Orc := fun t args h => match t with
  | .fn f => match Nat.beq f k_sign_Is with
    | true => (match args with
      | [.slice (some (i, oi)) 32 cp 1, .slice (some (j, oj)) 64 cs 1, .agg dc] => same h (isR cs (rdC 32 oi (h.get i)) (rdC 64 oj (h.get j)) (unB dc))
      | _ => none)
    | false => none
  | .yld _ => none
theorem isX_ok {P : Program} {g : Gn} (hE : Link P g E) (e : EnSign E) (hO : QOk P g ofX1) : QOk P g isX := by
  intro t args h v h1 hc
  unfold isX at hc
  split at hc
  · rename_i f
    split at hc
    · rename_i hb
      obtain rfl := Nat.eq_of_beq_eq_true hb
      split at hc
      · rename_i i oi cp j oj cs dc
        unfold isR at hc
        split at hc
        · rename_i p hp
          split at hc
          · rename_i g' hg
            split at hc
            · rename_i d hd
              split at hc
              · rename_i hcond
                simp only [Bool.and_eq_true] at hcond
                cases hc
                have hdc := unB_I hd
                subst hdc
                have h32 := is32_iff.1 hcond.1
                obtain ⟨q1, l1⟩ := hit_rd cp hp
                obtain ⟨q2, l2⟩ := hit_rd cs hg
                have hcs : 64 ≤ cs.getD 64 := Nat.le_of_ble_eq_true hcond.2
                obtain ⟨h', r, _⟩ := is_go e ofX1_sign ofX1_has 0 0 0 1 0 p g' p g' d .ro .ro cp cs (mkH [(0, ofI .u8 p), (1, ofI .u8 g')] 3) (by show 0 < 3; omega) (by show 1 < 3; omega) rfl rfl (by omega) (by omega) (by rw [List.drop_zero, take_all _ _ (by omega)]) (by rw [List.drop_zero, take_all _ _ (by omega)]) h32 hcs
                have := kn_ok (P := P) (g := g) (callX_ok hE hO (0 + 4)) (f := k_sign_Is) (ps := [.s (ofI .u8 p) 32 1 cp, .s (ofI .u8 g') 64 1 cs, .d (.agg (ofI .u8 d))]) (v := .bool (isV p g' d)) (h1 := h')
                  (by simp only [okPs, okP_I p 31 cp l1, okP_I g' 63 cs l2, okP_agg, Bool.and_self]) rfl r
                exact this _ h (by simp only [hitPs, q1, q2, hit_agg, Bool.and_self])
              · cases hc
            · cases hc
          · cases hc
        · cases hc
      · cases hc
    · cases hc
  · cases hc
/-! sign.Sign -/
noncomputable def signX : Orc := fun t args h => match t with
  | .fn f => match Nat.beq f k_sign_Sign with
    | true => (match args with
      | [.agg sc, .agg dc] => match unB sc, unB dc with
        | some s, some d => match is32 s && is32 d with
          | true => some (.slice (some (h.next, 0)) 64 none 1, h.new (.cells (ofI .u8 (s ++ shaV (s ++ d))) .sh))
          | false => none
        | _, _ => none
      | _ => none)
    | false => none
  | .yld _ => none
theorem signX_ok {P : Program} {g : Gn} (hE : Link P g E) (e : EnSign E) (hO : QOk P g ofX1) : QOk P g signX := by
  intro t args h v h1 hc
  unfold signX at hc
  split at hc
  · rename_i f
    split at hc
    · rename_i hb
      obtain rfl := Nat.eq_of_beq_eq_true hb
      split at hc
      · rename_i sc dc
        split at hc
        · rename_i s d hs hd
          split at hc
          · rename_i hcond
            simp only [Bool.and_eq_true] at hcond
            cases hc
            have e1 := unB_I hs
            have e2 := unB_I hd
            subst e1; subst e2
            have h1 := is32_iff.1 hcond.1
            have h2 := is32_iff.1 hcond.2
            obtain ⟨h', r, _, _, hg⟩ := sign_go e ofX1_sign ofX1_has 0 s d h1 h2 (mkH [] 2)
            have l64 : (ofI .u8 (s ++ shaV (s ++ d))).length = 64 := by rw [ofI_len, List.length_append, h1, shaV_len]
            have := knew_ok (P := P) (g := g) (callX_ok hE hO (0 + 4)) (f := k_sign_Sign) (ps := [.d (.agg (ofI .u8 s)), .d (.agg (ofI .u8 d))]) (c := ofI .u8 (s ++ shaV (s ++ d))) (e := none) (p := 2 + 2) (md := .rw) (cap := some 64) (h2 := h')
              (by simp only [okPs, okP_agg, Bool.and_self]) (datas_ofI _ _) rfl (by intro h; rw [h] at l64; cases l64) (by rw [l64]; exact r) rfl hg
            rw [l64] at this
            exact this _ h (by simp only [hitPs, hit_agg, Bool.and_self])
          · cases hc
        · cases hc
      · cases hc
    · cases hc
  · cases hc
end Go.Eng
namespace Go.Eng
open Go
variable {E : Nat → Option Fn} {X : Orc}
set_option linter.unusedSimpArgs false
set_option linter.unusedVariables false
/-- what the laws of sign know beforehand -/
noncomputable def sgX (k : Nat) : Orc := orX ofX1 (orX (pureX k_sign_Public pubS) (orX signX (orX isX (pureX k aliveS))))
theorem sgX_ok {P : Program} {g : Gn} {k N : Nat} (hE : Link P g E) (e : EnSha E) (e1 : E k_sha_Of = some f_sha_Of) (es : EnSign E) (h : isTrue (callX E (bytesX k_sha_Of ofF) N (.fn k) [] H.empty) = true) : QOk P g (sgX k) := by
  have hO : QOk P g ofX1 := ofX_ok hE e e1
  rw [ofX1_eq] at h
  exact orX_ok hO (orX_ok (pubX_ok hE es hO) (orX_ok (signX_ok hE es hO) (orX_ok (isX_ok hE es hO) (aliveX_ok hE hO h))))
theorem unB_ofI (l : List Nat) : unB (ofI .u8 l) = some l := unI l
theorem sg_has (k : Nat) : HasOf (sgX k) := fun x h l v e q => orX_l (ofX1_has x h l v e q)
theorem r_pub (k N : Nat) (s : List Nat) (h : H) (hs : s.length = 32) : callX E (sgX k) (N + 1) (.fn k_sign_Public) [.agg (ofI .u8 s)] h = some (.agg (ofI .u8 (shaV s)), h) := by
  refine x_known ((orX_r rfl).trans (orX_l (pureX_yes h ?_)))
  unfold pubS
  simp only [unI, is32_of hs]
theorem r_sign (k N : Nat) (s d : List Nat) (h : H) (hs : s.length = 32) (hd : d.length = 32) : callX E (sgX k) (N + 1) (.fn k_sign_Sign) [.agg (ofI .u8 s), .agg (ofI .u8 d)] h = some (.slice (some (h.next, 0)) 64 none 1, h.new (.cells (ofI .u8 (s ++ shaV (s ++ d))) .sh)) := by
  refine x_known ((orX_r rfl).trans ((orX_r rfl).trans (orX_l ?_)))
  show (match unB (ofI .u8 s), unB (ofI .u8 d) with | some s, some d => (match is32 s && is32 d with | true => some (V.slice (some (h.next, 0)) 64 none 1, h.new (.cells (ofI .u8 (s ++ shaV (s ++ d))) .sh)) | false => none) | _, _ => none) = _
  simp only [unI, is32_of hs, is32_of hd, Bool.and_self]
noncomputable def isQ (cs : Option Nat) (d : List Nat) (p g : Option (List Nat)) (fb : Option (V × H)) (h : H) : Option (V × H) := match isR cs p g (some d) with
  | some v => some (v, h)
  | none => fb
@[congr] theorem isQ_congr {cs : Option Nat} {d : List Nat} {p p' g g' : Option (List Nat)} {fb : Option (V × H)} {h : H} (e1 : p = p') (e2 : g = g') : isQ cs d p g fb h = isQ cs d p' g' fb h := by rw [e1, e2]
theorem isQ_some (cs : Option Nat) (d p g : List Nat) (fb : Option (V × H)) (h : H) (hd : d.length = 32) (hc : 64 ≤ cs.getD 64) : isQ cs d (some p) (some g) fb h = some (.bool (isV p g d), h) := by
  unfold isQ isR
  simp only [is32_of hd, show Nat.ble 64 (cs.getD 64) = true from Nat.ble_eq ▸ hc, Bool.and_self]
theorem isQ_none (d p g : List Nat) (fb : Option (V × H)) (h : H) (hd : d.length = 32) : isQ none d (some p) (some g) fb h = some (.bool (isV p g d), h) := isQ_some none d p g fb h hd (Nat.le_refl _)
theorem r_is (k N i oi j oj : Nat) (cp cs : Option Nat) (d : List Nat) (h : H) : callX E (sgX k) (N + 1) (.fn k_sign_Is) [.slice (some (i, oi)) 32 cp 1, .slice (some (j, oj)) 64 cs 1, .agg (ofI .u8 d)] h = isQ cs d (rdC 32 oi (h.get i)) (rdC 64 oj (h.get j)) (callX E (sgX k) (N + 1) (.fn k_sign_Is) [.slice (some (i, oi)) 32 cp 1, .slice (some (j, oj)) 64 cs 1, .agg (ofI .u8 d)] h) h := by
  unfold isQ
  cases hr : isR cs (rdC 32 oi (h.get i)) (rdC 64 oj (h.get j)) (some d) with
  | none => rfl
  | some v =>
    refine x_known ((orX_r rfl).trans ((orX_r rfl).trans ((orX_r rfl).trans (orX_l ?_))))
    show same h (isR cs (rdC 32 oi (h.get i)) (rdC 64 oj (h.get j)) (unB (ofI .u8 d))) = _
    rw [unI, hr]; rfl
theorem r_alive (k N : Nat) (h : H) (h1 : (sgX k (.fn k) [] h = some (.bool true, h))) : callX E (sgX k) (N + 1) (.fn k) [] h = some (.bool true, h) := x_known h1
theorem isV_own (s d : List Nat) (hs : s.length = 32) : isV (shaV s) (s ++ shaV (s ++ d)) d = true := by
  unfold isV
  rw [List.take_left' hs, List.drop_left' hs]; simp
end Go.Eng
