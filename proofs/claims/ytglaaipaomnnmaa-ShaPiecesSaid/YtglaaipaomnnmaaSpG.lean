/- What functions of the program come to: own work. -/
import Derived.Test.YtglaaipaomnnmaaSpE
namespace Go.Eng
open Go
variable {E : Nat → Option Fn} {X : Orc}
set_option linter.unusedSimpArgs false
set_option linter.unusedVariables false
noncomputable def markE (h : H) (i off len : Nat) (cap : Option Nat) (e : Nat) : Option Blk → Option (V × H)
  | some (.cells vs m) => (match m with
    | .ro => none
    | _ => some (.slice (some (i, off)) len cap e, h.put i (.cells vs .sh)))
  | _ => none
noncomputable def mkM (h : H) : V → Option (V × H)
  | .slice (some (i, off)) len cap e => markE h i off len cap e (h.get i)
  | _ => none
theorem x_mark (Q : Orc) (T : Tr V) (h : H) (x : O) : Eng.step (.mark x) Q T h = mkM h (evO T x) := by
  show o_mark x Q T h = _
  unfold o_mark mkM markE
  rfl
theorem x_mkM (h : H) (i off len : Nat) (cap : Option Nat) (e : Nat) : mkM h (.slice (some (i, off)) len cap e) = markE h i off len cap e (h.get i) := rfl
theorem x_mkE (h : H) (i off len : Nat) (cap : Option Nat) (e : Nat) (vs : List V) : markE h i off len cap e (some (.cells vs .rw)) = some (.slice (some (i, off)) len cap e, h.put i (.cells vs .sh)) := rfl
theorem PcS.swap {ps po : Nat} {P Q A Ey : List Nat} {aA : Option (Nat × Nat)} {cA : Option Nat} {eA : Nat} {aE : Option (Nat × Nat)} {cE : Option Nat} {eE : Nat} {h0 h : H} (s : PcS ps po P Q A Ey aA cA eA aE cE eE h0 h) : PcS po ps Q P A Ey aA cA eA aE cE eE h0 h :=
  ⟨s.so, s.sp, s.wA, s.wE, Ne.symm s.d1, fun q e => ⟨(s.d2 q e).2.1, (s.d2 q e).1, (s.d2 q e).2.2⟩, fun q e => ⟨(s.d3 q e).2, (s.d3 q e).1⟩, s.l2, s.l1, s.l3, s.l4, s.kp⟩
theorem pc_bad (Q : Orc) (m : Nat) (at_ : Nat) (ls : List (List Nat)) (hn : ls.length ≤ 20) (ps : Nat) (a : Option (Nat × Nat)) (h0 : H) (lh : LsH h0 a ls) (hls : ∀ l ∈ ls, l.length < 9223372036854775807) (i : Nat) (l : List Nat) (hil : ls[i]? = some l) (hl : 300 < l.length) (T : Tr V) (h : H) (I : PcI (.slice a ls.length none 1) at_ ls ps h0 i T h) :
    ∃ T' h', evC Q 121 m none L_purserlaw04_ShaPieces_1 ⟨T, [], h⟩ = some (.ret, ⟨T', [], h'⟩) ∧ evO T' (.t 4) = .bool true := by
  obtain ⟨_, t0, t1, t5, t19, t20, po, aA, cA, eA, aE, cE, eE, t6, t7, t8, S⟩ := I
  have hi : i < ls.length := (List.getElem?_eq_some_iff.1 hil).1
  have c0 : decide ((i : Int) < (ls.length : Int)) = true := decide_eq_true (by omega)
  have ix : idx (i : Int) ls.length = some i := idxn hi
  obtain ⟨q, vs, md, b, rfl, hq, gq', cg, sb⟩ := lh.at i l hil
  have gv : h.get q = some (.cells vs md) := by rw [S.kp.2 _ hq, gq']
  have d0 : decide ((300 : Int) < (l.length : Int)) = true := decide_eq_true (by omega)
  generalize l.length = ll at *
  clear t6 t7 t8 S
  obtain ⟨n, en⟩ : ∃ n, ls.length = n := ⟨_, rfl⟩
  rw [en] at t0 t19 c0 ix
  exact ⟨_, h, by
    simp (config := {maxSteps := 2000000}) (disch := first | omega | (simp only [List.length_cons, List.length_nil, List.length_append, List.length_drop]; omega)) only [L_purserlaw04_ShaPieces_1, t0, t1, t5, t19, t20, gv, cg, c0, ix, d0, ↓s_len, x_lenS, ↓b_xor32, ↓b_and32, ↓b_or32, ↓u_not32, b_xor32, b_and32, b_or32, u_not32, w32ad, ↓x_conv, x_convV, ↓x_fieldAddr, x_fieldV, ↓s_nilchk, x_nilchk, Nat.zero_add, Nat.add_zero, Nat.mul_one, ↓s_evD, ↓s_dnil, ↓s_dL, ↓s_dLg, ↓s_dR, ↓s_dRg, ↓s_dRj, ↓s_dRjg, ↓s_dB, ↓s_dBg, ↓s_dAlloc, ↓s_bindD, s_bindD, s_finD, s_finDx, s_addP0, s_addP1, s_addB, s_lookP, ↓s_bump0, ↓s_bump_get, s_bump_next, s_ok0, ↓s_ok1, s_okR0, ↓s_okR1, ↓s_okE, s_okE, s_okE1, s_nth0, s_nthS, Nat.add_zero, Bool.and_self, Bool.and_true, Bool.true_and, ↓l_loop, ↓l_succ, ↓l_normal, l_normal, l_exit, l_ret, l_iteN, ↓h_put_get, ↓h_new_get, ↓h_del_get, h_next_put, h_next_new, h_next_del, Nat.add_assoc, Nat.add_eq_left, Nat.left_eq_add, Nat.add_left_cancel_iff, ↓s_load, m_load, ↓m_load1, m_load1, ↓m_st, m_stE, m_storeI, m_storeE, w_zero, w_succ, ↓s_alloc, ↓x_idxA, ↓x_idxS, x_idxAE, x_idxSE, x_addrE, x_idx, x_lenS, ↓s_len, ↓x_buildS, x_buildE, ↓x_P0, ↓x_P1, x_fill0, x_filli, x_fills, x_fillb, c_int, List.length_cons, List.length_nil, List.cons_append, List.drop_succ_cons, List.drop_zero, List.drop_nil, List.nil_append, Int.reduceAdd, Int.reduceToNat, Int.reduceLT, Int.reduceLE, Nat.reduceAdd, Nat.reduceMul, Nat.reduceLeDiff, Int.reduceEq, Int.reduceSub, Int.cast_ofNat_Int, s_resc, s_consR, m_load4, m_store4, s_res0, ↓s_skip, ↓s_ops, ↓s_dops, ↓s_seq, ↓s_cond, ↓s_block, ↓s_exit, ↓s_ret, ↓s_scope, ↓s_nil, ↓s_op, ↓s_opg, ↓s_wanted', ↓s_wantV, s_wantV, s_wantV0, beq_true, beq_false, ↓s_bindS, s_bindS, ↓s_bindE, s_bindE, s_bindE_ret, s_bindE_exit, s_bindE_iteN, s_norm, ↓s_condV, s_condV, s_block_ret, s_block_normal, s_block_exit, s_block_iteN, ↓s_getp, ↓s_getp0, ↓s_get, s_get0, ↓s_con, ↓s_fn, ↓s_os0, ↓s_os1, ↓s_list0, ↓s_list1, ↓s_mov, ↓s_pick, ↓s_pickE, s_pickE, ↓s_bin, ↓s_un, ↓s_minmax, ↓s_call, ↓s_callv, ↓s_callV, ↓s_ext, s_same, b_eql, b_neq, b_lss, b_leq, b_gtr, b_geq, b_add, b_sub, b_mul, b_eqlb, b_neqb, b_fnil, b_fnil', b_fnil2, b_fnil2', u_neg, u_not, m_two, s_end, s_end', s_end_iteN, s_res0, s_res1, s_tup1, s_tup2, ↓iteN_true, ↓iteN_false, iteN_true, iteN_false, Nat.zero_add, List.nil_append, List.append_nil, Nat.reduceEqDiff, reduceIte, decide_true, decide_false, Bool.not_true, Bool.not_false, List.getElem?_cons_zero, List.getElem?_cons_succ, Bool.false_eq_true, if_true, if_false, beq_self_eq_true]
    exact rfl, (by (simp only [s_getp, s_getp0, Nat.reduceEqDiff, decide_false, decide_true, iteN_false, iteN_true, t0]; try rfl))⟩
theorem pc_tail (e : EnPc E) (x : NoPc X) (M m : Nat) (hM : 1000 < M) (A Ey : List Nat) (bA : byt A = true) (bE : byt Ey = true) (lA : A.length ≤ 6000) (lE : Ey.length ≤ 6000) (ps po : Nat) (aA : Option (Nat × Nat)) (cA : Option Nat) (eA : Nat) (aE : Option (Nat × Nat)) (cE : Option Nat) (eE : Nat) (h0 : H) (T : Tr V) (h : H) (t5 : evO T (.t 5) = .ptr (some (ps, 0))) (t6 : evO T (.t 6) = .ptr (some (po, 0))) (t7 : evO T (.t 7) = .slice aA A.length cA eA) (t8 : evO T (.t 8) = .slice aE Ey.length cE eE) (S : PcS ps po A Ey A Ey aA cA eA aE cE eE h0 h) :
    ∃ h2, fnEnd [.tmp 4] (evC (callX E X (M + 81)) 121 m none R_purserlaw04_ShaPieces_2 ⟨T, [], h⟩) = some (.bool true, h2) := by
  have pn := fun h => pnil h po
  have okE := absorb_ok Ey initS initS_ok
  obtain ⟨hG, rG, kG⟩ := end_at e.sh x.sh M po _ okE h (by omega) S.so
  have SG := S.more kG
  have rO := x_rofH x.ro (M + 80) (E := E) Ey bE aE cE hG SG.wE.src (by omega)
  have es : ∀ l, endV (absorb initS l) = shaV l := fun _ => rfl
  rw [es] at rG
  have s32 := shaV_len Ey
  have nq := fun h => neq32 h (shaV Ey) (shaV Ey) s32 s32
  have dq : decide (shaV Ey = shaV Ey) = true := decide_eq_true rfl
  obtain ⟨hM1, eM⟩ : ∃ hM1, (hG.new (.cells [.int .u8 120] .rw)).put hG.next (.cells [.int .u8 120] .sh) = hM1 := ⟨_, rfl⟩
  have kM : Kp hG hM1 := by rw [← eM]; exact (Kp.new _ _).put _ (Nat.le_refl _)
  have nM : hM1.next = hG.next + 1 := by rw [← eM]; rfl
  have gM : hM1.get hG.next = some (.cells (ofI .u8 [120]) .sh) := by rw [← eM]; exact h_put_same _ _ _
  have SM := SG.more kM
  obtain ⟨hW, rW, sW, kW⟩ := write_at e.sh x.sh (M + 1) po _ okE [120] (some (hG.next, 0)) 1 rfl (some 1) 1 hM1 (by simp; omega) (by simp) SM.so (.inr ⟨hG.next, 0, _, .sh, rfl, rfl, by have := SG.so.1; omega, by omega, gM, by simp [ofI_len], rfl⟩)
  rw [← absorb_app] at sW
  replace rW : callX E X (M + 81) (.fn k_sha_Sum_Write) [.ptr (some (po, 0)), .slice (some (hG.next, 0)) 1 (some 1) 1] hM1 = some (.ptr (some (po, 0)), hW) := rW
  have SW := SM.swap.step (P' := Ey ++ [120]) kW.1 (fun j hj hne => kW.2 j hj hne) sW
  have okE2 := absorb_ok (Ey ++ [120]) initS initS_ok
  obtain ⟨hX, rX, kX⟩ := end_at e.sh x.sh M po _ okE2 hW (by omega) SW.sp
  rw [es] at rX
  have SX := SW.swap.more kX
  obtain ⟨hY, eY⟩ : ∃ hY, hX.new (.cells [.int .u8 120] .rw) = hY := ⟨_, rfl⟩
  have kY : Kp hX hY := by rw [← eY]; exact Kp.new _ _
  have scY : srcCells hY 1 (.slice (some (hX.next, 0)) 1 (some 1) 1) = some (1, ofI .u8 [120]) := by rw [← eY]; exact src1 hX 120
  obtain ⟨aE', cE', eE', hZ, apZ, SZ⟩ := (SX.more kY).appE [120] (by simp; omega)
  replace apZ : appendC hY 1 1 (.slice aE Ey.length cE eE) (some (1, ofI .u8 [120])) = _ := apZ
  have bE2 : byt (Ey ++ [120]) = true := byt_app bE rfl
  have rP := x_rofH x.ro (M + 80) (E := E) (Ey ++ [120]) bE2 aE' cE' hZ SZ.wE.src (by simp; omega)
  have s322 := shaV_len (Ey ++ [120])
  have eq2 := fun h => eq32 h (shaV (Ey ++ [120])) (shaV (Ey ++ [120])) s322 s322
  have dq2 : decide (shaV (Ey ++ [120]) = shaV (Ey ++ [120])) = true := decide_eq_true rfl
  have okA := absorb_ok A initS initS_ok
  obtain ⟨hV, rV, kV⟩ := end_at e.sh x.sh M ps _ okA hZ (by omega) SZ.sp
  rw [es] at rV
  have SV := SZ.more kV
  have rQ := x_rofH x.ro (M + 80) (E := E) A bA aA cA hV SV.wA.src (by omega)
  have s323 := shaV_len A
  have eq3 := fun h => eq32 h (shaV A) (shaV A) s323 s323
  have dq3 : decide (shaV A = shaV A) = true := decide_eq_true rfl
  obtain ⟨N1, eN1⟩ : ∃ n, A.length = n := ⟨_, rfl⟩
  obtain ⟨N2, eN2⟩ : ∃ n, Ey.length = n := ⟨_, rfl⟩
  obtain ⟨N3, eN3⟩ : ∃ n, (Ey ++ [120]).length = n := ⟨_, rfl⟩
  rw [eN1] at t7 rQ
  rw [eN2] at t8 rO apZ
  rw [eN3] at apZ rP
  simp (config := {maxSteps := 2000000}) (disch := first | omega | rfl | (simp only [ofI_len, shaV_len, List.length_append, List.length_take, List.length_drop, List.length_cons, List.length_nil, List.length_replicate, List.length_set]; done) | (simp only [ofI_len, shaV_len, List.length_append, List.length_take, List.length_drop, List.length_cons, List.length_nil, List.length_replicate, List.length_set]; omega)) only [R_purserlaw04_ShaPieces_2, t5, t6, t7, t8, pn, rG, rO, nq, dq, ↓x_mark, x_mkM, x_mkE, eM, rW, rX, eY, scY, apZ, rP, eq2, dq2, rV, rQ, eq3, dq3, Bool.not_true, ↓s_append, ↓s_len, x_lenS, ↓b_xor32, ↓b_and32, ↓b_or32, ↓u_not32, b_xor32, b_and32, b_or32, u_not32, w32ad, ↓x_conv, x_convV, ↓x_fieldAddr, x_fieldV, ↓s_nilchk, x_nilchk, Nat.zero_add, Nat.add_zero, Nat.mul_one, ↓s_evD, ↓s_dnil, ↓s_dL, ↓s_dLg, ↓s_dR, ↓s_dRg, ↓s_dRj, ↓s_dRjg, ↓s_dB, ↓s_dBg, ↓s_dAlloc, ↓s_bindD, s_bindD, s_finD, s_finDx, s_addP0, s_addP1, s_addB, s_lookP, ↓s_bump0, ↓s_bump_get, s_bump_next, s_ok0, ↓s_ok1, s_okR0, ↓s_okR1, ↓s_okE, s_okE, s_okE1, s_nth0, s_nthS, Nat.add_zero, Bool.and_self, Bool.and_true, Bool.true_and, ↓l_loop, ↓l_succ, ↓l_normal, l_normal, l_exit, l_ret, l_iteN, ↓h_put_get, ↓h_new_get, ↓h_del_get, h_next_put, h_next_new, h_next_del, Nat.add_assoc, Nat.add_eq_left, Nat.left_eq_add, Nat.add_left_cancel_iff, ↓s_load, m_load, ↓m_load1, m_load1, ↓m_st, m_stE, m_storeI, m_storeE, w_zero, w_succ, ↓s_alloc, ↓x_idxA, ↓x_idxS, x_idxAE, x_idxSE, x_addrE, x_idx, x_lenS, ↓s_len, ↓x_buildS, x_buildE, ↓x_P0, ↓x_P1, x_fill0, x_filli, x_fills, x_fillb, c_int, List.length_cons, List.length_nil, List.cons_append, List.drop_succ_cons, List.drop_zero, List.drop_nil, List.nil_append, Int.reduceAdd, Int.reduceToNat, Int.reduceLT, Int.reduceLE, Nat.reduceAdd, Nat.reduceMul, Nat.reduceLeDiff, Int.reduceEq, Int.reduceSub, Int.cast_ofNat_Int, s_resc, s_consR, m_load4, m_store4, s_res0, ↓s_skip, ↓s_ops, ↓s_dops, ↓s_seq, ↓s_cond, ↓s_block, ↓s_exit, ↓s_ret, ↓s_scope, ↓s_nil, ↓s_op, ↓s_opg, ↓s_wanted', ↓s_wantV, s_wantV, s_wantV0, beq_true, beq_false, ↓s_bindS, s_bindS, ↓s_bindE, s_bindE, s_bindE_ret, s_bindE_exit, s_bindE_iteN, s_norm, ↓s_condV, s_condV, s_block_ret, s_block_normal, s_block_exit, s_block_iteN, ↓s_getp, ↓s_getp0, ↓s_get, s_get0, ↓s_con, ↓s_fn, ↓s_os0, ↓s_os1, ↓s_list0, ↓s_list1, ↓s_mov, ↓s_pick, ↓s_pickE, s_pickE, ↓s_bin, ↓s_un, ↓s_minmax, ↓s_call, ↓s_callv, ↓s_callV, ↓s_ext, s_same, b_eql, b_neq, b_lss, b_leq, b_gtr, b_geq, b_add, b_sub, b_mul, b_eqlb, b_neqb, b_fnil, b_fnil', b_fnil2, b_fnil2', u_neg, u_not, m_two, s_end, s_end', s_end_iteN, s_res0, s_res1, s_tup1, s_tup2, ↓iteN_true, ↓iteN_false, iteN_true, iteN_false, Nat.zero_add, List.nil_append, List.append_nil, Nat.reduceEqDiff, reduceIte, decide_true, decide_false, Bool.not_true, Bool.not_false, List.getElem?_cons_zero, List.getElem?_cons_succ, Bool.false_eq_true, if_true, if_false, beq_self_eq_true]
  exact ⟨_, rfl⟩
set_option maxHeartbeats 1000000 in
theorem law_ShaPieces (e : EnPc E) (x : NoPc X) (el : E k_purserlaw04_ShaPieces = some f_purserlaw04_ShaPieces) (xl : ∀ a h, X (.fn k_purserlaw04_ShaPieces) a h = none) (M : Nat) (hM : 1000 < M) (ls : List (List Nat)) (bl : ∀ l ∈ ls, byt l = true) (at_ : Nat) (hat : at_ < 256) (hlen : ls.length < 9223372036854775807) (hls : ∀ l ∈ ls, l.length < 9223372036854775807) (a : Option (Nat × Nat)) (h : H) (lh : LsH h a ls) :
    ∃ h2, callX E X (M + 82) (.fn k_purserlaw04_ShaPieces) [.slice a ls.length none 1, .int .u8 (at_ : Int)] h = some (.bool true, h2) := by
  rw [x_cfn el _ _ (Nat.le_of_ble_eq_true rfl) (xl _ _)]
  by_cases h20 : 20 < ls.length
  · have d0 : decide ((20 : Int) < (ls.length : Int)) = true := decide_eq_true (by omega)
    generalize ls.length = n at *
    simp (config := {maxSteps := 2000000}) (disch := first | omega | rfl | (simp only [ofI_len, shaV_len, List.length_append, List.length_take, List.length_drop, List.length_cons, List.length_nil, List.length_replicate, List.length_set]; done) | (simp only [ofI_len, shaV_len, List.length_append, List.length_take, List.length_drop, List.length_cons, List.length_nil, List.length_replicate, List.length_set]; omega)) only [d0, ↓s_len, x_lenS, ↓b_xor32, ↓b_and32, ↓b_or32, ↓u_not32, b_xor32, b_and32, b_or32, u_not32, w32ad, ↓x_conv, x_convV, ↓x_fieldAddr, x_fieldV, ↓s_nilchk, x_nilchk, Nat.zero_add, Nat.add_zero, Nat.mul_one, ↓s_evD, ↓s_dnil, ↓s_dL, ↓s_dLg, ↓s_dR, ↓s_dRg, ↓s_dRj, ↓s_dRjg, ↓s_dB, ↓s_dBg, ↓s_dAlloc, ↓s_bindD, s_bindD, s_finD, s_finDx, s_addP0, s_addP1, s_addB, s_lookP, ↓s_bump0, ↓s_bump_get, s_bump_next, s_ok0, ↓s_ok1, s_okR0, ↓s_okR1, ↓s_okE, s_okE, s_okE1, s_nth0, s_nthS, Nat.add_zero, Bool.and_self, Bool.and_true, Bool.true_and, ↓l_loop, ↓l_succ, ↓l_normal, l_normal, l_exit, l_ret, l_iteN, ↓h_put_get, ↓h_new_get, ↓h_del_get, h_next_put, h_next_new, h_next_del, Nat.add_assoc, Nat.add_eq_left, Nat.left_eq_add, Nat.add_left_cancel_iff, ↓s_load, m_load, ↓m_load1, m_load1, ↓m_st, m_stE, m_storeI, m_storeE, ↓s_alloc, ↓x_idxA, ↓x_idxS, x_idxAE, x_idxSE, x_addrE, x_idx, x_lenS, ↓s_len, ↓x_buildS, x_buildE, ↓x_P0, ↓x_P1, x_fill0, x_filli, x_fills, x_fillb, c_int, List.length_cons, List.length_nil, List.cons_append, List.drop_succ_cons, List.drop_zero, List.drop_nil, List.nil_append, Int.reduceAdd, Int.reduceToNat, Int.reduceLT, Int.reduceLE, Nat.reduceAdd, Nat.reduceMul, Nat.reduceLeDiff, Int.reduceEq, Int.reduceSub, Int.cast_ofNat_Int, s_resc, s_consR, m_load4, m_store4, s_res0, ↓s_skip, ↓s_ops, ↓s_dops, ↓s_seq, ↓s_cond, ↓s_block, ↓s_exit, ↓s_ret, ↓s_scope, ↓s_nil, ↓s_op, ↓s_opg, ↓s_wanted', ↓s_wantV, s_wantV, s_wantV0, beq_true, beq_false, ↓s_bindS, s_bindS, ↓s_bindE, s_bindE, s_bindE_ret, s_bindE_exit, s_bindE_iteN, s_norm, ↓s_condV, s_condV, s_block_ret, s_block_normal, s_block_exit, s_block_iteN, ↓s_getp, ↓s_getp0, ↓s_get, s_get0, ↓s_con, ↓s_fn, ↓s_os0, ↓s_os1, ↓s_list0, ↓s_list1, ↓s_mov, ↓s_pick, ↓s_pickE, s_pickE, ↓s_bin, ↓s_un, ↓s_minmax, ↓s_call, ↓s_callv, ↓s_callV, ↓s_ext, s_same, b_eql, b_neq, b_lss, b_leq, b_gtr, b_geq, b_add, b_sub, b_mul, b_eqlb, b_neqb, b_fnil, b_fnil', b_fnil2, b_fnil2', u_neg, u_not, m_two, s_end, s_end', s_end_iteN, s_res0, s_res1, s_tup1, s_tup2, ↓iteN_true, ↓iteN_false, iteN_true, iteN_false, Nat.zero_add, List.nil_append, List.append_nil, Nat.reduceEqDiff, reduceIte, decide_true, decide_false, Bool.not_true, Bool.not_false, List.getElem?_cons_zero, List.getElem?_cons_succ, Bool.false_eq_true, if_true, if_false, beq_self_eq_true]
    exact ⟨_, rfl⟩
  have d0 : decide ((20 : Int) < (ls.length : Int)) = false := decide_eq_false (by omega)
  obtain ⟨hA, ps, rA, sA, kA, pA⟩ := new_at e.sh x.sh (M + 79) h
  obtain ⟨hB, rB, sB, kB, nB⟩ := copy_at e.cp x.cp e.sh x.sh (M + 79) ps _ initS_ok hA sA
  have S0 : PcS ps hA.next [] [] [] [] none (some 0) 0 none (some 0) 0 h hB := ⟨sA.kp kB, sB, .nil _, .nil _, (by have := sA.1; omega), (fun _ e => by cases e), (fun _ e => by cases e), pA, kA.1, (fun _ _ e => by cases e), (fun _ _ e => by cases e), kA.trans kB⟩
  have fin : ∀ T, PcI (.slice a ls.length none 1) at_ ls ps h 0 T hB → ∃ h2, fnEnd [.tmp 4] (bindE (blockE 0 (loopN (evC (callX E X (M + 81)) 121 (M + 81) none L_purserlaw04_ShaPieces_1) (M + 81) ⟨T, [], hB⟩)) (evC (callX E X (M + 81)) 121 (M + 81) none R_purserlaw04_ShaPieces_2)) = some (.bool true, h2) := by
    intro T I
    have dec : (∀ l ∈ ls, l.length ≤ 300) ∨ ∃ (j : Nat) (l : List Nat), ls[j]? = some l ∧ 300 < l.length ∧ ∀ l' ∈ ls.take j, l'.length ≤ 300 := by
      clear bl hls lh I h20 d0 hlen
      induction ls with
      | nil => exact .inl (fun l hl => by cases hl)
      | cons a r ih =>
        by_cases ha : a.length ≤ 300
        · rcases ih with ih | ⟨j, l, h1, h2, h3⟩
          · exact .inl (fun l hl => by rcases List.mem_cons.1 hl with rfl | hl; exact ha; exact ih l hl)
          · refine .inr ⟨j + 1, l, by simpa using h1, h2, fun l' hl' => ?_⟩
            rw [List.take_succ_cons] at hl'
            rcases List.mem_cons.1 hl' with rfl | hl'
            · exact ha
            · exact h3 l' hl'
        · exact .inr ⟨0, a, rfl, by omega, fun l' hl' => by rw [List.take_zero] at hl'; cases hl'⟩
    rcases dec with sm | ⟨j, l, hj, hl, hb⟩
    · obtain ⟨T', h', rr, J⟩ := loop_go (f := evC (callX E X (M + 81)) 121 (M + 81) none L_purserlaw04_ShaPieces_1) (PcI (.slice a ls.length none 1) at_ ls ps h) ls.length (.exit 0) (by intro h; cases h) (PcI (.slice a ls.length none 1) at_ ls ps h ls.length) (fun i T h' hi I => by
        obtain ⟨l, hil⟩ : ∃ l, ls[i]? = some l := ⟨_, List.getElem?_eq_getElem hi⟩
        exact pc_step e x M (M + 81) hM (by omega) at_ hat ls (by omega) bl ps a h lh i l hil (fun l hl => sm l (List.mem_of_mem_take hl)) T h' I) (fun T h' I => by
        obtain ⟨il, t0, t1, t5, t19, t20, po, aA, cA, eA, aE, cE, eE, t6, t7, t8, S⟩ := I
        have c0 : decide ((ls.length : Int) < (ls.length : Int)) = false := decide_eq_false (by omega)
        obtain ⟨N1, eN1⟩ : ∃ n, (catN ls ls.length).length = n := ⟨_, rfl⟩
        obtain ⟨N3, eN3⟩ : ∃ n, (eyN ls (at_ % ls.length) ls.length).length = n := ⟨_, rfl⟩
        rw [eN1] at t7
        rw [eN3] at t8
        obtain ⟨n, en⟩ : ∃ n, ls.length = n := ⟨_, rfl⟩
        have il' := il
        rw [en] at t0 t19 t20 c0
        exact ⟨_, _, by
          simp (config := {maxSteps := 2000000}) (disch := first | omega | (simp only [List.length_cons, List.length_nil, List.length_append, List.length_drop]; omega)) only [L_purserlaw04_ShaPieces_1, t19, t20, c0, ↓b_xor32, ↓b_and32, ↓b_or32, ↓u_not32, b_xor32, b_and32, b_or32, u_not32, w32ad, ↓x_conv, x_convV, ↓x_fieldAddr, x_fieldV, ↓s_nilchk, x_nilchk, Nat.zero_add, Nat.add_zero, Nat.mul_one, ↓l_loop, ↓l_succ, ↓l_normal, l_normal, l_exit, l_ret, l_iteN, ↓h_put_get, ↓h_new_get, ↓h_del_get, h_next_put, h_next_new, h_next_del, Nat.add_assoc, Nat.add_eq_left, Nat.left_eq_add, Nat.add_left_cancel_iff, ↓s_load, m_load, ↓m_load1, m_load1, ↓m_st, m_stE, m_storeI, m_storeE, w_zero, w_succ, ↓s_alloc, ↓x_idxA, ↓x_idxS, x_idxAE, x_idxSE, x_addrE, x_idx, x_lenS, ↓s_len, ↓x_buildS, x_buildE, ↓x_P0, ↓x_P1, x_fill0, x_filli, x_fills, x_fillb, c_int, List.length_cons, List.length_nil, List.cons_append, List.drop_succ_cons, List.drop_zero, List.drop_nil, List.nil_append, Int.reduceAdd, Int.reduceToNat, Int.reduceLT, Int.reduceLE, Nat.reduceAdd, Nat.reduceMul, Nat.reduceLeDiff, Int.reduceEq, Int.reduceSub, Int.cast_ofNat_Int, s_resc, s_consR, m_load4, m_store4, s_res0, ↓s_skip, ↓s_ops, ↓s_dops, ↓s_seq, ↓s_cond, ↓s_block, ↓s_exit, ↓s_ret, ↓s_scope, ↓s_nil, ↓s_op, ↓s_opg, ↓s_wanted', ↓s_wantV, s_wantV, s_wantV0, beq_true, beq_false, ↓s_bindS, s_bindS, ↓s_bindE, s_bindE, s_bindE_ret, s_bindE_exit, s_bindE_iteN, s_norm, ↓s_condV, s_condV, s_block_ret, s_block_normal, s_block_exit, s_block_iteN, ↓s_getp, ↓s_getp0, ↓s_get, s_get0, ↓s_con, ↓s_fn, ↓s_os0, ↓s_os1, ↓s_list0, ↓s_list1, ↓s_mov, ↓s_pick, ↓s_pickE, s_pickE, ↓s_bin, ↓s_un, ↓s_minmax, ↓s_call, ↓s_callv, ↓s_callV, ↓s_ext, s_same, b_eql, b_neq, b_lss, b_leq, b_gtr, b_geq, b_add, b_sub, b_mul, b_eqlb, b_neqb, b_fnil, b_fnil', b_fnil2, b_fnil2', u_neg, u_not, m_two, s_end, s_end', s_end_iteN, s_res0, s_res1, s_tup1, s_tup2, ↓iteN_true, ↓iteN_false, iteN_true, iteN_false, Nat.zero_add, List.nil_append, List.append_nil, Nat.reduceEqDiff, reduceIte, decide_true, decide_false, Bool.not_true, Bool.not_false, List.getElem?_cons_zero, List.getElem?_cons_succ, Bool.false_eq_true, if_true, if_false, beq_self_eq_true]
          exact rfl, ⟨il, by rw [en]; exact (by (simp only [s_getp, s_getp0, Nat.reduceEqDiff, decide_false, decide_true, iteN_false, iteN_true, t0]; try rfl)), (by (simp only [s_getp, s_getp0, Nat.reduceEqDiff, decide_false, decide_true, iteN_false, iteN_true, t1]; try rfl)), (by (simp only [s_getp, s_getp0, Nat.reduceEqDiff, decide_false, decide_true, iteN_false, iteN_true, t5]; try rfl)), by rw [en]; exact (by (simp only [s_getp, s_getp0, Nat.reduceEqDiff, decide_false, decide_true, iteN_false, iteN_true, t19]; try rfl)), by rw [en]; exact (by (simp only [s_getp, s_getp0, Nat.reduceEqDiff, decide_false, decide_true, iteN_false, iteN_true, t20]; try rfl)), ⟨po, aA, cA, eA, aE, cE, eE, (by (simp only [s_getp, s_getp0, Nat.reduceEqDiff, decide_false, decide_true, iteN_false, iteN_true, t6]; try rfl)), by rw [eN1]; exact (by (simp only [s_getp, s_getp0, Nat.reduceEqDiff, decide_false, decide_true, iteN_false, iteN_true, t7]; try rfl)), by rw [eN3]; exact (by (simp only [s_getp, s_getp0, Nat.reduceEqDiff, decide_false, decide_true, iteN_false, iteN_true, t8]; try rfl)), S⟩⟩⟩) ls.length 0 (by omega) (M + 81) (by omega) T hB I
      rw [rr]
      obtain ⟨_, t0, t1, t5, t19, t20, po, aA, cA, eA, aE, cE, eE, t6, t7, t8, S⟩ := J
      have lc := fun k => cat_le ls sm (by omega) k
      have bE : byt (eyN ls (at_ % ls.length) ls.length) = true := by unfold eyN; split; exact cat_byt ls bl _; rfl
      have lE : (eyN ls (at_ % ls.length) ls.length).length ≤ 6000 := by unfold eyN; split; exact lc _; simp
      exact pc_tail e x M (M + 81) hM _ _ (cat_byt ls bl _) bE (lc _) lE ps po aA cA eA aE cE eE h T' h' t5 t6 t7 t8 S
    · have hjl : j < ls.length := (List.getElem?_eq_some_iff.1 hj).1
      obtain ⟨T', h', rr, u4⟩ := loop_go (f := evC (callX E X (M + 81)) 121 (M + 81) none L_purserlaw04_ShaPieces_1) (PcI (.slice a ls.length none 1) at_ ls ps h) j .ret (by intro h; cases h) (fun T _ => evO T (.t 4) = .bool true) (fun i T h' hi I => by
        obtain ⟨l, hil⟩ : ∃ l, ls[i]? = some l := ⟨_, List.getElem?_eq_getElem (by omega)⟩
        exact pc_step e x M (M + 81) hM (by omega) at_ hat ls (by omega) bl ps a h lh i l hil (fun l' hl' => hb l' (by
          have : ls.take (i + 1) = (ls.take j).take (i + 1) := by rw [List.take_take, Nat.min_eq_left (by omega)]
          rw [this] at hl'
          exact List.mem_of_mem_take hl')) T h' I) (fun T h' I => pc_bad _ (M + 81) at_ ls (by omega) ps a h lh hls j l hj hl T h' I) j 0 (by omega) (M + 81) (by omega) T hB I
      rw [rr]
      simp (config := {maxSteps := 2000000}) (disch := first | omega | rfl | (simp only [ofI_len, shaV_len, List.length_append, List.length_take, List.length_drop, List.length_cons, List.length_nil, List.length_replicate, List.length_set]; done) | (simp only [ofI_len, shaV_len, List.length_append, List.length_take, List.length_drop, List.length_cons, List.length_nil, List.length_replicate, List.length_set]; omega)) only [u4, ↓b_xor32, ↓b_and32, ↓b_or32, ↓u_not32, b_xor32, b_and32, b_or32, u_not32, w32ad, ↓x_conv, x_convV, ↓x_fieldAddr, x_fieldV, ↓s_nilchk, x_nilchk, Nat.zero_add, Nat.add_zero, Nat.mul_one, ↓l_loop, ↓l_succ, ↓l_normal, l_normal, l_exit, l_ret, l_iteN, ↓h_put_get, ↓h_new_get, ↓h_del_get, h_next_put, h_next_new, h_next_del, Nat.add_assoc, Nat.add_eq_left, Nat.left_eq_add, Nat.add_left_cancel_iff, ↓s_load, m_load, ↓m_load1, m_load1, ↓m_st, m_stE, m_storeI, m_storeE, w_zero, w_succ, ↓s_alloc, ↓x_idxA, ↓x_idxS, x_idxAE, x_idxSE, x_addrE, x_idx, x_lenS, ↓s_len, ↓x_buildS, x_buildE, ↓x_P0, ↓x_P1, x_fill0, x_filli, x_fills, x_fillb, c_int, List.length_cons, List.length_nil, List.cons_append, List.drop_succ_cons, List.drop_zero, List.drop_nil, List.nil_append, Int.reduceAdd, Int.reduceToNat, Int.reduceLT, Int.reduceLE, Nat.reduceAdd, Nat.reduceMul, Nat.reduceLeDiff, Int.reduceEq, Int.reduceSub, Int.cast_ofNat_Int, s_resc, s_consR, m_load4, m_store4, s_res0, ↓s_skip, ↓s_ops, ↓s_dops, ↓s_seq, ↓s_cond, ↓s_block, ↓s_exit, ↓s_ret, ↓s_scope, ↓s_nil, ↓s_op, ↓s_opg, ↓s_wanted', ↓s_wantV, s_wantV, s_wantV0, beq_true, beq_false, ↓s_bindS, s_bindS, ↓s_bindE, s_bindE, s_bindE_ret, s_bindE_exit, s_bindE_iteN, s_norm, ↓s_condV, s_condV, s_block_ret, s_block_normal, s_block_exit, s_block_iteN, ↓s_getp, ↓s_getp0, ↓s_get, s_get0, ↓s_con, ↓s_fn, ↓s_os0, ↓s_os1, ↓s_list0, ↓s_list1, ↓s_mov, ↓s_pick, ↓s_pickE, s_pickE, ↓s_bin, ↓s_un, ↓s_minmax, ↓s_call, ↓s_callv, ↓s_callV, ↓s_ext, s_same, b_eql, b_neq, b_lss, b_leq, b_gtr, b_geq, b_add, b_sub, b_mul, b_eqlb, b_neqb, b_fnil, b_fnil', b_fnil2, b_fnil2', u_neg, u_not, m_two, s_end, s_end', s_end_iteN, s_res0, s_res1, s_tup1, s_tup2, ↓iteN_true, ↓iteN_false, iteN_true, iteN_false, Nat.zero_add, List.nil_append, List.append_nil, Nat.reduceEqDiff, reduceIte, decide_true, decide_false, Bool.not_true, Bool.not_false, List.getElem?_cons_zero, List.getElem?_cons_succ, Bool.false_eq_true, if_true, if_false, beq_self_eq_true]
      exact ⟨_, rfl⟩
  obtain ⟨R, eR⟩ : ∃ R, R_purserlaw04_ShaPieces_2 = R := ⟨_, rfl⟩
  obtain ⟨Lo, eL⟩ : ∃ R, L_purserlaw04_ShaPieces_1 = R := ⟨_, rfl⟩
  rw [eR, eL] at fin ⊢
  have c00 : catN ls 0 = [] := rfl
  have e00 : eyN ls (at_ % ls.length) 0 = [] := by unfold eyN; rw [if_neg (by omega)]
  obtain ⟨n, en⟩ : ∃ n, ls.length = n := ⟨_, rfl⟩
  rw [en] at d0 ⊢
  replace rA : callX E X (M + 81) (.fn k_sha_New) [] h = _ := rA
  replace rB : callX E X (M + 81) (.fn k_sha_Sum_Copy) [.ptr (some (ps, 0))] hA = _ := rB
  simp (config := {maxSteps := 2000000}) (disch := first | omega | rfl | (simp only [ofI_len, shaV_len, List.length_append, List.length_take, List.length_drop, List.length_cons, List.length_nil, List.length_replicate, List.length_set]; done) | (simp only [ofI_len, shaV_len, List.length_append, List.length_take, List.length_drop, List.length_cons, List.length_nil, List.length_replicate, List.length_set]; omega)) only [d0, rA, rB, ↓s_len, x_lenS, ↓b_xor32, ↓b_and32, ↓b_or32, ↓u_not32, b_xor32, b_and32, b_or32, u_not32, w32ad, ↓x_conv, x_convV, ↓x_fieldAddr, x_fieldV, ↓s_nilchk, x_nilchk, Nat.zero_add, Nat.add_zero, Nat.mul_one, ↓s_evD, ↓s_dnil, ↓s_dL, ↓s_dLg, ↓s_dR, ↓s_dRg, ↓s_dRj, ↓s_dRjg, ↓s_dB, ↓s_dBg, ↓s_dAlloc, ↓s_bindD, s_bindD, s_finD, s_finDx, s_addP0, s_addP1, s_addB, s_lookP, ↓s_bump0, ↓s_bump_get, s_bump_next, s_ok0, ↓s_ok1, s_okR0, ↓s_okR1, ↓s_okE, s_okE, s_okE1, s_nth0, s_nthS, Nat.add_zero, Bool.and_self, Bool.and_true, Bool.true_and, ↓l_loop, ↓l_succ, ↓l_normal, l_normal, l_exit, l_ret, l_iteN, ↓h_put_get, ↓h_new_get, ↓h_del_get, h_next_put, h_next_new, h_next_del, Nat.add_assoc, Nat.add_eq_left, Nat.left_eq_add, Nat.add_left_cancel_iff, ↓s_load, m_load, ↓m_load1, m_load1, ↓m_st, m_stE, m_storeI, m_storeE, ↓s_alloc, ↓x_idxA, ↓x_idxS, x_idxAE, x_idxSE, x_addrE, x_idx, x_lenS, ↓s_len, ↓x_buildS, x_buildE, ↓x_P0, ↓x_P1, x_fill0, x_filli, x_fills, x_fillb, c_int, List.length_cons, List.length_nil, List.cons_append, List.drop_succ_cons, List.drop_zero, List.drop_nil, List.nil_append, Int.reduceAdd, Int.reduceToNat, Int.reduceLT, Int.reduceLE, Nat.reduceAdd, Nat.reduceMul, Nat.reduceLeDiff, Int.reduceEq, Int.reduceSub, Int.cast_ofNat_Int, s_resc, s_consR, m_load4, m_store4, s_res0, ↓s_skip, ↓s_ops, ↓s_dops, ↓s_seq, ↓s_cond, ↓s_block, ↓s_exit, ↓s_ret, ↓s_scope, ↓s_nil, ↓s_op, ↓s_opg, ↓s_wanted', ↓s_wantV, s_wantV, s_wantV0, beq_true, beq_false, ↓s_bindS, s_bindS, ↓s_bindE, s_bindE, s_bindE_ret, s_bindE_exit, s_bindE_iteN, s_norm, ↓s_condV, s_condV, s_block_ret, s_block_normal, s_block_exit, s_block_iteN, ↓s_getp, ↓s_getp0, ↓s_get, s_get0, ↓s_con, ↓s_fn, ↓s_os0, ↓s_os1, ↓s_list0, ↓s_list1, ↓s_mov, ↓s_pick, ↓s_pickE, s_pickE, ↓s_bin, ↓s_un, ↓s_minmax, ↓s_call, ↓s_callv, ↓s_callV, ↓s_ext, s_same, b_eql, b_neq, b_lss, b_leq, b_gtr, b_geq, b_add, b_sub, b_mul, b_eqlb, b_neqb, b_fnil, b_fnil', b_fnil2, b_fnil2', u_neg, u_not, m_two, s_end, s_end', s_end_iteN, s_res0, s_res1, s_tup1, s_tup2, ↓iteN_true, ↓iteN_false, iteN_true, iteN_false, Nat.zero_add, List.nil_append, List.append_nil, Nat.reduceEqDiff, reduceIte, decide_true, decide_false, Bool.not_true, Bool.not_false, List.getElem?_cons_zero, List.getElem?_cons_succ, Bool.false_eq_true, if_true, if_false, beq_self_eq_true]
  exact fin _ ⟨Nat.zero_le _, by rw [en]; exact (by (simp only [s_getp, s_getp0, Nat.reduceEqDiff, decide_false, decide_true, iteN_false, iteN_true, d0]; try rfl)), (by (simp only [s_getp, s_getp0, Nat.reduceEqDiff, decide_false, decide_true, iteN_false, iteN_true, d0]; try rfl)), (by (simp only [s_getp, s_getp0, Nat.reduceEqDiff, decide_false, decide_true, iteN_false, iteN_true, d0]; try rfl)), by rw [en]; exact (by (simp only [s_getp, s_getp0, Nat.reduceEqDiff, decide_false, decide_true, iteN_false, iteN_true, d0]; try rfl)), (by (simp only [s_getp, s_getp0, Nat.reduceEqDiff, decide_false, decide_true, iteN_false, iteN_true, d0]; try rfl)), ⟨hA.next, none, some 0, 0, none, some 0, 0, (by (simp only [s_getp, s_getp0, Nat.reduceEqDiff, decide_false, decide_true, iteN_false, iteN_true, d0]; try rfl)), by rw [c00]; exact (by (simp only [s_getp, s_getp0, Nat.reduceEqDiff, decide_false, decide_true, iteN_false, iteN_true, d0]; try rfl)), by rw [e00]; exact (by (simp only [s_getp, s_getp0, Nat.reduceEqDiff, decide_false, decide_true, iteN_false, iteN_true, d0]; try rfl)), by rw [c00, e00]; exact S0⟩⟩
end Go.Eng
