/- What functions of the program come to: own work. -/
import Derived.Test.YtglaaipaomnnmaaRfA
import Derived.Test.YtglaaipaomnnmaaSkA
namespace Go.Eng
open Go
variable {E : Nat → Option Fn} {X : Orc}
set_option linter.unusedSimpArgs false
set_option linter.unusedVariables false
/-! the document's hash, known -/
def rofS (l : List Nat) : Option V := if decide (l.length ≤ 100000) && byt l then some (.agg (ofI .u8 (shaV l))) else none
noncomputable def rofX : Orc := bytesX k_purserref04_Of rofS
theorem noRf_no : NoRf noX := ⟨fun _ _ => rfl, fun _ _ => rfl, fun _ _ => rfl, fun _ _ => rfl, fun _ _ => rfl⟩
theorem rofX_ok {P : Program} {g : Gn} (hE : Link P g E) (e : EnRf E) : QOk P g rofX := by
  refine bytesX_ok (callX_ok hE noX_ok (5000 + 300)) ?_
  intro l v hs
  unfold rofS at hs
  split at hs
  · rename_i hb
    cases hs
    simp only [Bool.and_eq_true, decide_eq_true_eq] at hb
    refine ⟨by simp only [dataV, datas_ofI], ?_, ?_⟩
    · intro h0 a c z
      subst h0
      have hz : ∀ z, ∃ h', callX E noX (5000 + 300) (.fn k_purserref04_Of) [.slice a ([] : List Nat).length c z] (mkH [] 1) = some (.agg (ofI .u8 (shaV [])), h') := by
        intro z
        obtain ⟨h', r, _⟩ := rof_goz e noRf_no 5000 [] rfl (by simp) (by omega) a c z (mkH [] 1) (.inl rfl)
        exact ⟨h', r⟩
      exact hz z
    · intro hne c
      obtain ⟨h', r, _⟩ := rof_goz e noRf_no 5000 l hb.2 hb.1 (by omega) (some (0, 0)) c 1 (mkH [(0, ofBytes l)] 1) (.inr ⟨0, 0, ofBytes l, .ro, rfl, rfl, Nat.zero_lt_one, rfl, by rw [ofB_len]; omega, (by rw [List.drop_zero, ← ofI_u8]; exact List.take_of_length_le (by rw [ofI_len]; omega))⟩)
      exact ⟨h', r⟩
  · cases hs
def HasRof (X : Orc) : Prop := ∀ x h l v, rdB h x = some l → rofS l = some v → X (.fn k_purserref04_Of) [x] h = some (v, h)
noncomputable def rofQ (r : Option (List Nat)) (fb : Option (V × H)) (h : H) : Option (V × H) := match r with
  | some l => match rofS l with
    | some v => some (v, h)
    | none => fb
  | none => fb
@[congr] theorem rofQ_congr {r r' : Option (List Nat)} {fb : Option (V × H)} {h : H} (e : r = r') : rofQ r fb h = rofQ r' fb h := by rw [e]
theorem x_rofQ (hx : HasRof X) (N i off n : Nat) (c : Option Nat) (h : H) : callX E X (N + 1) (.fn k_purserref04_Of) [.slice (some (i, off)) (n + 1) c 1] h = rofQ (rdC (n + 1) off (h.get i)) (callX E X (N + 1) (.fn k_purserref04_Of) [.slice (some (i, off)) (n + 1) c 1] h) h := by
  unfold rofQ
  cases hr : rdC (n + 1) off (h.get i) with
  | none => rfl
  | some l =>
    simp only
    cases hv : rofS l with
    | none => rfl
    | some v => exact x_known (hx _ _ l _ hr hv)
theorem rofQ_some (l : List Nat) (hl : l.length ≤ 100000) (hb : byt l = true) (fb : Option (V × H)) (h : H) : rofQ (some l) fb h = some (.agg (ofI .u8 (shaV l)), h) := by
  unfold rofQ rofS; simp only [hl, hb, decide_true, Bool.and_self, if_true]
structure EnRs (E : Nat → Option Fn) : Prop where
  pub : E k_purserref09_Public = some f_purserref09_Public
  sign : E k_purserref09_Sign = some f_purserref09_Sign
theorem rpub_go (e : EnRs E) (x : ∀ a h, X (.fn k_purserref09_Public) a h = none) (hx : HasRof X) (N : Nat) (s : List Nat) (hs : s.length = 32) (bs : byt s = true) (h : H) : ∃ h', callX E X (N + 2) (.fn k_purserref09_Public) [.agg (ofI .u8 s)] h = some (.agg (ofI .u8 (shaV s)), h') := by
  rw [x_cfn e.pub _ _ (Nat.le_of_ble_eq_true rfl) (x _ _)]
  have fo := fun i off n c h => x_rofQ (E := E) hx N i off n c h
  have ro := fun fb h => rofQ_some s (by omega) bs fb h
  have lv := shaV_len s
  rw [← z32e]
  simp (config := {maxSteps := 2000000}) (disch := first | omega | rfl | (simp only [ofI_len, shaV_len, List.length_append, List.length_take, List.length_drop, List.length_cons, List.length_nil, List.length_replicate, List.length_set]; done) | (simp only [ofI_len, shaV_len, List.length_append, List.length_take, List.length_drop, List.length_cons, List.length_nil, List.length_replicate, List.length_set]; omega)) only [hs, ↓fo, ro, ↓s_dBuildS, s_dbE, rdI, ofI_get, m_src, m_src0, srcI, ldI, ld1I, wrAll, wrI, wr1I, stI, st32, take_all, drop_all, List.take_zero, List.drop_zero, List.nil_append, List.append_nil, appF_of, appFI, appF0, appU_of, appUIw, appUIs, app0, appN, eq32, neq32, ↓s_append, ↓x_copy, ↓x_slcA, x_slcAE, slcB_nn, slcB_hi, slcB_lo, slcB_lh, slcV_nn, slcV_hiU, slcV_hiC, slcV_lo, slcV_loL, slcV_hiUL, slcV_hiCL, slcV_mxL, slcB_hiL, slcB_loL, subC_some, subC_none, ↓x_slcS, x_bnd0, x_M1, x_M0, x_lenA, ofQ_some, Nat.sub_zero, ofI_len, shaV_len, ↓s_box, c_agg, List.length_append, List.length_cons, List.length_nil, Nat.reduceLeDiff, Nat.reduceSub, List.length_replicate, ↓b_xor32, ↓b_and32, ↓b_or32, ↓u_not32, b_xor32, b_and32, b_or32, u_not32, w32ad, ↓x_conv, x_convV, ↓x_fieldAddr, x_fieldV, ↓s_nilchk, x_nilchk, Nat.zero_add, Nat.add_zero, Nat.mul_one, ↓l_loop, ↓l_succ, ↓l_normal, l_normal, l_exit, l_ret, l_iteN, ↓h_put_get, ↓h_new_get, ↓h_del_get, h_next_put, h_next_new, h_next_del, Nat.add_assoc, Nat.add_eq_left, Nat.left_eq_add, Nat.add_left_cancel_iff, ↓s_load, m_load, ↓m_load1, m_load1, ↓m_st, m_stE, m_storeI, m_storeE, ↓s_alloc, ↓x_idxA, ↓x_idxS, x_idxAE, x_idxSE, x_addrE, x_idx, x_lenS, ↓s_len, ↓x_buildS, x_buildE, ↓x_P0, ↓x_P1, x_fill0, x_filli, x_fills, x_fillb, c_int, List.length_cons, List.length_nil, List.cons_append, List.drop_succ_cons, List.drop_zero, List.drop_nil, List.nil_append, Int.reduceAdd, Int.reduceToNat, Int.reduceLT, Int.reduceLE, Nat.reduceAdd, Nat.reduceMul, Nat.reduceLeDiff, Int.reduceEq, Int.reduceSub, Int.cast_ofNat_Int, s_resc, s_consR, m_load4, m_store4, s_res0, ↓s_skip, ↓s_ops, ↓s_dops, ↓s_seq, ↓s_cond, ↓s_block, ↓s_exit, ↓s_ret, ↓s_scope, ↓s_nil, ↓s_op, ↓s_opg, ↓s_wanted', ↓s_wantV, s_wantV, s_wantV0, beq_true, beq_false, ↓s_bindS, s_bindS, ↓s_bindE, s_bindE, s_bindE_ret, s_bindE_exit, s_bindE_iteN, s_norm, ↓s_condV, s_condV, s_block_ret, s_block_normal, s_block_exit, s_block_iteN, ↓s_getp, ↓s_getp0, ↓s_get, s_get0, ↓s_con, ↓s_fn, ↓s_os0, ↓s_os1, ↓s_list0, ↓s_list1, ↓s_mov, ↓s_pick, ↓s_pickE, s_pickE, ↓s_bin, ↓s_un, ↓s_minmax, ↓s_call, ↓s_callv, ↓s_callV, ↓s_ext, s_same, b_eql, b_neq, b_lss, b_leq, b_gtr, b_geq, b_add, b_sub, b_mul, b_eqlb, b_neqb, b_fnil, b_fnil', b_fnil2, b_fnil2', u_neg, u_not, m_two, s_end, s_end', s_end_iteN, s_res0, s_res1, s_tup1, s_tup2, ↓iteN_true, ↓iteN_false, iteN_true, iteN_false, Nat.zero_add, List.nil_append, List.append_nil, Nat.reduceEqDiff, reduceIte, decide_true, decide_false, Bool.not_true, Bool.not_false, List.getElem?_cons_zero, List.getElem?_cons_succ, Bool.false_eq_true, if_true, if_false, beq_self_eq_true]
  exact ⟨_, rfl⟩
structure RS (a b : Nat) (s d : List Nat) (h0 : H) (i : Nat) (T : Tr V) (h : H) : Prop where
  il : i ≤ 32
  t2 : evO T (.t 2) = .ptr (some (a, 0))
  t3 : evO T (.t 3) = .ptr (some (b, 0))
  t6 : evO T (.t 6) = .int .i64 (i : Int)
  t5 : (i = 0 ∧ evO T (.t 5) = .slice none 0 (some 0) 0) ∨ (0 < i ∧ ∃ p md, evO T (.t 5) = .slice (some (p, 0)) i none 1 ∧ h.get p = some (.cells (ofI .u8 (s.take i)) md) ∧ isRo md = false ∧ h0.next ≤ p ∧ p < h.next)
  kp : Kp h0 h
theorem rs_step (Q : Orc) (n a b : Nat) (s d : List Nat) (hs : s.length = 32) (h0 : H) (ha : a < h0.next) (ga : h0.get a = some (.cells (ofI .u8 s) .rw)) :
    ∀ i T h, i < 32 → RS a b s d h0 i T h → ∃ T' h', evC Q 29 n none L_purserref09_Sign_0 ⟨T, [], h⟩ = some (.normal, ⟨T', [], h'⟩) ∧ RS a b s d h0 (i + 1) T' h' := by
  intro i T h hi ⟨_, t2, t3, t6, t5, kp⟩
  have ga' : h.get a = some (.cells (ofI .u8 s) .rw) := by rw [kp.2 _ ha, ga]
  have c0 : decide ((i : Int) < 32) = true := decide_eq_true (by omega)
  have wi : wr .i64 ((i : Int) + 1) = ((i + 1 : Nat) : Int) := by rw [wr_i64 (by omega)]; omega
  have ix : idx (i : Int) 32 = some i := idxn hi
  have sg : (ofI .u8 s)[i]? = some (.int .u8 (s.getD i 0 : Nat)) := ofI_get _ _ _ (by omega)
  have ts : s.take (i + 1) = s.take i ++ [s.getD i 0] := by
    rw [List.take_add_one, List.getD_eq_getElem?_getD, List.getElem?_eq_getElem (by omega)]; rfl
  generalize s.getD i 0 = y at *
  have sc := src1 h y
  obtain ⟨C, eC⟩ : ∃ C, ofI .u8 (s.take (i + 1)) = C := ⟨_, rfl⟩
  obtain ⟨S, eS⟩ : ∃ C, ofI .u8 s = C := ⟨_, rfl⟩
  rw [eS] at ga' sg
  rcases t5 with ⟨rfl, t5⟩ | ⟨hip, p, md, t5, gp, hmd, hp0, hpn⟩
  · have ap : appendC (h.new (.cells [.int .u8 (y : Int)] .rw)) 1 1 (.slice none 0 (some 0) 0) (some (1, [.int .u8 (y : Int)])) = some (.slice (some (h.next + 1, 0)) 1 none 1, (h.new (.cells [.int .u8 (y : Int)] .rw)).new (.cells C .rw)) := by
      have := app0 (h.new (.cells [.int .u8 (y : Int)] .rw)) 0 0 .u8 [y] (some 0) (by omega)
      rw [← eC, ts]; exact this
    refine ⟨_, _, by
      simp (config := {maxSteps := 2000000}) (disch := first | omega | (simp only [List.length_cons, List.length_nil, List.length_append, List.length_drop]; omega)) only [L_purserref09_Sign_0, t2, t3, t5, t6, ga', sg, c0, wi, ix, sc, ap, ↓s_append, ↓b_xor32, ↓b_and32, ↓b_or32, ↓u_not32, b_xor32, b_and32, b_or32, u_not32, w32ad, ↓x_conv, x_convV, ↓x_fieldAddr, x_fieldV, ↓s_nilchk, x_nilchk, Nat.zero_add, Nat.add_zero, Nat.mul_one, ↓l_loop, ↓l_succ, ↓l_normal, l_normal, l_exit, l_ret, l_iteN, ↓h_put_get, ↓h_new_get, ↓h_del_get, h_next_put, h_next_new, h_next_del, Nat.add_assoc, Nat.add_eq_left, Nat.left_eq_add, Nat.add_left_cancel_iff, ↓s_load, m_load, ↓m_load1, m_load1, ↓m_st, m_stE, m_storeI, m_storeE, w_zero, w_succ, ↓s_alloc, ↓x_idxA, ↓x_idxS, x_idxAE, x_idxSE, x_addrE, x_idx, x_lenS, ↓s_len, ↓x_buildS, x_buildE, ↓x_P0, ↓x_P1, x_fill0, x_filli, x_fills, x_fillb, c_int, List.length_cons, List.length_nil, List.cons_append, List.drop_succ_cons, List.drop_zero, List.drop_nil, List.nil_append, Int.reduceAdd, Int.reduceToNat, Int.reduceLT, Int.reduceLE, Nat.reduceAdd, Nat.reduceMul, Nat.reduceLeDiff, Int.reduceEq, Int.reduceSub, Int.cast_ofNat_Int, s_resc, s_consR, m_load4, m_store4, s_res0, ↓s_skip, ↓s_ops, ↓s_dops, ↓s_seq, ↓s_cond, ↓s_block, ↓s_exit, ↓s_ret, ↓s_scope, ↓s_nil, ↓s_op, ↓s_opg, ↓s_wanted', ↓s_wantV, s_wantV, s_wantV0, beq_true, beq_false, ↓s_bindS, s_bindS, ↓s_bindE, s_bindE, s_bindE_ret, s_bindE_exit, s_bindE_iteN, s_norm, ↓s_condV, s_condV, s_block_ret, s_block_normal, s_block_exit, s_block_iteN, ↓s_getp, ↓s_getp0, ↓s_get, s_get0, ↓s_con, ↓s_fn, ↓s_os0, ↓s_os1, ↓s_list0, ↓s_list1, ↓s_mov, ↓s_pick, ↓s_pickE, s_pickE, ↓s_bin, ↓s_un, ↓s_minmax, ↓s_call, ↓s_callv, ↓s_callV, ↓s_ext, s_same, b_eql, b_neq, b_lss, b_leq, b_gtr, b_geq, b_add, b_sub, b_mul, b_eqlb, b_neqb, b_fnil, b_fnil', b_fnil2, b_fnil2', u_neg, u_not, m_two, s_end, s_end', s_end_iteN, s_res0, s_res1, s_tup1, s_tup2, ↓iteN_true, ↓iteN_false, iteN_true, iteN_false, Nat.zero_add, List.nil_append, List.append_nil, Nat.reduceEqDiff, reduceIte, decide_true, decide_false, Bool.not_true, Bool.not_false, List.getElem?_cons_zero, List.getElem?_cons_succ, Bool.false_eq_true, if_true, if_false, beq_self_eq_true]
      exact rfl, ⟨by omega, (by (simp only [s_getp, s_getp0, Nat.reduceEqDiff, decide_false, decide_true, iteN_false, iteN_true, t2]; try rfl)), (by (simp only [s_getp, s_getp0, Nat.reduceEqDiff, decide_false, decide_true, iteN_false, iteN_true, t3]; try rfl)), (by (simp only [s_getp, s_getp0, Nat.reduceEqDiff, decide_false, decide_true, iteN_false, iteN_true, t2]; try rfl)), .inr ⟨by omega, h.next + 1, .rw, (by (simp only [s_getp, s_getp0, Nat.reduceEqDiff, decide_false, decide_true, iteN_false, iteN_true, t2]; try rfl)), by rw [eC]; exact h_new_same' _ _ rfl, rfl, by have := kp.1; omega, by simp only [h_next_new]; omega⟩, (kp.trans (Kp.new _ _)).trans (Kp.new _ _)⟩⟩
  · have ap := app1 (h.new (.cells [.int .u8 (y : Int)] .rw)) p i y _ md hmd (by rw [h_new_ne _ _ (by omega), gp]) (by rw [List.length_take]; omega) (by omega)
    rw [← ts, eC] at ap
    refine ⟨_, _, by
      simp (config := {maxSteps := 2000000}) (disch := first | omega | (simp only [List.length_cons, List.length_nil, List.length_append, List.length_drop]; omega)) only [L_purserref09_Sign_0, t2, t3, t5, t6, ga', sg, c0, wi, ix, sc, ap, ↓s_append, ↓b_xor32, ↓b_and32, ↓b_or32, ↓u_not32, b_xor32, b_and32, b_or32, u_not32, w32ad, ↓x_conv, x_convV, ↓x_fieldAddr, x_fieldV, ↓s_nilchk, x_nilchk, Nat.zero_add, Nat.add_zero, Nat.mul_one, ↓l_loop, ↓l_succ, ↓l_normal, l_normal, l_exit, l_ret, l_iteN, ↓h_put_get, ↓h_new_get, ↓h_del_get, h_next_put, h_next_new, h_next_del, Nat.add_assoc, Nat.add_eq_left, Nat.left_eq_add, Nat.add_left_cancel_iff, ↓s_load, m_load, ↓m_load1, m_load1, ↓m_st, m_stE, m_storeI, m_storeE, w_zero, w_succ, ↓s_alloc, ↓x_idxA, ↓x_idxS, x_idxAE, x_idxSE, x_addrE, x_idx, x_lenS, ↓s_len, ↓x_buildS, x_buildE, ↓x_P0, ↓x_P1, x_fill0, x_filli, x_fills, x_fillb, c_int, List.length_cons, List.length_nil, List.cons_append, List.drop_succ_cons, List.drop_zero, List.drop_nil, List.nil_append, Int.reduceAdd, Int.reduceToNat, Int.reduceLT, Int.reduceLE, Nat.reduceAdd, Nat.reduceMul, Nat.reduceLeDiff, Int.reduceEq, Int.reduceSub, Int.cast_ofNat_Int, s_resc, s_consR, m_load4, m_store4, s_res0, ↓s_skip, ↓s_ops, ↓s_dops, ↓s_seq, ↓s_cond, ↓s_block, ↓s_exit, ↓s_ret, ↓s_scope, ↓s_nil, ↓s_op, ↓s_opg, ↓s_wanted', ↓s_wantV, s_wantV, s_wantV0, beq_true, beq_false, ↓s_bindS, s_bindS, ↓s_bindE, s_bindE, s_bindE_ret, s_bindE_exit, s_bindE_iteN, s_norm, ↓s_condV, s_condV, s_block_ret, s_block_normal, s_block_exit, s_block_iteN, ↓s_getp, ↓s_getp0, ↓s_get, s_get0, ↓s_con, ↓s_fn, ↓s_os0, ↓s_os1, ↓s_list0, ↓s_list1, ↓s_mov, ↓s_pick, ↓s_pickE, s_pickE, ↓s_bin, ↓s_un, ↓s_minmax, ↓s_call, ↓s_callv, ↓s_callV, ↓s_ext, s_same, b_eql, b_neq, b_lss, b_leq, b_gtr, b_geq, b_add, b_sub, b_mul, b_eqlb, b_neqb, b_fnil, b_fnil', b_fnil2, b_fnil2', u_neg, u_not, m_two, s_end, s_end', s_end_iteN, s_res0, s_res1, s_tup1, s_tup2, ↓iteN_true, ↓iteN_false, iteN_true, iteN_false, Nat.zero_add, List.nil_append, List.append_nil, Nat.reduceEqDiff, reduceIte, decide_true, decide_false, Bool.not_true, Bool.not_false, List.getElem?_cons_zero, List.getElem?_cons_succ, Bool.false_eq_true, if_true, if_false, beq_self_eq_true]
      exact rfl, ⟨by omega, (by (simp only [s_getp, s_getp0, Nat.reduceEqDiff, decide_false, decide_true, iteN_false, iteN_true, t2]; try rfl)), (by (simp only [s_getp, s_getp0, Nat.reduceEqDiff, decide_false, decide_true, iteN_false, iteN_true, t3]; try rfl)), (by (simp only [s_getp, s_getp0, Nat.reduceEqDiff, decide_false, decide_true, iteN_false, iteN_true, t2]; try rfl)), .inr ⟨by omega, h.next + 1, .sh, (by (simp only [s_getp, s_getp0, Nat.reduceEqDiff, decide_false, decide_true, iteN_false, iteN_true, t2]; try rfl)), by rw [eC]; exact h_new_same' _ _ rfl, rfl, by have := kp.1; omega, by simp only [h_next_new, h_next_del]; omega⟩, ?_⟩⟩
    refine ⟨by have := kp.1; simp only [h_next_new, h_next_del]; omega, fun j hj => ?_⟩
    have := kp.1
    rw [h_new_ne _ _ (by simp only [h_next_new, h_next_del]; omega), h_del_ne _ (by omega), h_new_ne _ _ (by omega), kp.2 _ hj]
theorem rs_loop (Q : Orc) (n a b : Nat) (hn : 32 < n) (s d : List Nat) (hs : s.length = 32) (h0 : H) (ha : a < h0.next) (ga : h0.get a = some (.cells (ofI .u8 s) .rw)) (T : Tr V) (h : H) (I : RS a b s d h0 0 T h) :
    ∃ T' h', loopN (evC Q 29 n none L_purserref09_Sign_0) n ⟨T, [], h⟩ = some (.exit 0, ⟨T', [], h'⟩) ∧ RS a b s d h0 32 T' h' :=
  loop_go (RS a b s d h0) 32 (.exit 0) (by intro h; cases h) _ (rs_step Q n a b s d hs h0 ha ga) (fun T h I => by
    obtain ⟨il, t2, t3, t6, t5, kp⟩ := I
    have c0 : decide (((32 : Nat) : Int) < 32) = false := rfl
    obtain ⟨_, p, md, t5, rest⟩ := (t5.resolve_left (fun h => by cases h.1))
    refine ⟨_, _, by
      simp (config := {maxSteps := 2000000}) (disch := first | omega | (simp only [List.length_cons, List.length_nil, List.length_append, List.length_drop]; omega)) only [L_purserref09_Sign_0, t6, c0, ↓b_xor32, ↓b_and32, ↓b_or32, ↓u_not32, b_xor32, b_and32, b_or32, u_not32, w32ad, ↓x_conv, x_convV, ↓x_fieldAddr, x_fieldV, ↓s_nilchk, x_nilchk, Nat.zero_add, Nat.add_zero, Nat.mul_one, ↓l_loop, ↓l_succ, ↓l_normal, l_normal, l_exit, l_ret, l_iteN, ↓h_put_get, ↓h_new_get, ↓h_del_get, h_next_put, h_next_new, h_next_del, Nat.add_assoc, Nat.add_eq_left, Nat.left_eq_add, Nat.add_left_cancel_iff, ↓s_load, m_load, ↓m_load1, m_load1, ↓m_st, m_stE, m_storeI, m_storeE, w_zero, w_succ, ↓s_alloc, ↓x_idxA, ↓x_idxS, x_idxAE, x_idxSE, x_addrE, x_idx, x_lenS, ↓s_len, ↓x_buildS, x_buildE, ↓x_P0, ↓x_P1, x_fill0, x_filli, x_fills, x_fillb, c_int, List.length_cons, List.length_nil, List.cons_append, List.drop_succ_cons, List.drop_zero, List.drop_nil, List.nil_append, Int.reduceAdd, Int.reduceToNat, Int.reduceLT, Int.reduceLE, Nat.reduceAdd, Nat.reduceMul, Nat.reduceLeDiff, Int.reduceEq, Int.reduceSub, Int.cast_ofNat_Int, s_resc, s_consR, m_load4, m_store4, s_res0, ↓s_skip, ↓s_ops, ↓s_dops, ↓s_seq, ↓s_cond, ↓s_block, ↓s_exit, ↓s_ret, ↓s_scope, ↓s_nil, ↓s_op, ↓s_opg, ↓s_wanted', ↓s_wantV, s_wantV, s_wantV0, beq_true, beq_false, ↓s_bindS, s_bindS, ↓s_bindE, s_bindE, s_bindE_ret, s_bindE_exit, s_bindE_iteN, s_norm, ↓s_condV, s_condV, s_block_ret, s_block_normal, s_block_exit, s_block_iteN, ↓s_getp, ↓s_getp0, ↓s_get, s_get0, ↓s_con, ↓s_fn, ↓s_os0, ↓s_os1, ↓s_list0, ↓s_list1, ↓s_mov, ↓s_pick, ↓s_pickE, s_pickE, ↓s_bin, ↓s_un, ↓s_minmax, ↓s_call, ↓s_callv, ↓s_callV, ↓s_ext, s_same, b_eql, b_neq, b_lss, b_leq, b_gtr, b_geq, b_add, b_sub, b_mul, b_eqlb, b_neqb, b_fnil, b_fnil', b_fnil2, b_fnil2', u_neg, u_not, m_two, s_end, s_end', s_end_iteN, s_res0, s_res1, s_tup1, s_tup2, ↓iteN_true, ↓iteN_false, iteN_true, iteN_false, Nat.zero_add, List.nil_append, List.append_nil, Nat.reduceEqDiff, reduceIte, decide_true, decide_false, Bool.not_true, Bool.not_false, List.getElem?_cons_zero, List.getElem?_cons_succ, Bool.false_eq_true, if_true, if_false, beq_self_eq_true]
      exact rfl, ⟨il, (by (simp only [s_getp, s_getp0, Nat.reduceEqDiff, decide_false, decide_true, iteN_false, iteN_true, t2]; try rfl)), (by (simp only [s_getp, s_getp0, Nat.reduceEqDiff, decide_false, decide_true, iteN_false, iteN_true, t3]; try rfl)), (by (simp only [s_getp, s_getp0, Nat.reduceEqDiff, decide_false, decide_true, iteN_false, iteN_true, t6]; try rfl)), .inr ⟨by omega, p, md, (by (simp only [s_getp, s_getp0, Nat.reduceEqDiff, decide_false, decide_true, iteN_false, iteN_true, t5]; try rfl)), rest⟩, kp⟩⟩) 32 0 rfl n hn T h I
theorem rsign_go (e : EnRs E) (x : ∀ a h, X (.fn k_purserref09_Sign) a h = none) (hx : HasRof X) (N : Nat) (s d : List Nat) (hs : s.length = 32) (hd : d.length = 32) (bs : byt s = true) (bd : byt d = true) (h : H) :
    ∃ h' p, callX E X (N + 40) (.fn k_purserref09_Sign) [.agg (ofI .u8 s), .agg (ofI .u8 d)] h = some (.slice (some (p, 0)) 64 none 1, h') ∧ h'.get p = some (.cells (ofI .u8 (s ++ shaV (s ++ d))) .sh) := by
  rw [x_cfn e.sign _ _ (Nat.le_of_ble_eq_true rfl) (x _ _)]
  obtain ⟨h0, e0⟩ : ∃ h0, (h.new (.cells (ofI .u8 s) .rw)).new (.cells (ofI .u8 d) .rw) = h0 := ⟨_, rfl⟩
  have n0 : h0.next = h.next + 2 := by rw [← e0]; rfl
  have ga : h0.get h.next = some (.cells (ofI .u8 s) .rw) := by rw [← e0, h_new_ne _ _ (by rw [h_next_new]; omega), h_new_same]
  have gb : h0.get (h.next + 1) = some (.cells (ofI .u8 d) .rw) := by rw [← e0]; exact h_new_same' _ _ rfl
  have fin : ∀ T, RS h.next (h.next + 1) s d h0 0 T h0 → ∃ h' p, fnEnd [.tmp 4] (bindE (blockE 0 (loopN (evC (callX E X (N + 39)) 29 (N + 39) none L_purserref09_Sign_0) (N + 39) ⟨T, [], h0⟩)) (evC (callX E X (N + 39)) 29 (N + 39) none R_purserref09_Sign_0)) = some (.slice (some (p, 0)) 64 none 1, h') ∧ h'.get p = some (.cells (ofI .u8 (s ++ shaV (s ++ d))) .sh) := by
    intro T I
    obtain ⟨T', h1, r1, il, t2, t3, t6, t5, kp⟩ := rs_loop (callX E X (N + 39)) (N + 39) h.next (h.next + 1) (by omega) s d hs h0 (by omega) ga T h0 I
    obtain ⟨_, p, md, t5, gp, hmd, hp0, hpn⟩ := (t5.resolve_left (fun h => by cases h.1))
    rw [take_all s 32 (by omega)] at gp
    rw [r1]
    have gb1 : h1.get (h.next + 1) = some (.cells (ofI .u8 d) .rw) := by rw [kp.2 _ (by omega), gb]
    have lsd : (s ++ d).length = 64 := by rw [List.length_append]; omega
    have bsd : byt (s ++ d) = true := by
      rw [byt_iff] at *
      intro x hx
      rcases List.mem_append.1 hx with h | h
      · exact bs x h
      · exact bd x h
    have fo := fun i off n c h => x_rofQ (E := E) hx (N + 38) i off n c h
    have ro := fun fb h => rofQ_some (s ++ d) (by omega) bsd fb h
    have lv := shaV_len (s ++ d)
    have z := z32e
    have np : (h1.next = p) = False := by simp; omega
    have np1 : (h1.next + 1 = p) = False := by simp; omega
    have np2 : (h1.next + 2 = p) = False := by simp; omega
    have nb0 : (h1.next = h.next + 1) = False := by have := kp.1; simp; omega
    have nb1 : (h1.next + 1 = h.next + 1) = False := by have := kp.1; simp; omega
    have ap3 : ∀ (h' : H), h'.get p = some (.cells (ofI .u8 s) md) → appendC h' 1 1 (.slice (some (p, 0)) 32 none 1) (some (32, ofI .u8 (shaV (s ++ d)))) = some (.slice (some (h'.next, 0)) 64 none 1, (h'.del p).new (.cells (ofI .u8 (s ++ shaV (s ++ d))) .sh)) := by
      intro h' hg
      have := appU_of h' p 32 31 .u8 (shaV (s ++ d)) (by omega)
      rw [hg, appUI _ _ _ _ hmd _ _ _ _ (by omega), take_all s _ (by omega)] at this
      exact this
    obtain ⟨hz, ehz⟩ : ∃ hz, ((((h1.new (.cells (ofI .u8 s) .rw)).del h1.next).new (.cells (ofI .u8 (s ++ d)) .sh)).new (.cells (ofI .u8 (List.replicate 32 0)) .rw)).put (h1.next + 2) (.cells (ofI .u8 (shaV (s ++ d))) .rw) = hz := ⟨_, rfl⟩
    have gz : hz.get p = some (.cells (ofI .u8 s) md) := by
      rw [← ehz]; (simp (disch := omega) only [l_loop, l_succ, l_normal, l_normal, l_exit, l_ret, l_iteN, h_put_get, h_new_get, h_del_get, h_next_put, h_next_new, h_next_del, Nat.add_assoc, Nat.add_eq_left, Nat.left_eq_add, Nat.add_left_cancel_iff, s_load, m_load, m_load1, m_load1, m_st, m_stE, m_storeI, m_storeE, w_zero, w_succ, s_alloc, x_idxA, x_idxS, x_idxAE, x_idxSE, x_addrE, x_idx, x_lenS, s_len, x_buildS, x_buildE, x_P0, x_P1, x_fill0, x_filli, x_fills, x_fillb, c_int, List.length_cons, List.length_nil, List.cons_append, List.drop_succ_cons, List.drop_zero, List.drop_nil, List.nil_append, Int.reduceAdd, Int.reduceToNat, Int.reduceLT, Int.reduceLE, Nat.reduceAdd, Nat.reduceMul, Nat.reduceLeDiff, Int.reduceEq, Int.reduceSub, Int.cast_ofNat_Int, s_resc, s_consR, m_load4, m_store4, s_res0, decide_true, decide_false, iteN_true, iteN_false, Nat.reduceEqDiff, Nat.reduceAdd, reduceCtorEq, np, np1, np2, gp]; try rfl)
    have gz2 : hz.get (h1.next + 2) = some (.cells (ofI .u8 (shaV (s ++ d))) .rw) := by rw [← ehz, h_put_same]
    have ap := ap3 hz gz
    simp (config := {maxSteps := 2000000}) (disch := first | omega | rfl | (simp only [ofI_len, shaV_len, List.length_append, List.length_take, List.length_drop, List.length_cons, List.length_nil, List.length_replicate, List.length_set]; done) | (simp only [ofI_len, shaV_len, List.length_append, List.length_take, List.length_drop, List.length_cons, List.length_nil, List.length_replicate, List.length_set]; omega)) only [R_purserref09_Sign_0, ← z, t3, t5, gp, gb1, hs, hd, lsd, lv, np, np1, np2, nb0, nb1, ↓fo, ro, ehz, gz2, ap, vbeq_slice, ↓s_dBuildS, s_dbE, rdI, ofI_get, m_src, m_src0, srcI, ldI, ld1I, wrAll, wrI, wr1I, stI, st32, take_all, drop_all, List.take_zero, List.drop_zero, List.nil_append, List.append_nil, appF_of, appFI, appF0, appU_of, appUIw, appUIs, app0, appN, eq32, neq32, ↓s_append, ↓x_copy, ↓x_slcA, x_slcAE, slcB_nn, slcB_hi, slcB_lo, slcB_lh, slcV_nn, slcV_hiU, slcV_hiC, slcV_lo, slcV_loL, slcV_hiUL, slcV_hiCL, slcV_mxL, slcB_hiL, slcB_loL, subC_some, subC_none, ↓x_slcS, x_bnd0, x_M1, x_M0, x_lenA, ofQ_some, Nat.sub_zero, ofI_len, shaV_len, ↓s_box, c_agg, List.length_append, List.length_cons, List.length_nil, Nat.reduceLeDiff, Nat.reduceSub, List.length_replicate, ↓b_xor32, ↓b_and32, ↓b_or32, ↓u_not32, b_xor32, b_and32, b_or32, u_not32, w32ad, ↓x_conv, x_convV, ↓x_fieldAddr, x_fieldV, ↓s_nilchk, x_nilchk, Nat.zero_add, Nat.add_zero, Nat.mul_one, ↓s_evD, ↓s_dnil, ↓s_dL, ↓s_dLg, ↓s_dR, ↓s_dRg, ↓s_dRj, ↓s_dRjg, ↓s_dB, ↓s_dBg, ↓s_dAlloc, ↓s_bindD, s_bindD, s_finD, s_finDx, s_addP0, s_addP1, s_addB, s_lookP, ↓s_bump0, ↓s_bump_get, s_bump_next, s_ok0, ↓s_ok1, s_okR0, ↓s_okR1, ↓s_okE, s_okE, s_okE1, s_nth0, s_nthS, Nat.add_zero, Bool.and_self, Bool.and_true, Bool.true_and, ↓l_loop, ↓l_succ, ↓l_normal, l_normal, l_exit, l_ret, l_iteN, ↓h_put_get, ↓h_new_get, ↓h_del_get, h_next_put, h_next_new, h_next_del, Nat.add_assoc, Nat.add_eq_left, Nat.left_eq_add, Nat.add_left_cancel_iff, ↓s_load, m_load, ↓m_load1, m_load1, ↓m_st, m_stE, m_storeI, m_storeE, ↓s_alloc, ↓x_idxA, ↓x_idxS, x_idxAE, x_idxSE, x_addrE, x_idx, x_lenS, ↓s_len, ↓x_buildS, x_buildE, ↓x_P0, ↓x_P1, x_fill0, x_filli, x_fills, x_fillb, c_int, List.length_cons, List.length_nil, List.cons_append, List.drop_succ_cons, List.drop_zero, List.drop_nil, List.nil_append, Int.reduceAdd, Int.reduceToNat, Int.reduceLT, Int.reduceLE, Nat.reduceAdd, Nat.reduceMul, Nat.reduceLeDiff, Int.reduceEq, Int.reduceSub, Int.cast_ofNat_Int, s_resc, s_consR, m_load4, m_store4, s_res0, ↓s_skip, ↓s_ops, ↓s_dops, ↓s_seq, ↓s_cond, ↓s_block, ↓s_exit, ↓s_ret, ↓s_scope, ↓s_nil, ↓s_op, ↓s_opg, ↓s_wanted', ↓s_wantV, s_wantV, s_wantV0, beq_true, beq_false, ↓s_bindS, s_bindS, ↓s_bindE, s_bindE, s_bindE_ret, s_bindE_exit, s_bindE_iteN, s_norm, ↓s_condV, s_condV, s_block_ret, s_block_normal, s_block_exit, s_block_iteN, ↓s_getp, ↓s_getp0, ↓s_get, s_get0, ↓s_con, ↓s_fn, ↓s_os0, ↓s_os1, ↓s_list0, ↓s_list1, ↓s_mov, ↓s_pick, ↓s_pickE, s_pickE, ↓s_bin, ↓s_un, ↓s_minmax, ↓s_call, ↓s_callv, ↓s_callV, ↓s_ext, s_same, b_eql, b_neq, b_lss, b_leq, b_gtr, b_geq, b_add, b_sub, b_mul, b_eqlb, b_neqb, b_fnil, b_fnil', b_fnil2, b_fnil2', u_neg, u_not, m_two, s_end, s_end', s_end_iteN, s_res0, s_res1, s_tup1, s_tup2, ↓iteN_true, ↓iteN_false, iteN_true, iteN_false, Nat.zero_add, List.nil_append, List.append_nil, Nat.reduceEqDiff, reduceIte, decide_true, decide_false, Bool.not_true, Bool.not_false, List.getElem?_cons_zero, List.getElem?_cons_succ, Bool.false_eq_true, if_true, if_false, beq_self_eq_true]
    exact ⟨_, _, rfl, h_new_same' _ _ (by rw [h_next_del])⟩
  obtain ⟨R, eR⟩ : ∃ R, R_purserref09_Sign_0 = R := ⟨_, rfl⟩
  obtain ⟨Lo, eL⟩ : ∃ R, L_purserref09_Sign_0 = R := ⟨_, rfl⟩
  rw [eR, eL] at fin ⊢
  simp (config := {maxSteps := 2000000}) (disch := first | omega | (simp only [List.length_cons, List.length_nil, List.length_append, List.length_drop]; omega)) only [e0, n0, ↓s_box, c_agg, ↓b_xor32, ↓b_and32, ↓b_or32, ↓u_not32, b_xor32, b_and32, b_or32, u_not32, w32ad, ↓x_conv, x_convV, ↓x_fieldAddr, x_fieldV, ↓s_nilchk, x_nilchk, Nat.zero_add, Nat.add_zero, Nat.mul_one, ↓l_loop, ↓l_succ, ↓l_normal, l_normal, l_exit, l_ret, l_iteN, ↓h_put_get, ↓h_new_get, ↓h_del_get, h_next_put, h_next_new, h_next_del, Nat.add_assoc, Nat.add_eq_left, Nat.left_eq_add, Nat.add_left_cancel_iff, ↓s_load, m_load, ↓m_load1, m_load1, ↓m_st, m_stE, m_storeI, m_storeE, w_zero, w_succ, ↓s_alloc, ↓x_idxA, ↓x_idxS, x_idxAE, x_idxSE, x_addrE, x_idx, x_lenS, ↓s_len, ↓x_buildS, x_buildE, ↓x_P0, ↓x_P1, x_fill0, x_filli, x_fills, x_fillb, c_int, List.length_cons, List.length_nil, List.cons_append, List.drop_succ_cons, List.drop_zero, List.drop_nil, List.nil_append, Int.reduceAdd, Int.reduceToNat, Int.reduceLT, Int.reduceLE, Nat.reduceAdd, Nat.reduceMul, Nat.reduceLeDiff, Int.reduceEq, Int.reduceSub, Int.cast_ofNat_Int, s_resc, s_consR, m_load4, m_store4, s_res0, ↓s_skip, ↓s_ops, ↓s_dops, ↓s_seq, ↓s_cond, ↓s_block, ↓s_exit, ↓s_ret, ↓s_scope, ↓s_nil, ↓s_op, ↓s_opg, ↓s_wanted', ↓s_wantV, s_wantV, s_wantV0, beq_true, beq_false, ↓s_bindS, s_bindS, ↓s_bindE, s_bindE, s_bindE_ret, s_bindE_exit, s_bindE_iteN, s_norm, ↓s_condV, s_condV, s_block_ret, s_block_normal, s_block_exit, s_block_iteN, ↓s_getp, ↓s_getp0, ↓s_get, s_get0, ↓s_con, ↓s_fn, ↓s_os0, ↓s_os1, ↓s_list0, ↓s_list1, ↓s_mov, ↓s_pick, ↓s_pickE, s_pickE, ↓s_bin, ↓s_un, ↓s_minmax, ↓s_call, ↓s_callv, ↓s_callV, ↓s_ext, s_same, b_eql, b_neq, b_lss, b_leq, b_gtr, b_geq, b_add, b_sub, b_mul, b_eqlb, b_neqb, b_fnil, b_fnil', b_fnil2, b_fnil2', u_neg, u_not, m_two, s_end, s_end', s_end_iteN, s_res0, s_res1, s_tup1, s_tup2, ↓iteN_true, ↓iteN_false, iteN_true, iteN_false, Nat.zero_add, List.nil_append, List.append_nil, Nat.reduceEqDiff, reduceIte, decide_true, decide_false, Bool.not_true, Bool.not_false, List.getElem?_cons_zero, List.getElem?_cons_succ, Bool.false_eq_true, if_true, if_false, beq_self_eq_true]
  exact fin _ ⟨by omega, (by (simp only [s_getp, s_getp0, Nat.reduceEqDiff, decide_false, decide_true, iteN_false, iteN_true, eR]; try rfl)), (by (simp only [s_getp, s_getp0, Nat.reduceEqDiff, decide_false, decide_true, iteN_false, iteN_true, eR]; try rfl)), (by (simp only [s_getp, s_getp0, Nat.reduceEqDiff, decide_false, decide_true, iteN_false, iteN_true, eR]; try rfl)), .inl ⟨rfl, (by (simp only [s_getp, s_getp0, Nat.reduceEqDiff, decide_false, decide_true, iteN_false, iteN_true, eR]; try rfl))⟩, Kp.refl _⟩
end Go.Eng
namespace Go.Eng
open Go
variable {E : Nat → Option Fn} {X : Orc}
set_option linter.unusedSimpArgs false
set_option linter.unusedVariables false
theorem byt_app' {a b : List Nat} (ha : byt a = true) (hb : byt b = true) : byt (a ++ b) = true := by
  rw [byt_iff] at *
  intro x hx
  rcases List.mem_append.1 hx with h | h
  · exact ha x h
  · exact hb x h
def pubRS : List V → Option V
  | [.agg cs] => match unB cs with
    | some l => match is32 l && byt l with
      | true => some (.agg (ofI .u8 (shaV l)))
      | false => none
    | none => none
  | _ => none
theorem rofX_has : HasRof rofX := fun x h l v e q => bytesX_yes h e q
theorem rpubX_ok {P : Program} {g : Gn} (hE : Link P g E) (e : EnRs E) (hO : QOk P g rofX) : QOk P g (pureX k_purserref09_Public pubRS) := by
  refine pureX_ok (callX_ok hE hO (0 + 2)) ?_
  intro args v hs
  unfold pubRS at hs
  split at hs
  · rename_i cs
    split at hs
    · rename_i l hl
      have hcs := unB_I hl
      subst hcs
      split at hs
      · rename_i hi
        cases hs
        simp only [Bool.and_eq_true] at hi
        obtain ⟨h', r⟩ := rpub_go e (X := rofX) (fun _ _ => rfl) rofX_has 0 l (is32_iff.1 hi.1) hi.2 H.empty
        exact ⟨by simp only [datas, dataV, datas_ofI, Bool.and_self], by simp only [dataV, datas_ofI], h', r⟩
      · cases hs
    · cases hs
  · cases hs
noncomputable def rsignX : Orc := fun t args h => match t with
  | .fn f => match Nat.beq f k_purserref09_Sign with
    | true => (match args with
      | [.agg sc, .agg dc] => match unB sc, unB dc with
        | some s, some d => match is32 s && is32 d && byt s && byt d with
          | true => some (.slice (some (h.next, 0)) 64 none 1, h.new (.cells (ofI .u8 (s ++ shaV (s ++ d))) .sh))
          | false => none
        | _, _ => none
      | _ => none)
    | false => none
  | .yld _ => none
theorem rsignX_ok {P : Program} {g : Gn} (hE : Link P g E) (e : EnRs E) (hO : QOk P g rofX) : QOk P g rsignX := by
  intro t args h v h1 hc
  unfold rsignX at hc
  split at hc
  · rename_i f
    split at hc
    · rename_i hb
      obtain rfl := Nat.eq_of_beq_eq_true hb
      split at hc
      · rename_i sc dc
        split at hc
        · rename_i s d hs hd
          split at hc
          · rename_i hcond
            simp only [Bool.and_eq_true] at hcond
            cases hc
            have e1 := unB_I hs
            have e2 := unB_I hd
            subst e1; subst e2
            have h1 := is32_iff.1 hcond.1.1.1
            have h2 := is32_iff.1 hcond.1.1.2
            obtain ⟨h', p, r, hg⟩ := rsign_go e (X := rofX) (fun _ _ => rfl) rofX_has 0 s d h1 h2 hcond.1.2 hcond.2 (mkH [] 2)
            have l64 : (ofI .u8 (s ++ shaV (s ++ d))).length = 64 := by rw [ofI_len, List.length_append, h1, shaV_len]
            have := knew_ok (P := P) (g := g) (callX_ok hE hO (0 + 40)) (f := k_purserref09_Sign) (ps := [.d (.agg (ofI .u8 s)), .d (.agg (ofI .u8 d))]) (c := ofI .u8 (s ++ shaV (s ++ d))) (e := none) (p := p) (md := .sh) (cap := none) (h2 := h')
              (by simp only [okPs, okP_agg, Bool.and_self]) (datas_ofI _ _) rfl (by intro h; rw [h] at l64; cases l64) (by rw [l64]; exact r) rfl hg
            rw [l64] at this
            exact this _ h (by simp only [hitPs, hit_agg, Bool.and_self])
          · cases hc
        · cases hc
      · cases hc
    · cases hc
  · cases hc
/-- what the laws of sign know of the document -/
noncomputable def sfX : Orc := orX rofX (orX (pureX k_purserref09_Public pubRS) (orX rsignX (orX ofX1 (orX (pureX k_sign_Public pubS) (orX signX isX)))))
theorem f_rpub (N : Nat) (s : List Nat) (h : H) (hs : s.length = 32) (bs : byt s = true) : callX E sfX (N + 1) (.fn k_purserref09_Public) [.agg (ofI .u8 s)] h = some (.agg (ofI .u8 (shaV s)), h) := by
  refine x_known ((orX_r rfl).trans (orX_l (pureX_yes h ?_)))
  unfold pubRS
  simp only [unI, is32_of hs, bs, Bool.and_self]
theorem f_rsign (N : Nat) (s d : List Nat) (h : H) (hs : s.length = 32) (hd : d.length = 32) (bs : byt s = true) (bd : byt d = true) : callX E sfX (N + 1) (.fn k_purserref09_Sign) [.agg (ofI .u8 s), .agg (ofI .u8 d)] h = some (.slice (some (h.next, 0)) 64 none 1, h.new (.cells (ofI .u8 (s ++ shaV (s ++ d))) .sh)) := by
  refine x_known ((orX_r rfl).trans ((orX_r rfl).trans (orX_l ?_)))
  show (match unB (ofI .u8 s), unB (ofI .u8 d) with | some s, some d => (match is32 s && is32 d && byt s && byt d with | true => some (V.slice (some (h.next, 0)) 64 none 1, h.new (.cells (ofI .u8 (s ++ shaV (s ++ d))) .sh)) | false => none) | _, _ => none) = _
  simp only [unI, is32_of hs, is32_of hd, bs, bd, Bool.and_self]
theorem f_pub (N : Nat) (s : List Nat) (h : H) (hs : s.length = 32) : callX E sfX (N + 1) (.fn k_sign_Public) [.agg (ofI .u8 s)] h = some (.agg (ofI .u8 (shaV s)), h) := by
  refine x_known ((orX_r rfl).trans ((orX_r rfl).trans ((orX_r rfl).trans ((orX_r rfl).trans (orX_l (pureX_yes h ?_))))))
  unfold pubS
  simp only [unI, is32_of hs]
theorem f_sign (N : Nat) (s d : List Nat) (h : H) (hs : s.length = 32) (hd : d.length = 32) : callX E sfX (N + 1) (.fn k_sign_Sign) [.agg (ofI .u8 s), .agg (ofI .u8 d)] h = some (.slice (some (h.next, 0)) 64 none 1, h.new (.cells (ofI .u8 (s ++ shaV (s ++ d))) .sh)) := by
  refine x_known ((orX_r rfl).trans ((orX_r rfl).trans ((orX_r rfl).trans ((orX_r rfl).trans ((orX_r rfl).trans (orX_l ?_))))))
  show (match unB (ofI .u8 s), unB (ofI .u8 d) with | some s, some d => (match is32 s && is32 d with | true => some (V.slice (some (h.next, 0)) 64 none 1, h.new (.cells (ofI .u8 (s ++ shaV (s ++ d))) .sh)) | false => none) | _, _ => none) = _
  simp only [unI, is32_of hs, is32_of hd, Bool.and_self]
structure SF1 (q a b n : Nat) (h0 : H) (i : Nat) (T : Tr V) (h : H) : Prop where
  il : i ≤ n
  t2 : evO T (.t 2) = .ptr (some (a, 0))
  t3 : evO T (.t 3) = .ptr (some (b, 0))
  t5 : evO T (.t 5) = .slice (some (q, 0)) n none 1
  t6 : evO T (.t 6) = .bool true
  t26 : evO T (.t 26) = .int .i64 (n : Int)
  t27 : evO T (.t 27) = .int .i64 (i : Int)
  gq : ∃ cur, h.get q = some (.cells (ofI .u8 cur) .sh) ∧ cur.length = n
  eq : Eqx q h0 h
theorem stIs' (k : IntKind) (l : List Nat) (c : List V) (h : H) (i off : Nat) (hl : off + c.length ≤ l.length) : storeE (some (.cells (ofI k l) .sh)) h i off c = some (h.put i (.cells (writeN (ofI k l) off c) .sh)) := m_storeEs _ _ _ _ _ (by rw [ofI_len]; exact hl)
theorem sf_step (Q : Orc) (m q a b n : Nat) (hn : n < 1000) (h0 : H) : ∀ i T h, i < n → SF1 q a b n h0 i T h → ∃ T' h', evC Q 49 m none L_purserlaw09_SignForms_0 ⟨T, [], h⟩ = some (.normal, ⟨T', [], h'⟩) ∧ SF1 q a b n h0 (i + 1) T' h' := by
  intro i T h hi ⟨_, t2, t3, t5, t6, t26, t27, ⟨cur, gq, lc⟩, eq⟩
  have c0 : decide ((i : Int) < (n : Int)) = true := decide_eq_true (by omega)
  have wi : wr .i64 ((i : Int) + 1) = ((i + 1 : Nat) : Int) := by rw [wr_i64 (by omega)]; omega
  have ix : idx (i : Int) n = some i := idxn hi
  have cg : (ofI .u8 cur)[i]? = some (.int .u8 (cur.getD i 0 : Nat)) := ofI_get _ _ _ (by omega)
  have w8 : wr .u8 (((cur.getD i 0 : Nat) : Int) + 1) = (((cur.getD i 0 + 1) % 256 : Nat) : Int) := by rw [show ((cur.getD i 0 : Nat) : Int) + 1 = ((cur.getD i 0 + 1 : Nat) : Int) by omega, w8n]
  have ste := fun (h : H) (v : V) => stIs' .u8 cur [v] h q i (by simp only [List.length_cons, List.length_nil]; omega)
  have su := wr1I .u8 cur i ((cur.getD i 0 + 1) % 256) (by omega)
  generalize (cur.getD i 0 + 1) % 256 = y at *
  obtain ⟨c2, ec2⟩ : ∃ c, cur.set i y = c := ⟨_, rfl⟩
  have lc2 : c2.length = n := by rw [← ec2, List.length_set, lc]
  rw [ec2] at su
  refine ⟨_, _, by
    simp (config := {maxSteps := 2000000}) (disch := first | omega | (simp only [List.length_cons, List.length_nil, List.length_append, List.length_drop]; omega)) only [L_purserlaw09_SignForms_0, t5, t26, t27, gq, cg, c0, wi, ix, w8, ste, su, ↓b_xor32, ↓b_and32, ↓b_or32, ↓u_not32, b_xor32, b_and32, b_or32, u_not32, w32ad, ↓x_conv, x_convV, ↓x_fieldAddr, x_fieldV, ↓s_nilchk, x_nilchk, Nat.zero_add, Nat.add_zero, Nat.mul_one, ↓l_loop, ↓l_succ, ↓l_normal, l_normal, l_exit, l_ret, l_iteN, ↓h_put_get, ↓h_new_get, ↓h_del_get, h_next_put, h_next_new, h_next_del, Nat.add_assoc, Nat.add_eq_left, Nat.left_eq_add, Nat.add_left_cancel_iff, ↓s_load, m_load, ↓m_load1, m_load1, ↓m_st, m_stE, m_storeI, w_zero, w_succ, ↓s_alloc, ↓x_idxA, ↓x_idxS, x_idxAE, x_idxSE, x_addrE, x_idx, x_lenS, ↓s_len, ↓x_buildS, x_buildE, ↓x_P0, ↓x_P1, x_fill0, x_filli, x_fills, x_fillb, c_int, List.length_cons, List.length_nil, List.cons_append, List.drop_succ_cons, List.drop_zero, List.drop_nil, List.nil_append, Int.reduceAdd, Int.reduceToNat, Int.reduceLT, Int.reduceLE, Nat.reduceAdd, Nat.reduceMul, Nat.reduceLeDiff, Int.reduceEq, Int.reduceSub, Int.cast_ofNat_Int, s_resc, s_consR, m_load4, m_store4, s_res0, ↓s_skip, ↓s_ops, ↓s_dops, ↓s_seq, ↓s_cond, ↓s_block, ↓s_exit, ↓s_ret, ↓s_scope, ↓s_nil, ↓s_op, ↓s_opg, ↓s_wanted', ↓s_wantV, s_wantV, s_wantV0, beq_true, beq_false, ↓s_bindS, s_bindS, ↓s_bindE, s_bindE, s_bindE_ret, s_bindE_exit, s_bindE_iteN, s_norm, ↓s_condV, s_condV, s_block_ret, s_block_normal, s_block_exit, s_block_iteN, ↓s_getp, ↓s_getp0, ↓s_get, s_get0, ↓s_con, ↓s_fn, ↓s_os0, ↓s_os1, ↓s_list0, ↓s_list1, ↓s_mov, ↓s_pick, ↓s_pickE, s_pickE, ↓s_bin, ↓s_un, ↓s_minmax, ↓s_call, ↓s_callv, ↓s_callV, ↓s_ext, s_same, b_eql, b_neq, b_lss, b_leq, b_gtr, b_geq, b_add, b_sub, b_mul, b_eqlb, b_neqb, b_fnil, b_fnil', b_fnil2, b_fnil2', u_neg, u_not, m_two, s_end, s_end', s_end_iteN, s_res0, s_res1, s_tup1, s_tup2, ↓iteN_true, ↓iteN_false, iteN_true, iteN_false, Nat.zero_add, List.nil_append, List.append_nil, Nat.reduceEqDiff, reduceIte, decide_true, decide_false, Bool.not_true, Bool.not_false, List.getElem?_cons_zero, List.getElem?_cons_succ, Bool.false_eq_true, if_true, if_false, beq_self_eq_true]
    exact rfl, ⟨by omega, (by (simp only [s_getp, s_getp0, Nat.reduceEqDiff, decide_false, decide_true, iteN_false, iteN_true, t2]; try rfl)), (by (simp only [s_getp, s_getp0, Nat.reduceEqDiff, decide_false, decide_true, iteN_false, iteN_true, t3]; try rfl)), (by (simp only [s_getp, s_getp0, Nat.reduceEqDiff, decide_false, decide_true, iteN_false, iteN_true, t5]; try rfl)), (by (simp only [s_getp, s_getp0, Nat.reduceEqDiff, decide_false, decide_true, iteN_false, iteN_true, t6]; try rfl)), (by (simp only [s_getp, s_getp0, Nat.reduceEqDiff, decide_false, decide_true, iteN_false, iteN_true, t26]; try rfl)), (by (simp only [s_getp, s_getp0, Nat.reduceEqDiff, decide_false, decide_true, iteN_false, iteN_true, t27]; try rfl)), ⟨c2, by rw [h_put_same], lc2⟩, eq.put _⟩⟩
theorem sf_loop (Q : Orc) (m q a b n : Nat) (hm : n < m) (hn : n < 1000) (h0 : H) (T : Tr V) (h : H) (I : SF1 q a b n h0 0 T h) : ∃ T' h', loopN (evC Q 49 m none L_purserlaw09_SignForms_0) m ⟨T, [], h⟩ = some (.exit 0, ⟨T', [], h'⟩) ∧ SF1 q a b n h0 n T' h' :=
  loop_go (SF1 q a b n h0) n (.exit 0) (by intro h; cases h) _ (sf_step Q m q a b n hn h0) (fun T h I => by
    obtain ⟨il, t2, t3, t5, t6, t26, t27, gq, eq⟩ := I
    have c0 : decide ((n : Int) < (n : Int)) = false := decide_eq_false (by omega)
    refine ⟨_, _, by
      simp (config := {maxSteps := 2000000}) (disch := first | omega | (simp only [List.length_cons, List.length_nil, List.length_append, List.length_drop]; omega)) only [L_purserlaw09_SignForms_0, t26, t27, c0, ↓b_xor32, ↓b_and32, ↓b_or32, ↓u_not32, b_xor32, b_and32, b_or32, u_not32, w32ad, ↓x_conv, x_convV, ↓x_fieldAddr, x_fieldV, ↓s_nilchk, x_nilchk, Nat.zero_add, Nat.add_zero, Nat.mul_one, ↓l_loop, ↓l_succ, ↓l_normal, l_normal, l_exit, l_ret, l_iteN, ↓h_put_get, ↓h_new_get, ↓h_del_get, h_next_put, h_next_new, h_next_del, Nat.add_assoc, Nat.add_eq_left, Nat.left_eq_add, Nat.add_left_cancel_iff, ↓s_load, m_load, ↓m_load1, m_load1, ↓m_st, m_stE, m_storeI, m_storeE, w_zero, w_succ, ↓s_alloc, ↓x_idxA, ↓x_idxS, x_idxAE, x_idxSE, x_addrE, x_idx, x_lenS, ↓s_len, ↓x_buildS, x_buildE, ↓x_P0, ↓x_P1, x_fill0, x_filli, x_fills, x_fillb, c_int, List.length_cons, List.length_nil, List.cons_append, List.drop_succ_cons, List.drop_zero, List.drop_nil, List.nil_append, Int.reduceAdd, Int.reduceToNat, Int.reduceLT, Int.reduceLE, Nat.reduceAdd, Nat.reduceMul, Nat.reduceLeDiff, Int.reduceEq, Int.reduceSub, Int.cast_ofNat_Int, s_resc, s_consR, m_load4, m_store4, s_res0, ↓s_skip, ↓s_ops, ↓s_dops, ↓s_seq, ↓s_cond, ↓s_block, ↓s_exit, ↓s_ret, ↓s_scope, ↓s_nil, ↓s_op, ↓s_opg, ↓s_wanted', ↓s_wantV, s_wantV, s_wantV0, beq_true, beq_false, ↓s_bindS, s_bindS, ↓s_bindE, s_bindE, s_bindE_ret, s_bindE_exit, s_bindE_iteN, s_norm, ↓s_condV, s_condV, s_block_ret, s_block_normal, s_block_exit, s_block_iteN, ↓s_getp, ↓s_getp0, ↓s_get, s_get0, ↓s_con, ↓s_fn, ↓s_os0, ↓s_os1, ↓s_list0, ↓s_list1, ↓s_mov, ↓s_pick, ↓s_pickE, s_pickE, ↓s_bin, ↓s_un, ↓s_minmax, ↓s_call, ↓s_callv, ↓s_callV, ↓s_ext, s_same, b_eql, b_neq, b_lss, b_leq, b_gtr, b_geq, b_add, b_sub, b_mul, b_eqlb, b_neqb, b_fnil, b_fnil', b_fnil2, b_fnil2', u_neg, u_not, m_two, s_end, s_end', s_end_iteN, s_res0, s_res1, s_tup1, s_tup2, ↓iteN_true, ↓iteN_false, iteN_true, iteN_false, Nat.zero_add, List.nil_append, List.append_nil, Nat.reduceEqDiff, reduceIte, decide_true, decide_false, Bool.not_true, Bool.not_false, List.getElem?_cons_zero, List.getElem?_cons_succ, Bool.false_eq_true, if_true, if_false, beq_self_eq_true]
      exact rfl, ⟨il, (by (simp only [s_getp, s_getp0, Nat.reduceEqDiff, decide_false, decide_true, iteN_false, iteN_true, t2]; try rfl)), (by (simp only [s_getp, s_getp0, Nat.reduceEqDiff, decide_false, decide_true, iteN_false, iteN_true, t3]; try rfl)), (by (simp only [s_getp, s_getp0, Nat.reduceEqDiff, decide_false, decide_true, iteN_false, iteN_true, t5]; try rfl)), (by (simp only [s_getp, s_getp0, Nat.reduceEqDiff, decide_false, decide_true, iteN_false, iteN_true, t6]; try rfl)), (by (simp only [s_getp, s_getp0, Nat.reduceEqDiff, decide_false, decide_true, iteN_false, iteN_true, t26]; try rfl)), (by (simp only [s_getp, s_getp0, Nat.reduceEqDiff, decide_false, decide_true, iteN_false, iteN_true, t27]; try rfl)), gq, eq⟩⟩) n 0 (by omega) m hm T h I
set_option maxRecDepth 100000 in
theorem law_SignForms (N : Nat) (e : E k_purserlaw09_SignForms = some f_purserlaw09_SignForms) (hx : ∀ a h, sfX (.fn k_purserlaw09_SignForms) a h = none) (s d : List Nat) (hs : s.length = 32) (hd : d.length = 32) (bs : byt s = true) (bd : byt d = true) (h : H) :
    ∃ h2, callX E sfX (N + 102) (.fn k_purserlaw09_SignForms) [.agg (ofI .u8 s), .agg (ofI .u8 d)] h = some (.bool true, h2) := by
  rw [x_cfn e _ _ (Nat.le_of_ble_eq_true rfl) (hx _ _)]
  have r1 := fun h => f_rpub (E := E) (N + 100) s h hs bs
  have r2 := fun h => f_rsign (E := E) (N + 100) s d h hs hd bs bd
  have r3 := fun s h => f_pub (E := E) (N + 100) s h
  have r4 := fun s d h => f_sign (E := E) (N + 100) s d h
  have lsd : (s ++ shaV (s ++ d)).length = 64 := by rw [List.length_append, shaV_len]; omega
  have bsd : byt (s ++ shaV (s ++ d)) = true := byt_app' bs (shaV_byt _)
  obtain ⟨SG, eSG⟩ : ∃ l, s ++ shaV (s ++ d) = l := ⟨_, rfl⟩
  rw [eSG] at lsd bsd
  have ns : ∀ md, nsE (some (.cells (ofI .u8 SG) md)) 0 64 = some (.str SG) := fun md => by rw [nsI _ bsd _ _ _ (by omega), List.drop_zero, take_all _ _ (by omega)]
  have lv := shaV_len s
  obtain ⟨h1, e1⟩ : ∃ h1, (((h.new (.cells (ofI .u8 s) .rw)).new (.cells (ofI .u8 d) .rw)).new (.cells (ofI .u8 SG) .sh)).new (.cells (ofI .u8 SG) .sh) = h1 := ⟨_, rfl⟩
  have n1 : h1.next = h.next + 4 := by rw [← e1]; rfl
  have g0 : h1.get h.next = some (.cells (ofI .u8 s) .rw) := by rw [← e1]; (simp (disch := omega) only [l_loop, l_succ, l_normal, l_normal, l_exit, l_ret, l_iteN, h_put_get, h_new_get, h_del_get, h_next_put, h_next_new, h_next_del, Nat.add_assoc, Nat.add_eq_left, Nat.left_eq_add, Nat.add_left_cancel_iff, s_load, m_load, m_load1, m_load1, m_st, m_stE, m_storeI, m_storeE, w_zero, w_succ, s_alloc, x_idxA, x_idxS, x_idxAE, x_idxSE, x_addrE, x_idx, x_lenS, s_len, x_buildS, x_buildE, x_P0, x_P1, x_fill0, x_filli, x_fills, x_fillb, c_int, List.length_cons, List.length_nil, List.cons_append, List.drop_succ_cons, List.drop_zero, List.drop_nil, List.nil_append, Int.reduceAdd, Int.reduceToNat, Int.reduceLT, Int.reduceLE, Nat.reduceAdd, Nat.reduceMul, Nat.reduceLeDiff, Int.reduceEq, Int.reduceSub, Int.cast_ofNat_Int, s_resc, s_consR, m_load4, m_store4, s_res0, decide_true, decide_false, iteN_true, iteN_false, Nat.reduceEqDiff, Nat.reduceAdd, reduceCtorEq, lv]; try rfl)
  have g1 : h1.get (h.next + 1) = some (.cells (ofI .u8 d) .rw) := by rw [← e1]; (simp (disch := omega) only [l_loop, l_succ, l_normal, l_normal, l_exit, l_ret, l_iteN, h_put_get, h_new_get, h_del_get, h_next_put, h_next_new, h_next_del, Nat.add_assoc, Nat.add_eq_left, Nat.left_eq_add, Nat.add_left_cancel_iff, s_load, m_load, m_load1, m_load1, m_st, m_stE, m_storeI, m_storeE, w_zero, w_succ, s_alloc, x_idxA, x_idxS, x_idxAE, x_idxSE, x_addrE, x_idx, x_lenS, s_len, x_buildS, x_buildE, x_P0, x_P1, x_fill0, x_filli, x_fills, x_fillb, c_int, List.length_cons, List.length_nil, List.cons_append, List.drop_succ_cons, List.drop_zero, List.drop_nil, List.nil_append, Int.reduceAdd, Int.reduceToNat, Int.reduceLT, Int.reduceLE, Nat.reduceAdd, Nat.reduceMul, Nat.reduceLeDiff, Int.reduceEq, Int.reduceSub, Int.cast_ofNat_Int, s_resc, s_consR, m_load4, m_store4, s_res0, decide_true, decide_false, iteN_true, iteN_false, Nat.reduceEqDiff, Nat.reduceAdd, reduceCtorEq, lv]; try rfl)
  have g2 : h1.get (h.next + 2) = some (.cells (ofI .u8 SG) .sh) := by rw [← e1]; (simp (disch := omega) only [l_loop, l_succ, l_normal, l_normal, l_exit, l_ret, l_iteN, h_put_get, h_new_get, h_del_get, h_next_put, h_next_new, h_next_del, Nat.add_assoc, Nat.add_eq_left, Nat.left_eq_add, Nat.add_left_cancel_iff, s_load, m_load, m_load1, m_load1, m_st, m_stE, m_storeI, m_storeE, w_zero, w_succ, s_alloc, x_idxA, x_idxS, x_idxAE, x_idxSE, x_addrE, x_idx, x_lenS, s_len, x_buildS, x_buildE, x_P0, x_P1, x_fill0, x_filli, x_fills, x_fillb, c_int, List.length_cons, List.length_nil, List.cons_append, List.drop_succ_cons, List.drop_zero, List.drop_nil, List.nil_append, Int.reduceAdd, Int.reduceToNat, Int.reduceLT, Int.reduceLE, Nat.reduceAdd, Nat.reduceMul, Nat.reduceLeDiff, Int.reduceEq, Int.reduceSub, Int.cast_ofNat_Int, s_resc, s_consR, m_load4, m_store4, s_res0, decide_true, decide_false, iteN_true, iteN_false, Nat.reduceEqDiff, Nat.reduceAdd, reduceCtorEq, lv]; try rfl)
  have g3 : h1.get (h.next + 3) = some (.cells (ofI .u8 SG) .sh) := by rw [← e1]; (simp (disch := omega) only [l_loop, l_succ, l_normal, l_normal, l_exit, l_ret, l_iteN, h_put_get, h_new_get, h_del_get, h_next_put, h_next_new, h_next_del, Nat.add_assoc, Nat.add_eq_left, Nat.left_eq_add, Nat.add_left_cancel_iff, s_load, m_load, m_load1, m_load1, m_st, m_stE, m_storeI, m_storeE, w_zero, w_succ, s_alloc, x_idxA, x_idxS, x_idxAE, x_idxSE, x_addrE, x_idx, x_lenS, s_len, x_buildS, x_buildE, x_P0, x_P1, x_fill0, x_filli, x_fills, x_fillb, c_int, List.length_cons, List.length_nil, List.cons_append, List.drop_succ_cons, List.drop_zero, List.drop_nil, List.nil_append, Int.reduceAdd, Int.reduceToNat, Int.reduceLT, Int.reduceLE, Nat.reduceAdd, Nat.reduceMul, Nat.reduceLeDiff, Int.reduceEq, Int.reduceSub, Int.cast_ofNat_Int, s_resc, s_consR, m_load4, m_store4, s_res0, decide_true, decide_false, iteN_true, iteN_false, Nat.reduceEqDiff, Nat.reduceAdd, reduceCtorEq, lv]; try rfl)
  have fin : ∀ T, SF1 (h.next + 2) h.next (h.next + 1) 64 h1 0 T h1 → ∃ h2, fnEnd [.tmp 4] (bindE (blockE 0 (loopN (evC (callX E sfX (N + 101)) 49 (N + 101) none L_purserlaw09_SignForms_0) (N + 101) ⟨T, [], h1⟩)) (evC (callX E sfX (N + 101)) 49 (N + 101) none R_purserlaw09_SignForms_0)) = some (.bool true, h2) := by
    intro T I
    obtain ⟨T', h3, r, il, t2, t3, t5, t6, t26, t27, gq, eq⟩ := sf_loop (callX E sfX (N + 101)) (N + 101) (h.next + 2) h.next (h.next + 1) 64 (by omega) (by omega) h1 T h1 I
    rw [r]
    have k0 : h3.get h.next = some (.cells (ofI .u8 s) .rw) := by rw [eq.2 _ (by omega), g0]
    have k1 : h3.get (h.next + 1) = some (.cells (ofI .u8 d) .rw) := by rw [eq.2 _ (by omega), g1]
    have n3 : h3.next = h.next + 4 := by rw [eq.1, n1]
    simp (config := {maxSteps := 2000000}) (disch := first | omega | rfl | (simp only [ofI_len, shaV_len, List.length_append, List.length_take, List.length_drop, List.length_cons, List.length_nil, List.length_replicate, List.length_set]; done) | (simp only [ofI_len, shaV_len, List.length_append, List.length_take, List.length_drop, List.length_cons, List.length_nil, List.length_replicate, List.length_set]; omega)) only [R_purserlaw09_SignForms_0, t2, t3, t6, k0, k1, n3, hs, hd, bs, bd, lsd, eSG, r1, r2, r3, r4, ns, ↓ns_b2s, nx_bs1, b_seq, vbeq_I, vbeq_str, ↓s_dBuildS, s_dbE, rdI, ofI_get, m_src, m_src0, srcI, ldI, ld1I, wrAll, wrI, wr1I, stI, st32, take_all, drop_all, List.take_zero, List.drop_zero, List.nil_append, List.append_nil, appF_of, appFI, appF0, appU_of, appUIw, appUIs, app0, appN, eq32, neq32, ↓s_append, ↓x_copy, ↓x_slcA, x_slcAE, slcB_nn, slcB_hi, slcB_lo, slcB_lh, slcV_nn, slcV_hiU, slcV_hiC, slcV_lo, slcV_loL, slcV_hiUL, slcV_hiCL, slcV_mxL, slcB_hiL, slcB_loL, subC_some, subC_none, ↓x_slcS, x_bnd0, x_M1, x_M0, x_lenA, ofQ_some, Nat.sub_zero, ofI_len, shaV_len, ↓s_box, c_agg, List.length_append, List.length_cons, List.length_nil, Nat.reduceLeDiff, Nat.reduceSub, List.length_replicate, ↓b_xor32, ↓b_and32, ↓b_or32, ↓u_not32, b_xor32, b_and32, b_or32, u_not32, w32ad, ↓x_conv, x_convV, ↓x_fieldAddr, x_fieldV, ↓s_nilchk, x_nilchk, Nat.zero_add, Nat.add_zero, Nat.mul_one, ↓s_evD, ↓s_dnil, ↓s_dL, ↓s_dLg, ↓s_dR, ↓s_dRg, ↓s_dRj, ↓s_dRjg, ↓s_dB, ↓s_dBg, ↓s_dAlloc, ↓s_bindD, s_bindD, s_finD, s_finDx, s_addP0, s_addP1, s_addB, s_lookP, ↓s_bump0, ↓s_bump_get, s_bump_next, s_ok0, ↓s_ok1, s_okR0, ↓s_okR1, ↓s_okE, s_okE, s_okE1, s_nth0, s_nthS, Nat.add_zero, Bool.and_self, Bool.and_true, Bool.true_and, ↓l_loop, ↓l_succ, ↓l_normal, l_normal, l_exit, l_ret, l_iteN, ↓h_put_get, ↓h_new_get, ↓h_del_get, h_next_put, h_next_new, h_next_del, Nat.add_assoc, Nat.add_eq_left, Nat.left_eq_add, Nat.add_left_cancel_iff, ↓s_load, m_load, ↓m_load1, m_load1, ↓m_st, m_stE, m_storeI, m_storeE, ↓s_alloc, ↓x_idxA, ↓x_idxS, x_idxAE, x_idxSE, x_addrE, x_idx, x_lenS, ↓s_len, ↓x_buildS, x_buildE, ↓x_P0, ↓x_P1, x_fill0, x_filli, x_fills, x_fillb, c_int, List.length_cons, List.length_nil, List.cons_append, List.drop_succ_cons, List.drop_zero, List.drop_nil, List.nil_append, Int.reduceAdd, Int.reduceToNat, Int.reduceLT, Int.reduceLE, Nat.reduceAdd, Nat.reduceMul, Nat.reduceLeDiff, Int.reduceEq, Int.reduceSub, Int.cast_ofNat_Int, s_resc, s_consR, m_load4, m_store4, s_res0, ↓s_skip, ↓s_ops, ↓s_dops, ↓s_seq, ↓s_cond, ↓s_block, ↓s_exit, ↓s_ret, ↓s_scope, ↓s_nil, ↓s_op, ↓s_opg, ↓s_wanted', ↓s_wantV, s_wantV, s_wantV0, beq_true, beq_false, ↓s_bindS, s_bindS, ↓s_bindE, s_bindE, s_bindE_ret, s_bindE_exit, s_bindE_iteN, s_norm, ↓s_condV, s_condV, s_block_ret, s_block_normal, s_block_exit, s_block_iteN, ↓s_getp, ↓s_getp0, ↓s_get, s_get0, ↓s_con, ↓s_fn, ↓s_os0, ↓s_os1, ↓s_list0, ↓s_list1, ↓s_mov, ↓s_pick, ↓s_pickE, s_pickE, ↓s_bin, ↓s_un, ↓s_minmax, ↓s_call, ↓s_callv, ↓s_callV, ↓s_ext, s_same, b_eql, b_neq, b_lss, b_leq, b_gtr, b_geq, b_add, b_sub, b_mul, b_eqlb, b_neqb, b_fnil, b_fnil', b_fnil2, b_fnil2', u_neg, u_not, m_two, s_end, s_end', s_end_iteN, s_res0, s_res1, s_tup1, s_tup2, ↓iteN_true, ↓iteN_false, iteN_true, iteN_false, Nat.zero_add, List.nil_append, List.append_nil, Nat.reduceEqDiff, reduceIte, decide_true, decide_false, Bool.not_true, Bool.not_false, List.getElem?_cons_zero, List.getElem?_cons_succ, Bool.false_eq_true, if_true, if_false, beq_self_eq_true]
    exact ⟨_, rfl⟩
  obtain ⟨R, eR⟩ : ∃ R, R_purserlaw09_SignForms_0 = R := ⟨_, rfl⟩
  obtain ⟨Lo, eL⟩ : ∃ R, L_purserlaw09_SignForms_0 = R := ⟨_, rfl⟩
  rw [eR, eL] at fin ⊢
  simp (config := {maxSteps := 2000000}) (disch := first | omega | rfl | (simp only [ofI_len, shaV_len, List.length_append, List.length_take, List.length_drop, List.length_cons, List.length_nil, List.length_replicate, List.length_set]; done) | (simp only [ofI_len, shaV_len, List.length_append, List.length_take, List.length_drop, List.length_cons, List.length_nil, List.length_replicate, List.length_set]; omega)) only [hs, hd, bs, bd, lv, lsd, eSG, e1, g0, g1, g2, g3, r1, r2, r3, r4, ns, ↓ns_b2s, nx_bs1, b_seq, vbeq_I, vbeq_str, ↓s_len, x_lenS, ↓s_dBuildS, s_dbE, rdI, ofI_get, m_src, m_src0, srcI, ldI, ld1I, wrAll, wrI, wr1I, stI, st32, take_all, drop_all, List.take_zero, List.drop_zero, List.nil_append, List.append_nil, appF_of, appFI, appF0, appU_of, appUIw, appUIs, app0, appN, eq32, neq32, ↓s_append, ↓x_copy, ↓x_slcA, x_slcAE, slcB_nn, slcB_hi, slcB_lo, slcB_lh, slcV_nn, slcV_hiU, slcV_hiC, slcV_lo, slcV_loL, slcV_hiUL, slcV_hiCL, slcV_mxL, slcB_hiL, slcB_loL, subC_some, subC_none, ↓x_slcS, x_bnd0, x_M1, x_M0, x_lenA, ofQ_some, Nat.sub_zero, ofI_len, shaV_len, ↓s_box, c_agg, List.length_append, List.length_cons, List.length_nil, Nat.reduceLeDiff, Nat.reduceSub, List.length_replicate, ↓b_xor32, ↓b_and32, ↓b_or32, ↓u_not32, b_xor32, b_and32, b_or32, u_not32, w32ad, ↓x_conv, x_convV, ↓x_fieldAddr, x_fieldV, ↓s_nilchk, x_nilchk, Nat.zero_add, Nat.add_zero, Nat.mul_one, ↓s_evD, ↓s_dnil, ↓s_dL, ↓s_dLg, ↓s_dR, ↓s_dRg, ↓s_dRj, ↓s_dRjg, ↓s_dB, ↓s_dBg, ↓s_dAlloc, ↓s_bindD, s_bindD, s_finD, s_finDx, s_addP0, s_addP1, s_addB, s_lookP, ↓s_bump0, ↓s_bump_get, s_bump_next, s_ok0, ↓s_ok1, s_okR0, ↓s_okR1, ↓s_okE, s_okE, s_okE1, s_nth0, s_nthS, Nat.add_zero, Bool.and_self, Bool.and_true, Bool.true_and, ↓l_loop, ↓l_succ, ↓l_normal, l_normal, l_exit, l_ret, l_iteN, ↓h_put_get, ↓h_new_get, ↓h_del_get, h_next_put, h_next_new, h_next_del, Nat.add_assoc, Nat.add_eq_left, Nat.left_eq_add, Nat.add_left_cancel_iff, ↓s_load, m_load, ↓m_load1, m_load1, ↓m_st, m_stE, m_storeI, m_storeE, ↓s_alloc, ↓x_idxA, ↓x_idxS, x_idxAE, x_idxSE, x_addrE, x_idx, x_lenS, ↓s_len, ↓x_buildS, x_buildE, ↓x_P0, ↓x_P1, x_fill0, x_filli, x_fills, x_fillb, c_int, List.length_cons, List.length_nil, List.cons_append, List.drop_succ_cons, List.drop_zero, List.drop_nil, List.nil_append, Int.reduceAdd, Int.reduceToNat, Int.reduceLT, Int.reduceLE, Nat.reduceAdd, Nat.reduceMul, Nat.reduceLeDiff, Int.reduceEq, Int.reduceSub, Int.cast_ofNat_Int, s_resc, s_consR, m_load4, m_store4, s_res0, ↓s_skip, ↓s_ops, ↓s_dops, ↓s_seq, ↓s_cond, ↓s_block, ↓s_exit, ↓s_ret, ↓s_scope, ↓s_nil, ↓s_op, ↓s_opg, ↓s_wanted', ↓s_wantV, s_wantV, s_wantV0, beq_true, beq_false, ↓s_bindS, s_bindS, ↓s_bindE, s_bindE, s_bindE_ret, s_bindE_exit, s_bindE_iteN, s_norm, ↓s_condV, s_condV, s_block_ret, s_block_normal, s_block_exit, s_block_iteN, ↓s_getp, ↓s_getp0, ↓s_get, s_get0, ↓s_con, ↓s_fn, ↓s_os0, ↓s_os1, ↓s_list0, ↓s_list1, ↓s_mov, ↓s_pick, ↓s_pickE, s_pickE, ↓s_bin, ↓s_un, ↓s_minmax, ↓s_call, ↓s_callv, ↓s_callV, ↓s_ext, s_same, b_eql, b_neq, b_lss, b_leq, b_gtr, b_geq, b_add, b_sub, b_mul, b_eqlb, b_neqb, b_fnil, b_fnil', b_fnil2, b_fnil2', u_neg, u_not, m_two, s_end, s_end', s_end_iteN, s_res0, s_res1, s_tup1, s_tup2, ↓iteN_true, ↓iteN_false, iteN_true, iteN_false, Nat.zero_add, List.nil_append, List.append_nil, Nat.reduceEqDiff, reduceIte, decide_true, decide_false, Bool.not_true, Bool.not_false, List.getElem?_cons_zero, List.getElem?_cons_succ, Bool.false_eq_true, if_true, if_false, beq_self_eq_true]
  exact fin _ ⟨by omega, (by (simp only [s_getp, s_getp0, Nat.reduceEqDiff, decide_false, decide_true, iteN_false, iteN_true, eR]; try rfl)), (by (simp only [s_getp, s_getp0, Nat.reduceEqDiff, decide_false, decide_true, iteN_false, iteN_true, eR]; try rfl)), (by (simp only [s_getp, s_getp0, Nat.reduceEqDiff, decide_false, decide_true, iteN_false, iteN_true, eR]; try rfl)), (by (simp only [s_getp, s_getp0, Nat.reduceEqDiff, decide_false, decide_true, iteN_false, iteN_true, eR]; try rfl)), (by (simp only [s_getp, s_getp0, Nat.reduceEqDiff, decide_false, decide_true, iteN_false, iteN_true, eR]; try rfl)), (by (simp only [s_getp, s_getp0, Nat.reduceEqDiff, decide_false, decide_true, iteN_false, iteN_true, eR]; try rfl)), ⟨SG, g2, lsd⟩, Eqx.refl _ _⟩
end Go.Eng
