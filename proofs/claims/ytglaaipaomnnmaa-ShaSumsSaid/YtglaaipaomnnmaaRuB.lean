/- What functions of the program come to: own work. -/
import Derived.Test.YtglaaipaomnnmaaRfA
import Derived.Test.YtglaaipaomnnmaaSkA
import Derived.Test.YtglaaipaomnnmaaSlF
import Derived.Test.YtglaaipaomnnmaaRuF
import Derived.Test.YtglaaipaomnnmaaArgs
namespace Go.Eng
open Go
variable {E : Nat → Option Fn} {X : Orc}
set_option linter.unusedSimpArgs false
set_option linter.unusedVariables false
/-! the document's hash, known -/
def rofS (l : List Nat) : Option V := if decide (l.length ≤ 100000) && byt l then some (.agg (ofI .u8 (shaV l))) else none
noncomputable def rofX : Orc := bytesX k_purserref04_Of rofS
theorem noRf_no : NoRf noX := ⟨fun _ _ => rfl, fun _ _ => rfl, fun _ _ => rfl, fun _ _ => rfl, fun _ _ => rfl⟩
theorem rofX_ok {P : Program} {g : Gn} (hE : Link P g E) (e : EnRf E) : QOk P g rofX := by
  refine bytesX_ok (callX_ok hE noX_ok (5000 + 300)) ?_
  intro l v hs
  unfold rofS at hs
  split at hs
  · rename_i hb
    cases hs
    simp only [Bool.and_eq_true, decide_eq_true_eq] at hb
    refine ⟨by simp only [dataV, datas_ofI], ?_, ?_⟩
    · intro h0 a c z
      subst h0
      have hz : ∀ z, ∃ h', callX E noX (5000 + 300) (.fn k_purserref04_Of) [.slice a ([] : List Nat).length c z] (mkH [] 1) = some (.agg (ofI .u8 (shaV [])), h') := by
        intro z
        obtain ⟨h', r, _⟩ := rof_goz e noRf_no 5000 [] rfl (by simp) (by omega) a c z (mkH [] 1) (.inl rfl)
        exact ⟨h', r⟩
      exact hz z
    · intro hne c
      obtain ⟨h', r, _⟩ := rof_goz e noRf_no 5000 l hb.2 hb.1 (by omega) (some (0, 0)) c 1 (mkH [(0, ofBytes l)] 1) (.inr ⟨0, 0, ofBytes l, .ro, rfl, rfl, Nat.zero_lt_one, rfl, by rw [ofB_len]; omega, (by rw [List.drop_zero, ← ofI_u8]; exact List.take_of_length_le (by rw [ofI_len]; omega))⟩)
      exact ⟨h', r⟩
  · cases hs
def HasRof (X : Orc) : Prop := ∀ x h l v, rdB h x = some l → rofS l = some v → X (.fn k_purserref04_Of) [x] h = some (v, h)
noncomputable def rofQ (r : Option (List Nat)) (fb : Option (V × H)) (h : H) : Option (V × H) := match r with
  | some l => match rofS l with
    | some v => some (v, h)
    | none => fb
  | none => fb
@[congr] theorem rofQ_congr {r r' : Option (List Nat)} {fb : Option (V × H)} {h : H} (e : r = r') : rofQ r fb h = rofQ r' fb h := by rw [e]
theorem x_rofQ (hx : HasRof X) (N i off n : Nat) (c : Option Nat) (h : H) : callX E X (N + 1) (.fn k_purserref04_Of) [.slice (some (i, off)) (n + 1) c 1] h = rofQ (rdC (n + 1) off (h.get i)) (callX E X (N + 1) (.fn k_purserref04_Of) [.slice (some (i, off)) (n + 1) c 1] h) h := by
  unfold rofQ
  cases hr : rdC (n + 1) off (h.get i) with
  | none => rfl
  | some l =>
    simp only
    cases hv : rofS l with
    | none => rfl
    | some v => exact x_known (hx _ _ l _ hr hv)
theorem rofQ_some (l : List Nat) (hl : l.length ≤ 100000) (hb : byt l = true) (fb : Option (V × H)) (h : H) : rofQ (some l) fb h = some (.agg (ofI .u8 (shaV l)), h) := by
  unfold rofQ rofS; simp only [hl, hb, decide_true, Bool.and_self, if_true]
structure EnRs (E : Nat → Option Fn) : Prop where
  pub : E k_purserref09_Public = some f_purserref09_Public
  sign : E k_purserref09_Sign = some f_purserref09_Sign
theorem rpub_go (e : EnRs E) (x : ∀ a h, X (.fn k_purserref09_Public) a h = none) (hx : HasRof X) (N : Nat) (s : List Nat) (hs : s.length = 32) (bs : byt s = true) (h : H) : ∃ h', callX E X (N + 2) (.fn k_purserref09_Public) [.agg (ofI .u8 s)] h = some (.agg (ofI .u8 (shaV s)), h') := by
  rw [x_cfn e.pub _ _ (Nat.le_of_ble_eq_true rfl) (x _ _)]
  have fo := fun i off n c h => x_rofQ (E := E) hx N i off n c h
  have ro := fun fb h => rofQ_some s (by omega) bs fb h
  have lv := shaV_len s
  rw [← z32e]
  simp (config := {maxSteps := 2000000}) (disch := first | omega | rfl | (simp only [ofI_len, shaV_len, List.length_append, List.length_take, List.length_drop, List.length_cons, List.length_nil, List.length_replicate, List.length_set]; done) | (simp only [ofI_len, shaV_len, List.length_append, List.length_take, List.length_drop, List.length_cons, List.length_nil, List.length_replicate, List.length_set]; omega)) only [hs, ↓fo, ro, ↓s_dBuildS, s_dbE, rdI, ofI_get, m_src, m_src0, srcI, ldI, ld1I, wrAll, wrI, wr1I, stI, st32, take_all, drop_all, List.take_zero, List.drop_zero, List.nil_append, List.append_nil, appF_of, appFI, appF0, appU_of, appUIw, appUIs, app0, appN, eq32, neq32, ↓s_append, ↓x_copy, ↓x_slcA, x_slcAE, slcB_nn, slcB_hi, slcB_lo, slcB_lh, slcV_nn, slcV_hiU, slcV_hiC, slcV_lo, slcV_loL, slcV_hiUL, slcV_hiCL, slcV_mxL, slcB_hiL, slcB_loL, subC_some, subC_none, ↓x_slcS, x_bnd0, x_M1, x_M0, x_lenA, ofQ_some, Nat.sub_zero, ofI_len, shaV_len, ↓s_box, c_agg, List.length_append, List.length_cons, List.length_nil, Nat.reduceLeDiff, Nat.reduceSub, List.length_replicate, ↓b_xor32, ↓b_and32, ↓b_or32, ↓u_not32, b_xor32, b_and32, b_or32, u_not32, w32ad, ↓x_conv, x_convV, ↓x_fieldAddr, x_fieldV, ↓s_nilchk, x_nilchk, Nat.zero_add, Nat.add_zero, Nat.mul_one, ↓l_loop, ↓l_succ, ↓l_normal, l_normal, l_exit, l_ret, l_iteN, ↓h_put_get, ↓h_new_get, ↓h_del_get, h_next_put, h_next_new, h_next_del, Nat.add_assoc, Nat.add_eq_left, Nat.left_eq_add, Nat.add_left_cancel_iff, ↓s_load, m_load, ↓m_load1, m_load1, ↓m_st, m_stE, m_storeI, m_storeE, ↓s_alloc, ↓x_idxA, ↓x_idxS, x_idxAE, x_idxSE, x_addrE, x_idx, x_lenS, ↓s_len, ↓x_buildS, x_buildE, ↓x_P0, ↓x_P1, x_fill0, x_filli, x_fills, x_fillb, c_int, List.length_cons, List.length_nil, List.cons_append, List.drop_succ_cons, List.drop_zero, List.drop_nil, List.nil_append, Int.reduceAdd, Int.reduceToNat, Int.reduceLT, Int.reduceLE, Nat.reduceAdd, Nat.reduceMul, Nat.reduceLeDiff, Int.reduceEq, Int.reduceSub, Int.cast_ofNat_Int, s_resc, s_consR, m_load4, m_store4, s_res0, ↓s_skip, ↓s_ops, ↓s_dops, ↓s_seq, ↓s_cond, ↓s_block, ↓s_exit, ↓s_ret, ↓s_scope, ↓s_nil, ↓s_op, ↓s_opg, ↓s_wanted', ↓s_wantV, s_wantV, s_wantV0, beq_true, beq_false, ↓s_bindS, s_bindS, ↓s_bindE, s_bindE, s_bindE_ret, s_bindE_exit, s_bindE_iteN, s_norm, ↓s_condV, s_condV, s_block_ret, s_block_normal, s_block_exit, s_block_iteN, ↓s_getp, ↓s_getp0, ↓s_get, s_get0, ↓s_con, ↓s_fn, ↓s_os0, ↓s_os1, ↓s_list0, ↓s_list1, ↓s_mov, ↓s_pick, ↓s_pickE, s_pickE, ↓s_bin, ↓s_un, ↓s_minmax, ↓s_call, ↓s_callv, ↓s_callV, ↓s_ext, s_same, b_eql, b_neq, b_lss, b_leq, b_gtr, b_geq, b_add, b_sub, b_mul, b_eqlb, b_neqb, b_fnil, b_fnil', b_fnil2, b_fnil2', u_neg, u_not, m_two, s_end, s_end', s_end_iteN, s_res0, s_res1, s_tup1, s_tup2, ↓iteN_true, ↓iteN_false, iteN_true, iteN_false, Nat.zero_add, List.nil_append, List.append_nil, Nat.reduceEqDiff, reduceIte, decide_true, decide_false, Bool.not_true, Bool.not_false, List.getElem?_cons_zero, List.getElem?_cons_succ, Bool.false_eq_true, if_true, if_false, beq_self_eq_true]
  exact ⟨_, rfl⟩
structure RS (a b : Nat) (s d : List Nat) (h0 : H) (i : Nat) (T : Tr V) (h : H) : Prop where
  il : i ≤ 32
  t2 : evO T (.t 2) = .ptr (some (a, 0))
  t3 : evO T (.t 3) = .ptr (some (b, 0))
  t6 : evO T (.t 6) = .int .i64 (i : Int)
  t5 : (i = 0 ∧ evO T (.t 5) = .slice none 0 (some 0) 0) ∨ (0 < i ∧ ∃ p md, evO T (.t 5) = .slice (some (p, 0)) i none 1 ∧ h.get p = some (.cells (ofI .u8 (s.take i)) md) ∧ isRo md = false ∧ h0.next ≤ p ∧ p < h.next)
  kp : Kp h0 h
theorem rs_step (Q : Orc) (n a b : Nat) (s d : List Nat) (hs : s.length = 32) (h0 : H) (ha : a < h0.next) (ga : h0.get a = some (.cells (ofI .u8 s) .rw)) :
    ∀ i T h, i < 32 → RS a b s d h0 i T h → ∃ T' h', evC Q 29 n none L_purserref09_Sign_0 ⟨T, [], h⟩ = some (.normal, ⟨T', [], h'⟩) ∧ RS a b s d h0 (i + 1) T' h' := by
  intro i T h hi ⟨_, t2, t3, t6, t5, kp⟩
  have ga' : h.get a = some (.cells (ofI .u8 s) .rw) := by rw [kp.2 _ ha, ga]
  have c0 : decide ((i : Int) < 32) = true := decide_eq_true (by omega)
  have wi : wr .i64 ((i : Int) + 1) = ((i + 1 : Nat) : Int) := by rw [wr_i64 (by omega)]; omega
  have ix : idx (i : Int) 32 = some i := idxn hi
  have sg : (ofI .u8 s)[i]? = some (.int .u8 (s.getD i 0 : Nat)) := ofI_get _ _ _ (by omega)
  have ts : s.take (i + 1) = s.take i ++ [s.getD i 0] := by
    rw [List.take_add_one, List.getD_eq_getElem?_getD, List.getElem?_eq_getElem (by omega)]; rfl
  generalize s.getD i 0 = y at *
  have sc := src1 h y
  obtain ⟨C, eC⟩ : ∃ C, ofI .u8 (s.take (i + 1)) = C := ⟨_, rfl⟩
  obtain ⟨S, eS⟩ : ∃ C, ofI .u8 s = C := ⟨_, rfl⟩
  rw [eS] at ga' sg
  rcases t5 with ⟨rfl, t5⟩ | ⟨hip, p, md, t5, gp, hmd, hp0, hpn⟩
  · have ap : appendC (h.new (.cells [.int .u8 (y : Int)] .rw)) 1 1 (.slice none 0 (some 0) 0) (some (1, [.int .u8 (y : Int)])) = some (.slice (some (h.next + 1, 0)) 1 none 1, (h.new (.cells [.int .u8 (y : Int)] .rw)).new (.cells C .rw)) := by
      have := app0 (h.new (.cells [.int .u8 (y : Int)] .rw)) 0 0 .u8 [y] (some 0) (by omega)
      rw [← eC, ts]; exact this
    refine ⟨_, _, by
      simp (config := {maxSteps := 2000000}) (disch := first | omega | (simp only [List.length_cons, List.length_nil, List.length_append, List.length_drop]; omega)) only [L_purserref09_Sign_0, t2, t3, t5, t6, ga', sg, c0, wi, ix, sc, ap, ↓s_append, ↓b_xor32, ↓b_and32, ↓b_or32, ↓u_not32, b_xor32, b_and32, b_or32, u_not32, w32ad, ↓x_conv, x_convV, ↓x_fieldAddr, x_fieldV, ↓s_nilchk, x_nilchk, Nat.zero_add, Nat.add_zero, Nat.mul_one, ↓l_loop, ↓l_succ, ↓l_normal, l_normal, l_exit, l_ret, l_iteN, ↓h_put_get, ↓h_new_get, ↓h_del_get, h_next_put, h_next_new, h_next_del, Nat.add_assoc, Nat.add_eq_left, Nat.left_eq_add, Nat.add_left_cancel_iff, ↓s_load, m_load, ↓m_load1, m_load1, ↓m_st, m_stE, m_storeI, m_storeE, w_zero, w_succ, ↓s_alloc, ↓x_idxA, ↓x_idxS, x_idxAE, x_idxSE, x_addrE, x_idx, x_lenS, ↓s_len, ↓x_buildS, x_buildE, ↓x_P0, ↓x_P1, x_fill0, x_filli, x_fills, x_fillb, c_int, List.length_cons, List.length_nil, List.cons_append, List.drop_succ_cons, List.drop_zero, List.drop_nil, List.nil_append, Int.reduceAdd, Int.reduceToNat, Int.reduceLT, Int.reduceLE, Nat.reduceAdd, Nat.reduceMul, Nat.reduceLeDiff, Int.reduceEq, Int.reduceSub, Int.cast_ofNat_Int, s_resc, s_consR, m_load4, m_store4, s_res0, ↓s_skip, ↓s_ops, ↓s_dops, ↓s_seq, ↓s_cond, ↓s_block, ↓s_exit, ↓s_ret, ↓s_scope, ↓s_nil, ↓s_op, ↓s_opg, ↓s_wanted', ↓s_wantV, s_wantV, s_wantV0, beq_true, beq_false, ↓s_bindS, s_bindS, ↓s_bindE, s_bindE, s_bindE_ret, s_bindE_exit, s_bindE_iteN, s_norm, ↓s_condV, s_condV, s_block_ret, s_block_normal, s_block_exit, s_block_iteN, ↓s_getp, ↓s_getp0, ↓s_get, s_get0, ↓s_con, ↓s_fn, ↓s_os0, ↓s_os1, ↓s_list0, ↓s_list1, ↓s_mov, ↓s_pick, ↓s_pickE, s_pickE, ↓s_bin, ↓s_un, ↓s_minmax, ↓s_call, ↓s_callv, ↓s_callV, ↓s_ext, s_same, b_eql, b_neq, b_lss, b_leq, b_gtr, b_geq, b_add, b_sub, b_mul, b_eqlb, b_neqb, b_fnil, b_fnil', b_fnil2, b_fnil2', u_neg, u_not, m_two, s_end, s_end', s_end_iteN, s_res0, s_res1, s_tup1, s_tup2, ↓iteN_true, ↓iteN_false, iteN_true, iteN_false, Nat.zero_add, List.nil_append, List.append_nil, Nat.reduceEqDiff, reduceIte, decide_true, decide_false, Bool.not_true, Bool.not_false, List.getElem?_cons_zero, List.getElem?_cons_succ, Bool.false_eq_true, if_true, if_false, beq_self_eq_true]
      exact rfl, ⟨by omega, (by (simp only [s_getp, s_getp0, Nat.reduceEqDiff, decide_false, decide_true, iteN_false, iteN_true, t2]; try rfl)), (by (simp only [s_getp, s_getp0, Nat.reduceEqDiff, decide_false, decide_true, iteN_false, iteN_true, t3]; try rfl)), (by (simp only [s_getp, s_getp0, Nat.reduceEqDiff, decide_false, decide_true, iteN_false, iteN_true, t2]; try rfl)), .inr ⟨by omega, h.next + 1, .rw, (by (simp only [s_getp, s_getp0, Nat.reduceEqDiff, decide_false, decide_true, iteN_false, iteN_true, t2]; try rfl)), by rw [eC]; exact h_new_same' _ _ rfl, rfl, by have := kp.1; omega, by simp only [h_next_new]; omega⟩, (kp.trans (Kp.new _ _)).trans (Kp.new _ _)⟩⟩
  · have ap := app1 (h.new (.cells [.int .u8 (y : Int)] .rw)) p i y _ md hmd (by rw [h_new_ne _ _ (by omega), gp]) (by rw [List.length_take]; omega) (by omega)
    rw [← ts, eC] at ap
    refine ⟨_, _, by
      simp (config := {maxSteps := 2000000}) (disch := first | omega | (simp only [List.length_cons, List.length_nil, List.length_append, List.length_drop]; omega)) only [L_purserref09_Sign_0, t2, t3, t5, t6, ga', sg, c0, wi, ix, sc, ap, ↓s_append, ↓b_xor32, ↓b_and32, ↓b_or32, ↓u_not32, b_xor32, b_and32, b_or32, u_not32, w32ad, ↓x_conv, x_convV, ↓x_fieldAddr, x_fieldV, ↓s_nilchk, x_nilchk, Nat.zero_add, Nat.add_zero, Nat.mul_one, ↓l_loop, ↓l_succ, ↓l_normal, l_normal, l_exit, l_ret, l_iteN, ↓h_put_get, ↓h_new_get, ↓h_del_get, h_next_put, h_next_new, h_next_del, Nat.add_assoc, Nat.add_eq_left, Nat.left_eq_add, Nat.add_left_cancel_iff, ↓s_load, m_load, ↓m_load1, m_load1, ↓m_st, m_stE, m_storeI, m_storeE, w_zero, w_succ, ↓s_alloc, ↓x_idxA, ↓x_idxS, x_idxAE, x_idxSE, x_addrE, x_idx, x_lenS, ↓s_len, ↓x_buildS, x_buildE, ↓x_P0, ↓x_P1, x_fill0, x_filli, x_fills, x_fillb, c_int, List.length_cons, List.length_nil, List.cons_append, List.drop_succ_cons, List.drop_zero, List.drop_nil, List.nil_append, Int.reduceAdd, Int.reduceToNat, Int.reduceLT, Int.reduceLE, Nat.reduceAdd, Nat.reduceMul, Nat.reduceLeDiff, Int.reduceEq, Int.reduceSub, Int.cast_ofNat_Int, s_resc, s_consR, m_load4, m_store4, s_res0, ↓s_skip, ↓s_ops, ↓s_dops, ↓s_seq, ↓s_cond, ↓s_block, ↓s_exit, ↓s_ret, ↓s_scope, ↓s_nil, ↓s_op, ↓s_opg, ↓s_wanted', ↓s_wantV, s_wantV, s_wantV0, beq_true, beq_false, ↓s_bindS, s_bindS, ↓s_bindE, s_bindE, s_bindE_ret, s_bindE_exit, s_bindE_iteN, s_norm, ↓s_condV, s_condV, s_block_ret, s_block_normal, s_block_exit, s_block_iteN, ↓s_getp, ↓s_getp0, ↓s_get, s_get0, ↓s_con, ↓s_fn, ↓s_os0, ↓s_os1, ↓s_list0, ↓s_list1, ↓s_mov, ↓s_pick, ↓s_pickE, s_pickE, ↓s_bin, ↓s_un, ↓s_minmax, ↓s_call, ↓s_callv, ↓s_callV, ↓s_ext, s_same, b_eql, b_neq, b_lss, b_leq, b_gtr, b_geq, b_add, b_sub, b_mul, b_eqlb, b_neqb, b_fnil, b_fnil', b_fnil2, b_fnil2', u_neg, u_not, m_two, s_end, s_end', s_end_iteN, s_res0, s_res1, s_tup1, s_tup2, ↓iteN_true, ↓iteN_false, iteN_true, iteN_false, Nat.zero_add, List.nil_append, List.append_nil, Nat.reduceEqDiff, reduceIte, decide_true, decide_false, Bool.not_true, Bool.not_false, List.getElem?_cons_zero, List.getElem?_cons_succ, Bool.false_eq_true, if_true, if_false, beq_self_eq_true]
      exact rfl, ⟨by omega, (by (simp only [s_getp, s_getp0, Nat.reduceEqDiff, decide_false, decide_true, iteN_false, iteN_true, t2]; try rfl)), (by (simp only [s_getp, s_getp0, Nat.reduceEqDiff, decide_false, decide_true, iteN_false, iteN_true, t3]; try rfl)), (by (simp only [s_getp, s_getp0, Nat.reduceEqDiff, decide_false, decide_true, iteN_false, iteN_true, t2]; try rfl)), .inr ⟨by omega, h.next + 1, .sh, (by (simp only [s_getp, s_getp0, Nat.reduceEqDiff, decide_false, decide_true, iteN_false, iteN_true, t2]; try rfl)), by rw [eC]; exact h_new_same' _ _ rfl, rfl, by have := kp.1; omega, by simp only [h_next_new, h_next_del]; omega⟩, ?_⟩⟩
    refine ⟨by have := kp.1; simp only [h_next_new, h_next_del]; omega, fun j hj => ?_⟩
    have := kp.1
    rw [h_new_ne _ _ (by simp only [h_next_new, h_next_del]; omega), h_del_ne _ (by omega), h_new_ne _ _ (by omega), kp.2 _ hj]
theorem rs_loop (Q : Orc) (n a b : Nat) (hn : 32 < n) (s d : List Nat) (hs : s.length = 32) (h0 : H) (ha : a < h0.next) (ga : h0.get a = some (.cells (ofI .u8 s) .rw)) (T : Tr V) (h : H) (I : RS a b s d h0 0 T h) :
    ∃ T' h', loopN (evC Q 29 n none L_purserref09_Sign_0) n ⟨T, [], h⟩ = some (.exit 0, ⟨T', [], h'⟩) ∧ RS a b s d h0 32 T' h' :=
  loop_go (RS a b s d h0) 32 (.exit 0) (by intro h; cases h) _ (rs_step Q n a b s d hs h0 ha ga) (fun T h I => by
    obtain ⟨il, t2, t3, t6, t5, kp⟩ := I
    have c0 : decide (((32 : Nat) : Int) < 32) = false := rfl
    obtain ⟨_, p, md, t5, rest⟩ := (t5.resolve_left (fun h => by cases h.1))
    refine ⟨_, _, by
      simp (config := {maxSteps := 2000000}) (disch := first | omega | (simp only [List.length_cons, List.length_nil, List.length_append, List.length_drop]; omega)) only [L_purserref09_Sign_0, t6, c0, ↓b_xor32, ↓b_and32, ↓b_or32, ↓u_not32, b_xor32, b_and32, b_or32, u_not32, w32ad, ↓x_conv, x_convV, ↓x_fieldAddr, x_fieldV, ↓s_nilchk, x_nilchk, Nat.zero_add, Nat.add_zero, Nat.mul_one, ↓l_loop, ↓l_succ, ↓l_normal, l_normal, l_exit, l_ret, l_iteN, ↓h_put_get, ↓h_new_get, ↓h_del_get, h_next_put, h_next_new, h_next_del, Nat.add_assoc, Nat.add_eq_left, Nat.left_eq_add, Nat.add_left_cancel_iff, ↓s_load, m_load, ↓m_load1, m_load1, ↓m_st, m_stE, m_storeI, m_storeE, w_zero, w_succ, ↓s_alloc, ↓x_idxA, ↓x_idxS, x_idxAE, x_idxSE, x_addrE, x_idx, x_lenS, ↓s_len, ↓x_buildS, x_buildE, ↓x_P0, ↓x_P1, x_fill0, x_filli, x_fills, x_fillb, c_int, List.length_cons, List.length_nil, List.cons_append, List.drop_succ_cons, List.drop_zero, List.drop_nil, List.nil_append, Int.reduceAdd, Int.reduceToNat, Int.reduceLT, Int.reduceLE, Nat.reduceAdd, Nat.reduceMul, Nat.reduceLeDiff, Int.reduceEq, Int.reduceSub, Int.cast_ofNat_Int, s_resc, s_consR, m_load4, m_store4, s_res0, ↓s_skip, ↓s_ops, ↓s_dops, ↓s_seq, ↓s_cond, ↓s_block, ↓s_exit, ↓s_ret, ↓s_scope, ↓s_nil, ↓s_op, ↓s_opg, ↓s_wanted', ↓s_wantV, s_wantV, s_wantV0, beq_true, beq_false, ↓s_bindS, s_bindS, ↓s_bindE, s_bindE, s_bindE_ret, s_bindE_exit, s_bindE_iteN, s_norm, ↓s_condV, s_condV, s_block_ret, s_block_normal, s_block_exit, s_block_iteN, ↓s_getp, ↓s_getp0, ↓s_get, s_get0, ↓s_con, ↓s_fn, ↓s_os0, ↓s_os1, ↓s_list0, ↓s_list1, ↓s_mov, ↓s_pick, ↓s_pickE, s_pickE, ↓s_bin, ↓s_un, ↓s_minmax, ↓s_call, ↓s_callv, ↓s_callV, ↓s_ext, s_same, b_eql, b_neq, b_lss, b_leq, b_gtr, b_geq, b_add, b_sub, b_mul, b_eqlb, b_neqb, b_fnil, b_fnil', b_fnil2, b_fnil2', u_neg, u_not, m_two, s_end, s_end', s_end_iteN, s_res0, s_res1, s_tup1, s_tup2, ↓iteN_true, ↓iteN_false, iteN_true, iteN_false, Nat.zero_add, List.nil_append, List.append_nil, Nat.reduceEqDiff, reduceIte, decide_true, decide_false, Bool.not_true, Bool.not_false, List.getElem?_cons_zero, List.getElem?_cons_succ, Bool.false_eq_true, if_true, if_false, beq_self_eq_true]
      exact rfl, ⟨il, (by (simp only [s_getp, s_getp0, Nat.reduceEqDiff, decide_false, decide_true, iteN_false, iteN_true, t2]; try rfl)), (by (simp only [s_getp, s_getp0, Nat.reduceEqDiff, decide_false, decide_true, iteN_false, iteN_true, t3]; try rfl)), (by (simp only [s_getp, s_getp0, Nat.reduceEqDiff, decide_false, decide_true, iteN_false, iteN_true, t6]; try rfl)), .inr ⟨by omega, p, md, (by (simp only [s_getp, s_getp0, Nat.reduceEqDiff, decide_false, decide_true, iteN_false, iteN_true, t5]; try rfl)), rest⟩, kp⟩⟩) 32 0 rfl n hn T h I
theorem rsign_go (e : EnRs E) (x : ∀ a h, X (.fn k_purserref09_Sign) a h = none) (hx : HasRof X) (N : Nat) (s d : List Nat) (hs : s.length = 32) (hd : d.length = 32) (bs : byt s = true) (bd : byt d = true) (h : H) :
    ∃ h' p, callX E X (N + 40) (.fn k_purserref09_Sign) [.agg (ofI .u8 s), .agg (ofI .u8 d)] h = some (.slice (some (p, 0)) 64 none 1, h') ∧ h'.get p = some (.cells (ofI .u8 (s ++ shaV (s ++ d))) .sh) := by
  rw [x_cfn e.sign _ _ (Nat.le_of_ble_eq_true rfl) (x _ _)]
  obtain ⟨h0, e0⟩ : ∃ h0, (h.new (.cells (ofI .u8 s) .rw)).new (.cells (ofI .u8 d) .rw) = h0 := ⟨_, rfl⟩
  have n0 : h0.next = h.next + 2 := by rw [← e0]; rfl
  have ga : h0.get h.next = some (.cells (ofI .u8 s) .rw) := by rw [← e0, h_new_ne _ _ (by rw [h_next_new]; omega), h_new_same]
  have gb : h0.get (h.next + 1) = some (.cells (ofI .u8 d) .rw) := by rw [← e0]; exact h_new_same' _ _ rfl
  have fin : ∀ T, RS h.next (h.next + 1) s d h0 0 T h0 → ∃ h' p, fnEnd [.tmp 4] (bindE (blockE 0 (loopN (evC (callX E X (N + 39)) 29 (N + 39) none L_purserref09_Sign_0) (N + 39) ⟨T, [], h0⟩)) (evC (callX E X (N + 39)) 29 (N + 39) none R_purserref09_Sign_0)) = some (.slice (some (p, 0)) 64 none 1, h') ∧ h'.get p = some (.cells (ofI .u8 (s ++ shaV (s ++ d))) .sh) := by
    intro T I
    obtain ⟨T', h1, r1, il, t2, t3, t6, t5, kp⟩ := rs_loop (callX E X (N + 39)) (N + 39) h.next (h.next + 1) (by omega) s d hs h0 (by omega) ga T h0 I
    obtain ⟨_, p, md, t5, gp, hmd, hp0, hpn⟩ := (t5.resolve_left (fun h => by cases h.1))
    rw [take_all s 32 (by omega)] at gp
    rw [r1]
    have gb1 : h1.get (h.next + 1) = some (.cells (ofI .u8 d) .rw) := by rw [kp.2 _ (by omega), gb]
    have lsd : (s ++ d).length = 64 := by rw [List.length_append]; omega
    have bsd : byt (s ++ d) = true := by
      rw [byt_iff] at *
      intro x hx
      rcases List.mem_append.1 hx with h | h
      · exact bs x h
      · exact bd x h
    have fo := fun i off n c h => x_rofQ (E := E) hx (N + 38) i off n c h
    have ro := fun fb h => rofQ_some (s ++ d) (by omega) bsd fb h
    have lv := shaV_len (s ++ d)
    have z := z32e
    have np : (h1.next = p) = False := by simp; omega
    have np1 : (h1.next + 1 = p) = False := by simp; omega
    have np2 : (h1.next + 2 = p) = False := by simp; omega
    have nb0 : (h1.next = h.next + 1) = False := by have := kp.1; simp; omega
    have nb1 : (h1.next + 1 = h.next + 1) = False := by have := kp.1; simp; omega
    have ap3 : ∀ (h' : H), h'.get p = some (.cells (ofI .u8 s) md) → appendC h' 1 1 (.slice (some (p, 0)) 32 none 1) (some (32, ofI .u8 (shaV (s ++ d)))) = some (.slice (some (h'.next, 0)) 64 none 1, (h'.del p).new (.cells (ofI .u8 (s ++ shaV (s ++ d))) .sh)) := by
      intro h' hg
      have := appU_of h' p 32 31 .u8 (shaV (s ++ d)) (by omega)
      rw [hg, appUI _ _ _ _ hmd _ _ _ _ (by omega), take_all s _ (by omega)] at this
      exact this
    obtain ⟨hz, ehz⟩ : ∃ hz, ((((h1.new (.cells (ofI .u8 s) .rw)).del h1.next).new (.cells (ofI .u8 (s ++ d)) .sh)).new (.cells (ofI .u8 (List.replicate 32 0)) .rw)).put (h1.next + 2) (.cells (ofI .u8 (shaV (s ++ d))) .rw) = hz := ⟨_, rfl⟩
    have gz : hz.get p = some (.cells (ofI .u8 s) md) := by
      rw [← ehz]; (simp (disch := omega) only [l_loop, l_succ, l_normal, l_normal, l_exit, l_ret, l_iteN, h_put_get, h_new_get, h_del_get, h_next_put, h_next_new, h_next_del, Nat.add_assoc, Nat.add_eq_left, Nat.left_eq_add, Nat.add_left_cancel_iff, s_load, m_load, m_load1, m_load1, m_st, m_stE, m_storeI, m_storeE, w_zero, w_succ, s_alloc, x_idxA, x_idxS, x_idxAE, x_idxSE, x_addrE, x_idx, x_lenS, s_len, x_buildS, x_buildE, x_P0, x_P1, x_fill0, x_filli, x_fills, x_fillb, c_int, List.length_cons, List.length_nil, List.cons_append, List.drop_succ_cons, List.drop_zero, List.drop_nil, List.nil_append, Int.reduceAdd, Int.reduceToNat, Int.reduceLT, Int.reduceLE, Nat.reduceAdd, Nat.reduceMul, Nat.reduceLeDiff, Int.reduceEq, Int.reduceSub, Int.cast_ofNat_Int, s_resc, s_consR, m_load4, m_store4, s_res0, decide_true, decide_false, iteN_true, iteN_false, Nat.reduceEqDiff, Nat.reduceAdd, reduceCtorEq, np, np1, np2, gp]; try rfl)
    have gz2 : hz.get (h1.next + 2) = some (.cells (ofI .u8 (shaV (s ++ d))) .rw) := by rw [← ehz, h_put_same]
    have ap := ap3 hz gz
    simp (config := {maxSteps := 2000000}) (disch := first | omega | rfl | (simp only [ofI_len, shaV_len, List.length_append, List.length_take, List.length_drop, List.length_cons, List.length_nil, List.length_replicate, List.length_set]; done) | (simp only [ofI_len, shaV_len, List.length_append, List.length_take, List.length_drop, List.length_cons, List.length_nil, List.length_replicate, List.length_set]; omega)) only [R_purserref09_Sign_0, ← z, t3, t5, gp, gb1, hs, hd, lsd, lv, np, np1, np2, nb0, nb1, ↓fo, ro, ehz, gz2, ap, vbeq_slice, ↓s_dBuildS, s_dbE, rdI, ofI_get, m_src, m_src0, srcI, ldI, ld1I, wrAll, wrI, wr1I, stI, st32, take_all, drop_all, List.take_zero, List.drop_zero, List.nil_append, List.append_nil, appF_of, appFI, appF0, appU_of, appUIw, appUIs, app0, appN, eq32, neq32, ↓s_append, ↓x_copy, ↓x_slcA, x_slcAE, slcB_nn, slcB_hi, slcB_lo, slcB_lh, slcV_nn, slcV_hiU, slcV_hiC, slcV_lo, slcV_loL, slcV_hiUL, slcV_hiCL, slcV_mxL, slcB_hiL, slcB_loL, subC_some, subC_none, ↓x_slcS, x_bnd0, x_M1, x_M0, x_lenA, ofQ_some, Nat.sub_zero, ofI_len, shaV_len, ↓s_box, c_agg, List.length_append, List.length_cons, List.length_nil, Nat.reduceLeDiff, Nat.reduceSub, List.length_replicate, ↓b_xor32, ↓b_and32, ↓b_or32, ↓u_not32, b_xor32, b_and32, b_or32, u_not32, w32ad, ↓x_conv, x_convV, ↓x_fieldAddr, x_fieldV, ↓s_nilchk, x_nilchk, Nat.zero_add, Nat.add_zero, Nat.mul_one, ↓s_evD, ↓s_dnil, ↓s_dL, ↓s_dLg, ↓s_dR, ↓s_dRg, ↓s_dRj, ↓s_dRjg, ↓s_dB, ↓s_dBg, ↓s_dAlloc, ↓s_bindD, s_bindD, s_finD, s_finDx, s_addP0, s_addP1, s_addB, s_lookP, ↓s_bump0, ↓s_bump_get, s_bump_next, s_ok0, ↓s_ok1, s_okR0, ↓s_okR1, ↓s_okE, s_okE, s_okE1, s_nth0, s_nthS, Nat.add_zero, Bool.and_self, Bool.and_true, Bool.true_and, ↓l_loop, ↓l_succ, ↓l_normal, l_normal, l_exit, l_ret, l_iteN, ↓h_put_get, ↓h_new_get, ↓h_del_get, h_next_put, h_next_new, h_next_del, Nat.add_assoc, Nat.add_eq_left, Nat.left_eq_add, Nat.add_left_cancel_iff, ↓s_load, m_load, ↓m_load1, m_load1, ↓m_st, m_stE, m_storeI, m_storeE, ↓s_alloc, ↓x_idxA, ↓x_idxS, x_idxAE, x_idxSE, x_addrE, x_idx, x_lenS, ↓s_len, ↓x_buildS, x_buildE, ↓x_P0, ↓x_P1, x_fill0, x_filli, x_fills, x_fillb, c_int, List.length_cons, List.length_nil, List.cons_append, List.drop_succ_cons, List.drop_zero, List.drop_nil, List.nil_append, Int.reduceAdd, Int.reduceToNat, Int.reduceLT, Int.reduceLE, Nat.reduceAdd, Nat.reduceMul, Nat.reduceLeDiff, Int.reduceEq, Int.reduceSub, Int.cast_ofNat_Int, s_resc, s_consR, m_load4, m_store4, s_res0, ↓s_skip, ↓s_ops, ↓s_dops, ↓s_seq, ↓s_cond, ↓s_block, ↓s_exit, ↓s_ret, ↓s_scope, ↓s_nil, ↓s_op, ↓s_opg, ↓s_wanted', ↓s_wantV, s_wantV, s_wantV0, beq_true, beq_false, ↓s_bindS, s_bindS, ↓s_bindE, s_bindE, s_bindE_ret, s_bindE_exit, s_bindE_iteN, s_norm, ↓s_condV, s_condV, s_block_ret, s_block_normal, s_block_exit, s_block_iteN, ↓s_getp, ↓s_getp0, ↓s_get, s_get0, ↓s_con, ↓s_fn, ↓s_os0, ↓s_os1, ↓s_list0, ↓s_list1, ↓s_mov, ↓s_pick, ↓s_pickE, s_pickE, ↓s_bin, ↓s_un, ↓s_minmax, ↓s_call, ↓s_callv, ↓s_callV, ↓s_ext, s_same, b_eql, b_neq, b_lss, b_leq, b_gtr, b_geq, b_add, b_sub, b_mul, b_eqlb, b_neqb, b_fnil, b_fnil', b_fnil2, b_fnil2', u_neg, u_not, m_two, s_end, s_end', s_end_iteN, s_res0, s_res1, s_tup1, s_tup2, ↓iteN_true, ↓iteN_false, iteN_true, iteN_false, Nat.zero_add, List.nil_append, List.append_nil, Nat.reduceEqDiff, reduceIte, decide_true, decide_false, Bool.not_true, Bool.not_false, List.getElem?_cons_zero, List.getElem?_cons_succ, Bool.false_eq_true, if_true, if_false, beq_self_eq_true]
    exact ⟨_, _, rfl, h_new_same' _ _ (by rw [h_next_del])⟩
  obtain ⟨R, eR⟩ : ∃ R, R_purserref09_Sign_0 = R := ⟨_, rfl⟩
  obtain ⟨Lo, eL⟩ : ∃ R, L_purserref09_Sign_0 = R := ⟨_, rfl⟩
  rw [eR, eL] at fin ⊢
  simp (config := {maxSteps := 2000000}) (disch := first | omega | (simp only [List.length_cons, List.length_nil, List.length_append, List.length_drop]; omega)) only [e0, n0, ↓s_box, c_agg, ↓b_xor32, ↓b_and32, ↓b_or32, ↓u_not32, b_xor32, b_and32, b_or32, u_not32, w32ad, ↓x_conv, x_convV, ↓x_fieldAddr, x_fieldV, ↓s_nilchk, x_nilchk, Nat.zero_add, Nat.add_zero, Nat.mul_one, ↓l_loop, ↓l_succ, ↓l_normal, l_normal, l_exit, l_ret, l_iteN, ↓h_put_get, ↓h_new_get, ↓h_del_get, h_next_put, h_next_new, h_next_del, Nat.add_assoc, Nat.add_eq_left, Nat.left_eq_add, Nat.add_left_cancel_iff, ↓s_load, m_load, ↓m_load1, m_load1, ↓m_st, m_stE, m_storeI, m_storeE, w_zero, w_succ, ↓s_alloc, ↓x_idxA, ↓x_idxS, x_idxAE, x_idxSE, x_addrE, x_idx, x_lenS, ↓s_len, ↓x_buildS, x_buildE, ↓x_P0, ↓x_P1, x_fill0, x_filli, x_fills, x_fillb, c_int, List.length_cons, List.length_nil, List.cons_append, List.drop_succ_cons, List.drop_zero, List.drop_nil, List.nil_append, Int.reduceAdd, Int.reduceToNat, Int.reduceLT, Int.reduceLE, Nat.reduceAdd, Nat.reduceMul, Nat.reduceLeDiff, Int.reduceEq, Int.reduceSub, Int.cast_ofNat_Int, s_resc, s_consR, m_load4, m_store4, s_res0, ↓s_skip, ↓s_ops, ↓s_dops, ↓s_seq, ↓s_cond, ↓s_block, ↓s_exit, ↓s_ret, ↓s_scope, ↓s_nil, ↓s_op, ↓s_opg, ↓s_wanted', ↓s_wantV, s_wantV, s_wantV0, beq_true, beq_false, ↓s_bindS, s_bindS, ↓s_bindE, s_bindE, s_bindE_ret, s_bindE_exit, s_bindE_iteN, s_norm, ↓s_condV, s_condV, s_block_ret, s_block_normal, s_block_exit, s_block_iteN, ↓s_getp, ↓s_getp0, ↓s_get, s_get0, ↓s_con, ↓s_fn, ↓s_os0, ↓s_os1, ↓s_list0, ↓s_list1, ↓s_mov, ↓s_pick, ↓s_pickE, s_pickE, ↓s_bin, ↓s_un, ↓s_minmax, ↓s_call, ↓s_callv, ↓s_callV, ↓s_ext, s_same, b_eql, b_neq, b_lss, b_leq, b_gtr, b_geq, b_add, b_sub, b_mul, b_eqlb, b_neqb, b_fnil, b_fnil', b_fnil2, b_fnil2', u_neg, u_not, m_two, s_end, s_end', s_end_iteN, s_res0, s_res1, s_tup1, s_tup2, ↓iteN_true, ↓iteN_false, iteN_true, iteN_false, Nat.zero_add, List.nil_append, List.append_nil, Nat.reduceEqDiff, reduceIte, decide_true, decide_false, Bool.not_true, Bool.not_false, List.getElem?_cons_zero, List.getElem?_cons_succ, Bool.false_eq_true, if_true, if_false, beq_self_eq_true]
  exact fin _ ⟨by omega, (by (simp only [s_getp, s_getp0, Nat.reduceEqDiff, decide_false, decide_true, iteN_false, iteN_true, eR]; try rfl)), (by (simp only [s_getp, s_getp0, Nat.reduceEqDiff, decide_false, decide_true, iteN_false, iteN_true, eR]; try rfl)), (by (simp only [s_getp, s_getp0, Nat.reduceEqDiff, decide_false, decide_true, iteN_false, iteN_true, eR]; try rfl)), .inl ⟨rfl, (by (simp only [s_getp, s_getp0, Nat.reduceEqDiff, decide_false, decide_true, iteN_false, iteN_true, eR]; try rfl))⟩, Kp.refl _⟩
end Go.Eng
namespace Go.Eng
open Go
variable {E : Nat → Option Fn} {X : Orc}
set_option linter.unusedSimpArgs false
set_option linter.unusedVariables false
theorem slcV_hiA (n b : Nat) (a : Option (Nat × Nat)) (k : IntKind) (hb : b ≤ n) : slcV 1 none (some (.int k (b : Int))) none (.slice a n none 1) = some (.slice a b none 1) := by
  unfold slcV
  simp only [Nat.beq_refl, Bool.true_or, _root_.cond_true, Option.getD_none, x_bnd _ _ _ _ hb, x_bnd0]
  cases a <;> simp [upA, subC]
theorem slcV_loA (n m : Nat) (a : Option (Nat × Nat)) (k : IntKind) (hm : m ≤ n) : slcV 1 (some (.int k (m : Int))) none none (.slice a n none 1) = some (.slice (upA a m) (n - m) none 1) := slcS_lo _ _ _ _ _ _ hm rfl
theorem slcV_lhA (n m b : Nat) (a : Option (Nat × Nat)) (k k' : IntKind) (hb : b ≤ n) (hm : m ≤ b) : slcV 1 (some (.int k (m : Int))) (some (.int k' (b : Int))) none (.slice a n none 1) = some (.slice (upA a m) (b - m) none 1) := by
  unfold slcV
  simp only [Nat.beq_refl, Bool.true_or, _root_.cond_true, Option.getD_none, x_bnd _ _ _ _ hb, x_bnd _ _ _ _ hm, Nat.mul_one]
  rfl
theorem SrcH.take {h : H} {a : Option (Nat × Nat)} {e : Nat} {l : List Nat} (s : SrcH h a e l) (n : Nat) : SrcH h a e (l.take n) := by
  rcases s with h | ⟨bi, off, vs, m, h1, h2, h3, h4, h5, h6⟩
  · left; rw [h]; simp
  · right
    refine ⟨bi, off, vs, m, h1, h2, h3, h4, by rw [List.length_take]; omega, ?_⟩
    rw [List.length_take, ← List.take_take, h6, ofI_take]
theorem SrcH.drop {h : H} {a : Option (Nat × Nat)} {e : Nat} {l : List Nat} (s : SrcH h a e l) (n : Nat) : SrcH h (upA a n) e (l.drop n) := by
  rcases s with h | ⟨bi, off, vs, m, h1, h2, h3, h4, h5, h6⟩
  · left; rw [h]; simp
  · by_cases hn : n < l.length
    · right
      refine ⟨bi, off + n, vs, m, by rw [h1]; rfl, h2, h3, h4, by rw [List.length_drop]; omega, ?_⟩
      rw [List.length_drop, ← List.drop_drop, ← List.drop_take, h6, ofI_drop]
    · left; exact List.drop_eq_nil_of_le (by omega)
theorem len_go (e1 : E (k_sha_Sum_Len) = some f_sha_Sum_Len) (x1 : ∀ a h, X (.fn k_sha_Sum_Len) a h = none) (e : EnSha E) (x : NoSha X) (N p : Nat) (s : Sm) (ok : SmOk s) (md : Md) (h : H) (hp : h.get p = some (.cells (sumC s.st s.blk s.len) md)) :
    callX E X (N + 2) (.fn k_sha_Sum_Len) [.ptr (some (p, 0))] h = some (.int .u64 (s.len : Int), h) := by
  rw [x_cfn e1 _ _ (Nat.le_of_ble_eq_true rfl) (x1 _ _)]
  have su := sums_go e x N p s.st s.blk s.len md h ok.1 ok.2.1 hp
  have ll : (sumC s.st s.blk s.len)[72]? = some (.int .u64 (s.len : Int)) := sumC_l _ _ _ ok.1 ok.2.1
  generalize sumC s.st s.blk s.len = C at *
  simp (config := {maxSteps := 2000000}) (disch := first | omega | (simp only [List.length_cons, List.length_nil, List.length_append, List.length_drop]; omega)) only [su, hp, ll, ↓b_xor32, ↓b_and32, ↓b_or32, ↓u_not32, b_xor32, b_and32, b_or32, u_not32, w32ad, ↓x_conv, x_convV, ↓x_fieldAddr, x_fieldV, ↓s_nilchk, x_nilchk, Nat.zero_add, Nat.add_zero, Nat.mul_one, ↓l_loop, ↓l_succ, ↓l_normal, l_normal, l_exit, l_ret, l_iteN, ↓h_put_get, ↓h_new_get, ↓h_del_get, h_next_put, h_next_new, h_next_del, Nat.add_assoc, Nat.add_eq_left, Nat.left_eq_add, Nat.add_left_cancel_iff, ↓s_load, m_load, ↓m_load1, m_load1, ↓m_st, m_stE, m_storeI, m_storeE, w_zero, w_succ, ↓s_alloc, ↓x_idxA, ↓x_idxS, x_idxAE, x_idxSE, x_addrE, x_idx, x_lenS, ↓s_len, ↓x_buildS, x_buildE, ↓x_P0, ↓x_P1, x_fill0, x_filli, x_fills, x_fillb, c_int, List.length_cons, List.length_nil, List.cons_append, List.drop_succ_cons, List.drop_zero, List.drop_nil, List.nil_append, Int.reduceAdd, Int.reduceToNat, Int.reduceLT, Int.reduceLE, Nat.reduceAdd, Nat.reduceMul, Nat.reduceLeDiff, Int.reduceEq, Int.reduceSub, Int.cast_ofNat_Int, s_resc, s_consR, m_load4, m_store4, s_res0, ↓s_skip, ↓s_ops, ↓s_dops, ↓s_seq, ↓s_cond, ↓s_block, ↓s_exit, ↓s_ret, ↓s_scope, ↓s_nil, ↓s_op, ↓s_opg, ↓s_wanted', ↓s_wantV, s_wantV, s_wantV0, beq_true, beq_false, ↓s_bindS, s_bindS, ↓s_bindE, s_bindE, s_bindE_ret, s_bindE_exit, s_bindE_iteN, s_norm, ↓s_condV, s_condV, s_block_ret, s_block_normal, s_block_exit, s_block_iteN, ↓s_getp, ↓s_getp0, ↓s_get, s_get0, ↓s_con, ↓s_fn, ↓s_os0, ↓s_os1, ↓s_list0, ↓s_list1, ↓s_mov, ↓s_pick, ↓s_pickE, s_pickE, ↓s_bin, ↓s_un, ↓s_minmax, ↓s_call, ↓s_callv, ↓s_callV, ↓s_ext, s_same, b_eql, b_neq, b_lss, b_leq, b_gtr, b_geq, b_add, b_sub, b_mul, b_eqlb, b_neqb, b_fnil, b_fnil', b_fnil2, b_fnil2', u_neg, u_not, m_two, s_end, s_end', s_end_iteN, s_res0, s_res1, s_tup1, s_tup2, ↓iteN_true, ↓iteN_false, iteN_true, iteN_false, Nat.zero_add, List.nil_append, List.append_nil, Nat.reduceEqDiff, reduceIte, decide_true, decide_false, Bool.not_true, Bool.not_false, List.getElem?_cons_zero, List.getElem?_cons_succ, Bool.false_eq_true, if_true, if_false, beq_self_eq_true]
theorem len_absorb : ∀ (l : List Nat) (s : Sm), SmOk s → s.len + l.length < 18446744073709551616 → (absorb s l).len = s.len + l.length := by
  intro l
  induction l with
  | nil => intro s _ _; rfl
  | cons b r ih =>
    intro s ok h
    simp only [List.length_cons] at h
    have := ih (eat1 s b) (eat1_ok s b ok) (by simp only [eat1]; omega)
    show (absorb (eat1 s b) r).len = _
    rw [this]; simp only [eat1, List.length_cons]; omega
/-- a sum lies at a place -/
def SumAt (h : H) (p : Nat) (s : Sm) : Prop := p < h.next ∧ h.get p = some (.cells (sumC s.st s.blk s.len) .rw)
theorem SumAt.kp {h h' : H} {p : Nat} {s : Sm} (a : SumAt h p s) (k : Kp h h') : SumAt h' p s := ⟨Nat.lt_of_lt_of_le a.1 k.1, by rw [k.2 _ a.1, a.2]⟩
theorem SumAt.kq {h h' : H} {p q : Nat} {s : Sm} (a : SumAt h p s) (k : Kq q h h') (hn : p ≠ q) : SumAt h' p s := ⟨Nat.lt_of_lt_of_le a.1 k.1, by rw [k.2 _ a.1 hn, a.2]⟩
theorem write_at (e : EnSha E) (x : NoSha X) (M p : Nat) (s : Sm) (ok : SmOk s) (l : List Nat) (a : Option (Nat × Nat)) (n : Nat) (hn : l.length = n) (c : Option Nat) (ez : Nat) (h : H) (hM : l.length < M) (hM2 : l.length < 9223372036854775808) (hp : SumAt h p s) (src : Src h p h.next a ez l) :
    ∃ h', callX E X (M + 80) (.fn k_sha_Sum_Write) [.ptr (some (p, 0)), .slice a n c ez] h = some (.ptr (some (p, 0)), h') ∧ SumAt h' p (absorb s l) ∧ Kq p h h' := by
  subst hn
  obtain ⟨h', r, g, k⟩ := write_go e x M p s ok l a c ez h hM hM2 hp.2 hp.1 src
  exact ⟨h', r, ⟨Nat.lt_of_lt_of_le hp.1 k.1, g⟩, k⟩
/-- bytes that lie in an old block, read when others were laid -/
theorem SrcH.src2 {h h' : H} {a : Option (Nat × Nat)} {e : Nat} {l : List Nat} (s : SrcH h a e l) (hle : h.next ≤ h'.next) (k : ∀ i, i < h.next → h'.get i = h.get i) (p : Nat) (hp : h.next ≤ p) : Src h' p h'.next a e l := s.src ⟨hle, k⟩ p hp
theorem new_at (e : EnSha E) (x : NoSha X) (N : Nat) (h : H) : ∃ h' p, callX E X (N + 2) (.fn k_sha_New) [] h = some (.ptr (some (p, 0)), h') ∧ SumAt h' p initS ∧ Kp h h' ∧ h.next ≤ p := by
  obtain ⟨h', r, g, k, n⟩ := new_go e x N h
  exact ⟨h', h'.next - 1, r, ⟨by omega, g⟩, k, by omega⟩
theorem end_at (e : EnSha E) (x : NoSha X) (M p : Nat) (s : Sm) (ok : SmOk s) (h : H) (hM : 100 < M) (hp : SumAt h p s) : ∃ h', callX E X (M + 81) (.fn k_sha_Sum_End) [.ptr (some (p, 0))] h = some (.agg (ofI .u8 (endV s)), h') ∧ Kp h h' := end_go e x M p s ok h hM hp.2 hp.1
structure PL (h0 : H) (l : List Nat) (a : Option (Nat × Nat)) (w p q : Nat) (sp : Sm) (i : Nat) (T : Tr V) (h : H) : Prop where
  il : i ≤ l.length
  t0 : evO T (.t 0) = .slice a l.length none 1
  t5 : evO T (.t 5) = .bool true
  t7 : evO T (.t 7) = .ptr (some (w, 0))
  t8 : evO T (.t 8) = .ptr (some (p, 0))
  t9 : evO T (.t 9) = .ptr (some (q, 0))
  t39 : evO T (.t 39) = .int .i64 (l.length : Int)
  t40 : evO T (.t 40) = .int .i64 (i : Int)
  sq : SumAt h q (absorb initS (l.take i))
  kq : Kq q h0 h
theorem parts_step (e : EnSha E) (x : NoSha X) (M n : Nat) (hM : 1000 < M) (h0 hs : H) (l : List Nat) (hl : l.length ≤ 1000) (a : Option (Nat × Nat)) (w p q : Nat) (sp : Sm) (src : SrcH hs a 1 l) (kh : Kp hs h0) (hq : hs.next ≤ q) :
    ∀ i T h, i < l.length → PL h0 l a w p q sp i T h → ∃ T' h', evC (callX E X (M + 80)) 79 n none L_purserlaw04_ShaParts_0 ⟨T, [], h⟩ = some (.normal, ⟨T', [], h'⟩) ∧ PL h0 l a w p q sp (i + 1) T' h' := by
  intro i T h hi ⟨il, t0, t5, t7, t8, t9, t39, t40, sq, kq⟩
  have c0 : decide ((i : Int) < (l.length : Int)) = true := decide_eq_true (by omega)
  have wi : wr .i64 ((i : Int) + 1) = ((i + 1 : Nat) : Int) := by rw [wr_i64 (by omega)]; omega
  have sv := slcV_lhA l.length i (i + 1) a .i64 .i64 (by omega) (by omega)
  have l1 : ((l.drop i).take 1).length = i + 1 - i := by rw [List.length_take, List.length_drop]; omega
  have khh : ∀ j, j < hs.next → h.get j = hs.get j := fun j hj => by rw [kq.2 j (Nat.lt_of_lt_of_le hj kh.1) (by omega), kh.2 j hj]
  obtain ⟨h', r, g, k⟩ := write_at e x M q (absorb initS (l.take i)) (absorb_ok _ _ initS_ok) ((l.drop i).take 1) (upA a i) (i + 1 - i) l1 none 1 h (by rw [l1]; omega) (by rw [l1]; omega) sq (((src.drop i).take 1).src2 (Nat.le_trans kh.1 kq.1) khh q hq)
  have ea : absorb (absorb initS (l.take i)) ((l.drop i).take 1) = absorb initS (l.take (i + 1)) := by
    rw [← absorb_app]
    congr 1
    rw [List.take_add]
  rw [ea] at g
  refine ⟨_, h', by
    simp (config := {maxSteps := 2000000}) (disch := first | omega | (simp only [List.length_cons, List.length_nil, List.length_append, List.length_drop]; omega)) only [L_purserlaw04_ShaParts_0, t0, t9, t39, t40, c0, wi, sv, r, ↓x_slcS, x_M1, x_M0, ↓b_xor32, ↓b_and32, ↓b_or32, ↓u_not32, b_xor32, b_and32, b_or32, u_not32, w32ad, ↓x_conv, x_convV, ↓x_fieldAddr, x_fieldV, ↓s_nilchk, x_nilchk, Nat.zero_add, Nat.add_zero, Nat.mul_one, ↓l_loop, ↓l_succ, ↓l_normal, l_normal, l_exit, l_ret, l_iteN, ↓h_put_get, ↓h_new_get, ↓h_del_get, h_next_put, h_next_new, h_next_del, Nat.add_assoc, Nat.add_eq_left, Nat.left_eq_add, Nat.add_left_cancel_iff, ↓s_load, m_load, ↓m_load1, m_load1, ↓m_st, m_stE, m_storeI, m_storeE, w_zero, w_succ, ↓s_alloc, ↓x_idxA, ↓x_idxS, x_idxAE, x_idxSE, x_addrE, x_idx, x_lenS, ↓s_len, ↓x_buildS, x_buildE, ↓x_P0, ↓x_P1, x_fill0, x_filli, x_fills, x_fillb, c_int, List.length_cons, List.length_nil, List.cons_append, List.drop_succ_cons, List.drop_zero, List.drop_nil, List.nil_append, Int.reduceAdd, Int.reduceToNat, Int.reduceLT, Int.reduceLE, Nat.reduceAdd, Nat.reduceMul, Nat.reduceLeDiff, Int.reduceEq, Int.reduceSub, Int.cast_ofNat_Int, s_resc, s_consR, m_load4, m_store4, s_res0, ↓s_skip, ↓s_ops, ↓s_dops, ↓s_seq, ↓s_cond, ↓s_block, ↓s_exit, ↓s_ret, ↓s_scope, ↓s_nil, ↓s_op, ↓s_opg, ↓s_wanted', ↓s_wantV, s_wantV, s_wantV0, beq_true, beq_false, ↓s_bindS, s_bindS, ↓s_bindE, s_bindE, s_bindE_ret, s_bindE_exit, s_bindE_iteN, s_norm, ↓s_condV, s_condV, s_block_ret, s_block_normal, s_block_exit, s_block_iteN, ↓s_getp, ↓s_getp0, ↓s_get, s_get0, ↓s_con, ↓s_fn, ↓s_os0, ↓s_os1, ↓s_list0, ↓s_list1, ↓s_mov, ↓s_pick, ↓s_pickE, s_pickE, ↓s_bin, ↓s_un, ↓s_minmax, ↓s_call, ↓s_callv, ↓s_callV, ↓s_ext, s_same, b_eql, b_neq, b_lss, b_leq, b_gtr, b_geq, b_add, b_sub, b_mul, b_eqlb, b_neqb, b_fnil, b_fnil', b_fnil2, b_fnil2', u_neg, u_not, m_two, s_end, s_end', s_end_iteN, s_res0, s_res1, s_tup1, s_tup2, ↓iteN_true, ↓iteN_false, iteN_true, iteN_false, Nat.zero_add, List.nil_append, List.append_nil, Nat.reduceEqDiff, reduceIte, decide_true, decide_false, Bool.not_true, Bool.not_false, List.getElem?_cons_zero, List.getElem?_cons_succ, Bool.false_eq_true, if_true, if_false, beq_self_eq_true]
    exact rfl, ⟨by omega, (by (simp only [s_getp, s_getp0, Nat.reduceEqDiff, decide_false, decide_true, iteN_false, iteN_true, t0]; try rfl)), (by (simp only [s_getp, s_getp0, Nat.reduceEqDiff, decide_false, decide_true, iteN_false, iteN_true, t5]; try rfl)), (by (simp only [s_getp, s_getp0, Nat.reduceEqDiff, decide_false, decide_true, iteN_false, iteN_true, t7]; try rfl)), (by (simp only [s_getp, s_getp0, Nat.reduceEqDiff, decide_false, decide_true, iteN_false, iteN_true, t8]; try rfl)), (by (simp only [s_getp, s_getp0, Nat.reduceEqDiff, decide_false, decide_true, iteN_false, iteN_true, t9]; try rfl)), (by (simp only [s_getp, s_getp0, Nat.reduceEqDiff, decide_false, decide_true, iteN_false, iteN_true, t39]; try rfl)), (by (simp only [s_getp, s_getp0, Nat.reduceEqDiff, decide_false, decide_true, iteN_false, iteN_true, t0]; try rfl)), g, kq.trans k⟩⟩
theorem parts_loop (e : EnSha E) (x : NoSha X) (M n : Nat) (hM : 1000 < M) (h0 hs : H) (l : List Nat) (hl : l.length ≤ 1000) (hn : l.length < n) (a : Option (Nat × Nat)) (w p q : Nat) (sp : Sm) (src : SrcH hs a 1 l) (kh : Kp hs h0) (hq : hs.next ≤ q) (T : Tr V) (h : H) (I : PL h0 l a w p q sp 0 T h) :
    ∃ T' h', loopN (evC (callX E X (M + 80)) 79 n none L_purserlaw04_ShaParts_0) n ⟨T, [], h⟩ = some (.exit 0, ⟨T', [], h'⟩) ∧ PL h0 l a w p q sp l.length T' h' :=
  loop_go (PL h0 l a w p q sp) l.length (.exit 0) (by intro h; cases h) _ (parts_step e x M n hM h0 hs l hl a w p q sp src kh hq) (fun T h I => by
    obtain ⟨il, t0, t5, t7, t8, t9, t39, t40, sq, kq⟩ := I
    have c0 : decide ((l.length : Int) < (l.length : Int)) = false := decide_eq_false (by omega)
    refine ⟨_, _, by
      simp (config := {maxSteps := 2000000}) (disch := first | omega | (simp only [List.length_cons, List.length_nil, List.length_append, List.length_drop]; omega)) only [L_purserlaw04_ShaParts_0, t39, t40, c0, ↓b_xor32, ↓b_and32, ↓b_or32, ↓u_not32, b_xor32, b_and32, b_or32, u_not32, w32ad, ↓x_conv, x_convV, ↓x_fieldAddr, x_fieldV, ↓s_nilchk, x_nilchk, Nat.zero_add, Nat.add_zero, Nat.mul_one, ↓l_loop, ↓l_succ, ↓l_normal, l_normal, l_exit, l_ret, l_iteN, ↓h_put_get, ↓h_new_get, ↓h_del_get, h_next_put, h_next_new, h_next_del, Nat.add_assoc, Nat.add_eq_left, Nat.left_eq_add, Nat.add_left_cancel_iff, ↓s_load, m_load, ↓m_load1, m_load1, ↓m_st, m_stE, m_storeI, m_storeE, w_zero, w_succ, ↓s_alloc, ↓x_idxA, ↓x_idxS, x_idxAE, x_idxSE, x_addrE, x_idx, x_lenS, ↓s_len, ↓x_buildS, x_buildE, ↓x_P0, ↓x_P1, x_fill0, x_filli, x_fills, x_fillb, c_int, List.length_cons, List.length_nil, List.cons_append, List.drop_succ_cons, List.drop_zero, List.drop_nil, List.nil_append, Int.reduceAdd, Int.reduceToNat, Int.reduceLT, Int.reduceLE, Nat.reduceAdd, Nat.reduceMul, Nat.reduceLeDiff, Int.reduceEq, Int.reduceSub, Int.cast_ofNat_Int, s_resc, s_consR, m_load4, m_store4, s_res0, ↓s_skip, ↓s_ops, ↓s_dops, ↓s_seq, ↓s_cond, ↓s_block, ↓s_exit, ↓s_ret, ↓s_scope, ↓s_nil, ↓s_op, ↓s_opg, ↓s_wanted', ↓s_wantV, s_wantV, s_wantV0, beq_true, beq_false, ↓s_bindS, s_bindS, ↓s_bindE, s_bindE, s_bindE_ret, s_bindE_exit, s_bindE_iteN, s_norm, ↓s_condV, s_condV, s_block_ret, s_block_normal, s_block_exit, s_block_iteN, ↓s_getp, ↓s_getp0, ↓s_get, s_get0, ↓s_con, ↓s_fn, ↓s_os0, ↓s_os1, ↓s_list0, ↓s_list1, ↓s_mov, ↓s_pick, ↓s_pickE, s_pickE, ↓s_bin, ↓s_un, ↓s_minmax, ↓s_call, ↓s_callv, ↓s_callV, ↓s_ext, s_same, b_eql, b_neq, b_lss, b_leq, b_gtr, b_geq, b_add, b_sub, b_mul, b_eqlb, b_neqb, b_fnil, b_fnil', b_fnil2, b_fnil2', u_neg, u_not, m_two, s_end, s_end', s_end_iteN, s_res0, s_res1, s_tup1, s_tup2, ↓iteN_true, ↓iteN_false, iteN_true, iteN_false, Nat.zero_add, List.nil_append, List.append_nil, Nat.reduceEqDiff, reduceIte, decide_true, decide_false, Bool.not_true, Bool.not_false, List.getElem?_cons_zero, List.getElem?_cons_succ, Bool.false_eq_true, if_true, if_false, beq_self_eq_true]
      exact rfl, ⟨il, (by (simp only [s_getp, s_getp0, Nat.reduceEqDiff, decide_false, decide_true, iteN_false, iteN_true, t0]; try rfl)), (by (simp only [s_getp, s_getp0, Nat.reduceEqDiff, decide_false, decide_true, iteN_false, iteN_true, t5]; try rfl)), (by (simp only [s_getp, s_getp0, Nat.reduceEqDiff, decide_false, decide_true, iteN_false, iteN_true, t7]; try rfl)), (by (simp only [s_getp, s_getp0, Nat.reduceEqDiff, decide_false, decide_true, iteN_false, iteN_true, t8]; try rfl)), (by (simp only [s_getp, s_getp0, Nat.reduceEqDiff, decide_false, decide_true, iteN_false, iteN_true, t9]; try rfl)), (by (simp only [s_getp, s_getp0, Nat.reduceEqDiff, decide_false, decide_true, iteN_false, iteN_true, t39]; try rfl)), (by (simp only [s_getp, s_getp0, Nat.reduceEqDiff, decide_false, decide_true, iteN_false, iteN_true, t40]; try rfl)), sq, kq⟩⟩) l.length 0 (by omega) n hn T h I
/-- what the laws of sha know -/
noncomputable def shX (k : Nat) : Orc := orX ofX1 (pureX k aliveS)
theorem sh_no (k : Nat) (hk : ∀ f, f = k_math_bits_RotateLeft32 ∨ f = k_sha_turned ∨ f = k_sha_cubeTable ∨ f = k_sha_squareTable ∨ f = k_sha_Sum_schedule ∨ f = k_sha_Sum_mix ∨ f = k_sha_Sum_sums ∨ f = k_sha_Sum_fill ∨ f = k_sha_Sum_fill_1 ∨ f = k_sha_padding ∨ f = k_sha_Sum_Write ∨ f = k_sha_Sum_End ∨ f = k_sha_New → Nat.beq f k = false) : NoSha (shX k) := by
  have g : ∀ f, Nat.beq f k_sha_Of = false → Nat.beq f k = false → ∀ a h, shX k (.fn f) a h = none := fun f h1 h2 a h => (orX_r (bytesX_no h h1)).trans (pureX_no h h2)
  exact ⟨g _ rfl (hk _ (by simp)), g _ rfl (hk _ (by simp)), g _ rfl (hk _ (by simp)), g _ rfl (hk _ (by simp)), g _ rfl (hk _ (by simp)), g _ rfl (hk _ (by simp)), g _ rfl (hk _ (by simp)), g _ rfl (hk _ (by simp)), g _ rfl (hk _ (by simp)), g _ rfl (hk _ (by simp)), g _ rfl (hk _ (by simp)), g _ rfl (hk _ (by simp)), g _ rfl (hk _ (by simp)), fun _ _ _ => rfl⟩
theorem x_ofH (hx : HasOf X) (N : Nat) (l : List Nat) (a : Option (Nat × Nat)) (c : Option Nat) (h : H) {ez : Nat} (src : SrcH h a ez l) (hl : l.length ≤ 100000) : callX E X (N + 1) (.fn k_sha_Of) [.slice a l.length c ez] h = some (.agg (ofI .u8 (shaV l)), h) := by
  refine x_known (hx _ _ l _ ?_ (by unfold ofS; rw [decide_eq_true hl]; rfl))
  rcases src with rfl | ⟨bi, off, vs, m, rfl, rfl, h3, h4, h5, h6⟩
  · rfl
  · cases hn : l.length with
    | zero => rw [List.length_eq_zero_iff.1 hn]; rfl
    | succ n =>
      show rdC (n + 1) off (h.get bi) = some l
      rw [h4]
      unfold rdC
      rw [hn] at h5 h6
      simp only [readN_of _ _ _ h5, h6, unI]
set_option maxRecDepth 100000 in
theorem law_ShaParts (k N : Nat) (hN : 2000 ≤ N) (e : EnSha E) (el : E k_purserlaw04_ShaParts = some f_purserlaw04_ShaParts) (eL : E k_sha_Sum_Len = some f_sha_Sum_Len) (x : NoSha (shX k)) (hk : k = k_purserlaw04_alive) (hx : ∀ a h, shX k (.fn k_purserlaw04_ShaParts) a h = none) (hxL : ∀ a h, shX k (.fn k_sha_Sum_Len) a h = none) (hxO : HasOf (shX k)) (hal : ∀ h, shX k (.fn k) [] h = some (.bool true, h))
    (l : List Nat) (a : Option (Nat × Nat)) (at_ : Nat) (hat : at_ < 65536) (h : H) (src : SrcH h a 1 l) :
    ∃ h2, callX E (shX k) (N + 1) (.fn k_purserlaw04_ShaParts) [.slice a l.length none 1, .int .u16 (at_ : Int)] h = some (.bool true, h2) := by
  rw [x_cfn el _ _ (Nat.le_of_ble_eq_true rfl) (hx _ _)]
  have al : ∀ h, callX E (shX k) N (.fn k) [] h = some (.bool true, h) := fun h => by obtain ⟨M, rfl⟩ : ∃ M, N = M + 1 := ⟨N - 1, by omega⟩; exact x_known (hal h)
  rw [hk] at al
  rw [← z32e]
  by_cases hl : 1000 < l.length
  · have c1 : decide ((1000 : Int) < (l.length : Int)) = true := decide_eq_true (by omega)
    rw [hk]
    simp (config := {maxSteps := 2000000}) (disch := first | omega | rfl | (simp only [ofI_len, shaV_len, List.length_append, List.length_take, List.length_drop, List.length_cons, List.length_nil, List.length_replicate, List.length_set]; done) | (simp only [ofI_len, shaV_len, List.length_append, List.length_take, List.length_drop, List.length_cons, List.length_nil, List.length_replicate, List.length_set]; omega)) only [al, c1, ↓s_len, x_lenS, ↓b_xor32, ↓b_and32, ↓b_or32, ↓u_not32, b_xor32, b_and32, b_or32, u_not32, w32ad, ↓x_conv, x_convV, ↓x_fieldAddr, x_fieldV, ↓s_nilchk, x_nilchk, Nat.zero_add, Nat.add_zero, Nat.mul_one, ↓l_loop, ↓l_succ, ↓l_normal, l_normal, l_exit, l_ret, l_iteN, ↓h_put_get, ↓h_new_get, ↓h_del_get, h_next_put, h_next_new, h_next_del, Nat.add_assoc, Nat.add_eq_left, Nat.left_eq_add, Nat.add_left_cancel_iff, ↓s_load, m_load, ↓m_load1, m_load1, ↓m_st, m_stE, m_storeI, m_storeE, ↓s_alloc, ↓x_idxA, ↓x_idxS, x_idxAE, x_idxSE, x_addrE, x_idx, x_lenS, ↓s_len, ↓x_buildS, x_buildE, ↓x_P0, ↓x_P1, x_fill0, x_filli, x_fills, x_fillb, c_int, List.length_cons, List.length_nil, List.cons_append, List.drop_succ_cons, List.drop_zero, List.drop_nil, List.nil_append, Int.reduceAdd, Int.reduceToNat, Int.reduceLT, Int.reduceLE, Nat.reduceAdd, Nat.reduceMul, Nat.reduceLeDiff, Int.reduceEq, Int.reduceSub, Int.cast_ofNat_Int, s_resc, s_consR, m_load4, m_store4, s_res0, ↓s_skip, ↓s_ops, ↓s_dops, ↓s_seq, ↓s_cond, ↓s_block, ↓s_exit, ↓s_ret, ↓s_scope, ↓s_nil, ↓s_op, ↓s_opg, ↓s_wanted', ↓s_wantV, s_wantV, s_wantV0, beq_true, beq_false, ↓s_bindS, s_bindS, ↓s_bindE, s_bindE, s_bindE_ret, s_bindE_exit, s_bindE_iteN, s_norm, ↓s_condV, s_condV, s_block_ret, s_block_normal, s_block_exit, s_block_iteN, ↓s_getp, ↓s_getp0, ↓s_get, s_get0, ↓s_con, ↓s_fn, ↓s_os0, ↓s_os1, ↓s_list0, ↓s_list1, ↓s_mov, ↓s_pick, ↓s_pickE, s_pickE, ↓s_bin, ↓s_un, ↓s_minmax, ↓s_call, ↓s_callv, ↓s_callV, ↓s_ext, s_same, b_eql, b_neq, b_lss, b_leq, b_gtr, b_geq, b_add, b_sub, b_mul, b_eqlb, b_neqb, b_fnil, b_fnil', b_fnil2, b_fnil2', u_neg, u_not, m_two, s_end, s_end', s_end_iteN, s_res0, s_res1, s_tup1, s_tup2, ↓iteN_true, ↓iteN_false, iteN_true, iteN_false, Nat.zero_add, List.nil_append, List.append_nil, Nat.reduceEqDiff, reduceIte, decide_true, decide_false, Bool.not_true, Bool.not_false, List.getElem?_cons_zero, List.getElem?_cons_succ, Bool.false_eq_true, if_true, if_false, beq_self_eq_true]
    exact ⟨_, rfl⟩
  · have c1 : decide ((1000 : Int) < (l.length : Int)) = false := decide_eq_false (by omega)
    have wat : wr .i64 (at_ : Int) = (at_ : Int) := w64n (by omega)
    have w1 : wr .i64 ((l.length : Int) + 1) = ((l.length + 1 : Nat) : Int) := by rw [wr_i64 (by omega)]; omega
    obtain ⟨n, en⟩ : ∃ n, at_ % (l.length + 1) = n := ⟨_, rfl⟩
    have hn : n ≤ l.length := by have := Nat.mod_lt at_ (Nat.succ_pos l.length); simp only [Nat.succ_eq_add_one] at this; omega
    have ra : ∀ e h, binV .rem e h (.int .i64 (at_ : Int)) (.int .i64 ((l.length + 1 : Nat) : Int)) = some (.int .i64 (n : Int)) := fun e h => by rw [b_rem _ _ _ _ _ (by omega), ← en]; rfl
    obtain ⟨M, rfl⟩ : ∃ M, N = M + 81 := ⟨N - 81, by omega⟩
    have oo := x_ofH (E := E) hxO (M + 80) l a none h src (by omega)
    obtain ⟨q1, q2, q3⟩ := put32 (shaV l) (shaV_len l)
    obtain ⟨hA, eA⟩ : ∃ hA, (h.new (.cells (ofI .u8 (List.replicate 32 0)) .rw)).put h.next (.cells (ofI .u8 (shaV l)) .rw) = hA := ⟨_, rfl⟩
    have kA : Kp h hA := by rw [← eA]; exact (Kp.new _ _).put _ (Nat.le_refl _)
    have nA : hA.next = h.next + 1 := by rw [← eA]; rfl
    have gA : hA.get h.next = some (.cells (ofI .u8 (shaV l)) .rw) := by rw [← eA, h_put_same]
    obtain ⟨hB, p, rB, sB, kB, pB⟩ := new_at e x (M + 79) hA
    have n1 : (l.take n).length = n := by rw [List.length_take]; omega
    have n2 : (l.drop n).length = l.length - n := List.length_drop ..
    have kAB := kA.trans kB
    obtain ⟨hC, rC, sC, kC⟩ := write_at e x (M + 1) p initS initS_ok (l.take n) a n n1 none 1 hB (by omega) (by omega) sB ((src.take n).src kAB p (by omega))
    have kAC : Kp h hC := ⟨Nat.le_trans kAB.1 kC.1, fun i hi => by rw [kC.2 i (Nat.lt_of_lt_of_le hi kAB.1) (by omega), kAB.2 i hi]⟩
    obtain ⟨hD, rD, sD, kD⟩ := write_at e x (M + 1) p _ (absorb_ok _ _ initS_ok) (l.drop n) (upA a n) (l.length - n) n2 none 1 hC (by omega) (by omega) sC ((src.drop n).src2 kAC.1 kAC.2 p (by omega))
    have ea : absorb (absorb initS (l.take n)) (l.drop n) = absorb initS l := by rw [← absorb_app, List.take_append_drop]
    rw [ea] at sD
    have kAD : Kp h hD := ⟨Nat.le_trans kAC.1 kD.1, fun i hi => by rw [kD.2 i (Nat.lt_of_lt_of_le hi kAC.1) (by omega), kAC.2 i hi]⟩
    obtain ⟨hE, q, rE, sE, kE, pE⟩ := new_at e x (M + 79) hD
    have kAE := kAD.trans kE
    have pq : p ≠ q := by have := sD.1; omega
    have gE : hE.get h.next = some (.cells (ofI .u8 (shaV l)) .rw) := by
      have hb : h.next < hB.next := by have := kB.1; omega
      rw [kE.2 _ (by have := kD.1; have := kC.1; omega), kD.2 _ (by have := kC.1; omega) (by omega), kC.2 _ hb (by omega), kB.2 _ (by omega), gA]
    have sEp : SumAt hE p (absorb initS l) := sD.kp kE
    have fin : ∀ T, PL hE l a h.next p q initS 0 T hE → ∃ h2, fnEnd [.tmp 4] (bindE (blockE 0 (loopN (evC (callX E (shX k) (M + 81)) 79 (M + 81) none L_purserlaw04_ShaParts_0) (M + 81) ⟨T, [], hE⟩)) (evC (callX E (shX k) (M + 81)) 79 (M + 81) none R_purserlaw04_ShaParts_0)) = some (.bool true, h2) := by
      intro T I
      obtain ⟨T', hF, r1, il, t0, t5, t7, t8, t9, t39, t40, sF, kF⟩ := parts_loop e x (M + 1) (M + 81) (by omega) hE h l (by omega) (by omega) a h.next p q initS src kAE (by have := kAD.1; omega) T hE I
      rw [List.take_length] at sF
      replace r1 : loopN (evC (callX E (shX k) (M + 81)) 79 (M + 81) none L_purserlaw04_ShaParts_0) (M + 81) ⟨T, [], hE⟩ = some (.exit 0, ⟨T', [], hF⟩) := r1
      rw [r1]
      have ok := absorb_ok l initS initS_ok
      have sFp : SumAt hF p (absorb initS l) := sEp.kq kF pq
      have nE : h.next < hE.next := by have := sEp.1; have := sB.1; omega
      have gF : hF.get h.next = some (.cells (ofI .u8 (shaV l)) .rw) := by rw [kF.2 _ nE (by have := kAD.1; have := kB.1; have := kC.1; have := kD.1; omega), gE]
      obtain ⟨hG, rG, kG⟩ := end_at e x M p _ ok hF (by omega) sFp
      have gG : hG.get h.next = some (.cells (ofI .u8 (shaV l)) .rw) := by rw [kG.2 _ (Nat.lt_of_lt_of_le nE kF.1), gF]
      obtain ⟨hI, rI, kI⟩ := end_at e x M q _ ok hG (by omega) (sF.kp kG)
      have gI : hI.get h.next = some (.cells (ofI .u8 (shaV l)) .rw) := by rw [kI.2 _ (Nat.lt_of_lt_of_le nE (Nat.le_trans kF.1 kG.1)), gG]
      have sIq := (sF.kp kG).kp kI
      have sIp := (sFp.kp kG).kp kI
      have rL := len_go eL hxL e x (M + 79) q _ ok .rw hI sIq.2
      rw [len_absorb l initS initS_ok (by simp only [initS]; omega)] at rL
      simp only [initS, Nat.zero_add] at rL
      obtain ⟨hJ, rJ, sJ, kJ⟩ := write_at e x (M + 1) p _ ok [] none 0 rfl (some 0) 0 hI (by simp) (by simp) sIp (.inl rfl)
      have gJ : hJ.get h.next = some (.cells (ofI .u8 (shaV l)) .rw) := by
        have := Nat.lt_of_lt_of_le nE (Nat.le_trans kF.1 (Nat.le_trans kG.1 kI.1))
        rw [kJ.2 _ this (by have := kB.1; omega), gI]
      obtain ⟨hK, rK, kK⟩ := end_at e x M p _ ok hJ (by omega) sJ
      have gK : hK.get h.next = some (.cells (ofI .u8 (shaV l)) .rw) := by
        have := Nat.lt_of_lt_of_le nE (Nat.le_trans kF.1 (Nat.le_trans kG.1 (Nat.le_trans kI.1 kJ.1)))
        rw [kK.2 _ this, gJ]
      have es : endV (absorb initS l) = shaV l := rfl
      rw [es] at rG rI rK
      replace rJ : callX E (shX k) (M + 81) (.fn k_sha_Sum_Write) [.ptr (some (p, 0)), .slice none 0 (some 0) 0] hI = some (.ptr (some (p, 0)), hJ) := rJ
      have wl : wr .u64 (l.length : Int) = (l.length : Int) := u64n _ (by omega)
      have sl32 := shaV_len l
      simp (config := {maxSteps := 2000000}) (disch := first | omega | rfl | (simp only [ofI_len, shaV_len, List.length_append, List.length_take, List.length_drop, List.length_cons, List.length_nil, List.length_replicate, List.length_set]; done) | (simp only [ofI_len, shaV_len, List.length_append, List.length_take, List.length_drop, List.length_cons, List.length_nil, List.length_replicate, List.length_set]; omega)) only [R_purserlaw04_ShaParts_0, t0, t5, t7, t8, t9, gF, gG, gI, gJ, gK, rG, rI, rL, rJ, rK, wl, sl32, q3, vbeq_I, ↓s_len, x_lenS, ↓s_dBuildS, s_dbE, rdI, ofI_get, m_src, m_src0, srcI, ldI, ld1I, wrAll, wrI, wr1I, stI, st32, take_all, drop_all, List.take_zero, List.drop_zero, List.nil_append, List.append_nil, appF_of, appFI, appF0, appU_of, appUIw, appUIs, app0, appN, eq32, neq32, ↓s_append, ↓x_copy, ↓x_slcA, x_slcAE, slcB_nn, slcB_hi, slcB_lo, slcB_lh, slcV_nn, slcV_hiU, slcV_hiC, slcV_lo, slcV_loL, slcV_hiUL, slcV_hiCL, slcV_mxL, slcB_hiL, slcB_loL, subC_some, subC_none, ↓x_slcS, x_bnd0, x_M1, x_M0, x_lenA, ofQ_some, Nat.sub_zero, ofI_len, shaV_len, ↓s_box, c_agg, List.length_append, List.length_cons, List.length_nil, Nat.reduceLeDiff, Nat.reduceSub, List.length_replicate, ↓b_xor32, ↓b_and32, ↓b_or32, ↓u_not32, b_xor32, b_and32, b_or32, u_not32, w32ad, ↓x_conv, x_convV, ↓x_fieldAddr, x_fieldV, ↓s_nilchk, x_nilchk, Nat.zero_add, Nat.add_zero, Nat.mul_one, ↓s_evD, ↓s_dnil, ↓s_dL, ↓s_dLg, ↓s_dR, ↓s_dRg, ↓s_dRj, ↓s_dRjg, ↓s_dB, ↓s_dBg, ↓s_dAlloc, ↓s_bindD, s_bindD, s_finD, s_finDx, s_addP0, s_addP1, s_addB, s_lookP, ↓s_bump0, ↓s_bump_get, s_bump_next, s_ok0, ↓s_ok1, s_okR0, ↓s_okR1, ↓s_okE, s_okE, s_okE1, s_nth0, s_nthS, Nat.add_zero, Bool.and_self, Bool.and_true, Bool.true_and, ↓l_loop, ↓l_succ, ↓l_normal, l_normal, l_exit, l_ret, l_iteN, ↓h_put_get, ↓h_new_get, ↓h_del_get, h_next_put, h_next_new, h_next_del, Nat.add_assoc, Nat.add_eq_left, Nat.left_eq_add, Nat.add_left_cancel_iff, ↓s_load, m_load, ↓m_load1, m_load1, ↓m_st, m_stE, m_storeI, m_storeE, ↓s_alloc, ↓x_idxA, ↓x_idxS, x_idxAE, x_idxSE, x_addrE, x_idx, x_lenS, ↓s_len, ↓x_buildS, x_buildE, ↓x_P0, ↓x_P1, x_fill0, x_filli, x_fills, x_fillb, c_int, List.length_cons, List.length_nil, List.cons_append, List.drop_succ_cons, List.drop_zero, List.drop_nil, List.nil_append, Int.reduceAdd, Int.reduceToNat, Int.reduceLT, Int.reduceLE, Nat.reduceAdd, Nat.reduceMul, Nat.reduceLeDiff, Int.reduceEq, Int.reduceSub, Int.cast_ofNat_Int, s_resc, s_consR, m_load4, m_store4, s_res0, ↓s_skip, ↓s_ops, ↓s_dops, ↓s_seq, ↓s_cond, ↓s_block, ↓s_exit, ↓s_ret, ↓s_scope, ↓s_nil, ↓s_op, ↓s_opg, ↓s_wanted', ↓s_wantV, s_wantV, s_wantV0, beq_true, beq_false, ↓s_bindS, s_bindS, ↓s_bindE, s_bindE, s_bindE_ret, s_bindE_exit, s_bindE_iteN, s_norm, ↓s_condV, s_condV, s_block_ret, s_block_normal, s_block_exit, s_block_iteN, ↓s_getp, ↓s_getp0, ↓s_get, s_get0, ↓s_con, ↓s_fn, ↓s_os0, ↓s_os1, ↓s_list0, ↓s_list1, ↓s_mov, ↓s_pick, ↓s_pickE, s_pickE, ↓s_bin, ↓s_un, ↓s_minmax, ↓s_call, ↓s_callv, ↓s_callV, ↓s_ext, s_same, b_eql, b_neq, b_lss, b_leq, b_gtr, b_geq, b_add, b_sub, b_mul, b_eqlb, b_neqb, b_fnil, b_fnil', b_fnil2, b_fnil2', u_neg, u_not, m_two, s_end, s_end', s_end_iteN, s_res0, s_res1, s_tup1, s_tup2, ↓iteN_true, ↓iteN_false, iteN_true, iteN_false, Nat.zero_add, List.nil_append, List.append_nil, Nat.reduceEqDiff, reduceIte, decide_true, decide_false, Bool.not_true, Bool.not_false, List.getElem?_cons_zero, List.getElem?_cons_succ, Bool.false_eq_true, if_true, if_false, beq_self_eq_true]
      exact ⟨_, rfl⟩
    obtain ⟨R, eR⟩ : ∃ R, R_purserlaw04_ShaParts_0 = R := ⟨_, rfl⟩
    obtain ⟨Lo, eLo⟩ : ∃ R, L_purserlaw04_ShaParts_0 = R := ⟨_, rfl⟩
    rw [eR, eLo] at fin ⊢
    have sv1 := slcV_hiA l.length n a .i64 hn
    have sv2 := slcV_loA l.length n a .i64 hn
    replace rC : callX E (shX k) (M + 81) (.fn k_sha_Sum_Write) [.ptr (some (p, 0)), .slice a n none 1] hB = some (.ptr (some (p, 0)), hC) := rC
    replace rD : callX E (shX k) (M + 81) (.fn k_sha_Sum_Write) [.ptr (some (p, 0)), .slice (upA a n) (l.length - n) none 1] hC = some (.ptr (some (p, 0)), hD) := rD
    rw [hk] at *
    generalize ofI .u8 (shaV l) = SV at *
    generalize ofI .u8 (List.replicate 32 0) = Z at *
    simp (config := {maxSteps := 2000000}) (disch := first | omega | rfl | (simp only [ofI_len, shaV_len, List.length_append, List.length_take, List.length_drop, List.length_cons, List.length_nil, List.length_replicate, List.length_set]; done) | (simp only [ofI_len, shaV_len, List.length_append, List.length_take, List.length_drop, List.length_cons, List.length_nil, List.length_replicate, List.length_set]; omega)) only [al, c1, oo, wat, w1, ra, q1, q2, eA, rB, rC, rD, rE, sv1, sv2, ↓s_len, x_lenS, ↓x_slcS, x_M0, x_M1, ↓b_xor32, ↓b_and32, ↓b_or32, ↓u_not32, b_xor32, b_and32, b_or32, u_not32, w32ad, ↓x_conv, x_convV, ↓x_fieldAddr, x_fieldV, ↓s_nilchk, x_nilchk, Nat.zero_add, Nat.add_zero, Nat.mul_one, ↓s_evD, ↓s_dnil, ↓s_dL, ↓s_dLg, ↓s_dR, ↓s_dRg, ↓s_dRj, ↓s_dRjg, ↓s_dB, ↓s_dBg, ↓s_dAlloc, ↓s_bindD, s_bindD, s_finD, s_finDx, s_addP0, s_addP1, s_addB, s_lookP, ↓s_bump0, ↓s_bump_get, s_bump_next, s_ok0, ↓s_ok1, s_okR0, ↓s_okR1, ↓s_okE, s_okE, s_okE1, s_nth0, s_nthS, Nat.add_zero, Bool.and_self, Bool.and_true, Bool.true_and, ↓l_loop, ↓l_succ, ↓l_normal, l_normal, l_exit, l_ret, l_iteN, ↓h_put_get, ↓h_new_get, ↓h_del_get, h_next_put, h_next_new, h_next_del, Nat.add_assoc, Nat.add_eq_left, Nat.left_eq_add, Nat.add_left_cancel_iff, ↓s_load, m_load, ↓m_load1, m_load1, ↓m_st, m_stE, m_storeI, w_zero, w_succ, ↓s_alloc, ↓x_idxA, ↓x_idxS, x_idxAE, x_idxSE, x_addrE, x_idx, x_lenS, ↓s_len, ↓x_buildS, x_buildE, ↓x_P0, ↓x_P1, x_fill0, x_filli, x_fills, x_fillb, c_int, List.length_cons, List.length_nil, List.cons_append, List.drop_succ_cons, List.drop_zero, List.drop_nil, List.nil_append, Int.reduceAdd, Int.reduceToNat, Int.reduceLT, Int.reduceLE, Nat.reduceAdd, Nat.reduceMul, Nat.reduceLeDiff, Int.reduceEq, Int.reduceSub, Int.cast_ofNat_Int, s_resc, s_consR, m_load4, m_store4, s_res0, ↓s_skip, ↓s_ops, ↓s_dops, ↓s_seq, ↓s_cond, ↓s_block, ↓s_exit, ↓s_ret, ↓s_scope, ↓s_nil, ↓s_op, ↓s_opg, ↓s_wanted', ↓s_wantV, s_wantV, s_wantV0, beq_true, beq_false, ↓s_bindS, s_bindS, ↓s_bindE, s_bindE, s_bindE_ret, s_bindE_exit, s_bindE_iteN, s_norm, ↓s_condV, s_condV, s_block_ret, s_block_normal, s_block_exit, s_block_iteN, ↓s_getp, ↓s_getp0, ↓s_get, s_get0, ↓s_con, ↓s_fn, ↓s_os0, ↓s_os1, ↓s_list0, ↓s_list1, ↓s_mov, ↓s_pick, ↓s_pickE, s_pickE, ↓s_bin, ↓s_un, ↓s_minmax, ↓s_call, ↓s_callv, ↓s_callV, ↓s_ext, s_same, b_eql, b_neq, b_lss, b_leq, b_gtr, b_geq, b_add, b_sub, b_mul, b_eqlb, b_neqb, b_fnil, b_fnil', b_fnil2, b_fnil2', u_neg, u_not, m_two, s_end, s_end', s_end_iteN, s_res0, s_res1, s_tup1, s_tup2, ↓iteN_true, ↓iteN_false, iteN_true, iteN_false, Nat.zero_add, List.nil_append, List.append_nil, Nat.reduceEqDiff, reduceIte, decide_true, decide_false, Bool.not_true, Bool.not_false, List.getElem?_cons_zero, List.getElem?_cons_succ, Bool.false_eq_true, if_true, if_false, beq_self_eq_true]
    exact fin _ ⟨by omega, (by (simp only [s_getp, s_getp0, Nat.reduceEqDiff, decide_false, decide_true, iteN_false, iteN_true, eA]; try rfl)), (by (simp only [s_getp, s_getp0, Nat.reduceEqDiff, decide_false, decide_true, iteN_false, iteN_true, eA]; try rfl)), (by (simp only [s_getp, s_getp0, Nat.reduceEqDiff, decide_false, decide_true, iteN_false, iteN_true, eA]; try rfl)), (by (simp only [s_getp, s_getp0, Nat.reduceEqDiff, decide_false, decide_true, iteN_false, iteN_true, eA]; try rfl)), (by (simp only [s_getp, s_getp0, Nat.reduceEqDiff, decide_false, decide_true, iteN_false, iteN_true, eA]; try rfl)), (by (simp only [s_getp, s_getp0, Nat.reduceEqDiff, decide_false, decide_true, iteN_false, iteN_true, eA]; try rfl)), (by (simp only [s_getp, s_getp0, Nat.reduceEqDiff, decide_false, decide_true, iteN_false, iteN_true, eA]; try rfl)), sE, Kq.refl _ _⟩
end Go.Eng
namespace Go.Eng
open Go
variable {E : Nat → Option Fn} {X : Orc}
set_option linter.unusedSimpArgs false
set_option linter.unusedVariables false
theorem s_dBuildSg {Q : Orc} {base : Nat} (d : Option Nat) (z : List V) (len esz : Nat) (ps : List (Nat × Nat × O)) (s : Nat) (j : Nat) (w : Bool) (r : List (Op × Cl)) (T : Tr V) (hb : H) (p : List (Nat × Blk)) (hi : List H) (c : List (A × Tr V × List (Nat × List Nat) × V)) :
    evDxl Q base ((⟨d, .buildS z len esz ps, some (j, w)⟩, .Al s) :: r) ⟨T, hb, p, hi, c⟩ = iteN (wanted T (some (j, w))) (dbE (fillV z (evP T ps)) fun l => evDxl Q base r ⟨putT T d (.slice (some (base + s, 0)) len (some len) esz), hb, (s, .cells l .rw) :: p, hi, c⟩) (evDxl Q base r ⟨putT T d undefV, hb, p, hi, c⟩) := by
  have e0 := s_dBuildS (Q := Q) (base := base) d z len esz ps s r T hb p hi c
  simp only [evDxl, evDx1, evD1, wanted] at e0
  simp only [evDxl, evDx1, evD1]
  cases hw : wanted T (some (j, w)) with
  | false => rfl
  | true => simp only [iteN_true]; exact e0
/-! sha.Twice, known -/
def twS (l : List Nat) : Option V := if decide (l.length ≤ 100000) then some (.agg (ofI .u8 (shaV (shaV l)))) else none
theorem twice_go (e : E k_sha_Twice = some f_sha_Twice) (x : ∀ a h, X (.fn k_sha_Twice) a h = none) (hx : HasOf X) (N : Nat) (l : List Nat) (hl : l.length ≤ 100000) (a : Option (Nat × Nat)) (c : Option Nat) (h : H) {ez : Nat} (src : SrcH h a ez l) :
    ∃ h', callX E X (N + 2) (.fn k_sha_Twice) [.slice a l.length c ez] h = some (.agg (ofI .u8 (shaV (shaV l))), h') ∧ Kp h h' := by
  rw [x_cfn e _ _ (Nat.le_of_ble_eq_true rfl) (x _ _)]
  have o1 := x_ofH (E := E) hx N l a c (h.new (.cells (ofI .u8 (List.replicate 32 0)) .rw)) (src.mono (Kp.new _ _)) hl
  have lv := shaV_len l
  have lv2 := shaV_len (shaV l)
  have fo := fun i off n c h => x_ofQ (E := E) hx N i off n c h
  rw [← z32e]
  obtain ⟨n, en⟩ : ∃ n, l.length = n := ⟨_, rfl⟩
  rw [en] at o1 ⊢
  simp (config := {maxSteps := 2000000}) (disch := first | omega | rfl | (simp only [ofI_len, shaV_len, List.length_append, List.length_take, List.length_drop, List.length_cons, List.length_nil, List.length_replicate, List.length_set]; done) | (simp only [ofI_len, shaV_len, List.length_append, List.length_take, List.length_drop, List.length_cons, List.length_nil, List.length_replicate, List.length_set]; omega)) only [o1, lv, lv2, ↓fo, ↓s_dBuildS, s_dbE, rdI, ofI_get, m_src, m_src0, srcI, ldI, ld1I, wrAll, wrI, wr1I, stI, st32, take_all, drop_all, List.take_zero, List.drop_zero, List.nil_append, List.append_nil, appF_of, appFI, appF0, appU_of, appUIw, appUIs, app0, appN, eq32, neq32, ↓s_append, ↓x_copy, ↓x_slcA, x_slcAE, slcB_nn, slcB_hi, slcB_lo, slcB_lh, slcV_nn, slcV_hiU, slcV_hiC, slcV_lo, slcV_loL, slcV_hiUL, slcV_hiCL, slcV_mxL, slcB_hiL, slcB_loL, subC_some, subC_none, ↓x_slcS, x_bnd0, x_M1, x_M0, x_lenA, ofQ_some, Nat.sub_zero, ofI_len, shaV_len, ↓s_box, c_agg, List.length_append, List.length_cons, List.length_nil, Nat.reduceLeDiff, Nat.reduceSub, List.length_replicate, ↓b_xor32, ↓b_and32, ↓b_or32, ↓u_not32, b_xor32, b_and32, b_or32, u_not32, w32ad, ↓x_conv, x_convV, ↓x_fieldAddr, x_fieldV, ↓s_nilchk, x_nilchk, Nat.zero_add, Nat.add_zero, Nat.mul_one, ↓s_evD, ↓s_dnil, ↓s_dL, ↓s_dLg, ↓s_dR, ↓s_dRg, ↓s_dRj, ↓s_dRjg, ↓s_dB, ↓s_dBg, ↓s_dAlloc, ↓s_bindD, s_bindD, s_finD, s_finDx, s_addP0, s_addP1, s_addB, s_lookP, ↓s_bump0, ↓s_bump_get, s_bump_next, s_ok0, ↓s_ok1, s_okR0, ↓s_okR1, ↓s_okE, s_okE, s_okE1, s_nth0, s_nthS, Nat.add_zero, Bool.and_self, Bool.and_true, Bool.true_and, ↓l_loop, ↓l_succ, ↓l_normal, l_normal, l_exit, l_ret, l_iteN, ↓h_put_get, ↓h_new_get, ↓h_del_get, h_next_put, h_next_new, h_next_del, Nat.add_assoc, Nat.add_eq_left, Nat.left_eq_add, Nat.add_left_cancel_iff, ↓s_load, m_load, ↓m_load1, m_load1, ↓m_st, m_stE, m_storeI, m_storeE, ↓s_alloc, ↓x_idxA, ↓x_idxS, x_idxAE, x_idxSE, x_addrE, x_idx, x_lenS, ↓s_len, ↓x_buildS, x_buildE, ↓x_P0, ↓x_P1, x_fill0, x_filli, x_fills, x_fillb, c_int, List.length_cons, List.length_nil, List.cons_append, List.drop_succ_cons, List.drop_zero, List.drop_nil, List.nil_append, Int.reduceAdd, Int.reduceToNat, Int.reduceLT, Int.reduceLE, Nat.reduceAdd, Nat.reduceMul, Nat.reduceLeDiff, Int.reduceEq, Int.reduceSub, Int.cast_ofNat_Int, s_resc, s_consR, m_load4, m_store4, s_res0, ↓s_skip, ↓s_ops, ↓s_dops, ↓s_seq, ↓s_cond, ↓s_block, ↓s_exit, ↓s_ret, ↓s_scope, ↓s_nil, ↓s_op, ↓s_opg, ↓s_wanted', ↓s_wantV, s_wantV, s_wantV0, beq_true, beq_false, ↓s_bindS, s_bindS, ↓s_bindE, s_bindE, s_bindE_ret, s_bindE_exit, s_bindE_iteN, s_norm, ↓s_condV, s_condV, s_block_ret, s_block_normal, s_block_exit, s_block_iteN, ↓s_getp, ↓s_getp0, ↓s_get, s_get0, ↓s_con, ↓s_fn, ↓s_os0, ↓s_os1, ↓s_list0, ↓s_list1, ↓s_mov, ↓s_pick, ↓s_pickE, s_pickE, ↓s_bin, ↓s_un, ↓s_minmax, ↓s_call, ↓s_callv, ↓s_callV, ↓s_ext, s_same, b_eql, b_neq, b_lss, b_leq, b_gtr, b_geq, b_add, b_sub, b_mul, b_eqlb, b_neqb, b_fnil, b_fnil', b_fnil2, b_fnil2', u_neg, u_not, m_two, s_end, s_end', s_end_iteN, s_res0, s_res1, s_tup1, s_tup2, ↓iteN_true, ↓iteN_false, iteN_true, iteN_false, Nat.zero_add, List.nil_append, List.append_nil, Nat.reduceEqDiff, reduceIte, decide_true, decide_false, Bool.not_true, Bool.not_false, List.getElem?_cons_zero, List.getElem?_cons_succ, Bool.false_eq_true, if_true, if_false, beq_self_eq_true]
  exact ⟨_, rfl, by (repeat (first | exact Kp.refl _ | refine Kp.put ?_ _ (by first | omega | (simp only [h_next_put, h_next_new, h_next_del]; omega)) | refine Kp.del ?_ (by first | omega | (simp only [h_next_put, h_next_new, h_next_del]; omega)) | refine Kp.trans ?_ (Kp.new _ _)))⟩
noncomputable def twX : Orc := bytesX k_sha_Twice twS
theorem twX_ok {P : Program} {g : Gn} (hE : Link P g E) (e : E k_sha_Twice = some f_sha_Twice) (hO : QOk P g ofX1) : QOk P g twX := by
  refine bytesX_ok (callX_ok hE hO (0 + 2)) ?_
  intro l v hs
  unfold twS at hs
  split at hs
  · rename_i hb
    cases hs
    have hb' := of_decide_eq_true hb
    refine ⟨by simp only [dataV, datas_ofI], ?_, ?_⟩
    · intro h0 a c z
      subst h0
      obtain ⟨h', r, _⟩ := twice_go e (X := ofX1) (fun _ _ => rfl) ofX1_has 0 [] (by simp) a c (mkH [] 1) (ez := z) (.inl rfl)
      exact ⟨h', r⟩
    · intro hne c
      obtain ⟨h', r, _⟩ := twice_go e (X := ofX1) (fun _ _ => rfl) ofX1_has 0 l hb' (some (0, 0)) c (mkH [(0, ofBytes l)] 1) (.inr ⟨0, 0, ofBytes l, .ro, rfl, rfl, Nat.zero_lt_one, rfl, by rw [ofB_len]; omega, (by rw [List.drop_zero, ← ofI_u8]; exact List.take_of_length_le (by rw [ofI_len]; omega))⟩)
      exact ⟨h', r⟩
  · cases hs

/-- what the laws of sha know, with Twice -/
noncomputable def stX (k : Nat) : Orc := orX twX (shX k)
theorem st_of {k : Nat} : HasOf (stX k) := fun x h l v e q => (orX_r rfl).trans (orX_l (ofX1_has x h l v e q))
theorem x_twH (k N : Nat) (l : List Nat) (a : Option (Nat × Nat)) (c : Option Nat) (h : H) {ez : Nat} (src : SrcH h a ez l) (hl : l.length ≤ 100000) : callX E (stX k) (N + 1) (.fn k_sha_Twice) [.slice a l.length c ez] h = some (.agg (ofI .u8 (shaV (shaV l))), h) := by
  refine x_known (orX_l (bytesX_yes h (l := l) ?_ (by unfold twS; rw [decide_eq_true hl]; rfl)))
  rcases src with rfl | ⟨bi, off, vs, m, rfl, rfl, h3, h4, h5, h6⟩
  · rfl
  · cases hn : l.length with
    | zero => rw [List.length_eq_zero_iff.1 hn]; rfl
    | succ n =>
      show rdC (n + 1) off (h.get bi) = some l
      rw [h4]
      unfold rdC
      rw [hn] at h5 h6
      simp only [readN_of _ _ _ h5, h6, unI]
theorem short_go (k : Nat) (e : E k_sha_Short = some f_sha_Short) (x : ∀ a h, stX k (.fn k_sha_Short) a h = none) (N : Nat) (l : List Nat) (hl : l.length ≤ 100000) (a : Option (Nat × Nat)) (c : Option Nat) (h : H) {ez : Nat} (src : SrcH h a ez l) :
    ∃ h', callX E (stX k) (N + 2) (.fn k_sha_Short) [.slice a l.length c ez] h = some (.slice (some (h.next + 1, 0)) 20 (some 20) 1, h') ∧ Kp h h' ∧ h.next + 2 ≤ h'.next ∧ h'.get (h.next + 1) = some (.cells (ofI .u8 ((shaV (shaV l)).take 20)) .rw) := by
  rw [x_cfn e _ _ (Nat.le_of_ble_eq_true rfl) (x _ _)]
  have o1 := x_twH (E := E) k N l a c h src hl
  have lv2 := shaV_len (shaV l)
  have mk : ∀ h, mksE [.int .u8 0] 1 (.int .i64 20) (.int .i64 20) h = _ := fun h => mkslice_n h .u8 .i64 20 (by omega)
  generalize shaV (shaV l) = D at *
  obtain ⟨h1, e1⟩ : ∃ h1, ((h.new (.cells (ofI .u8 (List.replicate 32 0)) .rw)).put h.next (.cells (ofI .u8 D) .rw)).new (.cells (ofI .u8 (List.replicate 20 0)) .rw) = h1 := ⟨_, rfl⟩
  have n1 : h1.next = h.next + 2 := by rw [← e1]; rfl
  have g0 : h1.get h.next = some (.cells (ofI .u8 D) .rw) := by rw [← e1]; (simp (disch := omega) only [l_loop, l_succ, l_normal, l_normal, l_exit, l_ret, l_iteN, h_put_get, h_new_get, h_del_get, h_next_put, h_next_new, h_next_del, Nat.add_assoc, Nat.add_eq_left, Nat.left_eq_add, Nat.add_left_cancel_iff, s_load, m_load, m_load1, m_load1, m_st, m_stE, m_storeI, m_storeE, w_zero, w_succ, s_alloc, x_idxA, x_idxS, x_idxAE, x_idxSE, x_addrE, x_idx, x_lenS, s_len, x_buildS, x_buildE, x_P0, x_P1, x_fill0, x_filli, x_fills, x_fillb, c_int, List.length_cons, List.length_nil, List.cons_append, List.drop_succ_cons, List.drop_zero, List.drop_nil, List.nil_append, Int.reduceAdd, Int.reduceToNat, Int.reduceLT, Int.reduceLE, Nat.reduceAdd, Nat.reduceMul, Nat.reduceLeDiff, Int.reduceEq, Int.reduceSub, Int.cast_ofNat_Int, s_resc, s_consR, m_load4, m_store4, s_res0, decide_true, decide_false, iteN_true, iteN_false, Nat.reduceEqDiff, Nat.reduceAdd, reduceCtorEq, n1]; try rfl)
  have g1 : h1.get (h.next + 1) = some (.cells (ofI .u8 (List.replicate 20 0)) .rw) := by rw [← e1]; (simp (disch := omega) only [l_loop, l_succ, l_normal, l_normal, l_exit, l_ret, l_iteN, h_put_get, h_new_get, h_del_get, h_next_put, h_next_new, h_next_del, Nat.add_assoc, Nat.add_eq_left, Nat.left_eq_add, Nat.add_left_cancel_iff, s_load, m_load, m_load1, m_load1, m_st, m_stE, m_storeI, m_storeE, w_zero, w_succ, s_alloc, x_idxA, x_idxS, x_idxAE, x_idxSE, x_addrE, x_idx, x_lenS, s_len, x_buildS, x_buildE, x_P0, x_P1, x_fill0, x_filli, x_fills, x_fillb, c_int, List.length_cons, List.length_nil, List.cons_append, List.drop_succ_cons, List.drop_zero, List.drop_nil, List.nil_append, Int.reduceAdd, Int.reduceToNat, Int.reduceLT, Int.reduceLE, Nat.reduceAdd, Nat.reduceMul, Nat.reduceLeDiff, Int.reduceEq, Int.reduceSub, Int.cast_ofNat_Int, s_resc, s_consR, m_load4, m_store4, s_res0, decide_true, decide_false, iteN_true, iteN_false, Nat.reduceEqDiff, Nat.reduceAdd, reduceCtorEq, n1]; try rfl)
  have cp : copyE 1 (.slice (some (h.next + 1, 0)) 20 (some 20) 1) (some (32, ofI .u8 D)) h1 = some (.int .i64 20, h1.put (h.next + 1) (.cells (ofI .u8 (D.take 20)) .rw)) := by
    have := copy_bytes h1 (h.next + 1) 0 20 (some 20) D _ .rw rfl g1 (by intro h; rw [h] at lv2; cases lv2) (by omega) (by rw [ofI_len]; simp; omega)
    rw [lv2, show min 32 20 = 20 from rfl, wrAll _ _ _ (by rw [List.length_take]; simp; omega)] at this
    exact this
  rw [← z32e]
  obtain ⟨n, en⟩ : ∃ n, l.length = n := ⟨_, rfl⟩
  rw [en] at o1 ⊢
  simp (config := {maxSteps := 2000000}) (disch := first | omega | rfl | (simp only [ofI_len, shaV_len, List.length_append, List.length_take, List.length_drop, List.length_cons, List.length_nil, List.length_replicate, List.length_set]; done) | (simp only [ofI_len, shaV_len, List.length_append, List.length_take, List.length_drop, List.length_cons, List.length_nil, List.length_replicate, List.length_set]; omega)) only [o1, lv2, e1, n1, g0, g1, cp, ↓x_mkslice, mk, ↓s_dBuildS, s_dbE, rdI, ofI_get, m_src, m_src0, srcI, ldI, ld1I, wrAll, wrI, wr1I, stI, st32, take_all, drop_all, List.take_zero, List.drop_zero, List.nil_append, List.append_nil, appF_of, appFI, appF0, appU_of, appUIw, appUIs, app0, appN, eq32, neq32, ↓s_append, ↓x_copy, ↓x_slcA, x_slcAE, slcB_nn, slcB_hi, slcB_lo, slcB_lh, slcV_nn, slcV_hiU, slcV_hiC, slcV_lo, slcV_loL, slcV_hiUL, slcV_hiCL, slcV_mxL, slcB_hiL, slcB_loL, subC_some, subC_none, ↓x_slcS, x_bnd0, x_M1, x_M0, x_lenA, ofQ_some, Nat.sub_zero, ofI_len, shaV_len, ↓s_box, c_agg, List.length_append, List.length_cons, List.length_nil, Nat.reduceLeDiff, Nat.reduceSub, List.length_replicate, ↓b_xor32, ↓b_and32, ↓b_or32, ↓u_not32, b_xor32, b_and32, b_or32, u_not32, w32ad, ↓x_conv, x_convV, ↓x_fieldAddr, x_fieldV, ↓s_nilchk, x_nilchk, Nat.zero_add, Nat.add_zero, Nat.mul_one, ↓s_evD, ↓s_dnil, ↓s_dL, ↓s_dLg, ↓s_dR, ↓s_dRg, ↓s_dRj, ↓s_dRjg, ↓s_dB, ↓s_dBg, ↓s_dAlloc, ↓s_bindD, s_bindD, s_finD, s_finDx, s_addP0, s_addP1, s_addB, s_lookP, ↓s_bump0, ↓s_bump_get, s_bump_next, s_ok0, ↓s_ok1, s_okR0, ↓s_okR1, ↓s_okE, s_okE, s_okE1, s_nth0, s_nthS, Nat.add_zero, Bool.and_self, Bool.and_true, Bool.true_and, ↓l_loop, ↓l_succ, ↓l_normal, l_normal, l_exit, l_ret, l_iteN, ↓h_put_get, ↓h_new_get, ↓h_del_get, h_next_put, h_next_new, h_next_del, Nat.add_assoc, Nat.add_eq_left, Nat.left_eq_add, Nat.add_left_cancel_iff, ↓s_load, m_load, ↓m_load1, m_load1, ↓m_st, m_stE, m_storeI, m_storeE, ↓s_alloc, ↓x_idxA, ↓x_idxS, x_idxAE, x_idxSE, x_addrE, x_idx, x_lenS, ↓s_len, ↓x_buildS, x_buildE, ↓x_P0, ↓x_P1, x_fill0, x_filli, x_fills, x_fillb, c_int, List.length_cons, List.length_nil, List.cons_append, List.drop_succ_cons, List.drop_zero, List.drop_nil, List.nil_append, Int.reduceAdd, Int.reduceToNat, Int.reduceLT, Int.reduceLE, Nat.reduceAdd, Nat.reduceMul, Nat.reduceLeDiff, Int.reduceEq, Int.reduceSub, Int.cast_ofNat_Int, s_resc, s_consR, m_load4, m_store4, s_res0, ↓s_skip, ↓s_ops, ↓s_dops, ↓s_seq, ↓s_cond, ↓s_block, ↓s_exit, ↓s_ret, ↓s_scope, ↓s_nil, ↓s_op, ↓s_opg, ↓s_wanted', ↓s_wantV, s_wantV, s_wantV0, beq_true, beq_false, ↓s_bindS, s_bindS, ↓s_bindE, s_bindE, s_bindE_ret, s_bindE_exit, s_bindE_iteN, s_norm, ↓s_condV, s_condV, s_block_ret, s_block_normal, s_block_exit, s_block_iteN, ↓s_getp, ↓s_getp0, ↓s_get, s_get0, ↓s_con, ↓s_fn, ↓s_os0, ↓s_os1, ↓s_list0, ↓s_list1, ↓s_mov, ↓s_pick, ↓s_pickE, s_pickE, ↓s_bin, ↓s_un, ↓s_minmax, ↓s_call, ↓s_callv, ↓s_callV, ↓s_ext, s_same, b_eql, b_neq, b_lss, b_leq, b_gtr, b_geq, b_add, b_sub, b_mul, b_eqlb, b_neqb, b_fnil, b_fnil', b_fnil2, b_fnil2', u_neg, u_not, m_two, s_end, s_end', s_end_iteN, s_res0, s_res1, s_tup1, s_tup2, ↓iteN_true, ↓iteN_false, iteN_true, iteN_false, Nat.zero_add, List.nil_append, List.append_nil, Nat.reduceEqDiff, reduceIte, decide_true, decide_false, Bool.not_true, Bool.not_false, List.getElem?_cons_zero, List.getElem?_cons_succ, Bool.false_eq_true, if_true, if_false, beq_self_eq_true]
  refine ⟨_, rfl, Kp.put ?_ _ (by omega), by rw [h_next_put]; omega, h_put_same _ _ _⟩
  rw [← e1]
  exact ((Kp.new _ _).put _ (Nat.le_refl _)).trans (Kp.new _ _)
end Go.Eng
namespace Go.Eng
open Go
variable {E : Nat → Option Fn} {X : Orc}
set_option linter.unusedSimpArgs false
set_option linter.unusedVariables false
theorem short_goX (tw : ∀ (N : Nat) (l : List Nat) (a : Option (Nat × Nat)) (c : Option Nat) (h : H) (ez : Nat), SrcH h a ez l → l.length ≤ 100000 → callX E X (N + 1) (.fn k_sha_Twice) [.slice a l.length c ez] h = some (.agg (ofI .u8 (shaV (shaV l))), h)) (e : E k_sha_Short = some f_sha_Short) (x : ∀ a h, X (.fn k_sha_Short) a h = none) (N : Nat) (l : List Nat) (hl : l.length ≤ 100000) (a : Option (Nat × Nat)) (c : Option Nat) (h : H) {ez : Nat} (src : SrcH h a ez l) :
    ∃ h', callX E X (N + 2) (.fn k_sha_Short) [.slice a l.length c ez] h = some (.slice (some (h.next + 1, 0)) 20 (some 20) 1, h') ∧ Kp h h' ∧ h.next + 2 ≤ h'.next ∧ h'.get (h.next + 1) = some (.cells (ofI .u8 ((shaV (shaV l)).take 20)) .rw) := by
  rw [x_cfn e _ _ (Nat.le_of_ble_eq_true rfl) (x _ _)]
  have o1 := tw N l a c h ez src hl
  have lv2 := shaV_len (shaV l)
  have mk : ∀ h, mksE [.int .u8 0] 1 (.int .i64 20) (.int .i64 20) h = _ := fun h => mkslice_n h .u8 .i64 20 (by omega)
  generalize shaV (shaV l) = D at *
  obtain ⟨h1, e1⟩ : ∃ h1, ((h.new (.cells (ofI .u8 (List.replicate 32 0)) .rw)).put h.next (.cells (ofI .u8 D) .rw)).new (.cells (ofI .u8 (List.replicate 20 0)) .rw) = h1 := ⟨_, rfl⟩
  have n1 : h1.next = h.next + 2 := by rw [← e1]; rfl
  have g0 : h1.get h.next = some (.cells (ofI .u8 D) .rw) := by rw [← e1]; (simp (disch := omega) only [l_loop, l_succ, l_normal, l_normal, l_exit, l_ret, l_iteN, h_put_get, h_new_get, h_del_get, h_next_put, h_next_new, h_next_del, Nat.add_assoc, Nat.add_eq_left, Nat.left_eq_add, Nat.add_left_cancel_iff, s_load, m_load, m_load1, m_load1, m_st, m_stE, m_storeI, m_storeE, w_zero, w_succ, s_alloc, x_idxA, x_idxS, x_idxAE, x_idxSE, x_addrE, x_idx, x_lenS, s_len, x_buildS, x_buildE, x_P0, x_P1, x_fill0, x_filli, x_fills, x_fillb, c_int, List.length_cons, List.length_nil, List.cons_append, List.drop_succ_cons, List.drop_zero, List.drop_nil, List.nil_append, Int.reduceAdd, Int.reduceToNat, Int.reduceLT, Int.reduceLE, Nat.reduceAdd, Nat.reduceMul, Nat.reduceLeDiff, Int.reduceEq, Int.reduceSub, Int.cast_ofNat_Int, s_resc, s_consR, m_load4, m_store4, s_res0, decide_true, decide_false, iteN_true, iteN_false, Nat.reduceEqDiff, Nat.reduceAdd, reduceCtorEq, n1]; try rfl)
  have g1 : h1.get (h.next + 1) = some (.cells (ofI .u8 (List.replicate 20 0)) .rw) := by rw [← e1]; (simp (disch := omega) only [l_loop, l_succ, l_normal, l_normal, l_exit, l_ret, l_iteN, h_put_get, h_new_get, h_del_get, h_next_put, h_next_new, h_next_del, Nat.add_assoc, Nat.add_eq_left, Nat.left_eq_add, Nat.add_left_cancel_iff, s_load, m_load, m_load1, m_load1, m_st, m_stE, m_storeI, m_storeE, w_zero, w_succ, s_alloc, x_idxA, x_idxS, x_idxAE, x_idxSE, x_addrE, x_idx, x_lenS, s_len, x_buildS, x_buildE, x_P0, x_P1, x_fill0, x_filli, x_fills, x_fillb, c_int, List.length_cons, List.length_nil, List.cons_append, List.drop_succ_cons, List.drop_zero, List.drop_nil, List.nil_append, Int.reduceAdd, Int.reduceToNat, Int.reduceLT, Int.reduceLE, Nat.reduceAdd, Nat.reduceMul, Nat.reduceLeDiff, Int.reduceEq, Int.reduceSub, Int.cast_ofNat_Int, s_resc, s_consR, m_load4, m_store4, s_res0, decide_true, decide_false, iteN_true, iteN_false, Nat.reduceEqDiff, Nat.reduceAdd, reduceCtorEq, n1]; try rfl)
  have cp : copyE 1 (.slice (some (h.next + 1, 0)) 20 (some 20) 1) (some (32, ofI .u8 D)) h1 = some (.int .i64 20, h1.put (h.next + 1) (.cells (ofI .u8 (D.take 20)) .rw)) := by
    have := copy_bytes h1 (h.next + 1) 0 20 (some 20) D _ .rw rfl g1 (by intro h; rw [h] at lv2; cases lv2) (by omega) (by rw [ofI_len]; simp; omega)
    rw [lv2, show min 32 20 = 20 from rfl, wrAll _ _ _ (by rw [List.length_take]; simp; omega)] at this
    exact this
  rw [← z32e]
  obtain ⟨n, en⟩ : ∃ n, l.length = n := ⟨_, rfl⟩
  rw [en] at o1 ⊢
  simp (config := {maxSteps := 2000000}) (disch := first | omega | rfl | (simp only [ofI_len, shaV_len, List.length_append, List.length_take, List.length_drop, List.length_cons, List.length_nil, List.length_replicate, List.length_set]; done) | (simp only [ofI_len, shaV_len, List.length_append, List.length_take, List.length_drop, List.length_cons, List.length_nil, List.length_replicate, List.length_set]; omega)) only [o1, lv2, e1, n1, g0, g1, cp, ↓x_mkslice, mk, ↓s_dBuildS, s_dbE, rdI, ofI_get, m_src, m_src0, srcI, ldI, ld1I, wrAll, wrI, wr1I, stI, st32, take_all, drop_all, List.take_zero, List.drop_zero, List.nil_append, List.append_nil, appF_of, appFI, appF0, appU_of, appUIw, appUIs, app0, appN, eq32, neq32, ↓s_append, ↓x_copy, ↓x_slcA, x_slcAE, slcB_nn, slcB_hi, slcB_lo, slcB_lh, slcV_nn, slcV_hiU, slcV_hiC, slcV_lo, slcV_loL, slcV_hiUL, slcV_hiCL, slcV_mxL, slcB_hiL, slcB_loL, subC_some, subC_none, ↓x_slcS, x_bnd0, x_M1, x_M0, x_lenA, ofQ_some, Nat.sub_zero, ofI_len, shaV_len, ↓s_box, c_agg, List.length_append, List.length_cons, List.length_nil, Nat.reduceLeDiff, Nat.reduceSub, List.length_replicate, ↓b_xor32, ↓b_and32, ↓b_or32, ↓u_not32, b_xor32, b_and32, b_or32, u_not32, w32ad, ↓x_conv, x_convV, ↓x_fieldAddr, x_fieldV, ↓s_nilchk, x_nilchk, Nat.zero_add, Nat.add_zero, Nat.mul_one, ↓s_evD, ↓s_dnil, ↓s_dL, ↓s_dLg, ↓s_dR, ↓s_dRg, ↓s_dRj, ↓s_dRjg, ↓s_dB, ↓s_dBg, ↓s_dAlloc, ↓s_bindD, s_bindD, s_finD, s_finDx, s_addP0, s_addP1, s_addB, s_lookP, ↓s_bump0, ↓s_bump_get, s_bump_next, s_ok0, ↓s_ok1, s_okR0, ↓s_okR1, ↓s_okE, s_okE, s_okE1, s_nth0, s_nthS, Nat.add_zero, Bool.and_self, Bool.and_true, Bool.true_and, ↓l_loop, ↓l_succ, ↓l_normal, l_normal, l_exit, l_ret, l_iteN, ↓h_put_get, ↓h_new_get, ↓h_del_get, h_next_put, h_next_new, h_next_del, Nat.add_assoc, Nat.add_eq_left, Nat.left_eq_add, Nat.add_left_cancel_iff, ↓s_load, m_load, ↓m_load1, m_load1, ↓m_st, m_stE, m_storeI, m_storeE, ↓s_alloc, ↓x_idxA, ↓x_idxS, x_idxAE, x_idxSE, x_addrE, x_idx, x_lenS, ↓s_len, ↓x_buildS, x_buildE, ↓x_P0, ↓x_P1, x_fill0, x_filli, x_fills, x_fillb, c_int, List.length_cons, List.length_nil, List.cons_append, List.drop_succ_cons, List.drop_zero, List.drop_nil, List.nil_append, Int.reduceAdd, Int.reduceToNat, Int.reduceLT, Int.reduceLE, Nat.reduceAdd, Nat.reduceMul, Nat.reduceLeDiff, Int.reduceEq, Int.reduceSub, Int.cast_ofNat_Int, s_resc, s_consR, m_load4, m_store4, s_res0, ↓s_skip, ↓s_ops, ↓s_dops, ↓s_seq, ↓s_cond, ↓s_block, ↓s_exit, ↓s_ret, ↓s_scope, ↓s_nil, ↓s_op, ↓s_opg, ↓s_wanted', ↓s_wantV, s_wantV, s_wantV0, beq_true, beq_false, ↓s_bindS, s_bindS, ↓s_bindE, s_bindE, s_bindE_ret, s_bindE_exit, s_bindE_iteN, s_norm, ↓s_condV, s_condV, s_block_ret, s_block_normal, s_block_exit, s_block_iteN, ↓s_getp, ↓s_getp0, ↓s_get, s_get0, ↓s_con, ↓s_fn, ↓s_os0, ↓s_os1, ↓s_list0, ↓s_list1, ↓s_mov, ↓s_pick, ↓s_pickE, s_pickE, ↓s_bin, ↓s_un, ↓s_minmax, ↓s_call, ↓s_callv, ↓s_callV, ↓s_ext, s_same, b_eql, b_neq, b_lss, b_leq, b_gtr, b_geq, b_add, b_sub, b_mul, b_eqlb, b_neqb, b_fnil, b_fnil', b_fnil2, b_fnil2', u_neg, u_not, m_two, s_end, s_end', s_end_iteN, s_res0, s_res1, s_tup1, s_tup2, ↓iteN_true, ↓iteN_false, iteN_true, iteN_false, Nat.zero_add, List.nil_append, List.append_nil, Nat.reduceEqDiff, reduceIte, decide_true, decide_false, Bool.not_true, Bool.not_false, List.getElem?_cons_zero, List.getElem?_cons_succ, Bool.false_eq_true, if_true, if_false, beq_self_eq_true]
  refine ⟨_, rfl, Kp.put ?_ _ (by omega), by rw [h_next_put]; omega, h_put_same _ _ _⟩
  rw [← e1]
  exact ((Kp.new _ _).put _ (Nat.le_refl _)).trans (Kp.new _ _)
theorem rd_src {h : H} {a : Option (Nat × Nat)} {l : List Nat} {ez : Nat} (src : SrcH h a ez l) (c : Option Nat) : rdB h (.slice a l.length c ez) = some l := by
  rcases src with rfl | ⟨bi, off, vs, m, rfl, rfl, h3, h4, h5, h6⟩
  · rfl
  · cases hn : l.length with
    | zero => rw [List.length_eq_zero_iff.1 hn]; rfl
    | succ n =>
      show rdC (n + 1) off (h.get bi) = some l
      rw [h4]
      unfold rdC
      rw [hn] at h5 h6
      simp only [readN_of _ _ _ h5, h6, unI]
theorem str_src {h : H} {a : Option (Nat × Nat)} {l : List Nat} {ez : Nat} (src : SrcH h a ez l) (bl : byt l = true) (c : Option Nat) : b2sV h (.slice a l.length c ez) = some (.str l) := by
  rcases src with rfl | ⟨bi, off, vs, m, rfl, rfl, h3, h4, h5, h6⟩
  · cases a <;> rfl
  · cases hn : l.length with
    | zero => rw [List.length_eq_zero_iff.1 hn]; rfl
    | succ n =>
      rw [nx_bs1, h4]
      unfold nsE
      rw [hn] at h5 h6
      simp only [readN_of _ _ _ h5, h6, bytesOf_I _ (byt_iff.1 bl)]
      rfl
/-! Twice, of the document -/
def rtwS (l : List Nat) : Option V := if decide (l.length ≤ 100000) && byt l then some (.agg (ofI .u8 (shaV (shaV l)))) else none
theorem x_rofH (hx : HasRof X) (N : Nat) (l : List Nat) (bl : byt l = true) (a : Option (Nat × Nat)) (c : Option Nat) (h : H) {ez : Nat} (src : SrcH h a ez l) (hl : l.length ≤ 100000) : callX E X (N + 1) (.fn k_purserref04_Of) [.slice a l.length c ez] h = some (.agg (ofI .u8 (shaV l)), h) :=
  x_known (hx _ _ l _ (rd_src src c) (by unfold rofS; rw [decide_eq_true hl, bl]; rfl))
theorem rtwice_go (e : E k_purserref04_Twice = some f_purserref04_Twice) (x : ∀ a h, X (.fn k_purserref04_Twice) a h = none) (hx : HasRof X) (N : Nat) (l : List Nat) (bl : byt l = true) (hl : l.length ≤ 100000) (a : Option (Nat × Nat)) (c : Option Nat) (h : H) {ez : Nat} (src : SrcH h a ez l) :
    ∃ h', callX E X (N + 2) (.fn k_purserref04_Twice) [.slice a l.length c ez] h = some (.agg (ofI .u8 (shaV (shaV l))), h') := by
  rw [x_cfn e _ _ (Nat.le_of_ble_eq_true rfl) (x _ _)]
  have o1 := x_rofH (E := E) hx N l bl a c (h.new (.cells (ofI .u8 (List.replicate 32 0)) .rw)) (src.mono (Kp.new _ _)) hl
  have lv := shaV_len l
  have lv2 := shaV_len (shaV l)
  have fo := fun i off n c h => x_rofQ (E := E) hx N i off n c h
  have ro := fun fb h => rofQ_some (shaV l) (by omega) (shaV_byt l) fb h
  rw [← z32e]
  obtain ⟨n, en⟩ : ∃ n, l.length = n := ⟨_, rfl⟩
  rw [en] at o1 ⊢
  simp (config := {maxSteps := 2000000}) (disch := first | omega | rfl | (simp only [ofI_len, shaV_len, List.length_append, List.length_take, List.length_drop, List.length_cons, List.length_nil, List.length_replicate, List.length_set]; done) | (simp only [ofI_len, shaV_len, List.length_append, List.length_take, List.length_drop, List.length_cons, List.length_nil, List.length_replicate, List.length_set]; omega)) only [o1, lv, lv2, ↓fo, ro, ↓s_dBuildS, s_dbE, rdI, ofI_get, m_src, m_src0, srcI, ldI, ld1I, wrAll, wrI, wr1I, stI, st32, take_all, drop_all, List.take_zero, List.drop_zero, List.nil_append, List.append_nil, appF_of, appFI, appF0, appU_of, appUIw, appUIs, app0, appN, eq32, neq32, ↓s_append, ↓x_copy, ↓x_slcA, x_slcAE, slcB_nn, slcB_hi, slcB_lo, slcB_lh, slcV_nn, slcV_hiU, slcV_hiC, slcV_lo, slcV_loL, slcV_hiUL, slcV_hiCL, slcV_mxL, slcB_hiL, slcB_loL, subC_some, subC_none, ↓x_slcS, x_bnd0, x_M1, x_M0, x_lenA, ofQ_some, Nat.sub_zero, ofI_len, shaV_len, ↓s_box, c_agg, List.length_append, List.length_cons, List.length_nil, Nat.reduceLeDiff, Nat.reduceSub, List.length_replicate, ↓b_xor32, ↓b_and32, ↓b_or32, ↓u_not32, b_xor32, b_and32, b_or32, u_not32, w32ad, ↓x_conv, x_convV, ↓x_fieldAddr, x_fieldV, ↓s_nilchk, x_nilchk, Nat.zero_add, Nat.add_zero, Nat.mul_one, ↓s_evD, ↓s_dnil, ↓s_dL, ↓s_dLg, ↓s_dR, ↓s_dRg, ↓s_dRj, ↓s_dRjg, ↓s_dB, ↓s_dBg, ↓s_dAlloc, ↓s_bindD, s_bindD, s_finD, s_finDx, s_addP0, s_addP1, s_addB, s_lookP, ↓s_bump0, ↓s_bump_get, s_bump_next, s_ok0, ↓s_ok1, s_okR0, ↓s_okR1, ↓s_okE, s_okE, s_okE1, s_nth0, s_nthS, Nat.add_zero, Bool.and_self, Bool.and_true, Bool.true_and, ↓l_loop, ↓l_succ, ↓l_normal, l_normal, l_exit, l_ret, l_iteN, ↓h_put_get, ↓h_new_get, ↓h_del_get, h_next_put, h_next_new, h_next_del, Nat.add_assoc, Nat.add_eq_left, Nat.left_eq_add, Nat.add_left_cancel_iff, ↓s_load, m_load, ↓m_load1, m_load1, ↓m_st, m_stE, m_storeI, m_storeE, ↓s_alloc, ↓x_idxA, ↓x_idxS, x_idxAE, x_idxSE, x_addrE, x_idx, x_lenS, ↓s_len, ↓x_buildS, x_buildE, ↓x_P0, ↓x_P1, x_fill0, x_filli, x_fills, x_fillb, c_int, List.length_cons, List.length_nil, List.cons_append, List.drop_succ_cons, List.drop_zero, List.drop_nil, List.nil_append, Int.reduceAdd, Int.reduceToNat, Int.reduceLT, Int.reduceLE, Nat.reduceAdd, Nat.reduceMul, Nat.reduceLeDiff, Int.reduceEq, Int.reduceSub, Int.cast_ofNat_Int, s_resc, s_consR, m_load4, m_store4, s_res0, ↓s_skip, ↓s_ops, ↓s_dops, ↓s_seq, ↓s_cond, ↓s_block, ↓s_exit, ↓s_ret, ↓s_scope, ↓s_nil, ↓s_op, ↓s_opg, ↓s_wanted', ↓s_wantV, s_wantV, s_wantV0, beq_true, beq_false, ↓s_bindS, s_bindS, ↓s_bindE, s_bindE, s_bindE_ret, s_bindE_exit, s_bindE_iteN, s_norm, ↓s_condV, s_condV, s_block_ret, s_block_normal, s_block_exit, s_block_iteN, ↓s_getp, ↓s_getp0, ↓s_get, s_get0, ↓s_con, ↓s_fn, ↓s_os0, ↓s_os1, ↓s_list0, ↓s_list1, ↓s_mov, ↓s_pick, ↓s_pickE, s_pickE, ↓s_bin, ↓s_un, ↓s_minmax, ↓s_call, ↓s_callv, ↓s_callV, ↓s_ext, s_same, b_eql, b_neq, b_lss, b_leq, b_gtr, b_geq, b_add, b_sub, b_mul, b_eqlb, b_neqb, b_fnil, b_fnil', b_fnil2, b_fnil2', u_neg, u_not, m_two, s_end, s_end', s_end_iteN, s_res0, s_res1, s_tup1, s_tup2, ↓iteN_true, ↓iteN_false, iteN_true, iteN_false, Nat.zero_add, List.nil_append, List.append_nil, Nat.reduceEqDiff, reduceIte, decide_true, decide_false, Bool.not_true, Bool.not_false, List.getElem?_cons_zero, List.getElem?_cons_succ, Bool.false_eq_true, if_true, if_false, beq_self_eq_true]
  exact ⟨_, rfl⟩
noncomputable def rtwX : Orc := bytesX k_purserref04_Twice rtwS
theorem rtwX_ok {P : Program} {g : Gn} (hE : Link P g E) (e : E k_purserref04_Twice = some f_purserref04_Twice) (hO : QOk P g rofX) : QOk P g rtwX := by
  have has : HasRof rofX := fun x h l v e q => bytesX_yes h e q
  refine bytesX_ok (callX_ok hE hO (0 + 2)) ?_
  intro l v hs
  unfold rtwS at hs
  split at hs
  · rename_i hb
    cases hs
    simp only [Bool.and_eq_true, decide_eq_true_eq] at hb
    refine ⟨by simp only [dataV, datas_ofI], ?_, ?_⟩
    · intro h0 a c z
      subst h0
      exact rtwice_go e (X := rofX) (fun _ _ => rfl) has 0 [] rfl (by simp) a c (mkH [] 1) (ez := z) (.inl rfl)
    · intro hne c
      exact rtwice_go e (X := rofX) (fun _ _ => rfl) has 0 l hb.2 hb.1 (some (0, 0)) c (mkH [(0, ofBytes l)] 1) (.inr ⟨0, 0, ofBytes l, .ro, rfl, rfl, Nat.zero_lt_one, rfl, by rw [ofB_len]; omega, (by rw [List.drop_zero, ← ofI_u8]; exact List.take_of_length_le (by rw [ofI_len]; omega))⟩)
  · cases hs
theorem rshort_go (tw : ∀ (N : Nat) (l : List Nat) (a : Option (Nat × Nat)) (c : Option Nat) (h : H) (ez : Nat), SrcH h a ez l → byt l = true → l.length ≤ 100000 → callX E X (N + 1) (.fn k_purserref04_Twice) [.slice a l.length c ez] h = some (.agg (ofI .u8 (shaV (shaV l))), h)) (e : E k_purserref04_Short = some f_purserref04_Short) (x : ∀ a h, X (.fn k_purserref04_Short) a h = none) (N : Nat) (l : List Nat) (bl : byt l = true) (hl : l.length ≤ 100000) (a : Option (Nat × Nat)) (c : Option Nat) (h : H) {ez : Nat} (src : SrcH h a ez l) :
    ∃ h' p, callX E X (N + 2) (.fn k_purserref04_Short) [.slice a l.length c ez] h = some (.slice (some (p, 0)) 20 none 1, h') ∧ Kp h h' ∧ h'.get p = some (.cells (ofI .u8 ((shaV (shaV l)).take 20)) .rw) := by
  rw [x_cfn e _ _ (Nat.le_of_ble_eq_true rfl) (x _ _)]
  have o1 := tw N l a c h ez src bl hl
  have lv2 := shaV_len (shaV l)
  generalize shaV (shaV l) = D at *
  rw [← z32e]
  obtain ⟨n, en⟩ : ∃ n, l.length = n := ⟨_, rfl⟩
  rw [en] at o1 ⊢
  simp (config := {maxSteps := 2000000}) (disch := first | omega | rfl | (simp only [ofI_len, shaV_len, List.length_append, List.length_take, List.length_drop, List.length_cons, List.length_nil, List.length_replicate, List.length_set]; done) | (simp only [ofI_len, shaV_len, List.length_append, List.length_take, List.length_drop, List.length_cons, List.length_nil, List.length_replicate, List.length_set]; omega)) only [o1, lv2, ↓s_dBuildS, s_dbE, rdI, ofI_get, m_src, m_src0, srcI, ldI, ld1I, wrAll, wrI, wr1I, stI, st32, take_all, drop_all, List.take_zero, List.drop_zero, List.nil_append, List.append_nil, appF_of, appFI, appF0, appU_of, appUIw, appUIs, app0, appN, eq32, neq32, ↓s_append, ↓x_copy, ↓x_slcA, x_slcAE, slcB_nn, slcB_hi, slcB_lo, slcB_lh, slcV_nn, slcV_hiU, slcV_hiC, slcV_lo, slcV_loL, slcV_hiUL, slcV_hiCL, slcV_mxL, slcB_hiL, slcB_loL, subC_some, subC_none, ↓x_slcS, x_bnd0, x_M1, x_M0, x_lenA, ofQ_some, Nat.sub_zero, ofI_len, shaV_len, ↓s_box, c_agg, List.length_append, List.length_cons, List.length_nil, Nat.reduceLeDiff, Nat.reduceSub, List.length_replicate, ↓b_xor32, ↓b_and32, ↓b_or32, ↓u_not32, b_xor32, b_and32, b_or32, u_not32, w32ad, ↓x_conv, x_convV, ↓x_fieldAddr, x_fieldV, ↓s_nilchk, x_nilchk, Nat.zero_add, Nat.add_zero, Nat.mul_one, ↓s_evD, ↓s_dnil, ↓s_dL, ↓s_dLg, ↓s_dR, ↓s_dRg, ↓s_dRj, ↓s_dRjg, ↓s_dB, ↓s_dBg, ↓s_dAlloc, ↓s_bindD, s_bindD, s_finD, s_finDx, s_addP0, s_addP1, s_addB, s_lookP, ↓s_bump0, ↓s_bump_get, s_bump_next, s_ok0, ↓s_ok1, s_okR0, ↓s_okR1, ↓s_okE, s_okE, s_okE1, s_nth0, s_nthS, Nat.add_zero, Bool.and_self, Bool.and_true, Bool.true_and, ↓l_loop, ↓l_succ, ↓l_normal, l_normal, l_exit, l_ret, l_iteN, ↓h_put_get, ↓h_new_get, ↓h_del_get, h_next_put, h_next_new, h_next_del, Nat.add_assoc, Nat.add_eq_left, Nat.left_eq_add, Nat.add_left_cancel_iff, ↓s_load, m_load, ↓m_load1, m_load1, ↓m_st, m_stE, m_storeI, m_storeE, ↓s_alloc, ↓x_idxA, ↓x_idxS, x_idxAE, x_idxSE, x_addrE, x_idx, x_lenS, ↓s_len, ↓x_buildS, x_buildE, ↓x_P0, ↓x_P1, x_fill0, x_filli, x_fills, x_fillb, c_int, List.length_cons, List.length_nil, List.cons_append, List.drop_succ_cons, List.drop_zero, List.drop_nil, List.nil_append, Int.reduceAdd, Int.reduceToNat, Int.reduceLT, Int.reduceLE, Nat.reduceAdd, Nat.reduceMul, Nat.reduceLeDiff, Int.reduceEq, Int.reduceSub, Int.cast_ofNat_Int, s_resc, s_consR, m_load4, m_store4, s_res0, ↓s_skip, ↓s_ops, ↓s_dops, ↓s_seq, ↓s_cond, ↓s_block, ↓s_exit, ↓s_ret, ↓s_scope, ↓s_nil, ↓s_op, ↓s_opg, ↓s_wanted', ↓s_wantV, s_wantV, s_wantV0, beq_true, beq_false, ↓s_bindS, s_bindS, ↓s_bindE, s_bindE, s_bindE_ret, s_bindE_exit, s_bindE_iteN, s_norm, ↓s_condV, s_condV, s_block_ret, s_block_normal, s_block_exit, s_block_iteN, ↓s_getp, ↓s_getp0, ↓s_get, s_get0, ↓s_con, ↓s_fn, ↓s_os0, ↓s_os1, ↓s_list0, ↓s_list1, ↓s_mov, ↓s_pick, ↓s_pickE, s_pickE, ↓s_bin, ↓s_un, ↓s_minmax, ↓s_call, ↓s_callv, ↓s_callV, ↓s_ext, s_same, b_eql, b_neq, b_lss, b_leq, b_gtr, b_geq, b_add, b_sub, b_mul, b_eqlb, b_neqb, b_fnil, b_fnil', b_fnil2, b_fnil2', u_neg, u_not, m_two, s_end, s_end', s_end_iteN, s_res0, s_res1, s_tup1, s_tup2, ↓iteN_true, ↓iteN_false, iteN_true, iteN_false, Nat.zero_add, List.nil_append, List.append_nil, Nat.reduceEqDiff, reduceIte, decide_true, decide_false, Bool.not_true, Bool.not_false, List.getElem?_cons_zero, List.getElem?_cons_succ, Bool.false_eq_true, if_true, if_false, beq_self_eq_true]
  exact ⟨_, _, rfl, ((Kp.new _ _).put _ (Nat.le_refl _)).trans (Kp.new _ _), h_new_same _ _⟩
end Go.Eng
namespace Go.Eng
open Go
variable {E : Nat → Option Fn} {X : Orc}
set_option linter.unusedSimpArgs false
set_option linter.unusedVariables false
/-- a twin with one byte more -/
theorem own_byte (h : H) (b : List Nat) (y : Nat) (hb : b.length ≤ 100000) : ∃ v1 h1 p md h2, appendC (h.new (.cells [] .rw)) 1 1 (.slice (some (h.next, 0)) 0 (some 0) 1) (some (b.length, ofI .u8 b)) = some (v1, h1) ∧ h.next < h1.next ∧ Kp h h1 ∧
    appendC (h1.new (.cells [.int .u8 (y : Int)] .rw)) 1 1 v1 (some (1, [.int .u8 (y : Int)])) = some (.slice (some (p, 0)) (b.length + 1) none 1, h2) ∧ Kp h h2 ∧ h.next ≤ p ∧ p < h2.next ∧ h2.get p = some (.cells (ofI .u8 (b ++ [y])) md) := by
  by_cases b0 : b = []
  · subst b0
    have a2 := appF_of ((h.new (.cells [] .rw)).new (.cells [.int .u8 (y : Int)] .rw)) h.next 0 0 0 0 .u8 [y] (by omega) (by omega)
    rw [h_new_ne _ _ (by rw [h_next_new]; omega), h_new_same, appF0] at a2
    exact ⟨_, _, _, _, _, appN _ _ _ _ _ _, by rw [h_next_new]; omega, Kp.new _ _, a2, ((Kp.new _ _).trans (Kp.new _ _)).trans (Kp.new _ _), by simp only [h_next_new]; omega, by simp only [h_next_new]; omega, h_new_same _ _⟩
  · obtain ⟨m, em⟩ : ∃ n, b.length = n + 1 := ⟨b.length - 1, by have := List.length_pos_iff.2 b0; omega⟩
    have a1 := appF_of (h.new (.cells [] .rw)) h.next 0 0 0 m .u8 b (by omega) (by omega)
    rw [h_new_same, appF0, ← em] at a1
    obtain ⟨h1, e1⟩ : ∃ h1, (h.new (.cells [] .rw)).new (.cells (ofI .u8 b) .rw) = h1 := ⟨_, rfl⟩
    have n1 : h1.next = h.next + 2 := by rw [← e1]; rfl
    have nn : (h.new (.cells [] .rw)).next = h.next + 1 := rfl
    rw [e1, nn] at a1
    have g1 : h1.get (h.next + 1) = some (.cells (ofI .u8 b) .rw) := by rw [← e1]; exact h_new_same' _ _ rfl
    have a2 := app1 (h1.new (.cells [.int .u8 (y : Int)] .rw)) (h.next + 1) b.length y b .rw rfl (by rw [h_new_ne _ _ (by omega), g1]) rfl (by omega)
    have k1 : Kp h h1 := by rw [← e1]; exact (Kp.new _ _).trans (Kp.new _ _)
    refine ⟨_, h1, _, .sh, _, a1, by omega, k1, a2, ?_, by rw [h_next_new]; omega, by simp only [h_next_new, h_next_del]; omega, h_new_same' _ _ (by rw [h_next_del])⟩
    refine ⟨by simp only [h_next_new, h_next_del]; omega, fun i hi => ?_⟩
    rw [h_new_ne _ _ (by simp only [h_next_new, h_next_del]; omega), h_del_ne _ (by omega), h_new_ne _ _ (by omega), k1.2 _ hi]
theorem b_sadd (e : EqK) (h : H) (a b : List Nat) (hl : a.length + b.length ≤ 35184372088832) : binV .add e h (.str a) (.str b) = some (.str (a ++ b)) := by
  show (bif Nat.ble (a.length + b.length) 35184372088832 then some (V.str (a ++ b)) else none) = _
  rw [cond_ble, if_pos hl]
structure SU1 (q n w wn : Nat) (v0 : V) (h0 : H) (i : Nat) (T : Tr V) (h : H) : Prop where
  il : i ≤ n
  t0 : evO T (.t 0) = v0
  t3 : evO T (.t 3) = .slice (some (w, 0)) wn none 1
  t4 : evO T (.t 4) = .slice (some (q, 0)) n (some n) 1
  t5 : evO T (.t 5) = .bool true
  t47 : evO T (.t 47) = .int .i64 (n : Int)
  t48 : evO T (.t 48) = .int .i64 (i : Int)
  gq : ∃ cur, h.get q = some (.cells (ofI .u8 cur) .rw) ∧ cur.length = n
  eq : Eqx q h0 h
theorem su_step (Q : Orc) (m q n w wn : Nat) (v0 : V) (hn : n < 1000) (h0 : H) : ∀ i T h, i < n → SU1 q n w wn v0 h0 i T h → ∃ T' h', evC Q 76 m none L_purserlaw04_ShaSums_0 ⟨T, [], h⟩ = some (.normal, ⟨T', [], h'⟩) ∧ SU1 q n w wn v0 h0 (i + 1) T' h' := by
  intro i T h hi ⟨_, t0, t3, t4, t5, t47, t48, ⟨cur, gq, lc⟩, eq⟩
  have c0 : decide ((i : Int) < (n : Int)) = true := decide_eq_true (by omega)
  have wi : wr .i64 ((i : Int) + 1) = ((i + 1 : Nat) : Int) := by rw [wr_i64 (by omega)]; omega
  have ix : idx (i : Int) n = some i := idxn hi
  have cg : (ofI .u8 cur)[i]? = some (.int .u8 (cur.getD i 0 : Nat)) := ofI_get _ _ _ (by omega)
  have w8 : wr .u8 (((cur.getD i 0 : Nat) : Int) + 1) = (((cur.getD i 0 + 1) % 256 : Nat) : Int) := by rw [show ((cur.getD i 0 : Nat) : Int) + 1 = ((cur.getD i 0 + 1 : Nat) : Int) by omega, w8n]
  have ste := fun (h : H) (v : V) => stI .u8 cur [v] h q i (by simp only [List.length_cons, List.length_nil]; omega)
  have su := wr1I .u8 cur i ((cur.getD i 0 + 1) % 256) (by omega)
  generalize (cur.getD i 0 + 1) % 256 = y at *
  obtain ⟨c2, ec2⟩ : ∃ c, cur.set i y = c := ⟨_, rfl⟩
  have lc2 : c2.length = n := by rw [← ec2, List.length_set, lc]
  rw [ec2] at su
  refine ⟨_, _, by
    simp (config := {maxSteps := 2000000}) (disch := first | omega | (simp only [List.length_cons, List.length_nil, List.length_append, List.length_drop]; omega)) only [L_purserlaw04_ShaSums_0, t4, t47, t48, gq, cg, c0, wi, ix, w8, ste, su, ↓b_xor32, ↓b_and32, ↓b_or32, ↓u_not32, b_xor32, b_and32, b_or32, u_not32, w32ad, ↓x_conv, x_convV, ↓x_fieldAddr, x_fieldV, ↓s_nilchk, x_nilchk, Nat.zero_add, Nat.add_zero, Nat.mul_one, ↓l_loop, ↓l_succ, ↓l_normal, l_normal, l_exit, l_ret, l_iteN, ↓h_put_get, ↓h_new_get, ↓h_del_get, h_next_put, h_next_new, h_next_del, Nat.add_assoc, Nat.add_eq_left, Nat.left_eq_add, Nat.add_left_cancel_iff, ↓s_load, m_load, ↓m_load1, m_load1, ↓m_st, m_stE, m_storeI, w_zero, w_succ, ↓s_alloc, ↓x_idxA, ↓x_idxS, x_idxAE, x_idxSE, x_addrE, x_idx, x_lenS, ↓s_len, ↓x_buildS, x_buildE, ↓x_P0, ↓x_P1, x_fill0, x_filli, x_fills, x_fillb, c_int, List.length_cons, List.length_nil, List.cons_append, List.drop_succ_cons, List.drop_zero, List.drop_nil, List.nil_append, Int.reduceAdd, Int.reduceToNat, Int.reduceLT, Int.reduceLE, Nat.reduceAdd, Nat.reduceMul, Nat.reduceLeDiff, Int.reduceEq, Int.reduceSub, Int.cast_ofNat_Int, s_resc, s_consR, m_load4, m_store4, s_res0, ↓s_skip, ↓s_ops, ↓s_dops, ↓s_seq, ↓s_cond, ↓s_block, ↓s_exit, ↓s_ret, ↓s_scope, ↓s_nil, ↓s_op, ↓s_opg, ↓s_wanted', ↓s_wantV, s_wantV, s_wantV0, beq_true, beq_false, ↓s_bindS, s_bindS, ↓s_bindE, s_bindE, s_bindE_ret, s_bindE_exit, s_bindE_iteN, s_norm, ↓s_condV, s_condV, s_block_ret, s_block_normal, s_block_exit, s_block_iteN, ↓s_getp, ↓s_getp0, ↓s_get, s_get0, ↓s_con, ↓s_fn, ↓s_os0, ↓s_os1, ↓s_list0, ↓s_list1, ↓s_mov, ↓s_pick, ↓s_pickE, s_pickE, ↓s_bin, ↓s_un, ↓s_minmax, ↓s_call, ↓s_callv, ↓s_callV, ↓s_ext, s_same, b_eql, b_neq, b_lss, b_leq, b_gtr, b_geq, b_add, b_sub, b_mul, b_eqlb, b_neqb, b_fnil, b_fnil', b_fnil2, b_fnil2', u_neg, u_not, m_two, s_end, s_end', s_end_iteN, s_res0, s_res1, s_tup1, s_tup2, ↓iteN_true, ↓iteN_false, iteN_true, iteN_false, Nat.zero_add, List.nil_append, List.append_nil, Nat.reduceEqDiff, reduceIte, decide_true, decide_false, Bool.not_true, Bool.not_false, List.getElem?_cons_zero, List.getElem?_cons_succ, Bool.false_eq_true, if_true, if_false, beq_self_eq_true]
    exact rfl, ⟨by omega, (by (simp only [s_getp, s_getp0, Nat.reduceEqDiff, decide_false, decide_true, iteN_false, iteN_true, t0]; try rfl)), (by (simp only [s_getp, s_getp0, Nat.reduceEqDiff, decide_false, decide_true, iteN_false, iteN_true, t3]; try rfl)), (by (simp only [s_getp, s_getp0, Nat.reduceEqDiff, decide_false, decide_true, iteN_false, iteN_true, t4]; try rfl)), (by (simp only [s_getp, s_getp0, Nat.reduceEqDiff, decide_false, decide_true, iteN_false, iteN_true, t5]; try rfl)), (by (simp only [s_getp, s_getp0, Nat.reduceEqDiff, decide_false, decide_true, iteN_false, iteN_true, t47]; try rfl)), (by (simp only [s_getp, s_getp0, Nat.reduceEqDiff, decide_false, decide_true, iteN_false, iteN_true, t48]; try rfl)), ⟨c2, by rw [h_put_same], lc2⟩, eq.put _⟩⟩
theorem su_loop (Q : Orc) (m q n w wn : Nat) (v0 : V) (hm : n < m) (hn : n < 1000) (h0 : H) (T : Tr V) (h : H) (I : SU1 q n w wn v0 h0 0 T h) : ∃ T' h', loopN (evC Q 76 m none L_purserlaw04_ShaSums_0) m ⟨T, [], h⟩ = some (.exit 0, ⟨T', [], h'⟩) ∧ SU1 q n w wn v0 h0 n T' h' :=
  loop_go (SU1 q n w wn v0 h0) n (.exit 0) (by intro h; cases h) _ (su_step Q m q n w wn v0 hn h0) (fun T h I => by
    obtain ⟨il, t0, t3, t4, t5, t47, t48, gq, eq⟩ := I
    have c0 : decide ((n : Int) < (n : Int)) = false := decide_eq_false (by omega)
    refine ⟨_, _, by
      simp (config := {maxSteps := 2000000}) (disch := first | omega | (simp only [List.length_cons, List.length_nil, List.length_append, List.length_drop]; omega)) only [L_purserlaw04_ShaSums_0, t47, t48, c0, ↓b_xor32, ↓b_and32, ↓b_or32, ↓u_not32, b_xor32, b_and32, b_or32, u_not32, w32ad, ↓x_conv, x_convV, ↓x_fieldAddr, x_fieldV, ↓s_nilchk, x_nilchk, Nat.zero_add, Nat.add_zero, Nat.mul_one, ↓l_loop, ↓l_succ, ↓l_normal, l_normal, l_exit, l_ret, l_iteN, ↓h_put_get, ↓h_new_get, ↓h_del_get, h_next_put, h_next_new, h_next_del, Nat.add_assoc, Nat.add_eq_left, Nat.left_eq_add, Nat.add_left_cancel_iff, ↓s_load, m_load, ↓m_load1, m_load1, ↓m_st, m_stE, m_storeI, m_storeE, w_zero, w_succ, ↓s_alloc, ↓x_idxA, ↓x_idxS, x_idxAE, x_idxSE, x_addrE, x_idx, x_lenS, ↓s_len, ↓x_buildS, x_buildE, ↓x_P0, ↓x_P1, x_fill0, x_filli, x_fills, x_fillb, c_int, List.length_cons, List.length_nil, List.cons_append, List.drop_succ_cons, List.drop_zero, List.drop_nil, List.nil_append, Int.reduceAdd, Int.reduceToNat, Int.reduceLT, Int.reduceLE, Nat.reduceAdd, Nat.reduceMul, Nat.reduceLeDiff, Int.reduceEq, Int.reduceSub, Int.cast_ofNat_Int, s_resc, s_consR, m_load4, m_store4, s_res0, ↓s_skip, ↓s_ops, ↓s_dops, ↓s_seq, ↓s_cond, ↓s_block, ↓s_exit, ↓s_ret, ↓s_scope, ↓s_nil, ↓s_op, ↓s_opg, ↓s_wanted', ↓s_wantV, s_wantV, s_wantV0, beq_true, beq_false, ↓s_bindS, s_bindS, ↓s_bindE, s_bindE, s_bindE_ret, s_bindE_exit, s_bindE_iteN, s_norm, ↓s_condV, s_condV, s_block_ret, s_block_normal, s_block_exit, s_block_iteN, ↓s_getp, ↓s_getp0, ↓s_get, s_get0, ↓s_con, ↓s_fn, ↓s_os0, ↓s_os1, ↓s_list0, ↓s_list1, ↓s_mov, ↓s_pick, ↓s_pickE, s_pickE, ↓s_bin, ↓s_un, ↓s_minmax, ↓s_call, ↓s_callv, ↓s_callV, ↓s_ext, s_same, b_eql, b_neq, b_lss, b_leq, b_gtr, b_geq, b_add, b_sub, b_mul, b_eqlb, b_neqb, b_fnil, b_fnil', b_fnil2, b_fnil2', u_neg, u_not, m_two, s_end, s_end', s_end_iteN, s_res0, s_res1, s_tup1, s_tup2, ↓iteN_true, ↓iteN_false, iteN_true, iteN_false, Nat.zero_add, List.nil_append, List.append_nil, Nat.reduceEqDiff, reduceIte, decide_true, decide_false, Bool.not_true, Bool.not_false, List.getElem?_cons_zero, List.getElem?_cons_succ, Bool.false_eq_true, if_true, if_false, beq_self_eq_true]
      exact rfl, ⟨il, (by (simp only [s_getp, s_getp0, Nat.reduceEqDiff, decide_false, decide_true, iteN_false, iteN_true, t0]; try rfl)), (by (simp only [s_getp, s_getp0, Nat.reduceEqDiff, decide_false, decide_true, iteN_false, iteN_true, t3]; try rfl)), (by (simp only [s_getp, s_getp0, Nat.reduceEqDiff, decide_false, decide_true, iteN_false, iteN_true, t4]; try rfl)), (by (simp only [s_getp, s_getp0, Nat.reduceEqDiff, decide_false, decide_true, iteN_false, iteN_true, t5]; try rfl)), (by (simp only [s_getp, s_getp0, Nat.reduceEqDiff, decide_false, decide_true, iteN_false, iteN_true, t47]; try rfl)), (by (simp only [s_getp, s_getp0, Nat.reduceEqDiff, decide_false, decide_true, iteN_false, iteN_true, t48]; try rfl)), gq, eq⟩⟩) n 0 (by omega) m hm T h I
/-- what ShaSums knows -/
noncomputable def suX : Orc := orX rofX (orX rtwX (orX twX ofX1))
theorem su_rof : HasRof suX := fun x h l v e q => orX_l (bytesX_yes h e q)
theorem su_of : HasOf suX := fun x h l v e q => (orX_r rfl).trans ((orX_r rfl).trans ((orX_r rfl).trans (ofX1_has x h l v e q)))
theorem su_tw (N : Nat) (l : List Nat) (a : Option (Nat × Nat)) (c : Option Nat) (h : H) (ez : Nat) (src : SrcH h a ez l) (hl : l.length ≤ 100000) : callX E suX (N + 1) (.fn k_sha_Twice) [.slice a l.length c ez] h = some (.agg (ofI .u8 (shaV (shaV l))), h) :=
  x_known ((orX_r rfl).trans ((orX_r rfl).trans (orX_l (bytesX_yes h (rd_src src c) (by unfold twS; rw [decide_eq_true hl]; rfl)))))
theorem su_rtw (N : Nat) (l : List Nat) (a : Option (Nat × Nat)) (c : Option Nat) (h : H) (ez : Nat) (src : SrcH h a ez l) (bl : byt l = true) (hl : l.length ≤ 100000) : callX E suX (N + 1) (.fn k_purserref04_Twice) [.slice a l.length c ez] h = some (.agg (ofI .u8 (shaV (shaV l))), h) :=
  x_known ((orX_r rfl).trans (orX_l (bytesX_yes h (rd_src src c) (by unfold rtwS; rw [decide_eq_true hl, bl]; rfl))))
set_option maxRecDepth 100000 in
set_option maxHeartbeats 4000000 in
theorem law_ShaSums (N : Nat) (e : E k_purserlaw04_ShaSums = some f_purserlaw04_ShaSums) (eS : E k_sha_Short = some f_sha_Short) (eR : E k_purserref04_Short = some f_purserref04_Short) (hx : ∀ a h, suX (.fn k_purserlaw04_ShaSums) a h = none) (hxS : ∀ a h, suX (.fn k_sha_Short) a h = none) (hxR : ∀ a h, suX (.fn k_purserref04_Short) a h = none)
    (b : List Nat) (bb : byt b = true) (a : Option (Nat × Nat)) (h : H) (src : SrcH h a 1 b) :
    ∃ h2, callX E suX (N + 102) (.fn k_purserlaw04_ShaSums) [.slice a b.length none 1] h = some (.bool true, h2) := by
  rw [x_cfn e _ _ (Nat.le_of_ble_eq_true rfl) (hx _ _)]
  by_cases hl : 3000 < b.length
  · have c1 : decide ((3000 : Int) < (b.length : Int)) = true := decide_eq_true (by omega)
    simp (config := {maxSteps := 2000000}) (disch := first | omega | rfl | (simp only [ofI_len, shaV_len, List.length_append, List.length_take, List.length_drop, List.length_cons, List.length_nil, List.length_replicate, List.length_set]; done) | (simp only [ofI_len, shaV_len, List.length_append, List.length_take, List.length_drop, List.length_cons, List.length_nil, List.length_replicate, List.length_set]; omega)) only [c1, ↓s_len, x_lenS, ↓b_xor32, ↓b_and32, ↓b_or32, ↓u_not32, b_xor32, b_and32, b_or32, u_not32, w32ad, ↓x_conv, x_convV, ↓x_fieldAddr, x_fieldV, ↓s_nilchk, x_nilchk, Nat.zero_add, Nat.add_zero, Nat.mul_one, ↓l_loop, ↓l_succ, ↓l_normal, l_normal, l_exit, l_ret, l_iteN, ↓h_put_get, ↓h_new_get, ↓h_del_get, h_next_put, h_next_new, h_next_del, Nat.add_assoc, Nat.add_eq_left, Nat.left_eq_add, Nat.add_left_cancel_iff, ↓s_load, m_load, ↓m_load1, m_load1, ↓m_st, m_stE, m_storeI, m_storeE, ↓s_alloc, ↓x_idxA, ↓x_idxS, x_idxAE, x_idxSE, x_addrE, x_idx, x_lenS, ↓s_len, ↓x_buildS, x_buildE, ↓x_P0, ↓x_P1, x_fill0, x_filli, x_fills, x_fillb, c_int, List.length_cons, List.length_nil, List.cons_append, List.drop_succ_cons, List.drop_zero, List.drop_nil, List.nil_append, Int.reduceAdd, Int.reduceToNat, Int.reduceLT, Int.reduceLE, Nat.reduceAdd, Nat.reduceMul, Nat.reduceLeDiff, Int.reduceEq, Int.reduceSub, Int.cast_ofNat_Int, s_resc, s_consR, m_load4, m_store4, s_res0, ↓s_skip, ↓s_ops, ↓s_dops, ↓s_seq, ↓s_cond, ↓s_block, ↓s_exit, ↓s_ret, ↓s_scope, ↓s_nil, ↓s_op, ↓s_opg, ↓s_wanted', ↓s_wantV, s_wantV, s_wantV0, beq_true, beq_false, ↓s_bindS, s_bindS, ↓s_bindE, s_bindE, s_bindE_ret, s_bindE_exit, s_bindE_iteN, s_norm, ↓s_condV, s_condV, s_block_ret, s_block_normal, s_block_exit, s_block_iteN, ↓s_getp, ↓s_getp0, ↓s_get, s_get0, ↓s_con, ↓s_fn, ↓s_os0, ↓s_os1, ↓s_list0, ↓s_list1, ↓s_mov, ↓s_pick, ↓s_pickE, s_pickE, ↓s_bin, ↓s_un, ↓s_minmax, ↓s_call, ↓s_callv, ↓s_callV, ↓s_ext, s_same, b_eql, b_neq, b_lss, b_leq, b_gtr, b_geq, b_add, b_sub, b_mul, b_eqlb, b_neqb, b_fnil, b_fnil', b_fnil2, b_fnil2', u_neg, u_not, m_two, s_end, s_end', s_end_iteN, s_res0, s_res1, s_tup1, s_tup2, ↓iteN_true, ↓iteN_false, iteN_true, iteN_false, Nat.zero_add, List.nil_append, List.append_nil, Nat.reduceEqDiff, reduceIte, decide_true, decide_false, Bool.not_true, Bool.not_false, List.getElem?_cons_zero, List.getElem?_cons_succ, Bool.false_eq_true, if_true, if_false, beq_self_eq_true]
    exact ⟨_, rfl⟩
  · have c1 : decide ((3000 : Int) < (b.length : Int)) = false := decide_eq_false (by omega)
    have hb : b.length ≤ 100000 := by omega
    obtain ⟨D, eD⟩ : ∃ D, shaV (shaV b) = D := ⟨_, rfl⟩
    have lD : D.length = 32 := by rw [← eD]; exact shaV_len _
    have byD : byt D = true := by rw [← eD]; exact shaV_byt _
    obtain ⟨SB, eSB⟩ : ∃ s, shaV b = s := ⟨_, rfl⟩
    have lSB : SB.length = 32 := by rw [← eSB]; exact shaV_len _
    obtain ⟨v1, h1, p, md, h2, ap1, nq, k1, ap2, k2, hp0, hpn, gp⟩ := own_byte h b 7 hb
    have src2 : SrcH h2 (some (p, 0)) 1 b := .inr ⟨p, 0, _, md, rfl, rfl, hpn, gp, by rw [ofI_len, List.length_append]; simp, by rw [List.drop_zero, ofI_take, List.take_left' rfl]⟩
    have src2a := src.mono k2
    have sb1 := (src.mono (Kp.new h (.cells [] .rw))).cellz none
    have sc7 := src1 h1 7
    obtain ⟨h3, r3, k3, n3, g3⟩ := short_goX (E := E) (fun N l a c h ez s hl => su_tw N l a c h ez s hl) eS hxS (N + 99) b hb (some (p, 0)) none h2 src2
    rw [eD] at g3
    have src3 := src2.mono k3
    have src3a := src2a.mono k3
    have o1 := x_ofH (E := E) su_of (N + 100) b (some (p, 0)) none h3 src3 hb
    have o2 := x_rofH (E := E) su_rof (N + 100) b bb a none h3 src3a hb
    have o3 := su_tw (E := E) (N + 100) b (some (p, 0)) none h3 1 src3 hb
    have o4 := su_rtw (E := E) (N + 100) b a none h3 1 src3a bb hb
    obtain ⟨h4, p4, r4, k4, g4⟩ := rshort_go (E := E) (fun N l a c h ez s bl hl => su_rtw N l a c h ez s bl hl) eR hxR (N + 99) b bb hb a none h3 src3a
    rw [eD] at o3 o4 g4
    rw [eSB] at o1 o2
    have byT : byt (D.take 20) = true := by
      rw [byt_iff] at byD ⊢
      intro x hx; exact byD x (List.mem_of_mem_take hx)
    have lT : (D.take 20).length = 20 := by rw [List.length_take]; omega
    have ns : ∀ md, nsE (some (.cells (ofI .u8 (D.take 20)) md)) 0 20 = some (.str (D.take 20)) := fun md => by rw [nsI _ byT _ _ _ (by omega), List.drop_zero, take_all _ _ (by omega)]
    have g34 : h4.get (h2.next + 1) = some (.cells (ofI .u8 (D.take 20)) .rw) := by rw [k4.2 _ (by omega), g3]
    have b7 : byt (b ++ [7]) = true := by
      have bb' := byt_iff.1 bb
      refine byt_iff.2 (fun x hx => ?_)
      rcases List.mem_append.1 hx with h | h
      · exact bb' x h
      · rw [List.mem_singleton.1 h]; decide
    have fin : ∀ T, SU1 (h2.next + 1) 20 p (b.length + 1) (.slice a b.length none 1) h4 0 T h4 → ∃ h2, fnEnd [.tmp 2] (bindE (blockE 0 (loopN (evC (callX E suX (N + 101)) 76 (N + 101) none L_purserlaw04_ShaSums_0) (N + 101) ⟨T, [], h4⟩)) (evC (callX E suX (N + 101)) 76 (N + 101) none R_purserlaw04_ShaSums_0)) = some (.bool true, h2) := by
      intro T I
      obtain ⟨T', h5, r5, il, t0, t3, t4, t5, t47, t48, gq, eq⟩ := su_loop (callX E suX (N + 101)) (N + 101) (h2.next + 1) 20 p (b.length + 1) (.slice a b.length none 1) (by omega) (by omega) h4 T h4 I
      rw [r5]
      have K5 : Kp h2 h5 := ⟨by rw [eq.1]; exact Nat.le_trans k3.1 k4.1, fun i hi => by rw [eq.2 _ (by omega), k4.2 _ (Nat.lt_of_lt_of_le hi k3.1), k3.2 _ hi]⟩
      have src5 := src2a.mono K5
      have st5 := str_src src5 bb none
      have gp5 : h5.get p = some (.cells (ofI .u8 (b ++ [7])) md) := by rw [K5.2 _ hpn, gp]
      have so5 : b2sV h5 (.slice (some (p, 0)) (b.length + 1) none 1) = some (.str (b ++ [7])) := by
        rw [nx_bs1, gp5, nsI _ b7 _ _ _ (by rw [List.length_append]; simp), List.drop_zero, take_all _ _ (by rw [List.length_append]; simp)]
      obtain ⟨h6, r6, k6, n6, g6⟩ := short_goX (E := E) (fun N l a c h ez s hl => su_tw N l a c h ez s hl) eS hxS (N + 99) b hb a none h5 src5
      rw [eD] at g6
      obtain ⟨h7, p7, r7, k7, g7⟩ := rshort_go (E := E) (fun N l a c h ez s bl hl => su_rtw N l a c h ez s bl hl) eR hxR (N + 99) b bb hb a none h6 (src5.mono k6)
      rw [eD] at g7
      have g67 : h7.get (h5.next + 1) = some (.cells (ofI .u8 (D.take 20)) .rw) := by rw [k7.2 _ (by omega), g6]
      have sa : ∀ e h, binV .add e h (.str b) (.str [7]) = some (.str (b ++ [7])) := fun e h => b_sadd e h b [7] (by simp; omega)
      obtain ⟨O, eO⟩ : ∃ o, b ++ [7] = o := ⟨_, rfl⟩
      rw [eO] at so5 sa
      obtain ⟨DT, eDT⟩ : ∃ o, D.take 20 = o := ⟨_, rfl⟩
      rw [eDT] at g6 g7 g67 ns
      obtain ⟨nb, enb⟩ : ∃ o, b.length = o := ⟨_, rfl⟩
      rw [enb] at t0 t3 st5 so5 r6 r7
      simp (config := {maxSteps := 2000000}) (disch := first | omega | rfl | (simp only [ofI_len, shaV_len, List.length_append, List.length_take, List.length_drop, List.length_cons, List.length_nil, List.length_replicate, List.length_set]; done) | (simp only [ofI_len, shaV_len, List.length_append, List.length_take, List.length_drop, List.length_cons, List.length_nil, List.length_replicate, List.length_set]; omega)) only [R_purserlaw04_ShaSums_0, t0, t3, t5, st5, so5, sa, r6, r7, g6, g7, g67, ns, ↓ns_b2s, nx_bs1, b_seq, vbeq_str, ↓b_xor32, ↓b_and32, ↓b_or32, ↓u_not32, b_xor32, b_and32, b_or32, u_not32, w32ad, ↓x_conv, x_convV, ↓x_fieldAddr, x_fieldV, ↓s_nilchk, x_nilchk, Nat.zero_add, Nat.add_zero, Nat.mul_one, ↓s_evD, ↓s_dnil, ↓s_dL, ↓s_dLg, ↓s_dR, ↓s_dRg, ↓s_dRj, ↓s_dRjg, ↓s_dB, ↓s_dBg, ↓s_dAlloc, ↓s_bindD, s_bindD, s_finD, s_finDx, s_addP0, s_addP1, s_addB, s_lookP, ↓s_bump0, ↓s_bump_get, s_bump_next, s_ok0, ↓s_ok1, s_okR0, ↓s_okR1, ↓s_okE, s_okE, s_okE1, s_nth0, s_nthS, Nat.add_zero, Bool.and_self, Bool.and_true, Bool.true_and, ↓l_loop, ↓l_succ, ↓l_normal, l_normal, l_exit, l_ret, l_iteN, ↓h_put_get, ↓h_new_get, ↓h_del_get, h_next_put, h_next_new, h_next_del, Nat.add_assoc, Nat.add_eq_left, Nat.left_eq_add, Nat.add_left_cancel_iff, ↓s_load, m_load, ↓m_load1, m_load1, ↓m_st, m_stE, m_storeI, m_storeE, ↓s_alloc, ↓x_idxA, ↓x_idxS, x_idxAE, x_idxSE, x_addrE, x_idx, x_lenS, ↓s_len, ↓x_buildS, x_buildE, ↓x_P0, ↓x_P1, x_fill0, x_filli, x_fills, x_fillb, c_int, List.length_cons, List.length_nil, List.cons_append, List.drop_succ_cons, List.drop_zero, List.drop_nil, List.nil_append, Int.reduceAdd, Int.reduceToNat, Int.reduceLT, Int.reduceLE, Nat.reduceAdd, Nat.reduceMul, Nat.reduceLeDiff, Int.reduceEq, Int.reduceSub, Int.cast_ofNat_Int, s_resc, s_consR, m_load4, m_store4, s_res0, ↓s_skip, ↓s_ops, ↓s_dops, ↓s_seq, ↓s_cond, ↓s_block, ↓s_exit, ↓s_ret, ↓s_scope, ↓s_nil, ↓s_op, ↓s_opg, ↓s_wanted', ↓s_wantV, s_wantV, s_wantV0, beq_true, beq_false, ↓s_bindS, s_bindS, ↓s_bindE, s_bindE, s_bindE_ret, s_bindE_exit, s_bindE_iteN, s_norm, ↓s_condV, s_condV, s_block_ret, s_block_normal, s_block_exit, s_block_iteN, ↓s_getp, ↓s_getp0, ↓s_get, s_get0, ↓s_con, ↓s_fn, ↓s_os0, ↓s_os1, ↓s_list0, ↓s_list1, ↓s_mov, ↓s_pick, ↓s_pickE, s_pickE, ↓s_bin, ↓s_un, ↓s_minmax, ↓s_call, ↓s_callv, ↓s_callV, ↓s_ext, s_same, b_eql, b_neq, b_lss, b_leq, b_gtr, b_geq, b_add, b_sub, b_mul, b_eqlb, b_neqb, b_fnil, b_fnil', b_fnil2, b_fnil2', u_neg, u_not, m_two, s_end, s_end', s_end_iteN, s_res0, s_res1, s_tup1, s_tup2, ↓iteN_true, ↓iteN_false, iteN_true, iteN_false, Nat.zero_add, List.nil_append, List.append_nil, Nat.reduceEqDiff, reduceIte, decide_true, decide_false, Bool.not_true, Bool.not_false, List.getElem?_cons_zero, List.getElem?_cons_succ, Bool.false_eq_true, if_true, if_false, beq_self_eq_true]
      exact ⟨_, rfl⟩
    obtain ⟨R, eRR⟩ : ∃ R, R_purserlaw04_ShaSums_0 = R := ⟨_, rfl⟩
    obtain ⟨Lo, eL⟩ : ∃ R, L_purserlaw04_ShaSums_0 = R := ⟨_, rfl⟩
    rw [eRR, eL] at fin ⊢
    have sv := slcV_hiA (b.length + 1) b.length (some (p, 0)) .i64 (by omega)
    simp only [Int.cast_ofNat_Int] at ap2 sc7
    obtain ⟨DT, eDT⟩ : ∃ o, D.take 20 = o := ⟨_, rfl⟩
    rw [eDT] at g3 g4 g34 ns lT
    obtain ⟨nb, enb⟩ : ∃ o, b.length = o := ⟨_, rfl⟩
    rw [enb] at c1 ap1 ap2 sb1 sv r3 r4 o1 o2 o3 o4 fin ⊢
    simp (config := {maxSteps := 2000000}) (disch := first | omega | rfl | (simp only [ofI_len, shaV_len, List.length_append, List.length_take, List.length_drop, List.length_cons, List.length_nil, List.length_replicate, List.length_set]; done) | (simp only [ofI_len, shaV_len, List.length_append, List.length_take, List.length_drop, List.length_cons, List.length_nil, List.length_replicate, List.length_set]; omega)) only [c1, ap1, ap2, sb1, sc7, sv, r3, r4, o1, o2, o3, o4, g3, g4, g34, ns, lD, lSB, ↓ns_b2s, nx_bs1, b_seq, vbeq_str, vbeq_I, ↓s_append, ↓x_slcS, x_M0, x_M1, eq32, ↓s_len, x_lenS, ↓b_xor32, ↓b_and32, ↓b_or32, ↓u_not32, b_xor32, b_and32, b_or32, u_not32, w32ad, ↓x_conv, x_convV, ↓x_fieldAddr, x_fieldV, ↓s_nilchk, x_nilchk, Nat.zero_add, Nat.add_zero, Nat.mul_one, ↓s_evD, ↓s_dnil, ↓s_dL, ↓s_dLg, ↓s_dR, ↓s_dRg, ↓s_dRj, ↓s_dRjg, ↓s_dB, ↓s_dBg, ↓s_dAlloc, ↓s_bindD, s_bindD, s_finD, s_finDx, s_addP0, s_addP1, s_addB, s_lookP, ↓s_bump0, ↓s_bump_get, s_bump_next, s_ok0, ↓s_ok1, s_okR0, ↓s_okR1, ↓s_okE, s_okE, s_okE1, s_nth0, s_nthS, Nat.add_zero, Bool.and_self, Bool.and_true, Bool.true_and, ↓l_loop, ↓l_succ, ↓l_normal, l_normal, l_exit, l_ret, l_iteN, ↓h_put_get, ↓h_new_get, ↓h_del_get, h_next_put, h_next_new, h_next_del, Nat.add_assoc, Nat.add_eq_left, Nat.left_eq_add, Nat.add_left_cancel_iff, ↓s_load, m_load, ↓m_load1, m_load1, ↓m_st, m_stE, m_storeI, m_storeE, w_zero, w_succ, ↓s_alloc, ↓x_idxA, ↓x_idxS, x_idxAE, x_idxSE, x_addrE, x_idx, x_lenS, ↓s_len, ↓x_buildS, x_buildE, ↓x_P0, ↓x_P1, x_fill0, x_filli, x_fills, x_fillb, c_int, List.length_cons, List.length_nil, List.cons_append, List.drop_succ_cons, List.drop_zero, List.drop_nil, List.nil_append, Int.reduceAdd, Int.reduceToNat, Int.reduceLT, Int.reduceLE, Nat.reduceAdd, Nat.reduceMul, Nat.reduceLeDiff, Int.reduceEq, Int.reduceSub, Int.cast_ofNat_Int, s_resc, s_consR, m_load4, m_store4, s_res0, ↓s_skip, ↓s_ops, ↓s_dops, ↓s_seq, ↓s_cond, ↓s_block, ↓s_exit, ↓s_ret, ↓s_scope, ↓s_nil, ↓s_op, ↓s_opg, ↓s_wanted', ↓s_wantV, s_wantV, s_wantV0, beq_true, beq_false, ↓s_bindS, s_bindS, ↓s_bindE, s_bindE, s_bindE_ret, s_bindE_exit, s_bindE_iteN, s_norm, ↓s_condV, s_condV, s_block_ret, s_block_normal, s_block_exit, s_block_iteN, ↓s_getp, ↓s_getp0, ↓s_get, s_get0, ↓s_con, ↓s_fn, ↓s_os0, ↓s_os1, ↓s_list0, ↓s_list1, ↓s_mov, ↓s_pick, ↓s_pickE, s_pickE, ↓s_bin, ↓s_un, ↓s_minmax, ↓s_call, ↓s_callv, ↓s_callV, ↓s_ext, s_same, b_eql, b_neq, b_lss, b_leq, b_gtr, b_geq, b_add, b_sub, b_mul, b_eqlb, b_neqb, b_fnil, b_fnil', b_fnil2, b_fnil2', u_neg, u_not, m_two, s_end, s_end', s_end_iteN, s_res0, s_res1, s_tup1, s_tup2, ↓iteN_true, ↓iteN_false, iteN_true, iteN_false, Nat.zero_add, List.nil_append, List.append_nil, Nat.reduceEqDiff, reduceIte, decide_true, decide_false, Bool.not_true, Bool.not_false, List.getElem?_cons_zero, List.getElem?_cons_succ, Bool.false_eq_true, if_true, if_false, beq_self_eq_true]
    exact fin _ ⟨by omega, (by (simp only [s_getp, s_getp0, Nat.reduceEqDiff, decide_false, decide_true, iteN_false, iteN_true, eL]; try rfl)), (by (simp only [s_getp, s_getp0, Nat.reduceEqDiff, decide_false, decide_true, iteN_false, iteN_true, eL]; try rfl)), (by (simp only [s_getp, s_getp0, Nat.reduceEqDiff, decide_false, decide_true, iteN_false, iteN_true, eL]; try rfl)), (by (simp only [s_getp, s_getp0, Nat.reduceEqDiff, decide_false, decide_true, iteN_false, iteN_true, eL]; try rfl)), (by (simp only [s_getp, s_getp0, Nat.reduceEqDiff, decide_false, decide_true, iteN_false, iteN_true, eL]; try rfl)), (by (simp only [s_getp, s_getp0, Nat.reduceEqDiff, decide_false, decide_true, iteN_false, iteN_true, eL]; try rfl)), ⟨DT, g34, lT⟩, Eqx.refl _ _⟩
end Go.Eng
