/- What functions of the program come to: own work. -/
import Derived.Test.YtgjoaeefnknpfaaCrG
import Derived.Test.YtgjoaeefnknpfaaQrF
namespace Go.Eng
open Go
abbrev Pt := Option (Nat × Nat) × Option Nat × Nat × List Nat
def slOf (q : Pt) : V := .slice q.1 q.2.2.2.length q.2.1 q.2.2.1
end Go.Eng
namespace Go.Eng
open Go
variable {E : Nat → Option Fn} {X : Orc}
set_option linter.unusedSimpArgs false
set_option linter.unusedVariables false
/-! the sum, as it is worked out: four bits at a time -/
def tab : List Nat := [0, 274646895, 549293790, 820201905, 1098587580, 1361435347, 1640403810, 1905808397, 2197175160, 2460548119, 2722870694, 2987750089, 3280807620, 3553878443, 3811616794, 4084100981]
def nib (r n : Nat) : Nat := Nat.xor (r / 16) (tab.getD (Nat.xor (r % 16) n) 0)
def stepB (r b : Nat) : Nat := nib (nib r (b % 16)) (b / 16)
def foldB (r : Nat) (l : List Nat) : Nat := l.foldl stepB r
def onV (s : Nat) (l : List Nat) : Nat := nt (foldB (nt s) l)
theorem tab_lt (i : Nat) : tab.getD i 0 < 4294967296 := by
  by_cases h : i < 16
  · have : ∀ j : Fin 16, tab.getD j.val 0 < 4294967296 := by decide
    exact this ⟨i, h⟩
  · rw [List.getD_eq_getElem?_getD, List.getElem?_eq_none (by show 16 ≤ i; omega)]; decide
theorem nib_lt (r n : Nat) (h : r < 4294967296) : nib r n < 4294967296 := Nat.xor_lt_two_pow (n := 32) (by show r / 16 < 4294967296; omega) (tab_lt _)
theorem stepB_lt (r b : Nat) (h : r < 4294967296) : stepB r b < 4294967296 := nib_lt _ _ (nib_lt _ _ h)
theorem foldB_lt : ∀ (l : List Nat) (r : Nat), r < 4294967296 → foldB r l < 4294967296 := by
  intro l
  induction l with
  | nil => intro r h; exact h
  | cons a s ih => intro r h; exact ih _ (stepB_lt _ _ h)
theorem foldB_app (r : Nat) (a b : List Nat) : foldB r (a ++ b) = foldB (foldB r a) b := List.foldl_append
theorem nt_nt (r : Nat) (h : r < 4294967296) : nt (nt r) = r := by unfold nt; omega
theorem onV_lt (s : Nat) (l : List Nat) : onV s l < 4294967296 := nt_lt _
theorem onV_app (s : Nat) (a b : List Nat) : onV s (a ++ b) = onV (onV s a) b := by
  unfold onV; rw [foldB_app, nt_nt _ (foldB_lt _ _ (nt_lt _))]
theorem onV_nil (s : Nat) (h : s < 4294967296) : onV s [] = s := nt_nt s h
theorem asK8 (r : Nat) (h : r < 256) : asK .u8 r = (r : Int) := by
  unfold asK
  rw [cond_blt, if_pos (by simpa [half] using h)]
  rfl
theorem and15 (n : Nat) (h : n < 256) (e : EqK) (hh : H) : binV .and e hh (.int .u8 (n : Int)) (.int .u8 15) = some (.int .u8 ((n % 16 : Nat) : Int)) := by
  have e1 : binV .and e hh (.int .u8 (n : Int)) (.int .u8 15) = some (.int .u8 (asK .u8 (Nat.land (n % 256) 15))) := rfl
  have e2 : Nat.land (n % 256) 15 = n % 16 := by
    show (n % 256) &&& 15 = n % 16
    have := Nat.and_two_pow_sub_one_eq_mod (n % 256) 4
    rw [show (15 : Nat) = 2 ^ 4 - 1 from rfl, this]; omega
  rw [e1, e2, asK8 _ (by omega)]
theorem xor8 (a b : Nat) (ha : a < 16) (hb : b < 16) (e : EqK) (hh : H) : binV .xor e hh (.int .u8 (a : Int)) (.int .u8 (b : Int)) = some (.int .u8 ((Nat.xor a b : Nat) : Int)) := by
  have e1 : binV .xor e hh (.int .u8 (a : Int)) (.int .u8 (b : Int)) = some (.int .u8 (asK .u8 (Nat.xor (a % 256) (b % 256)))) := rfl
  rw [e1, Nat.mod_eq_of_lt (by omega), Nat.mod_eq_of_lt (a := b) (by omega), asK8 _ (by have : a ^^^ b < 2 ^ 8 := Nat.xor_lt_two_pow (by omega) (by omega); exact this)]
theorem shr8 (n : Nat) (e : EqK) (hh : H) : binV .shr e hh (.int .u8 (n : Int)) (.int .u64 4) = some (.int .u8 ((n / 16 : Nat) : Int)) := rfl
theorem shr32 (n : Nat) (e : EqK) (hh : H) : binV .shr e hh (.int .u32 (n : Int)) (.int .u64 4) = some (.int .u32 ((n / 16 : Nat) : Int)) := rfl
theorem xor32 (a b : Nat) (ha : a < 4294967296) (hb : b < 4294967296) (e : EqK) (hh : H) : binV .xor e hh (.int .u32 (a : Int)) (.int .u32 (b : Int)) = some (.int .u32 ((Nat.xor a b : Nat) : Int)) := by
  rw [b_xor32]; unfold xr; rw [Nat.mod_eq_of_lt ha, Nat.mod_eq_of_lt hb]
theorem x16 (a b : Nat) (ha : a < 16) (hb : b < 16) : Nat.xor a b < 16 := Nat.xor_lt_two_pow (n := 4) ha hb
/-- half a byte -/
theorem nib_go (x : ∀ l a h, X (.yld l) a h = none) (M a0 : Nat) (T0 : Tr V) (h5 : evO T0 (.t 5) = .ptr (some (a0, 0))) (h6 : evO T0 (.t 6) = .ptr (some (a0 + 1, 0))) (h : H) (r n : Nat) (hr : r < 4294967296) (hn : n < 16)
    (g0 : h.get a0 = some (.cells (ofI .u32 tab) .rw)) (g1 : h.get (a0 + 1) = some (.cells [.int .u32 (r : Int)] .rw)) (g4 : h.get (a0 + 4) = some (.loop 0 none 31 T0 [14] A_crc_On_0 B_crc_On_0 (a0 + 3))) :
    ∃ h', callX E X (M + 1) (.yld (a0 + 4)) [.int .u8 (n : Int)] h = some (.bool true, h') ∧ h'.get (a0 + 1) = some (.cells [.int .u32 (nib r n : Nat)] .rw) ∧ Eqx (a0 + 1) h h' := by
  have yx : callX E X (M + 1) (.yld (a0 + 4)) [.int .u8 (n : Int)] h = cYld (callX E X M) M (a0 + 4) [.int .u8 (n : Int)] h := x_yld (x _ _ _)
  have wr8 : wr .u8 (r : Int) = ((r % 256 : Nat) : Int) := w8n _
  have b1 := fun e h => and15 (r % 256) (by omega) e h
  rw [show r % 256 % 16 = r % 16 by omega] at b1
  have b2 := fun e h => xor8 (r % 16) n (by omega) hn e h
  have b3 := fun e h => shr32 r e h
  have b4 := fun e h => xor32 (r / 16) (tab.getD (Nat.xor (r % 16) n) 0) (by omega) (tab_lt _) e h
  have en : Nat.xor (r % 16) n < 16 := x16 _ _ (by omega) hn
  have ix : idx ((Nat.xor (r % 16) n : Nat) : Int) 16 = some (Nat.xor (r % 16) n) := idxn en
  have tg : (ofI .u32 tab)[Nat.xor (r % 16) n]? = some (.int .u32 (tab.getD (Nat.xor (r % 16) n) 0 : Nat)) := ofI_get _ _ _ en
  have nb : nib r n = Nat.xor (r / 16) (tab.getD (Nat.xor (r % 16) n) 0) := rfl
  rw [nb]
  generalize Nat.xor (r % 16) n = en' at *
  obtain ⟨TB, eTB⟩ : ∃ t, ofI .u32 tab = t := ⟨_, rfl⟩
  rw [eTB] at g0 tg
  obtain ⟨tv, etv⟩ : ∃ t, tab.getD en' 0 = t := ⟨_, rfl⟩
  have hz : en' = 0 → tv = 0 := fun h => by rw [← etv, h]; rfl
  rw [etv] at tg b4 ⊢
  obtain ⟨q, eq⟩ : ∃ t, r / 16 = t := ⟨_, rfl⟩
  rw [eq] at b3 b4 ⊢
  have z1 : (a0 + 4 = a0 + 1) = False := by simp
  have z2 : (a0 + 1 = a0 + 4) = False := by simp
  have z3 : (a0 + 4 = a0) = False := by simp
  have z4 : (a0 + 1 = a0) = False := by simp
  by_cases hc : en' = 0
  · have c0 : decide ((en' : Int) = 0) = true := decide_eq_true (by omega)
    have hq : Nat.xor q tv = q := by rw [hz hc]; exact Nat.xor_zero q
    refine ⟨_, by
      rw [yx]
      simp (config := {maxSteps := 2000000}) (disch := first | omega | (simp only [List.length_cons, List.length_nil, List.length_append, List.length_drop]; omega)) only [h5, h6, g0, g1, g4, wr8, b1, b2, b3, b4, ix, tg, c0, z1, z2, z3, z4, y_cyld, y_ready, y_set1, y_mid, y_busy, y_end, y_done, y_jn, Option.isNone_none, ↓u_A_crc_On_0, ↓u_B_crc_On_0, ↓b_xor32, ↓b_and32, ↓b_or32, ↓u_not32, b_xor32, b_and32, b_or32, u_not32, w32ad, ↓x_conv, x_convV, ↓x_fieldAddr, x_fieldV, ↓s_nilchk, x_nilchk, Nat.zero_add, Nat.add_zero, Nat.mul_one, ↓s_evD, ↓s_dnil, ↓s_dL, ↓s_dLg, ↓s_dR, ↓s_dRg, ↓s_dRj, ↓s_dRjg, ↓s_dB, ↓s_dBg, ↓s_dAlloc, ↓s_bindD, s_bindD, s_finD, s_finDx, s_addP0, s_addP1, s_addB, s_lookP, ↓s_bump0, ↓s_bump_get, s_bump_next, s_ok0, ↓s_ok1, s_okR0, ↓s_okR1, ↓s_okE, s_okE, s_okE1, s_nth0, s_nthS, Nat.add_zero, Bool.and_self, Bool.and_true, Bool.true_and, ↓l_loop, ↓l_succ, ↓l_normal, l_normal, l_exit, l_ret, l_iteN, ↓h_put_get, ↓h_new_get, ↓h_del_get, h_next_put, h_next_new, h_next_del, Nat.add_assoc, Nat.add_eq_left, Nat.left_eq_add, Nat.add_left_cancel_iff, ↓s_load, m_load, ↓m_load1, m_load1, ↓m_st, m_stE, m_storeI, m_storeE, w_zero, w_succ, ↓s_alloc, ↓x_idxA, ↓x_idxS, x_idxAE, x_idxSE, x_addrE, x_idx, x_lenS, ↓s_len, ↓x_buildS, x_buildE, ↓x_P0, ↓x_P1, x_fill0, x_filli, x_fills, x_fillb, c_int, List.length_cons, List.length_nil, List.cons_append, List.drop_succ_cons, List.drop_zero, List.drop_nil, List.nil_append, Int.reduceAdd, Int.reduceToNat, Int.reduceLT, Int.reduceLE, Nat.reduceAdd, Nat.reduceMul, Nat.reduceLeDiff, Int.reduceEq, Int.reduceSub, Int.cast_ofNat_Int, s_resc, s_consR, m_load4, m_store4, s_res0, ↓s_skip, ↓s_ops, ↓s_dops, ↓s_seq, ↓s_cond, ↓s_block, ↓s_exit, ↓s_ret, ↓s_scope, ↓s_nil, ↓s_op, ↓s_opg, ↓s_wanted', ↓s_wantV, s_wantV, s_wantV0, beq_true, beq_false, ↓s_bindS, s_bindS, ↓s_bindE, s_bindE, s_bindE_ret, s_bindE_exit, s_bindE_iteN, s_norm, ↓s_condV, s_condV, s_block_ret, s_block_normal, s_block_exit, s_block_iteN, ↓s_getp, ↓s_getp0, ↓s_get, s_get0, ↓s_con, ↓s_fn, ↓s_os0, ↓s_os1, ↓s_list0, ↓s_list1, ↓s_mov, ↓s_pick, ↓s_pickE, s_pickE, ↓s_bin, ↓s_un, ↓s_minmax, ↓s_call, ↓s_callv, ↓s_callV, ↓s_ext, s_same, b_eql, b_neq, b_lss, b_leq, b_gtr, b_geq, b_add, b_sub, b_mul, b_eqlb, b_neqb, b_fnil, b_fnil', b_fnil2, b_fnil2', u_neg, u_not, m_two, s_end, s_end', s_end_iteN, s_res0, s_res1, s_tup1, s_tup2, ↓iteN_true, ↓iteN_false, iteN_true, iteN_false, Nat.zero_add, List.nil_append, List.append_nil, Nat.reduceEqDiff, reduceIte, decide_true, decide_false, Bool.not_true, Bool.not_false, List.getElem?_cons_zero, List.getElem?_cons_succ, Bool.false_eq_true, if_true, if_false, beq_self_eq_true]
      exact rfl, ?_, ?_⟩
    · rw [hq]; (simp (disch := omega) only [l_loop, l_succ, l_normal, l_normal, l_exit, l_ret, l_iteN, h_put_get, h_new_get, h_del_get, h_next_put, h_next_new, h_next_del, Nat.add_assoc, Nat.add_eq_left, Nat.left_eq_add, Nat.add_left_cancel_iff, s_load, m_load, m_load1, m_load1, m_st, m_stE, m_storeI, m_storeE, w_zero, w_succ, s_alloc, x_idxA, x_idxS, x_idxAE, x_idxSE, x_addrE, x_idx, x_lenS, s_len, x_buildS, x_buildE, x_P0, x_P1, x_fill0, x_filli, x_fills, x_fillb, c_int, List.length_cons, List.length_nil, List.cons_append, List.drop_succ_cons, List.drop_zero, List.drop_nil, List.nil_append, Int.reduceAdd, Int.reduceToNat, Int.reduceLT, Int.reduceLE, Nat.reduceAdd, Nat.reduceMul, Nat.reduceLeDiff, Int.reduceEq, Int.reduceSub, Int.cast_ofNat_Int, s_resc, s_consR, m_load4, m_store4, s_res0, decide_true, decide_false, iteN_true, iteN_false, Nat.reduceEqDiff, Nat.reduceAdd, reduceCtorEq, z1, z2, z3, z4]; try rfl)
    · refine ⟨rfl, fun j hj => ?_⟩
      by_cases h4 : j = a0 + 4
      · subst h4; rw [g4]; (simp (disch := omega) only [l_loop, l_succ, l_normal, l_normal, l_exit, l_ret, l_iteN, h_put_get, h_new_get, h_del_get, h_next_put, h_next_new, h_next_del, Nat.add_assoc, Nat.add_eq_left, Nat.left_eq_add, Nat.add_left_cancel_iff, s_load, m_load, m_load1, m_load1, m_st, m_stE, m_storeI, m_storeE, w_zero, w_succ, s_alloc, x_idxA, x_idxS, x_idxAE, x_idxSE, x_addrE, x_idx, x_lenS, s_len, x_buildS, x_buildE, x_P0, x_P1, x_fill0, x_filli, x_fills, x_fillb, c_int, List.length_cons, List.length_nil, List.cons_append, List.drop_succ_cons, List.drop_zero, List.drop_nil, List.nil_append, Int.reduceAdd, Int.reduceToNat, Int.reduceLT, Int.reduceLE, Nat.reduceAdd, Nat.reduceMul, Nat.reduceLeDiff, Int.reduceEq, Int.reduceSub, Int.cast_ofNat_Int, s_resc, s_consR, m_load4, m_store4, s_res0, decide_true, decide_false, iteN_true, iteN_false, Nat.reduceEqDiff, Nat.reduceAdd, reduceCtorEq, z1, z2, z3, z4]; try rfl)
      · have y1 : (a0 + 1 = j) = False := by simp; omega
        have y4 : (a0 + 4 = j) = False := by simp; omega
        (simp (disch := omega) only [l_loop, l_succ, l_normal, l_normal, l_exit, l_ret, l_iteN, h_put_get, h_new_get, h_del_get, h_next_put, h_next_new, h_next_del, Nat.add_assoc, Nat.add_eq_left, Nat.left_eq_add, Nat.add_left_cancel_iff, s_load, m_load, m_load1, m_load1, m_st, m_stE, m_storeI, m_storeE, w_zero, w_succ, s_alloc, x_idxA, x_idxS, x_idxAE, x_idxSE, x_addrE, x_idx, x_lenS, s_len, x_buildS, x_buildE, x_P0, x_P1, x_fill0, x_filli, x_fills, x_fillb, c_int, List.length_cons, List.length_nil, List.cons_append, List.drop_succ_cons, List.drop_zero, List.drop_nil, List.nil_append, Int.reduceAdd, Int.reduceToNat, Int.reduceLT, Int.reduceLE, Nat.reduceAdd, Nat.reduceMul, Nat.reduceLeDiff, Int.reduceEq, Int.reduceSub, Int.cast_ofNat_Int, s_resc, s_consR, m_load4, m_store4, s_res0, decide_true, decide_false, iteN_true, iteN_false, Nat.reduceEqDiff, Nat.reduceAdd, reduceCtorEq, y1, y4]; try rfl)
  · have c0 : decide ((en' : Int) = 0) = false := decide_eq_false (by omega)
    refine ⟨_, by
      rw [yx]
      simp (config := {maxSteps := 2000000}) (disch := first | omega | (simp only [List.length_cons, List.length_nil, List.length_append, List.length_drop]; omega)) only [h5, h6, g0, g1, g4, wr8, b1, b2, b3, b4, ix, tg, c0, z1, z2, z3, z4, y_cyld, y_ready, y_set1, y_mid, y_busy, y_end, y_done, y_jn, Option.isNone_none, ↓u_A_crc_On_0, ↓u_B_crc_On_0, ↓b_xor32, ↓b_and32, ↓b_or32, ↓u_not32, b_xor32, b_and32, b_or32, u_not32, w32ad, ↓x_conv, x_convV, ↓x_fieldAddr, x_fieldV, ↓s_nilchk, x_nilchk, Nat.zero_add, Nat.add_zero, Nat.mul_one, ↓s_evD, ↓s_dnil, ↓s_dL, ↓s_dLg, ↓s_dR, ↓s_dRg, ↓s_dRj, ↓s_dRjg, ↓s_dB, ↓s_dBg, ↓s_dAlloc, ↓s_bindD, s_bindD, s_finD, s_finDx, s_addP0, s_addP1, s_addB, s_lookP, ↓s_bump0, ↓s_bump_get, s_bump_next, s_ok0, ↓s_ok1, s_okR0, ↓s_okR1, ↓s_okE, s_okE, s_okE1, s_nth0, s_nthS, Nat.add_zero, Bool.and_self, Bool.and_true, Bool.true_and, ↓l_loop, ↓l_succ, ↓l_normal, l_normal, l_exit, l_ret, l_iteN, ↓h_put_get, ↓h_new_get, ↓h_del_get, h_next_put, h_next_new, h_next_del, Nat.add_assoc, Nat.add_eq_left, Nat.left_eq_add, Nat.add_left_cancel_iff, ↓s_load, m_load, ↓m_load1, m_load1, ↓m_st, m_stE, m_storeI, m_storeE, w_zero, w_succ, ↓s_alloc, ↓x_idxA, ↓x_idxS, x_idxAE, x_idxSE, x_addrE, x_idx, x_lenS, ↓s_len, ↓x_buildS, x_buildE, ↓x_P0, ↓x_P1, x_fill0, x_filli, x_fills, x_fillb, c_int, List.length_cons, List.length_nil, List.cons_append, List.drop_succ_cons, List.drop_zero, List.drop_nil, List.nil_append, Int.reduceAdd, Int.reduceToNat, Int.reduceLT, Int.reduceLE, Nat.reduceAdd, Nat.reduceMul, Nat.reduceLeDiff, Int.reduceEq, Int.reduceSub, Int.cast_ofNat_Int, s_resc, s_consR, m_load4, m_store4, s_res0, ↓s_skip, ↓s_ops, ↓s_dops, ↓s_seq, ↓s_cond, ↓s_block, ↓s_exit, ↓s_ret, ↓s_scope, ↓s_nil, ↓s_op, ↓s_opg, ↓s_wanted', ↓s_wantV, s_wantV, s_wantV0, beq_true, beq_false, ↓s_bindS, s_bindS, ↓s_bindE, s_bindE, s_bindE_ret, s_bindE_exit, s_bindE_iteN, s_norm, ↓s_condV, s_condV, s_block_ret, s_block_normal, s_block_exit, s_block_iteN, ↓s_getp, ↓s_getp0, ↓s_get, s_get0, ↓s_con, ↓s_fn, ↓s_os0, ↓s_os1, ↓s_list0, ↓s_list1, ↓s_mov, ↓s_pick, ↓s_pickE, s_pickE, ↓s_bin, ↓s_un, ↓s_minmax, ↓s_call, ↓s_callv, ↓s_callV, ↓s_ext, s_same, b_eql, b_neq, b_lss, b_leq, b_gtr, b_geq, b_add, b_sub, b_mul, b_eqlb, b_neqb, b_fnil, b_fnil', b_fnil2, b_fnil2', u_neg, u_not, m_two, s_end, s_end', s_end_iteN, s_res0, s_res1, s_tup1, s_tup2, ↓iteN_true, ↓iteN_false, iteN_true, iteN_false, Nat.zero_add, List.nil_append, List.append_nil, Nat.reduceEqDiff, reduceIte, decide_true, decide_false, Bool.not_true, Bool.not_false, List.getElem?_cons_zero, List.getElem?_cons_succ, Bool.false_eq_true, if_true, if_false, beq_self_eq_true]
      exact rfl, ?_, ?_⟩
    · (simp (disch := omega) only [l_loop, l_succ, l_normal, l_normal, l_exit, l_ret, l_iteN, h_put_get, h_new_get, h_del_get, h_next_put, h_next_new, h_next_del, Nat.add_assoc, Nat.add_eq_left, Nat.left_eq_add, Nat.add_left_cancel_iff, s_load, m_load, m_load1, m_load1, m_st, m_stE, m_storeI, m_storeE, w_zero, w_succ, s_alloc, x_idxA, x_idxS, x_idxAE, x_idxSE, x_addrE, x_idx, x_lenS, s_len, x_buildS, x_buildE, x_P0, x_P1, x_fill0, x_filli, x_fills, x_fillb, c_int, List.length_cons, List.length_nil, List.cons_append, List.drop_succ_cons, List.drop_zero, List.drop_nil, List.nil_append, Int.reduceAdd, Int.reduceToNat, Int.reduceLT, Int.reduceLE, Nat.reduceAdd, Nat.reduceMul, Nat.reduceLeDiff, Int.reduceEq, Int.reduceSub, Int.cast_ofNat_Int, s_resc, s_consR, m_load4, m_store4, s_res0, decide_true, decide_false, iteN_true, iteN_false, Nat.reduceEqDiff, Nat.reduceAdd, reduceCtorEq, z1, z2, z3, z4]; try rfl)
    · refine ⟨rfl, fun j hj => ?_⟩
      by_cases h4 : j = a0 + 4
      · subst h4; rw [g4]; (simp (disch := omega) only [l_loop, l_succ, l_normal, l_normal, l_exit, l_ret, l_iteN, h_put_get, h_new_get, h_del_get, h_next_put, h_next_new, h_next_del, Nat.add_assoc, Nat.add_eq_left, Nat.left_eq_add, Nat.add_left_cancel_iff, s_load, m_load, m_load1, m_load1, m_st, m_stE, m_storeI, m_storeE, w_zero, w_succ, s_alloc, x_idxA, x_idxS, x_idxAE, x_idxSE, x_addrE, x_idx, x_lenS, s_len, x_buildS, x_buildE, x_P0, x_P1, x_fill0, x_filli, x_fills, x_fillb, c_int, List.length_cons, List.length_nil, List.cons_append, List.drop_succ_cons, List.drop_zero, List.drop_nil, List.nil_append, Int.reduceAdd, Int.reduceToNat, Int.reduceLT, Int.reduceLE, Nat.reduceAdd, Nat.reduceMul, Nat.reduceLeDiff, Int.reduceEq, Int.reduceSub, Int.cast_ofNat_Int, s_resc, s_consR, m_load4, m_store4, s_res0, decide_true, decide_false, iteN_true, iteN_false, Nat.reduceEqDiff, Nat.reduceAdd, reduceCtorEq, z1, z2, z3, z4]; try rfl)
      · have y1 : (a0 + 1 = j) = False := by simp; omega
        have y4 : (a0 + 4 = j) = False := by simp; omega
        (simp (disch := omega) only [l_loop, l_succ, l_normal, l_normal, l_exit, l_ret, l_iteN, h_put_get, h_new_get, h_del_get, h_next_put, h_next_new, h_next_del, Nat.add_assoc, Nat.add_eq_left, Nat.left_eq_add, Nat.add_left_cancel_iff, s_load, m_load, m_load1, m_load1, m_st, m_stE, m_storeI, m_storeE, w_zero, w_succ, s_alloc, x_idxA, x_idxS, x_idxAE, x_idxSE, x_addrE, x_idx, x_lenS, s_len, x_buildS, x_buildE, x_P0, x_P1, x_fill0, x_filli, x_fills, x_fillb, c_int, List.length_cons, List.length_nil, List.cons_append, List.drop_succ_cons, List.drop_zero, List.drop_nil, List.nil_append, Int.reduceAdd, Int.reduceToNat, Int.reduceLT, Int.reduceLE, Nat.reduceAdd, Nat.reduceMul, Nat.reduceLeDiff, Int.reduceEq, Int.reduceSub, Int.cast_ofNat_Int, s_resc, s_consR, m_load4, m_store4, s_res0, decide_true, decide_false, iteN_true, iteN_false, Nat.reduceEqDiff, Nat.reduceAdd, reduceCtorEq, y1, y4]; try rfl)
end Go.Eng
namespace Go.Eng
open Go
variable {E : Nat → Option Fn} {X : Orc}
set_option linter.unusedSimpArgs false
set_option linter.unusedVariables false
def SrcA (a0 : Nat) (h0 : H) (a : Option (Nat × Nat)) (ez : Nat) (l : List Nat) : Prop := l = [] ∨ ∃ bi off vs m, a = some (bi, off) ∧ ez = 1 ∧ bi ≠ a0 + 1 ∧ h0.get bi = some (.cells vs m) ∧ ∀ i, i < l.length → vs[off + i]? = some (.int .u8 (l.getD i 0 : Nat))
structure HV (a0 : Nat) (a : Option (Nat × Nat)) (c : Option Nat) (ez : Nat) (l : List Nat) (r0 : Nat) (h0 : H) (i : Nat) (T : Tr V) (h : H) : Prop where
  il : i ≤ l.length
  t0 : evO T (.t 0) = .yld (a0 + 4)
  t5 : evO T (.t 5) = .slice a l.length c ez
  t6 : evO T (.t 6) = .int .i64 (l.length : Int)
  t7 : evO T (.t 7) = .int .i64 (i : Int)
  g1 : h.get (a0 + 1) = some (.cells [.int .u32 (foldB r0 (l.take i) : Nat)] .rw)
  eq : Eqx (a0 + 1) h0 h
theorem hv_step (x : ∀ l a h, X (.yld l) a h = none) (M n a0 : Nat) (T0 : Tr V) (h5 : evO T0 (.t 5) = .ptr (some (a0, 0))) (h6 : evO T0 (.t 6) = .ptr (some (a0 + 1, 0))) (a : Option (Nat × Nat)) (c : Option Nat) (ez : Nat) (l : List Nat) (r0 : Nat) (hr : r0 < 4294967296) (bl : byt l = true) (hl : l.length < 9223372036854775807) (h0 : H)
    (g0 : h0.get a0 = some (.cells (ofI .u32 tab) .rw)) (g4 : h0.get (a0 + 4) = some (.loop 0 none 31 T0 [14] A_crc_On_0 B_crc_On_0 (a0 + 3))) (src : SrcA a0 h0 a ez l) :
    ∀ i T h, i < l.length → HV a0 a c ez l r0 h0 i T h → ∃ T' h', evC (callX E X (M + 1)) 24 n none L_crc_halves_1_0 ⟨T, [], h⟩ = some (.normal, ⟨T', [], h'⟩) ∧ HV a0 a c ez l r0 h0 (i + 1) T' h' := by
  intro i T h hi ⟨_, t0, t5, t6, t7, g1, eq⟩
  obtain ⟨bi, off, vs, m, rfl, rfl, hb, gb, cg⟩ := src.resolve_left (fun h => by rw [h] at hi; cases hi)
  have c0 : decide ((i : Int) < (l.length : Int)) = true := decide_eq_true (by omega)
  have wi : wr .i64 ((i : Int) + 1) = ((i + 1 : Nat) : Int) := by rw [wr_i64 (by omega)]; omega
  have ix : idx (i : Int) l.length = some i := idxn hi
  have gb' : h.get bi = some (.cells vs m) := by rw [eq.2 _ hb, gb]
  have cg' := cg i hi
  have yl : l.getD i 0 < 256 := by
    rw [List.getD_eq_getElem?_getD, List.getElem?_eq_getElem hi]; exact byt_iff.1 bl _ (List.getElem_mem hi)
  have ts : l.take (i + 1) = l.take i ++ [l.getD i 0] := by
    rw [List.take_add_one, List.getD_eq_getElem?_getD, List.getElem?_eq_getElem hi]; rfl
  have fo : foldB r0 (l.take (i + 1)) = stepB (foldB r0 (l.take i)) (l.getD i 0) := by rw [ts, foldB_app]; rfl
  have rl := foldB_lt (l.take i) r0 hr
  generalize l.getD i 0 = y at *
  generalize foldB r0 (l.take i) = r at *
  have b1 := fun e h => and15 y yl e h
  have b2 := fun e h => shr8 y e h
  obtain ⟨h1, r1, k1, q1⟩ := nib_go (E := E) x M a0 T0 h5 h6 h r (y % 16) rl (by omega) (by rw [eq.2 _ (by omega), g0]) g1 (by rw [eq.2 _ (by omega), g4])
  obtain ⟨h2, r2, k2, q2⟩ := nib_go (E := E) x M a0 T0 h5 h6 h1 (nib r (y % 16)) (y / 16) (nib_lt _ _ rl) (by omega) (by rw [q1.2 _ (by omega), eq.2 _ (by omega), g0]) k1 (by rw [q1.2 _ (by omega), eq.2 _ (by omega), g4])
  refine ⟨_, _, by
    simp (config := {maxSteps := 2000000}) (disch := first | omega | (simp only [List.length_cons, List.length_nil, List.length_append, List.length_drop]; omega)) only [L_crc_halves_1_0, t0, t5, t6, t7, gb', cg', c0, wi, ix, b1, b2, r1, r2, s_callVy, ↓b_xor32, ↓b_and32, ↓b_or32, ↓u_not32, b_xor32, b_and32, b_or32, u_not32, w32ad, ↓x_conv, x_convV, ↓x_fieldAddr, x_fieldV, ↓s_nilchk, x_nilchk, Nat.zero_add, Nat.add_zero, Nat.mul_one, ↓s_evD, ↓s_dnil, ↓s_dL, ↓s_dLg, ↓s_dR, ↓s_dRg, ↓s_dRj, ↓s_dRjg, ↓s_dB, ↓s_dBg, ↓s_dAlloc, ↓s_bindD, s_bindD, s_finD, s_finDx, s_addP0, s_addP1, s_addB, s_lookP, ↓s_bump0, ↓s_bump_get, s_bump_next, s_ok0, ↓s_ok1, s_okR0, ↓s_okR1, ↓s_okE, s_okE, s_okE1, s_nth0, s_nthS, Nat.add_zero, Bool.and_self, Bool.and_true, Bool.true_and, ↓l_loop, ↓l_succ, ↓l_normal, l_normal, l_exit, l_ret, l_iteN, ↓h_put_get, ↓h_new_get, ↓h_del_get, h_next_put, h_next_new, h_next_del, Nat.add_assoc, Nat.add_eq_left, Nat.left_eq_add, Nat.add_left_cancel_iff, ↓s_load, m_load, ↓m_load1, m_load1, ↓m_st, m_stE, m_storeI, m_storeE, w_zero, w_succ, ↓s_alloc, ↓x_idxA, ↓x_idxS, x_idxAE, x_idxSE, x_addrE, x_idx, x_lenS, ↓s_len, ↓x_buildS, x_buildE, ↓x_P0, ↓x_P1, x_fill0, x_filli, x_fills, x_fillb, c_int, List.length_cons, List.length_nil, List.cons_append, List.drop_succ_cons, List.drop_zero, List.drop_nil, List.nil_append, Int.reduceAdd, Int.reduceToNat, Int.reduceLT, Int.reduceLE, Nat.reduceAdd, Nat.reduceMul, Nat.reduceLeDiff, Int.reduceEq, Int.reduceSub, Int.cast_ofNat_Int, s_resc, s_consR, m_load4, m_store4, s_res0, ↓s_skip, ↓s_ops, ↓s_dops, ↓s_seq, ↓s_cond, ↓s_block, ↓s_exit, ↓s_ret, ↓s_scope, ↓s_nil, ↓s_op, ↓s_opg, ↓s_wanted', ↓s_wantV, s_wantV, s_wantV0, beq_true, beq_false, ↓s_bindS, s_bindS, ↓s_bindE, s_bindE, s_bindE_ret, s_bindE_exit, s_bindE_iteN, s_norm, ↓s_condV, s_condV, s_block_ret, s_block_normal, s_block_exit, s_block_iteN, ↓s_getp, ↓s_getp0, ↓s_get, s_get0, ↓s_con, ↓s_fn, ↓s_os0, ↓s_os1, ↓s_list0, ↓s_list1, ↓s_mov, ↓s_pick, ↓s_pickE, s_pickE, ↓s_bin, ↓s_un, ↓s_minmax, ↓s_call, ↓s_callv, ↓s_callV, ↓s_ext, s_same, b_eql, b_neq, b_lss, b_leq, b_gtr, b_geq, b_add, b_sub, b_mul, b_eqlb, b_neqb, b_fnil, b_fnil', b_fnil2, b_fnil2', u_neg, u_not, m_two, s_end, s_end', s_end_iteN, s_res0, s_res1, s_tup1, s_tup2, ↓iteN_true, ↓iteN_false, iteN_true, iteN_false, Nat.zero_add, List.nil_append, List.append_nil, Nat.reduceEqDiff, reduceIte, decide_true, decide_false, Bool.not_true, Bool.not_false, List.getElem?_cons_zero, List.getElem?_cons_succ, Bool.false_eq_true, if_true, if_false, beq_self_eq_true]
    exact rfl, ⟨by omega, (by (simp only [s_getp, s_getp0, Nat.reduceEqDiff, decide_false, decide_true, iteN_false, iteN_true, t0]; try rfl)), (by (simp only [s_getp, s_getp0, Nat.reduceEqDiff, decide_false, decide_true, iteN_false, iteN_true, t5]; try rfl)), (by (simp only [s_getp, s_getp0, Nat.reduceEqDiff, decide_false, decide_true, iteN_false, iteN_true, t6]; try rfl)), (by (simp only [s_getp, s_getp0, Nat.reduceEqDiff, decide_false, decide_true, iteN_false, iteN_true, t7]; try rfl)), by rw [k2, fo]; rfl, ⟨by rw [q2.1, q1.1, eq.1], fun j hj => by rw [q2.2 _ hj, q1.2 _ hj, eq.2 _ hj]⟩⟩⟩
theorem hv_loop (x : ∀ l a h, X (.yld l) a h = none) (M n a0 : Nat) (T0 : Tr V) (h5 : evO T0 (.t 5) = .ptr (some (a0, 0))) (h6 : evO T0 (.t 6) = .ptr (some (a0 + 1, 0))) (a : Option (Nat × Nat)) (c : Option Nat) (ez : Nat) (l : List Nat) (r0 : Nat) (hr : r0 < 4294967296) (bl : byt l = true) (hl : l.length < 9223372036854775807) (hn : l.length < n) (h0 : H)
    (g0 : h0.get a0 = some (.cells (ofI .u32 tab) .rw)) (g4 : h0.get (a0 + 4) = some (.loop 0 none 31 T0 [14] A_crc_On_0 B_crc_On_0 (a0 + 3))) (src : SrcA a0 h0 a ez l)
    (T : Tr V) (h : H) (I : HV a0 a c ez l r0 h0 0 T h) : ∃ T' h', loopN (evC (callX E X (M + 1)) 24 n none L_crc_halves_1_0) n ⟨T, [], h⟩ = some (.exit 0, ⟨T', [], h'⟩) ∧ HV a0 a c ez l r0 h0 l.length T' h' :=
  loop_go (HV a0 a c ez l r0 h0) l.length (.exit 0) (by intro h; cases h) _ (hv_step x M n a0 T0 h5 h6 a c ez l r0 hr bl hl h0 g0 g4 src) (fun T h I => by
    obtain ⟨il, t0, t5, t6, t7, g1, eq⟩ := I
    have c0 : decide ((l.length : Int) < (l.length : Int)) = false := decide_eq_false (by omega)
    refine ⟨_, _, by
      simp (config := {maxSteps := 2000000}) (disch := first | omega | (simp only [List.length_cons, List.length_nil, List.length_append, List.length_drop]; omega)) only [L_crc_halves_1_0, t6, t7, c0, ↓b_xor32, ↓b_and32, ↓b_or32, ↓u_not32, b_xor32, b_and32, b_or32, u_not32, w32ad, ↓x_conv, x_convV, ↓x_fieldAddr, x_fieldV, ↓s_nilchk, x_nilchk, Nat.zero_add, Nat.add_zero, Nat.mul_one, ↓l_loop, ↓l_succ, ↓l_normal, l_normal, l_exit, l_ret, l_iteN, ↓h_put_get, ↓h_new_get, ↓h_del_get, h_next_put, h_next_new, h_next_del, Nat.add_assoc, Nat.add_eq_left, Nat.left_eq_add, Nat.add_left_cancel_iff, ↓s_load, m_load, ↓m_load1, m_load1, ↓m_st, m_stE, m_storeI, m_storeE, w_zero, w_succ, ↓s_alloc, ↓x_idxA, ↓x_idxS, x_idxAE, x_idxSE, x_addrE, x_idx, x_lenS, ↓s_len, ↓x_buildS, x_buildE, ↓x_P0, ↓x_P1, x_fill0, x_filli, x_fills, x_fillb, c_int, List.length_cons, List.length_nil, List.cons_append, List.drop_succ_cons, List.drop_zero, List.drop_nil, List.nil_append, Int.reduceAdd, Int.reduceToNat, Int.reduceLT, Int.reduceLE, Nat.reduceAdd, Nat.reduceMul, Nat.reduceLeDiff, Int.reduceEq, Int.reduceSub, Int.cast_ofNat_Int, s_resc, s_consR, m_load4, m_store4, s_res0, ↓s_skip, ↓s_ops, ↓s_dops, ↓s_seq, ↓s_cond, ↓s_block, ↓s_exit, ↓s_ret, ↓s_scope, ↓s_nil, ↓s_op, ↓s_opg, ↓s_wanted', ↓s_wantV, s_wantV, s_wantV0, beq_true, beq_false, ↓s_bindS, s_bindS, ↓s_bindE, s_bindE, s_bindE_ret, s_bindE_exit, s_bindE_iteN, s_norm, ↓s_condV, s_condV, s_block_ret, s_block_normal, s_block_exit, s_block_iteN, ↓s_getp, ↓s_getp0, ↓s_get, s_get0, ↓s_con, ↓s_fn, ↓s_os0, ↓s_os1, ↓s_list0, ↓s_list1, ↓s_mov, ↓s_pick, ↓s_pickE, s_pickE, ↓s_bin, ↓s_un, ↓s_minmax, ↓s_call, ↓s_callv, ↓s_callV, ↓s_ext, s_same, b_eql, b_neq, b_lss, b_leq, b_gtr, b_geq, b_add, b_sub, b_mul, b_eqlb, b_neqb, b_fnil, b_fnil', b_fnil2, b_fnil2', u_neg, u_not, m_two, s_end, s_end', s_end_iteN, s_res0, s_res1, s_tup1, s_tup2, ↓iteN_true, ↓iteN_false, iteN_true, iteN_false, Nat.zero_add, List.nil_append, List.append_nil, Nat.reduceEqDiff, reduceIte, decide_true, decide_false, Bool.not_true, Bool.not_false, List.getElem?_cons_zero, List.getElem?_cons_succ, Bool.false_eq_true, if_true, if_false, beq_self_eq_true]
      exact rfl, ⟨il, (by (simp only [s_getp, s_getp0, Nat.reduceEqDiff, decide_false, decide_true, iteN_false, iteN_true, t0]; try rfl)), (by (simp only [s_getp, s_getp0, Nat.reduceEqDiff, decide_false, decide_true, iteN_false, iteN_true, t5]; try rfl)), (by (simp only [s_getp, s_getp0, Nat.reduceEqDiff, decide_false, decide_true, iteN_false, iteN_true, t6]; try rfl)), (by (simp only [s_getp, s_getp0, Nat.reduceEqDiff, decide_false, decide_true, iteN_false, iteN_true, t7]; try rfl)), g1, eq⟩⟩) l.length 0 (by omega) n hn T h I
theorem z16e : ofI .u32 (List.replicate 16 0) = [.int .u32 0, .int .u32 0, .int .u32 0, .int .u32 0, .int .u32 0, .int .u32 0, .int .u32 0, .int .u32 0, .int .u32 0, .int .u32 0, .int .u32 0, .int .u32 0, .int .u32 0, .int .u32 0, .int .u32 0, .int .u32 0] := rfl
theorem put16 (l : List Nat) (hl : l.length = 16) : (∀ (h : H) (i : Nat), storeV h 16 (.ptr (some (i, 0))) (.agg (ofI .u32 l)) = storeE (h.get i) h i 0 (ofI .u32 l)) ∧
    (∀ (h : H) (i : Nat), storeE (some (.cells (ofI .u32 (List.replicate 16 0)) .rw)) h i 0 (ofI .u32 l) = some (h.put i (.cells (ofI .u32 l) .rw))) := by
  have h32 : (ofI .u32 l).length = 16 := by rw [ofI_len, hl]
  exact ⟨fun h i => m_storeA h 16 i 0 _ (by rw [h32, plain_ofI]; rfl), fun h i => by rw [m_storeE _ _ _ _ _ (by rw [h32, ofI_len, List.length_replicate]; omega), writeN_all _ _ (by rw [h32, ofI_len, List.length_replicate])]⟩
structure EnCrc (E : Nat → Option Fn) : Prop where
  on : E k_crc_On = some f_crc_On
  hal : E k_crc_halves = some f_crc_halves
  hal1 : E k_crc_halves_1 = some f_crc_halves_1
  sum : E k_crc_Sum = some f_crc_Sum
structure NoCrc (X : Orc) : Prop where
  on : ∀ a h, X (.fn k_crc_On) a h = none
  hal : ∀ a h, X (.fn k_crc_halves) a h = none
  hal1 : ∀ a h, X (.fn k_crc_halves_1) a h = none
  sum : ∀ a h, X (.fn k_crc_Sum) a h = none
  yld : ∀ l a h, X (.yld l) a h = none
  steps : ∀ h, X (.fn k_crc_steps) [] h = some (.agg (ofI .u32 tab), h)
theorem halves_go (e : EnCrc E) (x : NoCrc X) (N : Nat) (v : V) (hv : v.cells = [v]) (h : H) :
    callX E X (N + 1) (.fn k_crc_halves) [v] h = some (.fn k_crc_halves_1 [] [.ptr (some (h.next, 0))], h.new (.cells [v] .rw)) := by
  rw [x_cfn e.hal _ _ (Nat.le_of_ble_eq_true rfl) (x.hal _ _)]
  simp (config := {maxSteps := 2000000}) (disch := first | omega | (simp only [List.length_cons, List.length_nil, List.length_append, List.length_drop]; omega)) only [hv, ↓s_box, ↓s_mkfn, ↓b_xor32, ↓b_and32, ↓b_or32, ↓u_not32, b_xor32, b_and32, b_or32, u_not32, w32ad, ↓x_conv, x_convV, ↓x_fieldAddr, x_fieldV, ↓s_nilchk, x_nilchk, Nat.zero_add, Nat.add_zero, Nat.mul_one, ↓l_loop, ↓l_succ, ↓l_normal, l_normal, l_exit, l_ret, l_iteN, ↓h_put_get, ↓h_new_get, ↓h_del_get, h_next_put, h_next_new, h_next_del, Nat.add_assoc, Nat.add_eq_left, Nat.left_eq_add, Nat.add_left_cancel_iff, ↓s_load, m_load, ↓m_load1, m_load1, ↓m_st, m_stE, m_storeI, m_storeE, w_zero, w_succ, ↓s_alloc, ↓x_idxA, ↓x_idxS, x_idxAE, x_idxSE, x_addrE, x_idx, x_lenS, ↓s_len, ↓x_buildS, x_buildE, ↓x_P0, ↓x_P1, x_fill0, x_filli, x_fills, x_fillb, c_int, List.length_cons, List.length_nil, List.cons_append, List.drop_succ_cons, List.drop_zero, List.drop_nil, List.nil_append, Int.reduceAdd, Int.reduceToNat, Int.reduceLT, Int.reduceLE, Nat.reduceAdd, Nat.reduceMul, Nat.reduceLeDiff, Int.reduceEq, Int.reduceSub, Int.cast_ofNat_Int, s_resc, s_consR, m_load4, m_store4, s_res0, ↓s_skip, ↓s_ops, ↓s_dops, ↓s_seq, ↓s_cond, ↓s_block, ↓s_exit, ↓s_ret, ↓s_scope, ↓s_nil, ↓s_op, ↓s_opg, ↓s_wanted', ↓s_wantV, s_wantV, s_wantV0, beq_true, beq_false, ↓s_bindS, s_bindS, ↓s_bindE, s_bindE, s_bindE_ret, s_bindE_exit, s_bindE_iteN, s_norm, ↓s_condV, s_condV, s_block_ret, s_block_normal, s_block_exit, s_block_iteN, ↓s_getp, ↓s_getp0, ↓s_get, s_get0, ↓s_con, ↓s_fn, ↓s_os0, ↓s_os1, ↓s_list0, ↓s_list1, ↓s_mov, ↓s_pick, ↓s_pickE, s_pickE, ↓s_bin, ↓s_un, ↓s_minmax, ↓s_call, ↓s_callv, ↓s_callV, ↓s_ext, s_same, b_eql, b_neq, b_lss, b_leq, b_gtr, b_geq, b_add, b_sub, b_mul, b_eqlb, b_neqb, b_fnil, b_fnil', b_fnil2, b_fnil2', u_neg, u_not, m_two, s_end, s_end', s_end_iteN, s_res0, s_res1, s_tup1, s_tup2, ↓iteN_true, ↓iteN_false, iteN_true, iteN_false, Nat.zero_add, List.nil_append, List.append_nil, Nat.reduceEqDiff, reduceIte, decide_true, decide_false, Bool.not_true, Bool.not_false, List.getElem?_cons_zero, List.getElem?_cons_succ, Bool.false_eq_true, if_true, if_false, beq_self_eq_true]
theorem halves1_go (e : EnCrc E) (x : NoCrc X) (M a0 : Nat) (T0 : Tr V) (h5 : evO T0 (.t 5) = .ptr (some (a0, 0))) (h6 : evO T0 (.t 6) = .ptr (some (a0 + 1, 0))) (a : Option (Nat × Nat)) (c : Option Nat) (ez : Nat) (l : List Nat) (r0 : Nat) (hr : r0 < 4294967296) (bl : byt l = true) (hl : l.length < 9223372036854775807) (hM : l.length < M) (h0 : H)
    (g0 : h0.get a0 = some (.cells (ofI .u32 tab) .rw)) (g1 : h0.get (a0 + 1) = some (.cells [.int .u32 (r0 : Int)] .rw)) (g2 : h0.get (a0 + 2) = some (.cells [.slice a l.length c ez] .rw)) (g4 : h0.get (a0 + 4) = some (.loop 0 none 31 T0 [14] A_crc_On_0 B_crc_On_0 (a0 + 3))) (src : SrcA a0 h0 a ez l) :
    ∃ h', callX E X (M + 9) (.fn k_crc_halves_1) [.yld (a0 + 4), .ptr (some (a0 + 2, 0))] h0 = some (.tup [], h') ∧ h'.get (a0 + 1) = some (.cells [.int .u32 (foldB r0 l : Nat)] .rw) ∧ Eqx (a0 + 1) h0 h' := by
  rw [x_cfn e.hal1 _ _ (Nat.le_of_ble_eq_true rfl) (x.hal1 _ _)]
  have fin : ∀ T, HV a0 a c ez l r0 h0 0 T h0 → ∃ h', fnEnd [] (blockE 0 (loopN (evC (callX E X (M + 8)) 24 (M + 8) none L_crc_halves_1_0) (M + 8) ⟨T, [], h0⟩)) = some (.tup [], h') ∧ h'.get (a0 + 1) = some (.cells [.int .u32 (foldB r0 l : Nat)] .rw) ∧ Eqx (a0 + 1) h0 h' := by
    intro T I
    obtain ⟨T', h', r, il, t0, t5, t6, t7, g1, eq⟩ := hv_loop x.yld (M + 7) (M + 8) a0 T0 h5 h6 a c ez l r0 hr bl hl (by omega) h0 g0 g4 src T h0 I
    rw [r]
    rw [List.take_length] at g1
    exact ⟨h', rfl, g1, eq⟩
  obtain ⟨Lo, eL⟩ : ∃ R, L_crc_halves_1_0 = R := ⟨_, rfl⟩
  rw [eL] at fin ⊢
  simp (config := {maxSteps := 2000000}) (disch := first | omega | (simp only [List.length_cons, List.length_nil, List.length_append, List.length_drop]; omega)) only [g2, ↓s_len, x_lenS, ↓b_xor32, ↓b_and32, ↓b_or32, ↓u_not32, b_xor32, b_and32, b_or32, u_not32, w32ad, ↓x_conv, x_convV, ↓x_fieldAddr, x_fieldV, ↓s_nilchk, x_nilchk, Nat.zero_add, Nat.add_zero, Nat.mul_one, ↓l_loop, ↓l_succ, ↓l_normal, l_normal, l_exit, l_ret, l_iteN, ↓h_put_get, ↓h_new_get, ↓h_del_get, h_next_put, h_next_new, h_next_del, Nat.add_assoc, Nat.add_eq_left, Nat.left_eq_add, Nat.add_left_cancel_iff, ↓s_load, m_load, ↓m_load1, m_load1, ↓m_st, m_stE, m_storeI, m_storeE, w_zero, w_succ, ↓s_alloc, ↓x_idxA, ↓x_idxS, x_idxAE, x_idxSE, x_addrE, x_idx, x_lenS, ↓s_len, ↓x_buildS, x_buildE, ↓x_P0, ↓x_P1, x_fill0, x_filli, x_fills, x_fillb, c_int, List.length_cons, List.length_nil, List.cons_append, List.drop_succ_cons, List.drop_zero, List.drop_nil, List.nil_append, Int.reduceAdd, Int.reduceToNat, Int.reduceLT, Int.reduceLE, Nat.reduceAdd, Nat.reduceMul, Nat.reduceLeDiff, Int.reduceEq, Int.reduceSub, Int.cast_ofNat_Int, s_resc, s_consR, m_load4, m_store4, s_res0, ↓s_skip, ↓s_ops, ↓s_dops, ↓s_seq, ↓s_cond, ↓s_block, ↓s_exit, ↓s_ret, ↓s_scope, ↓s_nil, ↓s_op, ↓s_opg, ↓s_wanted', ↓s_wantV, s_wantV, s_wantV0, beq_true, beq_false, ↓s_bindS, s_bindS, ↓s_bindE, s_bindE, s_bindE_ret, s_bindE_exit, s_bindE_iteN, s_norm, ↓s_condV, s_condV, s_block_ret, s_block_normal, s_block_exit, s_block_iteN, ↓s_getp, ↓s_getp0, ↓s_get, s_get0, ↓s_con, ↓s_fn, ↓s_os0, ↓s_os1, ↓s_list0, ↓s_list1, ↓s_mov, ↓s_pick, ↓s_pickE, s_pickE, ↓s_bin, ↓s_un, ↓s_minmax, ↓s_call, ↓s_callv, ↓s_callV, ↓s_ext, s_same, b_eql, b_neq, b_lss, b_leq, b_gtr, b_geq, b_add, b_sub, b_mul, b_eqlb, b_neqb, b_fnil, b_fnil', b_fnil2, b_fnil2', u_neg, u_not, m_two, s_end, s_end', s_end_iteN, s_res0, s_res1, s_tup1, s_tup2, ↓iteN_true, ↓iteN_false, iteN_true, iteN_false, Nat.zero_add, List.nil_append, List.append_nil, Nat.reduceEqDiff, reduceIte, decide_true, decide_false, Bool.not_true, Bool.not_false, List.getElem?_cons_zero, List.getElem?_cons_succ, Bool.false_eq_true, if_true, if_false, beq_self_eq_true]
  exact fin _ ⟨by omega, (by (simp only [s_getp, s_getp0, Nat.reduceEqDiff, decide_false, decide_true, iteN_false, iteN_true, eL]; try rfl)), (by (simp only [s_getp, s_getp0, Nat.reduceEqDiff, decide_false, decide_true, iteN_false, iteN_true, eL]; try rfl)), (by (simp only [s_getp, s_getp0, Nat.reduceEqDiff, decide_false, decide_true, iteN_false, iteN_true, eL]; try rfl)), (by (simp only [s_getp, s_getp0, Nat.reduceEqDiff, decide_false, decide_true, iteN_false, iteN_true, eL]; try rfl)), g1, Eqx.refl _ _⟩
theorem on_go (e : EnCrc E) (x : NoCrc X) (M s : Nat) (hs : s < 4294967296) (l : List Nat) (bl : byt l = true) (hM : l.length < M) (hM2 : l.length < 9223372036854775807) (a : Option (Nat × Nat)) (c : Option Nat) (ez : Nat) (h : H) (src : SrcH h a ez l) :
    ∃ h', callX E X (M + 10) (.fn k_crc_On) [.int .u32 (s : Int), .slice a l.length c ez] h = some (.int .u32 (onV s l : Nat), h') ∧ Kp h h' := by
  rw [x_cfn e.on _ _ (Nat.le_of_ble_eq_true rfl) (x.on _ _)]
  have st := fun h => x_known (E := E) (n := M + 8) (x.steps h)
  have hg := fun h => halves_go e x (M + 8) (.slice a l.length c ez) rfl h
  obtain ⟨p1, p2⟩ := put16 tab rfl
  obtain ⟨hA, eA⟩ : ∃ hA, ((((h.new (.cells (ofI .u32 (List.replicate 16 0)) .rw)).put h.next (.cells (ofI .u32 tab) .rw)).new (.cells [.int .u32 0] .rw)).put (h.next + 1) (.cells [.int .u32 (nt s : Nat)] .rw)).new (.cells [.slice a l.length c ez] .rw) = hA := ⟨_, rfl⟩
  have nA : hA.next = h.next + 3 := by rw [← eA]; rfl
  have gA0 : hA.get h.next = some (.cells (ofI .u32 tab) .rw) := by rw [← eA]; (simp (disch := omega) only [l_loop, l_succ, l_normal, l_normal, l_exit, l_ret, l_iteN, h_put_get, h_new_get, h_del_get, h_next_put, h_next_new, h_next_del, Nat.add_assoc, Nat.add_eq_left, Nat.left_eq_add, Nat.add_left_cancel_iff, s_load, m_load, m_load1, m_load1, m_st, m_stE, m_storeI, m_storeE, w_zero, w_succ, s_alloc, x_idxA, x_idxS, x_idxAE, x_idxSE, x_addrE, x_idx, x_lenS, s_len, x_buildS, x_buildE, x_P0, x_P1, x_fill0, x_filli, x_fills, x_fillb, c_int, List.length_cons, List.length_nil, List.cons_append, List.drop_succ_cons, List.drop_zero, List.drop_nil, List.nil_append, Int.reduceAdd, Int.reduceToNat, Int.reduceLT, Int.reduceLE, Nat.reduceAdd, Nat.reduceMul, Nat.reduceLeDiff, Int.reduceEq, Int.reduceSub, Int.cast_ofNat_Int, s_resc, s_consR, m_load4, m_store4, s_res0, decide_true, decide_false, iteN_true, iteN_false, Nat.reduceEqDiff, Nat.reduceAdd, reduceCtorEq, ]; try rfl)
  have gA1 : hA.get (h.next + 1) = some (.cells [.int .u32 (nt s : Nat)] .rw) := by rw [← eA]; (simp (disch := omega) only [l_loop, l_succ, l_normal, l_normal, l_exit, l_ret, l_iteN, h_put_get, h_new_get, h_del_get, h_next_put, h_next_new, h_next_del, Nat.add_assoc, Nat.add_eq_left, Nat.left_eq_add, Nat.add_left_cancel_iff, s_load, m_load, m_load1, m_load1, m_st, m_stE, m_storeI, m_storeE, w_zero, w_succ, s_alloc, x_idxA, x_idxS, x_idxAE, x_idxSE, x_addrE, x_idx, x_lenS, s_len, x_buildS, x_buildE, x_P0, x_P1, x_fill0, x_filli, x_fills, x_fillb, c_int, List.length_cons, List.length_nil, List.cons_append, List.drop_succ_cons, List.drop_zero, List.drop_nil, List.nil_append, Int.reduceAdd, Int.reduceToNat, Int.reduceLT, Int.reduceLE, Nat.reduceAdd, Nat.reduceMul, Nat.reduceLeDiff, Int.reduceEq, Int.reduceSub, Int.cast_ofNat_Int, s_resc, s_consR, m_load4, m_store4, s_res0, decide_true, decide_false, iteN_true, iteN_false, Nat.reduceEqDiff, Nat.reduceAdd, reduceCtorEq, ]; try rfl)
  have gA2 : hA.get (h.next + 2) = some (.cells [.slice a l.length c ez] .rw) := by rw [← eA]; (simp (disch := omega) only [l_loop, l_succ, l_normal, l_normal, l_exit, l_ret, l_iteN, h_put_get, h_new_get, h_del_get, h_next_put, h_next_new, h_next_del, Nat.add_assoc, Nat.add_eq_left, Nat.left_eq_add, Nat.add_left_cancel_iff, s_load, m_load, m_load1, m_load1, m_st, m_stE, m_storeI, m_storeE, w_zero, w_succ, s_alloc, x_idxA, x_idxS, x_idxAE, x_idxSE, x_addrE, x_idx, x_lenS, s_len, x_buildS, x_buildE, x_P0, x_P1, x_fill0, x_filli, x_fills, x_fillb, c_int, List.length_cons, List.length_nil, List.cons_append, List.drop_succ_cons, List.drop_zero, List.drop_nil, List.nil_append, Int.reduceAdd, Int.reduceToNat, Int.reduceLT, Int.reduceLE, Nat.reduceAdd, Nat.reduceMul, Nat.reduceLeDiff, Int.reduceEq, Int.reduceSub, Int.cast_ofNat_Int, s_resc, s_consR, m_load4, m_store4, s_res0, decide_true, decide_false, iteN_true, iteN_false, Nat.reduceEqDiff, Nat.reduceAdd, reduceCtorEq, ]; try rfl)
  have kA : Kp h hA := by rw [← eA]; (repeat (first | exact Kp.refl _ | refine Kp.put ?_ _ (by first | omega | (simp only [h_next_put, h_next_new, h_next_del]; omega)) | refine Kp.del ?_ (by first | omega | (simp only [h_next_put, h_next_new, h_next_del]; omega)) | refine Kp.trans ?_ (Kp.new _ _)))
  have fin : ∀ T0, evO T0 (.t 5) = .ptr (some (h.next, 0)) → evO T0 (.t 6) = .ptr (some (h.next + 1, 0)) → ∃ h', fnEnd [.tmp 4] (bindE (blockE 0 (rangeEnd (h.next + 4) T0 [h.next + 3] (callF (callX E X (M + 9)) (.yld (h.next + 4)) (.fn k_crc_halves_1 [] [.ptr (some (h.next + 2, 0))]) ((hA.new .defers).new (.loop 0 none 31 T0 [14] A_crc_On_0 B_crc_On_0 (h.next + 3)))))) (evC (callX E X (M + 9)) 31 (M + 9) none R_crc_On_0)) = some (.int .u32 (onV s l : Nat), h') ∧ Kp h h' := by
    intro T0 t5 t6
    obtain ⟨hB, eB⟩ : ∃ hB, (hA.new .defers).new (.loop 0 none 31 T0 [14] A_crc_On_0 B_crc_On_0 (h.next + 3)) = hB := ⟨_, rfl⟩
    have nB : hB.next = h.next + 5 := by rw [← eB]; simp only [h_next_new, nA]
    have kB : Kp hA hB := by rw [← eB]; exact (Kp.new _ _).trans (Kp.new _ _)
    have gB3 : hB.get (h.next + 3) = some .defers := by rw [← eB, h_new_ne _ _ (by rw [h_next_new, nA]; omega)]; exact h_new_same' _ _ nA
    have gB4 : hB.get (h.next + 4) = some (.loop 0 none 31 T0 [14] A_crc_On_0 B_crc_On_0 (h.next + 3)) := by rw [← eB]; exact h_new_same' _ _ (by rw [h_next_new, nA])
    have gB0 : hB.get h.next = some (.cells (ofI .u32 tab) .rw) := by rw [kB.2 _ (by omega), gA0]
    have gB1 : hB.get (h.next + 1) = some (.cells [.int .u32 (nt s : Nat)] .rw) := by rw [kB.2 _ (by omega), gA1]
    have gB2 : hB.get (h.next + 2) = some (.cells [.slice a l.length c ez] .rw) := by rw [kB.2 _ (by omega), gA2]
    have sB : SrcA h.next hB a ez l := by
      rcases src with h0 | ⟨bi, off, vs, m, h1, h2, h3, h4, h5, h6⟩
      · exact .inl h0
      · refine .inr ⟨bi, off, vs, m, h1, h2, by omega, by rw [kB.2 _ (by omega), kA.2 _ h3, h4], fun i hi => ?_⟩
        have : ((vs.drop off).take l.length)[i]? = (ofI .u8 l)[i]? := by rw [h6]
        rw [List.getElem?_take_of_lt hi, List.getElem?_drop, ofI_get _ _ _ hi] at this
        exact this
    obtain ⟨hC, r, gC, eC⟩ := halves1_go e x M h.next T0 t5 t6 a c ez l (nt s) (nt_lt s) bl hM2 hM hB gB0 gB1 gB2 gB4 sB
    have gC3 : hC.get (h.next + 3) = some .defers := by rw [eC.2 _ (by omega), gB3]
    have gC4 : hC.get (h.next + 4) = some (.loop 0 none 31 T0 [14] A_crc_On_0 B_crc_On_0 (h.next + 3)) := by rw [eC.2 _ (by omega), gB4]
    have z1 : (h.next + 4 = h.next + 1) = False := by simp
    have z2 : (h.next + 4 = h.next + 3) = False := by simp
    have z3 : (h.next + 3 = h.next + 1) = False := by simp
    rw [eB]
    simp (config := {maxSteps := 2000000}) (disch := first | omega | (simp only [List.length_cons, List.length_nil, List.length_append, List.length_drop]; omega)) only [s_callF, List.nil_append, List.cons_append, r, t5, t6, gC, gC3, gC4, z1, z2, z3, R_crc_On_0, e_tup0, r_end, r_0, r_jn, e_ret, d_cons, d_yes, d_nil, e_some, ↓b_xor32, ↓b_and32, ↓b_or32, ↓u_not32, b_xor32, b_and32, b_or32, u_not32, w32ad, ↓x_conv, x_convV, ↓x_fieldAddr, x_fieldV, ↓s_nilchk, x_nilchk, Nat.zero_add, Nat.add_zero, Nat.mul_one, ↓l_loop, ↓l_succ, ↓l_normal, l_normal, l_exit, l_ret, l_iteN, ↓h_put_get, ↓h_new_get, ↓h_del_get, h_next_put, h_next_new, h_next_del, Nat.add_assoc, Nat.add_eq_left, Nat.left_eq_add, Nat.add_left_cancel_iff, ↓s_load, m_load, ↓m_load1, m_load1, ↓m_st, m_stE, m_storeI, m_storeE, w_zero, w_succ, ↓s_alloc, ↓x_idxA, ↓x_idxS, x_idxAE, x_idxSE, x_addrE, x_idx, x_lenS, ↓s_len, ↓x_buildS, x_buildE, ↓x_P0, ↓x_P1, x_fill0, x_filli, x_fills, x_fillb, c_int, List.length_cons, List.length_nil, List.cons_append, List.drop_succ_cons, List.drop_zero, List.drop_nil, List.nil_append, Int.reduceAdd, Int.reduceToNat, Int.reduceLT, Int.reduceLE, Nat.reduceAdd, Nat.reduceMul, Nat.reduceLeDiff, Int.reduceEq, Int.reduceSub, Int.cast_ofNat_Int, s_resc, s_consR, m_load4, m_store4, s_res0, ↓s_skip, ↓s_ops, ↓s_dops, ↓s_seq, ↓s_cond, ↓s_block, ↓s_exit, ↓s_ret, ↓s_scope, ↓s_nil, ↓s_op, ↓s_opg, ↓s_wanted', ↓s_wantV, s_wantV, s_wantV0, beq_true, beq_false, ↓s_bindS, s_bindS, ↓s_bindE, s_bindE, s_bindE_ret, s_bindE_exit, s_bindE_iteN, s_norm, ↓s_condV, s_condV, s_block_ret, s_block_normal, s_block_exit, s_block_iteN, ↓s_getp, ↓s_getp0, ↓s_get, s_get0, ↓s_con, ↓s_fn, ↓s_os0, ↓s_os1, ↓s_list0, ↓s_list1, ↓s_mov, ↓s_pick, ↓s_pickE, s_pickE, ↓s_bin, ↓s_un, ↓s_minmax, ↓s_call, ↓s_callv, ↓s_callV, ↓s_ext, s_same, b_eql, b_neq, b_lss, b_leq, b_gtr, b_geq, b_add, b_sub, b_mul, b_eqlb, b_neqb, b_fnil, b_fnil', b_fnil2, b_fnil2', u_neg, u_not, m_two, s_end, s_end', s_end_iteN, s_res0, s_res1, s_tup1, s_tup2, ↓iteN_true, ↓iteN_false, iteN_true, iteN_false, Nat.zero_add, List.nil_append, List.append_nil, Nat.reduceEqDiff, reduceIte, decide_true, decide_false, Bool.not_true, Bool.not_false, List.getElem?_cons_zero, List.getElem?_cons_succ, Bool.false_eq_true, if_true, if_false, beq_self_eq_true]
    refine ⟨_, rfl, ⟨by simp only [h_next_del]; rw [eC.1, nB]; omega, fun i hi => ?_⟩⟩
    rw [h_del_ne _ (by omega), h_del_ne _ (by omega), eC.2 _ (by omega), kB.2 _ (by omega), kA.2 _ hi]
  obtain ⟨R, eR⟩ : ∃ R, R_crc_On_0 = R := ⟨_, rfl⟩
  obtain ⟨TB, eTB⟩ : ∃ R, ofI .u32 tab = R := ⟨_, rfl⟩
  rw [eTB] at p1 p2 st eA
  rw [eR] at fin ⊢
  simp (config := {maxSteps := 2000000}) (disch := first | omega | (simp only [List.length_cons, List.length_nil, List.length_append, List.length_drop]; omega)) only [st, hg, p1, p2, ← z16e, eA, nA, ↓s_box, ↓s_range, c_ptr, ↓b_xor32, ↓b_and32, ↓b_or32, ↓u_not32, b_xor32, b_and32, b_or32, u_not32, w32ad, ↓x_conv, x_convV, ↓x_fieldAddr, x_fieldV, ↓s_nilchk, x_nilchk, Nat.zero_add, Nat.add_zero, Nat.mul_one, ↓l_loop, ↓l_succ, ↓l_normal, l_normal, l_exit, l_ret, l_iteN, ↓h_put_get, ↓h_new_get, ↓h_del_get, h_next_put, h_next_new, h_next_del, Nat.add_assoc, Nat.add_eq_left, Nat.left_eq_add, Nat.add_left_cancel_iff, ↓s_load, m_load, ↓m_load1, m_load1, ↓m_st, m_stE, m_storeI, m_storeE, w_zero, w_succ, ↓s_alloc, ↓x_idxA, ↓x_idxS, x_idxAE, x_idxSE, x_addrE, x_idx, x_lenS, ↓s_len, ↓x_buildS, x_buildE, ↓x_P0, ↓x_P1, x_fill0, x_filli, x_fills, x_fillb, c_int, List.length_cons, List.length_nil, List.cons_append, List.drop_succ_cons, List.drop_zero, List.drop_nil, List.nil_append, Int.reduceAdd, Int.reduceToNat, Int.reduceLT, Int.reduceLE, Nat.reduceAdd, Nat.reduceMul, Nat.reduceLeDiff, Int.reduceEq, Int.reduceSub, Int.cast_ofNat_Int, s_resc, s_consR, m_load4, m_store4, s_res0, ↓s_skip, ↓s_ops, ↓s_dops, ↓s_seq, ↓s_cond, ↓s_block, ↓s_exit, ↓s_ret, ↓s_scope, ↓s_nil, ↓s_op, ↓s_opg, ↓s_wanted', ↓s_wantV, s_wantV, s_wantV0, beq_true, beq_false, ↓s_bindS, s_bindS, ↓s_bindE, s_bindE, s_bindE_ret, s_bindE_exit, s_bindE_iteN, s_norm, ↓s_condV, s_condV, s_block_ret, s_block_normal, s_block_exit, s_block_iteN, ↓s_getp, ↓s_getp0, ↓s_get, s_get0, ↓s_con, ↓s_fn, ↓s_os0, ↓s_os1, ↓s_list0, ↓s_list1, ↓s_mov, ↓s_pick, ↓s_pickE, s_pickE, ↓s_bin, ↓s_un, ↓s_minmax, ↓s_call, ↓s_callv, ↓s_callV, ↓s_ext, s_same, b_eql, b_neq, b_lss, b_leq, b_gtr, b_geq, b_add, b_sub, b_mul, b_eqlb, b_neqb, b_fnil, b_fnil', b_fnil2, b_fnil2', u_neg, u_not, m_two, s_end, s_end', s_end_iteN, s_res0, s_res1, s_tup1, s_tup2, ↓iteN_true, ↓iteN_false, iteN_true, iteN_false, Nat.zero_add, List.nil_append, List.append_nil, Nat.reduceEqDiff, reduceIte, decide_true, decide_false, Bool.not_true, Bool.not_false, List.getElem?_cons_zero, List.getElem?_cons_succ, Bool.false_eq_true, if_true, if_false, beq_self_eq_true]
  exact fin _ (by (simp only [s_getp, s_getp0, Nat.reduceEqDiff, decide_false, decide_true, iteN_false, iteN_true, nA]; try rfl)) (by (simp only [s_getp, s_getp0, Nat.reduceEqDiff, decide_false, decide_true, iteN_false, iteN_true, nA]; try rfl))
end Go.Eng
namespace Go.Eng
open Go
variable {E : Nat → Option Fn} {X : Orc}
set_option linter.unusedSimpArgs false
set_option linter.unusedVariables false
def sumV (s : Nat) (ps : List Pt) : Nat := ps.foldl (fun s q => onV s q.2.2.2) s
theorem sumV_lt : ∀ (ps : List Pt) (s : Nat), s < 4294967296 → sumV s ps < 4294967296 := by
  intro ps
  induction ps with
  | nil => intro s h; exact h
  | cons a r ih => intro s h; exact ih _ (onV_lt _ _)
theorem sumV_app (s : Nat) (a b : List Pt) : sumV s (a ++ b) = sumV (sumV s a) b := List.foldl_append
def PtsOk (h : H) (M : Nat) (ps : List Pt) : Prop := ∀ q ∈ ps, SrcH h q.1 q.2.2.1 q.2.2.2 ∧ byt q.2.2.2 = true ∧ q.2.2.2.length < M ∧ q.2.2.2.length < 9223372036854775807
theorem PtsOk.mono {h h' : H} {M : Nat} {ps : List Pt} (o : PtsOk h M ps) (k : Kp h h') : PtsOk h' M ps := fun q hq => ⟨(o q hq).1.mono k, (o q hq).2⟩
structure SV (p : Nat) (ps : List Pt) (h0 : H) (i : Nat) (T : Tr V) (h : H) : Prop where
  il : i ≤ ps.length
  t3 : evO T (.t 3) = .int .u32 (sumV 0 (ps.take i) : Nat)
  t6 : ∃ c, evO T (.t 6) = .slice (some (p, 0)) ps.length c 1
  t7 : evO T (.t 7) = .int .i64 (ps.length : Int)
  t8 : evO T (.t 8) = .int .i64 (i : Int)
  kp : Kp h0 h
theorem sv_step (e : EnCrc E) (x : NoCrc X) (M n p : Nat) (ps : List Pt) (hl : ps.length < 9223372036854775807) (md : Md) (h0 : H) (hp : p < h0.next) (gp : h0.get p = some (.cells (ps.map slOf) md)) (ok : PtsOk h0 (M + 1) ps) :
    ∀ i T h, i < ps.length → SV p ps h0 i T h → ∃ T' h', evC (callX E X (M + 11)) 17 n none L_crc_Sum_0 ⟨T, [], h⟩ = some (.normal, ⟨T', [], h'⟩) ∧ SV p ps h0 (i + 1) T' h' := by
  intro i T h hi ⟨_, t3, ⟨c, t6⟩, t7, t8, kp⟩
  have c0 : decide ((i : Int) < (ps.length : Int)) = true := decide_eq_true (by omega)
  have wi : wr .i64 ((i : Int) + 1) = ((i + 1 : Nat) : Int) := by rw [wr_i64 (by omega)]; omega
  have ix : idx (i : Int) ps.length = some i := idxn hi
  have gp' : h.get p = some (.cells (ps.map slOf) md) := by rw [kp.2 _ hp, gp]
  obtain ⟨q, eq⟩ : ∃ q, ps[i] = q := ⟨_, rfl⟩
  have cg : (ps.map slOf)[0 + i]? = some (.slice q.1 q.2.2.2.length q.2.1 q.2.2.1) := by rw [Nat.zero_add, List.getElem?_map, List.getElem?_eq_getElem hi, eq]; rfl
  rw [Nat.zero_add] at cg
  obtain ⟨o1, o2, o3, o4⟩ := ok q (by rw [← eq]; exact List.getElem_mem hi)
  have hs := sumV_lt (ps.take i) 0 (by omega)
  obtain ⟨h1, r1, k1⟩ := on_go e x (M + 1) (sumV 0 (ps.take i)) hs q.2.2.2 o2 o3 o4 q.1 q.2.1 q.2.2.1 h (o1.mono kp)
  have fo : sumV 0 (ps.take (i + 1)) = onV (sumV 0 (ps.take i)) q.2.2.2 := by
    rw [List.take_add_one, List.getElem?_eq_getElem hi, eq, sumV_app]; rfl
  rw [show M + 1 + 10 = M + 11 from rfl] at r1
  generalize sumV 0 (ps.take i) = s at *
  obtain ⟨C, eC⟩ : ∃ C, ps.map slOf = C := ⟨_, rfl⟩
  rw [eC] at gp' cg
  refine ⟨_, _, by
    simp (config := {maxSteps := 2000000}) (disch := first | omega | (simp only [List.length_cons, List.length_nil, List.length_append, List.length_drop]; omega)) only [L_crc_Sum_0, t3, t6, t7, t8, gp', cg, c0, wi, ix, r1, ↓b_xor32, ↓b_and32, ↓b_or32, ↓u_not32, b_xor32, b_and32, b_or32, u_not32, w32ad, ↓x_conv, x_convV, ↓x_fieldAddr, x_fieldV, ↓s_nilchk, x_nilchk, Nat.zero_add, Nat.add_zero, Nat.mul_one, ↓l_loop, ↓l_succ, ↓l_normal, l_normal, l_exit, l_ret, l_iteN, ↓h_put_get, ↓h_new_get, ↓h_del_get, h_next_put, h_next_new, h_next_del, Nat.add_assoc, Nat.add_eq_left, Nat.left_eq_add, Nat.add_left_cancel_iff, ↓s_load, m_load, ↓m_load1, m_load1, ↓m_st, m_stE, m_storeI, m_storeE, w_zero, w_succ, ↓s_alloc, ↓x_idxA, ↓x_idxS, x_idxAE, x_idxSE, x_addrE, x_idx, x_lenS, ↓s_len, ↓x_buildS, x_buildE, ↓x_P0, ↓x_P1, x_fill0, x_filli, x_fills, x_fillb, c_int, List.length_cons, List.length_nil, List.cons_append, List.drop_succ_cons, List.drop_zero, List.drop_nil, List.nil_append, Int.reduceAdd, Int.reduceToNat, Int.reduceLT, Int.reduceLE, Nat.reduceAdd, Nat.reduceMul, Nat.reduceLeDiff, Int.reduceEq, Int.reduceSub, Int.cast_ofNat_Int, s_resc, s_consR, m_load4, m_store4, s_res0, ↓s_skip, ↓s_ops, ↓s_dops, ↓s_seq, ↓s_cond, ↓s_block, ↓s_exit, ↓s_ret, ↓s_scope, ↓s_nil, ↓s_op, ↓s_opg, ↓s_wanted', ↓s_wantV, s_wantV, s_wantV0, beq_true, beq_false, ↓s_bindS, s_bindS, ↓s_bindE, s_bindE, s_bindE_ret, s_bindE_exit, s_bindE_iteN, s_norm, ↓s_condV, s_condV, s_block_ret, s_block_normal, s_block_exit, s_block_iteN, ↓s_getp, ↓s_getp0, ↓s_get, s_get0, ↓s_con, ↓s_fn, ↓s_os0, ↓s_os1, ↓s_list0, ↓s_list1, ↓s_mov, ↓s_pick, ↓s_pickE, s_pickE, ↓s_bin, ↓s_un, ↓s_minmax, ↓s_call, ↓s_callv, ↓s_callV, ↓s_ext, s_same, b_eql, b_neq, b_lss, b_leq, b_gtr, b_geq, b_add, b_sub, b_mul, b_eqlb, b_neqb, b_fnil, b_fnil', b_fnil2, b_fnil2', u_neg, u_not, m_two, s_end, s_end', s_end_iteN, s_res0, s_res1, s_tup1, s_tup2, ↓iteN_true, ↓iteN_false, iteN_true, iteN_false, Nat.zero_add, List.nil_append, List.append_nil, Nat.reduceEqDiff, reduceIte, decide_true, decide_false, Bool.not_true, Bool.not_false, List.getElem?_cons_zero, List.getElem?_cons_succ, Bool.false_eq_true, if_true, if_false, beq_self_eq_true]
    exact rfl, ⟨by omega, by rw [fo]; exact (by (simp only [s_getp, s_getp0, Nat.reduceEqDiff, decide_false, decide_true, iteN_false, iteN_true, t3]; try rfl)), ⟨c, (by (simp only [s_getp, s_getp0, Nat.reduceEqDiff, decide_false, decide_true, iteN_false, iteN_true, t6]; try rfl))⟩, (by (simp only [s_getp, s_getp0, Nat.reduceEqDiff, decide_false, decide_true, iteN_false, iteN_true, t7]; try rfl)), (by (simp only [s_getp, s_getp0, Nat.reduceEqDiff, decide_false, decide_true, iteN_false, iteN_true, t8]; try rfl)), kp.trans k1⟩⟩
theorem sv_loop (e : EnCrc E) (x : NoCrc X) (M n p : Nat) (ps : List Pt) (hl : ps.length < 9223372036854775807) (hn : ps.length < n) (md : Md) (h0 : H) (hp : p < h0.next) (gp : h0.get p = some (.cells (ps.map slOf) md)) (ok : PtsOk h0 (M + 1) ps)
    (T : Tr V) (h : H) (I : SV p ps h0 0 T h) : ∃ T' h', loopN (evC (callX E X (M + 11)) 17 n none L_crc_Sum_0) n ⟨T, [], h⟩ = some (.exit 0, ⟨T', [], h'⟩) ∧ SV p ps h0 ps.length T' h' :=
  loop_go (SV p ps h0) ps.length (.exit 0) (by intro h; cases h) _ (sv_step e x M n p ps hl md h0 hp gp ok) (fun T h I => by
    obtain ⟨il, t3, ⟨c, t6⟩, t7, t8, kp⟩ := I
    have c0 : decide ((ps.length : Int) < (ps.length : Int)) = false := decide_eq_false (by omega)
    refine ⟨_, _, by
      simp (config := {maxSteps := 2000000}) (disch := first | omega | (simp only [List.length_cons, List.length_nil, List.length_append, List.length_drop]; omega)) only [L_crc_Sum_0, t7, t8, c0, ↓b_xor32, ↓b_and32, ↓b_or32, ↓u_not32, b_xor32, b_and32, b_or32, u_not32, w32ad, ↓x_conv, x_convV, ↓x_fieldAddr, x_fieldV, ↓s_nilchk, x_nilchk, Nat.zero_add, Nat.add_zero, Nat.mul_one, ↓l_loop, ↓l_succ, ↓l_normal, l_normal, l_exit, l_ret, l_iteN, ↓h_put_get, ↓h_new_get, ↓h_del_get, h_next_put, h_next_new, h_next_del, Nat.add_assoc, Nat.add_eq_left, Nat.left_eq_add, Nat.add_left_cancel_iff, ↓s_load, m_load, ↓m_load1, m_load1, ↓m_st, m_stE, m_storeI, m_storeE, w_zero, w_succ, ↓s_alloc, ↓x_idxA, ↓x_idxS, x_idxAE, x_idxSE, x_addrE, x_idx, x_lenS, ↓s_len, ↓x_buildS, x_buildE, ↓x_P0, ↓x_P1, x_fill0, x_filli, x_fills, x_fillb, c_int, List.length_cons, List.length_nil, List.cons_append, List.drop_succ_cons, List.drop_zero, List.drop_nil, List.nil_append, Int.reduceAdd, Int.reduceToNat, Int.reduceLT, Int.reduceLE, Nat.reduceAdd, Nat.reduceMul, Nat.reduceLeDiff, Int.reduceEq, Int.reduceSub, Int.cast_ofNat_Int, s_resc, s_consR, m_load4, m_store4, s_res0, ↓s_skip, ↓s_ops, ↓s_dops, ↓s_seq, ↓s_cond, ↓s_block, ↓s_exit, ↓s_ret, ↓s_scope, ↓s_nil, ↓s_op, ↓s_opg, ↓s_wanted', ↓s_wantV, s_wantV, s_wantV0, beq_true, beq_false, ↓s_bindS, s_bindS, ↓s_bindE, s_bindE, s_bindE_ret, s_bindE_exit, s_bindE_iteN, s_norm, ↓s_condV, s_condV, s_block_ret, s_block_normal, s_block_exit, s_block_iteN, ↓s_getp, ↓s_getp0, ↓s_get, s_get0, ↓s_con, ↓s_fn, ↓s_os0, ↓s_os1, ↓s_list0, ↓s_list1, ↓s_mov, ↓s_pick, ↓s_pickE, s_pickE, ↓s_bin, ↓s_un, ↓s_minmax, ↓s_call, ↓s_callv, ↓s_callV, ↓s_ext, s_same, b_eql, b_neq, b_lss, b_leq, b_gtr, b_geq, b_add, b_sub, b_mul, b_eqlb, b_neqb, b_fnil, b_fnil', b_fnil2, b_fnil2', u_neg, u_not, m_two, s_end, s_end', s_end_iteN, s_res0, s_res1, s_tup1, s_tup2, ↓iteN_true, ↓iteN_false, iteN_true, iteN_false, Nat.zero_add, List.nil_append, List.append_nil, Nat.reduceEqDiff, reduceIte, decide_true, decide_false, Bool.not_true, Bool.not_false, List.getElem?_cons_zero, List.getElem?_cons_succ, Bool.false_eq_true, if_true, if_false, beq_self_eq_true]
      exact rfl, ⟨il, (by (simp only [s_getp, s_getp0, Nat.reduceEqDiff, decide_false, decide_true, iteN_false, iteN_true, t3]; try rfl)), ⟨c, (by (simp only [s_getp, s_getp0, Nat.reduceEqDiff, decide_false, decide_true, iteN_false, iteN_true, t6]; try rfl))⟩, (by (simp only [s_getp, s_getp0, Nat.reduceEqDiff, decide_false, decide_true, iteN_false, iteN_true, t7]; try rfl)), (by (simp only [s_getp, s_getp0, Nat.reduceEqDiff, decide_false, decide_true, iteN_false, iteN_true, t8]; try rfl)), kp⟩⟩) ps.length 0 (by omega) n hn T h I
theorem sum_go (e : EnCrc E) (x : NoCrc X) (M p : Nat) (ps : List Pt) (c : Option Nat) (hl : ps.length < M) (hl2 : ps.length < 9223372036854775807) (md : Md) (h : H) (hp : p < h.next) (gp : h.get p = some (.cells (ps.map slOf) md)) (ok : PtsOk h (M + 1) ps) :
    ∃ h', callX E X (M + 12) (.fn k_crc_Sum) [.slice (some (p, 0)) ps.length c 1] h = some (.int .u32 (sumV 0 ps : Nat), h') ∧ Kp h h' := by
  rw [x_cfn e.sum _ _ (Nat.le_of_ble_eq_true rfl) (x.sum _ _)]
  have fin : ∀ T, SV p ps h 0 T h → ∃ h', fnEnd [.tmp 2] (bindE (blockE 0 (loopN (evC (callX E X (M + 11)) 17 (M + 11) none L_crc_Sum_0) (M + 11) ⟨T, [], h⟩)) (evC (callX E X (M + 11)) 17 (M + 11) none R_crc_Sum_0)) = some (.int .u32 (sumV 0 ps : Nat), h') ∧ Kp h h' := by
    intro T I
    obtain ⟨T', h1, r, il, t3, t6, t7, t8, kp⟩ := sv_loop e x M (M + 11) p ps hl2 (by omega) md h hp gp ok T h I
    rw [r]
    rw [List.take_length] at t3
    simp (config := {maxSteps := 2000000}) (disch := first | omega | (simp only [List.length_cons, List.length_nil, List.length_append, List.length_drop]; omega)) only [R_crc_Sum_0, t3, ↓b_xor32, ↓b_and32, ↓b_or32, ↓u_not32, b_xor32, b_and32, b_or32, u_not32, w32ad, ↓x_conv, x_convV, ↓x_fieldAddr, x_fieldV, ↓s_nilchk, x_nilchk, Nat.zero_add, Nat.add_zero, Nat.mul_one, ↓l_loop, ↓l_succ, ↓l_normal, l_normal, l_exit, l_ret, l_iteN, ↓h_put_get, ↓h_new_get, ↓h_del_get, h_next_put, h_next_new, h_next_del, Nat.add_assoc, Nat.add_eq_left, Nat.left_eq_add, Nat.add_left_cancel_iff, ↓s_load, m_load, ↓m_load1, m_load1, ↓m_st, m_stE, m_storeI, m_storeE, w_zero, w_succ, ↓s_alloc, ↓x_idxA, ↓x_idxS, x_idxAE, x_idxSE, x_addrE, x_idx, x_lenS, ↓s_len, ↓x_buildS, x_buildE, ↓x_P0, ↓x_P1, x_fill0, x_filli, x_fills, x_fillb, c_int, List.length_cons, List.length_nil, List.cons_append, List.drop_succ_cons, List.drop_zero, List.drop_nil, List.nil_append, Int.reduceAdd, Int.reduceToNat, Int.reduceLT, Int.reduceLE, Nat.reduceAdd, Nat.reduceMul, Nat.reduceLeDiff, Int.reduceEq, Int.reduceSub, Int.cast_ofNat_Int, s_resc, s_consR, m_load4, m_store4, s_res0, ↓s_skip, ↓s_ops, ↓s_dops, ↓s_seq, ↓s_cond, ↓s_block, ↓s_exit, ↓s_ret, ↓s_scope, ↓s_nil, ↓s_op, ↓s_opg, ↓s_wanted', ↓s_wantV, s_wantV, s_wantV0, beq_true, beq_false, ↓s_bindS, s_bindS, ↓s_bindE, s_bindE, s_bindE_ret, s_bindE_exit, s_bindE_iteN, s_norm, ↓s_condV, s_condV, s_block_ret, s_block_normal, s_block_exit, s_block_iteN, ↓s_getp, ↓s_getp0, ↓s_get, s_get0, ↓s_con, ↓s_fn, ↓s_os0, ↓s_os1, ↓s_list0, ↓s_list1, ↓s_mov, ↓s_pick, ↓s_pickE, s_pickE, ↓s_bin, ↓s_un, ↓s_minmax, ↓s_call, ↓s_callv, ↓s_callV, ↓s_ext, s_same, b_eql, b_neq, b_lss, b_leq, b_gtr, b_geq, b_add, b_sub, b_mul, b_eqlb, b_neqb, b_fnil, b_fnil', b_fnil2, b_fnil2', u_neg, u_not, m_two, s_end, s_end', s_end_iteN, s_res0, s_res1, s_tup1, s_tup2, ↓iteN_true, ↓iteN_false, iteN_true, iteN_false, Nat.zero_add, List.nil_append, List.append_nil, Nat.reduceEqDiff, reduceIte, decide_true, decide_false, Bool.not_true, Bool.not_false, List.getElem?_cons_zero, List.getElem?_cons_succ, Bool.false_eq_true, if_true, if_false, beq_self_eq_true]
    exact ⟨_, rfl, kp⟩
  obtain ⟨R, eR⟩ : ∃ R, R_crc_Sum_0 = R := ⟨_, rfl⟩
  obtain ⟨Lo, eL⟩ : ∃ R, L_crc_Sum_0 = R := ⟨_, rfl⟩
  rw [eR, eL] at fin ⊢
  simp (config := {maxSteps := 2000000}) (disch := first | omega | (simp only [List.length_cons, List.length_nil, List.length_append, List.length_drop]; omega)) only [↓s_len, x_lenS, ↓b_xor32, ↓b_and32, ↓b_or32, ↓u_not32, b_xor32, b_and32, b_or32, u_not32, w32ad, ↓x_conv, x_convV, ↓x_fieldAddr, x_fieldV, ↓s_nilchk, x_nilchk, Nat.zero_add, Nat.add_zero, Nat.mul_one, ↓l_loop, ↓l_succ, ↓l_normal, l_normal, l_exit, l_ret, l_iteN, ↓h_put_get, ↓h_new_get, ↓h_del_get, h_next_put, h_next_new, h_next_del, Nat.add_assoc, Nat.add_eq_left, Nat.left_eq_add, Nat.add_left_cancel_iff, ↓s_load, m_load, ↓m_load1, m_load1, ↓m_st, m_stE, m_storeI, m_storeE, w_zero, w_succ, ↓s_alloc, ↓x_idxA, ↓x_idxS, x_idxAE, x_idxSE, x_addrE, x_idx, x_lenS, ↓s_len, ↓x_buildS, x_buildE, ↓x_P0, ↓x_P1, x_fill0, x_filli, x_fills, x_fillb, c_int, List.length_cons, List.length_nil, List.cons_append, List.drop_succ_cons, List.drop_zero, List.drop_nil, List.nil_append, Int.reduceAdd, Int.reduceToNat, Int.reduceLT, Int.reduceLE, Nat.reduceAdd, Nat.reduceMul, Nat.reduceLeDiff, Int.reduceEq, Int.reduceSub, Int.cast_ofNat_Int, s_resc, s_consR, m_load4, m_store4, s_res0, ↓s_skip, ↓s_ops, ↓s_dops, ↓s_seq, ↓s_cond, ↓s_block, ↓s_exit, ↓s_ret, ↓s_scope, ↓s_nil, ↓s_op, ↓s_opg, ↓s_wanted', ↓s_wantV, s_wantV, s_wantV0, beq_true, beq_false, ↓s_bindS, s_bindS, ↓s_bindE, s_bindE, s_bindE_ret, s_bindE_exit, s_bindE_iteN, s_norm, ↓s_condV, s_condV, s_block_ret, s_block_normal, s_block_exit, s_block_iteN, ↓s_getp, ↓s_getp0, ↓s_get, s_get0, ↓s_con, ↓s_fn, ↓s_os0, ↓s_os1, ↓s_list0, ↓s_list1, ↓s_mov, ↓s_pick, ↓s_pickE, s_pickE, ↓s_bin, ↓s_un, ↓s_minmax, ↓s_call, ↓s_callv, ↓s_callV, ↓s_ext, s_same, b_eql, b_neq, b_lss, b_leq, b_gtr, b_geq, b_add, b_sub, b_mul, b_eqlb, b_neqb, b_fnil, b_fnil', b_fnil2, b_fnil2', u_neg, u_not, m_two, s_end, s_end', s_end_iteN, s_res0, s_res1, s_tup1, s_tup2, ↓iteN_true, ↓iteN_false, iteN_true, iteN_false, Nat.zero_add, List.nil_append, List.append_nil, Nat.reduceEqDiff, reduceIte, decide_true, decide_false, Bool.not_true, Bool.not_false, List.getElem?_cons_zero, List.getElem?_cons_succ, Bool.false_eq_true, if_true, if_false, beq_self_eq_true]
  exact fin _ ⟨by omega, (by (simp only [s_getp, s_getp0, Nat.reduceEqDiff, decide_false, decide_true, iteN_false, iteN_true, eL]; try rfl)), ⟨c, (by (simp only [s_getp, s_getp0, Nat.reduceEqDiff, decide_false, decide_true, iteN_false, iteN_true, eL]; try rfl))⟩, (by (simp only [s_getp, s_getp0, Nat.reduceEqDiff, decide_false, decide_true, iteN_false, iteN_true, eL]; try rfl)), (by (simp only [s_getp, s_getp0, Nat.reduceEqDiff, decide_false, decide_true, iteN_false, iteN_true, eL]; try rfl)), Kp.refl _⟩
end Go.Eng
namespace Go.Eng
open Go
set_option linter.unusedSimpArgs false
set_option linter.unusedVariables false
theorem xdiv (a b : Nat) : (a ^^^ b) / 16 = (a / 16) ^^^ (b / 16) := by
  apply Nat.eq_of_testBit_eq; intro i
  rw [show (16 : Nat) = 2 ^ 4 from rfl]
  simp only [Nat.testBit_xor, Nat.testBit_div_two_pow]
theorem xmod (a b : Nat) : (a ^^^ b) % 16 = (a % 16) ^^^ (b % 16) := by
  apply Nat.eq_of_testBit_eq; intro i
  rw [show (16 : Nat) = 2 ^ 4 from rfl]
  simp only [Nat.testBit_xor, Nat.testBit_mod_two_pow]
  cases decide (i < 4) <;> simp
theorem tab_lin (a b : Nat) (ha : a < 16) (hb : b < 16) : tab.getD (a ^^^ b) 0 = tab.getD a 0 ^^^ tab.getD b 0 := by
  have : ∀ i j : Fin 16, tab.getD (i.val ^^^ j.val) 0 = tab.getD i.val 0 ^^^ tab.getD j.val 0 := by decide +kernel
  exact this ⟨a, ha⟩ ⟨b, hb⟩
theorem xor4 (a b c d : Nat) : (a ^^^ b) ^^^ (c ^^^ d) = (a ^^^ c) ^^^ (b ^^^ d) := by
  apply Nat.eq_of_testBit_eq; intro i
  simp only [Nat.testBit_xor]
  cases a.testBit i <;> cases b.testBit i <;> cases c.testBit i <;> cases d.testBit i <;> rfl
theorem nib_lin (r r' n n' : Nat) (hn : n < 16) (hn' : n' < 16) : nib (r ^^^ r') (n ^^^ n') = nib r n ^^^ nib r' n' := by
  show ((r ^^^ r') / 16) ^^^ tab.getD (((r ^^^ r') % 16) ^^^ (n ^^^ n')) 0 = ((r / 16) ^^^ tab.getD ((r % 16) ^^^ n) 0) ^^^ ((r' / 16) ^^^ tab.getD ((r' % 16) ^^^ n') 0)
  have t := tab_lin ((r % 16) ^^^ n) ((r' % 16) ^^^ n') (x16 _ _ (by omega) hn) (x16 _ _ (by omega) hn')
  rw [xdiv, xmod, xor4 (r % 16), t, xor4]
theorem stepB_lin (r r' y y' : Nat) (hy : y < 256) (hy' : y' < 256) : stepB (r ^^^ r') (y ^^^ y') = stepB r y ^^^ stepB r' y' := by
  unfold stepB
  rw [xdiv, xmod, nib_lin _ _ _ _ (by omega) (by omega), nib_lin _ _ _ _ (by omega) (by omega)]
theorem x256 (a b : Nat) (ha : a < 256) (hb : b < 256) : a ^^^ b < 256 := Nat.xor_lt_two_pow (n := 8) ha hb
def over3 (a b c : List Nat) (i : Nat) : List Nat := (List.range i).map (fun k => (a.getD k 0 ^^^ b.getD k 0) ^^^ c.getD k 0)
theorem over3_succ (a b c : List Nat) (i : Nat) : over3 a b c (i + 1) = over3 a b c i ++ [(a.getD i 0 ^^^ b.getD i 0) ^^^ c.getD i 0] := by
  unfold over3; rw [List.range_succ, List.map_append]; rfl
theorem over3_len (a b c : List Nat) (i : Nat) : (over3 a b c i).length = i := by unfold over3; rw [List.length_map, List.length_range]
theorem bytD {l : List Nat} (h : byt l = true) (i : Nat) : l.getD i 0 < 256 := by
  rw [List.getD_eq_getElem?_getD]
  by_cases hi : i < l.length
  · rw [List.getElem?_eq_getElem hi]; exact byt_iff.1 h _ (List.getElem_mem hi)
  · rw [List.getElem?_eq_none (by omega)]; decide
theorem over3_byt (a b c : List Nat) (ha : byt a = true) (hb : byt b = true) (hc : byt c = true) (i : Nat) : byt (over3 a b c i) = true := by
  refine byt_iff.2 (fun x hx => ?_)
  unfold over3 at hx
  obtain ⟨k, _, rfl⟩ := List.mem_map.1 hx
  exact x256 _ _ (x256 _ _ (bytD ha k) (bytD hb k)) (bytD hc k)
theorem take_D (l : List Nat) (i : Nat) (h : i < l.length) : l.take (i + 1) = l.take i ++ [l.getD i 0] := by
  rw [List.take_add_one, List.getD_eq_getElem?_getD, List.getElem?_eq_getElem h]; rfl
theorem fold3 (a b c : List Nat) (ha : byt a = true) (hb : byt b = true) (hc : byt c = true) (r s t : Nat) : ∀ i, i ≤ a.length → i ≤ b.length → i ≤ c.length → foldB ((r ^^^ s) ^^^ t) (over3 a b c i) = (foldB r (a.take i) ^^^ foldB s (b.take i)) ^^^ foldB t (c.take i) := by
  intro i
  induction i with
  | zero => intro _ _ _; rfl
  | succ i ih =>
    intro h1 h2 h3
    rw [over3_succ, take_D a i (by omega), take_D b i (by omega), take_D c i (by omega), foldB_app, foldB_app, foldB_app, foldB_app, ih (by omega) (by omega) (by omega)]
    show stepB _ _ = (stepB _ _ ^^^ stepB _ _) ^^^ stepB _ _
    rw [stepB_lin _ _ _ _ (x256 _ _ (bytD ha i) (bytD hb i)) (bytD hc i), stepB_lin _ _ _ _ (bytD ha i) (bytD hb i)]
theorem nt_xor (r : Nat) (h : r < 4294967296) : nt r = r ^^^ 4294967295 := by
  apply Nat.eq_of_testBit_eq; intro i
  have e1 : nt r = 2 ^ 32 - (r + 1) := by unfold nt; omega
  rw [e1, Nat.testBit_two_pow_sub_succ h, Nat.testBit_xor, show (4294967295 : Nat) = 2 ^ 32 - 1 from rfl, Nat.testBit_two_pow_sub_one]
  by_cases hi : i < 32
  · rw [decide_eq_true hi]; cases r.testBit i <;> rfl
  · rw [decide_eq_false hi, Nat.testBit_lt_two_pow (show r < 2 ^ i from Nat.lt_of_lt_of_le h (Nat.pow_le_pow_right (n := 2) (i := 32) (j := i) (by omega) (by omega)))]; rfl
theorem onV_over (a b c : List Nat) (ha : byt a = true) (hb : byt b = true) (hc : byt c = true) (n : Nat) (h1 : n ≤ a.length) (h2 : n ≤ b.length) (h3 : n ≤ c.length) : (onV 0 (a.take n) ^^^ onV 0 (b.take n)) ^^^ onV 0 (c.take n) = onV 0 (over3 a b c n) := by
  unfold onV
  have z : nt 0 = (nt 0 ^^^ nt 0) ^^^ nt 0 := by decide
  have f := fold3 a b c ha hb hc (nt 0) (nt 0) (nt 0) n h1 h2 h3
  rw [← z] at f
  rw [f]
  have l1 := foldB_lt (a.take n) (nt 0) (nt_lt 0)
  have l2 := foldB_lt (b.take n) (nt 0) (nt_lt 0)
  have l3 := foldB_lt (c.take n) (nt 0) (nt_lt 0)
  have l12 : foldB (nt 0) (a.take n) ^^^ foldB (nt 0) (b.take n) < 4294967296 := Nat.xor_lt_two_pow (n := 32) l1 l2
  rw [nt_xor _ l1, nt_xor _ l2, nt_xor _ l3, nt_xor _ (Nat.xor_lt_two_pow (n := 32) l12 l3)]
  generalize foldB (nt 0) (a.take n) = x
  generalize foldB (nt 0) (b.take n) = y
  generalize foldB (nt 0) (c.take n) = w
  apply Nat.eq_of_testBit_eq; intro i
  simp only [Nat.testBit_xor]
  cases x.testBit i <;> cases y.testBit i <;> cases w.testBit i <;> cases (4294967295 : Nat).testBit i <;> rfl
end Go.Eng
namespace Go.Eng
open Go
variable {E : Nat → Option Fn} {X : Orc} {N : Nat}
set_option linter.unusedSimpArgs false
set_option linter.unusedVariables false
/-- what the laws of crc know -/
def stepsS : List V → Option V
  | [] => some (.agg (ofI .u32 tab))
  | _ => none
noncomputable def crX (k : Nat) : Orc := orX (pureX k_crc_steps stepsS) (pureX k aliveS)
theorem cr_no : NoCrc (crX k_purserlaw02_alive) := ⟨fun _ _ => rfl, fun _ _ => rfl, fun _ _ => rfl, fun _ _ => rfl, fun _ _ _ => rfl, fun h => orX_l (pureX_yes h rfl)⟩
theorem cr_al (h : H) : crX k_purserlaw02_alive (.fn k_purserlaw02_alive) [] h = some (.bool true, h) := (orX_r rfl).trans (pureX_yes h rfl)
theorem b_neS (n : Nat) (e : EqK) (h : H) : binV .neq e h (.int .u32 (n : Int)) (.int .u32 (n : Int)) = some (.bool false) := by
  rw [b_neq, decide_eq_true rfl]; rfl
theorem cut3 (l : List Nat) (i j : Nat) (hi : i ≤ j) : l.take i ++ ((l.take j).drop i ++ l.drop j) = l := by
  rw [← List.append_assoc]
  have : l.take i = (l.take j).take i := by rw [List.take_take, Nat.min_eq_left hi]
  rw [this, List.take_append_drop, List.take_append_drop]
theorem sum1 (e : EnCrc E) (h : H) (p : Nat) (a : Option (Nat × Nat)) (l : List Nat) (bl : byt l = true) (hl : l.length ≤ 3000) (n : Nat) (hn : l.length = n) (cc : Option Nat) (ez : Nat) (c : Option Nat) (md : Md) (hp : p < h.next) (gp : h.get p = some (.cells [.slice a n cc ez] md)) (s : SrcH h a ez l) :
    ∃ h', callX E (crX k_purserlaw02_alive) (N + 3999) (.fn k_crc_Sum) [.slice (some (p, 0)) 1 c 1] h = some (.int .u32 (onV 0 l : Nat), h') ∧ Kp h h' := by
  subst hn
  exact sum_go e cr_no (N + 3987) p [(a, cc, ez, l)] c (by show 1 < _; omega) (by show 1 < _; omega) md h hp gp (fun q hq => by
    rcases List.mem_singleton.1 hq with rfl
    exact ⟨s, bl, by show l.length < _; omega, by show l.length < _; omega⟩)
theorem sum3 (e : EnCrc E) (h : H) (p : Nat) (a a' a'' : Option (Nat × Nat)) (l l' l'' : List Nat) (bl : byt l = true) (bl' : byt l' = true) (bl'' : byt l'' = true) (hl : l.length ≤ 3000) (hl' : l'.length ≤ 3000) (hl'' : l''.length ≤ 3000) (n n' n'' : Nat) (hn : l.length = n) (hn' : l'.length = n') (hn'' : l''.length = n'') (c : Option Nat) (md : Md) (hp : p < h.next)
    (gp : h.get p = some (.cells [.slice a n none 1, .slice a' n' none 1, .slice a'' n'' none 1] md)) (s : SrcH h a 1 l) (s' : SrcH h a' 1 l') (s'' : SrcH h a'' 1 l'') :
    ∃ h', callX E (crX k_purserlaw02_alive) (N + 3999) (.fn k_crc_Sum) [.slice (some (p, 0)) 3 c 1] h = some (.int .u32 (onV (onV (onV 0 l) l') l'' : Nat), h') ∧ Kp h h' := by
  subst hn; subst hn'; subst hn''
  exact sum_go e cr_no (N + 3987) p [(a, none, 1, l), (a', none, 1, l'), (a'', none, 1, l'')] c (by show 3 < _; omega) (by show 3 < _; omega) md h hp gp (fun q hq => by
    simp only [List.mem_cons, List.mem_nil_iff, or_false] at hq
    rcases hq with rfl | rfl | rfl
    · exact ⟨s, bl, by show l.length < _; omega, by show l.length < _; omega⟩
    · exact ⟨s', bl', by show l'.length < _; omega, by show l'.length < _; omega⟩
    · exact ⟨s'', bl'', by show l''.length < _; omega, by show l''.length < _; omega⟩)
theorem min3 (a b c : Nat) : minmaxV true [.int .i64 (a : Int), .int .i64 (b : Int), .int .i64 (c : Int)] = some (.int .i64 ((min (min a b) c : Nat) : Int)) := by
  simp only [minmaxV, minAll, minV, kindEq_self, _root_.cond_true, ilt_dec, Bool.cond_decide]
  congr 2
  split <;> split <;> omega
theorem xor8' (a b : Nat) (ha : a < 256) (hb : b < 256) (e : EqK) (hh : H) : binV .xor e hh (.int .u8 (a : Int)) (.int .u8 (b : Int)) = some (.int .u8 ((a ^^^ b : Nat) : Int)) := by
  have e1 : binV .xor e hh (.int .u8 (a : Int)) (.int .u8 (b : Int)) = some (.int .u8 (asK .u8 (Nat.xor (a % 256) (b % 256)))) := rfl
  rw [e1, Nat.mod_eq_of_lt ha, Nat.mod_eq_of_lt hb]
  exact congrArg (fun z => some (V.int .u8 z)) (asK8 _ (x256 a b ha hb))
def SrcI (h0 : H) (a : Option (Nat × Nat)) (l : List Nat) : Prop := l = [] ∨ ∃ bi off vs m, a = some (bi, off) ∧ bi < h0.next ∧ h0.get bi = some (.cells vs m) ∧ ∀ i, i < l.length → vs[off + i]? = some (.int .u8 (l.getD i 0 : Nat))
theorem SrcH.toI {h : H} {a : Option (Nat × Nat)} {e : Nat} {l : List Nat} (s : SrcH h a e l) : SrcI h a l := by
  rcases s with h0 | ⟨bi, off, vs, m, h1, h2, h3, h4, h5, h6⟩
  · exact .inl h0
  · refine .inr ⟨bi, off, vs, m, h1, h3, h4, fun i hi => ?_⟩
    have : ((vs.drop off).take l.length)[i]? = (ofI .u8 l)[i]? := by rw [h6]
    rw [List.getElem?_take_of_lt hi, List.getElem?_drop, ofI_get _ _ _ hi] at this
    exact this
structure CL (a b c : Option (Nat × Nat)) (la lb lc : List Nat) (n : Nat) (h0 : H) (i : Nat) (T : Tr V) (h : H) : Prop where
  il : i ≤ n
  t0 : evO T (.t 0) = .slice a la.length none 1
  t1 : evO T (.t 1) = .slice b lb.length none 1
  t2 : evO T (.t 2) = .slice c lc.length none 1
  t11 : evO T (.t 11) = .bool true
  t15 : evO T (.t 15) = .int .i64 (n : Int)
  t17 : evO T (.t 17) = .int .i64 (i : Int)
  t16 : (i = 0 ∧ evO T (.t 16) = .slice none 0 (some 0) 0) ∨ (0 < i ∧ ∃ p md, evO T (.t 16) = .slice (some (p, 0)) i none 1 ∧ h.get p = some (.cells (ofI .u8 (over3 la lb lc i)) md) ∧ isRo md = false ∧ h0.next ≤ p ∧ p < h.next)
  kp : Kp h0 h
theorem cl_step (Q : Orc) (m : Nat) (a b c : Option (Nat × Nat)) (la lb lc : List Nat) (ba : byt la = true) (bb : byt lb = true) (bc : byt lc = true) (n : Nat) (ha : n ≤ la.length) (hb : n ≤ lb.length) (hc : n ≤ lc.length) (hn : n ≤ 3000) (h0 : H) (sa : SrcI h0 a la) (sb : SrcI h0 b lb) (sc : SrcI h0 c lc) :
    ∀ i T h, i < n → CL a b c la lb lc n h0 i T h → ∃ T' h', evC Q 141 m none L_purserlaw02_CrcParts_0 ⟨T, [], h⟩ = some (.normal, ⟨T', [], h'⟩) ∧ CL a b c la lb lc n h0 (i + 1) T' h' := by
  intro i T h hi ⟨_, t0, t1, t2, t11, t15, t17, t16, kp⟩
  obtain ⟨b1, o1, v1, m1, rfl, q1, g1, e1⟩ := sa.resolve_left (fun h => by rw [h] at ha; simp at ha; omega)
  obtain ⟨b2, o2, v2, m2, rfl, q2, g2, e2⟩ := sb.resolve_left (fun h => by rw [h] at hb; simp at hb; omega)
  obtain ⟨b3, o3, v3, m3, rfl, q3, g3, e3⟩ := sc.resolve_left (fun h => by rw [h] at hc; simp at hc; omega)
  have g1' : h.get b1 = some (.cells v1 m1) := by rw [kp.2 _ q1, g1]
  have g2' : h.get b2 = some (.cells v2 m2) := by rw [kp.2 _ q2, g2]
  have g3' : h.get b3 = some (.cells v3 m3) := by rw [kp.2 _ q3, g3]
  have c0 : decide ((i : Int) < (n : Int)) = true := decide_eq_true (by omega)
  have wi : wr .i64 ((i : Int) + 1) = ((i + 1 : Nat) : Int) := by rw [wr_i64 (by omega)]; omega
  have x1 : idx (i : Int) la.length = some i := idxn (by omega)
  have x2 : idx (i : Int) lb.length = some i := idxn (by omega)
  have x3 : idx (i : Int) lc.length = some i := idxn (by omega)
  have f1 := e1 i (by omega)
  have f2 := e2 i (by omega)
  have f3 := e3 i (by omega)
  have y1 := bytD ba i
  have y2 := bytD bb i
  have y3 := bytD bc i
  have ts := over3_succ la lb lc i
  have ol := over3_len la lb lc i
  generalize la.getD i 0 = u1 at *
  generalize lb.getD i 0 = u2 at *
  generalize lc.getD i 0 = u3 at *
  have z1 := fun e h => xor8' u1 u2 y1 y2 e h
  have z2 := fun e h => xor8' (u1 ^^^ u2) u3 (x256 _ _ y1 y2) y3 e h
  generalize u1 ^^^ u2 = u12 at *
  generalize u12 ^^^ u3 = y at *
  have hn1 := kp.1
  have n1 : (h.next = b1) = False := by simp; omega
  have n2 : (h.next = b2) = False := by simp; omega
  have n3 : (h.next = b3) = False := by simp; omega
  obtain ⟨hz, ehz⟩ : ∃ hz, (bump 1 h).put h.next (.cells [.int .u8 (y : Int)] .rw) = hz := ⟨_, rfl⟩
  have nz : hz.next = h.next + 1 := by rw [← ehz]; rfl
  have kz : Kp h hz := by rw [← ehz]; exact ⟨by show h.next ≤ h.next + 1; omega, fun q hq => by rw [h_put_ne _ _ (by omega)]; rfl⟩
  have sc : srcCells hz 1 (.slice (some (h.next, 0)) 1 (some 1) 1) = some (1, [.int .u8 (y : Int)]) := by
    have s1 : SrcH hz (some (h.next, 0)) 1 [y] := .inr ⟨h.next, 0, [.int .u8 (y : Int)], .rw, rfl, rfl, by omega, by rw [← ehz, h_put_same], by simp, rfl⟩
    exact s1.cellz (some 1)
  obtain ⟨C, eC⟩ : ∃ C, ofI .u8 (over3 la lb lc (i + 1)) = C := ⟨_, rfl⟩
  rcases t16 with ⟨i0, t16⟩ | ⟨hip, p, md, t16, gp, hmd, hp0, hpn⟩
  · have ap : appendC hz 1 1 (.slice none 0 (some 0) 0) (some (1, [.int .u8 (y : Int)])) = some (.slice (some (h.next + 1, 0)) (i + 1) none 1, hz.new (.cells C .rw)) := by
      have := app0 hz 0 0 .u8 [y] (some 0) (by omega)
      rw [nz] at this
      rw [← eC, ts, i0]; exact this
    refine ⟨_, _, by
      simp (config := {maxSteps := 2000000}) (disch := first | omega | (simp only [List.length_cons, List.length_nil, List.length_append, List.length_drop]; omega)) only [L_purserlaw02_CrcParts_0, t0, t1, t2, t11, t15, t16, t17, g1', g2', g3', f1, f2, f3, n1, n2, n3, z1, z2, c0, wi, x1, x2, x3, ehz, sc, ap, ↓s_append, ↓s_dBuildS, ↓s_dBuildSg, s_dbE, ↓b_xor32, ↓b_and32, ↓b_or32, ↓u_not32, b_xor32, b_and32, b_or32, u_not32, w32ad, ↓x_conv, x_convV, ↓x_fieldAddr, x_fieldV, ↓s_nilchk, x_nilchk, Nat.zero_add, Nat.add_zero, Nat.mul_one, ↓s_evD, ↓s_dnil, ↓s_dL, ↓s_dLg, ↓s_dR, ↓s_dRg, ↓s_dRj, ↓s_dRjg, ↓s_dB, ↓s_dBg, ↓s_dAlloc, ↓s_bindD, s_bindD, s_finD, s_finDx, s_addP0, s_addP1, s_addB, s_lookP, ↓s_bump0, ↓s_bump_get, s_bump_next, s_ok0, ↓s_ok1, s_okR0, ↓s_okR1, ↓s_okE, s_okE, s_okE1, s_nth0, s_nthS, Nat.add_zero, Bool.and_self, Bool.and_true, Bool.true_and, ↓l_loop, ↓l_succ, ↓l_normal, l_normal, l_exit, l_ret, l_iteN, ↓h_put_get, ↓h_new_get, ↓h_del_get, h_next_put, h_next_new, h_next_del, Nat.add_assoc, Nat.add_eq_left, Nat.left_eq_add, Nat.add_left_cancel_iff, ↓s_load, m_load, ↓m_load1, m_load1, ↓m_st, m_stE, m_storeI, m_storeE, w_zero, w_succ, ↓s_alloc, ↓x_idxA, ↓x_idxS, x_idxAE, x_idxSE, x_addrE, x_idx, x_lenS, ↓s_len, ↓x_buildS, x_buildE, ↓x_P0, ↓x_P1, x_fill0, x_filli, x_fills, x_fillb, c_int, List.length_cons, List.length_nil, List.cons_append, List.drop_succ_cons, List.drop_zero, List.drop_nil, List.nil_append, Int.reduceAdd, Int.reduceToNat, Int.reduceLT, Int.reduceLE, Nat.reduceAdd, Nat.reduceMul, Nat.reduceLeDiff, Int.reduceEq, Int.reduceSub, Int.cast_ofNat_Int, s_resc, s_consR, m_load4, m_store4, s_res0, ↓s_skip, ↓s_ops, ↓s_dops, ↓s_seq, ↓s_cond, ↓s_block, ↓s_exit, ↓s_ret, ↓s_scope, ↓s_nil, ↓s_op, ↓s_opg, ↓s_wanted', ↓s_wantV, s_wantV, s_wantV0, beq_true, beq_false, ↓s_bindS, s_bindS, ↓s_bindE, s_bindE, s_bindE_ret, s_bindE_exit, s_bindE_iteN, s_norm, ↓s_condV, s_condV, s_block_ret, s_block_normal, s_block_exit, s_block_iteN, ↓s_getp, ↓s_getp0, ↓s_get, s_get0, ↓s_con, ↓s_fn, ↓s_os0, ↓s_os1, ↓s_list0, ↓s_list1, ↓s_mov, ↓s_pick, ↓s_pickE, s_pickE, ↓s_bin, ↓s_un, ↓s_minmax, ↓s_call, ↓s_callv, ↓s_callV, ↓s_ext, s_same, b_eql, b_neq, b_lss, b_leq, b_gtr, b_geq, b_add, b_sub, b_mul, b_eqlb, b_neqb, b_fnil, b_fnil', b_fnil2, b_fnil2', u_neg, u_not, m_two, s_end, s_end', s_end_iteN, s_res0, s_res1, s_tup1, s_tup2, ↓iteN_true, ↓iteN_false, iteN_true, iteN_false, Nat.zero_add, List.nil_append, List.append_nil, Nat.reduceEqDiff, reduceIte, decide_true, decide_false, Bool.not_true, Bool.not_false, List.getElem?_cons_zero, List.getElem?_cons_succ, Bool.false_eq_true, if_true, if_false, beq_self_eq_true]
      exact rfl, ⟨by omega, (by (simp only [s_getp, s_getp0, Nat.reduceEqDiff, decide_false, decide_true, iteN_false, iteN_true, t0]; try rfl)), (by (simp only [s_getp, s_getp0, Nat.reduceEqDiff, decide_false, decide_true, iteN_false, iteN_true, t1]; try rfl)), (by (simp only [s_getp, s_getp0, Nat.reduceEqDiff, decide_false, decide_true, iteN_false, iteN_true, t2]; try rfl)), (by (simp only [s_getp, s_getp0, Nat.reduceEqDiff, decide_false, decide_true, iteN_false, iteN_true, t11]; try rfl)), (by (simp only [s_getp, s_getp0, Nat.reduceEqDiff, decide_false, decide_true, iteN_false, iteN_true, t15]; try rfl)), (by (simp only [s_getp, s_getp0, Nat.reduceEqDiff, decide_false, decide_true, iteN_false, iteN_true, t17]; try rfl)), .inr ⟨by omega, h.next + 1, .rw, (by (simp only [s_getp, s_getp0, Nat.reduceEqDiff, decide_false, decide_true, iteN_false, iteN_true, t16]; try rfl)), by rw [eC]; exact h_new_same' _ _ nz, rfl, by omega, by rw [h_next_new, nz]; omega⟩, (kp.trans kz).trans (Kp.new _ _)⟩⟩
  · have ap := app1 hz p i y _ md hmd (by rw [kz.2 _ hpn, gp]) ol (by omega)
    rw [← ts, eC, nz] at ap
    refine ⟨_, _, by
      simp (config := {maxSteps := 2000000}) (disch := first | omega | (simp only [List.length_cons, List.length_nil, List.length_append, List.length_drop]; omega)) only [L_purserlaw02_CrcParts_0, t0, t1, t2, t11, t15, t16, t17, g1', g2', g3', f1, f2, f3, n1, n2, n3, z1, z2, c0, wi, x1, x2, x3, ehz, sc, ap, ↓s_append, ↓s_dBuildS, ↓s_dBuildSg, s_dbE, ↓b_xor32, ↓b_and32, ↓b_or32, ↓u_not32, b_xor32, b_and32, b_or32, u_not32, w32ad, ↓x_conv, x_convV, ↓x_fieldAddr, x_fieldV, ↓s_nilchk, x_nilchk, Nat.zero_add, Nat.add_zero, Nat.mul_one, ↓s_evD, ↓s_dnil, ↓s_dL, ↓s_dLg, ↓s_dR, ↓s_dRg, ↓s_dRj, ↓s_dRjg, ↓s_dB, ↓s_dBg, ↓s_dAlloc, ↓s_bindD, s_bindD, s_finD, s_finDx, s_addP0, s_addP1, s_addB, s_lookP, ↓s_bump0, ↓s_bump_get, s_bump_next, s_ok0, ↓s_ok1, s_okR0, ↓s_okR1, ↓s_okE, s_okE, s_okE1, s_nth0, s_nthS, Nat.add_zero, Bool.and_self, Bool.and_true, Bool.true_and, ↓l_loop, ↓l_succ, ↓l_normal, l_normal, l_exit, l_ret, l_iteN, ↓h_put_get, ↓h_new_get, ↓h_del_get, h_next_put, h_next_new, h_next_del, Nat.add_assoc, Nat.add_eq_left, Nat.left_eq_add, Nat.add_left_cancel_iff, ↓s_load, m_load, ↓m_load1, m_load1, ↓m_st, m_stE, m_storeI, m_storeE, w_zero, w_succ, ↓s_alloc, ↓x_idxA, ↓x_idxS, x_idxAE, x_idxSE, x_addrE, x_idx, x_lenS, ↓s_len, ↓x_buildS, x_buildE, ↓x_P0, ↓x_P1, x_fill0, x_filli, x_fills, x_fillb, c_int, List.length_cons, List.length_nil, List.cons_append, List.drop_succ_cons, List.drop_zero, List.drop_nil, List.nil_append, Int.reduceAdd, Int.reduceToNat, Int.reduceLT, Int.reduceLE, Nat.reduceAdd, Nat.reduceMul, Nat.reduceLeDiff, Int.reduceEq, Int.reduceSub, Int.cast_ofNat_Int, s_resc, s_consR, m_load4, m_store4, s_res0, ↓s_skip, ↓s_ops, ↓s_dops, ↓s_seq, ↓s_cond, ↓s_block, ↓s_exit, ↓s_ret, ↓s_scope, ↓s_nil, ↓s_op, ↓s_opg, ↓s_wanted', ↓s_wantV, s_wantV, s_wantV0, beq_true, beq_false, ↓s_bindS, s_bindS, ↓s_bindE, s_bindE, s_bindE_ret, s_bindE_exit, s_bindE_iteN, s_norm, ↓s_condV, s_condV, s_block_ret, s_block_normal, s_block_exit, s_block_iteN, ↓s_getp, ↓s_getp0, ↓s_get, s_get0, ↓s_con, ↓s_fn, ↓s_os0, ↓s_os1, ↓s_list0, ↓s_list1, ↓s_mov, ↓s_pick, ↓s_pickE, s_pickE, ↓s_bin, ↓s_un, ↓s_minmax, ↓s_call, ↓s_callv, ↓s_callV, ↓s_ext, s_same, b_eql, b_neq, b_lss, b_leq, b_gtr, b_geq, b_add, b_sub, b_mul, b_eqlb, b_neqb, b_fnil, b_fnil', b_fnil2, b_fnil2', u_neg, u_not, m_two, s_end, s_end', s_end_iteN, s_res0, s_res1, s_tup1, s_tup2, ↓iteN_true, ↓iteN_false, iteN_true, iteN_false, Nat.zero_add, List.nil_append, List.append_nil, Nat.reduceEqDiff, reduceIte, decide_true, decide_false, Bool.not_true, Bool.not_false, List.getElem?_cons_zero, List.getElem?_cons_succ, Bool.false_eq_true, if_true, if_false, beq_self_eq_true]
      exact rfl, ⟨by omega, (by (simp only [s_getp, s_getp0, Nat.reduceEqDiff, decide_false, decide_true, iteN_false, iteN_true, t0]; try rfl)), (by (simp only [s_getp, s_getp0, Nat.reduceEqDiff, decide_false, decide_true, iteN_false, iteN_true, t1]; try rfl)), (by (simp only [s_getp, s_getp0, Nat.reduceEqDiff, decide_false, decide_true, iteN_false, iteN_true, t2]; try rfl)), (by (simp only [s_getp, s_getp0, Nat.reduceEqDiff, decide_false, decide_true, iteN_false, iteN_true, t11]; try rfl)), (by (simp only [s_getp, s_getp0, Nat.reduceEqDiff, decide_false, decide_true, iteN_false, iteN_true, t15]; try rfl)), (by (simp only [s_getp, s_getp0, Nat.reduceEqDiff, decide_false, decide_true, iteN_false, iteN_true, t17]; try rfl)), .inr ⟨by omega, h.next + 1, .sh, (by (simp only [s_getp, s_getp0, Nat.reduceEqDiff, decide_false, decide_true, iteN_false, iteN_true, t16]; try rfl)), by rw [eC]; exact h_new_same' _ _ (by rw [h_next_del, nz]), rfl, by omega, by simp only [h_next_new, h_next_del, nz]; omega⟩, ?_⟩⟩
    refine ⟨by simp only [h_next_new, h_next_del, nz]; omega, fun j hj => ?_⟩
    rw [h_new_ne _ _ (by simp only [h_next_del, nz]; omega), h_del_ne _ (by omega), kz.2 _ (by omega), kp.2 _ hj]
theorem cl_loop (Q : Orc) (m : Nat) (a b c : Option (Nat × Nat)) (la lb lc : List Nat) (ba : byt la = true) (bb : byt lb = true) (bc : byt lc = true) (n : Nat) (ha : n ≤ la.length) (hb : n ≤ lb.length) (hc : n ≤ lc.length) (hn : n ≤ 3000) (hm : n < m) (h0 : H) (sa : SrcI h0 a la) (sb : SrcI h0 b lb) (sc : SrcI h0 c lc)
    (T : Tr V) (h : H) (I : CL a b c la lb lc n h0 0 T h) : ∃ T' h', loopN (evC Q 141 m none L_purserlaw02_CrcParts_0) m ⟨T, [], h⟩ = some (.exit 0, ⟨T', [], h'⟩) ∧ CL a b c la lb lc n h0 n T' h' :=
  loop_go (CL a b c la lb lc n h0) n (.exit 0) (by intro h; cases h) _ (cl_step Q m a b c la lb lc ba bb bc n ha hb hc hn h0 sa sb sc) (fun T h I => by
    obtain ⟨il, t0, t1, t2, t11, t15, t17, t16, kp⟩ := I
    have c0 : decide ((n : Int) < (n : Int)) = false := decide_eq_false (by omega)
    refine ⟨_, _, by
      simp (config := {maxSteps := 2000000}) (disch := first | omega | (simp only [List.length_cons, List.length_nil, List.length_append, List.length_drop]; omega)) only [L_purserlaw02_CrcParts_0, t15, t17, c0, ↓b_xor32, ↓b_and32, ↓b_or32, ↓u_not32, b_xor32, b_and32, b_or32, u_not32, w32ad, ↓x_conv, x_convV, ↓x_fieldAddr, x_fieldV, ↓s_nilchk, x_nilchk, Nat.zero_add, Nat.add_zero, Nat.mul_one, ↓l_loop, ↓l_succ, ↓l_normal, l_normal, l_exit, l_ret, l_iteN, ↓h_put_get, ↓h_new_get, ↓h_del_get, h_next_put, h_next_new, h_next_del, Nat.add_assoc, Nat.add_eq_left, Nat.left_eq_add, Nat.add_left_cancel_iff, ↓s_load, m_load, ↓m_load1, m_load1, ↓m_st, m_stE, m_storeI, m_storeE, w_zero, w_succ, ↓s_alloc, ↓x_idxA, ↓x_idxS, x_idxAE, x_idxSE, x_addrE, x_idx, x_lenS, ↓s_len, ↓x_buildS, x_buildE, ↓x_P0, ↓x_P1, x_fill0, x_filli, x_fills, x_fillb, c_int, List.length_cons, List.length_nil, List.cons_append, List.drop_succ_cons, List.drop_zero, List.drop_nil, List.nil_append, Int.reduceAdd, Int.reduceToNat, Int.reduceLT, Int.reduceLE, Nat.reduceAdd, Nat.reduceMul, Nat.reduceLeDiff, Int.reduceEq, Int.reduceSub, Int.cast_ofNat_Int, s_resc, s_consR, m_load4, m_store4, s_res0, ↓s_skip, ↓s_ops, ↓s_dops, ↓s_seq, ↓s_cond, ↓s_block, ↓s_exit, ↓s_ret, ↓s_scope, ↓s_nil, ↓s_op, ↓s_opg, ↓s_wanted', ↓s_wantV, s_wantV, s_wantV0, beq_true, beq_false, ↓s_bindS, s_bindS, ↓s_bindE, s_bindE, s_bindE_ret, s_bindE_exit, s_bindE_iteN, s_norm, ↓s_condV, s_condV, s_block_ret, s_block_normal, s_block_exit, s_block_iteN, ↓s_getp, ↓s_getp0, ↓s_get, s_get0, ↓s_con, ↓s_fn, ↓s_os0, ↓s_os1, ↓s_list0, ↓s_list1, ↓s_mov, ↓s_pick, ↓s_pickE, s_pickE, ↓s_bin, ↓s_un, ↓s_minmax, ↓s_call, ↓s_callv, ↓s_callV, ↓s_ext, s_same, b_eql, b_neq, b_lss, b_leq, b_gtr, b_geq, b_add, b_sub, b_mul, b_eqlb, b_neqb, b_fnil, b_fnil', b_fnil2, b_fnil2', u_neg, u_not, m_two, s_end, s_end', s_end_iteN, s_res0, s_res1, s_tup1, s_tup2, ↓iteN_true, ↓iteN_false, iteN_true, iteN_false, Nat.zero_add, List.nil_append, List.append_nil, Nat.reduceEqDiff, reduceIte, decide_true, decide_false, Bool.not_true, Bool.not_false, List.getElem?_cons_zero, List.getElem?_cons_succ, Bool.false_eq_true, if_true, if_false, beq_self_eq_true]
      exact rfl, ⟨il, (by (simp only [s_getp, s_getp0, Nat.reduceEqDiff, decide_false, decide_true, iteN_false, iteN_true, t0]; try rfl)), (by (simp only [s_getp, s_getp0, Nat.reduceEqDiff, decide_false, decide_true, iteN_false, iteN_true, t1]; try rfl)), (by (simp only [s_getp, s_getp0, Nat.reduceEqDiff, decide_false, decide_true, iteN_false, iteN_true, t2]; try rfl)), (by (simp only [s_getp, s_getp0, Nat.reduceEqDiff, decide_false, decide_true, iteN_false, iteN_true, t11]; try rfl)), (by (simp only [s_getp, s_getp0, Nat.reduceEqDiff, decide_false, decide_true, iteN_false, iteN_true, t15]; try rfl)), (by (simp only [s_getp, s_getp0, Nat.reduceEqDiff, decide_false, decide_true, iteN_false, iteN_true, t17]; try rfl)), ?_, kp⟩⟩
    rcases t16 with ⟨h0, t⟩ | ⟨h1, p, md, t, r⟩
    · exact .inl ⟨h0, (by (simp only [s_getp, s_getp0, Nat.reduceEqDiff, decide_false, decide_true, iteN_false, iteN_true, t]; try rfl))⟩
    · exact .inr ⟨h1, p, md, (by (simp only [s_getp, s_getp0, Nat.reduceEqDiff, decide_false, decide_true, iteN_false, iteN_true, t]; try rfl)), r⟩) n 0 (by omega) m hm T h I
set_option maxRecDepth 100000 in
set_option maxHeartbeats 4000000 in
theorem law_CrcParts (e : EnCrc E) (el : E k_purserlaw02_CrcParts = some f_purserlaw02_CrcParts) (la lb lc : List Nat) (ba : byt la = true) (bb : byt lb = true) (bc : byt lc = true) (a b c : Option (Nat × Nat)) (x y : Nat) (hx : x < 65536) (hy : y < 65536) (h : H) (sa : SrcH h a 1 la) (sb : SrcH h b 1 lb) (sc : SrcH h c 1 lc) :
    ∃ h2, callX E (crX k_purserlaw02_alive) (N + 4000) (.fn k_purserlaw02_CrcParts) [.slice a la.length none 1, .slice b lb.length none 1, .slice c lc.length none 1, .int .u16 (x : Int), .int .u16 (y : Int)] h = some (.bool true, h2) := by
  rw [x_cfn el _ _ (Nat.le_of_ble_eq_true rfl) rfl]
  have al := fun h => x_known (E := E) (n := N + 3998) (cr_al h)
  by_cases ha : 3000 < la.length
  · have c1 : decide ((3000 : Int) < (la.length : Int)) = true := decide_eq_true (by omega)
    simp (config := {maxSteps := 2000000}) (disch := first | omega | rfl | (simp only [ofI_len, List.length_append, List.length_take, List.length_drop, List.length_cons, List.length_nil, List.length_replicate, List.length_set]; done) | (simp only [ofI_len, List.length_append, List.length_take, List.length_drop, List.length_cons, List.length_nil, List.length_replicate, List.length_set]; omega)) only [al, c1, ↓s_len, x_lenS, ↓b_xor32, ↓b_and32, ↓b_or32, ↓u_not32, b_xor32, b_and32, b_or32, u_not32, w32ad, ↓x_conv, x_convV, ↓x_fieldAddr, x_fieldV, ↓s_nilchk, x_nilchk, Nat.zero_add, Nat.add_zero, Nat.mul_one, ↓l_loop, ↓l_succ, ↓l_normal, l_normal, l_exit, l_ret, l_iteN, ↓h_put_get, ↓h_new_get, ↓h_del_get, h_next_put, h_next_new, h_next_del, Nat.add_assoc, Nat.add_eq_left, Nat.left_eq_add, Nat.add_left_cancel_iff, ↓s_load, m_load, ↓m_load1, m_load1, ↓m_st, m_stE, m_storeI, m_storeE, ↓s_alloc, ↓x_idxA, ↓x_idxS, x_idxAE, x_idxSE, x_addrE, x_idx, x_lenS, ↓s_len, ↓x_buildS, x_buildE, ↓x_P0, ↓x_P1, x_fill0, x_filli, x_fills, x_fillb, c_int, List.length_cons, List.length_nil, List.cons_append, List.drop_succ_cons, List.drop_zero, List.drop_nil, List.nil_append, Int.reduceAdd, Int.reduceToNat, Int.reduceLT, Int.reduceLE, Nat.reduceAdd, Nat.reduceMul, Nat.reduceLeDiff, Int.reduceEq, Int.reduceSub, Int.cast_ofNat_Int, s_resc, s_consR, m_load4, m_store4, s_res0, ↓s_skip, ↓s_ops, ↓s_dops, ↓s_seq, ↓s_cond, ↓s_block, ↓s_exit, ↓s_ret, ↓s_scope, ↓s_nil, ↓s_op, ↓s_opg, ↓s_wanted', ↓s_wantV, s_wantV, s_wantV0, beq_true, beq_false, ↓s_bindS, s_bindS, ↓s_bindE, s_bindE, s_bindE_ret, s_bindE_exit, s_bindE_iteN, s_norm, ↓s_condV, s_condV, s_block_ret, s_block_normal, s_block_exit, s_block_iteN, ↓s_getp, ↓s_getp0, ↓s_get, s_get0, ↓s_con, ↓s_fn, ↓s_os0, ↓s_os1, ↓s_list0, ↓s_list1, ↓s_mov, ↓s_pick, ↓s_pickE, s_pickE, ↓s_bin, ↓s_un, ↓s_minmax, ↓s_call, ↓s_callv, ↓s_callV, ↓s_ext, s_same, b_eql, b_neq, b_lss, b_leq, b_gtr, b_geq, b_add, b_sub, b_mul, b_eqlb, b_neqb, b_fnil, b_fnil', b_fnil2, b_fnil2', u_neg, u_not, m_two, s_end, s_end', s_end_iteN, s_res0, s_res1, s_tup1, s_tup2, ↓iteN_true, ↓iteN_false, iteN_true, iteN_false, Nat.zero_add, List.nil_append, List.append_nil, Nat.reduceEqDiff, reduceIte, decide_true, decide_false, Bool.not_true, Bool.not_false, List.getElem?_cons_zero, List.getElem?_cons_succ, Bool.false_eq_true, if_true, if_false, beq_self_eq_true]
    exact ⟨_, rfl⟩
  have c1 : decide ((3000 : Int) < (la.length : Int)) = false := decide_eq_false (by omega)
  by_cases hb : 3000 < lb.length
  · have c2 : decide ((3000 : Int) < (lb.length : Int)) = true := decide_eq_true (by omega)
    simp (config := {maxSteps := 2000000}) (disch := first | omega | rfl | (simp only [ofI_len, List.length_append, List.length_take, List.length_drop, List.length_cons, List.length_nil, List.length_replicate, List.length_set]; done) | (simp only [ofI_len, List.length_append, List.length_take, List.length_drop, List.length_cons, List.length_nil, List.length_replicate, List.length_set]; omega)) only [al, c1, c2, ↓s_len, x_lenS, ↓b_xor32, ↓b_and32, ↓b_or32, ↓u_not32, b_xor32, b_and32, b_or32, u_not32, w32ad, ↓x_conv, x_convV, ↓x_fieldAddr, x_fieldV, ↓s_nilchk, x_nilchk, Nat.zero_add, Nat.add_zero, Nat.mul_one, ↓l_loop, ↓l_succ, ↓l_normal, l_normal, l_exit, l_ret, l_iteN, ↓h_put_get, ↓h_new_get, ↓h_del_get, h_next_put, h_next_new, h_next_del, Nat.add_assoc, Nat.add_eq_left, Nat.left_eq_add, Nat.add_left_cancel_iff, ↓s_load, m_load, ↓m_load1, m_load1, ↓m_st, m_stE, m_storeI, m_storeE, ↓s_alloc, ↓x_idxA, ↓x_idxS, x_idxAE, x_idxSE, x_addrE, x_idx, x_lenS, ↓s_len, ↓x_buildS, x_buildE, ↓x_P0, ↓x_P1, x_fill0, x_filli, x_fills, x_fillb, c_int, List.length_cons, List.length_nil, List.cons_append, List.drop_succ_cons, List.drop_zero, List.drop_nil, List.nil_append, Int.reduceAdd, Int.reduceToNat, Int.reduceLT, Int.reduceLE, Nat.reduceAdd, Nat.reduceMul, Nat.reduceLeDiff, Int.reduceEq, Int.reduceSub, Int.cast_ofNat_Int, s_resc, s_consR, m_load4, m_store4, s_res0, ↓s_skip, ↓s_ops, ↓s_dops, ↓s_seq, ↓s_cond, ↓s_block, ↓s_exit, ↓s_ret, ↓s_scope, ↓s_nil, ↓s_op, ↓s_opg, ↓s_wanted', ↓s_wantV, s_wantV, s_wantV0, beq_true, beq_false, ↓s_bindS, s_bindS, ↓s_bindE, s_bindE, s_bindE_ret, s_bindE_exit, s_bindE_iteN, s_norm, ↓s_condV, s_condV, s_block_ret, s_block_normal, s_block_exit, s_block_iteN, ↓s_getp, ↓s_getp0, ↓s_get, s_get0, ↓s_con, ↓s_fn, ↓s_os0, ↓s_os1, ↓s_list0, ↓s_list1, ↓s_mov, ↓s_pick, ↓s_pickE, s_pickE, ↓s_bin, ↓s_un, ↓s_minmax, ↓s_call, ↓s_callv, ↓s_callV, ↓s_ext, s_same, b_eql, b_neq, b_lss, b_leq, b_gtr, b_geq, b_add, b_sub, b_mul, b_eqlb, b_neqb, b_fnil, b_fnil', b_fnil2, b_fnil2', u_neg, u_not, m_two, s_end, s_end', s_end_iteN, s_res0, s_res1, s_tup1, s_tup2, ↓iteN_true, ↓iteN_false, iteN_true, iteN_false, Nat.zero_add, List.nil_append, List.append_nil, Nat.reduceEqDiff, reduceIte, decide_true, decide_false, Bool.not_true, Bool.not_false, List.getElem?_cons_zero, List.getElem?_cons_succ, Bool.false_eq_true, if_true, if_false, beq_self_eq_true]
    exact ⟨_, rfl⟩
  have c2 : decide ((3000 : Int) < (lb.length : Int)) = false := decide_eq_false (by omega)
  by_cases hc : 3000 < lc.length
  · have c3 : decide ((3000 : Int) < (lc.length : Int)) = true := decide_eq_true (by omega)
    simp (config := {maxSteps := 2000000}) (disch := first | omega | rfl | (simp only [ofI_len, List.length_append, List.length_take, List.length_drop, List.length_cons, List.length_nil, List.length_replicate, List.length_set]; done) | (simp only [ofI_len, List.length_append, List.length_take, List.length_drop, List.length_cons, List.length_nil, List.length_replicate, List.length_set]; omega)) only [al, c1, c2, c3, ↓s_len, x_lenS, ↓b_xor32, ↓b_and32, ↓b_or32, ↓u_not32, b_xor32, b_and32, b_or32, u_not32, w32ad, ↓x_conv, x_convV, ↓x_fieldAddr, x_fieldV, ↓s_nilchk, x_nilchk, Nat.zero_add, Nat.add_zero, Nat.mul_one, ↓l_loop, ↓l_succ, ↓l_normal, l_normal, l_exit, l_ret, l_iteN, ↓h_put_get, ↓h_new_get, ↓h_del_get, h_next_put, h_next_new, h_next_del, Nat.add_assoc, Nat.add_eq_left, Nat.left_eq_add, Nat.add_left_cancel_iff, ↓s_load, m_load, ↓m_load1, m_load1, ↓m_st, m_stE, m_storeI, m_storeE, ↓s_alloc, ↓x_idxA, ↓x_idxS, x_idxAE, x_idxSE, x_addrE, x_idx, x_lenS, ↓s_len, ↓x_buildS, x_buildE, ↓x_P0, ↓x_P1, x_fill0, x_filli, x_fills, x_fillb, c_int, List.length_cons, List.length_nil, List.cons_append, List.drop_succ_cons, List.drop_zero, List.drop_nil, List.nil_append, Int.reduceAdd, Int.reduceToNat, Int.reduceLT, Int.reduceLE, Nat.reduceAdd, Nat.reduceMul, Nat.reduceLeDiff, Int.reduceEq, Int.reduceSub, Int.cast_ofNat_Int, s_resc, s_consR, m_load4, m_store4, s_res0, ↓s_skip, ↓s_ops, ↓s_dops, ↓s_seq, ↓s_cond, ↓s_block, ↓s_exit, ↓s_ret, ↓s_scope, ↓s_nil, ↓s_op, ↓s_opg, ↓s_wanted', ↓s_wantV, s_wantV, s_wantV0, beq_true, beq_false, ↓s_bindS, s_bindS, ↓s_bindE, s_bindE, s_bindE_ret, s_bindE_exit, s_bindE_iteN, s_norm, ↓s_condV, s_condV, s_block_ret, s_block_normal, s_block_exit, s_block_iteN, ↓s_getp, ↓s_getp0, ↓s_get, s_get0, ↓s_con, ↓s_fn, ↓s_os0, ↓s_os1, ↓s_list0, ↓s_list1, ↓s_mov, ↓s_pick, ↓s_pickE, s_pickE, ↓s_bin, ↓s_un, ↓s_minmax, ↓s_call, ↓s_callv, ↓s_callV, ↓s_ext, s_same, b_eql, b_neq, b_lss, b_leq, b_gtr, b_geq, b_add, b_sub, b_mul, b_eqlb, b_neqb, b_fnil, b_fnil', b_fnil2, b_fnil2', u_neg, u_not, m_two, s_end, s_end', s_end_iteN, s_res0, s_res1, s_tup1, s_tup2, ↓iteN_true, ↓iteN_false, iteN_true, iteN_false, Nat.zero_add, List.nil_append, List.append_nil, Nat.reduceEqDiff, reduceIte, decide_true, decide_false, Bool.not_true, Bool.not_false, List.getElem?_cons_zero, List.getElem?_cons_succ, Bool.false_eq_true, if_true, if_false, beq_self_eq_true]
    exact ⟨_, rfl⟩
  have c3 : decide ((3000 : Int) < (lc.length : Int)) = false := decide_eq_false (by omega)
  have wx : wr .i64 (x : Int) = (x : Int) := w64n (by omega)
  have wy : wr .i64 (y : Int) = (y : Int) := w64n (by omega)
  have w1 : wr .i64 ((la.length : Int) + 1) = ((la.length + 1 : Nat) : Int) := by rw [wr_i64 (by omega)]; omega
  obtain ⟨i, ei⟩ : ∃ n, x % (la.length + 1) = n := ⟨_, rfl⟩
  have hi : i ≤ la.length := by have := Nat.mod_lt x (Nat.succ_pos la.length); simp only [Nat.succ_eq_add_one] at this; omega
  have ra : ∀ e h, binV .rem e h (.int .i64 (x : Int)) (.int .i64 ((la.length + 1 : Nat) : Int)) = some (.int .i64 (i : Int)) := fun e h => by rw [b_rem _ _ _ _ _ (by omega), ← ei]; rfl
  have w2 : wr .i64 ((la.length : Int) - (i : Int)) = ((la.length - i : Nat) : Int) := by rw [wr_i64 (by omega)]; omega
  have w3 : wr .i64 (((la.length - i : Nat) : Int) + 1) = ((la.length - i + 1 : Nat) : Int) := by rw [wr_i64 (by omega)]; omega
  obtain ⟨k, ek⟩ : ∃ n, y % (la.length - i + 1) = n := ⟨_, rfl⟩
  have hk : k ≤ la.length - i := by have := Nat.mod_lt y (Nat.succ_pos (la.length - i)); simp only [Nat.succ_eq_add_one] at this; omega
  have rb : ∀ e h, binV .rem e h (.int .i64 (y : Int)) (.int .i64 ((la.length - i + 1 : Nat) : Int)) = some (.int .i64 (k : Int)) := fun e h => by rw [b_rem _ _ _ _ _ (by omega), ← ek]; rfl
  obtain ⟨j, ej⟩ : ∃ n, i + k = n := ⟨_, rfl⟩
  have w4 : wr .i64 ((i : Int) + (k : Int)) = (j : Int) := by rw [wr_i64 (by omega)]; omega
  have sv1 := slcV_hiA la.length i a .i64 hi
  have sv2 := slcV_lhA la.length i j a .i64 .i64 (by omega) (by omega)
  have sv3 := slcV_loA la.length j a .i64 (by omega)
  have lt1 : (la.take i).length = i := by rw [List.length_take]; omega
  have lt2 : ((la.take j).drop i).length = j - i := by rw [List.length_drop, List.length_take]; omega
  have lt3 : (la.drop j).length = la.length - j := List.length_drop ..
  have bt1 : byt (la.take i) = true := byt_iff.2 (fun x hx => byt_iff.1 ba x (List.mem_of_mem_take hx))
  have bt2 : byt ((la.take j).drop i) = true := byt_iff.2 (fun x hx => byt_iff.1 ba x (List.mem_of_mem_take (List.mem_of_mem_drop hx)))
  have bt3 : byt (la.drop j) = true := byt_iff.2 (fun x hx => byt_iff.1 ba x (List.mem_of_mem_drop hx))
  obtain ⟨S, eS⟩ : ∃ s, onV 0 la = s := ⟨_, rfl⟩
  have sum : onV (onV (onV 0 (la.take i)) ((la.take j).drop i)) (la.drop j) = S := by rw [← onV_app, ← onV_app, cut3 la i j (by omega), eS]
  obtain ⟨hW, eW⟩ : ∃ hW, h.new (.cells [.slice a la.length none 1] .rw) = hW := ⟨_, rfl⟩
  have kW : Kp h hW := by rw [← eW]; exact Kp.new _ _
  obtain ⟨h1, r1, k1⟩ := sum1 e (N := N) hW h.next a la ba (by omega) la.length rfl none 1 (some 1) .rw (by rw [← eW]; exact Nat.lt_succ_self _) (by rw [← eW, h_new_same]) (sa.mono kW)
  have k01 := kW.trans k1
  obtain ⟨hX, eX⟩ : ∃ hX, (bump 2 h1).put h1.next (.cells [.slice a i none 1, .slice (upA a i) (j - i) none 1, .slice (upA a j) (la.length - j) none 1] .rw) = hX := ⟨_, rfl⟩
  have nX : hX.next = h1.next + 2 := by rw [← eX]; rfl
  have kX : Kp h1 hX := by rw [← eX]; exact ⟨by show h1.next ≤ h1.next + 2; omega, fun q hq => by rw [h_put_ne _ _ (by omega)]; rfl⟩
  have k0X := k01.trans kX
  obtain ⟨h2, r2, k2⟩ := sum3 e (N := N) hX h1.next a (upA a i) (upA a j) (la.take i) ((la.take j).drop i) (la.drop j) bt1 bt2 bt3 (by omega) (by omega) (by omega) i (j - i) (la.length - j) lt1 lt2 lt3 (some 3) .rw (by omega) (by rw [← eX, h_put_same]) ((sa.take i).mono k0X) (((sa.take j).drop i).mono k0X) ((sa.drop j).mono k0X)
  rw [sum] at r2
  rw [eS] at r1
  have k02 := k0X.trans k2
  obtain ⟨hY, eY⟩ : ∃ hY, h2.put (h1.next + 1) (.cells [.slice a i none 1] .rw) = hY := ⟨_, rfl⟩
  have nY : hY.next = h2.next := by rw [← eY]; rfl
  have kY : Kp h hY := by rw [← eY]; exact k02.put _ (by have := k01.1; omega)
  obtain ⟨h3, r3, k3⟩ := sum1 e (N := N) hY (h1.next + 1) a (la.take i) bt1 (by omega) i lt1 none 1 (some 1) .rw (by have := k2.1; omega) (by rw [← eY, h_put_same]) ((sa.take i).mono kY)
  have k03 := kY.trans k3
  obtain ⟨h4, r4, k4⟩ := on_go e cr_no (N + 3989) (onV 0 (la.take i)) (onV_lt _ _) ((la.take j).drop i) bt2 (by omega) (by omega) (upA a i) none 1 h3 (((sa.take j).drop i).mono k03)
  have k04 := k03.trans k4
  obtain ⟨h5, r5, k5⟩ := on_go e cr_no (N + 3989) (onV (onV 0 (la.take i)) ((la.take j).drop i)) (onV_lt _ _) (la.drop j) bt3 (by omega) (by omega) (upA a j) none 1 h4 ((sa.drop j).mono k04)
  have k05 := k04.trans k5
  rw [lt2] at r4
  rw [lt3, sum] at r5
  rw [show N + 3989 + 10 = N + 3999 from rfl] at r4 r5
  obtain ⟨n, en⟩ : ∃ n, min (min la.length lb.length) lc.length = n := ⟨_, rfl⟩
  have mm := min3 la.length lb.length lc.length
  rw [en] at mm
  have ov := onV_over la lb lc ba bb bc n (by omega) (by omega) (by omega)
  have ovx : onV 0 (over3 la lb lc n) = xr (xr (onV 0 (la.take n)) (onV 0 (lb.take n))) (onV 0 (lc.take n)) := by
    rw [← ov]
    have l1 := onV_lt 0 (la.take n)
    have l2 := onV_lt 0 (lb.take n)
    have l3 := onV_lt 0 (lc.take n)
    have e1 : xr (onV 0 (la.take n)) (onV 0 (lb.take n)) = onV 0 (la.take n) ^^^ onV 0 (lb.take n) := by unfold xr; rw [Nat.mod_eq_of_lt l1, Nat.mod_eq_of_lt l2]; rfl
    have l12 : onV 0 (la.take n) ^^^ onV 0 (lb.take n) < 4294967296 := Nat.xor_lt_two_pow (n := 32) l1 l2
    rw [e1]; unfold xr; rw [Nat.mod_eq_of_lt l12, Nat.mod_eq_of_lt l3]; rfl
  have oby := over3_byt la lb lc ba bb bc n
  have tb : ∀ l : List Nat, byt l = true → byt (l.take n) = true := fun l hl => byt_iff.2 (fun x hx => byt_iff.1 hl x (List.mem_of_mem_take hx))
  have tl : ∀ l : List Nat, n ≤ l.length → (l.take n).length = n := fun l hl => by rw [List.length_take]; omega
  have sva := slcV_hiA la.length n a .i64 (by omega)
  have svb := slcV_hiA lb.length n b .i64 (by omega)
  have svc := slcV_hiA lc.length n c .i64 (by omega)
  have fin : ∀ T, CL a b c la lb lc n h5 0 T h5 → ∃ h2, fnEnd [.tmp 10] (bindE (blockE 0 (loopN (evC (callX E (crX k_purserlaw02_alive) (N + 3999)) 141 (N + 3999) none L_purserlaw02_CrcParts_0) (N + 3999) ⟨T, [], h5⟩)) (evC (callX E (crX k_purserlaw02_alive) (N + 3999)) 141 (N + 3999) none R_purserlaw02_CrcParts_0)) = some (.bool true, h2) := by
    intro T I
    obtain ⟨T', h6, r6, il, t0, t1, t2, t11, t15, t17, t16, kp⟩ := cl_loop (callX E (crX k_purserlaw02_alive) (N + 3999)) (N + 3999) a b c la lb lc ba bb bc n (by omega) (by omega) (by omega) (by omega) (by omega) h5 (sa.mono k05).toI (sb.mono k05).toI (sc.mono k05).toI T h5 I
    rw [r6]
    have k06 := k05.trans kp
    obtain ⟨ao, co, ez, tv, so⟩ : ∃ ao co ez, evO T' (.t 16) = .slice ao n co ez ∧ SrcH h6 ao ez (over3 la lb lc n) := by
      rcases t16 with ⟨h0, t⟩ | ⟨h1, p, md, t, gp, _, _, hpn⟩
      · exact ⟨none, some 0, 0, by rw [t, h0], .inl (by rw [h0]; rfl)⟩
      · exact ⟨some (p, 0), none, 1, t, .inr ⟨p, 0, _, md, rfl, rfl, hpn, gp, by rw [ofI_len]; omega, by rw [List.drop_zero]; exact List.take_of_length_le (by rw [ofI_len]; exact Nat.le_refl _)⟩⟩
    obtain ⟨hA, eA⟩ : ∃ hA, (bump 4 h6).put h6.next (.cells [.slice ao n co ez] .rw) = hA := ⟨_, rfl⟩
    have nA : hA.next = h6.next + 4 := by rw [← eA]; rfl
    have kA : Kp h6 hA := by rw [← eA]; exact ⟨by show h6.next ≤ h6.next + 4; omega, fun q hq => by rw [h_put_ne _ _ (by omega)]; rfl⟩
    obtain ⟨h7, r7, k7⟩ := sum1 e (N := N) hA h6.next ao (over3 la lb lc n) oby (by rw [over3_len]; omega) n (over3_len _ _ _ _) co ez (some 1) .rw (by omega) (by rw [← eA, h_put_same]) (so.mono kA)
    have k67 := kA.trans k7
    obtain ⟨hB, eB⟩ : ∃ hB, h7.put (h6.next + 1) (.cells [.slice a n none 1] .rw) = hB := ⟨_, rfl⟩
    have nB : hB.next = h7.next := by rw [← eB]; rfl
    have kB : Kp h6 hB := by rw [← eB]; exact k67.put _ (by omega)
    obtain ⟨h8, r8, k8⟩ := sum1 e (N := N) hB (h6.next + 1) a (la.take n) (tb la ba) (by rw [tl la (by omega)]; omega) n (tl la (by omega)) none 1 (some 1) .rw (by have := k7.1; omega) (by rw [← eB, h_put_same]) ((sa.take n).mono (k06.trans kB))
    have k68 := kB.trans k8
    obtain ⟨hC, eC⟩ : ∃ hC, h8.put (h6.next + 2) (.cells [.slice b n none 1] .rw) = hC := ⟨_, rfl⟩
    have nC : hC.next = h8.next := by rw [← eC]; rfl
    have kC : Kp h6 hC := by rw [← eC]; exact k68.put _ (by omega)
    obtain ⟨h9, r9, k9⟩ := sum1 e (N := N) hC (h6.next + 2) b (lb.take n) (tb lb bb) (by rw [tl lb (by omega)]; omega) n (tl lb (by omega)) none 1 (some 1) .rw (by have := k8.1; have := k7.1; omega) (by rw [← eC, h_put_same]) ((sb.take n).mono (k06.trans kC))
    have k69 := kC.trans k9
    obtain ⟨hD, eD⟩ : ∃ hD, h9.put (h6.next + 3) (.cells [.slice c n none 1] .rw) = hD := ⟨_, rfl⟩
    have nD : hD.next = h9.next := by rw [← eD]; rfl
    have kD : Kp h6 hD := by rw [← eD]; exact k69.put _ (by omega)
    obtain ⟨h10, r10, k10⟩ := sum1 e (N := N) hD (h6.next + 3) c (lc.take n) (tb lc bc) (by rw [tl lc (by omega)]; omega) n (tl lc (by omega)) none 1 (some 1) .rw (by have := k9.1; have := k8.1; have := k7.1; omega) (by rw [← eD, h_put_same]) ((sc.take n).mono (k06.trans kD))
    rw [ovx] at r7
    generalize onV 0 (la.take n) = S1 at *
    generalize onV 0 (lb.take n) = S2 at *
    generalize onV 0 (lc.take n) = S3 at *
    have eqS : ∀ (z : Nat) (e : EqK) (h : H), binV .eql e h (.int .u32 (z : Int)) (.int .u32 (z : Int)) = some (.bool true) := fun z e h => by rw [b_eql, decide_eq_true rfl]
    have eqS' := eqS (xr (xr S1 S2) S3)
    simp (config := {maxSteps := 2000000}) (disch := first | omega | rfl | (simp only [ofI_len, List.length_append, List.length_take, List.length_drop, List.length_cons, List.length_nil, List.length_replicate, List.length_set]; done) | (simp only [ofI_len, List.length_append, List.length_take, List.length_drop, List.length_cons, List.length_nil, List.length_replicate, List.length_set]; omega)) only [R_purserlaw02_CrcParts_0, t0, t1, t2, t11, t15, tv, sva, svb, svc, eA, r7, eB, r8, eC, r9, eD, r10, eqS', ↓x_slcS, x_M0, x_M1, ↓s_dBuildS, ↓s_dBuildSg, s_dbE, ↓b_xor32, ↓b_and32, ↓b_or32, ↓u_not32, b_xor32, b_and32, b_or32, u_not32, w32ad, ↓x_conv, x_convV, ↓x_fieldAddr, x_fieldV, ↓s_nilchk, x_nilchk, Nat.zero_add, Nat.add_zero, Nat.mul_one, ↓s_evD, ↓s_dnil, ↓s_dL, ↓s_dLg, ↓s_dR, ↓s_dRg, ↓s_dRj, ↓s_dRjg, ↓s_dB, ↓s_dBg, ↓s_dAlloc, ↓s_bindD, s_bindD, s_finD, s_finDx, s_addP0, s_addP1, s_addB, s_lookP, ↓s_bump0, ↓s_bump_get, s_bump_next, s_ok0, ↓s_ok1, s_okR0, ↓s_okR1, ↓s_okE, s_okE, s_okE1, s_nth0, s_nthS, Nat.add_zero, Bool.and_self, Bool.and_true, Bool.true_and, ↓l_loop, ↓l_succ, ↓l_normal, l_normal, l_exit, l_ret, l_iteN, ↓h_put_get, ↓h_new_get, ↓h_del_get, h_next_put, h_next_new, h_next_del, Nat.add_assoc, Nat.add_eq_left, Nat.left_eq_add, Nat.add_left_cancel_iff, ↓s_load, m_load, ↓m_load1, m_load1, ↓m_st, m_stE, m_storeI, m_storeE, w_zero, w_succ, ↓s_alloc, ↓x_idxA, ↓x_idxS, x_idxAE, x_idxSE, x_addrE, x_idx, x_lenS, ↓s_len, ↓x_buildS, x_buildE, ↓x_P0, ↓x_P1, x_fill0, x_filli, x_fills, x_fillb, c_int, List.length_cons, List.length_nil, List.cons_append, List.drop_succ_cons, List.drop_zero, List.drop_nil, List.nil_append, Int.reduceAdd, Int.reduceToNat, Int.reduceLT, Int.reduceLE, Nat.reduceAdd, Nat.reduceMul, Nat.reduceLeDiff, Int.reduceEq, Int.reduceSub, Int.cast_ofNat_Int, s_resc, s_consR, m_load4, m_store4, s_res0, ↓s_skip, ↓s_ops, ↓s_dops, ↓s_seq, ↓s_cond, ↓s_block, ↓s_exit, ↓s_ret, ↓s_scope, ↓s_nil, ↓s_op, ↓s_opg, ↓s_wanted', ↓s_wantV, s_wantV, s_wantV0, beq_true, beq_false, ↓s_bindS, s_bindS, ↓s_bindE, s_bindE, s_bindE_ret, s_bindE_exit, s_bindE_iteN, s_norm, ↓s_condV, s_condV, s_block_ret, s_block_normal, s_block_exit, s_block_iteN, ↓s_getp, ↓s_getp0, ↓s_get, s_get0, ↓s_con, ↓s_fn, ↓s_os0, ↓s_os1, ↓s_list0, ↓s_list1, ↓s_mov, ↓s_pick, ↓s_pickE, s_pickE, ↓s_bin, ↓s_un, ↓s_minmax, ↓s_call, ↓s_callv, ↓s_callV, ↓s_ext, s_same, b_eql, b_neq, b_lss, b_leq, b_gtr, b_geq, b_add, b_sub, b_mul, b_eqlb, b_neqb, b_fnil, b_fnil', b_fnil2, b_fnil2', u_neg, u_not, m_two, s_end, s_end', s_end_iteN, s_res0, s_res1, s_tup1, s_tup2, ↓iteN_true, ↓iteN_false, iteN_true, iteN_false, Nat.zero_add, List.nil_append, List.append_nil, Nat.reduceEqDiff, reduceIte, decide_true, decide_false, Bool.not_true, Bool.not_false, List.getElem?_cons_zero, List.getElem?_cons_succ, Bool.false_eq_true, if_true, if_false, beq_self_eq_true]
    exact ⟨_, rfl⟩
  obtain ⟨R, eR⟩ : ∃ R, R_purserlaw02_CrcParts_0 = R := ⟨_, rfl⟩
  obtain ⟨Lo, eL⟩ : ∃ R, L_purserlaw02_CrcParts_0 = R := ⟨_, rfl⟩
  rw [eR, eL] at fin ⊢
  generalize onV 0 (la.take i) = A1 at r3 r4 r5
  generalize onV A1 ((la.take j).drop i) = A2 at r4 r5
  simp (config := {maxSteps := 2000000}) (disch := first | omega | rfl | (simp only [ofI_len, List.length_append, List.length_take, List.length_drop, List.length_cons, List.length_nil, List.length_replicate, List.length_set]; done) | (simp only [ofI_len, List.length_append, List.length_take, List.length_drop, List.length_cons, List.length_nil, List.length_replicate, List.length_set]; omega)) only [al, c1, c2, c3, wx, wy, w1, w2, w3, w4, ra, rb, sv1, sv2, sv3, b_neS, eW, r1, eX, r2, eY, r3, r4, r5, mm, ↓s_minmax, ↓s_len, x_lenS, ↓x_slcS, x_M0, x_M1, ↓s_dBuildS, ↓s_dBuildSg, s_dbE, ↓b_xor32, ↓b_and32, ↓b_or32, ↓u_not32, b_xor32, b_and32, b_or32, u_not32, w32ad, ↓x_conv, x_convV, ↓x_fieldAddr, x_fieldV, ↓s_nilchk, x_nilchk, Nat.zero_add, Nat.add_zero, Nat.mul_one, ↓s_evD, ↓s_dnil, ↓s_dL, ↓s_dLg, ↓s_dR, ↓s_dRg, ↓s_dRj, ↓s_dRjg, ↓s_dB, ↓s_dBg, ↓s_dAlloc, ↓s_bindD, s_bindD, s_finD, s_finDx, s_addP0, s_addP1, s_addB, s_lookP, ↓s_bump0, ↓s_bump_get, s_bump_next, s_ok0, ↓s_ok1, s_okR0, ↓s_okR1, ↓s_okE, s_okE, s_okE1, s_nth0, s_nthS, Nat.add_zero, Bool.and_self, Bool.and_true, Bool.true_and, ↓l_loop, ↓l_succ, ↓l_normal, l_normal, l_exit, l_ret, l_iteN, ↓h_put_get, ↓h_new_get, ↓h_del_get, h_next_put, h_next_new, h_next_del, Nat.add_assoc, Nat.add_eq_left, Nat.left_eq_add, Nat.add_left_cancel_iff, ↓s_load, m_load, ↓m_load1, m_load1, ↓m_st, m_stE, m_storeI, m_storeE, w_zero, w_succ, ↓s_alloc, ↓x_idxA, ↓x_idxS, x_idxAE, x_idxSE, x_addrE, x_idx, x_lenS, ↓s_len, ↓x_buildS, x_buildE, ↓x_P0, ↓x_P1, x_fill0, x_filli, x_fills, x_fillb, c_int, List.length_cons, List.length_nil, List.cons_append, List.drop_succ_cons, List.drop_zero, List.drop_nil, List.nil_append, Int.reduceAdd, Int.reduceToNat, Int.reduceLT, Int.reduceLE, Nat.reduceAdd, Nat.reduceMul, Nat.reduceLeDiff, Int.reduceEq, Int.reduceSub, Int.cast_ofNat_Int, s_resc, s_consR, m_load4, m_store4, s_res0, ↓s_skip, ↓s_ops, ↓s_dops, ↓s_seq, ↓s_cond, ↓s_block, ↓s_exit, ↓s_ret, ↓s_scope, ↓s_nil, ↓s_op, ↓s_opg, ↓s_wanted', ↓s_wantV, s_wantV, s_wantV0, beq_true, beq_false, ↓s_bindS, s_bindS, ↓s_bindE, s_bindE, s_bindE_ret, s_bindE_exit, s_bindE_iteN, s_norm, ↓s_condV, s_condV, s_block_ret, s_block_normal, s_block_exit, s_block_iteN, ↓s_getp, ↓s_getp0, ↓s_get, s_get0, ↓s_con, ↓s_fn, ↓s_os0, ↓s_os1, ↓s_list0, ↓s_list1, ↓s_mov, ↓s_pick, ↓s_pickE, s_pickE, ↓s_bin, ↓s_un, ↓s_minmax, ↓s_call, ↓s_callv, ↓s_callV, ↓s_ext, s_same, b_eql, b_neq, b_lss, b_leq, b_gtr, b_geq, b_add, b_sub, b_mul, b_eqlb, b_neqb, b_fnil, b_fnil', b_fnil2, b_fnil2', u_neg, u_not, m_two, s_end, s_end', s_end_iteN, s_res0, s_res1, s_tup1, s_tup2, ↓iteN_true, ↓iteN_false, iteN_true, iteN_false, Nat.zero_add, List.nil_append, List.append_nil, Nat.reduceEqDiff, reduceIte, decide_true, decide_false, Bool.not_true, Bool.not_false, List.getElem?_cons_zero, List.getElem?_cons_succ, Bool.false_eq_true, if_true, if_false, beq_self_eq_true]
  exact fin _ ⟨by omega, (by (simp only [s_getp, s_getp0, Nat.reduceEqDiff, decide_false, decide_true, iteN_false, iteN_true, eL]; try rfl)), (by (simp only [s_getp, s_getp0, Nat.reduceEqDiff, decide_false, decide_true, iteN_false, iteN_true, eL]; try rfl)), (by (simp only [s_getp, s_getp0, Nat.reduceEqDiff, decide_false, decide_true, iteN_false, iteN_true, eL]; try rfl)), (by (simp only [s_getp, s_getp0, Nat.reduceEqDiff, decide_false, decide_true, iteN_false, iteN_true, eL]; try rfl)), (by (simp only [s_getp, s_getp0, Nat.reduceEqDiff, decide_false, decide_true, iteN_false, iteN_true, eL]; try rfl)), (by (simp only [s_getp, s_getp0, Nat.reduceEqDiff, decide_false, decide_true, iteN_false, iteN_true, eL]; try rfl)), .inl ⟨rfl, (by (simp only [s_getp, s_getp0, Nat.reduceEqDiff, decide_false, decide_true, iteN_false, iteN_true, eL]; try rfl))⟩, Kp.refl _⟩
end Go.Eng
namespace Go.Eng
open Go
set_option linter.unusedSimpArgs false
set_option linter.unusedVariables false
/-! bits turned about -/
def ouN (n : Nat) : Nat → Nat
  | 0 => 0
  | i + 1 => 2 * ouN n i + n / 2 ^ i % 2
def rev (n : Nat) : Nat := ouN n 32
theorem ouN_lt (n : Nat) : ∀ i, ouN n i < 2 ^ i := by
  intro i
  induction i with
  | zero => exact Nat.one_pos
  | succ i ih =>
    show 2 * ouN n i + n / 2 ^ i % 2 < 2 ^ (i + 1)
    rw [Nat.pow_succ]; omega
theorem rev_lt (n : Nat) : rev n < 4294967296 := ouN_lt n 32
theorem ouN_bit (n : Nat) : ∀ i j, (ouN n i).testBit j = (decide (j < i) && n.testBit (i - 1 - j)) := by
  intro i
  induction i with
  | zero => intro j; show (0 : Nat).testBit j = _; rw [Nat.zero_testBit]; simp
  | succ i ih =>
    intro j
    show (2 * ouN n i + n / 2 ^ i % 2).testBit j = _
    cases j with
    | zero =>
      rw [Nat.testBit_zero, Nat.testBit_eq_decide_div_mod_eq]
      simp only [Nat.sub_zero, Nat.add_sub_cancel, Nat.zero_lt_succ, decide_true, Bool.true_and]
      congr 1
      rw [show (2 * ouN n i + n / 2 ^ i % 2) % 2 = n / 2 ^ i % 2 by omega]
    | succ j =>
      rw [Nat.testBit_succ, show (2 * ouN n i + n / 2 ^ i % 2) / 2 = ouN n i by omega, ih j]
      rw [show i + 1 - 1 - (j + 1) = i - 1 - j by omega]
      congr 1
      rw [decide_eq_decide]; omega
theorem rev_bit (n j : Nat) : (rev n).testBit j = (decide (j < 32) && n.testBit (31 - j)) := ouN_bit n 32 j
theorem high0 (n i : Nat) (h : n < 4294967296) (hi : 32 ≤ i) : n.testBit i = false := Nat.testBit_lt_two_pow (show n < 2 ^ i from Nat.lt_of_lt_of_le h (Nat.pow_le_pow_right (n := 2) (i := 32) (j := i) (by omega) (by omega)))
theorem rev_rev (n : Nat) (h : n < 4294967296) : rev (rev n) = n := by
  apply Nat.eq_of_testBit_eq; intro i
  rw [rev_bit, rev_bit]
  by_cases hi : i < 32
  · rw [decide_eq_true hi, decide_eq_true (by omega), show 31 - (31 - i) = i by omega]; rfl
  · rw [decide_eq_false hi, high0 n i h (by omega)]; rfl
def cP (x : Nat) : Nat := if x = 1 then 2197175160 else 0
def stp (r b : Nat) : Nat := (r / 2) ^^^ cP ((r + b) % 2)
theorem cP_lt (x : Nat) : cP x < 4294967296 := by unfold cP; split <;> omega
theorem stp_lt (r b : Nat) (h : r < 4294967296) : stp r b < 4294967296 := Nat.xor_lt_two_pow (n := 32) (by show r / 2 < 4294967296; omega) (cP_lt _)
theorem xdiv2 (a b : Nat) : (a ^^^ b) / 2 = (a / 2) ^^^ (b / 2) := by
  apply Nat.eq_of_testBit_eq; intro i
  rw [← Nat.testBit_succ, Nat.testBit_xor, Nat.testBit_xor, ← Nat.testBit_succ, ← Nat.testBit_succ]
theorem xmod2 (a b : Nat) (ha : a % 2 = 0) : (a ^^^ b) % 2 = b % 2 := by
  have e := Nat.testBit_xor a b 0
  rw [Nat.testBit_zero, Nat.testBit_zero, Nat.testBit_zero, ha, show decide ((0 : Nat) = 1) = false from rfl, Bool.false_xor, decide_eq_decide] at e
  omega
theorem st_even (a x b : Nat) (ha : a % 2 = 0) : stp (a ^^^ x) b = (a / 2) ^^^ stp x b := by
  unfold stp
  have hm := xmod2 a x ha
  rw [xdiv2, Nat.xor_assoc, show ((a ^^^ x) + b) % 2 = (x + b) % 2 by omega]
def F4 (r n : Nat) : Nat := stp (stp (stp (stp r (n % 2)) (n / 2 % 2)) (n / 4 % 2)) (n / 8 % 2)
theorem F4_small (m n : Nat) (hm : m < 16) (hn : n < 16) : F4 m n = tab.getD (m ^^^ n) 0 := by
  have : ∀ i j : Fin 16, F4 i.val j.val = tab.getD (i.val ^^^ j.val) 0 := by decide +kernel
  exact this ⟨m, hm⟩ ⟨n, hn⟩
theorem split16 (r : Nat) : r = (16 * (r / 16)) ^^^ (r % 16) := by
  have h1 := xdiv (16 * (r / 16)) (r % 16)
  have h2 := xmod (16 * (r / 16)) (r % 16)
  rw [show 16 * (r / 16) / 16 = r / 16 by omega, show r % 16 / 16 = 0 by omega, Nat.xor_zero] at h1
  rw [show 16 * (r / 16) % 16 = 0 by omega, show r % 16 % 16 = r % 16 by omega, Nat.zero_xor] at h2
  omega
theorem nib_F4 (r n : Nat) (hn : n < 16) : nib r n = F4 r n := by
  have e : F4 r n = (r / 16) ^^^ F4 (r % 16) n := by
    have s := split16 r
    generalize r / 16 = q at *
    generalize r % 16 = m at *
    subst s
    unfold F4
    rw [st_even _ _ _ (by omega), st_even _ _ _ (by omega), st_even _ _ _ (by omega), st_even _ _ _ (by omega)]
    congr 1
    omega
  rw [e, F4_small _ _ (by omega) hn]; rfl
def G8 (r y : Nat) : Nat → Nat
  | 0 => r
  | i + 1 => stp (G8 r y i) (y / 2 ^ i % 2)
theorem G8_lt (r y : Nat) (h : r < 4294967296) : ∀ i, G8 r y i < 4294967296 := by
  intro i
  induction i with
  | zero => exact h
  | succ i ih => exact stp_lt _ _ ih
theorem stepB_G8 (r y : Nat) (hy : y < 256) : stepB r y = G8 r y 8 := by
  unfold stepB
  rw [nib_F4 _ _ (by omega), nib_F4 _ _ (by omega)]
  show stp (stp (stp (stp (stp (stp (stp (stp r (y % 16 % 2)) (y % 16 / 2 % 2)) (y % 16 / 4 % 2)) (y % 16 / 8 % 2)) (y / 16 % 2)) (y / 16 / 2 % 2)) (y / 16 / 4 % 2)) (y / 16 / 8 % 2) = stp (stp (stp (stp (stp (stp (stp (stp r (y / 1 % 2)) (y / 2 % 2)) (y / 4 % 2)) (y / 8 % 2)) (y / 16 % 2)) (y / 32 % 2)) (y / 64 % 2)) (y / 128 % 2)
  rw [show y % 16 % 2 = y / 1 % 2 by omega, show y % 16 / 2 % 2 = y / 2 % 2 by omega, show y % 16 / 4 % 2 = y / 4 % 2 by omega, show y % 16 / 8 % 2 = y / 8 % 2 by omega, show y / 16 / 2 = y / 32 by omega, show y / 16 / 4 = y / 64 by omega, show y / 16 / 8 = y / 128 by omega]
def restV (r b : Nat) : Nat := if (r / 2147483648 + b) % 2 = 1 then (2 * r % 4294967296) ^^^ 517762881 else 2 * r % 4294967296
theorem poly_bit (j : Nat) : (517762881 : Nat).testBit j = (decide (j < 32) && (2197175160 : Nat).testBit (31 - j)) := by
  by_cases hj : j < 32
  · have : ∀ i : Fin 32, (517762881 : Nat).testBit i.val = (2197175160 : Nat).testBit (31 - i.val) := by decide +kernel
    rw [decide_eq_true hj, Bool.true_and]; exact this ⟨j, hj⟩
  · rw [decide_eq_false hj, high0 _ _ (by decide) (by omega)]; rfl
theorem low_bit (reg j : Nat) (h : reg < 4294967296) : (2 * rev reg % 4294967296).testBit j = (decide (j < 32) && (reg / 2).testBit (31 - j)) := by
  rw [show (4294967296 : Nat) = 2 ^ 32 from rfl, Nat.testBit_mod_two_pow]
  by_cases hj : j < 32
  · rw [decide_eq_true hj, Bool.true_and, Bool.true_and, ← Nat.testBit_succ]
    cases j with
    | zero => rw [Nat.testBit_zero, high0 reg 32 h (by omega)]; simp
    | succ j =>
      rw [Nat.testBit_succ, show 2 * rev reg / 2 = rev reg by omega, rev_bit, decide_eq_true (by omega), Bool.true_and, show (31 - (j + 1)).succ = 31 - j by omega]
  · rw [decide_eq_false hj]; rfl
theorem rest_rev (reg b : Nat) (h : reg < 4294967296) : restV (rev reg) b = rev (stp reg b) := by
  have top : rev reg / 2147483648 % 2 = reg % 2 := by
    have e := rev_bit reg 31
    rw [Nat.testBit_eq_decide_div_mod_eq, show 31 - 31 = 0 from rfl, Nat.testBit_zero] at e
    simp only [show (31 : Nat) < 32 by omega, decide_true, Bool.true_and, decide_eq_decide] at e
    have : rev reg / 2 ^ 31 = rev reg / 2147483648 := rfl
    omega
  unfold restV stp cP
  rw [show (rev reg / 2147483648 + b) % 2 = (reg + b) % 2 by omega]
  apply Nat.eq_of_testBit_eq; intro j
  rw [rev_bit]
  split
  · rw [Nat.testBit_xor, Nat.testBit_xor, low_bit reg j h, poly_bit]
    cases decide (j < 32) <;> rfl
  · rw [Nat.xor_zero, low_bit reg j h]
end Go.Eng
namespace Go.Eng
open Go
set_option linter.unusedSimpArgs false
set_option linter.unusedVariables false
/-! a run of turned bits is found: a step with no bit loses nothing -/
theorem stp_lin (r r' b b' : Nat) (hb : b < 2) (hb' : b' < 2) : stp (r ^^^ r') (b ^^^ b') = stp r b ^^^ stp r' b' := by
  have hx : (b ^^^ b') < 2 := Nat.xor_lt_two_pow (n := 1) hb hb'
  have m2 : ∀ x y : Nat, (x ^^^ y) % 2 = (x % 2 + y % 2) % 2 := by
    intro x y
    have e := Nat.testBit_xor x y 0
    rw [Nat.testBit_zero, Nat.testBit_zero, Nat.testBit_zero] at e
    rcases Nat.mod_two_eq_zero_or_one x with h1 | h1 <;> rcases Nat.mod_two_eq_zero_or_one y with h2 | h2 <;> rcases Nat.mod_two_eq_zero_or_one (x ^^^ y) with h3 | h3 <;> rw [h1, h2, h3] at e <;> first | omega | (exact absurd e (by decide))
  have c : ∀ x y : Nat, x < 2 → y < 2 → cP ((x + y) % 2) = cP x ^^^ cP y := by
    intro x y hx hy
    have : x = 0 ∨ x = 1 := by omega
    have : y = 0 ∨ y = 1 := by omega
    rcases ‹x = 0 ∨ x = 1› with rfl | rfl <;> rcases ‹y = 0 ∨ y = 1› with rfl | rfl <;> decide
  unfold stp
  have e1 : ((r ^^^ r') + (b ^^^ b')) % 2 = ((r + b) % 2 + (r' + b') % 2) % 2 := by
    have h1 := m2 r r'
    have h2 := m2 b b'
    omega
  rw [xdiv2, e1, c _ _ (by omega) (by omega), xor4]
theorem stp_inj0 (r : Nat) (hr : r < 4294967296) (h : stp r 0 = 0) : r = 0 := by
  unfold stp at h
  rw [Nat.add_zero] at h
  have e : r / 2 = cP (r % 2) := by
    have := congrArg (fun z => z ^^^ cP (r % 2)) h
    simp only [Nat.xor_assoc, Nat.xor_self, Nat.xor_zero, Nat.zero_xor] at this
    exact this
  unfold cP at e
  split at e
  · omega
  · omega
theorem stp_0 (b : Nat) : stp 0 b = cP (b % 2) := by
  unfold stp; rw [Nat.zero_add, Nat.zero_div, Nat.zero_xor]
/-- bits, one after the other -/
def bsF (r : Nat) (l : List Nat) : Nat := l.foldl stp r
theorem bsF_lt : ∀ (l : List Nat) (r : Nat), r < 4294967296 → bsF r l < 4294967296 := by
  intro l
  induction l with
  | nil => intro r h; exact h
  | cons a s ih => intro r h; exact ih _ (stp_lt _ _ h)
theorem bsF_zeros0 (n : Nat) : bsF 0 (List.replicate n 0) = 0 := by
  induction n with
  | zero => rfl
  | succ n ih => rw [List.replicate_succ]; show bsF (stp 0 0) _ = 0; rw [show stp 0 0 = 0 from rfl]; exact ih
theorem bsF_zeros (n : Nat) : ∀ r, r < 4294967296 → bsF r (List.replicate n 0) = 0 → r = 0 := by
  induction n with
  | zero => intro r _ h; exact h
  | succ n ih =>
    intro r hr h
    rw [List.replicate_succ] at h
    exact stp_inj0 r hr (ih _ (stp_lt _ _ hr) h)
theorem bsF_app (r : Nat) (a b : List Nat) : bsF r (a ++ b) = bsF (bsF r a) b := List.foldl_append
/-- the lowest k bits, the lowest first -/
def bits : Nat → Nat → List Nat
  | 0, _ => []
  | k + 1, t => t % 2 :: bits k (t / 2)
theorem bits_len : ∀ k t, (bits k t).length = k := by
  intro k
  induction k with
  | zero => intro t; rfl
  | succ k ih => intro t; show (bits k (t / 2)).length + 1 = k + 1; rw [ih]
theorem stp_feed (r t : Nat) : stp (r ^^^ t) 0 = stp r (t % 2) ^^^ (t / 2) := by
  have m2 : (r ^^^ t) % 2 = (r + t % 2) % 2 := by
    have e := Nat.testBit_xor r t 0
    rw [Nat.testBit_zero, Nat.testBit_zero, Nat.testBit_zero] at e
    rcases Nat.mod_two_eq_zero_or_one r with h1 | h1 <;> rcases Nat.mod_two_eq_zero_or_one t with h2 | h2 <;> rcases Nat.mod_two_eq_zero_or_one (r ^^^ t) with h3 | h3 <;> rw [h1, h2, h3] at e <;> first | omega | (exact absurd e (by decide))
  unfold stp
  rw [Nat.add_zero, xdiv2, m2, Nat.xor_assoc, Nat.xor_comm (t / 2), ← Nat.xor_assoc]
theorem bsF_feed : ∀ k r t, t < 2 ^ k → bsF (r ^^^ t) (List.replicate k 0) = bsF r (bits k t) := by
  intro k
  induction k with
  | zero => intro r t h; have : t = 0 := by rw [Nat.pow_zero] at h; omega
            rw [this, Nat.xor_zero]; rfl
  | succ k ih =>
    intro r t h
    rw [List.replicate_succ]
    show bsF (stp (r ^^^ t) 0) (List.replicate k 0) = bsF (stp r (t % 2)) (bits k (t / 2))
    rw [stp_feed, ih _ _ (by rw [Nat.pow_succ] at h; omega)]
/-- a run of 32 bits, one of them set, is not lost -/
theorem run_ne (f g t : Nat) (ht : t < 4294967296) (h : bsF 0 (List.replicate f 0 ++ (bits 32 t ++ List.replicate g 0)) = 0) : t = 0 := by
  rw [bsF_app, bsF_zeros0, bsF_app, ← bsF_feed 32 0 t ht, Nat.zero_xor] at h
  have h1 := bsF_zeros g _ (bsF_lt _ _ ht) h
  exact bsF_zeros 32 t ht h1
theorem run_zero (f g : Nat) : bsF 0 (List.replicate f 0 ++ (bits 32 0 ++ List.replicate g 0)) = 0 := by
  rw [bsF_app, bsF_zeros0, bsF_app, ← bsF_feed 32 0 0 (by decide), Nat.zero_xor, bsF_zeros0, bsF_zeros0]
theorem stepB_bits (r y : Nat) (hy : y < 256) : stepB r y = bsF r (bits 8 y) := by
  rw [stepB_G8 r y hy]
  show stp (stp (stp (stp (stp (stp (stp (stp r (y / 1 % 2)) (y / 2 % 2)) (y / 4 % 2)) (y / 8 % 2)) (y / 16 % 2)) (y / 32 % 2)) (y / 64 % 2)) (y / 128 % 2) = stp (stp (stp (stp (stp (stp (stp (stp r (y % 2)) (y / 2 % 2)) (y / 2 / 2 % 2)) (y / 2 / 2 / 2 % 2)) (y / 2 / 2 / 2 / 2 % 2)) (y / 2 / 2 / 2 / 2 / 2 % 2)) (y / 2 / 2 / 2 / 2 / 2 / 2 % 2)) (y / 2 / 2 / 2 / 2 / 2 / 2 / 2 % 2)
  rw [Nat.div_one]
  simp only [Nat.div_div_eq_div_mul, Nat.reduceMul]
def allBits (l : List Nat) : List Nat := l.flatMap (bits 8)
theorem foldB_bits : ∀ (l : List Nat) (r : Nat), byt l = true → foldB r l = bsF r (allBits l) := by
  intro l
  induction l with
  | nil => intro r _; rfl
  | cons a s ih =>
    intro r h
    have ha := byt_iff.1 h a (List.mem_cons_self ..)
    have hs : byt s = true := byt_iff.2 (fun x hx => byt_iff.1 h x (List.mem_cons_of_mem _ hx))
    show foldB (stepB r a) s = bsF r (bits 8 a ++ allBits s)
    rw [bsF_app, stepB_bits r a ha, ih _ hs]
/-- bits laid over one another -/
theorem bsF_xor : ∀ (a b : List Nat) (r s : Nat), a.length = b.length → (∀ x ∈ a, x < 2) → (∀ x ∈ b, x < 2) → bsF (r ^^^ s) (List.zipWith (· ^^^ ·) a b) = bsF r a ^^^ bsF s b := by
  intro a
  induction a with
  | nil => intro b r s h _ _; cases b with
    | nil => rfl
    | cons => cases h
  | cons x a ih =>
    intro b r s h ha hb
    cases b with
    | nil => cases h
    | cons y b =>
      show bsF (stp (r ^^^ s) (x ^^^ y)) (List.zipWith (· ^^^ ·) a b) = _
      rw [stp_lin _ _ _ _ (ha x (List.mem_cons_self ..)) (hb y (List.mem_cons_self ..)), ih b _ _ (by simpa using h) (fun z hz => ha z (List.mem_cons_of_mem _ hz)) (fun z hz => hb z (List.mem_cons_of_mem _ hz))]
      rfl
end Go.Eng
namespace Go.Eng
open Go
variable {E : Nat → Option Fn} {X : Orc}
set_option linter.unusedSimpArgs false
set_option linter.unusedVariables false
def flV (ps : List Pt) : List Nat := (ps.map (fun q => q.2.2.2)).flatten
theorem flV_app (a b : List Pt) : flV (a ++ b) = flV a ++ flV b := by unfold flV; rw [List.map_append, List.flatten_append]
theorem flV_one (q : Pt) : flV [q] = q.2.2.2 := by unfold flV; simp
/-- a written slice -/
def WS (h : H) (base : Nat) (w : List Nat) (ao : Option (Nat × Nat)) (co : Option Nat) (eo : Nat) : Prop := (w = [] ∧ ao = none ∧ co = some 0 ∧ eo = 0) ∨ (0 < w.length ∧ ∃ q md, ao = some (q, 0) ∧ co = none ∧ eo = 1 ∧ h.get q = some (.cells (ofI .u8 w) md) ∧ isRo md = false ∧ base ≤ q ∧ q < h.next)
theorem WS.src {h : H} {base : Nat} {w : List Nat} {ao : Option (Nat × Nat)} {co : Option Nat} {eo : Nat} (s : WS h base w ao co eo) : SrcH h ao eo w := by
  rcases s with ⟨h1, _⟩ | ⟨h1, q, md, rfl, rfl, rfl, g, _, _, hq⟩
  · exact .inl h1
  · exact .inr ⟨q, 0, _, md, rfl, rfl, hq, g, by rw [ofI_len]; omega, by rw [List.drop_zero]; exact List.take_of_length_le (by rw [ofI_len]; exact Nat.le_refl _)⟩
theorem ap_ws (h : H) (base : Nat) (w l : List Nat) (ao : Option (Nat × Nat)) (co : Option Nat) (eo : Nat) (s : WS h base w ao co eo) (hb : base ≤ h.next) (hl : w.length + l.length ≤ 1000000) :
    ∃ ao' co' eo' h', appendC h 1 1 (.slice ao w.length co eo) (some (l.length, ofI .u8 l)) = some (.slice ao' (w ++ l).length co' eo', h') ∧ WS h' base (w ++ l) ao' co' eo' ∧ h.next ≤ h'.next ∧ ∀ i, i < base → h'.get i = h.get i := by
  cases hn : l.length with
  | zero =>
    obtain rfl : l = [] := List.length_eq_zero_iff.1 hn
    rw [List.append_nil]
    exact ⟨_, _, _, _, appN _ _ _ _ _ _, s, Nat.le_refl _, fun _ _ => rfl⟩
  | succ n =>
    rcases s with ⟨rfl, rfl, rfl, rfl⟩ | ⟨h1, q, md, rfl, rfl, rfl, g, hm, hq0, hq⟩
    · have a := app0 h n 0 .u8 l (some 0) (by omega)
      rw [List.nil_append, hn]
      refine ⟨_, _, _, _, a, .inr ⟨by omega, h.next, .rw, rfl, rfl, rfl, h_new_same _ _, rfl, hb, Nat.lt_succ_self _⟩, Nat.le_succ _, fun i hi => h_new_ne _ _ (by omega)⟩
    · have a := appU_of h q w.length n .u8 l (by omega)
      rw [g, appUI _ _ _ _ hm _ _ _ _ (Nat.le_refl _), take_all w _ (Nat.le_refl _)] at a
      rw [List.length_append, hn]
      refine ⟨_, _, _, _, a, .inr ⟨by rw [List.length_append]; omega, h.next, .sh, rfl, rfl, rfl, h_new_same' _ _ (by rw [h_next_del]), rfl, hb, by simp only [h_next_new, h_next_del]; omega⟩, by simp only [h_next_new, h_next_del]; omega, fun i hi => ?_⟩
      rw [h_new_ne _ _ (by rw [h_next_del]; omega), h_del_ne _ (by omega)]
structure RW (pn p : Nat) (ps : List Pt) (h0 : H) (i : Nat) (T : Tr V) (h : H) : Prop where
  il : i ≤ ps.length
  t0 : evO T (.t 0) = .ptr (some (pn, 0))
  t9 : ∃ c, evO T (.t 9) = .slice (some (p, 0)) ps.length c 1
  t10 : evO T (.t 10) = .int .i64 (ps.length : Int)
  t11 : evO T (.t 11) = .int .i64 (i : Int)
  pen : ∃ ao co eo, h.get pn = some (.cells [.slice ao (flV (ps.take i)).length co eo] .rw) ∧ WS h h0.next (flV (ps.take i)) ao co eo
  nx : h0.next ≤ h.next
  fr : ∀ j, j < h0.next → j ≠ pn → h.get j = h0.get j
theorem rw_step (Q : Orc) (m pn p : Nat) (ps : List Pt) (hl : ps.length < 9223372036854775807) (hf : (flV ps).length ≤ 1000000) (md : Md) (hs h0 : H) (kp : Kp hs h0) (hpn : hs.next ≤ pn) (hpn0 : pn < h0.next) (hp : p < h0.next) (hpp : p ≠ pn) (gp : h0.get p = some (.cells (ps.map slOf) md)) (ok : ∀ q ∈ ps, SrcH hs q.1 q.2.2.1 q.2.2.2) :
    ∀ i T h, i < ps.length → RW pn p ps h0 i T h → ∃ T' h', evC Q 25 m none L_octet_Pen_Raw_0 ⟨T, [], h⟩ = some (.normal, ⟨T', [], h'⟩) ∧ RW pn p ps h0 (i + 1) T' h' := by
  intro i T h hi ⟨_, t0, ⟨c, t9⟩, t10, t11, ⟨ao, co, eo, gpn, ws⟩, nx, fr⟩
  have c0 : decide ((i : Int) < (ps.length : Int)) = true := decide_eq_true (by omega)
  have wi : wr .i64 ((i : Int) + 1) = ((i + 1 : Nat) : Int) := by rw [wr_i64 (by omega)]; omega
  have ix : idx (i : Int) ps.length = some i := idxn hi
  have gp' : h.get p = some (.cells (ps.map slOf) md) := by rw [fr _ hp hpp, gp]
  obtain ⟨q, eq⟩ : ∃ q, ps[i] = q := ⟨_, rfl⟩
  have cg : (ps.map slOf)[i]? = some (.slice q.1 q.2.2.2.length q.2.1 q.2.2.1) := by rw [List.getElem?_map, List.getElem?_eq_getElem hi, eq]; rfl
  have kh : Kp hs h := ⟨Nat.le_trans kp.1 nx, fun j hj => by rw [fr _ (Nat.lt_of_lt_of_le hj kp.1) (by omega), kp.2 _ hj]⟩
  have sc := ((ok q (by rw [← eq]; exact List.getElem_mem hi)).mono kh).cellz q.2.1
  have fo : flV (ps.take (i + 1)) = flV (ps.take i) ++ q.2.2.2 := by
    rw [List.take_add_one, List.getElem?_eq_getElem hi, eq, flV_app]
    show _ ++ flV [q] = _
    rw [flV_one]
  have fl : (flV (ps.take (i + 1))).length ≤ (flV ps).length := by
    have e : flV ps = flV (ps.take (i + 1)) ++ flV (ps.drop (i + 1)) := by rw [← flV_app, List.take_append_drop]
    rw [e, List.length_append]; omega
  rw [fo, List.length_append] at fl
  obtain ⟨ao', co', eo', h1, ap, ws1, n1, f1⟩ := ap_ws h h0.next (flV (ps.take i)) q.2.2.2 ao co eo ws nx (by omega)
  rw [← fo] at ap ws1
  have gp1 : h1.get pn = some (.cells [.slice ao (flV (ps.take i)).length co eo] .rw) := by rw [f1 _ hpn0, gpn]
  obtain ⟨C, eC⟩ : ∃ C, ps.map slOf = C := ⟨_, rfl⟩
  rw [eC] at gp' cg
  have ef : ∀ h, binV .eql (.ref .p) h (.ptr (some (pn, 0))) (.ptr none) = some (.bool false) := fun h => rfl
  obtain ⟨N1, eN1⟩ : ∃ n, (flV (ps.take i)).length = n := ⟨_, rfl⟩
  obtain ⟨N2, eN2⟩ : ∃ n, (flV (ps.take (i + 1))).length = n := ⟨_, rfl⟩
  rw [eN1] at gpn ap gp1
  rw [eN2] at ap
  refine ⟨_, h1.put pn (.cells [.slice ao' N2 co' eo'] .rw), by
    simp (config := {maxSteps := 2000000}) (disch := first | omega | (simp only [List.length_cons, List.length_nil, List.length_append, List.length_drop]; omega)) only [L_octet_Pen_Raw_0, t0, t9, t10, t11, gp', gpn, cg, c0, wi, ix, sc, ap, gp1, m_storeS, ↓s_append, ↓b_xor32, ↓b_and32, ↓b_or32, ↓u_not32, b_xor32, b_and32, b_or32, u_not32, w32ad, ↓x_conv, x_convV, ↓x_fieldAddr, x_fieldV, ↓s_nilchk, x_nilchk, Nat.zero_add, Nat.add_zero, Nat.mul_one, ↓l_loop, ↓l_succ, ↓l_normal, l_normal, l_exit, l_ret, l_iteN, ↓h_put_get, ↓h_new_get, ↓h_del_get, h_next_put, h_next_new, h_next_del, Nat.add_assoc, Nat.add_eq_left, Nat.left_eq_add, Nat.add_left_cancel_iff, ↓s_load, m_load, ↓m_load1, m_load1, ↓m_st, m_stE, m_storeI, m_storeE, w_zero, w_succ, ↓s_alloc, ↓x_idxA, ↓x_idxS, x_idxAE, x_idxSE, x_addrE, x_idx, x_lenS, ↓s_len, ↓x_buildS, x_buildE, ↓x_P0, ↓x_P1, x_fill0, x_filli, x_fills, x_fillb, c_int, List.length_cons, List.length_nil, List.cons_append, List.drop_succ_cons, List.drop_zero, List.drop_nil, List.nil_append, Int.reduceAdd, Int.reduceToNat, Int.reduceLT, Int.reduceLE, Nat.reduceAdd, Nat.reduceMul, Nat.reduceLeDiff, Int.reduceEq, Int.reduceSub, Int.cast_ofNat_Int, s_resc, s_consR, m_load4, m_store4, s_res0, ↓s_skip, ↓s_ops, ↓s_dops, ↓s_seq, ↓s_cond, ↓s_block, ↓s_exit, ↓s_ret, ↓s_scope, ↓s_nil, ↓s_op, ↓s_opg, ↓s_wanted', ↓s_wantV, s_wantV, s_wantV0, beq_true, beq_false, ↓s_bindS, s_bindS, ↓s_bindE, s_bindE, s_bindE_ret, s_bindE_exit, s_bindE_iteN, s_norm, ↓s_condV, s_condV, s_block_ret, s_block_normal, s_block_exit, s_block_iteN, ↓s_getp, ↓s_getp0, ↓s_get, s_get0, ↓s_con, ↓s_fn, ↓s_os0, ↓s_os1, ↓s_list0, ↓s_list1, ↓s_mov, ↓s_pick, ↓s_pickE, s_pickE, ↓s_bin, ↓s_un, ↓s_minmax, ↓s_call, ↓s_callv, ↓s_callV, ↓s_ext, s_same, b_eql, b_neq, b_lss, b_leq, b_gtr, b_geq, b_add, b_sub, b_mul, b_eqlb, b_neqb, b_fnil, b_fnil', b_fnil2, b_fnil2', u_neg, u_not, m_two, s_end, s_end', s_end_iteN, s_res0, s_res1, s_tup1, s_tup2, ↓iteN_true, ↓iteN_false, iteN_true, iteN_false, Nat.zero_add, List.nil_append, List.append_nil, Nat.reduceEqDiff, reduceIte, decide_true, decide_false, Bool.not_true, Bool.not_false, List.getElem?_cons_zero, List.getElem?_cons_succ, Bool.false_eq_true, if_true, if_false, beq_self_eq_true]
    exact rfl, ⟨by omega, (by (simp only [s_getp, s_getp0, Nat.reduceEqDiff, decide_false, decide_true, iteN_false, iteN_true, t0]; try rfl)), ⟨c, (by (simp only [s_getp, s_getp0, Nat.reduceEqDiff, decide_false, decide_true, iteN_false, iteN_true, t9]; try rfl))⟩, (by (simp only [s_getp, s_getp0, Nat.reduceEqDiff, decide_false, decide_true, iteN_false, iteN_true, t10]; try rfl)), (by (simp only [s_getp, s_getp0, Nat.reduceEqDiff, decide_false, decide_true, iteN_false, iteN_true, t11]; try rfl)), ⟨ao', co', eo', by rw [eN2]; exact h_put_same _ _ _, ?_⟩, Nat.le_trans nx n1, fun j hj hne => by rw [h_put_ne _ _ (by omega), f1 _ hj, fr _ hj hne]⟩⟩
  rcases ws1 with w | ⟨w1, q1, m1, e1, e2, e3, g1, r1, b1, l1⟩
  · exact .inl w
  · exact .inr ⟨w1, q1, m1, e1, e2, e3, by rw [h_put_ne _ _ (by omega), g1], r1, b1, l1⟩
theorem raw_go (e : E k_octet_Pen_Raw = some f_octet_Pen_Raw) (x : ∀ a h, X (.fn k_octet_Pen_Raw) a h = none) (M pn p : Nat) (ps : List Pt) (c : Option Nat) (hM : ps.length < M) (hl : ps.length < 9223372036854775807) (hf : (flV ps).length ≤ 1000000) (md : Md) (hs h0 : H) (kp : Kp hs h0) (hpn : hs.next ≤ pn) (hpn0 : pn < h0.next) (hp : p < h0.next) (hpp : p ≠ pn) (gp : h0.get p = some (.cells (ps.map slOf) md)) (ok : ∀ q ∈ ps, SrcH hs q.1 q.2.2.1 q.2.2.2)
    (gpn : h0.get pn = some (.cells [.slice none 0 (some 0) 0] .rw)) :
    ∃ h' ao co eo, callX E X (M + 1) (.fn k_octet_Pen_Raw) [.ptr (some (pn, 0)), .slice (some (p, 0)) ps.length c 1] h0 = some (.int .i64 0, h') ∧ h'.get pn = some (.cells [.slice ao (flV ps).length co eo] .rw) ∧ WS h' h0.next (flV ps) ao co eo ∧ h0.next ≤ h'.next ∧ ∀ j, j < h0.next → j ≠ pn → h'.get j = h0.get j := by
  cases M with
  | zero => cases hM
  | succ M =>
  rw [x_cfn e _ _ (Nat.le_of_ble_eq_true rfl) (x _ _)]
  have fin : ∀ T, RW pn p ps h0 0 T h0 → ∃ h' ao co eo, fnEnd [.tmp 4] (bindE (blockE 0 (loopN (evC (callX E X (M + 1)) 25 (M + 1) none L_octet_Pen_Raw_0) (M + 1) ⟨T, [], h0⟩)) (evC (callX E X (M + 1)) 25 (M + 1) none R_octet_Pen_Raw_0)) = some (.int .i64 0, h') ∧ h'.get pn = some (.cells [.slice ao (flV ps).length co eo] .rw) ∧ WS h' h0.next (flV ps) ao co eo ∧ h0.next ≤ h'.next ∧ ∀ j, j < h0.next → j ≠ pn → h'.get j = h0.get j := by
    intro T I
    obtain ⟨T', h', r, pen, nx, fr⟩ := loop_go (f := evC (callX E X (M + 1)) 25 (M + 1) none L_octet_Pen_Raw_0) (RW pn p ps h0) ps.length (.exit 0) (by intro h; cases h) (fun T h => (∃ ao co eo, h.get pn = some (.cells [.slice ao (flV ps).length co eo] .rw) ∧ WS h h0.next (flV ps) ao co eo) ∧ h0.next ≤ h.next ∧ ∀ j, j < h0.next → j ≠ pn → h.get j = h0.get j) (rw_step _ _ pn p ps hl hf md hs h0 kp hpn hpn0 hp hpp gp ok) (fun T h I => by
      obtain ⟨il, t0, t9, t10, t11, pen, nx, fr⟩ := I
      rw [List.take_length] at pen
      have c0 : decide ((ps.length : Int) < (ps.length : Int)) = false := decide_eq_false (by omega)
      refine ⟨_, _, by
        simp (config := {maxSteps := 2000000}) (disch := first | omega | (simp only [List.length_cons, List.length_nil, List.length_append, List.length_drop]; omega)) only [L_octet_Pen_Raw_0, t10, t11, c0, ↓b_xor32, ↓b_and32, ↓b_or32, ↓u_not32, b_xor32, b_and32, b_or32, u_not32, w32ad, ↓x_conv, x_convV, ↓x_fieldAddr, x_fieldV, ↓s_nilchk, x_nilchk, Nat.zero_add, Nat.add_zero, Nat.mul_one, ↓l_loop, ↓l_succ, ↓l_normal, l_normal, l_exit, l_ret, l_iteN, ↓h_put_get, ↓h_new_get, ↓h_del_get, h_next_put, h_next_new, h_next_del, Nat.add_assoc, Nat.add_eq_left, Nat.left_eq_add, Nat.add_left_cancel_iff, ↓s_load, m_load, ↓m_load1, m_load1, ↓m_st, m_stE, m_storeI, m_storeE, w_zero, w_succ, ↓s_alloc, ↓x_idxA, ↓x_idxS, x_idxAE, x_idxSE, x_addrE, x_idx, x_lenS, ↓s_len, ↓x_buildS, x_buildE, ↓x_P0, ↓x_P1, x_fill0, x_filli, x_fills, x_fillb, c_int, List.length_cons, List.length_nil, List.cons_append, List.drop_succ_cons, List.drop_zero, List.drop_nil, List.nil_append, Int.reduceAdd, Int.reduceToNat, Int.reduceLT, Int.reduceLE, Nat.reduceAdd, Nat.reduceMul, Nat.reduceLeDiff, Int.reduceEq, Int.reduceSub, Int.cast_ofNat_Int, s_resc, s_consR, m_load4, m_store4, s_res0, ↓s_skip, ↓s_ops, ↓s_dops, ↓s_seq, ↓s_cond, ↓s_block, ↓s_exit, ↓s_ret, ↓s_scope, ↓s_nil, ↓s_op, ↓s_opg, ↓s_wanted', ↓s_wantV, s_wantV, s_wantV0, beq_true, beq_false, ↓s_bindS, s_bindS, ↓s_bindE, s_bindE, s_bindE_ret, s_bindE_exit, s_bindE_iteN, s_norm, ↓s_condV, s_condV, s_block_ret, s_block_normal, s_block_exit, s_block_iteN, ↓s_getp, ↓s_getp0, ↓s_get, s_get0, ↓s_con, ↓s_fn, ↓s_os0, ↓s_os1, ↓s_list0, ↓s_list1, ↓s_mov, ↓s_pick, ↓s_pickE, s_pickE, ↓s_bin, ↓s_un, ↓s_minmax, ↓s_call, ↓s_callv, ↓s_callV, ↓s_ext, s_same, b_eql, b_neq, b_lss, b_leq, b_gtr, b_geq, b_add, b_sub, b_mul, b_eqlb, b_neqb, b_fnil, b_fnil', b_fnil2, b_fnil2', u_neg, u_not, m_two, s_end, s_end', s_end_iteN, s_res0, s_res1, s_tup1, s_tup2, ↓iteN_true, ↓iteN_false, iteN_true, iteN_false, Nat.zero_add, List.nil_append, List.append_nil, Nat.reduceEqDiff, reduceIte, decide_true, decide_false, Bool.not_true, Bool.not_false, List.getElem?_cons_zero, List.getElem?_cons_succ, Bool.false_eq_true, if_true, if_false, beq_self_eq_true]
        exact rfl, pen, nx, fr⟩) ps.length 0 (by omega) (M + 1) (by omega) T h0 I
    obtain ⟨ao, co, eo, g, ws⟩ := pen
    rw [r]
    refine ⟨h', ao, co, eo, ?_, g, ws, nx, fr⟩
    simp (config := {maxSteps := 2000000}) (disch := first | omega | (simp only [List.length_cons, List.length_nil, List.length_append, List.length_drop]; omega)) only [R_octet_Pen_Raw_0, ↓b_xor32, ↓b_and32, ↓b_or32, ↓u_not32, b_xor32, b_and32, b_or32, u_not32, w32ad, ↓x_conv, x_convV, ↓x_fieldAddr, x_fieldV, ↓s_nilchk, x_nilchk, Nat.zero_add, Nat.add_zero, Nat.mul_one, ↓l_loop, ↓l_succ, ↓l_normal, l_normal, l_exit, l_ret, l_iteN, ↓h_put_get, ↓h_new_get, ↓h_del_get, h_next_put, h_next_new, h_next_del, Nat.add_assoc, Nat.add_eq_left, Nat.left_eq_add, Nat.add_left_cancel_iff, ↓s_load, m_load, ↓m_load1, m_load1, ↓m_st, m_stE, m_storeI, m_storeE, w_zero, w_succ, ↓s_alloc, ↓x_idxA, ↓x_idxS, x_idxAE, x_idxSE, x_addrE, x_idx, x_lenS, ↓s_len, ↓x_buildS, x_buildE, ↓x_P0, ↓x_P1, x_fill0, x_filli, x_fills, x_fillb, c_int, List.length_cons, List.length_nil, List.cons_append, List.drop_succ_cons, List.drop_zero, List.drop_nil, List.nil_append, Int.reduceAdd, Int.reduceToNat, Int.reduceLT, Int.reduceLE, Nat.reduceAdd, Nat.reduceMul, Nat.reduceLeDiff, Int.reduceEq, Int.reduceSub, Int.cast_ofNat_Int, s_resc, s_consR, m_load4, m_store4, s_res0, ↓s_skip, ↓s_ops, ↓s_dops, ↓s_seq, ↓s_cond, ↓s_block, ↓s_exit, ↓s_ret, ↓s_scope, ↓s_nil, ↓s_op, ↓s_opg, ↓s_wanted', ↓s_wantV, s_wantV, s_wantV0, beq_true, beq_false, ↓s_bindS, s_bindS, ↓s_bindE, s_bindE, s_bindE_ret, s_bindE_exit, s_bindE_iteN, s_norm, ↓s_condV, s_condV, s_block_ret, s_block_normal, s_block_exit, s_block_iteN, ↓s_getp, ↓s_getp0, ↓s_get, s_get0, ↓s_con, ↓s_fn, ↓s_os0, ↓s_os1, ↓s_list0, ↓s_list1, ↓s_mov, ↓s_pick, ↓s_pickE, s_pickE, ↓s_bin, ↓s_un, ↓s_minmax, ↓s_call, ↓s_callv, ↓s_callV, ↓s_ext, s_same, b_eql, b_neq, b_lss, b_leq, b_gtr, b_geq, b_add, b_sub, b_mul, b_eqlb, b_neqb, b_fnil, b_fnil', b_fnil2, b_fnil2', u_neg, u_not, m_two, s_end, s_end', s_end_iteN, s_res0, s_res1, s_tup1, s_tup2, ↓iteN_true, ↓iteN_false, iteN_true, iteN_false, Nat.zero_add, List.nil_append, List.append_nil, Nat.reduceEqDiff, reduceIte, decide_true, decide_false, Bool.not_true, Bool.not_false, List.getElem?_cons_zero, List.getElem?_cons_succ, Bool.false_eq_true, if_true, if_false, beq_self_eq_true]
  have ef : ∀ h, binV .eql (.ref .p) h (.ptr (some (pn, 0))) (.ptr none) = some (.bool false) := fun h => rfl
  obtain ⟨R, eR⟩ : ∃ R, R_octet_Pen_Raw_0 = R := ⟨_, rfl⟩
  obtain ⟨Lo, eL⟩ : ∃ R, L_octet_Pen_Raw_0 = R := ⟨_, rfl⟩
  rw [eR, eL] at fin ⊢
  simp (config := {maxSteps := 2000000}) (disch := first | omega | (simp only [List.length_cons, List.length_nil, List.length_append, List.length_drop]; omega)) only [ef, ↓s_len, x_lenS, ↓b_xor32, ↓b_and32, ↓b_or32, ↓u_not32, b_xor32, b_and32, b_or32, u_not32, w32ad, ↓x_conv, x_convV, ↓x_fieldAddr, x_fieldV, ↓s_nilchk, x_nilchk, Nat.zero_add, Nat.add_zero, Nat.mul_one, ↓l_loop, ↓l_succ, ↓l_normal, l_normal, l_exit, l_ret, l_iteN, ↓h_put_get, ↓h_new_get, ↓h_del_get, h_next_put, h_next_new, h_next_del, Nat.add_assoc, Nat.add_eq_left, Nat.left_eq_add, Nat.add_left_cancel_iff, ↓s_load, m_load, ↓m_load1, m_load1, ↓m_st, m_stE, m_storeI, m_storeE, w_zero, w_succ, ↓s_alloc, ↓x_idxA, ↓x_idxS, x_idxAE, x_idxSE, x_addrE, x_idx, x_lenS, ↓s_len, ↓x_buildS, x_buildE, ↓x_P0, ↓x_P1, x_fill0, x_filli, x_fills, x_fillb, c_int, List.length_cons, List.length_nil, List.cons_append, List.drop_succ_cons, List.drop_zero, List.drop_nil, List.nil_append, Int.reduceAdd, Int.reduceToNat, Int.reduceLT, Int.reduceLE, Nat.reduceAdd, Nat.reduceMul, Nat.reduceLeDiff, Int.reduceEq, Int.reduceSub, Int.cast_ofNat_Int, s_resc, s_consR, m_load4, m_store4, s_res0, ↓s_skip, ↓s_ops, ↓s_dops, ↓s_seq, ↓s_cond, ↓s_block, ↓s_exit, ↓s_ret, ↓s_scope, ↓s_nil, ↓s_op, ↓s_opg, ↓s_wanted', ↓s_wantV, s_wantV, s_wantV0, beq_true, beq_false, ↓s_bindS, s_bindS, ↓s_bindE, s_bindE, s_bindE_ret, s_bindE_exit, s_bindE_iteN, s_norm, ↓s_condV, s_condV, s_block_ret, s_block_normal, s_block_exit, s_block_iteN, ↓s_getp, ↓s_getp0, ↓s_get, s_get0, ↓s_con, ↓s_fn, ↓s_os0, ↓s_os1, ↓s_list0, ↓s_list1, ↓s_mov, ↓s_pick, ↓s_pickE, s_pickE, ↓s_bin, ↓s_un, ↓s_minmax, ↓s_call, ↓s_callv, ↓s_callV, ↓s_ext, s_same, b_eql, b_neq, b_lss, b_leq, b_gtr, b_geq, b_add, b_sub, b_mul, b_eqlb, b_neqb, b_fnil, b_fnil', b_fnil2, b_fnil2', u_neg, u_not, m_two, s_end, s_end', s_end_iteN, s_res0, s_res1, s_tup1, s_tup2, ↓iteN_true, ↓iteN_false, iteN_true, iteN_false, Nat.zero_add, List.nil_append, List.append_nil, Nat.reduceEqDiff, reduceIte, decide_true, decide_false, Bool.not_true, Bool.not_false, List.getElem?_cons_zero, List.getElem?_cons_succ, Bool.false_eq_true, if_true, if_false, beq_self_eq_true]
  exact fin _ ⟨by omega, (by (simp only [s_getp, s_getp0, Nat.reduceEqDiff, decide_false, decide_true, iteN_false, iteN_true, eL]; try rfl)), ⟨c, (by (simp only [s_getp, s_getp0, Nat.reduceEqDiff, decide_false, decide_true, iteN_false, iteN_true, eL]; try rfl))⟩, (by (simp only [s_getp, s_getp0, Nat.reduceEqDiff, decide_false, decide_true, iteN_false, iteN_true, eL]; try rfl)), (by (simp only [s_getp, s_getp0, Nat.reduceEqDiff, decide_false, decide_true, iteN_false, iteN_true, eL]; try rfl)), ⟨none, some 0, 0, gpn, .inl ⟨rfl, rfl, rfl, rfl⟩⟩, Nat.le_refl _, fun _ _ _ => rfl⟩
theorem all_go (e : E k_octet_Pen_All = some f_octet_Pen_All) (x : ∀ a h, X (.fn k_octet_Pen_All) a h = none) (N pn : Nat) (w : List Nat) (hw : w.length ≤ 1000000) (base : Nat) (ao : Option (Nat × Nat)) (co : Option Nat) (eo : Nat) (h : H) (gpn : h.get pn = some (.cells [.slice ao w.length co eo] .rw)) (ws : WS h base w ao co eo) :
    ∃ a2 c2 e2 h', callX E X (N + 1) (.fn k_octet_Pen_All) [.ptr (some (pn, 0))] h = some (.slice a2 w.length c2 e2, h') ∧ Kp h h' ∧ SrcH h' a2 e2 w := by
  rw [x_cfn e _ _ (Nat.le_of_ble_eq_true rfl) (x _ _)]
  have sc := ws.src.cellz co
  have ef : ∀ h, binV .eql (.ref .p) h (.ptr (some (pn, 0))) (.ptr none) = some (.bool false) := fun h => rfl
  cases hn : w.length with
  | zero =>
    rw [hn] at sc gpn
    have ap := appN h none 0 (some 0) 0 (ofI .u8 w)
    refine ⟨_, _, _, _, by
      simp (config := {maxSteps := 2000000}) (disch := first | omega | (simp only [List.length_cons, List.length_nil, List.length_append, List.length_drop]; omega)) only [ef, gpn, sc, ap, ↓s_append, ↓b_xor32, ↓b_and32, ↓b_or32, ↓u_not32, b_xor32, b_and32, b_or32, u_not32, w32ad, ↓x_conv, x_convV, ↓x_fieldAddr, x_fieldV, ↓s_nilchk, x_nilchk, Nat.zero_add, Nat.add_zero, Nat.mul_one, ↓l_loop, ↓l_succ, ↓l_normal, l_normal, l_exit, l_ret, l_iteN, ↓h_put_get, ↓h_new_get, ↓h_del_get, h_next_put, h_next_new, h_next_del, Nat.add_assoc, Nat.add_eq_left, Nat.left_eq_add, Nat.add_left_cancel_iff, ↓s_load, m_load, ↓m_load1, m_load1, ↓m_st, m_stE, m_storeI, m_storeE, w_zero, w_succ, ↓s_alloc, ↓x_idxA, ↓x_idxS, x_idxAE, x_idxSE, x_addrE, x_idx, x_lenS, ↓s_len, ↓x_buildS, x_buildE, ↓x_P0, ↓x_P1, x_fill0, x_filli, x_fills, x_fillb, c_int, List.length_cons, List.length_nil, List.cons_append, List.drop_succ_cons, List.drop_zero, List.drop_nil, List.nil_append, Int.reduceAdd, Int.reduceToNat, Int.reduceLT, Int.reduceLE, Nat.reduceAdd, Nat.reduceMul, Nat.reduceLeDiff, Int.reduceEq, Int.reduceSub, Int.cast_ofNat_Int, s_resc, s_consR, m_load4, m_store4, s_res0, ↓s_skip, ↓s_ops, ↓s_dops, ↓s_seq, ↓s_cond, ↓s_block, ↓s_exit, ↓s_ret, ↓s_scope, ↓s_nil, ↓s_op, ↓s_opg, ↓s_wanted', ↓s_wantV, s_wantV, s_wantV0, beq_true, beq_false, ↓s_bindS, s_bindS, ↓s_bindE, s_bindE, s_bindE_ret, s_bindE_exit, s_bindE_iteN, s_norm, ↓s_condV, s_condV, s_block_ret, s_block_normal, s_block_exit, s_block_iteN, ↓s_getp, ↓s_getp0, ↓s_get, s_get0, ↓s_con, ↓s_fn, ↓s_os0, ↓s_os1, ↓s_list0, ↓s_list1, ↓s_mov, ↓s_pick, ↓s_pickE, s_pickE, ↓s_bin, ↓s_un, ↓s_minmax, ↓s_call, ↓s_callv, ↓s_callV, ↓s_ext, s_same, b_eql, b_neq, b_lss, b_leq, b_gtr, b_geq, b_add, b_sub, b_mul, b_eqlb, b_neqb, b_fnil, b_fnil', b_fnil2, b_fnil2', u_neg, u_not, m_two, s_end, s_end', s_end_iteN, s_res0, s_res1, s_tup1, s_tup2, ↓iteN_true, ↓iteN_false, iteN_true, iteN_false, Nat.zero_add, List.nil_append, List.append_nil, Nat.reduceEqDiff, reduceIte, decide_true, decide_false, Bool.not_true, Bool.not_false, List.getElem?_cons_zero, List.getElem?_cons_succ, Bool.false_eq_true, if_true, if_false, beq_self_eq_true]
      exact rfl, Kp.refl _, .inl (List.length_eq_zero_iff.1 hn)⟩
  | succ n =>
    rw [hn] at sc gpn
    have ap := app0 h n 0 .u8 w (some 0) (by omega)
    obtain ⟨C, eC⟩ : ∃ C, ofI .u8 w = C := ⟨_, rfl⟩
    rw [eC] at ap sc
    refine ⟨_, _, _, _, by
      simp (config := {maxSteps := 2000000}) (disch := first | omega | (simp only [List.length_cons, List.length_nil, List.length_append, List.length_drop]; omega)) only [ef, gpn, sc, ap, ↓s_append, ↓b_xor32, ↓b_and32, ↓b_or32, ↓u_not32, b_xor32, b_and32, b_or32, u_not32, w32ad, ↓x_conv, x_convV, ↓x_fieldAddr, x_fieldV, ↓s_nilchk, x_nilchk, Nat.zero_add, Nat.add_zero, Nat.mul_one, ↓l_loop, ↓l_succ, ↓l_normal, l_normal, l_exit, l_ret, l_iteN, ↓h_put_get, ↓h_new_get, ↓h_del_get, h_next_put, h_next_new, h_next_del, Nat.add_assoc, Nat.add_eq_left, Nat.left_eq_add, Nat.add_left_cancel_iff, ↓s_load, m_load, ↓m_load1, m_load1, ↓m_st, m_stE, m_storeI, m_storeE, w_zero, w_succ, ↓s_alloc, ↓x_idxA, ↓x_idxS, x_idxAE, x_idxSE, x_addrE, x_idx, x_lenS, ↓s_len, ↓x_buildS, x_buildE, ↓x_P0, ↓x_P1, x_fill0, x_filli, x_fills, x_fillb, c_int, List.length_cons, List.length_nil, List.cons_append, List.drop_succ_cons, List.drop_zero, List.drop_nil, List.nil_append, Int.reduceAdd, Int.reduceToNat, Int.reduceLT, Int.reduceLE, Nat.reduceAdd, Nat.reduceMul, Nat.reduceLeDiff, Int.reduceEq, Int.reduceSub, Int.cast_ofNat_Int, s_resc, s_consR, m_load4, m_store4, s_res0, ↓s_skip, ↓s_ops, ↓s_dops, ↓s_seq, ↓s_cond, ↓s_block, ↓s_exit, ↓s_ret, ↓s_scope, ↓s_nil, ↓s_op, ↓s_opg, ↓s_wanted', ↓s_wantV, s_wantV, s_wantV0, beq_true, beq_false, ↓s_bindS, s_bindS, ↓s_bindE, s_bindE, s_bindE_ret, s_bindE_exit, s_bindE_iteN, s_norm, ↓s_condV, s_condV, s_block_ret, s_block_normal, s_block_exit, s_block_iteN, ↓s_getp, ↓s_getp0, ↓s_get, s_get0, ↓s_con, ↓s_fn, ↓s_os0, ↓s_os1, ↓s_list0, ↓s_list1, ↓s_mov, ↓s_pick, ↓s_pickE, s_pickE, ↓s_bin, ↓s_un, ↓s_minmax, ↓s_call, ↓s_callv, ↓s_callV, ↓s_ext, s_same, b_eql, b_neq, b_lss, b_leq, b_gtr, b_geq, b_add, b_sub, b_mul, b_eqlb, b_neqb, b_fnil, b_fnil', b_fnil2, b_fnil2', u_neg, u_not, m_two, s_end, s_end', s_end_iteN, s_res0, s_res1, s_tup1, s_tup2, ↓iteN_true, ↓iteN_false, iteN_true, iteN_false, Nat.zero_add, List.nil_append, List.append_nil, Nat.reduceEqDiff, reduceIte, decide_true, decide_false, Bool.not_true, Bool.not_false, List.getElem?_cons_zero, List.getElem?_cons_succ, Bool.false_eq_true, if_true, if_false, beq_self_eq_true]
      exact rfl, Kp.new _ _, .inr ⟨h.next, 0, C, .rw, rfl, rfl, Nat.lt_succ_self _, h_new_same _ _, by rw [← eC, ofI_len]; omega, by rw [List.drop_zero, ← eC]; exact List.take_of_length_le (by rw [ofI_len]; exact Nat.le_refl _)⟩⟩
end Go.Eng
namespace Go.Eng
open Go
variable {E : Nat → Option Fn} {X : Orc}
set_option linter.unusedSimpArgs false
set_option linter.unusedVariables false
theorem WS.mono {h h' : H} {base : Nat} {w : List Nat} {ao : Option (Nat × Nat)} {co : Option Nat} {eo : Nat} (s : WS h base w ao co eo) (hn : h.next ≤ h'.next) (k : ∀ j, base ≤ j → j < h.next → h'.get j = h.get j) : WS h' base w ao co eo := by
  rcases s with s | ⟨h1, q, md, e1, e2, e3, g, hm, hq0, hq⟩
  · exact .inl s
  · exact .inr ⟨h1, q, md, e1, e2, e3, by rw [k _ hq0 hq, g], hm, hq0, Nat.lt_of_lt_of_le hq hn⟩
theorem apP0 (h : H) (a : Option (Nat × Nat)) (n : Nat) (c : Option Nat) (e : Nat) : appendC h 1 24 (.slice none 0 (some 0) 0) (some (1, [.slice a n c e])) = some (.slice (some (h.next, 0)) 1 none 1, h.new (.cells [.slice a n c e] .rw)) := by
  unfold appendC
  simp only
  have r : (roomy (0 + 1) 24 && (Nat.beq 0 1 || (none : Option (Nat × Nat)).isNone) && ([.slice a n c e] : List V).all plainV) = true := rfl
  rw [r]; rfl
theorem apP1 (h : H) (p sl : Nat) (vs : List V) (md : Md) (hm : isRo md = false) (hg : h.get p = some (.cells vs md)) (hl : vs.length = sl) (hs : sl ≤ 1000) (a : Option (Nat × Nat)) (n : Nat) (c : Option Nat) (e : Nat) : appendC h 1 24 (.slice (some (p, 0)) sl none 1) (some (1, [.slice a n c e])) = some (.slice (some (h.next, 0)) (sl + 1) none 1, (h.del p).new (.cells (vs ++ [.slice a n c e]) .sh)) := by
  unfold appendC
  simp only
  have r : (roomy (sl + 1) 24 && (Nat.beq 1 1 || (some (p, 0) : Option (Nat × Nat)).isNone) && ([.slice a n c e] : List V).all plainV) = true := by
    have : roomy (sl + 1) 24 = true := by simp [roomy]; omega
    rw [this]; rfl
  have f : fullC none (sl + 1) = false := rfl
  have rd := readN_of vs 0 sl (by omega)
  rw [List.drop_zero, List.take_of_length_le (by omega)] at rd
  rw [r]
  simp only [_root_.cond_true, hg, f, Nat.mul_one]
  cases md with
  | ro => cases hm
  | rw => simp only [rd]
  | sh => simp only [rd]
theorem srcP (h : H) (v : V) : srcCells (h.new (.cells [v] .rw)) 1 (.slice (some (h.next, 0)) 1 (some 1) 1) = some (1, [v]) := by
  rw [m_src, h_new_same]; rfl
theorem upA_upA (a : Option (Nat × Nat)) (k m : Nat) : upA (upA a k) m = upA a (k + m) := by
  cases a with
  | none => rfl
  | some x => show some (x.1, x.2 + k + m) = some (x.1, x.2 + (k + m)); rw [Nat.add_assoc]
theorem upA_0 (a : Option (Nat × Nat)) : upA a 0 = a := by cases a <;> rfl
/-- the parts so far -/
def PS (hs h0 h : H) (b : List Nat) (a : Option (Nat × Nat)) (i k : Nat) (v9 v10 : V) : Prop := k ≤ b.length ∧ v9 = .slice (upA a k) (b.length - k) none 1 ∧ ∃ ps : List Pt, ps.length = i ∧ flV ps = b.take k ∧ (∀ q ∈ ps, SrcH hs q.1 q.2.2.1 q.2.2.2) ∧
  ((i = 0 ∧ v10 = .slice none 0 (some 0) 0) ∨ (0 < i ∧ ∃ p md, v10 = .slice (some (p, 0)) i none 1 ∧ h.get p = some (.cells (ps.map slOf) md) ∧ isRo md = false ∧ h0.next ≤ p ∧ p < h.next))
/-- one part more -/
theorem ps_more (hs h0 h : H) (b : List Nat) (a : Option (Nat × Nat)) (sb : SrcH hs a 1 b) (i k : Nat) (hi : i ≤ 1000) (v9 v10 : V) (P : PS hs h0 h b a i k v9 v10) (k0 : Kp h0 h) (m : Nat) (hm : m ≤ b.length - k) :
    ∃ h', appendC (h.new (.cells [.slice (upA a k) m none 1] .rw)) 1 24 v10 (some (1, [.slice (upA a k) m none 1])) = some (.slice (some (h.next + 1, 0)) (i + 1) none 1, h') ∧ Kp h0 h' ∧ h.next + 2 ≤ h'.next ∧
      ∃ ps : List Pt, ps.length = i + 1 ∧ flV ps = b.take (k + m) ∧ (∀ q ∈ ps, SrcH hs q.1 q.2.2.1 q.2.2.2) ∧ ∃ md, h'.get (h.next + 1) = some (.cells (ps.map slOf) md) ∧ isRo md = false := by
  obtain ⟨hk, _, ps, hl, hf, ok, t⟩ := P
  obtain ⟨h1, e1⟩ : ∃ h1, h.new (.cells [.slice (upA a k) m none 1] .rw) = h1 := ⟨_, rfl⟩
  have n1 : h1.next = h.next + 1 := by rw [← e1]; rfl
  have k1 : Kp h h1 := by rw [← e1]; exact Kp.new _ _
  have lm : ((b.drop k).take m).length = m := by rw [List.length_take, List.length_drop]; omega
  have nw : (ps ++ [((upA a k, none, 1, (b.drop k).take m) : Pt)]).length = i + 1 := by rw [List.length_append, hl]; rfl
  have nf : flV (ps ++ [((upA a k, none, 1, (b.drop k).take m) : Pt)]) = b.take (k + m) := by rw [flV_app, flV_one, hf, List.take_add]
  have no : ∀ q ∈ ps ++ [((upA a k, none, 1, (b.drop k).take m) : Pt)], SrcH hs q.1 q.2.2.1 q.2.2.2 := by
    intro q hq
    rcases List.mem_append.1 hq with h | h
    · exact ok q h
    · rcases List.mem_singleton.1 h with rfl; exact (sb.drop k).take m
  have sv : slOf (upA a k, none, 1, (b.drop k).take m) = .slice (upA a k) m none 1 := by show V.slice _ ((b.drop k).take m).length _ _ = _; rw [lm]
  have hm0 := k0.1
  rcases t with ⟨i0, rfl⟩ | ⟨hip, p, md, rfl, gp, hmd, hp0, hpn⟩
  · have ps0 : ps = [] := List.length_eq_zero_iff.1 (by omega)
    have ap := apP0 h1 (upA a k) m none 1
    rw [e1]
    rw [n1] at ap
    refine ⟨_, by rw [i0]; exact ap, k0.trans (k1.trans (Kp.new _ _)), by rw [h_next_new, n1]; omega, _, nw, nf, no, .rw, ?_, rfl⟩
    rw [ps0, List.nil_append, List.map_cons, List.map_nil, sv]
    exact h_new_same' _ _ n1
  · have ap := apP1 h1 p i (ps.map slOf) md hmd (by rw [k1.2 _ hpn, gp]) (by rw [List.length_map, hl]) (by omega) (upA a k) m none 1
    rw [e1]
    rw [n1] at ap
    refine ⟨_, ap, ⟨by simp only [h_next_new, h_next_del, n1]; omega, fun j hj => ?_⟩, by simp only [h_next_new, h_next_del, n1]; omega, _, nw, nf, no, .sh, ?_, rfl⟩
    · rw [h_new_ne _ _ (by rw [h_next_del, n1]; omega), h_del_ne _ (by omega), k1.2 _ (by omega), k0.2 _ hj]
    · rw [List.map_append, List.map_cons, List.map_nil, sv]
      exact h_new_same' _ _ (by rw [h_next_del, n1])
structure OL (hs h0 : H) (b at_ : List Nat) (a a1 : Option (Nat × Nat)) (pn : Nat) (i : Nat) (T : Tr V) (h : H) : Prop where
  il : i ≤ at_.length
  t0 : evO T (.t 0) = .slice a b.length none 1
  t1 : evO T (.t 1) = .slice a1 at_.length none 1
  t5 : evO T (.t 5) = .bool true
  t6 : evO T (.t 6) = .ptr (some (pn, 0))
  t7 : evO T (.t 7) = .ptr (some (pn + 1, 0))
  t8 : evO T (.t 8) = .int .i64 0
  t33 : evO T (.t 33) = .int .i64 (at_.length : Int)
  t34 : evO T (.t 34) = .int .i64 (i : Int)
  ps : ∃ k, PS hs h0 h b a i k (evO T (.t 9)) (evO T (.t 10))
  kp : Kp h0 h
theorem ol_step (Q : Orc) (m : Nat) (hs h0 : H) (b at_ : List Nat) (a a1 : Option (Nat × Nat)) (pn : Nat) (sb : SrcH hs a 1 b) (sa : SrcH hs a1 1 at_) (hb : b.length ≤ 20000) (hat : at_.length ≤ 50) (bat : byt at_ = true) (ks : ∀ j, j < hs.next → h0.get j = hs.get j) (kn : hs.next ≤ h0.next) :
    ∀ i T h, i < at_.length → OL hs h0 b at_ a a1 pn i T h → ∃ T' h', evC Q 83 m none L_purserlaw01_OctetParts_0 ⟨T, [], h⟩ = some (.normal, ⟨T', [], h'⟩) ∧ OL hs h0 b at_ a a1 pn (i + 1) T' h' := by
  intro i T h hi ⟨_, t0, t1, t5, t6, t7, t8, t33, t34, ⟨k, P⟩, kp⟩
  have c0 : decide ((i : Int) < (at_.length : Int)) = true := decide_eq_true (by omega)
  have wi : wr .i64 ((i : Int) + 1) = ((i + 1 : Nat) : Int) := by rw [wr_i64 (by omega)]; omega
  have ix : idx (i : Int) at_.length = some i := idxn hi
  obtain ⟨bi, off, vs, md, rfl, _, h3, h4, h5, h6⟩ := sa.resolve_left (fun h => by rw [h] at hi; cases hi)
  have cg : vs[off + i]? = some (.int .u8 (at_.getD i 0 : Nat)) := by
    have : ((vs.drop off).take at_.length)[i]? = (ofI .u8 at_)[i]? := by rw [h6]
    rw [List.getElem?_take_of_lt hi, List.getElem?_drop, ofI_get _ _ _ hi] at this
    exact this
  have ga : h.get bi = some (.cells vs md) := by rw [kp.2 _ (by omega), ks _ h3, h4]
  have yl : at_.getD i 0 < 256 := by
    rw [List.getD_eq_getElem?_getD, List.getElem?_eq_getElem hi]; exact byt_iff.1 bat _ (List.getElem_mem hi)
  generalize at_.getD i 0 = y at *
  have wy : wr .i64 (y : Int) = (y : Int) := w64n (by omega)
  obtain ⟨r, er⟩ : ∃ r, b.length - k = r := ⟨_, rfl⟩
  obtain ⟨m', em⟩ : ∃ m, min y r = m := ⟨_, rfl⟩
  have sv1 := slcV_hiA r m' (upA a k) .i64 (by omega)
  have sv2 := slcV_loA r m' (upA a k) .i64 (by omega)
  obtain ⟨h2, ap, k2, n2, ps, q1, q2, q3, md2, q4, q5⟩ := ps_more hs h0 h b a sb i k (by omega) _ _ P kp m' (by omega)
  have hk := P.1
  have t9 := P.2.1
  rw [er] at t9
  have hA1 : i + 1 ≤ at_.length := hi
  have hB1 : k + m' ≤ b.length := by omega
  have hC1 : 0 < i + 1 := by omega
  have hD1 : h0.next ≤ h.next + 1 := by have := kp.1; omega
  have hE1 : h.next + 1 < h2.next := by omega
  have hF1 : b.length - (k + m') = r - m' := by omega
  have hif : (if ((r : Nat) : Int) < (y : Int) then ((r : Nat) : Int) else (y : Int)) = ((m' : Nat) : Int) := by split <;> omega
  have sc := srcP h (.slice (upA a k) m' none 1)
  obtain ⟨v10, ev⟩ : ∃ v, evO T (.t 10) = v := ⟨_, rfl⟩
  rw [ev] at ap
  refine ⟨_, h2, by
    simp (config := {maxSteps := 2000000}) (disch := first | omega | (simp only [List.length_cons, List.length_nil, List.length_append, List.length_drop]; omega)) only [L_purserlaw01_OctetParts_0, t0, t1, t9, ev, t33, t34, ga, cg, c0, wi, ix, wy, hif, sv1, sv2, sc, ap, ↓s_minmax, ↓s_len, x_lenS, ↓x_slcS, x_M0, x_M1, ↓s_append, ↓b_xor32, ↓b_and32, ↓b_or32, ↓u_not32, b_xor32, b_and32, b_or32, u_not32, w32ad, ↓x_conv, x_convV, ↓x_fieldAddr, x_fieldV, ↓s_nilchk, x_nilchk, Nat.zero_add, Nat.add_zero, Nat.mul_one, ↓l_loop, ↓l_succ, ↓l_normal, l_normal, l_exit, l_ret, l_iteN, ↓h_put_get, ↓h_new_get, ↓h_del_get, h_next_put, h_next_new, h_next_del, Nat.add_assoc, Nat.add_eq_left, Nat.left_eq_add, Nat.add_left_cancel_iff, ↓s_load, m_load, ↓m_load1, m_load1, ↓m_st, m_stE, m_storeI, m_storeE, w_zero, w_succ, ↓s_alloc, ↓x_idxA, ↓x_idxS, x_idxAE, x_idxSE, x_addrE, x_idx, x_lenS, ↓s_len, ↓x_buildS, x_buildE, ↓x_P0, ↓x_P1, x_fill0, x_filli, x_fills, x_fillb, c_int, List.length_cons, List.length_nil, List.cons_append, List.drop_succ_cons, List.drop_zero, List.drop_nil, List.nil_append, Int.reduceAdd, Int.reduceToNat, Int.reduceLT, Int.reduceLE, Nat.reduceAdd, Nat.reduceMul, Nat.reduceLeDiff, Int.reduceEq, Int.reduceSub, Int.cast_ofNat_Int, s_resc, s_consR, m_load4, m_store4, s_res0, ↓s_skip, ↓s_ops, ↓s_dops, ↓s_seq, ↓s_cond, ↓s_block, ↓s_exit, ↓s_ret, ↓s_scope, ↓s_nil, ↓s_op, ↓s_opg, ↓s_wanted', ↓s_wantV, s_wantV, s_wantV0, beq_true, beq_false, ↓s_bindS, s_bindS, ↓s_bindE, s_bindE, s_bindE_ret, s_bindE_exit, s_bindE_iteN, s_norm, ↓s_condV, s_condV, s_block_ret, s_block_normal, s_block_exit, s_block_iteN, ↓s_getp, ↓s_getp0, ↓s_get, s_get0, ↓s_con, ↓s_fn, ↓s_os0, ↓s_os1, ↓s_list0, ↓s_list1, ↓s_mov, ↓s_pick, ↓s_pickE, s_pickE, ↓s_bin, ↓s_un, ↓s_minmax, ↓s_call, ↓s_callv, ↓s_callV, ↓s_ext, s_same, b_eql, b_neq, b_lss, b_leq, b_gtr, b_geq, b_add, b_sub, b_mul, b_eqlb, b_neqb, b_fnil, b_fnil', b_fnil2, b_fnil2', u_neg, u_not, m_two, s_end, s_end', s_end_iteN, s_res0, s_res1, s_tup1, s_tup2, ↓iteN_true, ↓iteN_false, iteN_true, iteN_false, Nat.zero_add, List.nil_append, List.append_nil, Nat.reduceEqDiff, reduceIte, decide_true, decide_false, Bool.not_true, Bool.not_false, List.getElem?_cons_zero, List.getElem?_cons_succ, Bool.false_eq_true, if_true, if_false, beq_self_eq_true]
    exact rfl, ⟨hA1, (by (simp only [s_getp, s_getp0, Nat.reduceEqDiff, decide_false, decide_true, iteN_false, iteN_true, t0]; try rfl)), (by (simp only [s_getp, s_getp0, Nat.reduceEqDiff, decide_false, decide_true, iteN_false, iteN_true, t1]; try rfl)), (by (simp only [s_getp, s_getp0, Nat.reduceEqDiff, decide_false, decide_true, iteN_false, iteN_true, t5]; try rfl)), (by (simp only [s_getp, s_getp0, Nat.reduceEqDiff, decide_false, decide_true, iteN_false, iteN_true, t6]; try rfl)), (by (simp only [s_getp, s_getp0, Nat.reduceEqDiff, decide_false, decide_true, iteN_false, iteN_true, t7]; try rfl)), (by (simp only [s_getp, s_getp0, Nat.reduceEqDiff, decide_false, decide_true, iteN_false, iteN_true, t8]; try rfl)), (by (simp only [s_getp, s_getp0, Nat.reduceEqDiff, decide_false, decide_true, iteN_false, iteN_true, t33]; try rfl)), (by (simp only [s_getp, s_getp0, Nat.reduceEqDiff, decide_false, decide_true, iteN_false, iteN_true, t34]; try rfl)), ⟨k + m', hB1, ?_, ps, q1, q2, q3, .inr ⟨hC1, h.next + 1, md2, (by (simp only [s_getp, s_getp0, Nat.reduceEqDiff, decide_false, decide_true, iteN_false, iteN_true, ev]; try rfl)), q4, q5, hD1, hE1⟩⟩, k2⟩⟩
  rw [← upA_upA, hF1]
  exact (by (simp only [s_getp, s_getp0, Nat.reduceEqDiff, decide_false, decide_true, iteN_false, iteN_true, t9]; try rfl))
set_option maxRecDepth 100000 in
set_option maxHeartbeats 4000000 in
theorem law_OctetParts (kk : Nat) (hkk : kk = k_purserlaw01_alive) (er : E k_octet_Pen_Raw = some f_octet_Pen_Raw) (ea : E k_octet_Pen_All = some f_octet_Pen_All) (el : E k_purserlaw01_OctetParts = some f_purserlaw01_OctetParts) (N : Nat) (b at_ : List Nat) (bb : byt b = true) (bat : byt at_ = true) (a a1 : Option (Nat × Nat)) (h : H) (sb : SrcH h a 1 b) (sa : SrcH h a1 1 at_) :
    ∃ h2, callX E (pureX k_purserlaw01_alive aliveS) (N + 101) (.fn k_purserlaw01_OctetParts) [.slice a b.length none 1, .slice a1 at_.length none 1] h = some (.bool true, h2) := by
  rw [x_cfn el _ _ (Nat.le_of_ble_eq_true rfl) rfl]
  have al : ∀ h, callX E (pureX k_purserlaw01_alive aliveS) (N + 100) (.fn k_purserlaw01_alive) [] h = some (.bool true, h) := fun h => x_known (pureX_yes h rfl)
  by_cases hb : 20000 < b.length
  · have c1 : decide ((20000 : Int) < (b.length : Int)) = true := decide_eq_true (by omega)
    simp (config := {maxSteps := 2000000}) (disch := first | omega | rfl | (simp only [ofI_len, List.length_append, List.length_take, List.length_drop, List.length_cons, List.length_nil, List.length_replicate, List.length_set]; done) | (simp only [ofI_len, List.length_append, List.length_take, List.length_drop, List.length_cons, List.length_nil, List.length_replicate, List.length_set]; omega)) only [al, c1, ↓s_len, x_lenS, ↓b_xor32, ↓b_and32, ↓b_or32, ↓u_not32, b_xor32, b_and32, b_or32, u_not32, w32ad, ↓x_conv, x_convV, ↓x_fieldAddr, x_fieldV, ↓s_nilchk, x_nilchk, Nat.zero_add, Nat.add_zero, Nat.mul_one, ↓l_loop, ↓l_succ, ↓l_normal, l_normal, l_exit, l_ret, l_iteN, ↓h_put_get, ↓h_new_get, ↓h_del_get, h_next_put, h_next_new, h_next_del, Nat.add_assoc, Nat.add_eq_left, Nat.left_eq_add, Nat.add_left_cancel_iff, ↓s_load, m_load, ↓m_load1, m_load1, ↓m_st, m_stE, m_storeI, m_storeE, ↓s_alloc, ↓x_idxA, ↓x_idxS, x_idxAE, x_idxSE, x_addrE, x_idx, x_lenS, ↓s_len, ↓x_buildS, x_buildE, ↓x_P0, ↓x_P1, x_fill0, x_filli, x_fills, x_fillb, c_int, List.length_cons, List.length_nil, List.cons_append, List.drop_succ_cons, List.drop_zero, List.drop_nil, List.nil_append, Int.reduceAdd, Int.reduceToNat, Int.reduceLT, Int.reduceLE, Nat.reduceAdd, Nat.reduceMul, Nat.reduceLeDiff, Int.reduceEq, Int.reduceSub, Int.cast_ofNat_Int, s_resc, s_consR, m_load4, m_store4, s_res0, ↓s_skip, ↓s_ops, ↓s_dops, ↓s_seq, ↓s_cond, ↓s_block, ↓s_exit, ↓s_ret, ↓s_scope, ↓s_nil, ↓s_op, ↓s_opg, ↓s_wanted', ↓s_wantV, s_wantV, s_wantV0, beq_true, beq_false, ↓s_bindS, s_bindS, ↓s_bindE, s_bindE, s_bindE_ret, s_bindE_exit, s_bindE_iteN, s_norm, ↓s_condV, s_condV, s_block_ret, s_block_normal, s_block_exit, s_block_iteN, ↓s_getp, ↓s_getp0, ↓s_get, s_get0, ↓s_con, ↓s_fn, ↓s_os0, ↓s_os1, ↓s_list0, ↓s_list1, ↓s_mov, ↓s_pick, ↓s_pickE, s_pickE, ↓s_bin, ↓s_un, ↓s_minmax, ↓s_call, ↓s_callv, ↓s_callV, ↓s_ext, s_same, b_eql, b_neq, b_lss, b_leq, b_gtr, b_geq, b_add, b_sub, b_mul, b_eqlb, b_neqb, b_fnil, b_fnil', b_fnil2, b_fnil2', u_neg, u_not, m_two, s_end, s_end', s_end_iteN, s_res0, s_res1, s_tup1, s_tup2, ↓iteN_true, ↓iteN_false, iteN_true, iteN_false, Nat.zero_add, List.nil_append, List.append_nil, Nat.reduceEqDiff, reduceIte, decide_true, decide_false, Bool.not_true, Bool.not_false, List.getElem?_cons_zero, List.getElem?_cons_succ, Bool.false_eq_true, if_true, if_false, beq_self_eq_true]
    exact ⟨_, rfl⟩
  have c1 : decide ((20000 : Int) < (b.length : Int)) = false := decide_eq_false (by omega)
  by_cases hat : 50 < at_.length
  · have c2 : decide ((50 : Int) < (at_.length : Int)) = true := decide_eq_true (by omega)
    simp (config := {maxSteps := 2000000}) (disch := first | omega | rfl | (simp only [ofI_len, List.length_append, List.length_take, List.length_drop, List.length_cons, List.length_nil, List.length_replicate, List.length_set]; done) | (simp only [ofI_len, List.length_append, List.length_take, List.length_drop, List.length_cons, List.length_nil, List.length_replicate, List.length_set]; omega)) only [al, c1, c2, ↓s_len, x_lenS, ↓b_xor32, ↓b_and32, ↓b_or32, ↓u_not32, b_xor32, b_and32, b_or32, u_not32, w32ad, ↓x_conv, x_convV, ↓x_fieldAddr, x_fieldV, ↓s_nilchk, x_nilchk, Nat.zero_add, Nat.add_zero, Nat.mul_one, ↓l_loop, ↓l_succ, ↓l_normal, l_normal, l_exit, l_ret, l_iteN, ↓h_put_get, ↓h_new_get, ↓h_del_get, h_next_put, h_next_new, h_next_del, Nat.add_assoc, Nat.add_eq_left, Nat.left_eq_add, Nat.add_left_cancel_iff, ↓s_load, m_load, ↓m_load1, m_load1, ↓m_st, m_stE, m_storeI, m_storeE, ↓s_alloc, ↓x_idxA, ↓x_idxS, x_idxAE, x_idxSE, x_addrE, x_idx, x_lenS, ↓s_len, ↓x_buildS, x_buildE, ↓x_P0, ↓x_P1, x_fill0, x_filli, x_fills, x_fillb, c_int, List.length_cons, List.length_nil, List.cons_append, List.drop_succ_cons, List.drop_zero, List.drop_nil, List.nil_append, Int.reduceAdd, Int.reduceToNat, Int.reduceLT, Int.reduceLE, Nat.reduceAdd, Nat.reduceMul, Nat.reduceLeDiff, Int.reduceEq, Int.reduceSub, Int.cast_ofNat_Int, s_resc, s_consR, m_load4, m_store4, s_res0, ↓s_skip, ↓s_ops, ↓s_dops, ↓s_seq, ↓s_cond, ↓s_block, ↓s_exit, ↓s_ret, ↓s_scope, ↓s_nil, ↓s_op, ↓s_opg, ↓s_wanted', ↓s_wantV, s_wantV, s_wantV0, beq_true, beq_false, ↓s_bindS, s_bindS, ↓s_bindE, s_bindE, s_bindE_ret, s_bindE_exit, s_bindE_iteN, s_norm, ↓s_condV, s_condV, s_block_ret, s_block_normal, s_block_exit, s_block_iteN, ↓s_getp, ↓s_getp0, ↓s_get, s_get0, ↓s_con, ↓s_fn, ↓s_os0, ↓s_os1, ↓s_list0, ↓s_list1, ↓s_mov, ↓s_pick, ↓s_pickE, s_pickE, ↓s_bin, ↓s_un, ↓s_minmax, ↓s_call, ↓s_callv, ↓s_callV, ↓s_ext, s_same, b_eql, b_neq, b_lss, b_leq, b_gtr, b_geq, b_add, b_sub, b_mul, b_eqlb, b_neqb, b_fnil, b_fnil', b_fnil2, b_fnil2', u_neg, u_not, m_two, s_end, s_end', s_end_iteN, s_res0, s_res1, s_tup1, s_tup2, ↓iteN_true, ↓iteN_false, iteN_true, iteN_false, Nat.zero_add, List.nil_append, List.append_nil, Nat.reduceEqDiff, reduceIte, decide_true, decide_false, Bool.not_true, Bool.not_false, List.getElem?_cons_zero, List.getElem?_cons_succ, Bool.false_eq_true, if_true, if_false, beq_self_eq_true]
    exact ⟨_, rfl⟩
  have c2 : decide ((50 : Int) < (at_.length : Int)) = false := decide_eq_false (by omega)
  obtain ⟨hQ, eQ⟩ : ∃ hQ, ((h.new (.cells [.slice none 0 (some 0) 0] .rw)).new (.cells [.slice none 0 (some 0) 0] .rw)).new (.cells [.slice a b.length none 1] .rw) = hQ := ⟨_, rfl⟩
  have nQ : hQ.next = h.next + 3 := by rw [← eQ]; rfl
  have kQ : Kp h hQ := by rw [← eQ]; (repeat (first | exact Kp.refl _ | refine Kp.put ?_ _ (by first | omega | (simp only [h_next_put, h_next_new, h_next_del]; omega)) | refine Kp.del ?_ (by first | omega | (simp only [h_next_put, h_next_new, h_next_del]; omega)) | refine Kp.trans ?_ (Kp.new _ _)))
  have g0 : hQ.get h.next = some (.cells [.slice none 0 (some 0) 0] .rw) := by rw [← eQ]; (simp (disch := omega) only [l_loop, l_succ, l_normal, l_normal, l_exit, l_ret, l_iteN, h_put_get, h_new_get, h_del_get, h_next_put, h_next_new, h_next_del, Nat.add_assoc, Nat.add_eq_left, Nat.left_eq_add, Nat.add_left_cancel_iff, s_load, m_load, m_load1, m_load1, m_st, m_stE, m_storeI, m_storeE, w_zero, w_succ, s_alloc, x_idxA, x_idxS, x_idxAE, x_idxSE, x_addrE, x_idx, x_lenS, s_len, x_buildS, x_buildE, x_P0, x_P1, x_fill0, x_filli, x_fills, x_fillb, c_int, List.length_cons, List.length_nil, List.cons_append, List.drop_succ_cons, List.drop_zero, List.drop_nil, List.nil_append, Int.reduceAdd, Int.reduceToNat, Int.reduceLT, Int.reduceLE, Nat.reduceAdd, Nat.reduceMul, Nat.reduceLeDiff, Int.reduceEq, Int.reduceSub, Int.cast_ofNat_Int, s_resc, s_consR, m_load4, m_store4, s_res0, decide_true, decide_false, iteN_true, iteN_false, Nat.reduceEqDiff, Nat.reduceAdd, reduceCtorEq, ]; try rfl)
  have g1 : hQ.get (h.next + 1) = some (.cells [.slice none 0 (some 0) 0] .rw) := by rw [← eQ]; (simp (disch := omega) only [l_loop, l_succ, l_normal, l_normal, l_exit, l_ret, l_iteN, h_put_get, h_new_get, h_del_get, h_next_put, h_next_new, h_next_del, Nat.add_assoc, Nat.add_eq_left, Nat.left_eq_add, Nat.add_left_cancel_iff, s_load, m_load, m_load1, m_load1, m_st, m_stE, m_storeI, m_storeE, w_zero, w_succ, s_alloc, x_idxA, x_idxS, x_idxAE, x_idxSE, x_addrE, x_idx, x_lenS, s_len, x_buildS, x_buildE, x_P0, x_P1, x_fill0, x_filli, x_fills, x_fillb, c_int, List.length_cons, List.length_nil, List.cons_append, List.drop_succ_cons, List.drop_zero, List.drop_nil, List.nil_append, Int.reduceAdd, Int.reduceToNat, Int.reduceLT, Int.reduceLE, Nat.reduceAdd, Nat.reduceMul, Nat.reduceLeDiff, Int.reduceEq, Int.reduceSub, Int.cast_ofNat_Int, s_resc, s_consR, m_load4, m_store4, s_res0, decide_true, decide_false, iteN_true, iteN_false, Nat.reduceEqDiff, Nat.reduceAdd, reduceCtorEq, ]; try rfl)
  have g2 : hQ.get (h.next + 2) = some (.cells [.slice a b.length none 1] .rw) := by rw [← eQ]; (simp (disch := omega) only [l_loop, l_succ, l_normal, l_normal, l_exit, l_ret, l_iteN, h_put_get, h_new_get, h_del_get, h_next_put, h_next_new, h_next_del, Nat.add_assoc, Nat.add_eq_left, Nat.left_eq_add, Nat.add_left_cancel_iff, s_load, m_load, m_load1, m_load1, m_st, m_stE, m_storeI, m_storeE, w_zero, w_succ, s_alloc, x_idxA, x_idxS, x_idxAE, x_idxSE, x_addrE, x_idx, x_lenS, s_len, x_buildS, x_buildE, x_P0, x_P1, x_fill0, x_filli, x_fills, x_fillb, c_int, List.length_cons, List.length_nil, List.cons_append, List.drop_succ_cons, List.drop_zero, List.drop_nil, List.nil_append, Int.reduceAdd, Int.reduceToNat, Int.reduceLT, Int.reduceLE, Nat.reduceAdd, Nat.reduceMul, Nat.reduceLeDiff, Int.reduceEq, Int.reduceSub, Int.cast_ofNat_Int, s_resc, s_consR, m_load4, m_store4, s_res0, decide_true, decide_false, iteN_true, iteN_false, Nat.reduceEqDiff, Nat.reduceAdd, reduceCtorEq, ]; try rfl)
  have fb : flV [((a, none, 1, b) : Pt)] = b := flV_one _
  obtain ⟨h1, ao, co, eo, r1, p1, w1, n1, f1⟩ := raw_go (X := pureX k_purserlaw01_alive aliveS) er (fun _ _ => rfl) (N + 99) h.next (h.next + 2) [(a, none, 1, b)] (some 1) (by show 1 < _; omega) (by show 1 < _; omega) (by rw [fb]; omega) .rw h hQ kQ (Nat.le_refl _) (by omega) (by omega) (by omega) g2 (fun q hq => by rcases List.mem_singleton.1 hq with rfl; exact sb) g0
  rw [fb] at p1 w1
  replace r1 : callX E (pureX k_purserlaw01_alive aliveS) (N + 100) (.fn k_octet_Pen_Raw) [.ptr (some (h.next, 0)), .slice (some (h.next + 2, 0)) 1 (some 1) 1] hQ = some (.int .i64 0, h1) := r1
  have ks : ∀ j, j < h.next → h1.get j = h.get j := fun j hj => by rw [f1 _ (by omega) (by omega), kQ.2 _ hj]
  have k01 : Kp h h1 := ⟨by omega, ks⟩
  have fin : ∀ T, OL h h1 b at_ a a1 h.next 0 T h1 → ∃ h2, fnEnd [.tmp 4] (bindE (blockE 0 (loopN (evC (callX E (pureX k_purserlaw01_alive aliveS) (N + 100)) 83 (N + 100) none L_purserlaw01_OctetParts_0) (N + 100) ⟨T, [], h1⟩)) (evC (callX E (pureX k_purserlaw01_alive aliveS) (N + 100)) 83 (N + 100) none R_purserlaw01_OctetParts_0)) = some (.bool true, h2) := by
    intro T I
    obtain ⟨T', h2, r2, il, t0, t1, t5, t6, t7, t8, t33, t34, ⟨k, P⟩, kp⟩ := loop_go (f := evC (callX E (pureX k_purserlaw01_alive aliveS) (N + 100)) 83 (N + 100) none L_purserlaw01_OctetParts_0) (OL h h1 b at_ a a1 h.next) at_.length (.exit 0) (by intro h; cases h) (OL h h1 b at_ a a1 h.next at_.length) (ol_step _ _ h h1 b at_ a a1 h.next sb sa (by omega) (by omega) bat ks k01.1) (fun T h' I => by
      obtain ⟨il, t0, t1, t5, t6, t7, t8, t33, t34, P, kp⟩ := I
      have c0 : decide ((at_.length : Int) < (at_.length : Int)) = false := decide_eq_false (by omega)
      refine ⟨_, _, by
        simp (config := {maxSteps := 2000000}) (disch := first | omega | (simp only [List.length_cons, List.length_nil, List.length_append, List.length_drop]; omega)) only [L_purserlaw01_OctetParts_0, t33, t34, c0, ↓b_xor32, ↓b_and32, ↓b_or32, ↓u_not32, b_xor32, b_and32, b_or32, u_not32, w32ad, ↓x_conv, x_convV, ↓x_fieldAddr, x_fieldV, ↓s_nilchk, x_nilchk, Nat.zero_add, Nat.add_zero, Nat.mul_one, ↓l_loop, ↓l_succ, ↓l_normal, l_normal, l_exit, l_ret, l_iteN, ↓h_put_get, ↓h_new_get, ↓h_del_get, h_next_put, h_next_new, h_next_del, Nat.add_assoc, Nat.add_eq_left, Nat.left_eq_add, Nat.add_left_cancel_iff, ↓s_load, m_load, ↓m_load1, m_load1, ↓m_st, m_stE, m_storeI, m_storeE, w_zero, w_succ, ↓s_alloc, ↓x_idxA, ↓x_idxS, x_idxAE, x_idxSE, x_addrE, x_idx, x_lenS, ↓s_len, ↓x_buildS, x_buildE, ↓x_P0, ↓x_P1, x_fill0, x_filli, x_fills, x_fillb, c_int, List.length_cons, List.length_nil, List.cons_append, List.drop_succ_cons, List.drop_zero, List.drop_nil, List.nil_append, Int.reduceAdd, Int.reduceToNat, Int.reduceLT, Int.reduceLE, Nat.reduceAdd, Nat.reduceMul, Nat.reduceLeDiff, Int.reduceEq, Int.reduceSub, Int.cast_ofNat_Int, s_resc, s_consR, m_load4, m_store4, s_res0, ↓s_skip, ↓s_ops, ↓s_dops, ↓s_seq, ↓s_cond, ↓s_block, ↓s_exit, ↓s_ret, ↓s_scope, ↓s_nil, ↓s_op, ↓s_opg, ↓s_wanted', ↓s_wantV, s_wantV, s_wantV0, beq_true, beq_false, ↓s_bindS, s_bindS, ↓s_bindE, s_bindE, s_bindE_ret, s_bindE_exit, s_bindE_iteN, s_norm, ↓s_condV, s_condV, s_block_ret, s_block_normal, s_block_exit, s_block_iteN, ↓s_getp, ↓s_getp0, ↓s_get, s_get0, ↓s_con, ↓s_fn, ↓s_os0, ↓s_os1, ↓s_list0, ↓s_list1, ↓s_mov, ↓s_pick, ↓s_pickE, s_pickE, ↓s_bin, ↓s_un, ↓s_minmax, ↓s_call, ↓s_callv, ↓s_callV, ↓s_ext, s_same, b_eql, b_neq, b_lss, b_leq, b_gtr, b_geq, b_add, b_sub, b_mul, b_eqlb, b_neqb, b_fnil, b_fnil', b_fnil2, b_fnil2', u_neg, u_not, m_two, s_end, s_end', s_end_iteN, s_res0, s_res1, s_tup1, s_tup2, ↓iteN_true, ↓iteN_false, iteN_true, iteN_false, Nat.zero_add, List.nil_append, List.append_nil, Nat.reduceEqDiff, reduceIte, decide_true, decide_false, Bool.not_true, Bool.not_false, List.getElem?_cons_zero, List.getElem?_cons_succ, Bool.false_eq_true, if_true, if_false, beq_self_eq_true]
        exact rfl, ⟨il, (by (simp only [s_getp, s_getp0, Nat.reduceEqDiff, decide_false, decide_true, iteN_false, iteN_true, t0]; try rfl)), (by (simp only [s_getp, s_getp0, Nat.reduceEqDiff, decide_false, decide_true, iteN_false, iteN_true, t1]; try rfl)), (by (simp only [s_getp, s_getp0, Nat.reduceEqDiff, decide_false, decide_true, iteN_false, iteN_true, t5]; try rfl)), (by (simp only [s_getp, s_getp0, Nat.reduceEqDiff, decide_false, decide_true, iteN_false, iteN_true, t6]; try rfl)), (by (simp only [s_getp, s_getp0, Nat.reduceEqDiff, decide_false, decide_true, iteN_false, iteN_true, t7]; try rfl)), (by (simp only [s_getp, s_getp0, Nat.reduceEqDiff, decide_false, decide_true, iteN_false, iteN_true, t8]; try rfl)), (by (simp only [s_getp, s_getp0, Nat.reduceEqDiff, decide_false, decide_true, iteN_false, iteN_true, t33]; try rfl)), (by (simp only [s_getp, s_getp0, Nat.reduceEqDiff, decide_false, decide_true, iteN_false, iteN_true, t34]; try rfl)), by obtain ⟨k, P⟩ := P; exact ⟨k, by simp only [s_getp, s_getp0, Nat.reduceEqDiff, decide_false, decide_true, iteN_false, iteN_true]; exact P⟩, kp⟩⟩) at_.length 0 (by omega) (N + 100) (by omega) T h1 I
    rw [r2]
    obtain ⟨hC, ap, kC, nC, ps, q1, q2, q3, md2, q4, q5⟩ := ps_more h h1 h2 b a sb at_.length k (by omega) _ _ P kp (b.length - k) (Nat.le_refl _)
    have hk := P.1
    have t9 := P.2.1
    rw [show k + (b.length - k) = b.length by omega, List.take_length] at q2
    have sc := srcP h2 (.slice (upA a k) (b.length - k) none 1)
    obtain ⟨v10, ev⟩ : ∃ v, evO T' (.t 10) = v := ⟨_, rfl⟩
    rw [ev] at ap
    have n12 := kp.1
    obtain ⟨hD, ao2, co2, eo2, rD, pD, wD, nD, fD⟩ := raw_go (X := pureX k_purserlaw01_alive aliveS) er (fun _ _ => rfl) (N + 99) (h.next + 1) (h2.next + 1) ps none (by omega) (by omega) (by rw [q2]; omega) md2 h hC (k01.trans kC) (by omega) (by omega) (by omega) (by omega) q4 q3 (by rw [kC.2 _ (by omega), f1 _ (by omega) (by omega), g1])
    rw [q2] at pD wD
    rw [q1] at rD
    replace rD : callX E (pureX k_purserlaw01_alive aliveS) (N + 100) (.fn k_octet_Pen_Raw) [.ptr (some (h.next + 1, 0)), .slice (some (h2.next + 1, 0)) (at_.length + 1) none 1] hC = some (.int .i64 0, hD) := rD
    have wD1 : WS hD hQ.next b ao co eo := w1.mono (by omega) (fun j hj hj2 => by rw [fD _ (by omega) (by omega), kC.2 _ hj2])
    have pD1 : hD.get h.next = some (.cells [.slice ao b.length co eo] .rw) := by rw [fD _ (by omega) (by omega), kC.2 _ (by omega), p1]
    have kD : Kp h hD := ⟨by omega, fun j hj => by rw [fD _ (by omega) (by omega), kC.2 _ (by omega), ks _ hj]⟩
    obtain ⟨a3, c3, e3, hE, rE, kE, sE⟩ := all_go (X := pureX k_purserlaw01_alive aliveS) ea (fun _ _ => rfl) (N + 99) h.next b (by omega) hQ.next ao co eo hD pD1 wD1
    obtain ⟨a4, c4, e4, hF, rF, kF, sF⟩ := all_go (X := pureX k_purserlaw01_alive aliveS) ea (fun _ _ => rfl) (N + 99) (h.next + 1) b (by omega) hC.next ao2 co2 eo2 hE (by rw [kE.2 _ (by omega), pD]) (wD.mono kE.1 (fun j _ hj => kE.2 _ hj))
    replace rE : callX E (pureX k_purserlaw01_alive aliveS) (N + 100) (.fn k_octet_Pen_All) [.ptr (some (h.next, 0))] hD = some (.slice a3 b.length c3 e3, hE) := rE
    replace rF : callX E (pureX k_purserlaw01_alive aliveS) (N + 100) (.fn k_octet_Pen_All) [.ptr (some (h.next + 1, 0))] hE = some (.slice a4 b.length c4 e4, hF) := rF
    have s1 := str_src sE bb c3
    have s2 := str_src (sb.mono (kD.trans kE)) bb none
    have s3 := str_src sF bb c4
    have s5 := str_src (sb.mono kD) bb none
    have s6 := str_src (sE.mono kF) bb c3
    have s4 := str_src (sb.mono ((kD.trans kE).trans kF)) bb none
    obtain ⟨n, en⟩ : ∃ n, b.length = n := ⟨_, rfl⟩
    rw [en] at t0 t9 sc ap rE rF s1 s2 s3 s4 s5 s6
    obtain ⟨r, eR⟩ : ∃ r, n - k = r := ⟨_, rfl⟩
    rw [eR] at t9 sc ap
    simp (config := {maxSteps := 2000000}) (disch := first | omega | rfl | (simp only [ofI_len, List.length_append, List.length_take, List.length_drop, List.length_cons, List.length_nil, List.length_replicate, List.length_set]; done) | (simp only [ofI_len, List.length_append, List.length_take, List.length_drop, List.length_cons, List.length_nil, List.length_replicate, List.length_set]; omega)) only [R_purserlaw01_OctetParts_0, t0, t5, t6, t7, t8, t9, ev, sc, ap, rD, rE, rF, s1, s2, s3, s4, s5, s6, ↓s_append, ↓ns_b2s, b_seq, vbeq_str, ↓b_xor32, ↓b_and32, ↓b_or32, ↓u_not32, b_xor32, b_and32, b_or32, u_not32, w32ad, ↓x_conv, x_convV, ↓x_fieldAddr, x_fieldV, ↓s_nilchk, x_nilchk, Nat.zero_add, Nat.add_zero, Nat.mul_one, ↓s_evD, ↓s_dnil, ↓s_dL, ↓s_dLg, ↓s_dR, ↓s_dRg, ↓s_dRj, ↓s_dRjg, ↓s_dB, ↓s_dBg, ↓s_dAlloc, ↓s_bindD, s_bindD, s_finD, s_finDx, s_addP0, s_addP1, s_addB, s_lookP, ↓s_bump0, ↓s_bump_get, s_bump_next, s_ok0, ↓s_ok1, s_okR0, ↓s_okR1, ↓s_okE, s_okE, s_okE1, s_nth0, s_nthS, Nat.add_zero, Bool.and_self, Bool.and_true, Bool.true_and, ↓l_loop, ↓l_succ, ↓l_normal, l_normal, l_exit, l_ret, l_iteN, ↓h_put_get, ↓h_new_get, ↓h_del_get, h_next_put, h_next_new, h_next_del, Nat.add_assoc, Nat.add_eq_left, Nat.left_eq_add, Nat.add_left_cancel_iff, ↓s_load, m_load, ↓m_load1, m_load1, ↓m_st, m_stE, m_storeI, m_storeE, w_zero, w_succ, ↓s_alloc, ↓x_idxA, ↓x_idxS, x_idxAE, x_idxSE, x_addrE, x_idx, x_lenS, ↓s_len, ↓x_buildS, x_buildE, ↓x_P0, ↓x_P1, x_fill0, x_filli, x_fills, x_fillb, c_int, List.length_cons, List.length_nil, List.cons_append, List.drop_succ_cons, List.drop_zero, List.drop_nil, List.nil_append, Int.reduceAdd, Int.reduceToNat, Int.reduceLT, Int.reduceLE, Nat.reduceAdd, Nat.reduceMul, Nat.reduceLeDiff, Int.reduceEq, Int.reduceSub, Int.cast_ofNat_Int, s_resc, s_consR, m_load4, m_store4, s_res0, ↓s_skip, ↓s_ops, ↓s_dops, ↓s_seq, ↓s_cond, ↓s_block, ↓s_exit, ↓s_ret, ↓s_scope, ↓s_nil, ↓s_op, ↓s_opg, ↓s_wanted', ↓s_wantV, s_wantV, s_wantV0, beq_true, beq_false, ↓s_bindS, s_bindS, ↓s_bindE, s_bindE, s_bindE_ret, s_bindE_exit, s_bindE_iteN, s_norm, ↓s_condV, s_condV, s_block_ret, s_block_normal, s_block_exit, s_block_iteN, ↓s_getp, ↓s_getp0, ↓s_get, s_get0, ↓s_con, ↓s_fn, ↓s_os0, ↓s_os1, ↓s_list0, ↓s_list1, ↓s_mov, ↓s_pick, ↓s_pickE, s_pickE, ↓s_bin, ↓s_un, ↓s_minmax, ↓s_call, ↓s_callv, ↓s_callV, ↓s_ext, s_same, b_eql, b_neq, b_lss, b_leq, b_gtr, b_geq, b_add, b_sub, b_mul, b_eqlb, b_neqb, b_fnil, b_fnil', b_fnil2, b_fnil2', u_neg, u_not, m_two, s_end, s_end', s_end_iteN, s_res0, s_res1, s_tup1, s_tup2, ↓iteN_true, ↓iteN_false, iteN_true, iteN_false, Nat.zero_add, List.nil_append, List.append_nil, Nat.reduceEqDiff, reduceIte, decide_true, decide_false, Bool.not_true, Bool.not_false, List.getElem?_cons_zero, List.getElem?_cons_succ, Bool.false_eq_true, if_true, if_false, beq_self_eq_true]
    exact ⟨_, rfl⟩
  obtain ⟨R, eR⟩ : ∃ R, R_purserlaw01_OctetParts_0 = R := ⟨_, rfl⟩
  obtain ⟨Lo, eL⟩ : ∃ R, L_purserlaw01_OctetParts_0 = R := ⟨_, rfl⟩
  rw [eR, eL] at fin ⊢
  simp (config := {maxSteps := 2000000}) (disch := first | omega | rfl | (simp only [ofI_len, List.length_append, List.length_take, List.length_drop, List.length_cons, List.length_nil, List.length_replicate, List.length_set]; done) | (simp only [ofI_len, List.length_append, List.length_take, List.length_drop, List.length_cons, List.length_nil, List.length_replicate, List.length_set]; omega)) only [al, c1, c2, eQ, r1, ↓s_len, x_lenS, ↓b_xor32, ↓b_and32, ↓b_or32, ↓u_not32, b_xor32, b_and32, b_or32, u_not32, w32ad, ↓x_conv, x_convV, ↓x_fieldAddr, x_fieldV, ↓s_nilchk, x_nilchk, Nat.zero_add, Nat.add_zero, Nat.mul_one, ↓s_evD, ↓s_dnil, ↓s_dL, ↓s_dLg, ↓s_dR, ↓s_dRg, ↓s_dRj, ↓s_dRjg, ↓s_dB, ↓s_dBg, ↓s_dAlloc, ↓s_bindD, s_bindD, s_finD, s_finDx, s_addP0, s_addP1, s_addB, s_lookP, ↓s_bump0, ↓s_bump_get, s_bump_next, s_ok0, ↓s_ok1, s_okR0, ↓s_okR1, ↓s_okE, s_okE, s_okE1, s_nth0, s_nthS, Nat.add_zero, Bool.and_self, Bool.and_true, Bool.true_and, ↓l_loop, ↓l_succ, ↓l_normal, l_normal, l_exit, l_ret, l_iteN, ↓h_put_get, ↓h_new_get, ↓h_del_get, h_next_put, h_next_new, h_next_del, Nat.add_assoc, Nat.add_eq_left, Nat.left_eq_add, Nat.add_left_cancel_iff, ↓s_load, m_load, ↓m_load1, m_load1, ↓m_st, m_stE, m_storeI, m_storeE, w_zero, w_succ, ↓s_alloc, ↓x_idxA, ↓x_idxS, x_idxAE, x_idxSE, x_addrE, x_idx, x_lenS, ↓s_len, ↓x_buildS, x_buildE, ↓x_P0, ↓x_P1, x_fill0, x_filli, x_fills, x_fillb, c_int, List.length_cons, List.length_nil, List.cons_append, List.drop_succ_cons, List.drop_zero, List.drop_nil, List.nil_append, Int.reduceAdd, Int.reduceToNat, Int.reduceLT, Int.reduceLE, Nat.reduceAdd, Nat.reduceMul, Nat.reduceLeDiff, Int.reduceEq, Int.reduceSub, Int.cast_ofNat_Int, s_resc, s_consR, m_load4, m_store4, s_res0, ↓s_skip, ↓s_ops, ↓s_dops, ↓s_seq, ↓s_cond, ↓s_block, ↓s_exit, ↓s_ret, ↓s_scope, ↓s_nil, ↓s_op, ↓s_opg, ↓s_wanted', ↓s_wantV, s_wantV, s_wantV0, beq_true, beq_false, ↓s_bindS, s_bindS, ↓s_bindE, s_bindE, s_bindE_ret, s_bindE_exit, s_bindE_iteN, s_norm, ↓s_condV, s_condV, s_block_ret, s_block_normal, s_block_exit, s_block_iteN, ↓s_getp, ↓s_getp0, ↓s_get, s_get0, ↓s_con, ↓s_fn, ↓s_os0, ↓s_os1, ↓s_list0, ↓s_list1, ↓s_mov, ↓s_pick, ↓s_pickE, s_pickE, ↓s_bin, ↓s_un, ↓s_minmax, ↓s_call, ↓s_callv, ↓s_callV, ↓s_ext, s_same, b_eql, b_neq, b_lss, b_leq, b_gtr, b_geq, b_add, b_sub, b_mul, b_eqlb, b_neqb, b_fnil, b_fnil', b_fnil2, b_fnil2', u_neg, u_not, m_two, s_end, s_end', s_end_iteN, s_res0, s_res1, s_tup1, s_tup2, ↓iteN_true, ↓iteN_false, iteN_true, iteN_false, Nat.zero_add, List.nil_append, List.append_nil, Nat.reduceEqDiff, reduceIte, decide_true, decide_false, Bool.not_true, Bool.not_false, List.getElem?_cons_zero, List.getElem?_cons_succ, Bool.false_eq_true, if_true, if_false, beq_self_eq_true]
  refine fin _ ⟨by omega, (by (simp only [s_getp, s_getp0, Nat.reduceEqDiff, decide_false, decide_true, iteN_false, iteN_true, eL]; try rfl)), (by (simp only [s_getp, s_getp0, Nat.reduceEqDiff, decide_false, decide_true, iteN_false, iteN_true, eL]; try rfl)), (by (simp only [s_getp, s_getp0, Nat.reduceEqDiff, decide_false, decide_true, iteN_false, iteN_true, eL]; try rfl)), (by (simp only [s_getp, s_getp0, Nat.reduceEqDiff, decide_false, decide_true, iteN_false, iteN_true, eL]; try rfl)), (by (simp only [s_getp, s_getp0, Nat.reduceEqDiff, decide_false, decide_true, iteN_false, iteN_true, eL]; try rfl)), (by (simp only [s_getp, s_getp0, Nat.reduceEqDiff, decide_false, decide_true, iteN_false, iteN_true, eL]; try rfl)), (by (simp only [s_getp, s_getp0, Nat.reduceEqDiff, decide_false, decide_true, iteN_false, iteN_true, eL]; try rfl)), (by (simp only [s_getp, s_getp0, Nat.reduceEqDiff, decide_false, decide_true, iteN_false, iteN_true, eL]; try rfl)), ⟨0, by omega, ?_, [], rfl, rfl, (fun q hq => by cases hq), .inl ⟨rfl, (by (simp only [s_getp, s_getp0, Nat.reduceEqDiff, decide_false, decide_true, iteN_false, iteN_true, eL]; try rfl))⟩⟩, Kp.refl _⟩
  rw [upA_0, Nat.sub_zero]
  exact (by (simp only [s_getp, s_getp0, Nat.reduceEqDiff, decide_false, decide_true, iteN_false, iteN_true, eL]; try rfl))
end Go.Eng
