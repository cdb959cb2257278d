/- What functions of the program come to: own work. -/
import Derived.Test.YtniiddgjepkmeaaNnC
import Derived.OpenShut
import Derived.ChangeSame
import Derived.ChangeArms
namespace Go.Eng
open Go
variable {E : Nat → Option Fn}
set_option linter.unusedSimpArgs false
set_option linter.unusedVariables false
theorem fl0 {X : Orc} (e : E k_num_Flag = some f_num_Flag) (hx : ∀ args h, X (.fn k_num_Flag) args h = none) (N : Nat) (h : H) : callX E X (N + 1) (.fn k_num_Flag) [.bool false] h = some (.slice (some (h.next, 0)) 0 (some 0) 1, h.new (.cells [] .rw)) := by
  rw [x_cfn e _ _ (Nat.le_of_ble_eq_true rfl) (hx _ _)]
  simp (config := {maxSteps := 1000000}) (disch := first | omega | (simp only [List.length_cons, List.length_nil, List.length_append, List.length_drop]; omega)) only [↓l_loop, ↓l_succ, ↓l_normal, l_normal, l_exit, l_ret, l_iteN, ↓h_put_get, ↓h_new_get, ↓h_del_get, h_next_put, h_next_new, h_next_del, Nat.add_assoc, Nat.add_eq_left, Nat.left_eq_add, Nat.add_left_cancel_iff, ↓s_load, m_load, ↓m_load1, m_load1, ↓m_st, m_stE, m_storeI, m_storeE, w_zero, w_succ, ↓s_alloc, ↓x_idxA, ↓x_idxS, x_idxAE, x_idxSE, x_addrE, x_idx, x_lenS, ↓s_len, ↓x_buildS, x_buildE, ↓x_P0, ↓x_P1, x_fill0, x_filli, x_fills, x_fillb, c_int, List.length_cons, List.length_nil, List.cons_append, List.drop_succ_cons, List.drop_zero, List.drop_nil, List.nil_append, Int.reduceAdd, Int.reduceToNat, Int.reduceLT, Int.reduceLE, Nat.reduceAdd, Nat.reduceMul, Nat.reduceLeDiff, Int.reduceEq, Int.reduceSub, Int.cast_ofNat_Int, s_resc, s_consR, m_load4, m_store4, s_res0, ↓s_skip, ↓s_ops, ↓s_dops, ↓s_seq, ↓s_cond, ↓s_block, ↓s_exit, ↓s_ret, ↓s_scope, ↓s_nil, ↓s_op, ↓s_opg, ↓s_wanted', ↓s_wantV, s_wantV, s_wantV0, beq_true, beq_false, ↓s_bindS, s_bindS, ↓s_bindE, s_bindE, s_bindE_ret, s_bindE_exit, s_bindE_iteN, s_norm, ↓s_condV, s_condV, s_block_ret, s_block_normal, s_block_exit, s_block_iteN, ↓s_getp, ↓s_getp0, ↓s_get, s_get0, ↓s_con, ↓s_fn, ↓s_os0, ↓s_os1, ↓s_list0, ↓s_list1, ↓s_mov, ↓s_pick, ↓s_pickE, s_pickE, ↓s_bin, ↓s_un, ↓s_minmax, ↓s_call, ↓s_callv, ↓s_callV, ↓s_ext, s_same, b_eql, b_neq, b_lss, b_leq, b_gtr, b_geq, b_add, b_sub, b_mul, b_eqlb, b_neqb, b_fnil, b_fnil', b_fnil2, b_fnil2', u_neg, u_not, m_two, s_end, s_end', s_end_iteN, s_res0, s_res1, s_tup1, s_tup2, ↓iteN_true, ↓iteN_false, iteN_true, iteN_false, Nat.zero_add, List.nil_append, List.append_nil, Nat.reduceEqDiff, reduceIte, decide_true, decide_false, Bool.not_true, Bool.not_false, List.getElem?_cons_zero, List.getElem?_cons_succ, Bool.false_eq_true, if_true, if_false, beq_self_eq_true]
theorem fl1 {X : Orc} (e : E k_num_Flag = some f_num_Flag) (hx : ∀ args h, X (.fn k_num_Flag) args h = none) (N : Nat) (h : H) : callX E X (N + 1) (.fn k_num_Flag) [.bool true] h = some (.slice (some (h.next, 0)) 1 (some 1) 1, h.new (.cells [.int .u8 1] .rw)) := by
  rw [x_cfn e _ _ (Nat.le_of_ble_eq_true rfl) (hx _ _)]
  simp (config := {maxSteps := 1000000}) (disch := first | omega | (simp only [List.length_cons, List.length_nil, List.length_append, List.length_drop]; omega)) only [↓l_loop, ↓l_succ, ↓l_normal, l_normal, l_exit, l_ret, l_iteN, ↓h_put_get, ↓h_new_get, ↓h_del_get, h_next_put, h_next_new, h_next_del, Nat.add_assoc, Nat.add_eq_left, Nat.left_eq_add, Nat.add_left_cancel_iff, ↓s_load, m_load, ↓m_load1, m_load1, ↓m_st, m_stE, m_storeI, m_storeE, w_zero, w_succ, ↓s_alloc, ↓x_idxA, ↓x_idxS, x_idxAE, x_idxSE, x_addrE, x_idx, x_lenS, ↓s_len, ↓x_buildS, x_buildE, ↓x_P0, ↓x_P1, x_fill0, x_filli, x_fills, x_fillb, c_int, List.length_cons, List.length_nil, List.cons_append, List.drop_succ_cons, List.drop_zero, List.drop_nil, List.nil_append, Int.reduceAdd, Int.reduceToNat, Int.reduceLT, Int.reduceLE, Nat.reduceAdd, Nat.reduceMul, Nat.reduceLeDiff, Int.reduceEq, Int.reduceSub, Int.cast_ofNat_Int, s_resc, s_consR, m_load4, m_store4, s_res0, ↓s_skip, ↓s_ops, ↓s_dops, ↓s_seq, ↓s_cond, ↓s_block, ↓s_exit, ↓s_ret, ↓s_scope, ↓s_nil, ↓s_op, ↓s_opg, ↓s_wanted', ↓s_wantV, s_wantV, s_wantV0, beq_true, beq_false, ↓s_bindS, s_bindS, ↓s_bindE, s_bindE, s_bindE_ret, s_bindE_exit, s_bindE_iteN, s_norm, ↓s_condV, s_condV, s_block_ret, s_block_normal, s_block_exit, s_block_iteN, ↓s_getp, ↓s_getp0, ↓s_get, s_get0, ↓s_con, ↓s_fn, ↓s_os0, ↓s_os1, ↓s_list0, ↓s_list1, ↓s_mov, ↓s_pick, ↓s_pickE, s_pickE, ↓s_bin, ↓s_un, ↓s_minmax, ↓s_call, ↓s_callv, ↓s_callV, ↓s_ext, s_same, b_eql, b_neq, b_lss, b_leq, b_gtr, b_geq, b_add, b_sub, b_mul, b_eqlb, b_neqb, b_fnil, b_fnil', b_fnil2, b_fnil2', u_neg, u_not, m_two, s_end, s_end', s_end_iteN, s_res0, s_res1, s_tup1, s_tup2, ↓iteN_true, ↓iteN_false, iteN_true, iteN_false, Nat.zero_add, List.nil_append, List.append_nil, Nat.reduceEqDiff, reduceIte, decide_true, decide_false, Bool.not_true, Bool.not_false, List.getElem?_cons_zero, List.getElem?_cons_succ, Bool.false_eq_true, if_true, if_false, beq_self_eq_true]
end Go.Eng
namespace Go.Eng
open Go
variable {E : Nat → Option Fn}
set_option linter.unusedSimpArgs false
set_option linter.unusedVariables false
theorem wr_i64n (x : Nat) (hx : x < 9223372036854775808) : wr .i64 (x : Int) = (x : Int) := wr_i64 (by omega)
theorem b_shlI (e : EqK) (h : H) (a m : Nat) (hm : m ≤ 24) (ha : a < 256) : binV .shl e h (.int .i64 (a : Int)) (.int .i64 (m : Int)) = some (.int .i64 ((a * 2 ^ m : Nat) : Int)) := by
  have e1 : binV .shl e h (.int .i64 (a : Int)) (.int .i64 (m : Int)) = some (.int .i64 (wr .i64 ((a : Int) * .ofNat (2 ^ (bif Nat.ble m 64 then m else 64))))) := rfl
  rw [e1, show Nat.ble m 64 = true from by simpa using (by omega : m ≤ 64)]
  simp only [_root_.cond_true]
  have hp : 2 ^ m ≤ 2 ^ 24 := Nat.pow_le_pow_right (by omega) hm
  have hq : a * 2 ^ m ≤ 255 * 2 ^ 24 := Nat.mul_le_mul (by omega) hp
  rw [show (a : Int) * Int.ofNat (2 ^ m) = ((a * 2 ^ m : Nat) : Int) from by simp, wr_i64n _ (by omega)]
theorem b_orI (e : EqK) (h : H) (x z k : Nat) (hx : x < 2 ^ k) (hs : x + z * 2 ^ k < 9223372036854775808) : binV .or e h (.int .i64 (x : Int)) (.int .i64 ((z * 2 ^ k : Nat) : Int)) = some (.int .i64 ((x + z * 2 ^ k : Nat) : Int)) := by
  have e1 : binV .or e h (.int .i64 (x : Int)) (.int .i64 ((z * 2 ^ k : Nat) : Int)) = some (.int .i64 (asK .i64 (Nat.lor (x % 18446744073709551616) ((z * 2 ^ k) % 18446744073709551616)))) := rfl
  rw [e1, Nat.mod_eq_of_lt (by omega), Nat.mod_eq_of_lt (by omega)]
  have : Nat.lor x (z * 2 ^ k) = x + z * 2 ^ k := by
    show x ||| (z * 2 ^ k) = _
    rw [Nat.or_comm, Nat.mul_comm z, ← Nat.two_pow_add_eq_or_of_lt hx, Nat.add_comm]
  rw [this]
  unfold asK half
  rw [show Nat.blt (x + z * 2 ^ k) 9223372036854775808 = true from by simpa using hs]; rfl
theorem sh0 (e : EqK) (h : H) (a : Nat) (ha : a < 256) : binV .shl e h (.int .i64 (a : Int)) (.int .i64 0) = some (.int .i64 (a : Int)) := by
  have := b_shlI e h a 0 (by omega) ha
  simpa using this
theorem sh1 (e : EqK) (h : H) (a : Nat) (ha : a < 256) : binV .shl e h (.int .i64 (a : Int)) (.int .i64 8) = some (.int .i64 ((a * 256 : Nat) : Int)) := b_shlI e h a 8 (by omega) ha
theorem sh2 (e : EqK) (h : H) (a : Nat) (ha : a < 256) : binV .shl e h (.int .i64 (a : Int)) (.int .i64 16) = some (.int .i64 ((a * 65536 : Nat) : Int)) := b_shlI e h a 16 (by omega) ha
theorem sh3 (e : EqK) (h : H) (a : Nat) (ha : a < 256) : binV .shl e h (.int .i64 (a : Int)) (.int .i64 24) = some (.int .i64 ((a * 16777216 : Nat) : Int)) := b_shlI e h a 24 (by omega) ha
theorem or0 (e : EqK) (h : H) (a : Nat) (ha : a < 256) : binV .or e h (.int .i64 0) (.int .i64 (a : Int)) = some (.int .i64 (a : Int)) := by
  have := b_orI e h 0 a 0 (by omega) (by omega)
  simpa using this
theorem or1 (e : EqK) (h : H) (x a : Nat) (hx : x < 256) (ha : a < 256) : binV .or e h (.int .i64 (x : Int)) (.int .i64 ((a * 256 : Nat) : Int)) = some (.int .i64 ((x + a * 256 : Nat) : Int)) := b_orI e h x a 8 hx (by omega)
theorem or2 (e : EqK) (h : H) (x a : Nat) (hx : x < 65536) (ha : a < 256) : binV .or e h (.int .i64 (x : Int)) (.int .i64 ((a * 65536 : Nat) : Int)) = some (.int .i64 ((x + a * 65536 : Nat) : Int)) := b_orI e h x a 16 hx (by omega)
theorem or3 (e : EqK) (h : H) (x a : Nat) (hx : x < 16777216) (ha : a < 256) : binV .or e h (.int .i64 (x : Int)) (.int .i64 ((a * 16777216 : Nat) : Int)) = some (.int .i64 ((x + a * 16777216 : Nat) : Int)) := b_orI e h x a 24 hx (by omega)
def magN : List Nat → Nat
  | [a] => a % 128
  | [a, b] => a + b % 128 * 256
  | [a, b, c] => a + b * 256 + c % 128 * 65536
  | [a, b, c, d] => a + b * 256 + c * 65536 + d % 128 * 16777216
  | _ => 0
def negN : List Nat → Bool
  | [a] => decide (128 ≤ a)
  | [_, b] => decide (128 ≤ b)
  | [_, _, c] => decide (128 ≤ c)
  | [_, _, _, d] => decide (128 ≤ d)
  | _ => false
def numN (l : List Nat) : Int := if negN l then -(magN l : Int) else (magN l : Int)
theorem nm0 (e : E k_num_number = some f_num_number) (N : Nat) (a : Option (Nat × Nat)) (c : Option Nat) (z : Nat) (h : H) : callX E noX (N + 2) (.fn k_num_number) [.slice a 0 c z] h = some (.int .i64 0, h) := by
  rw [x_cfn e _ _ (Nat.le_of_ble_eq_true rfl) rfl]
  have c0 : decide (((0:Nat):Int) < ((0:Nat):Int)) = false := rfl
  have c1 : decide ((0:Int) < ((0:Nat):Int)) = false := rfl
  simp (config := {maxSteps := 1000000}) (disch := first | omega | (simp only [List.length_cons, List.length_nil, List.length_append, List.length_drop]; omega)) only [c0, c1, ↓l_loop, ↓l_succ, ↓l_normal, l_normal, l_exit, l_ret, l_iteN, ↓h_put_get, ↓h_new_get, ↓h_del_get, h_next_put, h_next_new, h_next_del, Nat.add_assoc, Nat.add_eq_left, Nat.left_eq_add, Nat.add_left_cancel_iff, ↓s_load, m_load, ↓m_load1, m_load1, ↓m_st, m_stE, m_storeI, m_storeE, w_zero, w_succ, ↓s_alloc, ↓x_idxA, ↓x_idxS, x_idxAE, x_idxSE, x_addrE, x_idx, x_lenS, ↓s_len, ↓x_buildS, x_buildE, ↓x_P0, ↓x_P1, x_fill0, x_filli, x_fills, x_fillb, c_int, List.length_cons, List.length_nil, List.cons_append, List.drop_succ_cons, List.drop_zero, List.drop_nil, List.nil_append, Int.reduceAdd, Int.reduceToNat, Int.reduceLT, Int.reduceLE, Nat.reduceAdd, Nat.reduceMul, Nat.reduceLeDiff, Int.reduceEq, Int.reduceSub, Int.cast_ofNat_Int, s_resc, s_consR, m_load4, m_store4, s_res0, ↓s_skip, ↓s_ops, ↓s_dops, ↓s_seq, ↓s_cond, ↓s_block, ↓s_exit, ↓s_ret, ↓s_scope, ↓s_nil, ↓s_op, ↓s_opg, ↓s_wanted', ↓s_wantV, s_wantV, s_wantV0, beq_true, beq_false, ↓s_bindS, s_bindS, ↓s_bindE, s_bindE, s_bindE_ret, s_bindE_exit, s_bindE_iteN, s_norm, ↓s_condV, s_condV, s_block_ret, s_block_normal, s_block_exit, s_block_iteN, ↓s_getp, ↓s_getp0, ↓s_get, s_get0, ↓s_con, ↓s_fn, ↓s_os0, ↓s_os1, ↓s_list0, ↓s_list1, ↓s_mov, ↓s_pick, ↓s_pickE, s_pickE, ↓s_bin, ↓s_un, ↓s_minmax, ↓s_call, ↓s_callv, ↓s_callV, ↓s_ext, s_same, b_eql, b_neq, b_lss, b_leq, b_gtr, b_geq, b_add, b_sub, b_mul, b_eqlb, b_neqb, b_fnil, b_fnil', b_fnil2, b_fnil2', u_neg, u_not, m_two, s_end, s_end', s_end_iteN, s_res0, s_res1, s_tup1, s_tup2, ↓iteN_true, ↓iteN_false, iteN_true, iteN_false, Nat.zero_add, List.nil_append, List.append_nil, Nat.reduceEqDiff, reduceIte, decide_true, decide_false, Bool.not_true, Bool.not_false, List.getElem?_cons_zero, List.getElem?_cons_succ, Bool.false_eq_true, if_true, if_false, beq_self_eq_true]
set_option maxHeartbeats 4000000 in
theorem nm1 (e : E k_num_number = some f_num_number) (N : Nat) (a : Nat) (ha : a < 256) (cp : Option Nat) : callX E noX (N + 10) (.fn k_num_number) [.slice (some (0, 0)) 1 cp 1] (mkH [(0, ofBytes [a])] 1) = some (.int .i64 (numN [a]), mkH [(0, ofBytes [a])] 1) := by
  rw [x_cfn e _ _ (Nat.le_of_ble_eq_true rfl) rfl]
  obtain ⟨H0, eH⟩ : ∃ H0, mkH [(0, ofBytes [a])] 1 = H0 := ⟨_, rfl⟩
  have gl : H0.get 0 = some (.cells [.int .u8 (a : Int)] .ro) := by rw [← eH]; rfl
  rw [eH]
  have an := fun e h => b_andNot8 e h a ha
  have a8 := fun e h => b_and8 e h a ha
  have w0 : wr .i64 0 = 0 := rfl
  have w1 : wr .i64 1 = 1 := rfl
  have w2 : wr .i64 2 = 2 := rfl
  have w3 : wr .i64 3 = 3 := rfl
  have w4 : wr .i64 4 = 4 := rfl
  have w5 : wr .i64 5 = 5 := rfl
  have w8 : wr .i64 8 = 8 := rfl
  have w16 : wr .i64 16 = 16 := rfl
  have w24 : wr .i64 24 = 24 := rfl
  obtain ⟨t, et⟩ : ∃ t, a % 128 = t := ⟨_, rfl⟩
  have ht : t < 256 := by omega
  have xt : wr .i64 (t : Int) = (t : Int) := wr_i64n _ (by omega)
  rw [et] at an
  have st := fun e h => sh0 e h t ht
  have ot := fun e h => or0 e h t ht
  have xn : wr .i64 (0 - (t : Int)) = -(t : Int) := by rw [wr_i64 (by omega)]; omega
  by_cases hlt : a < 128
  · simp only [if_pos hlt] at a8
    have en : numN [a] = (t : Int) := by simp only [numN, magN, negN, et]; rw [decide_eq_false (by omega)]; rfl
    rw [en]
    simp (config := {maxSteps := 1000000}) (disch := first | omega | (simp only [List.length_cons, List.length_nil, List.length_append, List.length_drop]; omega)) only [gl, an, a8, xn, w0, w1, w2, w3, w4, w5, w8, w16, w24, xt, st, ot, Int.reduceMul, ↓x_conv, x_convV, ↓l_loop, ↓l_succ, ↓l_normal, l_normal, l_exit, l_ret, l_iteN, ↓h_put_get, ↓h_new_get, ↓h_del_get, h_next_put, h_next_new, h_next_del, Nat.add_assoc, Nat.add_eq_left, Nat.left_eq_add, Nat.add_left_cancel_iff, ↓s_load, m_load, ↓m_load1, m_load1, ↓m_st, m_stE, m_storeI, m_storeE, w_zero, w_succ, ↓s_alloc, ↓x_idxA, ↓x_idxS, x_idxAE, x_idxSE, x_addrE, x_idx, x_lenS, ↓s_len, ↓x_buildS, x_buildE, ↓x_P0, ↓x_P1, x_fill0, x_filli, x_fills, x_fillb, c_int, List.length_cons, List.length_nil, List.cons_append, List.drop_succ_cons, List.drop_zero, List.drop_nil, List.nil_append, Int.reduceAdd, Int.reduceToNat, Int.reduceLT, Int.reduceLE, Nat.reduceAdd, Nat.reduceMul, Nat.reduceLeDiff, Int.reduceEq, Int.reduceSub, Int.cast_ofNat_Int, s_resc, s_consR, m_load4, m_store4, s_res0, ↓s_skip, ↓s_ops, ↓s_dops, ↓s_seq, ↓s_cond, ↓s_block, ↓s_exit, ↓s_ret, ↓s_scope, ↓s_nil, ↓s_op, ↓s_opg, ↓s_wanted', ↓s_wantV, s_wantV, s_wantV0, beq_true, beq_false, ↓s_bindS, s_bindS, ↓s_bindE, s_bindE, s_bindE_ret, s_bindE_exit, s_bindE_iteN, s_norm, ↓s_condV, s_condV, s_block_ret, s_block_normal, s_block_exit, s_block_iteN, ↓s_getp, ↓s_getp0, ↓s_get, s_get0, ↓s_con, ↓s_fn, ↓s_os0, ↓s_os1, ↓s_list0, ↓s_list1, ↓s_mov, ↓s_pick, ↓s_pickE, s_pickE, ↓s_bin, ↓s_un, ↓s_minmax, ↓s_call, ↓s_callv, ↓s_callV, ↓s_ext, s_same, b_eql, b_neq, b_lss, b_leq, b_gtr, b_geq, b_add, b_sub, b_mul, b_eqlb, b_neqb, b_fnil, b_fnil', b_fnil2, b_fnil2', u_neg, u_not, m_two, s_end, s_end', s_end_iteN, s_res0, s_res1, s_tup1, s_tup2, ↓iteN_true, ↓iteN_false, iteN_true, iteN_false, Nat.zero_add, List.nil_append, List.append_nil, Nat.reduceEqDiff, reduceIte, decide_true, decide_false, Bool.not_true, Bool.not_false, List.getElem?_cons_zero, List.getElem?_cons_succ, Bool.false_eq_true, if_true, if_false, beq_self_eq_true]
  · simp only [if_neg hlt] at a8
    have en : numN [a] = -(t : Int) := by simp only [numN, magN, negN, et]; rw [decide_eq_true (by omega)]; rfl
    rw [en]
    simp (config := {maxSteps := 1000000}) (disch := first | omega | (simp only [List.length_cons, List.length_nil, List.length_append, List.length_drop]; omega)) only [gl, an, a8, xn, w0, w1, w2, w3, w4, w5, w8, w16, w24, xt, st, ot, Int.reduceMul, ↓x_conv, x_convV, ↓l_loop, ↓l_succ, ↓l_normal, l_normal, l_exit, l_ret, l_iteN, ↓h_put_get, ↓h_new_get, ↓h_del_get, h_next_put, h_next_new, h_next_del, Nat.add_assoc, Nat.add_eq_left, Nat.left_eq_add, Nat.add_left_cancel_iff, ↓s_load, m_load, ↓m_load1, m_load1, ↓m_st, m_stE, m_storeI, m_storeE, w_zero, w_succ, ↓s_alloc, ↓x_idxA, ↓x_idxS, x_idxAE, x_idxSE, x_addrE, x_idx, x_lenS, ↓s_len, ↓x_buildS, x_buildE, ↓x_P0, ↓x_P1, x_fill0, x_filli, x_fills, x_fillb, c_int, List.length_cons, List.length_nil, List.cons_append, List.drop_succ_cons, List.drop_zero, List.drop_nil, List.nil_append, Int.reduceAdd, Int.reduceToNat, Int.reduceLT, Int.reduceLE, Nat.reduceAdd, Nat.reduceMul, Nat.reduceLeDiff, Int.reduceEq, Int.reduceSub, Int.cast_ofNat_Int, s_resc, s_consR, m_load4, m_store4, s_res0, ↓s_skip, ↓s_ops, ↓s_dops, ↓s_seq, ↓s_cond, ↓s_block, ↓s_exit, ↓s_ret, ↓s_scope, ↓s_nil, ↓s_op, ↓s_opg, ↓s_wanted', ↓s_wantV, s_wantV, s_wantV0, beq_true, beq_false, ↓s_bindS, s_bindS, ↓s_bindE, s_bindE, s_bindE_ret, s_bindE_exit, s_bindE_iteN, s_norm, ↓s_condV, s_condV, s_block_ret, s_block_normal, s_block_exit, s_block_iteN, ↓s_getp, ↓s_getp0, ↓s_get, s_get0, ↓s_con, ↓s_fn, ↓s_os0, ↓s_os1, ↓s_list0, ↓s_list1, ↓s_mov, ↓s_pick, ↓s_pickE, s_pickE, ↓s_bin, ↓s_un, ↓s_minmax, ↓s_call, ↓s_callv, ↓s_callV, ↓s_ext, s_same, b_eql, b_neq, b_lss, b_leq, b_gtr, b_geq, b_add, b_sub, b_mul, b_eqlb, b_neqb, b_fnil, b_fnil', b_fnil2, b_fnil2', u_neg, u_not, m_two, s_end, s_end', s_end_iteN, s_res0, s_res1, s_tup1, s_tup2, ↓iteN_true, ↓iteN_false, iteN_true, iteN_false, Nat.zero_add, List.nil_append, List.append_nil, Nat.reduceEqDiff, reduceIte, decide_true, decide_false, Bool.not_true, Bool.not_false, List.getElem?_cons_zero, List.getElem?_cons_succ, Bool.false_eq_true, if_true, if_false, beq_self_eq_true]
set_option maxHeartbeats 4000000 in
theorem nm2 (e : E k_num_number = some f_num_number) (N : Nat) (a b : Nat) (ha : a < 256) (hb : b < 256) (cp : Option Nat) : callX E noX (N + 10) (.fn k_num_number) [.slice (some (0, 0)) 2 cp 1] (mkH [(0, ofBytes [a, b])] 1) = some (.int .i64 (numN [a, b]), mkH [(0, ofBytes [a, b])] 1) := by
  rw [x_cfn e _ _ (Nat.le_of_ble_eq_true rfl) rfl]
  obtain ⟨H0, eH⟩ : ∃ H0, mkH [(0, ofBytes [a, b])] 1 = H0 := ⟨_, rfl⟩
  have gl : H0.get 0 = some (.cells [.int .u8 (a : Int), .int .u8 (b : Int)] .ro) := by rw [← eH]; rfl
  rw [eH]
  have an := fun e h => b_andNot8 e h b hb
  have a8 := fun e h => b_and8 e h b hb
  have w0 : wr .i64 0 = 0 := rfl
  have w1 : wr .i64 1 = 1 := rfl
  have w2 : wr .i64 2 = 2 := rfl
  have w3 : wr .i64 3 = 3 := rfl
  have w4 : wr .i64 4 = 4 := rfl
  have w5 : wr .i64 5 = 5 := rfl
  have w8 : wr .i64 8 = 8 := rfl
  have w16 : wr .i64 16 = 16 := rfl
  have w24 : wr .i64 24 = 24 := rfl
  have xa : wr .i64 (a : Int) = (a : Int) := wr_i64n _ (by omega)
  obtain ⟨t, et⟩ : ∃ t, b % 128 = t := ⟨_, rfl⟩
  have ht : t < 256 := by omega
  have xt : wr .i64 (t : Int) = (t : Int) := wr_i64n _ (by omega)
  rw [et] at an
  have sa := fun e h => sh0 e h a ha
  have oa := fun e h => or0 e h a ha
  have st := fun e h => sh1 e h t ht
  obtain ⟨p1, ep1⟩ : ∃ p, a + t * 256 = p := ⟨_, rfl⟩
  have ot := fun e h => or1 e h a t (by omega) ht
  rw [ep1] at ot
  have xn : wr .i64 (0 - (p1 : Int)) = -(p1 : Int) := by rw [wr_i64 (by omega)]; omega
  by_cases hlt : b < 128
  · simp only [if_pos hlt] at a8
    have en : numN [a, b] = (p1 : Int) := by simp only [numN, magN, negN, et, ep1]; rw [decide_eq_false (by omega)]; rfl
    rw [en]
    simp (config := {maxSteps := 1000000}) (disch := first | omega | (simp only [List.length_cons, List.length_nil, List.length_append, List.length_drop]; omega)) only [gl, an, a8, xn, w0, w1, w2, w3, w4, w5, w8, w16, w24, xa, xt, sa, oa, st, ot, Int.reduceMul, ↓x_conv, x_convV, ↓l_loop, ↓l_succ, ↓l_normal, l_normal, l_exit, l_ret, l_iteN, ↓h_put_get, ↓h_new_get, ↓h_del_get, h_next_put, h_next_new, h_next_del, Nat.add_assoc, Nat.add_eq_left, Nat.left_eq_add, Nat.add_left_cancel_iff, ↓s_load, m_load, ↓m_load1, m_load1, ↓m_st, m_stE, m_storeI, m_storeE, w_zero, w_succ, ↓s_alloc, ↓x_idxA, ↓x_idxS, x_idxAE, x_idxSE, x_addrE, x_idx, x_lenS, ↓s_len, ↓x_buildS, x_buildE, ↓x_P0, ↓x_P1, x_fill0, x_filli, x_fills, x_fillb, c_int, List.length_cons, List.length_nil, List.cons_append, List.drop_succ_cons, List.drop_zero, List.drop_nil, List.nil_append, Int.reduceAdd, Int.reduceToNat, Int.reduceLT, Int.reduceLE, Nat.reduceAdd, Nat.reduceMul, Nat.reduceLeDiff, Int.reduceEq, Int.reduceSub, Int.cast_ofNat_Int, s_resc, s_consR, m_load4, m_store4, s_res0, ↓s_skip, ↓s_ops, ↓s_dops, ↓s_seq, ↓s_cond, ↓s_block, ↓s_exit, ↓s_ret, ↓s_scope, ↓s_nil, ↓s_op, ↓s_opg, ↓s_wanted', ↓s_wantV, s_wantV, s_wantV0, beq_true, beq_false, ↓s_bindS, s_bindS, ↓s_bindE, s_bindE, s_bindE_ret, s_bindE_exit, s_bindE_iteN, s_norm, ↓s_condV, s_condV, s_block_ret, s_block_normal, s_block_exit, s_block_iteN, ↓s_getp, ↓s_getp0, ↓s_get, s_get0, ↓s_con, ↓s_fn, ↓s_os0, ↓s_os1, ↓s_list0, ↓s_list1, ↓s_mov, ↓s_pick, ↓s_pickE, s_pickE, ↓s_bin, ↓s_un, ↓s_minmax, ↓s_call, ↓s_callv, ↓s_callV, ↓s_ext, s_same, b_eql, b_neq, b_lss, b_leq, b_gtr, b_geq, b_add, b_sub, b_mul, b_eqlb, b_neqb, b_fnil, b_fnil', b_fnil2, b_fnil2', u_neg, u_not, m_two, s_end, s_end', s_end_iteN, s_res0, s_res1, s_tup1, s_tup2, ↓iteN_true, ↓iteN_false, iteN_true, iteN_false, Nat.zero_add, List.nil_append, List.append_nil, Nat.reduceEqDiff, reduceIte, decide_true, decide_false, Bool.not_true, Bool.not_false, List.getElem?_cons_zero, List.getElem?_cons_succ, Bool.false_eq_true, if_true, if_false, beq_self_eq_true]
  · simp only [if_neg hlt] at a8
    have en : numN [a, b] = -(p1 : Int) := by simp only [numN, magN, negN, et, ep1]; rw [decide_eq_true (by omega)]; rfl
    rw [en]
    simp (config := {maxSteps := 1000000}) (disch := first | omega | (simp only [List.length_cons, List.length_nil, List.length_append, List.length_drop]; omega)) only [gl, an, a8, xn, w0, w1, w2, w3, w4, w5, w8, w16, w24, xa, xt, sa, oa, st, ot, Int.reduceMul, ↓x_conv, x_convV, ↓l_loop, ↓l_succ, ↓l_normal, l_normal, l_exit, l_ret, l_iteN, ↓h_put_get, ↓h_new_get, ↓h_del_get, h_next_put, h_next_new, h_next_del, Nat.add_assoc, Nat.add_eq_left, Nat.left_eq_add, Nat.add_left_cancel_iff, ↓s_load, m_load, ↓m_load1, m_load1, ↓m_st, m_stE, m_storeI, m_storeE, w_zero, w_succ, ↓s_alloc, ↓x_idxA, ↓x_idxS, x_idxAE, x_idxSE, x_addrE, x_idx, x_lenS, ↓s_len, ↓x_buildS, x_buildE, ↓x_P0, ↓x_P1, x_fill0, x_filli, x_fills, x_fillb, c_int, List.length_cons, List.length_nil, List.cons_append, List.drop_succ_cons, List.drop_zero, List.drop_nil, List.nil_append, Int.reduceAdd, Int.reduceToNat, Int.reduceLT, Int.reduceLE, Nat.reduceAdd, Nat.reduceMul, Nat.reduceLeDiff, Int.reduceEq, Int.reduceSub, Int.cast_ofNat_Int, s_resc, s_consR, m_load4, m_store4, s_res0, ↓s_skip, ↓s_ops, ↓s_dops, ↓s_seq, ↓s_cond, ↓s_block, ↓s_exit, ↓s_ret, ↓s_scope, ↓s_nil, ↓s_op, ↓s_opg, ↓s_wanted', ↓s_wantV, s_wantV, s_wantV0, beq_true, beq_false, ↓s_bindS, s_bindS, ↓s_bindE, s_bindE, s_bindE_ret, s_bindE_exit, s_bindE_iteN, s_norm, ↓s_condV, s_condV, s_block_ret, s_block_normal, s_block_exit, s_block_iteN, ↓s_getp, ↓s_getp0, ↓s_get, s_get0, ↓s_con, ↓s_fn, ↓s_os0, ↓s_os1, ↓s_list0, ↓s_list1, ↓s_mov, ↓s_pick, ↓s_pickE, s_pickE, ↓s_bin, ↓s_un, ↓s_minmax, ↓s_call, ↓s_callv, ↓s_callV, ↓s_ext, s_same, b_eql, b_neq, b_lss, b_leq, b_gtr, b_geq, b_add, b_sub, b_mul, b_eqlb, b_neqb, b_fnil, b_fnil', b_fnil2, b_fnil2', u_neg, u_not, m_two, s_end, s_end', s_end_iteN, s_res0, s_res1, s_tup1, s_tup2, ↓iteN_true, ↓iteN_false, iteN_true, iteN_false, Nat.zero_add, List.nil_append, List.append_nil, Nat.reduceEqDiff, reduceIte, decide_true, decide_false, Bool.not_true, Bool.not_false, List.getElem?_cons_zero, List.getElem?_cons_succ, Bool.false_eq_true, if_true, if_false, beq_self_eq_true]
set_option maxHeartbeats 4000000 in
theorem nm3 (e : E k_num_number = some f_num_number) (N : Nat) (a b c : Nat) (ha : a < 256) (hb : b < 256) (hc : c < 256) (cp : Option Nat) : callX E noX (N + 10) (.fn k_num_number) [.slice (some (0, 0)) 3 cp 1] (mkH [(0, ofBytes [a, b, c])] 1) = some (.int .i64 (numN [a, b, c]), mkH [(0, ofBytes [a, b, c])] 1) := by
  rw [x_cfn e _ _ (Nat.le_of_ble_eq_true rfl) rfl]
  obtain ⟨H0, eH⟩ : ∃ H0, mkH [(0, ofBytes [a, b, c])] 1 = H0 := ⟨_, rfl⟩
  have gl : H0.get 0 = some (.cells [.int .u8 (a : Int), .int .u8 (b : Int), .int .u8 (c : Int)] .ro) := by rw [← eH]; rfl
  rw [eH]
  have an := fun e h => b_andNot8 e h c hc
  have a8 := fun e h => b_and8 e h c hc
  have w0 : wr .i64 0 = 0 := rfl
  have w1 : wr .i64 1 = 1 := rfl
  have w2 : wr .i64 2 = 2 := rfl
  have w3 : wr .i64 3 = 3 := rfl
  have w4 : wr .i64 4 = 4 := rfl
  have w5 : wr .i64 5 = 5 := rfl
  have w8 : wr .i64 8 = 8 := rfl
  have w16 : wr .i64 16 = 16 := rfl
  have w24 : wr .i64 24 = 24 := rfl
  have xa : wr .i64 (a : Int) = (a : Int) := wr_i64n _ (by omega)
  have xb : wr .i64 (b : Int) = (b : Int) := wr_i64n _ (by omega)
  obtain ⟨t, et⟩ : ∃ t, c % 128 = t := ⟨_, rfl⟩
  have ht : t < 256 := by omega
  have xt : wr .i64 (t : Int) = (t : Int) := wr_i64n _ (by omega)
  rw [et] at an
  have sa := fun e h => sh0 e h a ha
  have oa := fun e h => or0 e h a ha
  have sb := fun e h => sh1 e h b hb
  obtain ⟨p1, ep1⟩ : ∃ p, a + b * 256 = p := ⟨_, rfl⟩
  have ob := fun e h => or1 e h a b (by omega) hb
  rw [ep1] at ob
  have st := fun e h => sh2 e h t ht
  obtain ⟨p2, ep2⟩ : ∃ p, p1 + t * 65536 = p := ⟨_, rfl⟩
  have ot := fun e h => or2 e h p1 t (by omega) ht
  rw [ep2] at ot
  have xn : wr .i64 (0 - (p2 : Int)) = -(p2 : Int) := by rw [wr_i64 (by omega)]; omega
  by_cases hlt : c < 128
  · simp only [if_pos hlt] at a8
    have en : numN [a, b, c] = (p2 : Int) := by simp only [numN, magN, negN, et, ep1, ep2]; rw [decide_eq_false (by omega)]; rfl
    rw [en]
    simp (config := {maxSteps := 1000000}) (disch := first | omega | (simp only [List.length_cons, List.length_nil, List.length_append, List.length_drop]; omega)) only [gl, an, a8, xn, w0, w1, w2, w3, w4, w5, w8, w16, w24, xa, xb, xt, sa, oa, sb, ob, st, ot, Int.reduceMul, ↓x_conv, x_convV, ↓l_loop, ↓l_succ, ↓l_normal, l_normal, l_exit, l_ret, l_iteN, ↓h_put_get, ↓h_new_get, ↓h_del_get, h_next_put, h_next_new, h_next_del, Nat.add_assoc, Nat.add_eq_left, Nat.left_eq_add, Nat.add_left_cancel_iff, ↓s_load, m_load, ↓m_load1, m_load1, ↓m_st, m_stE, m_storeI, m_storeE, w_zero, w_succ, ↓s_alloc, ↓x_idxA, ↓x_idxS, x_idxAE, x_idxSE, x_addrE, x_idx, x_lenS, ↓s_len, ↓x_buildS, x_buildE, ↓x_P0, ↓x_P1, x_fill0, x_filli, x_fills, x_fillb, c_int, List.length_cons, List.length_nil, List.cons_append, List.drop_succ_cons, List.drop_zero, List.drop_nil, List.nil_append, Int.reduceAdd, Int.reduceToNat, Int.reduceLT, Int.reduceLE, Nat.reduceAdd, Nat.reduceMul, Nat.reduceLeDiff, Int.reduceEq, Int.reduceSub, Int.cast_ofNat_Int, s_resc, s_consR, m_load4, m_store4, s_res0, ↓s_skip, ↓s_ops, ↓s_dops, ↓s_seq, ↓s_cond, ↓s_block, ↓s_exit, ↓s_ret, ↓s_scope, ↓s_nil, ↓s_op, ↓s_opg, ↓s_wanted', ↓s_wantV, s_wantV, s_wantV0, beq_true, beq_false, ↓s_bindS, s_bindS, ↓s_bindE, s_bindE, s_bindE_ret, s_bindE_exit, s_bindE_iteN, s_norm, ↓s_condV, s_condV, s_block_ret, s_block_normal, s_block_exit, s_block_iteN, ↓s_getp, ↓s_getp0, ↓s_get, s_get0, ↓s_con, ↓s_fn, ↓s_os0, ↓s_os1, ↓s_list0, ↓s_list1, ↓s_mov, ↓s_pick, ↓s_pickE, s_pickE, ↓s_bin, ↓s_un, ↓s_minmax, ↓s_call, ↓s_callv, ↓s_callV, ↓s_ext, s_same, b_eql, b_neq, b_lss, b_leq, b_gtr, b_geq, b_add, b_sub, b_mul, b_eqlb, b_neqb, b_fnil, b_fnil', b_fnil2, b_fnil2', u_neg, u_not, m_two, s_end, s_end', s_end_iteN, s_res0, s_res1, s_tup1, s_tup2, ↓iteN_true, ↓iteN_false, iteN_true, iteN_false, Nat.zero_add, List.nil_append, List.append_nil, Nat.reduceEqDiff, reduceIte, decide_true, decide_false, Bool.not_true, Bool.not_false, List.getElem?_cons_zero, List.getElem?_cons_succ, Bool.false_eq_true, if_true, if_false, beq_self_eq_true]
  · simp only [if_neg hlt] at a8
    have en : numN [a, b, c] = -(p2 : Int) := by simp only [numN, magN, negN, et, ep1, ep2]; rw [decide_eq_true (by omega)]; rfl
    rw [en]
    simp (config := {maxSteps := 1000000}) (disch := first | omega | (simp only [List.length_cons, List.length_nil, List.length_append, List.length_drop]; omega)) only [gl, an, a8, xn, w0, w1, w2, w3, w4, w5, w8, w16, w24, xa, xb, xt, sa, oa, sb, ob, st, ot, Int.reduceMul, ↓x_conv, x_convV, ↓l_loop, ↓l_succ, ↓l_normal, l_normal, l_exit, l_ret, l_iteN, ↓h_put_get, ↓h_new_get, ↓h_del_get, h_next_put, h_next_new, h_next_del, Nat.add_assoc, Nat.add_eq_left, Nat.left_eq_add, Nat.add_left_cancel_iff, ↓s_load, m_load, ↓m_load1, m_load1, ↓m_st, m_stE, m_storeI, m_storeE, w_zero, w_succ, ↓s_alloc, ↓x_idxA, ↓x_idxS, x_idxAE, x_idxSE, x_addrE, x_idx, x_lenS, ↓s_len, ↓x_buildS, x_buildE, ↓x_P0, ↓x_P1, x_fill0, x_filli, x_fills, x_fillb, c_int, List.length_cons, List.length_nil, List.cons_append, List.drop_succ_cons, List.drop_zero, List.drop_nil, List.nil_append, Int.reduceAdd, Int.reduceToNat, Int.reduceLT, Int.reduceLE, Nat.reduceAdd, Nat.reduceMul, Nat.reduceLeDiff, Int.reduceEq, Int.reduceSub, Int.cast_ofNat_Int, s_resc, s_consR, m_load4, m_store4, s_res0, ↓s_skip, ↓s_ops, ↓s_dops, ↓s_seq, ↓s_cond, ↓s_block, ↓s_exit, ↓s_ret, ↓s_scope, ↓s_nil, ↓s_op, ↓s_opg, ↓s_wanted', ↓s_wantV, s_wantV, s_wantV0, beq_true, beq_false, ↓s_bindS, s_bindS, ↓s_bindE, s_bindE, s_bindE_ret, s_bindE_exit, s_bindE_iteN, s_norm, ↓s_condV, s_condV, s_block_ret, s_block_normal, s_block_exit, s_block_iteN, ↓s_getp, ↓s_getp0, ↓s_get, s_get0, ↓s_con, ↓s_fn, ↓s_os0, ↓s_os1, ↓s_list0, ↓s_list1, ↓s_mov, ↓s_pick, ↓s_pickE, s_pickE, ↓s_bin, ↓s_un, ↓s_minmax, ↓s_call, ↓s_callv, ↓s_callV, ↓s_ext, s_same, b_eql, b_neq, b_lss, b_leq, b_gtr, b_geq, b_add, b_sub, b_mul, b_eqlb, b_neqb, b_fnil, b_fnil', b_fnil2, b_fnil2', u_neg, u_not, m_two, s_end, s_end', s_end_iteN, s_res0, s_res1, s_tup1, s_tup2, ↓iteN_true, ↓iteN_false, iteN_true, iteN_false, Nat.zero_add, List.nil_append, List.append_nil, Nat.reduceEqDiff, reduceIte, decide_true, decide_false, Bool.not_true, Bool.not_false, List.getElem?_cons_zero, List.getElem?_cons_succ, Bool.false_eq_true, if_true, if_false, beq_self_eq_true]
set_option maxHeartbeats 4000000 in
theorem nm4 (e : E k_num_number = some f_num_number) (N : Nat) (a b c d : Nat) (ha : a < 256) (hb : b < 256) (hc : c < 256) (hd : d < 256) (cp : Option Nat) : callX E noX (N + 10) (.fn k_num_number) [.slice (some (0, 0)) 4 cp 1] (mkH [(0, ofBytes [a, b, c, d])] 1) = some (.int .i64 (numN [a, b, c, d]), mkH [(0, ofBytes [a, b, c, d])] 1) := by
  rw [x_cfn e _ _ (Nat.le_of_ble_eq_true rfl) rfl]
  obtain ⟨H0, eH⟩ : ∃ H0, mkH [(0, ofBytes [a, b, c, d])] 1 = H0 := ⟨_, rfl⟩
  have gl : H0.get 0 = some (.cells [.int .u8 (a : Int), .int .u8 (b : Int), .int .u8 (c : Int), .int .u8 (d : Int)] .ro) := by rw [← eH]; rfl
  rw [eH]
  have an := fun e h => b_andNot8 e h d hd
  have a8 := fun e h => b_and8 e h d hd
  have w0 : wr .i64 0 = 0 := rfl
  have w1 : wr .i64 1 = 1 := rfl
  have w2 : wr .i64 2 = 2 := rfl
  have w3 : wr .i64 3 = 3 := rfl
  have w4 : wr .i64 4 = 4 := rfl
  have w5 : wr .i64 5 = 5 := rfl
  have w8 : wr .i64 8 = 8 := rfl
  have w16 : wr .i64 16 = 16 := rfl
  have w24 : wr .i64 24 = 24 := rfl
  have xa : wr .i64 (a : Int) = (a : Int) := wr_i64n _ (by omega)
  have xb : wr .i64 (b : Int) = (b : Int) := wr_i64n _ (by omega)
  have xc : wr .i64 (c : Int) = (c : Int) := wr_i64n _ (by omega)
  obtain ⟨t, et⟩ : ∃ t, d % 128 = t := ⟨_, rfl⟩
  have ht : t < 256 := by omega
  have xt : wr .i64 (t : Int) = (t : Int) := wr_i64n _ (by omega)
  rw [et] at an
  have sa := fun e h => sh0 e h a ha
  have oa := fun e h => or0 e h a ha
  have sb := fun e h => sh1 e h b hb
  obtain ⟨p1, ep1⟩ : ∃ p, a + b * 256 = p := ⟨_, rfl⟩
  have ob := fun e h => or1 e h a b (by omega) hb
  rw [ep1] at ob
  have sc := fun e h => sh2 e h c hc
  obtain ⟨p2, ep2⟩ : ∃ p, p1 + c * 65536 = p := ⟨_, rfl⟩
  have oc := fun e h => or2 e h p1 c (by omega) hc
  rw [ep2] at oc
  have st := fun e h => sh3 e h t ht
  obtain ⟨p3, ep3⟩ : ∃ p, p2 + t * 16777216 = p := ⟨_, rfl⟩
  have ot := fun e h => or3 e h p2 t (by omega) ht
  rw [ep3] at ot
  have xn : wr .i64 (0 - (p3 : Int)) = -(p3 : Int) := by rw [wr_i64 (by omega)]; omega
  by_cases hlt : d < 128
  · simp only [if_pos hlt] at a8
    have en : numN [a, b, c, d] = (p3 : Int) := by simp only [numN, magN, negN, et, ep1, ep2, ep3]; rw [decide_eq_false (by omega)]; rfl
    rw [en]
    simp (config := {maxSteps := 1000000}) (disch := first | omega | (simp only [List.length_cons, List.length_nil, List.length_append, List.length_drop]; omega)) only [gl, an, a8, xn, w0, w1, w2, w3, w4, w5, w8, w16, w24, xa, xb, xc, xt, sa, oa, sb, ob, sc, oc, st, ot, Int.reduceMul, ↓x_conv, x_convV, ↓l_loop, ↓l_succ, ↓l_normal, l_normal, l_exit, l_ret, l_iteN, ↓h_put_get, ↓h_new_get, ↓h_del_get, h_next_put, h_next_new, h_next_del, Nat.add_assoc, Nat.add_eq_left, Nat.left_eq_add, Nat.add_left_cancel_iff, ↓s_load, m_load, ↓m_load1, m_load1, ↓m_st, m_stE, m_storeI, m_storeE, w_zero, w_succ, ↓s_alloc, ↓x_idxA, ↓x_idxS, x_idxAE, x_idxSE, x_addrE, x_idx, x_lenS, ↓s_len, ↓x_buildS, x_buildE, ↓x_P0, ↓x_P1, x_fill0, x_filli, x_fills, x_fillb, c_int, List.length_cons, List.length_nil, List.cons_append, List.drop_succ_cons, List.drop_zero, List.drop_nil, List.nil_append, Int.reduceAdd, Int.reduceToNat, Int.reduceLT, Int.reduceLE, Nat.reduceAdd, Nat.reduceMul, Nat.reduceLeDiff, Int.reduceEq, Int.reduceSub, Int.cast_ofNat_Int, s_resc, s_consR, m_load4, m_store4, s_res0, ↓s_skip, ↓s_ops, ↓s_dops, ↓s_seq, ↓s_cond, ↓s_block, ↓s_exit, ↓s_ret, ↓s_scope, ↓s_nil, ↓s_op, ↓s_opg, ↓s_wanted', ↓s_wantV, s_wantV, s_wantV0, beq_true, beq_false, ↓s_bindS, s_bindS, ↓s_bindE, s_bindE, s_bindE_ret, s_bindE_exit, s_bindE_iteN, s_norm, ↓s_condV, s_condV, s_block_ret, s_block_normal, s_block_exit, s_block_iteN, ↓s_getp, ↓s_getp0, ↓s_get, s_get0, ↓s_con, ↓s_fn, ↓s_os0, ↓s_os1, ↓s_list0, ↓s_list1, ↓s_mov, ↓s_pick, ↓s_pickE, s_pickE, ↓s_bin, ↓s_un, ↓s_minmax, ↓s_call, ↓s_callv, ↓s_callV, ↓s_ext, s_same, b_eql, b_neq, b_lss, b_leq, b_gtr, b_geq, b_add, b_sub, b_mul, b_eqlb, b_neqb, b_fnil, b_fnil', b_fnil2, b_fnil2', u_neg, u_not, m_two, s_end, s_end', s_end_iteN, s_res0, s_res1, s_tup1, s_tup2, ↓iteN_true, ↓iteN_false, iteN_true, iteN_false, Nat.zero_add, List.nil_append, List.append_nil, Nat.reduceEqDiff, reduceIte, decide_true, decide_false, Bool.not_true, Bool.not_false, List.getElem?_cons_zero, List.getElem?_cons_succ, Bool.false_eq_true, if_true, if_false, beq_self_eq_true]
  · simp only [if_neg hlt] at a8
    have en : numN [a, b, c, d] = -(p3 : Int) := by simp only [numN, magN, negN, et, ep1, ep2, ep3]; rw [decide_eq_true (by omega)]; rfl
    rw [en]
    simp (config := {maxSteps := 1000000}) (disch := first | omega | (simp only [List.length_cons, List.length_nil, List.length_append, List.length_drop]; omega)) only [gl, an, a8, xn, w0, w1, w2, w3, w4, w5, w8, w16, w24, xa, xb, xc, xt, sa, oa, sb, ob, sc, oc, st, ot, Int.reduceMul, ↓x_conv, x_convV, ↓l_loop, ↓l_succ, ↓l_normal, l_normal, l_exit, l_ret, l_iteN, ↓h_put_get, ↓h_new_get, ↓h_del_get, h_next_put, h_next_new, h_next_del, Nat.add_assoc, Nat.add_eq_left, Nat.left_eq_add, Nat.add_left_cancel_iff, ↓s_load, m_load, ↓m_load1, m_load1, ↓m_st, m_stE, m_storeI, m_storeE, w_zero, w_succ, ↓s_alloc, ↓x_idxA, ↓x_idxS, x_idxAE, x_idxSE, x_addrE, x_idx, x_lenS, ↓s_len, ↓x_buildS, x_buildE, ↓x_P0, ↓x_P1, x_fill0, x_filli, x_fills, x_fillb, c_int, List.length_cons, List.length_nil, List.cons_append, List.drop_succ_cons, List.drop_zero, List.drop_nil, List.nil_append, Int.reduceAdd, Int.reduceToNat, Int.reduceLT, Int.reduceLE, Nat.reduceAdd, Nat.reduceMul, Nat.reduceLeDiff, Int.reduceEq, Int.reduceSub, Int.cast_ofNat_Int, s_resc, s_consR, m_load4, m_store4, s_res0, ↓s_skip, ↓s_ops, ↓s_dops, ↓s_seq, ↓s_cond, ↓s_block, ↓s_exit, ↓s_ret, ↓s_scope, ↓s_nil, ↓s_op, ↓s_opg, ↓s_wanted', ↓s_wantV, s_wantV, s_wantV0, beq_true, beq_false, ↓s_bindS, s_bindS, ↓s_bindE, s_bindE, s_bindE_ret, s_bindE_exit, s_bindE_iteN, s_norm, ↓s_condV, s_condV, s_block_ret, s_block_normal, s_block_exit, s_block_iteN, ↓s_getp, ↓s_getp0, ↓s_get, s_get0, ↓s_con, ↓s_fn, ↓s_os0, ↓s_os1, ↓s_list0, ↓s_list1, ↓s_mov, ↓s_pick, ↓s_pickE, s_pickE, ↓s_bin, ↓s_un, ↓s_minmax, ↓s_call, ↓s_callv, ↓s_callV, ↓s_ext, s_same, b_eql, b_neq, b_lss, b_leq, b_gtr, b_geq, b_add, b_sub, b_mul, b_eqlb, b_neqb, b_fnil, b_fnil', b_fnil2, b_fnil2', u_neg, u_not, m_two, s_end, s_end', s_end_iteN, s_res0, s_res1, s_tup1, s_tup2, ↓iteN_true, ↓iteN_false, iteN_true, iteN_false, Nat.zero_add, List.nil_append, List.append_nil, Nat.reduceEqDiff, reduceIte, decide_true, decide_false, Bool.not_true, Bool.not_false, List.getElem?_cons_zero, List.getElem?_cons_succ, Bool.false_eq_true, if_true, if_false, beq_self_eq_true]
end Go.Eng
namespace Go.Eng
open Go
variable {E : Nat → Option Fn}
set_option linter.unusedSimpArgs false
set_option linter.unusedVariables false
theorem ns_b2s (Q : Orc) (T : Tr V) (h : H) (x : O) : Eng.step (.b2s x) Q T h = same h (b2sV h (evO T x)) := _root_.id rfl
noncomputable def nsE (b : Option Blk) (off len : Nat) : Option V := match b with
  | some (.cells vs _) => match readN vs off len with
    | some l => strO (bytesOf l)
    | none => none
  | _ => none
@[congr] theorem nsE_congr {off len : Nat} {b b' : Option Blk} (e : b = b') : nsE b off len = nsE b' off len := by rw [e]
theorem nx_bs0 (h : H) (c : Option Nat) (e n : Nat) : b2sV h (.slice none n c e) = some (.str []) := _root_.id rfl
theorem nx_bs00 (h : H) (i off : Nat) (c : Option Nat) (e : Nat) : b2sV h (.slice (some (i, off)) 0 c e) = some (.str []) := _root_.id rfl
theorem nx_bs1 (h : H) (i off n : Nat) (c : Option Nat) (e : Nat) : b2sV h (.slice (some (i, off)) (n + 1) c e) = nsE (h.get i) off (n + 1) := by
  unfold b2sV nsE cellsAt
  simp only
  cases h.get i with
  | none => rfl
  | some b => cases b <;> rfl
theorem bytesOf_ofB : ∀ (l : List Nat), (∀ x ∈ l, x < 256) → bytesOf (ofBytes l) = some l := by
  intro l
  induction l with
  | nil => intro _; rfl
  | cons a r ih =>
    intro h
    show (match bytesOf (ofBytes r) with | some l => some (a % 256 :: l) | none => none) = _
    rw [ih (fun x hx => h x (List.mem_cons_of_mem _ hx)), Nat.mod_eq_of_lt (h a (List.mem_cons_self ..))]
theorem nsE_of (l : List Nat) (hl : ∀ x ∈ l, x < 256) (m : Md) (n : Nat) (hn : l.length = n) : nsE (some (.cells (ofBytes l) m)) 0 n = some (.str l) := by
  have r := x_readAll (ofBytes l) n (by rw [ofB_len, hn])
  show (match readN (ofBytes l) 0 n with | some l => strO (bytesOf l) | none => none) = _
  rw [r]
  simp only [bytesOf_ofB l hl]
  rfl
theorem strEq_dec : ∀ (a b : List Nat), strEq a b = decide (a = b) := by
  intro a
  induction a with
  | nil => intro b; cases b <;> rfl
  | cons x r ih =>
    intro b
    cases b with
    | nil => rfl
    | cons y s =>
      show (bif Nat.beq x y then strEq r s else false) = _
      by_cases h : x = y
      · subst h
        rw [show Nat.beq x x = true from Nat.beq_refl x, ih s]
        simp only [_root_.cond_true, List.cons.injEq, true_and]
      · have hb : Nat.beq x y = false := by
          cases hb : Nat.beq x y with
          | false => rfl
          | true => exact absurd (Nat.eq_of_beq_eq_true hb) h
        rw [hb]
        simp only [_root_.cond_false, List.cons.injEq, h, false_and, decide_false]
theorem b_seq (e : EqK) (h : H) (a b : List Nat) : binV .eql e h (.str a) (.str b) = some (.bool (decide (a = b))) := by
  rw [← strEq_dec]; rfl
theorem enc_gen {X : Orc} (hE : ∀ n h, encIn n = true → X (.fn k_num_Encode) [.int .i64 n] h = some (newV h (ofBytes (enc n)) (.int .i64 0))) (N : Nat) (n : Int) (h : H) (hn : -549755813887 ≤ n ∧ n ≤ 549755813887) (h0 : n ≠ 0) : callX E X (N + 1) (.fn k_num_Encode) [.int .i64 n] h = some (.tup [.slice (some (h.next, 0)) ((enc n).length - 1 + 1) none 1, .int .i64 0], h.new (.cells (ofBytes (enc n)) .sh)) := by
  rw [x_known (hE n h (decide_eq_true hn))]
  obtain ⟨_, _, hne, _⟩ := enc_facts n hn h0
  cases hq : enc n with
  | nil => exact absurd hq hne
  | cons a r => show some (newV h (_ :: ofBytes r) _) = _; unfold newV; simp only [ofB_len, List.length_cons, Nat.add_sub_cancel]; rfl
theorem enc_gen0 {X : Orc} (hE : ∀ n h, encIn n = true → X (.fn k_num_Encode) [.int .i64 n] h = some (newV h (ofBytes (enc n)) (.int .i64 0))) (N : Nat) (h : H) : callX E X (N + 1) (.fn k_num_Encode) [.int .i64 0] h = some (.tup [.slice none 0 (some 0) 0, .int .i64 0], h) := x_known (hE 0 h rfl)
theorem enc_len (n : Int) (hn : -549755813887 ≤ n ∧ n ≤ 549755813887) (h0 : n ≠ 0) : (enc n).length = (enc n).length - 1 + 1 := by
  obtain ⟨_, _, hne, _⟩ := enc_facts n hn h0
  cases hq : enc n with
  | nil => exact absurd hq hne
  | cons a r => simp
def byt (l : List Nat) : Bool := l.all (fun x => decide (x < 256))
theorem byt_iff {l : List Nat} : byt l = true ↔ ∀ x ∈ l, x < 256 := by simp [byt]
def numS (l : List Nat) : Option V := if decide (l.length ≤ 4) && byt l then some (.int .i64 (numN l)) else none
theorem numX_ok {P : Program} {g : Gn} (hE : Link P g E) (e : E k_num_number = some f_num_number) : QOk P g (bytesX k_num_number numS) := by
  refine bytesX_ok (callX_ok hE noX_ok 10) ?_
  intro l v hs
  unfold numS at hs
  split at hs
  · rename_i hb
    cases hs
    simp only [Bool.and_eq_true, decide_eq_true_eq, byt_iff] at hb
    refine ⟨rfl, ?_, ?_⟩
    · intro h0 a c z
      subst h0
      exact ⟨_, nm0 e 8 a c z _⟩
    · intro hne cp
      match l, hb, hne with
      | [a], hb, _ => exact ⟨_, nm1 e 0 a (hb.2 a (by simp)) cp⟩
      | [a, b], hb, _ => exact ⟨_, nm2 e 0 a b (hb.2 a (by simp)) (hb.2 b (by simp)) cp⟩
      | [a, b, c], hb, _ => exact ⟨_, nm3 e 0 a b c (hb.2 a (by simp)) (hb.2 b (by simp)) (hb.2 c (by simp)) cp⟩
      | [a, b, c, d], hb, _ => exact ⟨_, nm4 e 0 a b c d (hb.2 a (by simp)) (hb.2 b (by simp)) (hb.2 c (by simp)) (hb.2 d (by simp)) cp⟩
      | _ :: _ :: _ :: _ :: _ :: _, hb, _ => exact absurd hb.1 (by simp)
  · cases hs
theorem numN_fits (l : List Nat) (hl : l.length ≤ 4) (hb : ∀ x ∈ l, x < 256) : -2147483647 ≤ numN l ∧ numN l ≤ 2147483647 := by
  have : magN l ≤ 2147483647 := by
    match l, hl, hb with
    | [], _, _ => simp [magN]
    | [a], _, _ => simp only [magN]; omega
    | [a, b], _, hb => have := hb a (by simp); simp only [magN]; omega
    | [a, b, c], _, hb => have := hb a (by simp); have := hb b (by simp); simp only [magN]; omega
    | [a, b, c, d], _, hb => have := hb a (by simp); have := hb b (by simp); have := hb c (by simp); simp only [magN]; omega
    | _ :: _ :: _ :: _ :: _ :: _, hl, _ => exact absurd hl (by simp)
  unfold numN
  split <;> omega
noncomputable def dX : Orc := orX (newX k_num_Encode encS) (bytesX k_num_number numS)
def decV (l : List Nat) : V := if l.length ≤ 4 ∧ enc (numN l) = l then .tup [.int .i64 (numN l), .int .i64 0] else .tup [.int .i64 0, .int .i64 110]
theorem dc_big (e : E k_num_Decode = some f_num_Decode) (N L : Nat) (hL : 4 < L) (a : Option (Nat × Nat)) (c : Option Nat) (z : Nat) (h : H) : callX E dX (N + 1) (.fn k_num_Decode) [.slice a L c z] h = some (.tup [.int .i64 0, .int .i64 110], h) := by
  rw [x_cfn e _ _ (Nat.le_of_ble_eq_true rfl) rfl]
  have c1 : decide ((4 : Int) < (L : Int)) = true := decide_eq_true (by omega)
  simp (config := {maxSteps := 1000000}) (disch := first | omega | (simp only [List.length_cons, List.length_nil, List.length_append, List.length_drop]; omega)) only [c1, ↓s_len, x_lenS, ↓l_loop, ↓l_succ, ↓l_normal, l_normal, l_exit, l_ret, l_iteN, ↓h_put_get, ↓h_new_get, ↓h_del_get, h_next_put, h_next_new, h_next_del, Nat.add_assoc, Nat.add_eq_left, Nat.left_eq_add, Nat.add_left_cancel_iff, ↓s_load, m_load, ↓m_load1, m_load1, ↓m_st, m_stE, m_storeI, m_storeE, w_zero, w_succ, ↓s_alloc, ↓x_idxA, ↓x_idxS, x_idxAE, x_idxSE, x_addrE, x_idx, x_lenS, ↓s_len, ↓x_buildS, x_buildE, ↓x_P0, ↓x_P1, x_fill0, x_filli, x_fills, x_fillb, c_int, List.length_cons, List.length_nil, List.cons_append, List.drop_succ_cons, List.drop_zero, List.drop_nil, List.nil_append, Int.reduceAdd, Int.reduceToNat, Int.reduceLT, Int.reduceLE, Nat.reduceAdd, Nat.reduceMul, Nat.reduceLeDiff, Int.reduceEq, Int.reduceSub, Int.cast_ofNat_Int, s_resc, s_consR, m_load4, m_store4, s_res0, ↓s_skip, ↓s_ops, ↓s_dops, ↓s_seq, ↓s_cond, ↓s_block, ↓s_exit, ↓s_ret, ↓s_scope, ↓s_nil, ↓s_op, ↓s_opg, ↓s_wanted', ↓s_wantV, s_wantV, s_wantV0, beq_true, beq_false, ↓s_bindS, s_bindS, ↓s_bindE, s_bindE, s_bindE_ret, s_bindE_exit, s_bindE_iteN, s_norm, ↓s_condV, s_condV, s_block_ret, s_block_normal, s_block_exit, s_block_iteN, ↓s_getp, ↓s_getp0, ↓s_get, s_get0, ↓s_con, ↓s_fn, ↓s_os0, ↓s_os1, ↓s_list0, ↓s_list1, ↓s_mov, ↓s_pick, ↓s_pickE, s_pickE, ↓s_bin, ↓s_un, ↓s_minmax, ↓s_call, ↓s_callv, ↓s_callV, ↓s_ext, s_same, b_eql, b_neq, b_lss, b_leq, b_gtr, b_geq, b_add, b_sub, b_mul, b_eqlb, b_neqb, b_fnil, b_fnil', b_fnil2, b_fnil2', u_neg, u_not, m_two, s_end, s_end', s_end_iteN, s_res0, s_res1, s_tup1, s_tup2, ↓iteN_true, ↓iteN_false, iteN_true, iteN_false, Nat.zero_add, List.nil_append, List.append_nil, Nat.reduceEqDiff, reduceIte, decide_true, decide_false, Bool.not_true, Bool.not_false, List.getElem?_cons_zero, List.getElem?_cons_succ, Bool.false_eq_true, if_true, if_false, beq_self_eq_true]
theorem dX_enc (n : Int) (h : H) (hn : encIn n = true) : dX (.fn k_num_Encode) [.int .i64 n] h = some (newV h (ofBytes (enc n)) (.int .i64 0)) := orX_l (newX_yes h (by unfold encS; simp only [hn, if_true]))
theorem sp_Equal {X : Orc} (eB : E k_bytes_Equal = some f_bytes_Equal) (hx : ∀ args h, X (.fn k_bytes_Equal) args h = none) (N : Nat) (x y : V) (p q : List Nat) (h : H) (h1 : b2sV h x = some (.str p)) (h2 : b2sV h y = some (.str q)) : callX E X (N + 1) (.fn k_bytes_Equal) [x, y] h = some (.bool (decide (p = q)), h) := by
  rw [x_cfn eB _ _ (Nat.le_of_ble_eq_true rfl) (hx _ _)]
  simp (config := {maxSteps := 1000000}) (disch := first | omega | (simp only [List.length_cons, List.length_nil, List.length_append, List.length_drop]; omega)) only [h1, h2, b_seq, ↓ns_b2s, ↓l_loop, ↓l_succ, ↓l_normal, l_normal, l_exit, l_ret, l_iteN, ↓h_put_get, ↓h_new_get, ↓h_del_get, h_next_put, h_next_new, h_next_del, Nat.add_assoc, Nat.add_eq_left, Nat.left_eq_add, Nat.add_left_cancel_iff, ↓s_load, m_load, ↓m_load1, m_load1, ↓m_st, m_stE, m_storeI, m_storeE, w_zero, w_succ, ↓s_alloc, ↓x_idxA, ↓x_idxS, x_idxAE, x_idxSE, x_addrE, x_idx, x_lenS, ↓s_len, ↓x_buildS, x_buildE, ↓x_P0, ↓x_P1, x_fill0, x_filli, x_fills, x_fillb, c_int, List.length_cons, List.length_nil, List.cons_append, List.drop_succ_cons, List.drop_zero, List.drop_nil, List.nil_append, Int.reduceAdd, Int.reduceToNat, Int.reduceLT, Int.reduceLE, Nat.reduceAdd, Nat.reduceMul, Nat.reduceLeDiff, Int.reduceEq, Int.reduceSub, Int.cast_ofNat_Int, s_resc, s_consR, m_load4, m_store4, s_res0, ↓s_skip, ↓s_ops, ↓s_dops, ↓s_seq, ↓s_cond, ↓s_block, ↓s_exit, ↓s_ret, ↓s_scope, ↓s_nil, ↓s_op, ↓s_opg, ↓s_wanted', ↓s_wantV, s_wantV, s_wantV0, beq_true, beq_false, ↓s_bindS, s_bindS, ↓s_bindE, s_bindE, s_bindE_ret, s_bindE_exit, s_bindE_iteN, s_norm, ↓s_condV, s_condV, s_block_ret, s_block_normal, s_block_exit, s_block_iteN, ↓s_getp, ↓s_getp0, ↓s_get, s_get0, ↓s_con, ↓s_fn, ↓s_os0, ↓s_os1, ↓s_list0, ↓s_list1, ↓s_mov, ↓s_pick, ↓s_pickE, s_pickE, ↓s_bin, ↓s_un, ↓s_minmax, ↓s_call, ↓s_callv, ↓s_callV, ↓s_ext, s_same, b_eql, b_neq, b_lss, b_leq, b_gtr, b_geq, b_add, b_sub, b_mul, b_eqlb, b_neqb, b_fnil, b_fnil', b_fnil2, b_fnil2', u_neg, u_not, m_two, s_end, s_end', s_end_iteN, s_res0, s_res1, s_tup1, s_tup2, ↓iteN_true, ↓iteN_false, iteN_true, iteN_false, Nat.zero_add, List.nil_append, List.append_nil, Nat.reduceEqDiff, reduceIte, decide_true, decide_false, Bool.not_true, Bool.not_false, List.getElem?_cons_zero, List.getElem?_cons_succ, Bool.false_eq_true, if_true, if_false, beq_self_eq_true]
theorem dX_noEq (args : List V) (h : H) : dX (.fn k_bytes_Equal) args h = none := (orX_r (newX_no h rfl)).trans (bytesX_no h rfl)
theorem dc_run (e : E k_num_Decode = some f_num_Decode) (eB : E k_bytes_Equal = some f_bytes_Equal) (N : Nat) (l : List Nat) (hl : l.length ≤ 4) (hb : ∀ x ∈ l, x < 256) (a : Option (Nat × Nat)) (c : Option Nat) (z : Nat) (h : H)
    (hr : rdB h (.slice a l.length c z) = some l) (hs0 : b2sV h (.slice a l.length c z) = some (.str l)) (hs1 : ∀ bl, b2sV (h.new bl) (.slice a l.length c z) = some (.str l)) :
    ∃ h', callX E dX (N + 4) (.fn k_num_Decode) [.slice a l.length c z] h = some (decV l, h') := by
  rw [x_cfn e _ _ (Nat.le_of_ble_eq_true rfl) rfl]
  have hf := numN_fits l hl hb
  have en : callX E dX (N + 3) (.fn k_num_number) [.slice a l.length c z] h = some (.int .i64 (numN l), h) := x_known ((orX_r (newX_no h rfl)).trans (bytesX_yes h hr (by unfold numS; rw [decide_eq_true hl, byt_iff.2 hb]; rfl)))
  have hd0 : ∀ m, numN l = m → decV l = if enc m = l then .tup [.int .i64 m, .int .i64 0] else .tup [.int .i64 0, .int .i64 110] := by
    intro m em
    unfold decV; rw [em]; simp only [hl, true_and]
  obtain ⟨L, eL⟩ : ∃ L, l.length = L := ⟨_, rfl⟩
  simp only [eL] at hl en hs0 hs1 ⊢
  have c1 : decide ((4 : Int) < (L : Int)) = false := decide_eq_false (by omega)
  obtain ⟨m, em⟩ : ∃ m, numN l = m := ⟨_, rfl⟩
  have hd := hd0 m em
  rw [hd]
  rw [em] at en hf
  by_cases h0 : m = 0
  · subst h0
    have E0 := enc_gen0 (E := E) dX_enc (N + 2)
    rw [enc_zero]
    have eQ := sp_Equal eB dX_noEq (N + 2) (.slice none 0 (some 0) 0) (.slice a L c z) [] l h rfl hs0
    by_cases hq : [] = l
    · refine ⟨h, ?_⟩
      rw [if_pos hq]
      have dq : decide (([] : List Nat) = l) = true := decide_eq_true hq
      simp (config := {maxSteps := 1000000}) (disch := first | omega | (simp only [List.length_cons, List.length_nil, List.length_append, List.length_drop]; omega)) only [c1, en, E0, eQ, dq, ↓s_len, x_lenS, ↓l_loop, ↓l_succ, ↓l_normal, l_normal, l_exit, l_ret, l_iteN, ↓h_put_get, ↓h_new_get, ↓h_del_get, h_next_put, h_next_new, h_next_del, Nat.add_assoc, Nat.add_eq_left, Nat.left_eq_add, Nat.add_left_cancel_iff, ↓s_load, m_load, ↓m_load1, m_load1, ↓m_st, m_stE, m_storeI, m_storeE, w_zero, w_succ, ↓s_alloc, ↓x_idxA, ↓x_idxS, x_idxAE, x_idxSE, x_addrE, x_idx, x_lenS, ↓s_len, ↓x_buildS, x_buildE, ↓x_P0, ↓x_P1, x_fill0, x_filli, x_fills, x_fillb, c_int, List.length_cons, List.length_nil, List.cons_append, List.drop_succ_cons, List.drop_zero, List.drop_nil, List.nil_append, Int.reduceAdd, Int.reduceToNat, Int.reduceLT, Int.reduceLE, Nat.reduceAdd, Nat.reduceMul, Nat.reduceLeDiff, Int.reduceEq, Int.reduceSub, Int.cast_ofNat_Int, s_resc, s_consR, m_load4, m_store4, s_res0, ↓s_skip, ↓s_ops, ↓s_dops, ↓s_seq, ↓s_cond, ↓s_block, ↓s_exit, ↓s_ret, ↓s_scope, ↓s_nil, ↓s_op, ↓s_opg, ↓s_wanted', ↓s_wantV, s_wantV, s_wantV0, beq_true, beq_false, ↓s_bindS, s_bindS, ↓s_bindE, s_bindE, s_bindE_ret, s_bindE_exit, s_bindE_iteN, s_norm, ↓s_condV, s_condV, s_block_ret, s_block_normal, s_block_exit, s_block_iteN, ↓s_getp, ↓s_getp0, ↓s_get, s_get0, ↓s_con, ↓s_fn, ↓s_os0, ↓s_os1, ↓s_list0, ↓s_list1, ↓s_mov, ↓s_pick, ↓s_pickE, s_pickE, ↓s_bin, ↓s_un, ↓s_minmax, ↓s_call, ↓s_callv, ↓s_callV, ↓s_ext, s_same, b_eql, b_neq, b_lss, b_leq, b_gtr, b_geq, b_add, b_sub, b_mul, b_eqlb, b_neqb, b_fnil, b_fnil', b_fnil2, b_fnil2', u_neg, u_not, m_two, s_end, s_end', s_end_iteN, s_res0, s_res1, s_tup1, s_tup2, ↓iteN_true, ↓iteN_false, iteN_true, iteN_false, Nat.zero_add, List.nil_append, List.append_nil, Nat.reduceEqDiff, reduceIte, decide_true, decide_false, Bool.not_true, Bool.not_false, List.getElem?_cons_zero, List.getElem?_cons_succ, Bool.false_eq_true, if_true, if_false, beq_self_eq_true]
    · refine ⟨h, ?_⟩
      rw [if_neg hq]
      have dq : decide (([] : List Nat) = l) = false := decide_eq_false hq
      simp (config := {maxSteps := 1000000}) (disch := first | omega | (simp only [List.length_cons, List.length_nil, List.length_append, List.length_drop]; omega)) only [c1, en, E0, eQ, dq, ↓s_len, x_lenS, ↓l_loop, ↓l_succ, ↓l_normal, l_normal, l_exit, l_ret, l_iteN, ↓h_put_get, ↓h_new_get, ↓h_del_get, h_next_put, h_next_new, h_next_del, Nat.add_assoc, Nat.add_eq_left, Nat.left_eq_add, Nat.add_left_cancel_iff, ↓s_load, m_load, ↓m_load1, m_load1, ↓m_st, m_stE, m_storeI, m_storeE, w_zero, w_succ, ↓s_alloc, ↓x_idxA, ↓x_idxS, x_idxAE, x_idxSE, x_addrE, x_idx, x_lenS, ↓s_len, ↓x_buildS, x_buildE, ↓x_P0, ↓x_P1, x_fill0, x_filli, x_fills, x_fillb, c_int, List.length_cons, List.length_nil, List.cons_append, List.drop_succ_cons, List.drop_zero, List.drop_nil, List.nil_append, Int.reduceAdd, Int.reduceToNat, Int.reduceLT, Int.reduceLE, Nat.reduceAdd, Nat.reduceMul, Nat.reduceLeDiff, Int.reduceEq, Int.reduceSub, Int.cast_ofNat_Int, s_resc, s_consR, m_load4, m_store4, s_res0, ↓s_skip, ↓s_ops, ↓s_dops, ↓s_seq, ↓s_cond, ↓s_block, ↓s_exit, ↓s_ret, ↓s_scope, ↓s_nil, ↓s_op, ↓s_opg, ↓s_wanted', ↓s_wantV, s_wantV, s_wantV0, beq_true, beq_false, ↓s_bindS, s_bindS, ↓s_bindE, s_bindE, s_bindE_ret, s_bindE_exit, s_bindE_iteN, s_norm, ↓s_condV, s_condV, s_block_ret, s_block_normal, s_block_exit, s_block_iteN, ↓s_getp, ↓s_getp0, ↓s_get, s_get0, ↓s_con, ↓s_fn, ↓s_os0, ↓s_os1, ↓s_list0, ↓s_list1, ↓s_mov, ↓s_pick, ↓s_pickE, s_pickE, ↓s_bin, ↓s_un, ↓s_minmax, ↓s_call, ↓s_callv, ↓s_callV, ↓s_ext, s_same, b_eql, b_neq, b_lss, b_leq, b_gtr, b_geq, b_add, b_sub, b_mul, b_eqlb, b_neqb, b_fnil, b_fnil', b_fnil2, b_fnil2', u_neg, u_not, m_two, s_end, s_end', s_end_iteN, s_res0, s_res1, s_tup1, s_tup2, ↓iteN_true, ↓iteN_false, iteN_true, iteN_false, Nat.zero_add, List.nil_append, List.append_nil, Nat.reduceEqDiff, reduceIte, decide_true, decide_false, Bool.not_true, Bool.not_false, List.getElem?_cons_zero, List.getElem?_cons_succ, Bool.false_eq_true, if_true, if_false, beq_self_eq_true]
  · have hin : -549755813887 ≤ m ∧ m ≤ 549755813887 := by omega
    have E2 := fun h => enc_gen (E := E) dX_enc (N + 2) m h hin h0
    obtain ⟨_, _, _, hlt⟩ := enc_facts m hin h0
    have hlen := enc_len m hin h0
    obtain ⟨K, eK⟩ : ∃ K, (enc m).length - 1 = K := ⟨_, rfl⟩
    simp only [eK] at E2 hlen
    have ns := fun md => nsE_of (enc m) hlt md (K + 1) hlen
    have eQ := sp_Equal eB dX_noEq (N + 2) (.slice (some (h.next, 0)) (K + 1) none 1) (.slice a L c z) (enc m) l (h.new (.cells (ofBytes (enc m)) .sh)) (by rw [nx_bs1, H.get_new, if_pos rfl, ns]) (hs1 _)
    refine ⟨h.new (.cells (ofBytes (enc m)) .sh), ?_⟩
    by_cases hq : enc m = l
    · rw [if_pos hq]
      have dq : decide (enc m = l) = true := decide_eq_true hq
      simp (config := {maxSteps := 1000000}) (disch := first | omega | (simp only [List.length_cons, List.length_nil, List.length_append, List.length_drop]; omega)) only [c1, en, E2, eQ, dq, ↓s_len, x_lenS, ↓l_loop, ↓l_succ, ↓l_normal, l_normal, l_exit, l_ret, l_iteN, ↓h_put_get, ↓h_new_get, ↓h_del_get, h_next_put, h_next_new, h_next_del, Nat.add_assoc, Nat.add_eq_left, Nat.left_eq_add, Nat.add_left_cancel_iff, ↓s_load, m_load, ↓m_load1, m_load1, ↓m_st, m_stE, m_storeI, m_storeE, w_zero, w_succ, ↓s_alloc, ↓x_idxA, ↓x_idxS, x_idxAE, x_idxSE, x_addrE, x_idx, x_lenS, ↓s_len, ↓x_buildS, x_buildE, ↓x_P0, ↓x_P1, x_fill0, x_filli, x_fills, x_fillb, c_int, List.length_cons, List.length_nil, List.cons_append, List.drop_succ_cons, List.drop_zero, List.drop_nil, List.nil_append, Int.reduceAdd, Int.reduceToNat, Int.reduceLT, Int.reduceLE, Nat.reduceAdd, Nat.reduceMul, Nat.reduceLeDiff, Int.reduceEq, Int.reduceSub, Int.cast_ofNat_Int, s_resc, s_consR, m_load4, m_store4, s_res0, ↓s_skip, ↓s_ops, ↓s_dops, ↓s_seq, ↓s_cond, ↓s_block, ↓s_exit, ↓s_ret, ↓s_scope, ↓s_nil, ↓s_op, ↓s_opg, ↓s_wanted', ↓s_wantV, s_wantV, s_wantV0, beq_true, beq_false, ↓s_bindS, s_bindS, ↓s_bindE, s_bindE, s_bindE_ret, s_bindE_exit, s_bindE_iteN, s_norm, ↓s_condV, s_condV, s_block_ret, s_block_normal, s_block_exit, s_block_iteN, ↓s_getp, ↓s_getp0, ↓s_get, s_get0, ↓s_con, ↓s_fn, ↓s_os0, ↓s_os1, ↓s_list0, ↓s_list1, ↓s_mov, ↓s_pick, ↓s_pickE, s_pickE, ↓s_bin, ↓s_un, ↓s_minmax, ↓s_call, ↓s_callv, ↓s_callV, ↓s_ext, s_same, b_eql, b_neq, b_lss, b_leq, b_gtr, b_geq, b_add, b_sub, b_mul, b_eqlb, b_neqb, b_fnil, b_fnil', b_fnil2, b_fnil2', u_neg, u_not, m_two, s_end, s_end', s_end_iteN, s_res0, s_res1, s_tup1, s_tup2, ↓iteN_true, ↓iteN_false, iteN_true, iteN_false, Nat.zero_add, List.nil_append, List.append_nil, Nat.reduceEqDiff, reduceIte, decide_true, decide_false, Bool.not_true, Bool.not_false, List.getElem?_cons_zero, List.getElem?_cons_succ, Bool.false_eq_true, if_true, if_false, beq_self_eq_true]
    · rw [if_neg hq]
      have dq : decide (enc m = l) = false := decide_eq_false hq
      simp (config := {maxSteps := 1000000}) (disch := first | omega | (simp only [List.length_cons, List.length_nil, List.length_append, List.length_drop]; omega)) only [c1, en, E2, eQ, dq, ↓s_len, x_lenS, ↓l_loop, ↓l_succ, ↓l_normal, l_normal, l_exit, l_ret, l_iteN, ↓h_put_get, ↓h_new_get, ↓h_del_get, h_next_put, h_next_new, h_next_del, Nat.add_assoc, Nat.add_eq_left, Nat.left_eq_add, Nat.add_left_cancel_iff, ↓s_load, m_load, ↓m_load1, m_load1, ↓m_st, m_stE, m_storeI, m_storeE, w_zero, w_succ, ↓s_alloc, ↓x_idxA, ↓x_idxS, x_idxAE, x_idxSE, x_addrE, x_idx, x_lenS, ↓s_len, ↓x_buildS, x_buildE, ↓x_P0, ↓x_P1, x_fill0, x_filli, x_fills, x_fillb, c_int, List.length_cons, List.length_nil, List.cons_append, List.drop_succ_cons, List.drop_zero, List.drop_nil, List.nil_append, Int.reduceAdd, Int.reduceToNat, Int.reduceLT, Int.reduceLE, Nat.reduceAdd, Nat.reduceMul, Nat.reduceLeDiff, Int.reduceEq, Int.reduceSub, Int.cast_ofNat_Int, s_resc, s_consR, m_load4, m_store4, s_res0, ↓s_skip, ↓s_ops, ↓s_dops, ↓s_seq, ↓s_cond, ↓s_block, ↓s_exit, ↓s_ret, ↓s_scope, ↓s_nil, ↓s_op, ↓s_opg, ↓s_wanted', ↓s_wantV, s_wantV, s_wantV0, beq_true, beq_false, ↓s_bindS, s_bindS, ↓s_bindE, s_bindE, s_bindE_ret, s_bindE_exit, s_bindE_iteN, s_norm, ↓s_condV, s_condV, s_block_ret, s_block_normal, s_block_exit, s_block_iteN, ↓s_getp, ↓s_getp0, ↓s_get, s_get0, ↓s_con, ↓s_fn, ↓s_os0, ↓s_os1, ↓s_list0, ↓s_list1, ↓s_mov, ↓s_pick, ↓s_pickE, s_pickE, ↓s_bin, ↓s_un, ↓s_minmax, ↓s_call, ↓s_callv, ↓s_callV, ↓s_ext, s_same, b_eql, b_neq, b_lss, b_leq, b_gtr, b_geq, b_add, b_sub, b_mul, b_eqlb, b_neqb, b_fnil, b_fnil', b_fnil2, b_fnil2', u_neg, u_not, m_two, s_end, s_end', s_end_iteN, s_res0, s_res1, s_tup1, s_tup2, ↓iteN_true, ↓iteN_false, iteN_true, iteN_false, Nat.zero_add, List.nil_append, List.append_nil, Nat.reduceEqDiff, reduceIte, decide_true, decide_false, Bool.not_true, Bool.not_false, List.getElem?_cons_zero, List.getElem?_cons_succ, Bool.false_eq_true, if_true, if_false, beq_self_eq_true]
end Go.Eng
namespace Go.Eng
open Go
variable {E : Nat → Option Fn}
set_option linter.unusedSimpArgs false
set_option linter.unusedVariables false
def decS (l : List Nat) : Option V := if byt l then some (decV l) else none
theorem decX_ok {P : Program} {g : Gn} (hE : Link P g E) (A : NumX E noX) (e : E k_num_Decode = some f_num_Decode) (eN : E k_num_number = some f_num_number) (eB : E k_bytes_Equal = some f_bytes_Equal) : QOk P g (bytesX k_num_Decode decS) := by
  refine bytesX_ok (callX_ok hE (X := dX) (orX_ok (encX_ok hE A) (numX_ok hE eN)) 10) ?_
  intro l v hs
  unfold decS at hs
  split at hs
  · rename_i hb
    cases hs
    rw [byt_iff] at hb
    refine ⟨by unfold decV; split <;> rfl, ?_, ?_⟩
    · intro h0 a c z
      subst h0
      obtain ⟨h', r⟩ := dc_run e eB 6 [] (by simp) (by simp) a c z (mkH [] 1) rfl (by cases a <;> rfl) (fun _ => by cases a <;> rfl)
      exact ⟨h', r⟩
    · intro hne cp
      by_cases hl : l.length ≤ 4
      · obtain ⟨K, eK⟩ : ∃ K, l.length = K + 1 := by
          cases l with
          | nil => exact absurd rfl hne
          | cons a r => exact ⟨r.length, rfl⟩
        obtain ⟨h', r⟩ := dc_run e eB 6 l hl hb (some (0, 0)) cp 1 (mkH [(0, ofBytes l)] 1) (by
            rw [eK]
            show rdC (K + 1) 0 ((mkH [(0, ofBytes l)] 1).get 0) = _
            exact rdC_of l .ro (K + 1) eK) (by
            rw [eK, nx_bs1]
            exact nsE_of l hb .ro (K + 1) eK) (fun bl => by
            rw [eK, nx_bs1, H.get_new, if_neg (by show ¬ ((1 : Nat) = 0); omega)]
            exact nsE_of l hb .ro (K + 1) eK)
        exact ⟨h', r⟩
      · have : decV l = .tup [.int .i64 0, .int .i64 110] := by unfold decV; rw [if_neg (fun h => hl h.1)]
        rw [this]
        exact ⟨_, dc_big e 9 l.length (by omega) (some (0, 0)) cp 1 _⟩
  · cases hs
theorem digs1 (m : Nat) (h0 : m ≠ 0) (h1 : m < 256) : digs 5 m = [m] := by
  rw [digs_succ 4 m h0, show m / 256 = 0 from by omega, digs_zero, show m % 256 = m from by omega]
theorem digs2 (m : Nat) (h0 : 256 ≤ m) (h1 : m < 65536) : digs 5 m = [m % 256, m / 256] := by
  rw [digs_succ 4 m (by omega), digs_succ 3 (m / 256) (by omega), show m / 256 / 256 = 0 from by omega, digs_zero, show m / 256 % 256 = m / 256 from by omega]
theorem digs3 (m : Nat) (h0 : 65536 ≤ m) (h1 : m < 16777216) : digs 5 m = [m % 256, m / 256 % 256, m / 65536] := by
  rw [digs_succ 4 m (by omega), digs_succ 3 (m / 256) (by omega), digs_succ 2 (m / 256 / 256) (by omega), show m / 256 / 256 / 256 = 0 from by omega, digs_zero, show m / 256 / 256 % 256 = m / 65536 from by omega]
theorem digs4 (m : Nat) (h0 : 16777216 ≤ m) (h1 : m < 4294967296) : digs 5 m = [m % 256, m / 256 % 256, m / 65536 % 256, m / 16777216] := by
  rw [digs_succ 4 m (by omega), digs_succ 3 (m / 256) (by omega), digs_succ 2 (m / 256 / 256) (by omega), digs_succ 1 (m / 256 / 256 / 256) (by omega), show m / 256 / 256 / 256 / 256 = 0 from by omega, digs_zero, show m / 256 / 256 / 256 % 256 = m / 16777216 from by omega, show m / 256 / 256 % 256 = m / 65536 % 256 from by omega]
theorem sgn1 (a : Nat) (neg : Bool) : sgn [a] neg = if a < 128 then [if neg then a + 128 else a] else [a, if neg then 128 else 0] := sgn_app [] a neg
theorem sgn2 (a b : Nat) (neg : Bool) : sgn [a, b] neg = if b < 128 then [a, if neg then b + 128 else b] else [a, b, if neg then 128 else 0] := sgn_app [a] b neg
theorem sgn3 (a b c : Nat) (neg : Bool) : sgn [a, b, c] neg = if c < 128 then [a, b, if neg then c + 128 else c] else [a, b, c, if neg then 128 else 0] := sgn_app [a, b] c neg
theorem sgn4 (a b c d : Nat) (neg : Bool) : sgn [a, b, c, d] neg = if d < 128 then [a, b, c, if neg then d + 128 else d] else [a, b, c, d, if neg then 128 else 0] := sgn_app [a, b, c] d neg
/-- a script's number is read as it was -/
theorem enc_back (n : Int) (hn : -2147483647 ≤ n ∧ n ≤ 2147483647) : (enc n).length ≤ 4 ∧ numN (enc n) = n := by
  by_cases h0 : n = 0
  · subst h0; exact ⟨by decide, by decide⟩
  obtain ⟨m, em⟩ : ∃ m, n.natAbs = m := ⟨_, rfl⟩
  unfold enc
  rw [em]
  obtain ⟨neg, eg⟩ : ∃ neg, decide (n < 0) = neg := ⟨_, rfl⟩
  rw [eg]
  have hv : n = if neg then -(m : Int) else (m : Int) := by
    cases neg with
    | true => have := of_decide_eq_true eg; simp only [if_true]; omega
    | false => have := of_decide_eq_false eg; simp only [Bool.false_eq_true, if_false]; omega
  rw [hv]
  by_cases h1 : m < 256
  · rw [digs1 m (by omega) h1, sgn1]
    split
    · refine ⟨by simp, ?_⟩
      cases neg <;> simp [numN, magN, negN] <;> omega
    · refine ⟨by simp, ?_⟩
      cases neg <;> simp [numN, magN, negN]
  by_cases h2 : m < 65536
  · rw [digs2 m (by omega) h2, sgn2]
    split
    · refine ⟨by simp, ?_⟩
      cases neg <;> simp [numN, magN, negN] <;> omega
    · refine ⟨by simp, ?_⟩
      cases neg <;> simp [numN, magN, negN] <;> omega
  by_cases h3 : m < 16777216
  · rw [digs3 m (by omega) h3, sgn3]
    split
    · refine ⟨by simp, ?_⟩
      cases neg <;> simp [numN, magN, negN] <;> omega
    · refine ⟨by simp, ?_⟩
      cases neg <;> simp [numN, magN, negN] <;> omega
  · rw [digs4 m (by omega) (by omega), sgn4, if_pos (by omega)]
    refine ⟨by simp, ?_⟩
    cases neg <;> simp [numN, magN, negN] <;> omega
theorem enc_big (n : Int) (hn : -549755813887 ≤ n ∧ n ≤ 549755813887) (hb : ¬ (-2147483647 ≤ n ∧ n ≤ 2147483647)) : 4 < (enc n).length := by
  obtain ⟨m, em⟩ : ∃ m, n.natAbs = m := ⟨_, rfl⟩
  unfold enc
  rw [em]
  generalize decide (n < 0) = neg
  by_cases h4 : m < 4294967296
  · rw [digs4 m (by omega) h4, sgn4, if_neg (by omega)]
    simp
  · rw [digs_succ 4 m (by omega), digs_succ 3 (m / 256) (by omega), digs_succ 2 (m / 256 / 256) (by omega), digs_succ 1 (m / 256 / 256 / 256) (by omega), digs_succ 0 (m / 256 / 256 / 256 / 256) (by omega)]
    show 4 < (sgn ([m % 256, m / 256 % 256, m / 256 / 256 % 256, m / 256 / 256 / 256 % 256] ++ [m / 256 / 256 / 256 / 256 % 256]) neg).length
    rw [sgn_app]
    split <;> simp
theorem decV_small (n : Int) (hn : -2147483647 ≤ n ∧ n ≤ 2147483647) : decV (enc n) = .tup [.int .i64 n, .int .i64 0] := by
  obtain ⟨h1, h2⟩ := enc_back n hn
  unfold decV
  rw [h2, if_pos ⟨h1, rfl⟩]
theorem decV_big (n : Int) (hn : -549755813887 ≤ n ∧ n ≤ 549755813887) (hb : ¬ (-2147483647 ≤ n ∧ n ≤ 2147483647)) : decV (enc n) = .tup [.int .i64 0, .int .i64 110] := by
  have := enc_big n hn hb
  unfold decV
  rw [if_neg (fun h => by omega)]
end Go.Eng
namespace Go.Eng
open Go
theorem absL_byt {H : Type} (P : Program) (e k : Nat) (he : P.underlying e = some (.int .u8)) (nx : Nat) : ∀ (s : List Nat), absL (absD (H := H) P (k + 1) e) (s.map fun (x : Nat) => .lit (.int .u8 (x : Int))) nx = some (ofBytes s, [], nx) := by
  intro s
  induction s with
  | nil => rfl
  | cons a r ih =>
    simp only [List.map_cons, absL]
    have : absD (H := H) P (k + 1) e (.lit (.int .u8 (a : Int))) nx = some ([.int .u8 (a : Int)], [], nx) := by simp only [absD, he]
    rw [this]
    simp only [ih]
    rfl
theorem absD_slc {H : Type} (P : Program) (n : Nat) {t e : TypeId} (ht : P.underlying t = some (.slice e)) (A B : List (DataW H)) (nx : Nat) : absD P (n + 1) t (.slice A B) nx = (match absL (absD P n e) A (nx + 1) with
    | none => none
    | some (vs, bl, n1) => match A.length + B.length with
      | 0 => some ([.slice (some (nx, 0)) 0 none (P.cellsOf e)], [], n1)
      | _ + 1 => some ([.slice (some (nx, 0)) A.length none (P.cellsOf e)], (nx, vs) :: bl, n1)) := by
  unfold absD
  rw [ht]
  rfl
theorem absD_int {H : Type} (P : Program) (n : Nat) {t : TypeId} {k : IntKind} (hu : P.underlying t = some (.int k)) (x : Int) (nx : Nat) : absD (H := H) P (n + 1) t (.lit (.int k x)) nx = some ([.int k x], [], nx) := by simp only [absD, hu]
/-- bytes, as they lie at the call -/
def BytesAt (h : H) (a : Option (Nat × Nat)) (l : List Nat) : Prop := l = [] ∨ (a = some (0, 0) ∧ h.get 0 = some (.cells (ofBytes l) .ro) ∧ 1 ≤ h.next)
theorem trod_bytes {H : Type} {enc : TypeId × Value → H} {P : Program} {W : World} {spare : Nat → Bool} {held : Bool} {base : Nat} {t e : TypeId} (ht : P.underlying t = some (.slice e)) (he : P.underlying e = some (.int .u8)) (hc : P.cellsOf e = 1)
    {v : Value} {d : DataW H} {p : List MemPlace} (h : DataW.Trod enc P W base spare held t v d p) : ∃ (l : List Nat) (a : Option (Nat × Nat)) (bl : List (Nat × List V)) (n1 : Nat), (∀ x ∈ l, x < 256) ∧ (∀ k, absD P (k + 2) t d 0 = some ([.slice a l.length none 1], bl, n1)) ∧ BytesAt (mkH bl n1) a l := by
  obtain ⟨f, hf⟩ := h
  rcases DataW.trod_slice ht hf with ⟨_, hx⟩ | ⟨ad, len, cap, elems, rest, n, _, _, hx, _, _, _, hl, hi, _, _⟩
  · have hd : d = .nil := congrArg Prod.fst hx
    subst hd
    refine ⟨[], none, [], 0, by simp, fun k => ?_, .inl rfl⟩
    simp only [absD, ht, hc, List.length_nil]
  · have hd : d = .slice (elems.map (·.1)) (rest.map (·.1)) := congrArg Prod.fst hx
    have go : ∀ x ∈ elems, ∃ b : Nat, x.1 = .lit (.int .u8 (b : Int)) ∧ b < 256 := by
      intro x hxm
      obtain ⟨i, hi1, hi2⟩ := List.getElem_of_mem hxm
      have hi3 : elems[i]? = some x := by rw [List.getElem?_eq_getElem hi1, hi2]
      have h4 := (hi i (by omega)).trans hi3
      simp only [Option.bind_eq_some_iff] at h4
      obtain ⟨cs, _, h5⟩ := h4
      obtain ⟨n, _, e1, w⟩ := DataW.trod_int he h5
      simp [Lit.wf, IntKind.min, IntKind.max, IntKind.signed, IntKind.bits] at w
      obtain ⟨b, rfl⟩ := Int.eq_ofNat_of_zero_le w.1
      exact ⟨b, by rw [e1], by omega⟩
    have lst : ∃ s : List Nat, elems.map (·.1) = s.map (fun (x : Nat) => DataW.lit (.int .u8 (x : Int))) ∧ (∀ x ∈ s, x < 256) := by
      clear hx hl hi hd
      induction elems with
      | nil => exact ⟨[], rfl, by simp⟩
      | cons x r ih =>
        obtain ⟨s, q1, q2⟩ := ih (fun y hy => go y (List.mem_cons_of_mem _ hy))
        obtain ⟨b, b1, b2⟩ := go x (List.mem_cons_self ..)
        refine ⟨b :: s, by simp only [List.map_cons, b1, q1], fun y hy => ?_⟩
        rcases List.mem_cons.1 hy with rfl | hy
        · exact b2
        · exact q2 y hy
    obtain ⟨s, s1, s2⟩ := lst
    have sl : (elems.map (·.1)).length = s.length := by rw [s1, List.length_map]
    have hab : ∀ k, absL (absD (H := H) P (k + 1) e) (elems.map (·.1)) 1 = some (ofBytes s, [], 1) := fun k => by rw [s1]; exact absL_byt P e k he 1 s
    subst hd
    cases hn : (elems.map (·.1)).length + (rest.map (·.1)).length with
    | zero =>
      have h0 : s.length = 0 := by omega
      refine ⟨s, some (0, 0), [], 1, s2, fun k => ?_, .inl (List.length_eq_zero_iff.1 h0)⟩
      rw [absD_slc P (k + 1) ht, hab k]
      simp only [hc, hn, h0]
    | succ m =>
      refine ⟨s, some (0, 0), [(0, ofBytes s)], 1, s2, fun k => ?_, .inr ⟨rfl, rfl, Nat.le_refl _⟩⟩
      rw [absD_slc P (k + 1) ht, hab k]
      simp only [hc, hn]
      rw [sl]
theorem bytes_rd {h : H} {a : Option (Nat × Nat)} {l : List Nat} (B : BytesAt h a l) (hb : ∀ x ∈ l, x < 256) (cp : Option Nat) (h' : H) (hg : h'.get 0 = h.get 0) : rdB h' (.slice a l.length cp 1) = some l ∧ b2sV h' (.slice a l.length cp 1) = some (.str l) := by
  rcases B with rfl | ⟨rfl, h0, _⟩
  · exact ⟨rfl, by cases a <;> rfl⟩
  · cases hl : l.length with
    | zero =>
      have : l = [] := List.length_eq_zero_iff.1 hl
      subst this
      exact ⟨rfl, rfl⟩
    | succ K =>
      refine ⟨?_, ?_⟩
      · show rdC (K + 1) 0 (h'.get 0) = _
        rw [hg, h0]
        exact rdC_of l .ro (K + 1) hl
      · rw [nx_bs1, hg, h0]
        exact nsE_of l hb .ro (K + 1) hl
theorem BytesAt.new1 {h : H} {a : Option (Nat × Nat)} {l : List Nat} (B : BytesAt h a l) (b : Blk) (hne : l ≠ []) : (h.new b).get 0 = h.get 0 := by
  rcases B with rfl | ⟨_, _, hn⟩
  · exact absurd rfl hne
  · rw [H.get_new, if_neg (by omega)]
end Go.Eng
