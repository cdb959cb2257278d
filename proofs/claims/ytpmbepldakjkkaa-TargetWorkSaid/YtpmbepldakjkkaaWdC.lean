/- What the functions of package wide come to: own work. -/
import Derived.Test.YtpmbepldakjkkaaWdB
namespace Go.Eng
open Go
set_option linter.unusedSimpArgs false
set_option linter.unusedVariables false
abbrev B64 : Nat := 18446744073709551616
abbrev B256 : Nat := 115792089237316195423570985008687907853269984665640564039457584007913129639936
theorem B64_eq : (18446744073709551616 : Nat) = 2 ^ 64 := rfl
/-- a word of a number -/
def lb (x j : Nat) : Nat := x >>> (64 * j) % 18446744073709551616
theorem lb_lt (x j : Nat) : lb x j < 18446744073709551616 := Nat.mod_lt _ (by omega)
theorem Wd_lb (x : Nat) : Wd x = W4 (lb x 0) (lb x 1) (lb x 2) (lb x 3) := by
  have e0 : lb x 0 = x % 18446744073709551616 := by unfold lb; rw [Nat.shiftRight_eq_div_pow, show (2 : Nat) ^ (64 * 0) = 1 from rfl, Nat.div_one]
  have e1 : lb x 1 = x / 18446744073709551616 % 18446744073709551616 := by unfold lb; rw [Nat.shiftRight_eq_div_pow]
  have e2 : lb x 2 = x / 18446744073709551616 / 18446744073709551616 % 18446744073709551616 := by unfold lb; rw [Nat.shiftRight_eq_div_pow, Nat.div_div_eq_div_mul]
  have e3 : lb x 3 = x / 18446744073709551616 / 18446744073709551616 / 18446744073709551616 % 18446744073709551616 := by unfold lb; rw [Nat.shiftRight_eq_div_pow, Nat.div_div_eq_div_mul, Nat.div_div_eq_div_mul]
  rw [e0, e1, e2, e3]; rfl
theorem lb_tb (x j k : Nat) : (lb x j).testBit k = (decide (k < 64) && x.testBit (64 * j + k)) := by
  unfold lb
  rw [B64_eq, Nat.testBit_mod_two_pow, Nat.testBit_shiftRight]
theorem lb_shl_hi (x s m j : Nat) (hm : m < 64) : lb (x <<< (64 * s + m)) (s + (j + 1)) = (lb x j >>> (64 - m) % 18446744073709551616 ||| lb x (j + 1) <<< m % 18446744073709551616 % 18446744073709551616) := by
  apply Nat.eq_of_testBit_eq
  intro k
  rw [lb_tb, B64_eq, Nat.testBit_or, Nat.testBit_mod_two_pow, Nat.testBit_mod_two_pow, Nat.testBit_mod_two_pow, Nat.testBit_shiftRight, Nat.testBit_shiftLeft, Nat.testBit_shiftLeft, lb_tb, lb_tb]
  by_cases hk : k < 64
  · by_cases h2 : m ≤ k
    · have a1 : ¬ (64 - m + k < 64) := by omega
      have a2 : k - m < 64 := by omega
      have a3 : 64 * s + m ≤ 64 * (s + (j + 1)) + k := by omega
      have a4 : 64 * (s + (j + 1)) + k - (64 * s + m) = 64 * (j + 1) + (k - m) := by omega
      simp [hk, h2, a1, a2, a3, a4]
    · have a1 : 64 - m + k < 64 := by omega
      have a3 : 64 * s + m ≤ 64 * (s + (j + 1)) + k := by omega
      have a4 : 64 * (s + (j + 1)) + k - (64 * s + m) = 64 * j + (64 - m + k) := by omega
      simp [hk, h2, a1, a3, a4]
  · simp [hk]
theorem lb_shl_eq (x s m : Nat) (hm : m < 64) : lb (x <<< (64 * s + m)) s = lb x 0 <<< m % 18446744073709551616 % 18446744073709551616 := by
  apply Nat.eq_of_testBit_eq
  intro k
  rw [lb_tb, B64_eq, Nat.testBit_mod_two_pow, Nat.testBit_mod_two_pow, Nat.testBit_shiftLeft, Nat.testBit_shiftLeft, lb_tb]
  by_cases hk : k < 64
  · by_cases h2 : m ≤ k
    · have a2 : k - m < 64 := by omega
      have a3 : 64 * s + m ≤ 64 * s + k := by omega
      have a4 : 64 * s + k - (64 * s + m) = 64 * 0 + (k - m) := by omega
      simp [hk, h2, a2, a4]
    · have a3 : ¬ (64 * s + m ≤ 64 * s + k) := by omega
      simp [hk, h2]
  · simp [hk]
theorem lb_shl_lo (x s m j : Nat) (hj : j < s) : lb (x <<< (64 * s + m)) j = 0 := by
  apply Nat.eq_of_testBit_eq
  intro k
  rw [lb_tb, Nat.testBit_shiftLeft, Nat.zero_testBit]
  by_cases hk : k < 64
  · have a3 : ¬ (64 * s + m ≤ 64 * j + k) := by omega
    simp [a3]
  · simp [hk]
theorem lb_shr (x s m j : Nat) (hm : m < 64) : lb (x >>> (64 * s + m)) j = (lb x (j + s) >>> m % 18446744073709551616 ||| lb x (j + s + 1) <<< (64 - m) % 18446744073709551616 % 18446744073709551616) := by
  apply Nat.eq_of_testBit_eq
  intro k
  rw [lb_tb, B64_eq, Nat.testBit_or, Nat.testBit_mod_two_pow, Nat.testBit_mod_two_pow, Nat.testBit_mod_two_pow, Nat.testBit_shiftRight, Nat.testBit_shiftRight, Nat.testBit_shiftLeft, lb_tb, lb_tb]
  by_cases hk : k < 64
  · by_cases h2 : m + k < 64
    · have a1 : ¬ (64 - m ≤ k) := by omega
      have a4 : 64 * s + m + (64 * j + k) = 64 * (j + s) + (m + k) := by omega
      simp [hk, h2, a1, a4]
    · have a1 : 64 - m ≤ k := by omega
      have a2 : k - (64 - m) < 64 := by omega
      have a4 : 64 * s + m + (64 * j + k) = 64 * (j + s + 1) + (k - (64 - m)) := by omega
      simp [hk, h2, a1, a2, a4]
  · simp [hk]
theorem lb_top (x j : Nat) (hx : x < 115792089237316195423570985008687907853269984665640564039457584007913129639936) (hj : 4 ≤ j) : lb x j = 0 := by
  have : x >>> (64 * j) = 0 := by
    rw [Nat.shiftRight_eq_div_pow]
    apply Nat.div_eq_of_lt
    exact calc x < 2 ^ 256 := hx
      _ ≤ 2 ^ (64 * j) := Nat.pow_le_pow_right (by omega) (by omega)
  unfold lb; rw [this]
end Go.Eng
namespace Go.Eng
open Go
variable {E : Nat → Option Fn}
set_option linter.unusedSimpArgs false
set_option linter.unusedVariables false

theorem wr_natU64 (x : Nat) : wr .u64 (x : Int) = ((x % 18446744073709551616 : Nat) : Int) := by
  rw [wr_eq]
  simp only [IntKind.wrap, IntKind.bits, IntKind.signed]
  simp
theorem low_u64 (x : Nat) : low .u64 (x : Int) = x % 18446744073709551616 := _root_.id rfl
theorem asK_u64n (x : Nat) (h : x < 18446744073709551616) : asK .u64 x = (x : Int) := by
  unfold asK half
  rw [show Nat.blt x 18446744073709551616 = true from by simpa using h]; rfl
theorem b_shl64 (e : EqK) (h : H) (k : IntKind) (a m : Nat) (hm : m ≤ 64) : binV .shl e h (.int .u64 (a : Int)) (.int k (m : Int)) = some (.int .u64 ((a <<< m % 18446744073709551616 : Nat) : Int)) := by
  have e1 : binV .shl e h (.int .u64 (a : Int)) (.int k (m : Int)) = some (.int .u64 (wr .u64 ((a : Int) * .ofNat (2 ^ (bif Nat.ble m 64 then m else 64))))) := rfl
  rw [e1, show Nat.ble m 64 = true from by simpa using hm]
  simp only [_root_.cond_true]
  rw [show (a : Int) * Int.ofNat (2 ^ m) = ((a <<< m : Nat) : Int) from by rw [Nat.shiftLeft_eq]; simp, wr_natU64]
theorem b_shr64 (e : EqK) (h : H) (k k' : IntKind) (a m : Nat) (hm : m < 64) (hk : bitsOf k = 64 := by rfl) : binV .shr e h (.int k (a : Int)) (.int k' (m : Int)) = some (.int k ((a >>> m : Nat) : Int)) := by
  have e1 : binV .shr e h (.int k (a : Int)) (.int k' (m : Int)) = some (.int k (.ofNat (a / 2 ^ (bif Nat.ble m (bitsOf k) then m else bitsOf k)))) := rfl
  rw [e1, hk, show Nat.ble m 64 = true from by simpa using (by omega : m ≤ 64)]
  simp only [_root_.cond_true, Nat.shiftRight_eq_div_pow]; rfl
theorem b_shr64' (e : EqK) (h : H) (a m : Nat) (hm : m ≤ 64) : binV .shr e h (.int .u64 (a : Int)) (.int .i64 (m : Int)) = some (.int .u64 ((a >>> m : Nat) : Int)) := by
  have e1 : binV .shr e h (.int .u64 (a : Int)) (.int .i64 (m : Int)) = some (.int .u64 (.ofNat (a / 2 ^ (bif Nat.ble m 64 then m else 64)))) := rfl
  rw [e1, show Nat.ble m 64 = true from by simpa using (by omega : m ≤ 64)]
  simp only [_root_.cond_true, Nat.shiftRight_eq_div_pow]; rfl
theorem b_or64 (e : EqK) (h : H) (a b : Nat) : binV .or e h (.int .u64 (a : Int)) (.int .u64 (b : Int)) = some (.int .u64 (((a % 18446744073709551616) ||| (b % 18446744073709551616) : Nat) : Int)) := by
  have e1 : binV .or e h (.int .u64 (a : Int)) (.int .u64 (b : Int)) = some (.int .u64 (asK .u64 (Nat.lor (a % 18446744073709551616) (b % 18446744073709551616)))) := rfl
  rw [e1]
  rw [asK_u64n (Nat.lor (a % 18446744073709551616) (b % 18446744073709551616)) (Nat.or_lt_two_pow (n := 64) (Nat.mod_lt a (by omega)) (Nat.mod_lt b (by omega)))]; rfl
theorem b_or640 (e : EqK) (h : H) (b : Nat) : binV .or e h (.int .u64 0) (.int .u64 (b : Int)) = some (.int .u64 ((b % 18446744073709551616 : Nat) : Int)) := by
  have := b_or64 e h 0 b
  rw [Nat.zero_mod, Nat.zero_or] at this
  exact this
theorem b_and64 (e : EqK) (h : H) (a b : Nat) : binV .and e h (.int .u64 (a : Int)) (.int .u64 (b : Int)) = some (.int .u64 (((a % 18446744073709551616) &&& (b % 18446744073709551616) : Nat) : Int)) := by
  have e1 : binV .and e h (.int .u64 (a : Int)) (.int .u64 (b : Int)) = some (.int .u64 (asK .u64 (Nat.land (a % 18446744073709551616) (b % 18446744073709551616)))) := rfl
  rw [e1]
  rw [asK_u64n (Nat.land (a % 18446744073709551616) (b % 18446744073709551616)) (Nat.and_lt_two_pow (n := 64) (a % 18446744073709551616) (Nat.mod_lt b (by omega)))]; rfl

theorem sp_LeftS0 (e : E k_wide_Left = some f_wide_Left) (N : Nat) (n m r : Nat) (h0 : 0 < n) (h1 : n < 256) (hq : n / 64 = 0) (hm : n % 64 = m) (hr : 64 - m = r) (a0 a1 a2 a3 : Nat) (h : H) : ∃ h', callN E (N + 7) (.fn k_wide_Left) [W4 a0 a1 a2 a3, .int .i64 (n : Int)] h = some (W4 (a0 <<< m % 18446744073709551616 % 18446744073709551616) (a0 >>> r % 18446744073709551616 ||| a1 <<< m % 18446744073709551616 % 18446744073709551616) (a1 >>> r % 18446744073709551616 ||| a2 <<< m % 18446744073709551616 % 18446744073709551616) (a2 >>> r % 18446744073709551616 ||| a3 <<< m % 18446744073709551616 % 18446744073709551616), h') := by
  have q1 : ∀ e h, binV .quo e h (.int .i64 (n : Int)) (.int .i64 64) = some (.int .i64 0) := by
    intro e h
    rw [b_quo _ _ _ _ _ (by omega), Int.tdiv_eq_ediv_of_nonneg (by omega), show (n : Int) / 64 = 0 from by omega]; rfl
  have q2 : ∀ e h, binV .rem e h (.int .i64 (n : Int)) (.int .i64 64) = some (.int .i64 (m : Int)) := by
    intro e h
    rw [b_rem _ _ _ _ _ (by omega), Int.tmod_eq_emod_of_nonneg (by omega), show (n : Int) % 64 = (m : Int) from by omega]
  have q3 : (64 : Int) - (m : Int) = (r : Int) := by omega
  have q4 : decide ((n : Int) ≤ 0) = false := decide_eq_false (by omega)
  have q5 : decide (256 ≤ (n : Int)) = false := decide_eq_false (by omega)
  rw [s_cfn e _ _ (Nat.le_of_ble_eq_true rfl)]
  simp (config := {maxSteps := 1000000}) (disch := first | omega | (simp only [List.length_cons, List.length_nil, List.length_append, List.length_drop]; omega)) only [W4, q1, q2, q3, q4, q5, b_shl64, b_shr64', b_or64, b_or640, ↓s_evD, ↓s_dnil, ↓s_dL, ↓s_dR, ↓s_dB, s_bindD, s_finD, s_addP0, ↓s_bump0, ↓s_bump_get, s_bump_next, ↓s_box, c_agg, wr_i64, ↓l_loop, ↓l_succ, ↓l_normal, l_normal, l_exit, l_ret, l_iteN, ↓h_put_get, ↓h_new_get, ↓h_del_get, h_next_put, h_next_new, h_next_del, Nat.add_assoc, Nat.add_eq_left, Nat.left_eq_add, Nat.add_left_cancel_iff, ↓s_load, m_load, ↓m_load1, m_load1, ↓m_st, m_stE, m_storeI, m_storeE, w_zero, w_succ, ↓s_alloc, ↓x_idxA, ↓x_idxS, x_idxAE, x_idxSE, x_addrE, x_idx, x_lenS, ↓s_len, ↓x_buildS, x_buildE, ↓x_P0, ↓x_P1, x_fill0, x_filli, x_fills, x_fillb, c_int, List.length_cons, List.length_nil, List.cons_append, List.drop_succ_cons, List.drop_zero, List.drop_nil, List.nil_append, Int.reduceAdd, Int.reduceToNat, Int.reduceLT, Int.reduceLE, Nat.reduceAdd, Nat.reduceMul, Nat.reduceLeDiff, Int.reduceEq, Int.reduceSub, Int.cast_ofNat_Int, s_resc, s_consR, m_load4, m_store4, s_res0, ↓s_skip, ↓s_ops, ↓s_dops, ↓s_seq, ↓s_cond, ↓s_block, ↓s_exit, ↓s_ret, ↓s_scope, ↓s_nil, ↓s_op, ↓s_opg, ↓s_wanted', ↓s_wantV, s_wantV, s_wantV0, beq_true, beq_false, ↓s_bindS, s_bindS, ↓s_bindE, s_bindE, s_bindE_ret, s_bindE_exit, s_bindE_iteN, s_norm, ↓s_condV, s_condV, s_block_ret, s_block_normal, s_block_exit, s_block_iteN, ↓s_getp, ↓s_getp0, ↓s_get, s_get0, ↓s_con, ↓s_fn, ↓s_os0, ↓s_os1, ↓s_list0, ↓s_list1, ↓s_mov, ↓s_pick, ↓s_pickE, s_pickE, ↓s_bin, ↓s_un, ↓s_minmax, ↓s_call, ↓s_callv, ↓s_callV, ↓s_ext, s_same, b_eql, b_neq, b_lss, b_leq, b_gtr, b_geq, b_add, b_sub, b_mul, b_eqlb, b_neqb, b_fnil, b_fnil', b_fnil2, b_fnil2', u_neg, u_not, m_two, s_end, s_end', s_end_iteN, s_res0, s_res1, s_tup1, s_tup2, ↓iteN_true, ↓iteN_false, iteN_true, iteN_false, Nat.zero_add, List.nil_append, List.append_nil, Nat.reduceEqDiff, reduceIte, decide_true, decide_false, Bool.not_true, Bool.not_false, List.getElem?_cons_zero, List.getElem?_cons_succ, Bool.false_eq_true, if_true, if_false, beq_self_eq_true]
  exact ⟨_, rfl⟩
theorem sp_LeftS1 (e : E k_wide_Left = some f_wide_Left) (N : Nat) (n m r : Nat) (h0 : 0 < n) (h1 : n < 256) (hq : n / 64 = 1) (hm : n % 64 = m) (hr : 64 - m = r) (a0 a1 a2 a3 : Nat) (h : H) : ∃ h', callN E (N + 7) (.fn k_wide_Left) [W4 a0 a1 a2 a3, .int .i64 (n : Int)] h = some (W4 0 (a0 <<< m % 18446744073709551616 % 18446744073709551616) (a0 >>> r % 18446744073709551616 ||| a1 <<< m % 18446744073709551616 % 18446744073709551616) (a1 >>> r % 18446744073709551616 ||| a2 <<< m % 18446744073709551616 % 18446744073709551616), h') := by
  have q1 : ∀ e h, binV .quo e h (.int .i64 (n : Int)) (.int .i64 64) = some (.int .i64 1) := by
    intro e h
    rw [b_quo _ _ _ _ _ (by omega), Int.tdiv_eq_ediv_of_nonneg (by omega), show (n : Int) / 64 = 1 from by omega]; rfl
  have q2 : ∀ e h, binV .rem e h (.int .i64 (n : Int)) (.int .i64 64) = some (.int .i64 (m : Int)) := by
    intro e h
    rw [b_rem _ _ _ _ _ (by omega), Int.tmod_eq_emod_of_nonneg (by omega), show (n : Int) % 64 = (m : Int) from by omega]
  have q3 : (64 : Int) - (m : Int) = (r : Int) := by omega
  have q4 : decide ((n : Int) ≤ 0) = false := decide_eq_false (by omega)
  have q5 : decide (256 ≤ (n : Int)) = false := decide_eq_false (by omega)
  rw [s_cfn e _ _ (Nat.le_of_ble_eq_true rfl)]
  simp (config := {maxSteps := 1000000}) (disch := first | omega | (simp only [List.length_cons, List.length_nil, List.length_append, List.length_drop]; omega)) only [W4, q1, q2, q3, q4, q5, b_shl64, b_shr64', b_or64, b_or640, ↓s_evD, ↓s_dnil, ↓s_dL, ↓s_dR, ↓s_dB, s_bindD, s_finD, s_addP0, ↓s_bump0, ↓s_bump_get, s_bump_next, ↓s_box, c_agg, wr_i64, ↓l_loop, ↓l_succ, ↓l_normal, l_normal, l_exit, l_ret, l_iteN, ↓h_put_get, ↓h_new_get, ↓h_del_get, h_next_put, h_next_new, h_next_del, Nat.add_assoc, Nat.add_eq_left, Nat.left_eq_add, Nat.add_left_cancel_iff, ↓s_load, m_load, ↓m_load1, m_load1, ↓m_st, m_stE, m_storeI, m_storeE, w_zero, w_succ, ↓s_alloc, ↓x_idxA, ↓x_idxS, x_idxAE, x_idxSE, x_addrE, x_idx, x_lenS, ↓s_len, ↓x_buildS, x_buildE, ↓x_P0, ↓x_P1, x_fill0, x_filli, x_fills, x_fillb, c_int, List.length_cons, List.length_nil, List.cons_append, List.drop_succ_cons, List.drop_zero, List.drop_nil, List.nil_append, Int.reduceAdd, Int.reduceToNat, Int.reduceLT, Int.reduceLE, Nat.reduceAdd, Nat.reduceMul, Nat.reduceLeDiff, Int.reduceEq, Int.reduceSub, Int.cast_ofNat_Int, s_resc, s_consR, m_load4, m_store4, s_res0, ↓s_skip, ↓s_ops, ↓s_dops, ↓s_seq, ↓s_cond, ↓s_block, ↓s_exit, ↓s_ret, ↓s_scope, ↓s_nil, ↓s_op, ↓s_opg, ↓s_wanted', ↓s_wantV, s_wantV, s_wantV0, beq_true, beq_false, ↓s_bindS, s_bindS, ↓s_bindE, s_bindE, s_bindE_ret, s_bindE_exit, s_bindE_iteN, s_norm, ↓s_condV, s_condV, s_block_ret, s_block_normal, s_block_exit, s_block_iteN, ↓s_getp, ↓s_getp0, ↓s_get, s_get0, ↓s_con, ↓s_fn, ↓s_os0, ↓s_os1, ↓s_list0, ↓s_list1, ↓s_mov, ↓s_pick, ↓s_pickE, s_pickE, ↓s_bin, ↓s_un, ↓s_minmax, ↓s_call, ↓s_callv, ↓s_callV, ↓s_ext, s_same, b_eql, b_neq, b_lss, b_leq, b_gtr, b_geq, b_add, b_sub, b_mul, b_eqlb, b_neqb, b_fnil, b_fnil', b_fnil2, b_fnil2', u_neg, u_not, m_two, s_end, s_end', s_end_iteN, s_res0, s_res1, s_tup1, s_tup2, ↓iteN_true, ↓iteN_false, iteN_true, iteN_false, Nat.zero_add, List.nil_append, List.append_nil, Nat.reduceEqDiff, reduceIte, decide_true, decide_false, Bool.not_true, Bool.not_false, List.getElem?_cons_zero, List.getElem?_cons_succ, Bool.false_eq_true, if_true, if_false, beq_self_eq_true]
  exact ⟨_, rfl⟩
theorem sp_LeftS2 (e : E k_wide_Left = some f_wide_Left) (N : Nat) (n m r : Nat) (h0 : 0 < n) (h1 : n < 256) (hq : n / 64 = 2) (hm : n % 64 = m) (hr : 64 - m = r) (a0 a1 a2 a3 : Nat) (h : H) : ∃ h', callN E (N + 7) (.fn k_wide_Left) [W4 a0 a1 a2 a3, .int .i64 (n : Int)] h = some (W4 0 0 (a0 <<< m % 18446744073709551616 % 18446744073709551616) (a0 >>> r % 18446744073709551616 ||| a1 <<< m % 18446744073709551616 % 18446744073709551616), h') := by
  have q1 : ∀ e h, binV .quo e h (.int .i64 (n : Int)) (.int .i64 64) = some (.int .i64 2) := by
    intro e h
    rw [b_quo _ _ _ _ _ (by omega), Int.tdiv_eq_ediv_of_nonneg (by omega), show (n : Int) / 64 = 2 from by omega]; rfl
  have q2 : ∀ e h, binV .rem e h (.int .i64 (n : Int)) (.int .i64 64) = some (.int .i64 (m : Int)) := by
    intro e h
    rw [b_rem _ _ _ _ _ (by omega), Int.tmod_eq_emod_of_nonneg (by omega), show (n : Int) % 64 = (m : Int) from by omega]
  have q3 : (64 : Int) - (m : Int) = (r : Int) := by omega
  have q4 : decide ((n : Int) ≤ 0) = false := decide_eq_false (by omega)
  have q5 : decide (256 ≤ (n : Int)) = false := decide_eq_false (by omega)
  rw [s_cfn e _ _ (Nat.le_of_ble_eq_true rfl)]
  simp (config := {maxSteps := 1000000}) (disch := first | omega | (simp only [List.length_cons, List.length_nil, List.length_append, List.length_drop]; omega)) only [W4, q1, q2, q3, q4, q5, b_shl64, b_shr64', b_or64, b_or640, ↓s_evD, ↓s_dnil, ↓s_dL, ↓s_dR, ↓s_dB, s_bindD, s_finD, s_addP0, ↓s_bump0, ↓s_bump_get, s_bump_next, ↓s_box, c_agg, wr_i64, ↓l_loop, ↓l_succ, ↓l_normal, l_normal, l_exit, l_ret, l_iteN, ↓h_put_get, ↓h_new_get, ↓h_del_get, h_next_put, h_next_new, h_next_del, Nat.add_assoc, Nat.add_eq_left, Nat.left_eq_add, Nat.add_left_cancel_iff, ↓s_load, m_load, ↓m_load1, m_load1, ↓m_st, m_stE, m_storeI, m_storeE, w_zero, w_succ, ↓s_alloc, ↓x_idxA, ↓x_idxS, x_idxAE, x_idxSE, x_addrE, x_idx, x_lenS, ↓s_len, ↓x_buildS, x_buildE, ↓x_P0, ↓x_P1, x_fill0, x_filli, x_fills, x_fillb, c_int, List.length_cons, List.length_nil, List.cons_append, List.drop_succ_cons, List.drop_zero, List.drop_nil, List.nil_append, Int.reduceAdd, Int.reduceToNat, Int.reduceLT, Int.reduceLE, Nat.reduceAdd, Nat.reduceMul, Nat.reduceLeDiff, Int.reduceEq, Int.reduceSub, Int.cast_ofNat_Int, s_resc, s_consR, m_load4, m_store4, s_res0, ↓s_skip, ↓s_ops, ↓s_dops, ↓s_seq, ↓s_cond, ↓s_block, ↓s_exit, ↓s_ret, ↓s_scope, ↓s_nil, ↓s_op, ↓s_opg, ↓s_wanted', ↓s_wantV, s_wantV, s_wantV0, beq_true, beq_false, ↓s_bindS, s_bindS, ↓s_bindE, s_bindE, s_bindE_ret, s_bindE_exit, s_bindE_iteN, s_norm, ↓s_condV, s_condV, s_block_ret, s_block_normal, s_block_exit, s_block_iteN, ↓s_getp, ↓s_getp0, ↓s_get, s_get0, ↓s_con, ↓s_fn, ↓s_os0, ↓s_os1, ↓s_list0, ↓s_list1, ↓s_mov, ↓s_pick, ↓s_pickE, s_pickE, ↓s_bin, ↓s_un, ↓s_minmax, ↓s_call, ↓s_callv, ↓s_callV, ↓s_ext, s_same, b_eql, b_neq, b_lss, b_leq, b_gtr, b_geq, b_add, b_sub, b_mul, b_eqlb, b_neqb, b_fnil, b_fnil', b_fnil2, b_fnil2', u_neg, u_not, m_two, s_end, s_end', s_end_iteN, s_res0, s_res1, s_tup1, s_tup2, ↓iteN_true, ↓iteN_false, iteN_true, iteN_false, Nat.zero_add, List.nil_append, List.append_nil, Nat.reduceEqDiff, reduceIte, decide_true, decide_false, Bool.not_true, Bool.not_false, List.getElem?_cons_zero, List.getElem?_cons_succ, Bool.false_eq_true, if_true, if_false, beq_self_eq_true]
  exact ⟨_, rfl⟩
theorem sp_LeftS3 (e : E k_wide_Left = some f_wide_Left) (N : Nat) (n m r : Nat) (h0 : 0 < n) (h1 : n < 256) (hq : n / 64 = 3) (hm : n % 64 = m) (hr : 64 - m = r) (a0 a1 a2 a3 : Nat) (h : H) : ∃ h', callN E (N + 7) (.fn k_wide_Left) [W4 a0 a1 a2 a3, .int .i64 (n : Int)] h = some (W4 0 0 0 (a0 <<< m % 18446744073709551616 % 18446744073709551616), h') := by
  have q1 : ∀ e h, binV .quo e h (.int .i64 (n : Int)) (.int .i64 64) = some (.int .i64 3) := by
    intro e h
    rw [b_quo _ _ _ _ _ (by omega), Int.tdiv_eq_ediv_of_nonneg (by omega), show (n : Int) / 64 = 3 from by omega]; rfl
  have q2 : ∀ e h, binV .rem e h (.int .i64 (n : Int)) (.int .i64 64) = some (.int .i64 (m : Int)) := by
    intro e h
    rw [b_rem _ _ _ _ _ (by omega), Int.tmod_eq_emod_of_nonneg (by omega), show (n : Int) % 64 = (m : Int) from by omega]
  have q3 : (64 : Int) - (m : Int) = (r : Int) := by omega
  have q4 : decide ((n : Int) ≤ 0) = false := decide_eq_false (by omega)
  have q5 : decide (256 ≤ (n : Int)) = false := decide_eq_false (by omega)
  rw [s_cfn e _ _ (Nat.le_of_ble_eq_true rfl)]
  simp (config := {maxSteps := 1000000}) (disch := first | omega | (simp only [List.length_cons, List.length_nil, List.length_append, List.length_drop]; omega)) only [W4, q1, q2, q3, q4, q5, b_shl64, b_shr64', b_or64, b_or640, ↓s_evD, ↓s_dnil, ↓s_dL, ↓s_dR, ↓s_dB, s_bindD, s_finD, s_addP0, ↓s_bump0, ↓s_bump_get, s_bump_next, ↓s_box, c_agg, wr_i64, ↓l_loop, ↓l_succ, ↓l_normal, l_normal, l_exit, l_ret, l_iteN, ↓h_put_get, ↓h_new_get, ↓h_del_get, h_next_put, h_next_new, h_next_del, Nat.add_assoc, Nat.add_eq_left, Nat.left_eq_add, Nat.add_left_cancel_iff, ↓s_load, m_load, ↓m_load1, m_load1, ↓m_st, m_stE, m_storeI, m_storeE, w_zero, w_succ, ↓s_alloc, ↓x_idxA, ↓x_idxS, x_idxAE, x_idxSE, x_addrE, x_idx, x_lenS, ↓s_len, ↓x_buildS, x_buildE, ↓x_P0, ↓x_P1, x_fill0, x_filli, x_fills, x_fillb, c_int, List.length_cons, List.length_nil, List.cons_append, List.drop_succ_cons, List.drop_zero, List.drop_nil, List.nil_append, Int.reduceAdd, Int.reduceToNat, Int.reduceLT, Int.reduceLE, Nat.reduceAdd, Nat.reduceMul, Nat.reduceLeDiff, Int.reduceEq, Int.reduceSub, Int.cast_ofNat_Int, s_resc, s_consR, m_load4, m_store4, s_res0, ↓s_skip, ↓s_ops, ↓s_dops, ↓s_seq, ↓s_cond, ↓s_block, ↓s_exit, ↓s_ret, ↓s_scope, ↓s_nil, ↓s_op, ↓s_opg, ↓s_wanted', ↓s_wantV, s_wantV, s_wantV0, beq_true, beq_false, ↓s_bindS, s_bindS, ↓s_bindE, s_bindE, s_bindE_ret, s_bindE_exit, s_bindE_iteN, s_norm, ↓s_condV, s_condV, s_block_ret, s_block_normal, s_block_exit, s_block_iteN, ↓s_getp, ↓s_getp0, ↓s_get, s_get0, ↓s_con, ↓s_fn, ↓s_os0, ↓s_os1, ↓s_list0, ↓s_list1, ↓s_mov, ↓s_pick, ↓s_pickE, s_pickE, ↓s_bin, ↓s_un, ↓s_minmax, ↓s_call, ↓s_callv, ↓s_callV, ↓s_ext, s_same, b_eql, b_neq, b_lss, b_leq, b_gtr, b_geq, b_add, b_sub, b_mul, b_eqlb, b_neqb, b_fnil, b_fnil', b_fnil2, b_fnil2', u_neg, u_not, m_two, s_end, s_end', s_end_iteN, s_res0, s_res1, s_tup1, s_tup2, ↓iteN_true, ↓iteN_false, iteN_true, iteN_false, Nat.zero_add, List.nil_append, List.append_nil, Nat.reduceEqDiff, reduceIte, decide_true, decide_false, Bool.not_true, Bool.not_false, List.getElem?_cons_zero, List.getElem?_cons_succ, Bool.false_eq_true, if_true, if_false, beq_self_eq_true]
  exact ⟨_, rfl⟩
theorem sp_RightS0 (e : E k_wide_Right = some f_wide_Right) (N : Nat) (n m r : Nat) (h0 : 0 < n) (h1 : n < 256) (hq : n / 64 = 0) (hm : n % 64 = m) (hr : 64 - m = r) (a0 a1 a2 a3 : Nat) (h : H) : ∃ h', callN E (N + 7) (.fn k_wide_Right) [W4 a0 a1 a2 a3, .int .i64 (n : Int)] h = some (W4 (a0 >>> m % 18446744073709551616 % 18446744073709551616 ||| a1 <<< r % 18446744073709551616 % 18446744073709551616) (a1 >>> m % 18446744073709551616 % 18446744073709551616 ||| a2 <<< r % 18446744073709551616 % 18446744073709551616) (a2 >>> m % 18446744073709551616 % 18446744073709551616 ||| a3 <<< r % 18446744073709551616 % 18446744073709551616) (a3 >>> m % 18446744073709551616), h') := by
  have q1 : ∀ e h, binV .quo e h (.int .i64 (n : Int)) (.int .i64 64) = some (.int .i64 0) := by
    intro e h
    rw [b_quo _ _ _ _ _ (by omega), Int.tdiv_eq_ediv_of_nonneg (by omega), show (n : Int) / 64 = 0 from by omega]; rfl
  have q2 : ∀ e h, binV .rem e h (.int .i64 (n : Int)) (.int .i64 64) = some (.int .i64 (m : Int)) := by
    intro e h
    rw [b_rem _ _ _ _ _ (by omega), Int.tmod_eq_emod_of_nonneg (by omega), show (n : Int) % 64 = (m : Int) from by omega]
  have q3 : (64 : Int) - (m : Int) = (r : Int) := by omega
  have q4 : decide ((n : Int) ≤ 0) = false := decide_eq_false (by omega)
  have q5 : decide (256 ≤ (n : Int)) = false := decide_eq_false (by omega)
  rw [s_cfn e _ _ (Nat.le_of_ble_eq_true rfl)]
  simp (config := {maxSteps := 1000000}) (disch := first | omega | (simp only [List.length_cons, List.length_nil, List.length_append, List.length_drop]; omega)) only [W4, q1, q2, q3, q4, q5, b_shl64, b_shr64', b_or64, b_or640, ↓s_evD, ↓s_dnil, ↓s_dL, ↓s_dR, ↓s_dB, s_bindD, s_finD, s_addP0, ↓s_bump0, ↓s_bump_get, s_bump_next, ↓s_box, c_agg, wr_i64, ↓l_loop, ↓l_succ, ↓l_normal, l_normal, l_exit, l_ret, l_iteN, ↓h_put_get, ↓h_new_get, ↓h_del_get, h_next_put, h_next_new, h_next_del, Nat.add_assoc, Nat.add_eq_left, Nat.left_eq_add, Nat.add_left_cancel_iff, ↓s_load, m_load, ↓m_load1, m_load1, ↓m_st, m_stE, m_storeI, m_storeE, w_zero, w_succ, ↓s_alloc, ↓x_idxA, ↓x_idxS, x_idxAE, x_idxSE, x_addrE, x_idx, x_lenS, ↓s_len, ↓x_buildS, x_buildE, ↓x_P0, ↓x_P1, x_fill0, x_filli, x_fills, x_fillb, c_int, List.length_cons, List.length_nil, List.cons_append, List.drop_succ_cons, List.drop_zero, List.drop_nil, List.nil_append, Int.reduceAdd, Int.reduceToNat, Int.reduceLT, Int.reduceLE, Nat.reduceAdd, Nat.reduceMul, Nat.reduceLeDiff, Int.reduceEq, Int.reduceSub, Int.cast_ofNat_Int, s_resc, s_consR, m_load4, m_store4, s_res0, ↓s_skip, ↓s_ops, ↓s_dops, ↓s_seq, ↓s_cond, ↓s_block, ↓s_exit, ↓s_ret, ↓s_scope, ↓s_nil, ↓s_op, ↓s_opg, ↓s_wanted', ↓s_wantV, s_wantV, s_wantV0, beq_true, beq_false, ↓s_bindS, s_bindS, ↓s_bindE, s_bindE, s_bindE_ret, s_bindE_exit, s_bindE_iteN, s_norm, ↓s_condV, s_condV, s_block_ret, s_block_normal, s_block_exit, s_block_iteN, ↓s_getp, ↓s_getp0, ↓s_get, s_get0, ↓s_con, ↓s_fn, ↓s_os0, ↓s_os1, ↓s_list0, ↓s_list1, ↓s_mov, ↓s_pick, ↓s_pickE, s_pickE, ↓s_bin, ↓s_un, ↓s_minmax, ↓s_call, ↓s_callv, ↓s_callV, ↓s_ext, s_same, b_eql, b_neq, b_lss, b_leq, b_gtr, b_geq, b_add, b_sub, b_mul, b_eqlb, b_neqb, b_fnil, b_fnil', b_fnil2, b_fnil2', u_neg, u_not, m_two, s_end, s_end', s_end_iteN, s_res0, s_res1, s_tup1, s_tup2, ↓iteN_true, ↓iteN_false, iteN_true, iteN_false, Nat.zero_add, List.nil_append, List.append_nil, Nat.reduceEqDiff, reduceIte, decide_true, decide_false, Bool.not_true, Bool.not_false, List.getElem?_cons_zero, List.getElem?_cons_succ, Bool.false_eq_true, if_true, if_false, beq_self_eq_true]
  exact ⟨_, rfl⟩
theorem sp_RightS1 (e : E k_wide_Right = some f_wide_Right) (N : Nat) (n m r : Nat) (h0 : 0 < n) (h1 : n < 256) (hq : n / 64 = 1) (hm : n % 64 = m) (hr : 64 - m = r) (a0 a1 a2 a3 : Nat) (h : H) : ∃ h', callN E (N + 7) (.fn k_wide_Right) [W4 a0 a1 a2 a3, .int .i64 (n : Int)] h = some (W4 (a1 >>> m % 18446744073709551616 % 18446744073709551616 ||| a2 <<< r % 18446744073709551616 % 18446744073709551616) (a2 >>> m % 18446744073709551616 % 18446744073709551616 ||| a3 <<< r % 18446744073709551616 % 18446744073709551616) (a3 >>> m % 18446744073709551616) 0, h') := by
  have q1 : ∀ e h, binV .quo e h (.int .i64 (n : Int)) (.int .i64 64) = some (.int .i64 1) := by
    intro e h
    rw [b_quo _ _ _ _ _ (by omega), Int.tdiv_eq_ediv_of_nonneg (by omega), show (n : Int) / 64 = 1 from by omega]; rfl
  have q2 : ∀ e h, binV .rem e h (.int .i64 (n : Int)) (.int .i64 64) = some (.int .i64 (m : Int)) := by
    intro e h
    rw [b_rem _ _ _ _ _ (by omega), Int.tmod_eq_emod_of_nonneg (by omega), show (n : Int) % 64 = (m : Int) from by omega]
  have q3 : (64 : Int) - (m : Int) = (r : Int) := by omega
  have q4 : decide ((n : Int) ≤ 0) = false := decide_eq_false (by omega)
  have q5 : decide (256 ≤ (n : Int)) = false := decide_eq_false (by omega)
  rw [s_cfn e _ _ (Nat.le_of_ble_eq_true rfl)]
  simp (config := {maxSteps := 1000000}) (disch := first | omega | (simp only [List.length_cons, List.length_nil, List.length_append, List.length_drop]; omega)) only [W4, q1, q2, q3, q4, q5, b_shl64, b_shr64', b_or64, b_or640, ↓s_evD, ↓s_dnil, ↓s_dL, ↓s_dR, ↓s_dB, s_bindD, s_finD, s_addP0, ↓s_bump0, ↓s_bump_get, s_bump_next, ↓s_box, c_agg, wr_i64, ↓l_loop, ↓l_succ, ↓l_normal, l_normal, l_exit, l_ret, l_iteN, ↓h_put_get, ↓h_new_get, ↓h_del_get, h_next_put, h_next_new, h_next_del, Nat.add_assoc, Nat.add_eq_left, Nat.left_eq_add, Nat.add_left_cancel_iff, ↓s_load, m_load, ↓m_load1, m_load1, ↓m_st, m_stE, m_storeI, m_storeE, w_zero, w_succ, ↓s_alloc, ↓x_idxA, ↓x_idxS, x_idxAE, x_idxSE, x_addrE, x_idx, x_lenS, ↓s_len, ↓x_buildS, x_buildE, ↓x_P0, ↓x_P1, x_fill0, x_filli, x_fills, x_fillb, c_int, List.length_cons, List.length_nil, List.cons_append, List.drop_succ_cons, List.drop_zero, List.drop_nil, List.nil_append, Int.reduceAdd, Int.reduceToNat, Int.reduceLT, Int.reduceLE, Nat.reduceAdd, Nat.reduceMul, Nat.reduceLeDiff, Int.reduceEq, Int.reduceSub, Int.cast_ofNat_Int, s_resc, s_consR, m_load4, m_store4, s_res0, ↓s_skip, ↓s_ops, ↓s_dops, ↓s_seq, ↓s_cond, ↓s_block, ↓s_exit, ↓s_ret, ↓s_scope, ↓s_nil, ↓s_op, ↓s_opg, ↓s_wanted', ↓s_wantV, s_wantV, s_wantV0, beq_true, beq_false, ↓s_bindS, s_bindS, ↓s_bindE, s_bindE, s_bindE_ret, s_bindE_exit, s_bindE_iteN, s_norm, ↓s_condV, s_condV, s_block_ret, s_block_normal, s_block_exit, s_block_iteN, ↓s_getp, ↓s_getp0, ↓s_get, s_get0, ↓s_con, ↓s_fn, ↓s_os0, ↓s_os1, ↓s_list0, ↓s_list1, ↓s_mov, ↓s_pick, ↓s_pickE, s_pickE, ↓s_bin, ↓s_un, ↓s_minmax, ↓s_call, ↓s_callv, ↓s_callV, ↓s_ext, s_same, b_eql, b_neq, b_lss, b_leq, b_gtr, b_geq, b_add, b_sub, b_mul, b_eqlb, b_neqb, b_fnil, b_fnil', b_fnil2, b_fnil2', u_neg, u_not, m_two, s_end, s_end', s_end_iteN, s_res0, s_res1, s_tup1, s_tup2, ↓iteN_true, ↓iteN_false, iteN_true, iteN_false, Nat.zero_add, List.nil_append, List.append_nil, Nat.reduceEqDiff, reduceIte, decide_true, decide_false, Bool.not_true, Bool.not_false, List.getElem?_cons_zero, List.getElem?_cons_succ, Bool.false_eq_true, if_true, if_false, beq_self_eq_true]
  exact ⟨_, rfl⟩
theorem sp_RightS2 (e : E k_wide_Right = some f_wide_Right) (N : Nat) (n m r : Nat) (h0 : 0 < n) (h1 : n < 256) (hq : n / 64 = 2) (hm : n % 64 = m) (hr : 64 - m = r) (a0 a1 a2 a3 : Nat) (h : H) : ∃ h', callN E (N + 7) (.fn k_wide_Right) [W4 a0 a1 a2 a3, .int .i64 (n : Int)] h = some (W4 (a2 >>> m % 18446744073709551616 % 18446744073709551616 ||| a3 <<< r % 18446744073709551616 % 18446744073709551616) (a3 >>> m % 18446744073709551616) 0 0, h') := by
  have q1 : ∀ e h, binV .quo e h (.int .i64 (n : Int)) (.int .i64 64) = some (.int .i64 2) := by
    intro e h
    rw [b_quo _ _ _ _ _ (by omega), Int.tdiv_eq_ediv_of_nonneg (by omega), show (n : Int) / 64 = 2 from by omega]; rfl
  have q2 : ∀ e h, binV .rem e h (.int .i64 (n : Int)) (.int .i64 64) = some (.int .i64 (m : Int)) := by
    intro e h
    rw [b_rem _ _ _ _ _ (by omega), Int.tmod_eq_emod_of_nonneg (by omega), show (n : Int) % 64 = (m : Int) from by omega]
  have q3 : (64 : Int) - (m : Int) = (r : Int) := by omega
  have q4 : decide ((n : Int) ≤ 0) = false := decide_eq_false (by omega)
  have q5 : decide (256 ≤ (n : Int)) = false := decide_eq_false (by omega)
  rw [s_cfn e _ _ (Nat.le_of_ble_eq_true rfl)]
  simp (config := {maxSteps := 1000000}) (disch := first | omega | (simp only [List.length_cons, List.length_nil, List.length_append, List.length_drop]; omega)) only [W4, q1, q2, q3, q4, q5, b_shl64, b_shr64', b_or64, b_or640, ↓s_evD, ↓s_dnil, ↓s_dL, ↓s_dR, ↓s_dB, s_bindD, s_finD, s_addP0, ↓s_bump0, ↓s_bump_get, s_bump_next, ↓s_box, c_agg, wr_i64, ↓l_loop, ↓l_succ, ↓l_normal, l_normal, l_exit, l_ret, l_iteN, ↓h_put_get, ↓h_new_get, ↓h_del_get, h_next_put, h_next_new, h_next_del, Nat.add_assoc, Nat.add_eq_left, Nat.left_eq_add, Nat.add_left_cancel_iff, ↓s_load, m_load, ↓m_load1, m_load1, ↓m_st, m_stE, m_storeI, m_storeE, w_zero, w_succ, ↓s_alloc, ↓x_idxA, ↓x_idxS, x_idxAE, x_idxSE, x_addrE, x_idx, x_lenS, ↓s_len, ↓x_buildS, x_buildE, ↓x_P0, ↓x_P1, x_fill0, x_filli, x_fills, x_fillb, c_int, List.length_cons, List.length_nil, List.cons_append, List.drop_succ_cons, List.drop_zero, List.drop_nil, List.nil_append, Int.reduceAdd, Int.reduceToNat, Int.reduceLT, Int.reduceLE, Nat.reduceAdd, Nat.reduceMul, Nat.reduceLeDiff, Int.reduceEq, Int.reduceSub, Int.cast_ofNat_Int, s_resc, s_consR, m_load4, m_store4, s_res0, ↓s_skip, ↓s_ops, ↓s_dops, ↓s_seq, ↓s_cond, ↓s_block, ↓s_exit, ↓s_ret, ↓s_scope, ↓s_nil, ↓s_op, ↓s_opg, ↓s_wanted', ↓s_wantV, s_wantV, s_wantV0, beq_true, beq_false, ↓s_bindS, s_bindS, ↓s_bindE, s_bindE, s_bindE_ret, s_bindE_exit, s_bindE_iteN, s_norm, ↓s_condV, s_condV, s_block_ret, s_block_normal, s_block_exit, s_block_iteN, ↓s_getp, ↓s_getp0, ↓s_get, s_get0, ↓s_con, ↓s_fn, ↓s_os0, ↓s_os1, ↓s_list0, ↓s_list1, ↓s_mov, ↓s_pick, ↓s_pickE, s_pickE, ↓s_bin, ↓s_un, ↓s_minmax, ↓s_call, ↓s_callv, ↓s_callV, ↓s_ext, s_same, b_eql, b_neq, b_lss, b_leq, b_gtr, b_geq, b_add, b_sub, b_mul, b_eqlb, b_neqb, b_fnil, b_fnil', b_fnil2, b_fnil2', u_neg, u_not, m_two, s_end, s_end', s_end_iteN, s_res0, s_res1, s_tup1, s_tup2, ↓iteN_true, ↓iteN_false, iteN_true, iteN_false, Nat.zero_add, List.nil_append, List.append_nil, Nat.reduceEqDiff, reduceIte, decide_true, decide_false, Bool.not_true, Bool.not_false, List.getElem?_cons_zero, List.getElem?_cons_succ, Bool.false_eq_true, if_true, if_false, beq_self_eq_true]
  exact ⟨_, rfl⟩
theorem sp_RightS3 (e : E k_wide_Right = some f_wide_Right) (N : Nat) (n m r : Nat) (h0 : 0 < n) (h1 : n < 256) (hq : n / 64 = 3) (hm : n % 64 = m) (hr : 64 - m = r) (a0 a1 a2 a3 : Nat) (h : H) : ∃ h', callN E (N + 7) (.fn k_wide_Right) [W4 a0 a1 a2 a3, .int .i64 (n : Int)] h = some (W4 (a3 >>> m % 18446744073709551616) 0 0 0, h') := by
  have q1 : ∀ e h, binV .quo e h (.int .i64 (n : Int)) (.int .i64 64) = some (.int .i64 3) := by
    intro e h
    rw [b_quo _ _ _ _ _ (by omega), Int.tdiv_eq_ediv_of_nonneg (by omega), show (n : Int) / 64 = 3 from by omega]; rfl
  have q2 : ∀ e h, binV .rem e h (.int .i64 (n : Int)) (.int .i64 64) = some (.int .i64 (m : Int)) := by
    intro e h
    rw [b_rem _ _ _ _ _ (by omega), Int.tmod_eq_emod_of_nonneg (by omega), show (n : Int) % 64 = (m : Int) from by omega]
  have q3 : (64 : Int) - (m : Int) = (r : Int) := by omega
  have q4 : decide ((n : Int) ≤ 0) = false := decide_eq_false (by omega)
  have q5 : decide (256 ≤ (n : Int)) = false := decide_eq_false (by omega)
  rw [s_cfn e _ _ (Nat.le_of_ble_eq_true rfl)]
  simp (config := {maxSteps := 1000000}) (disch := first | omega | (simp only [List.length_cons, List.length_nil, List.length_append, List.length_drop]; omega)) only [W4, q1, q2, q3, q4, q5, b_shl64, b_shr64', b_or64, b_or640, ↓s_evD, ↓s_dnil, ↓s_dL, ↓s_dR, ↓s_dB, s_bindD, s_finD, s_addP0, ↓s_bump0, ↓s_bump_get, s_bump_next, ↓s_box, c_agg, wr_i64, ↓l_loop, ↓l_succ, ↓l_normal, l_normal, l_exit, l_ret, l_iteN, ↓h_put_get, ↓h_new_get, ↓h_del_get, h_next_put, h_next_new, h_next_del, Nat.add_assoc, Nat.add_eq_left, Nat.left_eq_add, Nat.add_left_cancel_iff, ↓s_load, m_load, ↓m_load1, m_load1, ↓m_st, m_stE, m_storeI, m_storeE, w_zero, w_succ, ↓s_alloc, ↓x_idxA, ↓x_idxS, x_idxAE, x_idxSE, x_addrE, x_idx, x_lenS, ↓s_len, ↓x_buildS, x_buildE, ↓x_P0, ↓x_P1, x_fill0, x_filli, x_fills, x_fillb, c_int, List.length_cons, List.length_nil, List.cons_append, List.drop_succ_cons, List.drop_zero, List.drop_nil, List.nil_append, Int.reduceAdd, Int.reduceToNat, Int.reduceLT, Int.reduceLE, Nat.reduceAdd, Nat.reduceMul, Nat.reduceLeDiff, Int.reduceEq, Int.reduceSub, Int.cast_ofNat_Int, s_resc, s_consR, m_load4, m_store4, s_res0, ↓s_skip, ↓s_ops, ↓s_dops, ↓s_seq, ↓s_cond, ↓s_block, ↓s_exit, ↓s_ret, ↓s_scope, ↓s_nil, ↓s_op, ↓s_opg, ↓s_wanted', ↓s_wantV, s_wantV, s_wantV0, beq_true, beq_false, ↓s_bindS, s_bindS, ↓s_bindE, s_bindE, s_bindE_ret, s_bindE_exit, s_bindE_iteN, s_norm, ↓s_condV, s_condV, s_block_ret, s_block_normal, s_block_exit, s_block_iteN, ↓s_getp, ↓s_getp0, ↓s_get, s_get0, ↓s_con, ↓s_fn, ↓s_os0, ↓s_os1, ↓s_list0, ↓s_list1, ↓s_mov, ↓s_pick, ↓s_pickE, s_pickE, ↓s_bin, ↓s_un, ↓s_minmax, ↓s_call, ↓s_callv, ↓s_callV, ↓s_ext, s_same, b_eql, b_neq, b_lss, b_leq, b_gtr, b_geq, b_add, b_sub, b_mul, b_eqlb, b_neqb, b_fnil, b_fnil', b_fnil2, b_fnil2', u_neg, u_not, m_two, s_end, s_end', s_end_iteN, s_res0, s_res1, s_tup1, s_tup2, ↓iteN_true, ↓iteN_false, iteN_true, iteN_false, Nat.zero_add, List.nil_append, List.append_nil, Nat.reduceEqDiff, reduceIte, decide_true, decide_false, Bool.not_true, Bool.not_false, List.getElem?_cons_zero, List.getElem?_cons_succ, Bool.false_eq_true, if_true, if_false, beq_self_eq_true]
  exact ⟨_, rfl⟩
end Go.Eng
namespace Go.Eng
open Go
variable {E : Nat → Option Fn}
set_option linter.unusedSimpArgs false
set_option linter.unusedVariables false
theorem mod_mod' (a : Nat) : a % 18446744073709551616 % 18446744073709551616 = a % 18446744073709551616 := Nat.mod_mod _ _
theorem s_cfn0 {E : Nat → Option Fn} : True := trivial
theorem sp_Left (e : E k_wide_Left = some f_wide_Left) (N n x : Nat) (h0 : 0 < n) (h1 : n < 256) (h : H) : ∃ h', callN E (N + 7) (.fn k_wide_Left) [Wd x, .int .i64 (n : Int)] h = some (Wd (x <<< n), h') := by
  have hn : n = 64 * (n / 64) + n % 64 := by omega
  have hm : n % 64 < 64 := by omega
  have h4 : n / 64 = 0 ∨ n / 64 = 1 ∨ n / 64 = 2 ∨ n / 64 = 3 := by omega
  rw [Wd_lb (x <<< n), Wd_lb x]
  rw [show lb (x <<< n) 0 = lb (x <<< (64 * (n / 64) + n % 64)) 0 from by rw [← hn], show lb (x <<< n) 1 = lb (x <<< (64 * (n / 64) + n % 64)) 1 from by rw [← hn], show lb (x <<< n) 2 = lb (x <<< (64 * (n / 64) + n % 64)) 2 from by rw [← hn], show lb (x <<< n) 3 = lb (x <<< (64 * (n / 64) + n % 64)) 3 from by rw [← hn]]
  have z := lb_shl_lo x (n / 64) (n % 64)
  have y := lb_shl_eq x (n / 64) (n % 64) hm
  have w := lb_shl_hi x (n / 64) (n % 64)
  rcases h4 with h4 | h4 | h4 | h4
  · rw [h4] at z y w ⊢
    rw [y, show lb (x <<< (64 * 0 + n % 64)) 1 = _ from w 0 hm, show lb (x <<< (64 * 0 + n % 64)) 2 = _ from w 1 hm, show lb (x <<< (64 * 0 + n % 64)) 3 = _ from w 2 hm]
    exact sp_LeftS0 e N n (n % 64) (64 - n % 64) h0 h1 h4 rfl rfl _ _ _ _ h
  · rw [h4] at z y w ⊢
    rw [z 0 (by omega), y, show lb (x <<< (64 * 1 + n % 64)) 2 = _ from w 0 hm, show lb (x <<< (64 * 1 + n % 64)) 3 = _ from w 1 hm]
    exact sp_LeftS1 e N n (n % 64) (64 - n % 64) h0 h1 h4 rfl rfl _ _ _ _ h
  · rw [h4] at z y w ⊢
    rw [z 0 (by omega), z 1 (by omega), y, show lb (x <<< (64 * 2 + n % 64)) 3 = _ from w 0 hm]
    exact sp_LeftS2 e N n (n % 64) (64 - n % 64) h0 h1 h4 rfl rfl _ _ _ _ h
  · rw [h4] at z y w ⊢
    rw [z 0 (by omega), z 1 (by omega), z 2 (by omega), y]
    exact sp_LeftS3 e N n (n % 64) (64 - n % 64) h0 h1 h4 rfl rfl _ _ _ _ h
theorem sp_Right (e : E k_wide_Right = some f_wide_Right) (N n x : Nat) (h0 : 0 < n) (h1 : n < 256) (hx : x < 115792089237316195423570985008687907853269984665640564039457584007913129639936) (h : H) : ∃ h', callN E (N + 7) (.fn k_wide_Right) [Wd x, .int .i64 (n : Int)] h = some (Wd (x >>> n), h') := by
  have hn : n = 64 * (n / 64) + n % 64 := by omega
  have hm : n % 64 < 64 := by omega
  have h4 : n / 64 = 0 ∨ n / 64 = 1 ∨ n / 64 = 2 ∨ n / 64 = 3 := by omega
  rw [Wd_lb (x >>> n), Wd_lb x]
  rw [show lb (x >>> n) 0 = lb (x >>> (64 * (n / 64) + n % 64)) 0 from by rw [← hn], show lb (x >>> n) 1 = lb (x >>> (64 * (n / 64) + n % 64)) 1 from by rw [← hn], show lb (x >>> n) 2 = lb (x >>> (64 * (n / 64) + n % 64)) 2 from by rw [← hn], show lb (x >>> n) 3 = lb (x >>> (64 * (n / 64) + n % 64)) 3 from by rw [← hn]]
  rw [lb_shr x _ _ 0 hm, lb_shr x _ _ 1 hm, lb_shr x _ _ 2 hm, lb_shr x _ _ 3 hm]
  have tp := fun j => lb_top x j hx
  have z0 : ∀ m : Nat, (0 >>> m % 18446744073709551616 ||| 0 : Nat) = 0 := fun m => by rw [Nat.zero_shiftRight]; rfl
  have z1 : ∀ m : Nat, (0 <<< m % 18446744073709551616 % 18446744073709551616 : Nat) = 0 := fun m => by rw [Nat.zero_shiftLeft]
  rcases h4 with h4 | h4 | h4 | h4
  · obtain ⟨h', r⟩ := sp_RightS0 e N n (n % 64) (64 - n % 64) h0 h1 h4 rfl rfl (lb x 0) (lb x 1) (lb x 2) (lb x 3) h
    refine ⟨h', ?_⟩
    rw [r]
    simp only [h4, tp _ (by omega : 4 ≤ 3 + 0 + 1), mod_mod', z1, Nat.or_zero, Nat.add_zero, Nat.zero_add, Nat.reduceAdd, Nat.zero_shiftRight, Nat.zero_mod, tp 4 (by omega)]
  · obtain ⟨h', r⟩ := sp_RightS1 e N n (n % 64) (64 - n % 64) h0 h1 h4 rfl rfl (lb x 0) (lb x 1) (lb x 2) (lb x 3) h
    refine ⟨h', ?_⟩
    rw [r]
    simp only [h4, mod_mod', z1, Nat.or_zero, Nat.add_zero, Nat.zero_add, Nat.reduceAdd, Nat.zero_shiftRight, Nat.zero_mod, tp 4 (by omega), tp 5 (by omega)]
  · obtain ⟨h', r⟩ := sp_RightS2 e N n (n % 64) (64 - n % 64) h0 h1 h4 rfl rfl (lb x 0) (lb x 1) (lb x 2) (lb x 3) h
    refine ⟨h', ?_⟩
    rw [r]
    simp only [h4, mod_mod', z1, Nat.or_zero, Nat.add_zero, Nat.zero_add, Nat.reduceAdd, Nat.zero_shiftRight, Nat.zero_mod, tp 4 (by omega), tp 5 (by omega), tp 6 (by omega)]
  · obtain ⟨h', r⟩ := sp_RightS3 e N n (n % 64) (64 - n % 64) h0 h1 h4 rfl rfl (lb x 0) (lb x 1) (lb x 2) (lb x 3) h
    refine ⟨h', ?_⟩
    rw [r]
    simp only [h4, mod_mod', z1, Nat.or_zero, Nat.add_zero, Nat.zero_add, Nat.reduceAdd, Nat.zero_shiftRight, Nat.zero_mod, tp 4 (by omega), tp 5 (by omega), tp 6 (by omega), tp 7 (by omega)]
end Go.Eng
namespace Go.Eng
open Go
set_option linter.unusedSimpArgs false
set_option linter.unusedVariables false
/-- a word, by its number -/
theorem cW_get (x j : Nat) (h : j < 4) : (cW x)[j]? = some (.int .u64 (lb x j : Int)) := by
  have e : cW x = [.int .u64 (lb x 0), .int .u64 (lb x 1), .int .u64 (lb x 2), .int .u64 (lb x 3)] := by
    show (Wd x).cells = _
    rw [Wd_lb]; rfl
  rw [e]
  match j, h with
  | 0, _ => rfl
  | 1, _ => rfl
  | 2, _ => rfl
  | 3, _ => rfl
theorem cW_set {v : Nat} (x y j : Nat) (h : j < 4) (hy : ∀ i, i < 4 → lb y i = if i = j then v else lb x i) : writeN (cW x) j [.int .u64 (v : Int)] = cW y := by
  have e : ∀ x, cW x = [.int .u64 (lb x 0), .int .u64 (lb x 1), .int .u64 (lb x 2), .int .u64 (lb x 3)] := by
    intro x
    show (Wd x).cells = _
    rw [Wd_lb]; rfl
  rw [e x, e y]
  match j, h with
  | 0, _ => rw [hy 0 (by omega), hy 1 (by omega), hy 2 (by omega), hy 3 (by omega)]; rfl
  | 1, _ => rw [hy 0 (by omega), hy 1 (by omega), hy 2 (by omega), hy 3 (by omega)]; rfl
  | 2, _ => rw [hy 0 (by omega), hy 1 (by omega), hy 2 (by omega), hy 3 (by omega)]; rfl
  | 3, _ => rw [hy 0 (by omega), hy 1 (by omega), hy 2 (by omega), hy 3 (by omega)]; rfl
/-- one bit more -/
theorem tb_add (q p k : Nat) (hq : q % 2 ^ (p + 1) = 0) : (q + 2 ^ p).testBit k = (q.testBit k || decide (k = p)) := by
  obtain ⟨c, rfl⟩ : ∃ c, q = 2 ^ (p + 1) * c := ⟨q / 2 ^ (p + 1), by have := Nat.div_add_mod q (2 ^ (p + 1)); omega⟩
  rw [show 2 ^ (p + 1) * c + 2 ^ p = 2 ^ (p + 1) * c ||| 2 ^ p from (Nat.two_pow_add_eq_or_of_lt (Nat.pow_lt_pow_right (by omega) (by omega)) c), Nat.testBit_or, Nat.testBit_two_pow]
  congr 1
  simp [eq_comm]
theorem lb_add (q p i : Nat) (hq : q % 2 ^ (p + 1) = 0) (hp : p < 256) : lb (q + 2 ^ p) i = if i = p / 64 then (lb q (p / 64) % 18446744073709551616 ||| (1 <<< (p % 64) % 18446744073709551616) % 18446744073709551616) else lb q i := by
  apply Nat.eq_of_testBit_eq
  intro k
  rw [lb_tb, tb_add q p _ hq]
  split
  · rename_i h
    subst h
    rw [B64_eq, Nat.testBit_or, Nat.testBit_mod_two_pow, Nat.testBit_mod_two_pow, Nat.testBit_mod_two_pow, lb_tb, Nat.testBit_shiftLeft]
    by_cases hk : k < 64
    · have e : (64 * (p / 64) + k = p) ↔ k = p % 64 := by omega
      have e2 : (decide (p % 64 ≤ k) && Nat.testBit 1 (k - p % 64)) = decide (k = p % 64) := by
        rw [show (1 : Nat) = 2 ^ 0 from rfl, Nat.testBit_two_pow]
        by_cases h1 : k = p % 64
        · simp [h1]
        · by_cases h2 : p % 64 ≤ k
          · have : ¬ (0 = k - p % 64) := by omega
            simp [h1, this]
          · simp [h1, h2]
      simp only [hk, decide_true, Bool.true_and, e, e2]
    · simp [hk]
  · rename_i h
    rw [lb_tb]
    by_cases hk : k < 64
    · have : ¬ (64 * i + k = p) := by omega
      simp [this]
    · simp [hk]
def shl1 (x : Nat) : Nat := x <<< 1
theorem dBody_false (Q : Orc) (n l : Nat) (T0 : Tr V) (p : Int) (h : H) (hl : h.get l = some (.loop 0 none 32 T0 [17, 18] dAsg dBody 7)) : cYld Q n l [.int .i64 p, .bool false] h = some (.bool true, h.put l (.loop 1 none 32 T0 [17, 18] dAsg dBody 7) |>.put l (.loop 0 none 32 T0 [17, 18] dAsg dBody 7)) := by
  rw [y_cyld, hl, y_ready]
  simp (config := {maxSteps := 1000000}) (disch := first | omega | (simp only [List.length_cons, List.length_nil, List.length_append, List.length_drop]; omega)) only [dAsg, dBody, y_set2, y_mid, y_busy, hl, y_end, y_done, y_jn, Option.isNone_none, ↓s_skip, ↓s_ops, ↓s_dops, ↓s_seq, ↓s_cond, ↓s_block, ↓s_exit, ↓s_ret, ↓s_scope, ↓s_nil, ↓s_op, ↓s_opg, ↓s_wanted', ↓s_wantV, s_wantV, s_wantV0, beq_true, beq_false, ↓s_bindS, s_bindS, ↓s_bindE, s_bindE, s_bindE_ret, s_bindE_exit, s_bindE_iteN, s_norm, ↓s_condV, s_condV, s_block_ret, s_block_normal, s_block_exit, s_block_iteN, ↓s_getp, ↓s_getp0, ↓s_get, s_get0, ↓s_con, ↓s_fn, ↓s_os0, ↓s_os1, ↓s_list0, ↓s_list1, ↓s_mov, ↓s_pick, ↓s_pickE, s_pickE, ↓s_bin, ↓s_un, ↓s_minmax, ↓s_call, ↓s_callv, ↓s_callV, ↓s_ext, s_same, b_eql, b_neq, b_lss, b_leq, b_gtr, b_geq, b_add, b_sub, b_mul, b_eqlb, b_neqb, b_fnil, b_fnil', b_fnil2, b_fnil2', u_neg, u_not, m_two, s_end, s_end', s_end_iteN, s_res0, s_res1, s_tup1, s_tup2, ↓iteN_true, ↓iteN_false, iteN_true, iteN_false, Nat.zero_add, List.nil_append, List.append_nil, Nat.reduceEqDiff, reduceIte, decide_true, decide_false, Bool.not_true, Bool.not_false, List.getElem?_cons_zero, List.getElem?_cons_succ, Bool.false_eq_true, if_true, if_false, beq_self_eq_true, ↓l_loop, ↓l_succ, ↓l_normal, l_normal, l_exit, l_ret, l_iteN, ↓h_put_get, ↓h_new_get, ↓h_del_get, h_next_put, h_next_new, h_next_del, Nat.add_assoc, Nat.add_eq_left, Nat.left_eq_add, Nat.add_left_cancel_iff, ↓s_load, m_load, ↓m_load1, m_load1, ↓m_st, m_stE, m_storeI, m_storeE, w_zero, w_succ, ↓s_alloc, ↓x_idxA, ↓x_idxS, x_idxAE, x_idxSE, x_addrE, x_idx, x_lenS, ↓s_len, ↓x_buildS, x_buildE, ↓x_P0, ↓x_P1, x_fill0, x_filli, x_fills, x_fillb, c_int, List.length_cons, List.length_nil, List.cons_append, List.drop_succ_cons, List.drop_zero, List.drop_nil, List.nil_append, Int.reduceAdd, Int.reduceToNat, Int.reduceLT, Int.reduceLE, Nat.reduceAdd, Nat.reduceMul, Nat.reduceLeDiff, Int.reduceEq, Int.reduceSub, Int.cast_ofNat_Int, s_resc, s_consR, m_load4, m_store4, s_res0]
theorem dBody_true (Q : Orc) (n l b : Nat) (T0 : Tr V) (p q : Nat) (m : Nat) (hp : p < 256) (hq : q % 2 ^ (p + 1) = 0) (h : H) (ht : evO T0 (.t 4) = .ptr (some (b, 0))) (hbl : l ≠ b) (hb : h.get b = some (.cells (cW q) .rw)) (hl : h.get l = some (.loop 0 none 32 T0 [17, 18] dAsg dBody 7)) :
    cYld Q n l [.int .i64 (p : Int), .bool true] h = some (.bool true, ((h.put l (.loop 1 none 32 T0 [17, 18] dAsg dBody 7)).put b (.cells (cW (q + 2 ^ p)) .rw)).put l (.loop 0 none 32 T0 [17, 18] dAsg dBody 7)) := by
  have q1 : ∀ e h, binV .quo e h (.int .i64 (p : Int)) (.int .i64 64) = some (.int .i64 ((p / 64 : Nat) : Int)) := by
    intro e h
    rw [b_quo _ _ _ _ _ (by omega), Int.tdiv_eq_ediv_of_nonneg (by omega), wr_i64 (by omega)]; rfl
  have q2 : ∀ e h, binV .rem e h (.int .i64 (p : Int)) (.int .i64 64) = some (.int .i64 ((p % 64 : Nat) : Int)) := by
    intro e h
    rw [b_rem _ _ _ _ _ (by omega), Int.tmod_eq_emod_of_nonneg (by omega)]; rfl
  have q3 : ∀ e h, binV .shl e h (.int .u64 1) (.int .i64 ((p % 64 : Nat) : Int)) = some (.int .u64 ((1 <<< (p % 64) % 18446744073709551616 : Nat) : Int)) := fun e h => b_shl64 e h .i64 1 (p % 64) (by omega)
  have q4 : (cW q)[p / 64]? = some (.int .u64 (lb q (p / 64) : Int)) := cW_get q _ (by omega)
  have q5 : writeN (cW q) (p / 64) [.int .u64 ((lb q (p / 64) % 18446744073709551616 ||| (1 <<< (p % 64) % 18446744073709551616) % 18446744073709551616 : Nat) : Int)] = cW (q + 2 ^ p) := cW_set _ _ _ (by omega) fun i hi => lb_add q p i hq hp
  have q6 : (cW q).length = 4 := w_len q
  have q7 : ((p / 64 : Nat) : Int).toNat = p / 64 := Int.toNat_natCast _
  have q8 : ((l = b) = False) := by simp [hbl]
  have q9 : ((b = l) = False) := by simp [Ne.symm hbl]
  rw [y_cyld, hl, y_ready]
  simp (config := {maxSteps := 1000000}) (disch := first | omega | (simp only [List.length_cons, List.length_nil, List.length_append, List.length_drop, q6]; omega)) only [dAsg, dBody, y_set2, y_mid, y_busy, hl, hb, ht, q1, q2, q3, q4, q5, q6, q7, q8, q9, b_or64, y_end, y_done, y_jn, Option.isNone_none, Nat.mul_one, ↓s_evD, ↓s_dnil, ↓s_dL, ↓s_dLg, ↓s_dR, ↓s_dRg, ↓s_dRj, ↓s_dRjg, ↓s_dB, ↓s_dBg, ↓s_dAlloc, ↓s_bindD, s_bindD, s_finD, s_finDx, s_addP0, s_addP1, s_addB, s_lookP, ↓s_bump0, ↓s_bump_get, s_bump_next, s_ok0, ↓s_ok1, s_okR0, ↓s_okR1, ↓s_okE, s_okE, s_okE1, s_nth0, s_nthS, Nat.add_zero, Bool.and_self, Bool.and_true, Bool.true_and, ↓l_loop, ↓l_succ, ↓l_normal, l_normal, l_exit, l_ret, l_iteN, ↓h_put_get, ↓h_new_get, ↓h_del_get, h_next_put, h_next_new, h_next_del, Nat.add_assoc, Nat.add_eq_left, Nat.left_eq_add, Nat.add_left_cancel_iff, ↓s_load, m_load, ↓m_load1, m_load1, ↓m_st, m_stE, m_storeI, m_storeE, w_zero, w_succ, ↓s_alloc, ↓x_idxA, ↓x_idxS, x_idxAE, x_idxSE, x_addrE, x_idx, x_lenS, ↓s_len, ↓x_buildS, x_buildE, ↓x_P0, ↓x_P1, x_fill0, x_filli, x_fills, x_fillb, c_int, List.length_cons, List.length_nil, List.cons_append, List.drop_succ_cons, List.drop_zero, List.drop_nil, List.nil_append, Int.reduceAdd, Int.reduceToNat, Int.reduceLT, Int.reduceLE, Nat.reduceAdd, Nat.reduceMul, Nat.reduceLeDiff, Int.reduceEq, Int.reduceSub, Int.cast_ofNat_Int, s_resc, s_consR, m_load4, m_store4, s_res0, ↓s_skip, ↓s_ops, ↓s_dops, ↓s_seq, ↓s_cond, ↓s_block, ↓s_exit, ↓s_ret, ↓s_scope, ↓s_nil, ↓s_op, ↓s_opg, ↓s_wanted', ↓s_wantV, s_wantV, s_wantV0, beq_true, beq_false, ↓s_bindS, s_bindS, ↓s_bindE, s_bindE, s_bindE_ret, s_bindE_exit, s_bindE_iteN, s_norm, ↓s_condV, s_condV, s_block_ret, s_block_normal, s_block_exit, s_block_iteN, ↓s_getp, ↓s_getp0, ↓s_get, s_get0, ↓s_con, ↓s_fn, ↓s_os0, ↓s_os1, ↓s_list0, ↓s_list1, ↓s_mov, ↓s_pick, ↓s_pickE, s_pickE, ↓s_bin, ↓s_un, ↓s_minmax, ↓s_call, ↓s_callv, ↓s_callV, ↓s_ext, s_same, b_eql, b_neq, b_lss, b_leq, b_gtr, b_geq, b_add, b_sub, b_mul, b_eqlb, b_neqb, b_fnil, b_fnil', b_fnil2, b_fnil2', u_neg, u_not, m_two, s_end, s_end', s_end_iteN, s_res0, s_res1, s_tup1, s_tup2, ↓iteN_true, ↓iteN_false, iteN_true, iteN_false, Nat.zero_add, List.nil_append, List.append_nil, Nat.reduceEqDiff, reduceIte, decide_true, decide_false, Bool.not_true, Bool.not_false, List.getElem?_cons_zero, List.getElem?_cons_succ, Bool.false_eq_true, if_true, if_false, beq_self_eq_true]
end Go.Eng
namespace Go.Eng
open Go
set_option linter.unusedSimpArgs false
set_option linter.unusedVariables false
def qOf (a b m : Nat) : Nat := 2 ^ m * (a / 2 ^ m / b)
def rOf (a b m : Nat) : Nat := a / 2 ^ m % b
theorem b_and641 (e : EqK) (h : H) (a : Nat) : binV .and e h (.int .u64 (a : Int)) (.int .u64 1) = some (.int .u64 (((a % 18446744073709551616) &&& 1 : Nat) : Int)) := b_and64 e h a 1
theorem lb_bit (r a p i : Nat) : lb (r <<< 1 + a / 2 ^ p % 2) i = if i = 0 then (lb (r <<< 1) 0 % 18446744073709551616 ||| ((lb a (p / 64) >>> (p % 64)) % 18446744073709551616 &&& 1) % 18446744073709551616) else lb (r <<< 1) i := by
  have hlt : a / 2 ^ p % 2 < 2 ^ 1 := Nat.mod_lt _ (by omega)
  apply Nat.eq_of_testBit_eq
  intro k
  have hb : ∀ j, (a / 2 ^ p % 2).testBit j = (decide (j = 0) && a.testBit p) := by
    intro j
    rw [show a / 2 ^ p % 2 = (a >>> p) % 2 ^ 1 from by rw [Nat.shiftRight_eq_div_pow], Nat.testBit_mod_two_pow, Nat.testBit_shiftRight]
    by_cases hj : j = 0
    · subst hj; simp
    · have : ¬ (j < 1) := by omega
      simp [hj]
  have h1 : ∀ j, Nat.testBit 1 j = decide (0 = j) := fun j => by rw [show (1 : Nat) = 2 ^ 0 from rfl, Nat.testBit_two_pow]
  rw [lb_tb, Nat.shiftLeft_add_eq_or_of_lt hlt, Nat.testBit_or, hb]
  split
  · rename_i h
    subst h
    rw [B64_eq, Nat.testBit_or, Nat.testBit_mod_two_pow, Nat.testBit_mod_two_pow, Nat.testBit_and, Nat.testBit_mod_two_pow, Nat.testBit_shiftRight, lb_tb, lb_tb, h1]
    by_cases hk : k < 64
    · by_cases h0 : k = 0
      · subst h0
        have e1 : p % 64 < 64 := by omega
        have e2 : 64 * (p / 64) + p % 64 = p := by omega
        simp [e1, e2]
      · have : ¬ (0 = k) := fun e => h0 e.symm
        simp [hk, h0, this]
    · simp [hk]
  · rename_i h
    rw [lb_tb]
    by_cases hk : k < 64
    · have : decide (64 * i + k = 0) = false := decide_eq_false (by omega)
      rw [this, Bool.false_and, Bool.or_false]
    · simp [hk]
theorem div_step (a b p : Nat) (hb : 0 < b) : a / 2 ^ p = b * (2 * (a / 2 ^ (p + 1) / b)) + (2 * rOf a b (p + 1) + a / 2 ^ p % 2) := by
  have e1 : a / 2 ^ (p + 1) = a / 2 ^ p / 2 := by rw [Nat.pow_succ, Nat.div_div_eq_div_mul]
  have e2 := Nat.div_add_mod (a / 2 ^ (p + 1)) b
  unfold rOf
  have e3 := Nat.div_add_mod (a / 2 ^ p) 2
  rw [← e1] at e3
  rw [show b * (2 * (a / 2 ^ (p + 1) / b)) = 2 * (b * (a / 2 ^ (p + 1) / b)) from by rw [Nat.mul_left_comm]]
  omega
theorem step_lo (a b p : Nat) (hb : 0 < b) (h : 2 * rOf a b (p + 1) + a / 2 ^ p % 2 < b) : rOf a b p = 2 * rOf a b (p + 1) + a / 2 ^ p % 2 ∧ qOf a b p = qOf a b (p + 1) := by
  have e := div_step a b p hb
  have d : a / 2 ^ p / b = 2 * (a / 2 ^ (p + 1) / b) := by
    rw [Nat.div_eq_of_lt_le]
    · rw [e, Nat.mul_comm]; omega
    · rw [e, Nat.add_mul, Nat.mul_comm b]; omega
  have m : a / 2 ^ p % b = 2 * rOf a b (p + 1) + a / 2 ^ p % 2 := by
    have := Nat.div_add_mod (a / 2 ^ p) b
    rw [d] at this
    omega
  refine ⟨m, ?_⟩
  unfold qOf
  rw [d, Nat.pow_succ, Nat.mul_assoc]
theorem step_hi (a b p : Nat) (hb : 0 < b) (h : b ≤ 2 * rOf a b (p + 1) + a / 2 ^ p % 2) : rOf a b p = 2 * rOf a b (p + 1) + a / 2 ^ p % 2 - b ∧ qOf a b p = qOf a b (p + 1) + 2 ^ p := by
  have e := div_step a b p hb
  have hr : rOf a b (p + 1) < b := Nat.mod_lt _ hb
  have d : a / 2 ^ p / b = 2 * (a / 2 ^ (p + 1) / b) + 1 := by
    rw [Nat.div_eq_of_lt_le]
    · rw [e, Nat.add_mul, Nat.mul_comm b]; omega
    · rw [e, Nat.add_mul, Nat.add_mul, Nat.mul_comm b]; omega
  have m : a / 2 ^ p % b = 2 * rOf a b (p + 1) + a / 2 ^ p % 2 - b := by
    have := Nat.div_add_mod (a / 2 ^ p) b
    rw [d, Nat.mul_add] at this
    omega
  refine ⟨m, ?_⟩
  unfold qOf
  rw [d, Nat.pow_succ, Nat.mul_add, Nat.mul_one, Nat.mul_assoc]
theorem rest_le (a b p : Nat) (hb : 0 < b) : 2 * rOf a b (p + 1) + a / 2 ^ p % 2 ≤ a := by
  have e := div_step a b p hb
  have : a / 2 ^ p ≤ a := Nat.div_le_self _ _
  omega

theorem v_beqp (a : Option (Nat × Nat)) : V.beq (.ptr a) (.ptr a) = true := by simp [V.beq]
theorem s_callVy (Q : Orc) (as : List V) (l : Nat) (h : H) : callV Q as (.yld l) h = Q (.yld l) as h := _root_.id rfl
structure DI (a b m : Nat) (T0 : Tr V) (T : Tr V) (h : H) : Prop where
  t0 : evO T (.t 0) = .yld 8
  t1 : evO T (.t 1) = .ptr (some (4, 0))
  t2 : evO T (.t 2) = .ptr (some (6, 0))
  t3 : evO T (.t 3) = .ptr (some (5, 0))
  t5 : evO T (.t 5) = .int .i64 ((m : Int) - 1)
  nx : 9 ≤ h.next
  b2 : h.get 2 = some (.cells (cW (qOf a b m)) .rw)
  b3 : h.get 3 = some (.cells (cW (rOf a b m)) .rw)
  b4 : h.get 4 = some (.cells (cW a) .rw)
  b5 : h.get 5 = some (.cells (cW b) .rw)
  b6 : h.get 6 = some (.cells [.ptr (some (3, 0))] .rw)
  b7 : h.get 7 = some .defers
  b8 : h.get 8 = some (.loop 0 none 32 T0 [17, 18] dAsg dBody 7)

structure DQ (Q Q' : Orc) (n' : Nat) : Prop where
  L : ∀ h x, x < 115792089237316195423570985008687907853269984665640564039457584007913129639936 → Q (.fn k_wide_Left) [Wd x, .int .i64 1] h = some (Wd (x <<< 1), h)
  S : ∀ h x y, x < 115792089237316195423570985008687907853269984665640564039457584007913129639936 → y < 115792089237316195423570985008687907853269984665640564039457584007913129639936 → Q (.fn k_wide_Sub) [Wd x, Wd y] h = some (.tup [Wd (x + 115792089237316195423570985008687907853269984665640564039457584007913129639936 - y), .bool (decide (x < y))], h)
  Y : ∀ args h, Q (.yld 8) args h = cYld Q' n' 8 args h

theorem q_round_lo {Q Q' : Orc} {n' : Nat} (X : DQ Q Q' n') (n a b p : Nat) (ha : a < 115792089237316195423570985008687907853269984665640564039457584007913129639936) (hb0 : 0 < b) (hbM : b < 115792089237316195423570985008687907853269984665640564039457584007913129639936) (hp : p < 256) (T0 : Tr V) (hT : evO T0 (.t 4) = .ptr (some (2, 0))) (T : Tr V) (h : H) (I : DI a b (p + 1) T0 T h)
    (hR : 2 * rOf a b (p + 1) + a / 2 ^ p % 2 < b) : ∃ T' h', evC Q 55 n none qLoop ⟨T, [], h⟩ = some (.normal, ⟨T', [], h'⟩) ∧ DI a b p T0 T' h' := by
  obtain ⟨t0, t1, t2, t3, t5, nx, b2, b3, b4, b5, b6, b7, b8⟩ := I
  obtain ⟨r, er⟩ : ∃ r, rOf a b (p + 1) = r := ⟨_, rfl⟩
  obtain ⟨q, eq⟩ : ∃ q, qOf a b (p + 1) = q := ⟨_, rfl⟩
  have L := step_lo a b p hb0 hR
  have hle := rest_le a b p hb0
  rw [er] at b3 hR L hle
  rw [eq] at b2 L
  have hw : wr .i64 ((p : Int) - 1) = (p : Int) - 1 := wr_i64 (by omega)
  have hs1 : r <<< 1 = 2 * r := by rw [Nat.shiftLeft_eq]; omega
  have p1 : (((p + 1 : Nat) : Int) - 1) = (p : Int) := by omega
  rw [p1] at t5
  have c1 : decide (0 ≤ (p : Int)) = true := decide_eq_true (by omega)
  have q1 : ∀ e h, binV .quo e h (.int .i64 (p : Int)) (.int .i64 64) = some (.int .i64 ((p / 64 : Nat) : Int)) := by
    intro e h
    rw [b_quo _ _ _ _ _ (by omega), Int.tdiv_eq_ediv_of_nonneg (by omega), wr_i64 (by omega)]; rfl
  have q2 : ∀ e h, binV .rem e h (.int .i64 (p : Int)) (.int .i64 64) = some (.int .i64 ((p % 64 : Nat) : Int)) := by
    intro e h
    rw [b_rem _ _ _ _ _ (by omega), Int.tmod_eq_emod_of_nonneg (by omega)]; rfl
  have q4 : (cW a)[p / 64]? = some (.int .u64 (lb a (p / 64) : Int)) := cW_get a _ (by omega)
  have q4' : (cW (r <<< 1))[0]? = some (.int .u64 (lb (r <<< 1) 0 : Int)) := cW_get _ 0 (by omega)
  have q3 : ∀ e h, binV .shr e h (.int .u64 (lb a (p / 64) : Int)) (.int .i64 ((p % 64 : Nat) : Int)) = some (.int .u64 ((lb a (p / 64) >>> (p % 64) : Nat) : Int)) := fun e h => b_shr64' e h _ _ (by omega)
  have q5 : writeN (cW (r <<< 1)) 0 [.int .u64 ((lb (r <<< 1) 0 % 18446744073709551616 ||| ((lb a (p / 64) >>> (p % 64)) % 18446744073709551616 &&& 1) % 18446744073709551616 : Nat) : Int)] = cW (r <<< 1 + a / 2 ^ p % 2) := cW_set _ _ _ (by omega) fun i hi => lb_bit r a p i
  have q7 : ((p / 64 : Nat) : Int).toNat = p / 64 := Int.toNat_natCast _
  obtain ⟨R, eR⟩ : ∃ R, r <<< 1 + a / 2 ^ p % 2 = R := ⟨_, rfl⟩
  rw [eR] at q5
  obtain ⟨D, eD⟩ : ∃ D, Wd (R + 115792089237316195423570985008687907853269984665640564039457584007913129639936 - b) = Wd D := ⟨_, rfl⟩
  have eR' : rOf a b p = R := by rw [L.1, ← eR, hs1]
  have q8 : decide (R < b) = true := decide_eq_true (by omega)
  have n2 : (h.next = 2) = False := by simp; omega
  have n3 : (h.next = 3) = False := by simp; omega
  have n4 : (h.next = 4) = False := by simp; omega
  have n5 : (h.next = 5) = False := by simp; omega
  have n6 : (h.next = 6) = False := by simp; omega
  have n7 : (h.next = 7) = False := by simp; omega
  have n8 : (h.next = 8) = False := by simp; omega
  have hL := X.L
  have hS := fun (x : H) => X.S x R b (by omega) hbM
  rw [eD, q8] at hS
  have hF := fun (x : H) (k : x.get 8 = some (.loop 0 none 32 T0 [17, 18] dAsg dBody 7)) => (X.Y [.int .i64 (p : Int), .bool false] x).trans (dBody_false Q' n' 8 T0 (p : Int) x k)
  simp (config := {maxSteps := 1000000}) (disch := first | omega | (simp only [List.length_cons, List.length_nil, List.length_append, List.length_drop, w_len]; omega) | (simp only [h_put_get, s_bump_get, b8, n8, Nat.reduceEqDiff, decide_false, iteN_false])) only [qLoop, t0, t1, t2, t3, t5, b2, b3, b4, b5, b6, b7, b8, c1, q1, q2, q3, q4, q4', q5, q7, q8, hL, hS, hF, w_load, w_store, w_stW, w_write', w_write, s_callVy, eR, b_or64, b_and641, n2, n3, n4, n5, n6, n7, n8, ↓s_nilchk, x_nilchk, v_beqp, Nat.mul_one, Nat.mul_zero, Nat.zero_mul, ↓s_evD, ↓s_dnil, ↓s_dL, ↓s_dLg, ↓s_dR, ↓s_dRg, ↓s_dRj, ↓s_dRjg, ↓s_dB, ↓s_dBg, ↓s_dAlloc, ↓s_bindD, s_bindD, s_finD, s_finDx, s_addP0, s_addP1, s_addB, s_lookP, ↓s_bump0, ↓s_bump_get, s_bump_next, s_ok0, ↓s_ok1, s_okR0, ↓s_okR1, ↓s_okE, s_okE, s_okE1, s_nth0, s_nthS, Nat.add_zero, Bool.and_self, Bool.and_true, Bool.true_and, ↓l_loop, ↓l_succ, ↓l_normal, l_normal, l_exit, l_ret, l_iteN, ↓h_put_get, ↓h_new_get, ↓h_del_get, h_next_put, h_next_new, h_next_del, Nat.add_assoc, Nat.add_eq_left, Nat.left_eq_add, Nat.add_left_cancel_iff, ↓s_load, m_load, ↓m_load1, m_load1, ↓m_st, m_stE, m_storeI, m_storeE, w_succ, ↓s_alloc, ↓x_idxA, ↓x_idxS, x_idxAE, x_idxSE, x_addrE, x_idx, x_lenS, ↓s_len, ↓x_buildS, x_buildE, ↓x_P0, ↓x_P1, x_fill0, x_filli, x_fills, x_fillb, c_int, List.length_cons, List.length_nil, List.cons_append, List.drop_succ_cons, List.drop_zero, List.drop_nil, List.nil_append, Int.reduceAdd, Int.reduceToNat, Int.reduceLT, Int.reduceLE, Nat.reduceAdd, Nat.reduceMul, Nat.reduceLeDiff, Int.reduceEq, Int.reduceSub, Int.cast_ofNat_Int, s_resc, s_consR, m_load4, m_store4, s_res0, ↓s_skip, ↓s_ops, ↓s_dops, ↓s_seq, ↓s_cond, ↓s_block, ↓s_exit, ↓s_ret, ↓s_scope, ↓s_nil, ↓s_op, ↓s_opg, ↓s_wanted', ↓s_wantV, s_wantV, s_wantV0, beq_true, beq_false, ↓s_bindS, s_bindS, ↓s_bindE, s_bindE, s_bindE_ret, s_bindE_exit, s_bindE_iteN, s_norm, ↓s_condV, s_condV, s_block_ret, s_block_normal, s_block_exit, s_block_iteN, ↓s_getp, ↓s_getp0, ↓s_get, s_get0, ↓s_con, ↓s_fn, ↓s_os0, ↓s_os1, ↓s_list0, ↓s_list1, ↓s_mov, ↓s_pick, ↓s_pickE, s_pickE, ↓s_bin, ↓s_un, ↓s_minmax, ↓s_call, ↓s_callv, ↓s_callV, ↓s_ext, s_same, b_eql, b_neq, b_lss, b_leq, b_gtr, b_geq, b_add, b_sub, b_mul, b_eqlb, b_neqb, b_fnil, b_fnil', b_fnil2, b_fnil2', u_neg, u_not, m_two, s_end, s_end', s_end_iteN, s_res0, s_res1, s_tup1, s_tup2, ↓iteN_true, ↓iteN_false, iteN_true, iteN_false, Nat.zero_add, List.nil_append, List.append_nil, Nat.reduceEqDiff, reduceIte, decide_true, decide_false, Bool.not_true, Bool.not_false, List.getElem?_cons_zero, List.getElem?_cons_succ, Bool.false_eq_true, if_true, if_false, beq_self_eq_true]
  exact ⟨_, _, rfl, ⟨by simp only [s_getp, s_getp0, Nat.reduceEqDiff, decide_false, decide_true, iteN_false, iteN_true, hw, t0, t1, t2, t3, t5, h_put_get, s_bump_get, b2, b3, b4, b5, b6, b7, b8, n2, n3, n4, n5, n6, n7, n8, eR', L.2], by simp only [s_getp, s_getp0, Nat.reduceEqDiff, decide_false, decide_true, iteN_false, iteN_true, hw, t0, t1, t2, t3, t5, h_put_get, s_bump_get, b2, b3, b4, b5, b6, b7, b8, n2, n3, n4, n5, n6, n7, n8, eR', L.2], by simp only [s_getp, s_getp0, Nat.reduceEqDiff, decide_false, decide_true, iteN_false, iteN_true, hw, t0, t1, t2, t3, t5, h_put_get, s_bump_get, b2, b3, b4, b5, b6, b7, b8, n2, n3, n4, n5, n6, n7, n8, eR', L.2], by simp only [s_getp, s_getp0, Nat.reduceEqDiff, decide_false, decide_true, iteN_false, iteN_true, hw, t0, t1, t2, t3, t5, h_put_get, s_bump_get, b2, b3, b4, b5, b6, b7, b8, n2, n3, n4, n5, n6, n7, n8, eR', L.2], by simp only [s_getp, s_getp0, Nat.reduceEqDiff, decide_false, decide_true, iteN_false, iteN_true, hw, t0, t1, t2, t3, t5, h_put_get, s_bump_get, b2, b3, b4, b5, b6, b7, b8, n2, n3, n4, n5, n6, n7, n8, eR', L.2], by simp only [h_next_put, s_bump_next]; omega, by simp only [s_getp, s_getp0, Nat.reduceEqDiff, decide_false, decide_true, iteN_false, iteN_true, hw, t0, t1, t2, t3, t5, h_put_get, s_bump_get, b2, b3, b4, b5, b6, b7, b8, n2, n3, n4, n5, n6, n7, n8, eR', L.2], by simp only [s_getp, s_getp0, Nat.reduceEqDiff, decide_false, decide_true, iteN_false, iteN_true, hw, t0, t1, t2, t3, t5, h_put_get, s_bump_get, b2, b3, b4, b5, b6, b7, b8, n2, n3, n4, n5, n6, n7, n8, eR', L.2], by simp only [s_getp, s_getp0, Nat.reduceEqDiff, decide_false, decide_true, iteN_false, iteN_true, hw, t0, t1, t2, t3, t5, h_put_get, s_bump_get, b2, b3, b4, b5, b6, b7, b8, n2, n3, n4, n5, n6, n7, n8, eR', L.2], by simp only [s_getp, s_getp0, Nat.reduceEqDiff, decide_false, decide_true, iteN_false, iteN_true, hw, t0, t1, t2, t3, t5, h_put_get, s_bump_get, b2, b3, b4, b5, b6, b7, b8, n2, n3, n4, n5, n6, n7, n8, eR', L.2], by simp only [s_getp, s_getp0, Nat.reduceEqDiff, decide_false, decide_true, iteN_false, iteN_true, hw, t0, t1, t2, t3, t5, h_put_get, s_bump_get, b2, b3, b4, b5, b6, b7, b8, n2, n3, n4, n5, n6, n7, n8, eR', L.2], by simp only [s_getp, s_getp0, Nat.reduceEqDiff, decide_false, decide_true, iteN_false, iteN_true, hw, t0, t1, t2, t3, t5, h_put_get, s_bump_get, b2, b3, b4, b5, b6, b7, b8, n2, n3, n4, n5, n6, n7, n8, eR', L.2], by simp only [s_getp, s_getp0, Nat.reduceEqDiff, decide_false, decide_true, iteN_false, iteN_true, hw, t0, t1, t2, t3, t5, h_put_get, s_bump_get, b2, b3, b4, b5, b6, b7, b8, n2, n3, n4, n5, n6, n7, n8, eR', L.2]⟩⟩
theorem q_round_hi {Q Q' : Orc} {n' : Nat} (X : DQ Q Q' n') (n a b p : Nat) (ha : a < 115792089237316195423570985008687907853269984665640564039457584007913129639936) (hb0 : 0 < b) (hbM : b < 115792089237316195423570985008687907853269984665640564039457584007913129639936) (hp : p < 256) (T0 : Tr V) (hT : evO T0 (.t 4) = .ptr (some (2, 0))) (T : Tr V) (h : H) (I : DI a b (p + 1) T0 T h)
    (hR : b ≤ 2 * rOf a b (p + 1) + a / 2 ^ p % 2) : ∃ T' h', evC Q 55 n none qLoop ⟨T, [], h⟩ = some (.normal, ⟨T', [], h'⟩) ∧ DI a b p T0 T' h' := by
  obtain ⟨t0, t1, t2, t3, t5, nx, b2, b3, b4, b5, b6, b7, b8⟩ := I
  obtain ⟨r, er⟩ : ∃ r, rOf a b (p + 1) = r := ⟨_, rfl⟩
  obtain ⟨q, eq⟩ : ∃ q, qOf a b (p + 1) = q := ⟨_, rfl⟩
  have L := step_hi a b p hb0 hR
  have hle := rest_le a b p hb0
  rw [er] at b3 hR L hle
  rw [eq] at b2 L
  have hqm : q % 2 ^ (p + 1) = 0 := by rw [← eq]; exact Nat.mul_mod_right _ _
  have hw : wr .i64 ((p : Int) - 1) = (p : Int) - 1 := wr_i64 (by omega)
  have hs1 : r <<< 1 = 2 * r := by rw [Nat.shiftLeft_eq]; omega
  have p1 : (((p + 1 : Nat) : Int) - 1) = (p : Int) := by omega
  rw [p1] at t5
  have c1 : decide (0 ≤ (p : Int)) = true := decide_eq_true (by omega)
  have q1 : ∀ e h, binV .quo e h (.int .i64 (p : Int)) (.int .i64 64) = some (.int .i64 ((p / 64 : Nat) : Int)) := by
    intro e h
    rw [b_quo _ _ _ _ _ (by omega), Int.tdiv_eq_ediv_of_nonneg (by omega), wr_i64 (by omega)]; rfl
  have q2 : ∀ e h, binV .rem e h (.int .i64 (p : Int)) (.int .i64 64) = some (.int .i64 ((p % 64 : Nat) : Int)) := by
    intro e h
    rw [b_rem _ _ _ _ _ (by omega), Int.tmod_eq_emod_of_nonneg (by omega)]; rfl
  have q4 : (cW a)[p / 64]? = some (.int .u64 (lb a (p / 64) : Int)) := cW_get a _ (by omega)
  have q4' : (cW (r <<< 1))[0]? = some (.int .u64 (lb (r <<< 1) 0 : Int)) := cW_get _ 0 (by omega)
  have q3 : ∀ e h, binV .shr e h (.int .u64 (lb a (p / 64) : Int)) (.int .i64 ((p % 64 : Nat) : Int)) = some (.int .u64 ((lb a (p / 64) >>> (p % 64) : Nat) : Int)) := fun e h => b_shr64' e h _ _ (by omega)
  have q5 : writeN (cW (r <<< 1)) 0 [.int .u64 ((lb (r <<< 1) 0 % 18446744073709551616 ||| ((lb a (p / 64) >>> (p % 64)) % 18446744073709551616 &&& 1) % 18446744073709551616 : Nat) : Int)] = cW (r <<< 1 + a / 2 ^ p % 2) := cW_set _ _ _ (by omega) fun i hi => lb_bit r a p i
  have q7 : ((p / 64 : Nat) : Int).toNat = p / 64 := Int.toNat_natCast _
  obtain ⟨R, eR⟩ : ∃ R, r <<< 1 + a / 2 ^ p % 2 = R := ⟨_, rfl⟩
  rw [eR] at q5
  have eD : Wd (R + 115792089237316195423570985008687907853269984665640564039457584007913129639936 - b) = Wd (R - b) := by
    rw [← Wd_mod (R + 115792089237316195423570985008687907853269984665640564039457584007913129639936 - b)]
    congr 1
    omega
  obtain ⟨D, eDD⟩ : ∃ D, R - b = D := ⟨_, rfl⟩
  rw [eDD] at eD
  have eR' : rOf a b p = R - b := by rw [L.1, ← eR, hs1]
  have q8 : decide (R < b) = false := decide_eq_false (by omega)
  have n2 : (h.next = 2) = False := by simp; omega
  have n3 : (h.next = 3) = False := by simp; omega
  have n4 : (h.next = 4) = False := by simp; omega
  have n5 : (h.next = 5) = False := by simp; omega
  have n6 : (h.next = 6) = False := by simp; omega
  have n7 : (h.next = 7) = False := by simp; omega
  have n8 : (h.next = 8) = False := by simp; omega
  have hL := X.L
  have hS := fun (x : H) => X.S x R b (by omega) hbM
  rw [eD, q8] at hS
  have hF := fun (x : H) (k2 : x.get 2 = some (.cells (cW q) .rw)) (k : x.get 8 = some (.loop 0 none 32 T0 [17, 18] dAsg dBody 7)) => (X.Y [.int .i64 (p : Int), .bool true] x).trans (dBody_true Q' n' 8 2 T0 p q 0 hp hqm x hT (by omega) k2 k)
  simp (config := {maxSteps := 1000000}) (disch := first | omega | (simp only [List.length_cons, List.length_nil, List.length_append, List.length_drop, w_len]; omega) | (simp only [h_put_get, s_bump_get, b8, n8, b2, n2, Nat.reduceEqDiff, decide_false, iteN_false])) only [qLoop, t0, t1, t2, t3, t5, b2, b3, b4, b5, b6, b7, b8, c1, q1, q2, q3, q4, q4', q5, q7, q8, hL, hS, hF, w_load, w_store, w_stW, w_write', w_write, s_callVy, eR, b_or64, b_and641, n2, n3, n4, n5, n6, n7, n8, ↓s_nilchk, x_nilchk, v_beqp, Nat.mul_one, Nat.mul_zero, Nat.zero_mul, ↓s_evD, ↓s_dnil, ↓s_dL, ↓s_dLg, ↓s_dR, ↓s_dRg, ↓s_dRj, ↓s_dRjg, ↓s_dB, ↓s_dBg, ↓s_dAlloc, ↓s_bindD, s_bindD, s_finD, s_finDx, s_addP0, s_addP1, s_addB, s_lookP, ↓s_bump0, ↓s_bump_get, s_bump_next, s_ok0, ↓s_ok1, s_okR0, ↓s_okR1, ↓s_okE, s_okE, s_okE1, s_nth0, s_nthS, Nat.add_zero, Bool.and_self, Bool.and_true, Bool.true_and, ↓l_loop, ↓l_succ, ↓l_normal, l_normal, l_exit, l_ret, l_iteN, ↓h_put_get, ↓h_new_get, ↓h_del_get, h_next_put, h_next_new, h_next_del, Nat.add_assoc, Nat.add_eq_left, Nat.left_eq_add, Nat.add_left_cancel_iff, ↓s_load, m_load, ↓m_load1, m_load1, ↓m_st, m_stE, m_storeI, m_storeE, w_succ, ↓s_alloc, ↓x_idxA, ↓x_idxS, x_idxAE, x_idxSE, x_addrE, x_idx, x_lenS, ↓s_len, ↓x_buildS, x_buildE, ↓x_P0, ↓x_P1, x_fill0, x_filli, x_fills, x_fillb, c_int, List.length_cons, List.length_nil, List.cons_append, List.drop_succ_cons, List.drop_zero, List.drop_nil, List.nil_append, Int.reduceAdd, Int.reduceToNat, Int.reduceLT, Int.reduceLE, Nat.reduceAdd, Nat.reduceMul, Nat.reduceLeDiff, Int.reduceEq, Int.reduceSub, Int.cast_ofNat_Int, s_resc, s_consR, m_load4, m_store4, s_res0, ↓s_skip, ↓s_ops, ↓s_dops, ↓s_seq, ↓s_cond, ↓s_block, ↓s_exit, ↓s_ret, ↓s_scope, ↓s_nil, ↓s_op, ↓s_opg, ↓s_wanted', ↓s_wantV, s_wantV, s_wantV0, beq_true, beq_false, ↓s_bindS, s_bindS, ↓s_bindE, s_bindE, s_bindE_ret, s_bindE_exit, s_bindE_iteN, s_norm, ↓s_condV, s_condV, s_block_ret, s_block_normal, s_block_exit, s_block_iteN, ↓s_getp, ↓s_getp0, ↓s_get, s_get0, ↓s_con, ↓s_fn, ↓s_os0, ↓s_os1, ↓s_list0, ↓s_list1, ↓s_mov, ↓s_pick, ↓s_pickE, s_pickE, ↓s_bin, ↓s_un, ↓s_minmax, ↓s_call, ↓s_callv, ↓s_callV, ↓s_ext, s_same, b_eql, b_neq, b_lss, b_leq, b_gtr, b_geq, b_add, b_sub, b_mul, b_eqlb, b_neqb, b_fnil, b_fnil', b_fnil2, b_fnil2', u_neg, u_not, m_two, s_end, s_end', s_end_iteN, s_res0, s_res1, s_tup1, s_tup2, ↓iteN_true, ↓iteN_false, iteN_true, iteN_false, Nat.zero_add, List.nil_append, List.append_nil, Nat.reduceEqDiff, reduceIte, decide_true, decide_false, Bool.not_true, Bool.not_false, List.getElem?_cons_zero, List.getElem?_cons_succ, Bool.false_eq_true, if_true, if_false, beq_self_eq_true]
  exact ⟨_, _, rfl, ⟨by simp only [s_getp, s_getp0, Nat.reduceEqDiff, decide_false, decide_true, iteN_false, iteN_true, hw, t0, t1, t2, t3, t5, h_put_get, s_bump_get, b2, b3, b4, b5, b6, b7, b8, n2, n3, n4, n5, n6, n7, n8, eR', eDD, L.2], by simp only [s_getp, s_getp0, Nat.reduceEqDiff, decide_false, decide_true, iteN_false, iteN_true, hw, t0, t1, t2, t3, t5, h_put_get, s_bump_get, b2, b3, b4, b5, b6, b7, b8, n2, n3, n4, n5, n6, n7, n8, eR', eDD, L.2], by simp only [s_getp, s_getp0, Nat.reduceEqDiff, decide_false, decide_true, iteN_false, iteN_true, hw, t0, t1, t2, t3, t5, h_put_get, s_bump_get, b2, b3, b4, b5, b6, b7, b8, n2, n3, n4, n5, n6, n7, n8, eR', eDD, L.2], by simp only [s_getp, s_getp0, Nat.reduceEqDiff, decide_false, decide_true, iteN_false, iteN_true, hw, t0, t1, t2, t3, t5, h_put_get, s_bump_get, b2, b3, b4, b5, b6, b7, b8, n2, n3, n4, n5, n6, n7, n8, eR', eDD, L.2], by simp only [s_getp, s_getp0, Nat.reduceEqDiff, decide_false, decide_true, iteN_false, iteN_true, hw, t0, t1, t2, t3, t5, h_put_get, s_bump_get, b2, b3, b4, b5, b6, b7, b8, n2, n3, n4, n5, n6, n7, n8, eR', eDD, L.2], by simp only [h_next_put, s_bump_next]; omega, by simp only [s_getp, s_getp0, Nat.reduceEqDiff, decide_false, decide_true, iteN_false, iteN_true, hw, t0, t1, t2, t3, t5, h_put_get, s_bump_get, b2, b3, b4, b5, b6, b7, b8, n2, n3, n4, n5, n6, n7, n8, eR', eDD, L.2], by simp only [s_getp, s_getp0, Nat.reduceEqDiff, decide_false, decide_true, iteN_false, iteN_true, hw, t0, t1, t2, t3, t5, h_put_get, s_bump_get, b2, b3, b4, b5, b6, b7, b8, n2, n3, n4, n5, n6, n7, n8, eR', eDD, L.2], by simp only [s_getp, s_getp0, Nat.reduceEqDiff, decide_false, decide_true, iteN_false, iteN_true, hw, t0, t1, t2, t3, t5, h_put_get, s_bump_get, b2, b3, b4, b5, b6, b7, b8, n2, n3, n4, n5, n6, n7, n8, eR', eDD, L.2], by simp only [s_getp, s_getp0, Nat.reduceEqDiff, decide_false, decide_true, iteN_false, iteN_true, hw, t0, t1, t2, t3, t5, h_put_get, s_bump_get, b2, b3, b4, b5, b6, b7, b8, n2, n3, n4, n5, n6, n7, n8, eR', eDD, L.2], by simp only [s_getp, s_getp0, Nat.reduceEqDiff, decide_false, decide_true, iteN_false, iteN_true, hw, t0, t1, t2, t3, t5, h_put_get, s_bump_get, b2, b3, b4, b5, b6, b7, b8, n2, n3, n4, n5, n6, n7, n8, eR', eDD, L.2], by simp only [s_getp, s_getp0, Nat.reduceEqDiff, decide_false, decide_true, iteN_false, iteN_true, hw, t0, t1, t2, t3, t5, h_put_get, s_bump_get, b2, b3, b4, b5, b6, b7, b8, n2, n3, n4, n5, n6, n7, n8, eR', eDD, L.2], by simp only [s_getp, s_getp0, Nat.reduceEqDiff, decide_false, decide_true, iteN_false, iteN_true, hw, t0, t1, t2, t3, t5, h_put_get, s_bump_get, b2, b3, b4, b5, b6, b7, b8, n2, n3, n4, n5, n6, n7, n8, eR', eDD, L.2]⟩⟩
theorem q_last {Q : Orc} (n a b : Nat) (T0 T : Tr V) (h : H) (I : DI a b 0 T0 T h) : ∃ T' h', evC Q 55 n none qLoop ⟨T, [], h⟩ = some (.exit 0, ⟨T', [], h'⟩) ∧ DI a b 0 T0 T' h' := by
  obtain ⟨t0, t1, t2, t3, t5, nx, b2, b3, b4, b5, b6, b7, b8⟩ := I
  have c1 : decide ((0 : Int) ≤ ((0 : Nat) : Int) - 1) = false := rfl
  simp (config := {maxSteps := 1000000}) (disch := first | omega | (simp only [List.length_cons, List.length_nil, List.length_append, List.length_drop]; omega)) only [qLoop, t5, c1, ↓s_skip, ↓s_ops, ↓s_dops, ↓s_seq, ↓s_cond, ↓s_block, ↓s_exit, ↓s_ret, ↓s_scope, ↓s_nil, ↓s_op, ↓s_opg, ↓s_wanted', ↓s_wantV, s_wantV, s_wantV0, beq_true, beq_false, ↓s_bindS, s_bindS, ↓s_bindE, s_bindE, s_bindE_ret, s_bindE_exit, s_bindE_iteN, s_norm, ↓s_condV, s_condV, s_block_ret, s_block_normal, s_block_exit, s_block_iteN, ↓s_getp, ↓s_getp0, ↓s_get, s_get0, ↓s_con, ↓s_fn, ↓s_os0, ↓s_os1, ↓s_list0, ↓s_list1, ↓s_mov, ↓s_pick, ↓s_pickE, s_pickE, ↓s_bin, ↓s_un, ↓s_minmax, ↓s_call, ↓s_callv, ↓s_callV, ↓s_ext, s_same, b_eql, b_neq, b_lss, b_leq, b_gtr, b_geq, b_add, b_sub, b_mul, b_eqlb, b_neqb, b_fnil, b_fnil', b_fnil2, b_fnil2', u_neg, u_not, m_two, s_end, s_end', s_end_iteN, s_res0, s_res1, s_tup1, s_tup2, ↓iteN_true, ↓iteN_false, iteN_true, iteN_false, Nat.zero_add, List.nil_append, List.append_nil, Nat.reduceEqDiff, reduceIte, decide_true, decide_false, Bool.not_true, Bool.not_false, List.getElem?_cons_zero, List.getElem?_cons_succ, Bool.false_eq_true, if_true, if_false, beq_self_eq_true]
  exact ⟨_, _, rfl, ⟨by simp only [s_getp, Nat.reduceEqDiff, decide_false, iteN_false, t0], by simp only [s_getp, Nat.reduceEqDiff, decide_false, iteN_false, t1], by simp only [s_getp, Nat.reduceEqDiff, decide_false, iteN_false, t2], by simp only [s_getp, Nat.reduceEqDiff, decide_false, iteN_false, t3], by simp only [s_getp, Nat.reduceEqDiff, decide_false, iteN_false, t5], nx, b2, b3, b4, b5, b6, b7, b8⟩⟩
theorem q_loop {Q Q' : Orc} {n' : Nat} (X : DQ Q Q' n') (n a b : Nat) (ha : a < 115792089237316195423570985008687907853269984665640564039457584007913129639936) (hb0 : 0 < b) (hbM : b < 115792089237316195423570985008687907853269984665640564039457584007913129639936) (T0 : Tr V) (hT : evO T0 (.t 4) = .ptr (some (2, 0))) :
    ∀ (m : Nat), m ≤ 256 → ∀ (k : Nat), m < k → ∀ (T : Tr V) (h : H), DI a b m T0 T h → ∃ T' h', loopN (evC Q 55 n none qLoop) k ⟨T, [], h⟩ = some (.exit 0, ⟨T', [], h'⟩) ∧ DI a b 0 T0 T' h' := by
  intro m
  induction m with
  | zero =>
    intro _ k hk T h I
    obtain ⟨k, rfl⟩ : ∃ j, k = j + 1 := ⟨k - 1, by omega⟩
    obtain ⟨T', h', r1, r2⟩ := q_last (Q := Q) n a b T0 T h I
    exact ⟨T', h', by rw [l_succ, r1, l_exit], r2⟩
  | succ p ih =>
    intro hm k hk T h I
    obtain ⟨k, rfl⟩ : ∃ j, k = j + 1 := ⟨k - 1, by omega⟩
    have : ∃ T' h', evC Q 55 n none qLoop ⟨T, [], h⟩ = some (.normal, ⟨T', [], h'⟩) ∧ DI a b p T0 T' h' := by
      rcases Nat.lt_or_ge (2 * rOf a b (p + 1) + a / 2 ^ p % 2) b with hR | hR
      · exact q_round_lo X n a b p ha hb0 hbM (by omega) T0 hT T h I hR
      · exact q_round_hi X n a b p ha hb0 hbM (by omega) T0 hT T h I hR
    obtain ⟨T1, h1, r1, r2⟩ := this
    obtain ⟨T2, h2, r3, r4⟩ := ih (by omega) k (by omega) T1 h1 r2
    exact ⟨T2, h2, by rw [l_succ, r1, l_normal]; exact r3, r4⟩
end Go.Eng
namespace Go.Eng
open Go
variable {E : Nat → Option Fn}
set_option linter.unusedSimpArgs false
set_option linter.unusedVariables false
/-- how many bits a number has -/
def blen (x : Nat) : Nat := if x = 0 then 0 else Nat.log2 x + 1
theorem blen_of {x n : Nat} (h1 : 2 ^ n ≤ x) (h2 : x < 2 ^ (n + 1)) : blen x = n + 1 := by
  have h0 : x ≠ 0 := by have := Nat.two_pow_pos n; omega
  unfold blen
  rw [if_neg h0]
  congr 1
  have a := (Nat.log2_lt h0).2 h2
  have b := (Nat.le_log2 h0).2 h1
  omega
theorem blen_pos {x : Nat} (h0 : x ≠ 0) : ∃ n, blen x = n + 1 ∧ 2 ^ n ≤ x ∧ x < 2 ^ (n + 1) := by
  refine ⟨Nat.log2 x, by unfold blen; rw [if_neg h0], Nat.log2_self_le h0, Nat.lt_log2_self⟩
theorem blen_shr (x k : Nat) (h : x >>> k ≠ 0) : blen x = k + blen (x >>> k) := by
  obtain ⟨n, e, h1, h2⟩ := blen_pos h
  rw [e]
  rw [Nat.shiftRight_eq_div_pow] at h1 h2
  have a1 : 2 ^ (k + n) ≤ x := by
    rw [Nat.pow_add, Nat.mul_comm]
    exact (Nat.le_div_iff_mul_le (Nat.two_pow_pos k)).1 h1
  have a2 : x < 2 ^ (k + n + 1) := by
    rw [Nat.add_assoc, Nat.pow_add, Nat.mul_comm]
    exact (Nat.div_lt_iff_lt_mul (Nat.two_pow_pos k)).1 h2
  rw [blen_of a1 a2]; omega
theorem blen_le {x n : Nat} (h : x < 2 ^ n) : blen x ≤ n := by
  by_cases h0 : x = 0
  · subst h0; simp [blen]
  · unfold blen; rw [if_neg h0]; have := (Nat.log2_lt h0).2 h; omega
theorem blen_lt (x : Nat) : x < 2 ^ blen x := by
  by_cases h0 : x = 0
  · subst h0; simp [blen]
  · unfold blen; rw [if_neg h0]; exact Nat.lt_log2_self
theorem tab_get : ∀ w : Nat, w < 256 → lenTab[w]? = some (blen w) := by decide +kernel
def idxStrE (x i : V) (h : H) : Option (V × H) := match x, i with
  | .str s, .int _ (.ofNat j) => match s[j]? with | some c => some (.int .u8 (.ofNat c), h) | none => none
  | _, _ => none
theorem s_idxStr (Q : Orc) (T : Tr V) (h : H) (x i : O) : Eng.step (.idxStr x i) Q T h = idxStrE (evO T x) (evO T i) h := _root_.id rfl
theorem s_tab (w : Nat) (hw : w < 256) (k : IntKind) (h : H) : idxStrE (.str lenTab) (.int k (w : Int)) h = some (.int .u8 (blen w : Int), h) := by
  show (match lenTab[w]? with | some c => some (V.int .u8 (.ofNat c), h) | none => none) = _
  rw [tab_get w hw]; rfl
theorem shr_lt {x : Nat} (k n : Nat) (h : x < 2 ^ (k + n)) : x >>> k < 2 ^ n := by
  rw [Nat.shiftRight_eq_div_pow]
  exact Nat.div_lt_of_lt_mul (by rw [← Nat.pow_add]; exact h)
theorem b_shr64u (e : EqK) (h : H) (a m : Nat) (hm : m ≤ 64) : binV .shr e h (.int .u64 (a : Int)) (.int .u64 (m : Int)) = some (.int .u64 ((a >>> m : Nat) : Int)) := by
  have e1 : binV .shr e h (.int .u64 (a : Int)) (.int .u64 (m : Int)) = some (.int .u64 (.ofNat (a / 2 ^ (bif Nat.ble m 64 then m else 64)))) := rfl
  rw [e1, show Nat.ble m 64 = true from by simpa using (by omega : m ≤ 64)]
  simp only [_root_.cond_true, Nat.shiftRight_eq_div_pow]; rfl
set_option maxRecDepth 100000 in
theorem sp_Len64 (e : E k_math_bits_Len64 = some f_math_bits_Len64) (n : Nat) (x : Nat) (hx : x < 18446744073709551616) (h : H) : callN E (n + 1) (.fn k_math_bits_Len64) [.int .u64 (x : Int)] h = some (.int .i64 (blen x : Int), h) := by
  have s32 : ∀ e h (a : Nat), binV .shr e h (.int .u64 (a : Int)) (.int .u64 32) = some (.int .u64 ((a >>> 32 : Nat) : Int)) := fun e h a => b_shr64u e h a 32 (by omega)
  have s16 : ∀ e h (a : Nat), binV .shr e h (.int .u64 (a : Int)) (.int .u64 16) = some (.int .u64 ((a >>> 16 : Nat) : Int)) := fun e h a => b_shr64u e h a 16 (by omega)
  have s8 : ∀ e h (a : Nat), binV .shr e h (.int .u64 (a : Int)) (.int .u64 8) = some (.int .u64 ((a >>> 8 : Nat) : Int)) := fun e h a => b_shr64u e h a 8 (by omega)
  rw [s_cfn e _ _ (Nat.le_of_ble_eq_true rfl)]
  obtain ⟨c1, hc1⟩ : ∃ c, decide ((4294967296 : Int) ≤ (x : Int)) = c := ⟨_, rfl⟩
  obtain ⟨y, hy⟩ : ∃ y, (if c1 then x >>> 32 else x) = y := ⟨_, rfl⟩
  obtain ⟨c2, hc2⟩ : ∃ c, decide ((65536 : Int) ≤ (y : Int)) = c := ⟨_, rfl⟩
  obtain ⟨z, hz⟩ : ∃ z, (if c2 then y >>> 16 else y) = z := ⟨_, rfl⟩
  obtain ⟨c3, hc3⟩ : ∃ c, decide ((256 : Int) ≤ (z : Int)) = c := ⟨_, rfl⟩
  obtain ⟨w, hw⟩ : ∃ w, (if c3 then z >>> 8 else z) = w := ⟨_, rfl⟩
  have y32 : y < 2 ^ 32 := by
    cases c1
    · simp only [decide_eq_false_iff_not, Int.not_le] at hc1; rw [← hy]; simp only [Bool.false_eq_true, if_false]; omega
    · rw [← hy]; simp only [if_true]; exact shr_lt 32 32 hx
  have z16 : z < 2 ^ 16 := by
    cases c2
    · simp only [decide_eq_false_iff_not, Int.not_le] at hc2; rw [← hz]; simp only [Bool.false_eq_true, if_false]; omega
    · rw [← hz]; simp only [if_true]; exact shr_lt 16 16 y32
  have w8 : w < 256 := by
    cases c3
    · simp only [decide_eq_false_iff_not, Int.not_le] at hc3; rw [← hw]; simp only [Bool.false_eq_true, if_false]; omega
    · rw [← hw]; simp only [if_true]; exact shr_lt 8 8 z16
  have ex : blen x = (if c1 then 32 else 0) + ((if c2 then 16 else 0) + ((if c3 then 8 else 0) + blen w)) := by
    have e3 : blen z = (if c3 then 8 else 0) + blen w := by
      cases c3
      · rw [← hw]; simp
      · rw [← hw]; simp only [if_true]; simp only [decide_eq_true_eq] at hc3; exact blen_shr z 8 (by rw [Nat.shiftRight_eq_div_pow]; omega)
    have e2 : blen y = (if c2 then 16 else 0) + blen z := by
      cases c2
      · rw [← hz]; simp
      · rw [← hz]; simp only [if_true]; simp only [decide_eq_true_eq] at hc2; exact blen_shr y 16 (by rw [Nat.shiftRight_eq_div_pow]; omega)
    have e1 : blen x = (if c1 then 32 else 0) + blen y := by
      cases c1
      · rw [← hy]; simp
      · rw [← hy]; simp only [if_true]; simp only [decide_eq_true_eq] at hc1; exact blen_shr x 32 (by rw [Nat.shiftRight_eq_div_pow]; omega)
    rw [e1, e2, e3]
  have bw : blen w ≤ 8 := blen_le w8
  have wu : wr .u8 (w : Int) = (w : Int) := wr_u8 (by omega)
  have st := s_tab w w8
  rw [ex]
  cases c1 <;> cases c2 <;> cases c3 <;> simp only [if_true, if_false, Bool.false_eq_true] at hy hz hw <;> (try subst hy) <;> (try subst hz) <;> (try subst hw) <;>
    simp (config := {maxSteps := 1000000}) (disch := first | omega | (simp only [List.length_cons, List.length_nil, List.length_append, List.length_drop]; omega)) only [s32, s16, s8, hc1, hc2, hc3, wu, st, ↓s_idxStr, ↓x_conv, x_convV, wr_i64, ↓s_skip, ↓s_ops, ↓s_dops, ↓s_seq, ↓s_cond, ↓s_block, ↓s_exit, ↓s_ret, ↓s_scope, ↓s_nil, ↓s_op, ↓s_opg, ↓s_wanted', ↓s_wantV, s_wantV, s_wantV0, beq_true, beq_false, ↓s_bindS, s_bindS, ↓s_bindE, s_bindE, s_bindE_ret, s_bindE_exit, s_bindE_iteN, s_norm, ↓s_condV, s_condV, s_block_ret, s_block_normal, s_block_exit, s_block_iteN, ↓s_getp, ↓s_getp0, ↓s_get, s_get0, ↓s_con, ↓s_fn, ↓s_os0, ↓s_os1, ↓s_list0, ↓s_list1, ↓s_mov, ↓s_pick, ↓s_pickE, s_pickE, ↓s_bin, ↓s_un, ↓s_minmax, ↓s_call, ↓s_callv, ↓s_callV, ↓s_ext, s_same, b_eql, b_neq, b_lss, b_leq, b_gtr, b_geq, b_add, b_sub, b_mul, b_eqlb, b_neqb, b_fnil, b_fnil', b_fnil2, b_fnil2', u_neg, u_not, m_two, s_end, s_end', s_end_iteN, s_res0, s_res1, s_tup1, s_tup2, ↓iteN_true, ↓iteN_false, iteN_true, iteN_false, Nat.zero_add, List.nil_append, List.append_nil, Nat.reduceEqDiff, reduceIte, decide_true, decide_false, Bool.not_true, Bool.not_false, List.getElem?_cons_zero, List.getElem?_cons_succ, Bool.false_eq_true, if_true, if_false, beq_self_eq_true, Int.natCast_add] <;> (try rfl) <;> (congr 3 <;> omega)
end Go.Eng
namespace Go.Eng
open Go
variable {E : Nat → Option Fn}
set_option linter.unusedSimpArgs false
set_option linter.unusedVariables false
theorem len_round {Q : Orc} (hQ : ∀ (x : Nat) (h : H), x < 18446744073709551616 → Q (.fn k_math_bits_Len64) [.int .u64 (x : Int)] h = some (.int .i64 (blen x : Int), h)) (n x i L b : Nat) (hi : i < 4) (T : Tr V) (h : H) (t1 : evO T (.t 1) = .ptr (some (b, 0))) (t3 : evO T (.t 3) = .int .i64 (L : Int)) (t5 : evO T (.t 5) = .int .i64 (i : Int)) (hb : h.get b = some (.cells (cW x) .rw)) :
    ∃ T', evC Q 21 n none lenLoop ⟨T, [], h⟩ = some (.normal, ⟨T', [], h⟩) ∧ evO T' (.t 1) = .ptr (some (b, 0)) ∧ evO T' (.t 3) = .int .i64 ((if lb x i = 0 then L else 64 * i + blen (lb x i) : Nat) : Int) ∧ evO T' (.t 5) = .int .i64 ((i + 1 : Nat) : Int) := by
  have q4 : (cW x)[i]? = some (.int .u64 (lb x i : Int)) := cW_get x _ hi
  have c1 : decide ((i : Int) < 4) = true := decide_eq_true (by omega)
  have hl := hQ (lb x i) h (lb_lt x i)
  have bl : blen (lb x i) ≤ 64 := blen_le (lb_lt x i)
  by_cases h0 : lb x i = 0
  · have c2 : decide ((lb x i : Int) = 0) = true := decide_eq_true (by omega)
    rw [if_pos h0]
    simp (config := {maxSteps := 1000000}) (disch := first | omega | (simp only [List.length_cons, List.length_nil, List.length_append, List.length_drop]; omega)) only [lenLoop, t1, t3, t5, hb, q4, c1, c2, Int.toNat_natCast, Nat.mul_one, wr_i64, ↓l_loop, ↓l_succ, ↓l_normal, l_normal, l_exit, l_ret, l_iteN, ↓h_put_get, ↓h_new_get, ↓h_del_get, h_next_put, h_next_new, h_next_del, Nat.add_assoc, Nat.add_eq_left, Nat.left_eq_add, Nat.add_left_cancel_iff, ↓s_load, m_load, ↓m_load1, m_load1, ↓m_st, m_stE, m_storeI, m_storeE, w_zero, w_succ, ↓s_alloc, ↓x_idxA, ↓x_idxS, x_idxAE, x_idxSE, x_addrE, x_idx, x_lenS, ↓s_len, ↓x_buildS, x_buildE, ↓x_P0, ↓x_P1, x_fill0, x_filli, x_fills, x_fillb, c_int, List.length_cons, List.length_nil, List.cons_append, List.drop_succ_cons, List.drop_zero, List.drop_nil, List.nil_append, Int.reduceAdd, Int.reduceToNat, Int.reduceLT, Int.reduceLE, Nat.reduceAdd, Nat.reduceMul, Nat.reduceLeDiff, Int.reduceEq, Int.reduceSub, Int.cast_ofNat_Int, s_resc, s_consR, m_load4, m_store4, s_res0, ↓s_skip, ↓s_ops, ↓s_dops, ↓s_seq, ↓s_cond, ↓s_block, ↓s_exit, ↓s_ret, ↓s_scope, ↓s_nil, ↓s_op, ↓s_opg, ↓s_wanted', ↓s_wantV, s_wantV, s_wantV0, beq_true, beq_false, ↓s_bindS, s_bindS, ↓s_bindE, s_bindE, s_bindE_ret, s_bindE_exit, s_bindE_iteN, s_norm, ↓s_condV, s_condV, s_block_ret, s_block_normal, s_block_exit, s_block_iteN, ↓s_getp, ↓s_getp0, ↓s_get, s_get0, ↓s_con, ↓s_fn, ↓s_os0, ↓s_os1, ↓s_list0, ↓s_list1, ↓s_mov, ↓s_pick, ↓s_pickE, s_pickE, ↓s_bin, ↓s_un, ↓s_minmax, ↓s_call, ↓s_callv, ↓s_callV, ↓s_ext, s_same, b_eql, b_neq, b_lss, b_leq, b_gtr, b_geq, b_add, b_sub, b_mul, b_eqlb, b_neqb, b_fnil, b_fnil', b_fnil2, b_fnil2', u_neg, u_not, m_two, s_end, s_end', s_end_iteN, s_res0, s_res1, s_tup1, s_tup2, ↓iteN_true, ↓iteN_false, iteN_true, iteN_false, Nat.zero_add, List.nil_append, List.append_nil, Nat.reduceEqDiff, reduceIte, decide_true, decide_false, Bool.not_true, Bool.not_false, List.getElem?_cons_zero, List.getElem?_cons_succ, Bool.false_eq_true, if_true, if_false, beq_self_eq_true]
    exact ⟨_, rfl, by simp only [s_getp, Nat.reduceEqDiff, decide_false, decide_true, iteN_false, iteN_true, t1], by simp only [s_getp, Nat.reduceEqDiff, decide_false, decide_true, iteN_false, iteN_true, t3], by simp only [s_getp, Nat.reduceEqDiff, decide_false, decide_true, iteN_false, iteN_true]; rfl⟩
  · have c2 : decide ((lb x i : Int) = 0) = false := decide_eq_false (by omega)
    rw [if_neg h0]
    simp (config := {maxSteps := 1000000}) (disch := first | omega | (simp only [List.length_cons, List.length_nil, List.length_append, List.length_drop]; omega)) only [lenLoop, t1, t3, t5, hb, q4, c1, c2, hl, Int.toNat_natCast, Nat.mul_one, wr_i64, ↓l_loop, ↓l_succ, ↓l_normal, l_normal, l_exit, l_ret, l_iteN, ↓h_put_get, ↓h_new_get, ↓h_del_get, h_next_put, h_next_new, h_next_del, Nat.add_assoc, Nat.add_eq_left, Nat.left_eq_add, Nat.add_left_cancel_iff, ↓s_load, m_load, ↓m_load1, m_load1, ↓m_st, m_stE, m_storeI, m_storeE, w_zero, w_succ, ↓s_alloc, ↓x_idxA, ↓x_idxS, x_idxAE, x_idxSE, x_addrE, x_idx, x_lenS, ↓s_len, ↓x_buildS, x_buildE, ↓x_P0, ↓x_P1, x_fill0, x_filli, x_fills, x_fillb, c_int, List.length_cons, List.length_nil, List.cons_append, List.drop_succ_cons, List.drop_zero, List.drop_nil, List.nil_append, Int.reduceAdd, Int.reduceToNat, Int.reduceLT, Int.reduceLE, Nat.reduceAdd, Nat.reduceMul, Nat.reduceLeDiff, Int.reduceEq, Int.reduceSub, Int.cast_ofNat_Int, s_resc, s_consR, m_load4, m_store4, s_res0, ↓s_skip, ↓s_ops, ↓s_dops, ↓s_seq, ↓s_cond, ↓s_block, ↓s_exit, ↓s_ret, ↓s_scope, ↓s_nil, ↓s_op, ↓s_opg, ↓s_wanted', ↓s_wantV, s_wantV, s_wantV0, beq_true, beq_false, ↓s_bindS, s_bindS, ↓s_bindE, s_bindE, s_bindE_ret, s_bindE_exit, s_bindE_iteN, s_norm, ↓s_condV, s_condV, s_block_ret, s_block_normal, s_block_exit, s_block_iteN, ↓s_getp, ↓s_getp0, ↓s_get, s_get0, ↓s_con, ↓s_fn, ↓s_os0, ↓s_os1, ↓s_list0, ↓s_list1, ↓s_mov, ↓s_pick, ↓s_pickE, s_pickE, ↓s_bin, ↓s_un, ↓s_minmax, ↓s_call, ↓s_callv, ↓s_callV, ↓s_ext, s_same, b_eql, b_neq, b_lss, b_leq, b_gtr, b_geq, b_add, b_sub, b_mul, b_eqlb, b_neqb, b_fnil, b_fnil', b_fnil2, b_fnil2', u_neg, u_not, m_two, s_end, s_end', s_end_iteN, s_res0, s_res1, s_tup1, s_tup2, ↓iteN_true, ↓iteN_false, iteN_true, iteN_false, Nat.zero_add, List.nil_append, List.append_nil, Nat.reduceEqDiff, reduceIte, decide_true, decide_false, Bool.not_true, Bool.not_false, List.getElem?_cons_zero, List.getElem?_cons_succ, Bool.false_eq_true, if_true, if_false, beq_self_eq_true]
    exact ⟨_, rfl, by simp only [s_getp, Nat.reduceEqDiff, decide_false, decide_true, iteN_false, iteN_true, t1], by simp only [s_getp, Nat.reduceEqDiff, decide_false, decide_true, iteN_false, iteN_true]; congr 1; omega, by simp only [s_getp, Nat.reduceEqDiff, decide_false, decide_true, iteN_false, iteN_true]; rfl⟩
theorem len_last {Q : Orc} (n : Nat) (T : Tr V) (h : H) (t5 : evO T (.t 5) = .int .i64 ((4 : Nat) : Int)) (L : V) (t3 : evO T (.t 3) = L) :
    ∃ T', evC Q 21 n none lenLoop ⟨T, [], h⟩ = some (.exit 0, ⟨T', [], h⟩) ∧ evO T' (.t 3) = L := by
  have c1 : decide (((4 : Nat) : Int) < 4) = false := rfl
  simp (config := {maxSteps := 1000000}) (disch := first | omega | (simp only [List.length_cons, List.length_nil, List.length_append, List.length_drop]; omega)) only [lenLoop, t5, c1, ↓s_skip, ↓s_ops, ↓s_dops, ↓s_seq, ↓s_cond, ↓s_block, ↓s_exit, ↓s_ret, ↓s_scope, ↓s_nil, ↓s_op, ↓s_opg, ↓s_wanted', ↓s_wantV, s_wantV, s_wantV0, beq_true, beq_false, ↓s_bindS, s_bindS, ↓s_bindE, s_bindE, s_bindE_ret, s_bindE_exit, s_bindE_iteN, s_norm, ↓s_condV, s_condV, s_block_ret, s_block_normal, s_block_exit, s_block_iteN, ↓s_getp, ↓s_getp0, ↓s_get, s_get0, ↓s_con, ↓s_fn, ↓s_os0, ↓s_os1, ↓s_list0, ↓s_list1, ↓s_mov, ↓s_pick, ↓s_pickE, s_pickE, ↓s_bin, ↓s_un, ↓s_minmax, ↓s_call, ↓s_callv, ↓s_callV, ↓s_ext, s_same, b_eql, b_neq, b_lss, b_leq, b_gtr, b_geq, b_add, b_sub, b_mul, b_eqlb, b_neqb, b_fnil, b_fnil', b_fnil2, b_fnil2', u_neg, u_not, m_two, s_end, s_end', s_end_iteN, s_res0, s_res1, s_tup1, s_tup2, ↓iteN_true, ↓iteN_false, iteN_true, iteN_false, Nat.zero_add, List.nil_append, List.append_nil, Nat.reduceEqDiff, reduceIte, decide_true, decide_false, Bool.not_true, Bool.not_false, List.getElem?_cons_zero, List.getElem?_cons_succ, Bool.false_eq_true, if_true, if_false, beq_self_eq_true]
  exact ⟨_, rfl, by simp only [s_getp, Nat.reduceEqDiff, decide_false, iteN_false, t3]⟩
theorem blen_words (x : Nat) (hx : x < 115792089237316195423570985008687907853269984665640564039457584007913129639936) :
    (if lb x 3 = 0 then (if lb x 2 = 0 then (if lb x 1 = 0 then (if lb x 0 = 0 then 0 else 64 * 0 + blen (lb x 0)) else 64 * 1 + blen (lb x 1)) else 64 * 2 + blen (lb x 2)) else 64 * 3 + blen (lb x 3)) = blen x := by
  have e : ∀ j, lb x j = x / 2 ^ (64 * j) % 18446744073709551616 := fun j => by unfold lb; rw [Nat.shiftRight_eq_div_pow]
  have key : ∀ j, x / 2 ^ (64 * j) < 18446744073709551616 → lb x j ≠ 0 → 64 * j + blen (lb x j) = blen x := by
    intro j h1 h2
    have e2 : lb x j = x >>> (64 * j) := by rw [e, Nat.shiftRight_eq_div_pow, Nat.mod_eq_of_lt h1]
    rw [e2] at h2 ⊢
    exact (blen_shr x _ h2).symm
  have d1 : x / 2 ^ (64 * 1) = x / 18446744073709551616 := rfl
  have d2 : x / 2 ^ (64 * 2) = x / 18446744073709551616 / 18446744073709551616 := by rw [Nat.div_div_eq_div_mul]
  have d3 : x / 2 ^ (64 * 3) = x / 18446744073709551616 / 18446744073709551616 / 18446744073709551616 := by rw [Nat.div_div_eq_div_mul, Nat.div_div_eq_div_mul]
  have d0 : x / 2 ^ (64 * 0) = x := by rw [show (2 : Nat) ^ (64 * 0) = 1 from rfl, Nat.div_one]
  have f0 := e 0
  have f1 := e 1
  have f2 := e 2
  have f3 := e 3
  rw [d0] at f0
  rw [d1] at f1
  rw [d2] at f2
  rw [d3] at f3
  by_cases h3 : lb x 3 = 0
  · rw [if_pos h3]
    by_cases h2 : lb x 2 = 0
    · rw [if_pos h2]
      by_cases h1 : lb x 1 = 0
      · rw [if_pos h1]
        by_cases h0 : lb x 0 = 0
        · rw [if_pos h0]
          have : x = 0 := by omega
          rw [this]; rfl
        · rw [if_neg h0]; exact key 0 (by rw [d0]; omega) h0
      · rw [if_neg h1]; exact key 1 (by rw [d1]; omega) h1
    · rw [if_neg h2]; exact key 2 (by rw [d2]; omega) h2
  · rw [if_neg h3]; exact key 3 (by rw [d3]; omega) h3
theorem sp_Len (e0 : E k_math_bits_Len64 = some f_math_bits_Len64) (e : E k_wide_Len = some f_wide_Len) (n : Nat) (x : Nat) (hx : x < 115792089237316195423570985008687907853269984665640564039457584007913129639936) (h : H) : ∃ h', callN E (n + 6) (.fn k_wide_Len) [Wd x] h = some (.int .i64 (blen x : Int), h') := by
  rw [s_cfn e _ _ (Nat.le_of_ble_eq_true rfl)]
  have hQ : ∀ (x : Nat) (h : H), x < 18446744073709551616 → callN E (n + 5) (.fn k_math_bits_Len64) [.int .u64 (x : Int)] h = some (.int .i64 (blen x : Int), h) := fun x h hx => sp_Len64 e0 (n + 4) x hx h
  have loop : ∀ (T : Tr V) (h : H) (b : Nat), evO T (.t 1) = .ptr (some (b, 0)) → evO T (.t 3) = .int .i64 0 → evO T (.t 5) = .int .i64 0 → h.get b = some (.cells (cW x) .rw) → ∃ T', loopN (evC (callN E (n + 5)) 21 (n + 5) none lenLoop) (n + 5) ⟨T, [], h⟩ = some (.exit 0, ⟨T', [], h⟩) ∧ evO T' (.t 3) = .int .i64 (blen x : Int) := by
    intro T h b t1 t3 t5 hb
    obtain ⟨T1, a1, a2, a3, a4⟩ := len_round hQ (n + 5) x 0 0 b (by omega) T h t1 t3 t5 hb
    obtain ⟨T2, b1, b2, b3, b4⟩ := len_round hQ (n + 5) x 1 _ b (by omega) T1 h a2 a3 a4 hb
    obtain ⟨T3, c1, c2, c3, c4⟩ := len_round hQ (n + 5) x 2 _ b (by omega) T2 h b2 b3 b4 hb
    obtain ⟨T4, d1, d2, d3, d4⟩ := len_round hQ (n + 5) x 3 _ b (by omega) T3 h c2 c3 c4 hb
    obtain ⟨T5, f1, f2⟩ := len_last (Q := callN E (n + 5)) (n + 5) T4 h d4 _ d3
    refine ⟨T5, ?_, ?_⟩
    · rw [l_succ, a1, l_normal, l_succ, b1, l_normal, l_succ, c1, l_normal, l_succ, d1, l_normal, l_succ, f1, l_exit]
    · rw [f2, blen_words x hx]
  obtain ⟨T', r1, r2⟩ := loop (putT (putT (putT (putT (Tr.set .e 0 (some (Wd x))) (some 1) (.ptr (some (h.next, 0)))) (some 2) (.int .i64 0)) (some 3) (.int .i64 0)) (some 5) (.int .i64 0)) (h.new (.cells (cW x) .rw)) h.next (by simp only [s_getp, Nat.reduceEqDiff, decide_false, decide_true, iteN_false, iteN_true]) (by simp only [s_getp, Nat.reduceEqDiff, decide_false, decide_true, iteN_false, iteN_true]) (by simp only [s_getp, Nat.reduceEqDiff, decide_false, decide_true, iteN_false, iteN_true]) (by rw [H.get_new, if_pos rfl])
  have key : evC (callN E (n + 5)) 21 (n + 5) none (.loop lenLoop) ⟨putT (putT (putT (putT (Tr.set .e 0 (some (Wd x))) (some 1) (.ptr (some (h.next, 0)))) (some 2) (.int .i64 0)) (some 3) (.int .i64 0)) (some 5) (.int .i64 0), [], h.new (.cells (cW x) .rw)⟩ = some (.exit 0, ⟨T', [], h.new (.cells (cW x) .rw)⟩) := by
    rw [s_loop]; exact r1
  unfold lenLoop at key
  simp (config := {maxSteps := 1000000}) (disch := first | omega | (simp only [List.length_cons, List.length_nil, List.length_append, List.length_drop]; omega)) only [↓s_box, w_cells, key, r2, ↓s_skip, ↓s_ops, ↓s_dops, ↓s_seq, ↓s_cond, ↓s_block, ↓s_exit, ↓s_ret, ↓s_scope, ↓s_nil, ↓s_op, ↓s_opg, ↓s_wanted', ↓s_wantV, s_wantV, s_wantV0, beq_true, beq_false, ↓s_bindS, s_bindS, ↓s_bindE, s_bindE, s_bindE_ret, s_bindE_exit, s_bindE_iteN, s_norm, ↓s_condV, s_condV, s_block_ret, s_block_normal, s_block_exit, s_block_iteN, ↓s_getp, ↓s_getp0, ↓s_get, s_get0, ↓s_con, ↓s_fn, ↓s_os0, ↓s_os1, ↓s_list0, ↓s_list1, ↓s_mov, ↓s_pick, ↓s_pickE, s_pickE, ↓s_bin, ↓s_un, ↓s_minmax, ↓s_call, ↓s_callv, ↓s_callV, ↓s_ext, s_same, b_eql, b_neq, b_lss, b_leq, b_gtr, b_geq, b_add, b_sub, b_mul, b_eqlb, b_neqb, b_fnil, b_fnil', b_fnil2, b_fnil2', u_neg, u_not, m_two, s_end, s_end', s_end_iteN, s_res0, s_res1, s_tup1, s_tup2, ↓iteN_true, ↓iteN_false, iteN_true, iteN_false, Nat.zero_add, List.nil_append, List.append_nil, Nat.reduceEqDiff, reduceIte, decide_true, decide_false, Bool.not_true, Bool.not_false, List.getElem?_cons_zero, List.getElem?_cons_succ, Bool.false_eq_true, if_true, if_false, beq_self_eq_true]
  exact ⟨_, rfl⟩
end Go.Eng
namespace Go.Eng
open Go
variable {E : Nat → Option Fn}
set_option linter.unusedSimpArgs false
set_option linter.unusedVariables false
abbrev M256 : Nat := 115792089237316195423570985008687907853269984665640564039457584007913129639936
/-- a function from data to data -/
def pureX (f : Nat) (s : List V → Option V) : Orc := fun t args h => match t with
  | .fn f' => match Nat.beq f' f with
    | true => (match s args with | some v => some (v, h) | none => none)
    | false => none
  | .yld _ => none
theorem pureX_ok {P : Program} {g : Gn} {Q : Orc} (hQ : QOk P g Q) {f : Nat} {s : List V → Option V} (hs : ∀ args v, s args = some v → datas args = true ∧ dataV v = true ∧ ∃ h1, Q (.fn f) args H.empty = some (v, h1)) : QOk P g (pureX f s) := by
  intro t args h v h1 hc
  unfold pureX at hc
  cases t with
  | yld l => cases hc
  | fn f' =>
    simp only at hc
    cases hb : Nat.beq f' f with
    | false => rw [hb] at hc; cases hc
    | true =>
      rw [hb] at hc
      obtain rfl := Nat.eq_of_beq_eq_true hb
      cases hl : s args with
      | none => simp only [hl] at hc; cases hc
      | some v' =>
        simp only [hl] at hc
        cases hc
        obtain ⟨d1, d2, h2, hq⟩ := hs args _ hl
        exact memo_ok hQ d1 d2 hq h
theorem pureX_yes {f : Nat} {s : List V → Option V} {args : List V} {v : V} (h : H) (e : s args = some v) : pureX f s (.fn f) args h = some (v, h) := by
  show (match Nat.beq f f with | true => (match s args with | some v => some (v, h) | none => none) | false => none) = _
  rw [show Nat.beq f f = true from Nat.beq_refl f, e]
theorem pureX_no {f f' : Nat} {s : List V → Option V} {args : List V} (h : H) (e : Nat.beq f' f = false) : pureX f s (.fn f') args h = none := by
  show (match Nat.beq f' f with | true => (match s args with | some v => some (v, h) | none => none) | false => none) = _
  rw [e]
theorem pureX_yld {f l : Nat} {s : List V → Option V} {args : List V} (h : H) : pureX f s (.yld l) args h = none := rfl
theorem orX_l {X Y : Orc} {t : Tgt} {args : List V} {h : H} {r : V × H} (e : X t args h = some r) : orX X Y t args h = some r := by unfold orX; rw [e]
theorem orX_r {X Y : Orc} {t : Tgt} {args : List V} {h : H} (e : X t args h = none) : orX X Y t args h = Y t args h := by unfold orX; rw [e]

/-- the number that a value is -/
def wdOf : V → Option Nat
  | .agg [.int .u64 (.ofNat a), .int .u64 (.ofNat b), .int .u64 (.ofNat c), .int .u64 (.ofNat d)] =>
    match Nat.blt a 18446744073709551616 && (Nat.blt b 18446744073709551616 && (Nat.blt c 18446744073709551616 && Nat.blt d 18446744073709551616)) with
    | true => some (a + 18446744073709551616 * (b + 18446744073709551616 * (c + 18446744073709551616 * d)))
    | false => none
  | _ => none
theorem wdOf_W4 {a b c d : Nat} (ha : a < 18446744073709551616) (hb : b < 18446744073709551616) (hc : c < 18446744073709551616) (hd : d < 18446744073709551616) : wdOf (W4 a b c d) = some (a + 18446744073709551616 * (b + 18446744073709551616 * (c + 18446744073709551616 * d))) := by
  show (match Nat.blt a 18446744073709551616 && (Nat.blt b 18446744073709551616 && (Nat.blt c 18446744073709551616 && Nat.blt d 18446744073709551616)) with | true => some (a + 18446744073709551616 * (b + 18446744073709551616 * (c + 18446744073709551616 * d))) | false => none) = _
  have f : ∀ x, x < 18446744073709551616 → Nat.blt x 18446744073709551616 = true := fun x h => by simpa using h
  rw [f a ha, f b hb, f c hc, f d hd]; rfl
theorem Wd_val {a b c d : Nat} (ha : a < 18446744073709551616) (hb : b < 18446744073709551616) (hc : c < 18446744073709551616) (hd : d < 18446744073709551616) : Wd (a + 18446744073709551616 * (b + 18446744073709551616 * (c + 18446744073709551616 * d))) = W4 a b c d := by
  unfold Wd
  have q0 : (a + 18446744073709551616 * (b + 18446744073709551616 * (c + 18446744073709551616 * d))) / 18446744073709551616 = b + 18446744073709551616 * (c + 18446744073709551616 * d) := by omega
  have q1 : (b + 18446744073709551616 * (c + 18446744073709551616 * d)) / 18446744073709551616 = c + 18446744073709551616 * d := by omega
  have q2 : (c + 18446744073709551616 * d) / 18446744073709551616 = d := by omega
  rw [q0, q1, q2]
  congr 1 <;> omega
theorem wdOf_Wd {x : Nat} (hx : x < M256) : wdOf (Wd x) = some x := by
  unfold M256 at hx
  unfold Wd
  rw [wdOf_W4 (by omega) (by omega) (by omega) (by omega)]
  congr 1; omega
theorem wdOf_some {v : V} {x : Nat} (h : wdOf v = some x) : v = Wd x ∧ x < M256 := by
  unfold wdOf at h
  split at h
  · rename_i a b c d
    split at h
    · rename_i hb
      simp only [Bool.and_eq_true] at hb
      have f : ∀ x, Nat.blt x 18446744073709551616 = true → x < 18446744073709551616 := fun x h => by simpa using h
      have ha := f _ hb.1
      have hb' := f _ hb.2.1
      have hc := f _ hb.2.2.1
      have hd := f _ hb.2.2.2
      cases h
      rw [Wd_val ha hb' hc hd]
      exact ⟨rfl, by unfold M256; omega⟩
    · cases h
  · cases h
/-- a number's value, each word worked out -/
def WdF (s : Nat) : V := force (s % 18446744073709551616) fun a => force (s / 18446744073709551616) fun s1 => force (s1 % 18446744073709551616) fun b => force (s1 / 18446744073709551616) fun s2 => force (s2 % 18446744073709551616) fun c => force (s2 / 18446744073709551616 % 18446744073709551616) fun d =>
  .agg [.int .u64 (.ofNat a), .int .u64 (.ofNat b), .int .u64 (.ofNat c), .int .u64 (.ofNat d)]
theorem WdF_eq (s : Nat) : WdF s = Wd s := by unfold WdF; simp only [force_eq]; rfl
theorem dataV_Wd (x : Nat) : dataV (Wd x) = true := by unfold Wd W4; simp [dataV, datas]

def w1 (k : Nat → V) : List V → Option V
  | [a] => match wdOf a with | some x => some (k x) | none => none
  | _ => none
def w2 (k : Nat → Nat → V) : List V → Option V
  | [a, b] => match wdOf a with | some x => (match wdOf b with | some y => some (k x y) | none => none) | none => none
  | _ => none
def wi (k : Nat → Int → V) : List V → Option V
  | [a, .int .i64 n] => match wdOf a with | some x => some (k x n) | none => none
  | _ => none
theorem w1_Wd (k : Nat → V) {x : Nat} (hx : x < M256) : w1 k [Wd x] = some (k x) := by
  show (match wdOf (Wd x) with | some x => some (k x) | none => none) = _
  rw [wdOf_Wd hx]
theorem w2_Wd (k : Nat → Nat → V) {x y : Nat} (hx : x < M256) (hy : y < M256) : w2 k [Wd x, Wd y] = some (k x y) := by
  show (match wdOf (Wd x) with | some x => (match wdOf (Wd y) with | some y => some (k x y) | none => none) | none => none) = _
  rw [wdOf_Wd hx, wdOf_Wd hy]
theorem wi_Wd (k : Nat → Int → V) {x : Nat} (n : Int) (hx : x < M256) : wi k [Wd x, .int .i64 n] = some (k x n) := by
  show (match wdOf (Wd x) with | some x => some (k x n) | none => none) = _
  rw [wdOf_Wd hx]
theorem w1_ok {Q : Orc} {f : Nat} {k : Nat → V} (hd : ∀ x, dataV (k x) = true) (hq : ∀ x, x < M256 → ∃ h1, Q (.fn f) [Wd x] H.empty = some (k x, h1)) : ∀ args v, w1 k args = some v → datas args = true ∧ dataV v = true ∧ ∃ h1, Q (.fn f) args H.empty = some (v, h1) := by
  intro args v h
  unfold w1 at h
  split at h
  · rename_i a
    cases hx : wdOf a with
    | none => rw [hx] at h; cases h
    | some x =>
      rw [hx] at h
      cases h
      obtain ⟨rfl, h1⟩ := wdOf_some hx
      exact ⟨by simp only [datas, dataV_Wd, Bool.and_self], hd x, hq x h1⟩
  · cases h
theorem w2_ok {Q : Orc} {f : Nat} {k : Nat → Nat → V} (hd : ∀ x y, dataV (k x y) = true) (hq : ∀ x y, x < M256 → y < M256 → ∃ h1, Q (.fn f) [Wd x, Wd y] H.empty = some (k x y, h1)) : ∀ args v, w2 k args = some v → datas args = true ∧ dataV v = true ∧ ∃ h1, Q (.fn f) args H.empty = some (v, h1) := by
  intro args v h
  unfold w2 at h
  split at h
  · rename_i a b
    cases hx : wdOf a with
    | none => rw [hx] at h; cases h
    | some x =>
      rw [hx] at h
      cases hy : wdOf b with
      | none => simp only [hy] at h; cases h
      | some y =>
        simp only [hy] at h
        cases h
        obtain ⟨rfl, h1⟩ := wdOf_some hx
        obtain ⟨rfl, h2⟩ := wdOf_some hy
        exact ⟨by simp only [datas, dataV_Wd, Bool.and_self], hd x y, hq x y h1 h2⟩
  · cases h
theorem wi_ok {Q : Orc} {f : Nat} {k : Nat → Int → V} (hd : ∀ x n, dataV (k x n) = true) (hq : ∀ x n, x < M256 → ∃ h1, Q (.fn f) [Wd x, .int .i64 n] H.empty = some (k x n, h1)) : ∀ args v, wi k args = some v → datas args = true ∧ dataV v = true ∧ ∃ h1, Q (.fn f) args H.empty = some (v, h1) := by
  intro args v h
  unfold wi at h
  split at h
  · rename_i a n
    cases hx : wdOf a with
    | none => rw [hx] at h; cases h
    | some x =>
      rw [hx] at h
      cases h
      obtain ⟨rfl, h1⟩ := wdOf_some hx
      exact ⟨by simp only [datas, dataV_Wd, dataV, Bool.and_self], hd x n, hq x n h1⟩
  · cases h

/-! ### what the functions come to -/
def kAdd (x y : Nat) : V := force (x + y) fun s => .tup [WdF s, .bool (Nat.ble 115792089237316195423570985008687907853269984665640564039457584007913129639936 s)]
def kSub (x y : Nat) : V := .tup [WdF (x + 115792089237316195423570985008687907853269984665640564039457584007913129639936 - y), .bool (Nat.blt x y)]
def kNot (x : Nat) : V := WdF (115792089237316195423570985008687907853269984665640564039457584007913129639936 - 1 - x)
def kMul (x y : Nat) : V := force (x * y) fun p => .tup [WdF (p % 115792089237316195423570985008687907853269984665640564039457584007913129639936), WdF (p / 115792089237316195423570985008687907853269984665640564039457584007913129639936)]
def kCmp (x y : Nat) : V := match Nat.beq x y with
  | true => .int .i64 (.ofNat 0)
  | false => match Nat.blt x y with | true => .int .i64 (.negSucc 0) | false => .int .i64 (.ofNat 1)
def kLeft (x : Nat) : Int → V
  | .ofNat 0 => WdF x
  | .ofNat (n + 1) => match Nat.blt (n + 1) 256 with | true => WdF (Nat.shiftLeft x (n + 1)) | false => WdF 0
  | .negSucc _ => WdF x
def kRight (x : Nat) : Int → V
  | .ofNat 0 => WdF x
  | .ofNat (n + 1) => match Nat.blt (n + 1) 256 with | true => WdF (Nat.shiftRight x (n + 1)) | false => WdF 0
  | .negSucc _ => WdF x
def kLen (x : Nat) : V := force (match x with | 0 => 0 | m + 1 => Nat.log2 (m + 1) + 1) fun n => .int .i64 (.ofNat n)
def shL (x : Nat) (n : Int) : Nat := if n ≤ 0 then x else if 256 ≤ n then 0 else x <<< n.toNat
def shR (x : Nat) (n : Int) : Nat := if n ≤ 0 then x else if 256 ≤ n then 0 else x >>> n.toNat
theorem blt_dec (x y : Nat) : Nat.blt x y = decide (x < y) := by
  by_cases h : x < y
  · rw [decide_eq_true h]; simpa using h
  · rw [decide_eq_false h]
    cases hb : Nat.blt x y with
    | false => rfl
    | true => exact absurd (by simpa using hb) h
theorem ble_dec (x y : Nat) : Nat.ble x y = decide (x ≤ y) := by
  by_cases h : x ≤ y
  · rw [decide_eq_true h]; simpa using h
  · rw [decide_eq_false h]
    cases hb : Nat.ble x y with
    | false => rfl
    | true => exact absurd (by simpa using hb) h
theorem kAdd_eq (x y : Nat) : kAdd x y = .tup [Wd (x + y), .bool (decide (115792089237316195423570985008687907853269984665640564039457584007913129639936 ≤ x + y))] := by
  unfold kAdd; rw [force_eq, WdF_eq, ble_dec]
theorem kSub_eq (x y : Nat) : kSub x y = .tup [Wd (x + 115792089237316195423570985008687907853269984665640564039457584007913129639936 - y), .bool (decide (x < y))] := by
  unfold kSub; rw [WdF_eq, blt_dec]
theorem kNot_eq (x : Nat) : kNot x = Wd (115792089237316195423570985008687907853269984665640564039457584007913129639936 - 1 - x) := by unfold kNot; rw [WdF_eq]
theorem kMul_eq (x y : Nat) : kMul x y = .tup [Wd (x * y % 115792089237316195423570985008687907853269984665640564039457584007913129639936), Wd (x * y / 115792089237316195423570985008687907853269984665640564039457584007913129639936)] := by
  unfold kMul; rw [force_eq, WdF_eq, WdF_eq]
theorem kCmp_eq (x y : Nat) : kCmp x y = .int .i64 (cmpW x y) := by
  unfold kCmp cmpW
  by_cases h : x = y
  · subst h; rw [show Nat.beq x x = true from Nat.beq_refl x, if_pos rfl]; rfl
  · rw [show Nat.beq x y = false from by cases hb : Nat.beq x y with | false => rfl | true => exact absurd (Nat.eq_of_beq_eq_true hb) h, if_neg h, blt_dec]
    by_cases h2 : x < y
    · rw [decide_eq_true h2, if_pos h2]; rfl
    · rw [decide_eq_false h2, if_neg h2]; rfl
theorem kLeft_eq (x : Nat) (n : Int) : kLeft x n = Wd (shL x n) := by
  unfold kLeft shL
  split
  · rw [WdF_eq]; rfl
  · rename_i m
    rw [if_neg (by simp only [Int.ofNat_eq_natCast]; omega), blt_dec]
    by_cases h : m + 1 < 256
    · rw [decide_eq_true h, if_neg (by simp only [Int.ofNat_eq_natCast]; omega)]; exact WdF_eq _
    · rw [decide_eq_false h, if_pos (by simp only [Int.ofNat_eq_natCast]; omega)]; exact WdF_eq _
  · rename_i m
    rw [if_pos (by have := Int.negSucc_lt_zero m; omega), WdF_eq]
theorem kRight_eq (x : Nat) (n : Int) : kRight x n = Wd (shR x n) := by
  unfold kRight shR
  split
  · rw [WdF_eq]; rfl
  · rename_i m
    rw [if_neg (by simp only [Int.ofNat_eq_natCast]; omega), blt_dec]
    by_cases h : m + 1 < 256
    · rw [decide_eq_true h, if_neg (by simp only [Int.ofNat_eq_natCast]; omega)]; exact WdF_eq _
    · rw [decide_eq_false h, if_pos (by simp only [Int.ofNat_eq_natCast]; omega)]; exact WdF_eq _
  · rename_i m
    rw [if_pos (by have := Int.negSucc_lt_zero m; omega), WdF_eq]
theorem kLen_eq (x : Nat) : kLen x = .int .i64 (blen x : Int) := by
  unfold kLen
  rw [force_eq]
  cases x with
  | zero => rfl
  | succ m => unfold blen; rw [if_neg (by omega)]; rfl

/-! ### shifts that shift nothing, or all -/
theorem sp_Left0 (e : E k_wide_Left = some f_wide_Left) (N x : Nat) (n : Int) (hn : n ≤ 0) (h : H) : ∃ h', callN E (N + 7) (.fn k_wide_Left) [Wd x, .int .i64 n] h = some (Wd x, h') := by
  have c1 : decide (n ≤ 0) = true := decide_eq_true hn
  rw [s_cfn e _ _ (Nat.le_of_ble_eq_true rfl)]
  simp (config := {maxSteps := 1000000}) (disch := first | omega | (simp only [List.length_cons, List.length_nil, List.length_append, List.length_drop]; omega)) only [↓s_box, w_cells, w_load, w_store, w_st4, w_stW, w_write, w_write', c1, ↓l_loop, ↓l_succ, ↓l_normal, l_normal, l_exit, l_ret, l_iteN, ↓h_put_get, ↓h_new_get, ↓h_del_get, h_next_put, h_next_new, h_next_del, Nat.add_assoc, Nat.add_eq_left, Nat.left_eq_add, Nat.add_left_cancel_iff, ↓s_load, m_load, ↓m_load1, m_load1, ↓m_st, m_stE, m_storeI, m_storeE, w_zero, w_succ, ↓s_alloc, ↓x_idxA, ↓x_idxS, x_idxAE, x_idxSE, x_addrE, x_idx, x_lenS, ↓s_len, ↓x_buildS, x_buildE, ↓x_P0, ↓x_P1, x_fill0, x_filli, x_fills, x_fillb, c_int, List.length_cons, List.length_nil, List.cons_append, List.drop_succ_cons, List.drop_zero, List.drop_nil, List.nil_append, Int.reduceAdd, Int.reduceToNat, Int.reduceLT, Int.reduceLE, Nat.reduceAdd, Nat.reduceMul, Nat.reduceLeDiff, Int.reduceEq, Int.reduceSub, Int.cast_ofNat_Int, s_resc, s_consR, m_load4, m_store4, s_res0, ↓s_skip, ↓s_ops, ↓s_dops, ↓s_seq, ↓s_cond, ↓s_block, ↓s_exit, ↓s_ret, ↓s_scope, ↓s_nil, ↓s_op, ↓s_opg, ↓s_wanted', ↓s_wantV, s_wantV, s_wantV0, beq_true, beq_false, ↓s_bindS, s_bindS, ↓s_bindE, s_bindE, s_bindE_ret, s_bindE_exit, s_bindE_iteN, s_norm, ↓s_condV, s_condV, s_block_ret, s_block_normal, s_block_exit, s_block_iteN, ↓s_getp, ↓s_getp0, ↓s_get, s_get0, ↓s_con, ↓s_fn, ↓s_os0, ↓s_os1, ↓s_list0, ↓s_list1, ↓s_mov, ↓s_pick, ↓s_pickE, s_pickE, ↓s_bin, ↓s_un, ↓s_minmax, ↓s_call, ↓s_callv, ↓s_callV, ↓s_ext, s_same, b_eql, b_neq, b_lss, b_leq, b_gtr, b_geq, b_add, b_sub, b_mul, b_eqlb, b_neqb, b_fnil, b_fnil', b_fnil2, b_fnil2', u_neg, u_not, m_two, s_end, s_end', s_end_iteN, s_res0, s_res1, s_tup1, s_tup2, ↓iteN_true, ↓iteN_false, iteN_true, iteN_false, Nat.zero_add, List.nil_append, List.append_nil, Nat.reduceEqDiff, reduceIte, decide_true, decide_false, Bool.not_true, Bool.not_false, List.getElem?_cons_zero, List.getElem?_cons_succ, Bool.false_eq_true, if_true, if_false, beq_self_eq_true]
  exact ⟨_, rfl⟩
theorem sp_Left256 (e : E k_wide_Left = some f_wide_Left) (N x : Nat) (n : Int) (hn : 256 ≤ n) (h : H) : ∃ h', callN E (N + 7) (.fn k_wide_Left) [Wd x, .int .i64 n] h = some (Wd 0, h') := by
  have c1 : decide (n ≤ 0) = false := decide_eq_false (by omega)
  have c2 : decide (256 ≤ n) = true := decide_eq_true hn
  rw [s_cfn e _ _ (Nat.le_of_ble_eq_true rfl)]
  simp (config := {maxSteps := 1000000}) (disch := first | omega | (simp only [List.length_cons, List.length_nil, List.length_append, List.length_drop]; omega)) only [↓s_box, w_cells, c1, c2, ↓x_build, x_aggO, ↓l_loop, ↓l_succ, ↓l_normal, l_normal, l_exit, l_ret, l_iteN, ↓h_put_get, ↓h_new_get, ↓h_del_get, h_next_put, h_next_new, h_next_del, Nat.add_assoc, Nat.add_eq_left, Nat.left_eq_add, Nat.add_left_cancel_iff, ↓s_load, m_load, ↓m_load1, m_load1, ↓m_st, m_stE, m_storeI, m_storeE, w_zero, w_succ, ↓s_alloc, ↓x_idxA, ↓x_idxS, x_idxAE, x_idxSE, x_addrE, x_idx, x_lenS, ↓s_len, ↓x_buildS, x_buildE, ↓x_P0, ↓x_P1, x_fill0, x_filli, x_fills, x_fillb, c_int, List.length_cons, List.length_nil, List.cons_append, List.drop_succ_cons, List.drop_zero, List.drop_nil, List.nil_append, Int.reduceAdd, Int.reduceToNat, Int.reduceLT, Int.reduceLE, Nat.reduceAdd, Nat.reduceMul, Nat.reduceLeDiff, Int.reduceEq, Int.reduceSub, Int.cast_ofNat_Int, s_resc, s_consR, m_load4, m_store4, s_res0, ↓s_skip, ↓s_ops, ↓s_dops, ↓s_seq, ↓s_cond, ↓s_block, ↓s_exit, ↓s_ret, ↓s_scope, ↓s_nil, ↓s_op, ↓s_opg, ↓s_wanted', ↓s_wantV, s_wantV, s_wantV0, beq_true, beq_false, ↓s_bindS, s_bindS, ↓s_bindE, s_bindE, s_bindE_ret, s_bindE_exit, s_bindE_iteN, s_norm, ↓s_condV, s_condV, s_block_ret, s_block_normal, s_block_exit, s_block_iteN, ↓s_getp, ↓s_getp0, ↓s_get, s_get0, ↓s_con, ↓s_fn, ↓s_os0, ↓s_os1, ↓s_list0, ↓s_list1, ↓s_mov, ↓s_pick, ↓s_pickE, s_pickE, ↓s_bin, ↓s_un, ↓s_minmax, ↓s_call, ↓s_callv, ↓s_callV, ↓s_ext, s_same, b_eql, b_neq, b_lss, b_leq, b_gtr, b_geq, b_add, b_sub, b_mul, b_eqlb, b_neqb, b_fnil, b_fnil', b_fnil2, b_fnil2', u_neg, u_not, m_two, s_end, s_end', s_end_iteN, s_res0, s_res1, s_tup1, s_tup2, ↓iteN_true, ↓iteN_false, iteN_true, iteN_false, Nat.zero_add, List.nil_append, List.append_nil, Nat.reduceEqDiff, reduceIte, decide_true, decide_false, Bool.not_true, Bool.not_false, List.getElem?_cons_zero, List.getElem?_cons_succ, Bool.false_eq_true, if_true, if_false, beq_self_eq_true]
  exact ⟨_, rfl⟩
theorem sp_Right0 (e : E k_wide_Right = some f_wide_Right) (N x : Nat) (n : Int) (hn : n ≤ 0) (h : H) : ∃ h', callN E (N + 7) (.fn k_wide_Right) [Wd x, .int .i64 n] h = some (Wd x, h') := by
  have c1 : decide (n ≤ 0) = true := decide_eq_true hn
  rw [s_cfn e _ _ (Nat.le_of_ble_eq_true rfl)]
  simp (config := {maxSteps := 1000000}) (disch := first | omega | (simp only [List.length_cons, List.length_nil, List.length_append, List.length_drop]; omega)) only [↓s_box, w_cells, w_load, w_store, w_st4, w_stW, w_write, w_write', c1, ↓l_loop, ↓l_succ, ↓l_normal, l_normal, l_exit, l_ret, l_iteN, ↓h_put_get, ↓h_new_get, ↓h_del_get, h_next_put, h_next_new, h_next_del, Nat.add_assoc, Nat.add_eq_left, Nat.left_eq_add, Nat.add_left_cancel_iff, ↓s_load, m_load, ↓m_load1, m_load1, ↓m_st, m_stE, m_storeI, m_storeE, w_zero, w_succ, ↓s_alloc, ↓x_idxA, ↓x_idxS, x_idxAE, x_idxSE, x_addrE, x_idx, x_lenS, ↓s_len, ↓x_buildS, x_buildE, ↓x_P0, ↓x_P1, x_fill0, x_filli, x_fills, x_fillb, c_int, List.length_cons, List.length_nil, List.cons_append, List.drop_succ_cons, List.drop_zero, List.drop_nil, List.nil_append, Int.reduceAdd, Int.reduceToNat, Int.reduceLT, Int.reduceLE, Nat.reduceAdd, Nat.reduceMul, Nat.reduceLeDiff, Int.reduceEq, Int.reduceSub, Int.cast_ofNat_Int, s_resc, s_consR, m_load4, m_store4, s_res0, ↓s_skip, ↓s_ops, ↓s_dops, ↓s_seq, ↓s_cond, ↓s_block, ↓s_exit, ↓s_ret, ↓s_scope, ↓s_nil, ↓s_op, ↓s_opg, ↓s_wanted', ↓s_wantV, s_wantV, s_wantV0, beq_true, beq_false, ↓s_bindS, s_bindS, ↓s_bindE, s_bindE, s_bindE_ret, s_bindE_exit, s_bindE_iteN, s_norm, ↓s_condV, s_condV, s_block_ret, s_block_normal, s_block_exit, s_block_iteN, ↓s_getp, ↓s_getp0, ↓s_get, s_get0, ↓s_con, ↓s_fn, ↓s_os0, ↓s_os1, ↓s_list0, ↓s_list1, ↓s_mov, ↓s_pick, ↓s_pickE, s_pickE, ↓s_bin, ↓s_un, ↓s_minmax, ↓s_call, ↓s_callv, ↓s_callV, ↓s_ext, s_same, b_eql, b_neq, b_lss, b_leq, b_gtr, b_geq, b_add, b_sub, b_mul, b_eqlb, b_neqb, b_fnil, b_fnil', b_fnil2, b_fnil2', u_neg, u_not, m_two, s_end, s_end', s_end_iteN, s_res0, s_res1, s_tup1, s_tup2, ↓iteN_true, ↓iteN_false, iteN_true, iteN_false, Nat.zero_add, List.nil_append, List.append_nil, Nat.reduceEqDiff, reduceIte, decide_true, decide_false, Bool.not_true, Bool.not_false, List.getElem?_cons_zero, List.getElem?_cons_succ, Bool.false_eq_true, if_true, if_false, beq_self_eq_true]
  exact ⟨_, rfl⟩
theorem sp_Right256 (e : E k_wide_Right = some f_wide_Right) (N x : Nat) (n : Int) (hn : 256 ≤ n) (h : H) : ∃ h', callN E (N + 7) (.fn k_wide_Right) [Wd x, .int .i64 n] h = some (Wd 0, h') := by
  have c1 : decide (n ≤ 0) = false := decide_eq_false (by omega)
  have c2 : decide (256 ≤ n) = true := decide_eq_true hn
  rw [s_cfn e _ _ (Nat.le_of_ble_eq_true rfl)]
  simp (config := {maxSteps := 1000000}) (disch := first | omega | (simp only [List.length_cons, List.length_nil, List.length_append, List.length_drop]; omega)) only [↓s_box, w_cells, c1, c2, ↓x_build, x_aggO, ↓l_loop, ↓l_succ, ↓l_normal, l_normal, l_exit, l_ret, l_iteN, ↓h_put_get, ↓h_new_get, ↓h_del_get, h_next_put, h_next_new, h_next_del, Nat.add_assoc, Nat.add_eq_left, Nat.left_eq_add, Nat.add_left_cancel_iff, ↓s_load, m_load, ↓m_load1, m_load1, ↓m_st, m_stE, m_storeI, m_storeE, w_zero, w_succ, ↓s_alloc, ↓x_idxA, ↓x_idxS, x_idxAE, x_idxSE, x_addrE, x_idx, x_lenS, ↓s_len, ↓x_buildS, x_buildE, ↓x_P0, ↓x_P1, x_fill0, x_filli, x_fills, x_fillb, c_int, List.length_cons, List.length_nil, List.cons_append, List.drop_succ_cons, List.drop_zero, List.drop_nil, List.nil_append, Int.reduceAdd, Int.reduceToNat, Int.reduceLT, Int.reduceLE, Nat.reduceAdd, Nat.reduceMul, Nat.reduceLeDiff, Int.reduceEq, Int.reduceSub, Int.cast_ofNat_Int, s_resc, s_consR, m_load4, m_store4, s_res0, ↓s_skip, ↓s_ops, ↓s_dops, ↓s_seq, ↓s_cond, ↓s_block, ↓s_exit, ↓s_ret, ↓s_scope, ↓s_nil, ↓s_op, ↓s_opg, ↓s_wanted', ↓s_wantV, s_wantV, s_wantV0, beq_true, beq_false, ↓s_bindS, s_bindS, ↓s_bindE, s_bindE, s_bindE_ret, s_bindE_exit, s_bindE_iteN, s_norm, ↓s_condV, s_condV, s_block_ret, s_block_normal, s_block_exit, s_block_iteN, ↓s_getp, ↓s_getp0, ↓s_get, s_get0, ↓s_con, ↓s_fn, ↓s_os0, ↓s_os1, ↓s_list0, ↓s_list1, ↓s_mov, ↓s_pick, ↓s_pickE, s_pickE, ↓s_bin, ↓s_un, ↓s_minmax, ↓s_call, ↓s_callv, ↓s_callV, ↓s_ext, s_same, b_eql, b_neq, b_lss, b_leq, b_gtr, b_geq, b_add, b_sub, b_mul, b_eqlb, b_neqb, b_fnil, b_fnil', b_fnil2, b_fnil2', u_neg, u_not, m_two, s_end, s_end', s_end_iteN, s_res0, s_res1, s_tup1, s_tup2, ↓iteN_true, ↓iteN_false, iteN_true, iteN_false, Nat.zero_add, List.nil_append, List.append_nil, Nat.reduceEqDiff, reduceIte, decide_true, decide_false, Bool.not_true, Bool.not_false, List.getElem?_cons_zero, List.getElem?_cons_succ, Bool.false_eq_true, if_true, if_false, beq_self_eq_true]
  exact ⟨_, rfl⟩
theorem sp_Of (e : E k_wide_Of = some f_wide_Of) (N : Nat) (n : Int) (h : H) : ∃ h', callN E (N + 7) (.fn k_wide_Of) [.int .u64 n] h = some (.agg [.int .u64 n, .int .u64 0, .int .u64 0, .int .u64 0], h') := by
  rw [s_cfn e _ _ (Nat.le_of_ble_eq_true rfl)]
  simp (config := {maxSteps := 1000000}) (disch := first | omega | (simp only [List.length_cons, List.length_nil, List.length_append, List.length_drop]; omega)) only [↓x_build, x_aggO, ↓l_loop, ↓l_succ, ↓l_normal, l_normal, l_exit, l_ret, l_iteN, ↓h_put_get, ↓h_new_get, ↓h_del_get, h_next_put, h_next_new, h_next_del, Nat.add_assoc, Nat.add_eq_left, Nat.left_eq_add, Nat.add_left_cancel_iff, ↓s_load, m_load, ↓m_load1, m_load1, ↓m_st, m_stE, m_storeI, m_storeE, w_zero, w_succ, ↓s_alloc, ↓x_idxA, ↓x_idxS, x_idxAE, x_idxSE, x_addrE, x_idx, x_lenS, ↓s_len, ↓x_buildS, x_buildE, ↓x_P0, ↓x_P1, x_fill0, x_filli, x_fills, x_fillb, c_int, List.length_cons, List.length_nil, List.cons_append, List.drop_succ_cons, List.drop_zero, List.drop_nil, List.nil_append, Int.reduceAdd, Int.reduceToNat, Int.reduceLT, Int.reduceLE, Nat.reduceAdd, Nat.reduceMul, Nat.reduceLeDiff, Int.reduceEq, Int.reduceSub, Int.cast_ofNat_Int, s_resc, s_consR, m_load4, m_store4, s_res0, ↓s_skip, ↓s_ops, ↓s_dops, ↓s_seq, ↓s_cond, ↓s_block, ↓s_exit, ↓s_ret, ↓s_scope, ↓s_nil, ↓s_op, ↓s_opg, ↓s_wanted', ↓s_wantV, s_wantV, s_wantV0, beq_true, beq_false, ↓s_bindS, s_bindS, ↓s_bindE, s_bindE, s_bindE_ret, s_bindE_exit, s_bindE_iteN, s_norm, ↓s_condV, s_condV, s_block_ret, s_block_normal, s_block_exit, s_block_iteN, ↓s_getp, ↓s_getp0, ↓s_get, s_get0, ↓s_con, ↓s_fn, ↓s_os0, ↓s_os1, ↓s_list0, ↓s_list1, ↓s_mov, ↓s_pick, ↓s_pickE, s_pickE, ↓s_bin, ↓s_un, ↓s_minmax, ↓s_call, ↓s_callv, ↓s_callV, ↓s_ext, s_same, b_eql, b_neq, b_lss, b_leq, b_gtr, b_geq, b_add, b_sub, b_mul, b_eqlb, b_neqb, b_fnil, b_fnil', b_fnil2, b_fnil2', u_neg, u_not, m_two, s_end, s_end', s_end_iteN, s_res0, s_res1, s_tup1, s_tup2, ↓iteN_true, ↓iteN_false, iteN_true, iteN_false, Nat.zero_add, List.nil_append, List.append_nil, Nat.reduceEqDiff, reduceIte, decide_true, decide_false, Bool.not_true, Bool.not_false, List.getElem?_cons_zero, List.getElem?_cons_succ, Bool.false_eq_true, if_true, if_false, beq_self_eq_true]
  exact ⟨_, rfl⟩
end Go.Eng
namespace Go.Eng
open Go
variable {E : Nat → Option Fn}
set_option linter.unusedSimpArgs false
set_option linter.unusedVariables false
theorem q_zero (a b m : Nat) (h : a < 2 ^ m) : qOf a b m = 0 ∧ rOf a b m = 0 := by
  unfold qOf rOf
  rw [Nat.div_eq_of_lt h, Nat.zero_div, Nat.zero_mod]; exact ⟨rfl, rfl⟩
theorem q_end (a b : Nat) : qOf a b 0 = a / b ∧ rOf a b 0 = a % b := by
  unfold qOf rOf
  rw [Nat.pow_zero, Nat.div_one, Nat.one_mul]; exact ⟨rfl, rfl⟩
theorem sp_q1 {X : Orc} {n : Nat} {Q' : Orc} {n' : Nat} (e : E k_wide_quotientBits_1 = some f_wide_quotientBits_1) (hxn : ∀ args h, X (.fn k_wide_quotientBits_1) args h = none) (D : DQ (callX E X n) Q' n') (hLen : ∀ (h : H) (x : Nat), x < M256 → callX E X n (.fn k_wide_Len) [Wd x] h = some (.int .i64 (blen x : Int), h)) (hn : 257 ≤ n)
    (a b : Nat) (ha : a < M256) (hb0 : 0 < b) (hbM : b < M256) (T0 : Tr V) (hT : evO T0 (.t 4) = .ptr (some (2, 0))) (h : H) (nx : 9 ≤ h.next) (b2 : h.get 2 = some (.cells (cW 0) .rw)) (b3 : h.get 3 = some (.cells (cW 0) .rw)) (b4 : h.get 4 = some (.cells (cW a) .rw)) (b5 : h.get 5 = some (.cells (cW b) .rw))
    (b6 : h.get 6 = some (.cells [.ptr (some (3, 0))] .rw)) (b7 : h.get 7 = some .defers) (b8 : h.get 8 = some (.loop 0 none 32 T0 [17, 18] dAsg dBody 7)) :
    ∃ T h', callX E X (n + 1) (.fn k_wide_quotientBits_1) [.yld 8, .ptr (some (4, 0)), .ptr (some (6, 0)), .ptr (some (5, 0))] h = some (.tup [], h') ∧ DI a b 0 T0 T h' := by
  rw [x_cfn e _ _ (Nat.le_of_ble_eq_true rfl) (hxn _ _)]
  have bl : blen a ≤ 256 := blen_le ha
  have hl := hLen h a ha
  obtain ⟨z1, z2⟩ := q_zero a b (blen a) (blen_lt a)
  obtain ⟨T', h', r1, r2⟩ := q_loop D n a b ha hb0 hbM T0 hT (blen a) bl n (by omega) (putT (putT (putT (putT (Tr.set (Tr.set (Tr.set (Tr.set .e 0 (some (.yld 8))) 1 (some (.ptr (some (4, 0))))) 2 (some (.ptr (some (6, 0))))) 3 (some (.ptr (some (5, 0))))) (some 8) (Wd a)) (some 9) (.int .i64 (blen a : Int))) (some 10) (.int .i64 ((blen a : Int) - 1))) (some 5) (.int .i64 ((blen a : Int) - 1))) h
    ⟨by simp only [s_getp, s_get, Nat.reduceEqDiff, decide_false, decide_true, iteN_false, iteN_true], by simp only [s_getp, s_get, Nat.reduceEqDiff, decide_false, decide_true, iteN_false, iteN_true], by simp only [s_getp, s_get, Nat.reduceEqDiff, decide_false, decide_true, iteN_false, iteN_true], by simp only [s_getp, s_get, Nat.reduceEqDiff, decide_false, decide_true, iteN_false, iteN_true], by simp only [s_getp, s_get, Nat.reduceEqDiff, decide_false, decide_true, iteN_false, iteN_true], nx, by rw [z1]; exact b2, by rw [z2]; exact b3, b4, b5, b6, b7, b8⟩
  have key := r1
  rw [← s_loop (Q := callX E X n) (N := 55) (n := n) (rnd := none)] at key
  unfold qLoop at key
  refine ⟨T', h', ?_, r2⟩
  have w1 : wr .i64 ((blen a : Int) - 1) = (blen a : Int) - 1 := wr_i64 (by omega)
  simp (config := {maxSteps := 1000000}) (disch := first | omega | (simp only [List.length_cons, List.length_nil, List.length_append, List.length_drop]; omega)) only [↓s_load, m_load, b4, w_load, hl, w1, key, e_normal, d_nil, e_some, s_res0, e_tup0, ↓s_skip, ↓s_ops, ↓s_dops, ↓s_seq, ↓s_cond, ↓s_block, ↓s_exit, ↓s_ret, ↓s_scope, ↓s_nil, ↓s_op, ↓s_opg, ↓s_wanted', ↓s_wantV, s_wantV, s_wantV0, beq_true, beq_false, ↓s_bindS, s_bindS, ↓s_bindE, s_bindE, s_bindE_ret, s_bindE_exit, s_bindE_iteN, s_norm, ↓s_condV, s_condV, s_block_ret, s_block_normal, s_block_exit, s_block_iteN, ↓s_getp, ↓s_getp0, ↓s_get, s_get0, ↓s_con, ↓s_fn, ↓s_os0, ↓s_os1, ↓s_list0, ↓s_list1, ↓s_mov, ↓s_pick, ↓s_pickE, s_pickE, ↓s_bin, ↓s_un, ↓s_minmax, ↓s_call, ↓s_callv, ↓s_callV, ↓s_ext, s_same, b_eql, b_neq, b_lss, b_leq, b_gtr, b_geq, b_add, b_sub, b_mul, b_eqlb, b_neqb, b_fnil, b_fnil', b_fnil2, b_fnil2', u_neg, u_not, m_two, s_end, s_end', s_end_iteN, s_res0, s_res1, s_tup1, s_tup2, ↓iteN_true, ↓iteN_false, iteN_true, iteN_false, Nat.zero_add, List.nil_append, List.append_nil, Nat.reduceEqDiff, reduceIte, decide_true, decide_false, Bool.not_true, Bool.not_false, List.getElem?_cons_zero, List.getElem?_cons_succ, Bool.false_eq_true, if_true, if_false, beq_self_eq_true]
theorem div_tail {X : Orc} {n : Nat} {Q' : Orc} {n' : Nat} (e : E k_wide_quotientBits_1 = some f_wide_quotientBits_1) (hxn : ∀ args h, X (.fn k_wide_quotientBits_1) args h = none) (D : DQ (callX E X n) Q' n') (hLen : ∀ (h : H) (x : Nat), x < M256 → callX E X n (.fn k_wide_Len) [Wd x] h = some (.int .i64 (blen x : Int), h)) (hn : 257 ≤ n)
    (a b : Nat) (ha : a < M256) (hb0 : 0 < b) (hbM : b < M256) (rs : List Res) (k : St → Option (Ex × St)) (v : V) (T0 : Tr V) (h : H) (hT : evO T0 (.t 4) = .ptr (some (2, 0))) (nx : 9 ≤ h.next) (b2 : h.get 2 = some (.cells (cW 0) .rw)) (b3 : h.get 3 = some (.cells (cW 0) .rw)) (b4 : h.get 4 = some (.cells (cW a) .rw)) (b5 : h.get 5 = some (.cells (cW b) .rw))
    (b6 : h.get 6 = some (.cells [.ptr (some (3, 0))] .rw)) (b7 : h.get 7 = some .defers) (b8 : h.get 8 = some (.loop 0 none 32 T0 [17, 18] dAsg dBody 7)) (hk : ∀ h' : H, h'.get 2 = some (.cells (cW (a / b)) .rw) → h'.get 3 = some (.cells (cW (a % b)) .rw) → h'.get 7 = some .defers → ∃ h2, fnEnd rs (k ⟨T0, [7], h'.del 8⟩) = some (v, h2)) :
    ∃ h2, fnEnd rs (bindE (blockE 0 (rangeEnd 8 T0 [7] (callX E X (n + 1) (.fn k_wide_quotientBits_1) [.yld 8, .ptr (some (4, 0)), .ptr (some (6, 0)), .ptr (some (5, 0))] h))) k) = some (v, h2) := by
  obtain ⟨T, h', r1, I⟩ := sp_q1 e hxn D hLen hn a b ha hb0 hbM T0 hT h nx b2 b3 b4 b5 b6 b7 b8
  obtain ⟨z1, z2⟩ := q_end a b
  rw [r1, r_end, I.b8, r_0, r_jn, s_block_normal, s_bindE]
  exact hk h' (by rw [← z1]; exact I.b2) (by rw [← z2]; exact I.b3) I.b7
theorem w_beq' (n : Nat) : V.beq (Wd n) (Wd n) = true := w_beq n
theorem sp_Div {X : Orc} {n : Nat} (e : E k_wide_Div = some f_wide_Div) (e1 : E k_wide_quotientBits = some f_wide_quotientBits) (e2 : E k_wide_quotientBits_1 = some f_wide_quotientBits_1) (x0 : ∀ args h, X (.fn k_wide_Div) args h = none) (x1 : ∀ args h, X (.fn k_wide_quotientBits) args h = none) (x2 : ∀ args h, X (.fn k_wide_quotientBits_1) args h = none) (x3 : ∀ l args h, X (.yld l) args h = none)
    (xL : ∀ (h : H) (x : Nat), x < M256 → X (.fn k_wide_Left) [Wd x, .int .i64 1] h = some (Wd (x <<< 1), h))
    (xS : ∀ (h : H) (x y : Nat), x < M256 → y < M256 → X (.fn k_wide_Sub) [Wd x, Wd y] h = some (.tup [Wd (x + M256 - y), .bool (decide (x < y))], h)) (xN : ∀ (h : H) (x : Nat), x < M256 → X (.fn k_wide_Len) [Wd x] h = some (.int .i64 (blen x : Int), h)) (hn : 260 ≤ n)
    (a b : Nat) (ha : a < M256) (hbM : b < M256) : ∃ h', callX E X (n + 3) (.fn k_wide_Div) [Wd a, Wd b] H.empty = some (if b = 0 then .tup [Wd 0, Wd 0, .int .i64 30] else .tup [Wd (a / b), Wd (a % b), .int .i64 0], h') := by
  rw [x_cfn e _ _ (Nat.le_of_ble_eq_true rfl) (x0 _ _)]
  have n0 : H.empty.next = 0 := rfl
  have eqz : ∀ h, binV .eql (.flat [.i, .i, .i, .i]) h (Wd b) (.agg [.int .u64 0, .int .u64 0, .int .u64 0, .int .u64 0]) = some (.bool (decide (b = 0))) := fun h => b_eqW h b 0 hbM (by omega)
  by_cases hb : b = 0
  · have c1 : decide (b = 0) = true := decide_eq_true hb
    simp (config := {maxSteps := 1000000}) (disch := first | omega | (simp only [List.length_cons, List.length_nil, List.length_append, List.length_drop]; omega)) only [if_pos hb, n0, c1, eqz, ↓s_box, ↓x_build, x_aggO, w_cells, w_load, w_store, w_st4, w_stW, w_write, w_write', ↓l_loop, ↓l_succ, ↓l_normal, l_normal, l_exit, l_ret, l_iteN, ↓h_put_get, ↓h_new_get, ↓h_del_get, h_next_put, h_next_new, h_next_del, Nat.add_assoc, Nat.add_eq_left, Nat.left_eq_add, Nat.add_left_cancel_iff, ↓s_load, m_load, ↓m_load1, m_load1, ↓m_st, m_stE, m_storeI, m_storeE, w_zero, w_succ, ↓s_alloc, ↓x_idxA, ↓x_idxS, x_idxAE, x_idxSE, x_addrE, x_idx, x_lenS, ↓s_len, ↓x_buildS, x_buildE, ↓x_P0, ↓x_P1, x_fill0, x_filli, x_fills, x_fillb, c_int, List.length_cons, List.length_nil, List.cons_append, List.drop_succ_cons, List.drop_zero, List.drop_nil, List.nil_append, Int.reduceAdd, Int.reduceToNat, Int.reduceLT, Int.reduceLE, Nat.reduceAdd, Nat.reduceMul, Nat.reduceLeDiff, Int.reduceEq, Int.reduceSub, Int.cast_ofNat_Int, s_resc, s_consR, m_load4, m_store4, s_res0, ↓s_skip, ↓s_ops, ↓s_dops, ↓s_seq, ↓s_cond, ↓s_block, ↓s_exit, ↓s_ret, ↓s_scope, ↓s_nil, ↓s_op, ↓s_opg, ↓s_wanted', ↓s_wantV, s_wantV, s_wantV0, beq_true, beq_false, ↓s_bindS, s_bindS, ↓s_bindE, s_bindE, s_bindE_ret, s_bindE_exit, s_bindE_iteN, s_norm, ↓s_condV, s_condV, s_block_ret, s_block_normal, s_block_exit, s_block_iteN, ↓s_getp, ↓s_getp0, ↓s_get, s_get0, ↓s_con, ↓s_fn, ↓s_os0, ↓s_os1, ↓s_list0, ↓s_list1, ↓s_mov, ↓s_pick, ↓s_pickE, s_pickE, ↓s_bin, ↓s_un, ↓s_minmax, ↓s_call, ↓s_callv, ↓s_callV, ↓s_ext, s_same, b_eql, b_neq, b_lss, b_leq, b_gtr, b_geq, b_add, b_sub, b_mul, b_eqlb, b_neqb, b_fnil, b_fnil', b_fnil2, b_fnil2', u_neg, u_not, m_two, s_end, s_end', s_end_iteN, s_res0, s_res1, s_tup1, s_tup2, ↓iteN_true, ↓iteN_false, iteN_true, iteN_false, Nat.zero_add, List.nil_append, List.append_nil, Nat.reduceEqDiff, reduceIte, decide_true, decide_false, Bool.not_true, Bool.not_false, List.getElem?_cons_zero, List.getElem?_cons_succ, Bool.false_eq_true, if_true, if_false, beq_self_eq_true]
    exact ⟨_, rfl⟩
  · have c1 : decide (b = 0) = false := decide_eq_false hb
    have qb : ∀ (h : H), callX E X (n + 2) (.fn k_wide_quotientBits) [Wd a, Wd b, .ptr (some (3, 0))] h = some (.fn k_wide_quotientBits_1 [] [.ptr (some (h.next, 0)), .ptr (some (h.next + 2, 0)), .ptr (some (h.next + 1, 0))], ((h.new (.cells (cW a) .rw)).new (.cells (cW b) .rw)).new (.cells [.ptr (some (3, 0))] .rw)) := by
      intro h
      rw [x_cfn e1 _ _ (Nat.le_of_ble_eq_true rfl) (x1 _ _)]
      simp (config := {maxSteps := 1000000}) (disch := first | omega | (simp only [List.length_cons, List.length_nil, List.length_append, List.length_drop]; omega)) only [↓s_box, w_cells, c_ptr, ↓s_mkfn, ↓l_loop, ↓l_succ, ↓l_normal, l_normal, l_exit, l_ret, l_iteN, ↓h_put_get, ↓h_new_get, ↓h_del_get, h_next_put, h_next_new, h_next_del, Nat.add_assoc, Nat.add_eq_left, Nat.left_eq_add, Nat.add_left_cancel_iff, ↓s_load, m_load, ↓m_load1, m_load1, ↓m_st, m_stE, m_storeI, m_storeE, w_zero, w_succ, ↓s_alloc, ↓x_idxA, ↓x_idxS, x_idxAE, x_idxSE, x_addrE, x_idx, x_lenS, ↓s_len, ↓x_buildS, x_buildE, ↓x_P0, ↓x_P1, x_fill0, x_filli, x_fills, x_fillb, c_int, List.length_cons, List.length_nil, List.cons_append, List.drop_succ_cons, List.drop_zero, List.drop_nil, List.nil_append, Int.reduceAdd, Int.reduceToNat, Int.reduceLT, Int.reduceLE, Nat.reduceAdd, Nat.reduceMul, Nat.reduceLeDiff, Int.reduceEq, Int.reduceSub, Int.cast_ofNat_Int, s_resc, s_consR, m_load4, m_store4, s_res0, ↓s_skip, ↓s_ops, ↓s_dops, ↓s_seq, ↓s_cond, ↓s_block, ↓s_exit, ↓s_ret, ↓s_scope, ↓s_nil, ↓s_op, ↓s_opg, ↓s_wanted', ↓s_wantV, s_wantV, s_wantV0, beq_true, beq_false, ↓s_bindS, s_bindS, ↓s_bindE, s_bindE, s_bindE_ret, s_bindE_exit, s_bindE_iteN, s_norm, ↓s_condV, s_condV, s_block_ret, s_block_normal, s_block_exit, s_block_iteN, ↓s_getp, ↓s_getp0, ↓s_get, s_get0, ↓s_con, ↓s_fn, ↓s_os0, ↓s_os1, ↓s_list0, ↓s_list1, ↓s_mov, ↓s_pick, ↓s_pickE, s_pickE, ↓s_bin, ↓s_un, ↓s_minmax, ↓s_call, ↓s_callv, ↓s_callV, ↓s_ext, s_same, b_eql, b_neq, b_lss, b_leq, b_gtr, b_geq, b_add, b_sub, b_mul, b_eqlb, b_neqb, b_fnil, b_fnil', b_fnil2, b_fnil2', u_neg, u_not, m_two, s_end, s_end', s_end_iteN, s_res0, s_res1, s_tup1, s_tup2, ↓iteN_true, ↓iteN_false, iteN_true, iteN_false, Nat.zero_add, List.nil_append, List.append_nil, Nat.reduceEqDiff, reduceIte, decide_true, decide_false, Bool.not_true, Bool.not_false, List.getElem?_cons_zero, List.getElem?_cons_succ, Bool.false_eq_true, if_true, if_false, beq_self_eq_true]
    have D : DQ (callX E X (n + 1)) (callX E X n) n := ⟨fun h x hx => x_known (xL h x hx), fun h x y hx hy => x_known (xS h x y hx hy), fun args h => x_yld (x3 _ _ _)⟩
    have hLen : ∀ (h : H) (x : Nat), x < M256 → callX E X (n + 1) (.fn k_wide_Len) [Wd x] h = some (.int .i64 (blen x : Int), h) := fun h x hx => x_known (xN h x hx)
    have hq := sp_q1 e2 x2 D hLen (by omega) a b ha (by omega) hbM
    simp (config := {maxSteps := 1000000}) (disch := first | omega | (simp only [List.length_cons, List.length_nil, List.length_append, List.length_drop]; omega)) only [if_neg hb, n0, c1, eqz, qb, ↓s_range, s_callF, ↓s_box, ↓x_build, x_aggO, w_cells, w_load, w_store, w_st4, w_stW, w_write, w_write', ↓l_loop, ↓l_succ, ↓l_normal, l_normal, l_exit, l_ret, l_iteN, ↓h_put_get, ↓h_new_get, ↓h_del_get, h_next_put, h_next_new, h_next_del, Nat.add_assoc, Nat.add_eq_left, Nat.left_eq_add, Nat.add_left_cancel_iff, ↓s_load, m_load, ↓m_load1, m_load1, ↓m_st, m_stE, m_storeI, m_storeE, w_zero, w_succ, ↓s_alloc, ↓x_idxA, ↓x_idxS, x_idxAE, x_idxSE, x_addrE, x_idx, x_lenS, ↓s_len, ↓x_buildS, x_buildE, ↓x_P0, ↓x_P1, x_fill0, x_filli, x_fills, x_fillb, c_int, List.length_cons, List.length_nil, List.cons_append, List.drop_succ_cons, List.drop_zero, List.drop_nil, List.nil_append, Int.reduceAdd, Int.reduceToNat, Int.reduceLT, Int.reduceLE, Nat.reduceAdd, Nat.reduceMul, Nat.reduceLeDiff, Int.reduceEq, Int.reduceSub, Int.cast_ofNat_Int, s_resc, s_consR, m_load4, m_store4, s_res0, ↓s_skip, ↓s_ops, ↓s_dops, ↓s_seq, ↓s_cond, ↓s_block, ↓s_exit, ↓s_ret, ↓s_scope, ↓s_nil, ↓s_op, ↓s_opg, ↓s_wanted', ↓s_wantV, s_wantV, s_wantV0, beq_true, beq_false, ↓s_bindS, s_bindS, ↓s_bindE, s_bindE, s_bindE_ret, s_bindE_exit, s_bindE_iteN, s_norm, ↓s_condV, s_condV, s_block_ret, s_block_normal, s_block_exit, s_block_iteN, ↓s_getp, ↓s_getp0, ↓s_get, s_get0, ↓s_con, ↓s_fn, ↓s_os0, ↓s_os1, ↓s_list0, ↓s_list1, ↓s_mov, ↓s_pick, ↓s_pickE, s_pickE, ↓s_bin, ↓s_un, ↓s_minmax, ↓s_call, ↓s_callv, ↓s_callV, ↓s_ext, s_same, b_eql, b_neq, b_lss, b_leq, b_gtr, b_geq, b_add, b_sub, b_mul, b_eqlb, b_neqb, b_fnil, b_fnil', b_fnil2, b_fnil2', u_neg, u_not, m_two, s_end, s_end', s_end_iteN, s_res0, s_res1, s_tup1, s_tup2, ↓iteN_true, ↓iteN_false, iteN_true, iteN_false, Nat.zero_add, List.nil_append, List.append_nil, Nat.reduceEqDiff, reduceIte, decide_true, decide_false, Bool.not_true, Bool.not_false, List.getElem?_cons_zero, List.getElem?_cons_succ, Bool.false_eq_true, if_true, if_false, beq_self_eq_true]
    refine div_tail e2 x2 D hLen (by omega) a b ha (by omega) hbM _ _ _ _ _ ?_ ?_ ?_ ?_ ?_ ?_ ?_ ?_ ?_ ?_
    · simp only [s_getp, s_get, Nat.reduceEqDiff, decide_false, decide_true, iteN_false, iteN_true]
    · exact Nat.le_of_ble_eq_true rfl
    · simp only [h_new_get, h_next_new, n0, Nat.reduceAdd, Nat.reduceEqDiff, decide_false, decide_true, iteN_false, iteN_true]; rfl
    · simp only [h_new_get, h_next_new, n0, Nat.reduceAdd, Nat.reduceEqDiff, decide_false, decide_true, iteN_false, iteN_true]; rfl
    · simp only [h_new_get, h_next_new, n0, Nat.reduceAdd, Nat.reduceEqDiff, decide_false, decide_true, iteN_false, iteN_true]
    · simp only [h_new_get, h_next_new, n0, Nat.reduceAdd, Nat.reduceEqDiff, decide_false, decide_true, iteN_false, iteN_true]
    · simp only [h_new_get, h_next_new, n0, Nat.reduceAdd, Nat.reduceEqDiff, decide_false, decide_true, iteN_false, iteN_true]
    · simp only [h_new_get, h_next_new, n0, Nat.reduceAdd, Nat.reduceEqDiff, decide_false, decide_true, iteN_false, iteN_true]
    · simp only [h_new_get, h_next_new, n0, Nat.reduceAdd, Nat.reduceEqDiff, decide_false, decide_true, iteN_false, iteN_true]; rfl
    · intro h' g2 g3 g7
      simp (config := {maxSteps := 1000000}) (disch := first | omega | (simp only [List.length_cons, List.length_nil, List.length_append, List.length_drop]; omega)) only [g2, g3, g7, w_beq', w_load, w_store, w_st4, w_stW, w_write, w_write', e_ret, e_some, d_cons, d_yes, d_nil, ↓s_evD, ↓s_dnil, ↓s_dL, ↓s_dLg, ↓s_dR, ↓s_dRg, ↓s_dRj, ↓s_dRjg, ↓s_dB, ↓s_dBg, ↓s_dAlloc, ↓s_bindD, s_bindD, s_finD, s_finDx, s_addP0, s_addP1, s_addB, s_lookP, ↓s_bump0, ↓s_bump_get, s_bump_next, s_ok0, ↓s_ok1, s_okR0, ↓s_okR1, ↓s_okE, s_okE, s_okE1, s_nth0, s_nthS, Nat.add_zero, Bool.and_self, Bool.and_true, Bool.true_and, ↓l_loop, ↓l_succ, ↓l_normal, l_normal, l_exit, l_ret, l_iteN, ↓h_put_get, ↓h_new_get, ↓h_del_get, h_next_put, h_next_new, h_next_del, Nat.add_assoc, Nat.add_eq_left, Nat.left_eq_add, Nat.add_left_cancel_iff, ↓s_load, m_load, ↓m_load1, m_load1, ↓m_st, m_stE, m_storeI, m_storeE, w_zero, w_succ, ↓s_alloc, ↓x_idxA, ↓x_idxS, x_idxAE, x_idxSE, x_addrE, x_idx, x_lenS, ↓s_len, ↓x_buildS, x_buildE, ↓x_P0, ↓x_P1, x_fill0, x_filli, x_fills, x_fillb, c_int, List.length_cons, List.length_nil, List.cons_append, List.drop_succ_cons, List.drop_zero, List.drop_nil, List.nil_append, Int.reduceAdd, Int.reduceToNat, Int.reduceLT, Int.reduceLE, Nat.reduceAdd, Nat.reduceMul, Nat.reduceLeDiff, Int.reduceEq, Int.reduceSub, Int.cast_ofNat_Int, s_resc, s_consR, m_load4, m_store4, s_res0, ↓s_skip, ↓s_ops, ↓s_dops, ↓s_seq, ↓s_cond, ↓s_block, ↓s_exit, ↓s_ret, ↓s_scope, ↓s_nil, ↓s_op, ↓s_opg, ↓s_wanted', ↓s_wantV, s_wantV, s_wantV0, beq_true, beq_false, ↓s_bindS, s_bindS, ↓s_bindE, s_bindE, s_bindE_ret, s_bindE_exit, s_bindE_iteN, s_norm, ↓s_condV, s_condV, s_block_ret, s_block_normal, s_block_exit, s_block_iteN, ↓s_getp, ↓s_getp0, ↓s_get, s_get0, ↓s_con, ↓s_fn, ↓s_os0, ↓s_os1, ↓s_list0, ↓s_list1, ↓s_mov, ↓s_pick, ↓s_pickE, s_pickE, ↓s_bin, ↓s_un, ↓s_minmax, ↓s_call, ↓s_callv, ↓s_callV, ↓s_ext, s_same, b_eql, b_neq, b_lss, b_leq, b_gtr, b_geq, b_add, b_sub, b_mul, b_eqlb, b_neqb, b_fnil, b_fnil', b_fnil2, b_fnil2', u_neg, u_not, m_two, s_end, s_end', s_end_iteN, s_res0, s_res1, s_tup1, s_tup2, ↓iteN_true, ↓iteN_false, iteN_true, iteN_false, Nat.zero_add, List.nil_append, List.append_nil, Nat.reduceEqDiff, reduceIte, decide_true, decide_false, Bool.not_true, Bool.not_false, List.getElem?_cons_zero, List.getElem?_cons_succ, Bool.false_eq_true, if_true, if_false, beq_self_eq_true]
      exact ⟨_, rfl⟩
end Go.Eng
namespace Go.Eng
open Go
variable {E : Nat → Option Fn} {P : Program} {g : Gn}
set_option linter.unusedSimpArgs false
set_option linter.unusedVariables false
structure WideFE (E : Nat → Option Fn) : Prop where
  Add : E k_wide_Add = some f_wide_Add
  Sub : E k_wide_Sub = some f_wide_Sub
  Not : E k_wide_Not = some f_wide_Not
  Of : E k_wide_Of = some f_wide_Of
  Compare : E k_wide_Compare = some f_wide_Compare
  Mul : E k_wide_Mul = some f_wide_Mul
  mulAdd : E k_wide_mulAdd = some f_wide_mulAdd
  Mul64 : E k_math_bits_Mul64 = some f_math_bits_Mul64
  Left : E k_wide_Left = some f_wide_Left
  Right : E k_wide_Right = some f_wide_Right
  Len : E k_wide_Len = some f_wide_Len
  Len64 : E k_math_bits_Len64 = some f_math_bits_Len64
  Div : E k_wide_Div = some f_wide_Div
  q0 : E k_wide_quotientBits = some f_wide_quotientBits
  q1 : E k_wide_quotientBits_1 = some f_wide_quotientBits_1
def ofS : List V → Option V
  | [.int .u64 n] => some (.agg [.int .u64 n, .int .u64 0, .int .u64 0, .int .u64 0])
  | _ => none
def kDiv (x y : Nat) : V := match y with
  | 0 => .tup [WdF 0, WdF 0, .int .i64 (.ofNat 30)]
  | y + 1 => .tup [WdF (x / (y + 1)), WdF (x % (y + 1)), .int .i64 (.ofNat 0)]
theorem kDiv_eq (x y : Nat) : kDiv x y = if y = 0 then .tup [Wd 0, Wd 0, .int .i64 30] else .tup [Wd (x / y), Wd (x % y), .int .i64 0] := by
  cases y with
  | zero => unfold kDiv; simp only [WdF_eq, if_true]; rfl
  | succ y => unfold kDiv; rw [if_neg (by omega)]; simp only [WdF_eq]; rfl
/-- known calls of package wide -/
def wideX : Orc := orX (pureX k_wide_Add (w2 kAdd)) (orX (pureX k_wide_Sub (w2 kSub)) (orX (pureX k_wide_Not (w1 kNot)) (orX (pureX k_wide_Of ofS) (orX (pureX k_wide_Compare (w2 kCmp)) (orX (pureX k_wide_Mul (w2 kMul)) (orX (pureX k_wide_Left (wi kLeft)) (orX (pureX k_wide_Right (wi kRight)) (pureX k_wide_Len (w1 kLen)))))))))
def wideXD : Orc := orX (pureX k_wide_Div (w2 kDiv)) wideX
theorem dt2 (x : Nat) (b : Bool) : dataV (.tup [Wd x, .bool b]) = true := by simp only [dataV, datas, dataV_Wd, Bool.and_self]
theorem wideX_ok (hE : Link P g E) (F : WideFE E) : QOk P g wideX := by
  have W : WideE E := ⟨F.Add, F.Sub, F.Not, F.Of, F.Compare⟩
  have hQ := fun n => callN_ok (P := P) (g := g) hE n
  refine orX_ok (pureX_ok (hQ 7) (w2_ok (fun x y => by rw [kAdd_eq]; exact dt2 _ _) fun x y hx hy => ?_)) (orX_ok (pureX_ok (hQ 7) (w2_ok (fun x y => by rw [kSub_eq]; exact dt2 _ _) fun x y hx hy => ?_)) (orX_ok (pureX_ok (hQ 7) (w1_ok (fun x => by rw [kNot_eq]; exact dataV_Wd _) fun x hx => ?_)) (orX_ok (pureX_ok (hQ 7) ?_)
    (orX_ok (pureX_ok (hQ 8) (w2_ok (fun x y => by rw [kCmp_eq]; rfl) fun x y hx hy => ?_)) (orX_ok (pureX_ok (hQ 14) (w2_ok (fun x y => by rw [kMul_eq]; simp only [dataV, datas, dataV_Wd, Bool.and_self]) fun x y hx hy => ?_)) (orX_ok (pureX_ok (hQ 7) (wi_ok (fun x n => by rw [kLeft_eq]; exact dataV_Wd _) fun x n hx => ?_)) (orX_ok (pureX_ok (hQ 7) (wi_ok (fun x n => by rw [kRight_eq]; exact dataV_Wd _) fun x n hx => ?_)) (pureX_ok (hQ 6) (w1_ok (fun x => by rw [kLen_eq]; rfl) fun x hx => ?_)))))))))
  · obtain ⟨h1, e, _⟩ := sp_Add F.Add 0 x y hx hy H.empty
    exact ⟨h1, by rw [kAdd_eq]; exact e⟩
  · obtain ⟨h1, e, _⟩ := sp_Sub F.Sub 0 x y hx hy H.empty
    exact ⟨h1, by rw [kSub_eq]; exact e⟩
  · obtain ⟨h1, e, _⟩ := sp_Not F.Not 0 x hx H.empty
    exact ⟨h1, by rw [kNot_eq]; exact e⟩
  · intro args v h
    unfold ofS at h
    split at h
    · cases h
      exact ⟨rfl, rfl, sp_Of F.Of 0 _ H.empty⟩
    · cases h
  · obtain ⟨h1, e, _⟩ := sp_Compare W 0 x y hx hy H.empty
    exact ⟨h1, by rw [kCmp_eq]; exact e⟩
  · obtain ⟨h1, e, _⟩ := sp_Mul F.Mul64 F.mulAdd F.Mul 0 x y hx hy H.empty
    exact ⟨h1, by rw [kMul_eq]; exact e⟩
  · rw [kLeft_eq]
    unfold shL
    by_cases h0 : n ≤ 0
    · rw [if_pos h0]; exact sp_Left0 F.Left 0 x n h0 _
    · rw [if_neg h0]
      by_cases h1 : 256 ≤ n
      · rw [if_pos h1]; exact sp_Left256 F.Left 0 x n h1 _
      · rw [if_neg h1]
        obtain ⟨m, rfl⟩ := Int.eq_ofNat_of_zero_le (show 0 ≤ n by omega)
        exact sp_Left F.Left 0 m x (by omega) (by omega) _
  · rw [kRight_eq]
    unfold shR
    by_cases h0 : n ≤ 0
    · rw [if_pos h0]; exact sp_Right0 F.Right 0 x n h0 _
    · rw [if_neg h0]
      by_cases h1 : 256 ≤ n
      · rw [if_pos h1]; exact sp_Right256 F.Right 0 x n h1 _
      · rw [if_neg h1]
        obtain ⟨m, rfl⟩ := Int.eq_ofNat_of_zero_le (show 0 ≤ n by omega)
        exact sp_Right F.Right 0 m x (by omega) (by omega) hx _
  · rw [kLen_eq]; exact sp_Len F.Len64 F.Len 0 x hx _
section
variable (h : H)
theorem X_Add {x y : Nat} (hx : x < M256) (hy : y < M256) : wideX (.fn k_wide_Add) [Wd x, Wd y] h = some (.tup [Wd (x + y), .bool (decide (115792089237316195423570985008687907853269984665640564039457584007913129639936 ≤ x + y))], h) := by
  rw [← kAdd_eq]; exact orX_l (pureX_yes h (w2_Wd kAdd hx hy))
theorem X_Sub {x y : Nat} (hx : x < M256) (hy : y < M256) : wideX (.fn k_wide_Sub) [Wd x, Wd y] h = some (.tup [Wd (x + 115792089237316195423570985008687907853269984665640564039457584007913129639936 - y), .bool (decide (x < y))], h) := by
  rw [← kSub_eq]; exact (orX_r (pureX_no h rfl)).trans (orX_l (pureX_yes h (w2_Wd kSub hx hy)))
theorem X_Not {x : Nat} (hx : x < M256) : wideX (.fn k_wide_Not) [Wd x] h = some (Wd (115792089237316195423570985008687907853269984665640564039457584007913129639936 - 1 - x), h) := by
  rw [← kNot_eq]; exact (orX_r (pureX_no h rfl)).trans ((orX_r (pureX_no h rfl)).trans (orX_l (pureX_yes h (w1_Wd kNot hx))))
theorem X_Of (n : Int) : wideX (.fn k_wide_Of) [.int .u64 n] h = some (.agg [.int .u64 n, .int .u64 0, .int .u64 0, .int .u64 0], h) := (orX_r (pureX_no h rfl)).trans ((orX_r (pureX_no h rfl)).trans ((orX_r (pureX_no h rfl)).trans (orX_l (pureX_yes h rfl))))
theorem X_Compare {x y : Nat} (hx : x < M256) (hy : y < M256) : wideX (.fn k_wide_Compare) [Wd x, Wd y] h = some (.int .i64 (cmpW x y), h) := by
  rw [← kCmp_eq]; exact (orX_r (pureX_no h rfl)).trans ((orX_r (pureX_no h rfl)).trans ((orX_r (pureX_no h rfl)).trans ((orX_r (pureX_no h rfl)).trans (orX_l (pureX_yes h (w2_Wd kCmp hx hy))))))
theorem X_Mul {x y : Nat} (hx : x < M256) (hy : y < M256) : wideX (.fn k_wide_Mul) [Wd x, Wd y] h = some (.tup [Wd (x * y % 115792089237316195423570985008687907853269984665640564039457584007913129639936), Wd (x * y / 115792089237316195423570985008687907853269984665640564039457584007913129639936)], h) := by
  rw [← kMul_eq]; exact (orX_r (pureX_no h rfl)).trans ((orX_r (pureX_no h rfl)).trans ((orX_r (pureX_no h rfl)).trans ((orX_r (pureX_no h rfl)).trans ((orX_r (pureX_no h rfl)).trans (orX_l (pureX_yes h (w2_Wd kMul hx hy)))))))
theorem X_Left {x : Nat} (n : Int) (hx : x < M256) : wideX (.fn k_wide_Left) [Wd x, .int .i64 n] h = some (Wd (shL x n), h) := by
  rw [← kLeft_eq]; exact (orX_r (pureX_no h rfl)).trans ((orX_r (pureX_no h rfl)).trans ((orX_r (pureX_no h rfl)).trans ((orX_r (pureX_no h rfl)).trans ((orX_r (pureX_no h rfl)).trans ((orX_r (pureX_no h rfl)).trans (orX_l (pureX_yes h (wi_Wd kLeft n hx))))))))
theorem X_Right {x : Nat} (n : Int) (hx : x < M256) : wideX (.fn k_wide_Right) [Wd x, .int .i64 n] h = some (Wd (shR x n), h) := by
  rw [← kRight_eq]; exact (orX_r (pureX_no h rfl)).trans ((orX_r (pureX_no h rfl)).trans ((orX_r (pureX_no h rfl)).trans ((orX_r (pureX_no h rfl)).trans ((orX_r (pureX_no h rfl)).trans ((orX_r (pureX_no h rfl)).trans ((orX_r (pureX_no h rfl)).trans (orX_l (pureX_yes h (wi_Wd kRight n hx)))))))))
theorem X_Len {x : Nat} (hx : x < M256) : wideX (.fn k_wide_Len) [Wd x] h = some (.int .i64 (blen x : Int), h) := by
  rw [← kLen_eq]; exact (orX_r (pureX_no h rfl)).trans ((orX_r (pureX_no h rfl)).trans ((orX_r (pureX_no h rfl)).trans ((orX_r (pureX_no h rfl)).trans ((orX_r (pureX_no h rfl)).trans ((orX_r (pureX_no h rfl)).trans ((orX_r (pureX_no h rfl)).trans ((orX_r (pureX_no h rfl)).trans (pureX_yes h (w1_Wd kLen hx)))))))))
/-- none of these -/
theorem X_no {f : Nat} (args : List V) (e : (Nat.beq f k_wide_Add || (Nat.beq f k_wide_Sub || (Nat.beq f k_wide_Not || (Nat.beq f k_wide_Of || (Nat.beq f k_wide_Compare || (Nat.beq f k_wide_Mul || (Nat.beq f k_wide_Left || (Nat.beq f k_wide_Right || Nat.beq f k_wide_Len)))))))) = false) : wideX (.fn f) args h = none := by
  simp only [Bool.or_eq_false_iff] at e
  obtain ⟨e1, e2, e3, e4, e5, e6, e7, e8, e9⟩ := e
  unfold wideX
  rw [orX_r (pureX_no h e1), orX_r (pureX_no h e2), orX_r (pureX_no h e3), orX_r (pureX_no h e4), orX_r (pureX_no h e5), orX_r (pureX_no h e6), orX_r (pureX_no h e7), orX_r (pureX_no h e8), pureX_no h e9]
theorem X_yld (l : Nat) (args : List V) : wideX (.yld l) args h = none := rfl
end
theorem wideXD_ok (hE : Link P g E) (F : WideFE E) : QOk P g wideXD := by
  refine orX_ok (pureX_ok (callX_ok hE (wideX_ok hE F) 263) (w2_ok (fun x y => ?_) fun x y hx hy => ?_)) (wideX_ok hE F)
  · rw [kDiv_eq]; split <;> simp only [dataV, datas, dataV_Wd, Bool.and_self]
  · rw [kDiv_eq]
    refine sp_Div (n := 260) F.Div F.q0 F.q1 (fun args h => X_no h args rfl) (fun args h => X_no h args rfl) (fun args h => X_no h args rfl) (fun l args h => X_yld h l args) (fun h x hx => ?_) (fun h x y hx hy => X_Sub h hx hy) (fun h x hx => X_Len h hx) (by omega) x y hx hy
    have := X_Left h 1 hx
    rw [this]; rfl
section
variable (h : H)
theorem XD_Div {x y : Nat} (hx : x < M256) (hy : y < M256) : wideXD (.fn k_wide_Div) [Wd x, Wd y] h = some (if y = 0 then .tup [Wd 0, Wd 0, .int .i64 30] else .tup [Wd (x / y), Wd (x % y), .int .i64 0], h) := by
  rw [← kDiv_eq]; exact orX_l (pureX_yes h (w2_Wd kDiv hx hy))
theorem XD_wide {f : Nat} {args : List V} (e : Nat.beq f k_wide_Div = false) : wideXD (.fn f) args h = wideX (.fn f) args h := orX_r (pureX_no h e)
theorem XD_no {f : Nat} (args : List V) (e0 : Nat.beq f k_wide_Div = false) (e : (Nat.beq f k_wide_Add || (Nat.beq f k_wide_Sub || (Nat.beq f k_wide_Not || (Nat.beq f k_wide_Of || (Nat.beq f k_wide_Compare || (Nat.beq f k_wide_Mul || (Nat.beq f k_wide_Left || (Nat.beq f k_wide_Right || Nat.beq f k_wide_Len)))))))) = false) : wideXD (.fn f) args h = none := (orX_r (pureX_no h e0)).trans (X_no h args e)
end
end Go.Eng
