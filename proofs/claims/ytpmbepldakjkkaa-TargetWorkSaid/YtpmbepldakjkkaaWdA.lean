/- What the functions of package wide come to: own work. -/
import Derived.Test.YtpmbepldakjkkaaEngH
import Derived.Test.YtpmbepldakjkkaaWdF
namespace Go.Eng
open Go
variable {E : Nat → Option Fn}
set_option linter.unusedSimpArgs false
set_option linter.unusedVariables false

/-- what was there stays -/
def Keep (h h' : H) : Prop := h.next ≤ h'.next ∧ ∀ i, i < h.next → h'.get i = h.get i
theorem Keep.refl (h : H) : Keep h h := ⟨Nat.le_refl _, fun _ _ => rfl⟩
theorem Keep.trans {a b c : H} (h : Keep a b) (h' : Keep b c) : Keep a c := ⟨Nat.le_trans h.1 h'.1, fun i hi => by rw [h'.2 i (Nat.lt_of_lt_of_le hi h.1), h.2 i hi]⟩
theorem Keep.new (h : H) (b : Blk) : Keep h (h.new b) := ⟨by rw [H.next_new]; omega, fun i hi => h_new_ne h b (by omega)⟩
theorem Keep.put {h h' : H} (k : Keep h h') {i : Nat} (b : Blk) (hi : h.next ≤ i) : Keep h (h'.put i b) := ⟨k.1, fun j hj => by rw [h_put_ne _ _ (by omega)]; exact k.2 j hj⟩

theorem x_add (x y c : Nat) (hc : c ≤ 1) : bitsV false (.int .u64 (x : Int)) (.int .u64 (y : Int)) (.int .u64 (c : Int)) = some (.tup [.int .u64 (((x + (y + c)) % 18446744073709551616 : Nat) : Int), .int .u64 (((x + (y + c)) / 18446744073709551616 : Nat) : Int)]) := by
  show (bif Nat.ble c 1 then some (bitsN false x y c) else none) = _
  rw [Nat.ble_eq.mpr hc, ← Nat.add_assoc]; rfl
theorem x_add0 (x y : Nat) : bitsV false (.int .u64 (x : Int)) (.int .u64 (y : Int)) (.int .u64 0) = some (.tup [.int .u64 (((x + (y + 0)) % 18446744073709551616 : Nat) : Int), .int .u64 (((x + (y + 0)) / 18446744073709551616 : Nat) : Int)]) := x_add x y 0 (by omega)
def bor (x y : Nat) : Nat := if x < y then 1 else 0
theorem bor_le (x y : Nat) : bor x y ≤ 1 := by unfold bor; split <;> omega
theorem x_sub (x y c : Nat) (hc : c ≤ 1) : bitsV true (.int .u64 (x : Int)) (.int .u64 (y : Int)) (.int .u64 (c : Int)) = some (.tup [.int .u64 (((x + 18446744073709551616 - y - c) % 18446744073709551616 : Nat) : Int), .int .u64 ((bor x (y + c) : Nat) : Int)]) := by
  have e : bitsN true x y c = .tup [.int .u64 (((x + 18446744073709551616 - y - c) % 18446744073709551616 : Nat) : Int), .int .u64 ((bor x (y + c) : Nat) : Int)] := by
    simp only [bitsN, bor]
    by_cases hlt : x < y + c
    · have : Nat.blt x (y + c) = true := by simpa using hlt
      simp [hlt, this]
    · have : Nat.blt x (y + c) = false := by
        cases hb : Nat.blt x (y + c) with
        | false => rfl
        | true => exact absurd (by simpa using hb) hlt
      simp [hlt, this]
  show (bif Nat.ble c 1 then some (bitsN true x y c) else none) = _
  rw [Nat.ble_eq.mpr hc, e]; rfl
theorem x_sub0 (x y : Nat) : bitsV true (.int .u64 (x : Int)) (.int .u64 (y : Int)) (.int .u64 0) = some (.tup [.int .u64 (((x + 18446744073709551616 - y - 0) % 18446744073709551616 : Nat) : Int), .int .u64 ((bor x (y + 0) : Nat) : Int)]) := x_sub x y 0 (by omega)

/-- the number of 256 bits -/
def W4 (a b c d : Nat) : V := .agg [.int .u64 (a : Int), .int .u64 (b : Int), .int .u64 (c : Int), .int .u64 (d : Int)]
def Wd (n : Nat) : V := W4 (n % 18446744073709551616) (n / 18446744073709551616 % 18446744073709551616) (n / 18446744073709551616 / 18446744073709551616 % 18446744073709551616) (n / 18446744073709551616 / 18446744073709551616 / 18446744073709551616 % 18446744073709551616)

theorem sp_Add4 (e : E k_wide_Add = some f_wide_Add) (n : Nat) (a0 a1 a2 a3 b0 b1 b2 b3 : Nat) (h : H) (ha : a0 < 18446744073709551616 ∧ a1 < 18446744073709551616 ∧ a2 < 18446744073709551616 ∧ a3 < 18446744073709551616) (hb : b0 < 18446744073709551616 ∧ b1 < 18446744073709551616 ∧ b2 < 18446744073709551616 ∧ b3 < 18446744073709551616)
    {c0 c1 c2 c3 : Nat} (e0 : (a0 + (b0 + 0)) / 18446744073709551616 = c0) (e1 : (a1 + (b1 + c0)) / 18446744073709551616 = c1) (e2 : (a2 + (b2 + c1)) / 18446744073709551616 = c2) (e3 : (a3 + (b3 + c2)) / 18446744073709551616 = c3) (l0 : c0 ≤ 1) (l1 : c1 ≤ 1) (l2 : c2 ≤ 1) (l3 : c3 ≤ 1) :
   ∃ h', callN E (n + 7) (.fn k_wide_Add) [W4 a0 a1 a2 a3, W4 b0 b1 b2 b3] h = some (.tup [W4 ((a0 + (b0 + 0)) % 18446744073709551616) ((a1 + (b1 + c0)) % 18446744073709551616) ((a2 + (b2 + c1)) % 18446744073709551616) ((a3 + (b3 + c2)) % 18446744073709551616), .bool (!decide ((c3 : Int) = 0))], h') ∧ Keep h h' := by
  rw [s_cfn e _ _ (Nat.le_of_ble_eq_true rfl)]
  simp (config := {maxSteps := 1000000}) (disch := first | omega | (simp only [List.length_cons, List.length_nil, List.length_append, List.length_drop]; omega)) only [W4, ↓s_evD, ↓s_dnil, ↓s_dL, ↓s_dR, ↓s_dB, s_bindD, s_finD, s_addP0, ↓s_bump0, ↓s_bump_get, s_bump_next, ↓s_box, ↓s_bits, x_add, x_add0, e0, e1, e2, e3, c_agg, wr_i64, ↓l_loop, ↓l_succ, ↓l_normal, l_normal, l_exit, l_ret, l_iteN, ↓h_put_get, ↓h_new_get, ↓h_del_get, h_next_put, h_next_new, h_next_del, Nat.add_assoc, Nat.add_eq_left, Nat.left_eq_add, Nat.add_left_cancel_iff, ↓s_load, m_load, ↓m_load1, m_load1, ↓m_st, m_stE, m_storeI, m_storeE, w_zero, w_succ, ↓s_alloc, ↓x_idxA, ↓x_idxS, x_idxAE, x_idxSE, x_addrE, x_idx, x_lenS, ↓s_len, ↓x_buildS, x_buildE, ↓x_P0, ↓x_P1, x_fill0, x_filli, x_fills, x_fillb, c_int, List.length_cons, List.length_nil, List.cons_append, List.drop_succ_cons, List.drop_zero, List.drop_nil, List.nil_append, Int.reduceAdd, Int.reduceToNat, Int.reduceLT, Int.reduceLE, Nat.reduceAdd, Nat.reduceMul, Nat.reduceLeDiff, Int.reduceEq, Int.reduceSub, Int.cast_ofNat_Int, s_resc, s_consR, m_load4, m_store4, s_res0, ↓s_skip, ↓s_ops, ↓s_dops, ↓s_seq, ↓s_cond, ↓s_block, ↓s_exit, ↓s_ret, ↓s_scope, ↓s_nil, ↓s_op, ↓s_opg, ↓s_wanted', ↓s_wantV, s_wantV, s_wantV0, beq_true, beq_false, ↓s_bindS, s_bindS, ↓s_bindE, s_bindE, s_bindE_ret, s_bindE_exit, s_bindE_iteN, s_norm, ↓s_condV, s_condV, s_block_ret, s_block_normal, s_block_exit, s_block_iteN, ↓s_getp, ↓s_getp0, ↓s_get, s_get0, ↓s_con, ↓s_fn, ↓s_os0, ↓s_os1, ↓s_list0, ↓s_list1, ↓s_mov, ↓s_pick, ↓s_pickE, s_pickE, ↓s_bin, ↓s_un, ↓s_minmax, ↓s_call, ↓s_callv, ↓s_callV, ↓s_ext, s_same, b_eql, b_neq, b_lss, b_leq, b_gtr, b_geq, b_add, b_sub, b_mul, b_eqlb, b_neqb, b_fnil, b_fnil', b_fnil2, b_fnil2', u_neg, u_not, m_two, s_end, s_end', s_end_iteN, s_res0, s_res1, s_tup1, s_tup2, ↓iteN_true, ↓iteN_false, iteN_true, iteN_false, Nat.zero_add, List.nil_append, List.append_nil, Nat.reduceEqDiff, reduceIte, decide_true, decide_false, Bool.not_true, Bool.not_false, List.getElem?_cons_zero, List.getElem?_cons_succ, Bool.false_eq_true, if_true, if_false, beq_self_eq_true]
  exact ⟨_, rfl, (((((((Keep.refl h).trans (Keep.new _ _)).trans (Keep.new _ _)).trans (Keep.new _ _)).put _ (by omega)).put _ (by omega)).put _ (by omega)).put _ (by omega) |>.put _ (by omega)⟩

theorem limb (x y c : Nat) : (x % 18446744073709551616 + (y % 18446744073709551616 + c)) % 18446744073709551616 = (x + y + c) % 18446744073709551616 ∧
  x / 18446744073709551616 + y / 18446744073709551616 + (x % 18446744073709551616 + (y % 18446744073709551616 + c)) / 18446744073709551616 = (x + y + c) / 18446744073709551616 := by omega

theorem sp_Add (e : E k_wide_Add = some f_wide_Add) (n : Nat) (x y : Nat) (hx : x < 115792089237316195423570985008687907853269984665640564039457584007913129639936) (hy : y < 115792089237316195423570985008687907853269984665640564039457584007913129639936) (h : H) :
   ∃ h', callN E (n + 7) (.fn k_wide_Add) [Wd x, Wd y] h = some (.tup [Wd (x + y), .bool (decide (115792089237316195423570985008687907853269984665640564039457584007913129639936 ≤ x + y))], h') ∧ Keep h h' := by
  obtain ⟨c0, e0⟩ : ∃ c, (x % 18446744073709551616 + (y % 18446744073709551616 + 0)) / 18446744073709551616 = c := ⟨_, rfl⟩
  obtain ⟨c1, e1⟩ : ∃ c, (x / 18446744073709551616 % 18446744073709551616 + (y / 18446744073709551616 % 18446744073709551616 + c0)) / 18446744073709551616 = c := ⟨_, rfl⟩
  obtain ⟨c2, e2⟩ : ∃ c, (x / 18446744073709551616 / 18446744073709551616 % 18446744073709551616 + (y / 18446744073709551616 / 18446744073709551616 % 18446744073709551616 + c1)) / 18446744073709551616 = c := ⟨_, rfl⟩
  obtain ⟨c3, e3⟩ : ∃ c, (x / 18446744073709551616 / 18446744073709551616 / 18446744073709551616 % 18446744073709551616 + (y / 18446744073709551616 / 18446744073709551616 / 18446744073709551616 % 18446744073709551616 + c2)) / 18446744073709551616 = c := ⟨_, rfl⟩
  have l0 : c0 ≤ 1 := by omega
  have l1 : c1 ≤ 1 := by omega
  have l2 : c2 ≤ 1 := by omega
  have l3 : c3 ≤ 1 := by omega
  have M0 := limb x y 0
  rw [e0] at M0
  have M1 := limb (x / 18446744073709551616) (y / 18446744073709551616) c0
  rw [e1, M0.2] at M1
  have M2 := limb (x / 18446744073709551616 / 18446744073709551616) (y / 18446744073709551616 / 18446744073709551616) c1
  rw [e2, M1.2] at M2
  have M3 := limb (x / 18446744073709551616 / 18446744073709551616 / 18446744073709551616) (y / 18446744073709551616 / 18446744073709551616 / 18446744073709551616) c2
  rw [e3, M2.2] at M3
  obtain ⟨h', r1, r2⟩ := sp_Add4 e n (h := h) (a0 := x % 18446744073709551616) (a1 := x / 18446744073709551616 % 18446744073709551616) (a2 := x / 18446744073709551616 / 18446744073709551616 % 18446744073709551616) (a3 := x / 18446744073709551616 / 18446744073709551616 / 18446744073709551616 % 18446744073709551616) (b0 := y % 18446744073709551616) (b1 := y / 18446744073709551616 % 18446744073709551616) (b2 := y / 18446744073709551616 / 18446744073709551616 % 18446744073709551616) (b3 := y / 18446744073709551616 / 18446744073709551616 / 18446744073709551616 % 18446744073709551616)
    (by omega) (by omega) e0 e1 e2 e3 l0 l1 l2 l3
  refine ⟨h', ?_, r2⟩
  show callN E (n + 7) (.fn k_wide_Add) [W4 _ _ _ _, W4 _ _ _ _] h = _
  rw [r1, M0.1, M1.1, M2.1, M3.1, Nat.add_zero]
  have hb : (!decide ((c3 : Int) = 0)) = decide (115792089237316195423570985008687907853269984665640564039457584007913129639936 ≤ x + y) := by
    rw [Bool.eq_iff_iff]
    simp only [Bool.not_eq_true', decide_eq_false_iff_not, decide_eq_true_eq]
    have h4 := M3.2
    rw [Nat.add_zero] at h4
    have k1 : x / 18446744073709551616 / 18446744073709551616 / 18446744073709551616 / 18446744073709551616 = 0 := by rw [Nat.div_div_eq_div_mul, Nat.div_div_eq_div_mul, Nat.div_div_eq_div_mul]; exact Nat.div_eq_of_lt hx
    have k2 : y / 18446744073709551616 / 18446744073709551616 / 18446744073709551616 / 18446744073709551616 = 0 := by rw [Nat.div_div_eq_div_mul, Nat.div_div_eq_div_mul, Nat.div_div_eq_div_mul]; exact Nat.div_eq_of_lt hy
    have k3 : (x + y) / 18446744073709551616 / 18446744073709551616 / 18446744073709551616 / 18446744073709551616 = (x + y) / 115792089237316195423570985008687907853269984665640564039457584007913129639936 := by rw [Nat.div_div_eq_div_mul, Nat.div_div_eq_div_mul, Nat.div_div_eq_div_mul]
    rw [k1, k2, k3] at h4
    omega
  rw [hb]; rfl

theorem sp_Sub4 (e : E k_wide_Sub = some f_wide_Sub) (n : Nat) (a0 a1 a2 a3 b0 b1 b2 b3 : Nat) (h : H) {c0 c1 c2 c3 : Nat} (e0 : bor a0 (b0 + 0) = c0) (e1 : bor a1 (b1 + c0) = c1) (e2 : bor a2 (b2 + c1) = c2) (e3 : bor a3 (b3 + c2) = c3) (l0 : c0 ≤ 1) (l1 : c1 ≤ 1) (l2 : c2 ≤ 1) (l3 : c3 ≤ 1) :
   ∃ h', callN E (n + 7) (.fn k_wide_Sub) [W4 a0 a1 a2 a3, W4 b0 b1 b2 b3] h = some (.tup [W4 ((a0 + 18446744073709551616 - b0 - 0) % 18446744073709551616) ((a1 + 18446744073709551616 - b1 - c0) % 18446744073709551616) ((a2 + 18446744073709551616 - b2 - c1) % 18446744073709551616) ((a3 + 18446744073709551616 - b3 - c2) % 18446744073709551616), .bool (!decide ((c3 : Int) = 0))], h') ∧ Keep h h' := by
  rw [s_cfn e _ _ (Nat.le_of_ble_eq_true rfl)]
  simp (config := {maxSteps := 1000000}) (disch := first | omega | (simp only [List.length_cons, List.length_nil, List.length_append, List.length_drop]; omega)) only [W4, ↓s_evD, ↓s_dnil, ↓s_dL, ↓s_dR, ↓s_dB, s_bindD, s_finD, s_addP0, ↓s_bump0, ↓s_bump_get, s_bump_next, ↓s_box, ↓s_bits, x_sub, x_sub0, e0, e1, e2, e3, c_agg, wr_i64, ↓l_loop, ↓l_succ, ↓l_normal, l_normal, l_exit, l_ret, l_iteN, ↓h_put_get, ↓h_new_get, ↓h_del_get, h_next_put, h_next_new, h_next_del, Nat.add_assoc, Nat.add_eq_left, Nat.left_eq_add, Nat.add_left_cancel_iff, ↓s_load, m_load, ↓m_load1, m_load1, ↓m_st, m_stE, m_storeI, m_storeE, w_zero, w_succ, ↓s_alloc, ↓x_idxA, ↓x_idxS, x_idxAE, x_idxSE, x_addrE, x_idx, x_lenS, ↓s_len, ↓x_buildS, x_buildE, ↓x_P0, ↓x_P1, x_fill0, x_filli, x_fills, x_fillb, c_int, List.length_cons, List.length_nil, List.cons_append, List.drop_succ_cons, List.drop_zero, List.drop_nil, List.nil_append, Int.reduceAdd, Int.reduceToNat, Int.reduceLT, Int.reduceLE, Nat.reduceAdd, Nat.reduceMul, Nat.reduceLeDiff, Int.reduceEq, Int.reduceSub, Int.cast_ofNat_Int, s_resc, s_consR, m_load4, m_store4, s_res0, ↓s_skip, ↓s_ops, ↓s_dops, ↓s_seq, ↓s_cond, ↓s_block, ↓s_exit, ↓s_ret, ↓s_scope, ↓s_nil, ↓s_op, ↓s_opg, ↓s_wanted', ↓s_wantV, s_wantV, s_wantV0, beq_true, beq_false, ↓s_bindS, s_bindS, ↓s_bindE, s_bindE, s_bindE_ret, s_bindE_exit, s_bindE_iteN, s_norm, ↓s_condV, s_condV, s_block_ret, s_block_normal, s_block_exit, s_block_iteN, ↓s_getp, ↓s_getp0, ↓s_get, s_get0, ↓s_con, ↓s_fn, ↓s_os0, ↓s_os1, ↓s_list0, ↓s_list1, ↓s_mov, ↓s_pick, ↓s_pickE, s_pickE, ↓s_bin, ↓s_un, ↓s_minmax, ↓s_call, ↓s_callv, ↓s_callV, ↓s_ext, s_same, b_eql, b_neq, b_lss, b_leq, b_gtr, b_geq, b_add, b_sub, b_mul, b_eqlb, b_neqb, b_fnil, b_fnil', b_fnil2, b_fnil2', u_neg, u_not, m_two, s_end, s_end', s_end_iteN, s_res0, s_res1, s_tup1, s_tup2, ↓iteN_true, ↓iteN_false, iteN_true, iteN_false, Nat.zero_add, List.nil_append, List.append_nil, Nat.reduceEqDiff, reduceIte, decide_true, decide_false, Bool.not_true, Bool.not_false, List.getElem?_cons_zero, List.getElem?_cons_succ, Bool.false_eq_true, if_true, if_false, beq_self_eq_true]
  exact ⟨_, rfl, (((((((Keep.refl h).trans (Keep.new _ _)).trans (Keep.new _ _)).trans (Keep.new _ _)).put _ (by omega)).put _ (by omega)).put _ (by omega)).put _ (by omega) |>.put _ (by omega)⟩

theorem limb3 (x y c : Nat) (hc : c ≤ 1) (h : y + c ≤ x + 6277101735386680763835789423207666416102355444464034512896 * 18446744073709551616) : (x % 18446744073709551616 + 18446744073709551616 - y % 18446744073709551616 - c) % 18446744073709551616 = (x + 6277101735386680763835789423207666416102355444464034512896 * 18446744073709551616 - y - c) % 18446744073709551616 ∧
  (x + 6277101735386680763835789423207666416102355444464034512896 * 18446744073709551616 - y - c) / 18446744073709551616 = x / 18446744073709551616 + 6277101735386680763835789423207666416102355444464034512896 - y / 18446744073709551616 - bor (x % 18446744073709551616) (y % 18446744073709551616 + c) := by unfold bor; split <;> omega
theorem limb2 (x y c : Nat) (hc : c ≤ 1) (h : y + c ≤ x + 340282366920938463463374607431768211456 * 18446744073709551616) : (x % 18446744073709551616 + 18446744073709551616 - y % 18446744073709551616 - c) % 18446744073709551616 = (x + 340282366920938463463374607431768211456 * 18446744073709551616 - y - c) % 18446744073709551616 ∧
  (x + 340282366920938463463374607431768211456 * 18446744073709551616 - y - c) / 18446744073709551616 = x / 18446744073709551616 + 340282366920938463463374607431768211456 - y / 18446744073709551616 - bor (x % 18446744073709551616) (y % 18446744073709551616 + c) := by unfold bor; split <;> omega
theorem limb1 (x y c : Nat) (hc : c ≤ 1) (h : y + c ≤ x + 18446744073709551616 * 18446744073709551616) : (x % 18446744073709551616 + 18446744073709551616 - y % 18446744073709551616 - c) % 18446744073709551616 = (x + 18446744073709551616 * 18446744073709551616 - y - c) % 18446744073709551616 ∧
  (x + 18446744073709551616 * 18446744073709551616 - y - c) / 18446744073709551616 = x / 18446744073709551616 + 18446744073709551616 - y / 18446744073709551616 - bor (x % 18446744073709551616) (y % 18446744073709551616 + c) := by unfold bor; split <;> omega
theorem limb0 (x y c : Nat) (hc : c ≤ 1) (h : y + c ≤ x + 1 * 18446744073709551616) : (x % 18446744073709551616 + 18446744073709551616 - y % 18446744073709551616 - c) % 18446744073709551616 = (x + 1 * 18446744073709551616 - y - c) % 18446744073709551616 ∧
  (x + 1 * 18446744073709551616 - y - c) / 18446744073709551616 = x / 18446744073709551616 + 1 - y / 18446744073709551616 - bor (x % 18446744073709551616) (y % 18446744073709551616 + c) := by unfold bor; split <;> omega

theorem sp_Sub (e : E k_wide_Sub = some f_wide_Sub) (n : Nat) (x y : Nat) (hx : x < 115792089237316195423570985008687907853269984665640564039457584007913129639936) (hy : y < 115792089237316195423570985008687907853269984665640564039457584007913129639936) (h : H) :
   ∃ h', callN E (n + 7) (.fn k_wide_Sub) [Wd x, Wd y] h = some (.tup [Wd (x + 115792089237316195423570985008687907853269984665640564039457584007913129639936 - y), .bool (decide (x < y))], h') ∧ Keep h h' := by
  obtain ⟨c0, e0⟩ : ∃ c, bor (x % 18446744073709551616) (y % 18446744073709551616 + 0) = c := ⟨_, rfl⟩
  obtain ⟨c1, e1⟩ : ∃ c, bor (x / 18446744073709551616 % 18446744073709551616) (y / 18446744073709551616 % 18446744073709551616 + c0) = c := ⟨_, rfl⟩
  obtain ⟨c2, e2⟩ : ∃ c, bor (x / 18446744073709551616 / 18446744073709551616 % 18446744073709551616) (y / 18446744073709551616 / 18446744073709551616 % 18446744073709551616 + c1) = c := ⟨_, rfl⟩
  obtain ⟨c3, e3⟩ : ∃ c, bor (x / 18446744073709551616 / 18446744073709551616 / 18446744073709551616 % 18446744073709551616) (y / 18446744073709551616 / 18446744073709551616 / 18446744073709551616 % 18446744073709551616 + c2) = c := ⟨_, rfl⟩
  have l0 : c0 ≤ 1 := e0 ▸ bor_le _ _
  have l1 : c1 ≤ 1 := e1 ▸ bor_le _ _
  have l2 : c2 ≤ 1 := e2 ▸ bor_le _ _
  have l3 : c3 ≤ 1 := e3 ▸ bor_le _ _
  have M0 := limb3 x y 0 (by omega) (by omega)
  rw [e0] at M0
  have M1 := limb2 (x / 18446744073709551616) (y / 18446744073709551616) c0 l0 (by omega)
  rw [e1] at M1
  have M2 := limb1 (x / 18446744073709551616 / 18446744073709551616) (y / 18446744073709551616 / 18446744073709551616) c1 l1 (by omega)
  rw [e2] at M2
  have M3 := limb0 (x / 18446744073709551616 / 18446744073709551616 / 18446744073709551616) (y / 18446744073709551616 / 18446744073709551616 / 18446744073709551616) c2 l2 (by omega)
  rw [e3] at M3
  obtain ⟨h', r1, r2⟩ := sp_Sub4 e n (h := h) (a0 := x % 18446744073709551616) (a1 := x / 18446744073709551616 % 18446744073709551616) (a2 := x / 18446744073709551616 / 18446744073709551616 % 18446744073709551616) (a3 := x / 18446744073709551616 / 18446744073709551616 / 18446744073709551616 % 18446744073709551616) (b0 := y % 18446744073709551616) (b1 := y / 18446744073709551616 % 18446744073709551616) (b2 := y / 18446744073709551616 / 18446744073709551616 % 18446744073709551616) (b3 := y / 18446744073709551616 / 18446744073709551616 / 18446744073709551616 % 18446744073709551616)
    e0 e1 e2 e3 l0 l1 l2 l3
  refine ⟨h', ?_, r2⟩
  show callN E (n + 7) (.fn k_wide_Sub) [W4 _ _ _ _, W4 _ _ _ _] h = _
  have q0 : (x % 18446744073709551616 + 18446744073709551616 - y % 18446744073709551616 - 0) % 18446744073709551616 = (x + 115792089237316195423570985008687907853269984665640564039457584007913129639936 - y) % 18446744073709551616 := by rw [M0.1]; omega
  have d1 : (x + 115792089237316195423570985008687907853269984665640564039457584007913129639936 - y) / 18446744073709551616 = x / 18446744073709551616 + 340282366920938463463374607431768211456 * 18446744073709551616 - y / 18446744073709551616 - c0 := by have := M0.2; omega
  have q1 : (x / 18446744073709551616 % 18446744073709551616 + 18446744073709551616 - y / 18446744073709551616 % 18446744073709551616 - c0) % 18446744073709551616 = (x + 115792089237316195423570985008687907853269984665640564039457584007913129639936 - y) / 18446744073709551616 % 18446744073709551616 := by rw [M1.1, d1]
  have d2 : (x + 115792089237316195423570985008687907853269984665640564039457584007913129639936 - y) / 18446744073709551616 / 18446744073709551616 = x / 18446744073709551616 / 18446744073709551616 + 18446744073709551616 * 18446744073709551616 - y / 18446744073709551616 / 18446744073709551616 - c1 := by rw [d1, M1.2]
  have q2 : (x / 18446744073709551616 / 18446744073709551616 % 18446744073709551616 + 18446744073709551616 - y / 18446744073709551616 / 18446744073709551616 % 18446744073709551616 - c1) % 18446744073709551616 = (x + 115792089237316195423570985008687907853269984665640564039457584007913129639936 - y) / 18446744073709551616 / 18446744073709551616 % 18446744073709551616 := by rw [M2.1, d2]
  have d3 : (x + 115792089237316195423570985008687907853269984665640564039457584007913129639936 - y) / 18446744073709551616 / 18446744073709551616 / 18446744073709551616 = x / 18446744073709551616 / 18446744073709551616 / 18446744073709551616 + 1 * 18446744073709551616 - y / 18446744073709551616 / 18446744073709551616 / 18446744073709551616 - c2 := by rw [d2, M2.2]
  have q3 : (x / 18446744073709551616 / 18446744073709551616 / 18446744073709551616 % 18446744073709551616 + 18446744073709551616 - y / 18446744073709551616 / 18446744073709551616 / 18446744073709551616 % 18446744073709551616 - c2) % 18446744073709551616 = (x + 115792089237316195423570985008687907853269984665640564039457584007913129639936 - y) / 18446744073709551616 / 18446744073709551616 / 18446744073709551616 % 18446744073709551616 := by rw [M3.1, d3]
  have d4 : (x + 115792089237316195423570985008687907853269984665640564039457584007913129639936 - y) / 18446744073709551616 / 18446744073709551616 / 18446744073709551616 / 18446744073709551616 = x / 18446744073709551616 / 18446744073709551616 / 18446744073709551616 / 18446744073709551616 + 1 - y / 18446744073709551616 / 18446744073709551616 / 18446744073709551616 / 18446744073709551616 - c3 := by rw [d3, M3.2]
  rw [r1, q0, q1, q2, q3]
  have hb : (!decide ((c3 : Int) = 0)) = decide (x < y) := by
    rw [Bool.eq_iff_iff]
    simp only [Bool.not_eq_true', decide_eq_false_iff_not, decide_eq_true_eq]
    have k1 : x / 18446744073709551616 / 18446744073709551616 / 18446744073709551616 / 18446744073709551616 = 0 := by rw [Nat.div_div_eq_div_mul, Nat.div_div_eq_div_mul, Nat.div_div_eq_div_mul]; exact Nat.div_eq_of_lt hx
    have k2 : y / 18446744073709551616 / 18446744073709551616 / 18446744073709551616 / 18446744073709551616 = 0 := by rw [Nat.div_div_eq_div_mul, Nat.div_div_eq_div_mul, Nat.div_div_eq_div_mul]; exact Nat.div_eq_of_lt hy
    have k3 : (x + 115792089237316195423570985008687907853269984665640564039457584007913129639936 - y) / 18446744073709551616 / 18446744073709551616 / 18446744073709551616 / 18446744073709551616 = (x + 115792089237316195423570985008687907853269984665640564039457584007913129639936 - y) / 115792089237316195423570985008687907853269984665640564039457584007913129639936 := by rw [Nat.div_div_eq_div_mul, Nat.div_div_eq_div_mul, Nat.div_div_eq_div_mul]
    rw [k1, k2, k3] at d4
    omega
  rw [hb]; rfl
theorem sp_Not4 (e : E k_wide_Not = some f_wide_Not) (n : Nat) (a0 a1 a2 a3 : Int) (h : H) :
   ∃ h', callN E (n + 7) (.fn k_wide_Not) [.agg [.int .u64 a0, .int .u64 a1, .int .u64 a2, .int .u64 a3]] h = some (.agg [.int .u64 (asK .u64 (two .u64 - 1 - low .u64 a0)), .int .u64 (asK .u64 (two .u64 - 1 - low .u64 a1)), .int .u64 (asK .u64 (two .u64 - 1 - low .u64 a2)), .int .u64 (asK .u64 (two .u64 - 1 - low .u64 a3))], h') ∧ Keep h h' := by
  rw [s_cfn e _ _ (Nat.le_of_ble_eq_true rfl)]
  have ux : ∀ (k : IntKind) (n : Int), unV .xor (.int k n) = some (.int k (asK k (two k - 1 - low k n))) := fun _ _ => _root_.id rfl
  simp (config := {maxSteps := 1000000}) (disch := first | omega | (simp only [List.length_cons, List.length_nil, List.length_append, List.length_drop]; omega)) only [↓s_box, ux, c_agg, wr_i64, ↓l_loop, ↓l_succ, ↓l_normal, l_normal, l_exit, l_ret, l_iteN, ↓h_put_get, ↓h_new_get, ↓h_del_get, h_next_put, h_next_new, h_next_del, Nat.add_assoc, Nat.add_eq_left, Nat.left_eq_add, Nat.add_left_cancel_iff, ↓s_load, m_load, ↓m_load1, m_load1, ↓m_st, m_stE, m_storeI, m_storeE, w_zero, w_succ, ↓s_alloc, ↓x_idxA, ↓x_idxS, x_idxAE, x_idxSE, x_addrE, x_idx, x_lenS, ↓s_len, ↓x_buildS, x_buildE, ↓x_P0, ↓x_P1, x_fill0, x_filli, x_fills, x_fillb, c_int, List.length_cons, List.length_nil, List.cons_append, List.drop_succ_cons, List.drop_zero, List.drop_nil, List.nil_append, Int.reduceAdd, Int.reduceToNat, Int.reduceLT, Int.reduceLE, Nat.reduceAdd, Nat.reduceMul, Nat.reduceLeDiff, Int.reduceEq, Int.reduceSub, Int.cast_ofNat_Int, s_resc, s_consR, m_load4, m_store4, s_res0, ↓s_skip, ↓s_ops, ↓s_dops, ↓s_seq, ↓s_cond, ↓s_block, ↓s_exit, ↓s_ret, ↓s_scope, ↓s_nil, ↓s_op, ↓s_opg, ↓s_wanted', ↓s_wantV, s_wantV, s_wantV0, beq_true, beq_false, ↓s_bindS, s_bindS, ↓s_bindE, s_bindE, s_bindE_ret, s_bindE_exit, s_bindE_iteN, s_norm, ↓s_condV, s_condV, s_block_ret, s_block_normal, s_block_exit, s_block_iteN, ↓s_getp, ↓s_getp0, ↓s_get, s_get0, ↓s_con, ↓s_fn, ↓s_os0, ↓s_os1, ↓s_list0, ↓s_list1, ↓s_mov, ↓s_pick, ↓s_pickE, s_pickE, ↓s_bin, ↓s_un, ↓s_minmax, ↓s_call, ↓s_callv, ↓s_callV, ↓s_ext, s_same, b_eql, b_neq, b_lss, b_leq, b_gtr, b_geq, b_add, b_sub, b_mul, b_eqlb, b_neqb, b_fnil, b_fnil', b_fnil2, b_fnil2', u_neg, u_not, m_two, s_end, s_end', s_end_iteN, s_res0, s_res1, s_tup1, s_tup2, ↓iteN_true, ↓iteN_false, iteN_true, iteN_false, Nat.zero_add, List.nil_append, List.append_nil, Nat.reduceEqDiff, reduceIte, decide_true, decide_false, Bool.not_true, Bool.not_false, List.getElem?_cons_zero, List.getElem?_cons_succ, Bool.false_eq_true, if_true, if_false, beq_self_eq_true]
  exact ⟨_, rfl, ((((((Keep.refl h).trans (Keep.new _ _)).trans (Keep.new _ _)).put _ (by omega)).put _ (by omega)).put _ (by omega)).put _ (by omega) |>.put _ (by omega)⟩
end Go.Eng
namespace Go.Eng
open Go
variable {E : Nat → Option Fn}
set_option linter.unusedSimpArgs false
set_option linter.unusedVariables false

theorem Wd_mod (n : Nat) : Wd (n % 115792089237316195423570985008687907853269984665640564039457584007913129639936) = Wd n := by
  have e0 : n % 115792089237316195423570985008687907853269984665640564039457584007913129639936 % 18446744073709551616 = n % 18446744073709551616 := by omega
  have d1 : n % 115792089237316195423570985008687907853269984665640564039457584007913129639936 / 18446744073709551616 = n / 18446744073709551616 % 6277101735386680763835789423207666416102355444464034512896 := by omega
  have d2 : n % 115792089237316195423570985008687907853269984665640564039457584007913129639936 / 18446744073709551616 / 18446744073709551616 = n / 18446744073709551616 / 18446744073709551616 % 340282366920938463463374607431768211456 := by rw [d1]; omega
  have d3 : n % 115792089237316195423570985008687907853269984665640564039457584007913129639936 / 18446744073709551616 / 18446744073709551616 / 18446744073709551616 = n / 18446744073709551616 / 18446744073709551616 / 18446744073709551616 % 18446744073709551616 := by rw [d2]; omega
  unfold Wd
  rw [e0, d3, d2, d1]
  congr 1
  · omega
  · omega
  · omega
theorem W4_inj (a b c d a' b' c' d' : Nat) (h : H) : binV .eql (.flat [.i, .i, .i, .i]) h (W4 a b c d) (W4 a' b' c' d') = some (.bool (decide (a = a' ∧ b = b' ∧ c = c' ∧ d = d'))) := by
  have e : binV .eql (.flat [.i, .i, .i, .i]) h (W4 a b c d) (W4 a' b' c' d') = some (.bool (ieq (a : Int) a' && (ieq (b : Int) b' && (ieq (c : Int) c' && (ieq (d : Int) d' && true))))) := rfl
  rw [e]
  simp only [ieq_dec, Bool.and_true]
  congr 2
  rw [Bool.eq_iff_iff]
  simp only [Bool.and_eq_true, decide_eq_true_eq, Int.natCast_inj]
theorem b_eqW (h : H) (x y : Nat) (hx : x < 115792089237316195423570985008687907853269984665640564039457584007913129639936) (hy : y < 115792089237316195423570985008687907853269984665640564039457584007913129639936) : binV .eql (.flat [.i, .i, .i, .i]) h (Wd x) (Wd y) = some (.bool (decide (x = y))) := by
  unfold Wd
  rw [W4_inj]
  congr 2
  rw [Bool.eq_iff_iff]
  simp only [decide_eq_true_eq]
  constructor
  · rintro ⟨h0, h1, h2, h3⟩
    have k1 : x / 18446744073709551616 / 18446744073709551616 / 18446744073709551616 / 18446744073709551616 = 0 := by rw [Nat.div_div_eq_div_mul, Nat.div_div_eq_div_mul, Nat.div_div_eq_div_mul]; exact Nat.div_eq_of_lt hx
    have k2 : y / 18446744073709551616 / 18446744073709551616 / 18446744073709551616 / 18446744073709551616 = 0 := by rw [Nat.div_div_eq_div_mul, Nat.div_div_eq_div_mul, Nat.div_div_eq_div_mul]; exact Nat.div_eq_of_lt hy
    omega
  · rintro rfl; exact ⟨rfl, rfl, rfl, rfl⟩
/-- its cells -/
def cW (n : Nat) : List V := (Wd n).cells
theorem w_cells (n : Nat) : V.cells (Wd n) = cW n := _root_.id rfl
theorem w_len (n : Nat) : (cW n).length = 4 := _root_.id rfl
theorem w_load (n : Nat) (m : Md) : loadE (some (.cells (cW n) m)) (some 4) 0 = some (Wd n) := _root_.id rfl
theorem w_store (h : H) (i o n : Nat) : storeV h 4 (.ptr (some (i, o))) (Wd n) = storeE (h.get i) h i o (cW n) := m_storeA h 4 i o _ rfl
theorem w_write (a b c d : V) (n : Nat) : writeN [a, b, c, d] 0 (cW n) = cW n := _root_.id rfl
theorem w_write' (m n : Nat) : writeN (cW m) 0 (cW n) = cW n := _root_.id rfl
theorem w_st4 (h : H) (i : Nat) (a b c d : V) (n : Nat) : storeE (some (.cells [a, b, c, d] .rw)) h i 0 (cW n) = some (h.put i (.cells (cW n) .rw)) := _root_.id rfl
theorem w_stW (h : H) (i : Nat) (m n : Nat) : storeE (some (.cells (cW m) .rw)) h i 0 (cW n) = some (h.put i (.cells (cW n) .rw)) := _root_.id rfl

theorem nt (m : Nat) (h : m < 18446744073709551616) : asK .u64 (two .u64 - 1 - low .u64 (m : Int)) = ((18446744073709551616 - 1 - m : Nat) : Int) := by
  have e : low .u64 (m : Int) = m := Nat.mod_eq_of_lt h
  rw [e, asK_eq .u64 _ (by show 18446744073709551616 - 1 - m < 18446744073709551616; omega), ← wr_eq]
  exact wr_u64 (by show (0 : Int) ≤ ((18446744073709551616 - 1 - m : Nat) : Int) ∧ ((18446744073709551616 - 1 - m : Nat) : Int) < 18446744073709551616; omega)
theorem sp_Not (e : E k_wide_Not = some f_wide_Not) (n : Nat) (x : Nat) (hx : x < 115792089237316195423570985008687907853269984665640564039457584007913129639936) (h : H) : ∃ h', callN E (n + 7) (.fn k_wide_Not) [Wd x] h = some (Wd (115792089237316195423570985008687907853269984665640564039457584007913129639936 - 1 - x), h') ∧ Keep h h' := by
  obtain ⟨h', r1, r2⟩ := sp_Not4 e n (x % 18446744073709551616 : Nat) (x / 18446744073709551616 % 18446744073709551616 : Nat) (x / 18446744073709551616 / 18446744073709551616 % 18446744073709551616 : Nat) (x / 18446744073709551616 / 18446744073709551616 / 18446744073709551616 % 18446744073709551616 : Nat) h
  refine ⟨h', ?_, r2⟩
  show callN E (n + 7) (.fn k_wide_Not) [.agg [.int .u64 _, .int .u64 _, .int .u64 _, .int .u64 _]] h = _
  rw [r1, nt _ (by omega), nt _ (by omega), nt _ (by omega), nt _ (by omega)]
  have d1 : (115792089237316195423570985008687907853269984665640564039457584007913129639936 - 1 - x) / 18446744073709551616 = 6277101735386680763835789423207666416102355444464034512896 - 1 - x / 18446744073709551616 := by omega
  have d2 : (115792089237316195423570985008687907853269984665640564039457584007913129639936 - 1 - x) / 18446744073709551616 / 18446744073709551616 = 340282366920938463463374607431768211456 - 1 - x / 18446744073709551616 / 18446744073709551616 := by rw [d1]; omega
  have d3 : (115792089237316195423570985008687907853269984665640564039457584007913129639936 - 1 - x) / 18446744073709551616 / 18446744073709551616 / 18446744073709551616 = 18446744073709551616 - 1 - x / 18446744073709551616 / 18446744073709551616 / 18446744073709551616 := by rw [d2]; omega
  have q0 : 18446744073709551616 - 1 - x % 18446744073709551616 = (115792089237316195423570985008687907853269984665640564039457584007913129639936 - 1 - x) % 18446744073709551616 := by omega
  have q1 : 18446744073709551616 - 1 - x / 18446744073709551616 % 18446744073709551616 = (115792089237316195423570985008687907853269984665640564039457584007913129639936 - 1 - x) / 18446744073709551616 % 18446744073709551616 := by rw [d1]; omega
  have q2 : 18446744073709551616 - 1 - x / 18446744073709551616 / 18446744073709551616 % 18446744073709551616 = (115792089237316195423570985008687907853269984665640564039457584007913129639936 - 1 - x) / 18446744073709551616 / 18446744073709551616 % 18446744073709551616 := by rw [d2]; omega
  have q3 : 18446744073709551616 - 1 - x / 18446744073709551616 / 18446744073709551616 / 18446744073709551616 % 18446744073709551616 = (115792089237316195423570985008687907853269984665640564039457584007913129639936 - 1 - x) / 18446744073709551616 / 18446744073709551616 / 18446744073709551616 % 18446744073709551616 := by rw [d3]; omega
  rw [q0, q1, q2, q3]; rfl
end Go.Eng
namespace Go.Eng
open Go
variable {E : Nat → Option Fn}
set_option linter.unusedSimpArgs false
set_option linter.unusedVariables false

/-- the heap behind a call -/
noncomputable def hOf (E : Nat → Option Fn) (n f : Nat) (args : List V) (h : H) : H := match callN E n (.fn f) args h with
  | some (_, h') => h'
  | none => h
theorem hOf_eq {n f : Nat} {args : List V} {h : H} {v : V} (e : ∃ h', callN E n (.fn f) args h = some (v, h') ∧ Keep h h') : callN E n (.fn f) args h = some (v, hOf E n f args h) ∧ Keep h (hOf E n f args h) := by
  obtain ⟨h', e1, e2⟩ := e
  unfold hOf
  rw [e1]; exact ⟨rfl, e2⟩

/-- which is less -/
def cmpW (x y : Nat) : Int := if x = y then 0 else if x < y then -1 else 1
theorem cmpW_lt (x y : Nat) : (cmpW x y < 0) = (x < y) := by
  unfold cmpW
  split
  · simp; omega
  · split <;> simp <;> omega

structure WideE (E : Nat → Option Fn) : Prop where
  Add : E k_wide_Add = some f_wide_Add
  Sub : E k_wide_Sub = some f_wide_Sub
  Not : E k_wide_Not = some f_wide_Not
  Of : E k_wide_Of = some f_wide_Of
  Compare : E k_wide_Compare = some f_wide_Compare

theorem eq_Add (X : WideE E) (n : Nat) (x y : Nat) (hx : x < 115792089237316195423570985008687907853269984665640564039457584007913129639936) (hy : y < 115792089237316195423570985008687907853269984665640564039457584007913129639936) (h : H) : callN E (n + 7) (.fn k_wide_Add) [Wd x, Wd y] h = some (.tup [Wd ((x + y) % 115792089237316195423570985008687907853269984665640564039457584007913129639936), .bool (decide (115792089237316195423570985008687907853269984665640564039457584007913129639936 ≤ x + y))], hOf E (n + 7) k_wide_Add [Wd x, Wd y] h) := by
  rw [Wd_mod]; exact (hOf_eq (sp_Add X.Add n x y hx hy h)).1
theorem kp_Add (X : WideE E) (n : Nat) (x y : Nat) (hx : x < 115792089237316195423570985008687907853269984665640564039457584007913129639936) (hy : y < 115792089237316195423570985008687907853269984665640564039457584007913129639936) (h : H) : Keep h (hOf E (n + 7) k_wide_Add [Wd x, Wd y] h) := (hOf_eq (sp_Add X.Add n x y hx hy h)).2
theorem eq_Sub (X : WideE E) (n : Nat) (x y : Nat) (hx : x < 115792089237316195423570985008687907853269984665640564039457584007913129639936) (hy : y < 115792089237316195423570985008687907853269984665640564039457584007913129639936) (h : H) : callN E (n + 7) (.fn k_wide_Sub) [Wd x, Wd y] h = some (.tup [Wd ((x + 115792089237316195423570985008687907853269984665640564039457584007913129639936 - y) % 115792089237316195423570985008687907853269984665640564039457584007913129639936), .bool (decide (x < y))], hOf E (n + 7) k_wide_Sub [Wd x, Wd y] h) := by
  rw [Wd_mod]; exact (hOf_eq (sp_Sub X.Sub n x y hx hy h)).1
theorem kp_Sub (X : WideE E) (n : Nat) (x y : Nat) (hx : x < 115792089237316195423570985008687907853269984665640564039457584007913129639936) (hy : y < 115792089237316195423570985008687907853269984665640564039457584007913129639936) (h : H) : Keep h (hOf E (n + 7) k_wide_Sub [Wd x, Wd y] h) := (hOf_eq (sp_Sub X.Sub n x y hx hy h)).2
theorem eq_Not (X : WideE E) (n : Nat) (x : Nat) (hx : x < 115792089237316195423570985008687907853269984665640564039457584007913129639936) (h : H) : callN E (n + 7) (.fn k_wide_Not) [Wd x] h = some (Wd (115792089237316195423570985008687907853269984665640564039457584007913129639936 - 1 - x), hOf E (n + 7) k_wide_Not [Wd x] h) := (hOf_eq (sp_Not X.Not n x hx h)).1
theorem kp_Not (X : WideE E) (n : Nat) (x : Nat) (hx : x < 115792089237316195423570985008687907853269984665640564039457584007913129639936) (h : H) : Keep h (hOf E (n + 7) k_wide_Not [Wd x] h) := (hOf_eq (sp_Not X.Not n x hx h)).2
theorem sp_Of1 (X : WideE E) (n : Nat) (h : H) : ∃ h', callN E (n + 1) (.fn k_wide_Of) [.int .u64 1] h = some (Wd 1, h') ∧ Keep h h' := by
  rw [s_cfn X.Of _ _ (Nat.le_of_ble_eq_true rfl)]
  simp (disch := first | omega | (simp only [List.length_cons, List.length_nil, List.length_append, List.length_drop]; omega)) only [↓x_build, x_aggO, ↓l_loop, ↓l_succ, ↓l_normal, l_normal, l_exit, l_ret, l_iteN, ↓h_put_get, ↓h_new_get, ↓h_del_get, h_next_put, h_next_new, h_next_del, Nat.add_assoc, Nat.add_eq_left, Nat.left_eq_add, Nat.add_left_cancel_iff, ↓s_load, m_load, ↓m_load1, m_load1, ↓m_st, m_stE, m_storeI, m_storeE, w_zero, w_succ, ↓s_alloc, ↓x_idxA, ↓x_idxS, x_idxAE, x_idxSE, x_addrE, x_idx, x_lenS, ↓s_len, ↓x_buildS, x_buildE, ↓x_P0, ↓x_P1, x_fill0, x_filli, x_fills, x_fillb, c_int, List.length_cons, List.length_nil, List.cons_append, List.drop_succ_cons, List.drop_zero, List.drop_nil, List.nil_append, Int.reduceAdd, Int.reduceToNat, Int.reduceLT, Int.reduceLE, Nat.reduceAdd, Nat.reduceMul, Nat.reduceLeDiff, Int.reduceEq, Int.reduceSub, Int.cast_ofNat_Int, s_resc, s_consR, m_load4, m_store4, s_res0, ↓s_skip, ↓s_ops, ↓s_dops, ↓s_seq, ↓s_cond, ↓s_block, ↓s_exit, ↓s_ret, ↓s_scope, ↓s_nil, ↓s_op, ↓s_opg, ↓s_wanted', ↓s_wantV, s_wantV, s_wantV0, beq_true, beq_false, ↓s_bindS, s_bindS, ↓s_bindE, s_bindE, s_bindE_ret, s_bindE_exit, s_bindE_iteN, s_norm, ↓s_condV, s_condV, s_block_ret, s_block_normal, s_block_exit, s_block_iteN, ↓s_getp, ↓s_getp0, ↓s_get, s_get0, ↓s_con, ↓s_fn, ↓s_os0, ↓s_os1, ↓s_list0, ↓s_list1, ↓s_mov, ↓s_pick, ↓s_pickE, s_pickE, ↓s_bin, ↓s_un, ↓s_minmax, ↓s_call, ↓s_callv, ↓s_callV, ↓s_ext, s_same, b_eql, b_neq, b_lss, b_leq, b_gtr, b_geq, b_add, b_sub, b_mul, b_eqlb, b_neqb, b_fnil, b_fnil', b_fnil2, b_fnil2', u_neg, u_not, m_two, s_end, s_end', s_end_iteN, s_res0, s_res1, s_tup1, s_tup2, ↓iteN_true, ↓iteN_false, iteN_true, iteN_false, Nat.zero_add, List.nil_append, List.append_nil, Nat.reduceEqDiff, reduceIte, decide_true, decide_false, Bool.not_true, Bool.not_false, List.getElem?_cons_zero, List.getElem?_cons_succ, Bool.false_eq_true, if_true, if_false, beq_self_eq_true]
  exact ⟨_, rfl, (((Keep.refl h).trans (Keep.new _ _)).put _ (by omega))⟩
theorem eq_Of1 (X : WideE E) (n : Nat) (h : H) : callN E (n + 1) (.fn k_wide_Of) [.int .u64 1] h = some (Wd 1, hOf E (n + 1) k_wide_Of [.int .u64 1] h) := (hOf_eq (sp_Of1 X n h)).1
theorem kp_Of1 (X : WideE E) (n : Nat) (h : H) : Keep h (hOf E (n + 1) k_wide_Of [.int .u64 1] h) := (hOf_eq (sp_Of1 X n h)).2
theorem sp_Compare (X : WideE E) (n : Nat) (x y : Nat) (hx : x < 115792089237316195423570985008687907853269984665640564039457584007913129639936) (hy : y < 115792089237316195423570985008687907853269984665640564039457584007913129639936) (h : H) : ∃ h', callN E (n + 8) (.fn k_wide_Compare) [Wd x, Wd y] h = some (.int .i64 (cmpW x y), h') ∧ Keep h h' := by
  rw [s_cfn X.Compare _ _ (Nat.le_of_ble_eq_true rfl)]
  by_cases he : x = y
  · simp (disch := first | omega | (simp only [List.length_cons, List.length_nil, List.length_append, List.length_drop]; omega)) only [↓s_box, w_cells, w_load, b_eqW, he, cmpW, ↓l_loop, ↓l_succ, ↓l_normal, l_normal, l_exit, l_ret, l_iteN, ↓h_put_get, ↓h_new_get, ↓h_del_get, h_next_put, h_next_new, h_next_del, Nat.add_assoc, Nat.add_eq_left, Nat.left_eq_add, Nat.add_left_cancel_iff, ↓s_load, m_load, ↓m_load1, m_load1, ↓m_st, m_stE, m_storeI, m_storeE, w_zero, w_succ, ↓s_alloc, ↓x_idxA, ↓x_idxS, x_idxAE, x_idxSE, x_addrE, x_idx, x_lenS, ↓s_len, ↓x_buildS, x_buildE, ↓x_P0, ↓x_P1, x_fill0, x_filli, x_fills, x_fillb, c_int, List.length_cons, List.length_nil, List.cons_append, List.drop_succ_cons, List.drop_zero, List.drop_nil, List.nil_append, Int.reduceAdd, Int.reduceToNat, Int.reduceLT, Int.reduceLE, Nat.reduceAdd, Nat.reduceMul, Nat.reduceLeDiff, Int.reduceEq, Int.reduceSub, Int.cast_ofNat_Int, s_resc, s_consR, m_load4, m_store4, s_res0, ↓s_skip, ↓s_ops, ↓s_dops, ↓s_seq, ↓s_cond, ↓s_block, ↓s_exit, ↓s_ret, ↓s_scope, ↓s_nil, ↓s_op, ↓s_opg, ↓s_wanted', ↓s_wantV, s_wantV, s_wantV0, beq_true, beq_false, ↓s_bindS, s_bindS, ↓s_bindE, s_bindE, s_bindE_ret, s_bindE_exit, s_bindE_iteN, s_norm, ↓s_condV, s_condV, s_block_ret, s_block_normal, s_block_exit, s_block_iteN, ↓s_getp, ↓s_getp0, ↓s_get, s_get0, ↓s_con, ↓s_fn, ↓s_os0, ↓s_os1, ↓s_list0, ↓s_list1, ↓s_mov, ↓s_pick, ↓s_pickE, s_pickE, ↓s_bin, ↓s_un, ↓s_minmax, ↓s_call, ↓s_callv, ↓s_callV, ↓s_ext, s_same, b_eql, b_neq, b_lss, b_leq, b_gtr, b_geq, b_add, b_sub, b_mul, b_eqlb, b_neqb, b_fnil, b_fnil', b_fnil2, b_fnil2', u_neg, u_not, m_two, s_end, s_end', s_end_iteN, s_res0, s_res1, s_tup1, s_tup2, ↓iteN_true, ↓iteN_false, iteN_true, iteN_false, Nat.zero_add, List.nil_append, List.append_nil, Nat.reduceEqDiff, reduceIte, decide_true, decide_false, Bool.not_true, Bool.not_false, List.getElem?_cons_zero, List.getElem?_cons_succ, Bool.false_eq_true, if_true, if_false, beq_self_eq_true]
    exact ⟨_, rfl, ((Keep.refl h).trans (Keep.new _ _)).trans (Keep.new _ _)⟩
  · have hk := kp_Sub X n x y hx hy ((h.new (.cells (cW x) .rw)).new (.cells (cW y) .rw))
    by_cases hl : x < y
    · simp (disch := first | omega | (simp only [List.length_cons, List.length_nil, List.length_append, List.length_drop]; omega)) only [↓s_box, w_cells, w_load, w_store, w_st4, b_eqW, he, hl, cmpW, eq_Sub X, ↓l_loop, ↓l_succ, ↓l_normal, l_normal, l_exit, l_ret, l_iteN, ↓h_put_get, ↓h_new_get, ↓h_del_get, h_next_put, h_next_new, h_next_del, Nat.add_assoc, Nat.add_eq_left, Nat.left_eq_add, Nat.add_left_cancel_iff, ↓s_load, m_load, ↓m_load1, m_load1, ↓m_st, m_stE, m_storeI, m_storeE, w_zero, w_succ, ↓s_alloc, ↓x_idxA, ↓x_idxS, x_idxAE, x_idxSE, x_addrE, x_idx, x_lenS, ↓s_len, ↓x_buildS, x_buildE, ↓x_P0, ↓x_P1, x_fill0, x_filli, x_fills, x_fillb, c_int, List.length_cons, List.length_nil, List.cons_append, List.drop_succ_cons, List.drop_zero, List.drop_nil, List.nil_append, Int.reduceAdd, Int.reduceToNat, Int.reduceLT, Int.reduceLE, Nat.reduceAdd, Nat.reduceMul, Nat.reduceLeDiff, Int.reduceEq, Int.reduceSub, Int.cast_ofNat_Int, s_resc, s_consR, m_load4, m_store4, s_res0, ↓s_skip, ↓s_ops, ↓s_dops, ↓s_seq, ↓s_cond, ↓s_block, ↓s_exit, ↓s_ret, ↓s_scope, ↓s_nil, ↓s_op, ↓s_opg, ↓s_wanted', ↓s_wantV, s_wantV, s_wantV0, beq_true, beq_false, ↓s_bindS, s_bindS, ↓s_bindE, s_bindE, s_bindE_ret, s_bindE_exit, s_bindE_iteN, s_norm, ↓s_condV, s_condV, s_block_ret, s_block_normal, s_block_exit, s_block_iteN, ↓s_getp, ↓s_getp0, ↓s_get, s_get0, ↓s_con, ↓s_fn, ↓s_os0, ↓s_os1, ↓s_list0, ↓s_list1, ↓s_mov, ↓s_pick, ↓s_pickE, s_pickE, ↓s_bin, ↓s_un, ↓s_minmax, ↓s_call, ↓s_callv, ↓s_callV, ↓s_ext, s_same, b_eql, b_neq, b_lss, b_leq, b_gtr, b_geq, b_add, b_sub, b_mul, b_eqlb, b_neqb, b_fnil, b_fnil', b_fnil2, b_fnil2', u_neg, u_not, m_two, s_end, s_end', s_end_iteN, s_res0, s_res1, s_tup1, s_tup2, ↓iteN_true, ↓iteN_false, iteN_true, iteN_false, Nat.zero_add, List.nil_append, List.append_nil, Nat.reduceEqDiff, reduceIte, decide_true, decide_false, Bool.not_true, Bool.not_false, List.getElem?_cons_zero, List.getElem?_cons_succ, Bool.false_eq_true, if_true, if_false, beq_self_eq_true]
      exact ⟨_, rfl, (((((Keep.refl h).trans (Keep.new _ _)).trans (Keep.new _ _)).trans hk).trans (Keep.new _ _)).put _ (Nat.le_trans (Nat.le_of_lt (by rw [H.next_new, H.next_new]; omega)) hk.1)⟩
    · simp (disch := first | omega | (simp only [List.length_cons, List.length_nil, List.length_append, List.length_drop]; omega)) only [↓s_box, w_cells, w_load, w_store, w_st4, b_eqW, he, hl, cmpW, eq_Sub X, ↓l_loop, ↓l_succ, ↓l_normal, l_normal, l_exit, l_ret, l_iteN, ↓h_put_get, ↓h_new_get, ↓h_del_get, h_next_put, h_next_new, h_next_del, Nat.add_assoc, Nat.add_eq_left, Nat.left_eq_add, Nat.add_left_cancel_iff, ↓s_load, m_load, ↓m_load1, m_load1, ↓m_st, m_stE, m_storeI, m_storeE, w_zero, w_succ, ↓s_alloc, ↓x_idxA, ↓x_idxS, x_idxAE, x_idxSE, x_addrE, x_idx, x_lenS, ↓s_len, ↓x_buildS, x_buildE, ↓x_P0, ↓x_P1, x_fill0, x_filli, x_fills, x_fillb, c_int, List.length_cons, List.length_nil, List.cons_append, List.drop_succ_cons, List.drop_zero, List.drop_nil, List.nil_append, Int.reduceAdd, Int.reduceToNat, Int.reduceLT, Int.reduceLE, Nat.reduceAdd, Nat.reduceMul, Nat.reduceLeDiff, Int.reduceEq, Int.reduceSub, Int.cast_ofNat_Int, s_resc, s_consR, m_load4, m_store4, s_res0, ↓s_skip, ↓s_ops, ↓s_dops, ↓s_seq, ↓s_cond, ↓s_block, ↓s_exit, ↓s_ret, ↓s_scope, ↓s_nil, ↓s_op, ↓s_opg, ↓s_wanted', ↓s_wantV, s_wantV, s_wantV0, beq_true, beq_false, ↓s_bindS, s_bindS, ↓s_bindE, s_bindE, s_bindE_ret, s_bindE_exit, s_bindE_iteN, s_norm, ↓s_condV, s_condV, s_block_ret, s_block_normal, s_block_exit, s_block_iteN, ↓s_getp, ↓s_getp0, ↓s_get, s_get0, ↓s_con, ↓s_fn, ↓s_os0, ↓s_os1, ↓s_list0, ↓s_list1, ↓s_mov, ↓s_pick, ↓s_pickE, s_pickE, ↓s_bin, ↓s_un, ↓s_minmax, ↓s_call, ↓s_callv, ↓s_callV, ↓s_ext, s_same, b_eql, b_neq, b_lss, b_leq, b_gtr, b_geq, b_add, b_sub, b_mul, b_eqlb, b_neqb, b_fnil, b_fnil', b_fnil2, b_fnil2', u_neg, u_not, m_two, s_end, s_end', s_end_iteN, s_res0, s_res1, s_tup1, s_tup2, ↓iteN_true, ↓iteN_false, iteN_true, iteN_false, Nat.zero_add, List.nil_append, List.append_nil, Nat.reduceEqDiff, reduceIte, decide_true, decide_false, Bool.not_true, Bool.not_false, List.getElem?_cons_zero, List.getElem?_cons_succ, Bool.false_eq_true, if_true, if_false, beq_self_eq_true]
      exact ⟨_, rfl, (((((Keep.refl h).trans (Keep.new _ _)).trans (Keep.new _ _)).trans hk).trans (Keep.new _ _)).put _ (Nat.le_trans (Nat.le_of_lt (by rw [H.next_new, H.next_new]; omega)) hk.1)⟩
theorem eq_Compare (X : WideE E) (n : Nat) (x y : Nat) (hx : x < 115792089237316195423570985008687907853269984665640564039457584007913129639936) (hy : y < 115792089237316195423570985008687907853269984665640564039457584007913129639936) (h : H) : callN E (n + 8) (.fn k_wide_Compare) [Wd x, Wd y] h = some (.int .i64 (cmpW x y), hOf E (n + 8) k_wide_Compare [Wd x, Wd y] h) := (hOf_eq (sp_Compare X n x y hx hy h)).1
theorem kp_Compare (X : WideE E) (n : Nat) (x y : Nat) (hx : x < 115792089237316195423570985008687907853269984665640564039457584007913129639936) (hy : y < 115792089237316195423570985008687907853269984665640564039457584007913129639936) (h : H) : Keep h (hOf E (n + 8) k_wide_Compare [Wd x, Wd y] h) := (hOf_eq (sp_Compare X n x y hx hy h)).2
end Go.Eng
namespace Go.Eng
open Go
variable {E : Nat → Option Fn}
set_option linter.unusedSimpArgs false
set_option linter.unusedVariables false
theorem ne_dec (a b : Nat) (h : ¬ a = b) : decide (a = b) = false := by simp [h]
theorem eq_decT (a b : Nat) (h : a = b) : decide (a = b) = true := by simp [h]
theorem dd_ (P Q : Prop) [Decidable P] [Decidable Q] (h : (P → Q) ∧ (Q → P)) : (decide P == decide Q) = true := by
  have : P ↔ Q := ⟨h.1, h.2⟩
  simp [this]
theorem ad_ (X : WideE E) (n : Nat) (x y : Nat) (h : H) (hx : x < 115792089237316195423570985008687907853269984665640564039457584007913129639936) (hy : y < 115792089237316195423570985008687907853269984665640564039457584007913129639936) : ∃ h', callN E (n + 7) (.fn k_wide_Add) [Wd x, Wd y] h = some (.tup [Wd ((x + y) % 115792089237316195423570985008687907853269984665640564039457584007913129639936), .bool (decide (115792089237316195423570985008687907853269984665640564039457584007913129639936 ≤ x + y))], h') ∧ Keep h h' := ⟨_, eq_Add X n x y hx hy h, kp_Add X n x y hx hy h⟩
theorem sb_ (X : WideE E) (n : Nat) (x y : Nat) (h : H) (hx : x < 115792089237316195423570985008687907853269984665640564039457584007913129639936) (hy : y < 115792089237316195423570985008687907853269984665640564039457584007913129639936) : ∃ h', callN E (n + 7) (.fn k_wide_Sub) [Wd x, Wd y] h = some (.tup [Wd ((x + 115792089237316195423570985008687907853269984665640564039457584007913129639936 - y) % 115792089237316195423570985008687907853269984665640564039457584007913129639936), .bool (decide (x < y))], h') ∧ Keep h h' := ⟨_, eq_Sub X n x y hx hy h, kp_Sub X n x y hx hy h⟩
theorem w_beq (n : Nat) : V.beq (Wd n) (Wd n) = true := by
  have hi : ∀ (a : Int), ieq a a = true := fun a => by rw [ieq_dec]; simp
  unfold Wd W4
  simp only [V.beq, V.beqs, hi, kindEq_self, Bool.and_self]
end Go.Eng
namespace Go.Eng
open Go
variable {E : Nat → Option Fn}
set_option linter.unusedSimpArgs false
set_option linter.unusedVariables false
theorem asK_u64 (r : Nat) (h : r < 18446744073709551616) : asK .u64 r = (r : Int) := by
  have : half .u64 = 18446744073709551616 := rfl
  unfold asK
  rw [this]
  have : Nat.blt r 18446744073709551616 = true := by
    rw [Nat.blt_eq]; exact h
  rw [this]; rfl
theorem n_add (a b : Nat) (h : H) : binV .add .no h (.int .u64 (a : Int)) (.int .u64 (b : Int)) = some (.int .u64 (((a + b) % 18446744073709551616 : Nat) : Int)) := by
  rw [b_add]
  show some (V.int .u64 (asK .u64 ((a + b) % 18446744073709551616))) = _
  rw [asK_u64 _ (by omega)]
theorem n_mul (a b : Nat) (h : H) : binV .mul .no h (.int .u64 (a : Int)) (.int .u64 (b : Int)) = some (.int .u64 (((a * b) % 18446744073709551616 : Nat) : Int)) := by
  rw [b_mul]
  show some (V.int .u64 (asK .u64 ((a * b) % 18446744073709551616))) = _
  rw [asK_u64 _ (Nat.mod_lt _ (by omega))]
theorem n_and (a : Nat) (h : H) : binV .and .no h (.int .u64 (a : Int)) (.int .u64 4294967295) = some (.int .u64 ((a % 4294967296 : Nat) : Int)) := by
  show some (V.int .u64 (asK .u64 (Nat.land (a % 18446744073709551616) (4294967295 % 18446744073709551616)))) = _
  have : Nat.land (a % 18446744073709551616) (4294967295 % 18446744073709551616) = a % 4294967296 := by
    show (a % 18446744073709551616) &&& (2 ^ 32 - 1) = _
    rw [Nat.and_two_pow_sub_one_eq_mod]
    omega
  rw [this, asK_u64 _ (by omega)]
theorem n_shr (a : Nat) (h : H) : binV .shr .no h (.int .u64 (a : Int)) (.int .u64 32) = some (.int .u64 ((a / 4294967296 : Nat) : Int)) := by
  rfl
theorem mulHi (x y : Nat) (hx : x < 18446744073709551616) (hy : y < 18446744073709551616) : (((x / 4294967296 * (y / 4294967296) % 18446744073709551616 +
                  (x / 4294967296 * (y % 4294967296) % 18446744073709551616 +
                        x % 4294967296 * (y % 4294967296) % 18446744073709551616 / 4294967296) %
                      18446744073709551616 /
                    4294967296) %
                18446744073709551616 +
              ((x / 4294967296 * (y % 4294967296) % 18446744073709551616 +
                          x % 4294967296 * (y % 4294967296) % 18446744073709551616 / 4294967296) %
                        18446744073709551616 %
                      4294967296 +
                    x % 4294967296 * (y / 4294967296) % 18446744073709551616) %
                  18446744073709551616 /
                4294967296) %
            18446744073709551616) = x * y / 18446744073709551616 := by
  have e : x * y = x / 4294967296 * (y / 4294967296) * 18446744073709551616 + x / 4294967296 * (y % 4294967296) * 4294967296 + x % 4294967296 * (y / 4294967296) * 4294967296 + x % 4294967296 * (y % 4294967296) := by
    have a : x = x / 4294967296 * 4294967296 + x % 4294967296 := by omega
    have b : y = y / 4294967296 * 4294967296 + y % 4294967296 := by omega
    generalize x / 4294967296 = x1 at a ⊢
    generalize x % 4294967296 = x0 at a ⊢
    generalize y / 4294967296 = y1 at b ⊢
    generalize y % 4294967296 = y0 at b ⊢
    subst a b
    rw [Nat.add_mul, Nat.mul_add, Nat.mul_add]
    have e1 : x1 * 4294967296 * (y1 * 4294967296) = x1 * y1 * 18446744073709551616 := by rw [Nat.mul_mul_mul_comm]
    have e2 : x1 * 4294967296 * y0 = x1 * y0 * 4294967296 := by rw [Nat.mul_right_comm]
    have e3 : x0 * (y1 * 4294967296) = x0 * y1 * 4294967296 := by rw [Nat.mul_assoc]
    rw [e1, e2, e3]
    omega
  have b11 : x / 4294967296 * (y / 4294967296) ≤ 4294967295 * 4294967295 := Nat.mul_le_mul (by omega) (by omega)
  have b10 : x / 4294967296 * (y % 4294967296) ≤ 4294967295 * 4294967295 := Nat.mul_le_mul (by omega) (by omega)
  have b01 : x % 4294967296 * (y / 4294967296) ≤ 4294967295 * 4294967295 := Nat.mul_le_mul (by omega) (by omega)
  have b00 : x % 4294967296 * (y % 4294967296) ≤ 4294967295 * 4294967295 := Nat.mul_le_mul (by omega) (by omega)
  rw [e]
  generalize x / 4294967296 * (y / 4294967296) = p11 at *
  generalize x / 4294967296 * (y % 4294967296) = p10 at *
  generalize x % 4294967296 * (y / 4294967296) = p01 at *
  generalize x % 4294967296 * (y % 4294967296) = p00 at *
  clear e
  omega
set_option maxRecDepth 20000 in
theorem sp_Mul64 (e : E k_math_bits_Mul64 = some f_math_bits_Mul64) (n : Nat) (x y : Nat) (hx : x < 18446744073709551616) (hy : y < 18446744073709551616) (h : H) : callN E (n + 3) (.fn k_math_bits_Mul64) [.int .u64 (x : Int), .int .u64 (y : Int)] h = some (.tup [.int .u64 ((x * y / 18446744073709551616 : Nat) : Int), .int .u64 ((x * y % 18446744073709551616 : Nat) : Int)], h) := by
  rw [s_cfn e _ _ (Nat.le_of_ble_eq_true rfl)]
  simp (config := {maxSteps := 1000000}) (disch := omega) only [n_add, n_mul, n_and, n_shr, ↓s_skip, ↓s_ops, ↓s_dops, ↓s_seq, ↓s_cond, ↓s_block, ↓s_exit, ↓s_ret, ↓s_scope, ↓s_nil, ↓s_op, ↓s_opg, ↓s_wanted', ↓s_wantV, s_wantV, s_wantV0, beq_true, beq_false, ↓s_bindS, s_bindS, ↓s_bindE, s_bindE, s_bindE_ret, s_bindE_exit, s_bindE_iteN, s_norm, ↓s_condV, s_condV, s_block_ret, s_block_normal, s_block_exit, s_block_iteN, ↓s_getp, ↓s_getp0, ↓s_get, s_get0, ↓s_con, ↓s_fn, ↓s_os0, ↓s_os1, ↓s_list0, ↓s_list1, ↓s_mov, ↓s_pick, ↓s_pickE, s_pickE, ↓s_bin, ↓s_un, ↓s_minmax, ↓s_call, ↓s_callv, ↓s_callV, ↓s_ext, s_same, b_eql, b_neq, b_lss, b_leq, b_gtr, b_geq, b_eqlb, b_neqb, b_fnil, b_fnil', b_fnil2, b_fnil2', u_neg, u_not, m_two, s_end, s_end', s_end_iteN, s_res0, s_res1, s_tup1, s_tup2, ↓iteN_true, ↓iteN_false, iteN_true, iteN_false, Nat.zero_add, List.nil_append, List.append_nil, Nat.reduceEqDiff, reduceIte, decide_true, decide_false, Bool.not_true, Bool.not_false, List.getElem?_cons_zero, List.getElem?_cons_succ, Bool.false_eq_true, if_true, if_false, beq_self_eq_true]
  rw [mulHi x y hx hy]

theorem mulAddLow (a b c d : Nat) : ((a * b % 18446744073709551616 + (c + 0)) % 18446744073709551616 + (d + 0)) % 18446744073709551616 = (a * b + c + d) % 18446744073709551616 := by
  omega
set_option maxRecDepth 20000 in
theorem sp_mulAdd (e0 : E k_math_bits_Mul64 = some f_math_bits_Mul64) (e : E k_wide_mulAdd = some f_wide_mulAdd) (n : Nat) (a b c d : Nat) (ha : a < 18446744073709551616) (hb : b < 18446744073709551616) (hc : c < 18446744073709551616) (hd : d < 18446744073709551616) (h : H) : callN E (n + 4) (.fn k_wide_mulAdd) [.int .u64 (a : Int), .int .u64 (b : Int), .int .u64 (c : Int), .int .u64 (d : Int)] h = some (.tup [.int .u64 (((a * b + c + d) % 18446744073709551616 : Nat) : Int), .int .u64 (((a * b + c + d) / 18446744073709551616 : Nat) : Int)], h) := by
  rw [s_cfn e _ _ (Nat.le_of_ble_eq_true rfl)]
  simp (config := {maxSteps := 1000000}) (disch := omega) only [sp_Mul64 e0, x_add0, ↓s_bits, Nat.reduceAdd, n_add, n_mul, n_and, n_shr, ↓s_skip, ↓s_ops, ↓s_dops, ↓s_seq, ↓s_cond, ↓s_block, ↓s_exit, ↓s_ret, ↓s_scope, ↓s_nil, ↓s_op, ↓s_opg, ↓s_wanted', ↓s_wantV, s_wantV, s_wantV0, beq_true, beq_false, ↓s_bindS, s_bindS, ↓s_bindE, s_bindE, s_bindE_ret, s_bindE_exit, s_bindE_iteN, s_norm, ↓s_condV, s_condV, s_block_ret, s_block_normal, s_block_exit, s_block_iteN, ↓s_getp, ↓s_getp0, ↓s_get, s_get0, ↓s_con, ↓s_fn, ↓s_os0, ↓s_os1, ↓s_list0, ↓s_list1, ↓s_mov, ↓s_pick, ↓s_pickE, s_pickE, ↓s_bin, ↓s_un, ↓s_minmax, ↓s_call, ↓s_callv, ↓s_callV, ↓s_ext, s_same, b_eql, b_neq, b_lss, b_leq, b_gtr, b_geq, b_eqlb, b_neqb, b_fnil, b_fnil', b_fnil2, b_fnil2', u_neg, u_not, m_two, s_end, s_end', s_end_iteN, s_res0, s_res1, s_tup1, s_tup2, ↓iteN_true, ↓iteN_false, iteN_true, iteN_false, Nat.zero_add, List.nil_append, List.append_nil, Nat.reduceEqDiff, reduceIte, decide_true, decide_false, Bool.not_true, Bool.not_false, List.getElem?_cons_zero, List.getElem?_cons_succ, Bool.false_eq_true, if_true, if_false, beq_self_eq_true]
  have m : a * b ≤ 18446744073709551615 * 18446744073709551615 := Nat.mul_le_mul (by omega) (by omega)
  have e2 : ((a * b / 18446744073709551616 + (a * b % 18446744073709551616 + (c + 0)) / 18446744073709551616) % 18446744073709551616 + ((a * b % 18446744073709551616 + (c + 0)) % 18446744073709551616 + (d + 0)) / 18446744073709551616) % 18446744073709551616 = (a * b + c + d) / 18446744073709551616 := by
    generalize a * b = p at m ⊢
    omega
  rw [mulAddLow, e2]
end Go.Eng
