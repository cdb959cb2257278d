/- What the product of package wide comes to: own work. -/
import Derived.Test.YtniiddgjepkmeaaWideP
import Derived.Test.YtniiddgjepkmeaaWideG
namespace Go.Eng
open Go
variable {E : Nat → Option Fn}
set_option linter.unusedSimpArgs false
set_option linter.unusedVariables false
theorem asK_u64 (r : Nat) (h : r < 18446744073709551616) : asK .u64 r = (r : Int) := by
  have : half .u64 = 18446744073709551616 := rfl
  unfold asK
  rw [this]
  have : Nat.blt r 18446744073709551616 = true := by
    rw [Nat.blt_eq]; exact h
  rw [this]; rfl
theorem n_add (a b : Nat) (h : H) : binV .add .no h (.int .u64 (a : Int)) (.int .u64 (b : Int)) = some (.int .u64 (((a + b) % 18446744073709551616 : Nat) : Int)) := by
  rw [b_add]
  show some (V.int .u64 (asK .u64 ((a + b) % 18446744073709551616))) = _
  rw [asK_u64 _ (by omega)]
theorem n_mul (a b : Nat) (h : H) : binV .mul .no h (.int .u64 (a : Int)) (.int .u64 (b : Int)) = some (.int .u64 (((a * b) % 18446744073709551616 : Nat) : Int)) := by
  rw [b_mul]
  show some (V.int .u64 (asK .u64 ((a * b) % 18446744073709551616))) = _
  rw [asK_u64 _ (Nat.mod_lt _ (by omega))]
theorem n_and (a : Nat) (h : H) : binV .and .no h (.int .u64 (a : Int)) (.int .u64 4294967295) = some (.int .u64 ((a % 4294967296 : Nat) : Int)) := by
  show some (V.int .u64 (asK .u64 (Nat.land (a % 18446744073709551616) (4294967295 % 18446744073709551616)))) = _
  have : Nat.land (a % 18446744073709551616) (4294967295 % 18446744073709551616) = a % 4294967296 := by
    show (a % 18446744073709551616) &&& (2 ^ 32 - 1) = _
    rw [Nat.and_two_pow_sub_one_eq_mod]
    omega
  rw [this, asK_u64 _ (by omega)]
theorem n_shr (a : Nat) (h : H) : binV .shr .no h (.int .u64 (a : Int)) (.int .u64 32) = some (.int .u64 ((a / 4294967296 : Nat) : Int)) := by
  rfl
theorem mulHi (x y : Nat) (hx : x < 18446744073709551616) (hy : y < 18446744073709551616) : (((x / 4294967296 * (y / 4294967296) % 18446744073709551616 +
                  (x / 4294967296 * (y % 4294967296) % 18446744073709551616 +
                        x % 4294967296 * (y % 4294967296) % 18446744073709551616 / 4294967296) %
                      18446744073709551616 /
                    4294967296) %
                18446744073709551616 +
              ((x / 4294967296 * (y % 4294967296) % 18446744073709551616 +
                          x % 4294967296 * (y % 4294967296) % 18446744073709551616 / 4294967296) %
                        18446744073709551616 %
                      4294967296 +
                    x % 4294967296 * (y / 4294967296) % 18446744073709551616) %
                  18446744073709551616 /
                4294967296) %
            18446744073709551616) = x * y / 18446744073709551616 := by
  have e : x * y = x / 4294967296 * (y / 4294967296) * 18446744073709551616 + x / 4294967296 * (y % 4294967296) * 4294967296 + x % 4294967296 * (y / 4294967296) * 4294967296 + x % 4294967296 * (y % 4294967296) := by
    have a : x = x / 4294967296 * 4294967296 + x % 4294967296 := by omega
    have b : y = y / 4294967296 * 4294967296 + y % 4294967296 := by omega
    generalize x / 4294967296 = x1 at a ⊢
    generalize x % 4294967296 = x0 at a ⊢
    generalize y / 4294967296 = y1 at b ⊢
    generalize y % 4294967296 = y0 at b ⊢
    subst a b
    rw [Nat.add_mul, Nat.mul_add, Nat.mul_add]
    have e1 : x1 * 4294967296 * (y1 * 4294967296) = x1 * y1 * 18446744073709551616 := by rw [Nat.mul_mul_mul_comm]
    have e2 : x1 * 4294967296 * y0 = x1 * y0 * 4294967296 := by rw [Nat.mul_right_comm]
    have e3 : x0 * (y1 * 4294967296) = x0 * y1 * 4294967296 := by rw [Nat.mul_assoc]
    rw [e1, e2, e3]
    omega
  have b11 : x / 4294967296 * (y / 4294967296) ≤ 4294967295 * 4294967295 := Nat.mul_le_mul (by omega) (by omega)
  have b10 : x / 4294967296 * (y % 4294967296) ≤ 4294967295 * 4294967295 := Nat.mul_le_mul (by omega) (by omega)
  have b01 : x % 4294967296 * (y / 4294967296) ≤ 4294967295 * 4294967295 := Nat.mul_le_mul (by omega) (by omega)
  have b00 : x % 4294967296 * (y % 4294967296) ≤ 4294967295 * 4294967295 := Nat.mul_le_mul (by omega) (by omega)
  rw [e]
  generalize x / 4294967296 * (y / 4294967296) = p11 at *
  generalize x / 4294967296 * (y % 4294967296) = p10 at *
  generalize x % 4294967296 * (y / 4294967296) = p01 at *
  generalize x % 4294967296 * (y % 4294967296) = p00 at *
  clear e
  omega
set_option maxRecDepth 20000 in
theorem sp_Mul64 (e : E k_math_bits_Mul64 = some f_math_bits_Mul64) (n : Nat) (x y : Nat) (hx : x < 18446744073709551616) (hy : y < 18446744073709551616) (h : H) : callN E (n + 3) (.fn k_math_bits_Mul64) [.int .u64 (x : Int), .int .u64 (y : Int)] h = some (.tup [.int .u64 ((x * y / 18446744073709551616 : Nat) : Int), .int .u64 ((x * y % 18446744073709551616 : Nat) : Int)], h) := by
  rw [s_cfn e _ _ (Nat.le_of_ble_eq_true rfl)]
  simp (config := {maxSteps := 1000000}) (disch := omega) only [n_add, n_mul, n_and, n_shr, ↓s_skip, ↓s_ops, ↓s_dops, ↓s_seq, ↓s_cond, ↓s_block, ↓s_exit, ↓s_ret, ↓s_scope, ↓s_nil, ↓s_op, ↓s_opg, ↓s_wanted', ↓s_wantV, s_wantV, s_wantV0, beq_true, beq_false, ↓s_bindS, s_bindS, ↓s_bindE, s_bindE, s_bindE_ret, s_bindE_exit, s_bindE_iteN, s_norm, ↓s_condV, s_condV, s_block_ret, s_block_normal, s_block_exit, s_block_iteN, ↓s_getp, ↓s_getp0, ↓s_get, s_get0, ↓s_con, ↓s_fn, ↓s_os0, ↓s_os1, ↓s_list0, ↓s_list1, ↓s_mov, ↓s_pick, ↓s_pickE, s_pickE, ↓s_bin, ↓s_un, ↓s_minmax, ↓s_call, ↓s_callv, ↓s_callV, ↓s_ext, s_same, b_eql, b_neq, b_lss, b_leq, b_gtr, b_geq, b_eqlb, b_neqb, b_fnil, b_fnil', b_fnil2, b_fnil2', u_neg, u_not, m_two, s_end, s_end', s_end_iteN, s_res0, s_res1, s_tup1, s_tup2, ↓iteN_true, ↓iteN_false, iteN_true, iteN_false, Nat.zero_add, List.nil_append, List.append_nil, Nat.reduceEqDiff, reduceIte, decide_true, decide_false, Bool.not_true, Bool.not_false, List.getElem?_cons_zero, List.getElem?_cons_succ, Bool.false_eq_true, if_true, if_false, beq_self_eq_true]
  rw [mulHi x y hx hy]

theorem mulAddLow (a b c d : Nat) : ((a * b % 18446744073709551616 + (c + 0)) % 18446744073709551616 + (d + 0)) % 18446744073709551616 = (a * b + c + d) % 18446744073709551616 := by
  omega
set_option maxRecDepth 20000 in
theorem sp_mulAdd (e0 : E k_math_bits_Mul64 = some f_math_bits_Mul64) (e : E k_wide_mulAdd = some f_wide_mulAdd) (n : Nat) (a b c d : Nat) (ha : a < 18446744073709551616) (hb : b < 18446744073709551616) (hc : c < 18446744073709551616) (hd : d < 18446744073709551616) (h : H) : callN E (n + 4) (.fn k_wide_mulAdd) [.int .u64 (a : Int), .int .u64 (b : Int), .int .u64 (c : Int), .int .u64 (d : Int)] h = some (.tup [.int .u64 (((a * b + c + d) % 18446744073709551616 : Nat) : Int), .int .u64 (((a * b + c + d) / 18446744073709551616 : Nat) : Int)], h) := by
  rw [s_cfn e _ _ (Nat.le_of_ble_eq_true rfl)]
  simp (config := {maxSteps := 1000000}) (disch := omega) only [sp_Mul64 e0, x_add0, ↓s_bits, Nat.reduceAdd, n_add, n_mul, n_and, n_shr, ↓s_skip, ↓s_ops, ↓s_dops, ↓s_seq, ↓s_cond, ↓s_block, ↓s_exit, ↓s_ret, ↓s_scope, ↓s_nil, ↓s_op, ↓s_opg, ↓s_wanted', ↓s_wantV, s_wantV, s_wantV0, beq_true, beq_false, ↓s_bindS, s_bindS, ↓s_bindE, s_bindE, s_bindE_ret, s_bindE_exit, s_bindE_iteN, s_norm, ↓s_condV, s_condV, s_block_ret, s_block_normal, s_block_exit, s_block_iteN, ↓s_getp, ↓s_getp0, ↓s_get, s_get0, ↓s_con, ↓s_fn, ↓s_os0, ↓s_os1, ↓s_list0, ↓s_list1, ↓s_mov, ↓s_pick, ↓s_pickE, s_pickE, ↓s_bin, ↓s_un, ↓s_minmax, ↓s_call, ↓s_callv, ↓s_callV, ↓s_ext, s_same, b_eql, b_neq, b_lss, b_leq, b_gtr, b_geq, b_eqlb, b_neqb, b_fnil, b_fnil', b_fnil2, b_fnil2', u_neg, u_not, m_two, s_end, s_end', s_end_iteN, s_res0, s_res1, s_tup1, s_tup2, ↓iteN_true, ↓iteN_false, iteN_true, iteN_false, Nat.zero_add, List.nil_append, List.append_nil, Nat.reduceEqDiff, reduceIte, decide_true, decide_false, Bool.not_true, Bool.not_false, List.getElem?_cons_zero, List.getElem?_cons_succ, Bool.false_eq_true, if_true, if_false, beq_self_eq_true]
  have m : a * b ≤ 18446744073709551615 * 18446744073709551615 := Nat.mul_le_mul (by omega) (by omega)
  have e2 : ((a * b / 18446744073709551616 + (a * b % 18446744073709551616 + (c + 0)) / 18446744073709551616) % 18446744073709551616 + ((a * b % 18446744073709551616 + (c + 0)) % 18446744073709551616 + (d + 0)) / 18446744073709551616) % 18446744073709551616 = (a * b + c + d) / 18446744073709551616 := by
    generalize a * b = p at m ⊢
    omega
  rw [mulAddLow, e2]
end Go.Eng
namespace Go.Eng
open Go
variable {E : Nat → Option Fn}
set_option linter.unusedSimpArgs false
set_option linter.unusedVariables false
def mlo (a b c d : Nat) : Nat := (a * b + c + d) % 18446744073709551616
def mhi (a b c d : Nat) : Nat := (a * b + c + d) / 18446744073709551616 % 18446744073709551616
theorem mlo_lt (a b c d : Nat) : mlo a b c d < 18446744073709551616 := Nat.mod_lt _ (Nat.succ_pos _)
theorem mhi_lt (a b c d : Nat) : mhi a b c d < 18446744073709551616 := Nat.mod_lt _ (Nat.succ_pos _)
theorem mlohi (a b c d : Nat) (ha : a < 18446744073709551616) (hb : b < 18446744073709551616) (hc : c < 18446744073709551616) (hd : d < 18446744073709551616) : mlo a b c d + 18446744073709551616 * mhi a b c d = a * b + c + d := by
  have m : a * b ≤ 18446744073709551615 * 18446744073709551615 := Nat.mul_le_mul (by omega) (by omega)
  unfold mlo mhi
  generalize a * b = p at m ⊢
  omega
theorem mA (e0 : E k_math_bits_Mul64 = some f_math_bits_Mul64) (e : E k_wide_mulAdd = some f_wide_mulAdd) (n : Nat) (a b c d : Nat) (ha : a < 18446744073709551616) (hb : b < 18446744073709551616) (hc : c < 18446744073709551616) (hd : d < 18446744073709551616) (h : H) : callN E (n + 4) (.fn k_wide_mulAdd) [.int .u64 (a : Int), .int .u64 (b : Int), .int .u64 (c : Int), .int .u64 (d : Int)] h = some (.tup [.int .u64 (mlo a b c d : Int), .int .u64 (mhi a b c d : Int)], h) := by
  have m : a * b ≤ 18446744073709551615 * 18446744073709551615 := Nat.mul_le_mul (by omega) (by omega)
  have e2 : mhi a b c d = (a * b + c + d) / 18446744073709551616 := by
    unfold mhi
    generalize a * b = p at m ⊢
    omega
  rw [sp_mulAdd e0 e n a b c d ha hb hc hd h, e2]; rfl
theorem mA0 (e0 : E k_math_bits_Mul64 = some f_math_bits_Mul64) (e : E k_wide_mulAdd = some f_wide_mulAdd) (n : Nat) (a b d : Nat) (ha : a < 18446744073709551616) (hb : b < 18446744073709551616) (hd : d < 18446744073709551616) (h : H) : callN E (n + 4) (.fn k_wide_mulAdd) [.int .u64 (a : Int), .int .u64 (b : Int), .int .u64 0, .int .u64 (d : Int)] h = some (.tup [.int .u64 (mlo a b 0 d : Int), .int .u64 (mhi a b 0 d : Int)], h) := mA e0 e n a b 0 d ha hb (by omega) hd h
theorem mA1 (e0 : E k_math_bits_Mul64 = some f_math_bits_Mul64) (e : E k_wide_mulAdd = some f_wide_mulAdd) (n : Nat) (a b c : Nat) (ha : a < 18446744073709551616) (hb : b < 18446744073709551616) (hc : c < 18446744073709551616) (h : H) : callN E (n + 4) (.fn k_wide_mulAdd) [.int .u64 (a : Int), .int .u64 (b : Int), .int .u64 (c : Int), .int .u64 0] h = some (.tup [.int .u64 (mlo a b c 0 : Int), .int .u64 (mhi a b c 0 : Int)], h) := mA e0 e n a b c 0 ha hb hc (by omega) h
theorem mA2 (e0 : E k_math_bits_Mul64 = some f_math_bits_Mul64) (e : E k_wide_mulAdd = some f_wide_mulAdd) (n : Nat) (a b : Nat) (ha : a < 18446744073709551616) (hb : b < 18446744073709551616) (h : H) : callN E (n + 4) (.fn k_wide_mulAdd) [.int .u64 (a : Int), .int .u64 (b : Int), .int .u64 0, .int .u64 0] h = some (.tup [.int .u64 (mlo a b 0 0 : Int), .int .u64 (mhi a b 0 0 : Int)], h) := mA e0 e n a b 0 0 ha hb (by omega) (by omega) h
theorem v_beqi (k : IntKind) (n : Int) : V.beq (.int k n) (.int k n) = true := by
  have hi : ieq n n = true := by rw [ieq_dec]; simp
  simp only [V.beq, hi, kindEq_self, Bool.and_self]
theorem v_beqa (k : IntKind) (a b c d : Int) : V.beq (.agg [.int k a, .int k b, .int k c, .int k d]) (.agg [.int k a, .int k b, .int k c, .int k d]) = true := by
  have hi : ∀ n : Int, ieq n n = true := fun n => by rw [ieq_dec]; simp
  simp only [V.beq, V.beqs, hi, kindEq_self, Bool.and_self]
attribute [irreducible] mlo mhi
theorem rowVal (a b0 b1 b2 b3 p0 p1 p2 p3 : Nat) (A : a < 18446744073709551616) (B0 : b0 < 18446744073709551616) (B1 : b1 < 18446744073709551616) (B2 : b2 < 18446744073709551616) (B3 : b3 < 18446744073709551616) (P0 : p0 < 18446744073709551616) (P1 : p1 < 18446744073709551616) (P2 : p2 < 18446744073709551616) (P3 : p3 < 18446744073709551616) : ((mlo a b0 p0 0) + 18446744073709551616 * ((mlo a b1 p1 (mhi a b0 p0 0)) + 18446744073709551616 * ((mlo a b2 p2 (mhi a b1 p1 (mhi a b0 p0 0))) + 18446744073709551616 * ((mlo a b3 p3 (mhi a b2 p2 (mhi a b1 p1 (mhi a b0 p0 0)))) + 18446744073709551616 * (mhi a b3 p3 (mhi a b2 p2 (mhi a b1 p1 (mhi a b0 p0 0)))))))) = (p0 + 18446744073709551616 * (p1 + 18446744073709551616 * (p2 + 18446744073709551616 * p3))) + a * (b0 + 18446744073709551616 * (b1 + 18446744073709551616 * (b2 + 18446744073709551616 * b3))) := by
  have z : (0 : Nat) < 18446744073709551616 := Nat.succ_pos _
  have q0 := mlohi a b0 p0 0 A B0 P0 z
  have hc0 := mhi_lt a b0 p0 0
  generalize mlo a b0 p0 0 = l0 at *
  generalize mhi a b0 p0 0 = c0 at *
  have q1 := mlohi a b1 p1 c0 A B1 P1 hc0
  have hc1 := mhi_lt a b1 p1 c0
  generalize mlo a b1 p1 c0 = l1 at *
  generalize mhi a b1 p1 c0 = c1 at *
  have q2 := mlohi a b2 p2 c1 A B2 P2 hc1
  have hc2 := mhi_lt a b2 p2 c1
  generalize mlo a b2 p2 c1 = l2 at *
  generalize mhi a b2 p2 c1 = c2 at *
  have q3 := mlohi a b3 p3 c2 A B3 P3 hc2
  have hc3 := mhi_lt a b3 p3 c2
  generalize mlo a b3 p3 c2 = l3 at *
  generalize mhi a b3 p3 c2 = c3 at *
  have Y : a * (b0 + 18446744073709551616 * (b1 + 18446744073709551616 * (b2 + 18446744073709551616 * b3))) = (a * b0 + 18446744073709551616 * (a * b1 + 18446744073709551616 * (a * b2 + 18446744073709551616 * (a * b3)))) := by
    rw [Nat.mul_add, Nat.mul_left_comm a 18446744073709551616, Nat.mul_add a b1, Nat.mul_left_comm a 18446744073709551616, Nat.mul_add a b2, Nat.mul_left_comm a 18446744073709551616]
  rw [Y]
  generalize a * b0 = x0 at *
  generalize a * b1 = x1 at *
  generalize a * b2 = x2 at *
  generalize a * b3 = x3 at *
  clear hc0 hc1 hc2 hc3 A B0 B1 B2 B3 P0 P1 P2 P3 z Y
  omega
theorem mulVal (a0 a1 a2 a3 b0 b1 b2 b3 : Nat) (A0 : a0 < 18446744073709551616) (A1 : a1 < 18446744073709551616) (A2 : a2 < 18446744073709551616) (A3 : a3 < 18446744073709551616) (B0 : b0 < 18446744073709551616) (B1 : b1 < 18446744073709551616) (B2 : b2 < 18446744073709551616) (B3 : b3 < 18446744073709551616) : ((mlo a0 b0 0 0) + 18446744073709551616 * ((mlo a1 b0 (mlo a0 b1 0 (mhi a0 b0 0 0)) 0) + 18446744073709551616 * ((mlo a2 b0 (mlo a1 b1 (mlo a0 b2 0 (mhi a0 b1 0 (mhi a0 b0 0 0))) (mhi a1 b0 (mlo a0 b1 0 (mhi a0 b0 0 0)) 0)) 0) + 18446744073709551616 * ((mlo a3 b0 (mlo a2 b1 (mlo a1 b2 (mlo a0 b3 0 (mhi a0 b2 0 (mhi a0 b1 0 (mhi a0 b0 0 0)))) (mhi a1 b1 (mlo a0 b2 0 (mhi a0 b1 0 (mhi a0 b0 0 0))) (mhi a1 b0 (mlo a0 b1 0 (mhi a0 b0 0 0)) 0))) (mhi a2 b0 (mlo a1 b1 (mlo a0 b2 0 (mhi a0 b1 0 (mhi a0 b0 0 0))) (mhi a1 b0 (mlo a0 b1 0 (mhi a0 b0 0 0)) 0)) 0)) 0) + 18446744073709551616 * ((mlo a3 b1 (mlo a2 b2 (mlo a1 b3 (mhi a0 b3 0 (mhi a0 b2 0 (mhi a0 b1 0 (mhi a0 b0 0 0)))) (mhi a1 b2 (mlo a0 b3 0 (mhi a0 b2 0 (mhi a0 b1 0 (mhi a0 b0 0 0)))) (mhi a1 b1 (mlo a0 b2 0 (mhi a0 b1 0 (mhi a0 b0 0 0))) (mhi a1 b0 (mlo a0 b1 0 (mhi a0 b0 0 0)) 0)))) (mhi a2 b1 (mlo a1 b2 (mlo a0 b3 0 (mhi a0 b2 0 (mhi a0 b1 0 (mhi a0 b0 0 0)))) (mhi a1 b1 (mlo a0 b2 0 (mhi a0 b1 0 (mhi a0 b0 0 0))) (mhi a1 b0 (mlo a0 b1 0 (mhi a0 b0 0 0)) 0))) (mhi a2 b0 (mlo a1 b1 (mlo a0 b2 0 (mhi a0 b1 0 (mhi a0 b0 0 0))) (mhi a1 b0 (mlo a0 b1 0 (mhi a0 b0 0 0)) 0)) 0))) (mhi a3 b0 (mlo a2 b1 (mlo a1 b2 (mlo a0 b3 0 (mhi a0 b2 0 (mhi a0 b1 0 (mhi a0 b0 0 0)))) (mhi a1 b1 (mlo a0 b2 0 (mhi a0 b1 0 (mhi a0 b0 0 0))) (mhi a1 b0 (mlo a0 b1 0 (mhi a0 b0 0 0)) 0))) (mhi a2 b0 (mlo a1 b1 (mlo a0 b2 0 (mhi a0 b1 0 (mhi a0 b0 0 0))) (mhi a1 b0 (mlo a0 b1 0 (mhi a0 b0 0 0)) 0)) 0)) 0)) + 18446744073709551616 * ((mlo a3 b2 (mlo a2 b3 (mhi a1 b3 (mhi a0 b3 0 (mhi a0 b2 0 (mhi a0 b1 0 (mhi a0 b0 0 0)))) (mhi a1 b2 (mlo a0 b3 0 (mhi a0 b2 0 (mhi a0 b1 0 (mhi a0 b0 0 0)))) (mhi a1 b1 (mlo a0 b2 0 (mhi a0 b1 0 (mhi a0 b0 0 0))) (mhi a1 b0 (mlo a0 b1 0 (mhi a0 b0 0 0)) 0)))) (mhi a2 b2 (mlo a1 b3 (mhi a0 b3 0 (mhi a0 b2 0 (mhi a0 b1 0 (mhi a0 b0 0 0)))) (mhi a1 b2 (mlo a0 b3 0 (mhi a0 b2 0 (mhi a0 b1 0 (mhi a0 b0 0 0)))) (mhi a1 b1 (mlo a0 b2 0 (mhi a0 b1 0 (mhi a0 b0 0 0))) (mhi a1 b0 (mlo a0 b1 0 (mhi a0 b0 0 0)) 0)))) (mhi a2 b1 (mlo a1 b2 (mlo a0 b3 0 (mhi a0 b2 0 (mhi a0 b1 0 (mhi a0 b0 0 0)))) (mhi a1 b1 (mlo a0 b2 0 (mhi a0 b1 0 (mhi a0 b0 0 0))) (mhi a1 b0 (mlo a0 b1 0 (mhi a0 b0 0 0)) 0))) (mhi a2 b0 (mlo a1 b1 (mlo a0 b2 0 (mhi a0 b1 0 (mhi a0 b0 0 0))) (mhi a1 b0 (mlo a0 b1 0 (mhi a0 b0 0 0)) 0)) 0)))) (mhi a3 b1 (mlo a2 b2 (mlo a1 b3 (mhi a0 b3 0 (mhi a0 b2 0 (mhi a0 b1 0 (mhi a0 b0 0 0)))) (mhi a1 b2 (mlo a0 b3 0 (mhi a0 b2 0 (mhi a0 b1 0 (mhi a0 b0 0 0)))) (mhi a1 b1 (mlo a0 b2 0 (mhi a0 b1 0 (mhi a0 b0 0 0))) (mhi a1 b0 (mlo a0 b1 0 (mhi a0 b0 0 0)) 0)))) (mhi a2 b1 (mlo a1 b2 (mlo a0 b3 0 (mhi a0 b2 0 (mhi a0 b1 0 (mhi a0 b0 0 0)))) (mhi a1 b1 (mlo a0 b2 0 (mhi a0 b1 0 (mhi a0 b0 0 0))) (mhi a1 b0 (mlo a0 b1 0 (mhi a0 b0 0 0)) 0))) (mhi a2 b0 (mlo a1 b1 (mlo a0 b2 0 (mhi a0 b1 0 (mhi a0 b0 0 0))) (mhi a1 b0 (mlo a0 b1 0 (mhi a0 b0 0 0)) 0)) 0))) (mhi a3 b0 (mlo a2 b1 (mlo a1 b2 (mlo a0 b3 0 (mhi a0 b2 0 (mhi a0 b1 0 (mhi a0 b0 0 0)))) (mhi a1 b1 (mlo a0 b2 0 (mhi a0 b1 0 (mhi a0 b0 0 0))) (mhi a1 b0 (mlo a0 b1 0 (mhi a0 b0 0 0)) 0))) (mhi a2 b0 (mlo a1 b1 (mlo a0 b2 0 (mhi a0 b1 0 (mhi a0 b0 0 0))) (mhi a1 b0 (mlo a0 b1 0 (mhi a0 b0 0 0)) 0)) 0)) 0))) + 18446744073709551616 * ((mlo a3 b3 (mhi a2 b3 (mhi a1 b3 (mhi a0 b3 0 (mhi a0 b2 0 (mhi a0 b1 0 (mhi a0 b0 0 0)))) (mhi a1 b2 (mlo a0 b3 0 (mhi a0 b2 0 (mhi a0 b1 0 (mhi a0 b0 0 0)))) (mhi a1 b1 (mlo a0 b2 0 (mhi a0 b1 0 (mhi a0 b0 0 0))) (mhi a1 b0 (mlo a0 b1 0 (mhi a0 b0 0 0)) 0)))) (mhi a2 b2 (mlo a1 b3 (mhi a0 b3 0 (mhi a0 b2 0 (mhi a0 b1 0 (mhi a0 b0 0 0)))) (mhi a1 b2 (mlo a0 b3 0 (mhi a0 b2 0 (mhi a0 b1 0 (mhi a0 b0 0 0)))) (mhi a1 b1 (mlo a0 b2 0 (mhi a0 b1 0 (mhi a0 b0 0 0))) (mhi a1 b0 (mlo a0 b1 0 (mhi a0 b0 0 0)) 0)))) (mhi a2 b1 (mlo a1 b2 (mlo a0 b3 0 (mhi a0 b2 0 (mhi a0 b1 0 (mhi a0 b0 0 0)))) (mhi a1 b1 (mlo a0 b2 0 (mhi a0 b1 0 (mhi a0 b0 0 0))) (mhi a1 b0 (mlo a0 b1 0 (mhi a0 b0 0 0)) 0))) (mhi a2 b0 (mlo a1 b1 (mlo a0 b2 0 (mhi a0 b1 0 (mhi a0 b0 0 0))) (mhi a1 b0 (mlo a0 b1 0 (mhi a0 b0 0 0)) 0)) 0)))) (mhi a3 b2 (mlo a2 b3 (mhi a1 b3 (mhi a0 b3 0 (mhi a0 b2 0 (mhi a0 b1 0 (mhi a0 b0 0 0)))) (mhi a1 b2 (mlo a0 b3 0 (mhi a0 b2 0 (mhi a0 b1 0 (mhi a0 b0 0 0)))) (mhi a1 b1 (mlo a0 b2 0 (mhi a0 b1 0 (mhi a0 b0 0 0))) (mhi a1 b0 (mlo a0 b1 0 (mhi a0 b0 0 0)) 0)))) (mhi a2 b2 (mlo a1 b3 (mhi a0 b3 0 (mhi a0 b2 0 (mhi a0 b1 0 (mhi a0 b0 0 0)))) (mhi a1 b2 (mlo a0 b3 0 (mhi a0 b2 0 (mhi a0 b1 0 (mhi a0 b0 0 0)))) (mhi a1 b1 (mlo a0 b2 0 (mhi a0 b1 0 (mhi a0 b0 0 0))) (mhi a1 b0 (mlo a0 b1 0 (mhi a0 b0 0 0)) 0)))) (mhi a2 b1 (mlo a1 b2 (mlo a0 b3 0 (mhi a0 b2 0 (mhi a0 b1 0 (mhi a0 b0 0 0)))) (mhi a1 b1 (mlo a0 b2 0 (mhi a0 b1 0 (mhi a0 b0 0 0))) (mhi a1 b0 (mlo a0 b1 0 (mhi a0 b0 0 0)) 0))) (mhi a2 b0 (mlo a1 b1 (mlo a0 b2 0 (mhi a0 b1 0 (mhi a0 b0 0 0))) (mhi a1 b0 (mlo a0 b1 0 (mhi a0 b0 0 0)) 0)) 0)))) (mhi a3 b1 (mlo a2 b2 (mlo a1 b3 (mhi a0 b3 0 (mhi a0 b2 0 (mhi a0 b1 0 (mhi a0 b0 0 0)))) (mhi a1 b2 (mlo a0 b3 0 (mhi a0 b2 0 (mhi a0 b1 0 (mhi a0 b0 0 0)))) (mhi a1 b1 (mlo a0 b2 0 (mhi a0 b1 0 (mhi a0 b0 0 0))) (mhi a1 b0 (mlo a0 b1 0 (mhi a0 b0 0 0)) 0)))) (mhi a2 b1 (mlo a1 b2 (mlo a0 b3 0 (mhi a0 b2 0 (mhi a0 b1 0 (mhi a0 b0 0 0)))) (mhi a1 b1 (mlo a0 b2 0 (mhi a0 b1 0 (mhi a0 b0 0 0))) (mhi a1 b0 (mlo a0 b1 0 (mhi a0 b0 0 0)) 0))) (mhi a2 b0 (mlo a1 b1 (mlo a0 b2 0 (mhi a0 b1 0 (mhi a0 b0 0 0))) (mhi a1 b0 (mlo a0 b1 0 (mhi a0 b0 0 0)) 0)) 0))) (mhi a3 b0 (mlo a2 b1 (mlo a1 b2 (mlo a0 b3 0 (mhi a0 b2 0 (mhi a0 b1 0 (mhi a0 b0 0 0)))) (mhi a1 b1 (mlo a0 b2 0 (mhi a0 b1 0 (mhi a0 b0 0 0))) (mhi a1 b0 (mlo a0 b1 0 (mhi a0 b0 0 0)) 0))) (mhi a2 b0 (mlo a1 b1 (mlo a0 b2 0 (mhi a0 b1 0 (mhi a0 b0 0 0))) (mhi a1 b0 (mlo a0 b1 0 (mhi a0 b0 0 0)) 0)) 0)) 0)))) + 18446744073709551616 * (mhi a3 b3 (mhi a2 b3 (mhi a1 b3 (mhi a0 b3 0 (mhi a0 b2 0 (mhi a0 b1 0 (mhi a0 b0 0 0)))) (mhi a1 b2 (mlo a0 b3 0 (mhi a0 b2 0 (mhi a0 b1 0 (mhi a0 b0 0 0)))) (mhi a1 b1 (mlo a0 b2 0 (mhi a0 b1 0 (mhi a0 b0 0 0))) (mhi a1 b0 (mlo a0 b1 0 (mhi a0 b0 0 0)) 0)))) (mhi a2 b2 (mlo a1 b3 (mhi a0 b3 0 (mhi a0 b2 0 (mhi a0 b1 0 (mhi a0 b0 0 0)))) (mhi a1 b2 (mlo a0 b3 0 (mhi a0 b2 0 (mhi a0 b1 0 (mhi a0 b0 0 0)))) (mhi a1 b1 (mlo a0 b2 0 (mhi a0 b1 0 (mhi a0 b0 0 0))) (mhi a1 b0 (mlo a0 b1 0 (mhi a0 b0 0 0)) 0)))) (mhi a2 b1 (mlo a1 b2 (mlo a0 b3 0 (mhi a0 b2 0 (mhi a0 b1 0 (mhi a0 b0 0 0)))) (mhi a1 b1 (mlo a0 b2 0 (mhi a0 b1 0 (mhi a0 b0 0 0))) (mhi a1 b0 (mlo a0 b1 0 (mhi a0 b0 0 0)) 0))) (mhi a2 b0 (mlo a1 b1 (mlo a0 b2 0 (mhi a0 b1 0 (mhi a0 b0 0 0))) (mhi a1 b0 (mlo a0 b1 0 (mhi a0 b0 0 0)) 0)) 0)))) (mhi a3 b2 (mlo a2 b3 (mhi a1 b3 (mhi a0 b3 0 (mhi a0 b2 0 (mhi a0 b1 0 (mhi a0 b0 0 0)))) (mhi a1 b2 (mlo a0 b3 0 (mhi a0 b2 0 (mhi a0 b1 0 (mhi a0 b0 0 0)))) (mhi a1 b1 (mlo a0 b2 0 (mhi a0 b1 0 (mhi a0 b0 0 0))) (mhi a1 b0 (mlo a0 b1 0 (mhi a0 b0 0 0)) 0)))) (mhi a2 b2 (mlo a1 b3 (mhi a0 b3 0 (mhi a0 b2 0 (mhi a0 b1 0 (mhi a0 b0 0 0)))) (mhi a1 b2 (mlo a0 b3 0 (mhi a0 b2 0 (mhi a0 b1 0 (mhi a0 b0 0 0)))) (mhi a1 b1 (mlo a0 b2 0 (mhi a0 b1 0 (mhi a0 b0 0 0))) (mhi a1 b0 (mlo a0 b1 0 (mhi a0 b0 0 0)) 0)))) (mhi a2 b1 (mlo a1 b2 (mlo a0 b3 0 (mhi a0 b2 0 (mhi a0 b1 0 (mhi a0 b0 0 0)))) (mhi a1 b1 (mlo a0 b2 0 (mhi a0 b1 0 (mhi a0 b0 0 0))) (mhi a1 b0 (mlo a0 b1 0 (mhi a0 b0 0 0)) 0))) (mhi a2 b0 (mlo a1 b1 (mlo a0 b2 0 (mhi a0 b1 0 (mhi a0 b0 0 0))) (mhi a1 b0 (mlo a0 b1 0 (mhi a0 b0 0 0)) 0)) 0)))) (mhi a3 b1 (mlo a2 b2 (mlo a1 b3 (mhi a0 b3 0 (mhi a0 b2 0 (mhi a0 b1 0 (mhi a0 b0 0 0)))) (mhi a1 b2 (mlo a0 b3 0 (mhi a0 b2 0 (mhi a0 b1 0 (mhi a0 b0 0 0)))) (mhi a1 b1 (mlo a0 b2 0 (mhi a0 b1 0 (mhi a0 b0 0 0))) (mhi a1 b0 (mlo a0 b1 0 (mhi a0 b0 0 0)) 0)))) (mhi a2 b1 (mlo a1 b2 (mlo a0 b3 0 (mhi a0 b2 0 (mhi a0 b1 0 (mhi a0 b0 0 0)))) (mhi a1 b1 (mlo a0 b2 0 (mhi a0 b1 0 (mhi a0 b0 0 0))) (mhi a1 b0 (mlo a0 b1 0 (mhi a0 b0 0 0)) 0))) (mhi a2 b0 (mlo a1 b1 (mlo a0 b2 0 (mhi a0 b1 0 (mhi a0 b0 0 0))) (mhi a1 b0 (mlo a0 b1 0 (mhi a0 b0 0 0)) 0)) 0))) (mhi a3 b0 (mlo a2 b1 (mlo a1 b2 (mlo a0 b3 0 (mhi a0 b2 0 (mhi a0 b1 0 (mhi a0 b0 0 0)))) (mhi a1 b1 (mlo a0 b2 0 (mhi a0 b1 0 (mhi a0 b0 0 0))) (mhi a1 b0 (mlo a0 b1 0 (mhi a0 b0 0 0)) 0))) (mhi a2 b0 (mlo a1 b1 (mlo a0 b2 0 (mhi a0 b1 0 (mhi a0 b0 0 0))) (mhi a1 b0 (mlo a0 b1 0 (mhi a0 b0 0 0)) 0)) 0)) 0))))))))))) = (a0 + 18446744073709551616 * (a1 + 18446744073709551616 * (a2 + 18446744073709551616 * a3))) * (b0 + 18446744073709551616 * (b1 + 18446744073709551616 * (b2 + 18446744073709551616 * b3))) := by
  have z : (0 : Nat) < 18446744073709551616 := Nat.succ_pos _
  have R0 := rowVal a0 b0 b1 b2 b3 0 0 0 0 A0 B0 B1 B2 B3 z z z z
  have bl00 := mlo_lt a0 b0 0 0
  have bh00 := mhi_lt a0 b0 0 0
  generalize mlo a0 b0 0 0 = l00 at R0 bl00 ⊢
  generalize mhi a0 b0 0 0 = h00 at R0 bh00 ⊢
  have bl01 := mlo_lt a0 b1 0 h00
  have bh01 := mhi_lt a0 b1 0 h00
  generalize mlo a0 b1 0 h00 = l01 at R0 bl01 ⊢
  generalize mhi a0 b1 0 h00 = h01 at R0 bh01 ⊢
  have bl02 := mlo_lt a0 b2 0 h01
  have bh02 := mhi_lt a0 b2 0 h01
  generalize mlo a0 b2 0 h01 = l02 at R0 bl02 ⊢
  generalize mhi a0 b2 0 h01 = h02 at R0 bh02 ⊢
  have bl03 := mlo_lt a0 b3 0 h02
  have bh03 := mhi_lt a0 b3 0 h02
  generalize mlo a0 b3 0 h02 = l03 at R0 bl03 ⊢
  generalize mhi a0 b3 0 h02 = h03 at R0 bh03 ⊢
  have R1 := rowVal a1 b0 b1 b2 b3 l01 l02 l03 h03 A1 B0 B1 B2 B3 bl01 bl02 bl03 bh03
  have bl10 := mlo_lt a1 b0 l01 0
  have bh10 := mhi_lt a1 b0 l01 0
  generalize mlo a1 b0 l01 0 = l10 at R1 bl10 ⊢
  generalize mhi a1 b0 l01 0 = h10 at R1 bh10 ⊢
  have bl11 := mlo_lt a1 b1 l02 h10
  have bh11 := mhi_lt a1 b1 l02 h10
  generalize mlo a1 b1 l02 h10 = l11 at R1 bl11 ⊢
  generalize mhi a1 b1 l02 h10 = h11 at R1 bh11 ⊢
  have bl12 := mlo_lt a1 b2 l03 h11
  have bh12 := mhi_lt a1 b2 l03 h11
  generalize mlo a1 b2 l03 h11 = l12 at R1 bl12 ⊢
  generalize mhi a1 b2 l03 h11 = h12 at R1 bh12 ⊢
  have bl13 := mlo_lt a1 b3 h03 h12
  have bh13 := mhi_lt a1 b3 h03 h12
  generalize mlo a1 b3 h03 h12 = l13 at R1 bl13 ⊢
  generalize mhi a1 b3 h03 h12 = h13 at R1 bh13 ⊢
  have R2 := rowVal a2 b0 b1 b2 b3 l11 l12 l13 h13 A2 B0 B1 B2 B3 bl11 bl12 bl13 bh13
  have bl20 := mlo_lt a2 b0 l11 0
  have bh20 := mhi_lt a2 b0 l11 0
  generalize mlo a2 b0 l11 0 = l20 at R2 bl20 ⊢
  generalize mhi a2 b0 l11 0 = h20 at R2 bh20 ⊢
  have bl21 := mlo_lt a2 b1 l12 h20
  have bh21 := mhi_lt a2 b1 l12 h20
  generalize mlo a2 b1 l12 h20 = l21 at R2 bl21 ⊢
  generalize mhi a2 b1 l12 h20 = h21 at R2 bh21 ⊢
  have bl22 := mlo_lt a2 b2 l13 h21
  have bh22 := mhi_lt a2 b2 l13 h21
  generalize mlo a2 b2 l13 h21 = l22 at R2 bl22 ⊢
  generalize mhi a2 b2 l13 h21 = h22 at R2 bh22 ⊢
  have bl23 := mlo_lt a2 b3 h13 h22
  have bh23 := mhi_lt a2 b3 h13 h22
  generalize mlo a2 b3 h13 h22 = l23 at R2 bl23 ⊢
  generalize mhi a2 b3 h13 h22 = h23 at R2 bh23 ⊢
  have R3 := rowVal a3 b0 b1 b2 b3 l21 l22 l23 h23 A3 B0 B1 B2 B3 bl21 bl22 bl23 bh23
  have bl30 := mlo_lt a3 b0 l21 0
  have bh30 := mhi_lt a3 b0 l21 0
  generalize mlo a3 b0 l21 0 = l30 at R3 bl30 ⊢
  generalize mhi a3 b0 l21 0 = h30 at R3 bh30 ⊢
  have bl31 := mlo_lt a3 b1 l22 h30
  have bh31 := mhi_lt a3 b1 l22 h30
  generalize mlo a3 b1 l22 h30 = l31 at R3 bl31 ⊢
  generalize mhi a3 b1 l22 h30 = h31 at R3 bh31 ⊢
  have bl32 := mlo_lt a3 b2 l23 h31
  have bh32 := mhi_lt a3 b2 l23 h31
  generalize mlo a3 b2 l23 h31 = l32 at R3 bl32 ⊢
  generalize mhi a3 b2 l23 h31 = h32 at R3 bh32 ⊢
  have bl33 := mlo_lt a3 b3 h23 h32
  have bh33 := mhi_lt a3 b3 h23 h32
  generalize mlo a3 b3 h23 h32 = l33 at R3 bl33 ⊢
  generalize mhi a3 b3 h23 h32 = h33 at R3 bh33 ⊢
  rw [Nat.add_mul, Nat.mul_assoc, Nat.add_mul a1, Nat.mul_assoc, Nat.add_mul a2, Nat.mul_assoc]
  generalize (b0 + 18446744073709551616 * (b1 + 18446744073709551616 * (b2 + 18446744073709551616 * b3))) = y at *
  generalize a0 * y = y0 at *
  generalize a1 * y = y1 at *
  generalize a2 * y = y2 at *
  generalize a3 * y = y3 at *
  clear bl00 bh00 bl01 bh01 bl02 bh02 bl03 bh03 bl10 bh10 bl11 bh11 bl12 bh12 bl13 bh13 bl20 bh20 bl21 bh21 bl22 bh22 bl23 bh23 bl30 bh30 bl31 bh31 bl32 bh32 bl33 bh33 A0 A1 A2 A3 B0 B1 B2 B3 z
  omega
set_option maxHeartbeats 8000000 in
set_option maxRecDepth 20000 in
theorem sp_Mul4 (e0 : E k_math_bits_Mul64 = some f_math_bits_Mul64) (e1 : E k_wide_mulAdd = some f_wide_mulAdd) (e : E k_wide_Mul = some f_wide_Mul) (n : Nat) (a0 a1 a2 a3 b0 b1 b2 b3 : Nat) (A0 : a0 < 18446744073709551616) (A1 : a1 < 18446744073709551616) (A2 : a2 < 18446744073709551616) (A3 : a3 < 18446744073709551616) (B0 : b0 < 18446744073709551616) (B1 : b1 < 18446744073709551616) (B2 : b2 < 18446744073709551616) (B3 : b3 < 18446744073709551616) (h : H) :
   ∃ h', callN E (n + 14) (.fn k_wide_Mul) [W4 a0 a1 a2 a3, W4 b0 b1 b2 b3] h = some (.tup [W4 (mlo a0 b0 0 0) (mlo a1 b0 (mlo a0 b1 0 (mhi a0 b0 0 0)) 0) (mlo a2 b0 (mlo a1 b1 (mlo a0 b2 0 (mhi a0 b1 0 (mhi a0 b0 0 0))) (mhi a1 b0 (mlo a0 b1 0 (mhi a0 b0 0 0)) 0)) 0) (mlo a3 b0 (mlo a2 b1 (mlo a1 b2 (mlo a0 b3 0 (mhi a0 b2 0 (mhi a0 b1 0 (mhi a0 b0 0 0)))) (mhi a1 b1 (mlo a0 b2 0 (mhi a0 b1 0 (mhi a0 b0 0 0))) (mhi a1 b0 (mlo a0 b1 0 (mhi a0 b0 0 0)) 0))) (mhi a2 b0 (mlo a1 b1 (mlo a0 b2 0 (mhi a0 b1 0 (mhi a0 b0 0 0))) (mhi a1 b0 (mlo a0 b1 0 (mhi a0 b0 0 0)) 0)) 0)) 0), W4 (mlo a3 b1 (mlo a2 b2 (mlo a1 b3 (mhi a0 b3 0 (mhi a0 b2 0 (mhi a0 b1 0 (mhi a0 b0 0 0)))) (mhi a1 b2 (mlo a0 b3 0 (mhi a0 b2 0 (mhi a0 b1 0 (mhi a0 b0 0 0)))) (mhi a1 b1 (mlo a0 b2 0 (mhi a0 b1 0 (mhi a0 b0 0 0))) (mhi a1 b0 (mlo a0 b1 0 (mhi a0 b0 0 0)) 0)))) (mhi a2 b1 (mlo a1 b2 (mlo a0 b3 0 (mhi a0 b2 0 (mhi a0 b1 0 (mhi a0 b0 0 0)))) (mhi a1 b1 (mlo a0 b2 0 (mhi a0 b1 0 (mhi a0 b0 0 0))) (mhi a1 b0 (mlo a0 b1 0 (mhi a0 b0 0 0)) 0))) (mhi a2 b0 (mlo a1 b1 (mlo a0 b2 0 (mhi a0 b1 0 (mhi a0 b0 0 0))) (mhi a1 b0 (mlo a0 b1 0 (mhi a0 b0 0 0)) 0)) 0))) (mhi a3 b0 (mlo a2 b1 (mlo a1 b2 (mlo a0 b3 0 (mhi a0 b2 0 (mhi a0 b1 0 (mhi a0 b0 0 0)))) (mhi a1 b1 (mlo a0 b2 0 (mhi a0 b1 0 (mhi a0 b0 0 0))) (mhi a1 b0 (mlo a0 b1 0 (mhi a0 b0 0 0)) 0))) (mhi a2 b0 (mlo a1 b1 (mlo a0 b2 0 (mhi a0 b1 0 (mhi a0 b0 0 0))) (mhi a1 b0 (mlo a0 b1 0 (mhi a0 b0 0 0)) 0)) 0)) 0)) (mlo a3 b2 (mlo a2 b3 (mhi a1 b3 (mhi a0 b3 0 (mhi a0 b2 0 (mhi a0 b1 0 (mhi a0 b0 0 0)))) (mhi a1 b2 (mlo a0 b3 0 (mhi a0 b2 0 (mhi a0 b1 0 (mhi a0 b0 0 0)))) (mhi a1 b1 (mlo a0 b2 0 (mhi a0 b1 0 (mhi a0 b0 0 0))) (mhi a1 b0 (mlo a0 b1 0 (mhi a0 b0 0 0)) 0)))) (mhi a2 b2 (mlo a1 b3 (mhi a0 b3 0 (mhi a0 b2 0 (mhi a0 b1 0 (mhi a0 b0 0 0)))) (mhi a1 b2 (mlo a0 b3 0 (mhi a0 b2 0 (mhi a0 b1 0 (mhi a0 b0 0 0)))) (mhi a1 b1 (mlo a0 b2 0 (mhi a0 b1 0 (mhi a0 b0 0 0))) (mhi a1 b0 (mlo a0 b1 0 (mhi a0 b0 0 0)) 0)))) (mhi a2 b1 (mlo a1 b2 (mlo a0 b3 0 (mhi a0 b2 0 (mhi a0 b1 0 (mhi a0 b0 0 0)))) (mhi a1 b1 (mlo a0 b2 0 (mhi a0 b1 0 (mhi a0 b0 0 0))) (mhi a1 b0 (mlo a0 b1 0 (mhi a0 b0 0 0)) 0))) (mhi a2 b0 (mlo a1 b1 (mlo a0 b2 0 (mhi a0 b1 0 (mhi a0 b0 0 0))) (mhi a1 b0 (mlo a0 b1 0 (mhi a0 b0 0 0)) 0)) 0)))) (mhi a3 b1 (mlo a2 b2 (mlo a1 b3 (mhi a0 b3 0 (mhi a0 b2 0 (mhi a0 b1 0 (mhi a0 b0 0 0)))) (mhi a1 b2 (mlo a0 b3 0 (mhi a0 b2 0 (mhi a0 b1 0 (mhi a0 b0 0 0)))) (mhi a1 b1 (mlo a0 b2 0 (mhi a0 b1 0 (mhi a0 b0 0 0))) (mhi a1 b0 (mlo a0 b1 0 (mhi a0 b0 0 0)) 0)))) (mhi a2 b1 (mlo a1 b2 (mlo a0 b3 0 (mhi a0 b2 0 (mhi a0 b1 0 (mhi a0 b0 0 0)))) (mhi a1 b1 (mlo a0 b2 0 (mhi a0 b1 0 (mhi a0 b0 0 0))) (mhi a1 b0 (mlo a0 b1 0 (mhi a0 b0 0 0)) 0))) (mhi a2 b0 (mlo a1 b1 (mlo a0 b2 0 (mhi a0 b1 0 (mhi a0 b0 0 0))) (mhi a1 b0 (mlo a0 b1 0 (mhi a0 b0 0 0)) 0)) 0))) (mhi a3 b0 (mlo a2 b1 (mlo a1 b2 (mlo a0 b3 0 (mhi a0 b2 0 (mhi a0 b1 0 (mhi a0 b0 0 0)))) (mhi a1 b1 (mlo a0 b2 0 (mhi a0 b1 0 (mhi a0 b0 0 0))) (mhi a1 b0 (mlo a0 b1 0 (mhi a0 b0 0 0)) 0))) (mhi a2 b0 (mlo a1 b1 (mlo a0 b2 0 (mhi a0 b1 0 (mhi a0 b0 0 0))) (mhi a1 b0 (mlo a0 b1 0 (mhi a0 b0 0 0)) 0)) 0)) 0))) (mlo a3 b3 (mhi a2 b3 (mhi a1 b3 (mhi a0 b3 0 (mhi a0 b2 0 (mhi a0 b1 0 (mhi a0 b0 0 0)))) (mhi a1 b2 (mlo a0 b3 0 (mhi a0 b2 0 (mhi a0 b1 0 (mhi a0 b0 0 0)))) (mhi a1 b1 (mlo a0 b2 0 (mhi a0 b1 0 (mhi a0 b0 0 0))) (mhi a1 b0 (mlo a0 b1 0 (mhi a0 b0 0 0)) 0)))) (mhi a2 b2 (mlo a1 b3 (mhi a0 b3 0 (mhi a0 b2 0 (mhi a0 b1 0 (mhi a0 b0 0 0)))) (mhi a1 b2 (mlo a0 b3 0 (mhi a0 b2 0 (mhi a0 b1 0 (mhi a0 b0 0 0)))) (mhi a1 b1 (mlo a0 b2 0 (mhi a0 b1 0 (mhi a0 b0 0 0))) (mhi a1 b0 (mlo a0 b1 0 (mhi a0 b0 0 0)) 0)))) (mhi a2 b1 (mlo a1 b2 (mlo a0 b3 0 (mhi a0 b2 0 (mhi a0 b1 0 (mhi a0 b0 0 0)))) (mhi a1 b1 (mlo a0 b2 0 (mhi a0 b1 0 (mhi a0 b0 0 0))) (mhi a1 b0 (mlo a0 b1 0 (mhi a0 b0 0 0)) 0))) (mhi a2 b0 (mlo a1 b1 (mlo a0 b2 0 (mhi a0 b1 0 (mhi a0 b0 0 0))) (mhi a1 b0 (mlo a0 b1 0 (mhi a0 b0 0 0)) 0)) 0)))) (mhi a3 b2 (mlo a2 b3 (mhi a1 b3 (mhi a0 b3 0 (mhi a0 b2 0 (mhi a0 b1 0 (mhi a0 b0 0 0)))) (mhi a1 b2 (mlo a0 b3 0 (mhi a0 b2 0 (mhi a0 b1 0 (mhi a0 b0 0 0)))) (mhi a1 b1 (mlo a0 b2 0 (mhi a0 b1 0 (mhi a0 b0 0 0))) (mhi a1 b0 (mlo a0 b1 0 (mhi a0 b0 0 0)) 0)))) (mhi a2 b2 (mlo a1 b3 (mhi a0 b3 0 (mhi a0 b2 0 (mhi a0 b1 0 (mhi a0 b0 0 0)))) (mhi a1 b2 (mlo a0 b3 0 (mhi a0 b2 0 (mhi a0 b1 0 (mhi a0 b0 0 0)))) (mhi a1 b1 (mlo a0 b2 0 (mhi a0 b1 0 (mhi a0 b0 0 0))) (mhi a1 b0 (mlo a0 b1 0 (mhi a0 b0 0 0)) 0)))) (mhi a2 b1 (mlo a1 b2 (mlo a0 b3 0 (mhi a0 b2 0 (mhi a0 b1 0 (mhi a0 b0 0 0)))) (mhi a1 b1 (mlo a0 b2 0 (mhi a0 b1 0 (mhi a0 b0 0 0))) (mhi a1 b0 (mlo a0 b1 0 (mhi a0 b0 0 0)) 0))) (mhi a2 b0 (mlo a1 b1 (mlo a0 b2 0 (mhi a0 b1 0 (mhi a0 b0 0 0))) (mhi a1 b0 (mlo a0 b1 0 (mhi a0 b0 0 0)) 0)) 0)))) (mhi a3 b1 (mlo a2 b2 (mlo a1 b3 (mhi a0 b3 0 (mhi a0 b2 0 (mhi a0 b1 0 (mhi a0 b0 0 0)))) (mhi a1 b2 (mlo a0 b3 0 (mhi a0 b2 0 (mhi a0 b1 0 (mhi a0 b0 0 0)))) (mhi a1 b1 (mlo a0 b2 0 (mhi a0 b1 0 (mhi a0 b0 0 0))) (mhi a1 b0 (mlo a0 b1 0 (mhi a0 b0 0 0)) 0)))) (mhi a2 b1 (mlo a1 b2 (mlo a0 b3 0 (mhi a0 b2 0 (mhi a0 b1 0 (mhi a0 b0 0 0)))) (mhi a1 b1 (mlo a0 b2 0 (mhi a0 b1 0 (mhi a0 b0 0 0))) (mhi a1 b0 (mlo a0 b1 0 (mhi a0 b0 0 0)) 0))) (mhi a2 b0 (mlo a1 b1 (mlo a0 b2 0 (mhi a0 b1 0 (mhi a0 b0 0 0))) (mhi a1 b0 (mlo a0 b1 0 (mhi a0 b0 0 0)) 0)) 0))) (mhi a3 b0 (mlo a2 b1 (mlo a1 b2 (mlo a0 b3 0 (mhi a0 b2 0 (mhi a0 b1 0 (mhi a0 b0 0 0)))) (mhi a1 b1 (mlo a0 b2 0 (mhi a0 b1 0 (mhi a0 b0 0 0))) (mhi a1 b0 (mlo a0 b1 0 (mhi a0 b0 0 0)) 0))) (mhi a2 b0 (mlo a1 b1 (mlo a0 b2 0 (mhi a0 b1 0 (mhi a0 b0 0 0))) (mhi a1 b0 (mlo a0 b1 0 (mhi a0 b0 0 0)) 0)) 0)) 0)))) (mhi a3 b3 (mhi a2 b3 (mhi a1 b3 (mhi a0 b3 0 (mhi a0 b2 0 (mhi a0 b1 0 (mhi a0 b0 0 0)))) (mhi a1 b2 (mlo a0 b3 0 (mhi a0 b2 0 (mhi a0 b1 0 (mhi a0 b0 0 0)))) (mhi a1 b1 (mlo a0 b2 0 (mhi a0 b1 0 (mhi a0 b0 0 0))) (mhi a1 b0 (mlo a0 b1 0 (mhi a0 b0 0 0)) 0)))) (mhi a2 b2 (mlo a1 b3 (mhi a0 b3 0 (mhi a0 b2 0 (mhi a0 b1 0 (mhi a0 b0 0 0)))) (mhi a1 b2 (mlo a0 b3 0 (mhi a0 b2 0 (mhi a0 b1 0 (mhi a0 b0 0 0)))) (mhi a1 b1 (mlo a0 b2 0 (mhi a0 b1 0 (mhi a0 b0 0 0))) (mhi a1 b0 (mlo a0 b1 0 (mhi a0 b0 0 0)) 0)))) (mhi a2 b1 (mlo a1 b2 (mlo a0 b3 0 (mhi a0 b2 0 (mhi a0 b1 0 (mhi a0 b0 0 0)))) (mhi a1 b1 (mlo a0 b2 0 (mhi a0 b1 0 (mhi a0 b0 0 0))) (mhi a1 b0 (mlo a0 b1 0 (mhi a0 b0 0 0)) 0))) (mhi a2 b0 (mlo a1 b1 (mlo a0 b2 0 (mhi a0 b1 0 (mhi a0 b0 0 0))) (mhi a1 b0 (mlo a0 b1 0 (mhi a0 b0 0 0)) 0)) 0)))) (mhi a3 b2 (mlo a2 b3 (mhi a1 b3 (mhi a0 b3 0 (mhi a0 b2 0 (mhi a0 b1 0 (mhi a0 b0 0 0)))) (mhi a1 b2 (mlo a0 b3 0 (mhi a0 b2 0 (mhi a0 b1 0 (mhi a0 b0 0 0)))) (mhi a1 b1 (mlo a0 b2 0 (mhi a0 b1 0 (mhi a0 b0 0 0))) (mhi a1 b0 (mlo a0 b1 0 (mhi a0 b0 0 0)) 0)))) (mhi a2 b2 (mlo a1 b3 (mhi a0 b3 0 (mhi a0 b2 0 (mhi a0 b1 0 (mhi a0 b0 0 0)))) (mhi a1 b2 (mlo a0 b3 0 (mhi a0 b2 0 (mhi a0 b1 0 (mhi a0 b0 0 0)))) (mhi a1 b1 (mlo a0 b2 0 (mhi a0 b1 0 (mhi a0 b0 0 0))) (mhi a1 b0 (mlo a0 b1 0 (mhi a0 b0 0 0)) 0)))) (mhi a2 b1 (mlo a1 b2 (mlo a0 b3 0 (mhi a0 b2 0 (mhi a0 b1 0 (mhi a0 b0 0 0)))) (mhi a1 b1 (mlo a0 b2 0 (mhi a0 b1 0 (mhi a0 b0 0 0))) (mhi a1 b0 (mlo a0 b1 0 (mhi a0 b0 0 0)) 0))) (mhi a2 b0 (mlo a1 b1 (mlo a0 b2 0 (mhi a0 b1 0 (mhi a0 b0 0 0))) (mhi a1 b0 (mlo a0 b1 0 (mhi a0 b0 0 0)) 0)) 0)))) (mhi a3 b1 (mlo a2 b2 (mlo a1 b3 (mhi a0 b3 0 (mhi a0 b2 0 (mhi a0 b1 0 (mhi a0 b0 0 0)))) (mhi a1 b2 (mlo a0 b3 0 (mhi a0 b2 0 (mhi a0 b1 0 (mhi a0 b0 0 0)))) (mhi a1 b1 (mlo a0 b2 0 (mhi a0 b1 0 (mhi a0 b0 0 0))) (mhi a1 b0 (mlo a0 b1 0 (mhi a0 b0 0 0)) 0)))) (mhi a2 b1 (mlo a1 b2 (mlo a0 b3 0 (mhi a0 b2 0 (mhi a0 b1 0 (mhi a0 b0 0 0)))) (mhi a1 b1 (mlo a0 b2 0 (mhi a0 b1 0 (mhi a0 b0 0 0))) (mhi a1 b0 (mlo a0 b1 0 (mhi a0 b0 0 0)) 0))) (mhi a2 b0 (mlo a1 b1 (mlo a0 b2 0 (mhi a0 b1 0 (mhi a0 b0 0 0))) (mhi a1 b0 (mlo a0 b1 0 (mhi a0 b0 0 0)) 0)) 0))) (mhi a3 b0 (mlo a2 b1 (mlo a1 b2 (mlo a0 b3 0 (mhi a0 b2 0 (mhi a0 b1 0 (mhi a0 b0 0 0)))) (mhi a1 b1 (mlo a0 b2 0 (mhi a0 b1 0 (mhi a0 b0 0 0))) (mhi a1 b0 (mlo a0 b1 0 (mhi a0 b0 0 0)) 0))) (mhi a2 b0 (mlo a1 b1 (mlo a0 b2 0 (mhi a0 b1 0 (mhi a0 b0 0 0))) (mhi a1 b0 (mlo a0 b1 0 (mhi a0 b0 0 0)) 0)) 0)) 0))))], h') ∧ Keep h h' := by
  rw [s_cfn e _ _ (Nat.le_of_ble_eq_true rfl)]
  simp (config := {maxSteps := 4000000}) (disch := first | assumption | with_reducible exact mlo_lt _ _ _ _ | with_reducible exact mhi_lt _ _ _ _ | omega | (simp only [List.length_cons, List.length_nil, List.length_append, List.length_drop]; omega)) only [W4, mA e0 e1, mA0 e0 e1, mA1 e0 e1, mA2 e0 e1, wr_i64, ne_dec, v_beqi, v_beqa, ↓s_box, c_agg, ↓s_evD, ↓s_dnil, ↓s_dL, ↓s_dLg, ↓s_dR, ↓s_dRg, ↓s_dRj, ↓s_dRjg, ↓s_dB, ↓s_dBg, ↓s_dAlloc, ↓s_bindD, s_bindD, s_finD, s_finDx, s_addP0, s_addP1, s_addB, s_lookP, ↓s_bump0, ↓s_bump_get, s_bump_next, s_ok0, ↓s_ok1, s_okR0, ↓s_okR1, ↓s_okE, s_okE, s_okE1, s_nth0, s_nthS, Nat.add_zero, Bool.and_self, Bool.and_true, Bool.true_and, ↓l_loop, ↓l_succ, ↓l_normal, l_normal, l_exit, l_ret, l_iteN, ↓h_put_get, ↓h_new_get, ↓h_del_get, h_next_put, h_next_new, h_next_del, Nat.add_assoc, Nat.add_eq_left, Nat.left_eq_add, Nat.add_left_cancel_iff, ↓s_load, m_load, ↓m_load1, m_load1, ↓m_st, m_stE, m_storeI, m_storeE, w_zero, w_succ, ↓s_alloc, ↓x_idxA, ↓x_idxS, x_idxAE, x_idxSE, x_addrE, x_idx, x_lenS, ↓s_len, ↓x_buildS, x_buildE, ↓x_P0, ↓x_P1, x_fill0, x_filli, x_fills, x_fillb, c_int, List.length_cons, List.length_nil, List.cons_append, List.drop_succ_cons, List.drop_zero, List.drop_nil, List.nil_append, Int.reduceAdd, Int.reduceToNat, Int.reduceLT, Int.reduceLE, Nat.reduceAdd, Nat.reduceMul, Nat.reduceLeDiff, Int.reduceEq, Int.reduceSub, Int.cast_ofNat_Int, s_resc, s_consR, m_load4, m_store4, s_res0, ↓s_skip, ↓s_ops, ↓s_dops, ↓s_seq, ↓s_cond, ↓s_block, ↓s_exit, ↓s_ret, ↓s_scope, ↓s_nil, ↓s_op, ↓s_opg, ↓s_wanted', ↓s_wantV, s_wantV, s_wantV0, beq_true, beq_false, ↓s_bindS, s_bindS, ↓s_bindE, s_bindE, s_bindE_ret, s_bindE_exit, s_bindE_iteN, s_norm, ↓s_condV, s_condV, s_block_ret, s_block_normal, s_block_exit, s_block_iteN, ↓s_getp, ↓s_getp0, ↓s_get, s_get0, ↓s_con, ↓s_fn, ↓s_os0, ↓s_os1, ↓s_list0, ↓s_list1, ↓s_mov, ↓s_pick, ↓s_pickE, s_pickE, ↓s_bin, ↓s_un, ↓s_minmax, ↓s_call, ↓s_callv, ↓s_callV, ↓s_ext, s_same, b_eql, b_neq, b_lss, b_leq, b_gtr, b_geq, b_add, b_sub, b_mul, b_eqlb, b_neqb, b_fnil, b_fnil', b_fnil2, b_fnil2', u_neg, u_not, m_two, s_end, s_end', s_end_iteN, s_res0, s_res1, s_tup1, s_tup2, ↓iteN_true, ↓iteN_false, iteN_true, iteN_false, Nat.zero_add, List.nil_append, List.append_nil, Nat.reduceEqDiff, reduceIte, decide_true, decide_false, Bool.not_true, Bool.not_false, List.getElem?_cons_zero, List.getElem?_cons_succ, Bool.false_eq_true, if_true, if_false, beq_self_eq_true]
  refine ⟨_, rfl, ?_⟩
  repeat (first | exact Keep.refl _ | refine Keep.put ?_ _ (by omega) | refine Keep.trans ?_ (Keep.new _ _))
theorem dig4 (x : Nat) (hx : x < 115792089237316195423570985008687907853269984665640564039457584007913129639936) : ((x % 18446744073709551616) + 18446744073709551616 * ((x / 18446744073709551616 % 18446744073709551616) + 18446744073709551616 * ((x / 18446744073709551616 / 18446744073709551616 % 18446744073709551616) + 18446744073709551616 * (x / 18446744073709551616 / 18446744073709551616 / 18446744073709551616 % 18446744073709551616)))) = x := by omega
theorem W4_Wd (P r0 r1 r2 r3 r4 r5 r6 r7 : Nat) (h0 : r0 < 18446744073709551616) (h1 : r1 < 18446744073709551616) (h2 : r2 < 18446744073709551616) (h3 : r3 < 18446744073709551616) (h4 : r4 < 18446744073709551616) (h5 : r5 < 18446744073709551616) (h6 : r6 < 18446744073709551616) (h7 : r7 < 18446744073709551616) (e : (r0 + 18446744073709551616 * (r1 + 18446744073709551616 * (r2 + 18446744073709551616 * (r3 + 18446744073709551616 * (r4 + 18446744073709551616 * (r5 + 18446744073709551616 * (r6 + 18446744073709551616 * r7))))))) = P) : W4 r0 r1 r2 r3 = Wd (P % 115792089237316195423570985008687907853269984665640564039457584007913129639936) ∧ W4 r4 r5 r6 r7 = Wd (P / 115792089237316195423570985008687907853269984665640564039457584007913129639936) := by
  have eL : P % 115792089237316195423570985008687907853269984665640564039457584007913129639936 = (r0 + 18446744073709551616 * (r1 + 18446744073709551616 * (r2 + 18446744073709551616 * r3))) := by omega
  have eH : P / 115792089237316195423570985008687907853269984665640564039457584007913129639936 = (r4 + 18446744073709551616 * (r5 + 18446744073709551616 * (r6 + 18446744073709551616 * r7))) := by omega
  rw [eL, eH]
  clear e eL eH
  have t : ∀ s0 s1 s2 s3 : Nat, s0 < 18446744073709551616 → s1 < 18446744073709551616 → s2 < 18446744073709551616 → s3 < 18446744073709551616 → W4 s0 s1 s2 s3 = Wd (s0 + 18446744073709551616 * (s1 + 18446744073709551616 * (s2 + 18446744073709551616 * s3))) := by
    intro s0 s1 s2 s3 g0 g1 g2 g3
    unfold Wd
    have a1 : (s0 + 18446744073709551616 * (s1 + 18446744073709551616 * (s2 + 18446744073709551616 * s3))) / 18446744073709551616 = (s1 + 18446744073709551616 * (s2 + 18446744073709551616 * s3)) := by omega
    have a2 : (s1 + 18446744073709551616 * (s2 + 18446744073709551616 * s3)) / 18446744073709551616 = (s2 + 18446744073709551616 * s3) := by omega
    have a3 : (s2 + 18446744073709551616 * s3) / 18446744073709551616 = s3 := by omega
    rw [a1, a2, a3]
    have b0 : (s0 + 18446744073709551616 * (s1 + 18446744073709551616 * (s2 + 18446744073709551616 * s3))) % 18446744073709551616 = s0 := by omega
    have b1 : (s1 + 18446744073709551616 * (s2 + 18446744073709551616 * s3)) % 18446744073709551616 = s1 := by omega
    have b2 : (s2 + 18446744073709551616 * s3) % 18446744073709551616 = s2 := by omega
    have b3 : s3 % 18446744073709551616 = s3 := by omega
    rw [b0, b1, b2, b3]
  exact ⟨t r0 r1 r2 r3 h0 h1 h2 h3, t r4 r5 r6 r7 h4 h5 h6 h7⟩
theorem sp_Mul (e0 : E k_math_bits_Mul64 = some f_math_bits_Mul64) (e1 : E k_wide_mulAdd = some f_wide_mulAdd) (e : E k_wide_Mul = some f_wide_Mul) (n x y : Nat) (hx : x < 115792089237316195423570985008687907853269984665640564039457584007913129639936) (hy : y < 115792089237316195423570985008687907853269984665640564039457584007913129639936) (h : H) :
   ∃ h', callN E (n + 14) (.fn k_wide_Mul) [Wd x, Wd y] h = some (.tup [Wd (x * y % 115792089237316195423570985008687907853269984665640564039457584007913129639936), Wd (x * y / 115792089237316195423570985008687907853269984665640564039457584007913129639936)], h') ∧ Keep h h' := by
  have z : (0 : Nat) < 18446744073709551616 := Nat.succ_pos _
  obtain ⟨h', c, k⟩ := sp_Mul4 e0 e1 e n (x % 18446744073709551616) (x / 18446744073709551616 % 18446744073709551616) (x / 18446744073709551616 / 18446744073709551616 % 18446744073709551616) (x / 18446744073709551616 / 18446744073709551616 / 18446744073709551616 % 18446744073709551616) (y % 18446744073709551616) (y / 18446744073709551616 % 18446744073709551616) (y / 18446744073709551616 / 18446744073709551616 % 18446744073709551616) (y / 18446744073709551616 / 18446744073709551616 / 18446744073709551616 % 18446744073709551616) (by omega) (by omega) (by omega) (by omega) (by omega) (by omega) (by omega) (by omega) h
  have v := mulVal (x % 18446744073709551616) (x / 18446744073709551616 % 18446744073709551616) (x / 18446744073709551616 / 18446744073709551616 % 18446744073709551616) (x / 18446744073709551616 / 18446744073709551616 / 18446744073709551616 % 18446744073709551616) (y % 18446744073709551616) (y / 18446744073709551616 % 18446744073709551616) (y / 18446744073709551616 / 18446744073709551616 % 18446744073709551616) (y / 18446744073709551616 / 18446744073709551616 / 18446744073709551616 % 18446744073709551616) (by omega) (by omega) (by omega) (by omega) (by omega) (by omega) (by omega) (by omega)
  rw [dig4 x hx, dig4 y hy] at v
  obtain ⟨w1, w2⟩ := W4_Wd (x * y) _ _ _ _ _ _ _ _ (mlo_lt _ _ _ _) (mlo_lt _ _ _ _) (mlo_lt _ _ _ _) (mlo_lt _ _ _ _) (mlo_lt _ _ _ _) (mlo_lt _ _ _ _) (mlo_lt _ _ _ _) (mhi_lt _ _ _ _) v
  refine ⟨h', ?_, k⟩
  unfold Wd
  rw [c, w1, w2]; rfl
end Go.Eng
namespace Go.Eng
open Go
variable {E : Nat → Option Fn}
set_option linter.unusedSimpArgs false
set_option linter.unusedVariables false
theorem n_shr1 (a : Nat) (h : H) : binV .shr .no h (.int .u64 (a : Int)) (.int .u64 1) = some (.int .u64 ((a / 2 : Nat) : Int)) := by
  show some (V.int .u64 (Int.ofNat (a / 2 ^ 1))) = _
  rfl
theorem le_decF (a b : Nat) (h : b < a) : decide (a ≤ b) = false := by simp; omega
theorem wz : V.agg [.int .u64 0, .int .u64 0, .int .u64 0, .int .u64 0] = Wd 0 := _root_.id rfl
theorem wa2 (a b : Nat) (ha : a < 18446744073709551616) (hb : b < 18446744073709551616) : V.agg [.int .u64 (a : Int), .int .u64 (b : Int), .int .u64 0, .int .u64 0] = Wd (a + 18446744073709551616 * b) := by
  unfold Wd W4
  have a1 : (a + 18446744073709551616 * b) / 18446744073709551616 = b := by omega
  have a2 : b / 18446744073709551616 = 0 := by omega
  have b0 : (a + 18446744073709551616 * b) % 18446744073709551616 = a := by omega
  have b1 : b % 18446744073709551616 = b := by omega
  rw [a1, a2, b0, b1]; rfl
theorem ml_ (X : WideE E) (m0 : E k_math_bits_Mul64 = some f_math_bits_Mul64) (m1 : E k_wide_mulAdd = some f_wide_mulAdd) (m2 : E k_wide_Mul = some f_wide_Mul) (n : Nat) (x y : Nat) (h : H) (hx : x < 115792089237316195423570985008687907853269984665640564039457584007913129639936) (hy : y < 115792089237316195423570985008687907853269984665640564039457584007913129639936) : ∃ h', callN E (n + 14) (.fn k_wide_Mul) [Wd x, Wd y] h = some (.tup [Wd (x * y % 115792089237316195423570985008687907853269984665640564039457584007913129639936), Wd (x * y / 115792089237316195423570985008687907853269984665640564039457584007913129639936)], h') ∧ Keep h h' := sp_Mul m0 m1 m2 n x y hx hy h
set_option maxHeartbeats 8000000 in
set_option maxRecDepth 20000 in
theorem law_WideTimes4 (X : WideE E) (m0 : E k_math_bits_Mul64 = some f_math_bits_Mul64) (m1 : E k_wide_mulAdd = some f_wide_mulAdd) (m2 : E k_wide_Mul = some f_wide_Mul) (e : E k_purserlaw03_WideTimes = some f_purserlaw03_WideTimes) (a0 a1 a2 a3 b0 b1 b2 b3 c0 c1 c2 c3 : Nat) (A0 : a0 < 18446744073709551616) (A1 : a1 < 18446744073709551616) (B0 : b0 < 18446744073709551616) (B1 : b1 < 18446744073709551616) (C0 : c0 < 18446744073709551616) (C1 : c1 < 18446744073709551616) (h h1 : H)
    (ea : callN E 1999 (.fn k_purserlaw03_alive) [] (((h.new (.cells [.int .u64 (a0 : Int), .int .u64 (a1 : Int), .int .u64 (a2 : Int), .int .u64 (a3 : Int)] .rw)).new (.cells [.int .u64 (b0 : Int), .int .u64 (b1 : Int), .int .u64 (b2 : Int), .int .u64 (b3 : Int)] .rw)).new (.cells [.int .u64 (c0 : Int), .int .u64 (c1 : Int), .int .u64 (c2 : Int), .int .u64 (c3 : Int)] .rw)) = some (.bool true, h1)) (r0 : h1.get h.next = some (.cells [.int .u64 (a0 : Int), .int .u64 (a1 : Int), .int .u64 (a2 : Int), .int .u64 (a3 : Int)] .rw)) (r1 : h1.get (h.next + 1) = some (.cells [.int .u64 (b0 : Int), .int .u64 (b1 : Int), .int .u64 (b2 : Int), .int .u64 (b3 : Int)] .rw)) (r2 : h1.get (h.next + 2) = some (.cells [.int .u64 (c0 : Int), .int .u64 (c1 : Int), .int .u64 (c2 : Int), .int .u64 (c3 : Int)] .rw)) (q0 : h.next + 3 ≤ h1.next) :
    ∃ h2, callN E 2000 (.fn k_purserlaw03_WideTimes) [W4 a0 a1 a2 a3, W4 b0 b1 b2 b3, W4 c0 c1 c2 c3] h = some (.bool true, h2) := by
  rw [show (2000 : Nat) = 1999 + 1 from rfl, s_cfn e _ _ (Nat.le_of_ble_eq_true rfl)]
  obtain ⟨A, hA, wA⟩ : ∃ n : Nat, n < 340282366920938463463374607431768211456 ∧ V.agg [.int .u64 ((a0 : Nat) : Int), .int .u64 ((a1 : Nat) : Int), .int .u64 0, .int .u64 0] = Wd n := ⟨_, by omega, wa2 (a0) (a1) (by omega) (by omega)⟩
  obtain ⟨B, hB, wB⟩ : ∃ n : Nat, n < 170141183460469231731687303715884105728 ∧ V.agg [.int .u64 ((b0 : Nat) : Int), .int .u64 ((b1 / 2 : Nat) : Int), .int .u64 0, .int .u64 0] = Wd n := ⟨_, by omega, wa2 (b0) (b1 / 2) (by omega) (by omega)⟩
  obtain ⟨C, hC, wC⟩ : ∃ n : Nat, n < 170141183460469231731687303715884105728 ∧ V.agg [.int .u64 ((c0 : Nat) : Int), .int .u64 ((c1 / 2 : Nat) : Int), .int .u64 0, .int .u64 0] = Wd n := ⟨_, by omega, wa2 (c0) (c1 / 2) (by omega) (by omega)⟩
  have hM : A * (B + C) ≤ 340282366920938463463374607431768211455 * 340282366920938463463374607431768211455 := Nat.mul_le_mul (by omega) (by omega)
  rw [Nat.mul_add] at hM
  have hs : (B + C) % 115792089237316195423570985008687907853269984665640564039457584007913129639936 = B + C := by omega
  obtain ⟨P, eP⟩ : ∃ P, P = A * B := ⟨_, rfl⟩
  obtain ⟨Q, eQ⟩ : ∃ Q, Q = A * C := ⟨_, rfl⟩
  have eS : A * (B + C) = P + Q := by rw [eP, eQ, Nat.mul_add]
  rw [← eP, ← eQ] at hM
  obtain ⟨g1, e1, k1⟩ := ml_ X m0 m1 m2 1985 A B ((((((((h1.put h.next (.cells [.int .u64 ((a0 : Nat) : Int), .int .u64 ((a1 : Nat) : Int), .int .u64 0, .int .u64 ((a3 : Nat) : Int)] .rw)).put (h.next + 1) (.cells [.int .u64 ((b0 : Nat) : Int), .int .u64 ((b1 : Nat) : Int), .int .u64 0, .int .u64 ((b3 : Nat) : Int)] .rw)).put (h.next + 2) (.cells [.int .u64 ((c0 : Nat) : Int), .int .u64 ((c1 : Nat) : Int), .int .u64 0, .int .u64 ((c3 : Nat) : Int)] .rw)).put h.next (.cells [.int .u64 ((a0 : Nat) : Int), .int .u64 ((a1 : Nat) : Int), .int .u64 0, .int .u64 0] .rw)).put (h.next + 1) (.cells [.int .u64 ((b0 : Nat) : Int), .int .u64 ((b1 : Nat) : Int), .int .u64 0, .int .u64 0] .rw)).put (h.next + 2) (.cells [.int .u64 ((c0 : Nat) : Int), .int .u64 ((c1 : Nat) : Int), .int .u64 0, .int .u64 0] .rw)).put (h.next + 2) (.cells [.int .u64 ((c0 : Nat) : Int), .int .u64 ((c1 / 2 : Nat) : Int), .int .u64 0, .int .u64 0] .rw)).put (h.next + 1) (.cells [.int .u64 ((b0 : Nat) : Int), .int .u64 ((b1 / 2 : Nat) : Int), .int .u64 0, .int .u64 0] .rw)) (by omega) (by omega)
  have q1 := k1.1
  have s1 := k1.2
  try simp only [h_next_put, h_next_new, s_bump_next] at q1 s1
  rw [← eP] at e1
  obtain ⟨g2, e2, k2⟩ := ml_ X m0 m1 m2 1985 B A ((((g1.new (.cells [.int .u64 0, .int .u64 0, .int .u64 0, .int .u64 0] .rw)).new (.cells [.int .u64 0, .int .u64 0, .int .u64 0, .int .u64 0] .rw)).put g1.next (.cells (cW (P % 115792089237316195423570985008687907853269984665640564039457584007913129639936)) .rw)).put (g1.next + 1) (.cells (cW (P / 115792089237316195423570985008687907853269984665640564039457584007913129639936)) .rw)) (by omega) (by omega)
  have q2 := k2.1
  have s2 := k2.2
  try simp only [h_next_put, h_next_new, s_bump_next] at q2 s2
  rw [Nat.mul_comm B A, ← eP] at e2
  obtain ⟨g3, e3, k3⟩ := ad_ X 1992 B C ((((g2.new (.cells [.int .u64 0, .int .u64 0, .int .u64 0, .int .u64 0] .rw)).new (.cells [.int .u64 0, .int .u64 0, .int .u64 0, .int .u64 0] .rw)).put g2.next (.cells (cW (P % 115792089237316195423570985008687907853269984665640564039457584007913129639936)) .rw)).put (g2.next + 1) (.cells (cW (P / 115792089237316195423570985008687907853269984665640564039457584007913129639936)) .rw)) (by omega) (by omega)
  have q3 := k3.1
  have s3 := k3.2
  try simp only [h_next_put, h_next_new, s_bump_next] at q3 s3
  rw [hs] at e3
  obtain ⟨g4, e4, k4⟩ := ml_ X m0 m1 m2 1985 A (B + C) ((g3.new (.cells [.int .u64 0, .int .u64 0, .int .u64 0, .int .u64 0] .rw)).put g3.next (.cells (cW (B + C)) .rw)) (by omega) (by omega)
  have q4 := k4.1
  have s4 := k4.2
  try simp only [h_next_put, h_next_new, s_bump_next] at q4 s4
  rw [eS] at e4
  obtain ⟨g5, e5, k5⟩ := ml_ X m0 m1 m2 1985 A C ((((g4.new (.cells [.int .u64 0, .int .u64 0, .int .u64 0, .int .u64 0] .rw)).new (.cells [.int .u64 0, .int .u64 0, .int .u64 0, .int .u64 0] .rw)).put g4.next (.cells (cW ((P + Q) % 115792089237316195423570985008687907853269984665640564039457584007913129639936)) .rw)).put (g4.next + 1) (.cells (cW ((P + Q) / 115792089237316195423570985008687907853269984665640564039457584007913129639936)) .rw)) (by omega) (by omega)
  have q5 := k5.1
  have s5 := k5.2
  try simp only [h_next_put, h_next_new, s_bump_next] at q5 s5
  rw [← eQ] at e5
  obtain ⟨g6, e6, k6⟩ := ad_ X 1992 (P % 115792089237316195423570985008687907853269984665640564039457584007913129639936) (Q % 115792089237316195423570985008687907853269984665640564039457584007913129639936) ((((g5.new (.cells [.int .u64 0, .int .u64 0, .int .u64 0, .int .u64 0] .rw)).new (.cells [.int .u64 0, .int .u64 0, .int .u64 0, .int .u64 0] .rw)).put g5.next (.cells (cW (Q % 115792089237316195423570985008687907853269984665640564039457584007913129639936)) .rw)).put (g5.next + 1) (.cells (cW (Q / 115792089237316195423570985008687907853269984665640564039457584007913129639936)) .rw)) (by omega) (by omega)
  have q6 := k6.1
  have s6 := k6.2
  try simp only [h_next_put, h_next_new, s_bump_next] at q6 s6
  obtain ⟨g7, e7, k7⟩ : ∃ h', callN E 1999 (.fn k_wide_Of) [.int .u64 1] (bump 2 ((g6.new (.cells [.int .u64 0, .int .u64 0, .int .u64 0, .int .u64 0] .rw)).put g6.next (.cells (cW ((P % 115792089237316195423570985008687907853269984665640564039457584007913129639936 + Q % 115792089237316195423570985008687907853269984665640564039457584007913129639936) % 115792089237316195423570985008687907853269984665640564039457584007913129639936)) .rw))) = some (Wd 1, h') ∧ Keep (bump 2 ((g6.new (.cells [.int .u64 0, .int .u64 0, .int .u64 0, .int .u64 0] .rw)).put g6.next (.cells (cW ((P % 115792089237316195423570985008687907853269984665640564039457584007913129639936 + Q % 115792089237316195423570985008687907853269984665640564039457584007913129639936) % 115792089237316195423570985008687907853269984665640564039457584007913129639936)) .rw))) h' := ⟨_, eq_Of1 X 1998 _, kp_Of1 X 1998 _⟩
  have q7 := k7.1
  have s7 := k7.2
  try simp only [h_next_put, h_next_new, s_bump_next] at q7 s7
  obtain ⟨g8, e8, k8⟩ := ml_ X m0 m1 m2 1985 A 1 g7 (by omega) (by omega)
  have q8 := k8.1
  have s8 := k8.2
  try simp only [h_next_put, h_next_new, s_bump_next] at q8 s8
  rw [Nat.mul_one] at e8
  obtain ⟨g9, e9, k9⟩ := ml_ X m0 m1 m2 1985 A 0 ((((g8.put (g6.next + 1) (.cells [.int .u64 0, .int .u64 0, .int .u64 0, .int .u64 0] .rw)).put (g6.next + 2) (.cells [.int .u64 0, .int .u64 0, .int .u64 0, .int .u64 0] .rw)).put (g6.next + 1) (.cells (cW (A % 115792089237316195423570985008687907853269984665640564039457584007913129639936)) .rw)).put (g6.next + 2) (.cells (cW (A / 115792089237316195423570985008687907853269984665640564039457584007913129639936)) .rw)) (by omega) (by omega)
  have q9 := k9.1
  have s9 := k9.2
  try simp only [h_next_put, h_next_new, s_bump_next] at q9 s9
  rw [Nat.mul_zero] at e9

  simp (config := {maxSteps := 2000000}) (disch := first | omega | (simp only [List.length_cons, List.length_nil, List.length_append, List.length_drop]; omega)) only [W4, ea, r0, r1, r2, wA, wB, wC, e1, s1, e2, s2, e3, s3, e4, s4, e5, s5, e6, s6, e7, s7, e8, s8, e9, s9,  n_shr1, wz, le_decF, ↓x_build, x_aggO, wr_i64, ↓s_box, c_agg, w_cells, w_load, w_store, w_st4, w_beq, b_eqW, ne_dec, eq_decT, u_not, ↓s_evD, ↓s_dnil, ↓s_dL, ↓s_dLg, ↓s_dR, ↓s_dRg, ↓s_dRj, ↓s_dRjg, ↓s_dB, ↓s_dBg, ↓s_dAlloc, ↓s_bindD, s_bindD, s_finD, s_finDx, s_addP0, s_addP1, s_addB, s_lookP, ↓s_bump0, ↓s_bump_get, s_bump_next, s_ok0, ↓s_ok1, s_okR0, ↓s_okR1, ↓s_okE, s_okE, s_okE1, s_nth0, s_nthS, Nat.add_zero, Bool.and_self, Bool.and_true, Bool.true_and, ↓l_loop, ↓l_succ, ↓l_normal, l_normal, l_exit, l_ret, l_iteN, ↓h_put_get, ↓h_new_get, ↓h_del_get, h_next_put, h_next_new, h_next_del, Nat.add_assoc, Nat.add_eq_left, Nat.left_eq_add, Nat.add_left_cancel_iff, ↓s_load, m_load, ↓m_load1, m_load1, ↓m_st, m_stE, m_storeI, m_storeE, w_zero, w_succ, ↓s_alloc, ↓x_idxA, ↓x_idxS, x_idxAE, x_idxSE, x_addrE, x_idx, x_lenS, ↓s_len, ↓x_buildS, x_buildE, ↓x_P0, ↓x_P1, x_fill0, x_filli, x_fills, x_fillb, c_int, List.length_cons, List.length_nil, List.cons_append, List.drop_succ_cons, List.drop_zero, List.drop_nil, List.nil_append, Int.reduceAdd, Int.reduceToNat, Int.reduceLT, Int.reduceLE, Nat.reduceAdd, Nat.reduceMul, Nat.reduceLeDiff, Int.reduceEq, Int.reduceSub, Int.cast_ofNat_Int, s_resc, s_consR, m_load4, m_store4, s_res0, ↓s_skip, ↓s_ops, ↓s_dops, ↓s_seq, ↓s_cond, ↓s_block, ↓s_exit, ↓s_ret, ↓s_scope, ↓s_nil, ↓s_op, ↓s_opg, ↓s_wanted', ↓s_wantV, s_wantV, s_wantV0, beq_true, beq_false, ↓s_bindS, s_bindS, ↓s_bindE, s_bindE, s_bindE_ret, s_bindE_exit, s_bindE_iteN, s_norm, ↓s_condV, s_condV, s_block_ret, s_block_normal, s_block_exit, s_block_iteN, ↓s_getp, ↓s_getp0, ↓s_get, s_get0, ↓s_con, ↓s_fn, ↓s_os0, ↓s_os1, ↓s_list0, ↓s_list1, ↓s_mov, ↓s_pick, ↓s_pickE, s_pickE, ↓s_bin, ↓s_un, ↓s_minmax, ↓s_call, ↓s_callv, ↓s_callV, ↓s_ext, s_same, b_eql, b_neq, b_lss, b_leq, b_gtr, b_geq, b_add, b_sub, b_mul, b_eqlb, b_neqb, b_fnil, b_fnil', b_fnil2, b_fnil2', u_neg, u_not, m_two, s_end, s_end', s_end_iteN, s_res0, s_res1, s_tup1, s_tup2, ↓iteN_true, ↓iteN_false, iteN_true, iteN_false, Nat.zero_add, List.nil_append, List.append_nil, Nat.reduceEqDiff, reduceIte, decide_true, decide_false, Bool.not_true, Bool.not_false, List.getElem?_cons_zero, List.getElem?_cons_succ, Bool.false_eq_true, if_true, if_false, beq_self_eq_true]
  exact ⟨_, rfl⟩
theorem law_WideTimes (X : WideE E) (m0 : E k_math_bits_Mul64 = some f_math_bits_Mul64) (m1 : E k_wide_mulAdd = some f_wide_mulAdd) (m2 : E k_wide_Mul = some f_wide_Mul) (e : E k_purserlaw03_WideTimes = some f_purserlaw03_WideTimes) (a b c : Nat) (h h1 : H)
    (ea : callN E 1999 (.fn k_purserlaw03_alive) [] (((h.new (.cells (cW a) .rw)).new (.cells (cW b) .rw)).new (.cells (cW c) .rw)) = some (.bool true, h1)) (r0 : h1.get h.next = some (.cells (cW a) .rw)) (r1 : h1.get (h.next + 1) = some (.cells (cW b) .rw)) (r2 : h1.get (h.next + 2) = some (.cells (cW c) .rw)) (q0 : h.next + 3 ≤ h1.next) :
    ∃ h2, callN E 2000 (.fn k_purserlaw03_WideTimes) [Wd a, Wd b, Wd c] h = some (.bool true, h2) := by
  have z : (0 : Nat) < 18446744073709551616 := Nat.succ_pos _
  exact law_WideTimes4 X m0 m1 m2 e _ _ _ _ _ _ _ _ _ _ _ _ (Nat.mod_lt _ z) (Nat.mod_lt _ z) (Nat.mod_lt _ z) (Nat.mod_lt _ z) (Nat.mod_lt _ z) (Nat.mod_lt _ z) h h1 ea r0 r1 r2 q0
end Go.Eng
