/- What functions of the program come to: own work. -/
import Derived.Test.YtgjoaeefnknpfaaCrA
import Derived.Test.YtgjoaeefnknpfaaCsF
namespace Go.Eng
open Go
set_option linter.unusedSimpArgs false
set_option linter.unusedVariables false
/-! bits turned about -/
def ouN (n : Nat) : Nat → Nat
  | 0 => 0
  | i + 1 => 2 * ouN n i + n / 2 ^ i % 2
def rev (n : Nat) : Nat := ouN n 32
theorem ouN_lt (n : Nat) : ∀ i, ouN n i < 2 ^ i := by
  intro i
  induction i with
  | zero => exact Nat.one_pos
  | succ i ih =>
    show 2 * ouN n i + n / 2 ^ i % 2 < 2 ^ (i + 1)
    rw [Nat.pow_succ]; omega
theorem rev_lt (n : Nat) : rev n < 4294967296 := ouN_lt n 32
theorem ouN_bit (n : Nat) : ∀ i j, (ouN n i).testBit j = (decide (j < i) && n.testBit (i - 1 - j)) := by
  intro i
  induction i with
  | zero => intro j; show (0 : Nat).testBit j = _; rw [Nat.zero_testBit]; simp
  | succ i ih =>
    intro j
    show (2 * ouN n i + n / 2 ^ i % 2).testBit j = _
    cases j with
    | zero =>
      rw [Nat.testBit_zero, Nat.testBit_eq_decide_div_mod_eq]
      simp only [Nat.sub_zero, Nat.add_sub_cancel, Nat.zero_lt_succ, decide_true, Bool.true_and]
      congr 1
      rw [show (2 * ouN n i + n / 2 ^ i % 2) % 2 = n / 2 ^ i % 2 by omega]
    | succ j =>
      rw [Nat.testBit_succ, show (2 * ouN n i + n / 2 ^ i % 2) / 2 = ouN n i by omega, ih j]
      rw [show i + 1 - 1 - (j + 1) = i - 1 - j by omega]
      congr 1
      rw [decide_eq_decide]; omega
theorem rev_bit (n j : Nat) : (rev n).testBit j = (decide (j < 32) && n.testBit (31 - j)) := ouN_bit n 32 j
theorem high0 (n i : Nat) (h : n < 4294967296) (hi : 32 ≤ i) : n.testBit i = false := Nat.testBit_lt_two_pow (show n < 2 ^ i from Nat.lt_of_lt_of_le h (Nat.pow_le_pow_right (n := 2) (i := 32) (j := i) (by omega) (by omega)))
theorem rev_rev (n : Nat) (h : n < 4294967296) : rev (rev n) = n := by
  apply Nat.eq_of_testBit_eq; intro i
  rw [rev_bit, rev_bit]
  by_cases hi : i < 32
  · rw [decide_eq_true hi, decide_eq_true (by omega), show 31 - (31 - i) = i by omega]; rfl
  · rw [decide_eq_false hi, high0 n i h (by omega)]; rfl
def cP (x : Nat) : Nat := if x = 1 then 2197175160 else 0
def stp (r b : Nat) : Nat := (r / 2) ^^^ cP ((r + b) % 2)
theorem cP_lt (x : Nat) : cP x < 4294967296 := by unfold cP; split <;> omega
theorem stp_lt (r b : Nat) (h : r < 4294967296) : stp r b < 4294967296 := Nat.xor_lt_two_pow (n := 32) (by show r / 2 < 4294967296; omega) (cP_lt _)
theorem xdiv2 (a b : Nat) : (a ^^^ b) / 2 = (a / 2) ^^^ (b / 2) := by
  apply Nat.eq_of_testBit_eq; intro i
  rw [← Nat.testBit_succ, Nat.testBit_xor, Nat.testBit_xor, ← Nat.testBit_succ, ← Nat.testBit_succ]
theorem xmod2 (a b : Nat) (ha : a % 2 = 0) : (a ^^^ b) % 2 = b % 2 := by
  have e := Nat.testBit_xor a b 0
  rw [Nat.testBit_zero, Nat.testBit_zero, Nat.testBit_zero, ha, show decide ((0 : Nat) = 1) = false from rfl, Bool.false_xor, decide_eq_decide] at e
  omega
theorem st_even (a x b : Nat) (ha : a % 2 = 0) : stp (a ^^^ x) b = (a / 2) ^^^ stp x b := by
  unfold stp
  have hm := xmod2 a x ha
  rw [xdiv2, Nat.xor_assoc, show ((a ^^^ x) + b) % 2 = (x + b) % 2 by omega]
def F4 (r n : Nat) : Nat := stp (stp (stp (stp r (n % 2)) (n / 2 % 2)) (n / 4 % 2)) (n / 8 % 2)
theorem F4_small (m n : Nat) (hm : m < 16) (hn : n < 16) : F4 m n = tab.getD (m ^^^ n) 0 := by
  have : ∀ i j : Fin 16, F4 i.val j.val = tab.getD (i.val ^^^ j.val) 0 := by decide +kernel
  exact this ⟨m, hm⟩ ⟨n, hn⟩
theorem split16 (r : Nat) : r = (16 * (r / 16)) ^^^ (r % 16) := by
  have h1 := xdiv (16 * (r / 16)) (r % 16)
  have h2 := xmod (16 * (r / 16)) (r % 16)
  rw [show 16 * (r / 16) / 16 = r / 16 by omega, show r % 16 / 16 = 0 by omega, Nat.xor_zero] at h1
  rw [show 16 * (r / 16) % 16 = 0 by omega, show r % 16 % 16 = r % 16 by omega, Nat.zero_xor] at h2
  omega
theorem nib_F4 (r n : Nat) (hn : n < 16) : nib r n = F4 r n := by
  have e : F4 r n = (r / 16) ^^^ F4 (r % 16) n := by
    have s := split16 r
    generalize r / 16 = q at *
    generalize r % 16 = m at *
    subst s
    unfold F4
    rw [st_even _ _ _ (by omega), st_even _ _ _ (by omega), st_even _ _ _ (by omega), st_even _ _ _ (by omega)]
    congr 1
    omega
  rw [e, F4_small _ _ (by omega) hn]; rfl
def G8 (r y : Nat) : Nat → Nat
  | 0 => r
  | i + 1 => stp (G8 r y i) (y / 2 ^ i % 2)
theorem G8_lt (r y : Nat) (h : r < 4294967296) : ∀ i, G8 r y i < 4294967296 := by
  intro i
  induction i with
  | zero => exact h
  | succ i ih => exact stp_lt _ _ ih
theorem stepB_G8 (r y : Nat) (hy : y < 256) : stepB r y = G8 r y 8 := by
  unfold stepB
  rw [nib_F4 _ _ (by omega), nib_F4 _ _ (by omega)]
  show stp (stp (stp (stp (stp (stp (stp (stp r (y % 16 % 2)) (y % 16 / 2 % 2)) (y % 16 / 4 % 2)) (y % 16 / 8 % 2)) (y / 16 % 2)) (y / 16 / 2 % 2)) (y / 16 / 4 % 2)) (y / 16 / 8 % 2) = stp (stp (stp (stp (stp (stp (stp (stp r (y / 1 % 2)) (y / 2 % 2)) (y / 4 % 2)) (y / 8 % 2)) (y / 16 % 2)) (y / 32 % 2)) (y / 64 % 2)) (y / 128 % 2)
  rw [show y % 16 % 2 = y / 1 % 2 by omega, show y % 16 / 2 % 2 = y / 2 % 2 by omega, show y % 16 / 4 % 2 = y / 4 % 2 by omega, show y % 16 / 8 % 2 = y / 8 % 2 by omega, show y / 16 / 2 = y / 32 by omega, show y / 16 / 4 = y / 64 by omega, show y / 16 / 8 = y / 128 by omega]
def restV (r b : Nat) : Nat := if (r / 2147483648 + b) % 2 = 1 then (2 * r % 4294967296) ^^^ 517762881 else 2 * r % 4294967296
theorem poly_bit (j : Nat) : (517762881 : Nat).testBit j = (decide (j < 32) && (2197175160 : Nat).testBit (31 - j)) := by
  by_cases hj : j < 32
  · have : ∀ i : Fin 32, (517762881 : Nat).testBit i.val = (2197175160 : Nat).testBit (31 - i.val) := by decide +kernel
    rw [decide_eq_true hj, Bool.true_and]; exact this ⟨j, hj⟩
  · rw [decide_eq_false hj, high0 _ _ (by decide) (by omega)]; rfl
theorem low_bit (reg j : Nat) (h : reg < 4294967296) : (2 * rev reg % 4294967296).testBit j = (decide (j < 32) && (reg / 2).testBit (31 - j)) := by
  rw [show (4294967296 : Nat) = 2 ^ 32 from rfl, Nat.testBit_mod_two_pow]
  by_cases hj : j < 32
  · rw [decide_eq_true hj, Bool.true_and, Bool.true_and, ← Nat.testBit_succ]
    cases j with
    | zero => rw [Nat.testBit_zero, high0 reg 32 h (by omega)]; simp
    | succ j =>
      rw [Nat.testBit_succ, show 2 * rev reg / 2 = rev reg by omega, rev_bit, decide_eq_true (by omega), Bool.true_and, show (31 - (j + 1)).succ = 31 - j by omega]
  · rw [decide_eq_false hj]; rfl
theorem rest_rev (reg b : Nat) (h : reg < 4294967296) : restV (rev reg) b = rev (stp reg b) := by
  have top : rev reg / 2147483648 % 2 = reg % 2 := by
    have e := rev_bit reg 31
    rw [Nat.testBit_eq_decide_div_mod_eq, show 31 - 31 = 0 from rfl, Nat.testBit_zero] at e
    simp only [show (31 : Nat) < 32 by omega, decide_true, Bool.true_and, decide_eq_decide] at e
    have : rev reg / 2 ^ 31 = rev reg / 2147483648 := rfl
    omega
  unfold restV stp cP
  rw [show (rev reg / 2147483648 + b) % 2 = (reg + b) % 2 by omega]
  apply Nat.eq_of_testBit_eq; intro j
  rw [rev_bit]
  split
  · rw [Nat.testBit_xor, Nat.testBit_xor, low_bit reg j h, poly_bit]
    cases decide (j < 32) <;> rfl
  · rw [Nat.xor_zero, low_bit reg j h]
end Go.Eng
namespace Go.Eng
open Go
variable {E : Nat → Option Fn} {X : Orc}
set_option linter.unusedSimpArgs false
set_option linter.unusedVariables false
structure EnRc (E : Nat → Option Fn) : Prop where
  about : E k_purserref02_about = some f_purserref02_about
  rest : E k_purserref02_rest = some f_purserref02_rest
  on : E k_purserref02_On = some f_purserref02_On
  sum : E k_purserref02_Sum = some f_purserref02_Sum
structure NoRc (X : Orc) : Prop where
  about : ∀ a h, X (.fn k_purserref02_about) a h = none
  rest : ∀ a h, X (.fn k_purserref02_rest) a h = none
  on : ∀ a h, X (.fn k_purserref02_On) a h = none
  sum : ∀ a h, X (.fn k_purserref02_Sum) a h = none
theorem rem64 (a : Nat) (e : EqK) (h : H) : binV .rem e h (.int .u64 (a : Int)) (.int .u64 2) = some (.int .u64 ((a % 2 : Nat) : Int)) := rfl
theorem quo64 (a : Nat) (ha : a < 18446744073709551616) (e : EqK) (h : H) : binV .quo e h (.int .u64 (a : Int)) (.int .u64 2) = some (.int .u64 ((a / 2 : Nat) : Int)) := by
  rw [b_quo _ _ _ _ _ (by omega), show Int.tdiv (a : Int) 2 = ((a / 2 : Nat) : Int) from rfl, wr_u64 (by omega)]
theorem xor64 (a b : Nat) (ha : a < 4294967296) (hb : b < 4294967296) (e : EqK) (hh : H) : binV .xor e hh (.int .u64 (a : Int)) (.int .u64 (b : Int)) = some (.int .u64 ((a ^^^ b : Nat) : Int)) := by
  have e1 : binV .xor e hh (.int .u64 (a : Int)) (.int .u64 (b : Int)) = some (.int .u64 (asK .u64 (Nat.xor (a % 18446744073709551616) (b % 18446744073709551616)))) := rfl
  have hx : a ^^^ b < 4294967296 := Nat.xor_lt_two_pow (n := 32) ha hb
  rw [e1, Nat.mod_eq_of_lt (by omega), Nat.mod_eq_of_lt (a := b) (by omega)]
  have : asK .u64 (Nat.xor a b) = ((a ^^^ b : Nat) : Int) := by
    show asK .u64 (a ^^^ b) = _
    unfold asK
    rw [cond_blt, if_pos (by simp [half]; omega)]
    rfl
  rw [this]
structure AI (n : Nat) (h0 : H) (i : Nat) (T : Tr V) (h : H) : Prop where
  il : i ≤ 32
  t0 : evO T (.t 0) = .int .u64 (n / 2 ^ i : Nat)
  t3 : evO T (.t 3) = .int .u64 (ouN n i : Nat)
  t4 : evO T (.t 4) = .int .i64 (i : Int)
  hh : h = h0
theorem ai_step (Q : Orc) (m n : Nat) (hn : n < 4294967296) (h0 : H) : ∀ i T h, i < 32 → AI n h0 i T h → ∃ T' h', evC Q 17 m none L_purserref02_about_0 ⟨T, [], h⟩ = some (.normal, ⟨T', [], h'⟩) ∧ AI n h0 (i + 1) T' h' := by
  intro i T h hi ⟨_, t0, t3, t4, hh⟩
  have c0 : decide ((i : Int) < 32) = true := decide_eq_true (by omega)
  have wi : wr .i64 ((i : Int) + 1) = ((i + 1 : Nat) : Int) := by rw [wr_i64 (by omega)]; omega
  have ol : ouN n i < 4294967296 := Nat.lt_of_lt_of_le (ouN_lt n i) (Nat.pow_le_pow_right (n := 2) (i := i) (j := 32) (by omega) (by omega))
  have os : ouN n (i + 1) = 2 * ouN n i + n / 2 ^ i % 2 := rfl
  have ds : n / 2 ^ (i + 1) = n / 2 ^ i / 2 := by rw [Nat.pow_succ, Nat.div_div_eq_div_mul]
  have ql : n / 2 ^ i ≤ n := Nat.div_le_self _ _
  generalize ouN n i = o at *
  generalize n / 2 ^ i = q at *
  have b1 := rem64 q
  have b2 := quo64 q (by omega)
  have w1 : wr .u64 (2 * (o : Int)) = ((2 * o : Nat) : Int) := by rw [wr_u64 (by omega)]; omega
  have w2 : wr .u64 (((2 * o : Nat) : Int) + ((q % 2 : Nat) : Int)) = ((2 * o + q % 2 : Nat) : Int) := by rw [wr_u64 (by omega)]; omega
  rw [← os] at w2
  rw [← ds] at b2
  refine ⟨_, _, by
    simp (config := {maxSteps := 2000000}) (disch := first | omega | (simp only [List.length_cons, List.length_nil, List.length_append, List.length_drop]; omega)) only [L_purserref02_about_0, t0, t3, t4, c0, wi, b1, b2, w1, w2, ↓b_xor32, ↓b_and32, ↓b_or32, ↓u_not32, b_xor32, b_and32, b_or32, u_not32, w32ad, ↓x_conv, x_convV, ↓x_fieldAddr, x_fieldV, ↓s_nilchk, x_nilchk, Nat.zero_add, Nat.add_zero, Nat.mul_one, ↓l_loop, ↓l_succ, ↓l_normal, l_normal, l_exit, l_ret, l_iteN, ↓h_put_get, ↓h_new_get, ↓h_del_get, h_next_put, h_next_new, h_next_del, Nat.add_assoc, Nat.add_eq_left, Nat.left_eq_add, Nat.add_left_cancel_iff, ↓s_load, m_load, ↓m_load1, m_load1, ↓m_st, m_stE, m_storeI, m_storeE, w_zero, w_succ, ↓s_alloc, ↓x_idxA, ↓x_idxS, x_idxAE, x_idxSE, x_addrE, x_idx, x_lenS, ↓s_len, ↓x_buildS, x_buildE, ↓x_P0, ↓x_P1, x_fill0, x_filli, x_fills, x_fillb, c_int, List.length_cons, List.length_nil, List.cons_append, List.drop_succ_cons, List.drop_zero, List.drop_nil, List.nil_append, Int.reduceAdd, Int.reduceToNat, Int.reduceLT, Int.reduceLE, Nat.reduceAdd, Nat.reduceMul, Nat.reduceLeDiff, Int.reduceEq, Int.reduceSub, Int.cast_ofNat_Int, s_resc, s_consR, m_load4, m_store4, s_res0, ↓s_skip, ↓s_ops, ↓s_dops, ↓s_seq, ↓s_cond, ↓s_block, ↓s_exit, ↓s_ret, ↓s_scope, ↓s_nil, ↓s_op, ↓s_opg, ↓s_wanted', ↓s_wantV, s_wantV, s_wantV0, beq_true, beq_false, ↓s_bindS, s_bindS, ↓s_bindE, s_bindE, s_bindE_ret, s_bindE_exit, s_bindE_iteN, s_norm, ↓s_condV, s_condV, s_block_ret, s_block_normal, s_block_exit, s_block_iteN, ↓s_getp, ↓s_getp0, ↓s_get, s_get0, ↓s_con, ↓s_fn, ↓s_os0, ↓s_os1, ↓s_list0, ↓s_list1, ↓s_mov, ↓s_pick, ↓s_pickE, s_pickE, ↓s_bin, ↓s_un, ↓s_minmax, ↓s_call, ↓s_callv, ↓s_callV, ↓s_ext, s_same, b_eql, b_neq, b_lss, b_leq, b_gtr, b_geq, b_add, b_sub, b_mul, b_eqlb, b_neqb, b_fnil, b_fnil', b_fnil2, b_fnil2', u_neg, u_not, m_two, s_end, s_end', s_end_iteN, s_res0, s_res1, s_tup1, s_tup2, ↓iteN_true, ↓iteN_false, iteN_true, iteN_false, Nat.zero_add, List.nil_append, List.append_nil, Nat.reduceEqDiff, reduceIte, decide_true, decide_false, Bool.not_true, Bool.not_false, List.getElem?_cons_zero, List.getElem?_cons_succ, Bool.false_eq_true, if_true, if_false, beq_self_eq_true]
    exact rfl, ⟨by omega, (by (simp only [s_getp, s_getp0, Nat.reduceEqDiff, decide_false, decide_true, iteN_false, iteN_true, t0]; try rfl)), (by (simp only [s_getp, s_getp0, Nat.reduceEqDiff, decide_false, decide_true, iteN_false, iteN_true, t3]; try rfl)), (by (simp only [s_getp, s_getp0, Nat.reduceEqDiff, decide_false, decide_true, iteN_false, iteN_true, t4]; try rfl)), hh⟩⟩
theorem about_go (e : EnRc E) (x : NoRc X) (N n : Nat) (hn : n < 4294967296) (h : H) : callX E X (N + 40) (.fn k_purserref02_about) [.int .u64 (n : Int)] h = some (.int .u64 (rev n : Nat), h) := by
  rw [x_cfn e.about _ _ (Nat.le_of_ble_eq_true rfl) (x.about _ _)]
  have fin : ∀ T, AI n h 0 T h → fnEnd [.tmp 2] (bindE (blockE 0 (loopN (evC (callX E X (N + 39)) 17 (N + 39) none L_purserref02_about_0) (N + 39) ⟨T, [], h⟩)) (evC (callX E X (N + 39)) 17 (N + 39) none R_purserref02_about_0)) = some (.int .u64 (rev n : Nat), h) := by
    intro T I
    obtain ⟨T', h', r, t3, hh⟩ := loop_go (f := evC (callX E X (N + 39)) 17 (N + 39) none L_purserref02_about_0) (AI n h) 32 (.exit 0) (by intro h; cases h) (fun T h' => evO T (.t 3) = .int .u64 (rev n : Nat) ∧ h' = h) (ai_step _ _ n hn h) (fun T h' I => by
      obtain ⟨il, t0, t3, t4, hh⟩ := I
      have c0 : decide (((32 : Nat) : Int) < 32) = false := rfl
      refine ⟨_, _, by
        simp (config := {maxSteps := 2000000}) (disch := first | omega | (simp only [List.length_cons, List.length_nil, List.length_append, List.length_drop]; omega)) only [L_purserref02_about_0, t4, c0, ↓b_xor32, ↓b_and32, ↓b_or32, ↓u_not32, b_xor32, b_and32, b_or32, u_not32, w32ad, ↓x_conv, x_convV, ↓x_fieldAddr, x_fieldV, ↓s_nilchk, x_nilchk, Nat.zero_add, Nat.add_zero, Nat.mul_one, ↓l_loop, ↓l_succ, ↓l_normal, l_normal, l_exit, l_ret, l_iteN, ↓h_put_get, ↓h_new_get, ↓h_del_get, h_next_put, h_next_new, h_next_del, Nat.add_assoc, Nat.add_eq_left, Nat.left_eq_add, Nat.add_left_cancel_iff, ↓s_load, m_load, ↓m_load1, m_load1, ↓m_st, m_stE, m_storeI, m_storeE, w_zero, w_succ, ↓s_alloc, ↓x_idxA, ↓x_idxS, x_idxAE, x_idxSE, x_addrE, x_idx, x_lenS, ↓s_len, ↓x_buildS, x_buildE, ↓x_P0, ↓x_P1, x_fill0, x_filli, x_fills, x_fillb, c_int, List.length_cons, List.length_nil, List.cons_append, List.drop_succ_cons, List.drop_zero, List.drop_nil, List.nil_append, Int.reduceAdd, Int.reduceToNat, Int.reduceLT, Int.reduceLE, Nat.reduceAdd, Nat.reduceMul, Nat.reduceLeDiff, Int.reduceEq, Int.reduceSub, Int.cast_ofNat_Int, s_resc, s_consR, m_load4, m_store4, s_res0, ↓s_skip, ↓s_ops, ↓s_dops, ↓s_seq, ↓s_cond, ↓s_block, ↓s_exit, ↓s_ret, ↓s_scope, ↓s_nil, ↓s_op, ↓s_opg, ↓s_wanted', ↓s_wantV, s_wantV, s_wantV0, beq_true, beq_false, ↓s_bindS, s_bindS, ↓s_bindE, s_bindE, s_bindE_ret, s_bindE_exit, s_bindE_iteN, s_norm, ↓s_condV, s_condV, s_block_ret, s_block_normal, s_block_exit, s_block_iteN, ↓s_getp, ↓s_getp0, ↓s_get, s_get0, ↓s_con, ↓s_fn, ↓s_os0, ↓s_os1, ↓s_list0, ↓s_list1, ↓s_mov, ↓s_pick, ↓s_pickE, s_pickE, ↓s_bin, ↓s_un, ↓s_minmax, ↓s_call, ↓s_callv, ↓s_callV, ↓s_ext, s_same, b_eql, b_neq, b_lss, b_leq, b_gtr, b_geq, b_add, b_sub, b_mul, b_eqlb, b_neqb, b_fnil, b_fnil', b_fnil2, b_fnil2', u_neg, u_not, m_two, s_end, s_end', s_end_iteN, s_res0, s_res1, s_tup1, s_tup2, ↓iteN_true, ↓iteN_false, iteN_true, iteN_false, Nat.zero_add, List.nil_append, List.append_nil, Nat.reduceEqDiff, reduceIte, decide_true, decide_false, Bool.not_true, Bool.not_false, List.getElem?_cons_zero, List.getElem?_cons_succ, Bool.false_eq_true, if_true, if_false, beq_self_eq_true]
        exact rfl, (by (simp only [s_getp, s_getp0, Nat.reduceEqDiff, decide_false, decide_true, iteN_false, iteN_true, t3]; try rfl)), hh⟩) 32 0 (by omega) (N + 39) (by omega) T h I
    rw [r, hh]
    simp (config := {maxSteps := 2000000}) (disch := first | omega | (simp only [List.length_cons, List.length_nil, List.length_append, List.length_drop]; omega)) only [R_purserref02_about_0, t3, ↓b_xor32, ↓b_and32, ↓b_or32, ↓u_not32, b_xor32, b_and32, b_or32, u_not32, w32ad, ↓x_conv, x_convV, ↓x_fieldAddr, x_fieldV, ↓s_nilchk, x_nilchk, Nat.zero_add, Nat.add_zero, Nat.mul_one, ↓l_loop, ↓l_succ, ↓l_normal, l_normal, l_exit, l_ret, l_iteN, ↓h_put_get, ↓h_new_get, ↓h_del_get, h_next_put, h_next_new, h_next_del, Nat.add_assoc, Nat.add_eq_left, Nat.left_eq_add, Nat.add_left_cancel_iff, ↓s_load, m_load, ↓m_load1, m_load1, ↓m_st, m_stE, m_storeI, m_storeE, w_zero, w_succ, ↓s_alloc, ↓x_idxA, ↓x_idxS, x_idxAE, x_idxSE, x_addrE, x_idx, x_lenS, ↓s_len, ↓x_buildS, x_buildE, ↓x_P0, ↓x_P1, x_fill0, x_filli, x_fills, x_fillb, c_int, List.length_cons, List.length_nil, List.cons_append, List.drop_succ_cons, List.drop_zero, List.drop_nil, List.nil_append, Int.reduceAdd, Int.reduceToNat, Int.reduceLT, Int.reduceLE, Nat.reduceAdd, Nat.reduceMul, Nat.reduceLeDiff, Int.reduceEq, Int.reduceSub, Int.cast_ofNat_Int, s_resc, s_consR, m_load4, m_store4, s_res0, ↓s_skip, ↓s_ops, ↓s_dops, ↓s_seq, ↓s_cond, ↓s_block, ↓s_exit, ↓s_ret, ↓s_scope, ↓s_nil, ↓s_op, ↓s_opg, ↓s_wanted', ↓s_wantV, s_wantV, s_wantV0, beq_true, beq_false, ↓s_bindS, s_bindS, ↓s_bindE, s_bindE, s_bindE_ret, s_bindE_exit, s_bindE_iteN, s_norm, ↓s_condV, s_condV, s_block_ret, s_block_normal, s_block_exit, s_block_iteN, ↓s_getp, ↓s_getp0, ↓s_get, s_get0, ↓s_con, ↓s_fn, ↓s_os0, ↓s_os1, ↓s_list0, ↓s_list1, ↓s_mov, ↓s_pick, ↓s_pickE, s_pickE, ↓s_bin, ↓s_un, ↓s_minmax, ↓s_call, ↓s_callv, ↓s_callV, ↓s_ext, s_same, b_eql, b_neq, b_lss, b_leq, b_gtr, b_geq, b_add, b_sub, b_mul, b_eqlb, b_neqb, b_fnil, b_fnil', b_fnil2, b_fnil2', u_neg, u_not, m_two, s_end, s_end', s_end_iteN, s_res0, s_res1, s_tup1, s_tup2, ↓iteN_true, ↓iteN_false, iteN_true, iteN_false, Nat.zero_add, List.nil_append, List.append_nil, Nat.reduceEqDiff, reduceIte, decide_true, decide_false, Bool.not_true, Bool.not_false, List.getElem?_cons_zero, List.getElem?_cons_succ, Bool.false_eq_true, if_true, if_false, beq_self_eq_true]
  obtain ⟨R, eR⟩ : ∃ R, R_purserref02_about_0 = R := ⟨_, rfl⟩
  obtain ⟨Lo, eL⟩ : ∃ R, L_purserref02_about_0 = R := ⟨_, rfl⟩
  rw [eR, eL] at fin ⊢
  simp (config := {maxSteps := 2000000}) (disch := first | omega | (simp only [List.length_cons, List.length_nil, List.length_append, List.length_drop]; omega)) only [↓b_xor32, ↓b_and32, ↓b_or32, ↓u_not32, b_xor32, b_and32, b_or32, u_not32, w32ad, ↓x_conv, x_convV, ↓x_fieldAddr, x_fieldV, ↓s_nilchk, x_nilchk, Nat.zero_add, Nat.add_zero, Nat.mul_one, ↓l_loop, ↓l_succ, ↓l_normal, l_normal, l_exit, l_ret, l_iteN, ↓h_put_get, ↓h_new_get, ↓h_del_get, h_next_put, h_next_new, h_next_del, Nat.add_assoc, Nat.add_eq_left, Nat.left_eq_add, Nat.add_left_cancel_iff, ↓s_load, m_load, ↓m_load1, m_load1, ↓m_st, m_stE, m_storeI, m_storeE, w_zero, w_succ, ↓s_alloc, ↓x_idxA, ↓x_idxS, x_idxAE, x_idxSE, x_addrE, x_idx, x_lenS, ↓s_len, ↓x_buildS, x_buildE, ↓x_P0, ↓x_P1, x_fill0, x_filli, x_fills, x_fillb, c_int, List.length_cons, List.length_nil, List.cons_append, List.drop_succ_cons, List.drop_zero, List.drop_nil, List.nil_append, Int.reduceAdd, Int.reduceToNat, Int.reduceLT, Int.reduceLE, Nat.reduceAdd, Nat.reduceMul, Nat.reduceLeDiff, Int.reduceEq, Int.reduceSub, Int.cast_ofNat_Int, s_resc, s_consR, m_load4, m_store4, s_res0, ↓s_skip, ↓s_ops, ↓s_dops, ↓s_seq, ↓s_cond, ↓s_block, ↓s_exit, ↓s_ret, ↓s_scope, ↓s_nil, ↓s_op, ↓s_opg, ↓s_wanted', ↓s_wantV, s_wantV, s_wantV0, beq_true, beq_false, ↓s_bindS, s_bindS, ↓s_bindE, s_bindE, s_bindE_ret, s_bindE_exit, s_bindE_iteN, s_norm, ↓s_condV, s_condV, s_block_ret, s_block_normal, s_block_exit, s_block_iteN, ↓s_getp, ↓s_getp0, ↓s_get, s_get0, ↓s_con, ↓s_fn, ↓s_os0, ↓s_os1, ↓s_list0, ↓s_list1, ↓s_mov, ↓s_pick, ↓s_pickE, s_pickE, ↓s_bin, ↓s_un, ↓s_minmax, ↓s_call, ↓s_callv, ↓s_callV, ↓s_ext, s_same, b_eql, b_neq, b_lss, b_leq, b_gtr, b_geq, b_add, b_sub, b_mul, b_eqlb, b_neqb, b_fnil, b_fnil', b_fnil2, b_fnil2', u_neg, u_not, m_two, s_end, s_end', s_end_iteN, s_res0, s_res1, s_tup1, s_tup2, ↓iteN_true, ↓iteN_false, iteN_true, iteN_false, Nat.zero_add, List.nil_append, List.append_nil, Nat.reduceEqDiff, reduceIte, decide_true, decide_false, Bool.not_true, Bool.not_false, List.getElem?_cons_zero, List.getElem?_cons_succ, Bool.false_eq_true, if_true, if_false, beq_self_eq_true]
  exact fin _ ⟨by omega, by rw [Nat.pow_zero, Nat.div_one]; exact (by (simp only [s_getp, s_getp0, Nat.reduceEqDiff, decide_false, decide_true, iteN_false, iteN_true, eL]; try rfl)), by show _ = V.int .u64 ((0 : Nat) : Int); exact (by (simp only [s_getp, s_getp0, Nat.reduceEqDiff, decide_false, decide_true, iteN_false, iteN_true, eL]; try rfl)), (by (simp only [s_getp, s_getp0, Nat.reduceEqDiff, decide_false, decide_true, iteN_false, iteN_true, eL]; try rfl)), rfl⟩
theorem rest_go (e : EnRc E) (x : NoRc X) (N r b : Nat) (hr : r < 4294967296) (hb : b < 2) (h : H) : callX E X (N + 1) (.fn k_purserref02_rest) [.int .u64 (r : Int), .int .u64 (b : Int)] h = some (.int .u64 (restV r b : Nat), h) := by
  rw [x_cfn e.rest _ _ (Nat.le_of_ble_eq_true rfl) (x.rest _ _)]
  have w1 : wr .u64 (2 * (r : Int)) = ((2 * r : Nat) : Int) := by rw [wr_u64 (by omega)]; omega
  have w2 : wr .u64 ((b : Int) * 4294967296) = ((b * 4294967296 : Nat) : Int) := by rw [wr_u64 (by omega)]; omega
  obtain ⟨v, ev⟩ : ∃ v, 2 * r + b * 4294967296 = v := ⟨_, rfl⟩
  have w3 : wr .u64 (((2 * r : Nat) : Int) + ((b * 4294967296 : Nat) : Int)) = (v : Int) := by rw [wr_u64 (by omega)]; omega
  have x3 : ∀ (q : Nat), q < 4294967296 → ∀ e h, binV .xor e h (.int .u64 (q : Int)) (.int .u64 517762881) = some (.int .u64 ((q ^^^ 517762881 : Nat) : Int)) := fun q hq e h => xor64 q 517762881 hq (by omega) e h
  unfold restV
  by_cases h1 : 8589934592 ≤ v
  · have c1 : decide ((8589934592 : Int) ≤ (v : Int)) = true := decide_eq_true (by omega)
    obtain ⟨v1, ev1⟩ : ∃ v1, v - 8589934592 = v1 := ⟨_, rfl⟩
    have w4 : wr .u64 ((v : Int) - 8589934592) = (v1 : Int) := by rw [wr_u64 (by omega)]; omega
    have c2 : decide ((4294967296 : Int) ≤ (v1 : Int)) = false := decide_eq_false (by omega)
    rw [if_neg (by omega), show 2 * r % 4294967296 = v1 by omega]
    simp (config := {maxSteps := 2000000}) (disch := first | omega | (simp only [List.length_cons, List.length_nil, List.length_append, List.length_drop]; omega)) only [w1, w2, w3, w4, c1, c2, ↓b_xor32, ↓b_and32, ↓b_or32, ↓u_not32, b_xor32, b_and32, b_or32, u_not32, w32ad, ↓x_conv, x_convV, ↓x_fieldAddr, x_fieldV, ↓s_nilchk, x_nilchk, Nat.zero_add, Nat.add_zero, Nat.mul_one, ↓l_loop, ↓l_succ, ↓l_normal, l_normal, l_exit, l_ret, l_iteN, ↓h_put_get, ↓h_new_get, ↓h_del_get, h_next_put, h_next_new, h_next_del, Nat.add_assoc, Nat.add_eq_left, Nat.left_eq_add, Nat.add_left_cancel_iff, ↓s_load, m_load, ↓m_load1, m_load1, ↓m_st, m_stE, m_storeI, m_storeE, w_zero, w_succ, ↓s_alloc, ↓x_idxA, ↓x_idxS, x_idxAE, x_idxSE, x_addrE, x_idx, x_lenS, ↓s_len, ↓x_buildS, x_buildE, ↓x_P0, ↓x_P1, x_fill0, x_filli, x_fills, x_fillb, c_int, List.length_cons, List.length_nil, List.cons_append, List.drop_succ_cons, List.drop_zero, List.drop_nil, List.nil_append, Int.reduceAdd, Int.reduceToNat, Int.reduceLT, Int.reduceLE, Nat.reduceAdd, Nat.reduceMul, Nat.reduceLeDiff, Int.reduceEq, Int.reduceSub, Int.cast_ofNat_Int, s_resc, s_consR, m_load4, m_store4, s_res0, ↓s_skip, ↓s_ops, ↓s_dops, ↓s_seq, ↓s_cond, ↓s_block, ↓s_exit, ↓s_ret, ↓s_scope, ↓s_nil, ↓s_op, ↓s_opg, ↓s_wanted', ↓s_wantV, s_wantV, s_wantV0, beq_true, beq_false, ↓s_bindS, s_bindS, ↓s_bindE, s_bindE, s_bindE_ret, s_bindE_exit, s_bindE_iteN, s_norm, ↓s_condV, s_condV, s_block_ret, s_block_normal, s_block_exit, s_block_iteN, ↓s_getp, ↓s_getp0, ↓s_get, s_get0, ↓s_con, ↓s_fn, ↓s_os0, ↓s_os1, ↓s_list0, ↓s_list1, ↓s_mov, ↓s_pick, ↓s_pickE, s_pickE, ↓s_bin, ↓s_un, ↓s_minmax, ↓s_call, ↓s_callv, ↓s_callV, ↓s_ext, s_same, b_eql, b_neq, b_lss, b_leq, b_gtr, b_geq, b_add, b_sub, b_mul, b_eqlb, b_neqb, b_fnil, b_fnil', b_fnil2, b_fnil2', u_neg, u_not, m_two, s_end, s_end', s_end_iteN, s_res0, s_res1, s_tup1, s_tup2, ↓iteN_true, ↓iteN_false, iteN_true, iteN_false, Nat.zero_add, List.nil_append, List.append_nil, Nat.reduceEqDiff, reduceIte, decide_true, decide_false, Bool.not_true, Bool.not_false, List.getElem?_cons_zero, List.getElem?_cons_succ, Bool.false_eq_true, if_true, if_false, beq_self_eq_true]
  · have c1 : decide ((8589934592 : Int) ≤ (v : Int)) = false := decide_eq_false (by omega)
    by_cases h2 : 4294967296 ≤ v
    · have c2 : decide ((4294967296 : Int) ≤ (v : Int)) = true := decide_eq_true (by omega)
      obtain ⟨v1, ev1⟩ : ∃ v1, v - 4294967296 = v1 := ⟨_, rfl⟩
      have w4 : wr .u64 ((v : Int) - 4294967296) = (v1 : Int) := by rw [wr_u64 (by omega)]; omega
      have x4 := x3 v1 (by omega)
      rw [if_pos (by omega), show 2 * r % 4294967296 = v1 by omega]
      simp (config := {maxSteps := 2000000}) (disch := first | omega | (simp only [List.length_cons, List.length_nil, List.length_append, List.length_drop]; omega)) only [w1, w2, w3, w4, c1, c2, x4, ↓b_xor32, ↓b_and32, ↓b_or32, ↓u_not32, b_xor32, b_and32, b_or32, u_not32, w32ad, ↓x_conv, x_convV, ↓x_fieldAddr, x_fieldV, ↓s_nilchk, x_nilchk, Nat.zero_add, Nat.add_zero, Nat.mul_one, ↓l_loop, ↓l_succ, ↓l_normal, l_normal, l_exit, l_ret, l_iteN, ↓h_put_get, ↓h_new_get, ↓h_del_get, h_next_put, h_next_new, h_next_del, Nat.add_assoc, Nat.add_eq_left, Nat.left_eq_add, Nat.add_left_cancel_iff, ↓s_load, m_load, ↓m_load1, m_load1, ↓m_st, m_stE, m_storeI, m_storeE, w_zero, w_succ, ↓s_alloc, ↓x_idxA, ↓x_idxS, x_idxAE, x_idxSE, x_addrE, x_idx, x_lenS, ↓s_len, ↓x_buildS, x_buildE, ↓x_P0, ↓x_P1, x_fill0, x_filli, x_fills, x_fillb, c_int, List.length_cons, List.length_nil, List.cons_append, List.drop_succ_cons, List.drop_zero, List.drop_nil, List.nil_append, Int.reduceAdd, Int.reduceToNat, Int.reduceLT, Int.reduceLE, Nat.reduceAdd, Nat.reduceMul, Nat.reduceLeDiff, Int.reduceEq, Int.reduceSub, Int.cast_ofNat_Int, s_resc, s_consR, m_load4, m_store4, s_res0, ↓s_skip, ↓s_ops, ↓s_dops, ↓s_seq, ↓s_cond, ↓s_block, ↓s_exit, ↓s_ret, ↓s_scope, ↓s_nil, ↓s_op, ↓s_opg, ↓s_wanted', ↓s_wantV, s_wantV, s_wantV0, beq_true, beq_false, ↓s_bindS, s_bindS, ↓s_bindE, s_bindE, s_bindE_ret, s_bindE_exit, s_bindE_iteN, s_norm, ↓s_condV, s_condV, s_block_ret, s_block_normal, s_block_exit, s_block_iteN, ↓s_getp, ↓s_getp0, ↓s_get, s_get0, ↓s_con, ↓s_fn, ↓s_os0, ↓s_os1, ↓s_list0, ↓s_list1, ↓s_mov, ↓s_pick, ↓s_pickE, s_pickE, ↓s_bin, ↓s_un, ↓s_minmax, ↓s_call, ↓s_callv, ↓s_callV, ↓s_ext, s_same, b_eql, b_neq, b_lss, b_leq, b_gtr, b_geq, b_add, b_sub, b_mul, b_eqlb, b_neqb, b_fnil, b_fnil', b_fnil2, b_fnil2', u_neg, u_not, m_two, s_end, s_end', s_end_iteN, s_res0, s_res1, s_tup1, s_tup2, ↓iteN_true, ↓iteN_false, iteN_true, iteN_false, Nat.zero_add, List.nil_append, List.append_nil, Nat.reduceEqDiff, reduceIte, decide_true, decide_false, Bool.not_true, Bool.not_false, List.getElem?_cons_zero, List.getElem?_cons_succ, Bool.false_eq_true, if_true, if_false, beq_self_eq_true]
    · have c2 : decide ((4294967296 : Int) ≤ (v : Int)) = false := decide_eq_false (by omega)
      rw [if_neg (by omega), show 2 * r % 4294967296 = v by omega]
      simp (config := {maxSteps := 2000000}) (disch := first | omega | (simp only [List.length_cons, List.length_nil, List.length_append, List.length_drop]; omega)) only [w1, w2, w3, c1, c2, ↓b_xor32, ↓b_and32, ↓b_or32, ↓u_not32, b_xor32, b_and32, b_or32, u_not32, w32ad, ↓x_conv, x_convV, ↓x_fieldAddr, x_fieldV, ↓s_nilchk, x_nilchk, Nat.zero_add, Nat.add_zero, Nat.mul_one, ↓l_loop, ↓l_succ, ↓l_normal, l_normal, l_exit, l_ret, l_iteN, ↓h_put_get, ↓h_new_get, ↓h_del_get, h_next_put, h_next_new, h_next_del, Nat.add_assoc, Nat.add_eq_left, Nat.left_eq_add, Nat.add_left_cancel_iff, ↓s_load, m_load, ↓m_load1, m_load1, ↓m_st, m_stE, m_storeI, m_storeE, w_zero, w_succ, ↓s_alloc, ↓x_idxA, ↓x_idxS, x_idxAE, x_idxSE, x_addrE, x_idx, x_lenS, ↓s_len, ↓x_buildS, x_buildE, ↓x_P0, ↓x_P1, x_fill0, x_filli, x_fills, x_fillb, c_int, List.length_cons, List.length_nil, List.cons_append, List.drop_succ_cons, List.drop_zero, List.drop_nil, List.nil_append, Int.reduceAdd, Int.reduceToNat, Int.reduceLT, Int.reduceLE, Nat.reduceAdd, Nat.reduceMul, Nat.reduceLeDiff, Int.reduceEq, Int.reduceSub, Int.cast_ofNat_Int, s_resc, s_consR, m_load4, m_store4, s_res0, ↓s_skip, ↓s_ops, ↓s_dops, ↓s_seq, ↓s_cond, ↓s_block, ↓s_exit, ↓s_ret, ↓s_scope, ↓s_nil, ↓s_op, ↓s_opg, ↓s_wanted', ↓s_wantV, s_wantV, s_wantV0, beq_true, beq_false, ↓s_bindS, s_bindS, ↓s_bindE, s_bindE, s_bindE_ret, s_bindE_exit, s_bindE_iteN, s_norm, ↓s_condV, s_condV, s_block_ret, s_block_normal, s_block_exit, s_block_iteN, ↓s_getp, ↓s_getp0, ↓s_get, s_get0, ↓s_con, ↓s_fn, ↓s_os0, ↓s_os1, ↓s_list0, ↓s_list1, ↓s_mov, ↓s_pick, ↓s_pickE, s_pickE, ↓s_bin, ↓s_un, ↓s_minmax, ↓s_call, ↓s_callv, ↓s_callV, ↓s_ext, s_same, b_eql, b_neq, b_lss, b_leq, b_gtr, b_geq, b_add, b_sub, b_mul, b_eqlb, b_neqb, b_fnil, b_fnil', b_fnil2, b_fnil2', u_neg, u_not, m_two, s_end, s_end', s_end_iteN, s_res0, s_res1, s_tup1, s_tup2, ↓iteN_true, ↓iteN_false, iteN_true, iteN_false, Nat.zero_add, List.nil_append, List.append_nil, Nat.reduceEqDiff, reduceIte, decide_true, decide_false, Bool.not_true, Bool.not_false, List.getElem?_cons_zero, List.getElem?_cons_succ, Bool.false_eq_true, if_true, if_false, beq_self_eq_true]
end Go.Eng
namespace Go.Eng
open Go
variable {E : Nat → Option Fn} {X : Orc}
set_option linter.unusedSimpArgs false
set_option linter.unusedVariables false
structure BI (v1 : V) (i6 reg y : Nat) (h0 : H) (i : Nat) (T : Tr V) (h : H) : Prop where
  il : i ≤ 8
  t1 : evO T (.t 1) = v1
  t6 : evO T (.t 6) = .int .i64 (i6 : Int)
  t5 : evO T (.t 5) = .int .u64 (rev (G8 reg y i) : Nat)
  t7 : evO T (.t 7) = .int .u64 (y / 2 ^ i : Nat)
  t8 : evO T (.t 8) = .int .i64 (i : Int)
  hh : h = h0
theorem bi_step (e : EnRc E) (x : NoRc X) (M m : Nat) (v1 : V) (i6 reg y : Nat) (hr : reg < 4294967296) (hy : y < 256) (h0 : H) : ∀ i T h, i < 8 → BI v1 i6 reg y h0 i T h → ∃ T' h', evC (callX E X (M + 1)) 40 m none L_purserref02_On_0 ⟨T, [], h⟩ = some (.normal, ⟨T', [], h'⟩) ∧ BI v1 i6 reg y h0 (i + 1) T' h' := by
  intro i T h hi ⟨_, t1, t6, t5, t7, t8, hh⟩
  have c0 : decide ((i : Int) < 8) = true := decide_eq_true (by omega)
  have wi : wr .i64 ((i : Int) + 1) = ((i + 1 : Nat) : Int) := by rw [wr_i64 (by omega)]; omega
  have gl := G8_lt reg y hr i
  have gs : G8 reg y (i + 1) = stp (G8 reg y i) (y / 2 ^ i % 2) := rfl
  have ds : y / 2 ^ (i + 1) = y / 2 ^ i / 2 := by rw [Nat.pow_succ, Nat.div_div_eq_div_mul]
  have ql : y / 2 ^ i ≤ y := Nat.div_le_self _ _
  generalize G8 reg y i = g at *
  generalize y / 2 ^ i = q at *
  have b1 := rem64 q
  have b2 := quo64 q (by omega)
  rw [← ds] at b2
  have r1 := rest_go (E := E) e x M (rev g) (q % 2) (rev_lt g) (by omega) h
  rw [rest_rev g _ gl, ← gs] at r1
  refine ⟨_, _, by
    simp (config := {maxSteps := 2000000}) (disch := first | omega | (simp only [List.length_cons, List.length_nil, List.length_append, List.length_drop]; omega)) only [L_purserref02_On_0, t1, t5, t6, t7, t8, c0, wi, b1, b2, r1, ↓b_xor32, ↓b_and32, ↓b_or32, ↓u_not32, b_xor32, b_and32, b_or32, u_not32, w32ad, ↓x_conv, x_convV, ↓x_fieldAddr, x_fieldV, ↓s_nilchk, x_nilchk, Nat.zero_add, Nat.add_zero, Nat.mul_one, ↓l_loop, ↓l_succ, ↓l_normal, l_normal, l_exit, l_ret, l_iteN, ↓h_put_get, ↓h_new_get, ↓h_del_get, h_next_put, h_next_new, h_next_del, Nat.add_assoc, Nat.add_eq_left, Nat.left_eq_add, Nat.add_left_cancel_iff, ↓s_load, m_load, ↓m_load1, m_load1, ↓m_st, m_stE, m_storeI, m_storeE, w_zero, w_succ, ↓s_alloc, ↓x_idxA, ↓x_idxS, x_idxAE, x_idxSE, x_addrE, x_idx, x_lenS, ↓s_len, ↓x_buildS, x_buildE, ↓x_P0, ↓x_P1, x_fill0, x_filli, x_fills, x_fillb, c_int, List.length_cons, List.length_nil, List.cons_append, List.drop_succ_cons, List.drop_zero, List.drop_nil, List.nil_append, Int.reduceAdd, Int.reduceToNat, Int.reduceLT, Int.reduceLE, Nat.reduceAdd, Nat.reduceMul, Nat.reduceLeDiff, Int.reduceEq, Int.reduceSub, Int.cast_ofNat_Int, s_resc, s_consR, m_load4, m_store4, s_res0, ↓s_skip, ↓s_ops, ↓s_dops, ↓s_seq, ↓s_cond, ↓s_block, ↓s_exit, ↓s_ret, ↓s_scope, ↓s_nil, ↓s_op, ↓s_opg, ↓s_wanted', ↓s_wantV, s_wantV, s_wantV0, beq_true, beq_false, ↓s_bindS, s_bindS, ↓s_bindE, s_bindE, s_bindE_ret, s_bindE_exit, s_bindE_iteN, s_norm, ↓s_condV, s_condV, s_block_ret, s_block_normal, s_block_exit, s_block_iteN, ↓s_getp, ↓s_getp0, ↓s_get, s_get0, ↓s_con, ↓s_fn, ↓s_os0, ↓s_os1, ↓s_list0, ↓s_list1, ↓s_mov, ↓s_pick, ↓s_pickE, s_pickE, ↓s_bin, ↓s_un, ↓s_minmax, ↓s_call, ↓s_callv, ↓s_callV, ↓s_ext, s_same, b_eql, b_neq, b_lss, b_leq, b_gtr, b_geq, b_add, b_sub, b_mul, b_eqlb, b_neqb, b_fnil, b_fnil', b_fnil2, b_fnil2', u_neg, u_not, m_two, s_end, s_end', s_end_iteN, s_res0, s_res1, s_tup1, s_tup2, ↓iteN_true, ↓iteN_false, iteN_true, iteN_false, Nat.zero_add, List.nil_append, List.append_nil, Nat.reduceEqDiff, reduceIte, decide_true, decide_false, Bool.not_true, Bool.not_false, List.getElem?_cons_zero, List.getElem?_cons_succ, Bool.false_eq_true, if_true, if_false, beq_self_eq_true]
    exact rfl, ⟨by omega, (by (simp only [s_getp, s_getp0, Nat.reduceEqDiff, decide_false, decide_true, iteN_false, iteN_true, t1]; try rfl)), (by (simp only [s_getp, s_getp0, Nat.reduceEqDiff, decide_false, decide_true, iteN_false, iteN_true, t6]; try rfl)), (by (simp only [s_getp, s_getp0, Nat.reduceEqDiff, decide_false, decide_true, iteN_false, iteN_true, t5]; try rfl)), (by (simp only [s_getp, s_getp0, Nat.reduceEqDiff, decide_false, decide_true, iteN_false, iteN_true, t7]; try rfl)), (by (simp only [s_getp, s_getp0, Nat.reduceEqDiff, decide_false, decide_true, iteN_false, iteN_true, t8]; try rfl)), hh⟩⟩
theorem bi_loop (e : EnRc E) (x : NoRc X) (M m : Nat) (hm : 8 < m) (v1 : V) (i6 reg y : Nat) (hr : reg < 4294967296) (hy : y < 256) (h0 : H) (T : Tr V) (I : BI v1 i6 reg y h0 0 T h0) : ∃ T', loopN (evC (callX E X (M + 1)) 40 m none L_purserref02_On_0) m ⟨T, [], h0⟩ = some (.exit 2, ⟨T', [], h0⟩) ∧ BI v1 i6 reg y h0 8 T' h0 := by
  obtain ⟨T', h', r, J⟩ := loop_go (f := evC (callX E X (M + 1)) 40 m none L_purserref02_On_0) (BI v1 i6 reg y h0) 8 (.exit 2) (by intro h; cases h) (BI v1 i6 reg y h0 8) (bi_step e x M m v1 i6 reg y hr hy h0) (fun T h I => by
    obtain ⟨il, t1, t6, t5, t7, t8, hh⟩ := I
    have c0 : decide (((8 : Nat) : Int) < 8) = false := rfl
    refine ⟨_, _, by
      simp (config := {maxSteps := 2000000}) (disch := first | omega | (simp only [List.length_cons, List.length_nil, List.length_append, List.length_drop]; omega)) only [L_purserref02_On_0, t8, c0, ↓b_xor32, ↓b_and32, ↓b_or32, ↓u_not32, b_xor32, b_and32, b_or32, u_not32, w32ad, ↓x_conv, x_convV, ↓x_fieldAddr, x_fieldV, ↓s_nilchk, x_nilchk, Nat.zero_add, Nat.add_zero, Nat.mul_one, ↓l_loop, ↓l_succ, ↓l_normal, l_normal, l_exit, l_ret, l_iteN, ↓h_put_get, ↓h_new_get, ↓h_del_get, h_next_put, h_next_new, h_next_del, Nat.add_assoc, Nat.add_eq_left, Nat.left_eq_add, Nat.add_left_cancel_iff, ↓s_load, m_load, ↓m_load1, m_load1, ↓m_st, m_stE, m_storeI, m_storeE, w_zero, w_succ, ↓s_alloc, ↓x_idxA, ↓x_idxS, x_idxAE, x_idxSE, x_addrE, x_idx, x_lenS, ↓s_len, ↓x_buildS, x_buildE, ↓x_P0, ↓x_P1, x_fill0, x_filli, x_fills, x_fillb, c_int, List.length_cons, List.length_nil, List.cons_append, List.drop_succ_cons, List.drop_zero, List.drop_nil, List.nil_append, Int.reduceAdd, Int.reduceToNat, Int.reduceLT, Int.reduceLE, Nat.reduceAdd, Nat.reduceMul, Nat.reduceLeDiff, Int.reduceEq, Int.reduceSub, Int.cast_ofNat_Int, s_resc, s_consR, m_load4, m_store4, s_res0, ↓s_skip, ↓s_ops, ↓s_dops, ↓s_seq, ↓s_cond, ↓s_block, ↓s_exit, ↓s_ret, ↓s_scope, ↓s_nil, ↓s_op, ↓s_opg, ↓s_wanted', ↓s_wantV, s_wantV, s_wantV0, beq_true, beq_false, ↓s_bindS, s_bindS, ↓s_bindE, s_bindE, s_bindE_ret, s_bindE_exit, s_bindE_iteN, s_norm, ↓s_condV, s_condV, s_block_ret, s_block_normal, s_block_exit, s_block_iteN, ↓s_getp, ↓s_getp0, ↓s_get, s_get0, ↓s_con, ↓s_fn, ↓s_os0, ↓s_os1, ↓s_list0, ↓s_list1, ↓s_mov, ↓s_pick, ↓s_pickE, s_pickE, ↓s_bin, ↓s_un, ↓s_minmax, ↓s_call, ↓s_callv, ↓s_callV, ↓s_ext, s_same, b_eql, b_neq, b_lss, b_leq, b_gtr, b_geq, b_add, b_sub, b_mul, b_eqlb, b_neqb, b_fnil, b_fnil', b_fnil2, b_fnil2', u_neg, u_not, m_two, s_end, s_end', s_end_iteN, s_res0, s_res1, s_tup1, s_tup2, ↓iteN_true, ↓iteN_false, iteN_true, iteN_false, Nat.zero_add, List.nil_append, List.append_nil, Nat.reduceEqDiff, reduceIte, decide_true, decide_false, Bool.not_true, Bool.not_false, List.getElem?_cons_zero, List.getElem?_cons_succ, Bool.false_eq_true, if_true, if_false, beq_self_eq_true]
      exact rfl, ⟨il, (by (simp only [s_getp, s_getp0, Nat.reduceEqDiff, decide_false, decide_true, iteN_false, iteN_true, t1]; try rfl)), (by (simp only [s_getp, s_getp0, Nat.reduceEqDiff, decide_false, decide_true, iteN_false, iteN_true, t6]; try rfl)), (by (simp only [s_getp, s_getp0, Nat.reduceEqDiff, decide_false, decide_true, iteN_false, iteN_true, t5]; try rfl)), (by (simp only [s_getp, s_getp0, Nat.reduceEqDiff, decide_false, decide_true, iteN_false, iteN_true, t7]; try rfl)), (by (simp only [s_getp, s_getp0, Nat.reduceEqDiff, decide_false, decide_true, iteN_false, iteN_true, t8]; try rfl)), hh⟩⟩) 8 0 (by omega) m hm T h0 I
  have hh := J.hh
  subst hh
  exact ⟨T', r, J⟩
structure OI (a : Option (Nat × Nat)) (c : Option Nat) (ez : Nat) (l : List Nat) (r0 : Nat) (h0 : H) (i : Nat) (T : Tr V) (h : H) : Prop where
  il : i ≤ l.length
  t1 : evO T (.t 1) = .slice a l.length c ez
  t5 : evO T (.t 5) = .int .u64 (rev (foldB r0 (l.take i)) : Nat)
  t6 : evO T (.t 6) = .int .i64 (i : Int)
  hh : h = h0
theorem oi_step (e : EnRc E) (x : NoRc X) (M m : Nat) (hm : 8 < m) (a : Option (Nat × Nat)) (c : Option Nat) (ez : Nat) (l : List Nat) (r0 : Nat) (hr : r0 < 4294967296) (bl : byt l = true) (hl : l.length < 9223372036854775807) (h0 : H) (src : SrcH h0 a ez l) :
    ∀ i T h, i < l.length → OI a c ez l r0 h0 i T h → ∃ T' h', evC (callX E X (M + 1)) 40 m none L_purserref02_On_1 ⟨T, [], h⟩ = some (.normal, ⟨T', [], h'⟩) ∧ OI a c ez l r0 h0 (i + 1) T' h' := by
  intro i T h hi ⟨_, t1, t5, t6, hh⟩
  subst hh
  obtain ⟨bi, off, vs, md, rfl, rfl, h3, h4, h5, h6⟩ := src.resolve_left (fun h => by rw [h] at hi; cases hi)
  have cg : vs[off + i]? = some (.int .u8 (l.getD i 0 : Nat)) := by
    have : ((vs.drop off).take l.length)[i]? = (ofI .u8 l)[i]? := by rw [h6]
    rw [List.getElem?_take_of_lt hi, List.getElem?_drop, ofI_get _ _ _ hi] at this
    exact this
  have c0 : decide ((i : Int) < (l.length : Int)) = true := decide_eq_true (by omega)
  have wi : wr .i64 ((i : Int) + 1) = ((i + 1 : Nat) : Int) := by rw [wr_i64 (by omega)]; omega
  have ix : idx (i : Int) l.length = some i := idxn hi
  have yl := bytD bl i
  have fo : foldB r0 (l.take (i + 1)) = stepB (foldB r0 (l.take i)) (l.getD i 0) := by rw [take_D l i hi, foldB_app]; rfl
  have rl := foldB_lt (l.take i) r0 hr
  rw [stepB_G8 _ _ yl] at fo
  generalize l.getD i 0 = y at *
  generalize foldB r0 (l.take i) = g at *
  have wy : wr .u64 (y : Int) = (y : Int) := u64n _ (by omega)
  have fin : ∀ T1, BI (.slice (some (bi, off)) l.length c 1) i g y h 0 T1 h → ∃ T' h', bindE (blockE 1 (blockE 2 (loopN (evC (callX E X (M + 1)) 40 m none L_purserref02_On_0) m ⟨T1, [], h⟩))) (evC (callX E X (M + 1)) 40 m none R_purserref02_On_0) = some (.normal, ⟨T', [], h'⟩) ∧ OI (some (bi, off)) c 1 l r0 h (i + 1) T' h' := by
    intro T1 I
    obtain ⟨T2, r, il, t1, t6, t5, t7, t8, _⟩ := bi_loop (E := E) e x M m hm _ i g y rl yl h T1 I
    rw [r]
    rw [← fo] at t5
    refine ⟨_, _, by
      simp (config := {maxSteps := 2000000}) (disch := first | omega | (simp only [List.length_cons, List.length_nil, List.length_append, List.length_drop]; omega)) only [R_purserref02_On_0, t1, t5, t6, wi, ↓b_xor32, ↓b_and32, ↓b_or32, ↓u_not32, b_xor32, b_and32, b_or32, u_not32, w32ad, ↓x_conv, x_convV, ↓x_fieldAddr, x_fieldV, ↓s_nilchk, x_nilchk, Nat.zero_add, Nat.add_zero, Nat.mul_one, ↓l_loop, ↓l_succ, ↓l_normal, l_normal, l_exit, l_ret, l_iteN, ↓h_put_get, ↓h_new_get, ↓h_del_get, h_next_put, h_next_new, h_next_del, Nat.add_assoc, Nat.add_eq_left, Nat.left_eq_add, Nat.add_left_cancel_iff, ↓s_load, m_load, ↓m_load1, m_load1, ↓m_st, m_stE, m_storeI, m_storeE, w_zero, w_succ, ↓s_alloc, ↓x_idxA, ↓x_idxS, x_idxAE, x_idxSE, x_addrE, x_idx, x_lenS, ↓s_len, ↓x_buildS, x_buildE, ↓x_P0, ↓x_P1, x_fill0, x_filli, x_fills, x_fillb, c_int, List.length_cons, List.length_nil, List.cons_append, List.drop_succ_cons, List.drop_zero, List.drop_nil, List.nil_append, Int.reduceAdd, Int.reduceToNat, Int.reduceLT, Int.reduceLE, Nat.reduceAdd, Nat.reduceMul, Nat.reduceLeDiff, Int.reduceEq, Int.reduceSub, Int.cast_ofNat_Int, s_resc, s_consR, m_load4, m_store4, s_res0, ↓s_skip, ↓s_ops, ↓s_dops, ↓s_seq, ↓s_cond, ↓s_block, ↓s_exit, ↓s_ret, ↓s_scope, ↓s_nil, ↓s_op, ↓s_opg, ↓s_wanted', ↓s_wantV, s_wantV, s_wantV0, beq_true, beq_false, ↓s_bindS, s_bindS, ↓s_bindE, s_bindE, s_bindE_ret, s_bindE_exit, s_bindE_iteN, s_norm, ↓s_condV, s_condV, s_block_ret, s_block_normal, s_block_exit, s_block_iteN, ↓s_getp, ↓s_getp0, ↓s_get, s_get0, ↓s_con, ↓s_fn, ↓s_os0, ↓s_os1, ↓s_list0, ↓s_list1, ↓s_mov, ↓s_pick, ↓s_pickE, s_pickE, ↓s_bin, ↓s_un, ↓s_minmax, ↓s_call, ↓s_callv, ↓s_callV, ↓s_ext, s_same, b_eql, b_neq, b_lss, b_leq, b_gtr, b_geq, b_add, b_sub, b_mul, b_eqlb, b_neqb, b_fnil, b_fnil', b_fnil2, b_fnil2', u_neg, u_not, m_two, s_end, s_end', s_end_iteN, s_res0, s_res1, s_tup1, s_tup2, ↓iteN_true, ↓iteN_false, iteN_true, iteN_false, Nat.zero_add, List.nil_append, List.append_nil, Nat.reduceEqDiff, reduceIte, decide_true, decide_false, Bool.not_true, Bool.not_false, List.getElem?_cons_zero, List.getElem?_cons_succ, Bool.false_eq_true, if_true, if_false, beq_self_eq_true]
      exact rfl, ⟨by omega, (by (simp only [s_getp, s_getp0, Nat.reduceEqDiff, decide_false, decide_true, iteN_false, iteN_true, t1]; try rfl)), (by (simp only [s_getp, s_getp0, Nat.reduceEqDiff, decide_false, decide_true, iteN_false, iteN_true, t5]; try rfl)), (by (simp only [s_getp, s_getp0, Nat.reduceEqDiff, decide_false, decide_true, iteN_false, iteN_true, t6]; try rfl)), rfl⟩⟩
  obtain ⟨Lo, eL⟩ : ∃ R, L_purserref02_On_0 = R := ⟨_, rfl⟩
  obtain ⟨Ro, eR⟩ : ∃ R, R_purserref02_On_0 = R := ⟨_, rfl⟩
  unfold L_purserref02_On_1
  rw [eL, eR] at fin ⊢
  simp (config := {maxSteps := 2000000}) (disch := first | omega | (simp only [List.length_cons, List.length_nil, List.length_append, List.length_drop]; omega)) only [t1, t5, t6, h4, cg, c0, ix, wy, ↓s_len, x_lenS, ↓b_xor32, ↓b_and32, ↓b_or32, ↓u_not32, b_xor32, b_and32, b_or32, u_not32, w32ad, ↓x_conv, x_convV, ↓x_fieldAddr, x_fieldV, ↓s_nilchk, x_nilchk, Nat.zero_add, Nat.add_zero, Nat.mul_one, ↓l_loop, ↓l_succ, ↓l_normal, l_normal, l_exit, l_ret, l_iteN, ↓h_put_get, ↓h_new_get, ↓h_del_get, h_next_put, h_next_new, h_next_del, Nat.add_assoc, Nat.add_eq_left, Nat.left_eq_add, Nat.add_left_cancel_iff, ↓s_load, m_load, ↓m_load1, m_load1, ↓m_st, m_stE, m_storeI, m_storeE, w_zero, w_succ, ↓s_alloc, ↓x_idxA, ↓x_idxS, x_idxAE, x_idxSE, x_addrE, x_idx, x_lenS, ↓s_len, ↓x_buildS, x_buildE, ↓x_P0, ↓x_P1, x_fill0, x_filli, x_fills, x_fillb, c_int, List.length_cons, List.length_nil, List.cons_append, List.drop_succ_cons, List.drop_zero, List.drop_nil, List.nil_append, Int.reduceAdd, Int.reduceToNat, Int.reduceLT, Int.reduceLE, Nat.reduceAdd, Nat.reduceMul, Nat.reduceLeDiff, Int.reduceEq, Int.reduceSub, Int.cast_ofNat_Int, s_resc, s_consR, m_load4, m_store4, s_res0, ↓s_skip, ↓s_ops, ↓s_dops, ↓s_seq, ↓s_cond, ↓s_block, ↓s_exit, ↓s_ret, ↓s_scope, ↓s_nil, ↓s_op, ↓s_opg, ↓s_wanted', ↓s_wantV, s_wantV, s_wantV0, beq_true, beq_false, ↓s_bindS, s_bindS, ↓s_bindE, s_bindE, s_bindE_ret, s_bindE_exit, s_bindE_iteN, s_norm, ↓s_condV, s_condV, s_block_ret, s_block_normal, s_block_exit, s_block_iteN, ↓s_getp, ↓s_getp0, ↓s_get, s_get0, ↓s_con, ↓s_fn, ↓s_os0, ↓s_os1, ↓s_list0, ↓s_list1, ↓s_mov, ↓s_pick, ↓s_pickE, s_pickE, ↓s_bin, ↓s_un, ↓s_minmax, ↓s_call, ↓s_callv, ↓s_callV, ↓s_ext, s_same, b_eql, b_neq, b_lss, b_leq, b_gtr, b_geq, b_add, b_sub, b_mul, b_eqlb, b_neqb, b_fnil, b_fnil', b_fnil2, b_fnil2', u_neg, u_not, m_two, s_end, s_end', s_end_iteN, s_res0, s_res1, s_tup1, s_tup2, ↓iteN_true, ↓iteN_false, iteN_true, iteN_false, Nat.zero_add, List.nil_append, List.append_nil, Nat.reduceEqDiff, reduceIte, decide_true, decide_false, Bool.not_true, Bool.not_false, List.getElem?_cons_zero, List.getElem?_cons_succ, Bool.false_eq_true, if_true, if_false, beq_self_eq_true]
  exact fin _ ⟨by omega, (by (simp only [s_getp, s_getp0, Nat.reduceEqDiff, decide_false, decide_true, iteN_false, iteN_true, t1]; try rfl)), (by (simp only [s_getp, s_getp0, Nat.reduceEqDiff, decide_false, decide_true, iteN_false, iteN_true, t6]; try rfl)), by show _ = V.int .u64 ((rev g : Nat) : Int); exact (by (simp only [s_getp, s_getp0, Nat.reduceEqDiff, decide_false, decide_true, iteN_false, iteN_true, t5]; try rfl)), by rw [Nat.pow_zero, Nat.div_one]; exact (by (simp only [s_getp, s_getp0, Nat.reduceEqDiff, decide_false, decide_true, iteN_false, iteN_true, t1]; try rfl)), (by (simp only [s_getp, s_getp0, Nat.reduceEqDiff, decide_false, decide_true, iteN_false, iteN_true, t1]; try rfl)), rfl⟩
theorem ron_go (e : EnRc E) (x : NoRc X) (N s : Nat) (hs : s < 4294967296) (a : Option (Nat × Nat)) (c : Option Nat) (ez : Nat) (l : List Nat) (bl : byt l = true) (hl : l.length < N) (hl2 : l.length < 9223372036854775807) (h : H) (src : SrcH h a ez l) :
    callX E X (N + 41) (.fn k_purserref02_On) [.int .u32 (s : Int), .slice a l.length c ez] h = some (.int .u32 (onV s l : Nat), h) := by
  rw [x_cfn e.on _ _ (Nat.le_of_ble_eq_true rfl) (x.on _ _)]
  have nl := nt_lt s
  have fl := foldB_lt l (nt s) nl
  have ws : wr .u64 (s : Int) = (s : Int) := u64n _ (by omega)
  have w1 : wr .u64 (4294967295 - (s : Int)) = (nt s : Int) := by unfold nt; rw [wr_u64 (by omega)]; omega
  have r1 := about_go (E := E) e x N (nt s) nl h
  have r2 := about_go (E := E) e x N (rev (foldB (nt s) l)) (rev_lt _) h
  rw [rev_rev _ fl] at r2
  have ov : onV s l = nt (foldB (nt s) l) := rfl
  have wg : ∀ g : Nat, g < 4294967296 → wr .u64 (4294967295 - (g : Int)) = (nt g : Int) := fun g hg => by unfold nt; rw [wr_u64 (by omega)]; omega
  have w2 : wr .u64 (4294967295 - ((foldB (nt s) l : Nat) : Int)) = (onV s l : Int) := wg _ fl
  have w3 : wr .u32 ((onV s l : Nat) : Int) = (onV s l : Int) := by rw [w32, Nat.mod_eq_of_lt (onV_lt _ _)]
  have fin : ∀ T, OI a c ez l (nt s) h 0 T h → fnEnd [.tmp 4] (bindE (blockE 0 (loopN (evC (callX E X (N + 40)) 40 (N + 40) none L_purserref02_On_1) (N + 40) ⟨T, [], h⟩)) (evC (callX E X (N + 40)) 40 (N + 40) none R_purserref02_On_1)) = some (.int .u32 (onV s l : Nat), h) := by
    intro T I
    obtain ⟨T', h', r, t5, hh⟩ := loop_go (f := evC (callX E X (N + 40)) 40 (N + 40) none L_purserref02_On_1) (OI a c ez l (nt s) h) l.length (.exit 0) (by intro h; cases h) (fun T h' => evO T (.t 5) = .int .u64 (rev (foldB (nt s) l) : Nat) ∧ h' = h) (oi_step e x (N + 39) (N + 40) (by omega) a c ez l (nt s) nl bl hl2 h src) (fun T h' I => by
      obtain ⟨il, t1, t5, t6, hh⟩ := I
      rw [List.take_length] at t5
      have c0 : decide ((l.length : Int) < (l.length : Int)) = false := decide_eq_false (by omega)
      refine ⟨_, _, by
        simp (config := {maxSteps := 2000000}) (disch := first | omega | (simp only [List.length_cons, List.length_nil, List.length_append, List.length_drop]; omega)) only [L_purserref02_On_1, t1, t6, c0, ↓s_len, x_lenS, ↓b_xor32, ↓b_and32, ↓b_or32, ↓u_not32, b_xor32, b_and32, b_or32, u_not32, w32ad, ↓x_conv, x_convV, ↓x_fieldAddr, x_fieldV, ↓s_nilchk, x_nilchk, Nat.zero_add, Nat.add_zero, Nat.mul_one, ↓l_loop, ↓l_succ, ↓l_normal, l_normal, l_exit, l_ret, l_iteN, ↓h_put_get, ↓h_new_get, ↓h_del_get, h_next_put, h_next_new, h_next_del, Nat.add_assoc, Nat.add_eq_left, Nat.left_eq_add, Nat.add_left_cancel_iff, ↓s_load, m_load, ↓m_load1, m_load1, ↓m_st, m_stE, m_storeI, m_storeE, w_zero, w_succ, ↓s_alloc, ↓x_idxA, ↓x_idxS, x_idxAE, x_idxSE, x_addrE, x_idx, x_lenS, ↓s_len, ↓x_buildS, x_buildE, ↓x_P0, ↓x_P1, x_fill0, x_filli, x_fills, x_fillb, c_int, List.length_cons, List.length_nil, List.cons_append, List.drop_succ_cons, List.drop_zero, List.drop_nil, List.nil_append, Int.reduceAdd, Int.reduceToNat, Int.reduceLT, Int.reduceLE, Nat.reduceAdd, Nat.reduceMul, Nat.reduceLeDiff, Int.reduceEq, Int.reduceSub, Int.cast_ofNat_Int, s_resc, s_consR, m_load4, m_store4, s_res0, ↓s_skip, ↓s_ops, ↓s_dops, ↓s_seq, ↓s_cond, ↓s_block, ↓s_exit, ↓s_ret, ↓s_scope, ↓s_nil, ↓s_op, ↓s_opg, ↓s_wanted', ↓s_wantV, s_wantV, s_wantV0, beq_true, beq_false, ↓s_bindS, s_bindS, ↓s_bindE, s_bindE, s_bindE_ret, s_bindE_exit, s_bindE_iteN, s_norm, ↓s_condV, s_condV, s_block_ret, s_block_normal, s_block_exit, s_block_iteN, ↓s_getp, ↓s_getp0, ↓s_get, s_get0, ↓s_con, ↓s_fn, ↓s_os0, ↓s_os1, ↓s_list0, ↓s_list1, ↓s_mov, ↓s_pick, ↓s_pickE, s_pickE, ↓s_bin, ↓s_un, ↓s_minmax, ↓s_call, ↓s_callv, ↓s_callV, ↓s_ext, s_same, b_eql, b_neq, b_lss, b_leq, b_gtr, b_geq, b_add, b_sub, b_mul, b_eqlb, b_neqb, b_fnil, b_fnil', b_fnil2, b_fnil2', u_neg, u_not, m_two, s_end, s_end', s_end_iteN, s_res0, s_res1, s_tup1, s_tup2, ↓iteN_true, ↓iteN_false, iteN_true, iteN_false, Nat.zero_add, List.nil_append, List.append_nil, Nat.reduceEqDiff, reduceIte, decide_true, decide_false, Bool.not_true, Bool.not_false, List.getElem?_cons_zero, List.getElem?_cons_succ, Bool.false_eq_true, if_true, if_false, beq_self_eq_true]
        exact rfl, (by (simp only [s_getp, s_getp0, Nat.reduceEqDiff, decide_false, decide_true, iteN_false, iteN_true, t5]; try rfl)), hh⟩) l.length 0 (by omega) (N + 40) (by omega) T h I
    rw [r, hh]
    generalize foldB (nt s) l = g at *
    generalize onV s l = o at *
    simp (config := {maxSteps := 2000000}) (disch := first | omega | (simp only [List.length_cons, List.length_nil, List.length_append, List.length_drop]; omega)) only [R_purserref02_On_1, t5, r2, w2, w3, ↓b_xor32, ↓b_and32, ↓b_or32, ↓u_not32, b_xor32, b_and32, b_or32, u_not32, w32ad, ↓x_conv, x_convV, ↓x_fieldAddr, x_fieldV, ↓s_nilchk, x_nilchk, Nat.zero_add, Nat.add_zero, Nat.mul_one, ↓l_loop, ↓l_succ, ↓l_normal, l_normal, l_exit, l_ret, l_iteN, ↓h_put_get, ↓h_new_get, ↓h_del_get, h_next_put, h_next_new, h_next_del, Nat.add_assoc, Nat.add_eq_left, Nat.left_eq_add, Nat.add_left_cancel_iff, ↓s_load, m_load, ↓m_load1, m_load1, ↓m_st, m_stE, m_storeI, m_storeE, w_zero, w_succ, ↓s_alloc, ↓x_idxA, ↓x_idxS, x_idxAE, x_idxSE, x_addrE, x_idx, x_lenS, ↓s_len, ↓x_buildS, x_buildE, ↓x_P0, ↓x_P1, x_fill0, x_filli, x_fills, x_fillb, c_int, List.length_cons, List.length_nil, List.cons_append, List.drop_succ_cons, List.drop_zero, List.drop_nil, List.nil_append, Int.reduceAdd, Int.reduceToNat, Int.reduceLT, Int.reduceLE, Nat.reduceAdd, Nat.reduceMul, Nat.reduceLeDiff, Int.reduceEq, Int.reduceSub, Int.cast_ofNat_Int, s_resc, s_consR, m_load4, m_store4, s_res0, ↓s_skip, ↓s_ops, ↓s_dops, ↓s_seq, ↓s_cond, ↓s_block, ↓s_exit, ↓s_ret, ↓s_scope, ↓s_nil, ↓s_op, ↓s_opg, ↓s_wanted', ↓s_wantV, s_wantV, s_wantV0, beq_true, beq_false, ↓s_bindS, s_bindS, ↓s_bindE, s_bindE, s_bindE_ret, s_bindE_exit, s_bindE_iteN, s_norm, ↓s_condV, s_condV, s_block_ret, s_block_normal, s_block_exit, s_block_iteN, ↓s_getp, ↓s_getp0, ↓s_get, s_get0, ↓s_con, ↓s_fn, ↓s_os0, ↓s_os1, ↓s_list0, ↓s_list1, ↓s_mov, ↓s_pick, ↓s_pickE, s_pickE, ↓s_bin, ↓s_un, ↓s_minmax, ↓s_call, ↓s_callv, ↓s_callV, ↓s_ext, s_same, b_eql, b_neq, b_lss, b_leq, b_gtr, b_geq, b_add, b_sub, b_mul, b_eqlb, b_neqb, b_fnil, b_fnil', b_fnil2, b_fnil2', u_neg, u_not, m_two, s_end, s_end', s_end_iteN, s_res0, s_res1, s_tup1, s_tup2, ↓iteN_true, ↓iteN_false, iteN_true, iteN_false, Nat.zero_add, List.nil_append, List.append_nil, Nat.reduceEqDiff, reduceIte, decide_true, decide_false, Bool.not_true, Bool.not_false, List.getElem?_cons_zero, List.getElem?_cons_succ, Bool.false_eq_true, if_true, if_false, beq_self_eq_true]
  obtain ⟨R, eR⟩ : ∃ R, R_purserref02_On_1 = R := ⟨_, rfl⟩
  obtain ⟨Lo, eL⟩ : ∃ R, L_purserref02_On_1 = R := ⟨_, rfl⟩
  rw [eR, eL] at fin ⊢
  generalize nt s = z at *
  simp (config := {maxSteps := 2000000}) (disch := first | omega | (simp only [List.length_cons, List.length_nil, List.length_append, List.length_drop]; omega)) only [ws, w1, r1, ↓b_xor32, ↓b_and32, ↓b_or32, ↓u_not32, b_xor32, b_and32, b_or32, u_not32, w32ad, ↓x_conv, x_convV, ↓x_fieldAddr, x_fieldV, ↓s_nilchk, x_nilchk, Nat.zero_add, Nat.add_zero, Nat.mul_one, ↓l_loop, ↓l_succ, ↓l_normal, l_normal, l_exit, l_ret, l_iteN, ↓h_put_get, ↓h_new_get, ↓h_del_get, h_next_put, h_next_new, h_next_del, Nat.add_assoc, Nat.add_eq_left, Nat.left_eq_add, Nat.add_left_cancel_iff, ↓s_load, m_load, ↓m_load1, m_load1, ↓m_st, m_stE, m_storeI, m_storeE, w_zero, w_succ, ↓s_alloc, ↓x_idxA, ↓x_idxS, x_idxAE, x_idxSE, x_addrE, x_idx, x_lenS, ↓s_len, ↓x_buildS, x_buildE, ↓x_P0, ↓x_P1, x_fill0, x_filli, x_fills, x_fillb, c_int, List.length_cons, List.length_nil, List.cons_append, List.drop_succ_cons, List.drop_zero, List.drop_nil, List.nil_append, Int.reduceAdd, Int.reduceToNat, Int.reduceLT, Int.reduceLE, Nat.reduceAdd, Nat.reduceMul, Nat.reduceLeDiff, Int.reduceEq, Int.reduceSub, Int.cast_ofNat_Int, s_resc, s_consR, m_load4, m_store4, s_res0, ↓s_skip, ↓s_ops, ↓s_dops, ↓s_seq, ↓s_cond, ↓s_block, ↓s_exit, ↓s_ret, ↓s_scope, ↓s_nil, ↓s_op, ↓s_opg, ↓s_wanted', ↓s_wantV, s_wantV, s_wantV0, beq_true, beq_false, ↓s_bindS, s_bindS, ↓s_bindE, s_bindE, s_bindE_ret, s_bindE_exit, s_bindE_iteN, s_norm, ↓s_condV, s_condV, s_block_ret, s_block_normal, s_block_exit, s_block_iteN, ↓s_getp, ↓s_getp0, ↓s_get, s_get0, ↓s_con, ↓s_fn, ↓s_os0, ↓s_os1, ↓s_list0, ↓s_list1, ↓s_mov, ↓s_pick, ↓s_pickE, s_pickE, ↓s_bin, ↓s_un, ↓s_minmax, ↓s_call, ↓s_callv, ↓s_callV, ↓s_ext, s_same, b_eql, b_neq, b_lss, b_leq, b_gtr, b_geq, b_add, b_sub, b_mul, b_eqlb, b_neqb, b_fnil, b_fnil', b_fnil2, b_fnil2', u_neg, u_not, m_two, s_end, s_end', s_end_iteN, s_res0, s_res1, s_tup1, s_tup2, ↓iteN_true, ↓iteN_false, iteN_true, iteN_false, Nat.zero_add, List.nil_append, List.append_nil, Nat.reduceEqDiff, reduceIte, decide_true, decide_false, Bool.not_true, Bool.not_false, List.getElem?_cons_zero, List.getElem?_cons_succ, Bool.false_eq_true, if_true, if_false, beq_self_eq_true]
  exact fin _ ⟨by omega, (by (simp only [s_getp, s_getp0, Nat.reduceEqDiff, decide_false, decide_true, iteN_false, iteN_true, eL]; try rfl)), by show _ = V.int .u64 ((rev z : Nat) : Int); exact (by (simp only [s_getp, s_getp0, Nat.reduceEqDiff, decide_false, decide_true, iteN_false, iteN_true, eL]; try rfl)), (by (simp only [s_getp, s_getp0, Nat.reduceEqDiff, decide_false, decide_true, iteN_false, iteN_true, eL]; try rfl)), rfl⟩
theorem rsum_go (e : EnRc E) (x : NoRc X) (N : Nat) (a : Option (Nat × Nat)) (c : Option Nat) (ez : Nat) (l : List Nat) (bl : byt l = true) (hl : l.length < N) (hl2 : l.length < 9223372036854775807) (h : H) (src : SrcH h a ez l) :
    callX E X (N + 42) (.fn k_purserref02_Sum) [.slice a l.length c ez] h = some (.int .u32 (onV 0 l : Nat), h) := by
  rw [x_cfn e.sum _ _ (Nat.le_of_ble_eq_true rfl) (x.sum _ _)]
  have r := ron_go (E := E) e x N 0 (by omega) a c ez l bl hl hl2 h src
  replace r : callX E X (N + 41) (.fn k_purserref02_On) [.int .u32 0, .slice a l.length c ez] h = some (.int .u32 (onV 0 l : Nat), h) := r
  generalize onV 0 l = o at *
  simp (config := {maxSteps := 2000000}) (disch := first | omega | (simp only [List.length_cons, List.length_nil, List.length_append, List.length_drop]; omega)) only [r, ↓b_xor32, ↓b_and32, ↓b_or32, ↓u_not32, b_xor32, b_and32, b_or32, u_not32, w32ad, ↓x_conv, x_convV, ↓x_fieldAddr, x_fieldV, ↓s_nilchk, x_nilchk, Nat.zero_add, Nat.add_zero, Nat.mul_one, ↓l_loop, ↓l_succ, ↓l_normal, l_normal, l_exit, l_ret, l_iteN, ↓h_put_get, ↓h_new_get, ↓h_del_get, h_next_put, h_next_new, h_next_del, Nat.add_assoc, Nat.add_eq_left, Nat.left_eq_add, Nat.add_left_cancel_iff, ↓s_load, m_load, ↓m_load1, m_load1, ↓m_st, m_stE, m_storeI, m_storeE, w_zero, w_succ, ↓s_alloc, ↓x_idxA, ↓x_idxS, x_idxAE, x_idxSE, x_addrE, x_idx, x_lenS, ↓s_len, ↓x_buildS, x_buildE, ↓x_P0, ↓x_P1, x_fill0, x_filli, x_fills, x_fillb, c_int, List.length_cons, List.length_nil, List.cons_append, List.drop_succ_cons, List.drop_zero, List.drop_nil, List.nil_append, Int.reduceAdd, Int.reduceToNat, Int.reduceLT, Int.reduceLE, Nat.reduceAdd, Nat.reduceMul, Nat.reduceLeDiff, Int.reduceEq, Int.reduceSub, Int.cast_ofNat_Int, s_resc, s_consR, m_load4, m_store4, s_res0, ↓s_skip, ↓s_ops, ↓s_dops, ↓s_seq, ↓s_cond, ↓s_block, ↓s_exit, ↓s_ret, ↓s_scope, ↓s_nil, ↓s_op, ↓s_opg, ↓s_wanted', ↓s_wantV, s_wantV, s_wantV0, beq_true, beq_false, ↓s_bindS, s_bindS, ↓s_bindE, s_bindE, s_bindE_ret, s_bindE_exit, s_bindE_iteN, s_norm, ↓s_condV, s_condV, s_block_ret, s_block_normal, s_block_exit, s_block_iteN, ↓s_getp, ↓s_getp0, ↓s_get, s_get0, ↓s_con, ↓s_fn, ↓s_os0, ↓s_os1, ↓s_list0, ↓s_list1, ↓s_mov, ↓s_pick, ↓s_pickE, s_pickE, ↓s_bin, ↓s_un, ↓s_minmax, ↓s_call, ↓s_callv, ↓s_callV, ↓s_ext, s_same, b_eql, b_neq, b_lss, b_leq, b_gtr, b_geq, b_add, b_sub, b_mul, b_eqlb, b_neqb, b_fnil, b_fnil', b_fnil2, b_fnil2', u_neg, u_not, m_two, s_end, s_end', s_end_iteN, s_res0, s_res1, s_tup1, s_tup2, ↓iteN_true, ↓iteN_false, iteN_true, iteN_false, Nat.zero_add, List.nil_append, List.append_nil, Nat.reduceEqDiff, reduceIte, decide_true, decide_false, Bool.not_true, Bool.not_false, List.getElem?_cons_zero, List.getElem?_cons_succ, Bool.false_eq_true, if_true, if_false, beq_self_eq_true]
theorem twin_go (e : E k_purserref01_Twin = some f_purserref01_Twin) (x : ∀ a h, X (.fn k_purserref01_Twin) a h = none) (N : Nat) (l : List Nat) (hl : l.length ≤ 1000000) (a : Option (Nat × Nat)) (c : Option Nat) (ez : Nat) (h : H) (src : SrcH h a ez l) :
    ∃ ao co eo h', callX E X (N + 1) (.fn k_purserref01_Twin) [.slice a l.length c ez] h = some (.slice ao l.length co eo, h') ∧ Kp h h' ∧ SrcH h' ao eo l := by
  rw [x_cfn e _ _ (Nat.le_of_ble_eq_true rfl) (x _ _)]
  have sc := src.cellz c
  cases hn : l.length with
  | zero =>
    rw [hn] at sc
    have ap := appN h none 0 (some 0) 0 (ofI .u8 l)
    refine ⟨_, _, _, _, by
      simp (config := {maxSteps := 2000000}) (disch := first | omega | (simp only [List.length_cons, List.length_nil, List.length_append, List.length_drop]; omega)) only [sc, ap, ↓s_append, ↓b_xor32, ↓b_and32, ↓b_or32, ↓u_not32, b_xor32, b_and32, b_or32, u_not32, w32ad, ↓x_conv, x_convV, ↓x_fieldAddr, x_fieldV, ↓s_nilchk, x_nilchk, Nat.zero_add, Nat.add_zero, Nat.mul_one, ↓l_loop, ↓l_succ, ↓l_normal, l_normal, l_exit, l_ret, l_iteN, ↓h_put_get, ↓h_new_get, ↓h_del_get, h_next_put, h_next_new, h_next_del, Nat.add_assoc, Nat.add_eq_left, Nat.left_eq_add, Nat.add_left_cancel_iff, ↓s_load, m_load, ↓m_load1, m_load1, ↓m_st, m_stE, m_storeI, m_storeE, w_zero, w_succ, ↓s_alloc, ↓x_idxA, ↓x_idxS, x_idxAE, x_idxSE, x_addrE, x_idx, x_lenS, ↓s_len, ↓x_buildS, x_buildE, ↓x_P0, ↓x_P1, x_fill0, x_filli, x_fills, x_fillb, c_int, List.length_cons, List.length_nil, List.cons_append, List.drop_succ_cons, List.drop_zero, List.drop_nil, List.nil_append, Int.reduceAdd, Int.reduceToNat, Int.reduceLT, Int.reduceLE, Nat.reduceAdd, Nat.reduceMul, Nat.reduceLeDiff, Int.reduceEq, Int.reduceSub, Int.cast_ofNat_Int, s_resc, s_consR, m_load4, m_store4, s_res0, ↓s_skip, ↓s_ops, ↓s_dops, ↓s_seq, ↓s_cond, ↓s_block, ↓s_exit, ↓s_ret, ↓s_scope, ↓s_nil, ↓s_op, ↓s_opg, ↓s_wanted', ↓s_wantV, s_wantV, s_wantV0, beq_true, beq_false, ↓s_bindS, s_bindS, ↓s_bindE, s_bindE, s_bindE_ret, s_bindE_exit, s_bindE_iteN, s_norm, ↓s_condV, s_condV, s_block_ret, s_block_normal, s_block_exit, s_block_iteN, ↓s_getp, ↓s_getp0, ↓s_get, s_get0, ↓s_con, ↓s_fn, ↓s_os0, ↓s_os1, ↓s_list0, ↓s_list1, ↓s_mov, ↓s_pick, ↓s_pickE, s_pickE, ↓s_bin, ↓s_un, ↓s_minmax, ↓s_call, ↓s_callv, ↓s_callV, ↓s_ext, s_same, b_eql, b_neq, b_lss, b_leq, b_gtr, b_geq, b_add, b_sub, b_mul, b_eqlb, b_neqb, b_fnil, b_fnil', b_fnil2, b_fnil2', u_neg, u_not, m_two, s_end, s_end', s_end_iteN, s_res0, s_res1, s_tup1, s_tup2, ↓iteN_true, ↓iteN_false, iteN_true, iteN_false, Nat.zero_add, List.nil_append, List.append_nil, Nat.reduceEqDiff, reduceIte, decide_true, decide_false, Bool.not_true, Bool.not_false, List.getElem?_cons_zero, List.getElem?_cons_succ, Bool.false_eq_true, if_true, if_false, beq_self_eq_true]
      exact rfl, Kp.refl _, .inl (List.length_eq_zero_iff.1 hn)⟩
  | succ n =>
    rw [hn] at sc
    have ap := app0 h n 0 .u8 l (some 0) (by omega)
    obtain ⟨C, eC⟩ : ∃ C, ofI .u8 l = C := ⟨_, rfl⟩
    rw [eC] at ap sc
    refine ⟨_, _, _, _, by
      simp (config := {maxSteps := 2000000}) (disch := first | omega | (simp only [List.length_cons, List.length_nil, List.length_append, List.length_drop]; omega)) only [sc, ap, ↓s_append, ↓b_xor32, ↓b_and32, ↓b_or32, ↓u_not32, b_xor32, b_and32, b_or32, u_not32, w32ad, ↓x_conv, x_convV, ↓x_fieldAddr, x_fieldV, ↓s_nilchk, x_nilchk, Nat.zero_add, Nat.add_zero, Nat.mul_one, ↓l_loop, ↓l_succ, ↓l_normal, l_normal, l_exit, l_ret, l_iteN, ↓h_put_get, ↓h_new_get, ↓h_del_get, h_next_put, h_next_new, h_next_del, Nat.add_assoc, Nat.add_eq_left, Nat.left_eq_add, Nat.add_left_cancel_iff, ↓s_load, m_load, ↓m_load1, m_load1, ↓m_st, m_stE, m_storeI, m_storeE, w_zero, w_succ, ↓s_alloc, ↓x_idxA, ↓x_idxS, x_idxAE, x_idxSE, x_addrE, x_idx, x_lenS, ↓s_len, ↓x_buildS, x_buildE, ↓x_P0, ↓x_P1, x_fill0, x_filli, x_fills, x_fillb, c_int, List.length_cons, List.length_nil, List.cons_append, List.drop_succ_cons, List.drop_zero, List.drop_nil, List.nil_append, Int.reduceAdd, Int.reduceToNat, Int.reduceLT, Int.reduceLE, Nat.reduceAdd, Nat.reduceMul, Nat.reduceLeDiff, Int.reduceEq, Int.reduceSub, Int.cast_ofNat_Int, s_resc, s_consR, m_load4, m_store4, s_res0, ↓s_skip, ↓s_ops, ↓s_dops, ↓s_seq, ↓s_cond, ↓s_block, ↓s_exit, ↓s_ret, ↓s_scope, ↓s_nil, ↓s_op, ↓s_opg, ↓s_wanted', ↓s_wantV, s_wantV, s_wantV0, beq_true, beq_false, ↓s_bindS, s_bindS, ↓s_bindE, s_bindE, s_bindE_ret, s_bindE_exit, s_bindE_iteN, s_norm, ↓s_condV, s_condV, s_block_ret, s_block_normal, s_block_exit, s_block_iteN, ↓s_getp, ↓s_getp0, ↓s_get, s_get0, ↓s_con, ↓s_fn, ↓s_os0, ↓s_os1, ↓s_list0, ↓s_list1, ↓s_mov, ↓s_pick, ↓s_pickE, s_pickE, ↓s_bin, ↓s_un, ↓s_minmax, ↓s_call, ↓s_callv, ↓s_callV, ↓s_ext, s_same, b_eql, b_neq, b_lss, b_leq, b_gtr, b_geq, b_add, b_sub, b_mul, b_eqlb, b_neqb, b_fnil, b_fnil', b_fnil2, b_fnil2', u_neg, u_not, m_two, s_end, s_end', s_end_iteN, s_res0, s_res1, s_tup1, s_tup2, ↓iteN_true, ↓iteN_false, iteN_true, iteN_false, Nat.zero_add, List.nil_append, List.append_nil, Nat.reduceEqDiff, reduceIte, decide_true, decide_false, Bool.not_true, Bool.not_false, List.getElem?_cons_zero, List.getElem?_cons_succ, Bool.false_eq_true, if_true, if_false, beq_self_eq_true]
      exact rfl, Kp.new _ _, .inr ⟨h.next, 0, C, .rw, rfl, rfl, Nat.lt_succ_self _, h_new_same _ _, by rw [← eC, ofI_len]; omega, by rw [List.drop_zero, ← eC]; exact List.take_of_length_le (by rw [ofI_len]; exact Nat.le_refl _)⟩⟩
/-- what CrcSums knows -/
noncomputable def csX : Orc := pureX k_crc_steps stepsS
theorem cs_no : NoCrc csX := ⟨fun _ _ => rfl, fun _ _ => rfl, fun _ _ => rfl, fun _ _ => rfl, fun _ _ _ => rfl, fun h => pureX_yes h rfl⟩
theorem cs_rc : NoRc csX := ⟨fun _ _ => rfl, fun _ _ => rfl, fun _ _ => rfl, fun _ _ => rfl⟩
set_option maxRecDepth 100000 in
set_option maxHeartbeats 4000000 in
theorem law_CrcSums (e : EnCrc E) (er : EnRc E) (et : E k_purserref01_Twin = some f_purserref01_Twin) (el : E k_purserlaw02_CrcSums = some f_purserlaw02_CrcSums) (N : Nat) (l : List Nat) (bl : byt l = true) (a : Option (Nat × Nat)) (s : Nat) (hs : s < 4294967296) (h : H) (src : SrcH h a 1 l) :
    ∃ h2, callX E csX (N + 11000) (.fn k_purserlaw02_CrcSums) [.slice a l.length none 1, .int .u32 (s : Int)] h = some (.bool true, h2) := by
  rw [x_cfn el _ _ (Nat.le_of_ble_eq_true rfl) rfl]
  by_cases hl : 10000 < l.length
  · have c1 : decide ((10000 : Int) < (l.length : Int)) = true := decide_eq_true (by omega)
    simp (config := {maxSteps := 2000000}) (disch := first | omega | rfl | (simp only [ofI_len, List.length_append, List.length_take, List.length_drop, List.length_cons, List.length_nil, List.length_replicate, List.length_set]; done) | (simp only [ofI_len, List.length_append, List.length_take, List.length_drop, List.length_cons, List.length_nil, List.length_replicate, List.length_set]; omega)) only [c1, ↓s_len, x_lenS, ↓b_xor32, ↓b_and32, ↓b_or32, ↓u_not32, b_xor32, b_and32, b_or32, u_not32, w32ad, ↓x_conv, x_convV, ↓x_fieldAddr, x_fieldV, ↓s_nilchk, x_nilchk, Nat.zero_add, Nat.add_zero, Nat.mul_one, ↓l_loop, ↓l_succ, ↓l_normal, l_normal, l_exit, l_ret, l_iteN, ↓h_put_get, ↓h_new_get, ↓h_del_get, h_next_put, h_next_new, h_next_del, Nat.add_assoc, Nat.add_eq_left, Nat.left_eq_add, Nat.add_left_cancel_iff, ↓s_load, m_load, ↓m_load1, m_load1, ↓m_st, m_stE, m_storeI, m_storeE, ↓s_alloc, ↓x_idxA, ↓x_idxS, x_idxAE, x_idxSE, x_addrE, x_idx, x_lenS, ↓s_len, ↓x_buildS, x_buildE, ↓x_P0, ↓x_P1, x_fill0, x_filli, x_fills, x_fillb, c_int, List.length_cons, List.length_nil, List.cons_append, List.drop_succ_cons, List.drop_zero, List.drop_nil, List.nil_append, Int.reduceAdd, Int.reduceToNat, Int.reduceLT, Int.reduceLE, Nat.reduceAdd, Nat.reduceMul, Nat.reduceLeDiff, Int.reduceEq, Int.reduceSub, Int.cast_ofNat_Int, s_resc, s_consR, m_load4, m_store4, s_res0, ↓s_skip, ↓s_ops, ↓s_dops, ↓s_seq, ↓s_cond, ↓s_block, ↓s_exit, ↓s_ret, ↓s_scope, ↓s_nil, ↓s_op, ↓s_opg, ↓s_wanted', ↓s_wantV, s_wantV, s_wantV0, beq_true, beq_false, ↓s_bindS, s_bindS, ↓s_bindE, s_bindE, s_bindE_ret, s_bindE_exit, s_bindE_iteN, s_norm, ↓s_condV, s_condV, s_block_ret, s_block_normal, s_block_exit, s_block_iteN, ↓s_getp, ↓s_getp0, ↓s_get, s_get0, ↓s_con, ↓s_fn, ↓s_os0, ↓s_os1, ↓s_list0, ↓s_list1, ↓s_mov, ↓s_pick, ↓s_pickE, s_pickE, ↓s_bin, ↓s_un, ↓s_minmax, ↓s_call, ↓s_callv, ↓s_callV, ↓s_ext, s_same, b_eql, b_neq, b_lss, b_leq, b_gtr, b_geq, b_add, b_sub, b_mul, b_eqlb, b_neqb, b_fnil, b_fnil', b_fnil2, b_fnil2', u_neg, u_not, m_two, s_end, s_end', s_end_iteN, s_res0, s_res1, s_tup1, s_tup2, ↓iteN_true, ↓iteN_false, iteN_true, iteN_false, Nat.zero_add, List.nil_append, List.append_nil, Nat.reduceEqDiff, reduceIte, decide_true, decide_false, Bool.not_true, Bool.not_false, List.getElem?_cons_zero, List.getElem?_cons_succ, Bool.false_eq_true, if_true, if_false, beq_self_eq_true]
    exact ⟨_, rfl⟩
  have c1 : decide ((10000 : Int) < (l.length : Int)) = false := decide_eq_false (by omega)
  obtain ⟨ao, co, eo, h1, r1, k1, s1⟩ := twin_go (E := E) (X := csX) et (fun _ _ => rfl) (N + 10998) l (by omega) a none 1 h src
  obtain ⟨hW, eW⟩ : ∃ hW, h1.new (.cells [.slice ao l.length co eo] .rw) = hW := ⟨_, rfl⟩
  have kW : Kp h1 hW := by rw [← eW]; exact Kp.new _ _
  obtain ⟨h2, r2, k2⟩ := sum_go e cs_no (N + 10987) h1.next [(ao, co, eo, l)] (some 1) (by show 1 < _; omega) (by show 1 < _; omega) .rw hW (by rw [← eW]; exact Nat.lt_succ_self _) (by rw [← eW, h_new_same]; rfl) (fun q hq => by
    rcases List.mem_singleton.1 hq with rfl
    exact ⟨s1.mono kW, bl, by show l.length < _; omega, by show l.length < _; omega⟩)
  replace r2 : callX E csX (N + 10999) (.fn k_crc_Sum) [.slice (some (h1.next, 0)) 1 (some 1) 1] hW = some (.int .u32 (onV 0 l : Nat), h2) := r2
  have k12 := kW.trans k2
  have r3 := rsum_go (E := E) er cs_rc (N + 10957) a none 1 l bl (by omega) (by omega) h2 (src.mono (k1.trans k12))
  obtain ⟨h4, r4, k4⟩ := on_go e cs_no (N + 10989) s hs l bl (by omega) (by omega) ao co eo h2 (s1.mono k12)
  have r5 := ron_go (E := E) er cs_rc (N + 10958) s hs a none 1 l bl (by omega) (by omega) h4 (src.mono ((k1.trans k12).trans k4))
  have st1 := str_src (s1.mono (k12.trans k4)) bl co
  have st2 := str_src (src.mono ((k1.trans k12).trans k4)) bl none
  rw [show N + 10957 + 42 = N + 10999 from rfl] at r3
  rw [show N + 10989 + 10 = N + 10999 from rfl] at r4
  rw [show N + 10958 + 41 = N + 10999 from rfl] at r5
  rw [show N + 10998 + 1 = N + 10999 from rfl] at r1
  have eqS : ∀ (z : Nat) (e : EqK) (h : H), binV .eql e h (.int .u32 (z : Int)) (.int .u32 (z : Int)) = some (.bool true) := fun z e h => by rw [b_eql, decide_eq_true rfl]
  generalize onV 0 l = S0 at *
  generalize onV s l = S1 at *
  obtain ⟨n, en⟩ : ∃ n, l.length = n := ⟨_, rfl⟩
  rw [en] at c1 r1 r3 r4 r5 st1 st2 eW ⊢
  simp (config := {maxSteps := 2000000}) (disch := first | omega | rfl | (simp only [ofI_len, List.length_append, List.length_take, List.length_drop, List.length_cons, List.length_nil, List.length_replicate, List.length_set]; done) | (simp only [ofI_len, List.length_append, List.length_take, List.length_drop, List.length_cons, List.length_nil, List.length_replicate, List.length_set]; omega)) only [c1, r1, eW, r2, r3, r4, r5, st1, st2, eqS S0, eqS S1, ↓ns_b2s, b_seq, vbeq_str, ↓s_len, x_lenS, ↓b_xor32, ↓b_and32, ↓b_or32, ↓u_not32, b_xor32, b_and32, b_or32, u_not32, w32ad, ↓x_conv, x_convV, ↓x_fieldAddr, x_fieldV, ↓s_nilchk, x_nilchk, Nat.zero_add, Nat.add_zero, Nat.mul_one, ↓s_evD, ↓s_dnil, ↓s_dL, ↓s_dLg, ↓s_dR, ↓s_dRg, ↓s_dRj, ↓s_dRjg, ↓s_dB, ↓s_dBg, ↓s_dAlloc, ↓s_bindD, s_bindD, s_finD, s_finDx, s_addP0, s_addP1, s_addB, s_lookP, ↓s_bump0, ↓s_bump_get, s_bump_next, s_ok0, ↓s_ok1, s_okR0, ↓s_okR1, ↓s_okE, s_okE, s_okE1, s_nth0, s_nthS, Nat.add_zero, Bool.and_self, Bool.and_true, Bool.true_and, ↓l_loop, ↓l_succ, ↓l_normal, l_normal, l_exit, l_ret, l_iteN, ↓h_put_get, ↓h_new_get, ↓h_del_get, h_next_put, h_next_new, h_next_del, Nat.add_assoc, Nat.add_eq_left, Nat.left_eq_add, Nat.add_left_cancel_iff, ↓s_load, m_load, ↓m_load1, m_load1, ↓m_st, m_stE, m_storeI, m_storeE, w_zero, w_succ, ↓s_alloc, ↓x_idxA, ↓x_idxS, x_idxAE, x_idxSE, x_addrE, x_idx, x_lenS, ↓s_len, ↓x_buildS, x_buildE, ↓x_P0, ↓x_P1, x_fill0, x_filli, x_fills, x_fillb, c_int, List.length_cons, List.length_nil, List.cons_append, List.drop_succ_cons, List.drop_zero, List.drop_nil, List.nil_append, Int.reduceAdd, Int.reduceToNat, Int.reduceLT, Int.reduceLE, Nat.reduceAdd, Nat.reduceMul, Nat.reduceLeDiff, Int.reduceEq, Int.reduceSub, Int.cast_ofNat_Int, s_resc, s_consR, m_load4, m_store4, s_res0, ↓s_skip, ↓s_ops, ↓s_dops, ↓s_seq, ↓s_cond, ↓s_block, ↓s_exit, ↓s_ret, ↓s_scope, ↓s_nil, ↓s_op, ↓s_opg, ↓s_wanted', ↓s_wantV, s_wantV, s_wantV0, beq_true, beq_false, ↓s_bindS, s_bindS, ↓s_bindE, s_bindE, s_bindE_ret, s_bindE_exit, s_bindE_iteN, s_norm, ↓s_condV, s_condV, s_block_ret, s_block_normal, s_block_exit, s_block_iteN, ↓s_getp, ↓s_getp0, ↓s_get, s_get0, ↓s_con, ↓s_fn, ↓s_os0, ↓s_os1, ↓s_list0, ↓s_list1, ↓s_mov, ↓s_pick, ↓s_pickE, s_pickE, ↓s_bin, ↓s_un, ↓s_minmax, ↓s_call, ↓s_callv, ↓s_callV, ↓s_ext, s_same, b_eql, b_neq, b_lss, b_leq, b_gtr, b_geq, b_add, b_sub, b_mul, b_eqlb, b_neqb, b_fnil, b_fnil', b_fnil2, b_fnil2', u_neg, u_not, m_two, s_end, s_end', s_end_iteN, s_res0, s_res1, s_tup1, s_tup2, ↓iteN_true, ↓iteN_false, iteN_true, iteN_false, Nat.zero_add, List.nil_append, List.append_nil, Nat.reduceEqDiff, reduceIte, decide_true, decide_false, Bool.not_true, Bool.not_false, List.getElem?_cons_zero, List.getElem?_cons_succ, Bool.false_eq_true, if_true, if_false, beq_self_eq_true]
  exact ⟨_, rfl⟩
end Go.Eng
