/- What functions of the program come to: own work. -/
import Derived.Test.YtpmbepldakjkkaaWdD
import Derived.Test.YtpmbepldakjkkaaWdL
namespace Go.Eng
open Go
variable {E : Nat → Option Fn}
set_option linter.unusedSimpArgs false
set_option linter.unusedVariables false
theorem shL_nat (x k : Nat) (hk : k < 256) : shL x (k : Int) = x * 2 ^ k := by
  unfold shL
  by_cases h0 : k = 0
  · subst h0; simp
  · rw [if_neg (by omega), if_neg (by omega), Nat.shiftLeft_eq]; rfl
theorem shR_nat (x k : Nat) (hk : k < 256) : shR x (k : Int) = x / 2 ^ k := by
  unfold shR
  by_cases h0 : k = 0
  · subst h0; simp
  · rw [if_neg (by omega), if_neg (by omega), Nat.shiftRight_eq_div_pow]; rfl
theorem blen_pow (k : Nat) : blen (2 ^ k) = k + 1 := blen_of (Nat.le_refl _) (Nat.pow_lt_pow_right (by omega) (by omega))
theorem blen_div (a k : Nat) : blen (a / 2 ^ k) = blen a - k := by
  by_cases h : a / 2 ^ k = 0
  · rw [h]
    have : a < 2 ^ k := by
      rcases Nat.lt_or_ge a (2 ^ k) with h1 | h1
      · exact h1
      · have := Nat.div_pos h1 (Nat.two_pow_pos k); omega
    have := blen_le this
    rw [show blen 0 = 0 from rfl]; omega
  · rw [← Nat.shiftRight_eq_div_pow] at h ⊢
    have := blen_shr a k h
    omega
theorem blen_mul (a k : Nat) (h : a ≠ 0) : blen (a * 2 ^ k) = blen a + k := by
  have h1 : a * 2 ^ k / 2 ^ k = a := Nat.mul_div_cancel _ (Nat.two_pow_pos k)
  have h2 := blen_shr (a * 2 ^ k) k (by rw [Nat.shiftRight_eq_div_pow, h1]; exact h)
  rw [Nat.shiftRight_eq_div_pow, h1] at h2
  omega
theorem cmp_le {x y : Nat} (h : x ≤ y) : cmpW x y ≤ 0 := by
  unfold cmpW
  split
  · omega
  · rw [if_pos (by omega)]; omega
end Go.Eng
namespace Go.Eng
open Go
variable {E : Nat → Option Fn} {P : Program} {g : Gn}
set_option linter.unusedSimpArgs false
set_option linter.unusedVariables false
/-- knows at least the calls of package wide -/
def XW (X : Orc) : Prop := ∀ f args h r, wideXD (.fn f) args h = some r → X (.fn f) args h = some r
theorem XW_base : XW wideXD := fun _ _ _ _ h => h
theorem beq_comm' {a b : Nat} (h : Nat.beq a b = false) : Nat.beq b a = false := by
  cases hb : Nat.beq b a with
  | false => rfl
  | true =>
    have := Nat.eq_of_beq_eq_true hb
    subst this
    rw [show Nat.beq b b = true from Nat.beq_refl b] at h; cases h
theorem XW_push {X : Orc} (hX : XW X) {k : Nat} {s : List V → Option V} (hk : offW k = false) : XW (orX (pureX k s) X) := by
  intro f args h r e
  cases hb : Nat.beq f k with
  | false => exact (orX_r (pureX_no h hb)).trans (hX f args h r e)
  | true =>
    exfalso
    have := Nat.eq_of_beq_eq_true hb
    subst this
    simp only [offW, Bool.or_eq_false_iff] at hk
    obtain ⟨e1, e2, e3, e4, e5, e6, e7, e8, e9, e10⟩ := hk
    rw [XD_no h args (beq_comm' e10) (by simp only [Bool.or_eq_false_iff]; exact ⟨beq_comm' e1, beq_comm' e2, beq_comm' e3, beq_comm' e4, beq_comm' e5, beq_comm' e6, beq_comm' e7, beq_comm' e8, beq_comm' e9⟩)] at e
    cases e
theorem WQ_of {X : Orc} (hX : XW X) {n : Nat} : WQ (callX E X (n + 1)) :=
  ⟨fun h x y hx hy => x_known (hX _ _ _ _ ((XD_wide h rfl).trans (X_Add h hx hy))), fun h x y hx hy => x_known (hX _ _ _ _ ((XD_wide h rfl).trans (X_Sub h hx hy))), fun h x hx => x_known (hX _ _ _ _ ((XD_wide h rfl).trans (X_Not h hx))),
    fun h n => x_known (hX _ _ _ _ ((XD_wide h rfl).trans (X_Of h n))), fun h x y hx hy => x_known (hX _ _ _ _ ((XD_wide h rfl).trans (X_Compare h hx hy))), fun h x y hx hy => x_known (hX _ _ _ _ ((XD_wide h rfl).trans (X_Mul h hx hy))),
    fun h x n hx => x_known (hX _ _ _ _ ((XD_wide h rfl).trans (X_Left h n hx))), fun h x n hx => x_known (hX _ _ _ _ ((XD_wide h rfl).trans (X_Right h n hx))), fun h x hx => x_known (hX _ _ _ _ ((XD_wide h rfl).trans (X_Len h hx))),
    fun h x y hx hy => x_known (hX _ _ _ _ (XD_Div h hx hy))⟩
theorem aliveX_ok {X : Orc} (hX : QOk P g X) (hE : Link P g E) {k N : Nat} (h : isTrue (callX E X N (.fn k) [] H.empty) = true) : QOk P g (orX (pureX k aliveS) X) := by
  refine orX_ok (pureX_ok (callX_ok hE hX N) fun args v hs => ?_) hX
  unfold aliveS at hs
  split at hs
  · cases hs
    exact ⟨rfl, rfl, isTrue_some h⟩
  · cases hs

def kWork : Nat → V
  | 0 => .tup [WdF 0, .int .i64 (.ofNat 50)]
  | x + 1 => .tup [WdF (115792089237316195423570985008687907853269984665640564039457584007913129639936 / (x + 2)), .int .i64 (.ofNat 0)]
theorem kWork_eq (x : Nat) : kWork x = if x = 0 then .tup [Wd 0, .int .i64 50] else .tup [Wd (115792089237316195423570985008687907853269984665640564039457584007913129639936 / (x + 1)), .int .i64 0] := by
  cases x with
  | zero => unfold kWork; simp only [WdF_eq, if_true]; rfl
  | succ x => unfold kWork; rw [if_neg (by omega)]; simp only [WdF_eq]; rfl
theorem work_eq {x : Nat} (hx : x + 1 < 115792089237316195423570985008687907853269984665640564039457584007913129639936) : (115792089237316195423570985008687907853269984665640564039457584007913129639936 - 1 - x) / (x + 1) + 1 = 115792089237316195423570985008687907853269984665640564039457584007913129639936 / (x + 1) := by
  rw [← Nat.add_div_right _ (by omega)]
  congr 1; omega
theorem sp_Work {X : Orc} (hX : XW X) (n : Nat) (e : E k_target_Work = some f_target_Work) (hx : ∀ args h, X (.fn k_target_Work) args h = none) (t : Nat) (ht : t < M256) : ∃ h2, callX E X (n + 2) (.fn k_target_Work) [Wd t] H.empty = some (kWork t, h2) := by
  rw [x_cfn e _ _ (Nat.le_of_ble_eq_true rfl) (hx _ _), kWork_eq]
  have W : WQ (callX E X (n + 1)) := WQ_of hX
  have n0 : H.empty.next = 0 := rfl
  have hOf : ∀ h, callX E X (n + 1) (.fn k_wide_Of) [.int .u64 1] h = some (Wd 1, h) := fun h => W.Of h 1
  have z0 := fun h => b_eqW0 h t ht
  by_cases h0 : t = 0
  · rw [decide_eq_true h0] at z0
    simp (config := {maxSteps := 1000000}) (disch := first | omega | (simp only [List.length_cons, List.length_nil, List.length_append, List.length_drop]; omega)) only [if_pos h0, n0, z0, ↓s_box, ↓x_build, x_aggO, w_cells, w_load, w_store, w_st4, w_stW, w_write, w_write', ↓l_loop, ↓l_succ, ↓l_normal, l_normal, l_exit, l_ret, l_iteN, ↓h_put_get, ↓h_new_get, ↓h_del_get, h_next_put, h_next_new, h_next_del, Nat.add_assoc, Nat.add_eq_left, Nat.left_eq_add, Nat.add_left_cancel_iff, ↓s_load, m_load, ↓m_load1, m_load1, ↓m_st, m_stE, m_storeI, m_storeE, w_succ, ↓s_alloc, ↓x_idxA, ↓x_idxS, x_idxAE, x_idxSE, x_addrE, x_idx, x_lenS, ↓s_len, ↓x_buildS, x_buildE, ↓x_P0, ↓x_P1, x_fill0, x_filli, x_fills, x_fillb, c_int, List.length_cons, List.length_nil, List.cons_append, List.drop_succ_cons, List.drop_zero, List.drop_nil, List.nil_append, Int.reduceAdd, Int.reduceToNat, Int.reduceLT, Int.reduceLE, Nat.reduceAdd, Nat.reduceMul, Nat.reduceLeDiff, Int.reduceEq, Int.reduceSub, Int.cast_ofNat_Int, s_resc, s_consR, m_load4, m_store4, s_res0, ↓s_skip, ↓s_ops, ↓s_dops, ↓s_seq, ↓s_cond, ↓s_block, ↓s_exit, ↓s_ret, ↓s_scope, ↓s_nil, ↓s_op, ↓s_opg, ↓s_wanted', ↓s_wantV, s_wantV, s_wantV0, beq_true, beq_false, ↓s_bindS, s_bindS, ↓s_bindE, s_bindE, s_bindE_ret, s_bindE_exit, s_bindE_iteN, s_norm, ↓s_condV, s_condV, s_block_ret, s_block_normal, s_block_exit, s_block_iteN, ↓s_getp, ↓s_getp0, ↓s_get, s_get0, ↓s_con, ↓s_fn, ↓s_os0, ↓s_os1, ↓s_list0, ↓s_list1, ↓s_mov, ↓s_pick, ↓s_pickE, s_pickE, ↓s_bin, ↓s_un, ↓s_minmax, ↓s_call, ↓s_callv, ↓s_callV, ↓s_ext, s_same, b_eql, b_neq, b_lss, b_leq, b_gtr, b_geq, b_add, b_sub, b_mul, b_eqlb, b_neqb, b_fnil, b_fnil', b_fnil2, b_fnil2', u_neg, u_not, m_two, s_end, s_end', s_end_iteN, s_res0, s_res1, s_tup1, s_tup2, ↓iteN_true, ↓iteN_false, iteN_true, iteN_false, Nat.zero_add, List.nil_append, List.append_nil, Nat.reduceEqDiff, reduceIte, decide_true, decide_false, Bool.not_true, Bool.not_false, List.getElem?_cons_zero, List.getElem?_cons_succ, Bool.false_eq_true, if_true, if_false, beq_self_eq_true]
    exact ⟨_, rfl⟩
  · rw [decide_eq_false h0] at z0
    have a1 := fun h => W.Add h t 1 ht (by decide)
    by_cases ho : 115792089237316195423570985008687907853269984665640564039457584007913129639936 ≤ t + 1
    · rw [decide_eq_true ho] at a1
      have te : t + 1 = 115792089237316195423570985008687907853269984665640564039457584007913129639936 := by unfold M256 at ht; omega
      simp (config := {maxSteps := 1000000}) (disch := first | omega | (simp only [List.length_cons, List.length_nil, List.length_append, List.length_drop]; omega)) only [if_neg h0, n0, z0, a1, hOf, w_beqn, ↓s_box, ↓x_build, x_aggO, w_cells, w_load, w_store, w_st4, w_stW, w_write, w_write', ↓s_evD, ↓s_dnil, ↓s_dL, ↓s_dLg, ↓s_dR, ↓s_dRg, ↓s_dRj, ↓s_dRjg, ↓s_dB, ↓s_dBg, ↓s_dAlloc, ↓s_bindD, s_bindD, s_finD, s_finDx, s_addP0, s_addP1, s_addB, s_lookP, ↓s_bump0, ↓s_bump_get, s_bump_next, s_ok0, ↓s_ok1, s_okR0, ↓s_okR1, ↓s_okE, s_okE, s_okE1, s_nth0, s_nthS, Nat.add_zero, Bool.and_self, Bool.and_true, Bool.true_and, ↓l_loop, ↓l_succ, ↓l_normal, l_normal, l_exit, l_ret, l_iteN, ↓h_put_get, ↓h_new_get, ↓h_del_get, h_next_put, h_next_new, h_next_del, Nat.add_assoc, Nat.add_eq_left, Nat.left_eq_add, Nat.add_left_cancel_iff, ↓s_load, m_load, ↓m_load1, m_load1, ↓m_st, m_stE, m_storeI, m_storeE, w_succ, ↓s_alloc, ↓x_idxA, ↓x_idxS, x_idxAE, x_idxSE, x_addrE, x_idx, x_lenS, ↓s_len, ↓x_buildS, x_buildE, ↓x_P0, ↓x_P1, x_fill0, x_filli, x_fills, x_fillb, c_int, List.length_cons, List.length_nil, List.cons_append, List.drop_succ_cons, List.drop_zero, List.drop_nil, List.nil_append, Int.reduceAdd, Int.reduceToNat, Int.reduceLT, Int.reduceLE, Nat.reduceAdd, Nat.reduceMul, Nat.reduceLeDiff, Int.reduceEq, Int.reduceSub, Int.cast_ofNat_Int, s_resc, s_consR, m_load4, m_store4, s_res0, ↓s_skip, ↓s_ops, ↓s_dops, ↓s_seq, ↓s_cond, ↓s_block, ↓s_exit, ↓s_ret, ↓s_scope, ↓s_nil, ↓s_op, ↓s_opg, ↓s_wanted', ↓s_wantV, s_wantV, s_wantV0, beq_true, beq_false, ↓s_bindS, s_bindS, ↓s_bindE, s_bindE, s_bindE_ret, s_bindE_exit, s_bindE_iteN, s_norm, ↓s_condV, s_condV, s_block_ret, s_block_normal, s_block_exit, s_block_iteN, ↓s_getp, ↓s_getp0, ↓s_get, s_get0, ↓s_con, ↓s_fn, ↓s_os0, ↓s_os1, ↓s_list0, ↓s_list1, ↓s_mov, ↓s_pick, ↓s_pickE, s_pickE, ↓s_bin, ↓s_un, ↓s_minmax, ↓s_call, ↓s_callv, ↓s_callV, ↓s_ext, s_same, b_eql, b_neq, b_lss, b_leq, b_gtr, b_geq, b_add, b_sub, b_mul, b_eqlb, b_neqb, b_fnil, b_fnil', b_fnil2, b_fnil2', u_neg, u_not, m_two, s_end, s_end', s_end_iteN, s_res0, s_res1, s_tup1, s_tup2, ↓iteN_true, ↓iteN_false, iteN_true, iteN_false, Nat.zero_add, List.nil_append, List.append_nil, Nat.reduceEqDiff, reduceIte, decide_true, decide_false, Bool.not_true, Bool.not_false, List.getElem?_cons_zero, List.getElem?_cons_succ, Bool.false_eq_true, if_true, if_false, beq_self_eq_true]
      rw [te]
      exact ⟨_, rfl⟩
    · rw [decide_eq_false ho] at a1
      obtain ⟨N, eN⟩ : ∃ N, t + 1 = N := ⟨_, rfl⟩
      rw [eN] at a1
      have N0 : ¬ N = 0 := by omega
      have m1 := fun h => W.Not h t ht
      have d1 := fun h => W.Div h (115792089237316195423570985008687907853269984665640564039457584007913129639936 - 1 - t) N (by unfold M256; omega) (by unfold M256; omega)
      simp only [if_neg N0] at d1
      have wq := work_eq (x := t) (by omega)
      rw [eN] at wq
      have wl : 115792089237316195423570985008687907853269984665640564039457584007913129639936 / N < 115792089237316195423570985008687907853269984665640564039457584007913129639936 := Nat.div_lt_self (by omega) (by omega)
      obtain ⟨q, eq⟩ : ∃ q, (115792089237316195423570985008687907853269984665640564039457584007913129639936 - 1 - t) / N = q := ⟨_, rfl⟩
      rw [eq] at wq d1
      obtain ⟨s, es⟩ : ∃ s, (115792089237316195423570985008687907853269984665640564039457584007913129639936 - 1 - t) % N = s := ⟨_, rfl⟩
      rw [es] at d1
      obtain ⟨w, ew⟩ : ∃ w, 115792089237316195423570985008687907853269984665640564039457584007913129639936 / N = w := ⟨_, rfl⟩
      rw [ew] at wq wl
      have a2 := fun h => W.Add h q 1 (by unfold M256; omega) (by decide)
      rw [wq, decide_eq_false (show ¬ 115792089237316195423570985008687907853269984665640564039457584007913129639936 ≤ w by omega)] at a2
      rw [eN, ew]
      simp (config := {maxSteps := 1000000}) (disch := first | omega | (simp only [List.length_cons, List.length_nil, List.length_append, List.length_drop]; omega)) only [if_neg h0, n0, z0, a1, a2, m1, d1, hOf, w_beqn, ↓s_box, ↓x_build, x_aggO, w_cells, w_load, w_store, w_st4, w_stW, w_write, w_write', ↓s_evD, ↓s_dnil, ↓s_dL, ↓s_dLg, ↓s_dR, ↓s_dRg, ↓s_dRj, ↓s_dRjg, ↓s_dB, ↓s_dBg, ↓s_dAlloc, ↓s_bindD, s_bindD, s_finD, s_finDx, s_addP0, s_addP1, s_addB, s_lookP, ↓s_bump0, ↓s_bump_get, s_bump_next, s_ok0, ↓s_ok1, s_okR0, ↓s_okR1, ↓s_okE, s_okE, s_okE1, s_nth0, s_nthS, Nat.add_zero, Bool.and_self, Bool.and_true, Bool.true_and, ↓l_loop, ↓l_succ, ↓l_normal, l_normal, l_exit, l_ret, l_iteN, ↓h_put_get, ↓h_new_get, ↓h_del_get, h_next_put, h_next_new, h_next_del, Nat.add_assoc, Nat.add_eq_left, Nat.left_eq_add, Nat.add_left_cancel_iff, ↓s_load, m_load, ↓m_load1, m_load1, ↓m_st, m_stE, m_storeI, m_storeE, w_succ, ↓s_alloc, ↓x_idxA, ↓x_idxS, x_idxAE, x_idxSE, x_addrE, x_idx, x_lenS, ↓s_len, ↓x_buildS, x_buildE, ↓x_P0, ↓x_P1, x_fill0, x_filli, x_fills, x_fillb, c_int, List.length_cons, List.length_nil, List.cons_append, List.drop_succ_cons, List.drop_zero, List.drop_nil, List.nil_append, Int.reduceAdd, Int.reduceToNat, Int.reduceLT, Int.reduceLE, Nat.reduceAdd, Nat.reduceMul, Nat.reduceLeDiff, Int.reduceEq, Int.reduceSub, Int.cast_ofNat_Int, s_resc, s_consR, m_load4, m_store4, s_res0, ↓s_skip, ↓s_ops, ↓s_dops, ↓s_seq, ↓s_cond, ↓s_block, ↓s_exit, ↓s_ret, ↓s_scope, ↓s_nil, ↓s_op, ↓s_opg, ↓s_wanted', ↓s_wantV, s_wantV, s_wantV0, beq_true, beq_false, ↓s_bindS, s_bindS, ↓s_bindE, s_bindE, s_bindE_ret, s_bindE_exit, s_bindE_iteN, s_norm, ↓s_condV, s_condV, s_block_ret, s_block_normal, s_block_exit, s_block_iteN, ↓s_getp, ↓s_getp0, ↓s_get, s_get0, ↓s_con, ↓s_fn, ↓s_os0, ↓s_os1, ↓s_list0, ↓s_list1, ↓s_mov, ↓s_pick, ↓s_pickE, s_pickE, ↓s_bin, ↓s_un, ↓s_minmax, ↓s_call, ↓s_callv, ↓s_callV, ↓s_ext, s_same, b_eql, b_neq, b_lss, b_leq, b_gtr, b_geq, b_add, b_sub, b_mul, b_eqlb, b_neqb, b_fnil, b_fnil', b_fnil2, b_fnil2', u_neg, u_not, m_two, s_end, s_end', s_end_iteN, s_res0, s_res1, s_tup1, s_tup2, ↓iteN_true, ↓iteN_false, iteN_true, iteN_false, Nat.zero_add, List.nil_append, List.append_nil, Nat.reduceEqDiff, reduceIte, decide_true, decide_false, Bool.not_true, Bool.not_false, List.getElem?_cons_zero, List.getElem?_cons_succ, Bool.false_eq_true, if_true, if_false, beq_self_eq_true]
      exact ⟨_, rfl⟩
def tgtX : Orc := orX (pureX k_target_Work (w1 kWork)) wideXD
theorem tgtX_ok (hE : Link P g E) (F : WideFE E) (e : E k_target_Work = some f_target_Work) : QOk P g tgtX := by
  refine orX_ok (pureX_ok (callX_ok hE (wideXD_ok hE F) 2) (w1_ok (fun x => by rw [kWork_eq]; split <;> simp only [dataV, datas, dataV_Wd, Bool.and_self]) fun x hx => ?_)) (wideXD_ok hE F)
  exact sp_Work (n := 0) XW_base e (fun args h => XD_no h args rfl rfl) x hx
theorem tgtX_Work (h : H) {x : Nat} (hx : x < M256) : tgtX (.fn k_target_Work) [Wd x] h = some (if x = 0 then .tup [Wd 0, .int .i64 50] else .tup [Wd (115792089237316195423570985008687907853269984665640564039457584007913129639936 / (x + 1)), .int .i64 0], h) := by
  rw [← kWork_eq]; exact orX_l (pureX_yes h (w1_Wd kWork hx))
end Go.Eng
namespace Go.Eng
open Go
variable {E : Nat → Option Fn} {P : Program} {g : Gn}
set_option linter.unusedSimpArgs false
set_option linter.unusedVariables false
theorem div_anti {M a b : Nat} (h : a ≤ b) (ha : 0 < a) : M / b ≤ M / a := Nat.div_le_div_left h ha
def lawT (k : Nat) : Orc := orX (pureX k aliveS) tgtX
theorem XW_lawT {k : Nat} (h1 : offW k = false) (h2 : offW k_target_Work = false) : XW (lawT k) := XW_push (XW_push XW_base h2) h1
theorem lawT_Work {k : Nat} (hk : Nat.beq k_target_Work k = false) (h : H) {x : Nat} (hx : x < M256) : lawT k (.fn k_target_Work) [Wd x] h = some (if x = 0 then .tup [Wd 0, .int .i64 50] else .tup [Wd (115792089237316195423570985008687907853269984665640564039457584007913129639936 / (x + 1)), .int .i64 0], h) := (orX_r (pureX_no h hk)).trans (tgtX_Work h hx)
theorem lawT_no {k f : Nat} (args : List V) (h : H) (h0 : Nat.beq f k = false) (h1 : Nat.beq f k_target_Work = false) (h2 : Nat.beq f k_wide_Div = false) (h3 : (Nat.beq f k_wide_Add || (Nat.beq f k_wide_Sub || (Nat.beq f k_wide_Not || (Nat.beq f k_wide_Of || (Nat.beq f k_wide_Compare || (Nat.beq f k_wide_Mul || (Nat.beq f k_wide_Left || (Nat.beq f k_wide_Right || Nat.beq f k_wide_Len)))))))) = false) : lawT k (.fn f) args h = none :=
  (orX_r (pureX_no h h0)).trans ((orX_r (pureX_no h h1)).trans (XD_no h args h2 h3))
theorem b_eqb (h : H) (a b : Bool) : binV .eql .bool h (.bool a) (.bool b) = some (.bool (a == b)) := b_eqlb h a b
set_option maxHeartbeats 16000000 in
set_option maxRecDepth 20000 in
theorem law_TargetWork (n : Nat) (e : E k_purserlaw05_TargetWork = some f_purserlaw05_TargetWork) (hk : offW k_purserlaw05_alive = false) (hk2 : offW k_target_Work = false) (hk3 : Nat.beq k_target_Work k_purserlaw05_alive = false) (hx : ∀ args h, lawT k_purserlaw05_alive (.fn k_purserlaw05_TargetWork) args h = none) (t u : Nat) (ht : t < M256) (hu : u < M256) :
    ∃ h2, callX E (lawT k_purserlaw05_alive) (n + 2) (.fn k_purserlaw05_TargetWork) [Wd t, Wd u] (mkH [] 0) = some (.bool true, h2) := by
  rw [x_cfn e _ _ (Nat.le_of_ble_eq_true rfl) (hx _ _)]
  have W : WQ (callX E (lawT k_purserlaw05_alive) (n + 1)) := WQ_of (XW_lawT hk hk2)
  have hal : ∀ h, callX E (lawT k_purserlaw05_alive) (n + 1) (.fn k_purserlaw05_alive) [] h = some (.bool true, h) := fun h => x_known (orX_l (pureX_yes h rfl))
  have n0 : (mkH [] 0).next = 0 := rfl
  have MM : M256 = 115792089237316195423570985008687907853269984665640564039457584007913129639936 := rfl
  have hOf : ∀ h, callX E (lawT k_purserlaw05_alive) (n + 1) (.fn k_wide_Of) [.int .u64 1] h = some (Wd 1, h) := fun h => W.Of h 1
  have wt := fun h => x_known (E := E) (n := n) (lawT_Work hk3 h ht)
  have wu := fun h => x_known (E := E) (n := n) (lawT_Work hk3 h hu)
  have zt := fun h => b_neW0 h t ht
  have zu := fun h => b_neW0 h u hu
  by_cases t0 : t = 0
  · rw [decide_eq_true t0] at zt
    simp only [if_pos t0] at wt
    by_cases u0 : u = 0
    · rw [decide_eq_true u0] at zu
      simp only [if_pos u0] at wu
      simp (config := {maxSteps := 1000000}) (disch := first | omega | (simp only [List.length_cons, List.length_nil, List.length_append, List.length_drop]; omega)) only [n0, hal, wt, wu, zt, zu, ↓s_box, ↓x_build, x_aggO, w_cells, w_load, w_store, w_st4, w_stW, w_write, w_write', ↓s_evD, ↓s_dnil, ↓s_dL, ↓s_dLg, ↓s_dR, ↓s_dRg, ↓s_dRj, ↓s_dRjg, ↓s_dB, ↓s_dBg, ↓s_dAlloc, ↓s_bindD, s_bindD, s_finD, s_finDx, s_addP0, s_addP1, s_addB, s_lookP, ↓s_bump0, ↓s_bump_get, s_bump_next, s_ok0, ↓s_ok1, s_okR0, ↓s_okR1, ↓s_okE, s_okE, s_okE1, s_nth0, s_nthS, Nat.add_zero, Bool.and_self, Bool.and_true, Bool.true_and, ↓l_loop, ↓l_succ, ↓l_normal, l_normal, l_exit, l_ret, l_iteN, ↓h_put_get, ↓h_new_get, ↓h_del_get, h_next_put, h_next_new, h_next_del, Nat.add_assoc, Nat.add_eq_left, Nat.left_eq_add, Nat.add_left_cancel_iff, ↓s_load, m_load, ↓m_load1, m_load1, ↓m_st, m_stE, m_storeI, m_storeE, w_succ, ↓s_alloc, ↓x_idxA, ↓x_idxS, x_idxAE, x_idxSE, x_addrE, x_idx, x_lenS, ↓s_len, ↓x_buildS, x_buildE, ↓x_P0, ↓x_P1, x_fill0, x_filli, x_fills, x_fillb, c_int, List.length_cons, List.length_nil, List.cons_append, List.drop_succ_cons, List.drop_zero, List.drop_nil, List.nil_append, Int.reduceAdd, Int.reduceToNat, Int.reduceLT, Int.reduceLE, Nat.reduceAdd, Nat.reduceMul, Nat.reduceLeDiff, Int.reduceEq, Int.reduceSub, Int.cast_ofNat_Int, s_resc, s_consR, m_load4, m_store4, s_res0, ↓s_skip, ↓s_ops, ↓s_dops, ↓s_seq, ↓s_cond, ↓s_block, ↓s_exit, ↓s_ret, ↓s_scope, ↓s_nil, ↓s_op, ↓s_opg, ↓s_wanted', ↓s_wantV, s_wantV, s_wantV0, beq_true, beq_false, ↓s_bindS, s_bindS, ↓s_bindE, s_bindE, s_bindE_ret, s_bindE_exit, s_bindE_iteN, s_norm, ↓s_condV, s_condV, s_block_ret, s_block_normal, s_block_exit, s_block_iteN, ↓s_getp, ↓s_getp0, ↓s_get, s_get0, ↓s_con, ↓s_fn, ↓s_os0, ↓s_os1, ↓s_list0, ↓s_list1, ↓s_mov, ↓s_pick, ↓s_pickE, s_pickE, ↓s_bin, ↓s_un, ↓s_minmax, ↓s_call, ↓s_callv, ↓s_callV, ↓s_ext, s_same, b_eql, b_neq, b_lss, b_leq, b_gtr, b_geq, b_add, b_sub, b_mul, b_eqlb, b_neqb, b_fnil, b_fnil', b_fnil2, b_fnil2', u_neg, u_not, m_two, s_end, s_end', s_end_iteN, s_res0, s_res1, s_tup1, s_tup2, ↓iteN_true, ↓iteN_false, iteN_true, iteN_false, Nat.zero_add, List.nil_append, List.append_nil, Nat.reduceEqDiff, reduceIte, decide_true, decide_false, Bool.not_true, Bool.not_false, List.getElem?_cons_zero, List.getElem?_cons_succ, Bool.false_eq_true, if_true, if_false, beq_self_eq_true]
      exact ⟨_, rfl⟩
    · rw [decide_eq_false u0] at zu
      simp only [if_neg u0] at wu
      simp (config := {maxSteps := 1000000}) (disch := first | omega | (simp only [List.length_cons, List.length_nil, List.length_append, List.length_drop]; omega)) only [n0, hal, wt, wu, zt, zu, ↓s_box, ↓x_build, x_aggO, w_cells, w_load, w_store, w_st4, w_stW, w_write, w_write', ↓s_evD, ↓s_dnil, ↓s_dL, ↓s_dLg, ↓s_dR, ↓s_dRg, ↓s_dRj, ↓s_dRjg, ↓s_dB, ↓s_dBg, ↓s_dAlloc, ↓s_bindD, s_bindD, s_finD, s_finDx, s_addP0, s_addP1, s_addB, s_lookP, ↓s_bump0, ↓s_bump_get, s_bump_next, s_ok0, ↓s_ok1, s_okR0, ↓s_okR1, ↓s_okE, s_okE, s_okE1, s_nth0, s_nthS, Nat.add_zero, Bool.and_self, Bool.and_true, Bool.true_and, ↓l_loop, ↓l_succ, ↓l_normal, l_normal, l_exit, l_ret, l_iteN, ↓h_put_get, ↓h_new_get, ↓h_del_get, h_next_put, h_next_new, h_next_del, Nat.add_assoc, Nat.add_eq_left, Nat.left_eq_add, Nat.add_left_cancel_iff, ↓s_load, m_load, ↓m_load1, m_load1, ↓m_st, m_stE, m_storeI, m_storeE, w_succ, ↓s_alloc, ↓x_idxA, ↓x_idxS, x_idxAE, x_idxSE, x_addrE, x_idx, x_lenS, ↓s_len, ↓x_buildS, x_buildE, ↓x_P0, ↓x_P1, x_fill0, x_filli, x_fills, x_fillb, c_int, List.length_cons, List.length_nil, List.cons_append, List.drop_succ_cons, List.drop_zero, List.drop_nil, List.nil_append, Int.reduceAdd, Int.reduceToNat, Int.reduceLT, Int.reduceLE, Nat.reduceAdd, Nat.reduceMul, Nat.reduceLeDiff, Int.reduceEq, Int.reduceSub, Int.cast_ofNat_Int, s_resc, s_consR, m_load4, m_store4, s_res0, ↓s_skip, ↓s_ops, ↓s_dops, ↓s_seq, ↓s_cond, ↓s_block, ↓s_exit, ↓s_ret, ↓s_scope, ↓s_nil, ↓s_op, ↓s_opg, ↓s_wanted', ↓s_wantV, s_wantV, s_wantV0, beq_true, beq_false, ↓s_bindS, s_bindS, ↓s_bindE, s_bindE, s_bindE_ret, s_bindE_exit, s_bindE_iteN, s_norm, ↓s_condV, s_condV, s_block_ret, s_block_normal, s_block_exit, s_block_iteN, ↓s_getp, ↓s_getp0, ↓s_get, s_get0, ↓s_con, ↓s_fn, ↓s_os0, ↓s_os1, ↓s_list0, ↓s_list1, ↓s_mov, ↓s_pick, ↓s_pickE, s_pickE, ↓s_bin, ↓s_un, ↓s_minmax, ↓s_call, ↓s_callv, ↓s_callV, ↓s_ext, s_same, b_eql, b_neq, b_lss, b_leq, b_gtr, b_geq, b_add, b_sub, b_mul, b_eqlb, b_neqb, b_fnil, b_fnil', b_fnil2, b_fnil2', u_neg, u_not, m_two, s_end, s_end', s_end_iteN, s_res0, s_res1, s_tup1, s_tup2, ↓iteN_true, ↓iteN_false, iteN_true, iteN_false, Nat.zero_add, List.nil_append, List.append_nil, Nat.reduceEqDiff, reduceIte, decide_true, decide_false, Bool.not_true, Bool.not_false, List.getElem?_cons_zero, List.getElem?_cons_succ, Bool.false_eq_true, if_true, if_false, beq_self_eq_true]
      exact ⟨_, rfl⟩
  · rw [decide_eq_false t0] at zt
    simp only [if_neg t0] at wt
    by_cases u0 : u = 0
    · rw [decide_eq_true u0] at zu
      simp only [if_pos u0] at wu
      simp (config := {maxSteps := 1000000}) (disch := first | omega | (simp only [List.length_cons, List.length_nil, List.length_append, List.length_drop]; omega)) only [n0, hal, wt, wu, zt, zu, ↓s_box, ↓x_build, x_aggO, w_cells, w_load, w_store, w_st4, w_stW, w_write, w_write', ↓s_evD, ↓s_dnil, ↓s_dL, ↓s_dLg, ↓s_dR, ↓s_dRg, ↓s_dRj, ↓s_dRjg, ↓s_dB, ↓s_dBg, ↓s_dAlloc, ↓s_bindD, s_bindD, s_finD, s_finDx, s_addP0, s_addP1, s_addB, s_lookP, ↓s_bump0, ↓s_bump_get, s_bump_next, s_ok0, ↓s_ok1, s_okR0, ↓s_okR1, ↓s_okE, s_okE, s_okE1, s_nth0, s_nthS, Nat.add_zero, Bool.and_self, Bool.and_true, Bool.true_and, ↓l_loop, ↓l_succ, ↓l_normal, l_normal, l_exit, l_ret, l_iteN, ↓h_put_get, ↓h_new_get, ↓h_del_get, h_next_put, h_next_new, h_next_del, Nat.add_assoc, Nat.add_eq_left, Nat.left_eq_add, Nat.add_left_cancel_iff, ↓s_load, m_load, ↓m_load1, m_load1, ↓m_st, m_stE, m_storeI, m_storeE, w_succ, ↓s_alloc, ↓x_idxA, ↓x_idxS, x_idxAE, x_idxSE, x_addrE, x_idx, x_lenS, ↓s_len, ↓x_buildS, x_buildE, ↓x_P0, ↓x_P1, x_fill0, x_filli, x_fills, x_fillb, c_int, List.length_cons, List.length_nil, List.cons_append, List.drop_succ_cons, List.drop_zero, List.drop_nil, List.nil_append, Int.reduceAdd, Int.reduceToNat, Int.reduceLT, Int.reduceLE, Nat.reduceAdd, Nat.reduceMul, Nat.reduceLeDiff, Int.reduceEq, Int.reduceSub, Int.cast_ofNat_Int, s_resc, s_consR, m_load4, m_store4, s_res0, ↓s_skip, ↓s_ops, ↓s_dops, ↓s_seq, ↓s_cond, ↓s_block, ↓s_exit, ↓s_ret, ↓s_scope, ↓s_nil, ↓s_op, ↓s_opg, ↓s_wanted', ↓s_wantV, s_wantV, s_wantV0, beq_true, beq_false, ↓s_bindS, s_bindS, ↓s_bindE, s_bindE, s_bindE_ret, s_bindE_exit, s_bindE_iteN, s_norm, ↓s_condV, s_condV, s_block_ret, s_block_normal, s_block_exit, s_block_iteN, ↓s_getp, ↓s_getp0, ↓s_get, s_get0, ↓s_con, ↓s_fn, ↓s_os0, ↓s_os1, ↓s_list0, ↓s_list1, ↓s_mov, ↓s_pick, ↓s_pickE, s_pickE, ↓s_bin, ↓s_un, ↓s_minmax, ↓s_call, ↓s_callv, ↓s_callV, ↓s_ext, s_same, b_eql, b_neq, b_lss, b_leq, b_gtr, b_geq, b_add, b_sub, b_mul, b_eqlb, b_neqb, b_fnil, b_fnil', b_fnil2, b_fnil2', u_neg, u_not, m_two, s_end, s_end', s_end_iteN, s_res0, s_res1, s_tup1, s_tup2, ↓iteN_true, ↓iteN_false, iteN_true, iteN_false, Nat.zero_add, List.nil_append, List.append_nil, Nat.reduceEqDiff, reduceIte, decide_true, decide_false, Bool.not_true, Bool.not_false, List.getElem?_cons_zero, List.getElem?_cons_succ, Bool.false_eq_true, if_true, if_false, beq_self_eq_true]
      exact ⟨_, rfl⟩
    · rw [decide_eq_false u0] at zu
      simp only [if_neg u0] at wu
      obtain ⟨N, eN⟩ : ∃ N, t + 1 = N := ⟨_, rfl⟩
      obtain ⟨w, ew⟩ : ∃ w, 115792089237316195423570985008687907853269984665640564039457584007913129639936 / (t + 1) = w := ⟨_, rfl⟩
      obtain ⟨v, ev⟩ : ∃ v, 115792089237316195423570985008687907853269984665640564039457584007913129639936 / (u + 1) = v := ⟨_, rfl⟩
      have wl : w < M256 := by rw [← ew]; exact Nat.div_lt_self (by omega) (by omega)
      have vl : v < M256 := by rw [← ev]; exact Nat.div_lt_self (by omega) (by omega)
      have tu1 : t ≤ u → v ≤ w := fun h => by rw [← ew, ← ev]; exact div_anti (by omega) (by omega)
      have tu2 : u ≤ t → w ≤ v := fun h => by rw [← ew, ← ev]; exact div_anti (by omega) (by omega)
      rw [ew] at wt
      rw [ev] at wu
      have c1 := fun h => W.Cmp h t u ht hu
      have c2 := fun h => W.Cmp h w v wl vl
      obtain ⟨p, ep⟩ : ∃ p, cmpW t u = p := ⟨_, rfl⟩
      obtain ⟨q, eq⟩ : ∃ q, cmpW w v = q := ⟨_, rfl⟩
      rw [ep] at c1
      rw [eq] at c2
      have pq : (p < 0 ∧ 0 ≤ q) ∨ (p = 0 ∧ q = 0) ∨ (0 < p ∧ q ≤ 0) := by
        rw [← ep, ← eq]
        rcases Nat.lt_trichotomy t u with h | h | h
        · left
          have := tu1 (by omega)
          unfold cmpW
          rw [if_neg (by omega), if_pos h]
          refine ⟨by omega, ?_⟩
          split
          · omega
          · rw [if_neg (by omega)]; omega
        · right; left
          have := tu1 (by omega)
          have := tu2 (by omega)
          unfold cmpW
          rw [if_pos h, if_pos (by omega)]; exact ⟨rfl, rfl⟩
        · right; right
          have := tu2 (by omega)
          refine ⟨?_, cmp_le this⟩
          unfold cmpW
          rw [if_neg (by omega), if_neg (by omega)]; omega
      have a1 := fun h => W.Add h t 1 ht (by decide)
      rw [eN] at a1
      have eq1 : ∀ h, binV .eql (.flat [.i, .i, .i, .i]) h (Wd 1) (Wd 1) = some (.bool true) := fun h => by rw [b_eqW h 1 1 (by decide) (by decide)]; rfl
      have ne1 : ∀ h, binV .neq (.flat [.i, .i, .i, .i]) h (Wd 1) (Wd 1) = some (.bool false) := fun h => by rw [b_neW h 1 1 (by decide) (by decide)]; rfl
      have e00 : ∀ h, binV .eql (.flat [.i, .i, .i, .i]) h (Wd 0) (.agg [.int .u64 0, .int .u64 0, .int .u64 0, .int .u64 0]) = some (.bool true) := fun h => by rw [b_eqW0 h 0 (by decide)]; rfl
      have e10 : ∀ h, binV .eql (.flat [.i, .i, .i, .i]) h (Wd 1) (.agg [.int .u64 0, .int .u64 0, .int .u64 0, .int .u64 0]) = some (.bool false) := fun h => by rw [b_eqW0 h 1 (by decide)]; rfl
      have n10 : ∀ h, binV .neq (.flat [.i, .i, .i, .i]) h (Wd 1) (.agg [.int .u64 0, .int .u64 0, .int .u64 0, .int .u64 0]) = some (.bool true) := fun h => by rw [b_neW0 h 1 (by decide)]; rfl
      by_cases ho : 115792089237316195423570985008687907853269984665640564039457584007913129639936 ≤ N
      · rw [decide_eq_true ho] at a1
        have w1 : w = 1 := by rw [← ew, show t + 1 = 115792089237316195423570985008687907853269984665640564039457584007913129639936 from by omega]
        subst w1
        rcases pq with ⟨x1, x2⟩ | ⟨x1, x2⟩ | ⟨x1, x2⟩
        · have y1 : decide (p ≤ 0) = true := decide_eq_true (by omega)
          have y2 : decide (q < 0) = false := decide_eq_false (by omega)
          have y3 : decide (0 ≤ p) = false := decide_eq_false (by omega)
          simp (config := {maxSteps := 1000000}) (disch := first | omega | (simp only [List.length_cons, List.length_nil, List.length_append, List.length_drop]; omega)) only [n0, hal, wt, wu, zt, zu, c1, c2, a1, hOf, eq1, y1, y2, y3, w_beqn, ↓s_box, ↓x_build, x_aggO, w_cells, w_load, w_store, w_st4, w_stW, w_write, w_write', ↓s_evD, ↓s_dnil, ↓s_dL, ↓s_dLg, ↓s_dR, ↓s_dRg, ↓s_dRj, ↓s_dRjg, ↓s_dB, ↓s_dBg, ↓s_dAlloc, ↓s_bindD, s_bindD, s_finD, s_finDx, s_addP0, s_addP1, s_addB, s_lookP, ↓s_bump0, ↓s_bump_get, s_bump_next, s_ok0, ↓s_ok1, s_okR0, ↓s_okR1, ↓s_okE, s_okE, s_okE1, s_nth0, s_nthS, Nat.add_zero, Bool.and_self, Bool.and_true, Bool.true_and, ↓l_loop, ↓l_succ, ↓l_normal, l_normal, l_exit, l_ret, l_iteN, ↓h_put_get, ↓h_new_get, ↓h_del_get, h_next_put, h_next_new, h_next_del, Nat.add_assoc, Nat.add_eq_left, Nat.left_eq_add, Nat.add_left_cancel_iff, ↓s_load, m_load, ↓m_load1, m_load1, ↓m_st, m_stE, m_storeI, m_storeE, w_succ, ↓s_alloc, ↓x_idxA, ↓x_idxS, x_idxAE, x_idxSE, x_addrE, x_idx, x_lenS, ↓s_len, ↓x_buildS, x_buildE, ↓x_P0, ↓x_P1, x_fill0, x_filli, x_fills, x_fillb, c_int, List.length_cons, List.length_nil, List.cons_append, List.drop_succ_cons, List.drop_zero, List.drop_nil, List.nil_append, Int.reduceAdd, Int.reduceToNat, Int.reduceLT, Int.reduceLE, Nat.reduceAdd, Nat.reduceMul, Nat.reduceLeDiff, Int.reduceEq, Int.reduceSub, Int.cast_ofNat_Int, s_resc, s_consR, m_load4, m_store4, s_res0, ↓s_skip, ↓s_ops, ↓s_dops, ↓s_seq, ↓s_cond, ↓s_block, ↓s_exit, ↓s_ret, ↓s_scope, ↓s_nil, ↓s_op, ↓s_opg, ↓s_wanted', ↓s_wantV, s_wantV, s_wantV0, beq_true, beq_false, ↓s_bindS, s_bindS, ↓s_bindE, s_bindE, s_bindE_ret, s_bindE_exit, s_bindE_iteN, s_norm, ↓s_condV, s_condV, s_block_ret, s_block_normal, s_block_exit, s_block_iteN, ↓s_getp, ↓s_getp0, ↓s_get, s_get0, ↓s_con, ↓s_fn, ↓s_os0, ↓s_os1, ↓s_list0, ↓s_list1, ↓s_mov, ↓s_pick, ↓s_pickE, s_pickE, ↓s_bin, ↓s_un, ↓s_minmax, ↓s_call, ↓s_callv, ↓s_callV, ↓s_ext, s_same, b_eql, b_neq, b_lss, b_leq, b_gtr, b_geq, b_add, b_sub, b_mul, b_eqlb, b_neqb, b_fnil, b_fnil', b_fnil2, b_fnil2', u_neg, u_not, m_two, s_end, s_end', s_end_iteN, s_res0, s_res1, s_tup1, s_tup2, ↓iteN_true, ↓iteN_false, iteN_true, iteN_false, Nat.zero_add, List.nil_append, List.append_nil, Nat.reduceEqDiff, reduceIte, decide_true, decide_false, Bool.not_true, Bool.not_false, List.getElem?_cons_zero, List.getElem?_cons_succ, Bool.false_eq_true, if_true, if_false, beq_self_eq_true]
          exact ⟨_, rfl⟩
        · subst x1; subst x2
          simp (config := {maxSteps := 1000000}) (disch := first | omega | (simp only [List.length_cons, List.length_nil, List.length_append, List.length_drop]; omega)) only [n0, hal, wt, wu, zt, zu, c1, c2, a1, hOf, eq1, w_beqn, ↓s_box, ↓x_build, x_aggO, w_cells, w_load, w_store, w_st4, w_stW, w_write, w_write', ↓s_evD, ↓s_dnil, ↓s_dL, ↓s_dLg, ↓s_dR, ↓s_dRg, ↓s_dRj, ↓s_dRjg, ↓s_dB, ↓s_dBg, ↓s_dAlloc, ↓s_bindD, s_bindD, s_finD, s_finDx, s_addP0, s_addP1, s_addB, s_lookP, ↓s_bump0, ↓s_bump_get, s_bump_next, s_ok0, ↓s_ok1, s_okR0, ↓s_okR1, ↓s_okE, s_okE, s_okE1, s_nth0, s_nthS, Nat.add_zero, Bool.and_self, Bool.and_true, Bool.true_and, ↓l_loop, ↓l_succ, ↓l_normal, l_normal, l_exit, l_ret, l_iteN, ↓h_put_get, ↓h_new_get, ↓h_del_get, h_next_put, h_next_new, h_next_del, Nat.add_assoc, Nat.add_eq_left, Nat.left_eq_add, Nat.add_left_cancel_iff, ↓s_load, m_load, ↓m_load1, m_load1, ↓m_st, m_stE, m_storeI, m_storeE, w_succ, ↓s_alloc, ↓x_idxA, ↓x_idxS, x_idxAE, x_idxSE, x_addrE, x_idx, x_lenS, ↓s_len, ↓x_buildS, x_buildE, ↓x_P0, ↓x_P1, x_fill0, x_filli, x_fills, x_fillb, c_int, List.length_cons, List.length_nil, List.cons_append, List.drop_succ_cons, List.drop_zero, List.drop_nil, List.nil_append, Int.reduceAdd, Int.reduceToNat, Int.reduceLT, Int.reduceLE, Nat.reduceAdd, Nat.reduceMul, Nat.reduceLeDiff, Int.reduceEq, Int.reduceSub, Int.cast_ofNat_Int, s_resc, s_consR, m_load4, m_store4, s_res0, ↓s_skip, ↓s_ops, ↓s_dops, ↓s_seq, ↓s_cond, ↓s_block, ↓s_exit, ↓s_ret, ↓s_scope, ↓s_nil, ↓s_op, ↓s_opg, ↓s_wanted', ↓s_wantV, s_wantV, s_wantV0, beq_true, beq_false, ↓s_bindS, s_bindS, ↓s_bindE, s_bindE, s_bindE_ret, s_bindE_exit, s_bindE_iteN, s_norm, ↓s_condV, s_condV, s_block_ret, s_block_normal, s_block_exit, s_block_iteN, ↓s_getp, ↓s_getp0, ↓s_get, s_get0, ↓s_con, ↓s_fn, ↓s_os0, ↓s_os1, ↓s_list0, ↓s_list1, ↓s_mov, ↓s_pick, ↓s_pickE, s_pickE, ↓s_bin, ↓s_un, ↓s_minmax, ↓s_call, ↓s_callv, ↓s_callV, ↓s_ext, s_same, b_eql, b_neq, b_lss, b_leq, b_gtr, b_geq, b_add, b_sub, b_mul, b_eqlb, b_neqb, b_fnil, b_fnil', b_fnil2, b_fnil2', u_neg, u_not, m_two, s_end, s_end', s_end_iteN, s_res0, s_res1, s_tup1, s_tup2, ↓iteN_true, ↓iteN_false, iteN_true, iteN_false, Nat.zero_add, List.nil_append, List.append_nil, Nat.reduceEqDiff, reduceIte, decide_true, decide_false, Bool.not_true, Bool.not_false, List.getElem?_cons_zero, List.getElem?_cons_succ, Bool.false_eq_true, if_true, if_false, beq_self_eq_true]
          exact ⟨_, rfl⟩
        · have y1 : decide (p ≤ 0) = false := decide_eq_false (by omega)
          have y2 : decide (0 < q) = false := decide_eq_false (by omega)
          have y3 : decide (0 ≤ p) = true := decide_eq_true (by omega)
          simp (config := {maxSteps := 1000000}) (disch := first | omega | (simp only [List.length_cons, List.length_nil, List.length_append, List.length_drop]; omega)) only [n0, hal, wt, wu, zt, zu, c1, c2, a1, hOf, eq1, y1, y2, y3, w_beqn, ↓s_box, ↓x_build, x_aggO, w_cells, w_load, w_store, w_st4, w_stW, w_write, w_write', ↓s_evD, ↓s_dnil, ↓s_dL, ↓s_dLg, ↓s_dR, ↓s_dRg, ↓s_dRj, ↓s_dRjg, ↓s_dB, ↓s_dBg, ↓s_dAlloc, ↓s_bindD, s_bindD, s_finD, s_finDx, s_addP0, s_addP1, s_addB, s_lookP, ↓s_bump0, ↓s_bump_get, s_bump_next, s_ok0, ↓s_ok1, s_okR0, ↓s_okR1, ↓s_okE, s_okE, s_okE1, s_nth0, s_nthS, Nat.add_zero, Bool.and_self, Bool.and_true, Bool.true_and, ↓l_loop, ↓l_succ, ↓l_normal, l_normal, l_exit, l_ret, l_iteN, ↓h_put_get, ↓h_new_get, ↓h_del_get, h_next_put, h_next_new, h_next_del, Nat.add_assoc, Nat.add_eq_left, Nat.left_eq_add, Nat.add_left_cancel_iff, ↓s_load, m_load, ↓m_load1, m_load1, ↓m_st, m_stE, m_storeI, m_storeE, w_succ, ↓s_alloc, ↓x_idxA, ↓x_idxS, x_idxAE, x_idxSE, x_addrE, x_idx, x_lenS, ↓s_len, ↓x_buildS, x_buildE, ↓x_P0, ↓x_P1, x_fill0, x_filli, x_fills, x_fillb, c_int, List.length_cons, List.length_nil, List.cons_append, List.drop_succ_cons, List.drop_zero, List.drop_nil, List.nil_append, Int.reduceAdd, Int.reduceToNat, Int.reduceLT, Int.reduceLE, Nat.reduceAdd, Nat.reduceMul, Nat.reduceLeDiff, Int.reduceEq, Int.reduceSub, Int.cast_ofNat_Int, s_resc, s_consR, m_load4, m_store4, s_res0, ↓s_skip, ↓s_ops, ↓s_dops, ↓s_seq, ↓s_cond, ↓s_block, ↓s_exit, ↓s_ret, ↓s_scope, ↓s_nil, ↓s_op, ↓s_opg, ↓s_wanted', ↓s_wantV, s_wantV, s_wantV0, beq_true, beq_false, ↓s_bindS, s_bindS, ↓s_bindE, s_bindE, s_bindE_ret, s_bindE_exit, s_bindE_iteN, s_norm, ↓s_condV, s_condV, s_block_ret, s_block_normal, s_block_exit, s_block_iteN, ↓s_getp, ↓s_getp0, ↓s_get, s_get0, ↓s_con, ↓s_fn, ↓s_os0, ↓s_os1, ↓s_list0, ↓s_list1, ↓s_mov, ↓s_pick, ↓s_pickE, s_pickE, ↓s_bin, ↓s_un, ↓s_minmax, ↓s_call, ↓s_callv, ↓s_callV, ↓s_ext, s_same, b_eql, b_neq, b_lss, b_leq, b_gtr, b_geq, b_add, b_sub, b_mul, b_eqlb, b_neqb, b_fnil, b_fnil', b_fnil2, b_fnil2', u_neg, u_not, m_two, s_end, s_end', s_end_iteN, s_res0, s_res1, s_tup1, s_tup2, ↓iteN_true, ↓iteN_false, iteN_true, iteN_false, Nat.zero_add, List.nil_append, List.append_nil, Nat.reduceEqDiff, reduceIte, decide_true, decide_false, Bool.not_true, Bool.not_false, List.getElem?_cons_zero, List.getElem?_cons_succ, Bool.false_eq_true, if_true, if_false, beq_self_eq_true]
          exact ⟨_, rfl⟩
      · rw [decide_eq_false ho] at a1
        have Nl : N < M256 := by omega
        rw [eN] at ew
        have dm := Nat.div_add_mod 115792089237316195423570985008687907853269984665640564039457584007913129639936 N
        rw [ew] at dm
        have ml : 115792089237316195423570985008687907853269984665640564039457584007913129639936 % N < N := Nat.mod_lt _ (by omega)
        obtain ⟨r, er⟩ : ∃ r, 115792089237316195423570985008687907853269984665640564039457584007913129639936 % N = r := ⟨_, rfl⟩
        rw [er] at dm ml
        have m1 := fun h => W.Mul h w N wl Nl
        rw [Nat.mul_comm] at dm
        obtain ⟨f, ef⟩ : ∃ f, w * N = f := ⟨_, rfl⟩
        rw [ef] at dm m1
        by_cases hr : r = 0
        · -- the product is 2^256
          have fM : f = 115792089237316195423570985008687907853269984665640564039457584007913129639936 := by omega
          rw [fM, show 115792089237316195423570985008687907853269984665640564039457584007913129639936 % 115792089237316195423570985008687907853269984665640564039457584007913129639936 = 0 from rfl, show 115792089237316195423570985008687907853269984665640564039457584007913129639936 / 115792089237316195423570985008687907853269984665640564039457584007913129639936 = 1 from rfl] at m1
          have a2 := fun h => W.Add h 0 N (by decide) Nl
          rw [Nat.zero_add, decide_eq_false ho] at a2
          have nN := fun h => b_neW0 h N Nl
          rw [decide_eq_false (show ¬ N = 0 by omega)] at nN
          rcases pq with ⟨x1, x2⟩ | ⟨x1, x2⟩ | ⟨x1, x2⟩
          · have y1 : decide (p ≤ 0) = true := decide_eq_true (by omega)
            have y2 : decide (q < 0) = false := decide_eq_false (by omega)
            have y3 : decide (0 ≤ p) = false := decide_eq_false (by omega)
            simp (config := {maxSteps := 1000000}) (disch := first | omega | (simp only [List.length_cons, List.length_nil, List.length_append, List.length_drop]; omega)) only [n0, hal, wt, wu, zt, zu, c1, c2, a1, a2, m1, nN, hOf, eq1, ne1, e00, e10, n10, y1, y2, y3, w_beqn, ↓s_box, ↓x_build, x_aggO, w_cells, w_load, w_store, w_st4, w_stW, w_write, w_write', ↓s_evD, ↓s_dnil, ↓s_dL, ↓s_dLg, ↓s_dR, ↓s_dRg, ↓s_dRj, ↓s_dRjg, ↓s_dB, ↓s_dBg, ↓s_dAlloc, ↓s_bindD, s_bindD, s_finD, s_finDx, s_addP0, s_addP1, s_addB, s_lookP, ↓s_bump0, ↓s_bump_get, s_bump_next, s_ok0, ↓s_ok1, s_okR0, ↓s_okR1, ↓s_okE, s_okE, s_okE1, s_nth0, s_nthS, Nat.add_zero, Bool.and_self, Bool.and_true, Bool.true_and, ↓l_loop, ↓l_succ, ↓l_normal, l_normal, l_exit, l_ret, l_iteN, ↓h_put_get, ↓h_new_get, ↓h_del_get, h_next_put, h_next_new, h_next_del, Nat.add_assoc, Nat.add_eq_left, Nat.left_eq_add, Nat.add_left_cancel_iff, ↓s_load, m_load, ↓m_load1, m_load1, ↓m_st, m_stE, m_storeI, m_storeE, w_succ, ↓s_alloc, ↓x_idxA, ↓x_idxS, x_idxAE, x_idxSE, x_addrE, x_idx, x_lenS, ↓s_len, ↓x_buildS, x_buildE, ↓x_P0, ↓x_P1, x_fill0, x_filli, x_fills, x_fillb, c_int, List.length_cons, List.length_nil, List.cons_append, List.drop_succ_cons, List.drop_zero, List.drop_nil, List.nil_append, Int.reduceAdd, Int.reduceToNat, Int.reduceLT, Int.reduceLE, Nat.reduceAdd, Nat.reduceMul, Nat.reduceLeDiff, Int.reduceEq, Int.reduceSub, Int.cast_ofNat_Int, s_resc, s_consR, m_load4, m_store4, s_res0, ↓s_skip, ↓s_ops, ↓s_dops, ↓s_seq, ↓s_cond, ↓s_block, ↓s_exit, ↓s_ret, ↓s_scope, ↓s_nil, ↓s_op, ↓s_opg, ↓s_wanted', ↓s_wantV, s_wantV, s_wantV0, beq_true, beq_false, ↓s_bindS, s_bindS, ↓s_bindE, s_bindE, s_bindE_ret, s_bindE_exit, s_bindE_iteN, s_norm, ↓s_condV, s_condV, s_block_ret, s_block_normal, s_block_exit, s_block_iteN, ↓s_getp, ↓s_getp0, ↓s_get, s_get0, ↓s_con, ↓s_fn, ↓s_os0, ↓s_os1, ↓s_list0, ↓s_list1, ↓s_mov, ↓s_pick, ↓s_pickE, s_pickE, ↓s_bin, ↓s_un, ↓s_minmax, ↓s_call, ↓s_callv, ↓s_callV, ↓s_ext, s_same, b_eql, b_neq, b_lss, b_leq, b_gtr, b_geq, b_add, b_sub, b_mul, b_eqlb, b_neqb, b_fnil, b_fnil', b_fnil2, b_fnil2', u_neg, u_not, m_two, s_end, s_end', s_end_iteN, s_res0, s_res1, s_tup1, s_tup2, ↓iteN_true, ↓iteN_false, iteN_true, iteN_false, Nat.zero_add, List.nil_append, List.append_nil, Nat.reduceEqDiff, reduceIte, decide_true, decide_false, Bool.not_true, Bool.not_false, List.getElem?_cons_zero, List.getElem?_cons_succ, Bool.false_eq_true, if_true, if_false, beq_self_eq_true]
            exact ⟨_, rfl⟩
          · subst x1; subst x2
            simp (config := {maxSteps := 1000000}) (disch := first | omega | (simp only [List.length_cons, List.length_nil, List.length_append, List.length_drop]; omega)) only [n0, hal, wt, wu, zt, zu, c1, c2, a1, a2, m1, nN, hOf, eq1, ne1, e00, e10, n10, w_beqn, ↓s_box, ↓x_build, x_aggO, w_cells, w_load, w_store, w_st4, w_stW, w_write, w_write', ↓s_evD, ↓s_dnil, ↓s_dL, ↓s_dLg, ↓s_dR, ↓s_dRg, ↓s_dRj, ↓s_dRjg, ↓s_dB, ↓s_dBg, ↓s_dAlloc, ↓s_bindD, s_bindD, s_finD, s_finDx, s_addP0, s_addP1, s_addB, s_lookP, ↓s_bump0, ↓s_bump_get, s_bump_next, s_ok0, ↓s_ok1, s_okR0, ↓s_okR1, ↓s_okE, s_okE, s_okE1, s_nth0, s_nthS, Nat.add_zero, Bool.and_self, Bool.and_true, Bool.true_and, ↓l_loop, ↓l_succ, ↓l_normal, l_normal, l_exit, l_ret, l_iteN, ↓h_put_get, ↓h_new_get, ↓h_del_get, h_next_put, h_next_new, h_next_del, Nat.add_assoc, Nat.add_eq_left, Nat.left_eq_add, Nat.add_left_cancel_iff, ↓s_load, m_load, ↓m_load1, m_load1, ↓m_st, m_stE, m_storeI, m_storeE, w_succ, ↓s_alloc, ↓x_idxA, ↓x_idxS, x_idxAE, x_idxSE, x_addrE, x_idx, x_lenS, ↓s_len, ↓x_buildS, x_buildE, ↓x_P0, ↓x_P1, x_fill0, x_filli, x_fills, x_fillb, c_int, List.length_cons, List.length_nil, List.cons_append, List.drop_succ_cons, List.drop_zero, List.drop_nil, List.nil_append, Int.reduceAdd, Int.reduceToNat, Int.reduceLT, Int.reduceLE, Nat.reduceAdd, Nat.reduceMul, Nat.reduceLeDiff, Int.reduceEq, Int.reduceSub, Int.cast_ofNat_Int, s_resc, s_consR, m_load4, m_store4, s_res0, ↓s_skip, ↓s_ops, ↓s_dops, ↓s_seq, ↓s_cond, ↓s_block, ↓s_exit, ↓s_ret, ↓s_scope, ↓s_nil, ↓s_op, ↓s_opg, ↓s_wanted', ↓s_wantV, s_wantV, s_wantV0, beq_true, beq_false, ↓s_bindS, s_bindS, ↓s_bindE, s_bindE, s_bindE_ret, s_bindE_exit, s_bindE_iteN, s_norm, ↓s_condV, s_condV, s_block_ret, s_block_normal, s_block_exit, s_block_iteN, ↓s_getp, ↓s_getp0, ↓s_get, s_get0, ↓s_con, ↓s_fn, ↓s_os0, ↓s_os1, ↓s_list0, ↓s_list1, ↓s_mov, ↓s_pick, ↓s_pickE, s_pickE, ↓s_bin, ↓s_un, ↓s_minmax, ↓s_call, ↓s_callv, ↓s_callV, ↓s_ext, s_same, b_eql, b_neq, b_lss, b_leq, b_gtr, b_geq, b_add, b_sub, b_mul, b_eqlb, b_neqb, b_fnil, b_fnil', b_fnil2, b_fnil2', u_neg, u_not, m_two, s_end, s_end', s_end_iteN, s_res0, s_res1, s_tup1, s_tup2, ↓iteN_true, ↓iteN_false, iteN_true, iteN_false, Nat.zero_add, List.nil_append, List.append_nil, Nat.reduceEqDiff, reduceIte, decide_true, decide_false, Bool.not_true, Bool.not_false, List.getElem?_cons_zero, List.getElem?_cons_succ, Bool.false_eq_true, if_true, if_false, beq_self_eq_true]
            exact ⟨_, rfl⟩
          · have y1 : decide (p ≤ 0) = false := decide_eq_false (by omega)
            have y2 : decide (0 < q) = false := decide_eq_false (by omega)
            have y3 : decide (0 ≤ p) = true := decide_eq_true (by omega)
            simp (config := {maxSteps := 1000000}) (disch := first | omega | (simp only [List.length_cons, List.length_nil, List.length_append, List.length_drop]; omega)) only [n0, hal, wt, wu, zt, zu, c1, c2, a1, a2, m1, nN, hOf, eq1, ne1, e00, e10, n10, y1, y2, y3, w_beqn, ↓s_box, ↓x_build, x_aggO, w_cells, w_load, w_store, w_st4, w_stW, w_write, w_write', ↓s_evD, ↓s_dnil, ↓s_dL, ↓s_dLg, ↓s_dR, ↓s_dRg, ↓s_dRj, ↓s_dRjg, ↓s_dB, ↓s_dBg, ↓s_dAlloc, ↓s_bindD, s_bindD, s_finD, s_finDx, s_addP0, s_addP1, s_addB, s_lookP, ↓s_bump0, ↓s_bump_get, s_bump_next, s_ok0, ↓s_ok1, s_okR0, ↓s_okR1, ↓s_okE, s_okE, s_okE1, s_nth0, s_nthS, Nat.add_zero, Bool.and_self, Bool.and_true, Bool.true_and, ↓l_loop, ↓l_succ, ↓l_normal, l_normal, l_exit, l_ret, l_iteN, ↓h_put_get, ↓h_new_get, ↓h_del_get, h_next_put, h_next_new, h_next_del, Nat.add_assoc, Nat.add_eq_left, Nat.left_eq_add, Nat.add_left_cancel_iff, ↓s_load, m_load, ↓m_load1, m_load1, ↓m_st, m_stE, m_storeI, m_storeE, w_succ, ↓s_alloc, ↓x_idxA, ↓x_idxS, x_idxAE, x_idxSE, x_addrE, x_idx, x_lenS, ↓s_len, ↓x_buildS, x_buildE, ↓x_P0, ↓x_P1, x_fill0, x_filli, x_fills, x_fillb, c_int, List.length_cons, List.length_nil, List.cons_append, List.drop_succ_cons, List.drop_zero, List.drop_nil, List.nil_append, Int.reduceAdd, Int.reduceToNat, Int.reduceLT, Int.reduceLE, Nat.reduceAdd, Nat.reduceMul, Nat.reduceLeDiff, Int.reduceEq, Int.reduceSub, Int.cast_ofNat_Int, s_resc, s_consR, m_load4, m_store4, s_res0, ↓s_skip, ↓s_ops, ↓s_dops, ↓s_seq, ↓s_cond, ↓s_block, ↓s_exit, ↓s_ret, ↓s_scope, ↓s_nil, ↓s_op, ↓s_opg, ↓s_wanted', ↓s_wantV, s_wantV, s_wantV0, beq_true, beq_false, ↓s_bindS, s_bindS, ↓s_bindE, s_bindE, s_bindE_ret, s_bindE_exit, s_bindE_iteN, s_norm, ↓s_condV, s_condV, s_block_ret, s_block_normal, s_block_exit, s_block_iteN, ↓s_getp, ↓s_getp0, ↓s_get, s_get0, ↓s_con, ↓s_fn, ↓s_os0, ↓s_os1, ↓s_list0, ↓s_list1, ↓s_mov, ↓s_pick, ↓s_pickE, s_pickE, ↓s_bin, ↓s_un, ↓s_minmax, ↓s_call, ↓s_callv, ↓s_callV, ↓s_ext, s_same, b_eql, b_neq, b_lss, b_leq, b_gtr, b_geq, b_add, b_sub, b_mul, b_eqlb, b_neqb, b_fnil, b_fnil', b_fnil2, b_fnil2', u_neg, u_not, m_two, s_end, s_end', s_end_iteN, s_res0, s_res1, s_tup1, s_tup2, ↓iteN_true, ↓iteN_false, iteN_true, iteN_false, Nat.zero_add, List.nil_append, List.append_nil, Nat.reduceEqDiff, reduceIte, decide_true, decide_false, Bool.not_true, Bool.not_false, List.getElem?_cons_zero, List.getElem?_cons_succ, Bool.false_eq_true, if_true, if_false, beq_self_eq_true]
            exact ⟨_, rfl⟩
        · have fl : f < 115792089237316195423570985008687907853269984665640564039457584007913129639936 := by omega
          rw [Nat.mod_eq_of_lt fl, Nat.div_eq_of_lt fl] at m1
          have a2 := fun h => W.Add h f N (by omega) Nl
          rw [decide_eq_true (show 115792089237316195423570985008687907853269984665640564039457584007913129639936 ≤ f + N by omega)] at a2
          obtain ⟨z, ez⟩ : ∃ z, f + N = 115792089237316195423570985008687907853269984665640564039457584007913129639936 + z := ⟨f + N - 115792089237316195423570985008687907853269984665640564039457584007913129639936, by omega⟩
          have ezw : Wd (f + N) = Wd z := by rw [ez, ← Wd_mod (_ + z), Nat.add_mod_left, Wd_mod]
          rw [ezw] at a2
          have a3 := fun h => W.Add h 0 1 (by decide) (by decide)
          rw [Nat.zero_add, decide_eq_false (show ¬ 115792089237316195423570985008687907853269984665640564039457584007913129639936 ≤ 1 by decide)] at a3
          have nN := fun h => b_neW0 h z (by omega)
          rw [decide_eq_false (show ¬ z = 0 by omega)] at nN
          rcases pq with ⟨x1, x2⟩ | ⟨x1, x2⟩ | ⟨x1, x2⟩
          · have y1 : decide (p ≤ 0) = true := decide_eq_true (by omega)
            have y2 : decide (q < 0) = false := decide_eq_false (by omega)
            have y3 : decide (0 ≤ p) = false := decide_eq_false (by omega)
            simp (config := {maxSteps := 1000000}) (disch := first | omega | (simp only [List.length_cons, List.length_nil, List.length_append, List.length_drop]; omega)) only [n0, hal, wt, wu, zt, zu, c1, c2, a1, a2, a3, m1, nN, hOf, eq1, ne1, e00, e10, n10, y1, y2, y3, w_beqn, ↓s_box, ↓x_build, x_aggO, w_cells, w_load, w_store, w_st4, w_stW, w_write, w_write', ↓s_evD, ↓s_dnil, ↓s_dL, ↓s_dLg, ↓s_dR, ↓s_dRg, ↓s_dRj, ↓s_dRjg, ↓s_dB, ↓s_dBg, ↓s_dAlloc, ↓s_bindD, s_bindD, s_finD, s_finDx, s_addP0, s_addP1, s_addB, s_lookP, ↓s_bump0, ↓s_bump_get, s_bump_next, s_ok0, ↓s_ok1, s_okR0, ↓s_okR1, ↓s_okE, s_okE, s_okE1, s_nth0, s_nthS, Nat.add_zero, Bool.and_self, Bool.and_true, Bool.true_and, ↓l_loop, ↓l_succ, ↓l_normal, l_normal, l_exit, l_ret, l_iteN, ↓h_put_get, ↓h_new_get, ↓h_del_get, h_next_put, h_next_new, h_next_del, Nat.add_assoc, Nat.add_eq_left, Nat.left_eq_add, Nat.add_left_cancel_iff, ↓s_load, m_load, ↓m_load1, m_load1, ↓m_st, m_stE, m_storeI, m_storeE, w_succ, ↓s_alloc, ↓x_idxA, ↓x_idxS, x_idxAE, x_idxSE, x_addrE, x_idx, x_lenS, ↓s_len, ↓x_buildS, x_buildE, ↓x_P0, ↓x_P1, x_fill0, x_filli, x_fills, x_fillb, c_int, List.length_cons, List.length_nil, List.cons_append, List.drop_succ_cons, List.drop_zero, List.drop_nil, List.nil_append, Int.reduceAdd, Int.reduceToNat, Int.reduceLT, Int.reduceLE, Nat.reduceAdd, Nat.reduceMul, Nat.reduceLeDiff, Int.reduceEq, Int.reduceSub, Int.cast_ofNat_Int, s_resc, s_consR, m_load4, m_store4, s_res0, ↓s_skip, ↓s_ops, ↓s_dops, ↓s_seq, ↓s_cond, ↓s_block, ↓s_exit, ↓s_ret, ↓s_scope, ↓s_nil, ↓s_op, ↓s_opg, ↓s_wanted', ↓s_wantV, s_wantV, s_wantV0, beq_true, beq_false, ↓s_bindS, s_bindS, ↓s_bindE, s_bindE, s_bindE_ret, s_bindE_exit, s_bindE_iteN, s_norm, ↓s_condV, s_condV, s_block_ret, s_block_normal, s_block_exit, s_block_iteN, ↓s_getp, ↓s_getp0, ↓s_get, s_get0, ↓s_con, ↓s_fn, ↓s_os0, ↓s_os1, ↓s_list0, ↓s_list1, ↓s_mov, ↓s_pick, ↓s_pickE, s_pickE, ↓s_bin, ↓s_un, ↓s_minmax, ↓s_call, ↓s_callv, ↓s_callV, ↓s_ext, s_same, b_eql, b_neq, b_lss, b_leq, b_gtr, b_geq, b_add, b_sub, b_mul, b_eqlb, b_neqb, b_fnil, b_fnil', b_fnil2, b_fnil2', u_neg, u_not, m_two, s_end, s_end', s_end_iteN, s_res0, s_res1, s_tup1, s_tup2, ↓iteN_true, ↓iteN_false, iteN_true, iteN_false, Nat.zero_add, List.nil_append, List.append_nil, Nat.reduceEqDiff, reduceIte, decide_true, decide_false, Bool.not_true, Bool.not_false, List.getElem?_cons_zero, List.getElem?_cons_succ, Bool.false_eq_true, if_true, if_false, beq_self_eq_true]
            exact ⟨_, rfl⟩
          · subst x1; subst x2
            simp (config := {maxSteps := 1000000}) (disch := first | omega | (simp only [List.length_cons, List.length_nil, List.length_append, List.length_drop]; omega)) only [n0, hal, wt, wu, zt, zu, c1, c2, a1, a2, a3, m1, nN, hOf, eq1, ne1, e00, e10, n10, w_beqn, ↓s_box, ↓x_build, x_aggO, w_cells, w_load, w_store, w_st4, w_stW, w_write, w_write', ↓s_evD, ↓s_dnil, ↓s_dL, ↓s_dLg, ↓s_dR, ↓s_dRg, ↓s_dRj, ↓s_dRjg, ↓s_dB, ↓s_dBg, ↓s_dAlloc, ↓s_bindD, s_bindD, s_finD, s_finDx, s_addP0, s_addP1, s_addB, s_lookP, ↓s_bump0, ↓s_bump_get, s_bump_next, s_ok0, ↓s_ok1, s_okR0, ↓s_okR1, ↓s_okE, s_okE, s_okE1, s_nth0, s_nthS, Nat.add_zero, Bool.and_self, Bool.and_true, Bool.true_and, ↓l_loop, ↓l_succ, ↓l_normal, l_normal, l_exit, l_ret, l_iteN, ↓h_put_get, ↓h_new_get, ↓h_del_get, h_next_put, h_next_new, h_next_del, Nat.add_assoc, Nat.add_eq_left, Nat.left_eq_add, Nat.add_left_cancel_iff, ↓s_load, m_load, ↓m_load1, m_load1, ↓m_st, m_stE, m_storeI, m_storeE, w_succ, ↓s_alloc, ↓x_idxA, ↓x_idxS, x_idxAE, x_idxSE, x_addrE, x_idx, x_lenS, ↓s_len, ↓x_buildS, x_buildE, ↓x_P0, ↓x_P1, x_fill0, x_filli, x_fills, x_fillb, c_int, List.length_cons, List.length_nil, List.cons_append, List.drop_succ_cons, List.drop_zero, List.drop_nil, List.nil_append, Int.reduceAdd, Int.reduceToNat, Int.reduceLT, Int.reduceLE, Nat.reduceAdd, Nat.reduceMul, Nat.reduceLeDiff, Int.reduceEq, Int.reduceSub, Int.cast_ofNat_Int, s_resc, s_consR, m_load4, m_store4, s_res0, ↓s_skip, ↓s_ops, ↓s_dops, ↓s_seq, ↓s_cond, ↓s_block, ↓s_exit, ↓s_ret, ↓s_scope, ↓s_nil, ↓s_op, ↓s_opg, ↓s_wanted', ↓s_wantV, s_wantV, s_wantV0, beq_true, beq_false, ↓s_bindS, s_bindS, ↓s_bindE, s_bindE, s_bindE_ret, s_bindE_exit, s_bindE_iteN, s_norm, ↓s_condV, s_condV, s_block_ret, s_block_normal, s_block_exit, s_block_iteN, ↓s_getp, ↓s_getp0, ↓s_get, s_get0, ↓s_con, ↓s_fn, ↓s_os0, ↓s_os1, ↓s_list0, ↓s_list1, ↓s_mov, ↓s_pick, ↓s_pickE, s_pickE, ↓s_bin, ↓s_un, ↓s_minmax, ↓s_call, ↓s_callv, ↓s_callV, ↓s_ext, s_same, b_eql, b_neq, b_lss, b_leq, b_gtr, b_geq, b_add, b_sub, b_mul, b_eqlb, b_neqb, b_fnil, b_fnil', b_fnil2, b_fnil2', u_neg, u_not, m_two, s_end, s_end', s_end_iteN, s_res0, s_res1, s_tup1, s_tup2, ↓iteN_true, ↓iteN_false, iteN_true, iteN_false, Nat.zero_add, List.nil_append, List.append_nil, Nat.reduceEqDiff, reduceIte, decide_true, decide_false, Bool.not_true, Bool.not_false, List.getElem?_cons_zero, List.getElem?_cons_succ, Bool.false_eq_true, if_true, if_false, beq_self_eq_true]
            exact ⟨_, rfl⟩
          · have y1 : decide (p ≤ 0) = false := decide_eq_false (by omega)
            have y2 : decide (0 < q) = false := decide_eq_false (by omega)
            have y3 : decide (0 ≤ p) = true := decide_eq_true (by omega)
            simp (config := {maxSteps := 1000000}) (disch := first | omega | (simp only [List.length_cons, List.length_nil, List.length_append, List.length_drop]; omega)) only [n0, hal, wt, wu, zt, zu, c1, c2, a1, a2, a3, m1, nN, hOf, eq1, ne1, e00, e10, n10, y1, y2, y3, w_beqn, ↓s_box, ↓x_build, x_aggO, w_cells, w_load, w_store, w_st4, w_stW, w_write, w_write', ↓s_evD, ↓s_dnil, ↓s_dL, ↓s_dLg, ↓s_dR, ↓s_dRg, ↓s_dRj, ↓s_dRjg, ↓s_dB, ↓s_dBg, ↓s_dAlloc, ↓s_bindD, s_bindD, s_finD, s_finDx, s_addP0, s_addP1, s_addB, s_lookP, ↓s_bump0, ↓s_bump_get, s_bump_next, s_ok0, ↓s_ok1, s_okR0, ↓s_okR1, ↓s_okE, s_okE, s_okE1, s_nth0, s_nthS, Nat.add_zero, Bool.and_self, Bool.and_true, Bool.true_and, ↓l_loop, ↓l_succ, ↓l_normal, l_normal, l_exit, l_ret, l_iteN, ↓h_put_get, ↓h_new_get, ↓h_del_get, h_next_put, h_next_new, h_next_del, Nat.add_assoc, Nat.add_eq_left, Nat.left_eq_add, Nat.add_left_cancel_iff, ↓s_load, m_load, ↓m_load1, m_load1, ↓m_st, m_stE, m_storeI, m_storeE, w_succ, ↓s_alloc, ↓x_idxA, ↓x_idxS, x_idxAE, x_idxSE, x_addrE, x_idx, x_lenS, ↓s_len, ↓x_buildS, x_buildE, ↓x_P0, ↓x_P1, x_fill0, x_filli, x_fills, x_fillb, c_int, List.length_cons, List.length_nil, List.cons_append, List.drop_succ_cons, List.drop_zero, List.drop_nil, List.nil_append, Int.reduceAdd, Int.reduceToNat, Int.reduceLT, Int.reduceLE, Nat.reduceAdd, Nat.reduceMul, Nat.reduceLeDiff, Int.reduceEq, Int.reduceSub, Int.cast_ofNat_Int, s_resc, s_consR, m_load4, m_store4, s_res0, ↓s_skip, ↓s_ops, ↓s_dops, ↓s_seq, ↓s_cond, ↓s_block, ↓s_exit, ↓s_ret, ↓s_scope, ↓s_nil, ↓s_op, ↓s_opg, ↓s_wanted', ↓s_wantV, s_wantV, s_wantV0, beq_true, beq_false, ↓s_bindS, s_bindS, ↓s_bindE, s_bindE, s_bindE_ret, s_bindE_exit, s_bindE_iteN, s_norm, ↓s_condV, s_condV, s_block_ret, s_block_normal, s_block_exit, s_block_iteN, ↓s_getp, ↓s_getp0, ↓s_get, s_get0, ↓s_con, ↓s_fn, ↓s_os0, ↓s_os1, ↓s_list0, ↓s_list1, ↓s_mov, ↓s_pick, ↓s_pickE, s_pickE, ↓s_bin, ↓s_un, ↓s_minmax, ↓s_call, ↓s_callv, ↓s_callV, ↓s_ext, s_same, b_eql, b_neq, b_lss, b_leq, b_gtr, b_geq, b_add, b_sub, b_mul, b_eqlb, b_neqb, b_fnil, b_fnil', b_fnil2, b_fnil2', u_neg, u_not, m_two, s_end, s_end', s_end_iteN, s_res0, s_res1, s_tup1, s_tup2, ↓iteN_true, ↓iteN_false, iteN_true, iteN_false, Nat.zero_add, List.nil_append, List.append_nil, Nat.reduceEqDiff, reduceIte, decide_true, decide_false, Bool.not_true, Bool.not_false, List.getElem?_cons_zero, List.getElem?_cons_succ, Bool.false_eq_true, if_true, if_false, beq_self_eq_true]
            exact ⟨_, rfl⟩
end Go.Eng
