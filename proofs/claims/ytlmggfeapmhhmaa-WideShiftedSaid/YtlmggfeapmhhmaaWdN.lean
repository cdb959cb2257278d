/- What functions of the program come to: own work. -/
import Derived.Test.YtlmggfeapmhhmaaWdD
import Derived.Test.YtlmggfeapmhhmaaWdL
namespace Go.Eng
open Go
variable {E : Nat → Option Fn}
set_option linter.unusedSimpArgs false
set_option linter.unusedVariables false
theorem shL_nat (x k : Nat) (hk : k < 256) : shL x (k : Int) = x * 2 ^ k := by
  unfold shL
  by_cases h0 : k = 0
  · subst h0; simp
  · rw [if_neg (by omega), if_neg (by omega), Nat.shiftLeft_eq]; rfl
theorem shR_nat (x k : Nat) (hk : k < 256) : shR x (k : Int) = x / 2 ^ k := by
  unfold shR
  by_cases h0 : k = 0
  · subst h0; simp
  · rw [if_neg (by omega), if_neg (by omega), Nat.shiftRight_eq_div_pow]; rfl
theorem blen_pow (k : Nat) : blen (2 ^ k) = k + 1 := blen_of (Nat.le_refl _) (Nat.pow_lt_pow_right (by omega) (by omega))
theorem blen_div (a k : Nat) : blen (a / 2 ^ k) = blen a - k := by
  by_cases h : a / 2 ^ k = 0
  · rw [h]
    have : a < 2 ^ k := by
      rcases Nat.lt_or_ge a (2 ^ k) with h1 | h1
      · exact h1
      · have := Nat.div_pos h1 (Nat.two_pow_pos k); omega
    have := blen_le this
    rw [show blen 0 = 0 from rfl]; omega
  · rw [← Nat.shiftRight_eq_div_pow] at h ⊢
    have := blen_shr a k h
    omega
theorem blen_mul (a k : Nat) (h : a ≠ 0) : blen (a * 2 ^ k) = blen a + k := by
  have h1 : a * 2 ^ k / 2 ^ k = a := Nat.mul_div_cancel _ (Nat.two_pow_pos k)
  have h2 := blen_shr (a * 2 ^ k) k (by rw [Nat.shiftRight_eq_div_pow, h1]; exact h)
  rw [Nat.shiftRight_eq_div_pow, h1] at h2
  omega
theorem cmp_le {x y : Nat} (h : x ≤ y) : cmpW x y ≤ 0 := by
  unfold cmpW
  split
  · omega
  · rw [if_pos (by omega)]; omega
set_option maxHeartbeats 8000000 in
set_option maxRecDepth 20000 in
theorem law_WideShifted (n : Nat) (e : E k_purserlaw03_WideShifted = some f_purserlaw03_WideShifted) (hk : offW k_purserlaw03_alive = false) (hx : ∀ args h, lawX k_purserlaw03_alive (.fn k_purserlaw03_WideShifted) args h = none) (a k : Nat) (ha : a < M256) (hkk : k < 256) :
    ∃ h2, callX E (lawX k_purserlaw03_alive) (n + 2) (.fn k_purserlaw03_WideShifted) [Wd a, .int .u8 (k : Int)] (mkH [] 0) = some (.bool true, h2) := by
  rw [x_cfn e _ _ (Nat.le_of_ble_eq_true rfl) (hx _ _)]
  have W := lawX_WQ (E := E) (n := n) hk
  have hal : ∀ h, callX E (lawX k_purserlaw03_alive) (n + 1) (.fn k_purserlaw03_alive) [] h = some (.bool true, h) := fun h => x_known (lawX_alive _ h)
  have n0 : (mkH [] 0).next = 0 := rfl
  have MM : M256 = 2 ^ 256 := rfl
  have pM : ∀ i, i < 256 → 2 ^ i < M256 := fun i hi => by rw [MM]; exact Nat.pow_lt_pow_right (by omega) hi
  have p0 : ∀ i, 0 < 2 ^ i := Nat.two_pow_pos
  have dz : ∀ h y, y < M256 → binV .eql (.flat [.i, .i, .i, .i]) h (Wd y) (Wd y) = some (.bool true) := fun h y hy => by rw [b_eqW h y y hy hy, decide_eq_true rfl]
  have nz : ∀ h y, y < M256 → binV .neq (.flat [.i, .i, .i, .i]) h (Wd y) (Wd y) = some (.bool false) := fun h y hy => by rw [b_neW h y y hy hy, decide_eq_true rfl]; rfl
  have hOf : ∀ h, callX E (lawX k_purserlaw03_alive) (n + 1) (.fn k_wide_Of) [.int .u64 1] h = some (Wd 1, h) := fun h => W.Of h 1
  have hwd : ∀ x, Wd (x % M256) = Wd x := Wd_mod
  -- the numbers
  obtain ⟨p, ep⟩ : ∃ p, 2 ^ k = p := ⟨_, rfl⟩
  have pl : p < M256 := by rw [← ep]; exact pM k hkk
  have pp : 0 < p := by rw [← ep]; exact p0 k
  obtain ⟨lo, elo⟩ : ∃ lo, a * p % M256 = lo := ⟨_, rfl⟩
  have lol : lo < M256 := by rw [← elo]; exact Nat.mod_lt _ (by decide)
  obtain ⟨hi, ehi⟩ : ∃ hi, a * p / M256 = hi := ⟨_, rfl⟩
  obtain ⟨q, eq⟩ : ∃ q, a / p = q := ⟨_, rfl⟩
  have ql : q < M256 := by rw [← eq]; exact Nat.lt_of_le_of_lt (Nat.div_le_self _ _) ha
  obtain ⟨s, es⟩ : ∃ s, a % p = s := ⟨_, rfl⟩
  obtain ⟨j, ej⟩ : ∃ j, k / 2 = j := ⟨_, rfl⟩
  have jl : j < 256 := by omega
  obtain ⟨u, eu⟩ : ∃ u, a * 2 ^ j % M256 = u := ⟨_, rfl⟩
  have ul : u < M256 := by rw [← eu]; exact Nat.mod_lt _ (by decide)
  obtain ⟨v, ev⟩ : ∃ v, u / 2 ^ j = v := ⟨_, rfl⟩
  have va : v ≤ a := by
    rw [← ev, ← eu]
    exact Nat.le_trans (Nat.div_le_div_right (Nat.mod_le _ _)) (Nat.le_of_eq (Nat.mul_div_cancel _ (p0 j)))
  obtain ⟨c, ec⟩ : ∃ c, cmpW v a = c := ⟨_, rfl⟩
  have cl : c ≤ 0 := by rw [← ec]; exact cmp_le va
  obtain ⟨na, ena⟩ : ∃ na, blen a = na := ⟨_, rfl⟩
  have nal : na ≤ 256 := by rw [← ena]; exact blen_le ha
  -- the calls
  have L1 := fun h => W.Left h 1 (k : Int) (by decide)
  rw [shL_nat 1 k hkk, Nat.one_mul, ep] at L1
  have M1 := fun h => W.Mul h a p ha pl
  change ∀ h, callX E (lawX k_purserlaw03_alive) (n + 1) (.fn k_wide_Mul) [Wd a, Wd p] h = some (.tup [Wd (a * p % M256), Wd (a * p / M256)], h) at M1
  rw [elo, ehi] at M1
  have D1 := fun h => W.Div h a p ha pl
  simp only [if_neg (show ¬ p = 0 by omega), eq, es] at D1
  have L2 := fun h => W.Left h a (k : Int) ha
  have elo2 : Wd (a * p) = Wd lo := by rw [← hwd, elo]
  rw [shL_nat a k hkk, ep, elo2] at L2
  have R1 := fun h => W.Right h a (k : Int) ha
  rw [shR_nat a k hkk, ep, eq] at R1
  have N1 := fun h => W.Len h p pl
  rw [← ep, blen_pow, ep] at N1
  have N2 := fun h => W.Len h q ql
  rw [← eq, ← ep, blen_div, ena, ep, eq] at N2
  have N3 := fun h => W.Len h a ha
  rw [ena] at N3
  have L3 := fun h => W.Left h a (j : Int) ha
  have eu2 : Wd (a * 2 ^ j) = Wd u := by rw [← hwd, eu]
  rw [shL_nat a j jl, eu2] at L3
  have R3 := fun h => W.Right h u (j : Int) ul
  rw [shR_nat u j jl, ev] at R3
  have C1 := fun h => W.Cmp h v a (Nat.lt_of_le_of_lt va ha) ha
  rw [ec] at C1
  have L4 := fun h => W.Left h u ((k - j : Nat) : Int) ul
  have ukj : u * 2 ^ (k - j) % M256 = lo := by
    rw [← eu, ← elo, Nat.mod_mul_mod, Nat.mul_assoc, ← Nat.pow_add, show j + (k - j) = k from by omega, ep]
  have ukj2 : Wd (u * 2 ^ (k - j)) = Wd lo := by rw [← hwd, ukj]
  rw [shL_nat u (k - j) (by omega), ukj2] at L4
  have kj : ((k - j : Nat) : Int) = (k : Int) - (j : Int) := by omega
  rw [kj] at L4
  -- what is asked
  have q1 : ∀ e h, binV .quo e h (.int .i64 (k : Int)) (.int .i64 2) = some (.int .i64 (j : Int)) := by
    intro e h
    rw [b_quo _ _ _ _ _ (by omega), Int.tdiv_eq_ediv_of_nonneg (by omega), wr_i64 (by omega), show (k : Int) / 2 = (j : Int) from by omega]
  have k1 : decide (((k + 1 : Nat) : Int) = (k : Int) + 1) = true := decide_eq_true (by omega)
  have k2 : decide (((na - k : Nat) : Int) = if (0 : Int) < (na : Int) - (k : Int) then (na : Int) - (k : Int) else 0) = true := decide_eq_true (by split <;> omega)
  have k3 : decide (c ≤ 0) = true := decide_eq_true cl
  have zlo := fun h => nz h lo lol
  have zq := fun h => nz h q ql
  have za := fun h => nz h a ha
  have elo' := fun h => dz h lo lol
  have ff : (false = true) = False := by simp
  by_cases hf : na + k ≤ 256
  · have f1 : decide ((na : Int) + (k : Int) ≤ 256) = true := decide_eq_true (by omega)
    have fits : a * p < M256 := by
      have h1 : a < 2 ^ na := by rw [← ena]; exact blen_lt a
      rw [← ep, MM]
      calc a * 2 ^ k < 2 ^ na * 2 ^ k := (Nat.mul_lt_mul_right (p0 k)).2 h1
        _ = 2 ^ (na + k) := (Nat.pow_add _ _ _).symm
        _ ≤ 2 ^ 256 := Nat.pow_le_pow_right (by omega) hf
    have lo1 : lo = a * p := by rw [← elo]; exact Nat.mod_eq_of_lt fits
    have R2 := fun h => W.Right h lo (k : Int) lol
    rw [shR_nat lo k hkk, ep, show lo / p = a from by rw [lo1]; exact Nat.mul_div_cancel _ pp] at R2
    by_cases h0 : a = 0
    · have zz : ∀ h, binV .neq (.flat [.i, .i, .i, .i]) h (Wd a) (.agg [.int .u64 0, .int .u64 0, .int .u64 0, .int .u64 0]) = some (.bool false) := fun h => by rw [b_neW0 h a ha, decide_eq_true h0]; rfl
      simp (config := {maxSteps := 2000000}) (disch := first | omega | (simp only [List.length_cons, List.length_nil, List.length_append, List.length_drop]; omega)) only [n0, hal, hOf, L1, M1, D1, L2, R1, N1, N2, N3, L3, R3, C1, L4, R2, q1, k1, k2, k3, f1, zlo, zq, za, zz, elo', ff, w_beqn, ↓s_box, ↓x_build, x_aggO, ↓x_conv, x_convV, wr_i64, w_cells, w_load, w_store, w_st4, w_stW, w_write, w_write', ↓s_evD, ↓s_dnil, ↓s_dL, ↓s_dLg, ↓s_dR, ↓s_dRg, ↓s_dRj, ↓s_dRjg, ↓s_dB, ↓s_dBg, ↓s_dAlloc, ↓s_bindD, s_bindD, s_finD, s_finDx, s_addP0, s_addP1, s_addB, s_lookP, ↓s_bump0, ↓s_bump_get, s_bump_next, s_ok0, ↓s_ok1, s_okR0, ↓s_okR1, ↓s_okE, s_okE, s_okE1, s_nth0, s_nthS, Nat.add_zero, Bool.and_self, Bool.and_true, Bool.true_and, ↓l_loop, ↓l_succ, ↓l_normal, l_normal, l_exit, l_ret, l_iteN, ↓h_put_get, ↓h_new_get, ↓h_del_get, h_next_put, h_next_new, h_next_del, Nat.add_assoc, Nat.add_eq_left, Nat.left_eq_add, Nat.add_left_cancel_iff, ↓s_load, m_load, ↓m_load1, m_load1, ↓m_st, m_stE, m_storeI, m_storeE, w_succ, ↓s_alloc, ↓x_idxA, ↓x_idxS, x_idxAE, x_idxSE, x_addrE, x_idx, x_lenS, ↓s_len, ↓x_buildS, x_buildE, ↓x_P0, ↓x_P1, x_fill0, x_filli, x_fills, x_fillb, c_int, List.length_cons, List.length_nil, List.cons_append, List.drop_succ_cons, List.drop_zero, List.drop_nil, List.nil_append, Int.reduceAdd, Int.reduceToNat, Int.reduceLT, Int.reduceLE, Nat.reduceAdd, Nat.reduceMul, Nat.reduceLeDiff, Int.reduceEq, Int.reduceSub, Int.cast_ofNat_Int, s_resc, s_consR, m_load4, m_store4, s_res0, ↓s_skip, ↓s_ops, ↓s_dops, ↓s_seq, ↓s_cond, ↓s_block, ↓s_exit, ↓s_ret, ↓s_scope, ↓s_nil, ↓s_op, ↓s_opg, ↓s_wanted', ↓s_wantV, s_wantV, s_wantV0, beq_true, beq_false, ↓s_bindS, s_bindS, ↓s_bindE, s_bindE, s_bindE_ret, s_bindE_exit, s_bindE_iteN, s_norm, ↓s_condV, s_condV, s_block_ret, s_block_normal, s_block_exit, s_block_iteN, ↓s_getp, ↓s_getp0, ↓s_get, s_get0, ↓s_con, ↓s_fn, ↓s_os0, ↓s_os1, ↓s_list0, ↓s_list1, ↓s_mov, ↓s_pick, ↓s_pickE, s_pickE, ↓s_bin, ↓s_un, ↓s_minmax, ↓s_call, ↓s_callv, ↓s_callV, ↓s_ext, s_same, b_eql, b_neq, b_lss, b_leq, b_gtr, b_geq, b_add, b_sub, b_mul, b_eqlb, b_neqb, b_fnil, b_fnil', b_fnil2, b_fnil2', u_neg, u_not, m_two, s_end, s_end', s_end_iteN, s_res0, s_res1, s_tup1, s_tup2, ↓iteN_true, ↓iteN_false, iteN_true, iteN_false, Nat.zero_add, List.nil_append, List.append_nil, Nat.reduceEqDiff, reduceIte, decide_true, decide_false, Bool.not_true, Bool.not_false, List.getElem?_cons_zero, List.getElem?_cons_succ, Bool.false_eq_true, if_true, if_false, beq_self_eq_true]
      exact ⟨_, rfl⟩
    · have zz : ∀ h, binV .neq (.flat [.i, .i, .i, .i]) h (Wd a) (.agg [.int .u64 0, .int .u64 0, .int .u64 0, .int .u64 0]) = some (.bool true) := fun h => by rw [b_neW0 h a ha, decide_eq_false h0]; rfl
      have N4 := fun h => W.Len h lo lol
      rw [lo1, ← ep, blen_mul a k h0, ena, ep, ← lo1] at N4
      have k4 : decide (((na + k : Nat) : Int) = (na : Int) + (k : Int)) = true := decide_eq_true (by omega)
      simp (config := {maxSteps := 2000000}) (disch := first | omega | (simp only [List.length_cons, List.length_nil, List.length_append, List.length_drop]; omega)) only [n0, hal, hOf, L1, M1, D1, L2, R1, N1, N2, N3, N4, L3, R3, C1, L4, R2, q1, k1, k2, k3, k4, f1, zlo, zq, za, zz, elo', ff, w_beqn, ↓s_box, ↓x_build, x_aggO, ↓x_conv, x_convV, wr_i64, w_cells, w_load, w_store, w_st4, w_stW, w_write, w_write', ↓s_evD, ↓s_dnil, ↓s_dL, ↓s_dLg, ↓s_dR, ↓s_dRg, ↓s_dRj, ↓s_dRjg, ↓s_dB, ↓s_dBg, ↓s_dAlloc, ↓s_bindD, s_bindD, s_finD, s_finDx, s_addP0, s_addP1, s_addB, s_lookP, ↓s_bump0, ↓s_bump_get, s_bump_next, s_ok0, ↓s_ok1, s_okR0, ↓s_okR1, ↓s_okE, s_okE, s_okE1, s_nth0, s_nthS, Nat.add_zero, Bool.and_self, Bool.and_true, Bool.true_and, ↓l_loop, ↓l_succ, ↓l_normal, l_normal, l_exit, l_ret, l_iteN, ↓h_put_get, ↓h_new_get, ↓h_del_get, h_next_put, h_next_new, h_next_del, Nat.add_assoc, Nat.add_eq_left, Nat.left_eq_add, Nat.add_left_cancel_iff, ↓s_load, m_load, ↓m_load1, m_load1, ↓m_st, m_stE, m_storeI, m_storeE, w_succ, ↓s_alloc, ↓x_idxA, ↓x_idxS, x_idxAE, x_idxSE, x_addrE, x_idx, x_lenS, ↓s_len, ↓x_buildS, x_buildE, ↓x_P0, ↓x_P1, x_fill0, x_filli, x_fills, x_fillb, c_int, List.length_cons, List.length_nil, List.cons_append, List.drop_succ_cons, List.drop_zero, List.drop_nil, List.nil_append, Int.reduceAdd, Int.reduceToNat, Int.reduceLT, Int.reduceLE, Nat.reduceAdd, Nat.reduceMul, Nat.reduceLeDiff, Int.reduceEq, Int.reduceSub, Int.cast_ofNat_Int, s_resc, s_consR, m_load4, m_store4, s_res0, ↓s_skip, ↓s_ops, ↓s_dops, ↓s_seq, ↓s_cond, ↓s_block, ↓s_exit, ↓s_ret, ↓s_scope, ↓s_nil, ↓s_op, ↓s_opg, ↓s_wanted', ↓s_wantV, s_wantV, s_wantV0, beq_true, beq_false, ↓s_bindS, s_bindS, ↓s_bindE, s_bindE, s_bindE_ret, s_bindE_exit, s_bindE_iteN, s_norm, ↓s_condV, s_condV, s_block_ret, s_block_normal, s_block_exit, s_block_iteN, ↓s_getp, ↓s_getp0, ↓s_get, s_get0, ↓s_con, ↓s_fn, ↓s_os0, ↓s_os1, ↓s_list0, ↓s_list1, ↓s_mov, ↓s_pick, ↓s_pickE, s_pickE, ↓s_bin, ↓s_un, ↓s_minmax, ↓s_call, ↓s_callv, ↓s_callV, ↓s_ext, s_same, b_eql, b_neq, b_lss, b_leq, b_gtr, b_geq, b_add, b_sub, b_mul, b_eqlb, b_neqb, b_fnil, b_fnil', b_fnil2, b_fnil2', u_neg, u_not, m_two, s_end, s_end', s_end_iteN, s_res0, s_res1, s_tup1, s_tup2, ↓iteN_true, ↓iteN_false, iteN_true, iteN_false, Nat.zero_add, List.nil_append, List.append_nil, Nat.reduceEqDiff, reduceIte, decide_true, decide_false, Bool.not_true, Bool.not_false, List.getElem?_cons_zero, List.getElem?_cons_succ, Bool.false_eq_true, if_true, if_false, beq_self_eq_true]
      exact ⟨_, rfl⟩
  · have f1 : decide ((na : Int) + (k : Int) ≤ 256) = false := decide_eq_false (by omega)
    simp (config := {maxSteps := 2000000}) (disch := first | omega | (simp only [List.length_cons, List.length_nil, List.length_append, List.length_drop]; omega)) only [n0, hal, hOf, L1, M1, D1, L2, R1, N1, N2, N3, L3, R3, C1, L4, q1, k1, k2, k3, f1, zlo, zq, za, elo', ff, w_beqn, ↓s_box, ↓x_build, x_aggO, ↓x_conv, x_convV, wr_i64, w_cells, w_load, w_store, w_st4, w_stW, w_write, w_write', ↓s_evD, ↓s_dnil, ↓s_dL, ↓s_dLg, ↓s_dR, ↓s_dRg, ↓s_dRj, ↓s_dRjg, ↓s_dB, ↓s_dBg, ↓s_dAlloc, ↓s_bindD, s_bindD, s_finD, s_finDx, s_addP0, s_addP1, s_addB, s_lookP, ↓s_bump0, ↓s_bump_get, s_bump_next, s_ok0, ↓s_ok1, s_okR0, ↓s_okR1, ↓s_okE, s_okE, s_okE1, s_nth0, s_nthS, Nat.add_zero, Bool.and_self, Bool.and_true, Bool.true_and, ↓l_loop, ↓l_succ, ↓l_normal, l_normal, l_exit, l_ret, l_iteN, ↓h_put_get, ↓h_new_get, ↓h_del_get, h_next_put, h_next_new, h_next_del, Nat.add_assoc, Nat.add_eq_left, Nat.left_eq_add, Nat.add_left_cancel_iff, ↓s_load, m_load, ↓m_load1, m_load1, ↓m_st, m_stE, m_storeI, m_storeE, w_succ, ↓s_alloc, ↓x_idxA, ↓x_idxS, x_idxAE, x_idxSE, x_addrE, x_idx, x_lenS, ↓s_len, ↓x_buildS, x_buildE, ↓x_P0, ↓x_P1, x_fill0, x_filli, x_fills, x_fillb, c_int, List.length_cons, List.length_nil, List.cons_append, List.drop_succ_cons, List.drop_zero, List.drop_nil, List.nil_append, Int.reduceAdd, Int.reduceToNat, Int.reduceLT, Int.reduceLE, Nat.reduceAdd, Nat.reduceMul, Nat.reduceLeDiff, Int.reduceEq, Int.reduceSub, Int.cast_ofNat_Int, s_resc, s_consR, m_load4, m_store4, s_res0, ↓s_skip, ↓s_ops, ↓s_dops, ↓s_seq, ↓s_cond, ↓s_block, ↓s_exit, ↓s_ret, ↓s_scope, ↓s_nil, ↓s_op, ↓s_opg, ↓s_wanted', ↓s_wantV, s_wantV, s_wantV0, beq_true, beq_false, ↓s_bindS, s_bindS, ↓s_bindE, s_bindE, s_bindE_ret, s_bindE_exit, s_bindE_iteN, s_norm, ↓s_condV, s_condV, s_block_ret, s_block_normal, s_block_exit, s_block_iteN, ↓s_getp, ↓s_getp0, ↓s_get, s_get0, ↓s_con, ↓s_fn, ↓s_os0, ↓s_os1, ↓s_list0, ↓s_list1, ↓s_mov, ↓s_pick, ↓s_pickE, s_pickE, ↓s_bin, ↓s_un, ↓s_minmax, ↓s_call, ↓s_callv, ↓s_callV, ↓s_ext, s_same, b_eql, b_neq, b_lss, b_leq, b_gtr, b_geq, b_add, b_sub, b_mul, b_eqlb, b_neqb, b_fnil, b_fnil', b_fnil2, b_fnil2', u_neg, u_not, m_two, s_end, s_end', s_end_iteN, s_res0, s_res1, s_tup1, s_tup2, ↓iteN_true, ↓iteN_false, iteN_true, iteN_false, Nat.zero_add, List.nil_append, List.append_nil, Nat.reduceEqDiff, reduceIte, decide_true, decide_false, Bool.not_true, Bool.not_false, List.getElem?_cons_zero, List.getElem?_cons_succ, Bool.false_eq_true, if_true, if_false, beq_self_eq_true]
    exact ⟨_, rfl⟩
end Go.Eng
