/- What functions of the program come to: own work. -/
import Derived.Test.YtglaaipaomnnmaaSpA
namespace Go.Eng
open Go
variable {E : Nat → Option Fn} {X : Orc}
set_option linter.unusedSimpArgs false
set_option linter.unusedVariables false
def padSz (len : Nat) : Nat := if 64 - len % 64 < 9 then 128 - len % 64 else 64 - len % 64
theorem padSz_b (len : Nat) : 9 ≤ padSz len ∧ padSz len ≤ 72 := by unfold padSz; split <;> omega
def padN (len : Nat) : Nat → List Nat
  | 0 => 128 :: List.replicate (padSz len - 1) 0
  | i + 1 => (padN len i).set (padSz len - 1 - i) (len * 8 % 18446744073709551616 / 2 ^ (8 * i) % 256)
theorem padN_len (len i : Nat) : (padN len i).length = padSz len := by
  induction i with
  | zero => have := padSz_b len; simp [padN]; omega
  | succ i ih => simp [padN, ih]
def padV (len : Nat) : List Nat := padN len 8
theorem padV_len (len : Nat) : (padV len).length = padSz len := padN_len _ _
theorem b_shrN (e : EqK) (h : H) (k' : IntKind) (a m : Nat) (hm : m ≤ 64) : binV .shr e h (.int .u64 (a : Int)) (.int k' (m : Int)) = some (.int .u64 ((a / 2 ^ m : Nat) : Int)) := by
  have e1 : binV .shr e h (.int .u64 (a : Int)) (.int k' (m : Int)) = some (.int .u64 ((a / 2 ^ (bif Nat.ble m 64 then m else 64) : Nat) : Int)) := rfl
  rw [e1, cond_ble, if_pos hm]
theorem w8n (n : Nat) : wr .u8 (n : Int) = ((n % 256 : Nat) : Int) := by
  have : wr .u8 (n : Int) = asK .u8 (n % 256) := rfl
  rw [this]; unfold asK; rw [cond_blt, if_pos (by simp only [half]; omega)]; rfl
theorem w64n' (n : Nat) : wr .u64 (n : Int) = ((n % 18446744073709551616 : Nat) : Int) := by
  have : wr .u64 (n : Int) = asK .u64 (n % 18446744073709551616) := rfl
  rw [this]; unfold asK; rw [cond_blt, if_pos (by simp only [half]; omega)]; rfl
structure PI (q sz len : Nat) (h0 : H) (i : Nat) (T : Tr V) (h : H) : Prop where
  i8 : i ≤ 8
  t0 : evO T (.t 0) = .int .u64 (len : Int)
  t4 : evO T (.t 4) = .int .i64 (sz : Int)
  t5 : evO T (.t 5) = .slice (some (q, 0)) sz (some sz) 1
  t20 : evO T (.t 20) = .int .i64 (i : Int)
  gq : h.get q = some (.cells (ofI .u8 (padN len i)) .rw)
  eq : Eqx q h0 h
theorem pad_step (Q : Orc) (n q sz len : Nat) (hsz : padSz len = sz) (h0 : H) :
    ∀ i T h, i < 8 → PI q sz len h0 i T h → ∃ T' h', evC Q 37 n none L_sha_padding_0 ⟨T, [], h⟩ = some (.normal, ⟨T', [], h'⟩) ∧ PI q sz len h0 (i + 1) T' h' := by
  intro i T h hi ⟨_, t0, t4, t5, t20, gq, eq⟩
  have hs := padSz_b len
  rw [hsz] at hs
  have c0 : decide ((i : Int) < 8) = true := decide_eq_true (by omega)
  have wi : wr .i64 ((i : Int) + 1) = ((i + 1 : Nat) : Int) := by rw [wr_i64 (by omega)]; omega
  have w1 : wr .i64 ((sz : Int) - 1) = ((sz - 1 : Nat) : Int) := by rw [wr_i64 (by omega)]; omega
  have w2 : wr .i64 (((sz - 1 : Nat) : Int) - (i : Int)) = ((sz - 1 - i : Nat) : Int) := by rw [wr_i64 (by omega)]; omega
  have w3 : wr .u64 ((len : Int) * 8) = ((len * 8 % 18446744073709551616 : Nat) : Int) := by
    have : (len : Int) * 8 = ((len * 8 : Nat) : Int) := by omega
    rw [this, w64n']
  have w4 : wr .i64 (8 * (i : Int)) = ((8 * i : Nat) : Int) := by rw [wr_i64 (by omega)]; omega
  have sh : ∀ e h (a : Nat), binV .shr e h (.int .u64 (a : Int)) (.int .i64 ((8 * i : Nat) : Int)) = some (.int .u64 ((a / 2 ^ (8 * i) : Nat) : Int)) := fun e h a => b_shrN e h .i64 a (8 * i) (by omega)
  have ix : idx ((sz - 1 - i : Nat) : Int) sz = some (sz - 1 - i) := idxn (by omega)
  have pl := padN_len len i
  have en : padN len (i + 1) = (padN len i).set (padSz len - 1 - i) (len * 8 % 18446744073709551616 / 2 ^ (8 * i) % 256) := rfl
  rw [hsz] at pl en
  have ws := fun (v : Nat) => writeN_set (ofI .u8 (padN len i)) (sz - 1 - i) (.int .u8 (v : Int)) (by rw [ofI_len]; omega)
  simp only [ofI_set] at ws
  have wv := ws (len * 8 % 18446744073709551616 / 2 ^ (8 * i) % 256)
  rw [← en] at wv
  have ste : ∀ (h : H) (v : V), storeE (some (.cells (ofI .u8 (padN len i)) .rw)) h q (sz - 1 - i) [v] = some (h.put q (.cells (writeN (ofI .u8 (padN len i)) (sz - 1 - i) [v]) .rw)) := fun h v => m_storeE _ _ _ _ _ (by rw [ofI_len, pl]; simp only [List.length_cons, List.length_nil]; omega)
  generalize ofI .u8 (padN len i) = C at *
  refine ⟨_, _, by
    simp (config := {maxSteps := 2000000}) (disch := first | omega | (simp only [List.length_cons, List.length_nil, List.length_append, List.length_drop]; omega)) only [L_sha_padding_0, t0, t4, t5, t20, gq, c0, wi, w1, w2, w3, w4, sh, ix, w8n, ste, wv, ↓b_xor32, ↓b_and32, ↓b_or32, ↓u_not32, b_xor32, b_and32, b_or32, u_not32, w32ad, ↓x_conv, x_convV, ↓x_fieldAddr, x_fieldV, ↓s_nilchk, x_nilchk, Nat.zero_add, Nat.add_zero, Nat.mul_one, ↓s_evD, ↓s_dnil, ↓s_dL, ↓s_dLg, ↓s_dR, ↓s_dRg, ↓s_dRj, ↓s_dRjg, ↓s_dB, ↓s_dBg, ↓s_dAlloc, ↓s_bindD, s_bindD, s_finD, s_finDx, s_addP0, s_addP1, s_addB, s_lookP, ↓s_bump0, ↓s_bump_get, s_bump_next, s_ok0, ↓s_ok1, s_okR0, ↓s_okR1, ↓s_okE, s_okE, s_okE1, s_nth0, s_nthS, Nat.add_zero, Bool.and_self, Bool.and_true, Bool.true_and, ↓l_loop, ↓l_succ, ↓l_normal, l_normal, l_exit, l_ret, l_iteN, ↓h_put_get, ↓h_new_get, ↓h_del_get, h_next_put, h_next_new, h_next_del, Nat.add_assoc, Nat.add_eq_left, Nat.left_eq_add, Nat.add_left_cancel_iff, ↓s_load, m_load, ↓m_load1, m_load1, ↓m_st, m_stE, m_storeI, w_zero, w_succ, ↓s_alloc, ↓x_idxA, ↓x_idxS, x_idxAE, x_idxSE, x_addrE, x_idx, x_lenS, ↓s_len, ↓x_buildS, x_buildE, ↓x_P0, ↓x_P1, x_fill0, x_filli, x_fills, x_fillb, c_int, List.length_cons, List.length_nil, List.cons_append, List.drop_succ_cons, List.drop_zero, List.drop_nil, List.nil_append, Int.reduceAdd, Int.reduceToNat, Int.reduceLT, Int.reduceLE, Nat.reduceAdd, Nat.reduceMul, Nat.reduceLeDiff, Int.reduceEq, Int.reduceSub, Int.cast_ofNat_Int, s_resc, s_consR, m_load4, m_store4, s_res0, ↓s_skip, ↓s_ops, ↓s_dops, ↓s_seq, ↓s_cond, ↓s_block, ↓s_exit, ↓s_ret, ↓s_scope, ↓s_nil, ↓s_op, ↓s_opg, ↓s_wanted', ↓s_wantV, s_wantV, s_wantV0, beq_true, beq_false, ↓s_bindS, s_bindS, ↓s_bindE, s_bindE, s_bindE_ret, s_bindE_exit, s_bindE_iteN, s_norm, ↓s_condV, s_condV, s_block_ret, s_block_normal, s_block_exit, s_block_iteN, ↓s_getp, ↓s_getp0, ↓s_get, s_get0, ↓s_con, ↓s_fn, ↓s_os0, ↓s_os1, ↓s_list0, ↓s_list1, ↓s_mov, ↓s_pick, ↓s_pickE, s_pickE, ↓s_bin, ↓s_un, ↓s_minmax, ↓s_call, ↓s_callv, ↓s_callV, ↓s_ext, s_same, b_eql, b_neq, b_lss, b_leq, b_gtr, b_geq, b_add, b_sub, b_mul, b_eqlb, b_neqb, b_fnil, b_fnil', b_fnil2, b_fnil2', u_neg, u_not, m_two, s_end, s_end', s_end_iteN, s_res0, s_res1, s_tup1, s_tup2, ↓iteN_true, ↓iteN_false, iteN_true, iteN_false, Nat.zero_add, List.nil_append, List.append_nil, Nat.reduceEqDiff, reduceIte, decide_true, decide_false, Bool.not_true, Bool.not_false, List.getElem?_cons_zero, List.getElem?_cons_succ, Bool.false_eq_true, if_true, if_false, beq_self_eq_true]
    exact rfl, ⟨by omega, (by (simp only [s_getp, s_getp0, Nat.reduceEqDiff, decide_false, decide_true, iteN_false, iteN_true, t0]; try rfl)), (by (simp only [s_getp, s_getp0, Nat.reduceEqDiff, decide_false, decide_true, iteN_false, iteN_true, t4]; try rfl)), (by (simp only [s_getp, s_getp0, Nat.reduceEqDiff, decide_false, decide_true, iteN_false, iteN_true, t5]; try rfl)), (by (simp only [s_getp, s_getp0, Nat.reduceEqDiff, decide_false, decide_true, iteN_false, iteN_true, t0]; try rfl)), by rw [h_put_same], eq.put _⟩⟩
theorem pad_loop (Q : Orc) (n q sz len : Nat) (hn : 8 < n) (hsz : padSz len = sz) (h0 : H) (T : Tr V) (h : H) (I : PI q sz len h0 0 T h) :
    ∃ T' h', loopN (evC Q 37 n none L_sha_padding_0) n ⟨T, [], h⟩ = some (.exit 0, ⟨T', [], h'⟩) ∧ PI q sz len h0 8 T' h' :=
  loop_go (PI q sz len h0) 8 (.exit 0) (by intro h; cases h) _ (pad_step Q n q sz len hsz h0) (fun T h I => by
    obtain ⟨a, t0, t4, t5, t20, gq, eq⟩ := I
    have c0 : decide (((8 : Nat) : Int) < 8) = false := rfl
    refine ⟨_, _, by
      simp (config := {maxSteps := 2000000}) (disch := first | omega | (simp only [List.length_cons, List.length_nil, List.length_append, List.length_drop]; omega)) only [L_sha_padding_0, t20, c0, ↓b_xor32, ↓b_and32, ↓b_or32, ↓u_not32, b_xor32, b_and32, b_or32, u_not32, w32ad, ↓x_conv, x_convV, ↓x_fieldAddr, x_fieldV, ↓s_nilchk, x_nilchk, Nat.zero_add, Nat.add_zero, Nat.mul_one, ↓l_loop, ↓l_succ, ↓l_normal, l_normal, l_exit, l_ret, l_iteN, ↓h_put_get, ↓h_new_get, ↓h_del_get, h_next_put, h_next_new, h_next_del, Nat.add_assoc, Nat.add_eq_left, Nat.left_eq_add, Nat.add_left_cancel_iff, ↓s_load, m_load, ↓m_load1, m_load1, ↓m_st, m_stE, m_storeI, w_zero, w_succ, ↓s_alloc, ↓x_idxA, ↓x_idxS, x_idxAE, x_idxSE, x_addrE, x_idx, x_lenS, ↓s_len, ↓x_buildS, x_buildE, ↓x_P0, ↓x_P1, x_fill0, x_filli, x_fills, x_fillb, c_int, List.length_cons, List.length_nil, List.cons_append, List.drop_succ_cons, List.drop_zero, List.drop_nil, List.nil_append, Int.reduceAdd, Int.reduceToNat, Int.reduceLT, Int.reduceLE, Nat.reduceAdd, Nat.reduceMul, Nat.reduceLeDiff, Int.reduceEq, Int.reduceSub, Int.cast_ofNat_Int, s_resc, s_consR, m_load4, m_store4, s_res0, ↓s_skip, ↓s_ops, ↓s_dops, ↓s_seq, ↓s_cond, ↓s_block, ↓s_exit, ↓s_ret, ↓s_scope, ↓s_nil, ↓s_op, ↓s_opg, ↓s_wanted', ↓s_wantV, s_wantV, s_wantV0, beq_true, beq_false, ↓s_bindS, s_bindS, ↓s_bindE, s_bindE, s_bindE_ret, s_bindE_exit, s_bindE_iteN, s_norm, ↓s_condV, s_condV, s_block_ret, s_block_normal, s_block_exit, s_block_iteN, ↓s_getp, ↓s_getp0, ↓s_get, s_get0, ↓s_con, ↓s_fn, ↓s_os0, ↓s_os1, ↓s_list0, ↓s_list1, ↓s_mov, ↓s_pick, ↓s_pickE, s_pickE, ↓s_bin, ↓s_un, ↓s_minmax, ↓s_call, ↓s_callv, ↓s_callV, ↓s_ext, s_same, b_eql, b_neq, b_lss, b_leq, b_gtr, b_geq, b_add, b_sub, b_mul, b_eqlb, b_neqb, b_fnil, b_fnil', b_fnil2, b_fnil2', u_neg, u_not, m_two, s_end, s_end', s_end_iteN, s_res0, s_res1, s_tup1, s_tup2, ↓iteN_true, ↓iteN_false, iteN_true, iteN_false, Nat.zero_add, List.nil_append, List.append_nil, Nat.reduceEqDiff, reduceIte, decide_true, decide_false, Bool.not_true, Bool.not_false, List.getElem?_cons_zero, List.getElem?_cons_succ, Bool.false_eq_true, if_true, if_false, beq_self_eq_true]
      exact rfl, ⟨a, (by (simp only [s_getp, s_getp0, Nat.reduceEqDiff, decide_false, decide_true, iteN_false, iteN_true, t0]; try rfl)), (by (simp only [s_getp, s_getp0, Nat.reduceEqDiff, decide_false, decide_true, iteN_false, iteN_true, t4]; try rfl)), (by (simp only [s_getp, s_getp0, Nat.reduceEqDiff, decide_false, decide_true, iteN_false, iteN_true, t5]; try rfl)), (by (simp only [s_getp, s_getp0, Nat.reduceEqDiff, decide_false, decide_true, iteN_false, iteN_true, t20]; try rfl)), gq, eq⟩⟩) 8 0 rfl n hn T h I
noncomputable def mksE (z : List V) (bytes : Nat) (l c : V) (h : H) : Option (V × H) := match l, c with
  | .int _ (.ofNat l), .int _ (.ofNat c) => bif Nat.ble l c && roomy c bytes then
      some (.slice (some (h.next, 0)) l (some c) z.length, h.new (.cells (List.replicate c z).flatten .rw)) else none
  | _, _ => none
theorem x_mkslice (Q : Orc) (T : Tr V) (h : H) (z : List V) (bytes : Nat) (l c : O) : Eng.step (.mkslice z bytes l c) Q T h = mksE z bytes (evO T l) (evO T c) h := _root_.id rfl
theorem mkslice_n (h : H) (k k' : IntKind) (n : Nat) (hn : n ≤ 35184372088832) : mksE [.int k 0] 1 (.int k' (n : Int)) (.int k' (n : Int)) h = some (.slice (some (h.next, 0)) n (some n) 1, h.new (.cells (ofI k (List.replicate n 0)) .rw)) := by
  have : (List.replicate n [V.int k 0]).flatten = ofI k (List.replicate n 0) := by
    clear hn
    induction n with
    | zero => rfl
    | succ n ih => rw [List.replicate_succ, List.flatten_cons, ih, List.replicate_succ]; rfl
  show (bif Nat.ble n n && roomy n 1 then _ else _) = _
  have r : (Nat.ble n n && roomy n 1) = true := by simp [roomy, hn]
  rw [r, this]; rfl
theorem pad_go (e : EnSha E) (x : NoSha X) (N len : Nat) (hlen : len < 18446744073709551616) (h : H) :
    ∃ h', callX E X (N + 10) (.fn k_sha_padding) [.int .u64 (len : Int)] h = some (.slice (some (h.next, 0)) (padV len).length (some (padV len).length) 1, h') ∧ h'.get h.next = some (.cells (ofI .u8 (padV len)) .rw) ∧ Kp h h' ∧ h'.next = h.next + 1 := by
  rw [x_cfn e.pad _ _ (Nat.le_of_ble_eq_true rfl) (x.pad _ _), padV_len]
  obtain ⟨sz, hsz⟩ : ∃ s, padSz len = s := ⟨_, rfl⟩
  have hb := padSz_b len
  rw [hsz] at hb ⊢
  have p0 : (List.replicate sz 0).set 0 128 = padN len 0 := by
    unfold padN; rw [hsz]
    obtain ⟨m, rfl⟩ : ∃ m, sz = m + 1 := ⟨sz - 1, by omega⟩
    simp [List.replicate_succ]
  have fin : ∀ T, PI h.next sz len ((h.new (.cells (ofI .u8 (List.replicate sz 0)) .rw)).put h.next (.cells (ofI .u8 (padN len 0)) .rw)) 0 T ((h.new (.cells (ofI .u8 (List.replicate sz 0)) .rw)).put h.next (.cells (ofI .u8 (padN len 0)) .rw)) →
      ∃ h', fnEnd [.tmp 2] (bindE (blockE 0 (loopN (evC (callX E X (N + 9)) 37 (N + 9) none L_sha_padding_0) (N + 9) ⟨T, [], (h.new (.cells (ofI .u8 (List.replicate sz 0)) .rw)).put h.next (.cells (ofI .u8 (padN len 0)) .rw)⟩)) (evC (callX E X (N + 9)) 37 (N + 9) none R_sha_padding_0)) = some (.slice (some (h.next, 0)) sz (some sz) 1, h') ∧ h'.get h.next = some (.cells (ofI .u8 (padV len)) .rw) ∧ Kp h h' ∧ h'.next = h.next + 1 := by
    intro T I
    obtain ⟨T', h', r1, a, t0, t4, t5, t20, gq, eq⟩ := pad_loop (callX E X (N + 9)) (N + 9) h.next sz len (by omega) hsz _ T _ I
    rw [r1]
    simp (config := {maxSteps := 2000000}) (disch := first | omega | (simp only [List.length_cons, List.length_nil, List.length_append, List.length_drop]; omega)) only [R_sha_padding_0, t5, ↓b_xor32, ↓b_and32, ↓b_or32, ↓u_not32, b_xor32, b_and32, b_or32, u_not32, w32ad, ↓x_conv, x_convV, ↓x_fieldAddr, x_fieldV, ↓s_nilchk, x_nilchk, Nat.zero_add, Nat.add_zero, Nat.mul_one, ↓l_loop, ↓l_succ, ↓l_normal, l_normal, l_exit, l_ret, l_iteN, ↓h_put_get, ↓h_new_get, ↓h_del_get, h_next_put, h_next_new, h_next_del, Nat.add_assoc, Nat.add_eq_left, Nat.left_eq_add, Nat.add_left_cancel_iff, ↓s_load, m_load, ↓m_load1, m_load1, ↓m_st, m_stE, m_storeI, m_storeE, w_zero, w_succ, ↓s_alloc, ↓x_idxA, ↓x_idxS, x_idxAE, x_idxSE, x_addrE, x_idx, x_lenS, ↓s_len, ↓x_buildS, x_buildE, ↓x_P0, ↓x_P1, x_fill0, x_filli, x_fills, x_fillb, c_int, List.length_cons, List.length_nil, List.cons_append, List.drop_succ_cons, List.drop_zero, List.drop_nil, List.nil_append, Int.reduceAdd, Int.reduceToNat, Int.reduceLT, Int.reduceLE, Nat.reduceAdd, Nat.reduceMul, Nat.reduceLeDiff, Int.reduceEq, Int.reduceSub, Int.cast_ofNat_Int, s_resc, s_consR, m_load4, m_store4, s_res0, ↓s_skip, ↓s_ops, ↓s_dops, ↓s_seq, ↓s_cond, ↓s_block, ↓s_exit, ↓s_ret, ↓s_scope, ↓s_nil, ↓s_op, ↓s_opg, ↓s_wanted', ↓s_wantV, s_wantV, s_wantV0, beq_true, beq_false, ↓s_bindS, s_bindS, ↓s_bindE, s_bindE, s_bindE_ret, s_bindE_exit, s_bindE_iteN, s_norm, ↓s_condV, s_condV, s_block_ret, s_block_normal, s_block_exit, s_block_iteN, ↓s_getp, ↓s_getp0, ↓s_get, s_get0, ↓s_con, ↓s_fn, ↓s_os0, ↓s_os1, ↓s_list0, ↓s_list1, ↓s_mov, ↓s_pick, ↓s_pickE, s_pickE, ↓s_bin, ↓s_un, ↓s_minmax, ↓s_call, ↓s_callv, ↓s_callV, ↓s_ext, s_same, b_eql, b_neq, b_lss, b_leq, b_gtr, b_geq, b_add, b_sub, b_mul, b_eqlb, b_neqb, b_fnil, b_fnil', b_fnil2, b_fnil2', u_neg, u_not, m_two, s_end, s_end', s_end_iteN, s_res0, s_res1, s_tup1, s_tup2, ↓iteN_true, ↓iteN_false, iteN_true, iteN_false, Nat.zero_add, List.nil_append, List.append_nil, Nat.reduceEqDiff, reduceIte, decide_true, decide_false, Bool.not_true, Bool.not_false, List.getElem?_cons_zero, List.getElem?_cons_succ, Bool.false_eq_true, if_true, if_false, beq_self_eq_true]
    refine ⟨_, rfl, gq, ⟨by rw [eq.1]; simp only [h_next_put, h_next_new]; omega, fun i hi => by rw [eq.2 _ (by omega), h_put_ne _ _ (by omega), h_new_ne _ _ (by omega)]⟩, by rw [eq.1]; rfl⟩
  have w0 : wr .i64 ((len % 64 : Nat) : Int) = ((len % 64 : Nat) : Int) := w64n (by omega)
  have w1 : wr .i64 (64 - ((len % 64 : Nat) : Int)) = ((64 - len % 64 : Nat) : Int) := by rw [wr_i64 (by omega)]; omega
  have w2 : wr .i64 (((64 - len % 64 : Nat) : Int) + 64) = ((128 - len % 64 : Nat) : Int) := by rw [wr_i64 (by omega)]; omega
  have mk := fun (h : H) => mkslice_n h .u8 .i64 sz (by omega)
  have ix : idx (0 : Int) sz = some 0 := by rw [x_idx (by omega) (by omega)]; rfl
  have ste : ∀ (h : H) (i : Nat), storeE (some (.cells (ofI .u8 (List.replicate sz 0)) .rw)) h i 0 [.int .u8 128] = some (h.put i (.cells (ofI .u8 (padN len 0)) .rw)) := fun h i => by
    rw [m_storeE _ _ _ _ _ (by rw [ofI_len]; simp; omega), writeN_set _ _ _ (by rw [ofI_len]; simp; omega)]
    rw [show (V.int .u8 128) = V.int .u8 ((128 : Nat) : Int) from rfl, ofI_set, p0]
  obtain ⟨R, eR⟩ : ∃ R, R_sha_padding_0 = R := ⟨_, rfl⟩
  obtain ⟨L, eL⟩ : ∃ R, L_sha_padding_0 = R := ⟨_, rfl⟩
  rw [eR, eL] at fin ⊢
  generalize ofI .u8 (List.replicate sz 0) = z at *
  obtain ⟨P, eP⟩ : ∃ P, ofI .u8 (padN len 0) = P := ⟨_, rfl⟩
  by_cases h9 : 64 - len % 64 < 9
  · have e9 : 128 - len % 64 = sz := by rw [← hsz]; unfold padSz; rw [if_pos h9]
    rw [e9] at w2
    have c1 : decide (((64 - len % 64 : Nat) : Int) < 9) = true := decide_eq_true (by omega)
    rw [eP] at fin ste
    simp (config := {maxSteps := 2000000}) (disch := first | omega | (simp only [List.length_cons, List.length_nil, List.length_append, List.length_drop]; omega)) only [b_rem64, w0, w1, w2, c1, ix, ste, mk, ↓x_mkslice, ↓b_xor32, ↓b_and32, ↓b_or32, ↓u_not32, b_xor32, b_and32, b_or32, u_not32, w32ad, ↓x_conv, x_convV, ↓x_fieldAddr, x_fieldV, ↓s_nilchk, x_nilchk, Nat.zero_add, Nat.add_zero, Nat.mul_one, ↓s_evD, ↓s_dnil, ↓s_dL, ↓s_dLg, ↓s_dR, ↓s_dRg, ↓s_dRj, ↓s_dRjg, ↓s_dB, ↓s_dBg, ↓s_dAlloc, ↓s_bindD, s_bindD, s_finD, s_finDx, s_addP0, s_addP1, s_addB, s_lookP, ↓s_bump0, ↓s_bump_get, s_bump_next, s_ok0, ↓s_ok1, s_okR0, ↓s_okR1, ↓s_okE, s_okE, s_okE1, s_nth0, s_nthS, Nat.add_zero, Bool.and_self, Bool.and_true, Bool.true_and, ↓l_loop, ↓l_succ, ↓l_normal, l_normal, l_exit, l_ret, l_iteN, ↓h_put_get, ↓h_new_get, ↓h_del_get, h_next_put, h_next_new, h_next_del, Nat.add_assoc, Nat.add_eq_left, Nat.left_eq_add, Nat.add_left_cancel_iff, ↓s_load, m_load, ↓m_load1, m_load1, ↓m_st, m_stE, m_storeI, w_zero, w_succ, ↓s_alloc, ↓x_idxA, ↓x_idxS, x_idxAE, x_idxSE, x_addrE, x_idx, x_lenS, ↓s_len, ↓x_buildS, x_buildE, ↓x_P0, ↓x_P1, x_fill0, x_filli, x_fills, x_fillb, c_int, List.length_cons, List.length_nil, List.cons_append, List.drop_succ_cons, List.drop_zero, List.drop_nil, List.nil_append, Int.reduceAdd, Int.reduceToNat, Int.reduceLT, Int.reduceLE, Nat.reduceAdd, Nat.reduceMul, Nat.reduceLeDiff, Int.reduceEq, Int.reduceSub, Int.cast_ofNat_Int, s_resc, s_consR, m_load4, m_store4, s_res0, ↓s_skip, ↓s_ops, ↓s_dops, ↓s_seq, ↓s_cond, ↓s_block, ↓s_exit, ↓s_ret, ↓s_scope, ↓s_nil, ↓s_op, ↓s_opg, ↓s_wanted', ↓s_wantV, s_wantV, s_wantV0, beq_true, beq_false, ↓s_bindS, s_bindS, ↓s_bindE, s_bindE, s_bindE_ret, s_bindE_exit, s_bindE_iteN, s_norm, ↓s_condV, s_condV, s_block_ret, s_block_normal, s_block_exit, s_block_iteN, ↓s_getp, ↓s_getp0, ↓s_get, s_get0, ↓s_con, ↓s_fn, ↓s_os0, ↓s_os1, ↓s_list0, ↓s_list1, ↓s_mov, ↓s_pick, ↓s_pickE, s_pickE, ↓s_bin, ↓s_un, ↓s_minmax, ↓s_call, ↓s_callv, ↓s_callV, ↓s_ext, s_same, b_eql, b_neq, b_lss, b_leq, b_gtr, b_geq, b_add, b_sub, b_mul, b_eqlb, b_neqb, b_fnil, b_fnil', b_fnil2, b_fnil2', u_neg, u_not, m_two, s_end, s_end', s_end_iteN, s_res0, s_res1, s_tup1, s_tup2, ↓iteN_true, ↓iteN_false, iteN_true, iteN_false, Nat.zero_add, List.nil_append, List.append_nil, Nat.reduceEqDiff, reduceIte, decide_true, decide_false, Bool.not_true, Bool.not_false, List.getElem?_cons_zero, List.getElem?_cons_succ, Bool.false_eq_true, if_true, if_false, beq_self_eq_true]
    refine fin _ ⟨by omega, ?_, ?_, ?_, ?_, by rw [h_put_same, eP], Eqx.refl _ _⟩
    all_goals (simp only [s_getp, s_getp0, Nat.reduceEqDiff, decide_false, decide_true, iteN_false, iteN_true, eP]; try rfl)
  · have e9 : 64 - len % 64 = sz := by rw [← hsz]; unfold padSz; rw [if_neg h9]
    rw [e9] at w1
    have c1 : decide ((sz : Int) < 9) = false := decide_eq_false (by omega)
    rw [eP] at fin ste
    simp (config := {maxSteps := 2000000}) (disch := first | omega | (simp only [List.length_cons, List.length_nil, List.length_append, List.length_drop]; omega)) only [b_rem64, w0, w1, c1, ix, ste, mk, ↓x_mkslice, ↓b_xor32, ↓b_and32, ↓b_or32, ↓u_not32, b_xor32, b_and32, b_or32, u_not32, w32ad, ↓x_conv, x_convV, ↓x_fieldAddr, x_fieldV, ↓s_nilchk, x_nilchk, Nat.zero_add, Nat.add_zero, Nat.mul_one, ↓s_evD, ↓s_dnil, ↓s_dL, ↓s_dLg, ↓s_dR, ↓s_dRg, ↓s_dRj, ↓s_dRjg, ↓s_dB, ↓s_dBg, ↓s_dAlloc, ↓s_bindD, s_bindD, s_finD, s_finDx, s_addP0, s_addP1, s_addB, s_lookP, ↓s_bump0, ↓s_bump_get, s_bump_next, s_ok0, ↓s_ok1, s_okR0, ↓s_okR1, ↓s_okE, s_okE, s_okE1, s_nth0, s_nthS, Nat.add_zero, Bool.and_self, Bool.and_true, Bool.true_and, ↓l_loop, ↓l_succ, ↓l_normal, l_normal, l_exit, l_ret, l_iteN, ↓h_put_get, ↓h_new_get, ↓h_del_get, h_next_put, h_next_new, h_next_del, Nat.add_assoc, Nat.add_eq_left, Nat.left_eq_add, Nat.add_left_cancel_iff, ↓s_load, m_load, ↓m_load1, m_load1, ↓m_st, m_stE, m_storeI, w_zero, w_succ, ↓s_alloc, ↓x_idxA, ↓x_idxS, x_idxAE, x_idxSE, x_addrE, x_idx, x_lenS, ↓s_len, ↓x_buildS, x_buildE, ↓x_P0, ↓x_P1, x_fill0, x_filli, x_fills, x_fillb, c_int, List.length_cons, List.length_nil, List.cons_append, List.drop_succ_cons, List.drop_zero, List.drop_nil, List.nil_append, Int.reduceAdd, Int.reduceToNat, Int.reduceLT, Int.reduceLE, Nat.reduceAdd, Nat.reduceMul, Nat.reduceLeDiff, Int.reduceEq, Int.reduceSub, Int.cast_ofNat_Int, s_resc, s_consR, m_load4, m_store4, s_res0, ↓s_skip, ↓s_ops, ↓s_dops, ↓s_seq, ↓s_cond, ↓s_block, ↓s_exit, ↓s_ret, ↓s_scope, ↓s_nil, ↓s_op, ↓s_opg, ↓s_wanted', ↓s_wantV, s_wantV, s_wantV0, beq_true, beq_false, ↓s_bindS, s_bindS, ↓s_bindE, s_bindE, s_bindE_ret, s_bindE_exit, s_bindE_iteN, s_norm, ↓s_condV, s_condV, s_block_ret, s_block_normal, s_block_exit, s_block_iteN, ↓s_getp, ↓s_getp0, ↓s_get, s_get0, ↓s_con, ↓s_fn, ↓s_os0, ↓s_os1, ↓s_list0, ↓s_list1, ↓s_mov, ↓s_pick, ↓s_pickE, s_pickE, ↓s_bin, ↓s_un, ↓s_minmax, ↓s_call, ↓s_callv, ↓s_callV, ↓s_ext, s_same, b_eql, b_neq, b_lss, b_leq, b_gtr, b_geq, b_add, b_sub, b_mul, b_eqlb, b_neqb, b_fnil, b_fnil', b_fnil2, b_fnil2', u_neg, u_not, m_two, s_end, s_end', s_end_iteN, s_res0, s_res1, s_tup1, s_tup2, ↓iteN_true, ↓iteN_false, iteN_true, iteN_false, Nat.zero_add, List.nil_append, List.append_nil, Nat.reduceEqDiff, reduceIte, decide_true, decide_false, Bool.not_true, Bool.not_false, List.getElem?_cons_zero, List.getElem?_cons_succ, Bool.false_eq_true, if_true, if_false, beq_self_eq_true]
    refine fin _ ⟨by omega, ?_, ?_, ?_, ?_, by rw [h_put_same, eP], Eqx.refl _ _⟩
    all_goals (simp only [s_getp, s_getp0, Nat.reduceEqDiff, decide_false, decide_true, iteN_false, iteN_true, eP]; try rfl)
theorem new_go (e : EnSha E) (x : NoSha X) (N : Nat) (h : H) : ∃ h', callX E X (N + 2) (.fn k_sha_New) [] h = some (.ptr (some (h'.next - 1, 0)), h') ∧ h'.get (h'.next - 1) = some (.cells (sumC squaresL (List.replicate 64 0) 0) .rw) ∧ Kp h h' ∧ h.next < h'.next := by
  rw [x_cfn e.new _ _ (Nat.le_of_ble_eq_true rfl) (x.new _ _)]
  obtain ⟨ha, ra, ka⟩ := square_go e x N h
  have F : ∀ T : Tr V, evO T (.t 1) = .agg (ofI .u32 squaresL) → fillV [.int .u32 0, .int .u32 0, .int .u32 0, .int .u32 0, .int .u32 0, .int .u32 0, .int .u32 0, .int .u32 0, .int .u8 0, .int .u8 0, .int .u8 0, .int .u8 0, .int .u8 0, .int .u8 0, .int .u8 0, .int .u8 0, .int .u8 0, .int .u8 0, .int .u8 0, .int .u8 0, .int .u8 0, .int .u8 0, .int .u8 0, .int .u8 0, .int .u8 0, .int .u8 0, .int .u8 0, .int .u8 0, .int .u8 0, .int .u8 0, .int .u8 0, .int .u8 0, .int .u8 0, .int .u8 0, .int .u8 0, .int .u8 0, .int .u8 0, .int .u8 0, .int .u8 0, .int .u8 0, .int .u8 0, .int .u8 0, .int .u8 0, .int .u8 0, .int .u8 0, .int .u8 0, .int .u8 0, .int .u8 0, .int .u8 0, .int .u8 0, .int .u8 0, .int .u8 0, .int .u8 0, .int .u8 0, .int .u8 0, .int .u8 0, .int .u8 0, .int .u8 0, .int .u8 0, .int .u8 0, .int .u8 0, .int .u8 0, .int .u8 0, .int .u8 0, .int .u8 0, .int .u8 0, .int .u8 0, .int .u8 0, .int .u8 0, .int .u8 0, .int .u8 0, .int .u8 0, .int .u64 0, .bool false] [(0, 8, evO T (.t 1)), (73, 1, .bool true)] = some (sumC squaresL (List.replicate 64 0) 0) := fun T hT => by rw [hT]; rfl
  have F2 : fillV [.int .u32 0, .int .u32 0, .int .u32 0, .int .u32 0, .int .u32 0, .int .u32 0, .int .u32 0, .int .u32 0, .int .u8 0, .int .u8 0, .int .u8 0, .int .u8 0, .int .u8 0, .int .u8 0, .int .u8 0, .int .u8 0, .int .u8 0, .int .u8 0, .int .u8 0, .int .u8 0, .int .u8 0, .int .u8 0, .int .u8 0, .int .u8 0, .int .u8 0, .int .u8 0, .int .u8 0, .int .u8 0, .int .u8 0, .int .u8 0, .int .u8 0, .int .u8 0, .int .u8 0, .int .u8 0, .int .u8 0, .int .u8 0, .int .u8 0, .int .u8 0, .int .u8 0, .int .u8 0, .int .u8 0, .int .u8 0, .int .u8 0, .int .u8 0, .int .u8 0, .int .u8 0, .int .u8 0, .int .u8 0, .int .u8 0, .int .u8 0, .int .u8 0, .int .u8 0, .int .u8 0, .int .u8 0, .int .u8 0, .int .u8 0, .int .u8 0, .int .u8 0, .int .u8 0, .int .u8 0, .int .u8 0, .int .u8 0, .int .u8 0, .int .u8 0, .int .u8 0, .int .u8 0, .int .u8 0, .int .u8 0, .int .u8 0, .int .u8 0, .int .u8 0, .int .u8 0, .int .u64 0, .bool false] [(0, 8, .agg (ofI .u32 squaresL)), (73, 1, .bool true)] = some (sumC squaresL (List.replicate 64 0) 0) := rfl
  generalize ofI .u32 squaresL = sq at *
  generalize sumC squaresL (List.replicate 64 0) 0 = C at *
  simp (config := {maxSteps := 2000000}) (disch := first | omega | (simp only [List.length_cons, List.length_nil, List.length_append, List.length_drop]; omega)) only [ra, F2, ↓x_build, x_aggO, ↓s_box, c_agg, ↓b_xor32, ↓b_and32, ↓b_or32, ↓u_not32, b_xor32, b_and32, b_or32, u_not32, w32ad, ↓x_conv, x_convV, ↓x_fieldAddr, x_fieldV, ↓s_nilchk, x_nilchk, Nat.zero_add, Nat.add_zero, Nat.mul_one, ↓l_loop, ↓l_succ, ↓l_normal, l_normal, l_exit, l_ret, l_iteN, ↓h_put_get, ↓h_new_get, ↓h_del_get, h_next_put, h_next_new, h_next_del, Nat.add_assoc, Nat.add_eq_left, Nat.left_eq_add, Nat.add_left_cancel_iff, ↓s_load, m_load, ↓m_load1, m_load1, ↓m_st, m_stE, m_storeI, w_zero, w_succ, ↓s_alloc, ↓x_idxA, ↓x_idxS, x_idxAE, x_idxSE, x_addrE, x_idx, x_lenS, ↓s_len, ↓x_buildS, x_buildE, ↓x_P0, ↓x_P1, x_fill0, x_filli, x_fills, x_fillb, c_int, List.length_cons, List.length_nil, List.cons_append, List.drop_succ_cons, List.drop_zero, List.drop_nil, List.nil_append, Int.reduceAdd, Int.reduceToNat, Int.reduceLT, Int.reduceLE, Nat.reduceAdd, Nat.reduceMul, Nat.reduceLeDiff, Int.reduceEq, Int.reduceSub, Int.cast_ofNat_Int, s_resc, s_consR, m_load4, m_store4, s_res0, ↓s_skip, ↓s_ops, ↓s_dops, ↓s_seq, ↓s_cond, ↓s_block, ↓s_exit, ↓s_ret, ↓s_scope, ↓s_nil, ↓s_op, ↓s_opg, ↓s_wanted', ↓s_wantV, s_wantV, s_wantV0, beq_true, beq_false, ↓s_bindS, s_bindS, ↓s_bindE, s_bindE, s_bindE_ret, s_bindE_exit, s_bindE_iteN, s_norm, ↓s_condV, s_condV, s_block_ret, s_block_normal, s_block_exit, s_block_iteN, ↓s_getp, ↓s_getp0, ↓s_get, s_get0, ↓s_con, ↓s_fn, ↓s_os0, ↓s_os1, ↓s_list0, ↓s_list1, ↓s_mov, ↓s_pick, ↓s_pickE, s_pickE, ↓s_bin, ↓s_un, ↓s_minmax, ↓s_call, ↓s_callv, ↓s_callV, ↓s_ext, s_same, b_eql, b_neq, b_lss, b_leq, b_gtr, b_geq, b_add, b_sub, b_mul, b_eqlb, b_neqb, b_fnil, b_fnil', b_fnil2, b_fnil2', u_neg, u_not, m_two, s_end, s_end', s_end_iteN, s_res0, s_res1, s_tup1, s_tup2, ↓iteN_true, ↓iteN_false, iteN_true, iteN_false, Nat.zero_add, List.nil_append, List.append_nil, Nat.reduceEqDiff, reduceIte, decide_true, decide_false, Bool.not_true, Bool.not_false, List.getElem?_cons_zero, List.getElem?_cons_succ, Bool.false_eq_true, if_true, if_false, beq_self_eq_true]
  refine ⟨ha.new (.cells C .rw), rfl, by rw [h_next_new, Nat.add_sub_cancel, h_new_same], ka.trans (Kp.new _ _), by have := ka.1; rw [h_next_new]; omega⟩
end Go.Eng
namespace Go.Eng
open Go
variable {E : Nat → Option Fn} {X : Orc}
set_option linter.unusedSimpArgs false
set_option linter.unusedVariables false
def be4 (w : Nat) : List Nat := [sr w 24 % 256, sr w 16 % 256, sr w 8 % 256, w % 256]
def outN (st : List Nat) : Nat → List Nat
  | 0 => List.replicate 32 0
  | i + 1 => (outN st i).take (4 * i) ++ be4 (st.getD i 0) ++ (outN st i).drop (4 * i + 4)
theorem outN_len (st : List Nat) (i : Nat) (h : i ≤ 8) : (outN st i).length = 32 := by
  induction i with
  | zero => rfl
  | succ i ih => have := ih (by omega); simp only [outN, List.length_append, List.length_take, List.length_drop, this, be4, List.length_cons, List.length_nil]; omega
structure EI (o : Nat) (st : List Nat) (h0 : H) (i : Nat) (T : Tr V) (h : H) : Prop where
  i8 : i ≤ 8
  t2 : evO T (.t 2) = evO T (.t 2)
  t4 : evO T (.t 4) = .ptr (some (o, 0))
  t21 : evO T (.t 21) = .agg (ofI .u32 st)
  t22 : evO T (.t 22) = .int .i64 (i : Int)
  go : h.get o = some (.cells (ofI .u8 (outN st i)) .rw)
  kq : Kq o h0 h
  on : o < h0.next
theorem end_step (Q : Orc) (n o r : Nat) (st : List Nat) (hst : st.length = 8) (h0 : H) :
    ∀ i T h, i < 8 → (EI o st h0 i T h ∧ evO T (.t 2) = .ptr (some (r, 0))) → ∃ T' h', evC Q 44 n none L_sha_Sum_End_0 ⟨T, [], h⟩ = some (.normal, ⟨T', [], h'⟩) ∧ (EI o st h0 (i + 1) T' h' ∧ evO T' (.t 2) = .ptr (some (r, 0))) := by
  intro i T h hi ⟨⟨_, _, t4, t21, t22, go, kq, on⟩, t2⟩
  have c0 : decide ((i : Int) < 8) = true := decide_eq_true (by omega)
  have wi : wr .i64 ((i : Int) + 1) = ((i + 1 : Nat) : Int) := by rw [wr_i64 (by omega)]; omega
  have w4 : wr .i64 (4 * (i : Int)) = ((4 * i : Nat) : Int) := by rw [wr_i64 (by omega)]; omega
  have ix : idx (i : Int) 8 = some i := idxn hi
  have vg : partV (ofI .u32 st) i (agSz false 1) = some (.int .u32 (st.getD i 0 : Nat)) := ofI_get _ _ _ (by omega)
  have ol := outN_len st i (by omega)
  have en : outN st (i + 1) = (outN st i).take (4 * i) ++ be4 (st.getD i 0) ++ (outN st i).drop (4 * i + 4) := rfl
  generalize st.getD i 0 = w at *
  have hn : o < h.next := Nat.lt_of_lt_of_le on kq.1
  have no : (h.next = o) = False := by simp; omega
  have s24 : ∀ e h, binV .shr e h (.int .u32 (w : Int)) (.int .u64 24) = some (.int .u32 (sr w 24 : Nat)) := fun e h => b_shr32 e h w 24 (by omega)
  have s16 : ∀ e h, binV .shr e h (.int .u32 (w : Int)) (.int .u64 16) = some (.int .u32 (sr w 16 : Nat)) := fun e h => b_shr32 e h w 16 (by omega)
  have s8 : ∀ e h, binV .shr e h (.int .u32 (w : Int)) (.int .u64 8) = some (.int .u32 (sr w 8 : Nat)) := fun e h => b_shr32 e h w 8 (by omega)
  have sb : ∀ h, slcB (some (.cells (ofI .u8 (outN st i)) .rw)) 32 1 o 0 (some (.int .i64 ((4 * i : Nat) : Int))) none h = some (.slice (some (o, 4 * i)) (32 - 4 * i) (some (32 - 4 * i)) 1, h) := by
    intro h
    rw [x_slcB _ _ _ _ _ _ _ _ _ _ _ (by rw [ofI_len, ol]; omega) (x_bnd0 _ _) (x_bnd _ _ _ _ (by omega)), Nat.mul_one, Nat.zero_add]
  have F : fillV [.int .u8 0, .int .u8 0, .int .u8 0, .int .u8 0] [(0, 1, .int .u8 ((sr w 24 % 256 : Nat) : Int)), (1, 1, .int .u8 ((sr w 16 % 256 : Nat) : Int)), (2, 1, .int .u8 ((sr w 8 % 256 : Nat) : Int)), (3, 1, .int .u8 ((w % 256 : Nat) : Int))] = some (ofI .u8 (be4 w)) := fill_seq0 .u8 (be4 w) _ rfl
  have SC : srcCells (h.new (.cells (ofI .u8 (be4 w)) .rw)) 1 (.slice (some (h.next, 0)) 4 (some 4) 1) = some (4, ofI .u8 (be4 w)) := by
    have : (h.new (.cells (ofI .u8 (be4 w)) .rw)).get h.next = some (.cells (ofI .u8 (be4 w)) .rw) := h_new_same _ _
    unfold srcCells cellsAt
    simp only [this]
    rfl
  have b4 : (be4 w).length = 4 := rfl
  have CP := copy_bytes (h.new (.cells (ofI .u8 (be4 w)) .rw)) o (4 * i) (32 - 4 * i) (some (32 - 4 * i)) (be4 w) (ofI .u8 (outN st i)) .rw rfl (by rw [h_new_ne _ _ (by omega), go]) (by unfold be4; simp) (by omega) (by rw [ofI_len, ol, b4]; omega)
  have hm : min (be4 w).length (32 - 4 * i) = 4 := by rw [b4]; omega
  rw [hm, show (be4 w).take 4 = be4 w from rfl, writeN_eq _ _ _ (by rw [ofI_len, ol]; omega), ofI_len, b4, ofI_take, ofI_drop, ← ofI_app, ← ofI_app, ← en] at CP
  generalize ofI .u8 (outN st i) = C at *
  obtain ⟨C', eC'⟩ : ∃ C, ofI .u8 (outN st (i + 1)) = C := ⟨_, rfl⟩
  rw [eC'] at CP
  obtain ⟨B, eB⟩ : ∃ B, ofI .u8 (be4 w) = B := ⟨_, rfl⟩
  rw [eB] at F SC CP
  refine ⟨_, _, by
    simp (config := {maxSteps := 2000000}) (disch := first | omega | (simp only [List.length_cons, List.length_nil, List.length_append, List.length_drop]; omega)) only [L_sha_Sum_End_0, t2, t4, t21, t22, go, c0, wi, w4, ix, vg, s24, s16, s8, sb, w8n, F, SC, CP, no, x_idxArr, ↓x_slcA, x_slcAE, x_M1, x_M0, ↓x_copy, ↓b_xor32, ↓b_and32, ↓b_or32, ↓u_not32, b_xor32, b_and32, b_or32, u_not32, w32ad, ↓x_conv, x_convV, ↓x_fieldAddr, x_fieldV, ↓s_nilchk, x_nilchk, Nat.zero_add, Nat.add_zero, Nat.mul_one, ↓s_evD, ↓s_dnil, ↓s_dL, ↓s_dLg, ↓s_dR, ↓s_dRg, ↓s_dRj, ↓s_dRjg, ↓s_dB, ↓s_dBg, ↓s_dAlloc, ↓s_bindD, s_bindD, s_finD, s_finDx, s_addP0, s_addP1, s_addB, s_lookP, ↓s_bump0, ↓s_bump_get, s_bump_next, s_ok0, ↓s_ok1, s_okR0, ↓s_okR1, ↓s_okE, s_okE, s_okE1, s_nth0, s_nthS, Nat.add_zero, Bool.and_self, Bool.and_true, Bool.true_and, ↓l_loop, ↓l_succ, ↓l_normal, l_normal, l_exit, l_ret, l_iteN, ↓h_put_get, ↓h_new_get, ↓h_del_get, h_next_put, h_next_new, h_next_del, Nat.add_assoc, Nat.add_eq_left, Nat.left_eq_add, Nat.add_left_cancel_iff, ↓s_load, m_load, ↓m_load1, m_load1, ↓m_st, m_stE, m_storeI, w_zero, w_succ, ↓s_alloc, ↓x_idxA, ↓x_idxS, x_idxAE, x_idxSE, x_addrE, x_idx, x_lenS, ↓s_len, ↓x_buildS, x_buildE, ↓x_P0, ↓x_P1, x_fill0, x_filli, x_fills, x_fillb, c_int, List.length_cons, List.length_nil, List.cons_append, List.drop_succ_cons, List.drop_zero, List.drop_nil, List.nil_append, Int.reduceAdd, Int.reduceToNat, Int.reduceLT, Int.reduceLE, Nat.reduceAdd, Nat.reduceMul, Nat.reduceLeDiff, Int.reduceEq, Int.reduceSub, Int.cast_ofNat_Int, s_resc, s_consR, m_load4, m_store4, s_res0, ↓s_skip, ↓s_ops, ↓s_dops, ↓s_seq, ↓s_cond, ↓s_block, ↓s_exit, ↓s_ret, ↓s_scope, ↓s_nil, ↓s_op, ↓s_opg, ↓s_wanted', ↓s_wantV, s_wantV, s_wantV0, beq_true, beq_false, ↓s_bindS, s_bindS, ↓s_bindE, s_bindE, s_bindE_ret, s_bindE_exit, s_bindE_iteN, s_norm, ↓s_condV, s_condV, s_block_ret, s_block_normal, s_block_exit, s_block_iteN, ↓s_getp, ↓s_getp0, ↓s_get, s_get0, ↓s_con, ↓s_fn, ↓s_os0, ↓s_os1, ↓s_list0, ↓s_list1, ↓s_mov, ↓s_pick, ↓s_pickE, s_pickE, ↓s_bin, ↓s_un, ↓s_minmax, ↓s_call, ↓s_callv, ↓s_callV, ↓s_ext, s_same, b_eql, b_neq, b_lss, b_leq, b_gtr, b_geq, b_add, b_sub, b_mul, b_eqlb, b_neqb, b_fnil, b_fnil', b_fnil2, b_fnil2', u_neg, u_not, m_two, s_end, s_end', s_end_iteN, s_res0, s_res1, s_tup1, s_tup2, ↓iteN_true, ↓iteN_false, iteN_true, iteN_false, Nat.zero_add, List.nil_append, List.append_nil, Nat.reduceEqDiff, reduceIte, decide_true, decide_false, Bool.not_true, Bool.not_false, List.getElem?_cons_zero, List.getElem?_cons_succ, Bool.false_eq_true, if_true, if_false, beq_self_eq_true]
    exact rfl, ⟨⟨by omega, rfl, (by (simp only [s_getp, s_getp0, Nat.reduceEqDiff, decide_false, decide_true, iteN_false, iteN_true, t4]; try rfl)), (by (simp only [s_getp, s_getp0, Nat.reduceEqDiff, decide_false, decide_true, iteN_false, iteN_true, t21]; try rfl)), (by (simp only [s_getp, s_getp0, Nat.reduceEqDiff, decide_false, decide_true, iteN_false, iteN_true, t4]; try rfl)), by rw [h_put_same, eC'], (kq.new _).put _ (.inr rfl), on⟩, (by (simp only [s_getp, s_getp0, Nat.reduceEqDiff, decide_false, decide_true, iteN_false, iteN_true, t2]; try rfl))⟩⟩
theorem end_loop (Q : Orc) (n o r : Nat) (hn : 8 < n) (st : List Nat) (hst : st.length = 8) (h0 : H) (T : Tr V) (h : H) (I : EI o st h0 0 T h ∧ evO T (.t 2) = .ptr (some (r, 0))) :
    ∃ T' h', loopN (evC Q 44 n none L_sha_Sum_End_0) n ⟨T, [], h⟩ = some (.exit 0, ⟨T', [], h'⟩) ∧ (EI o st h0 8 T' h' ∧ evO T' (.t 2) = .ptr (some (r, 0))) :=
  loop_go (fun i T h => EI o st h0 i T h ∧ evO T (.t 2) = .ptr (some (r, 0))) 8 (.exit 0) (by intro h; cases h) _ (end_step Q n o r st hst h0) (fun T h I => by
    obtain ⟨⟨a, _, t4, t21, t22, go, kq, on⟩, t2⟩ := I
    have c0 : decide (((8 : Nat) : Int) < 8) = false := rfl
    refine ⟨_, _, by
      simp (config := {maxSteps := 2000000}) (disch := first | omega | (simp only [List.length_cons, List.length_nil, List.length_append, List.length_drop]; omega)) only [L_sha_Sum_End_0, t22, c0, ↓b_xor32, ↓b_and32, ↓b_or32, ↓u_not32, b_xor32, b_and32, b_or32, u_not32, w32ad, ↓x_conv, x_convV, ↓x_fieldAddr, x_fieldV, ↓s_nilchk, x_nilchk, Nat.zero_add, Nat.add_zero, Nat.mul_one, ↓l_loop, ↓l_succ, ↓l_normal, l_normal, l_exit, l_ret, l_iteN, ↓h_put_get, ↓h_new_get, ↓h_del_get, h_next_put, h_next_new, h_next_del, Nat.add_assoc, Nat.add_eq_left, Nat.left_eq_add, Nat.add_left_cancel_iff, ↓s_load, m_load, ↓m_load1, m_load1, ↓m_st, m_stE, m_storeI, w_zero, w_succ, ↓s_alloc, ↓x_idxA, ↓x_idxS, x_idxAE, x_idxSE, x_addrE, x_idx, x_lenS, ↓s_len, ↓x_buildS, x_buildE, ↓x_P0, ↓x_P1, x_fill0, x_filli, x_fills, x_fillb, c_int, List.length_cons, List.length_nil, List.cons_append, List.drop_succ_cons, List.drop_zero, List.drop_nil, List.nil_append, Int.reduceAdd, Int.reduceToNat, Int.reduceLT, Int.reduceLE, Nat.reduceAdd, Nat.reduceMul, Nat.reduceLeDiff, Int.reduceEq, Int.reduceSub, Int.cast_ofNat_Int, s_resc, s_consR, m_load4, m_store4, s_res0, ↓s_skip, ↓s_ops, ↓s_dops, ↓s_seq, ↓s_cond, ↓s_block, ↓s_exit, ↓s_ret, ↓s_scope, ↓s_nil, ↓s_op, ↓s_opg, ↓s_wanted', ↓s_wantV, s_wantV, s_wantV0, beq_true, beq_false, ↓s_bindS, s_bindS, ↓s_bindE, s_bindE, s_bindE_ret, s_bindE_exit, s_bindE_iteN, s_norm, ↓s_condV, s_condV, s_block_ret, s_block_normal, s_block_exit, s_block_iteN, ↓s_getp, ↓s_getp0, ↓s_get, s_get0, ↓s_con, ↓s_fn, ↓s_os0, ↓s_os1, ↓s_list0, ↓s_list1, ↓s_mov, ↓s_pick, ↓s_pickE, s_pickE, ↓s_bin, ↓s_un, ↓s_minmax, ↓s_call, ↓s_callv, ↓s_callV, ↓s_ext, s_same, b_eql, b_neq, b_lss, b_leq, b_gtr, b_geq, b_add, b_sub, b_mul, b_eqlb, b_neqb, b_fnil, b_fnil', b_fnil2, b_fnil2', u_neg, u_not, m_two, s_end, s_end', s_end_iteN, s_res0, s_res1, s_tup1, s_tup2, ↓iteN_true, ↓iteN_false, iteN_true, iteN_false, Nat.zero_add, List.nil_append, List.append_nil, Nat.reduceEqDiff, reduceIte, decide_true, decide_false, Bool.not_true, Bool.not_false, List.getElem?_cons_zero, List.getElem?_cons_succ, Bool.false_eq_true, if_true, if_false, beq_self_eq_true]
      exact rfl, ⟨⟨a, rfl, (by (simp only [s_getp, s_getp0, Nat.reduceEqDiff, decide_false, decide_true, iteN_false, iteN_true, t4]; try rfl)), (by (simp only [s_getp, s_getp0, Nat.reduceEqDiff, decide_false, decide_true, iteN_false, iteN_true, t21]; try rfl)), (by (simp only [s_getp, s_getp0, Nat.reduceEqDiff, decide_false, decide_true, iteN_false, iteN_true, t22]; try rfl)), go, kq, on⟩, (by (simp only [s_getp, s_getp0, Nat.reduceEqDiff, decide_false, decide_true, iteN_false, iteN_true, t2]; try rfl))⟩⟩) 8 0 rfl n hn T h I
def hashV (st : List Nat) : List Nat := outN st 8
def endV (s : Sm) : List Nat := hashV (absorb s (padV s.len)).st
def initS : Sm := ⟨squaresL, List.replicate 64 0, 0⟩
def shaV (l : List Nat) : List Nat := endV (absorb initS l)
theorem initS_ok : SmOk initS := ⟨rfl, rfl, by decide⟩
theorem sumC_plain (st blk : List Nat) (len : Nat) : (sumC st blk len).all plainV = true := by
  unfold sumC; rw [List.all_append, List.all_append, plain_ofI, plain_ofI]; rfl
theorem writeN_all (z l : List V) (h : z.length = l.length) : writeN z 0 l = l := by rw [w_zero, List.drop_eq_nil_of_le (by omega), List.append_nil]
theorem end_go (e : EnSha E) (x : NoSha X) (M p : Nat) (s : Sm) (ok : SmOk s) (h : H) (hM : 100 < M) (hp : h.get p = some (.cells (sumC s.st s.blk s.len) .rw)) (hpn : p < h.next) :
    ∃ h', callX E X (M + 81) (.fn k_sha_Sum_End) [.ptr (some (p, 0))] h = some (.agg (ofI .u8 (endV s)), h') ∧ Kp h h' := by
  rw [x_cfn e.fin _ _ (Nat.le_of_ble_eq_true rfl) (x.fin _ _)]
  have z32 : ofI .u8 (List.replicate 32 0) = [.int .u8 0, .int .u8 0, .int .u8 0, .int .u8 0, .int .u8 0, .int .u8 0, .int .u8 0, .int .u8 0, .int .u8 0, .int .u8 0, .int .u8 0, .int .u8 0, .int .u8 0, .int .u8 0, .int .u8 0, .int .u8 0, .int .u8 0, .int .u8 0, .int .u8 0, .int .u8 0, .int .u8 0, .int .u8 0, .int .u8 0, .int .u8 0, .int .u8 0, .int .u8 0, .int .u8 0, .int .u8 0, .int .u8 0, .int .u8 0, .int .u8 0, .int .u8 0] := rfl
  obtain ⟨z74, e74⟩ : ∃ z, ([.int .u32 0, .int .u32 0, .int .u32 0, .int .u32 0, .int .u32 0, .int .u32 0, .int .u32 0, .int .u32 0, .int .u8 0, .int .u8 0, .int .u8 0, .int .u8 0, .int .u8 0, .int .u8 0, .int .u8 0, .int .u8 0, .int .u8 0, .int .u8 0, .int .u8 0, .int .u8 0, .int .u8 0, .int .u8 0, .int .u8 0, .int .u8 0, .int .u8 0, .int .u8 0, .int .u8 0, .int .u8 0, .int .u8 0, .int .u8 0, .int .u8 0, .int .u8 0, .int .u8 0, .int .u8 0, .int .u8 0, .int .u8 0, .int .u8 0, .int .u8 0, .int .u8 0, .int .u8 0, .int .u8 0, .int .u8 0, .int .u8 0, .int .u8 0, .int .u8 0, .int .u8 0, .int .u8 0, .int .u8 0, .int .u8 0, .int .u8 0, .int .u8 0, .int .u8 0, .int .u8 0, .int .u8 0, .int .u8 0, .int .u8 0, .int .u8 0, .int .u8 0, .int .u8 0, .int .u8 0, .int .u8 0, .int .u8 0, .int .u8 0, .int .u8 0, .int .u8 0, .int .u8 0, .int .u8 0, .int .u8 0, .int .u8 0, .int .u8 0, .int .u8 0, .int .u8 0, .int .u64 0, .bool false] : List V) = z := ⟨_, rfl⟩
  have l74 : z74.length = 74 := by rw [← e74]; rfl
  obtain ⟨h1, e1⟩ : ∃ h1, h.new (.cells (ofI .u8 (List.replicate 32 0)) .rw) = h1 := ⟨_, rfl⟩
  have n1 : h1.next = h.next + 1 := by rw [← e1]; rfl
  have g1 : h1.get p = some (.cells (sumC s.st s.blk s.len) .rw) := by rw [← e1, h_new_ne _ _ (by omega), hp]
  have su := sums_go e x (M + 79) p s.st s.blk s.len .rw h1 ok.1 ok.2.1 g1
  have sle := sumC_len s.st s.blk s.len ok.1 ok.2.1
  have ld : loadE (some (.cells (sumC s.st s.blk s.len) .rw)) (some 74) 0 = some (.agg (sumC s.st s.blk s.len)) := by rw [m_loadN, x_readAll _ 74 sle]
  have ll : loadE (some (.cells (sumC s.st s.blk s.len) .rw)) none 72 = some (.int .u64 (s.len : Int)) := by rw [m_load1, sumC_l _ _ _ ok.1 ok.2.1]
  have S74 : ∀ (h : H) (i : Nat), storeV h 74 (.ptr (some (i, 0))) (.agg (sumC s.st s.blk s.len)) = storeE (h.get i) h i 0 (sumC s.st s.blk s.len) := fun h i => m_storeA h 74 i 0 _ (by rw [sle, sumC_plain]; rfl)
  have st74 : ∀ (h : H) (i : Nat), storeE (some (.cells z74 .rw)) h i 0 (sumC s.st s.blk s.len) = some (h.put i (.cells (sumC s.st s.blk s.len) .rw)) := fun h i => by rw [m_storeE _ _ _ _ _ (by omega), writeN_all _ _ (by omega)]
  obtain ⟨h2, e2⟩ : ∃ h2, (h1.new (.cells z74 .rw)).put (h.next + 1) (.cells (sumC s.st s.blk s.len) .rw) = h2 := ⟨_, rfl⟩
  have n2 : h2.next = h.next + 2 := by rw [← e2]; simp only [h_next_put, h_next_new, n1]
  have k2 : Kp h h2 := by rw [← e2, ← e1]; exact (((Kp.new _ _).trans (Kp.new _ _))).put _ (by omega)
  obtain ⟨h3, r3, g3, k3, n3⟩ := pad_go e x (M + 70) s.len ok.2.2 h2
  rw [n2] at r3 g3 n3
  have k23 := k2.trans k3
  have g3q : h3.get (h.next + 1) = some (.cells (sumC s.st s.blk s.len) .rw) := by rw [k3.2 _ (by omega), ← e2, h_put_same]
  obtain ⟨h4, r4, g4, k4⟩ := write_go e x M (h.next + 1) s ok (padV s.len) (some (h.next + 2, 0)) (some (padV s.len).length) 1 h3 (by have := padSz_b s.len; rw [padV_len]; omega) (by have := padSz_b s.len; rw [padV_len]; omega) g3q (by omega) (.inr ⟨h.next + 2, 0, _, _, rfl, rfl, by omega, by omega, g3, by rw [ofI_len]; omega, by rw [List.drop_zero, ← ofI_len .u8, List.take_length]⟩)
  have ok2 := absorb_ok (padV s.len) s ok
  have aE : endV s = hashV (absorb s (padV s.len)).st := rfl
  obtain ⟨s2, es2⟩ : ∃ s2, absorb s (padV s.len) = s2 := ⟨_, rfl⟩
  rw [es2] at g4 ok2 aE
  have g4r : h4.get h.next = some (.cells (ofI .u8 (List.replicate 32 0)) .rw) := by
    rw [k4.2 _ (by omega) (by omega), k3.2 _ (by omega), ← e2, h_put_ne _ _ (by omega), h_new_ne _ _ (by omega), ← e1, h_new_same]
  have k4h : Kp h h4 := ⟨by have := k4.1; omega, fun i hi => by rw [k4.2 _ (by omega) (by omega), k23.2 _ hi]⟩
  have n4 : h.next + 3 ≤ h4.next := by have := k4.1; omega
  have fin : ∀ T, EI h4.next s2.st (h4.new (.cells (ofI .u8 (List.replicate 32 0)) .rw)) 0 T (h4.new (.cells (ofI .u8 (List.replicate 32 0)) .rw)) ∧ evO T (.t 2) = .ptr (some (h.next, 0)) →
      ∃ h', fnEnd [.cell 2 (some 32)] (bindE (blockE 0 (loopN (evC (callX E X (M + 80)) 44 (M + 80) none L_sha_Sum_End_0) (M + 80) ⟨T, [], h4.new (.cells (ofI .u8 (List.replicate 32 0)) .rw)⟩)) (evC (callX E X (M + 80)) 44 (M + 80) none R_sha_Sum_End_0)) = some (.agg (ofI .u8 (endV s)), h') ∧ Kp h h' := by
    intro T I
    obtain ⟨T', h', r5, ⟨a, _, t4, t21, t22, go, kq, on⟩, t2⟩ := end_loop (callX E X (M + 80)) (M + 80) h4.next h.next (by omega) s2.st ok2.1 _ T _ I
    rw [r5, aE]
    have go' : h'.get h4.next = some (.cells (ofI .u8 (hashV s2.st)) .rw) := go
    have hl : (ofI .u8 (hashV s2.st)).length = 32 := by rw [ofI_len]; exact outN_len _ _ (by omega)
    have gr : h'.get h.next = some (.cells (ofI .u8 (List.replicate 32 0)) .rw) := by rw [kq.2 _ (by rw [h_next_new]; omega) (by omega), h_new_ne _ _ (by omega), g4r]
    have l32 : loadE (some (.cells (ofI .u8 (hashV s2.st)) .rw)) (some 32) 0 = some (.agg (ofI .u8 (hashV s2.st))) := by rw [m_loadN, x_readAll _ 32 hl]
    have S32 : ∀ (h : H) (i : Nat), storeV h 32 (.ptr (some (i, 0))) (.agg (ofI .u8 (hashV s2.st))) = storeE (h.get i) h i 0 (ofI .u8 (hashV s2.st)) := fun h i => m_storeA h 32 i 0 _ (by rw [hl, plain_ofI]; rfl)
    have st32 : ∀ (h : H) (i : Nat), storeE (some (.cells (ofI .u8 (List.replicate 32 0)) .rw)) h i 0 (ofI .u8 (hashV s2.st)) = some (h.put i (.cells (ofI .u8 (hashV s2.st)) .rw)) := fun h i => by rw [m_storeE _ _ _ _ _ (by rw [hl, ofI_len, List.length_replicate]; omega), writeN_all _ _ (by rw [hl, ofI_len, List.length_replicate])]
    generalize ofI .u8 (hashV s2.st) = R at *
    generalize ofI .u8 (List.replicate 32 0) = Z at *
    simp (config := {maxSteps := 2000000}) (disch := first | omega | (simp only [List.length_cons, List.length_nil, List.length_append, List.length_drop]; omega)) only [R_sha_Sum_End_0, t2, t4, go', gr, l32, S32, st32, ↓b_xor32, ↓b_and32, ↓b_or32, ↓u_not32, b_xor32, b_and32, b_or32, u_not32, w32ad, ↓x_conv, x_convV, ↓x_fieldAddr, x_fieldV, ↓s_nilchk, x_nilchk, Nat.zero_add, Nat.add_zero, Nat.mul_one, ↓l_loop, ↓l_succ, ↓l_normal, l_normal, l_exit, l_ret, l_iteN, ↓h_put_get, ↓h_new_get, ↓h_del_get, h_next_put, h_next_new, h_next_del, Nat.add_assoc, Nat.add_eq_left, Nat.left_eq_add, Nat.add_left_cancel_iff, ↓s_load, m_load, ↓m_load1, m_load1, ↓m_st, m_stE, m_storeI, w_zero, w_succ, ↓s_alloc, ↓x_idxA, ↓x_idxS, x_idxAE, x_idxSE, x_addrE, x_idx, x_lenS, ↓s_len, ↓x_buildS, x_buildE, ↓x_P0, ↓x_P1, x_fill0, x_filli, x_fills, x_fillb, c_int, List.length_cons, List.length_nil, List.cons_append, List.drop_succ_cons, List.drop_zero, List.drop_nil, List.nil_append, Int.reduceAdd, Int.reduceToNat, Int.reduceLT, Int.reduceLE, Nat.reduceAdd, Nat.reduceMul, Nat.reduceLeDiff, Int.reduceEq, Int.reduceSub, Int.cast_ofNat_Int, s_resc, s_consR, m_load4, m_store4, s_res0, ↓s_skip, ↓s_ops, ↓s_dops, ↓s_seq, ↓s_cond, ↓s_block, ↓s_exit, ↓s_ret, ↓s_scope, ↓s_nil, ↓s_op, ↓s_opg, ↓s_wanted', ↓s_wantV, s_wantV, s_wantV0, beq_true, beq_false, ↓s_bindS, s_bindS, ↓s_bindE, s_bindE, s_bindE_ret, s_bindE_exit, s_bindE_iteN, s_norm, ↓s_condV, s_condV, s_block_ret, s_block_normal, s_block_exit, s_block_iteN, ↓s_getp, ↓s_getp0, ↓s_get, s_get0, ↓s_con, ↓s_fn, ↓s_os0, ↓s_os1, ↓s_list0, ↓s_list1, ↓s_mov, ↓s_pick, ↓s_pickE, s_pickE, ↓s_bin, ↓s_un, ↓s_minmax, ↓s_call, ↓s_callv, ↓s_callV, ↓s_ext, s_same, b_eql, b_neq, b_lss, b_leq, b_gtr, b_geq, b_add, b_sub, b_mul, b_eqlb, b_neqb, b_fnil, b_fnil', b_fnil2, b_fnil2', u_neg, u_not, m_two, s_end, s_end', s_end_iteN, s_res0, s_res1, s_tup1, s_tup2, ↓iteN_true, ↓iteN_false, iteN_true, iteN_false, Nat.zero_add, List.nil_append, List.append_nil, Nat.reduceEqDiff, reduceIte, decide_true, decide_false, Bool.not_true, Bool.not_false, List.getElem?_cons_zero, List.getElem?_cons_succ, Bool.false_eq_true, if_true, if_false, beq_self_eq_true]
    refine ⟨_, rfl, ⟨by have := kq.1; rw [h_next_new] at this; simp only [h_next_put]; omega, fun i hi => ?_⟩⟩
    rw [h_put_ne _ _ (by omega), kq.2 _ (by rw [h_next_new]; omega) (by omega), h_new_ne _ _ (by omega), k4h.2 _ hi]
  have ld8 : loadE (some (.cells (sumC s2.st s2.blk s2.len) .rw)) (some 8) 0 = some (.agg (ofI .u32 s2.st)) := by
    have hs : (ofI .u32 s2.st).length = 8 := by rw [ofI_len, ok2.1]
    rw [m_loadN, readN_of _ _ _ (by rw [sumC_len _ _ _ ok2.1 ok2.2.1]; omega)]
    unfold sumC
    rw [List.drop_zero, List.take_left' hs]
  have g4q : (h4.new (.cells (ofI .u8 (List.replicate 32 0)) .rw)).get (h.next + 1) = some (.cells (sumC s2.st s2.blk s2.len) .rw) := by rw [h_new_ne _ _ (by omega), g4]
  have ng : (h.next = h.next + 1) = False := by simp
  have np : (h.next = p) = False := by simp; omega
  have np1 : (h.next + 1 = p) = False := by simp; omega
  have n4q : (h4.next = h.next + 1) = False := by simp; omega
  have x1 : ∀ v : V, V.cells (.agg [v]) = [v] := fun _ => rfl
  have gp2 : h2.get p = some (.cells (sumC s.st s.blk s.len) .rw) := by rw [k2.2 _ hpn, hp]
  obtain ⟨R, eR⟩ : ∃ R, R_sha_Sum_End_0 = R := ⟨_, rfl⟩
  obtain ⟨L, eL⟩ : ∃ R, L_sha_Sum_End_0 = R := ⟨_, rfl⟩
  have o0 : ofI .u8 (outN s2.st 0) = ofI .u8 (List.replicate 32 0) := rfl
  rw [eR, eL] at fin ⊢
  rw [e74, ← z32]
  generalize ofI .u8 (List.replicate 32 0) = z at *
  generalize sumC s.st s.blk s.len = C at *
  generalize sumC s2.st s2.blk s2.len = C2 at *
  obtain ⟨pl, epl⟩ : ∃ l, padV s.len = l := ⟨_, rfl⟩
  rw [epl] at r3 r4
  simp (config := {maxSteps := 2000000}) (disch := first | omega | (simp only [List.length_cons, List.length_nil, List.length_append, List.length_drop]; omega)) only [e1, n1, su, g1, ld, ll, S74, st74, e2, gp2, r3, r4, g4q, g4, n4q, ld8, ng, np, np1, ↓b_xor32, ↓b_and32, ↓b_or32, ↓u_not32, b_xor32, b_and32, b_or32, u_not32, w32ad, ↓x_conv, x_convV, ↓x_fieldAddr, x_fieldV, ↓s_nilchk, x_nilchk, Nat.zero_add, Nat.add_zero, Nat.mul_one, ↓l_loop, ↓l_succ, ↓l_normal, l_normal, l_exit, l_ret, l_iteN, ↓h_put_get, ↓h_new_get, ↓h_del_get, h_next_put, h_next_new, h_next_del, Nat.add_assoc, Nat.add_eq_left, Nat.left_eq_add, Nat.add_left_cancel_iff, ↓s_load, m_load, ↓m_load1, m_load1, ↓m_st, m_stE, m_storeI, w_zero, w_succ, ↓s_alloc, ↓x_idxA, ↓x_idxS, x_idxAE, x_idxSE, x_addrE, x_idx, x_lenS, ↓s_len, ↓x_buildS, x_buildE, ↓x_P0, ↓x_P1, x_fill0, x_filli, x_fills, x_fillb, c_int, List.length_cons, List.length_nil, List.cons_append, List.drop_succ_cons, List.drop_zero, List.drop_nil, List.nil_append, Int.reduceAdd, Int.reduceToNat, Int.reduceLT, Int.reduceLE, Nat.reduceAdd, Nat.reduceMul, Nat.reduceLeDiff, Int.reduceEq, Int.reduceSub, Int.cast_ofNat_Int, s_resc, s_consR, m_load4, m_store4, s_res0, ↓s_skip, ↓s_ops, ↓s_dops, ↓s_seq, ↓s_cond, ↓s_block, ↓s_exit, ↓s_ret, ↓s_scope, ↓s_nil, ↓s_op, ↓s_opg, ↓s_wanted', ↓s_wantV, s_wantV, s_wantV0, beq_true, beq_false, ↓s_bindS, s_bindS, ↓s_bindE, s_bindE, s_bindE_ret, s_bindE_exit, s_bindE_iteN, s_norm, ↓s_condV, s_condV, s_block_ret, s_block_normal, s_block_exit, s_block_iteN, ↓s_getp, ↓s_getp0, ↓s_get, s_get0, ↓s_con, ↓s_fn, ↓s_os0, ↓s_os1, ↓s_list0, ↓s_list1, ↓s_mov, ↓s_pick, ↓s_pickE, s_pickE, ↓s_bin, ↓s_un, ↓s_minmax, ↓s_call, ↓s_callv, ↓s_callV, ↓s_ext, s_same, b_eql, b_neq, b_lss, b_leq, b_gtr, b_geq, b_add, b_sub, b_mul, b_eqlb, b_neqb, b_fnil, b_fnil', b_fnil2, b_fnil2', u_neg, u_not, m_two, s_end, s_end', s_end_iteN, s_res0, s_res1, s_tup1, s_tup2, ↓iteN_true, ↓iteN_false, iteN_true, iteN_false, Nat.zero_add, List.nil_append, List.append_nil, Nat.reduceEqDiff, reduceIte, decide_true, decide_false, Bool.not_true, Bool.not_false, List.getElem?_cons_zero, List.getElem?_cons_succ, Bool.false_eq_true, if_true, if_false, beq_self_eq_true]
  exact fin _ ⟨⟨by omega, rfl, (by (simp only [s_getp, s_getp0, Nat.reduceEqDiff, decide_false, decide_true, iteN_false, iteN_true, o0]; try rfl)), (by (simp only [s_getp, s_getp0, Nat.reduceEqDiff, decide_false, decide_true, iteN_false, iteN_true, o0]; try rfl)), (by (simp only [s_getp, s_getp0, Nat.reduceEqDiff, decide_false, decide_true, iteN_false, iteN_true, o0]; try rfl)), by rw [o0, h_new_same], Kq.refl _ _, by rw [h_next_new]; omega⟩, (by (simp only [s_getp, s_getp0, Nat.reduceEqDiff, decide_false, decide_true, iteN_false, iteN_true, o0]; try rfl))⟩
end Go.Eng
namespace Go.Eng
open Go
variable {E : Nat → Option Fn} {X : Orc}
set_option linter.unusedSimpArgs false
set_option linter.unusedVariables false
def SrcH (h : H) (a : Option (Nat × Nat)) (e : Nat) (l : List Nat) : Prop :=
  l = [] ∨ ∃ bi off vs m, a = some (bi, off) ∧ e = 1 ∧ bi < h.next ∧ h.get bi = some (.cells vs m) ∧ off + l.length ≤ vs.length ∧ (vs.drop off).take l.length = ofI .u8 l
theorem SrcH.src {h h' : H} {a : Option (Nat × Nat)} {e : Nat} {l : List Nat} (s : SrcH h a e l) (k : Kp h h') (p : Nat) (hp : h.next ≤ p) : Src h' p h'.next a e l := by
  rcases s with h | ⟨bi, off, vs, m, h1, h2, h3, h4, h5, h6⟩
  · exact .inl h
  · exact .inr ⟨bi, off, vs, m, h1, h2, by omega, Nat.lt_of_lt_of_le h3 k.1, by rw [k.2 _ h3, h4], h5, h6⟩
theorem SrcH.mono {h h' : H} {a : Option (Nat × Nat)} {e : Nat} {l : List Nat} (s : SrcH h a e l) (k : Kp h h') : SrcH h' a e l := by
  rcases s with h | ⟨bi, off, vs, m, h1, h2, h3, h4, h5, h6⟩
  · exact .inl h
  · exact .inr ⟨bi, off, vs, m, h1, h2, Nat.lt_of_lt_of_le h3 k.1, by rw [k.2 _ h3, h4], h5, h6⟩
theorem Kp.of_q {p : Nat} {h h' : H} (k : Kq p h h') (hp : h.next ≤ p) : Kp h h' := ⟨k.1, fun i hi => k.2 i hi (by omega)⟩
theorem hashV_len (st : List Nat) : (hashV st).length = 32 := outN_len _ _ (by omega)
theorem shaV_len (l : List Nat) : (shaV l).length = 32 := hashV_len _
/-- an answer of 32 bytes, put and read -/
theorem put32 (l : List Nat) (hl : l.length = 32) : (∀ (h : H) (i : Nat), storeV h 32 (.ptr (some (i, 0))) (.agg (ofI .u8 l)) = storeE (h.get i) h i 0 (ofI .u8 l)) ∧
    (∀ (h : H) (i : Nat), storeE (some (.cells (ofI .u8 (List.replicate 32 0)) .rw)) h i 0 (ofI .u8 l) = some (h.put i (.cells (ofI .u8 l) .rw))) ∧
    (∀ m, loadE (some (.cells (ofI .u8 l) m)) (some 32) 0 = some (.agg (ofI .u8 l))) := by
  have h32 : (ofI .u8 l).length = 32 := by rw [ofI_len, hl]
  exact ⟨fun h i => m_storeA h 32 i 0 _ (by rw [h32, plain_ofI]; rfl), fun h i => by rw [m_storeE _ _ _ _ _ (by rw [h32, ofI_len, List.length_replicate]; omega), writeN_all _ _ (by rw [h32, ofI_len, List.length_replicate])], fun m => by rw [m_loadN, x_readAll _ 32 h32]⟩
theorem z32e : ofI .u8 (List.replicate 32 0) = [.int .u8 0, .int .u8 0, .int .u8 0, .int .u8 0, .int .u8 0, .int .u8 0, .int .u8 0, .int .u8 0, .int .u8 0, .int .u8 0, .int .u8 0, .int .u8 0, .int .u8 0, .int .u8 0, .int .u8 0, .int .u8 0, .int .u8 0, .int .u8 0, .int .u8 0, .int .u8 0, .int .u8 0, .int .u8 0, .int .u8 0, .int .u8 0, .int .u8 0, .int .u8 0, .int .u8 0, .int .u8 0, .int .u8 0, .int .u8 0, .int .u8 0, .int .u8 0] := rfl
theorem of_go (e : EnSha E) (x : NoSha X) (e1 : E k_sha_Of = some f_sha_Of) (x1 : ∀ a h, X (.fn k_sha_Of) a h = none) (M : Nat) (l : List Nat) (a : Option (Nat × Nat)) (c : Option Nat) (ez : Nat) (h : H) (hM : l.length < M) (hM0 : 100 < M) (hM2 : l.length < 9223372036854775808) (src : SrcH h a ez l) :
    ∃ h', callX E X (M + 82) (.fn k_sha_Of) [.slice a l.length c ez] h = some (.agg (ofI .u8 (shaV l)), h') ∧ Kp h h' := by
  rw [x_cfn e1 _ _ (Nat.le_of_ble_eq_true rfl) (x1 _ _)]
  obtain ⟨h1, eh1⟩ : ∃ h1, h.new (.cells (ofI .u8 (List.replicate 32 0)) .rw) = h1 := ⟨_, rfl⟩
  have n1 : h1.next = h.next + 1 := by rw [← eh1]; rfl
  have k1 : Kp h h1 := by rw [← eh1]; exact Kp.new _ _
  have g1 : h1.get h.next = some (.cells (ofI .u8 (List.replicate 32 0)) .rw) := by rw [← eh1, h_new_same]
  obtain ⟨h2, r2, g2, k2, n2⟩ := new_go e x (M + 79) h1
  obtain ⟨h3, r3, g3, k3⟩ := write_go e x (M + 1) (h2.next - 1) initS initS_ok l a c ez h2 (by omega) hM2 g2 (by omega) (src.src (k1.trans k2) _ (by omega))
  obtain ⟨h4, r4, k4⟩ := end_go e x M (h2.next - 1) (absorb initS l) (absorb_ok l _ initS_ok) h3 hM0 g3 (by have := k3.1; omega)
  have K3 : Kp h1 h3 := ⟨by have := k3.1; have := k2.1; omega, fun i hi => by rw [k3.2 _ (by omega) (by omega), k2.2 _ hi]⟩
  have K4 : Kp h1 h4 := K3.trans k4
  have g4 : h4.get h.next = some (.cells (ofI .u8 (List.replicate 32 0)) .rw) := by rw [K4.2 _ (by omega), g1]
  obtain ⟨p1, p2, p3⟩ := put32 (shaV l) (shaV_len l)
  have es : endV (absorb initS l) = shaV l := rfl
  rw [es] at r4
  rw [← z32e]
  generalize ofI .u8 (shaV l) = R at *
  generalize ofI .u8 (List.replicate 32 0) = Z at *
  simp (config := {maxSteps := 2000000}) (disch := first | omega | (simp only [List.length_cons, List.length_nil, List.length_append, List.length_drop]; omega)) only [eh1, r2, r3, r4, g4, p1, p2, p3, ↓b_xor32, ↓b_and32, ↓b_or32, ↓u_not32, b_xor32, b_and32, b_or32, u_not32, w32ad, ↓x_conv, x_convV, ↓x_fieldAddr, x_fieldV, ↓s_nilchk, x_nilchk, Nat.zero_add, Nat.add_zero, Nat.mul_one, ↓l_loop, ↓l_succ, ↓l_normal, l_normal, l_exit, l_ret, l_iteN, ↓h_put_get, ↓h_new_get, ↓h_del_get, h_next_put, h_next_new, h_next_del, Nat.add_assoc, Nat.add_eq_left, Nat.left_eq_add, Nat.add_left_cancel_iff, ↓s_load, m_load, ↓m_load1, m_load1, ↓m_st, m_stE, m_storeI, w_zero, w_succ, ↓s_alloc, ↓x_idxA, ↓x_idxS, x_idxAE, x_idxSE, x_addrE, x_idx, x_lenS, ↓s_len, ↓x_buildS, x_buildE, ↓x_P0, ↓x_P1, x_fill0, x_filli, x_fills, x_fillb, c_int, List.length_cons, List.length_nil, List.cons_append, List.drop_succ_cons, List.drop_zero, List.drop_nil, List.nil_append, Int.reduceAdd, Int.reduceToNat, Int.reduceLT, Int.reduceLE, Nat.reduceAdd, Nat.reduceMul, Nat.reduceLeDiff, Int.reduceEq, Int.reduceSub, Int.cast_ofNat_Int, s_resc, s_consR, m_load4, m_store4, s_res0, ↓s_skip, ↓s_ops, ↓s_dops, ↓s_seq, ↓s_cond, ↓s_block, ↓s_exit, ↓s_ret, ↓s_scope, ↓s_nil, ↓s_op, ↓s_opg, ↓s_wanted', ↓s_wantV, s_wantV, s_wantV0, beq_true, beq_false, ↓s_bindS, s_bindS, ↓s_bindE, s_bindE, s_bindE_ret, s_bindE_exit, s_bindE_iteN, s_norm, ↓s_condV, s_condV, s_block_ret, s_block_normal, s_block_exit, s_block_iteN, ↓s_getp, ↓s_getp0, ↓s_get, s_get0, ↓s_con, ↓s_fn, ↓s_os0, ↓s_os1, ↓s_list0, ↓s_list1, ↓s_mov, ↓s_pick, ↓s_pickE, s_pickE, ↓s_bin, ↓s_un, ↓s_minmax, ↓s_call, ↓s_callv, ↓s_callV, ↓s_ext, s_same, b_eql, b_neq, b_lss, b_leq, b_gtr, b_geq, b_add, b_sub, b_mul, b_eqlb, b_neqb, b_fnil, b_fnil', b_fnil2, b_fnil2', u_neg, u_not, m_two, s_end, s_end', s_end_iteN, s_res0, s_res1, s_tup1, s_tup2, ↓iteN_true, ↓iteN_false, iteN_true, iteN_false, Nat.zero_add, List.nil_append, List.append_nil, Nat.reduceEqDiff, reduceIte, decide_true, decide_false, Bool.not_true, Bool.not_false, List.getElem?_cons_zero, List.getElem?_cons_succ, Bool.false_eq_true, if_true, if_false, beq_self_eq_true]
  exact ⟨_, rfl, (k1.trans K4).put _ (Nat.le_refl _)⟩
def ofS (l : List Nat) : Option V := if decide (l.length ≤ 100000) then some (.agg (ofI .u8 (shaV l))) else none
theorem datas_ofI (k : IntKind) (l : List Nat) : datas (ofI k l) = true := by
  induction l with
  | nil => rfl
  | cons a r ih => simp only [ofI, datas, dataV, ih, Bool.and_self]
theorem noSha_no : NoSha noX := ⟨fun _ _ => rfl, fun _ _ => rfl, fun _ _ => rfl, fun _ _ => rfl, fun _ _ => rfl, fun _ _ => rfl, fun _ _ => rfl, fun _ _ => rfl, fun _ _ => rfl, fun _ _ => rfl, fun _ _ => rfl, fun _ _ => rfl, fun _ _ => rfl, fun _ _ _ => rfl⟩
theorem ofX_ok {P : Program} {g : Gn} (hE : Link P g E) (e : EnSha E) (e1 : E k_sha_Of = some f_sha_Of) : QOk P g (bytesX k_sha_Of ofS) := by
  refine bytesX_ok (callX_ok hE noX_ok (100101 + 82)) ?_
  intro l v hs
  unfold ofS at hs
  split at hs
  · rename_i hb
    cases hs
    have hb' := of_decide_eq_true hb
    refine ⟨by simp only [dataV, datas_ofI], ?_, ?_⟩
    · intro h0 a c z
      subst h0
      obtain ⟨h', r, _⟩ := of_go e noSha_no e1 (fun _ _ => rfl) 100101 [] a c z (mkH [] 1) (by simp) (by omega) (by simp) (.inl rfl)
      exact ⟨h', r⟩
    · intro hne c
      obtain ⟨h', r, _⟩ := of_go e noSha_no e1 (fun _ _ => rfl) 100101 l (some (0, 0)) c 1 (mkH [(0, ofBytes l)] 1) (by omega) (by omega) (by omega) (.inr ⟨0, 0, ofBytes l, .ro, rfl, rfl, Nat.zero_lt_one, rfl, by rw [ofB_len]; omega, (by rw [List.drop_zero, ← ofI_u8]; exact List.take_of_length_le (by rw [ofI_len]; omega))⟩)
      exact ⟨h', r⟩
  · cases hs
end Go.Eng
namespace Go.Eng
open Go
set_option linter.unusedSimpArgs false
set_option linter.unusedVariables false
/-! the hash, as a kernel works it out quickly -/
def fc {α : Type} (n : Nat) (k : Nat → α) : α := match n with | 0 => k 0 | m + 1 => k (m + 1)
theorem fc_eq {α : Type} (n : Nat) (k : Nat → α) : fc n k = k n := by cases n <;> rfl
noncomputable def goF {α : Type} (ks : List Nat) : Nat → Nat → Nat → Nat → Nat → Nat → Nat → Nat → Nat → Nat → Nat → Nat → Nat → Nat → Nat → Nat → Nat → Nat → Nat → Nat → Nat → Nat → Nat → Nat → (Nat → Nat → Nat → Nat → Nat → Nat → Nat → Nat → α) → α :=
  List.rec (motive := fun _ => Nat → Nat → Nat → Nat → Nat → Nat → Nat → Nat → Nat → Nat → Nat → Nat → Nat → Nat → Nat → Nat → Nat → Nat → Nat → Nat → Nat → Nat → Nat → Nat → (Nat → Nat → Nat → Nat → Nat → Nat → Nat → Nat → α) → α) (fun w0 w1 w2 w3 w4 w5 w6 w7 w8 w9 w10 w11 w12 w13 w14 w15 a b c d e f g h K => K a b c d e f g h)
    (fun kk _ ih w0 w1 w2 w3 w4 w5 w6 w7 w8 w9 w10 w11 w12 w13 w14 w15 a b c d e f g h K =>
      fc (ad (ad (ad (ad h (trn e 6 11 25)) (xr (an e f) (an (nt e) g))) kk) w0) fun first =>
      fc (ad first (ad (trn a 2 13 22) (xr (xr (an a b) (an a c)) (an b c)))) fun a' =>
      fc (ad d first) fun e' =>
      fc (ad (ad (ad w0 (xr (xr (rl w1 25) (rl w1 14)) (sr w1 3))) w9) (xr (xr (rl w14 15) (rl w14 13)) (sr w14 10))) fun w16 =>
      ih w1 w2 w3 w4 w5 w6 w7 w8 w9 w10 w11 w12 w13 w14 w15 w16 a' a b c e' e f g K) ks
def w4F {α : Type} (m : List Nat) (d : α) (k : Nat → List Nat → α) : α := match m with
  | b0 :: b1 :: b2 :: b3 :: r => fc (orr (orr (orr (sl (b0 % 4294967296) 24) (sl (b1 % 4294967296) 16)) (sl (b2 % 4294967296) 8)) (b3 % 4294967296)) fun w => k w r
  | _ => d
noncomputable def mixF {α : Type} (a b c d e f g h : Nat) (m : List Nat) (D : α) (K : Nat → Nat → Nat → Nat → Nat → Nat → Nat → Nat → List Nat → α) : α :=
  w4F m D fun w0 m => w4F m D fun w1 m => w4F m D fun w2 m => w4F m D fun w3 m => w4F m D fun w4 m => w4F m D fun w5 m => w4F m D fun w6 m => w4F m D fun w7 m => w4F m D fun w8 m => w4F m D fun w9 m => w4F m D fun w10 m => w4F m D fun w11 m => w4F m D fun w12 m => w4F m D fun w13 m => w4F m D fun w14 m => w4F m D fun w15 m => goF cubes w0 w1 w2 w3 w4 w5 w6 w7 w8 w9 w10 w11 w12 w13 w14 w15 a b c d e f g h fun a' b' c' d' e' f' g' h' => fc (ad a a') fun a2 => fc (ad b b') fun b2 => fc (ad c c') fun c2 => fc (ad d d') fun d2 => fc (ad e e') fun e2 => fc (ad f f') fun f2 => fc (ad g g') fun g2 => fc (ad h h') fun h2 => K a2 b2 c2 d2 e2 f2 g2 h2 m
/-- the words, as many as are asked for -/
def wj (blk : List Nat) (j : Nat) : Nat := wnx blk (wsN blk j) j
theorem wsN_get (blk : List Nat) : ∀ (n j : Nat), j < n → (wsN blk n).getD j 0 = wj blk j := by
  intro n
  induction n with
  | zero => intro j h; omega
  | succ n ih =>
    intro j h
    unfold wsN
    by_cases hj : j < n
    · rw [List.getD_eq_getElem?_getD, List.getElem?_append_left (by rw [wsN_len]; exact hj), ← List.getD_eq_getElem?_getD, ih j hj]
    · obtain rfl : j = n := by omega
      rw [List.getD_eq_getElem?_getD, List.getElem?_append_right (by rw [wsN_len]; omega), wsN_len]; simp [wj]
theorem wj_next (blk : List Nat) (i : Nat) : wj blk (i + 16) = ad (ad (ad (wj blk i) (xr (xr (rl (wj blk (i + 1)) 25) (rl (wj blk (i + 1)) 14)) (sr (wj blk (i + 1)) 3))) (wj blk (i + 9)))
    (xr (xr (rl (wj blk (i + 14)) 15) (rl (wj blk (i + 14)) 13)) (sr (wj blk (i + 14)) 10)) := by
  conv => lhs; unfold wj wnx
  rw [if_neg (by omega), wsN_get _ _ _ (by omega), wsN_get _ _ _ (by omega), wsN_get _ _ _ (by omega), wsN_get _ _ _ (by omega)]
  rw [show i + 16 - 16 = i by omega, show i + 16 - 15 = i + 1 by omega, show i + 16 - 7 = i + 9 by omega, show i + 16 - 2 = i + 14 by omega]
theorem goF_cons {α : Type} (kk : Nat) (ks : List Nat) (w0 w1 w2 w3 w4 w5 w6 w7 w8 w9 w10 w11 w12 w13 w14 w15 a b c d e f g h : Nat) (K : Nat → Nat → Nat → Nat → Nat → Nat → Nat → Nat → α) : goF (kk :: ks) w0 w1 w2 w3 w4 w5 w6 w7 w8 w9 w10 w11 w12 w13 w14 w15 a b c d e f g h K =
      (fc (ad (ad (ad (ad h (trn e 6 11 25)) (xr (an e f) (an (nt e) g))) kk) w0) fun first =>
      fc (ad first (ad (trn a 2 13 22) (xr (xr (an a b) (an a c)) (an b c)))) fun a' =>
      fc (ad d first) fun e' =>
      fc (ad (ad (ad w0 (xr (xr (rl w1 25) (rl w1 14)) (sr w1 3))) w9) (xr (xr (rl w14 15) (rl w14 13)) (sr w14 10))) fun w16 =>
      goF ks w1 w2 w3 w4 w5 w6 w7 w8 w9 w10 w11 w12 w13 w14 w15 w16 a' a b c e' e f g K) := rfl
theorem upd8 (a b c d e f g h a' b' c' d' e' f' g' h' : Nat) : updN [a, b, c, d, e, f, g, h] [a', b', c', d', e', f', g', h'] 8 = [ad a a', ad b b', ad c c', ad d d', ad e e', ad f f', ad g g', ad h h'] := by simp [updN]
theorem goF_ok {α : Type} (blk : List Nat) (s : S8) : ∀ (k i : Nat), i + k = 64 → ∀ (K : Nat → Nat → Nat → Nat → Nat → Nat → Nat → Nat → α),
    goF (cubes.drop i) (wj blk i) (wj blk (i + 1)) (wj blk (i + 2)) (wj blk (i + 3)) (wj blk (i + 4)) (wj blk (i + 5)) (wj blk (i + 6)) (wj blk (i + 7)) (wj blk (i + 8)) (wj blk (i + 9)) (wj blk (i + 10)) (wj blk (i + 11)) (wj blk (i + 12)) (wj blk (i + 13)) (wj blk (i + 14)) (wj blk (i + 15)) (rnds (wsN blk 64) s i).a (rnds (wsN blk 64) s i).b (rnds (wsN blk 64) s i).c (rnds (wsN blk 64) s i).d (rnds (wsN blk 64) s i).e (rnds (wsN blk 64) s i).f (rnds (wsN blk 64) s i).g (rnds (wsN blk 64) s i).h K =
    K (rnds (wsN blk 64) s 64).a (rnds (wsN blk 64) s 64).b (rnds (wsN blk 64) s 64).c (rnds (wsN blk 64) s 64).d (rnds (wsN blk 64) s 64).e (rnds (wsN blk 64) s 64).f (rnds (wsN blk 64) s 64).g (rnds (wsN blk 64) s 64).h := by
  intro k
  induction k with
  | zero =>
    intro i hi K
    obtain rfl : i = 64 := by omega
    rfl
  | succ k ih =>
    intro i hi K
    have hd : cubes.drop i = cubes.getD i 0 :: cubes.drop (i + 1) := by
      have hl : i < cubes.length := by rw [show cubes.length = 64 from rfl]; omega
      rw [List.drop_eq_getElem_cons hl, List.getD_eq_getElem?_getD, List.getElem?_eq_getElem hl]; rfl
    have := ih (i + 1) (by omega) K
    rw [hd]
    have wg : (wsN blk 64).getD i 0 = wj blk i := wsN_get _ _ _ (by omega)
    have en : rnds (wsN blk 64) s (i + 1) = rnd (rnds (wsN blk 64) s i) (cubes.getD i 0) (wj blk i) := by rw [← wg]; rfl
    rw [← this, en]
    generalize rnds (wsN blk 64) s i = s'
    have wn := wj_next blk i
    rw [goF_cons]
    simp only [fc_eq, ← wn, rnd, Nat.add_assoc, Nat.reduceAdd]

theorem w4F_eq {α : Type} (b0 b1 b2 b3 : Nat) (r : List Nat) (d : α) (k : Nat → List Nat → α) : w4F (b0 :: b1 :: b2 :: b3 :: r) d k = k (orr (orr (orr (sl (b0 % 4294967296) 24) (sl (b1 % 4294967296) 16)) (sl (b2 % 4294967296) 8)) (b3 % 4294967296)) r := by
  unfold w4F; simp only [fc_eq]
theorem w4F_j {α : Type} (blk rest : List Nat) (hb : blk.length = 64) (j : Nat) (hj : j < 16) (d : α) (k : Nat → List Nat → α) : w4F (blk.drop (4 * j) ++ rest) d k = k (wj blk j) (blk.drop (4 * (j + 1)) ++ rest) := by
  have h0 : blk.drop (4 * j) = blk.getD (4 * j) 0 :: blk.getD (4 * j + 1) 0 :: blk.getD (4 * j + 2) 0 :: blk.getD (4 * j + 3) 0 :: blk.drop (4 * (j + 1)) := by
    have st : ∀ i, i < 64 → blk.drop i = blk.getD i 0 :: blk.drop (i + 1) := by
      intro i hi
      rw [List.drop_eq_getElem_cons (by omega), List.getD_eq_getElem?_getD, List.getElem?_eq_getElem (by omega)]; rfl
    rw [st _ (by omega), st _ (by omega), st _ (by omega), st _ (by omega)]
    rw [show 4 * j + 1 + 1 + 1 + 1 = 4 * (j + 1) by omega, show 4 * j + 1 + 1 + 1 = 4 * j + 3 by omega, show 4 * j + 1 + 1 = 4 * j + 2 by omega]
  rw [h0]
  simp only [List.cons_append]
  rw [w4F_eq]
  congr 1
  unfold wj wnx
  rw [if_pos hj]
theorem list8 (l : List Nat) (h : l.length = 8) : ∃ a b c d e f g i, l = [a, b, c, d, e, f, g, i] := by
  match l, h with
  | [a, b, c, d, e, f, g, i], _ => exact ⟨_, _, _, _, _, _, _, _, rfl⟩
theorem mixF_ok {α : Type} (st blk rest : List Nat) (h1 : st.length = 8) (hb : blk.length = 64) (D : α) (K : Nat → Nat → Nat → Nat → Nat → Nat → Nat → Nat → List Nat → α) :
    mixF (st.getD 0 0) (st.getD 1 0) (st.getD 2 0) (st.getD 3 0) (st.getD 4 0) (st.getD 5 0) (st.getD 6 0) (st.getD 7 0) (blk ++ rest) D K =
    K ((mixV st blk).getD 0 0) ((mixV st blk).getD 1 0) ((mixV st blk).getD 2 0) ((mixV st blk).getD 3 0) ((mixV st blk).getD 4 0) ((mixV st blk).getD 5 0) ((mixV st blk).getD 6 0) ((mixV st blk).getD 7 0) rest := by
  have W := fun j hj (k : Nat → List Nat → α) => w4F_j blk rest hb j hj D k
  have e0 : blk ++ rest = blk.drop (4 * 0) ++ rest := rfl
  unfold mixF
  rw [e0, W 0 (by omega), W 1 (by omega), W 2 (by omega), W 3 (by omega), W 4 (by omega), W 5 (by omega), W 6 (by omega), W 7 (by omega), W 8 (by omega), W 9 (by omega), W 10 (by omega), W 11 (by omega), W 12 (by omega), W 13 (by omega), W 14 (by omega), W 15 (by omega)]
  have G := fun K => goF_ok (α := α) blk (s8of st) 64 0 rfl K
  simp only [Nat.zero_add, List.drop_zero] at G
  have G2 := fun K => G K
  have e1 : rnds (wsN blk 64) (s8of st) 0 = s8of st := rfl
  rw [e1] at G
  have e2 : blk.drop (4 * (15 + 1)) ++ rest = rest := by rw [List.drop_eq_nil_of_le (by omega), List.nil_append]
  rw [e2]
  refine (G _).trans ?_
  have em : mixV st blk = updN st (s8l (rnds (wsN blk 64) (s8of st) 64)) 8 := rfl
  generalize rnds (wsN blk 64) (s8of st) 64 = s at *
  obtain ⟨a', b', c', d', e', f', g', h'⟩ := s
  rw [em]
  clear em G G2 W e1 e2 e0
  obtain ⟨a, b, c, d, e, f, g, h, rfl⟩ := list8 st h1
  simp only [fc_eq, s8l, upd8]
  rfl
/-- the blocks of a message that is whole -/
noncomputable def blksF {α : Type} (n : Nat) : Nat → Nat → Nat → Nat → Nat → Nat → Nat → Nat → List Nat → α → (Nat → Nat → Nat → Nat → Nat → Nat → Nat → Nat → α) → α :=
  Nat.rec (motive := fun _ => Nat → Nat → Nat → Nat → Nat → Nat → Nat → Nat → List Nat → α → (Nat → Nat → Nat → Nat → Nat → Nat → Nat → Nat → α) → α) (fun a b c d e f g h _ _ K => K a b c d e f g h)
    (fun _ ih a b c d e f g h m D K => mixF a b c d e f g h m D fun a b c d e f g h m => ih a b c d e f g h m D K) n
def fold64 (st : List Nat) : Nat → List Nat → List Nat
  | 0, _ => st
  | n + 1, m => fold64 (mixV st (m.take 64)) n (m.drop 64)
theorem blksF_ok {α : Type} : ∀ (n : Nat) (st m : List Nat), st.length = 8 → m.length = 64 * n → ∀ (D : α) (K : Nat → Nat → Nat → Nat → Nat → Nat → Nat → Nat → α),
    blksF n (st.getD 0 0) (st.getD 1 0) (st.getD 2 0) (st.getD 3 0) (st.getD 4 0) (st.getD 5 0) (st.getD 6 0) (st.getD 7 0) m D K =
    K ((fold64 st n m).getD 0 0) ((fold64 st n m).getD 1 0) ((fold64 st n m).getD 2 0) ((fold64 st n m).getD 3 0) ((fold64 st n m).getD 4 0) ((fold64 st n m).getD 5 0) ((fold64 st n m).getD 6 0) ((fold64 st n m).getD 7 0) := by
  intro n
  induction n with
  | zero => intro st m h1 h2 D K; rfl
  | succ n ih =>
    intro st m h1 h2 D K
    have M := fun K => mixF_ok (α := α) st (m.take 64) (m.drop 64) h1 (by rw [List.length_take]; omega) D K
    rw [List.take_append_drop] at M
    refine (M _).trans ?_
    exact ih (mixV st (m.take 64)) (m.drop 64) (by rw [mixV_len]; exact h1) (by rw [List.length_drop]; omega) D K
theorem fold64_len (st : List Nat) : ∀ n m, st.length = 8 → (fold64 st n m).length = 8 := by
  intro n
  induction n generalizing st with
  | zero => intro m h; exact h
  | succ n ih => intro m h; exact ih _ _ (by rw [mixV_len]; exact h)
theorem absorb_fold : ∀ (n : Nat) (s : Sm) (m : List Nat), SmOk s → s.len % 64 = 0 → m.length = 64 * n → (absorb s m).st = fold64 s.st n m := by
  intro n
  induction n with
  | zero => intro s m ok h hm; obtain rfl : m = [] := List.length_eq_zero_iff.1 (by omega); rfl
  | succ n ih =>
    intro s m ok h hm
    have ht : (m.take 64).length = 64 := by rw [List.length_take]; omega
    have e1 : absorb s m = absorb (absorb s (m.take 64)) (m.drop 64) := by rw [← absorb_app, List.take_append_drop]
    have c := absorb_chunk s (m.take 64) ok.2.1 (by omega) (by intro h; rw [h] at ht; simp at ht)
    have ok2 := absorb_ok (m.take 64) s ok
    rw [h, ht] at c
    rw [if_pos (by omega)] at c
    simp only [List.take_zero, List.nil_append, Nat.zero_add] at c
    rw [List.drop_eq_nil_of_le (by have := ok.2.1; omega), List.append_nil] at c
    rw [e1, ih _ _ ok2 (by rw [c]; simp only; omega) (by rw [List.length_drop]; omega), c]
    rfl
def be8 (v : Nat) : List Nat := [v / 2 ^ 56 % 256, v / 2 ^ 48 % 256, v / 2 ^ 40 % 256, v / 2 ^ 32 % 256, v / 2 ^ 24 % 256, v / 2 ^ 16 % 256, v / 2 ^ 8 % 256, v / 2 ^ 0 % 256]
theorem padV_eq (len : Nat) : padV len = 128 :: (List.replicate (padSz len - 9) 0 ++ be8 (len * 8 % 18446744073709551616)) := by
  have hb := padSz_b len
  obtain ⟨m, hm⟩ : ∃ m, padSz len = m + 9 := ⟨padSz len - 9, by omega⟩
  have h0 : padN len 0 = 128 :: (List.replicate m 0 ++ [0, 0, 0, 0, 0, 0, 0, 0]) := by
    unfold padN; rw [hm, show m + 9 - 1 = m + 8 by omega, ← List.replicate_append_replicate]; rfl
  have st : ∀ (i : Nat) (l : List Nat) (v : Nat), i < 8 → l.length = 8 → (128 :: (List.replicate m 0 ++ l)).set (padSz len - 1 - i) v = 128 :: (List.replicate m 0 ++ l.set (7 - i) v) := by
    intro i l v hi hl
    rw [hm, show m + 9 - 1 - i = (m + (7 - i)) + 1 by omega, List.set_cons_succ, List.set_append_right _ _ (by simp), List.length_replicate, Nat.add_sub_cancel_left]
  unfold padV
  simp only [padN] at h0 ⊢
  rw [h0, st 0 _ _ (by omega) rfl, st 1 _ _ (by omega) rfl, st 2 _ _ (by omega) rfl, st 3 _ _ (by omega) rfl, st 4 _ _ (by omega) rfl, st 5 _ _ (by omega) rfl, st 6 _ _ (by omega) rfl, st 7 _ _ (by omega) rfl, hm, Nat.add_sub_cancel]
  rfl
end Go.Eng
namespace Go.Eng
open Go
set_option linter.unusedSimpArgs false
set_option linter.unusedVariables false
def b4K {α : Type} (w : Nat) (k : Nat → Nat → Nat → Nat → α) : α := fc (sr w 24 % 256) fun a => fc (sr w 16 % 256) fun b => fc (sr w 8 % 256) fun c => fc (w % 256) fun d => k a b c d
def padL (n : Nat) : List Nat := 128 :: (List.replicate (padSz n - 9) 0 ++ be8 (n * 8 % 18446744073709551616))
noncomputable def shaK {α : Type} (l : List Nat) (D : α) (K : List Nat → α) : α :=
  fc l.length fun n => fc ((n + padSz n) / 64) fun m => blksF m 1779033703 3144134277 1013904242 2773480762 1359893119 2600822924 528734635 1541459225 (l ++ padL n) D fun a b c d e f g h =>
    b4K a fun a0 a1 a2 a3 => b4K b fun b0 b1 b2 b3 => b4K c fun c0 c1 c2 c3 => b4K d fun d0 d1 d2 d3 => b4K e fun e0 e1 e2 e3 => b4K f fun f0 f1 f2 f3 => b4K g fun g0 g1 g2 g3 => b4K h fun h0 h1 h2 h3 => K [a0, a1, a2, a3, b0, b1, b2, b3, c0, c1, c2, c3, d0, d1, d2, d3, e0, e1, e2, e3, f0, f1, f2, f3, g0, g1, g2, g3, h0, h1, h2, h3]
theorem fm_len (l : List Nat) : (l.flatMap be4).length = 4 * l.length := by
  induction l with
  | nil => rfl
  | cons a r ih => rw [List.flatMap_cons, List.length_append, ih, List.length_cons]; simp only [be4, List.length_cons, List.length_nil]; omega
theorem outN_eq (st : List Nat) (h : st.length = 8) : ∀ i, i ≤ 8 → outN st i = (st.take i).flatMap be4 ++ List.replicate (32 - 4 * i) 0 := by
  intro i
  induction i with
  | zero => intro _; rfl
  | succ i ih =>
    intro hi
    have hl : ((st.take i).flatMap be4).length = 4 * i := by rw [fm_len, List.length_take]; omega
    have hs : st.take (i + 1) = st.take i ++ [st.getD i 0] := by
      rw [List.take_add_one, List.getD_eq_getElem?_getD]
      rw [List.getElem?_eq_getElem (by omega)]; rfl
    unfold outN
    rw [ih (by omega), List.take_left' hl, List.drop_append, hl, List.drop_eq_nil_of_le (by omega), List.nil_append, List.drop_replicate, hs, List.flatMap_append]
    simp only [List.flatMap_cons, List.flatMap_nil, List.append_nil]
    congr 2; omega
theorem hashV_eq (st : List Nat) (h : st.length = 8) : hashV st = st.flatMap be4 := by
  unfold hashV
  rw [outN_eq st h 8 (by omega), List.take_of_length_le (by omega)]; simp
theorem padSz_mod (n : Nat) : (n + padSz n) % 64 = 0 := by unfold padSz; split <;> omega
theorem shaV_fold (l : List Nat) (hl : l.length < 2305843009213693952) : shaV l = hashV (fold64 squaresL ((l.length + padSz l.length) / 64) (l ++ padL l.length)) := by
  unfold shaV endV
  have ln : ∀ (l : List Nat) (s : Sm), SmOk s → s.len + l.length < 18446744073709551616 → (absorb s l).len = s.len + l.length := by
    intro l
    induction l with
    | nil => intro s _ _; rfl
    | cons b r ih =>
      intro s ok h
      simp only [List.length_cons] at h
      have := ih (eat1 s b) (eat1_ok s b ok) (by simp only [eat1]; omega)
      show (absorb (eat1 s b) r).len = _
      rw [this]; simp only [eat1, List.length_cons]; omega
  have e1 : (absorb initS l).len = l.length := by rw [ln l initS initS_ok (by simp only [initS]; omega)]; simp [initS]
  rw [e1, padV_eq, show (128 :: (List.replicate (padSz l.length - 9) 0 ++ be8 (l.length * 8 % 18446744073709551616))) = padL l.length from rfl, ← absorb_app]
  have hm := padSz_mod l.length
  have hb := padSz_b l.length
  rw [absorb_fold ((l.length + padSz l.length) / 64) initS (l ++ padL l.length) initS_ok rfl (by simp only [padL, be8, List.length_append, List.length_cons, List.length_replicate, List.length_nil]; omega)]
  rfl
theorem shaK_eq {α : Type} (l : List Nat) (hl : l.length < 2305843009213693952) (D : α) (K : List Nat → α) : shaK l D K = K (shaV l) := by
  have hm := padSz_mod l.length
  have hb := padSz_b l.length
  unfold shaK
  simp only [fc_eq]
  have B := fun K => blksF_ok (α := α) ((l.length + padSz l.length) / 64) squaresL (l ++ padL l.length) rfl (by simp only [padL, be8, List.length_append, List.length_cons, List.length_replicate, List.length_nil]; omega) D K
  refine (B _).trans ?_
  rw [shaV_fold l hl]
  have h8 := fold64_len squaresL ((l.length + padSz l.length) / 64) (l ++ padL l.length) rfl
  obtain ⟨a, b, c, d, e, f, g, h, e8⟩ := list8 _ h8
  rw [e8]
  rw [hashV_eq _ rfl]
  simp only [b4K, fc_eq]
  rfl
noncomputable def ofF (l : List Nat) : Option V := match decide (l.length ≤ 100000) with
  | true => shaK l none fun bs => some (.agg (ofI .u8 bs))
  | false => none
theorem ofF_eq : ofF = ofS := by
  funext l
  unfold ofF ofS
  by_cases h : l.length ≤ 100000
  · rw [decide_eq_true h]; simp only [if_true]; rw [shaK_eq l (by omega)]
  · rw [decide_eq_false h]; simp
example : shaK [97, 98, 99] [] (fun l => l) = [186, 120, 22, 191, 143, 1, 207, 234, 65, 65, 64, 222, 93, 174, 34, 35, 176, 3, 97, 163, 150, 23, 122, 156, 180, 16, 255, 97, 242, 0, 21, 173] := by kernel_rfl
end Go.Eng
namespace Go.Eng
open Go
variable {E : Nat → Option Fn} {X : Orc}
set_option linter.unusedSimpArgs false
set_option linter.unusedVariables false
/-! rules for bytes in memory -/
theorem unI : ∀ (l : List Nat), unB (ofI .u8 l) = some l := fun l => by rw [ofI_u8]; exact unB_of l
theorem rdI (n off : Nat) (l : List Nat) (m : Md) (h : off + n ≤ l.length) : rdC n off (some (.cells (ofI .u8 l) m)) = some ((l.drop off).take n) := by
  unfold rdC
  simp only [readN_of _ _ _ (show off + n ≤ (ofI .u8 l).length by rw [ofI_len]; exact h), ofI_drop, ofI_take, unI]
noncomputable def srcE (b : Option Blk) (off len esz : Nat) : Option (Nat × List V) := match b with
  | some (.cells vs _) => match readN vs off (len * esz) with | some l => some (len, l) | none => none
  | _ => none
@[congr] theorem srcE_congr {b b' : Option Blk} {off len esz : Nat} (e : b = b') : srcE b off len esz = srcE b' off len esz := by rw [e]
theorem m_src (h : H) (esz i off len : Nat) (c : Option Nat) (e : Nat) : srcCells h esz (.slice (some (i, off)) (len + 1) c e) = srcE (h.get i) off (len + 1) esz := by
  unfold srcCells srcE cellsAt
  simp only
  cases h.get i with
  | none => rfl
  | some b => cases b <;> rfl
theorem m_src0 (h : H) (esz : Nat) (a : Option (Nat × Nat)) (c : Option Nat) (e : Nat) : srcCells h esz (.slice a 0 c e) = some (0, []) := by
  unfold srcCells
  cases a <;> rfl
theorem srcI (k : IntKind) (off n : Nat) (l : List Nat) (m : Md) (h : off + n ≤ l.length) : srcE (some (.cells (ofI k l) m)) off n 1 = some (n, ofI k ((l.drop off).take n)) := by
  unfold srcE
  simp only [Nat.mul_one, readN_of _ _ _ (show off + n ≤ (ofI k l).length by rw [ofI_len]; exact h), ofI_drop, ofI_take]
theorem ldI (k : IntKind) (off n : Nat) (l : List Nat) (m : Md) (h : off + n ≤ l.length) : loadE (some (.cells (ofI k l) m)) (some n) off = some (.agg (ofI k ((l.drop off).take n))) := by
  rw [m_loadN, readN_of _ _ _ (show off + n ≤ (ofI k l).length by rw [ofI_len]; exact h), ofI_drop, ofI_take]
theorem ld1I (k : IntKind) (off : Nat) (l : List Nat) (m : Md) (h : off < l.length) : loadE (some (.cells (ofI k l) m)) none off = some (.int k (l.getD off 0 : Nat)) := by
  rw [m_load1, ofI_get _ _ _ h]
theorem wrI (k : IntKind) (a b : List Nat) (off : Nat) (h : off + b.length ≤ a.length) : writeN (ofI k a) off (ofI k b) = ofI k (a.take off ++ b ++ a.drop (off + b.length)) := by
  rw [writeN_eq _ _ _ (by rw [ofI_len]; omega), ofI_len, ofI_take, ofI_drop, ← ofI_app, ← ofI_app]
theorem wr1I (k : IntKind) (a : List Nat) (off v : Nat) (h : off < a.length) : writeN (ofI k a) off [.int k (v : Int)] = ofI k (a.set off v) := by
  rw [writeN_set _ _ _ (by rw [ofI_len]; exact h), ofI_set]
theorem stI (k : IntKind) (l : List Nat) (c : List V) (h : H) (i off : Nat) (hl : off + c.length ≤ l.length) : storeE (some (.cells (ofI k l) .rw)) h i off c = some (h.put i (.cells (writeN (ofI k l) off c) .rw)) := m_storeE _ _ _ _ _ (by rw [ofI_len]; exact hl)
theorem st32 (h : H) (i o : Nat) (l : List Nat) (hl : l.length = 32) : storeV h 32 (.ptr (some (i, o))) (.agg (ofI .u8 l)) = storeE (h.get i) h i o (ofI .u8 l) := m_storeA h 32 i o _ (by rw [ofI_len, hl, plain_ofI]; rfl)
theorem wrAll (k : IntKind) (z b : List Nat) (h : z.length = b.length) : writeN (ofI k z) 0 (ofI k b) = ofI k b := writeN_all _ _ (by rw [ofI_len, ofI_len, h])
theorem take_all (l : List Nat) (n : Nat) (h : l.length ≤ n) : l.take n = l := List.take_of_length_le h
theorem drop_all (l : List Nat) (n : Nat) (h : l.length ≤ n) : l.drop n = [] := List.drop_eq_nil_of_le h
/-! an append of bytes to a slice that is full, or to none -/
noncomputable def appF (b : Option Blk) (h : H) (off sl : Nat) (n : Nat) (new : List V) : Option (V × H) := match b with
  | some (.cells vs m) => match readN vs off (sl * 1) with
    | some old => some (.slice (some (h.next, 0)) (sl + n) none 1, h.new (.cells (old ++ new) .rw))
    | none => none
  | _ => none
@[congr] theorem appF_congr {b b' : Option Blk} {h : H} {off sl n : Nat} {new : List V} (e : b = b') : appF b h off sl n new = appF b' h off sl n new := by rw [e]
theorem s_append (Q : Orc) (T : Tr V) (h : H) (esz bytes : Nat) (s x : O) : Eng.step (.append esz bytes s x) Q T h = appendC h esz bytes (evO T s) (srcCells h esz (evO T x)) := _root_.id rfl
theorem appF_of (h : H) (i off sl c n : Nat) (k : IntKind) (l : List Nat) (hc : c < sl + (n + 1)) (hs : sl + (n + 1) ≤ 35184372088832) : appendC h 1 1 (.slice (some (i, off)) sl (some c) 1) (some (n + 1, ofI k l)) = appF (h.get i) h off sl (n + 1) (ofI k l) := by
  unfold appendC appF
  simp only
  have r : (roomy (sl + (n + 1)) 1 && (Nat.beq 1 1 || (some (i, off) : Option (Nat × Nat)).isNone) && (ofI k l).all plainV) = true := by
    rw [plain_ofI]; simp [roomy]; omega
  have f : fullC (some c) (sl + (n + 1)) = true := by
    show Nat.blt c (sl + (n + 1)) = true
    simpa [Nat.blt_eq] using hc
  rw [r]
  simp only [_root_.cond_true]
  cases h.get i with
  | none => rfl
  | some b =>
    cases b with
    | cells vs m => simp only [f]; rfl
    | loop => rfl
    | defers => rfl
theorem appFI (k : IntKind) (l new : List Nat) (m : Md) (h : H) (off sl n : Nat) (hl : off + sl ≤ l.length) : appF (some (.cells (ofI k l) m)) h off sl n (ofI k new) = some (.slice (some (h.next, 0)) (sl + n) none 1, h.new (.cells (ofI k ((l.drop off).take sl ++ new)) .rw)) := by
  unfold appF
  simp only [Nat.mul_one, readN_of _ _ _ (show off + sl ≤ (ofI k l).length by rw [ofI_len]; exact hl), ofI_drop, ofI_take, ofI_app]
theorem appF0 (k : IntKind) (new : List Nat) (m : Md) (h : H) (n : Nat) : appF (some (.cells [] m)) h 0 0 n (ofI k new) = some (.slice (some (h.next, 0)) n none 1, h.new (.cells (ofI k new) .rw)) := by
  unfold appF
  show some (V.slice (some (h.next, 0)) (0 + n) none 1, _) = _
  rw [Nat.zero_add]; rfl
/-- an append to a slice of unknown room that begins its block: the old block is forgotten -/
noncomputable def appU (b : Option Blk) (h : H) (i sl : Nat) (n : Nat) (new : List V) : Option (V × H) := match b with
  | some (.cells vs m) => match m with
    | .ro => none
    | m => match readN vs 0 (sl * 1) with
      | some old => some (.slice (some (h.next, 0)) (sl + n) none 1, (h.del i).new (.cells (old ++ new) .sh))
      | none => none
  | _ => none
@[congr] theorem appU_congr {b b' : Option Blk} {h : H} {i sl n : Nat} {new : List V} (e : b = b') : appU b h i sl n new = appU b' h i sl n new := by rw [e]
theorem appU_of (h : H) (i sl n : Nat) (k : IntKind) (l : List Nat) (hs : sl + (n + 1) ≤ 35184372088832) : appendC h 1 1 (.slice (some (i, 0)) sl none 1) (some (n + 1, ofI k l)) = appU (h.get i) h i sl (n + 1) (ofI k l) := by
  unfold appendC appU
  simp only
  have r : (roomy (sl + (n + 1)) 1 && (Nat.beq 1 1 || (some (i, 0) : Option (Nat × Nat)).isNone) && (ofI k l).all plainV) = true := by
    rw [plain_ofI]; simp [roomy]; omega
  have f : fullC none (sl + (n + 1)) = false := rfl
  rw [r]
  simp only [_root_.cond_true]
  cases h.get i with
  | none => rfl
  | some b =>
    cases b with
    | cells vs m => simp only [f]; cases m <;> rfl
    | loop => rfl
    | defers => rfl
theorem appUI (k : IntKind) (l new : List Nat) (m : Md) (hm : isRo m = false) (h : H) (i sl n : Nat) (hl : sl ≤ l.length) : appU (some (.cells (ofI k l) m)) h i sl n (ofI k new) = some (.slice (some (h.next, 0)) (sl + n) none 1, (h.del i).new (.cells (ofI k (l.take sl ++ new)) .sh)) := by
  have r := readN_of (ofI k l) 0 sl (by rw [ofI_len]; omega)
  unfold appU
  cases m with
  | ro => cases hm
  | rw => simp only [Nat.mul_one, r, List.drop_zero, ofI_take, ofI_app]
  | sh => simp only [Nat.mul_one, r, List.drop_zero, ofI_take, ofI_app]
theorem appUIw (k : IntKind) (l new : List Nat) (h : H) (i sl n : Nat) (hl : sl ≤ l.length) : appU (some (.cells (ofI k l) .rw)) h i sl n (ofI k new) = some (.slice (some (h.next, 0)) (sl + n) none 1, (h.del i).new (.cells (ofI k (l.take sl ++ new)) .sh)) := appUI k l new .rw rfl h i sl n hl
theorem appUIs (k : IntKind) (l new : List Nat) (h : H) (i sl n : Nat) (hl : sl ≤ l.length) : appU (some (.cells (ofI k l) .sh)) h i sl n (ofI k new) = some (.slice (some (h.next, 0)) (sl + n) none 1, (h.del i).new (.cells (ofI k (l.take sl ++ new)) .sh)) := appUI k l new .sh rfl h i sl n hl
/-- to none -/
theorem app0 (h : H) (n e : Nat) (k : IntKind) (l : List Nat) (c : Option Nat) (hs : n + 1 ≤ 35184372088832) : appendC h 1 1 (.slice none 0 c e) (some (n + 1, ofI k l)) = some (.slice (some (h.next, 0)) (n + 1) none 1, h.new (.cells (ofI k l) .rw)) := by
  unfold appendC
  simp only
  have r : (roomy (0 + (n + 1)) 1 && (Nat.beq e 1 || (none : Option (Nat × Nat)).isNone) && (ofI k l).all plainV) = true := by
    rw [plain_ofI]; simp [roomy]; omega
  rw [r]
  simp only [_root_.cond_true, Nat.zero_add]
/-- nothing is appended -/
theorem appN (h : H) (b : Option (Nat × Nat)) (n : Nat) (c : Option Nat) (e : Nat) (l : List V) : appendC h 1 1 (.slice b n c e) (some (0, l)) = some (.slice b n c e, h) := by
  unfold appendC; rfl
/-! arrays are the same -/
theorem eqAll_I (k : IntKind) : ∀ (a b : List Nat) (L : List Lf), L = List.replicate a.length .i → a.length = b.length → eqAll L (ofI k a) (ofI k b) = some (decide (a = b)) := by
  intro a
  induction a with
  | nil => intro b L hL hl; cases b with | nil => subst hL; rfl | cons => cases hl
  | cons x r ih =>
    intro b L hL hl
    cases b with
    | nil => cases hl
    | cons y s =>
      subst hL
      have := ih s _ rfl (by simpa using hl)
      show (match eqLf .i (.int k (x : Int)) (.int k (y : Int)), eqAll (List.replicate r.length .i) (ofI k r) (ofI k s) with | some p, some q => some (p && q) | _, _ => none) = _
      rw [this]
      have : eqLf .i (.int k (x : Int)) (.int k (y : Int)) = some (decide (x = y)) := by
        show (bif kindEq k k then some (ieq x y) else none) = _
        rw [kindEq_self, ieq_dec]; simp only [_root_.cond_true, Int.natCast_inj]
      rw [this]
      by_cases h1 : x = y <;> by_cases h2 : r = s <;> simp [h1, h2]
def L32 : List Lf := [.i, .i, .i, .i, .i, .i, .i, .i, .i, .i, .i, .i, .i, .i, .i, .i, .i, .i, .i, .i, .i, .i, .i, .i, .i, .i, .i, .i, .i, .i, .i, .i]
theorem eq32 (h : H) (a b : List Nat) (ha : a.length = 32) (hb : b.length = 32) : binV .eql (.flat [.i, .i, .i, .i, .i, .i, .i, .i, .i, .i, .i, .i, .i, .i, .i, .i, .i, .i, .i, .i, .i, .i, .i, .i, .i, .i, .i, .i, .i, .i, .i, .i]) h (.agg (ofI .u8 a)) (.agg (ofI .u8 b)) = some (.bool (decide (a = b))) := by
  have := eqAll_I .u8 a b L32 (by rw [ha]; rfl) (by omega)
  show (match eqAll L32 (ofI .u8 a) (ofI .u8 b) with | some b => some (V.bool b) | none => none) = _
  rw [this]
theorem neq32 (h : H) (a b : List Nat) (ha : a.length = 32) (hb : b.length = 32) : binV .neq (.flat [.i, .i, .i, .i, .i, .i, .i, .i, .i, .i, .i, .i, .i, .i, .i, .i, .i, .i, .i, .i, .i, .i, .i, .i, .i, .i, .i, .i, .i, .i, .i, .i]) h (.agg (ofI .u8 a)) (.agg (ofI .u8 b)) = some (.bool (!decide (a = b))) := by
  have := eqAll_I .u8 a b L32 (by rw [ha]; rfl) (by omega)
  show (match eqAll L32 (ofI .u8 a) (ofI .u8 b) with | some b => some (V.bool !b) | none => none) = _
  rw [this]
theorem slcB_nn (vs : List V) (m : Md) (n i off : Nat) (h : H) (hv : off + n ≤ vs.length) : slcB (some (.cells vs m)) n 1 i off none none h = some (.slice (some (i, off)) n (some n) 1, h) := by
  rw [x_slcB vs m n 1 i off 0 n none none h (by omega) rfl rfl]; simp
theorem slcB_hi (vs : List V) (m : Md) (n i off b : Nat) (k : IntKind) (h : H) (hv : off + n ≤ vs.length) (hb : b ≤ n) : slcB (some (.cells vs m)) n 1 i off none (some (.int k (b : Int))) h = some (.slice (some (i, off)) b (some n) 1, h) := by
  rw [x_slcB vs m n 1 i off 0 b none _ h (by omega) (x_bnd _ _ _ _ hb) rfl]; simp
theorem slcB_lo (vs : List V) (m : Md) (n i off a : Nat) (k : IntKind) (h : H) (hv : off + n ≤ vs.length) (hb : a ≤ n) : slcB (some (.cells vs m)) n 1 i off (some (.int k (a : Int))) none h = some (.slice (some (i, off + a)) (n - a) (some (n - a)) 1, h) := by
  rw [x_slcB vs m n 1 i off a n _ none h (by omega) rfl (x_bnd _ _ _ _ hb)]; simp
theorem slcB_lh (vs : List V) (m : Md) (n i off a b : Nat) (k k' : IntKind) (h : H) (hv : off + n ≤ vs.length) (hb : b ≤ n) (ha : a ≤ b) : slcB (some (.cells vs m)) n 1 i off (some (.int k (a : Int))) (some (.int k' (b : Int))) h = some (.slice (some (i, off + a)) (b - a) (some (n - a)) 1, h) := by
  rw [x_slcB vs m n 1 i off a b _ _ h (by omega) (x_bnd _ _ _ _ hb) (x_bnd _ _ _ _ ha)]; simp
/-! slices of slices -/
theorem slcV_nn (n : Nat) (c : Option Nat) (a : Option (Nat × Nat)) (e : Nat) (he : e = 1 ∨ a = none) : slcV 1 none none none (.slice a n c e) = some (.slice a n c 1) := by
  have : (Nat.beq e 1 || a.isNone) = true := by rcases he with rfl | rfl <;> simp
  unfold slcV
  simp only [this, _root_.cond_true, x_bnd0]
  cases a <;> cases c <;> simp [upA, subC]
theorem slcV_hi (n b : Nat) (c : Option Nat) (i off : Nat) (k : IntKind) (hb : b ≤ n) (hc : ∀ x, c = some x → n ≤ x) : slcV 1 none (some (.int k (b : Int))) none (.slice (some (i, off)) n c 1) = some (.slice (some (i, off)) b c 1) := by
  have : b ≤ c.getD n := by cases c with | none => exact hb | some x => exact Nat.le_trans hb (hc x rfl)
  unfold slcV
  simp only [Nat.beq_refl, Bool.true_or, _root_.cond_true, x_bnd _ _ _ _ this, x_bnd0]
  cases c <;> simp [upA, subC]
theorem slcV_hiU (n b : Nat) (i off : Nat) (k : IntKind) (hb : b ≤ n) : slcV 1 none (some (.int k (b : Int))) none (.slice (some (i, off)) n none 1) = some (.slice (some (i, off)) b none 1) := slcV_hi n b none i off k hb (fun _ h => by cases h)
theorem slcV_hiC (n b x : Nat) (i off : Nat) (k : IntKind) (hb : b ≤ n) (hc : n ≤ x) : slcV 1 none (some (.int k (b : Int))) none (.slice (some (i, off)) n (some x) 1) = some (.slice (some (i, off)) b (some x) 1) := slcV_hi n b (some x) i off k hb (fun _ h => by cases h; exact hc)
theorem slcV_lo (n m : Nat) (c : Option Nat) (i off : Nat) (k : IntKind) (hm : m ≤ n) : slcV 1 (some (.int k (m : Int))) none none (.slice (some (i, off)) n c 1) = some (.slice (some (i, off + m)) (n - m) (subC c m) 1) := slcS_lo _ _ _ _ _ _ hm rfl
theorem slcV_mx (n b x c : Nat) (cc : Option Nat) (i off : Nat) (k : IntKind) (hb : b ≤ x) (hx : x ≤ cc.getD n) : slcV 1 none (some (.int k (b : Int))) (some (.int k (x : Int))) (.slice (some (i, off)) n cc 1) = some (.slice (some (i, off)) b (some x) 1) := by
  unfold slcV
  simp only [Nat.beq_refl, Bool.true_or, _root_.cond_true, x_bnd _ _ _ _ hx, x_bnd _ _ _ _ hb, x_bnd0]
  simp [upA]
theorem slcV_loL (n m : Nat) (c : Option Nat) (i off : Nat) (k : IntKind) (hm : m ≤ n) : slcV 1 (some (.int k (no_index (OfNat.ofNat m)))) none none (.slice (some (i, off)) n c 1) = some (.slice (some (i, off + m)) (n - m) (subC c m) 1) := slcV_lo n m c i off k hm
theorem slcV_hiUL (n b : Nat) (i off : Nat) (k : IntKind) (hb : b ≤ n) : slcV 1 none (some (.int k (no_index (OfNat.ofNat b)))) none (.slice (some (i, off)) n none 1) = some (.slice (some (i, off)) b none 1) := slcV_hiU n b i off k hb
theorem slcV_hiCL (n b x : Nat) (i off : Nat) (k : IntKind) (hb : b ≤ n) (hc : n ≤ x) : slcV 1 none (some (.int k (no_index (OfNat.ofNat b)))) none (.slice (some (i, off)) n (some x) 1) = some (.slice (some (i, off)) b (some x) 1) := slcV_hiC n b x i off k hb hc
theorem slcV_mxL (n b x : Nat) (cc : Option Nat) (i off : Nat) (k k' : IntKind) (hb : b ≤ x) (hx : x ≤ cc.getD n) : slcV 1 none (some (.int k (no_index (OfNat.ofNat b)))) (some (.int k' (no_index (OfNat.ofNat x)))) (.slice (some (i, off)) n cc 1) = some (.slice (some (i, off)) b (some x) 1) := by
  show slcV 1 none (some (.int k (b : Int))) (some (.int k' (x : Int))) (.slice (some (i, off)) n cc 1) = _
  unfold slcV
  simp only [Nat.beq_refl, Bool.true_or, _root_.cond_true, x_bnd _ _ _ _ hx, x_bnd _ _ _ _ hb, x_bnd0]
  simp [upA]
theorem slcB_hiL (vs : List V) (m : Md) (n i off b : Nat) (k : IntKind) (h : H) (hv : off + n ≤ vs.length) (hb : b ≤ n) : slcB (some (.cells vs m)) n 1 i off none (some (.int k (no_index (OfNat.ofNat b)))) h = some (.slice (some (i, off)) b (some n) 1, h) := slcB_hi vs m n i off b k h hv hb
theorem slcB_loL (vs : List V) (m : Md) (n i off a : Nat) (k : IntKind) (h : H) (hv : off + n ≤ vs.length) (hb : a ≤ n) : slcB (some (.cells vs m)) n 1 i off (some (.int k (no_index (OfNat.ofNat a)))) none h = some (.slice (some (i, off + a)) (n - a) (some (n - a)) 1, h) := slcB_lo vs m n i off a k h hv hb
theorem subC_some (c l : Nat) : subC (some c) l = some (c - l) := rfl
theorem subC_none (l : Nat) : subC none l = none := rfl
def dbE (r : Option (List V)) (k : List V → Option Ds) : Option Ds := match r with
  | some l => k l
  | none => none
@[congr] theorem dbE_congr {r r' : Option (List V)} {k : List V → Option Ds} (h : r = r') : dbE r k = dbE r' k := by rw [h]
theorem s_dbE (l : List V) (k : List V → Option Ds) : dbE (some l) k = k l := _root_.id rfl
theorem s_dBuildS {Q : Orc} {base : Nat} (d : Option Nat) (z : List V) (len esz : Nat) (ps : List (Nat × Nat × O)) (s : Nat) (r : List (Op × Cl)) (T : Tr V) (hb : H) (p : List (Nat × Blk)) (hi : List H) (c : List (A × Tr V × List (Nat × List Nat) × V)) :
    evDxl Q base ((⟨d, .buildS z len esz ps, none⟩, .Al s) :: r) ⟨T, hb, p, hi, c⟩ = dbE (fillV z (evP T ps)) fun l => evDxl Q base r ⟨putT T d (.slice (some (base + s, 0)) len (some len) esz), hb, (s, .cells l .rw) :: p, hi, c⟩ := by
  simp only [evDxl, evDx1, evD1, wanted]
  rw [x_buildS]
  cases fillV z (evP T ps) with
  | none => rfl
  | some l =>
    show (match (match ((⟨.e, base + s⟩ : H).new (.cells l .rw)).get (base + s) with | some b => some (Ds.mk (putT T d (.slice (some (base + s, 0)) len (some len) esz)) hb ((s, b) :: p) hi c) | none => none) with | some d => evDxl Q base r d | none => none) = _
    rw [h_new_same' _ _ rfl]
    rfl
theorem w_c0 (v x : V) (r : List V) : writeN (v :: r) 0 [x] = x :: r := rfl
/-! strings of bytes -/
noncomputable def nsE (b : Option Blk) (off len : Nat) : Option V := match b with
  | some (.cells vs _) => match readN vs off len with
    | some l => strO (bytesOf l)
    | none => none
  | _ => none
@[congr] theorem nsE_congr {off len : Nat} {b b' : Option Blk} (e : b = b') : nsE b off len = nsE b' off len := by rw [e]
theorem ns_b2s (Q : Orc) (T : Tr V) (h : H) (x : O) : Eng.step (.b2s x) Q T h = same h (b2sV h (evO T x)) := _root_.id rfl
theorem nx_bs0 (h : H) (c : Option Nat) (e n : Nat) : b2sV h (.slice none n c e) = some (.str []) := _root_.id rfl
theorem nx_bs00 (h : H) (i off : Nat) (c : Option Nat) (e : Nat) : b2sV h (.slice (some (i, off)) 0 c e) = some (.str []) := _root_.id rfl
theorem nx_bs1 (h : H) (i off n : Nat) (c : Option Nat) (e : Nat) : b2sV h (.slice (some (i, off)) (n + 1) c e) = nsE (h.get i) off (n + 1) := by
  unfold b2sV nsE cellsAt
  simp only
  cases h.get i with
  | none => rfl
  | some b => cases b <;> rfl
theorem bytesOf_I : ∀ (l : List Nat), (∀ x ∈ l, x < 256) → bytesOf (ofI .u8 l) = some l := by
  intro l
  induction l with
  | nil => intro _; rfl
  | cons a r ih =>
    intro h
    show (match bytesOf (ofI .u8 r) with | some l => some (a % 256 :: l) | none => none) = _
    rw [ih (fun x hx => h x (List.mem_cons_of_mem _ hx)), Nat.mod_eq_of_lt (h a (List.mem_cons_self ..))]
def byt (l : List Nat) : Bool := l.all (fun x => decide (x < 256))
theorem byt_iff {l : List Nat} : byt l = true ↔ ∀ x ∈ l, x < 256 := by simp [byt]
theorem nsI (l : List Nat) (hb : byt l = true) (m : Md) (off n : Nat) (hn : off + n ≤ l.length) : nsE (some (.cells (ofI .u8 l) m)) off n = some (.str ((l.drop off).take n)) := by
  have hb' : ∀ x ∈ (l.drop off).take n, x < 256 := fun x hx => byt_iff.1 hb x (List.mem_of_mem_drop (List.mem_of_mem_take hx))
  unfold nsE
  simp only [readN_of _ _ _ (show off + n ≤ (ofI .u8 l).length by rw [ofI_len]; exact hn), ofI_drop, ofI_take, bytesOf_I _ hb']
  rfl
theorem shaV_byt (l : List Nat) : byt (shaV l) = true := by
  have : ∀ st i, byt (outN st i) = true := by
    intro st i
    induction i with
    | zero => rfl
    | succ i ih =>
      rw [byt_iff] at ih ⊢
      intro x hx
      unfold outN at hx
      rcases List.mem_append.1 hx with h | h
      · rcases List.mem_append.1 h with h | h
        · exact ih x (List.mem_of_mem_take h)
        · simp only [be4, List.mem_cons, List.not_mem_nil, or_false] at h; omega
      · exact ih x (List.mem_of_mem_drop h)
  exact this _ _
theorem strEq_dec : ∀ (a b : List Nat), strEq a b = decide (a = b) := by
  intro a
  induction a with
  | nil => intro b; cases b <;> rfl
  | cons x r ih =>
    intro b
    cases b with
    | nil => rfl
    | cons y s =>
      show (bif Nat.beq x y then strEq r s else false) = _
      by_cases h : x = y
      · subst h
        rw [show Nat.beq x x = true from Nat.beq_refl x, ih s]
        simp only [_root_.cond_true, List.cons.injEq, true_and]
      · have hb : Nat.beq x y = false := by
          cases hb : Nat.beq x y with
          | false => rfl
          | true => exact absurd (Nat.eq_of_beq_eq_true hb) h
        rw [hb]
        simp only [_root_.cond_false, List.cons.injEq, h, false_and, decide_false]
theorem vbeq_str (a : List Nat) : V.beq (.str a) (.str a) = true := by unfold V.beq; rw [strEq_dec]; simp
theorem b_seq (e : EqK) (h : H) (a b : List Nat) : binV .eql e h (.str a) (.str b) = some (.bool (decide (a = b))) := by
  rw [← strEq_dec]; rfl
theorem b_sneq (e : EqK) (h : H) (a b : List Nat) : binV .neq e h (.str a) (.str b) = some (.bool (!decide (a = b))) := by
  rw [← strEq_dec]; rfl
/-! sha.Of, known -/
noncomputable def ofE (r : Option (List Nat)) (h : H) : Option (V × H) := match r with
  | some l => match ofS l with
    | some v => some (v, h)
    | none => none
  | none => none
theorem ofE_some (l : List Nat) (hl : l.length ≤ 100000) (h : H) : ofE (some l) h = some (.agg (ofI .u8 (shaV l)), h) := by
  unfold ofE ofS; simp only [hl, decide_true, if_true]
/-- the known calls have sha.Of -/
def HasOf (X : Orc) : Prop := ∀ x h l v, rdB h x = some l → ofS l = some v → X (.fn k_sha_Of) [x] h = some (v, h)
theorem x_of0 (hx : HasOf X) (N : Nat) (a : Option (Nat × Nat)) (c : Option Nat) (e : Nat) (h : H) : callX E X (N + 1) (.fn k_sha_Of) [.slice a 0 c e] h = some (.agg (ofI .u8 (shaV [])), h) := x_known (hx _ _ [] _ rfl rfl)
theorem x_of1 (hx : HasOf X) (N i off n : Nat) (c : Option Nat) (l : List Nat) (h : H) (hr : rdC (n + 1) off (h.get i) = some l) (hl : l.length ≤ 100000) : callX E X (N + 1) (.fn k_sha_Of) [.slice (some (i, off)) (n + 1) c 1] h = some (.agg (ofI .u8 (shaV l)), h) := x_known (hx _ _ l _ hr (by unfold ofS; rw [decide_eq_true hl]; rfl))
noncomputable def ofQ (r : Option (List Nat)) (fb : Option (V × H)) (h : H) : Option (V × H) := match r with
  | some l => match ofS l with
    | some v => some (v, h)
    | none => fb
  | none => fb
@[congr] theorem ofQ_congr {r r' : Option (List Nat)} {fb : Option (V × H)} {h : H} (e : r = r') : ofQ r fb h = ofQ r' fb h := by rw [e]
theorem x_ofQ (hx : HasOf X) (N i off n : Nat) (c : Option Nat) (h : H) : callX E X (N + 1) (.fn k_sha_Of) [.slice (some (i, off)) (n + 1) c 1] h = ofQ (rdC (n + 1) off (h.get i)) (callX E X (N + 1) (.fn k_sha_Of) [.slice (some (i, off)) (n + 1) c 1] h) h := by
  unfold ofQ
  cases hr : rdC (n + 1) off (h.get i) with
  | none => rfl
  | some l =>
    simp only
    cases hv : ofS l with
    | none => rfl
    | some v => exact x_known (hx _ _ l _ hr hv)
theorem ofQ_some (l : List Nat) (hl : l.length ≤ 100000) (fb : Option (V × H)) (h : H) : ofQ (some l) fb h = some (.agg (ofI .u8 (shaV l)), h) := by
  unfold ofQ ofS; simp only [hl, decide_true, if_true]
end Go.Eng
namespace Go.Eng
open Go
variable {E : Nat → Option Fn} {X : Orc}
set_option linter.unusedSimpArgs false
set_option linter.unusedVariables false
theorem vbeq_I (k : IntKind) : ∀ l : List Nat, V.beq (.agg (ofI k l)) (.agg (ofI k l)) = true := by
  have : ∀ l : List Nat, V.beqs (ofI k l) (ofI k l) = true := by
    intro l
    induction l with
    | nil => rfl
    | cons a r ih =>
      show (V.beq (.int k (a : Int)) (.int k (a : Int)) && V.beqs (ofI k r) (ofI k r)) = true
      rw [vbeq_int, ih]; rfl
  intro l
  show V.beqs (ofI k l) (ofI k l) = true
  exact this l
theorem x_s2a (Q : Orc) (T : Tr V) (h : H) (n : Nat) (x : O) : Eng.step (.s2a n x) Q T h = same h (s2aV n (evO T x)) := _root_.id rfl
theorem s2a_of (n len : Nat) (p : Nat × Nat) (c : Option Nat) (e : Nat) (h : n + 1 ≤ len) : s2aV (n + 1) (.slice (some p) len c e) = some (.ptr (some p)) := by
  show (bif Nat.ble (n + 1) len then some (V.ptr (some p)) else none) = _
  rw [cond_ble, if_pos h]
theorem vbeq_slice (a : Option (Nat × Nat)) (l : Nat) (c : Option Nat) (e : Nat) : V.beq (.slice a l c e) (.slice a l c e) = true := by unfold V.beq; simp
theorem beqs_I (k : IntKind) : ∀ l : List Nat, V.beqs (ofI k l) (ofI k l) = true := by
  intro l
  induction l with
  | nil => rfl
  | cons a r ih =>
    show (V.beq (.int k (a : Int)) (.int k (a : Int)) && V.beqs (ofI k r) (ofI k r)) = true
    rw [vbeq_int, ih]; rfl
theorem beqC_self (c : Option Nat) : beqC c c = true := by cases c <;> simp [beqC]
theorem hit_rd {h : H} {i off n : Nat} {l : List Nat} (c : Option Nat) (hr : rdC (n + 1) off (h.get i) = some l) : hitP h (.s (ofI .u8 l) (n + 1) 1 c) (.slice (some (i, off)) (n + 1) c 1) = true ∧ l.length = n + 1 := by
  unfold rdC at hr
  split at hr
  · rename_i vs m hg
    split at hr
    · rename_i cs hrd
      have hcs := unB_some hr
      subst hcs
      have hl : l.length = n + 1 := by
        have := takeN_some hrd
        have h5 := congrArg List.length this.1
        rw [ofB_len, List.length_take] at h5
        have := this.2
        omega
      refine ⟨?_, hl⟩
      rw [← ofI_u8] at hrd
      simp only [hitP, Nat.beq_refl, beqC_self, cellsEq, Nat.mul_one, hg, hrd, beqs_I, Bool.and_self]
    · cases hr
  · cases hr
theorem okP_I (l : List Nat) (n : Nat) (c : Option Nat) (h : l.length = n + 1) : okP (.s (ofI .u8 l) (n + 1) 1 c) = true := by
  simp only [okP, datas_ofI, ofI_len, Nat.mul_one, h, Nat.beq_refl, Bool.true_and, Bool.and_true]
  simp
theorem hit_agg (h : H) (k : IntKind) (l : List Nat) : hitP h (.d (.agg (ofI k l))) (.agg (ofI k l)) = true := vbeq_I k l
theorem okP_agg (k : IntKind) (l : List Nat) : okP (.d (.agg (ofI k l))) = true := by simp only [okP, dataV, datas_ofI]
theorem unB_I {cs : List V} {l : List Nat} (h : unB cs = some l) : cs = ofI .u8 l := by rw [unB_some h, ofI_u8]
def is32 (l : List Nat) : Bool := Nat.beq l.length 32
theorem is32_iff {l : List Nat} : is32 l = true ↔ l.length = 32 := by unfold is32; simp
noncomputable def ofX1 : Orc := bytesX k_sha_Of ofS
theorem ofX1_has : HasOf ofX1 := fun x h l v e q => bytesX_yes h e q
def aliveS : List V → Option V
  | [] => some (.bool true)
  | _ => none
theorem aliveX_ok {P : Program} {g : Gn} {k N : Nat} {Y : Orc} (hE : Link P g E) (hY : QOk P g Y) (h : isTrue (callX E Y N (.fn k) [] H.empty) = true) : QOk P g (pureX k aliveS) := by
  refine pureX_ok (callX_ok hE hY N) ?_
  intro args v hs
  unfold aliveS at hs
  split at hs
  · cases hs
    obtain ⟨h1, e⟩ := isTrue_some h
    exact ⟨rfl, rfl, h1, e⟩
  · cases hs
theorem ofX1_eq : bytesX k_sha_Of ofF = ofX1 := by rw [ofF_eq]; rfl
theorem is32_of {l : List Nat} (h : l.length = 32) : is32 l = true := is32_iff.2 h
end Go.Eng
namespace Go.Eng
open Go
set_option linter.unusedSimpArgs false
set_option linter.unusedVariables false
/-! arguments, as the evaluator takes them -/
theorem absA_nil {H : Type} (P : Program) (n nx : Nat) : absA (H := H) P n [] [] nx = some ([], [], nx) := rfl
theorem absA_cons {H : Type} {P : Program} {n : Nat} {t : TypeId} {ts : List TypeId} {d : DataW H} {ds : List (DataW H)} {nx n1 n2 : Nat} {vs avs : List V} {bl bl' : List (Nat × List V)} {av : V}
    (h1 : absD P n t d nx = some (vs, bl, n1)) (hv : argV P t vs = av) (h2 : absA P n ts ds n1 = some (avs, bl', n2)) : absA P n (t :: ts) (d :: ds) nx = some (av :: avs, bl ++ bl', n2) := by
  simp only [absA, h1, h2, hv]
theorem argV_arr {P : Program} {t e : TypeId} {n : Nat} (h : P.underlying t = some (.array n e)) (vs : List V) : argV P t vs = .agg vs := by unfold argV; rw [h]
theorem argV_slc {P : Program} {t e : TypeId} (h : P.underlying t = some (.slice e)) (v : V) : argV P t [v] = v := by unfold argV; rw [h]
theorem argV_int {P : Program} {t : TypeId} {k : IntKind} (h : P.underlying t = some (.int k)) (v : V) : argV P t [v] = v := by unfold argV; rw [h]
theorem argV_bool {P : Program} {t : TypeId} (h : P.underlying t = some .bool) (v : V) : argV P t [v] = v := by unfold argV; rw [h]
theorem absL_I {H : Type} (P : Program) (e n : Nat) (he : P.underlying e = some (.int .u8)) (nx : Nat) : ∀ (s : List Nat), absL (absD (H := H) P (n + 1) e) (s.map fun (x : Nat) => .lit (.int .u8 (x : Int))) nx = some (ofI .u8 s, [], nx) := by
  intro s
  induction s with
  | nil => rfl
  | cons a r ih =>
    simp only [List.map_cons, absL]
    have : absD (H := H) P (n + 1) e (.lit (.int .u8 (a : Int))) nx = some ([.int .u8 (a : Int)], [], nx) := by simp only [absD, he]
    rw [this]
    simp only [ih]
    rfl
theorem lits_u8 {H : Type} {xs : List (DataW H × List MemPlace)} (go : ∀ x ∈ xs, ∃ b : Nat, x.1 = .lit (.int .u8 (b : Int)) ∧ b < 256) : ∃ s : List Nat, xs.map (·.1) = s.map (fun (x : Nat) => DataW.lit (.int .u8 (x : Int))) ∧ byt s = true ∧ s.length = xs.length := by
  induction xs with
  | nil => exact ⟨[], rfl, rfl, rfl⟩
  | cons x r ih =>
    obtain ⟨s, q1, q2, q3⟩ := ih (fun y hy => go y (List.mem_cons_of_mem _ hy))
    obtain ⟨b, b1, b2⟩ := go x (List.mem_cons_self ..)
    refine ⟨b :: s, by simp only [List.map_cons, b1, q1], ?_, by simp [q3]⟩
    rw [byt_iff] at q2 ⊢
    intro y hy
    rcases List.mem_cons.1 hy with rfl | hy
    · exact b2
    · exact q2 y hy
section
variable {H : Type} {enc : TypeId × Value → H} {P : Program} {W : World} {spare : Nat → Bool} {held : Bool} {base : Nat}
theorem trod_hash {t e : TypeId} {N : Nat} (ht : P.underlying t = some (.array N e)) (he : P.underlying e = some (.int .u8)) {v : Value} {d : DataW H} {p : List MemPlace} (h : DataW.Trod enc P W base spare held t v d p) :
    ∃ s : List Nat, s.length = N ∧ byt s = true ∧ ∀ n nx, absD P (n + 2) t d nx = some (ofI .u8 s, [], nx) := by
  obtain ⟨f, hf⟩ := h
  obtain ⟨xs, m, _, hx, _, hl, hi⟩ := DataW.trod_array ht hf
  have go : ∀ x ∈ xs, ∃ b : Nat, x.1 = .lit (.int .u8 (b : Int)) ∧ b < 256 := by
    intro x hxm
    obtain ⟨i, hi1, hi2⟩ := List.getElem_of_mem hxm
    have hi3 : xs[i]? = some x := by rw [List.getElem?_eq_getElem hi1, hi2]
    obtain ⟨n, _, e1, w⟩ := DataW.trod_int he ((hi i (by omega)).trans hi3)
    simp [Lit.wf, IntKind.min, IntKind.max, IntKind.signed, IntKind.bits] at w
    obtain ⟨b, rfl⟩ := Int.eq_ofNat_of_zero_le w.1
    exact ⟨b, by rw [e1], by omega⟩
  obtain ⟨s, s1, s2, s3⟩ := lits_u8 go
  refine ⟨s, by omega, s2, fun n nx => ?_⟩
  have ed : d = .agg (s.map fun (x : Nat) => .lit (.int .u8 (x : Int))) := by
    have := congrArg Prod.fst hx
    simp only at this
    rw [this, s1]
  rw [ed]
  unfold absD
  rw [ht]
  exact absL_I P e n he nx s
/-- bytes behind a place from 'lo' on -/
def Lay (bl : List (Nat × List V)) (a : Option (Nat × Nat)) (l : List Nat) (lo hi : Nat) : Prop :=
  lo ≤ hi ∧ ((l = [] ∧ ∀ x ∈ bl, lo ≤ x.1 ∧ x.1 < hi) ∨ (a = some (lo, 0) ∧ bl = [(lo, ofI .u8 l)] ∧ lo < hi))
theorem absD_slc' (n : Nat) {t e : TypeId} (ht : P.underlying t = some (.slice e)) (A B : List (DataW H)) (nx : Nat) : absD P (n + 1) t (.slice A B) nx = (match absL (absD P n e) A (nx + 1) with
    | none => none
    | some (vs, bl, n1) => match A.length + B.length with
      | 0 => some ([.slice (some (nx, 0)) 0 none (P.cellsOf e)], [], n1)
      | _ + 1 => some ([.slice (some (nx, 0)) A.length none (P.cellsOf e)], (nx, vs) :: bl, n1)) := by
  unfold absD
  rw [ht]
  rfl
theorem trod_u8s {t e : TypeId} (ht : P.underlying t = some (.slice e)) (he : P.underlying e = some (.int .u8)) (hc : P.cellsOf e = 1) {v : Value} {d : DataW H} {p : List MemPlace} (h : DataW.Trod enc P W base spare held t v d p) :
    ∃ l : List Nat, byt l = true ∧ ∀ n nx, ∃ a bl n1, absD P (n + 2) t d nx = some ([.slice a l.length none 1], bl, n1) ∧ Lay bl a l nx n1 := by
  obtain ⟨f, hf⟩ := h
  rcases DataW.trod_slice ht hf with ⟨_, hx⟩ | ⟨ad, len, cap, elems, rest, n, _, _, hx, _, _, _, hl, hi, _, _⟩
  · have hd : d = .nil := congrArg Prod.fst hx
    subst hd
    refine ⟨[], rfl, fun n nx => ⟨none, [], nx, ?_, Nat.le_refl _, .inl ⟨rfl, by simp⟩⟩⟩
    simp only [absD, ht, hc, List.length_nil]
  · have hd : d = .slice (elems.map (·.1)) (rest.map (·.1)) := congrArg Prod.fst hx
    have go : ∀ x ∈ elems, ∃ b : Nat, x.1 = .lit (.int .u8 (b : Int)) ∧ b < 256 := by
      intro x hxm
      obtain ⟨i, hi1, hi2⟩ := List.getElem_of_mem hxm
      have hi3 : elems[i]? = some x := by rw [List.getElem?_eq_getElem hi1, hi2]
      have h4 := (hi i (by omega)).trans hi3
      simp only [Option.bind_eq_some_iff] at h4
      obtain ⟨cs, _, h5⟩ := h4
      obtain ⟨n, _, e1, w⟩ := DataW.trod_int he h5
      simp [Lit.wf, IntKind.min, IntKind.max, IntKind.signed, IntKind.bits] at w
      obtain ⟨b, rfl⟩ := Int.eq_ofNat_of_zero_le w.1
      exact ⟨b, by rw [e1], by omega⟩
    obtain ⟨s, s1, s2, s3⟩ := lits_u8 go
    have sl : (elems.map (·.1)).length = s.length := by rw [s1, List.length_map]
    subst hd
    refine ⟨s, s2, fun n nx => ?_⟩
    have hab : absL (absD (H := H) P (n + 1) e) (elems.map (·.1)) (nx + 1) = some (ofI .u8 s, [], nx + 1) := by rw [s1]; exact absL_I P e n he _ s
    cases hn : (elems.map (·.1)).length + (rest.map (·.1)).length with
    | zero =>
      have h0 : s.length = 0 := by omega
      refine ⟨some (nx, 0), [], nx + 1, ?_, by omega, .inl ⟨List.length_eq_zero_iff.1 h0, by simp⟩⟩
      rw [absD_slc' (n + 1) ht, hab]
      simp only [hc, hn, h0]
    | succ m =>
      refine ⟨some (nx, 0), [(nx, ofI .u8 s)], nx + 1, ?_, by omega, .inr ⟨rfl, rfl, by omega⟩⟩
      rw [absD_slc' (n + 1) ht, hab]
      simp only [hc, hn]
      rw [sl]
theorem absD_int' (n : Nat) {t : TypeId} {k : IntKind} (hu : P.underlying t = some (.int k)) (x : Int) (nx : Nat) : absD (H := H) P (n + 1) t (.lit (.int k x)) nx = some ([.int k x], [], nx) := by simp only [absD, hu]
end
theorem mkB_skip : ∀ (bl r : List (Nat × List V)) (i : Nat), (∀ x ∈ bl, x.1 ≠ i) → (mkB (bl ++ r)).get i = (mkB r).get i := by
  intro bl
  induction bl with
  | nil => intro r i _; rfl
  | cons x s ih =>
    intro r i h
    show ((mkB (s ++ r)).set x.1 _).get i = _
    rw [Tr.get_set, if_neg (h x (List.mem_cons_self ..)), ih r i (fun y hy => h y (List.mem_cons_of_mem _ hy))]
theorem mkB_hit (k : Nat) (v : List V) (r : List (Nat × List V)) : (mkB ((k, v) :: r)).get k = some (.cells v .ro) := by
  show ((mkB r).set k _).get k = _
  rw [Tr.get_set, if_pos rfl]
/-- the bytes of an argument, ahead of which 'pre' was laid -/
theorem Lay.src {pre bl post : List (Nat × List V)} {a : Option (Nat × Nat)} {l : List Nat} {lo hi nx : Nat} (L : Lay bl a l lo hi) (hp : ∀ x ∈ pre, x.1 < lo) (hn : hi ≤ nx) : SrcH (mkH (pre ++ (bl ++ post)) nx) a 1 l := by
  obtain ⟨hle, h | ⟨ha, hb, hlt⟩⟩ := L
  · exact .inl h.1
  · refine .inr ⟨lo, 0, ofI .u8 l, .ro, ha, rfl, by show lo < nx; omega, ?_, by rw [ofI_len]; omega, by rw [List.drop_zero]; exact List.take_of_length_le (by rw [ofI_len]; exact Nat.le_refl _)⟩
    show (mkB (pre ++ (bl ++ post))).get lo = _
    rw [mkB_skip _ _ _ (fun x hx => Nat.ne_of_lt (hp x hx)), hb]
    exact mkB_hit _ _ _
theorem Lay.keys {bl : List (Nat × List V)} {a : Option (Nat × Nat)} {l : List Nat} {lo hi : Nat} (L : Lay bl a l lo hi) : ∀ x ∈ bl, lo ≤ x.1 ∧ x.1 < hi := by
  obtain ⟨hle, h | ⟨ha, hb, hlt⟩⟩ := L
  · exact h.2
  · intro x hx; rw [hb] at hx; rcases List.mem_singleton.1 hx with rfl; exact ⟨Nat.le_refl _, hlt⟩
end Go.Eng
namespace Go.Eng
open Go
variable {E : Nat → Option Fn} {X : Orc}
set_option linter.unusedSimpArgs false
set_option linter.unusedVariables false
theorem slcV_hiA (n b : Nat) (a : Option (Nat × Nat)) (k : IntKind) (hb : b ≤ n) : slcV 1 none (some (.int k (b : Int))) none (.slice a n none 1) = some (.slice a b none 1) := by
  unfold slcV
  simp only [Nat.beq_refl, Bool.true_or, _root_.cond_true, Option.getD_none, x_bnd _ _ _ _ hb, x_bnd0]
  cases a <;> simp [upA, subC]
theorem slcV_loA (n m : Nat) (a : Option (Nat × Nat)) (k : IntKind) (hm : m ≤ n) : slcV 1 (some (.int k (m : Int))) none none (.slice a n none 1) = some (.slice (upA a m) (n - m) none 1) := slcS_lo _ _ _ _ _ _ hm rfl
theorem slcV_lhA (n m b : Nat) (a : Option (Nat × Nat)) (k k' : IntKind) (hb : b ≤ n) (hm : m ≤ b) : slcV 1 (some (.int k (m : Int))) (some (.int k' (b : Int))) none (.slice a n none 1) = some (.slice (upA a m) (b - m) none 1) := by
  unfold slcV
  simp only [Nat.beq_refl, Bool.true_or, _root_.cond_true, Option.getD_none, x_bnd _ _ _ _ hb, x_bnd _ _ _ _ hm, Nat.mul_one]
  rfl
theorem SrcH.take {h : H} {a : Option (Nat × Nat)} {e : Nat} {l : List Nat} (s : SrcH h a e l) (n : Nat) : SrcH h a e (l.take n) := by
  rcases s with h | ⟨bi, off, vs, m, h1, h2, h3, h4, h5, h6⟩
  · left; rw [h]; simp
  · right
    refine ⟨bi, off, vs, m, h1, h2, h3, h4, by rw [List.length_take]; omega, ?_⟩
    rw [List.length_take, ← List.take_take, h6, ofI_take]
theorem SrcH.drop {h : H} {a : Option (Nat × Nat)} {e : Nat} {l : List Nat} (s : SrcH h a e l) (n : Nat) : SrcH h (upA a n) e (l.drop n) := by
  rcases s with h | ⟨bi, off, vs, m, h1, h2, h3, h4, h5, h6⟩
  · left; rw [h]; simp
  · by_cases hn : n < l.length
    · right
      refine ⟨bi, off + n, vs, m, by rw [h1]; rfl, h2, h3, h4, by rw [List.length_drop]; omega, ?_⟩
      rw [List.length_drop, ← List.drop_drop, ← List.drop_take, h6, ofI_drop]
    · left; exact List.drop_eq_nil_of_le (by omega)
theorem len_go (e1 : E (k_sha_Sum_Len) = some f_sha_Sum_Len) (x1 : ∀ a h, X (.fn k_sha_Sum_Len) a h = none) (e : EnSha E) (x : NoSha X) (N p : Nat) (s : Sm) (ok : SmOk s) (md : Md) (h : H) (hp : h.get p = some (.cells (sumC s.st s.blk s.len) md)) :
    callX E X (N + 2) (.fn k_sha_Sum_Len) [.ptr (some (p, 0))] h = some (.int .u64 (s.len : Int), h) := by
  rw [x_cfn e1 _ _ (Nat.le_of_ble_eq_true rfl) (x1 _ _)]
  have su := sums_go e x N p s.st s.blk s.len md h ok.1 ok.2.1 hp
  have ll : (sumC s.st s.blk s.len)[72]? = some (.int .u64 (s.len : Int)) := sumC_l _ _ _ ok.1 ok.2.1
  generalize sumC s.st s.blk s.len = C at *
  simp (config := {maxSteps := 2000000}) (disch := first | omega | (simp only [List.length_cons, List.length_nil, List.length_append, List.length_drop]; omega)) only [su, hp, ll, ↓b_xor32, ↓b_and32, ↓b_or32, ↓u_not32, b_xor32, b_and32, b_or32, u_not32, w32ad, ↓x_conv, x_convV, ↓x_fieldAddr, x_fieldV, ↓s_nilchk, x_nilchk, Nat.zero_add, Nat.add_zero, Nat.mul_one, ↓l_loop, ↓l_succ, ↓l_normal, l_normal, l_exit, l_ret, l_iteN, ↓h_put_get, ↓h_new_get, ↓h_del_get, h_next_put, h_next_new, h_next_del, Nat.add_assoc, Nat.add_eq_left, Nat.left_eq_add, Nat.add_left_cancel_iff, ↓s_load, m_load, ↓m_load1, m_load1, ↓m_st, m_stE, m_storeI, m_storeE, w_zero, w_succ, ↓s_alloc, ↓x_idxA, ↓x_idxS, x_idxAE, x_idxSE, x_addrE, x_idx, x_lenS, ↓s_len, ↓x_buildS, x_buildE, ↓x_P0, ↓x_P1, x_fill0, x_filli, x_fills, x_fillb, c_int, List.length_cons, List.length_nil, List.cons_append, List.drop_succ_cons, List.drop_zero, List.drop_nil, List.nil_append, Int.reduceAdd, Int.reduceToNat, Int.reduceLT, Int.reduceLE, Nat.reduceAdd, Nat.reduceMul, Nat.reduceLeDiff, Int.reduceEq, Int.reduceSub, Int.cast_ofNat_Int, s_resc, s_consR, m_load4, m_store4, s_res0, ↓s_skip, ↓s_ops, ↓s_dops, ↓s_seq, ↓s_cond, ↓s_block, ↓s_exit, ↓s_ret, ↓s_scope, ↓s_nil, ↓s_op, ↓s_opg, ↓s_wanted', ↓s_wantV, s_wantV, s_wantV0, beq_true, beq_false, ↓s_bindS, s_bindS, ↓s_bindE, s_bindE, s_bindE_ret, s_bindE_exit, s_bindE_iteN, s_norm, ↓s_condV, s_condV, s_block_ret, s_block_normal, s_block_exit, s_block_iteN, ↓s_getp, ↓s_getp0, ↓s_get, s_get0, ↓s_con, ↓s_fn, ↓s_os0, ↓s_os1, ↓s_list0, ↓s_list1, ↓s_mov, ↓s_pick, ↓s_pickE, s_pickE, ↓s_bin, ↓s_un, ↓s_minmax, ↓s_call, ↓s_callv, ↓s_callV, ↓s_ext, s_same, b_eql, b_neq, b_lss, b_leq, b_gtr, b_geq, b_add, b_sub, b_mul, b_eqlb, b_neqb, b_fnil, b_fnil', b_fnil2, b_fnil2', u_neg, u_not, m_two, s_end, s_end', s_end_iteN, s_res0, s_res1, s_tup1, s_tup2, ↓iteN_true, ↓iteN_false, iteN_true, iteN_false, Nat.zero_add, List.nil_append, List.append_nil, Nat.reduceEqDiff, reduceIte, decide_true, decide_false, Bool.not_true, Bool.not_false, List.getElem?_cons_zero, List.getElem?_cons_succ, Bool.false_eq_true, if_true, if_false, beq_self_eq_true]
theorem len_absorb : ∀ (l : List Nat) (s : Sm), SmOk s → s.len + l.length < 18446744073709551616 → (absorb s l).len = s.len + l.length := by
  intro l
  induction l with
  | nil => intro s _ _; rfl
  | cons b r ih =>
    intro s ok h
    simp only [List.length_cons] at h
    have := ih (eat1 s b) (eat1_ok s b ok) (by simp only [eat1]; omega)
    show (absorb (eat1 s b) r).len = _
    rw [this]; simp only [eat1, List.length_cons]; omega
/-- a sum lies at a place -/
def SumAt (h : H) (p : Nat) (s : Sm) : Prop := p < h.next ∧ h.get p = some (.cells (sumC s.st s.blk s.len) .rw)
theorem SumAt.kp {h h' : H} {p : Nat} {s : Sm} (a : SumAt h p s) (k : Kp h h') : SumAt h' p s := ⟨Nat.lt_of_lt_of_le a.1 k.1, by rw [k.2 _ a.1, a.2]⟩
theorem SumAt.kq {h h' : H} {p q : Nat} {s : Sm} (a : SumAt h p s) (k : Kq q h h') (hn : p ≠ q) : SumAt h' p s := ⟨Nat.lt_of_lt_of_le a.1 k.1, by rw [k.2 _ a.1 hn, a.2]⟩
theorem write_at (e : EnSha E) (x : NoSha X) (M p : Nat) (s : Sm) (ok : SmOk s) (l : List Nat) (a : Option (Nat × Nat)) (n : Nat) (hn : l.length = n) (c : Option Nat) (ez : Nat) (h : H) (hM : l.length < M) (hM2 : l.length < 9223372036854775808) (hp : SumAt h p s) (src : Src h p h.next a ez l) :
    ∃ h', callX E X (M + 80) (.fn k_sha_Sum_Write) [.ptr (some (p, 0)), .slice a n c ez] h = some (.ptr (some (p, 0)), h') ∧ SumAt h' p (absorb s l) ∧ Kq p h h' := by
  subst hn
  obtain ⟨h', r, g, k⟩ := write_go e x M p s ok l a c ez h hM hM2 hp.2 hp.1 src
  exact ⟨h', r, ⟨Nat.lt_of_lt_of_le hp.1 k.1, g⟩, k⟩
/-- bytes that lie in an old block, read when others were laid -/
theorem SrcH.src2 {h h' : H} {a : Option (Nat × Nat)} {e : Nat} {l : List Nat} (s : SrcH h a e l) (hle : h.next ≤ h'.next) (k : ∀ i, i < h.next → h'.get i = h.get i) (p : Nat) (hp : h.next ≤ p) : Src h' p h'.next a e l := s.src ⟨hle, k⟩ p hp
theorem new_at (e : EnSha E) (x : NoSha X) (N : Nat) (h : H) : ∃ h' p, callX E X (N + 2) (.fn k_sha_New) [] h = some (.ptr (some (p, 0)), h') ∧ SumAt h' p initS ∧ Kp h h' ∧ h.next ≤ p := by
  obtain ⟨h', r, g, k, n⟩ := new_go e x N h
  exact ⟨h', h'.next - 1, r, ⟨by omega, g⟩, k, by omega⟩
theorem end_at (e : EnSha E) (x : NoSha X) (M p : Nat) (s : Sm) (ok : SmOk s) (h : H) (hM : 100 < M) (hp : SumAt h p s) : ∃ h', callX E X (M + 81) (.fn k_sha_Sum_End) [.ptr (some (p, 0))] h = some (.agg (ofI .u8 (endV s)), h') ∧ Kp h h' := end_go e x M p s ok h hM hp.2 hp.1
structure PL (h0 : H) (l : List Nat) (a : Option (Nat × Nat)) (w p q : Nat) (sp : Sm) (i : Nat) (T : Tr V) (h : H) : Prop where
  il : i ≤ l.length
  t0 : evO T (.t 0) = .slice a l.length none 1
  t5 : evO T (.t 5) = .bool true
  t7 : evO T (.t 7) = .ptr (some (w, 0))
  t8 : evO T (.t 8) = .ptr (some (p, 0))
  t9 : evO T (.t 9) = .ptr (some (q, 0))
  t39 : evO T (.t 39) = .int .i64 (l.length : Int)
  t40 : evO T (.t 40) = .int .i64 (i : Int)
  sq : SumAt h q (absorb initS (l.take i))
  kq : Kq q h0 h
theorem parts_step (e : EnSha E) (x : NoSha X) (M n : Nat) (hM : 1000 < M) (h0 hs : H) (l : List Nat) (hl : l.length ≤ 1000) (a : Option (Nat × Nat)) (w p q : Nat) (sp : Sm) (src : SrcH hs a 1 l) (kh : Kp hs h0) (hq : hs.next ≤ q) :
    ∀ i T h, i < l.length → PL h0 l a w p q sp i T h → ∃ T' h', evC (callX E X (M + 80)) 79 n none L_purserlaw04_ShaParts_0 ⟨T, [], h⟩ = some (.normal, ⟨T', [], h'⟩) ∧ PL h0 l a w p q sp (i + 1) T' h' := by
  intro i T h hi ⟨il, t0, t5, t7, t8, t9, t39, t40, sq, kq⟩
  have c0 : decide ((i : Int) < (l.length : Int)) = true := decide_eq_true (by omega)
  have wi : wr .i64 ((i : Int) + 1) = ((i + 1 : Nat) : Int) := by rw [wr_i64 (by omega)]; omega
  have sv := slcV_lhA l.length i (i + 1) a .i64 .i64 (by omega) (by omega)
  have l1 : ((l.drop i).take 1).length = i + 1 - i := by rw [List.length_take, List.length_drop]; omega
  have khh : ∀ j, j < hs.next → h.get j = hs.get j := fun j hj => by rw [kq.2 j (Nat.lt_of_lt_of_le hj kh.1) (by omega), kh.2 j hj]
  obtain ⟨h', r, g, k⟩ := write_at e x M q (absorb initS (l.take i)) (absorb_ok _ _ initS_ok) ((l.drop i).take 1) (upA a i) (i + 1 - i) l1 none 1 h (by rw [l1]; omega) (by rw [l1]; omega) sq (((src.drop i).take 1).src2 (Nat.le_trans kh.1 kq.1) khh q hq)
  have ea : absorb (absorb initS (l.take i)) ((l.drop i).take 1) = absorb initS (l.take (i + 1)) := by
    rw [← absorb_app]
    congr 1
    rw [List.take_add]
  rw [ea] at g
  refine ⟨_, h', by
    simp (config := {maxSteps := 2000000}) (disch := first | omega | (simp only [List.length_cons, List.length_nil, List.length_append, List.length_drop]; omega)) only [L_purserlaw04_ShaParts_0, t0, t9, t39, t40, c0, wi, sv, r, ↓x_slcS, x_M1, x_M0, ↓b_xor32, ↓b_and32, ↓b_or32, ↓u_not32, b_xor32, b_and32, b_or32, u_not32, w32ad, ↓x_conv, x_convV, ↓x_fieldAddr, x_fieldV, ↓s_nilchk, x_nilchk, Nat.zero_add, Nat.add_zero, Nat.mul_one, ↓l_loop, ↓l_succ, ↓l_normal, l_normal, l_exit, l_ret, l_iteN, ↓h_put_get, ↓h_new_get, ↓h_del_get, h_next_put, h_next_new, h_next_del, Nat.add_assoc, Nat.add_eq_left, Nat.left_eq_add, Nat.add_left_cancel_iff, ↓s_load, m_load, ↓m_load1, m_load1, ↓m_st, m_stE, m_storeI, m_storeE, w_zero, w_succ, ↓s_alloc, ↓x_idxA, ↓x_idxS, x_idxAE, x_idxSE, x_addrE, x_idx, x_lenS, ↓s_len, ↓x_buildS, x_buildE, ↓x_P0, ↓x_P1, x_fill0, x_filli, x_fills, x_fillb, c_int, List.length_cons, List.length_nil, List.cons_append, List.drop_succ_cons, List.drop_zero, List.drop_nil, List.nil_append, Int.reduceAdd, Int.reduceToNat, Int.reduceLT, Int.reduceLE, Nat.reduceAdd, Nat.reduceMul, Nat.reduceLeDiff, Int.reduceEq, Int.reduceSub, Int.cast_ofNat_Int, s_resc, s_consR, m_load4, m_store4, s_res0, ↓s_skip, ↓s_ops, ↓s_dops, ↓s_seq, ↓s_cond, ↓s_block, ↓s_exit, ↓s_ret, ↓s_scope, ↓s_nil, ↓s_op, ↓s_opg, ↓s_wanted', ↓s_wantV, s_wantV, s_wantV0, beq_true, beq_false, ↓s_bindS, s_bindS, ↓s_bindE, s_bindE, s_bindE_ret, s_bindE_exit, s_bindE_iteN, s_norm, ↓s_condV, s_condV, s_block_ret, s_block_normal, s_block_exit, s_block_iteN, ↓s_getp, ↓s_getp0, ↓s_get, s_get0, ↓s_con, ↓s_fn, ↓s_os0, ↓s_os1, ↓s_list0, ↓s_list1, ↓s_mov, ↓s_pick, ↓s_pickE, s_pickE, ↓s_bin, ↓s_un, ↓s_minmax, ↓s_call, ↓s_callv, ↓s_callV, ↓s_ext, s_same, b_eql, b_neq, b_lss, b_leq, b_gtr, b_geq, b_add, b_sub, b_mul, b_eqlb, b_neqb, b_fnil, b_fnil', b_fnil2, b_fnil2', u_neg, u_not, m_two, s_end, s_end', s_end_iteN, s_res0, s_res1, s_tup1, s_tup2, ↓iteN_true, ↓iteN_false, iteN_true, iteN_false, Nat.zero_add, List.nil_append, List.append_nil, Nat.reduceEqDiff, reduceIte, decide_true, decide_false, Bool.not_true, Bool.not_false, List.getElem?_cons_zero, List.getElem?_cons_succ, Bool.false_eq_true, if_true, if_false, beq_self_eq_true]
    exact rfl, ⟨by omega, (by (simp only [s_getp, s_getp0, Nat.reduceEqDiff, decide_false, decide_true, iteN_false, iteN_true, t0]; try rfl)), (by (simp only [s_getp, s_getp0, Nat.reduceEqDiff, decide_false, decide_true, iteN_false, iteN_true, t5]; try rfl)), (by (simp only [s_getp, s_getp0, Nat.reduceEqDiff, decide_false, decide_true, iteN_false, iteN_true, t7]; try rfl)), (by (simp only [s_getp, s_getp0, Nat.reduceEqDiff, decide_false, decide_true, iteN_false, iteN_true, t8]; try rfl)), (by (simp only [s_getp, s_getp0, Nat.reduceEqDiff, decide_false, decide_true, iteN_false, iteN_true, t9]; try rfl)), (by (simp only [s_getp, s_getp0, Nat.reduceEqDiff, decide_false, decide_true, iteN_false, iteN_true, t39]; try rfl)), (by (simp only [s_getp, s_getp0, Nat.reduceEqDiff, decide_false, decide_true, iteN_false, iteN_true, t0]; try rfl)), g, kq.trans k⟩⟩
theorem parts_loop (e : EnSha E) (x : NoSha X) (M n : Nat) (hM : 1000 < M) (h0 hs : H) (l : List Nat) (hl : l.length ≤ 1000) (hn : l.length < n) (a : Option (Nat × Nat)) (w p q : Nat) (sp : Sm) (src : SrcH hs a 1 l) (kh : Kp hs h0) (hq : hs.next ≤ q) (T : Tr V) (h : H) (I : PL h0 l a w p q sp 0 T h) :
    ∃ T' h', loopN (evC (callX E X (M + 80)) 79 n none L_purserlaw04_ShaParts_0) n ⟨T, [], h⟩ = some (.exit 0, ⟨T', [], h'⟩) ∧ PL h0 l a w p q sp l.length T' h' :=
  loop_go (PL h0 l a w p q sp) l.length (.exit 0) (by intro h; cases h) _ (parts_step e x M n hM h0 hs l hl a w p q sp src kh hq) (fun T h I => by
    obtain ⟨il, t0, t5, t7, t8, t9, t39, t40, sq, kq⟩ := I
    have c0 : decide ((l.length : Int) < (l.length : Int)) = false := decide_eq_false (by omega)
    refine ⟨_, _, by
      simp (config := {maxSteps := 2000000}) (disch := first | omega | (simp only [List.length_cons, List.length_nil, List.length_append, List.length_drop]; omega)) only [L_purserlaw04_ShaParts_0, t39, t40, c0, ↓b_xor32, ↓b_and32, ↓b_or32, ↓u_not32, b_xor32, b_and32, b_or32, u_not32, w32ad, ↓x_conv, x_convV, ↓x_fieldAddr, x_fieldV, ↓s_nilchk, x_nilchk, Nat.zero_add, Nat.add_zero, Nat.mul_one, ↓l_loop, ↓l_succ, ↓l_normal, l_normal, l_exit, l_ret, l_iteN, ↓h_put_get, ↓h_new_get, ↓h_del_get, h_next_put, h_next_new, h_next_del, Nat.add_assoc, Nat.add_eq_left, Nat.left_eq_add, Nat.add_left_cancel_iff, ↓s_load, m_load, ↓m_load1, m_load1, ↓m_st, m_stE, m_storeI, m_storeE, w_zero, w_succ, ↓s_alloc, ↓x_idxA, ↓x_idxS, x_idxAE, x_idxSE, x_addrE, x_idx, x_lenS, ↓s_len, ↓x_buildS, x_buildE, ↓x_P0, ↓x_P1, x_fill0, x_filli, x_fills, x_fillb, c_int, List.length_cons, List.length_nil, List.cons_append, List.drop_succ_cons, List.drop_zero, List.drop_nil, List.nil_append, Int.reduceAdd, Int.reduceToNat, Int.reduceLT, Int.reduceLE, Nat.reduceAdd, Nat.reduceMul, Nat.reduceLeDiff, Int.reduceEq, Int.reduceSub, Int.cast_ofNat_Int, s_resc, s_consR, m_load4, m_store4, s_res0, ↓s_skip, ↓s_ops, ↓s_dops, ↓s_seq, ↓s_cond, ↓s_block, ↓s_exit, ↓s_ret, ↓s_scope, ↓s_nil, ↓s_op, ↓s_opg, ↓s_wanted', ↓s_wantV, s_wantV, s_wantV0, beq_true, beq_false, ↓s_bindS, s_bindS, ↓s_bindE, s_bindE, s_bindE_ret, s_bindE_exit, s_bindE_iteN, s_norm, ↓s_condV, s_condV, s_block_ret, s_block_normal, s_block_exit, s_block_iteN, ↓s_getp, ↓s_getp0, ↓s_get, s_get0, ↓s_con, ↓s_fn, ↓s_os0, ↓s_os1, ↓s_list0, ↓s_list1, ↓s_mov, ↓s_pick, ↓s_pickE, s_pickE, ↓s_bin, ↓s_un, ↓s_minmax, ↓s_call, ↓s_callv, ↓s_callV, ↓s_ext, s_same, b_eql, b_neq, b_lss, b_leq, b_gtr, b_geq, b_add, b_sub, b_mul, b_eqlb, b_neqb, b_fnil, b_fnil', b_fnil2, b_fnil2', u_neg, u_not, m_two, s_end, s_end', s_end_iteN, s_res0, s_res1, s_tup1, s_tup2, ↓iteN_true, ↓iteN_false, iteN_true, iteN_false, Nat.zero_add, List.nil_append, List.append_nil, Nat.reduceEqDiff, reduceIte, decide_true, decide_false, Bool.not_true, Bool.not_false, List.getElem?_cons_zero, List.getElem?_cons_succ, Bool.false_eq_true, if_true, if_false, beq_self_eq_true]
      exact rfl, ⟨il, (by (simp only [s_getp, s_getp0, Nat.reduceEqDiff, decide_false, decide_true, iteN_false, iteN_true, t0]; try rfl)), (by (simp only [s_getp, s_getp0, Nat.reduceEqDiff, decide_false, decide_true, iteN_false, iteN_true, t5]; try rfl)), (by (simp only [s_getp, s_getp0, Nat.reduceEqDiff, decide_false, decide_true, iteN_false, iteN_true, t7]; try rfl)), (by (simp only [s_getp, s_getp0, Nat.reduceEqDiff, decide_false, decide_true, iteN_false, iteN_true, t8]; try rfl)), (by (simp only [s_getp, s_getp0, Nat.reduceEqDiff, decide_false, decide_true, iteN_false, iteN_true, t9]; try rfl)), (by (simp only [s_getp, s_getp0, Nat.reduceEqDiff, decide_false, decide_true, iteN_false, iteN_true, t39]; try rfl)), (by (simp only [s_getp, s_getp0, Nat.reduceEqDiff, decide_false, decide_true, iteN_false, iteN_true, t40]; try rfl)), sq, kq⟩⟩) l.length 0 (by omega) n hn T h I
/-- what the laws of sha know -/
noncomputable def shX (k : Nat) : Orc := orX ofX1 (pureX k aliveS)
theorem sh_no (k : Nat) (hk : ∀ f, f = k_math_bits_RotateLeft32 ∨ f = k_sha_turned ∨ f = k_sha_cubeTable ∨ f = k_sha_squareTable ∨ f = k_sha_Sum_schedule ∨ f = k_sha_Sum_mix ∨ f = k_sha_Sum_sums ∨ f = k_sha_Sum_fill ∨ f = k_sha_Sum_fill_1 ∨ f = k_sha_padding ∨ f = k_sha_Sum_Write ∨ f = k_sha_Sum_End ∨ f = k_sha_New → Nat.beq f k = false) : NoSha (shX k) := by
  have g : ∀ f, Nat.beq f k_sha_Of = false → Nat.beq f k = false → ∀ a h, shX k (.fn f) a h = none := fun f h1 h2 a h => (orX_r (bytesX_no h h1)).trans (pureX_no h h2)
  exact ⟨g _ rfl (hk _ (by simp)), g _ rfl (hk _ (by simp)), g _ rfl (hk _ (by simp)), g _ rfl (hk _ (by simp)), g _ rfl (hk _ (by simp)), g _ rfl (hk _ (by simp)), g _ rfl (hk _ (by simp)), g _ rfl (hk _ (by simp)), g _ rfl (hk _ (by simp)), g _ rfl (hk _ (by simp)), g _ rfl (hk _ (by simp)), g _ rfl (hk _ (by simp)), g _ rfl (hk _ (by simp)), fun _ _ _ => rfl⟩
theorem x_ofH (hx : HasOf X) (N : Nat) (l : List Nat) (a : Option (Nat × Nat)) (c : Option Nat) (h : H) {ez : Nat} (src : SrcH h a ez l) (hl : l.length ≤ 100000) : callX E X (N + 1) (.fn k_sha_Of) [.slice a l.length c ez] h = some (.agg (ofI .u8 (shaV l)), h) := by
  refine x_known (hx _ _ l _ ?_ (by unfold ofS; rw [decide_eq_true hl]; rfl))
  rcases src with rfl | ⟨bi, off, vs, m, rfl, rfl, h3, h4, h5, h6⟩
  · rfl
  · cases hn : l.length with
    | zero => rw [List.length_eq_zero_iff.1 hn]; rfl
    | succ n =>
      show rdC (n + 1) off (h.get bi) = some l
      rw [h4]
      unfold rdC
      rw [hn] at h5 h6
      simp only [readN_of _ _ _ h5, h6, unI]
set_option maxRecDepth 100000 in
theorem law_ShaParts (k N : Nat) (hN : 2000 ≤ N) (e : EnSha E) (el : E k_purserlaw04_ShaParts = some f_purserlaw04_ShaParts) (eL : E k_sha_Sum_Len = some f_sha_Sum_Len) (x : NoSha (shX k)) (hk : k = k_purserlaw04_alive) (hx : ∀ a h, shX k (.fn k_purserlaw04_ShaParts) a h = none) (hxL : ∀ a h, shX k (.fn k_sha_Sum_Len) a h = none) (hxO : HasOf (shX k)) (hal : ∀ h, shX k (.fn k) [] h = some (.bool true, h))
    (l : List Nat) (a : Option (Nat × Nat)) (at_ : Nat) (hat : at_ < 65536) (h : H) (src : SrcH h a 1 l) :
    ∃ h2, callX E (shX k) (N + 1) (.fn k_purserlaw04_ShaParts) [.slice a l.length none 1, .int .u16 (at_ : Int)] h = some (.bool true, h2) := by
  rw [x_cfn el _ _ (Nat.le_of_ble_eq_true rfl) (hx _ _)]
  have al : ∀ h, callX E (shX k) N (.fn k) [] h = some (.bool true, h) := fun h => by obtain ⟨M, rfl⟩ : ∃ M, N = M + 1 := ⟨N - 1, by omega⟩; exact x_known (hal h)
  rw [hk] at al
  rw [← z32e]
  by_cases hl : 1000 < l.length
  · have c1 : decide ((1000 : Int) < (l.length : Int)) = true := decide_eq_true (by omega)
    rw [hk]
    simp (config := {maxSteps := 2000000}) (disch := first | omega | rfl | (simp only [ofI_len, shaV_len, List.length_append, List.length_take, List.length_drop, List.length_cons, List.length_nil, List.length_replicate, List.length_set]; done) | (simp only [ofI_len, shaV_len, List.length_append, List.length_take, List.length_drop, List.length_cons, List.length_nil, List.length_replicate, List.length_set]; omega)) only [al, c1, ↓s_len, x_lenS, ↓b_xor32, ↓b_and32, ↓b_or32, ↓u_not32, b_xor32, b_and32, b_or32, u_not32, w32ad, ↓x_conv, x_convV, ↓x_fieldAddr, x_fieldV, ↓s_nilchk, x_nilchk, Nat.zero_add, Nat.add_zero, Nat.mul_one, ↓l_loop, ↓l_succ, ↓l_normal, l_normal, l_exit, l_ret, l_iteN, ↓h_put_get, ↓h_new_get, ↓h_del_get, h_next_put, h_next_new, h_next_del, Nat.add_assoc, Nat.add_eq_left, Nat.left_eq_add, Nat.add_left_cancel_iff, ↓s_load, m_load, ↓m_load1, m_load1, ↓m_st, m_stE, m_storeI, m_storeE, ↓s_alloc, ↓x_idxA, ↓x_idxS, x_idxAE, x_idxSE, x_addrE, x_idx, x_lenS, ↓s_len, ↓x_buildS, x_buildE, ↓x_P0, ↓x_P1, x_fill0, x_filli, x_fills, x_fillb, c_int, List.length_cons, List.length_nil, List.cons_append, List.drop_succ_cons, List.drop_zero, List.drop_nil, List.nil_append, Int.reduceAdd, Int.reduceToNat, Int.reduceLT, Int.reduceLE, Nat.reduceAdd, Nat.reduceMul, Nat.reduceLeDiff, Int.reduceEq, Int.reduceSub, Int.cast_ofNat_Int, s_resc, s_consR, m_load4, m_store4, s_res0, ↓s_skip, ↓s_ops, ↓s_dops, ↓s_seq, ↓s_cond, ↓s_block, ↓s_exit, ↓s_ret, ↓s_scope, ↓s_nil, ↓s_op, ↓s_opg, ↓s_wanted', ↓s_wantV, s_wantV, s_wantV0, beq_true, beq_false, ↓s_bindS, s_bindS, ↓s_bindE, s_bindE, s_bindE_ret, s_bindE_exit, s_bindE_iteN, s_norm, ↓s_condV, s_condV, s_block_ret, s_block_normal, s_block_exit, s_block_iteN, ↓s_getp, ↓s_getp0, ↓s_get, s_get0, ↓s_con, ↓s_fn, ↓s_os0, ↓s_os1, ↓s_list0, ↓s_list1, ↓s_mov, ↓s_pick, ↓s_pickE, s_pickE, ↓s_bin, ↓s_un, ↓s_minmax, ↓s_call, ↓s_callv, ↓s_callV, ↓s_ext, s_same, b_eql, b_neq, b_lss, b_leq, b_gtr, b_geq, b_add, b_sub, b_mul, b_eqlb, b_neqb, b_fnil, b_fnil', b_fnil2, b_fnil2', u_neg, u_not, m_two, s_end, s_end', s_end_iteN, s_res0, s_res1, s_tup1, s_tup2, ↓iteN_true, ↓iteN_false, iteN_true, iteN_false, Nat.zero_add, List.nil_append, List.append_nil, Nat.reduceEqDiff, reduceIte, decide_true, decide_false, Bool.not_true, Bool.not_false, List.getElem?_cons_zero, List.getElem?_cons_succ, Bool.false_eq_true, if_true, if_false, beq_self_eq_true]
    exact ⟨_, rfl⟩
  · have c1 : decide ((1000 : Int) < (l.length : Int)) = false := decide_eq_false (by omega)
    have wat : wr .i64 (at_ : Int) = (at_ : Int) := w64n (by omega)
    have w1 : wr .i64 ((l.length : Int) + 1) = ((l.length + 1 : Nat) : Int) := by rw [wr_i64 (by omega)]; omega
    obtain ⟨n, en⟩ : ∃ n, at_ % (l.length + 1) = n := ⟨_, rfl⟩
    have hn : n ≤ l.length := by have := Nat.mod_lt at_ (Nat.succ_pos l.length); simp only [Nat.succ_eq_add_one] at this; omega
    have ra : ∀ e h, binV .rem e h (.int .i64 (at_ : Int)) (.int .i64 ((l.length + 1 : Nat) : Int)) = some (.int .i64 (n : Int)) := fun e h => by rw [b_rem _ _ _ _ _ (by omega), ← en]; rfl
    obtain ⟨M, rfl⟩ : ∃ M, N = M + 81 := ⟨N - 81, by omega⟩
    have oo := x_ofH (E := E) hxO (M + 80) l a none h src (by omega)
    obtain ⟨q1, q2, q3⟩ := put32 (shaV l) (shaV_len l)
    obtain ⟨hA, eA⟩ : ∃ hA, (h.new (.cells (ofI .u8 (List.replicate 32 0)) .rw)).put h.next (.cells (ofI .u8 (shaV l)) .rw) = hA := ⟨_, rfl⟩
    have kA : Kp h hA := by rw [← eA]; exact (Kp.new _ _).put _ (Nat.le_refl _)
    have nA : hA.next = h.next + 1 := by rw [← eA]; rfl
    have gA : hA.get h.next = some (.cells (ofI .u8 (shaV l)) .rw) := by rw [← eA, h_put_same]
    obtain ⟨hB, p, rB, sB, kB, pB⟩ := new_at e x (M + 79) hA
    have n1 : (l.take n).length = n := by rw [List.length_take]; omega
    have n2 : (l.drop n).length = l.length - n := List.length_drop ..
    have kAB := kA.trans kB
    obtain ⟨hC, rC, sC, kC⟩ := write_at e x (M + 1) p initS initS_ok (l.take n) a n n1 none 1 hB (by omega) (by omega) sB ((src.take n).src kAB p (by omega))
    have kAC : Kp h hC := ⟨Nat.le_trans kAB.1 kC.1, fun i hi => by rw [kC.2 i (Nat.lt_of_lt_of_le hi kAB.1) (by omega), kAB.2 i hi]⟩
    obtain ⟨hD, rD, sD, kD⟩ := write_at e x (M + 1) p _ (absorb_ok _ _ initS_ok) (l.drop n) (upA a n) (l.length - n) n2 none 1 hC (by omega) (by omega) sC ((src.drop n).src2 kAC.1 kAC.2 p (by omega))
    have ea : absorb (absorb initS (l.take n)) (l.drop n) = absorb initS l := by rw [← absorb_app, List.take_append_drop]
    rw [ea] at sD
    have kAD : Kp h hD := ⟨Nat.le_trans kAC.1 kD.1, fun i hi => by rw [kD.2 i (Nat.lt_of_lt_of_le hi kAC.1) (by omega), kAC.2 i hi]⟩
    obtain ⟨hE, q, rE, sE, kE, pE⟩ := new_at e x (M + 79) hD
    have kAE := kAD.trans kE
    have pq : p ≠ q := by have := sD.1; omega
    have gE : hE.get h.next = some (.cells (ofI .u8 (shaV l)) .rw) := by
      have hb : h.next < hB.next := by have := kB.1; omega
      rw [kE.2 _ (by have := kD.1; have := kC.1; omega), kD.2 _ (by have := kC.1; omega) (by omega), kC.2 _ hb (by omega), kB.2 _ (by omega), gA]
    have sEp : SumAt hE p (absorb initS l) := sD.kp kE
    have fin : ∀ T, PL hE l a h.next p q initS 0 T hE → ∃ h2, fnEnd [.tmp 4] (bindE (blockE 0 (loopN (evC (callX E (shX k) (M + 81)) 79 (M + 81) none L_purserlaw04_ShaParts_0) (M + 81) ⟨T, [], hE⟩)) (evC (callX E (shX k) (M + 81)) 79 (M + 81) none R_purserlaw04_ShaParts_0)) = some (.bool true, h2) := by
      intro T I
      obtain ⟨T', hF, r1, il, t0, t5, t7, t8, t9, t39, t40, sF, kF⟩ := parts_loop e x (M + 1) (M + 81) (by omega) hE h l (by omega) (by omega) a h.next p q initS src kAE (by have := kAD.1; omega) T hE I
      rw [List.take_length] at sF
      replace r1 : loopN (evC (callX E (shX k) (M + 81)) 79 (M + 81) none L_purserlaw04_ShaParts_0) (M + 81) ⟨T, [], hE⟩ = some (.exit 0, ⟨T', [], hF⟩) := r1
      rw [r1]
      have ok := absorb_ok l initS initS_ok
      have sFp : SumAt hF p (absorb initS l) := sEp.kq kF pq
      have nE : h.next < hE.next := by have := sEp.1; have := sB.1; omega
      have gF : hF.get h.next = some (.cells (ofI .u8 (shaV l)) .rw) := by rw [kF.2 _ nE (by have := kAD.1; have := kB.1; have := kC.1; have := kD.1; omega), gE]
      obtain ⟨hG, rG, kG⟩ := end_at e x M p _ ok hF (by omega) sFp
      have gG : hG.get h.next = some (.cells (ofI .u8 (shaV l)) .rw) := by rw [kG.2 _ (Nat.lt_of_lt_of_le nE kF.1), gF]
      obtain ⟨hI, rI, kI⟩ := end_at e x M q _ ok hG (by omega) (sF.kp kG)
      have gI : hI.get h.next = some (.cells (ofI .u8 (shaV l)) .rw) := by rw [kI.2 _ (Nat.lt_of_lt_of_le nE (Nat.le_trans kF.1 kG.1)), gG]
      have sIq := (sF.kp kG).kp kI
      have sIp := (sFp.kp kG).kp kI
      have rL := len_go eL hxL e x (M + 79) q _ ok .rw hI sIq.2
      rw [len_absorb l initS initS_ok (by simp only [initS]; omega)] at rL
      simp only [initS, Nat.zero_add] at rL
      obtain ⟨hJ, rJ, sJ, kJ⟩ := write_at e x (M + 1) p _ ok [] none 0 rfl (some 0) 0 hI (by simp) (by simp) sIp (.inl rfl)
      have gJ : hJ.get h.next = some (.cells (ofI .u8 (shaV l)) .rw) := by
        have := Nat.lt_of_lt_of_le nE (Nat.le_trans kF.1 (Nat.le_trans kG.1 kI.1))
        rw [kJ.2 _ this (by have := kB.1; omega), gI]
      obtain ⟨hK, rK, kK⟩ := end_at e x M p _ ok hJ (by omega) sJ
      have gK : hK.get h.next = some (.cells (ofI .u8 (shaV l)) .rw) := by
        have := Nat.lt_of_lt_of_le nE (Nat.le_trans kF.1 (Nat.le_trans kG.1 (Nat.le_trans kI.1 kJ.1)))
        rw [kK.2 _ this, gJ]
      have es : endV (absorb initS l) = shaV l := rfl
      rw [es] at rG rI rK
      replace rJ : callX E (shX k) (M + 81) (.fn k_sha_Sum_Write) [.ptr (some (p, 0)), .slice none 0 (some 0) 0] hI = some (.ptr (some (p, 0)), hJ) := rJ
      have wl : wr .u64 (l.length : Int) = (l.length : Int) := u64n _ (by omega)
      have sl32 := shaV_len l
      simp (config := {maxSteps := 2000000}) (disch := first | omega | rfl | (simp only [ofI_len, shaV_len, List.length_append, List.length_take, List.length_drop, List.length_cons, List.length_nil, List.length_replicate, List.length_set]; done) | (simp only [ofI_len, shaV_len, List.length_append, List.length_take, List.length_drop, List.length_cons, List.length_nil, List.length_replicate, List.length_set]; omega)) only [R_purserlaw04_ShaParts_0, t0, t5, t7, t8, t9, gF, gG, gI, gJ, gK, rG, rI, rL, rJ, rK, wl, sl32, q3, vbeq_I, ↓s_len, x_lenS, ↓s_dBuildS, s_dbE, rdI, ofI_get, m_src, m_src0, srcI, ldI, ld1I, wrAll, wrI, wr1I, stI, st32, take_all, drop_all, List.take_zero, List.drop_zero, List.nil_append, List.append_nil, appF_of, appFI, appF0, appU_of, appUIw, appUIs, app0, appN, eq32, neq32, ↓s_append, ↓x_copy, ↓x_slcA, x_slcAE, slcB_nn, slcB_hi, slcB_lo, slcB_lh, slcV_nn, slcV_hiU, slcV_hiC, slcV_lo, slcV_loL, slcV_hiUL, slcV_hiCL, slcV_mxL, slcB_hiL, slcB_loL, subC_some, subC_none, ↓x_slcS, x_bnd0, x_M1, x_M0, x_lenA, ofQ_some, Nat.sub_zero, ofI_len, shaV_len, ↓s_box, c_agg, List.length_append, List.length_cons, List.length_nil, Nat.reduceLeDiff, Nat.reduceSub, List.length_replicate, ↓b_xor32, ↓b_and32, ↓b_or32, ↓u_not32, b_xor32, b_and32, b_or32, u_not32, w32ad, ↓x_conv, x_convV, ↓x_fieldAddr, x_fieldV, ↓s_nilchk, x_nilchk, Nat.zero_add, Nat.add_zero, Nat.mul_one, ↓s_evD, ↓s_dnil, ↓s_dL, ↓s_dLg, ↓s_dR, ↓s_dRg, ↓s_dRj, ↓s_dRjg, ↓s_dB, ↓s_dBg, ↓s_dAlloc, ↓s_bindD, s_bindD, s_finD, s_finDx, s_addP0, s_addP1, s_addB, s_lookP, ↓s_bump0, ↓s_bump_get, s_bump_next, s_ok0, ↓s_ok1, s_okR0, ↓s_okR1, ↓s_okE, s_okE, s_okE1, s_nth0, s_nthS, Nat.add_zero, Bool.and_self, Bool.and_true, Bool.true_and, ↓l_loop, ↓l_succ, ↓l_normal, l_normal, l_exit, l_ret, l_iteN, ↓h_put_get, ↓h_new_get, ↓h_del_get, h_next_put, h_next_new, h_next_del, Nat.add_assoc, Nat.add_eq_left, Nat.left_eq_add, Nat.add_left_cancel_iff, ↓s_load, m_load, ↓m_load1, m_load1, ↓m_st, m_stE, m_storeI, m_storeE, ↓s_alloc, ↓x_idxA, ↓x_idxS, x_idxAE, x_idxSE, x_addrE, x_idx, x_lenS, ↓s_len, ↓x_buildS, x_buildE, ↓x_P0, ↓x_P1, x_fill0, x_filli, x_fills, x_fillb, c_int, List.length_cons, List.length_nil, List.cons_append, List.drop_succ_cons, List.drop_zero, List.drop_nil, List.nil_append, Int.reduceAdd, Int.reduceToNat, Int.reduceLT, Int.reduceLE, Nat.reduceAdd, Nat.reduceMul, Nat.reduceLeDiff, Int.reduceEq, Int.reduceSub, Int.cast_ofNat_Int, s_resc, s_consR, m_load4, m_store4, s_res0, ↓s_skip, ↓s_ops, ↓s_dops, ↓s_seq, ↓s_cond, ↓s_block, ↓s_exit, ↓s_ret, ↓s_scope, ↓s_nil, ↓s_op, ↓s_opg, ↓s_wanted', ↓s_wantV, s_wantV, s_wantV0, beq_true, beq_false, ↓s_bindS, s_bindS, ↓s_bindE, s_bindE, s_bindE_ret, s_bindE_exit, s_bindE_iteN, s_norm, ↓s_condV, s_condV, s_block_ret, s_block_normal, s_block_exit, s_block_iteN, ↓s_getp, ↓s_getp0, ↓s_get, s_get0, ↓s_con, ↓s_fn, ↓s_os0, ↓s_os1, ↓s_list0, ↓s_list1, ↓s_mov, ↓s_pick, ↓s_pickE, s_pickE, ↓s_bin, ↓s_un, ↓s_minmax, ↓s_call, ↓s_callv, ↓s_callV, ↓s_ext, s_same, b_eql, b_neq, b_lss, b_leq, b_gtr, b_geq, b_add, b_sub, b_mul, b_eqlb, b_neqb, b_fnil, b_fnil', b_fnil2, b_fnil2', u_neg, u_not, m_two, s_end, s_end', s_end_iteN, s_res0, s_res1, s_tup1, s_tup2, ↓iteN_true, ↓iteN_false, iteN_true, iteN_false, Nat.zero_add, List.nil_append, List.append_nil, Nat.reduceEqDiff, reduceIte, decide_true, decide_false, Bool.not_true, Bool.not_false, List.getElem?_cons_zero, List.getElem?_cons_succ, Bool.false_eq_true, if_true, if_false, beq_self_eq_true]
      exact ⟨_, rfl⟩
    obtain ⟨R, eR⟩ : ∃ R, R_purserlaw04_ShaParts_0 = R := ⟨_, rfl⟩
    obtain ⟨Lo, eLo⟩ : ∃ R, L_purserlaw04_ShaParts_0 = R := ⟨_, rfl⟩
    rw [eR, eLo] at fin ⊢
    have sv1 := slcV_hiA l.length n a .i64 hn
    have sv2 := slcV_loA l.length n a .i64 hn
    replace rC : callX E (shX k) (M + 81) (.fn k_sha_Sum_Write) [.ptr (some (p, 0)), .slice a n none 1] hB = some (.ptr (some (p, 0)), hC) := rC
    replace rD : callX E (shX k) (M + 81) (.fn k_sha_Sum_Write) [.ptr (some (p, 0)), .slice (upA a n) (l.length - n) none 1] hC = some (.ptr (some (p, 0)), hD) := rD
    rw [hk] at *
    generalize ofI .u8 (shaV l) = SV at *
    generalize ofI .u8 (List.replicate 32 0) = Z at *
    simp (config := {maxSteps := 2000000}) (disch := first | omega | rfl | (simp only [ofI_len, shaV_len, List.length_append, List.length_take, List.length_drop, List.length_cons, List.length_nil, List.length_replicate, List.length_set]; done) | (simp only [ofI_len, shaV_len, List.length_append, List.length_take, List.length_drop, List.length_cons, List.length_nil, List.length_replicate, List.length_set]; omega)) only [al, c1, oo, wat, w1, ra, q1, q2, eA, rB, rC, rD, rE, sv1, sv2, ↓s_len, x_lenS, ↓x_slcS, x_M0, x_M1, ↓b_xor32, ↓b_and32, ↓b_or32, ↓u_not32, b_xor32, b_and32, b_or32, u_not32, w32ad, ↓x_conv, x_convV, ↓x_fieldAddr, x_fieldV, ↓s_nilchk, x_nilchk, Nat.zero_add, Nat.add_zero, Nat.mul_one, ↓s_evD, ↓s_dnil, ↓s_dL, ↓s_dLg, ↓s_dR, ↓s_dRg, ↓s_dRj, ↓s_dRjg, ↓s_dB, ↓s_dBg, ↓s_dAlloc, ↓s_bindD, s_bindD, s_finD, s_finDx, s_addP0, s_addP1, s_addB, s_lookP, ↓s_bump0, ↓s_bump_get, s_bump_next, s_ok0, ↓s_ok1, s_okR0, ↓s_okR1, ↓s_okE, s_okE, s_okE1, s_nth0, s_nthS, Nat.add_zero, Bool.and_self, Bool.and_true, Bool.true_and, ↓l_loop, ↓l_succ, ↓l_normal, l_normal, l_exit, l_ret, l_iteN, ↓h_put_get, ↓h_new_get, ↓h_del_get, h_next_put, h_next_new, h_next_del, Nat.add_assoc, Nat.add_eq_left, Nat.left_eq_add, Nat.add_left_cancel_iff, ↓s_load, m_load, ↓m_load1, m_load1, ↓m_st, m_stE, m_storeI, w_zero, w_succ, ↓s_alloc, ↓x_idxA, ↓x_idxS, x_idxAE, x_idxSE, x_addrE, x_idx, x_lenS, ↓s_len, ↓x_buildS, x_buildE, ↓x_P0, ↓x_P1, x_fill0, x_filli, x_fills, x_fillb, c_int, List.length_cons, List.length_nil, List.cons_append, List.drop_succ_cons, List.drop_zero, List.drop_nil, List.nil_append, Int.reduceAdd, Int.reduceToNat, Int.reduceLT, Int.reduceLE, Nat.reduceAdd, Nat.reduceMul, Nat.reduceLeDiff, Int.reduceEq, Int.reduceSub, Int.cast_ofNat_Int, s_resc, s_consR, m_load4, m_store4, s_res0, ↓s_skip, ↓s_ops, ↓s_dops, ↓s_seq, ↓s_cond, ↓s_block, ↓s_exit, ↓s_ret, ↓s_scope, ↓s_nil, ↓s_op, ↓s_opg, ↓s_wanted', ↓s_wantV, s_wantV, s_wantV0, beq_true, beq_false, ↓s_bindS, s_bindS, ↓s_bindE, s_bindE, s_bindE_ret, s_bindE_exit, s_bindE_iteN, s_norm, ↓s_condV, s_condV, s_block_ret, s_block_normal, s_block_exit, s_block_iteN, ↓s_getp, ↓s_getp0, ↓s_get, s_get0, ↓s_con, ↓s_fn, ↓s_os0, ↓s_os1, ↓s_list0, ↓s_list1, ↓s_mov, ↓s_pick, ↓s_pickE, s_pickE, ↓s_bin, ↓s_un, ↓s_minmax, ↓s_call, ↓s_callv, ↓s_callV, ↓s_ext, s_same, b_eql, b_neq, b_lss, b_leq, b_gtr, b_geq, b_add, b_sub, b_mul, b_eqlb, b_neqb, b_fnil, b_fnil', b_fnil2, b_fnil2', u_neg, u_not, m_two, s_end, s_end', s_end_iteN, s_res0, s_res1, s_tup1, s_tup2, ↓iteN_true, ↓iteN_false, iteN_true, iteN_false, Nat.zero_add, List.nil_append, List.append_nil, Nat.reduceEqDiff, reduceIte, decide_true, decide_false, Bool.not_true, Bool.not_false, List.getElem?_cons_zero, List.getElem?_cons_succ, Bool.false_eq_true, if_true, if_false, beq_self_eq_true]
    exact fin _ ⟨by omega, (by (simp only [s_getp, s_getp0, Nat.reduceEqDiff, decide_false, decide_true, iteN_false, iteN_true, eA]; try rfl)), (by (simp only [s_getp, s_getp0, Nat.reduceEqDiff, decide_false, decide_true, iteN_false, iteN_true, eA]; try rfl)), (by (simp only [s_getp, s_getp0, Nat.reduceEqDiff, decide_false, decide_true, iteN_false, iteN_true, eA]; try rfl)), (by (simp only [s_getp, s_getp0, Nat.reduceEqDiff, decide_false, decide_true, iteN_false, iteN_true, eA]; try rfl)), (by (simp only [s_getp, s_getp0, Nat.reduceEqDiff, decide_false, decide_true, iteN_false, iteN_true, eA]; try rfl)), (by (simp only [s_getp, s_getp0, Nat.reduceEqDiff, decide_false, decide_true, iteN_false, iteN_true, eA]; try rfl)), (by (simp only [s_getp, s_getp0, Nat.reduceEqDiff, decide_false, decide_true, iteN_false, iteN_true, eA]; try rfl)), sE, Kq.refl _ _⟩
end Go.Eng
