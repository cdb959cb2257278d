/- What functions of the program come to: own work. -/
import Derived.Test.YtglaaipaomnnmaaShB
import Derived.ProofKit
namespace Go.Eng
open Go
variable {E : Nat → Option Fn} {X : Orc}
set_option linter.unusedSimpArgs false
set_option linter.unusedVariables false
def padSz (len : Nat) : Nat := if 64 - len % 64 < 9 then 128 - len % 64 else 64 - len % 64
theorem padSz_b (len : Nat) : 9 ≤ padSz len ∧ padSz len ≤ 72 := by unfold padSz; split <;> omega
def padN (len : Nat) : Nat → List Nat
  | 0 => 128 :: List.replicate (padSz len - 1) 0
  | i + 1 => (padN len i).set (padSz len - 1 - i) (len * 8 % 18446744073709551616 / 2 ^ (8 * i) % 256)
theorem padN_len (len i : Nat) : (padN len i).length = padSz len := by
  induction i with
  | zero => have := padSz_b len; simp [padN]; omega
  | succ i ih => simp [padN, ih]
def padV (len : Nat) : List Nat := padN len 8
theorem padV_len (len : Nat) : (padV len).length = padSz len := padN_len _ _
theorem b_shrN (e : EqK) (h : H) (k' : IntKind) (a m : Nat) (hm : m ≤ 64) : binV .shr e h (.int .u64 (a : Int)) (.int k' (m : Int)) = some (.int .u64 ((a / 2 ^ m : Nat) : Int)) := by
  have e1 : binV .shr e h (.int .u64 (a : Int)) (.int k' (m : Int)) = some (.int .u64 ((a / 2 ^ (bif Nat.ble m 64 then m else 64) : Nat) : Int)) := rfl
  rw [e1, cond_ble, if_pos hm]
theorem w8n (n : Nat) : wr .u8 (n : Int) = ((n % 256 : Nat) : Int) := by
  have : wr .u8 (n : Int) = asK .u8 (n % 256) := rfl
  rw [this]; unfold asK; rw [cond_blt, if_pos (by simp only [half]; omega)]; rfl
theorem w64n' (n : Nat) : wr .u64 (n : Int) = ((n % 18446744073709551616 : Nat) : Int) := by
  have : wr .u64 (n : Int) = asK .u64 (n % 18446744073709551616) := rfl
  rw [this]; unfold asK; rw [cond_blt, if_pos (by simp only [half]; omega)]; rfl
structure PI (q sz len : Nat) (h0 : H) (i : Nat) (T : Tr V) (h : H) : Prop where
  i8 : i ≤ 8
  t0 : evO T (.t 0) = .int .u64 (len : Int)
  t4 : evO T (.t 4) = .int .i64 (sz : Int)
  t5 : evO T (.t 5) = .slice (some (q, 0)) sz (some sz) 1
  t20 : evO T (.t 20) = .int .i64 (i : Int)
  gq : h.get q = some (.cells (ofI .u8 (padN len i)) .rw)
  eq : Eqx q h0 h
theorem pad_step (Q : Orc) (n q sz len : Nat) (hsz : padSz len = sz) (h0 : H) :
    ∀ i T h, i < 8 → PI q sz len h0 i T h → ∃ T' h', evC Q 37 n none L_sha_padding_0 ⟨T, [], h⟩ = some (.normal, ⟨T', [], h'⟩) ∧ PI q sz len h0 (i + 1) T' h' := by
  intro i T h hi ⟨_, t0, t4, t5, t20, gq, eq⟩
  have hs := padSz_b len
  rw [hsz] at hs
  have c0 : decide ((i : Int) < 8) = true := decide_eq_true (by omega)
  have wi : wr .i64 ((i : Int) + 1) = ((i + 1 : Nat) : Int) := by rw [wr_i64 (by omega)]; omega
  have w1 : wr .i64 ((sz : Int) - 1) = ((sz - 1 : Nat) : Int) := by rw [wr_i64 (by omega)]; omega
  have w2 : wr .i64 (((sz - 1 : Nat) : Int) - (i : Int)) = ((sz - 1 - i : Nat) : Int) := by rw [wr_i64 (by omega)]; omega
  have w3 : wr .u64 ((len : Int) * 8) = ((len * 8 % 18446744073709551616 : Nat) : Int) := by
    have : (len : Int) * 8 = ((len * 8 : Nat) : Int) := by omega
    rw [this, w64n']
  have w4 : wr .i64 (8 * (i : Int)) = ((8 * i : Nat) : Int) := by rw [wr_i64 (by omega)]; omega
  have sh : ∀ e h (a : Nat), binV .shr e h (.int .u64 (a : Int)) (.int .i64 ((8 * i : Nat) : Int)) = some (.int .u64 ((a / 2 ^ (8 * i) : Nat) : Int)) := fun e h a => b_shrN e h .i64 a (8 * i) (by omega)
  have ix : idx ((sz - 1 - i : Nat) : Int) sz = some (sz - 1 - i) := idxn (by omega)
  have pl := padN_len len i
  have en : padN len (i + 1) = (padN len i).set (padSz len - 1 - i) (len * 8 % 18446744073709551616 / 2 ^ (8 * i) % 256) := rfl
  rw [hsz] at pl en
  have ws := fun (v : Nat) => writeN_set (ofI .u8 (padN len i)) (sz - 1 - i) (.int .u8 (v : Int)) (by rw [ofI_len]; omega)
  simp only [ofI_set] at ws
  have wv := ws (len * 8 % 18446744073709551616 / 2 ^ (8 * i) % 256)
  rw [← en] at wv
  have ste : ∀ (h : H) (v : V), storeE (some (.cells (ofI .u8 (padN len i)) .rw)) h q (sz - 1 - i) [v] = some (h.put q (.cells (writeN (ofI .u8 (padN len i)) (sz - 1 - i) [v]) .rw)) := fun h v => m_storeE _ _ _ _ _ (by rw [ofI_len, pl]; simp only [List.length_cons, List.length_nil]; omega)
  generalize ofI .u8 (padN len i) = C at *
  refine ⟨_, _, by
    simp (config := {maxSteps := 2000000}) (disch := first | omega | (simp only [List.length_cons, List.length_nil, List.length_append, List.length_drop]; omega)) only [L_sha_padding_0, t0, t4, t5, t20, gq, c0, wi, w1, w2, w3, w4, sh, ix, w8n, ste, wv, ↓b_xor32, ↓b_and32, ↓b_or32, ↓u_not32, b_xor32, b_and32, b_or32, u_not32, w32ad, ↓x_conv, x_convV, ↓x_fieldAddr, x_fieldV, ↓s_nilchk, x_nilchk, Nat.zero_add, Nat.add_zero, Nat.mul_one, ↓s_evD, ↓s_dnil, ↓s_dL, ↓s_dLg, ↓s_dR, ↓s_dRg, ↓s_dRj, ↓s_dRjg, ↓s_dB, ↓s_dBg, ↓s_dAlloc, ↓s_bindD, s_bindD, s_finD, s_finDx, s_addP0, s_addP1, s_addB, s_lookP, ↓s_bump0, ↓s_bump_get, s_bump_next, s_ok0, ↓s_ok1, s_okR0, ↓s_okR1, ↓s_okE, s_okE, s_okE1, s_nth0, s_nthS, Nat.add_zero, Bool.and_self, Bool.and_true, Bool.true_and, ↓l_loop, ↓l_succ, ↓l_normal, l_normal, l_exit, l_ret, l_iteN, ↓h_put_get, ↓h_new_get, ↓h_del_get, h_next_put, h_next_new, h_next_del, Nat.add_assoc, Nat.add_eq_left, Nat.left_eq_add, Nat.add_left_cancel_iff, ↓s_load, m_load, ↓m_load1, m_load1, ↓m_st, m_stE, m_storeI, w_zero, w_succ, ↓s_alloc, ↓x_idxA, ↓x_idxS, x_idxAE, x_idxSE, x_addrE, x_idx, x_lenS, ↓s_len, ↓x_buildS, x_buildE, ↓x_P0, ↓x_P1, x_fill0, x_filli, x_fills, x_fillb, c_int, List.length_cons, List.length_nil, List.cons_append, List.drop_succ_cons, List.drop_zero, List.drop_nil, List.nil_append, Int.reduceAdd, Int.reduceToNat, Int.reduceLT, Int.reduceLE, Nat.reduceAdd, Nat.reduceMul, Nat.reduceLeDiff, Int.reduceEq, Int.reduceSub, Int.cast_ofNat_Int, s_resc, s_consR, m_load4, m_store4, s_res0, ↓s_skip, ↓s_ops, ↓s_dops, ↓s_seq, ↓s_cond, ↓s_block, ↓s_exit, ↓s_ret, ↓s_scope, ↓s_nil, ↓s_op, ↓s_opg, ↓s_wanted', ↓s_wantV, s_wantV, s_wantV0, beq_true, beq_false, ↓s_bindS, s_bindS, ↓s_bindE, s_bindE, s_bindE_ret, s_bindE_exit, s_bindE_iteN, s_norm, ↓s_condV, s_condV, s_block_ret, s_block_normal, s_block_exit, s_block_iteN, ↓s_getp, ↓s_getp0, ↓s_get, s_get0, ↓s_con, ↓s_fn, ↓s_os0, ↓s_os1, ↓s_list0, ↓s_list1, ↓s_mov, ↓s_pick, ↓s_pickE, s_pickE, ↓s_bin, ↓s_un, ↓s_minmax, ↓s_call, ↓s_callv, ↓s_callV, ↓s_ext, s_same, b_eql, b_neq, b_lss, b_leq, b_gtr, b_geq, b_add, b_sub, b_mul, b_eqlb, b_neqb, b_fnil, b_fnil', b_fnil2, b_fnil2', u_neg, u_not, m_two, s_end, s_end', s_end_iteN, s_res0, s_res1, s_tup1, s_tup2, ↓iteN_true, ↓iteN_false, iteN_true, iteN_false, Nat.zero_add, List.nil_append, List.append_nil, Nat.reduceEqDiff, reduceIte, decide_true, decide_false, Bool.not_true, Bool.not_false, List.getElem?_cons_zero, List.getElem?_cons_succ, Bool.false_eq_true, if_true, if_false, beq_self_eq_true]
    exact rfl, ⟨by omega, (by (simp only [s_getp, s_getp0, Nat.reduceEqDiff, decide_false, decide_true, iteN_false, iteN_true, t0]; try rfl)), (by (simp only [s_getp, s_getp0, Nat.reduceEqDiff, decide_false, decide_true, iteN_false, iteN_true, t4]; try rfl)), (by (simp only [s_getp, s_getp0, Nat.reduceEqDiff, decide_false, decide_true, iteN_false, iteN_true, t5]; try rfl)), (by (simp only [s_getp, s_getp0, Nat.reduceEqDiff, decide_false, decide_true, iteN_false, iteN_true, t0]; try rfl)), by rw [h_put_same], eq.put _⟩⟩
theorem pad_loop (Q : Orc) (n q sz len : Nat) (hn : 8 < n) (hsz : padSz len = sz) (h0 : H) (T : Tr V) (h : H) (I : PI q sz len h0 0 T h) :
    ∃ T' h', loopN (evC Q 37 n none L_sha_padding_0) n ⟨T, [], h⟩ = some (.exit 0, ⟨T', [], h'⟩) ∧ PI q sz len h0 8 T' h' :=
  loop_go (PI q sz len h0) 8 (.exit 0) (by intro h; cases h) _ (pad_step Q n q sz len hsz h0) (fun T h I => by
    obtain ⟨a, t0, t4, t5, t20, gq, eq⟩ := I
    have c0 : decide (((8 : Nat) : Int) < 8) = false := rfl
    refine ⟨_, _, by
      simp (config := {maxSteps := 2000000}) (disch := first | omega | (simp only [List.length_cons, List.length_nil, List.length_append, List.length_drop]; omega)) only [L_sha_padding_0, t20, c0, ↓b_xor32, ↓b_and32, ↓b_or32, ↓u_not32, b_xor32, b_and32, b_or32, u_not32, w32ad, ↓x_conv, x_convV, ↓x_fieldAddr, x_fieldV, ↓s_nilchk, x_nilchk, Nat.zero_add, Nat.add_zero, Nat.mul_one, ↓l_loop, ↓l_succ, ↓l_normal, l_normal, l_exit, l_ret, l_iteN, ↓h_put_get, ↓h_new_get, ↓h_del_get, h_next_put, h_next_new, h_next_del, Nat.add_assoc, Nat.add_eq_left, Nat.left_eq_add, Nat.add_left_cancel_iff, ↓s_load, m_load, ↓m_load1, m_load1, ↓m_st, m_stE, m_storeI, w_zero, w_succ, ↓s_alloc, ↓x_idxA, ↓x_idxS, x_idxAE, x_idxSE, x_addrE, x_idx, x_lenS, ↓s_len, ↓x_buildS, x_buildE, ↓x_P0, ↓x_P1, x_fill0, x_filli, x_fills, x_fillb, c_int, List.length_cons, List.length_nil, List.cons_append, List.drop_succ_cons, List.drop_zero, List.drop_nil, List.nil_append, Int.reduceAdd, Int.reduceToNat, Int.reduceLT, Int.reduceLE, Nat.reduceAdd, Nat.reduceMul, Nat.reduceLeDiff, Int.reduceEq, Int.reduceSub, Int.cast_ofNat_Int, s_resc, s_consR, m_load4, m_store4, s_res0, ↓s_skip, ↓s_ops, ↓s_dops, ↓s_seq, ↓s_cond, ↓s_block, ↓s_exit, ↓s_ret, ↓s_scope, ↓s_nil, ↓s_op, ↓s_opg, ↓s_wanted', ↓s_wantV, s_wantV, s_wantV0, beq_true, beq_false, ↓s_bindS, s_bindS, ↓s_bindE, s_bindE, s_bindE_ret, s_bindE_exit, s_bindE_iteN, s_norm, ↓s_condV, s_condV, s_block_ret, s_block_normal, s_block_exit, s_block_iteN, ↓s_getp, ↓s_getp0, ↓s_get, s_get0, ↓s_con, ↓s_fn, ↓s_os0, ↓s_os1, ↓s_list0, ↓s_list1, ↓s_mov, ↓s_pick, ↓s_pickE, s_pickE, ↓s_bin, ↓s_un, ↓s_minmax, ↓s_call, ↓s_callv, ↓s_callV, ↓s_ext, s_same, b_eql, b_neq, b_lss, b_leq, b_gtr, b_geq, b_add, b_sub, b_mul, b_eqlb, b_neqb, b_fnil, b_fnil', b_fnil2, b_fnil2', u_neg, u_not, m_two, s_end, s_end', s_end_iteN, s_res0, s_res1, s_tup1, s_tup2, ↓iteN_true, ↓iteN_false, iteN_true, iteN_false, Nat.zero_add, List.nil_append, List.append_nil, Nat.reduceEqDiff, reduceIte, decide_true, decide_false, Bool.not_true, Bool.not_false, List.getElem?_cons_zero, List.getElem?_cons_succ, Bool.false_eq_true, if_true, if_false, beq_self_eq_true]
      exact rfl, ⟨a, (by (simp only [s_getp, s_getp0, Nat.reduceEqDiff, decide_false, decide_true, iteN_false, iteN_true, t0]; try rfl)), (by (simp only [s_getp, s_getp0, Nat.reduceEqDiff, decide_false, decide_true, iteN_false, iteN_true, t4]; try rfl)), (by (simp only [s_getp, s_getp0, Nat.reduceEqDiff, decide_false, decide_true, iteN_false, iteN_true, t5]; try rfl)), (by (simp only [s_getp, s_getp0, Nat.reduceEqDiff, decide_false, decide_true, iteN_false, iteN_true, t20]; try rfl)), gq, eq⟩⟩) 8 0 rfl n hn T h I
noncomputable def mksE (z : List V) (bytes : Nat) (l c : V) (h : H) : Option (V × H) := match l, c with
  | .int _ (.ofNat l), .int _ (.ofNat c) => bif Nat.ble l c && roomy c bytes then
      some (.slice (some (h.next, 0)) l (some c) z.length, h.new (.cells (List.replicate c z).flatten .rw)) else none
  | _, _ => none
theorem x_mkslice (Q : Orc) (T : Tr V) (h : H) (z : List V) (bytes : Nat) (l c : O) : Eng.step (.mkslice z bytes l c) Q T h = mksE z bytes (evO T l) (evO T c) h := _root_.id rfl
theorem mkslice_n (h : H) (k k' : IntKind) (n : Nat) (hn : n ≤ 35184372088832) : mksE [.int k 0] 1 (.int k' (n : Int)) (.int k' (n : Int)) h = some (.slice (some (h.next, 0)) n (some n) 1, h.new (.cells (ofI k (List.replicate n 0)) .rw)) := by
  have : (List.replicate n [V.int k 0]).flatten = ofI k (List.replicate n 0) := by
    clear hn
    induction n with
    | zero => rfl
    | succ n ih => rw [List.replicate_succ, List.flatten_cons, ih, List.replicate_succ]; rfl
  show (bif Nat.ble n n && roomy n 1 then _ else _) = _
  have r : (Nat.ble n n && roomy n 1) = true := by simp [roomy, hn]
  rw [r, this]; rfl
theorem pad_go (e : EnSha E) (x : NoSha X) (N len : Nat) (hlen : len < 18446744073709551616) (h : H) :
    ∃ h', callX E X (N + 10) (.fn k_sha_padding) [.int .u64 (len : Int)] h = some (.slice (some (h.next, 0)) (padV len).length (some (padV len).length) 1, h') ∧ h'.get h.next = some (.cells (ofI .u8 (padV len)) .rw) ∧ Kp h h' ∧ h'.next = h.next + 1 := by
  rw [x_cfn e.pad _ _ (Nat.le_of_ble_eq_true rfl) (x.pad _ _), padV_len]
  obtain ⟨sz, hsz⟩ : ∃ s, padSz len = s := ⟨_, rfl⟩
  have hb := padSz_b len
  rw [hsz] at hb ⊢
  have p0 : (List.replicate sz 0).set 0 128 = padN len 0 := by
    unfold padN; rw [hsz]
    obtain ⟨m, rfl⟩ : ∃ m, sz = m + 1 := ⟨sz - 1, by omega⟩
    simp [List.replicate_succ]
  have fin : ∀ T, PI h.next sz len ((h.new (.cells (ofI .u8 (List.replicate sz 0)) .rw)).put h.next (.cells (ofI .u8 (padN len 0)) .rw)) 0 T ((h.new (.cells (ofI .u8 (List.replicate sz 0)) .rw)).put h.next (.cells (ofI .u8 (padN len 0)) .rw)) →
      ∃ h', fnEnd [.tmp 2] (bindE (blockE 0 (loopN (evC (callX E X (N + 9)) 37 (N + 9) none L_sha_padding_0) (N + 9) ⟨T, [], (h.new (.cells (ofI .u8 (List.replicate sz 0)) .rw)).put h.next (.cells (ofI .u8 (padN len 0)) .rw)⟩)) (evC (callX E X (N + 9)) 37 (N + 9) none R_sha_padding_0)) = some (.slice (some (h.next, 0)) sz (some sz) 1, h') ∧ h'.get h.next = some (.cells (ofI .u8 (padV len)) .rw) ∧ Kp h h' ∧ h'.next = h.next + 1 := by
    intro T I
    obtain ⟨T', h', r1, a, t0, t4, t5, t20, gq, eq⟩ := pad_loop (callX E X (N + 9)) (N + 9) h.next sz len (by omega) hsz _ T _ I
    rw [r1]
    simp (config := {maxSteps := 2000000}) (disch := first | omega | (simp only [List.length_cons, List.length_nil, List.length_append, List.length_drop]; omega)) only [R_sha_padding_0, t5, ↓b_xor32, ↓b_and32, ↓b_or32, ↓u_not32, b_xor32, b_and32, b_or32, u_not32, w32ad, ↓x_conv, x_convV, ↓x_fieldAddr, x_fieldV, ↓s_nilchk, x_nilchk, Nat.zero_add, Nat.add_zero, Nat.mul_one, ↓l_loop, ↓l_succ, ↓l_normal, l_normal, l_exit, l_ret, l_iteN, ↓h_put_get, ↓h_new_get, ↓h_del_get, h_next_put, h_next_new, h_next_del, Nat.add_assoc, Nat.add_eq_left, Nat.left_eq_add, Nat.add_left_cancel_iff, ↓s_load, m_load, ↓m_load1, m_load1, ↓m_st, m_stE, m_storeI, m_storeE, w_zero, w_succ, ↓s_alloc, ↓x_idxA, ↓x_idxS, x_idxAE, x_idxSE, x_addrE, x_idx, x_lenS, ↓s_len, ↓x_buildS, x_buildE, ↓x_P0, ↓x_P1, x_fill0, x_filli, x_fills, x_fillb, c_int, List.length_cons, List.length_nil, List.cons_append, List.drop_succ_cons, List.drop_zero, List.drop_nil, List.nil_append, Int.reduceAdd, Int.reduceToNat, Int.reduceLT, Int.reduceLE, Nat.reduceAdd, Nat.reduceMul, Nat.reduceLeDiff, Int.reduceEq, Int.reduceSub, Int.cast_ofNat_Int, s_resc, s_consR, m_load4, m_store4, s_res0, ↓s_skip, ↓s_ops, ↓s_dops, ↓s_seq, ↓s_cond, ↓s_block, ↓s_exit, ↓s_ret, ↓s_scope, ↓s_nil, ↓s_op, ↓s_opg, ↓s_wanted', ↓s_wantV, s_wantV, s_wantV0, beq_true, beq_false, ↓s_bindS, s_bindS, ↓s_bindE, s_bindE, s_bindE_ret, s_bindE_exit, s_bindE_iteN, s_norm, ↓s_condV, s_condV, s_block_ret, s_block_normal, s_block_exit, s_block_iteN, ↓s_getp, ↓s_getp0, ↓s_get, s_get0, ↓s_con, ↓s_fn, ↓s_os0, ↓s_os1, ↓s_list0, ↓s_list1, ↓s_mov, ↓s_pick, ↓s_pickE, s_pickE, ↓s_bin, ↓s_un, ↓s_minmax, ↓s_call, ↓s_callv, ↓s_callV, ↓s_ext, s_same, b_eql, b_neq, b_lss, b_leq, b_gtr, b_geq, b_add, b_sub, b_mul, b_eqlb, b_neqb, b_fnil, b_fnil', b_fnil2, b_fnil2', u_neg, u_not, m_two, s_end, s_end', s_end_iteN, s_res0, s_res1, s_tup1, s_tup2, ↓iteN_true, ↓iteN_false, iteN_true, iteN_false, Nat.zero_add, List.nil_append, List.append_nil, Nat.reduceEqDiff, reduceIte, decide_true, decide_false, Bool.not_true, Bool.not_false, List.getElem?_cons_zero, List.getElem?_cons_succ, Bool.false_eq_true, if_true, if_false, beq_self_eq_true]
    refine ⟨_, rfl, gq, ⟨by rw [eq.1]; simp only [h_next_put, h_next_new]; omega, fun i hi => by rw [eq.2 _ (by omega), h_put_ne _ _ (by omega), h_new_ne _ _ (by omega)]⟩, by rw [eq.1]; rfl⟩
  have w0 : wr .i64 ((len % 64 : Nat) : Int) = ((len % 64 : Nat) : Int) := w64n (by omega)
  have w1 : wr .i64 (64 - ((len % 64 : Nat) : Int)) = ((64 - len % 64 : Nat) : Int) := by rw [wr_i64 (by omega)]; omega
  have w2 : wr .i64 (((64 - len % 64 : Nat) : Int) + 64) = ((128 - len % 64 : Nat) : Int) := by rw [wr_i64 (by omega)]; omega
  have mk := fun (h : H) => mkslice_n h .u8 .i64 sz (by omega)
  have ix : idx (0 : Int) sz = some 0 := by rw [x_idx (by omega) (by omega)]; rfl
  have ste : ∀ (h : H) (i : Nat), storeE (some (.cells (ofI .u8 (List.replicate sz 0)) .rw)) h i 0 [.int .u8 128] = some (h.put i (.cells (ofI .u8 (padN len 0)) .rw)) := fun h i => by
    rw [m_storeE _ _ _ _ _ (by rw [ofI_len]; simp; omega), writeN_set _ _ _ (by rw [ofI_len]; simp; omega)]
    rw [show (V.int .u8 128) = V.int .u8 ((128 : Nat) : Int) from rfl, ofI_set, p0]
  obtain ⟨R, eR⟩ : ∃ R, R_sha_padding_0 = R := ⟨_, rfl⟩
  obtain ⟨L, eL⟩ : ∃ R, L_sha_padding_0 = R := ⟨_, rfl⟩
  rw [eR, eL] at fin ⊢
  generalize ofI .u8 (List.replicate sz 0) = z at *
  obtain ⟨P, eP⟩ : ∃ P, ofI .u8 (padN len 0) = P := ⟨_, rfl⟩
  by_cases h9 : 64 - len % 64 < 9
  · have e9 : 128 - len % 64 = sz := by rw [← hsz]; unfold padSz; rw [if_pos h9]
    rw [e9] at w2
    have c1 : decide (((64 - len % 64 : Nat) : Int) < 9) = true := decide_eq_true (by omega)
    rw [eP] at fin ste
    simp (config := {maxSteps := 2000000}) (disch := first | omega | (simp only [List.length_cons, List.length_nil, List.length_append, List.length_drop]; omega)) only [b_rem64, w0, w1, w2, c1, ix, ste, mk, ↓x_mkslice, ↓b_xor32, ↓b_and32, ↓b_or32, ↓u_not32, b_xor32, b_and32, b_or32, u_not32, w32ad, ↓x_conv, x_convV, ↓x_fieldAddr, x_fieldV, ↓s_nilchk, x_nilchk, Nat.zero_add, Nat.add_zero, Nat.mul_one, ↓s_evD, ↓s_dnil, ↓s_dL, ↓s_dLg, ↓s_dR, ↓s_dRg, ↓s_dRj, ↓s_dRjg, ↓s_dB, ↓s_dBg, ↓s_dAlloc, ↓s_bindD, s_bindD, s_finD, s_finDx, s_addP0, s_addP1, s_addB, s_lookP, ↓s_bump0, ↓s_bump_get, s_bump_next, s_ok0, ↓s_ok1, s_okR0, ↓s_okR1, ↓s_okE, s_okE, s_okE1, s_nth0, s_nthS, Nat.add_zero, Bool.and_self, Bool.and_true, Bool.true_and, ↓l_loop, ↓l_succ, ↓l_normal, l_normal, l_exit, l_ret, l_iteN, ↓h_put_get, ↓h_new_get, ↓h_del_get, h_next_put, h_next_new, h_next_del, Nat.add_assoc, Nat.add_eq_left, Nat.left_eq_add, Nat.add_left_cancel_iff, ↓s_load, m_load, ↓m_load1, m_load1, ↓m_st, m_stE, m_storeI, w_zero, w_succ, ↓s_alloc, ↓x_idxA, ↓x_idxS, x_idxAE, x_idxSE, x_addrE, x_idx, x_lenS, ↓s_len, ↓x_buildS, x_buildE, ↓x_P0, ↓x_P1, x_fill0, x_filli, x_fills, x_fillb, c_int, List.length_cons, List.length_nil, List.cons_append, List.drop_succ_cons, List.drop_zero, List.drop_nil, List.nil_append, Int.reduceAdd, Int.reduceToNat, Int.reduceLT, Int.reduceLE, Nat.reduceAdd, Nat.reduceMul, Nat.reduceLeDiff, Int.reduceEq, Int.reduceSub, Int.cast_ofNat_Int, s_resc, s_consR, m_load4, m_store4, s_res0, ↓s_skip, ↓s_ops, ↓s_dops, ↓s_seq, ↓s_cond, ↓s_block, ↓s_exit, ↓s_ret, ↓s_scope, ↓s_nil, ↓s_op, ↓s_opg, ↓s_wanted', ↓s_wantV, s_wantV, s_wantV0, beq_true, beq_false, ↓s_bindS, s_bindS, ↓s_bindE, s_bindE, s_bindE_ret, s_bindE_exit, s_bindE_iteN, s_norm, ↓s_condV, s_condV, s_block_ret, s_block_normal, s_block_exit, s_block_iteN, ↓s_getp, ↓s_getp0, ↓s_get, s_get0, ↓s_con, ↓s_fn, ↓s_os0, ↓s_os1, ↓s_list0, ↓s_list1, ↓s_mov, ↓s_pick, ↓s_pickE, s_pickE, ↓s_bin, ↓s_un, ↓s_minmax, ↓s_call, ↓s_callv, ↓s_callV, ↓s_ext, s_same, b_eql, b_neq, b_lss, b_leq, b_gtr, b_geq, b_add, b_sub, b_mul, b_eqlb, b_neqb, b_fnil, b_fnil', b_fnil2, b_fnil2', u_neg, u_not, m_two, s_end, s_end', s_end_iteN, s_res0, s_res1, s_tup1, s_tup2, ↓iteN_true, ↓iteN_false, iteN_true, iteN_false, Nat.zero_add, List.nil_append, List.append_nil, Nat.reduceEqDiff, reduceIte, decide_true, decide_false, Bool.not_true, Bool.not_false, List.getElem?_cons_zero, List.getElem?_cons_succ, Bool.false_eq_true, if_true, if_false, beq_self_eq_true]
    refine fin _ ⟨by omega, ?_, ?_, ?_, ?_, by rw [h_put_same, eP], Eqx.refl _ _⟩
    all_goals (simp only [s_getp, s_getp0, Nat.reduceEqDiff, decide_false, decide_true, iteN_false, iteN_true, eP]; try rfl)
  · have e9 : 64 - len % 64 = sz := by rw [← hsz]; unfold padSz; rw [if_neg h9]
    rw [e9] at w1
    have c1 : decide ((sz : Int) < 9) = false := decide_eq_false (by omega)
    rw [eP] at fin ste
    simp (config := {maxSteps := 2000000}) (disch := first | omega | (simp only [List.length_cons, List.length_nil, List.length_append, List.length_drop]; omega)) only [b_rem64, w0, w1, c1, ix, ste, mk, ↓x_mkslice, ↓b_xor32, ↓b_and32, ↓b_or32, ↓u_not32, b_xor32, b_and32, b_or32, u_not32, w32ad, ↓x_conv, x_convV, ↓x_fieldAddr, x_fieldV, ↓s_nilchk, x_nilchk, Nat.zero_add, Nat.add_zero, Nat.mul_one, ↓s_evD, ↓s_dnil, ↓s_dL, ↓s_dLg, ↓s_dR, ↓s_dRg, ↓s_dRj, ↓s_dRjg, ↓s_dB, ↓s_dBg, ↓s_dAlloc, ↓s_bindD, s_bindD, s_finD, s_finDx, s_addP0, s_addP1, s_addB, s_lookP, ↓s_bump0, ↓s_bump_get, s_bump_next, s_ok0, ↓s_ok1, s_okR0, ↓s_okR1, ↓s_okE, s_okE, s_okE1, s_nth0, s_nthS, Nat.add_zero, Bool.and_self, Bool.and_true, Bool.true_and, ↓l_loop, ↓l_succ, ↓l_normal, l_normal, l_exit, l_ret, l_iteN, ↓h_put_get, ↓h_new_get, ↓h_del_get, h_next_put, h_next_new, h_next_del, Nat.add_assoc, Nat.add_eq_left, Nat.left_eq_add, Nat.add_left_cancel_iff, ↓s_load, m_load, ↓m_load1, m_load1, ↓m_st, m_stE, m_storeI, w_zero, w_succ, ↓s_alloc, ↓x_idxA, ↓x_idxS, x_idxAE, x_idxSE, x_addrE, x_idx, x_lenS, ↓s_len, ↓x_buildS, x_buildE, ↓x_P0, ↓x_P1, x_fill0, x_filli, x_fills, x_fillb, c_int, List.length_cons, List.length_nil, List.cons_append, List.drop_succ_cons, List.drop_zero, List.drop_nil, List.nil_append, Int.reduceAdd, Int.reduceToNat, Int.reduceLT, Int.reduceLE, Nat.reduceAdd, Nat.reduceMul, Nat.reduceLeDiff, Int.reduceEq, Int.reduceSub, Int.cast_ofNat_Int, s_resc, s_consR, m_load4, m_store4, s_res0, ↓s_skip, ↓s_ops, ↓s_dops, ↓s_seq, ↓s_cond, ↓s_block, ↓s_exit, ↓s_ret, ↓s_scope, ↓s_nil, ↓s_op, ↓s_opg, ↓s_wanted', ↓s_wantV, s_wantV, s_wantV0, beq_true, beq_false, ↓s_bindS, s_bindS, ↓s_bindE, s_bindE, s_bindE_ret, s_bindE_exit, s_bindE_iteN, s_norm, ↓s_condV, s_condV, s_block_ret, s_block_normal, s_block_exit, s_block_iteN, ↓s_getp, ↓s_getp0, ↓s_get, s_get0, ↓s_con, ↓s_fn, ↓s_os0, ↓s_os1, ↓s_list0, ↓s_list1, ↓s_mov, ↓s_pick, ↓s_pickE, s_pickE, ↓s_bin, ↓s_un, ↓s_minmax, ↓s_call, ↓s_callv, ↓s_callV, ↓s_ext, s_same, b_eql, b_neq, b_lss, b_leq, b_gtr, b_geq, b_add, b_sub, b_mul, b_eqlb, b_neqb, b_fnil, b_fnil', b_fnil2, b_fnil2', u_neg, u_not, m_two, s_end, s_end', s_end_iteN, s_res0, s_res1, s_tup1, s_tup2, ↓iteN_true, ↓iteN_false, iteN_true, iteN_false, Nat.zero_add, List.nil_append, List.append_nil, Nat.reduceEqDiff, reduceIte, decide_true, decide_false, Bool.not_true, Bool.not_false, List.getElem?_cons_zero, List.getElem?_cons_succ, Bool.false_eq_true, if_true, if_false, beq_self_eq_true]
    refine fin _ ⟨by omega, ?_, ?_, ?_, ?_, by rw [h_put_same, eP], Eqx.refl _ _⟩
    all_goals (simp only [s_getp, s_getp0, Nat.reduceEqDiff, decide_false, decide_true, iteN_false, iteN_true, eP]; try rfl)
theorem new_go (e : EnSha E) (x : NoSha X) (N : Nat) (h : H) : ∃ h', callX E X (N + 2) (.fn k_sha_New) [] h = some (.ptr (some (h'.next - 1, 0)), h') ∧ h'.get (h'.next - 1) = some (.cells (sumC squaresL (List.replicate 64 0) 0) .rw) ∧ Kp h h' ∧ h.next < h'.next := by
  rw [x_cfn e.new _ _ (Nat.le_of_ble_eq_true rfl) (x.new _ _)]
  obtain ⟨ha, ra, ka⟩ := square_go e x N h
  have F : ∀ T : Tr V, evO T (.t 1) = .agg (ofI .u32 squaresL) → fillV [.int .u32 0, .int .u32 0, .int .u32 0, .int .u32 0, .int .u32 0, .int .u32 0, .int .u32 0, .int .u32 0, .int .u8 0, .int .u8 0, .int .u8 0, .int .u8 0, .int .u8 0, .int .u8 0, .int .u8 0, .int .u8 0, .int .u8 0, .int .u8 0, .int .u8 0, .int .u8 0, .int .u8 0, .int .u8 0, .int .u8 0, .int .u8 0, .int .u8 0, .int .u8 0, .int .u8 0, .int .u8 0, .int .u8 0, .int .u8 0, .int .u8 0, .int .u8 0, .int .u8 0, .int .u8 0, .int .u8 0, .int .u8 0, .int .u8 0, .int .u8 0, .int .u8 0, .int .u8 0, .int .u8 0, .int .u8 0, .int .u8 0, .int .u8 0, .int .u8 0, .int .u8 0, .int .u8 0, .int .u8 0, .int .u8 0, .int .u8 0, .int .u8 0, .int .u8 0, .int .u8 0, .int .u8 0, .int .u8 0, .int .u8 0, .int .u8 0, .int .u8 0, .int .u8 0, .int .u8 0, .int .u8 0, .int .u8 0, .int .u8 0, .int .u8 0, .int .u8 0, .int .u8 0, .int .u8 0, .int .u8 0, .int .u8 0, .int .u8 0, .int .u8 0, .int .u8 0, .int .u64 0, .bool false] [(0, 8, evO T (.t 1)), (73, 1, .bool true)] = some (sumC squaresL (List.replicate 64 0) 0) := fun T hT => by rw [hT]; rfl
  have F2 : fillV [.int .u32 0, .int .u32 0, .int .u32 0, .int .u32 0, .int .u32 0, .int .u32 0, .int .u32 0, .int .u32 0, .int .u8 0, .int .u8 0, .int .u8 0, .int .u8 0, .int .u8 0, .int .u8 0, .int .u8 0, .int .u8 0, .int .u8 0, .int .u8 0, .int .u8 0, .int .u8 0, .int .u8 0, .int .u8 0, .int .u8 0, .int .u8 0, .int .u8 0, .int .u8 0, .int .u8 0, .int .u8 0, .int .u8 0, .int .u8 0, .int .u8 0, .int .u8 0, .int .u8 0, .int .u8 0, .int .u8 0, .int .u8 0, .int .u8 0, .int .u8 0, .int .u8 0, .int .u8 0, .int .u8 0, .int .u8 0, .int .u8 0, .int .u8 0, .int .u8 0, .int .u8 0, .int .u8 0, .int .u8 0, .int .u8 0, .int .u8 0, .int .u8 0, .int .u8 0, .int .u8 0, .int .u8 0, .int .u8 0, .int .u8 0, .int .u8 0, .int .u8 0, .int .u8 0, .int .u8 0, .int .u8 0, .int .u8 0, .int .u8 0, .int .u8 0, .int .u8 0, .int .u8 0, .int .u8 0, .int .u8 0, .int .u8 0, .int .u8 0, .int .u8 0, .int .u8 0, .int .u64 0, .bool false] [(0, 8, .agg (ofI .u32 squaresL)), (73, 1, .bool true)] = some (sumC squaresL (List.replicate 64 0) 0) := rfl
  generalize ofI .u32 squaresL = sq at *
  generalize sumC squaresL (List.replicate 64 0) 0 = C at *
  simp (config := {maxSteps := 2000000}) (disch := first | omega | (simp only [List.length_cons, List.length_nil, List.length_append, List.length_drop]; omega)) only [ra, F2, ↓x_build, x_aggO, ↓s_box, c_agg, ↓b_xor32, ↓b_and32, ↓b_or32, ↓u_not32, b_xor32, b_and32, b_or32, u_not32, w32ad, ↓x_conv, x_convV, ↓x_fieldAddr, x_fieldV, ↓s_nilchk, x_nilchk, Nat.zero_add, Nat.add_zero, Nat.mul_one, ↓l_loop, ↓l_succ, ↓l_normal, l_normal, l_exit, l_ret, l_iteN, ↓h_put_get, ↓h_new_get, ↓h_del_get, h_next_put, h_next_new, h_next_del, Nat.add_assoc, Nat.add_eq_left, Nat.left_eq_add, Nat.add_left_cancel_iff, ↓s_load, m_load, ↓m_load1, m_load1, ↓m_st, m_stE, m_storeI, w_zero, w_succ, ↓s_alloc, ↓x_idxA, ↓x_idxS, x_idxAE, x_idxSE, x_addrE, x_idx, x_lenS, ↓s_len, ↓x_buildS, x_buildE, ↓x_P0, ↓x_P1, x_fill0, x_filli, x_fills, x_fillb, c_int, List.length_cons, List.length_nil, List.cons_append, List.drop_succ_cons, List.drop_zero, List.drop_nil, List.nil_append, Int.reduceAdd, Int.reduceToNat, Int.reduceLT, Int.reduceLE, Nat.reduceAdd, Nat.reduceMul, Nat.reduceLeDiff, Int.reduceEq, Int.reduceSub, Int.cast_ofNat_Int, s_resc, s_consR, m_load4, m_store4, s_res0, ↓s_skip, ↓s_ops, ↓s_dops, ↓s_seq, ↓s_cond, ↓s_block, ↓s_exit, ↓s_ret, ↓s_scope, ↓s_nil, ↓s_op, ↓s_opg, ↓s_wanted', ↓s_wantV, s_wantV, s_wantV0, beq_true, beq_false, ↓s_bindS, s_bindS, ↓s_bindE, s_bindE, s_bindE_ret, s_bindE_exit, s_bindE_iteN, s_norm, ↓s_condV, s_condV, s_block_ret, s_block_normal, s_block_exit, s_block_iteN, ↓s_getp, ↓s_getp0, ↓s_get, s_get0, ↓s_con, ↓s_fn, ↓s_os0, ↓s_os1, ↓s_list0, ↓s_list1, ↓s_mov, ↓s_pick, ↓s_pickE, s_pickE, ↓s_bin, ↓s_un, ↓s_minmax, ↓s_call, ↓s_callv, ↓s_callV, ↓s_ext, s_same, b_eql, b_neq, b_lss, b_leq, b_gtr, b_geq, b_add, b_sub, b_mul, b_eqlb, b_neqb, b_fnil, b_fnil', b_fnil2, b_fnil2', u_neg, u_not, m_two, s_end, s_end', s_end_iteN, s_res0, s_res1, s_tup1, s_tup2, ↓iteN_true, ↓iteN_false, iteN_true, iteN_false, Nat.zero_add, List.nil_append, List.append_nil, Nat.reduceEqDiff, reduceIte, decide_true, decide_false, Bool.not_true, Bool.not_false, List.getElem?_cons_zero, List.getElem?_cons_succ, Bool.false_eq_true, if_true, if_false, beq_self_eq_true]
  refine ⟨ha.new (.cells C .rw), rfl, by rw [h_next_new, Nat.add_sub_cancel, h_new_same], ka.trans (Kp.new _ _), by have := ka.1; rw [h_next_new]; omega⟩
end Go.Eng
namespace Go.Eng
open Go
variable {E : Nat → Option Fn} {X : Orc}
set_option linter.unusedSimpArgs false
set_option linter.unusedVariables false
def be4 (w : Nat) : List Nat := [sr w 24 % 256, sr w 16 % 256, sr w 8 % 256, w % 256]
def outN (st : List Nat) : Nat → List Nat
  | 0 => List.replicate 32 0
  | i + 1 => (outN st i).take (4 * i) ++ be4 (st.getD i 0) ++ (outN st i).drop (4 * i + 4)
theorem outN_len (st : List Nat) (i : Nat) (h : i ≤ 8) : (outN st i).length = 32 := by
  induction i with
  | zero => rfl
  | succ i ih => have := ih (by omega); simp only [outN, List.length_append, List.length_take, List.length_drop, this, be4, List.length_cons, List.length_nil]; omega
structure EI (o : Nat) (st : List Nat) (h0 : H) (i : Nat) (T : Tr V) (h : H) : Prop where
  i8 : i ≤ 8
  t2 : evO T (.t 2) = evO T (.t 2)
  t4 : evO T (.t 4) = .ptr (some (o, 0))
  t21 : evO T (.t 21) = .agg (ofI .u32 st)
  t22 : evO T (.t 22) = .int .i64 (i : Int)
  go : h.get o = some (.cells (ofI .u8 (outN st i)) .rw)
  kq : Kq o h0 h
  on : o < h0.next
theorem end_step (Q : Orc) (n o r : Nat) (st : List Nat) (hst : st.length = 8) (h0 : H) :
    ∀ i T h, i < 8 → (EI o st h0 i T h ∧ evO T (.t 2) = .ptr (some (r, 0))) → ∃ T' h', evC Q 44 n none L_sha_Sum_End_0 ⟨T, [], h⟩ = some (.normal, ⟨T', [], h'⟩) ∧ (EI o st h0 (i + 1) T' h' ∧ evO T' (.t 2) = .ptr (some (r, 0))) := by
  intro i T h hi ⟨⟨_, _, t4, t21, t22, go, kq, on⟩, t2⟩
  have c0 : decide ((i : Int) < 8) = true := decide_eq_true (by omega)
  have wi : wr .i64 ((i : Int) + 1) = ((i + 1 : Nat) : Int) := by rw [wr_i64 (by omega)]; omega
  have w4 : wr .i64 (4 * (i : Int)) = ((4 * i : Nat) : Int) := by rw [wr_i64 (by omega)]; omega
  have ix : idx (i : Int) 8 = some i := idxn hi
  have vg : partV (ofI .u32 st) i (agSz false 1) = some (.int .u32 (st.getD i 0 : Nat)) := ofI_get _ _ _ (by omega)
  have ol := outN_len st i (by omega)
  have en : outN st (i + 1) = (outN st i).take (4 * i) ++ be4 (st.getD i 0) ++ (outN st i).drop (4 * i + 4) := rfl
  generalize st.getD i 0 = w at *
  have hn : o < h.next := Nat.lt_of_lt_of_le on kq.1
  have no : (h.next = o) = False := by simp; omega
  have s24 : ∀ e h, binV .shr e h (.int .u32 (w : Int)) (.int .u64 24) = some (.int .u32 (sr w 24 : Nat)) := fun e h => b_shr32 e h w 24 (by omega)
  have s16 : ∀ e h, binV .shr e h (.int .u32 (w : Int)) (.int .u64 16) = some (.int .u32 (sr w 16 : Nat)) := fun e h => b_shr32 e h w 16 (by omega)
  have s8 : ∀ e h, binV .shr e h (.int .u32 (w : Int)) (.int .u64 8) = some (.int .u32 (sr w 8 : Nat)) := fun e h => b_shr32 e h w 8 (by omega)
  have sb : ∀ h, slcB (some (.cells (ofI .u8 (outN st i)) .rw)) 32 1 o 0 (some (.int .i64 ((4 * i : Nat) : Int))) none h = some (.slice (some (o, 4 * i)) (32 - 4 * i) (some (32 - 4 * i)) 1, h) := by
    intro h
    rw [x_slcB _ _ _ _ _ _ _ _ _ _ _ (by rw [ofI_len, ol]; omega) (x_bnd0 _ _) (x_bnd _ _ _ _ (by omega)), Nat.mul_one, Nat.zero_add]
  have F : fillV [.int .u8 0, .int .u8 0, .int .u8 0, .int .u8 0] [(0, 1, .int .u8 ((sr w 24 % 256 : Nat) : Int)), (1, 1, .int .u8 ((sr w 16 % 256 : Nat) : Int)), (2, 1, .int .u8 ((sr w 8 % 256 : Nat) : Int)), (3, 1, .int .u8 ((w % 256 : Nat) : Int))] = some (ofI .u8 (be4 w)) := fill_seq0 .u8 (be4 w) _ rfl
  have SC : srcCells (h.new (.cells (ofI .u8 (be4 w)) .rw)) 1 (.slice (some (h.next, 0)) 4 (some 4) 1) = some (4, ofI .u8 (be4 w)) := by
    have : (h.new (.cells (ofI .u8 (be4 w)) .rw)).get h.next = some (.cells (ofI .u8 (be4 w)) .rw) := h_new_same _ _
    unfold srcCells cellsAt
    simp only [this]
    rfl
  have b4 : (be4 w).length = 4 := rfl
  have CP := copy_bytes (h.new (.cells (ofI .u8 (be4 w)) .rw)) o (4 * i) (32 - 4 * i) (some (32 - 4 * i)) (be4 w) (ofI .u8 (outN st i)) .rw rfl (by rw [h_new_ne _ _ (by omega), go]) (by unfold be4; simp) (by omega) (by rw [ofI_len, ol, b4]; omega)
  have hm : min (be4 w).length (32 - 4 * i) = 4 := by rw [b4]; omega
  rw [hm, show (be4 w).take 4 = be4 w from rfl, writeN_eq _ _ _ (by rw [ofI_len, ol]; omega), ofI_len, b4, ofI_take, ofI_drop, ← ofI_app, ← ofI_app, ← en] at CP
  generalize ofI .u8 (outN st i) = C at *
  obtain ⟨C', eC'⟩ : ∃ C, ofI .u8 (outN st (i + 1)) = C := ⟨_, rfl⟩
  rw [eC'] at CP
  obtain ⟨B, eB⟩ : ∃ B, ofI .u8 (be4 w) = B := ⟨_, rfl⟩
  rw [eB] at F SC CP
  refine ⟨_, _, by
    simp (config := {maxSteps := 2000000}) (disch := first | omega | (simp only [List.length_cons, List.length_nil, List.length_append, List.length_drop]; omega)) only [L_sha_Sum_End_0, t2, t4, t21, t22, go, c0, wi, w4, ix, vg, s24, s16, s8, sb, w8n, F, SC, CP, no, x_idxArr, ↓x_slcA, x_slcAE, x_M1, x_M0, ↓x_copy, ↓b_xor32, ↓b_and32, ↓b_or32, ↓u_not32, b_xor32, b_and32, b_or32, u_not32, w32ad, ↓x_conv, x_convV, ↓x_fieldAddr, x_fieldV, ↓s_nilchk, x_nilchk, Nat.zero_add, Nat.add_zero, Nat.mul_one, ↓s_evD, ↓s_dnil, ↓s_dL, ↓s_dLg, ↓s_dR, ↓s_dRg, ↓s_dRj, ↓s_dRjg, ↓s_dB, ↓s_dBg, ↓s_dAlloc, ↓s_bindD, s_bindD, s_finD, s_finDx, s_addP0, s_addP1, s_addB, s_lookP, ↓s_bump0, ↓s_bump_get, s_bump_next, s_ok0, ↓s_ok1, s_okR0, ↓s_okR1, ↓s_okE, s_okE, s_okE1, s_nth0, s_nthS, Nat.add_zero, Bool.and_self, Bool.and_true, Bool.true_and, ↓l_loop, ↓l_succ, ↓l_normal, l_normal, l_exit, l_ret, l_iteN, ↓h_put_get, ↓h_new_get, ↓h_del_get, h_next_put, h_next_new, h_next_del, Nat.add_assoc, Nat.add_eq_left, Nat.left_eq_add, Nat.add_left_cancel_iff, ↓s_load, m_load, ↓m_load1, m_load1, ↓m_st, m_stE, m_storeI, w_zero, w_succ, ↓s_alloc, ↓x_idxA, ↓x_idxS, x_idxAE, x_idxSE, x_addrE, x_idx, x_lenS, ↓s_len, ↓x_buildS, x_buildE, ↓x_P0, ↓x_P1, x_fill0, x_filli, x_fills, x_fillb, c_int, List.length_cons, List.length_nil, List.cons_append, List.drop_succ_cons, List.drop_zero, List.drop_nil, List.nil_append, Int.reduceAdd, Int.reduceToNat, Int.reduceLT, Int.reduceLE, Nat.reduceAdd, Nat.reduceMul, Nat.reduceLeDiff, Int.reduceEq, Int.reduceSub, Int.cast_ofNat_Int, s_resc, s_consR, m_load4, m_store4, s_res0, ↓s_skip, ↓s_ops, ↓s_dops, ↓s_seq, ↓s_cond, ↓s_block, ↓s_exit, ↓s_ret, ↓s_scope, ↓s_nil, ↓s_op, ↓s_opg, ↓s_wanted', ↓s_wantV, s_wantV, s_wantV0, beq_true, beq_false, ↓s_bindS, s_bindS, ↓s_bindE, s_bindE, s_bindE_ret, s_bindE_exit, s_bindE_iteN, s_norm, ↓s_condV, s_condV, s_block_ret, s_block_normal, s_block_exit, s_block_iteN, ↓s_getp, ↓s_getp0, ↓s_get, s_get0, ↓s_con, ↓s_fn, ↓s_os0, ↓s_os1, ↓s_list0, ↓s_list1, ↓s_mov, ↓s_pick, ↓s_pickE, s_pickE, ↓s_bin, ↓s_un, ↓s_minmax, ↓s_call, ↓s_callv, ↓s_callV, ↓s_ext, s_same, b_eql, b_neq, b_lss, b_leq, b_gtr, b_geq, b_add, b_sub, b_mul, b_eqlb, b_neqb, b_fnil, b_fnil', b_fnil2, b_fnil2', u_neg, u_not, m_two, s_end, s_end', s_end_iteN, s_res0, s_res1, s_tup1, s_tup2, ↓iteN_true, ↓iteN_false, iteN_true, iteN_false, Nat.zero_add, List.nil_append, List.append_nil, Nat.reduceEqDiff, reduceIte, decide_true, decide_false, Bool.not_true, Bool.not_false, List.getElem?_cons_zero, List.getElem?_cons_succ, Bool.false_eq_true, if_true, if_false, beq_self_eq_true]
    exact rfl, ⟨⟨by omega, rfl, (by (simp only [s_getp, s_getp0, Nat.reduceEqDiff, decide_false, decide_true, iteN_false, iteN_true, t4]; try rfl)), (by (simp only [s_getp, s_getp0, Nat.reduceEqDiff, decide_false, decide_true, iteN_false, iteN_true, t21]; try rfl)), (by (simp only [s_getp, s_getp0, Nat.reduceEqDiff, decide_false, decide_true, iteN_false, iteN_true, t4]; try rfl)), by rw [h_put_same, eC'], (kq.new _).put _ (.inr rfl), on⟩, (by (simp only [s_getp, s_getp0, Nat.reduceEqDiff, decide_false, decide_true, iteN_false, iteN_true, t2]; try rfl))⟩⟩
theorem end_loop (Q : Orc) (n o r : Nat) (hn : 8 < n) (st : List Nat) (hst : st.length = 8) (h0 : H) (T : Tr V) (h : H) (I : EI o st h0 0 T h ∧ evO T (.t 2) = .ptr (some (r, 0))) :
    ∃ T' h', loopN (evC Q 44 n none L_sha_Sum_End_0) n ⟨T, [], h⟩ = some (.exit 0, ⟨T', [], h'⟩) ∧ (EI o st h0 8 T' h' ∧ evO T' (.t 2) = .ptr (some (r, 0))) :=
  loop_go (fun i T h => EI o st h0 i T h ∧ evO T (.t 2) = .ptr (some (r, 0))) 8 (.exit 0) (by intro h; cases h) _ (end_step Q n o r st hst h0) (fun T h I => by
    obtain ⟨⟨a, _, t4, t21, t22, go, kq, on⟩, t2⟩ := I
    have c0 : decide (((8 : Nat) : Int) < 8) = false := rfl
    refine ⟨_, _, by
      simp (config := {maxSteps := 2000000}) (disch := first | omega | (simp only [List.length_cons, List.length_nil, List.length_append, List.length_drop]; omega)) only [L_sha_Sum_End_0, t22, c0, ↓b_xor32, ↓b_and32, ↓b_or32, ↓u_not32, b_xor32, b_and32, b_or32, u_not32, w32ad, ↓x_conv, x_convV, ↓x_fieldAddr, x_fieldV, ↓s_nilchk, x_nilchk, Nat.zero_add, Nat.add_zero, Nat.mul_one, ↓l_loop, ↓l_succ, ↓l_normal, l_normal, l_exit, l_ret, l_iteN, ↓h_put_get, ↓h_new_get, ↓h_del_get, h_next_put, h_next_new, h_next_del, Nat.add_assoc, Nat.add_eq_left, Nat.left_eq_add, Nat.add_left_cancel_iff, ↓s_load, m_load, ↓m_load1, m_load1, ↓m_st, m_stE, m_storeI, w_zero, w_succ, ↓s_alloc, ↓x_idxA, ↓x_idxS, x_idxAE, x_idxSE, x_addrE, x_idx, x_lenS, ↓s_len, ↓x_buildS, x_buildE, ↓x_P0, ↓x_P1, x_fill0, x_filli, x_fills, x_fillb, c_int, List.length_cons, List.length_nil, List.cons_append, List.drop_succ_cons, List.drop_zero, List.drop_nil, List.nil_append, Int.reduceAdd, Int.reduceToNat, Int.reduceLT, Int.reduceLE, Nat.reduceAdd, Nat.reduceMul, Nat.reduceLeDiff, Int.reduceEq, Int.reduceSub, Int.cast_ofNat_Int, s_resc, s_consR, m_load4, m_store4, s_res0, ↓s_skip, ↓s_ops, ↓s_dops, ↓s_seq, ↓s_cond, ↓s_block, ↓s_exit, ↓s_ret, ↓s_scope, ↓s_nil, ↓s_op, ↓s_opg, ↓s_wanted', ↓s_wantV, s_wantV, s_wantV0, beq_true, beq_false, ↓s_bindS, s_bindS, ↓s_bindE, s_bindE, s_bindE_ret, s_bindE_exit, s_bindE_iteN, s_norm, ↓s_condV, s_condV, s_block_ret, s_block_normal, s_block_exit, s_block_iteN, ↓s_getp, ↓s_getp0, ↓s_get, s_get0, ↓s_con, ↓s_fn, ↓s_os0, ↓s_os1, ↓s_list0, ↓s_list1, ↓s_mov, ↓s_pick, ↓s_pickE, s_pickE, ↓s_bin, ↓s_un, ↓s_minmax, ↓s_call, ↓s_callv, ↓s_callV, ↓s_ext, s_same, b_eql, b_neq, b_lss, b_leq, b_gtr, b_geq, b_add, b_sub, b_mul, b_eqlb, b_neqb, b_fnil, b_fnil', b_fnil2, b_fnil2', u_neg, u_not, m_two, s_end, s_end', s_end_iteN, s_res0, s_res1, s_tup1, s_tup2, ↓iteN_true, ↓iteN_false, iteN_true, iteN_false, Nat.zero_add, List.nil_append, List.append_nil, Nat.reduceEqDiff, reduceIte, decide_true, decide_false, Bool.not_true, Bool.not_false, List.getElem?_cons_zero, List.getElem?_cons_succ, Bool.false_eq_true, if_true, if_false, beq_self_eq_true]
      exact rfl, ⟨⟨a, rfl, (by (simp only [s_getp, s_getp0, Nat.reduceEqDiff, decide_false, decide_true, iteN_false, iteN_true, t4]; try rfl)), (by (simp only [s_getp, s_getp0, Nat.reduceEqDiff, decide_false, decide_true, iteN_false, iteN_true, t21]; try rfl)), (by (simp only [s_getp, s_getp0, Nat.reduceEqDiff, decide_false, decide_true, iteN_false, iteN_true, t22]; try rfl)), go, kq, on⟩, (by (simp only [s_getp, s_getp0, Nat.reduceEqDiff, decide_false, decide_true, iteN_false, iteN_true, t2]; try rfl))⟩⟩) 8 0 rfl n hn T h I
def hashV (st : List Nat) : List Nat := outN st 8
def endV (s : Sm) : List Nat := hashV (absorb s (padV s.len)).st
def initS : Sm := ⟨squaresL, List.replicate 64 0, 0⟩
def shaV (l : List Nat) : List Nat := endV (absorb initS l)
theorem initS_ok : SmOk initS := ⟨rfl, rfl, by decide⟩
theorem sumC_plain (st blk : List Nat) (len : Nat) : (sumC st blk len).all plainV = true := by
  unfold sumC; rw [List.all_append, List.all_append, plain_ofI, plain_ofI]; rfl
theorem writeN_all (z l : List V) (h : z.length = l.length) : writeN z 0 l = l := by rw [w_zero, List.drop_eq_nil_of_le (by omega), List.append_nil]
theorem end_go (e : EnSha E) (x : NoSha X) (M p : Nat) (s : Sm) (ok : SmOk s) (h : H) (hM : 100 < M) (hp : h.get p = some (.cells (sumC s.st s.blk s.len) .rw)) (hpn : p < h.next) :
    ∃ h', callX E X (M + 81) (.fn k_sha_Sum_End) [.ptr (some (p, 0))] h = some (.agg (ofI .u8 (endV s)), h') ∧ Kp h h' := by
  rw [x_cfn e.fin _ _ (Nat.le_of_ble_eq_true rfl) (x.fin _ _)]
  have z32 : ofI .u8 (List.replicate 32 0) = [.int .u8 0, .int .u8 0, .int .u8 0, .int .u8 0, .int .u8 0, .int .u8 0, .int .u8 0, .int .u8 0, .int .u8 0, .int .u8 0, .int .u8 0, .int .u8 0, .int .u8 0, .int .u8 0, .int .u8 0, .int .u8 0, .int .u8 0, .int .u8 0, .int .u8 0, .int .u8 0, .int .u8 0, .int .u8 0, .int .u8 0, .int .u8 0, .int .u8 0, .int .u8 0, .int .u8 0, .int .u8 0, .int .u8 0, .int .u8 0, .int .u8 0, .int .u8 0] := rfl
  obtain ⟨z74, e74⟩ : ∃ z, ([.int .u32 0, .int .u32 0, .int .u32 0, .int .u32 0, .int .u32 0, .int .u32 0, .int .u32 0, .int .u32 0, .int .u8 0, .int .u8 0, .int .u8 0, .int .u8 0, .int .u8 0, .int .u8 0, .int .u8 0, .int .u8 0, .int .u8 0, .int .u8 0, .int .u8 0, .int .u8 0, .int .u8 0, .int .u8 0, .int .u8 0, .int .u8 0, .int .u8 0, .int .u8 0, .int .u8 0, .int .u8 0, .int .u8 0, .int .u8 0, .int .u8 0, .int .u8 0, .int .u8 0, .int .u8 0, .int .u8 0, .int .u8 0, .int .u8 0, .int .u8 0, .int .u8 0, .int .u8 0, .int .u8 0, .int .u8 0, .int .u8 0, .int .u8 0, .int .u8 0, .int .u8 0, .int .u8 0, .int .u8 0, .int .u8 0, .int .u8 0, .int .u8 0, .int .u8 0, .int .u8 0, .int .u8 0, .int .u8 0, .int .u8 0, .int .u8 0, .int .u8 0, .int .u8 0, .int .u8 0, .int .u8 0, .int .u8 0, .int .u8 0, .int .u8 0, .int .u8 0, .int .u8 0, .int .u8 0, .int .u8 0, .int .u8 0, .int .u8 0, .int .u8 0, .int .u8 0, .int .u64 0, .bool false] : List V) = z := ⟨_, rfl⟩
  have l74 : z74.length = 74 := by rw [← e74]; rfl
  obtain ⟨h1, e1⟩ : ∃ h1, h.new (.cells (ofI .u8 (List.replicate 32 0)) .rw) = h1 := ⟨_, rfl⟩
  have n1 : h1.next = h.next + 1 := by rw [← e1]; rfl
  have g1 : h1.get p = some (.cells (sumC s.st s.blk s.len) .rw) := by rw [← e1, h_new_ne _ _ (by omega), hp]
  have su := sums_go e x (M + 79) p s.st s.blk s.len .rw h1 ok.1 ok.2.1 g1
  have sle := sumC_len s.st s.blk s.len ok.1 ok.2.1
  have ld : loadE (some (.cells (sumC s.st s.blk s.len) .rw)) (some 74) 0 = some (.agg (sumC s.st s.blk s.len)) := by rw [m_loadN, x_readAll _ 74 sle]
  have ll : loadE (some (.cells (sumC s.st s.blk s.len) .rw)) none 72 = some (.int .u64 (s.len : Int)) := by rw [m_load1, sumC_l _ _ _ ok.1 ok.2.1]
  have S74 : ∀ (h : H) (i : Nat), storeV h 74 (.ptr (some (i, 0))) (.agg (sumC s.st s.blk s.len)) = storeE (h.get i) h i 0 (sumC s.st s.blk s.len) := fun h i => m_storeA h 74 i 0 _ (by rw [sle, sumC_plain]; rfl)
  have st74 : ∀ (h : H) (i : Nat), storeE (some (.cells z74 .rw)) h i 0 (sumC s.st s.blk s.len) = some (h.put i (.cells (sumC s.st s.blk s.len) .rw)) := fun h i => by rw [m_storeE _ _ _ _ _ (by omega), writeN_all _ _ (by omega)]
  obtain ⟨h2, e2⟩ : ∃ h2, (h1.new (.cells z74 .rw)).put (h.next + 1) (.cells (sumC s.st s.blk s.len) .rw) = h2 := ⟨_, rfl⟩
  have n2 : h2.next = h.next + 2 := by rw [← e2]; simp only [h_next_put, h_next_new, n1]
  have k2 : Kp h h2 := by rw [← e2, ← e1]; exact (((Kp.new _ _).trans (Kp.new _ _))).put _ (by omega)
  obtain ⟨h3, r3, g3, k3, n3⟩ := pad_go e x (M + 70) s.len ok.2.2 h2
  rw [n2] at r3 g3 n3
  have k23 := k2.trans k3
  have g3q : h3.get (h.next + 1) = some (.cells (sumC s.st s.blk s.len) .rw) := by rw [k3.2 _ (by omega), ← e2, h_put_same]
  obtain ⟨h4, r4, g4, k4⟩ := write_go e x M (h.next + 1) s ok (padV s.len) (some (h.next + 2, 0)) (some (padV s.len).length) 1 h3 (by have := padSz_b s.len; rw [padV_len]; omega) (by have := padSz_b s.len; rw [padV_len]; omega) g3q (by omega) (.inr ⟨h.next + 2, 0, _, _, rfl, rfl, by omega, by omega, g3, by rw [ofI_len]; omega, by rw [List.drop_zero, ← ofI_len .u8, List.take_length]⟩)
  have ok2 := absorb_ok (padV s.len) s ok
  have aE : endV s = hashV (absorb s (padV s.len)).st := rfl
  obtain ⟨s2, es2⟩ : ∃ s2, absorb s (padV s.len) = s2 := ⟨_, rfl⟩
  rw [es2] at g4 ok2 aE
  have g4r : h4.get h.next = some (.cells (ofI .u8 (List.replicate 32 0)) .rw) := by
    rw [k4.2 _ (by omega) (by omega), k3.2 _ (by omega), ← e2, h_put_ne _ _ (by omega), h_new_ne _ _ (by omega), ← e1, h_new_same]
  have k4h : Kp h h4 := ⟨by have := k4.1; omega, fun i hi => by rw [k4.2 _ (by omega) (by omega), k23.2 _ hi]⟩
  have n4 : h.next + 3 ≤ h4.next := by have := k4.1; omega
  have fin : ∀ T, EI h4.next s2.st (h4.new (.cells (ofI .u8 (List.replicate 32 0)) .rw)) 0 T (h4.new (.cells (ofI .u8 (List.replicate 32 0)) .rw)) ∧ evO T (.t 2) = .ptr (some (h.next, 0)) →
      ∃ h', fnEnd [.cell 2 (some 32)] (bindE (blockE 0 (loopN (evC (callX E X (M + 80)) 44 (M + 80) none L_sha_Sum_End_0) (M + 80) ⟨T, [], h4.new (.cells (ofI .u8 (List.replicate 32 0)) .rw)⟩)) (evC (callX E X (M + 80)) 44 (M + 80) none R_sha_Sum_End_0)) = some (.agg (ofI .u8 (endV s)), h') ∧ Kp h h' := by
    intro T I
    obtain ⟨T', h', r5, ⟨a, _, t4, t21, t22, go, kq, on⟩, t2⟩ := end_loop (callX E X (M + 80)) (M + 80) h4.next h.next (by omega) s2.st ok2.1 _ T _ I
    rw [r5, aE]
    have go' : h'.get h4.next = some (.cells (ofI .u8 (hashV s2.st)) .rw) := go
    have hl : (ofI .u8 (hashV s2.st)).length = 32 := by rw [ofI_len]; exact outN_len _ _ (by omega)
    have gr : h'.get h.next = some (.cells (ofI .u8 (List.replicate 32 0)) .rw) := by rw [kq.2 _ (by rw [h_next_new]; omega) (by omega), h_new_ne _ _ (by omega), g4r]
    have l32 : loadE (some (.cells (ofI .u8 (hashV s2.st)) .rw)) (some 32) 0 = some (.agg (ofI .u8 (hashV s2.st))) := by rw [m_loadN, x_readAll _ 32 hl]
    have S32 : ∀ (h : H) (i : Nat), storeV h 32 (.ptr (some (i, 0))) (.agg (ofI .u8 (hashV s2.st))) = storeE (h.get i) h i 0 (ofI .u8 (hashV s2.st)) := fun h i => m_storeA h 32 i 0 _ (by rw [hl, plain_ofI]; rfl)
    have st32 : ∀ (h : H) (i : Nat), storeE (some (.cells (ofI .u8 (List.replicate 32 0)) .rw)) h i 0 (ofI .u8 (hashV s2.st)) = some (h.put i (.cells (ofI .u8 (hashV s2.st)) .rw)) := fun h i => by rw [m_storeE _ _ _ _ _ (by rw [hl, ofI_len, List.length_replicate]; omega), writeN_all _ _ (by rw [hl, ofI_len, List.length_replicate])]
    generalize ofI .u8 (hashV s2.st) = R at *
    generalize ofI .u8 (List.replicate 32 0) = Z at *
    simp (config := {maxSteps := 2000000}) (disch := first | omega | (simp only [List.length_cons, List.length_nil, List.length_append, List.length_drop]; omega)) only [R_sha_Sum_End_0, t2, t4, go', gr, l32, S32, st32, ↓b_xor32, ↓b_and32, ↓b_or32, ↓u_not32, b_xor32, b_and32, b_or32, u_not32, w32ad, ↓x_conv, x_convV, ↓x_fieldAddr, x_fieldV, ↓s_nilchk, x_nilchk, Nat.zero_add, Nat.add_zero, Nat.mul_one, ↓l_loop, ↓l_succ, ↓l_normal, l_normal, l_exit, l_ret, l_iteN, ↓h_put_get, ↓h_new_get, ↓h_del_get, h_next_put, h_next_new, h_next_del, Nat.add_assoc, Nat.add_eq_left, Nat.left_eq_add, Nat.add_left_cancel_iff, ↓s_load, m_load, ↓m_load1, m_load1, ↓m_st, m_stE, m_storeI, w_zero, w_succ, ↓s_alloc, ↓x_idxA, ↓x_idxS, x_idxAE, x_idxSE, x_addrE, x_idx, x_lenS, ↓s_len, ↓x_buildS, x_buildE, ↓x_P0, ↓x_P1, x_fill0, x_filli, x_fills, x_fillb, c_int, List.length_cons, List.length_nil, List.cons_append, List.drop_succ_cons, List.drop_zero, List.drop_nil, List.nil_append, Int.reduceAdd, Int.reduceToNat, Int.reduceLT, Int.reduceLE, Nat.reduceAdd, Nat.reduceMul, Nat.reduceLeDiff, Int.reduceEq, Int.reduceSub, Int.cast_ofNat_Int, s_resc, s_consR, m_load4, m_store4, s_res0, ↓s_skip, ↓s_ops, ↓s_dops, ↓s_seq, ↓s_cond, ↓s_block, ↓s_exit, ↓s_ret, ↓s_scope, ↓s_nil, ↓s_op, ↓s_opg, ↓s_wanted', ↓s_wantV, s_wantV, s_wantV0, beq_true, beq_false, ↓s_bindS, s_bindS, ↓s_bindE, s_bindE, s_bindE_ret, s_bindE_exit, s_bindE_iteN, s_norm, ↓s_condV, s_condV, s_block_ret, s_block_normal, s_block_exit, s_block_iteN, ↓s_getp, ↓s_getp0, ↓s_get, s_get0, ↓s_con, ↓s_fn, ↓s_os0, ↓s_os1, ↓s_list0, ↓s_list1, ↓s_mov, ↓s_pick, ↓s_pickE, s_pickE, ↓s_bin, ↓s_un, ↓s_minmax, ↓s_call, ↓s_callv, ↓s_callV, ↓s_ext, s_same, b_eql, b_neq, b_lss, b_leq, b_gtr, b_geq, b_add, b_sub, b_mul, b_eqlb, b_neqb, b_fnil, b_fnil', b_fnil2, b_fnil2', u_neg, u_not, m_two, s_end, s_end', s_end_iteN, s_res0, s_res1, s_tup1, s_tup2, ↓iteN_true, ↓iteN_false, iteN_true, iteN_false, Nat.zero_add, List.nil_append, List.append_nil, Nat.reduceEqDiff, reduceIte, decide_true, decide_false, Bool.not_true, Bool.not_false, List.getElem?_cons_zero, List.getElem?_cons_succ, Bool.false_eq_true, if_true, if_false, beq_self_eq_true]
    refine ⟨_, rfl, ⟨by have := kq.1; rw [h_next_new] at this; simp only [h_next_put]; omega, fun i hi => ?_⟩⟩
    rw [h_put_ne _ _ (by omega), kq.2 _ (by rw [h_next_new]; omega) (by omega), h_new_ne _ _ (by omega), k4h.2 _ hi]
  have ld8 : loadE (some (.cells (sumC s2.st s2.blk s2.len) .rw)) (some 8) 0 = some (.agg (ofI .u32 s2.st)) := by
    have hs : (ofI .u32 s2.st).length = 8 := by rw [ofI_len, ok2.1]
    rw [m_loadN, readN_of _ _ _ (by rw [sumC_len _ _ _ ok2.1 ok2.2.1]; omega)]
    unfold sumC
    rw [List.drop_zero, List.take_left' hs]
  have g4q : (h4.new (.cells (ofI .u8 (List.replicate 32 0)) .rw)).get (h.next + 1) = some (.cells (sumC s2.st s2.blk s2.len) .rw) := by rw [h_new_ne _ _ (by omega), g4]
  have ng : (h.next = h.next + 1) = False := by simp
  have np : (h.next = p) = False := by simp; omega
  have np1 : (h.next + 1 = p) = False := by simp; omega
  have n4q : (h4.next = h.next + 1) = False := by simp; omega
  have x1 : ∀ v : V, V.cells (.agg [v]) = [v] := fun _ => rfl
  have gp2 : h2.get p = some (.cells (sumC s.st s.blk s.len) .rw) := by rw [k2.2 _ hpn, hp]
  obtain ⟨R, eR⟩ : ∃ R, R_sha_Sum_End_0 = R := ⟨_, rfl⟩
  obtain ⟨L, eL⟩ : ∃ R, L_sha_Sum_End_0 = R := ⟨_, rfl⟩
  have o0 : ofI .u8 (outN s2.st 0) = ofI .u8 (List.replicate 32 0) := rfl
  rw [eR, eL] at fin ⊢
  rw [e74, ← z32]
  generalize ofI .u8 (List.replicate 32 0) = z at *
  generalize sumC s.st s.blk s.len = C at *
  generalize sumC s2.st s2.blk s2.len = C2 at *
  obtain ⟨pl, epl⟩ : ∃ l, padV s.len = l := ⟨_, rfl⟩
  rw [epl] at r3 r4
  simp (config := {maxSteps := 2000000}) (disch := first | omega | (simp only [List.length_cons, List.length_nil, List.length_append, List.length_drop]; omega)) only [e1, n1, su, g1, ld, ll, S74, st74, e2, gp2, r3, r4, g4q, g4, n4q, ld8, ng, np, np1, ↓b_xor32, ↓b_and32, ↓b_or32, ↓u_not32, b_xor32, b_and32, b_or32, u_not32, w32ad, ↓x_conv, x_convV, ↓x_fieldAddr, x_fieldV, ↓s_nilchk, x_nilchk, Nat.zero_add, Nat.add_zero, Nat.mul_one, ↓l_loop, ↓l_succ, ↓l_normal, l_normal, l_exit, l_ret, l_iteN, ↓h_put_get, ↓h_new_get, ↓h_del_get, h_next_put, h_next_new, h_next_del, Nat.add_assoc, Nat.add_eq_left, Nat.left_eq_add, Nat.add_left_cancel_iff, ↓s_load, m_load, ↓m_load1, m_load1, ↓m_st, m_stE, m_storeI, w_zero, w_succ, ↓s_alloc, ↓x_idxA, ↓x_idxS, x_idxAE, x_idxSE, x_addrE, x_idx, x_lenS, ↓s_len, ↓x_buildS, x_buildE, ↓x_P0, ↓x_P1, x_fill0, x_filli, x_fills, x_fillb, c_int, List.length_cons, List.length_nil, List.cons_append, List.drop_succ_cons, List.drop_zero, List.drop_nil, List.nil_append, Int.reduceAdd, Int.reduceToNat, Int.reduceLT, Int.reduceLE, Nat.reduceAdd, Nat.reduceMul, Nat.reduceLeDiff, Int.reduceEq, Int.reduceSub, Int.cast_ofNat_Int, s_resc, s_consR, m_load4, m_store4, s_res0, ↓s_skip, ↓s_ops, ↓s_dops, ↓s_seq, ↓s_cond, ↓s_block, ↓s_exit, ↓s_ret, ↓s_scope, ↓s_nil, ↓s_op, ↓s_opg, ↓s_wanted', ↓s_wantV, s_wantV, s_wantV0, beq_true, beq_false, ↓s_bindS, s_bindS, ↓s_bindE, s_bindE, s_bindE_ret, s_bindE_exit, s_bindE_iteN, s_norm, ↓s_condV, s_condV, s_block_ret, s_block_normal, s_block_exit, s_block_iteN, ↓s_getp, ↓s_getp0, ↓s_get, s_get0, ↓s_con, ↓s_fn, ↓s_os0, ↓s_os1, ↓s_list0, ↓s_list1, ↓s_mov, ↓s_pick, ↓s_pickE, s_pickE, ↓s_bin, ↓s_un, ↓s_minmax, ↓s_call, ↓s_callv, ↓s_callV, ↓s_ext, s_same, b_eql, b_neq, b_lss, b_leq, b_gtr, b_geq, b_add, b_sub, b_mul, b_eqlb, b_neqb, b_fnil, b_fnil', b_fnil2, b_fnil2', u_neg, u_not, m_two, s_end, s_end', s_end_iteN, s_res0, s_res1, s_tup1, s_tup2, ↓iteN_true, ↓iteN_false, iteN_true, iteN_false, Nat.zero_add, List.nil_append, List.append_nil, Nat.reduceEqDiff, reduceIte, decide_true, decide_false, Bool.not_true, Bool.not_false, List.getElem?_cons_zero, List.getElem?_cons_succ, Bool.false_eq_true, if_true, if_false, beq_self_eq_true]
  exact fin _ ⟨⟨by omega, rfl, (by (simp only [s_getp, s_getp0, Nat.reduceEqDiff, decide_false, decide_true, iteN_false, iteN_true, o0]; try rfl)), (by (simp only [s_getp, s_getp0, Nat.reduceEqDiff, decide_false, decide_true, iteN_false, iteN_true, o0]; try rfl)), (by (simp only [s_getp, s_getp0, Nat.reduceEqDiff, decide_false, decide_true, iteN_false, iteN_true, o0]; try rfl)), by rw [o0, h_new_same], Kq.refl _ _, by rw [h_next_new]; omega⟩, (by (simp only [s_getp, s_getp0, Nat.reduceEqDiff, decide_false, decide_true, iteN_false, iteN_true, o0]; try rfl))⟩
end Go.Eng
namespace Go.Eng
open Go
variable {E : Nat → Option Fn} {X : Orc}
set_option linter.unusedSimpArgs false
set_option linter.unusedVariables false
def SrcH (h : H) (a : Option (Nat × Nat)) (e : Nat) (l : List Nat) : Prop :=
  l = [] ∨ ∃ bi off vs m, a = some (bi, off) ∧ e = 1 ∧ bi < h.next ∧ h.get bi = some (.cells vs m) ∧ off + l.length ≤ vs.length ∧ (vs.drop off).take l.length = ofI .u8 l
theorem SrcH.src {h h' : H} {a : Option (Nat × Nat)} {e : Nat} {l : List Nat} (s : SrcH h a e l) (k : Kp h h') (p : Nat) (hp : h.next ≤ p) : Src h' p h'.next a e l := by
  rcases s with h | ⟨bi, off, vs, m, h1, h2, h3, h4, h5, h6⟩
  · exact .inl h
  · exact .inr ⟨bi, off, vs, m, h1, h2, by omega, Nat.lt_of_lt_of_le h3 k.1, by rw [k.2 _ h3, h4], h5, h6⟩
theorem SrcH.mono {h h' : H} {a : Option (Nat × Nat)} {e : Nat} {l : List Nat} (s : SrcH h a e l) (k : Kp h h') : SrcH h' a e l := by
  rcases s with h | ⟨bi, off, vs, m, h1, h2, h3, h4, h5, h6⟩
  · exact .inl h
  · exact .inr ⟨bi, off, vs, m, h1, h2, Nat.lt_of_lt_of_le h3 k.1, by rw [k.2 _ h3, h4], h5, h6⟩
theorem Kp.of_q {p : Nat} {h h' : H} (k : Kq p h h') (hp : h.next ≤ p) : Kp h h' := ⟨k.1, fun i hi => k.2 i hi (by omega)⟩
theorem hashV_len (st : List Nat) : (hashV st).length = 32 := outN_len _ _ (by omega)
theorem shaV_len (l : List Nat) : (shaV l).length = 32 := hashV_len _
/-- an answer of 32 bytes, put and read -/
theorem put32 (l : List Nat) (hl : l.length = 32) : (∀ (h : H) (i : Nat), storeV h 32 (.ptr (some (i, 0))) (.agg (ofI .u8 l)) = storeE (h.get i) h i 0 (ofI .u8 l)) ∧
    (∀ (h : H) (i : Nat), storeE (some (.cells (ofI .u8 (List.replicate 32 0)) .rw)) h i 0 (ofI .u8 l) = some (h.put i (.cells (ofI .u8 l) .rw))) ∧
    (∀ m, loadE (some (.cells (ofI .u8 l) m)) (some 32) 0 = some (.agg (ofI .u8 l))) := by
  have h32 : (ofI .u8 l).length = 32 := by rw [ofI_len, hl]
  exact ⟨fun h i => m_storeA h 32 i 0 _ (by rw [h32, plain_ofI]; rfl), fun h i => by rw [m_storeE _ _ _ _ _ (by rw [h32, ofI_len, List.length_replicate]; omega), writeN_all _ _ (by rw [h32, ofI_len, List.length_replicate])], fun m => by rw [m_loadN, x_readAll _ 32 h32]⟩
theorem z32e : ofI .u8 (List.replicate 32 0) = [.int .u8 0, .int .u8 0, .int .u8 0, .int .u8 0, .int .u8 0, .int .u8 0, .int .u8 0, .int .u8 0, .int .u8 0, .int .u8 0, .int .u8 0, .int .u8 0, .int .u8 0, .int .u8 0, .int .u8 0, .int .u8 0, .int .u8 0, .int .u8 0, .int .u8 0, .int .u8 0, .int .u8 0, .int .u8 0, .int .u8 0, .int .u8 0, .int .u8 0, .int .u8 0, .int .u8 0, .int .u8 0, .int .u8 0, .int .u8 0, .int .u8 0, .int .u8 0] := rfl
theorem of_go (e : EnSha E) (x : NoSha X) (e1 : E k_sha_Of = some f_sha_Of) (x1 : ∀ a h, X (.fn k_sha_Of) a h = none) (M : Nat) (l : List Nat) (a : Option (Nat × Nat)) (c : Option Nat) (ez : Nat) (h : H) (hM : l.length < M) (hM0 : 100 < M) (hM2 : l.length < 9223372036854775808) (src : SrcH h a ez l) :
    ∃ h', callX E X (M + 82) (.fn k_sha_Of) [.slice a l.length c ez] h = some (.agg (ofI .u8 (shaV l)), h') ∧ Kp h h' := by
  rw [x_cfn e1 _ _ (Nat.le_of_ble_eq_true rfl) (x1 _ _)]
  obtain ⟨h1, eh1⟩ : ∃ h1, h.new (.cells (ofI .u8 (List.replicate 32 0)) .rw) = h1 := ⟨_, rfl⟩
  have n1 : h1.next = h.next + 1 := by rw [← eh1]; rfl
  have k1 : Kp h h1 := by rw [← eh1]; exact Kp.new _ _
  have g1 : h1.get h.next = some (.cells (ofI .u8 (List.replicate 32 0)) .rw) := by rw [← eh1, h_new_same]
  obtain ⟨h2, r2, g2, k2, n2⟩ := new_go e x (M + 79) h1
  obtain ⟨h3, r3, g3, k3⟩ := write_go e x (M + 1) (h2.next - 1) initS initS_ok l a c ez h2 (by omega) hM2 g2 (by omega) (src.src (k1.trans k2) _ (by omega))
  obtain ⟨h4, r4, k4⟩ := end_go e x M (h2.next - 1) (absorb initS l) (absorb_ok l _ initS_ok) h3 hM0 g3 (by have := k3.1; omega)
  have K3 : Kp h1 h3 := ⟨by have := k3.1; have := k2.1; omega, fun i hi => by rw [k3.2 _ (by omega) (by omega), k2.2 _ hi]⟩
  have K4 : Kp h1 h4 := K3.trans k4
  have g4 : h4.get h.next = some (.cells (ofI .u8 (List.replicate 32 0)) .rw) := by rw [K4.2 _ (by omega), g1]
  obtain ⟨p1, p2, p3⟩ := put32 (shaV l) (shaV_len l)
  have es : endV (absorb initS l) = shaV l := rfl
  rw [es] at r4
  rw [← z32e]
  generalize ofI .u8 (shaV l) = R at *
  generalize ofI .u8 (List.replicate 32 0) = Z at *
  simp (config := {maxSteps := 2000000}) (disch := first | omega | (simp only [List.length_cons, List.length_nil, List.length_append, List.length_drop]; omega)) only [eh1, r2, r3, r4, g4, p1, p2, p3, ↓b_xor32, ↓b_and32, ↓b_or32, ↓u_not32, b_xor32, b_and32, b_or32, u_not32, w32ad, ↓x_conv, x_convV, ↓x_fieldAddr, x_fieldV, ↓s_nilchk, x_nilchk, Nat.zero_add, Nat.add_zero, Nat.mul_one, ↓l_loop, ↓l_succ, ↓l_normal, l_normal, l_exit, l_ret, l_iteN, ↓h_put_get, ↓h_new_get, ↓h_del_get, h_next_put, h_next_new, h_next_del, Nat.add_assoc, Nat.add_eq_left, Nat.left_eq_add, Nat.add_left_cancel_iff, ↓s_load, m_load, ↓m_load1, m_load1, ↓m_st, m_stE, m_storeI, w_zero, w_succ, ↓s_alloc, ↓x_idxA, ↓x_idxS, x_idxAE, x_idxSE, x_addrE, x_idx, x_lenS, ↓s_len, ↓x_buildS, x_buildE, ↓x_P0, ↓x_P1, x_fill0, x_filli, x_fills, x_fillb, c_int, List.length_cons, List.length_nil, List.cons_append, List.drop_succ_cons, List.drop_zero, List.drop_nil, List.nil_append, Int.reduceAdd, Int.reduceToNat, Int.reduceLT, Int.reduceLE, Nat.reduceAdd, Nat.reduceMul, Nat.reduceLeDiff, Int.reduceEq, Int.reduceSub, Int.cast_ofNat_Int, s_resc, s_consR, m_load4, m_store4, s_res0, ↓s_skip, ↓s_ops, ↓s_dops, ↓s_seq, ↓s_cond, ↓s_block, ↓s_exit, ↓s_ret, ↓s_scope, ↓s_nil, ↓s_op, ↓s_opg, ↓s_wanted', ↓s_wantV, s_wantV, s_wantV0, beq_true, beq_false, ↓s_bindS, s_bindS, ↓s_bindE, s_bindE, s_bindE_ret, s_bindE_exit, s_bindE_iteN, s_norm, ↓s_condV, s_condV, s_block_ret, s_block_normal, s_block_exit, s_block_iteN, ↓s_getp, ↓s_getp0, ↓s_get, s_get0, ↓s_con, ↓s_fn, ↓s_os0, ↓s_os1, ↓s_list0, ↓s_list1, ↓s_mov, ↓s_pick, ↓s_pickE, s_pickE, ↓s_bin, ↓s_un, ↓s_minmax, ↓s_call, ↓s_callv, ↓s_callV, ↓s_ext, s_same, b_eql, b_neq, b_lss, b_leq, b_gtr, b_geq, b_add, b_sub, b_mul, b_eqlb, b_neqb, b_fnil, b_fnil', b_fnil2, b_fnil2', u_neg, u_not, m_two, s_end, s_end', s_end_iteN, s_res0, s_res1, s_tup1, s_tup2, ↓iteN_true, ↓iteN_false, iteN_true, iteN_false, Nat.zero_add, List.nil_append, List.append_nil, Nat.reduceEqDiff, reduceIte, decide_true, decide_false, Bool.not_true, Bool.not_false, List.getElem?_cons_zero, List.getElem?_cons_succ, Bool.false_eq_true, if_true, if_false, beq_self_eq_true]
  exact ⟨_, rfl, (k1.trans K4).put _ (Nat.le_refl _)⟩
def ofS (l : List Nat) : Option V := if decide (l.length ≤ 100000) then some (.agg (ofI .u8 (shaV l))) else none
theorem datas_ofI (k : IntKind) (l : List Nat) : datas (ofI k l) = true := by
  induction l with
  | nil => rfl
  | cons a r ih => simp only [ofI, datas, dataV, ih, Bool.and_self]
theorem noSha_no : NoSha noX := ⟨fun _ _ => rfl, fun _ _ => rfl, fun _ _ => rfl, fun _ _ => rfl, fun _ _ => rfl, fun _ _ => rfl, fun _ _ => rfl, fun _ _ => rfl, fun _ _ => rfl, fun _ _ => rfl, fun _ _ => rfl, fun _ _ => rfl, fun _ _ => rfl, fun _ _ _ => rfl⟩
theorem ofX_ok {P : Program} {g : Gn} (hE : Link P g E) (e : EnSha E) (e1 : E k_sha_Of = some f_sha_Of) : QOk P g (bytesX k_sha_Of ofS) := by
  refine bytesX_ok (callX_ok hE noX_ok (100101 + 82)) ?_
  intro l v hs
  unfold ofS at hs
  split at hs
  · rename_i hb
    cases hs
    have hb' := of_decide_eq_true hb
    refine ⟨by simp only [dataV, datas_ofI], ?_, ?_⟩
    · intro h0 a c z
      subst h0
      obtain ⟨h', r, _⟩ := of_go e noSha_no e1 (fun _ _ => rfl) 100101 [] a c z (mkH [] 1) (by simp) (by omega) (by simp) (.inl rfl)
      exact ⟨h', r⟩
    · intro hne c
      obtain ⟨h', r, _⟩ := of_go e noSha_no e1 (fun _ _ => rfl) 100101 l (some (0, 0)) c 1 (mkH [(0, ofBytes l)] 1) (by omega) (by omega) (by omega) (.inr ⟨0, 0, ofBytes l, .ro, rfl, rfl, Nat.zero_lt_one, rfl, by rw [ofB_len]; omega, (by rw [List.drop_zero, ← ofI_u8]; exact List.take_of_length_le (by rw [ofI_len]; omega))⟩)
      exact ⟨h', r⟩
  · cases hs
end Go.Eng
namespace Go.Eng
open Go
set_option linter.unusedSimpArgs false
set_option linter.unusedVariables false
/-! the hash, as a kernel works it out quickly -/
def fc {α : Type} (n : Nat) (k : Nat → α) : α := match n with | 0 => k 0 | m + 1 => k (m + 1)
theorem fc_eq {α : Type} (n : Nat) (k : Nat → α) : fc n k = k n := by cases n <;> rfl
noncomputable def goF {α : Type} (ks : List Nat) : Nat → Nat → Nat → Nat → Nat → Nat → Nat → Nat → Nat → Nat → Nat → Nat → Nat → Nat → Nat → Nat → Nat → Nat → Nat → Nat → Nat → Nat → Nat → Nat → (Nat → Nat → Nat → Nat → Nat → Nat → Nat → Nat → α) → α :=
  List.rec (motive := fun _ => Nat → Nat → Nat → Nat → Nat → Nat → Nat → Nat → Nat → Nat → Nat → Nat → Nat → Nat → Nat → Nat → Nat → Nat → Nat → Nat → Nat → Nat → Nat → Nat → (Nat → Nat → Nat → Nat → Nat → Nat → Nat → Nat → α) → α) (fun w0 w1 w2 w3 w4 w5 w6 w7 w8 w9 w10 w11 w12 w13 w14 w15 a b c d e f g h K => K a b c d e f g h)
    (fun kk _ ih w0 w1 w2 w3 w4 w5 w6 w7 w8 w9 w10 w11 w12 w13 w14 w15 a b c d e f g h K =>
      fc (ad (ad (ad (ad h (trn e 6 11 25)) (xr (an e f) (an (nt e) g))) kk) w0) fun first =>
      fc (ad first (ad (trn a 2 13 22) (xr (xr (an a b) (an a c)) (an b c)))) fun a' =>
      fc (ad d first) fun e' =>
      fc (ad (ad (ad w0 (xr (xr (rl w1 25) (rl w1 14)) (sr w1 3))) w9) (xr (xr (rl w14 15) (rl w14 13)) (sr w14 10))) fun w16 =>
      ih w1 w2 w3 w4 w5 w6 w7 w8 w9 w10 w11 w12 w13 w14 w15 w16 a' a b c e' e f g K) ks
def w4F {α : Type} (m : List Nat) (d : α) (k : Nat → List Nat → α) : α := match m with
  | b0 :: b1 :: b2 :: b3 :: r => fc (orr (orr (orr (sl (b0 % 4294967296) 24) (sl (b1 % 4294967296) 16)) (sl (b2 % 4294967296) 8)) (b3 % 4294967296)) fun w => k w r
  | _ => d
noncomputable def mixF {α : Type} (a b c d e f g h : Nat) (m : List Nat) (D : α) (K : Nat → Nat → Nat → Nat → Nat → Nat → Nat → Nat → List Nat → α) : α :=
  w4F m D fun w0 m => w4F m D fun w1 m => w4F m D fun w2 m => w4F m D fun w3 m => w4F m D fun w4 m => w4F m D fun w5 m => w4F m D fun w6 m => w4F m D fun w7 m => w4F m D fun w8 m => w4F m D fun w9 m => w4F m D fun w10 m => w4F m D fun w11 m => w4F m D fun w12 m => w4F m D fun w13 m => w4F m D fun w14 m => w4F m D fun w15 m => goF cubes w0 w1 w2 w3 w4 w5 w6 w7 w8 w9 w10 w11 w12 w13 w14 w15 a b c d e f g h fun a' b' c' d' e' f' g' h' => fc (ad a a') fun a2 => fc (ad b b') fun b2 => fc (ad c c') fun c2 => fc (ad d d') fun d2 => fc (ad e e') fun e2 => fc (ad f f') fun f2 => fc (ad g g') fun g2 => fc (ad h h') fun h2 => K a2 b2 c2 d2 e2 f2 g2 h2 m
/-- the words, as many as are asked for -/
def wj (blk : List Nat) (j : Nat) : Nat := wnx blk (wsN blk j) j
theorem wsN_get (blk : List Nat) : ∀ (n j : Nat), j < n → (wsN blk n).getD j 0 = wj blk j := by
  intro n
  induction n with
  | zero => intro j h; omega
  | succ n ih =>
    intro j h
    unfold wsN
    by_cases hj : j < n
    · rw [List.getD_eq_getElem?_getD, List.getElem?_append_left (by rw [wsN_len]; exact hj), ← List.getD_eq_getElem?_getD, ih j hj]
    · obtain rfl : j = n := by omega
      rw [List.getD_eq_getElem?_getD, List.getElem?_append_right (by rw [wsN_len]; omega), wsN_len]; simp [wj]
theorem wj_next (blk : List Nat) (i : Nat) : wj blk (i + 16) = ad (ad (ad (wj blk i) (xr (xr (rl (wj blk (i + 1)) 25) (rl (wj blk (i + 1)) 14)) (sr (wj blk (i + 1)) 3))) (wj blk (i + 9)))
    (xr (xr (rl (wj blk (i + 14)) 15) (rl (wj blk (i + 14)) 13)) (sr (wj blk (i + 14)) 10)) := by
  conv => lhs; unfold wj wnx
  rw [if_neg (by omega), wsN_get _ _ _ (by omega), wsN_get _ _ _ (by omega), wsN_get _ _ _ (by omega), wsN_get _ _ _ (by omega)]
  rw [show i + 16 - 16 = i by omega, show i + 16 - 15 = i + 1 by omega, show i + 16 - 7 = i + 9 by omega, show i + 16 - 2 = i + 14 by omega]
theorem goF_cons {α : Type} (kk : Nat) (ks : List Nat) (w0 w1 w2 w3 w4 w5 w6 w7 w8 w9 w10 w11 w12 w13 w14 w15 a b c d e f g h : Nat) (K : Nat → Nat → Nat → Nat → Nat → Nat → Nat → Nat → α) : goF (kk :: ks) w0 w1 w2 w3 w4 w5 w6 w7 w8 w9 w10 w11 w12 w13 w14 w15 a b c d e f g h K =
      (fc (ad (ad (ad (ad h (trn e 6 11 25)) (xr (an e f) (an (nt e) g))) kk) w0) fun first =>
      fc (ad first (ad (trn a 2 13 22) (xr (xr (an a b) (an a c)) (an b c)))) fun a' =>
      fc (ad d first) fun e' =>
      fc (ad (ad (ad w0 (xr (xr (rl w1 25) (rl w1 14)) (sr w1 3))) w9) (xr (xr (rl w14 15) (rl w14 13)) (sr w14 10))) fun w16 =>
      goF ks w1 w2 w3 w4 w5 w6 w7 w8 w9 w10 w11 w12 w13 w14 w15 w16 a' a b c e' e f g K) := rfl
theorem upd8 (a b c d e f g h a' b' c' d' e' f' g' h' : Nat) : updN [a, b, c, d, e, f, g, h] [a', b', c', d', e', f', g', h'] 8 = [ad a a', ad b b', ad c c', ad d d', ad e e', ad f f', ad g g', ad h h'] := by simp [updN]
theorem goF_ok {α : Type} (blk : List Nat) (s : S8) : ∀ (k i : Nat), i + k = 64 → ∀ (K : Nat → Nat → Nat → Nat → Nat → Nat → Nat → Nat → α),
    goF (cubes.drop i) (wj blk i) (wj blk (i + 1)) (wj blk (i + 2)) (wj blk (i + 3)) (wj blk (i + 4)) (wj blk (i + 5)) (wj blk (i + 6)) (wj blk (i + 7)) (wj blk (i + 8)) (wj blk (i + 9)) (wj blk (i + 10)) (wj blk (i + 11)) (wj blk (i + 12)) (wj blk (i + 13)) (wj blk (i + 14)) (wj blk (i + 15)) (rnds (wsN blk 64) s i).a (rnds (wsN blk 64) s i).b (rnds (wsN blk 64) s i).c (rnds (wsN blk 64) s i).d (rnds (wsN blk 64) s i).e (rnds (wsN blk 64) s i).f (rnds (wsN blk 64) s i).g (rnds (wsN blk 64) s i).h K =
    K (rnds (wsN blk 64) s 64).a (rnds (wsN blk 64) s 64).b (rnds (wsN blk 64) s 64).c (rnds (wsN blk 64) s 64).d (rnds (wsN blk 64) s 64).e (rnds (wsN blk 64) s 64).f (rnds (wsN blk 64) s 64).g (rnds (wsN blk 64) s 64).h := by
  intro k
  induction k with
  | zero =>
    intro i hi K
    obtain rfl : i = 64 := by omega
    rfl
  | succ k ih =>
    intro i hi K
    have hd : cubes.drop i = cubes.getD i 0 :: cubes.drop (i + 1) := by
      have hl : i < cubes.length := by rw [show cubes.length = 64 from rfl]; omega
      rw [List.drop_eq_getElem_cons hl, List.getD_eq_getElem?_getD, List.getElem?_eq_getElem hl]; rfl
    have := ih (i + 1) (by omega) K
    rw [hd]
    have wg : (wsN blk 64).getD i 0 = wj blk i := wsN_get _ _ _ (by omega)
    have en : rnds (wsN blk 64) s (i + 1) = rnd (rnds (wsN blk 64) s i) (cubes.getD i 0) (wj blk i) := by rw [← wg]; rfl
    rw [← this, en]
    generalize rnds (wsN blk 64) s i = s'
    have wn := wj_next blk i
    rw [goF_cons]
    simp only [fc_eq, ← wn, rnd, Nat.add_assoc, Nat.reduceAdd]

theorem w4F_eq {α : Type} (b0 b1 b2 b3 : Nat) (r : List Nat) (d : α) (k : Nat → List Nat → α) : w4F (b0 :: b1 :: b2 :: b3 :: r) d k = k (orr (orr (orr (sl (b0 % 4294967296) 24) (sl (b1 % 4294967296) 16)) (sl (b2 % 4294967296) 8)) (b3 % 4294967296)) r := by
  unfold w4F; simp only [fc_eq]
theorem w4F_j {α : Type} (blk rest : List Nat) (hb : blk.length = 64) (j : Nat) (hj : j < 16) (d : α) (k : Nat → List Nat → α) : w4F (blk.drop (4 * j) ++ rest) d k = k (wj blk j) (blk.drop (4 * (j + 1)) ++ rest) := by
  have h0 : blk.drop (4 * j) = blk.getD (4 * j) 0 :: blk.getD (4 * j + 1) 0 :: blk.getD (4 * j + 2) 0 :: blk.getD (4 * j + 3) 0 :: blk.drop (4 * (j + 1)) := by
    have st : ∀ i, i < 64 → blk.drop i = blk.getD i 0 :: blk.drop (i + 1) := by
      intro i hi
      rw [List.drop_eq_getElem_cons (by omega), List.getD_eq_getElem?_getD, List.getElem?_eq_getElem (by omega)]; rfl
    rw [st _ (by omega), st _ (by omega), st _ (by omega), st _ (by omega)]
    rw [show 4 * j + 1 + 1 + 1 + 1 = 4 * (j + 1) by omega, show 4 * j + 1 + 1 + 1 = 4 * j + 3 by omega, show 4 * j + 1 + 1 = 4 * j + 2 by omega]
  rw [h0]
  simp only [List.cons_append]
  rw [w4F_eq]
  congr 1
  unfold wj wnx
  rw [if_pos hj]
theorem list8 (l : List Nat) (h : l.length = 8) : ∃ a b c d e f g i, l = [a, b, c, d, e, f, g, i] := by
  match l, h with
  | [a, b, c, d, e, f, g, i], _ => exact ⟨_, _, _, _, _, _, _, _, rfl⟩
theorem mixF_ok {α : Type} (st blk rest : List Nat) (h1 : st.length = 8) (hb : blk.length = 64) (D : α) (K : Nat → Nat → Nat → Nat → Nat → Nat → Nat → Nat → List Nat → α) :
    mixF (st.getD 0 0) (st.getD 1 0) (st.getD 2 0) (st.getD 3 0) (st.getD 4 0) (st.getD 5 0) (st.getD 6 0) (st.getD 7 0) (blk ++ rest) D K =
    K ((mixV st blk).getD 0 0) ((mixV st blk).getD 1 0) ((mixV st blk).getD 2 0) ((mixV st blk).getD 3 0) ((mixV st blk).getD 4 0) ((mixV st blk).getD 5 0) ((mixV st blk).getD 6 0) ((mixV st blk).getD 7 0) rest := by
  have W := fun j hj (k : Nat → List Nat → α) => w4F_j blk rest hb j hj D k
  have e0 : blk ++ rest = blk.drop (4 * 0) ++ rest := rfl
  unfold mixF
  rw [e0, W 0 (by omega), W 1 (by omega), W 2 (by omega), W 3 (by omega), W 4 (by omega), W 5 (by omega), W 6 (by omega), W 7 (by omega), W 8 (by omega), W 9 (by omega), W 10 (by omega), W 11 (by omega), W 12 (by omega), W 13 (by omega), W 14 (by omega), W 15 (by omega)]
  have G := fun K => goF_ok (α := α) blk (s8of st) 64 0 rfl K
  simp only [Nat.zero_add, List.drop_zero] at G
  have G2 := fun K => G K
  have e1 : rnds (wsN blk 64) (s8of st) 0 = s8of st := rfl
  rw [e1] at G
  have e2 : blk.drop (4 * (15 + 1)) ++ rest = rest := by rw [List.drop_eq_nil_of_le (by omega), List.nil_append]
  rw [e2]
  refine (G _).trans ?_
  have em : mixV st blk = updN st (s8l (rnds (wsN blk 64) (s8of st) 64)) 8 := rfl
  generalize rnds (wsN blk 64) (s8of st) 64 = s at *
  obtain ⟨a', b', c', d', e', f', g', h'⟩ := s
  rw [em]
  clear em G G2 W e1 e2 e0
  obtain ⟨a, b, c, d, e, f, g, h, rfl⟩ := list8 st h1
  simp only [fc_eq, s8l, upd8]
  rfl
/-- the blocks of a message that is whole -/
noncomputable def blksF {α : Type} (n : Nat) : Nat → Nat → Nat → Nat → Nat → Nat → Nat → Nat → List Nat → α → (Nat → Nat → Nat → Nat → Nat → Nat → Nat → Nat → α) → α :=
  Nat.rec (motive := fun _ => Nat → Nat → Nat → Nat → Nat → Nat → Nat → Nat → List Nat → α → (Nat → Nat → Nat → Nat → Nat → Nat → Nat → Nat → α) → α) (fun a b c d e f g h _ _ K => K a b c d e f g h)
    (fun _ ih a b c d e f g h m D K => mixF a b c d e f g h m D fun a b c d e f g h m => ih a b c d e f g h m D K) n
def fold64 (st : List Nat) : Nat → List Nat → List Nat
  | 0, _ => st
  | n + 1, m => fold64 (mixV st (m.take 64)) n (m.drop 64)
theorem blksF_ok {α : Type} : ∀ (n : Nat) (st m : List Nat), st.length = 8 → m.length = 64 * n → ∀ (D : α) (K : Nat → Nat → Nat → Nat → Nat → Nat → Nat → Nat → α),
    blksF n (st.getD 0 0) (st.getD 1 0) (st.getD 2 0) (st.getD 3 0) (st.getD 4 0) (st.getD 5 0) (st.getD 6 0) (st.getD 7 0) m D K =
    K ((fold64 st n m).getD 0 0) ((fold64 st n m).getD 1 0) ((fold64 st n m).getD 2 0) ((fold64 st n m).getD 3 0) ((fold64 st n m).getD 4 0) ((fold64 st n m).getD 5 0) ((fold64 st n m).getD 6 0) ((fold64 st n m).getD 7 0) := by
  intro n
  induction n with
  | zero => intro st m h1 h2 D K; rfl
  | succ n ih =>
    intro st m h1 h2 D K
    have M := fun K => mixF_ok (α := α) st (m.take 64) (m.drop 64) h1 (by rw [List.length_take]; omega) D K
    rw [List.take_append_drop] at M
    refine (M _).trans ?_
    exact ih (mixV st (m.take 64)) (m.drop 64) (by rw [mixV_len]; exact h1) (by rw [List.length_drop]; omega) D K
theorem fold64_len (st : List Nat) : ∀ n m, st.length = 8 → (fold64 st n m).length = 8 := by
  intro n
  induction n generalizing st with
  | zero => intro m h; exact h
  | succ n ih => intro m h; exact ih _ _ (by rw [mixV_len]; exact h)
theorem absorb_fold : ∀ (n : Nat) (s : Sm) (m : List Nat), SmOk s → s.len % 64 = 0 → m.length = 64 * n → (absorb s m).st = fold64 s.st n m := by
  intro n
  induction n with
  | zero => intro s m ok h hm; obtain rfl : m = [] := List.length_eq_zero_iff.1 (by omega); rfl
  | succ n ih =>
    intro s m ok h hm
    have ht : (m.take 64).length = 64 := by rw [List.length_take]; omega
    have e1 : absorb s m = absorb (absorb s (m.take 64)) (m.drop 64) := by rw [← absorb_app, List.take_append_drop]
    have c := absorb_chunk s (m.take 64) ok.2.1 (by omega) (by intro h; rw [h] at ht; simp at ht)
    have ok2 := absorb_ok (m.take 64) s ok
    rw [h, ht] at c
    rw [if_pos (by omega)] at c
    simp only [List.take_zero, List.nil_append, Nat.zero_add] at c
    rw [List.drop_eq_nil_of_le (by have := ok.2.1; omega), List.append_nil] at c
    rw [e1, ih _ _ ok2 (by rw [c]; simp only; omega) (by rw [List.length_drop]; omega), c]
    rfl
def be8 (v : Nat) : List Nat := [v / 2 ^ 56 % 256, v / 2 ^ 48 % 256, v / 2 ^ 40 % 256, v / 2 ^ 32 % 256, v / 2 ^ 24 % 256, v / 2 ^ 16 % 256, v / 2 ^ 8 % 256, v / 2 ^ 0 % 256]
theorem padV_eq (len : Nat) : padV len = 128 :: (List.replicate (padSz len - 9) 0 ++ be8 (len * 8 % 18446744073709551616)) := by
  have hb := padSz_b len
  obtain ⟨m, hm⟩ : ∃ m, padSz len = m + 9 := ⟨padSz len - 9, by omega⟩
  have h0 : padN len 0 = 128 :: (List.replicate m 0 ++ [0, 0, 0, 0, 0, 0, 0, 0]) := by
    unfold padN; rw [hm, show m + 9 - 1 = m + 8 by omega, ← List.replicate_append_replicate]; rfl
  have st : ∀ (i : Nat) (l : List Nat) (v : Nat), i < 8 → l.length = 8 → (128 :: (List.replicate m 0 ++ l)).set (padSz len - 1 - i) v = 128 :: (List.replicate m 0 ++ l.set (7 - i) v) := by
    intro i l v hi hl
    rw [hm, show m + 9 - 1 - i = (m + (7 - i)) + 1 by omega, List.set_cons_succ, List.set_append_right _ _ (by simp), List.length_replicate, Nat.add_sub_cancel_left]
  unfold padV
  simp only [padN] at h0 ⊢
  rw [h0, st 0 _ _ (by omega) rfl, st 1 _ _ (by omega) rfl, st 2 _ _ (by omega) rfl, st 3 _ _ (by omega) rfl, st 4 _ _ (by omega) rfl, st 5 _ _ (by omega) rfl, st 6 _ _ (by omega) rfl, st 7 _ _ (by omega) rfl, hm, Nat.add_sub_cancel]
  rfl
end Go.Eng
namespace Go.Eng
open Go
set_option linter.unusedSimpArgs false
set_option linter.unusedVariables false
def b4K {α : Type} (w : Nat) (k : Nat → Nat → Nat → Nat → α) : α := fc (sr w 24 % 256) fun a => fc (sr w 16 % 256) fun b => fc (sr w 8 % 256) fun c => fc (w % 256) fun d => k a b c d
def padL (n : Nat) : List Nat := 128 :: (List.replicate (padSz n - 9) 0 ++ be8 (n * 8 % 18446744073709551616))
noncomputable def shaK {α : Type} (l : List Nat) (D : α) (K : List Nat → α) : α :=
  fc l.length fun n => fc ((n + padSz n) / 64) fun m => blksF m 1779033703 3144134277 1013904242 2773480762 1359893119 2600822924 528734635 1541459225 (l ++ padL n) D fun a b c d e f g h =>
    b4K a fun a0 a1 a2 a3 => b4K b fun b0 b1 b2 b3 => b4K c fun c0 c1 c2 c3 => b4K d fun d0 d1 d2 d3 => b4K e fun e0 e1 e2 e3 => b4K f fun f0 f1 f2 f3 => b4K g fun g0 g1 g2 g3 => b4K h fun h0 h1 h2 h3 => K [a0, a1, a2, a3, b0, b1, b2, b3, c0, c1, c2, c3, d0, d1, d2, d3, e0, e1, e2, e3, f0, f1, f2, f3, g0, g1, g2, g3, h0, h1, h2, h3]
theorem fm_len (l : List Nat) : (l.flatMap be4).length = 4 * l.length := by
  induction l with
  | nil => rfl
  | cons a r ih => rw [List.flatMap_cons, List.length_append, ih, List.length_cons]; simp only [be4, List.length_cons, List.length_nil]; omega
theorem outN_eq (st : List Nat) (h : st.length = 8) : ∀ i, i ≤ 8 → outN st i = (st.take i).flatMap be4 ++ List.replicate (32 - 4 * i) 0 := by
  intro i
  induction i with
  | zero => intro _; rfl
  | succ i ih =>
    intro hi
    have hl : ((st.take i).flatMap be4).length = 4 * i := by rw [fm_len, List.length_take]; omega
    have hs : st.take (i + 1) = st.take i ++ [st.getD i 0] := by
      rw [List.take_add_one, List.getD_eq_getElem?_getD]
      rw [List.getElem?_eq_getElem (by omega)]; rfl
    unfold outN
    rw [ih (by omega), List.take_left' hl, List.drop_append, hl, List.drop_eq_nil_of_le (by omega), List.nil_append, List.drop_replicate, hs, List.flatMap_append]
    simp only [List.flatMap_cons, List.flatMap_nil, List.append_nil]
    congr 2; omega
theorem hashV_eq (st : List Nat) (h : st.length = 8) : hashV st = st.flatMap be4 := by
  unfold hashV
  rw [outN_eq st h 8 (by omega), List.take_of_length_le (by omega)]; simp
theorem padSz_mod (n : Nat) : (n + padSz n) % 64 = 0 := by unfold padSz; split <;> omega
theorem shaV_fold (l : List Nat) (hl : l.length < 2305843009213693952) : shaV l = hashV (fold64 squaresL ((l.length + padSz l.length) / 64) (l ++ padL l.length)) := by
  unfold shaV endV
  have ln : ∀ (l : List Nat) (s : Sm), SmOk s → s.len + l.length < 18446744073709551616 → (absorb s l).len = s.len + l.length := by
    intro l
    induction l with
    | nil => intro s _ _; rfl
    | cons b r ih =>
      intro s ok h
      simp only [List.length_cons] at h
      have := ih (eat1 s b) (eat1_ok s b ok) (by simp only [eat1]; omega)
      show (absorb (eat1 s b) r).len = _
      rw [this]; simp only [eat1, List.length_cons]; omega
  have e1 : (absorb initS l).len = l.length := by rw [ln l initS initS_ok (by simp only [initS]; omega)]; simp [initS]
  rw [e1, padV_eq, show (128 :: (List.replicate (padSz l.length - 9) 0 ++ be8 (l.length * 8 % 18446744073709551616))) = padL l.length from rfl, ← absorb_app]
  have hm := padSz_mod l.length
  have hb := padSz_b l.length
  rw [absorb_fold ((l.length + padSz l.length) / 64) initS (l ++ padL l.length) initS_ok rfl (by simp only [padL, be8, List.length_append, List.length_cons, List.length_replicate, List.length_nil]; omega)]
  rfl
theorem shaK_eq {α : Type} (l : List Nat) (hl : l.length < 2305843009213693952) (D : α) (K : List Nat → α) : shaK l D K = K (shaV l) := by
  have hm := padSz_mod l.length
  have hb := padSz_b l.length
  unfold shaK
  simp only [fc_eq]
  have B := fun K => blksF_ok (α := α) ((l.length + padSz l.length) / 64) squaresL (l ++ padL l.length) rfl (by simp only [padL, be8, List.length_append, List.length_cons, List.length_replicate, List.length_nil]; omega) D K
  refine (B _).trans ?_
  rw [shaV_fold l hl]
  have h8 := fold64_len squaresL ((l.length + padSz l.length) / 64) (l ++ padL l.length) rfl
  obtain ⟨a, b, c, d, e, f, g, h, e8⟩ := list8 _ h8
  rw [e8]
  rw [hashV_eq _ rfl]
  simp only [b4K, fc_eq]
  rfl
noncomputable def ofF (l : List Nat) : Option V := match decide (l.length ≤ 100000) with
  | true => shaK l none fun bs => some (.agg (ofI .u8 bs))
  | false => none
theorem ofF_eq : ofF = ofS := by
  funext l
  unfold ofF ofS
  by_cases h : l.length ≤ 100000
  · rw [decide_eq_true h]; simp only [if_true]; rw [shaK_eq l (by omega)]
  · rw [decide_eq_false h]; simp
example : shaK [97, 98, 99] [] (fun l => l) = [186, 120, 22, 191, 143, 1, 207, 234, 65, 65, 64, 222, 93, 174, 34, 35, 176, 3, 97, 163, 150, 23, 122, 156, 180, 16, 255, 97, 242, 0, 21, 173] := by kernel_rfl
end Go.Eng
