/- What functions of the program come to: own work. -/
import Derived.Test.YtcgfhdhjanmgaaaMwE
namespace Go.Eng
open Go
variable {E : Nat → Option Fn} {X : Orc}
set_option linter.unusedSimpArgs false
set_option linter.unusedVariables false
theorem prs_odd : ∀ (n : Nat) (l : List (List Nat)) (x : List Nat), l.length = 2 * n + 1 → l[2 * n]? = some x → prs (l ++ [x]) = prs l := by
  intro n
  induction n with
  | zero =>
    intro l x h hx
    obtain ⟨y, rfl⟩ := List.length_eq_one_iff.1 h
    simp at hx; subst hx; rfl
  | succ n ih =>
    intro l x h hx
    match l with
    | [] => simp at h
    | [a] => simp at h
    | a :: b :: r =>
      simp only [List.length_cons] at h
      have hx' : r[2 * n]? = some x := by rw [show 2 * (n + 1) = 2 * n + 1 + 1 by omega] at hx; exact hx
      show (a ++ b) :: prs (r ++ [x]) = (a ++ b) :: prs r
      rw [ih r x (by omega) hx']
theorem anyEq_at (P : List (List Nat)) (m i : Nat) (hi : i < m) (p : List Nat) (hp : P[i]? = some p) (he : p.take 32 = p.drop 32) : anyEq (P.take m) = true := by
  unfold anyEq
  rw [List.any_eq_true]
  refine ⟨p, ?_, decide_eq_true he⟩
  have : (P.take m)[i]? = some p := by rw [List.getElem?_take_of_lt hi, hp]
  exact List.mem_of_getElem? this
theorem sw_first (l : List (List Nat)) (hl : 1 < l.length) (a : List Nat) (ha : a.length = 32) (h0 : l[0]? = some a) (h1 : l[1]? = some a) : swL l = true := by
  have := prs_get 0 l a h0
  rw [Nat.mul_zero, Nat.zero_add, h1] at this
  rw [swL_up l hl, anyEq_at (prs l) (l.length / 2) 0 (by omega) _ this (by rw [show (some a).getD a = a from rfl, List.take_left' ha, List.drop_left' ha]), Bool.true_or]
theorem rt_more (l : List (List Nat)) (n : Nat) (hn : l.length = 2 * n + 1) (h0 : 0 < n) (x : List Nat) (hx : l[2 * n]? = some x) : rtL (l ++ [x]) = rtL l := by
  rw [rtL_up (l ++ [x]) (by rw [List.length_append]; omega), rtL_up l (by omega)]
  unfold up
  rw [prs_odd n l x hn hx]
theorem sw_more (l : List (List Nat)) (n : Nat) (hn : l.length = 2 * n + 1) (h0 : 0 < n) (x : List Nat) (h32 : x.length = 32) (hx : l[2 * n]? = some x) : swL (l ++ [x]) = true := by
  have e1 : (l ++ [x])[2 * n]? = some x := by rw [List.getElem?_append_left (by omega), hx]
  have e2 : (l ++ [x])[2 * n + 1]? = some x := by rw [List.getElem?_append_right (by omega), hn]; simp
  have := prs_get n _ x e1
  rw [e2] at this
  have ll : (l ++ [x]).length = 2 * n + 2 := by rw [List.length_append, hn]; rfl
  rw [swL_up _ (by omega), anyEq_at _ _ n (by omega) _ this (by rw [show (some x).getD x = x from rfl, List.take_left' h32, List.drop_left' h32]), Bool.true_or]
theorem RowB.flat {k : Nat} : ∀ (L : List (List Nat)) (vs : List V), RowB k vs L → vs.take (L.length * k) = ofI .u8 L.flatten := by
  intro L
  induction L with
  | nil => intro vs _; rw [List.length_nil, Nat.zero_mul]; rfl
  | cons x L ih =>
    intro vs r
    obtain ⟨h1, h2⟩ := r.2 0 x rfl
    rw [Nat.zero_mul, List.drop_zero] at h1
    have rd : RowB k (vs.drop k) L := by
      have := RowB.dropL (off := 0) (by rw [List.drop_zero]; exact r) 1 (by simp)
      rw [Nat.zero_add, Nat.one_mul] at this
      exact this
    rw [List.length_cons, Nat.succ_mul, Nat.add_comm, List.take_add, h1, ih _ rd, List.flatten_cons, ofI_app]
theorem flatRow {k : Nat} : ∀ (L : List (List Nat)), (∀ o ∈ L, o.length = k) → RowB k (ofI .u8 L.flatten) L := by
  intro L
  induction L with
  | nil => intro _; exact RowB.nil _ _
  | cons x L ih =>
    intro h
    rw [List.flatten_cons, ofI_app]
    exact (ih (fun o ho => h o (List.mem_cons_of_mem _ ho))).cons (h x List.mem_cons_self)
theorem and1 (n : Nat) (hn : n < 4611686018427387904) (e : EqK) (h : H) : binV .and e h (.int .i64 (n : Int)) (.int .i64 1) = some (.int .i64 ((n % 2 : Nat) : Int)) := by
  have e1 : binV .and e h (.int .i64 (n : Int)) (.int .i64 1) = some (.int .i64 (asK .i64 (Nat.land (n % 18446744073709551616) 1))) := rfl
  have e2 : Nat.land (n % 18446744073709551616) 1 = n % 2 := by
    rw [Nat.mod_eq_of_lt (by omega)]
    exact Nat.and_one_is_mod n
  rw [e1, e2]; unfold asK; rw [cond_blt, if_pos (by simp only [half]; omega)]; rfl
theorem src_n (h : H) {sz q off n : Nat} {vs : List V} {md : Md} (g : h.get q = some (.cells vs md)) (hl : off + n * sz ≤ vs.length) (hn : 0 < n) (c : Option Nat) : srcCells h sz (.slice (some (q, off)) n c sz) = some (n, (vs.drop off).take (n * sz)) := by
  obtain ⟨n, rfl⟩ : ∃ m, n = m + 1 := ⟨n - 1, by omega⟩
  rw [m_src, g]
  show (match readN vs off ((n + 1) * sz) with | some l => some (n + 1, l) | none => none) = _
  rw [readN_of _ _ _ hl]
theorem app_new (h : H) (i n : Nat) (l : List Nat) (hn : 0 < n) (hn2 : n ≤ 100000) (g : h.get i = some (.cells [] .rw)) : appendC h 32 32 (.slice (some (i, 0)) 0 (some 0) 32) (some (n, ofI .u8 l)) = some (.slice (some (h.next, 0)) n none 32, h.new (.cells (ofI .u8 l) .rw)) := by
  obtain ⟨n, rfl⟩ : ∃ m, n = m + 1 := ⟨n - 1, by omega⟩
  unfold appendC
  simp only
  have r : (roomy (0 + (n + 1)) 32 && (Nat.beq 32 32 || (some (i, 0) : Option (Nat × Nat)).isNone) && (ofI .u8 l).all plainV) = true := by
    rw [plain_ofI]; have : roomy (0 + (n + 1)) 32 = true := by simp [roomy]; omega
    rw [this]; rfl
  have f : fullC (some 0) (0 + (n + 1)) = true := by
    show Nat.blt 0 (0 + (n + 1)) = true
    simp
  rw [r]
  simp only [_root_.cond_true, g, f]
  have rd : readN ([] : List V) 0 (0 * 32) = some [] := rfl
  simp only [rd, List.nil_append, Nat.zero_add]
end Go.Eng
namespace Go.Eng
open Go
variable {E : Nat → Option Fn} {X : Orc}
set_option linter.unusedSimpArgs false
set_option linter.unusedVariables false
theorem noSw_st : NoSw (stX k_purserlaw08_alive) := by repeat' (first | exact fun _ _ => rfl | exact fun _ _ _ => rfl | exact fun _ => rfl | constructor)
theorem law_MerkleSwells (e : EnRt E) (es : EnSw E) (el : E k_purserlaw08_MerkleSwells = some f_purserlaw08_MerkleSwells) (M : Nat) (hM : 1000 < M) (l : List (List Nat)) (ok : ∀ o ∈ l, o.length = 32 ∧ byt o = true) (hl : l.length < 4611686018427387904) (a : Option (Nat × Nat)) (h : H) (S : HsR 32 h a 32 l) :
    ∃ h2, callX E (stX k_purserlaw08_alive) (M + 20) (.fn k_purserlaw08_MerkleSwells) [.slice a l.length none 32] h = some (.bool true, h2) := by
  rw [x_cfn el _ _ (Nat.le_of_ble_eq_true rfl) rfl]
  have al : ∀ h, callX E (stX k_purserlaw08_alive) (M + 19) (.fn k_purserlaw08_alive) [] h = some (.bool true, h) := fun h => x_known rfl
  have hx := hasTw_st (E := E) k_purserlaw08_alive
  obtain ⟨len, elen⟩ : ∃ n, l.length = n := ⟨_, rfl⟩
  rw [elen] at hl ⊢
  have nt : (!true) = false := rfl
  by_cases s1 : len < 2
  · have d1 : decide ((len : Int) < 2) = true := decide_eq_true (by omega)
    exact ⟨h, by
      simp (config := {maxSteps := 2000000}) (disch := first | omega | (simp only [List.length_cons, List.length_nil, List.length_append, List.length_drop]; omega)) only [al, d1, ↓s_len, x_lenS, ↓b_xor32, ↓b_and32, ↓b_or32, ↓u_not32, b_xor32, b_and32, b_or32, u_not32, w32ad, ↓x_conv, x_convV, ↓x_fieldAddr, x_fieldV, ↓s_nilchk, x_nilchk, Nat.zero_add, Nat.add_zero, Nat.mul_one, ↓l_loop, ↓l_succ, ↓l_normal, l_normal, l_exit, l_ret, l_iteN, ↓h_put_get, ↓h_new_get, ↓h_del_get, h_next_put, h_next_new, h_next_del, Nat.add_assoc, Nat.add_eq_left, Nat.left_eq_add, Nat.add_left_cancel_iff, ↓s_load, m_load, ↓m_load1, m_load1, ↓m_st, m_stE, m_storeI, m_storeE, w_zero, w_succ, ↓s_alloc, ↓x_idxA, ↓x_idxS, x_idxAE, x_idxSE, x_addrE, x_idx, x_lenS, ↓s_len, ↓x_buildS, x_buildE, ↓x_P0, ↓x_P1, x_fill0, x_filli, x_fills, x_fillb, c_int, List.length_cons, List.length_nil, List.cons_append, List.drop_succ_cons, List.drop_zero, List.drop_nil, List.nil_append, Int.reduceAdd, Int.reduceToNat, Int.reduceLT, Int.reduceLE, Nat.reduceAdd, Nat.reduceMul, Nat.reduceLeDiff, Int.reduceEq, Int.reduceSub, Int.cast_ofNat_Int, s_resc, s_consR, m_load4, m_store4, s_res0, ↓s_skip, ↓s_ops, ↓s_dops, ↓s_seq, ↓s_cond, ↓s_block, ↓s_exit, ↓s_ret, ↓s_scope, ↓s_nil, ↓s_op, ↓s_opg, ↓s_wanted', ↓s_wantV, s_wantV, s_wantV0, beq_true, beq_false, ↓s_bindS, s_bindS, ↓s_bindE, s_bindE, s_bindE_ret, s_bindE_exit, s_bindE_iteN, s_norm, ↓s_condV, s_condV, s_block_ret, s_block_normal, s_block_exit, s_block_iteN, ↓s_getp, ↓s_getp0, ↓s_get, s_get0, ↓s_con, ↓s_fn, ↓s_os0, ↓s_os1, ↓s_list0, ↓s_list1, ↓s_mov, ↓s_pick, ↓s_pickE, s_pickE, ↓s_bin, ↓s_un, ↓s_minmax, ↓s_call, ↓s_callv, ↓s_callV, ↓s_ext, s_same, b_eql, b_neq, b_lss, b_leq, b_gtr, b_geq, b_add, b_sub, b_mul, b_eqlb, b_neqb, b_fnil, b_fnil', b_fnil2, b_fnil2', u_neg, u_not, m_two, s_end, s_end', s_end_iteN, s_res0, s_res1, s_tup1, s_tup2, ↓iteN_true, ↓iteN_false, iteN_true, iteN_false, Nat.zero_add, List.nil_append, List.append_nil, Nat.reduceEqDiff, reduceIte, decide_true, decide_false, Bool.not_true, Bool.not_false, List.getElem?_cons_zero, List.getElem?_cons_succ, Bool.false_eq_true, if_true, if_false, beq_self_eq_true]⟩
  have d1 : decide ((len : Int) < 2) = false := decide_eq_false (by omega)
  by_cases s2 : 40 < len
  · have d2 : decide ((40 : Int) < (len : Int)) = true := decide_eq_true (by omega)
    exact ⟨h, by
      simp (config := {maxSteps := 2000000}) (disch := first | omega | (simp only [List.length_cons, List.length_nil, List.length_append, List.length_drop]; omega)) only [al, d1, d2, ↓s_len, x_lenS, ↓b_xor32, ↓b_and32, ↓b_or32, ↓u_not32, b_xor32, b_and32, b_or32, u_not32, w32ad, ↓x_conv, x_convV, ↓x_fieldAddr, x_fieldV, ↓s_nilchk, x_nilchk, Nat.zero_add, Nat.add_zero, Nat.mul_one, ↓l_loop, ↓l_succ, ↓l_normal, l_normal, l_exit, l_ret, l_iteN, ↓h_put_get, ↓h_new_get, ↓h_del_get, h_next_put, h_next_new, h_next_del, Nat.add_assoc, Nat.add_eq_left, Nat.left_eq_add, Nat.add_left_cancel_iff, ↓s_load, m_load, ↓m_load1, m_load1, ↓m_st, m_stE, m_storeI, m_storeE, w_zero, w_succ, ↓s_alloc, ↓x_idxA, ↓x_idxS, x_idxAE, x_idxSE, x_addrE, x_idx, x_lenS, ↓s_len, ↓x_buildS, x_buildE, ↓x_P0, ↓x_P1, x_fill0, x_filli, x_fills, x_fillb, c_int, List.length_cons, List.length_nil, List.cons_append, List.drop_succ_cons, List.drop_zero, List.drop_nil, List.nil_append, Int.reduceAdd, Int.reduceToNat, Int.reduceLT, Int.reduceLE, Nat.reduceAdd, Nat.reduceMul, Nat.reduceLeDiff, Int.reduceEq, Int.reduceSub, Int.cast_ofNat_Int, s_resc, s_consR, m_load4, m_store4, s_res0, ↓s_skip, ↓s_ops, ↓s_dops, ↓s_seq, ↓s_cond, ↓s_block, ↓s_exit, ↓s_ret, ↓s_scope, ↓s_nil, ↓s_op, ↓s_opg, ↓s_wanted', ↓s_wantV, s_wantV, s_wantV0, beq_true, beq_false, ↓s_bindS, s_bindS, ↓s_bindE, s_bindE, s_bindE_ret, s_bindE_exit, s_bindE_iteN, s_norm, ↓s_condV, s_condV, s_block_ret, s_block_normal, s_block_exit, s_block_iteN, ↓s_getp, ↓s_getp0, ↓s_get, s_get0, ↓s_con, ↓s_fn, ↓s_os0, ↓s_os1, ↓s_list0, ↓s_list1, ↓s_mov, ↓s_pick, ↓s_pickE, s_pickE, ↓s_bin, ↓s_un, ↓s_minmax, ↓s_call, ↓s_callv, ↓s_callV, ↓s_ext, s_same, b_eql, b_neq, b_lss, b_leq, b_gtr, b_geq, b_add, b_sub, b_mul, b_eqlb, b_neqb, b_fnil, b_fnil', b_fnil2, b_fnil2', u_neg, u_not, m_two, s_end, s_end', s_end_iteN, s_res0, s_res1, s_tup1, s_tup2, ↓iteN_true, ↓iteN_false, iteN_true, iteN_false, Nat.zero_add, List.nil_append, List.append_nil, Nat.reduceEqDiff, reduceIte, decide_true, decide_false, Bool.not_true, Bool.not_false, List.getElem?_cons_zero, List.getElem?_cons_succ, Bool.false_eq_true, if_true, if_false, beq_self_eq_true]⟩
  have d2 : decide ((40 : Int) < (len : Int)) = false := decide_eq_false (by omega)
  rcases S with S | ⟨q, off, vs, md, rfl, _, hq, gq, rb⟩
  · rw [S, List.length_nil] at elen; omega
  have L0 : l[0]? = some l[0] := List.getElem?_eq_getElem (by omega)
  have L1 : l[1]? = some l[1] := List.getElem?_eq_getElem (by omega)
  obtain ⟨A, eA⟩ : ∃ A, l[0] = A := ⟨_, rfl⟩
  obtain ⟨B, eB⟩ : ∃ B, l[1] = B := ⟨_, rfl⟩
  rw [eA] at L0
  rw [eB] at L1
  have hA := (rb.2 _ _ L0).2
  have hB := (rb.2 _ _ L1).2
  have lA := rowB_ld rb L0 (by decide) md
  have lB := rowB_ld rb L1 (by decide) md
  rw [Nat.zero_mul, Nat.add_zero] at lA
  rw [Nat.one_mul] at lB
  obtain ⟨h1, r1, k1⟩ := rootH e hx (M + 8) (by omega) l (by omega) (by omega) h q off len elen vs md hq gq rb
  replace r1 : callX E (stX k_purserlaw08_alive) (M + 19) (.fn k_merkle_Root) _ h = _ := r1
  obtain ⟨g1, c1⟩ := cel h1 (rtL l)
  have K1 := k1.trans c1.kp
  have x1 := c1.nx
  have lr := rtL_len len l (by omega) (by omega) (fun o ho => (ok o ho).1)
  have gq1 : g1.get q = some (.cells vs md) := by rw [K1.2 _ hq, gq]
  have eq1 := fun h => eq32 h A B hA hB
  have i0 : idx (0 : Int) len = some 0 := idxn (i := 0) (by omega)
  have i1 : idx (1 : Int) len = some 1 := idxn (i := 1) (by omega)
  have z0 : decide ((0 : Int) = 0) = true := rfl
  have an := and1 len (by omega)
  obtain ⟨Z, eZ⟩ : ∃ Z, ofI .u8 (List.replicate 32 0) = Z := ⟨_, rfl⟩
  have pu : ∀ h i, storeE (some (.cells Z .rw)) h i 0 (ofI .u8 (rtL l)) = some (h.put i (.cells (ofI .u8 (rtL l)) .rw)) := fun h i => by
    rw [m_storeE _ _ _ _ _ (by rw [← eZ, ofI_len, ofI_len, lr, List.length_replicate]; omega), ← eZ, wrAll _ _ _ (by rw [List.length_replicate, lr])]
  have st : ∀ h i, storeV h 32 (.ptr (some (i, 0))) (.agg (ofI .u8 (rtL l))) = storeE (h.get i) h i 0 (ofI .u8 (rtL l)) := fun h i => st32 h i 0 _ lr
  have ld : ∀ m, loadE (some (.cells (ofI .u8 (rtL l)) m)) (some 32) 0 = some (.agg (ofI .u8 (rtL l))) := fun m => by rw [m_loadN, x_readAll _ 32 (by rw [ofI_len, lr])]
  have al32 : ∀ (Q : Orc) (T : Tr V) (h : H), Eng.step (.alloc [.int .u8 0, .int .u8 0, .int .u8 0, .int .u8 0, .int .u8 0, .int .u8 0, .int .u8 0, .int .u8 0, .int .u8 0, .int .u8 0, .int .u8 0, .int .u8 0, .int .u8 0, .int .u8 0, .int .u8 0, .int .u8 0, .int .u8 0, .int .u8 0, .int .u8 0, .int .u8 0, .int .u8 0, .int .u8 0, .int .u8 0, .int .u8 0, .int .u8 0, .int .u8 0, .int .u8 0, .int .u8 0, .int .u8 0, .int .u8 0, .int .u8 0, .int .u8 0]) Q T h = some (.ptr (some (h.next, 0)), h.new (.cells Z .rw)) := fun Q T h => by rw [← eZ]; rfl
  have q1 := c1.eq
  rw [eZ] at q1
  have swl : A = B → ∃ g, callX E (stX k_purserlaw08_alive) (M + 19) (.fn k_merkle_Swollen) [.slice (some (q, off)) len none 32] g1 = some (.bool true, g) ∧ Kp g1 g := by
    intro hAB
    obtain ⟨g, r, k⟩ := swollen_go es noSw_st hx (M + 8) (by omega) l (by omega) (by omega) g1 q off none vs md (fun _ h => by cases h) (by have := K1.1; omega) gq1 rb
    rw [elen, sw_first l (by omega) A hA L0 (by rw [L1, hAB])] at r
    exact ⟨g, r, k⟩
  by_cases ev : len % 2 = 0
  · have d3 : decide (((len % 2 : Nat) : Int) = 0) = true := decide_eq_true (by omega)
    generalize ofI .u8 (rtL l) = R1 at *
    by_cases hAB : A = B
    · obtain ⟨g, r2, k2⟩ := swl hAB
      have dd : decide (A = B) = true := decide_eq_true hAB
      rw [dd] at eq1
      have bq := aggI_beq .u8 A
      have bq' := aggI_beq .u8 B
      have gqg : g.get q = some (.cells vs md) := by rw [k2.2 _ (by have := K1.1; omega), gq1]
      generalize ofI .u8 A = CA at *
      generalize ofI .u8 B = CB at *
      exact ⟨g, by
        simp (config := {maxSteps := 2000000}) (disch := first | omega | (simp only [List.length_cons, List.length_nil, List.length_append, List.length_drop]; omega)) only [al, d1, d2, d3, r1, ↓al32, st, pu, q1, z0, i0, i1, gq1, gqg, bq, bq', lA, lB, eq1, r2, an, nt, ↓s_len, x_lenS, ↓b_xor32, ↓b_and32, ↓b_or32, ↓u_not32, b_xor32, b_and32, b_or32, u_not32, w32ad, ↓x_conv, x_convV, ↓x_fieldAddr, x_fieldV, ↓s_nilchk, x_nilchk, Nat.zero_add, Nat.add_zero, Nat.mul_one, ↓s_evD, ↓s_dnil, ↓s_dL, ↓s_dLg, ↓s_dR, ↓s_dRg, ↓s_dRj, ↓s_dRjg, ↓s_dB, ↓s_dBg, ↓s_dAlloc, ↓s_bindD, s_bindD, s_finD, s_finDx, s_addP0, s_addP1, s_addB, s_lookP, ↓s_bump0, ↓s_bump_get, s_bump_next, s_ok0, ↓s_ok1, s_okR0, ↓s_okR1, ↓s_okE, s_okE, s_okE1, s_nth0, s_nthS, Nat.add_zero, Bool.and_self, Bool.and_true, Bool.true_and, ↓l_loop, ↓l_succ, ↓l_normal, l_normal, l_exit, l_ret, l_iteN, ↓h_put_get, ↓h_new_get, ↓h_del_get, h_next_put, h_next_new, h_next_del, Nat.add_assoc, Nat.add_eq_left, Nat.left_eq_add, Nat.add_left_cancel_iff, ↓s_load, m_load, ↓m_load1, m_load1, ↓m_st, m_stE, m_storeI, m_storeE, w_zero, w_succ, ↓s_alloc, ↓x_idxA, ↓x_idxS, x_idxAE, x_idxSE, x_addrE, x_idx, x_lenS, ↓s_len, ↓x_buildS, x_buildE, ↓x_P0, ↓x_P1, x_fill0, x_filli, x_fills, x_fillb, c_int, List.length_cons, List.length_nil, List.cons_append, List.drop_succ_cons, List.drop_zero, List.drop_nil, List.nil_append, Int.reduceAdd, Int.reduceToNat, Int.reduceLT, Int.reduceLE, Nat.reduceAdd, Nat.reduceMul, Nat.reduceLeDiff, Int.reduceEq, Int.reduceSub, Int.cast_ofNat_Int, s_resc, s_consR, m_load4, m_store4, s_res0, ↓s_skip, ↓s_ops, ↓s_dops, ↓s_seq, ↓s_cond, ↓s_block, ↓s_exit, ↓s_ret, ↓s_scope, ↓s_nil, ↓s_op, ↓s_opg, ↓s_wanted', ↓s_wantV, s_wantV, s_wantV0, beq_true, beq_false, ↓s_bindS, s_bindS, ↓s_bindE, s_bindE, s_bindE_ret, s_bindE_exit, s_bindE_iteN, s_norm, ↓s_condV, s_condV, s_block_ret, s_block_normal, s_block_exit, s_block_iteN, ↓s_getp, ↓s_getp0, ↓s_get, s_get0, ↓s_con, ↓s_fn, ↓s_os0, ↓s_os1, ↓s_list0, ↓s_list1, ↓s_mov, ↓s_pick, ↓s_pickE, s_pickE, ↓s_bin, ↓s_un, ↓s_minmax, ↓s_call, ↓s_callv, ↓s_callV, ↓s_ext, s_same, b_eql, b_neq, b_lss, b_leq, b_gtr, b_geq, b_add, b_sub, b_mul, b_eqlb, b_neqb, b_fnil, b_fnil', b_fnil2, b_fnil2', u_neg, u_not, m_two, s_end, s_end', s_end_iteN, s_res0, s_res1, s_tup1, s_tup2, ↓iteN_true, ↓iteN_false, iteN_true, iteN_false, Nat.zero_add, List.nil_append, List.append_nil, Nat.reduceEqDiff, reduceIte, decide_true, decide_false, Bool.not_true, Bool.not_false, List.getElem?_cons_zero, List.getElem?_cons_succ, Bool.false_eq_true, if_true, if_false, beq_self_eq_true]⟩
    · have dd : decide (A = B) = false := decide_eq_false hAB
      rw [dd] at eq1
      have bq := aggI_beq .u8 A
      have bq' := aggI_beq .u8 B
      generalize ofI .u8 A = CA at *
      generalize ofI .u8 B = CB at *
      exact ⟨g1, by
        simp (config := {maxSteps := 2000000}) (disch := first | omega | (simp only [List.length_cons, List.length_nil, List.length_append, List.length_drop]; omega)) only [al, d1, d2, d3, r1, ↓al32, st, pu, q1, z0, i0, i1, gq1, bq, bq', lA, lB, eq1, an, nt, ↓s_len, x_lenS, ↓b_xor32, ↓b_and32, ↓b_or32, ↓u_not32, b_xor32, b_and32, b_or32, u_not32, w32ad, ↓x_conv, x_convV, ↓x_fieldAddr, x_fieldV, ↓s_nilchk, x_nilchk, Nat.zero_add, Nat.add_zero, Nat.mul_one, ↓s_evD, ↓s_dnil, ↓s_dL, ↓s_dLg, ↓s_dR, ↓s_dRg, ↓s_dRj, ↓s_dRjg, ↓s_dB, ↓s_dBg, ↓s_dAlloc, ↓s_bindD, s_bindD, s_finD, s_finDx, s_addP0, s_addP1, s_addB, s_lookP, ↓s_bump0, ↓s_bump_get, s_bump_next, s_ok0, ↓s_ok1, s_okR0, ↓s_okR1, ↓s_okE, s_okE, s_okE1, s_nth0, s_nthS, Nat.add_zero, Bool.and_self, Bool.and_true, Bool.true_and, ↓l_loop, ↓l_succ, ↓l_normal, l_normal, l_exit, l_ret, l_iteN, ↓h_put_get, ↓h_new_get, ↓h_del_get, h_next_put, h_next_new, h_next_del, Nat.add_assoc, Nat.add_eq_left, Nat.left_eq_add, Nat.add_left_cancel_iff, ↓s_load, m_load, ↓m_load1, m_load1, ↓m_st, m_stE, m_storeI, m_storeE, w_zero, w_succ, ↓s_alloc, ↓x_idxA, ↓x_idxS, x_idxAE, x_idxSE, x_addrE, x_idx, x_lenS, ↓s_len, ↓x_buildS, x_buildE, ↓x_P0, ↓x_P1, x_fill0, x_filli, x_fills, x_fillb, c_int, List.length_cons, List.length_nil, List.cons_append, List.drop_succ_cons, List.drop_zero, List.drop_nil, List.nil_append, Int.reduceAdd, Int.reduceToNat, Int.reduceLT, Int.reduceLE, Nat.reduceAdd, Nat.reduceMul, Nat.reduceLeDiff, Int.reduceEq, Int.reduceSub, Int.cast_ofNat_Int, s_resc, s_consR, m_load4, m_store4, s_res0, ↓s_skip, ↓s_ops, ↓s_dops, ↓s_seq, ↓s_cond, ↓s_block, ↓s_exit, ↓s_ret, ↓s_scope, ↓s_nil, ↓s_op, ↓s_opg, ↓s_wanted', ↓s_wantV, s_wantV, s_wantV0, beq_true, beq_false, ↓s_bindS, s_bindS, ↓s_bindE, s_bindE, s_bindE_ret, s_bindE_exit, s_bindE_iteN, s_norm, ↓s_condV, s_condV, s_block_ret, s_block_normal, s_block_exit, s_block_iteN, ↓s_getp, ↓s_getp0, ↓s_get, s_get0, ↓s_con, ↓s_fn, ↓s_os0, ↓s_os1, ↓s_list0, ↓s_list1, ↓s_mov, ↓s_pick, ↓s_pickE, s_pickE, ↓s_bin, ↓s_un, ↓s_minmax, ↓s_call, ↓s_callv, ↓s_callV, ↓s_ext, s_same, b_eql, b_neq, b_lss, b_leq, b_gtr, b_geq, b_add, b_sub, b_mul, b_eqlb, b_neqb, b_fnil, b_fnil', b_fnil2, b_fnil2', u_neg, u_not, m_two, s_end, s_end', s_end_iteN, s_res0, s_res1, s_tup1, s_tup2, ↓iteN_true, ↓iteN_false, iteN_true, iteN_false, Nat.zero_add, List.nil_append, List.append_nil, Nat.reduceEqDiff, reduceIte, decide_true, decide_false, Bool.not_true, Bool.not_false, List.getElem?_cons_zero, List.getElem?_cons_succ, Bool.false_eq_true, if_true, if_false, beq_self_eq_true]⟩
  · have d3 : decide (((len % 2 : Nat) : Int) = 0) = false := decide_eq_false (by omega)
    obtain ⟨n, en⟩ : ∃ n, len = 2 * n + 1 := ⟨len / 2, by omega⟩
    have LX : l[2 * n]? = some (l[2 * n]'(by omega)) := List.getElem?_eq_getElem (by omega)
    obtain ⟨x, ex⟩ : ∃ x, l[2 * n]'(by omega) = x := ⟨_, rfl⟩
    rw [ex] at LX
    clear ex
    have hx32 := (rb.2 _ _ LX).2
    have lX := rowB_ld rb LX (by decide) md
    have rmore := rt_more l n (by omega) (by omega) x LX
    have smore := sw_more l n (by omega) (by omega) x hx32 LX
    have lm : (l ++ [x]).length = len + 1 := by rw [List.length_append, elen]; rfl
    have fb := fill0 x hx32
    have wl : wr .i64 ((len : Int) - 1) = ((2 * n : Nat) : Int) := by rw [wr_i64 (by omega)]; omega
    have ix : idx ((2 * n : Nat) : Int) len = some (2 * n) := idxn (by omega)
    have fl := RowB.flat l _ rb
    have frow := flatRow l (fun o ho => (ok o ho).1)
    have rbl := rb.1
    rw [List.length_drop, elen] at rbl
    have odd : ∀ g, Kp g1 g → ∃ g0 g2 g3 h4 h5 g5 h6 b5,
        (bump 2 g).put g.next (.cells [] .rw) = g0 ∧ srcCells g0 32 (.slice (some (q, off)) len none 32) = some (len, ofI .u8 l.flatten) ∧
        appendC g0 32 32 (.slice (some (g.next, 0)) 0 (some 0) 32) (some (len, ofI .u8 l.flatten)) = some (.slice (some (g.next + 2, 0)) len none 32, g2) ∧ g2.get q = some (.cells vs md) ∧
        g2.put (g.next + 1) (.cells (ofI .u8 x) .rw) = g3 ∧ srcCells g3 32 (.slice (some (g.next + 1, 0)) 1 (some 1) 32) = some (1, ofI .u8 x) ∧
        appendC g3 32 32 (.slice (some (g.next + 2, 0)) len none 32) (some (1, ofI .u8 x)) = some (.slice (some (g.next + 3, 0)) (len + 1) none 32, h4) ∧ h4.get q = some (.cells vs md) ∧
        callX E (stX k_purserlaw08_alive) (M + 19) (.fn k_merkle_Root) [.slice (some (g.next + 3, 0)) (len + 1) none 32] h4 = some (.tup [.agg (ofI .u8 (rtL l)), .int .i64 0], h5) ∧
        h5.next = b5 ∧ (h5.new (.cells (ofI .u8 (List.replicate 32 0)) .rw)).put b5 (.cells (ofI .u8 (rtL l)) .rw) = g5 ∧ g5.get b5 = some (.cells (ofI .u8 (rtL l)) .rw) ∧ g5.get h1.next = some (.cells (ofI .u8 (rtL l)) .rw) ∧
        callX E (stX k_purserlaw08_alive) (M + 19) (.fn k_merkle_Swollen) [.slice (some (g.next + 3, 0)) (len + 1) none 32] g5 = some (.bool true, h6) ∧ (g.next = g.next + 1) = False := by
      intro g kg
      have ng := kg.1
      have nK := K1.1
      obtain ⟨g0, e0⟩ : ∃ g0, (bump 2 g).put g.next (.cells [] .rw) = g0 := ⟨_, rfl⟩
      have n0 : g0.next = g.next + 2 := by rw [← e0, h_next_put, s_bump_next]
      have f0 : ∀ j, j < g.next → g0.get j = g.get j := fun j hj => by rw [← e0, h_put_ne _ _ (by omega), s_bump_get]
      have gg0 : g0.get g.next = some (.cells [] .rw) := by rw [← e0]; exact h_put_same _ _ _
      have gq0 : g0.get q = some (.cells vs md) := by rw [f0 _ (by omega), kg.2 _ (by omega), gq1]
      have sc0 := src_n g0 (sz := 32) (off := off) (n := len) gq0 (by omega) (show 0 < len by omega) none
      rw [← elen, fl, elen] at sc0
      have ap0 := app_new g0 g.next len l.flatten (by omega) (by omega) gg0
      rw [n0] at ap0
      obtain ⟨g2, e2⟩ : ∃ g2, g0.new (.cells (ofI .u8 l.flatten) .rw) = g2 := ⟨_, rfl⟩
      rw [e2] at ap0
      have n2 : g2.next = g.next + 3 := by rw [← e2, h_next_new, n0]
      have f2 : ∀ j, j < g.next → g2.get j = g.get j := fun j hj => by rw [← e2, h_new_ne _ _ (by omega), f0 _ hj]
      have gg2 : g2.get (g.next + 2) = some (.cells (ofI .u8 l.flatten) .rw) := by rw [← e2]; exact h_new_same' _ _ n0
      obtain ⟨g3, e3⟩ : ∃ g3, g2.put (g.next + 1) (.cells (ofI .u8 x) .rw) = g3 := ⟨_, rfl⟩
      have n3 : g3.next = g.next + 3 := by rw [← e3, h_next_put, n2]
      have f3 : ∀ j, j ≠ g.next + 1 → g3.get j = g2.get j := fun j hj => by rw [← e3, h_put_ne _ _ (Ne.symm hj)]
      have gg3 : g3.get (g.next + 1) = some (.cells (ofI .u8 x) .rw) := by rw [← e3]; exact h_put_same _ _ _
      have sc3 := src_k g3 (k := 32) hx32 .rw (some 1) gg3
      have gr3 : GrR 32 0 g3 (some (g.next + 2, 0)) none 32 l := .inr ⟨g.next + 2, _, .rw, rfl, rfl, rfl, (fun _ h => by cases h), Nat.zero_le _, by omega, by rw [f3 _ (by omega), gg2], rfl, frow⟩
      obtain ⟨h4, ap4, gr4, n4, f4⟩ := gr_app (k := 32) (by decide) (by decide) gr3 (by omega) (by omega) x hx32
      rw [elen, n3] at ap4
      rw [n3] at gr4 n4
      have F4 : ∀ j, j < g.next → h4.get j = g.get j := fun j hj => by rw [f4 _ (by omega) (by intro hh; cases hh; omega), f3 _ (by omega), f2 _ hj]
      rcases gr4 with ⟨eq0, _⟩ | ⟨q4, vs4, md4, e4, _, _, _, _, hq4, gq4, _, rb4⟩
      · have := congrArg List.length eq0; rw [lm, List.length_nil] at this; omega
      cases e4
      obtain ⟨h5, r5, k5⟩ := rootH e hx (M + 8) (by omega) (l ++ [x]) (by omega) (by omega) h4 (g.next + 3) 0 (len + 1) lm vs4 md4 hq4 gq4 (by rw [List.drop_zero]; exact rb4)
      rw [rmore] at r5
      obtain ⟨g5, c5⟩ := cel h5 (rtL l)
      have K5 := k5.trans c5.kp
      obtain ⟨h6, r6, k6⟩ := swollen_go es noSw_st hx (M + 8) (by omega) (l ++ [x]) (by omega) (by omega) g5 (g.next + 3) 0 none vs4 md4 (fun _ h => by cases h) (by have := K5.1; omega) (by rw [K5.2 _ hq4, gq4]) (by rw [List.drop_zero]; exact rb4)
      rw [lm, smore] at r6
      exact ⟨g0, g2, g3, h4, h5, g5, h6, h5.next, e0, sc0, ap0, by rw [f2 _ (by omega), kg.2 _ (by omega), gq1], e3, sc3, ap4, by rw [F4 _ (by omega), kg.2 _ (by omega), gq1], r5, rfl, c5.eq, c5.gt, by rw [K5.2 _ (by omega), F4 _ (by omega), kg.2 _ (by omega), c1.gt], r6, by simp⟩
    have eqr := fun h => eq32 h (rtL l) (rtL l) lr lr
    have dt : decide (rtL l = rtL l) = true := decide_eq_true rfl
    rw [dt] at eqr
    have bqx := aggI_beq .u8 x
    clear rmore smore
    by_cases hAB : A = B
    · obtain ⟨g, r2, k2⟩ := swl hAB
      obtain ⟨g0, g2, g3, h4, h5, g5, h6, b5, e0, sc0, ap0, gq2, e3, sc3, ap4, gq4, r5, n5, e5, gg5, gr5, r6, zz⟩ := odd g k2
      have dd : decide (A = B) = true := decide_eq_true hAB
      rw [dd] at eq1
      have bq := aggI_beq .u8 A
      have bq' := aggI_beq .u8 B
      have gqg : g.get q = some (.cells vs md) := by rw [k2.2 _ (by have := K1.1; omega), gq1]
      rw [eZ] at e5
      clear odd swl
      generalize ofI .u8 (rtL l) = R1 at *
      generalize ofI .u8 l.flatten = LF at *
      generalize ofI .u8 x = CX at *
      generalize ofI .u8 A = CA at *
      generalize ofI .u8 B = CB at *
      generalize 2 * n = n2 at *
      exact ⟨h6, by
        simp (config := {maxSteps := 2000000}) (disch := first | omega | (simp only [List.length_cons, List.length_nil, List.length_append, List.length_drop]; omega)) only [al, d1, d2, d3, r1, ↓al32, st, pu, ld, q1, z0, i0, i1, gq1, gqg, bq, bq', bqx, lA, lB, lX, eq1, eqr, r2, an, nt, wl, ix, fb, e0, sc0, ap0, gq2, e3, sc3, ap4, gq4, r5, n5, e5, gg5, gr5, r6, zz, ↓s_append, ↓s_dBuildS, s_dbE, ↓s_len, x_lenS, ↓b_xor32, ↓b_and32, ↓b_or32, ↓u_not32, b_xor32, b_and32, b_or32, u_not32, w32ad, ↓x_conv, x_convV, ↓x_fieldAddr, x_fieldV, ↓s_nilchk, x_nilchk, Nat.zero_add, Nat.add_zero, Nat.mul_one, ↓s_evD, ↓s_dnil, ↓s_dL, ↓s_dLg, ↓s_dR, ↓s_dRg, ↓s_dRj, ↓s_dRjg, ↓s_dB, ↓s_dBg, ↓s_dAlloc, ↓s_bindD, s_bindD, s_finD, s_finDx, s_addP0, s_addP1, s_addB, s_lookP, ↓s_bump0, ↓s_bump_get, s_bump_next, s_ok0, ↓s_ok1, s_okR0, ↓s_okR1, ↓s_okE, s_okE, s_okE1, s_nth0, s_nthS, Nat.add_zero, Bool.and_self, Bool.and_true, Bool.true_and, ↓l_loop, ↓l_succ, ↓l_normal, l_normal, l_exit, l_ret, l_iteN, ↓h_put_get, ↓h_new_get, ↓h_del_get, h_next_put, h_next_new, h_next_del, Nat.add_assoc, Nat.add_eq_left, Nat.left_eq_add, Nat.add_left_cancel_iff, ↓s_load, m_load, ↓m_load1, m_load1, ↓m_st, m_stE, m_storeI, m_storeE, w_zero, w_succ, ↓s_alloc, ↓x_idxA, ↓x_idxS, x_idxAE, x_idxSE, x_addrE, x_idx, x_lenS, ↓s_len, ↓x_buildS, x_buildE, ↓x_P0, ↓x_P1, x_fill0, x_filli, x_fills, x_fillb, c_int, List.length_cons, List.length_nil, List.cons_append, List.drop_succ_cons, List.drop_zero, List.drop_nil, List.nil_append, Int.reduceAdd, Int.reduceToNat, Int.reduceLT, Int.reduceLE, Nat.reduceAdd, Nat.reduceMul, Nat.reduceLeDiff, Int.reduceEq, Int.reduceSub, Int.cast_ofNat_Int, s_resc, s_consR, m_load4, m_store4, s_res0, ↓s_skip, ↓s_ops, ↓s_dops, ↓s_seq, ↓s_cond, ↓s_block, ↓s_exit, ↓s_ret, ↓s_scope, ↓s_nil, ↓s_op, ↓s_opg, ↓s_wanted', ↓s_wantV, s_wantV, s_wantV0, beq_true, beq_false, ↓s_bindS, s_bindS, ↓s_bindE, s_bindE, s_bindE_ret, s_bindE_exit, s_bindE_iteN, s_norm, ↓s_condV, s_condV, s_block_ret, s_block_normal, s_block_exit, s_block_iteN, ↓s_getp, ↓s_getp0, ↓s_get, s_get0, ↓s_con, ↓s_fn, ↓s_os0, ↓s_os1, ↓s_list0, ↓s_list1, ↓s_mov, ↓s_pick, ↓s_pickE, s_pickE, ↓s_bin, ↓s_un, ↓s_minmax, ↓s_call, ↓s_callv, ↓s_callV, ↓s_ext, s_same, b_eql, b_neq, b_lss, b_leq, b_gtr, b_geq, b_add, b_sub, b_mul, b_eqlb, b_neqb, b_fnil, b_fnil', b_fnil2, b_fnil2', u_neg, u_not, m_two, s_end, s_end', s_end_iteN, s_res0, s_res1, s_tup1, s_tup2, ↓iteN_true, ↓iteN_false, iteN_true, iteN_false, Nat.zero_add, List.nil_append, List.append_nil, Nat.reduceEqDiff, reduceIte, decide_true, decide_false, Bool.not_true, Bool.not_false, List.getElem?_cons_zero, List.getElem?_cons_succ, Bool.false_eq_true, if_true, if_false, beq_self_eq_true]⟩
    · obtain ⟨g0, g2, g3, h4, h5, g5, h6, b5, e0, sc0, ap0, gq2, e3, sc3, ap4, gq4, r5, n5, e5, gg5, gr5, r6, zz⟩ := odd g1 (Kp.refl _)
      have dd : decide (A = B) = false := decide_eq_false hAB
      rw [dd] at eq1
      have bq := aggI_beq .u8 A
      have bq' := aggI_beq .u8 B
      rw [eZ] at e5
      clear odd swl
      generalize ofI .u8 (rtL l) = R1 at *
      generalize ofI .u8 l.flatten = LF at *
      generalize ofI .u8 x = CX at *
      generalize ofI .u8 A = CA at *
      generalize ofI .u8 B = CB at *
      generalize 2 * n = n2 at *
      exact ⟨h6, by
        simp (config := {maxSteps := 2000000}) (disch := first | omega | (simp only [List.length_cons, List.length_nil, List.length_append, List.length_drop]; omega)) only [al, d1, d2, d3, r1, ↓al32, st, pu, ld, q1, z0, i0, i1, gq1, bq, bq', bqx, lA, lB, lX, eq1, eqr, an, nt, wl, ix, fb, e0, sc0, ap0, gq2, e3, sc3, ap4, gq4, r5, n5, e5, gg5, gr5, r6, zz, ↓s_append, ↓s_dBuildS, s_dbE, ↓s_len, x_lenS, ↓b_xor32, ↓b_and32, ↓b_or32, ↓u_not32, b_xor32, b_and32, b_or32, u_not32, w32ad, ↓x_conv, x_convV, ↓x_fieldAddr, x_fieldV, ↓s_nilchk, x_nilchk, Nat.zero_add, Nat.add_zero, Nat.mul_one, ↓s_evD, ↓s_dnil, ↓s_dL, ↓s_dLg, ↓s_dR, ↓s_dRg, ↓s_dRj, ↓s_dRjg, ↓s_dB, ↓s_dBg, ↓s_dAlloc, ↓s_bindD, s_bindD, s_finD, s_finDx, s_addP0, s_addP1, s_addB, s_lookP, ↓s_bump0, ↓s_bump_get, s_bump_next, s_ok0, ↓s_ok1, s_okR0, ↓s_okR1, ↓s_okE, s_okE, s_okE1, s_nth0, s_nthS, Nat.add_zero, Bool.and_self, Bool.and_true, Bool.true_and, ↓l_loop, ↓l_succ, ↓l_normal, l_normal, l_exit, l_ret, l_iteN, ↓h_put_get, ↓h_new_get, ↓h_del_get, h_next_put, h_next_new, h_next_del, Nat.add_assoc, Nat.add_eq_left, Nat.left_eq_add, Nat.add_left_cancel_iff, ↓s_load, m_load, ↓m_load1, m_load1, ↓m_st, m_stE, m_storeI, m_storeE, w_zero, w_succ, ↓s_alloc, ↓x_idxA, ↓x_idxS, x_idxAE, x_idxSE, x_addrE, x_idx, x_lenS, ↓s_len, ↓x_buildS, x_buildE, ↓x_P0, ↓x_P1, x_fill0, x_filli, x_fills, x_fillb, c_int, List.length_cons, List.length_nil, List.cons_append, List.drop_succ_cons, List.drop_zero, List.drop_nil, List.nil_append, Int.reduceAdd, Int.reduceToNat, Int.reduceLT, Int.reduceLE, Nat.reduceAdd, Nat.reduceMul, Nat.reduceLeDiff, Int.reduceEq, Int.reduceSub, Int.cast_ofNat_Int, s_resc, s_consR, m_load4, m_store4, s_res0, ↓s_skip, ↓s_ops, ↓s_dops, ↓s_seq, ↓s_cond, ↓s_block, ↓s_exit, ↓s_ret, ↓s_scope, ↓s_nil, ↓s_op, ↓s_opg, ↓s_wanted', ↓s_wantV, s_wantV, s_wantV0, beq_true, beq_false, ↓s_bindS, s_bindS, ↓s_bindE, s_bindE, s_bindE_ret, s_bindE_exit, s_bindE_iteN, s_norm, ↓s_condV, s_condV, s_block_ret, s_block_normal, s_block_exit, s_block_iteN, ↓s_getp, ↓s_getp0, ↓s_get, s_get0, ↓s_con, ↓s_fn, ↓s_os0, ↓s_os1, ↓s_list0, ↓s_list1, ↓s_mov, ↓s_pick, ↓s_pickE, s_pickE, ↓s_bin, ↓s_un, ↓s_minmax, ↓s_call, ↓s_callv, ↓s_callV, ↓s_ext, s_same, b_eql, b_neq, b_lss, b_leq, b_gtr, b_geq, b_add, b_sub, b_mul, b_eqlb, b_neqb, b_fnil, b_fnil', b_fnil2, b_fnil2', u_neg, u_not, m_two, s_end, s_end', s_end_iteN, s_res0, s_res1, s_tup1, s_tup2, ↓iteN_true, ↓iteN_false, iteN_true, iteN_false, Nat.zero_add, List.nil_append, List.append_nil, Nat.reduceEqDiff, reduceIte, decide_true, decide_false, Bool.not_true, Bool.not_false, List.getElem?_cons_zero, List.getElem?_cons_succ, Bool.false_eq_true, if_true, if_false, beq_self_eq_true]⟩
end Go.Eng
