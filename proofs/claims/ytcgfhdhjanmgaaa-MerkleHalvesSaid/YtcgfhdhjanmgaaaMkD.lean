/- What functions of the program come to: own work. -/
import Derived.Test.YtcgfhdhjanmgaaaMkC
namespace Go.Eng
open Go
variable {E : Nat → Option Fn} {X : Orc}
set_option linter.unusedSimpArgs false
set_option linter.unusedVariables false
theorem prs_app : ∀ (n : Nat) (a b : List (List Nat)), a.length = 2 * n → prs (a ++ b) = prs a ++ prs b := by
  intro n
  induction n with
  | zero => intro a b h; rw [List.length_eq_zero_iff.1 (show a.length = 0 by omega)]; rfl
  | succ n ih =>
    intro a b h
    match a with
    | [] => simp at h
    | [x] => simp at h; omega
    | x :: y :: r =>
      simp only [List.length_cons] at h
      show (x ++ y) :: prs (r ++ b) = (x ++ y) :: (prs r ++ prs b)
      rw [ih r b (by omega)]
theorem up_app (n : Nat) (a b : List (List Nat)) (h : a.length = 2 * n) : up (a ++ b) = up a ++ up b := by
  unfold up; rw [prs_app n a b h, List.map_append]
theorem rt_half : ∀ (k : Nat) (a b : List (List Nat)), a.length = 2 ^ k → b.length = 2 ^ k → rtL (a ++ b) = tw (rtL a ++ rtL b) := by
  intro k
  induction k with
  | zero =>
    intro a b ha hb
    obtain ⟨x, rfl⟩ := List.length_eq_one_iff.1 ha
    obtain ⟨y, rfl⟩ := List.length_eq_one_iff.1 hb
    rw [rtL_up _ (by simp), rtL_1, rtL_1]
    show rtL [tw (x ++ y)] = _
    rw [rtL_1]
  | succ k ih =>
    intro a b ha hb
    have p : 0 < 2 ^ k := Nat.two_pow_pos k
    rw [Nat.pow_succ] at ha hb
    rw [rtL_up (a ++ b) (by rw [List.length_append]; omega), up_app (2 ^ k) a b (by omega), rtL_up a (by omega), rtL_up b (by omega)]
    exact ih _ _ (by rw [up_len]; omega) (by rw [up_len]; omega)
theorem vbq_slc (a : Option (Nat × Nat)) (l : Nat) (c : Option Nat) (e : Nat) : V.beq (.slice a l c e) (.slice a l c e) = true := by unfold V.beq; simp
structure EnTwo (E : Nat → Option Fn) : Prop where
  two : E k_purserlaw08_two = some f_purserlaw08_two
theorem two_go (e : EnTwo E) (x : ∀ a h, X (.fn k_purserlaw08_two) a h = none) (hx : HasTw E X) (N : Nat) (A B : List Nat) (hA : A.length = 32) (hB : B.length = 32) (h : H) :
    ∃ h', callX E X (N + 2) (.fn k_purserlaw08_two) [.agg (ofI .u8 A), .agg (ofI .u8 B)] h = some (.agg (ofI .u8 (tw (A ++ B))), h') ∧ Kp h h' := by
  rw [x_cfn e.two _ _ (Nat.le_of_ble_eq_true rfl) (x _ _)]
  rw [← z32e]
  have lt := tw_len (A ++ B)
  obtain ⟨Z, eZ⟩ : ∃ Z, ofI .u8 (List.replicate 32 0) = Z := ⟨_, rfl⟩
  rw [eZ]
  have ca' : ∀ l : List V, (V.agg l).cells = l := fun _ => rfl
  obtain ⟨h1, e1⟩ : ∃ h1, ((h.new (.cells (ofI .u8 A) .rw)).new (.cells (ofI .u8 B) .rw)).new (.cells Z .rw) = h1 := ⟨_, rfl⟩
  have n1 : h1.next = h.next + 3 := by rw [← e1]; rfl
  have gA : h1.get h.next = some (.cells (ofI .u8 A) .rw) := by rw [← e1]; (simp (disch := omega) only [l_loop, l_succ, l_normal, l_normal, l_exit, l_ret, l_iteN, h_put_get, h_new_get, h_del_get, h_next_put, h_next_new, h_next_del, Nat.add_assoc, Nat.add_eq_left, Nat.left_eq_add, Nat.add_left_cancel_iff, s_load, m_load, m_load1, m_load1, m_st, m_stE, m_storeI, m_storeE, w_zero, w_succ, s_alloc, x_idxA, x_idxS, x_idxAE, x_idxSE, x_addrE, x_idx, x_lenS, s_len, x_buildS, x_buildE, x_P0, x_P1, x_fill0, x_filli, x_fills, x_fillb, c_int, List.length_cons, List.length_nil, List.cons_append, List.drop_succ_cons, List.drop_zero, List.drop_nil, List.nil_append, Int.reduceAdd, Int.reduceToNat, Int.reduceLT, Int.reduceLE, Nat.reduceAdd, Nat.reduceMul, Nat.reduceLeDiff, Int.reduceEq, Int.reduceSub, Int.cast_ofNat_Int, s_resc, s_consR, m_load4, m_store4, s_res0, decide_true, decide_false, iteN_true, iteN_false, Nat.reduceEqDiff, Nat.reduceAdd, reduceCtorEq, ]; try rfl)
  have gB : h1.get (h.next + 1) = some (.cells (ofI .u8 B) .rw) := by rw [← e1]; (simp (disch := omega) only [l_loop, l_succ, l_normal, l_normal, l_exit, l_ret, l_iteN, h_put_get, h_new_get, h_del_get, h_next_put, h_next_new, h_next_del, Nat.add_assoc, Nat.add_eq_left, Nat.left_eq_add, Nat.add_left_cancel_iff, s_load, m_load, m_load1, m_load1, m_st, m_stE, m_storeI, m_storeE, w_zero, w_succ, s_alloc, x_idxA, x_idxS, x_idxAE, x_idxSE, x_addrE, x_idx, x_lenS, s_len, x_buildS, x_buildE, x_P0, x_P1, x_fill0, x_filli, x_fills, x_fillb, c_int, List.length_cons, List.length_nil, List.cons_append, List.drop_succ_cons, List.drop_zero, List.drop_nil, List.nil_append, Int.reduceAdd, Int.reduceToNat, Int.reduceLT, Int.reduceLE, Nat.reduceAdd, Nat.reduceMul, Nat.reduceLeDiff, Int.reduceEq, Int.reduceSub, Int.cast_ofNat_Int, s_resc, s_consR, m_load4, m_store4, s_res0, decide_true, decide_false, iteN_true, iteN_false, Nat.reduceEqDiff, Nat.reduceAdd, reduceCtorEq, ]; try rfl)
  have gz : h1.get (h.next + 2) = some (.cells Z .rw) := by rw [← e1]; (simp (disch := omega) only [l_loop, l_succ, l_normal, l_normal, l_exit, l_ret, l_iteN, h_put_get, h_new_get, h_del_get, h_next_put, h_next_new, h_next_del, Nat.add_assoc, Nat.add_eq_left, Nat.left_eq_add, Nat.add_left_cancel_iff, s_load, m_load, m_load1, m_load1, m_st, m_stE, m_storeI, m_storeE, w_zero, w_succ, s_alloc, x_idxA, x_idxS, x_idxAE, x_idxSE, x_addrE, x_idx, x_lenS, s_len, x_buildS, x_buildE, x_P0, x_P1, x_fill0, x_filli, x_fills, x_fillb, c_int, List.length_cons, List.length_nil, List.cons_append, List.drop_succ_cons, List.drop_zero, List.drop_nil, List.nil_append, Int.reduceAdd, Int.reduceToNat, Int.reduceLT, Int.reduceLE, Nat.reduceAdd, Nat.reduceMul, Nat.reduceLeDiff, Int.reduceEq, Int.reduceSub, Int.cast_ofNat_Int, s_resc, s_consR, m_load4, m_store4, s_res0, decide_true, decide_false, iteN_true, iteN_false, Nat.reduceEqDiff, Nat.reduceAdd, reduceCtorEq, ]; try rfl)
  have k1 : Kp h h1 := by rw [← e1]; (repeat (first | exact Kp.refl _ | refine Kp.put ?_ _ (by first | omega | (simp only [h_next_put, h_next_new, h_next_del]; omega)) | refine Kp.del ?_ (by first | omega | (simp only [h_next_put, h_next_new, h_next_del]; omega)) | refine Kp.trans ?_ (Kp.new _ _)))
  obtain ⟨h2, e2⟩ : ∃ h2, (bump 1 h1).put (h.next + 3) (.cells [] .rw) = h2 := ⟨_, rfl⟩
  have n2 : h2.next = h.next + 4 := by rw [← e2, h_next_put, s_bump_next, n1]
  have k2 : Kp h1 h2 := ⟨by omega, fun j hj => by rw [← e2, h_put_ne _ _ (by omega), s_bump_get]⟩
  have g23 : h2.get (h.next + 3) = some (.cells [] .rw) := by rw [← e2]; exact h_put_same _ _ _
  have sA : srcCells h2 1 (.slice (some (h.next, 0)) 32 (some 32) 1) = some (32, ofI .u8 A) := by
    rw [m_src, k2.2 _ (by omega), gA, srcI _ _ _ _ _ (by omega), List.drop_zero, take_all _ _ (by omega)]
  obtain ⟨h3, e3⟩ : ∃ h3, h2.new (.cells (ofI .u8 A) .rw) = h3 := ⟨_, rfl⟩
  have ap1 : appendC h2 1 1 (.slice (some (h.next + 3, 0)) 0 (some 0) 1) (some (32, ofI .u8 A)) = some (.slice (some (h.next + 4, 0)) 32 none 1, h3) := by
    rw [appF_of _ _ _ _ _ _ _ _ (by omega) (by omega), g23, appF0, n2, e3]
  have n3 : h3.next = h.next + 5 := by rw [← e3, h_next_new, n2]
  have k3 : Kp h2 h3 := by rw [← e3]; (repeat (first | exact Kp.refl _ | refine Kp.put ?_ _ (by first | omega | (simp only [h_next_put, h_next_new, h_next_del]; omega)) | refine Kp.del ?_ (by first | omega | (simp only [h_next_put, h_next_new, h_next_del]; omega)) | refine Kp.trans ?_ (Kp.new _ _)))
  have g3 : h3.get (h.next + 4) = some (.cells (ofI .u8 A) .rw) := by rw [← e3]; exact h_new_same' _ _ n2
  have sB : srcCells h3 1 (.slice (some (h.next + 1, 0)) 32 (some 32) 1) = some (32, ofI .u8 B) := by
    rw [m_src, k3.2 _ (by omega), k2.2 _ (by omega), gB, srcI _ _ _ _ _ (by omega), List.drop_zero, take_all _ _ (by omega)]
  obtain ⟨h4, e4⟩ : ∃ h4, (h3.del (h.next + 4)).new (.cells (ofI .u8 (A ++ B)) .sh) = h4 := ⟨_, rfl⟩
  have ap2 : appendC h3 1 1 (.slice (some (h.next + 4, 0)) 32 none 1) (some (32, ofI .u8 B)) = some (.slice (some (h.next + 5, 0)) 64 none 1, h4) := by
    rw [appU_of _ _ _ _ _ _ (by omega), g3, appUIw _ _ _ _ _ _ _ (by omega), take_all _ _ (by omega), n3, e4]
  have n4 : h4.next = h.next + 6 := by rw [← e4, h_next_new, h_next_del, n3]
  have f4 : ∀ j, j < h.next + 4 → h4.get j = h1.get j ∨ j = h.next + 3 := fun j hj => by
    by_cases hj3 : j = h.next + 3
    · exact .inr hj3
    · left; rw [← e4, h_new_ne _ _ (by rw [h_next_del]; omega), h_del_ne _ (by omega), k3.2 _ (by omega), k2.2 _ (by omega)]
  have g4 : h4.get (h.next + 5) = some (.cells (ofI .u8 (A ++ B)) .sh) := by rw [← e4]; exact h_new_same' _ _ (by rw [h_next_del, n3])
  have g4z : h4.get (h.next + 2) = some (.cells Z .rw) := by rw [(f4 _ (by omega)).resolve_right (by omega), gz]
  have t4 := tw64 hx N (h.next + 5) (A ++ B) (by rw [List.length_append]; omega) none .sh h4 (by omega) g4
  obtain ⟨TW, eT⟩ : ∃ l, tw (A ++ B) = l := ⟨_, rfl⟩
  rw [eT] at t4 lt ⊢
  have st : ∀ h i, storeV h 32 (.ptr (some (i, 0))) (.agg (ofI .u8 TW)) = storeE (h.get i) h i 0 (ofI .u8 TW) := fun h i => st32 h i 0 _ lt
  have pu : ∀ h i, storeE (some (.cells Z .rw)) h i 0 (ofI .u8 TW) = some (h.put i (.cells (ofI .u8 TW) .rw)) := fun h i => by
    rw [m_storeE _ _ _ _ _ (by rw [← eZ, ofI_len, ofI_len, lt, List.length_replicate]; omega), ← eZ, wrAll _ _ _ (by rw [List.length_replicate, lt])]
  have lds : ∀ m, loadE (some (.cells (ofI .u8 TW) m)) (some 32) 0 = some (.agg (ofI .u8 TW)) := fun m => by rw [m_loadN, x_readAll _ 32 (by rw [ofI_len, lt])]
  have sb0 : ∀ (g : H) m, slcB (some (.cells (ofI .u8 A) m)) 32 1 h.next 0 none none g = some (.slice (some (h.next, 0)) 32 (some 32) 1, g) := fun h m => slcB_nn _ _ _ _ _ _ (by rw [ofI_len]; omega)
  have sb1 : ∀ (g : H) m, slcB (some (.cells (ofI .u8 B) m)) 32 1 (h.next + 1) 0 none none g = some (.slice (some (h.next + 1, 0)) 32 (some 32) 1, g) := fun h m => slcB_nn _ _ _ _ _ _ (by rw [ofI_len]; omega)
  have g1B : h2.get (h.next + 1) = some (.cells (ofI .u8 B) .rw) := by rw [k2.2 _ (by omega), gB]
  have g3B : h3.get (h.next + 1) = some (.cells (ofI .u8 B) .rw) := by rw [k3.2 _ (by omega), g1B]
  refine ⟨h4.put (h.next + 2) (.cells (ofI .u8 TW) .rw), ?_, ⟨by show h.next ≤ h4.next; omega, fun j hj => by rw [h_put_ne _ _ (by omega), (f4 _ (by omega)).resolve_right (by omega), k1.2 _ hj]⟩⟩
  generalize ofI .u8 TW = S0 at *
  generalize ofI .u8 (A ++ B) = CAB at *
  generalize ofI .u8 A = CA at *
  generalize ofI .u8 B = CB at *
  simp (config := {maxSteps := 2000000}) (disch := first | omega | (simp only [List.length_cons, List.length_nil, List.length_append, List.length_drop]; omega)) only [vbq_slc, ca', e1, n1, gA, gB, g1B, g3B, sb0, sb1, e2, sA, ap1, sB, ap2, t4, g4z, st, pu, lds, ↓s_append, ↓s_dBuildS, s_dbE, ↓x_slcA, x_slcAE, x_M1, x_M0, ↓s_box, ↓b_xor32, ↓b_and32, ↓b_or32, ↓u_not32, b_xor32, b_and32, b_or32, u_not32, w32ad, ↓x_conv, x_convV, ↓x_fieldAddr, x_fieldV, ↓s_nilchk, x_nilchk, Nat.zero_add, Nat.add_zero, Nat.mul_one, ↓s_evD, ↓s_dnil, ↓s_dL, ↓s_dLg, ↓s_dR, ↓s_dRg, ↓s_dRj, ↓s_dRjg, ↓s_dB, ↓s_dBg, ↓s_dAlloc, ↓s_bindD, s_bindD, s_finD, s_finDx, s_addP0, s_addP1, s_addB, s_lookP, ↓s_bump0, ↓s_bump_get, s_bump_next, s_ok0, ↓s_ok1, s_okR0, ↓s_okR1, ↓s_okE, s_okE, s_okE1, s_nth0, s_nthS, Nat.add_zero, Bool.and_self, Bool.and_true, Bool.true_and, ↓l_loop, ↓l_succ, ↓l_normal, l_normal, l_exit, l_ret, l_iteN, ↓h_put_get, ↓h_new_get, ↓h_del_get, h_next_put, h_next_new, h_next_del, Nat.add_assoc, Nat.add_eq_left, Nat.left_eq_add, Nat.add_left_cancel_iff, ↓s_load, m_load, ↓m_load1, m_load1, ↓m_st, m_stE, m_storeI, m_storeE, w_zero, w_succ, ↓s_alloc, ↓x_idxA, ↓x_idxS, x_idxAE, x_idxSE, x_addrE, x_idx, x_lenS, ↓s_len, ↓x_buildS, x_buildE, ↓x_P0, ↓x_P1, x_fill0, x_filli, x_fills, x_fillb, c_int, List.length_cons, List.length_nil, List.cons_append, List.drop_succ_cons, List.drop_zero, List.drop_nil, List.nil_append, Int.reduceAdd, Int.reduceToNat, Int.reduceLT, Int.reduceLE, Nat.reduceAdd, Nat.reduceMul, Nat.reduceLeDiff, Int.reduceEq, Int.reduceSub, Int.cast_ofNat_Int, s_resc, s_consR, m_load4, m_store4, s_res0, ↓s_skip, ↓s_ops, ↓s_dops, ↓s_seq, ↓s_cond, ↓s_block, ↓s_exit, ↓s_ret, ↓s_scope, ↓s_nil, ↓s_op, ↓s_opg, ↓s_wanted', ↓s_wantV, s_wantV, s_wantV0, beq_true, beq_false, ↓s_bindS, s_bindS, ↓s_bindE, s_bindE, s_bindE_ret, s_bindE_exit, s_bindE_iteN, s_norm, ↓s_condV, s_condV, s_block_ret, s_block_normal, s_block_exit, s_block_iteN, ↓s_getp, ↓s_getp0, ↓s_get, s_get0, ↓s_con, ↓s_fn, ↓s_os0, ↓s_os1, ↓s_list0, ↓s_list1, ↓s_mov, ↓s_pick, ↓s_pickE, s_pickE, ↓s_bin, ↓s_un, ↓s_minmax, ↓s_call, ↓s_callv, ↓s_callV, ↓s_ext, s_same, b_eql, b_neq, b_lss, b_leq, b_gtr, b_geq, b_add, b_sub, b_mul, b_eqlb, b_neqb, b_fnil, b_fnil', b_fnil2, b_fnil2', u_neg, u_not, m_two, s_end, s_end', s_end_iteN, s_res0, s_res1, s_tup1, s_tup2, ↓iteN_true, ↓iteN_false, iteN_true, iteN_false, Nat.zero_add, List.nil_append, List.append_nil, Nat.reduceEqDiff, reduceIte, decide_true, decide_false, Bool.not_true, Bool.not_false, List.getElem?_cons_zero, List.getElem?_cons_succ, Bool.false_eq_true, if_true, if_false, beq_self_eq_true]
end Go.Eng
namespace Go.Eng
open Go
variable {E : Nat → Option Fn} {X : Orc}
set_option linter.unusedSimpArgs false
set_option linter.unusedVariables false
theorem hasTw_st (k : Nat) : HasTw E (stX k) := fun N l a c h ez src hl => x_twH k N l a c h src hl
theorem noRt_st : NoRt (stX k_purserlaw08_alive) := by repeat' (first | exact fun _ _ => rfl | exact fun _ _ _ => rfl | exact fun _ => rfl | constructor)
theorem RowB.take {k : Nat} {vs : List V} {L : List (List Nat)} (r : RowB k vs L) (n : Nat) : RowB k vs (L.take n) := by
  refine ⟨Nat.le_trans (Nat.mul_le_mul_right k (by rw [List.length_take]; omega)) r.1, fun i o ho => ?_⟩
  rw [List.getElem?_take] at ho
  split at ho
  · exact r.2 i o ho
  · cases ho
theorem RowB.dropL {k : Nat} {vs : List V} {off : Nat} {L : List (List Nat)} (r : RowB k (vs.drop off) L) (n : Nat) (hn : n ≤ L.length) : RowB k (vs.drop (off + n * k)) (L.drop n) := by
  refine ⟨?_, fun i o ho => ?_⟩
  · have h1 := r.1
    have h3 : (vs.drop (off + n * k)).length = vs.length - (off + n * k) := List.length_drop ..
    have h4 : (vs.drop off).length = vs.length - off := List.length_drop ..
    have h2 : (L.drop n).length * k + n * k = L.length * k := by rw [← Nat.add_mul, List.length_drop, Nat.sub_add_cancel hn]
    omega
  · rw [List.getElem?_drop] at ho
    have := r.2 _ o ho
    rw [List.drop_drop, Nat.add_mul, ← Nat.add_assoc] at this
    rw [List.drop_drop]; exact this
theorem slc32h (n m : Nat) (q off : Nat) (hm : m ≤ n) : slcV 32 none (some (.int .i64 (m : Int))) none (.slice (some (q, off)) n none 32) = some (.slice (some (q, off)) m none 32) := by
  show (match bnd (some (.int .i64 (m : Int))) n n with | some b => (match bnd none 0 b with | some l => some (V.slice (upA (some (q, off)) (l * 32)) (b - l) (subC none l) 32) | none => none) | none => none) = _
  rw [x_bnd _ _ _ _ hm]
  rfl
theorem slc32lh (n k m : Nat) (q off : Nat) (hk : k ≤ m) (hm : m ≤ n) : slcV 32 (some (.int .i64 (k : Int))) (some (.int .i64 (m : Int))) none (.slice (some (q, off)) n none 32) = some (.slice (some (q, off + k * 32)) (m - k) none 32) := by
  show (match bnd (some (.int .i64 (m : Int))) n n with | some b => (match bnd (some (.int .i64 (k : Int))) 0 b with | some l => some (V.slice (upA (some (q, off)) (l * 32)) (b - l) (subC none l) 32) | none => none) | none => none) = _
  rw [x_bnd _ _ _ _ hm]
  simp only
  rw [x_bnd _ _ _ _ hk]
  rfl
theorem quo2 (n : Nat) (hn : n < 4611686018427387904) (e : EqK) (h : H) : binV .quo e h (.int .i64 (n : Int)) (.int .i64 2) = some (.int .i64 ((n / 2 : Nat) : Int)) := by
  rw [b_quo _ _ _ _ _ (by omega), show Int.tdiv (n : Int) 2 = ((n / 2 : Nat) : Int) from rfl, wr_i64 (by omega)]
theorem hv_loop (Q : Orc) (m : Nat) (a : Option (Nat × Nat)) (len : Nat) (hlen : len < 4611686018427387904) (h : H) : ∀ (k n : Nat), len < n * 2 ^ k → (n ≤ len ∨ n = 2) → (∃ j, n = 2 ^ (j + 1)) → ∀ g, k < g → ∀ T, evO T (.t 0) = .slice a len none 32 → evO T (.t 3) = .bool true → evO T (.t 4) = .int .i64 (n : Int) →
    ∃ T' n', loopN (evC Q 76 m none L_purserlaw08_MerkleHalves_0) g ⟨T, [], h⟩ = some (.exit 0, ⟨T', [], h⟩) ∧ len < 2 * n' ∧ (n' ≤ len ∨ n' = 2) ∧ (∃ j, n' = 2 ^ (j + 1)) ∧ evO T' (.t 0) = .slice a len none 32 ∧ evO T' (.t 3) = .bool true ∧ evO T' (.t 4) = .int .i64 (n' : Int) := by
  intro k
  induction k with
  | zero =>
    intro n h1 h2 h3 g hg T t0 t3 t4
    obtain ⟨g, rfl⟩ : ∃ j, g = j + 1 := ⟨g - 1, by omega⟩
    rw [Nat.pow_zero, Nat.mul_one] at h1
    have w : wr .i64 (2 * (n : Int)) = ((2 * n : Nat) : Int) := by rw [wr_i64 (by omega)]; omega
    have c0 : decide (((2 * n : Nat) : Int) ≤ (len : Int)) = false := decide_eq_false (by omega)
    rw [l_succ]
    refine ⟨_, n, by
      simp (config := {maxSteps := 2000000}) (disch := first | omega | (simp only [List.length_cons, List.length_nil, List.length_append, List.length_drop]; omega)) only [L_purserlaw08_MerkleHalves_0, t0, t4, w, c0, ↓s_len, x_lenS, ↓b_xor32, ↓b_and32, ↓b_or32, ↓u_not32, b_xor32, b_and32, b_or32, u_not32, w32ad, ↓x_conv, x_convV, ↓x_fieldAddr, x_fieldV, ↓s_nilchk, x_nilchk, Nat.zero_add, Nat.add_zero, Nat.mul_one, ↓l_loop, ↓l_succ, ↓l_normal, l_normal, l_exit, l_ret, l_iteN, ↓h_put_get, ↓h_new_get, ↓h_del_get, h_next_put, h_next_new, h_next_del, Nat.add_assoc, Nat.add_eq_left, Nat.left_eq_add, Nat.add_left_cancel_iff, ↓s_load, m_load, ↓m_load1, m_load1, ↓m_st, m_stE, m_storeI, m_storeE, w_zero, w_succ, ↓s_alloc, ↓x_idxA, ↓x_idxS, x_idxAE, x_idxSE, x_addrE, x_idx, x_lenS, ↓s_len, ↓x_buildS, x_buildE, ↓x_P0, ↓x_P1, x_fill0, x_filli, x_fills, x_fillb, c_int, List.length_cons, List.length_nil, List.cons_append, List.drop_succ_cons, List.drop_zero, List.drop_nil, List.nil_append, Int.reduceAdd, Int.reduceToNat, Int.reduceLT, Int.reduceLE, Nat.reduceAdd, Nat.reduceMul, Nat.reduceLeDiff, Int.reduceEq, Int.reduceSub, Int.cast_ofNat_Int, s_resc, s_consR, m_load4, m_store4, s_res0, ↓s_skip, ↓s_ops, ↓s_dops, ↓s_seq, ↓s_cond, ↓s_block, ↓s_exit, ↓s_ret, ↓s_scope, ↓s_nil, ↓s_op, ↓s_opg, ↓s_wanted', ↓s_wantV, s_wantV, s_wantV0, beq_true, beq_false, ↓s_bindS, s_bindS, ↓s_bindE, s_bindE, s_bindE_ret, s_bindE_exit, s_bindE_iteN, s_norm, ↓s_condV, s_condV, s_block_ret, s_block_normal, s_block_exit, s_block_iteN, ↓s_getp, ↓s_getp0, ↓s_get, s_get0, ↓s_con, ↓s_fn, ↓s_os0, ↓s_os1, ↓s_list0, ↓s_list1, ↓s_mov, ↓s_pick, ↓s_pickE, s_pickE, ↓s_bin, ↓s_un, ↓s_minmax, ↓s_call, ↓s_callv, ↓s_callV, ↓s_ext, s_same, b_eql, b_neq, b_lss, b_leq, b_gtr, b_geq, b_add, b_sub, b_mul, b_eqlb, b_neqb, b_fnil, b_fnil', b_fnil2, b_fnil2', u_neg, u_not, m_two, s_end, s_end', s_end_iteN, s_res0, s_res1, s_tup1, s_tup2, ↓iteN_true, ↓iteN_false, iteN_true, iteN_false, Nat.zero_add, List.nil_append, List.append_nil, Nat.reduceEqDiff, reduceIte, decide_true, decide_false, Bool.not_true, Bool.not_false, List.getElem?_cons_zero, List.getElem?_cons_succ, Bool.false_eq_true, if_true, if_false, beq_self_eq_true]
      exact rfl, by omega, h2, h3, (by (simp only [s_getp, s_getp0, Nat.reduceEqDiff, decide_false, decide_true, iteN_false, iteN_true, t0]; try rfl)), (by (simp only [s_getp, s_getp0, Nat.reduceEqDiff, decide_false, decide_true, iteN_false, iteN_true, t3]; try rfl)), (by (simp only [s_getp, s_getp0, Nat.reduceEqDiff, decide_false, decide_true, iteN_false, iteN_true, t4]; try rfl))⟩
  | succ k ih =>
    intro n h1 h2 h3 g hg T t0 t3 t4
    obtain ⟨g, rfl⟩ : ∃ j, g = j + 1 := ⟨g - 1, by omega⟩
    have w : wr .i64 (2 * (n : Int)) = ((2 * n : Nat) : Int) := by rw [wr_i64 (by omega)]; omega
    rw [l_succ]
    by_cases hc : 2 * n ≤ len
    · have c0 : decide (((2 * n : Nat) : Int) ≤ (len : Int)) = true := decide_eq_true (by omega)
      obtain ⟨j, ej⟩ := h3
      have pw : len < 2 * n * 2 ^ k := by rw [Nat.pow_succ] at h1; rw [Nat.mul_comm 2 n, Nat.mul_assoc, Nat.mul_comm 2]; exact h1
      have nx := fun T => ih (2 * n) pw (.inl hc) ⟨j + 1, by rw [ej, Nat.pow_succ 2 (j + 1), Nat.mul_comm]⟩ g (by omega) T
      have go : ∃ T1, evC Q 76 m none L_purserlaw08_MerkleHalves_0 ⟨T, [], h⟩ = some (.normal, ⟨T1, [], h⟩) ∧ evO T1 (.t 0) = .slice a len none 32 ∧ evO T1 (.t 3) = .bool true ∧ evO T1 (.t 4) = .int .i64 ((2 * n : Nat) : Int) := by
        refine ⟨_, by
          simp (config := {maxSteps := 2000000}) (disch := first | omega | (simp only [List.length_cons, List.length_nil, List.length_append, List.length_drop]; omega)) only [L_purserlaw08_MerkleHalves_0, t0, t4, w, c0, ↓s_len, x_lenS, ↓b_xor32, ↓b_and32, ↓b_or32, ↓u_not32, b_xor32, b_and32, b_or32, u_not32, w32ad, ↓x_conv, x_convV, ↓x_fieldAddr, x_fieldV, ↓s_nilchk, x_nilchk, Nat.zero_add, Nat.add_zero, Nat.mul_one, ↓l_loop, ↓l_succ, ↓l_normal, l_normal, l_exit, l_ret, l_iteN, ↓h_put_get, ↓h_new_get, ↓h_del_get, h_next_put, h_next_new, h_next_del, Nat.add_assoc, Nat.add_eq_left, Nat.left_eq_add, Nat.add_left_cancel_iff, ↓s_load, m_load, ↓m_load1, m_load1, ↓m_st, m_stE, m_storeI, m_storeE, w_zero, w_succ, ↓s_alloc, ↓x_idxA, ↓x_idxS, x_idxAE, x_idxSE, x_addrE, x_idx, x_lenS, ↓s_len, ↓x_buildS, x_buildE, ↓x_P0, ↓x_P1, x_fill0, x_filli, x_fills, x_fillb, c_int, List.length_cons, List.length_nil, List.cons_append, List.drop_succ_cons, List.drop_zero, List.drop_nil, List.nil_append, Int.reduceAdd, Int.reduceToNat, Int.reduceLT, Int.reduceLE, Nat.reduceAdd, Nat.reduceMul, Nat.reduceLeDiff, Int.reduceEq, Int.reduceSub, Int.cast_ofNat_Int, s_resc, s_consR, m_load4, m_store4, s_res0, ↓s_skip, ↓s_ops, ↓s_dops, ↓s_seq, ↓s_cond, ↓s_block, ↓s_exit, ↓s_ret, ↓s_scope, ↓s_nil, ↓s_op, ↓s_opg, ↓s_wanted', ↓s_wantV, s_wantV, s_wantV0, beq_true, beq_false, ↓s_bindS, s_bindS, ↓s_bindE, s_bindE, s_bindE_ret, s_bindE_exit, s_bindE_iteN, s_norm, ↓s_condV, s_condV, s_block_ret, s_block_normal, s_block_exit, s_block_iteN, ↓s_getp, ↓s_getp0, ↓s_get, s_get0, ↓s_con, ↓s_fn, ↓s_os0, ↓s_os1, ↓s_list0, ↓s_list1, ↓s_mov, ↓s_pick, ↓s_pickE, s_pickE, ↓s_bin, ↓s_un, ↓s_minmax, ↓s_call, ↓s_callv, ↓s_callV, ↓s_ext, s_same, b_eql, b_neq, b_lss, b_leq, b_gtr, b_geq, b_add, b_sub, b_mul, b_eqlb, b_neqb, b_fnil, b_fnil', b_fnil2, b_fnil2', u_neg, u_not, m_two, s_end, s_end', s_end_iteN, s_res0, s_res1, s_tup1, s_tup2, ↓iteN_true, ↓iteN_false, iteN_true, iteN_false, Nat.zero_add, List.nil_append, List.append_nil, Nat.reduceEqDiff, reduceIte, decide_true, decide_false, Bool.not_true, Bool.not_false, List.getElem?_cons_zero, List.getElem?_cons_succ, Bool.false_eq_true, if_true, if_false, beq_self_eq_true]
          exact rfl, (by (simp only [s_getp, s_getp0, Nat.reduceEqDiff, decide_false, decide_true, iteN_false, iteN_true, t0]; try rfl)), (by (simp only [s_getp, s_getp0, Nat.reduceEqDiff, decide_false, decide_true, iteN_false, iteN_true, t3]; try rfl)), (by (simp only [s_getp, s_getp0, Nat.reduceEqDiff, decide_false, decide_true, iteN_false, iteN_true, t4]; try rfl))⟩
      obtain ⟨T1, r, u0, u3, u4⟩ := go
      rw [r, l_normal]
      exact nx T1 u0 u3 u4
    · have c0 : decide (((2 * n : Nat) : Int) ≤ (len : Int)) = false := decide_eq_false (by omega)
      refine ⟨_, n, by
        simp (config := {maxSteps := 2000000}) (disch := first | omega | (simp only [List.length_cons, List.length_nil, List.length_append, List.length_drop]; omega)) only [L_purserlaw08_MerkleHalves_0, t0, t4, w, c0, ↓s_len, x_lenS, ↓b_xor32, ↓b_and32, ↓b_or32, ↓u_not32, b_xor32, b_and32, b_or32, u_not32, w32ad, ↓x_conv, x_convV, ↓x_fieldAddr, x_fieldV, ↓s_nilchk, x_nilchk, Nat.zero_add, Nat.add_zero, Nat.mul_one, ↓l_loop, ↓l_succ, ↓l_normal, l_normal, l_exit, l_ret, l_iteN, ↓h_put_get, ↓h_new_get, ↓h_del_get, h_next_put, h_next_new, h_next_del, Nat.add_assoc, Nat.add_eq_left, Nat.left_eq_add, Nat.add_left_cancel_iff, ↓s_load, m_load, ↓m_load1, m_load1, ↓m_st, m_stE, m_storeI, m_storeE, w_zero, w_succ, ↓s_alloc, ↓x_idxA, ↓x_idxS, x_idxAE, x_idxSE, x_addrE, x_idx, x_lenS, ↓s_len, ↓x_buildS, x_buildE, ↓x_P0, ↓x_P1, x_fill0, x_filli, x_fills, x_fillb, c_int, List.length_cons, List.length_nil, List.cons_append, List.drop_succ_cons, List.drop_zero, List.drop_nil, List.nil_append, Int.reduceAdd, Int.reduceToNat, Int.reduceLT, Int.reduceLE, Nat.reduceAdd, Nat.reduceMul, Nat.reduceLeDiff, Int.reduceEq, Int.reduceSub, Int.cast_ofNat_Int, s_resc, s_consR, m_load4, m_store4, s_res0, ↓s_skip, ↓s_ops, ↓s_dops, ↓s_seq, ↓s_cond, ↓s_block, ↓s_exit, ↓s_ret, ↓s_scope, ↓s_nil, ↓s_op, ↓s_opg, ↓s_wanted', ↓s_wantV, s_wantV, s_wantV0, beq_true, beq_false, ↓s_bindS, s_bindS, ↓s_bindE, s_bindE, s_bindE_ret, s_bindE_exit, s_bindE_iteN, s_norm, ↓s_condV, s_condV, s_block_ret, s_block_normal, s_block_exit, s_block_iteN, ↓s_getp, ↓s_getp0, ↓s_get, s_get0, ↓s_con, ↓s_fn, ↓s_os0, ↓s_os1, ↓s_list0, ↓s_list1, ↓s_mov, ↓s_pick, ↓s_pickE, s_pickE, ↓s_bin, ↓s_un, ↓s_minmax, ↓s_call, ↓s_callv, ↓s_callV, ↓s_ext, s_same, b_eql, b_neq, b_lss, b_leq, b_gtr, b_geq, b_add, b_sub, b_mul, b_eqlb, b_neqb, b_fnil, b_fnil', b_fnil2, b_fnil2', u_neg, u_not, m_two, s_end, s_end', s_end_iteN, s_res0, s_res1, s_tup1, s_tup2, ↓iteN_true, ↓iteN_false, iteN_true, iteN_false, Nat.zero_add, List.nil_append, List.append_nil, Nat.reduceEqDiff, reduceIte, decide_true, decide_false, Bool.not_true, Bool.not_false, List.getElem?_cons_zero, List.getElem?_cons_succ, Bool.false_eq_true, if_true, if_false, beq_self_eq_true]
        exact rfl, by omega, h2, h3, (by (simp only [s_getp, s_getp0, Nat.reduceEqDiff, decide_false, decide_true, iteN_false, iteN_true, t0]; try rfl)), (by (simp only [s_getp, s_getp0, Nat.reduceEqDiff, decide_false, decide_true, iteN_false, iteN_true, t3]; try rfl)), (by (simp only [s_getp, s_getp0, Nat.reduceEqDiff, decide_false, decide_true, iteN_false, iteN_true, t4]; try rfl))⟩
structure Cel (g g' : H) (R : List Nat) : Prop where
  eq : (g.new (.cells (ofI .u8 (List.replicate 32 0)) .rw)).put g.next (.cells (ofI .u8 R) .rw) = g'
  kp : Kp g g'
  nx : g'.next = g.next + 1
  gt : g'.get g.next = some (.cells (ofI .u8 R) .rw)
theorem cel (g : H) (R : List Nat) : ∃ g', Cel g g' R := ⟨_, rfl, ⟨by show g.next ≤ g.next + 1; omega, fun j hj => by rw [h_put_ne _ _ (by omega), h_new_ne _ _ (by omega)]⟩, rfl, h_put_same _ _ _⟩
theorem rootH (e : EnRt E) (hx : HasTw E (stX k_purserlaw08_alive)) (M : Nat) (hM : 1000 < M) (l : List (List Nat)) (hl : 0 < l.length) (hl2 : l.length ≤ 1000) (h : H) (q off n : Nat) (hn : l.length = n) (vs : List V) (md : Md) (hq : q < h.next) (gq : h.get q = some (.cells vs md)) (rb : RowB 32 (vs.drop off) l) :
    ∃ h', callX E (stX k_purserlaw08_alive) (M + 11) (.fn k_merkle_Root) [.slice (some (q, off)) n none 32] h = some (.tup [.agg (ofI .u8 (rtL l)), .int .i64 0], h') ∧ Kp h h' := by
  subst hn
  exact root_go e noRt_st hx M hM l hl hl2 h q off none vs md (fun _ h => by cases h) hq gq rb
theorem rtL_len : ∀ (n : Nat) (l : List (List Nat)), l.length ≤ n → 0 < l.length → (∀ o ∈ l, o.length = 32) → (rtL l).length = 32 := by
  intro n
  induction n with
  | zero => intro l h1 h2; omega
  | succ n ih =>
    intro l h1 h2 h3
    by_cases h : l.length = 1
    · obtain ⟨x, rfl⟩ := List.length_eq_one_iff.1 h
      rw [rtL_1]; exact h3 x (by simp)
    · rw [rtL_up l (by omega)]
      exact ih _ (by rw [up_len]; omega) (by rw [up_len]; omega) (up_all l)
theorem aggI_beq (k : IntKind) (l : List Nat) : V.beq (.agg (ofI k l)) (.agg (ofI k l)) = true := by
  show V.beqs (ofI k l) (ofI k l) = true
  induction l with
  | nil => rfl
  | cons a r ih =>
    show (V.beq (.int k (a : Int)) (.int k (a : Int)) && V.beqs (ofI k r) (ofI k r)) = true
    rw [vbeq_int, ih]; rfl
theorem law_MerkleHalves (e : EnRt E) (et : EnTwo E) (el : E k_purserlaw08_MerkleHalves = some f_purserlaw08_MerkleHalves) (M : Nat) (hM : 1000 < M) (l : List (List Nat)) (ok : ∀ o ∈ l, o.length = 32 ∧ byt o = true) (hl : l.length < 4611686018427387904) (a : Option (Nat × Nat)) (h : H) (S : HsR 32 h a 32 l) :
    ∃ h2, callX E (stX k_purserlaw08_alive) (M + 20) (.fn k_purserlaw08_MerkleHalves) [.slice a l.length none 32] h = some (.bool true, h2) := by
  rw [x_cfn el _ _ (Nat.le_of_ble_eq_true rfl) rfl]
  have al : ∀ h, callX E (stX k_purserlaw08_alive) (M + 19) (.fn k_purserlaw08_alive) [] h = some (.bool true, h) := fun h => x_known rfl
  have hx := hasTw_st (E := E) k_purserlaw08_alive
  obtain ⟨len, elen⟩ : ∃ n, l.length = n := ⟨_, rfl⟩
  rw [elen] at hl
  have nt : (!true) = false := rfl
  have fin : ∀ T, evO T (.t 0) = .slice a len none 32 → evO T (.t 3) = .bool true → evO T (.t 4) = .int .i64 ((2 : Nat) : Int) → ∃ h2, fnEnd [.tmp 2] (bindE (blockE 0 (loopN (evC (callX E (stX k_purserlaw08_alive) (M + 19)) 76 (M + 19) none L_purserlaw08_MerkleHalves_0) (M + 19) ⟨T, [], h⟩)) (evC (callX E (stX k_purserlaw08_alive) (M + 19)) 76 (M + 19) none R_purserlaw08_MerkleHalves_0)) = some (.bool true, h2) := by
    intro T t0 t3 t4
    obtain ⟨T1, n, r, hn, hn2, ⟨j, ej⟩, u0, u3, u4⟩ := hv_loop (callX E (stX k_purserlaw08_alive) (M + 19)) (M + 19) a len hl h 62 2 (by omega) (.inr rfl) ⟨0, rfl⟩ (M + 19) (by omega) T t0 t3 t4
    rw [r]
    by_cases s1 : len < 2
    · have d1 : decide ((len : Int) < 2) = true := decide_eq_true (by omega)
      exact ⟨h, by
        simp (config := {maxSteps := 2000000}) (disch := first | omega | (simp only [List.length_cons, List.length_nil, List.length_append, List.length_drop]; omega)) only [R_purserlaw08_MerkleHalves_0, u0, u3, u4, d1, ↓s_len, x_lenS, ↓b_xor32, ↓b_and32, ↓b_or32, ↓u_not32, b_xor32, b_and32, b_or32, u_not32, w32ad, ↓x_conv, x_convV, ↓x_fieldAddr, x_fieldV, ↓s_nilchk, x_nilchk, Nat.zero_add, Nat.add_zero, Nat.mul_one, ↓l_loop, ↓l_succ, ↓l_normal, l_normal, l_exit, l_ret, l_iteN, ↓h_put_get, ↓h_new_get, ↓h_del_get, h_next_put, h_next_new, h_next_del, Nat.add_assoc, Nat.add_eq_left, Nat.left_eq_add, Nat.add_left_cancel_iff, ↓s_load, m_load, ↓m_load1, m_load1, ↓m_st, m_stE, m_storeI, m_storeE, w_zero, w_succ, ↓s_alloc, ↓x_idxA, ↓x_idxS, x_idxAE, x_idxSE, x_addrE, x_idx, x_lenS, ↓s_len, ↓x_buildS, x_buildE, ↓x_P0, ↓x_P1, x_fill0, x_filli, x_fills, x_fillb, c_int, List.length_cons, List.length_nil, List.cons_append, List.drop_succ_cons, List.drop_zero, List.drop_nil, List.nil_append, Int.reduceAdd, Int.reduceToNat, Int.reduceLT, Int.reduceLE, Nat.reduceAdd, Nat.reduceMul, Nat.reduceLeDiff, Int.reduceEq, Int.reduceSub, Int.cast_ofNat_Int, s_resc, s_consR, m_load4, m_store4, s_res0, ↓s_skip, ↓s_ops, ↓s_dops, ↓s_seq, ↓s_cond, ↓s_block, ↓s_exit, ↓s_ret, ↓s_scope, ↓s_nil, ↓s_op, ↓s_opg, ↓s_wanted', ↓s_wantV, s_wantV, s_wantV0, beq_true, beq_false, ↓s_bindS, s_bindS, ↓s_bindE, s_bindE, s_bindE_ret, s_bindE_exit, s_bindE_iteN, s_norm, ↓s_condV, s_condV, s_block_ret, s_block_normal, s_block_exit, s_block_iteN, ↓s_getp, ↓s_getp0, ↓s_get, s_get0, ↓s_con, ↓s_fn, ↓s_os0, ↓s_os1, ↓s_list0, ↓s_list1, ↓s_mov, ↓s_pick, ↓s_pickE, s_pickE, ↓s_bin, ↓s_un, ↓s_minmax, ↓s_call, ↓s_callv, ↓s_callV, ↓s_ext, s_same, b_eql, b_neq, b_lss, b_leq, b_gtr, b_geq, b_add, b_sub, b_mul, b_eqlb, b_neqb, b_fnil, b_fnil', b_fnil2, b_fnil2', u_neg, u_not, m_two, s_end, s_end', s_end_iteN, s_res0, s_res1, s_tup1, s_tup2, ↓iteN_true, ↓iteN_false, iteN_true, iteN_false, Nat.zero_add, List.nil_append, List.append_nil, Nat.reduceEqDiff, reduceIte, decide_true, decide_false, Bool.not_true, Bool.not_false, List.getElem?_cons_zero, List.getElem?_cons_succ, Bool.false_eq_true, if_true, if_false, beq_self_eq_true]⟩
    have d1 : decide ((len : Int) < 2) = false := decide_eq_false (by omega)
    by_cases s2 : 64 < len
    · have d2 : decide ((64 : Int) < (len : Int)) = true := decide_eq_true (by omega)
      exact ⟨h, by
        simp (config := {maxSteps := 2000000}) (disch := first | omega | (simp only [List.length_cons, List.length_nil, List.length_append, List.length_drop]; omega)) only [R_purserlaw08_MerkleHalves_0, u0, u3, u4, d1, d2, ↓s_len, x_lenS, ↓b_xor32, ↓b_and32, ↓b_or32, ↓u_not32, b_xor32, b_and32, b_or32, u_not32, w32ad, ↓x_conv, x_convV, ↓x_fieldAddr, x_fieldV, ↓s_nilchk, x_nilchk, Nat.zero_add, Nat.add_zero, Nat.mul_one, ↓l_loop, ↓l_succ, ↓l_normal, l_normal, l_exit, l_ret, l_iteN, ↓h_put_get, ↓h_new_get, ↓h_del_get, h_next_put, h_next_new, h_next_del, Nat.add_assoc, Nat.add_eq_left, Nat.left_eq_add, Nat.add_left_cancel_iff, ↓s_load, m_load, ↓m_load1, m_load1, ↓m_st, m_stE, m_storeI, m_storeE, w_zero, w_succ, ↓s_alloc, ↓x_idxA, ↓x_idxS, x_idxAE, x_idxSE, x_addrE, x_idx, x_lenS, ↓s_len, ↓x_buildS, x_buildE, ↓x_P0, ↓x_P1, x_fill0, x_filli, x_fills, x_fillb, c_int, List.length_cons, List.length_nil, List.cons_append, List.drop_succ_cons, List.drop_zero, List.drop_nil, List.nil_append, Int.reduceAdd, Int.reduceToNat, Int.reduceLT, Int.reduceLE, Nat.reduceAdd, Nat.reduceMul, Nat.reduceLeDiff, Int.reduceEq, Int.reduceSub, Int.cast_ofNat_Int, s_resc, s_consR, m_load4, m_store4, s_res0, ↓s_skip, ↓s_ops, ↓s_dops, ↓s_seq, ↓s_cond, ↓s_block, ↓s_exit, ↓s_ret, ↓s_scope, ↓s_nil, ↓s_op, ↓s_opg, ↓s_wanted', ↓s_wantV, s_wantV, s_wantV0, beq_true, beq_false, ↓s_bindS, s_bindS, ↓s_bindE, s_bindE, s_bindE_ret, s_bindE_exit, s_bindE_iteN, s_norm, ↓s_condV, s_condV, s_block_ret, s_block_normal, s_block_exit, s_block_iteN, ↓s_getp, ↓s_getp0, ↓s_get, s_get0, ↓s_con, ↓s_fn, ↓s_os0, ↓s_os1, ↓s_list0, ↓s_list1, ↓s_mov, ↓s_pick, ↓s_pickE, s_pickE, ↓s_bin, ↓s_un, ↓s_minmax, ↓s_call, ↓s_callv, ↓s_callV, ↓s_ext, s_same, b_eql, b_neq, b_lss, b_leq, b_gtr, b_geq, b_add, b_sub, b_mul, b_eqlb, b_neqb, b_fnil, b_fnil', b_fnil2, b_fnil2', u_neg, u_not, m_two, s_end, s_end', s_end_iteN, s_res0, s_res1, s_tup1, s_tup2, ↓iteN_true, ↓iteN_false, iteN_true, iteN_false, Nat.zero_add, List.nil_append, List.append_nil, Nat.reduceEqDiff, reduceIte, decide_true, decide_false, Bool.not_true, Bool.not_false, List.getElem?_cons_zero, List.getElem?_cons_succ, Bool.false_eq_true, if_true, if_false, beq_self_eq_true]⟩
    have d2 : decide ((64 : Int) < (len : Int)) = false := decide_eq_false (by omega)
    have hn3 : n ≤ len := by omega
    have p0 : 0 < 2 ^ j := Nat.two_pow_pos j
    have e2 : n = 2 * 2 ^ j := by rw [ej, Nat.pow_succ, Nat.mul_comm]
    obtain ⟨m, em⟩ : ∃ m, n / 2 = m := ⟨_, rfl⟩
    have hm : m = 2 ^ j := by omega
    rcases S with S | ⟨q, off, vs, md, rfl, _, hq, gq, rb⟩
    · rw [S, List.length_nil] at elen; omega
    have qu := quo2 n (by omega)
    rw [em] at qu
    have sl1 := slc32h len n q off hn3
    have sl2 := slc32h len m q off (by omega)
    have sl3 := slc32lh len m n q off (by omega) hn3
    have lA : ((l.take n).take m).length = m := by rw [List.length_take, List.length_take]; omega
    have lB : ((l.take n).drop m).length = m := by rw [List.length_drop, List.length_take]; omega
    rw [show n - m = m by omega] at sl3
    have spl : l.take n = (l.take n).take m ++ (l.take n).drop m := (List.take_append_drop ..).symm
    have rA : (l.take n).take m = l.take m := by rw [List.take_take, Nat.min_eq_left (by omega)]
    have okt : ∀ o ∈ l.take n, o.length = 32 := fun o ho => (ok o (List.mem_of_mem_take ho)).1
    have rtn : rtL (l.take n) = tw (rtL (l.take m) ++ rtL ((l.take n).drop m)) := by
      conv => lhs; rw [spl]
      rw [rt_half j _ _ (by omega) (by omega), rA]
    have lrA : (rtL (l.take m)).length = 32 := rtL_len m _ (by rw [← rA]; omega) (by rw [← rA]; omega) (fun o ho => (ok o (List.mem_of_mem_take ho)).1)
    have lrB : (rtL ((l.take n).drop m)).length = 32 := rtL_len m _ (by omega) (by omega) (fun o ho => okt o (List.mem_of_mem_drop ho))
    obtain ⟨h1, r1, k1⟩ := rootH e hx (M + 8) (by omega) (l.take n) (by rw [List.length_take]; omega) (by rw [List.length_take]; omega) h q off n (by rw [List.length_take]; omega) vs md hq gq (rb.take n)
    obtain ⟨g1, c1⟩ := cel h1 (rtL (l.take n))
    have K1 := k1.trans c1.kp
    obtain ⟨h2, r2, k2⟩ := rootH e hx (M + 8) (by omega) (l.take m) (by rw [← rA]; omega) (by rw [← rA]; omega) g1 q off m (by rw [← rA]; omega) vs md (by have := K1.1; omega) (by rw [K1.2 _ hq, gq]) (rb.take m)
    obtain ⟨g2, c2⟩ := cel h2 (rtL (l.take m))
    have K2 := k2.trans c2.kp
    obtain ⟨h3, r3, k3⟩ := rootH e hx (M + 8) (by omega) ((l.take n).drop m) (by omega) (by omega) g2 q (off + m * 32) m lB vs md (by have := (K1.trans K2).1; omega) (by rw [(K1.trans K2).2 _ hq, gq]) ((rb.take n).dropL m (by rw [List.length_take]; omega))
    obtain ⟨g3, c3⟩ := cel h3 (rtL ((l.take n).drop m))
    have K3 := k3.trans c3.kp
    replace r1 : callX E (stX k_purserlaw08_alive) (M + 19) (.fn k_merkle_Root) _ h = _ := r1
    replace r2 : callX E (stX k_purserlaw08_alive) (M + 19) (.fn k_merkle_Root) _ g1 = _ := r2
    replace r3 : callX E (stX k_purserlaw08_alive) (M + 19) (.fn k_merkle_Root) _ g2 = _ := r3
    obtain ⟨h4, r4, k4⟩ := two_go et (X := stX k_purserlaw08_alive) (fun _ _ => rfl) hx (M + 17) (rtL (l.take m)) (rtL ((l.take n).drop m)) lrA lrB g3
    replace r4 : callX E (stX k_purserlaw08_alive) (M + 19) (.fn k_purserlaw08_two) _ g3 = _ := r4
    rw [← rtn] at r4
    have x1 := c1.nx
    have x2 := c2.nx
    have x3 := c3.nx
    have y2 := k2.1
    have y3 := k3.1
    have ga : g3.get h1.next = some (.cells (ofI .u8 (rtL (l.take n))) .rw) := by rw [K3.2 _ (by omega), K2.2 _ (by omega), c1.gt]
    have gb : g3.get h2.next = some (.cells (ofI .u8 (rtL (l.take m))) .rw) := by rw [K3.2 _ (by omega), c2.gt]
    have gc := c3.gt
    have ga4 : h4.get h1.next = some (.cells (ofI .u8 (rtL (l.take n))) .rw) := by rw [k4.2 _ (by omega), ga]
    have bq := aggI_beq .u8 (rtL (l.take n))
    have lrN : (rtL (l.take n)).length = 32 := by rw [rtn, tw_len]
    have eqs := fun h => eq32 h (rtL (l.take n)) (rtL (l.take n)) lrN lrN
    have dt : decide (rtL (l.take n) = rtL (l.take n)) = true := decide_eq_true rfl
    rw [dt] at eqs
    have z0 : decide ((0 : Int) = 0) = true := rfl
    obtain ⟨Z, eZ⟩ : ∃ Z, ofI .u8 (List.replicate 32 0) = Z := ⟨_, rfl⟩
    have puG : ∀ (l : List Nat) (_ : l.length = 32) h i, storeE (some (.cells Z .rw)) h i 0 (ofI .u8 l) = some (h.put i (.cells (ofI .u8 l) .rw)) := fun l hl h i => by
      rw [m_storeE _ _ _ _ _ (by rw [← eZ, ofI_len, ofI_len, hl, List.length_replicate]; omega), ← eZ, wrAll _ _ _ (by rw [List.length_replicate, hl])]
    have stG : ∀ (l : List Nat) (_ : l.length = 32) h i, storeV h 32 (.ptr (some (i, 0))) (.agg (ofI .u8 l)) = storeE (h.get i) h i 0 (ofI .u8 l) := fun l hl h i => st32 h i 0 _ hl
    have ldG : ∀ (l : List Nat) (_ : l.length = 32) m, loadE (some (.cells (ofI .u8 l) m)) (some 32) 0 = some (.agg (ofI .u8 l)) := fun l hl m => by rw [m_loadN, x_readAll _ 32 (by rw [ofI_len, hl])]
    have st1 := stG _ lrN
    have st2 := stG _ lrA
    have st3 := stG _ lrB
    have pu1 := puG _ lrN
    have pu2 := puG _ lrA
    have pu3 := puG _ lrB
    have ld1 := ldG _ lrN
    have ld2 := ldG _ lrA
    have ld3 := ldG _ lrB
    have al32 : ∀ (Q : Orc) (T : Tr V) (h : H), Eng.step (.alloc [.int .u8 0, .int .u8 0, .int .u8 0, .int .u8 0, .int .u8 0, .int .u8 0, .int .u8 0, .int .u8 0, .int .u8 0, .int .u8 0, .int .u8 0, .int .u8 0, .int .u8 0, .int .u8 0, .int .u8 0, .int .u8 0, .int .u8 0, .int .u8 0, .int .u8 0, .int .u8 0, .int .u8 0, .int .u8 0, .int .u8 0, .int .u8 0, .int .u8 0, .int .u8 0, .int .u8 0, .int .u8 0, .int .u8 0, .int .u8 0, .int .u8 0, .int .u8 0]) Q T h = some (.ptr (some (h.next, 0)), h.new (.cells Z .rw)) := fun Q T h => by rw [← eZ]; rfl
    have q1 := c1.eq
    have q2 := c2.eq
    have q3 := c3.eq
    rw [eZ] at q1 q2 q3
    clear puG stG ldG
    refine ⟨h4, ?_⟩
    generalize ofI .u8 (rtL (l.take n)) = R1 at *
    generalize ofI .u8 (rtL (l.take m)) = R2 at *
    generalize ofI .u8 (rtL ((l.take n).drop m)) = R3 at *
    simp (config := {maxSteps := 2000000}) (disch := first | omega | (simp only [List.length_cons, List.length_nil, List.length_append, List.length_drop]; omega)) only [R_purserlaw08_MerkleHalves_0, u0, u3, u4, d1, d2, qu, sl1, sl2, sl3, r1, r2, r3, r4, ↓al32, st1, st2, st3, pu1, pu2, pu3, ld1, ld2, ld3, q1, q2, q3, ga, ga4, bq, gb, gc, eqs, z0, nt, ↓x_slcS, x_M1, x_M0, ↓s_len, x_lenS, ↓b_xor32, ↓b_and32, ↓b_or32, ↓u_not32, b_xor32, b_and32, b_or32, u_not32, w32ad, ↓x_conv, x_convV, ↓x_fieldAddr, x_fieldV, ↓s_nilchk, x_nilchk, Nat.zero_add, Nat.add_zero, Nat.mul_one, ↓s_evD, ↓s_dnil, ↓s_dL, ↓s_dLg, ↓s_dR, ↓s_dRg, ↓s_dRj, ↓s_dRjg, ↓s_dB, ↓s_dBg, ↓s_dAlloc, ↓s_bindD, s_bindD, s_finD, s_finDx, s_addP0, s_addP1, s_addB, s_lookP, ↓s_bump0, ↓s_bump_get, s_bump_next, s_ok0, ↓s_ok1, s_okR0, ↓s_okR1, ↓s_okE, s_okE, s_okE1, s_nth0, s_nthS, Nat.add_zero, Bool.and_self, Bool.and_true, Bool.true_and, ↓l_loop, ↓l_succ, ↓l_normal, l_normal, l_exit, l_ret, l_iteN, ↓h_put_get, ↓h_new_get, ↓h_del_get, h_next_put, h_next_new, h_next_del, Nat.add_assoc, Nat.add_eq_left, Nat.left_eq_add, Nat.add_left_cancel_iff, ↓s_load, m_load, ↓m_load1, m_load1, ↓m_st, m_stE, m_storeI, m_storeE, w_zero, w_succ, ↓s_alloc, ↓x_idxA, ↓x_idxS, x_idxAE, x_idxSE, x_addrE, x_idx, x_lenS, ↓s_len, ↓x_buildS, x_buildE, ↓x_P0, ↓x_P1, x_fill0, x_filli, x_fills, x_fillb, c_int, List.length_cons, List.length_nil, List.cons_append, List.drop_succ_cons, List.drop_zero, List.drop_nil, List.nil_append, Int.reduceAdd, Int.reduceToNat, Int.reduceLT, Int.reduceLE, Nat.reduceAdd, Nat.reduceMul, Nat.reduceLeDiff, Int.reduceEq, Int.reduceSub, Int.cast_ofNat_Int, s_resc, s_consR, m_load4, m_store4, s_res0, ↓s_skip, ↓s_ops, ↓s_dops, ↓s_seq, ↓s_cond, ↓s_block, ↓s_exit, ↓s_ret, ↓s_scope, ↓s_nil, ↓s_op, ↓s_opg, ↓s_wanted', ↓s_wantV, s_wantV, s_wantV0, beq_true, beq_false, ↓s_bindS, s_bindS, ↓s_bindE, s_bindE, s_bindE_ret, s_bindE_exit, s_bindE_iteN, s_norm, ↓s_condV, s_condV, s_block_ret, s_block_normal, s_block_exit, s_block_iteN, ↓s_getp, ↓s_getp0, ↓s_get, s_get0, ↓s_con, ↓s_fn, ↓s_os0, ↓s_os1, ↓s_list0, ↓s_list1, ↓s_mov, ↓s_pick, ↓s_pickE, s_pickE, ↓s_bin, ↓s_un, ↓s_minmax, ↓s_call, ↓s_callv, ↓s_callV, ↓s_ext, s_same, b_eql, b_neq, b_lss, b_leq, b_gtr, b_geq, b_add, b_sub, b_mul, b_eqlb, b_neqb, b_fnil, b_fnil', b_fnil2, b_fnil2', u_neg, u_not, m_two, s_end, s_end', s_end_iteN, s_res0, s_res1, s_tup1, s_tup2, ↓iteN_true, ↓iteN_false, iteN_true, iteN_false, Nat.zero_add, List.nil_append, List.append_nil, Nat.reduceEqDiff, reduceIte, decide_true, decide_false, Bool.not_true, Bool.not_false, List.getElem?_cons_zero, List.getElem?_cons_succ, Bool.false_eq_true, if_true, if_false, beq_self_eq_true]
  obtain ⟨R, eR⟩ : ∃ R, R_purserlaw08_MerkleHalves_0 = R := ⟨_, rfl⟩
  obtain ⟨Lo, eL⟩ : ∃ R, L_purserlaw08_MerkleHalves_0 = R := ⟨_, rfl⟩
  rw [eR, eL] at fin
  rw [elen, eR, eL]
  simp (config := {maxSteps := 2000000}) (disch := first | omega | (simp only [List.length_cons, List.length_nil, List.length_append, List.length_drop]; omega)) only [al, ↓b_xor32, ↓b_and32, ↓b_or32, ↓u_not32, b_xor32, b_and32, b_or32, u_not32, w32ad, ↓x_conv, x_convV, ↓x_fieldAddr, x_fieldV, ↓s_nilchk, x_nilchk, Nat.zero_add, Nat.add_zero, Nat.mul_one, ↓l_loop, ↓l_succ, ↓l_normal, l_normal, l_exit, l_ret, l_iteN, ↓h_put_get, ↓h_new_get, ↓h_del_get, h_next_put, h_next_new, h_next_del, Nat.add_assoc, Nat.add_eq_left, Nat.left_eq_add, Nat.add_left_cancel_iff, ↓s_load, m_load, ↓m_load1, m_load1, ↓m_st, m_stE, m_storeI, m_storeE, w_zero, w_succ, ↓s_alloc, ↓x_idxA, ↓x_idxS, x_idxAE, x_idxSE, x_addrE, x_idx, x_lenS, ↓s_len, ↓x_buildS, x_buildE, ↓x_P0, ↓x_P1, x_fill0, x_filli, x_fills, x_fillb, c_int, List.length_cons, List.length_nil, List.cons_append, List.drop_succ_cons, List.drop_zero, List.drop_nil, List.nil_append, Int.reduceAdd, Int.reduceToNat, Int.reduceLT, Int.reduceLE, Nat.reduceAdd, Nat.reduceMul, Nat.reduceLeDiff, Int.reduceEq, Int.reduceSub, Int.cast_ofNat_Int, s_resc, s_consR, m_load4, m_store4, s_res0, ↓s_skip, ↓s_ops, ↓s_dops, ↓s_seq, ↓s_cond, ↓s_block, ↓s_exit, ↓s_ret, ↓s_scope, ↓s_nil, ↓s_op, ↓s_opg, ↓s_wanted', ↓s_wantV, s_wantV, s_wantV0, beq_true, beq_false, ↓s_bindS, s_bindS, ↓s_bindE, s_bindE, s_bindE_ret, s_bindE_exit, s_bindE_iteN, s_norm, ↓s_condV, s_condV, s_block_ret, s_block_normal, s_block_exit, s_block_iteN, ↓s_getp, ↓s_getp0, ↓s_get, s_get0, ↓s_con, ↓s_fn, ↓s_os0, ↓s_os1, ↓s_list0, ↓s_list1, ↓s_mov, ↓s_pick, ↓s_pickE, s_pickE, ↓s_bin, ↓s_un, ↓s_minmax, ↓s_call, ↓s_callv, ↓s_callV, ↓s_ext, s_same, b_eql, b_neq, b_lss, b_leq, b_gtr, b_geq, b_add, b_sub, b_mul, b_eqlb, b_neqb, b_fnil, b_fnil', b_fnil2, b_fnil2', u_neg, u_not, m_two, s_end, s_end', s_end_iteN, s_res0, s_res1, s_tup1, s_tup2, ↓iteN_true, ↓iteN_false, iteN_true, iteN_false, Nat.zero_add, List.nil_append, List.append_nil, Nat.reduceEqDiff, reduceIte, decide_true, decide_false, Bool.not_true, Bool.not_false, List.getElem?_cons_zero, List.getElem?_cons_succ, Bool.false_eq_true, if_true, if_false, beq_self_eq_true]
  exact fin _ (by (simp only [s_getp, s_getp0, Nat.reduceEqDiff, decide_false, decide_true, iteN_false, iteN_true, al]; try rfl)) (by (simp only [s_getp, s_getp0, Nat.reduceEqDiff, decide_false, decide_true, iteN_false, iteN_true, al]; try rfl)) (by (simp only [s_getp, s_getp0, Nat.reduceEqDiff, decide_false, decide_true, iteN_false, iteN_true, al]; try rfl))
end Go.Eng
